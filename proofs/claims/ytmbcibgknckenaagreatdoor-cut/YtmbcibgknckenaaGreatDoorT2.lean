import Derived.Test.YtmbcibgknckenaaGreatDoorT1
import Derived.MapKept
set_option linter.all false
set_option maxRecDepth 100000
set_option maxHeartbeats 4000000
namespace Go.Proofs.YtmbcibgknckenaaGreatDoor
open Go.RowKit
structure Ad where
 R:Nat
 S:Nat
 N:Nat
 P:Nat
 X:List Nat
def Ad.add (A:Ad) (b:Nat):Ad:={ A with X:=b :: A.X }
structure St where
 at':Nat
 nx:Option Mar.Word
 types:Nat
 consts:Nat
 names:List (List UInt8×Option DefL)
 progs:List (Int×Int)
structure Rd (A:Ad) (text:ByteArray) (σ:St) (w:World):Prop where
 me:w.heap[A.R]? = some (.cells #[.pointer (some ⟨A.S,0,none⟩),.map (some A.N),.int .i64 σ.types,.int .i64 σ.consts,.map (some A.P)] 107)
 sc:Sc A.S text σ.at' σ.nx w
 nm:Q1p A.X A.N σ.names w
 mine:A.R∈A.X∧A.S∈A.X∧A.N∈A.X∧A.P∈A.X
 old:∀ x∈A.X,x < w.heap.size
 pr:w.heap[A.P]? = some (Q8k σ.progs)
 np:A.N≠A.P
 gl:Gl w
 small:text.size≤4000000000
 few:σ.types≤1000000∧σ.consts≤1000000
theorem Sc.at {S:Nat} {text:ByteArray} {at':Nat} {nx:Option Mar.Word} {w:World} (h:Sc S text at' nx w):∃ k t n a hl,ScAt S text at' k t n a hl w:=by
 obtain ⟨_,h⟩:=h
 cases nx with
 | some x=>exact ⟨_,_,_,_,_,h⟩
 | none=>obtain ⟨k,t,n,a,h⟩:=h;exact ⟨k,t,n,a,_,h⟩
theorem Rd.apart {A:Ad} {text:ByteArray} {σ:St} {w:World} (h:Rd A text σ w):A.R≠A.S∧A.R≠A.N∧A.R≠A.P∧A.S≠A.N∧A.S≠A.P∧A.N≠A.P:=by
 obtain ⟨k,t,n,a,hl,hs⟩:=h.sc.at
 have hs':w.heap[A.S]? = _:=hs
 have hm:=h.me
 obtain ⟨es,c,hn⟩:=h.nm.heap
 have hp:=h.pr
 unfold Q8k at hp
 refine ⟨?_,?_,?_,?_,?_,h.np⟩
 ·intro e;rw [e,hs'] at hm;simp at hm
 ·intro e;rw [e,hn] at hm;cases hm
 ·intro e;rw [e,hp] at hm;cases hm
 ·intro e;rw [e,hn] at hs';cases hs'
 ·intro e;rw [e,hp] at hs';cases hs'
theorem Rd.lt {A:Ad} {text:ByteArray} {σ:St} {w:World} (h:Rd A text σ w):A.R < w.heap.size∧A.S < w.heap.size∧A.N < w.heap.size∧A.P < w.heap.size:=by
 obtain ⟨k,t,n,a,hl,hs⟩:=h.sc.at
 obtain ⟨es,c,hn⟩:=h.nm.heap
 exact ⟨Qc h.me,Qc hs,Qc hn,Qc h.pr⟩
theorem Rd.cells {A:Ad} {text:ByteArray} {σ:St} {w:World} (h:Rd A text σ w) :
  w.cell? ⟨A.R,0,none⟩=some (.pointer (some ⟨A.S,0,none⟩))∧w.cell? ⟨A.R,1,none⟩=some (.map (some A.N))∧w.cell? ⟨A.R,2,none⟩=some (.int .i64 σ.types) ∧
  w.cell? ⟨A.R,3,none⟩=some (.int .i64 σ.consts)∧w.cell? ⟨A.R,4,none⟩=some (.map (some A.P))∧∀ i,w.frozen? ⟨A.R,i,none⟩=false:=by
 have hm:=h.me
 refine ⟨?_,?_,?_,?_,?_,?_⟩<;>simp [World.cell?,World.frozen?,hm]
theorem Rd.below {A:Ad} {text:ByteArray} {σ:St} {w w':World} (h:Rd A text σ w) (hb:Below w.heap.size w w'):Rd A text σ w':=by
 obtain ⟨l1,l2,l3,l4⟩:=h.lt
 exact ⟨(hb.block _ l1).trans h.me,h.sc.below hb,h.nm.below hb,h.mine,fun x hx=>Nat.lt_of_lt_of_le (h.old x hx) hb.size,(hb.block _ l4).trans h.pr,h.np,h.gl.below hb,h.small,h.few⟩
theorem Rd.scanned {A:Ad} {text:ByteArray} {σ:St} {w w':World} (h:Rd A text σ w) (hk:Qb [A.S] w w') {p:Nat} {nx:Option Mar.Word} (hs:Sc A.S text p nx w') :
  Rd A text { σ with at':=p,nx:=nx } w':=by
 obtain ⟨l1,l2,l3,l4⟩:=h.lt
 obtain ⟨n1,n2,n3,n4,n5,n6⟩:=h.apart
 obtain ⟨k,t,n,a,hl,hs0⟩:=h.sc.at
 obtain ⟨f1,f2,f3⟩:=hs0.far h.gl
 exact ⟨(hk.block _ l1 (by simp [n1])).trans h.me,hs,h.nm.keeps hk (by simp;exact h.mine.2.1) (by simp;exact fun e=>n4 e.symm),h.mine,fun x hx=>Nat.lt_of_lt_of_le (h.old x hx) hk.size,(hk.block _ l4 (by simp;exact fun e=>n5 e.symm)).trans h.pr,h.np,
  h.gl.keeps hk (by simp [f1]) (by simp [f2]) (by simp [f3]),h.small,h.few⟩
theorem Rd.keeps {A:Ad} {text:ByteArray} {σ:St} {w w':World} {M:List Nat} (h:Rd A text σ w) (hk:Qb M w w') (hX:∀ m∈M,m∈A.X) (h1:A.R ∉ M) (h2:A.S ∉ M) (h3:A.N ∉ M) (h4:A.P ∉ M)
  (g1:2 ∉ M) (g2:3 ∉ M) (g3:4 ∉ M):Rd A text σ w':=by
 obtain ⟨l1,l2,l3,l4⟩:=h.lt
 refine ⟨(hk.block _ l1 h1).trans h.me,?_,h.nm.keeps hk hX h3,h.mine,fun x hx=>Nat.lt_of_lt_of_le (h.old x hx) hk.size,(hk.block _ l4 h4).trans h.pr,h.np,h.gl.keeps hk g1 g2 g3,h.small,h.few⟩
 obtain ⟨ha,hs⟩:=h.sc
 refine ⟨ha,?_⟩
 have hb:=hk.block _ l2 h2
 cases hn:σ.nx with
 | some x=>rw [hn] at hs;exact hb.trans hs
 | none=>rw [hn] at hs;obtain ⟨k,t,n,a,hs⟩:=hs;exact ⟨k,t,n,a,hb.trans hs⟩
theorem Rd.setNew {A A':Ad} {text:ByteArray} {σ0 σ:St} {w w1:World} (h0:Rd A text σ0 w) (hA:A'.R=A.R∧A'.S=A.S∧A'.N=A.N∧A'.P=A.P) (h:Rd A' text σ w1) {p:Addr} (hp:w.heap.size≤p.block) (hX:p.block∈A'.X) (v:Value):Rd A' text σ (w1.setCell p v):=by
 obtain ⟨l1,l2,l3,l4⟩:=h0.lt
 obtain ⟨⟨m,q1⟩,⟨_,_,q2⟩,⟨_,_,q3⟩⟩:=h0.gl
 have q1:=Q1g q1
 have q2:=Q1g q2
 have q3:=Q1g q3
 obtain ⟨a1,a2,a3,a4⟩:=hA
 refine h.keeps ((Qb.refl [p.block] w1).setIn (by simp) v) (by simpa using hX) ?_ ?_ ?_ ?_ ?_ ?_ ?_<;>simp<;>omega
theorem Rd.own {A:Ad} {text:ByteArray} {σ:St} {w:World} (h:Rd A text σ w) (o:Obj):Rd (A.add w.heap.size) text σ (w.alloc o):=by
 have hb:=h.below ((Below.refl w.heap.size w).alloc (Nat.le_refl _) o)
 refine ⟨hb.me,hb.sc,(h.nm.add (Nat.le_refl _)).below ((Below.refl w.heap.size w).alloc (Nat.le_refl _) o),?_,?_,hb.pr,hb.np,hb.gl,hb.small,hb.few⟩
 ·obtain ⟨m1,m2,m3,m4⟩:=h.mine
  exact ⟨List.mem_cons_of_mem _ m1,List.mem_cons_of_mem _ m2,List.mem_cons_of_mem _ m3,List.mem_cons_of_mem _ m4⟩
 ·intro x hx
  simp only [Ad.add,List.mem_cons] at hx
  rcases hx with rfl | hx
  ·simp
  ·have:=h.old x hx
   simp;omega
theorem Rd.drop {A:Ad} {b:Nat} {text:ByteArray} {σ:St} {w:World} (hm:A.R∈A.X∧A.S∈A.X∧A.N∈A.X∧A.P∈A.X) (h:Rd (A.add b) text σ w):Rd A text σ w:=
 ⟨h.me,h.sc,h.nm.sub (fun x hx=>List.mem_cons_of_mem _ hx),hm,fun x hx=>h.old x (List.mem_cons_of_mem _ hx),h.pr,h.np,h.gl,h.small,h.few⟩
abbrev PM (α:Type):=St→Except Mar.Fault (α×St)
def Qt {α:Type} (M:List Nat) (A:Ad) (text:ByteArray) (w:World) (r:Except Mar.Fault (α×St)) (V:α→Value) (e:Ending) (w':World):Prop:=
 Qb M w w'∧((∃ a σ',r = .ok (a,σ')∧e = .returned (V a)∧Rd A text σ' w')∨(∃ f,r = .error f∧Q0c w f.no f.at' e w'))
def peek (text:ByteArray):PM Mar.Word:=fun σ=>
 match Q8j text.data.toList σ.at' σ.nx with
 | .ok (x,p)=>.ok (x,{ σ with at':=p,nx:=some x })
 | .error f=>.error f
def next (text:ByteArray):PM Mar.Word:=fun σ=>
 match Q8j text.data.toList σ.at' σ.nx with
 | .ok (x,p)=>.ok (x,{ σ with at':=p,nx:=none })
 | .error f=>.error f
theorem Q7b {A:Ad} {text:ByteArray} {σ:St} {w:World} (h:Rd A text σ w) :
  Calls Tryz.prog 49 #[.pointer (some ⟨A.S,0,none⟩)] w (Qt [A.S] A text w (peek text σ) QZ):=by
 refine (QbD A.S text σ.at' σ.nx w h.sc h.gl h.small).mono ?_
 rintro e w' ⟨hk,⟨x,p,hx,rfl,hs⟩ | ⟨f,hx,ht⟩⟩
 ·exact ⟨hk,Or.inl ⟨x,_,by simp only [peek,hx],rfl,h.scanned hk hs⟩⟩
 ·exact ⟨hk,Or.inr ⟨f,by simp only [peek,hx],ht⟩⟩
theorem Q2W {A:Ad} {text:ByteArray} {σ:St} {w:World} (h:Rd A text σ w) :
  Calls Tryz.prog 85 #[.pointer (some ⟨A.S,0,none⟩)] w (Qt [A.S] A text w (next text σ) QZ):=by
 refine (QhL A.S text σ.at' σ.nx w h.sc h.gl h.small).mono ?_
 rintro e w' ⟨hk,⟨x,p,hx,rfl,hs⟩ | ⟨f,hx,ht⟩⟩
 ·exact ⟨hk,Or.inl ⟨x,_,by simp only [next,hx],rfl,h.scanned hk hs⟩⟩
 ·exact ⟨hk,Or.inr ⟨f,by simp only [next,hx],ht⟩⟩
def sees (text:ByteArray) (t:List UInt8):PM Bool:=fun σ=>
 match peek text σ with
 | .ok (x,σ')=>.ok (x.text == t,σ')
 | .error f=>.error f
theorem Qek (a b c d:Value) (w:World):(Instr.field 110 (.agg #[a,b,c,d]) 0).run Tryz.prog w = .ok a w:=by kernel_rfl
theorem Qel (a b c d:Value) (w:World):(Instr.field 110 (.agg #[a,b,c,d]) 1).run Tryz.prog w = .ok b w:=by kernel_rfl
theorem QbE (a b c d:Value) (w:World):(Instr.field 110 (.agg #[a,b,c,d]) 3).run Tryz.prog w = .ok d w:=by kernel_rfl
theorem QbF {A:Ad} {text:ByteArray} {σ:St} (t:ByteArray) {w:World} (h:Rd A text σ w) :
  Calls Tryz.prog 132 #[.pointer (some ⟨A.R,0,none⟩),.string t] w (Qt [A.S] A text w (sees text t.data.toList σ) .bool):=by
 rw [← ByteArray.toList_eq]
 obtain ⟨c0,c1,c2,c3,c4,hfr⟩:=h.cells
 have hft:=Qel
 have HC:=Hid.mk (Q7b h)
 go_enter Tryz.func132,Tryz.ntmps132
 go_wp2_with (go_at_call 49;refine HC.out.mono ?_;rintro e w1 ⟨hk,⟨x,σ',hx,rfl,hr⟩ | ⟨f,hx,b,hbb,rfl,hcell⟩⟩<;>(try dsimp only [QZ]))
 ·go_ret
  exact ⟨hk,Or.inl ⟨_,σ',by simp only [sees,hx],rfl,hr⟩⟩
 ·exact Qa ⟨hk,Or.inr ⟨f,by simp only [sees,hx],b,hbb,rfl,hcell⟩⟩
def bnd {α β:Type} (m:PM α) (k:α→PM β):PM β:=fun σ=>
 match m σ with
 | .ok (a,σ')=>k a σ'
 | .error f=>.error f
def ret {α:Type} (a:α):PM α:=fun σ=>.ok (a,σ)
def thr {α:Type} (no at':Nat):PM α:=fun _=>.error ⟨no,at'⟩
theorem Qh {α β:Type} {m:PM α} {k:α→PM β} {σ σ':St} {a:α} (h:m σ = .ok (a,σ')):bnd m k σ = k a σ':=by simp only [bnd,h]
theorem Qp {α β:Type} {m:PM α} {k:α→PM β} {σ:St} {f:Mar.Fault} (h:m σ = .error f):bnd m k σ = .error f:=by simp only [bnd,h]
def Q13 (text:ByteArray) (t:List UInt8):PM Bool:=bnd (sees text t) fun y=>if y then bnd (next text) fun _=>ret true else ret false
theorem Qt.ok {α:Type} {M:List Nat} {A:Ad} {text:ByteArray} {w w':World} {r:Except Mar.Fault (α×St)} {V:α→Value} {a:α} {σ':St} {v:Value}
  (hk:Qb M w w') (hr:r = .ok (a,σ')) (hv:v=V a) (h:Rd A text σ' w'):Qt M A text w r V (.returned v) w':=⟨hk,Or.inl ⟨a,σ',hr,by rw [hv],h⟩⟩
theorem Qt.throws {α:Type} {M M':List Nat} {A:Ad} {text:ByteArray} {w w1 w':World} {r:Except Mar.Fault (α×St)} {V:α→Value} {f:Mar.Fault} {b:Nat}
  (hk:Qb M w w') (hk1:Qb M' w w1) (hr:r = .error f) (hb:w1.heap.size≤b) (hc:w'.heap[b]? = some (.cells #[.int .i64 f.no,.int .i64 f.at'] 83)) :
  Qt M A text w r V (.panicked [{ v:=.iface 79 (.pointer (some ⟨b,0,none⟩)),recovered:=false }]) w':=
 ⟨hk,Or.inr ⟨f,hr,b,Nat.le_trans hk1.size hb,rfl,hc⟩⟩
theorem Q4r {A:Ad} {text:ByteArray} {σ:St} (t:ByteArray) {w:World} (h:Rd A text σ w) :
  Calls Tryz.prog 126 #[.pointer (some ⟨A.R,0,none⟩),.string t] w (Qt [A.S] A text w (Q13 text t.data.toList σ) .bool):=by
 have HC:=Hid.mk (QbF t h)
 go_enter Tryz.func126,Tryz.ntmps126
 go_wp2_with (first
  | (go_at_call 132;refine HC.out.mono ?_;rintro e w1 ⟨hk,⟨y,σ',hx,rfl,hr⟩ | ⟨f,hx,b,hbb,rfl,hcell⟩⟩;obtain ⟨c0,c1,c2,c3,c4,hfr⟩:=hr.cells)
  | (go_at_call 85;refine (Q2W hr).mono ?_;rintro e w2 ⟨hk2,⟨x,σ2,hx2,rfl,hr2⟩ | ⟨f,hx2,b,hbb,rfl,hcell⟩⟩))
 ·have hy:y=false:=by simpa using ‹(!y)=true›
  subst hy
  go_ret
  exact Qt.ok hk (Qh hx) rfl hr
 ·have hy:y=true:=by simpa using ‹(!y)=false›
  subst hy
  go_ret
  exact Qt.ok (hk.trans hk2) ((Qh hx).trans (Qh hx2)) rfl hr2
 ·have hy:y=true:=by simpa using ‹(!y)=false›
  subst hy
  exact Qa (Qt.throws (hk.trans hk2) hk ((Qh hx).trans (Qp hx2)) hbb hcell)
 ·exact Qa (Qt.throws hk (Qb.refl [] _) (Qp hx) hbb hcell)
def QX (text:ByteArray) (t:List UInt8):PM Mar.Word:=bnd (next text) fun x=>if x.text == t then ret x else thr 3 x.at'
theorem Q3E {A:Ad} {text:ByteArray} {σ:St} (t:ByteArray) {w:World} (h:Rd A text σ w) :
  Calls Tryz.prog 121 #[.pointer (some ⟨A.R,0,none⟩),.string t] w (Qt [A.S] A text w (QX text t.data.toList σ) QZ):=by
 rw [← ByteArray.toList_eq]
 obtain ⟨c0,c1,c2,c3,c4,hfr⟩:=h.cells
 have hlt:=h.lt.1
 have hltS:=h.lt.2.1
 have HC:Hid (∀ o,Calls Tryz.prog 85 #[.pointer (some ⟨A.S,0,none⟩)] (w.alloc o) (Qt [A.S] (A.add w.heap.size) text (w.alloc o) (next text σ) QZ)):=fun o=>Q2W (h.own o)
 have HA:=Hid.mk h.apart
 go_enter Tryz.func121,Tryz.ntmps121
 go_wp2_with (first
  | (go_at_call 85;refine (HC.out _).mono ?_;rintro e w1 ⟨hk,⟨x,σ',hx,rfl,hr⟩ | ⟨f,hx,b,hbb,rfl,hcell⟩⟩<;>(try dsimp only [QZ]);have hres:=(hk.block w.heap.size (by simp) (by simp;omega)).trans (Qg rfl);obtain ⟨r0,r1,r2,r3,hfrR⟩:=Q0t hres;have hsz1:=hk.size;simp at hsz1;have hlt1:w.heap.size < w1.heap.size:=hsz1;have hlt2:¬ w.heap.size=w1.heap.size:=(by omega);have HK:=Hid.mk hk;have Hx:=Hid.mk hx;have HR:=Hid.mk hr;clear hres hk hx hr)
  | (go_at_call 47;refine (QY _ _ _).mono ?_;rintro e w' ⟨rfl,rfl⟩))
 ·have e1:(x.text == t.toList)=false:=by simpa using ‹(!x.text == t.toList)=true›
  refine Qa (Qt.throws (M':=[A.S]) (w1:=w1) (f:=⟨3,x.at'⟩) ((((Qb.refl _ _).alloc _).trans HK.out).alloc _ |>.alloc _) (((Qb.refl _ _).alloc _).trans HK.out) ((Qh Hx.out).trans ?_) (by omega) (Qg (by simp)))
  rw [e1];rfl
 ·have e1:(x.text == t.toList)=true:=by simpa using ‹(!x.text == t.toList)=false›
  refine bodyPost_ret (v:=QZ x) (by simp [results,Tryz.results121,go_sem,hlt1,r0,r1,r2,r3]) rfl (Qt.ok (a:=x) ?_ ((Qh Hx.out).trans (by rw [e1];rfl)) rfl ?_)
  ·exact ((((((((Qb.refl _ _).alloc _).trans HK.out)).setNew (Nat.le_refl _) _).setNew (Nat.le_refl _) _).setNew (Nat.le_refl _) _).setNew (Nat.le_refl _) _).alloc _
  ·have hs:=fun {u:World} (hu:Rd (A.add w.heap.size) text σ' u) (i:Nat) (v:Value)=>Rd.setNew (A':=A.add w.heap.size) h ⟨rfl,rfl,rfl,rfl⟩ hu (p:=⟨w.heap.size,i,none⟩) (Nat.le_refl _) (by simp [Ad.add]) v
   exact Rd.drop h.mine ((hs (hs (hs (hs HR.out 0 _) 1 _) 2 _) 3 _).below ((Below.refl _ _).alloc (Nat.le_refl _) _))
 ·exact Qa (Qt.throws (((Qb.refl _ _).alloc _).trans hk) ((Qb.refl [A.S] _).alloc _) (Qp hx) hbb hcell)
def Q0X (text:ByteArray) (x:Mar.Word):PM Ty:=
 if ((x.kind:Int) == 1) then ret (.named x.text x.at')
 else if x.text == [105,110,116] then ret (.plain 0)
 else if x.text == [104,121,112,101,114] then ret (.plain 2)
 else if x.text == [98,111,111,108] then ret (.plain 4)
 else if x.text == [117,110,115,105,103,110,101,100] then
  bnd (Q13 text [104,121,112,101,114]) fun y=>if y then ret (.plain 3) else bnd (Q13 text [105,110,116]) fun _=>ret (.plain 1)
 else thr 3 x.at'
def Q3q (text:ByteArray):PM Ty:=bnd (next text) (Q0X text)
theorem tw1 {text:ByteArray} {x:Mar.Word} (h1:((x.kind:Int) == 1)=true):Q0X text x=ret (.named x.text x.at'):=by unfold Q0X;rw [if_pos h1]
theorem tw2 {text:ByteArray} {x:Mar.Word} (h1:((x.kind:Int) == 1)=false) (h2:(x.text == [105,110,116])=true):Q0X text x=ret (.plain 0):=by unfold Q0X;simp only [h1,h2,Bool.false_eq_true,if_false,if_true]
theorem tw3 {text:ByteArray} {x:Mar.Word} (h1:((x.kind:Int) == 1)=false) (h2:(x.text == [105,110,116])=false) (h3:(x.text == [104,121,112,101,114])=true):Q0X text x=ret (.plain 2):=by unfold Q0X;simp only [h1,h2,h3,Bool.false_eq_true,if_false,if_true]
theorem tw4 {text:ByteArray} {x:Mar.Word} (h1:((x.kind:Int) == 1)=false) (h2:(x.text == [105,110,116])=false) (h3:(x.text == [104,121,112,101,114])=false) (h4:(x.text == [98,111,111,108])=true):Q0X text x=ret (.plain 4):=by unfold Q0X;simp only [h1,h2,h3,h4,Bool.false_eq_true,if_false,if_true]
theorem tw5 {text:ByteArray} {x:Mar.Word} (h1:((x.kind:Int) == 1)=false) (h2:(x.text == [105,110,116])=false) (h3:(x.text == [104,121,112,101,114])=false) (h4:(x.text == [98,111,111,108])=false) (h5:(x.text == [117,110,115,105,103,110,101,100])=true) :
  Q0X text x=bnd (Q13 text [104,121,112,101,114]) fun y=>if y then ret (.plain 3) else bnd (Q13 text [105,110,116]) fun _=>ret (.plain 1):=by unfold Q0X;simp only [h1,h2,h3,h4,h5,Bool.false_eq_true,if_false,if_true]
theorem tw6 {text:ByteArray} {x:Mar.Word} (h1:((x.kind:Int) == 1)=false) (h2:(x.text == [105,110,116])=false) (h3:(x.text == [104,121,112,101,114])=false) (h4:(x.text == [98,111,111,108])=false) (h5:(x.text == [117,110,115,105,103,110,101,100])=false) :
  Q0X text x=thr 3 x.at':=by unfold Q0X;simp only [h1,h2,h3,h4,h5,Bool.false_eq_true,if_false]
theorem Q7c (x:Mar.Word) (w:World) :
  Calls Tryz.prog 156 #[QZ x] w fun e w'=>e = .returned (.agg #[.string ⟨x.text.toArray⟩,.int .i64 x.at'])∧Below w.heap.size w w':=by
 dsimp only [QZ]
 go_enter Tryz.func156,Tryz.ntmps156
 go_wp2
 exact bodyPost_ret (v:=.agg #[.string ⟨x.text.toArray⟩,.int .i64 x.at']) (by simp [results,Tryz.results156,go_sem]) rfl ⟨rfl,((Below.refl _ _).alloc (Nat.le_refl _) _).alloc (by simp) _⟩
theorem Q7N {A:Ad} {text:ByteArray} {σ:St} {w:World} (h:Rd A text σ w) :
  Calls Tryz.prog 162 #[.pointer (some ⟨A.R,0,none⟩)] w (Qt [A.S] A text w (Q3q text σ) tyV):=by
 obtain ⟨c0,c1,c2,c3,c4,hfr⟩:=h.cells
 have HC:=Hid.mk (Q2W h)
 go_enter Tryz.func162,Tryz.ntmps162
 go_wp2_with (first
  | (go_at_call 85;refine HC.out.mono ?_;rintro e w1 ⟨hk,⟨x,σ',hx,rfl,hr⟩ | ⟨f,hx,b,hbb,rfl,hcell⟩⟩<;>(try dsimp only [QZ]);have HK:=Hid.mk hk;have Hx:=Hid.mk hx;have HR:=Hid.mk hr;clear hk hx hr)
  | (go_at_call 156;refine (Q7c x _).mono ?_;rintro e w2 ⟨rfl,hb2⟩)
  | (go_at_call 47;refine (QY _ _ _).mono ?_;rintro e w' ⟨rfl,rfl⟩)
  | (go_at_call_of 126 (Value.string { data:=#[104,121,112,101,114] });refine (Q4r _ (HR.out.below ((Below.refl _ _).alloc (Nat.le_refl _) _))).mono ?_;rintro e w3 ⟨hk3,⟨y,σ3,hx3,rfl,hr3⟩ | ⟨f,hx3,b,hbb,rfl,hcell⟩⟩)
  | (go_at_call_of 126 (Value.string { data:=#[105,110,116] });refine (Q4r _ hr3).mono ?_;rintro e w4 ⟨hk4,⟨y4,σ4,hx4,rfl,hr4⟩ | ⟨f,hx4,b,hbb,rfl,hcell⟩⟩))
 ·go_ret
  exact Qt.ok ((HK.out.alloc _).trans (Qb.of_below _ hb2)) ((Qh Hx.out).trans (by rw [tw1 ‹_›];rfl)) rfl ((HR.out.below ((Below.refl _ _).alloc (Nat.le_refl _) _)).below hb2)
 ·go_ret
  exact Qt.ok (HK.out.alloc _) ((Qh Hx.out).trans (by rw [tw2 ‹_› ‹_›];rfl)) rfl (HR.out.below ((Below.refl _ _).alloc (Nat.le_refl _) _))
 ·go_ret
  exact Qt.ok (HK.out.alloc _) ((Qh Hx.out).trans (by rw [tw3 ‹_› ‹_› ‹_›];rfl)) rfl (HR.out.below ((Below.refl _ _).alloc (Nat.le_refl _) _))
 ·go_ret
  exact Qt.ok (HK.out.alloc _) ((Qh Hx.out).trans (by rw [tw4 ‹_› ‹_› ‹_› ‹_›];rfl)) rfl (HR.out.below ((Below.refl _ _).alloc (Nat.le_refl _) _))
 ·have hy:y=true:=‹_›
  subst hy
  go_ret
  exact Qt.ok ((HK.out.alloc _).trans hk3) ((Qh Hx.out).trans (by rw [tw5 ‹_› ‹_› ‹_› ‹_› ‹_›];exact Qh hx3)) rfl hr3
 ·have hy:y=false:=‹_›
  subst hy
  go_ret
  exact Qt.ok (((HK.out.alloc _).trans hk3).trans hk4) ((Qh Hx.out).trans (by rw [tw5 ‹_› ‹_› ‹_› ‹_› ‹_›];exact (Qh hx3).trans (Qh hx4))) rfl hr4
 ·have hy:y=false:=‹_›
  subst hy
  exact Qa (Qt.throws (((HK.out.alloc _).trans hk3).trans hk4) ((HK.out.alloc _).trans hk3) ((Qh Hx.out).trans (by rw [tw5 ‹_› ‹_› ‹_› ‹_› ‹_›];exact (Qh hx3).trans (Qp hx4))) hbb hcell)
 ·exact Qa (Qt.throws ((HK.out.alloc _).trans hk3) (HK.out.alloc _) ((Qh Hx.out).trans (by rw [tw5 ‹_› ‹_› ‹_› ‹_› ‹_›];exact Qp hx3)) hbb hcell)
 ·exact Qa (Qt.throws (M':=[A.S]) (w1:=w1) (f:=⟨3,x.at'⟩) ((HK.out.alloc _).alloc _) HK.out ((Qh Hx.out).trans (by rw [tw6 ‹_› ‹_› ‹_› ‹_› ‹_›];rfl)) (by omega) (Qg (by simp)))
 ·exact Qa (Qt.throws hk (Qb.refl [] _) (Qp hx) hbb hcell)
def Q2o (at':Nat):PM Unit:=fun σ=>if 24≤σ.types then .error ⟨5,at'⟩ else .ok ((),{ σ with types:=σ.types + 1 })
def Q2X (at':Nat):PM Unit:=fun σ=>if 40≤σ.consts then .error ⟨5,at'⟩ else .ok ((),{ σ with consts:=σ.consts + 1 })
abbrev Q6k:Unit→Value:=fun _=>.tuple #[]
theorem Rd.farR {A:Ad} {text:ByteArray} {σ:St} {w:World} (h:Rd A text σ w):2≠A.R∧3≠A.R∧4≠A.R:=by
 obtain ⟨c0,_⟩:=h.cells
 obtain ⟨⟨m,g1⟩,⟨_,_,g2⟩,⟨_,_,g3⟩⟩:=h.gl
 refine ⟨?_,?_,?_⟩
 ·intro e;rw [e] at g1;rw [g1] at c0;cases c0
 ·intro e;rw [e] at g2;rw [g2] at c0;cases c0
 ·intro e;rw [e] at g3;rw [g3] at c0;cases c0
theorem Rd.setTypes {A:Ad} {text:ByteArray} {σ:St} {w:World} (h:Rd A text σ w) (hf:σ.types < 24) :
  Rd A text { σ with types:=σ.types + 1 } (w.setCell ⟨A.R,2,none⟩ (.int .i64 ((σ.types + 1:Nat):Int))):=by
 obtain ⟨l1,l2,l3,l4⟩:=h.lt
 obtain ⟨n1,n2,n3,n4,n5,n6⟩:=h.apart
 have hk:Qb [A.R] w (w.setCell ⟨A.R,2,none⟩ (.int .i64 ((σ.types + 1:Nat):Int))):=(Qb.refl [A.R] w).setIn (p:=⟨A.R,2,none⟩) (by simp) _
 refine ⟨Qn (i:=2) h.me _,?_,h.nm.keeps hk (by simp;exact h.mine.1) (by simp;exact fun e=>n2 e.symm),h.mine,fun x hx=>Nat.lt_of_lt_of_le (h.old x hx) hk.size,
  (hk.block _ l4 (by simp;exact fun e=>n3 e.symm)).trans h.pr,h.np,?_,h.small,?_⟩
 ·obtain ⟨ha,hs⟩:=h.sc
  have hb:=hk.block _ l2 (by simp;exact fun e=>n1 e.symm)
  refine ⟨ha,?_⟩
  cases hn:σ.nx with
  | some x=>rw [hn] at hs;exact hb.trans hs
  | none=>rw [hn] at hs;obtain ⟨k,t,n,a,hs⟩:=hs;exact ⟨k,t,n,a,hb.trans hs⟩
 ·obtain ⟨f1,f2,f3⟩:=h.farR
  exact h.gl.keeps hk (by simp [f1]) (by simp [f2]) (by simp [f3])
 ·exact ⟨by show σ.types + 1≤_;omega,h.few.2⟩
theorem Rd.setConsts {A:Ad} {text:ByteArray} {σ:St} {w:World} (h:Rd A text σ w) (hf:σ.consts < 40) :
  Rd A text { σ with consts:=σ.consts + 1 } (w.setCell ⟨A.R,3,none⟩ (.int .i64 ((σ.consts + 1:Nat):Int))):=by
 obtain ⟨l1,l2,l3,l4⟩:=h.lt
 obtain ⟨n1,n2,n3,n4,n5,n6⟩:=h.apart
 have hk:Qb [A.R] w (w.setCell ⟨A.R,3,none⟩ (.int .i64 ((σ.consts + 1:Nat):Int))):=(Qb.refl [A.R] w).setIn (p:=⟨A.R,3,none⟩) (by simp) _
 refine ⟨Qn (i:=3) h.me _,?_,h.nm.keeps hk (by simp;exact h.mine.1) (by simp;exact fun e=>n2 e.symm),h.mine,fun x hx=>Nat.lt_of_lt_of_le (h.old x hx) hk.size,
  (hk.block _ l4 (by simp;exact fun e=>n3 e.symm)).trans h.pr,h.np,?_,h.small,?_⟩
 ·obtain ⟨ha,hs⟩:=h.sc
  have hb:=hk.block _ l2 (by simp;exact fun e=>n1 e.symm)
  refine ⟨ha,?_⟩
  cases hn:σ.nx with
  | some x=>rw [hn] at hs;exact hb.trans hs
  | none=>rw [hn] at hs;obtain ⟨k,t,n,a,hs⟩:=hs;exact ⟨k,t,n,a,hb.trans hs⟩
 ·obtain ⟨f1,f2,f3⟩:=h.farR
  exact h.gl.keeps hk (by simp [f1]) (by simp [f2]) (by simp [f3])
 ·exact ⟨h.few.1,by show σ.consts + 1≤_;omega⟩
theorem Q4Z {A:Ad} {text:ByteArray} {σ:St} (at':Nat) {w:World} (h:Rd A text σ w) :
  Calls Tryz.prog 124 #[.pointer (some ⟨A.R,0,none⟩),.int .i64 at'] w (Qt [A.R] A text w (Q2o at' σ) Q6k):=by
 obtain ⟨c0,c1,c2,c3,c4,hfr⟩:=h.cells
 have hfew:=h.few
 by_cases hf:24≤σ.types
 ·have hfi:(24:Int)≤σ.types:=by omega
  go_enter Tryz.func124,Tryz.ntmps124
  go_wp2_with (go_at_call 135;refine (Q3p _ _ _ _ hfi).mono ?_;rintro e w1 ⟨⟨b,hbb,rfl,hcell⟩,hb⟩)
  exact Qa (Qt.throws (f:=⟨5,at'⟩) (Qb.of_below _ hb) (Qb.refl [] _) (by rw [Q2o,if_pos hf]) hbb hcell)
 ·have hfi:¬ (24:Int)≤σ.types:=by omega
  go_enter Tryz.func124,Tryz.ntmps124
  go_wp2_with (go_at_call 135;refine (Q4L _ _ _ _ hfi).mono ?_;rintro e w1 ⟨rfl,rfl⟩)
  go_end0
  refine Qt.ok (a:=()) ((Qb.refl _ _).setIn (by simp) _) (by rw [Q2o,if_neg hf]) rfl ?_
  exact h.setTypes (by omega)
theorem Q7O {A:Ad} {text:ByteArray} {σ:St} (at':Nat) {w:World} (h:Rd A text σ w) :
  Calls Tryz.prog 118 #[.pointer (some ⟨A.R,0,none⟩),.int .i64 at'] w (Qt [A.R] A text w (Q2X at' σ) Q6k):=by
 obtain ⟨c0,c1,c2,c3,c4,hfr⟩:=h.cells
 have hfew:=h.few
 by_cases hf:40≤σ.consts
 ·have hfi:(40:Int)≤σ.consts:=by omega
  go_enter Tryz.func118,Tryz.ntmps118
  go_wp2_with (go_at_call 135;refine (Q3p _ _ _ _ hfi).mono ?_;rintro e w1 ⟨⟨b,hbb,rfl,hcell⟩,hb⟩)
  exact Qa (Qt.throws (f:=⟨5,at'⟩) (Qb.of_below _ hb) (Qb.refl [] _) (by rw [Q2X,if_pos hf]) hbb hcell)
 ·have hfi:¬ (40:Int)≤σ.consts:=by omega
  go_enter Tryz.func118,Tryz.ntmps118
  go_wp2_with (go_at_call 135;refine (Q4L _ _ _ _ hfi).mono ?_;rintro e w1 ⟨rfl,rfl⟩)
  go_end0
  refine Qt.ok (a:=()) ((Qb.refl _ _).setIn (by simp) _) (by rw [Q2X,if_neg hf]) rfl ?_
  exact h.setConsts (by omega)
end Go.Proofs.YtmbcibgknckenaaGreatDoor
namespace Go.Proofs.YtmbcibgknckenaaGreatDoor
open Go.RowKit
open Go.MapKept
section
variable {P : Program} {w : World}
theorem Q5Q {T kt et:TypeId} {d:TypeDesc} (ht:P.underlying T=some (.map kt et)) (hd:P.underlying kt=some d) {k:Value} (hk:IsKey d k) {N:Nat} {es:Array MapEntry} {clock:Nat}
  (hb:w.heap[N]? = some (.map es clock)) (hes:∀ x∈es.toList,IsKey d x.key) {z:Value} (hz:(zeroValue et).run P w = .ok z w) (c:Bool) :
  ((∀ x∈es.toList,x.key≠k)∧(Instr.lookup T (.map (some N)) k c).run P w = .ok (if c then .tuple #[z,.bool false] else z) w) ∨
  (∃ (j:Nat) (e:MapEntry),es.toList[j]? = some e∧e.key=k∧(Instr.lookup T (.map (some N)) k c).run P w = .ok (if c then .tuple #[e.val,.bool true] else e.val) w):=by
 have hck:=fun b=>MapKept.run_checkKey (w:=w) hd hk b 9999
 rcases findNow_spec hk es.toList 0 hes with ⟨h1,h2⟩ | ⟨j,e,h1,h2,h3⟩
 ·refine Or.inl ⟨h2,?_⟩
  cases c<;>simp [Instr.lookup,Instr.findKey,run_underlying ht,run_underlying hd,MapKept.run_getObj_map hb,hck,h1,hz,Result.andThen]
 ·refine Or.inr ⟨j,e,h2,h3,?_⟩
  cases c<;>simp [Instr.lookup,Instr.findKey,run_underlying ht,run_underlying hd,MapKept.run_getObj_map hb,hck,h1,Result.andThen]
theorem Q8l {T kt et:TypeId} {d:TypeDesc} (ht:P.underlying T=some (.map kt et)) (hd:P.underlying kt=some d) {k:Value} (hk:IsKey d k) {N:Nat} {es:Array MapEntry} {clock:Nat}
  (hb:w.heap[N]? = some (.map es clock)) (hes:∀ x∈es.toList,IsKey d x.key) (hne:∀ x∈es.toList,x.key≠k) (v:Value) :
  (Instr.mapUpdate T (.map (some N)) k v).run P w = .ok () { w with heap:=w.heap.setIfInBounds N (.map (es.push ⟨k,v,clock⟩) (clock + 1)) }:=by
 have hck:=fun b=>MapKept.run_checkKey (w:=w) hd hk b 9999
 rcases findNow_spec hk es.toList 0 hes with ⟨h1,h2⟩ | ⟨j,e,h1,h2,h3⟩
 ·simp [Instr.mapUpdate,Instr.findKey,run_underlying ht,run_underlying hd,MapKept.run_getObj_map hb,hck,h1,MapKept.run_setObj_map _ hb,Result.andThen]
 ·exact absurd h3 (hne e (List.mem_of_getElem? h2))
end
def look {α:Type} (l:List (List UInt8×α)) (k:List UInt8):Option α:=(l.find? fun p=>p.1 == k).map (·.2)
theorem QfY {α:Type} {l:List (List UInt8×α)} {k:List UInt8} (h:∀ p∈l,p.1≠k):look l k=none:=by
 unfold look
 rw [List.find?_eq_none.2 (fun p hp=>by simp [h p hp])]
 rfl
theorem Q7P {α:Type} {l:List (List UInt8×α)} {k:List UInt8} (hnd:(l.map (·.1)).Nodup) {p:List UInt8×α} (hp:p∈l) (hk:p.1=k):look l k=some p.2:=by
 induction l with
 | nil=>cases hp
 | cons q t ih=>
  unfold look
  simp only [List.map_cons,List.nodup_cons] at hnd
  rcases List.mem_cons.1 hp with rfl | hp
  ·simp [hk]
  ·have hq:q.1≠k:=fun e=>hnd.1 (by rw [e,← hk];exact List.mem_map_of_mem hp)
   have:=ih hnd.2 hp
   unfold look at this
   simp only [List.find?_cons,beq_eq_false_iff_ne.2 hq]
   exact this
theorem Q3F (l:List (List UInt8×Value)):∀ x∈(l.mapIdx fun i p=>(⟨.string ⟨p.1.toArray⟩,p.2,i⟩:MapEntry)),IsKey .string x.key:=by
 intro x hx
 obtain ⟨i,hi,rfl⟩:=List.mem_mapIdx.1 hx
 trivial
theorem Q5j {X:List Nat} {N:Nat} {l:List (List UInt8×Option DefL)} {w:World} (h:Q1p X N l w) (k:List UInt8) (c:Bool) :
  (look l k=none∧(Instr.lookup 104 (.map (some N)) (.string ⟨k.toArray⟩) c).run Tryz.prog w = .ok (if c then .tuple #[.nilIface,.bool false] else .nilIface) w) ∨
  (∃ o v bs,look l k=some o∧Held X bs w∧Q1z bs v o∧(Instr.lookup 104 (.map (some N)) (.string ⟨k.toArray⟩) c).run Tryz.prog w = .ok (if c then .tuple #[v,.bool true] else v) w):=by
 obtain ⟨nd,bs,vs,h1,h2,h3,h4⟩:=h
 have hk:IsKey .string (.string ⟨k.toArray⟩):=trivial
 have hes:=Q3F (l.zip vs |>.map fun p=>(p.1.1,p.2))
 have hz:(zeroValue 113).run Tryz.prog w = .ok .nilIface w:=by kernel_rfl
 rcases Q5Q (P:=Tryz.prog) (T:=104) (kt:=9) (et:=113) (d:=.string) (by kernel_rfl) (by kernel_rfl) hk h3 (by simpa using hes) hz c with ⟨g1,g2⟩ | ⟨j,e,g1,g2,g3⟩
 ·refine Or.inl ⟨QfY ?_,g2⟩
  intro p hp e
  obtain ⟨i,hi,rfl⟩:=List.getElem_of_mem hp
  have hi':i < vs.length:=by omega
  have hm:(⟨.string ⟨l[i].1.toArray⟩,vs[i],i⟩:MapEntry)∈((l.zip vs |>.map fun p=>(p.1.1,p.2)).mapIdx fun i p=>(⟨.string ⟨p.1.toArray⟩,p.2,i⟩:MapEntry)).toArray.toList:=by
   simp only [List.toList_toArray]
   rw [List.mem_mapIdx]
   exact ⟨i,by simp;omega,by simp⟩
  exact g1 _ hm (by rw [e])
 ·simp only [List.toList_toArray,List.getElem?_mapIdx] at g1
  have hj:j < l.length:=by
   by_cases hj:j < l.length
   ·exact hj
   ·rw [List.getElem?_eq_none (by simp;omega)] at g1
    cases g1
  have hj':j < vs.length:=by omega
  rw [List.getElem?_eq_getElem (by simp;omega)] at g1
  simp at g1
  subst g1
  simp at g2 g3
  refine Or.inr ⟨l[j].2,vs[j],bs,Q7P nd (List.getElem_mem hj) g2,h1,h4 j hj hj',?_⟩
  simpa using g3
def Q0B (x:Mar.Word):PM Int:=fun σ=>
 match look σ.names x.text with
 | some (some (.const _ _ v))=>.ok (v,σ)
 | _=>.error ⟨7,x.at'⟩
abbrev intV:Int→Value:=fun n=>.int .i64 n
theorem Q7Q (w:World):(Instr.typeAssert .nilIface 113 176 true).run Tryz.prog w = .ok (.tuple #[.pointer none,.bool false]) w:=by kernel_rfl
theorem QbG (p:Value) (w:World):(Instr.typeAssert (.iface 176 p) 113 176 true).run Tryz.prog w = .ok (.tuple #[p,.bool true]) w:=by kernel_rfl
theorem QcZ (d:DefL) (p:Value) (w:World) (hd:∀ t a v,d≠.const t a v):(Instr.typeAssert (.iface (defT d) p) 113 176 true).run Tryz.prog w = .ok (.tuple #[.pointer none,.bool false]) w:=by
 cases d with
 | const t a v=>exact absurd rfl (hd t a v)
 | typedef d=>kernel_rfl
 | enum t a ms=>kernel_rfl
 | struct t a ms=>kernel_rfl
 | union t a s ar=>kernel_rfl
 | prog t a vs n=>kernel_rfl
theorem Q8C {A:Ad} {text:ByteArray} {σ:St} (x:Mar.Word) {w:World} (h:Rd A text σ w) :
  Calls Tryz.prog 177 #[.pointer (some ⟨A.R,0,none⟩),QZ x] w (Qt [] A text w (Q0B x σ) intV):=by
 have hb0:=((Below.refl w.heap.size w).alloc (Nat.le_refl _) (.cells #[.int .i64 x.kind,.string ⟨x.text.toArray⟩,.int .i64 x.n,.int .i64 x.at'] 110)).drew
 obtain ⟨c0,c1,c2,c3,c4,hfr⟩:=h.cells
 have hlt:=h.lt.1
 have hb:=h.below hb0
 have key:(∃ v,(Instr.lookup 104 (.map (some A.N)) (.string ⟨x.text.toArray⟩) false).run Tryz.prog ((w.alloc (.cells #[.int .i64 x.kind,.string ⟨x.text.toArray⟩,.int .i64 x.n,.int .i64 x.at'] 110)).drew) = .ok v ((w.alloc (.cells #[.int .i64 x.kind,.string ⟨x.text.toArray⟩,.int .i64 x.n,.int .i64 x.at'] 110)).drew) ∧
    (∀ W,(Instr.typeAssert v 113 176 true).run Tryz.prog W = .ok (.tuple #[.pointer none,.bool false]) W)∧Q0B x σ = .error ⟨7,x.at'⟩) ∨
   (∃ (b:Nat) (c0 c1:Value) (n:Int),(Instr.lookup 104 (.map (some A.N)) (.string ⟨x.text.toArray⟩) false).run Tryz.prog ((w.alloc (.cells #[.int .i64 x.kind,.string ⟨x.text.toArray⟩,.int .i64 x.n,.int .i64 x.at'] 110)).drew) = .ok (.iface 176 (.pointer (some ⟨b,0,none⟩))) ((w.alloc (.cells #[.int .i64 x.kind,.string ⟨x.text.toArray⟩,.int .i64 x.n,.int .i64 x.at'] 110)).drew) ∧
    (w.alloc (.cells #[.int .i64 x.kind,.string ⟨x.text.toArray⟩,.int .i64 x.n,.int .i64 x.at'] 110)).heap[b]? = some (.cells #[c0,c1,.int .i64 n] 272)∧Q0B x σ = .ok (n,σ)):=by
  rcases Q5j hb.nm x.text false with ⟨hl,hrun⟩ | ⟨o,v,bs,hl,hh,hent,hrun⟩
  ·simp only [Bool.false_eq_true,if_false] at hrun
   exact Or.inl ⟨_,hrun,Q7Q,by simp only [Q0B,hl]⟩
  ·simp only [Bool.false_eq_true,if_false] at hrun
   cases o with
   | none=>
    have hv:v = .nilIface:=hent
    subst hv
    exact Or.inl ⟨_,hrun,Q7Q,by simp only [Q0B,hl]⟩
   | some d=>
    obtain ⟨b,rfl,hd⟩:=hent
    by_cases hc:∃ t a n,d = .const t a n
    ·obtain ⟨t,a,n,rfl⟩:=hc
     exact Or.inr ⟨b,_,_,n,hrun,(hh _ hd).1,by simp only [Q0B,hl]⟩
    ·refine Or.inl ⟨_,hrun,fun W=>QcZ d _ W (fun t a n e=>hc ⟨t,a,n,e⟩),?_⟩
     cases d with
     | const t a n=>exact absurd ⟨t,a,n,rfl⟩ hc
     | typedef d=>simp only [Q0B,hl]
     | enum t a ms=>simp only [Q0B,hl]
     | struct t a ms=>simp only [Q0B,hl]
     | union t a sl ar=>simp only [Q0B,hl]
     | prog t a vs n=>simp only [Q0B,hl]
 rcases key with ⟨v,hrun,hta,e1⟩ | ⟨b,k0,k1,n,hrun,hblk,e1⟩
 ·have HE:=Hid.mk e1
  clear e1 hb hb0
  dsimp only [QZ]
  go_enter Tryz.func177,Tryz.ntmps177
  go_wp2
  go_region
  go_wp2_with (go_at_call 47;refine (QY _ _ _).mono ?_;rintro e w' ⟨rfl,rfl⟩)
  exact Qa (Qt.throws (M':=[]) (w1:=w) (f:=⟨7,x.at'⟩) (((Qb.refl _ _).alloc _).alloc _).drew (Qb.refl _ _) HE.out (by omega) (Qg (w:=w.alloc _) (by simp)))
 ·have HE:=Hid.mk e1
  have hta:=fun p=>QbG p
  have hcell:(w.alloc (.cells #[.int .i64 x.kind,.string ⟨x.text.toArray⟩,.int .i64 x.n,.int .i64 x.at'] 110)).cell? ⟨b,2,none⟩=some (.int .i64 n):=by simp [World.cell?,hblk]
  have HB:=Hid.mk hb
  clear e1 hb hb0 hblk
  dsimp only [QZ]
  go_enter Tryz.func177,Tryz.ntmps177
  go_wp2
  go_region
  go_wp2
  go_ret
  exact Qt.ok (a:=n) (((Qb.refl _ _).alloc _).drew) HE.out rfl HB.out
end Go.Proofs.YtmbcibgknckenaaGreatDoor
namespace Go.Proofs.YtmbcibgknckenaaGreatDoor
open Go.RowKit
def Q1B (x:Mar.Word):PM Int:=
 if ((x.kind:Int) == 3) then ret x.n
 else if ((x.kind:Int) == 1) then Q0B x
 else if x.text == [84,82,85,69] then ret 1
 else if x.text == [70,65,76,83,69] then ret 0
 else thr 3 x.at'
theorem me1 {x:Mar.Word} (h1:((x.kind:Int) == 3)=true):Q1B x=ret x.n:=by unfold Q1B;rw [if_pos h1]
theorem me2 {x:Mar.Word} (h1:((x.kind:Int) == 3)=false) (h2:((x.kind:Int) == 1)=true):Q1B x=Q0B x:=by unfold Q1B;simp only [h1,h2,Bool.false_eq_true,if_false,if_true]
theorem me3 {x:Mar.Word} (h1:((x.kind:Int) == 3)=false) (h2:((x.kind:Int) == 1)=false) (h3:(x.text == [84,82,85,69])=true):Q1B x=ret 1:=by unfold Q1B;simp only [h1,h2,h3,Bool.false_eq_true,if_false,if_true]
theorem me4 {x:Mar.Word} (h1:((x.kind:Int) == 3)=false) (h2:((x.kind:Int) == 1)=false) (h3:(x.text == [84,82,85,69])=false) (h4:(x.text == [70,65,76,83,69])=true):Q1B x=ret 0:=by unfold Q1B;simp only [h1,h2,h3,h4,Bool.false_eq_true,if_false,if_true]
theorem me5 {x:Mar.Word} (h1:((x.kind:Int) == 3)=false) (h2:((x.kind:Int) == 1)=false) (h3:(x.text == [84,82,85,69])=false) (h4:(x.text == [70,65,76,83,69])=false):Q1B x=thr 3 x.at':=by unfold Q1B;simp only [h1,h2,h3,h4,Bool.false_eq_true,if_false]
theorem Qd0 {A:Ad} {text:ByteArray} {σ:St} (x:Mar.Word) {w:World} (h:Rd A text σ w) :
  Calls Tryz.prog 158 #[.pointer (some ⟨A.R,0,none⟩),QZ x] w (Qt [] A text w (Q1B x σ) intV):=by
 have HC:=Hid.mk (fun o=>Q8C x (h.below ((Below.refl w.heap.size w).alloc (Nat.le_refl _) o)))
 dsimp only [QZ] at HC ⊢
 go_enter Tryz.func158,Tryz.ntmps158
 go_wp2_with (first
  | (go_at_call 47;refine (QY _ _ _).mono ?_;rintro e w' ⟨rfl,rfl⟩)
  | (go_at_call 177;refine (HC.out _).mono ?_;rintro e w1 ⟨hk,⟨n,σ',hx,rfl,hr⟩ | ⟨f,hx,b,hbb,rfl,hcell⟩⟩))
 ·go_ret
  exact Qt.ok ((Qb.refl _ _).alloc _) (by rw [me1 ‹_›];rfl) rfl (h.below ((Below.refl _ _).alloc (Nat.le_refl _) _))
 ·go_ret
  exact Qt.ok (((Qb.refl _ _).alloc _).trans hk) (by rw [me2 ‹_› ‹_›];exact hx) rfl hr
 ·exact Qa (Qt.throws (((Qb.refl _ _).alloc _).trans hk) ((Qb.refl [] _).alloc _) (by rw [me2 ‹_› ‹_›];exact hx) hbb hcell)
 ·go_ret
  exact Qt.ok ((Qb.refl _ _).alloc _) (by rw [me3 ‹_› ‹_› ‹_›];rfl) rfl (h.below ((Below.refl _ _).alloc (Nat.le_refl _) _))
 ·go_ret
  exact Qt.ok ((Qb.refl _ _).alloc _) (by rw [me4 ‹_› ‹_› ‹_› ‹_›];rfl) rfl (h.below ((Below.refl _ _).alloc (Nat.le_refl _) _))
 ·exact Qa (Qt.throws (M':=[]) (w1:=w) (f:=⟨3,x.at'⟩) (((Qb.refl _ _).alloc _).alloc _) (Qb.refl _ _) (by rw [me5 ‹_› ‹_› ‹_› ‹_›];rfl) (by omega) (Qg (by simp)))
def Fits (X:List Nat) (v:Value) (p:Int→Bool) (w:World):Prop:=
 ∃ (bs:List (Nat×Obj)) (f:Nat) (pre post:Array Value),v = .func (.func f) pre post∧Held X bs w∧(∀ args W,(callFunc f args).run Tryz.prog W = .ok (.enter f args) W) ∧
  ∀ W,Held X bs W→∀ n:Int,Calls Tryz.prog f (pre.push (.int .i64 n)++post) W fun e w'=>e = .returned (.bool (p n))∧Below W.heap.size W w'
def value (text:ByteArray) (p:Int→Bool):PM (Int×Nat):=bnd (next text) fun x=>bnd (Q1B x) fun n=>if p n then ret (n,x.at') else thr 8 x.at'
abbrev Q9x:Int×Nat→Value:=fun q=>.tuple #[.int .i64 q.1,.int .i64 q.2]
theorem QaC {A:Ad} {text:ByteArray} {σ:St} {v:Value} {p:Int→Bool} {w:World} (h:Rd A text σ w) (hf:Fits A.X v p w) :
  Calls Tryz.prog 122 #[.pointer (some ⟨A.R,0,none⟩),v] w (Qt [A.S] A text w (value text p σ) Q9x):=by
 obtain ⟨c0,c1,c2,c3,c4,hfr⟩:=h.cells
 obtain ⟨bs,f,pre,post,rfl,hh,hent,hcall⟩:=hf
 have HH:=Hid.mk hh
 have HF:=Hid.mk hcall
 have HC:=Hid.mk (Q2W h)
 clear hh hcall
 go_enter Tryz.func122,Tryz.ntmps122
 go_wp2_with (first
  | (go_at_call 85;refine HC.out.mono ?_;rintro e w1 ⟨hk,⟨x,σ',hx,rfl,hr⟩ | ⟨f,hx,b,hbb,rfl,hcell⟩⟩<;>(try dsimp only [QZ]);have HK:=Hid.mk hk;have Hx:=Hid.mk hx;have HR:=Hid.mk hr;clear hk hx hr)
  | (go_at_call 158;refine (Qd0 x (HR.out.below ((Below.refl _ _).alloc (Nat.le_refl _) _))).mono ?_;rintro e w2 ⟨hk2,⟨n,σ2,hx2,rfl,hr2⟩ | ⟨f,hx2,b,hbb,rfl,hcell⟩⟩<;>(try dsimp only [intV]))
  | (go_at_call 47;refine (QY _ _ _).mono ?_;rintro e w' ⟨rfl,rfl⟩))
 ·have hh2:=(HH.out.keeps HK.out (by simp;exact h.mine.2.1)).keeps (Qb.of_below [] ((Below.refl w1.heap.size w1).alloc (Nat.le_refl _) (.cells #[.int .i64 x.kind,.string ⟨x.text.toArray⟩,.int .i64 x.n,.int .i64 x.at'] 110))) (by simp) |>.keeps hk2 (by simp)
  refine (HF.out _ hh2 _).mono ?_
  rintro e w3 ⟨rfl,hb3⟩
  have hv2:=(hk2.block w1.heap.size (by simp) (by simp)).trans (Qg rfl)
  have hv3:=(hb3.block w1.heap.size (Qc hv2)).trans hv2
  obtain ⟨r0,r1,r2,r3,hfrR⟩:=Q0t hv3
  have HKK:=Hid.mk (((HK.out.alloc _).trans (hk2.mono (by simp))).trans (Qb.of_below [A.S] hb3))
  have HR3:=Hid.mk (hr2.below hb3)
  have Hx2:=Hid.mk hx2
  clear hv2 hv3 hk2 hb3 hr2 hx2 hh2
  go_wp2_with (go_at_call 47;refine (QY _ _ _).mono ?_;rintro e w' ⟨rfl,rfl⟩)
  ·have hp:p n=false:=by simpa using ‹(!p n)=true›
   refine Qa (Qt.throws (M':=[A.S]) (w1:=w3) (f:=⟨8,x.at'⟩) (HKK.out.alloc _) HKK.out ((Qh Hx.out).trans ((Qh Hx2.out).trans ?_)) (Nat.le_refl _) (Qg rfl))
   rw [hp];rfl
  ·have hp:p n=true:=by simpa using ‹(!p n)=false›
   go_region
   go_wp2
   go_ret2
   exact Qt.ok (a:=(n,x.at')) HKK.out.drew ((Qh Hx.out).trans ((Qh Hx2.out).trans (by rw [hp];rfl))) rfl (HR3.out.below ((Below.refl _ _).drew))
 ·exact Qa (Qt.throws ((HK.out.alloc _).trans (hk2.mono (by simp))) (HK.out.alloc _) ((Qh Hx.out).trans (Qp hx2)) hbb hcell)
 ·exact Qa (Qt.throws hk (Qb.refl [] _) (Qp hx) hbb hcell)
def Q1V (lo hi:Int):Int→Bool:=fun n=>decide (lo≤n) && decide (n≤hi)
theorem Qd1 (lo hi n:Int) (bl bh:Nat) (w:World) (hl:w.cell? ⟨bl,0,none⟩=some (.int .i64 lo)) (hh:w.cell? ⟨bh,0,none⟩=some (.int .i64 hi)) :
  Calls Tryz.prog 159 #[.int .i64 n,.pointer (some ⟨bl,0,none⟩),.pointer (some ⟨bh,0,none⟩)] w fun e w'=>e = .returned (.bool (Q1V lo hi n))∧Below w.heap.size w w':=by
 go_enter Tryz.func159,Tryz.ntmps159
 go_wp2
 all_goals
  go_ret
  refine ⟨Q5N ?_,Below.refl _ _⟩
  unfold Q1V
  rw [Bool.eq_iff_iff]
  simp
  try omega
theorem Qag (args:Array Value) (w:World):(callFunc 159 args).run Tryz.prog w = .ok (.enter 159 args) w:=by kernel_rfl
theorem Q2Y (lo hi:Int) (w:World) :
  Calls Tryz.prog 123 #[.int .i64 lo,.int .i64 hi] w fun e w'=>∃ v,e = .returned v∧Below w.heap.size w w'∧∀ X:List Nat,(∀ x∈X,x < w.heap.size)→Fits X v (Q1V lo hi) w':=by
 have hmf:∀ (fn:Fn) (first cap:Array Value) (w:World),(Instr.makeFunc fn first cap).run Tryz.prog w = .ok (.func fn first cap) w:=fun _ _ _ _=>rfl
 go_enter Tryz.func123,Tryz.ntmps123
 go_wp2
 go_ret
 refine ⟨.func (.func 159) #[] #[.pointer (some ⟨w.heap.size,0,none⟩),.pointer (some ⟨w.heap.size + 1,0,none⟩)],rfl,((Below.refl _ _).alloc (Nat.le_refl _) _).alloc (by simp) _,?_⟩
 intro X hX
 refine ⟨[(w.heap.size,.cells #[.int .i64 lo] 2),(w.heap.size + 1,.cells #[.int .i64 hi] 2)],_,_,_,rfl,?_,Qag,?_⟩
 ·intro p hp
  simp at hp
  rcases hp with rfl | rfl
  ·exact ⟨(Below.heap_alloc _ _ _ (by simp)).trans (Qg rfl),fun hm=>by have:=hX _ hm;simp at this⟩
  ·exact ⟨Qg (by simp),fun hm=>by have:=hX _ hm;simp at this;omega⟩
 ·intro W hW n
  have h1:=(hW _ (List.mem_cons_self ..)).1
  have h2:=(hW _ (List.mem_cons_of_mem _ (List.mem_cons_self ..))).1
  exact Qd1 lo hi n _ _ W (by simp at h1;simp [World.cell?,h1]) (by simp at h2;simp [World.cell?,h2])
abbrev Q4s:Int×Bool→Value:=fun q=>.agg #[.int .i64 q.1,.bool q.2]
def most (text:ByteArray):PM (Int×Bool):=bnd (QX text [60]) fun _=>bnd (Q13 text [62]) fun y=>
 if y then ret (4294967295,false) else bnd (value text (Q1V 0 4294967295)) fun q=>bnd (QX text [62]) fun _=>ret (q.1,false)
theorem Fits.keeps {X:List Nat} {v:Value} {p:Int→Bool} {w w':World} {M:List Nat} (h:Fits X v p w) (hk:Qb M w w') (hM:∀ m∈M,m∈X):Fits X v p w':=by
 obtain ⟨bs,f,pre,post,hv,hh,he,hc⟩:=h
 exact ⟨bs,f,pre,post,hv,hh.keeps hk hM,he,hc⟩
def Same (A' A:Ad):Prop:=A'.R=A.R∧A'.S=A.S∧A'.N=A.N∧A'.P=A.P
theorem Same.add (A:Ad) (b:Nat):Same (A.add b) A:=⟨rfl,rfl,rfl,rfl⟩
theorem Q02 {A' A:Ad} (hA:Same A' A) {text:ByteArray} {σ:St} (t:ByteArray) {w:World} (h:Rd A' text σ w) :
  Calls Tryz.prog 121 #[.pointer (some ⟨A.R,0,none⟩),.string t] w (Qt [A.S] A' text w (QX text t.data.toList σ) QZ):=by
 have:=Q3E t h
 rw [hA.1,hA.2.1] at this
 exact this
theorem Q2r {A' A:Ad} (hA:Same A' A) {text:ByteArray} {σ:St} (t:ByteArray) {w:World} (h:Rd A' text σ w) :
  Calls Tryz.prog 126 #[.pointer (some ⟨A.R,0,none⟩),.string t] w (Qt [A.S] A' text w (Q13 text t.data.toList σ) .bool):=by
 have:=Q4r t h
 rw [hA.1,hA.2.1] at this
 exact this
theorem Q8W {A' A:Ad} (hA:Same A' A) {text:ByteArray} {σ:St} {v:Value} {p:Int→Bool} {w:World} (h:Rd A' text σ w) (hf:Fits A'.X v p w) :
  Calls Tryz.prog 122 #[.pointer (some ⟨A.R,0,none⟩),v] w (Qt [A.S] A' text w (value text p σ) Q9x):=by
 have:=QaC h hf
 rw [hA.1,hA.2.1] at this
 exact this
theorem Q3g {b:Nat} {k t:Value} {T:TypeId} {w:World} (h:w.heap[b]? = some (.cells #[k,t] T)) :
  w.cell? ⟨b,0,none⟩=some k∧w.cell? ⟨b,1,none⟩=some t∧∀ i,w.frozen? ⟨b,i,none⟩=false:=by
 refine ⟨?_,?_,?_⟩<;>simp [World.cell?,World.frozen?,h]
theorem fin2 {A:Ad} {text:ByteArray} {σ0 σ':St} {w u:World} {M:List Nat} (h:Rd A text σ0 w) (hk:Qb M w u) (hr:Rd (A.add w.heap.size) text σ' u) (v0 v1:Value) :
  Qb M w ((u.setCell ⟨w.heap.size,0,none⟩ v0).setCell ⟨w.heap.size,1,none⟩ v1)∧Rd A text σ' ((u.setCell ⟨w.heap.size,0,none⟩ v0).setCell ⟨w.heap.size,1,none⟩ v1):=by
 refine ⟨(hk.setNew (Nat.le_refl _) _).setNew (Nat.le_refl _) _,Rd.drop (b:=w.heap.size) h.mine ?_⟩
 have hs:=fun {u:World} (hu:Rd (A.add w.heap.size) text σ' u) (i:Nat) (v:Value)=>Rd.setNew (A':=A.add w.heap.size) h ⟨rfl,rfl,rfl,rfl⟩ hu (p:=⟨w.heap.size,i,none⟩) (Nat.le_refl _) (by simp [Ad.add]) v
 exact hs (hs hr 0 _) 1 _
theorem QhM {A:Ad} {text:ByteArray} {σ:St} {w:World} (h:Rd A text σ w) :
  Calls Tryz.prog 161 #[.pointer (some ⟨A.R,0,none⟩)] w (Qt [A.S] A text w (most text σ) Q4s):=by
 have hltS:=h.lt.2.1
 have hne:w.heap.size ∉ [A.S]:=by simp;omega
 have hb0:=Qg (w:=w) (o:=.cells #[.int .i64 0,.bool false] 304) rfl
 have hO:=h.own (.cells #[.int .i64 0,.bool false] 304)
 have hk0:=(Qb.refl [A.S] w).alloc (.cells #[.int .i64 0,.bool false] 304)
 go_enter Tryz.func161,Tryz.ntmps161
 go_wp2_with fail
 refine (Q02 (Same.add A _) _ hO).mono ?_
 rintro e w1 ⟨hk1,⟨x1,σ1,hx1,rfl,hr1⟩ | ⟨f,hx1,b,hbb,rfl,hcell⟩⟩
 rotate_left
 ·exact Qa (Qt.throws (hk0.trans hk1) hk0 (Qp hx1) hbb hcell)
 have hb1:=(hk1.block _ (Qc hb0) hne).trans hb0
 have hK1:=hk0.trans hk1
 clear hb0 hk0 hk1
 go_wp2_with fail
 refine (Q2r (Same.add A _) _ hr1).mono ?_
 rintro e w2 ⟨hk2,⟨y,σ2,hx2,rfl,hr2⟩ | ⟨f,hx2,b,hbb,rfl,hcell⟩⟩
 rotate_left
 ·exact Qa (Qt.throws (hK1.trans hk2) hK1 ((Qh hx1).trans (Qp hx2)) hbb hcell)
 have hb2:=(hk2.block _ (Qc hb1) hne).trans hb1
 have hK2:=hK1.trans hk2
 clear hb1 hk2 hK1
 obtain ⟨r0,r1,hfrR⟩:=Q3g hb2
 cases y with
 | true=>
  go_wp2
  obtain ⟨f1,f2⟩:=fin2 h hK2 hr2 (.int .i64 4294967295) (.bool false)
  exact bodyPost_ret (v:=.agg #[.int .i64 4294967295,.bool false]) (by simp [results,Tryz.results161,go_sem,r0,r1]) rfl (Qt.ok (a:=(4294967295,false)) f1 ((Qh hx1).trans (Qh hx2)) rfl f2)
 | false=>
  go_wp2_with fail
  refine (Q2Y _ _ _).mono ?_
  rintro e w3 ⟨v,rfl,hb3,hfit⟩
  have hfit3:=hfit (A.add w.heap.size).X hr2.old
  have hr3:=hr2.below hb3
  have hK3:=hK2.trans (Qb.of_below [A.S] hb3)
  have hc3:=(hb3.block _ (Qc hb2)).trans hb2
  clear hfit hb2 hb3 hK2
  go_wp2_with fail
  refine (Q8W (Same.add A _) hr3 hfit3).mono ?_
  rintro e w4 ⟨hk4,⟨q,σ4,hx4,rfl,hr4⟩ | ⟨f,hx4,b,hbb,rfl,hcell⟩⟩
  rotate_left
  ·exact Qa (Qt.throws (hK3.trans hk4) hK3 ((Qh hx1).trans ((Qh hx2).trans (Qp hx4))) hbb hcell)
  have hK4:=hK3.trans hk4
  have hc4:=(hk4.block _ (Qc hc3) hne).trans hc3
  clear hk4 hK3 hc3 hfit3
  dsimp only [Q9x]
  go_wp2_with fail
  refine (Q02 (Same.add A _) _ hr4).mono ?_
  rintro e w5 ⟨hk5,⟨x5,σ5,hx5,rfl,hr5⟩ | ⟨f,hx5,b,hbb,rfl,hcell⟩⟩
  rotate_left
  ·exact Qa (Qt.throws (hK4.trans hk5) hK4 ((Qh hx1).trans ((Qh hx2).trans ((Qh hx4).trans (Qp hx5)))) hbb hcell)
  have hK5:=hK4.trans hk5
  have hc5:=(hk5.block _ (Qc hc4) hne).trans hc4
  clear r0 r1 hfrR
  obtain ⟨r0,r1,hfrR⟩:=Q3g hc5
  clear hk5 hK4 hc4
  go_wp2
  obtain ⟨f1,f2⟩:=fin2 h hK5 hr5 (.int .i64 q.1) (.bool false)
  exact bodyPost_ret (v:=.agg #[.int .i64 q.1,.bool false]) (by simp [results,Tryz.results161,go_sem,r0,r1]) rfl (Qt.ok (a:=(q.1,false)) f1 ((Qh hx1).trans ((Qh hx2).trans ((Qh hx4).trans (Qh hx5)))) rfl f2)
theorem QdU {A' A:Ad} (hA:Same A' A) {text:ByteArray} {σ:St} {w:World} (h:Rd A' text σ w) :
  Calls Tryz.prog 161 #[.pointer (some ⟨A.R,0,none⟩)] w (Qt [A.S] A' text w (most text σ) Q4s):=by
 have:=QhM h
 rw [hA.1,hA.2.1] at this
 exact this
def bound (text:ByteArray):PM (Int×Bool):=bnd (Q13 text [91]) fun y=>
 if y then bnd (value text (Q1V 1 1000)) fun q=>bnd (QX text [93]) fun _=>ret (q.1,true) else most text
theorem QfZ {A:Ad} {text:ByteArray} {σ:St} {w:World} (h:Rd A text σ w) :
  Calls Tryz.prog 160 #[.pointer (some ⟨A.R,0,none⟩)] w (Qt [A.S] A text w (bound text σ) Q4s):=by
 have hltS:=h.lt.2.1
 have hne:w.heap.size ∉ [A.S]:=by simp;omega
 have hb0:=Qg (w:=w) (o:=.cells #[.int .i64 0,.bool false] 304) rfl
 have hO:=h.own (.cells #[.int .i64 0,.bool false] 304)
 have hk0:=(Qb.refl [A.S] w).alloc (.cells #[.int .i64 0,.bool false] 304)
 go_enter Tryz.func160,Tryz.ntmps160
 go_wp2_with fail
 refine (Q2r (Same.add A _) _ hO).mono ?_
 rintro e w2 ⟨hk2,⟨y,σ2,hx2,rfl,hr2⟩ | ⟨f,hx2,b,hbb,rfl,hcell⟩⟩
 rotate_left
 ·exact Qa (Qt.throws (hk0.trans hk2) hk0 (Qp hx2) hbb hcell)
 have hb2:=(hk2.block _ (Qc hb0) hne).trans hb0
 have hK2:=hk0.trans hk2
 clear hb0 hk2 hk0
 cases y with
 | false=>
  go_wp2_with fail
  refine (QdU (Same.add A _) hr2).mono ?_
  rintro e w3 ⟨hk3,⟨q,σ3,hx3,rfl,hr3⟩ | ⟨f,hx3,b,hbb,rfl,hcell⟩⟩
  rotate_left
  ·exact Qa (Qt.throws (hK2.trans hk3) hK2 ((Qh hx2).trans hx3) hbb hcell)
  have hK3:=hK2.trans hk3
  have hc3:=(hk3.block _ (Qc hb2) hne).trans hb2
  obtain ⟨r0,r1,hfrR⟩:=Q3g hc3
  clear hk3 hK2 hc3 hb2
  dsimp only [Q4s]
  go_wp2
  obtain ⟨f1,f2⟩:=fin2 h hK3 hr3 (.int .i64 q.1) (.bool q.2)
  exact bodyPost_ret (v:=.agg #[.int .i64 q.1,.bool q.2]) (by simp [results,Tryz.results160,go_sem,r0,r1]) rfl (Qt.ok (a:=q) f1 ((Qh hx2).trans hx3) rfl f2)
 | true=>
  go_wp2_with fail
  refine (Q2Y _ _ _).mono ?_
  rintro e w3 ⟨v,rfl,hb3,hfit⟩
  have hfit3:=hfit (A.add w.heap.size).X hr2.old
  have hr3:=hr2.below hb3
  have hK3:=hK2.trans (Qb.of_below [A.S] hb3)
  have hc3:=(hb3.block _ (Qc hb2)).trans hb2
  clear hfit hb2 hb3 hK2
  go_wp2_with fail
  refine (Q8W (Same.add A _) hr3 hfit3).mono ?_
  rintro e w4 ⟨hk4,⟨q,σ4,hx4,rfl,hr4⟩ | ⟨f,hx4,b,hbb,rfl,hcell⟩⟩
  rotate_left
  ·exact Qa (Qt.throws (hK3.trans hk4) hK3 ((Qh hx2).trans (Qp hx4)) hbb hcell)
  have hK4:=hK3.trans hk4
  have hc4:=(hk4.block _ (Qc hc3) hne).trans hc3
  clear hk4 hK3 hc3 hfit3
  dsimp only [Q9x]
  go_wp2_with fail
  refine (Q02 (Same.add A _) _ hr4).mono ?_
  rintro e w5 ⟨hk5,⟨x5,σ5,hx5,rfl,hr5⟩ | ⟨f,hx5,b,hbb,rfl,hcell⟩⟩
  rotate_left
  ·exact Qa (Qt.throws (hK4.trans hk5) hK4 ((Qh hx2).trans ((Qh hx4).trans (Qp hx5))) hbb hcell)
  have hK5:=hK4.trans hk5
  have hc5:=(hk5.block _ (Qc hc4) hne).trans hc4
  obtain ⟨r0,r1,hfrR⟩:=Q3g hc5
  clear hk5 hK4 hc4
  go_wp2
  obtain ⟨f1,f2⟩:=fin2 h hK5 hr5 (.int .i64 q.1) (.bool true)
  exact bodyPost_ret (v:=.agg #[.int .i64 q.1,.bool true]) (by simp [results,Tryz.results160,go_sem,r0,r1]) rfl (Qt.ok (a:=(q.1,true)) f1 ((Qh hx2).trans ((Qh hx4).trans (Qh hx5))) rfl f2)
def side (text:ByteArray):PM Ty:=bnd (Q13 text [118,111,105,100]) fun y=>if y then ret .void else Q3q text
theorem QhN {A:Ad} {text:ByteArray} {σ:St} {w:World} (h:Rd A text σ w) :
  Calls Tryz.prog 179 #[.pointer (some ⟨A.R,0,none⟩)] w (Qt [A.S] A text w (side text σ) tyV):=by
 have HC:=Hid.mk (Q4r ⟨#[118,111,105,100]⟩ h)
 go_enter Tryz.func179,Tryz.ntmps179
 go_wp2_with fail
 refine HC.out.mono ?_
 rintro e w2 ⟨hk2,⟨y,σ2,hx2,rfl,hr2⟩ | ⟨f,hx2,b,hbb,rfl,hcell⟩⟩
 rotate_left
 ·exact Qa (Qt.throws hk2 (Qb.refl [] _) (Qp hx2) hbb hcell)
 cases y with
 | true=>
  go_wp2
  go_ret
  exact Qt.ok (a:=.void) hk2 ((Qh hx2).trans rfl) rfl hr2
 | false=>
  go_wp2_with fail
  refine (Q7N hr2).mono ?_
  rintro e w3 ⟨hk3,⟨t,σ3,hx3,rfl,hr3⟩ | ⟨f,hx3,b,hbb,rfl,hcell⟩⟩
  rotate_left
  ·exact Qa (Qt.throws (hk2.trans hk3) hk2 ((Qh hx2).trans hx3) hbb hcell)
  go_wp2
  go_ret
  exact Qt.ok (hk2.trans hk3) ((Qh hx2).trans hx3) rfl hr3
end Go.Proofs.YtmbcibgknckenaaGreatDoor
namespace Go.Proofs.YtmbcibgknckenaaGreatDoor
open Go.RowKit
open Go.MapKept
abbrev Q04 (w:World) (N:Nat) (o:Obj):World:={ w with heap:=w.heap.setIfInBounds N o }
theorem Q06 (w:World) (N:Nat) (o:Obj):Qb [N] w (Q04 w N o):=by
 refine ⟨rfl,rfl,rfl,by simp [Q04],fun k _ hk=>?_⟩
 simp at hk
 show (w.heap.setIfInBounds N o)[k]? = _
 rw [Array.getElem?_setIfInBounds_ne (fun e=>hk e.symm)]
theorem Q1k {w:World} {N:Nat} (h:N < w.heap.size) (o:Obj):(Q04 w N o).heap[N]? = some o:=by
 show (w.heap.setIfInBounds N o)[N]? = _
 simp [h]
theorem Q7D (l:List (List UInt8×Value)) (k:List UInt8) (v:Value) :
  Q48 (l++[(k,v)]) = .map ((l.mapIdx fun i p=>(⟨.string ⟨p.1.toArray⟩,p.2,i⟩:MapEntry)).toArray.push ⟨.string ⟨k.toArray⟩,v,l.length⟩) (l.length + 1):=by
 simp [Q48,List.mapIdx_append]
theorem Q1p.put {X:List Nat} {N:Nat} {l:List (List UInt8×Option DefL)} {w:World} (h:Q1p X N l w) (hX:N∈X) {k:List UInt8} (hn:look l k=none) :
  ∃ o,(Instr.mapUpdate 104 (.map (some N)) (.string ⟨k.toArray⟩) .nilIface).run Tryz.prog w = .ok () (Q04 w N o)∧Q1p X N (l++[(k,none)]) (Q04 w N o):=by
 obtain ⟨nd,bs,vs,h1,h2,h3,h4⟩:=h
 have hlt:=Qc h3
 have hnk:∀ p∈l,p.1≠k:=by
  intro p hp e
  rw [Q7P nd hp e] at hn
  cases hn
 have hes:=Q3F (l.zip vs |>.map fun p=>(p.1.1,p.2))
 have hrun:=Q8l (P:=Tryz.prog) (T:=104) (kt:=9) (et:=113) (d:=.string) (by kernel_rfl) (by kernel_rfl) (k:=.string ⟨k.toArray⟩) trivial h3 (by simpa using hes) (by
  intro x hx e
  simp only [List.toList_toArray] at hx
  obtain ⟨i,hi,rfl⟩:=List.mem_mapIdx.1 hx
  simp at e hi
  exact hnk _ (List.getElem_mem (by omega)) e) .nilIface
 refine ⟨_,hrun,?_,bs,vs++[.nilIface],h1.keeps (Q06 _ _ _) (by simpa using hX),by simp [h2],?_,?_⟩
 ·simp only [List.map_append,List.map_cons,List.map_nil]
  rw [List.nodup_append]
  refine ⟨nd,by simp,?_⟩
  intro a ha b hb e
  simp at hb
  subst hb
  subst e
  obtain ⟨p,hp,rfl⟩:=List.mem_map.1 ha
  exact hnk p hp rfl
 ·rw [Q1k hlt]
  rw [List.zip_append (by omega)]
  simp only [List.map_append,List.zip_cons_cons,List.zip_nil_left,List.map_cons,List.map_nil]
  rw [Q7D]
 ·intro i hi hi'
  by_cases hil:i < l.length
  ·rw [List.getElem_append_left hil,List.getElem_append_left (by omega)]
   exact h4 i hil (by omega)
  ·simp at hi
   have:i=l.length:=by omega
   subst this
   simp [Q1z,h2.symm]
def Q1s (x:Mar.Word):PM Unit:=fun σ=>
 match look σ.names x.text with
 | none=>.ok ((),{ σ with names:=σ.names++[(x.text,none)] })
 | some _=>.error ⟨6,x.at'⟩
theorem Rd.putNames {A:Ad} {text:ByteArray} {σ:St} {w:World} {l:List (List UInt8×Option DefL)} {o:Obj} (h:Rd A text σ w) (hn:Q1p A.X A.N l (Q04 w A.N o)):Rd A text { σ with names:=l } (Q04 w A.N o):=by
 obtain ⟨l1,l2,l3,l4⟩:=h.lt
 obtain ⟨n1,n2,n3,n4,n5,n6⟩:=h.apart
 have hk:=Q06 w A.N o
 obtain ⟨es,c,hN⟩:=h.nm.heap
 refine ⟨(hk.block _ l1 (by simp [n2])).trans h.me,?_,hn,h.mine,fun x hx=>Nat.lt_of_lt_of_le (h.old x hx) hk.size,(hk.block _ l4 (by simp;exact fun e=>n6 e.symm)).trans h.pr,h.np,?_,h.small,h.few⟩
 ·obtain ⟨ha,hs⟩:=h.sc
  have hb:=hk.block _ l2 (by simp [n4])
  refine ⟨ha,?_⟩
  cases hn:σ.nx with
  | some x=>rw [hn] at hs;exact hb.trans hs
  | none=>rw [hn] at hs;obtain ⟨k,t,n,a,hs⟩:=hs;exact ⟨k,t,n,a,hb.trans hs⟩
 ·have far:∀ b v,w.cell? ⟨b,0,none⟩=some v→b≠A.N:=by
   intro b v hc e
   subst e
   unfold World.cell? at hc
   rw [hN] at hc
   cases hc
  obtain ⟨⟨m,g1⟩,⟨_,_,g2⟩,⟨_,_,g3⟩⟩:=id h.gl
  exact h.gl.keeps hk (by simp [far _ _ g1]) (by simp [far _ _ g2]) (by simp [far _ _ g3])
theorem QbH {A:Ad} {text:ByteArray} {σ:St} (x:Mar.Word) {w:World} (h:Rd A text σ w) :
  Calls Tryz.prog 157 #[.map (some A.N),.string ⟨x.text.toArray⟩,.nilIface,.int .i64 x.at'] w (Qt [A.N] A text w (Q1s x σ) Q6k):=by
 rcases Q5j h.nm x.text true with ⟨hl,hrun⟩ | ⟨o,v,bs,hl,hh,hent,hrun⟩
 ·simp only [if_true] at hrun
  obtain ⟨o,hput,hnew⟩:=h.nm.put h.mine.2.2.1 hl
  have HN:=Hid.mk (h.putNames hnew)
  have HE:Hid (Q1s x σ = .ok ((),{ σ with names:=σ.names++[(x.text,none)] })):=by show _=_;simp only [Q1s,hl]
  clear hnew hl
  go_enter Tryz.func157,Tryz.ntmps157
  go_wp2
  go_end0
  exact Qt.ok (a:=()) (Q06 _ _ _) HE.out rfl HN.out
 ·simp only [if_true] at hrun
  have HE:Hid (Q1s x σ = .error ⟨6,x.at'⟩):=by show _=_;simp only [Q1s,hl]
  clear hl hh hent
  go_enter Tryz.func157,Tryz.ntmps157
  go_wp2_with (go_at_call 47;refine (QY _ _ _).mono ?_;rintro e w' ⟨rfl,rfl⟩)
  exact Qa (Qt.throws (M':=[]) (w1:=w) (f:=⟨6,x.at'⟩) ((Qb.refl _ _).alloc _) (Qb.refl _ _) HE.out (Nat.le_refl _) (Qg rfl))
theorem Qb.cell {M:List Nat} {w w':World} (hk:Qb M w w') {b o:Nat} {v:Value} (hb:b ∉ M) (h:w.cell? ⟨b,o,none⟩=some v):w'.cell? ⟨b,o,none⟩=some v:=by
 have:=hk.block b (Q1g h) hb
 unfold World.cell? at h ⊢
 rw [this]
 exact h
theorem Qem {A:Ad} {text:ByteArray} {σ:St} (x:Mar.Word) {w:World} (h:Rd A text σ w) :
  Calls Tryz.prog 120 #[.pointer (some ⟨A.R,0,none⟩),QZ x] w (Qt [A.N] A text w (Q1s x σ) Q6k):=by
 obtain ⟨c0,c1,c2,c3,c4,hfr⟩:=h.cells
 have hlt:=h.lt.1
 have hltN:=h.lt.2.2.1
 have hRN:=h.apart.2.1
 have hk0:=((Qb.refl [A.N] w).alloc (.cells #[.int .i64 x.kind,.string ⟨x.text.toArray⟩,.int .i64 x.n,.int .i64 x.at'] 110)).drew
 have HC:=Hid.mk (QbH x (h.below (((Below.refl w.heap.size w).alloc (Nat.le_refl _) (.cells #[.int .i64 x.kind,.string ⟨x.text.toArray⟩,.int .i64 x.n,.int .i64 x.at'] 110)).drew)))
 have hblk:=Qg (w:=w) (o:=.cells #[.int .i64 x.kind,.string ⟨x.text.toArray⟩,.int .i64 x.n,.int .i64 x.at'] 110) rfl
 obtain ⟨y0,y1,y2,y3,_⟩:=Q0t hblk
 have k1:(w.alloc (.cells #[.int .i64 x.kind,.string ⟨x.text.toArray⟩,.int .i64 x.n,.int .i64 x.at'] 110)).cell? ⟨A.R,1,none⟩=some (.map (some A.N)):=Q3D ((Below.refl w.heap.size w).alloc (Nat.le_refl _) _) rfl c1
 have Y1:=Hid.mk y1
 have Y3:=Hid.mk y3
 have K1:=Hid.mk k1
 have HK0:=Hid.mk hk0
 have fin_err:∀ (f:Mar.Fault) (b:Nat) (w2:World),Q1s x σ = .error f→w.heap.size + 1≤b→Qb [A.N] w w2→w2.heap[b]? = some (.cells #[.int .i64 f.no,.int .i64 f.at'] 83) →
   Qt [A.N] A text w (Q1s x σ) Q6k (.panicked [{ v:=.iface 79 (.pointer (some ⟨b,0,none⟩)),recovered:=false }]) w2:=by
  intro f b w2 hf hb hk hc
  exact Qt.throws (M':=[]) (w1:=w) hk (Qb.refl _ _) hf (by omega) hc
 have FE:=Hid.mk fin_err
 clear hk0 y0 y1 y2 y3 k1 hblk fin_err
 dsimp only [QZ]
 go_enter Tryz.func120,Tryz.ntmps120
 go_wp2
 go_region_held2 (fun w'=>w'.cell? ⟨A.R,1,none⟩=some (.map (some A.N))∧w'.cell? ⟨w.heap.size,1,none⟩=some (.string ⟨x.text.toArray⟩)∧w'.cell? ⟨w.heap.size,3,none⟩=some (.int .i64 x.at')) (go_keep)
  (first | (go_at_call 157;refine HC.out.mono ?_;rintro e w2 ⟨hk,⟨u,σ',hx,rfl,hr⟩ | ⟨f,hx,b,hbb,rfl,hcell⟩⟩;rotate_left;exact Qa (FE.out f b w2 hx (by simpa using hbb) (HK0.out.trans hk) hcell);have q1:=hk.cell (by simpa using hRN) K1.out;have q2:=hk.cell (b:=w.heap.size) (by simp;omega) Y1.out;have q3:=hk.cell (b:=w.heap.size) (by simp;omega) Y3.out;have Hk:=Hid.mk hk;have Hx:=Hid.mk hx;have Hr:=Hid.mk hr;clear hk hx hr))
 go_wp2
 go_end0
 exact Qt.ok (a:=()) (HK0.out.trans Hk.out) Hx.out rfl Hr.out
def Q0l (q:Nat) (l:List (List UInt8)) (w:World):Prop:=l.Nodup∧∃ vs:List Value,vs.length=l.length∧w.heap[q]? = some (Q48 (l.zip vs))
theorem Q0l.keeps {q:Nat} {l:List (List UInt8)} {w w':World} {M:List Nat} (h:Q0l q l w) (hk:Qb M w w') (hq:q ∉ M):Q0l q l w':=by
 obtain ⟨nd,vs,h1,h2⟩:=h
 exact ⟨nd,vs,h1,(hk.block _ (Qc h2) hq).trans h2⟩
theorem Q0l.lt {q:Nat} {l:List (List UInt8)} {w:World} (h:Q0l q l w):q < w.heap.size:=by
 obtain ⟨nd,vs,h1,h2⟩:=h
 exact Qc h2
theorem Q8X {q:Nat} {l:List (List UInt8)} {w:World} (h:Q0l q l w) (k:List UInt8) :
  (k ∉ l∧(Instr.lookup 64 (.map (some q)) (.string ⟨k.toArray⟩) true).run Tryz.prog w = .ok (.tuple #[.int .i64 0,.bool false]) w) ∨
  (∃ v,k∈l∧(Instr.lookup 64 (.map (some q)) (.string ⟨k.toArray⟩) true).run Tryz.prog w = .ok (.tuple #[v,.bool true]) w):=by
 obtain ⟨nd,vs,h2,h3⟩:=h
 have hes:=Q3F (l.zip vs)
 have hz:(zeroValue 3).run Tryz.prog w = .ok (.int .i64 0) w:=by kernel_rfl
 rcases Q5Q (P:=Tryz.prog) (T:=64) (kt:=9) (et:=3) (d:=.string) (by kernel_rfl) (by kernel_rfl) (k:=.string ⟨k.toArray⟩) trivial h3 (by simpa using hes) hz true with ⟨g1,g2⟩ | ⟨j,e,g1,g2,g3⟩
 ·refine Or.inl ⟨?_,by simpa using g2⟩
  intro hk
  obtain ⟨i,hi,rfl⟩:=List.getElem_of_mem hk
  have hi':i < vs.length:=by omega
  have hm:(⟨.string ⟨l[i].toArray⟩,vs[i],i⟩:MapEntry)∈((l.zip vs).mapIdx fun i p=>(⟨.string ⟨p.1.toArray⟩,p.2,i⟩:MapEntry)).toArray.toList:=by
   simp only [List.toList_toArray]
   rw [List.mem_mapIdx]
   exact ⟨i,by simp;omega,by simp⟩
  exact g1 _ hm rfl
 ·simp only [List.toList_toArray,List.getElem?_mapIdx] at g1
  have hj:j < l.length:=by
   by_cases hj:j < l.length
   ·exact hj
   ·rw [List.getElem?_eq_none (by simp;omega)] at g1
    cases g1
  have hj':j < vs.length:=by omega
  rw [List.getElem?_eq_getElem (by simp;omega)] at g1
  simp at g1
  subst g1
  simp at g2 g3
  exact Or.inr ⟨vs[j],by rw [← g2];exact List.getElem_mem hj,g3⟩
theorem Q0l.put {q:Nat} {l:List (List UInt8)} {w:World} (h:Q0l q l w) {k:List UInt8} (hn:k ∉ l) (v:Value) :
  ∃ o,(Instr.mapUpdate 64 (.map (some q)) (.string ⟨k.toArray⟩) v).run Tryz.prog w = .ok () (Q04 w q o)∧Q0l q (l++[k]) (Q04 w q o):=by
 obtain ⟨nd,vs,h2,h3⟩:=h
 have hlt:=Qc h3
 have hes:=Q3F (l.zip vs)
 have hrun:=Q8l (P:=Tryz.prog) (T:=64) (kt:=9) (et:=3) (d:=.string) (by kernel_rfl) (by kernel_rfl) (k:=.string ⟨k.toArray⟩) trivial h3 (by simpa using hes) (by
  intro x hx e
  simp only [List.toList_toArray] at hx
  obtain ⟨i,hi,rfl⟩:=List.mem_mapIdx.1 hx
  simp at e hi
  exact hn (by rw [← e];exact List.getElem_mem (by omega))) v
 refine ⟨_,hrun,?_,vs++[v],by simp [h2],?_⟩
 ·rw [List.nodup_append]
  refine ⟨nd,by simp,?_⟩
  intro a ha b hb e
  simp at hb
  subst hb
  subst e
  exact hn ha
 ·rw [Q1k hlt]
  rw [List.zip_append (by omega)]
  simp only [List.zip_cons_cons,List.zip_nil_left]
  rw [Q7D]
def Q4t (x:Mar.Word) (l:List (List UInt8)):Except Mar.Fault (List (List UInt8)):=if l.contains x.text then .error ⟨6,x.at'⟩ else .ok (l++[x.text])
theorem Qb1 {q:Nat} {l:List (List UInt8)} (x:Mar.Word) {w:World} (h:Q0l q l w) :
  Calls Tryz.prog 165 #[.map (some q),.string ⟨x.text.toArray⟩,.int .i64 x.at',.int .i64 x.at'] w fun e w'=>Qb [q] w w' ∧
   ((∃ l',Q4t x l = .ok l'∧e = .returned (.tuple #[])∧Q0l q l' w')∨(∃ f,Q4t x l = .error f∧Q0c w f.no f.at' e w')):=by
 rcases Q8X h x.text with ⟨hl,hrun⟩ | ⟨v,hl,hrun⟩
 ·obtain ⟨o,hput,hnew⟩:=h.put hl (.int .i64 x.at')
  have HN:=Hid.mk hnew
  have HE:Hid (Q4t x l = .ok (l++[x.text])):=by show _=_;rw [Q4t,if_neg (by simpa using hl)]
  clear hnew hl
  go_enter Tryz.func165,Tryz.ntmps165
  go_wp2
  go_end0
  exact ⟨Q06 _ _ _,Or.inl ⟨_,HE.out,rfl,HN.out⟩⟩
 ·have HE:Hid (Q4t x l = .error ⟨6,x.at'⟩):=by show _=_;rw [Q4t,if_pos (by simpa using hl)]
  clear hl
  go_enter Tryz.func165,Tryz.ntmps165
  go_wp2_with (go_at_call 47;refine (QY _ _ _).mono ?_;rintro e w' ⟨rfl,rfl⟩)
  exact Qa ⟨(Qb.refl _ _).alloc _,Or.inr ⟨⟨6,x.at'⟩,HE.out,w.heap.size,Nat.le_refl _,rfl,Qg rfl⟩⟩
theorem Qen {q bx:Nat} {l:List (List UInt8)} (x:Mar.Word) {w:World} (h:Q0l q l w) (hb:w.cell? ⟨bx,0,none⟩=some (.map (some q))) :
  Calls Tryz.prog 164 #[QZ x,.pointer (some ⟨bx,0,none⟩)] w fun e w'=>Qb [q] w w' ∧
   ((∃ l',Q4t x l = .ok l'∧e = .returned (.tuple #[])∧Q0l q l' w')∨(∃ f,Q4t x l = .error f∧Q0c w f.no f.at' e w')):=by
 have hlt:=Q1g hb
 have HC:=Hid.mk (fun o=>Qb1 x (h.keeps (Qb.of_below [] ((Below.refl w.heap.size w).alloc (Nat.le_refl _) o)) (by simp)))
 dsimp only [QZ]
 go_enter Tryz.func164,Tryz.ntmps164
 go_wp2_with (go_at_call 165;refine (HC.out _).mono ?_;rintro e w2 ⟨hk,⟨l',hx,rfl,hs⟩ | ⟨f,hx,b,hbb,rfl,hcell⟩⟩)
 ·go_end0
  exact ⟨((Qb.refl _ _).alloc _).trans hk,Or.inl ⟨l',hx,rfl,hs⟩⟩
 ·exact Qa ⟨((Qb.refl _ _).alloc _).trans hk,Or.inr ⟨f,hx,b,by simp at hbb;omega,rfl,hcell⟩⟩
def QT (q:Nat) (l:List (Int×Int)) (w:World):Prop:=w.heap[q]? = some (Q8k l)
theorem QT.keeps {q:Nat} {l:List (Int×Int)} {w w':World} {M:List Nat} (h:QT q l w) (hk:Qb M w w') (hq:q ∉ M):QT q l w':=(hk.block _ (Qc h) hq).trans h
theorem QaD (l:List (Int×Int)):∀ x∈(l.mapIdx fun i p=>(⟨.int .i64 p.1,.int .i64 p.2,i⟩:MapEntry)),IsKey (.int .i64) x.key:=by
 intro x hx
 obtain ⟨i,hi,rfl⟩:=List.mem_mapIdx.1 hx
 exact rfl
theorem Qg0 {q:Nat} {l:List (Int×Int)} {w:World} (h:QT q l w) (k:Int) :
  (k ∉ l.map (·.1)∧(Instr.lookup 105 (.map (some q)) (.int .i64 k) true).run Tryz.prog w = .ok (.tuple #[.int .i64 0,.bool false]) w) ∨
  (∃ v,k∈l.map (·.1)∧(Instr.lookup 105 (.map (some q)) (.int .i64 k) true).run Tryz.prog w = .ok (.tuple #[v,.bool true]) w):=by
 have hes:=QaD l
 have hz:(zeroValue 3).run Tryz.prog w = .ok (.int .i64 0) w:=by kernel_rfl
 rcases Q5Q (P:=Tryz.prog) (T:=105) (kt:=2) (et:=3) (d:=.int .i64) (by kernel_rfl) (by kernel_rfl) (k:=.int .i64 k) rfl h (by simpa using hes) hz true with ⟨g1,g2⟩ | ⟨j,e,g1,g2,g3⟩
 ·refine Or.inl ⟨?_,by simpa using g2⟩
  intro hk
  obtain ⟨p,hp,rfl⟩:=List.mem_map.1 hk
  obtain ⟨i,hi,rfl⟩:=List.getElem_of_mem hp
  have hm:(⟨.int .i64 l[i].1,.int .i64 l[i].2,i⟩:MapEntry)∈(l.mapIdx fun i p=>(⟨.int .i64 p.1,.int .i64 p.2,i⟩:MapEntry)).toArray.toList:=by
   simp only [List.toList_toArray]
   rw [List.mem_mapIdx]
   exact ⟨i,hi,rfl⟩
  exact g1 _ hm rfl
 ·simp only [List.toList_toArray,List.getElem?_mapIdx] at g1
  have hj:j < l.length:=by
   by_cases hj:j < l.length
   ·exact hj
   ·rw [List.getElem?_eq_none (by omega)] at g1
    cases g1
  rw [List.getElem?_eq_getElem hj] at g1
  simp at g1
  subst g1
  simp at g2 g3
  exact Or.inr ⟨.int .i64 l[j].2,List.mem_map.2 ⟨l[j],List.getElem_mem hj,g2⟩,g3⟩
theorem QT.put {q:Nat} {l:List (Int×Int)} {w:World} (h:QT q l w) {k:Int} (hn:k ∉ l.map (·.1)) (v:Int) :
  ∃ o,(Instr.mapUpdate 105 (.map (some q)) (.int .i64 k) (.int .i64 v)).run Tryz.prog w = .ok () (Q04 w q o)∧QT q (l++[(k,v)]) (Q04 w q o):=by
 have hlt:=Qc h
 have hes:=QaD l
 have hrun:=Q8l (P:=Tryz.prog) (T:=105) (kt:=2) (et:=3) (d:=.int .i64) (by kernel_rfl) (by kernel_rfl) (k:=.int .i64 k) rfl h (by simpa using hes) (by
  intro x hx e
  simp only [List.toList_toArray] at hx
  obtain ⟨i,hi,rfl⟩:=List.mem_mapIdx.1 hx
  simp at e
  exact hn (List.mem_map.2 ⟨l[i],List.getElem_mem hi,e⟩)) (.int .i64 v)
 refine ⟨_,hrun,?_⟩
 unfold QT
 rw [Q1k hlt]
 simp [Q8k,List.mapIdx_append]
def Q3T (n at':Int) (l:List (Int×Int)) (f:Mar.Fault):Except Mar.Fault (List (Int×Int)):=if (l.map (·.1)).contains n then .error f else .ok (l++[(n,at')])
theorem Q8G {q:Nat} {l:List (Int×Int)} (n:Int) (at':Nat) {w:World} (h:QT q l w) :
  Calls Tryz.prog 178 #[.map (some q),.int .i64 n,.int .i64 at',.int .i64 at'] w fun e w'=>Qb [q] w w' ∧
   ((∃ l' o,Q3T n at' l ⟨6,at'⟩ = .ok l'∧e = .returned (.tuple #[])∧w'=Q04 w q o∧QT q l' w')∨(∃ f,Q3T n at' l ⟨6,at'⟩ = .error f∧Q0c w f.no f.at' e w')):=by
 rcases Qg0 h n with ⟨hl,hrun⟩ | ⟨v,hl,hrun⟩
 ·obtain ⟨o,hput,hnew⟩:=h.put hl at'
  have HN:=Hid.mk hnew
  have HE:Hid (Q3T n at' l ⟨6,at'⟩ = .ok (l++[(n,(at':Int))])):=by show _=_;rw [Q3T,if_neg (by simpa using hl)]
  clear hnew hl
  go_enter Tryz.func178,Tryz.ntmps178
  go_wp2
  go_end0
  exact ⟨Q06 _ _ _,Or.inl ⟨_,o,HE.out,rfl,rfl,HN.out⟩⟩
 ·have HE:Hid (Q3T n at' l ⟨6,at'⟩ = .error ⟨6,at'⟩):=by show _=_;rw [Q3T,if_pos (by simpa using hl)]
  clear hl
  go_enter Tryz.func178,Tryz.ntmps178
  go_wp2_with (go_at_call 47;refine (QY _ _ _).mono ?_;rintro e w' ⟨rfl,rfl⟩)
  exact Qa ⟨(Qb.refl _ _).alloc _,Or.inr ⟨⟨6,at'⟩,HE.out,w.heap.size,Nat.le_refl _,rfl,Qg rfl⟩⟩
def QO {α τ:Type} (M:List Nat) (A:Ad) (text:ByteArray) (w:World) (r:Except Mar.Fault (α×τ×St)) (V:α→Value) (I:τ→World→Prop) (e:Ending) (w':World):Prop:=
 Qb M w w'∧((∃ a t σ',r = .ok (a,t,σ')∧e = .returned (V a)∧Rd A text σ' w'∧I t w')∨(∃ f,r = .error f∧Q0c w f.no f.at' e w'))
abbrev PX (τ α:Type):=τ→St→Except Mar.Fault (α×τ×St)
def lift {τ α:Type} (m:PM α):PX τ α:=fun t σ=>match m σ with
 | .ok (a,σ')=>.ok (a,t,σ')
 | .error f=>.error f
def bndx {τ α β:Type} (m:PX τ α) (k:α→PX τ β):PX τ β:=fun t σ=>match m t σ with
 | .ok (a,t',σ')=>k a t' σ'
 | .error f=>.error f
def retx {τ α:Type} (a:α):PX τ α:=fun t σ=>.ok (a,t,σ)
def Q7d {τ:Type} (c:τ→Except Mar.Fault τ):PX τ Unit:=fun t σ=>match c t with
 | .ok t'=>.ok ((),t',σ)
 | .error f=>.error f
theorem Ql {τ α:Type} {m:PM α} {t:τ} {σ σ':St} {a:α} (h:m σ = .ok (a,σ')):lift m t σ = .ok (a,t,σ'):=by simp only [lift,h]
theorem Qx {τ α:Type} {m:PM α} {t:τ} {σ:St} {f:Mar.Fault} (h:m σ = .error f):lift m t σ = .error f:=by simp only [lift,h]
theorem Qi {τ α β:Type} {m:PX τ α} {k:α→PX τ β} {t t':τ} {σ σ':St} {a:α} (h:m t σ = .ok (a,t',σ')):bndx m k t σ = k a t' σ':=by simp only [bndx,h]
theorem Qm {τ α β:Type} {m:PX τ α} {k:α→PX τ β} {t:τ} {σ:St} {f:Mar.Fault} (h:m t σ = .error f):bndx m k t σ = .error f:=by simp only [bndx,h]
theorem Q5A {τ:Type} {c:τ→Except Mar.Fault τ} {t t':τ} {σ:St} (h:c t = .ok t'):Q7d c t σ = .ok ((),t',σ):=by simp only [Q7d,h]
theorem Q4M {τ:Type} {c:τ→Except Mar.Fault τ} {t:τ} {σ:St} {f:Mar.Fault} (h:c t = .error f):Q7d c t σ = .error f:=by simp only [Q7d,h]
def number (text:ByteArray) (p:Int→Bool):PX (List (Int×Int)) Int:=bndx (lift (value text p)) fun q=>bndx (Q7d fun l=>Q3T q.1 q.2 l ⟨6,q.2⟩) fun _=>retx q.1
theorem QO.ok {α τ:Type} {M:List Nat} {A:Ad} {text:ByteArray} {w w':World} {r:Except Mar.Fault (α×τ×St)} {V:α→Value} {I:τ→World→Prop} {a:α} {t:τ} {σ':St} {v:Value}
  (hk:Qb M w w') (hr:r = .ok (a,t,σ')) (hv:v=V a) (h:Rd A text σ' w') (hi:I t w'):QO M A text w r V I (.returned v) w':=⟨hk,Or.inl ⟨a,t,σ',hr,by rw [hv],h,hi⟩⟩
theorem QO.throws {α τ:Type} {M M':List Nat} {A:Ad} {text:ByteArray} {w w1 w':World} {r:Except Mar.Fault (α×τ×St)} {V:α→Value} {I:τ→World→Prop} {f:Mar.Fault} {b:Nat}
  (hk:Qb M w w') (hk1:Qb M' w w1) (hr:r = .error f) (hb:w1.heap.size≤b) (hc:w'.heap[b]? = some (.cells #[.int .i64 f.no,.int .i64 f.at'] 83)) :
  QO M A text w r V I (.panicked [{ v:=.iface 79 (.pointer (some ⟨b,0,none⟩)),recovered:=false }]) w':=
 ⟨hk,Or.inr ⟨f,hr,b,Nat.le_trans hk1.size hb,rfl,hc⟩⟩
def Free (A:Ad) (q:Nat):Prop:=q∈A.X∧q≠A.R∧q≠A.S∧q≠A.N∧q≠A.P
theorem Rd.turned {A:Ad} {text:ByteArray} {σ:St} {w w':World} {q:Nat} {es:Array MapEntry} {c:Nat} (h:Rd A text σ w) (hk:Qb [q] w w') (hq:Free A q) (hm:w.heap[q]? = some (.map es c)):Rd A text σ w':=by
 obtain ⟨q0,q1,q2,q3,q4⟩:=hq
 have far:∀ b v,w.cell? ⟨b,0,none⟩=some v→b≠q:=by
  intro b v hc e
  subst e
  unfold World.cell? at hc
  rw [hm] at hc
  cases hc
 obtain ⟨⟨m,g1⟩,⟨_,_,g2⟩,⟨_,_,g3⟩⟩:=id h.gl
 exact h.keeps hk (by simpa using q0) (by simp;exact fun e=>q1 e.symm) (by simp;exact fun e=>q2 e.symm) (by simp;exact fun e=>q3 e.symm) (by simp;exact fun e=>q4 e.symm) (by simp [far _ _ g1]) (by simp [far _ _ g2]) (by simp [far _ _ g3])
theorem QbI {A:Ad} {text:ByteArray} {σ:St} {v:Value} {p:Int→Bool} {w:World} (h:Rd A text σ w) (hf:Fits A.X v p w) :
  Calls Tryz.prog 122 #[.pointer (some ⟨A.R,0,none⟩),v] w (Qt [A.S] A text w (value text p σ) fun q=>.tuple #[.int .i64 q.1,.int .i64 q.2]):=QaC h hf
theorem Q8H {A:Ad} {text:ByteArray} {σ:St} {v:Value} {p:Int→Bool} {q:Nat} {l:List (Int×Int)} {w:World} (h:Rd A text σ w) (hf:Fits A.X v p w) (hq:Free A q) (hn:QT q l w) :
  Calls Tryz.prog 163 #[.pointer (some ⟨A.R,0,none⟩),.map (some q),v] w (QO [A.S,q] A text w (number text p l σ) intV (QT q)):=by
 have HC:=Hid.mk (QbI h hf)
 have hqS:q ∉ [A.S]:=by simp;exact hq.2.2.1
 go_enter Tryz.func163,Tryz.ntmps163
 go_wp2_with fail
 refine HC.out.mono ?_
 rintro e w1 ⟨hk1,⟨r,σ1,hx1,rfl,hr1⟩ | ⟨f,hx1,b,hbb,rfl,hcell⟩⟩
 rotate_left
 ·exact Qa (QO.throws (hk1.mono (by simp)) (Qb.refl [] _) (Qm (Qx hx1)) hbb hcell)
 have hn1:=hn.keeps hk1 hqS
 have HK1:=Hid.mk (hk1.mono (M':=[A.S,q]) (by simp))
 clear hk1
 go_wp2_with fail
 refine (Q8G _ _ hn1).mono ?_
 rintro e w2 ⟨hk2,⟨l',o,hx2,rfl,rfl,hn2⟩ | ⟨f,hx2,b,hbb,rfl,hcell⟩⟩
 rotate_left
 ·exact Qa (QO.throws (HK1.out.trans (hk2.mono (by simp))) HK1.out ((Qi (Ql hx1)).trans (Qm (Q4M hx2))) hbb hcell)
 have HR2:=Hid.mk (hr1.turned hk2 hq hn1)
 have HK2:=Hid.mk (HK1.out.trans (hk2.mono (M':=[A.S,q]) (by simp)))
 have HN2:=Hid.mk hn2
 clear hn1 hk2 hn2
 go_wp2
 go_ret
 exact QO.ok (a:=r.1) HK2.out ((Qi (Ql hx1)).trans (Qi (Q5A hx2))) rfl HR2.out HN2.out
def ending (text:ByteArray):PX (List (Int×Int)) Int:=bndx (lift (QX text [61])) fun _=>bndx (number text (Q1V 0 4294967295)) fun n=>bndx (lift (QX text [59])) fun _=>retx n
theorem Qeo {A:Ad} {text:ByteArray} {σ:St} {q:Nat} {l:List (Int×Int)} {w:World} (h:Rd A text σ w) (hq:Free A q) (hn:QT q l w) :
  Calls Tryz.prog 138 #[.pointer (some ⟨A.R,0,none⟩),.map (some q)] w (QO [A.S,q] A text w (ending text l σ) intV (QT q)):=by
 have hqS:q ∉ [A.S]:=by simp;exact hq.2.2.1
 go_enter Tryz.func138,Tryz.ntmps138
 go_wp2_with fail
 refine (Q3E _ h).mono ?_
 rintro e w1 ⟨hk1,⟨x1,σ1,hx1,rfl,hr1⟩ | ⟨f,hx1,b,hbb,rfl,hcell⟩⟩
 rotate_left
 ·exact Qa (QO.throws (hk1.mono (by simp)) (Qb.refl [] _) (Qm (Qx hx1)) hbb hcell)
 have hn1:=hn.keeps hk1 hqS
 have hK1:=hk1.mono (M':=[A.S,q]) (by simp)
 clear hk1
 go_wp2_with fail
 refine (Q2Y _ _ _).mono ?_
 rintro e w2 ⟨v,rfl,hb2,hfit⟩
 have hf2:=hfit A.X hr1.old
 have hr2:=hr1.below hb2
 have hn2:=hn1.keeps (Qb.of_below [] hb2) (by simp)
 have hK2:=hK1.trans (Qb.of_below _ hb2)
 clear hfit hb2 hn1 hK1
 go_wp2_with fail
 refine (Q8H hr2 hf2 hq hn2).mono ?_
 rintro e w3 ⟨hk3,⟨n,l3,σ3,hx3,rfl,hr3,hn3⟩ | ⟨f,hx3,b,hbb,rfl,hcell⟩⟩
 rotate_left
 ·exact Qa (QO.throws (hK2.trans hk3) hK2 ((Qi (Ql hx1)).trans (Qm hx3)) hbb hcell)
 have hK3:=hK2.trans hk3
 clear hf2 hK2 hk3 hn2
 dsimp only [intV]
 go_wp2_with fail
 refine (Q3E _ hr3).mono ?_
 rintro e w4 ⟨hk4,⟨x4,σ4,hx4,rfl,hr4⟩ | ⟨f,hx4,b,hbb,rfl,hcell⟩⟩
 rotate_left
 ·exact Qa (QO.throws (hK3.trans (hk4.mono (by simp))) hK3 ((Qi (Ql hx1)).trans ((Qi hx3).trans (Qm (Qx hx4)))) hbb hcell)
 go_wp2
 go_ret
 exact QO.ok (a:=n) (hK3.trans (hk4.mono (by simp))) ((Qi (Ql hx1)).trans ((Qi hx3).trans (Qi (Ql hx4)))) rfl hr4 (hn3.keeps hk4 hqS)
structure Q0h (τ:Type) where
 f:Nat
 pre:Array Value
 post:Array Value
 M:List Nat
 bs:List (Nat×Obj)
 I:τ→World→Prop
 run:Mar.Word→PX τ Unit
def Q0h.v {τ:Type} (C:Q0h τ):Value:=.func (.func C.f) C.pre C.post
structure Q1W {τ:Type} (C:Q0h τ) (A:Ad) (text:ByteArray):Prop where
 enters:∀ args W,(callFunc C.f args).run Tryz.prog W = .ok (.enter C.f args) W
 stable:∀ {t:τ} {w w':World} {M':List Nat},C.I t w→Qb M' w w'→(∀ m∈M',m ∉ C.M)→C.I t w'
 far:A.S ∉ C.M
 inX:∀ m∈C.M,m∈A.X
 call:∀ {A':Ad} {σ:St} {t:τ} {W:World} (x:Mar.Word),Same A' A→(∀ b∈A.X,b∈A'.X)→Rd A' text σ W→C.I t W→Held A.X C.bs W →
  Calls Tryz.prog C.f (C.pre.push (QZ x)++C.post) W (QO C.M A' text W (C.run x t σ) Q6k C.I)
def thrx {τ α:Type} (no at':Nat):PX τ α:=fun _ _=>.error ⟨no,at'⟩
def name {τ:Type} (text:ByteArray) (C:Q0h τ):PX τ (List UInt8×Nat):=bndx (lift (next text)) fun x=>if ((x.kind:Int) == 1) then bndx (C.run x) fun _=>retx (x.text,x.at') else thrx 3 x.at'
abbrev Q1q:List UInt8×Nat→Value:=fun q=>.agg #[.string ⟨q.1.toArray⟩,.int .i64 q.2]
theorem Qj9 {A' A:Ad} (hA:Same A' A) {text:ByteArray} {σ:St} {w:World} (h:Rd A' text σ w) :
  Calls Tryz.prog 85 #[.pointer (some ⟨A.S,0,none⟩)] w (Qt [A.S] A' text w (next text σ) QZ):=by
 have:=Q2W h
 rw [hA.2.1] at this
 exact this
theorem Q7R {τ:Type} {C:Q0h τ} {A:Ad} {text:ByteArray} {σ:St} {t:τ} {w:World} (hC:Q1W C A text) (h:Rd A text σ w) (hi:C.I t w) (hh:Held A.X C.bs w) :
  Calls Tryz.prog 119 #[.pointer (some ⟨A.R,0,none⟩),C.v] w (QO (A.S :: C.M) A text w (name text C t σ) Q1q C.I):=by
 obtain ⟨c0,c1,c2,c3,c4,hfr⟩:=h.cells
 have hltR:=h.lt.1
 have hltS:=h.lt.2.1
 have hneM:w.heap.size ∉ A.S :: C.M:=by
  simp only [List.mem_cons,not_or]
  exact ⟨by omega,fun hm=>by have:=h.old _ (hC.inX _ hm);omega⟩
 have hne:w.heap.size ∉ [A.S]:=by simp;omega
 have hb0:=Qg (w:=w) (o:=.cells #[.string ⟨#[]⟩,.int .i64 0] 116) rfl
 have hO:=h.own (.cells #[.string ⟨#[]⟩,.int .i64 0] 116)
 have hk0:=(Qb.refl (A.S :: C.M) w).alloc (.cells #[.string ⟨#[]⟩,.int .i64 0] 116)
 have hi0:=hC.stable hi (Qb.of_below [] ((Below.refl w.heap.size w).alloc (Nat.le_refl _) (.cells #[.string ⟨#[]⟩,.int .i64 0] 116))) (by simp)
 have hh0:=hh.keeps (Qb.of_below [] ((Below.refl w.heap.size w).alloc (Nat.le_refl _) (.cells #[.string ⟨#[]⟩,.int .i64 0] 116))) (by simp)
 have hent:=hC.enters
 show Calls Tryz.prog 119 #[.pointer (some ⟨A.R,0,none⟩),.func (.func C.f) C.pre C.post] w _
 go_enter Tryz.func119,Tryz.ntmps119
 go_wp2_with fail
 refine (Qj9 (Same.add A _) hO).mono ?_
 rintro e w1 ⟨hk1,⟨x,σ1,hx1,rfl,hr1⟩ | ⟨f,hx1,b,hbb,rfl,hcell⟩⟩
 rotate_left
 ·exact Qa (QO.throws (hk0.trans (hk1.mono (by simp))) hk0 (Qm (Qx hx1)) hbb hcell)
 have hb1:=(hk1.block _ (Qc hb0) hne).trans hb0
 have hK1:=hk0.trans (hk1.mono (M':=A.S :: C.M) (by simp))
 have hi1:=hC.stable hi0 hk1 (by simp;exact hC.far)
 have hh1:=hh0.keeps hk1 (by simp;exact h.mine.2.1)
 clear hb0 hk0 hk1 hi0 hh0 hi hh
 dsimp only [QZ]
 go_wp2_with (first | (go_at_call 47;refine (QY _ _ _).mono ?_;rintro e w' ⟨rfl,rfl⟩))
 ·have hk:((x.kind:Int) == 1)=false:=by simpa [bne] using ‹((x.kind:Int) != 1)=true›
  refine Qa (QO.throws (M':=A.S :: C.M) (w1:=w1) (f:=⟨3,x.at'⟩) ((hK1.alloc _).alloc _) hK1 ((Qi (Ql hx1)).trans ?_) (by omega) (Qg (by simp)))
  rw [hk];rfl
 ·have hk:((x.kind:Int) == 1)=true:=by simpa [bne] using ‹((x.kind:Int) != 1)=false›
  have hba:=(Below.refl w1.heap.size w1).alloc (Nat.le_refl _) (.cells #[.int .i64 x.kind,.string ⟨x.text.toArray⟩,.int .i64 x.n,.int .i64 x.at'] 110)
  have hv1:=Qg (w:=w1) (o:=.cells #[.int .i64 x.kind,.string ⟨x.text.toArray⟩,.int .i64 x.n,.int .i64 x.at'] 110) rfl
  have hsz1:w.heap.size < w1.heap.size:=Qc hb1
  refine (hC.call x (Same.add A _) (fun b hb=>List.mem_cons_of_mem _ hb) (hr1.below hba) (hC.stable hi1 (Qb.of_below [] hba) (by simp)) (hh1.keeps (Qb.of_below [] hba) (by simp))).mono ?_
  rintro e w2 ⟨hk2,⟨u,t2,σ2,hx2,rfl,hr2,hi2⟩ | ⟨f,hx2,b,hbb,rfl,hcell⟩⟩
  rotate_left
  ·refine Qa (QO.throws (M':=A.S :: C.M) (w1:=w1) ((hK1.alloc _).trans (hk2.mono (fun m hm=>List.mem_cons_of_mem _ hm))) hK1 ((Qi (Ql hx1)).trans ?_) (by simp at hbb;omega) hcell)
   rw [hk]
   exact Qm hx2
  have hvM:w1.heap.size ∉ C.M:=fun hm=>by have:=h.old _ (hC.inX _ hm);omega
  have hwM:w.heap.size ∉ C.M:=fun hm=>hneM (List.mem_cons_of_mem _ hm)
  have hv2:=(hk2.block _ (Qc hv1) hvM).trans hv1
  have hb2:=(hk2.block _ (by simp;omega) hwM).trans ((hba.block _ hsz1).trans hb1)
  have hK2:=(hK1.alloc (.cells #[.int .i64 x.kind,.string ⟨x.text.toArray⟩,.int .i64 x.n,.int .i64 x.at'] 110)).trans (hk2.mono (M':=A.S :: C.M) (fun m hm=>List.mem_cons_of_mem _ hm))
  obtain ⟨y0,y1,y2,y3,_⟩:=Q0t hv2
  have HK2:=Hid.mk hK2
  have HB2:=Hid.mk hb2
  have HI2:=Hid.mk hi2
  have HR2:=Hid.mk hr2
  clear hK1 hk2 hv1 hv2 hb1 hb2 hK2 hi1 hi2 hh1 hr1 hr2 hba
  go_wp2_with fail
  refine (Q7c x _).mono ?_
  rintro e w3 ⟨rfl,hb3⟩
  have hc3:=(hb3.block _ (Qc HB2.out)).trans HB2.out
  obtain ⟨r0,r1,hfrR⟩:=Q3g hc3
  have hK3:=HK2.out.trans (Qb.of_below _ hb3)
  have hr3:=HR2.out.below hb3
  have hi3:=hC.stable HI2.out (Qb.of_below [] hb3) (by simp)
  clear hb3 hc3
  go_wp2
  obtain ⟨f1,f2⟩:=fin2 h hK3 hr3 (.string ⟨x.text.toArray⟩) (.int .i64 x.at')
  refine bodyPost_ret (v:=.agg #[.string ⟨x.text.toArray⟩,.int .i64 x.at']) (by simp [results,Tryz.results119,go_sem,r0,r1]) rfl (QO.ok (a:=(x.text,x.at')) (t:=t2) f1 ((Qi (Ql hx1)).trans ?_) rfl f2 ?_)
  ·rw [hk]
   exact Qi hx2
  ·exact hC.stable hi3 (((Qb.refl [w.heap.size] w3).setIn (p:=⟨w.heap.size,0,none⟩) (by simp) _).setIn (p:=⟨w.heap.size,1,none⟩) (by simp) _) (by simpa using hwM)
theorem Q1W.add {τ:Type} {C:Q0h τ} {A:Ad} {text:ByteArray} (hC:Q1W C A text) (b:Nat):Q1W C (A.add b) text where
 enters:=hC.enters
 stable:=hC.stable
 far:=hC.far
 inX:=fun m hm=>List.mem_cons_of_mem _ (hC.inX m hm)
 call:=fun x hS hX hr hi hh=>hC.call x hS (fun b hb=>hX b (List.mem_cons_of_mem _ hb)) hr hi (hh.sub fun b hb=>List.mem_cons_of_mem _ hb)
structure Mid {τ:Type} (C:Q0h τ) (A:Ad) (text:ByteArray) (w:World) (D:Obj) (t:τ) (σ:St) (u:World):Prop where
 k:Qb (A.S :: C.M) w u
 r:Rd (A.add w.heap.size) text σ u
 i:C.I t u
 h:Held (A.add w.heap.size).X C.bs u
 d:u.heap[w.heap.size]? = some D
theorem Mid.start {τ:Type} {C:Q0h τ} {A:Ad} {text:ByteArray} {w:World} {t:τ} {σ:St} (hC:Q1W C A text) (h:Rd A text σ w) (hi:C.I t w) (hh:Held A.X C.bs w) (D:Obj) :
  Mid C A text w D t σ (w.alloc D) where
 k:=(Qb.refl _ w).alloc D
 r:=h.own D
 i:=hC.stable hi (Qb.of_below [] ((Below.refl w.heap.size w).alloc (Nat.le_refl _) D)) (by simp)
 h:=(hh.add (Nat.le_refl _)).keeps (Qb.of_below [] ((Below.refl w.heap.size w).alloc (Nat.le_refl _) D)) (by simp)
 d:=Qg rfl
theorem Mid.scan {τ:Type} {C:Q0h τ} {A:Ad} {text:ByteArray} {w u u':World} {D:Obj} {t:τ} {σ0 σ σ':St} (m:Mid C A text w D t σ u) (hC:Q1W C A text) (h0:Rd A text σ0 w) (hk:Qb [A.S] u u') (hr:Rd (A.add w.heap.size) text σ' u') :
  Mid C A text w D t σ' u' where
 k:=m.k.trans (hk.mono (by simp))
 r:=hr
 i:=hC.stable m.i hk (by simp;exact hC.far)
 h:=m.h.keeps hk (by simp;exact List.mem_cons_of_mem _ h0.mine.2.1)
 d:=(hk.block _ (Qc m.d) (by have:=h0.lt.2.1;simp;omega)).trans m.d
theorem Mid.claimed {τ:Type} {C:Q0h τ} {A:Ad} {text:ByteArray} {w u u':World} {D:Obj} {t t':τ} {σ0 σ σ':St} (m:Mid C A text w D t σ u) (hC:Q1W C A text) (h0:Rd A text σ0 w) (hk:Qb (A.S :: C.M) u u') (hr:Rd (A.add w.heap.size) text σ' u') (hi:C.I t' u') :
  Mid C A text w D t' σ' u' where
 k:=m.k.trans hk
 r:=hr
 i:=hi
 h:=m.h.keeps hk (fun b hb=>by
  rcases List.mem_cons.1 hb with rfl | hb
  ·exact List.mem_cons_of_mem _ h0.mine.2.1
  ·exact List.mem_cons_of_mem _ (hC.inX b hb))
 d:=(hk.block _ (Qc m.d) (fun hb=>by
  rcases List.mem_cons.1 hb with e | hb
  ·have:=h0.lt.2.1;omega
  ·have:=h0.old _ (hC.inX _ hb);omega)).trans m.d
theorem Mid.below {τ:Type} {C:Q0h τ} {A:Ad} {text:ByteArray} {w u u':World} {D:Obj} {t:τ} {σ:St} (m:Mid C A text w D t σ u) (hC:Q1W C A text) (hb:Below u.heap.size u u'):Mid C A text w D t σ u' where
 k:=m.k.trans (Qb.of_below _ hb)
 r:=m.r.below hb
 i:=hC.stable m.i (Qb.of_below [] hb) (by simp)
 h:=m.h.keeps (Qb.of_below [] hb) (by simp)
 d:=(hb.block _ (Qc m.d)).trans m.d
theorem Q8m {τ:Type} {C:Q0h τ} {A:Ad} {b:Nat} {text:ByteArray} {σ:St} {t:τ} {w:World} (hC:Q1W C A text) (h:Rd (A.add b) text σ w) (hi:C.I t w) (hh:Held (A.add b).X C.bs w) :
  Calls Tryz.prog 119 #[.pointer (some ⟨A.R,0,none⟩),.func (.func C.f) C.pre C.post] w (QO (A.S :: C.M) (A.add b) text w (name text C t σ) Q1q C.I):=Q7R (hC.add b) h hi hh
theorem Q8Y {A' A:Ad} (hA:Same A' A) {text:ByteArray} {σ:St} {w:World} (h:Rd A' text σ w) :
  Calls Tryz.prog 160 #[.pointer (some ⟨A.R,0,none⟩)] w (Qt [A.S] A' text w (bound text σ) Q4s):=by
 have:=QfZ h
 rw [hA.1,hA.2.1] at this
 exact this
theorem Qd2 {A' A:Ad} (hA:Same A' A) {text:ByteArray} {σ:St} {w:World} (h:Rd A' text σ w) :
  Calls Tryz.prog 162 #[.pointer (some ⟨A.R,0,none⟩)] w (Qt [A.S] A' text w (Q3q text σ) tyV):=by
 have:=Q7N h
 rw [hA.1,hA.2.1] at this
 exact this
theorem Q8n {A' A:Ad} (hA:Same A' A) {text:ByteArray} {σ:St} (t:ByteArray) {w:World} (h:Rd A' text σ w) :
  Calls Tryz.prog 132 #[.pointer (some ⟨A.R,0,none⟩),.string t] w (Qt [A.S] A' text w (sees text t.data.toList σ) .bool):=by
 have:=QbF t h
 rw [hA.1,hA.2.1] at this
 exact this
abbrev Q2Z:Qq→Value:=fun d=>.agg #[.string ⟨d.t.toArray⟩,.int .i64 d.at',tyV d.ty]
def Q6l {τ:Type} (text:ByteArray) (n:List UInt8×Nat) (ty:Ty):PX τ Qq:=bndx (lift (bound text)) fun q=>retx ⟨n.1,n.2,.arr ty q.1 q.2⟩
def Q6O {τ:Type} (text:ByteArray) (n:List UInt8×Nat) (ty:Ty) (y:Bool):PX τ Qq:=if y then Q6l text n ty else retx ⟨n.1,n.2,ty⟩
def Q6P {τ:Type} (text:ByteArray) (n:List UInt8×Nat) (ty:Ty) (y:Bool):PX τ Qq:=if y then Q6l text n ty else bndx (lift (sees text [60])) (Q6O text n ty)
def Q5R {τ:Type} (text:ByteArray) (ty:Ty) (n:List UInt8×Nat):PX τ Qq:=bndx (lift (sees text [91])) (Q6P text n ty)
def Q8o {τ:Type} (text:ByteArray) (C:Q0h τ) (ty:Ty) (y:Bool):PX τ Qq:=if y then bndx (name text C) fun n=>retx ⟨n.1,n.2,.opt ty⟩ else bndx (name text C) (Q5R text ty)
def Q6Q {τ:Type} (text:ByteArray) (C:Q0h τ) (ty:Ty):PX τ Qq:=bndx (lift (Q13 text [42])) (Q8o text C ty)
def Q6R {τ:Type} (text:ByteArray) (C:Q0h τ) (y:Bool):PX τ Qq:=
 if y then bndx (name text C) fun n=>bndx (lift (most text)) fun q=>retx ⟨n.1,n.2,.str q.1 q.2⟩ else bndx (lift (Q3q text)) (Q6Q text C)
def Q6S {τ:Type} (text:ByteArray) (C:Q0h τ) (y:Bool):PX τ Qq:=
 if y then bndx (name text C) fun n=>bndx (lift (bound text)) fun q=>retx ⟨n.1,n.2,.opaq q.1 q.2⟩ else bndx (lift (Q13 text [115,116,114,105,110,103])) (Q6R text C)
def decl {τ:Type} (text:ByteArray) (C:Q0h τ):PX τ Qq:=bndx (lift (Q13 text [111,112,97,113,117,101])) (Q6S text C)
theorem fin3 {A:Ad} {text:ByteArray} {σ0 σ':St} {w u:World} {M:List Nat} (h:Rd A text σ0 w) (hk:Qb M w u) (hr:Rd (A.add w.heap.size) text σ' u) (v0 v1 v2:Value) :
  Qb M w (((u.setCell ⟨w.heap.size,0,none⟩ v0).setCell ⟨w.heap.size,1,none⟩ v1).setCell ⟨w.heap.size,2,none⟩ v2)∧Rd A text σ' (((u.setCell ⟨w.heap.size,0,none⟩ v0).setCell ⟨w.heap.size,1,none⟩ v1).setCell ⟨w.heap.size,2,none⟩ v2):=by
 refine ⟨((hk.setNew (Nat.le_refl _) _).setNew (Nat.le_refl _) _).setNew (Nat.le_refl _) _,Rd.drop (b:=w.heap.size) h.mine ?_⟩
 have hs:=fun {u:World} (hu:Rd (A.add w.heap.size) text σ' u) (i:Nat) (v:Value)=>Rd.setNew (A':=A.add w.heap.size) h ⟨rfl,rfl,rfl,rfl⟩ hu (p:=⟨w.heap.size,i,none⟩) (Nat.le_refl _) (by simp [Ad.add]) v
 exact hs (hs (hs hr 0 _) 1 _) 2 _
theorem Q0i {b:Nat} {k t a:Value} {T:TypeId} {w:World} (h:w.heap[b]? = some (.cells #[k,t,a] T)) :
  w.cell? ⟨b,0,none⟩=some k∧w.cell? ⟨b,1,none⟩=some t∧w.cell? ⟨b,2,none⟩=some a∧∀ i,w.frozen? ⟨b,i,none⟩=false:=by
 refine ⟨?_,?_,?_,?_⟩<;>simp [World.cell?,World.frozen?,h]
theorem Q1G {τ:Type} {C:Q0h τ} {A:Ad} {text:ByteArray} {u:World} {t:τ} {b:Nat} (hC:Q1W C A text) (hb:b ∉ C.M) (hi:C.I t u) (v0 v1 v2:Value) :
  C.I t (((u.setCell ⟨b,0,none⟩ v0).setCell ⟨b,1,none⟩ v1).setCell ⟨b,2,none⟩ v2):=
 hC.stable hi ((((Qb.refl [b] u).setIn (p:=⟨b,0,none⟩) (by simp) _).setIn (p:=⟨b,1,none⟩) (by simp) _).setIn (p:=⟨b,2,none⟩) (by simp) _) (by simpa using hb)
theorem Q6m {τ:Type} {C:Q0h τ} {A:Ad} {text:ByteArray} {σ:St} {t:τ} {w:World} (hC:Q1W C A text) (h:Rd A text σ w) (hi:C.I t w) (hh:Held A.X C.bs w) :
  Calls Tryz.prog 125 #[.pointer (some ⟨A.R,0,none⟩),.func (.func C.f) C.pre C.post] w (QO (A.S :: C.M) A text w (decl text C t σ) Q2Z C.I):=by
 have hwM:w.heap.size ∉ C.M:=fun hm=>by have:=h.old _ (hC.inX _ hm);omega
 have m0:=Mid.start hC h hi hh (.cells #[.string ⟨#[]⟩,.int .i64 0,.nilIface] 195)
 go_enter Tryz.func125,Tryz.ntmps125
 go_wp2_with fail
 refine (Q2r (Same.add A _) _ m0.r).mono ?_
 rintro e w1 ⟨hk1,⟨y1,σ1,hx1,rfl,hr1⟩ | ⟨f,hx1,b,hbb,rfl,hcell⟩⟩
 rotate_left
 ·exact Qa (QO.throws (m0.k.trans (hk1.mono (by simp))) m0.k (Qm (Qx hx1)) hbb hcell)
 have m1:=m0.scan hC h hk1 hr1
 clear m0 hk1 hr1
 have E1:Hid (decl text C t σ = Q6S text C y1 t σ1):=Qi (Ql hx1)
 cases y1 with
 | true=>
  go_wp2_with fail
  refine (Q8m hC m1.r m1.i m1.h).mono ?_
  rintro e w2 ⟨hk2,⟨n,t2,σ2,hx2,rfl,hr2,hi2⟩ | ⟨f,hx2,b,hbb,rfl,hcell⟩⟩
  rotate_left
  ·exact Qa (QO.throws (m1.k.trans hk2) m1.k (E1.out.trans (Qm hx2)) hbb hcell)
  have m2:=m1.claimed hC h hk2 hr2 hi2
  clear hk2 hr2 hi2 m1
  have E2:Hid (decl text C t σ = bndx (lift (bound text)) (fun q=>retx ⟨n.1,n.2,.opaq q.1 q.2⟩) t2 σ2):=E1.out.trans (Qi hx2)
  clear E1
  dsimp only [Q1q]
  go_wp2_with fail
  have m3:=m2.below hC (((Below.refl w2.heap.size w2).alloc (Nat.le_refl _) (.cells #[.string ⟨n.1.toArray⟩,.int .i64 n.2] 116)).drew)
  have hvb:=Qg (w:=w2) (o:=.cells #[.string ⟨n.1.toArray⟩,.int .i64 n.2] 116) rfl
  obtain ⟨z0,z1,_⟩:=Q3g hvb
  have Z0:=Hid.mk z0
  have Z1:=Hid.mk z1
  have HM3:=Hid.mk m3
  have hS2:A.S < w2.heap.size:=by have:=h.lt.2.1;have:=m2.k.size;omega
  have hw2:w.heap.size < w2.heap.size:=Qc m2.d
  have hne1:¬ w.heap.size=w2.heap.size:=by omega
  have hne2:¬ w2.heap.size=w.heap.size:=by omega
  have HC:=Hid.mk hC
  have HH:=Hid.mk h
  clear z0 z1 hvb m3 m2 hC
  go_region_held2 (fun w'=>w'.cell? ⟨w2.heap.size,0,none⟩=some (.string ⟨n.1.toArray⟩)∧w'.cell? ⟨w2.heap.size,1,none⟩=some (.int .i64 n.2)) (go_keep)
   (first | (go_at_call 160;refine (Q8Y (Same.add A _) HM3.out.r).mono ?_;rintro e w3 ⟨hk,⟨q,σ3,hx,rfl,hr⟩ | ⟨f,hx,b,hbb,rfl,hcell⟩⟩;rotate_left;exact Qa (QO.throws (HM3.out.k.trans (hk.mono (by simp))) HM3.out.k (E2.out.trans (Qm (Qx hx))) hbb hcell);dsimp only [Q4s];have m4:=HM3.out.scan HC.out HH.out hk hr;obtain ⟨r0,r1,r2,hfrR⟩:=Q0i m4.d;have q0:=hk.cell (b:=w2.heap.size) (by simp;omega) Z0.out;have q1:=hk.cell (b:=w2.heap.size) (by simp;omega) Z1.out;have HM4:=Hid.mk m4;have Hx:=Hid.mk hx;clear m4 hk hx hr))
  go_wp2
  obtain ⟨f1,f2⟩:=fin3 h HM4.out.k HM4.out.r (.string ⟨n.1.toArray⟩) (.int .i64 n.2) (tyV (.opaq q.1 q.2))
  refine bodyPost_ret (v:=.agg #[.string ⟨n.1.toArray⟩,.int .i64 n.2,.iface 306 (.agg #[.int .i64 q.1,.bool q.2])]) (by simp [results,Tryz.results125,go_sem,r0,r1,r2]) rfl (QO.ok (a:=⟨n.1,n.2,.opaq q.1 q.2⟩) (t:=t2) f1 (E2.out.trans (Qi (Ql Hx.out))) rfl f2 ?_)
  exact Q1G HC.out hwM HM4.out.i _ _ _
 | false=>
  go_wp2_with fail
  refine (Q2r (Same.add A _) _ m1.r).mono ?_
  rintro e w2 ⟨hk2,⟨y2,σ2,hx2,rfl,hr2⟩ | ⟨f,hx2,b,hbb,rfl,hcell⟩⟩
  rotate_left
  ·exact Qa (QO.throws (m1.k.trans (hk2.mono (by simp))) m1.k (E1.out.trans (Qm (Qx hx2))) hbb hcell)
  have m2:=m1.scan hC h hk2 hr2
  clear m1 hk2 hr2
  have E2:Hid (decl text C t σ = Q6R text C y2 t σ2):=E1.out.trans (Qi (Ql hx2))
  clear E1
  cases y2 with
  | true=>
   go_wp2_with fail
   refine (Q8m hC m2.r m2.i m2.h).mono ?_
   rintro e w3 ⟨hk,⟨n,t3,σ3,hx3,rfl,hr,hi2⟩ | ⟨f,hx3,b,hbb,rfl,hcell⟩⟩
   rotate_left
   ·exact Qa (QO.throws (m2.k.trans hk) m2.k (E2.out.trans (Qm hx3)) hbb hcell)
   have m3:=m2.claimed hC h hk hr hi2
   clear hk hr hi2 m2
   dsimp only [Q1q]
   have E3:Hid (decl text C t σ = bndx (lift (most text)) (fun q=>retx ⟨n.1,n.2,.str q.1 q.2⟩) t3 σ3):=E2.out.trans (Qi hx3)
   clear E2
   go_wp2_with fail
   have m8:=m3.below hC (((Below.refl w3.heap.size w3).alloc (Nat.le_refl _) (.cells #[.string ⟨n.1.toArray⟩,.int .i64 n.2] 116)).drew)
   have hvb:=Qg (w:=w3) (o:=.cells #[.string ⟨n.1.toArray⟩,.int .i64 n.2] 116) rfl
   obtain ⟨z0,z1,_⟩:=Q3g hvb
   have Z0:=Hid.mk z0
   have Z1:=Hid.mk z1
   have HM3:=Hid.mk m8
   have hS2:A.S < w3.heap.size:=by have:=h.lt.2.1;have:=m3.k.size;omega
   have hw2:w.heap.size < w3.heap.size:=Qc m3.d
   have hne1:¬ w.heap.size=w3.heap.size:=by omega
   have hne2:¬ w3.heap.size=w.heap.size:=by omega
   have HC:=Hid.mk hC
   have HH:=Hid.mk h
   clear z0 z1 hvb m8 m3 hC
   go_region_held2 (fun w'=>w'.cell? ⟨w3.heap.size,0,none⟩=some (.string ⟨n.1.toArray⟩)∧w'.cell? ⟨w3.heap.size,1,none⟩=some (.int .i64 n.2)) (go_keep)
    (first | (go_at_call 161;refine (QdU (Same.add A _) HM3.out.r).mono ?_;rintro e w9 ⟨hk,⟨q,σ9,hx9,rfl,hr⟩ | ⟨f,hx9,b,hbb,rfl,hcell⟩⟩;rotate_left;exact Qa (QO.throws (HM3.out.k.trans (hk.mono (by simp))) HM3.out.k (E3.out.trans (Qm (Qx hx9))) hbb hcell);dsimp only [Q4s];have m9:=HM3.out.scan HC.out HH.out hk hr;obtain ⟨r0,r1,r2,hfrR⟩:=Q0i m9.d;have q0:=hk.cell (b:=w3.heap.size) (by simp;omega) Z0.out;have q1:=hk.cell (b:=w3.heap.size) (by simp;omega) Z1.out;have HM4:=Hid.mk m9;have Hx:=Hid.mk hx9;clear m9 hk hx9 hr))
   go_wp2
   obtain ⟨f1,f2⟩:=fin3 h HM4.out.k HM4.out.r (.string ⟨n.1.toArray⟩) (.int .i64 n.2) (tyV (.str q.1 q.2))
   refine bodyPost_ret (v:=.agg #[.string ⟨n.1.toArray⟩,.int .i64 n.2,.iface 309 (.agg #[.int .i64 q.1,.bool q.2])]) (by simp [results,Tryz.results125,go_sem,r0,r1,r2]) rfl (QO.ok (a:=⟨n.1,n.2,.str q.1 q.2⟩) (t:=t3) f1 (E3.out.trans (Qi (Ql Hx.out))) rfl f2 ?_)
   exact Q1G HC.out hwM HM4.out.i _ _ _
  | false=>
   go_wp2_with fail
   refine (Qd2 (Same.add A _) m2.r).mono ?_
   rintro e w3 ⟨hk3,⟨ty,σ3,hx3,rfl,hr3⟩ | ⟨f,hx3,b,hbb,rfl,hcell⟩⟩
   rotate_left
   ·exact Qa (QO.throws (m2.k.trans (hk3.mono (by simp))) m2.k (E2.out.trans (Qm (Qx hx3))) hbb hcell)
   have m3:=m2.scan hC h hk3 hr3
   clear m2 hk3 hr3
   have E3:Hid (decl text C t σ = Q6Q text C ty t σ3):=E2.out.trans (Qi (Ql hx3))
   clear E2
   obtain ⟨T,vt,Hvt⟩:∃ T vt,Hid (tyV ty = .iface T vt):=by cases ty<;>exact ⟨_,_,rfl⟩
   rw [Hvt.out]
   go_wp2_with fail
   refine (Q2r (Same.add A _) _ m3.r).mono ?_
   rintro e w4 ⟨hk4,⟨y4,σ4,hx4,rfl,hr4⟩ | ⟨f,hx4,b,hbb,rfl,hcell⟩⟩
   rotate_left
   ·exact Qa (QO.throws (m3.k.trans (hk4.mono (by simp))) m3.k (E3.out.trans (Qm (Qx hx4))) hbb hcell)
   have m4:=m3.scan hC h hk4 hr4
   clear m3 hk4 hr4
   have E4:Hid (decl text C t σ = Q8o text C ty y4 t σ4):=E3.out.trans (Qi (Ql hx4))
   clear E3
   cases y4 with
   | true=>
    go_wp2_with fail
    refine (Q8m hC m4.r m4.i m4.h).mono ?_
    rintro e w5 ⟨hk,⟨n,t5,σ5,hx5,rfl,hr,hi2⟩ | ⟨f,hx5,b,hbb,rfl,hcell⟩⟩
    rotate_left
    ·exact Qa (QO.throws (m4.k.trans hk) m4.k (E4.out.trans (Qm hx5)) hbb hcell)
    have m5:=m4.claimed hC h hk hr hi2
    clear hk hr hi2 m4
    dsimp only [Q1q]
    have E5:Hid (decl text C t σ = retx ⟨n.1,n.2,.opt ty⟩ t5 σ5):=E4.out.trans (Qi hx5)
    obtain ⟨r0,r1,r2,hfrR⟩:=Q0i m5.d
    have HM5:=Hid.mk m5
    clear m5
    go_wp2
    obtain ⟨f1,f2⟩:=fin3 h HM5.out.k HM5.out.r (.string ⟨n.1.toArray⟩) (.int .i64 n.2) (.iface 314 (.agg #[.iface T vt]))
    refine bodyPost_ret (v:=.agg #[.string ⟨n.1.toArray⟩,.int .i64 n.2,.iface 314 (.agg #[.iface T vt])]) (by simp [results,Tryz.results125,go_sem,r0,r1,r2]) rfl (QO.ok (a:=⟨n.1,n.2,.opt ty⟩) (t:=t5) f1 (E5.out.trans rfl) (by simp only [Q2Z,tyV,Hvt.out]) f2 ?_)
    exact Q1G hC hwM HM5.out.i _ _ _
   | false=>
    go_wp2_with fail
    refine (Q8m hC m4.r m4.i m4.h).mono ?_
    rintro e w5 ⟨hk,⟨n,t5,σ5,hx5,rfl,hr,hi2⟩ | ⟨f,hx5,b,hbb,rfl,hcell⟩⟩
    rotate_left
    ·exact Qa (QO.throws (m4.k.trans hk) m4.k (E4.out.trans (Qm hx5)) hbb hcell)
    have m5:=m4.claimed hC h hk hr hi2
    clear hk hr hi2 m4
    dsimp only [Q1q]
    have E5:Hid (decl text C t σ = Q5R text ty n t5 σ5):=E4.out.trans (Qi hx5)
    clear E4
    have hS2:A.S < w5.heap.size:=by have:=h.lt.2.1;have:=m5.k.size;omega
    have hw2:w.heap.size < w5.heap.size:=Qc m5.d
    have hne1:¬ w.heap.size=w5.heap.size:=by omega
    have hne2:¬ w5.heap.size=w.heap.size:=by omega
    have m6:=m5.below hC ((Below.refl w5.heap.size w5).alloc (Nat.le_refl _) (.cells #[.string ⟨n.1.toArray⟩,.int .i64 n.2] 116))
    obtain ⟨z0,z1,_⟩:=Q3g (Qg (w:=w5) (o:=.cells #[.string ⟨n.1.toArray⟩,.int .i64 n.2] 116) rfl)
    clear m5
    go_wp2_with fail
    refine (Q8n (Same.add A _) _ m6.r).mono ?_
    rintro e w6 ⟨hk,⟨y6,σ6,hx6,rfl,hr⟩ | ⟨f,hx6,b,hbb,rfl,hcell⟩⟩
    rotate_left
    ·exact Qa (QO.throws (m6.k.trans (hk.mono (by simp))) m6.k (E5.out.trans (Qm (Qx hx6))) hbb hcell)
    have m7:=m6.scan hC h hk hr
    have z0:=hk.cell (b:=w5.heap.size) (by simp;omega) z0
    have z1:=hk.cell (b:=w5.heap.size) (by simp;omega) z1
    clear hk hr m6
    have E6:Hid (decl text C t σ = Q6P text n ty y6 t5 σ6):=E5.out.trans (Qi (Ql hx6))
    clear E5
    cases y6 with
    | true=>
     have E7:Hid (decl text C t σ = bndx (lift (bound text)) (fun q=>retx ⟨n.1,n.2,.arr ty q.1 q.2⟩) t5 σ6):=E6.out
     go_wp2_with fail
     have m8:=m7.below hC ((Below.refl w6.heap.size w6).drew)
     have HM3:=Hid.mk m8
     have HC:=Hid.mk hC
     have HH:=Hid.mk h
     clear m8 m7 hC
     go_region_held2 (fun w'=>w'.cell? ⟨w5.heap.size,0,none⟩=some (.string ⟨n.1.toArray⟩)∧w'.cell? ⟨w5.heap.size,1,none⟩=some (.int .i64 n.2)) (go_keep)
      (first | (go_at_call 160;refine (Q8Y (Same.add A _) HM3.out.r).mono ?_;rintro e w9 ⟨hk,⟨q,σ9,hx9,rfl,hr⟩ | ⟨f,hx9,b,hbb,rfl,hcell⟩⟩;rotate_left;exact Qa (QO.throws (HM3.out.k.trans (hk.mono (by simp))) HM3.out.k (E7.out.trans (Qm (Qx hx9))) hbb hcell);dsimp only [Q4s];have m9:=HM3.out.scan HC.out HH.out hk hr;obtain ⟨r0,r1,r2,hfrR⟩:=Q0i m9.d;have q0:=hk.cell (b:=w5.heap.size) (by simp;omega) z0;have q1:=hk.cell (b:=w5.heap.size) (by simp;omega) z1;have HM4:=Hid.mk m9;have Hx:=Hid.mk hx9;clear m9 hk hx9 hr))
     go_wp2
     obtain ⟨f1,f2⟩:=fin3 h HM4.out.k HM4.out.r (.string ⟨n.1.toArray⟩) (.int .i64 n.2) (.iface 311 (.agg #[.iface T vt,.int .i64 q.1,.bool q.2]))
     refine bodyPost_ret (v:=.agg #[.string ⟨n.1.toArray⟩,.int .i64 n.2,.iface 311 (.agg #[.iface T vt,.int .i64 q.1,.bool q.2])]) (by simp [results,Tryz.results125,go_sem,r0,r1,r2]) rfl (QO.ok (a:=⟨n.1,n.2,.arr ty q.1 q.2⟩) (t:=t5) f1 (E7.out.trans (Qi (Ql Hx.out))) (by simp only [Q2Z,tyV,Hvt.out]) f2 ?_)
     exact Q1G HC.out hwM HM4.out.i _ _ _
    | false=>
     go_wp2_with fail
     refine (Q8n (Same.add A _) _ m7.r).mono ?_
     rintro e w7 ⟨hk,⟨y7,σ7,hx7,rfl,hr⟩ | ⟨f,hx7,b,hbb,rfl,hcell⟩⟩
     rotate_left
     ·exact Qa (QO.throws (m7.k.trans (hk.mono (by simp))) m7.k (E6.out.trans (Qm (Qx hx7))) hbb hcell)
     have m8:=m7.scan hC h hk hr
     have z0:=hk.cell (b:=w5.heap.size) (by simp;omega) z0
     have z1:=hk.cell (b:=w5.heap.size) (by simp;omega) z1
     clear hk hr m7
     have E7:Hid (decl text C t σ = Q6O text n ty y7 t5 σ7):=E6.out.trans (Qi (Ql hx7))
     clear E6
     cases y7 with
     | true=>
      have E8:Hid (decl text C t σ = bndx (lift (bound text)) (fun q=>retx ⟨n.1,n.2,.arr ty q.1 q.2⟩) t5 σ7):=E7.out
      go_wp2_with fail
      have m8':=m8.below hC ((Below.refl w7.heap.size w7).drew)
      have HM3:=Hid.mk m8'
      have HC:=Hid.mk hC
      have HH:=Hid.mk h
      clear m8' m8 hC
      go_region_held2 (fun w'=>w'.cell? ⟨w5.heap.size,0,none⟩=some (.string ⟨n.1.toArray⟩)∧w'.cell? ⟨w5.heap.size,1,none⟩=some (.int .i64 n.2)) (go_keep)
       (first | (go_at_call 160;refine (Q8Y (Same.add A _) HM3.out.r).mono ?_;rintro e w9 ⟨hk,⟨q,σ9,hx9,rfl,hr⟩ | ⟨f,hx9,b,hbb,rfl,hcell⟩⟩;rotate_left;exact Qa (QO.throws (HM3.out.k.trans (hk.mono (by simp))) HM3.out.k (E8.out.trans (Qm (Qx hx9))) hbb hcell);dsimp only [Q4s];have m9:=HM3.out.scan HC.out HH.out hk hr;obtain ⟨r0,r1,r2,hfrR⟩:=Q0i m9.d;have q0:=hk.cell (b:=w5.heap.size) (by simp;omega) z0;have q1:=hk.cell (b:=w5.heap.size) (by simp;omega) z1;have HM4:=Hid.mk m9;have Hx:=Hid.mk hx9;clear m9 hk hx9 hr))
      go_wp2
      obtain ⟨f1,f2⟩:=fin3 h HM4.out.k HM4.out.r (.string ⟨n.1.toArray⟩) (.int .i64 n.2) (.iface 311 (.agg #[.iface T vt,.int .i64 q.1,.bool q.2]))
      refine bodyPost_ret (v:=.agg #[.string ⟨n.1.toArray⟩,.int .i64 n.2,.iface 311 (.agg #[.iface T vt,.int .i64 q.1,.bool q.2])]) (by simp [results,Tryz.results125,go_sem,r0,r1,r2]) rfl (QO.ok (a:=⟨n.1,n.2,.arr ty q.1 q.2⟩) (t:=t5) f1 (E8.out.trans (Qi (Ql Hx.out))) (by simp only [Q2Z,tyV,Hvt.out]) f2 ?_)
      exact Q1G HC.out hwM HM4.out.i _ _ _
     | false=>
      have E8:Hid (decl text C t σ = retx ⟨n.1,n.2,ty⟩ t5 σ7):=E7.out
      obtain ⟨r0,r1,r2,hfrR⟩:=Q0i m8.d
      have HM5:=Hid.mk m8
      clear m8
      go_wp2
      obtain ⟨f1,f2⟩:=fin3 h HM5.out.k HM5.out.r (.string ⟨n.1.toArray⟩) (.int .i64 n.2) (.iface T vt)
      refine bodyPost_ret (v:=.agg #[.string ⟨n.1.toArray⟩,.int .i64 n.2,.iface T vt]) (by simp [results,Tryz.results125,go_sem,r0,r1,r2]) rfl (QO.ok (a:=⟨n.1,n.2,ty⟩) (t:=t5) f1 (E8.out.trans rfl) (by simp only [Q2Z,Hvt.out]) f2 ?_)
      exact Q1G hC hwM HM5.out.i _ _ _
def Q12 (A:Ad):Q0h Unit where
 f:=120
 pre:=#[.pointer (some ⟨A.R,0,none⟩)]
 post:=#[]
 M:=[A.N]
 bs:=[]
 I:=fun _ _=>True
 run:=fun x=>lift (Q1s x)
theorem Qb2 (args:Array Value) (w:World):(callFunc 120 args).run Tryz.prog w = .ok (.enter 120 args) w:=by kernel_rfl
theorem Qb3 (args:Array Value) (w:World):(callFunc 164 args).run Tryz.prog w = .ok (.enter 164 args) w:=by kernel_rfl
theorem Q7E {A:Ad} {text:ByteArray} {σ0:St} {w0:World} (h0:Rd A text σ0 w0):Q1W (Q12 A) A text where
 enters:=Qb2
 stable:=fun _ _ _=>trivial
 far:=by simp [Q12];exact h0.apart.2.2.2.1
 inX:=by simp [Q12];exact h0.mine.2.2.1
 call:=by
  intro A' σ t W x hS _ hr _ _
  have:=Qem x hr
  rw [hS.1,hS.2.2.1] at this
  refine Calls.mono (R:=Qt [A.N] A' text W (Q1s x σ) Q6k) this ?_
  rintro e w' ⟨hk,⟨a,σ',hx,rfl,hr'⟩ | ⟨f,hx,ht⟩⟩
  ·exact ⟨hk,Or.inl ⟨a,t,σ',Ql hx,rfl,hr',trivial⟩⟩
  ·exact ⟨hk,Or.inr ⟨f,Qx hx,ht⟩⟩
def Qr (q bx:Nat):Q0h (List (List UInt8)) where
 f:=164
 pre:=#[]
 post:=#[.pointer (some ⟨bx,0,none⟩)]
 M:=[q]
 bs:=[(bx,.cells #[.map (some q)] 64)]
 I:=Q0l q
 run:=fun x=>Q7d (Q4t x)
theorem Q5S {A:Ad} {text:ByteArray} {q bx:Nat} (hq:Free A q):Q1W (Qr q bx) A text where
 enters:=Qb3
 stable:=fun hi hk hm=>hi.keeps hk (fun hq=>hm _ hq (by simp [Qr]))
 far:=by simp [Qr];exact fun e=>hq.2.2.1 e.symm
 inX:=by simp [Qr];exact hq.1
 call:=by
  intro A' σ t W x hS hX hr hi hh
  have hb:W.cell? ⟨bx,0,none⟩=some (.map (some q)):=by
   have:=(hh (bx,.cells #[.map (some q)] 64) (by simp [Qr])).1
   simp at this
   simp [World.cell?,this]
  refine Calls.mono (Qen x hi hb) ?_
  have hf:Free A' q:=⟨hX _ hq.1,by rw [hS.1];exact hq.2.1,by rw [hS.2.1];exact hq.2.2.1,by rw [hS.2.2.1];exact hq.2.2.2.1,by rw [hS.2.2.2];exact hq.2.2.2.2⟩
  rintro e w' ⟨hk,⟨l',hx,rfl,hs⟩ | ⟨f,hx,ht⟩⟩
  ·obtain ⟨_,vs,_,hm⟩:=id hi
   exact ⟨hk,Or.inl ⟨(),l',σ,Q5A hx,rfl,hr.turned hk hf hm,hs⟩⟩
  ·exact ⟨hk,Or.inr ⟨f,Q4M hx,ht⟩⟩
def bare {α:Type} (m:PX Unit α):PM α:=fun σ=>match m () σ with
 | .ok (a,_,σ')=>.ok (a,σ')
 | .error f=>.error f
theorem Qah {α:Type} {m:PX Unit α} {σ σ':St} {a:α} {u:Unit} (h:m () σ = .ok (a,u,σ')):bare m σ = .ok (a,σ'):=by simp only [bare,h]
theorem Q8Z {α:Type} {m:PX Unit α} {σ:St} {f:Mar.Fault} (h:m () σ = .error f):bare m σ = .error f:=by simp only [bare,h]
def noAd:Ad:=⟨0,0,0,0,[]⟩
def Q5B (text:ByteArray):PM Qq:=bare (decl text (Q12 noAd))
def Q1y (text:ByteArray):PM (List UInt8×Nat):=bare (name text (Q12 noAd))
def QC (M:List Nat) (A:Ad) (text:ByteArray) (w:World) (r:Except Mar.Fault (DefL×St)) (e:Ending) (w':World):Prop:=
 Qb M w w'∧((∃ d σ' b bs,r = .ok (d,σ')∧e = .returned (.pointer (some ⟨b,0,none⟩))∧Rd A text σ' w'∧Q0o bs b d∧Held A.X bs w')∨(∃ f,r = .error f∧Q0c w f.no f.at' e w'))
theorem QC.throws {M M':List Nat} {A:Ad} {text:ByteArray} {w w1 w':World} {r:Except Mar.Fault (DefL×St)} {f:Mar.Fault} {b:Nat}
  (hk:Qb M w w') (hk1:Qb M' w w1) (hr:r = .error f) (hb:w1.heap.size≤b) (hc:w'.heap[b]? = some (.cells #[.int .i64 f.no,.int .i64 f.at'] 83)) :
  QC M A text w r (.panicked [{ v:=.iface 79 (.pointer (some ⟨b,0,none⟩)),recovered:=false }]) w':=
 ⟨hk,Or.inr ⟨f,hr,b,Nat.le_trans hk1.size hb,rfl,hc⟩⟩
theorem Qb4 {A:Ad} {text:ByteArray} {σ:St} {w:World} (h:Rd A text σ w) :
  Calls Tryz.prog 125 #[.pointer (some ⟨A.R,0,none⟩),.func (.func 120) #[.pointer (some ⟨A.R,0,none⟩)] #[]] w (Qt [A.S,A.N] A text w (Q5B text σ) Q2Z):=by
 refine Calls.mono (Q6m (C:=Q12 A) (t:=()) (Q7E h) h trivial (fun p hp=>by simp [Q12] at hp)) ?_
 rintro e w' ⟨hk,⟨a,t,σ',hx,rfl,hr,_⟩ | ⟨f,hx,ht⟩⟩
 ·exact ⟨hk,Or.inl ⟨a,σ',Qah (u:=t) hx,rfl,hr⟩⟩
 ·exact ⟨hk,Or.inr ⟨f,Q8Z hx,ht⟩⟩
theorem Q3h {A:Ad} {text:ByteArray} {σ:St} {w:World} (h:Rd A text σ w) :
  Calls Tryz.prog 119 #[.pointer (some ⟨A.R,0,none⟩),.func (.func 120) #[.pointer (some ⟨A.R,0,none⟩)] #[]] w (Qt [A.S,A.N] A text w (Q1y text σ) Q1q):=by
 refine Calls.mono (Q7R (C:=Q12 A) (t:=()) (Q7E h) h trivial (fun p hp=>by simp [Q12] at hp)) ?_
 rintro e w' ⟨hk,⟨a,t,σ',hx,rfl,hr,_⟩ | ⟨f,hx,ht⟩⟩
 ·exact ⟨hk,Or.inl ⟨a,σ',Qah (u:=t) hx,rfl,hr⟩⟩
 ·exact ⟨hk,Or.inr ⟨f,Q8Z hx,ht⟩⟩
def typedef (text:ByteArray) (at':Nat):PM DefL:=bnd (Q2o at') fun _=>bnd (Q5B text) fun d=>bnd (QX text [59]) fun _=>ret (.typedef d)
theorem Qd3 {A:Ad} {text:ByteArray} {σ:St} (at':Nat) {w:World} (h:Rd A text σ w) :
  Calls Tryz.prog 87 #[.pointer (some ⟨A.R,0,none⟩),.int .i64 at'] w (QC [A.R,A.S,A.N] A text w (typedef text at' σ)):=by
 have hmf:∀ (fn:Fn) (first cap:Array Value) (w:World),(Instr.makeFunc fn first cap).run Tryz.prog w = .ok (.func fn first cap) w:=fun _ _ _ _=>rfl
 go_enter Tryz.func87,Tryz.ntmps87
 go_wp2_with fail
 refine (Q4Z at' h).mono ?_
 rintro e w1 ⟨hk1,⟨u,σ1,hx1,rfl,hr1⟩ | ⟨f,hx1,b,hbb,rfl,hcell⟩⟩
 rotate_left
 ·exact Qa (QC.throws (hk1.mono (by simp)) (Qb.refl [] _) (Qp hx1) hbb hcell)
 have hK1:=hk1.mono (M':=[A.R,A.S,A.N]) (by simp)
 clear hk1
 go_wp2_with fail
 refine (Qb4 hr1).mono ?_
 rintro e w2 ⟨hk2,⟨d,σ2,hx2,rfl,hr2⟩ | ⟨f,hx2,b,hbb,rfl,hcell⟩⟩
 rotate_left
 ·exact Qa (QC.throws (hK1.trans (hk2.mono (by simp))) hK1 ((Qh hx1).trans (Qp hx2)) hbb hcell)
 have hK2:=hK1.trans (hk2.mono (M':=[A.R,A.S,A.N]) (by simp))
 clear hk2 hK1
 obtain ⟨T,vt,Hvt⟩:∃ T vt,Hid (tyV d.ty = .iface T vt):=by cases d.ty<;>exact ⟨_,_,rfl⟩
 dsimp only [Q2Z]
 rw [Hvt.out]
 have hba:=(Below.refl w2.heap.size w2).alloc (Nat.le_refl _) (.cells #[.string ⟨d.t.toArray⟩,.int .i64 d.at',.iface T vt] 197)
 have hv:=Qg (w:=w2) (o:=.cells #[.string ⟨d.t.toArray⟩,.int .i64 d.at',.iface T vt] 197) rfl
 have hr3:=hr2.below hba
 have hX2:=hr2.old
 go_wp2_with fail
 refine (Q3E _ hr3).mono ?_
 rintro e w4 ⟨hk4,⟨x4,σ4,hx4,rfl,hr4⟩ | ⟨f,hx4,b,hbb,rfl,hcell⟩⟩
 rotate_left
 ·exact Qa (QC.throws ((hK2.alloc _).trans (hk4.mono (by simp))) (hK2.alloc _) ((Qh hx1).trans ((Qh hx2).trans (Qp hx4))) hbb hcell)
 have HV:=Hid.mk ((hk4.block _ (Qc hv) (by have:=hr2.lt.2.1;simp;omega)).trans hv)
 go_wp2
 go_ret
 refine ⟨(hK2.alloc _).trans (hk4.mono (by simp)),Or.inl ⟨.typedef d,σ4,w2.heap.size,[(w2.heap.size,.cells #[.string ⟨d.t.toArray⟩,.int .i64 d.at',.iface T vt] 197)],(Qh hx1).trans ((Qh hx2).trans (Qh hx4)),rfl,hr4,?_,?_⟩⟩
 ·show _∈_
  simp only [Q1Z,Hvt.out,List.mem_singleton]
 ·intro p hp
  simp only [List.mem_singleton] at hp
  subst hp
  exact ⟨HV.out,fun hm=>by have:=hX2 _ hm;simp at this⟩
def constant (text:ByteArray) (at':Nat):PM DefL:=bnd (Q2X at') fun _=>bnd (Q1y text) fun n=>bnd (QX text [61]) fun _=>
 bnd (value text (Q1V (-2147483648) 4294967295)) fun q=>bnd (QX text [59]) fun _=>ret (.const n.1 n.2 q.1)
theorem QbJ {A:Ad} {text:ByteArray} {σ:St} (at':Nat) {w:World} (h:Rd A text σ w) :
  Calls Tryz.prog 86 #[.pointer (some ⟨A.R,0,none⟩),.int .i64 at'] w (QC [A.R,A.S,A.N] A text w (constant text at' σ)):=by
 have hmf:∀ (fn:Fn) (first cap:Array Value) (w:World),(Instr.makeFunc fn first cap).run Tryz.prog w = .ok (.func fn first cap) w:=fun _ _ _ _=>rfl
 go_enter Tryz.func86,Tryz.ntmps86
 go_wp2_with fail
 refine (Q7O at' h).mono ?_
 rintro e w1 ⟨hk1,⟨u,σ1,hx1,rfl,hr1⟩ | ⟨f,hx1,b,hbb,rfl,hcell⟩⟩
 rotate_left
 ·exact Qa (QC.throws (hk1.mono (by simp)) (Qb.refl [] _) (Qp hx1) hbb hcell)
 have hK1:=hk1.mono (M':=[A.R,A.S,A.N]) (by simp)
 clear hk1
 go_wp2_with fail
 refine (Q3h hr1).mono ?_
 rintro e w2 ⟨hk2,⟨n,σ2,hx2,rfl,hr2⟩ | ⟨f,hx2,b,hbb,rfl,hcell⟩⟩
 rotate_left
 ·exact Qa (QC.throws (hK1.trans (hk2.mono (by simp))) hK1 ((Qh hx1).trans (Qp hx2)) hbb hcell)
 have hK2:=hK1.trans (hk2.mono (M':=[A.R,A.S,A.N]) (by simp))
 clear hk2 hK1
 dsimp only [Q1q]
 have hX2:=hr2.old
 have hlS:=hr2.lt.2.1
 have hr3:=hr2.own (.cells #[.string ⟨n.1.toArray⟩,.int .i64 n.2,.int .i64 0] 272)
 have hv:=Qg (w:=w2) (o:=.cells #[.string ⟨n.1.toArray⟩,.int .i64 n.2,.int .i64 0] 272) rfl
 have hK3:=hK2.alloc (.cells #[.string ⟨n.1.toArray⟩,.int .i64 n.2,.int .i64 0] 272)
 have hne:w2.heap.size ∉ [A.S]:=by simp;omega
 go_wp2_with fail
 refine (Q02 (Same.add A _) _ hr3).mono ?_
 rintro e w4 ⟨hk4,⟨x4,σ4,hx4,rfl,hr4⟩ | ⟨f,hx4,b,hbb,rfl,hcell⟩⟩
 rotate_left
 ·exact Qa (QC.throws (hK3.trans (hk4.mono (by simp))) hK3 ((Qh hx1).trans ((Qh hx2).trans (Qp hx4))) hbb hcell)
 have hv4:=(hk4.block _ (Qc hv) hne).trans hv
 have hK4:=hK3.trans (hk4.mono (M':=[A.R,A.S,A.N]) (by simp))
 clear hk4 hv hK3 hr3
 go_wp2_with fail
 refine (Q2Y _ _ _).mono ?_
 rintro e w5 ⟨v,rfl,hb5,hfit⟩
 have hf5:=hfit (A.add w2.heap.size).X hr4.old
 have hr5:=hr4.below hb5
 have hv5:=(hb5.block _ (Qc hv4)).trans hv4
 have hK5:=hK4.trans (Qb.of_below _ hb5)
 clear hfit hb5 hv4 hK4 hr4
 go_wp2_with fail
 refine (Q8W (Same.add A _) hr5 hf5).mono ?_
 rintro e w6 ⟨hk6,⟨q,σ6,hx6,rfl,hr6⟩ | ⟨f,hx6,b,hbb,rfl,hcell⟩⟩
 rotate_left
 ·exact Qa (QC.throws (hK5.trans (hk6.mono (by simp))) hK5 ((Qh hx1).trans ((Qh hx2).trans ((Qh hx4).trans (Qp hx6)))) hbb hcell)
 have hv6:=(hk6.block _ (Qc hv5) hne).trans hv5
 have hK6:=hK5.trans (hk6.mono (M':=[A.R,A.S,A.N]) (by simp))
 clear hk6 hv5 hK5 hr5 hf5
 obtain ⟨k0,k1,k2,hfrK⟩:=Q0i hv6
 dsimp only [Q9x]
 have hv7:=Qn (i:=2) hv6 (.int .i64 q.1)
 have hr7:=Rd.setNew (A':=A.add w2.heap.size) hr2 ⟨rfl,rfl,rfl,rfl⟩ hr6 (p:=⟨w2.heap.size,2,none⟩) (Nat.le_refl _) (by simp [Ad.add]) (.int .i64 q.1)
 have hK7:=hK6.setNew (p:=⟨w2.heap.size,2,none⟩) (Nat.le_of_lt_succ (Nat.lt_succ_of_le hK2.size)) (.int .i64 q.1)
 have HV7:=Hid.mk hv7
 clear hv7
 go_wp2_with fail
 refine (Q02 (Same.add A _) _ hr7).mono ?_
 rintro e w8 ⟨hk8,⟨x8,σ8,hx8,rfl,hr8⟩ | ⟨f,hx8,b,hbb,rfl,hcell⟩⟩
 rotate_left
 ·exact Qa (QC.throws (hK7.trans (hk8.mono (by simp))) hK7 ((Qh hx1).trans ((Qh hx2).trans ((Qh hx4).trans ((Qh hx6).trans (Qp hx8))))) hbb hcell)
 have HV8:=Hid.mk ((hk8.block _ (Qc HV7.out) hne).trans HV7.out)
 go_wp2
 go_ret
 refine ⟨hK7.trans (hk8.mono (by simp)),Or.inl ⟨.const n.1 n.2 q.1,σ8,w2.heap.size,[(w2.heap.size,.cells #[.string ⟨n.1.toArray⟩,.int .i64 n.2,.int .i64 q.1] 272)],(Qh hx1).trans ((Qh hx2).trans ((Qh hx4).trans ((Qh hx6).trans (Qh hx8)))),rfl,Rd.drop hr2.mine hr8,?_,?_⟩⟩
 ·show _∈_
  simp
 ·intro p hp
  simp only [List.mem_singleton] at hp
  subst hp
  exact ⟨HV8.out,fun hm=>by have:=hX2 _ hm;simp at this⟩
end Go.Proofs.YtmbcibgknckenaaGreatDoor
