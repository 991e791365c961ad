import Derived.Test.YtmbcibgknckenaaGreatDoorT9
import Derived.Defers
import Derived.Recover
import Derived.Laws.Bits64b
set_option linter.all false
set_option maxRecDepth 100000
set_option maxHeartbeats 4000000
namespace Go.Proofs.YtmbcibgknckenaaGreatDoor
open Go.RowKit
open Go.MapKept
abbrev prcC (q:Q2j):List Value:=Q4V q.t q.at'++[tyV q.res,tyV q.arg,.int .i64 q.num]
def Q2C (l:List (Int×Nat×Nat)):Obj:=Q3H (l.map fun p=>(.int .u32 p.1,.agg #[.int .i64 p.2.1,.int .i64 p.2.2]))
def Q3L (l:List (Int×Nat×List (Int×Nat×Nat))):Obj:=Q3H (l.map fun p=>(.int .u32 p.1,.map (some p.2.1)))
structure PrgB where
 lo:Int
 hi:Int
 m:Nat
 vs:List (Int×Nat×List (Int×Nat×Nat))
def Q4A (l:List (Int×PrgB)):Obj:=Q3H (l.map fun p=>(.int .u32 p.1,.agg #[.int .u32 p.2.lo,.int .u32 p.2.hi,.map (some p.2.m)]))
def Q8K (bs:List (Nat×Obj)) (l:List (Int×Nat×List (Int×Nat×Nat))):Prop:=∀ p∈l,(p.2.1,Q2C p.2.2)∈bs
def Q5B (bs:List (Nat×Obj)) (q:PrgB):Prop:=(q.m,Q3L q.vs)∈bs∧Q8K bs q.vs
def QaO (l:List (Int×Nat×List (Int×Nat×Nat))):List (Int×List (Int×Nat×Nat)):=l.map fun p=>(p.1,p.2.2)
def QcC (q:PrgB):PrgL:=⟨q.lo,q.hi,QaO q.vs⟩
def QaP (l:List (Int×PrgB)):List (Int×PrgL):=l.map fun p=>(p.1,QcC p.2)
def Qbi (v:Q0k):Prop:=v.procs.length≤8∧∀ p∈v.procs,Q0T p.res∧Q0T p.arg
def Q4B:DefL→Prop
 | .prog _ _ vs _=>vs≠[]∧vs.length≤4∧∀ v∈vs,Qbi v
 | _=>True
theorem Q8L (n:Int):Instr.keyThatStays (.int .u32 n) (.int .u32 n)=pure (.int .u32 n):=by
 unfold Instr.keyThatStays
 rw [if_pos (by show ((IntKind.u32 == IntKind.u32) && (n == n))=true;simp)]
theorem Qbj (a b:Int) (h:(Value.int .u32 a) = .int .u32 b):a=b:=by simpa using h
theorem Qa0 (n:Int) (w:World):(convert 2 161 (.int .i64 n)).run Tryz.prog w = .ok (.int .u32 (u32 n)) w:=by kernel_rfl
theorem QiI {W:World} {m:Nat} {l:List (Int×Nat×Nat)} (hb:W.heap[m]? = some (Q2C l)) (nd:(l.map (·.1)).Nodup) (k:Int) (p q:Nat) :
  (Instr.mapUpdate 260 (.map (some m)) (.int .u32 k) (.agg #[.int .i64 p,.int .i64 q])).run Tryz.prog W = .ok () (Q0c W m (Q2C (mput l k (p,q)))):=
 Q3u (P:=Tryz.prog) (T:=260) (kt:=161) (et:=263) (d:=.int .u32) (by kernel_rfl) (by kernel_rfl) (fun k:Int=>.int .u32 k) (fun q:Nat×Nat=>.agg #[.int .i64 q.1,.int .i64 q.2]) (fun _=>rfl) (fun _=>Q8L _) Qbj hb nd k (p,q)
theorem Qke {W:World} {m:Nat} {l:List (Int×Nat×List (Int×Nat×Nat))} (hb:W.heap[m]? = some (Q3L l)) (nd:(l.map (·.1)).Nodup) (k:Int) (v:Nat) (x:List (Int×Nat×Nat)) :
  (Instr.mapUpdate 214 (.map (some m)) (.int .u32 k) (.map (some v))).run Tryz.prog W = .ok () (Q0c W m (Q3L (mput l k (v,x)))):=
 Q3u (P:=Tryz.prog) (T:=214) (kt:=161) (et:=260) (d:=.int .u32) (by kernel_rfl) (by kernel_rfl) (fun k:Int=>.int .u32 k) (fun q:Nat×List (Int×Nat×Nat)=>.map (some q.1)) (fun _=>rfl) (fun _=>Q8L _) Qbj hb nd k (v,x)
theorem QiJ {W:World} {m:Nat} {l:List (Int×PrgB)} (hb:W.heap[m]? = some (Q4A l)) (nd:(l.map (·.1)).Nodup) (k:Int) (q:PrgB) :
  (Instr.mapUpdate 65 (.map (some m)) (.int .u32 k) (.agg #[.int .u32 q.lo,.int .u32 q.hi,.map (some q.m)])).run Tryz.prog W = .ok () (Q0c W m (Q4A (mput l k q))):=
 Q3u (P:=Tryz.prog) (T:=65) (kt:=161) (et:=216) (d:=.int .u32) (by kernel_rfl) (by kernel_rfl) (fun k:Int=>.int .u32 k) (fun q:PrgB=>.agg #[.int .u32 q.lo,.int .u32 q.hi,.map (some q.m)]) (fun _=>rfl) (fun _=>Q8L _) Qbj hb nd k q
theorem Room.startT {s:CSt} {n:Nat} {t:Ty} (hf:Q0T t) (h:Room s (n + 4)):Room (startT t s) n:=Room.put (Room.value t (h.less (by have:=Q5m hf;omega))) _
theorem Room.procs:∀ (l:List Q2j) {q:CSt×List (Int×Nat×Nat)} {n:Nat},(∀ p∈l,Q0T p.res∧Q0T p.arg)→Room q.1 (n + 8 * l.length)→Room (l.foldl Q12 q).1 n:=by
 intro l
 induction l with
 | nil=>intro q n _ h;exact h
 | cons p l ih=>
  intro q n hp h
  refine ih (fun x hx=>hp x (List.mem_cons_of_mem _ hx)) ?_
  exact Room.startT (hp p (by simp)).1 (Room.startT (hp p (by simp)).2 (h.less (by simp only [List.length_cons];omega)))
theorem Qf4:∀ (l:List Q2j) {q:CSt×List (Int×Nat×Nat)},(q.2.map (·.1)).Nodup→((l.foldl Q12 q).2.map (·.1)).Nodup:=by
 intro l
 induction l with
 | nil=>intro q h;exact h
 | cons p l ih=>intro q h;exact ih (Q2S h _ _)
theorem Qbk {b:Nat} {c0 c1 c2 c3 c4:Value} {T:TypeId} {w:World} (h:w.heap[b]? = some (.cells #[c0,c1,c2,c3,c4] T)) :
  w.cell? ⟨b,2,none⟩=some c2∧w.cell? ⟨b,3,none⟩=some c3∧w.cell? ⟨b,4,none⟩=some c4:=by
 refine ⟨?_,?_,?_⟩<;>simp [World.cell?,h]
def Qmw (w:World) (a:CAd) (Fr bs:List (Nat×Obj)) (v:Q0k) (s:CSt) (e:Ending) (u':World):Prop:=∃ V bs',e = .returned (.map (some V))∧(∀ p∈bs,p∈bs')∧(V,Q2C (Q3W v s).2)∈bs'∧QE w a Fr bs' (Q3W v s).1 u'
theorem QiK {w u:World} {a:CAd} {Fr bs:List (Nat×Obj)} {s:CSt} {sl ks:Value} {cv:List (Qk×Value)} {et:List (List UInt8×NumL×Value)} {bs0:List (Nat×Obj)} {csl:Value} {v:Q0k} (hsl:Q0D bs0 342 csl v.procs.length (v.procs.flatMap prcC)) (hw:∀ p∈bs0,w.heap[p.1]? = some p.2) (hty:Qbi v) (h:Cp w a Fr bs s sl ks cv et u) (hr:Room s 80) :
  Calls Tryz.prog 146 #[.pointer (some ⟨a.C,0,none⟩),.agg #[.string ⟨v.t.toArray⟩,.int .i64 v.at',csl,.int .i64 v.num]] u (Qmw w a Fr bs v s):=by
 have hmm:∀ (t:TypeId) (w:World),(Instr.makeMap t none).run Tryz.prog w = .ok (.map (some w.heap.size)) (w.alloc (.map #[] 0)):=fun _ _=>rfl
 have hcv:=Qa0
 have HTY:=Hid.mk hty
 have h8:=hty.1
 have HRM:=Hid.mk hr
 have hul:w.heap.size≤u.heap.size:=h.own.kp.size
 have M0:Hid (QE w a ((u.heap.size + 1,Q2C ((v.procs.take 0).foldl Q12 (s,[])).2) :: Fr) bs ((v.procs.take 0).foldl Q12 (s,[])).1 ((u.alloc (.cells #[.string ⟨v.t.toArray⟩,.int .i64 v.at',csl,.int .i64 v.num] 296)).alloc (.map #[] 0))):=by
  have h1:=(h.below ((Below.refl u.heap.size u).alloc (Nat.le_refl _) (.cells #[.string ⟨v.t.toArray⟩,.int .i64 v.at',csl,.int .i64 v.num] 296))).alloc (.map #[] 0)
  have e:(u.alloc (.cells #[.string ⟨v.t.toArray⟩,.int .i64 v.at',csl,.int .i64 v.num] 296)).heap.size=u.heap.size + 1:=by simp
  rw [e] at h1
  exact h1.gives
 have hcell:∀ (W:World),Qb [] w W→∀ i (hi:i < v.procs.length),∃ g cap,csl = .slice (some ⟨g,0,none⟩) v.procs.length cap∧v.procs.length≤cap∧W.cell? ⟨g,i * 5,none⟩=some (.string ⟨v.procs[i].t.toArray⟩)∧W.cell? ⟨g,i * 5 + 1,none⟩=some (.int .i64 v.procs[i].at')∧W.cell? ⟨g,i * 5 + 2,none⟩=some (tyV v.procs[i].res)∧W.cell? ⟨g,i * 5 + 3,none⟩=some (tyV v.procs[i].arg)∧W.cell? ⟨g,i * 5 + 4,none⟩=some (.int .i64 v.procs[i].num):=by
  intro W hW i hi
  rcases hsl with ⟨_,h0,_⟩ | ⟨g,cap,cur,e,⟨h1,_⟩,hg,htake⟩
  ·omega
  ·have hgb:=(hW.block _ (Qc (hw _ hg)) (by simp)).trans (hw _ hg)
   have hf:=Q2x (c:=prcC) (n:=5) (fun _=>rfl) v.procs i
   refine ⟨g,cap,e,h1,Qx hgb htake ?_,Qx hgb htake ?_,Qx hgb htake ?_,Qx hgb htake ?_,Qx hgb htake ?_⟩
   ·have:=hf 0 hi (by omega);simpa using this
   ·have:=hf 1 hi (by omega);simpa using this
   ·have:=hf 2 hi (by omega);simpa using this
   ·have:=hf 3 hi (by omega);simpa using this
   ·have:=hf 4 hi (by omega);simpa using this
 obtain ⟨dad,dcap,rfl⟩:∃ ad cap,csl = .slice ad v.procs.length cap:=by
  rcases hsl with ⟨e,h0,_⟩ | ⟨g,cap,cur,e,_⟩
  ·exact ⟨none,0,by rw [e,h0]⟩
  ·exact ⟨_,_,e⟩
 have HCL:=Hid.mk hcell
 clear hcell hsl hty hr h hw
 go_enter Tryz.func146,Tryz.ntmps146
 go_wp2
 go_loopw [12] (fun i ur=>∃ k:Nat,i = .int .i64 k∧k≤v.procs.length∧Hid (QE w a ((u.heap.size + 1,Q2C ((v.procs.take k).foldl Q12 (s,[])).2) :: Fr) bs ((v.procs.take k).foldl Q12 (s,[])).1 ur)) (fun i _=>v.procs.length - (intOf i).toNat)
 case atStart=>exact ⟨0,rfl,by omega,M0⟩
 case round=>
  obtain ⟨k,rfl,hk,G⟩:=hrel
  clear M0
  rcases Nat.lt_or_ge k v.procs.length with hlt | hge
  ·have hrm:Room ((v.procs.take k).foldl Q12 (s,[])).1 16:=Room.procs (v.procs.take k) (fun p hp=>HTY.out.2 p (List.mem_of_mem_take hp)) (HRM.out.less (by have:=HTY.out.1;simp;omega))
   have hnd:(((v.procs.take k).foldl Q12 (s,[])).2.map (·.1)).Nodup:=Qf4 _ (by simp)
   have HST:Hid ((v.procs.take (k + 1)).foldl Q12 (s,[])=Q12 ((v.procs.take k).foldl Q12 (s,[])) v.procs[k]):=by show _=_;rw [List.take_succ_eq_append_getElem hlt,List.foldl_append];rfl
   obtain ⟨bs1,sl1,ks1,cv1,et1,hb1,M1⟩:=G.out
   generalize hq:(v.procs.take k).foldl Q12 (s,[])=q at *
   obtain ⟨g,cap,hds,hcap,p0,p1,p2,p3,p4⟩:=HCL.out _ M1.own.kp k hlt
   cases hds
   have hko:=HTY.out.2 v.procs[k] (List.getElem_mem hlt)
   obtain ⟨T2,v2,h2⟩:=Q0b v.procs[k].res
   obtain ⟨T3,v3,h3⟩:=Q0b v.procs[k].arg
   rw [h2] at p2
   rw [h3] at p3
   have hk0:(0:Int)≤↑k:=by omega
   have hk1:(↑k:Int) < ↑v.procs.length:=by omega
   have MA:=Hid.mk ((M1.alloc (.cells #[.string ⟨v.procs[k].t.toArray⟩,.int .i64 v.procs[k].at',.iface T2 v2,.iface T3 v3,.int .i64 v.procs[k].num] 342)).below ((Below.refl _ _).drew))
   have hV:u.heap.size + 1≠wr.heap.size:=by
    have:=Qc (M1.own.hf _ List.mem_cons_self).1
    simp only at this
    omega
   have VA:=Q7U hko.2 MA.out (hrm.less (by omega))
   rw [h3] at VA
   have VA:=Hid.mk VA
   have VB:=fun (W:World) (bs:List (Nat×Obj)) sl ks cv et (M:Cp w a ((wr.heap.size,.cells #[.string ⟨v.procs[k].t.toArray⟩,.int .i64 v.procs[k].at',.iface T2 v2,.iface T3 v3,.int .i64 v.procs[k].num] 342) :: (u.heap.size + 1,Q2C q.2) :: Fr) bs (startT v.procs[k].arg q.1) sl ks cv et W)=>Q7U hko.1 M (Room.startT hko.2 (hrm.less (by omega)))
   rw [h2] at VB
   have VB:=Hid.mk VB
   have HB1:=Hid.mk hb1
   clear M1 G hrm hb1 MA
   go_wp2_with fail
   refine QD (fun w'=>w'.cell? ⟨wr.heap.size,2,none⟩=some (.iface T2 v2)∧w'.cell? ⟨wr.heap.size,3,none⟩=some (.iface T3 v3)∧w'.cell? ⟨wr.heap.size,4,none⟩=some (.int .i64 v.procs[k].num)) (L:=13) (by kernel_rfl) rfl (by kernel_rfl) (by kernel_rfl) ?_ (fun hHeld=>?_)
   ·exact Qbk (Qg rfl)
   refine tk (i:=0) (v:=?_) rfl (by kernel_rfl) (fun _ _ _ h=>h) (by rfl) (by assumption) ?_ ?_
   rotate_left
   ·intro w hSw;(try dsimp only at hSw);go_simp;(try with_reducible rfl)
   (try simp only [Qd,Qe,List.set])
   refine tk (i:=1) (v:=?_) rfl (by kernel_rfl) (fun _ _ _ h=>h) (by rfl) (by assumption) ?_ ?_
   rotate_left
   ·intro w hSw;(try dsimp only at hSw);go_simp;(try with_reducible rfl)
   (try simp only [Qd,Qe,List.set])
   refine tk (i:=2) (v:=?_) rfl (by kernel_rfl) (fun _ _ _ h=>h) (by rfl) (by assumption) ?_ ?_
   rotate_left
   ·intro w hSw;(try dsimp only at hSw);go_simp;(try with_reducible rfl)
   (try simp only [Qd,Qe,List.set])
   refine tk (i:=3) (v:=?_) rfl (by kernel_rfl) (fun _ _ _ h=>h) (by rfl) (by assumption) ?_ ?_
   rotate_left
   ·intro w hSw;(try dsimp only at hSw);go_simp;(try with_reducible rfl)
   (try simp only [Qd,Qe,List.set])
   refine tk (i:=4) (v:=?_) rfl (by kernel_rfl) (fun _ _ _ h=>h) (by rfl) (by assumption) ?_ ?_
   rotate_left
   ·intro w hSw;(try dsimp only at hSw);go_simp;(try with_reducible rfl)
   (try simp only [Qd,Qe,List.set])
   refine tk (i:=5) (v:=?_) rfl (by kernel_rfl) (fun _ _ _ h=>h) (by rfl) (by assumption) ?_ ?_
   rotate_left
   ·intro w hSw;(try dsimp only at hSw);go_simp;(try with_reducible rfl)
   (try simp only [Qd,Qe,List.set])
   refine tk (i:=6) (v:=?_) rfl (by kernel_rfl) (fun _ _ _ h=>h) (by rfl) (by assumption) ?_ ?_
   rotate_left
   ·intro w hSw;(try dsimp only at hSw);go_simp;(try with_reducible rfl)
   (try simp only [Qd,Qe,List.set])
   refine tk (i:=8) (v:=?_) rfl (by kernel_rfl) (fun _ _ _ h=>h) (by rfl) (by assumption) ?_ ?_
   rotate_left
   ·intro w hSw;(try dsimp only at hSw);go_simp;(try with_reducible rfl)
   (try simp only [Qd,Qe,List.set])
   refine tk (i:=9) (v:=?_) rfl (by kernel_rfl) (fun _ _ _ h=>h) (by rfl) (by assumption) ?_ ?_
   rotate_left
   ·intro w hSw;(try dsimp only at hSw);go_simp;(try with_reducible rfl)
   (try simp only [Qd,Qe,List.set])
   refine tk (i:=10) (v:=?_) rfl (by kernel_rfl) (fun _ _ _ h=>h) (by rfl) (by assumption) ?_ ?_
   rotate_left
   ·intro w hSw;(try dsimp only at hSw);go_simp;(try with_reducible rfl)
   (try simp only [Qd,Qe,List.set])
   refine wpAnyH_ready (rs:=[7]) (by kernel_rfl) (by simp) ?_
   refine AllReadyH.cons rfl (fun K hK=>?_) AllReadyH.nil
   (go_simp;go_at_call 101;refine VA.out.mono ?_;rintro e w5 ⟨rfl,bs5,sl5,ks5,cv5,et5,hb5,M5⟩;have M5:=Hid.mk M5;have VB:=Hid.mk (VB.out _ _ _ _ _ _ M5.out);obtain ⟨x2,x3,x4⟩:=Qbk (M5.out.own.hf _ List.mem_cons_self).1)
   refine hK.out _ _ ?_ (fun hHeld=>?_)
   ·go_keep
   clear hK K
   (try simp only [Qd,Qe,List.set])
   clear M5
   refine wpAnyH_ready (rs:=[11]) (by kernel_rfl) (by simp) ?_
   refine AllReadyH.cons rfl (fun K hK=>?_) AllReadyH.nil
   (go_simp;go_at_call 101;refine VB.out.mono ?_;rintro e w6 ⟨rfl,bs6,sl6,ks6,cv6,et6,hb6,M6⟩;have M6:=Hid.mk M6;obtain ⟨x2,x3,x4⟩:=Qbk (M6.out.own.hf _ List.mem_cons_self).1;have hmap:=(M6.out.tail.own.hf _ List.mem_cons_self).1;have pu:=QiI hmap hnd (u32 v.procs[k].num) q.1.code.length (startT v.procs[k].arg q.1).code.length;have M8:=M6.out.tail.setFr (Q0d _ _ _) (Q1w (Qc hmap) (Q2C (mput q.2 (u32 v.procs[k].num) (q.1.code.length,(startT v.procs[k].arg q.1).code.length))));obtain ⟨W,hW⟩:∃ W,W=Q0c w6 (u.heap.size + 1) (Q2C (mput q.2 (u32 v.procs[k].num) (q.1.code.length,(startT v.procs[k].arg q.1).code.length))):=⟨_,rfl⟩;rw [← hW] at pu M8;have M8:=Hid.mk M8;clear M6 hmap hW)
   refine hK.out _ _ ?_ (fun hHeld=>?_)
   ·go_keep
   clear hK K
   (try simp only [Qd,Qe,List.set])
   refine tk (i:=12) (v:=?_) rfl (by kernel_rfl) (fun _ _ _ h=>h) (by rfl) (by assumption) ?_ ?_
   rotate_left
   ·intro w hSw;(try dsimp only at hSw);go_simp;(try with_reducible rfl)
   (try simp only [Qd,Qe,List.set])
   refine wpAnyH_done (by kernel_rfl) ?_ _
   refine QL rfl (fun K hK=>?_)
   go_simp
   refine hK.out _ _ ?_
   clear hK K
   (try simp only [Qd,Qe,List.set])
   have hN:Hid (QE w a ((u.heap.size + 1,Q2C ((v.procs.take (k + 1)).foldl Q12 (s,[])).2) :: Fr) bs ((v.procs.take (k + 1)).foldl Q12 (s,[])).1 W):=by
    rw [HST.out]
    exact ⟨bs6,_,_,_,_,fun p hp=>hb6 p (hb5 p (HB1.out p hp)),M8.out⟩
   clear M8 VA VB
   go_wp2
   exact ⟨⟨k + 1,by go_num,by omega,hN⟩,by simp [intOf];omega⟩
  ·have hkk:k=v.procs.length:=by omega
   subst hkk
   have G:=G.out
   rw [List.take_length] at G
   obtain ⟨bs1,sl1,ks1,cv1,et1,hb1,M1⟩:=G
   have M1:=Hid.mk M1
   go_wp2
   go_ret
   exact ⟨u.heap.size + 1,_,rfl,fun p hp=>List.mem_cons_of_mem _ (hb1 p hp),List.mem_cons_self,M1.out.give.gives⟩
abbrev vrsC (p:Q0k×Value):List Value:=Q4V p.1.t p.1.at'++[p.2,.int .i64 p.1.num]
abbrev Q43 (lo hi:Int) (m:Option Nat):Obj:=.cells #[.int .u32 lo,.int .u32 hi,.map m] 216
theorem Room.vers:∀ (l:List Q0k) {q:CSt×PrgL} {n:Nat},(∀ v∈l,Qbi v)→Room q.1 (n + 64 * l.length)→Room (l.foldl Q1R q).1 n:=by
 intro l
 induction l with
 | nil=>intro q n _ h;exact h
 | cons v l ih=>
  intro q n hp h
  refine ih (fun x hx=>hp x (List.mem_cons_of_mem _ hx)) ?_
  have hv:=hp v (by simp)
  exact Room.procs v.procs (q:=(q.1,[])) hv.2 (h.less (by have:=hv.1;simp only [List.length_cons];omega))
theorem QgW (l:List (Int×Nat×List (Int×Nat×Nat))) (k:Int) (v:Nat) (x:List (Int×Nat×Nat)):QaO (mput l k (v,x))=mput (QaO l) k x:=Q9Q (fun q:Nat×List (Int×Nat×Nat)=>q.2) l k (v,x)
theorem Q8K.put {bs bs':List (Nat×Obj)} {l:List (Int×Nat×List (Int×Nat×Nat))} (h:Q8K bs l) (hb:∀ p∈bs,p∈bs') (k:Int) {v:Nat} {x:List (Int×Nat×Nat)} (hv:(v,Q2C x)∈bs'):Q8K bs' (mput l k (v,x)):=by
 intro p hp
 rcases Q9R hp with hp | rfl
 ·exact hb _ (h p hp)
 ·exact hv
structure QgX (w:World) (a:CAd) (Fr bs:List (Nat×Obj)) (R:Nat) (Q:CSt×PrgL) (lv:List (Int×Nat×List (Int×Nat×Nat))) (bk:List (Nat×Obj)) (sl ks:Value) (cv:List (Qk×Value)) (et:List (List UInt8×NumL×Value)) (ur:World):Prop where
 sub:∀ p∈bs,p∈bk
 vin:Q8K bk lv
 bare:QaO lv=Q.2.vs
 nd:(lv.map (·.1)).Nodup
 cp:Cp w a ((R + 1 + 1,Q43 Q.2.lo Q.2.hi (some (R + 1))) :: (R + 1,Q3L lv) :: (R,Q43 0 0 none) :: Fr) bk Q.1 sl ks cv et ur
def Qmx (w:World) (a:CAd) (Fr bs:List (Nat×Obj)) (vs:List Q0k) (s:CSt) (e:Ending) (u':World):Prop:=∃ (q:PrgB) (bs':List (Nat×Obj)),e = .returned (.agg #[.int .u32 q.lo,.int .u32 q.hi,.map (some q.m)])∧(∀ p∈bs,p∈bs')∧Q5B bs' q∧QcC q=(Q4z vs s).2∧QE w a Fr bs' (Q4z vs s).1 u'
theorem Q96 {b:Nat} {c0 c1 c2 c3:Value} {T:TypeId} {w:World} (h:w.heap[b]? = some (.cells #[c0,c1,c2,c3] T)) :
  w.cell? ⟨b,0,none⟩=some c0∧w.cell? ⟨b,1,none⟩=some c1∧w.cell? ⟨b,2,none⟩=some c2∧w.cell? ⟨b,3,none⟩=some c3:=by
 refine ⟨?_,?_,?_,?_⟩<;>simp [World.cell?,h]
theorem Q4P {b:Nat} {c0 c1 c2:Value} {T:TypeId} {w:World} (h:w.heap[b]? = some (.cells #[c0,c1,c2] T)) :
  w.cell? ⟨b,0,none⟩=some c0∧w.cell? ⟨b,1,none⟩=some c1∧w.cell? ⟨b,2,none⟩=some c2∧(∀ i,w.frozen? ⟨b,i,none⟩=false)∧b < w.heap.size:=by
 refine ⟨?_,?_,?_,?_,Qc h⟩<;>simp [World.cell?,World.frozen?,h]
theorem Q7V {b:Nat} {c0 c1 c2 x y z:Value} {T:TypeId} {w:World} (h:w.heap[b]? = some (.cells #[c0,c1,c2] T)):(((w.setCell ⟨b,0,none⟩ x).setCell ⟨b,1,none⟩ y).setCell ⟨b,2,none⟩ z).heap[b]? = some (.cells #[x,y,z] T):=Qo (i:=2) (Qo (i:=1) (Qo (i:=0) h x) y) z
theorem QbH {b:Nat} {w:World} (x y z:Value):Qb [b] w (((w.setCell ⟨b,0,none⟩ x).setCell ⟨b,1,none⟩ y).setCell ⟨b,2,none⟩ z):=
 (((Qb.refl [b] w).setIn (p:=⟨b,0,none⟩) (by simp) _).setIn (p:=⟨b,1,none⟩) (by simp) _).setIn (p:=⟨b,2,none⟩) (by simp) _
theorem QiL {w u:World} {a:CAd} {Fr bs:List (Nat×Obj)} {s:CSt} {sl ks:Value} {cv:List (Qk×Value)} {et:List (List UInt8×NumL×Value)} {bs0:List (Nat×Obj)} {b at':Nat} {t:List UInt8} {vs:List Q0k} {num:Int} (hd:Q0w bs0 b (.prog t at' vs num)) (hw:∀ p∈bs0,w.heap[p.1]? = some p.2) (hg:Q4B (.prog t at' vs num)) (h:Cp w a Fr bs s sl ks cv et u) (hr:Room s 400) :
  Calls Tryz.prog 102 #[.pointer (some ⟨a.C,0,none⟩),.pointer (some ⟨b,0,none⟩)] u (Qmx w a Fr bs vs s):=by
 have hmm:∀ (t:TypeId) (w:World),(Instr.makeMap t none).run Tryz.prog w = .ok (.map (some w.heap.size)) (w.alloc (.map #[] 0)):=fun _ _=>rfl
 have hcv:=Qa0
 obtain ⟨vsl,cs,hb,hcl,hsl,hea⟩:=hd
 obtain ⟨hne,hfew,hvg⟩:=hg
 have hpos:0 < vs.length:=List.length_pos_iff.2 hne
 have hbox:=hw _ hb
 have hbu:u.heap[b]? = _:=h.heap hbox
 have hbw:b < w.heap.size:=Qc hbox
 have hul:w.heap.size≤u.heap.size:=h.own.kp.size
 obtain ⟨g,cap,cur,rfl,⟨hcap,_⟩,hg,htake⟩:∃ g cap cur,vsl = .slice (some ⟨g,0,none⟩) vs.length cap∧(vs.length≤cap∧vs.length≤1000)∧(g,Obj.cells cur 296)∈bs0∧cur.toList.take ((vs.zip cs).flatMap vrsC).length=(vs.zip cs).flatMap vrsC:=by
  rcases hsl with ⟨_,h0,_⟩ | h
  ·omega
  ·exact h
 have hcell:∀ (W:World),Qb [] w W→∀ i (hi:i < vs.length) (hi':i < cs.length),W.cell? ⟨g,i * 4,none⟩=some (.string ⟨vs[i].t.toArray⟩)∧W.cell? ⟨g,i * 4 + 1,none⟩=some (.int .i64 vs[i].at')∧W.cell? ⟨g,i * 4 + 2,none⟩=some cs[i]∧W.cell? ⟨g,i * 4 + 3,none⟩=some (.int .i64 vs[i].num):=by
  intro W hW i hi hi'
  have hgb:=(hW.block _ (Qc (hw _ hg)) (by simp)).trans (hw _ hg)
  have hf:=Q2x (c:=vrsC) (n:=4) (fun _=>rfl) (vs.zip cs) i
  have hz:i < (vs.zip cs).length:=by simp;omega
  refine ⟨Qx hgb htake ?_,Qx hgb htake ?_,Qx hgb htake ?_,Qx hgb htake ?_⟩
  ·have:=hf 0 hz (by omega);simpa using this
  ·have:=hf 1 hz (by omega);simpa using this
  ·have:=hf 2 hz (by omega);simpa using this
  ·have:=hf 3 hz (by omega);simpa using this
 have hcsl:∀ i (hi:i < vs.length) (hi':i < cs.length),∃ x y z,cs[i] = .slice x y z:=by
  intro i hi hi'
  rcases hea i hi hi' with ⟨e,_⟩ | ⟨_,_,_,e,_⟩<;>exact ⟨_,_,_,e⟩
 have hgw:g < w.heap.size:=Qc (hw _ hg)
 obtain ⟨f0,f1,f2,f3⟩:=hcell u h.own.kp 0 hpos (by omega)
 obtain ⟨k0,k1,k2,k3⟩:=Q96 hbu
 simp only [Nat.zero_mul,Nat.zero_add] at f0 f1 f2 f3
 have hbl:b < u.heap.size:=by omega
 have hgl:g < u.heap.size:=by omega
 have hbl1:b < u.heap.size + 1:=by omega
 have hgl1:g < u.heap.size + 1:=by omega
 have hbl2:b < u.heap.size + 1 + 1:=by omega
 have hgl2:g < u.heap.size + 1 + 1:=by omega
 have hgn:g≠u.heap.size:=by omega
 have hbn:b≠u.heap.size:=by omega
 have hgn1:g≠u.heap.size + 1:=by omega
 have hbn1:b≠u.heap.size + 1:=by omega
 have hgn2:g≠u.heap.size + 1 + 1:=by omega
 have hbn2:b≠u.heap.size + 1 + 1:=by omega
 have hp1:(0:Int) < ↑vs.length:=by omega
 have hinit:(vs.head?.map fun v=>u32 v.num).getD 0=Go.Proofs.YtmbcibgknckenaaGreatDoor.u32 vs[0].num:=by
  cases vs with
  | nil=>simp at hpos
  | cons v vr=>rfl
 have M0:Hid (QgX w a Fr bs u.heap.size (s,⟨Go.Proofs.YtmbcibgknckenaaGreatDoor.u32 vs[0].num,Go.Proofs.YtmbcibgknckenaaGreatDoor.u32 vs[0].num,[]⟩) [] bs sl ks cv et (((u.alloc (Q43 0 0 none)).alloc (.map #[] 0)).alloc (Q43 (Go.Proofs.YtmbcibgknckenaaGreatDoor.u32 vs[0].num) (Go.Proofs.YtmbcibgknckenaaGreatDoor.u32 vs[0].num) (some (u.heap.size + 1))))):=by
  have h1:=((h.alloc (Q43 0 0 none)).alloc (.map #[] 0)).alloc (Q43 (Go.Proofs.YtmbcibgknckenaaGreatDoor.u32 vs[0].num) (Go.Proofs.YtmbcibgknckenaaGreatDoor.u32 vs[0].num) (some (u.heap.size + 1)))
  have z1:(u.alloc (Q43 0 0 none)).heap.size=u.heap.size + 1:=by simp
  have z2:((u.alloc (Q43 0 0 none)).alloc (.map #[] 0)).heap.size=u.heap.size + 1 + 1:=by simp
  rw [z2,z1] at h1
  exact ⟨fun _ hp=>hp,(by intro p hp;cases hp),rfl,by simp,h1⟩
 have HCL:=Hid.mk hcell
 have HCS:=Hid.mk hcsl
 have HEA:=Hid.mk hea
 have HVG:=Hid.mk hvg
 have HRM:=Hid.mk hr
 have HW:=Hid.mk hw
 clear hcell hcsl hea hvg hr h hw hsl hbu hbox htake
 go_enter Tryz.func102,Tryz.ntmps102
 go_wp2
 go_loopw [27] (fun i ur=>∃ (k:Nat) (lv:List (Int×Nat×List (Int×Nat×Nat))) (bk:List (Nat×Obj)) (sl ks:Value) (cv:List (Qk×Value)) (et:List (List UInt8×NumL×Value)),i = .int .i64 k∧k≤vs.length∧Hid (QgX w a Fr bs u.heap.size ((vs.take k).foldl Q1R (s,⟨Go.Proofs.YtmbcibgknckenaaGreatDoor.u32 vs[0].num,Go.Proofs.YtmbcibgknckenaaGreatDoor.u32 vs[0].num,[]⟩)) lv bk sl ks cv et ur)) (fun i _=>vs.length - (intOf i).toNat)
 case atStart=>exact ⟨0,_,_,_,_,_,_,rfl,by omega,M0⟩
 case round=>
  obtain ⟨k,lv,bk,sl1,ks1,cv1,et1,rfl,hk,G⟩:=hrel
  clear M0
  rcases Nat.lt_or_ge k vs.length with hlt | hge
  ·have hlt':k < cs.length:=by omega
   have hrm:Room ((vs.take k).foldl Q1R (s,⟨Go.Proofs.YtmbcibgknckenaaGreatDoor.u32 vs[0].num,Go.Proofs.YtmbcibgknckenaaGreatDoor.u32 vs[0].num,[]⟩)).1 80:=Room.vers (vs.take k) (fun v hv=>HVG.out v (List.mem_of_mem_take hv)) (HRM.out.less (by simp;omega))
   have HST:Hid ((vs.take (k + 1)).foldl Q1R (s,⟨Go.Proofs.YtmbcibgknckenaaGreatDoor.u32 vs[0].num,Go.Proofs.YtmbcibgknckenaaGreatDoor.u32 vs[0].num,[]⟩)=Q1R ((vs.take k).foldl Q1R (s,⟨Go.Proofs.YtmbcibgknckenaaGreatDoor.u32 vs[0].num,Go.Proofs.YtmbcibgknckenaaGreatDoor.u32 vs[0].num,[]⟩)) vs[k]):=by show _=_;rw [List.take_succ_eq_append_getElem hlt,List.foldl_append];rfl
   generalize hq:(vs.take k).foldl Q1R (s,⟨Go.Proofs.YtmbcibgknckenaaGreatDoor.u32 vs[0].num,Go.Proofs.YtmbcibgknckenaaGreatDoor.u32 vs[0].num,[]⟩)=q at *
   obtain ⟨x,y,z,hxyz⟩:=HCS.out k hlt hlt'
   obtain ⟨p0,p1,p2,p3⟩:=HCL.out _ G.out.cp.own.kp k hlt hlt'
   rw [hxyz] at p2
   have hsk:=HEA.out k hlt hlt'
   rw [hxyz] at hsk
   have hk0:(0:Int)≤↑k:=by omega
   have hk1:(↑k:Int) < ↑vs.length:=by omega
   have hP:=(G.out.cp.own.hf _ List.mem_cons_self).1
   obtain ⟨d0,d1,d2,dfr,dlt⟩:=Q4P hP
   have hPn:u.heap.size + 1 + 1≠wr.heap.size:=by omega
   have e0:=G.out.cp.setFr ((Qb.refl [u.heap.size + 1 + 1] _).setIn (p:=⟨u.heap.size + 1 + 1,0,none⟩) (by simp) (.int .u32 (min q.2.lo (Go.Proofs.YtmbcibgknckenaaGreatDoor.u32 vs[k].num)))) (Qo (i:=0) hP _)
   have e1:=e0.setFr ((Qb.refl [u.heap.size + 1 + 1] _).setIn (p:=⟨u.heap.size + 1 + 1,1,none⟩) (by simp) (.int .u32 (max q.2.hi (Go.Proofs.YtmbcibgknckenaaGreatDoor.u32 vs[k].num)))) (Qo (i:=1) (Qo (i:=0) hP _) _)
   have ez:((wr.setCell ⟨u.heap.size + 1 + 1,0,none⟩ (.int .u32 (min q.2.lo (Go.Proofs.YtmbcibgknckenaaGreatDoor.u32 vs[k].num)))).setCell ⟨u.heap.size + 1 + 1,1,none⟩ (.int .u32 (max q.2.hi (Go.Proofs.YtmbcibgknckenaaGreatDoor.u32 vs[k].num)))).heap.size=wr.heap.size:=by simp
   have e2':=e1.alloc (.cells #[.string ⟨vs[k].t.toArray⟩,.int .i64 vs[k].at',.slice x y z,.int .i64 vs[k].num] 296)
   rw [ez] at e2'
   have e2:Cp w a ((wr.heap.size,(.cells #[.string ⟨vs[k].t.toArray⟩,.int .i64 vs[k].at',.slice x y z,.int .i64 vs[k].num] 296)) :: (u.heap.size + 1 + 1,Q43 (min q.2.lo (Go.Proofs.YtmbcibgknckenaaGreatDoor.u32 vs[k].num)) (max q.2.hi (Go.Proofs.YtmbcibgknckenaaGreatDoor.u32 vs[k].num)) (some (u.heap.size + 1))) :: (u.heap.size + 1,Q3L lv) :: (u.heap.size,Q43 0 0 none) :: Fr) bk q.1 sl1 ks1 cv1 et1 _:=e2'
   have HX:=Hid.mk e2
   have VA:=Hid.mk (QiK hsk HW.out (HVG.out vs[k] (List.getElem_mem hlt)) (e2.below ((Below.refl _ _).drew)) hrm)
   clear e0 e1 e2 e2' hsk hrm
   go_wp2_with fail
   refine QD (fun w'=>w'.cell? ⟨u.heap.size + 1 + 1,2,none⟩=some (.map (some (u.heap.size + 1)))∧w'.cell? ⟨wr.heap.size,0,none⟩=some (.string ⟨vs[k].t.toArray⟩)∧w'.cell? ⟨wr.heap.size,1,none⟩=some (.int .i64 vs[k].at')∧w'.cell? ⟨wr.heap.size,2,none⟩=some (.slice x y z)∧w'.cell? ⟨wr.heap.size,3,none⟩=some (.int .i64 vs[k].num)) (L:=6) (by kernel_rfl) rfl (by kernel_rfl) (by kernel_rfl) ?_ (fun hHeld=>?_)
   ·exact ⟨(Q4P (HX.out.tail.own.hf _ List.mem_cons_self).1).2.2.1,Q96 (HX.out.own.hf _ List.mem_cons_self).1⟩
   refine tk (i:=0) (v:=?_) rfl (by kernel_rfl) (fun _ _ _ h=>h) (by rfl) (by assumption) ?_ ?_
   rotate_left
   ·intro w hSw;(try dsimp only at hSw);go_simp;(try with_reducible rfl)
   (try simp only [Qd,Qe,List.set])
   refine tk (i:=1) (v:=?_) rfl (by kernel_rfl) (fun _ _ _ h=>h) (by rfl) (by assumption) ?_ ?_
   rotate_left
   ·intro w hSw;(try dsimp only at hSw);go_simp;(try with_reducible rfl)
   (try simp only [Qd,Qe,List.set])
   refine tk (i:=2) (v:=?_) rfl (by kernel_rfl) (fun _ _ _ h=>h) (by rfl) (by assumption) ?_ ?_
   rotate_left
   ·intro w hSw;(try dsimp only at hSw);go_simp;(try with_reducible rfl)
   (try simp only [Qd,Qe,List.set])
   refine tk (i:=3) (v:=?_) rfl (by kernel_rfl) (fun _ _ _ h=>h) (by rfl) (by assumption) ?_ ?_
   rotate_left
   ·intro w hSw;(try dsimp only at hSw);go_simp;(try with_reducible rfl)
   (try simp only [Qd,Qe,List.set])
   refine tk (i:=4) (v:=?_) rfl (by kernel_rfl) (fun _ _ _ h=>h) (by rfl) (by assumption) ?_ ?_
   rotate_left
   ·intro w hSw;(try dsimp only at hSw);go_simp;(try with_reducible rfl)
   (try simp only [Qd,Qe,List.set])
   refine wpAnyH_ready (rs:=[5]) (by kernel_rfl) (by simp) ?_
   refine AllReadyH.cons rfl (fun K hK=>?_) AllReadyH.nil
   (go_simp;go_at_call 146;refine VA.out.mono ?_;rintro e w7 ⟨V,bs7,rfl,hb7,hV,bs8,sl7,ks7,cv7,et7,hb8,M7⟩;obtain ⟨x0,x1,x2,x3⟩:=Q96 (M7.own.hf _ List.mem_cons_self).1;obtain ⟨y0,y1,y2,yf,yl⟩:=Q4P (M7.tail.own.hf _ List.mem_cons_self).1;have hmap:=(M7.tail.tail.own.hf _ List.mem_cons_self).1;have pu:=Qke hmap G.out.nd (Go.Proofs.YtmbcibgknckenaaGreatDoor.u32 vs[k].num) V (Q3W vs[k] q.1).2;have M8:=Cp.turnAt (A:=[(u.heap.size + 1 + 1,Q43 (min q.2.lo (Go.Proofs.YtmbcibgknckenaaGreatDoor.u32 vs[k].num)) (max q.2.hi (Go.Proofs.YtmbcibgknckenaaGreatDoor.u32 vs[k].num)) (some (u.heap.size + 1)))]) M7.tail (Q0d _ _ _) (Q1w (Qc hmap) (Q3L (mput lv (Go.Proofs.YtmbcibgknckenaaGreatDoor.u32 vs[k].num) (V,(Q3W vs[k] q.1).2))));obtain ⟨W,hW⟩:∃ W,W=Q0c w7 (u.heap.size + 1) (Q3L (mput lv (Go.Proofs.YtmbcibgknckenaaGreatDoor.u32 vs[k].num) (V,(Q3W vs[k] q.1).2))):=⟨_,rfl⟩;rw [← hW] at pu M8;have M8:=Hid.mk M8;clear M7 hmap hW)
   refine hK.out _ _ ?_ (fun hHeld=>?_)
   ·go_keep
   clear hK K
   (try simp only [Qd,Qe,List.set])
   refine wpAnyH_done (by kernel_rfl) ?_ _
   refine QL rfl (fun K hK=>?_)
   go_simp
   refine hK.out _ _ ?_
   clear hK K
   (try simp only [Qd,Qe,List.set])
   have hN:Hid (QgX w a Fr bs u.heap.size ((vs.take (k + 1)).foldl Q1R (s,⟨Go.Proofs.YtmbcibgknckenaaGreatDoor.u32 vs[0].num,Go.Proofs.YtmbcibgknckenaaGreatDoor.u32 vs[0].num,[]⟩)) (mput lv (Go.Proofs.YtmbcibgknckenaaGreatDoor.u32 vs[k].num) (V,(Q3W vs[k] q.1).2)) bs8 sl7 ks7 cv7 et7 W):=by
    rw [HST.out]
    refine ⟨fun p hp=>hb8 p (hb7 p (G.out.sub p hp)),G.out.vin.put (fun p hp=>hb8 p (hb7 p hp)) _ (hb8 _ hV),?_,Q2S G.out.nd _ _,M8.out⟩
    rw [QgW,G.out.bare]
    rfl
   clear M8 VA HX
   go_wp2
   exact ⟨⟨k + 1,_,_,_,_,_,_,by go_num,by omega,hN⟩,by simp [intOf];omega⟩
  ·have hkk:k=vs.length:=by omega
   subst hkk
   have G:=G.out
   rw [List.take_length] at G
   have HPM:Hid (Q4z vs s=vs.foldl Q1R (s,⟨Go.Proofs.YtmbcibgknckenaaGreatDoor.u32 vs[0].num,Go.Proofs.YtmbcibgknckenaaGreatDoor.u32 vs[0].num,[]⟩)):=by
    show Q4z vs s=_
    unfold Q4z
    rw [hinit]
   generalize vs.foldl Q1R (s,⟨Go.Proofs.YtmbcibgknckenaaGreatDoor.u32 vs[0].num,Go.Proofs.YtmbcibgknckenaaGreatDoor.u32 vs[0].num,[]⟩)=q at *
   obtain ⟨d0,d1,d2,dfr,dlt⟩:=Q4P (G.cp.own.hf _ List.mem_cons_self).1
   have hR:=(G.cp.tail.tail.own.hf _ List.mem_cons_self).1
   obtain ⟨r0,r1,r2,rfr,rlt⟩:=Q4P hR
   obtain ⟨t0,t1,t2,_,_⟩:=Q4P (Q7V (x:=.int .u32 q.2.lo) (y:=.int .u32 q.2.hi) (z:=.map (some (u.heap.size + 1))) hR)
   have M9:=Hid.mk (Cp.turnAt (A:=[(u.heap.size + 1,Q3L lv)]) G.cp.tail (QbH (.int .u32 q.2.lo) (.int .u32 q.2.hi) (.map (some (u.heap.size + 1)))) (Q7V hR))
   have G:=Hid.mk G
   clear hR
   go_wp2
   refine bodyPost_ret (v:=.agg #[.int .u32 q.2.lo,.int .u32 q.2.hi,.map (some (u.heap.size + 1))]) (by simp [results,Tryz.results102,go_sem,t0,t1,t2]) rfl ?_
   refine ⟨⟨q.2.lo,q.2.hi,u.heap.size + 1,lv⟩,(u.heap.size + 1,Q3L lv) :: bk,rfl,fun p hp=>List.mem_cons_of_mem _ (G.out.sub p hp),⟨List.mem_cons_self,fun p hp=>List.mem_cons_of_mem _ (G.out.vin p hp)⟩,?_,?_⟩
   ·rw [HPM.out]
    show PrgL.mk q.2.lo q.2.hi (QaO lv)=q.2
    rw [G.out.bare]
   ·rw [HPM.out]
    exact (Cp.give (M9.out:Cp w a ((u.heap.size + 1,Q3L lv) :: _ :: Fr) bk q.1 sl1 ks1 cv1 et1 _)).tail.gives
theorem QgY {W:World} {m:Nat} {l:List (List UInt8×Nat)} (hb:W.heap[m]? = some (Q0E l)) (nd:(l.map (·.1)).Nodup) (k:List UInt8) (p:Nat) :
  (Instr.mapUpdate 64 (.map (some m)) (.string ⟨k.toArray⟩) (.int .i64 p)).run Tryz.prog W = .ok () (Q0c W m (Q0E (mput l k p))):=
 Q3u (P:=Tryz.prog) (T:=64) (kt:=9) (et:=3) (d:=.string) (by kernel_rfl) (by kernel_rfl) (fun k:List UInt8=>.string ⟨k.toArray⟩) (fun k:Nat=>.int .i64 k) (fun _=>trivial) (fun _=>Q6y _) Q3v hb nd k p
theorem QE.held {w u:World} {a:CAd} {Fr bs:List (Nat×Obj)} {s:CSt} (h:QE w a Fr bs s u) (bs0:List (Nat×Obj)) (hw:∀ p∈bs0,w.heap[p.1]? = some p.2):Held [] bs0 u:=fun p hp=>⟨h.heap (hw p hp),by simp⟩
theorem Cp.codeIn {w u:World} {a:CAd} {Fr bs:List (Nat×Obj)} {s:CSt} {sl ks:Value} {cv:List (Qk×Value)} {et:List (List UInt8×NumL×Value)} (h:Cp w a Fr bs s sl ks cv et u) (hl:s.code.length < 1000000):∃ bs',Q3I bs' sl s.code∧(∀ p∈bs,p∈bs')∧∀ p∈bs',u.heap[p.1]? = some p.2:=by
 have hB:∀ p∈bs,u.heap[p.1]? = some p.2:=fun p hp=>(h.own.hb p hp).1
 rcases h.row.2 with ⟨e,h0⟩ | ⟨g,cap,cur,e,_,h3,h4,h5,h6,h7⟩
 ·refine ⟨bs,⟨cv,h.cod,Or.inl ⟨e,h0,?_⟩,h.steps,hl⟩,fun _ hp=>hp,hB⟩
  have:=h.row.1
  rw [h0] at this
  simpa using this
 ·refine ⟨(g,.cells cur 226) :: bs,⟨cv,h.cod,Or.inr ⟨g,cap,cur,e,h4,List.mem_cons_self,?_⟩,fun p hp=>(h.steps p hp).more (fun _ hq=>List.mem_cons_of_mem _ hq),hl⟩,fun _ hp=>List.mem_cons_of_mem _ hp,?_⟩
  ·simpa using h7
  ·intro p hp
   rcases List.mem_cons.1 hp with rfl | hp
   ·exact h3
   ·exact hB p hp
def Qkf (w:World) (a:CAd) (Fr bs:List (Nat×Obj)) (ds:List DefL) (s:CSt) (e:Ending) (u':World):Prop:=∃ S bs',e = .returned (.map (some S))∧(∀ p∈bs,p∈bs')∧(S,Q0E (ds.foldl QM (s,[])).2)∈bs'∧QE w a Fr bs' (ds.foldl QM (s,[])).1 u'
theorem Qmy {w u:World} {a:CAd} {Fr bs:List (Nat×Obj)} {s:CSt} {sl ks:Value} {cv:List (Qk×Value)} {et:List (List UInt8×NumL×Value)} {bs0:List (Nat×Obj)} {dsl:Value} {ds:List DefL} {ps:List Nat} (hd:Q2Q bs0 dsl ds ps) (hw:∀ p∈bs0,w.heap[p.1]? = some p.2) (hn:ds.length≤100) (h:Cp w a Fr bs s sl ks cv et u) (hr:Room s 300) :
  Calls Tryz.prog 54 #[.pointer (some ⟨a.C,0,none⟩),dsl] u (Qkf w a Fr bs ds s):=by
 have hmm:∀ (t:TypeId) (w:World),(Instr.makeMap t none).run Tryz.prog w = .ok (.map (some w.heap.size)) (w.alloc (.map #[] 0)):=fun _ _=>rfl
 have hen:=Q20
 obtain ⟨hpl,hrow,hea⟩:=hd
 have HRM:=Hid.mk hr
 have M0:Hid (QE w a ((u.heap.size,Q0E ((ds.take 0).foldl QM (s,[])).2) :: Fr) bs ((ds.take 0).foldl QM (s,[])).1 (u.alloc (.map #[] 0))):=(h.alloc (.map #[] 0)).gives
 have hcell:∀ (v:World),Qb [] w v→∀ i (hi:i < ds.length) (hi':i < ps.length),∃ g cap,dsl = .slice (some ⟨g,0,none⟩) ds.length cap∧ds.length≤cap∧v.cell? ⟨g,i,none⟩=some (.iface (defT ds[i]) (.pointer (some ⟨ps[i],0,none⟩))):=by
  intro v hv i hi hi'
  rcases hrow with ⟨_,h0,_⟩ | ⟨g,cap,cur,e,⟨h1,_⟩,hg,htake⟩
  ·omega
  ·exact ⟨g,cap,e,h1,Qx ((hv.block _ (Qc (hw _ hg)) (by simp)).trans (hw _ hg)) htake (by unfold Q1Q;rw [List.getElem?_map,List.getElem?_eq_getElem (by simp;omega)];simp)⟩
 obtain ⟨dad,dcap,rfl⟩:∃ ad cap,dsl = .slice ad ds.length cap:=by
  rcases hrow with ⟨e,h0,_⟩ | ⟨g,cap,cur,e,_⟩
  ·exact ⟨none,0,by rw [e,h0]⟩
  ·exact ⟨_,_,e⟩
 have HCL:=Hid.mk hcell
 have HEA:=Hid.mk hea
 have HW:=Hid.mk hw
 clear hcell hrow hea hw h hr
 go_enter Tryz.func54,Tryz.ntmps54
 go_wp2
 go_loopw [14] (fun i ur=>∃ k:Nat,i = .int .i64 k∧k≤ds.length∧Hid (QE w a ((u.heap.size,Q0E ((ds.take k).foldl QM (s,[])).2) :: Fr) bs ((ds.take k).foldl QM (s,[])).1 ur)) (fun i _=>ds.length - (intOf i).toNat)
 case atStart=>exact ⟨0,rfl,by omega,M0⟩
 case round=>
  obtain ⟨k,rfl,hk,G⟩:=hrel
  clear M0
  rcases Nat.lt_or_ge k ds.length with hlt | hge
  ·have hlt':k < ps.length:=by omega
   have hrm:Room ((ds.take k).foldl QM (s,[])).1 100:=Room.starts (ds.take k) (p:=(s,[])) (HRM.out.less (by simp;omega))
   have hnd:(((ds.take k).foldl QM (s,[])).2.map (·.1)).Nodup:=Q8J _ (by simp)
   have hst:(ds.take (k + 1)).foldl QM (s,[])=QM ((ds.take k).foldl QM (s,[])) ds[k]:=by rw [List.take_succ_eq_append_getElem hlt,List.foldl_append];rfl
   have HST:=Hid.mk hst
   obtain ⟨bs1,sl1,ks1,cv1,et1,hb1,M1⟩:=G.out
   clear hst G
   generalize hp:(ds.take k).foldl QM (s,[])=p at *
   obtain ⟨g,cap,hds,hcap,q0⟩:=HCL.out _ M1.own.kp k hlt hlt'
   cases hds
   have htr:=Q3f (HEA.out k hlt hlt') (M1.gives.held bs0 HW.out)
   have hk0:(0:Int)≤↑k:=by omega
   have hk1:(↑k:Int) < ↑ds.length:=by omega
   have M1:=Hid.mk M1
   have HB1:=Hid.mk hb1
   clear hb1
   go_wp2_with fail
   refine (Q3c _ _ _).mono ?_
   rintro e w6 ⟨rfl,hb6⟩
   have M5:=M1.out.below hb6
   obtain ⟨c0,c1,c2,c3,hfz,hlt9⟩:=M5.cells
   have hCn:a.C≠w6.heap.size:=by omega
   have M6:=(M5.alloc (.cells #[.string ⟨(Qz ds[k]).1.toArray⟩,.int .i64 (Qz ds[k]).2] 116)).below ((Below.refl _ _).drew)
   have hlk:=M6.lookBody (Qz ds[k]).1 true
   clear M1 hb6 htr M5
   cases hb:look p.1.bodies (Qz ds[k]).1 with
   | none=>
    rw [hb] at hlk
    simp only [if_true] at hlk
    have hN:Hid (QE w a ((u.heap.size,Q0E ((ds.take (k + 1)).foldl QM (s,[])).2) :: Fr) bs ((ds.take (k + 1)).foldl QM (s,[])).1 (w6.alloc (.cells #[.string ⟨(Qz ds[k]).1.toArray⟩,.int .i64 (Qz ds[k]).2] 116)).drew):=by
     rw [HST.out]
     unfold QM
     rw [hb]
     simp only [Option.isSome_none,Bool.false_eq_true,if_false]
     exact QE.more HB1.out M6.tail.gives
    clear M6 hb
    go_wp2_with fail
    go_region
    go_wp2
    exact ⟨⟨k + 1,by go_num,by omega,hN⟩,by simp [intOf];omega⟩
   | some pl=>
    rw [hb] at hlk
    simp only [if_true] at hlk
    have VS:=Hid.mk (Q7U (t:=.named (Qz ds[k]).1 (Qz ds[k]).2) trivial (M6.below ((Below.refl _ _).drew)) (hrm.less (by omega)))
    have HBS:Hid (QM p ds[k]=(Q8z (Qz ds[k]).1 p.1,mput p.2 (Qz ds[k]).1 p.1.code.length)):=by
     show _=_
     unfold QM
     rw [hb]
     rfl
    clear M6 hb
    go_wp2_with fail
    go_region
    go_wp2_with fail
    refine QD (fun w'=>w'.cell? ⟨w6.heap.size,0,none⟩=some (.string ⟨(Qz ds[k]).1.toArray⟩)∧w'.cell? ⟨w6.heap.size,1,none⟩=some (.int .i64 (Qz ds[k]).2)) (L:=8) (by kernel_rfl) rfl (by kernel_rfl) (by kernel_rfl) ?_ (fun hHeld=>?_)
    ·exact ⟨(Q0o (w:=((w6.alloc _).drew).drew) (Qg (w:=w6) rfl)).1,(Q0o (w:=((w6.alloc _).drew).drew) (Qg (w:=w6) rfl)).2.1⟩
    refine tk (i:=0) (v:=?_) rfl (by kernel_rfl) (fun _ _ _ h=>h) (by rfl) (by assumption) ?_ ?_
    rotate_left
    ·intro w hSw;(try dsimp only at hSw);go_simp;(try with_reducible rfl)
    (try simp only [Qd,Qe,List.set])
    refine tk (i:=1) (v:=?_) rfl (by kernel_rfl) (fun _ _ _ h=>h) (by rfl) (by assumption) ?_ ?_
    rotate_left
    ·intro w hSw;(try dsimp only at hSw);go_simp;(try with_reducible rfl)
    (try simp only [Qd,Qe,List.set])
    refine tk (i:=2) (v:=?_) rfl (by kernel_rfl) (fun _ _ _ h=>h) (by rfl) (by assumption) ?_ ?_
    rotate_left
    ·intro w hSw;(try dsimp only at hSw);go_simp;(try with_reducible rfl)
    (try simp only [Qd,Qe,List.set])
    refine tk (i:=3) (v:=?_) rfl (by kernel_rfl) (fun _ _ _ h=>h) (by rfl) (by assumption) ?_ ?_
    rotate_left
    ·intro w hSw;(try dsimp only at hSw);go_simp;(try with_reducible rfl)
    (try simp only [Qd,Qe,List.set])
    refine tk (i:=4) (v:=?_) rfl (by kernel_rfl) (fun _ _ _ h=>h) (by rfl) (by assumption) ?_ ?_
    rotate_left
    ·intro w hSw;(try dsimp only at hSw);go_simp;(try with_reducible rfl)
    (try simp only [Qd,Qe,List.set])
    refine tk (i:=5) (v:=?_) rfl (by kernel_rfl) (fun _ _ _ h=>h) (by rfl) (by assumption) ?_ ?_
    rotate_left
    ·intro w hSw;(try dsimp only at hSw);go_simp;(try with_reducible rfl)
    (try simp only [Qd,Qe,List.set])
    refine tk (i:=6) (v:=?_) rfl (by kernel_rfl) (fun _ _ _ h=>h) (by rfl) (by assumption) ?_ ?_
    rotate_left
    ·intro w hSw;(try dsimp only at hSw);go_simp;(try with_reducible rfl)
    (try simp only [Qd,Qe,List.set])
    refine wpAnyH_ready (rs:=[7]) (by kernel_rfl) (by simp) ?_
    refine AllReadyH.cons rfl (fun K hK=>?_) AllReadyH.nil
    (go_simp;go_at_call 101;refine VS.out.mono ?_;rintro e w7 ⟨rfl,bs7,sl7,ks7,cv7,et7,hb7,M7⟩;obtain ⟨x0,x1,_,_⟩:=Q0o (M7.own.hf _ List.mem_cons_self).1;have hmap:=(M7.tail.own.hf _ List.mem_cons_self).1;have pu:=QgY hmap hnd (Qz ds[k]).1 p.1.code.length;have M8:=M7.tail.setFr (Q0d _ _ _) (Q1w (Qc hmap) (Q0E (mput p.2 (Qz ds[k]).1 p.1.code.length)));obtain ⟨W,hW⟩:∃ W,W=Q0c w7 u.heap.size (Q0E (mput p.2 (Qz ds[k]).1 p.1.code.length)):=⟨_,rfl⟩;rw [← hW] at pu M8;have M8:=Hid.mk M8;clear M7 hmap hW)
    refine hK.out _ _ ?_ (fun hHeld=>?_)
    ·go_keep
    clear hK K
    (try simp only [Qd,Qe,List.set])
    refine wpAnyH_done (by kernel_rfl) ?_ _
    refine QL rfl (fun K hK=>?_)
    go_simp
    refine hK.out _ _ ?_
    clear hK K
    (try simp only [Qd,Qe,List.set])
    have hN:Hid (QE w a ((u.heap.size,Q0E ((ds.take (k + 1)).foldl QM (s,[])).2) :: Fr) bs ((ds.take (k + 1)).foldl QM (s,[])).1 W):=by
     rw [HST.out,HBS.out]
     exact ⟨bs7,_,_,_,_,fun p hp=>hb7 p (HB1.out p hp),M8.out⟩
    clear M8 VS
    go_wp2
    exact ⟨⟨k + 1,by go_num,by omega,hN⟩,by simp [intOf];omega⟩
  ·have hkk:k=ds.length:=by omega
   subst hkk
   have G:=G.out
   rw [List.take_length] at G
   obtain ⟨bs1,sl1,ks1,cv1,et1,hb1,M1⟩:=G
   have M1:=Hid.mk M1
   go_wp2
   go_ret
   exact ⟨u.heap.size,_,rfl,fun p hp=>List.mem_cons_of_mem _ (hb1 p hp),List.mem_cons_self,M1.out.give.gives⟩
theorem Room.progs:∀ (l:List DefL) {q:CSt×List (Int×PrgL)} {n:Nat},(∀ d∈l,Q4B d)→Room q.1 (n + 256 * l.length)→Room (l.foldl Q0h q).1 n:=by
 intro l
 induction l with
 | nil=>intro q n _ h;exact h
 | cons d l ih=>
  intro q n hp h
  refine ih (fun x hx=>hp x (List.mem_cons_of_mem _ hx)) ?_
  have hd:=hp d (by simp)
  cases d with
  | prog t a vs num=>exact Room.vers vs (q:=(q.1,_)) hd.2.2 (h.less (by have:=hd.2.1;simp only [List.length_cons];omega))
  | _=>exact h.less (by simp only [List.length_cons];omega)
theorem Q5B.more {bs bs':List (Nat×Obj)} (hb:∀ p∈bs,p∈bs') {q:PrgB} (h:Q5B bs q):Q5B bs' q:=⟨hb _ h.1,fun p hp=>hb _ (h.2 p hp)⟩
theorem QgZ (l:List (Int×PrgB)) (k:Int) (q:PrgB):QaP (mput l k q)=mput (QaP l) k (QcC q):=Q9Q QcC l k q
theorem Qf5 {d:DefL} (h:∀ t a vs n,d≠.prog t a vs n) (b:Nat) (W:World):(Instr.typeAssert (.iface (defT d) (.pointer (some ⟨b,0,none⟩))) 113 186 true).run Tryz.prog W = .ok (.tuple #[.pointer none,.bool false]) W:=by
 cases d with
 | prog t a vs n=>exact absurd rfl (h t a vs n)
 | _=>kernel_rfl
theorem Qcp {d:DefL} (h:∀ t a vs n,d≠.prog t a vs n) (q:CSt×List (Int×PrgL)):Q0h q d=q:=by
 cases d with
 | prog t a vs n=>exact absurd rfl (h t a vs n)
 | _=>rfl
structure QcD (w:World) (a:CAd) (Fr bs:List (Nat×Obj)) (B:Nat) (Q:CSt×List (Int×PrgL)) (lp:List (Int×PrgB)) (bk:List (Nat×Obj)) (sl ks:Value) (cv:List (Qk×Value)) (et:List (List UInt8×NumL×Value)) (ur:World):Prop where
 sub:∀ p∈bs,p∈bk
 pin:∀ p∈lp,Q5B bk p.2
 bare:QaP lp=Q.2
 nd:(lp.map (·.1)).Nodup
 cp:Cp w a ((B,Q4A lp) :: Fr) bk Q.1 sl ks cv et ur
def Qmz (w:World) (a:CAd) (Fr bs:List (Nat×Obj)) (ds:List DefL) (s:CSt) (e:Ending) (u':World):Prop:=∃ P lp bs',e = .returned (.map (some P))∧(∀ p∈bs,p∈bs')∧(P,Q4A lp)∈bs'∧(∀ p∈lp,Q5B bs' p.2)∧QaP lp=(ds.foldl Q0h (s,[])).2∧(lp.map (·.1)).Nodup∧QE w a Fr bs' (ds.foldl Q0h (s,[])).1 u'
theorem Qh0 {w u:World} {a:CAd} {Fr bs:List (Nat×Obj)} {s:CSt} {sl ks:Value} {cv:List (Qk×Value)} {et:List (List UInt8×NumL×Value)} {bs0:List (Nat×Obj)} {dsl:Value} {ds:List DefL} {ps:List Nat} (hd:Q2Q bs0 dsl ds ps) (hw:∀ p∈bs0,w.heap[p.1]? = some p.2) (hn:ds.length≤100) (hgd:∀ d∈ds,Q4B d) (h:Cp w a Fr bs s sl ks cv et u) (hr:Room s 27000) :
  Calls Tryz.prog 55 #[.pointer (some ⟨a.C,0,none⟩),dsl] u (Qmz w a Fr bs ds s):=by
 have hmm:∀ (t:TypeId) (w:World),(Instr.makeMap t none).run Tryz.prog w = .ok (.map (some w.heap.size)) (w.alloc (.map #[] 0)):=fun _ _=>rfl
 have hcv:=Qa0
 obtain ⟨hpl,hrow,hea⟩:=hd
 have HRM:=Hid.mk hr
 have HGD:=Hid.mk hgd
 have M0:Hid (QcD w a Fr bs u.heap.size ((ds.take 0).foldl Q0h (s,[])) [] bs sl ks cv et (u.alloc (.map #[] 0))):=⟨fun _ hp=>hp,(by intro p hp;cases hp),rfl,by simp,h.alloc (.map #[] 0)⟩
 have hcell:∀ (v:World),Qb [] w v→∀ i (hi:i < ds.length) (hi':i < ps.length),∃ g cap,dsl = .slice (some ⟨g,0,none⟩) ds.length cap∧ds.length≤cap∧v.cell? ⟨g,i,none⟩=some (.iface (defT ds[i]) (.pointer (some ⟨ps[i],0,none⟩))):=by
  intro v hv i hi hi'
  rcases hrow with ⟨_,h0,_⟩ | ⟨g,cap,cur,e,⟨h1,_⟩,hg,htake⟩
  ·omega
  ·exact ⟨g,cap,e,h1,Qx ((hv.block _ (Qc (hw _ hg)) (by simp)).trans (hw _ hg)) htake (by unfold Q1Q;rw [List.getElem?_map,List.getElem?_eq_getElem (by simp;omega)];simp)⟩
 obtain ⟨dad,dcap,rfl⟩:∃ ad cap,dsl = .slice ad ds.length cap:=by
  rcases hrow with ⟨e,h0,_⟩ | ⟨g,cap,cur,e,_⟩
  ·exact ⟨none,0,by rw [e,h0]⟩
  ·exact ⟨_,_,e⟩
 have HCL:=Hid.mk hcell
 have HEA:=Hid.mk hea
 have HW:=Hid.mk hw
 clear hcell hrow hea hw h hr hgd
 go_enter Tryz.func55,Tryz.ntmps55
 go_wp2
 go_loopw [12] (fun i ur=>∃ (k:Nat) (lp:List (Int×PrgB)) (bk:List (Nat×Obj)) (sl ks:Value) (cv:List (Qk×Value)) (et:List (List UInt8×NumL×Value)),i = .int .i64 k∧k≤ds.length∧Hid (QcD w a Fr bs u.heap.size ((ds.take k).foldl Q0h (s,[])) lp bk sl ks cv et ur)) (fun i _=>ds.length - (intOf i).toNat)
 case atStart=>exact ⟨0,_,_,_,_,_,_,rfl,by omega,M0⟩
 case round=>
  obtain ⟨k,lp,bk,sl1,ks1,cv1,et1,rfl,hk,G⟩:=hrel
  clear M0
  rcases Nat.lt_or_ge k ds.length with hlt | hge
  ·have hlt':k < ps.length:=by omega
   have hrm:Room ((ds.take k).foldl Q0h (s,[])).1 400:=Room.progs (ds.take k) (fun d hd=>HGD.out d (List.mem_of_mem_take hd)) (HRM.out.less (by simp;omega))
   have HST:Hid ((ds.take (k + 1)).foldl Q0h (s,[])=Q0h ((ds.take k).foldl Q0h (s,[])) ds[k]):=by show _=_;rw [List.take_succ_eq_append_getElem hlt,List.foldl_append];rfl
   generalize hp:(ds.take k).foldl Q0h (s,[])=q at *
   obtain ⟨g,cap,hds,hcap,q0⟩:=HCL.out _ G.out.cp.own.kp k hlt hlt'
   cases hds
   have hk0:(0:Int)≤↑k:=by omega
   have hk1:(↑k:Int) < ↑ds.length:=by omega
   by_cases hpr:∃ t a vs n,ds[k] = .prog t a vs n
   ·obtain ⟨t,pa,vs,num,hdk⟩:=hpr
    have hdi:=HEA.out k hlt hlt'
    have hgk:=HGD.out ds[k] (List.getElem_mem hlt)
    rw [hdk] at hdi hgk q0
    have hta:∀ W,(Instr.typeAssert (.iface 186 (.pointer (some ⟨ps[k],0,none⟩))) 113 186 true).run Tryz.prog W = .ok (.tuple #[.pointer (some ⟨ps[k],0,none⟩),.bool true]) W:=fun W=>by kernel_rfl
    replace q0:wr.cell? ⟨g,k,none⟩=some (.iface 186 (.pointer (some ⟨ps[k],0,none⟩))):=q0
    have hbx:∀ (v:World),Qb [] w v→v.cell? ⟨ps[k],3,none⟩=some (.int .i64 num):=by
     intro v hv
     obtain ⟨vsl,cs,hb,_⟩:=hdi
     exact (Q96 ((hv.block _ (Qc (HW.out _ hb)) (by simp)).trans (HW.out _ hb))).2.2.2
    have f3:=hbx _ G.out.cp.own.kp
    have HBX:=Hid.mk hbx
    have VA:=Hid.mk (QiL hdi HW.out hgk (G.out.cp.below ((Below.refl _ _).drew)) hrm)
    clear hdi hgk hbx hrm
    go_wp2_with fail
    refine QD (fun w'=>w'.cell? ⟨ps[k],3,none⟩=some (.int .i64 num)) (L:=9) (by kernel_rfl) rfl (by kernel_rfl) (by kernel_rfl) ?_ (fun hHeld=>?_)
    ·go_keep
    refine tk (i:=0) (v:=?_) rfl (by kernel_rfl) (fun _ _ _ h=>h) (by rfl) (by assumption) ?_ ?_
    rotate_left
    ·intro w hSw;(try dsimp only at hSw);go_simp;(try with_reducible rfl)
    (try simp only [Qd,Qe,List.set])
    refine tk (i:=1) (v:=?_) rfl (by kernel_rfl) (fun _ _ _ h=>h) (by rfl) (by assumption) ?_ ?_
    rotate_left
    ·intro w hSw;(try dsimp only at hSw);go_simp;(try with_reducible rfl)
    (try simp only [Qd,Qe,List.set])
    refine tk (i:=2) (v:=?_) rfl (by kernel_rfl) (fun _ _ _ h=>h) (by rfl) (by assumption) ?_ ?_
    rotate_left
    ·intro w hSw;(try dsimp only at hSw);go_simp;(try with_reducible rfl)
    (try simp only [Qd,Qe,List.set])
    refine tk (i:=3) (v:=?_) rfl (by kernel_rfl) (fun _ _ _ h=>h) (by rfl) (by assumption) ?_ ?_
    rotate_left
    ·intro w hSw;(try dsimp only at hSw);go_simp;(try with_reducible rfl)
    (try simp only [Qd,Qe,List.set])
    refine tk (i:=4) (v:=?_) rfl (by kernel_rfl) (fun _ _ _ h=>h) (by rfl) (by assumption) ?_ ?_
    rotate_left
    ·intro w hSw;(try dsimp only at hSw);go_simp;(try with_reducible rfl)
    (try simp only [Qd,Qe,List.set])
    refine tk (i:=5) (v:=?_) rfl (by kernel_rfl) (fun _ _ _ h=>h) (by rfl) (by assumption) ?_ ?_
    rotate_left
    ·intro w hSw;(try dsimp only at hSw);go_simp;(try with_reducible rfl)
    (try simp only [Qd,Qe,List.set])
    refine tk (i:=6) (v:=?_) rfl (by kernel_rfl) (fun _ _ _ h=>h) (by rfl) (by assumption) ?_ ?_
    rotate_left
    ·intro w hSw;(try dsimp only at hSw);go_simp;(try with_reducible rfl)
    (try simp only [Qd,Qe,List.set])
    refine tk (i:=7) (v:=?_) rfl (by kernel_rfl) (fun _ _ _ h=>h) (by rfl) (by assumption) ?_ ?_
    rotate_left
    ·intro w hSw;(try dsimp only at hSw);go_simp;(try with_reducible rfl)
    (try simp only [Qd,Qe,List.set])
    refine wpAnyH_ready (rs:=[8]) (by kernel_rfl) (by simp) ?_
    refine AllReadyH.cons rfl (fun K hK=>?_) AllReadyH.nil
    (go_simp;go_at_call 102;refine VA.out.mono ?_;rintro e w7 ⟨pg,bs7,rfl,hb7,hin,hbare,sb8,sl7,ks7,cv7,et7,hb8,M7⟩;have f7:=HBX.out _ M7.own.kp;have hmap:=(M7.own.hf _ List.mem_cons_self).1;have pu:=QiJ hmap G.out.nd (u32 num) pg;have M8:=M7.setFr (Q0d _ _ _) (Q1w (Qc hmap) (Q4A (mput lp (u32 num) pg)));obtain ⟨W,hW⟩:∃ W,W=Q0c w7 u.heap.size (Q4A (mput lp (u32 num) pg)):=⟨_,rfl⟩;rw [← hW] at pu M8;have M8:=Hid.mk M8;clear M7 hmap hW)
    refine hK.out _ _ ?_ (fun hHeld=>?_)
    ·go_keep
    clear hK K
    (try simp only [Qd,Qe,List.set])
    refine wpAnyH_done (by kernel_rfl) ?_ _
    refine QL rfl (fun K hK=>?_)
    go_simp
    refine hK.out _ _ ?_
    clear hK K
    (try simp only [Qd,Qe,List.set])
    have hN:Hid (QcD w a Fr bs u.heap.size ((ds.take (k + 1)).foldl Q0h (s,[])) (mput lp (u32 num) pg) sb8 sl7 ks7 cv7 et7 W):=by
     rw [HST.out,hdk]
     refine ⟨fun p hp=>hb8 p (hb7 p (G.out.sub p hp)),?_,?_,Q2S G.out.nd _ _,M8.out⟩
     ·intro p hp
      rcases Q9R hp with hp | rfl
      ·exact (G.out.pin p hp).more fun x hx=>hb8 x (hb7 x hx)
      ·exact hin.more hb8
     ·rw [QgZ,G.out.bare,hbare]
      rfl
    clear M8 VA
    go_wp2
    exact ⟨⟨k + 1,_,_,_,_,_,_,by go_num,by omega,hN⟩,by simp [intOf];omega⟩
   ·have hnp:∀ t a vs n,ds[k]≠.prog t a vs n:=fun t a vs n e=>hpr ⟨t,a,vs,n,e⟩
    have hta:=Qf5 hnp ps[k]
    have hN:Hid (QcD w a Fr bs u.heap.size ((ds.take (k + 1)).foldl Q0h (s,[])) lp bk sl1 ks1 cv1 et1 wr):=by
     rw [HST.out,Qcp hnp]
     exact G.out
    go_wp2
    exact ⟨⟨k + 1,_,_,_,_,_,_,by go_num,by omega,hN⟩,by simp [intOf];omega⟩
  ·have hkk:k=ds.length:=by omega
   subst hkk
   have G:=G.out
   rw [List.take_length] at G
   have G:=Hid.mk G
   go_wp2
   go_ret
   exact ⟨u.heap.size,lp,_,rfl,fun p hp=>List.mem_cons_of_mem _ (G.out.sub p hp),List.mem_cons_self,fun p hp=>(G.out.pin p hp).more fun x hx=>List.mem_cons_of_mem _ hx,G.out.bare,G.out.nd,G.out.cp.give.gives⟩
structure Q8M (bs:List (Nat×Obj)) (v:Value) (S P:Nat) (ds:List DefL):Prop where
 code:Q3I bs v (Q14 ds).1
 types:(S,Q0E (Q14 ds).2)∈bs
 nd:((Q14 ds).2.map (·.1)).Nodup
 progs:∃ lp,(P,Q4A lp)∈bs∧(∀ p∈lp,Q5B bs p.2)∧QaP lp=(QfF ds).2∧(lp.map (·.1)).Nodup
def QmA (u:World) (ds:List DefL) (e:Ending) (u':World):Prop:=∃ v S P bs,e = .returned (.agg #[v,.map (some S),.map (some P)])∧Qb [] u u'∧Q8M bs v S P ds∧∀ p∈bs,u'.heap[p.1]? = some p.2
theorem Qkg {ds:List DefL}:∀ k∈(ds.foldl Q0h ((ds.foldl QM (QP ds,[])).1,[])).1.calls,k.1 < (ds.foldl Q0h ((ds.foldl QM (QP ds,[])).1,[])).1.code.length:=by
 obtain ⟨c1,_⟩:=Q9W (fun _=>0) ds.length ds rfl
 obtain ⟨s1,_⟩:=QaC (fun _=>0) (QP ds) c1 ds.length ds rfl
 exact (QbB (fun _=>0) ds _ s1).1.wf.lt
theorem Qng {u:World} {bs0:List (Nat×Obj)} {dsl:Value} {ds:List DefL} {ps:List Nat} (hd:Q2Q bs0 dsl ds ps) (hw:∀ p∈bs0,u.heap[p.1]? = some p.2) (hty:Q8A ds) (hgd:∀ d∈ds,Q4B d) (hn:ds.length≤100) :
  Calls Tryz.prog 29 #[dsl] u (QmA u ds):=by
 have hmm:∀ (t:TypeId) (w:World),(Instr.makeMap t none).run Tryz.prog w = .ok (.map (some w.heap.size)) (w.alloc (.map #[] 0)):=fun _ _=>rfl
 have HD:=Hid.mk hd
 have HGD:=Hid.mk hgd
 obtain ⟨hpl,hrow,hea⟩:=hd
 have hfew:∀ d∈ds,QaN d:=by
  intro d hd
  obtain ⟨i,hi,rfl⟩:=List.getElem_of_mem hd
  exact QiF (hea i hi (by omega))
 have R0:Hid (Room st0C (28000 + 5000 + 300 + 4100 * ds.length)):=⟨by simp [st0C];omega,by simp [st0C]⟩
 have HFEW:=Hid.mk hfew
 have HTY:=Hid.mk hty
 have M0:=Hid.mk (Qkd u).gives
 have hcell:∀ (v:World),Qb [] u v→∀ i (hi:i < ds.length) (hi':i < ps.length),∃ g cap,dsl = .slice (some ⟨g,0,none⟩) ds.length cap∧ds.length≤cap∧v.cell? ⟨g,i,none⟩=some (.iface (defT ds[i]) (.pointer (some ⟨ps[i],0,none⟩))):=by
  intro v hv i hi hi'
  rcases hrow with ⟨_,h0,_⟩ | ⟨g,cap,cur,e,⟨h1,_⟩,hg,htake⟩
  ·omega
  ·exact ⟨g,cap,e,h1,Qx ((hv.block _ (Qc (hw _ hg)) (by simp)).trans (hw _ hg)) htake (by unfold Q1Q;rw [List.getElem?_map,List.getElem?_eq_getElem (by simp;omega)];simp)⟩
 obtain ⟨dad,dcap,rfl⟩:∃ ad cap,dsl = .slice ad ds.length cap:=by
  rcases hrow with ⟨e,h0,_⟩ | ⟨g,cap,cur,e,_⟩
  ·exact ⟨none,0,by rw [e,h0]⟩
  ·exact ⟨_,_,e⟩
 have HCL:=Hid.mk hcell
 have HEA:=Hid.mk hea
 have HW:=Hid.mk hw
 clear hcell hrow hea hw hfew hty hgd
 go_enter Tryz.func29,Tryz.ntmps29
 go_wp2
 go_loopw [14] (fun i ur=>∃ k:Nat,i = .int .i64 k∧k≤ds.length∧Hid (QE u ⟨u.heap.size + 3,u.heap.size + 1,u.heap.size + 2⟩ [(u.heap.size,Q5s (.slice none 0 0) none none)] [] (QP (ds.take k)) ur)) (fun i _=>ds.length - (intOf i).toNat)
 case atStart=>exact ⟨0,rfl,by omega,M0⟩
 case round=>
  obtain ⟨k,rfl,hk,G⟩:=hrel
  clear M0
  rcases Nat.lt_or_ge k ds.length with hlt | hge
  ·have hlt':k < ps.length:=by omega
   have hrm:Room (QP (ds.take k)) 5000:=Room.defs (ds.take k) (fun d hd=>HTY.out d (List.mem_of_mem_take hd)) (fun d hd=>HFEW.out d (List.mem_of_mem_take hd)) (R0.out.less (by simp;omega))
   obtain ⟨bs1,sl1,ks1,cv1,et1,hb1,M1⟩:=G.out
   obtain ⟨g,cap,hds,hcap,q0⟩:=HCL.out _ M1.own.kp k hlt hlt'
   cases hds
   have VD:=Hid.mk (QdR (HEA.out k hlt hlt') HW.out (HTY.out ds[k] (List.getElem_mem hlt)) M1 hrm)
   have hk0:(0:Int)≤↑k:=by omega
   have hk1:(↑k:Int) < ↑ds.length:=by omega
   have HST:Hid (QP (ds.take (k + 1))=QQ ds[k] (QP (ds.take k))):=by show _=_;rw [List.take_succ_eq_append_getElem hlt,Q41]
   clear M1 hrm hb1 G
   go_wp2_with fail
   refine VD.out.mono ?_
   rintro e w2 ⟨rfl,M3⟩
   have G3:Hid (QE u ⟨u.heap.size + 3,u.heap.size + 1,u.heap.size + 2⟩ [(u.heap.size,Q5s (.slice none 0 0) none none)] [] (QP (ds.take (k + 1))) w2):=by
    rw [HST.out]
    exact QE.more (by intro p hp;cases hp) M3
   clear M3 VD
   go_wp2
   exact ⟨⟨k + 1,by go_num,by omega,G3⟩,by simp [intOf];omega⟩
  ·have hkk:k=ds.length:=by omega
   subst hkk
   have G:=G.out
   rw [List.take_length] at G
   have R1:Room (QP ds) 33000:=Room.defs ds HTY.out HFEW.out (R0.out.less (by omega))
   obtain ⟨bs1,sl1,ks1,cv1,et1,hb1,M1⟩:=G
   have R2:Hid (Room (ds.foldl QM (QP ds,[])).1 32000):=Room.starts ds (p:=(QP ds,[])) (R1.less (by omega))
   have R3:Hid (Room (ds.foldl Q0h ((ds.foldl QM (QP ds,[])).1,[])).1 100):=Room.progs ds (q:=((ds.foldl QM (QP ds,[])).1,[])) HGD.out (R2.out.less (by omega))
   have VS:=Hid.mk (Qmy HD.out HW.out hn M1 (R1.less (by omega)))
   clear M1 R0 R1
   go_wp2_with fail
   refine VS.out.mono ?_
   rintro e w2 ⟨S,bs2,rfl,hs2,hS,bs3,sl3,ks3,cv3,et3,hb3,M3⟩
   have VP:=Hid.mk (Qh0 HD.out HW.out hn HGD.out M3 (R2.out.less (by omega)))
   have HS:=Hid.mk (hb3 _ hS)
   clear M3 VS hS
   go_wp2_with fail
   refine VP.out.mono ?_
   rintro e w4 ⟨P,lp,bs4,rfl,hs4,hP,hpin,hbare,hlpn,bs5,sl5,ks5,cv5,et5,hb5,M5⟩
   have hwf:=Qkg (ds:=ds)
   have hc9:=R3.out.code
   have hc8:=R3.out.calls
   have HLEN:Hid ((Q14 ds).1.length < 1000000):=by
    have:=(QdS (ds.foldl Q0h ((ds.foldl QM (QP ds,[])).1,[])).1.calls (ds.foldl Q0h ((ds.foldl QM (QP ds,[])).1,[])).1).1
    exact Nat.lt_of_le_of_lt (Nat.le_of_eq this) (by omega)
   have VL:=Hid.mk (Qne M5 hwf (by omega) (by omega))
   have HBARE:=Hid.mk hbare
   have HPIN:=Hid.mk hpin
   clear M5 hwf VP hbare hpin
   go_wp2_with fail
   refine VL.out.mono ?_
   rintro e w7 ⟨rfl,cv7,M7⟩
   obtain ⟨sa,sc,rfl⟩:=M7.slice
   obtain ⟨c0,c1,c2,c3,hfz,hlt9⟩:=M7.cells
   have hR:=(M7.own.hf _ List.mem_cons_self).1
   obtain ⟨r0,r1,r2,rfr,rlt⟩:=Q4P hR
   obtain ⟨t0,t1,t2,_,_⟩:=Q4P (Q7V (x:=.slice sa (Q73 (ds.foldl Q0h ((ds.foldl QM (QP ds,[])).1,[])).1).code.length sc) (y:=.map (some S)) (z:=.map (some P)) hR)
   have M9:=Hid.mk (M7.setFr (QbH (.slice sa (Q73 (ds.foldl Q0h ((ds.foldl QM (QP ds,[])).1,[])).1).code.length sc) (.map (some S)) (.map (some P))) (Q7V hR))
   clear VL M7 hR
   go_wp2
   refine bodyPost_ret (v:=.agg #[.slice sa (Q73 (ds.foldl Q0h ((ds.foldl QM (QP ds,[])).1,[])).1).code.length sc,.map (some S),.map (some P)]) (by simp [results,Tryz.results29,go_sem,t0,t1,t2]) rfl ?_
   obtain ⟨bs',h1,h2,h3⟩:=M9.out.codeIn HLEN.out
   exact ⟨_,S,P,bs',rfl,M9.out.own.kp,⟨h1,h2 _ (hb5 _ (hs4 _ HS.out)),Q8J _ (by simp),lp,h2 _ (hb5 _ hP),fun p hp=>(HPIN.out p hp).more fun x hx=>h2 _ (hb5 _ hx),HBARE.out,hlpn⟩,h3⟩
theorem QfL (T:TypeId) (x:Value) (w:World) (h:T=79):(binOp BinOp.neq 20 (.iface T x) .nilIface).run Tryz.prog w = .ok (.bool true) w:=by subst h;kernel_rfl
theorem Q7g (w:World):(binOp BinOp.neq 20 .nilIface .nilIface).run Tryz.prog w = .ok (.bool false) w:=by kernel_rfl
theorem Qh1 (p q:Addr) (w:World) :
  CallsD Tryz.prog 26 #[.pointer (some p),.pointer (some q)] .returning w fun e u' w'=>e = .returned (.tuple #[])∧u' = .returning∧w'=w:=by
 have hn:=Q7g
 refine callsD_of_wpS Tryz.func26 rfl fun c₀ cs hu=>?_
 apply wpS_seq
 apply wpS_region
 simp [wpOpsS,go_sem,recoverD,hu,Tryz.ntmps26,Exit.thenS]
 apply wpS_seq
 apply wpS_region
 simp [wpOpsS,go_sem,Exit.thenS,hn]
 refine wpS_cond (t:=false) (by simp [Act.eval,Array.replicate]) ?_
 simp only [Bool.false_eq_true,if_false]
 refine wpS_of_wp (wp_skip ?_)
 cases c₀
 simp_all [bodyPostS,results,Tryz.results26]
def Q1N (bs:List (Nat×Obj)) (B:Nat) (ds:List DefL):Prop:=∃ dsl ps v S P,(B,Obj.cells #[dsl,v,.map (some S),.map (some P)] 70)∈bs∧Q2Q bs dsl ds ps∧Q8M bs v S P ds
def QmB (w:World) (ds:List DefL) (e:Ending) (w':World):Prop:=∃ B bs,e = .returned (.tuple #[.pointer (some ⟨B,0,none⟩),.nilIface])∧Qb [] w w'∧Q1N bs B ds∧(∀ p∈bs,w'.heap[p.1]? = some p.2)∧w.heap.size≤B
theorem Q2Q.slice {bs:List (Nat×Obj)} {sl:Value} {ds:List DefL} {ps:List Nat} (h:Q2Q bs sl ds ps):∃ a b c,sl = .slice a b c:=by
 rcases h.row with ⟨e,_⟩ | ⟨g,cap,cur,e,_⟩<;>exact ⟨_,_,_,e⟩
theorem Q3I.slice {bs:List (Nat×Obj)} {v:Value} {c:List Qk} (h:Q3I bs v c):∃ a b d,v = .slice a b d:=by
 obtain ⟨cv,_,h2,_⟩:=h
 rcases h2 with ⟨e,_⟩ | ⟨g,cap,cur,e,_⟩<;>exact ⟨_,_,_,e⟩
def Q3O:Obj→Bool
 | .cells _ T _=>(T != 22) && (T != 24)
 | _=>true
theorem Q0D.good {bs bs':List (Nat×Obj)} (hb:∀ p∈bs,Q3O p.2=true→p∈bs') {e:TypeId} {v:Value} {n:Nat} {xs:List Value} (he:((e != 22) && (e != 24))=true) (h:Q0D bs e v n xs):Q0D bs' e v n xs:=by
 rcases h with h | ⟨g,cap,cur,h1,h2,h3,h4⟩
 ·exact Or.inl h
 ·exact Or.inr ⟨g,cap,cur,h1,h2,hb _ h3 he,h4⟩
theorem Q0w.good {bs bs':List (Nat×Obj)} (hb:∀ p∈bs,Q3O p.2=true→p∈bs') {b:Nat} {d:DefL} (hd:Q0w bs b d):Q0w bs' b d:=by
 have hc:∀ b m,Q63 bs b m→Q63 bs' b m:=fun b m hm=>hb _ hm rfl
 cases d with
 | const t a v=>exact hc _ _ hd
 | typedef d=>exact hb _ hd rfl
 | enum t a ms=>obtain ⟨sl,ps,h1,h2,h3,h4⟩:=hd;exact ⟨sl,ps,hb _ h1 rfl,h2,h3.good hb rfl,fun i h h'=>hc _ _ (h4 i h h')⟩
 | struct t a ms=>obtain ⟨sl,h1,h2⟩:=hd;exact ⟨sl,hb _ h1 rfl,h2.good hb rfl⟩
 | union t a sel arms=>obtain ⟨sl,cs,h1,h2,h3,h4⟩:=hd;exact ⟨sl,cs,hb _ h1 rfl,h2,h3.good hb rfl,fun i h h'=>(h4 i h h').good hb rfl⟩
 | prog t a vs num=>obtain ⟨sl,cs,h1,h2,h3,h4⟩:=hd;exact ⟨sl,cs,hb _ h1 rfl,h2,h3.good hb rfl,fun i h h'=>(h4 i h h').good hb rfl⟩
theorem Q2Q.good {bs bs':List (Nat×Obj)} (hb:∀ p∈bs,Q3O p.2=true→p∈bs') {sl:Value} {ds:List DefL} {ps:List Nat} (h:Q2Q bs sl ds ps):Q2Q bs' sl ds ps:=
 ⟨h.len,h.row.good hb rfl,fun i h1 h2=>(h.each i h1 h2).good hb⟩
theorem Q1g.good {bs bs':List (Nat×Obj)} (hb:∀ p∈bs,Q3O p.2=true→p∈bs') {cs:List Value} {n:NumL} (h:Q1g bs cs n):Q1g bs' cs n:=by
 obtain ⟨m,h1,h2,h3⟩:=h
 refine ⟨m,h1,?_,h3⟩
 cases hm:n.mem with
 | none=>rw [hm] at h2;exact h2
 | some l=>rw [hm] at h2;exact ⟨h2.1,h2.2.good hb rfl⟩
theorem Q2i.good {bs bs':List (Nat×Obj)} (hb:∀ p∈bs,Q3O p.2=true→p∈bs') {v:Value} {x:Qk} (h:Q2i bs v x):Q2i bs' v x:=by
 cases x with
 | num n=>obtain ⟨cs,h1,h2⟩:=h;exact ⟨cs,h1,h2.good hb⟩
 | choice n ws o=>
  obtain ⟨cs,m,ov,h1,h2,h3,h4⟩:=h
  refine ⟨cs,m,ov,h1,h2.good hb,hb _ h3 rfl,?_⟩
  cases o with
  | none=>exact h4
  | some q=>obtain ⟨b,h5,h6⟩:=h4;exact ⟨b,h5,hb _ h6 rfl⟩
 | _=>exact h
theorem Q3I.good {bs bs':List (Nat×Obj)} (hb:∀ p∈bs,Q3O p.2=true→p∈bs') {v:Value} {c:List Qk} (h:Q3I bs v c):Q3I bs' v c:=by
 obtain ⟨cv,h1,h2,h3,h4⟩:=h
 refine ⟨cv,h1,?_,fun p hp=>(h3 p hp).good hb,h4⟩
 rcases h2 with h2 | ⟨g,cap,cur,e1,e2,e3,e4⟩
 ·exact Or.inl h2
 ·exact Or.inr ⟨g,cap,cur,e1,e2,hb _ e3 rfl,e4⟩
theorem Q5B.good {bs bs':List (Nat×Obj)} (hb:∀ p∈bs,Q3O p.2=true→p∈bs') {q:PrgB} (h:Q5B bs q):Q5B bs' q:=⟨hb _ h.1 rfl,fun p hp=>hb _ (h.2 p hp) rfl⟩
theorem Q8M.good {bs bs':List (Nat×Obj)} (hb:∀ p∈bs,Q3O p.2=true→p∈bs') {v:Value} {S P:Nat} {ds:List DefL} (h:Q8M bs v S P ds):Q8M bs' v S P ds:=by
 obtain ⟨lp,h1,h2,h3,h4⟩:=h.progs
 exact ⟨h.code.good hb,hb _ h.types rfl,h.nd,lp,hb _ h1 rfl,fun p hp=>(h2 p hp).good hb,h3,h4⟩
theorem QmC {text:ByteArray} {ds:List DefL} (ht:Q1V text = .ok ds) (hpg:∀ d∈ds,Q4B d) {w:World} (hg:Gl w):Calls Tryz.prog 11 #[.string text] w (QmB w ds):=by
 have hmf:∀ (fn:Fn) (first cap:Array Value) (w:World),(Instr.makeFunc fn first cap).run Tryz.prog w = .ok (.func fn first cap) w:=fun _ _ _ _=>rfl
 have hb0:Below w.heap.size w ((w.alloc (.cells #[.pointer none] 22)).alloc (.cells #[.nilIface] 24)):=((Below.refl _ _).alloc (Nat.le_refl _) _).alloc (by simp) _
 have VT:=Hid.mk (QjR text (hg.below hb0))
 have HTX:=Hid.mk ht
 have o2:((w.alloc (.cells #[.pointer none] 22)).alloc (.cells #[.nilIface] 24)).heap[w.heap.size]? = some (.cells #[.pointer none] 22):=(Below.heap_alloc _ _ _ (by simp)).trans (Qg rfl)
 have o3:((w.alloc (.cells #[.pointer none] 22)).alloc (.cells #[.nilIface] 24)).heap[w.heap.size + 1]? = some (.cells #[.nilIface] 24):=Qg (by simp)
 clear hg
 go_enter_defers Tryz.func11,Tryz.ntmps11
 go_wp2_with fail
 refine VT.out.mono ?_
 rintro e w1 (⟨ds1,sl1,ps1,bs1,hx,rfl,hk1,hdi,hh1⟩ | ⟨f,hx,_⟩)
 rotate_left
 ·exact absurd (HTX.out.symm.trans hx) (by simp)
 obtain rfl:ds=ds1:=by have:=HTX.out.symm.trans hx;injection this
 obtain ⟨sa,sb,sc,rfl⟩:=hdi.slice
 have VC:=Hid.mk (Qng hdi hh1 (Q9r HTX.out) hpg (by have:=QiH HTX.out;omega))
 have K1:=Hid.mk hk1
 have HDI:=Hid.mk hdi
 have HH1:=Hid.mk hh1
 clear VT hx hdi hh1 hk1
 go_wp2_with fail
 refine VC.out.mono ?_
 rintro e w2 ⟨v,S,P,bs2,rfl,hk2,hci,hh2⟩
 obtain ⟨va,vb,vc,rfl⟩:=hci.code.slice
 have K2:=Hid.mk (K1.out.trans hk2)
 have HC:=Hid.mk hci
 have HH2:=Hid.mk hh2
 have KK2:=Hid.mk hk2
 have p2:=(K2.out.block _ (Qc o2) (by simp)).trans o2
 have p3:=(K2.out.block _ (Qc o3) (by simp)).trans o3
 have c2:=Qq p2
 have c3:=Qq p3
 have f2:∀ i,w2.frozen? ⟨w.heap.size,i,none⟩=false:=by intro i;simp [World.frozen?,p2]
 have f3:∀ i,w2.frozen? ⟨w.heap.size + 1,i,none⟩=false:=by intro i;simp [World.frozen?,p3]
 have l3:=Qc p3
 clear hk2 hci hh2 VC
 have hbf:Hid (∀ x y,Qb [] w (((w2.alloc (.cells #[.slice sa sb sc,.slice va vb vc,.map (some S),.map (some P)] 70)).setCell ⟨w.heap.size,0,none⟩ x).setCell ⟨w.heap.size + 1,0,none⟩ y)):=fun x y=>(((Qb.of_below [] hb0).trans K2.out |>.alloc _).setNew (p:=⟨w.heap.size,0,none⟩) (Nat.le_refl _) x).setNew (p:=⟨w.heap.size + 1,0,none⟩) (by simp) y
 clear hb0
 have o2':(w2.alloc (.cells #[.slice sa sb sc,.slice va vb vc,.map (some S),.map (some P)] 70)).heap[w.heap.size]? = some (.cells #[.pointer none] 22):=(Below.heap_alloc _ _ _ (by omega)).trans p2
 have c2':(w2.alloc (.cells #[.slice sa sb sc,.slice va vb vc,.map (some S),.map (some P)] 70)).cell? ⟨w.heap.size,0,none⟩=some (.pointer none):=Qq o2'
 have f2':∀ i,(w2.alloc (.cells #[.slice sa sb sc,.slice va vb vc,.map (some S),.map (some P)] 70)).frozen? ⟨w.heap.size,i,none⟩=false:=by intro i;simp [World.frozen?,o2']
 have o3':∀ x,((w2.alloc (.cells #[.slice sa sb sc,.slice va vb vc,.map (some S),.map (some P)] 70)).setCell ⟨w.heap.size,0,none⟩ x).heap[w.heap.size + 1]? = some (.cells #[.nilIface] 24):=fun x=>(Below.heap_setCell _ _ _ _ (by simp)).trans ((Below.heap_alloc _ _ _ l3).trans p3)
 have c3':∀ x,((w2.alloc (.cells #[.slice sa sb sc,.slice va vb vc,.map (some S),.map (some P)] 70)).setCell ⟨w.heap.size,0,none⟩ x).cell? ⟨w.heap.size + 1,0,none⟩=some .nilIface:=fun x=>Qq (o3' x)
 have f3':∀ x i,((w2.alloc (.cells #[.slice sa sb sc,.slice va vb vc,.map (some S),.map (some P)] 70)).setCell ⟨w.heap.size,0,none⟩ x).frozen? ⟨w.heap.size + 1,i,none⟩=false:=by intro x i;simp [World.frozen?,o3' x]
 have HF:Hid (Q1N ((w2.heap.size,.cells #[.slice sa sb sc,.slice va vb vc,.map (some S),.map (some P)] 70) :: ((bs1++bs2).filter fun p=>Q3O p.2)) w2.heap.size ds∧∀ x y,∀ p∈((w2.heap.size,.cells #[.slice sa sb sc,.slice va vb vc,.map (some S),.map (some P)] 70) :: ((bs1++bs2).filter fun p=>Q3O p.2):List (Nat×Obj)),(((w2.alloc (.cells #[.slice sa sb sc,.slice va vb vc,.map (some S),.map (some P)] 70)).setCell ⟨w.heap.size,0,none⟩ x).setCell ⟨w.heap.size + 1,0,none⟩ y).heap[p.1]? = some p.2):=by
  have g1:∀ p∈bs1,Q3O p.2=true→p∈((w2.heap.size,.cells #[.slice sa sb sc,.slice va vb vc,.map (some S),.map (some P)] 70) :: ((bs1++bs2).filter fun p=>Q3O p.2):List (Nat×Obj)):=fun p hp hg=>List.mem_cons_of_mem _ (List.mem_filter.2 ⟨List.mem_append_left _ hp,hg⟩)
  have g2:∀ p∈bs2,Q3O p.2=true→p∈((w2.heap.size,.cells #[.slice sa sb sc,.slice va vb vc,.map (some S),.map (some P)] 70) :: ((bs1++bs2).filter fun p=>Q3O p.2):List (Nat×Obj)):=fun p hp hg=>List.mem_cons_of_mem _ (List.mem_filter.2 ⟨List.mem_append_right _ hp,hg⟩)
  refine ⟨⟨_,ps1,_,S,P,List.mem_cons_self,HDI.out.good g1,HC.out.good g2⟩,?_⟩
  intro x y p hp
  rcases List.mem_cons.1 hp with rfl | hp
  ·exact (Below.heap_setCell _ _ _ _ (by simp only;omega)).trans ((Below.heap_setCell _ _ _ _ (by simp only;omega)).trans (Qg rfl))
  ·obtain ⟨hm,hgd⟩:=List.mem_filter.1 hp
   have hw2:w2.heap[p.1]? = some p.2:=by
    rcases List.mem_append.1 hm with hm | hm
    ·exact (KK2.out.block _ (Qc (HH1.out p hm)) (by simp)).trans (HH1.out p hm)
    ·exact HH2.out p hm
   have n2:p.1≠w.heap.size:=by
    intro e
    rw [e,p2] at hw2
    injection hw2 with hw2
    rw [← hw2] at hgd
    exact absurd hgd (by decide)
   have n3:p.1≠w.heap.size + 1:=by
    intro e
    rw [e,p3] at hw2
    injection hw2 with hw2
    rw [← hw2] at hgd
    exact absurd hgd (by decide)
   exact (Below.heap_setCell _ _ _ _ n3).trans ((Below.heap_setCell _ _ _ _ n2).trans ((Below.heap_alloc _ _ _ (Qc hw2)).trans hw2))
 have z2:(((w2.alloc (.cells #[.slice sa sb sc,.slice va vb vc,.map (some S),.map (some P)] 70)).setCell ⟨w.heap.size,0,none⟩ (.pointer (some ⟨w2.heap.size,0,none⟩))).setCell ⟨w.heap.size + 1,0,none⟩ .nilIface).cell? ⟨w.heap.size,0,none⟩=some (.pointer (some ⟨w2.heap.size,0,none⟩)):=
  Qq ((Below.heap_setCell _ _ _ _ (by simp)).trans (Qo (i:=0) o2' _))
 have z3:(((w2.alloc (.cells #[.slice sa sb sc,.slice va vb vc,.map (some S),.map (some P)] 70)).setCell ⟨w.heap.size,0,none⟩ (.pointer (some ⟨w2.heap.size,0,none⟩))).setCell ⟨w.heap.size + 1,0,none⟩ .nilIface).cell? ⟨w.heap.size + 1,0,none⟩=some .nilIface:=Qq (Qo (i:=0) (o3' _) _)
 have hle:w.heap.size≤w2.heap.size:=by omega
 go_wp2
 refine leaves_cons (f:=26) (args:=#[.pointer (some ⟨w.heap.size,0,none⟩),.pointer (some ⟨w.heap.size + 1,0,none⟩)]) (by simp) (by simp [go_sem]) ?_
 refine (Qh1 _ _ _).mono ?_
 rintro e u' w'' ⟨rfl,rfl,rfl⟩
 simp only [Leaves,settle]
 refine ⟨.tuple #[.pointer (some ⟨w2.heap.size,0,none⟩),.nilIface],by simp [results,Tryz.results11,go_sem,z2,z3],?_⟩
 exact ⟨w2.heap.size,_,rfl,hbf.out _ _,HF.out.1,HF.out.2 _ _,hle⟩
abbrev Q1Y (x:Q0j):List Value:=[.int .i64 x.kind,.int .i64 x.n,.string ⟨x.s.toArray⟩,.int .i64 x.at',.int .i64 x.len]
structure Q0g (w:World) (D:Nat) (Fr bs:List (Nat×Obj)) (b:List UInt8) (dep fuel size:Nat) (d:DSt) (nsl:Value) (u:World):Prop where
 own:Own w ([D]++(nsl.ownBlock.toList++[])) Fr bs u
 box:u.heap[D]? = some (.cells #[.string ⟨b.toArray⟩,.int .i64 d.pos,.int .i64 dep,.int .i64 fuel,.int .i64 size,nsl] 142)
 row:u.ownsRow w.heap.size 48 5 nsl d.nodes.length (d.nodes.flatMap Q1Y)
 pos:d.pos≤b.length
 len:b.length≤100000
 few:d.nodes.length≤10000
theorem QiM (b:List UInt8) (p k:Nat):(⟨b.toArray⟩:ByteArray).extract p (p + k)=⟨((b.drop p).take k).toArray⟩:=by
 apply ByteArray.ext
 simp only [ByteArray.data_extract]
 apply Array.ext'
 simp [Array.toList_extract,List.extract]
def Q0V {α:Type} (w:World) (D:Nat) (Fr bs:List (Nat×Obj)) (b:List UInt8) (dep fuel size:Nat) (r:Except Mar.Fault (α×DSt)) (V:α→Value) (e:Ending) (u':World):Prop:=
 (∃ a d' nsl',r = .ok (a,d')∧e = .returned (V a)∧Q0g w D Fr bs b dep fuel size d' nsl' u')∨(∃ f,r = .error f∧Qb [] w u'∧Q0l w f.no f.at' e u')
section
variable {w u u' : World} {D : Nat} {Fr bs : List (Nat × Obj)} {b : List UInt8} {dep fuel size : Nat} {d : DSt} {nsl : Value}
theorem Q0g.cells (h:Q0g w D Fr bs b dep fuel size d nsl u):u.cell? ⟨D,0,none⟩=some (.string ⟨b.toArray⟩)∧u.cell? ⟨D,1,none⟩=some (.int .i64 d.pos)∧u.cell? ⟨D,2,none⟩=some (.int .i64 dep)∧u.cell? ⟨D,3,none⟩=some (.int .i64 fuel)∧u.cell? ⟨D,4,none⟩=some (.int .i64 size)∧u.cell? ⟨D,5,none⟩=some nsl∧(∀ i,u.frozen? ⟨D,i,none⟩=false)∧D < u.heap.size:=by
 obtain ⟨h0,h1,h2,h3,h4,h5,h6,h7⟩:=Q10 h.box
 exact ⟨h0,h1,h2,h3,h4,h5,h6,h7⟩
theorem Q0g.slice (h:Q0g w D Fr bs b dep fuel size d nsl u):∃ ad cap,nsl = .slice ad d.nodes.length cap:=by
 rcases h.row.2 with ⟨rfl,h0⟩ | ⟨g,cap,cur,rfl,_⟩
 ·exact ⟨none,0,by rw [h0]⟩
 ·exact ⟨_,_,rfl⟩
theorem Q0g.beside {M:List Nat} {Fr' bs':List (Nat×Obj)} (h:Q0g w D Fr bs b dep fuel size d nsl u) (hk:Qb M u u') (hM:∀ m∈M,m ∉ [D]++(nsl.ownBlock.toList++[])) (ho:Own w ([D]++(nsl.ownBlock.toList++[])) Fr' bs' u'):Q0g w D Fr' bs' b dep fuel size d nsl u':=by
 refine ⟨ho,(hk.block _ (Qc h.box) (fun hm=>hM _ hm (by simp))).trans h.box,Qt h.row hk (fun g hg hm=>hM _ hm (by simp [hg])),h.pos,h.len,h.few⟩
theorem Q0g.below (h:Q0g w D Fr bs b dep fuel size d nsl u) (hb:Below u.heap.size u u'):Q0g w D Fr bs b dep fuel size d nsl u':=h.beside (Qb.of_below [] hb) (by simp) (h.own.below hb)
theorem Q0g.move (h:Q0g w D Fr bs b dep fuel size d nsl u) {p:Nat} (hp:p≤b.length):Q0g w D Fr bs b dep fuel size { d with pos:=p } nsl (u.setCell ⟨D,1,none⟩ (.int .i64 p)):=by
 have hk:Qb [D] u (u.setCell ⟨D,1,none⟩ (.int .i64 p)):=(Qb.refl [D] u).setIn (by simp) _
 have hn:=h.own.nd
 simp at hn
 refine ⟨h.own.turn hk (by simp),Qo (i:=1) h.box _,Qt h.row hk (fun g hg hm=>?_),hp,h.len,h.few⟩
 simp at hm
 subst hm
 exact hn.1 hg
end
theorem Q6E {w u:World} {D:Nat} {Fr bs:List (Nat×Obj)} {b:List UInt8} {dep fuel size:Nat} {d:DSt} {nsl:Value} (h:Q0g w D Fr bs b dep fuel size d nsl u) :
  Calls Tryz.prog 64 #[.pointer (some ⟨D,0,none⟩)] u fun e u'=>e = .returned (.int .i64 d.pos)∧u'=u:=by
 obtain ⟨c0,c1,c2,c3,c4,c5,hfz,hlt⟩:=h.cells
 clear h
 go_enter Tryz.func64,Tryz.ntmps64
 go_wp2
 go_ret
 exact ⟨rfl,rfl⟩
theorem QdT {w u:World} {D:Nat} {Fr bs:List (Nat×Obj)} {b:List UInt8} {dep fuel size:Nat} {d:DSt} {nsl:Value} (h:Q0g w D Fr bs b dep fuel size d nsl u) :
  Calls Tryz.prog 63 #[.pointer (some ⟨D,0,none⟩)] u fun e u'=>e = .returned (.int .i64 ((b.length:Int) - d.pos))∧u'=u.drew:=by
 obtain ⟨c0,c1,c2,c3,c4,c5,hfz,hlt⟩:=h.cells
 have hp:=h.pos
 have hl:=h.len
 clear h
 go_enter Tryz.func63,Tryz.ntmps63
 go_wp2
 go_region
 go_wp2
 go_ret
 exact ⟨rfl,rfl⟩
theorem Q0V.throws {α:Type} {w u u':World} {D:Nat} {Fr bs:List (Nat×Obj)} {b:List UInt8} {dep fuel size:Nat} {r:Except Mar.Fault (α×DSt)} {V:α→Value} {f:Mar.Fault} {g:Nat} (hr:r = .error f) (hk:Qb [] w u) (hb:Qb [] u u') (hg:u.heap.size≤g) (hc:u'.heap[g]? = some (.cells #[.int .i64 f.no,.int .i64 f.at'] 83)) :
  Q0V w D Fr bs b dep fuel size r V (.panicked [{ v:=.iface 79 (.pointer (some ⟨g,0,none⟩)),recovered:=false }]) u':=
 Or.inr ⟨f,hr,hk.trans hb,g,Nat.le_trans hk.size hg,rfl,hc⟩
theorem Qa1 {w u:World} {D:Nat} {Fr bs:List (Nat×Obj)} {b:List UInt8} {dep fuel size:Nat} {d:DSt} {nsl:Value} (k:Nat) (hk:k≤8589934592) (h:Q0g w D Fr bs b dep fuel size d nsl u) :
  Calls Tryz.prog 108 #[.pointer (some ⟨D,0,none⟩),.int .i64 k] u (Q0V w D Fr bs b dep fuel size (Q27 b k d) fun l=>.string ⟨l.toArray⟩):=by
 obtain ⟨c0,c1,c2,c3,c4,c5,hfz,hlt⟩:=h.cells
 have hp:=h.pos
 have hl:=h.len
 have VL:=Hid.mk (QdT h)
 have H:=Hid.mk h
 clear h
 by_cases hs:b.length < d.pos + k
 ·have E:Hid (Q27 b k d = .error ⟨16,d.pos⟩):=by show _=_;unfold Q27;rw [if_pos hs]
  have hc:(b.length:Int) - d.pos < (k:Int):=by omega
  go_enter Tryz.func108,Tryz.ntmps108
  go_wp2_with fail
  refine VL.out.mono ?_
  rintro e w1 ⟨rfl,rfl⟩
  go_wp2_with (go_at_call 47;refine (Q09 _ _ _).mono ?_;rintro e w' ⟨rfl,rfl⟩)
  exact Qa (Q0V.throws (u:=u) (f:=⟨16,d.pos⟩) E.out H.out.own.kp (((Qb.refl [] u).drew).alloc _) (Nat.le_refl _) (Qg rfl))
 ·have E:Hid (Q27 b k d = .ok ((b.drop d.pos).take k,{ d with pos:=d.pos + k })):=by show _=_;unfold Q27;rw [if_neg hs]
  have hc:(k:Int)≤(b.length:Int) - d.pos:=by omega
  have h1:(0:Int)≤d.pos:=by omega
  have h2:(d.pos:Int)≤(d.pos:Int) + k:=by omega
  have h3:(d.pos:Int) + k≤b.length:=by omega
  go_enter Tryz.func108,Tryz.ntmps108
  go_wp2_with fail
  refine VL.out.mono ?_
  rintro e w1 ⟨rfl,rfl⟩
  go_wp2
  go_region
  go_wp2
  go_ret
  refine Or.inl ⟨_,_,nsl,E.out,?_,?_⟩
  ·show Ending.returned (.string ((⟨b.toArray⟩:ByteArray).extract d.pos (d.pos + k)))=_
   rw [QiM]
  ·have:=(H.out.below (Below.refl _ _).drew).below (Below.refl _ _).drew
   have e1:((d.pos:Int) + k)=((d.pos + k:Nat):Int):=by omega
   rw [e1]
   exact this.move (by omega)
theorem QdU (l:List UInt8) (c:UInt8):bigL (l++[c])=bigL l * 256 + c.toNat:=by simp [bigL]
theorem Qnh:∀ (k:Nat) (l:List UInt8),l.length=k→bigL l < 256 ^ k:=by
 intro k
 induction k with
 | zero=>
  intro l hl
  have:l=[]:=List.length_eq_zero_iff.1 hl
  subst this
  simp [bigL]
 | succ k ih=>
  intro l hl
  have hne:l≠[]:=by intro e;subst e;simp at hl
  obtain ⟨l',c,rfl⟩:∃ l' c,l=l'++[c]:=⟨l.dropLast,l.getLast hne,(List.dropLast_concat_getLast hne).symm⟩
  have h1:=ih l' (by simpa using hl)
  have h2:=c.toNat_lt
  rw [QdU,Nat.pow_succ]
  omega
theorem QmD (n:Nat) (c:Nat) (hc:c < 256):(n * 256) ||| c=n * 256 + c:=by
 have:=Nat.shiftLeft_add_eq_or_of_lt (i:=8) (b:=c) (by omega) n
 rw [Nat.shiftLeft_eq] at this
 exact this.symm
theorem QfM (l:List UInt8) (hl:l.length≤8) (w:World):Calls Tryz.prog 107 #[.string ⟨l.toArray⟩] w fun e w'=>e = .returned (.int .u64 (bigL l))∧w'=w:=by
 go_enter Tryz.func107,Tryz.ntmps107
 go_wp2
 go_loopw [7,3] (fun i n ur=>∃ k:Nat,i = .int .i64 k∧k≤l.length∧n = .int .u64 (bigL (l.take k))∧ur=w) (fun i _ _=>l.length - (intOf i).toNat)
 case atStart=>exact ⟨0,rfl,by omega,by simp [bigL],rfl⟩
 case round=>
  obtain ⟨k,rfl,hk,rfl,rfl⟩:=hrel
  rcases Nat.lt_or_ge k l.length with hlt | hge
  ·have hk0:(0:Int)≤↑k:=by omega
   have hk1:(↑k:Int) < ↑l.length:=by omega
   have hb:bigL (l.take k) < 256 ^ 7:=by
    have h1:=Qnh (l.take k).length (l.take k) rfl
    have h2:(l.take k).length≤7:=by simp;omega
    exact Nat.lt_of_lt_of_le h1 (Nat.pow_le_pow_right (by omega) h2)
   have hbits:∀ c:UInt8,bits BinOp.or IntKind.u64 ((bigL (l.take k):Int) * 256) (IntKind.u64.wrap c.toNat)=((bigL (l.take k) * 256 + c.toNat:Nat):Int):=by
    intro c
    have hc:=c.toNat_lt
    have hp:(256:Nat) ^ 7=72057594037927936:=by decide
    rw [hp] at hb
    have e1:IntKind.u64.wrap (c.toNat:Int)=(c.toNat:Int):=by simp [IntKind.wrap_u64];omega
    rw [e1,show ((bigL (l.take k):Int) * 256)=((bigL (l.take k) * 256:Nat):Int) by omega,bits_or_u64_nat _ _ (by omega) (by omega),QmD _ _ hc]
   have hnext:bigL (l.take (k + 1))=bigL (l.take k) * 256 + (l[k]).toNat:=by rw [List.take_succ_eq_append_getElem hlt,QdU]
   go_wp2
   refine ⟨⟨k + 1,by go_num,hlt,?_,trivial⟩,by simp [intOf];omega⟩
   rw [hnext]
   have e2:(⟨l.toArray⟩:ByteArray)[k]=l[k]:=rfl
   rw [e2]
   simp
  ·have hkk:k=l.length:=by omega
   subst hkk
   go_wp2
   go_ret
   refine ⟨?_,rfl⟩
   simp
theorem Qa2 {w u:World} {D:Nat} {Fr bs:List (Nat×Obj)} {b:List UInt8} {dep fuel size:Nat} {d:DSt} {nsl:Value} (h:Q0g w D Fr bs b dep fuel size d nsl u) :
  Calls Tryz.prog 76 #[.pointer (some ⟨D,0,none⟩)] u (Q0V w D Fr bs b dep fuel size (Q2F b d) fun v=>.int .u32 v):=by
 have VT:=Hid.mk (Qa1 4 (by omega) h)
 go_enter Tryz.func76,Tryz.ntmps76
 go_wp2_with fail
 refine VT.out.mono ?_
 rintro e w1 (⟨l,d1,nsl1,hx,rfl,M1⟩ | ⟨f,hx,hk,g,hg,rfl,hc⟩)
 rotate_left
 ·exact Qa (Or.inr ⟨f,by unfold Q2F;rw [hx];rfl,hk,g,hg,rfl,hc⟩)
 have hl:=(Q5o hx).2.2.2.2
 have hlt:=Q28 hl
 have E:Hid (Q2F b d = .ok (bigL l,d1)):=by show _=_;unfold Q2F;rw [hx];rfl
 have M1:=Hid.mk M1
 clear hx VT
 go_wp2_with fail
 refine (QfM l (by omega) w1).mono ?_
 rintro e w2 ⟨rfl,rfl⟩
 go_wp2
 go_ret
 exact Or.inl ⟨bigL l,d1,nsl1,E.out,by simp [IntKind.wrap_u32],M1.out⟩
theorem Qkh {w u:World} {D:Nat} {Fr bs:List (Nat×Obj)} {b:List UInt8} {dep fuel size:Nat} {d:DSt} {nsl:Value} (h:Q0g w D Fr bs b dep fuel size d nsl u) :
  Calls Tryz.prog 332 #[.pointer (some ⟨D,0,none⟩)] u (Q0V w D Fr bs b dep fuel size (thenE (Q27 b 8 d) fun p=>.ok (bigL p.1,p.2)) fun v=>.int .u64 v):=by
 have VT:=Hid.mk (Qa1 8 (by omega) h)
 go_enter Tryz.func332,Tryz.ntmps332
 go_wp2_with fail
 refine VT.out.mono ?_
 rintro e w1 (⟨l,d1,nsl1,hx,rfl,M1⟩ | ⟨f,hx,hk,g,hg,rfl,hc⟩)
 rotate_left
 ·exact Qa (Or.inr ⟨f,by rw [hx];rfl,hk,g,hg,rfl,hc⟩)
 have hl:=(Q5o hx).2.2.2.2
 have E:Hid ((thenE (Q27 b 8 d) fun p=>.ok (bigL p.1,p.2)) = .ok (bigL l,d1)):=by show _=_;rw [hx];rfl
 have M1:=Hid.mk M1
 clear hx VT
 go_wp2_with fail
 refine (QfM l (by omega) w1).mono ?_
 rintro e w2 ⟨rfl,rfl⟩
 go_wp2
 go_ret
 exact Or.inl ⟨bigL l,d1,nsl1,E.out,rfl,M1.out⟩
theorem QiN (n:NumL) (x:Option Addr) (y z:Nat) (v:Nat) (hv:v < 4294967296) (w:World) :
  Calls Tryz.prog 328 #[.agg (numA n.low n.high x y z n.wide).toArray,.int .u32 v] w fun e w'=>e = .returned (.int .i64 (Q0A n v))∧Below w.heap.size w w':=by
 have hb:∀ o,Below w.heap.size w (w.alloc o):=fun o=>(Below.refl _ _).alloc (Nat.le_refl _) _
 by_cases hl:n.low < 0
 ·go_enter Tryz.func328,Tryz.ntmps328
  go_wp2
  go_ret
  refine ⟨?_,hb _⟩
  show Ending.returned (Value.int .i64 (wrap64 (wrap32 (v:Int))))=_
  congr 2
  unfold Q0A wrap32 wrap64
  rw [if_pos hl]
  split<;>omega
 ·go_enter Tryz.func328,Tryz.ntmps328
  go_wp2
  go_ret
  refine ⟨?_,hb _⟩
  show Ending.returned (Value.int .i64 (v:Int))=_
  unfold Q0A
  rw [if_neg (by omega)]
theorem Qh2 (n:Int) (f:Bool) (k:Nat) (w:World) :
  Calls Tryz.prog 288 #[.agg #[.int .i64 n,.bool f],.int .i64 k] w fun e w'=>e = .returned (.bool (if f then decide ((k:Int)=n) else decide ((k:Int)≤n)))∧Below w.heap.size w w':=by
 have hb:∀ o,Below w.heap.size w (w.alloc o):=fun o=>(Below.refl _ _).alloc (Nat.le_refl _) _
 have h0:(0:Int)≤k:=by omega
 cases f with
 | true=>
  go_enter Tryz.func288,Tryz.ntmps288
  go_wp2
  go_ret
  refine ⟨?_,hb _⟩
  show Ending.returned (Value.bool ((k:Int) == n))=_
  congr 2
 | false=>
  go_enter Tryz.func288,Tryz.ntmps288
  go_wp2
  go_ret
  refine ⟨?_,hb _⟩
  rfl
theorem QiO {g cap:Nat} {l:List Int} (hn:l.length≤1000) (hc:l.length≤cap) (k:Int) (w:World) (hr:∀ i (h:i < l.length),w.cell? ⟨g,i,none⟩=some (.int .i64 l[i])) :
  Calls Tryz.prog 322 #[.slice (some ⟨g,0,none⟩) l.length cap,.int .i64 k] w fun e w'=>(∃ i:Int,e = .returned (.int .i64 i)∧decide (0≤i)=l.contains k)∧w'=w:=by
 have HR:=Hid.mk hr
 clear hr
 go_enter Tryz.func322,Tryz.ntmps322
 go_wp2
 go_loopw [8] (fun i ur=>∃ j:Nat,i = .int .i64 j∧j≤l.length∧Hid (∀ x∈l.take j,x≠k)∧ur=w) (fun i _=>l.length - (intOf i).toNat)
 case atStart=>exact ⟨0,rfl,by omega,(by intro x hx;simp at hx),rfl⟩
 case round=>
  obtain ⟨j,rfl,hj,HN,rfl⟩:=hrel
  rcases Nat.lt_or_ge j l.length with hlt | hge
  ·have q:=HR.out j hlt
   have hj0:(0:Int)≤↑j:=by omega
   have hj1:(↑j:Int) < ↑l.length:=by omega
   by_cases he:k=l[j]
   ·have hb:(k == l[j])=true:=by simp [he]
    have hin:Hid (l.contains k=true):=by show _=_;simp;rw [he];exact List.getElem_mem hlt
    clear he
    go_wp2
    go_ret
    exact ⟨⟨j,rfl,by rw [hin.out];simp⟩,rfl⟩
   ·have hb:(k == l[j])=false:=by simp [he]
    have HN2:Hid (∀ x∈l.take (j + 1),x≠k):=by
     intro x hx
     rw [List.take_succ_eq_append_getElem hlt] at hx
     rcases List.mem_append.1 hx with hx | hx
     ·exact HN.out x hx
     ·simp only [List.mem_singleton] at hx
      rw [hx]
      exact fun e=>he e.symm
    clear he
    go_wp2
    exact ⟨⟨j + 1,by go_num,by omega,HN2,trivial⟩,by simp [intOf];omega⟩
  ·have hjj:j=l.length:=by omega
   subst hjj
   have hno:Hid (l.contains k=false):=by
    show _=_
    have h1:=HN.out
    rw [List.take_length] at h1
    simp
    exact fun hk=>h1 k hk rfl
   clear HN
   go_wp2
   go_ret
   exact ⟨⟨-1,rfl,by rw [hno.out];simp⟩,rfl⟩
theorem QdV {g cap:Nat} {l:List Int} (hn:l.length≤1000) (hc:l.length≤cap) (k:Int) (w:World) (hr:∀ i (h:i < l.length),w.cell? ⟨g,i,none⟩=some (.int .i64 l[i])) :
  Calls Tryz.prog 318 #[.slice (some ⟨g,0,none⟩) l.length cap,.int .i64 k] w fun e w'=>e = .returned (.bool (l.contains k))∧w'=w:=by
 have V:=Hid.mk (QiO hn hc k w hr)
 go_enter Tryz.func318,Tryz.ntmps318
 go_wp2_with fail
 refine V.out.mono ?_
 rintro e w1 ⟨⟨i,rfl,hi⟩,rfl⟩
 have HI:=Hid.mk hi
 clear hi
 go_wp2
 go_ret
 refine ⟨?_,rfl⟩
 rw [← HI.out]
 rfl
theorem QiP {bs:List (Nat×Obj)} {v:Value} {l:List Int} {w:World} (h:Qcw bs v (some l)) (hw:∀ p∈bs,w.heap[p.1]? = some p.2):∃ g cap,v = .slice (some ⟨g,0,none⟩) l.length cap∧l.length≤1000∧l.length≤cap∧∀ (w':World),Qb [] w w'→∀ i (hi:i < l.length),w'.cell? ⟨g,i,none⟩=some (.int .i64 l[i]):=by
 obtain ⟨hne,hs⟩:=h
 rcases hs with ⟨_,h0,_⟩ | ⟨g,cap,cur,e,⟨h1,h2⟩,h3,h4⟩
 ·exact absurd (List.length_eq_zero_iff.1 h0) hne
 ·exact ⟨g,cap,e,h2,h1,fun w' hk i hi=>Qx ((hk.block _ (Qc (hw _ h3)) (by simp)).trans (hw _ h3)) h4 (by simp [hi])⟩
theorem Q7W {bs:List (Nat×Obj)} {cs:List Value} {n:NumL} (hN:Q1g bs cs n) (k:Int) {w:World} (hw:∀ p∈bs,w.heap[p.1]? = some p.2) :
  Calls Tryz.prog 268 #[.agg cs.toArray,.int .i64 k] w fun e w'=>e = .returned (.bool (n.has k))∧Below w.heap.size w w':=by
 have hb:∀ o,Below w.heap.size w (w.alloc o):=fun o=>(Below.refl _ _).alloc (Nat.le_refl _) _
 have hs1:∀ W,(binOp BinOp.eql 198 (.slice none 0 0) (.slice none 0 0)).run Tryz.prog W = .ok (.bool true) W:=fun W=>by kernel_rfl
 have hs2:∀ (q:Addr) (i j:Nat) (W:World),(binOp BinOp.eql 198 (.slice (some q) i j) (.slice none 0 0)).run Tryz.prog W = .ok (.bool false) W:=fun q i j W=>by kernel_rfl
 obtain ⟨m,rfl,hm,x,y,z,rfl⟩:=hN
 by_cases h1:n.low≤k
 ·by_cases h2:k≤n.high
  ·cases hmem:n.mem with
   | none=>
    rw [hmem] at hm
    have hm':Value.slice x y z = .slice none 0 0:=hm
    cases hm'
    have E:Hid (n.has k=true):=by show _=_;simp [NumL.has,h1,h2,hmem]
    go_enter Tryz.func268,Tryz.ntmps268
    go_wp2
    go_ret
    refine ⟨?_,hb _⟩
    rw [E.out]
    rfl
   | some l=>
    rw [hmem] at hm
    obtain ⟨g,cap,he,hl1,hl2,hcl⟩:=QiP hm hw
    cases he
    have E:Hid (n.has k=l.contains k):=by show _=_;simp [NumL.has,h1,h2,hmem]
    have V:=fun o=>QdV hl1 hl2 k (w.alloc o) (hcl _ ((Qb.refl [] w).alloc o))
    have V:=Hid.mk V
    clear hm hcl
    go_enter Tryz.func268,Tryz.ntmps268
    go_wp2_with (go_at_call 318;refine (V.out _).mono ?_;rintro e w1 ⟨rfl,rfl⟩)
    go_ret
    refine ⟨?_,hb _⟩
    rw [E.out]
    show Ending.returned (Value.bool (decide (k∈l)))=_
    simp
  ·have E:Hid (n.has k=false):=by show _=_;simp [NumL.has,h2]
   go_enter Tryz.func268,Tryz.ntmps268
   go_wp2
   go_ret
   refine ⟨?_,hb _⟩
   rw [E.out]
   rfl
 ·have E:Hid (n.has k=false):=by show _=_;simp [NumL.has,h1]
  go_enter Tryz.func268,Tryz.ntmps268
  go_wp2
  go_ret
  refine ⟨?_,hb _⟩
  rw [E.out]
  rfl
theorem QiQ {w u:World} {D:Nat} {Fr bs:List (Nat×Obj)} {b:List UInt8} {dep fuel size:Nat} {d:DSt} {nsl:Value} (k:Nat) (hk:k < 1000000) (h:Q0g w D Fr bs b dep fuel size d nsl u) :
  Calls Tryz.prog 324 #[.pointer (some ⟨D,0,none⟩),.int .i64 k] u (Q0V w D Fr bs b dep fuel size (thenE ((decW b dep fuel).enter k d) fun d'=>.ok ((),d')) fun _=>.tuple #[]):=by
 obtain ⟨c0,c1,c2,c3,c4,c5,hfz,hlt⟩:=h.cells
 have VA:=Hid.mk (Q6E h)
 have H:=Hid.mk h
 clear h
 by_cases hs:dep≤k
 ·have E:Hid ((thenE ((decW b dep fuel).enter k d) fun d'=>Except.ok ((),d')) = .error ⟨13,d.pos⟩):=by show _=_;simp [decW,hs,thenE]
  have hc:(dep:Int)≤(k:Int):=by omega
  go_enter Tryz.func324,Tryz.ntmps324
  go_wp2_with (first
   | (go_at_call 64;refine VA.out.mono ?_;rintro e w1 ⟨rfl,rfl⟩)
   | (go_at_call 47;refine (Q09 _ _ _).mono ?_;rintro e w' ⟨rfl,rfl⟩))
  exact Qa (Q0V.throws (f:=⟨13,d.pos⟩) E.out H.out.own.kp ((Qb.refl [] _).alloc _) (Nat.le_refl _) (Qg rfl))
 ·have E:Hid ((thenE ((decW b dep fuel).enter k d) fun d'=>Except.ok ((),d')) = .ok ((),d)):=by show _=_;simp [decW,hs,thenE]
  have hc:(k:Int) < (dep:Int):=by omega
  go_enter Tryz.func324,Tryz.ntmps324
  go_wp2
  go_end0
  exact Or.inl ⟨(),d,nsl,E.out,rfl,H.out⟩
theorem Q75 {w u:World} {D:Nat} {Fr bs:List (Nat×Obj)} {b:List UInt8} {dep fuel size:Nat} {d:DSt} {nsl:Value} (h:Q0g w D Fr bs b dep fuel size d nsl u) :
  Calls Tryz.prog 240 #[.pointer (some ⟨D,0,none⟩)] u (Q0V w D Fr bs b dep fuel size (thenE (Q0x fuel d) fun d'=>.ok ((),d')) fun _=>.tuple #[]):=by
 obtain ⟨c0,c1,c2,c3,c4,c5,hfz,hlt⟩:=h.cells
 obtain ⟨ad,cap,rfl⟩:=h.slice
 have VA:=Hid.mk (Q6E (h.below (Below.refl _ _).drew))
 have H:=Hid.mk h
 clear h
 by_cases hs:fuel≤d.nodes.length
 ·have E:Hid ((thenE (Q0x fuel d) fun d'=>Except.ok ((),d')) = .error ⟨15,d.pos⟩):=by show _=_;simp [Q0x,hs,thenE]
  have hc:(fuel:Int)≤(d.nodes.length:Int):=by omega
  go_enter Tryz.func240,Tryz.ntmps240
  go_wp2
  go_region
  go_wp2_with (first
   | (go_at_call 64;refine VA.out.mono ?_;rintro e w1 ⟨rfl,rfl⟩)
   | (go_at_call 47;refine (Q09 _ _ _).mono ?_;rintro e w' ⟨rfl,rfl⟩))
  exact Qa (Q0V.throws (u:=u) (f:=⟨15,d.pos⟩) E.out H.out.own.kp (((Qb.refl [] _).drew).alloc _) (Nat.le_refl _) (Qg rfl))
 ·have E:Hid ((thenE (Q0x fuel d) fun d'=>Except.ok ((),d')) = .ok ((),d)):=by show _=_;simp [Q0x,hs,thenE]
  have hc:(d.nodes.length:Int) < (fuel:Int):=by omega
  go_enter Tryz.func240,Tryz.ntmps240
  go_wp2
  go_region
  go_wp2
  go_end0
  exact Or.inl ⟨(),d,_,E.out,rfl,H.out.below (Below.refl _ _).drew⟩
theorem QdW:(Tryz.prog.info? 48).map (fun i=>(i.zero,i.size,i.bytes))=some (some (.agg #[.int .i64 0,.int .i64 0,.string ⟨#[]⟩,.int .i64 0,.int .i64 0]),5,48):=by kernel_rfl
theorem Qki (x:Q0j):∀ u∈Q1Y x,u.oneCell'=true:=by
 intro u hu
 simp at hu
 rcases hu with rfl | rfl | rfl | rfl | rfl<;>rfl
section
variable {w u : World} {D : Nat} {Fr bs : List (Nat × Obj)} {b : List UInt8} {dep fuel size : Nat} {d : DSt} {nsl : Value}
theorem Q0g.put {u2 u3:World} {g cap:Nat} {x:Q0j} (h:Q0g w D Fr bs b dep fuel size d nsl u) (hb:Below u.heap.size u u2) (hfew:d.nodes.length < 10000)
  (hown:u3.ownsRow w.heap.size 48 5 (.slice (some ⟨g,0,none⟩) (d.nodes.length + 1) cap) (d.nodes.length + 1) (d.nodes.flatMap Q1Y++Q1Y x))
  (hg:u2.grownBy u3 nsl.ownBlock) (hat:nsl.ownBlock=some g∨g=u2.heap.size) (hlt:g < u3.heap.size) :
  Q0g w D Fr bs b dep fuel size (putD x d) (.slice (some ⟨g,0,none⟩) (d.nodes.length + 1) cap) (u3.setCell ⟨D,5,none⟩ (.slice (some ⟨g,0,none⟩) (d.nodes.length + 1) cap)):=by
 obtain ⟨hwg,_⟩:=Q1J hown (g:=g) rfl
 have e2:=h.below hb
 have hkg:=Q0q hg
 have ho:=Own.grow (A:=[D]) (B:=[]) e2.own hg hat hlt hwg
 have hks:Qb [D] u3 (u3.setCell ⟨D,5,none⟩ (.slice (some ⟨g,0,none⟩) (d.nodes.length + 1) cap)):=(Qb.refl [D] u3).setIn (by simp) _
 have hn:=h.own.nd
 have hn2:=ho.nd
 simp at hn hn2
 have hd:D ∉ nsl.ownBlock.toList:=by
  intro hm
  exact hn.1 (by simpa using hm)
 refine ⟨ho.turn hks (by simp),Qo (i:=5) ((hkg.block _ (Qc e2.box) hd).trans e2.box) _,?_,h.pos,h.len,by simp [putD];omega⟩
 have:=Qt hown hks (by
  intro g' h'
  simp only [Value.ownBlock,Option.some.injEq] at h'
  subst h'
  simp
  omega)
 simpa [putD] using this
theorem Q0g.boxAt {u2 u3:World} (h:Q0g w D Fr bs b dep fuel size d nsl u) (hb:Below u.heap.size u u2) (hg:u2.grownBy u3 nsl.ownBlock):u3.cell? ⟨D,5,none⟩=some nsl∧(∀ i,u3.frozen? ⟨D,i,none⟩=false)∧D < u3.heap.size:=by
 have hl:=Qc h.box
 have hn:=h.own.nd
 have hz:=hb.size
 simp at hn
 obtain ⟨_,_,_,_,_,h5,h6,h7⟩:=Q10 ((hg.block _ (by omega) (fun e=>hn.1 (by rw [← e]))).trans ((hb.block _ hl).trans h.box))
 exact ⟨h5,h6,h7⟩
theorem Q0g.alloc (h:Q0g w D Fr bs b dep fuel size d nsl u) (o:Obj):Q0g w D ((u.heap.size,o) :: Fr) bs b dep fuel size d nsl (u.alloc o):=h.beside ((Qb.refl [] u).alloc o) (by simp) (h.own.alloc o)
theorem Q0g.tail {p:Nat×Obj} (h:Q0g w D (p :: Fr) bs b dep fuel size d nsl u):Q0g w D Fr bs b dep fuel size d nsl u:=h.beside (Qb.refl [] u) (by simp) h.own.tail
end
theorem Q7X {w u:World} {D:Nat} {Fr bs:List (Nat×Obj)} {b:List UInt8} {dep fuel size:Nat} {d:DSt} {nsl:Value} (x:Q0j) (hfew:d.nodes.length < 10000) (h:Q0g w D Fr bs b dep fuel size d nsl u) :
  Calls Tryz.prog 329 #[.pointer (some ⟨D,0,none⟩),.agg (Q1Y x).toArray] u fun e u'=>e = .returned (.tuple #[])∧∃ nsl',Q0g w D Fr bs b dep fuel size (putD x d) nsl' u':=by
 obtain ⟨c0,c1,c2,c3,c4,c5,hfz,hlt⟩:=h.cells
 obtain ⟨ad,cap,rfl⟩:=h.slice
 obtain ⟨i0,hi0,hz0,hz1,hz2⟩:=info_parts QdW
 have hl1:d.nodes.length + 1≤maxLen:=by unfold maxLen;omega
 have hl2:(d.nodes.length + 1) * 48≤140737488355328:=by omega
 have hz3:(Value.agg #[.int .i64 0,.int .i64 0,.string ⟨#[]⟩,.int .i64 0,.int .i64 0]).cells.size=5:=by decide
 have hwl:w.heap.size≤u.heap.size:=h.own.kp.size
 have H:=Hid.mk h
 clear h
 go_enter Tryz.func329,Tryz.ntmps329
 go_wp2_with fail
 refine QD (fun w'=>w'.cell? ⟨D,5,none⟩=some (.slice ad d.nodes.length cap)∧w'.cell? ⟨u.heap.size,0,none⟩=some (.int .i64 x.kind)∧w'.cell? ⟨u.heap.size,1,none⟩=some (.int .i64 x.n)∧w'.cell? ⟨u.heap.size,2,none⟩=some (.string ⟨x.s.toArray⟩)∧w'.cell? ⟨u.heap.size,3,none⟩=some (.int .i64 x.at')∧w'.cell? ⟨u.heap.size,4,none⟩=some (.int .i64 x.len)) (L:=10) (by kernel_rfl) rfl (by kernel_rfl) (by kernel_rfl) ?_ (fun hHeld=>?_)
 ·go_keep
 refine tk (i:=0) (v:=?_) rfl (by kernel_rfl) (fun _ _ _ h=>h) (by rfl) (by assumption) ?_ ?_
 rotate_left
 ·intro w hSw;(try dsimp only at hSw);go_simp;(try with_reducible rfl)
 (try simp only [Qd,Qe,List.set])
 refine tk (i:=1) (v:=?_) rfl (by kernel_rfl) (fun _ _ _ h=>h) (by rfl) (by assumption) ?_ ?_
 rotate_left
 ·intro w hSw;(try dsimp only at hSw);go_simp;(try with_reducible rfl)
 (try simp only [Qd,Qe,List.set])
 refine tk (i:=2) (v:=?_) rfl (by kernel_rfl) (fun _ _ _ h=>h) (by rfl) (by assumption) ?_ ?_
 rotate_left
 ·intro w hSw;(try dsimp only at hSw);go_simp;(try with_reducible rfl)
 (try simp only [Qd,Qe,List.set])
 refine tk (i:=3) (v:=?_) rfl (by kernel_rfl) (fun _ _ _ h=>h) (by rfl) (by assumption) ?_ ?_
 rotate_left
 ·intro w hSw;(try dsimp only at hSw);go_simp;(try with_reducible rfl)
 (try simp only [Qd,Qe,List.set])
 refine tk (i:=4) (v:=?_) rfl (by kernel_rfl) (fun _ _ _ h=>h) (by rfl) (by assumption) ?_ ?_
 rotate_left
 ·intro w hSw;(try dsimp only at hSw);go_simp;(try with_reducible rfl)
 (try simp only [Qd,Qe,List.set])
 refine tk (i:=5) (v:=?_) rfl (by kernel_rfl) (fun _ _ _ h=>h) (by rfl) (by assumption) ?_ ?_
 rotate_left
 ·intro w hSw;(try dsimp only at hSw);go_simp;(try with_reducible rfl)
 (try simp only [Qd,Qe,List.set])
 refine wpAnyH_ready (rs:=[6]) (by kernel_rfl) (by simp) ?_
 refine AllReadyH.cons rfl (fun K hK=>?_) AllReadyH.nil
 go_simp
 refine hK.out _ _ ?_ (fun hHeld=>?_)
 ·go_keep
 clear hK K
 (try simp only [Qd,Qe,List.set])
 refine wpAnyH_ready (rs:=[7]) (by kernel_rfl) (by simp) ?_
 refine AllReadyH.cons rfl (fun K hK=>?_) AllReadyH.nil
 (refine step_append_lies _ (by rfl) _ _ _ (by rfl) w.heap.size 48 i0 _ 5 48 Tryz.underlying29 hi0 hz0 hz1 hz2 hz3 (by omega) (.slice ad d.nodes.length cap) d.nodes.length (d.nodes.flatMap Q1Y) (by rfl) (Qt H.out.row ((((Qb.refl [] u).alloc _).alloc _).drew) (by simp)) ⟨u.heap.size + 1,0,none⟩ 1 1 (Q1Y x) (by rfl) (by rfl) (World.news_of_block (cs:=(Q1Y x).toArray) (t:=48) (fr:=(0,0)) (Qg (w:=u.alloc _) (by simp))) (Qki x) (by omega) hl1 hl2 (by simp;omega) (u.heap.size + 2) (by simp) ?_;intro g cap' w6 hown6 hgrow hat hlt6;have hbb:Below u.heap.size u ((u.alloc (.cells (Q1Y x).toArray 48)).alloc (.cells (Q1Y x).toArray 48)).drew:=(((Below.refl _ _).alloc (Nat.le_refl _) _).alloc (by simp) _).drew;obtain ⟨z5,zf,zl⟩:=H.out.boxAt hbb hgrow;have hx9:w6.heap[u.heap.size]? = some (.cells (Q1Y x).toArray 48):=(hgrow.block _ (by simp;omega) (fun e=>by have:=H.out.own.lt u.heap.size (by simp [e.symm]);omega)).trans ((Below.heap_alloc _ _ _ (by simp)).trans (Qg rfl));have y0:w6.cell? ⟨u.heap.size,0,none⟩=some (.int .i64 x.kind):=(by simp [World.cell?,hx9]);have y1:w6.cell? ⟨u.heap.size,1,none⟩=some (.int .i64 x.n):=(by simp [World.cell?,hx9]);have y2:w6.cell? ⟨u.heap.size,2,none⟩=some (.string ⟨x.s.toArray⟩):=(by simp [World.cell?,hx9]);have y3:w6.cell? ⟨u.heap.size,3,none⟩=some (.int .i64 x.at'):=(by simp [World.cell?,hx9]);have y4:w6.cell? ⟨u.heap.size,4,none⟩=some (.int .i64 x.len):=(by simp [World.cell?,hx9]))
 refine hK.out _ _ ?_ (fun hHeld=>?_)
 ·go_keep
 clear hK K
 (try simp only [Qd,Qe,List.set])
 refine tk (i:=8) (v:=?_) rfl (by kernel_rfl) (fun _ _ _ h=>h) (by rfl) (by assumption) ?_ ?_
 rotate_left
 ·intro w hSw;(try dsimp only at hSw);go_simp;(try with_reducible rfl)
 (try simp only [Qd,Qe,List.set])
 refine tk (i:=9) (v:=?_) rfl (by kernel_rfl) (fun _ _ _ h=>h) (by rfl) (by assumption) ?_ ?_
 rotate_left
 ·intro w hSw;(try dsimp only at hSw);go_simp;(try with_reducible rfl)
 (try simp only [Qd,Qe,List.set])
 refine wpAnyH_done (by kernel_rfl) ?_ _
 refine QL rfl (fun K hK=>?_)
 go_simp
 refine hK.out _ _ ?_
 clear hK K
 (try simp only [Qd,Qe,List.set])
 have M6:=H.out.put hbb hfew hown6 hgrow (by simpa using hat) hlt6
 go_wp2
 go_end0
 exact ⟨rfl,_,M6⟩
theorem QiR {w u:World} {D:Nat} {Fr bs:List (Nat×Obj)} {b:List UInt8} {dep fuel size:Nat} {d:DSt} {nsl:Value} (n:NumL) (x:Option Addr) (y z:Nat) (h:Q0g w D Fr bs b dep fuel size d nsl u) :
  Calls Tryz.prog 331 #[.pointer (some ⟨D,0,none⟩),.agg (numA n.low n.high x y z n.wide).toArray] u (Q0V w D Fr bs b dep fuel size (Q0Z b n d) fun v=>.int .i64 v):=by
 have hb:∀ o,Below u.heap.size u (u.alloc o):=fun o=>(Below.refl _ _).alloc (Nat.le_refl _) _
 have V1:=Hid.mk (fun o=>Qkh (h.below (hb o)))
 have V2:=Hid.mk (Qa2 ((h.alloc (.cells #[.int .i64 n.low,.int .i64 n.high,.slice x y z,.bool n.wide] 200)).below (Below.refl _ _).drew))
 have H:=Hid.mk h
 clear h
 cases hw:n.wide with
 | true=>
  go_enter Tryz.func331,Tryz.ntmps331
  go_wp2_with fail
  refine (V1.out _).mono ?_
  rintro e w1 (⟨v,d1,nsl1,hx,rfl,M1⟩ | ⟨f,hx,hk,g,hg,rfl,hc⟩)
  rotate_left
  ·refine Qa (Or.inr ⟨f,?_,hk,g,hg,rfl,hc⟩)
   unfold Q0Z
   rw [hw]
   simp only [if_true]
   cases ht:Q27 b 8 d with
   | error f'=>rw [ht] at hx;simp only [thenE] at hx ⊢;cases hx;rfl
   | ok p=>rw [ht] at hx;simp only [thenE] at hx;cases hx
  have E:Hid (Q0Z b n d = .ok (Q2U v,d1)∧v < 18446744073709551616):=by
   obtain ⟨p,h1,h2⟩:=Qh hx
   cases h2
   refine ⟨?_,Q94 (Q5o h1).2.2.2.2⟩
   unfold Q0Z
   rw [hw]
   simp only [if_true]
   rw [h1]
   rfl
  have hv:=E.out.2
  have M1:=Hid.mk M1
  clear hx V1 V2
  go_wp2
  go_ret
  refine Or.inl ⟨Q2U v,d1,nsl1,E.out.1,?_,M1.out⟩
  show Ending.returned (Value.int .i64 (wrap64 (v:Int)))=Ending.returned (Value.int .i64 (Q2U v))
  congr 2
  unfold Q2U wrap64
  split<;>omega
 | false=>
  go_enter Tryz.func331,Tryz.ntmps331
  rw [hw] at V2
  have E0:Hid (Q0Z b n d=thenE (Q2F b d) fun p=>.ok (Q0A n p.1,p.2)):=by show _=_;unfold Q0Z;rw [hw];rfl
  go_wp2_with fail
  refine QD (fun w'=>w'.cell? ⟨u.heap.size,0,none⟩=some (.int .i64 n.low)∧w'.cell? ⟨u.heap.size,1,none⟩=some (.int .i64 n.high)∧w'.cell? ⟨u.heap.size,2,none⟩=some (.slice x y z)∧w'.cell? ⟨u.heap.size,3,none⟩=some (.bool false)) (L:=6) (by kernel_rfl) rfl (by kernel_rfl) (by kernel_rfl) ?_ (fun hHeld=>?_)
  ·go_keep
  refine tk (i:=0) (v:=?_) rfl (by kernel_rfl) (fun _ _ _ h=>h) (by rfl) (by assumption) ?_ ?_
  rotate_left
  ·intro w hSw;(try dsimp only at hSw);go_simp;(try with_reducible rfl)
  (try simp only [Qd,Qe,List.set])
  refine tk (i:=1) (v:=?_) rfl (by kernel_rfl) (fun _ _ _ h=>h) (by rfl) (by assumption) ?_ ?_
  rotate_left
  ·intro w hSw;(try dsimp only at hSw);go_simp;(try with_reducible rfl)
  (try simp only [Qd,Qe,List.set])
  refine tk (i:=2) (v:=?_) rfl (by kernel_rfl) (fun _ _ _ h=>h) (by rfl) (by assumption) ?_ ?_
  rotate_left
  ·intro w hSw;(try dsimp only at hSw);go_simp;(try with_reducible rfl)
  (try simp only [Qd,Qe,List.set])
  refine tk (i:=3) (v:=?_) rfl (by kernel_rfl) (fun _ _ _ h=>h) (by rfl) (by assumption) ?_ ?_
  rotate_left
  ·intro w hSw;(try dsimp only at hSw);go_simp;(try with_reducible rfl)
  (try simp only [Qd,Qe,List.set])
  refine wpAnyH_ready (rs:=[4]) (by kernel_rfl) (by simp) ?_
  refine AllReadyH.cons rfl (fun K hK=>?_) AllReadyH.nil
  (go_simp;go_at_call 76;refine V2.out.mono ?_;rintro e w1 (⟨v,d1,nsl1,hx,rfl,M1⟩ | ⟨f,hx,hk,g,hg,rfl,hc⟩);rotate_left;exact Qa (Or.inr ⟨f,by rw [E0.out,hx];rfl,hk,g,hg,rfl,hc⟩);obtain ⟨q0,q1,q2,q3,qf⟩:=Q0C (M1.own.hf _ List.mem_cons_self).1;have hv:v < 4294967296:=(by rw [(Q29 hx).1];exact Q28 (Q29 hx).2.1);have E:Hid (Q0Z b n d = .ok (Q0A n v,d1)):=(by show _=_;rw [E0.out,hx];rfl);have M1:=Hid.mk M1;clear hx)
  refine hK.out _ _ ?_ (fun hHeld=>?_)
  ·go_keep
  clear hK K
  (try simp only [Qd,Qe,List.set])
  refine wpAnyH_ready (rs:=[5]) (by kernel_rfl) (by simp) ?_
  refine AllReadyH.cons rfl (fun K hK=>?_) AllReadyH.nil
  (go_simp;go_at_call 328;have VO:=QiN n x y z v hv w1;rw [hw] at VO;refine VO.mono ?_;rintro e w2 ⟨rfl,hb2⟩;have M2:=M1.out.below hb2;obtain ⟨s0,s1,s2,s3,sf⟩:=Q0C (M2.own.hf _ List.mem_cons_self).1;have M2:=Hid.mk M2.tail;clear VO)
  refine hK.out _ _ ?_ (fun hHeld=>?_)
  ·go_keep
  clear hK K
  (try simp only [Qd,Qe,List.set])
  refine wpAnyH_done (by kernel_rfl) ?_ _
  refine QL rfl (fun K hK=>?_)
  go_simp
  refine hK.out _ _ ?_
  clear hK K
  (try simp only [Qd,Qe,List.set])
  go_wp2
  go_ret
  exact Or.inl ⟨_,d1,nsl1,E.out,rfl,M2.out⟩
theorem QdX {w u:World} {D:Nat} {Fr bs:List (Nat×Obj)} {b:List UInt8} {dep fuel size:Nat} {d:DSt} {nsl:Value} (n:Int) (f:Bool) (hn:0≤n) (hn2:n≤4294967295) (h:Q0g w D Fr bs b dep fuel size d nsl u) :
  Calls Tryz.prog 330 #[.pointer (some ⟨D,0,none⟩),.agg #[.int .i64 n,.bool f]] u (Q0V w D Fr bs b dep fuel size (Q0y b n f d) fun v=>.int .i64 v):=by
 have M0:=h.alloc (.cells #[.int .i64 n,.bool f] 304)
 have VA:=Hid.mk (Q6E M0)
 have VW:=Hid.mk (Qa2 M0)
 have H:=Hid.mk M0.tail
 clear h M0
 cases f with
 | true=>
  have E:Hid (Q0y b n true d = .ok (n.toNat,d)):=rfl
  go_enter Tryz.func330,Tryz.ntmps330
  go_wp2
  go_ret
  refine Or.inl ⟨n.toNat,d,nsl,E.out,?_,H.out⟩
  show Ending.returned (Value.int .i64 n)=Ending.returned (Value.int .i64 (n.toNat:Int))
  rw [Int.toNat_of_nonneg hn]
 | false=>
  have E0:Hid (Q0y b n false d=thenE (Q2F b d) fun p=>if (p.1:Int)≤n then .ok p else .error ⟨19,d.pos⟩):=rfl
  go_enter Tryz.func330,Tryz.ntmps330
  go_wp2_with fail
  refine VA.out.mono ?_
  rintro e w1 ⟨rfl,rfl⟩
  go_wp2_with fail
  refine VW.out.mono ?_
  rintro e w1 (⟨v,d1,nsl1,hx,rfl,M1⟩ | ⟨f,hx,hk,g,hg,rfl,hc⟩)
  rotate_left
  ·exact Qa (Or.inr ⟨f,by rw [E0.out,hx];rfl,hk,g,hg,rfl,hc⟩)
  obtain ⟨q0,q1,qf,ql⟩:=Q0o (M1.own.hf _ List.mem_cons_self).1
  have hv:v < 4294967296:=by rw [(Q29 hx).1];exact Q28 (Q29 hx).2.1
  have E1:Hid (Q0y b n false d=if (v:Int)≤n then .ok (v,d1) else .error ⟨19,d.pos⟩):=by show _=_;rw [E0.out,hx];rfl
  have M1:=Hid.mk M1
  clear hx VA VW E0
  have VL:=Hid.mk (Qh2 n false v w1)
  go_wp2_with fail
  refine VL.out.mono ?_
  rintro e w2 ⟨rfl,hb2⟩
  have M2:=Hid.mk (M1.out.below hb2).tail
  have hk2:Hid (Qb [] w w2):=M2.out.own.kp
  clear VL
  simp only [Bool.false_eq_true,if_false]
  by_cases hle:(v:Int)≤n
  ·have E2:Hid (Q0y b n false d = .ok (v,d1)):=by show _=_;rw [E1.out,if_pos hle]
   have hd:decide ((v:Int)≤n)=true:=by simp [hle]
   rw [hd]
   clear E1 hle hd
   go_wp2
   go_ret
   exact Or.inl ⟨v,d1,nsl1,E2.out,rfl,M2.out⟩
  ·have E2:Hid (Q0y b n false d = .error ⟨19,d.pos⟩):=by show _=_;rw [E1.out,if_neg hle]
   have hd:decide ((v:Int)≤n)=false:=by simp;omega
   rw [hd]
   clear E1 hle hd
   go_wp2_with (go_at_call 47;refine (Q09 _ _ _).mono ?_;rintro e w' ⟨rfl,rfl⟩)
   exact Qa (Q0V.throws (f:=⟨19,d.pos⟩) E2.out hk2.out ((Qb.refl [] _).alloc _) (Nat.le_refl _) (Qg rfl))
theorem Qf6 {n i:Nat} {l:List UInt8} (hi:i < l.length) (hz:Q1M n (l.drop n)=Q1M i (l.drop i)) (h0:l[i]=0):Q1M n (l.drop n)=Q1M (i + 1) (l.drop (i + 1)):=by
 rw [hz,List.drop_eq_getElem_cons hi]
 simp only [Q1M,h0,if_true]
theorem Qh3 {n i:Nat} {l:List UInt8} (hi:i < l.length) (hz:Q1M n (l.drop n)=Q1M i (l.drop i)) (h0:l[i]≠0):Q1M n (l.drop n)=some i:=by
 rw [hz,List.drop_eq_getElem_cons hi]
 simp only [Q1M,h0,if_false]
theorem QiS {w u:World} {D:Nat} {Fr bs:List (Nat×Obj)} {b:List UInt8} {dep fuel size:Nat} {d:DSt} {nsl:Value} (n:Nat) (hn2:n≤4294967295) (h:Q0g w D Fr bs b dep fuel size d nsl u) :
  Calls Tryz.prog 147 #[.pointer (some ⟨D,0,none⟩),.int .i64 n] u (Q0V w D Fr bs b dep fuel size (Q1j b n d) fun l=>.string ⟨l.toArray⟩):=by
 obtain ⟨c0,c1,c2,c3,c4,c5,hfz,hlt⟩:=h.cells
 have hpl:Q0i n≤n + 3:=by unfold Q0i;omega
 have hpn:n≤Q0i n:=by unfold Q0i;omega
 have VT:=Hid.mk (Qa1 (Q0i n) (by omega) h)
 have e1:((n:Int) + 3) / 4 * 4=(Q0i n:Int):=by unfold Q0i;omega
 have hpos:=h.pos
 have hln:=h.len
 clear h
 go_enter Tryz.func147,Tryz.ntmps147
 go_wp2_with fail
 refine VT.out.mono ?_
 rintro e w1 (⟨l,d1,nsl1,hx,rfl,M1⟩ | ⟨f,hx,hk,g,hg,rfl,hc⟩)
 rotate_left
 ·exact Qa (Or.inr ⟨f,by unfold Q1j;rw [hx];rfl,hk,g,hg,rfl,hc⟩)
 have hl:l.length=Q0i n:=(Q5o hx).2.2.2.2
 have E0:Hid (Q1j b n d=match Q1M n (l.drop n) with | some i=>.error ⟨17,d.pos + i⟩ | none=>.ok (l.take n,d1)):=by show _=_;unfold Q1j;rw [hx];rfl
 have M1:=Hid.mk M1
 have hk1:Hid (Qb [] w w1):=M1.out.own.kp
 have hnl:n≤l.length:=by omega
 have hl9:l.length≤4294967300:=by omega
 clear hx VT hl hpl hpn e1
 go_wp2
 go_loopw [7] (fun i ur=>∃ j:Nat,i = .int .i64 j∧n≤j∧j≤l.length∧Hid (Q1M n (l.drop n)=Q1M j (l.drop j))∧ur=w1) (fun i _=>l.length - (intOf i).toNat)
 case atStart=>exact ⟨n,rfl,Nat.le_refl _,hnl,rfl,rfl⟩
 case round=>
  obtain ⟨j,rfl,hnj,hj,HB,rfl⟩:=hrel
  rcases Nat.lt_or_ge j l.length with hlt' | hge
  ·have hj0:(0:Int)≤↑j:=by omega
   have hj1:(↑j:Int) < ↑l.length:=by omega
   have hcx:(⟨l.toArray⟩:ByteArray)[j]'(by simp [ByteArray.size];exact hlt')=l[j]:=rfl
   by_cases hz:l[j]=0
   ·have HB2:=Hid.mk (Qf6 hlt' HB.out hz)
    have hb:((l[j].toNat:Int) != 0)=false:=by rw [hz];rfl
    clear HB
    go_wp2
    exact ⟨⟨j + 1,by go_num,by omega,hlt',HB2,trivial⟩,by simp [intOf];omega⟩
   ·have E1:Hid (Q1j b n d = .error ⟨17,d.pos + j⟩):=by show _=_;rw [E0.out,Qh3 hlt' HB.out hz]
    have hb:((l[j].toNat:Int) != 0)=true:=by
     have:l[j].toNat≠0:=fun e=>hz (UInt8.toNat_inj.1 (by simpa using e))
     simp
     omega
    clear HB hz E0
    go_wp2_with (go_at_call 47;refine (Q09 _ _ _).mono ?_;rintro e w' ⟨rfl,rfl⟩)
    have ec:((d.pos:Int) + j)=((d.pos + j:Nat):Int):=by omega
    exact (show bodyPost Tryz.prog Tryz.f147 (Q0V w D Fr bs b dep fuel size (Q1j b n d) fun l=>.string ⟨l.toArray⟩) (Exit.panic _) _ _ from Qa (Q0V.throws (f:=⟨17,d.pos + j⟩) E1.out hk1.out ((Qb.refl [] _).alloc _) (Nat.le_refl _) (by rw [ec];exact Qg rfl)))
  ·have hjj:j=l.length:=by omega
   subst hjj
   have E1:Hid (Q1j b n d = .ok (l.take n,d1)):=by
    show _=_
    rw [E0.out,HB.out,List.drop_length]
    rfl
   clear HB E0
   have VC:=fun w=>Q6O ⟨(l.take n).toArray⟩ w (by simp [ByteArray.size];omega)
   have hn0:(0:Int)≤↑n:=by omega
   have hn1:(↑n:Int)≤↑l.length:=by omega
   go_wp2_with fail
   rw [Q4U]
   refine (VC _).mono ?_
   rintro e w2 ⟨rfl,hb2⟩
   have M2:=Hid.mk (M1.out.below hb2)
   go_wp2
   go_ret
   exact Or.inl ⟨l.take n,d1,nsl1,E1.out,rfl,M2.out⟩
abbrev Q61 (r:Except Mar.Fault DSt):Except Mar.Fault (Unit×DSt):=thenE r fun d=>.ok ((),d)
theorem Q2p (fuel:Nat) (d:DSt):(Q0x fuel d = .ok d∧d.nodes.length < fuel)∨Q0x fuel d = .error ⟨15,d.pos⟩:=by
 unfold Q0x
 by_cases h:fuel≤d.nodes.length
 ·exact Or.inr (if_pos h)
 ·exact Or.inl ⟨if_neg h,by omega⟩
theorem Qf7 {w u:World} {D:Nat} {Fr bs:List (Nat×Obj)} {b:List UInt8} {dep fuel size:Nat} {d:DSt} {nsl:Value} {bsN:List (Nat×Obj)} {cs:List Value} {n:NumL} (hN:Q1g bsN cs n) (hw:∀ p∈bsN,w.heap[p.1]? = some p.2) (hfu:fuel≤10000) (h:Q0g w D Fr bs b dep fuel size d nsl u) :
  Calls Tryz.prog 326 #[.pointer (some ⟨D,0,none⟩),.agg cs.toArray] u (Q0V w D Fr bs b dep fuel size (Q61 ((decW b dep fuel).num n d)) fun _=>.tuple #[]):=by
 obtain ⟨m,rfl,hm,x,y,z,rfl⟩:=id hN
 have M0:=h.alloc (.cells #[.int .i64 n.low,.int .i64 n.high,.slice x y z,.bool n.wide] 200)
 have VB:=Hid.mk (Q75 M0)
 clear h M0
 go_enter Tryz.func326,Tryz.ntmps326
 go_wp2_with fail
 refine VB.out.mono ?_
 rintro e w1 (⟨_,d1,nsl1,hx,rfl,M1⟩ | ⟨f,hx,hk,g,hg,rfl,hc⟩)
 rotate_left
 ·refine Qa (Or.inr ⟨f,?_,hk,g,hg,rfl,hc⟩)
  rcases Q2p fuel d with ⟨hb,_⟩ | hb
  ·rw [hb] at hx;cases hx
  ·rw [hb] at hx
   cases hx
   show thenE (thenE (Q0x fuel d) _) _=_
   rw [hb]
   rfl
 obtain ⟨hb,hnl⟩:Q0x fuel d = .ok d∧d.nodes.length < fuel:=by
  rcases Q2p fuel d with hb | hb
  ·exact hb
  ·rw [hb] at hx;cases hx
 obtain rfl:d1=d:=by rw [hb] at hx;cases hx;rfl
 have E0:Hid (Q61 ((decW b dep fuel).num n d1)=thenE (Q0Z b n d1) fun p=>if n.has p.1 then .ok ((),putD ⟨1,p.1,[],0,0⟩ p.2) else .error ⟨18,d1.pos⟩):=by
  show thenE (thenE (Q0x fuel d1) _) _=_
  rw [hb]
  simp only [thenE]
  cases Q0Z b n d1 with
  | error f=>rfl
  | ok p=>
   cases hq:n.has p.1<;>simp [hq]
 have VA:=Hid.mk (Q6E M1)
 have VN:=Hid.mk (QiR n x y z M1)
 obtain ⟨q0,q1,q2,q3,qf⟩:=Q0C (M1.own.hf _ List.mem_cons_self).1
 clear hx hb M1 VB
 go_wp2_with fail
 refine VA.out.mono ?_
 rintro e w2 ⟨rfl,rfl⟩
 go_wp2_with fail
 refine VN.out.mono ?_
 rintro e w3 (⟨v,d3,nsl3,hx,rfl,M3⟩ | ⟨f,hx,hk,g,hg,rfl,hc⟩)
 rotate_left
 ·exact Qa (Or.inr ⟨f,by rw [E0.out,hx];rfl,hk,g,hg,rfl,hc⟩)
 have hnd:d3.nodes.length < 10000:=by rw [(Q4K hx).2.2.2.1];omega
 have E1:Hid (Q61 ((decW b dep fuel).num n d1)=if n.has v then .ok ((),putD ⟨1,v,[],0,0⟩ d3) else .error ⟨18,d1.pos⟩):=by show _=_;rw [E0.out,hx];rfl
 obtain ⟨q0,q1,q2,q3,qf⟩:=Q0C (M3.own.hf _ List.mem_cons_self).1
 have VH:=Hid.mk (Q7W hN v (fun p hp=>(M3.own.kp.block _ (Qc (hw p hp)) (by simp)).trans (hw p hp)))
 have M3:=Hid.mk M3
 clear hx VA VN E0 hm
 go_wp2_with fail
 refine VH.out.mono ?_
 rintro e w4 ⟨rfl,hb4⟩
 have M4:=(M3.out.below hb4).tail
 have hk4:Hid (Qb [] w w4):=M4.own.kp
 cases hh:n.has v with
 | true=>
  have E2:Hid (Q61 ((decW b dep fuel).num n d1) = .ok ((),putD ⟨1,v,[],0,0⟩ d3)):=by show _=_;rw [E1.out,if_pos hh]
  have VP:=Hid.mk (Q7X ⟨1,v,[],0,0⟩ hnd M4)
  clear M4 E1 hh VH
  go_wp2_with fail
  refine VP.out.mono ?_
  rintro e w5 ⟨rfl,nsl5,M5⟩
  have M5:=Hid.mk M5
  go_wp2
  go_end0
  exact Or.inl ⟨(),_,nsl5,E2.out,rfl,M5.out⟩
 | false=>
  have E2:Hid (Q61 ((decW b dep fuel).num n d1) = .error ⟨18,d1.pos⟩):=by show _=_;rw [E1.out,if_neg (by rw [hh];simp)]
  clear M4 E1 hh VH
  go_wp2_with (go_at_call 47;refine (Q09 _ _ _).mono ?_;rintro e w' ⟨rfl,rfl⟩)
  exact Qa (Q0V.throws (f:=⟨18,d1.pos⟩) E2.out hk4.out ((Qb.refl [] _).alloc _) (Nat.le_refl _) (Qg rfl))
end Go.Proofs.YtmbcibgknckenaaGreatDoor
