import Derived.Test.YtmbcibgknckenaaGreatDoorT9
import Derived.Laws.Bits64b
set_option linter.all false
set_option maxRecDepth 100000
set_option maxHeartbeats 4000000
namespace Go.Proofs.YtmbcibgknckenaaGreatDoor
open Go.RowKit
open Go.MapKept
def QcB (bs:List (Nat×Obj)) (B:Nat) (ds:List DefL):Prop:=∃ dsl ps v S P,(B,Obj.cells #[dsl,v,.map (some S),.map (some P)] 70)∈bs∧Q2v bs dsl ds ps∧Q41 bs v S P ds
def QjE (w:World) (ds:List DefL) (e:Ending) (w':World):Prop:=∃ B bs,e = .returned (.tuple #[.pointer (some ⟨B,0,none⟩),.nilIface])∧Qb [] w w'∧QcB bs B ds∧(∀ p∈bs,w'.heap[p.1]? = some p.2)∧w.heap.size≤B
theorem Q2N.more {bs bs':List (Nat×Obj)} (hb:∀ p∈bs,p∈bs') {v:Value} {c:List Qj} (h:Q2N bs v c):Q2N bs' v c:=by
 obtain ⟨cv,h1,h2,h3,h4⟩:=h
 refine ⟨cv,h1,?_,fun p hp=>(h3 p hp).more hb,h4⟩
 rcases h2 with h2 | ⟨g,cap,cur,e1,e2,e3,e4⟩
 ·exact Or.inl h2
 ·exact Or.inr ⟨g,cap,cur,e1,e2,hb _ e3,e4⟩
theorem Q2v.slice {bs:List (Nat×Obj)} {sl:Value} {ds:List DefL} {ps:List Nat} (h:Q2v bs sl ds ps):∃ a b c,sl = .slice a b c:=by
 rcases h.row with ⟨e,_⟩ | ⟨g,cap,cur,e,_⟩<;>exact ⟨_,_,_,e⟩
theorem Q2N.slice {bs:List (Nat×Obj)} {v:Value} {c:List Qj} (h:Q2N bs v c):∃ a b d,v = .slice a b d:=by
 obtain ⟨cv,_,h2,_⟩:=h
 rcases h2 with ⟨e,_⟩ | ⟨g,cap,cur,e,_⟩<;>exact ⟨_,_,_,e⟩
def Q3o:Obj→Bool
 | .cells _ T _=>(T != 22) && (T != 24)
 | _=>true
theorem Q0u.good {bs bs':List (Nat×Obj)} (hb:∀ p∈bs,Q3o p.2=true→p∈bs') {e:TypeId} {v:Value} {n:Nat} {xs:List Value} (he:((e != 22) && (e != 24))=true) (h:Q0u bs e v n xs):Q0u bs' e v n xs:=by
 rcases h with h | ⟨g,cap,cur,h1,h2,h3,h4⟩
 ·exact Or.inl h
 ·exact Or.inr ⟨g,cap,cur,h1,h2,hb _ h3 he,h4⟩
theorem Q0o.good {bs bs':List (Nat×Obj)} (hb:∀ p∈bs,Q3o p.2=true→p∈bs') {b:Nat} {d:DefL} (hd:Q0o bs b d):Q0o bs' b d:=by
 have hc:∀ b m,Q5z bs b m→Q5z bs' b m:=fun b m hm=>hb _ hm rfl
 cases d with
 | const t a v=>exact hc _ _ hd
 | typedef d=>exact hb _ hd rfl
 | enum t a ms=>obtain ⟨sl,ps,h1,h2,h3,h4⟩:=hd;exact ⟨sl,ps,hb _ h1 rfl,h2,h3.good hb rfl,fun i h h'=>hc _ _ (h4 i h h')⟩
 | struct t a ms=>obtain ⟨sl,h1,h2⟩:=hd;exact ⟨sl,hb _ h1 rfl,h2.good hb rfl⟩
 | union t a sel arms=>obtain ⟨sl,cs,h1,h2,h3,h4⟩:=hd;exact ⟨sl,cs,hb _ h1 rfl,h2,h3.good hb rfl,fun i h h'=>(h4 i h h').good hb rfl⟩
 | prog t a vs num=>obtain ⟨sl,cs,h1,h2,h3,h4⟩:=hd;exact ⟨sl,cs,hb _ h1 rfl,h2,h3.good hb rfl,fun i h h'=>(h4 i h h').good hb rfl⟩
theorem Q2v.good {bs bs':List (Nat×Obj)} (hb:∀ p∈bs,Q3o p.2=true→p∈bs') {sl:Value} {ds:List DefL} {ps:List Nat} (h:Q2v bs sl ds ps):Q2v bs' sl ds ps:=
 ⟨h.len,h.row.good hb rfl,fun i h1 h2=>(h.each i h1 h2).good hb⟩
theorem Q16.good {bs bs':List (Nat×Obj)} (hb:∀ p∈bs,Q3o p.2=true→p∈bs') {cs:List Value} {n:NumL} (h:Q16 bs cs n):Q16 bs' cs n:=by
 obtain ⟨m,h1,h2,h3⟩:=h
 refine ⟨m,h1,?_,h3⟩
 cases hm:n.mem with
 | none=>rw [hm] at h2;exact h2
 | some l=>rw [hm] at h2;exact ⟨h2.1,h2.2.good hb rfl⟩
theorem Q1X.good {bs bs':List (Nat×Obj)} (hb:∀ p∈bs,Q3o p.2=true→p∈bs') {v:Value} {x:Qj} (h:Q1X bs v x):Q1X bs' v x:=by
 cases x with
 | num n=>obtain ⟨cs,h1,h2⟩:=h;exact ⟨cs,h1,h2.good hb⟩
 | choice n ws o=>
  obtain ⟨cs,m,ov,h1,h2,h3,h4⟩:=h
  refine ⟨cs,m,ov,h1,h2.good hb,hb _ h3 rfl,?_⟩
  cases o with
  | none=>exact h4
  | some q=>obtain ⟨b,h5,h6⟩:=h4;exact ⟨b,h5,hb _ h6 rfl⟩
 | _=>exact h
theorem Q2N.good {bs bs':List (Nat×Obj)} (hb:∀ p∈bs,Q3o p.2=true→p∈bs') {v:Value} {c:List Qj} (h:Q2N bs v c):Q2N bs' v c:=by
 obtain ⟨cv,h1,h2,h3,h4⟩:=h
 refine ⟨cv,h1,?_,fun p hp=>(h3 p hp).good hb,h4⟩
 rcases h2 with h2 | ⟨g,cap,cur,e1,e2,e3,e4⟩
 ·exact Or.inl h2
 ·exact Or.inr ⟨g,cap,cur,e1,e2,hb _ e3 rfl,e4⟩
theorem Q4H.good {bs bs':List (Nat×Obj)} (hb:∀ p∈bs,Q3o p.2=true→p∈bs') {q:PrgB} (h:Q4H bs q):Q4H bs' q:=⟨hb _ h.1 rfl,fun p hp=>hb _ (h.2 p hp) rfl⟩
theorem Q41.good {bs bs':List (Nat×Obj)} (hb:∀ p∈bs,Q3o p.2=true→p∈bs') {v:Value} {S P:Nat} {ds:List DefL} (h:Q41 bs v S P ds):Q41 bs' v S P ds:=by
 obtain ⟨lp,h1,h2,h3,h4⟩:=h.progs
 exact ⟨h.code.good hb,hb _ h.types rfl,h.nd,lp,hb _ h1 rfl,fun p hp=>(h2 p hp).good hb,h3,h4⟩
theorem QjF {text:ByteArray} {ds:List DefL} (ht:Q1H text = .ok ds) (hpg:∀ d∈ds,Q4d d) {w:World} (hg:Gl w):Calls Tryz.prog 11 #[.string text] w (QjE w ds):=by
 have hmf:∀ (fn:Fn) (first cap:Array Value) (w:World),(Instr.makeFunc fn first cap).run Tryz.prog w = .ok (.func fn first cap) w:=fun _ _ _ _=>rfl
 have hb0:Below w.heap.size w ((w.alloc (.cells #[.pointer none] 22)).alloc (.cells #[.nilIface] 24)):=((Below.refl _ _).alloc (Nat.le_refl _) _).alloc (by simp) _
 have VT:=Hid.mk (Qi2 text (hg.below hb0))
 have HTX:=Hid.mk ht
 have o2:((w.alloc (.cells #[.pointer none] 22)).alloc (.cells #[.nilIface] 24)).heap[w.heap.size]? = some (.cells #[.pointer none] 22):=(Below.heap_alloc _ _ _ (by simp)).trans (Qg rfl)
 have o3:((w.alloc (.cells #[.pointer none] 22)).alloc (.cells #[.nilIface] 24)).heap[w.heap.size + 1]? = some (.cells #[.nilIface] 24):=Qg (by simp)
 clear hg
 go_enter_defers Tryz.func11,Tryz.ntmps11
 go_wp2_with fail
 refine VT.out.mono ?_
 rintro e w1 (⟨ds1,sl1,ps1,bs1,hx,rfl,hk1,hdi,hh1⟩ | ⟨f,hx,_⟩)
 rotate_left
 ·exact absurd (HTX.out.symm.trans hx) (by simp)
 obtain rfl:ds=ds1:=by have:=HTX.out.symm.trans hx;injection this
 obtain ⟨sa,sb,sc,rfl⟩:=hdi.slice
 have VC:=Hid.mk (Qkh hdi hh1 (Q8O HTX.out) hpg (by have:=QgV HTX.out;omega))
 have K1:=Hid.mk hk1
 have HDI:=Hid.mk hdi
 have HH1:=Hid.mk hh1
 clear VT hx hdi hh1 hk1
 go_wp2_with fail
 refine VC.out.mono ?_
 rintro e w2 ⟨v,S,P,bs2,rfl,hk2,hci,hh2⟩
 obtain ⟨va,vb,vc,rfl⟩:=hci.code.slice
 have K2:=Hid.mk (K1.out.trans hk2)
 have HC:=Hid.mk hci
 have HH2:=Hid.mk hh2
 have KK2:=Hid.mk hk2
 have p2:=(K2.out.block _ (Qc o2) (by simp)).trans o2
 have p3:=(K2.out.block _ (Qc o3) (by simp)).trans o3
 have c2:=Qv p2
 have c3:=Qv p3
 have f2:∀ i,w2.frozen? ⟨w.heap.size,i,none⟩=false:=by intro i;simp [World.frozen?,p2]
 have f3:∀ i,w2.frozen? ⟨w.heap.size + 1,i,none⟩=false:=by intro i;simp [World.frozen?,p3]
 have l3:=Qc p3
 clear hk2 hci hh2 VC
 have hbf:Hid (∀ x y,Qb [] w (((w2.alloc (.cells #[.slice sa sb sc,.slice va vb vc,.map (some S),.map (some P)] 70)).setCell ⟨w.heap.size,0,none⟩ x).setCell ⟨w.heap.size + 1,0,none⟩ y)):=fun x y=>(((Qb.of_below [] hb0).trans K2.out |>.alloc _).setNew (p:=⟨w.heap.size,0,none⟩) (Nat.le_refl _) x).setNew (p:=⟨w.heap.size + 1,0,none⟩) (by simp) y
 clear hb0
 have o2':(w2.alloc (.cells #[.slice sa sb sc,.slice va vb vc,.map (some S),.map (some P)] 70)).heap[w.heap.size]? = some (.cells #[.pointer none] 22):=(Below.heap_alloc _ _ _ (by omega)).trans p2
 have c2':(w2.alloc (.cells #[.slice sa sb sc,.slice va vb vc,.map (some S),.map (some P)] 70)).cell? ⟨w.heap.size,0,none⟩=some (.pointer none):=Qv o2'
 have f2':∀ i,(w2.alloc (.cells #[.slice sa sb sc,.slice va vb vc,.map (some S),.map (some P)] 70)).frozen? ⟨w.heap.size,i,none⟩=false:=by intro i;simp [World.frozen?,o2']
 have o3':∀ x,((w2.alloc (.cells #[.slice sa sb sc,.slice va vb vc,.map (some S),.map (some P)] 70)).setCell ⟨w.heap.size,0,none⟩ x).heap[w.heap.size + 1]? = some (.cells #[.nilIface] 24):=fun x=>(Below.heap_setCell _ _ _ _ (by simp)).trans ((Below.heap_alloc _ _ _ l3).trans p3)
 have c3':∀ x,((w2.alloc (.cells #[.slice sa sb sc,.slice va vb vc,.map (some S),.map (some P)] 70)).setCell ⟨w.heap.size,0,none⟩ x).cell? ⟨w.heap.size + 1,0,none⟩=some .nilIface:=fun x=>Qv (o3' x)
 have f3':∀ x i,((w2.alloc (.cells #[.slice sa sb sc,.slice va vb vc,.map (some S),.map (some P)] 70)).setCell ⟨w.heap.size,0,none⟩ x).frozen? ⟨w.heap.size + 1,i,none⟩=false:=by intro x i;simp [World.frozen?,o3' x]
 have HF:Hid (QcB ((w2.heap.size,.cells #[.slice sa sb sc,.slice va vb vc,.map (some S),.map (some P)] 70) :: ((bs1++bs2).filter fun p=>Q3o p.2)) w2.heap.size ds∧∀ x y,∀ p∈((w2.heap.size,.cells #[.slice sa sb sc,.slice va vb vc,.map (some S),.map (some P)] 70) :: ((bs1++bs2).filter fun p=>Q3o p.2):List (Nat×Obj)),(((w2.alloc (.cells #[.slice sa sb sc,.slice va vb vc,.map (some S),.map (some P)] 70)).setCell ⟨w.heap.size,0,none⟩ x).setCell ⟨w.heap.size + 1,0,none⟩ y).heap[p.1]? = some p.2):=by
  have g1:∀ p∈bs1,Q3o p.2=true→p∈((w2.heap.size,.cells #[.slice sa sb sc,.slice va vb vc,.map (some S),.map (some P)] 70) :: ((bs1++bs2).filter fun p=>Q3o p.2):List (Nat×Obj)):=fun p hp hg=>List.mem_cons_of_mem _ (List.mem_filter.2 ⟨List.mem_append_left _ hp,hg⟩)
  have g2:∀ p∈bs2,Q3o p.2=true→p∈((w2.heap.size,.cells #[.slice sa sb sc,.slice va vb vc,.map (some S),.map (some P)] 70) :: ((bs1++bs2).filter fun p=>Q3o p.2):List (Nat×Obj)):=fun p hp hg=>List.mem_cons_of_mem _ (List.mem_filter.2 ⟨List.mem_append_right _ hp,hg⟩)
  refine ⟨⟨_,ps1,_,S,P,List.mem_cons_self,HDI.out.good g1,HC.out.good g2⟩,?_⟩
  intro x y p hp
  rcases List.mem_cons.1 hp with rfl | hp
  ·exact (Below.heap_setCell _ _ _ _ (by simp only;omega)).trans ((Below.heap_setCell _ _ _ _ (by simp only;omega)).trans (Qg rfl))
  ·obtain ⟨hm,hgd⟩:=List.mem_filter.1 hp
   have hw2:w2.heap[p.1]? = some p.2:=by
    rcases List.mem_append.1 hm with hm | hm
    ·exact (KK2.out.block _ (Qc (HH1.out p hm)) (by simp)).trans (HH1.out p hm)
    ·exact HH2.out p hm
   have n2:p.1≠w.heap.size:=by
    intro e
    rw [e,p2] at hw2
    injection hw2 with hw2
    rw [← hw2] at hgd
    exact absurd hgd (by decide)
   have n3:p.1≠w.heap.size + 1:=by
    intro e
    rw [e,p3] at hw2
    injection hw2 with hw2
    rw [← hw2] at hgd
    exact absurd hgd (by decide)
   exact (Below.heap_setCell _ _ _ _ n3).trans ((Below.heap_setCell _ _ _ _ n2).trans ((Below.heap_alloc _ _ _ (Qc hw2)).trans hw2))
 have z2:(((w2.alloc (.cells #[.slice sa sb sc,.slice va vb vc,.map (some S),.map (some P)] 70)).setCell ⟨w.heap.size,0,none⟩ (.pointer (some ⟨w2.heap.size,0,none⟩))).setCell ⟨w.heap.size + 1,0,none⟩ .nilIface).cell? ⟨w.heap.size,0,none⟩=some (.pointer (some ⟨w2.heap.size,0,none⟩)):=
  Qv ((Below.heap_setCell _ _ _ _ (by simp)).trans (Qn (i:=0) o2' _))
 have z3:(((w2.alloc (.cells #[.slice sa sb sc,.slice va vb vc,.map (some S),.map (some P)] 70)).setCell ⟨w.heap.size,0,none⟩ (.pointer (some ⟨w2.heap.size,0,none⟩))).setCell ⟨w.heap.size + 1,0,none⟩ .nilIface).cell? ⟨w.heap.size + 1,0,none⟩=some .nilIface:=Qv (Qn (i:=0) (o3' _) _)
 have hle:w.heap.size≤w2.heap.size:=by omega
 go_wp2
 refine leaves_cons (f:=26) (args:=#[.pointer (some ⟨w.heap.size,0,none⟩),.pointer (some ⟨w.heap.size + 1,0,none⟩)]) (by simp) (by simp [go_sem]) ?_
 refine (Qff _ _ _).mono ?_
 rintro e u' w'' ⟨rfl,rfl,rfl⟩
 simp only [Leaves,settle]
 refine ⟨.tuple #[.pointer (some ⟨w2.heap.size,0,none⟩),.nilIface],by simp [results,Tryz.results11,go_sem,z2,z3],?_⟩
 exact ⟨w2.heap.size,_,rfl,hbf.out _ _,HF.out.1,HF.out.2 _ _,hle⟩
abbrev Q2A (x:Q2n):List Value:=[.int .i64 x.kind,.int .i64 x.n,.string ⟨x.s.toArray⟩,.int .i64 x.at',.int .i64 x.len]
structure Q07 (w:World) (D:Nat) (Fr bs:List (Nat×Obj)) (b:List UInt8) (dep fuel size:Nat) (d:DSt) (nsl:Value) (u:World):Prop where
 own:Own w ([D]++(nsl.ownBlock.toList++[])) Fr bs u
 box:u.heap[D]? = some (.cells #[.string ⟨b.toArray⟩,.int .i64 d.pos,.int .i64 dep,.int .i64 fuel,.int .i64 size,nsl] 142)
 row:u.ownsRow w.heap.size 48 5 nsl d.nodes.length (d.nodes.flatMap Q2A)
 pos:d.pos≤b.length
 len:b.length≤100000
 few:d.nodes.length≤10000
theorem Q8e (b:List UInt8) (p k:Nat):(⟨b.toArray⟩:ByteArray).extract p (p + k)=⟨((b.drop p).take k).toArray⟩:=by
 apply ByteArray.ext
 simp only [ByteArray.data_extract]
 apply Array.ext'
 simp [Array.toList_extract,List.extract]
def Q0K {α:Type} (w:World) (D:Nat) (Fr bs:List (Nat×Obj)) (b:List UInt8) (dep fuel size:Nat) (r:Except Mar.Fault (α×DSt)) (V:α→Value) (e:Ending) (u':World):Prop:=
 (∃ a d' nsl',r = .ok (a,d')∧e = .returned (V a)∧Q07 w D Fr bs b dep fuel size d' nsl' u')∨(∃ f,r = .error f∧Qb [] w u'∧Q0c w f.no f.at' e u')
section
variable {w u u' : World} {D : Nat} {Fr bs : List (Nat × Obj)} {b : List UInt8} {dep fuel size : Nat} {d : DSt} {nsl : Value}
theorem Q07.cells (h:Q07 w D Fr bs b dep fuel size d nsl u):u.cell? ⟨D,0,none⟩=some (.string ⟨b.toArray⟩)∧u.cell? ⟨D,1,none⟩=some (.int .i64 d.pos)∧u.cell? ⟨D,2,none⟩=some (.int .i64 dep)∧u.cell? ⟨D,3,none⟩=some (.int .i64 fuel)∧u.cell? ⟨D,4,none⟩=some (.int .i64 size)∧u.cell? ⟨D,5,none⟩=some nsl∧(∀ i,u.frozen? ⟨D,i,none⟩=false)∧D < u.heap.size:=by
 obtain ⟨h0,h1,h2,h3,h4,h5,h6,h7⟩:=Q0j h.box
 exact ⟨h0,h1,h2,h3,h4,h5,h6,h7⟩
theorem Q07.slice (h:Q07 w D Fr bs b dep fuel size d nsl u):∃ ad cap,nsl = .slice ad d.nodes.length cap:=by
 rcases h.row.2 with ⟨rfl,h0⟩ | ⟨g,cap,cur,rfl,_⟩
 ·exact ⟨none,0,by rw [h0]⟩
 ·exact ⟨_,_,rfl⟩
theorem Q07.beside {M:List Nat} {Fr' bs':List (Nat×Obj)} (h:Q07 w D Fr bs b dep fuel size d nsl u) (hk:Qb M u u') (hM:∀ m∈M,m ∉ [D]++(nsl.ownBlock.toList++[])) (ho:Own w ([D]++(nsl.ownBlock.toList++[])) Fr' bs' u'):Q07 w D Fr' bs' b dep fuel size d nsl u':=by
 refine ⟨ho,(hk.block _ (Qc h.box) (fun hm=>hM _ hm (by simp))).trans h.box,Qk h.row hk (fun g hg hm=>hM _ hm (by simp [hg])),h.pos,h.len,h.few⟩
theorem Q07.below (h:Q07 w D Fr bs b dep fuel size d nsl u) (hb:Below u.heap.size u u'):Q07 w D Fr bs b dep fuel size d nsl u':=h.beside (Qb.of_below [] hb) (by simp) (h.own.below hb)
theorem Q07.move (h:Q07 w D Fr bs b dep fuel size d nsl u) {p:Nat} (hp:p≤b.length):Q07 w D Fr bs b dep fuel size { d with pos:=p } nsl (u.setCell ⟨D,1,none⟩ (.int .i64 p)):=by
 have hk:Qb [D] u (u.setCell ⟨D,1,none⟩ (.int .i64 p)):=(Qb.refl [D] u).setIn (by simp) _
 have hn:=h.own.nd
 simp at hn
 refine ⟨h.own.turn hk (by simp),Qn (i:=1) h.box _,Qk h.row hk (fun g hg hm=>?_),hp,h.len,h.few⟩
 simp at hm
 subst hm
 exact hn.1 hg
end
theorem Q69 {w u:World} {D:Nat} {Fr bs:List (Nat×Obj)} {b:List UInt8} {dep fuel size:Nat} {d:DSt} {nsl:Value} (h:Q07 w D Fr bs b dep fuel size d nsl u) :
  Calls Tryz.prog 64 #[.pointer (some ⟨D,0,none⟩)] u fun e u'=>e = .returned (.int .i64 d.pos)∧u'=u:=by
 obtain ⟨c0,c1,c2,c3,c4,c5,hfz,hlt⟩:=h.cells
 clear h
 go_enter Tryz.func64,Tryz.ntmps64
 go_wp2
 go_ret
 exact ⟨rfl,rfl⟩
theorem QcC {w u:World} {D:Nat} {Fr bs:List (Nat×Obj)} {b:List UInt8} {dep fuel size:Nat} {d:DSt} {nsl:Value} (h:Q07 w D Fr bs b dep fuel size d nsl u) :
  Calls Tryz.prog 63 #[.pointer (some ⟨D,0,none⟩)] u fun e u'=>e = .returned (.int .i64 ((b.length:Int) - d.pos))∧u'=u.drew:=by
 obtain ⟨c0,c1,c2,c3,c4,c5,hfz,hlt⟩:=h.cells
 have hp:=h.pos
 have hl:=h.len
 clear h
 go_enter Tryz.func63,Tryz.ntmps63
 go_wp2
 go_region
 go_wp2
 go_ret
 exact ⟨rfl,rfl⟩
theorem Q0K.throws {α:Type} {w u u':World} {D:Nat} {Fr bs:List (Nat×Obj)} {b:List UInt8} {dep fuel size:Nat} {r:Except Mar.Fault (α×DSt)} {V:α→Value} {f:Mar.Fault} {g:Nat} (hr:r = .error f) (hk:Qb [] w u) (hb:Qb [] u u') (hg:u.heap.size≤g) (hc:u'.heap[g]? = some (.cells #[.int .i64 f.no,.int .i64 f.at'] 83)) :
  Q0K w D Fr bs b dep fuel size r V (.panicked [{ v:=.iface 79 (.pointer (some ⟨g,0,none⟩)),recovered:=false }]) u':=
 Or.inr ⟨f,hr,hk.trans hb,g,Nat.le_trans hk.size hg,rfl,hc⟩
theorem Q9n {w u:World} {D:Nat} {Fr bs:List (Nat×Obj)} {b:List UInt8} {dep fuel size:Nat} {d:DSt} {nsl:Value} (k:Nat) (hk:k≤8589934592) (h:Q07 w D Fr bs b dep fuel size d nsl u) :
  Calls Tryz.prog 108 #[.pointer (some ⟨D,0,none⟩),.int .i64 k] u (Q0K w D Fr bs b dep fuel size (Q23 b k d) fun l=>.string ⟨l.toArray⟩):=by
 obtain ⟨c0,c1,c2,c3,c4,c5,hfz,hlt⟩:=h.cells
 have hp:=h.pos
 have hl:=h.len
 have VL:=Hid.mk (QcC h)
 have H:=Hid.mk h
 clear h
 by_cases hs:b.length < d.pos + k
 ·have E:Hid (Q23 b k d = .error ⟨16,d.pos⟩):=by show _=_;unfold Q23;rw [if_pos hs]
  have hc:(b.length:Int) - d.pos < (k:Int):=by omega
  go_enter Tryz.func108,Tryz.ntmps108
  go_wp2_with fail
  refine VL.out.mono ?_
  rintro e w1 ⟨rfl,rfl⟩
  go_wp2_with (go_at_call 47;refine (QY _ _ _).mono ?_;rintro e w' ⟨rfl,rfl⟩)
  exact Qa (Q0K.throws (u:=u) (f:=⟨16,d.pos⟩) E.out H.out.own.kp (((Qb.refl [] u).drew).alloc _) (Nat.le_refl _) (Qg rfl))
 ·have E:Hid (Q23 b k d = .ok ((b.drop d.pos).take k,{ d with pos:=d.pos + k })):=by show _=_;unfold Q23;rw [if_neg hs]
  have hc:(k:Int)≤(b.length:Int) - d.pos:=by omega
  have h1:(0:Int)≤d.pos:=by omega
  have h2:(d.pos:Int)≤(d.pos:Int) + k:=by omega
  have h3:(d.pos:Int) + k≤b.length:=by omega
  go_enter Tryz.func108,Tryz.ntmps108
  go_wp2_with fail
  refine VL.out.mono ?_
  rintro e w1 ⟨rfl,rfl⟩
  go_wp2
  go_region
  go_wp2
  go_ret
  refine Or.inl ⟨_,_,nsl,E.out,?_,?_⟩
  ·show Ending.returned (.string ((⟨b.toArray⟩:ByteArray).extract d.pos (d.pos + k)))=_
   rw [Q8e]
  ·have:=(H.out.below (Below.refl _ _).drew).below (Below.refl _ _).drew
   have e1:((d.pos:Int) + k)=((d.pos + k:Nat):Int):=by omega
   rw [e1]
   exact this.move (by omega)
theorem QcD (l:List UInt8) (c:UInt8):bigL (l++[c])=bigL l * 256 + c.toNat:=by simp [bigL]
theorem Qki:∀ (k:Nat) (l:List UInt8),l.length=k→bigL l < 256 ^ k:=by
 intro k
 induction k with
 | zero=>
  intro l hl
  have:l=[]:=List.length_eq_zero_iff.1 hl
  subst this
  simp [bigL]
 | succ k ih=>
  intro l hl
  have hne:l≠[]:=by intro e;subst e;simp at hl
  obtain ⟨l',c,rfl⟩:∃ l' c,l=l'++[c]:=⟨l.dropLast,l.getLast hne,(List.dropLast_concat_getLast hne).symm⟩
  have h1:=ih l' (by simpa using hl)
  have h2:=c.toNat_lt
  rw [QcD,Nat.pow_succ]
  omega
theorem QjG (n:Nat) (c:Nat) (hc:c < 256):(n * 256) ||| c=n * 256 + c:=by
 have:=Nat.shiftLeft_add_eq_or_of_lt (i:=8) (b:=c) (by omega) n
 rw [Nat.shiftLeft_eq] at this
 exact this.symm
theorem Qay (l:List UInt8) (hl:l.length≤8) (w:World):Calls Tryz.prog 107 #[.string ⟨l.toArray⟩] w fun e w'=>e = .returned (.int .u64 (bigL l))∧w'=w:=by
 go_enter Tryz.func107,Tryz.ntmps107
 go_wp2
 go_loopw [7,3] (fun i n ur=>∃ k:Nat,i = .int .i64 k∧k≤l.length∧n = .int .u64 (bigL (l.take k))∧ur=w) (fun i _ _=>l.length - (intOf i).toNat)
 case atStart=>exact ⟨0,rfl,by omega,by simp [bigL],rfl⟩
 case round=>
  obtain ⟨k,rfl,hk,rfl,rfl⟩:=hrel
  rcases Nat.lt_or_ge k l.length with hlt | hge
  ·have hk0:(0:Int)≤↑k:=by omega
   have hk1:(↑k:Int) < ↑l.length:=by omega
   have hb:bigL (l.take k) < 256 ^ 7:=by
    have h1:=Qki (l.take k).length (l.take k) rfl
    have h2:(l.take k).length≤7:=by simp;omega
    exact Nat.lt_of_lt_of_le h1 (Nat.pow_le_pow_right (by omega) h2)
   have hbits:∀ c:UInt8,bits BinOp.or IntKind.u64 ((bigL (l.take k):Int) * 256) (IntKind.u64.wrap c.toNat)=((bigL (l.take k) * 256 + c.toNat:Nat):Int):=by
    intro c
    have hc:=c.toNat_lt
    have hp:(256:Nat) ^ 7=72057594037927936:=by decide
    rw [hp] at hb
    have e1:IntKind.u64.wrap (c.toNat:Int)=(c.toNat:Int):=by simp [IntKind.wrap_u64];omega
    rw [e1,show ((bigL (l.take k):Int) * 256)=((bigL (l.take k) * 256:Nat):Int) by omega,bits_or_u64_nat _ _ (by omega) (by omega),QjG _ _ hc]
   have hnext:bigL (l.take (k + 1))=bigL (l.take k) * 256 + (l[k]).toNat:=by rw [List.take_succ_eq_append_getElem hlt,QcD]
   go_wp2
   refine ⟨⟨k + 1,by go_num,hlt,?_,trivial⟩,by simp [intOf];omega⟩
   rw [hnext]
   have e2:(⟨l.toArray⟩:ByteArray)[k]=l[k]:=rfl
   rw [e2]
   simp
  ·have hkk:k=l.length:=by omega
   subst hkk
   go_wp2
   go_ret
   refine ⟨?_,rfl⟩
   simp
theorem Q9o {w u:World} {D:Nat} {Fr bs:List (Nat×Obj)} {b:List UInt8} {dep fuel size:Nat} {d:DSt} {nsl:Value} (h:Q07 w D Fr bs b dep fuel size d nsl u) :
  Calls Tryz.prog 76 #[.pointer (some ⟨D,0,none⟩)] u (Q0K w D Fr bs b dep fuel size (Q1r b d) fun v=>.int .u32 v):=by
 have VT:=Hid.mk (Q9n 4 (by omega) h)
 go_enter Tryz.func76,Tryz.ntmps76
 go_wp2_with fail
 refine VT.out.mono ?_
 rintro e w1 (⟨l,d1,nsl1,hx,rfl,M1⟩ | ⟨f,hx,hk,g,hg,rfl,hc⟩)
 rotate_left
 ·exact Qa (Or.inr ⟨f,by unfold Q1r;rw [hx];rfl,hk,g,hg,rfl,hc⟩)
 have hl:=(Q3l hx).2.2.2.2
 have hlt:=Q4l hl
 have E:Hid (Q1r b d = .ok (bigL l,d1)):=by show _=_;unfold Q1r;rw [hx];rfl
 have M1:=Hid.mk M1
 clear hx VT
 go_wp2_with fail
 refine (Qay l (by omega) w1).mono ?_
 rintro e w2 ⟨rfl,rfl⟩
 go_wp2
 go_ret
 exact Or.inl ⟨bigL l,d1,nsl1,E.out,by simp [IntKind.wrap_u32],M1.out⟩
theorem Qiv {w u:World} {D:Nat} {Fr bs:List (Nat×Obj)} {b:List UInt8} {dep fuel size:Nat} {d:DSt} {nsl:Value} (h:Q07 w D Fr bs b dep fuel size d nsl u) :
  Calls Tryz.prog 332 #[.pointer (some ⟨D,0,none⟩)] u (Q0K w D Fr bs b dep fuel size (thenE (Q23 b 8 d) fun p=>.ok (bigL p.1,p.2)) fun v=>.int .u64 v):=by
 have VT:=Hid.mk (Q9n 8 (by omega) h)
 go_enter Tryz.func332,Tryz.ntmps332
 go_wp2_with fail
 refine VT.out.mono ?_
 rintro e w1 (⟨l,d1,nsl1,hx,rfl,M1⟩ | ⟨f,hx,hk,g,hg,rfl,hc⟩)
 rotate_left
 ·exact Qa (Or.inr ⟨f,by rw [hx];rfl,hk,g,hg,rfl,hc⟩)
 have hl:=(Q3l hx).2.2.2.2
 have E:Hid ((thenE (Q23 b 8 d) fun p=>.ok (bigL p.1,p.2)) = .ok (bigL l,d1)):=by show _=_;rw [hx];rfl
 have M1:=Hid.mk M1
 clear hx VT
 go_wp2_with fail
 refine (Qay l (by omega) w1).mono ?_
 rintro e w2 ⟨rfl,rfl⟩
 go_wp2
 go_ret
 exact Or.inl ⟨bigL l,d1,nsl1,E.out,rfl,M1.out⟩
theorem Qh0 (n:NumL) (x:Option Addr) (y z:Nat) (v:Nat) (hv:v < 4294967296) (w:World) :
  Calls Tryz.prog 328 #[.agg (numA n.low n.high x y z n.wide).toArray,.int .u32 v] w fun e w'=>e = .returned (.int .i64 (Q0Z n v))∧Below w.heap.size w w':=by
 have hb:∀ o,Below w.heap.size w (w.alloc o):=fun o=>(Below.refl _ _).alloc (Nat.le_refl _) _
 by_cases hl:n.low < 0
 ·go_enter Tryz.func328,Tryz.ntmps328
  go_wp2
  go_ret
  refine ⟨?_,hb _⟩
  show Ending.returned (Value.int .i64 (wrap64 (wrap32 (v:Int))))=_
  congr 2
  unfold Q0Z wrap32 wrap64
  rw [if_pos hl]
  split<;>omega
 ·go_enter Tryz.func328,Tryz.ntmps328
  go_wp2
  go_ret
  refine ⟨?_,hb _⟩
  show Ending.returned (Value.int .i64 (v:Int))=_
  unfold Q0Z
  rw [if_neg (by omega)]
theorem Qfg (n:Int) (f:Bool) (k:Nat) (w:World) :
  Calls Tryz.prog 288 #[.agg #[.int .i64 n,.bool f],.int .i64 k] w fun e w'=>e = .returned (.bool (if f then decide ((k:Int)=n) else decide ((k:Int)≤n)))∧Below w.heap.size w w':=by
 have hb:∀ o,Below w.heap.size w (w.alloc o):=fun o=>(Below.refl _ _).alloc (Nat.le_refl _) _
 have h0:(0:Int)≤k:=by omega
 cases f with
 | true=>
  go_enter Tryz.func288,Tryz.ntmps288
  go_wp2
  go_ret
  refine ⟨?_,hb _⟩
  show Ending.returned (Value.bool ((k:Int) == n))=_
  congr 2
 | false=>
  go_enter Tryz.func288,Tryz.ntmps288
  go_wp2
  go_ret
  refine ⟨?_,hb _⟩
  rfl
theorem Qh1 {g cap:Nat} {l:List Int} (hn:l.length≤1000) (hc:l.length≤cap) (k:Int) (w:World) (hr:∀ i (h:i < l.length),w.cell? ⟨g,i,none⟩=some (.int .i64 l[i])) :
  Calls Tryz.prog 322 #[.slice (some ⟨g,0,none⟩) l.length cap,.int .i64 k] w fun e w'=>(∃ i:Int,e = .returned (.int .i64 i)∧decide (0≤i)=l.contains k)∧w'=w:=by
 have HR:=Hid.mk hr
 clear hr
 go_enter Tryz.func322,Tryz.ntmps322
 go_wp2
 go_loopw [8] (fun i ur=>∃ j:Nat,i = .int .i64 j∧j≤l.length∧Hid (∀ x∈l.take j,x≠k)∧ur=w) (fun i _=>l.length - (intOf i).toNat)
 case atStart=>exact ⟨0,rfl,by omega,(by intro x hx;simp at hx),rfl⟩
 case round=>
  obtain ⟨j,rfl,hj,HN,rfl⟩:=hrel
  rcases Nat.lt_or_ge j l.length with hlt | hge
  ·have q:=HR.out j hlt
   have hj0:(0:Int)≤↑j:=by omega
   have hj1:(↑j:Int) < ↑l.length:=by omega
   by_cases he:k=l[j]
   ·have hb:(k == l[j])=true:=by simp [he]
    have hin:Hid (l.contains k=true):=by show _=_;simp;rw [he];exact List.getElem_mem hlt
    clear he
    go_wp2
    go_ret
    exact ⟨⟨j,rfl,by rw [hin.out];simp⟩,rfl⟩
   ·have hb:(k == l[j])=false:=by simp [he]
    have HN2:Hid (∀ x∈l.take (j + 1),x≠k):=by
     intro x hx
     rw [List.take_succ_eq_append_getElem hlt] at hx
     rcases List.mem_append.1 hx with hx | hx
     ·exact HN.out x hx
     ·simp only [List.mem_singleton] at hx
      rw [hx]
      exact fun e=>he e.symm
    clear he
    go_wp2
    exact ⟨⟨j + 1,by go_num,by omega,HN2,trivial⟩,by simp [intOf];omega⟩
  ·have hjj:j=l.length:=by omega
   subst hjj
   have hno:Hid (l.contains k=false):=by
    show _=_
    have h1:=HN.out
    rw [List.take_length] at h1
    simp
    exact fun hk=>h1 k hk rfl
   clear HN
   go_wp2
   go_ret
   exact ⟨⟨-1,rfl,by rw [hno.out];simp⟩,rfl⟩
theorem QcE {g cap:Nat} {l:List Int} (hn:l.length≤1000) (hc:l.length≤cap) (k:Int) (w:World) (hr:∀ i (h:i < l.length),w.cell? ⟨g,i,none⟩=some (.int .i64 l[i])) :
  Calls Tryz.prog 318 #[.slice (some ⟨g,0,none⟩) l.length cap,.int .i64 k] w fun e w'=>e = .returned (.bool (l.contains k))∧w'=w:=by
 have V:=Hid.mk (Qh1 hn hc k w hr)
 go_enter Tryz.func318,Tryz.ntmps318
 go_wp2_with fail
 refine V.out.mono ?_
 rintro e w1 ⟨⟨i,rfl,hi⟩,rfl⟩
 have HI:=Hid.mk hi
 clear hi
 go_wp2
 go_ret
 refine ⟨?_,rfl⟩
 rw [← HI.out]
 rfl
theorem Qh2 {bs:List (Nat×Obj)} {v:Value} {l:List Int} {w:World} (h:Qbs bs v (some l)) (hw:∀ p∈bs,w.heap[p.1]? = some p.2):∃ g cap,v = .slice (some ⟨g,0,none⟩) l.length cap∧l.length≤1000∧l.length≤cap∧∀ (w':World),Qb [] w w'→∀ i (hi:i < l.length),w'.cell? ⟨g,i,none⟩=some (.int .i64 l[i]):=by
 obtain ⟨hne,hs⟩:=h
 rcases hs with ⟨_,h0,_⟩ | ⟨g,cap,cur,e,⟨h1,h2⟩,h3,h4⟩
 ·exact absurd (List.length_eq_zero_iff.1 h0) hne
 ·exact ⟨g,cap,e,h2,h1,fun w' hk i hi=>Qs ((hk.block _ (Qc (hw _ h3)) (by simp)).trans (hw _ h3)) h4 (by simp [hi])⟩
theorem Q7u {bs:List (Nat×Obj)} {cs:List Value} {n:NumL} (hN:Q16 bs cs n) (k:Int) {w:World} (hw:∀ p∈bs,w.heap[p.1]? = some p.2) :
  Calls Tryz.prog 268 #[.agg cs.toArray,.int .i64 k] w fun e w'=>e = .returned (.bool (n.has k))∧Below w.heap.size w w':=by
 have hb:∀ o,Below w.heap.size w (w.alloc o):=fun o=>(Below.refl _ _).alloc (Nat.le_refl _) _
 have hs1:∀ W,(binOp BinOp.eql 198 (.slice none 0 0) (.slice none 0 0)).run Tryz.prog W = .ok (.bool true) W:=fun W=>by kernel_rfl
 have hs2:∀ (q:Addr) (i j:Nat) (W:World),(binOp BinOp.eql 198 (.slice (some q) i j) (.slice none 0 0)).run Tryz.prog W = .ok (.bool false) W:=fun q i j W=>by kernel_rfl
 obtain ⟨m,rfl,hm,x,y,z,rfl⟩:=hN
 by_cases h1:n.low≤k
 ·by_cases h2:k≤n.high
  ·cases hmem:n.mem with
   | none=>
    rw [hmem] at hm
    have hm':Value.slice x y z = .slice none 0 0:=hm
    cases hm'
    have E:Hid (n.has k=true):=by show _=_;simp [NumL.has,h1,h2,hmem]
    go_enter Tryz.func268,Tryz.ntmps268
    go_wp2
    go_ret
    refine ⟨?_,hb _⟩
    rw [E.out]
    rfl
   | some l=>
    rw [hmem] at hm
    obtain ⟨g,cap,he,hl1,hl2,hcl⟩:=Qh2 hm hw
    cases he
    have E:Hid (n.has k=l.contains k):=by show _=_;simp [NumL.has,h1,h2,hmem]
    have V:=fun o=>QcE hl1 hl2 k (w.alloc o) (hcl _ ((Qb.refl [] w).alloc o))
    have V:=Hid.mk V
    clear hm hcl
    go_enter Tryz.func268,Tryz.ntmps268
    go_wp2_with (go_at_call 318;refine (V.out _).mono ?_;rintro e w1 ⟨rfl,rfl⟩)
    go_ret
    refine ⟨?_,hb _⟩
    rw [E.out]
    show Ending.returned (Value.bool (decide (k∈l)))=_
    simp
  ·have E:Hid (n.has k=false):=by show _=_;simp [NumL.has,h2]
   go_enter Tryz.func268,Tryz.ntmps268
   go_wp2
   go_ret
   refine ⟨?_,hb _⟩
   rw [E.out]
   rfl
 ·have E:Hid (n.has k=false):=by show _=_;simp [NumL.has,h1]
  go_enter Tryz.func268,Tryz.ntmps268
  go_wp2
  go_ret
  refine ⟨?_,hb _⟩
  rw [E.out]
  rfl
theorem Qh3 {w u:World} {D:Nat} {Fr bs:List (Nat×Obj)} {b:List UInt8} {dep fuel size:Nat} {d:DSt} {nsl:Value} (k:Nat) (hk:k < 1000000) (h:Q07 w D Fr bs b dep fuel size d nsl u) :
  Calls Tryz.prog 324 #[.pointer (some ⟨D,0,none⟩),.int .i64 k] u (Q0K w D Fr bs b dep fuel size (thenE ((decW b dep fuel).enter k d) fun d'=>.ok ((),d')) fun _=>.tuple #[]):=by
 obtain ⟨c0,c1,c2,c3,c4,c5,hfz,hlt⟩:=h.cells
 have VA:=Hid.mk (Q69 h)
 have H:=Hid.mk h
 clear h
 by_cases hs:dep≤k
 ·have E:Hid ((thenE ((decW b dep fuel).enter k d) fun d'=>Except.ok ((),d')) = .error ⟨13,d.pos⟩):=by show _=_;simp [decW,hs,thenE]
  have hc:(dep:Int)≤(k:Int):=by omega
  go_enter Tryz.func324,Tryz.ntmps324
  go_wp2_with (first
   | (go_at_call 64;refine VA.out.mono ?_;rintro e w1 ⟨rfl,rfl⟩)
   | (go_at_call 47;refine (QY _ _ _).mono ?_;rintro e w' ⟨rfl,rfl⟩))
  exact Qa (Q0K.throws (f:=⟨13,d.pos⟩) E.out H.out.own.kp ((Qb.refl [] _).alloc _) (Nat.le_refl _) (Qg rfl))
 ·have E:Hid ((thenE ((decW b dep fuel).enter k d) fun d'=>Except.ok ((),d')) = .ok ((),d)):=by show _=_;simp [decW,hs,thenE]
  have hc:(k:Int) < (dep:Int):=by omega
  go_enter Tryz.func324,Tryz.ntmps324
  go_wp2
  go_end0
  exact Or.inl ⟨(),d,nsl,E.out,rfl,H.out⟩
theorem Q6x {w u:World} {D:Nat} {Fr bs:List (Nat×Obj)} {b:List UInt8} {dep fuel size:Nat} {d:DSt} {nsl:Value} (h:Q07 w D Fr bs b dep fuel size d nsl u) :
  Calls Tryz.prog 240 #[.pointer (some ⟨D,0,none⟩)] u (Q0K w D Fr bs b dep fuel size (thenE (Q10 fuel d) fun d'=>.ok ((),d')) fun _=>.tuple #[]):=by
 obtain ⟨c0,c1,c2,c3,c4,c5,hfz,hlt⟩:=h.cells
 obtain ⟨ad,cap,rfl⟩:=h.slice
 have VA:=Hid.mk (Q69 (h.below (Below.refl _ _).drew))
 have H:=Hid.mk h
 clear h
 by_cases hs:fuel≤d.nodes.length
 ·have E:Hid ((thenE (Q10 fuel d) fun d'=>Except.ok ((),d')) = .error ⟨15,d.pos⟩):=by show _=_;simp [Q10,hs,thenE]
  have hc:(fuel:Int)≤(d.nodes.length:Int):=by omega
  go_enter Tryz.func240,Tryz.ntmps240
  go_wp2
  go_region
  go_wp2_with (first
   | (go_at_call 64;refine VA.out.mono ?_;rintro e w1 ⟨rfl,rfl⟩)
   | (go_at_call 47;refine (QY _ _ _).mono ?_;rintro e w' ⟨rfl,rfl⟩))
  exact Qa (Q0K.throws (u:=u) (f:=⟨15,d.pos⟩) E.out H.out.own.kp (((Qb.refl [] _).drew).alloc _) (Nat.le_refl _) (Qg rfl))
 ·have E:Hid ((thenE (Q10 fuel d) fun d'=>Except.ok ((),d')) = .ok ((),d)):=by show _=_;simp [Q10,hs,thenE]
  have hc:(d.nodes.length:Int) < (fuel:Int):=by omega
  go_enter Tryz.func240,Tryz.ntmps240
  go_wp2
  go_region
  go_wp2
  go_end0
  exact Or.inl ⟨(),d,_,E.out,rfl,H.out.below (Below.refl _ _).drew⟩
theorem Qiw:(Tryz.prog.info? 48).map (fun i=>(i.zero,i.size,i.bytes))=some (some (.agg #[.int .i64 0,.int .i64 0,.string ⟨#[]⟩,.int .i64 0,.int .i64 0]),5,48):=by kernel_rfl
theorem Qix (x:Q2n):∀ u∈Q2A x,u.oneCell'=true:=by
 intro u hu
 simp at hu
 rcases hu with rfl | rfl | rfl | rfl | rfl<;>rfl
section
variable {w u : World} {D : Nat} {Fr bs : List (Nat × Obj)} {b : List UInt8} {dep fuel size : Nat} {d : DSt} {nsl : Value}
theorem Q07.put {u2 u3:World} {g cap:Nat} {x:Q2n} (h:Q07 w D Fr bs b dep fuel size d nsl u) (hb:Below u.heap.size u u2) (hfew:d.nodes.length < 10000)
  (hown:u3.ownsRow w.heap.size 48 5 (.slice (some ⟨g,0,none⟩) (d.nodes.length + 1) cap) (d.nodes.length + 1) (d.nodes.flatMap Q2A++Q2A x))
  (hg:u2.grownBy u3 nsl.ownBlock) (hat:nsl.ownBlock=some g∨g=u2.heap.size) (hlt:g < u3.heap.size) :
  Q07 w D Fr bs b dep fuel size (putD x d) (.slice (some ⟨g,0,none⟩) (d.nodes.length + 1) cap) (u3.setCell ⟨D,5,none⟩ (.slice (some ⟨g,0,none⟩) (d.nodes.length + 1) cap)):=by
 obtain ⟨hwg,_⟩:=Q0z hown (g:=g) rfl
 have e2:=h.below hb
 have hkg:=Q05 hg
 have ho:=Own.grow (A:=[D]) (B:=[]) e2.own hg hat hlt hwg
 have hks:Qb [D] u3 (u3.setCell ⟨D,5,none⟩ (.slice (some ⟨g,0,none⟩) (d.nodes.length + 1) cap)):=(Qb.refl [D] u3).setIn (by simp) _
 have hn:=h.own.nd
 have hn2:=ho.nd
 simp at hn hn2
 have hd:D ∉ nsl.ownBlock.toList:=by
  intro hm
  exact hn.1 (by simpa using hm)
 refine ⟨ho.turn hks (by simp),Qn (i:=5) ((hkg.block _ (Qc e2.box) hd).trans e2.box) _,?_,h.pos,h.len,by simp [putD];omega⟩
 have:=Qk hown hks (by
  intro g' h'
  simp only [Value.ownBlock,Option.some.injEq] at h'
  subst h'
  simp
  omega)
 simpa [putD] using this
theorem Q07.boxAt {u2 u3:World} (h:Q07 w D Fr bs b dep fuel size d nsl u) (hb:Below u.heap.size u u2) (hg:u2.grownBy u3 nsl.ownBlock):u3.cell? ⟨D,5,none⟩=some nsl∧(∀ i,u3.frozen? ⟨D,i,none⟩=false)∧D < u3.heap.size:=by
 have hl:=Qc h.box
 have hn:=h.own.nd
 have hz:=hb.size
 simp at hn
 obtain ⟨_,_,_,_,_,h5,h6,h7⟩:=Q0j ((hg.block _ (by omega) (fun e=>hn.1 (by rw [← e]))).trans ((hb.block _ hl).trans h.box))
 exact ⟨h5,h6,h7⟩
theorem Q07.alloc (h:Q07 w D Fr bs b dep fuel size d nsl u) (o:Obj):Q07 w D ((u.heap.size,o) :: Fr) bs b dep fuel size d nsl (u.alloc o):=h.beside ((Qb.refl [] u).alloc o) (by simp) (h.own.alloc o)
theorem Q07.tail {p:Nat×Obj} (h:Q07 w D (p :: Fr) bs b dep fuel size d nsl u):Q07 w D Fr bs b dep fuel size d nsl u:=h.beside (Qb.refl [] u) (by simp) h.own.tail
end
theorem Q7v {w u:World} {D:Nat} {Fr bs:List (Nat×Obj)} {b:List UInt8} {dep fuel size:Nat} {d:DSt} {nsl:Value} (x:Q2n) (hfew:d.nodes.length < 10000) (h:Q07 w D Fr bs b dep fuel size d nsl u) :
  Calls Tryz.prog 329 #[.pointer (some ⟨D,0,none⟩),.agg (Q2A x).toArray] u fun e u'=>e = .returned (.tuple #[])∧∃ nsl',Q07 w D Fr bs b dep fuel size (putD x d) nsl' u':=by
 obtain ⟨c0,c1,c2,c3,c4,c5,hfz,hlt⟩:=h.cells
 obtain ⟨ad,cap,rfl⟩:=h.slice
 obtain ⟨i0,hi0,hz0,hz1,hz2⟩:=info_parts Qiw
 have hl1:d.nodes.length + 1≤maxLen:=by unfold maxLen;omega
 have hl2:(d.nodes.length + 1) * 48≤140737488355328:=by omega
 have hz3:(Value.agg #[.int .i64 0,.int .i64 0,.string ⟨#[]⟩,.int .i64 0,.int .i64 0]).cells.size=5:=by decide
 have hwl:w.heap.size≤u.heap.size:=h.own.kp.size
 have H:=Hid.mk h
 clear h
 go_enter Tryz.func329,Tryz.ntmps329
 go_wp2_with fail
 refine Qu (fun w'=>w'.cell? ⟨D,5,none⟩=some (.slice ad d.nodes.length cap)∧w'.cell? ⟨u.heap.size,0,none⟩=some (.int .i64 x.kind)∧w'.cell? ⟨u.heap.size,1,none⟩=some (.int .i64 x.n)∧w'.cell? ⟨u.heap.size,2,none⟩=some (.string ⟨x.s.toArray⟩)∧w'.cell? ⟨u.heap.size,3,none⟩=some (.int .i64 x.at')∧w'.cell? ⟨u.heap.size,4,none⟩=some (.int .i64 x.len)) (L:=10) (by kernel_rfl) rfl (by kernel_rfl) (by kernel_rfl) ?_ (fun hHeld=>?_)
 ·go_keep
 refine tk (i:=0) (v:=?_) rfl (by kernel_rfl) (fun _ _ _ h=>h) (by rfl) (by assumption) ?_ ?_
 rotate_left
 ·intro w hSw;(try dsimp only at hSw);go_simp;(try with_reducible rfl)
 (try simp only [Qd,Qe,List.set])
 refine tk (i:=1) (v:=?_) rfl (by kernel_rfl) (fun _ _ _ h=>h) (by rfl) (by assumption) ?_ ?_
 rotate_left
 ·intro w hSw;(try dsimp only at hSw);go_simp;(try with_reducible rfl)
 (try simp only [Qd,Qe,List.set])
 refine tk (i:=2) (v:=?_) rfl (by kernel_rfl) (fun _ _ _ h=>h) (by rfl) (by assumption) ?_ ?_
 rotate_left
 ·intro w hSw;(try dsimp only at hSw);go_simp;(try with_reducible rfl)
 (try simp only [Qd,Qe,List.set])
 refine tk (i:=3) (v:=?_) rfl (by kernel_rfl) (fun _ _ _ h=>h) (by rfl) (by assumption) ?_ ?_
 rotate_left
 ·intro w hSw;(try dsimp only at hSw);go_simp;(try with_reducible rfl)
 (try simp only [Qd,Qe,List.set])
 refine tk (i:=4) (v:=?_) rfl (by kernel_rfl) (fun _ _ _ h=>h) (by rfl) (by assumption) ?_ ?_
 rotate_left
 ·intro w hSw;(try dsimp only at hSw);go_simp;(try with_reducible rfl)
 (try simp only [Qd,Qe,List.set])
 refine tk (i:=5) (v:=?_) rfl (by kernel_rfl) (fun _ _ _ h=>h) (by rfl) (by assumption) ?_ ?_
 rotate_left
 ·intro w hSw;(try dsimp only at hSw);go_simp;(try with_reducible rfl)
 (try simp only [Qd,Qe,List.set])
 refine wpAnyH_ready (rs:=[6]) (by kernel_rfl) (by simp) ?_
 refine AllReadyH.cons rfl (fun K hK=>?_) AllReadyH.nil
 go_simp
 refine hK.out _ _ ?_ (fun hHeld=>?_)
 ·go_keep
 clear hK K
 (try simp only [Qd,Qe,List.set])
 refine wpAnyH_ready (rs:=[7]) (by kernel_rfl) (by simp) ?_
 refine AllReadyH.cons rfl (fun K hK=>?_) AllReadyH.nil
 (refine step_append_lies _ (by rfl) _ _ _ (by rfl) w.heap.size 48 i0 _ 5 48 Tryz.underlying29 hi0 hz0 hz1 hz2 hz3 (by omega) (.slice ad d.nodes.length cap) d.nodes.length (d.nodes.flatMap Q2A) (by rfl) (Qk H.out.row ((((Qb.refl [] u).alloc _).alloc _).drew) (by simp)) ⟨u.heap.size + 1,0,none⟩ 1 1 (Q2A x) (by rfl) (by rfl) (World.news_of_block (cs:=(Q2A x).toArray) (t:=48) (fr:=(0,0)) (Qg (w:=u.alloc _) (by simp))) (Qix x) (by omega) hl1 hl2 (by simp;omega) (u.heap.size + 2) (by simp) ?_;intro g cap' w6 hown6 hgrow hat hlt6;have hbb:Below u.heap.size u ((u.alloc (.cells (Q2A x).toArray 48)).alloc (.cells (Q2A x).toArray 48)).drew:=(((Below.refl _ _).alloc (Nat.le_refl _) _).alloc (by simp) _).drew;obtain ⟨z5,zf,zl⟩:=H.out.boxAt hbb hgrow;have hx9:w6.heap[u.heap.size]? = some (.cells (Q2A x).toArray 48):=(hgrow.block _ (by simp;omega) (fun e=>by have:=H.out.own.lt u.heap.size (by simp [e.symm]);omega)).trans ((Below.heap_alloc _ _ _ (by simp)).trans (Qg rfl));have y0:w6.cell? ⟨u.heap.size,0,none⟩=some (.int .i64 x.kind):=(by simp [World.cell?,hx9]);have y1:w6.cell? ⟨u.heap.size,1,none⟩=some (.int .i64 x.n):=(by simp [World.cell?,hx9]);have y2:w6.cell? ⟨u.heap.size,2,none⟩=some (.string ⟨x.s.toArray⟩):=(by simp [World.cell?,hx9]);have y3:w6.cell? ⟨u.heap.size,3,none⟩=some (.int .i64 x.at'):=(by simp [World.cell?,hx9]);have y4:w6.cell? ⟨u.heap.size,4,none⟩=some (.int .i64 x.len):=(by simp [World.cell?,hx9]))
 refine hK.out _ _ ?_ (fun hHeld=>?_)
 ·go_keep
 clear hK K
 (try simp only [Qd,Qe,List.set])
 refine tk (i:=8) (v:=?_) rfl (by kernel_rfl) (fun _ _ _ h=>h) (by rfl) (by assumption) ?_ ?_
 rotate_left
 ·intro w hSw;(try dsimp only at hSw);go_simp;(try with_reducible rfl)
 (try simp only [Qd,Qe,List.set])
 refine tk (i:=9) (v:=?_) rfl (by kernel_rfl) (fun _ _ _ h=>h) (by rfl) (by assumption) ?_ ?_
 rotate_left
 ·intro w hSw;(try dsimp only at hSw);go_simp;(try with_reducible rfl)
 (try simp only [Qd,Qe,List.set])
 refine wpAnyH_done (by kernel_rfl) ?_ _
 refine QB rfl (fun K hK=>?_)
 go_simp
 refine hK.out _ _ ?_
 clear hK K
 (try simp only [Qd,Qe,List.set])
 have M6:=H.out.put hbb hfew hown6 hgrow (by simpa using hat) hlt6
 go_wp2
 go_end0
 exact ⟨rfl,_,M6⟩
theorem Qh4 {w u:World} {D:Nat} {Fr bs:List (Nat×Obj)} {b:List UInt8} {dep fuel size:Nat} {d:DSt} {nsl:Value} (n:NumL) (x:Option Addr) (y z:Nat) (h:Q07 w D Fr bs b dep fuel size d nsl u) :
  Calls Tryz.prog 331 #[.pointer (some ⟨D,0,none⟩),.agg (numA n.low n.high x y z n.wide).toArray] u (Q0K w D Fr bs b dep fuel size (Q2p b n d) fun v=>.int .i64 v):=by
 have hb:∀ o,Below u.heap.size u (u.alloc o):=fun o=>(Below.refl _ _).alloc (Nat.le_refl _) _
 have V1:=Hid.mk (fun o=>Qiv (h.below (hb o)))
 have V2:=Hid.mk (Q9o ((h.alloc (.cells #[.int .i64 n.low,.int .i64 n.high,.slice x y z,.bool n.wide] 200)).below (Below.refl _ _).drew))
 have H:=Hid.mk h
 clear h
 cases hw:n.wide with
 | true=>
  go_enter Tryz.func331,Tryz.ntmps331
  go_wp2_with fail
  refine (V1.out _).mono ?_
  rintro e w1 (⟨v,d1,nsl1,hx,rfl,M1⟩ | ⟨f,hx,hk,g,hg,rfl,hc⟩)
  rotate_left
  ·refine Qa (Or.inr ⟨f,?_,hk,g,hg,rfl,hc⟩)
   unfold Q2p
   rw [hw]
   simp only [if_true]
   cases ht:Q23 b 8 d with
   | error f'=>rw [ht] at hx;simp only [thenE] at hx ⊢;cases hx;rfl
   | ok p=>rw [ht] at hx;simp only [thenE] at hx;cases hx
  have E:Hid (Q2p b n d = .ok (Q74 v,d1)∧v < 18446744073709551616):=by
   obtain ⟨p,h1,h2⟩:=QV hx
   cases h2
   refine ⟨?_,Qjs (Q3l h1).2.2.2.2⟩
   unfold Q2p
   rw [hw]
   simp only [if_true]
   rw [h1]
   rfl
  have hv:=E.out.2
  have M1:=Hid.mk M1
  clear hx V1 V2
  go_wp2
  go_ret
  refine Or.inl ⟨Q74 v,d1,nsl1,E.out.1,?_,M1.out⟩
  show Ending.returned (Value.int .i64 (wrap64 (v:Int)))=Ending.returned (Value.int .i64 (Q74 v))
  congr 2
  unfold Q74 wrap64
  split<;>omega
 | false=>
  go_enter Tryz.func331,Tryz.ntmps331
  rw [hw] at V2
  have E0:Hid (Q2p b n d=thenE (Q1r b d) fun p=>.ok (Q0Z n p.1,p.2)):=by show _=_;unfold Q2p;rw [hw];rfl
  go_wp2_with fail
  refine Qu (fun w'=>w'.cell? ⟨u.heap.size,0,none⟩=some (.int .i64 n.low)∧w'.cell? ⟨u.heap.size,1,none⟩=some (.int .i64 n.high)∧w'.cell? ⟨u.heap.size,2,none⟩=some (.slice x y z)∧w'.cell? ⟨u.heap.size,3,none⟩=some (.bool false)) (L:=6) (by kernel_rfl) rfl (by kernel_rfl) (by kernel_rfl) ?_ (fun hHeld=>?_)
  ·go_keep
  refine tk (i:=0) (v:=?_) rfl (by kernel_rfl) (fun _ _ _ h=>h) (by rfl) (by assumption) ?_ ?_
  rotate_left
  ·intro w hSw;(try dsimp only at hSw);go_simp;(try with_reducible rfl)
  (try simp only [Qd,Qe,List.set])
  refine tk (i:=1) (v:=?_) rfl (by kernel_rfl) (fun _ _ _ h=>h) (by rfl) (by assumption) ?_ ?_
  rotate_left
  ·intro w hSw;(try dsimp only at hSw);go_simp;(try with_reducible rfl)
  (try simp only [Qd,Qe,List.set])
  refine tk (i:=2) (v:=?_) rfl (by kernel_rfl) (fun _ _ _ h=>h) (by rfl) (by assumption) ?_ ?_
  rotate_left
  ·intro w hSw;(try dsimp only at hSw);go_simp;(try with_reducible rfl)
  (try simp only [Qd,Qe,List.set])
  refine tk (i:=3) (v:=?_) rfl (by kernel_rfl) (fun _ _ _ h=>h) (by rfl) (by assumption) ?_ ?_
  rotate_left
  ·intro w hSw;(try dsimp only at hSw);go_simp;(try with_reducible rfl)
  (try simp only [Qd,Qe,List.set])
  refine wpAnyH_ready (rs:=[4]) (by kernel_rfl) (by simp) ?_
  refine AllReadyH.cons rfl (fun K hK=>?_) AllReadyH.nil
  (go_simp;go_at_call 76;refine V2.out.mono ?_;rintro e w1 (⟨v,d1,nsl1,hx,rfl,M1⟩ | ⟨f,hx,hk,g,hg,rfl,hc⟩);rotate_left;exact Qa (Or.inr ⟨f,by rw [E0.out,hx];rfl,hk,g,hg,rfl,hc⟩);obtain ⟨q0,q1,q2,q3,qf⟩:=Q0t (M1.own.hf _ List.mem_cons_self).1;have hv:v < 4294967296:=(by rw [(Q3N hx).1];exact Q4l (Q3N hx).2.1);have E:Hid (Q2p b n d = .ok (Q0Z n v,d1)):=(by show _=_;rw [E0.out,hx];rfl);have M1:=Hid.mk M1;clear hx)
  refine hK.out _ _ ?_ (fun hHeld=>?_)
  ·go_keep
  clear hK K
  (try simp only [Qd,Qe,List.set])
  refine wpAnyH_ready (rs:=[5]) (by kernel_rfl) (by simp) ?_
  refine AllReadyH.cons rfl (fun K hK=>?_) AllReadyH.nil
  (go_simp;go_at_call 328;have VO:=Qh0 n x y z v hv w1;rw [hw] at VO;refine VO.mono ?_;rintro e w2 ⟨rfl,hb2⟩;have M2:=M1.out.below hb2;obtain ⟨s0,s1,s2,s3,sf⟩:=Q0t (M2.own.hf _ List.mem_cons_self).1;have M2:=Hid.mk M2.tail;clear VO)
  refine hK.out _ _ ?_ (fun hHeld=>?_)
  ·go_keep
  clear hK K
  (try simp only [Qd,Qe,List.set])
  refine wpAnyH_done (by kernel_rfl) ?_ _
  refine QB rfl (fun K hK=>?_)
  go_simp
  refine hK.out _ _ ?_
  clear hK K
  (try simp only [Qd,Qe,List.set])
  go_wp2
  go_ret
  exact Or.inl ⟨_,d1,nsl1,E.out,rfl,M2.out⟩
theorem QcF {w u:World} {D:Nat} {Fr bs:List (Nat×Obj)} {b:List UInt8} {dep fuel size:Nat} {d:DSt} {nsl:Value} (n:Int) (f:Bool) (hn:0≤n) (hn2:n≤4294967295) (h:Q07 w D Fr bs b dep fuel size d nsl u) :
  Calls Tryz.prog 330 #[.pointer (some ⟨D,0,none⟩),.agg #[.int .i64 n,.bool f]] u (Q0K w D Fr bs b dep fuel size (Q2j b n f d) fun v=>.int .i64 v):=by
 have M0:=h.alloc (.cells #[.int .i64 n,.bool f] 304)
 have VA:=Hid.mk (Q69 M0)
 have VW:=Hid.mk (Q9o M0)
 have H:=Hid.mk M0.tail
 clear h M0
 cases f with
 | true=>
  have E:Hid (Q2j b n true d = .ok (n.toNat,d)):=rfl
  go_enter Tryz.func330,Tryz.ntmps330
  go_wp2
  go_ret
  refine Or.inl ⟨n.toNat,d,nsl,E.out,?_,H.out⟩
  show Ending.returned (Value.int .i64 n)=Ending.returned (Value.int .i64 (n.toNat:Int))
  rw [Int.toNat_of_nonneg hn]
 | false=>
  have E0:Hid (Q2j b n false d=thenE (Q1r b d) fun p=>if (p.1:Int)≤n then .ok p else .error ⟨19,d.pos⟩):=rfl
  go_enter Tryz.func330,Tryz.ntmps330
  go_wp2_with fail
  refine VA.out.mono ?_
  rintro e w1 ⟨rfl,rfl⟩
  go_wp2_with fail
  refine VW.out.mono ?_
  rintro e w1 (⟨v,d1,nsl1,hx,rfl,M1⟩ | ⟨f,hx,hk,g,hg,rfl,hc⟩)
  rotate_left
  ·exact Qa (Or.inr ⟨f,by rw [E0.out,hx];rfl,hk,g,hg,rfl,hc⟩)
  obtain ⟨q0,q1,qf,ql⟩:=Q0k (M1.own.hf _ List.mem_cons_self).1
  have hv:v < 4294967296:=by rw [(Q3N hx).1];exact Q4l (Q3N hx).2.1
  have E1:Hid (Q2j b n false d=if (v:Int)≤n then .ok (v,d1) else .error ⟨19,d.pos⟩):=by show _=_;rw [E0.out,hx];rfl
  have M1:=Hid.mk M1
  clear hx VA VW E0
  have VL:=Hid.mk (Qfg n false v w1)
  go_wp2_with fail
  refine VL.out.mono ?_
  rintro e w2 ⟨rfl,hb2⟩
  have M2:=Hid.mk (M1.out.below hb2).tail
  have hk2:Hid (Qb [] w w2):=M2.out.own.kp
  clear VL
  simp only [Bool.false_eq_true,if_false]
  by_cases hle:(v:Int)≤n
  ·have E2:Hid (Q2j b n false d = .ok (v,d1)):=by show _=_;rw [E1.out,if_pos hle]
   have hd:decide ((v:Int)≤n)=true:=by simp [hle]
   rw [hd]
   clear E1 hle hd
   go_wp2
   go_ret
   exact Or.inl ⟨v,d1,nsl1,E2.out,rfl,M2.out⟩
  ·have E2:Hid (Q2j b n false d = .error ⟨19,d.pos⟩):=by show _=_;rw [E1.out,if_neg hle]
   have hd:decide ((v:Int)≤n)=false:=by simp;omega
   rw [hd]
   clear E1 hle hd
   go_wp2_with (go_at_call 47;refine (QY _ _ _).mono ?_;rintro e w' ⟨rfl,rfl⟩)
   exact Qa (Q0K.throws (f:=⟨19,d.pos⟩) E2.out hk2.out ((Qb.refl [] _).alloc _) (Nat.le_refl _) (Qg rfl))
theorem Q8P {n i:Nat} {l:List UInt8} (hi:i < l.length) (hz:Q1t n (l.drop n)=Q1t i (l.drop i)) (h0:l[i]=0):Q1t n (l.drop n)=Q1t (i + 1) (l.drop (i + 1)):=by
 rw [hz,List.drop_eq_getElem_cons hi]
 simp only [Q1t,h0,if_true]
theorem Qa7 {n i:Nat} {l:List UInt8} (hi:i < l.length) (hz:Q1t n (l.drop n)=Q1t i (l.drop i)) (h0:l[i]≠0):Q1t n (l.drop n)=some i:=by
 rw [hz,List.drop_eq_getElem_cons hi]
 simp only [Q1t,h0,if_false]
theorem Qh5 {w u:World} {D:Nat} {Fr bs:List (Nat×Obj)} {b:List UInt8} {dep fuel size:Nat} {d:DSt} {nsl:Value} (n:Nat) (hn2:n≤4294967295) (h:Q07 w D Fr bs b dep fuel size d nsl u) :
  Calls Tryz.prog 147 #[.pointer (some ⟨D,0,none⟩),.int .i64 n] u (Q0K w D Fr bs b dep fuel size (Q0U b n d) fun l=>.string ⟨l.toArray⟩):=by
 obtain ⟨c0,c1,c2,c3,c4,c5,hfz,hlt⟩:=h.cells
 have hpl:Q0a n≤n + 3:=by unfold Q0a;omega
 have hpn:n≤Q0a n:=by unfold Q0a;omega
 have VT:=Hid.mk (Q9n (Q0a n) (by omega) h)
 have e1:((n:Int) + 3) / 4 * 4=(Q0a n:Int):=by unfold Q0a;omega
 have hpos:=h.pos
 have hln:=h.len
 clear h
 go_enter Tryz.func147,Tryz.ntmps147
 go_wp2_with fail
 refine VT.out.mono ?_
 rintro e w1 (⟨l,d1,nsl1,hx,rfl,M1⟩ | ⟨f,hx,hk,g,hg,rfl,hc⟩)
 rotate_left
 ·exact Qa (Or.inr ⟨f,by unfold Q0U;rw [hx];rfl,hk,g,hg,rfl,hc⟩)
 have hl:l.length=Q0a n:=(Q3l hx).2.2.2.2
 have E0:Hid (Q0U b n d=match Q1t n (l.drop n) with | some i=>.error ⟨17,d.pos + i⟩ | none=>.ok (l.take n,d1)):=by show _=_;unfold Q0U;rw [hx];rfl
 have M1:=Hid.mk M1
 have hk1:Hid (Qb [] w w1):=M1.out.own.kp
 have hnl:n≤l.length:=by omega
 have hl9:l.length≤4294967300:=by omega
 clear hx VT hl hpl hpn e1
 go_wp2
 go_loopw [7] (fun i ur=>∃ j:Nat,i = .int .i64 j∧n≤j∧j≤l.length∧Hid (Q1t n (l.drop n)=Q1t j (l.drop j))∧ur=w1) (fun i _=>l.length - (intOf i).toNat)
 case atStart=>exact ⟨n,rfl,Nat.le_refl _,hnl,rfl,rfl⟩
 case round=>
  obtain ⟨j,rfl,hnj,hj,HB,rfl⟩:=hrel
  rcases Nat.lt_or_ge j l.length with hlt' | hge
  ·have hj0:(0:Int)≤↑j:=by omega
   have hj1:(↑j:Int) < ↑l.length:=by omega
   have hcx:(⟨l.toArray⟩:ByteArray)[j]'(by simp [ByteArray.size];exact hlt')=l[j]:=rfl
   by_cases hz:l[j]=0
   ·have HB2:=Hid.mk (Q8P hlt' HB.out hz)
    have hb:((l[j].toNat:Int) != 0)=false:=by rw [hz];rfl
    clear HB
    go_wp2
    exact ⟨⟨j + 1,by go_num,by omega,hlt',HB2,trivial⟩,by simp [intOf];omega⟩
   ·have E1:Hid (Q0U b n d = .error ⟨17,d.pos + j⟩):=by show _=_;rw [E0.out,Qa7 hlt' HB.out hz]
    have hb:((l[j].toNat:Int) != 0)=true:=by
     have:l[j].toNat≠0:=fun e=>hz (UInt8.toNat_inj.1 (by simpa using e))
     simp
     omega
    clear HB hz E0
    go_wp2_with (go_at_call 47;refine (QY _ _ _).mono ?_;rintro e w' ⟨rfl,rfl⟩)
    have ec:((d.pos:Int) + j)=((d.pos + j:Nat):Int):=by omega
    exact (show bodyPost Tryz.prog Tryz.f147 (Q0K w D Fr bs b dep fuel size (Q0U b n d) fun l=>.string ⟨l.toArray⟩) (Exit.panic _) _ _ from Qa (Q0K.throws (f:=⟨17,d.pos + j⟩) E1.out hk1.out ((Qb.refl [] _).alloc _) (Nat.le_refl _) (by rw [ec];exact Qg rfl)))
  ·have hjj:j=l.length:=by omega
   subst hjj
   have E1:Hid (Q0U b n d = .ok (l.take n,d1)):=by
    show _=_
    rw [E0.out,HB.out,List.drop_length]
    rfl
   clear HB E0
   have VC:=fun w=>Q56 ⟨(l.take n).toArray⟩ w (by simp [ByteArray.size];omega)
   have hn0:(0:Int)≤↑n:=by omega
   have hn1:(↑n:Int)≤↑l.length:=by omega
   go_wp2_with fail
   rw [Q1L]
   refine (VC _).mono ?_
   rintro e w2 ⟨rfl,hb2⟩
   have M2:=Hid.mk (M1.out.below hb2)
   go_wp2
   go_ret
   exact Or.inl ⟨l.take n,d1,nsl1,E1.out,rfl,M2.out⟩
abbrev Q5y (r:Except Mar.Fault DSt):Except Mar.Fault (Unit×DSt):=thenE r fun d=>.ok ((),d)
theorem Q27 (fuel:Nat) (d:DSt):(Q10 fuel d = .ok d∧d.nodes.length < fuel)∨Q10 fuel d = .error ⟨15,d.pos⟩:=by
 unfold Q10
 by_cases h:fuel≤d.nodes.length
 ·exact Or.inr (if_pos h)
 ·exact Or.inl ⟨if_neg h,by omega⟩
theorem QdI {w u:World} {D:Nat} {Fr bs:List (Nat×Obj)} {b:List UInt8} {dep fuel size:Nat} {d:DSt} {nsl:Value} {bsN:List (Nat×Obj)} {cs:List Value} {n:NumL} (hN:Q16 bsN cs n) (hw:∀ p∈bsN,w.heap[p.1]? = some p.2) (hfu:fuel≤10000) (h:Q07 w D Fr bs b dep fuel size d nsl u) :
  Calls Tryz.prog 326 #[.pointer (some ⟨D,0,none⟩),.agg cs.toArray] u (Q0K w D Fr bs b dep fuel size (Q5y ((decW b dep fuel).num n d)) fun _=>.tuple #[]):=by
 obtain ⟨m,rfl,hm,x,y,z,rfl⟩:=id hN
 have M0:=h.alloc (.cells #[.int .i64 n.low,.int .i64 n.high,.slice x y z,.bool n.wide] 200)
 have VB:=Hid.mk (Q6x M0)
 clear h M0
 go_enter Tryz.func326,Tryz.ntmps326
 go_wp2_with fail
 refine VB.out.mono ?_
 rintro e w1 (⟨_,d1,nsl1,hx,rfl,M1⟩ | ⟨f,hx,hk,g,hg,rfl,hc⟩)
 rotate_left
 ·refine Qa (Or.inr ⟨f,?_,hk,g,hg,rfl,hc⟩)
  rcases Q27 fuel d with ⟨hb,_⟩ | hb
  ·rw [hb] at hx;cases hx
  ·rw [hb] at hx
   cases hx
   show thenE (thenE (Q10 fuel d) _) _=_
   rw [hb]
   rfl
 obtain ⟨hb,hnl⟩:Q10 fuel d = .ok d∧d.nodes.length < fuel:=by
  rcases Q27 fuel d with hb | hb
  ·exact hb
  ·rw [hb] at hx;cases hx
 obtain rfl:d1=d:=by rw [hb] at hx;cases hx;rfl
 have E0:Hid (Q5y ((decW b dep fuel).num n d1)=thenE (Q2p b n d1) fun p=>if n.has p.1 then .ok ((),putD ⟨1,p.1,[],0,0⟩ p.2) else .error ⟨18,d1.pos⟩):=by
  show thenE (thenE (Q10 fuel d1) _) _=_
  rw [hb]
  simp only [thenE]
  cases Q2p b n d1 with
  | error f=>rfl
  | ok p=>
   cases hq:n.has p.1<;>simp [hq]
 have VA:=Hid.mk (Q69 M1)
 have VN:=Hid.mk (Qh4 n x y z M1)
 obtain ⟨q0,q1,q2,q3,qf⟩:=Q0t (M1.own.hf _ List.mem_cons_self).1
 clear hx hb M1 VB
 go_wp2_with fail
 refine VA.out.mono ?_
 rintro e w2 ⟨rfl,rfl⟩
 go_wp2_with fail
 refine VN.out.mono ?_
 rintro e w3 (⟨v,d3,nsl3,hx,rfl,M3⟩ | ⟨f,hx,hk,g,hg,rfl,hc⟩)
 rotate_left
 ·exact Qa (Or.inr ⟨f,by rw [E0.out,hx];rfl,hk,g,hg,rfl,hc⟩)
 have hnd:d3.nodes.length < 10000:=by rw [(QgF hx).2.2.2.1];omega
 have E1:Hid (Q5y ((decW b dep fuel).num n d1)=if n.has v then .ok ((),putD ⟨1,v,[],0,0⟩ d3) else .error ⟨18,d1.pos⟩):=by show _=_;rw [E0.out,hx];rfl
 obtain ⟨q0,q1,q2,q3,qf⟩:=Q0t (M3.own.hf _ List.mem_cons_self).1
 have VH:=Hid.mk (Q7u hN v (fun p hp=>(M3.own.kp.block _ (Qc (hw p hp)) (by simp)).trans (hw p hp)))
 have M3:=Hid.mk M3
 clear hx VA VN E0 hm
 go_wp2_with fail
 refine VH.out.mono ?_
 rintro e w4 ⟨rfl,hb4⟩
 have M4:=(M3.out.below hb4).tail
 have hk4:Hid (Qb [] w w4):=M4.own.kp
 cases hh:n.has v with
 | true=>
  have E2:Hid (Q5y ((decW b dep fuel).num n d1) = .ok ((),putD ⟨1,v,[],0,0⟩ d3)):=by show _=_;rw [E1.out,if_pos hh]
  have VP:=Hid.mk (Q7v ⟨1,v,[],0,0⟩ hnd M4)
  clear M4 E1 hh VH
  go_wp2_with fail
  refine VP.out.mono ?_
  rintro e w5 ⟨rfl,nsl5,M5⟩
  have M5:=Hid.mk M5
  go_wp2
  go_end0
  exact Or.inl ⟨(),_,nsl5,E2.out,rfl,M5.out⟩
 | false=>
  have E2:Hid (Q5y ((decW b dep fuel).num n d1) = .error ⟨18,d1.pos⟩):=by show _=_;rw [E1.out,if_neg (by rw [hh];simp)]
  clear M4 E1 hh VH
  go_wp2_with (go_at_call 47;refine (QY _ _ _).mono ?_;rintro e w' ⟨rfl,rfl⟩)
  exact Qa (Q0K.throws (f:=⟨18,d1.pos⟩) E2.out hk4.out ((Qb.refl [] _).alloc _) (Nat.le_refl _) (Qg rfl))
theorem Qh6 {w u:World} {D:Nat} {Fr bs:List (Nat×Obj)} {b:List UInt8} {dep fuel size:Nat} {d:DSt} {nsl:Value} (n:Int) (f:Bool) (hn:0≤n) (hn2:n≤4294967295) (hfu:fuel≤10000) (h:Q07 w D Fr bs b dep fuel size d nsl u) :
  Calls Tryz.prog 325 #[.pointer (some ⟨D,0,none⟩),.agg #[.int .i64 n,.bool f]] u (Q0K w D Fr bs b dep fuel size ((decW b dep fuel).list n f d) fun v=>.int .i64 v):=by
 have M0:=h.alloc (.cells #[.int .i64 n,.bool f] 304)
 have VB:=Hid.mk (Q6x M0)
 clear h M0
 go_enter Tryz.func325,Tryz.ntmps325
 go_wp2_with fail
 refine VB.out.mono ?_
 rintro e w1 (⟨_,d1,nsl1,hx,rfl,M1⟩ | ⟨f',hx,hk,g,hg,rfl,hc⟩)
 rotate_left
 ·refine Qa (Or.inr ⟨f',?_,hk,g,hg,rfl,hc⟩)
  rcases Q27 fuel d with ⟨hb,_⟩ | hb
  ·rw [hb] at hx;cases hx
  ·rw [hb] at hx
   cases hx
   show thenE (Q10 fuel d) _=_
   rw [hb]
   rfl
 obtain ⟨hb,hnl⟩:Q10 fuel d = .ok d∧d.nodes.length < fuel:=by
  rcases Q27 fuel d with hb | hb
  ·exact hb
  ·rw [hb] at hx;cases hx
 obtain rfl:d1=d:=by rw [hb] at hx;cases hx;rfl
 have E0:Hid ((decW b dep fuel).list n f d1=thenE (Q2j b n f d1) fun p=>.ok (p.1,putD ⟨3,0,[],p.1,0⟩ p.2)):=by
  show thenE (Q10 fuel d1) _=_
  rw [hb]
  rfl
 obtain ⟨q0,q1,qf,ql⟩:=Q0k (M1.own.hf _ List.mem_cons_self).1
 have VC:=Hid.mk (QcF n f hn hn2 M1.tail)
 clear hx hb M1 VB
 go_wp2_with fail
 refine VC.out.mono ?_
 rintro e w3 (⟨v,d3,nsl3,hx,rfl,M3⟩ | ⟨f',hx,hk,g,hg,rfl,hc⟩)
 rotate_left
 ·exact Qa (Or.inr ⟨f',by rw [E0.out,hx];rfl,hk,g,hg,rfl,hc⟩)
 have hnd:d3.nodes.length < 10000:=by rw [(Q9h hx).2.1];omega
 have E1:Hid ((decW b dep fuel).list n f d1 = .ok (v,putD ⟨3,0,[],v,0⟩ d3)):=by show _=_;rw [E0.out,hx];rfl
 have VP:=Hid.mk (Q7v ⟨3,0,[],v,0⟩ hnd M3)
 clear hx M3 VC E0
 go_wp2_with fail
 refine VP.out.mono ?_
 rintro e w5 ⟨rfl,nsl5,M5⟩
 have M5:=Hid.mk M5
 go_wp2
 go_ret
 exact Or.inl ⟨v,_,nsl5,E1.out,rfl,M5.out⟩
theorem QdJ {b:List UInt8} {n:Int} {f:Bool} {d d':DSt} {v:Nat} (hn:0≤n) (hn2:n≤4294967295) (h:Q2j b n f d = .ok (v,d')):v≤4294967295:=by
 obtain ⟨_,_,_,h4⟩:=Q9h h
 cases f with
 | true=>simp only [if_true] at h4;omega
 | false=>
  simp only [Bool.false_eq_true,if_false] at h4
  have:=Q4l h4.2
  omega
theorem Qh7 {w u:World} {D:Nat} {Fr bs:List (Nat×Obj)} {b:List UInt8} {dep fuel size:Nat} {d:DSt} {nsl:Value} (n:Int) (f:Bool) (hn:0≤n) (hn2:n≤4294967295) (hfu:fuel≤10000) (h:Q07 w D Fr bs b dep fuel size d nsl u) :
  Calls Tryz.prog 327 #[.pointer (some ⟨D,0,none⟩),.agg #[.int .i64 n,.bool f]] u (Q0K w D Fr bs b dep fuel size (Q5y ((decW b dep fuel).text n f d)) fun _=>.tuple #[]):=by
 have M0:=h.alloc (.cells #[.int .i64 n,.bool f] 304)
 have VB:=Hid.mk (Q6x M0)
 clear h M0
 go_enter Tryz.func327,Tryz.ntmps327
 go_wp2_with fail
 refine VB.out.mono ?_
 rintro e w1 (⟨_,d1,nsl1,hx,rfl,M1⟩ | ⟨f',hx,hk,g,hg,rfl,hc⟩)
 rotate_left
 ·refine Qa (Or.inr ⟨f',?_,hk,g,hg,rfl,hc⟩)
  rcases Q27 fuel d with ⟨hb,_⟩ | hb
  ·rw [hb] at hx;cases hx
  ·rw [hb] at hx
   cases hx
   show thenE (thenE (Q10 fuel d) _) _=_
   rw [hb]
   rfl
 obtain ⟨hb,hnl⟩:Q10 fuel d = .ok d∧d.nodes.length < fuel:=by
  rcases Q27 fuel d with hb | hb
  ·exact hb
  ·rw [hb] at hx;cases hx
 obtain rfl:d1=d:=by rw [hb] at hx;cases hx;rfl
 have E0:Hid (Q5y ((decW b dep fuel).text n f d1)=thenE (Q2j b n f d1) fun p=>thenE (Q0U b p.1 p.2) fun q=>.ok ((),putD ⟨2,0,q.1,0,p.2.pos⟩ q.2)):=by
  show thenE (thenE (Q10 fuel d1) _) _=_
  rw [hb]
  simp only [thenE]
  cases Q2j b n f d1 with
  | error f=>rfl
  | ok p=>
   simp only
   cases Q0U b p.1 p.2<;>rfl
 obtain ⟨q0,q1,qf,ql⟩:=Q0k (M1.own.hf _ List.mem_cons_self).1
 have VC:=Hid.mk (QcF n f hn hn2 M1.tail)
 clear hx hb M1 VB
 go_wp2_with fail
 refine VC.out.mono ?_
 rintro e w3 (⟨v,d3,nsl3,hx,rfl,M3⟩ | ⟨f',hx,hk,g,hg,rfl,hc⟩)
 rotate_left
 ·exact Qa (Or.inr ⟨f',by rw [E0.out,hx];rfl,hk,g,hg,rfl,hc⟩)
 have hnd:d3.nodes=d1.nodes:=(Q9h hx).2.1
 have hvs:=QdJ hn hn2 hx
 have E1:Hid (Q5y ((decW b dep fuel).text n f d1)=thenE (Q0U b v d3) fun q=>.ok ((),putD ⟨2,0,q.1,0,d3.pos⟩ q.2)):=by show _=_;rw [E0.out,hx];rfl
 have VA:=Hid.mk (Q69 M3)
 have VP:=Hid.mk (Qh5 v hvs M3)
 clear hx M3 VC E0
 go_wp2_with fail
 refine VA.out.mono ?_
 rintro e w4 ⟨rfl,rfl⟩
 go_wp2_with fail
 refine VP.out.mono ?_
 rintro e w5 (⟨l,d5,nsl5,hx,rfl,M5⟩ | ⟨f',hx,hk,g,hg,rfl,hc⟩)
 rotate_left
 ·exact Qa (Or.inr ⟨f',by rw [E1.out,hx];rfl,hk,g,hg,rfl,hc⟩)
 have hnd5:d5.nodes.length < 10000:=by rw [(QgG hx).2.2.2.1,hnd];omega
 have E2:Hid (Q5y ((decW b dep fuel).text n f d1) = .ok ((),putD ⟨2,0,l,0,d3.pos⟩ d5)):=by show _=_;rw [E1.out,hx];rfl
 have VU:=Hid.mk (Q7v ⟨2,0,l,0,d3.pos⟩ hnd5 M5)
 clear hx M5 VA VP E1
 go_wp2_with fail
 refine VU.out.mono ?_
 rintro e w6 ⟨rfl,nsl6,M6⟩
 have M6:=Hid.mk M6
 go_wp2
 go_end0
 exact Or.inl ⟨(),_,nsl6,E2.out,rfl,M6.out⟩
def Q6a:Qj→Prop
 | .choice _ ws _=>(ws.map (·.1)).Nodup
 | _=>True
def QR (s:CSt):Prop:=∀ x∈s.code,Q6a x
theorem QR.put {s:CSt} (h:QR s) {x:Qj} (hx:Q6a x):QR (putM x s):=by
 intro y hy
 simp only [putM,List.mem_append,List.mem_singleton] at hy
 rcases hy with hy | rfl
 ·exact h y hy
 ·exact hx
theorem QR.set {s:CSt} (h:QR s) {i:Nat} {x:Qj} (hx:Q6a x):QR (setM i x s):=by
 intro y hy
 rcases List.mem_or_eq_of_mem_set hy with hy | rfl
 ·exact h y hy
 ·exact hx
theorem QR.call {s:CSt} (h:QR s) (n:List UInt8):QR (Q2m n s):=by
 intro y hy
 simp only [Q2m,List.mem_append,List.mem_singleton] at hy
 rcases hy with hy | rfl
 ·exact h y hy
 ·trivial
theorem QR.value (t:Ty):∀ {s:CSt},QR s→QR (QL t s):=by
 induction t with
 | named n a=>intro s h;exact h.call n
 | plain k=>intro s h;exact h.put (by trivial)
 | opaq n f=>intro s h;exact h.put (by trivial)
 | str n f=>intro s h;exact h.put (by trivial)
 | void=>intro s h;exact h
 | arr o n f ih=>intro s h;exact ((ih (h.put (by trivial))).put (by trivial)).set (by trivial)
 | opt o ih=>intro s h;exact (ih (h.put (by trivial))).set (by simp [Q6a])
theorem QR.all (ts:List Ty):∀ {s:CSt},QR s→QR (ts.foldl (fun s t=>QL t s) s):=by
 induction ts with
 | nil=>intro s h;exact h
 | cons t ts ih=>intro s h;exact ih (h.value t)
theorem Qfh (v:Nat×Nat):∀ (l:List Int) {ws:List (Int×Nat×Nat)},(ws.map (·.1)).Nodup→((l.foldl (fun l n=>mput l n v) ws).map (·.1)).Nodup:=by
 intro l
 induction l with
 | nil=>intro ws h;exact h
 | cons k l ih=>intro ws h;exact ih (Q2x h _ _)
theorem QR.arms:∀ (arms:List (List Int×Qq)) {q:USt},QR q.s→(q.ways.map (·.1)).Nodup→QR (arms.foldl uArm q).s∧((arms.foldl uArm q).ways.map (·.1)).Nodup:=by
 intro arms
 induction arms with
 | nil=>intro q h1 h2;exact ⟨h1,h2⟩
 | cons x arms ih=>intro q h1 h2;exact ih (QR.put (QR.value _ h1) (by trivial)) (Qfh _ _ h2)
theorem QR.ends:∀ (l:List Nat) {s:CSt},QR s→QR (Q1Q l s):=by
 intro l
 induction l with
 | nil=>intro s h;exact h
 | cons i l ih=>intro s h;exact ih (h.set (by trivial))
theorem QR.def {s:CSt} (d:DefL) (h:QR s):QR (QH d s):=by
 cases d with
 | const t p v=>exact h
 | prog t p vs k=>exact h
 | typedef d=>exact QR.put (h.value d.ty) (by trivial)
 | enum t p ms=>
  have h1:QR { s with enums:=mput s.enums t (Q0p ms) }:=h
  exact QR.put (h1.put (by trivial)) (by trivial)
 | struct t p ms=>
  have e:=QR.all (ms.map (·.ty)) (h.put (x:=.struct ms.length true) (by trivial))
  rw [List.foldl_map] at e
  exact QR.put (s:=Q1I ms s) e (by trivial)
 | union t p sel arms=>
  obtain ⟨h1,h2⟩:=QR.arms arms (q:=⟨putM .hole s,[],none,[]⟩) (h.put (by trivial)) (by simp)
  exact QR.put (s:=Q40 sel arms s) (QR.ends _ (h1.set h2)) (by trivial)
theorem QcG (ds:List DefL):∀ x∈(Q09 ds).1,Q6a x:=by
 have h1:∀ (l:List DefL) {s:CSt},QR s→QR (l.foldl (fun s d=>QH d s) s):=by
  intro l
  induction l with
  | nil=>intro s h;exact h
  | cons d l ih=>intro s h;exact ih (h.def d)
 have h2:∀ (l:List DefL) {p:CSt×List (List UInt8×Nat)},QR p.1→QR (l.foldl QD p).1:=by
  intro l
  induction l with
  | nil=>intro p h;exact h
  | cons d l ih=>
   intro p h
   refine ih ?_
   unfold QD
   split
   ·exact QR.put (h.call _) (by trivial)
   ·exact h
 have h3:∀ (l:List (Nat×List UInt8)) {s:CSt},QR s→QR (lnk s l):=by
  intro l
  induction l with
  | nil=>intro s h;exact h
  | cons k l ih=>intro s h;exact ih (h.set (by trivial))
 have h4:∀ (t:Ty) {s:CSt},QR s→QR (startT t s):=fun t s h=>QR.put (h.value t) (by trivial)
 have h5:∀ (l:List Q1Y) {q:CSt×List (Int×Nat×Nat)},QR q.1→QR (l.foldl Q0Q q).1:=by
  intro l
  induction l with
  | nil=>intro q h;exact h
  | cons p l ih=>intro q h;exact ih (h4 p.res (h4 p.arg h))
 have h6:∀ (l:List Q0d) {q:CSt×PrgL},QR q.1→QR (l.foldl Q1E q).1:=by
  intro l
  induction l with
  | nil=>intro q h;exact h
  | cons v l ih=>intro q h;exact ih (h5 v.procs (q:=(q.1,[])) h)
 have h7:∀ (l:List DefL) {q:CSt×List (Int×PrgL)},QR q.1→QR (l.foldl Q08 q).1:=by
  intro l
  induction l with
  | nil=>intro q h;exact h
  | cons d l ih=>
   intro q h
   refine ih ?_
   cases d with
   | prog t a vs num=>exact h6 vs (q:=(q.1,_)) h
   | _=>exact h
 exact h3 _ (h7 ds (q:=((ds.foldl QD (ds.foldl (fun s d=>QH d s) st0C,[])).1,[])) (h2 ds (p:=(ds.foldl (fun s d=>QH d s) st0C,[])) (h1 ds (by intro x hx;cases hx))))
def wayV (n:NumL) (ws:List (Int×Nat×Nat)) (o:Option (Nat×Nat)) (k:Int):Value:=match wayL n ws o k with
 | some q=>.agg #[.int .i64 q.1,.int .i64 q.2]
 | none=>.agg #[.int .i64 0,.int .i64 0]
theorem Qh8 {W:World} {m:Nat} {l:List (Int×Nat×Nat)} (hb:W.heap[m]? = some (Q0O l)) (nd:(l.map (·.1)).Nodup) (k:Int) :
  (Instr.lookup 318 (.map (some m)) (.int .i64 k) true).run Tryz.prog W = .ok (match Qy l k with
   | some q=>.tuple #[.agg #[.int .i64 q.1,.int .i64 q.2],.bool true]
   | none=>.tuple #[.agg #[.int .i64 0,.int .i64 0],.bool false]) W:=by
 have hh:=Q2H (P:=Tryz.prog) (T:=318) (kt:=2) (et:=323) (d:=.int .i64) (by kernel_rfl) (by kernel_rfl) (fun k:Int=>.int .i64 k) (fun q:Nat×Nat=>.agg #[.int .i64 q.1,.int .i64 q.2]) (fun _=>rfl) Qe2 hb nd (z:=.agg #[.int .i64 0,.int .i64 0]) (by kernel_rfl) k true
 cases hm:Qy l k with
 | none=>rw [hm] at hh;exact hh
 | some v=>rw [hm] at hh;exact hh
theorem Q4I {b:Nat} {k t k' t':Value} {T:TypeId} {fr:Nat×Nat} {w:World} (h:w.heap[b]? = some (.cells #[k,t] T fr)):((w.setCell ⟨b,0,none⟩ k').setCell ⟨b,1,none⟩ t').heap[b]? = some (.cells #[k',t'] T fr):=by
 have h1:=Qn (i:=0) h k'
 exact Qn (i:=1) h1 t'
theorem Qe6 {bs:List (Nat×Obj)} {cs:List Value} {n:NumL} {m:Nat} {ws:List (Int×Nat×Nat)} {ov:Value} {o:Option (Nat×Nat)} (hN:Q16 bs cs n) (hm:(m,Q0O ws)∈bs) (ho:Q2M bs ov o) (nd:(ws.map (·.1)).Nodup) (k:Int) {w:World} (hw:∀ p∈bs,w.heap[p.1]? = some p.2) :
  Calls Tryz.prog 314 #[.agg (cs++[.map (some m),ov]).toArray,.int .i64 k] w fun e w'=>e = .returned (.tuple #[wayV n ws o k,.bool (wayL n ws o k).isSome])∧Below w.heap.size w w':=by
 obtain ⟨mm,rfl,hmem,x,y,z,rfl⟩:=id hN
 obtain ⟨pa,rfl⟩:∃ pa,ov = .pointer pa:=by
  cases o with
  | none=>exact ⟨_,ho⟩
  | some q=>obtain ⟨b,h1,_⟩:=ho;exact ⟨_,h1⟩
 have hb2:∀ o1 o2,Below w.heap.size w ((w.alloc o1).alloc o2):=fun o1 o2=>((Below.refl _ _).alloc (Nat.le_refl _) _).alloc (by simp) _
 have VH:=Hid.mk (fun o1 o2=>Q7u hN k (w:=(w.alloc o1).alloc o2) (fun p hp=>((hb2 o1 o2).block _ (Qc (hw p hp))).trans (hw p hp)))
 go_enter Tryz.func314,Tryz.ntmps314
 go_wp2_with fail
 refine (VH.out _ _).mono ?_
 rintro e w1 ⟨rfl,hbw⟩
 have oB1:w1.heap[w.heap.size]? = some (.cells #[.int .i64 n.low,.int .i64 n.high,.slice x y z,.bool n.wide,.map (some m),.pointer pa] 321):=(hbw.block _ (by simp;omega)).trans ((Below.heap_alloc _ _ _ (by simp)).trans (Qg rfl))
 have oR1:w1.heap[w.heap.size + 1]? = some (.cells #[.int .i64 0,.int .i64 0] 323):=(hbw.block _ (by simp)).trans (Qg (by simp))
 have hbW:Below w.heap.size w w1:=(hb2 _ _).trans (hbw.mono (by simp;omega))
 have hmW:w1.heap[m]? = some (Q0O ws):=(hbW.block _ (Qc (hw _ hm))).trans (hw _ hm)
 have hlk:=Qh8 hmW nd k
 have hsz1:=hbW.size
 have lR:=Qc oR1
 have HO:=Hid.mk ho
 have HW:=Hid.mk hw
 clear hbw hmem ho hw
 cases hh:n.has k with
 | false=>
  have E1:Hid (wayV n ws o k = .agg #[.int .i64 0,.int .i64 0]):=by show _=_;simp [wayV,wayL,hh]
  have E2:Hid ((wayL n ws o k).isSome=false):=by show _=_;simp [wayL,hh]
  have HBF:Hid (∀ a c,Below w.heap.size w ((w1.setCell ⟨w.heap.size + 1,0,none⟩ a).setCell ⟨w.heap.size + 1,1,none⟩ c)):=fun a c=>(hbW.setCell (p:=⟨w.heap.size + 1,0,none⟩) (by simp) a).setCell (p:=⟨w.heap.size + 1,1,none⟩) (by simp) c
  obtain ⟨r0,r1,rf,rl⟩:=Q0k oR1
  obtain ⟨z0,z1,_,_⟩:=Q0k (Q4I (k':=.int .i64 0) (t':=.int .i64 0) oR1)
  clear hbW hlk
  go_wp2
  exact bodyPost_ret (v:=.tuple #[.agg #[.int .i64 0,.int .i64 0],.bool false]) (by simp [results,Tryz.results314,go_sem,z0,z1]) rfl ⟨by rw [E1.out,E2.out],HBF.out _ _⟩
 | true=>
  obtain ⟨b0,b1,b2,b3,b4,b5,bf,bl⟩:=Q0j oB1
  cases hl:Qy ws k with
  | some q=>
   rw [hl] at hlk
   have E1:Hid (wayV n ws o k = .agg #[.int .i64 q.1,.int .i64 q.2]):=by show _=_;simp [wayV,wayL,hh,hl]
   have E2:Hid ((wayL n ws o k).isSome=true):=by show _=_;simp [wayL,hh,hl]
   have oR:∀ (k' t':Value) ob,(((w1.setCell ⟨w.heap.size + 1,0,none⟩ k').setCell ⟨w.heap.size + 1,1,none⟩ t').alloc ob).heap[w.heap.size + 1]? = some (.cells #[k',t'] 323):=fun k' t' ob=>(Below.heap_alloc _ _ _ (Qc (Q4I oR1))).trans (Q4I oR1)
   have HBF:Hid (∀ ob a c,Below w.heap.size w (((w1.setCell ⟨w.heap.size + 1,0,none⟩ a).setCell ⟨w.heap.size + 1,1,none⟩ c).alloc ob)):=fun ob a c=>((hbW.setCell (p:=⟨w.heap.size + 1,0,none⟩) (by simp) a).setCell (p:=⟨w.heap.size + 1,1,none⟩) (by simp) c).alloc (by simp [World.setCell];omega) ob
   obtain ⟨r0,r1,rf,rl⟩:=Q0k oR1
   have zz:=fun ob=>Q0k (oR (.int .i64 (q.1:Int)) (.int .i64 (q.2:Int)) ob)
   have z0:=fun ob=>(zz ob).1
   have z1:=fun ob=>(zz ob).2.1
   clear hbW zz oR hh hl
   go_wp2
   exact bodyPost_ret (v:=.tuple #[.agg #[.int .i64 q.1,.int .i64 q.2],.bool true]) (by simp [results,Tryz.results314,go_sem,z0,z1]) rfl ⟨by rw [E1.out,E2.out],HBF.out _ _ _⟩
  | none=>
   rw [hl] at hlk
   have oR:∀ (k' t':Value) ob,(((w1.setCell ⟨w.heap.size + 1,0,none⟩ k').setCell ⟨w.heap.size + 1,1,none⟩ t').alloc ob).heap[w.heap.size + 1]? = some (.cells #[k',t'] 323):=fun k' t' ob=>(Below.heap_alloc _ _ _ (Qc (Q4I oR1))).trans (Q4I oR1)
   have HBF:Hid (∀ ob a c,Below w.heap.size w (((w1.setCell ⟨w.heap.size + 1,0,none⟩ a).setCell ⟨w.heap.size + 1,1,none⟩ c).alloc ob)):=fun ob a c=>((hbW.setCell (p:=⟨w.heap.size + 1,0,none⟩) (by simp) a).setCell (p:=⟨w.heap.size + 1,1,none⟩) (by simp) c).alloc (by simp [World.setCell];omega) ob
   obtain ⟨r0,r1,rf,rl⟩:=Q0k oR1
   cases o with
   | some q=>
    obtain ⟨b9,e9,h9⟩:=HO.out
    cases e9
    have h9':w1.heap[b9]? = some (.cells #[.int .i64 q.1,.int .i64 q.2] 323):=(hbW.block _ (Qc (HW.out _ h9))).trans (HW.out _ h9)
    obtain ⟨p0,p1,pf,pl⟩:=Q0k h9'
    have E1:Hid (wayV n ws (some q) k = .agg #[.int .i64 q.1,.int .i64 q.2]):=by show _=_;simp [wayV,wayL,hh,hl]
    have E2:Hid ((wayL n ws (some q) k).isSome=true):=by show _=_;simp [wayL,hh,hl]
    have zz:=fun ob=>Q0k (oR (.int .i64 (q.1:Int)) (.int .i64 (q.2:Int)) ob)
    have z0:=fun ob=>(zz ob).1
    have z1:=fun ob=>(zz ob).2.1
    clear hbW zz oR hh hl
    go_wp2
    exact bodyPost_ret (v:=.tuple #[.agg #[.int .i64 q.1,.int .i64 q.2],.bool true]) (by simp [results,Tryz.results314,go_sem,z0,z1]) rfl ⟨by rw [E1.out,E2.out],HBF.out _ _ _⟩
   | none=>
    have e9:Value.pointer pa = .pointer none:=HO.out
    cases e9
    have E1:Hid (wayV n ws none k = .agg #[.int .i64 0,.int .i64 0]):=by show _=_;simp [wayV,wayL,hh,hl]
    have E2:Hid ((wayL n ws none k).isSome=false):=by show _=_;simp [wayL,hh,hl]
    have zz:=fun ob=>Q0k (oR (.int .i64 0) (.int .i64 0) ob)
    have z0:=fun ob=>(zz ob).1
    have z1:=fun ob=>(zz ob).2.1
    clear hbW zz oR hh hl
    go_wp2
    exact bodyPost_ret (v:=.tuple #[.agg #[.int .i64 0,.int .i64 0],.bool false]) (by simp [results,Tryz.results314,go_sem,z0,z1]) rfl ⟨by rw [E1.out,E2.out],HBF.out _ _ _⟩
theorem Q07.setFr {w u:World} {D:Nat} {Fr bs:List (Nat×Obj)} {b:List UInt8} {dep fuel size:Nat} {d:DSt} {nsl:Value} {m:Nat} {o o':Obj} {u':World} (h:Q07 w D ((m,o) :: Fr) bs b dep fuel size d nsl u) (hk:Qb [m] u u') (ho:u'.heap[m]? = some o'):Q07 w D ((m,o') :: Fr) bs b dep fuel size d nsl u':=
 h.beside hk (by simpa using (h.own.hf (m,o) (by simp)).2) (h.own.setFr hk ho)
theorem Qiy {w u:World} {D:Nat} {Fr bs:List (Nat×Obj)} {b:List UInt8} {dep fuel size:Nat} {d:DSt} {nsl:Value} {bsN:List (Nat×Obj)} {cs:List Value} {n:NumL} {m:Nat} {ws:List (Int×Nat×Nat)} {ov:Value} {o:Option (Nat×Nat)} (hN:Q16 bsN cs n) (hm:(m,Q0O ws)∈bsN) (ho:Q2M bsN ov o) (nd:(ws.map (·.1)).Nodup) (hw:∀ p∈bsN,w.heap[p.1]? = some p.2) (hfu:fuel≤10000) (h:Q07 w D Fr bs b dep fuel size d nsl u) :
  Calls Tryz.prog 323 #[.pointer (some ⟨D,0,none⟩),.agg (cs++[.map (some m),ov]).toArray] u (Q0K w D Fr bs b dep fuel size ((decW b dep fuel).arm n (fun k=>(wayL n ws o k).map (·.2)) d) (wayV n ws o)):=by
 obtain ⟨mm,rfl,hmem,x,y,z,rfl⟩:=id hN
 obtain ⟨pa,rfl⟩:∃ pa,ov = .pointer pa:=by
  cases o with
  | none=>exact ⟨_,ho⟩
  | some q=>obtain ⟨b,h1,_⟩:=ho;exact ⟨_,h1⟩
 have M0:=(h.alloc (.cells #[.int .i64 n.low,.int .i64 n.high,.slice x y z,.bool n.wide,.map (some m),.pointer pa] 321)).alloc (.cells #[.int .i64 0,.int .i64 0] 323)
 have hsz:(u.alloc (.cells #[.int .i64 n.low,.int .i64 n.high,.slice x y z,.bool n.wide,.map (some m),.pointer pa] 321)).heap.size=u.heap.size + 1:=by simp
 rw [hsz] at M0
 have VB:=Hid.mk (Q6x M0)
 clear h M0
 go_enter Tryz.func323,Tryz.ntmps323
 go_wp2_with fail
 refine VB.out.mono ?_
 rintro e w1 (⟨_,d1,nsl1,hx,rfl,M1⟩ | ⟨f',hx,hk,g,hg,rfl,hc⟩)
 rotate_left
 ·refine Qa (Or.inr ⟨f',?_,hk,g,hg,rfl,hc⟩)
  rcases Q27 fuel d with ⟨hb,_⟩ | hb
  ·rw [hb] at hx;cases hx
  ·rw [hb] at hx
   cases hx
   show thenE (Q10 fuel d) _=_
   rw [hb]
   rfl
 obtain ⟨hb,hnl⟩:Q10 fuel d = .ok d∧d.nodes.length < fuel:=by
  rcases Q27 fuel d with hb | hb
  ·exact hb
  ·rw [hb] at hx;cases hx
 obtain rfl:d1=d:=by rw [hb] at hx;cases hx;rfl
 have E0:Hid ((decW b dep fuel).arm n (fun k=>(wayL n ws o k).map (·.2)) d1=thenE (Q1r b d1) fun p=>match (wayL n ws o (Q0Z n p.1)).map (·.2) with | none=>.error ⟨18,d1.pos⟩ | some k=>.ok (Q0Z n p.1,putD ⟨4,Q0Z n p.1,[],k,0⟩ p.2)):=by
  show thenE (Q10 fuel d1) _=_
  rw [hb]
  rfl
 have VA:=Hid.mk (Q69 M1)
 have VW:=Hid.mk (Q9o (M1.below (Below.refl _ _).drew))
 obtain ⟨q0,q1,q2,q3,q4,q5,qf,ql⟩:=Q0j (M1.own.hf _ (List.mem_cons_of_mem _ List.mem_cons_self)).1
 clear hx hb M1 VB
 go_wp2_with fail
 refine VA.out.mono ?_
 rintro e w2 ⟨rfl,rfl⟩
 go_wp2_with fail
 refine Qu (fun w'=>w'.cell? ⟨u.heap.size,0,none⟩=some (.int .i64 n.low)∧w'.cell? ⟨u.heap.size,1,none⟩=some (.int .i64 n.high)∧w'.cell? ⟨u.heap.size,2,none⟩=some (.slice x y z)∧w'.cell? ⟨u.heap.size,3,none⟩=some (.bool n.wide)) (L:=7) (by kernel_rfl) rfl (by kernel_rfl) (by kernel_rfl) ?_ (fun hHeld=>?_)
 ·go_keep
 refine tk (i:=0) (v:=?_) rfl (by kernel_rfl) (fun _ _ _ h=>h) (by rfl) (by assumption) ?_ ?_
 rotate_left
 ·intro w hSw;(try dsimp only at hSw);go_simp;(try with_reducible rfl)
 (try simp only [Qd,Qe,List.set])
 refine tk (i:=1) (v:=?_) rfl (by kernel_rfl) (fun _ _ _ h=>h) (by rfl) (by assumption) ?_ ?_
 rotate_left
 ·intro w hSw;(try dsimp only at hSw);go_simp;(try with_reducible rfl)
 (try simp only [Qd,Qe,List.set])
 refine tk (i:=2) (v:=?_) rfl (by kernel_rfl) (fun _ _ _ h=>h) (by rfl) (by assumption) ?_ ?_
 rotate_left
 ·intro w hSw;(try dsimp only at hSw);go_simp;(try with_reducible rfl)
 (try simp only [Qd,Qe,List.set])
 refine tk (i:=3) (v:=?_) rfl (by kernel_rfl) (fun _ _ _ h=>h) (by rfl) (by assumption) ?_ ?_
 rotate_left
 ·intro w hSw;(try dsimp only at hSw);go_simp;(try with_reducible rfl)
 (try simp only [Qd,Qe,List.set])
 refine tk (i:=4) (v:=?_) rfl (by kernel_rfl) (fun _ _ _ h=>h) (by rfl) (by assumption) ?_ ?_
 rotate_left
 ·intro w hSw;(try dsimp only at hSw);go_simp;(try with_reducible rfl)
 (try simp only [Qd,Qe,List.set])
 refine wpAnyH_ready (rs:=[5]) (by kernel_rfl) (by simp) ?_
 refine AllReadyH.cons rfl (fun K hK=>?_) AllReadyH.nil
 (go_simp;go_at_call 76;refine VW.out.mono ?_;rintro e w3 (⟨v,d3,nsl3,hx,rfl,M3⟩ | ⟨f,hx,hk,g,hg,rfl,hc⟩);rotate_left;exact Qa (Or.inr ⟨f,by rw [E0.out,hx];rfl,hk,g,hg,rfl,hc⟩);obtain ⟨r0,r1,r2,r3,r4,r5,rf,rl⟩:=Q0j (M3.own.hf _ (List.mem_cons_of_mem _ List.mem_cons_self)).1;have hv:v < 4294967296:=(by rw [(Q3N hx).1];exact Q4l (Q3N hx).2.1);have hnd:d3.nodes.length < 10000:=(by rw [(Q3N hx).2.2.2.1];omega);have E1:Hid ((decW b dep fuel).arm n (fun k=>(wayL n ws o k).map (·.2)) d1=match (wayL n ws o (Q0Z n v)).map (·.2) with | none=>.error ⟨18,d1.pos⟩ | some k=>.ok (Q0Z n v,putD ⟨4,Q0Z n v,[],k,0⟩ d3)):=(by show _=_;rw [E0.out,hx];rfl);have M3:=Hid.mk M3;clear hx)
 refine hK.out _ _ ?_ (fun hHeld=>?_)
 ·go_keep
 clear hK K
 (try simp only [Qd,Qe,List.set])
 refine wpAnyH_ready (rs:=[6]) (by kernel_rfl) (by simp) ?_
 refine AllReadyH.cons rfl (fun K hK=>?_) AllReadyH.nil
 (go_simp;go_at_call 328;refine (Qh0 n x y z v hv w3).mono ?_;rintro e w4 ⟨rfl,hb4⟩;have M4:=M3.out.below hb4;obtain ⟨s0,s1,s2,s3,s4,s5,sf,sl⟩:=Q0j (M4.own.hf _ (List.mem_cons_of_mem _ List.mem_cons_self)).1;have M4:=Hid.mk M4;clear hb4)
 refine hK.out _ _ ?_ (fun hHeld=>?_)
 ·go_keep
 clear hK K
 (try simp only [Qd,Qe,List.set])
 refine wpAnyH_done (by kernel_rfl) ?_ _
 refine QB rfl (fun K hK=>?_)
 go_simp
 refine hK.out _ _ ?_
 clear hK K
 (try simp only [Qd,Qe,List.set])
 have VY:=Hid.mk (Qe6 hN hm ho nd (Q0Z n v) (fun p hp=>(M4.out.own.kp.block _ (Qc (hw p hp)) (by simp)).trans (hw p hp)))
 clear VA VW E0
 go_wp2_with fail
 refine VY.out.mono ?_
 rintro e w5 ⟨rfl,hb5⟩
 have M5:=M4.out.below hb5
 have hk5:Hid (Qb [] w w5):=M5.own.kp
 cases hwl:wayL n ws o (Q0Z n v) with
 | none=>
  have EV:wayV n ws o (Q0Z n v) = .agg #[.int .i64 0,.int .i64 0]:=by simp [wayV,hwl]
  have E2:Hid ((decW b dep fuel).arm n (fun k=>(wayL n ws o k).map (·.2)) d1 = .error ⟨18,d1.pos⟩):=by show _=_;rw [E1.out,hwl];rfl
  rw [EV]
  simp only [Option.isSome_none]
  clear M5 E1 EV VY hwl
  go_wp2_with (go_at_call 47;refine (QY _ _ _).mono ?_;rintro e w' ⟨rfl,rfl⟩)
  exact Qa (Q0K.throws (u:=w5) (f:=⟨18,d1.pos⟩) E2.out hk5.out (((Qb.refl [] _).alloc _).alloc _) (by simp) (Qg (by simp)))
 | some q=>
  have EV:wayV n ws o (Q0Z n v) = .agg #[.int .i64 q.1,.int .i64 q.2]:=by simp [wayV,hwl]
  have E2:Hid ((decW b dep fuel).arm n (fun k=>(wayL n ws o k).map (·.2)) d1 = .ok (Q0Z n v,putD ⟨4,Q0Z n v,[],q.2,0⟩ d3)):=by show _=_;rw [E1.out,hwl];rfl
  have HEV:=Hid.mk EV
  rw [EV]
  simp only [Option.isSome_some]
  have M6:=M5.alloc (.cells #[.int .i64 q.1,.int .i64 q.2] 323)
  have VP:=Hid.mk (Q7v ⟨4,Q0Z n v,[],q.2,0⟩ hnd M6)
  clear M5 M6 E1 EV VY hwl
  go_wp2_with fail
  refine VP.out.mono ?_
  rintro e w7 ⟨rfl,nsl7,M7⟩
  obtain ⟨t0,t1,tf,tl⟩:=Q0k (M7.own.hf _ List.mem_cons_self).1
  have oR:=(M7.own.hf _ (List.mem_cons_of_mem _ List.mem_cons_self)).1
  obtain ⟨p0,p1,pf,pl⟩:=Q0k oR
  have z:=Q4I (k':=.int .i64 (q.1:Int)) (t':=.int .i64 (q.2:Int)) oR
  obtain ⟨z0,z1,_,_⟩:=Q0k z
  have M8:=Hid.mk (M7.tail.setFr (((Qb.refl [u.heap.size + 1] w7).setIn (p:=⟨u.heap.size + 1,0,none⟩) (by simp) (.int .i64 (q.1:Int))).setIn (p:=⟨u.heap.size + 1,1,none⟩) (by simp) (.int .i64 (q.2:Int))) z).tail.tail
  clear M7 oR z VP
  go_wp2
  exact bodyPost_ret (v:=.agg #[.int .i64 q.1,.int .i64 q.2]) (by simp [results,Tryz.results323,go_sem,z0,z1]) rfl (Or.inl ⟨Q0Z n v,_,nsl7,E2.out,by rw [HEV.out],M8.out⟩)
def Q4J {τ α:Type} (w:World) (J:List (Nat×Obj)→τ→World→Prop) (Fr:List (Nat×Obj)) (r:Except Mar.Fault (α×τ)) (V:α→Value) (e:Ending) (u':World):Prop:=
 (∃ a d',r = .ok (a,d')∧e = .returned (V a)∧J Fr d' u')∨(∃ f,r = .error f∧Qb [] w u'∧Q0c w f.no f.at' e u')
def Q8y {τ:Type} (r:Except Mar.Fault τ):Except Mar.Fault (Unit×τ):=thenE r fun d=>.ok ((),d)
structure Wkr (τ:Type) (w:World) (bs:List (Nat×Obj)) where
 W:Wk τ
 T:TypeId
 D:Nat
 J:List (Nat×Obj)→τ→World→Prop
 base:∀ {Fr d u},J Fr d u→∃ own bz,Own w own Fr bz u∧∀ {Fr' u' M},Qb M u u'→(∀ m∈M,m ∉ own)→Own w own Fr' bz u'→J Fr' d u'
 fE:Nat
 fN:Nat
 fT:Nat
 fL:Nat
 fA:Nat
 mE : ∀ k (u : World), (method (k + 1) T (.pointer (some ⟨D, 0, none⟩)) "Enter").run Tryz.prog u = .ok (fE, .pointer (some ⟨D, 0, none⟩)) u
 mN : ∀ k (u : World), (method (k + 1) T (.pointer (some ⟨D, 0, none⟩)) "Number").run Tryz.prog u = .ok (fN, .pointer (some ⟨D, 0, none⟩)) u
 mT : ∀ k (u : World), (method (k + 1) T (.pointer (some ⟨D, 0, none⟩)) "Text").run Tryz.prog u = .ok (fT, .pointer (some ⟨D, 0, none⟩)) u
 mL : ∀ k (u : World), (method (k + 1) T (.pointer (some ⟨D, 0, none⟩)) "List").run Tryz.prog u = .ok (fL, .pointer (some ⟨D, 0, none⟩)) u
 mA : ∀ k (u : World), (method (k + 1) T (.pointer (some ⟨D, 0, none⟩)) "Arm").run Tryz.prog u = .ok (fA, .pointer (some ⟨D, 0, none⟩)) u
 eE:∀ (args:Array Value) (u:World),(callFunc fE args).run Tryz.prog u = .ok (.enter fE args) u
 eN:∀ (args:Array Value) (u:World),(callFunc fN args).run Tryz.prog u = .ok (.enter fN args) u
 eT:∀ (args:Array Value) (u:World),(callFunc fT args).run Tryz.prog u = .ok (.enter fT args) u
 eL:∀ (args:Array Value) (u:World),(callFunc fL args).run Tryz.prog u = .ok (.enter fL args) u
 eA:∀ (args:Array Value) (u:World),(callFunc fA args).run Tryz.prog u = .ok (.enter fA args) u
 cE:∀ {Fr d u} (k:Nat),k < 1000→J Fr d u→Calls Tryz.prog fE #[.pointer (some ⟨D,0,none⟩),.int .i64 k] u (Q4J w J Fr (Q8y (W.enter k d)) fun _=>.tuple #[])
 cN:∀ {Fr d u cs n},Q16 bs cs n→J Fr d u→Calls Tryz.prog fN #[.pointer (some ⟨D,0,none⟩),.agg cs.toArray] u (Q4J w J Fr (Q8y (W.num n d)) fun _=>.tuple #[])
 cT:∀ {Fr d u} (n:Int) (f:Bool),0≤n→n≤4294967295→J Fr d u→Calls Tryz.prog fT #[.pointer (some ⟨D,0,none⟩),.agg #[.int .i64 n,.bool f]] u (Q4J w J Fr (Q8y (W.text n f d)) fun _=>.tuple #[])
 cL:∀ {Fr d u} (n:Int) (f:Bool),0≤n→n≤4294967295→J Fr d u→Calls Tryz.prog fL #[.pointer (some ⟨D,0,none⟩),.agg #[.int .i64 n,.bool f]] u (Q4J w J Fr (W.list n f d) fun v=>.int .i64 v)
 cA:∀ {Fr d u cs n m ws ov o},Q16 bs cs n→(m,Q0O ws)∈bs→Q2M bs ov o→(ws.map (·.1)).Nodup→J Fr d u→Calls Tryz.prog fA #[.pointer (some ⟨D,0,none⟩),.agg (cs++[.map (some m),ov]).toArray] u (Q4J w J Fr (W.arm n (fun k=>(wayL n ws o k).map (·.2)) d) (wayV n ws o))
 small:∀ {n f d k d'},0≤n→n≤4294967295→W.list n f d = .ok (k,d')→k≤4294967295
section
variable {τ : Type} {w u u' : World} {bs : List (Nat × Obj)} (K : Wkr τ w bs) {Fr : List (Nat × Obj)} {d : τ}
theorem Wkr.kp (h:K.J Fr d u):Qb [] w u:=by
 obtain ⟨own,bz,ho,_⟩:=K.base h
 exact ho.kp
theorem Wkr.below (h:K.J Fr d u) (hb:Below u.heap.size u u'):K.J Fr d u':=by
 obtain ⟨own,bz,ho,hf⟩:=K.base h
 exact hf (Qb.of_below [] hb) (by simp) (ho.below hb)
theorem Wkr.alloc (h:K.J Fr d u) (o:Obj):K.J ((u.heap.size,o) :: Fr) d (u.alloc o):=by
 obtain ⟨own,bz,ho,hf⟩:=K.base h
 exact hf ((Qb.refl [] u).alloc o) (by simp) (ho.alloc o)
theorem Wkr.perm {Fr':List (Nat×Obj)} (h:K.J Fr d u) (hp:Fr.Perm Fr'):K.J Fr' d u:=by
 obtain ⟨own,bz,ho,hf⟩:=K.base h
 refine hf (Qb.refl [] u) (by simp) (ho.sub (fun q hq=>hp.mem_iff.2 hq) ?_)
 have:=ho.fnd
 rw [(hp.map _).nodup_iff] at this
 exact this
theorem Wkr.sub {Fr':List (Nat×Obj)} (h:K.J Fr d u) (hs:∀ p∈Fr',p∈Fr) (hn:(Fr'.map (·.1)).Nodup):K.J Fr' d u:=by
 obtain ⟨own,bz,ho,hf⟩:=K.base h
 exact hf (Qb.refl [] u) (by simp) (ho.sub hs hn)
theorem Wkr.nodup (h:K.J Fr d u):(Fr.map (·.1)).Nodup:=by
 obtain ⟨own,bz,ho,hf⟩:=K.base h
 exact ho.fnd
theorem Wkr.at (h:K.J Fr d u) {p:Nat×Obj} (hp:p∈Fr):u.heap[p.1]? = some p.2∧w.heap.size≤p.1:=by
 obtain ⟨own,bz,ho,hf⟩:=K.base h
 exact ⟨(ho.hf p hp).1,ho.fnew p hp⟩
theorem Wkr.setFr {m:Nat} {o o':Obj} (h:K.J ((m,o) :: Fr) d u) (hk:Qb [m] u u') (ho':u'.heap[m]? = some o'):K.J ((m,o') :: Fr) d u':=by
 obtain ⟨own,bz,ho,hf⟩:=K.base h
 exact hf hk (by simpa using (ho.hf (m,o) (by simp)).2) (ho.setFr hk ho')
theorem Wkr.turnAt {A B:List (Nat×Obj)} {m:Nat} {o o':Obj} (h:K.J (A++(m,o) :: B) d u) (hk:Qb [m] u u') (ho':u'.heap[m]? = some o'):K.J (A++(m,o') :: B) d u':=
 K.perm (K.setFr (K.perm h List.perm_middle) hk ho') List.perm_middle.symm
end
def Q46 (E:List (Nat×Obj)) (t:TypeId) (sz:Nat) (v:Value) (n:Nat) (xs:List Value):Prop:=
 (E=[]∧v = .slice none 0 0∧n=0∧xs=[])∨∃ g cap cur,E=[(g,.cells cur t)]∧v = .slice (some ⟨g,0,none⟩) n cap∧n≤cap∧cap≤maxLen∧cur.size=cap * sz∧cur.toList.take (n * sz)=xs
section
variable {τ : Type} {w u : World} {bs : List (Nat × Obj)} (K : Wkr τ w bs) {Fr E : List (Nat × Obj)} {d : τ} {t : TypeId} {sz n : Nat} {v : Value} {xs : List Value}
theorem Q46.slice (h:Q46 E t sz v n xs):∃ ad cap,v = .slice ad n cap:=by
 rcases h with ⟨_,rfl,rfl,_⟩ | ⟨g,cap,cur,_,rfl,_⟩
 ·exact ⟨none,0,rfl⟩
 ·exact ⟨_,_,rfl⟩
theorem Q46.owns (h:Q46 E t sz v n xs) (hx:xs.length=n * sz) (hj:K.J (E++Fr) d u):u.ownsRow w.heap.size t sz v n xs:=by
 refine ⟨hx,?_⟩
 rcases h with ⟨_,rfl,rfl,rfl⟩ | ⟨g,cap,cur,rfl,rfl,h1,h2,h3,h4⟩
 ·exact Or.inl ⟨rfl,rfl⟩
 ·obtain ⟨a1,a2⟩:=K.at hj (p:=(g,.cells cur t)) (by simp)
  exact Or.inr ⟨g,cap,cur,rfl,a2,a1,h1,h2,h3,h4⟩
theorem Q46.grow {u2 u3:World} {g cap:Nat} {news:List Value} (h:Q46 E t sz v n xs) (hj:K.J (E++Fr) d u) (hb:Below u.heap.size u u2)
  (hown:u3.ownsRow w.heap.size t sz (.slice (some ⟨g,0,none⟩) (n + 1) cap) (n + 1) (xs++news)) (hg:u2.grownBy u3 v.ownBlock) (hat:v.ownBlock=some g∨g=u2.heap.size) :
  ∃ E',Q46 E' t sz (.slice (some ⟨g,0,none⟩) (n + 1) cap) (n + 1) (xs++news)∧K.J (E'++Fr) d u3:=by
 obtain ⟨hwg,hlt⟩:=Q0z hown (g:=g) rfl
 rcases hown.2 with ⟨h0,_⟩ | ⟨g',cap',cur,e,_,o2,o3,o4,o5,o6⟩
 ·cases h0
 cases e
 have j2:=K.below hj hb
 have hk:=Q05 hg
 refine ⟨[(g,.cells cur t)],Or.inr ⟨g,cap,cur,rfl,rfl,o3,o4,o5,o6⟩,?_⟩
 rcases h with ⟨rfl,rfl,rfl,rfl⟩ | ⟨g0,cap0,cur0,rfl,rfl,h1,h2,h3,h4⟩
 ·simp only [Value.ownBlock] at hat hk
  have hgs:g=u2.heap.size:=by
   rcases hat with h | h
   ·cases h
   ·exact h
  have hk0:Qb [] u2 u3:=hk.mono (by simp)
  obtain ⟨own,bz,ho,hf⟩:=K.base j2
  refine hf hk0 (by simp) ((ho.turn hk0 (by simp)).addFr o2 hwg ?_ ?_ ?_)
  ·intro hm;have:=ho.lt _ hm;omega
  ·intro p hp;have:=Qc (ho.hf p hp).1;omega
  ·intro p hp;have:=Qc (ho.hb p hp).1;omega
 ·simp only [Value.ownBlock,Option.some.injEq,Option.toList_some] at hat hk
  rcases hat with rfl | hgs
  ·exact K.setFr (o:=.cells cur0 t) j2 hk o2
  ·have hn:=K.nodup j2
   simp only [List.cons_append,List.nil_append,List.map_cons,List.nodup_cons] at hn
   obtain ⟨own,bz,ho,hf⟩:=K.base j2
   have hg0:=ho.hf _ List.mem_cons_self
   have t2:=ho.tail
   have o1:Own w own Fr bz u3:=t2.other hk (by
    intro x hx
    simp only [List.mem_singleton] at hx
    subst hx
    refine ⟨ho.fnew _ List.mem_cons_self,hg0.2,?_,?_⟩
    ·intro p hp e
     exact hn.1 (by rw [← e];exact List.mem_map_of_mem hp)
    ·intro p hp e
     exact ho.sep _ List.mem_cons_self p hp e.symm)
   refine hf hk (by simpa using hg0.2) (o1.addFr o2 hwg ?_ ?_ ?_)
   ·intro hm;have:=ho.lt _ hm;omega
   ·intro p hp;have:=Qc (t2.hf p hp).1;omega
   ·intro p hp;have:=Qc (ho.hb p hp).1;omega
theorem Q46.pop {ys zs:List Value} (h:Q46 E t sz v (n + 1) (ys++zs)) (hy:ys.length=n * sz):∃ g cap cur,v = .slice (some ⟨g,0,none⟩) (n + 1) cap∧n + 1≤cap∧E=[(g,.cells cur t)]∧cur.toList.take ((n + 1) * sz)=ys++zs∧Q46 E t sz (.slice (some ⟨g,0,none⟩) n cap) n ys:=by
 rcases h with ⟨_,_,h0,_⟩ | ⟨g,cap,cur,rfl,rfl,h1,h2,h3,h4⟩
 ·omega
 ·refine ⟨g,cap,cur,rfl,h1,rfl,h4,Or.inr ⟨g,cap,cur,rfl,rfl,by omega,h2,h3,?_⟩⟩
  have:cur.toList.take (n * sz)=(cur.toList.take ((n + 1) * sz)).take (n * sz):=by
   rw [List.take_take]
   congr 1
   rw [Nat.add_mul]
   omega
  rw [this,h4,← hy]
  simp
end
abbrev Q2B (p:Nat×Nat):List Value:=[.int .i64 p.1,.int .i64 p.2]
abbrev mObj {τ:Type} {w:World} {bs:List (Nat×Obj)} (K:Wkr τ w bs) (nx:Nat) (csl rsl:Value) (en:Bool):Obj:=.cells #[.iface K.T (.pointer (some ⟨K.D,0,none⟩)),.int .i64 nx,csl,rsl,.bool en] 237
structure McAt {τ:Type} {w:World} {bs:List (Nat×Obj)} (K:Wkr τ w bs) (Fr:List (Nat×Obj)) (M:Nat) (m:MSt) (en:Bool) (d:τ) (Ec Er:List (Nat×Obj)) (csl rsl:Value) (u:World):Prop where
 rc:Q46 Ec 3 1 csl m.calls.length (m.calls.reverse.map Q4B)
 rr:Q46 Er 413 2 rsl m.rounds.length (m.rounds.reverse.flatMap Q2B)
 j:K.J (Ec++(Er++(M,mObj K m.next csl rsl en) :: Fr)) d u
def Mc {τ:Type} {w:World} {bs:List (Nat×Obj)} (K:Wkr τ w bs) (Fr:List (Nat×Obj)) (M:Nat) (m:MSt) (en:Bool) (d:τ) (u:World):Prop:=∃ Ec Er csl rsl,McAt K Fr M m en d Ec Er csl rsl u
theorem Q1S {b:Nat} {c0 c1 c2 c3 c4:Value} {T:TypeId} {w:World} (h:w.heap[b]? = some (.cells #[c0,c1,c2,c3,c4] T)) :
  w.cell? ⟨b,0,none⟩=some c0∧w.cell? ⟨b,1,none⟩=some c1∧w.cell? ⟨b,2,none⟩=some c2∧w.cell? ⟨b,3,none⟩=some c3∧w.cell? ⟨b,4,none⟩=some c4∧(∀ i,w.frozen? ⟨b,i,none⟩=false)∧b < w.heap.size:=by
 refine ⟨?_,?_,?_,?_,?_,?_,Qc h⟩<;>simp [World.cell?,World.frozen?,h]
section
variable {τ : Type} {w u u' : World} {bs : List (Nat × Obj)} {K : Wkr τ w bs} {Fr : List (Nat × Obj)} {M : Nat} {m : MSt} {en : Bool} {d : τ} {Ec Er : List (Nat × Obj)} {csl rsl : Value}
theorem McAt.box (h:McAt K Fr M m en d Ec Er csl rsl u):u.heap[M]? = some (mObj K m.next csl rsl en):=(K.at h.j (p:=(M,mObj K m.next csl rsl en)) (by simp)).1
theorem McAt.cells (h:McAt K Fr M m en d Ec Er csl rsl u):u.cell? ⟨M,0,none⟩=some (.iface K.T (.pointer (some ⟨K.D,0,none⟩)))∧u.cell? ⟨M,1,none⟩=some (.int .i64 m.next)∧u.cell? ⟨M,2,none⟩=some csl∧u.cell? ⟨M,3,none⟩=some rsl∧u.cell? ⟨M,4,none⟩=some (.bool en)∧(∀ i,u.frozen? ⟨M,i,none⟩=false)∧M < u.heap.size:=Q1S h.box
theorem McAt.below (h:McAt K Fr M m en d Ec Er csl rsl u) (hb:Below u.heap.size u u'):McAt K Fr M m en d Ec Er csl rsl u':=⟨h.rc,h.rr,K.below h.j hb⟩
theorem Wkr.turn2 {A A' B:List (Nat×Obj)} {q:Nat} {o o':Obj} (h:K.J (A++(A'++(q,o) :: B)) d u) (hk:Qb [q] u u') (ho':u'.heap[q]? = some o'):K.J (A++(A'++(q,o') :: B)) d u':=by
 have:=K.turnAt (A:=A++A') (by simpa using h) hk ho'
 simpa using this
theorem McAt.goto (h:McAt K Fr M m en d Ec Er csl rsl u) (p:Nat):McAt K Fr M { m with next:=p } en d Ec Er csl rsl (u.setCell ⟨M,1,none⟩ (.int .i64 p)):=
 ⟨h.rc,h.rr,Wkr.turn2 h.j ((Qb.refl [M] u).setIn (p:=⟨M,1,none⟩) (by simp) _) (Qn (i:=1) h.box _)⟩
theorem McAt.ended (h:McAt K Fr M m en d Ec Er csl rsl u) (b:Bool):McAt K Fr M m b d Ec Er csl rsl (u.setCell ⟨M,4,none⟩ (.bool b)):=
 ⟨h.rc,h.rr,Wkr.turn2 h.j ((Qb.refl [M] u).setIn (p:=⟨M,4,none⟩) (by simp) _) (Qn (i:=4) h.box _)⟩
end
theorem QjH {τ:Type} {w u:World} {bs:List (Nat×Obj)} {K:Wkr τ w bs} {Fr:List (Nat×Obj)} {M:Nat} {m:MSt} {en:Bool} {d:τ} (h:Mc K Fr M m en d u) :
  Calls Tryz.prog 275 #[.pointer (some ⟨M,2,none⟩)] u fun e u'=>e = .returned (.int .i64 m.calls.length)∧u'=u:=by
 obtain ⟨Ec,Er,csl,rsl,h⟩:=h
 obtain ⟨ad,cap,rfl⟩:=h.rc.slice
 obtain ⟨c0,c1,c2,c3,c4,cf,cl⟩:=h.cells
 clear h
 go_enter Tryz.func275,Tryz.ntmps275
 go_wp2
 go_ret
 exact ⟨rfl,rfl⟩
theorem Qiz {τ:Type} {w u:World} {bs:List (Nat×Obj)} {K:Wkr τ w bs} {Fr:List (Nat×Obj)} {M:Nat} {m:MSt} {en:Bool} {d:τ} (p:Nat) (hc:m.calls.length < 1000) (h:Mc K Fr M m en d u) :
  Calls Tryz.prog 276 #[.pointer (some ⟨M,2,none⟩),.int .i64 p] u fun e u'=>e = .returned (.tuple #[])∧Mc K Fr M { m with calls:=p :: m.calls } en d u':=by
 obtain ⟨Ec,Er,csl,rsl,h⟩:=h
 obtain ⟨ad,cap,rfl⟩:=h.rc.slice
 obtain ⟨c0,c1,c2,c3,c4,cf,cl⟩:=h.cells
 obtain ⟨i0,hi0,hz0,hz1,hz2⟩:=info_parts Qe5
 have hown:=h.rc.owns K (by simp) h.j
 have hown5:∀ ob,(u.alloc ob).ownsRow w.heap.size 3 1 (.slice ad m.calls.length cap) m.calls.length (m.calls.reverse.map Q4B):=fun ob=>Qk hown ((Qb.refl [] u).alloc ob) (by simp)
 have hwl:w.heap.size≤u.heap.size:=(K.kp h.j).size
 have hl1:m.calls.length + 1≤maxLen:=by unfold maxLen;omega
 have hl2:(m.calls.length + 1) * 8≤140737488355328:=by omega
 have hz3:(Value.int .i64 0).cells.size=1:=rfl
 have H:=Hid.mk h
 clear h hown
 go_enter Tryz.func276,Tryz.ntmps276
 go_wp2_with (first
  | (at_builtin;refine wpList_append_lies _ (by rfl) _ _ _ (by rfl) w.heap.size 3 i0 _ 1 8 Tryz.underlying230 hi0 hz0 hz1 hz2 hz3 (by omega) (.slice ad m.calls.length cap) m.calls.length (m.calls.reverse.map Q4B) (by rfl) (hown5 _) ⟨u.heap.size,0,none⟩ 1 1 [.int .i64 p] (by rfl) (by rfl) (World.news_of_block (cs:=#[.int .i64 p]) (t:=3) (fr:=(0,0)) (heap_alloc_new u _)) (by simp [Value.oneCell']) (by omega) hl1 hl2 (by simp;omega) (u.heap.size + 1) (by simp) ?_;intro g cap' w8 hown8 hgrow hat hlt8;obtain ⟨E8,r8,j8⟩:=H.out.rc.grow K H.out.j ((Below.refl u.heap.size u).alloc (Nat.le_refl _) _) hown8 hgrow (by simpa using hat);have b8:=(K.at j8 (p:=(M,mObj K m.next (.slice ad m.calls.length cap) rsl en)) (by simp)).1;obtain ⟨y0,y1,y2,y3,y4,yf,yl⟩:=Q1S b8;have j9:=Hid.mk (Wkr.turn2 j8 ((Qb.refl [M] w8).setIn (p:=⟨M,2,none⟩) (by simp) (.slice (some ⟨g,0,none⟩) (m.calls.length + 1) cap')) (Qn (i:=2) b8 _));have R8:=Hid.mk r8;clear j8 r8 hown8 hgrow hat hown5 b8))
 go_end0
 refine ⟨rfl,E8,Er,_,rsl,?_,H.out.rr,j9.out⟩
 have:=R8.out
 simpa using this
theorem QjI {τ:Type} {w u:World} {bs:List (Nat×Obj)} {K:Wkr τ w bs} {Fr:List (Nat×Obj)} {M:Nat} {m:MSt} {en:Bool} {d:τ} {p:Nat} {ks:List Nat} (hm:m.calls=p :: ks) (hc:m.calls.length≤1000) (h:Mc K Fr M m en d u) :
  Calls Tryz.prog 271 #[.pointer (some ⟨M,2,none⟩)] u fun e u'=>e = .returned (.int .i64 p)∧Mc K Fr M { m with calls:=ks } en d u':=by
 obtain ⟨Ec,Er,csl,rsl,h⟩:=h
 have hr:=h.rc
 rw [hm] at hr
 simp only [List.length_cons,List.reverse_cons,List.map_append,List.map_cons,List.map_nil] at hr
 obtain ⟨g,cap,cur,rfl,hcap,rfl,htk,hr2⟩:=hr.pop (by simp)
 obtain ⟨c0,c1,c2,c3,c4,cf,cl⟩:=h.cells
 have hg:=(K.at h.j (p:=(g,.cells cur 3)) (by simp)).1
 have hlast:u.cell? ⟨g,ks.length,none⟩=some (.int .i64 p):=Qs (xs:=ks.reverse.map Q4B++[Q4B p]) hg (by simpa using htk) (by rw [List.getElem?_append_right (by simp)];simp)
 have hks:ks.length < 1000:=by rw [hm] at hc;simp at hc;omega
 have j9:=Hid.mk (Wkr.turn2 h.j ((Qb.refl [M] u).setIn (p:=⟨M,2,none⟩) (by simp) (.slice (some ⟨g,0,none⟩) ks.length cap)) (Qn (i:=2) h.box _))
 have R8:=Hid.mk hr2
 have RR:=Hid.mk h.rr
 clear h hr hr2 hg htk hm hc
 go_enter Tryz.func271,Tryz.ntmps271
 go_wp2
 go_ret
 exact ⟨rfl,[(g,.cells cur 3)],Er,.slice (some ⟨g,0,none⟩) ks.length cap,rsl,R8.out,RR.out,j9.out⟩
theorem Qh9:(Tryz.prog.info? 413).map (fun i=>(i.zero,i.size,i.bytes))=some (some (.agg #[.int .i64 0,.int .i64 0]),2,16):=by kernel_rfl
theorem Qha (k:Nat×Nat):∀ u∈Q2B k,u.oneCell'=true:=by
 intro u hu
 simp at hu
 rcases hu with rfl | rfl<;>rfl
theorem Q7w (l:List (Nat×Nat)):(l.flatMap Q2B).length=l.length * 2:=by
 induction l with
 | nil=>rfl
 | cons a l ih=>simp only [List.flatMap_cons,List.length_append,ih,List.length_cons];simp;omega
theorem QaP {τ:Type} {w u:World} {bs:List (Nat×Obj)} {Z:Wkr τ w bs} {Fr:List (Nat×Obj)} {M:Nat} {m:MSt} {en:Bool} {d:τ} (p:Nat×Nat) (hc:m.rounds.length < 1000) (h:Mc Z Fr M m en d u) :
  Calls Tryz.prog 299 #[.pointer (some ⟨M,3,none⟩),.agg #[.int .i64 p.1,.int .i64 p.2]] u fun e u'=>e = .returned (.tuple #[])∧Mc Z Fr M { m with rounds:=p :: m.rounds } en d u':=by
 obtain ⟨Ec,Er,csl,rsl,h⟩:=h
 obtain ⟨ad,cap,rfl⟩:=h.rr.slice
 obtain ⟨c0,c1,c2,c3,c4,cf,cl⟩:=h.cells
 obtain ⟨i0,hi0,hz0,hz1,hz2⟩:=info_parts Qh9
 have j1:Z.J (Er++(Ec++(M,mObj Z m.next csl (.slice ad m.rounds.length cap) en) :: Fr)) d u:=Z.perm h.j (List.perm_append_comm_assoc _ _ _)
 have hown:=h.rr.owns Z (by rw [Q7w];simp) j1
 have hwl:w.heap.size≤u.heap.size:=(Z.kp h.j).size
 have hl1:m.rounds.length + 1≤maxLen:=by unfold maxLen;omega
 have hl2:(m.rounds.length + 1) * 16≤140737488355328:=by omega
 have hz3:(Value.agg #[.int .i64 0,.int .i64 0]).cells.size=2:=by decide
 have H:=Hid.mk h
 have J1:=Hid.mk j1
 have HOW:=Hid.mk hown
 clear h hown j1
 go_enter Tryz.func299,Tryz.ntmps299
 go_wp2_with fail
 refine Qu (fun w'=>w'.cell? ⟨M,3,none⟩=some (.slice ad m.rounds.length cap)∧w'.cell? ⟨u.heap.size,0,none⟩=some (.int .i64 p.1)∧w'.cell? ⟨u.heap.size,1,none⟩=some (.int .i64 p.2)) (L:=10) (by kernel_rfl) rfl (by kernel_rfl) (by kernel_rfl) ?_ (fun hHeld=>?_)
 ·go_keep
 refine tk (i:=0) (v:=?_) rfl (by kernel_rfl) (fun _ _ _ h=>h) (by rfl) (by assumption) ?_ ?_
 rotate_left
 ·intro w hSw;(try dsimp only at hSw);go_simp;(try with_reducible rfl)
 (try simp only [Qd,Qe,List.set])
 refine tk (i:=1) (v:=?_) rfl (by kernel_rfl) (fun _ _ _ h=>h) (by rfl) (by assumption) ?_ ?_
 rotate_left
 ·intro w hSw;(try dsimp only at hSw);go_simp;(try with_reducible rfl)
 (try simp only [Qd,Qe,List.set])
 refine tk (i:=2) (v:=?_) rfl (by kernel_rfl) (fun _ _ _ h=>h) (by rfl) (by assumption) ?_ ?_
 rotate_left
 ·intro w hSw;(try dsimp only at hSw);go_simp;(try with_reducible rfl)
 (try simp only [Qd,Qe,List.set])
 refine tk (i:=3) (v:=?_) rfl (by kernel_rfl) (fun _ _ _ h=>h) (by rfl) (by assumption) ?_ ?_
 rotate_left
 ·intro w hSw;(try dsimp only at hSw);go_simp;(try with_reducible rfl)
 (try simp only [Qd,Qe,List.set])
 refine tk (i:=4) (v:=?_) rfl (by kernel_rfl) (fun _ _ _ h=>h) (by rfl) (by assumption) ?_ ?_
 rotate_left
 ·intro w hSw;(try dsimp only at hSw);go_simp;(try with_reducible rfl)
 (try simp only [Qd,Qe,List.set])
 refine tk (i:=5) (v:=?_) rfl (by kernel_rfl) (fun _ _ _ h=>h) (by rfl) (by assumption) ?_ ?_
 rotate_left
 ·intro w hSw;(try dsimp only at hSw);go_simp;(try with_reducible rfl)
 (try simp only [Qd,Qe,List.set])
 refine wpAnyH_ready (rs:=[6]) (by kernel_rfl) (by simp) ?_
 refine AllReadyH.cons rfl (fun K hK=>?_) AllReadyH.nil
 go_simp
 refine hK.out _ _ ?_ (fun hHeld=>?_)
 ·go_keep
 clear hK K
 (try simp only [Qd,Qe,List.set])
 refine wpAnyH_ready (rs:=[7]) (by kernel_rfl) (by simp) ?_
 refine AllReadyH.cons rfl (fun K hK=>?_) AllReadyH.nil
 (refine step_append_lies _ (by rfl) _ _ _ (by rfl) w.heap.size 413 i0 _ 2 16 Tryz.underlying233 hi0 hz0 hz1 hz2 hz3 (by omega) (.slice ad m.rounds.length cap) m.rounds.length (m.rounds.reverse.flatMap Q2B) (by rfl) (Qk HOW.out ((((Qb.refl [] u).alloc _).alloc _).drew) (by simp)) ⟨u.heap.size + 1,0,none⟩ 1 1 (Q2B p) (by rfl) (by rfl) (World.news_of_block (cs:=(Q2B p).toArray) (t:=413) (fr:=(0,0)) (Qg (w:=u.alloc _) (by simp))) (Qha p) (by omega) hl1 hl2 (by simp;omega) (u.heap.size + 2) (by simp) ?_;intro g cap' w6 hown6 hgrow hat hlt6;have hbb:Below u.heap.size u ((u.alloc (.cells (Q2B p).toArray 413)).alloc (.cells (Q2B p).toArray 413)).drew:=(((Below.refl _ _).alloc (Nat.le_refl _) _).alloc (by simp) _).drew;obtain ⟨E8,r8,j8⟩:=H.out.rr.grow Z J1.out hbb hown6 hgrow (by simpa using hat);have b8:=(Z.at j8 (p:=(M,mObj Z m.next csl (.slice ad m.rounds.length cap) en)) (by simp)).1;obtain ⟨y0,y1,y2,y3,y4,yf,yl⟩:=Q1S b8;have hx9:w6.heap[u.heap.size]? = some (.cells (Q2B p).toArray 413):=(hgrow.block _ (by simp;omega) (fun e=>by have h1:=HOW.out;have:=Q0z h1 (g:=u.heap.size) e.symm;omega)).trans ((Below.heap_alloc _ _ _ (by simp)).trans (Qg rfl));obtain ⟨x0,x1,xf,xl⟩:=Q0k hx9)
 refine hK.out _ _ ?_ (fun hHeld=>?_)
 ·go_keep
 clear hK K
 (try simp only [Qd,Qe,List.set])
 refine tk (i:=8) (v:=?_) rfl (by kernel_rfl) (fun _ _ _ h=>h) (by rfl) (by assumption) ?_ ?_
 rotate_left
 ·intro w hSw;(try dsimp only at hSw);go_simp;(try with_reducible rfl)
 (try simp only [Qd,Qe,List.set])
 refine tk (i:=9) (v:=?_) rfl (by kernel_rfl) (fun _ _ _ h=>h) (by rfl) (by assumption) ?_ ?_
 rotate_left
 ·intro w hSw;(try dsimp only at hSw);go_simp;(try with_reducible rfl)
 (try simp only [Qd,Qe,List.set])
 refine wpAnyH_done (by kernel_rfl) ?_ _
 refine QB rfl (fun K hK=>?_)
 go_simp
 refine hK.out _ _ ?_
 clear hK K
 (try simp only [Qd,Qe,List.set])
 have j9:=Wkr.turn2 j8 ((Qb.refl [M] w6).setIn (p:=⟨M,3,none⟩) (by simp) (.slice (some ⟨g,0,none⟩) (m.rounds.length + 1) cap')) (Qn (i:=3) b8 _)
 have j10:=Hid.mk (Z.perm j9 (List.perm_append_comm_assoc _ _ _))
 have R8:=Hid.mk r8
 clear j9 j8 r8
 go_wp2
 go_end0
 refine ⟨rfl,Ec,E8,csl,_,H.out.rc,?_,j10.out⟩
 have:=R8.out
 simpa using this
theorem QcH {τ:Type} {w u:World} {bs:List (Nat×Obj)} {Z:Wkr τ w bs} {Fr:List (Nat×Obj)} {M:Nat} {m:MSt} {en:Bool} {d:τ} {p:Nat×Nat} {ks:List (Nat×Nat)} (hm:m.rounds=p :: ks) (hc:m.rounds.length≤1000) (h:Mc Z Fr M m en d u) :
  Calls Tryz.prog 301 #[.pointer (some ⟨M,3,none⟩)] u fun e u'=>e = .returned (.agg #[.int .i64 p.1,.int .i64 p.2])∧Mc Z Fr M { m with rounds:=ks } en d u':=by
 obtain ⟨Ec,Er,csl,rsl,h⟩:=h
 have hr:=h.rr
 rw [hm] at hr
 simp only [List.length_cons,List.reverse_cons,List.flatMap_append,List.flatMap_cons,List.flatMap_nil,List.append_nil] at hr
 obtain ⟨g,cap,cur,rfl,hcap,rfl,htk,hr2⟩:=hr.pop (by rw [Q7w];simp)
 obtain ⟨c0,c1,c2,c3,c4,cf,cl⟩:=h.cells
 have hg:=(Z.at h.j (p:=(g,.cells cur 413)) (by simp)).1
 have hlen:(ks.reverse.flatMap Q2B).length=ks.length * 2:=by rw [Q7w];simp
 have hl0:u.cell? ⟨g,ks.length * 2,none⟩=some (.int .i64 p.1):=Qs (xs:=ks.reverse.flatMap Q2B++Q2B p) hg (by rw [List.length_append,hlen];simpa [Nat.add_mul] using htk) (by rw [List.getElem?_append_right (by omega),hlen];simp)
 have hl1:u.cell? ⟨g,ks.length * 2 + 1,none⟩=some (.int .i64 p.2):=Qs (xs:=ks.reverse.flatMap Q2B++Q2B p) hg (by rw [List.length_append,hlen];simpa [Nat.add_mul] using htk) (by rw [List.getElem?_append_right (by omega),hlen];simp)
 have hks:ks.length < 1000:=by rw [hm] at hc;simp at hc;omega
 have J9:=Wkr.turn2 (K:=Z) (A:=Ec) (A':=[(g,.cells cur 413)]) h.j ((Qb.refl [M] u).setIn (p:=⟨M,3,none⟩) (by simp) (.slice (some ⟨g,0,none⟩) ks.length cap)) (Qn (i:=3) h.box _)
 have j9:=Hid.mk (fun o1 o2=>Z.below (Z.below J9 ((Below.refl _ _).alloc (Nat.le_refl _) o1)) ((Below.refl _ _).alloc (Nat.le_refl _) o2))
 have R8:=Hid.mk hr2
 have RC:=Hid.mk h.rc
 have hng:M≠u.heap.size:=by omega
 have hgl:=Qc hg
 have hgn:g≠u.heap.size:=by omega
 have hgn1:g≠u.heap.size + 1:=by omega
 have hng1:M≠u.heap.size + 1:=by omega
 clear h hr hr2 hg htk hm hc J9
 go_enter Tryz.func301,Tryz.ntmps301
 go_wp2
 refine bodyPost_ret (v:=.agg #[.int .i64 p.1,.int .i64 p.2]) (by simp [results,Tryz.results301,go_sem]) rfl ⟨rfl,?_⟩
 exact ⟨Ec,[(g,.cells cur 413)],csl,.slice (some ⟨g,0,none⟩) ks.length cap,RC.out,R8.out,j9.out _ _⟩
end Go.Proofs.YtmbcibgknckenaaGreatDoor
