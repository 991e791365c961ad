import Derived.Test.YtmbcibgknckenaaGreatDoorT10
import Derived.Deep.LoopGhost
import Derived.Test.YtmbcibgknckenaaGreatDoorProg
import Derived.KernelRfl
import Derived.Laws.Strings
import Derived.Lib.AppendStr
set_option linter.all false
set_option maxRecDepth 100000
set_option maxHeartbeats 4000000
namespace Go.Proofs.YtmbcibgknckenaaGreatDoor
open Go.RowKit
open Go.MapKept
def Q2q {τ:Type} {w:World} {bs:List (Nat×Obj)} (Z:Wkr τ w bs) (Fr:List (Nat×Obj)) (M:Nat) (r:Except Mar.Fault (MSt×τ)) (e:Ending) (u':World):Prop:=
 (∃ m' d',r = .ok (m',d')∧e = .returned (.tuple #[])∧Mc Z Fr M m' false d' u')∨(∃ f,r = .error f∧Qb [] w u'∧Q0c w f.no f.at' e u')
theorem Mc.below {τ:Type} {w u u':World} {bs:List (Nat×Obj)} {Z:Wkr τ w bs} {Fr:List (Nat×Obj)} {M:Nat} {m:MSt} {en:Bool} {d:τ} (h:Mc Z Fr M m en d u) (hb:Below u.heap.size u u'):Mc Z Fr M m en d u':=by
 obtain ⟨a,b,c,e,h⟩:=h
 exact ⟨a,b,c,e,h.below hb⟩
theorem Mc.goto {τ:Type} {w u:World} {bs:List (Nat×Obj)} {Z:Wkr τ w bs} {Fr:List (Nat×Obj)} {M:Nat} {m:MSt} {en:Bool} {d:τ} (h:Mc Z Fr M m en d u) (p:Nat):Mc Z Fr M { m with next:=p } en d (u.setCell ⟨M,1,none⟩ (.int .i64 p)):=by
 obtain ⟨a,b,c,e,h⟩:=h
 exact ⟨a,b,c,e,h.goto p⟩
theorem Mc.cells {τ:Type} {w u:World} {bs:List (Nat×Obj)} {Z:Wkr τ w bs} {Fr:List (Nat×Obj)} {M:Nat} {m:MSt} {en:Bool} {d:τ} (h:Mc Z Fr M m en d u):∃ csl rsl,u.cell? ⟨M,0,none⟩=some (.iface Z.T (.pointer (some ⟨Z.D,0,none⟩)))∧u.cell? ⟨M,1,none⟩=some (.int .i64 m.next)∧u.cell? ⟨M,2,none⟩=some csl∧u.cell? ⟨M,3,none⟩=some rsl∧u.cell? ⟨M,4,none⟩=some (.bool en)∧(∀ i,u.frozen? ⟨M,i,none⟩=false)∧M < u.heap.size:=by
 obtain ⟨a,b,c,e,h⟩:=h
 exact ⟨_,_,h.cells⟩
theorem Q6b {τ:Type} {r:Except Mar.Fault τ} {x:Unit} {d:τ} (h:Q8y r = .ok (x,d)):r = .ok d:=by
 cases r with
 | error f=>cases h
 | ok a=>cases h;rfl
theorem Q5f {τ:Type} {r:Except Mar.Fault τ} {f:Mar.Fault} (h:Q8y r = .error f):r = .error f:=by
 cases r with
 | error f=>cases h;rfl
 | ok a=>cases h
theorem Mc.work {τ α:Type} {w u:World} {bs:List (Nat×Obj)} {Z:Wkr τ w bs} {Fr:List (Nat×Obj)} {M:Nat} {m:MSt} {en:Bool} {d:τ} {f:Nat} {args:Array Value} {r:Except Mar.Fault (α×τ)} {V:α→Value} (h:Mc Z Fr M m en d u)
  (hc:∀ Fr',Z.J Fr' d u→Calls Tryz.prog f args u (Q4J w Z.J Fr' r V)):Calls Tryz.prog f args u fun e u'=>(∃ a d',r = .ok (a,d')∧e = .returned (V a)∧Mc Z Fr M m en d' u')∨(∃ f,r = .error f∧Qb [] w u'∧Q0c w f.no f.at' e u'):=by
 obtain ⟨Ec,Er,csl,rsl,h⟩:=h
 refine (hc _ h.j).mono ?_
 rintro e u' (⟨a,d',h1,h2,h3⟩ | h1)
 ·exact Or.inl ⟨a,d',h1,h2,Ec,Er,csl,rsl,h.rc,h.rr,h3⟩
 ·exact Or.inr h1
theorem QiA {τ:Type} {w u:World} {bs:List (Nat×Obj)} {Z:Wkr τ w bs} {Fr:List (Nat×Obj)} {M:Nat} {m:MSt} {d:τ} (p:Nat) (h:Mc Z Fr M m false d u) :
  Calls Tryz.prog 296 #[.agg #[.int .i64 p],.pointer (some ⟨M,0,none⟩)] u (Q2q Z Fr M (.ok ({ m with next:=p },d))):=by
 obtain ⟨csl,rsl,c0,c1,c2,c3,c4,cf,cl⟩:=h.cells
 have hng:M≠u.heap.size:=by omega
 have H:=Hid.mk (fun o=>(h.goto p).below ((Below.refl _ _).alloc (Nat.le_refl _) o))
 clear h
 go_enter Tryz.func296,Tryz.ntmps296
 go_wp2
 go_end0
 exact Or.inl ⟨_,d,rfl,rfl,H.out _⟩
theorem Qfi {τ:Type} {w u:World} {bs:List (Nat×Obj)} {Z:Wkr τ w bs} {Fr:List (Nat×Obj)} {M:Nat} {m:MSt} {d:τ} {p:Nat} {ks:List Nat} (hm:m.calls=p :: ks) (hc:m.calls.length≤1000) (h:Mc Z Fr M m false d u) :
  Calls Tryz.prog 270 #[.agg #[],.pointer (some ⟨M,0,none⟩)] u (Q2q Z Fr M (.ok ({ m with next:=p,calls:=ks },d))):=by
 have VP:=Hid.mk (fun o=>QjI hm hc (h.below ((Below.refl _ _).alloc (Nat.le_refl _) o)))
 clear h
 go_enter Tryz.func270,Tryz.ntmps270
 go_wp2_with fail
 refine (VP.out _).mono ?_
 rintro e w2 ⟨rfl,M2⟩
 obtain ⟨csl,rsl,c0,c1,c2,c3,c4,cf,cl⟩:=M2.cells
 have H:=Hid.mk (M2.goto p)
 clear M2
 go_wp2
 go_end0
 exact Or.inl ⟨_,d,rfl,rfl,H.out⟩
theorem Qfj {τ:Type} {w u:World} {bs:List (Nat×Obj)} {Z:Wkr τ w bs} {Fr:List (Nat×Obj)} {M:Nat} {m:MSt} {d:τ} {cs:List Value} {n:NumL} (hN:Q16 bs cs n) (h:Mc Z Fr M m false d u) :
  Calls Tryz.prog 269 #[.agg cs.toArray,.pointer (some ⟨M,0,none⟩)] u (Q2q Z Fr M (thenE (Z.W.num n d) fun d'=>.ok (m,d'))):=by
 obtain ⟨mm,rfl,hmem,x,y,z,rfl⟩:=id hN
 have hmn:=Z.mN
 have hen:=Z.eN
 have h0:=h.below ((Below.refl _ _).alloc (Nat.le_refl _) (.cells #[.int .i64 n.low,.int .i64 n.high,.slice x y z,.bool n.wide] 200))
 obtain ⟨csl,rsl,c0,c1,c2,c3,c4,cf,cl⟩:=h0.cells
 have VN:=Hid.mk ((h0.below (Below.refl _ _).drew).work fun Fr' hj=>Z.cN hN hj)
 clear h h0 hmem
 go_enter Tryz.func269,Tryz.ntmps269
 go_wp2_with fail
 refine Qu (fun w'=>w'.cell? ⟨M,0,none⟩=some (.iface Z.T (.pointer (some ⟨Z.D,0,none⟩)))∧w'.cell? ⟨u.heap.size,0,none⟩=some (.int .i64 n.low)∧w'.cell? ⟨u.heap.size,1,none⟩=some (.int .i64 n.high)∧w'.cell? ⟨u.heap.size,2,none⟩=some (.slice x y z)∧w'.cell? ⟨u.heap.size,3,none⟩=some (.bool n.wide)) (L:=5) (by kernel_rfl) rfl (by kernel_rfl) (by kernel_rfl) ?_ (fun hHeld=>?_)
 ·go_keep
 refine tk (i:=0) (v:=?_) rfl (by kernel_rfl) (fun _ _ _ h=>h) (by rfl) (by assumption) ?_ ?_
 rotate_left
 ·intro w hSw;(try dsimp only at hSw);go_simp;(try with_reducible rfl)
 (try simp only [Qd,Qe,List.set])
 refine tk (i:=1) (v:=?_) rfl (by kernel_rfl) (fun _ _ _ h=>h) (by rfl) (by assumption) ?_ ?_
 rotate_left
 ·intro w hSw;(try dsimp only at hSw);go_simp;(try with_reducible rfl)
 (try simp only [Qd,Qe,List.set])
 refine tk (i:=2) (v:=?_) rfl (by kernel_rfl) (fun _ _ _ h=>h) (by rfl) (by assumption) ?_ ?_
 rotate_left
 ·intro w hSw;(try dsimp only at hSw);go_simp;(try with_reducible rfl)
 (try simp only [Qd,Qe,List.set])
 refine tk (i:=3) (v:=?_) rfl (by kernel_rfl) (fun _ _ _ h=>h) (by rfl) (by assumption) ?_ ?_
 rotate_left
 ·intro w hSw;(try dsimp only at hSw);go_simp;(try with_reducible rfl)
 (try simp only [Qd,Qe,List.set])
 refine tk (i:=4) (v:=?_) rfl (by kernel_rfl) (fun _ _ _ h=>h) (by rfl) (by assumption) ?_ ?_
 rotate_left
 ·intro w hSw;(try dsimp only at hSw);go_simp;(try with_reducible rfl)
 (try simp only [Qd,Qe,List.set])
 refine wpAnyH_done (by kernel_rfl) ?_ _
 refine QB rfl (fun K hK=>?_)
 (go_simp;refine VN.out.mono ?_;rintro e w2 (⟨_,d2,hx,rfl,M2⟩ | ⟨f,hx,hk,g,hg,rfl,hc⟩);rotate_left;exact Qa (Or.inr ⟨f,by rw [Q5f hx];rfl,hk,g,hg,rfl,hc⟩))
 refine hK.out _ _ ?_
 clear hK K
 (try simp only [Qd,Qe,List.set])
 have M2:=Hid.mk M2
 go_wp2
 go_end0
 exact Or.inl ⟨m,d2,by rw [Q6b hx];rfl,rfl,M2.out⟩
theorem QiB {τ:Type} {w u:World} {bs:List (Nat×Obj)} {Z:Wkr τ w bs} {Fr:List (Nat×Obj)} {M:Nat} {m:MSt} {d:τ} (n:Int) (f:Bool) (hn:0≤n) (hn2:n≤4294967295) (h:Mc Z Fr M m false d u) :
  Calls Tryz.prog 289 #[.agg #[.int .i64 n,.bool f],.pointer (some ⟨M,0,none⟩)] u (Q2q Z Fr M (thenE (Z.W.text n f d) fun d'=>.ok (m,d'))):=by
 have hmn:=Z.mT
 have hen:=Z.eT
 have h0:=h.below ((Below.refl _ _).alloc (Nat.le_refl _) (.cells #[.int .i64 n,.bool f] 308))
 obtain ⟨csl,rsl,c0,c1,c2,c3,c4,cf,cl⟩:=h0.cells
 have VN:=Hid.mk ((h0.below (Below.refl _ _).drew).work fun Fr' hj=>Z.cT n f hn hn2 hj)
 clear h h0
 go_enter Tryz.func289,Tryz.ntmps289
 go_wp2_with fail
 refine Qu (fun w'=>w'.cell? ⟨M,0,none⟩=some (.iface Z.T (.pointer (some ⟨Z.D,0,none⟩)))∧w'.cell? ⟨u.heap.size,0,none⟩=some (.int .i64 n)∧w'.cell? ⟨u.heap.size,1,none⟩=some (.bool f)) (L:=6) (by kernel_rfl) rfl (by kernel_rfl) (by kernel_rfl) ?_ (fun hHeld=>?_)
 ·go_keep
 refine tk (i:=0) (v:=?_) rfl (by kernel_rfl) (fun _ _ _ h=>h) (by rfl) (by assumption) ?_ ?_
 rotate_left
 ·intro w hSw;(try dsimp only at hSw);go_simp;(try with_reducible rfl)
 (try simp only [Qd,Qe,List.set])
 refine tk (i:=1) (v:=?_) rfl (by kernel_rfl) (fun _ _ _ h=>h) (by rfl) (by assumption) ?_ ?_
 rotate_left
 ·intro w hSw;(try dsimp only at hSw);go_simp;(try with_reducible rfl)
 (try simp only [Qd,Qe,List.set])
 refine tk (i:=2) (v:=?_) rfl (by kernel_rfl) (fun _ _ _ h=>h) (by rfl) (by assumption) ?_ ?_
 rotate_left
 ·intro w hSw;(try dsimp only at hSw);go_simp;(try with_reducible rfl)
 (try simp only [Qd,Qe,List.set])
 refine tk (i:=3) (v:=?_) rfl (by kernel_rfl) (fun _ _ _ h=>h) (by rfl) (by assumption) ?_ ?_
 rotate_left
 ·intro w hSw;(try dsimp only at hSw);go_simp;(try with_reducible rfl)
 (try simp only [Qd,Qe,List.set])
 refine tk (i:=4) (v:=?_) rfl (by kernel_rfl) (fun _ _ _ h=>h) (by rfl) (by assumption) ?_ ?_
 rotate_left
 ·intro w hSw;(try dsimp only at hSw);go_simp;(try with_reducible rfl)
 (try simp only [Qd,Qe,List.set])
 refine tk (i:=5) (v:=?_) rfl (by kernel_rfl) (fun _ _ _ h=>h) (by rfl) (by assumption) ?_ ?_
 rotate_left
 ·intro w hSw;(try dsimp only at hSw);go_simp;(try with_reducible rfl)
 (try simp only [Qd,Qe,List.set])
 refine wpAnyH_done (by kernel_rfl) ?_ _
 refine QB rfl (fun K hK=>?_)
 (go_simp;refine VN.out.mono ?_;rintro e w2 (⟨v2,d2,hx,rfl,M2⟩ | ⟨f',hx,hk,g,hg,rfl,hc⟩);rotate_left;exact Qa (Or.inr ⟨f',by rw [Q5f hx];rfl,hk,g,hg,rfl,hc⟩))
 refine hK.out _ _ ?_
 clear hK K
 (try simp only [Qd,Qe,List.set])
 have M2:=Hid.mk M2
 go_wp2
 go_end0
 exact Or.inl ⟨m,d2,by rw [Q6b hx];rfl,rfl,M2.out⟩
theorem Qfk {τ:Type} {w u:World} {bs:List (Nat×Obj)} {Z:Wkr τ w bs} {Fr:List (Nat×Obj)} {M:Nat} {m:MSt} {d:τ} (n:Int) (f:Bool) (hn:0≤n) (hn2:n≤4294967295) (h:Mc Z Fr M m false d u) :
  Calls Tryz.prog 294 #[.agg #[.int .i64 n,.bool f],.pointer (some ⟨M,0,none⟩)] u (Q2q Z Fr M (thenE (Z.W.list n f d) fun p=>.ok (m,p.2))):=by
 have hmn:=Z.mL
 have hen:=Z.eL
 have h0:=h.below ((Below.refl _ _).alloc (Nat.le_refl _) (.cells #[.int .i64 n,.bool f] 316))
 obtain ⟨csl,rsl,c0,c1,c2,c3,c4,cf,cl⟩:=h0.cells
 have VN:=Hid.mk ((h0.below (Below.refl _ _).drew).work fun Fr' hj=>Z.cL n f hn hn2 hj)
 clear h h0
 go_enter Tryz.func294,Tryz.ntmps294
 go_wp2_with fail
 refine Qu (fun w'=>w'.cell? ⟨M,0,none⟩=some (.iface Z.T (.pointer (some ⟨Z.D,0,none⟩)))∧w'.cell? ⟨u.heap.size,0,none⟩=some (.int .i64 n)∧w'.cell? ⟨u.heap.size,1,none⟩=some (.bool f)) (L:=6) (by kernel_rfl) rfl (by kernel_rfl) (by kernel_rfl) ?_ (fun hHeld=>?_)
 ·go_keep
 refine tk (i:=0) (v:=?_) rfl (by kernel_rfl) (fun _ _ _ h=>h) (by rfl) (by assumption) ?_ ?_
 rotate_left
 ·intro w hSw;(try dsimp only at hSw);go_simp;(try with_reducible rfl)
 (try simp only [Qd,Qe,List.set])
 refine tk (i:=1) (v:=?_) rfl (by kernel_rfl) (fun _ _ _ h=>h) (by rfl) (by assumption) ?_ ?_
 rotate_left
 ·intro w hSw;(try dsimp only at hSw);go_simp;(try with_reducible rfl)
 (try simp only [Qd,Qe,List.set])
 refine tk (i:=2) (v:=?_) rfl (by kernel_rfl) (fun _ _ _ h=>h) (by rfl) (by assumption) ?_ ?_
 rotate_left
 ·intro w hSw;(try dsimp only at hSw);go_simp;(try with_reducible rfl)
 (try simp only [Qd,Qe,List.set])
 refine tk (i:=3) (v:=?_) rfl (by kernel_rfl) (fun _ _ _ h=>h) (by rfl) (by assumption) ?_ ?_
 rotate_left
 ·intro w hSw;(try dsimp only at hSw);go_simp;(try with_reducible rfl)
 (try simp only [Qd,Qe,List.set])
 refine tk (i:=4) (v:=?_) rfl (by kernel_rfl) (fun _ _ _ h=>h) (by rfl) (by assumption) ?_ ?_
 rotate_left
 ·intro w hSw;(try dsimp only at hSw);go_simp;(try with_reducible rfl)
 (try simp only [Qd,Qe,List.set])
 refine tk (i:=5) (v:=?_) rfl (by kernel_rfl) (fun _ _ _ h=>h) (by rfl) (by assumption) ?_ ?_
 rotate_left
 ·intro w hSw;(try dsimp only at hSw);go_simp;(try with_reducible rfl)
 (try simp only [Qd,Qe,List.set])
 refine wpAnyH_done (by kernel_rfl) ?_ _
 refine QB rfl (fun K hK=>?_)
 (go_simp;refine VN.out.mono ?_;rintro e w2 (⟨v2,d2,hx,rfl,M2⟩ | ⟨f',hx,hk,g,hg,rfl,hc⟩);rotate_left;exact Qa (Or.inr ⟨f',by rw [hx];rfl,hk,g,hg,rfl,hc⟩))
 refine hK.out _ _ ?_
 clear hK K
 (try simp only [Qd,Qe,List.set])
 have M2:=Hid.mk M2
 go_wp2
 go_end0
 exact Or.inl ⟨m,d2,by rw [hx];rfl,rfl,M2.out⟩
theorem Mc.ended {τ:Type} {w u:World} {bs:List (Nat×Obj)} {Z:Wkr τ w bs} {Fr:List (Nat×Obj)} {M:Nat} {m:MSt} {en:Bool} {d:τ} (h:Mc Z Fr M m en d u) (b:Bool):Mc Z Fr M m b d (u.setCell ⟨M,4,none⟩ (.bool b)):=by
 obtain ⟨a,b,c,e,h⟩:=h
 exact ⟨a,b,c,e,h.ended _⟩
theorem QjJ {τ:Type} {w u:World} {bs:List (Nat×Obj)} {Z:Wkr τ w bs} {Fr:List (Nat×Obj)} {M:Nat} {m:MSt} {d:τ} (h:Mc Z Fr M m false d u) :
  Calls Tryz.prog 297 #[.agg #[],.pointer (some ⟨M,0,none⟩)] u fun e u'=>e = .returned (.tuple #[])∧Mc Z Fr M m true d u':=by
 have h1:=fun o=>h.below (u':=u.alloc o) ((Below.refl _ _).alloc (Nat.le_refl _) o)
 obtain ⟨csl,rsl,c0,c1,c2,c3,c4,cf,cl⟩:=h.cells
 have hng:M≠u.heap.size:=by omega
 have H:=Hid.mk (fun o=>(h.ended true).below ((Below.refl _ _).alloc (Nat.le_refl _) o))
 clear h h1
 go_enter Tryz.func297,Tryz.ntmps297
 go_wp2
 go_end0
 exact ⟨rfl,H.out _⟩
theorem Qfl {τ:Type} {w u:World} {bs:List (Nat×Obj)} {Z:Wkr τ w bs} {Fr:List (Nat×Obj)} {M:Nat} {m:MSt} {d:τ} {p1 p2:Nat} {ks:List (Nat×Nat)} (hm:m.rounds=(p1,p2 + 2) :: ks) (hc:m.rounds.length≤1000) (hp:p2 + 2≤4294967295) (h:Mc Z Fr M m false d u) :
  Calls Tryz.prog 300 #[.agg #[],.pointer (some ⟨M,0,none⟩)] u (Q2q Z Fr M (.ok ({ m with next:=p1,rounds:=(p1,p2 + 1) :: ks },d))):=by
 have VP:=Hid.mk (fun o=>QcH hm hc (h.below ((Below.refl _ _).alloc (Nat.le_refl _) o)))
 have hks:ks.length < 1000:=by rw [hm] at hc;simp at hc;omega
 clear h hm hc
 go_enter Tryz.func300,Tryz.ntmps300
 go_wp2_with fail
 refine (VP.out _).mono ?_
 rintro e w2 ⟨rfl,M2⟩
 obtain ⟨csl,rsl,c0,c1,c2,c3,c4,cf,cl⟩:=M2.cells
 have hng:M≠w2.heap.size:=by omega
 have hsub:((p2:Int) + 2 - 1)=(p2:Int) + 1:=by omega
 have H:=Hid.mk (fun o=>QaP (p1,p2 + 1) hks ((M2.goto p1).below (((Below.refl _ _).alloc (Nat.le_refl _) o).drew)))
 clear M2
 go_wp2_with fail
 refine Qu (fun w'=>w'.cell? ⟨w2.heap.size,0,none⟩=some (.int .i64 p1)∧w'.cell? ⟨w2.heap.size,1,none⟩=some (.int .i64 ((p2:Int) + 1))) (L:=4) (by kernel_rfl) rfl (by kernel_rfl) (by kernel_rfl) ?_ (fun hHeld=>?_)
 ·exact ⟨(Q0k (Qg (by simp))).1,(Q0k (Qg (by simp))).2.1⟩
 refine tk (i:=0) (v:=?_) rfl (by kernel_rfl) (fun _ _ _ h=>h) (by rfl) (by assumption) ?_ ?_
 rotate_left
 ·intro w hSw;(try dsimp only at hSw);go_simp;(try with_reducible rfl)
 (try simp only [Qd,Qe,List.set])
 refine tk (i:=1) (v:=?_) rfl (by kernel_rfl) (fun _ _ _ h=>h) (by rfl) (by assumption) ?_ ?_
 rotate_left
 ·intro w hSw;(try dsimp only at hSw);go_simp;(try with_reducible rfl)
 (try simp only [Qd,Qe,List.set])
 refine tk (i:=2) (v:=?_) rfl (by kernel_rfl) (fun _ _ _ h=>h) (by rfl) (by assumption) ?_ ?_
 rotate_left
 ·intro w hSw;(try dsimp only at hSw);go_simp;(try with_reducible rfl)
 (try simp only [Qd,Qe,List.set])
 refine tk (i:=3) (v:=?_) rfl (by kernel_rfl) (fun _ _ _ h=>h) (by rfl) (by assumption) ?_ ?_
 rotate_left
 ·intro w hSw;(try dsimp only at hSw);go_simp;(try with_reducible rfl)
 (try simp only [Qd,Qe,List.set])
 refine wpAnyH_done (by kernel_rfl) ?_ _
 refine QB rfl (fun K hK=>?_)
 (go_simp;refine (H.out _).mono ?_;rintro e w3 ⟨rfl,M3⟩)
 refine hK.out _ _ ?_
 clear hK K
 (try simp only [Qd,Qe,List.set])
 have M3:=Hid.mk M3
 go_wp2
 go_end0
 exact Or.inl ⟨_,d,rfl,rfl,M3.out⟩
theorem Qfm {τ:Type} {w u:World} {bs:List (Nat×Obj)} {Z:Wkr τ w bs} {Fr:List (Nat×Obj)} {M:Nat} {m:MSt} {d:τ} {p1 p2:Nat} {ks:List (Nat×Nat)} (hm:m.rounds=(p1,p2) :: ks) (hc:m.rounds.length≤1000) (hp:p2≤1) (h:Mc Z Fr M m false d u) :
  Calls Tryz.prog 300 #[.agg #[],.pointer (some ⟨M,0,none⟩)] u (Q2q Z Fr M (.ok ({ m with rounds:=ks },d))):=by
 have VP:=Hid.mk (fun o=>QcH hm hc (h.below ((Below.refl _ _).alloc (Nat.le_refl _) o)))
 clear h hm hc
 go_enter Tryz.func300,Tryz.ntmps300
 go_wp2_with fail
 refine (VP.out _).mono ?_
 rintro e w2 ⟨rfl,M2⟩
 obtain ⟨csl,rsl,c0,c1,c2,c3,c4,cf,cl⟩:=M2.cells
 have hng:M≠w2.heap.size:=by omega
 have H:=Hid.mk (fun o=>M2.below (u':=w2.alloc o) ((Below.refl _ _).alloc (Nat.le_refl _) o))
 clear M2
 go_wp2
 go_end0
 exact Or.inl ⟨_,d,rfl,rfl,H.out _⟩
theorem Qhb {τ:Type} {w u:World} {bs:List (Nat×Obj)} {Z:Wkr τ w bs} {Fr:List (Nat×Obj)} {M:Nat} {m:MSt} {d:τ} {p:Nat×Nat} {ks:List (Nat×Nat)} (hm:m.rounds=p :: ks) (hc:m.rounds.length≤1000) (hp:p.2≤4294967295) (h:Mc Z Fr M m false d u) :
  Calls Tryz.prog 300 #[.agg #[],.pointer (some ⟨M,0,none⟩)] u (Q2q Z Fr M (.ok (if 1 < p.2 then { m with next:=p.1,rounds:=(p.1,p.2 - 1) :: ks } else { m with rounds:=ks },d))):=by
 obtain ⟨p1,p2⟩:=p
 by_cases h1:1 < p2
 ·obtain ⟨k,rfl⟩:∃ k,p2=k + 2:=⟨p2 - 2,by omega⟩
  rw [if_pos h1]
  exact Qfl hm hc hp h
 ·rw [if_neg h1]
  exact Qfm hm hc (by omega) h
section
variable {τ : Type} {w u u' : World} {bs : List (Nat × Obj)} {Z : Wkr τ w bs} {Fr : List (Nat × Obj)} {M : Nat} {m : MSt} {en : Bool} {d : τ}
theorem Mc.alloc (h:Mc Z Fr M m en d u) (o:Obj):Mc Z ((u.heap.size,o) :: Fr) M m en d (u.alloc o):=by
 obtain ⟨Ec,Er,csl,rsl,h⟩:=h
 refine ⟨Ec,Er,csl,rsl,h.rc,h.rr,Z.perm (Z.alloc h.j o) ?_⟩
 have h1:∀ (a b:Nat×Obj) (A B C:List (Nat×Obj)),(a :: (A++(B++b :: C))).Perm (A++(B++b :: a :: C)):=by
  intro a b A B C
  rw [← List.append_assoc,← List.append_assoc]
  refine (List.perm_middle (a:=a) (l₁:=A++B) (l₂:=b :: C)).symm.trans ?_
  exact List.Perm.append_left _ (List.Perm.swap _ _ _)
 exact h1 _ _ _ _ _
theorem Mc.tail {p:Nat×Obj} (h:Mc Z (p :: Fr) M m en d u):Mc Z Fr M m en d u:=by
 obtain ⟨Ec,Er,csl,rsl,h⟩:=h
 refine ⟨Ec,Er,csl,rsl,h.rc,h.rr,Z.sub h.j ?_ ?_⟩
 ·intro q hq
  simp only [List.mem_append,List.mem_cons] at hq ⊢
  rcases hq with h | h | h | h
  ·exact Or.inl h
  ·exact Or.inr (Or.inl h)
  ·exact Or.inr (Or.inr (Or.inl h))
  ·exact Or.inr (Or.inr (Or.inr (Or.inr h)))
 ·have:=Z.nodup h.j
  refine this.sublist (List.Sublist.map _ ?_)
  exact List.Sublist.append_left (List.Sublist.append_left (List.Sublist.cons_cons _ (List.sublist_cons_self _ _)) _) _
theorem Mc.at {p:Nat×Obj} (h:Mc Z Fr M m en d u) (hp:p∈Fr):u.heap[p.1]? = some p.2:=by
 obtain ⟨Ec,Er,csl,rsl,h⟩:=h
 exact (Z.at h.j (by simp [hp])).1
end
theorem QjK {b:Nat} {c0 c1 c2:Value} {T:TypeId} {w:World} (h:w.heap[b]? = some (.cells #[c0,c1,c2] T)) :
  w.cell? ⟨b,0,none⟩=some c0∧w.cell? ⟨b,1,none⟩=some c1∧w.cell? ⟨b,2,none⟩=some c2∧b < w.heap.size:=by
 refine ⟨?_,?_,?_,Qc h⟩<;>simp [World.cell?,h]
theorem QiC {b:Nat} {c0:Value} {T:TypeId} {w:World} (h:w.heap[b]? = some (.cells #[c0] T)):w.cell? ⟨b,0,none⟩=some c0∧b < w.heap.size:=by
 refine ⟨?_,Qc h⟩;simp [World.cell?,h]
theorem QiD {τ:Type} {w u:World} {bs:List (Nat×Obj)} {Z:Wkr τ w bs} {Fr:List (Nat×Obj)} {M:Nat} {m:MSt} {d:τ} (p:Nat) (hc:m.calls.length < 1000) (h:Mc Z Fr M m false d u) :
  Calls Tryz.prog 274 #[.agg #[.int .i64 p],.pointer (some ⟨M,0,none⟩)] u (Q2q Z Fr M (thenE (Z.W.enter m.calls.length d) fun d'=>.ok ({ m with next:=p,calls:=m.next :: m.calls },d'))):=by
 have hmn:=Z.mE
 have hen:=Z.eE
 have h0:=h.alloc (.cells #[.int .i64 p] 224)
 have h1:=h0.below (Below.refl _ _).drew
 obtain ⟨csl,rsl,c0,c1,c2,c3,c4,cf,cl⟩:=h0.cells
 have VL:=Hid.mk (QjH h1)
 have VN:=Hid.mk (h1.work fun Fr' hj=>Z.cE m.calls.length hc hj)
 clear h h0 h1
 go_enter Tryz.func274,Tryz.ntmps274
 go_wp2_with fail
 refine Qu (fun w'=>w'.cell? ⟨M,0,none⟩=some (.iface Z.T (.pointer (some ⟨Z.D,0,none⟩)))) (L:=10) (by kernel_rfl) rfl (by kernel_rfl) (by kernel_rfl) ?_ (fun hHeld=>?_)
 ·go_keep
 refine tk (i:=0) (v:=?_) rfl (by kernel_rfl) (fun _ _ _ h=>h) (by rfl) (by assumption) ?_ ?_
 rotate_left
 ·intro w hSw;(try dsimp only at hSw);go_simp;(try with_reducible rfl)
 (try simp only [Qd,Qe,List.set])
 refine tk (i:=1) (v:=?_) rfl (by kernel_rfl) (fun _ _ _ h=>h) (by rfl) (by assumption) ?_ ?_
 rotate_left
 ·intro w hSw;(try dsimp only at hSw);go_simp;(try with_reducible rfl)
 (try simp only [Qd,Qe,List.set])
 refine tk (i:=2) (v:=?_) rfl (by kernel_rfl) (fun _ _ _ h=>h) (by rfl) (by assumption) ?_ ?_
 rotate_left
 ·intro w hSw;(try dsimp only at hSw);go_simp;(try with_reducible rfl)
 (try simp only [Qd,Qe,List.set])
 refine tk (i:=3) (v:=?_) rfl (by kernel_rfl) (fun _ _ _ h=>h) (by rfl) (by assumption) ?_ ?_
 rotate_left
 ·intro w hSw;(try dsimp only at hSw);go_simp;(try with_reducible rfl)
 (try simp only [Qd,Qe,List.set])
 refine tk (i:=4) (v:=?_) rfl (by kernel_rfl) (fun _ _ _ h=>h) (by rfl) (by assumption) ?_ ?_
 rotate_left
 ·intro w hSw;(try dsimp only at hSw);go_simp;(try with_reducible rfl)
 (try simp only [Qd,Qe,List.set])
 refine tk (i:=5) (v:=?_) rfl (by kernel_rfl) (fun _ _ _ h=>h) (by rfl) (by assumption) ?_ ?_
 rotate_left
 ·intro w hSw;(try dsimp only at hSw);go_simp;(try with_reducible rfl)
 (try simp only [Qd,Qe,List.set])
 refine tk (i:=6) (v:=?_) rfl (by kernel_rfl) (fun _ _ _ h=>h) (by rfl) (by assumption) ?_ ?_
 rotate_left
 ·intro w hSw;(try dsimp only at hSw);go_simp;(try with_reducible rfl)
 (try simp only [Qd,Qe,List.set])
 refine tk (i:=8) (v:=?_) rfl (by kernel_rfl) (fun _ _ _ h=>h) (by rfl) (by assumption) ?_ ?_
 rotate_left
 ·intro w hSw;(try dsimp only at hSw);go_simp;(try with_reducible rfl)
 (try simp only [Qd,Qe,List.set])
 refine tk (i:=9) (v:=?_) rfl (by kernel_rfl) (fun _ _ _ h=>h) (by rfl) (by assumption) ?_ ?_
 rotate_left
 ·intro w hSw;(try dsimp only at hSw);go_simp;(try with_reducible rfl)
 (try simp only [Qd,Qe,List.set])
 refine wpAnyH_ready (rs:=[7]) (by kernel_rfl) (by simp) ?_
 refine AllReadyH.cons rfl (fun K hK=>?_) AllReadyH.nil
 (go_simp;go_at_call 275;refine VL.out.mono ?_;rintro e w2 ⟨rfl,rfl⟩)
 refine hK.out _ _ ?_ (fun hHeld=>?_)
 ·go_keep
 clear hK K
 (try simp only [Qd,Qe,List.set])
 refine wpAnyH_done (by kernel_rfl) ?_ _
 refine QB rfl (fun K hK=>?_)
 (go_simp;refine VN.out.mono ?_;rintro e w2 (⟨v2,d2,hx,rfl,M2⟩ | ⟨f',hx,hk,g,hg,rfl,hc⟩);rotate_left;exact Qa (Or.inr ⟨f',by rw [Q5f hx];rfl,hk,g,hg,rfl,hc⟩))
 refine hK.out _ _ ?_
 clear hK K
 (try simp only [Qd,Qe,List.set])
 obtain ⟨csl,rsl,c0,c1,c2,c3,c4,cf,cl⟩:=M2.cells
 have VP:=Hid.mk (Qiz m.next hc (M2.below (Below.refl _ _).drew))
 clear M2 VL VN
 go_wp2_with fail
 refine Qu (fun w'=>w'.cell? ⟨M,1,none⟩=some (.int .i64 m.next)) (L:=7) (by kernel_rfl) rfl (by kernel_rfl) (by kernel_rfl) ?_ (fun hHeld=>?_)
 ·go_keep
 refine tk (i:=0) (v:=?_) rfl (by kernel_rfl) (fun _ _ _ h=>h) (by rfl) (by assumption) ?_ ?_
 rotate_left
 ·intro w hSw;(try dsimp only at hSw);go_simp;(try with_reducible rfl)
 (try simp only [Qd,Qe,List.set])
 refine tk (i:=1) (v:=?_) rfl (by kernel_rfl) (fun _ _ _ h=>h) (by rfl) (by assumption) ?_ ?_
 rotate_left
 ·intro w hSw;(try dsimp only at hSw);go_simp;(try with_reducible rfl)
 (try simp only [Qd,Qe,List.set])
 refine tk (i:=2) (v:=?_) rfl (by kernel_rfl) (fun _ _ _ h=>h) (by rfl) (by assumption) ?_ ?_
 rotate_left
 ·intro w hSw;(try dsimp only at hSw);go_simp;(try with_reducible rfl)
 (try simp only [Qd,Qe,List.set])
 refine tk (i:=3) (v:=?_) rfl (by kernel_rfl) (fun _ _ _ h=>h) (by rfl) (by assumption) ?_ ?_
 rotate_left
 ·intro w hSw;(try dsimp only at hSw);go_simp;(try with_reducible rfl)
 (try simp only [Qd,Qe,List.set])
 refine tk (i:=4) (v:=?_) rfl (by kernel_rfl) (fun _ _ _ h=>h) (by rfl) (by assumption) ?_ ?_
 rotate_left
 ·intro w hSw;(try dsimp only at hSw);go_simp;(try with_reducible rfl)
 (try simp only [Qd,Qe,List.set])
 refine tk (i:=5) (v:=?_) rfl (by kernel_rfl) (fun _ _ _ h=>h) (by rfl) (by assumption) ?_ ?_
 rotate_left
 ·intro w hSw;(try dsimp only at hSw);go_simp;(try with_reducible rfl)
 (try simp only [Qd,Qe,List.set])
 refine tk (i:=6) (v:=?_) rfl (by kernel_rfl) (fun _ _ _ h=>h) (by rfl) (by assumption) ?_ ?_
 rotate_left
 ·intro w hSw;(try dsimp only at hSw);go_simp;(try with_reducible rfl)
 (try simp only [Qd,Qe,List.set])
 refine wpAnyH_done (by kernel_rfl) ?_ _
 refine QB rfl (fun K hK=>?_)
 (go_simp;refine VP.out.mono ?_;rintro e w3 ⟨rfl,M3⟩)
 refine hK.out _ _ ?_
 clear hK K
 (try simp only [Qd,Qe,List.set])
 obtain ⟨csl,rsl,c0,c1,c2,c3,c4,cf,cl⟩:=M3.cells
 obtain ⟨s0,sl⟩:=QiC (M3.at (p:=(u.heap.size,.cells #[.int .i64 p] 224)) (by simp))
 have H:=Hid.mk (M3.goto p).tail
 clear M3
 go_wp2
 go_end0
 exact Or.inl ⟨_,d2,by rw [Q6b hx];rfl,rfl,H.out⟩
theorem Qhc {τ:Type} {w u:World} {bs:List (Nat×Obj)} {Z:Wkr τ w bs} {Fr:List (Nat×Obj)} {M:Nat} {m:MSt} {d:τ} (n:Int) (f:Bool) (p:Nat) (hn:0≤n) (hn2:n≤4294967295) {r:Except Mar.Fault (MSt×τ)} (hr:Q0e Z.W (.array n f p) m d=some r) (h:Mc Z Fr M m false d u) :
  Calls Tryz.prog 298 #[.agg #[.int .i64 n,.bool f,.int .i64 p],.pointer (some ⟨M,0,none⟩)] u (Q2q Z Fr M r):=by
 obtain ⟨hc,hr⟩:m.rounds.length < 1000∧r=thenE (Z.W.list n f d) fun q=>.ok (if q.1=0 then { m with next:=p } else { m with rounds:=(m.next,q.1) :: m.rounds },q.2):=by
  simp only [Q0e] at hr
  split at hr
  ·cases hr
  ·refine ⟨by omega,?_⟩
   cases hx:Z.W.list n f d with
   | error e=>rw [hx] at hr;cases hr;rfl
   | ok q=>
    obtain ⟨k,d'⟩:=q
    rw [hx] at hr
    cases k with
    | zero=>cases hr;rfl
    | succ k=>cases hr;rfl
 subst hr
 have hmn:=Z.mL
 have hen:=Z.eL
 have h0:=h.alloc (.cells #[.int .i64 n,.bool f,.int .i64 p] 345)
 obtain ⟨csl,rsl,c0,c1,c2,c3,c4,cf,cl⟩:=h0.cells
 have VN:=Hid.mk ((h0.below (Below.refl _ _).drew).work fun Fr' hj=>Z.cL n f hn hn2 hj)
 clear h h0
 generalize hR:(thenE (Z.W.list n f d) fun q=>Except.ok (if q.1=0 then { m with next:=p } else { m with rounds:=(m.next,q.1) :: m.rounds },q.2))=R
 go_enter Tryz.func298,Tryz.ntmps298
 go_wp2_with fail
 refine Qu (fun w'=>w'.cell? ⟨M,0,none⟩=some (.iface Z.T (.pointer (some ⟨Z.D,0,none⟩)))∧w'.cell? ⟨u.heap.size,0,none⟩=some (.int .i64 n)∧w'.cell? ⟨u.heap.size,1,none⟩=some (.bool f)∧w'.cell? ⟨u.heap.size,2,none⟩=some (.int .i64 p)) (L:=7) (by kernel_rfl) rfl (by kernel_rfl) (by kernel_rfl) ?_ (fun hHeld=>?_)
 ·go_keep
 refine tk (i:=0) (v:=?_) rfl (by kernel_rfl) (fun _ _ _ h=>h) (by rfl) (by assumption) ?_ ?_
 rotate_left
 ·intro w hSw;(try dsimp only at hSw);go_simp;(try with_reducible rfl)
 (try simp only [Qd,Qe,List.set])
 refine tk (i:=1) (v:=?_) rfl (by kernel_rfl) (fun _ _ _ h=>h) (by rfl) (by assumption) ?_ ?_
 rotate_left
 ·intro w hSw;(try dsimp only at hSw);go_simp;(try with_reducible rfl)
 (try simp only [Qd,Qe,List.set])
 refine tk (i:=2) (v:=?_) rfl (by kernel_rfl) (fun _ _ _ h=>h) (by rfl) (by assumption) ?_ ?_
 rotate_left
 ·intro w hSw;(try dsimp only at hSw);go_simp;(try with_reducible rfl)
 (try simp only [Qd,Qe,List.set])
 refine tk (i:=3) (v:=?_) rfl (by kernel_rfl) (fun _ _ _ h=>h) (by rfl) (by assumption) ?_ ?_
 rotate_left
 ·intro w hSw;(try dsimp only at hSw);go_simp;(try with_reducible rfl)
 (try simp only [Qd,Qe,List.set])
 refine tk (i:=4) (v:=?_) rfl (by kernel_rfl) (fun _ _ _ h=>h) (by rfl) (by assumption) ?_ ?_
 rotate_left
 ·intro w hSw;(try dsimp only at hSw);go_simp;(try with_reducible rfl)
 (try simp only [Qd,Qe,List.set])
 refine tk (i:=5) (v:=?_) rfl (by kernel_rfl) (fun _ _ _ h=>h) (by rfl) (by assumption) ?_ ?_
 rotate_left
 ·intro w hSw;(try dsimp only at hSw);go_simp;(try with_reducible rfl)
 (try simp only [Qd,Qe,List.set])
 refine wpAnyH_ready (rs:=[6]) (by kernel_rfl) (by simp) ?_
 refine AllReadyH.cons rfl (fun K hK=>?_) AllReadyH.nil
 (go_simp;refine VN.out.mono ?_;rintro e w2 (⟨v2,d2,hx,rfl,M2⟩ | ⟨f',hx,hk,g,hg,rfl,hc⟩);rotate_left;exact Qa (Or.inr ⟨f',by rw [← hR,hx];rfl,hk,g,hg,rfl,hc⟩);obtain ⟨csl,rsl,c0,c1,c2,c3,c4,cf,cl⟩:=M2.cells;obtain ⟨s0,s1,s2,sl⟩:=QjK (M2.at (p:=(u.heap.size,.cells #[.int .i64 n,.bool f,.int .i64 p] 345)) (by simp));have hv2:=Z.small hn hn2 hx;have M2:=Hid.mk M2;have HX:=Hid.mk hx;clear hx)
 refine hK.out _ _ ?_ (fun hHeld=>?_)
 ·go_keep
 clear hK K
 (try simp only [Qd,Qe,List.set])
 refine wpAnyH_done (by kernel_rfl) ?_ _
 refine QB rfl (fun K hK=>?_)
 go_simp
 refine hK.out _ _ ?_
 clear hK K
 (try simp only [Qd,Qe,List.set])
 cases v2 with
 | zero=>
  have E2:Hid (R = .ok ({ m with next:=p },d2)):=by show _=_;rw [← hR,HX.out];rfl
  have H:=Hid.mk (M2.out.goto p).tail
  clear hR VN HX M2
  go_wp2
  go_end0
  exact Or.inl ⟨_,d2,E2.out,rfl,H.out⟩
 | succ k=>
  have E2:Hid (R = .ok ({ m with rounds:=(m.next,k + 1) :: m.rounds },d2)):=by show _=_;rw [← hR,HX.out];rfl
  have H:=Hid.mk (QaP (m.next,k + 1) hc (M2.out.below (Below.refl _ _).drew))
  clear hR VN HX M2
  go_wp2_with fail
  refine Qu (fun w'=>w'.cell? ⟨M,1,none⟩=some (.int .i64 m.next)) (L:=9) (by kernel_rfl) rfl (by kernel_rfl) (by kernel_rfl) ?_ (fun hHeld=>?_)
  ·go_keep
  refine tk (i:=0) (v:=?_) rfl (by kernel_rfl) (fun _ _ _ h=>h) (by rfl) (by assumption) ?_ ?_
  rotate_left
  ·intro w hSw;(try dsimp only at hSw);go_simp;(try with_reducible rfl)
  (try simp only [Qd,Qe,List.set])
  refine tk (i:=1) (v:=?_) rfl (by kernel_rfl) (fun _ _ _ h=>h) (by rfl) (by assumption) ?_ ?_
  rotate_left
  ·intro w hSw;(try dsimp only at hSw);go_simp;(try with_reducible rfl)
  (try simp only [Qd,Qe,List.set])
  refine tk (i:=2) (v:=?_) rfl (by kernel_rfl) (fun _ _ _ h=>h) (by rfl) (by assumption) ?_ ?_
  rotate_left
  ·intro w hSw;(try dsimp only at hSw);go_simp;(try with_reducible rfl)
  (try simp only [Qd,Qe,List.set])
  refine tk (i:=3) (v:=?_) rfl (by kernel_rfl) (fun _ _ _ h=>h) (by rfl) (by assumption) ?_ ?_
  rotate_left
  ·intro w hSw;(try dsimp only at hSw);go_simp;(try with_reducible rfl)
  (try simp only [Qd,Qe,List.set])
  refine tk (i:=4) (v:=?_) rfl (by kernel_rfl) (fun _ _ _ h=>h) (by rfl) (by assumption) ?_ ?_
  rotate_left
  ·intro w hSw;(try dsimp only at hSw);go_simp;(try with_reducible rfl)
  (try simp only [Qd,Qe,List.set])
  refine tk (i:=5) (v:=?_) rfl (by kernel_rfl) (fun _ _ _ h=>h) (by rfl) (by assumption) ?_ ?_
  rotate_left
  ·intro w hSw;(try dsimp only at hSw);go_simp;(try with_reducible rfl)
  (try simp only [Qd,Qe,List.set])
  refine tk (i:=6) (v:=?_) rfl (by kernel_rfl) (fun _ _ _ h=>h) (by rfl) (by assumption) ?_ ?_
  rotate_left
  ·intro w hSw;(try dsimp only at hSw);go_simp;(try with_reducible rfl)
  (try simp only [Qd,Qe,List.set])
  refine tk (i:=7) (v:=?_) rfl (by kernel_rfl) (fun _ _ _ h=>h) (by rfl) (by assumption) ?_ ?_
  rotate_left
  ·intro w hSw;(try dsimp only at hSw);go_simp;(try with_reducible rfl)
  (try simp only [Qd,Qe,List.set])
  refine tk (i:=8) (v:=?_) rfl (by kernel_rfl) (fun _ _ _ h=>h) (by rfl) (by assumption) ?_ ?_
  rotate_left
  ·intro w hSw;(try dsimp only at hSw);go_simp;(try with_reducible rfl)
  (try simp only [Qd,Qe,List.set])
  refine wpAnyH_done (by kernel_rfl) ?_ _
  refine QB rfl (fun K hK=>?_)
  (go_simp;refine H.out.mono ?_;rintro e w3 ⟨rfl,M3⟩)
  refine hK.out _ _ ?_
  clear hK K
  (try simp only [Qd,Qe,List.set])
  have M3:=Hid.mk M3.tail
  go_wp2
  go_end0
  exact Or.inl ⟨_,d2,E2.out,rfl,M3.out⟩
theorem Qfn {τ:Type} {w u:World} {bs:List (Nat×Obj)} {Z:Wkr τ w bs} {Fr:List (Nat×Obj)} {M:Nat} {m:MSt} {d:τ} {cs:List Value} {n:NumL} {mp:Nat} {ws:List (Int×Nat×Nat)} {ov:Value} {o:Option (Nat×Nat)} (hN:Q16 bs cs n) (hm:(mp,Q0O ws)∈bs) (ho:Q2M bs ov o) (nd:(ws.map (·.1)).Nodup) {r:Except Mar.Fault (MSt×τ)} (hr:Q0e Z.W (.choice n ws o) m d=some r) (h:Mc Z Fr M m false d u) :
  Calls Tryz.prog 295 #[.agg (cs++[.map (some mp),ov]).toArray,.pointer (some ⟨M,0,none⟩)] u (Q2q Z Fr M r):=by
 obtain ⟨mm,rfl,hmem,x,y,z,rfl⟩:=id hN
 obtain ⟨pa,rfl⟩:∃ pa,ov = .pointer pa:=by
  cases o with
  | none=>exact ⟨_,ho⟩
  | some q=>obtain ⟨b,h1,_⟩:=ho;exact ⟨_,h1⟩
 have hmn:=Z.mA
 have hfn:∀ (a b:Value) (W:World),(Instr.field 323 (.agg #[a,b]) 0).run Tryz.prog W = .ok a W:=fun _ _ _=>by kernel_rfl
 have hen:=Z.eA
 have h0:=h.alloc (.cells #[.int .i64 n.low,.int .i64 n.high,.slice x y z,.bool n.wide,.map (some mp),.pointer pa] 321)
 obtain ⟨csl,rsl,c0,c1,c2,c3,c4,cf,cl⟩:=h0.cells
 have VN:=Hid.mk ((h0.below (Below.refl _ _).drew).work fun Fr' hj=>Z.cA hN hm ho nd hj)
 have HR:=Hid.mk hr
 clear h h0 hmem hr ho
 go_enter Tryz.func295,Tryz.ntmps295
 go_wp2_with fail
 refine Qu (fun w'=>w'.cell? ⟨M,0,none⟩=some (.iface Z.T (.pointer (some ⟨Z.D,0,none⟩)))∧w'.cell? ⟨u.heap.size,0,none⟩=some (.int .i64 n.low)∧w'.cell? ⟨u.heap.size,1,none⟩=some (.int .i64 n.high)∧w'.cell? ⟨u.heap.size,2,none⟩=some (.slice x y z)∧w'.cell? ⟨u.heap.size,3,none⟩=some (.bool n.wide)∧w'.cell? ⟨u.heap.size,4,none⟩=some (.map (some mp))∧w'.cell? ⟨u.heap.size,5,none⟩=some (.pointer pa)) (L:=10) (by kernel_rfl) rfl (by kernel_rfl) (by kernel_rfl) ?_ (fun hHeld=>?_)
 ·go_keep
 refine tk (i:=0) (v:=?_) rfl (by kernel_rfl) (fun _ _ _ h=>h) (by rfl) (by assumption) ?_ ?_
 rotate_left
 ·intro w hSw;(try dsimp only at hSw);go_simp;(try with_reducible rfl)
 (try simp only [Qd,Qe,List.set])
 refine tk (i:=1) (v:=?_) rfl (by kernel_rfl) (fun _ _ _ h=>h) (by rfl) (by assumption) ?_ ?_
 rotate_left
 ·intro w hSw;(try dsimp only at hSw);go_simp;(try with_reducible rfl)
 (try simp only [Qd,Qe,List.set])
 refine tk (i:=2) (v:=?_) rfl (by kernel_rfl) (fun _ _ _ h=>h) (by rfl) (by assumption) ?_ ?_
 rotate_left
 ·intro w hSw;(try dsimp only at hSw);go_simp;(try with_reducible rfl)
 (try simp only [Qd,Qe,List.set])
 refine tk (i:=3) (v:=?_) rfl (by kernel_rfl) (fun _ _ _ h=>h) (by rfl) (by assumption) ?_ ?_
 rotate_left
 ·intro w hSw;(try dsimp only at hSw);go_simp;(try with_reducible rfl)
 (try simp only [Qd,Qe,List.set])
 refine tk (i:=4) (v:=?_) rfl (by kernel_rfl) (fun _ _ _ h=>h) (by rfl) (by assumption) ?_ ?_
 rotate_left
 ·intro w hSw;(try dsimp only at hSw);go_simp;(try with_reducible rfl)
 (try simp only [Qd,Qe,List.set])
 refine tk (i:=5) (v:=?_) rfl (by kernel_rfl) (fun _ _ _ h=>h) (by rfl) (by assumption) ?_ ?_
 rotate_left
 ·intro w hSw;(try dsimp only at hSw);go_simp;(try with_reducible rfl)
 (try simp only [Qd,Qe,List.set])
 refine wpAnyH_ready (rs:=[6]) (by kernel_rfl) (by simp) ?_
 refine AllReadyH.cons rfl (fun K hK=>?_) AllReadyH.nil
 (go_simp;refine VN.out.mono ?_;rintro e w2 (⟨v2,d2,hx,rfl,M2⟩ | ⟨f',hx,hk,g,hg,rfl,hc⟩);rotate_left;exact Qa (Or.inr ⟨f',by have:=HR.out;simp only [Q0e,hx] at this;cases this;rfl,hk,g,hg,rfl,hc⟩);obtain ⟨q,hq⟩:∃ q,wayL n ws o v2=some q:=(by have:=HR.out;simp only [Q0e,hx] at this;cases hw:wayL n ws o v2 with | none=>rw [hw] at this;cases this | some q=>exact ⟨q,rfl⟩);have E2:Hid (r = .ok ({ m with next:=q.1 },d2)):=(by show _=_;have:=HR.out;simp only [Q0e,hx,hq] at this;cases this;rfl);have EV:wayV n ws o v2 = .agg #[.int .i64 q.1,.int .i64 q.2]:=(by simp [wayV,hq]);obtain ⟨csl,rsl,c0,c1,c2,c3,c4,cf,cl⟩:=M2.cells;obtain ⟨s0,s1,s2,s3,s4,s5,sf,sl⟩:=Q0j (M2.at (p:=(u.heap.size,.cells #[.int .i64 n.low,.int .i64 n.high,.slice x y z,.bool n.wide,.map (some mp),.pointer pa] 321)) (by simp));have H:=Hid.mk (M2.goto q.1).tail;clear M2 hx hq HR;rw [EV])
 refine hK.out _ _ ?_ (fun hHeld=>?_)
 ·go_keep
 clear hK K
 (try simp only [Qd,Qe,List.set])
 refine tk (i:=7) (v:=?_) rfl (by kernel_rfl) (fun _ _ _ h=>h) (by rfl) (by assumption) ?_ ?_
 rotate_left
 ·intro w hSw;(try dsimp only at hSw);go_simp;(try with_reducible rfl)
 (try simp only [Qd,Qe,List.set])
 refine tk (i:=8) (v:=?_) rfl (by kernel_rfl) (fun _ _ _ h=>h) (by rfl) (by assumption) ?_ ?_
 rotate_left
 ·intro w hSw;(try dsimp only at hSw);go_simp;(try with_reducible rfl)
 (try simp only [Qd,Qe,List.set])
 refine tk (i:=9) (v:=?_) rfl (by kernel_rfl) (fun _ _ _ h=>h) (by rfl) (by assumption) ?_ ?_
 rotate_left
 ·intro w hSw;(try dsimp only at hSw);go_simp;(try with_reducible rfl)
 (try simp only [Qd,Qe,List.set])
 refine wpAnyH_done (by kernel_rfl) ?_ _
 refine QB rfl (fun K hK=>?_)
 go_simp
 refine hK.out _ _ ?_
 clear hK K
 (try simp only [Qd,Qe,List.set])
 go_end0
 exact Or.inl ⟨_,d2,E2.out,rfl,H.out⟩
def Q1w:Qj→Prop
 | .text n _=>0≤n∧n≤4294967295
 | .struct n _=>0≤n∧n≤4294967295
 | .array n _ _=>0≤n∧n≤4294967295
 | .choice _ ws _=>(ws.map (·.1)).Nodup
 | _=>True
structure MOk (m:MSt):Prop where
 calls:m.calls.length≤1000
 rounds:m.rounds.length≤1000
 left:∀ p∈m.rounds,p.2≤4294967295
theorem MOk.goto {m:MSt} (h:MOk m) (p:Nat):MOk { m with next:=p }:=⟨h.calls,h.rounds,h.left⟩
theorem QiE {τ:Type} {w:World} {bs:List (Nat×Obj)} {Z:Wkr τ w bs} {x:Qj} {m m':MSt} {d d':τ} (hg:Q1w x) (ho:MOk m) (hr:Q0e Z.W x m d=some (.ok (m',d'))):MOk m':=by
 cases x with
 | hole=>cases hr
 | fin=>cases hr
 | call dest=>
  simp only [Q0e] at hr
  split at hr
  ·cases hr
  ·rename_i hc
   cases he:Z.W.enter m.calls.length d with
   | error f=>rw [he] at hr;cases hr
   | ok e=>rw [he] at hr;cases hr;exact ⟨by simp;omega,ho.rounds,ho.left⟩
 | ret=>
  simp only [Q0e] at hr
  cases hm:m.calls with
  | nil=>rw [hm] at hr;cases hr
  | cons k ks=>
   rw [hm] at hr
   cases hr
   have:=ho.calls
   rw [hm] at this
   exact ⟨by simp at this ⊢;omega,ho.rounds,ho.left⟩
 | jump dest=>cases hr;exact ho.goto _
 | num n=>
  simp only [Q0e] at hr
  cases he:Z.W.num n d with
  | error f=>rw [he] at hr;cases hr
  | ok e=>rw [he] at hr;cases hr;exact ho
 | text n b=>
  simp only [Q0e] at hr
  cases he:Z.W.text n b d with
  | error f=>rw [he] at hr;cases hr
  | ok e=>rw [he] at hr;cases hr;exact ho
 | struct n b=>
  simp only [Q0e] at hr
  cases he:Z.W.list n b d with
  | error f=>rw [he] at hr;cases hr
  | ok e=>obtain ⟨k,e⟩:=e;rw [he] at hr;cases hr;exact ho
 | array n b dest=>
  simp only [Q0e] at hr
  split at hr
  ·cases hr
  ·rename_i hc
   cases he:Z.W.list n b d with
   | error f=>rw [he] at hr;cases hr
   | ok e=>
    obtain ⟨k,e⟩:=e
    have hk:=Z.small hg.1 hg.2 he
    rw [he] at hr
    cases k with
    | zero=>cases hr;exact ho.goto _
    | succ k=>
     cases hr
     refine ⟨ho.calls,by simp;omega,?_⟩
     intro p hp
     rcases List.mem_cons.1 hp with rfl | hp
     ·exact hk
     ·exact ho.left p hp
 | again=>
  simp only [Q0e] at hr
  cases hm:m.rounds with
  | nil=>rw [hm] at hr;cases hr
  | cons p ps=>
   obtain ⟨f,l⟩:=p
   rw [hm] at hr
   have h1:=ho.rounds
   have h2:=ho.left
   rw [hm] at h1 h2
   simp only [Option.some.injEq,Except.ok.injEq,Prod.mk.injEq] at hr
   obtain ⟨rfl,rfl⟩:=hr
   split
   ·refine ⟨ho.calls,by simpa using h1,?_⟩
    intro q hq
    rcases List.mem_cons.1 hq with rfl | hq
    ·have:=h2 (f,l) (by simp)
     simp only at this ⊢
     omega
    ·exact h2 q (List.mem_cons_of_mem _ hq)
   ·exact ⟨ho.calls,by simp at h1 ⊢;omega,fun q hq=>h2 q (List.mem_cons_of_mem _ hq)⟩
 | choice n ws o=>
  simp only [Q0e] at hr
  cases he:Z.W.arm n (fun k=>(wayL n ws o k).map (·.2)) d with
  | error f=>rw [he] at hr;cases hr
  | ok e=>
   obtain ⟨k,e⟩:=e
   rw [he] at hr
   simp only at hr
   cases hw:wayL n ws o k with
   | none=>rw [hw] at hr;cases hr
   | some q=>rw [hw] at hr;cases hr;exact ho.goto _
theorem Q9p {τ:Type} {r:Except Mar.Fault τ} {m:MSt}:(match r with | .ok d'=>Except.ok (m,d') | .error f=>.error f)=thenE r fun d'=>.ok (m,d'):=by
 cases r<;>rfl
def QiF {τ:Type} {w:World} {bs:List (Nat×Obj)} (Z:Wkr τ w bs) (Fr:List (Nat×Obj)) (M:Nat) (T:TypeId) (sv:Value) (f:Nat) (m:MSt) (d:τ) (r:Except Mar.Fault (MSt×τ)):Prop:=
 (∀ k (u : World), (method (k + 1) T sv "marshal/machine.run").run Tryz.prog u = .ok (f, sv) u) ∧ (∀ (args : Array Value) (u : World), (callFunc f args).run Tryz.prog u = .ok (.enter f args) u) ∧ ∀ u, Mc Z Fr M m false d u → Calls Tryz.prog f #[sv, .pointer (some ⟨M, 0, none⟩)] u (Q2q Z Fr M r)
theorem QiG {τ:Type} {w:World} {bs:List (Nat×Obj)} (Z:Wkr τ w bs) (Fr:List (Nat×Obj)) (M:Nat) {x:Qj} {v:Value} {m:MSt} {d:τ} {r:Except Mar.Fault (MSt×τ)} (hx:Q1X bs v x) (hg:Q1w x) (ho:MOk m) (hr:Q0e Z.W x m d=some r):∃ T sv f,v = .iface T sv∧QiF Z Fr M T sv f m d r:=by
 cases x with
 | hole=>cases hr
 | fin=>cases hr
 | call dest=>
  obtain rfl:=hx
  simp only [Q0e] at hr
  split at hr
  ·cases hr
  ·rename_i hc
   obtain rfl:=Option.some.inj hr
   refine ⟨_,_,274,rfl,fun _ _=>by kernel_rfl,fun _ _=>by kernel_rfl,fun u h=>?_⟩
   have:=QiD dest (by omega) h
   rw [← Q9p] at this
   exact this
 | ret=>
  obtain rfl:=hx
  simp only [Q0e] at hr
  cases hm:m.calls with
  | nil=>rw [hm] at hr;cases hr
  | cons k ks=>
   rw [hm] at hr
   obtain rfl:=Option.some.inj hr
   exact ⟨_,_,270,rfl,fun _ _=>by kernel_rfl,fun _ _=>by kernel_rfl,fun u h=>Qfi hm ho.calls h⟩
 | jump dest=>
  obtain rfl:=hx
  obtain rfl:=Option.some.inj hr
  exact ⟨_,_,296,rfl,fun _ _=>by kernel_rfl,fun _ _=>by kernel_rfl,fun u h=>QiA dest h⟩
 | num n=>
  obtain ⟨cs,rfl,hN⟩:=hx
  obtain rfl:=Option.some.inj hr
  refine ⟨_,_,269,rfl,fun _ _=>by kernel_rfl,fun _ _=>by kernel_rfl,fun u h=>?_⟩
  have:=Qfj hN h
  rw [← Q9p] at this
  exact this
 | text n b=>
  obtain rfl:=hx
  obtain rfl:=Option.some.inj hr
  refine ⟨_,_,289,rfl,fun _ _=>by kernel_rfl,fun _ _=>by kernel_rfl,fun u h=>?_⟩
  have:=QiB n b hg.1 hg.2 h
  rw [← Q9p] at this
  exact this
 | struct n b=>
  obtain rfl:=hx
  obtain rfl:=Option.some.inj hr
  refine ⟨_,_,294,rfl,fun _ _=>by kernel_rfl,fun _ _=>by kernel_rfl,fun u h=>?_⟩
  have:=Qfk n b hg.1 hg.2 h
  have e:(match Z.W.list n b d with | .ok (_,d')=>Except.ok (m,d') | .error f=>.error f)=thenE (Z.W.list n b d) fun p=>.ok (m,p.2):=by cases Z.W.list n b d<;>rfl
  rw [← e] at this
  exact this
 | array n b dest=>
  obtain rfl:=hx
  exact ⟨_,_,298,rfl,fun _ _=>by kernel_rfl,fun _ _=>by kernel_rfl,fun u h=>Qhc n b dest hg.1 hg.2 hr h⟩
 | again=>
  obtain rfl:=hx
  simp only [Q0e] at hr
  cases hm:m.rounds with
  | nil=>rw [hm] at hr;cases hr
  | cons p ps=>
   rw [hm] at hr
   obtain ⟨p1,p2⟩:=p
   obtain rfl:=Option.some.inj hr
   exact ⟨_,_,300,rfl,fun _ _=>by kernel_rfl,fun _ _=>by kernel_rfl,fun u h=>Qhb hm ho.rounds (ho.left (p1,p2) (by rw [hm];simp)) h⟩
 | choice n ws o=>
  obtain ⟨cs,mp,ov,rfl,hN,hm,hoo⟩:=hx
  exact ⟨_,_,295,rfl,fun _ _=>by kernel_rfl,fun _ _=>by kernel_rfl,fun u h=>Qfn hN hm hoo hg hr h⟩
section
variable {τ : Type} {w u : World} {bs : List (Nat × Obj)} {Z : Wkr τ w bs} {Fr : List (Nat × Obj)} {M : Nat} {m : MSt} {en : Bool} {d : τ}
theorem Mc.start (h:Z.J Fr d u) (p:Nat):Mc Z Fr u.heap.size ⟨p,[],[]⟩ false d (u.alloc (mObj Z p (.slice none 0 0) (.slice none 0 0) false)):=
 ⟨[],[],.slice none 0 0,.slice none 0 0,Or.inl ⟨rfl,rfl,rfl,rfl⟩,Or.inl ⟨rfl,rfl,rfl,rfl⟩,Z.alloc h _⟩
theorem Mc.drop (h:Mc Z Fr M m en d u):Z.J Fr d u:=by
 obtain ⟨Ec,Er,csl,rsl,h⟩:=h
 refine Z.sub h.j (fun q hq=>by simp [hq]) ?_
 have hs:List.Sublist Fr (Ec++(Er++(M,mObj Z m.next csl rsl en) :: Fr)):=(List.sublist_cons_self _ _).trans ((List.sublist_append_right _ _).trans (List.sublist_append_right _ _))
 exact (Z.nodup h.j).sublist (hs.map _)
theorem Mc.kp (h:Mc Z Fr M m en d u):Qb [] w u:=Z.kp h.drop
end
def Qhd {τ:Type} {w:World} {bs:List (Nat×Obj)} (Z:Wkr τ w bs) (Fr:List (Nat×Obj)) (M:Nat) (c:List Qj) (z:Except Mar.Fault τ) (k:Nat) (ur:World):Prop:=
 ∃ m d,(Mc Z Fr M m false d ur∧MOk m∧runN Z.W c k m d=some z)∨(z = .ok d∧Mc Z Fr M m true d ur)
theorem QaQ {τ:Type} {W:Wk τ} {c:List Qj} {k:Nat} {m:MSt} {d:τ} {z:Except Mar.Fault τ} (h:runN W c k m d=some z):∃ j x,k=j + 1∧c[m.next]? = some x∧((x = .fin∧z = .ok d)∨(x≠.fin∧∃ r,Q0e W x { m with next:=m.next + 1 } d=some r∧((∃ f,r = .error f∧z = .error f)∨∃ m' d',r = .ok (m',d')∧runN W c j m' d'=some z))):=by
 cases k with
 | zero=>cases h
 | succ j=>
  unfold runN at h
  cases hx:c[m.next]? with
  | none=>rw [hx] at h;cases h
  | some x=>
   rw [hx] at h
   refine ⟨j,x,rfl,rfl,?_⟩
   by_cases hf:x = .fin
   ·subst hf
    cases h
    exact Or.inl ⟨rfl,rfl⟩
   ·have h':(match Q0e W x { m with next:=m.next + 1 } d with
     | none=>none
     | some (.error f)=>some (.error f)
     | some (.ok (m',d'))=>runN W c j m' d')=some z:=by
     cases x<;>first | exact absurd rfl hf | exact h
    refine Or.inr ⟨hf,?_⟩
    cases hs:Q0e W x { m with next:=m.next + 1 } d with
    | none=>rw [hs] at h';cases h'
    | some r=>
     rw [hs] at h'
     refine ⟨r,rfl,?_⟩
     cases r with
     | error f=>cases h';exact Or.inl ⟨f,rfl,rfl⟩
     | ok p=>exact Or.inr ⟨p.1,p.2,rfl,h'⟩
theorem Qe7 {τ:Type} {w u:World} {bs:List (Nat×Obj)} {Z:Wkr τ w bs} {Fr:List (Nat×Obj)} {d:τ} {c:List Qj} {v:Value} {z:Except Mar.Fault τ} {start N:Nat} (hc:Q2N bs v c) (hw:∀ p∈bs,w.heap[p.1]? = some p.2) (hg:∀ x∈c,Q1w x) (hj:Z.J Fr d u) (hr:runN Z.W c N ⟨start,[],[]⟩ d=some z) :
  Calls Tryz.prog 61 #[v,.int .i64 start,.iface Z.T (.pointer (some ⟨Z.D,0,none⟩))] u (Q4J w Z.J Fr (Q8y z) fun _=>.tuple #[]):=by
 obtain ⟨cv,hcv,hlong,hst,hlen⟩:=hc
 obtain ⟨g,cap,rfl,hcap,hcell⟩:∃ g cap,v = .slice (some ⟨g,0,none⟩) c.length cap∧c.length≤cap∧∀ (ur:World),Qb [] w ur→∀ i x,c[i]? = some x→∃ sv,Q1X bs sv x∧ur.cell? ⟨g,i,none⟩=some sv∧g < ur.heap.size:=by
  rcases hlong with ⟨rfl,h0,_⟩ | ⟨g,cap,cur,rfl,hcap,hmem,htk⟩
  ·obtain ⟨j,x,_,hx,_⟩:=QaQ hr
   rw [List.getElem?_eq_none (by omega)] at hx
   cases hx
  ·refine ⟨g,cap,rfl,hcap,fun ur hk i x hx=>?_⟩
   have hgu:ur.heap[g]? = some (.cells cur 226):=(hk.block _ (Qc (hw _ hmem)) (by simp)).trans (hw _ hmem)
   rw [hcv,List.getElem?_map] at hx
   obtain ⟨p,hp,rfl⟩:=Option.map_eq_some_iff.1 hx
   have hlc:c.length=cv.length:=by rw [hcv];simp
   refine ⟨p.2,hst p (List.mem_of_getElem? hp),Qs (xs:=cv.map (·.2)) hgu (by simpa [hlc] using htk) (by rw [List.getElem?_map,hp];rfl),Qc hgu⟩
 have M0:Hid (Qhd Z Fr u.heap.size c z N (u.alloc (mObj Z start (.slice none 0 0) (.slice none 0 0) false))):=⟨_,d,Or.inl ⟨Mc.start hj start,⟨by simp,by simp,by simp⟩,hr⟩⟩
 have HC:=Hid.mk hcell
 have HG:=Hid.mk hg
 clear hcell hj hr hg hst hcv hlong hw
 go_enter Tryz.func61,Tryz.ntmps61
 go_wp2
 go_loopg [] N (fun k ur=>Hid (Qhd Z Fr u.heap.size c z k ur))
 case atStart=>exact M0
 case round=>
  obtain ⟨m,d1,⟨M1,ho,hr⟩ | ⟨rfl,M1⟩⟩:=hrel.out
  ·obtain ⟨csl,rsl,c0,c1,c2,c3,c4,cf,cl⟩:=M1.cells
   obtain ⟨j,x,rfl,hx,hcase⟩:=QaQ hr
   obtain ⟨sv,hsi,hsc,hgl⟩:=HC.out _ M1.kp _ _ hx
   have hlt:m.next < c.length:=by
    rcases Nat.lt_or_ge m.next c.length with h | h
    ·exact h
    ·rw [List.getElem?_eq_none h] at hx;cases hx
   have hgx:=HG.out x (List.mem_of_getElem? hx)
   rcases hcase with ⟨rfl,rfl⟩ | ⟨hf,r,hs,hz⟩
   ·obtain rfl:=hsi
    have hmn : ∀ k (u : World), (method (k + 1) 326 (.agg #[]) "marshal/machine.run").run Tryz.prog u = .ok (297, .agg #[]) u := fun _ _ => by kernel_rfl
    have VE:=Hid.mk (QjJ (M1.goto (m.next + 1)))
    clear M1 hrel M0 hr hx
    go_wp2_with fail
    refine VE.out.mono ?_
    rintro e w2 ⟨rfl,M2⟩
    have M2:=Hid.mk M2
    go_wp2
    go_roundg j
    case measure=>omega
    case rel=>exact ⟨_,d1,Or.inr ⟨rfl,M2.out⟩⟩
   ·obtain ⟨T,sv,f,rfl,hmn,hen,hcalls⟩:=QiG Z Fr u.heap.size hsi hgx (ho.goto (m.next + 1)) hs
    have VE:=Hid.mk (hcalls _ (M1.goto (m.next + 1)))
    have HS:=Hid.mk hs
    have HO:=Hid.mk (fun m' d'=>QiE (Z:=Z) (m':=m') (d':=d') (d:=d1) hgx (ho.goto (m.next + 1)))
    have HZ:=Hid.mk hz
    clear M1 hrel M0 hr hx hcalls hz hs hf hsi hgx ho
    go_wp2_with fail
    refine VE.out.mono ?_
    rintro e w2 (⟨m',d',hx,rfl,M2⟩ | ⟨f',hx,hk,g',hg',rfl,hc'⟩)
    rotate_left
    ·refine Qa (Or.inr ⟨f',?_,hk,g',hg',rfl,hc'⟩)
     rcases HZ.out with ⟨f2,h1,rfl⟩ | ⟨m2,d2,h1,_⟩
     ·rw [hx] at h1;cases h1;rfl
     ·rw [hx] at h1;cases h1
    have M2:=Hid.mk M2
    have HX:=Hid.mk hx
    clear hx
    go_wp2
    go_roundg j
    case measure=>omega
    case rel=>
     rcases HZ.out with ⟨f2,h1,rfl⟩ | ⟨m2,d2,h1,h2⟩
     ·rw [HX.out] at h1;cases h1
     ·have h3:=HX.out
      rw [h3] at h1
      cases h1
      have h4:=HS.out
      rw [h3] at h4
      exact ⟨_,_,Or.inl ⟨M2.out,HO.out _ _ h4,h2⟩⟩
  ·obtain ⟨csl,rsl,c0,c1,c2,c3,c4,cf,cl⟩:=M1.cells
   have J1:=Hid.mk M1.drop
   clear M1 hrel M0
   go_wp2
   go_end0
   exact Or.inl ⟨(),d1,rfl,rfl,J1.out⟩
theorem Qhe {b:List UInt8} {dep fuel:Nat} {n:Int} {f:Bool} {d d':DSt} {k:Nat} (h0:0≤n) (h1:n≤4294967295) (h:(decW b dep fuel).list n f d = .ok (k,d')):k≤4294967295:=by
 obtain ⟨d1,_,h⟩:=QV h
 obtain ⟨p,hc,h⟩:=QV h
 cases h
 unfold Q2j at hc
 split at hc
 ·cases hc
  simp only
  omega
 ·obtain ⟨q,_,hq⟩:=QV hc
  split at hq
  ·cases hq
   omega
  ·cases hq
theorem Qa8 {α:Type} {w:World} {D:Nat} {Fr:List (Nat×Obj)} {b:List UInt8} {dep fuel size:Nat} {r:Except Mar.Fault (α×DSt)} {V:α→Value} {e:Ending} {u':World} (h:Q0K w D Fr [] b dep fuel size r V e u'):Q4J w (fun Fr d u=>∃ nsl,Q07 w D Fr [] b dep fuel size d nsl u) Fr r V e u':=by
 rcases h with ⟨a,d',nsl,h1,h2,h3⟩ | h
 ·exact Or.inl ⟨a,d',h1,h2,nsl,h3⟩
 ·exact Or.inr h
def decZ {w:World} {bs:List (Nat×Obj)} (hw:∀ p∈bs,w.heap[p.1]? = some p.2) (D:Nat) (b:List UInt8) (dep fuel size:Nat) (hfu:fuel≤10000):Wkr DSt w bs where
 W:=decW b dep fuel
 T:=137
 D:=D
 J:=fun Fr d u=>∃ nsl,Q07 w D Fr [] b dep fuel size d nsl u
 base:=by
  rintro Fr d u ⟨nsl,h⟩
  exact ⟨_,_,h.own,fun hk hM ho=>⟨nsl,h.beside hk hM ho⟩⟩
 fE:=324
 fN:=326
 fT:=327
 fL:=325
 fA:=323
 mE:=fun _ _=>by kernel_rfl
 mN:=fun _ _=>by kernel_rfl
 mT:=fun _ _=>by kernel_rfl
 mL:=fun _ _=>by kernel_rfl
 mA:=fun _ _=>by kernel_rfl
 eE:=fun _ _=>by kernel_rfl
 eN:=fun _ _=>by kernel_rfl
 eT:=fun _ _=>by kernel_rfl
 eL:=fun _ _=>by kernel_rfl
 eA:=fun _ _=>by kernel_rfl
 cE:=by
  rintro Fr d u k hk ⟨nsl,h⟩
  exact (Qh3 k (by omega) h).mono fun e u'=>Qa8
 cN:=by
  rintro Fr d u cs n hN ⟨nsl,h⟩
  exact (QdI hN hw hfu h).mono fun e u'=>Qa8
 cT:=by
  rintro Fr d u n f h0 h1 ⟨nsl,h⟩
  exact (Qh7 n f h0 h1 hfu h).mono fun e u'=>Qa8
 cL:=by
  rintro Fr d u n f h0 h1 ⟨nsl,h⟩
  exact (Qh6 n f h0 h1 hfu h).mono fun e u'=>Qa8
 cA:=by
  rintro Fr d u cs n m ws ov o hN hm ho nd ⟨nsl,h⟩
  exact (Qiy hN hm ho nd hw hfu h).mono fun e u'=>Qa8
 small:=Qhe
theorem Q9q (b:ByteArray) (w:World):Calls Tryz.prog 62 #[.string b] w fun e w'=>e = .returned (.agg #[.string b,.int .i64 0])∧w'=w.alloc (.cells #[.string b,.int .i64 0] 139):=by
 go_enter Tryz.func62,Tryz.ntmps62
 go_wp2
 refine bodyPost_ret (v:=.agg #[.string b,.int .i64 0]) (by simp [results,Tryz.results62,go_sem]) rfl ⟨rfl,rfl⟩
theorem Q07.fresh {w u:World} (hk:Qb [] w u) {b:List UInt8} {dep fuel size:Nat} (hl:b.length≤100000):Q07 w u.heap.size [] [] b dep fuel size ⟨0,[]⟩ (.slice none 0 0) (u.alloc (.cells #[.string ⟨b.toArray⟩,.int .i64 0,.int .i64 dep,.int .i64 fuel,.int .i64 size,.slice none 0 0] 142)):=by
 refine ⟨⟨hk.alloc _,?_,?_,?_,?_,?_,?_,?_,?_⟩,Qg rfl,⟨rfl,Or.inl ⟨rfl,rfl⟩⟩,by simp,hl,by simp⟩
 ·intro y hy
  simp [Value.ownBlock] at hy
  subst hy
  exact hk.size
 ·intro y hy
  simp [Value.ownBlock] at hy
  subst hy
  simp
 ·simp [Value.ownBlock]
 ·intro p hp;cases hp
 ·intro p hp;cases hp
 ·simp
 ·intro p hp;cases hp
 ·intro p hp;cases hp
def Q6c (w:World) (r:Except Mar.Fault (List Q2n)) (e:Ending) (u':World):Prop:=
 (∃ ns v,r = .ok ns∧e = .returned v∧Qb [] w u'∧u'.ownsRow w.heap.size 48 5 v ns.length (ns.flatMap Q2A))∨(∃ f,r = .error f∧Qb [] w u'∧Q0c w f.no f.at' e u')
theorem Q6c.throws {w u u':World} {r:Except Mar.Fault (List Q2n)} {f:Mar.Fault} {g:Nat} (hr:r = .error f) (hk:Qb [] w u) (hb:Qb [] u u') (hg:u.heap.size≤g) (hc:u'.heap[g]? = some (.cells #[.int .i64 f.no,.int .i64 f.at'] 83)) :
  Q6c w r (.panicked [{ v:=.iface 79 (.pointer (some ⟨g,0,none⟩)),recovered:=false }]) u':=
 Or.inr ⟨f,hr,hk.young hb (by simp),g,Nat.le_trans hk.size hg,rfl,hc⟩
theorem QjL {w:World} {bs:List (Nat×Obj)} {c:List Qj} {v:Value} {b:List UInt8} {dep fuel size start N:Nat} {z:Except Mar.Fault DSt} (hc:Q2N bs v c) (hw:∀ p∈bs,w.heap[p.1]? = some p.2) (hg:∀ x∈c,Q1w x) (hfu:fuel≤10000) (hsz:size≤100000) (hdp:dep≤64) (hbl:b.length≤maxLen) (hr:runN (decW b dep fuel) c N ⟨start,[],[]⟩ ⟨0,[]⟩=some z) :
  Calls Tryz.prog 35 #[v,.int .i64 start,.string ⟨b.toArray⟩,.agg #[.int .i64 dep,.int .i64 fuel,.int .i64 size]] w (Q6c w (if size < b.length then .error ⟨14,0⟩ else thenE z fun d=>if d.pos < b.length then .error ⟨20,d.pos⟩ else .ok d.nodes)):=by
 have hmx:(b.length:Int)≤9223372036854775807:=by unfold maxLen at hbl;omega
 generalize hR:(if size < b.length then Except.error ⟨14,0⟩ else thenE z fun d=>if d.pos < b.length then Except.error ⟨20,d.pos⟩ else .ok d.nodes)=R
 have HC:=Hid.mk hc
 have HW:=Hid.mk hw
 have HG:=Hid.mk hg
 have HR:=Hid.mk hr
 clear hc hw hg hr
 by_cases hs:size < b.length
 ·have E:Hid (R = .error ⟨14,0⟩):=by show _=_;rw [← hR,if_pos hs]
  have hsi:(size:Int) < (b.length:Int):=by omega
  clear hR
  go_enter Tryz.func35,Tryz.ntmps35
  go_wp2_with (go_at_call 47;refine (QY _ _ _).mono ?_;rintro e w' ⟨rfl,rfl⟩)
  exact Qa (Q6c.throws (f:=⟨14,0⟩) E.out ((Qb.refl [] w).alloc _) ((Qb.refl [] _).alloc _) (by simp) (Qg (by simp)))
 ·have hR':Hid (R=thenE z fun d=>if d.pos < b.length then Except.error ⟨20,d.pos⟩ else .ok d.nodes):=by show _=_;rw [← hR,if_neg hs]
  have hsi:(b.length:Int)≤(size:Int):=by omega
  have J0:Hid (∀ o1 o2,(decZ HW.out (w.heap.size + 1 + 1) b dep fuel size hfu).J [] ⟨0,[]⟩ (((w.alloc o1).alloc o2).alloc (.cells #[.string ⟨b.toArray⟩,.int .i64 0,.int .i64 dep,.int .i64 fuel,.int .i64 size,.slice none 0 0] 142)).drew):=by
   intro o1 o2
   have h:=Q07.fresh (u:=(w.alloc o1).alloc o2) (((Qb.refl [] w).alloc o1).alloc o2) (b:=b) (dep:=dep) (fuel:=fuel) (size:=size) (by omega)
   have e:((w.alloc o1).alloc o2).heap.size=w.heap.size + 1 + 1:=by simp
   rw [e] at h
   exact ⟨_,h.below (Below.refl _ _).drew⟩
  clear hR
  go_enter Tryz.func35,Tryz.ntmps35
  go_wp2_with fail
  refine Qu (fun w'=>w'.cell? ⟨w.heap.size,0,none⟩=some (.int .i64 dep)∧w'.cell? ⟨w.heap.size,1,none⟩=some (.int .i64 fuel)∧w'.cell? ⟨w.heap.size,2,none⟩=some (.int .i64 size)) (L:=5) (by kernel_rfl) rfl (by kernel_rfl) (by kernel_rfl) ?_ (fun hHeld=>?_)
  ·go_keep
  refine tk (i:=0) (v:=?_) rfl (by kernel_rfl) (fun _ _ _ h=>h) (by rfl) (by assumption) ?_ ?_
  rotate_left
  ·intro w hSw;(try dsimp only at hSw);go_simp;(try with_reducible rfl)
  (try simp only [Qd,Qe,List.set])
  refine tk (i:=2) (v:=?_) rfl (by kernel_rfl) (fun _ _ _ h=>h) (by rfl) (by assumption) ?_ ?_
  rotate_left
  ·intro w hSw;(try dsimp only at hSw);go_simp;(try with_reducible rfl)
  (try simp only [Qd,Qe,List.set])
  refine wpAnyH_ready (rs:=[1]) (by kernel_rfl) (by simp) ?_
  refine AllReadyH.cons rfl (fun K hK=>?_) AllReadyH.nil
  (go_simp;go_at_call 62;refine (Q9q _ _).mono ?_;rintro e w1 ⟨rfl,rfl⟩)
  refine hK.out _ _ ?_ (fun hHeld=>?_)
  ·go_keep
  clear hK K
  (try simp only [Qd,Qe,List.set])
  refine tk (i:=3) (v:=?_) rfl (by kernel_rfl) (fun _ _ _ h=>h) (by rfl) (by assumption) ?_ ?_
  rotate_left
  ·intro w hSw;(try dsimp only at hSw);go_simp;(try with_reducible rfl)
  (try simp only [Qd,Qe,List.set])
  refine wpAnyH_ready (rs:=[4]) (by kernel_rfl) (by simp) ?_
  refine AllReadyH.cons rfl (fun K hK=>?_) AllReadyH.nil
  go_simp
  refine hK.out _ _ ?_ (fun hHeld=>?_)
  ·go_keep
  clear hK K
  (try simp only [Qd,Qe,List.set])
  refine wpAnyH_done (by kernel_rfl) ?_ _
  refine QB rfl (fun K hK=>?_)
  go_simp
  refine hK.out _ _ ?_
  clear hK K
  (try simp only [Qd,Qe,List.set])
  go_wp2_with fail
  refine (Qe7 (Z:=decZ HW.out (w.heap.size + 1 + 1) b dep fuel size hfu) (Fr:=[]) (d:=⟨0,[]⟩) HC.out HW.out HG.out (J0.out _ _) HR.out).mono ?_
  rintro e w2 (⟨_,d2,hx,rfl,nsl,M2⟩ | ⟨f,hx,hk,g,hg,rfl,hc⟩)
  rotate_left
  ·exact Qa (Or.inr ⟨f,by rw [hR'.out,Q5f hx];rfl,hk,g,hg,rfl,hc⟩)
  have E0:Hid (R=if d2.pos < b.length then Except.error ⟨20,d2.pos⟩ else .ok d2.nodes):=by show _=_;rw [hR'.out,Q6b hx];rfl
  have VL:=Hid.mk (QcC M2)
  have VA:=Hid.mk (Q69 (M2.below (Below.refl _ _).drew))
  obtain ⟨c0,c1,c2,c3,c4,c5,hfz,hlt⟩:=M2.cells
  have hp:=M2.pos
  have H2:=Hid.mk M2
  clear M2 hx J0 hR'
  by_cases ht:d2.pos < b.length
  ·have E:Hid (R = .error ⟨20,d2.pos⟩):=by show _=_;rw [E0.out,if_pos ht]
   have hti:(d2.pos:Int) < (b.length:Int):=by omega
   clear E0
   go_wp2_with (first
    | (go_at_call 63;refine VL.out.mono ?_;rintro e w3 ⟨rfl,rfl⟩)
    | (go_at_call 64;refine VA.out.mono ?_;rintro e w3 ⟨rfl,rfl⟩)
    | (go_at_call 47;refine (QY _ _ _).mono ?_;rintro e w' ⟨rfl,rfl⟩))
   exact Qa (Q6c.throws (f:=⟨20,d2.pos⟩) E.out H2.out.own.kp ((Qb.refl [] _).drew.alloc _) (by simp) (Qg (by simp)))
  ·have E:Hid (R = .ok d2.nodes):=by show _=_;rw [E0.out,if_neg ht]
   have hti:(b.length:Int)=(d2.pos:Int):=by omega
   clear E0 ht
   go_wp2_with (go_at_call 63;refine VL.out.mono ?_;rintro e w3 ⟨rfl,rfl⟩)
   go_ret
   exact Or.inl ⟨_,_,E.out,rfl,H2.out.own.kp.drew,Qk H2.out.row (Qb.refl [] _).drew (by simp)⟩
def Q47 (n m:Int):Bool:=decide (0≤n) && decide (n≤m)
theorem Q6d (n m:Int) (w:World):Calls Tryz.prog 71 #[.int .i64 n,.int .i64 m] w fun e w'=>e = .returned (.bool (Q47 n m))∧w'=w:=by
 by_cases h0:0≤n
 ·have E:Hid (Q47 n m=decide (n≤m)):=by show _=_;simp [Q47,h0]
  go_enter Tryz.func71,Tryz.ntmps71
  go_wp2
  go_ret
  exact ⟨by rw [E.out];rfl,rfl⟩
 ·have E:Hid (Q47 n m=false):=by show _=_;simp [Q47,h0]
  have h1:n < 0:=by omega
  go_enter Tryz.func71,Tryz.ntmps71
  go_wp2
  go_ret
  exact ⟨by rw [E.out];rfl,rfl⟩
theorem Q0y {b:Nat} {c0 c1 c2:Value} {T:TypeId} {w:World} (h:w.heap[b]? = some (.cells #[c0,c1,c2] T)) :
  w.cell? ⟨b,0,none⟩=some c0∧w.cell? ⟨b,1,none⟩=some c1∧w.cell? ⟨b,2,none⟩=some c2∧(∀ i,w.frozen? ⟨b,i,none⟩=false)∧b < w.heap.size:=by
 refine ⟨?_,?_,?_,?_,Qc h⟩<;>simp [World.cell?,World.frozen?,h]
def mayB (dep fuel size:Int):Bool:=Q47 dep 64 && Q47 fuel 10000 && Q47 size 100000
theorem QjM (dep fuel size:Int) (w:World):Calls Tryz.prog 60 #[.agg #[.int .i64 dep,.int .i64 fuel,.int .i64 size]] w fun e w'=>e = .returned (.bool (mayB dep fuel size))∧Below w.heap.size w w':=by
 have hb:∀ o,Below w.heap.size w (w.alloc o):=fun o=>(Below.refl _ _).alloc (Nat.le_refl _) _
 cases h1:Q47 dep 64 with
 | false=>
  have E:Hid (mayB dep fuel size=false):=by show _=_;simp [mayB,h1]
  go_enter Tryz.func60,Tryz.ntmps60
  go_wp2_with (go_at_call 71;refine (Q6d _ _ _).mono ?_;rintro e w1 ⟨rfl,rfl⟩;simp only [h1])
  go_ret
  exact ⟨by rw [E.out];rfl,hb _⟩
 | true=>
  cases h2:Q47 fuel 10000 with
  | false=>
   have E:Hid (mayB dep fuel size=false):=by show _=_;simp [mayB,h1,h2]
   go_enter Tryz.func60,Tryz.ntmps60
   go_wp2_with (go_at_call 71;refine (Q6d _ _ _).mono ?_;rintro e w1 ⟨rfl,rfl⟩;try simp only [h1,h2])
   go_ret
   exact ⟨by rw [E.out];rfl,hb _⟩
  | true=>
   cases h3:Q47 size 100000 with
   | false=>
    have E:Hid (mayB dep fuel size=false):=by show _=_;simp [mayB,h1,h2,h3]
    go_enter Tryz.func60,Tryz.ntmps60
    go_wp2_with (go_at_call 71;refine (Q6d _ _ _).mono ?_;rintro e w1 ⟨rfl,rfl⟩;try simp only [h1,h2,h3])
    go_ret
    exact ⟨by rw [E.out];rfl,hb _⟩
   | true=>
    have E:Hid (mayB dep fuel size=true):=by show _=_;simp [mayB,h1,h2,h3]
    go_enter Tryz.func60,Tryz.ntmps60
    go_wp2_with (go_at_call 71;refine (Q6d _ _ _).mono ?_;rintro e w1 ⟨rfl,rfl⟩;try simp only [h1,h2,h3])
    go_ret
    exact ⟨by rw [E.out];rfl,hb _⟩
theorem Q9r (w:World):(binOp BinOp.neq 24 .nilIface .nilIface).run Tryz.prog w = .ok (.bool false) w:=by kernel_rfl
theorem Q19 {w:World} {b:Nat} {t:TypeId} {sz n:Nat} {v:Value} {xs:List Value} (h:w.ownsRow b t sz v n xs):∃ ad cap,v = .slice ad n cap:=by
 rcases h.2 with ⟨rfl,h0⟩ | ⟨g,cap,cur,rfl,_⟩
 ·exact ⟨none,0,by rw [h0]⟩
 ·exact ⟨_,_,rfl⟩
theorem Qhf (b:List UInt8) (dep fuel:Nat):(decW b dep fuel).Fair:=by
 intro n v d k d' h
 obtain ⟨d1,_,h⟩:=QV h
 obtain ⟨p,_,h⟩:=QV h
 split at h
 ·cases h
 ·rename_i q hq
  cases h
  simp [hq]
theorem Qhg (b:List UInt8) {dep:Nat} (fuel:Nat) (hd:dep≤64):∀ k d,64≤k→∃ f,(decW b dep fuel).enter k d = .error f:=by
 intro k d hk
 exact ⟨_,if_pos (by omega)⟩
end Go.Proofs.YtmbcibgknckenaaGreatDoor
namespace Go.Proofs.YtmbcibgknckenaaGreatDoor
open Go.RowKit
def Qhh:List UInt8:=[99,111,110,115,116,32,87,73,68,69,32,61,32,55,59,32,101,110,117,109,32,75,105,110,100,32,123,32,65,32,61,32,48,44,32,66,32,61,32,45,51,44,32,67,32,61,32,55,48,48,48,48,32,125,59,32,115,116,114,117,99,116,32,80,97,105,114,32,123,32,105,110,116,32,120,59,32,117,110,115,105,103,110,101,100,32,104,121,112,101,114,32,121,59,32,117,110,115,105,103,110,101,100,32,122,59,32,125,59,32,117,110,105,111,110,32,83,111,109,101,32,115,119,105,116,99,104,32,40,75,105,110,100,32,107,41,32,123,32,99,97,115,101,32,65,58,32,118,111,105,100,59,32,99,97,115,101,32,66,58,32,80,97,105,114,32,112,59,32,100,101,102,97,117,108,116,58,32,111,112,97,113,117,101,32,111,60,57,62,59,32,125,59,32,116,121,112,101,100,101,102,32,83,111,109,101,32,70,101,119,60,51,62,59,32,115,116,114,117,99,116,32,84,114,101,101,32,123,32,115,116,114,105,110,103,32,110,97,109,101,60,49,50,62,59,32,84,114,101,101,32,42,108,101,102,116,59,32,84,114,101,101,32,42,114,105,103,104,116,59,32,98,111,111,108,32,108,101,97,102,59,32,70,101,119,32,102,101,119,59,32,111,112,97,113,117,101,32,115,117,109,91,53,93,59,32,125,59,32,117,110,105,111,110,32,70,108,97,103,32,115,119,105,116,99,104,32,40,98,111,111,108,32,98,41,32,123,32,99,97,115,101,32,84,82,85,69,58,32,70,108,97,103,32,42,110,101,120,116,59,32,99,97,115,101,32,70,65,76,83,69,58,32,104,121,112,101,114,32,104,91,50,93,59,32,125,59,32,115,116,114,117,99,116,32,82,111,119,32,123,32,80,97,105,114,32,97,108,108,60,87,73,68,69,62,59,32,70,108,97,103,32,102,108,97,103,115,91,51,93,59,32,125,59,32,117,110,105,111,110,32,87,111,114,100,32,115,119,105,116,99,104,32,40,117,110,115,105,103,110,101,100,32,117,41,32,123,32,99,97,115,101,32,52,50,57,52,57,54,55,50,57,53,58,32,75,105,110,100,32,107,59,32,99,97,115,101,32,48,58,32,115,116,114,105,110,103,32,115,60,62,59,32,125,59,32,112,114,111,103,114,97,109,32,80,32,123,32,118,101,114,115,105,111,110,32,86,32,123,32,84,114,101,101,32,115,119,97,112,40,84,114,101,101,41,32,61,32,49,59,32,118,111,105,100,32,100,114,111,112,40,80,97,105,114,41,32,61,32,50,59,32,80,97,105,114,32,109,97,107,101,40,118,111,105,100,41,32,61,32,51,59,32,125,32,61,32,49,59,32,118,101,114,115,105,111,110,32,87,32,123,32,87,111,114,100,32,115,97,121,40,87,111,114,100,41,32,61,32,49,59,32,125,32,61,32,51,59,32,125,32,61,32,55,55,59]
def Q7x:ByteArray:=⟨Qhh.toArray⟩
def Q0g:List DefL:=match Q1H Q7x with
 | .ok ds=>ds
 | .error _=>[]
def okB {α:Type}:Except Mar.Fault α→Bool
 | .ok _=>true
 | .error _=>false
theorem QiH:okB (Q1H Q7x)=true:=by kernel_rfl
theorem QaR:Q1H Q7x = .ok Q0g:=by
 have h:=QiH
 unfold Q0g
 cases hx:Q1H Q7x with
 | ok ds=>rfl
 | error f=>rw [hx] at h;cases h
def Qfo:Qj→Bool
 | .text n _=>decide (0≤n) && decide (n≤4294967295)
 | .struct n _=>decide (0≤n) && decide (n≤4294967295)
 | .array n _ _=>decide (0≤n) && decide (n≤4294967295)
 | _=>true
theorem QiI {x:Qj} (h:Qfo x=true) (h2:Q6a x):Q1w x:=by
 cases x<;>simp_all [Qfo,Q1w,Q6a]
theorem Qfp:(Q09 Q0g).1.all Qfo=true:=by kernel_rfl
theorem Qhi:∀ x∈(Q09 Q0g).1,Q1w x:=fun x hx=>QiI (List.all_eq_true.1 Qfp x hx) (QcG Q0g x hx)
def Qa9:Ty→Bool
 | .arr (.arr _ _ _) _ _=>false
 | .arr (.opt _) _ _=>false
 | .opt (.arr _ _ _)=>false
 | .opt (.opt _)=>false
 | _=>true
theorem QcI {t:Ty} (h:Qa9 t=true):Q0I t:=by
 cases t with
 | arr o n f=>cases o<;>simp_all [Qa9,Q0I,Flat]
 | opt o=>cases o<;>simp_all [Qa9,Q0I,Flat]
 | _=>trivial
def Qfq:DefL→Bool
 | .prog _ _ vs _=>!vs.isEmpty && decide (vs.length≤4) && vs.all fun v=>decide (v.procs.length≤8) && v.procs.all fun p=>Qa9 p.res && Qa9 p.arg
 | _=>true
theorem QiJ {d:DefL} (h:Qfq d=true):Q4d d:=by
 cases d with
 | prog t a vs n=>
  simp only [Qfq,Bool.and_eq_true,List.all_eq_true,decide_eq_true_eq,Bool.not_eq_true'] at h
  refine ⟨by intro e;subst e;simp at h,h.1.2,fun v hv=>⟨(h.2 v hv).1,fun p hp=>⟨QcI ((h.2 v hv).2 p hp).1,QcI ((h.2 v hv).2 p hp).2⟩⟩⟩
 | _=>trivial
theorem Qfr:Q0g.all Qfq=true:=by kernel_rfl
theorem Qfs:∀ d∈Q0g,Q4d d:=fun d hd=>QiJ (List.all_eq_true.1 Qfr d hd)
def ndB:List DefL→Bool
 | []=>true
 | d :: ds=>(!Q0A d || ds.all fun e=>!Q0A e || !decide ((Qw e).1=(Qw d).1)) && ndB ds
theorem Qkj:∀ {ds:List DefL},ndB ds=true→∀ az d bs,ds=az++d :: bs→Q0A d=true→∀ e∈bs,Q0A e=true→(Qw e).1≠(Qw d).1:=by
 intro ds h az
 induction az generalizing ds with
 | nil=>
  intro d bs hd ht e he hte hc
  subst hd
  simp only [List.nil_append,ndB,Bool.and_eq_true,ht,Bool.not_true,Bool.false_or] at h
  have:=List.all_eq_true.1 h.1 e he
  simp [hte,hc] at this
 | cons a az ih=>
  intro d bs hd
  subst hd
  simp only [List.cons_append,ndB,Bool.and_eq_true] at h
  exact ih h.2 d bs rfl
def QcJ (ds:List DefL):Bool:=ds.all fun d=>(Q4E d).all fun t=>(QP t).all fun m=>(Q22 ds m.1).isSome
theorem Qhj {ds:List DefL} (h:QcJ ds=true):∀ d∈ds,Q0A d=true→Q9f (Q22 ds) d:=by
 intro d hd _ t ht m hm
 exact List.all_eq_true.1 (List.all_eq_true.1 (List.all_eq_true.1 h d hd) t ht) m hm
def Qft:DefL→Option (List UInt8)
 | .union _ _ s _=>match s.ty with
  | .named n _=>some n
  | _=>none
 | _=>none
def QcK:DefL→Option (List UInt8)
 | .enum n _ _=>some n
 | _=>none
def selB:List DefL→List DefL→Bool
 | _,[]=>true
 | pre,d :: ds=>(match Qft d with | some n=>pre.any fun e=>decide (QcK e=some n) | none=>true) && selB (pre++[d]) ds
theorem QjN:∀ {ds pre:List DefL},selB pre ds=true→∀ az d bs n,ds=az++d :: bs→Qft d=some n→∃ e∈pre++az,QcK e=some n:=by
 intro ds pre h az
 induction az generalizing ds pre with
 | nil=>
  intro d bs n hd hs
  subst hd
  simp only [List.nil_append,selB,hs,Bool.and_eq_true] at h
  obtain ⟨e,he,hx⟩:=List.any_eq_true.1 h.1
  exact ⟨e,by simp [he],by simpa using hx⟩
 | cons a az ih=>
  intro d bs n hd hs
  subst hd
  simp only [List.cons_append,selB,Bool.and_eq_true] at h
  obtain ⟨e,he,hx⟩:=ih h.2 d bs n rfl hs
  exact ⟨e,by simpa using he,hx⟩
theorem QiK {ds:List DefL} (hT:Q86 ds) (h1:ndB ds=true) (h2:QcJ ds=true) (h3:selB [] ds=true):Whole ds where
 nd:=Qkj h1
 known:=Qhj h2
 sel:=by
  intro az t a s arms bs n a' hd hs
  obtain ⟨e,he,hx⟩:=QjN h3 az _ bs n hd (by simp [Qft,hs])
  simp only [List.nil_append] at he
  obtain ⟨as1,as2,rfl⟩:=List.append_of_mem he
  cases e with
  | enum m b ms=>
   simp only [QcK,Option.some.injEq] at hx
   subst hx
   exact ⟨as1,b,ms,as2,rfl⟩
  | _=>cases hx
 sim:=by
  intro t a s arms hm
  exact (hT _ hm).1
 deep:=by
  intro d hd t ht
  have h:=hT d hd
  cases d with
  | typedef d=>
   simp only [Q4E,List.mem_singleton] at ht
   subst ht
   exact Q1O.deep h
  | struct a b ms=>
   obtain ⟨m,hm,rfl⟩:=List.mem_map.1 ht
   exact Q1O.deep (h m hm)
  | union a b s arms=>
   obtain ⟨m,hm,rfl⟩:=List.mem_map.1 ht
   rcases h.2 m hm with h | h
   ·exact Q1O.deep h
   ·rw [h];trivial
  | const a b c=>cases ht
  | enum a b c=>cases ht
  | prog a b c d=>cases ht
theorem QjO:ndB Q0g=true:=by kernel_rfl
theorem Qfu:QcJ Q0g=true:=by kernel_rfl
theorem QiL:selB [] Q0g=true:=by kernel_rfl
theorem Qaa:Whole Q0g:=QiK (Q8O QaR) QjO Qfu QiL
end Go.Proofs.YtmbcibgknckenaaGreatDoor
namespace Go.Proofs.YtmbcibgknckenaaGreatDoor
open Go.RowKit
open Go.MapKept
def Qe8 (w:World) (e:Ending) (w':World):Prop:=∃ B bs,e = .returned (.pointer (some ⟨B,0,none⟩))∧Qb [] w w'∧QcB bs B Q0g∧(∀ p∈bs,w'.heap[p.1]? = some p.2)∧w.heap.size≤B
theorem QiM {w:World} (hg:Gl w):Calls Tryz.prog 13 #[] w (Qe8 w):=by
 have hnq:=Q9r
 have VR:=Hid.mk (QjF QaR Qfs hg)
 clear hg
 go_enter Tryz.func13,Tryz.ntmps13
 go_wp2_with fail
 refine VR.out.mono ?_
 rintro e w1 ⟨B,bs,rfl,hk,hS,hh,hB⟩
 have H:Hid (Qe8 w (.returned (.pointer (some ⟨B,0,none⟩))) w1):=⟨B,bs,rfl,hk,hS,hh,hB⟩
 clear hk hS hh hB VR
 go_wp2
 go_ret
 exact H.out
theorem QiN (w:World):Calls Tryz.prog 15 #[] w fun e w'=>e = .returned (.agg #[.int .i64 64,.int .i64 10000,.int .i64 100000])∧Below w.heap.size w w':=by
 have hb:∀ o,Below w.heap.size w (w.alloc o):=fun o=>(Below.refl _ _).alloc (Nat.le_refl _) _
 go_enter Tryz.func15,Tryz.ntmps15
 go_wp2
 refine bodyPost_ret (v:=.agg #[.int .i64 64,.int .i64 10000,.int .i64 100000]) (by simp [results,Tryz.results15,go_sem]) rfl ⟨rfl,hb _⟩
def Q6y (c:Int) (n:Nat):Nat:=(if c < 0 then -(c + 1) else c).toNat % n
theorem QcL (c:Int) (n:Nat) (h1:-9223372036854775808≤c) (h2:c≤9223372036854775807) (hn:0 < n) (hn2:n≤1000000) (w:World):Calls Tryz.prog 20 #[.int .i64 c,.int .i64 n] w fun e w'=>e = .returned (.int .i64 (Q6y c n))∧w'=w:=by
 have hn0:(n:Int)≠0:=by omega
 by_cases h0:c < 0
 ·have E:Hid ((Q6y c n:Int) = -(c + 1).tmod n):=by
   show _=_
   rw [← Int.neg_tmod]
   unfold Q6y
   rw [if_pos h0]
   obtain ⟨k,hk⟩:=Int.eq_ofNat_of_zero_le (show 0≤-(c + 1) by omega)
   rw [hk]
   rfl
  go_enter Tryz.func20,Tryz.ntmps20
  go_wp2
  go_ret
  exact ⟨by rw [E.out];rfl,rfl⟩
 ·have E:Hid ((Q6y c n:Int)=c % n):=by
   show _=_
   unfold Q6y
   rw [if_neg h0]
   obtain ⟨k,hk⟩:=Int.eq_ofNat_of_zero_le (show 0≤c by omega)
   rw [hk]
   rfl
  go_enter Tryz.func20,Tryz.ntmps20
  go_wp2
  go_ret
  exact ⟨by rw [E.out];rfl,rfl⟩
theorem QcM (c:Int) {n:Nat} (hn:0 < n):Q6y c n < n:=Nat.mod_lt _ hn
end Go.Proofs.YtmbcibgknckenaaGreatDoor
namespace Go.Proofs.YtmbcibgknckenaaGreatDoor
def gd (c:Bool) (v:Value):Value:=match c with
 | true=>undef
 | false=>v
end Go.Proofs.YtmbcibgknckenaaGreatDoor
namespace Go.Proofs.YtmbcibgknckenaaGreatDoor
open Go.RowKit
open Go.MapKept
theorem Qfv:∀ (ns:List Q2n) (k:Nat) (x:Q2n) (j:Nat),ns[k]? = some x→j < 5→(ns.flatMap Q2A)[k * 5 + j]? = (Q2A x)[j]?:=by
 intro ns
 induction ns with
 | nil=>intro k x j h _;simp at h
 | cons y ys ih=>
  intro k x j h hj
  rw [List.flatMap_cons]
  cases k with
  | zero=>
   simp only [List.getElem?_cons_zero,Option.some.injEq] at h
   subst h
   rw [List.getElem?_append_left (by simp;omega)]
   simp
  | succ k=>
   simp only [List.getElem?_cons_succ] at h
   rw [List.getElem?_append_right (by simp;omega)]
   have e:(k + 1) * 5 + j - (Q2A y).length=k * 5 + j:=by simp;omega
   rw [e]
   exact ih k x j h hj
def Q1d (c:UInt8):Value:=.int .u8 c.toNat
theorem infoByte:(Tryz.prog.info? 5).map (fun i=>(i.zero,i.size,i.bytes))=some (some (.int .u8 0),1,1):=by kernel_rfl
section
variable {P : Program} (w : World)
theorem Q6z (base:Nat) (t u ty e:TypeId) (i:TypeInfo) (ht:P.underlying t=some (.slice e)) (hu:P.underlying u=some .string) (hi:P.info? e=some i) (hz:i.zero=some (.int .u8 0))
  (hsize:i.size=1) (hby:i.bytes=1) (v:Value) (n:Nat) (xs:List Value) (hown:w.ownsRow base e 1 v n xs) (s:ByteArray) (hs:v = .slice none 0 0→0 < s.size)
  (h63:n + s.size≤maxLen) (hbytes:n + s.size≤140737488355328) (hbase:base≤w.heap.size) :
  ∃ g cap w',(Builtin.append_ #[t,u] ty #[v,.string s]).run P w = .ok (.slice (some ⟨g,0,none⟩) (n + s.size) cap) w'∧w'.ownsRow base e 1 (.slice (some ⟨g,0,none⟩) (n + s.size) cap) (n + s.size) (xs++Lib.strCells s)∧w.grownBy w' v.ownBlock∧(v.ownBlock=some g∨g=w.heap.size)∧g < w'.heap.size:=by
 obtain ⟨v',w',hr,h2,h3,_⟩:=Lib.run_append_own_string (P:=P) w base t u ty e i ht hu hi hz hsize hby v n xs hown s h63 hbytes hbase
 have key:∃ g cap,v' = .slice (some ⟨g,0,none⟩) (n + s.size) cap∧(v.ownBlock=some g∨g=w.heap.size):=by
  have hsmall:n + s.size≤9223372036854775807:=by simp only [maxLen] at h63;omega
  rcases hown.2 with ⟨rfl,rfl⟩ | ⟨g0,cap0,cur,rfl,_,hg,hnc,_,hcs,_⟩
  ·have hr2:=run_append_nil_string (P:=P) w t u ty e i (.int .u8 0) ht hu hi hz s (hs rfl) (by omega) (by rw [hby];omega)
   rw [hr2] at hr
   injection hr with hr _
   exact ⟨w.heap.size,grownCap w s.size 0 e,by rw [← hr,Nat.zero_add],Or.inr rfl⟩
  ·by_cases hroom:n + s.size≤cap0
   ·have hr2:=Lib.run_append_room_string (P:=P) w t u ty e i ht hu hi hsize g0 n cap0 cur hg s hroom (by simp at hcs;omega)
    rw [hr2] at hr
    injection hr with hr _
    exact ⟨_,_,hr.symm,Or.inl rfl⟩
   ·have hxl:xs.length=n:=by simpa using hown.1
    have hr2:=Lib.run_append_grow_string (P:=P) w t u ty e i (.int .u8 0) ht hu hi hz ⟨g0,0,none⟩ n cap0 xs (by rw [hsize];simpa using hxl) (hown.cells (g:=g0) rfl) s (by omega) (by omega) (by rw [hby];exact growslice_fits (by omega) (by omega))
    rw [hr2] at hr
    injection hr with hr _
    exact ⟨_,_,hr.symm,Or.inr rfl⟩
 obtain ⟨g,cap,rfl,hat⟩:=key
 exact ⟨g,cap,w',hr,h2,h3,hat,(Q0z h2 (g:=g) rfl).2⟩
theorem Q5g {ops:Array Oper} {rest:List Oper} {o:Oper} {a:Act} {Q:Exit→Act→World→Prop} (hgd:o.guard=none) (sl x:Operand) (t u:TypeId)
  (ho:o.op = .call { callee:=.builtin .append,args:=#[sl,x],argTypes:=#[t,u] })
  (base:Nat) (e:TypeId) (i:TypeInfo) (ht:P.underlying t=some (.slice e)) (hu:P.underlying u=some .string) (hi:P.info? e=some i) (hz:i.zero=some (.int .u8 0))
  (hsize:i.size=1) (hby:i.bytes=1) (v:Value) (n:Nat) (xs:List Value) (hs:a.eval sl=v) (hown:w.ownsRow base e 1 v n xs) (s:ByteArray) (hx:a.eval x = .string s) (h0:v = .slice none 0 0→0 < s.size)
  (h63:n + s.size≤maxLen) (hbytes:n + s.size≤140737488355328) (hbase:base≤w.heap.size)
  (h:∀ g cap w',w'.ownsRow base e 1 (.slice (some ⟨g,0,none⟩) (n + s.size) cap) (n + s.size) (xs++Lib.strCells s)→w.grownBy w' v.ownBlock→(v.ownBlock=some g∨g=w.heap.size)→g < w'.heap.size→wpList P ops Q rest (a.put o.dst (.slice (some ⟨g,0,none⟩) (n + s.size) cap)) w'):wpList P ops Q (o :: rest) a w:=by
 refine wpList_plain hgd fun K hK=>?_
 obtain ⟨g,cap,w',hr,h2,h3,h4,h5⟩:=Q6z (P:=P) w base t u o.type e i ht hu hi hz hsize hby v n xs hown s h0 h63 hbytes hbase
 unfold Oper.wp execOp
 simp only [ho,resolve,invoke,builtin,Sem.run_bind,Sem.run_pure,Result.andThen_ok,List.map_toArray,List.map_cons,List.map_nil,hs,hx,hr]
 exact hK _ _ (h g cap w' h2 h3 h4 h5)
end
theorem Q6e (l:List UInt8):Lib.strCells ⟨l.toArray⟩=l.map Q1d:=by simp [Lib.strCells,Q1d]
def Qhk (base:Nat) (u:World) (v:Value) (n:Nat) (xs:List Value) (k:Nat) (news:List Value) (g cap:Nat) (u3:World):Prop:=∃ u2,Below u.heap.size u u2∧u3.ownsRow base 5 1 (.slice (some ⟨g,0,none⟩) (n + k) cap) (n + k) (xs++news)∧u2.grownBy u3 v.ownBlock∧(v.ownBlock=some g∨g=u2.heap.size)∧g < u3.heap.size
theorem Qfw (m:Nat) (hm:m < 4294967296):(Q3O m).map Q1d=[.int .u8 ((m:Int) / 16777216),.int .u8 ((m:Int) / 65536 % 256),.int .u8 ((m:Int) / 256 % 256),.int .u8 ((m:Int) % 256)]:=by
 have e:((m:Int) % 4294967296).toNat=m:=by omega
 simp only [Q3O,e,List.map_cons,List.map_nil,Q1d,UInt8.toNat_ofNat']
 have e1:((m / 16777216 % 2 ^ 8:Nat):Int)=(m:Int) / 16777216:=by omega
 have e2:((m / 65536 % 2 ^ 8:Nat):Int)=(m:Int) / 65536 % 256:=by omega
 have e3:((m / 256 % 2 ^ 8:Nat):Int)=(m:Int) / 256 % 256:=by omega
 have e4:((m % 2 ^ 8:Nat):Int)=(m:Int) % 256:=by omega
 rw [e1,e2,e3,e4]
theorem Q76 {base n:Nat} {u:World} {v:Value} {xs:List Value} (m:Nat) (hm:m < 4294967296) (hown:u.ownsRow base 5 1 v n xs) (hb:base≤u.heap.size) (hn:n≤1000000) :
  Calls Tryz.prog 109 #[v,.int .u32 m] u fun e u3=>∃ g cap,e = .returned (.slice (some ⟨g,0,none⟩) (n + 4) cap)∧Qhk base u v n xs 4 ((Q3O m).map Q1d) g cap u3:=by
 obtain ⟨ad,cap,rfl⟩:=Q19 hown
 obtain ⟨i0,hi0,hz0,hz1,hz2⟩:=info_parts infoByte
 have hz3:(Value.int .u8 0).cells.size=1:=rfl
 have hl1:n + 4≤maxLen:=by unfold maxLen;omega
 have hl2:(n + 4) * 1≤140737488355328:=by omega
 have hown5:Hid (∀ o,(u.alloc o).ownsRow base 5 1 (.slice ad n cap) n xs):=fun o=>Qk hown ((Qb.refl [] u).alloc o) (by simp)
 have W:=Hid.mk (Qfw m hm)
 clear hown
 go_enter Tryz.func109,Tryz.ntmps109
 go_wp2_with (at_builtin;refine wpList_append_lies _ (by rfl) _ _ _ (by rfl) base 5 i0 _ 1 1 Tryz.underlying90 hi0 hz0 hz1 hz2 hz3 (by omega) (.slice ad n cap) n xs (by rfl) (hown5.out _) ⟨u.heap.size,0,none⟩ 4 4 [.int .u8 ((m:Int) / 16777216),.int .u8 ((m:Int) / 65536 % 256),.int .u8 ((m:Int) / 256 % 256),.int .u8 ((m:Int) % 256)] (by rfl) (by rfl) (World.news_of_block (cs:=#[.int .u8 ((m:Int) / 16777216),.int .u8 ((m:Int) / 65536 % 256),.int .u8 ((m:Int) / 256 % 256),.int .u8 ((m:Int) % 256)]) (t:=5) (fr:=(0,0)) (heap_alloc_new u _)) (by simp [Value.oneCell']) (by omega) hl1 hl2 (by simp;omega) (u.heap.size + 1) (by simp) ?_;intro g cap' w8 hown8 hgrow hat hlt8)
 go_ret
 exact ⟨g,cap',rfl,_,(Below.refl _ _).alloc (Nat.le_refl _) _,by rw [W.out];exact hown8,hgrow,by simpa using hat,hlt8⟩
def Qe9 (w:World) (g o:Nat) (x:QQ):Prop:=w.cell? ⟨g,o,none⟩=some (.int .i64 x.kind)∧w.cell? ⟨g,o + 1,none⟩=some (.int .i64 x.n)∧w.cell? ⟨g,o + 2,none⟩=some (.string ⟨x.s.toArray⟩)∧w.cell? ⟨g,o + 3,none⟩=some (.int .i64 x.at')∧w.cell? ⟨g,o + 4,none⟩=some (.int .i64 x.len)
def Q2P (w:World) (nsl:Value) (v:List QQ):Prop:=∃ ad cap,nsl = .slice ad v.length cap∧v.length≤cap∧cap≤maxLen∧∀ k x,v[k]? = some x→∃ g o,ad=some ⟨g,o,none⟩∧Qe9 w g (o + k * 5) x
abbrev Q4K (x:QQ):List Value:=[.int .i64 x.kind,.int .i64 x.n,.string ⟨x.s.toArray⟩,.int .i64 x.at',.int .i64 x.len]
structure QW (w:World) (D:Nat) (Fr:List (Nat×Obj)) (nsl:Value) (v:List QQ) (dep fuel size:Nat) (e:ESt) (osl:Value) (u:World):Prop where
 own:Own w ([D]++(osl.ownBlock.toList++[])) Fr [] u
 box:u.heap[D]? = some (.cells #[nsl,.int .i64 e.next,.int .i64 dep,.int .i64 fuel,.int .i64 size,osl] 135)
 row:u.ownsRow w.heap.size 5 1 osl e.out.length (e.out.map Q1d)
 nodes:Q2P w nsl v
 few:e.next≤10000
 out:e.out.length≤100000
 lim:size≤100000∧fuel≤10000
def Q1o {α:Type} (w:World) (D:Nat) (Fr:List (Nat×Obj)) (nsl:Value) (v:List QQ) (dep fuel size:Nat) (r:Except Mar.Fault (α×ESt)) (V:α→Value) (en:Ending) (u':World):Prop:=
 (∃ a e' osl',r = .ok (a,e')∧en = .returned (V a)∧QW w D Fr nsl v dep fuel size e' osl' u')∨(∃ f,r = .error f∧Qb [] w u'∧Q0c w f.no f.at' en u')
theorem Q1o.throws {α:Type} {w u u':World} {D:Nat} {Fr:List (Nat×Obj)} {nsl:Value} {v:List QQ} {dep fuel size:Nat} {r:Except Mar.Fault (α×ESt)} {V:α→Value} {f:Mar.Fault} {g:Nat} (hr:r = .error f) (hk:Qb [] w u) (hb:Qb [] u u') (hg:u.heap.size≤g) (hc:u'.heap[g]? = some (.cells #[.int .i64 f.no,.int .i64 f.at'] 83)) :
  Q1o w D Fr nsl v dep fuel size r V (.panicked [{ v:=.iface 79 (.pointer (some ⟨g,0,none⟩)),recovered:=false }]) u':=
 Or.inr ⟨f,hr,hk.trans hb,g,Nat.le_trans hk.size hg,rfl,hc⟩
section
variable {w u u' : World} {D : Nat} {Fr : List (Nat × Obj)} {nsl : Value} {v : List QQ} {dep fuel size : Nat} {e : ESt} {osl : Value}
theorem QW.beside {M:List Nat} {Fr':List (Nat×Obj)} (h:QW w D Fr nsl v dep fuel size e osl u) (hk:Qb M u u') (hM:∀ m∈M,m ∉ [D]++(osl.ownBlock.toList++[])) (ho:Own w ([D]++(osl.ownBlock.toList++[])) Fr' [] u'):QW w D Fr' nsl v dep fuel size e osl u':=
 ⟨ho,(hk.block _ (Qc h.box) (fun hm=>hM _ hm (by simp))).trans h.box,Qk h.row hk (fun g hg hm=>hM _ hm (by simp [hg])),h.nodes,h.few,h.out,h.lim⟩
theorem QW.below (h:QW w D Fr nsl v dep fuel size e osl u) (hb:Below u.heap.size u u'):QW w D Fr nsl v dep fuel size e osl u':=h.beside (Qb.of_below [] hb) (by simp) (h.own.below hb)
theorem QW.alloc (h:QW w D Fr nsl v dep fuel size e osl u) (o:Obj):QW w D ((u.heap.size,o) :: Fr) nsl v dep fuel size e osl (u.alloc o):=h.beside ((Qb.refl [] u).alloc o) (by simp) (h.own.alloc o)
theorem QW.tail {p:Nat×Obj} (h:QW w D (p :: Fr) nsl v dep fuel size e osl u):QW w D Fr nsl v dep fuel size e osl u:=h.beside (Qb.refl [] u) (by simp) h.own.tail
theorem QW.setFr {m:Nat} {o o':Obj} (h:QW w D ((m,o) :: Fr) nsl v dep fuel size e osl u) (hk:Qb [m] u u') (ho:u'.heap[m]? = some o'):QW w D ((m,o') :: Fr) nsl v dep fuel size e osl u':=
 h.beside hk (by simpa using (h.own.hf (m,o) (by simp)).2) (h.own.setFr hk ho)
theorem QW.sub {Fr':List (Nat×Obj)} (h:QW w D Fr nsl v dep fuel size e osl u) (hs:∀ p∈Fr',p∈Fr) (hn:(Fr'.map (·.1)).Nodup):QW w D Fr' nsl v dep fuel size e osl u:=h.beside (Qb.refl [] u) (by simp) (h.own.sub hs hn)
theorem QW.slice (h:QW w D Fr nsl v dep fuel size e osl u):∃ ad cap,osl = .slice ad e.out.length cap:=Q19 h.row
theorem QW.move (h:QW w D Fr nsl v dep fuel size e osl u) (hp:e.next + 1≤10000):QW w D Fr nsl v dep fuel size { e with next:=e.next + 1 } osl (u.setCell ⟨D,1,none⟩ (.int .i64 ((e.next:Int) + 1))):=by
 have hk:Qb [D] u (u.setCell ⟨D,1,none⟩ (.int .i64 ((e.next:Int) + 1))):=(Qb.refl [D] u).setIn (by simp) _
 have hn:=h.own.nd
 simp at hn
 refine ⟨h.own.turn hk (by simp),Qn (i:=1) h.box _,Qk h.row hk (fun g hg hm=>?_),h.nodes,hp,h.out,h.lim⟩
 simp at hm
 subst hm
 exact hn.1 hg
theorem QW.grow {u2 u3:World} {g cap k:Nat} {l:List UInt8} (h:QW w D Fr nsl v dep fuel size e osl u) (hb:Below u.heap.size u u2) (hlen:e.out.length + k≤100000) (hk:l.length=k)
  (hown:u3.ownsRow w.heap.size 5 1 (.slice (some ⟨g,0,none⟩) (e.out.length + k) cap) (e.out.length + k) (e.out.map Q1d++l.map Q1d))
  (hg:u2.grownBy u3 osl.ownBlock) (hat:osl.ownBlock=some g∨g=u2.heap.size) (hlt:g < u3.heap.size) :
  QW w D Fr nsl v dep fuel size { e with out:=e.out++l } (.slice (some ⟨g,0,none⟩) (e.out.length + k) cap) (u3.setCell ⟨D,5,none⟩ (.slice (some ⟨g,0,none⟩) (e.out.length + k) cap)):=by
 obtain ⟨hwg,_⟩:=Q0z hown (g:=g) rfl
 have e2:=h.below hb
 have hkg:=Q05 hg
 have ho:=Own.grow (A:=[D]) (B:=[]) e2.own hg hat hlt hwg
 have hks:Qb [D] u3 (u3.setCell ⟨D,5,none⟩ (.slice (some ⟨g,0,none⟩) (e.out.length + k) cap)):=(Qb.refl [D] u3).setIn (by simp) _
 have hn:=h.own.nd
 have hn2:=ho.nd
 simp at hn hn2
 have hd:D ∉ osl.ownBlock.toList:=by
  intro hm
  exact hn.1 (by simpa using hm)
 refine ⟨ho.turn hks (by simp),Qn (i:=5) ((hkg.block _ (Qc e2.box) hd).trans e2.box) _,?_,h.nodes,h.few,by simp [hk];omega,h.lim⟩
 have:=Qk hown hks (by
  intro g' h'
  simp only [Value.ownBlock,Option.some.injEq] at h'
  subst h'
  simp
  omega)
 simpa [hk] using this
theorem QW.boxAt {u2 u3:World} (h:QW w D Fr nsl v dep fuel size e osl u) (hb:Below u.heap.size u u2) (hg:u2.grownBy u3 osl.ownBlock):u3.cell? ⟨D,5,none⟩=some osl∧(∀ i,u3.frozen? ⟨D,i,none⟩=false)∧D < u3.heap.size:=by
 have hl:=Qc h.box
 have hn:=h.own.nd
 have hz:=hb.size
 simp at hn
 obtain ⟨_,_,_,_,_,h5,h6,h7⟩:=Q0j ((hg.block _ (by omega) (fun e=>hn.1 (by rw [← e]))).trans ((hb.block _ hl).trans h.box))
 exact ⟨h5,h6,h7⟩
end
theorem QaS {w u:World} {D:Nat} {Fr:List (Nat×Obj)} {nsl:Value} {v:List QQ} {dep fuel size:Nat} {e:ESt} {osl:Value} (k:Nat) (hk:k≤4294967298) (h1:1≤e.next) (h:QW w D Fr nsl v dep fuel size e osl u) :
  Calls Tryz.prog 321 #[.pointer (some ⟨D,0,none⟩),.int .i64 k] u (Q1o w D Fr nsl v dep fuel size (thenE (Q2J size k e) fun e'=>.ok ((),e')) fun _=>.tuple #[]):=by
 obtain ⟨c0,c1,c2,c3,c4,c5,hfz,hlt⟩:=Q0j h.box
 obtain ⟨ad,cap,rfl⟩:=h.slice
 have hl:=h.out
 have hf:=h.few
 obtain ⟨hsz,hfu⟩:=h.lim
 have H:=Hid.mk h
 clear h
 by_cases hs:size < e.out.length + k
 ·have E:Hid ((thenE (Q2J size k e) fun e'=>Except.ok ((),e')) = .error ⟨14,e.next - 1⟩):=by show _=_;simp [Q2J,hs,thenE]
  have hc:(size:Int) - e.out.length < (k:Int):=by omega
  have hE:((e.next:Int) - 1)=((e.next - 1:Nat):Int):=by omega
  go_enter Tryz.func321,Tryz.ntmps321
  go_wp2
  go_region
  go_wp2_with (go_at_call 47;refine (QY _ _ _).mono ?_;rintro e w' ⟨rfl,rfl⟩)
  exact Qa (Q1o.throws (u:=u) (f:=⟨14,e.next - 1⟩) E.out H.out.own.kp (((Qb.refl [] u).drew).alloc _) (Nat.le_refl _) (Qg rfl))
 ·have E:Hid ((thenE (Q2J size k e) fun e'=>Except.ok ((),e')) = .ok ((),e)):=by show _=_;simp [Q2J,hs,thenE]
  have hc:(k:Int)≤(size:Int) - e.out.length:=by omega
  go_enter Tryz.func321,Tryz.ntmps321
  go_wp2
  go_region
  go_wp2
  go_end0
  exact Or.inl ⟨(),e,_,E.out,rfl,H.out.below (Below.refl _ _).drew⟩
theorem Qhl (n:Int):Q3O ((n % 4294967296).toNat:Int)=Q3O n:=by
 have h0:0≤n % 4294967296:=Int.emod_nonneg _ (by omega)
 unfold Q3O
 rw [Int.toNat_of_nonneg h0,Int.emod_emod_of_dvd n (Int.dvd_refl _)]
theorem QcN {size k:Nat} {e e':ESt} {x:Unit} (h:(thenE (Q2J size k e) fun e'=>Except.ok ((),e')) = .ok (x,e')):e'=e∧Q2J size k e = .ok e∧e.out.length + k≤size:=by
 unfold Q2J at h ⊢
 split at h
 ·cases h
 ·rename_i hc
  cases h
  exact ⟨rfl,if_neg hc,by omega⟩
theorem QaT {size k:Nat} {e:ESt} {f:Mar.Fault} (h:(thenE (Q2J size k e) fun e'=>Except.ok ((),e')) = .error f):Q2J size k e = .error f:=by
 unfold Q2J at h ⊢
 split at h
 ·rename_i hc
  cases h
  exact if_pos hc
 ·cases h
theorem Q4o {w u:World} {D:Nat} {Fr:List (Nat×Obj)} {nsl:Value} {v:List QQ} {dep fuel size:Nat} {e:ESt} {osl:Value} (n:Int) (h1:1≤e.next) (h:QW w D Fr nsl v dep fuel size e osl u) :
  Calls Tryz.prog 315 #[.pointer (some ⟨D,0,none⟩),.int .i64 n] u (Q1o w D Fr nsl v dep fuel size (thenE (Q1v size n e) fun e'=>.ok ((),e')) fun _=>.tuple #[]):=by
 have VR:=Hid.mk (QaS 4 (by omega) h1 h)
 clear h
 go_enter Tryz.func315,Tryz.ntmps315
 go_wp2_with fail
 refine VR.out.mono ?_
 rintro en w1 (⟨_,e1,osl1,hx,rfl,M1⟩ | ⟨f,hx,hk,g,hg,rfl,hc⟩)
 rotate_left
 ·exact Qa (Or.inr ⟨f,by unfold Q1v;rw [QaT hx];rfl,hk,g,hg,rfl,hc⟩)
 obtain ⟨rfl,hro,hlen⟩:=QcN hx
 obtain ⟨c0,c1,c2,c3,c4,c5,hfz,hlt⟩:=Q0j M1.box
 have hm0:0≤n % 4294967296:=Int.emod_nonneg _ (by omega)
 have hm1:n % 4294967296 < 4294967296:=Int.emod_lt_of_pos _ (by omega)
 have hl:=M1.out
 have hsz:=M1.lim.1
 have VA:=Q76 (n % 4294967296).toNat (by omega) M1.row M1.own.kp.size (by omega)
 rw [Qhl,Int.toNat_of_nonneg hm0] at VA
 have VA:=Hid.mk VA
 have E:Hid ((thenE (Q1v size n e1) fun e'=>Except.ok ((),e')) = .ok ((),{ e1 with out:=e1.out++Q3O n })):=by
  show _=_
  unfold Q1v
  rw [hro]
  rfl
 have M1:=Hid.mk M1
 clear hx VR hro hm0 hm1
 go_wp2_with fail
 refine VA.out.mono ?_
 rintro en w2 ⟨g,cap,rfl,u2,hb2,hown,hgrow,hat,hlt2⟩
 obtain ⟨z5,zf,zl⟩:=M1.out.boxAt hb2 hgrow
 have M2:=Hid.mk (M1.out.grow hb2 (by omega) (Q7p n) hown hgrow hat hlt2)
 clear hown hgrow hat hlt2 VA c5 hfz hlt
 go_wp2
 go_end0
 exact Or.inl ⟨(),_,_,E.out,rfl,M2.out⟩
theorem QW.again {w u:World} {D:Nat} {Fr:List (Nat×Obj)} {nsl:Value} {v:List QQ} {dep fuel size:Nat} {e:ESt} {osl:Value} (h:QW w D Fr nsl v dep fuel size e osl u):QW w D Fr nsl v dep fuel size e osl (u.setCell ⟨D,5,none⟩ osl):=by
 have hk:Qb [D] u (u.setCell ⟨D,5,none⟩ osl):=(Qb.refl [D] u).setIn (by simp) _
 have hn:=h.own.nd
 simp at hn
 refine ⟨h.own.turn hk (by simp),Qn (i:=5) h.box _,Qk h.row hk (fun g hg hm=>?_),h.nodes,h.few,h.out,h.lim⟩
 simp at hm
 subst hm
 exact hn.1 hg
def Q24 (e:ESt) (s:List UInt8) (k:Nat):ESt:={ e with out:=e.out++s++List.replicate k 0 }
theorem Qfx (e:ESt) (s:List UInt8):Q24 e s 0 = { e with out:=e.out++s }:=by simp [Q24]
theorem Qfy (e:ESt) (s:List UInt8) (k:Nat):({ Q24 e s k with out:=(Q24 e s k).out++[0] }:ESt)=Q24 e s (k + 1):=by
 simp [Q24,List.replicate_succ']
theorem Q8Q {w u:World} {D:Nat} {Fr:List (Nat×Obj)} {nsl:Value} {v:List QQ} {dep fuel size:Nat} {e:ESt} {osl:Value} (s:List UInt8) (hs:s.length≤4294967295) (h1:1≤e.next) (h:QW w D Fr nsl v dep fuel size e osl u) :
  Calls Tryz.prog 320 #[.pointer (some ⟨D,0,none⟩),.string ⟨s.toArray⟩] u (Q1o w D Fr nsl v dep fuel size (thenE (Q3m size s e) fun e'=>.ok ((),e')) fun _=>.tuple #[]):=by
 have hp:((Q0a s.length:Nat):Int)=((s.length:Int) + 3) / 4 * 4:=by unfold Q0a;omega
 have hp1:s.length≤Q0a s.length:=by unfold Q0a;omega
 have hp2:Q0a s.length < s.length + 4:=by unfold Q0a;omega
 have VR:=QaS (Q0a s.length) (by omega) h1 h
 rw [hp] at VR
 have VR:=Hid.mk VR
 obtain ⟨i0,hi0,hz0,hz1,hz2⟩:=info_parts infoByte
 have hz3:(Value.int .u8 0).cells.size=1:=rfl
 clear h
 go_enter Tryz.func320,Tryz.ntmps320
 go_wp2_with fail
 refine VR.out.mono ?_
 rintro en w1 (⟨_,e1,osl1,hx,rfl,M1⟩ | ⟨f,hx,hk,g,hg,rfl,hc⟩)
 rotate_left
 ·exact Qa (Or.inr ⟨f,by unfold Q3m;rw [QaT hx];rfl,hk,g,hg,rfl,hc⟩)
 obtain ⟨rfl,hro,hlen⟩:=QcN hx
 obtain ⟨c0,c1,c2,c3,c4,c5,hfz,hlt⟩:=Q0j M1.box
 have hl:=M1.out
 have hsz:=M1.lim.1
 have hbase:=M1.own.kp.size
 have hrow:=Hid.mk M1.row
 have E:Hid ((thenE (Q3m size s e1) fun e'=>Except.ok ((),e')) = .ok ((),Q24 e1 s (Q0a s.length - s.length))):=by
  show _=_
  unfold Q3m
  rw [hro]
  simp [thenE,Q24,padB]
 have M1:=Hid.mk M1
 have L:∀ (wl:World) (osl2:Value),QW w D Fr nsl v dep fuel size (Q24 e1 s 0) osl2 wl→True:=fun _ _ _=>trivial
 clear hx VR hro L
 by_cases hnil:osl1 = .slice none 0 0∧s=[]
 ·obtain ⟨rfl,rfl⟩:=hnil
  have M2:=Hid.mk M1.out.again
  have hE:Q24 e1 [] (Q0a ([]:List UInt8).length - ([]:List UInt8).length)=e1:=by simp [Q24,Q0a]
  rw [hE] at E
  clear hE hp hp1 hp2
  go_wp2
  go_loopw [26] (fun i ur=>i = .int .i64 0∧Hid (ur=w1.setCell ⟨D,5,none⟩ (.slice none 0 0))) (fun _ _=>0)
  case atStart=>exact ⟨rfl,Hid.mk rfl⟩
  case round=>
   obtain ⟨rfl,hur⟩:=hrel
   go_wp2
   go_end0
   exact Or.inl ⟨(),_,_,E.out,rfl,by rw [hur.out];exact M2.out⟩
 ·have hs0:osl1 = .slice none 0 0→0 < (⟨s.toArray⟩:ByteArray).size:=by
   intro h0
   have:s≠[]:=fun h=>hnil ⟨h0,h⟩
   exact List.length_pos_iff.2 this
  have hsi:(⟨s.toArray⟩:ByteArray).size=s.length:=rfl
  go_wp2_with (at_builtin;go_must (refine Q5g _ (by rfl) _ _ _ _ (by rfl) w.heap.size 5 i0 Tryz.underlying90 Tryz.underlying9 hi0 hz0 hz1 hz2 osl1 e1.out.length (e1.out.map Q1d) (by rfl) hrow.out ⟨s.toArray⟩ (by rfl) hs0 (by unfold maxLen;rw [hsi];omega) (by rw [hsi];omega) hbase ?_;intro g cap w2 hown hgrow hat hlt2;obtain ⟨z5,zf,zl⟩:=M1.out.boxAt (Below.refl _ _) hgrow;rw [Q6e,hsi] at hown;have M2:=M1.out.grow (Below.refl _ _) (by omega) rfl hown hgrow hat hlt2;rw [← Qfx] at M2;have M2:=Hid.mk M2;clear hown hgrow hat hlt2 c0 c1 c2 c3 c4 c5 hfz hlt))
  have hr:Hid ((Q0a s.length - s.length:Nat)=Q0a s.length - s.length):=rfl
  go_loopw [26] (fun i ur=>∃ (k:Nat) (osl2:Value),i = .int .i64 k∧k≤Q0a s.length - s.length∧Hid (QW w D Fr nsl v dep fuel size (Q24 e1 s k) osl2 ur)) (fun i _=>(Q0a s.length - s.length) - (intOf i).toNat)
  case atStart=>exact ⟨0,_,rfl,by omega,M2⟩
  case round=>
   obtain ⟨k,osl2,rfl,hk,M⟩:=hrel
   clear M2 z5 zf zl
   rcases Nat.lt_or_ge k (Q0a s.length - s.length) with hkl | hge
   ·have hk0:(k:Int) < ((s.length:Int) + 3) / 4 * 4 - s.length:=by omega
    obtain ⟨ad2,cap2,rfl⟩:=M.out.slice
    obtain ⟨c0,c1,c2,c3,c4,c5,hfz,hlt⟩:=Q0j M.out.box
    have hol:(Q24 e1 s k).out.length=e1.out.length + s.length + k:=by simp [Q24];omega
    have hb9:=M.out.own.kp.size
    have hown5:Hid (∀ o,(wr.alloc o).ownsRow w.heap.size 5 1 (.slice ad2 (Q24 e1 s k).out.length cap2) (Q24 e1 s k).out.length ((Q24 e1 s k).out.map Q1d)):=fun o=>Qk M.out.row ((Qb.refl [] wr).alloc o) (by simp)
    generalize hq:(Q24 e1 s k).out.length=q at hown5 c5 hol M
    have hqb:q + 1≤100000:=by omega
    have HQ:=Hid.mk hq
    clear hol hq
    go_wp2_with (at_builtin;go_must (refine wpList_append_lies _ (by rfl) _ _ _ (by rfl) w.heap.size 5 i0 _ 1 1 Tryz.underlying90 hi0 hz0 hz1 hz2 hz3 (by omega) (.slice ad2 q cap2) q ((Q24 e1 s k).out.map Q1d) (by rfl) (hown5.out _) ⟨wr.heap.size,0,none⟩ 1 1 [.int .u8 0] (by rfl) (by rfl) (World.news_of_block (cs:=#[.int .u8 0]) (t:=5) (fr:=(0,0)) (heap_alloc_new wr _)) (by simp [Value.oneCell']) (by omega) (by unfold maxLen;omega) (by omega) (by simp;omega) (wr.heap.size + 1) (by simp) ?_;intro g cap' w8 hown8 hgrow hat hlt8;obtain ⟨z5,zf,zl⟩:=M.out.boxAt ((Below.refl _ _).alloc (Nat.le_refl _) _) hgrow;have hq:=HQ.out;subst hq;have M8:=M.out.grow (l:=[0]) ((Below.refl _ _).alloc (Nat.le_refl _) _) (by omega) rfl hown8 hgrow (by simpa using hat) hlt8;rw [Qfy] at M8;have M8:=Hid.mk M8;clear hown8 hgrow hat hlt8 c0 c1 c2 c3 c4 c5 hfz hlt))
    exact ⟨⟨k + 1,_,by go_num,by omega,M8⟩,by simp [intOf];omega⟩
   ·have hkk:k=Q0a s.length - s.length:=by omega
    have hk0:¬ ((k:Int) < ((s.length:Int) + 3) / 4 * 4 - s.length):=by omega
    rw [← hkk] at E
    clear hkk
    go_wp2
    go_end0
    exact Or.inl ⟨(),_,_,E.out,rfl,M.out⟩
structure FitC (w:World) (D:Nat) (Fr:List (Nat×Obj)) (nsl:Value) (v:List QQ) (dep fuel size:Nat) (fit:QQ→Bool) (Fr':QQ→List (Nat×Obj)) (F:Nat) (post:Array Value):Prop where
 enters:∀ (args:Array Value) (u:World),(callFunc F args).run Tryz.prog u = .ok (.enter F args) u
 calls:∀ {ex:List (Nat×Obj)} {e:ESt} {osl:Value} {u:World} (x:QQ),QW w D (ex++Fr) nsl v dep fuel size e osl u→Calls Tryz.prog F (#[.agg (Q4K x).toArray]++post) u fun en u'=>en = .returned (.bool (fit x))∧QW w D (ex++Fr' x) nsl v dep fuel size e osl u'
def Q4X (w:World) (D:Nat) (Fr':QQ→List (Nat×Obj)) (nsl:Value) (v:List QQ) (dep fuel size:Nat) (r:Except Mar.Fault (QQ×ESt)) (en:Ending) (u':World):Prop:=
 (∃ x e' osl',r = .ok (x,e')∧en = .returned (.agg (Q4K x).toArray)∧QW w D (Fr' x) nsl v dep fuel size e' osl' u')∨(∃ f,r = .error f∧Qb [] w u'∧Q0c w f.no f.at' en u')
theorem Q4X.throws {w u u':World} {D:Nat} {Fr':QQ→List (Nat×Obj)} {nsl:Value} {v:List QQ} {dep fuel size:Nat} {r:Except Mar.Fault (QQ×ESt)} {f:Mar.Fault} {g:Nat} (hr:r = .error f) (hk:Qb [] w u) (hb:Qb [] u u') (hg:u.heap.size≤g) (hc:u'.heap[g]? = some (.cells #[.int .i64 f.no,.int .i64 f.at'] 83)) :
  Q4X w D Fr' nsl v dep fuel size r (.panicked [{ v:=.iface 79 (.pointer (some ⟨g,0,none⟩)),recovered:=false }]) u':=
 Or.inr ⟨f,hr,hk.trans hb,g,Nat.le_trans hk.size hg,rfl,hc⟩
theorem QjP {b:Nat} {a0 a1 a2 a3 a4 b0 b1 b2 b3 b4:Value} {T:TypeId} {w:World} (h:w.heap[b]? = some (.cells #[a0,a1,a2,a3,a4] T)) :
  (((((w.setCell ⟨b,0,none⟩ b0).setCell ⟨b,1,none⟩ b1).setCell ⟨b,2,none⟩ b2).setCell ⟨b,3,none⟩ b3).setCell ⟨b,4,none⟩ b4).heap[b]? = some (.cells #[b0,b1,b2,b3,b4] T):=by
 have h1:=Qn (i:=0) h b0
 have h2:=Qn (i:=1) h1 b1
 have h3:=Qn (i:=2) h2 b2
 have h4:=Qn (i:=3) h3 b3
 have h5:=Qn (i:=4) h4 b4
 simpa using h5
theorem Q6A {w u:World} {D:Nat} {Fr:List (Nat×Obj)} {nsl:Value} {v:List QQ} {dep fuel size:Nat} {e:ESt} {osl:Value} {fit:QQ→Bool} {Fr':QQ→List (Nat×Obj)} {F:Nat} {post:Array Value} (kind:Int) (hF:FitC w D Fr nsl v dep fuel size fit Fr' F post) (h:QW w D Fr nsl v dep fuel size e osl u) :
  Calls Tryz.prog 312 #[.pointer (some ⟨D,0,none⟩),.int .i64 kind,.func (.func F) #[] post] u (Q4X w D Fr' nsl v dep fuel size (Q1u v fuel kind fit e)):=by
 obtain ⟨c0,c1,c2,c3,c4,c5,hfz,hlt⟩:=Q0j h.box
 obtain ⟨ad,cap,rfl,hvc,hcm,hnodes⟩:=id h.nodes
 have hf:=h.few
 obtain ⟨hsz,hfu⟩:=h.lim
 have hkp:=Hid.mk h.own.kp
 by_cases hs:fuel≤e.next
 ·have E:Hid (Q1u v fuel kind fit e = .error ⟨15,e.next⟩):=by show _=_;simp [Q1u,hs]
  have hc:(fuel:Int)≤(e.next:Int):=by omega
  clear h hnodes hF
  go_enter Tryz.func312,Tryz.ntmps312
  go_wp2
  go_region
  go_wp2_with (go_at_call 47;refine (QY _ _ _).mono ?_;rintro e w' ⟨rfl,rfl⟩)
  exact Qa (Q4X.throws (u:=u) (f:=⟨15,e.next⟩) E.out hkp.out ((((Qb.refl [] u).alloc _).drew).alloc _) (by simp) (Qg (by simp)))
 ·have hc:(e.next:Int) < (fuel:Int):=by omega
  cases hv:v[e.next]? with
  | none=>
   have hl:v.length≤e.next:=by
    rcases Nat.lt_or_ge e.next v.length with h | h
    ·rw [List.getElem?_eq_getElem h] at hv;cases hv
    ·exact h
   have E:Hid (Q1u v fuel kind fit e = .error ⟨12,e.next⟩):=by show _=_;simp [Q1u,hs,hv]
   have hc2:(v.length:Int)≤(e.next:Int):=by omega
   clear h hnodes hF hv
   go_enter Tryz.func312,Tryz.ntmps312
   go_wp2
   go_region
   go_wp2
   go_region
   go_wp2_with (go_at_call 47;refine (QY _ _ _).mono ?_;rintro e w' ⟨rfl,rfl⟩)
   exact Qa (Q4X.throws (u:=u) (f:=⟨12,e.next⟩) E.out hkp.out (((((Qb.refl [] u).alloc _).drew).drew).alloc _) (by simp) (Qg (by simp)))
  | some x=>
   have hl:e.next < v.length:=by
    rcases Nat.lt_or_ge e.next v.length with h | h
    ·exact h
    ·rw [List.getElem?_eq_none h] at hv;cases hv
   have hc2:(e.next:Int) < (v.length:Int):=by omega
   have hc3:(0:Int)≤(e.next:Int):=by omega
   obtain ⟨g,o,rfl,hNx⟩:=hnodes e.next x hv
   have hgl:g < w.heap.size:=Q1g hNx.1
   obtain ⟨n0,n1,n2,n3,n4⟩:Qe9 u g (o + e.next * 5) x:=by
    obtain ⟨n0,n1,n2,n3,n4⟩:=hNx
    have hb:∀ i,u.cell? ⟨g,i,none⟩=w.cell? ⟨g,i,none⟩:=fun i=>World.cell?_of_block (hkp.out.block g hgl (by simp))
    exact ⟨(hb _).trans n0,(hb _).trans n1,(hb _).trans n2,(hb _).trans n3,(hb _).trans n4⟩
   have hgu:g < u.heap.size:=Nat.lt_of_lt_of_le hgl hkp.out.size
   have M0:=(h.alloc (.cells #[.int .i64 0,.int .i64 0,.string ⟨#[]⟩,.int .i64 0,.int .i64 0] 48)).alloc (.cells (Q4K x).toArray 48)
   have hsz1:(u.alloc (.cells #[.int .i64 0,.int .i64 0,.string ⟨#[]⟩,.int .i64 0,.int .i64 0] 48)).heap.size=u.heap.size + 1:=by simp
   rw [hsz1] at M0
   have M0:=Hid.mk (M0.below (((Below.refl _ _).drew).drew).drew)
   clear hsz1
   clear h hnodes hNx
   go_enter Tryz.func312,Tryz.ntmps312
   go_wp2
   go_region
   go_wp2
   go_region
   go_wp2_with fail
   refine Qu (fun w'=>w'.cell? ⟨D,0,none⟩=some (.slice (some ⟨g,o,none⟩) v.length cap)∧w'.cell? ⟨D,1,none⟩=some (.int .i64 e.next)∧w'.cell? ⟨g,o + e.next * 5,none⟩=some (.int .i64 x.kind)∧w'.cell? ⟨g,o + e.next * 5 + 1,none⟩=some (.int .i64 x.n)∧w'.cell? ⟨g,o + e.next * 5 + 2,none⟩=some (.string ⟨x.s.toArray⟩)∧w'.cell? ⟨g,o + e.next * 5 + 3,none⟩=some (.int .i64 x.at')∧w'.cell? ⟨g,o + e.next * 5 + 4,none⟩=some (.int .i64 x.len)) (L:=11) (by kernel_rfl) rfl (by kernel_rfl) (by kernel_rfl) ?_ (fun hHeld=>?_)
   ·go_keep
   refine tk (i:=0) (v:=?_) rfl (by kernel_rfl) (fun _ _ _ h=>h) (by rfl) (by assumption) ?_ ?_
   rotate_left
   ·intro w hSw;(try dsimp only at hSw);go_simp;(try with_reducible rfl)
   (try simp only [Qd,Qe,List.set])
   refine tk (i:=1) (v:=?_) rfl (by kernel_rfl) (fun _ _ _ h=>h) (by rfl) (by assumption) ?_ ?_
   rotate_left
   ·intro w hSw;(try dsimp only at hSw);go_simp;(try with_reducible rfl)
   (try simp only [Qd,Qe,List.set])
   refine tk (i:=2) (v:=?_) rfl (by kernel_rfl) (fun _ _ _ h=>h) (by rfl) (by assumption) ?_ ?_
   rotate_left
   ·intro w hSw;(try dsimp only at hSw);go_simp;(try with_reducible rfl)
   (try simp only [Qd,Qe,List.set])
   refine tk (i:=3) (v:=?_) rfl (by kernel_rfl) (fun _ _ _ h=>h) (by rfl) (by assumption) ?_ ?_
   rotate_left
   ·intro w hSw;(try dsimp only at hSw);go_simp;(try with_reducible rfl)
   (try simp only [Qd,Qe,List.set])
   refine tk (i:=4) (v:=?_) rfl (by kernel_rfl) (fun _ _ _ h=>h) (by rfl) (by assumption) ?_ ?_
   rotate_left
   ·intro w hSw;(try dsimp only at hSw);go_simp;(try with_reducible rfl)
   (try simp only [Qd,Qe,List.set])
   refine tk (i:=5) (v:=?_) rfl (by kernel_rfl) (fun _ _ _ h=>h) (by rfl) (by assumption) ?_ ?_
   rotate_left
   ·intro w hSw;(try dsimp only at hSw);go_simp;(try with_reducible rfl)
   (try simp only [Qd,Qe,List.set])
   refine tk (i:=6) (v:=?_) rfl (by kernel_rfl) (fun _ _ _ h=>h) (by rfl) (by assumption) ?_ ?_
   rotate_left
   ·intro w hSw;(try dsimp only at hSw);go_simp;(try with_reducible rfl)
   (try simp only [Qd,Qe,List.set])
   refine tk (i:=7) (v:=?_) rfl (by kernel_rfl) (fun _ _ _ h=>h) (by rfl) (by assumption) ?_ ?_
   rotate_left
   ·intro w hSw;(try dsimp only at hSw);go_simp;(try with_reducible rfl)
   (try simp only [Qd,Qe,List.set])
   refine tk (i:=8) (v:=?_) rfl (by kernel_rfl) (fun _ _ _ h=>h) (by rfl) (by assumption) ?_ ?_
   rotate_left
   ·intro w hSw;(try dsimp only at hSw);go_simp;(try with_reducible rfl)
   (try simp only [Qd,Qe,List.set])
   refine tk (i:=9) (v:=?_) rfl (by kernel_rfl) (fun _ _ _ h=>h) (by rfl) (by assumption) ?_ ?_
   rotate_left
   ·intro w hSw;(try dsimp only at hSw);go_simp;(try with_reducible rfl)
   (try simp only [Qd,Qe,List.set])
   refine wpAnyH_ready (rs:=[10]) (by kernel_rfl) (by simp) ?_
   refine AllReadyH.cons rfl (fun K hK=>?_) AllReadyH.nil
   go_simp
   refine hK.out _ _ ?_ (fun hHeld=>?_)
   ·go_keep
   clear hK K
   (try simp only [Qd,Qe,List.set])
   refine wpAnyH_done (by kernel_rfl) ?_ _
   refine QB rfl (fun K hK=>?_)
   go_simp
   refine hK.out _ _ ?_
   clear hK K
   (try simp only [Qd,Qe,List.set])
   by_cases hk:x.kind=kind
   ·subst hk
    have hent:=hF.enters
    go_wp2_with fail
    refine (hF.calls (ex:=[(u.heap.size + 1,_),(u.heap.size,_)]) x M0.out).mono ?_
    rintro en w1 ⟨rfl,M1⟩
    cases hfit:fit x with
    | false=>
     have E:Hid (Q1u v fuel x.kind fit e = .error ⟨12,e.next⟩):=by show _=_;simp [Q1u,hs,hv,hfit]
     have hk1:=Hid.mk M1.own.kp
     obtain ⟨k0,k1,_,_,_,_,_,_⟩:=Q0j M1.box
     clear hF hv M1 M0 hfit
     go_wp2_with (go_at_call 47;refine (QY _ _ _).mono ?_;rintro e w' ⟨rfl,rfl⟩)
     exact Qa (Q4X.throws (u:=w1) (f:=⟨12,e.next⟩) E.out hk1.out ((Qb.refl [] _).alloc _) (Nat.le_refl _) (Qg rfl))
    | true=>
     have E:Hid (Q1u v fuel x.kind fit e = .ok (x,{ e with next:=e.next + 1 })):=by show _=_;simp [Q1u,hs,hv,hfit]
     obtain ⟨k0,k1,k2,k3,k4,k5,kf,kl⟩:=Q0j M1.box
     have oN:=M1.own.hf (u.heap.size + 1,_) List.mem_cons_self
     have oR:=M1.own.hf (u.heap.size,_) (List.mem_cons_of_mem _ List.mem_cons_self)
     obtain ⟨t0,t1,t2,t3,t4,tf,tl⟩:=Q1S oN.1
     obtain ⟨p0,p1,p2,p3,p4,pf,pl⟩:=Q1S oR.1
     have hd1:D≠u.heap.size + 1:=fun e=>oN.2 (by simp [← e])
     have hd2:D≠u.heap.size:=fun e=>oR.2 (by simp [← e])
     have hd3:u.heap.size + 1≠D:=fun e=>hd1 e.symm
     have hd4:u.heap.size≠D:=fun e=>hd2 e.symm
     have M2:=M1.move (by omega)
     have oR2:=(M2.own.hf (u.heap.size,_) (List.mem_cons_of_mem _ List.mem_cons_self)).1
     have z:=QjP (b0:=.int .i64 x.kind) (b1:=.int .i64 x.n) (b2:=.string ⟨x.s.toArray⟩) (b3:=.int .i64 x.at') (b4:=.int .i64 x.len) oR2
     obtain ⟨z0,z1,z2,z3,z4,_,_⟩:=Q1S z
     have M3:=Hid.mk (M2.tail.setFr ((((((Qb.refl [u.heap.size] _).setIn (p:=⟨u.heap.size,0,none⟩) (by simp) (.int .i64 x.kind)).setIn (p:=⟨u.heap.size,1,none⟩) (by simp) (.int .i64 x.n)).setIn (p:=⟨u.heap.size,2,none⟩) (by simp) (.string ⟨x.s.toArray⟩)).setIn (p:=⟨u.heap.size,3,none⟩) (by simp) (.int .i64 x.at')).setIn (p:=⟨u.heap.size,4,none⟩) (by simp) (.int .i64 x.len)) z).tail
     clear hF hv M1 M0 M2 oN oR oR2 hfit z
     go_wp2
     exact bodyPost_ret (v:=.agg (Q4K x).toArray) (by simp [results,Tryz.results312,go_sem,z0,z1,z2,z3,z4]) rfl (Or.inl ⟨x,_,_,E.out,rfl,M3.out⟩)
   ·have hkn:(x.kind == kind)=false:=by simpa using hk
    have E:Hid (Q1u v fuel kind fit e = .error ⟨12,e.next⟩):=by show _=_;simp [Q1u,hs,hv,hk]
    clear hF hv
    go_wp2_with (go_at_call 47;refine (QY _ _ _).mono ?_;rintro e w' ⟨rfl,rfl⟩)
    exact Qa (Q4X.throws (u:=u) (f:=⟨12,e.next⟩) E.out hkp.out (((((((Qb.refl [] u).alloc _).alloc _).alloc _).drew).drew).drew) (by omega) (Qg (by simp)))
theorem Qhm {w:World} {D:Nat} {Fr:List (Nat×Obj)} {nsl:Value} {v:List QQ} {dep fuel size:Nat} {bs:List (Nat×Obj)} {cs:List Value} {n:NumL} (hN:Q16 bs cs n) (hw:∀ p∈bs,w.heap[p.1]? = some p.2) (b:Nat) :
  FitC w D ((b,.cells cs.toArray 200) :: Fr) nsl v dep fuel size (fun x=>n.has x.n) (fun _=>(b,.cells cs.toArray 200) :: Fr) 317 #[.pointer (some ⟨b,0,none⟩)] where
 enters:=fun _ _=>by kernel_rfl
 calls:=by
  intro ex e osl u x h
  obtain ⟨mm,rfl,hmem,a1,a2,a3,rfl⟩:=id hN
  obtain ⟨q0,q1,q2,q3,qf,ql⟩:=Q8v (h.own.hf (b,_) (List.mem_append_right _ List.mem_cons_self)).1
  have hb:∀ o,Below u.heap.size u (u.alloc o):=fun o=>(Below.refl _ _).alloc (Nat.le_refl _) _
  have VH:=Hid.mk (fun o=>Q7u hN x.n (w:=u.alloc o) (fun p hp=>((hb o).block _ (by have:=Qc (hw p hp);have:=h.own.kp.size;omega)).trans ((h.own.kp.block _ (Qc (hw p hp)) (by simp)).trans (hw p hp))))
  have H:=Hid.mk h
  clear h hw hN
  show Calls Tryz.prog _ #[_,_] _ _
  go_enter Tryz.func317,Tryz.ntmps317
  go_wp2_with fail
  refine (VH.out _).mono ?_
  rintro en w1 ⟨rfl,hb1⟩
  have M1:=Hid.mk ((H.out.below (hb _)).below hb1)
  clear hb1 VH
  go_wp2
  go_ret
  exact ⟨rfl,M1.out⟩
theorem Q8R (n:Int) (f:Bool) (k:Int) (w:World):Calls Tryz.prog 288 #[.agg #[.int .i64 n,.bool f],.int .i64 k] w fun e w'=>e = .returned (.bool (Q0V n f k))∧Below w.heap.size w w':=by
 have hb:∀ o,Below w.heap.size w (w.alloc o):=fun o=>(Below.refl _ _).alloc (Nat.le_refl _) _
 cases f with
 | true=>
  by_cases h:k=n
  ·subst h
   have E:Hid (Q0V k true k=true):=by show _=_;simp [Q0V]
   go_enter Tryz.func288,Tryz.ntmps288
   go_wp2
   go_ret
   exact ⟨by rw [E.out];rfl,hb _⟩
  ·have E:Hid (Q0V n true k=false):=by show _=_;simp [Q0V,h]
   have h':(k == n)=false:=by simpa using h
   go_enter Tryz.func288,Tryz.ntmps288
   go_wp2
   go_ret
   exact ⟨by rw [E.out];rfl,hb _⟩
 | false=>
  by_cases h1:0≤k
  ·by_cases h2:k≤n
   ·have E:Hid (Q0V n false k=true):=by show _=_;simp [Q0V,h1,h2]
    go_enter Tryz.func288,Tryz.ntmps288
    go_wp2
    go_ret
    exact ⟨by rw [E.out];rfl,hb _⟩
   ·have E:Hid (Q0V n false k=false):=by show _=_;simp [Q0V,h2]
    go_enter Tryz.func288,Tryz.ntmps288
    go_wp2
    go_ret
    exact ⟨by rw [E.out];rfl,hb _⟩
  ·have E:Hid (Q0V n false k=false):=by show _=_;simp [Q0V,h1]
   go_enter Tryz.func288,Tryz.ntmps288
   go_wp2
   go_ret
   exact ⟨by rw [E.out];rfl,hb _⟩
theorem QjQ {w:World} {D:Nat} {Fr:List (Nat×Obj)} {nsl:Value} {v:List QQ} {dep fuel size:Nat} (n:Int) (f:Bool) (b:Nat) :
  FitC w D ((b,.cells #[.int .i64 n,.bool f] 304) :: Fr) nsl v dep fuel size (fun x=>Q0V n f x.s.length) (fun _=>(b,.cells #[.int .i64 n,.bool f] 304) :: Fr) 319 #[.pointer (some ⟨b,0,none⟩)] where
 enters:=fun _ _=>by kernel_rfl
 calls:=by
  intro ex e osl u x h
  obtain ⟨q0,q1,qf,ql⟩:=Q0k (h.own.hf (b,_) (List.mem_append_right _ List.mem_cons_self)).1
  have hb:∀ o,Below u.heap.size u (u.alloc o):=fun o=>(Below.refl _ _).alloc (Nat.le_refl _) _
  have VH:=Hid.mk (Q8R n f x.s.length)
  have H:=Hid.mk h
  clear h
  show Calls Tryz.prog _ #[_,_] _ _
  go_enter Tryz.func319,Tryz.ntmps319
  go_wp2_with fail
  refine (VH.out _).mono ?_
  rintro en w1 ⟨rfl,hb1⟩
  have M1:=Hid.mk ((H.out.below (hb _)).below hb1)
  clear hb1 VH
  go_wp2
  go_ret
  exact ⟨rfl,M1.out⟩
theorem QjR {w:World} {D:Nat} {Fr:List (Nat×Obj)} {nsl:Value} {v:List QQ} {dep fuel size:Nat} (n:Int) (f:Bool) (b:Nat) :
  FitC w D ((b,.cells #[.int .i64 n,.bool f] 304) :: Fr) nsl v dep fuel size (fun x=>Q0V n f x.len) (fun _=>(b,.cells #[.int .i64 n,.bool f] 304) :: Fr) 316 #[.pointer (some ⟨b,0,none⟩)] where
 enters:=fun _ _=>by kernel_rfl
 calls:=by
  intro ex e osl u x h
  obtain ⟨q0,q1,qf,ql⟩:=Q0k (h.own.hf (b,_) (List.mem_append_right _ List.mem_cons_self)).1
  have hb:∀ o,Below u.heap.size u (u.alloc o):=fun o=>(Below.refl _ _).alloc (Nat.le_refl _) _
  have VH:=Hid.mk (Q8R n f x.len)
  have H:=Hid.mk h
  clear h
  show Calls Tryz.prog _ #[_,_] _ _
  go_enter Tryz.func316,Tryz.ntmps316
  go_wp2_with fail
  refine (VH.out _).mono ?_
  rintro en w1 ⟨rfl,hb1⟩
  have M1:=Hid.mk ((H.out.below (hb _)).below hb1)
  clear hb1 VH
  go_wp2
  go_ret
  exact ⟨rfl,M1.out⟩
end Go.Proofs.YtmbcibgknckenaaGreatDoor
