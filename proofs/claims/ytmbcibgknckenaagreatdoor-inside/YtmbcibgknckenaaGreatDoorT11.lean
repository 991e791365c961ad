import Derived.Test.YtmbcibgknckenaaGreatDoorT10
import Derived.Deep.LoopGhost
set_option linter.all false
set_option maxRecDepth 100000
set_option maxHeartbeats 4000000
namespace Go.Proofs.YtmbcibgknckenaaGreatDoor
open Go.RowKit
open Go.MapKept
theorem QgR:(Tryz.prog.info? 413).map (fun i=>(i.zero,i.size,i.bytes))=some (some (.agg #[.int .i64 0,.int .i64 0]),2,16):=by kernel_rfl
theorem QgS (k:Nat×Nat):∀ u∈Q2y k,u.oneCell'=true:=by
 intro u hu
 simp at hu
 rcases hu with rfl | rfl<;>rfl
theorem Q7b (l:List (Nat×Nat)):(l.flatMap Q2y).length=l.length * 2:=by
 induction l with
 | nil=>rfl
 | cons a l ih=>simp only [List.flatMap_cons,List.length_append,ih,List.length_cons];simp;omega
theorem Qax {τ:Type} {w u:World} {bs:List (Nat×Obj)} {Z:Wkr τ w bs} {Fr:List (Nat×Obj)} {M:Nat} {m:MSt} {en:Bool} {d:τ} (p:Nat×Nat) (hc:m.rounds.length < 1000) (h:Mc Z Fr M m en d u) :
  Calls Tryz.prog 299 #[.pointer (some ⟨M,3,none⟩),.agg #[.int .i64 p.1,.int .i64 p.2]] u fun e u'=>e = .returned (.tuple #[])∧Mc Z Fr M { m with rounds:=p :: m.rounds } en d u':=by
 obtain ⟨Ec,Er,csl,rsl,h⟩:=h
 obtain ⟨ad,cap,rfl⟩:=h.rr.slice
 obtain ⟨c0,c1,c2,c3,c4,cf,cl⟩:=h.cells
 obtain ⟨i0,hi0,hz0,hz1,hz2⟩:=info_parts QgR
 have j1:Z.J (Er++(Ec++(M,mObj Z m.next csl (.slice ad m.rounds.length cap) en) :: Fr)) d u:=Z.perm h.j (List.perm_append_comm_assoc _ _ _)
 have hown:=h.rr.owns Z (by rw [Q7b];simp) j1
 have hwl:w.heap.size≤u.heap.size:=(Z.kp h.j).size
 have hl1:m.rounds.length + 1≤maxLen:=by unfold maxLen;omega
 have hl2:(m.rounds.length + 1) * 16≤140737488355328:=by omega
 have hz3:(Value.agg #[.int .i64 0,.int .i64 0]).cells.size=2:=by decide
 have H:=Hid.mk h
 have J1:=Hid.mk j1
 have HOW:=Hid.mk hown
 clear h hown j1
 go_enter Tryz.func299,Tryz.ntmps299
 go_wp2_with fail
 refine QE (fun w'=>w'.cell? ⟨M,3,none⟩=some (.slice ad m.rounds.length cap)∧w'.cell? ⟨u.heap.size,0,none⟩=some (.int .i64 p.1)∧w'.cell? ⟨u.heap.size,1,none⟩=some (.int .i64 p.2)) (L:=10) (by kernel_rfl) rfl (by kernel_rfl) (by kernel_rfl) ?_ (fun hHeld=>?_)
 ·go_keep
 refine tk (i:=0) (v:=?_) rfl (by kernel_rfl) (fun _ _ _ h=>h) (by rfl) (by assumption) ?_ ?_
 rotate_left
 ·intro w hSw;(try dsimp only at hSw);go_simp;(try with_reducible rfl)
 (try simp only [Qd,Qe,List.set])
 refine tk (i:=1) (v:=?_) rfl (by kernel_rfl) (fun _ _ _ h=>h) (by rfl) (by assumption) ?_ ?_
 rotate_left
 ·intro w hSw;(try dsimp only at hSw);go_simp;(try with_reducible rfl)
 (try simp only [Qd,Qe,List.set])
 refine tk (i:=2) (v:=?_) rfl (by kernel_rfl) (fun _ _ _ h=>h) (by rfl) (by assumption) ?_ ?_
 rotate_left
 ·intro w hSw;(try dsimp only at hSw);go_simp;(try with_reducible rfl)
 (try simp only [Qd,Qe,List.set])
 refine tk (i:=3) (v:=?_) rfl (by kernel_rfl) (fun _ _ _ h=>h) (by rfl) (by assumption) ?_ ?_
 rotate_left
 ·intro w hSw;(try dsimp only at hSw);go_simp;(try with_reducible rfl)
 (try simp only [Qd,Qe,List.set])
 refine tk (i:=4) (v:=?_) rfl (by kernel_rfl) (fun _ _ _ h=>h) (by rfl) (by assumption) ?_ ?_
 rotate_left
 ·intro w hSw;(try dsimp only at hSw);go_simp;(try with_reducible rfl)
 (try simp only [Qd,Qe,List.set])
 refine tk (i:=5) (v:=?_) rfl (by kernel_rfl) (fun _ _ _ h=>h) (by rfl) (by assumption) ?_ ?_
 rotate_left
 ·intro w hSw;(try dsimp only at hSw);go_simp;(try with_reducible rfl)
 (try simp only [Qd,Qe,List.set])
 refine wpAnyH_ready (rs:=[6]) (by kernel_rfl) (by simp) ?_
 refine AllReadyH.cons rfl (fun K hK=>?_) AllReadyH.nil
 go_simp
 refine hK.out _ _ ?_ (fun hHeld=>?_)
 ·go_keep
 clear hK K
 (try simp only [Qd,Qe,List.set])
 refine wpAnyH_ready (rs:=[7]) (by kernel_rfl) (by simp) ?_
 refine AllReadyH.cons rfl (fun K hK=>?_) AllReadyH.nil
 (refine step_append_lies _ (by rfl) _ _ _ (by rfl) w.heap.size 413 i0 _ 2 16 Tryz.underlying233 hi0 hz0 hz1 hz2 hz3 (by omega) (.slice ad m.rounds.length cap) m.rounds.length (m.rounds.reverse.flatMap Q2y) (by rfl) (Qp HOW.out ((((Qb.refl [] u).alloc _).alloc _).drew) (by simp)) ⟨u.heap.size + 1,0,none⟩ 1 1 (Q2y p) (by rfl) (by rfl) (World.news_of_block (cs:=(Q2y p).toArray) (t:=413) (fr:=(0,0)) (Qg (w:=u.alloc _) (by simp))) (QgS p) (by omega) hl1 hl2 (by simp;omega) (u.heap.size + 2) (by simp) ?_;intro g cap' w6 hown6 hgrow hat hlt6;have hbb:Below u.heap.size u ((u.alloc (.cells (Q2y p).toArray 413)).alloc (.cells (Q2y p).toArray 413)).drew:=(((Below.refl _ _).alloc (Nat.le_refl _) _).alloc (by simp) _).drew;obtain ⟨E8,r8,j8⟩:=H.out.rr.grow Z J1.out hbb hown6 hgrow (by simpa using hat);have b8:=(Z.at j8 (p:=(M,mObj Z m.next csl (.slice ad m.rounds.length cap) en)) (by simp)).1;obtain ⟨y0,y1,y2,y3,y4,yf,yl⟩:=Q6Q b8;have hx9:w6.heap[u.heap.size]? = some (.cells (Q2y p).toArray 413):=(hgrow.block _ (by simp;omega) (fun e=>by have h1:=HOW.out;have:=Q16 h1 (g:=u.heap.size) e.symm;omega)).trans ((Below.heap_alloc _ _ _ (by simp)).trans (Qg rfl));obtain ⟨x0,x1,xf,xl⟩:=Q0V hx9)
 refine hK.out _ _ ?_ (fun hHeld=>?_)
 ·go_keep
 clear hK K
 (try simp only [Qd,Qe,List.set])
 refine tk (i:=8) (v:=?_) rfl (by kernel_rfl) (fun _ _ _ h=>h) (by rfl) (by assumption) ?_ ?_
 rotate_left
 ·intro w hSw;(try dsimp only at hSw);go_simp;(try with_reducible rfl)
 (try simp only [Qd,Qe,List.set])
 refine tk (i:=9) (v:=?_) rfl (by kernel_rfl) (fun _ _ _ h=>h) (by rfl) (by assumption) ?_ ?_
 rotate_left
 ·intro w hSw;(try dsimp only at hSw);go_simp;(try with_reducible rfl)
 (try simp only [Qd,Qe,List.set])
 refine wpAnyH_done (by kernel_rfl) ?_ _
 refine QK rfl (fun K hK=>?_)
 go_simp
 refine hK.out _ _ ?_
 clear hK K
 (try simp only [Qd,Qe,List.set])
 have j9:=Wkr.turn2 j8 ((Qb.refl [M] w6).setIn (p:=⟨M,3,none⟩) (by simp) (.slice (some ⟨g,0,none⟩) (m.rounds.length + 1) cap')) (Qy (i:=3) b8 _)
 have j10:=Hid.mk (Z.perm j9 (List.perm_append_comm_assoc _ _ _))
 have R8:=Hid.mk r8
 clear j9 j8 r8
 go_wp2
 go_end0
 refine ⟨rfl,Ec,E8,csl,_,H.out.rc,?_,j10.out⟩
 have:=R8.out
 simpa using this
theorem Qcp {τ:Type} {w u:World} {bs:List (Nat×Obj)} {Z:Wkr τ w bs} {Fr:List (Nat×Obj)} {M:Nat} {m:MSt} {en:Bool} {d:τ} {p:Nat×Nat} {ks:List (Nat×Nat)} (hm:m.rounds=p :: ks) (hc:m.rounds.length≤1000) (h:Mc Z Fr M m en d u) :
  Calls Tryz.prog 301 #[.pointer (some ⟨M,3,none⟩)] u fun e u'=>e = .returned (.agg #[.int .i64 p.1,.int .i64 p.2])∧Mc Z Fr M { m with rounds:=ks } en d u':=by
 obtain ⟨Ec,Er,csl,rsl,h⟩:=h
 have hr:=h.rr
 rw [hm] at hr
 simp only [List.length_cons,List.reverse_cons,List.flatMap_append,List.flatMap_cons,List.flatMap_nil,List.append_nil] at hr
 obtain ⟨g,cap,cur,rfl,hcap,rfl,htk,hr2⟩:=hr.pop (by rw [Q7b];simp)
 obtain ⟨c0,c1,c2,c3,c4,cf,cl⟩:=h.cells
 have hg:=(Z.at h.j (p:=(g,.cells cur 413)) (by simp)).1
 have hlen:(ks.reverse.flatMap Q2y).length=ks.length * 2:=by rw [Q7b];simp
 have hl0:u.cell? ⟨g,ks.length * 2,none⟩=some (.int .i64 p.1):=Qw (xs:=ks.reverse.flatMap Q2y++Q2y p) hg (by rw [List.length_append,hlen];simpa [Nat.add_mul] using htk) (by rw [List.getElem?_append_right (by omega),hlen];simp)
 have hl1:u.cell? ⟨g,ks.length * 2 + 1,none⟩=some (.int .i64 p.2):=Qw (xs:=ks.reverse.flatMap Q2y++Q2y p) hg (by rw [List.length_append,hlen];simpa [Nat.add_mul] using htk) (by rw [List.getElem?_append_right (by omega),hlen];simp)
 have hks:ks.length < 1000:=by rw [hm] at hc;simp at hc;omega
 have J9:=Wkr.turn2 (K:=Z) (A:=Ec) (A':=[(g,.cells cur 413)]) h.j ((Qb.refl [M] u).setIn (p:=⟨M,3,none⟩) (by simp) (.slice (some ⟨g,0,none⟩) ks.length cap)) (Qy (i:=3) h.box _)
 have j9:=Hid.mk (fun o1 o2=>Z.below (Z.below J9 ((Below.refl _ _).alloc (Nat.le_refl _) o1)) ((Below.refl _ _).alloc (Nat.le_refl _) o2))
 have R8:=Hid.mk hr2
 have RC:=Hid.mk h.rc
 have hng:M≠u.heap.size:=by omega
 have hgl:=Qc hg
 have hgn:g≠u.heap.size:=by omega
 have hgn1:g≠u.heap.size + 1:=by omega
 have hng1:M≠u.heap.size + 1:=by omega
 clear h hr hr2 hg htk hm hc J9
 go_enter Tryz.func301,Tryz.ntmps301
 go_wp2
 refine bodyPost_ret (v:=.agg #[.int .i64 p.1,.int .i64 p.2]) (by simp [results,Tryz.results301,go_sem]) rfl ⟨rfl,?_⟩
 exact ⟨Ec,[(g,.cells cur 413)],csl,.slice (some ⟨g,0,none⟩) ks.length cap,RC.out,R8.out,j9.out _ _⟩
def Q2n {τ:Type} {w:World} {bs:List (Nat×Obj)} (Z:Wkr τ w bs) (Fr:List (Nat×Obj)) (M:Nat) (r:Except Mar.Fault (MSt×τ)) (e:Ending) (u':World):Prop:=
 (∃ m' d',r = .ok (m',d')∧e = .returned (.tuple #[])∧Mc Z Fr M m' false d' u')∨(∃ f,r = .error f∧Qb [] w u'∧Q0h w f.no f.at' e u')
theorem Mc.below {τ:Type} {w u u':World} {bs:List (Nat×Obj)} {Z:Wkr τ w bs} {Fr:List (Nat×Obj)} {M:Nat} {m:MSt} {en:Bool} {d:τ} (h:Mc Z Fr M m en d u) (hb:Below u.heap.size u u'):Mc Z Fr M m en d u':=by
 obtain ⟨a,b,c,e,h⟩:=h
 exact ⟨a,b,c,e,h.below hb⟩
theorem Mc.goto {τ:Type} {w u:World} {bs:List (Nat×Obj)} {Z:Wkr τ w bs} {Fr:List (Nat×Obj)} {M:Nat} {m:MSt} {en:Bool} {d:τ} (h:Mc Z Fr M m en d u) (p:Nat):Mc Z Fr M { m with next:=p } en d (u.setCell ⟨M,1,none⟩ (.int .i64 p)):=by
 obtain ⟨a,b,c,e,h⟩:=h
 exact ⟨a,b,c,e,h.goto p⟩
theorem Mc.cells {τ:Type} {w u:World} {bs:List (Nat×Obj)} {Z:Wkr τ w bs} {Fr:List (Nat×Obj)} {M:Nat} {m:MSt} {en:Bool} {d:τ} (h:Mc Z Fr M m en d u):∃ csl rsl,u.cell? ⟨M,0,none⟩=some (.iface Z.T (.pointer (some ⟨Z.D,0,none⟩)))∧u.cell? ⟨M,1,none⟩=some (.int .i64 m.next)∧u.cell? ⟨M,2,none⟩=some csl∧u.cell? ⟨M,3,none⟩=some rsl∧u.cell? ⟨M,4,none⟩=some (.bool en)∧(∀ i,u.frozen? ⟨M,i,none⟩=false)∧M < u.heap.size:=by
 obtain ⟨a,b,c,e,h⟩:=h
 exact ⟨_,_,h.cells⟩
theorem Q7c {τ:Type} {r:Except Mar.Fault τ} {x:Unit} {d:τ} (h:Q8d r = .ok (x,d)):r = .ok d:=by
 cases r with
 | error f=>cases h
 | ok a=>cases h;rfl
theorem Q6l {τ:Type} {r:Except Mar.Fault τ} {f:Mar.Fault} (h:Q8d r = .error f):r = .error f:=by
 cases r with
 | error f=>cases h;rfl
 | ok a=>cases h
theorem Mc.work {τ α:Type} {w u:World} {bs:List (Nat×Obj)} {Z:Wkr τ w bs} {Fr:List (Nat×Obj)} {M:Nat} {m:MSt} {en:Bool} {d:τ} {f:Nat} {args:Array Value} {r:Except Mar.Fault (α×τ)} {V:α→Value} (h:Mc Z Fr M m en d u)
  (hc:∀ Fr',Z.J Fr' d u→Calls Tryz.prog f args u (Q58 w Z.J Fr' r V)):Calls Tryz.prog f args u fun e u'=>(∃ a d',r = .ok (a,d')∧e = .returned (V a)∧Mc Z Fr M m en d' u')∨(∃ f,r = .error f∧Qb [] w u'∧Q0h w f.no f.at' e u'):=by
 obtain ⟨Ec,Er,csl,rsl,h⟩:=h
 refine (hc _ h.j).mono ?_
 rintro e u' (⟨a,d',h1,h2,h3⟩ | h1)
 ·exact Or.inl ⟨a,d',h1,h2,Ec,Er,csl,rsl,h.rc,h.rr,h3⟩
 ·exact Or.inr h1
theorem Qi7 {τ:Type} {w u:World} {bs:List (Nat×Obj)} {Z:Wkr τ w bs} {Fr:List (Nat×Obj)} {M:Nat} {m:MSt} {d:τ} (p:Nat) (h:Mc Z Fr M m false d u) :
  Calls Tryz.prog 296 #[.agg #[.int .i64 p],.pointer (some ⟨M,0,none⟩)] u (Q2n Z Fr M (.ok ({ m with next:=p },d))):=by
 obtain ⟨csl,rsl,c0,c1,c2,c3,c4,cf,cl⟩:=h.cells
 have hng:M≠u.heap.size:=by omega
 have H:=Hid.mk (fun o=>(h.goto p).below ((Below.refl _ _).alloc (Nat.le_refl _) o))
 clear h
 go_enter Tryz.func296,Tryz.ntmps296
 go_wp2
 go_end0
 exact Or.inl ⟨_,d,rfl,rfl,H.out _⟩
theorem Qf9 {τ:Type} {w u:World} {bs:List (Nat×Obj)} {Z:Wkr τ w bs} {Fr:List (Nat×Obj)} {M:Nat} {m:MSt} {d:τ} {p:Nat} {ks:List Nat} (hm:m.calls=p :: ks) (hc:m.calls.length≤1000) (h:Mc Z Fr M m false d u) :
  Calls Tryz.prog 270 #[.agg #[],.pointer (some ⟨M,0,none⟩)] u (Q2n Z Fr M (.ok ({ m with next:=p,calls:=ks },d))):=by
 have VP:=Hid.mk (fun o=>Qk9 hm hc (h.below ((Below.refl _ _).alloc (Nat.le_refl _) o)))
 clear h
 go_enter Tryz.func270,Tryz.ntmps270
 go_wp2_with fail
 refine (VP.out _).mono ?_
 rintro e w2 ⟨rfl,M2⟩
 obtain ⟨csl,rsl,c0,c1,c2,c3,c4,cf,cl⟩:=M2.cells
 have H:=Hid.mk (M2.goto p)
 clear M2
 go_wp2
 go_end0
 exact Or.inl ⟨_,d,rfl,rfl,H.out⟩
theorem Qfa {τ:Type} {w u:World} {bs:List (Nat×Obj)} {Z:Wkr τ w bs} {Fr:List (Nat×Obj)} {M:Nat} {m:MSt} {d:τ} {cs:List Value} {n:NumL} (hN:Q1u bs cs n) (h:Mc Z Fr M m false d u) :
  Calls Tryz.prog 269 #[.agg cs.toArray,.pointer (some ⟨M,0,none⟩)] u (Q2n Z Fr M (thenE (Z.W.num n d) fun d'=>.ok (m,d'))):=by
 obtain ⟨mm,rfl,hmem,x,y,z,rfl⟩:=id hN
 have hmn:=Z.mN
 have hen:=Z.eN
 have h0:=h.below ((Below.refl _ _).alloc (Nat.le_refl _) (.cells #[.int .i64 n.low,.int .i64 n.high,.slice x y z,.bool n.wide] 200))
 obtain ⟨csl,rsl,c0,c1,c2,c3,c4,cf,cl⟩:=h0.cells
 have VN:=Hid.mk ((h0.below (Below.refl _ _).drew).work fun Fr' hj=>Z.cN hN hj)
 clear h h0 hmem
 go_enter Tryz.func269,Tryz.ntmps269
 go_wp2_with fail
 refine QE (fun w'=>w'.cell? ⟨M,0,none⟩=some (.iface Z.T (.pointer (some ⟨Z.D,0,none⟩)))∧w'.cell? ⟨u.heap.size,0,none⟩=some (.int .i64 n.low)∧w'.cell? ⟨u.heap.size,1,none⟩=some (.int .i64 n.high)∧w'.cell? ⟨u.heap.size,2,none⟩=some (.slice x y z)∧w'.cell? ⟨u.heap.size,3,none⟩=some (.bool n.wide)) (L:=5) (by kernel_rfl) rfl (by kernel_rfl) (by kernel_rfl) ?_ (fun hHeld=>?_)
 ·go_keep
 refine tk (i:=0) (v:=?_) rfl (by kernel_rfl) (fun _ _ _ h=>h) (by rfl) (by assumption) ?_ ?_
 rotate_left
 ·intro w hSw;(try dsimp only at hSw);go_simp;(try with_reducible rfl)
 (try simp only [Qd,Qe,List.set])
 refine tk (i:=1) (v:=?_) rfl (by kernel_rfl) (fun _ _ _ h=>h) (by rfl) (by assumption) ?_ ?_
 rotate_left
 ·intro w hSw;(try dsimp only at hSw);go_simp;(try with_reducible rfl)
 (try simp only [Qd,Qe,List.set])
 refine tk (i:=2) (v:=?_) rfl (by kernel_rfl) (fun _ _ _ h=>h) (by rfl) (by assumption) ?_ ?_
 rotate_left
 ·intro w hSw;(try dsimp only at hSw);go_simp;(try with_reducible rfl)
 (try simp only [Qd,Qe,List.set])
 refine tk (i:=3) (v:=?_) rfl (by kernel_rfl) (fun _ _ _ h=>h) (by rfl) (by assumption) ?_ ?_
 rotate_left
 ·intro w hSw;(try dsimp only at hSw);go_simp;(try with_reducible rfl)
 (try simp only [Qd,Qe,List.set])
 refine tk (i:=4) (v:=?_) rfl (by kernel_rfl) (fun _ _ _ h=>h) (by rfl) (by assumption) ?_ ?_
 rotate_left
 ·intro w hSw;(try dsimp only at hSw);go_simp;(try with_reducible rfl)
 (try simp only [Qd,Qe,List.set])
 refine wpAnyH_done (by kernel_rfl) ?_ _
 refine QK rfl (fun K hK=>?_)
 (go_simp;refine VN.out.mono ?_;rintro e w2 (⟨_,d2,hx,rfl,M2⟩ | ⟨f,hx,hk,g,hg,rfl,hc⟩);rotate_left;exact Qa (Or.inr ⟨f,by rw [Q6l hx];rfl,hk,g,hg,rfl,hc⟩))
 refine hK.out _ _ ?_
 clear hK K
 (try simp only [Qd,Qe,List.set])
 have M2:=Hid.mk M2
 go_wp2
 go_end0
 exact Or.inl ⟨m,d2,by rw [Q7c hx];rfl,rfl,M2.out⟩
theorem Qi8 {τ:Type} {w u:World} {bs:List (Nat×Obj)} {Z:Wkr τ w bs} {Fr:List (Nat×Obj)} {M:Nat} {m:MSt} {d:τ} (n:Int) (f:Bool) (hn:0≤n) (hn2:n≤4294967295) (h:Mc Z Fr M m false d u) :
  Calls Tryz.prog 289 #[.agg #[.int .i64 n,.bool f],.pointer (some ⟨M,0,none⟩)] u (Q2n Z Fr M (thenE (Z.W.text n f d) fun d'=>.ok (m,d'))):=by
 have hmn:=Z.mT
 have hen:=Z.eT
 have h0:=h.below ((Below.refl _ _).alloc (Nat.le_refl _) (.cells #[.int .i64 n,.bool f] 308))
 obtain ⟨csl,rsl,c0,c1,c2,c3,c4,cf,cl⟩:=h0.cells
 have VN:=Hid.mk ((h0.below (Below.refl _ _).drew).work fun Fr' hj=>Z.cT n f hn hn2 hj)
 clear h h0
 go_enter Tryz.func289,Tryz.ntmps289
 go_wp2_with fail
 refine QE (fun w'=>w'.cell? ⟨M,0,none⟩=some (.iface Z.T (.pointer (some ⟨Z.D,0,none⟩)))∧w'.cell? ⟨u.heap.size,0,none⟩=some (.int .i64 n)∧w'.cell? ⟨u.heap.size,1,none⟩=some (.bool f)) (L:=6) (by kernel_rfl) rfl (by kernel_rfl) (by kernel_rfl) ?_ (fun hHeld=>?_)
 ·go_keep
 refine tk (i:=0) (v:=?_) rfl (by kernel_rfl) (fun _ _ _ h=>h) (by rfl) (by assumption) ?_ ?_
 rotate_left
 ·intro w hSw;(try dsimp only at hSw);go_simp;(try with_reducible rfl)
 (try simp only [Qd,Qe,List.set])
 refine tk (i:=1) (v:=?_) rfl (by kernel_rfl) (fun _ _ _ h=>h) (by rfl) (by assumption) ?_ ?_
 rotate_left
 ·intro w hSw;(try dsimp only at hSw);go_simp;(try with_reducible rfl)
 (try simp only [Qd,Qe,List.set])
 refine tk (i:=2) (v:=?_) rfl (by kernel_rfl) (fun _ _ _ h=>h) (by rfl) (by assumption) ?_ ?_
 rotate_left
 ·intro w hSw;(try dsimp only at hSw);go_simp;(try with_reducible rfl)
 (try simp only [Qd,Qe,List.set])
 refine tk (i:=3) (v:=?_) rfl (by kernel_rfl) (fun _ _ _ h=>h) (by rfl) (by assumption) ?_ ?_
 rotate_left
 ·intro w hSw;(try dsimp only at hSw);go_simp;(try with_reducible rfl)
 (try simp only [Qd,Qe,List.set])
 refine tk (i:=4) (v:=?_) rfl (by kernel_rfl) (fun _ _ _ h=>h) (by rfl) (by assumption) ?_ ?_
 rotate_left
 ·intro w hSw;(try dsimp only at hSw);go_simp;(try with_reducible rfl)
 (try simp only [Qd,Qe,List.set])
 refine tk (i:=5) (v:=?_) rfl (by kernel_rfl) (fun _ _ _ h=>h) (by rfl) (by assumption) ?_ ?_
 rotate_left
 ·intro w hSw;(try dsimp only at hSw);go_simp;(try with_reducible rfl)
 (try simp only [Qd,Qe,List.set])
 refine wpAnyH_done (by kernel_rfl) ?_ _
 refine QK rfl (fun K hK=>?_)
 (go_simp;refine VN.out.mono ?_;rintro e w2 (⟨v2,d2,hx,rfl,M2⟩ | ⟨f',hx,hk,g,hg,rfl,hc⟩);rotate_left;exact Qa (Or.inr ⟨f',by rw [Q6l hx];rfl,hk,g,hg,rfl,hc⟩))
 refine hK.out _ _ ?_
 clear hK K
 (try simp only [Qd,Qe,List.set])
 have M2:=Hid.mk M2
 go_wp2
 go_end0
 exact Or.inl ⟨m,d2,by rw [Q7c hx];rfl,rfl,M2.out⟩
theorem Qfb {τ:Type} {w u:World} {bs:List (Nat×Obj)} {Z:Wkr τ w bs} {Fr:List (Nat×Obj)} {M:Nat} {m:MSt} {d:τ} (n:Int) (f:Bool) (hn:0≤n) (hn2:n≤4294967295) (h:Mc Z Fr M m false d u) :
  Calls Tryz.prog 294 #[.agg #[.int .i64 n,.bool f],.pointer (some ⟨M,0,none⟩)] u (Q2n Z Fr M (thenE (Z.W.list n f d) fun p=>.ok (m,p.2))):=by
 have hmn:=Z.mL
 have hen:=Z.eL
 have h0:=h.below ((Below.refl _ _).alloc (Nat.le_refl _) (.cells #[.int .i64 n,.bool f] 316))
 obtain ⟨csl,rsl,c0,c1,c2,c3,c4,cf,cl⟩:=h0.cells
 have VN:=Hid.mk ((h0.below (Below.refl _ _).drew).work fun Fr' hj=>Z.cL n f hn hn2 hj)
 clear h h0
 go_enter Tryz.func294,Tryz.ntmps294
 go_wp2_with fail
 refine QE (fun w'=>w'.cell? ⟨M,0,none⟩=some (.iface Z.T (.pointer (some ⟨Z.D,0,none⟩)))∧w'.cell? ⟨u.heap.size,0,none⟩=some (.int .i64 n)∧w'.cell? ⟨u.heap.size,1,none⟩=some (.bool f)) (L:=6) (by kernel_rfl) rfl (by kernel_rfl) (by kernel_rfl) ?_ (fun hHeld=>?_)
 ·go_keep
 refine tk (i:=0) (v:=?_) rfl (by kernel_rfl) (fun _ _ _ h=>h) (by rfl) (by assumption) ?_ ?_
 rotate_left
 ·intro w hSw;(try dsimp only at hSw);go_simp;(try with_reducible rfl)
 (try simp only [Qd,Qe,List.set])
 refine tk (i:=1) (v:=?_) rfl (by kernel_rfl) (fun _ _ _ h=>h) (by rfl) (by assumption) ?_ ?_
 rotate_left
 ·intro w hSw;(try dsimp only at hSw);go_simp;(try with_reducible rfl)
 (try simp only [Qd,Qe,List.set])
 refine tk (i:=2) (v:=?_) rfl (by kernel_rfl) (fun _ _ _ h=>h) (by rfl) (by assumption) ?_ ?_
 rotate_left
 ·intro w hSw;(try dsimp only at hSw);go_simp;(try with_reducible rfl)
 (try simp only [Qd,Qe,List.set])
 refine tk (i:=3) (v:=?_) rfl (by kernel_rfl) (fun _ _ _ h=>h) (by rfl) (by assumption) ?_ ?_
 rotate_left
 ·intro w hSw;(try dsimp only at hSw);go_simp;(try with_reducible rfl)
 (try simp only [Qd,Qe,List.set])
 refine tk (i:=4) (v:=?_) rfl (by kernel_rfl) (fun _ _ _ h=>h) (by rfl) (by assumption) ?_ ?_
 rotate_left
 ·intro w hSw;(try dsimp only at hSw);go_simp;(try with_reducible rfl)
 (try simp only [Qd,Qe,List.set])
 refine tk (i:=5) (v:=?_) rfl (by kernel_rfl) (fun _ _ _ h=>h) (by rfl) (by assumption) ?_ ?_
 rotate_left
 ·intro w hSw;(try dsimp only at hSw);go_simp;(try with_reducible rfl)
 (try simp only [Qd,Qe,List.set])
 refine wpAnyH_done (by kernel_rfl) ?_ _
 refine QK rfl (fun K hK=>?_)
 (go_simp;refine VN.out.mono ?_;rintro e w2 (⟨v2,d2,hx,rfl,M2⟩ | ⟨f',hx,hk,g,hg,rfl,hc⟩);rotate_left;exact Qa (Or.inr ⟨f',by rw [hx];rfl,hk,g,hg,rfl,hc⟩))
 refine hK.out _ _ ?_
 clear hK K
 (try simp only [Qd,Qe,List.set])
 have M2:=Hid.mk M2
 go_wp2
 go_end0
 exact Or.inl ⟨m,d2,by rw [hx];rfl,rfl,M2.out⟩
theorem Mc.ended {τ:Type} {w u:World} {bs:List (Nat×Obj)} {Z:Wkr τ w bs} {Fr:List (Nat×Obj)} {M:Nat} {m:MSt} {en:Bool} {d:τ} (h:Mc Z Fr M m en d u) (b:Bool):Mc Z Fr M m b d (u.setCell ⟨M,4,none⟩ (.bool b)):=by
 obtain ⟨a,b,c,e,h⟩:=h
 exact ⟨a,b,c,e,h.ended _⟩
theorem Qka {τ:Type} {w u:World} {bs:List (Nat×Obj)} {Z:Wkr τ w bs} {Fr:List (Nat×Obj)} {M:Nat} {m:MSt} {d:τ} (h:Mc Z Fr M m false d u) :
  Calls Tryz.prog 297 #[.agg #[],.pointer (some ⟨M,0,none⟩)] u fun e u'=>e = .returned (.tuple #[])∧Mc Z Fr M m true d u':=by
 have h1:=fun o=>h.below (u':=u.alloc o) ((Below.refl _ _).alloc (Nat.le_refl _) o)
 obtain ⟨csl,rsl,c0,c1,c2,c3,c4,cf,cl⟩:=h.cells
 have hng:M≠u.heap.size:=by omega
 have H:=Hid.mk (fun o=>(h.ended true).below ((Below.refl _ _).alloc (Nat.le_refl _) o))
 clear h h1
 go_enter Tryz.func297,Tryz.ntmps297
 go_wp2
 go_end0
 exact ⟨rfl,H.out _⟩
theorem Qfc {τ:Type} {w u:World} {bs:List (Nat×Obj)} {Z:Wkr τ w bs} {Fr:List (Nat×Obj)} {M:Nat} {m:MSt} {d:τ} {p1 p2:Nat} {ks:List (Nat×Nat)} (hm:m.rounds=(p1,p2 + 2) :: ks) (hc:m.rounds.length≤1000) (hp:p2 + 2≤4294967295) (h:Mc Z Fr M m false d u) :
  Calls Tryz.prog 300 #[.agg #[],.pointer (some ⟨M,0,none⟩)] u (Q2n Z Fr M (.ok ({ m with next:=p1,rounds:=(p1,p2 + 1) :: ks },d))):=by
 have VP:=Hid.mk (fun o=>Qcp hm hc (h.below ((Below.refl _ _).alloc (Nat.le_refl _) o)))
 have hks:ks.length < 1000:=by rw [hm] at hc;simp at hc;omega
 clear h hm hc
 go_enter Tryz.func300,Tryz.ntmps300
 go_wp2_with fail
 refine (VP.out _).mono ?_
 rintro e w2 ⟨rfl,M2⟩
 obtain ⟨csl,rsl,c0,c1,c2,c3,c4,cf,cl⟩:=M2.cells
 have hng:M≠w2.heap.size:=by omega
 have hsub:((p2:Int) + 2 - 1)=(p2:Int) + 1:=by omega
 have H:=Hid.mk (fun o=>Qax (p1,p2 + 1) hks ((M2.goto p1).below (((Below.refl _ _).alloc (Nat.le_refl _) o).drew)))
 clear M2
 go_wp2_with fail
 refine QE (fun w'=>w'.cell? ⟨w2.heap.size,0,none⟩=some (.int .i64 p1)∧w'.cell? ⟨w2.heap.size,1,none⟩=some (.int .i64 ((p2:Int) + 1))) (L:=4) (by kernel_rfl) rfl (by kernel_rfl) (by kernel_rfl) ?_ (fun hHeld=>?_)
 ·exact ⟨(Q0V (Qg (by simp))).1,(Q0V (Qg (by simp))).2.1⟩
 refine tk (i:=0) (v:=?_) rfl (by kernel_rfl) (fun _ _ _ h=>h) (by rfl) (by assumption) ?_ ?_
 rotate_left
 ·intro w hSw;(try dsimp only at hSw);go_simp;(try with_reducible rfl)
 (try simp only [Qd,Qe,List.set])
 refine tk (i:=1) (v:=?_) rfl (by kernel_rfl) (fun _ _ _ h=>h) (by rfl) (by assumption) ?_ ?_
 rotate_left
 ·intro w hSw;(try dsimp only at hSw);go_simp;(try with_reducible rfl)
 (try simp only [Qd,Qe,List.set])
 refine tk (i:=2) (v:=?_) rfl (by kernel_rfl) (fun _ _ _ h=>h) (by rfl) (by assumption) ?_ ?_
 rotate_left
 ·intro w hSw;(try dsimp only at hSw);go_simp;(try with_reducible rfl)
 (try simp only [Qd,Qe,List.set])
 refine tk (i:=3) (v:=?_) rfl (by kernel_rfl) (fun _ _ _ h=>h) (by rfl) (by assumption) ?_ ?_
 rotate_left
 ·intro w hSw;(try dsimp only at hSw);go_simp;(try with_reducible rfl)
 (try simp only [Qd,Qe,List.set])
 refine wpAnyH_done (by kernel_rfl) ?_ _
 refine QK rfl (fun K hK=>?_)
 (go_simp;refine (H.out _).mono ?_;rintro e w3 ⟨rfl,M3⟩)
 refine hK.out _ _ ?_
 clear hK K
 (try simp only [Qd,Qe,List.set])
 have M3:=Hid.mk M3
 go_wp2
 go_end0
 exact Or.inl ⟨_,d,rfl,rfl,M3.out⟩
theorem Qfd {τ:Type} {w u:World} {bs:List (Nat×Obj)} {Z:Wkr τ w bs} {Fr:List (Nat×Obj)} {M:Nat} {m:MSt} {d:τ} {p1 p2:Nat} {ks:List (Nat×Nat)} (hm:m.rounds=(p1,p2) :: ks) (hc:m.rounds.length≤1000) (hp:p2≤1) (h:Mc Z Fr M m false d u) :
  Calls Tryz.prog 300 #[.agg #[],.pointer (some ⟨M,0,none⟩)] u (Q2n Z Fr M (.ok ({ m with rounds:=ks },d))):=by
 have VP:=Hid.mk (fun o=>Qcp hm hc (h.below ((Below.refl _ _).alloc (Nat.le_refl _) o)))
 clear h hm hc
 go_enter Tryz.func300,Tryz.ntmps300
 go_wp2_with fail
 refine (VP.out _).mono ?_
 rintro e w2 ⟨rfl,M2⟩
 obtain ⟨csl,rsl,c0,c1,c2,c3,c4,cf,cl⟩:=M2.cells
 have hng:M≠w2.heap.size:=by omega
 have H:=Hid.mk (fun o=>M2.below (u':=w2.alloc o) ((Below.refl _ _).alloc (Nat.le_refl _) o))
 clear M2
 go_wp2
 go_end0
 exact Or.inl ⟨_,d,rfl,rfl,H.out _⟩
theorem QgT {τ:Type} {w u:World} {bs:List (Nat×Obj)} {Z:Wkr τ w bs} {Fr:List (Nat×Obj)} {M:Nat} {m:MSt} {d:τ} {p:Nat×Nat} {ks:List (Nat×Nat)} (hm:m.rounds=p :: ks) (hc:m.rounds.length≤1000) (hp:p.2≤4294967295) (h:Mc Z Fr M m false d u) :
  Calls Tryz.prog 300 #[.agg #[],.pointer (some ⟨M,0,none⟩)] u (Q2n Z Fr M (.ok (if 1 < p.2 then { m with next:=p.1,rounds:=(p.1,p.2 - 1) :: ks } else { m with rounds:=ks },d))):=by
 obtain ⟨p1,p2⟩:=p
 by_cases h1:1 < p2
 ·obtain ⟨k,rfl⟩:∃ k,p2=k + 2:=⟨p2 - 2,by omega⟩
  rw [if_pos h1]
  exact Qfc hm hc hp h
 ·rw [if_neg h1]
  exact Qfd hm hc (by omega) h
section
variable {τ : Type} {w u u' : World} {bs : List (Nat × Obj)} {Z : Wkr τ w bs} {Fr : List (Nat × Obj)} {M : Nat} {m : MSt} {en : Bool} {d : τ}
theorem Mc.alloc (h:Mc Z Fr M m en d u) (o:Obj):Mc Z ((u.heap.size,o) :: Fr) M m en d (u.alloc o):=by
 obtain ⟨Ec,Er,csl,rsl,h⟩:=h
 refine ⟨Ec,Er,csl,rsl,h.rc,h.rr,Z.perm (Z.alloc h.j o) ?_⟩
 have h1:∀ (a b:Nat×Obj) (A B C:List (Nat×Obj)),(a :: (A++(B++b :: C))).Perm (A++(B++b :: a :: C)):=by
  intro a b A B C
  rw [← List.append_assoc,← List.append_assoc]
  refine (List.perm_middle (a:=a) (l₁:=A++B) (l₂:=b :: C)).symm.trans ?_
  exact List.Perm.append_left _ (List.Perm.swap _ _ _)
 exact h1 _ _ _ _ _
theorem Mc.tail {p:Nat×Obj} (h:Mc Z (p :: Fr) M m en d u):Mc Z Fr M m en d u:=by
 obtain ⟨Ec,Er,csl,rsl,h⟩:=h
 refine ⟨Ec,Er,csl,rsl,h.rc,h.rr,Z.sub h.j ?_ ?_⟩
 ·intro q hq
  simp only [List.mem_append,List.mem_cons] at hq ⊢
  rcases hq with h | h | h | h
  ·exact Or.inl h
  ·exact Or.inr (Or.inl h)
  ·exact Or.inr (Or.inr (Or.inl h))
  ·exact Or.inr (Or.inr (Or.inr (Or.inr h)))
 ·have:=Z.nodup h.j
  refine this.sublist (List.Sublist.map _ ?_)
  exact List.Sublist.append_left (List.Sublist.append_left (List.Sublist.cons_cons _ (List.sublist_cons_self _ _)) _) _
theorem Mc.at {p:Nat×Obj} (h:Mc Z Fr M m en d u) (hp:p∈Fr):u.heap[p.1]? = some p.2:=by
 obtain ⟨Ec,Er,csl,rsl,h⟩:=h
 exact (Z.at h.j (by simp [hp])).1
end
theorem Qkb {b:Nat} {c0 c1 c2:Value} {T:TypeId} {w:World} (h:w.heap[b]? = some (.cells #[c0,c1,c2] T)) :
  w.cell? ⟨b,0,none⟩=some c0∧w.cell? ⟨b,1,none⟩=some c1∧w.cell? ⟨b,2,none⟩=some c2∧b < w.heap.size:=by
 refine ⟨?_,?_,?_,Qc h⟩<;>simp [World.cell?,h]
theorem Qi9 {b:Nat} {c0:Value} {T:TypeId} {w:World} (h:w.heap[b]? = some (.cells #[c0] T)):w.cell? ⟨b,0,none⟩=some c0∧b < w.heap.size:=by
 refine ⟨?_,Qc h⟩;simp [World.cell?,h]
theorem Qia {τ:Type} {w u:World} {bs:List (Nat×Obj)} {Z:Wkr τ w bs} {Fr:List (Nat×Obj)} {M:Nat} {m:MSt} {d:τ} (p:Nat) (hc:m.calls.length < 1000) (h:Mc Z Fr M m false d u) :
  Calls Tryz.prog 274 #[.agg #[.int .i64 p],.pointer (some ⟨M,0,none⟩)] u (Q2n Z Fr M (thenE (Z.W.enter m.calls.length d) fun d'=>.ok ({ m with next:=p,calls:=m.next :: m.calls },d'))):=by
 have hmn:=Z.mE
 have hen:=Z.eE
 have h0:=h.alloc (.cells #[.int .i64 p] 224)
 have h1:=h0.below (Below.refl _ _).drew
 obtain ⟨csl,rsl,c0,c1,c2,c3,c4,cf,cl⟩:=h0.cells
 have VL:=Hid.mk (Qk8 h1)
 have VN:=Hid.mk (h1.work fun Fr' hj=>Z.cE m.calls.length hc hj)
 clear h h0 h1
 go_enter Tryz.func274,Tryz.ntmps274
 go_wp2_with fail
 refine QE (fun w'=>w'.cell? ⟨M,0,none⟩=some (.iface Z.T (.pointer (some ⟨Z.D,0,none⟩)))) (L:=10) (by kernel_rfl) rfl (by kernel_rfl) (by kernel_rfl) ?_ (fun hHeld=>?_)
 ·go_keep
 refine tk (i:=0) (v:=?_) rfl (by kernel_rfl) (fun _ _ _ h=>h) (by rfl) (by assumption) ?_ ?_
 rotate_left
 ·intro w hSw;(try dsimp only at hSw);go_simp;(try with_reducible rfl)
 (try simp only [Qd,Qe,List.set])
 refine tk (i:=1) (v:=?_) rfl (by kernel_rfl) (fun _ _ _ h=>h) (by rfl) (by assumption) ?_ ?_
 rotate_left
 ·intro w hSw;(try dsimp only at hSw);go_simp;(try with_reducible rfl)
 (try simp only [Qd,Qe,List.set])
 refine tk (i:=2) (v:=?_) rfl (by kernel_rfl) (fun _ _ _ h=>h) (by rfl) (by assumption) ?_ ?_
 rotate_left
 ·intro w hSw;(try dsimp only at hSw);go_simp;(try with_reducible rfl)
 (try simp only [Qd,Qe,List.set])
 refine tk (i:=3) (v:=?_) rfl (by kernel_rfl) (fun _ _ _ h=>h) (by rfl) (by assumption) ?_ ?_
 rotate_left
 ·intro w hSw;(try dsimp only at hSw);go_simp;(try with_reducible rfl)
 (try simp only [Qd,Qe,List.set])
 refine tk (i:=4) (v:=?_) rfl (by kernel_rfl) (fun _ _ _ h=>h) (by rfl) (by assumption) ?_ ?_
 rotate_left
 ·intro w hSw;(try dsimp only at hSw);go_simp;(try with_reducible rfl)
 (try simp only [Qd,Qe,List.set])
 refine tk (i:=5) (v:=?_) rfl (by kernel_rfl) (fun _ _ _ h=>h) (by rfl) (by assumption) ?_ ?_
 rotate_left
 ·intro w hSw;(try dsimp only at hSw);go_simp;(try with_reducible rfl)
 (try simp only [Qd,Qe,List.set])
 refine tk (i:=6) (v:=?_) rfl (by kernel_rfl) (fun _ _ _ h=>h) (by rfl) (by assumption) ?_ ?_
 rotate_left
 ·intro w hSw;(try dsimp only at hSw);go_simp;(try with_reducible rfl)
 (try simp only [Qd,Qe,List.set])
 refine tk (i:=8) (v:=?_) rfl (by kernel_rfl) (fun _ _ _ h=>h) (by rfl) (by assumption) ?_ ?_
 rotate_left
 ·intro w hSw;(try dsimp only at hSw);go_simp;(try with_reducible rfl)
 (try simp only [Qd,Qe,List.set])
 refine tk (i:=9) (v:=?_) rfl (by kernel_rfl) (fun _ _ _ h=>h) (by rfl) (by assumption) ?_ ?_
 rotate_left
 ·intro w hSw;(try dsimp only at hSw);go_simp;(try with_reducible rfl)
 (try simp only [Qd,Qe,List.set])
 refine wpAnyH_ready (rs:=[7]) (by kernel_rfl) (by simp) ?_
 refine AllReadyH.cons rfl (fun K hK=>?_) AllReadyH.nil
 (go_simp;go_at_call 275;refine VL.out.mono ?_;rintro e w2 ⟨rfl,rfl⟩)
 refine hK.out _ _ ?_ (fun hHeld=>?_)
 ·go_keep
 clear hK K
 (try simp only [Qd,Qe,List.set])
 refine wpAnyH_done (by kernel_rfl) ?_ _
 refine QK rfl (fun K hK=>?_)
 (go_simp;refine VN.out.mono ?_;rintro e w2 (⟨v2,d2,hx,rfl,M2⟩ | ⟨f',hx,hk,g,hg,rfl,hc⟩);rotate_left;exact Qa (Or.inr ⟨f',by rw [Q6l hx];rfl,hk,g,hg,rfl,hc⟩))
 refine hK.out _ _ ?_
 clear hK K
 (try simp only [Qd,Qe,List.set])
 obtain ⟨csl,rsl,c0,c1,c2,c3,c4,cf,cl⟩:=M2.cells
 have VP:=Hid.mk (Qi6 m.next hc (M2.below (Below.refl _ _).drew))
 clear M2 VL VN
 go_wp2_with fail
 refine QE (fun w'=>w'.cell? ⟨M,1,none⟩=some (.int .i64 m.next)) (L:=7) (by kernel_rfl) rfl (by kernel_rfl) (by kernel_rfl) ?_ (fun hHeld=>?_)
 ·go_keep
 refine tk (i:=0) (v:=?_) rfl (by kernel_rfl) (fun _ _ _ h=>h) (by rfl) (by assumption) ?_ ?_
 rotate_left
 ·intro w hSw;(try dsimp only at hSw);go_simp;(try with_reducible rfl)
 (try simp only [Qd,Qe,List.set])
 refine tk (i:=1) (v:=?_) rfl (by kernel_rfl) (fun _ _ _ h=>h) (by rfl) (by assumption) ?_ ?_
 rotate_left
 ·intro w hSw;(try dsimp only at hSw);go_simp;(try with_reducible rfl)
 (try simp only [Qd,Qe,List.set])
 refine tk (i:=2) (v:=?_) rfl (by kernel_rfl) (fun _ _ _ h=>h) (by rfl) (by assumption) ?_ ?_
 rotate_left
 ·intro w hSw;(try dsimp only at hSw);go_simp;(try with_reducible rfl)
 (try simp only [Qd,Qe,List.set])
 refine tk (i:=3) (v:=?_) rfl (by kernel_rfl) (fun _ _ _ h=>h) (by rfl) (by assumption) ?_ ?_
 rotate_left
 ·intro w hSw;(try dsimp only at hSw);go_simp;(try with_reducible rfl)
 (try simp only [Qd,Qe,List.set])
 refine tk (i:=4) (v:=?_) rfl (by kernel_rfl) (fun _ _ _ h=>h) (by rfl) (by assumption) ?_ ?_
 rotate_left
 ·intro w hSw;(try dsimp only at hSw);go_simp;(try with_reducible rfl)
 (try simp only [Qd,Qe,List.set])
 refine tk (i:=5) (v:=?_) rfl (by kernel_rfl) (fun _ _ _ h=>h) (by rfl) (by assumption) ?_ ?_
 rotate_left
 ·intro w hSw;(try dsimp only at hSw);go_simp;(try with_reducible rfl)
 (try simp only [Qd,Qe,List.set])
 refine tk (i:=6) (v:=?_) rfl (by kernel_rfl) (fun _ _ _ h=>h) (by rfl) (by assumption) ?_ ?_
 rotate_left
 ·intro w hSw;(try dsimp only at hSw);go_simp;(try with_reducible rfl)
 (try simp only [Qd,Qe,List.set])
 refine wpAnyH_done (by kernel_rfl) ?_ _
 refine QK rfl (fun K hK=>?_)
 (go_simp;refine VP.out.mono ?_;rintro e w3 ⟨rfl,M3⟩)
 refine hK.out _ _ ?_
 clear hK K
 (try simp only [Qd,Qe,List.set])
 obtain ⟨csl,rsl,c0,c1,c2,c3,c4,cf,cl⟩:=M3.cells
 obtain ⟨s0,sl⟩:=Qi9 (M3.at (p:=(u.heap.size,.cells #[.int .i64 p] 224)) (by simp))
 have H:=Hid.mk (M3.goto p).tail
 clear M3
 go_wp2
 go_end0
 exact Or.inl ⟨_,d2,by rw [Q7c hx];rfl,rfl,H.out⟩
theorem QgU {τ:Type} {w u:World} {bs:List (Nat×Obj)} {Z:Wkr τ w bs} {Fr:List (Nat×Obj)} {M:Nat} {m:MSt} {d:τ} (n:Int) (f:Bool) (p:Nat) (hn:0≤n) (hn2:n≤4294967295) {r:Except Mar.Fault (MSt×τ)} (hr:Q0d Z.W (.array n f p) m d=some r) (h:Mc Z Fr M m false d u) :
  Calls Tryz.prog 298 #[.agg #[.int .i64 n,.bool f,.int .i64 p],.pointer (some ⟨M,0,none⟩)] u (Q2n Z Fr M r):=by
 obtain ⟨hc,hr⟩:m.rounds.length < 1000∧r=thenE (Z.W.list n f d) fun q=>.ok (if q.1=0 then { m with next:=p } else { m with rounds:=(m.next,q.1) :: m.rounds },q.2):=by
  simp only [Q0d] at hr
  split at hr
  ·cases hr
  ·refine ⟨by omega,?_⟩
   cases hx:Z.W.list n f d with
   | error e=>rw [hx] at hr;cases hr;rfl
   | ok q=>
    obtain ⟨k,d'⟩:=q
    rw [hx] at hr
    cases k with
    | zero=>cases hr;rfl
    | succ k=>cases hr;rfl
 subst hr
 have hmn:=Z.mL
 have hen:=Z.eL
 have h0:=h.alloc (.cells #[.int .i64 n,.bool f,.int .i64 p] 345)
 obtain ⟨csl,rsl,c0,c1,c2,c3,c4,cf,cl⟩:=h0.cells
 have VN:=Hid.mk ((h0.below (Below.refl _ _).drew).work fun Fr' hj=>Z.cL n f hn hn2 hj)
 clear h h0
 generalize hR:(thenE (Z.W.list n f d) fun q=>Except.ok (if q.1=0 then { m with next:=p } else { m with rounds:=(m.next,q.1) :: m.rounds },q.2))=R
 go_enter Tryz.func298,Tryz.ntmps298
 go_wp2_with fail
 refine QE (fun w'=>w'.cell? ⟨M,0,none⟩=some (.iface Z.T (.pointer (some ⟨Z.D,0,none⟩)))∧w'.cell? ⟨u.heap.size,0,none⟩=some (.int .i64 n)∧w'.cell? ⟨u.heap.size,1,none⟩=some (.bool f)∧w'.cell? ⟨u.heap.size,2,none⟩=some (.int .i64 p)) (L:=7) (by kernel_rfl) rfl (by kernel_rfl) (by kernel_rfl) ?_ (fun hHeld=>?_)
 ·go_keep
 refine tk (i:=0) (v:=?_) rfl (by kernel_rfl) (fun _ _ _ h=>h) (by rfl) (by assumption) ?_ ?_
 rotate_left
 ·intro w hSw;(try dsimp only at hSw);go_simp;(try with_reducible rfl)
 (try simp only [Qd,Qe,List.set])
 refine tk (i:=1) (v:=?_) rfl (by kernel_rfl) (fun _ _ _ h=>h) (by rfl) (by assumption) ?_ ?_
 rotate_left
 ·intro w hSw;(try dsimp only at hSw);go_simp;(try with_reducible rfl)
 (try simp only [Qd,Qe,List.set])
 refine tk (i:=2) (v:=?_) rfl (by kernel_rfl) (fun _ _ _ h=>h) (by rfl) (by assumption) ?_ ?_
 rotate_left
 ·intro w hSw;(try dsimp only at hSw);go_simp;(try with_reducible rfl)
 (try simp only [Qd,Qe,List.set])
 refine tk (i:=3) (v:=?_) rfl (by kernel_rfl) (fun _ _ _ h=>h) (by rfl) (by assumption) ?_ ?_
 rotate_left
 ·intro w hSw;(try dsimp only at hSw);go_simp;(try with_reducible rfl)
 (try simp only [Qd,Qe,List.set])
 refine tk (i:=4) (v:=?_) rfl (by kernel_rfl) (fun _ _ _ h=>h) (by rfl) (by assumption) ?_ ?_
 rotate_left
 ·intro w hSw;(try dsimp only at hSw);go_simp;(try with_reducible rfl)
 (try simp only [Qd,Qe,List.set])
 refine tk (i:=5) (v:=?_) rfl (by kernel_rfl) (fun _ _ _ h=>h) (by rfl) (by assumption) ?_ ?_
 rotate_left
 ·intro w hSw;(try dsimp only at hSw);go_simp;(try with_reducible rfl)
 (try simp only [Qd,Qe,List.set])
 refine wpAnyH_ready (rs:=[6]) (by kernel_rfl) (by simp) ?_
 refine AllReadyH.cons rfl (fun K hK=>?_) AllReadyH.nil
 (go_simp;refine VN.out.mono ?_;rintro e w2 (⟨v2,d2,hx,rfl,M2⟩ | ⟨f',hx,hk,g,hg,rfl,hc⟩);rotate_left;exact Qa (Or.inr ⟨f',by rw [← hR,hx];rfl,hk,g,hg,rfl,hc⟩);obtain ⟨csl,rsl,c0,c1,c2,c3,c4,cf,cl⟩:=M2.cells;obtain ⟨s0,s1,s2,sl⟩:=Qkb (M2.at (p:=(u.heap.size,.cells #[.int .i64 n,.bool f,.int .i64 p] 345)) (by simp));have hv2:=Z.small hn hn2 hx;have M2:=Hid.mk M2;have HX:=Hid.mk hx;clear hx)
 refine hK.out _ _ ?_ (fun hHeld=>?_)
 ·go_keep
 clear hK K
 (try simp only [Qd,Qe,List.set])
 refine wpAnyH_done (by kernel_rfl) ?_ _
 refine QK rfl (fun K hK=>?_)
 go_simp
 refine hK.out _ _ ?_
 clear hK K
 (try simp only [Qd,Qe,List.set])
 cases v2 with
 | zero=>
  have E2:Hid (R = .ok ({ m with next:=p },d2)):=by show _=_;rw [← hR,HX.out];rfl
  have H:=Hid.mk (M2.out.goto p).tail
  clear hR VN HX M2
  go_wp2
  go_end0
  exact Or.inl ⟨_,d2,E2.out,rfl,H.out⟩
 | succ k=>
  have E2:Hid (R = .ok ({ m with rounds:=(m.next,k + 1) :: m.rounds },d2)):=by show _=_;rw [← hR,HX.out];rfl
  have H:=Hid.mk (Qax (m.next,k + 1) hc (M2.out.below (Below.refl _ _).drew))
  clear hR VN HX M2
  go_wp2_with fail
  refine QE (fun w'=>w'.cell? ⟨M,1,none⟩=some (.int .i64 m.next)) (L:=9) (by kernel_rfl) rfl (by kernel_rfl) (by kernel_rfl) ?_ (fun hHeld=>?_)
  ·go_keep
  refine tk (i:=0) (v:=?_) rfl (by kernel_rfl) (fun _ _ _ h=>h) (by rfl) (by assumption) ?_ ?_
  rotate_left
  ·intro w hSw;(try dsimp only at hSw);go_simp;(try with_reducible rfl)
  (try simp only [Qd,Qe,List.set])
  refine tk (i:=1) (v:=?_) rfl (by kernel_rfl) (fun _ _ _ h=>h) (by rfl) (by assumption) ?_ ?_
  rotate_left
  ·intro w hSw;(try dsimp only at hSw);go_simp;(try with_reducible rfl)
  (try simp only [Qd,Qe,List.set])
  refine tk (i:=2) (v:=?_) rfl (by kernel_rfl) (fun _ _ _ h=>h) (by rfl) (by assumption) ?_ ?_
  rotate_left
  ·intro w hSw;(try dsimp only at hSw);go_simp;(try with_reducible rfl)
  (try simp only [Qd,Qe,List.set])
  refine tk (i:=3) (v:=?_) rfl (by kernel_rfl) (fun _ _ _ h=>h) (by rfl) (by assumption) ?_ ?_
  rotate_left
  ·intro w hSw;(try dsimp only at hSw);go_simp;(try with_reducible rfl)
  (try simp only [Qd,Qe,List.set])
  refine tk (i:=4) (v:=?_) rfl (by kernel_rfl) (fun _ _ _ h=>h) (by rfl) (by assumption) ?_ ?_
  rotate_left
  ·intro w hSw;(try dsimp only at hSw);go_simp;(try with_reducible rfl)
  (try simp only [Qd,Qe,List.set])
  refine tk (i:=5) (v:=?_) rfl (by kernel_rfl) (fun _ _ _ h=>h) (by rfl) (by assumption) ?_ ?_
  rotate_left
  ·intro w hSw;(try dsimp only at hSw);go_simp;(try with_reducible rfl)
  (try simp only [Qd,Qe,List.set])
  refine tk (i:=6) (v:=?_) rfl (by kernel_rfl) (fun _ _ _ h=>h) (by rfl) (by assumption) ?_ ?_
  rotate_left
  ·intro w hSw;(try dsimp only at hSw);go_simp;(try with_reducible rfl)
  (try simp only [Qd,Qe,List.set])
  refine tk (i:=7) (v:=?_) rfl (by kernel_rfl) (fun _ _ _ h=>h) (by rfl) (by assumption) ?_ ?_
  rotate_left
  ·intro w hSw;(try dsimp only at hSw);go_simp;(try with_reducible rfl)
  (try simp only [Qd,Qe,List.set])
  refine tk (i:=8) (v:=?_) rfl (by kernel_rfl) (fun _ _ _ h=>h) (by rfl) (by assumption) ?_ ?_
  rotate_left
  ·intro w hSw;(try dsimp only at hSw);go_simp;(try with_reducible rfl)
  (try simp only [Qd,Qe,List.set])
  refine wpAnyH_done (by kernel_rfl) ?_ _
  refine QK rfl (fun K hK=>?_)
  (go_simp;refine H.out.mono ?_;rintro e w3 ⟨rfl,M3⟩)
  refine hK.out _ _ ?_
  clear hK K
  (try simp only [Qd,Qe,List.set])
  have M3:=Hid.mk M3.tail
  go_wp2
  go_end0
  exact Or.inl ⟨_,d2,E2.out,rfl,M3.out⟩
theorem Qfe {τ:Type} {w u:World} {bs:List (Nat×Obj)} {Z:Wkr τ w bs} {Fr:List (Nat×Obj)} {M:Nat} {m:MSt} {d:τ} {cs:List Value} {n:NumL} {mp:Nat} {ws:List (Int×Nat×Nat)} {ov:Value} {o:Option (Nat×Nat)} (hN:Q1u bs cs n) (hm:(mp,Q12 ws)∈bs) (ho:Q3J bs ov o) (nd:(ws.map (·.1)).Nodup) {r:Except Mar.Fault (MSt×τ)} (hr:Q0d Z.W (.choice n ws o) m d=some r) (h:Mc Z Fr M m false d u) :
  Calls Tryz.prog 295 #[.agg (cs++[.map (some mp),ov]).toArray,.pointer (some ⟨M,0,none⟩)] u (Q2n Z Fr M r):=by
 obtain ⟨mm,rfl,hmem,x,y,z,rfl⟩:=id hN
 obtain ⟨pa,rfl⟩:∃ pa,ov = .pointer pa:=by
  cases o with
  | none=>exact ⟨_,ho⟩
  | some q=>obtain ⟨b,h1,_⟩:=ho;exact ⟨_,h1⟩
 have hmn:=Z.mA
 have hfn:∀ (a b:Value) (W:World),(Instr.field 323 (.agg #[a,b]) 0).run Tryz.prog W = .ok a W:=fun _ _ _=>by kernel_rfl
 have hen:=Z.eA
 have h0:=h.alloc (.cells #[.int .i64 n.low,.int .i64 n.high,.slice x y z,.bool n.wide,.map (some mp),.pointer pa] 321)
 obtain ⟨csl,rsl,c0,c1,c2,c3,c4,cf,cl⟩:=h0.cells
 have VN:=Hid.mk ((h0.below (Below.refl _ _).drew).work fun Fr' hj=>Z.cA hN hm ho nd hj)
 have HR:=Hid.mk hr
 clear h h0 hmem hr ho
 go_enter Tryz.func295,Tryz.ntmps295
 go_wp2_with fail
 refine QE (fun w'=>w'.cell? ⟨M,0,none⟩=some (.iface Z.T (.pointer (some ⟨Z.D,0,none⟩)))∧w'.cell? ⟨u.heap.size,0,none⟩=some (.int .i64 n.low)∧w'.cell? ⟨u.heap.size,1,none⟩=some (.int .i64 n.high)∧w'.cell? ⟨u.heap.size,2,none⟩=some (.slice x y z)∧w'.cell? ⟨u.heap.size,3,none⟩=some (.bool n.wide)∧w'.cell? ⟨u.heap.size,4,none⟩=some (.map (some mp))∧w'.cell? ⟨u.heap.size,5,none⟩=some (.pointer pa)) (L:=10) (by kernel_rfl) rfl (by kernel_rfl) (by kernel_rfl) ?_ (fun hHeld=>?_)
 ·go_keep
 refine tk (i:=0) (v:=?_) rfl (by kernel_rfl) (fun _ _ _ h=>h) (by rfl) (by assumption) ?_ ?_
 rotate_left
 ·intro w hSw;(try dsimp only at hSw);go_simp;(try with_reducible rfl)
 (try simp only [Qd,Qe,List.set])
 refine tk (i:=1) (v:=?_) rfl (by kernel_rfl) (fun _ _ _ h=>h) (by rfl) (by assumption) ?_ ?_
 rotate_left
 ·intro w hSw;(try dsimp only at hSw);go_simp;(try with_reducible rfl)
 (try simp only [Qd,Qe,List.set])
 refine tk (i:=2) (v:=?_) rfl (by kernel_rfl) (fun _ _ _ h=>h) (by rfl) (by assumption) ?_ ?_
 rotate_left
 ·intro w hSw;(try dsimp only at hSw);go_simp;(try with_reducible rfl)
 (try simp only [Qd,Qe,List.set])
 refine tk (i:=3) (v:=?_) rfl (by kernel_rfl) (fun _ _ _ h=>h) (by rfl) (by assumption) ?_ ?_
 rotate_left
 ·intro w hSw;(try dsimp only at hSw);go_simp;(try with_reducible rfl)
 (try simp only [Qd,Qe,List.set])
 refine tk (i:=4) (v:=?_) rfl (by kernel_rfl) (fun _ _ _ h=>h) (by rfl) (by assumption) ?_ ?_
 rotate_left
 ·intro w hSw;(try dsimp only at hSw);go_simp;(try with_reducible rfl)
 (try simp only [Qd,Qe,List.set])
 refine tk (i:=5) (v:=?_) rfl (by kernel_rfl) (fun _ _ _ h=>h) (by rfl) (by assumption) ?_ ?_
 rotate_left
 ·intro w hSw;(try dsimp only at hSw);go_simp;(try with_reducible rfl)
 (try simp only [Qd,Qe,List.set])
 refine wpAnyH_ready (rs:=[6]) (by kernel_rfl) (by simp) ?_
 refine AllReadyH.cons rfl (fun K hK=>?_) AllReadyH.nil
 (go_simp;refine VN.out.mono ?_;rintro e w2 (⟨v2,d2,hx,rfl,M2⟩ | ⟨f',hx,hk,g,hg,rfl,hc⟩);rotate_left;exact Qa (Or.inr ⟨f',by have:=HR.out;simp only [Q0d,hx] at this;cases this;rfl,hk,g,hg,rfl,hc⟩);obtain ⟨q,hq⟩:∃ q,wayL n ws o v2=some q:=(by have:=HR.out;simp only [Q0d,hx] at this;cases hw:wayL n ws o v2 with | none=>rw [hw] at this;cases this | some q=>exact ⟨q,rfl⟩);have E2:Hid (r = .ok ({ m with next:=q.1 },d2)):=(by show _=_;have:=HR.out;simp only [Q0d,hx,hq] at this;cases this;rfl);have EV:wayV n ws o v2 = .agg #[.int .i64 q.1,.int .i64 q.2]:=(by simp [wayV,hq]);obtain ⟨csl,rsl,c0,c1,c2,c3,c4,cf,cl⟩:=M2.cells;obtain ⟨s0,s1,s2,s3,s4,s5,sf,sl⟩:=Q2I (M2.at (p:=(u.heap.size,.cells #[.int .i64 n.low,.int .i64 n.high,.slice x y z,.bool n.wide,.map (some mp),.pointer pa] 321)) (by simp));have H:=Hid.mk (M2.goto q.1).tail;clear M2 hx hq HR;rw [EV])
 refine hK.out _ _ ?_ (fun hHeld=>?_)
 ·go_keep
 clear hK K
 (try simp only [Qd,Qe,List.set])
 refine tk (i:=7) (v:=?_) rfl (by kernel_rfl) (fun _ _ _ h=>h) (by rfl) (by assumption) ?_ ?_
 rotate_left
 ·intro w hSw;(try dsimp only at hSw);go_simp;(try with_reducible rfl)
 (try simp only [Qd,Qe,List.set])
 refine tk (i:=8) (v:=?_) rfl (by kernel_rfl) (fun _ _ _ h=>h) (by rfl) (by assumption) ?_ ?_
 rotate_left
 ·intro w hSw;(try dsimp only at hSw);go_simp;(try with_reducible rfl)
 (try simp only [Qd,Qe,List.set])
 refine tk (i:=9) (v:=?_) rfl (by kernel_rfl) (fun _ _ _ h=>h) (by rfl) (by assumption) ?_ ?_
 rotate_left
 ·intro w hSw;(try dsimp only at hSw);go_simp;(try with_reducible rfl)
 (try simp only [Qd,Qe,List.set])
 refine wpAnyH_done (by kernel_rfl) ?_ _
 refine QK rfl (fun K hK=>?_)
 go_simp
 refine hK.out _ _ ?_
 clear hK K
 (try simp only [Qd,Qe,List.set])
 go_end0
 exact Or.inl ⟨_,d2,E2.out,rfl,H.out⟩
def Q39:Qj→Prop
 | .text n _=>0≤n∧n≤4294967295
 | .struct n _=>0≤n∧n≤4294967295
 | .array n _ _=>0≤n∧n≤4294967295
 | .choice _ ws _=>(ws.map (·.1)).Nodup
 | _=>True
structure MOk (m:MSt):Prop where
 calls:m.calls.length≤1000
 rounds:m.rounds.length≤1000
 left:∀ p∈m.rounds,p.2≤4294967295
theorem MOk.goto {m:MSt} (h:MOk m) (p:Nat):MOk { m with next:=p }:=⟨h.calls,h.rounds,h.left⟩
theorem Qib {τ:Type} {w:World} {bs:List (Nat×Obj)} {Z:Wkr τ w bs} {x:Qj} {m m':MSt} {d d':τ} (hg:Q39 x) (ho:MOk m) (hr:Q0d Z.W x m d=some (.ok (m',d'))):MOk m':=by
 cases x with
 | hole=>cases hr
 | fin=>cases hr
 | call dest=>
  simp only [Q0d] at hr
  split at hr
  ·cases hr
  ·rename_i hc
   cases he:Z.W.enter m.calls.length d with
   | error f=>rw [he] at hr;cases hr
   | ok e=>rw [he] at hr;cases hr;exact ⟨by simp;omega,ho.rounds,ho.left⟩
 | ret=>
  simp only [Q0d] at hr
  cases hm:m.calls with
  | nil=>rw [hm] at hr;cases hr
  | cons k ks=>
   rw [hm] at hr
   cases hr
   have:=ho.calls
   rw [hm] at this
   exact ⟨by simp at this ⊢;omega,ho.rounds,ho.left⟩
 | jump dest=>cases hr;exact ho.goto _
 | num n=>
  simp only [Q0d] at hr
  cases he:Z.W.num n d with
  | error f=>rw [he] at hr;cases hr
  | ok e=>rw [he] at hr;cases hr;exact ho
 | text n b=>
  simp only [Q0d] at hr
  cases he:Z.W.text n b d with
  | error f=>rw [he] at hr;cases hr
  | ok e=>rw [he] at hr;cases hr;exact ho
 | struct n b=>
  simp only [Q0d] at hr
  cases he:Z.W.list n b d with
  | error f=>rw [he] at hr;cases hr
  | ok e=>obtain ⟨k,e⟩:=e;rw [he] at hr;cases hr;exact ho
 | array n b dest=>
  simp only [Q0d] at hr
  split at hr
  ·cases hr
  ·rename_i hc
   cases he:Z.W.list n b d with
   | error f=>rw [he] at hr;cases hr
   | ok e=>
    obtain ⟨k,e⟩:=e
    have hk:=Z.small hg.1 hg.2 he
    rw [he] at hr
    cases k with
    | zero=>cases hr;exact ho.goto _
    | succ k=>
     cases hr
     refine ⟨ho.calls,by simp;omega,?_⟩
     intro p hp
     rcases List.mem_cons.1 hp with rfl | hp
     ·exact hk
     ·exact ho.left p hp
 | again=>
  simp only [Q0d] at hr
  cases hm:m.rounds with
  | nil=>rw [hm] at hr;cases hr
  | cons p ps=>
   obtain ⟨f,l⟩:=p
   rw [hm] at hr
   have h1:=ho.rounds
   have h2:=ho.left
   rw [hm] at h1 h2
   simp only [Option.some.injEq,Except.ok.injEq,Prod.mk.injEq] at hr
   obtain ⟨rfl,rfl⟩:=hr
   split
   ·refine ⟨ho.calls,by simpa using h1,?_⟩
    intro q hq
    rcases List.mem_cons.1 hq with rfl | hq
    ·have:=h2 (f,l) (by simp)
     simp only at this ⊢
     omega
    ·exact h2 q (List.mem_cons_of_mem _ hq)
   ·exact ⟨ho.calls,by simp at h1 ⊢;omega,fun q hq=>h2 q (List.mem_cons_of_mem _ hq)⟩
 | choice n ws o=>
  simp only [Q0d] at hr
  cases he:Z.W.arm n (fun k=>(wayL n ws o k).map (·.2)) d with
  | error f=>rw [he] at hr;cases hr
  | ok e=>
   obtain ⟨k,e⟩:=e
   rw [he] at hr
   simp only at hr
   cases hw:wayL n ws o k with
   | none=>rw [hw] at hr;cases hr
   | some q=>rw [hw] at hr;cases hr;exact ho.goto _
theorem Q93 {τ:Type} {r:Except Mar.Fault τ} {m:MSt}:(match r with | .ok d'=>Except.ok (m,d') | .error f=>.error f)=thenE r fun d'=>.ok (m,d'):=by
 cases r<;>rfl
def Qic {τ:Type} {w:World} {bs:List (Nat×Obj)} (Z:Wkr τ w bs) (Fr:List (Nat×Obj)) (M:Nat) (T:TypeId) (sv:Value) (f:Nat) (m:MSt) (d:τ) (r:Except Mar.Fault (MSt×τ)):Prop:=
 (∀ k (u : World), (method (k + 1) T sv "marshal/machine.run").run Tryz.prog u = .ok (f, sv) u) ∧ (∀ (args : Array Value) (u : World), (callFunc f args).run Tryz.prog u = .ok (.enter f args) u) ∧ ∀ u, Mc Z Fr M m false d u → Calls Tryz.prog f #[sv, .pointer (some ⟨M, 0, none⟩)] u (Q2n Z Fr M r)
theorem Qid {τ:Type} {w:World} {bs:List (Nat×Obj)} (Z:Wkr τ w bs) (Fr:List (Nat×Obj)) (M:Nat) {x:Qj} {v:Value} {m:MSt} {d:τ} {r:Except Mar.Fault (MSt×τ)} (hx:Q1W bs v x) (hg:Q39 x) (ho:MOk m) (hr:Q0d Z.W x m d=some r):∃ T sv f,v = .iface T sv∧Qic Z Fr M T sv f m d r:=by
 cases x with
 | hole=>cases hr
 | fin=>cases hr
 | call dest=>
  obtain rfl:=hx
  simp only [Q0d] at hr
  split at hr
  ·cases hr
  ·rename_i hc
   obtain rfl:=Option.some.inj hr
   refine ⟨_,_,274,rfl,fun _ _=>by kernel_rfl,fun _ _=>by kernel_rfl,fun u h=>?_⟩
   have:=Qia dest (by omega) h
   rw [← Q93] at this
   exact this
 | ret=>
  obtain rfl:=hx
  simp only [Q0d] at hr
  cases hm:m.calls with
  | nil=>rw [hm] at hr;cases hr
  | cons k ks=>
   rw [hm] at hr
   obtain rfl:=Option.some.inj hr
   exact ⟨_,_,270,rfl,fun _ _=>by kernel_rfl,fun _ _=>by kernel_rfl,fun u h=>Qf9 hm ho.calls h⟩
 | jump dest=>
  obtain rfl:=hx
  obtain rfl:=Option.some.inj hr
  exact ⟨_,_,296,rfl,fun _ _=>by kernel_rfl,fun _ _=>by kernel_rfl,fun u h=>Qi7 dest h⟩
 | num n=>
  obtain ⟨cs,rfl,hN⟩:=hx
  obtain rfl:=Option.some.inj hr
  refine ⟨_,_,269,rfl,fun _ _=>by kernel_rfl,fun _ _=>by kernel_rfl,fun u h=>?_⟩
  have:=Qfa hN h
  rw [← Q93] at this
  exact this
 | text n b=>
  obtain rfl:=hx
  obtain rfl:=Option.some.inj hr
  refine ⟨_,_,289,rfl,fun _ _=>by kernel_rfl,fun _ _=>by kernel_rfl,fun u h=>?_⟩
  have:=Qi8 n b hg.1 hg.2 h
  rw [← Q93] at this
  exact this
 | struct n b=>
  obtain rfl:=hx
  obtain rfl:=Option.some.inj hr
  refine ⟨_,_,294,rfl,fun _ _=>by kernel_rfl,fun _ _=>by kernel_rfl,fun u h=>?_⟩
  have:=Qfb n b hg.1 hg.2 h
  have e:(match Z.W.list n b d with | .ok (_,d')=>Except.ok (m,d') | .error f=>.error f)=thenE (Z.W.list n b d) fun p=>.ok (m,p.2):=by cases Z.W.list n b d<;>rfl
  rw [← e] at this
  exact this
 | array n b dest=>
  obtain rfl:=hx
  exact ⟨_,_,298,rfl,fun _ _=>by kernel_rfl,fun _ _=>by kernel_rfl,fun u h=>QgU n b dest hg.1 hg.2 hr h⟩
 | again=>
  obtain rfl:=hx
  simp only [Q0d] at hr
  cases hm:m.rounds with
  | nil=>rw [hm] at hr;cases hr
  | cons p ps=>
   rw [hm] at hr
   obtain ⟨p1,p2⟩:=p
   obtain rfl:=Option.some.inj hr
   exact ⟨_,_,300,rfl,fun _ _=>by kernel_rfl,fun _ _=>by kernel_rfl,fun u h=>QgT hm ho.rounds (ho.left (p1,p2) (by rw [hm];simp)) h⟩
 | choice n ws o=>
  obtain ⟨cs,mp,ov,rfl,hN,hm,hoo⟩:=hx
  exact ⟨_,_,295,rfl,fun _ _=>by kernel_rfl,fun _ _=>by kernel_rfl,fun u h=>Qfe hN hm hoo hg hr h⟩
section
variable {τ : Type} {w u : World} {bs : List (Nat × Obj)} {Z : Wkr τ w bs} {Fr : List (Nat × Obj)} {M : Nat} {m : MSt} {en : Bool} {d : τ}
theorem Mc.start (h:Z.J Fr d u) (p:Nat):Mc Z Fr u.heap.size ⟨p,[],[]⟩ false d (u.alloc (mObj Z p (.slice none 0 0) (.slice none 0 0) false)):=
 ⟨[],[],.slice none 0 0,.slice none 0 0,Or.inl ⟨rfl,rfl,rfl,rfl⟩,Or.inl ⟨rfl,rfl,rfl,rfl⟩,Z.alloc h _⟩
theorem Mc.drop (h:Mc Z Fr M m en d u):Z.J Fr d u:=by
 obtain ⟨Ec,Er,csl,rsl,h⟩:=h
 refine Z.sub h.j (fun q hq=>by simp [hq]) ?_
 have hs:List.Sublist Fr (Ec++(Er++(M,mObj Z m.next csl rsl en) :: Fr)):=(List.sublist_cons_self _ _).trans ((List.sublist_append_right _ _).trans (List.sublist_append_right _ _))
 exact (Z.nodup h.j).sublist (hs.map _)
theorem Mc.kp (h:Mc Z Fr M m en d u):Qb [] w u:=Z.kp h.drop
end
def QgV {τ:Type} {w:World} {bs:List (Nat×Obj)} (Z:Wkr τ w bs) (Fr:List (Nat×Obj)) (M:Nat) (c:List Qj) (z:Except Mar.Fault τ) (k:Nat) (ur:World):Prop:=
 ∃ m d,(Mc Z Fr M m false d ur∧MOk m∧runN Z.W c k m d=some z)∨(z = .ok d∧Mc Z Fr M m true d ur)
theorem Qay {τ:Type} {W:Wk τ} {c:List Qj} {k:Nat} {m:MSt} {d:τ} {z:Except Mar.Fault τ} (h:runN W c k m d=some z):∃ j x,k=j + 1∧c[m.next]? = some x∧((x = .fin∧z = .ok d)∨(x≠.fin∧∃ r,Q0d W x { m with next:=m.next + 1 } d=some r∧((∃ f,r = .error f∧z = .error f)∨∃ m' d',r = .ok (m',d')∧runN W c j m' d'=some z))):=by
 cases k with
 | zero=>cases h
 | succ j=>
  unfold runN at h
  cases hx:c[m.next]? with
  | none=>rw [hx] at h;cases h
  | some x=>
   rw [hx] at h
   refine ⟨j,x,rfl,rfl,?_⟩
   by_cases hf:x = .fin
   ·subst hf
    cases h
    exact Or.inl ⟨rfl,rfl⟩
   ·have h':(match Q0d W x { m with next:=m.next + 1 } d with
     | none=>none
     | some (.error f)=>some (.error f)
     | some (.ok (m',d'))=>runN W c j m' d')=some z:=by
     cases x<;>first | exact absurd rfl hf | exact h
    refine Or.inr ⟨hf,?_⟩
    cases hs:Q0d W x { m with next:=m.next + 1 } d with
    | none=>rw [hs] at h';cases h'
    | some r=>
     rw [hs] at h'
     refine ⟨r,rfl,?_⟩
     cases r with
     | error f=>cases h';exact Or.inl ⟨f,rfl,rfl⟩
     | ok p=>exact Or.inr ⟨p.1,p.2,rfl,h'⟩
theorem Qkc {τ:Type} {w u:World} {bs:List (Nat×Obj)} {Z:Wkr τ w bs} {Fr:List (Nat×Obj)} {d:τ} {c:List Qj} {v:Value} {z:Except Mar.Fault τ} {start N:Nat} (hc:Q3V bs v c) (hw:∀ p∈bs,w.heap[p.1]? = some p.2) (hg:∀ x∈c,Q39 x) (hj:Z.J Fr d u) (hr:runN Z.W c N ⟨start,[],[]⟩ d=some z) :
  Calls Tryz.prog 61 #[v,.int .i64 start,.iface Z.T (.pointer (some ⟨Z.D,0,none⟩))] u (Q58 w Z.J Fr (Q8d z) fun _=>.tuple #[]):=by
 obtain ⟨cv,hcv,hlong,hst,hlen⟩:=hc
 obtain ⟨g,cap,rfl,hcap,hcell⟩:∃ g cap,v = .slice (some ⟨g,0,none⟩) c.length cap∧c.length≤cap∧∀ (ur:World),Qb [] w ur→∀ i x,c[i]? = some x→∃ sv,Q1W bs sv x∧ur.cell? ⟨g,i,none⟩=some sv∧g < ur.heap.size:=by
  rcases hlong with ⟨rfl,h0,_⟩ | ⟨g,cap,cur,rfl,hcap,hmem,htk⟩
  ·obtain ⟨j,x,_,hx,_⟩:=Qay hr
   rw [List.getElem?_eq_none (by omega)] at hx
   cases hx
  ·refine ⟨g,cap,rfl,hcap,fun ur hk i x hx=>?_⟩
   have hgu:ur.heap[g]? = some (.cells cur 226):=(hk.block _ (Qc (hw _ hmem)) (by simp)).trans (hw _ hmem)
   rw [hcv,List.getElem?_map] at hx
   obtain ⟨p,hp,rfl⟩:=Option.map_eq_some_iff.1 hx
   have hlc:c.length=cv.length:=by rw [hcv];simp
   refine ⟨p.2,hst p (List.mem_of_getElem? hp),Qw (xs:=cv.map (·.2)) hgu (by simpa [hlc] using htk) (by rw [List.getElem?_map,hp];rfl),Qc hgu⟩
 have M0:Hid (QgV Z Fr u.heap.size c z N (u.alloc (mObj Z start (.slice none 0 0) (.slice none 0 0) false))):=⟨_,d,Or.inl ⟨Mc.start hj start,⟨by simp,by simp,by simp⟩,hr⟩⟩
 have HC:=Hid.mk hcell
 have HG:=Hid.mk hg
 clear hcell hj hr hg hst hcv hlong hw
 go_enter Tryz.func61,Tryz.ntmps61
 go_wp2
 go_loopg [] N (fun k ur=>Hid (QgV Z Fr u.heap.size c z k ur))
 case atStart=>exact M0
 case round=>
  obtain ⟨m,d1,⟨M1,ho,hr⟩ | ⟨rfl,M1⟩⟩:=hrel.out
  ·obtain ⟨csl,rsl,c0,c1,c2,c3,c4,cf,cl⟩:=M1.cells
   obtain ⟨j,x,rfl,hx,hcase⟩:=Qay hr
   obtain ⟨sv,hsi,hsc,hgl⟩:=HC.out _ M1.kp _ _ hx
   have hlt:m.next < c.length:=by
    rcases Nat.lt_or_ge m.next c.length with h | h
    ·exact h
    ·rw [List.getElem?_eq_none h] at hx;cases hx
   have hgx:=HG.out x (List.mem_of_getElem? hx)
   rcases hcase with ⟨rfl,rfl⟩ | ⟨hf,r,hs,hz⟩
   ·obtain rfl:=hsi
    have hmn : ∀ k (u : World), (method (k + 1) 326 (.agg #[]) "marshal/machine.run").run Tryz.prog u = .ok (297, .agg #[]) u := fun _ _ => by kernel_rfl
    have VE:=Hid.mk (Qka (M1.goto (m.next + 1)))
    clear M1 hrel M0 hr hx
    go_wp2_with fail
    refine VE.out.mono ?_
    rintro e w2 ⟨rfl,M2⟩
    have M2:=Hid.mk M2
    go_wp2
    go_roundg j
    case measure=>omega
    case rel=>exact ⟨_,d1,Or.inr ⟨rfl,M2.out⟩⟩
   ·obtain ⟨T,sv,f,rfl,hmn,hen,hcalls⟩:=Qid Z Fr u.heap.size hsi hgx (ho.goto (m.next + 1)) hs
    have VE:=Hid.mk (hcalls _ (M1.goto (m.next + 1)))
    have HS:=Hid.mk hs
    have HO:=Hid.mk (fun m' d'=>Qib (Z:=Z) (m':=m') (d':=d') (d:=d1) hgx (ho.goto (m.next + 1)))
    have HZ:=Hid.mk hz
    clear M1 hrel M0 hr hx hcalls hz hs hf hsi hgx ho
    go_wp2_with fail
    refine VE.out.mono ?_
    rintro e w2 (⟨m',d',hx,rfl,M2⟩ | ⟨f',hx,hk,g',hg',rfl,hc'⟩)
    rotate_left
    ·refine Qa (Or.inr ⟨f',?_,hk,g',hg',rfl,hc'⟩)
     rcases HZ.out with ⟨f2,h1,rfl⟩ | ⟨m2,d2,h1,_⟩
     ·rw [hx] at h1;cases h1;rfl
     ·rw [hx] at h1;cases h1
    have M2:=Hid.mk M2
    have HX:=Hid.mk hx
    clear hx
    go_wp2
    go_roundg j
    case measure=>omega
    case rel=>
     rcases HZ.out with ⟨f2,h1,rfl⟩ | ⟨m2,d2,h1,h2⟩
     ·rw [HX.out] at h1;cases h1
     ·have h3:=HX.out
      rw [h3] at h1
      cases h1
      have h4:=HS.out
      rw [h3] at h4
      exact ⟨_,_,Or.inl ⟨M2.out,HO.out _ _ h4,h2⟩⟩
  ·obtain ⟨csl,rsl,c0,c1,c2,c3,c4,cf,cl⟩:=M1.cells
   have J1:=Hid.mk M1.drop
   clear M1 hrel M0
   go_wp2
   go_end0
   exact Or.inl ⟨(),d1,rfl,rfl,J1.out⟩
theorem QgW {b:List UInt8} {dep fuel:Nat} {n:Int} {f:Bool} {d d':DSt} {k:Nat} (h0:0≤n) (h1:n≤4294967295) (h:(decW b dep fuel).list n f d = .ok (k,d')):k≤4294967295:=by
 obtain ⟨d1,_,h⟩:=Ql h
 obtain ⟨p,hc,h⟩:=Ql h
 cases h
 unfold Q0Z at hc
 split at hc
 ·cases hc
  simp only
  omega
 ·obtain ⟨q,_,hq⟩:=Ql hc
  split at hq
  ·cases hq
   omega
  ·cases hq
theorem Q9N {α:Type} {w:World} {D:Nat} {Fr:List (Nat×Obj)} {b:List UInt8} {dep fuel size:Nat} {r:Except Mar.Fault (α×DSt)} {V:α→Value} {e:Ending} {u':World} (h:Q0M w D Fr [] b dep fuel size r V e u'):Q58 w (fun Fr d u=>∃ nsl,Q09 w D Fr [] b dep fuel size d nsl u) Fr r V e u':=by
 rcases h with ⟨a,d',nsl,h1,h2,h3⟩ | h
 ·exact Or.inl ⟨a,d',h1,h2,nsl,h3⟩
 ·exact Or.inr h
def decZ {w:World} {bs:List (Nat×Obj)} (hw:∀ p∈bs,w.heap[p.1]? = some p.2) (D:Nat) (b:List UInt8) (dep fuel size:Nat) (hfu:fuel≤10000):Wkr DSt w bs where
 W:=decW b dep fuel
 T:=137
 D:=D
 J:=fun Fr d u=>∃ nsl,Q09 w D Fr [] b dep fuel size d nsl u
 base:=by
  rintro Fr d u ⟨nsl,h⟩
  exact ⟨_,_,h.own,fun hk hM ho=>⟨nsl,h.beside hk hM ho⟩⟩
 fE:=324
 fN:=326
 fT:=327
 fL:=325
 fA:=323
 mE:=fun _ _=>by kernel_rfl
 mN:=fun _ _=>by kernel_rfl
 mT:=fun _ _=>by kernel_rfl
 mL:=fun _ _=>by kernel_rfl
 mA:=fun _ _=>by kernel_rfl
 eE:=fun _ _=>by kernel_rfl
 eN:=fun _ _=>by kernel_rfl
 eT:=fun _ _=>by kernel_rfl
 eL:=fun _ _=>by kernel_rfl
 eA:=fun _ _=>by kernel_rfl
 cE:=by
  rintro Fr d u k hk ⟨nsl,h⟩
  exact (QgL k (by omega) h).mono fun e u'=>Q9N
 cN:=by
  rintro Fr d u cs n hN ⟨nsl,h⟩
  exact (Qdp hN hw hfu h).mono fun e u'=>Q9N
 cT:=by
  rintro Fr d u n f h0 h1 ⟨nsl,h⟩
  exact (QgP n f h0 h1 hfu h).mono fun e u'=>Q9N
 cL:=by
  rintro Fr d u n f h0 h1 ⟨nsl,h⟩
  exact (QgO n f h0 h1 hfu h).mono fun e u'=>Q9N
 cA:=by
  rintro Fr d u cs n m ws ov o hN hm ho nd ⟨nsl,h⟩
  exact (Qi5 hN hm ho nd hw hfu h).mono fun e u'=>Q9N
 small:=QgW
theorem Qie (b:ByteArray) (w:World):Calls Tryz.prog 62 #[.string b] w fun e w'=>e = .returned (.agg #[.string b,.int .i64 0])∧w'=w.alloc (.cells #[.string b,.int .i64 0] 139):=by
 go_enter Tryz.func62,Tryz.ntmps62
 go_wp2
 refine bodyPost_ret (v:=.agg #[.string b,.int .i64 0]) (by simp [results,Tryz.results62,go_sem]) rfl ⟨rfl,rfl⟩
theorem Q09.fresh {w u:World} (hk:Qb [] w u) {b:List UInt8} {dep fuel size:Nat} (hl:b.length≤100000):Q09 w u.heap.size [] [] b dep fuel size ⟨0,[]⟩ (.slice none 0 0) (u.alloc (.cells #[.string ⟨b.toArray⟩,.int .i64 0,.int .i64 dep,.int .i64 fuel,.int .i64 size,.slice none 0 0] 142)):=by
 refine ⟨⟨hk.alloc _,?_,?_,?_,?_,?_,?_,?_,?_⟩,Qg rfl,⟨rfl,Or.inl ⟨rfl,rfl⟩⟩,by simp,hl,by simp⟩
 ·intro y hy
  simp [Value.ownBlock] at hy
  subst hy
  exact hk.size
 ·intro y hy
  simp [Value.ownBlock] at hy
  subst hy
  simp
 ·simp [Value.ownBlock]
 ·intro p hp;cases hp
 ·intro p hp;cases hp
 ·simp
 ·intro p hp;cases hp
 ·intro p hp;cases hp
def Q61 (w:World) (r:Except Mar.Fault (List Q0N)) (e:Ending) (u':World):Prop:=
 (∃ ns v,r = .ok ns∧e = .returned v∧Qb [] w u'∧u'.ownsRow w.heap.size 48 5 v ns.length (ns.flatMap Q22))∨(∃ f,r = .error f∧Qb [] w u'∧Q0h w f.no f.at' e u')
theorem Q61.throws {w u u':World} {r:Except Mar.Fault (List Q0N)} {f:Mar.Fault} {g:Nat} (hr:r = .error f) (hk:Qb [] w u) (hb:Qb [] u u') (hg:u.heap.size≤g) (hc:u'.heap[g]? = some (.cells #[.int .i64 f.no,.int .i64 f.at'] 83)) :
  Q61 w r (.panicked [{ v:=.iface 79 (.pointer (some ⟨g,0,none⟩)),recovered:=false }]) u':=
 Or.inr ⟨f,hr,hk.young hb (by simp),g,Nat.le_trans hk.size hg,rfl,hc⟩
theorem Qkd {w:World} {bs:List (Nat×Obj)} {c:List Qj} {v:Value} {b:List UInt8} {dep fuel size start N:Nat} {z:Except Mar.Fault DSt} (hc:Q3V bs v c) (hw:∀ p∈bs,w.heap[p.1]? = some p.2) (hg:∀ x∈c,Q39 x) (hfu:fuel≤10000) (hsz:size≤100000) (hdp:dep≤64) (hbl:b.length≤maxLen) (hr:runN (decW b dep fuel) c N ⟨start,[],[]⟩ ⟨0,[]⟩=some z) :
  Calls Tryz.prog 35 #[v,.int .i64 start,.string ⟨b.toArray⟩,.agg #[.int .i64 dep,.int .i64 fuel,.int .i64 size]] w (Q61 w (if size < b.length then .error ⟨14,0⟩ else thenE z fun d=>if d.pos < b.length then .error ⟨20,d.pos⟩ else .ok d.nodes)):=by
 have hmx:(b.length:Int)≤9223372036854775807:=by unfold maxLen at hbl;omega
 generalize hR:(if size < b.length then Except.error ⟨14,0⟩ else thenE z fun d=>if d.pos < b.length then Except.error ⟨20,d.pos⟩ else .ok d.nodes)=R
 have HC:=Hid.mk hc
 have HW:=Hid.mk hw
 have HG:=Hid.mk hg
 have HR:=Hid.mk hr
 clear hc hw hg hr
 by_cases hs:size < b.length
 ·have E:Hid (R = .error ⟨14,0⟩):=by show _=_;rw [← hR,if_pos hs]
  have hsi:(size:Int) < (b.length:Int):=by omega
  clear hR
  go_enter Tryz.func35,Tryz.ntmps35
  go_wp2_with (go_at_call 47;refine (Q0g _ _ _).mono ?_;rintro e w' ⟨rfl,rfl⟩)
  exact Qa (Q61.throws (f:=⟨14,0⟩) E.out ((Qb.refl [] w).alloc _) ((Qb.refl [] _).alloc _) (by simp) (Qg (by simp)))
 ·have hR':Hid (R=thenE z fun d=>if d.pos < b.length then Except.error ⟨20,d.pos⟩ else .ok d.nodes):=by show _=_;rw [← hR,if_neg hs]
  have hsi:(b.length:Int)≤(size:Int):=by omega
  have J0:Hid (∀ o1 o2,(decZ HW.out (w.heap.size + 1 + 1) b dep fuel size hfu).J [] ⟨0,[]⟩ (((w.alloc o1).alloc o2).alloc (.cells #[.string ⟨b.toArray⟩,.int .i64 0,.int .i64 dep,.int .i64 fuel,.int .i64 size,.slice none 0 0] 142)).drew):=by
   intro o1 o2
   have h:=Q09.fresh (u:=(w.alloc o1).alloc o2) (((Qb.refl [] w).alloc o1).alloc o2) (b:=b) (dep:=dep) (fuel:=fuel) (size:=size) (by omega)
   have e:((w.alloc o1).alloc o2).heap.size=w.heap.size + 1 + 1:=by simp
   rw [e] at h
   exact ⟨_,h.below (Below.refl _ _).drew⟩
  clear hR
  go_enter Tryz.func35,Tryz.ntmps35
  go_wp2_with fail
  refine QE (fun w'=>w'.cell? ⟨w.heap.size,0,none⟩=some (.int .i64 dep)∧w'.cell? ⟨w.heap.size,1,none⟩=some (.int .i64 fuel)∧w'.cell? ⟨w.heap.size,2,none⟩=some (.int .i64 size)) (L:=5) (by kernel_rfl) rfl (by kernel_rfl) (by kernel_rfl) ?_ (fun hHeld=>?_)
  ·go_keep
  refine tk (i:=0) (v:=?_) rfl (by kernel_rfl) (fun _ _ _ h=>h) (by rfl) (by assumption) ?_ ?_
  rotate_left
  ·intro w hSw;(try dsimp only at hSw);go_simp;(try with_reducible rfl)
  (try simp only [Qd,Qe,List.set])
  refine tk (i:=2) (v:=?_) rfl (by kernel_rfl) (fun _ _ _ h=>h) (by rfl) (by assumption) ?_ ?_
  rotate_left
  ·intro w hSw;(try dsimp only at hSw);go_simp;(try with_reducible rfl)
  (try simp only [Qd,Qe,List.set])
  refine wpAnyH_ready (rs:=[1]) (by kernel_rfl) (by simp) ?_
  refine AllReadyH.cons rfl (fun K hK=>?_) AllReadyH.nil
  (go_simp;go_at_call 62;refine (Qie _ _).mono ?_;rintro e w1 ⟨rfl,rfl⟩)
  refine hK.out _ _ ?_ (fun hHeld=>?_)
  ·go_keep
  clear hK K
  (try simp only [Qd,Qe,List.set])
  refine tk (i:=3) (v:=?_) rfl (by kernel_rfl) (fun _ _ _ h=>h) (by rfl) (by assumption) ?_ ?_
  rotate_left
  ·intro w hSw;(try dsimp only at hSw);go_simp;(try with_reducible rfl)
  (try simp only [Qd,Qe,List.set])
  refine wpAnyH_ready (rs:=[4]) (by kernel_rfl) (by simp) ?_
  refine AllReadyH.cons rfl (fun K hK=>?_) AllReadyH.nil
  go_simp
  refine hK.out _ _ ?_ (fun hHeld=>?_)
  ·go_keep
  clear hK K
  (try simp only [Qd,Qe,List.set])
  refine wpAnyH_done (by kernel_rfl) ?_ _
  refine QK rfl (fun K hK=>?_)
  go_simp
  refine hK.out _ _ ?_
  clear hK K
  (try simp only [Qd,Qe,List.set])
  go_wp2_with fail
  refine (Qkc (Z:=decZ HW.out (w.heap.size + 1 + 1) b dep fuel size hfu) (Fr:=[]) (d:=⟨0,[]⟩) HC.out HW.out HG.out (J0.out _ _) HR.out).mono ?_
  rintro e w2 (⟨_,d2,hx,rfl,nsl,M2⟩ | ⟨f,hx,hk,g,hg,rfl,hc⟩)
  rotate_left
  ·exact Qa (Or.inr ⟨f,by rw [hR'.out,Q6l hx];rfl,hk,g,hg,rfl,hc⟩)
  have E0:Hid (R=if d2.pos < b.length then Except.error ⟨20,d2.pos⟩ else .ok d2.nodes):=by show _=_;rw [hR'.out,Q7c hx];rfl
  have VL:=Hid.mk (Qck M2)
  have VA:=Hid.mk (Q5Z (M2.below (Below.refl _ _).drew))
  obtain ⟨c0,c1,c2,c3,c4,c5,hfz,hlt⟩:=M2.cells
  have hp:=M2.pos
  have H2:=Hid.mk M2
  clear M2 hx J0 hR'
  by_cases ht:d2.pos < b.length
  ·have E:Hid (R = .error ⟨20,d2.pos⟩):=by show _=_;rw [E0.out,if_pos ht]
   have hti:(d2.pos:Int) < (b.length:Int):=by omega
   clear E0
   go_wp2_with (first
    | (go_at_call 63;refine VL.out.mono ?_;rintro e w3 ⟨rfl,rfl⟩)
    | (go_at_call 64;refine VA.out.mono ?_;rintro e w3 ⟨rfl,rfl⟩)
    | (go_at_call 47;refine (Q0g _ _ _).mono ?_;rintro e w' ⟨rfl,rfl⟩))
   exact Qa (Q61.throws (f:=⟨20,d2.pos⟩) E.out H2.out.own.kp ((Qb.refl [] _).drew.alloc _) (by simp) (Qg (by simp)))
  ·have E:Hid (R = .ok d2.nodes):=by show _=_;rw [E0.out,if_neg ht]
   have hti:(b.length:Int)=(d2.pos:Int):=by omega
   clear E0 ht
   go_wp2_with (go_at_call 63;refine VL.out.mono ?_;rintro e w3 ⟨rfl,rfl⟩)
   go_ret
   exact Or.inl ⟨_,_,E.out,rfl,H2.out.own.kp.drew,Qp H2.out.row (Qb.refl [] _).drew (by simp)⟩
def Q2F (n m:Int):Bool:=decide (0≤n) && decide (n≤m)
theorem Q7d (n m:Int) (w:World):Calls Tryz.prog 71 #[.int .i64 n,.int .i64 m] w fun e w'=>e = .returned (.bool (Q2F n m))∧w'=w:=by
 by_cases h0:0≤n
 ·have E:Hid (Q2F n m=decide (n≤m)):=by show _=_;simp [Q2F,h0]
  go_enter Tryz.func71,Tryz.ntmps71
  go_wp2
  go_ret
  exact ⟨by rw [E.out];rfl,rfl⟩
 ·have E:Hid (Q2F n m=false):=by show _=_;simp [Q2F,h0]
  have h1:n < 0:=by omega
  go_enter Tryz.func71,Tryz.ntmps71
  go_wp2
  go_ret
  exact ⟨by rw [E.out];rfl,rfl⟩
def Q1A (places:List (List UInt8×Nat)) (n:List UInt8) (dep fuel size:Int):Except Nat Nat:=match QI places n with
 | none=>.error 10
 | some p=>if Q2F dep 64 && Q2F fuel 10000 && Q2F size 100000 then .ok p else .error 11
def Qcq:Except Nat Nat→Value
 | .ok p=>.tuple #[.int .i64 p,.nilIface]
 | .error k=>.tuple #[.int .i64 0,.iface 50 (.int .i64 k)]
theorem Qdr {W:World} {m:Nat} {l:List (List UInt8×Nat)} (hb:W.heap[m]? = some (Q0F l)) (nd:(l.map (·.1)).Nodup) (k:List UInt8) :
  (Instr.lookup 64 (.map (some m)) (.string ⟨k.toArray⟩) true).run Tryz.prog W = .ok (match QI l k with
   | some q=>.tuple #[.int .i64 q,.bool true]
   | none=>.tuple #[.int .i64 0,.bool false]) W:=by
 have hh:=Q3U (P:=Tryz.prog) (T:=64) (kt:=9) (et:=3) (d:=.string) (by kernel_rfl) (by kernel_rfl) (fun k:List UInt8=>.string ⟨k.toArray⟩) (fun k:Nat=>.int .i64 k) (fun _=>trivial) Q32 hb nd (z:=.int .i64 0) (by kernel_rfl) k true
 cases hm:QI l k with
 | none=>rw [hm] at hh;exact hh
 | some v=>rw [hm] at hh;exact hh
theorem Q7e {b:Nat} {c0 c1 c2 c3:Value} {T:TypeId} {w:World} (h:w.heap[b]? = some (.cells #[c0,c1,c2,c3] T)) :
  w.cell? ⟨b,0,none⟩=some c0∧w.cell? ⟨b,1,none⟩=some c1∧w.cell? ⟨b,2,none⟩=some c2∧(∀ i,w.frozen? ⟨b,i,none⟩=false)∧b < w.heap.size:=by
 refine ⟨?_,?_,?_,?_,Qc h⟩<;>simp [World.cell?,World.frozen?,h]
theorem Q62 {b:Nat} {c0 c1 c2:Value} {T:TypeId} {w:World} (h:w.heap[b]? = some (.cells #[c0,c1,c2] T)) :
  w.cell? ⟨b,0,none⟩=some c0∧w.cell? ⟨b,1,none⟩=some c1∧w.cell? ⟨b,2,none⟩=some c2∧(∀ i,w.frozen? ⟨b,i,none⟩=false)∧b < w.heap.size:=by
 refine ⟨?_,?_,?_,?_,Qc h⟩<;>simp [World.cell?,World.frozen?,h]
def mayB (dep fuel size:Int):Bool:=Q2F dep 64 && Q2F fuel 10000 && Q2F size 100000
theorem QdV (dep fuel size:Int) (w:World):Calls Tryz.prog 60 #[.agg #[.int .i64 dep,.int .i64 fuel,.int .i64 size]] w fun e w'=>e = .returned (.bool (mayB dep fuel size))∧Below w.heap.size w w':=by
 have hb:∀ o,Below w.heap.size w (w.alloc o):=fun o=>(Below.refl _ _).alloc (Nat.le_refl _) _
 cases h1:Q2F dep 64 with
 | false=>
  have E:Hid (mayB dep fuel size=false):=by show _=_;simp [mayB,h1]
  go_enter Tryz.func60,Tryz.ntmps60
  go_wp2_with (go_at_call 71;refine (Q7d _ _ _).mono ?_;rintro e w1 ⟨rfl,rfl⟩;simp only [h1])
  go_ret
  exact ⟨by rw [E.out];rfl,hb _⟩
 | true=>
  cases h2:Q2F fuel 10000 with
  | false=>
   have E:Hid (mayB dep fuel size=false):=by show _=_;simp [mayB,h1,h2]
   go_enter Tryz.func60,Tryz.ntmps60
   go_wp2_with (go_at_call 71;refine (Q7d _ _ _).mono ?_;rintro e w1 ⟨rfl,rfl⟩;try simp only [h1,h2])
   go_ret
   exact ⟨by rw [E.out];rfl,hb _⟩
  | true=>
   cases h3:Q2F size 100000 with
   | false=>
    have E:Hid (mayB dep fuel size=false):=by show _=_;simp [mayB,h1,h2,h3]
    go_enter Tryz.func60,Tryz.ntmps60
    go_wp2_with (go_at_call 71;refine (Q7d _ _ _).mono ?_;rintro e w1 ⟨rfl,rfl⟩;try simp only [h1,h2,h3])
    go_ret
    exact ⟨by rw [E.out];rfl,hb _⟩
   | true=>
    have E:Hid (mayB dep fuel size=true):=by show _=_;simp [mayB,h1,h2,h3]
    go_enter Tryz.func60,Tryz.ntmps60
    go_wp2_with (go_at_call 71;refine (Q7d _ _ _).mono ?_;rintro e w1 ⟨rfl,rfl⟩;try simp only [h1,h2,h3])
    go_ret
    exact ⟨by rw [E.out];rfl,hb _⟩
theorem QdW {w:World} {B S P:Nat} {dsl v:Value} {places:List (List UInt8×Nat)} (hB:w.heap[B]? = some (.cells #[dsl,v,.map (some S),.map (some P)] 70)) (hS:w.heap[S]? = some (Q0F places)) (nd:(places.map (·.1)).Nodup) (n:List UInt8) (dep fuel size:Int) :
  Calls Tryz.prog 32 #[.pointer (some ⟨B,0,none⟩),.string ⟨n.toArray⟩,.agg #[.int .i64 dep,.int .i64 fuel,.int .i64 size]] w fun e w'=>e = .returned (Qcq (Q1A places n dep fuel size))∧Below w.heap.size w w':=by
 obtain ⟨c0,c1,c2,cf,cl⟩:=Q7e hB
 have hb:∀ o,Below w.heap.size w (w.alloc o):=fun o=>(Below.refl _ _).alloc (Nat.le_refl _) _
 have hlk:∀ o,(Instr.lookup 64 (.map (some S)) (.string ⟨n.toArray⟩) true).run Tryz.prog (w.alloc o) = .ok (match QI places n with
   | some q=>.tuple #[.int .i64 q,.bool true]
   | none=>.tuple #[.int .i64 0,.bool false]) (w.alloc o):=fun o=>Qdr (((hb o).block _ (Qc hS)).trans hS) nd n
 cases hm:QI places n with
 | none=>
  have E:Hid (Q1A places n dep fuel size = .error 10):=by show _=_;simp [Q1A,hm]
  simp only [hm] at hlk
  clear hB hS hm
  go_enter Tryz.func32,Tryz.ntmps32
  go_wp2
  exact bodyPost_ret (v:=.tuple #[.int .i64 0,.iface 50 (.int .i64 10)]) (by simp [results,Tryz.results32,go_sem]) rfl ⟨by rw [E.out];rfl,hb _⟩
 | some p=>
  have E:Hid (Q1A places n dep fuel size=if mayB dep fuel size then .ok p else .error 11):=by show _=_;simp [Q1A,mayB,hm]
  simp only [hm] at hlk
  clear hB hS hm
  cases h1:mayB dep fuel size with
  | false=>
   have E:Hid (Q1A places n dep fuel size = .error 11):=by show _=_;rw [E.out,h1];rfl
   go_enter Tryz.func32,Tryz.ntmps32
   go_wp2_with fail
   refine (QdV _ _ _ _).mono ?_
   rintro e w1 ⟨rfl,hb1⟩
   rw [h1]
   have hb2:=Hid.mk ((hb _).trans (hb1.mono (by simp)))
   clear hb1
   go_wp2
   exact bodyPost_ret (v:=.tuple #[.int .i64 0,.iface 50 (.int .i64 11)]) (by simp [results,Tryz.results32,go_sem]) rfl ⟨by rw [E.out];rfl,hb2.out⟩
  | true=>
   have E:Hid (Q1A places n dep fuel size = .ok p):=by show _=_;rw [E.out,h1];rfl
   go_enter Tryz.func32,Tryz.ntmps32
   go_wp2_with fail
   refine (QdV _ _ _ _).mono ?_
   rintro e w1 ⟨rfl,hb1⟩
   rw [h1]
   have hb2:=Hid.mk ((hb _).trans (hb1.mono (by simp)))
   clear hb1
   go_wp2
   exact bodyPost_ret (v:=.tuple #[.int .i64 p,.nilIface]) (by simp [results,Tryz.results32,go_sem]) rfl ⟨by rw [E.out];rfl,hb2.out⟩
theorem neqE (x:Value) (w:World):(binOp BinOp.neq 24 (.iface 50 x) .nilIface).run Tryz.prog w = .ok (.bool true) w:=by kernel_rfl
theorem Q94 (w:World):(binOp BinOp.neq 24 .nilIface .nilIface).run Tryz.prog w = .ok (.bool false) w:=by kernel_rfl
theorem Qaz (p q:Addr) (w:World) :
  CallsD Tryz.prog 34 #[.pointer (some p),.pointer (some q)] .returning w fun e u' w'=>e = .returned (.tuple #[])∧u' = .returning∧w'=w:=by
 have hn:=Q8u
 refine callsD_of_wpS Tryz.func34 rfl fun c₀ cs hu=>?_
 apply wpS_seq
 apply wpS_region
 simp [wpOpsS,go_sem,recoverD,hu,Tryz.ntmps34,Exit.thenS]
 apply wpS_seq
 apply wpS_region
 simp [wpOpsS,go_sem,Exit.thenS,hn]
 refine wpS_cond (t:=false) (by simp [Act.eval,Array.replicate]) ?_
 simp only [Bool.false_eq_true,if_false]
 refine wpS_of_wp (wp_skip ?_)
 cases c₀
 simp_all [bodyPostS,results,Tryz.results34]
theorem Qds (P Q b:Nat) (x y:Value) (older:List PanicEntry) (w:World) (h1:w.cell? ⟨P,0,none⟩=some x) (h2:w.cell? ⟨Q,0,none⟩=some y) (f1:w.frozen? ⟨P,0,none⟩=false) (f2:w.frozen? ⟨Q,0,none⟩=false) (hne:P≠Q) :
  CallsD Tryz.prog 34 #[.pointer (some ⟨P,0,none⟩),.pointer (some ⟨Q,0,none⟩)] (.panicking ({ v:=.iface 79 (.pointer (some ⟨b,0,none⟩)),recovered:=false } :: older)) w fun e u' w'=>
   e = .returned (.tuple #[])∧u' = .panicking ({ v:=.iface 79 (.pointer (some ⟨b,0,none⟩)),recovered:=true } :: older)∧w'=(w.setCell ⟨P,0,none⟩ (.slice none 0 0)).setCell ⟨Q,0,none⟩ (.iface 79 (.pointer (some ⟨b,0,none⟩))):=by
 have hn:=Qk3 79
 refine callsD_of_wpS Tryz.func34 rfl fun c₀ cs hu=>?_
 apply wpS_seq
 apply wpS_region
 simp [wpOpsS,go_sem,recoverD,hu,Tryz.ntmps34,Exit.thenS]
 apply wpS_seq
 apply wpS_region
 simp [wpOpsS,go_sem,Exit.thenS,hn]
 refine wpS_cond (t:=true) (by simp [Act.eval,Array.replicate]) ?_
 simp only [if_true]
 refine wpS_of_wp ?_
 go_wp2_with fail
 refine (QeG b w).mono ?_
 rintro e w2 ⟨rfl,rfl⟩
 go_wp2
 cases c₀
 simp_all [bodyPostS,results,Tryz.results34]
theorem QgX {w:World} {b b':Nat} {t:TypeId} {sz n:Nat} {v:Value} {xs:List Value} (h:w.ownsRow b t sz v n xs) (hb:b'≤b):w.ownsRow b' t sz v n xs:=by
 refine ⟨h.1,?_⟩
 rcases h.2 with h | ⟨g,cap,cur,h1,h2,h3⟩
 ·exact Or.inl h
 ·exact Or.inr ⟨g,cap,cur,h1,Nat.le_trans hb h2,h3⟩
theorem Q10 {w:World} {b:Nat} {t:TypeId} {sz n:Nat} {v:Value} {xs:List Value} (h:w.ownsRow b t sz v n xs):∃ ad cap,v = .slice ad n cap:=by
 rcases h.2 with ⟨rfl,h0⟩ | ⟨g,cap,cur,rfl,_⟩
 ·exact ⟨none,0,by rw [h0]⟩
 ·exact ⟨_,_,rfl⟩
def Q8e (w:World) (s:Except Nat Nat) (r:Except Mar.Fault (List Q0N)) (e:Ending) (u':World):Prop:=Qb [] w u' ∧
 ((∃ k,s = .error k∧e = .returned (.tuple #[.slice none 0 0,.iface 50 (.int .i64 k)])) ∨
  (∃ p ns v,s = .ok p∧r = .ok ns∧e = .returned (.tuple #[v,.nilIface])∧u'.ownsRow w.heap.size 48 5 v ns.length (ns.flatMap Q22)) ∨
  (∃ p f g,s = .ok p∧r = .error f∧e = .returned (.tuple #[.slice none 0 0,.iface 79 (.pointer (some ⟨g,0,none⟩))])∧w.heap.size≤g∧u'.heap[g]? = some (.cells #[.int .i64 f.no,.int .i64 f.at'] 83)))
theorem Qdt {w:World} {B S P:Nat} {dsl v:Value} {places:List (List UInt8×Nat)} (hB:w.heap[B]? = some (.cells #[dsl,v,.map (some S),.map (some P)] 70)) (hS:w.heap[S]? = some (Q0F places)) (nd:(places.map (·.1)).Nodup) (n:List UInt8) (b:List UInt8) (dep fuel size:Int) {k:Nat} (hs:Q1A places n dep fuel size = .error k) (r:Except Mar.Fault (List Q0N)) :
  Calls Tryz.prog 17 #[.pointer (some ⟨B,0,none⟩),.string ⟨n.toArray⟩,.string ⟨b.toArray⟩,.agg #[.int .i64 dep,.int .i64 fuel,.int .i64 size]] w (Q8e w (.error k) r):=by
 have hmf:∀ (fn:Fn) (first cap:Array Value) (w:World),(Instr.makeFunc fn first cap).run Tryz.prog w = .ok (.func fn first cap) w:=fun _ _ _ _=>rfl
 have hnq:=neqE
 have hb0:Below w.heap.size w (((w.alloc (.cells #[.int .i64 dep,.int .i64 fuel,.int .i64 size] 33)).alloc (.cells #[.slice none 0 0] 29)).alloc (.cells #[.nilIface] 24)):=(((Below.refl _ _).alloc (Nat.le_refl _) _).alloc (by simp) _).alloc (by simp;omega) _
 have VS:=Hid.mk (QdW ((hb0.block _ (Qc hB)).trans hB) ((hb0.block _ (Qc hS)).trans hS) nd n dep fuel size)
 rw [hs] at VS
 have o1:(((w.alloc (.cells #[.int .i64 dep,.int .i64 fuel,.int .i64 size] 33)).alloc (.cells #[.slice none 0 0] 29)).alloc (.cells #[.nilIface] 24)).heap[w.heap.size + 1]? = some (.cells #[.slice none 0 0] 29):=(Below.heap_alloc _ _ _ (by simp)).trans (Qg (by simp))
 have o2:(((w.alloc (.cells #[.int .i64 dep,.int .i64 fuel,.int .i64 size] 33)).alloc (.cells #[.slice none 0 0] 29)).alloc (.cells #[.nilIface] 24)).heap[w.heap.size + 1 + 1]? = some (.cells #[.nilIface] 24):=Qg (by simp)
 clear hB hS hs
 go_enter_defers Tryz.func17,Tryz.ntmps17
 go_wp2_with fail
 refine VS.out.mono ?_
 rintro e w1 ⟨rfl,hb1⟩
 have p1:=(hb1.block _ (Qc o1)).trans o1
 have p2:=(hb1.block _ (Qc o2)).trans o2
 have c1:=Qv p1
 have c2:=Qv p2
 have f1:∀ i,w1.frozen? ⟨w.heap.size + 1,i,none⟩=false:=by intro i;simp [World.frozen?,p1]
 have f2:∀ i,w1.frozen? ⟨w.heap.size + 1 + 1,i,none⟩=false:=by intro i;simp [World.frozen?,p2]
 have l2:=Qc p2
 have K1:=Hid.mk (hb0.trans (hb1.mono hb0.size))
 clear hb1 VS o1 o2 hb0
 unfold Qcq
 go_wp2
 have q1:∀ x,(w1.setCell ⟨w.heap.size + 1 + 1,0,none⟩ x).heap[w.heap.size + 1]? = some (.cells #[.slice none 0 0] 29):=fun x=>(Below.heap_setCell _ _ _ _ (by simp)).trans p1
 have q2:∀ x,(w1.setCell ⟨w.heap.size + 1 + 1,0,none⟩ x).heap[w.heap.size + 1 + 1]? = some (.cells #[x] 24):=fun x=>Qy (i:=0) p2 x
 have r1:∀ x y,((w1.setCell ⟨w.heap.size + 1 + 1,0,none⟩ x).setCell ⟨w.heap.size + 1,0,none⟩ y).heap[w.heap.size + 1]? = some (.cells #[y] 29):=fun x y=>Qy (i:=0) (q1 x) y
 have r2:∀ x y,((w1.setCell ⟨w.heap.size + 1 + 1,0,none⟩ x).setCell ⟨w.heap.size + 1,0,none⟩ y).heap[w.heap.size + 1 + 1]? = some (.cells #[x] 24):=fun x y=>(Below.heap_setCell _ _ _ _ (by simp)).trans (q2 x)
 have c1':=fun x=>Qv (q1 x)
 have c2':=fun x=>Qv (q2 x)
 have c1'':=fun x y=>Qv (r1 x y)
 have c2'':=fun x y=>Qv (r2 x y)
 have f1':∀ x i,(w1.setCell ⟨w.heap.size + 1 + 1,0,none⟩ x).frozen? ⟨w.heap.size + 1,i,none⟩=false:=by intro x i;simp [World.frozen?,q1 x]
 have f2':∀ x y i,((w1.setCell ⟨w.heap.size + 1 + 1,0,none⟩ x).setCell ⟨w.heap.size + 1,0,none⟩ y).frozen? ⟨w.heap.size + 1 + 1,i,none⟩=false:=by intro x y i;simp [World.frozen?,r2 x y]
 have z1:∀ x y z,(((w1.setCell ⟨w.heap.size + 1 + 1,0,none⟩ x).setCell ⟨w.heap.size + 1,0,none⟩ y).setCell ⟨w.heap.size + 1 + 1,0,none⟩ z).cell? ⟨w.heap.size + 1,0,none⟩=some y:=fun x y z=>Qv ((Below.heap_setCell _ _ _ _ (by simp)).trans (r1 x y))
 have z2:∀ x y z,(((w1.setCell ⟨w.heap.size + 1 + 1,0,none⟩ x).setCell ⟨w.heap.size + 1,0,none⟩ y).setCell ⟨w.heap.size + 1 + 1,0,none⟩ z).cell? ⟨w.heap.size + 1 + 1,0,none⟩=some z:=fun x y z=>Qv (Qy (i:=0) (r2 x y) z)
 have HK:Hid (∀ x y z,Qb [] w (((w1.setCell ⟨w.heap.size + 1 + 1,0,none⟩ x).setCell ⟨w.heap.size + 1,0,none⟩ y).setCell ⟨w.heap.size + 1 + 1,0,none⟩ z).drew):=fun x y z=>((((Qb.of_below [] K1.out).setNew (p:=⟨w.heap.size + 1 + 1,0,none⟩) (by simp;omega) x).setNew (p:=⟨w.heap.size + 1,0,none⟩) (by simp) y).setNew (p:=⟨w.heap.size + 1 + 1,0,none⟩) (by simp;omega) z).drew
 have Z1:=Hid.mk z1
 have Z2:=Hid.mk z2
 clear p1 p2 q1 q2 r1 r2 z1 z2
 go_region
 go_wp2
 refine leaves_cons (f:=34) (args:=#[.pointer (some ⟨w.heap.size + 1,0,none⟩),.pointer (some ⟨w.heap.size + 1 + 1,0,none⟩)]) (by simp) (by simp [go_sem]) ?_
 refine (Qaz _ _ _).mono ?_
 rintro e u' w'' ⟨rfl,rfl,rfl⟩
 simp only [Leaves,settle]
 refine ⟨.tuple #[.slice none 0 0,.iface 50 (.int .i64 k)],by simp [results,Tryz.results17,go_sem,Z1.out,Z2.out],?_⟩
 exact ⟨HK.out _ _ _,Or.inl ⟨k,rfl,rfl⟩⟩
theorem Qdu {P:Program} {fn:Func} {R:Ending→World→Prop} {t1 t2:Array Value} (h:results fn t1=results fn t2):∀ (ds:List Deferred) (u:FrameMode) (w:World),Leaves P fn t1 R ds u w→Leaves P fn t2 R ds u w:=by
 intro ds
 induction ds with
 | nil=>
  intro u w hl
  cases u with
  | run=>exact hl
  | returning=>obtain ⟨v,h1,h2⟩:=hl;exact ⟨v,by rw [← h];exact h1,h2⟩
  | panicking c=>exact hl
 | cons d ds ih=>
  intro u w hl
  obtain ⟨hu,fv,cap,f,args,h1,h2,h3⟩:=hl
  refine ⟨hu,fv,cap,f,args,h1,h2,h3.mono ?_⟩
  intro e u' w' hq
  cases e with
  | returned v=>exact ih _ _ hq
  | panicked c=>exact ih _ _ hq
  | outgrown=>exact hq
theorem Q4m {R:Ending→World→Prop} {ch:List PanicEntry} {i:Nat} {v:Value} {a:Act} {w:World} (h8:i≠8) (h9:i≠9) (h:bodyPostD Tryz.prog Tryz.f17 R (.panic ch) (a.put (some i) v) w):bodyPostD Tryz.prog Tryz.f17 R (.panic ch) a w:=by
 have e:results Tryz.f17 (a.put (some i) v).tmps=results Tryz.f17 a.tmps:=by
  have g8:(a.put (some i) v).tmps[8]?.getD undef=a.tmps[8]?.getD undef:=by simp [Act.put,Array.getElem?_setIfInBounds,h8]
  have g9:(a.put (some i) v).tmps[9]?.getD undef=a.tmps[9]?.getD undef:=by simp [Act.put,Array.getElem?_setIfInBounds,h9]
  simp only [results,Tryz.results17]
  simp [g8,g9]
 exact Qdu e _ _ _ h
theorem Qff {w w2:World} {r:Except Mar.Fault (List Q0N)} {p g:Nat} {f:Mar.Fault} {tm:Array Value} (hk:Qb [] w w2) (x1:w2.heap[w.heap.size + 1]? = some (.cells #[.slice none 0 0] 29)) (x2:w2.heap[w.heap.size + 1 + 1]? = some (.cells #[.nilIface] 24)) (t8:tm.getD 8 undef = .pointer (some ⟨w.heap.size + 1,0,none⟩)) (t9:tm.getD 9 undef = .pointer (some ⟨w.heap.size + 1 + 1,0,none⟩)) (hg:w.heap.size + 1 + 1 < g) (hc:w2.heap[g]? = some (.cells #[.int .i64 f.no,.int .i64 f.at'] 83)) (hr:r = .error f) :
  bodyPostD Tryz.prog Tryz.f17 (Q8e w (.ok p) r) (.panic [{ v:=.iface 79 (.pointer (some ⟨g,0,none⟩)),recovered:=false }]) { tmps:=tm,defers:=[{ target:=.fn (.func 34) #[.pointer (some ⟨w.heap.size + 1,0,none⟩),.pointer (some ⟨w.heap.size + 1 + 1,0,none⟩)],args:=#[] }] } w2:=by
 have f1:w2.frozen? ⟨w.heap.size + 1,0,none⟩=false:=by simp [World.frozen?,x1]
 have f2:w2.frozen? ⟨w.heap.size + 1 + 1,0,none⟩=false:=by simp [World.frozen?,x2]
 refine leaves_cons (f:=34) (args:=#[.pointer (some ⟨w.heap.size + 1,0,none⟩),.pointer (some ⟨w.heap.size + 1 + 1,0,none⟩)]) (by simp) (by simp [go_sem]) ?_
 refine (Qds _ _ g _ _ [] w2 (Qv x1) (Qv x2) f1 f2 (by simp)).mono ?_
 rintro e u' w'' ⟨rfl,rfl,rfl⟩
 have r1:=Qy (i:=0) x1 (.slice none 0 0)
 have r2:(w2.setCell ⟨w.heap.size + 1,0,none⟩ (.slice none 0 0)).heap[w.heap.size + 1 + 1]? = _:=(Below.heap_setCell _ _ _ _ (by simp)).trans x2
 have z1:=Qv ((Below.heap_setCell _ ⟨w.heap.size + 1 + 1,0,none⟩ (.iface 79 (.pointer (some ⟨g,0,none⟩))) _ (by simp)).trans r1)
 have z2:=Qv (Qy (i:=0) r2 (.iface 79 (.pointer (some ⟨g,0,none⟩))))
 simp only [Leaves,settle,List.dropWhile_nil]
 rw [Array.getD_eq_getD_getElem?] at t8 t9
 refine ⟨.tuple #[.slice none 0 0,.iface 79 (.pointer (some ⟨g,0,none⟩))],by simp [results,Tryz.results17,go_sem,t8,t9,z1,z2],?_⟩
 refine ⟨(hk.setNew (p:=⟨w.heap.size + 1,0,none⟩) (by simp) _).setNew (p:=⟨w.heap.size + 1 + 1,0,none⟩) (by simp;omega) _,Or.inr (Or.inr ⟨p,f,g,rfl,hr,rfl,by omega,?_⟩)⟩
 exact (Below.heap_setCell _ _ _ _ (by simp;omega)).trans ((Below.heap_setCell _ _ _ _ (by simp;omega)).trans hc)
theorem Qdv {w:World} {bs:List (Nat×Obj)} {B S P:Nat} {dsl v:Value} {c:List Qj} {places:List (List UInt8×Nat)} (hB:(B,Obj.cells #[dsl,v,.map (some S),.map (some P)] 70)∈bs) (hS:(S,Q0F places)∈bs) (nd:(places.map (·.1)).Nodup) (hc:Q3V bs v c) (hw:∀ p∈bs,w.heap[p.1]? = some p.2) (hg:∀ x∈c,Q39 x) (n:List UInt8) (b:List UInt8) (dep fuel size p N:Nat) (hs:Q1A places n dep fuel size = .ok p) (hdp:dep≤64) (hfu:fuel≤10000) (hsz:size≤100000) (hbl:b.length≤maxLen) {z:Except Mar.Fault DSt} (hr:runN (decW b dep fuel) c N ⟨p,[],[]⟩ ⟨0,[]⟩=some z) :
  Calls Tryz.prog 17 #[.pointer (some ⟨B,0,none⟩),.string ⟨n.toArray⟩,.string ⟨b.toArray⟩,.agg #[.int .i64 dep,.int .i64 fuel,.int .i64 size]] w (Q8e w (.ok p) (if size < b.length then .error ⟨14,0⟩ else thenE z fun d=>if d.pos < b.length then .error ⟨20,d.pos⟩ else .ok d.nodes)):=by
 generalize hR:(if size < b.length then Except.error ⟨14,0⟩ else thenE z fun d=>if d.pos < b.length then Except.error ⟨20,d.pos⟩ else .ok d.nodes)=R
 have hmf:∀ (fn:Fn) (first cap:Array Value) (w:World),(Instr.makeFunc fn first cap).run Tryz.prog w = .ok (.func fn first cap) w:=fun _ _ _ _=>rfl
 have hnq:=Q94
 obtain ⟨va,vb,vc,rfl⟩:=hc.slice
 have hb0:Below w.heap.size w (((w.alloc (.cells #[.int .i64 dep,.int .i64 fuel,.int .i64 size] 33)).alloc (.cells #[.slice none 0 0] 29)).alloc (.cells #[.nilIface] 24)):=(((Below.refl _ _).alloc (Nat.le_refl _) _).alloc (by simp) _).alloc (by simp;omega) _
 have VS:=Hid.mk (QdW ((hb0.block _ (Qc (hw _ hB))).trans (hw _ hB)) ((hb0.block _ (Qc (hw _ hS))).trans (hw _ hS)) nd n dep fuel size)
 rw [hs] at VS
 have o0:(((w.alloc (.cells #[.int .i64 dep,.int .i64 fuel,.int .i64 size] 33)).alloc (.cells #[.slice none 0 0] 29)).alloc (.cells #[.nilIface] 24)).heap[w.heap.size]? = some (.cells #[.int .i64 dep,.int .i64 fuel,.int .i64 size] 33):=(Below.heap_alloc _ _ _ (by simp;omega)).trans ((Below.heap_alloc _ _ _ (by simp)).trans (Qg rfl))
 have o1:(((w.alloc (.cells #[.int .i64 dep,.int .i64 fuel,.int .i64 size] 33)).alloc (.cells #[.slice none 0 0] 29)).alloc (.cells #[.nilIface] 24)).heap[w.heap.size + 1]? = some (.cells #[.slice none 0 0] 29):=(Below.heap_alloc _ _ _ (by simp)).trans (Qg (by simp))
 have o2:(((w.alloc (.cells #[.int .i64 dep,.int .i64 fuel,.int .i64 size] 33)).alloc (.cells #[.slice none 0 0] 29)).alloc (.cells #[.nilIface] 24)).heap[w.heap.size + 1 + 1]? = some (.cells #[.nilIface] 24):=Qg (by simp)
 have HC:=Hid.mk hc
 have HW:=Hid.mk hw
 have HG:=Hid.mk hg
 have HR:=Hid.mk hr
 have ER:=Hid.mk hR
 have HBm:=Hid.mk hB
 clear hS hs hc hw hg hr hR hB
 go_enter_defers Tryz.func17,Tryz.ntmps17
 go_wp2_with fail
 refine VS.out.mono ?_
 rintro e w1 ⟨rfl,hb1⟩
 have K1:=Hid.mk (hb0.trans (hb1.mono hb0.size))
 have p2:=(hb1.block _ (Qc o2)).trans o2
 have c2:=Qv p2
 have f2:∀ i,w1.frozen? ⟨w.heap.size + 1 + 1,i,none⟩=false:=by intro i;simp [World.frozen?,p2]
 have x0:(w1.setCell ⟨w.heap.size + 1 + 1,0,none⟩ .nilIface).heap[w.heap.size]? = _:=(Below.heap_setCell _ _ _ _ (by simp;omega)).trans ((hb1.block _ (Qc o0)).trans o0)
 have x1:(w1.setCell ⟨w.heap.size + 1 + 1,0,none⟩ .nilIface).heap[w.heap.size + 1]? = _:=(Below.heap_setCell _ _ _ _ (by simp)).trans ((hb1.block _ (Qc o1)).trans o1)
 have x2:(w1.setCell ⟨w.heap.size + 1 + 1,0,none⟩ .nilIface).heap[w.heap.size + 1 + 1]? = _:=Qy (i:=0) p2 .nilIface
 have KX:=Hid.mk ((hb0.trans (hb1.mono hb0.size)).setCell (p:=⟨w.heap.size + 1 + 1,0,none⟩) (by simp;omega) .nilIface)
 clear hb1 hb0 o0 o1 o2 p2 VS
 unfold Qcq
 generalize hX:w1.setCell ⟨w.heap.size + 1 + 1,0,none⟩ .nilIface=X at x0 x1 x2 KX
 obtain ⟨e0,e1,e2,ef,el⟩:=Q62 x0
 have y1:=Qv x1
 have y2:=Qv x2
 have g1:∀ i,X.frozen? ⟨w.heap.size + 1,i,none⟩=false:=by intro i;simp [World.frozen?,x1]
 have g2:∀ i,X.frozen? ⟨w.heap.size + 1 + 1,i,none⟩=false:=by intro i;simp [World.frozen?,x2]
 have xw:Hid (∀ p∈bs,X.drew.heap[p.1]? = some p.2):=fun p hp=>(KX.out.block _ (Qc (HW.out p hp))).trans (HW.out p hp)
 obtain ⟨d0,d1,d2,df,dl⟩:=Q7e ((KX.out.block _ (Qc (HW.out _ HBm.out))).trans (HW.out _ HBm.out))
 have VV:=Hid.mk (Qkd HC.out xw.out HG.out hfu hsz hdp hbl HR.out)
 rw [ER.out] at VV
 have hBl:=Qc (HW.out _ HBm.out)
 simp only at hBl
 have hBn:B≠w.heap.size + 1:=by omega
 have X0:=Hid.mk x0
 have X1:=Hid.mk x1
 have X2:=Hid.mk x2
 have XB:=Hid.mk (xw.out _ HBm.out)
 have hxs:=Qc x2
 clear x0 x1 x2
 go_wp2_with fail
 clear hX
 refine QE (fun w'=>w'.cell? ⟨B,1,none⟩=some (.slice va vb vc)∧w'.cell? ⟨w.heap.size,0,none⟩=some (.int .i64 dep)∧w'.cell? ⟨w.heap.size,1,none⟩=some (.int .i64 fuel)∧w'.cell? ⟨w.heap.size,2,none⟩=some (.int .i64 size)) (L:=10) (by kernel_rfl) rfl (by kernel_rfl) (by kernel_rfl) ?_ (fun hHeld=>?_)
 ·go_keep
 refine tk (i:=0) (v:=?_) rfl (by kernel_rfl) (fun _ _ _ h=>Q4m (by decide) (by decide) h) (by rfl) (by assumption) ?_ ?_
 rotate_left
 ·intro w hSw;(try dsimp only at hSw);go_simp;(try with_reducible rfl)
 (try simp only [Qd,Qe,List.set])
 refine tk (i:=1) (v:=?_) rfl (by kernel_rfl) (fun _ _ _ h=>Q4m (by decide) (by decide) h) (by rfl) (by assumption) ?_ ?_
 rotate_left
 ·intro w hSw;(try dsimp only at hSw);go_simp;(try with_reducible rfl)
 (try simp only [Qd,Qe,List.set])
 refine tk (i:=2) (v:=?_) rfl (by kernel_rfl) (fun _ _ _ h=>Q4m (by decide) (by decide) h) (by rfl) (by assumption) ?_ ?_
 rotate_left
 ·intro w hSw;(try dsimp only at hSw);go_simp;(try with_reducible rfl)
 (try simp only [Qd,Qe,List.set])
 refine tk (i:=3) (v:=?_) rfl (by kernel_rfl) (fun _ _ _ h=>Q4m (by decide) (by decide) h) (by rfl) (by assumption) ?_ ?_
 rotate_left
 ·intro w hSw;(try dsimp only at hSw);go_simp;(try with_reducible rfl)
 (try simp only [Qd,Qe,List.set])
 refine tk (i:=4) (v:=?_) rfl (by kernel_rfl) (fun _ _ _ h=>Q4m (by decide) (by decide) h) (by rfl) (by assumption) ?_ ?_
 rotate_left
 ·intro w hSw;(try dsimp only at hSw);go_simp;(try with_reducible rfl)
 (try simp only [Qd,Qe,List.set])
 refine tk (i:=5) (v:=?_) rfl (by kernel_rfl) (fun _ _ _ h=>Q4m (by decide) (by decide) h) (by rfl) (by assumption) ?_ ?_
 rotate_left
 ·intro w hSw;(try dsimp only at hSw);go_simp;(try with_reducible rfl)
 (try simp only [Qd,Qe,List.set])
 refine tk (i:=6) (v:=?_) rfl (by kernel_rfl) (fun _ _ _ h=>Q4m (by decide) (by decide) h) (by rfl) (by assumption) ?_ ?_
 rotate_left
 ·intro w hSw;(try dsimp only at hSw);go_simp;(try with_reducible rfl)
 (try simp only [Qd,Qe,List.set])
 refine tk (i:=7) (v:=?_) rfl (by kernel_rfl) (fun _ _ _ h=>Q4m (by decide) (by decide) h) (by rfl) (by assumption) ?_ ?_
 rotate_left
 ·intro w hSw;(try dsimp only at hSw);go_simp;(try with_reducible rfl)
 (try simp only [Qd,Qe,List.set])
 refine wpAnyH_ready (rs:=[8]) (by kernel_rfl) (by simp) ?_
 refine AllReadyH.cons rfl (fun K hK=>?_) AllReadyH.nil
 (go_simp;go_at_call 35;refine VV.out.mono ?_;rintro e w2 (⟨ns,rv,hx,rfl,hk,hrow⟩ | ⟨f,hx,hk,g,hg,rfl,hc⟩);rotate_left;exact Qff ((Qb.of_below [] KX.out).drew.trans hk) ((hk.block _ (Qc X1.out) (by simp)).trans X1.out) ((hk.block _ (Qc X2.out) (by simp)).trans X2.out) rfl rfl (Nat.lt_of_lt_of_le hxs hg) hc hx;have n1:=(hk.block _ (Qc X1.out) (by simp)).trans X1.out;have n2:=(hk.block _ (Qc X2.out) (by simp)).trans X2.out;have n0:=(hk.block _ (Qc X0.out) (by simp)).trans X0.out;have nB:=(hk.block _ (Qc XB.out) (by simp)).trans XB.out;obtain ⟨e0,e1,e2,ef,el⟩:=Q62 n0;obtain ⟨d0,d1,d2,df,dl⟩:=Q7e nB;have y1:=Qv n1;have y2:=Qv n2;have g1:∀ i,w2.frozen? ⟨w.heap.size + 1,i,none⟩=false:=(by intro i;simp [World.frozen?,n1]);have g2:∀ i,w2.frozen? ⟨w.heap.size + 1 + 1,i,none⟩=false:=(by intro i;simp [World.frozen?,n2]);have N1:=Hid.mk n1;have N2:=Hid.mk n2;have HK:=Hid.mk ((Qb.of_below [] KX.out).drew.trans hk);have HROW:=Hid.mk hrow;have HX:=Hid.mk hx;have kB:∀ y,(w2.setCell ⟨w.heap.size + 1,0,none⟩ y).cell? ⟨B,1,none⟩=some (.slice va vb vc):=(fun y=>(Q7e ((Below.heap_setCell _ _ _ _ (by simp only;omega)).trans nB)).2.1);obtain ⟨ra,rc,rfl⟩:=Q10 hrow;clear n0 n1 n2 nB hk hrow hx)
 refine hK.out _ _ ?_ (fun hHeld=>?_)
 ·go_keep
 clear hK K
 (try simp only [Qd,Qe,List.set])
 refine wpAnyH_ready (rs:=[9]) (by kernel_rfl) (by simp) ?_
 refine AllReadyH.cons rfl (fun K hK=>?_) AllReadyH.nil
 go_simp
 refine hK.out _ _ ?_ (fun hHeld=>?_)
 ·go_keep
 clear hK K
 (try simp only [Qd,Qe,List.set])
 refine wpAnyH_done (by kernel_rfl) ?_ _
 refine QK rfl (fun K hK=>?_)
 go_simp
 refine hK.out _ _ ?_
 clear hK K
 (try simp only [Qd,Qe,List.set])
 have r1:=Qy (i:=0) N1.out (.slice ra ns.length rc)
 have r2:(w2.setCell ⟨w.heap.size + 1,0,none⟩ (.slice ra ns.length rc)).heap[w.heap.size + 1 + 1]? = _:=(Below.heap_setCell _ _ _ _ (by simp)).trans N2.out
 have z1:=Hid.mk (Qv ((Below.heap_setCell _ ⟨w.heap.size + 1 + 1,0,none⟩ .nilIface _ (by simp)).trans r1))
 have z2:=Hid.mk (Qv (Qy (i:=0) r2 .nilIface))
 clear r1 r2 hHeld
 go_wp2
 refine leaves_cons (f:=34) (args:=#[.pointer (some ⟨w.heap.size + 1,0,none⟩),.pointer (some ⟨w.heap.size + 1 + 1,0,none⟩)]) (by simp) (by simp [go_sem]) ?_
 refine (Qaz _ _ _).mono ?_
 rintro e u' w'' ⟨rfl,rfl,rfl⟩
 simp only [Leaves,settle]
 refine ⟨.tuple #[.slice ra ns.length rc,.nilIface],by simp [results,Tryz.results17,go_sem,z1.out,z2.out],?_⟩
 refine ⟨(HK.out.setNew (p:=⟨w.heap.size + 1,0,none⟩) (by simp) _).setNew (p:=⟨w.heap.size + 1 + 1,0,none⟩) (by simp;omega) _,Or.inr (Or.inl ⟨p,ns,_,rfl,HX.out,rfl,?_⟩)⟩
 refine Qp (M:=[w.heap.size + 1,w.heap.size + 1 + 1]) (QgX HROW.out (by simp;omega)) (((Qb.refl [w.heap.size + 1,w.heap.size + 1 + 1] w2).setIn (p:=⟨w.heap.size + 1,0,none⟩) (by simp) _).setIn (p:=⟨w.heap.size + 1 + 1,0,none⟩) (by simp) _) ?_
 intro g hg hm
 have h1:=(Q16 HROW.out (g:=g) hg).1
 have h2:X.drew.heap.size=X.heap.size:=rfl
 simp only [List.mem_cons,List.not_mem_nil,or_false] at hm
 omega
theorem QgY (b:List UInt8) (dep fuel:Nat):(decW b dep fuel).Fair:=by
 intro n v d k d' h
 obtain ⟨d1,_,h⟩:=Ql h
 obtain ⟨p,_,h⟩:=Ql h
 split at h
 ·cases h
 ·rename_i q hq
  cases h
  simp [hq]
theorem QgZ (b:List UInt8) {dep:Nat} (fuel:Nat) (hd:dep≤64):∀ k d,64≤k→∃ f,(decW b dep fuel).enter k d = .error f:=by
 intro k d hk
 exact ⟨_,if_pos (by omega)⟩
theorem Qif {ds:List DefL} (hW:Whole ds) {n:List UInt8} {p:Nat} (hp:QI (Q1o ds).2 n=some p) (b:List UInt8) {dep:Nat} (fuel:Nat) (hd:dep≤64):∃ N,runN (decW b dep fuel) (Q1o ds).1 N ⟨p,[],[]⟩ ⟨0,[]⟩=some (Q1s (decW b dep fuel) (Q13 ds) 64 0 n ⟨0,[]⟩):=by
 obtain ⟨B,ha,hs⟩:=QhK hW
 have h:=hs n
 rw [hp] at h
 exact Qgg (QgY b dep fuel) (QgZ b fuel hd) ha h.1 h.2.1 h.2.2 _
theorem Qh0 {places:List (List UInt8×Nat)} {n:List UInt8} {dep fuel size:Int} {p:Nat} (h:Q1A places n dep fuel size = .ok p):QI places n=some p∧0≤dep∧dep≤64∧0≤fuel∧fuel≤10000∧0≤size∧size≤100000:=by
 unfold Q1A at h
 cases hm:QI places n with
 | none=>rw [hm] at h;cases h
 | some q=>
  rw [hm] at h
  simp only at h
  split at h
  ·rename_i hc
   cases h
   simp only [Q2F,Bool.and_eq_true,decide_eq_true_eq] at hc
   exact ⟨rfl,hc.1.1.1,hc.1.1.2,hc.1.2.1,hc.1.2.2,hc.2.1,hc.2.2⟩
  ·cases h
theorem Qfg {w:World} {bs:List (Nat×Obj)} {B:Nat} {ds:List DefL} (hS:Q3W bs B ds) (hw:∀ p∈bs,w.heap[p.1]? = some p.2) (hW:Whole ds) (hg:∀ x∈(Q1o ds).1,Q39 x) (n b:List UInt8) (dep fuel size:Int) (hbl:b.length≤maxLen) :
  Calls Tryz.prog 17 #[.pointer (some ⟨B,0,none⟩),.string ⟨n.toArray⟩,.string ⟨b.toArray⟩,.agg #[.int .i64 dep,.int .i64 fuel,.int .i64 size]] w (Q8e w (Q1A (Q1o ds).2 n dep fuel size) (Q3g (Q13 ds) n b dep.toNat fuel.toNat size.toNat)):=by
 obtain ⟨dsl,ps,v,S,P,hB,hD,hU⟩:=hS
 have hC:=hU.code
 have hSm:=hU.types
 have nd:=hU.nd
 cases hs:Q1A (Q1o ds).2 n dep fuel size with
 | error k=>exact Qdt (hw _ hB) (hw _ hSm) nd n b dep fuel size hs _
 | ok p=>
  obtain ⟨hm,d0,d1,f0,f1,s0,s1⟩:=Qh0 hs
  obtain ⟨dep,rfl⟩:=Int.eq_ofNat_of_zero_le d0
  obtain ⟨fuel,rfl⟩:=Int.eq_ofNat_of_zero_le f0
  obtain ⟨size,rfl⟩:=Int.eq_ofNat_of_zero_le s0
  obtain ⟨N,hN⟩:=Qif hW hm b fuel (dep:=dep) (by omega)
  exact Qdv hB hSm nd hC hw hg n b dep fuel size p N hs (by omega) (by omega) (by omega) hbl hN
end Go.Proofs.YtmbcibgknckenaaGreatDoor
namespace Go.Proofs.YtmbcibgknckenaaGreatDoor
open Go.RowKit
def Qh1:List UInt8:=[99,111,110,115,116,32,87,73,68,69,32,61,32,55,59,32,101,110,117,109,32,75,105,110,100,32,123,32,65,32,61,32,48,44,32,66,32,61,32,45,51,44,32,67,32,61,32,55,48,48,48,48,32,125,59,32,115,116,114,117,99,116,32,80,97,105,114,32,123,32,105,110,116,32,120,59,32,117,110,115,105,103,110,101,100,32,104,121,112,101,114,32,121,59,32,117,110,115,105,103,110,101,100,32,122,59,32,125,59,32,117,110,105,111,110,32,83,111,109,101,32,115,119,105,116,99,104,32,40,75,105,110,100,32,107,41,32,123,32,99,97,115,101,32,65,58,32,118,111,105,100,59,32,99,97,115,101,32,66,58,32,80,97,105,114,32,112,59,32,100,101,102,97,117,108,116,58,32,111,112,97,113,117,101,32,111,60,57,62,59,32,125,59,32,116,121,112,101,100,101,102,32,83,111,109,101,32,70,101,119,60,51,62,59,32,115,116,114,117,99,116,32,84,114,101,101,32,123,32,115,116,114,105,110,103,32,110,97,109,101,60,49,50,62,59,32,84,114,101,101,32,42,108,101,102,116,59,32,84,114,101,101,32,42,114,105,103,104,116,59,32,98,111,111,108,32,108,101,97,102,59,32,70,101,119,32,102,101,119,59,32,111,112,97,113,117,101,32,115,117,109,91,53,93,59,32,125,59,32,117,110,105,111,110,32,70,108,97,103,32,115,119,105,116,99,104,32,40,98,111,111,108,32,98,41,32,123,32,99,97,115,101,32,84,82,85,69,58,32,70,108,97,103,32,42,110,101,120,116,59,32,99,97,115,101,32,70,65,76,83,69,58,32,104,121,112,101,114,32,104,91,50,93,59,32,125,59,32,115,116,114,117,99,116,32,82,111,119,32,123,32,80,97,105,114,32,97,108,108,60,87,73,68,69,62,59,32,70,108,97,103,32,102,108,97,103,115,91,51,93,59,32,125,59,32,117,110,105,111,110,32,87,111,114,100,32,115,119,105,116,99,104,32,40,117,110,115,105,103,110,101,100,32,117,41,32,123,32,99,97,115,101,32,52,50,57,52,57,54,55,50,57,53,58,32,75,105,110,100,32,107,59,32,99,97,115,101,32,48,58,32,115,116,114,105,110,103,32,115,60,62,59,32,125,59,32,112,114,111,103,114,97,109,32,80,32,123,32,118,101,114,115,105,111,110,32,86,32,123,32,84,114,101,101,32,115,119,97,112,40,84,114,101,101,41,32,61,32,49,59,32,118,111,105,100,32,100,114,111,112,40,80,97,105,114,41,32,61,32,50,59,32,80,97,105,114,32,109,97,107,101,40,118,111,105,100,41,32,61,32,51,59,32,125,32,61,32,49,59,32,118,101,114,115,105,111,110,32,87,32,123,32,87,111,114,100,32,115,97,121,40,87,111,114,100,41,32,61,32,49,59,32,125,32,61,32,51,59,32,125,32,61,32,55,55,59]
def Q7f:ByteArray:=⟨Qh1.toArray⟩
def Q0z:List DefL:=match Q1J Q7f with
 | .ok ds=>ds
 | .error _=>[]
def okB {α:Type}:Except Mar.Fault α→Bool
 | .ok _=>true
 | .error _=>false
theorem Qig:okB (Q1J Q7f)=true:=by kernel_rfl
theorem QaA:Q1J Q7f = .ok Q0z:=by
 have h:=Qig
 unfold Q0z
 cases hx:Q1J Q7f with
 | ok ds=>rfl
 | error f=>rw [hx] at h;cases h
def Qfh:Qj→Bool
 | .text n _=>decide (0≤n) && decide (n≤4294967295)
 | .struct n _=>decide (0≤n) && decide (n≤4294967295)
 | .array n _ _=>decide (0≤n) && decide (n≤4294967295)
 | _=>true
theorem Qih {x:Qj} (h:Qfh x=true) (h2:Q60 x):Q39 x:=by
 cases x<;>simp_all [Qfh,Q39,Q60]
theorem Qfi:(Q1o Q0z).1.all Qfh=true:=by kernel_rfl
theorem Qh2:∀ x∈(Q1o Q0z).1,Q39 x:=fun x hx=>Qih (List.all_eq_true.1 Qfi x hx) (Qco Q0z x hx)
def Q9O:Ty→Bool
 | .arr (.arr _ _ _) _ _=>false
 | .arr (.opt _) _ _=>false
 | .opt (.arr _ _ _)=>false
 | .opt (.opt _)=>false
 | _=>true
theorem Qcr {t:Ty} (h:Q9O t=true):Q0J t:=by
 cases t with
 | arr o n f=>cases o<;>simp_all [Q9O,Q0J,Flat]
 | opt o=>cases o<;>simp_all [Q9O,Q0J,Flat]
 | _=>trivial
def Qfj:DefL→Bool
 | .prog _ _ vs _=>!vs.isEmpty && decide (vs.length≤4) && vs.all fun v=>decide (v.procs.length≤8) && v.procs.all fun p=>Q9O p.res && Q9O p.arg
 | _=>true
theorem Qii {d:DefL} (h:Qfj d=true):Q47 d:=by
 cases d with
 | prog t a vs n=>
  simp only [Qfj,Bool.and_eq_true,List.all_eq_true,decide_eq_true_eq,Bool.not_eq_true'] at h
  refine ⟨by intro e;subst e;simp at h,h.1.2,fun v hv=>⟨(h.2 v hv).1,fun p hp=>⟨Qcr ((h.2 v hv).2 p hp).1,Qcr ((h.2 v hv).2 p hp).2⟩⟩⟩
 | _=>trivial
theorem Qfk:Q0z.all Qfj=true:=by kernel_rfl
theorem Qfl:∀ d∈Q0z,Q47 d:=fun d hd=>Qii (List.all_eq_true.1 Qfk d hd)
end Go.Proofs.YtmbcibgknckenaaGreatDoor
namespace Go.Proofs.YtmbcibgknckenaaGreatDoor
theorem Qcs {ds:List DefL} {n:List UInt8} {d:DefL} (h:Q13 ds n=some d):d∈ds:=by
 unfold Q13 at h
 exact List.mem_of_find?_eq_some h
end Go.Proofs.YtmbcibgknckenaaGreatDoor
namespace Go.Proofs.YtmbcibgknckenaaGreatDoor
open Go.RowKit
def ndB:List DefL→Bool
 | []=>true
 | d :: ds=>(!Q0w d || ds.all fun e=>!Q0w e || !decide ((Qz e).1=(Qz d).1)) && ndB ds
theorem QkL:∀ {ds:List DefL},ndB ds=true→∀ az d bs,ds=az++d :: bs→Q0w d=true→∀ e∈bs,Q0w e=true→(Qz e).1≠(Qz d).1:=by
 intro ds h az
 induction az generalizing ds with
 | nil=>
  intro d bs hd ht e he hte hc
  subst hd
  simp only [List.nil_append,ndB,Bool.and_eq_true,ht,Bool.not_true,Bool.false_or] at h
  have:=List.all_eq_true.1 h.1 e he
  simp [hte,hc] at this
 | cons a az ih=>
  intro d bs hd
  subst hd
  simp only [List.cons_append,ndB,Bool.and_eq_true] at h
  exact ih h.2 d bs rfl
def Qct (ds:List DefL):Bool:=ds.all fun d=>(Q4D d).all fun t=>(QV t).all fun m=>(Q13 ds m.1).isSome
theorem Qh3 {ds:List DefL} (h:Qct ds=true):∀ d∈ds,Q0w d=true→Q8U (Q13 ds) d:=by
 intro d hd _ t ht m hm
 exact List.all_eq_true.1 (List.all_eq_true.1 (List.all_eq_true.1 h d hd) t ht) m hm
def Qfm:DefL→Option (List UInt8)
 | .union _ _ s _=>match s.ty with
  | .named n _=>some n
  | _=>none
 | _=>none
def Qcu:DefL→Option (List UInt8)
 | .enum n _ _=>some n
 | _=>none
def selB:List DefL→List DefL→Bool
 | _,[]=>true
 | pre,d :: ds=>(match Qfm d with | some n=>pre.any fun e=>decide (Qcu e=some n) | none=>true) && selB (pre++[d]) ds
theorem Qke:∀ {ds pre:List DefL},selB pre ds=true→∀ az d bs n,ds=az++d :: bs→Qfm d=some n→∃ e∈pre++az,Qcu e=some n:=by
 intro ds pre h az
 induction az generalizing ds pre with
 | nil=>
  intro d bs n hd hs
  subst hd
  simp only [List.nil_append,selB,hs,Bool.and_eq_true] at h
  obtain ⟨e,he,hx⟩:=List.any_eq_true.1 h.1
  exact ⟨e,by simp [he],by simpa using hx⟩
 | cons a az ih=>
  intro d bs n hd hs
  subst hd
  simp only [List.cons_append,selB,Bool.and_eq_true] at h
  obtain ⟨e,he,hx⟩:=ih h.2 d bs n rfl hs
  exact ⟨e,by simpa using he,hx⟩
theorem Qij {ds:List DefL} (hT:Q7K ds) (h1:ndB ds=true) (h2:Qct ds=true) (h3:selB [] ds=true):Whole ds where
 nd:=QkL h1
 known:=Qh3 h2
 sel:=by
  intro az t a s arms bs n a' hd hs
  obtain ⟨e,he,hx⟩:=Qke h3 az _ bs n hd (by simp [Qfm,hs])
  simp only [List.nil_append] at he
  obtain ⟨as1,as2,rfl⟩:=List.append_of_mem he
  cases e with
  | enum m b ms=>
   simp only [Qcu,Option.some.injEq] at hx
   subst hx
   exact ⟨as1,b,ms,as2,rfl⟩
  | _=>cases hx
 sim:=by
  intro t a s arms hm
  exact (hT _ hm).1
 deep:=by
  intro d hd t ht
  have h:=hT d hd
  cases d with
  | typedef d=>
   simp only [Q4D,List.mem_singleton] at ht
   subst ht
   exact Q1P.deep h
  | struct a b ms=>
   obtain ⟨m,hm,rfl⟩:=List.mem_map.1 ht
   exact Q1P.deep (h m hm)
  | union a b s arms=>
   obtain ⟨m,hm,rfl⟩:=List.mem_map.1 ht
   rcases h.2 m hm with h | h
   ·exact Q1P.deep h
   ·rw [h];trivial
  | const a b c=>cases ht
  | enum a b c=>cases ht
  | prog a b c d=>cases ht
theorem Qkf:ndB Q0z=true:=by kernel_rfl
theorem Qfn:Qct Q0z=true:=by kernel_rfl
theorem Qik:selB [] Q0z=true:=by kernel_rfl
theorem Qfo:Whole Q0z:=Qij (Q8t QaA) Qkf Qfn Qik
end Go.Proofs.YtmbcibgknckenaaGreatDoor
namespace Go.Proofs.YtmbcibgknckenaaGreatDoor
open Go.RowKit
open Go.MapKept
def QdX (w:World) (e:Ending) (w':World):Prop:=∃ B bs,e = .returned (.pointer (some ⟨B,0,none⟩))∧Qb [] w w'∧Q3W bs B Q0z∧(∀ p∈bs,w'.heap[p.1]? = some p.2)∧w.heap.size≤B
theorem Qil {w:World} (hg:Gl w):Calls Tryz.prog 13 #[] w (QdX w):=by
 have hnq:=Q94
 have VR:=Hid.mk (Qk5 QaA Qfl hg)
 clear hg
 go_enter Tryz.func13,Tryz.ntmps13
 go_wp2_with fail
 refine VR.out.mono ?_
 rintro e w1 ⟨B,bs,rfl,hk,hS,hh,hB⟩
 have H:Hid (QdX w (.returned (.pointer (some ⟨B,0,none⟩))) w1):=⟨B,bs,rfl,hk,hS,hh,hB⟩
 clear hk hS hh hB VR
 go_wp2
 go_ret
 exact H.out
theorem Qim (w:World):Calls Tryz.prog 15 #[] w fun e w'=>e = .returned (.agg #[.int .i64 64,.int .i64 10000,.int .i64 100000])∧Below w.heap.size w w':=by
 have hb:∀ o,Below w.heap.size w (w.alloc o):=fun o=>(Below.refl _ _).alloc (Nat.le_refl _) _
 go_enter Tryz.func15,Tryz.ntmps15
 go_wp2
 refine bodyPost_ret (v:=.agg #[.int .i64 64,.int .i64 10000,.int .i64 100000]) (by simp [results,Tryz.results15,go_sem]) rfl ⟨rfl,hb _⟩
def Q4Y (c:Int) (n:Nat):Nat:=(if c < 0 then -(c + 1) else c).toNat % n
theorem Qcv (c:Int) (n:Nat) (h1:-9223372036854775808≤c) (h2:c≤9223372036854775807) (hn:0 < n) (hn2:n≤1000000) (w:World):Calls Tryz.prog 20 #[.int .i64 c,.int .i64 n] w fun e w'=>e = .returned (.int .i64 (Q4Y c n))∧w'=w:=by
 have hn0:(n:Int)≠0:=by omega
 by_cases h0:c < 0
 ·have E:Hid ((Q4Y c n:Int) = -(c + 1).tmod n):=by
   show _=_
   rw [← Int.neg_tmod]
   unfold Q4Y
   rw [if_pos h0]
   obtain ⟨k,hk⟩:=Int.eq_ofNat_of_zero_le (show 0≤-(c + 1) by omega)
   rw [hk]
   rfl
  go_enter Tryz.func20,Tryz.ntmps20
  go_wp2
  go_ret
  exact ⟨by rw [E.out];rfl,rfl⟩
 ·have E:Hid ((Q4Y c n:Int)=c % n):=by
   show _=_
   unfold Q4Y
   rw [if_neg h0]
   obtain ⟨k,hk⟩:=Int.eq_ofNat_of_zero_le (show 0≤c by omega)
   rw [hk]
   rfl
  go_enter Tryz.func20,Tryz.ntmps20
  go_wp2
  go_ret
  exact ⟨by rw [E.out];rfl,rfl⟩
theorem Q95 (c:Int) {n:Nat} (hn:0 < n):Q4Y c n < n:=Nat.mod_lt _ hn
def Q59:List (List UInt8):=[[75,105,110,100],[80,97,105,114],[83,111,109,101],[70,101,119],[84,114,101,101],[70,108,97,103],[82,111,119],[87,111,114,100]]
def Q1d (c:Int):List UInt8:=Q59.getD (Q4Y c 8) []
theorem Qh4 (c:Int) (h1:-9223372036854775808≤c) (h2:c≤9223372036854775807) (w:World):Calls Tryz.prog 14 #[.int .i64 c] w fun e w'=>e = .returned (.string ⟨(Q1d c).toArray⟩)∧Below w.heap.size w w':=by
 have hb:∀ o,Below w.heap.size w (w.alloc o):=fun o=>(Below.refl _ _).alloc (Nat.le_refl _) _
 have VP:=Hid.mk (fun w=>Qcv c 8 h1 h2 (by omega) (by omega) w)
 have hlt:=Q95 c (n:=8) (by omega)
 have KD:Hid (Q1d c=Q59.getD (Q4Y c 8) []):=rfl
 generalize Q4Y c 8=k at VP hlt KD
 go_enter Tryz.func14,Tryz.ntmps14
 go_wp2_with fail
 refine (VP.out _).mono ?_
 rintro e w1 ⟨rfl,rfl⟩
 have hk:k=0∨k=1∨k=2∨k=3∨k=4∨k=5∨k=6∨k=7:=by omega
 rcases hk with rfl | rfl | rfl | rfl | rfl | rfl | rfl | rfl
 all_goals go_wp2
 all_goals go_ret
 all_goals exact ⟨by rw [KD.out];rfl,hb _⟩
end Go.Proofs.YtmbcibgknckenaaGreatDoor
