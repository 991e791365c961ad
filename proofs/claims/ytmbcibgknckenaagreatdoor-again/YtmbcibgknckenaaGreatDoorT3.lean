import Derived.Test.YtmbcibgknckenaaGreatDoorT2
import Derived.Deep.AppendLies
import Derived.Deep.RegionLaw
import Derived.Deep.RegionHeld2
set_option linter.all false
set_option maxRecDepth 100000
set_option maxHeartbeats 4000000
namespace Go.Proofs.YtmbcibgknckenaaGreatDoor
open Go.RowKit
open Go.MapKept
theorem Q22.add {τ:Type} {C:Q0e τ} {A:Ad} {text:ByteArray} (hC:Q22 C A text) (b:Nat):Q22 C (A.add b) text where
 enters:=hC.enters
 stable:=hC.stable
 far:=hC.far
 inX:=fun m hm=>List.mem_cons_of_mem _ (hC.inX m hm)
 call:=fun x hS hX hr hi hh=>hC.call x hS (fun b hb=>hX b (List.mem_cons_of_mem _ hb)) hr hi (hh.sub fun b hb=>List.mem_cons_of_mem _ hb)
structure Mid {τ:Type} (C:Q0e τ) (A:Ad) (text:ByteArray) (w:World) (D:Obj) (t:τ) (σ:St) (u:World):Prop where
 k:Qa (A.S :: C.M) w u
 r:Rd (A.add w.heap.size) text σ u
 i:C.I t u
 h:Held (A.add w.heap.size).X C.bs u
 d:u.heap[w.heap.size]? = some D
theorem Mid.start {τ:Type} {C:Q0e τ} {A:Ad} {text:ByteArray} {w:World} {t:τ} {σ:St} (hC:Q22 C A text) (h:Rd A text σ w) (hi:C.I t w) (hh:Held A.X C.bs w) (D:Obj) :
  Mid C A text w D t σ (w.alloc D) where
 k:=(Qa.refl _ w).alloc D
 r:=h.own D
 i:=hC.stable hi (Qa.of_below [] ((Below.refl w.heap.size w).alloc (Nat.le_refl _) D)) (by simp)
 h:=(hh.add (Nat.le_refl _)).keeps (Qa.of_below [] ((Below.refl w.heap.size w).alloc (Nat.le_refl _) D)) (by simp)
 d:=Qi rfl
theorem Mid.scan {τ:Type} {C:Q0e τ} {A:Ad} {text:ByteArray} {w u u':World} {D:Obj} {t:τ} {σ0 σ σ':St} (m:Mid C A text w D t σ u) (hC:Q22 C A text) (h0:Rd A text σ0 w) (hk:Qa [A.S] u u') (hr:Rd (A.add w.heap.size) text σ' u') :
  Mid C A text w D t σ' u' where
 k:=m.k.trans (hk.mono (by simp))
 r:=hr
 i:=hC.stable m.i hk (by simp;exact hC.far)
 h:=m.h.keeps hk (by simp;exact List.mem_cons_of_mem _ h0.mine.2.1)
 d:=(hk.block _ (Qc m.d) (by have:=h0.lt.2.1;simp;omega)).trans m.d
theorem Mid.claimed {τ:Type} {C:Q0e τ} {A:Ad} {text:ByteArray} {w u u':World} {D:Obj} {t t':τ} {σ0 σ σ':St} (m:Mid C A text w D t σ u) (hC:Q22 C A text) (h0:Rd A text σ0 w) (hk:Qa (A.S :: C.M) u u') (hr:Rd (A.add w.heap.size) text σ' u') (hi:C.I t' u') :
  Mid C A text w D t' σ' u' where
 k:=m.k.trans hk
 r:=hr
 i:=hi
 h:=m.h.keeps hk (fun b hb=>by
  rcases List.mem_cons.1 hb with rfl | hb
  ·exact List.mem_cons_of_mem _ h0.mine.2.1
  ·exact List.mem_cons_of_mem _ (hC.inX b hb))
 d:=(hk.block _ (Qc m.d) (fun hb=>by
  rcases List.mem_cons.1 hb with e | hb
  ·have:=h0.lt.2.1;omega
  ·have:=h0.old _ (hC.inX _ hb);omega)).trans m.d
theorem Mid.below {τ:Type} {C:Q0e τ} {A:Ad} {text:ByteArray} {w u u':World} {D:Obj} {t:τ} {σ:St} (m:Mid C A text w D t σ u) (hC:Q22 C A text) (hb:Below u.heap.size u u'):Mid C A text w D t σ u' where
 k:=m.k.trans (Qa.of_below _ hb)
 r:=m.r.below hb
 i:=hC.stable m.i (Qa.of_below [] hb) (by simp)
 h:=m.h.keeps (Qa.of_below [] hb) (by simp)
 d:=(hb.block _ (Qc m.d)).trans m.d
theorem Q7S {τ:Type} {C:Q0e τ} {A:Ad} {b:Nat} {text:ByteArray} {σ:St} {t:τ} {w:World} (hC:Q22 C A text) (h:Rd (A.add b) text σ w) (hi:C.I t w) (hh:Held (A.add b).X C.bs w) :
  Calls Tryz.prog 119 #[.pointer (some ⟨A.R,0,none⟩),.func (.func C.f) C.pre C.post] w (QP (A.S :: C.M) (A.add b) text w (name text C t σ) Q1x C.I):=Q7k (hC.add b) h hi hh
theorem Q8o {A' A:Ad} (hA:Same A' A) {text:ByteArray} {σ:St} {w:World} (h:Rd A' text σ w) :
  Calls Tryz.prog 160 #[.pointer (some ⟨A.R,0,none⟩)] w (Qt [A.S] A' text w (bound text σ) Q4a):=by
 have:=Qfq h
 rw [hA.1,hA.2.1] at this
 exact this
theorem QcF {A' A:Ad} (hA:Same A' A) {text:ByteArray} {σ:St} {w:World} (h:Rd A' text σ w) :
  Calls Tryz.prog 162 #[.pointer (some ⟨A.R,0,none⟩)] w (Qt [A.S] A' text w (Q1b text σ) tyV):=by
 have:=Q7g h
 rw [hA.1,hA.2.1] at this
 exact this
theorem Q7T {A' A:Ad} (hA:Same A' A) {text:ByteArray} {σ:St} (t:ByteArray) {w:World} (h:Rd A' text σ w) :
  Calls Tryz.prog 132 #[.pointer (some ⟨A.R,0,none⟩),.string t] w (Qt [A.S] A' text w (sees text t.data.toList σ) .bool):=by
 have:=Qbe t h
 rw [hA.1,hA.2.1] at this
 exact this
abbrev Q2S:Qk→Value:=fun d=>.agg #[.string ⟨d.t.toArray⟩,.int .i64 d.at',tyV d.ty]
def Q4L {τ:Type} (text:ByteArray) (n:List UInt8×Nat) (ty:Ty):PX τ Qk:=bndx (lift (bound text)) fun q=>retx ⟨n.1,n.2,.arr ty q.1 q.2⟩
def Q4W {τ:Type} (text:ByteArray) (n:List UInt8×Nat) (ty:Ty) (y:Bool):PX τ Qk:=if y then Q4L text n ty else retx ⟨n.1,n.2,ty⟩
def Q4X {τ:Type} (text:ByteArray) (n:List UInt8×Nat) (ty:Ty) (y:Bool):PX τ Qk:=if y then Q4L text n ty else bndx (lift (sees text [60])) (Q4W text n ty)
def Q3L {τ:Type} (text:ByteArray) (ty:Ty) (n:List UInt8×Nat):PX τ Qk:=bndx (lift (sees text [91])) (Q4X text n ty)
def Q4M {τ:Type} (text:ByteArray) (C:Q0e τ) (ty:Ty) (y:Bool):PX τ Qk:=if y then bndx (name text C) fun n=>retx ⟨n.1,n.2,.opt ty⟩ else bndx (name text C) (Q3L text ty)
def Q4c {τ:Type} (text:ByteArray) (C:Q0e τ) (ty:Ty):PX τ Qk:=bndx (lift (Q0B text [42])) (Q4M text C ty)
def Q3M {τ:Type} (text:ByteArray) (C:Q0e τ) (y:Bool):PX τ Qk:=
 if y then bndx (name text C) fun n=>bndx (lift (most text)) fun q=>retx ⟨n.1,n.2,.str q.1 q.2⟩ else bndx (lift (Q1b text)) (Q4c text C)
def Q3m {τ:Type} (text:ByteArray) (C:Q0e τ) (y:Bool):PX τ Qk:=
 if y then bndx (name text C) fun n=>bndx (lift (bound text)) fun q=>retx ⟨n.1,n.2,.opaq q.1 q.2⟩ else bndx (lift (Q0B text [115,116,114,105,110,103])) (Q3M text C)
def decl {τ:Type} (text:ByteArray) (C:Q0e τ):PX τ Qk:=bndx (lift (Q0B text [111,112,97,113,117,101])) (Q3m text C)
theorem fin3 {A:Ad} {text:ByteArray} {σ0 σ':St} {w u:World} {M:List Nat} (h:Rd A text σ0 w) (hk:Qa M w u) (hr:Rd (A.add w.heap.size) text σ' u) (v0 v1 v2:Value) :
  Qa M w (((u.setCell ⟨w.heap.size,0,none⟩ v0).setCell ⟨w.heap.size,1,none⟩ v1).setCell ⟨w.heap.size,2,none⟩ v2)∧Rd A text σ' (((u.setCell ⟨w.heap.size,0,none⟩ v0).setCell ⟨w.heap.size,1,none⟩ v1).setCell ⟨w.heap.size,2,none⟩ v2):=by
 refine ⟨((hk.setNew (Nat.le_refl _) _).setNew (Nat.le_refl _) _).setNew (Nat.le_refl _) _,Rd.drop (b:=w.heap.size) h.mine ?_⟩
 have hs:=fun {u:World} (hu:Rd (A.add w.heap.size) text σ' u) (i:Nat) (v:Value)=>Rd.setNew (A':=A.add w.heap.size) h ⟨rfl,rfl,rfl,rfl⟩ hu (p:=⟨w.heap.size,i,none⟩) (Nat.le_refl _) (by simp [Ad.add]) v
 exact hs (hs (hs hr 0 _) 1 _) 2 _
theorem Q0h {b:Nat} {k t a:Value} {T:TypeId} {w:World} (h:w.heap[b]? = some (.cells #[k,t,a] T)) :
  w.cell? ⟨b,0,none⟩=some k∧w.cell? ⟨b,1,none⟩=some t∧w.cell? ⟨b,2,none⟩=some a∧∀ i,w.frozen? ⟨b,i,none⟩=false:=by
 refine ⟨?_,?_,?_,?_⟩<;>simp [World.cell?,World.frozen?,h]
theorem Q1O {τ:Type} {C:Q0e τ} {A:Ad} {text:ByteArray} {u:World} {t:τ} {b:Nat} (hC:Q22 C A text) (hb:b ∉ C.M) (hi:C.I t u) (v0 v1 v2:Value) :
  C.I t (((u.setCell ⟨b,0,none⟩ v0).setCell ⟨b,1,none⟩ v1).setCell ⟨b,2,none⟩ v2):=
 hC.stable hi ((((Qa.refl [b] u).setIn (p:=⟨b,0,none⟩) (by simp) _).setIn (p:=⟨b,1,none⟩) (by simp) _).setIn (p:=⟨b,2,none⟩) (by simp) _) (by simpa using hb)
theorem Q60 {τ:Type} {C:Q0e τ} {A:Ad} {text:ByteArray} {σ:St} {t:τ} {w:World} (hC:Q22 C A text) (h:Rd A text σ w) (hi:C.I t w) (hh:Held A.X C.bs w) :
  Calls Tryz.prog 125 #[.pointer (some ⟨A.R,0,none⟩),.func (.func C.f) C.pre C.post] w (QP (A.S :: C.M) A text w (decl text C t σ) Q2S C.I):=by
 have hwM:w.heap.size ∉ C.M:=fun hm=>by have:=h.old _ (hC.inX _ hm);omega
 have m0:=Mid.start hC h hi hh (.cells #[.string ⟨#[]⟩,.int .i64 0,.nilIface] 195)
 go_enter Tryz.func125,Tryz.ntmps125
 go_wp2_with fail
 refine (Q2v (Same.add A _) _ m0.r).mono ?_
 rintro e w1 ⟨hk1,⟨y1,σ1,hx1,rfl,hr1⟩ | ⟨f,hx1,b,hbb,rfl,hcell⟩⟩
 rotate_left
 ·exact Qb (QP.throws (m0.k.trans (hk1.mono (by simp))) m0.k (Ql (Qv hx1)) hbb hcell)
 have m1:=m0.scan hC h hk1 hr1
 clear m0 hk1 hr1
 have E1:Hid (decl text C t σ = Q3m text C y1 t σ1):=Qh (Qj hx1)
 cases y1 with
 | true=>
  go_wp2_with fail
  refine (Q7S hC m1.r m1.i m1.h).mono ?_
  rintro e w2 ⟨hk2,⟨n,t2,σ2,hx2,rfl,hr2,hi2⟩ | ⟨f,hx2,b,hbb,rfl,hcell⟩⟩
  rotate_left
  ·exact Qb (QP.throws (m1.k.trans hk2) m1.k (E1.out.trans (Ql hx2)) hbb hcell)
  have m2:=m1.claimed hC h hk2 hr2 hi2
  clear hk2 hr2 hi2 m1
  have E2:Hid (decl text C t σ = bndx (lift (bound text)) (fun q=>retx ⟨n.1,n.2,.opaq q.1 q.2⟩) t2 σ2):=E1.out.trans (Qh hx2)
  clear E1
  dsimp only [Q1x]
  go_wp2_with fail
  have m3:=m2.below hC (((Below.refl w2.heap.size w2).alloc (Nat.le_refl _) (.cells #[.string ⟨n.1.toArray⟩,.int .i64 n.2] 116)).drew)
  have hvb:=Qi (w:=w2) (o:=.cells #[.string ⟨n.1.toArray⟩,.int .i64 n.2] 116) rfl
  obtain ⟨z0,z1,_⟩:=Q3a hvb
  have Z0:=Hid.mk z0
  have Z1:=Hid.mk z1
  have HM3:=Hid.mk m3
  have hS2:A.S < w2.heap.size:=by have:=h.lt.2.1;have:=m2.k.size;omega
  have hw2:w.heap.size < w2.heap.size:=Qc m2.d
  have hne1:¬ w.heap.size=w2.heap.size:=by omega
  have hne2:¬ w2.heap.size=w.heap.size:=by omega
  have HC:=Hid.mk hC
  have HH:=Hid.mk h
  clear z0 z1 hvb m3 m2 hC
  go_region_held2 (fun w'=>w'.cell? ⟨w2.heap.size,0,none⟩=some (.string ⟨n.1.toArray⟩)∧w'.cell? ⟨w2.heap.size,1,none⟩=some (.int .i64 n.2)) (go_keep)
   (first | (go_at_call 160;refine (Q8o (Same.add A _) HM3.out.r).mono ?_;rintro e w3 ⟨hk,⟨q,σ3,hx,rfl,hr⟩ | ⟨f,hx,b,hbb,rfl,hcell⟩⟩;rotate_left;exact Qb (QP.throws (HM3.out.k.trans (hk.mono (by simp))) HM3.out.k (E2.out.trans (Ql (Qv hx))) hbb hcell);dsimp only [Q4a];have m4:=HM3.out.scan HC.out HH.out hk hr;obtain ⟨r0,r1,r2,hfrR⟩:=Q0h m4.d;have q0:=hk.cell (b:=w2.heap.size) (by simp;omega) Z0.out;have q1:=hk.cell (b:=w2.heap.size) (by simp;omega) Z1.out;have HM4:=Hid.mk m4;have Hx:=Hid.mk hx;clear m4 hk hx hr))
  go_wp2
  obtain ⟨f1,f2⟩:=fin3 h HM4.out.k HM4.out.r (.string ⟨n.1.toArray⟩) (.int .i64 n.2) (tyV (.opaq q.1 q.2))
  refine bodyPost_ret (v:=.agg #[.string ⟨n.1.toArray⟩,.int .i64 n.2,.iface 306 (.agg #[.int .i64 q.1,.bool q.2])]) (by simp [results,Tryz.results125,go_sem,r0,r1,r2]) rfl (QP.ok (a:=⟨n.1,n.2,.opaq q.1 q.2⟩) (t:=t2) f1 (E2.out.trans (Qh (Qj Hx.out))) rfl f2 ?_)
  exact Q1O HC.out hwM HM4.out.i _ _ _
 | false=>
  go_wp2_with fail
  refine (Q2v (Same.add A _) _ m1.r).mono ?_
  rintro e w2 ⟨hk2,⟨y2,σ2,hx2,rfl,hr2⟩ | ⟨f,hx2,b,hbb,rfl,hcell⟩⟩
  rotate_left
  ·exact Qb (QP.throws (m1.k.trans (hk2.mono (by simp))) m1.k (E1.out.trans (Ql (Qv hx2))) hbb hcell)
  have m2:=m1.scan hC h hk2 hr2
  clear m1 hk2 hr2
  have E2:Hid (decl text C t σ = Q3M text C y2 t σ2):=E1.out.trans (Qh (Qj hx2))
  clear E1
  cases y2 with
  | true=>
   go_wp2_with fail
   refine (Q7S hC m2.r m2.i m2.h).mono ?_
   rintro e w3 ⟨hk,⟨n,t3,σ3,hx3,rfl,hr,hi2⟩ | ⟨f,hx3,b,hbb,rfl,hcell⟩⟩
   rotate_left
   ·exact Qb (QP.throws (m2.k.trans hk) m2.k (E2.out.trans (Ql hx3)) hbb hcell)
   have m3:=m2.claimed hC h hk hr hi2
   clear hk hr hi2 m2
   dsimp only [Q1x]
   have E3:Hid (decl text C t σ = bndx (lift (most text)) (fun q=>retx ⟨n.1,n.2,.str q.1 q.2⟩) t3 σ3):=E2.out.trans (Qh hx3)
   clear E2
   go_wp2_with fail
   have m8:=m3.below hC (((Below.refl w3.heap.size w3).alloc (Nat.le_refl _) (.cells #[.string ⟨n.1.toArray⟩,.int .i64 n.2] 116)).drew)
   have hvb:=Qi (w:=w3) (o:=.cells #[.string ⟨n.1.toArray⟩,.int .i64 n.2] 116) rfl
   obtain ⟨z0,z1,_⟩:=Q3a hvb
   have Z0:=Hid.mk z0
   have Z1:=Hid.mk z1
   have HM3:=Hid.mk m8
   have hS2:A.S < w3.heap.size:=by have:=h.lt.2.1;have:=m3.k.size;omega
   have hw2:w.heap.size < w3.heap.size:=Qc m3.d
   have hne1:¬ w.heap.size=w3.heap.size:=by omega
   have hne2:¬ w3.heap.size=w.heap.size:=by omega
   have HC:=Hid.mk hC
   have HH:=Hid.mk h
   clear z0 z1 hvb m8 m3 hC
   go_region_held2 (fun w'=>w'.cell? ⟨w3.heap.size,0,none⟩=some (.string ⟨n.1.toArray⟩)∧w'.cell? ⟨w3.heap.size,1,none⟩=some (.int .i64 n.2)) (go_keep)
    (first | (go_at_call 161;refine (QdH (Same.add A _) HM3.out.r).mono ?_;rintro e w9 ⟨hk,⟨q,σ9,hx9,rfl,hr⟩ | ⟨f,hx9,b,hbb,rfl,hcell⟩⟩;rotate_left;exact Qb (QP.throws (HM3.out.k.trans (hk.mono (by simp))) HM3.out.k (E3.out.trans (Ql (Qv hx9))) hbb hcell);dsimp only [Q4a];have m9:=HM3.out.scan HC.out HH.out hk hr;obtain ⟨r0,r1,r2,hfrR⟩:=Q0h m9.d;have q0:=hk.cell (b:=w3.heap.size) (by simp;omega) Z0.out;have q1:=hk.cell (b:=w3.heap.size) (by simp;omega) Z1.out;have HM4:=Hid.mk m9;have Hx:=Hid.mk hx9;clear m9 hk hx9 hr))
   go_wp2
   obtain ⟨f1,f2⟩:=fin3 h HM4.out.k HM4.out.r (.string ⟨n.1.toArray⟩) (.int .i64 n.2) (tyV (.str q.1 q.2))
   refine bodyPost_ret (v:=.agg #[.string ⟨n.1.toArray⟩,.int .i64 n.2,.iface 309 (.agg #[.int .i64 q.1,.bool q.2])]) (by simp [results,Tryz.results125,go_sem,r0,r1,r2]) rfl (QP.ok (a:=⟨n.1,n.2,.str q.1 q.2⟩) (t:=t3) f1 (E3.out.trans (Qh (Qj Hx.out))) rfl f2 ?_)
   exact Q1O HC.out hwM HM4.out.i _ _ _
  | false=>
   go_wp2_with fail
   refine (QcF (Same.add A _) m2.r).mono ?_
   rintro e w3 ⟨hk3,⟨ty,σ3,hx3,rfl,hr3⟩ | ⟨f,hx3,b,hbb,rfl,hcell⟩⟩
   rotate_left
   ·exact Qb (QP.throws (m2.k.trans (hk3.mono (by simp))) m2.k (E2.out.trans (Ql (Qv hx3))) hbb hcell)
   have m3:=m2.scan hC h hk3 hr3
   clear m2 hk3 hr3
   have E3:Hid (decl text C t σ = Q4c text C ty t σ3):=E2.out.trans (Qh (Qj hx3))
   clear E2
   obtain ⟨T,vt,Hvt⟩:∃ T vt,Hid (tyV ty = .iface T vt):=by cases ty<;>exact ⟨_,_,rfl⟩
   rw [Hvt.out]
   go_wp2_with fail
   refine (Q2v (Same.add A _) _ m3.r).mono ?_
   rintro e w4 ⟨hk4,⟨y4,σ4,hx4,rfl,hr4⟩ | ⟨f,hx4,b,hbb,rfl,hcell⟩⟩
   rotate_left
   ·exact Qb (QP.throws (m3.k.trans (hk4.mono (by simp))) m3.k (E3.out.trans (Ql (Qv hx4))) hbb hcell)
   have m4:=m3.scan hC h hk4 hr4
   clear m3 hk4 hr4
   have E4:Hid (decl text C t σ = Q4M text C ty y4 t σ4):=E3.out.trans (Qh (Qj hx4))
   clear E3
   cases y4 with
   | true=>
    go_wp2_with fail
    refine (Q7S hC m4.r m4.i m4.h).mono ?_
    rintro e w5 ⟨hk,⟨n,t5,σ5,hx5,rfl,hr,hi2⟩ | ⟨f,hx5,b,hbb,rfl,hcell⟩⟩
    rotate_left
    ·exact Qb (QP.throws (m4.k.trans hk) m4.k (E4.out.trans (Ql hx5)) hbb hcell)
    have m5:=m4.claimed hC h hk hr hi2
    clear hk hr hi2 m4
    dsimp only [Q1x]
    have E5:Hid (decl text C t σ = retx ⟨n.1,n.2,.opt ty⟩ t5 σ5):=E4.out.trans (Qh hx5)
    obtain ⟨r0,r1,r2,hfrR⟩:=Q0h m5.d
    have HM5:=Hid.mk m5
    clear m5
    go_wp2
    obtain ⟨f1,f2⟩:=fin3 h HM5.out.k HM5.out.r (.string ⟨n.1.toArray⟩) (.int .i64 n.2) (.iface 314 (.agg #[.iface T vt]))
    refine bodyPost_ret (v:=.agg #[.string ⟨n.1.toArray⟩,.int .i64 n.2,.iface 314 (.agg #[.iface T vt])]) (by simp [results,Tryz.results125,go_sem,r0,r1,r2]) rfl (QP.ok (a:=⟨n.1,n.2,.opt ty⟩) (t:=t5) f1 (E5.out.trans rfl) (by simp only [Q2S,tyV,Hvt.out]) f2 ?_)
    exact Q1O hC hwM HM5.out.i _ _ _
   | false=>
    go_wp2_with fail
    refine (Q7S hC m4.r m4.i m4.h).mono ?_
    rintro e w5 ⟨hk,⟨n,t5,σ5,hx5,rfl,hr,hi2⟩ | ⟨f,hx5,b,hbb,rfl,hcell⟩⟩
    rotate_left
    ·exact Qb (QP.throws (m4.k.trans hk) m4.k (E4.out.trans (Ql hx5)) hbb hcell)
    have m5:=m4.claimed hC h hk hr hi2
    clear hk hr hi2 m4
    dsimp only [Q1x]
    have E5:Hid (decl text C t σ = Q3L text ty n t5 σ5):=E4.out.trans (Qh hx5)
    clear E4
    have hS2:A.S < w5.heap.size:=by have:=h.lt.2.1;have:=m5.k.size;omega
    have hw2:w.heap.size < w5.heap.size:=Qc m5.d
    have hne1:¬ w.heap.size=w5.heap.size:=by omega
    have hne2:¬ w5.heap.size=w.heap.size:=by omega
    have m6:=m5.below hC ((Below.refl w5.heap.size w5).alloc (Nat.le_refl _) (.cells #[.string ⟨n.1.toArray⟩,.int .i64 n.2] 116))
    obtain ⟨z0,z1,_⟩:=Q3a (Qi (w:=w5) (o:=.cells #[.string ⟨n.1.toArray⟩,.int .i64 n.2] 116) rfl)
    clear m5
    go_wp2_with fail
    refine (Q7T (Same.add A _) _ m6.r).mono ?_
    rintro e w6 ⟨hk,⟨y6,σ6,hx6,rfl,hr⟩ | ⟨f,hx6,b,hbb,rfl,hcell⟩⟩
    rotate_left
    ·exact Qb (QP.throws (m6.k.trans (hk.mono (by simp))) m6.k (E5.out.trans (Ql (Qv hx6))) hbb hcell)
    have m7:=m6.scan hC h hk hr
    have z0:=hk.cell (b:=w5.heap.size) (by simp;omega) z0
    have z1:=hk.cell (b:=w5.heap.size) (by simp;omega) z1
    clear hk hr m6
    have E6:Hid (decl text C t σ = Q4X text n ty y6 t5 σ6):=E5.out.trans (Qh (Qj hx6))
    clear E5
    cases y6 with
    | true=>
     have E7:Hid (decl text C t σ = bndx (lift (bound text)) (fun q=>retx ⟨n.1,n.2,.arr ty q.1 q.2⟩) t5 σ6):=E6.out
     go_wp2_with fail
     have m8:=m7.below hC ((Below.refl w6.heap.size w6).drew)
     have HM3:=Hid.mk m8
     have HC:=Hid.mk hC
     have HH:=Hid.mk h
     clear m8 m7 hC
     go_region_held2 (fun w'=>w'.cell? ⟨w5.heap.size,0,none⟩=some (.string ⟨n.1.toArray⟩)∧w'.cell? ⟨w5.heap.size,1,none⟩=some (.int .i64 n.2)) (go_keep)
      (first | (go_at_call 160;refine (Q8o (Same.add A _) HM3.out.r).mono ?_;rintro e w9 ⟨hk,⟨q,σ9,hx9,rfl,hr⟩ | ⟨f,hx9,b,hbb,rfl,hcell⟩⟩;rotate_left;exact Qb (QP.throws (HM3.out.k.trans (hk.mono (by simp))) HM3.out.k (E7.out.trans (Ql (Qv hx9))) hbb hcell);dsimp only [Q4a];have m9:=HM3.out.scan HC.out HH.out hk hr;obtain ⟨r0,r1,r2,hfrR⟩:=Q0h m9.d;have q0:=hk.cell (b:=w5.heap.size) (by simp;omega) z0;have q1:=hk.cell (b:=w5.heap.size) (by simp;omega) z1;have HM4:=Hid.mk m9;have Hx:=Hid.mk hx9;clear m9 hk hx9 hr))
     go_wp2
     obtain ⟨f1,f2⟩:=fin3 h HM4.out.k HM4.out.r (.string ⟨n.1.toArray⟩) (.int .i64 n.2) (.iface 311 (.agg #[.iface T vt,.int .i64 q.1,.bool q.2]))
     refine bodyPost_ret (v:=.agg #[.string ⟨n.1.toArray⟩,.int .i64 n.2,.iface 311 (.agg #[.iface T vt,.int .i64 q.1,.bool q.2])]) (by simp [results,Tryz.results125,go_sem,r0,r1,r2]) rfl (QP.ok (a:=⟨n.1,n.2,.arr ty q.1 q.2⟩) (t:=t5) f1 (E7.out.trans (Qh (Qj Hx.out))) (by simp only [Q2S,tyV,Hvt.out]) f2 ?_)
     exact Q1O HC.out hwM HM4.out.i _ _ _
    | false=>
     go_wp2_with fail
     refine (Q7T (Same.add A _) _ m7.r).mono ?_
     rintro e w7 ⟨hk,⟨y7,σ7,hx7,rfl,hr⟩ | ⟨f,hx7,b,hbb,rfl,hcell⟩⟩
     rotate_left
     ·exact Qb (QP.throws (m7.k.trans (hk.mono (by simp))) m7.k (E6.out.trans (Ql (Qv hx7))) hbb hcell)
     have m8:=m7.scan hC h hk hr
     have z0:=hk.cell (b:=w5.heap.size) (by simp;omega) z0
     have z1:=hk.cell (b:=w5.heap.size) (by simp;omega) z1
     clear hk hr m7
     have E7:Hid (decl text C t σ = Q4W text n ty y7 t5 σ7):=E6.out.trans (Qh (Qj hx7))
     clear E6
     cases y7 with
     | true=>
      have E8:Hid (decl text C t σ = bndx (lift (bound text)) (fun q=>retx ⟨n.1,n.2,.arr ty q.1 q.2⟩) t5 σ7):=E7.out
      go_wp2_with fail
      have m8':=m8.below hC ((Below.refl w7.heap.size w7).drew)
      have HM3:=Hid.mk m8'
      have HC:=Hid.mk hC
      have HH:=Hid.mk h
      clear m8' m8 hC
      go_region_held2 (fun w'=>w'.cell? ⟨w5.heap.size,0,none⟩=some (.string ⟨n.1.toArray⟩)∧w'.cell? ⟨w5.heap.size,1,none⟩=some (.int .i64 n.2)) (go_keep)
       (first | (go_at_call 160;refine (Q8o (Same.add A _) HM3.out.r).mono ?_;rintro e w9 ⟨hk,⟨q,σ9,hx9,rfl,hr⟩ | ⟨f,hx9,b,hbb,rfl,hcell⟩⟩;rotate_left;exact Qb (QP.throws (HM3.out.k.trans (hk.mono (by simp))) HM3.out.k (E8.out.trans (Ql (Qv hx9))) hbb hcell);dsimp only [Q4a];have m9:=HM3.out.scan HC.out HH.out hk hr;obtain ⟨r0,r1,r2,hfrR⟩:=Q0h m9.d;have q0:=hk.cell (b:=w5.heap.size) (by simp;omega) z0;have q1:=hk.cell (b:=w5.heap.size) (by simp;omega) z1;have HM4:=Hid.mk m9;have Hx:=Hid.mk hx9;clear m9 hk hx9 hr))
      go_wp2
      obtain ⟨f1,f2⟩:=fin3 h HM4.out.k HM4.out.r (.string ⟨n.1.toArray⟩) (.int .i64 n.2) (.iface 311 (.agg #[.iface T vt,.int .i64 q.1,.bool q.2]))
      refine bodyPost_ret (v:=.agg #[.string ⟨n.1.toArray⟩,.int .i64 n.2,.iface 311 (.agg #[.iface T vt,.int .i64 q.1,.bool q.2])]) (by simp [results,Tryz.results125,go_sem,r0,r1,r2]) rfl (QP.ok (a:=⟨n.1,n.2,.arr ty q.1 q.2⟩) (t:=t5) f1 (E8.out.trans (Qh (Qj Hx.out))) (by simp only [Q2S,tyV,Hvt.out]) f2 ?_)
      exact Q1O HC.out hwM HM4.out.i _ _ _
     | false=>
      have E8:Hid (decl text C t σ = retx ⟨n.1,n.2,ty⟩ t5 σ7):=E7.out
      obtain ⟨r0,r1,r2,hfrR⟩:=Q0h m8.d
      have HM5:=Hid.mk m8
      clear m8
      go_wp2
      obtain ⟨f1,f2⟩:=fin3 h HM5.out.k HM5.out.r (.string ⟨n.1.toArray⟩) (.int .i64 n.2) (.iface T vt)
      refine bodyPost_ret (v:=.agg #[.string ⟨n.1.toArray⟩,.int .i64 n.2,.iface T vt]) (by simp [results,Tryz.results125,go_sem,r0,r1,r2]) rfl (QP.ok (a:=⟨n.1,n.2,ty⟩) (t:=t5) f1 (E8.out.trans rfl) (by simp only [Q2S,Hvt.out]) f2 ?_)
      exact Q1O hC hwM HM5.out.i _ _ _
def Q0U (A:Ad):Q0e Unit where
 f:=120
 pre:=#[.pointer (some ⟨A.R,0,none⟩)]
 post:=#[]
 M:=[A.N]
 bs:=[]
 I:=fun _ _=>True
 run:=fun x=>lift (Q18 x)
theorem Qat (args:Array Value) (w:World):(callFunc 120 args).run Tryz.prog w = .ok (.enter 120 args) w:=by kernel_rfl
theorem Qau (args:Array Value) (w:World):(callFunc 164 args).run Tryz.prog w = .ok (.enter 164 args) w:=by kernel_rfl
theorem Q74 {A:Ad} {text:ByteArray} {σ0:St} {w0:World} (h0:Rd A text σ0 w0):Q22 (Q0U A) A text where
 enters:=Qat
 stable:=fun _ _ _=>trivial
 far:=by simp [Q0U];exact h0.apart.2.2.2.1
 inX:=by simp [Q0U];exact h0.mine.2.2.1
 call:=by
  intro A' σ t W x hS _ hr _ _
  have:=Qe7 x hr
  rw [hS.1,hS.2.2.1] at this
  refine Calls.mono (R:=Qt [A.N] A' text W (Q18 x σ) Q5Z) this ?_
  rintro e w' ⟨hk,⟨a,σ',hx,rfl,hr'⟩ | ⟨f,hx,ht⟩⟩
  ·exact ⟨hk,Or.inl ⟨a,t,σ',Qj hx,rfl,hr',trivial⟩⟩
  ·exact ⟨hk,Or.inr ⟨f,Qv hx,ht⟩⟩
def Qr (q bx:Nat):Q0e (List (List UInt8)) where
 f:=164
 pre:=#[]
 post:=#[.pointer (some ⟨bx,0,none⟩)]
 M:=[q]
 bs:=[(bx,.cells #[.map (some q)] 64)]
 I:=Q0m q
 run:=fun x=>Q4b (Q3l x)
theorem Q5C {A:Ad} {text:ByteArray} {q bx:Nat} (hq:Free A q):Q22 (Qr q bx) A text where
 enters:=Qau
 stable:=fun hi hk hm=>hi.keeps hk (fun hq=>hm _ hq (by simp [Qr]))
 far:=by simp [Qr];exact fun e=>hq.2.2.1 e.symm
 inX:=by simp [Qr];exact hq.1
 call:=by
  intro A' σ t W x hS hX hr hi hh
  have hb:W.cell? ⟨bx,0,none⟩=some (.map (some q)):=by
   have:=(hh (bx,.cells #[.map (some q)] 64) (by simp [Qr])).1
   simp at this
   simp [World.cell?,this]
  refine Calls.mono (Qe8 x hi hb) ?_
  have hf:Free A' q:=⟨hX _ hq.1,by rw [hS.1];exact hq.2.1,by rw [hS.2.1];exact hq.2.2.1,by rw [hS.2.2.1];exact hq.2.2.2.1,by rw [hS.2.2.2];exact hq.2.2.2.2⟩
  rintro e w' ⟨hk,⟨l',hx,rfl,hs⟩ | ⟨f,hx,ht⟩⟩
  ·obtain ⟨_,vs,_,hm⟩:=id hi
   exact ⟨hk,Or.inl ⟨(),l',σ,Q4u hx,rfl,hr.turned hk hf hm,hs⟩⟩
  ·exact ⟨hk,Or.inr ⟨f,Q4v hx,ht⟩⟩
def bare {α:Type} (m:PX Unit α):PM α:=fun σ=>match m () σ with
 | .ok (a,_,σ')=>.ok (a,σ')
 | .error f=>.error f
theorem Q9C {α:Type} {m:PX Unit α} {σ σ':St} {a:α} {u:Unit} (h:m () σ = .ok (a,u,σ')):bare m σ = .ok (a,σ'):=by simp only [bare,h]
theorem Q8p {α:Type} {m:PX Unit α} {σ:St} {f:Mar.Fault} (h:m () σ = .error f):bare m σ = .error f:=by simp only [bare,h]
def noAd:Ad:=⟨0,0,0,0,[]⟩
def Q4w (text:ByteArray):PM Qk:=bare (decl text (Q0U noAd))
def Q1j (text:ByteArray):PM (List UInt8×Nat):=bare (name text (Q0U noAd))
def QC (M:List Nat) (A:Ad) (text:ByteArray) (w:World) (r:Except Mar.Fault (DefL×St)) (e:Ending) (w':World):Prop:=
 Qa M w w'∧((∃ d σ' b bs,r = .ok (d,σ')∧e = .returned (.pointer (some ⟨b,0,none⟩))∧Rd A text σ' w'∧Q0d bs b d∧Held A.X bs w')∨(∃ f,r = .error f∧Q0A w f.no f.at' e w'))
theorem QC.throws {M M':List Nat} {A:Ad} {text:ByteArray} {w w1 w':World} {r:Except Mar.Fault (DefL×St)} {f:Mar.Fault} {b:Nat}
  (hk:Qa M w w') (hk1:Qa M' w w1) (hr:r = .error f) (hb:w1.heap.size≤b) (hc:w'.heap[b]? = some (.cells #[.int .i64 f.no,.int .i64 f.at'] 83)) :
  QC M A text w r (.panicked [{ v:=.iface 79 (.pointer (some ⟨b,0,none⟩)),recovered:=false }]) w':=
 ⟨hk,Or.inr ⟨f,hr,b,Nat.le_trans hk1.size hb,rfl,hc⟩⟩
theorem Qav {A:Ad} {text:ByteArray} {σ:St} {w:World} (h:Rd A text σ w) :
  Calls Tryz.prog 125 #[.pointer (some ⟨A.R,0,none⟩),.func (.func 120) #[.pointer (some ⟨A.R,0,none⟩)] #[]] w (Qt [A.S,A.N] A text w (Q4w text σ) Q2S):=by
 refine Calls.mono (Q60 (C:=Q0U A) (t:=()) (Q74 h) h trivial (fun p hp=>by simp [Q0U] at hp)) ?_
 rintro e w' ⟨hk,⟨a,t,σ',hx,rfl,hr,_⟩ | ⟨f,hx,ht⟩⟩
 ·exact ⟨hk,Or.inl ⟨a,σ',Q9C (u:=t) hx,rfl,hr⟩⟩
 ·exact ⟨hk,Or.inr ⟨f,Q8p hx,ht⟩⟩
theorem Q3c {A:Ad} {text:ByteArray} {σ:St} {w:World} (h:Rd A text σ w) :
  Calls Tryz.prog 119 #[.pointer (some ⟨A.R,0,none⟩),.func (.func 120) #[.pointer (some ⟨A.R,0,none⟩)] #[]] w (Qt [A.S,A.N] A text w (Q1j text σ) Q1x):=by
 refine Calls.mono (Q7k (C:=Q0U A) (t:=()) (Q74 h) h trivial (fun p hp=>by simp [Q0U] at hp)) ?_
 rintro e w' ⟨hk,⟨a,t,σ',hx,rfl,hr,_⟩ | ⟨f,hx,ht⟩⟩
 ·exact ⟨hk,Or.inl ⟨a,σ',Q9C (u:=t) hx,rfl,hr⟩⟩
 ·exact ⟨hk,Or.inr ⟨f,Q8p hx,ht⟩⟩
def typedef (text:ByteArray) (at':Nat):PM DefL:=bnd (Q1s at') fun _=>bnd (Q4w text) fun d=>bnd (QS text [59]) fun _=>ret (.typedef d)
theorem QcG {A:Ad} {text:ByteArray} {σ:St} (at':Nat) {w:World} (h:Rd A text σ w) :
  Calls Tryz.prog 87 #[.pointer (some ⟨A.R,0,none⟩),.int .i64 at'] w (QC [A.R,A.S,A.N] A text w (typedef text at' σ)):=by
 have hmf:∀ (fn:Fn) (first cap:Array Value) (w:World),(Instr.makeFunc fn first cap).run Tryz.prog w = .ok (.func fn first cap) w:=fun _ _ _ _=>rfl
 go_enter Tryz.func87,Tryz.ntmps87
 go_wp2_with fail
 refine (Q4K at' h).mono ?_
 rintro e w1 ⟨hk1,⟨u,σ1,hx1,rfl,hr1⟩ | ⟨f,hx1,b,hbb,rfl,hcell⟩⟩
 rotate_left
 ·exact Qb (QC.throws (hk1.mono (by simp)) (Qa.refl [] _) (Qq hx1) hbb hcell)
 have hK1:=hk1.mono (M':=[A.R,A.S,A.N]) (by simp)
 clear hk1
 go_wp2_with fail
 refine (Qav hr1).mono ?_
 rintro e w2 ⟨hk2,⟨d,σ2,hx2,rfl,hr2⟩ | ⟨f,hx2,b,hbb,rfl,hcell⟩⟩
 rotate_left
 ·exact Qb (QC.throws (hK1.trans (hk2.mono (by simp))) hK1 ((Qg hx1).trans (Qq hx2)) hbb hcell)
 have hK2:=hK1.trans (hk2.mono (M':=[A.R,A.S,A.N]) (by simp))
 clear hk2 hK1
 obtain ⟨T,vt,Hvt⟩:∃ T vt,Hid (tyV d.ty = .iface T vt):=by cases d.ty<;>exact ⟨_,_,rfl⟩
 dsimp only [Q2S]
 rw [Hvt.out]
 have hba:=(Below.refl w2.heap.size w2).alloc (Nat.le_refl _) (.cells #[.string ⟨d.t.toArray⟩,.int .i64 d.at',.iface T vt] 197)
 have hv:=Qi (w:=w2) (o:=.cells #[.string ⟨d.t.toArray⟩,.int .i64 d.at',.iface T vt] 197) rfl
 have hr3:=hr2.below hba
 have hX2:=hr2.old
 go_wp2_with fail
 refine (Q3E _ hr3).mono ?_
 rintro e w4 ⟨hk4,⟨x4,σ4,hx4,rfl,hr4⟩ | ⟨f,hx4,b,hbb,rfl,hcell⟩⟩
 rotate_left
 ·exact Qb (QC.throws ((hK2.alloc _).trans (hk4.mono (by simp))) (hK2.alloc _) ((Qg hx1).trans ((Qg hx2).trans (Qq hx4))) hbb hcell)
 have HV:=Hid.mk ((hk4.block _ (Qc hv) (by have:=hr2.lt.2.1;simp;omega)).trans hv)
 go_wp2
 go_ret
 refine ⟨(hK2.alloc _).trans (hk4.mono (by simp)),Or.inl ⟨.typedef d,σ4,w2.heap.size,[(w2.heap.size,.cells #[.string ⟨d.t.toArray⟩,.int .i64 d.at',.iface T vt] 197)],(Qg hx1).trans ((Qg hx2).trans (Qg hx4)),rfl,hr4,?_,?_⟩⟩
 ·show _∈_
  simp only [Q0C,Hvt.out,List.mem_singleton]
 ·intro p hp
  simp only [List.mem_singleton] at hp
  subst hp
  exact ⟨HV.out,fun hm=>by have:=hX2 _ hm;simp at this⟩
def constant (text:ByteArray) (at':Nat):PM DefL:=bnd (Q1B at') fun _=>bnd (Q1j text) fun n=>bnd (QS text [61]) fun _=>
 bnd (value text (Q14 (-2147483648) 4294967295)) fun q=>bnd (QS text [59]) fun _=>ret (.const n.1 n.2 q.1)
theorem Qbi {A:Ad} {text:ByteArray} {σ:St} (at':Nat) {w:World} (h:Rd A text σ w) :
  Calls Tryz.prog 86 #[.pointer (some ⟨A.R,0,none⟩),.int .i64 at'] w (QC [A.R,A.S,A.N] A text w (constant text at' σ)):=by
 have hmf:∀ (fn:Fn) (first cap:Array Value) (w:World),(Instr.makeFunc fn first cap).run Tryz.prog w = .ok (.func fn first cap) w:=fun _ _ _ _=>rfl
 go_enter Tryz.func86,Tryz.ntmps86
 go_wp2_with fail
 refine (Q7h at' h).mono ?_
 rintro e w1 ⟨hk1,⟨u,σ1,hx1,rfl,hr1⟩ | ⟨f,hx1,b,hbb,rfl,hcell⟩⟩
 rotate_left
 ·exact Qb (QC.throws (hk1.mono (by simp)) (Qa.refl [] _) (Qq hx1) hbb hcell)
 have hK1:=hk1.mono (M':=[A.R,A.S,A.N]) (by simp)
 clear hk1
 go_wp2_with fail
 refine (Q3c hr1).mono ?_
 rintro e w2 ⟨hk2,⟨n,σ2,hx2,rfl,hr2⟩ | ⟨f,hx2,b,hbb,rfl,hcell⟩⟩
 rotate_left
 ·exact Qb (QC.throws (hK1.trans (hk2.mono (by simp))) hK1 ((Qg hx1).trans (Qq hx2)) hbb hcell)
 have hK2:=hK1.trans (hk2.mono (M':=[A.R,A.S,A.N]) (by simp))
 clear hk2 hK1
 dsimp only [Q1x]
 have hX2:=hr2.old
 have hlS:=hr2.lt.2.1
 have hr3:=hr2.own (.cells #[.string ⟨n.1.toArray⟩,.int .i64 n.2,.int .i64 0] 272)
 have hv:=Qi (w:=w2) (o:=.cells #[.string ⟨n.1.toArray⟩,.int .i64 n.2,.int .i64 0] 272) rfl
 have hK3:=hK2.alloc (.cells #[.string ⟨n.1.toArray⟩,.int .i64 n.2,.int .i64 0] 272)
 have hne:w2.heap.size ∉ [A.S]:=by simp;omega
 go_wp2_with fail
 refine (Q08 (Same.add A _) _ hr3).mono ?_
 rintro e w4 ⟨hk4,⟨x4,σ4,hx4,rfl,hr4⟩ | ⟨f,hx4,b,hbb,rfl,hcell⟩⟩
 rotate_left
 ·exact Qb (QC.throws (hK3.trans (hk4.mono (by simp))) hK3 ((Qg hx1).trans ((Qg hx2).trans (Qq hx4))) hbb hcell)
 have hv4:=(hk4.block _ (Qc hv) hne).trans hv
 have hK4:=hK3.trans (hk4.mono (M':=[A.R,A.S,A.N]) (by simp))
 clear hk4 hv hK3 hr3
 go_wp2_with fail
 refine (Q2R _ _ _).mono ?_
 rintro e w5 ⟨v,rfl,hb5,hfit⟩
 have hf5:=hfit (A.add w2.heap.size).X hr4.old
 have hr5:=hr4.below hb5
 have hv5:=(hb5.block _ (Qc hv4)).trans hv4
 have hK5:=hK4.trans (Qa.of_below _ hb5)
 clear hfit hb5 hv4 hK4 hr4
 go_wp2_with fail
 refine (Q8m (Same.add A _) hr5 hf5).mono ?_
 rintro e w6 ⟨hk6,⟨q,σ6,hx6,rfl,hr6⟩ | ⟨f,hx6,b,hbb,rfl,hcell⟩⟩
 rotate_left
 ·exact Qb (QC.throws (hK5.trans (hk6.mono (by simp))) hK5 ((Qg hx1).trans ((Qg hx2).trans ((Qg hx4).trans (Qq hx6)))) hbb hcell)
 have hv6:=(hk6.block _ (Qc hv5) hne).trans hv5
 have hK6:=hK5.trans (hk6.mono (M':=[A.R,A.S,A.N]) (by simp))
 clear hk6 hv5 hK5 hr5 hf5
 obtain ⟨k0,k1,k2,hfrK⟩:=Q0h hv6
 dsimp only [Q8P]
 have hv7:=QB (i:=2) hv6 (.int .i64 q.1)
 have hr7:=Rd.setNew (A':=A.add w2.heap.size) hr2 ⟨rfl,rfl,rfl,rfl⟩ hr6 (p:=⟨w2.heap.size,2,none⟩) (Nat.le_refl _) (by simp [Ad.add]) (.int .i64 q.1)
 have hK7:=hK6.setNew (p:=⟨w2.heap.size,2,none⟩) (Nat.le_of_lt_succ (Nat.lt_succ_of_le hK2.size)) (.int .i64 q.1)
 have HV7:=Hid.mk hv7
 clear hv7
 go_wp2_with fail
 refine (Q08 (Same.add A _) _ hr7).mono ?_
 rintro e w8 ⟨hk8,⟨x8,σ8,hx8,rfl,hr8⟩ | ⟨f,hx8,b,hbb,rfl,hcell⟩⟩
 rotate_left
 ·exact Qb (QC.throws (hK7.trans (hk8.mono (by simp))) hK7 ((Qg hx1).trans ((Qg hx2).trans ((Qg hx4).trans ((Qg hx6).trans (Qq hx8))))) hbb hcell)
 have HV8:=Hid.mk ((hk8.block _ (Qc HV7.out) hne).trans HV7.out)
 go_wp2
 go_ret
 refine ⟨hK7.trans (hk8.mono (by simp)),Or.inl ⟨.const n.1 n.2 q.1,σ8,w2.heap.size,[(w2.heap.size,.cells #[.string ⟨n.1.toArray⟩,.int .i64 n.2,.int .i64 q.1] 272)],(Qg hx1).trans ((Qg hx2).trans ((Qg hx4).trans ((Qg hx6).trans (Qg hx8)))),rfl,Rd.drop hr2.mine hr8,?_,?_⟩⟩
 ·show _∈_
  simp
 ·intro p hp
  simp only [List.mem_singleton] at hp
  subst hp
  exact ⟨HV8.out,fun hm=>by have:=hX2 _ hm;simp at this⟩
theorem Q6q {τ:Type} {C:Q0e τ} {A' A:Ad} (hA:Same A' A) {text:ByteArray} {σ:St} {t:τ} {w:World} (hC:Q22 C A' text) (h:Rd A' text σ w) (hi:C.I t w) (hh:Held A'.X C.bs w) :
  Calls Tryz.prog 125 #[.pointer (some ⟨A.R,0,none⟩),.func (.func C.f) C.pre C.post] w (QP (A.S :: C.M) A' text w (decl text C t σ) Q2S C.I):=by
 have:=Q60 hC h hi hh
 rw [hA.1,hA.2.1] at this
 exact this
def armK {τ:Type} (text:ByteArray) (C:Q0e τ) (y:Bool):PX τ Qk:=if y then retx ⟨[],0,.void⟩ else decl text C
def arm {τ:Type} (text:ByteArray) (C:Q0e τ):PX τ Qk:=bndx (bndx (lift (Q0B text [118,111,105,100])) (armK text C)) fun d=>bndx (lift (QS text [59])) fun _=>retx d
theorem QhC {b:Nat} {k t n k' t' n':Value} {T:TypeId} {fr:Nat×Nat} {w:World} (h:w.heap[b]? = some (.cells #[k,t,n] T fr)) :
  (((w.setCell ⟨b,0,none⟩ k').setCell ⟨b,1,none⟩ t').setCell ⟨b,2,none⟩ n').heap[b]? = some (.cells #[k',t',n'] T fr):=by
 have h1:=QB (i:=0) h k'
 have h2:=QB (i:=1) h1 t'
 have h3:=QB (i:=2) h2 n'
 exact h3
theorem Mid.put3 {τ:Type} {C:Q0e τ} {A:Ad} {text:ByteArray} {w u:World} {a b c:Value} {T:TypeId} {t:τ} {σ0 σ:St} (m:Mid C A text w (.cells #[a,b,c] T) t σ u) (hC:Q22 C A text) (h0:Rd A text σ0 w) (v0 v1 v2:Value) :
  Mid C A text w (.cells #[v0,v1,v2] T) t σ (((u.setCell ⟨w.heap.size,0,none⟩ v0).setCell ⟨w.heap.size,1,none⟩ v1).setCell ⟨w.heap.size,2,none⟩ v2) where
 k:=((m.k.setNew (Nat.le_refl _) _).setNew (Nat.le_refl _) _).setNew (Nat.le_refl _) _
 r:=by
  have hs:=fun {u:World} (hu:Rd (A.add w.heap.size) text σ u) (i:Nat) (v:Value)=>Rd.setNew (A':=A.add w.heap.size) h0 ⟨rfl,rfl,rfl,rfl⟩ hu (p:=⟨w.heap.size,i,none⟩) (Nat.le_refl _) (by simp [Ad.add]) v
  exact hs (hs (hs m.r 0 _) 1 _) 2 _
 i:=Q1O hC (fun hm=>by have:=h0.old _ (hC.inX _ hm);omega) m.i _ _ _
 h:=m.h.keeps ((((Qa.refl [w.heap.size] u).setIn (p:=⟨w.heap.size,0,none⟩) (by simp) _).setIn (p:=⟨w.heap.size,1,none⟩) (by simp) _).setIn (p:=⟨w.heap.size,2,none⟩) (by simp) _) (by simp [Ad.add])
 d:=QhC m.d
theorem QhD {τ:Type} {C:Q0e τ} {A:Ad} {text:ByteArray} {σ:St} {t:τ} {w:World} (hC:Q22 C A text) (h:Rd A text σ w) (hi:C.I t w) (hh:Held A.X C.bs w) :
  Calls Tryz.prog 134 #[.pointer (some ⟨A.R,0,none⟩),.func (.func C.f) C.pre C.post] w (QP (A.S :: C.M) A text w (arm text C t σ) Q2S C.I):=by
 have hwM:w.heap.size ∉ C.M:=fun hm=>by have:=h.old _ (hC.inX _ hm);omega
 have hS:=h.lt.2.1
 have m0:=Mid.start hC h hi hh (.cells #[.string ⟨#[]⟩,.int .i64 0,.nilIface] 195)
 have hC1:=hC.add w.heap.size
 have n0:=Mid.start hC1 m0.r m0.i m0.h (.cells #[.string ⟨#[]⟩,.int .i64 0,.iface 340 (.agg #[])] 195)
 have k0:=m0.k
 have hD:(w.alloc (.cells #[.string ⟨#[]⟩,.int .i64 0,.nilIface] 195)).heap[w.heap.size]? = _:=m0.d
 have hr0:=m0.r
 clear m0
 go_enter Tryz.func134,Tryz.ntmps134
 go_wp2_with fail
 have hneD:w.heap.size ∉ A.S :: C.M:=by
  simp only [List.mem_cons,not_or]
  exact ⟨by omega,hwM⟩
 have hA2:Same ((A.add w.heap.size).add (w.alloc (.cells #[.string ⟨#[]⟩,.int .i64 0,.nilIface] 195)).heap.size) A:=⟨rfl,rfl,rfl,rfl⟩
 refine (Q2v hA2 _ n0.r).mono ?_
 rintro e w1 ⟨hk1,⟨y1,σ1,hx1,rfl,hr1⟩ | ⟨f,hx1,b,hbb,rfl,hcell⟩⟩
 rotate_left
 ·exact Qb (QP.throws ((k0.trans n0.k).trans (hk1.mono (by simp))) (k0.trans n0.k) (Ql (Ql (Qv hx1))) hbb hcell)
 have n1:=n0.scan hC1 hr0 hk1 hr1
 clear n0 hk1 hr1
 have hsz:(w.alloc (.cells #[.string ⟨#[]⟩,.int .i64 0,.nilIface] 195)).heap.size=w.heap.size + 1:=by simp
 cases y1 with
 | true=>
  have E1:Hid (bndx (lift (Q0B text [118,111,105,100])) (armK text C) t σ = retx ⟨[],0,.void⟩ t σ1):=Qh (Qj hx1)
  go_wp2_with fail
  refine (Q08 hA2 _ n1.r).mono ?_
  rintro e w2 ⟨hk2,⟨x2,σ2,hx2,rfl,hr2⟩ | ⟨f,hx2,b,hbb,rfl,hcell⟩⟩
  rotate_left
  ·exact Qb (QP.throws ((k0.trans n1.k).trans (hk2.mono (by simp))) (k0.trans n1.k) ((Qh (E1.out.trans rfl)).trans (Ql (Qv hx2))) hbb hcell)
  have n2:=n1.scan hC1 hr0 hk2 hr2
  clear n1 hk2 hr2
  have hD2:=(n2.k.block _ (Qc hD) hneD).trans hD
  obtain ⟨r0,r1,r2,hfrR⟩:=Q0h hD2
  obtain ⟨q0,q1,q2,_⟩:=Q0h n2.d
  rw [hsz] at q0 q1 q2
  have HN2:=Hid.mk n2
  clear n2
  go_wp2
  obtain ⟨f1,f2⟩:=fin3 h (k0.trans HN2.out.k) (Rd.drop hr0.mine HN2.out.r) (.string ⟨#[]⟩) (.int .i64 0) (.iface 340 (.agg #[]))
  refine bodyPost_ret (v:=.agg #[.string ⟨#[]⟩,.int .i64 0,.iface 340 (.agg #[])]) (by simp [results,Tryz.results134,go_sem,r0,r1,r2]) rfl (QP.ok (a:=⟨[],0,.void⟩) (t:=t) f1 ((Qh (E1.out.trans rfl)).trans (Qh (Qj hx2))) (rfl) f2 ?_)
  exact Q1O hC hwM HN2.out.i _ _ _
 | false=>
  go_wp2_with fail
  refine (Q6q hA2 (hC1.add _) n1.r n1.i n1.h).mono ?_
  rintro e w3 ⟨hk3,⟨d,t3,σ3,hx3,rfl,hr3,hi3⟩ | ⟨f,hx3,b,hbb,rfl,hcell⟩⟩
  rotate_left
  ·exact Qb (QP.throws ((k0.trans n1.k).trans hk3) (k0.trans n1.k) (Ql ((Qh (Qj hx1)).trans hx3)) hbb hcell)
  have E1:Hid (bndx (lift (Q0B text [118,111,105,100])) (armK text C) t σ = .ok (d,t3,σ3)):=(Qh (Qj hx1)).trans hx3
  have n3:=n1.claimed hC1 hr0 hk3 hr3 hi3
  clear n1 hk3 hr3 hi3
  obtain ⟨T,vt,Hvt⟩:∃ T vt,Hid (tyV d.ty = .iface T vt):=by cases d.ty<;>exact ⟨_,_,rfl⟩
  have n4:=n3.put3 hC1 hr0 (.string ⟨d.t.toArray⟩) (.int .i64 d.at') (.iface T vt)
  obtain ⟨q0,q1,q2,hfq⟩:=Q0h n3.d
  rw [hsz] at q0 q1 q2 hfq
  rw [hsz] at n4
  have HN4:=Hid.mk n4
  clear n3 n4
  dsimp only [Q2S]
  rw [Hvt.out]
  go_wp2_with fail
  refine (Q08 hA2 _ HN4.out.r).mono ?_
  rintro e w2 ⟨hk2,⟨x2,σ2,hx2,rfl,hr2⟩ | ⟨f,hx2,b,hbb,rfl,hcell⟩⟩
  rotate_left
  ·exact Qb (QP.throws ((k0.trans HN4.out.k).trans (hk2.mono (by simp))) (k0.trans HN4.out.k) ((Qh E1.out).trans (Ql (Qv hx2))) hbb hcell)
  have n2:=HN4.out.scan hC1 hr0 hk2 hr2
  clear hk2 hr2 q0 q1 q2 hfq
  have hD2:=(n2.k.block _ (Qc hD) hneD).trans hD
  obtain ⟨r0,r1,r2,hfrR⟩:=Q0h hD2
  obtain ⟨q0,q1,q2,_⟩:=Q0h n2.d
  rw [hsz] at q0 q1 q2
  have HN2:=Hid.mk n2
  clear n2
  go_wp2
  obtain ⟨f1,f2⟩:=fin3 h (k0.trans HN2.out.k) (Rd.drop hr0.mine HN2.out.r) (.string ⟨d.t.toArray⟩) (.int .i64 d.at') (.iface T vt)
  refine bodyPost_ret (v:=.agg #[.string ⟨d.t.toArray⟩,.int .i64 d.at',.iface T vt]) (by simp [results,Tryz.results134,go_sem,r0,r1,r2]) rfl (QP.ok (a:=d) (t:=t3) f1 ((Qh E1.out).trans (Qh (Qj hx2))) (by simp only [Q2S,Hvt.out]) f2 ?_)
  exact Q1O hC hwM HN2.out.i _ _ _
theorem QhE {P:Program} {w:World} {T kt et:TypeId} {d:TypeDesc} (ht:P.underlying T=some (.map kt et)) (hd:P.underlying kt=some d) {s:ByteArray} (hk:IsKey d (.string s)) {N:Nat} {es:Array MapEntry} {clock:Nat}
  (hb:w.heap[N]? = some (.map es clock)) (hes:∀ x∈es.toList,IsKey d x.key) (hin:∃ x∈es.toList,x.key = .string s) (v:Value) :
  ∃ (j:Nat) (e:MapEntry),es.toList[j]? = some e∧e.key = .string s ∧
   (Instr.mapUpdate T (.map (some N)) (.string s) v).run P w = .ok () (Q09 w N (.map (es.modify j fun e=>{ e with key:=.string s,val:=v }) clock)):=by
 have hck:=fun b=>MapKept.run_checkKey (w:=w) hd hk b 9999
 rcases findNow_spec hk es.toList 0 hes with ⟨h1,h2⟩ | ⟨j,e,h1,h2,h3⟩
 ·obtain ⟨x,hx,hxk⟩:=hin
  exact absurd hxk (h2 x hx)
 ·refine ⟨j,e,h2,h3,?_⟩
  have hj:es[j]? = some e:=by simpa using h2
  have hst:Instr.keyThatStays (.string s) (.string s)=pure (.string s):=by
   unfold Instr.keyThatStays
   rw [if_pos (by show (s == s)=true;exact (MapKept.bytes_beq s s).2 rfl)]
  simp [Instr.mapUpdate,Instr.findKey,run_underlying ht,run_underlying hd,MapKept.run_getObj_map hb,hck,h1,hj,h3,hst,MapKept.run_setObj_map _ hb,Result.andThen]
def Q0b (l:List (List UInt8×Option DefL)) (k:List UInt8) (d:DefL):List (List UInt8×Option DefL):=l.map fun p=>if p.1 == k then (p.1,some d) else p
theorem Qbj (l:List (List UInt8×Option DefL)) (k:List UInt8) (d:DefL):(Q0b l k d).map (·.1)=l.map (·.1):=by
 unfold Q0b
 rw [List.map_map]
 apply List.map_congr_left
 intro p _
 show (if p.1 == k then (p.1,some d) else p).1=p.1
 split<;>rfl
theorem Q8q {α:Type} {l:List (List UInt8×α)} {k:List UInt8} {o:α} (h:look l k=some o):∃ p∈l,p.1=k∧p.2=o:=by
 unfold look at h
 cases hf:l.find? (fun p=>p.1 == k) with
 | none=>rw [hf] at h;cases h
 | some p=>
  rw [hf] at h
  exact ⟨p,List.mem_of_find?_eq_some hf,by simpa using List.find?_some hf,by simpa using h⟩
theorem Q4Y {α:Type} {l:List α} (h:l.Nodup) (i j:Nat) (hi:i < l.length) (hj:j < l.length) (e:l[i]=l[j]):i=j:=by
 have hp:=List.pairwise_iff_getElem.1 h
 rcases Nat.lt_trichotomy i j with hl | hl | hl
 ·exact absurd e (hp i j hi hj hl)
 ·exact hl
 ·exact absurd e.symm (hp j i hj hi hl)
theorem Q1H.mono {bs bs':List (Nat×Obj)} {v:Value} {o:Option DefL} (hb:∀ p∈bs,p∈bs') (h:Q1H bs v o):Q1H bs' v o:=by
 have hc:∀ b m,Q5p bs b m→Q5p bs' b m:=fun b m hm=>hb _ hm
 have hs:∀ e v n xs,Q0j bs e v n xs→Q0j bs' e v n xs:=by
  intro e v n xs hs
  rcases hs with hs | ⟨g,cap,cur,h1,h2,h3,h4⟩
  ·exact Or.inl hs
  ·exact Or.inr ⟨g,cap,cur,h1,h2,hb _ h3,h4⟩
 cases o with
 | none=>exact h
 | some d=>
  obtain ⟨b,hv,hd⟩:=h
  refine ⟨b,hv,?_⟩
  cases d with
  | const t a v=>exact hc _ _ hd
  | typedef d=>exact hb _ hd
  | enum t a ms=>obtain ⟨sl,ps,h1,h2,h3,h4⟩:=hd;exact ⟨sl,ps,hb _ h1,h2,hs _ _ _ _ h3,fun i h h'=>hc _ _ (h4 i h h')⟩
  | struct t a ms=>obtain ⟨sl,h1,h2⟩:=hd;exact ⟨sl,hb _ h1,hs _ _ _ _ h2⟩
  | union t a sel arms=>obtain ⟨sl,cs,h1,h2,h3,h4⟩:=hd;exact ⟨sl,cs,hb _ h1,h2,hs _ _ _ _ h3,fun i h h'=>hs _ _ _ _ (h4 i h h')⟩
  | prog t a vs num=>obtain ⟨sl,cs,h1,h2,h3,h4⟩:=hd;exact ⟨sl,cs,hb _ h1,h2,hs _ _ _ _ h3,fun i h h'=>hs _ _ _ _ (h4 i h h')⟩
theorem Q1w.set {X:List Nat} {N:Nat} {l:List (List UInt8×Option DefL)} {w:World} (h:Q1w X N l w) (hX:N∈X) {k:List UInt8} {o:Option DefL} (hn:look l k=some o)
  {d:DefL} {b:Nat} {bs':List (Nat×Obj)} (hd:Q0d bs' b d) (hh:Held X bs' w) :
  ∃ ob,(Instr.mapUpdate 104 (.map (some N)) (.string ⟨k.toArray⟩) (.iface (defT d) (.pointer (some ⟨b,0,none⟩)))).run Tryz.prog w = .ok () (Q09 w N ob)∧Q1w X N (Q0b l k d) (Q09 w N ob):=by
 obtain ⟨nd,bs,vs,h1,h2,h3,h4⟩:=h
 have hlt:=Qc h3
 obtain ⟨p,hp,hpk,_⟩:=Q8q hn
 obtain ⟨i,hi,rfl⟩:=List.getElem_of_mem hp
 have hi':i < vs.length:=by omega
 have hes:=Q3F (l.zip vs |>.map fun p=>(p.1.1,p.2))
 obtain ⟨j,e,g1,g2,hrun⟩:=QhE (P:=Tryz.prog) (T:=104) (kt:=9) (et:=113) (d:=.string) (by kernel_rfl) (by kernel_rfl) (s:=⟨k.toArray⟩) trivial h3 (by simpa using hes)
  ⟨⟨.string ⟨l[i].1.toArray⟩,vs[i],i⟩,by
   simp only
   rw [List.mem_mapIdx]
   exact ⟨i,by simp;omega,by simp⟩,by simp [hpk]⟩ (.iface (defT d) (.pointer (some ⟨b,0,none⟩)))
 simp only [List.getElem?_mapIdx] at g1
 have hj:j < l.length:=by
  by_cases hj:j < l.length
  ·exact hj
  ·rw [List.getElem?_eq_none (by simp;omega)] at g1
   cases g1
 rw [List.getElem?_eq_getElem (by simp;omega)] at g1
 simp at g1
 subst g1
 simp at g2
 have hij:i=j:=by
  have hq:(l.map (·.1))[i]'(by simpa using hi)=(l.map (·.1))[j]'(by simpa using hj):=by simp [hpk,g2]
  exact Q4Y nd _ _ _ _ hq
 subst hij
 refine ⟨_,hrun,?_,bs++bs',vs.set i (.iface (defT d) (.pointer (some ⟨b,0,none⟩))),?_,?_,?_,?_⟩
 ·rw [Qbj];exact nd
 ·intro p hp
  rcases List.mem_append.1 hp with hp | hp
  ·exact (h1.keeps (Q0a _ _ _) (by simpa using hX)) p hp
  ·exact (hh.keeps (Q0a _ _ _) (by simpa using hX)) p hp
 ·simp [Q0b,h2]
 ·rw [Q1t hlt]
  unfold Q3W
  have hlen:(List.map (fun p:(List UInt8×Option DefL)×Value=>(p.1.1,p.2)) ((Q0b l k d).zip (vs.set i (.iface (defT d) (.pointer (some ⟨b,0,none⟩)))))).length=(List.map (fun p:(List UInt8×Option DefL)×Value=>(p.1.1,p.2)) (l.zip vs)).length:=by simp [Q0b]
  rw [hlen]
  refine congrArg (fun a=>some (Obj.map a _)) ?_
  apply Array.ext'
  simp only [Array.toList_modify]
  apply List.ext_getElem
  ·simp [Q0b]
  ·intro m hm1 hm2
   have hm:m < l.length:=by simp at hm2;omega
   by_cases hmi:i=m
   ·subst hmi
    simp [Q0b,List.getElem_modify,hpk]
   ·have hne:¬ l[m].1=k:=fun e=>hmi (Q4Y nd i m (by simpa using hi) (by simpa using hm) (by simp [hpk,e]))
    simp [Q0b,List.getElem_modify,hmi,List.getElem_set,hne]
 ·intro m hm hm'
  have hml:m < l.length:=by simp [Q0b] at hm;exact hm
  by_cases hmi:i=m
  ·subst hmi
   have e1:(Q0b l k d)[i].2=some d:=by simp [Q0b,hpk]
   rw [e1,List.getElem_set_self]
   exact Q1H.mono (fun p hp=>List.mem_append_right _ hp) (show Q1H bs' _ (some d) from ⟨b,rfl,hd⟩)
  ·have hne:¬ l[m].1=k:=fun e=>hmi (Q4Y nd i m (by simpa using hi) (by simpa using hml) (by simp [hpk,e]))
   have e1:(Q0b l k d)[m].2=l[m].2:=by simp [Q0b,hne]
   rw [e1,List.getElem_set_ne hmi]
   exact Q1H.mono (fun p hp=>List.mem_append_left _ hp) (h4 m hml (by omega))
def Q0O {α:Type} (m:PM α):Prop:=∀ σ a σ',m σ = .ok (a,σ')→σ'.names = σ.names
theorem Q0O.bnd {α β:Type} {m:PM α} {k:α→PM β} (hm:Q0O m) (hk:∀ a,Q0O (k a)):Q0O (bnd m k):=by
 intro σ b σ' h
 cases hx:m σ with
 | error f=>rw [Qq hx] at h;cases h
 | ok p=>
  obtain ⟨a,σ1⟩:=p
  rw [Qg hx] at h
  rw [hk a _ _ _ h,hm _ _ _ hx]
theorem Q0O.ret {α:Type} (a:α):Q0O (ret a):=by
 intro σ b σ' h
 simp only [Go.Proofs.YtmbcibgknckenaaGreatDoor.ret,Except.ok.injEq,Prod.mk.injEq] at h
 rw [← h.2]
theorem Q0O.thr {α:Type} (no at':Nat):Q0O (thr (α:=α) no at'):=fun σ b σ' h=>by cases h
theorem Q0O.ite {α:Type} {c:Prop} [Decidable c] {m m':PM α} (h:Q0O m) (h':Q0O m'):Q0O (if c then m else m'):=by split<;>assumption
theorem Q8Q (text:ByteArray):Q0O (next text):=by
 intro σ a σ' h
 unfold next at h
 split at h
 ·simp only [Except.ok.injEq,Prod.mk.injEq] at h;rw [← h.2]
 ·cases h
theorem Qbk (text:ByteArray) (t:List UInt8):Q0O (QS text t):=(Q8Q text).bnd fun x=>Q0O.ite (Q0O.ret _) (Q0O.thr _ _)
theorem Q8r (x:Mar.Word):Q0O (Q0v x):=by
 intro σ a σ' h
 unfold Q0v at h
 split at h
 ·simp only [Except.ok.injEq,Prod.mk.injEq] at h;rw [← h.2]
 ·cases h
theorem Qaw (x:Mar.Word):Q0O (Q1i x):=
 Q0O.ite (Q0O.ret _) (Q0O.ite (Q8r x) (Q0O.ite (Q0O.ret _) (Q0O.ite (Q0O.ret _) (Q0O.thr _ _))))
theorem QcH (text:ByteArray) (p:Int→Bool):Q0O (value text p):=(Q8Q text).bnd fun x=>(Qaw x).bnd fun n=>Q0O.ite (Q0O.ret _) (Q0O.thr _ _)
theorem Qbl {text:ByteArray} {p:Int→Bool} {l l':List (Int×Int)} {σ σ':St} {n:Int} (h:number text p l σ = .ok (n,l',σ')):σ'.names = σ.names:=by
 unfold number at h
 cases hx:value text p σ with
 | error f=>rw [Ql (Qv hx)] at h;cases h
 | ok q=>
  obtain ⟨q,σ1⟩:=q
  rw [Qh (Qj hx)] at h
  cases hc:Q2f q.1 q.2 l ⟨6,q.2⟩ with
  | error f=>rw [Ql (Q4v hc)] at h;cases h
  | ok l1=>
   rw [Qh (Q4u hc)] at h
   simp only [retx,Except.ok.injEq,Prod.mk.injEq] at h
   rw [← h.2.2]
   exact QcH text p _ _ _ hx
theorem Qbm {text:ByteArray} {σ σ':St} {n:List UInt8×Nat} (h:Q1j text σ = .ok (n,σ')):look σ'.names n.1=some none:=by
 unfold Q1j bare name at h
 cases hx:next text σ with
 | error f=>rw [Ql (Qv hx)] at h;cases h
 | ok q=>
  obtain ⟨x,σ1⟩:=q
  rw [Qh (Qj hx)] at h
  by_cases hk:((x.kind:Int) == 1)=true
  ·rw [if_pos hk] at h
   cases hl:look σ1.names x.text with
   | none=>
    have hd:Q18 x σ1 = .ok ((),{ σ1 with names:=σ1.names++[(x.text,none)] }):=by simp only [Q18,hl]
    rw [Qh (show (Q0U noAd).run x () σ1=_ from Qj hd)] at h
    simp only [retx,Except.ok.injEq,Prod.mk.injEq] at h
    obtain ⟨rfl,rfl⟩:=h
    unfold look at hl ⊢
    have hf:σ1.names.find? (fun p=>p.1 == x.text)=none:=by
     cases hh:σ1.names.find? (fun p=>p.1 == x.text) with
     | none=>rfl
     | some p=>rw [hh] at hl;cases hl
    simp [List.find?_append,hf]
   | some o=>
    have hd:Q18 x σ1 = .error ⟨6,x.at'⟩:=by simp only [Q18,hl]
    rw [Ql (show (Q0U noAd).run x () σ1=_ from Qv hd)] at h
    cases h
  ·rw [if_neg hk] at h
   cases h
def Q0P (n most at':Nat):PM Unit:=fun σ=>if most≤n then .error ⟨5,at'⟩ else .ok ((),σ)
def QaZ (k:List UInt8) (d:DefL):PM Unit:=fun σ=>.ok ((),{ σ with names:=Q0b σ.names k d })
def Q1R (text:ByteArray) (n:Nat):PX (List (Int×Int)) (List UInt8×Nat×Int):=
 bndx (lift (peek text)) fun x=>bndx (lift (Q0P n 12 x.at')) fun _=>bndx (lift (Q1B x.at')) fun _=>bndx (lift (Q1j text)) fun m=>bndx (lift (QS text [61])) fun _=>
  bndx (number text (Q14 (-2147483648) 2147483647)) fun v=>bndx (lift (QaZ m.1 (.const m.1 m.2 v))) fun _=>retx (m.1,m.2,v)
def Q1K (m:List UInt8×Nat×Int):Obj:=.cells #[.string ⟨m.1.toArray⟩,.int .i64 m.2.1,.int .i64 m.2.2] 272
def Q3N (M:List Nat) (A:Ad) (text:ByteArray) (w:World) (q:Nat) (r:Except Mar.Fault ((List UInt8×Nat×Int)×List (Int×Int)×St)) (e:Ending) (w':World):Prop:=
 Qa M w w'∧((∃ m l' σ' b,r = .ok (m,l',σ')∧e = .returned (.pointer (some ⟨b,0,none⟩))∧Rd A text σ' w'∧QV q l' w'∧Held A.X [(b,Q1K m)] w')∨(∃ f,r = .error f∧Q0A w f.no f.at' e w'))
theorem Q3N.throws {M M':List Nat} {A:Ad} {text:ByteArray} {w w1 w':World} {q:Nat} {r:Except Mar.Fault ((List UInt8×Nat×Int)×List (Int×Int)×St)} {f:Mar.Fault} {b:Nat}
  (hk:Qa M w w') (hk1:Qa M' w w1) (hr:r = .error f) (hb:w1.heap.size≤b) (hc:w'.heap[b]? = some (.cells #[.int .i64 f.no,.int .i64 f.at'] 83)) :
  Q3N M A text w q r (.panicked [{ v:=.iface 79 (.pointer (some ⟨b,0,none⟩)),recovered:=false }]) w':=
 ⟨hk,Or.inr ⟨f,hr,b,Nat.le_trans hk1.size hb,rfl,hc⟩⟩
theorem Free.add {A:Ad} {q:Nat} (h:Free A q) (b:Nat):Free (A.add b) q:=⟨List.mem_cons_of_mem _ h.1,h.2⟩
theorem Qa2 {A' A:Ad} (hA:Same A' A) {text:ByteArray} {σ:St} {v:Value} {p:Int→Bool} {q:Nat} {l:List (Int×Int)} {w:World} (h:Rd A' text σ w) (hf:Fits A'.X v p w) (hq:Free A' q) (hn:QV q l w) :
  Calls Tryz.prog 163 #[.pointer (some ⟨A.R,0,none⟩),.map (some q),v] w (QP [A.S,q] A' text w (number text p l σ) intV (QV q)):=by
 obtain ⟨a1,a2,a3,a4⟩:=hA
 rw [← a1,← a2]
 exact Q8b h hf hq hn
theorem Qea {A:Ad} {text:ByteArray} {σ:St} (n:Nat) {q:Nat} {l:List (Int×Int)} {w:World} (h:Rd A text σ w) (hq:Free A q) (hn:QV q l w) :
  Calls Tryz.prog 127 #[.pointer (some ⟨A.R,0,none⟩),.int .i64 n,.map (some q)] w (Q3N [A.R,A.S,A.N,q] A text w q (Q1R text n l σ)):=by
 have hmf:∀ (fn:Fn) (first cap:Array Value) (w:World),(Instr.makeFunc fn first cap).run Tryz.prog w = .ok (.func fn first cap) w:=fun _ _ _ _=>rfl
 obtain ⟨c0,c1,c2,c3,c4,hfr⟩:=h.cells
 have hft:=Qbd
 have hqS:q ∉ [A.S]:=by simp;exact hq.2.2.1
 go_enter Tryz.func127,Tryz.ntmps127
 go_wp2_with fail
 refine (Q6G h).mono ?_
 rintro e w1 ⟨hk1,⟨x,σ1,hx1,rfl,hr1⟩ | ⟨f,hx1,b,hbb,rfl,hcell⟩⟩
 rotate_left
 ·exact Qb (Q3N.throws (hk1.mono (by simp)) (Qa.refl [] _) (Ql (Qv hx1)) hbb hcell)
 have hn1:=hn.keeps hk1 hqS
 have hK1:=hk1.mono (M':=[A.R,A.S,A.N,q]) (by simp)
 clear hk1
 dsimp only [Q00]
 go_wp2_with fail
 by_cases hfi:(12:Nat)≤n
 ·refine (Q3k _ _ _ _ (by omega)).mono ?_
  rintro e w2 ⟨⟨b,hbb,rfl,hcell⟩,hb⟩
  exact Qb (Q3N.throws (f:=⟨5,x.at'⟩) (hK1.trans (Qa.of_below _ hb)) hK1 ((Qh (Qj hx1)).trans (Ql (Qv (show Q0P n 12 x.at' σ1=_ from if_pos hfi)))) hbb hcell)
 have hx2:Q0P n 12 x.at' σ1 = .ok ((),σ1):=if_neg hfi
 refine (Q4t _ _ _ _ (by omega)).mono ?_
 rintro e w2 ⟨rfl,rfl⟩
 go_wp2_with fail
 refine (Q7h x.at' hr1).mono ?_
 rintro e w2 ⟨hk2,⟨u,σ2,hx3,rfl,hr2⟩ | ⟨f,hx3,b,hbb,rfl,hcell⟩⟩
 rotate_left
 ·exact Qb (Q3N.throws (hK1.trans (hk2.mono (by simp))) hK1 ((Qh (Qj hx1)).trans ((Qh (Qj hx2)).trans (Ql (Qv hx3)))) hbb hcell)
 have hn2:=hn1.keeps hk2 (by simp;exact hq.2.1)
 have hK2:=hK1.trans (hk2.mono (M':=[A.R,A.S,A.N,q]) (by simp))
 clear hk2 hK1 hn1
 go_wp2_with fail
 refine (Q3c hr2).mono ?_
 rintro e w3 ⟨hk3,⟨m,σ3,hx4,rfl,hr3⟩ | ⟨f,hx4,b,hbb,rfl,hcell⟩⟩
 rotate_left
 ·exact Qb (Q3N.throws (hK2.trans (hk3.mono (by simp))) hK2 ((Qh (Qj hx1)).trans ((Qh (Qj hx2)).trans ((Qh (Qj hx3)).trans (Ql (Qv hx4))))) hbb hcell)
 have hn3:=hn2.keeps hk3 (by simp;exact ⟨hq.2.2.1,hq.2.2.2.1⟩)
 have hK3:=hK2.trans (hk3.mono (M':=[A.R,A.S,A.N,q]) (by simp))
 clear hk3 hK2 hn2
 dsimp only [Q1x]
 have hX3:=hr3.old
 have hlS:=hr3.lt.2.1
 have hlq:=Qc hn3
 have hr4:=hr3.own (.cells #[.string ⟨m.1.toArray⟩,.int .i64 m.2,.int .i64 0] 272)
 have hv:=Qi (w:=w3) (o:=.cells #[.string ⟨m.1.toArray⟩,.int .i64 m.2,.int .i64 0] 272) rfl
 have hn4:QV q l (w3.alloc (.cells #[.string ⟨m.1.toArray⟩,.int .i64 m.2,.int .i64 0] 272)):=hn3.keeps ((Qa.refl [] w3).alloc _) (by simp)
 have hK4:=hK3.alloc (.cells #[.string ⟨m.1.toArray⟩,.int .i64 m.2,.int .i64 0] 272)
 have hne:w3.heap.size ∉ [A.S]:=by simp;omega
 have hne2:w3.heap.size ∉ [A.S,q]:=by simp;omega
 go_wp2_with fail
 refine (Q08 (Same.add A _) _ hr4).mono ?_
 rintro e w5 ⟨hk5,⟨x5,σ5,hx5,rfl,hr5⟩ | ⟨f,hx5,b,hbb,rfl,hcell⟩⟩
 rotate_left
 ·exact Qb (Q3N.throws (hK4.trans (hk5.mono (by simp))) hK4 ((Qh (Qj hx1)).trans ((Qh (Qj hx2)).trans ((Qh (Qj hx3)).trans ((Qh (Qj hx4)).trans (Ql (Qv hx5)))))) hbb hcell)
 have hv5:=(hk5.block _ (Qc hv) hne).trans hv
 have hn5:=hn4.keeps hk5 hqS
 have hK5:=hK4.trans (hk5.mono (M':=[A.R,A.S,A.N,q]) (by simp))
 clear hk5 hv hK4 hr4 hn4
 go_wp2_with fail
 refine (Q2R _ _ _).mono ?_
 rintro e w6 ⟨v,rfl,hb6,hfit⟩
 have hf6:=hfit (A.add w3.heap.size).X hr5.old
 have hr6:=hr5.below hb6
 have hv6:=(hb6.block _ (Qc hv5)).trans hv5
 have hn6:QV q l w6:=(hb6.block _ (Qc hn5)).trans hn5
 have hK6:=hK5.trans (Qa.of_below _ hb6)
 clear hfit hb6 hv5 hK5 hr5 hn5
 go_wp2_with fail
 refine (Qa2 (Same.add A _) hr6 hf6 (hq.add _) hn6).mono ?_
 rintro e w7 ⟨hk7,⟨z,l7,σ7,hx7,rfl,hr7,hn7⟩ | ⟨f,hx7,b,hbb,rfl,hcell⟩⟩
 rotate_left
 ·exact Qb (Q3N.throws (hK6.trans (hk7.mono (by simp))) hK6 ((Qh (Qj hx1)).trans ((Qh (Qj hx2)).trans ((Qh (Qj hx3)).trans ((Qh (Qj hx4)).trans ((Qh (Qj hx5)).trans (Ql hx7)))))) hbb hcell)
 have hv7:=(hk7.block _ (Qc hv6) hne2).trans hv6
 have hK7:=hK6.trans (hk7.mono (M':=[A.R,A.S,A.N,q]) (by simp))
 clear hk7 hv6 hK6 hr6 hf6 hn6
 have hlk:look σ7.names m.1=some none:=by rw [Qbl hx7,Qbk _ _ _ _ _ hx5];exact Qbm hx4
 obtain ⟨k0,k1,k2,hfrK⟩:=Q0h hv7
 dsimp only [intV]
 have hv8:=QB (i:=2) hv7 (.int .i64 z)
 have hr8:=Rd.setNew (A':=A.add w3.heap.size) hr3 ⟨rfl,rfl,rfl,rfl⟩ hr7 (p:=⟨w3.heap.size,2,none⟩) (Nat.le_refl _) (by simp [Ad.add]) (.int .i64 z)
 have hn8:QV q l7 (w7.setCell ⟨w3.heap.size,2,none⟩ (.int .i64 z)):=hn7.keeps ((Qa.refl [w3.heap.size] w7).setIn (by simp) _) (by simp;omega)
 have hK8:=hK7.setNew (p:=⟨w3.heap.size,2,none⟩) (Nat.le_of_lt_succ (Nat.lt_succ_of_le hK3.size)) (.int .i64 z)
 go_wp2_with fail
 have hr9:=Rd.drop hr3.mine hr8
 generalize w7.setCell ⟨w3.heap.size,2,none⟩ (.int .i64 z)=W8 at *
 clear hr7 hr8 hv7 hK7 hn7 k0 k1 k2 hfrK
 have hh9:Held A.X [(w3.heap.size,Q1K (m.1,m.2,z))] W8:=by
  intro p hp
  simp only [List.mem_singleton] at hp
  subst hp
  exact ⟨hv8,fun hm=>by have:=hX3 _ hm;simp at this⟩
 have hbd:Below W8.heap.size W8 W8.drew:=(Below.refl _ _).drew
 obtain ⟨ob,hput,hnm⟩:=(hr9.nm.below hbd).set hr9.mine.2.2.1 hlk (d:=.const m.1 m.2 z) (b:=w3.heap.size) (bs':=[(w3.heap.size,Q1K (m.1,m.2,z))]) (by show _∈_;simp [Q1K]) (hh9.keeps (Qa.of_below [] hbd) (by simp))
 dsimp only [defT] at hput
 obtain ⟨d0,d1,d2,d3,d4,hfd⟩:=hr9.cells
 obtain ⟨e0,e1,e2,hfe⟩:=Q0h hv8
 have HK8:=Hid.mk hK8
 have HN8:=Hid.mk hn8
 have HR9:=Hid.mk hr9
 have HH9:=Hid.mk hh9
 have HNM:=Hid.mk hnm
 clear hK8 hn8 hr9 hh9 hnm hv8
 go_region
 go_wp2
 go_ret
 have hkd:Qa [A.N] W8 (Q09 W8.drew A.N ob):=(Qa.of_below _ hbd).trans (Q0a _ _ _)
 refine ⟨HK8.out.trans (hkd.mono (by simp)),Or.inl ⟨(m.1,m.2,z),l7,_,w3.heap.size,?_,rfl,Rd.putNames (HR9.out.below hbd) HNM.out,HN8.out.keeps hkd (by simp;exact hq.2.2.2.1),HH9.out.keeps hkd (by simpa using hr3.mine.2.2.1)⟩⟩
 exact (Qh (Qj hx1)).trans ((Qh (Qj hx2)).trans ((Qh (Qj hx3)).trans ((Qh (Qj hx4)).trans ((Qh (Qj hx5)).trans (Qh hx7)))))
def Ad.plus (A:Ad) (Y:List Nat):Ad:={ A with X:=Y++A.X }
theorem Same.plus (A:Ad) (Y:List Nat):Same (A.plus Y) A:=⟨rfl,rfl,rfl,rfl⟩
theorem Rd.dropAll {A:Ad} {Y:List Nat} {text:ByteArray} {σ:St} {w:World} (hm:A.R∈A.X∧A.S∈A.X∧A.N∈A.X∧A.P∈A.X) (h:Rd (A.plus Y) text σ w):Rd A text σ w:=
 ⟨h.me,h.sc,h.nm.sub (fun _ hx=>List.mem_append_right _ hx),hm,fun x hx=>h.old x (List.mem_append_right _ hx),h.pr,h.np,h.gl,h.small,h.few⟩
theorem Rd.young {A A':Ad} {text:ByteArray} {σ0 σ:St} {w u u':World} {M:List Nat} (h0:Rd A text σ0 w) (hA:Same A' A) (h:Rd A' text σ u) (hk:Qa M u u') (hM:∀ m∈M,w.heap.size≤m∧m∈A'.X):Rd A' text σ u':=by
 obtain ⟨l1,l2,l3,l4⟩:=h0.lt
 obtain ⟨⟨m,q1⟩,⟨_,_,q2⟩,⟨_,_,q3⟩⟩:=h0.gl
 have q1:=Q1N q1
 have q2:=Q1N q2
 have q3:=Q1N q3
 obtain ⟨a1,a2,a3,a4⟩:=hA
 refine h.keeps hk (fun m hm=>(hM m hm).2) ?_ ?_ ?_ ?_ ?_ ?_ ?_<;>(intro hm;have:=(hM _ hm).1;omega)
theorem Q0t {w w':World} {row:Option Nat} (h:w.grownBy w' row):Qa row.toList w w':=
 ⟨h.os,h.tape,h.output,h.size,fun k hk hm=>h.block k hk (fun e=>hm (by rw [← e];simp))⟩
theorem Rd.grow {A A':Ad} {text:ByteArray} {σ0 σ:St} {w u u':World} {row:Option Nat} {g:Nat} (h0:Rd A text σ0 w) (hA:Same A' A) (h:Rd A' text σ u) (hg:u.grownBy u' row)
  (hr:∀ b,row=some b→w.heap.size≤b∧b∈A'.X) (hat:row=some g∨g=u.heap.size) (hlt:g < u'.heap.size):Rd (A'.add g) text σ u':=by
 have hk:=Q0t hg
 have hM:∀ m∈row.toList,w.heap.size≤m∧m∈A'.X:=fun m hm=>hr m (by simpa using hm)
 have h1:=h0.young hA h hk hM
 obtain ⟨m1,m2,m3,m4⟩:=h1.mine
 refine ⟨h1.me,h1.sc,?_,⟨List.mem_cons_of_mem _ m1,List.mem_cons_of_mem _ m2,List.mem_cons_of_mem _ m3,List.mem_cons_of_mem _ m4⟩,?_,h1.pr,h1.np,h1.gl,h1.small,h1.few⟩
 ·rcases hat with e | e
  ·exact h1.nm.sub (fun x hx=>by
    rcases List.mem_cons.1 hx with rfl | hx
    ·exact (hr _ e).2
    ·exact hx)
  ·obtain ⟨l1,l2,l3,l4⟩:=h.lt
   refine (h.nm.add (b:=g) (by omega)).keeps hk (fun m hm=>List.mem_cons_of_mem _ (hM m hm).2) (fun hm=>?_)
   have:=(hM _ hm).1
   have:=h0.lt.2.2.1
   obtain ⟨a1,a2,a3,a4⟩:=hA
   omega
 ·intro x hx
  rcases List.mem_cons.1 hx with rfl | hx
  ·exact hlt
  ·exact h1.old x hx
theorem Held.grow {X:List Nat} {bs:List (Nat×Obj)} {u u':World} {row:Option Nat} {g:Nat} (h:Held X bs u) (hg:u.grownBy u' row) (hr:∀ b,row=some b→b∈X) (hat:row=some g∨g=u.heap.size):Held (g :: X) bs u':=by
 intro p hp
 obtain ⟨h1,h2⟩:=h p hp
 have hl:=Qc h1
 refine ⟨(hg.block _ hl (fun e=>h2 (hr _ e.symm))).trans h1,?_⟩
 intro hm
 rcases List.mem_cons.1 hm with e | hm
 ·rcases hat with e' | e'
  ·exact h2 (by rw [e];exact hr _ e')
  ·omega
 ·exact h2 hm
theorem Qx {w w':World} {base:Nat} {e:TypeId} {size n:Nat} {v:Value} {xs:List Value} {M:List Nat} (h:w.ownsRow base e size v n xs) (hk:Qa M w w') (hM:∀ g,v.ownBlock=some g→g ∉ M):w'.ownsRow base e size v n xs:=by
 refine ⟨h.1,?_⟩
 rcases h.2 with h | ⟨g,cap,cur,rfl,h2,h3,h4⟩
 ·exact Or.inl h
 ·exact Or.inr ⟨g,cap,cur,rfl,h2,(hk.block _ (Qc h3) (hM g rfl)).trans h3,h4⟩
theorem Q2p {w:World} {base:Nat} {e:TypeId} {size n g:Nat} {v:Value} {xs:List Value} (h:w.ownsRow base e size v n xs) (hg:v.ownBlock=some g):base≤g∧g < w.heap.size:=by
 rcases h.2 with ⟨rfl,_⟩ | ⟨g',cap,cur,rfl,h2,h3,h4⟩
 ·cases hg
 ·simp only [Value.ownBlock,Option.some.injEq] at hg
  subst hg
  exact ⟨h2,Qc h3⟩
theorem Qa.young {w u u':World} {M M':List Nat} (h:Qa M w u) (hk:Qa M' u u') (hM:∀ m∈M',m∈M∨w.heap.size≤m):Qa M w u':=
 ⟨hk.os.trans h.os,hk.tape.trans h.tape,hk.output.trans h.output,Nat.le_trans h.size hk.size,fun i hi hm=>(hk.block i (Nat.lt_of_lt_of_le hi h.size) (fun hh=>by
  rcases hM i hh with h1 | h1
  ·exact hm h1
  ·omega)).trans (h.block i hi hm)⟩
def Q3G (text:ByteArray) (n:List UInt8×Nat) (ms:List (List UInt8×Nat×Int)):PM DefL:=bnd (QS text [125]) fun _=>bnd (QS text [59]) fun _=>ret (.enum n.1 n.2 ms)
def Q0N (text:ByteArray) (n:List UInt8×Nat):Nat→List (List UInt8×Nat×Int)→List (Int×Int)→PM DefL
 | 0,_,_=>thr 0 0
 | k + 1,ms,l=>fun σ=>match Q1R text ms.length l σ with
  | .ok (m,l',σ')=>bnd (Q0B text [44]) (fun y=>if y then Q0N text n k (ms++[m]) l' else Q3G text n (ms++[m])) σ'
  | .error f=>.error f
theorem Q3H {text:ByteArray} {n:List UInt8×Nat} {k:Nat} {ms:List (List UInt8×Nat×Int)} {l l':List (Int×Int)} {σ σ':St} {m:List UInt8×Nat×Int} (h:Q1R text ms.length l σ = .ok (m,l',σ')) :
  Q0N text n (k + 1) ms l σ = bnd (Q0B text [44]) (fun y=>if y then Q0N text n k (ms++[m]) l' else Q3G text n (ms++[m])) σ':=by simp only [Q0N,h]
theorem Q3O {text:ByteArray} {n:List UInt8×Nat} {k:Nat} {ms:List (List UInt8×Nat×Int)} {l:List (Int×Int)} {σ:St} {f:Mar.Fault} (h:Q1R text ms.length l σ = .error f) :
  Q0N text n (k + 1) ms l σ = .error f:=by simp only [Q0N,h]
def enumeration (text:ByteArray) (at':Nat):PM DefL:=bnd (Q1s at') fun _=>bnd (Q1j text) fun n=>bnd (QS text [123]) fun _=>Q0N text n 13 [] []
structure Q2T (A:Ad) (text:ByteArray) (w:World) (D q:Nat) (n:List UInt8×Nat) (ms:List (List UInt8×Nat×Int)) (ps Y:List Nat) (l:List (Int×Int)) (sl:Value) (σ:St) (u:World):Prop where
 kp:Qa [A.R,A.S,A.N] w u
 rd:Rd (A.plus Y) text σ u
 mine:D∈Y∧q∈Y∧D≠q
 new:∀ y∈Y,w.heap.size≤y
 nums:QV q l u
 box:u.heap[D]? = some (.cells #[.string ⟨n.1.toArray⟩,.int .i64 n.2,sl] 206)
 row:u.ownsRow w.heap.size 176 1 sl ms.length (ps.map fun b=>Value.pointer (some ⟨b,0,none⟩))
 own:∀ g,sl.ownBlock=some g→g∈Y∧g≠D∧g≠q
 len:ps.length=ms.length
 held:Held (A.plus Y).X ((ps.zip ms).map fun p=>(p.1,Q1K p.2)) u
theorem Q2T.free {A:Ad} {text:ByteArray} {w u:World} {D q:Nat} {n:List UInt8×Nat} {ms:List (List UInt8×Nat×Int)} {ps Y:List Nat} {l:List (Int×Int)} {sl:Value} {σ σ0:St} (h0:Rd A text σ0 w) (m:Q2T A text w D q n ms ps Y l sl σ u):Free (A.plus Y) q:=by
 obtain ⟨l1,l2,l3,l4⟩:=h0.lt
 have hq:=m.new _ m.mine.2.1
 refine ⟨List.mem_append_left _ m.mine.2.1,?_,?_,?_,?_⟩<;>simp only [Ad.plus]<;>omega
theorem Q2T.step {A:Ad} {text:ByteArray} {w u u1 u2 u3:World} {D q b g cap:Nat} {n:List UInt8×Nat} {ms:List (List UInt8×Nat×Int)} {ps Y:List Nat} {l l':List (Int×Int)} {sl:Value} {σ σ' σ0:St} {m:List UInt8×Nat×Int} (h0:Rd A text σ0 w)
  (e:Q2T A text w D q n ms ps Y l sl σ u) (hk:Qa [A.R,A.S,A.N,q] u u1) (hr:Rd (A.plus Y) text σ' u1) (hn:QV q l' u1) (hh:Held (A.plus Y).X [(b,Q1K m)] u1) (hb:Below u1.heap.size u1 u2)
  (hown:u3.ownsRow w.heap.size 176 1 (.slice (some ⟨g,0,none⟩) (ms.length + 1) cap) (ms.length + 1) ((ps.map fun b=>Value.pointer (some ⟨b,0,none⟩))++[.pointer (some ⟨b,0,none⟩)]))
  (hg:u2.grownBy u3 sl.ownBlock) (hat:sl.ownBlock=some g∨g=u2.heap.size) (hlt:g < u3.heap.size) :
  Q2T A text w D q n (ms++[m]) (ps++[b]) (g :: Y) l' (.slice (some ⟨g,0,none⟩) (ms.length + 1) cap) σ' (u3.setCell ⟨D,2,none⟩ (.slice (some ⟨g,0,none⟩) (ms.length + 1) cap)):=by
 obtain ⟨mD,mq,nDq⟩:=e.mine
 obtain ⟨hwg,_⟩:=Q2p hown (g:=g) rfl
 have lD:=Qc e.box
 have lq:=Qc e.nums
 have wD:=e.new _ mD
 have wq:=e.new _ mq
 have k1:=hk.size
 have k2:=hb.size
 have k3:=hg.size
 have gD:g≠D:=by
  rcases hat with h | h
  ·exact (e.own g h).2.1
  ·omega
 have gq:g≠q:=by
  rcases hat with h | h
  ·exact (e.own g h).2.2
  ·omega
 have hrow:∀ b,sl.ownBlock=some b→w.heap.size≤b∧b∈(A.plus Y).X:=fun b hb=>⟨e.new _ (e.own b hb).1,List.mem_append_left _ (e.own b hb).1⟩
 have hkg:=Q0t hg
 have hks:Qa [D] u3 (u3.setCell ⟨D,2,none⟩ (.slice (some ⟨g,0,none⟩) (ms.length + 1) cap)):=(Qa.refl [D] u3).setIn (by simp) _
 have hkb:Qa [] u1 u2:=Qa.of_below _ hb
 obtain ⟨l1,l2,l3,l4⟩:=h0.lt
 have rD:D ∉ sl.ownBlock.toList:=by
  intro hm
  exact (e.own D (by simpa using hm)).2.1 rfl
 have rq:q ∉ sl.ownBlock.toList:=by
  intro hm
  exact (e.own q (by simpa using hm)).2.2 rfl
 have hq3:=(((hn.keeps hkb (by simp)).keeps hkg rq).keeps hks (by simp;omega))
 have hbox:u3.heap[D]? = some (.cells #[.string ⟨n.1.toArray⟩,.int .i64 n.2,sl] 206):=
  (hkg.block _ (by omega) rD).trans ((hkb.block _ (by omega) (by simp)).trans ((hk.block _ lD (by simp;omega)).trans e.box))
 refine ⟨?_,?_,⟨List.mem_cons_of_mem _ mD,List.mem_cons_of_mem _ mq,nDq⟩,?_,hq3,?_,?_,?_,?_,?_⟩
 ·refine (((e.kp.young hk ?_).young hkb (by simp)).young hkg ?_).young hks (by simp;omega)
  ·intro m hm
   simp at hm ⊢
   rcases hm with h | h | h | h
   ·exact Or.inl (Or.inl h)
   ·exact Or.inl (Or.inr (Or.inl h))
   ·exact Or.inl (Or.inr (Or.inr h))
   ·exact Or.inr (by omega)
  ·intro m hm
   exact Or.inr (hrow m (by simpa using hm)).1
 ·exact h0.young (Same.plus A (g :: Y)) (Rd.grow h0 (Same.plus A Y) (hr.below hb) hg hrow hat hlt) hks (by
   intro x hx
   simp only [List.mem_singleton] at hx
   subst hx
   exact ⟨wD,List.mem_append_left _ (List.mem_cons_of_mem _ mD)⟩)
 ·intro y hy
  rcases List.mem_cons.1 hy with rfl | hy
  ·exact hwg
  ·exact e.new y hy
 ·exact QB (i:=2) hbox _
 ·have:=Qx hown hks (by
   intro g' h'
   simp only [Value.ownBlock,Option.some.injEq] at h'
   subst h'
   simp;exact gD)
  simpa using this
 ·intro g' h'
  simp only [Value.ownBlock,Option.some.injEq] at h'
  subst h'
  exact ⟨List.mem_cons_self,gD,gq⟩
 ·simp [e.len]
 ·rw [List.zip_append (by exact e.len),List.map_append]
  have hX:∀ m∈[A.R,A.S,A.N,q],m∈(A.plus Y).X:=by
   have:=hr.mine
   intro x hx
   simp at hx
   rcases hx with rfl | rfl | rfl | rfl
   ·exact this.1
   ·exact this.2.1
   ·exact this.2.2.1
   ·exact List.mem_append_left _ mq
  have hold:=e.held.keeps hk hX
  have hall:Held (A.plus Y).X (((ps.zip ms).map fun p=>(p.1,Q1K p.2))++[(b,Q1K m)]) u1:=by
   intro p hp
   rcases List.mem_append.1 hp with hp | hp
   ·exact hold p hp
   ·exact hh p hp
  exact ((hall.keeps hkb (by simp)).grow hg (fun b hb=>(hrow b hb).2) hat).keeps hks (by
   intro x hx
   simp only [List.mem_singleton] at hx
   subst hx
   exact List.mem_cons_of_mem _ (List.mem_append_left _ mD))
def Qeb (w:World) (D:Nat):Nat:=match w.cell? ⟨D,2,none⟩ with
 | some (.slice _ n _)=>n
 | _=>0
theorem Qih:(Tryz.prog.info? 176).map (fun i=>(i.zero,i.size,i.bytes))=some (some (.pointer none),1,8):=by kernel_rfl
theorem Q2T.slice {A:Ad} {text:ByteArray} {w u:World} {D q:Nat} {n:List UInt8×Nat} {ms:List (List UInt8×Nat×Int)} {ps Y:List Nat} {l:List (Int×Int)} {sl:Value} {σ:St} (m:Q2T A text w D q n ms ps Y l sl σ u):∃ ad cap,sl = .slice ad ms.length cap:=by
 rcases m.row.2 with ⟨rfl,h⟩ | ⟨g,cap,cur,rfl,_⟩
 ·exact ⟨none,0,by rw [h]⟩
 ·exact ⟨_,_,rfl⟩
theorem Qfs {A' A:Ad} (hA:Same A' A) {text:ByteArray} {σ:St} (n:Nat) {q:Nat} {l:List (Int×Int)} {w:World} (h:Rd A' text σ w) (hq:Free A' q) (hn:QV q l w) :
  Calls Tryz.prog 127 #[.pointer (some ⟨A.R,0,none⟩),.int .i64 n,.map (some q)] w (Q3N [A.R,A.S,A.N,q] A' text w q (Q1R text n l σ)):=by
 obtain ⟨a1,a2,a3,a4⟩:=hA
 rw [← a1,← a2,← a3]
 exact Qea n h hq hn
theorem QcI {text:ByteArray} {n:Nat} {l l':List (Int×Int)} {σ σ':St} {m:List UInt8×Nat×Int} (h:Q1R text n l σ = .ok (m,l',σ')):n < 12:=by
 rcases Nat.lt_or_ge n 12 with hn | hn
 ·exact hn
 ·exfalso
  unfold Q1R at h
  cases hx:peek text σ with
  | error f=>rw [Ql (Qv hx)] at h;cases h
  | ok p=>
   obtain ⟨x,σ1⟩:=p
   rw [Qh (Qj hx),Ql (Qv (show Q0P n 12 x.at' σ1=_ from if_pos hn))] at h
   cases h
theorem Qbn {u:World} {D k cap:Nat} {a b:Value} {ad:Option Addr} {T:TypeId} (h:u.heap[D]? = some (.cells #[a,b,.slice ad k cap] T)):Qeb u D=k:=by
 obtain ⟨_,_,k2,_⟩:=Q0h h
 unfold Qeb
 rw [k2]
theorem Q2T.scan {A:Ad} {text:ByteArray} {w u u':World} {D q:Nat} {n:List UInt8×Nat} {ms:List (List UInt8×Nat×Int)} {ps Y:List Nat} {l:List (Int×Int)} {sl:Value} {σ σ' σ0:St} (h0:Rd A text σ0 w) (m:Q2T A text w D q n ms ps Y l sl σ u) (hk:Qa [A.S] u u') (hr:Rd (A.plus Y) text σ' u') :
  Q2T A text w D q n ms ps Y l sl σ' u':=by
 obtain ⟨l1,l2,l3,l4⟩:=h0.lt
 have wD:=m.new _ m.mine.1
 have wq:=m.new _ m.mine.2.1
 refine ⟨m.kp.trans (hk.mono (by simp)),hr,m.mine,m.new,m.nums.keeps hk (by simp;omega),(hk.block _ (Qc m.box) (by simp;omega)).trans m.box,Qx m.row hk ?_,m.own,m.len,m.held.keeps hk (by intro x hx;simp only [List.mem_singleton] at hx;subst hx;exact hr.mine.2.1)⟩
 intro g hg
 have:=m.new _ (m.own g hg).1
 simp;omega
theorem Q2T.fin {A:Ad} {text:ByteArray} {w u:World} {D q:Nat} {n:List UInt8×Nat} {ms:List (List UInt8×Nat×Int)} {ps Y:List Nat} {l:List (Int×Int)} {sl:Value} {σ σ0:St} (h0:Rd A text σ0 w) (m:Q2T A text w D q n ms ps Y l sl σ u) (hle:ms.length≤12)
  {r:Except Mar.Fault (DefL×St)} (hr:r = .ok (.enum n.1 n.2 ms,σ)):QC [A.R,A.S,A.N] A text w r (.returned (.pointer (some ⟨D,0,none⟩))) u:=by
 have far:∀ b,w.heap.size≤b→b ∉ A.X:=fun b hb hm=>by have:=h0.old _ hm;omega
 have hsub:Held A.X ((ps.zip ms).map fun p=>(p.1,Q1K p.2)) u:=m.held.sub (fun x hx=>List.mem_append_right _ hx)
 have hD:u.heap[D]? = some (.cells #[.string ⟨n.1.toArray⟩,.int .i64 n.2,sl] 206)∧D ∉ A.X:=⟨m.box,far _ (m.new _ m.mine.1)⟩
 have hcs:∀ i (h:i < ms.length) (h':i < ps.length),(ps[i],Q1K ms[i])∈((ps.zip ms).map fun p=>(p.1,Q1K p.2)):=by
  intro i h h'
  rw [List.mem_map]
  exact ⟨(ps[i],ms[i]),by rw [List.mem_iff_getElem];exact ⟨i,by simp;omega,by simp⟩,rfl⟩
 refine ⟨m.kp,Or.inl ⟨.enum n.1 n.2 ms,σ,D,?_⟩⟩
 rcases m.row.2 with ⟨rfl,h⟩ | ⟨g,cap,cur,rfl,hg1,hg2,hg3,hg4,hg5,hg6⟩
 ·refine ⟨(D,.cells #[.string ⟨n.1.toArray⟩,.int .i64 n.2,.slice none 0 0] 206) :: ((ps.zip ms).map fun p=>(p.1,Q1K p.2)),hr,rfl,Rd.dropAll h0.mine m.rd,⟨.slice none 0 0,ps,List.mem_cons_self,m.len,Or.inl ⟨rfl,h,?_⟩,fun i h h'=>List.mem_cons_of_mem _ (hcs i h h')⟩,?_⟩
  ·have:ps=[]:=List.length_eq_zero_iff.1 (by rw [m.len,h])
   rw [this];rfl
  ·intro p hp
   rcases List.mem_cons.1 hp with rfl | hp
   ·exact hD
   ·exact hsub p hp
 ·refine ⟨(D,.cells #[.string ⟨n.1.toArray⟩,.int .i64 n.2,.slice (some ⟨g,0,none⟩) ms.length cap] 206) :: (g,.cells cur 176) :: ((ps.zip ms).map fun p=>(p.1,Q1K p.2)),hr,rfl,Rd.dropAll h0.mine m.rd,⟨_,ps,List.mem_cons_self,m.len,Or.inr ⟨g,cap,cur,rfl,⟨hg3,by omega⟩,by simp,?_⟩,fun i h h'=>List.mem_cons_of_mem _ (List.mem_cons_of_mem _ (hcs i h h'))⟩,?_⟩
  ·rw [Nat.mul_one] at hg6
   rw [List.length_map,m.len]
   exact hg6
  ·intro p hp
   rcases List.mem_cons.1 hp with rfl | hp
   ·exact hD
   ·rcases List.mem_cons.1 hp with rfl | hp
    ·exact ⟨hg2,far _ hg1⟩
    ·exact hsub p hp
theorem Q8R {A:Ad} {text:ByteArray} {σ:St} (at':Nat) {w:World} (h:Rd A text σ w) :
  Calls Tryz.prog 88 #[.pointer (some ⟨A.R,0,none⟩),.int .i64 at'] w (QC [A.R,A.S,A.N] A text w (enumeration text at' σ)):=by
 have hmf:∀ (fn:Fn) (first cap:Array Value) (w:World),(Instr.makeFunc fn first cap).run Tryz.prog w = .ok (.func fn first cap) w:=fun _ _ _ _=>rfl
 have hmm:∀ (t:TypeId) (w:World),(Instr.makeMap t none).run Tryz.prog w = .ok (.map (some w.heap.size)) (w.alloc (.map #[] 0)):=fun _ _=>rfl
 obtain ⟨i0,hi0,hz0,hz1,hz2⟩:=info_parts Qih
 go_enter Tryz.func88,Tryz.ntmps88
 go_wp2_with fail
 refine (Q4K at' h).mono ?_
 rintro e w1 ⟨hk1,⟨u,σ1,hx1,rfl,hr1⟩ | ⟨f,hx1,b,hbb,rfl,hcell⟩⟩
 rotate_left
 ·exact Qb (QC.throws (hk1.mono (by simp)) (Qa.refl [] _) (Qq hx1) hbb hcell)
 have hK1:=hk1.mono (M':=[A.R,A.S,A.N]) (by simp)
 clear hk1
 go_wp2_with fail
 refine (Q3c hr1).mono ?_
 rintro e w2 ⟨hk2,⟨n,σ2,hx2,rfl,hr2⟩ | ⟨f,hx2,b,hbb,rfl,hcell⟩⟩
 rotate_left
 ·exact Qb (QC.throws (hK1.trans (hk2.mono (by simp))) hK1 ((Qg hx1).trans (Qq hx2)) hbb hcell)
 have hK2:=hK1.trans (hk2.mono (M':=[A.R,A.S,A.N]) (by simp))
 clear hk2 hK1
 dsimp only [Q1x]
 have hX2:=hr2.old
 have hlS:=hr2.lt.2.1
 have hr3:=hr2.own (.cells #[.string ⟨n.1.toArray⟩,.int .i64 n.2,.slice none 0 0] 206)
 have hv:=Qi (w:=w2) (o:=.cells #[.string ⟨n.1.toArray⟩,.int .i64 n.2,.slice none 0 0] 206) rfl
 have hK3:=hK2.alloc (.cells #[.string ⟨n.1.toArray⟩,.int .i64 n.2,.slice none 0 0] 206)
 have hne:w2.heap.size ∉ [A.S]:=by simp;omega
 go_wp2_with fail
 refine (Q08 (Same.add A _) _ hr3).mono ?_
 rintro e w4 ⟨hk4,⟨x4,σ4,hx4,rfl,hr4⟩ | ⟨f,hx4,b,hbb,rfl,hcell⟩⟩
 rotate_left
 ·exact Qb (QC.throws (hK3.trans (hk4.mono (by simp))) hK3 ((Qg hx1).trans ((Qg hx2).trans (Qq hx4))) hbb hcell)
 have hv4:=(hk4.block _ (Qc hv) hne).trans hv
 have hl4:=Qc hv4
 have hK4:=hK3.trans (hk4.mono (M':=[A.R,A.S,A.N]) (by simp))
 have hE4:enumeration text at' σ = Q0N text n 13 [] [] σ4:=(Qg hx1).trans ((Qg hx2).trans (Qg hx4))
 have hm0:Q2T A text w w2.heap.size w4.heap.size n [] [] [w4.heap.size,w2.heap.size] [] (.slice none 0 0) σ4 (w4.alloc (.map #[] 0)):=by
  have hka:Qa [] w4 (w4.alloc (.map #[] 0)):=(Qa.refl [] w4).alloc _
  refine ⟨hK4.alloc _,hr4.own _,⟨by simp,by simp,by omega⟩,?_,Qi (w:=w4) rfl,(hka.block _ hl4 (by simp)).trans hv4,⟨rfl,Or.inl ⟨rfl,rfl⟩⟩,(by intro g hg;cases hg),rfl,(by intro p hp;cases hp)⟩
  intro y hy
  have s1:=hK2.size
  have s2:=hK4.size
  simp at hy
  rcases hy with rfl | rfl<;>omega
 have HM:=Hid.mk hm0
 have HE:=Hid.mk hE4
 have HX:=Hid.mk hX2
 clear hk4 hv hK3 hr3 hm0 hE4 hv4 hK4 hr4 hx1 hx2 hx4 hr1 hK2 hX2
 go_wp2
 go_loopw [7] (fun b u=>∃ (y:Bool) (ms:List (List UInt8×Nat×Int)) (ps Y:List Nat) (l:List (Int×Int)) (sl:Value) (σ':St),b = .bool y∧ms.length≤12∧Hid (Q2T A text w w2.heap.size w4.heap.size n ms ps Y l sl σ' u) ∧
   Hid (enumeration text at' σ = (if y then Q0N text n (13 - ms.length) ms l else Q3G text n ms) σ')) (fun _ u=>13 - Qeb u w2.heap.size)
 case atStart=>exact ⟨true,[],[],_,[],_,σ4,rfl,by simp,HM,HE⟩
 case round=>
  obtain ⟨y,ms,ps,Y,l,sl,σ',rfl,hlen,M,E⟩:=hrel
  clear HM HE
  cases y with
  | false=>
   go_wp2_with fail
   refine (Q08 (Same.plus A Y) _ M.out.rd).mono ?_
   rintro e w5 ⟨hk5,⟨x5,σ5,hx5,rfl,hr5⟩ | ⟨f,hx5,b,hbb,rfl,hcell⟩⟩
   rotate_left
   ·exact Qb (QC.throws (M.out.kp.trans (hk5.mono (by simp))) M.out.kp (E.out.trans (Qq hx5)) hbb hcell)
   have M5:=Hid.mk (M.out.scan h hk5 hr5)
   clear hk5 hr5
   go_wp2_with fail
   refine (Q08 (Same.plus A Y) _ M5.out.rd).mono ?_
   rintro e w6 ⟨hk6,⟨x6,σ6,hx6,rfl,hr6⟩ | ⟨f,hx6,b,hbb,rfl,hcell⟩⟩
   rotate_left
   ·exact Qb (QC.throws (M5.out.kp.trans (hk6.mono (by simp))) M5.out.kp (E.out.trans ((Qg hx5).trans (Qq hx6))) hbb hcell)
   have M6:=Hid.mk (M5.out.scan h hk6 hr6)
   clear hk6 hr6
   go_wp2
   go_ret
   exact M6.out.fin h hlen (E.out.trans ((Qg hx5).trans (Qg hx6)))
  | true=>
   obtain ⟨ad,cap,rfl⟩:=M.out.slice
   obtain ⟨k0,k1,k2,hfrK⟩:=Q0h M.out.box
   have hbd:Below wr.heap.size wr wr.drew:=(Below.refl _ _).drew
   have HC:=Hid.mk (Qfs (Same.plus A Y) ms.length (M.out.rd.below hbd) (M.out.free h) ((hbd.block _ (Qc M.out.nums)).trans M.out.nums))
   have HQ:Hid (13 - ms.length=(12 - ms.length) + 1):=by show _=_;omega
   have EM:Hid (enumeration text at' σ = Q0N text n ((12 - ms.length) + 1) ms l σ'):=by
    have h1:=E.out
    rw [HQ.out] at h1
    exact h1
   clear E
   have herr:∀ (f:Mar.Fault) (b:Nat) (u':World),Q1R text ms.length l σ' = .error f→wr.heap.size≤b→Qa [A.R,A.S,A.N,w4.heap.size] wr.drew u'→u'.heap[b]? = some (.cells #[.int .i64 f.no,.int .i64 f.at'] 83) →
     QC [A.R,A.S,A.N] A text w (enumeration text at' σ) (.panicked [{ v:=.iface 79 (.pointer (some ⟨b,0,none⟩)),recovered:=false }]) u':=by
    intro f b u' hf hb hk hc
    have hwq:=M.out.new _ M.out.mine.2.1
    refine QC.throws (M.out.kp.young (((Qa.refl _ wr).drew).trans hk) ?_) M.out.kp (EM.out.trans (Q3O hf)) hb hc
    intro m hm
    simp at hm ⊢
    rcases hm with h | h | h | h
    ·exact Or.inl (Or.inl h)
    ·exact Or.inl (Or.inr (Or.inl h))
    ·exact Or.inl (Or.inr (Or.inr h))
    ·exact Or.inr (by omega)
   have HERR:=Hid.mk herr
   have hrM:∀ g,(Value.slice ad ms.length cap).ownBlock=some g→g ∉ [A.R,A.S,A.N,w4.heap.size]:=by
    intro g hg
    have h1:=M.out.own g hg
    have h2:=M.out.new _ h1.1
    obtain ⟨l1,l2,l3,l4⟩:=h.lt
    simp;omega
   have hat5:∀ w5,Qa [A.R,A.S,A.N,w4.heap.size] wr.drew w5→(∀ o,(w5.alloc o).ownsRow w.heap.size 176 1 (.slice ad ms.length cap) ms.length (ps.map fun b=>Value.pointer (some ⟨b,0,none⟩))) ∧
     w5.heap[w2.heap.size]? = some (.cells #[.string ⟨n.1.toArray⟩,.int .i64 n.2,.slice ad ms.length cap] 206)∧w.heap.size≤w5.heap.size:=by
    intro w5 hk5
    have hk5':=((Qa.refl _ wr).drew).trans hk5
    have h1:=M.out.new _ M.out.mine.1
    obtain ⟨l1,l2,l3,l4⟩:=h.lt
    have h2:=M.out.mine.2.2
    refine ⟨fun o=>Qx (Qx M.out.row hk5' hrM) ((Qa.refl [] w5).alloc o) (by simp),(hk5'.block _ (Qc M.out.box) (by simp;omega)).trans M.out.box,Nat.le_trans M.out.kp.size hk5'.size⟩
   have H5:=Hid.mk hat5
   have hat6:∀ w5 o w6,Qa [A.R,A.S,A.N,w4.heap.size] wr.drew w5→(w5.alloc o).grownBy w6 (Value.slice ad ms.length cap).ownBlock→w6.heap[w2.heap.size]? = some (.cells #[.string ⟨n.1.toArray⟩,.int .i64 n.2,.slice ad ms.length cap] 206):=by
    intro w5 o w6 hk5 hg
    obtain ⟨_,h5,_⟩:=hat5 w5 hk5
    have hl:=Qc h5
    exact (hg.block _ (by simp;omega) (fun e=>(M.out.own _ e.symm).2.1 rfl)).trans ((((Qa.refl [] w5).alloc o).block _ hl (by simp)).trans h5)
   have H6:=Hid.mk hat6
   have hz3:(Value.pointer none).cells.size=1:=rfl
   have hl1:ms.length + 1≤maxLen:=by unfold maxLen;omega
   have hl2:(ms.length + 1) * 8≤140737488355328:=by omega
   clear herr hat5 hat6
   go_wp2_with fail
   go_region_law (first
    | (go_simp;go_at_call 127;refine HC.out.mono ?_;rintro e w5 ⟨hk5,⟨m,l5,σ5,b,hx5,rfl,hr5,hn5,hh5⟩ | ⟨f,hx5,b,hbb,rfl,hcell⟩⟩;rotate_left;exact (show bodyPost Tryz.prog Tryz.f88 (QC [A.R,A.S,A.N] A text w (enumeration text at' σ)) (Exit.panic _) _ w5 from Qb (HERR.out f b w5 hx5 hbb hk5 hcell));dsimp only;obtain ⟨hown5,hbox5,hwl⟩:=H5.out w5 hk5;obtain ⟨y0,y1,y2,hfy⟩:=Q0h hbox5;have hlt5:=Qc hbox5;have hne5:=Nat.ne_of_lt hlt5)
    | (refine step_append_lies _ (by rfl) _ _ _ (by rfl) w.heap.size 176 i0 _ 1 8 Tryz.underlying204 hi0 hz0 hz1 hz2 hz3 (by omega) (.slice ad ms.length cap) ms.length (ps.map fun b=>Value.pointer (some ⟨b,0,none⟩)) (by rfl) (hown5 _) ⟨w5.heap.size,0,none⟩ 1 1 [.pointer (some ⟨b,0,none⟩)] (by rfl) (by rfl) (World.news_of_block (cs:=#[.pointer (some ⟨b,0,none⟩)]) (t:=176) (fr:=(0,0)) (heap_alloc_new w5 _)) (by simp [Value.oneCell']) (by omega) hl1 hl2 (by simp;omega) (w5.heap.size + 1) (by simp) ?_;intro g cap' w6 hown6 hgrow hat hlt;have hbox6:=H6.out w5 _ w6 hk5 hgrow;obtain ⟨z0,z1,z2,hfz⟩:=Q0h hbox6))
   all_goals
    have h12:=QcI hx5
    have M6:=Hid.mk (Q2T.step h M.out (((Qa.refl _ wr).drew).trans hk5) hr5 hn5 hh5 ((Below.refl w5.heap.size w5).alloc (Nat.le_refl _) _) hown6 hgrow (by simpa using hat) hlt)
    clear hk5 hr5 hn5 hh5 hown6 hgrow hat hlt hbox6 z0 z1 z2 hfz hbox5 y0 y1 y2 hfy hown5
    go_wp2_with fail
    refine (Q2v (Same.plus A (g :: Y)) _ M6.out.rd).mono ?_
    rintro e w7 ⟨hk7,⟨y7,σ7,hx7,rfl,hr7⟩ | ⟨f,hx7,b7,hbb,rfl,hcell⟩⟩
    rotate_left
    ·exact (show bodyPost Tryz.prog Tryz.f88 (QC [A.R,A.S,A.N] A text w (enumeration text at' σ)) (Exit.panic _) _ w7 from Qb (QC.throws (M6.out.kp.trans (hk7.mono (by simp))) M6.out.kp (EM.out.trans ((Q3H hx5).trans (Qq hx7))) hbb hcell))
    have M7:=Hid.mk (M6.out.scan h hk7 hr7)
    have E7:Hid (enumeration text at' σ = (if y7=true then Q0N text n (13 - (ms++[m]).length) (ms++[m]) l5 else Q3G text n (ms++[m])) σ7):=by
     refine EM.out.trans ((Q3H hx5).trans ((Qg hx7).trans ?_))
     have:13 - (ms++[m]).length=12 - ms.length:=by simp
     rw [this]
    have L1:=Qbn M.out.box
    have L2:=Qbn M7.out.box
    clear hk7 hr7
    go_wp2
    refine ⟨⟨y7,ms++[m],ps++[b],g :: Y,l5,_,σ7,rfl,by simp;omega,M7,E7⟩,?_⟩
    rw [L1,L2]
    omega
def Q10 {τ:Type} (A:Ad) (w:World) (J:List Nat→τ→St→World→Prop) (r:Except Mar.Fault (Unit×τ×St)) (e:Ending) (u':World):Prop:=
 (∃ Y' t' σ',r = .ok ((),t',σ')∧e = .returned (.tuple #[])∧J Y' t' σ' u')∨(∃ f,r = .error f∧Qa [A.R,A.S,A.N] w u'∧Q0A w f.no f.at' e u')
theorem Q10.throws {τ:Type} {M':List Nat} {A:Ad} {w w1 u':World} {J:List Nat→τ→St→World→Prop} {r:Except Mar.Fault (Unit×τ×St)} {f:Mar.Fault} {b:Nat}
  (hk:Qa [A.R,A.S,A.N] w u') (hk1:Qa M' w w1) (hr:r = .error f) (hb:w1.heap.size≤b) (hc:u'.heap[b]? = some (.cells #[.int .i64 f.no,.int .i64 f.at'] 83)) :
  Q10 A w J r (.panicked [{ v:=.iface 79 (.pointer (some ⟨b,0,none⟩)),recovered:=false }]) u':=
 Or.inr ⟨f,hr,hk,b,Nat.le_trans hk1.size hb,rfl,hc⟩
structure One (τ:Type) (A:Ad) (text:ByteArray) (w:World) (most:Nat) where
 f:Nat
 cap:Array Value
 run:PX τ Unit
 J:Nat→List Nat→τ→St→World→Prop
 enters:∀ (args:Array Value) (u:World),(callFunc f args).run Tryz.prog u = .ok (.enter f args) u
 rd:∀ {n Y t σ u},J n Y t σ u→Rd (A.plus Y) text σ u
 kp:∀ {n Y t σ u},J n Y t σ u→Qa [A.R,A.S,A.N] w u
 scan:∀ {n Y t σ σ' u u'},J n Y t σ u→Qa [A.S] u u'→Rd (A.plus Y) text σ' u'→J n Y t σ' u'
 call:∀ {n Y t σ u},n < most→J n Y t σ u→Calls Tryz.prog f cap u (Q10 A w (J (n + 1)) (run t σ))
def Q19 {τ:Type} (text:ByteArray) (most:Nat) (run:PX τ Unit):Nat→Nat→PX τ Unit
 | 0,_=>lift (thr 0 0)
 | k + 1,n=>bndx (if n=0 then retx false else lift (Q0B text [125])) fun y=>if y then retx () else
   bndx (lift (peek text)) fun x=>bndx (lift (Q0P n most x.at')) fun _=>bndx run fun _=>Q19 text most run k (n + 1)
def block {τ:Type} (text:ByteArray) (most:Nat) (run:PX τ Unit):PX τ Unit:=bndx (lift (QS text [123])) fun _=>Q19 text most run (most + 2) 0
theorem Q9D {A' A:Ad} (hA:Same A' A) {text:ByteArray} {σ:St} {w:World} (h:Rd A' text σ w) :
  Calls Tryz.prog 49 #[.pointer (some ⟨A.S,0,none⟩)] w (Qt [A.S] A' text w (peek text σ) Q00):=by
 obtain ⟨a1,a2,a3,a4⟩:=hA
 rw [← a2]
 exact Q6G h
def Qft {τ:Type} (text:ByteArray) (most:Nat) (run:PX τ Unit) (k n:Nat):PX τ Unit:=
 bndx (lift (peek text)) fun x=>bndx (lift (Q0P n most x.at')) fun _=>bndx run fun _=>Q19 text most run k (n + 1)
theorem Q7l {τ:Type} {A:Ad} {text:ByteArray} {w:World} (most:Nat) (O:One τ A text w most) {Y:List Nat} {t:τ} {σ:St} {u:World} (hmost:most≤1000) (h:O.J 0 Y t σ u) :
  Calls Tryz.prog 129 #[.pointer (some ⟨A.R,0,none⟩),.int .i64 most,.func (.func O.f) #[] O.cap] u (Q10 A w (fun Y t σ u=>∃ n≤most,O.J n Y t σ u) (block text most O.run t σ)):=by
 have hen:=O.enters
 have hft:=Qbd
 go_enter Tryz.func129,Tryz.ntmps129
 go_wp2_with fail
 refine (Q08 (Same.plus A Y) _ (O.rd h)).mono ?_
 rintro e w1 ⟨hk1,⟨x1,σ1,hx1,rfl,hr1⟩ | ⟨f,hx1,b,hbb,rfl,hcell⟩⟩
 rotate_left
 ·exact Qb (Q10.throws ((O.kp h).trans (hk1.mono (by simp))) (O.kp h) (Ql (Qv hx1)) hbb hcell)
 have J1:=Hid.mk (O.scan h hk1 hr1)
 have E1:Hid (block text most O.run t σ = Q19 text most O.run (most + 2) 0 t σ1):=Qh (Qj hx1)
 clear hk1 hr1 hx1
 dsimp only [Q00]
 go_wp2
 go_loopw [6] (fun i ur=>∃ (n:Nat) (Y':List Nat) (t':τ) (σ':St),i = .int .i64 n∧n≤most∧Hid (O.J n Y' t' σ' ur)∧Hid (block text most O.run t σ = Q19 text most O.run (most + 2 - n) n t' σ')) (fun i _=>most + 1 - (intOf i).toNat)
 case atStart=>exact ⟨0,_,_,_,rfl,by omega,J1,E1⟩
 case round=>
  obtain ⟨n,Y',t',σ',rfl,hn,J,E⟩:=hrel
  clear J1 E1
  have E0:Hid (block text most O.run t σ = Q19 text most O.run ((most + 1 - n) + 1) n t' σ'):=by
   have h1:=E.out
   rw [show most + 2 - n=(most + 1 - n) + 1 by omega] at h1
   exact h1
  clear E
  by_cases h0:n=0
  ·have c0:wr.cell? ⟨A.R,0,none⟩=some (.pointer (some ⟨A.S,0,none⟩)):=(O.rd J.out).cells.1
   have EA:Hid (block text most O.run t σ = Qft text most O.run (most + 1 - n) n t' σ'):=by
    refine E0.out.trans ?_
    simp only [Q19,if_pos h0]
    rfl
   have JA:=J
   clear E0 J
   have h0':((n:Int) == 0)=true:=by simp [h0]
   go_wp2_with fail
   refine (Q9D (Same.plus A Y') (O.rd JA.out)).mono ?_
   rintro e w5 ⟨hk5,⟨x5,σ5,hx5,rfl,hr5⟩ | ⟨f,hx5,b,hbb,rfl,hcell⟩⟩
   rotate_left
   ·exact (show bodyPost Tryz.prog Tryz.f129 (Q10 A w (fun Y t σ u=>∃ n≤most,O.J n Y t σ u) (block text most O.run t σ)) (Exit.panic _) _ w5 from Qb (Q10.throws ((O.kp JA.out).trans (hk5.mono (by simp))) (O.kp JA.out) (EA.out.trans (Ql (Qv hx5))) hbb hcell))
   have J5:=Hid.mk (O.scan JA.out hk5 hr5)
   clear hk5 hr5
   dsimp only [Q00]
   go_wp2_with fail
   by_cases hfi:most≤n
   ·refine (Q3k _ _ _ _ (by omega)).mono ?_
    rintro e w6 ⟨⟨b,hbb,rfl,hcell⟩,hb⟩
    exact (show bodyPost Tryz.prog Tryz.f129 (Q10 A w (fun Y t σ u=>∃ n≤most,O.J n Y t σ u) (block text most O.run t σ)) (Exit.panic _) _ w6 from Qb (Q10.throws (f:=⟨5,x5.at'⟩) ((O.kp J5.out).trans (Qa.of_below _ hb)) (O.kp J5.out) (EA.out.trans ((Qh (Qj hx5)).trans (Ql (Qv (show Q0P n most x5.at' σ5=_ from if_pos hfi))))) hbb hcell))
   have hx6:Q0P n most x5.at' σ5 = .ok ((),σ5):=if_neg hfi
   refine (Q4t _ _ _ _ (by omega)).mono ?_
   rintro e w6 ⟨rfl,rfl⟩
   go_wp2_with fail
   refine (O.call (by omega) J5.out).mono ?_
   rintro e w7 (⟨Y7,t7,σ7,hx7,rfl,hJ7⟩ | ⟨f,hx7,hk7,b,hbb,rfl,hcell⟩)
   rotate_left
   ·exact (show bodyPost Tryz.prog Tryz.f129 (Q10 A w (fun Y t σ u=>∃ n≤most,O.J n Y t σ u) (block text most O.run t σ)) (Exit.panic _) _ w7 from Qb (Or.inr ⟨f,EA.out.trans ((Qh (Qj hx5)).trans ((Qh (Qj hx6)).trans (Ql hx7))),hk7,b,hbb,rfl,hcell⟩))
   have J7:=Hid.mk hJ7
   have E7:Hid (block text most O.run t σ = Q19 text most O.run (most + 2 - (n + 1)) (n + 1) t7 σ7):=by
    refine EA.out.trans ((Qh (Qj hx5)).trans ((Qh (Qj hx6)).trans ((Qh hx7).trans ?_)))
    rw [show most + 2 - (n + 1)=most + 1 - n by omega]
   clear hJ7
   go_wp2
   exact ⟨⟨n + 1,Y7,t7,σ7,by simp [h0],by omega,J7,E7⟩,by simp [intOf,h0];try omega⟩
  ·have h0':((n:Int) == 0)=false:=by simp;omega
   go_wp2_with fail
   refine (Q2v (Same.plus A Y') _ (O.rd J.out)).mono ?_
   rintro e w3 ⟨hk3,⟨y3,σ3,hx3,rfl,hr3⟩ | ⟨f,hx3,b,hbb,rfl,hcell⟩⟩
   rotate_left
   ·refine (show bodyPost Tryz.prog Tryz.f129 (Q10 A w (fun Y t σ u=>∃ n≤most,O.J n Y t σ u) (block text most O.run t σ)) (Exit.panic _) _ w3 from Qb (Q10.throws ((O.kp J.out).trans (hk3.mono (by simp))) (O.kp J.out) (E0.out.trans ?_) hbb hcell))
    simp only [Q19,if_neg h0]
    exact Ql (Qv hx3)
   have JB:=Hid.mk (O.scan J.out hk3 hr3)
   have EB:Hid (block text most O.run t σ = (if y3=true then retx () else Qft text most O.run (most + 1 - n) n) t' σ3):=by
    refine E0.out.trans ?_
    simp only [Q19,if_neg h0]
    exact Qh (Qj hx3)
   have c0:w3.cell? ⟨A.R,0,none⟩=some (.pointer (some ⟨A.S,0,none⟩)):=(O.rd JB.out).cells.1
   clear hk3 hr3 J E0
   cases y3 with
   | true=>
    go_wp2
    go_end0
    exact Or.inl ⟨_,t',σ3,EB.out,rfl,n,hn,JB.out⟩
   | false=>
    go_wp2_with fail
    refine (Q9D (Same.plus A Y') (O.rd JB.out)).mono ?_
    rintro e w5 ⟨hk5,⟨x5,σ5,hx5,rfl,hr5⟩ | ⟨f,hx5,b,hbb,rfl,hcell⟩⟩
    rotate_left
    ·exact (show bodyPost Tryz.prog Tryz.f129 (Q10 A w (fun Y t σ u=>∃ n≤most,O.J n Y t σ u) (block text most O.run t σ)) (Exit.panic _) _ w5 from Qb (Q10.throws ((O.kp JB.out).trans (hk5.mono (by simp))) (O.kp JB.out) (EB.out.trans (Ql (Qv hx5))) hbb hcell))
    have J5:=Hid.mk (O.scan JB.out hk5 hr5)
    clear hk5 hr5
    dsimp only [Q00]
    go_wp2_with fail
    by_cases hfi:most≤n
    ·refine (Q3k _ _ _ _ (by omega)).mono ?_
     rintro e w6 ⟨⟨b,hbb,rfl,hcell⟩,hb⟩
     exact (show bodyPost Tryz.prog Tryz.f129 (Q10 A w (fun Y t σ u=>∃ n≤most,O.J n Y t σ u) (block text most O.run t σ)) (Exit.panic _) _ w6 from Qb (Q10.throws (f:=⟨5,x5.at'⟩) ((O.kp J5.out).trans (Qa.of_below _ hb)) (O.kp J5.out) (EB.out.trans ((Qh (Qj hx5)).trans (Ql (Qv (show Q0P n most x5.at' σ5=_ from if_pos hfi))))) hbb hcell))
    have hx6:Q0P n most x5.at' σ5 = .ok ((),σ5):=if_neg hfi
    refine (Q4t _ _ _ _ (by omega)).mono ?_
    rintro e w6 ⟨rfl,rfl⟩
    go_wp2_with fail
    refine (O.call (by omega) J5.out).mono ?_
    rintro e w7 (⟨Y7,t7,σ7,hx7,rfl,hJ7⟩ | ⟨f,hx7,hk7,b,hbb,rfl,hcell⟩)
    rotate_left
    ·exact (show bodyPost Tryz.prog Tryz.f129 (Q10 A w (fun Y t σ u=>∃ n≤most,O.J n Y t σ u) (block text most O.run t σ)) (Exit.panic _) _ w7 from Qb (Or.inr ⟨f,EB.out.trans ((Qh (Qj hx5)).trans ((Qh (Qj hx6)).trans (Ql hx7))),hk7,b,hbb,rfl,hcell⟩))
    have J7:=Hid.mk hJ7
    have E7:Hid (block text most O.run t σ = Q19 text most O.run (most + 2 - (n + 1)) (n + 1) t7 σ7):=by
     refine EB.out.trans ((Qh (Qj hx5)).trans ((Qh (Qj hx6)).trans ((Qh hx7).trans ?_)))
     rw [show most + 2 - (n + 1)=most + 1 - n by omega]
    clear hJ7
    go_wp2
    exact ⟨⟨n + 1,Y7,t7,σ7,by go_num,by omega,J7,E7⟩,by simp [intOf];omega⟩
theorem Q61 (w:World):Calls Tryz.prog 128 #[] w fun e w'=>∃ q bx,e = .returned (Qr q bx).v∧w.heap.size≤q∧w.heap.size≤bx∧q≠bx∧(Qr q bx).I [] w'∧Below w.heap.size w w'∧w'.heap[bx]? = some (.cells #[.map (some q)] 64):=by
 have hmm:∀ (t:TypeId) (w:World),(Instr.makeMap t none).run Tryz.prog w = .ok (.map (some w.heap.size)) (w.alloc (.map #[] 0)):=fun _ _=>rfl
 have hmf:∀ (fn:Fn) (first cap:Array Value) (w:World),(Instr.makeFunc fn first cap).run Tryz.prog w = .ok (.func fn first cap) w:=fun _ _ _ _=>rfl
 go_enter Tryz.func128,Tryz.ntmps128
 go_wp2
 go_ret
 have h1:(w.alloc (.map #[] 0)).heap.size=w.heap.size + 1:=by simp
 refine ⟨w.heap.size,w.heap.size + 1,rfl,by omega,by omega,by omega,?_,((Below.refl w.heap.size w).alloc (Nat.le_refl _) _).alloc (by omega) _,?_⟩
 ·have hq:((w.alloc (.map #[] 0)).alloc (.cells #[.map (some w.heap.size)] 64)).heap[w.heap.size]? = some (.map #[] 0):=
   (((Qa.refl [] (w.alloc (.map #[] 0))).alloc _).block _ (by omega) (by simp)).trans (Qi (w:=w) rfl)
  exact ⟨by simp,[],rfl,hq⟩
 ·rw [← h1]
  exact Qi (w:=w.alloc (.map #[] 0)) rfl
structure StAd where
 D:Nat
 rb:Nat
 db:Nat
 cb:Nat
 q:Nat
 bx:Nat
def StAd.list (a:StAd):List Nat:=[a.D,a.rb,a.db,a.cb,a.q]
structure Q2U (A:Ad) (text:ByteArray) (w:World) (a:StAd) (n:List UInt8×Nat) (ds:List Qk) (Y:List Nat) (t:List (List UInt8)) (sl:Value) (σ:St) (u:World):Prop where
 kp:Qa [A.R,A.S,A.N] w u
 rd:Rd (A.plus Y) text σ u
 mine:∀ b∈a.list,b∈Y
 nd:a.list.Nodup
 new:∀ y∈Y,w.heap.size≤y
 own:∀ g,sl.ownBlock=some g→g∈Y∧g ∉ a.list
 set:Q0m a.q t u
 cl:Held (A.plus Y).X (Qr a.q a.bx).bs u
 box:u.heap[a.D]? = some (.cells #[.string ⟨n.1.toArray⟩,.int .i64 n.2,sl] 282)
 vr:u.heap[a.rb]? = some (.cells #[.pointer (some ⟨A.R,0,none⟩)] 101)
 vd:u.heap[a.db]? = some (.cells #[.pointer (some ⟨a.D,0,none⟩)] 182)
 vc:u.heap[a.cb]? = some (.cells #[(Qr a.q a.bx).v] 270)
 row:u.ownsRow w.heap.size 195 3 sl ds.length (ds.flatMap Q0C)
theorem Q2U.scan {A:Ad} {text:ByteArray} {w u u':World} {a:StAd} {n:List UInt8×Nat} {ds:List Qk} {Y:List Nat} {t:List (List UInt8)} {sl:Value} {σ σ' σ0:St} (h0:Rd A text σ0 w) (m:Q2U A text w a n ds Y t sl σ u) (hk:Qa [A.S] u u') (hr:Rd (A.plus Y) text σ' u') :
  Q2U A text w a n ds Y t sl σ' u':=by
 obtain ⟨l1,l2,l3,l4⟩:=h0.lt
 have far:∀ b∈a.list,b ∉ [A.S]:=fun b hb=>by have:=m.new _ (m.mine b hb);simp;omega
 refine ⟨m.kp.trans (hk.mono (by simp)),hr,m.mine,m.nd,m.new,m.own,m.set.keeps hk (far _ (by simp [StAd.list])),m.cl.keeps hk (by intro x hx;simp only [List.mem_singleton] at hx;subst hx;exact hr.mine.2.1),(hk.block _ (Qc m.box) (far _ (by simp [StAd.list]))).trans m.box,
  (hk.block _ (Qc m.vr) (far _ (by simp [StAd.list]))).trans m.vr,(hk.block _ (Qc m.vd) (far _ (by simp [StAd.list]))).trans m.vd,(hk.block _ (Qc m.vc) (far _ (by simp [StAd.list]))).trans m.vc,Qx m.row hk ?_⟩
 intro g hg
 have:=m.new _ (m.own g hg).1
 simp;omega
theorem Q2U.step {A:Ad} {text:ByteArray} {w u u1 u2 u3:World} {a:StAd} {g cap:Nat} {n:List UInt8×Nat} {ds:List Qk} {Y:List Nat} {t t':List (List UInt8)} {sl:Value} {σ σ' σ0:St} {d:Qk} (h0:Rd A text σ0 w)
  (e:Q2U A text w a n ds Y t sl σ u) (hk:Qa [A.S,a.q] u u1) (hr:Rd (A.plus Y) text σ' u1) (hn:Q0m a.q t' u1) (hb:Below u1.heap.size u1 u2)
  (hown:u3.ownsRow w.heap.size 195 3 (.slice (some ⟨g,0,none⟩) (ds.length + 1) cap) (ds.length + 1) (ds.flatMap Q0C++Q0C d))
  (hg:u2.grownBy u3 sl.ownBlock) (hat:sl.ownBlock=some g∨g=u2.heap.size) (hlt:g < u3.heap.size) :
  Q2U A text w a n (ds++[d]) (g :: Y) t' (.slice (some ⟨g,0,none⟩) (ds.length + 1) cap) σ' (u3.setCell ⟨a.D,2,none⟩ (.slice (some ⟨g,0,none⟩) (ds.length + 1) cap)):=by
 obtain ⟨hwg,_⟩:=Q2p hown (g:=g) rfl
 have iD:a.D∈a.list:=by simp [StAd.list]
 have ir:a.rb∈a.list:=by simp [StAd.list]
 have id':a.db∈a.list:=by simp [StAd.list]
 have ic:a.cb∈a.list:=by simp [StAd.list]
 have iq:a.q∈a.list:=by simp [StAd.list]
 have hnd:=e.nd
 simp only [StAd.list,List.nodup_cons,List.mem_cons,List.not_mem_nil,or_false,not_or] at hnd
 have wnew:∀ b∈a.list,w.heap.size≤b:=fun b hb=>e.new _ (e.mine b hb)
 have hlen:∀ b∈a.list,b < u.heap.size:=fun b hb=>by
  have:=e.rd.old b (List.mem_append_left _ (e.mine b hb))
  exact this
 have k1:=hk.size
 have k2:=hb.size
 have k3:=hg.size
 have gl:g ∉ a.list:=by
  rcases hat with h | h
  ·exact (e.own g h).2
  ·intro hm
   have:=hlen g hm
   omega
 have hrow:∀ b,sl.ownBlock=some b→w.heap.size≤b∧b∈(A.plus Y).X:=fun b hb=>⟨e.new _ (e.own b hb).1,List.mem_append_left _ (e.own b hb).1⟩
 have hkg:=Q0t hg
 have hks:Qa [a.D] u3 (u3.setCell ⟨a.D,2,none⟩ (.slice (some ⟨g,0,none⟩) (ds.length + 1) cap)):=(Qa.refl [a.D] u3).setIn (by simp) _
 have hkb:Qa [] u1 u2:=Qa.of_below _ hb
 obtain ⟨l1,l2,l3,l4⟩:=h0.lt
 have rl:∀ b∈a.list,b ∉ sl.ownBlock.toList:=by
  intro b hb hm
  exact (e.own b (by simpa using hm)).2 hb
 have to3:∀ b∈a.list,b≠a.q→u3.heap[b]? = u.heap[b]?:=by
  intro b hb hq
  have h1:=hlen b hb
  have h2:=wnew b hb
  exact (hkg.block _ (by omega) (rl b hb)).trans ((hkb.block _ (by omega) (by simp)).trans (hk.block _ h1 (by simp;omega)))
 have to4:∀ b∈a.list,b≠a.q→b≠a.D→(u3.setCell ⟨a.D,2,none⟩ (.slice (some ⟨g,0,none⟩) (ds.length + 1) cap)).heap[b]? = u.heap[b]?:=by
  intro b hb hq hD
  have h1:=hlen b hb
  exact (hks.block _ (by omega) (by simpa using hD)).trans (to3 b hb hq)
 have hX:∀ m∈[A.S,a.q],m∈(A.plus Y).X:=by
  intro x hx
  simp at hx
  rcases hx with rfl | rfl
  ·exact hr.mine.2.1
  ·exact List.mem_append_left _ (e.mine _ iq)
 refine ⟨?_,?_,fun b hb=>List.mem_cons_of_mem _ (e.mine b hb),e.nd,?_,?_,?_,?_,?_,?_,?_,?_,?_⟩
 ·refine (((e.kp.young hk ?_).young hkb (by simp)).young hkg ?_).young hks ?_
  ·intro m hm
   simp at hm ⊢
   rcases hm with h | h
   ·exact Or.inl (Or.inr (Or.inl h))
   ·exact Or.inr (by have:=wnew _ iq;omega)
  ·intro m hm
   exact Or.inr (hrow m (by simpa using hm)).1
  ·intro m hm
   simp only [List.mem_singleton] at hm
   subst hm
   exact Or.inr (wnew _ iD)
 ·exact h0.young (Same.plus A (g :: Y)) (Rd.grow h0 (Same.plus A Y) (hr.below hb) hg hrow hat hlt) hks (by
   intro x hx
   simp only [List.mem_singleton] at hx
   subst hx
   exact ⟨wnew _ iD,List.mem_append_left _ (List.mem_cons_of_mem _ (e.mine _ iD))⟩)
 ·intro y hy
  rcases List.mem_cons.1 hy with rfl | hy
  ·exact hwg
  ·exact e.new y hy
 ·intro g' h'
  simp only [Value.ownBlock,Option.some.injEq] at h'
  subst h'
  exact ⟨List.mem_cons_self,gl⟩
 ·exact ((hn.keeps hkb (by simp)).keeps hkg (rl _ iq)).keeps hks (by simp;omega)
 ·exact (((e.cl.keeps hk hX).keeps hkb (by simp)).grow hg (fun b hb=>(hrow b hb).2) hat).keeps hks (by
   intro x hx
   simp only [List.mem_singleton] at hx
   subst hx
   exact List.mem_cons_of_mem _ (List.mem_append_left _ (e.mine _ iD)))
 ·exact QB (i:=2) ((to3 _ iD (by omega)).trans e.box) _
 ·exact (to4 _ ir (by omega) (by omega)).trans e.vr
 ·exact (to4 _ id' (by omega) (by omega)).trans e.vd
 ·exact (to4 _ ic (by omega) (by omega)).trans e.vc
 ·have:=Qx hown hks (by
   intro g' h'
   simp only [Value.ownBlock,Option.some.injEq] at h'
   subst h'
   intro hm
   simp only [List.mem_singleton] at hm
   exact gl (hm ▸ iD))
  simpa using this
end Go.Proofs.YtmbcibgknckenaaGreatDoor
namespace Go.Proofs.YtmbcibgknckenaaGreatDoor
section
variable {P : Program} {ops : Array Oper} {Q : Exit → Act → World → Prop} {md : Region.Mode} {S : World → Prop}
abbrev ahead (P:Program) (ops:Array Oper) (Q:Exit→Act→World→Prop) (L:Nat):Exit→Act→World→Prop:=fun e a w=>match e with
 | .normal=>wpOp P ops Q L (fun a' w'=>Q .normal a' w') a w
 | .exit i=>Q (.exit i) a w
 | .goto l=>Q (.goto l) a w
 | .ret=>Q .ret a w
 | .panic c=>Q (.panic c) a w
 | .outgrown=>Q .outgrown a w
theorem Qax {L:Nat} (h:LetsOut (ahead P ops Q L)):LetsOut Q:=h
theorem Qbo {L:Nat} {o:Oper} {a:Act} {w:World} {K:Act→World→Prop} (h:o.wp P a w K (ahead P ops Q L)):o.wp P a w K Q:=by
 unfold Oper.wp at *
 generalize (execOp a.eval o).run P w=r at *
 cases r with
 | ok n w'=>cases n<;>simp only [Oper.upon] at h ⊢<;>exact h
 | halt x w'=>cases x<;>simp only [Oper.upon] at h ⊢<;>exact h
theorem Qec {L i:Nat} {a:Act} {w:World} {K:Act→World→Prop} (h:wpOp P ops (ahead P ops Q L) i K a w):wpOp P ops Q i K a w:=by
 unfold wpOp at *
 split
 ·rename_i ho
  simp only [ho] at h
  exact h
 ·rename_i o ho
  simp only [ho] at h
  split
  ·rename_i hw
   simp only [hw,if_true] at h
   rcases h with h | ⟨h1,h2⟩
   ·exact Or.inl (Qbo h)
   ·exact Or.inr ⟨h1,Qax h2⟩
  ·rename_i hw
   simp only [hw] at h
   exact h
def Q3X (md:Region.Mode) (ops:Array Oper):Bool:=(List.range ops.size).all fun j=>match ops[j]? with
 | some o=>o.after.all fun e=>!Region.binds md e || decide (e.on < j)
 | none=>true
def Q5q (md:Region.Mode) (ops:Array Oper) (L:Nat):Bool:=(List.range L).all fun j=>(List.range ops.size).any fun k=>match ops[k]? with
 | some o=>o.after.any fun e=>Region.binds md e && e.on == j
 | none=>false
theorem Q75 (h:Q3X md ops=true) {j:Nat} {o:Oper} (ho:ops[j]? = some o) {e:_} (he:e∈o.after) (hb:Region.binds md e=true):e.on < j:=by
 simp only [Q3X,List.all_eq_true,List.mem_range] at h
 have h1:=h j (Array.getElem?_eq_some_iff.1 ho).1
 simp only [ho,Array.all_eq_true_iff_forall_mem] at h1
 have h2:=h1 e he
 simpa [hb] using h2
theorem Qbp {L:Nat} (h:Q5q md ops L=true) {j:Nat} (hj:j < L):∃ k:Nat,∃ o:Oper,ops[k]? = some o∧∃ e∈o.after,Region.binds md e=true∧e.on=j:=by
 simp only [Q5q,List.all_eq_true,List.mem_range] at h
 have h1:=h j hj
 rw [List.any_eq_true] at h1
 obtain ⟨k,_,h2⟩:=h1
 cases ho:ops[k]? with
 | none=>simp [ho] at h2
 | some o=>
  simp only [ho] at h2
  obtain ⟨e,he,hb⟩:=Array.any_eq_true'.1 h2
  simp only [Bool.and_eq_true,beq_iff_eq] at hb
  exact ⟨k,o,ho,e,he,hb.1,hb.2⟩
def Q6r (md:Region.Mode) (ops:Array Oper) (listed:Array Bool):Prop:=
 ∀ j o,ops[j]? = some o→listed.getD j false=true→∀ e∈o.after,Region.binds md e=true→listed.getD e.on false=true
theorem Q6r.step {listed:Array Bool} {i:Nat} (h:Q6r md ops listed) (hi:i∈Region.ready md ops listed):Q6r md ops (listed.setIfInBounds i true):=by
 intro j o ho hl e he hb
 refine getD_set_true ?_
 by_cases hij:i=j
 ·subst hij
  obtain ⟨_,o',ho',hall⟩:=mem_ready.1 hi
  rw [ho] at ho'
  cases ho'
  exact hall e he hb
 ·rw [getD_set_ne false hij] at hl
  exact h j o ho hl e he hb
theorem Qa3 {listed:Array Bool} {j:Nat} (hj:j < listed.size):listed.getD j false=listed.getD j true:=by
 simp [hj]
theorem Q8S (hbk:Q3X md ops=true) {listed:Array Bool} (hs:listed.size=ops.size):∀ j,j < ops.size→listed.getD j true=false→Region.ready md ops listed≠[]:=by
 intro j
 induction j using Nat.strongRecOn with
 | ind j ih=>
  intro hj hl hr
  by_cases hall:∀ o,ops[j]? = some o→∀ e∈o.after,Region.binds md e=true→listed.getD e.on false=true
  ·have:j∈Region.ready md ops listed:=mem_ready.2 ⟨hl,ops[j],by simp [hj],hall _ (by simp [hj])⟩
   rw [hr] at this
   cases this
  ·simp only [Classical.not_forall] at hall
   obtain ⟨o,ho,e,he,hb,hne⟩:=hall
   have hlt:=Q75 hbk ho he hb
   refine ih e.on hlt (by omega) ?_ hr
   rw [← Qa3 (by omega)]
   simpa using hne
theorem Qed (hbk:Q3X md ops=true) {L:Nat} (hL:ops.size=L + 1) (hcv:Q5q md ops L=true) {listed:Array Bool} (hs:listed.size=ops.size) (hc:Q6r md ops listed) (hr:L∈Region.ready md ops listed) :
  ∀ n j,L - j=n→j < L→listed.getD j false=true:=by
 intro n
 induction n using Nat.strongRecOn with
 | ind n ih=>
  intro j hn hj
  obtain ⟨k,o,ho,e,he,hb,hej⟩:=Qbp hcv hj
  have hjk:=Q75 hbk ho he hb
  have hk:=(Array.getElem?_eq_some_iff.1 ho).1
  rw [hej] at hjk
  by_cases hkL:k=L
  ·subst hkL
   obtain ⟨_,o',ho',hall⟩:=mem_ready.1 hr
   rw [ho] at ho'
   cases ho'
   rw [← hej]
   exact hall e he hb
  ·have:=ih (L - k) (by omega) k rfl (by omega)
   rw [← hej]
   exact hc k o ho this e he hb
theorem Qa4 (hbk:Q3X md ops=true) {L:Nat} (hL:ops.size=L + 1) (hcv:Q5q md ops L=true) {listed:Array Bool} (hs:listed.size=ops.size) (hc:Q6r md ops listed) (hr:L∈Region.ready md ops listed) :
  Region.ready md ops (listed.setIfInBounds L true)=[]:=by
 cases h:Region.ready md ops (listed.setIfInBounds L true) with
 | nil=>rfl
 | cons j rest=>
  exfalso
  have hj:j∈Region.ready md ops (listed.setIfInBounds L true):=by rw [h];exact List.mem_cons_self
  obtain ⟨h0,o,ho,_⟩:=mem_ready.1 hj
  have hlt:=(Array.getElem?_eq_some_iff.1 ho).1
  by_cases hjL:L=j
  ·subst hjL
   simp [hs,hlt] at h0
  ·rw [getD_set_ne true hjL] at h0
   have:=Qed hbk hL hcv hs hc hr (L - j) j rfl (by omega)
   rw [Qa3 (by omega)] at this
   rw [this] at h0
   cases h0
theorem Qee (hbk:Q3X md ops=true) {L:Nat} (hL:ops.size=L + 1) (hcv:Q5q md ops L=true):∀ (fuel:Nat) (listed:Array Bool) (a:Act) (w:World),
  listed.size=ops.size→Q6r md ops listed→listed.getD L true=false→wpAnyH P md ops (ahead P ops Q L) S fuel (listed.setIfInBounds L true) a w→wpAny P md ops Q (fuel + 1) listed a w:=by
 intro fuel
 induction fuel with
 | zero=>
  intro listed a w hs hc hun H
  refine ⟨fun h=>absurd h (Q8S hbk hs L (by omega) hun),fun i hi=>?_⟩
  by_cases hiL:i=L
  ·subst hiL
   exact wpOp_mono (fun a' w' h=>⟨Qa4 hbk hL hcv hs hc hi,h⟩) H.2
  ·have:=ready_mono hi hiL
   rw [H.1] at this
   cases this
 | succ fuel ih=>
  intro listed a w hs hc hun H
  refine ⟨fun h=>absurd h (Q8S hbk hs L (by omega) hun),fun i hi=>?_⟩
  by_cases hiL:i=L
  ·subst hiL
   have hn:=Qa4 hbk hL hcv hs hc hi
   refine wpOp_mono (fun a' w' h=>⟨fun _=>h,?_⟩) (H.1 hn)
   rw [hn]
   intro j hj
   cases hj
  ·refine wpOp_mono (fun a' w' h=>?_) (Qec (H.2 i (ready_mono hi hiL)))
   refine ih (listed.setIfInBounds i true) a' w' (by simp [hs]) (hc.step hi) (by rw [getD_set_ne true hiL];exact hun) ?_
   rw [Array.setIfInBounds_comm _ _ hiL]
   exact h.2
theorem QH (S:World→Prop) {id L:Nat} {a:Act} {w:World} (hm:P.follows .mixedOrders=true) (hL:ops.size=L + 1) (hbk:Q3X .any ops=true) (hcv:Q5q .any ops L=true) (hS:S w.drew)
  (h:S w.drew→wpAnyH P .any ops (ahead P ops Q L) S L ((Array.replicate (L + 1) false).setIfInBounds L true) a w.drew):(Code.region id ops true).wp P Q a w:=by
 refine wp_region_any hm ?_
 have h1:=h hS
 rw [hL]
 refine Qee hbk hL hcv L _ a _ (by simp [hL]) ?_ (by simp) h1
 intro j o _ hl
 exfalso
 rcases Nat.lt_or_ge j (L + 1) with hj | hj
 ·simp [hj] at hl
 ·simp [hj] at hl
theorem Q02 {L:Nat} {o:Oper} {a:Act} {w:World} (ho:ops[L]? = some o)
  (h:∀ K':Act→World→Prop,Shut (∀ a w,Q .normal a w→K' a w)→if Region.wanted o (yielded ops a.tmps)=true then Oper.wp P o a w K' Q else K' (a.put o.dst undef) w) :
  ahead P ops Q L .normal a w:=wpOp_step ho (fun K' hK=>h K' (fun a w hq=>hK a w hq))
theorem tk {i:Nat} {oi:Oper} {v:Value} {fuel:Nat} {listed:Array Bool} {a:Act} {w:World} (hi:ops[i]? = some oi) (hc:(Region.noSelect ops && Region.free md ops listed i && (Region.ready md ops listed).contains i)=true)
  (hQ:∀ c a w,Q (.panic c) (a.put oi.dst v) w→Q (.panic c) a w) (hw:Region.wanted oi (yielded ops a.tmps)=true) (hS:S w) (hy:∀ u,S u→(execOp a.eval oi).run P u = .ok (.value v) u)
  (h:wpAnyH P md ops Q S fuel (listed.setIfInBounds i true) (a.put oi.dst v) w):wpAnyH P md ops Q S (fuel + 1) listed a w:=by
 simp only [Bool.and_eq_true] at hc
 exact wpAnyH_take hi hc.1.1 hc.1.2 hc.2 hQ (Or.inl ⟨hw,hy⟩) hS h
theorem Qd (l:List Value) (d:List Deferred) (k:Nat) (v:Value):Act.put ⟨l.toArray,d⟩ (some k) v=⟨(l.set k v).toArray,d⟩:=by simp [Act.put]
theorem Qe (a:Act) (v:Value):Act.put a none v=a:=rfl
end
end Go.Proofs.YtmbcibgknckenaaGreatDoor
