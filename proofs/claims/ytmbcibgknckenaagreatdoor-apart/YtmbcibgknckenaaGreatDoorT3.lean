import Derived.Test.YtmbcibgknckenaaGreatDoorT2
import Derived.Deep.AppendLies
import Derived.Deep.RegionLaw
set_option linter.all false
set_option maxRecDepth 100000
set_option maxHeartbeats 4000000
namespace Go.Proofs.YtmbcibgknckenaaGreatDoor
open Go.RowKit
open Go.MapKept
theorem Claims.add {τ : Type} {C : Claim τ} {A : Ad} {text : ByteArray} (hC : Claims C A text) (b : Nat) : Claims C (A.add b) text where
  enters := hC.enters
  stable := hC.stable
  far := hC.far
  inX := fun m hm => List.mem_cons_of_mem _ (hC.inX m hm)
  call := fun x hS hX hr hi hh => hC.call x hS (fun b hb => hX b (List.mem_cons_of_mem _ hb)) hr hi (hh.sub fun b hb => List.mem_cons_of_mem _ hb)
structure Mid {τ : Type} (C : Claim τ) (A : Ad) (text : ByteArray) (w : World) (D : Obj) (t : τ) (σ : St) (u : World) : Prop where
  k : Keeps (A.S :: C.M) w u
  r : Rd (A.add w.heap.size) text σ u
  i : C.I t u
  h : Held (A.add w.heap.size).X C.bs u
  d : u.heap[w.heap.size]? = some D
theorem Mid.start {τ : Type} {C : Claim τ} {A : Ad} {text : ByteArray} {w : World} {t : τ} {σ : St} (hC : Claims C A text) (h : Rd A text σ w) (hi : C.I t w) (hh : Held A.X C.bs w) (D : Obj) :
    Mid C A text w D t σ (w.alloc D) where
  k := (Keeps.refl _ w).alloc D
  r := h.own D
  i := hC.stable hi (Keeps.of_below [] ((Below.refl w.heap.size w).alloc (Nat.le_refl _) D)) (by simp)
  h := (hh.add (Nat.le_refl _)).keeps (Keeps.of_below [] ((Below.refl w.heap.size w).alloc (Nat.le_refl _) D)) (by simp)
  d := heap_alloc_at rfl
theorem Mid.scan {τ : Type} {C : Claim τ} {A : Ad} {text : ByteArray} {w u u' : World} {D : Obj} {t : τ} {σ0 σ σ' : St} (m : Mid C A text w D t σ u) (hC : Claims C A text) (h0 : Rd A text σ0 w) (hk : Keeps [A.S] u u') (hr : Rd (A.add w.heap.size) text σ' u') :
    Mid C A text w D t σ' u' where
  k := m.k.trans (hk.mono (by simp))
  r := hr
  i := hC.stable m.i hk (by simp; exact hC.far)
  h := m.h.keeps hk (by simp; exact List.mem_cons_of_mem _ h0.mine.2.1)
  d := (hk.block _ (lt_of_heap m.d) (by have := h0.lt.2.1; simp; omega)).trans m.d
theorem Mid.claimed {τ : Type} {C : Claim τ} {A : Ad} {text : ByteArray} {w u u' : World} {D : Obj} {t t' : τ} {σ0 σ σ' : St} (m : Mid C A text w D t σ u) (hC : Claims C A text) (h0 : Rd A text σ0 w) (hk : Keeps (A.S :: C.M) u u') (hr : Rd (A.add w.heap.size) text σ' u') (hi : C.I t' u') :
    Mid C A text w D t' σ' u' where
  k := m.k.trans hk
  r := hr
  i := hi
  h := m.h.keeps hk (fun b hb => by
    rcases List.mem_cons.1 hb with rfl | hb
    · exact List.mem_cons_of_mem _ h0.mine.2.1
    · exact List.mem_cons_of_mem _ (hC.inX b hb))
  d := (hk.block _ (lt_of_heap m.d) (fun hb => by
    rcases List.mem_cons.1 hb with e | hb
    · have := h0.lt.2.1; omega
    · have := h0.old _ (hC.inX _ hb); omega)).trans m.d
theorem Mid.below {τ : Type} {C : Claim τ} {A : Ad} {text : ByteArray} {w u u' : World} {D : Obj} {t : τ} {σ : St} (m : Mid C A text w D t σ u) (hC : Claims C A text) (hb : Below u.heap.size u u') : Mid C A text w D t σ u' where
  k := m.k.trans (Keeps.of_below _ hb)
  r := m.r.below hb
  i := hC.stable m.i (Keeps.of_below [] hb) (by simp)
  h := m.h.keeps (Keeps.of_below [] hb) (by simp)
  d := (hb.block _ (lt_of_heap m.d)).trans m.d
theorem name_at {τ : Type} {C : Claim τ} {A : Ad} {b : Nat} {text : ByteArray} {σ : St} {t : τ} {w : World} (hC : Claims C A text) (h : Rd (A.add b) text σ w) (hi : C.I t w) (hh : Held (A.add b).X C.bs w) :
    Calls Tryz.prog 119 #[.pointer (some ⟨A.R, 0, none⟩), .func (.func C.f) C.pre C.post] w (GivesX (A.S :: C.M) (A.add b) text w (name text C t σ) nameV C.I) := name_any' (hC.add b) h hi hh
theorem bound_at {A' A : Ad} (hA : Same A' A) {text : ByteArray} {σ : St} {w : World} (h : Rd A' text σ w) :
    Calls Tryz.prog 160 #[.pointer (some ⟨A.R, 0, none⟩)] w (Gives [A.S] A' text w (bound text σ) boundV) := by
  have := bound_any h
  rw [hA.1, hA.2.1] at this
  exact this
theorem typeWord_at {A' A : Ad} (hA : Same A' A) {text : ByteArray} {σ : St} {w : World} (h : Rd A' text σ w) :
    Calls Tryz.prog 162 #[.pointer (some ⟨A.R, 0, none⟩)] w (Gives [A.S] A' text w (typeWord text σ) tyV) := by
  have := typeWord_any h
  rw [hA.1, hA.2.1] at this
  exact this
theorem sees_at {A' A : Ad} (hA : Same A' A) {text : ByteArray} {σ : St} (t : ByteArray) {w : World} (h : Rd A' text σ w) :
    Calls Tryz.prog 132 #[.pointer (some ⟨A.R, 0, none⟩), .string t] w (Gives [A.S] A' text w (sees text t.data.toList σ) .bool) := by
  have := sees_any t h
  rw [hA.1, hA.2.1] at this
  exact this
abbrev declV : DeclL → Value := fun d => .agg #[.string ⟨d.t.toArray⟩, .int .i64 d.at', tyV d.ty]
def declD {τ : Type} (text : ByteArray) (n : List UInt8 × Nat) (ty : Ty) : PX τ DeclL := bndx (lift (bound text)) fun q => retx ⟨n.1, n.2, .arr ty q.1 q.2⟩
def declC2 {τ : Type} (text : ByteArray) (n : List UInt8 × Nat) (ty : Ty) (y : Bool) : PX τ DeclL := if y then declD text n ty else retx ⟨n.1, n.2, ty⟩
def declC1 {τ : Type} (text : ByteArray) (n : List UInt8 × Nat) (ty : Ty) (y : Bool) : PX τ DeclL := if y then declD text n ty else bndx (lift (sees text [60])) (declC2 text n ty)
def declC0 {τ : Type} (text : ByteArray) (ty : Ty) (n : List UInt8 × Nat) : PX τ DeclL := bndx (lift (sees text [91])) (declC1 text n ty)
def declB {τ : Type} (text : ByteArray) (C : Claim τ) (ty : Ty) (y : Bool) : PX τ DeclL := if y then bndx (name text C) fun n => retx ⟨n.1, n.2, .opt ty⟩ else bndx (name text C) (declC0 text ty)
def declA3 {τ : Type} (text : ByteArray) (C : Claim τ) (ty : Ty) : PX τ DeclL := bndx (lift (accept text [42])) (declB text C ty)
def declA2 {τ : Type} (text : ByteArray) (C : Claim τ) (y : Bool) : PX τ DeclL :=
  if y then bndx (name text C) fun n => bndx (lift (most text)) fun q => retx ⟨n.1, n.2, .str q.1 q.2⟩ else bndx (lift (typeWord text)) (declA3 text C)
def declA1 {τ : Type} (text : ByteArray) (C : Claim τ) (y : Bool) : PX τ DeclL :=
  if y then bndx (name text C) fun n => bndx (lift (bound text)) fun q => retx ⟨n.1, n.2, .opaq q.1 q.2⟩ else bndx (lift (accept text [115, 116, 114, 105, 110, 103])) (declA2 text C)
def decl {τ : Type} (text : ByteArray) (C : Claim τ) : PX τ DeclL := bndx (lift (accept text [111, 112, 97, 113, 117, 101])) (declA1 text C)
theorem fin3 {A : Ad} {text : ByteArray} {σ0 σ' : St} {w u : World} {M : List Nat} (h : Rd A text σ0 w) (hk : Keeps M w u) (hr : Rd (A.add w.heap.size) text σ' u) (v0 v1 v2 : Value) :
    Keeps M w (((u.setCell ⟨w.heap.size, 0, none⟩ v0).setCell ⟨w.heap.size, 1, none⟩ v1).setCell ⟨w.heap.size, 2, none⟩ v2) ∧ Rd A text σ' (((u.setCell ⟨w.heap.size, 0, none⟩ v0).setCell ⟨w.heap.size, 1, none⟩ v1).setCell ⟨w.heap.size, 2, none⟩ v2) := by
  refine ⟨((hk.setNew (Nat.le_refl _) _).setNew (Nat.le_refl _) _).setNew (Nat.le_refl _) _, Rd.drop (b := w.heap.size) h.mine ?_⟩
  have hs := fun {u : World} (hu : Rd (A.add w.heap.size) text σ' u) (i : Nat) (v : Value) => Rd.setNew (A' := A.add w.heap.size) h ⟨rfl, rfl, rfl, rfl⟩ hu (p := ⟨w.heap.size, i, none⟩) (Nat.le_refl _) (by simp [Ad.add]) v
  exact hs (hs (hs hr 0 _) 1 _) 2 _
theorem bound3 {b : Nat} {k t a : Value} {T : TypeId} {w : World} (h : w.heap[b]? = some (.cells #[k, t, a] T)) :
    w.cell? ⟨b, 0, none⟩ = some k ∧ w.cell? ⟨b, 1, none⟩ = some t ∧ w.cell? ⟨b, 2, none⟩ = some a ∧ ∀ i, w.frozen? ⟨b, i, none⟩ = false := by
  refine ⟨?_, ?_, ?_, ?_⟩ <;> simp [World.cell?, World.frozen?, h]
theorem set3_stable {τ : Type} {C : Claim τ} {A : Ad} {text : ByteArray} {u : World} {t : τ} {b : Nat} (hC : Claims C A text) (hb : b ∉ C.M) (hi : C.I t u) (v0 v1 v2 : Value) :
    C.I t (((u.setCell ⟨b, 0, none⟩ v0).setCell ⟨b, 1, none⟩ v1).setCell ⟨b, 2, none⟩ v2) :=
  hC.stable hi ((((Keeps.refl [b] u).setIn (p := ⟨b, 0, none⟩) (by simp) _).setIn (p := ⟨b, 1, none⟩) (by simp) _).setIn (p := ⟨b, 2, none⟩) (by simp) _) (by simpa using hb)
theorem declaration_any {τ : Type} {C : Claim τ} {A : Ad} {text : ByteArray} {σ : St} {t : τ} {w : World} (hC : Claims C A text) (h : Rd A text σ w) (hi : C.I t w) (hh : Held A.X C.bs w) :
    Calls Tryz.prog 125 #[.pointer (some ⟨A.R, 0, none⟩), .func (.func C.f) C.pre C.post] w (GivesX (A.S :: C.M) A text w (decl text C t σ) declV C.I) := by
  have hwM : w.heap.size ∉ C.M := fun hm => by have := h.old _ (hC.inX _ hm); omega
  have m0 := Mid.start hC h hi hh (.cells #[.string ⟨#[]⟩, .int .i64 0, .nilIface] 195)
  go_enter Tryz.func125, Tryz.ntmps125
  go_wp2_with fail
  refine (accept_at (Same.add A _) _ m0.r).mono ?_
  rintro e w1 ⟨hk1, ⟨y1, σ1, hx1, rfl, hr1⟩ | ⟨f, hx1, b, hbb, rfl, hcell⟩⟩
  rotate_left
  · exact bodyPost_panics (GivesX.throws (m0.k.trans (hk1.mono (by simp))) m0.k (bndx_err (lift_err hx1)) hbb hcell)
  have m1 := m0.scan hC h hk1 hr1
  clear m0 hk1 hr1
  have E1 : Hid (decl text C t σ = declA1 text C y1 t σ1) := bndx_ok (lift_ok hx1)
  cases y1 with
  | true =>
    go_wp2_with fail
    refine (name_at hC m1.r m1.i m1.h).mono ?_
    rintro e w2 ⟨hk2, ⟨n, t2, σ2, hx2, rfl, hr2, hi2⟩ | ⟨f, hx2, b, hbb, rfl, hcell⟩⟩
    rotate_left
    · exact bodyPost_panics (GivesX.throws (m1.k.trans hk2) m1.k (E1.out.trans (bndx_err hx2)) hbb hcell)
    have m2 := m1.claimed hC h hk2 hr2 hi2
    clear hk2 hr2 hi2 m1
    have E2 : Hid (decl text C t σ = bndx (lift (bound text)) (fun q => retx ⟨n.1, n.2, .opaq q.1 q.2⟩) t2 σ2) := E1.out.trans (bndx_ok hx2)
    clear E1
    dsimp only [nameV]
    go_wp2_with fail
    have m3 := m2.below hC (((Below.refl w2.heap.size w2).alloc (Nat.le_refl _) (.cells #[.string ⟨n.1.toArray⟩, .int .i64 n.2] 116)).drew)
    have hvb := heap_alloc_at (w := w2) (o := .cells #[.string ⟨n.1.toArray⟩, .int .i64 n.2] 116) rfl
    obtain ⟨z0, z1, _⟩ := bound2 hvb
    have Z0 := Hid.mk z0
    have Z1 := Hid.mk z1
    have HM3 := Hid.mk m3
    have hS2 : A.S < w2.heap.size := by have := h.lt.2.1; have := m2.k.size; omega
    have hw2 : w.heap.size < w2.heap.size := lt_of_heap m2.d
    have hne1 : ¬ w.heap.size = w2.heap.size := by omega
    have hne2 : ¬ w2.heap.size = w.heap.size := by omega
    have HC := Hid.mk hC
    have HH := Hid.mk h
    clear z0 z1 hvb m3 m2 hC
    go_region_held2 (fun w' => w'.cell? ⟨w2.heap.size, 0, none⟩ = some (.string ⟨n.1.toArray⟩) ∧ w'.cell? ⟨w2.heap.size, 1, none⟩ = some (.int .i64 n.2)) (go_keep)
      (first | (go_at_call 160; refine (bound_at (Same.add A _) HM3.out.r).mono ?_; rintro e w3 ⟨hk, ⟨q, σ3, hx, rfl, hr⟩ | ⟨f, hx, b, hbb, rfl, hcell⟩⟩; rotate_left; exact bodyPost_panics (GivesX.throws (HM3.out.k.trans (hk.mono (by simp))) HM3.out.k (E2.out.trans (bndx_err (lift_err hx))) hbb hcell); dsimp only [boundV]; have m4 := HM3.out.scan HC.out HH.out hk hr; obtain ⟨r0, r1, r2, hfrR⟩ := bound3 m4.d; have q0 := hk.cell (b := w2.heap.size) (by simp; omega) Z0.out; have q1 := hk.cell (b := w2.heap.size) (by simp; omega) Z1.out; have HM4 := Hid.mk m4; have Hx := Hid.mk hx; clear m4 hk hx hr))
    go_wp2
    obtain ⟨f1, f2⟩ := fin3 h HM4.out.k HM4.out.r (.string ⟨n.1.toArray⟩) (.int .i64 n.2) (tyV (.opaq q.1 q.2))
    refine bodyPost_ret (v := .agg #[.string ⟨n.1.toArray⟩, .int .i64 n.2, .iface 306 (.agg #[.int .i64 q.1, .bool q.2])]) (by simp [results, Tryz.results125, go_sem, r0, r1, r2]) rfl (GivesX.ok (a := ⟨n.1, n.2, .opaq q.1 q.2⟩) (t := t2) f1 (E2.out.trans (bndx_ok (lift_ok Hx.out))) rfl f2 ?_)
    exact set3_stable HC.out hwM HM4.out.i _ _ _
  | false =>
    go_wp2_with fail
    refine (accept_at (Same.add A _) _ m1.r).mono ?_
    rintro e w2 ⟨hk2, ⟨y2, σ2, hx2, rfl, hr2⟩ | ⟨f, hx2, b, hbb, rfl, hcell⟩⟩
    rotate_left
    · exact bodyPost_panics (GivesX.throws (m1.k.trans (hk2.mono (by simp))) m1.k (E1.out.trans (bndx_err (lift_err hx2))) hbb hcell)
    have m2 := m1.scan hC h hk2 hr2
    clear m1 hk2 hr2
    have E2 : Hid (decl text C t σ = declA2 text C y2 t σ2) := E1.out.trans (bndx_ok (lift_ok hx2))
    clear E1
    cases y2 with
    | true =>
      go_wp2_with fail
      refine (name_at hC m2.r m2.i m2.h).mono ?_
      rintro e w3 ⟨hk, ⟨n, t3, σ3, hx3, rfl, hr, hi2⟩ | ⟨f, hx3, b, hbb, rfl, hcell⟩⟩
      rotate_left
      · exact bodyPost_panics (GivesX.throws (m2.k.trans hk) m2.k (E2.out.trans (bndx_err hx3)) hbb hcell)
      have m3 := m2.claimed hC h hk hr hi2
      clear hk hr hi2 m2
      dsimp only [nameV]
      have E3 : Hid (decl text C t σ = bndx (lift (most text)) (fun q => retx ⟨n.1, n.2, .str q.1 q.2⟩) t3 σ3) := E2.out.trans (bndx_ok hx3)
      clear E2
      go_wp2_with fail
      have m8 := m3.below hC (((Below.refl w3.heap.size w3).alloc (Nat.le_refl _) (.cells #[.string ⟨n.1.toArray⟩, .int .i64 n.2] 116)).drew)
      have hvb := heap_alloc_at (w := w3) (o := .cells #[.string ⟨n.1.toArray⟩, .int .i64 n.2] 116) rfl
      obtain ⟨z0, z1, _⟩ := bound2 hvb
      have Z0 := Hid.mk z0
      have Z1 := Hid.mk z1
      have HM3 := Hid.mk m8
      have hS2 : A.S < w3.heap.size := by have := h.lt.2.1; have := m3.k.size; omega
      have hw2 : w.heap.size < w3.heap.size := lt_of_heap m3.d
      have hne1 : ¬ w.heap.size = w3.heap.size := by omega
      have hne2 : ¬ w3.heap.size = w.heap.size := by omega
      have HC := Hid.mk hC
      have HH := Hid.mk h
      clear z0 z1 hvb m8 m3 hC
      go_region_held2 (fun w' => w'.cell? ⟨w3.heap.size, 0, none⟩ = some (.string ⟨n.1.toArray⟩) ∧ w'.cell? ⟨w3.heap.size, 1, none⟩ = some (.int .i64 n.2)) (go_keep)
        (first | (go_at_call 161; refine (most_at (Same.add A _) HM3.out.r).mono ?_; rintro e w9 ⟨hk, ⟨q, σ9, hx9, rfl, hr⟩ | ⟨f, hx9, b, hbb, rfl, hcell⟩⟩; rotate_left; exact bodyPost_panics (GivesX.throws (HM3.out.k.trans (hk.mono (by simp))) HM3.out.k (E3.out.trans (bndx_err (lift_err hx9))) hbb hcell); dsimp only [boundV]; have m9 := HM3.out.scan HC.out HH.out hk hr; obtain ⟨r0, r1, r2, hfrR⟩ := bound3 m9.d; have q0 := hk.cell (b := w3.heap.size) (by simp; omega) Z0.out; have q1 := hk.cell (b := w3.heap.size) (by simp; omega) Z1.out; have HM4 := Hid.mk m9; have Hx := Hid.mk hx9; clear m9 hk hx9 hr))
      go_wp2
      obtain ⟨f1, f2⟩ := fin3 h HM4.out.k HM4.out.r (.string ⟨n.1.toArray⟩) (.int .i64 n.2) (tyV (.str q.1 q.2))
      refine bodyPost_ret (v := .agg #[.string ⟨n.1.toArray⟩, .int .i64 n.2, .iface 309 (.agg #[.int .i64 q.1, .bool q.2])]) (by simp [results, Tryz.results125, go_sem, r0, r1, r2]) rfl (GivesX.ok (a := ⟨n.1, n.2, .str q.1 q.2⟩) (t := t3) f1 (E3.out.trans (bndx_ok (lift_ok Hx.out))) rfl f2 ?_)
      exact set3_stable HC.out hwM HM4.out.i _ _ _
    | false =>
      go_wp2_with fail
      refine (typeWord_at (Same.add A _) m2.r).mono ?_
      rintro e w3 ⟨hk3, ⟨ty, σ3, hx3, rfl, hr3⟩ | ⟨f, hx3, b, hbb, rfl, hcell⟩⟩
      rotate_left
      · exact bodyPost_panics (GivesX.throws (m2.k.trans (hk3.mono (by simp))) m2.k (E2.out.trans (bndx_err (lift_err hx3))) hbb hcell)
      have m3 := m2.scan hC h hk3 hr3
      clear m2 hk3 hr3
      have E3 : Hid (decl text C t σ = declA3 text C ty t σ3) := E2.out.trans (bndx_ok (lift_ok hx3))
      clear E2
      obtain ⟨T, vt, Hvt⟩ : ∃ T vt, Hid (tyV ty = .iface T vt) := by cases ty <;> exact ⟨_, _, rfl⟩
      rw [Hvt.out]
      go_wp2_with fail
      refine (accept_at (Same.add A _) _ m3.r).mono ?_
      rintro e w4 ⟨hk4, ⟨y4, σ4, hx4, rfl, hr4⟩ | ⟨f, hx4, b, hbb, rfl, hcell⟩⟩
      rotate_left
      · exact bodyPost_panics (GivesX.throws (m3.k.trans (hk4.mono (by simp))) m3.k (E3.out.trans (bndx_err (lift_err hx4))) hbb hcell)
      have m4 := m3.scan hC h hk4 hr4
      clear m3 hk4 hr4
      have E4 : Hid (decl text C t σ = declB text C ty y4 t σ4) := E3.out.trans (bndx_ok (lift_ok hx4))
      clear E3
      cases y4 with
      | true =>
        go_wp2_with fail
        refine (name_at hC m4.r m4.i m4.h).mono ?_
        rintro e w5 ⟨hk, ⟨n, t5, σ5, hx5, rfl, hr, hi2⟩ | ⟨f, hx5, b, hbb, rfl, hcell⟩⟩
        rotate_left
        · exact bodyPost_panics (GivesX.throws (m4.k.trans hk) m4.k (E4.out.trans (bndx_err hx5)) hbb hcell)
        have m5 := m4.claimed hC h hk hr hi2
        clear hk hr hi2 m4
        dsimp only [nameV]
        have E5 : Hid (decl text C t σ = retx ⟨n.1, n.2, .opt ty⟩ t5 σ5) := E4.out.trans (bndx_ok hx5)
        obtain ⟨r0, r1, r2, hfrR⟩ := bound3 m5.d
        have HM5 := Hid.mk m5
        clear m5
        go_wp2
        obtain ⟨f1, f2⟩ := fin3 h HM5.out.k HM5.out.r (.string ⟨n.1.toArray⟩) (.int .i64 n.2) (.iface 314 (.agg #[.iface T vt]))
        refine bodyPost_ret (v := .agg #[.string ⟨n.1.toArray⟩, .int .i64 n.2, .iface 314 (.agg #[.iface T vt])]) (by simp [results, Tryz.results125, go_sem, r0, r1, r2]) rfl (GivesX.ok (a := ⟨n.1, n.2, .opt ty⟩) (t := t5) f1 (E5.out.trans rfl) (by simp only [declV, tyV, Hvt.out]) f2 ?_)
        exact set3_stable hC hwM HM5.out.i _ _ _
      | false =>
        go_wp2_with fail
        refine (name_at hC m4.r m4.i m4.h).mono ?_
        rintro e w5 ⟨hk, ⟨n, t5, σ5, hx5, rfl, hr, hi2⟩ | ⟨f, hx5, b, hbb, rfl, hcell⟩⟩
        rotate_left
        · exact bodyPost_panics (GivesX.throws (m4.k.trans hk) m4.k (E4.out.trans (bndx_err hx5)) hbb hcell)
        have m5 := m4.claimed hC h hk hr hi2
        clear hk hr hi2 m4
        dsimp only [nameV]
        have E5 : Hid (decl text C t σ = declC0 text ty n t5 σ5) := E4.out.trans (bndx_ok hx5)
        clear E4
        have hS2 : A.S < w5.heap.size := by have := h.lt.2.1; have := m5.k.size; omega
        have hw2 : w.heap.size < w5.heap.size := lt_of_heap m5.d
        have hne1 : ¬ w.heap.size = w5.heap.size := by omega
        have hne2 : ¬ w5.heap.size = w.heap.size := by omega
        have m6 := m5.below hC ((Below.refl w5.heap.size w5).alloc (Nat.le_refl _) (.cells #[.string ⟨n.1.toArray⟩, .int .i64 n.2] 116))
        obtain ⟨z0, z1, _⟩ := bound2 (heap_alloc_at (w := w5) (o := .cells #[.string ⟨n.1.toArray⟩, .int .i64 n.2] 116) rfl)
        clear m5
        go_wp2_with fail
        refine (sees_at (Same.add A _) _ m6.r).mono ?_
        rintro e w6 ⟨hk, ⟨y6, σ6, hx6, rfl, hr⟩ | ⟨f, hx6, b, hbb, rfl, hcell⟩⟩
        rotate_left
        · exact bodyPost_panics (GivesX.throws (m6.k.trans (hk.mono (by simp))) m6.k (E5.out.trans (bndx_err (lift_err hx6))) hbb hcell)
        have m7 := m6.scan hC h hk hr
        have z0 := hk.cell (b := w5.heap.size) (by simp; omega) z0
        have z1 := hk.cell (b := w5.heap.size) (by simp; omega) z1
        clear hk hr m6
        have E6 : Hid (decl text C t σ = declC1 text n ty y6 t5 σ6) := E5.out.trans (bndx_ok (lift_ok hx6))
        clear E5
        cases y6 with
        | true =>
          have E7 : Hid (decl text C t σ = bndx (lift (bound text)) (fun q => retx ⟨n.1, n.2, .arr ty q.1 q.2⟩) t5 σ6) := E6.out
          go_wp2_with fail
          have m8 := m7.below hC ((Below.refl w6.heap.size w6).drew)
          have HM3 := Hid.mk m8
          have HC := Hid.mk hC
          have HH := Hid.mk h
          clear m8 m7 hC
          go_region_held2 (fun w' => w'.cell? ⟨w5.heap.size, 0, none⟩ = some (.string ⟨n.1.toArray⟩) ∧ w'.cell? ⟨w5.heap.size, 1, none⟩ = some (.int .i64 n.2)) (go_keep)
            (first | (go_at_call 160; refine (bound_at (Same.add A _) HM3.out.r).mono ?_; rintro e w9 ⟨hk, ⟨q, σ9, hx9, rfl, hr⟩ | ⟨f, hx9, b, hbb, rfl, hcell⟩⟩; rotate_left; exact bodyPost_panics (GivesX.throws (HM3.out.k.trans (hk.mono (by simp))) HM3.out.k (E7.out.trans (bndx_err (lift_err hx9))) hbb hcell); dsimp only [boundV]; have m9 := HM3.out.scan HC.out HH.out hk hr; obtain ⟨r0, r1, r2, hfrR⟩ := bound3 m9.d; have q0 := hk.cell (b := w5.heap.size) (by simp; omega) z0; have q1 := hk.cell (b := w5.heap.size) (by simp; omega) z1; have HM4 := Hid.mk m9; have Hx := Hid.mk hx9; clear m9 hk hx9 hr))
          go_wp2
          obtain ⟨f1, f2⟩ := fin3 h HM4.out.k HM4.out.r (.string ⟨n.1.toArray⟩) (.int .i64 n.2) (.iface 311 (.agg #[.iface T vt, .int .i64 q.1, .bool q.2]))
          refine bodyPost_ret (v := .agg #[.string ⟨n.1.toArray⟩, .int .i64 n.2, .iface 311 (.agg #[.iface T vt, .int .i64 q.1, .bool q.2])]) (by simp [results, Tryz.results125, go_sem, r0, r1, r2]) rfl (GivesX.ok (a := ⟨n.1, n.2, .arr ty q.1 q.2⟩) (t := t5) f1 (E7.out.trans (bndx_ok (lift_ok Hx.out))) (by simp only [declV, tyV, Hvt.out]) f2 ?_)
          exact set3_stable HC.out hwM HM4.out.i _ _ _
        | false =>
          go_wp2_with fail
          refine (sees_at (Same.add A _) _ m7.r).mono ?_
          rintro e w7 ⟨hk, ⟨y7, σ7, hx7, rfl, hr⟩ | ⟨f, hx7, b, hbb, rfl, hcell⟩⟩
          rotate_left
          · exact bodyPost_panics (GivesX.throws (m7.k.trans (hk.mono (by simp))) m7.k (E6.out.trans (bndx_err (lift_err hx7))) hbb hcell)
          have m8 := m7.scan hC h hk hr
          have z0 := hk.cell (b := w5.heap.size) (by simp; omega) z0
          have z1 := hk.cell (b := w5.heap.size) (by simp; omega) z1
          clear hk hr m7
          have E7 : Hid (decl text C t σ = declC2 text n ty y7 t5 σ7) := E6.out.trans (bndx_ok (lift_ok hx7))
          clear E6
          cases y7 with
          | true =>
            have E8 : Hid (decl text C t σ = bndx (lift (bound text)) (fun q => retx ⟨n.1, n.2, .arr ty q.1 q.2⟩) t5 σ7) := E7.out
            go_wp2_with fail
            have m8' := m8.below hC ((Below.refl w7.heap.size w7).drew)
            have HM3 := Hid.mk m8'
            have HC := Hid.mk hC
            have HH := Hid.mk h
            clear m8' m8 hC
            go_region_held2 (fun w' => w'.cell? ⟨w5.heap.size, 0, none⟩ = some (.string ⟨n.1.toArray⟩) ∧ w'.cell? ⟨w5.heap.size, 1, none⟩ = some (.int .i64 n.2)) (go_keep)
              (first | (go_at_call 160; refine (bound_at (Same.add A _) HM3.out.r).mono ?_; rintro e w9 ⟨hk, ⟨q, σ9, hx9, rfl, hr⟩ | ⟨f, hx9, b, hbb, rfl, hcell⟩⟩; rotate_left; exact bodyPost_panics (GivesX.throws (HM3.out.k.trans (hk.mono (by simp))) HM3.out.k (E8.out.trans (bndx_err (lift_err hx9))) hbb hcell); dsimp only [boundV]; have m9 := HM3.out.scan HC.out HH.out hk hr; obtain ⟨r0, r1, r2, hfrR⟩ := bound3 m9.d; have q0 := hk.cell (b := w5.heap.size) (by simp; omega) z0; have q1 := hk.cell (b := w5.heap.size) (by simp; omega) z1; have HM4 := Hid.mk m9; have Hx := Hid.mk hx9; clear m9 hk hx9 hr))
            go_wp2
            obtain ⟨f1, f2⟩ := fin3 h HM4.out.k HM4.out.r (.string ⟨n.1.toArray⟩) (.int .i64 n.2) (.iface 311 (.agg #[.iface T vt, .int .i64 q.1, .bool q.2]))
            refine bodyPost_ret (v := .agg #[.string ⟨n.1.toArray⟩, .int .i64 n.2, .iface 311 (.agg #[.iface T vt, .int .i64 q.1, .bool q.2])]) (by simp [results, Tryz.results125, go_sem, r0, r1, r2]) rfl (GivesX.ok (a := ⟨n.1, n.2, .arr ty q.1 q.2⟩) (t := t5) f1 (E8.out.trans (bndx_ok (lift_ok Hx.out))) (by simp only [declV, tyV, Hvt.out]) f2 ?_)
            exact set3_stable HC.out hwM HM4.out.i _ _ _
          | false =>
            have E8 : Hid (decl text C t σ = retx ⟨n.1, n.2, ty⟩ t5 σ7) := E7.out
            obtain ⟨r0, r1, r2, hfrR⟩ := bound3 m8.d
            have HM5 := Hid.mk m8
            clear m8
            go_wp2
            obtain ⟨f1, f2⟩ := fin3 h HM5.out.k HM5.out.r (.string ⟨n.1.toArray⟩) (.int .i64 n.2) (.iface T vt)
            refine bodyPost_ret (v := .agg #[.string ⟨n.1.toArray⟩, .int .i64 n.2, .iface T vt]) (by simp [results, Tryz.results125, go_sem, r0, r1, r2]) rfl (GivesX.ok (a := ⟨n.1, n.2, ty⟩) (t := t5) f1 (E8.out.trans rfl) (by simp only [declV, Hvt.out]) f2 ?_)
            exact set3_stable hC hwM HM5.out.i _ _ _
end Go.Proofs.YtmbcibgknckenaaGreatDoor
set_option linter.all false
set_option maxRecDepth 100000
set_option maxHeartbeats 4000000
namespace Go.Proofs.YtmbcibgknckenaaGreatDoor
open Go.RowKit
open Go.MapKept
def defineC (A : Ad) : Claim Unit where
  f := 120
  pre := #[.pointer (some ⟨A.R, 0, none⟩)]
  post := #[]
  M := [A.N]
  bs := []
  I := fun _ _ => True
  run := fun x => lift (define x)
theorem define_enters (args : Array Value) (w : World) : (callFunc 120 args).run Tryz.prog w = .ok (.enter 120 args) w := by kernel_rfl
theorem among1_enters (args : Array Value) (w : World) : (callFunc 164 args).run Tryz.prog w = .ok (.enter 164 args) w := by kernel_rfl
theorem claims_define {A : Ad} {text : ByteArray} {σ0 : St} {w0 : World} (h0 : Rd A text σ0 w0) : Claims (defineC A) A text where
  enters := define_enters
  stable := fun _ _ _ => trivial
  far := by simp [defineC]; exact h0.apart.2.2.2.1
  inX := by simp [defineC]; exact h0.mine.2.2.1
  call := by
    intro A' σ t W x hS _ hr _ _
    have := define_any x hr
    rw [hS.1, hS.2.2.1] at this
    refine Calls.mono (R := Gives [A.N] A' text W (define x σ) unitV) this ?_
    rintro e w' ⟨hk, ⟨a, σ', hx, rfl, hr'⟩ | ⟨f, hx, ht⟩⟩
    · exact ⟨hk, Or.inl ⟨a, t, σ', lift_ok hx, rfl, hr', trivial⟩⟩
    · exact ⟨hk, Or.inr ⟨f, lift_err hx, ht⟩⟩
def amongC (q bx : Nat) : Claim (List (List UInt8)) where
  f := 164
  pre := #[]
  post := #[.pointer (some ⟨bx, 0, none⟩)]
  M := [q]
  bs := [(bx, .cells #[.map (some q)] 64)]
  I := SetAt q
  run := fun x => side' (claimS x)
theorem claims_among {A : Ad} {text : ByteArray} {q bx : Nat} (hq : Free A q) : Claims (amongC q bx) A text where
  enters := among1_enters
  stable := fun hi hk hm => hi.keeps hk (fun hq => hm _ hq (by simp [amongC]))
  far := by simp [amongC]; exact fun e => hq.2.2.1 e.symm
  inX := by simp [amongC]; exact hq.1
  call := by
    intro A' σ t W x hS hX hr hi hh
    have hb : W.cell? ⟨bx, 0, none⟩ = some (.map (some q)) := by
      have := (hh (bx, .cells #[.map (some q)] 64) (by simp [amongC])).1
      simp at this
      simp [World.cell?, this]
    refine Calls.mono (among1_any x hi hb) ?_
    have hf : Free A' q := ⟨hX _ hq.1, by rw [hS.1]; exact hq.2.1, by rw [hS.2.1]; exact hq.2.2.1, by rw [hS.2.2.1]; exact hq.2.2.2.1, by rw [hS.2.2.2]; exact hq.2.2.2.2⟩
    rintro e w' ⟨hk, ⟨l', hx, rfl, hs⟩ | ⟨f, hx, ht⟩⟩
    · obtain ⟨_, vs, _, hm⟩ := id hi
      exact ⟨hk, Or.inl ⟨(), l', σ, side_ok hx, rfl, hr.turned hk hf hm, hs⟩⟩
    · exact ⟨hk, Or.inr ⟨f, side_err hx, ht⟩⟩
end Go.Proofs.YtmbcibgknckenaaGreatDoor
set_option linter.all false
set_option maxRecDepth 100000
set_option maxHeartbeats 4000000
namespace Go.Proofs.YtmbcibgknckenaaGreatDoor
open Go.RowKit
open Go.MapKept
def bare {α : Type} (m : PX Unit α) : PM α := fun σ => match m () σ with
  | .ok (a, _, σ') => .ok (a, σ')
  | .error f => .error f
theorem bare_ok {α : Type} {m : PX Unit α} {σ σ' : St} {a : α} {u : Unit} (h : m () σ = .ok (a, u, σ')) : bare m σ = .ok (a, σ') := by simp only [bare, h]
theorem bare_err {α : Type} {m : PX Unit α} {σ : St} {f : Mar.Fault} (h : m () σ = .error f) : bare m σ = .error f := by simp only [bare, h]
def noAd : Ad := ⟨0, 0, 0, 0, []⟩
def declDef (text : ByteArray) : PM DeclL := bare (decl text (defineC noAd))
def nameDef (text : ByteArray) : PM (List UInt8 × Nat) := bare (name text (defineC noAd))
def GivesD (M : List Nat) (A : Ad) (text : ByteArray) (w : World) (r : Except Mar.Fault (DefL × St)) (e : Ending) (w' : World) : Prop :=
  Keeps M w w' ∧ ((∃ d σ' b bs, r = .ok (d, σ') ∧ e = .returned (.pointer (some ⟨b, 0, none⟩)) ∧ Rd A text σ' w' ∧ DefIn bs b d ∧ Held A.X bs w') ∨ (∃ f, r = .error f ∧ Thrown w f.no f.at' e w'))
theorem GivesD.throws {M M' : List Nat} {A : Ad} {text : ByteArray} {w w1 w' : World} {r : Except Mar.Fault (DefL × St)} {f : Mar.Fault} {b : Nat}
    (hk : Keeps M w w') (hk1 : Keeps M' w w1) (hr : r = .error f) (hb : w1.heap.size ≤ b) (hc : w'.heap[b]? = some (.cells #[.int .i64 f.no, .int .i64 f.at'] 83)) :
    GivesD M A text w r (.panicked [{ v := .iface 79 (.pointer (some ⟨b, 0, none⟩)), recovered := false }]) w' :=
  ⟨hk, Or.inr ⟨f, hr, b, Nat.le_trans hk1.size hb, rfl, hc⟩⟩
theorem declDef_calls {A : Ad} {text : ByteArray} {σ : St} {w : World} (h : Rd A text σ w) :
    Calls Tryz.prog 125 #[.pointer (some ⟨A.R, 0, none⟩), .func (.func 120) #[.pointer (some ⟨A.R, 0, none⟩)] #[]] w (Gives [A.S, A.N] A text w (declDef text σ) declV) := by
  refine Calls.mono (declaration_any (C := defineC A) (t := ()) (claims_define h) h trivial (fun p hp => by simp [defineC] at hp)) ?_
  rintro e w' ⟨hk, ⟨a, t, σ', hx, rfl, hr, _⟩ | ⟨f, hx, ht⟩⟩
  · exact ⟨hk, Or.inl ⟨a, σ', bare_ok (u := t) hx, rfl, hr⟩⟩
  · exact ⟨hk, Or.inr ⟨f, bare_err hx, ht⟩⟩
theorem nameDef_calls {A : Ad} {text : ByteArray} {σ : St} {w : World} (h : Rd A text σ w) :
    Calls Tryz.prog 119 #[.pointer (some ⟨A.R, 0, none⟩), .func (.func 120) #[.pointer (some ⟨A.R, 0, none⟩)] #[]] w (Gives [A.S, A.N] A text w (nameDef text σ) nameV) := by
  refine Calls.mono (name_any' (C := defineC A) (t := ()) (claims_define h) h trivial (fun p hp => by simp [defineC] at hp)) ?_
  rintro e w' ⟨hk, ⟨a, t, σ', hx, rfl, hr, _⟩ | ⟨f, hx, ht⟩⟩
  · exact ⟨hk, Or.inl ⟨a, σ', bare_ok (u := t) hx, rfl, hr⟩⟩
  · exact ⟨hk, Or.inr ⟨f, bare_err hx, ht⟩⟩
def typedef (text : ByteArray) (at' : Nat) : PM DefL := bnd (newType at') fun _ => bnd (declDef text) fun d => bnd (expect text [59]) fun _ => ret (.typedef d)
theorem typedef_any {A : Ad} {text : ByteArray} {σ : St} (at' : Nat) {w : World} (h : Rd A text σ w) :
    Calls Tryz.prog 87 #[.pointer (some ⟨A.R, 0, none⟩), .int .i64 at'] w (GivesD [A.R, A.S, A.N] A text w (typedef text at' σ)) := by
  have hmf : ∀ (fn : Fn) (first cap : Array Value) (w : World), (Instr.makeFunc fn first cap).run Tryz.prog w = .ok (.func fn first cap) w := fun _ _ _ _ => rfl
  go_enter Tryz.func87, Tryz.ntmps87
  go_wp2_with fail
  refine (newType_any at' h).mono ?_
  rintro e w1 ⟨hk1, ⟨u, σ1, hx1, rfl, hr1⟩ | ⟨f, hx1, b, hbb, rfl, hcell⟩⟩
  rotate_left
  · exact bodyPost_panics (GivesD.throws (hk1.mono (by simp)) (Keeps.refl [] _) (bnd_err hx1) hbb hcell)
  have hK1 := hk1.mono (M' := [A.R, A.S, A.N]) (by simp)
  clear hk1
  go_wp2_with fail
  refine (declDef_calls hr1).mono ?_
  rintro e w2 ⟨hk2, ⟨d, σ2, hx2, rfl, hr2⟩ | ⟨f, hx2, b, hbb, rfl, hcell⟩⟩
  rotate_left
  · exact bodyPost_panics (GivesD.throws (hK1.trans (hk2.mono (by simp))) hK1 ((bnd_ok hx1).trans (bnd_err hx2)) hbb hcell)
  have hK2 := hK1.trans (hk2.mono (M' := [A.R, A.S, A.N]) (by simp))
  clear hk2 hK1
  obtain ⟨T, vt, Hvt⟩ : ∃ T vt, Hid (tyV d.ty = .iface T vt) := by cases d.ty <;> exact ⟨_, _, rfl⟩
  dsimp only [declV]
  rw [Hvt.out]
  have hba := (Below.refl w2.heap.size w2).alloc (Nat.le_refl _) (.cells #[.string ⟨d.t.toArray⟩, .int .i64 d.at', .iface T vt] 197)
  have hv := heap_alloc_at (w := w2) (o := .cells #[.string ⟨d.t.toArray⟩, .int .i64 d.at', .iface T vt] 197) rfl
  have hr3 := hr2.below hba
  have hX2 := hr2.old
  go_wp2_with fail
  refine (expect_any _ hr3).mono ?_
  rintro e w4 ⟨hk4, ⟨x4, σ4, hx4, rfl, hr4⟩ | ⟨f, hx4, b, hbb, rfl, hcell⟩⟩
  rotate_left
  · exact bodyPost_panics (GivesD.throws ((hK2.alloc _).trans (hk4.mono (by simp))) (hK2.alloc _) ((bnd_ok hx1).trans ((bnd_ok hx2).trans (bnd_err hx4))) hbb hcell)
  have HV := Hid.mk ((hk4.block _ (lt_of_heap hv) (by have := hr2.lt.2.1; simp; omega)).trans hv)
  go_wp2
  go_ret
  refine ⟨(hK2.alloc _).trans (hk4.mono (by simp)), Or.inl ⟨.typedef d, σ4, w2.heap.size, [(w2.heap.size, .cells #[.string ⟨d.t.toArray⟩, .int .i64 d.at', .iface T vt] 197)], (bnd_ok hx1).trans ((bnd_ok hx2).trans (bnd_ok hx4)), rfl, hr4, ?_, ?_⟩⟩
  · show _ ∈ _
    simp only [declC, Hvt.out, List.mem_singleton]
  · intro p hp
    simp only [List.mem_singleton] at hp
    subst hp
    exact ⟨HV.out, fun hm => by have := hX2 _ hm; simp at this⟩
end Go.Proofs.YtmbcibgknckenaaGreatDoor
set_option linter.all false
set_option maxRecDepth 100000
set_option maxHeartbeats 4000000
namespace Go.Proofs.YtmbcibgknckenaaGreatDoor
open Go.RowKit
open Go.MapKept
def constant (text : ByteArray) (at' : Nat) : PM DefL := bnd (newConst at') fun _ => bnd (nameDef text) fun n => bnd (expect text [61]) fun _ =>
  bnd (value text (inside (-2147483648) 4294967295)) fun q => bnd (expect text [59]) fun _ => ret (.const n.1 n.2 q.1)
theorem constant_any {A : Ad} {text : ByteArray} {σ : St} (at' : Nat) {w : World} (h : Rd A text σ w) :
    Calls Tryz.prog 86 #[.pointer (some ⟨A.R, 0, none⟩), .int .i64 at'] w (GivesD [A.R, A.S, A.N] A text w (constant text at' σ)) := by
  have hmf : ∀ (fn : Fn) (first cap : Array Value) (w : World), (Instr.makeFunc fn first cap).run Tryz.prog w = .ok (.func fn first cap) w := fun _ _ _ _ => rfl
  go_enter Tryz.func86, Tryz.ntmps86
  go_wp2_with fail
  refine (newConst_any at' h).mono ?_
  rintro e w1 ⟨hk1, ⟨u, σ1, hx1, rfl, hr1⟩ | ⟨f, hx1, b, hbb, rfl, hcell⟩⟩
  rotate_left
  · exact bodyPost_panics (GivesD.throws (hk1.mono (by simp)) (Keeps.refl [] _) (bnd_err hx1) hbb hcell)
  have hK1 := hk1.mono (M' := [A.R, A.S, A.N]) (by simp)
  clear hk1
  go_wp2_with fail
  refine (nameDef_calls hr1).mono ?_
  rintro e w2 ⟨hk2, ⟨n, σ2, hx2, rfl, hr2⟩ | ⟨f, hx2, b, hbb, rfl, hcell⟩⟩
  rotate_left
  · exact bodyPost_panics (GivesD.throws (hK1.trans (hk2.mono (by simp))) hK1 ((bnd_ok hx1).trans (bnd_err hx2)) hbb hcell)
  have hK2 := hK1.trans (hk2.mono (M' := [A.R, A.S, A.N]) (by simp))
  clear hk2 hK1
  dsimp only [nameV]
  have hX2 := hr2.old
  have hlS := hr2.lt.2.1
  have hr3 := hr2.own (.cells #[.string ⟨n.1.toArray⟩, .int .i64 n.2, .int .i64 0] 272)
  have hv := heap_alloc_at (w := w2) (o := .cells #[.string ⟨n.1.toArray⟩, .int .i64 n.2, .int .i64 0] 272) rfl
  have hK3 := hK2.alloc (.cells #[.string ⟨n.1.toArray⟩, .int .i64 n.2, .int .i64 0] 272)
  have hne : w2.heap.size ∉ [A.S] := by simp; omega
  go_wp2_with fail
  refine (expect_at (Same.add A _) _ hr3).mono ?_
  rintro e w4 ⟨hk4, ⟨x4, σ4, hx4, rfl, hr4⟩ | ⟨f, hx4, b, hbb, rfl, hcell⟩⟩
  rotate_left
  · exact bodyPost_panics (GivesD.throws (hK3.trans (hk4.mono (by simp))) hK3 ((bnd_ok hx1).trans ((bnd_ok hx2).trans (bnd_err hx4))) hbb hcell)
  have hv4 := (hk4.block _ (lt_of_heap hv) hne).trans hv
  have hK4 := hK3.trans (hk4.mono (M' := [A.R, A.S, A.N]) (by simp))
  clear hk4 hv hK3 hr3
  go_wp2_with fail
  refine (within_any _ _ _).mono ?_
  rintro e w5 ⟨v, rfl, hb5, hfit⟩
  have hf5 := hfit (A.add w2.heap.size).X hr4.old
  have hr5 := hr4.below hb5
  have hv5 := (hb5.block _ (lt_of_heap hv4)).trans hv4
  have hK5 := hK4.trans (Keeps.of_below _ hb5)
  clear hfit hb5 hv4 hK4 hr4
  go_wp2_with fail
  refine (value_at (Same.add A _) hr5 hf5).mono ?_
  rintro e w6 ⟨hk6, ⟨q, σ6, hx6, rfl, hr6⟩ | ⟨f, hx6, b, hbb, rfl, hcell⟩⟩
  rotate_left
  · exact bodyPost_panics (GivesD.throws (hK5.trans (hk6.mono (by simp))) hK5 ((bnd_ok hx1).trans ((bnd_ok hx2).trans ((bnd_ok hx4).trans (bnd_err hx6)))) hbb hcell)
  have hv6 := (hk6.block _ (lt_of_heap hv5) hne).trans hv5
  have hK6 := hK5.trans (hk6.mono (M' := [A.R, A.S, A.N]) (by simp))
  clear hk6 hv5 hK5 hr5 hf5
  obtain ⟨k0, k1, k2, hfrK⟩ := bound3 hv6
  dsimp only [pairV]
  have hv7 := setBlock (i := 2) hv6 (.int .i64 q.1)
  have hr7 := Rd.setNew (A' := A.add w2.heap.size) hr2 ⟨rfl, rfl, rfl, rfl⟩ hr6 (p := ⟨w2.heap.size, 2, none⟩) (Nat.le_refl _) (by simp [Ad.add]) (.int .i64 q.1)
  have hK7 := hK6.setNew (p := ⟨w2.heap.size, 2, none⟩) (Nat.le_of_lt_succ (Nat.lt_succ_of_le hK2.size)) (.int .i64 q.1)
  have HV7 := Hid.mk hv7
  clear hv7
  go_wp2_with fail
  refine (expect_at (Same.add A _) _ hr7).mono ?_
  rintro e w8 ⟨hk8, ⟨x8, σ8, hx8, rfl, hr8⟩ | ⟨f, hx8, b, hbb, rfl, hcell⟩⟩
  rotate_left
  · exact bodyPost_panics (GivesD.throws (hK7.trans (hk8.mono (by simp))) hK7 ((bnd_ok hx1).trans ((bnd_ok hx2).trans ((bnd_ok hx4).trans ((bnd_ok hx6).trans (bnd_err hx8))))) hbb hcell)
  have HV8 := Hid.mk ((hk8.block _ (lt_of_heap HV7.out) hne).trans HV7.out)
  go_wp2
  go_ret
  refine ⟨hK7.trans (hk8.mono (by simp)), Or.inl ⟨.const n.1 n.2 q.1, σ8, w2.heap.size, [(w2.heap.size, .cells #[.string ⟨n.1.toArray⟩, .int .i64 n.2, .int .i64 q.1] 272)], (bnd_ok hx1).trans ((bnd_ok hx2).trans ((bnd_ok hx4).trans ((bnd_ok hx6).trans (bnd_ok hx8)))), rfl, Rd.drop hr2.mine hr8, ?_, ?_⟩⟩
  · show _ ∈ _
    simp
  · intro p hp
    simp only [List.mem_singleton] at hp
    subst hp
    exact ⟨HV8.out, fun hm => by have := hX2 _ hm; simp at this⟩
end Go.Proofs.YtmbcibgknckenaaGreatDoor
set_option linter.all false
set_option maxRecDepth 100000
set_option maxHeartbeats 4000000
namespace Go.Proofs.YtmbcibgknckenaaGreatDoor
open Go.RowKit
open Go.MapKept
theorem declaration_at {τ : Type} {C : Claim τ} {A' A : Ad} (hA : Same A' A) {text : ByteArray} {σ : St} {t : τ} {w : World} (hC : Claims C A' text) (h : Rd A' text σ w) (hi : C.I t w) (hh : Held A'.X C.bs w) :
    Calls Tryz.prog 125 #[.pointer (some ⟨A.R, 0, none⟩), .func (.func C.f) C.pre C.post] w (GivesX (A.S :: C.M) A' text w (decl text C t σ) declV C.I) := by
  have := declaration_any hC h hi hh
  rw [hA.1, hA.2.1] at this
  exact this
def armK {τ : Type} (text : ByteArray) (C : Claim τ) (y : Bool) : PX τ DeclL := if y then retx ⟨[], 0, .void⟩ else decl text C
def arm {τ : Type} (text : ByteArray) (C : Claim τ) : PX τ DeclL := bndx (bndx (lift (accept text [118, 111, 105, 100])) (armK text C)) fun d => bndx (lift (expect text [59])) fun _ => retx d
theorem setDecl {b : Nat} {k t n k' t' n' : Value} {T : TypeId} {fr : Nat × Nat} {w : World} (h : w.heap[b]? = some (.cells #[k, t, n] T fr)) :
    (((w.setCell ⟨b, 0, none⟩ k').setCell ⟨b, 1, none⟩ t').setCell ⟨b, 2, none⟩ n').heap[b]? = some (.cells #[k', t', n'] T fr) := by
  have h1 := setBlock (i := 0) h k'
  have h2 := setBlock (i := 1) h1 t'
  have h3 := setBlock (i := 2) h2 n'
  exact h3
theorem Mid.put3 {τ : Type} {C : Claim τ} {A : Ad} {text : ByteArray} {w u : World} {a b c : Value} {T : TypeId} {t : τ} {σ0 σ : St} (m : Mid C A text w (.cells #[a, b, c] T) t σ u) (hC : Claims C A text) (h0 : Rd A text σ0 w) (v0 v1 v2 : Value) :
    Mid C A text w (.cells #[v0, v1, v2] T) t σ (((u.setCell ⟨w.heap.size, 0, none⟩ v0).setCell ⟨w.heap.size, 1, none⟩ v1).setCell ⟨w.heap.size, 2, none⟩ v2) where
  k := ((m.k.setNew (Nat.le_refl _) _).setNew (Nat.le_refl _) _).setNew (Nat.le_refl _) _
  r := by
    have hs := fun {u : World} (hu : Rd (A.add w.heap.size) text σ u) (i : Nat) (v : Value) => Rd.setNew (A' := A.add w.heap.size) h0 ⟨rfl, rfl, rfl, rfl⟩ hu (p := ⟨w.heap.size, i, none⟩) (Nat.le_refl _) (by simp [Ad.add]) v
    exact hs (hs (hs m.r 0 _) 1 _) 2 _
  i := set3_stable hC (fun hm => by have := h0.old _ (hC.inX _ hm); omega) m.i _ _ _
  h := m.h.keeps ((((Keeps.refl [w.heap.size] u).setIn (p := ⟨w.heap.size, 0, none⟩) (by simp) _).setIn (p := ⟨w.heap.size, 1, none⟩) (by simp) _).setIn (p := ⟨w.heap.size, 2, none⟩) (by simp) _) (by simp [Ad.add])
  d := setDecl m.d
theorem arm_any {τ : Type} {C : Claim τ} {A : Ad} {text : ByteArray} {σ : St} {t : τ} {w : World} (hC : Claims C A text) (h : Rd A text σ w) (hi : C.I t w) (hh : Held A.X C.bs w) :
    Calls Tryz.prog 134 #[.pointer (some ⟨A.R, 0, none⟩), .func (.func C.f) C.pre C.post] w (GivesX (A.S :: C.M) A text w (arm text C t σ) declV C.I) := by
  have hwM : w.heap.size ∉ C.M := fun hm => by have := h.old _ (hC.inX _ hm); omega
  have hS := h.lt.2.1
  have m0 := Mid.start hC h hi hh (.cells #[.string ⟨#[]⟩, .int .i64 0, .nilIface] 195)
  have hC1 := hC.add w.heap.size
  have n0 := Mid.start hC1 m0.r m0.i m0.h (.cells #[.string ⟨#[]⟩, .int .i64 0, .iface 340 (.agg #[])] 195)
  have k0 := m0.k
  have hD : (w.alloc (.cells #[.string ⟨#[]⟩, .int .i64 0, .nilIface] 195)).heap[w.heap.size]? = _ := m0.d
  have hr0 := m0.r
  clear m0
  go_enter Tryz.func134, Tryz.ntmps134
  go_wp2_with fail
  have hneD : w.heap.size ∉ A.S :: C.M := by
    simp only [List.mem_cons, not_or]
    exact ⟨by omega, hwM⟩
  have hA2 : Same ((A.add w.heap.size).add (w.alloc (.cells #[.string ⟨#[]⟩, .int .i64 0, .nilIface] 195)).heap.size) A := ⟨rfl, rfl, rfl, rfl⟩
  refine (accept_at hA2 _ n0.r).mono ?_
  rintro e w1 ⟨hk1, ⟨y1, σ1, hx1, rfl, hr1⟩ | ⟨f, hx1, b, hbb, rfl, hcell⟩⟩
  rotate_left
  · exact bodyPost_panics (GivesX.throws ((k0.trans n0.k).trans (hk1.mono (by simp))) (k0.trans n0.k) (bndx_err (bndx_err (lift_err hx1))) hbb hcell)
  have n1 := n0.scan hC1 hr0 hk1 hr1
  clear n0 hk1 hr1
  have hsz : (w.alloc (.cells #[.string ⟨#[]⟩, .int .i64 0, .nilIface] 195)).heap.size = w.heap.size + 1 := by simp
  cases y1 with
  | true =>
    have E1 : Hid (bndx (lift (accept text [118, 111, 105, 100])) (armK text C) t σ = retx ⟨[], 0, .void⟩ t σ1) := bndx_ok (lift_ok hx1)
    go_wp2_with fail
    refine (expect_at hA2 _ n1.r).mono ?_
    rintro e w2 ⟨hk2, ⟨x2, σ2, hx2, rfl, hr2⟩ | ⟨f, hx2, b, hbb, rfl, hcell⟩⟩
    rotate_left
    · exact bodyPost_panics (GivesX.throws ((k0.trans n1.k).trans (hk2.mono (by simp))) (k0.trans n1.k) ((bndx_ok (E1.out.trans rfl)).trans (bndx_err (lift_err hx2))) hbb hcell)
    have n2 := n1.scan hC1 hr0 hk2 hr2
    clear n1 hk2 hr2
    have hD2 := (n2.k.block _ (lt_of_heap hD) hneD).trans hD
    obtain ⟨r0, r1, r2, hfrR⟩ := bound3 hD2
    obtain ⟨q0, q1, q2, _⟩ := bound3 n2.d
    rw [hsz] at q0 q1 q2
    have HN2 := Hid.mk n2
    clear n2
    go_wp2
    obtain ⟨f1, f2⟩ := fin3 h (k0.trans HN2.out.k) (Rd.drop hr0.mine HN2.out.r) (.string ⟨#[]⟩) (.int .i64 0) (.iface 340 (.agg #[]))
    refine bodyPost_ret (v := .agg #[.string ⟨#[]⟩, .int .i64 0, .iface 340 (.agg #[])]) (by simp [results, Tryz.results134, go_sem, r0, r1, r2]) rfl (GivesX.ok (a := ⟨[], 0, .void⟩) (t := t) f1 ((bndx_ok (E1.out.trans rfl)).trans (bndx_ok (lift_ok hx2))) (rfl) f2 ?_)
    exact set3_stable hC hwM HN2.out.i _ _ _
  | false =>
    go_wp2_with fail
    refine (declaration_at hA2 (hC1.add _) n1.r n1.i n1.h).mono ?_
    rintro e w3 ⟨hk3, ⟨d, t3, σ3, hx3, rfl, hr3, hi3⟩ | ⟨f, hx3, b, hbb, rfl, hcell⟩⟩
    rotate_left
    · exact bodyPost_panics (GivesX.throws ((k0.trans n1.k).trans hk3) (k0.trans n1.k) (bndx_err ((bndx_ok (lift_ok hx1)).trans hx3)) hbb hcell)
    have E1 : Hid (bndx (lift (accept text [118, 111, 105, 100])) (armK text C) t σ = .ok (d, t3, σ3)) := (bndx_ok (lift_ok hx1)).trans hx3
    have n3 := n1.claimed hC1 hr0 hk3 hr3 hi3
    clear n1 hk3 hr3 hi3
    obtain ⟨T, vt, Hvt⟩ : ∃ T vt, Hid (tyV d.ty = .iface T vt) := by cases d.ty <;> exact ⟨_, _, rfl⟩
    have n4 := n3.put3 hC1 hr0 (.string ⟨d.t.toArray⟩) (.int .i64 d.at') (.iface T vt)
    obtain ⟨q0, q1, q2, hfq⟩ := bound3 n3.d
    rw [hsz] at q0 q1 q2 hfq
    rw [hsz] at n4
    have HN4 := Hid.mk n4
    clear n3 n4
    dsimp only [declV]
    rw [Hvt.out]
    go_wp2_with fail
    refine (expect_at hA2 _ HN4.out.r).mono ?_
    rintro e w2 ⟨hk2, ⟨x2, σ2, hx2, rfl, hr2⟩ | ⟨f, hx2, b, hbb, rfl, hcell⟩⟩
    rotate_left
    · exact bodyPost_panics (GivesX.throws ((k0.trans HN4.out.k).trans (hk2.mono (by simp))) (k0.trans HN4.out.k) ((bndx_ok E1.out).trans (bndx_err (lift_err hx2))) hbb hcell)
    have n2 := HN4.out.scan hC1 hr0 hk2 hr2
    clear hk2 hr2 q0 q1 q2 hfq
    have hD2 := (n2.k.block _ (lt_of_heap hD) hneD).trans hD
    obtain ⟨r0, r1, r2, hfrR⟩ := bound3 hD2
    obtain ⟨q0, q1, q2, _⟩ := bound3 n2.d
    rw [hsz] at q0 q1 q2
    have HN2 := Hid.mk n2
    clear n2
    go_wp2
    obtain ⟨f1, f2⟩ := fin3 h (k0.trans HN2.out.k) (Rd.drop hr0.mine HN2.out.r) (.string ⟨d.t.toArray⟩) (.int .i64 d.at') (.iface T vt)
    refine bodyPost_ret (v := .agg #[.string ⟨d.t.toArray⟩, .int .i64 d.at', .iface T vt]) (by simp [results, Tryz.results134, go_sem, r0, r1, r2]) rfl (GivesX.ok (a := d) (t := t3) f1 ((bndx_ok E1.out).trans (bndx_ok (lift_ok hx2))) (by simp only [declV, Hvt.out]) f2 ?_)
    exact set3_stable hC hwM HN2.out.i _ _ _
end Go.Proofs.YtmbcibgknckenaaGreatDoor
set_option linter.all false
set_option maxRecDepth 100000
set_option maxHeartbeats 4000000
namespace Go.Proofs.YtmbcibgknckenaaGreatDoor
open Go.RowKit
open Go.MapKept
theorem set_run {P : Program} {w : World} {T kt et : TypeId} {d : TypeDesc} (ht : P.underlying T = some (.map kt et)) (hd : P.underlying kt = some d) {s : ByteArray} (hk : IsKey d (.string s)) {N : Nat} {es : Array MapEntry} {clock : Nat}
    (hb : w.heap[N]? = some (.map es clock)) (hes : ∀ x ∈ es.toList, IsKey d x.key) (hin : ∃ x ∈ es.toList, x.key = .string s) (v : Value) :
    ∃ (j : Nat) (e : MapEntry), es.toList[j]? = some e ∧ e.key = .string s ∧
      (Instr.mapUpdate T (.map (some N)) (.string s) v).run P w = .ok () (putObj w N (.map (es.modify j fun e => { e with key := .string s, val := v }) clock)) := by
  have hck := fun b => MapKept.run_checkKey (w := w) hd hk b 9999
  rcases findNow_spec hk es.toList 0 hes with ⟨h1, h2⟩ | ⟨j, e, h1, h2, h3⟩
  · obtain ⟨x, hx, hxk⟩ := hin
    exact absurd hxk (h2 x hx)
  · refine ⟨j, e, h2, h3, ?_⟩
    have hj : es[j]? = some e := by simpa using h2
    have hst : Instr.keyThatStays (.string s) (.string s) = pure (.string s) := by
      unfold Instr.keyThatStays
      rw [if_pos (by show (s == s) = true; exact (MapKept.bytes_beq s s).2 rfl)]
    simp [Instr.mapUpdate, Instr.findKey, run_underlying ht, run_underlying hd, MapKept.run_getObj_map hb, hck, h1, hj, h3, hst, MapKept.run_setObj_map _ hb, Result.andThen]
def setName (l : List (List UInt8 × Option DefL)) (k : List UInt8) (d : DefL) : List (List UInt8 × Option DefL) := l.map fun p => if p.1 == k then (p.1, some d) else p
theorem setName_keys (l : List (List UInt8 × Option DefL)) (k : List UInt8) (d : DefL) : (setName l k d).map (·.1) = l.map (·.1) := by
  unfold setName
  rw [List.map_map]
  apply List.map_congr_left
  intro p _
  show (if p.1 == k then (p.1, some d) else p).1 = p.1
  split <;> rfl
theorem mem_look {α : Type} {l : List (List UInt8 × α)} {k : List UInt8} {o : α} (h : look l k = some o) : ∃ p ∈ l, p.1 = k ∧ p.2 = o := by
  unfold look at h
  cases hf : l.find? (fun p => p.1 == k) with
  | none => rw [hf] at h; cases h
  | some p =>
    rw [hf] at h
    exact ⟨p, List.mem_of_find?_eq_some hf, by simpa using List.find?_some hf, by simpa using h⟩
theorem nodup_inj {α : Type} {l : List α} (h : l.Nodup) (i j : Nat) (hi : i < l.length) (hj : j < l.length) (e : l[i] = l[j]) : i = j := by
  have hp := List.pairwise_iff_getElem.1 h
  rcases Nat.lt_trichotomy i j with hl | hl | hl
  · exact absurd e (hp i j hi hj hl)
  · exact hl
  · exact absurd e.symm (hp j i hj hi hl)
theorem EntIn.mono {bs bs' : List (Nat × Obj)} {v : Value} {o : Option DefL} (hb : ∀ p ∈ bs, p ∈ bs') (h : EntIn bs v o) : EntIn bs' v o := by
  have hc : ∀ b m, ConstIn bs b m → ConstIn bs' b m := fun b m hm => hb _ hm
  have hs : ∀ e v n xs, SliceIn bs e v n xs → SliceIn bs' e v n xs := by
    intro e v n xs hs
    rcases hs with hs | ⟨g, cap, cur, h1, h2, h3, h4⟩
    · exact Or.inl hs
    · exact Or.inr ⟨g, cap, cur, h1, h2, hb _ h3, h4⟩
  cases o with
  | none => exact h
  | some d =>
    obtain ⟨b, hv, hd⟩ := h
    refine ⟨b, hv, ?_⟩
    cases d with
    | const t a v => exact hc _ _ hd
    | typedef d => exact hb _ hd
    | enum t a ms => obtain ⟨sl, ps, h1, h2, h3, h4⟩ := hd; exact ⟨sl, ps, hb _ h1, h2, hs _ _ _ _ h3, fun i h h' => hc _ _ (h4 i h h')⟩
    | struct t a ms => obtain ⟨sl, h1, h2⟩ := hd; exact ⟨sl, hb _ h1, hs _ _ _ _ h2⟩
    | union t a sel arms => obtain ⟨sl, cs, h1, h2, h3, h4⟩ := hd; exact ⟨sl, cs, hb _ h1, h2, hs _ _ _ _ h3, fun i h h' => hs _ _ _ _ (h4 i h h')⟩
    | prog t a vs num => obtain ⟨sl, cs, h1, h2, h3, h4⟩ := hd; exact ⟨sl, cs, hb _ h1, h2, hs _ _ _ _ h3, fun i h h' => hs _ _ _ _ (h4 i h h')⟩
theorem Names.set {X : List Nat} {N : Nat} {l : List (List UInt8 × Option DefL)} {w : World} (h : Names X N l w) (hX : N ∈ X) {k : List UInt8} {o : Option DefL} (hn : look l k = some o)
    {d : DefL} {b : Nat} {bs' : List (Nat × Obj)} (hd : DefIn bs' b d) (hh : Held X bs' w) :
    ∃ ob, (Instr.mapUpdate 104 (.map (some N)) (.string ⟨k.toArray⟩) (.iface (defT d) (.pointer (some ⟨b, 0, none⟩)))).run Tryz.prog w = .ok () (putObj w N ob) ∧ Names X N (setName l k d) (putObj w N ob) := by
  obtain ⟨nd, bs, vs, h1, h2, h3, h4⟩ := h
  have hlt := lt_of_heap h3
  obtain ⟨p, hp, hpk, _⟩ := mem_look hn
  obtain ⟨i, hi, rfl⟩ := List.getElem_of_mem hp
  have hi' : i < vs.length := by omega
  have hes := names_keys (l.zip vs |>.map fun p => (p.1.1, p.2))
  obtain ⟨j, e, g1, g2, hrun⟩ := set_run (P := Tryz.prog) (T := 104) (kt := 9) (et := 113) (d := .string) (by kernel_rfl) (by kernel_rfl) (s := ⟨k.toArray⟩) trivial h3 (by simpa using hes)
    ⟨⟨.string ⟨l[i].1.toArray⟩, vs[i], i⟩, by
      simp only
      rw [List.mem_mapIdx]
      exact ⟨i, by simp; omega, by simp⟩, by simp [hpk]⟩ (.iface (defT d) (.pointer (some ⟨b, 0, none⟩)))
  simp only [List.getElem?_mapIdx] at g1
  have hj : j < l.length := by
    by_cases hj : j < l.length
    · exact hj
    · rw [List.getElem?_eq_none (by simp; omega)] at g1
      cases g1
  rw [List.getElem?_eq_getElem (by simp; omega)] at g1
  simp at g1
  subst g1
  simp at g2
  have hij : i = j := by
    have hq : (l.map (·.1))[i]'(by simpa using hi) = (l.map (·.1))[j]'(by simpa using hj) := by simp [hpk, g2]
    exact nodup_inj nd _ _ _ _ hq
  subst hij
  refine ⟨_, hrun, ?_, bs ++ bs', vs.set i (.iface (defT d) (.pointer (some ⟨b, 0, none⟩))), ?_, ?_, ?_, ?_⟩
  · rw [setName_keys]; exact nd
  · intro p hp
    rcases List.mem_append.1 hp with hp | hp
    · exact (h1.keeps (putObj_keeps _ _ _) (by simpa using hX)) p hp
    · exact (hh.keeps (putObj_keeps _ _ _) (by simpa using hX)) p hp
  · simp [setName, h2]
  · rw [putObj_at hlt]
    unfold namesObj
    have hlen : (List.map (fun p : (List UInt8 × Option DefL) × Value => (p.1.1, p.2)) ((setName l k d).zip (vs.set i (.iface (defT d) (.pointer (some ⟨b, 0, none⟩)))))).length = (List.map (fun p : (List UInt8 × Option DefL) × Value => (p.1.1, p.2)) (l.zip vs)).length := by simp [setName]
    rw [hlen]
    refine congrArg (fun a => some (Obj.map a _)) ?_
    apply Array.ext'
    simp only [Array.toList_modify]
    apply List.ext_getElem
    · simp [setName]
    · intro m hm1 hm2
      have hm : m < l.length := by simp at hm2; omega
      by_cases hmi : i = m
      · subst hmi
        simp [setName, List.getElem_modify, hpk]
      · have hne : ¬ l[m].1 = k := fun e => hmi (nodup_inj nd i m (by simpa using hi) (by simpa using hm) (by simp [hpk, e]))
        simp [setName, List.getElem_modify, hmi, List.getElem_set, hne]
  · intro m hm hm'
    have hml : m < l.length := by simp [setName] at hm; exact hm
    by_cases hmi : i = m
    · subst hmi
      have e1 : (setName l k d)[i].2 = some d := by simp [setName, hpk]
      rw [e1, List.getElem_set_self]
      exact EntIn.mono (fun p hp => List.mem_append_right _ hp) (show EntIn bs' _ (some d) from ⟨b, rfl, hd⟩)
    · have hne : ¬ l[m].1 = k := fun e => hmi (nodup_inj nd i m (by simpa using hi) (by simpa using hml) (by simp [hpk, e]))
      have e1 : (setName l k d)[m].2 = l[m].2 := by simp [setName, hne]
      rw [e1, List.getElem_set_ne hmi]
      exact EntIn.mono (fun p hp => List.mem_append_left _ hp) (h4 m hml (by omega))
end Go.Proofs.YtmbcibgknckenaaGreatDoor
set_option linter.all false
set_option maxRecDepth 100000
set_option maxHeartbeats 4000000
namespace Go.Proofs.YtmbcibgknckenaaGreatDoor
open Go.RowKit
open Go.MapKept
def Quiet {α : Type} (m : PM α) : Prop := ∀ σ a σ', m σ = .ok (a, σ') → σ'.names = σ.names
theorem Quiet.bnd {α β : Type} {m : PM α} {k : α → PM β} (hm : Quiet m) (hk : ∀ a, Quiet (k a)) : Quiet (bnd m k) := by
  intro σ b σ' h
  cases hx : m σ with
  | error f => rw [bnd_err hx] at h; cases h
  | ok p =>
    obtain ⟨a, σ1⟩ := p
    rw [bnd_ok hx] at h
    rw [hk a _ _ _ h, hm _ _ _ hx]
theorem Quiet.ret {α : Type} (a : α) : Quiet (ret a) := by
  intro σ b σ' h
  simp only [Go.Proofs.YtmbcibgknckenaaGreatDoor.ret, Except.ok.injEq, Prod.mk.injEq] at h
  rw [← h.2]
theorem Quiet.thr {α : Type} (no at' : Nat) : Quiet (thr (α := α) no at') := fun σ b σ' h => by cases h
theorem Quiet.ite {α : Type} {c : Prop} [Decidable c] {m m' : PM α} (h : Quiet m) (h' : Quiet m') : Quiet (if c then m else m') := by split <;> assumption
theorem quiet_next (text : ByteArray) : Quiet (next text) := by
  intro σ a σ' h
  unfold next at h
  split at h
  · simp only [Except.ok.injEq, Prod.mk.injEq] at h; rw [← h.2]
  · cases h
theorem quiet_expect (text : ByteArray) (t : List UInt8) : Quiet (expect text t) := (quiet_next text).bnd fun x => Quiet.ite (Quiet.ret _) (Quiet.thr _ _)
theorem quiet_constNamed (x : Mar.Word) : Quiet (constNamed x) := by
  intro σ a σ' h
  unfold constNamed at h
  split at h
  · simp only [Except.ok.injEq, Prod.mk.injEq] at h; rw [← h.2]
  · cases h
theorem quiet_meaning (x : Mar.Word) : Quiet (meaning x) :=
  Quiet.ite (Quiet.ret _) (Quiet.ite (quiet_constNamed x) (Quiet.ite (Quiet.ret _) (Quiet.ite (Quiet.ret _) (Quiet.thr _ _))))
theorem quiet_value (text : ByteArray) (p : Int → Bool) : Quiet (value text p) := (quiet_next text).bnd fun x => (quiet_meaning x).bnd fun n => Quiet.ite (Quiet.ret _) (Quiet.thr _ _)
theorem quiet_number {text : ByteArray} {p : Int → Bool} {l l' : List (Int × Int)} {σ σ' : St} {n : Int} (h : number text p l σ = .ok (n, l', σ')) : σ'.names = σ.names := by
  unfold number at h
  cases hx : value text p σ with
  | error f => rw [bndx_err (lift_err hx)] at h; cases h
  | ok q =>
    obtain ⟨q, σ1⟩ := q
    rw [bndx_ok (lift_ok hx)] at h
    cases hc : claimN q.1 q.2 l ⟨6, q.2⟩ with
    | error f => rw [bndx_err (side_err hc)] at h; cases h
    | ok l1 =>
      rw [bndx_ok (side_ok hc)] at h
      simp only [retx, Except.ok.injEq, Prod.mk.injEq] at h
      rw [← h.2.2]
      exact quiet_value text p _ _ _ hx
theorem nameDef_look {text : ByteArray} {σ σ' : St} {n : List UInt8 × Nat} (h : nameDef text σ = .ok (n, σ')) : look σ'.names n.1 = some none := by
  unfold nameDef bare name at h
  cases hx : next text σ with
  | error f => rw [bndx_err (lift_err hx)] at h; cases h
  | ok q =>
    obtain ⟨x, σ1⟩ := q
    rw [bndx_ok (lift_ok hx)] at h
    by_cases hk : ((x.kind : Int) == 1) = true
    · rw [if_pos hk] at h
      cases hl : look σ1.names x.text with
      | none =>
        have hd : define x σ1 = .ok ((), { σ1 with names := σ1.names ++ [(x.text, none)] }) := by simp only [define, hl]
        rw [bndx_ok (show (defineC noAd).run x () σ1 = _ from lift_ok hd)] at h
        simp only [retx, Except.ok.injEq, Prod.mk.injEq] at h
        obtain ⟨rfl, rfl⟩ := h
        unfold look at hl ⊢
        have hf : σ1.names.find? (fun p => p.1 == x.text) = none := by
          cases hh : σ1.names.find? (fun p => p.1 == x.text) with
          | none => rfl
          | some p => rw [hh] at hl; cases hl
        simp [List.find?_append, hf]
      | some o =>
        have hd : define x σ1 = .error ⟨6, x.at'⟩ := by simp only [define, hl]
        rw [bndx_err (show (defineC noAd).run x () σ1 = _ from lift_err hd)] at h
        cases h
    · rw [if_neg hk] at h
      cases h
def roomP (n most at' : Nat) : PM Unit := fun σ => if most ≤ n then .error ⟨5, at'⟩ else .ok ((), σ)
def means (k : List UInt8) (d : DefL) : PM Unit := fun σ => .ok ((), { σ with names := setName σ.names k d })
def member (text : ByteArray) (n : Nat) : PX (List (Int × Int)) (List UInt8 × Nat × Int) :=
  bndx (lift (peek text)) fun x => bndx (lift (roomP n 12 x.at')) fun _ => bndx (lift (newConst x.at')) fun _ => bndx (lift (nameDef text)) fun m => bndx (lift (expect text [61])) fun _ =>
    bndx (number text (inside (-2147483648) 2147483647)) fun v => bndx (lift (means m.1 (.const m.1 m.2 v))) fun _ => retx (m.1, m.2, v)
end Go.Proofs.YtmbcibgknckenaaGreatDoor
set_option linter.all false
set_option maxRecDepth 100000
set_option maxHeartbeats 4000000
namespace Go.Proofs.YtmbcibgknckenaaGreatDoor
open Go.RowKit
open Go.MapKept
def constObj (m : List UInt8 × Nat × Int) : Obj := .cells #[.string ⟨m.1.toArray⟩, .int .i64 m.2.1, .int .i64 m.2.2] 272
def GivesM (M : List Nat) (A : Ad) (text : ByteArray) (w : World) (q : Nat) (r : Except Mar.Fault ((List UInt8 × Nat × Int) × List (Int × Int) × St)) (e : Ending) (w' : World) : Prop :=
  Keeps M w w' ∧ ((∃ m l' σ' b, r = .ok (m, l', σ') ∧ e = .returned (.pointer (some ⟨b, 0, none⟩)) ∧ Rd A text σ' w' ∧ NumsAt q l' w' ∧ Held A.X [(b, constObj m)] w') ∨ (∃ f, r = .error f ∧ Thrown w f.no f.at' e w'))
theorem GivesM.throws {M M' : List Nat} {A : Ad} {text : ByteArray} {w w1 w' : World} {q : Nat} {r : Except Mar.Fault ((List UInt8 × Nat × Int) × List (Int × Int) × St)} {f : Mar.Fault} {b : Nat}
    (hk : Keeps M w w') (hk1 : Keeps M' w w1) (hr : r = .error f) (hb : w1.heap.size ≤ b) (hc : w'.heap[b]? = some (.cells #[.int .i64 f.no, .int .i64 f.at'] 83)) :
    GivesM M A text w q r (.panicked [{ v := .iface 79 (.pointer (some ⟨b, 0, none⟩)), recovered := false }]) w' :=
  ⟨hk, Or.inr ⟨f, hr, b, Nat.le_trans hk1.size hb, rfl, hc⟩⟩
theorem Free.add {A : Ad} {q : Nat} (h : Free A q) (b : Nat) : Free (A.add b) q := ⟨List.mem_cons_of_mem _ h.1, h.2⟩
theorem number_at {A' A : Ad} (hA : Same A' A) {text : ByteArray} {σ : St} {v : Value} {p : Int → Bool} {q : Nat} {l : List (Int × Int)} {w : World} (h : Rd A' text σ w) (hf : Fits A'.X v p w) (hq : Free A' q) (hn : NumsAt q l w) :
    Calls Tryz.prog 163 #[.pointer (some ⟨A.R, 0, none⟩), .map (some q), v] w (GivesX [A.S, q] A' text w (number text p l σ) intV (NumsAt q)) := by
  obtain ⟨a1, a2, a3, a4⟩ := hA
  rw [← a1, ← a2]
  exact number_any' h hf hq hn
theorem member_any {A : Ad} {text : ByteArray} {σ : St} (n : Nat) {q : Nat} {l : List (Int × Int)} {w : World} (h : Rd A text σ w) (hq : Free A q) (hn : NumsAt q l w) :
    Calls Tryz.prog 127 #[.pointer (some ⟨A.R, 0, none⟩), .int .i64 n, .map (some q)] w (GivesM [A.R, A.S, A.N, q] A text w q (member text n l σ)) := by
  have hmf : ∀ (fn : Fn) (first cap : Array Value) (w : World), (Instr.makeFunc fn first cap).run Tryz.prog w = .ok (.func fn first cap) w := fun _ _ _ _ => rfl
  obtain ⟨c0, c1, c2, c3, c4, hfr⟩ := h.cells
  have hft := field_at
  have hqS : q ∉ [A.S] := by simp; exact hq.2.2.1
  go_enter Tryz.func127, Tryz.ntmps127
  go_wp2_with fail
  refine (peek_calls h).mono ?_
  rintro e w1 ⟨hk1, ⟨x, σ1, hx1, rfl, hr1⟩ | ⟨f, hx1, b, hbb, rfl, hcell⟩⟩
  rotate_left
  · exact bodyPost_panics (GivesM.throws (hk1.mono (by simp)) (Keeps.refl [] _) (bndx_err (lift_err hx1)) hbb hcell)
  have hn1 := hn.keeps hk1 hqS
  have hK1 := hk1.mono (M' := [A.R, A.S, A.N, q]) (by simp)
  clear hk1
  dsimp only [wordV]
  go_wp2_with fail
  by_cases hfi : (12 : Nat) ≤ n
  · refine (room_full _ _ _ _ (by omega)).mono ?_
    rintro e w2 ⟨⟨b, hbb, rfl, hcell⟩, hb⟩
    exact bodyPost_panics (GivesM.throws (f := ⟨5, x.at'⟩) (hK1.trans (Keeps.of_below _ hb)) hK1 ((bndx_ok (lift_ok hx1)).trans (bndx_err (lift_err (show roomP n 12 x.at' σ1 = _ from if_pos hfi)))) hbb hcell)
  have hx2 : roomP n 12 x.at' σ1 = .ok ((), σ1) := if_neg hfi
  refine (room_ok _ _ _ _ (by omega)).mono ?_
  rintro e w2 ⟨rfl, rfl⟩
  go_wp2_with fail
  refine (newConst_any x.at' hr1).mono ?_
  rintro e w2 ⟨hk2, ⟨u, σ2, hx3, rfl, hr2⟩ | ⟨f, hx3, b, hbb, rfl, hcell⟩⟩
  rotate_left
  · exact bodyPost_panics (GivesM.throws (hK1.trans (hk2.mono (by simp))) hK1 ((bndx_ok (lift_ok hx1)).trans ((bndx_ok (lift_ok hx2)).trans (bndx_err (lift_err hx3)))) hbb hcell)
  have hn2 := hn1.keeps hk2 (by simp; exact hq.2.1)
  have hK2 := hK1.trans (hk2.mono (M' := [A.R, A.S, A.N, q]) (by simp))
  clear hk2 hK1 hn1
  go_wp2_with fail
  refine (nameDef_calls hr2).mono ?_
  rintro e w3 ⟨hk3, ⟨m, σ3, hx4, rfl, hr3⟩ | ⟨f, hx4, b, hbb, rfl, hcell⟩⟩
  rotate_left
  · exact bodyPost_panics (GivesM.throws (hK2.trans (hk3.mono (by simp))) hK2 ((bndx_ok (lift_ok hx1)).trans ((bndx_ok (lift_ok hx2)).trans ((bndx_ok (lift_ok hx3)).trans (bndx_err (lift_err hx4))))) hbb hcell)
  have hn3 := hn2.keeps hk3 (by simp; exact ⟨hq.2.2.1, hq.2.2.2.1⟩)
  have hK3 := hK2.trans (hk3.mono (M' := [A.R, A.S, A.N, q]) (by simp))
  clear hk3 hK2 hn2
  dsimp only [nameV]
  have hX3 := hr3.old
  have hlS := hr3.lt.2.1
  have hlq := lt_of_heap hn3
  have hr4 := hr3.own (.cells #[.string ⟨m.1.toArray⟩, .int .i64 m.2, .int .i64 0] 272)
  have hv := heap_alloc_at (w := w3) (o := .cells #[.string ⟨m.1.toArray⟩, .int .i64 m.2, .int .i64 0] 272) rfl
  have hn4 : NumsAt q l (w3.alloc (.cells #[.string ⟨m.1.toArray⟩, .int .i64 m.2, .int .i64 0] 272)) := hn3.keeps ((Keeps.refl [] w3).alloc _) (by simp)
  have hK4 := hK3.alloc (.cells #[.string ⟨m.1.toArray⟩, .int .i64 m.2, .int .i64 0] 272)
  have hne : w3.heap.size ∉ [A.S] := by simp; omega
  have hne2 : w3.heap.size ∉ [A.S, q] := by simp; omega
  go_wp2_with fail
  refine (expect_at (Same.add A _) _ hr4).mono ?_
  rintro e w5 ⟨hk5, ⟨x5, σ5, hx5, rfl, hr5⟩ | ⟨f, hx5, b, hbb, rfl, hcell⟩⟩
  rotate_left
  · exact bodyPost_panics (GivesM.throws (hK4.trans (hk5.mono (by simp))) hK4 ((bndx_ok (lift_ok hx1)).trans ((bndx_ok (lift_ok hx2)).trans ((bndx_ok (lift_ok hx3)).trans ((bndx_ok (lift_ok hx4)).trans (bndx_err (lift_err hx5)))))) hbb hcell)
  have hv5 := (hk5.block _ (lt_of_heap hv) hne).trans hv
  have hn5 := hn4.keeps hk5 hqS
  have hK5 := hK4.trans (hk5.mono (M' := [A.R, A.S, A.N, q]) (by simp))
  clear hk5 hv hK4 hr4 hn4
  go_wp2_with fail
  refine (within_any _ _ _).mono ?_
  rintro e w6 ⟨v, rfl, hb6, hfit⟩
  have hf6 := hfit (A.add w3.heap.size).X hr5.old
  have hr6 := hr5.below hb6
  have hv6 := (hb6.block _ (lt_of_heap hv5)).trans hv5
  have hn6 : NumsAt q l w6 := (hb6.block _ (lt_of_heap hn5)).trans hn5
  have hK6 := hK5.trans (Keeps.of_below _ hb6)
  clear hfit hb6 hv5 hK5 hr5 hn5
  go_wp2_with fail
  refine (number_at (Same.add A _) hr6 hf6 (hq.add _) hn6).mono ?_
  rintro e w7 ⟨hk7, ⟨z, l7, σ7, hx7, rfl, hr7, hn7⟩ | ⟨f, hx7, b, hbb, rfl, hcell⟩⟩
  rotate_left
  · exact bodyPost_panics (GivesM.throws (hK6.trans (hk7.mono (by simp))) hK6 ((bndx_ok (lift_ok hx1)).trans ((bndx_ok (lift_ok hx2)).trans ((bndx_ok (lift_ok hx3)).trans ((bndx_ok (lift_ok hx4)).trans ((bndx_ok (lift_ok hx5)).trans (bndx_err hx7)))))) hbb hcell)
  have hv7 := (hk7.block _ (lt_of_heap hv6) hne2).trans hv6
  have hK7 := hK6.trans (hk7.mono (M' := [A.R, A.S, A.N, q]) (by simp))
  clear hk7 hv6 hK6 hr6 hf6 hn6
  have hlk : look σ7.names m.1 = some none := by rw [quiet_number hx7, quiet_expect _ _ _ _ _ hx5]; exact nameDef_look hx4
  obtain ⟨k0, k1, k2, hfrK⟩ := bound3 hv7
  dsimp only [intV]
  have hv8 := setBlock (i := 2) hv7 (.int .i64 z)
  have hr8 := Rd.setNew (A' := A.add w3.heap.size) hr3 ⟨rfl, rfl, rfl, rfl⟩ hr7 (p := ⟨w3.heap.size, 2, none⟩) (Nat.le_refl _) (by simp [Ad.add]) (.int .i64 z)
  have hn8 : NumsAt q l7 (w7.setCell ⟨w3.heap.size, 2, none⟩ (.int .i64 z)) := hn7.keeps ((Keeps.refl [w3.heap.size] w7).setIn (by simp) _) (by simp; omega)
  have hK8 := hK7.setNew (p := ⟨w3.heap.size, 2, none⟩) (Nat.le_of_lt_succ (Nat.lt_succ_of_le hK3.size)) (.int .i64 z)
  go_wp2_with fail
  have hr9 := Rd.drop hr3.mine hr8
  generalize w7.setCell ⟨w3.heap.size, 2, none⟩ (.int .i64 z) = W8 at *
  clear hr7 hr8 hv7 hK7 hn7 k0 k1 k2 hfrK
  have hh9 : Held A.X [(w3.heap.size, constObj (m.1, m.2, z))] W8 := by
    intro p hp
    simp only [List.mem_singleton] at hp
    subst hp
    exact ⟨hv8, fun hm => by have := hX3 _ hm; simp at this⟩
  have hbd : Below W8.heap.size W8 W8.drew := (Below.refl _ _).drew
  obtain ⟨ob, hput, hnm⟩ := (hr9.nm.below hbd).set hr9.mine.2.2.1 hlk (d := .const m.1 m.2 z) (b := w3.heap.size) (bs' := [(w3.heap.size, constObj (m.1, m.2, z))]) (by show _ ∈ _; simp [constObj]) (hh9.keeps (Keeps.of_below [] hbd) (by simp))
  dsimp only [defT] at hput
  obtain ⟨d0, d1, d2, d3, d4, hfd⟩ := hr9.cells
  obtain ⟨e0, e1, e2, hfe⟩ := bound3 hv8
  have HK8 := Hid.mk hK8
  have HN8 := Hid.mk hn8
  have HR9 := Hid.mk hr9
  have HH9 := Hid.mk hh9
  have HNM := Hid.mk hnm
  clear hK8 hn8 hr9 hh9 hnm hv8
  go_region
  go_wp2
  go_ret
  have hkd : Keeps [A.N] W8 (putObj W8.drew A.N ob) := (Keeps.of_below _ hbd).trans (putObj_keeps _ _ _)
  refine ⟨HK8.out.trans (hkd.mono (by simp)), Or.inl ⟨(m.1, m.2, z), l7, _, w3.heap.size, ?_, rfl, Rd.putNames (HR9.out.below hbd) HNM.out, HN8.out.keeps hkd (by simp; exact hq.2.2.2.1), HH9.out.keeps hkd (by simpa using hr3.mine.2.2.1)⟩⟩
  exact (bndx_ok (lift_ok hx1)).trans ((bndx_ok (lift_ok hx2)).trans ((bndx_ok (lift_ok hx3)).trans ((bndx_ok (lift_ok hx4)).trans ((bndx_ok (lift_ok hx5)).trans (bndx_ok hx7)))))
end Go.Proofs.YtmbcibgknckenaaGreatDoor
set_option linter.all false
set_option maxRecDepth 100000
set_option maxHeartbeats 4000000
namespace Go.Proofs.YtmbcibgknckenaaGreatDoor
open Go.RowKit
open Go.MapKept
def Ad.plus (A : Ad) (Y : List Nat) : Ad := { A with X := Y ++ A.X }
theorem Same.plus (A : Ad) (Y : List Nat) : Same (A.plus Y) A := ⟨rfl, rfl, rfl, rfl⟩
theorem Rd.dropAll {A : Ad} {Y : List Nat} {text : ByteArray} {σ : St} {w : World} (hm : A.R ∈ A.X ∧ A.S ∈ A.X ∧ A.N ∈ A.X ∧ A.P ∈ A.X) (h : Rd (A.plus Y) text σ w) : Rd A text σ w :=
  ⟨h.me, h.sc, h.nm.sub (fun _ hx => List.mem_append_right _ hx), hm, fun x hx => h.old x (List.mem_append_right _ hx), h.pr, h.np, h.gl, h.small, h.few⟩
theorem Rd.young {A A' : Ad} {text : ByteArray} {σ0 σ : St} {w u u' : World} {M : List Nat} (h0 : Rd A text σ0 w) (hA : Same A' A) (h : Rd A' text σ u) (hk : Keeps M u u') (hM : ∀ m ∈ M, w.heap.size ≤ m ∧ m ∈ A'.X) : Rd A' text σ u' := by
  obtain ⟨l1, l2, l3, l4⟩ := h0.lt
  obtain ⟨⟨m, q1⟩, ⟨_, _, q2⟩, ⟨_, _, q3⟩⟩ := h0.gl
  have q1 := lt_of_cell q1
  have q2 := lt_of_cell q2
  have q3 := lt_of_cell q3
  obtain ⟨a1, a2, a3, a4⟩ := hA
  refine h.keeps hk (fun m hm => (hM m hm).2) ?_ ?_ ?_ ?_ ?_ ?_ ?_ <;> (intro hm; have := (hM _ hm).1; omega)
theorem keeps_grown {w w' : World} {row : Option Nat} (h : w.grownBy w' row) : Keeps row.toList w w' :=
  ⟨h.os, h.tape, h.output, h.size, fun k hk hm => h.block k hk (fun e => hm (by rw [← e]; simp))⟩
theorem Rd.grow {A A' : Ad} {text : ByteArray} {σ0 σ : St} {w u u' : World} {row : Option Nat} {g : Nat} (h0 : Rd A text σ0 w) (hA : Same A' A) (h : Rd A' text σ u) (hg : u.grownBy u' row)
    (hr : ∀ b, row = some b → w.heap.size ≤ b ∧ b ∈ A'.X) (hat : row = some g ∨ g = u.heap.size) (hlt : g < u'.heap.size) : Rd (A'.add g) text σ u' := by
  have hk := keeps_grown hg
  have hM : ∀ m ∈ row.toList, w.heap.size ≤ m ∧ m ∈ A'.X := fun m hm => hr m (by simpa using hm)
  have h1 := h0.young hA h hk hM
  obtain ⟨m1, m2, m3, m4⟩ := h1.mine
  refine ⟨h1.me, h1.sc, ?_, ⟨List.mem_cons_of_mem _ m1, List.mem_cons_of_mem _ m2, List.mem_cons_of_mem _ m3, List.mem_cons_of_mem _ m4⟩, ?_, h1.pr, h1.np, h1.gl, h1.small, h1.few⟩
  · rcases hat with e | e
    · exact h1.nm.sub (fun x hx => by
        rcases List.mem_cons.1 hx with rfl | hx
        · exact (hr _ e).2
        · exact hx)
    · obtain ⟨l1, l2, l3, l4⟩ := h.lt
      refine (h.nm.add (b := g) (by omega)).keeps hk (fun m hm => List.mem_cons_of_mem _ (hM m hm).2) (fun hm => ?_)
      have := (hM _ hm).1
      have := h0.lt.2.2.1
      obtain ⟨a1, a2, a3, a4⟩ := hA
      omega
  · intro x hx
    rcases List.mem_cons.1 hx with rfl | hx
    · exact hlt
    · exact h1.old x hx
theorem Held.grow {X : List Nat} {bs : List (Nat × Obj)} {u u' : World} {row : Option Nat} {g : Nat} (h : Held X bs u) (hg : u.grownBy u' row) (hr : ∀ b, row = some b → b ∈ X) (hat : row = some g ∨ g = u.heap.size) : Held (g :: X) bs u' := by
  intro p hp
  obtain ⟨h1, h2⟩ := h p hp
  have hl := lt_of_heap h1
  refine ⟨(hg.block _ hl (fun e => h2 (hr _ e.symm))).trans h1, ?_⟩
  intro hm
  rcases List.mem_cons.1 hm with e | hm
  · rcases hat with e' | e'
    · exact h2 (by rw [e]; exact hr _ e')
    · omega
  · exact h2 hm
theorem owns_keeps {w w' : World} {base : Nat} {e : TypeId} {size n : Nat} {v : Value} {xs : List Value} {M : List Nat} (h : w.ownsRow base e size v n xs) (hk : Keeps M w w') (hM : ∀ g, v.ownBlock = some g → g ∉ M) : w'.ownsRow base e size v n xs := by
  refine ⟨h.1, ?_⟩
  rcases h.2 with h | ⟨g, cap, cur, rfl, h2, h3, h4⟩
  · exact Or.inl h
  · exact Or.inr ⟨g, cap, cur, rfl, h2, (hk.block _ (lt_of_heap h3) (hM g rfl)).trans h3, h4⟩
theorem owns_lt {w : World} {base : Nat} {e : TypeId} {size n g : Nat} {v : Value} {xs : List Value} (h : w.ownsRow base e size v n xs) (hg : v.ownBlock = some g) : base ≤ g ∧ g < w.heap.size := by
  rcases h.2 with ⟨rfl, _⟩ | ⟨g', cap, cur, rfl, h2, h3, h4⟩
  · cases hg
  · simp only [Value.ownBlock, Option.some.injEq] at hg
    subst hg
    exact ⟨h2, lt_of_heap h3⟩
theorem Keeps.young {w u u' : World} {M M' : List Nat} (h : Keeps M w u) (hk : Keeps M' u u') (hM : ∀ m ∈ M', m ∈ M ∨ w.heap.size ≤ m) : Keeps M w u' :=
  ⟨hk.os.trans h.os, hk.tape.trans h.tape, hk.output.trans h.output, Nat.le_trans h.size hk.size, fun i hi hm => (hk.block i (Nat.lt_of_lt_of_le hi h.size) (fun hh => by
    rcases hM i hh with h1 | h1
    · exact hm h1
    · omega)).trans (h.block i hi hm)⟩
def enumEnd (text : ByteArray) (n : List UInt8 × Nat) (ms : List (List UInt8 × Nat × Int)) : PM DefL := bnd (expect text [125]) fun _ => bnd (expect text [59]) fun _ => ret (.enum n.1 n.2 ms)
def members (text : ByteArray) (n : List UInt8 × Nat) : Nat → List (List UInt8 × Nat × Int) → List (Int × Int) → PM DefL
  | 0, _, _ => thr 0 0
  | k + 1, ms, l => fun σ => match member text ms.length l σ with
    | .ok (m, l', σ') => bnd (accept text [44]) (fun y => if y then members text n k (ms ++ [m]) l' else enumEnd text n (ms ++ [m])) σ'
    | .error f => .error f
theorem members_ok {text : ByteArray} {n : List UInt8 × Nat} {k : Nat} {ms : List (List UInt8 × Nat × Int)} {l l' : List (Int × Int)} {σ σ' : St} {m : List UInt8 × Nat × Int} (h : member text ms.length l σ = .ok (m, l', σ')) :
    members text n (k + 1) ms l σ = bnd (accept text [44]) (fun y => if y then members text n k (ms ++ [m]) l' else enumEnd text n (ms ++ [m])) σ' := by simp only [members, h]
theorem members_err {text : ByteArray} {n : List UInt8 × Nat} {k : Nat} {ms : List (List UInt8 × Nat × Int)} {l : List (Int × Int)} {σ : St} {f : Mar.Fault} (h : member text ms.length l σ = .error f) :
    members text n (k + 1) ms l σ = .error f := by simp only [members, h]
def enumeration (text : ByteArray) (at' : Nat) : PM DefL := bnd (newType at') fun _ => bnd (nameDef text) fun n => bnd (expect text [123]) fun _ => members text n 13 [] []
structure EnMid (A : Ad) (text : ByteArray) (w : World) (D q : Nat) (n : List UInt8 × Nat) (ms : List (List UInt8 × Nat × Int)) (ps Y : List Nat) (l : List (Int × Int)) (sl : Value) (σ : St) (u : World) : Prop where
  kp : Keeps [A.R, A.S, A.N] w u
  rd : Rd (A.plus Y) text σ u
  mine : D ∈ Y ∧ q ∈ Y ∧ D ≠ q
  new : ∀ y ∈ Y, w.heap.size ≤ y
  nums : NumsAt q l u
  box : u.heap[D]? = some (.cells #[.string ⟨n.1.toArray⟩, .int .i64 n.2, sl] 206)
  row : u.ownsRow w.heap.size 176 1 sl ms.length (ps.map fun b => Value.pointer (some ⟨b, 0, none⟩))
  own : ∀ g, sl.ownBlock = some g → g ∈ Y ∧ g ≠ D ∧ g ≠ q
  len : ps.length = ms.length
  held : Held (A.plus Y).X ((ps.zip ms).map fun p => (p.1, constObj p.2)) u
theorem EnMid.free {A : Ad} {text : ByteArray} {w u : World} {D q : Nat} {n : List UInt8 × Nat} {ms : List (List UInt8 × Nat × Int)} {ps Y : List Nat} {l : List (Int × Int)} {sl : Value} {σ σ0 : St} (h0 : Rd A text σ0 w) (m : EnMid A text w D q n ms ps Y l sl σ u) : Free (A.plus Y) q := by
  obtain ⟨l1, l2, l3, l4⟩ := h0.lt
  have hq := m.new _ m.mine.2.1
  refine ⟨List.mem_append_left _ m.mine.2.1, ?_, ?_, ?_, ?_⟩ <;> simp only [Ad.plus] <;> omega
theorem EnMid.step {A : Ad} {text : ByteArray} {w u u1 u2 u3 : World} {D q b g cap : Nat} {n : List UInt8 × Nat} {ms : List (List UInt8 × Nat × Int)} {ps Y : List Nat} {l l' : List (Int × Int)} {sl : Value} {σ σ' σ0 : St} {m : List UInt8 × Nat × Int} (h0 : Rd A text σ0 w)
    (e : EnMid A text w D q n ms ps Y l sl σ u) (hk : Keeps [A.R, A.S, A.N, q] u u1) (hr : Rd (A.plus Y) text σ' u1) (hn : NumsAt q l' u1) (hh : Held (A.plus Y).X [(b, constObj m)] u1) (hb : Below u1.heap.size u1 u2)
    (hown : u3.ownsRow w.heap.size 176 1 (.slice (some ⟨g, 0, none⟩) (ms.length + 1) cap) (ms.length + 1) ((ps.map fun b => Value.pointer (some ⟨b, 0, none⟩)) ++ [.pointer (some ⟨b, 0, none⟩)]))
    (hg : u2.grownBy u3 sl.ownBlock) (hat : sl.ownBlock = some g ∨ g = u2.heap.size) (hlt : g < u3.heap.size) :
    EnMid A text w D q n (ms ++ [m]) (ps ++ [b]) (g :: Y) l' (.slice (some ⟨g, 0, none⟩) (ms.length + 1) cap) σ' (u3.setCell ⟨D, 2, none⟩ (.slice (some ⟨g, 0, none⟩) (ms.length + 1) cap)) := by
  obtain ⟨mD, mq, nDq⟩ := e.mine
  obtain ⟨hwg, _⟩ := owns_lt hown (g := g) rfl
  have lD := lt_of_heap e.box
  have lq := lt_of_heap e.nums
  have wD := e.new _ mD
  have wq := e.new _ mq
  have k1 := hk.size
  have k2 := hb.size
  have k3 := hg.size
  have gD : g ≠ D := by
    rcases hat with h | h
    · exact (e.own g h).2.1
    · omega
  have gq : g ≠ q := by
    rcases hat with h | h
    · exact (e.own g h).2.2
    · omega
  have hrow : ∀ b, sl.ownBlock = some b → w.heap.size ≤ b ∧ b ∈ (A.plus Y).X := fun b hb => ⟨e.new _ (e.own b hb).1, List.mem_append_left _ (e.own b hb).1⟩
  have hkg := keeps_grown hg
  have hks : Keeps [D] u3 (u3.setCell ⟨D, 2, none⟩ (.slice (some ⟨g, 0, none⟩) (ms.length + 1) cap)) := (Keeps.refl [D] u3).setIn (by simp) _
  have hkb : Keeps [] u1 u2 := Keeps.of_below _ hb
  obtain ⟨l1, l2, l3, l4⟩ := h0.lt
  have rD : D ∉ sl.ownBlock.toList := by
    intro hm
    exact (e.own D (by simpa using hm)).2.1 rfl
  have rq : q ∉ sl.ownBlock.toList := by
    intro hm
    exact (e.own q (by simpa using hm)).2.2 rfl
  have hq3 := (((hn.keeps hkb (by simp)).keeps hkg rq).keeps hks (by simp; omega))
  have hbox : u3.heap[D]? = some (.cells #[.string ⟨n.1.toArray⟩, .int .i64 n.2, sl] 206) :=
    (hkg.block _ (by omega) rD).trans ((hkb.block _ (by omega) (by simp)).trans ((hk.block _ lD (by simp; omega)).trans e.box))
  refine ⟨?_, ?_, ⟨List.mem_cons_of_mem _ mD, List.mem_cons_of_mem _ mq, nDq⟩, ?_, hq3, ?_, ?_, ?_, ?_, ?_⟩
  · refine (((e.kp.young hk ?_).young hkb (by simp)).young hkg ?_).young hks (by simp; omega)
    · intro m hm
      simp at hm ⊢
      rcases hm with h | h | h | h
      · exact Or.inl (Or.inl h)
      · exact Or.inl (Or.inr (Or.inl h))
      · exact Or.inl (Or.inr (Or.inr h))
      · exact Or.inr (by omega)
    · intro m hm
      exact Or.inr (hrow m (by simpa using hm)).1
  · exact h0.young (Same.plus A (g :: Y)) (Rd.grow h0 (Same.plus A Y) (hr.below hb) hg hrow hat hlt) hks (by
      intro x hx
      simp only [List.mem_singleton] at hx
      subst hx
      exact ⟨wD, List.mem_append_left _ (List.mem_cons_of_mem _ mD)⟩)
  · intro y hy
    rcases List.mem_cons.1 hy with rfl | hy
    · exact hwg
    · exact e.new y hy
  · exact setBlock (i := 2) hbox _
  · have := owns_keeps hown hks (by
      intro g' h'
      simp only [Value.ownBlock, Option.some.injEq] at h'
      subst h'
      simp; exact gD)
    simpa using this
  · intro g' h'
    simp only [Value.ownBlock, Option.some.injEq] at h'
    subst h'
    exact ⟨List.mem_cons_self, gD, gq⟩
  · simp [e.len]
  · rw [List.zip_append (by exact e.len), List.map_append]
    have hX : ∀ m ∈ [A.R, A.S, A.N, q], m ∈ (A.plus Y).X := by
      have := hr.mine
      intro x hx
      simp at hx
      rcases hx with rfl | rfl | rfl | rfl
      · exact this.1
      · exact this.2.1
      · exact this.2.2.1
      · exact List.mem_append_left _ mq
    have hold := e.held.keeps hk hX
    have hall : Held (A.plus Y).X (((ps.zip ms).map fun p => (p.1, constObj p.2)) ++ [(b, constObj m)]) u1 := by
      intro p hp
      rcases List.mem_append.1 hp with hp | hp
      · exact hold p hp
      · exact hh p hp
    exact ((hall.keeps hkb (by simp)).grow hg (fun b hb => (hrow b hb).2) hat).keeps hks (by
      intro x hx
      simp only [List.mem_singleton] at hx
      subst hx
      exact List.mem_cons_of_mem _ (List.mem_append_left _ mD))
end Go.Proofs.YtmbcibgknckenaaGreatDoor
set_option linter.all false
set_option maxRecDepth 100000
set_option maxHeartbeats 4000000
namespace Go.Proofs.YtmbcibgknckenaaGreatDoor
open Go.RowKit
open Go.MapKept
def lenAt (w : World) (D : Nat) : Nat := match w.cell? ⟨D, 2, none⟩ with
  | some (.slice _ n _) => n
  | _ => 0
theorem infoPC : (Tryz.prog.info? 176).map (fun i => (i.zero, i.size, i.bytes)) = some (some (.pointer none), 1, 8) := by kernel_rfl
theorem EnMid.slice {A : Ad} {text : ByteArray} {w u : World} {D q : Nat} {n : List UInt8 × Nat} {ms : List (List UInt8 × Nat × Int)} {ps Y : List Nat} {l : List (Int × Int)} {sl : Value} {σ : St} (m : EnMid A text w D q n ms ps Y l sl σ u) : ∃ ad cap, sl = .slice ad ms.length cap := by
  rcases m.row.2 with ⟨rfl, h⟩ | ⟨g, cap, cur, rfl, _⟩
  · exact ⟨none, 0, by rw [h]⟩
  · exact ⟨_, _, rfl⟩
theorem member_at {A' A : Ad} (hA : Same A' A) {text : ByteArray} {σ : St} (n : Nat) {q : Nat} {l : List (Int × Int)} {w : World} (h : Rd A' text σ w) (hq : Free A' q) (hn : NumsAt q l w) :
    Calls Tryz.prog 127 #[.pointer (some ⟨A.R, 0, none⟩), .int .i64 n, .map (some q)] w (GivesM [A.R, A.S, A.N, q] A' text w q (member text n l σ)) := by
  obtain ⟨a1, a2, a3, a4⟩ := hA
  rw [← a1, ← a2, ← a3]
  exact member_any n h hq hn
theorem member_room {text : ByteArray} {n : Nat} {l l' : List (Int × Int)} {σ σ' : St} {m : List UInt8 × Nat × Int} (h : member text n l σ = .ok (m, l', σ')) : n < 12 := by
  rcases Nat.lt_or_ge n 12 with hn | hn
  · exact hn
  · exfalso
    unfold member at h
    cases hx : peek text σ with
    | error f => rw [bndx_err (lift_err hx)] at h; cases h
    | ok p =>
      obtain ⟨x, σ1⟩ := p
      rw [bndx_ok (lift_ok hx), bndx_err (lift_err (show roomP n 12 x.at' σ1 = _ from if_pos hn))] at h
      cases h
theorem lenAt_of {u : World} {D k cap : Nat} {a b : Value} {ad : Option Addr} {T : TypeId} (h : u.heap[D]? = some (.cells #[a, b, .slice ad k cap] T)) : lenAt u D = k := by
  obtain ⟨_, _, k2, _⟩ := bound3 h
  unfold lenAt
  rw [k2]
theorem EnMid.scan {A : Ad} {text : ByteArray} {w u u' : World} {D q : Nat} {n : List UInt8 × Nat} {ms : List (List UInt8 × Nat × Int)} {ps Y : List Nat} {l : List (Int × Int)} {sl : Value} {σ σ' σ0 : St} (h0 : Rd A text σ0 w) (m : EnMid A text w D q n ms ps Y l sl σ u) (hk : Keeps [A.S] u u') (hr : Rd (A.plus Y) text σ' u') :
    EnMid A text w D q n ms ps Y l sl σ' u' := by
  obtain ⟨l1, l2, l3, l4⟩ := h0.lt
  have wD := m.new _ m.mine.1
  have wq := m.new _ m.mine.2.1
  refine ⟨m.kp.trans (hk.mono (by simp)), hr, m.mine, m.new, m.nums.keeps hk (by simp; omega), (hk.block _ (lt_of_heap m.box) (by simp; omega)).trans m.box, owns_keeps m.row hk ?_, m.own, m.len, m.held.keeps hk (by intro x hx; simp only [List.mem_singleton] at hx; subst hx; exact hr.mine.2.1)⟩
  intro g hg
  have := m.new _ (m.own g hg).1
  simp; omega
theorem EnMid.fin {A : Ad} {text : ByteArray} {w u : World} {D q : Nat} {n : List UInt8 × Nat} {ms : List (List UInt8 × Nat × Int)} {ps Y : List Nat} {l : List (Int × Int)} {sl : Value} {σ σ0 : St} (h0 : Rd A text σ0 w) (m : EnMid A text w D q n ms ps Y l sl σ u) (hle : ms.length ≤ 12)
    {r : Except Mar.Fault (DefL × St)} (hr : r = .ok (.enum n.1 n.2 ms, σ)) : GivesD [A.R, A.S, A.N] A text w r (.returned (.pointer (some ⟨D, 0, none⟩))) u := by
  have far : ∀ b, w.heap.size ≤ b → b ∉ A.X := fun b hb hm => by have := h0.old _ hm; omega
  have hsub : Held A.X ((ps.zip ms).map fun p => (p.1, constObj p.2)) u := m.held.sub (fun x hx => List.mem_append_right _ hx)
  have hD : u.heap[D]? = some (.cells #[.string ⟨n.1.toArray⟩, .int .i64 n.2, sl] 206) ∧ D ∉ A.X := ⟨m.box, far _ (m.new _ m.mine.1)⟩
  have hcs : ∀ i (h : i < ms.length) (h' : i < ps.length), (ps[i], constObj ms[i]) ∈ ((ps.zip ms).map fun p => (p.1, constObj p.2)) := by
    intro i h h'
    rw [List.mem_map]
    exact ⟨(ps[i], ms[i]), by rw [List.mem_iff_getElem]; exact ⟨i, by simp; omega, by simp⟩, rfl⟩
  refine ⟨m.kp, Or.inl ⟨.enum n.1 n.2 ms, σ, D, ?_⟩⟩
  rcases m.row.2 with ⟨rfl, h⟩ | ⟨g, cap, cur, rfl, hg1, hg2, hg3, hg4, hg5, hg6⟩
  · refine ⟨(D, .cells #[.string ⟨n.1.toArray⟩, .int .i64 n.2, .slice none 0 0] 206) :: ((ps.zip ms).map fun p => (p.1, constObj p.2)), hr, rfl, Rd.dropAll h0.mine m.rd, ⟨.slice none 0 0, ps, List.mem_cons_self, m.len, Or.inl ⟨rfl, h, ?_⟩, fun i h h' => List.mem_cons_of_mem _ (hcs i h h')⟩, ?_⟩
    · have : ps = [] := List.length_eq_zero_iff.1 (by rw [m.len, h])
      rw [this]; rfl
    · intro p hp
      rcases List.mem_cons.1 hp with rfl | hp
      · exact hD
      · exact hsub p hp
  · refine ⟨(D, .cells #[.string ⟨n.1.toArray⟩, .int .i64 n.2, .slice (some ⟨g, 0, none⟩) ms.length cap] 206) :: (g, .cells cur 176) :: ((ps.zip ms).map fun p => (p.1, constObj p.2)), hr, rfl, Rd.dropAll h0.mine m.rd, ⟨_, ps, List.mem_cons_self, m.len, Or.inr ⟨g, cap, cur, rfl, ⟨hg3, by omega⟩, by simp, ?_⟩, fun i h h' => List.mem_cons_of_mem _ (List.mem_cons_of_mem _ (hcs i h h'))⟩, ?_⟩
    · rw [Nat.mul_one] at hg6
      rw [List.length_map, m.len]
      exact hg6
    · intro p hp
      rcases List.mem_cons.1 hp with rfl | hp
      · exact hD
      · rcases List.mem_cons.1 hp with rfl | hp
        · exact ⟨hg2, far _ hg1⟩
        · exact hsub p hp
theorem enumeration_any {A : Ad} {text : ByteArray} {σ : St} (at' : Nat) {w : World} (h : Rd A text σ w) :
    Calls Tryz.prog 88 #[.pointer (some ⟨A.R, 0, none⟩), .int .i64 at'] w (GivesD [A.R, A.S, A.N] A text w (enumeration text at' σ)) := by
  have hmf : ∀ (fn : Fn) (first cap : Array Value) (w : World), (Instr.makeFunc fn first cap).run Tryz.prog w = .ok (.func fn first cap) w := fun _ _ _ _ => rfl
  have hmm : ∀ (t : TypeId) (w : World), (Instr.makeMap t none).run Tryz.prog w = .ok (.map (some w.heap.size)) (w.alloc (.map #[] 0)) := fun _ _ => rfl
  obtain ⟨i0, hi0, hz0, hz1, hz2⟩ := info_parts infoPC
  go_enter Tryz.func88, Tryz.ntmps88
  go_wp2_with fail
  refine (newType_any at' h).mono ?_
  rintro e w1 ⟨hk1, ⟨u, σ1, hx1, rfl, hr1⟩ | ⟨f, hx1, b, hbb, rfl, hcell⟩⟩
  rotate_left
  · exact bodyPost_panics (GivesD.throws (hk1.mono (by simp)) (Keeps.refl [] _) (bnd_err hx1) hbb hcell)
  have hK1 := hk1.mono (M' := [A.R, A.S, A.N]) (by simp)
  clear hk1
  go_wp2_with fail
  refine (nameDef_calls hr1).mono ?_
  rintro e w2 ⟨hk2, ⟨n, σ2, hx2, rfl, hr2⟩ | ⟨f, hx2, b, hbb, rfl, hcell⟩⟩
  rotate_left
  · exact bodyPost_panics (GivesD.throws (hK1.trans (hk2.mono (by simp))) hK1 ((bnd_ok hx1).trans (bnd_err hx2)) hbb hcell)
  have hK2 := hK1.trans (hk2.mono (M' := [A.R, A.S, A.N]) (by simp))
  clear hk2 hK1
  dsimp only [nameV]
  have hX2 := hr2.old
  have hlS := hr2.lt.2.1
  have hr3 := hr2.own (.cells #[.string ⟨n.1.toArray⟩, .int .i64 n.2, .slice none 0 0] 206)
  have hv := heap_alloc_at (w := w2) (o := .cells #[.string ⟨n.1.toArray⟩, .int .i64 n.2, .slice none 0 0] 206) rfl
  have hK3 := hK2.alloc (.cells #[.string ⟨n.1.toArray⟩, .int .i64 n.2, .slice none 0 0] 206)
  have hne : w2.heap.size ∉ [A.S] := by simp; omega
  go_wp2_with fail
  refine (expect_at (Same.add A _) _ hr3).mono ?_
  rintro e w4 ⟨hk4, ⟨x4, σ4, hx4, rfl, hr4⟩ | ⟨f, hx4, b, hbb, rfl, hcell⟩⟩
  rotate_left
  · exact bodyPost_panics (GivesD.throws (hK3.trans (hk4.mono (by simp))) hK3 ((bnd_ok hx1).trans ((bnd_ok hx2).trans (bnd_err hx4))) hbb hcell)
  have hv4 := (hk4.block _ (lt_of_heap hv) hne).trans hv
  have hl4 := lt_of_heap hv4
  have hK4 := hK3.trans (hk4.mono (M' := [A.R, A.S, A.N]) (by simp))
  have hE4 : enumeration text at' σ = members text n 13 [] [] σ4 := (bnd_ok hx1).trans ((bnd_ok hx2).trans (bnd_ok hx4))
  have hm0 : EnMid A text w w2.heap.size w4.heap.size n [] [] [w4.heap.size, w2.heap.size] [] (.slice none 0 0) σ4 (w4.alloc (.map #[] 0)) := by
    have hka : Keeps [] w4 (w4.alloc (.map #[] 0)) := (Keeps.refl [] w4).alloc _
    refine ⟨hK4.alloc _, hr4.own _, ⟨by simp, by simp, by omega⟩, ?_, heap_alloc_at (w := w4) rfl, (hka.block _ hl4 (by simp)).trans hv4, ⟨rfl, Or.inl ⟨rfl, rfl⟩⟩, (by intro g hg; cases hg), rfl, (by intro p hp; cases hp)⟩
    intro y hy
    have s1 := hK2.size
    have s2 := hK4.size
    simp at hy
    rcases hy with rfl | rfl <;> omega
  have HM := Hid.mk hm0
  have HE := Hid.mk hE4
  have HX := Hid.mk hX2
  clear hk4 hv hK3 hr3 hm0 hE4 hv4 hK4 hr4 hx1 hx2 hx4 hr1 hK2 hX2
  go_wp2
  go_loopw [7] (fun b u => ∃ (y : Bool) (ms : List (List UInt8 × Nat × Int)) (ps Y : List Nat) (l : List (Int × Int)) (sl : Value) (σ' : St), b = .bool y ∧ ms.length ≤ 12 ∧ Hid (EnMid A text w w2.heap.size w4.heap.size n ms ps Y l sl σ' u) ∧
      Hid (enumeration text at' σ = (if y then members text n (13 - ms.length) ms l else enumEnd text n ms) σ')) (fun _ u => 13 - lenAt u w2.heap.size)
  case atStart => exact ⟨true, [], [], _, [], _, σ4, rfl, by simp, HM, HE⟩
  case round =>
    obtain ⟨y, ms, ps, Y, l, sl, σ', rfl, hlen, M, E⟩ := hrel
    clear HM HE
    cases y with
    | false =>
      go_wp2_with fail
      refine (expect_at (Same.plus A Y) _ M.out.rd).mono ?_
      rintro e w5 ⟨hk5, ⟨x5, σ5, hx5, rfl, hr5⟩ | ⟨f, hx5, b, hbb, rfl, hcell⟩⟩
      rotate_left
      · exact bodyPost_panics (GivesD.throws (M.out.kp.trans (hk5.mono (by simp))) M.out.kp (E.out.trans (bnd_err hx5)) hbb hcell)
      have M5 := Hid.mk (M.out.scan h hk5 hr5)
      clear hk5 hr5
      go_wp2_with fail
      refine (expect_at (Same.plus A Y) _ M5.out.rd).mono ?_
      rintro e w6 ⟨hk6, ⟨x6, σ6, hx6, rfl, hr6⟩ | ⟨f, hx6, b, hbb, rfl, hcell⟩⟩
      rotate_left
      · exact bodyPost_panics (GivesD.throws (M5.out.kp.trans (hk6.mono (by simp))) M5.out.kp (E.out.trans ((bnd_ok hx5).trans (bnd_err hx6))) hbb hcell)
      have M6 := Hid.mk (M5.out.scan h hk6 hr6)
      clear hk6 hr6
      go_wp2
      go_ret
      exact M6.out.fin h hlen (E.out.trans ((bnd_ok hx5).trans (bnd_ok hx6)))
    | true =>
      obtain ⟨ad, cap, rfl⟩ := M.out.slice
      obtain ⟨k0, k1, k2, hfrK⟩ := bound3 M.out.box
      have hbd : Below wr.heap.size wr wr.drew := (Below.refl _ _).drew
      have HC := Hid.mk (member_at (Same.plus A Y) ms.length (M.out.rd.below hbd) (M.out.free h) ((hbd.block _ (lt_of_heap M.out.nums)).trans M.out.nums))
      have HQ : Hid (13 - ms.length = (12 - ms.length) + 1) := by show _ = _; omega
      have EM : Hid (enumeration text at' σ = members text n ((12 - ms.length) + 1) ms l σ') := by
        have h1 := E.out
        rw [HQ.out] at h1
        exact h1
      clear E
      have herr : ∀ (f : Mar.Fault) (b : Nat) (u' : World), member text ms.length l σ' = .error f → wr.heap.size ≤ b → Keeps [A.R, A.S, A.N, w4.heap.size] wr.drew u' → u'.heap[b]? = some (.cells #[.int .i64 f.no, .int .i64 f.at'] 83) →
          GivesD [A.R, A.S, A.N] A text w (enumeration text at' σ) (.panicked [{ v := .iface 79 (.pointer (some ⟨b, 0, none⟩)), recovered := false }]) u' := by
        intro f b u' hf hb hk hc
        have hwq := M.out.new _ M.out.mine.2.1
        refine GivesD.throws (M.out.kp.young (((Keeps.refl _ wr).drew).trans hk) ?_) M.out.kp (EM.out.trans (members_err hf)) hb hc
        intro m hm
        simp at hm ⊢
        rcases hm with h | h | h | h
        · exact Or.inl (Or.inl h)
        · exact Or.inl (Or.inr (Or.inl h))
        · exact Or.inl (Or.inr (Or.inr h))
        · exact Or.inr (by omega)
      have HERR := Hid.mk herr
      have hrM : ∀ g, (Value.slice ad ms.length cap).ownBlock = some g → g ∉ [A.R, A.S, A.N, w4.heap.size] := by
        intro g hg
        have h1 := M.out.own g hg
        have h2 := M.out.new _ h1.1
        obtain ⟨l1, l2, l3, l4⟩ := h.lt
        simp; omega
      have hat5 : ∀ w5, Keeps [A.R, A.S, A.N, w4.heap.size] wr.drew w5 → (∀ o, (w5.alloc o).ownsRow w.heap.size 176 1 (.slice ad ms.length cap) ms.length (ps.map fun b => Value.pointer (some ⟨b, 0, none⟩))) ∧
          w5.heap[w2.heap.size]? = some (.cells #[.string ⟨n.1.toArray⟩, .int .i64 n.2, .slice ad ms.length cap] 206) ∧ w.heap.size ≤ w5.heap.size := by
        intro w5 hk5
        have hk5' := ((Keeps.refl _ wr).drew).trans hk5
        have h1 := M.out.new _ M.out.mine.1
        obtain ⟨l1, l2, l3, l4⟩ := h.lt
        have h2 := M.out.mine.2.2
        refine ⟨fun o => owns_keeps (owns_keeps M.out.row hk5' hrM) ((Keeps.refl [] w5).alloc o) (by simp), (hk5'.block _ (lt_of_heap M.out.box) (by simp; omega)).trans M.out.box, Nat.le_trans M.out.kp.size hk5'.size⟩
      have H5 := Hid.mk hat5
      have hat6 : ∀ w5 o w6, Keeps [A.R, A.S, A.N, w4.heap.size] wr.drew w5 → (w5.alloc o).grownBy w6 (Value.slice ad ms.length cap).ownBlock → w6.heap[w2.heap.size]? = some (.cells #[.string ⟨n.1.toArray⟩, .int .i64 n.2, .slice ad ms.length cap] 206) := by
        intro w5 o w6 hk5 hg
        obtain ⟨_, h5, _⟩ := hat5 w5 hk5
        have hl := lt_of_heap h5
        exact (hg.block _ (by simp; omega) (fun e => (M.out.own _ e.symm).2.1 rfl)).trans ((((Keeps.refl [] w5).alloc o).block _ hl (by simp)).trans h5)
      have H6 := Hid.mk hat6
      have hz3 : (Value.pointer none).cells.size = 1 := rfl
      have hl1 : ms.length + 1 ≤ maxLen := by unfold maxLen; omega
      have hl2 : (ms.length + 1) * 8 ≤ 140737488355328 := by omega
      clear herr hat5 hat6
      go_wp2_with fail
      go_region_law (first
        | (go_simp; go_at_call 127; refine HC.out.mono ?_; rintro e w5 ⟨hk5, ⟨m, l5, σ5, b, hx5, rfl, hr5, hn5, hh5⟩ | ⟨f, hx5, b, hbb, rfl, hcell⟩⟩; rotate_left; exact (show bodyPost Tryz.prog Tryz.f88 (GivesD [A.R, A.S, A.N] A text w (enumeration text at' σ)) (Exit.panic _) _ w5 from bodyPost_panics (HERR.out f b w5 hx5 hbb hk5 hcell)); dsimp only; obtain ⟨hown5, hbox5, hwl⟩ := H5.out w5 hk5; obtain ⟨y0, y1, y2, hfy⟩ := bound3 hbox5; have hlt5 := lt_of_heap hbox5; have hne5 := Nat.ne_of_lt hlt5)
        | (refine step_append_lies _ (by rfl) _ _ _ (by rfl) w.heap.size 176 i0 _ 1 8 Tryz.underlying204 hi0 hz0 hz1 hz2 hz3 (by omega) (.slice ad ms.length cap) ms.length (ps.map fun b => Value.pointer (some ⟨b, 0, none⟩)) (by rfl) (hown5 _) ⟨w5.heap.size, 0, none⟩ 1 1 [.pointer (some ⟨b, 0, none⟩)] (by rfl) (by rfl) (World.news_of_block (cs := #[.pointer (some ⟨b, 0, none⟩)]) (t := 176) (fr := (0, 0)) (heap_alloc_new w5 _)) (by simp [Value.oneCell']) (by omega) hl1 hl2 (by simp; omega) (w5.heap.size + 1) (by simp) ?_; intro g cap' w6 hown6 hgrow hat hlt; have hbox6 := H6.out w5 _ w6 hk5 hgrow; obtain ⟨z0, z1, z2, hfz⟩ := bound3 hbox6))
      all_goals
        have h12 := member_room hx5
        have M6 := Hid.mk (EnMid.step h M.out (((Keeps.refl _ wr).drew).trans hk5) hr5 hn5 hh5 ((Below.refl w5.heap.size w5).alloc (Nat.le_refl _) _) hown6 hgrow (by simpa using hat) hlt)
        clear hk5 hr5 hn5 hh5 hown6 hgrow hat hlt hbox6 z0 z1 z2 hfz hbox5 y0 y1 y2 hfy hown5
        go_wp2_with fail
        refine (accept_at (Same.plus A (g :: Y)) _ M6.out.rd).mono ?_
        rintro e w7 ⟨hk7, ⟨y7, σ7, hx7, rfl, hr7⟩ | ⟨f, hx7, b7, hbb, rfl, hcell⟩⟩
        rotate_left
        · exact (show bodyPost Tryz.prog Tryz.f88 (GivesD [A.R, A.S, A.N] A text w (enumeration text at' σ)) (Exit.panic _) _ w7 from bodyPost_panics (GivesD.throws (M6.out.kp.trans (hk7.mono (by simp))) M6.out.kp (EM.out.trans ((members_ok hx5).trans (bnd_err hx7))) hbb hcell))
        have M7 := Hid.mk (M6.out.scan h hk7 hr7)
        have E7 : Hid (enumeration text at' σ = (if y7 = true then members text n (13 - (ms ++ [m]).length) (ms ++ [m]) l5 else enumEnd text n (ms ++ [m])) σ7) := by
          refine EM.out.trans ((members_ok hx5).trans ((bnd_ok hx7).trans ?_))
          have : 13 - (ms ++ [m]).length = 12 - ms.length := by simp
          rw [this]
        have L1 := lenAt_of M.out.box
        have L2 := lenAt_of M7.out.box
        clear hk7 hr7
        go_wp2
        refine ⟨⟨y7, ms ++ [m], ps ++ [b], g :: Y, l5, _, σ7, rfl, by simp; omega, M7, E7⟩, ?_⟩
        rw [L1, L2]
        omega
end Go.Proofs.YtmbcibgknckenaaGreatDoor
set_option linter.all false
set_option maxRecDepth 100000
set_option maxHeartbeats 4000000
namespace Go.Proofs.YtmbcibgknckenaaGreatDoor
open Go.RowKit
open Go.MapKept
def GivesO {τ : Type} (A : Ad) (w : World) (J : List Nat → τ → St → World → Prop) (r : Except Mar.Fault (Unit × τ × St)) (e : Ending) (u' : World) : Prop :=
  (∃ Y' t' σ', r = .ok ((), t', σ') ∧ e = .returned (.tuple #[]) ∧ J Y' t' σ' u') ∨ (∃ f, r = .error f ∧ Keeps [A.R, A.S, A.N] w u' ∧ Thrown w f.no f.at' e u')
theorem GivesO.throws {τ : Type} {M' : List Nat} {A : Ad} {w w1 u' : World} {J : List Nat → τ → St → World → Prop} {r : Except Mar.Fault (Unit × τ × St)} {f : Mar.Fault} {b : Nat}
    (hk : Keeps [A.R, A.S, A.N] w u') (hk1 : Keeps M' w w1) (hr : r = .error f) (hb : w1.heap.size ≤ b) (hc : u'.heap[b]? = some (.cells #[.int .i64 f.no, .int .i64 f.at'] 83)) :
    GivesO A w J r (.panicked [{ v := .iface 79 (.pointer (some ⟨b, 0, none⟩)), recovered := false }]) u' :=
  Or.inr ⟨f, hr, hk, b, Nat.le_trans hk1.size hb, rfl, hc⟩
structure One (τ : Type) (A : Ad) (text : ByteArray) (w : World) (most : Nat) where
  f : Nat
  cap : Array Value
  run : PX τ Unit
  J : Nat → List Nat → τ → St → World → Prop
  enters : ∀ (args : Array Value) (u : World), (callFunc f args).run Tryz.prog u = .ok (.enter f args) u
  rd : ∀ {n Y t σ u}, J n Y t σ u → Rd (A.plus Y) text σ u
  kp : ∀ {n Y t σ u}, J n Y t σ u → Keeps [A.R, A.S, A.N] w u
  scan : ∀ {n Y t σ σ' u u'}, J n Y t σ u → Keeps [A.S] u u' → Rd (A.plus Y) text σ' u' → J n Y t σ' u'
  call : ∀ {n Y t σ u}, n < most → J n Y t σ u → Calls Tryz.prog f cap u (GivesO A w (J (n + 1)) (run t σ))
def blockF {τ : Type} (text : ByteArray) (most : Nat) (run : PX τ Unit) : Nat → Nat → PX τ Unit
  | 0, _ => lift (thr 0 0)
  | k + 1, n => bndx (if n = 0 then retx false else lift (accept text [125])) fun y => if y then retx () else
      bndx (lift (peek text)) fun x => bndx (lift (roomP n most x.at')) fun _ => bndx run fun _ => blockF text most run k (n + 1)
def block {τ : Type} (text : ByteArray) (most : Nat) (run : PX τ Unit) : PX τ Unit := bndx (lift (expect text [123])) fun _ => blockF text most run (most + 2) 0
theorem peek_at {A' A : Ad} (hA : Same A' A) {text : ByteArray} {σ : St} {w : World} (h : Rd A' text σ w) :
    Calls Tryz.prog 49 #[.pointer (some ⟨A.S, 0, none⟩)] w (Gives [A.S] A' text w (peek text σ) wordV) := by
  obtain ⟨a1, a2, a3, a4⟩ := hA
  rw [← a2]
  exact peek_calls h
def blockR {τ : Type} (text : ByteArray) (most : Nat) (run : PX τ Unit) (k n : Nat) : PX τ Unit :=
  bndx (lift (peek text)) fun x => bndx (lift (roomP n most x.at')) fun _ => bndx run fun _ => blockF text most run k (n + 1)
theorem block_any {τ : Type} {A : Ad} {text : ByteArray} {w : World} (most : Nat) (O : One τ A text w most) {Y : List Nat} {t : τ} {σ : St} {u : World} (hmost : most ≤ 1000) (h : O.J 0 Y t σ u) :
    Calls Tryz.prog 129 #[.pointer (some ⟨A.R, 0, none⟩), .int .i64 most, .func (.func O.f) #[] O.cap] u (GivesO A w (fun Y t σ u => ∃ n ≤ most, O.J n Y t σ u) (block text most O.run t σ)) := by
  have hen := O.enters
  have hft := field_at
  go_enter Tryz.func129, Tryz.ntmps129
  go_wp2_with fail
  refine (expect_at (Same.plus A Y) _ (O.rd h)).mono ?_
  rintro e w1 ⟨hk1, ⟨x1, σ1, hx1, rfl, hr1⟩ | ⟨f, hx1, b, hbb, rfl, hcell⟩⟩
  rotate_left
  · exact bodyPost_panics (GivesO.throws ((O.kp h).trans (hk1.mono (by simp))) (O.kp h) (bndx_err (lift_err hx1)) hbb hcell)
  have J1 := Hid.mk (O.scan h hk1 hr1)
  have E1 : Hid (block text most O.run t σ = blockF text most O.run (most + 2) 0 t σ1) := bndx_ok (lift_ok hx1)
  clear hk1 hr1 hx1
  dsimp only [wordV]
  go_wp2
  go_loopw [6] (fun i ur => ∃ (n : Nat) (Y' : List Nat) (t' : τ) (σ' : St), i = .int .i64 n ∧ n ≤ most ∧ Hid (O.J n Y' t' σ' ur) ∧ Hid (block text most O.run t σ = blockF text most O.run (most + 2 - n) n t' σ')) (fun i _ => most + 1 - (intOf i).toNat)
  case atStart => exact ⟨0, _, _, _, rfl, by omega, J1, E1⟩
  case round =>
    obtain ⟨n, Y', t', σ', rfl, hn, J, E⟩ := hrel
    clear J1 E1
    have E0 : Hid (block text most O.run t σ = blockF text most O.run ((most + 1 - n) + 1) n t' σ') := by
      have h1 := E.out
      rw [show most + 2 - n = (most + 1 - n) + 1 by omega] at h1
      exact h1
    clear E
    by_cases h0 : n = 0
    · have c0 : wr.cell? ⟨A.R, 0, none⟩ = some (.pointer (some ⟨A.S, 0, none⟩)) := (O.rd J.out).cells.1
      have EA : Hid (block text most O.run t σ = blockR text most O.run (most + 1 - n) n t' σ') := by
        refine E0.out.trans ?_
        simp only [blockF, if_pos h0]
        rfl
      have JA := J
      clear E0 J
      have h0' : ((n : Int) == 0) = true := by simp [h0]
      go_wp2_with fail
      refine (peek_at (Same.plus A Y') (O.rd JA.out)).mono ?_
      rintro e w5 ⟨hk5, ⟨x5, σ5, hx5, rfl, hr5⟩ | ⟨f, hx5, b, hbb, rfl, hcell⟩⟩
      rotate_left
      · exact (show bodyPost Tryz.prog Tryz.f129 (GivesO A w (fun Y t σ u => ∃ n ≤ most, O.J n Y t σ u) (block text most O.run t σ)) (Exit.panic _) _ w5 from bodyPost_panics (GivesO.throws ((O.kp JA.out).trans (hk5.mono (by simp))) (O.kp JA.out) (EA.out.trans (bndx_err (lift_err hx5))) hbb hcell))
      have J5 := Hid.mk (O.scan JA.out hk5 hr5)
      clear hk5 hr5
      dsimp only [wordV]
      go_wp2_with fail
      by_cases hfi : most ≤ n
      · refine (room_full _ _ _ _ (by omega)).mono ?_
        rintro e w6 ⟨⟨b, hbb, rfl, hcell⟩, hb⟩
        exact (show bodyPost Tryz.prog Tryz.f129 (GivesO A w (fun Y t σ u => ∃ n ≤ most, O.J n Y t σ u) (block text most O.run t σ)) (Exit.panic _) _ w6 from bodyPost_panics (GivesO.throws (f := ⟨5, x5.at'⟩) ((O.kp J5.out).trans (Keeps.of_below _ hb)) (O.kp J5.out) (EA.out.trans ((bndx_ok (lift_ok hx5)).trans (bndx_err (lift_err (show roomP n most x5.at' σ5 = _ from if_pos hfi))))) hbb hcell))
      have hx6 : roomP n most x5.at' σ5 = .ok ((), σ5) := if_neg hfi
      refine (room_ok _ _ _ _ (by omega)).mono ?_
      rintro e w6 ⟨rfl, rfl⟩
      go_wp2_with fail
      refine (O.call (by omega) J5.out).mono ?_
      rintro e w7 (⟨Y7, t7, σ7, hx7, rfl, hJ7⟩ | ⟨f, hx7, hk7, b, hbb, rfl, hcell⟩)
      rotate_left
      · exact (show bodyPost Tryz.prog Tryz.f129 (GivesO A w (fun Y t σ u => ∃ n ≤ most, O.J n Y t σ u) (block text most O.run t σ)) (Exit.panic _) _ w7 from bodyPost_panics (Or.inr ⟨f, EA.out.trans ((bndx_ok (lift_ok hx5)).trans ((bndx_ok (lift_ok hx6)).trans (bndx_err hx7))), hk7, b, hbb, rfl, hcell⟩))
      have J7 := Hid.mk hJ7
      have E7 : Hid (block text most O.run t σ = blockF text most O.run (most + 2 - (n + 1)) (n + 1) t7 σ7) := by
        refine EA.out.trans ((bndx_ok (lift_ok hx5)).trans ((bndx_ok (lift_ok hx6)).trans ((bndx_ok hx7).trans ?_)))
        rw [show most + 2 - (n + 1) = most + 1 - n by omega]
      clear hJ7
      go_wp2
      exact ⟨⟨n + 1, Y7, t7, σ7, by simp [h0], by omega, J7, E7⟩, by simp [intOf, h0]; try omega⟩
    · have h0' : ((n : Int) == 0) = false := by simp; omega
      go_wp2_with fail
      refine (accept_at (Same.plus A Y') _ (O.rd J.out)).mono ?_
      rintro e w3 ⟨hk3, ⟨y3, σ3, hx3, rfl, hr3⟩ | ⟨f, hx3, b, hbb, rfl, hcell⟩⟩
      rotate_left
      · refine (show bodyPost Tryz.prog Tryz.f129 (GivesO A w (fun Y t σ u => ∃ n ≤ most, O.J n Y t σ u) (block text most O.run t σ)) (Exit.panic _) _ w3 from bodyPost_panics (GivesO.throws ((O.kp J.out).trans (hk3.mono (by simp))) (O.kp J.out) (E0.out.trans ?_) hbb hcell))
        simp only [blockF, if_neg h0]
        exact bndx_err (lift_err hx3)
      have JB := Hid.mk (O.scan J.out hk3 hr3)
      have EB : Hid (block text most O.run t σ = (if y3 = true then retx () else blockR text most O.run (most + 1 - n) n) t' σ3) := by
        refine E0.out.trans ?_
        simp only [blockF, if_neg h0]
        exact bndx_ok (lift_ok hx3)
      have c0 : w3.cell? ⟨A.R, 0, none⟩ = some (.pointer (some ⟨A.S, 0, none⟩)) := (O.rd JB.out).cells.1
      clear hk3 hr3 J E0
      cases y3 with
      | true =>
        go_wp2
        go_end0
        exact Or.inl ⟨_, t', σ3, EB.out, rfl, n, hn, JB.out⟩
      | false =>
        go_wp2_with fail
        refine (peek_at (Same.plus A Y') (O.rd JB.out)).mono ?_
        rintro e w5 ⟨hk5, ⟨x5, σ5, hx5, rfl, hr5⟩ | ⟨f, hx5, b, hbb, rfl, hcell⟩⟩
        rotate_left
        · exact (show bodyPost Tryz.prog Tryz.f129 (GivesO A w (fun Y t σ u => ∃ n ≤ most, O.J n Y t σ u) (block text most O.run t σ)) (Exit.panic _) _ w5 from bodyPost_panics (GivesO.throws ((O.kp JB.out).trans (hk5.mono (by simp))) (O.kp JB.out) (EB.out.trans (bndx_err (lift_err hx5))) hbb hcell))
        have J5 := Hid.mk (O.scan JB.out hk5 hr5)
        clear hk5 hr5
        dsimp only [wordV]
        go_wp2_with fail
        by_cases hfi : most ≤ n
        · refine (room_full _ _ _ _ (by omega)).mono ?_
          rintro e w6 ⟨⟨b, hbb, rfl, hcell⟩, hb⟩
          exact (show bodyPost Tryz.prog Tryz.f129 (GivesO A w (fun Y t σ u => ∃ n ≤ most, O.J n Y t σ u) (block text most O.run t σ)) (Exit.panic _) _ w6 from bodyPost_panics (GivesO.throws (f := ⟨5, x5.at'⟩) ((O.kp J5.out).trans (Keeps.of_below _ hb)) (O.kp J5.out) (EB.out.trans ((bndx_ok (lift_ok hx5)).trans (bndx_err (lift_err (show roomP n most x5.at' σ5 = _ from if_pos hfi))))) hbb hcell))
        have hx6 : roomP n most x5.at' σ5 = .ok ((), σ5) := if_neg hfi
        refine (room_ok _ _ _ _ (by omega)).mono ?_
        rintro e w6 ⟨rfl, rfl⟩
        go_wp2_with fail
        refine (O.call (by omega) J5.out).mono ?_
        rintro e w7 (⟨Y7, t7, σ7, hx7, rfl, hJ7⟩ | ⟨f, hx7, hk7, b, hbb, rfl, hcell⟩)
        rotate_left
        · exact (show bodyPost Tryz.prog Tryz.f129 (GivesO A w (fun Y t σ u => ∃ n ≤ most, O.J n Y t σ u) (block text most O.run t σ)) (Exit.panic _) _ w7 from bodyPost_panics (Or.inr ⟨f, EB.out.trans ((bndx_ok (lift_ok hx5)).trans ((bndx_ok (lift_ok hx6)).trans (bndx_err hx7))), hk7, b, hbb, rfl, hcell⟩))
        have J7 := Hid.mk hJ7
        have E7 : Hid (block text most O.run t σ = blockF text most O.run (most + 2 - (n + 1)) (n + 1) t7 σ7) := by
          refine EB.out.trans ((bndx_ok (lift_ok hx5)).trans ((bndx_ok (lift_ok hx6)).trans ((bndx_ok hx7).trans ?_)))
          rw [show most + 2 - (n + 1) = most + 1 - n by omega]
        clear hJ7
        go_wp2
        exact ⟨⟨n + 1, Y7, t7, σ7, by go_num, by omega, J7, E7⟩, by simp [intOf]; omega⟩
end Go.Proofs.YtmbcibgknckenaaGreatDoor
set_option linter.all false
set_option maxRecDepth 100000
set_option maxHeartbeats 4000000
namespace Go.Proofs.YtmbcibgknckenaaGreatDoor
open Go.RowKit
open Go.MapKept
theorem among_any (w : World) : Calls Tryz.prog 128 #[] w fun e w' => ∃ q bx, e = .returned (amongC q bx).v ∧ w.heap.size ≤ q ∧ w.heap.size ≤ bx ∧ q ≠ bx ∧ (amongC q bx).I [] w' ∧ Below w.heap.size w w' ∧ w'.heap[bx]? = some (.cells #[.map (some q)] 64) := by
  have hmm : ∀ (t : TypeId) (w : World), (Instr.makeMap t none).run Tryz.prog w = .ok (.map (some w.heap.size)) (w.alloc (.map #[] 0)) := fun _ _ => rfl
  have hmf : ∀ (fn : Fn) (first cap : Array Value) (w : World), (Instr.makeFunc fn first cap).run Tryz.prog w = .ok (.func fn first cap) w := fun _ _ _ _ => rfl
  go_enter Tryz.func128, Tryz.ntmps128
  go_wp2
  go_ret
  have h1 : (w.alloc (.map #[] 0)).heap.size = w.heap.size + 1 := by simp
  refine ⟨w.heap.size, w.heap.size + 1, rfl, by omega, by omega, by omega, ?_, ((Below.refl w.heap.size w).alloc (Nat.le_refl _) _).alloc (by omega) _, ?_⟩
  · have hq : ((w.alloc (.map #[] 0)).alloc (.cells #[.map (some w.heap.size)] 64)).heap[w.heap.size]? = some (.map #[] 0) :=
      (((Keeps.refl [] (w.alloc (.map #[] 0))).alloc _).block _ (by omega) (by simp)).trans (heap_alloc_at (w := w) rfl)
    exact ⟨by simp, [], rfl, hq⟩
  · rw [← h1]
    exact heap_alloc_at (w := w.alloc (.map #[] 0)) rfl
end Go.Proofs.YtmbcibgknckenaaGreatDoor
set_option linter.all false
set_option maxRecDepth 100000
set_option maxHeartbeats 4000000
namespace Go.Proofs.YtmbcibgknckenaaGreatDoor
open Go.RowKit
open Go.MapKept
structure StAd where
  D : Nat
  rb : Nat
  db : Nat
  cb : Nat
  q : Nat
  bx : Nat
def StAd.list (a : StAd) : List Nat := [a.D, a.rb, a.db, a.cb, a.q]
structure StMid (A : Ad) (text : ByteArray) (w : World) (a : StAd) (n : List UInt8 × Nat) (ds : List DeclL) (Y : List Nat) (t : List (List UInt8)) (sl : Value) (σ : St) (u : World) : Prop where
  kp : Keeps [A.R, A.S, A.N] w u
  rd : Rd (A.plus Y) text σ u
  mine : ∀ b ∈ a.list, b ∈ Y
  nd : a.list.Nodup
  new : ∀ y ∈ Y, w.heap.size ≤ y
  own : ∀ g, sl.ownBlock = some g → g ∈ Y ∧ g ∉ a.list
  set : SetAt a.q t u
  cl : Held (A.plus Y).X (amongC a.q a.bx).bs u
  box : u.heap[a.D]? = some (.cells #[.string ⟨n.1.toArray⟩, .int .i64 n.2, sl] 282)
  vr : u.heap[a.rb]? = some (.cells #[.pointer (some ⟨A.R, 0, none⟩)] 101)
  vd : u.heap[a.db]? = some (.cells #[.pointer (some ⟨a.D, 0, none⟩)] 182)
  vc : u.heap[a.cb]? = some (.cells #[(amongC a.q a.bx).v] 270)
  row : u.ownsRow w.heap.size 195 3 sl ds.length (ds.flatMap declC)
theorem StMid.scan {A : Ad} {text : ByteArray} {w u u' : World} {a : StAd} {n : List UInt8 × Nat} {ds : List DeclL} {Y : List Nat} {t : List (List UInt8)} {sl : Value} {σ σ' σ0 : St} (h0 : Rd A text σ0 w) (m : StMid A text w a n ds Y t sl σ u) (hk : Keeps [A.S] u u') (hr : Rd (A.plus Y) text σ' u') :
    StMid A text w a n ds Y t sl σ' u' := by
  obtain ⟨l1, l2, l3, l4⟩ := h0.lt
  have far : ∀ b ∈ a.list, b ∉ [A.S] := fun b hb => by have := m.new _ (m.mine b hb); simp; omega
  refine ⟨m.kp.trans (hk.mono (by simp)), hr, m.mine, m.nd, m.new, m.own, m.set.keeps hk (far _ (by simp [StAd.list])), m.cl.keeps hk (by intro x hx; simp only [List.mem_singleton] at hx; subst hx; exact hr.mine.2.1), (hk.block _ (lt_of_heap m.box) (far _ (by simp [StAd.list]))).trans m.box,
    (hk.block _ (lt_of_heap m.vr) (far _ (by simp [StAd.list]))).trans m.vr, (hk.block _ (lt_of_heap m.vd) (far _ (by simp [StAd.list]))).trans m.vd, (hk.block _ (lt_of_heap m.vc) (far _ (by simp [StAd.list]))).trans m.vc, owns_keeps m.row hk ?_⟩
  intro g hg
  have := m.new _ (m.own g hg).1
  simp; omega
theorem StMid.step {A : Ad} {text : ByteArray} {w u u1 u2 u3 : World} {a : StAd} {g cap : Nat} {n : List UInt8 × Nat} {ds : List DeclL} {Y : List Nat} {t t' : List (List UInt8)} {sl : Value} {σ σ' σ0 : St} {d : DeclL} (h0 : Rd A text σ0 w)
    (e : StMid A text w a n ds Y t sl σ u) (hk : Keeps [A.S, a.q] u u1) (hr : Rd (A.plus Y) text σ' u1) (hn : SetAt a.q t' u1) (hb : Below u1.heap.size u1 u2)
    (hown : u3.ownsRow w.heap.size 195 3 (.slice (some ⟨g, 0, none⟩) (ds.length + 1) cap) (ds.length + 1) (ds.flatMap declC ++ declC d))
    (hg : u2.grownBy u3 sl.ownBlock) (hat : sl.ownBlock = some g ∨ g = u2.heap.size) (hlt : g < u3.heap.size) :
    StMid A text w a n (ds ++ [d]) (g :: Y) t' (.slice (some ⟨g, 0, none⟩) (ds.length + 1) cap) σ' (u3.setCell ⟨a.D, 2, none⟩ (.slice (some ⟨g, 0, none⟩) (ds.length + 1) cap)) := by
  obtain ⟨hwg, _⟩ := owns_lt hown (g := g) rfl
  have iD : a.D ∈ a.list := by simp [StAd.list]
  have ir : a.rb ∈ a.list := by simp [StAd.list]
  have id' : a.db ∈ a.list := by simp [StAd.list]
  have ic : a.cb ∈ a.list := by simp [StAd.list]
  have iq : a.q ∈ a.list := by simp [StAd.list]
  have hnd := e.nd
  simp only [StAd.list, List.nodup_cons, List.mem_cons, List.not_mem_nil, or_false, not_or] at hnd
  have wnew : ∀ b ∈ a.list, w.heap.size ≤ b := fun b hb => e.new _ (e.mine b hb)
  have hlen : ∀ b ∈ a.list, b < u.heap.size := fun b hb => by
    have := e.rd.old b (List.mem_append_left _ (e.mine b hb))
    exact this
  have k1 := hk.size
  have k2 := hb.size
  have k3 := hg.size
  have gl : g ∉ a.list := by
    rcases hat with h | h
    · exact (e.own g h).2
    · intro hm
      have := hlen g hm
      omega
  have hrow : ∀ b, sl.ownBlock = some b → w.heap.size ≤ b ∧ b ∈ (A.plus Y).X := fun b hb => ⟨e.new _ (e.own b hb).1, List.mem_append_left _ (e.own b hb).1⟩
  have hkg := keeps_grown hg
  have hks : Keeps [a.D] u3 (u3.setCell ⟨a.D, 2, none⟩ (.slice (some ⟨g, 0, none⟩) (ds.length + 1) cap)) := (Keeps.refl [a.D] u3).setIn (by simp) _
  have hkb : Keeps [] u1 u2 := Keeps.of_below _ hb
  obtain ⟨l1, l2, l3, l4⟩ := h0.lt
  have rl : ∀ b ∈ a.list, b ∉ sl.ownBlock.toList := by
    intro b hb hm
    exact (e.own b (by simpa using hm)).2 hb
  have to3 : ∀ b ∈ a.list, b ≠ a.q → u3.heap[b]? = u.heap[b]? := by
    intro b hb hq
    have h1 := hlen b hb
    have h2 := wnew b hb
    exact (hkg.block _ (by omega) (rl b hb)).trans ((hkb.block _ (by omega) (by simp)).trans (hk.block _ h1 (by simp; omega)))
  have to4 : ∀ b ∈ a.list, b ≠ a.q → b ≠ a.D → (u3.setCell ⟨a.D, 2, none⟩ (.slice (some ⟨g, 0, none⟩) (ds.length + 1) cap)).heap[b]? = u.heap[b]? := by
    intro b hb hq hD
    have h1 := hlen b hb
    exact (hks.block _ (by omega) (by simpa using hD)).trans (to3 b hb hq)
  have hX : ∀ m ∈ [A.S, a.q], m ∈ (A.plus Y).X := by
    intro x hx
    simp at hx
    rcases hx with rfl | rfl
    · exact hr.mine.2.1
    · exact List.mem_append_left _ (e.mine _ iq)
  refine ⟨?_, ?_, fun b hb => List.mem_cons_of_mem _ (e.mine b hb), e.nd, ?_, ?_, ?_, ?_, ?_, ?_, ?_, ?_, ?_⟩
  · refine (((e.kp.young hk ?_).young hkb (by simp)).young hkg ?_).young hks ?_
    · intro m hm
      simp at hm ⊢
      rcases hm with h | h
      · exact Or.inl (Or.inr (Or.inl h))
      · exact Or.inr (by have := wnew _ iq; omega)
    · intro m hm
      exact Or.inr (hrow m (by simpa using hm)).1
    · intro m hm
      simp only [List.mem_singleton] at hm
      subst hm
      exact Or.inr (wnew _ iD)
  · exact h0.young (Same.plus A (g :: Y)) (Rd.grow h0 (Same.plus A Y) (hr.below hb) hg hrow hat hlt) hks (by
      intro x hx
      simp only [List.mem_singleton] at hx
      subst hx
      exact ⟨wnew _ iD, List.mem_append_left _ (List.mem_cons_of_mem _ (e.mine _ iD))⟩)
  · intro y hy
    rcases List.mem_cons.1 hy with rfl | hy
    · exact hwg
    · exact e.new y hy
  · intro g' h'
    simp only [Value.ownBlock, Option.some.injEq] at h'
    subst h'
    exact ⟨List.mem_cons_self, gl⟩
  · exact ((hn.keeps hkb (by simp)).keeps hkg (rl _ iq)).keeps hks (by simp; omega)
  · exact (((e.cl.keeps hk hX).keeps hkb (by simp)).grow hg (fun b hb => (hrow b hb).2) hat).keeps hks (by
      intro x hx
      simp only [List.mem_singleton] at hx
      subst hx
      exact List.mem_cons_of_mem _ (List.mem_append_left _ (e.mine _ iD)))
  · exact setBlock (i := 2) ((to3 _ iD (by omega)).trans e.box) _
  · exact (to4 _ ir (by omega) (by omega)).trans e.vr
  · exact (to4 _ id' (by omega) (by omega)).trans e.vd
  · exact (to4 _ ic (by omega) (by omega)).trans e.vc
  · have := owns_keeps hown hks (by
      intro g' h'
      simp only [Value.ownBlock, Option.some.injEq] at h'
      subst h'
      intro hm
      simp only [List.mem_singleton] at hm
      exact gl (hm ▸ iD))
    simpa using this
end Go.Proofs.YtmbcibgknckenaaGreatDoor
