import Derived.Test.YtmbcibgknckenaaGreatDoorT5
import Derived.ChangeKeysEq
set_option linter.all false
set_option maxRecDepth 100000
set_option maxHeartbeats 4000000
namespace Go.Proofs.YtmbcibgknckenaaGreatDoor
open Go.RowKit
open Go.MapKept
theorem bnd_post {α : Type} {T : TypeId} {m : PM α} {f : α → PM DefL} {σ σ' : St} {b : DefL} (h : bnd m f σ = .ok (b, σ')) (hf : ∀ a σ1, f a σ1 = .ok (b, σ') → defT b = T) : defT b = T := by
  cases hm : m σ with
  | error e => rw [bnd_err hm] at h; cases h
  | ok p =>
    obtain ⟨a, σ1⟩ := p
    rw [bnd_ok hm] at h
    exact hf a σ1 h
theorem ret_post {T : TypeId} {c b : DefL} {σ σ' : St} (h : ret c σ = .ok (b, σ')) (hc : defT c = T) : defT b = T := by
  simp only [ret] at h
  cases h
  exact hc
theorem kind_const {text : ByteArray} {at' : Nat} {σ σ' : St} {d : DefL} (h : constant text at' σ = .ok (d, σ')) : defT d = 176 :=
  bnd_post h fun _ _ h => bnd_post h fun _ _ h => bnd_post h fun _ _ h => bnd_post h fun _ _ h => bnd_post h fun _ _ h => ret_post h rfl
theorem kind_typedef {text : ByteArray} {at' : Nat} {σ σ' : St} {d : DefL} (h : typedef text at' σ = .ok (d, σ')) : defT d = 178 :=
  bnd_post h fun _ _ h => bnd_post h fun _ _ h => bnd_post h fun _ _ h => ret_post h rfl
theorem kind_members {text : ByteArray} {n : List UInt8 × Nat} : ∀ (k : Nat) (ms : List (List UInt8 × Nat × Int)) (l : List (Int × Int)) (σ σ' : St) (d : DefL), members text n k ms l σ = .ok (d, σ') → defT d = 180 := by
  intro k
  induction k with
  | zero => intro ms l σ σ' d h; simp only [members, thr] at h; cases h
  | succ k ih =>
    intro ms l σ σ' d h
    cases hm : member text ms.length l σ with
    | error f => rw [members_err hm] at h; cases h
    | ok p =>
      obtain ⟨m, l', σ1⟩ := p
      rw [members_ok hm] at h
      refine bnd_post h fun y σ2 h => ?_
      cases y with
      | true => exact ih _ _ _ _ _ h
      | false => exact bnd_post h fun _ _ h => bnd_post h fun _ _ h => ret_post h rfl
theorem kind_enum {text : ByteArray} {at' : Nat} {σ σ' : St} {d : DefL} (h : enumeration text at' σ = .ok (d, σ')) : defT d = 180 :=
  bnd_post h fun _ _ h => bnd_post h fun _ _ h => bnd_post h fun _ _ h => kind_members _ _ _ _ _ _ h
theorem kind_struct {text : ByteArray} {at' : Nat} {σ σ' : St} {d : DefL} (h : structureP text at' σ = .ok (d, σ')) : defT d = 182 :=
  bnd_post h fun _ _ h => bnd_post h fun _ _ h => bnd_post h fun _ _ h => bnd_post h fun _ _ h => ret_post h rfl
theorem kind_union {text : ByteArray} {at' : Nat} {σ σ' : St} {d : DefL} (h : unionP text at' σ = .ok (d, σ')) : defT d = 184 :=
  bnd_post h fun _ _ h => bnd_post h fun _ _ h => bnd_post h fun _ _ h => bnd_post h fun _ _ h => bnd_post h fun _ _ h => bnd_post h fun _ _ h => bnd_post h fun _ _ h => bnd_post h fun _ _ h => bnd_post h fun _ _ h => bnd_post h fun _ _ h => bnd_post h fun _ _ h => ret_post h rfl
theorem kind_prog {text : ByteArray} {at' : Nat} {σ σ' : St} {d : DefL} (h : programP text at' σ = .ok (d, σ')) : defT d = 186 :=
  bnd_post h fun _ _ h => bnd_post h fun _ _ h => bnd_post h fun _ _ h => bnd_post h fun _ _ h => ret_post h rfl
def defK (text : ByteArray) (x : Mar.Word) : PM DefL :=
  if x.text == [99, 111, 110, 115, 116] then constant text x.at'
  else if x.text == [116, 121, 112, 101, 100, 101, 102] then typedef text x.at'
  else if x.text == [101, 110, 117, 109] then enumeration text x.at'
  else if x.text == [115, 116, 114, 117, 99, 116] then structureP text x.at'
  else if x.text == [117, 110, 105, 111, 110] then unionP text x.at'
  else if x.text == [112, 114, 111, 103, 114, 97, 109] then programP text x.at'
  else thr 3 x.at'
def definition (text : ByteArray) : PM DefL := bnd (next text) (defK text)
theorem dk0 {text : ByteArray} {x : Mar.Word} (h0 : (x.text == [99, 111, 110, 115, 116]) = true) : defK text x = constant text x.at' := by unfold defK; simp only [h0, if_true]
theorem dk1 {text : ByteArray} {x : Mar.Word} (h0 : (x.text == [99, 111, 110, 115, 116]) = false) (h1 : (x.text == [116, 121, 112, 101, 100, 101, 102]) = true) : defK text x = typedef text x.at' := by unfold defK; simp only [h0, h1, Bool.false_eq_true, if_false, if_true]
theorem dk2 {text : ByteArray} {x : Mar.Word} (h0 : (x.text == [99, 111, 110, 115, 116]) = false) (h1 : (x.text == [116, 121, 112, 101, 100, 101, 102]) = false) (h2 : (x.text == [101, 110, 117, 109]) = true) : defK text x = enumeration text x.at' := by unfold defK; simp only [h0, h1, h2, Bool.false_eq_true, if_false, if_true]
theorem dk3 {text : ByteArray} {x : Mar.Word} (h0 : (x.text == [99, 111, 110, 115, 116]) = false) (h1 : (x.text == [116, 121, 112, 101, 100, 101, 102]) = false) (h2 : (x.text == [101, 110, 117, 109]) = false) (h3 : (x.text == [115, 116, 114, 117, 99, 116]) = true) : defK text x = structureP text x.at' := by unfold defK; simp only [h0, h1, h2, h3, Bool.false_eq_true, if_false, if_true]
theorem dk4 {text : ByteArray} {x : Mar.Word} (h0 : (x.text == [99, 111, 110, 115, 116]) = false) (h1 : (x.text == [116, 121, 112, 101, 100, 101, 102]) = false) (h2 : (x.text == [101, 110, 117, 109]) = false) (h3 : (x.text == [115, 116, 114, 117, 99, 116]) = false) (h4 : (x.text == [117, 110, 105, 111, 110]) = true) : defK text x = unionP text x.at' := by unfold defK; simp only [h0, h1, h2, h3, h4, Bool.false_eq_true, if_false, if_true]
theorem dk5 {text : ByteArray} {x : Mar.Word} (h0 : (x.text == [99, 111, 110, 115, 116]) = false) (h1 : (x.text == [116, 121, 112, 101, 100, 101, 102]) = false) (h2 : (x.text == [101, 110, 117, 109]) = false) (h3 : (x.text == [115, 116, 114, 117, 99, 116]) = false) (h4 : (x.text == [117, 110, 105, 111, 110]) = false) (h5 : (x.text == [112, 114, 111, 103, 114, 97, 109]) = true) : defK text x = programP text x.at' := by unfold defK; simp only [h0, h1, h2, h3, h4, h5, Bool.false_eq_true, if_false, if_true]
theorem dk6 {text : ByteArray} {x : Mar.Word} (h0 : (x.text == [99, 111, 110, 115, 116]) = false) (h1 : (x.text == [116, 121, 112, 101, 100, 101, 102]) = false) (h2 : (x.text == [101, 110, 117, 109]) = false) (h3 : (x.text == [115, 116, 114, 117, 99, 116]) = false) (h4 : (x.text == [117, 110, 105, 111, 110]) = false) (h5 : (x.text == [112, 114, 111, 103, 114, 97, 109]) = false) : defK text x = thr 3 x.at' := by unfold defK; simp only [h0, h1, h2, h3, h4, h5, Bool.false_eq_true, if_false]
def GivesT (M : List Nat) (A : Ad) (text : ByteArray) (w : World) (r : Except Mar.Fault (DefL × St)) (e : Ending) (w' : World) : Prop :=
  Keeps M w w' ∧ ((∃ d σ' b bs, r = .ok (d, σ') ∧ e = .returned (.iface (defT d) (.pointer (some ⟨b, 0, none⟩))) ∧ Rd A text σ' w' ∧ DefIn bs b d ∧ Held A.X bs w') ∨ (∃ f, r = .error f ∧ Thrown w f.no f.at' e w'))
theorem GivesT.throws {M M' : List Nat} {A : Ad} {text : ByteArray} {w w1 w' : World} {r : Except Mar.Fault (DefL × St)} {f : Mar.Fault} {b : Nat}
    (hk : Keeps M w w') (hk1 : Keeps M' w w1) (hr : r = .error f) (hb : w1.heap.size ≤ b) (hc : w'.heap[b]? = some (.cells #[.int .i64 f.no, .int .i64 f.at'] 83)) :
    GivesT M A text w r (.panicked [{ v := .iface 79 (.pointer (some ⟨b, 0, none⟩)), recovered := false }]) w' := ⟨hk, Or.inr ⟨f, hr, b, Nat.le_trans hk1.size hb, rfl, hc⟩⟩
theorem GivesT.ok {M : List Nat} {A : Ad} {text : ByteArray} {w w' : World} {r : Except Mar.Fault (DefL × St)} {d : DefL} {σ' : St} {b : Nat} {bs : List (Nat × Obj)} {T : TypeId}
    (hk : Keeps M w w') (hr : r = .ok (d, σ')) (hT : defT d = T) (h : Rd A text σ' w') (hd : DefIn bs b d) (hh : Held A.X bs w') : GivesT M A text w r (.returned (.iface T (.pointer (some ⟨b, 0, none⟩)))) w' :=
  ⟨hk, Or.inl ⟨d, σ', b, bs, hr, by rw [hT], h, hd, hh⟩⟩
theorem definition_any {A : Ad} {text : ByteArray} {σ : St} {w : World} (h : Rd A text σ w) :
    Calls Tryz.prog 50 #[.pointer (some ⟨A.R, 0, none⟩)] w (GivesT [A.R, A.S, A.N, A.P] A text w (definition text σ)) := by
  obtain ⟨c0, c1, c2, c3, c4, hfr⟩ := h.cells
  have HC := Hid.mk (next_calls h)
  go_enter Tryz.func50, Tryz.ntmps50
  go_wp2_with fail
  refine HC.out.mono ?_
  rintro e w1 ⟨hk, ⟨x, σ', hx, rfl, hr⟩ | ⟨f, hx, b, hbb, rfl, hcell⟩⟩
  rotate_left
  · exact bodyPost_panics (GivesT.throws (hk.mono (by simp)) (Keeps.refl [] _) (bnd_err hx) hbb hcell)
  have HK := Hid.mk ((hk.alloc (.cells #[.int .i64 x.kind, .string ⟨x.text.toArray⟩, .int .i64 x.n, .int .i64 x.at'] 110)).mono (M' := [A.R, A.S, A.N, A.P]) (by simp))
  have Hx := Hid.mk hx
  have HR := Hid.mk (hr.below ((Below.refl _ _).alloc (Nat.le_refl _) (.cells #[.int .i64 x.kind, .string ⟨x.text.toArray⟩, .int .i64 x.n, .int .i64 x.at'] 110)))
  clear hk hx hr HC
  dsimp only [wordV]
  go_wp2_with (first
    | (go_at_call 47; refine (New_any _ _ _).mono ?_; rintro e w' ⟨rfl, rfl⟩)
    | (go_at_call 86; refine (constant_any _ HR.out).mono ?_; rintro e w2 ⟨hk2, ⟨d, σ2, b2, bs, hx2, rfl, hr2, hd2, hh2⟩ | ⟨f, hx2, b, hbb, rfl, hcell⟩⟩)
    | (go_at_call 87; refine (typedef_any _ HR.out).mono ?_; rintro e w2 ⟨hk2, ⟨d, σ2, b2, bs, hx2, rfl, hr2, hd2, hh2⟩ | ⟨f, hx2, b, hbb, rfl, hcell⟩⟩)
    | (go_at_call 88; refine (enumeration_any _ HR.out).mono ?_; rintro e w2 ⟨hk2, ⟨d, σ2, b2, bs, hx2, rfl, hr2, hd2, hh2⟩ | ⟨f, hx2, b, hbb, rfl, hcell⟩⟩)
    | (go_at_call 89; refine (structure_any _ HR.out).mono ?_; rintro e w2 ⟨hk2, ⟨d, σ2, b2, bs, hx2, rfl, hr2, hd2, hh2⟩ | ⟨f, hx2, b, hbb, rfl, hcell⟩⟩)
    | (go_at_call 90; refine (union_any _ HR.out).mono ?_; rintro e w2 ⟨hk2, ⟨d, σ2, b2, bs, hx2, rfl, hr2, hd2, hh2⟩ | ⟨f, hx2, b, hbb, rfl, hcell⟩⟩)
    | (go_at_call 91; refine (program_any _ HR.out).mono ?_; rintro e w2 ⟨hk2, ⟨d, σ2, b2, bs, hx2, rfl, hr2, hd2, hh2⟩ | ⟨f, hx2, b, hbb, rfl, hcell⟩⟩))
  · go_ret
    exact GivesT.ok (HK.out.trans (hk2.mono (by simp))) ((bnd_ok Hx.out).trans (by rw [dk0 ‹_›]; exact hx2)) (kind_const hx2) hr2 hd2 hh2
  · exact bodyPost_panics (GivesT.throws (HK.out.trans (hk2.mono (by simp))) HK.out ((bnd_ok Hx.out).trans (by rw [dk0 ‹_›]; exact hx2)) hbb hcell)
  · go_ret
    exact GivesT.ok (HK.out.trans (hk2.mono (by simp))) ((bnd_ok Hx.out).trans (by rw [dk1 ‹_› ‹_›]; exact hx2)) (kind_typedef hx2) hr2 hd2 hh2
  · exact bodyPost_panics (GivesT.throws (HK.out.trans (hk2.mono (by simp))) HK.out ((bnd_ok Hx.out).trans (by rw [dk1 ‹_› ‹_›]; exact hx2)) hbb hcell)
  · go_ret
    exact GivesT.ok (HK.out.trans (hk2.mono (by simp))) ((bnd_ok Hx.out).trans (by rw [dk2 ‹_› ‹_› ‹_›]; exact hx2)) (kind_enum hx2) hr2 hd2 hh2
  · exact bodyPost_panics (GivesT.throws (HK.out.trans (hk2.mono (by simp))) HK.out ((bnd_ok Hx.out).trans (by rw [dk2 ‹_› ‹_› ‹_›]; exact hx2)) hbb hcell)
  · go_ret
    exact GivesT.ok (HK.out.trans (hk2.mono (by simp))) ((bnd_ok Hx.out).trans (by rw [dk3 ‹_› ‹_› ‹_› ‹_›]; exact hx2)) (kind_struct hx2) hr2 hd2 hh2
  · exact bodyPost_panics (GivesT.throws (HK.out.trans (hk2.mono (by simp))) HK.out ((bnd_ok Hx.out).trans (by rw [dk3 ‹_› ‹_› ‹_› ‹_›]; exact hx2)) hbb hcell)
  · go_ret
    exact GivesT.ok (HK.out.trans (hk2.mono (by simp))) ((bnd_ok Hx.out).trans (by rw [dk4 ‹_› ‹_› ‹_› ‹_› ‹_›]; exact hx2)) (kind_union hx2) hr2 hd2 hh2
  · exact bodyPost_panics (GivesT.throws (HK.out.trans (hk2.mono (by simp))) HK.out ((bnd_ok Hx.out).trans (by rw [dk4 ‹_› ‹_› ‹_› ‹_› ‹_›]; exact hx2)) hbb hcell)
  · go_ret
    exact GivesT.ok (HK.out.trans hk2) ((bnd_ok Hx.out).trans (by rw [dk5 ‹_› ‹_› ‹_› ‹_› ‹_› ‹_›]; exact hx2)) (kind_prog hx2) hr2 hd2 hh2
  · exact bodyPost_panics (GivesT.throws (HK.out.trans hk2) HK.out ((bnd_ok Hx.out).trans (by rw [dk5 ‹_› ‹_› ‹_› ‹_› ‹_› ‹_›]; exact hx2)) hbb hcell)
  · exact bodyPost_panics (GivesT.throws (M' := [A.R, A.S, A.N, A.P]) (w1 := w1.alloc (.cells #[.int .i64 x.kind, .string ⟨x.text.toArray⟩, .int .i64 x.n, .int .i64 x.at'] 110)) (f := ⟨3, x.at'⟩) (HK.out.alloc _) HK.out ((bnd_ok Hx.out).trans (by rw [dk6 ‹_› ‹_› ‹_› ‹_› ‹_› ‹_›]; rfl)) (by simp) (heap_alloc_at (by simp)))
end Go.Proofs.YtmbcibgknckenaaGreatDoor
set_option linter.all false
set_option maxRecDepth 100000
set_option maxHeartbeats 4000000
namespace Go.Proofs.YtmbcibgknckenaaGreatDoor
open Go.RowKit
open Go.MapKept
theorem method_var {P : Program} {fuel : Nat} {t st idx xt f : Nat} {name : String} {b : Nat} {w : World} {i : TypeInfo} (hi : P.info? t = some i) {m : Method} (hm : i.methods.find? (fun m => m.name == name) = some m) (hp : m.path = #[⟨st, idx, true⟩]) (hf : m.func = some (f, false))
    {fields : Array Field} (hu : P.underlying st = some (.struct fields)) {fd : Field} (hfd : fields[idx]? = some fd) (ht : fd.type = xt) (ho : fd.offset = 0) {fs : Array Field} (hx : P.underlying xt = some (.struct fs)) {j : TypeInfo} (hj : P.info? xt = some j) (hs : j.size ≠ 0) :
    (method (fuel + 1) t (.pointer (some ⟨b, 0, none⟩)) name).run P w = ((loadVar xt ⟨b, 0, none⟩).run P w).andThen (fun x w' => .ok (f, x) w') := by
  unfold method
  simp only [Sem.run_bind, run_typeInfo _ hi, Result.andThen_ok, hm, hp, hf, follow, run_underlying hu, hfd, Place.get, asAddr, fieldPlace, sizeOf, ht, run_typeInfo _ hj, Sem.run_pure, if_true, hs, if_false, ho, receiverAt, run_underlying hx, Addr.add]
theorem method_var2 {P : Program} {fuel : Nat} {t st idx st2 idx2 yt xt f : Nat} {name : String} {b : Nat} {w : World} {i : TypeInfo} (hi : P.info? t = some i) {m : Method} (hm : i.methods.find? (fun m => m.name == name) = some m) (hp : m.path = #[⟨st, idx, true⟩, ⟨st2, idx2, false⟩]) (hf : m.func = some (f, false))
    {fields : Array Field} (hu : P.underlying st = some (.struct fields)) {fd : Field} (hfd : fields[idx]? = some fd) (ht : fd.type = yt) (ho : fd.offset = 0) {k : TypeInfo} (hk : P.info? yt = some k) (hks : k.size ≠ 0)
    {fields2 : Array Field} (hu2 : P.underlying st2 = some (.struct fields2)) {fd2 : Field} (hfd2 : fields2[idx2]? = some fd2) (ht2 : fd2.type = xt) (ho2 : fd2.offset = 0) {fs : Array Field} (hx : P.underlying xt = some (.struct fs)) {j : TypeInfo} (hj : P.info? xt = some j) (hs : j.size ≠ 0) :
    (method (fuel + 1) t (.pointer (some ⟨b, 0, none⟩)) name).run P w = ((loadVar xt ⟨b, 0, none⟩).run P w).andThen (fun x w' => .ok (f, x) w') := by
  unfold method
  simp only [Sem.run_bind, run_typeInfo _ hi, Result.andThen_ok, hm, hp, hf, follow, run_underlying hu, hfd, Place.get, asAddr, fieldPlace, sizeOf, ht, run_typeInfo _ hk, hks, Sem.run_pure, if_true, if_false, ho, run_underlying hu2, hfd2, ht2, ho2, run_typeInfo _ hj, hs, receiverAt, run_underlying hx, Addr.add, Bool.false_eq_true]
theorem row_parts {P : Program} {t : TypeId} {name : String} {p : Array FieldStep} {f : Option (FuncId × Bool)} (h : ((P.info? t).bind fun i => i.methods.find? (fun m => m.name == name)).map (fun m => (m.path, m.func)) = some (p, f)) :
    ∃ i m, P.info? t = some i ∧ i.methods.find? (fun m => m.name == name) = some m ∧ m.path = p ∧ m.func = f := by
  cases hi : P.info? t with
  | none => rw [hi] at h; cases h
  | some i =>
    rw [hi] at h
    simp only [Option.bind_some] at h
    cases hm : i.methods.find? (fun m => m.name == name) with
    | none => rw [hm] at h; cases h
    | some m =>
      rw [hm] at h
      simp only [Option.map_some, Option.some.injEq, Prod.mk.injEq] at h
      exact ⟨i, m, rfl, hm, h.1, h.2⟩
theorem field_parts {P : Program} {st idx : Nat} {t o : Nat} (h : ((P.underlying st).bind fun d => match d with | .struct fs => fs[idx]? | _ => none).map (fun f => (f.type, f.offset)) = some (t, o)) :
    ∃ fs fd, P.underlying st = some (.struct fs) ∧ fs[idx]? = some fd ∧ fd.type = t ∧ fd.offset = o := by
  cases hu : P.underlying st with
  | none => rw [hu] at h; cases h
  | some d =>
    rw [hu] at h
    simp only [Option.bind_some] at h
    cases d with
    | struct fs =>
      simp only at h
      cases hf : fs[idx]? with
      | none => rw [hf] at h; cases h
      | some fd =>
        rw [hf] at h
        simp only [Option.map_some, Option.some.injEq, Prod.mk.injEq] at h
        exact ⟨fs, fd, rfl, hf, h.1, h.2⟩
    | _ => cases h
theorem size_parts {P : Program} {t n : Nat} (h : (P.info? t).map (·.size) = some n) : ∃ i, P.info? t = some i ∧ i.size = n := by
  cases hi : P.info? t with
  | none => rw [hi] at h; cases h
  | some i => rw [hi] at h; exact ⟨i, rfl, by simpa using h⟩
def titleL : DefL → List UInt8 × Nat
  | .const t a _ => (t, a)
  | .typedef d => (d.t, d.at')
  | .enum t a _ => (t, a)
  | .struct t a _ => (t, a)
  | .union t a _ _ => (t, a)
  | .prog t a _ _ => (t, a)
theorem Title_enters (args : Array Value) (u : World) : (callFunc 238 args).run Tryz.prog u = .ok (.enter 238 args) u := by kernel_rfl
theorem def_head {X : List Nat} {bs : List (Nat × Obj)} {b : Nat} {d : DefL} {w : World} (hd : DefIn bs b d) (hh : Held X bs w) : w.cell? ⟨b, 0, none⟩ = some (.string ⟨(titleL d).1.toArray⟩) ∧ w.cell? ⟨b, 1, none⟩ = some (.int .i64 (titleL d).2) := by
  cases d with
  | const t a v => have := (hh _ hd).1; exact ⟨by simp [World.cell?, this, titleL], by simp [World.cell?, this, titleL]⟩
  | typedef d => have := (hh _ hd).1; exact ⟨by simp [World.cell?, this, titleL], by simp [World.cell?, this, titleL]⟩
  | enum t a ms => obtain ⟨sl, ps, h1, _⟩ := hd; have := (hh _ h1).1; exact ⟨by simp [World.cell?, this, titleL], by simp [World.cell?, this, titleL]⟩
  | struct t a ms => obtain ⟨sl, h1, _⟩ := hd; have := (hh _ h1).1; exact ⟨by simp [World.cell?, this, titleL], by simp [World.cell?, this, titleL]⟩
  | union t a s ar => obtain ⟨sl, ps, h1, _⟩ := hd; have := (hh _ h1).1; exact ⟨by simp [World.cell?, this, titleL], by simp [World.cell?, this, titleL]⟩
  | prog t a vs n => obtain ⟨sl, ps, h1, _⟩ := hd; have := (hh _ h1).1; exact ⟨by simp [World.cell?, this, titleL], by simp [World.cell?, this, titleL]⟩
theorem Title_any (s : ByteArray) (a : Int) (w : World) :
    Calls Tryz.prog 238 #[.agg #[.string s, .int .i64 a]] w fun e w' => e = .returned (.agg #[.string s, .int .i64 a]) ∧ Below w.heap.size w w' := by
  go_enter Tryz.func238, Tryz.ntmps238
  go_wp2
  exact bodyPost_ret (v := .agg #[.string s, .int .i64 a]) (by simp [results, Tryz.results238, go_sem]) rfl ⟨rfl, ((Below.refl _ _).alloc (Nat.le_refl _) _).alloc (by simp) _⟩
end Go.Proofs.YtmbcibgknckenaaGreatDoor
set_option linter.all false
set_option maxRecDepth 100000
set_option maxHeartbeats 4000000
namespace Go.Proofs.YtmbcibgknckenaaGreatDoor
open Go.RowKit
open Go.MapKept
def Kn (l l' : List (List UInt8 × Option DefL)) : Prop := (∀ k, (look l k).isSome → (look l' k).isSome) ∧ ∀ k d, look l' k = some (some d) → look l k = some (some d) ∨ ∃ t a v, d = .const t a v
theorem Kn.refl (l : List (List UInt8 × Option DefL)) : Kn l l := ⟨fun _ h => h, fun _ _ h => Or.inl h⟩
theorem Kn.trans {a b c : List (List UInt8 × Option DefL)} (h : Kn a b) (k : Kn b c) : Kn a c := ⟨fun x hx => k.1 x (h.1 x hx), fun x d hx => by
  rcases k.2 x d hx with h' | h'
  · exact h.2 x d h'
  · exact Or.inr h'⟩
theorem look_app {l : List (List UInt8 × Option DefL)} {p : List UInt8 × Option DefL} (k : List UInt8) : look (l ++ [p]) k = match look l k with | some o => some o | none => if p.1 == k then some p.2 else none := by
  unfold look
  rw [List.find?_append]
  cases hf : l.find? (fun p => p.1 == k) with
  | some q => rfl
  | none =>
    simp only [Option.none_or, List.find?_cons, List.find?_nil]
    cases p.1 == k <;> rfl
theorem look_set {k : List UInt8} {d : DefL} (j : List UInt8) : ∀ (l : List (List UInt8 × Option DefL)), look (setName l k d) j = (look l j).map (fun o => if j == k then some d else o) := by
  intro l
  unfold look setName
  induction l with
  | nil => rfl
  | cons p l ih =>
    rw [List.map_cons, List.find?_cons, List.find?_cons]
    have e : (if p.1 == k then (p.1, some d) else p).1 = p.1 := by cases p.1 == k <;> rfl
    rw [e]
    by_cases hj : p.1 = j
    · subst hj
      simp
      by_cases hk : p.1 = k <;> simp [hk]
    · have : (p.1 == j) = false := by simpa using hj
      rw [this]
      exact ih
def Le (σ σ' : St) : Prop := σ.types ≤ σ'.types ∧ σ.consts ≤ σ'.consts ∧ σ'.progs = σ.progs ∧ (σ.types ≤ 24 → σ'.types ≤ 24) ∧ (σ.consts ≤ 40 → σ'.consts ≤ 40) ∧ Kn σ.names σ'.names
theorem Le.refl (σ : St) : Le σ σ := ⟨Nat.le_refl _, Nat.le_refl _, rfl, id, id, Kn.refl _⟩
theorem Le.trans {a b c : St} (h : Le a b) (k : Le b c) : Le a c := ⟨Nat.le_trans h.1 k.1, Nat.le_trans h.2.1 k.2.1, k.2.2.1.trans h.2.2.1, fun x => k.2.2.2.1 (h.2.2.2.1 x), fun x => k.2.2.2.2.1 (h.2.2.2.2.1 x), h.2.2.2.2.2.trans k.2.2.2.2.2⟩
def Mono {α : Type} (m : PM α) : Prop := ∀ σ a σ', m σ = .ok (a, σ') → Le σ σ'
def MonoX {τ α : Type} (m : PX τ α) : Prop := ∀ t σ a t' σ', m t σ = .ok (a, t', σ') → Le σ σ'
theorem mono_bnd {α β : Type} {m : PM α} {f : α → PM β} (hm : Mono m) (hf : ∀ a, Mono (f a)) : Mono (bnd m f) := by
  intro σ b σ' h
  cases hx : m σ with
  | error e => rw [bnd_err hx] at h; cases h
  | ok p => obtain ⟨a, σ1⟩ := p; rw [bnd_ok hx] at h; exact (hm _ _ _ hx).trans (hf a _ _ _ h)
theorem mono_ret {α : Type} (a : α) : Mono (ret a) := by intro σ b σ' h; simp only [ret] at h; cases h; exact Le.refl _
theorem mono_thr {α : Type} (n k : Nat) : Mono (thr (α := α) n k) := by intro σ b σ' h; simp only [thr] at h; cases h
theorem mono_ite {α : Type} {c : Bool} {a b : PM α} (ha : Mono a) (hb : Mono b) : Mono (if c then a else b) := by cases c <;> assumption
theorem monox_bndx {τ α β : Type} {m : PX τ α} {f : α → PX τ β} (hm : MonoX m) (hf : ∀ a, MonoX (f a)) : MonoX (bndx m f) := by
  intro t σ b t' σ' h
  cases hx : m t σ with
  | error e => rw [bndx_err hx] at h; cases h
  | ok p => obtain ⟨a, t1, σ1⟩ := p; rw [bndx_ok hx] at h; exact (hm _ _ _ _ _ hx).trans (hf a _ _ _ _ _ h)
theorem monox_lift {τ α : Type} {m : PM α} (hm : Mono m) : MonoX (lift (τ := τ) m) := by
  intro t σ b t' σ' h
  cases hx : m σ with
  | error e => rw [lift_err hx] at h; cases h
  | ok p => obtain ⟨a, σ1⟩ := p; rw [lift_ok hx] at h; cases h; exact hm _ _ _ hx
theorem monox_retx {τ α : Type} (a : α) : MonoX (retx (τ := τ) a) := by intro t σ b t' σ' h; simp only [retx] at h; cases h; exact Le.refl _
theorem monox_thrx {τ α : Type} (n k : Nat) : MonoX (thrx (τ := τ) (α := α) n k) := by intro t σ b t' σ' h; simp only [thrx] at h; cases h
theorem monox_ite {τ α : Type} {c : Bool} {a b : PX τ α} (ha : MonoX a) (hb : MonoX b) : MonoX (if c then a else b) := by cases c <;> assumption
theorem monox_side {τ : Type} (c : τ → Except Mar.Fault τ) : MonoX (side' c) := by
  intro t σ b t' σ' h
  cases hx : c t with
  | error e => rw [side_err hx] at h; cases h
  | ok p => rw [side_ok hx] at h; cases h; exact Le.refl _
theorem monox_onL {τ ρ α : Type} {m : PX τ α} (hm : MonoX m) : MonoX (onL (ρ := ρ) m) := by
  rintro ⟨t, l⟩ σ b t' σ' h
  cases hx : m t σ with
  | error e => rw [onL_err hx] at h; cases h
  | ok p => obtain ⟨a, t1, σ1⟩ := p; rw [onL_ok hx] at h; cases h; exact hm _ _ _ _ _ hx
theorem monox_onR {τ ρ α : Type} {m : PX ρ α} (hm : MonoX m) : MonoX (onR (τ := τ) m) := by
  rintro ⟨t, l⟩ σ b t' σ' h
  cases hx : m l σ with
  | error e => rw [onR_err hx] at h; cases h
  | ok p => obtain ⟨a, t1, σ1⟩ := p; rw [onR_ok hx] at h; cases h; exact hm _ _ _ _ _ hx
theorem mono_runx {τ : Type} {m : PX τ Unit} (hm : MonoX m) (t : τ) : Mono (runx m t) := by
  intro σ b σ' h
  cases hx : m t σ with
  | error e => rw [runx_err hx] at h; cases h
  | ok p => obtain ⟨a, t1, σ1⟩ := p; rw [runx_ok hx] at h; cases h; exact hm _ _ _ _ _ hx
theorem mono_runy {τ α : Type} {m : PX τ α} (hm : MonoX m) (t : τ) : Mono (runy m t) := by
  intro σ b σ' h
  cases hx : m t σ with
  | error e => rw [runy_err hx] at h; cases h
  | ok p => obtain ⟨a, t1, σ1⟩ := p; rw [runy_ok hx] at h; cases h; exact hm _ _ _ _ _ hx
theorem mono_bare {α : Type} {m : PX Unit α} (hm : MonoX m) : Mono (bare m) := by
  intro σ b σ' h
  cases hx : m () σ with
  | error e => simp only [bare, hx] at h; cases h
  | ok p => obtain ⟨a, t1, σ1⟩ := p; simp only [bare, hx] at h; cases h; exact hm _ _ _ _ _ hx
theorem mono_peek (text : ByteArray) : Mono (peek text) := by
  intro σ b σ' h
  unfold peek at h
  split at h <;> cases h
  exact ⟨Nat.le_refl _, Nat.le_refl _, rfl, id, id, Kn.refl _⟩
theorem mono_next (text : ByteArray) : Mono (next text) := by
  intro σ b σ' h
  unfold next at h
  split at h <;> cases h
  exact ⟨Nat.le_refl _, Nat.le_refl _, rfl, id, id, Kn.refl _⟩
theorem mono_sees (text : ByteArray) (t : List UInt8) : Mono (sees text t) := by
  intro σ b σ' h
  unfold sees at h
  cases hx : peek text σ with
  | error e => simp only [hx] at h; cases h
  | ok p => obtain ⟨x, σ1⟩ := p; simp only [hx] at h; cases h; exact mono_peek _ _ _ _ hx
theorem mono_newType (k : Nat) : Mono (newType k) := by
  intro σ b σ' h
  unfold newType at h
  split at h <;> cases h
  exact ⟨Nat.le_succ _, Nat.le_refl _, rfl, fun _ => by dsimp only; omega, id, Kn.refl _⟩
theorem mono_newConst (k : Nat) : Mono (newConst k) := by
  intro σ b σ' h
  unfold newConst at h
  split at h <;> cases h
  exact ⟨Nat.le_refl _, Nat.le_succ _, rfl, id, fun _ => by dsimp only; omega, Kn.refl _⟩
theorem mono_roomP (a b c : Nat) : Mono (roomP a b c) := by
  intro σ x σ' h
  unfold roomP at h
  split at h <;> cases h
  exact Le.refl _
theorem mono_means (k : List UInt8) (t : List UInt8) (a : Nat) (v : Int) : Mono (means k (.const t a v)) := by
  intro σ x σ' h
  simp only [means] at h
  cases h
  refine ⟨Nat.le_refl _, Nat.le_refl _, rfl, id, id, ?_, ?_⟩
  · intro j hj
    dsimp only
    rw [look_set]
    simpa using hj
  · intro j d hd
    dsimp only at hd
    rw [look_set] at hd
    cases hl : look σ.names j with
    | none => rw [hl] at hd; cases hd
    | some o =>
      rw [hl] at hd
      simp only [Option.map_some, Option.some.injEq] at hd
      split at hd
      · cases hd; exact Or.inr ⟨t, a, v, rfl⟩
      · subst hd; exact Or.inl rfl
theorem mono_constNamed (x : Mar.Word) : Mono (constNamed x) := by
  intro σ a σ' h
  unfold constNamed at h
  split at h <;> cases h
  exact Le.refl _
theorem mono_enumNamed (x : Mar.Word) : Mono (enumNamed x) := by
  intro σ a σ' h
  unfold enumNamed at h
  split at h <;> cases h
  exact Le.refl _
theorem mono_define (x : Mar.Word) : Mono (define x) := by
  intro σ a σ' h
  unfold define at h
  split at h <;> cases h
  refine ⟨Nat.le_refl _, Nat.le_refl _, rfl, id, id, ?_, ?_⟩
  · intro j hj
    dsimp only
    rw [look_app]
    cases hl : look σ.names j with
    | none => rw [hl] at hj; cases hj
    | some o => rfl
  · intro j d hd
    dsimp only at hd
    rw [look_app] at hd
    cases hl : look σ.names j with
    | none =>
      rw [hl] at hd
      simp only at hd
      split at hd <;> cases hd
    | some o => rw [hl] at hd; exact Or.inl hd
theorem mono_accept (text : ByteArray) (t : List UInt8) : Mono (accept text t) := by
  unfold accept
  repeat' (first | assumption | exact mono_ret _ | exact mono_next _ | exact mono_sees _ _ | refine mono_bnd ?_ ?_ | refine mono_ite ?_ ?_ | (intro _))
theorem mono_expect (text : ByteArray) (t : List UInt8) : Mono (expect text t) := by
  unfold expect
  repeat' (first | assumption | exact mono_ret _ | exact mono_thr _ _ | exact mono_next _ | refine mono_bnd ?_ ?_ | refine mono_ite ?_ ?_ | (intro _))
theorem mono_typeWordK (text : ByteArray) (x : Mar.Word) : Mono (typeWordK text x) := by
  unfold typeWordK
  repeat' (first | assumption | exact mono_ret _ | exact mono_thr _ _ | exact mono_accept _ _ | refine mono_bnd ?_ ?_ | refine mono_ite ?_ ?_ | (intro _))
theorem mono_typeWord (text : ByteArray) : Mono (typeWord text) := by
  unfold typeWord
  repeat' (first | assumption | exact mono_next _ | exact mono_typeWordK _ _ | refine mono_bnd ?_ ?_ | (intro _))
theorem mono_meaning (x : Mar.Word) : Mono (meaning x) := by
  unfold meaning
  repeat' (first | assumption | exact mono_ret _ | exact mono_thr _ _ | exact mono_constNamed _ | refine mono_ite ?_ ?_ | (intro _))
theorem mono_value (text : ByteArray) (p : Int → Bool) : Mono (value text p) := by
  unfold value
  repeat' (first | assumption | exact mono_ret _ | exact mono_thr _ _ | exact mono_next _ | exact mono_meaning _ | refine mono_bnd ?_ ?_ | refine mono_ite ?_ ?_ | (intro _))
theorem mono_most (text : ByteArray) : Mono (most text) := by
  unfold most
  repeat' (first | assumption | exact mono_ret _ | exact mono_accept _ _ | exact mono_expect _ _ | exact mono_value _ _ | refine mono_bnd ?_ ?_ | refine mono_ite ?_ ?_ | (intro _))
theorem mono_bound (text : ByteArray) : Mono (bound text) := by
  unfold bound
  repeat' (first | assumption | exact mono_ret _ | exact mono_accept _ _ | exact mono_expect _ _ | exact mono_value _ _ | exact mono_most _ | refine mono_bnd ?_ ?_ | refine mono_ite ?_ ?_ | (intro _))
theorem mono_side (text : ByteArray) : Mono (side text) := by
  unfold side
  repeat' (first | assumption | exact mono_ret _ | exact mono_accept _ _ | exact mono_typeWord _ | refine mono_bnd ?_ ?_ | refine mono_ite ?_ ?_ | (intro _))
theorem mono_number (text : ByteArray) (p : Int → Bool) : MonoX (number text p) := by
  unfold number
  repeat' (first | assumption | exact monox_retx _ | exact monox_side _ | exact mono_value _ _ | refine monox_bndx ?_ ?_ | refine monox_lift ?_ | (intro _))
theorem mono_ending (text : ByteArray) : MonoX (ending text) := by
  unfold ending
  repeat' (first | assumption | exact monox_retx _ | exact mono_expect _ _ | exact mono_number _ _ | refine monox_bndx ?_ ?_ | refine monox_lift ?_ | (intro _))
theorem mono_name {τ : Type} (text : ByteArray) (C : Claim τ) (hC : ∀ x, MonoX (C.run x)) : MonoX (name text C) := by
  unfold name
  repeat' (first | exact hC _ | assumption | exact monox_retx _ | exact monox_thrx _ _ | exact mono_next _ | refine monox_bndx ?_ ?_ | refine monox_lift ?_ | refine monox_ite ?_ ?_ | (intro _))
theorem mono_amongR (x : Mar.Word) (a b : Nat) : MonoX ((amongC a b).run x) := monox_side _
theorem mono_defineR (A : Ad) (x : Mar.Word) : MonoX ((defineC A).run x) := monox_lift (mono_define x)
theorem mono_declD {τ : Type} (text : ByteArray) (n : List UInt8 × Nat) (ty : Ty) : MonoX (declD (τ := τ) text n ty) := by
  unfold declD
  repeat' (first | assumption | exact monox_retx _ | exact mono_bound _ | refine monox_bndx ?_ ?_ | refine monox_lift ?_ | (intro _))
theorem mono_declC2 {τ : Type} (text : ByteArray) (n : List UInt8 × Nat) (ty : Ty) (y : Bool) : MonoX (declC2 (τ := τ) text n ty y) := by
  unfold declC2
  repeat' (first | assumption | exact monox_retx _ | exact mono_declD _ _ _ | refine monox_ite ?_ ?_ | (intro _))
theorem mono_declC1 {τ : Type} (text : ByteArray) (n : List UInt8 × Nat) (ty : Ty) (y : Bool) : MonoX (declC1 (τ := τ) text n ty y) := by
  unfold declC1
  repeat' (first | assumption | exact mono_sees _ _ | exact mono_declD _ _ _ | exact mono_declC2 _ _ _ _ | refine monox_bndx ?_ ?_ | refine monox_lift ?_ | refine monox_ite ?_ ?_ | (intro _))
theorem mono_declC0 {τ : Type} (text : ByteArray) (ty : Ty) (n : List UInt8 × Nat) : MonoX (declC0 (τ := τ) text ty n) := by
  unfold declC0
  repeat' (first | assumption | exact mono_sees _ _ | exact mono_declC1 _ _ _ _ | refine monox_bndx ?_ ?_ | refine monox_lift ?_ | (intro _))
theorem mono_declB {τ : Type} (text : ByteArray) (C : Claim τ) (hC : ∀ x, MonoX (C.run x)) (ty : Ty) (y : Bool) : MonoX (declB text C ty y) := by
  unfold declB
  repeat' (first | exact mono_name _ _ hC | exact hC _ | assumption | exact monox_retx _ | exact mono_declC0 _ _ _ | refine monox_bndx ?_ ?_ | refine monox_ite ?_ ?_ | (intro _))
theorem mono_declA3 {τ : Type} (text : ByteArray) (C : Claim τ) (hC : ∀ x, MonoX (C.run x)) (ty : Ty) : MonoX (declA3 text C ty) := by
  unfold declA3
  repeat' (first | exact hC _ | assumption | exact mono_accept _ _ | exact mono_declB _ _ hC _ _ | refine monox_bndx ?_ ?_ | refine monox_lift ?_ | (intro _))
theorem mono_declA2 {τ : Type} (text : ByteArray) (C : Claim τ) (hC : ∀ x, MonoX (C.run x)) (y : Bool) : MonoX (declA2 text C y) := by
  unfold declA2
  repeat' (first | exact mono_name _ _ hC | exact hC _ | assumption | exact monox_retx _ | exact mono_typeWord _ | exact mono_most _ | exact mono_declA3 _ _ hC _ | refine monox_bndx ?_ ?_ | refine monox_lift ?_ | refine monox_ite ?_ ?_ | (intro _))
theorem mono_declA1 {τ : Type} (text : ByteArray) (C : Claim τ) (hC : ∀ x, MonoX (C.run x)) (y : Bool) : MonoX (declA1 text C y) := by
  unfold declA1
  repeat' (first | exact mono_name _ _ hC | exact hC _ | assumption | exact monox_retx _ | exact mono_accept _ _ | exact mono_bound _ | exact mono_declA2 _ _ hC _ | refine monox_bndx ?_ ?_ | refine monox_lift ?_ | refine monox_ite ?_ ?_ | (intro _))
theorem mono_decl {τ : Type} (text : ByteArray) (C : Claim τ) (hC : ∀ x, MonoX (C.run x))  : MonoX (decl text C ) := by
  unfold decl
  repeat' (first | exact hC _ | assumption | exact mono_accept _ _ | exact mono_declA1 _ _ hC _ | refine monox_bndx ?_ ?_ | refine monox_lift ?_ | (intro _))
theorem mono_armK {τ : Type} (text : ByteArray) (C : Claim τ) (hC : ∀ x, MonoX (C.run x)) (y : Bool) : MonoX (armK text C y) := by
  unfold armK
  repeat' (first | assumption | exact monox_retx _ | exact mono_decl _ _ hC | refine monox_ite ?_ ?_ | (intro _))
theorem mono_arm {τ : Type} (text : ByteArray) (C : Claim τ) (hC : ∀ x, MonoX (C.run x)) : MonoX (arm text C) := by
  unfold arm
  repeat' (first | assumption | exact monox_retx _ | exact mono_accept _ _ | exact mono_expect _ _ | exact mono_armK _ _ hC _ | refine monox_bndx ?_ ?_ | refine monox_lift ?_ | (intro _))
theorem mono_nameDef (text : ByteArray) : Mono (nameDef text) := mono_bare (mono_name _ _ (mono_defineR _))
theorem mono_declDef (text : ByteArray) : Mono (declDef text) := mono_bare (mono_decl _ _ (mono_defineR _))
theorem mono_nameA (text : ByteArray) (a b : Nat) : MonoX (name text (amongC a b)) := mono_name _ _ (fun x => mono_amongR x a b)
theorem mono_declA (text : ByteArray) (a b : Nat) : MonoX (decl text (amongC a b)) := mono_decl _ _ (fun x => mono_amongR x a b)
theorem mono_armA (text : ByteArray) (a b : Nat) : MonoX (arm text (amongC a b)) := mono_arm _ _ (fun x => mono_amongR x a b)
theorem mono_member (text : ByteArray) (n : Nat) : MonoX (member text n) := by
  unfold member
  repeat' (first | assumption | exact monox_retx _ | exact mono_peek _ | exact mono_newConst _ | exact mono_roomP _ _ _ | exact mono_means _ _ _ _ | exact mono_expect _ _ | exact mono_number _ _ | exact mono_nameDef _ | refine monox_bndx ?_ ?_ | refine monox_lift ?_ | (intro _))
theorem mono_enumEnd (text : ByteArray) (n : List UInt8 × Nat) (ms : List (List UInt8 × Nat × Int)) : Mono (enumEnd text n ms) := by
  unfold enumEnd
  repeat' (first | assumption | exact mono_ret _ | exact mono_expect _ _ | refine mono_bnd ?_ ?_ | (intro _))
theorem mono_members (text : ByteArray) (n : List UInt8 × Nat) : ∀ (k : Nat) (ms : List (List UInt8 × Nat × Int)) (l : List (Int × Int)), Mono (members text n k ms l) := by
  intro k
  induction k with
  | zero => intro ms l; exact mono_thr _ _
  | succ k ih =>
    intro ms l σ d σ' h
    cases hm : member text ms.length l σ with
    | error f => rw [members_err hm] at h; cases h
    | ok p =>
      obtain ⟨m, l', σ1⟩ := p
      rw [members_ok hm] at h
      refine (mono_member _ _ _ _ _ _ _ hm).trans (mono_bnd (mono_accept _ _) (fun y => ?_) _ _ _ h)
      exact mono_ite (ih _ _) (mono_enumEnd _ _ _)
theorem mono_stPiece (text : ByteArray) (a : StAd) : MonoX (stPiece text a) := by
  rintro ⟨ds, t⟩ σ b t' σ' h
  cases hm : decl text (amongC a.q a.bx) t σ with
  | error f => rw [stPiece_err hm] at h; cases h
  | ok p =>
    obtain ⟨d, t1, σ1⟩ := p
    rw [stPiece_ok hm] at h
    exact (mono_declA _ _ _ _ _ _ _ _ hm).trans (monox_bndx (monox_lift (mono_expect _ _)) (fun _ => monox_retx _) _ _ _ _ _ h)
theorem mono_vsPieceOf {τ α : Type} {run : PX τ α} {piece : PX (List α × τ) Unit} (hr : MonoX run) (hok : ∀ {ps s s' σ σ' d}, run s σ = .ok (d, s', σ') → piece (ps, s) σ = .ok ((), (ps ++ [d], s'), σ')) (herr : ∀ {ps s σ f}, run s σ = .error f → piece (ps, s) σ = .error f) : MonoX piece := by
  rintro ⟨ds, t⟩ σ b t' σ' h
  cases hm : run t σ with
  | error f => rw [herr hm] at h; cases h
  | ok p =>
    obtain ⟨d, t1, σ1⟩ := p
    rw [hok hm] at h
    cases h
    exact hr _ _ _ _ _ hm
theorem mono_blockF {τ : Type} (text : ByteArray) (most : Nat) (run : PX τ Unit) (hr : MonoX run) : ∀ k n, MonoX (blockF text most run k n) := by
  intro k
  induction k with
  | zero => intro n; exact monox_lift (mono_thr _ _)
  | succ k ih =>
    intro n
    unfold blockF
    refine monox_bndx ?_ fun y => ?_
    · by_cases h : n = 0
      · rw [if_pos h]; exact monox_retx _
      · rw [if_neg h]; exact monox_lift (mono_accept _ _)
    · exact monox_ite (monox_retx _) (monox_bndx (monox_lift (mono_peek _)) fun _ => monox_bndx (monox_lift (mono_roomP _ _ _)) fun _ => monox_bndx hr fun _ => ih _)
theorem mono_block {τ : Type} (text : ByteArray) (most : Nat) (run : PX τ Unit) (hr : MonoX run) : MonoX (block text most run) := monox_bndx (monox_lift (mono_expect _ _)) fun _ => mono_blockF _ _ _ hr _ _
theorem mono_casesF (text : ByteArray) (p : Int → Bool) : ∀ (k : Nat) (cs : List Int), MonoX (casesF text p k cs) := by
  intro k
  induction k with
  | zero => intro cs; exact monox_lift (mono_thr _ _)
  | succ k ih =>
    intro cs l σ b l' σ' h
    cases h1 : expect text [99, 97, 115, 101] σ with
    | error f => rw [casesF_err h1] at h; cases h
    | ok x =>
      obtain ⟨x, σ1⟩ := x
      by_cases hl : 12 ≤ l.length
      · rw [casesF_full h1 hl] at h; cases h
      · rw [casesF_ok h1 hl] at h
        refine (mono_expect _ _ _ _ _ h1).trans (?_ : Le σ1 σ')
        exact monox_bndx (mono_number _ _) (fun _ => monox_bndx (monox_lift (mono_expect _ _)) fun _ => monox_bndx (monox_lift (mono_sees _ _)) fun _ => monox_ite (ih _) (monox_retx _)) _ _ _ _ _ h
theorem mono_cases (text : ByteArray) (p : Int → Bool) : MonoX (cases text p) := mono_casesF _ _ _ _
theorem mono_armsEnd (text : ByteArray) (rs : Arms) : MonoX (armsEnd text rs) := by
  unfold armsEnd
  repeat' (first | assumption | exact monox_retx _ | exact mono_accept _ _ | exact mono_expect _ _ | exact mono_armA _ _ _ | refine monox_bndx ?_ ?_ | refine monox_lift ?_ | refine monox_ite ?_ ?_ | refine monox_onL ?_ | (intro _))
theorem mono_armsF (text : ByteArray) (p : Int → Bool) : ∀ (k : Nat) (rs : Arms), MonoX (armsF text p k rs) := by
  intro k
  induction k with
  | zero => intro rs; exact monox_lift (mono_thr _ _)
  | succ k ih =>
    intro rs
    unfold armsF
    exact monox_bndx (monox_onR (mono_cases _ _)) fun _ => monox_bndx (monox_onL (mono_armA _ _ _)) fun _ => monox_bndx (monox_lift (mono_sees _ _)) fun _ => monox_ite (ih _) (mono_armsEnd _ _)
theorem mono_selK (text : ByteArray) (x : Mar.Word) : Mono (selK text x) := by
  unfold selK
  repeat' (first | assumption | exact mono_ret _ | exact mono_thr _ _ | exact mono_enumNamed _ | exact mono_accept _ _ | refine mono_bnd ?_ ?_ | refine mono_ite ?_ ?_ | (intro _))
theorem mono_selector (text : ByteArray) : Mono (selector text) := by
  unfold selector
  repeat' (first | assumption | exact mono_next _ | exact mono_selK _ _ | refine mono_bnd ?_ ?_ | (intro _))
theorem mono_unionEnd (text : ByteArray) (n : List UInt8 × Nat) (sel : DeclL) (rs : Arms) : Mono (unionEnd text n sel rs) := by
  unfold unionEnd
  repeat' (first | assumption | exact mono_ret _ | exact mono_expect _ _ | refine mono_bnd ?_ ?_ | (intro _))
theorem mono_unionK4 (text : ByteArray) (n : List UInt8 × Nat) (q : Ty × (Int → Bool)) (m : (List UInt8 × Nat) × List (List UInt8)) : Mono (unionK4 text n q m) := by
  unfold unionK4
  repeat' (first | assumption | exact mono_expect _ _ | exact mono_armsF _ _ _ _ | exact mono_unionEnd _ _ _ _ | refine mono_bnd ?_ ?_ | refine mono_runy ?_ _ | (intro _))
theorem mono_unionK3 (text : ByteArray) (n : List UInt8 × Nat) (q : Ty × (Int → Bool)) : Mono (unionK3 text n q) := by
  unfold unionK3
  repeat' (first | assumption | exact mono_nameA _ _ _ | exact mono_unionK4 _ _ _ _ | refine mono_bnd ?_ ?_ | refine mono_runy ?_ _ | (intro _))
theorem mono_unionK2 (text : ByteArray) (n : List UInt8 × Nat) : Mono (unionK2 text n) := by
  unfold unionK2
  repeat' (first | assumption | exact mono_expect _ _ | exact mono_selector _ | exact mono_unionK3 _ _ _ | refine mono_bnd ?_ ?_ | (intro _))
theorem mono_procP (text : ByteArray) : MonoX (procP text) := by
  unfold procP
  repeat' (first | assumption | exact monox_retx _ | exact mono_expect _ _ | exact mono_side _ | exact mono_ending _ | exact mono_nameA _ _ _ | refine monox_bndx ?_ ?_ | refine monox_lift ?_ | refine monox_onL ?_ | refine monox_onR ?_ | (intro _))
theorem mono_vsPiece (text : ByteArray) : MonoX (vsPiece text) := mono_vsPieceOf (mono_procP text) vsPiece_ok vsPiece_err
theorem mono_vsBlock (text : ByteArray) : MonoX (block text 8 (vsPiece text)) := mono_block _ _ _ (mono_vsPiece _)
theorem mono_versionK (text : ByteArray) (n : List UInt8 × Nat) : MonoX (versionK text n) := by
  unfold versionK
  repeat' (first | assumption | exact monox_retx _ | exact mono_ending _ | exact mono_vsBlock _ | refine monox_bndx ?_ ?_ | refine monox_lift ?_ | refine monox_onR ?_ | refine mono_runx ?_ _ | (intro _))
theorem mono_versionP (text : ByteArray) : MonoX (versionP text) := by
  unfold versionP
  repeat' (first | assumption | exact mono_expect _ _ | exact mono_nameA _ _ _ | exact mono_versionK _ _ | refine monox_bndx ?_ ?_ | refine monox_lift ?_ | refine monox_onL ?_ | (intro _))
theorem mono_pgPiece (text : ByteArray) : MonoX (pgPiece text) := mono_vsPieceOf (mono_versionP text) pgPiece_ok pgPiece_err
theorem mono_pgBlock (text : ByteArray) : MonoX (block text 4 (pgPiece text)) := mono_block _ _ _ (mono_pgPiece _)
structure Step (σ σ' : St) : Prop where
  up : σ.types + σ.consts + σ.progs.length < σ'.types + σ'.consts + σ'.progs.length
  ty : σ.types ≤ 24 → σ'.types ≤ 24
  co : σ.consts ≤ 40 → σ'.consts ≤ 40
  pr : σ.progs.length ≤ 4 → σ'.progs.length ≤ 4
theorem Step.then {a b c : St} (h : Step a b) (k : Le b c) : Step a c := by
  obtain ⟨k1, k2, k3, k4, k5, _⟩ := k
  exact ⟨by rw [k3]; have := h.up; omega, fun x => k4 (h.ty x), fun x => k5 (h.co x), fun x => by rw [k3]; exact h.pr x⟩
theorem step_newType {k : Nat} {σ σ' : St} {u : Unit} (h : newType k σ = .ok (u, σ')) : Step σ σ' := by
  unfold newType at h
  split at h <;> cases h
  exact ⟨by dsimp only; omega, fun _ => by dsimp only; omega, id, id⟩
theorem step_newConst {k : Nat} {σ σ' : St} {u : Unit} (h : newConst k σ = .ok (u, σ')) : Step σ σ' := by
  unfold newConst at h
  split at h <;> cases h
  exact ⟨by dsimp only; omega, id, fun _ => by dsimp only; omega, id⟩
theorem step_bnd {α β : Type} {m : PM α} {f : α → PM β} {σ σ' : St} {b : β} (hm : ∀ {a σ1}, m σ = .ok (a, σ1) → Step σ σ1) (hf : ∀ a, Mono (f a)) (h : bnd m f σ = .ok (b, σ')) : Step σ σ' := by
  cases hx : m σ with
  | error e => rw [bnd_err hx] at h; cases h
  | ok p => obtain ⟨a, σ1⟩ := p; rw [bnd_ok hx] at h; exact (hm hx).then (hf a _ _ _ h)
theorem step_constant {text : ByteArray} {k : Nat} {σ σ' : St} {d : DefL} (h : constant text k σ = .ok (d, σ')) : Step σ σ' := by
  refine step_bnd step_newConst (fun _ => ?_) h
  repeat' (first | assumption | exact mono_ret _ | exact mono_expect _ _ | exact mono_value _ _ | exact mono_nameDef _ | refine mono_bnd ?_ ?_ | (intro _))
theorem step_typedef {text : ByteArray} {k : Nat} {σ σ' : St} {d : DefL} (h : typedef text k σ = .ok (d, σ')) : Step σ σ' := by
  refine step_bnd step_newType (fun _ => ?_) h
  repeat' (first | assumption | exact mono_ret _ | exact mono_expect _ _ | exact mono_declDef _ | refine mono_bnd ?_ ?_ | (intro _))
theorem step_enumeration {text : ByteArray} {k : Nat} {σ σ' : St} {d : DefL} (h : enumeration text k σ = .ok (d, σ')) : Step σ σ' := by
  refine step_bnd step_newType (fun _ => ?_) h
  repeat' (first | assumption | exact mono_expect _ _ | exact mono_nameDef _ | exact mono_members _ _ _ _ _ | refine mono_bnd ?_ ?_ | (intro _))
theorem step_structureP {text : ByteArray} {k : Nat} {σ σ' : St} {d : DefL} (h : structureP text k σ = .ok (d, σ')) : Step σ σ' := by
  refine step_bnd step_newType (fun _ => ?_) h
  repeat' (first | assumption | exact mono_ret _ | exact mono_expect _ _ | exact mono_nameDef _ | exact mono_stPiece _ _ | exact mono_block _ _ _ (mono_stPiece _ _) | refine mono_bnd ?_ ?_ | refine mono_runx ?_ _ | (intro _))
theorem step_unionP {text : ByteArray} {k : Nat} {σ σ' : St} {d : DefL} (h : unionP text k σ = .ok (d, σ')) : Step σ σ' := by
  refine step_bnd step_newType (fun _ => ?_) h
  repeat' (first | assumption | exact mono_nameDef _ | exact mono_unionK2 _ _ | refine mono_bnd ?_ ?_ | (intro _))
theorem step_numberP {text : ByteArray} {p : Int → Bool} {σ σ' : St} {n : Int} (h : numberP text p σ = .ok (n, σ')) : σ.types ≤ σ'.types ∧ σ.consts ≤ σ'.consts ∧ σ'.progs.length = σ.progs.length + 1 ∧ (σ.types ≤ 24 → σ'.types ≤ 24) ∧ (σ.consts ≤ 40 → σ'.consts ≤ 40) := by
  cases hx : number text p σ.progs σ with
  | error e => rw [numberP_err hx] at h; cases h
  | ok q =>
    obtain ⟨m, l', σ1⟩ := q
    rw [numberP_ok hx] at h
    cases h
    obtain ⟨k1, k2, k3, k4, k5, _⟩ := mono_number _ _ _ _ _ _ _ hx
    exact ⟨k1, k2, number_len hx, k4, k5⟩
theorem step_endingP {text : ByteArray} {σ σ' : St} {n : Int} (h : endingP text σ = .ok (n, σ')) : σ.types ≤ σ'.types ∧ σ.consts ≤ σ'.consts ∧ σ'.progs.length = σ.progs.length + 1 ∧ (σ.types ≤ 24 → σ'.types ≤ 24) ∧ (σ.consts ≤ 40 → σ'.consts ≤ 40) := by
  unfold endingP at h
  cases h1 : expect text [61] σ with
  | error e => rw [bnd_err h1] at h; cases h
  | ok q =>
    obtain ⟨x, σ1⟩ := q
    rw [bnd_ok h1] at h
    obtain ⟨a1, a2, a3, a4, a5, _⟩ := mono_expect _ _ _ _ _ h1
    cases h2 : numberP text (inside 0 4294967295) σ1 with
    | error e => rw [bnd_err h2] at h; cases h
    | ok q =>
      obtain ⟨m, σ2⟩ := q
      rw [bnd_ok h2] at h
      obtain ⟨b1, b2, b3, b4, b5⟩ := step_numberP h2
      cases h3 : expect text [59] σ2 with
      | error e => rw [bnd_err h3] at h; cases h
      | ok q =>
        obtain ⟨y, σ3⟩ := q
        rw [bnd_ok h3] at h
        simp only [ret] at h
        cases h
        obtain ⟨c1, c2, c3, c4, c5, _⟩ := mono_expect _ _ _ _ _ h3
        exact ⟨by omega, by omega, by rw [c3, b3, a3], fun x => c4 (b4 (a4 x)), fun x => c5 (b5 (a5 x))⟩
theorem step_programP {text : ByteArray} {k : Nat} {σ σ' : St} {d : DefL} (h : programP text k σ = .ok (d, σ')) : Step σ σ' := by
  unfold programP at h
  by_cases hr : 4 ≤ σ.progs.length
  · rw [bnd_err (m := fun σ : St => roomP σ.progs.length 4 k σ) (show roomP σ.progs.length 4 k σ = .error ⟨5, k⟩ from if_pos hr)] at h; cases h
  rw [bnd_ok (m := fun σ : St => roomP σ.progs.length 4 k σ) (show roomP σ.progs.length 4 k σ = .ok ((), σ) from if_neg hr)] at h
  cases h1 : nameDef text σ with
  | error e => rw [bnd_err h1] at h; cases h
  | ok q =>
    obtain ⟨n, σ1⟩ := q
    rw [bnd_ok h1] at h
    unfold programK at h
    obtain ⟨a1, a2, a3, a4, a5, _⟩ := mono_nameDef _ _ _ _ h1
    cases h2 : runx (block text 4 (pgPiece text)) ([], ([], [])) σ1 with
    | error e => rw [bnd_err h2] at h; cases h
    | ok q =>
      obtain ⟨m, σ2⟩ := q
      rw [bnd_ok h2] at h
      obtain ⟨b1, b2, b3, b4, b5, _⟩ := mono_runx (mono_pgBlock text) _ _ _ _ h2
      cases h3 : endingP text σ2 with
      | error e => rw [bnd_err h3] at h; cases h
      | ok q =>
        obtain ⟨y, σ3⟩ := q
        rw [bnd_ok h3] at h
        simp only [ret] at h
        cases h
        obtain ⟨c1, c2, c3, c4, c5⟩ := step_endingP h3
        have hp : σ'.progs.length = σ.progs.length + 1 := by rw [c3, b3, a3]
        exact ⟨by omega, fun x => c4 (b4 (a4 x)), fun x => c5 (b5 (a5 x)), fun _ => by omega⟩
theorem step_definition {text : ByteArray} {σ σ' : St} {d : DefL} (h : definition text σ = .ok (d, σ')) : Step σ σ' := by
  unfold definition at h
  cases hx : next text σ with
  | error e => rw [bnd_err hx] at h; cases h
  | ok q =>
    obtain ⟨x, σ1⟩ := q
    rw [bnd_ok hx] at h
    obtain ⟨a1, a2, a3, a4, a5, _⟩ := mono_next _ _ _ _ hx
    have hs : Step σ1 σ' := by
      unfold defK at h
      split at h
      · exact step_constant h
      split at h
      · exact step_typedef h
      split at h
      · exact step_enumeration h
      split at h
      · exact step_structureP h
      split at h
      · exact step_unionP h
      split at h
      · exact step_programP h
      · simp only [thr] at h; cases h
    have := hs.up
    exact ⟨by rw [a3] at this; omega, fun x => hs.ty (a4 x), fun x => hs.co (a5 x), fun x => hs.pr (by rw [a3]; exact x)⟩
end Go.Proofs.YtmbcibgknckenaaGreatDoor
set_option linter.all false
set_option maxRecDepth 100000
set_option maxHeartbeats 4000000
namespace Go.Proofs.YtmbcibgknckenaaGreatDoor
open Go.RowKit
open Go.MapKept
structure Tell (τ : Type) where
  f : Nat
  pre : Array Value
  post : Array Value
  run : List UInt8 × Nat → τ → Except Mar.Fault τ
  J : τ → World → Prop
  M : List Nat
  ok : List UInt8 × Nat → Prop
def Tell.v {τ : Type} (T : Tell τ) : Value := .func (.func T.f) T.pre T.post
def GivesN {τ : Type} (T : Tell τ) (w : World) (r : Except Mar.Fault τ) (e : Ending) (w' : World) : Prop :=
  (∃ t', r = .ok t' ∧ e = .returned (.tuple #[]) ∧ T.J t' w' ∧ Keeps T.M w w') ∨ (∃ f, r = .error f ∧ Thrown w f.no f.at' e w')
structure Tells {τ : Type} (T : Tell τ) : Prop where
  enters : ∀ args W, (callFunc T.f args).run Tryz.prog W = .ok (.enter T.f args) W
  old : ∀ {t w}, T.J t w → ∀ m ∈ T.M, m < w.heap.size
  stable : ∀ {t w w'}, T.J t w → Below w.heap.size w w' → T.J t w'
  call : ∀ {t W} (n : List UInt8 × Nat), T.ok n → T.J t W → Calls Tryz.prog T.f (T.pre.push (nameV n) ++ T.post) W (GivesN T W (T.run n t))
def tellAll {τ : Type} (T : Tell τ) : List (List UInt8 × Nat) → τ → Except Mar.Fault τ
  | [], t => .ok t
  | n :: ns, t => match T.run n t with
    | .ok t' => tellAll T ns t'
    | .error f => .error f
def tyNames : Ty → List (List UInt8 × Nat)
  | .named t a => [(t, a)]
  | .arr o _ _ => tyNames o
  | .opt o => tyNames o
  | _ => []
def tyLeads : Ty → List (List UInt8 × Nat)
  | .named t a => [(t, a)]
  | .arr o _ f => if f then tyLeads o else []
  | _ => []
def namesF : Ty → Nat
  | .named .. => 273
  | .arr .. => 291
  | .opt .. => 293
  | _ => 245
def leadsF : Ty → Nat
  | .named .. => 272
  | .arr .. => 290
  | .opt .. => 292
  | _ => 244
def namesR : Ty → Value
  | .named t a => .agg #[.string ⟨t.toArray⟩, .int .i64 a]
  | .arr o n f => .agg #[tyV o, .int .i64 n, .bool f]
  | .opt o => .agg #[tyV o]
  | _ => .agg #[]
theorem names_method (ty : Ty) {T1 : TypeId} {v1 : Value} (h : tyV ty = .iface T1 v1) (k : Nat) (w : World) : (method (k + 1) T1 v1 "Names").run Tryz.prog w = .ok (namesF ty, namesR ty) w := by
  cases ty <;> cases h <;> kernel_rfl
theorem leads_method (ty : Ty) {T1 : TypeId} {v1 : Value} (h : tyV ty = .iface T1 v1) (k : Nat) (w : World) : (method (k + 1) T1 v1 "Leads").run Tryz.prog w = .ok (leadsF ty, namesR ty) w := by
  cases ty <;> cases h <;> kernel_rfl
theorem namesF_enters (ty : Ty) (args : Array Value) (w : World) : (callFunc (namesF ty) args).run Tryz.prog w = .ok (.enter (namesF ty) args) w := by cases ty <;> kernel_rfl
theorem leadsF_enters (ty : Ty) (args : Array Value) (w : World) : (callFunc (leadsF ty) args).run Tryz.prog w = .ok (.enter (leadsF ty) args) w := by cases ty <;> kernel_rfl
theorem aloneNames_any {τ : Type} {T : Tell τ} (hT : Tells T) {t : τ} {w : World} (h : T.J t w) : Calls Tryz.prog 245 #[.agg #[], T.v] w (GivesN T w (.ok t)) := by
  have hs := hT.stable h ((Below.refl w.heap.size w).alloc (Nat.le_refl _) (.cells #[] 203))
  go_enter Tryz.func245, Tryz.ntmps245
  go_wp2
  go_end0
  exact Or.inl ⟨t, rfl, rfl, hs, (Keeps.refl _ w).alloc _⟩
theorem aloneLeads_any {τ : Type} {T : Tell τ} (hT : Tells T) {t : τ} {w : World} (h : T.J t w) : Calls Tryz.prog 244 #[.agg #[], T.v] w (GivesN T w (.ok t)) := by
  have hs := hT.stable h ((Below.refl w.heap.size w).alloc (Nat.le_refl _) (.cells #[] 203))
  go_enter Tryz.func244, Tryz.ntmps244
  go_wp2
  go_end0
  exact Or.inl ⟨t, rfl, rfl, hs, (Keeps.refl _ w).alloc _⟩
theorem optLeads_any {τ : Type} {T : Tell τ} (hT : Tells T) {t : τ} {w : World} (o : Ty) (h : T.J t w) : Calls Tryz.prog 292 #[.agg #[tyV o], T.v] w (GivesN T w (.ok t)) := by
  obtain ⟨T1, v1, h1⟩ := tyV_iface o
  rw [h1]
  have hs := hT.stable h ((Below.refl w.heap.size w).alloc (Nat.le_refl _) (.cells #[.iface T1 v1] 314))
  go_enter Tryz.func292, Tryz.ntmps292
  go_wp2
  go_end0
  exact Or.inl ⟨t, rfl, rfl, hs, (Keeps.refl _ w).alloc _⟩
theorem tell_one {τ : Type} {T : Tell τ} (n : List UInt8 × Nat) (t : τ) : tellAll T [n] t = T.run n t := by
  simp only [tellAll]
  cases T.run n t <;> rfl
theorem namedNames_any {τ : Type} {T : Tell τ} (hT : Tells T) {t : τ} {w : World} (n : List UInt8) (a : Nat) (hn : T.ok (n, a)) (h : T.J t w) : Calls Tryz.prog 273 #[.agg #[.string ⟨n.toArray⟩, .int .i64 a], T.v] w (GivesN T w (T.run (n, a) t)) := by
  have hs := hT.stable h ((Below.refl w.heap.size w).alloc (Nat.le_refl _) (.cells #[.string ⟨n.toArray⟩, .int .i64 a] 213))
  have hent := hT.enters
  show Calls Tryz.prog 273 #[.agg #[.string ⟨n.toArray⟩, .int .i64 a], .func (.func T.f) T.pre T.post] w _
  go_enter Tryz.func273, Tryz.ntmps273
  go_wp2_with fail
  refine (hT.call (n, a) hn hs).mono ?_
  rintro e w2 (⟨t2, hx, rfl, hj, hz⟩ | ⟨f, hx, b, hbb, rfl, hcell⟩)
  rotate_left
  · exact bodyPost_panics (Or.inr ⟨f, hx, b, by simp at hbb; omega, rfl, hcell⟩)
  go_wp2
  go_end0
  exact Or.inl ⟨t2, hx, rfl, hj, ((Keeps.refl _ w).alloc _).trans hz⟩
theorem namedLeads_any {τ : Type} {T : Tell τ} (hT : Tells T) {t : τ} {w : World} (n : List UInt8) (a : Nat) (hn : T.ok (n, a)) (h : T.J t w) : Calls Tryz.prog 272 #[.agg #[.string ⟨n.toArray⟩, .int .i64 a], T.v] w (GivesN T w (T.run (n, a) t)) := by
  have hs := hT.stable h ((Below.refl w.heap.size w).alloc (Nat.le_refl _) (.cells #[.string ⟨n.toArray⟩, .int .i64 a] 213))
  have hent := hT.enters
  show Calls Tryz.prog 272 #[.agg #[.string ⟨n.toArray⟩, .int .i64 a], .func (.func T.f) T.pre T.post] w _
  go_enter Tryz.func272, Tryz.ntmps272
  go_wp2_with fail
  refine (hT.call (n, a) hn hs).mono ?_
  rintro e w2 (⟨t2, hx, rfl, hj, hz⟩ | ⟨f, hx, b, hbb, rfl, hcell⟩)
  rotate_left
  · exact bodyPost_panics (Or.inr ⟨f, hx, b, by simp at hbb; omega, rfl, hcell⟩)
  go_wp2
  go_end0
  exact Or.inl ⟨t2, hx, rfl, hj, ((Keeps.refl _ w).alloc _).trans hz⟩
theorem names_ty {τ : Type} {T : Tell τ} (hT : Tells T) : ∀ (ty : Ty) {t : τ} {w : World}, (∀ n ∈ tyNames ty, T.ok n) → T.J t w → Calls Tryz.prog (namesF ty) #[namesR ty, T.v] w (GivesN T w (tellAll T (tyNames ty) t)) := by
  intro ty
  induction ty with
  | plain k => intro t w _ h; exact aloneNames_any hT h
  | opaq n f => intro t w _ h; exact aloneNames_any hT h
  | str n f => intro t w _ h; exact aloneNames_any hT h
  | void => intro t w _ h; exact aloneNames_any hT h
  | named n a => intro t w hok h; simp only [tyNames, tell_one]; exact namedNames_any hT n a (hok _ (by simp [tyNames])) h
  | arr o n f ih =>
    intro t w hok h
    obtain ⟨T1, v1, h1⟩ := tyV_iface o
    have hnc := names_method o h1
    have hen := namesF_enters o
    have hs := hT.stable h ((Below.refl w.heap.size w).alloc (Nat.le_refl _) (.cells #[.iface T1 v1, .int .i64 n, .bool f] 311))
    have HI := Hid.mk (ih hok hs)
    simp only [namesF, namesR, tyNames]
    rw [h1]
    clear ih hok
    go_enter Tryz.func291, Tryz.ntmps291
    go_wp2_with fail
    refine HI.out.mono ?_
    rintro e w2 (⟨t2, hx, rfl, hj, hz⟩ | ⟨f, hx, b, hbb, rfl, hcell⟩)
    rotate_left
    · exact bodyPost_panics (Or.inr ⟨f, hx, b, by simp at hbb; omega, rfl, hcell⟩)
    go_wp2
    go_end0
    exact Or.inl ⟨t2, hx, rfl, hj, ((Keeps.refl _ w).alloc _).trans hz⟩
  | opt o ih =>
    intro t w hok h
    obtain ⟨T1, v1, h1⟩ := tyV_iface o
    have hnc := names_method o h1
    have hen := namesF_enters o
    have hs := hT.stable h ((Below.refl w.heap.size w).alloc (Nat.le_refl _) (.cells #[.iface T1 v1] 314))
    have HI := Hid.mk (ih hok hs)
    simp only [namesF, namesR, tyNames]
    rw [h1]
    clear ih hok
    go_enter Tryz.func293, Tryz.ntmps293
    go_wp2_with fail
    refine HI.out.mono ?_
    rintro e w2 (⟨t2, hx, rfl, hj, hz⟩ | ⟨f, hx, b, hbb, rfl, hcell⟩)
    rotate_left
    · exact bodyPost_panics (Or.inr ⟨f, hx, b, by simp at hbb; omega, rfl, hcell⟩)
    go_wp2
    go_end0
    exact Or.inl ⟨t2, hx, rfl, hj, ((Keeps.refl _ w).alloc _).trans hz⟩
theorem leads_ty {τ : Type} {T : Tell τ} (hT : Tells T) : ∀ (ty : Ty) {t : τ} {w : World}, (∀ n ∈ tyLeads ty, T.ok n) → T.J t w → Calls Tryz.prog (leadsF ty) #[namesR ty, T.v] w (GivesN T w (tellAll T (tyLeads ty) t)) := by
  intro ty
  induction ty with
  | plain k => intro t w _ h; exact aloneLeads_any hT h
  | opaq n f => intro t w _ h; exact aloneLeads_any hT h
  | str n f => intro t w _ h; exact aloneLeads_any hT h
  | void => intro t w _ h; exact aloneLeads_any hT h
  | named n a => intro t w hok h; simp only [tyLeads, tell_one]; exact namedLeads_any hT n a (hok _ (by simp [tyLeads])) h
  | opt o ih => intro t w _ h; exact optLeads_any hT o h
  | arr o n f ih =>
    intro t w hok h
    obtain ⟨T1, v1, h1⟩ := tyV_iface o
    have hnc := leads_method o h1
    have hen := leadsF_enters o
    have hs := hT.stable h ((Below.refl w.heap.size w).alloc (Nat.le_refl _) (.cells #[.iface T1 v1, .int .i64 n, .bool f] 311))
    simp only [leadsF, namesR, tyLeads]
    rw [h1]
    cases f with
    | false =>
      clear ih hok
      go_enter Tryz.func290, Tryz.ntmps290
      go_wp2
      go_end0
      exact Or.inl ⟨t, rfl, rfl, hs, (Keeps.refl _ w).alloc _⟩
    | true =>
      have HI := Hid.mk (ih (by simpa [tyLeads] using hok) hs)
      clear ih hok
      go_enter Tryz.func290, Tryz.ntmps290
      go_wp2_with fail
      refine HI.out.mono ?_
      rintro e w2 (⟨t2, hx, rfl, hj, hz⟩ | ⟨f, hx, b, hbb, rfl, hcell⟩)
      rotate_left
      · exact bodyPost_panics (Or.inr ⟨f, hx, b, by simp at hbb; omega, rfl, hcell⟩)
      go_wp2
      go_end0
      exact Or.inl ⟨t2, rfl, rfl, hj, ((Keeps.refl _ w).alloc _).trans hz⟩
end Go.Proofs.YtmbcibgknckenaaGreatDoor
set_option linter.all false
set_option maxRecDepth 100000
set_option maxHeartbeats 4000000
namespace Go.Proofs.YtmbcibgknckenaaGreatDoor
open Go.RowKit
open Go.MapKept
theorem tellAll_app {τ : Type} {T : Tell τ} : ∀ (xs ys : List (List UInt8 × Nat)) (t : τ), tellAll T (xs ++ ys) t = match tellAll T xs t with | .ok t' => tellAll T ys t' | .error f => .error f := by
  intro xs
  induction xs with
  | nil => intro ys t; rfl
  | cons x xs ih =>
    intro ys t
    simp only [List.cons_append, tellAll]
    cases T.run x t with
    | ok t' => exact ih ys t'
    | error f => rfl
theorem tellAll_ok {τ : Type} {T : Tell τ} {xs ys : List (List UInt8 × Nat)} {t t' : τ} (h : tellAll T xs t = .ok t') : tellAll T (xs ++ ys) t = tellAll T ys t' := by rw [tellAll_app, h]
theorem tellAll_err {τ : Type} {T : Tell τ} {xs ys : List (List UInt8 × Nat)} {t : τ} {f : Mar.Fault} (h : tellAll T xs t = .error f) : tellAll T (xs ++ ys) t = .error f := by rw [tellAll_app, h]
theorem flat_get {α : Type} {c : α → List Value} {n : Nat} (hc : ∀ x, (c x).length = n) : ∀ (xs : List α) (k j : Nat) (hk : k < xs.length) (_ : j < n), (xs.flatMap c)[k * n + j]? = (c xs[k])[j]? := by
  intro xs
  induction xs with
  | nil => intro k j hk; cases hk
  | cons x xs ih =>
    intro k j hk hj
    rw [List.flatMap_cons]
    cases k with
    | zero =>
      rw [List.getElem?_append_left (by rw [hc]; omega)]
      simp
    | succ k =>
      rw [List.getElem?_append_right (by rw [hc, Nat.succ_mul]; omega)]
      have e : (k + 1) * n + j - (c x).length = k * n + j := by rw [hc, Nat.succ_mul]; omega
      rw [e, ih k j (by simpa using hk) hj]
      simp
theorem row_cell' {w : World} {g : Nat} {cur : Array Value} {T : TypeId} {xs : List Value} (hg : w.heap[g]? = some (.cells cur T)) (ht : cur.toList.take xs.length = xs) {i : Nat} {v : Value} (hi : xs[i]? = some v) : w.cell? ⟨g, i, none⟩ = some v := by
  have hl : i < xs.length := by
    rcases Nat.lt_or_ge i xs.length with h | h
    · exact h
    · rw [List.getElem?_eq_none h] at hi; cases hi
  have := row_cell hg ht hl
  rw [this]
  rw [List.getElem?_eq_getElem hl] at hi
  exact hi
theorem structNames_any {τ : Type} {T : Tell τ} (hT : Tells T) {bs : List (Nat × Obj)} {b a : Nat} {n : List UInt8} {ms : List DeclL} (hok : ∀ n ∈ ms.flatMap fun d => tyNames d.ty, T.ok n) (hd : DefIn bs b (.struct n a ms)) (hJ : ∀ {t : τ} {u : World}, T.J t u → ∀ p ∈ bs, u.heap[p.1]? = some p.2) {t : τ} {w : World} (h : T.J t w) :
    Calls Tryz.prog 258 #[.pointer (some ⟨b, 0, none⟩), T.v] w (GivesN T w (tellAll T (ms.flatMap fun d => tyNames d.ty) t)) := by
  have HO := Hid.mk hok
  clear hok
  obtain ⟨sl, hb, hsl⟩ := hd
  obtain ⟨k0, k1, k2, _⟩ := bound3 (hJ h _ hb)
  rcases hsl with ⟨rfl, h0, _⟩ | ⟨g, cap, cur, rfl, ⟨hcap, hms⟩, hg, htake⟩
  · have hnil : ms = [] := List.length_eq_zero_iff.1 h0
    subst hnil
    have HJ0 := Hid.mk h
    clear h
    go_enter Tryz.func258, Tryz.ntmps258
    go_wp2
    go_loopw [11] (fun i ur => i = .int .i64 0 ∧ ur = w) (fun _ _ => 0)
    case atStart => exact ⟨rfl, rfl⟩
    case round =>
      obtain ⟨rfl, rfl⟩ := hrel
      go_wp2
      go_end0
      exact Or.inl ⟨t, rfl, rfl, HJ0.out, Keeps.refl _ _⟩
  · have hrow : ∀ (u : World) (t' : τ), T.J t' u → ∀ i (hi : i < ms.length), u.cell? ⟨g, i * 3, none⟩ = some (.string ⟨ms[i].t.toArray⟩) ∧ u.cell? ⟨g, i * 3 + 1, none⟩ = some (.int .i64 ms[i].at') ∧ u.cell? ⟨g, i * 3 + 2, none⟩ = some (tyV ms[i].ty) := by
      intro u t' hu i hi
      have hgb := hJ hu _ hg
      have hf := flat_get (c := declC) (n := 3) (fun _ => rfl) ms i
      exact ⟨row_cell' hgb htake (by have := hf 0 hi (by omega); simpa using this), row_cell' hgb htake (by have := hf 1 hi (by omega); simpa using this), row_cell' hgb htake (by have := hf 2 hi (by omega); simpa using this)⟩
    have HR := Hid.mk hrow
    have HJ0 := Hid.mk h
    clear hrow h
    go_enter Tryz.func258, Tryz.ntmps258
    go_wp2
    go_loopw [11] (fun i ur => ∃ (k : Nat) (t' : τ), i = .int .i64 k ∧ k ≤ ms.length ∧ Hid (T.J t' ur) ∧ Keeps T.M w ur ∧ Hid (tellAll T (ms.flatMap fun d => tyNames d.ty) t = tellAll T ((ms.drop k).flatMap fun d => tyNames d.ty) t')) (fun i _ => ms.length - (intOf i).toNat)
    case atStart => exact ⟨0, t, rfl, by omega, HJ0, Keeps.refl _ _, rfl⟩
    case round =>
      obtain ⟨k, t', rfl, hk, J, hz, E⟩ := hrel
      clear HJ0
      rcases Nat.lt_or_ge k ms.length with hlt | hge
      · obtain ⟨q0, q1, q2⟩ := HR.out _ _ J.out k hlt
        obtain ⟨T1, v1, h1⟩ := tyV_iface ms[k].ty
        have hnc := names_method ms[k].ty h1
        have hen := namesF_enters ms[k].ty
        rw [h1] at q2
        have hi0 : (0 : Int) ≤ ↑k := by omega
        have hi1 : (↑k : Int) < ↑ms.length := by omega
        have ED : Hid (tellAll T (ms.flatMap fun d => tyNames d.ty) t = tellAll T (tyNames ms[k].ty ++ (ms.drop (k + 1)).flatMap fun d => tyNames d.ty) t') := by
          refine E.out.trans ?_
          rw [List.drop_eq_getElem_cons hlt, List.flatMap_cons]
        have HN := Hid.mk (names_ty hT ms[k].ty (fun n hn => HO.out n (List.mem_flatMap.2 ⟨ms[k], List.getElem_mem hlt, hn⟩)) (hT.stable J.out ((Below.refl _ _).alloc (Nat.le_refl _) (.cells #[.string ⟨ms[k].t.toArray⟩, .int .i64 ms[k].at', .iface T1 v1] 195))))
        clear E
        go_wp2_with fail
        refine HN.out.mono ?_
        rintro e w2 (⟨t2, hx, rfl, hj, hz2⟩ | ⟨f, hx, b2, hbb, rfl, hcell⟩)
        rotate_left
        · exact (show bodyPost Tryz.prog Tryz.f258 (GivesN T w (tellAll T (ms.flatMap fun d => tyNames d.ty) t)) (Exit.panic _) _ w2 from bodyPost_panics (Or.inr ⟨f, ED.out.trans (tellAll_err hx), b2, by have := hz.size; simp at hbb; omega, rfl, hcell⟩))
        have J2 := Hid.mk hj
        have E2 : Hid (tellAll T (ms.flatMap fun d => tyNames d.ty) t = tellAll T ((ms.drop (k + 1)).flatMap fun d => tyNames d.ty) t2) := ED.out.trans (tellAll_ok hx)
        have hz3 : Keeps T.M w w2 := (hz.alloc _).trans hz2
        clear hj hx ED hz2
        go_wp2
        exact ⟨⟨k + 1, t2, by go_num, by omega, J2, hz3, E2⟩, by simp [intOf]; omega⟩
      · have hkk : k = ms.length := by omega
        subst hkk
        have hfin : tellAll T (ms.flatMap fun d => tyNames d.ty) t = .ok t' := by
          refine E.out.trans ?_
          rw [List.drop_length]
          rfl
        have HF := Hid.mk hfin
        clear E hfin
        go_wp2
        go_end0
        exact Or.inl ⟨t', HF.out, rfl, J.out, hz⟩
theorem structLeads_any {τ : Type} {T : Tell τ} (hT : Tells T) {bs : List (Nat × Obj)} {b a : Nat} {n : List UInt8} {ms : List DeclL} (hok : ∀ n ∈ ms.flatMap fun d => tyLeads d.ty, T.ok n) (hd : DefIn bs b (.struct n a ms)) (hJ : ∀ {t : τ} {u : World}, T.J t u → ∀ p ∈ bs, u.heap[p.1]? = some p.2) {t : τ} {w : World} (h : T.J t w) :
    Calls Tryz.prog 257 #[.pointer (some ⟨b, 0, none⟩), T.v] w (GivesN T w (tellAll T (ms.flatMap fun d => tyLeads d.ty) t)) := by
  have HO := Hid.mk hok
  clear hok
  obtain ⟨sl, hb, hsl⟩ := hd
  obtain ⟨k0, k1, k2, _⟩ := bound3 (hJ h _ hb)
  rcases hsl with ⟨rfl, h0, _⟩ | ⟨g, cap, cur, rfl, ⟨hcap, hms⟩, hg, htake⟩
  · have hnil : ms = [] := List.length_eq_zero_iff.1 h0
    subst hnil
    have HJ0 := Hid.mk h
    clear h
    go_enter Tryz.func257, Tryz.ntmps257
    go_wp2
    go_loopw [11] (fun i ur => i = .int .i64 0 ∧ ur = w) (fun _ _ => 0)
    case atStart => exact ⟨rfl, rfl⟩
    case round =>
      obtain ⟨rfl, rfl⟩ := hrel
      go_wp2
      go_end0
      exact Or.inl ⟨t, rfl, rfl, HJ0.out, Keeps.refl _ _⟩
  · have hrow : ∀ (u : World) (t' : τ), T.J t' u → ∀ i (hi : i < ms.length), u.cell? ⟨g, i * 3, none⟩ = some (.string ⟨ms[i].t.toArray⟩) ∧ u.cell? ⟨g, i * 3 + 1, none⟩ = some (.int .i64 ms[i].at') ∧ u.cell? ⟨g, i * 3 + 2, none⟩ = some (tyV ms[i].ty) := by
      intro u t' hu i hi
      have hgb := hJ hu _ hg
      have hf := flat_get (c := declC) (n := 3) (fun _ => rfl) ms i
      exact ⟨row_cell' hgb htake (by have := hf 0 hi (by omega); simpa using this), row_cell' hgb htake (by have := hf 1 hi (by omega); simpa using this), row_cell' hgb htake (by have := hf 2 hi (by omega); simpa using this)⟩
    have HR := Hid.mk hrow
    have HJ0 := Hid.mk h
    clear hrow h
    go_enter Tryz.func257, Tryz.ntmps257
    go_wp2
    go_loopw [11] (fun i ur => ∃ (k : Nat) (t' : τ), i = .int .i64 k ∧ k ≤ ms.length ∧ Hid (T.J t' ur) ∧ Keeps T.M w ur ∧ Hid (tellAll T (ms.flatMap fun d => tyLeads d.ty) t = tellAll T ((ms.drop k).flatMap fun d => tyLeads d.ty) t')) (fun i _ => ms.length - (intOf i).toNat)
    case atStart => exact ⟨0, t, rfl, by omega, HJ0, Keeps.refl _ _, rfl⟩
    case round =>
      obtain ⟨k, t', rfl, hk, J, hz, E⟩ := hrel
      clear HJ0
      rcases Nat.lt_or_ge k ms.length with hlt | hge
      · obtain ⟨q0, q1, q2⟩ := HR.out _ _ J.out k hlt
        obtain ⟨T1, v1, h1⟩ := tyV_iface ms[k].ty
        have hnc := leads_method ms[k].ty h1
        have hen := leadsF_enters ms[k].ty
        rw [h1] at q2
        have hi0 : (0 : Int) ≤ ↑k := by omega
        have hi1 : (↑k : Int) < ↑ms.length := by omega
        have ED : Hid (tellAll T (ms.flatMap fun d => tyLeads d.ty) t = tellAll T (tyLeads ms[k].ty ++ (ms.drop (k + 1)).flatMap fun d => tyLeads d.ty) t') := by
          refine E.out.trans ?_
          rw [List.drop_eq_getElem_cons hlt, List.flatMap_cons]
        have HN := Hid.mk (leads_ty hT ms[k].ty (fun n hn => HO.out n (List.mem_flatMap.2 ⟨ms[k], List.getElem_mem hlt, hn⟩)) (hT.stable J.out ((Below.refl _ _).alloc (Nat.le_refl _) (.cells #[.string ⟨ms[k].t.toArray⟩, .int .i64 ms[k].at', .iface T1 v1] 195))))
        clear E
        go_wp2_with fail
        refine HN.out.mono ?_
        rintro e w2 (⟨t2, hx, rfl, hj, hz2⟩ | ⟨f, hx, b2, hbb, rfl, hcell⟩)
        rotate_left
        · exact (show bodyPost Tryz.prog Tryz.f257 (GivesN T w (tellAll T (ms.flatMap fun d => tyLeads d.ty) t)) (Exit.panic _) _ w2 from bodyPost_panics (Or.inr ⟨f, ED.out.trans (tellAll_err hx), b2, by have := hz.size; simp at hbb; omega, rfl, hcell⟩))
        have J2 := Hid.mk hj
        have E2 : Hid (tellAll T (ms.flatMap fun d => tyLeads d.ty) t = tellAll T ((ms.drop (k + 1)).flatMap fun d => tyLeads d.ty) t2) := ED.out.trans (tellAll_ok hx)
        have hz3 : Keeps T.M w w2 := (hz.alloc _).trans hz2
        clear hj hx ED hz2
        go_wp2
        exact ⟨⟨k + 1, t2, by go_num, by omega, J2, hz3, E2⟩, by simp [intOf]; omega⟩
      · have hkk : k = ms.length := by omega
        subst hkk
        have hfin : tellAll T (ms.flatMap fun d => tyLeads d.ty) t = .ok t' := by
          refine E.out.trans ?_
          rw [List.drop_length]
          rfl
        have HF := Hid.mk hfin
        clear E hfin
        go_wp2
        go_end0
        exact Or.inl ⟨t', HF.out, rfl, J.out, hz⟩
end Go.Proofs.YtmbcibgknckenaaGreatDoor
set_option linter.all false
set_option maxRecDepth 100000
set_option maxHeartbeats 4000000
namespace Go.Proofs.YtmbcibgknckenaaGreatDoor
open Go.RowKit
open Go.MapKept
theorem typedefNames_any {τ : Type} {T : Tell τ} (hT : Tells T) {bs : List (Nat × Obj)} {b : Nat} {d : DeclL} (hok : ∀ n ∈ tyNames d.ty, T.ok n) (hd : DefIn bs b (.typedef d)) (hJ : ∀ {t : τ} {u : World}, T.J t u → ∀ p ∈ bs, u.heap[p.1]? = some p.2) {t : τ} {w : World} (h : T.J t w) :
    Calls Tryz.prog 250 #[.pointer (some ⟨b, 0, none⟩), T.v] w (GivesN T w (tellAll T (tyNames d.ty) t)) := by
  obtain ⟨k0, k1, k2, _⟩ := bound3 (hJ h _ hd)
  obtain ⟨T1, v1, h1⟩ := tyV_iface d.ty
  have hnc := names_method d.ty h1
  have hen := namesF_enters d.ty
  rw [h1] at k2
  have HN := Hid.mk (names_ty hT d.ty hok h)
  clear h hok
  go_enter Tryz.func250, Tryz.ntmps250
  go_wp2_with fail
  refine HN.out.mono ?_
  rintro e w2 (⟨t2, hx, rfl, hj, hz2⟩ | ⟨f, hx, b2, hbb, rfl, hcell⟩)
  rotate_left
  · exact bodyPost_panics (Or.inr ⟨f, hx, b2, hbb, rfl, hcell⟩)
  have HX := Hid.mk hx
  clear hx
  go_wp2
  go_end0
  exact Or.inl ⟨t2, HX.out, rfl, hj, hz2⟩
theorem unionNames_any {τ : Type} {T : Tell τ} (hT : Tells T) {bs : List (Nat × Obj)} {b a : Nat} {n : List UInt8} {sel : DeclL} {arms : Arms} (hok : ∀ n ∈ arms.flatMap fun d => tyNames d.2.ty, T.ok n) (hd : DefIn bs b (.union n a sel arms)) (hJ : ∀ {t : τ} {u : World}, T.J t u → ∀ p ∈ bs, u.heap[p.1]? = some p.2) {t : τ} {w : World} (h : T.J t w) :
    Calls Tryz.prog 261 #[.pointer (some ⟨b, 0, none⟩), T.v] w (GivesN T w (tellAll T (arms.flatMap fun d => tyNames d.2.ty) t)) := by
  have HO := Hid.mk hok
  clear hok
  obtain ⟨sl, css, hb, hcl, hsl, hea⟩ := hd
  obtain ⟨_, k5, _⟩ := bound65 (hJ h _ hb)
  rcases hsl with ⟨rfl, h0, _⟩ | ⟨g, cap, cur, rfl, ⟨hcap, hms⟩, hg, htake⟩
  · have hnil : arms = [] := List.length_eq_zero_iff.1 h0
    subst hnil
    have HJ0 := Hid.mk h
    clear h hea
    go_enter Tryz.func261, Tryz.ntmps261
    go_wp2
    go_loopw [11] (fun i ur => i = .int .i64 0 ∧ ur = w) (fun _ _ => 0)
    case atStart => exact ⟨rfl, rfl⟩
    case round =>
      obtain ⟨rfl, rfl⟩ := hrel
      go_wp2
      go_end0
      exact Or.inl ⟨t, rfl, rfl, HJ0.out, Keeps.refl _ _⟩
  · have hrow : ∀ (u : World) (t' : τ), T.J t' u → ∀ i (hi : i < arms.length), ∃ ca cn cc, u.cell? ⟨g, i * 4, none⟩ = some (.slice ca cn cc) ∧ u.cell? ⟨g, i * 4 + 1, none⟩ = some (.string ⟨arms[i].2.t.toArray⟩) ∧ u.cell? ⟨g, i * 4 + 2, none⟩ = some (.int .i64 arms[i].2.at') ∧ u.cell? ⟨g, i * 4 + 3, none⟩ = some (tyV arms[i].2.ty) := by
      intro u t' hu i hi
      have hgb := hJ hu _ hg
      have hi' : i < css.length := by omega
      have hf := flat_get (c := armC) (n := 4) (fun _ => rfl) (arms.zip css) i
      have hz : i < (arms.zip css).length := by simp; omega
      obtain ⟨ca, cn, cc, hcv⟩ : ∃ a b c, css[i] = Value.slice a b c := by rcases hea i hi hi' with ⟨e, _⟩ | ⟨g, cap, cur, e, _⟩ <;> exact ⟨_, _, _, e⟩
      refine ⟨ca, cn, cc, row_cell' hgb htake ?_, row_cell' hgb htake ?_, row_cell' hgb htake ?_, row_cell' hgb htake ?_⟩
      · have := hf 0 hz (by omega); simpa [hcv] using this
      · have := hf 1 hz (by omega); simpa using this
      · have := hf 2 hz (by omega); simpa using this
      · have := hf 3 hz (by omega); simpa using this
    have HR := Hid.mk hrow
    have HJ0 := Hid.mk h
    clear hrow h hea
    go_enter Tryz.func261, Tryz.ntmps261
    go_wp2
    go_loopw [11] (fun i ur => ∃ (k : Nat) (t' : τ), i = .int .i64 k ∧ k ≤ arms.length ∧ Hid (T.J t' ur) ∧ Keeps T.M w ur ∧ Hid (tellAll T (arms.flatMap fun d => tyNames d.2.ty) t = tellAll T ((arms.drop k).flatMap fun d => tyNames d.2.ty) t')) (fun i _ => arms.length - (intOf i).toNat)
    case atStart => exact ⟨0, t, rfl, by omega, HJ0, Keeps.refl _ _, rfl⟩
    case round =>
      obtain ⟨k, t', rfl, hk, J, hz, E⟩ := hrel
      clear HJ0
      rcases Nat.lt_or_ge k arms.length with hlt | hge
      · obtain ⟨ca, cn, cc, q0, q1, q2, q3⟩ := HR.out _ _ J.out k hlt
        obtain ⟨T1, v1, h1⟩ := tyV_iface arms[k].2.ty
        have hnc := names_method arms[k].2.ty h1
        have hen := namesF_enters arms[k].2.ty
        rw [h1] at q3
        have hi0 : (0 : Int) ≤ ↑k := by omega
        have hi1 : (↑k : Int) < ↑arms.length := by omega
        have ED : Hid (tellAll T (arms.flatMap fun d => tyNames d.2.ty) t = tellAll T (tyNames arms[k].2.ty ++ (arms.drop (k + 1)).flatMap fun d => tyNames d.2.ty) t') := by
          refine E.out.trans ?_
          rw [List.drop_eq_getElem_cons hlt, List.flatMap_cons]
        have HN := Hid.mk (names_ty hT arms[k].2.ty (fun n hn => HO.out n (List.mem_flatMap.2 ⟨arms[k], List.getElem_mem hlt, hn⟩)) (hT.stable J.out ((Below.refl _ _).alloc (Nat.le_refl _) (.cells #[.slice ca cn cc, .string ⟨arms[k].2.t.toArray⟩, .int .i64 arms[k].2.at', .iface T1 v1] 292))))
        clear E
        go_wp2_with fail
        refine HN.out.mono ?_
        rintro e w2 (⟨t2, hx, rfl, hj, hz2⟩ | ⟨f, hx, b2, hbb, rfl, hcell⟩)
        rotate_left
        · exact (show bodyPost Tryz.prog Tryz.f261 (GivesN T w (tellAll T (arms.flatMap fun d => tyNames d.2.ty) t)) (Exit.panic _) _ w2 from bodyPost_panics (Or.inr ⟨f, ED.out.trans (tellAll_err hx), b2, by have := hz.size; simp at hbb; omega, rfl, hcell⟩))
        have J2 := Hid.mk hj
        have E2 : Hid (tellAll T (arms.flatMap fun d => tyNames d.2.ty) t = tellAll T ((arms.drop (k + 1)).flatMap fun d => tyNames d.2.ty) t2) := ED.out.trans (tellAll_ok hx)
        have hz3 : Keeps T.M w w2 := (hz.alloc _).trans hz2
        clear hj hx ED hz2
        go_wp2
        exact ⟨⟨k + 1, t2, by go_num, by omega, J2, hz3, E2⟩, by simp [intOf]; omega⟩
      · have hkk : k = arms.length := by omega
        subst hkk
        have hfin : tellAll T (arms.flatMap fun d => tyNames d.2.ty) t = .ok t' := by
          refine E.out.trans ?_
          rw [List.drop_length]
          rfl
        have HF := Hid.mk hfin
        clear E hfin
        go_wp2
        go_end0
        exact Or.inl ⟨t', HF.out, rfl, J.out, hz⟩
theorem typedefLeads_any {τ : Type} {T : Tell τ} (hT : Tells T) {bs : List (Nat × Obj)} {b : Nat} {d : DeclL} (hok : ∀ n ∈ tyLeads d.ty, T.ok n) (hd : DefIn bs b (.typedef d)) (hJ : ∀ {t : τ} {u : World}, T.J t u → ∀ p ∈ bs, u.heap[p.1]? = some p.2) {t : τ} {w : World} (h : T.J t w) :
    Calls Tryz.prog 249 #[.pointer (some ⟨b, 0, none⟩), T.v] w (GivesN T w (tellAll T (tyLeads d.ty) t)) := by
  obtain ⟨k0, k1, k2, _⟩ := bound3 (hJ h _ hd)
  obtain ⟨T1, v1, h1⟩ := tyV_iface d.ty
  have hnc := leads_method d.ty h1
  have hen := leadsF_enters d.ty
  rw [h1] at k2
  have HN := Hid.mk (leads_ty hT d.ty hok h)
  clear h hok
  go_enter Tryz.func249, Tryz.ntmps249
  go_wp2_with fail
  refine HN.out.mono ?_
  rintro e w2 (⟨t2, hx, rfl, hj, hz2⟩ | ⟨f, hx, b2, hbb, rfl, hcell⟩)
  rotate_left
  · exact bodyPost_panics (Or.inr ⟨f, hx, b2, hbb, rfl, hcell⟩)
  have HX := Hid.mk hx
  clear hx
  go_wp2
  go_end0
  exact Or.inl ⟨t2, HX.out, rfl, hj, hz2⟩
theorem unionLeads_any {τ : Type} {T : Tell τ} (hT : Tells T) {bs : List (Nat × Obj)} {b a : Nat} {n : List UInt8} {sel : DeclL} {arms : Arms} (hok : ∀ n ∈ arms.flatMap fun d => tyLeads d.2.ty, T.ok n) (hd : DefIn bs b (.union n a sel arms)) (hJ : ∀ {t : τ} {u : World}, T.J t u → ∀ p ∈ bs, u.heap[p.1]? = some p.2) {t : τ} {w : World} (h : T.J t w) :
    Calls Tryz.prog 260 #[.pointer (some ⟨b, 0, none⟩), T.v] w (GivesN T w (tellAll T (arms.flatMap fun d => tyLeads d.2.ty) t)) := by
  have HO := Hid.mk hok
  clear hok
  obtain ⟨sl, css, hb, hcl, hsl, hea⟩ := hd
  obtain ⟨_, k5, _⟩ := bound65 (hJ h _ hb)
  rcases hsl with ⟨rfl, h0, _⟩ | ⟨g, cap, cur, rfl, ⟨hcap, hms⟩, hg, htake⟩
  · have hnil : arms = [] := List.length_eq_zero_iff.1 h0
    subst hnil
    have HJ0 := Hid.mk h
    clear h hea
    go_enter Tryz.func260, Tryz.ntmps260
    go_wp2
    go_loopw [11] (fun i ur => i = .int .i64 0 ∧ ur = w) (fun _ _ => 0)
    case atStart => exact ⟨rfl, rfl⟩
    case round =>
      obtain ⟨rfl, rfl⟩ := hrel
      go_wp2
      go_end0
      exact Or.inl ⟨t, rfl, rfl, HJ0.out, Keeps.refl _ _⟩
  · have hrow : ∀ (u : World) (t' : τ), T.J t' u → ∀ i (hi : i < arms.length), ∃ ca cn cc, u.cell? ⟨g, i * 4, none⟩ = some (.slice ca cn cc) ∧ u.cell? ⟨g, i * 4 + 1, none⟩ = some (.string ⟨arms[i].2.t.toArray⟩) ∧ u.cell? ⟨g, i * 4 + 2, none⟩ = some (.int .i64 arms[i].2.at') ∧ u.cell? ⟨g, i * 4 + 3, none⟩ = some (tyV arms[i].2.ty) := by
      intro u t' hu i hi
      have hgb := hJ hu _ hg
      have hi' : i < css.length := by omega
      have hf := flat_get (c := armC) (n := 4) (fun _ => rfl) (arms.zip css) i
      have hz : i < (arms.zip css).length := by simp; omega
      obtain ⟨ca, cn, cc, hcv⟩ : ∃ a b c, css[i] = Value.slice a b c := by rcases hea i hi hi' with ⟨e, _⟩ | ⟨g, cap, cur, e, _⟩ <;> exact ⟨_, _, _, e⟩
      refine ⟨ca, cn, cc, row_cell' hgb htake ?_, row_cell' hgb htake ?_, row_cell' hgb htake ?_, row_cell' hgb htake ?_⟩
      · have := hf 0 hz (by omega); simpa [hcv] using this
      · have := hf 1 hz (by omega); simpa using this
      · have := hf 2 hz (by omega); simpa using this
      · have := hf 3 hz (by omega); simpa using this
    have HR := Hid.mk hrow
    have HJ0 := Hid.mk h
    clear hrow h hea
    go_enter Tryz.func260, Tryz.ntmps260
    go_wp2
    go_loopw [11] (fun i ur => ∃ (k : Nat) (t' : τ), i = .int .i64 k ∧ k ≤ arms.length ∧ Hid (T.J t' ur) ∧ Keeps T.M w ur ∧ Hid (tellAll T (arms.flatMap fun d => tyLeads d.2.ty) t = tellAll T ((arms.drop k).flatMap fun d => tyLeads d.2.ty) t')) (fun i _ => arms.length - (intOf i).toNat)
    case atStart => exact ⟨0, t, rfl, by omega, HJ0, Keeps.refl _ _, rfl⟩
    case round =>
      obtain ⟨k, t', rfl, hk, J, hz, E⟩ := hrel
      clear HJ0
      rcases Nat.lt_or_ge k arms.length with hlt | hge
      · obtain ⟨ca, cn, cc, q0, q1, q2, q3⟩ := HR.out _ _ J.out k hlt
        obtain ⟨T1, v1, h1⟩ := tyV_iface arms[k].2.ty
        have hnc := leads_method arms[k].2.ty h1
        have hen := leadsF_enters arms[k].2.ty
        rw [h1] at q3
        have hi0 : (0 : Int) ≤ ↑k := by omega
        have hi1 : (↑k : Int) < ↑arms.length := by omega
        have ED : Hid (tellAll T (arms.flatMap fun d => tyLeads d.2.ty) t = tellAll T (tyLeads arms[k].2.ty ++ (arms.drop (k + 1)).flatMap fun d => tyLeads d.2.ty) t') := by
          refine E.out.trans ?_
          rw [List.drop_eq_getElem_cons hlt, List.flatMap_cons]
        have HN := Hid.mk (leads_ty hT arms[k].2.ty (fun n hn => HO.out n (List.mem_flatMap.2 ⟨arms[k], List.getElem_mem hlt, hn⟩)) (hT.stable J.out ((Below.refl _ _).alloc (Nat.le_refl _) (.cells #[.slice ca cn cc, .string ⟨arms[k].2.t.toArray⟩, .int .i64 arms[k].2.at', .iface T1 v1] 292))))
        clear E
        go_wp2_with fail
        refine HN.out.mono ?_
        rintro e w2 (⟨t2, hx, rfl, hj, hz2⟩ | ⟨f, hx, b2, hbb, rfl, hcell⟩)
        rotate_left
        · exact (show bodyPost Tryz.prog Tryz.f260 (GivesN T w (tellAll T (arms.flatMap fun d => tyLeads d.2.ty) t)) (Exit.panic _) _ w2 from bodyPost_panics (Or.inr ⟨f, ED.out.trans (tellAll_err hx), b2, by have := hz.size; simp at hbb; omega, rfl, hcell⟩))
        have J2 := Hid.mk hj
        have E2 : Hid (tellAll T (arms.flatMap fun d => tyLeads d.2.ty) t = tellAll T ((arms.drop (k + 1)).flatMap fun d => tyLeads d.2.ty) t2) := ED.out.trans (tellAll_ok hx)
        have hz3 : Keeps T.M w w2 := (hz.alloc _).trans hz2
        clear hj hx ED hz2
        go_wp2
        exact ⟨⟨k + 1, t2, by go_num, by omega, J2, hz3, E2⟩, by simp [intOf]; omega⟩
      · have hkk : k = arms.length := by omega
        subst hkk
        have hfin : tellAll T (arms.flatMap fun d => tyLeads d.2.ty) t = .ok t' := by
          refine E.out.trans ?_
          rw [List.drop_length]
          rfl
        have HF := Hid.mk hfin
        clear E hfin
        go_wp2
        go_end0
        exact Or.inl ⟨t', HF.out, rfl, J.out, hz⟩
end Go.Proofs.YtmbcibgknckenaaGreatDoor
set_option linter.all false
set_option maxRecDepth 100000
set_option maxHeartbeats 4000000
namespace Go.Proofs.YtmbcibgknckenaaGreatDoor
open Go.RowKit
open Go.MapKept
def procNames (p : ProcL) : List (List UInt8 × Nat) := tyNames p.res ++ tyNames p.arg
def verNames (v : VersionL) : List (List UInt8 × Nat) := v.procs.flatMap procNames
theorem progNames_any {τ : Type} {T : Tell τ} (hT : Tells T) {bs : List (Nat × Obj)} {b a : Nat} {n : List UInt8} {vs : List VersionL} {num : Int} (hok : ∀ n ∈ vs.flatMap verNames, T.ok n) (hd : DefIn bs b (.prog n a vs num)) (hJ : ∀ {t : τ} {u : World}, T.J t u → ∀ p ∈ bs, u.heap[p.1]? = some p.2) {t : τ} {w : World} (h : T.J t w) :
    Calls Tryz.prog 265 #[.pointer (some ⟨b, 0, none⟩), T.v] w (GivesN T w (tellAll T (vs.flatMap verNames) t)) := by
  have HO := Hid.mk hok
  clear hok
  obtain ⟨sl, css, hb, hcl, hsl, hea⟩ := hd
  obtain ⟨_, _, k2, _⟩ := bound4 (hJ h _ hb)
  rcases hsl with ⟨rfl, h0, _⟩ | ⟨g, cap, cur, rfl, ⟨hcap, hms⟩, hg, htake⟩
  · have hnil : vs = [] := List.length_eq_zero_iff.1 h0
    subst hnil
    have HJ0 := Hid.mk h
    clear h hea
    go_enter Tryz.func265, Tryz.ntmps265
    go_wp2
    go_loopw [13] (fun i ur => i = .int .i64 0 ∧ ur = w) (fun _ _ => 0)
    case atStart => exact ⟨rfl, rfl⟩
    case round =>
      obtain ⟨rfl, rfl⟩ := hrel
      go_wp2
      go_end0
      exact Or.inl ⟨t, rfl, rfl, HJ0.out, Keeps.refl _ _⟩
  · have hrow : ∀ (u : World) (t' : τ), T.J t' u → ∀ i (hi : i < vs.length) (hi' : i < css.length), u.cell? ⟨g, i * 4, none⟩ = some (.string ⟨vs[i].t.toArray⟩) ∧ u.cell? ⟨g, i * 4 + 1, none⟩ = some (.int .i64 vs[i].at') ∧ u.cell? ⟨g, i * 4 + 2, none⟩ = some css[i] ∧ u.cell? ⟨g, i * 4 + 3, none⟩ = some (.int .i64 vs[i].num) := by
      intro u t' hu i hi hi'
      have hgb := hJ hu _ hg
      have hf := flat_get (c := verC) (n := 4) (fun _ => rfl) (vs.zip css) i
      have hz : i < (vs.zip css).length := by simp; omega
      refine ⟨row_cell' hgb htake ?_, row_cell' hgb htake ?_, row_cell' hgb htake ?_, row_cell' hgb htake ?_⟩
      · exact (hf 0 hz (by omega)).trans (by simp)
      · exact (hf 1 hz (by omega)).trans (by simp)
      · exact (hf 2 hz (by omega)).trans (by simp)
      · exact (hf 3 hz (by omega)).trans (by simp)
    have HR := Hid.mk hrow
    have HEA := Hid.mk hea
    have HCL := Hid.mk hcl
    have HJ0 := Hid.mk h
    clear hrow h hea hcl
    go_enter Tryz.func265, Tryz.ntmps265
    go_wp2
    go_loopw [13] (fun i ur => ∃ (k : Nat) (t' : τ), i = .int .i64 k ∧ k ≤ vs.length ∧ Hid (T.J t' ur) ∧ Keeps T.M w ur ∧ Hid (tellAll T (vs.flatMap verNames) t = tellAll T ((vs.drop k).flatMap verNames) t')) (fun i _ => vs.length - (intOf i).toNat)
    case atStart => exact ⟨0, t, rfl, by omega, HJ0, Keeps.refl _ _, rfl⟩
    case round =>
      obtain ⟨k, t', rfl, hk, J, hz, E⟩ := hrel
      clear HJ0
      rcases Nat.lt_or_ge k vs.length with hlt | hge
      · have hlt' : k < css.length := by have := HCL.out; omega
        obtain ⟨q0, q1, q2, q3⟩ := HR.out _ _ J.out k hlt hlt'
        have hi0 : (0 : Int) ≤ ↑k := by omega
        have hi1 : (↑k : Int) < ↑vs.length := by omega
        have ED : Hid (tellAll T (vs.flatMap verNames) t = tellAll T ((vs[k].procs.drop 0).flatMap procNames ++ (vs.drop (k + 1)).flatMap verNames) t') := by
          refine E.out.trans ?_
          rw [List.drop_eq_getElem_cons hlt, List.flatMap_cons, List.drop_zero]
          rfl
        clear E
        have hsk := HEA.out k hlt hlt'
        rcases hsk with ⟨e1, h00, _⟩ | ⟨g2, cap2, cur2, e1, ⟨hcap2, hms2⟩, hg2, htake2⟩
        · rw [e1] at q2
          have hnil : vs[k].procs = [] := List.length_eq_zero_iff.1 h00
          have J1 := Hid.mk (hT.stable J.out ((Below.refl _ _).alloc (Nat.le_refl _) (.cells #[.string ⟨vs[k].t.toArray⟩, .int .i64 vs[k].at', .slice none 0 0, .int .i64 vs[k].num] 296)))
          have hz1 := hz.alloc (.cells #[.string ⟨vs[k].t.toArray⟩, .int .i64 vs[k].at', .slice none 0 0, .int .i64 vs[k].num] 296)
          have E1 : Hid (tellAll T (vs.flatMap verNames) t = tellAll T ((vs.drop (k + 1)).flatMap verNames) t') := by
            refine ED.out.trans ?_
            rw [hnil]
            rfl
          clear ED e1 hnil h00
          go_wp2
          go_loopw [20] (fun i ur => i = .int .i64 0 ∧ ur = wr.alloc (.cells #[.string ⟨vs[k].t.toArray⟩, .int .i64 vs[k].at', .slice none 0 0, .int .i64 vs[k].num] 296)) (fun _ _ => 0)
          case atStart => exact ⟨rfl, rfl⟩
          case round =>
            obtain ⟨rfl, rfl⟩ := hrel
            go_wp2
            exact ⟨⟨k + 1, t', by go_num, by omega, J1, hz1, E1⟩, by simp [intOf]; omega⟩
        · rw [e1] at q2
          have hrow2 : ∀ (u : World) (t' : τ), T.J t' u → ∀ j (hj : j < vs[k].procs.length), u.cell? ⟨g2, j * 5, none⟩ = some (.string ⟨vs[k].procs[j].t.toArray⟩) ∧ u.cell? ⟨g2, j * 5 + 1, none⟩ = some (.int .i64 vs[k].procs[j].at') ∧ u.cell? ⟨g2, j * 5 + 2, none⟩ = some (tyV vs[k].procs[j].res) ∧ u.cell? ⟨g2, j * 5 + 3, none⟩ = some (tyV vs[k].procs[j].arg) ∧ u.cell? ⟨g2, j * 5 + 4, none⟩ = some (.int .i64 vs[k].procs[j].num) := by
            intro u t' hu j hj
            have hgb := hJ hu _ hg2
            have hf := flat_get (c := procC) (n := 5) (fun _ => rfl) vs[k].procs j
            exact ⟨row_cell' hgb htake2 ((hf 0 hj (by omega)).trans (by simp)), row_cell' hgb htake2 ((hf 1 hj (by omega)).trans (by simp)), row_cell' hgb htake2 ((hf 2 hj (by omega)).trans (by simp)), row_cell' hgb htake2 ((hf 3 hj (by omega)).trans (by simp)), row_cell' hgb htake2 ((hf 4 hj (by omega)).trans (by simp))⟩
          have HR2 := Hid.mk hrow2
          have J1 := Hid.mk (hT.stable J.out ((Below.refl _ _).alloc (Nat.le_refl _) (.cells #[.string ⟨vs[k].t.toArray⟩, .int .i64 vs[k].at', .slice (some ⟨g2, 0, none⟩) vs[k].procs.length cap2, .int .i64 vs[k].num] 296)))
          have hz1 := hz.alloc (.cells #[.string ⟨vs[k].t.toArray⟩, .int .i64 vs[k].at', .slice (some ⟨g2, 0, none⟩) vs[k].procs.length cap2, .int .i64 vs[k].num] 296)
          clear hrow2 e1 hz
          go_wp2
          go_loopw [20] (fun i u2 => ∃ (j : Nat) (t2 : τ), i = .int .i64 j ∧ j ≤ vs[k].procs.length ∧ Hid (T.J t2 u2) ∧ Keeps T.M w u2 ∧ Hid (tellAll T (vs.flatMap verNames) t = tellAll T ((vs[k].procs.drop j).flatMap procNames ++ (vs.drop (k + 1)).flatMap verNames) t2)) (fun i _ => vs[k].procs.length - (intOf i).toNat)
          case atStart => exact ⟨0, t', rfl, by omega, J1, hz1, ED⟩
          case round =>
            obtain ⟨j, t2, rfl, hj, Jj, hzj, Ej⟩ := hrel
            clear J1 hz1 ED
            rcases Nat.lt_or_ge j vs[k].procs.length with hlj | hgj
            · obtain ⟨p0, p1, p2, p3, p4⟩ := HR2.out _ _ Jj.out j hlj
              obtain ⟨T1, v1, h1⟩ := tyV_iface vs[k].procs[j].res
              obtain ⟨T2, v2, h2⟩ := tyV_iface vs[k].procs[j].arg
              have hnc := names_method vs[k].procs[j].res h1
              have hen := namesF_enters vs[k].procs[j].res
              have hnc2 := names_method vs[k].procs[j].arg h2
              have hen2 := namesF_enters vs[k].procs[j].arg
              rw [h1] at p2
              rw [h2] at p3
              have hj0 : (0 : Int) ≤ ↑j := by omega
              have hj1 : (↑j : Int) < ↑vs[k].procs.length := by omega
              have EJ : Hid (tellAll T (vs.flatMap verNames) t = tellAll T (tyNames vs[k].procs[j].res ++ (tyNames vs[k].procs[j].arg ++ ((vs[k].procs.drop (j + 1)).flatMap procNames ++ (vs.drop (k + 1)).flatMap verNames))) t2) := by
                refine Ej.out.trans ?_
                rw [List.drop_eq_getElem_cons hlj, List.flatMap_cons]
                simp only [procNames, List.append_assoc]
              have HN := Hid.mk (names_ty hT vs[k].procs[j].res (fun n hn => HO.out n (List.mem_flatMap.2 ⟨vs[k], List.getElem_mem hlt, List.mem_flatMap.2 ⟨vs[k].procs[j], List.getElem_mem hlj, List.mem_append_left _ hn⟩⟩)) (hT.stable Jj.out ((Below.refl _ _).alloc (Nat.le_refl _) (.cells #[.string ⟨vs[k].procs[j].t.toArray⟩, .int .i64 vs[k].procs[j].at', .iface T1 v1, .iface T2 v2, .int .i64 vs[k].procs[j].num] 342))))
              have hold := hT.old Jj.out
              have hzp := hzj.alloc (.cells #[.string ⟨vs[k].procs[j].t.toArray⟩, .int .i64 vs[k].procs[j].at', .iface T1 v1, .iface T2 v2, .int .i64 vs[k].procs[j].num] 342)
              clear Ej
              go_wp2_with fail
              refine HN.out.mono ?_
              rintro e w2 (⟨t3, hx, rfl, hj3, hz2⟩ | ⟨f, hx, b2, hbb, rfl, hcell⟩)
              rotate_left
              · exact (show bodyPost Tryz.prog Tryz.f265 (GivesN T w (tellAll T (vs.flatMap verNames) t)) (Exit.panic _) _ w2 from bodyPost_panics (Or.inr ⟨f, EJ.out.trans (tellAll_err hx), b2, by have := hzp.size; omega, rfl, hcell⟩))
              have hb2 := (hz2.block _ (by simp) (fun hm => by have := hold _ hm; omega)).trans (heap_alloc_at rfl)
              obtain ⟨_, _, _, s3, _, _⟩ := bound5 hb2
              have E3 : Hid (tellAll T (vs.flatMap verNames) t = tellAll T (tyNames vs[k].procs[j].arg ++ ((vs[k].procs.drop (j + 1)).flatMap procNames ++ (vs.drop (k + 1)).flatMap verNames)) t3) := EJ.out.trans (tellAll_ok hx)
              have HN2 := Hid.mk (names_ty hT vs[k].procs[j].arg (fun n hn => HO.out n (List.mem_flatMap.2 ⟨vs[k], List.getElem_mem hlt, List.mem_flatMap.2 ⟨vs[k].procs[j], List.getElem_mem hlj, List.mem_append_right _ hn⟩⟩)) hj3)
              have hz3 := hzp.trans hz2
              clear hx EJ hb2 hz2 hj3 HN hzp
              go_wp2_with fail
              refine HN2.out.mono ?_
              rintro e w4 (⟨t4, hx4, rfl, hj4, hz4⟩ | ⟨f, hx4, b2, hbb, rfl, hcell⟩)
              rotate_left
              · exact (show bodyPost Tryz.prog Tryz.f265 (GivesN T w (tellAll T (vs.flatMap verNames) t)) (Exit.panic _) _ w4 from bodyPost_panics (Or.inr ⟨f, E3.out.trans (tellAll_err hx4), b2, by have := hz3.size; omega, rfl, hcell⟩))
              have J4 := Hid.mk hj4
              have E4 : Hid (tellAll T (vs.flatMap verNames) t = tellAll T ((vs[k].procs.drop (j + 1)).flatMap procNames ++ (vs.drop (k + 1)).flatMap verNames) t4) := E3.out.trans (tellAll_ok hx4)
              have hz5 := hz3.trans hz4
              clear hj4 hx4 E3 hz4 hz3
              go_wp2
              exact ⟨⟨j + 1, t4, by go_num, by omega, J4, hz5, E4⟩, by simp [intOf]; omega⟩
            · have hjj : j = vs[k].procs.length := by omega
              subst hjj
              have E1 : Hid (tellAll T (vs.flatMap verNames) t = tellAll T ((vs.drop (k + 1)).flatMap verNames) t2) := by
                refine Ej.out.trans ?_
                rw [List.drop_length]
                rfl
              clear Ej
              go_wp2
              exact ⟨⟨k + 1, t2, by go_num, by omega, Jj, hzj, E1⟩, by simp [intOf]; omega⟩
      · have hkk : k = vs.length := by omega
        subst hkk
        have hfin : tellAll T (vs.flatMap verNames) t = .ok t' := by
          refine E.out.trans ?_
          rw [List.drop_length]
          rfl
        have HF := Hid.mk hfin
        clear E hfin
        go_wp2
        go_end0
        exact Or.inl ⟨t', HF.out, rfl, J.out, hz⟩
end Go.Proofs.YtmbcibgknckenaaGreatDoor
set_option linter.all false
set_option maxRecDepth 100000
set_option maxHeartbeats 4000000
namespace Go.Proofs.YtmbcibgknckenaaGreatDoor
open Go.RowKit
open Go.MapKept
theorem byteOf_run {P : Program} {w : World} {b o s n : Nat} {cs : Array Value} {e : TypeId} {fr : Nat × Nat} (hb : w.heap[b]? = some (.cells cs e fr)) (hs : P.cellsOf e = s) (h0 : s ≠ 0) (hc : byteOfCell P P.depth e (o % s) = some n) :
    (byteOf ⟨b, o, none⟩).run P w = .ok (o / s * P.bytesOf e + n) w := by
  have hsh : w.shape? b = some (e, cs.size) := by simp [World.shape?, hb]
  have hv : (viewAt b).run P w = .ok none w := by simp [viewAt, hsh]
  unfold byteOf
  simp [noView, shape, Sem.run, hv, hsh, hs, h0, hc]
theorem method_none {P : Program} {fuel : Nat} {t st idx xt f o byo : Nat} {name : String} {b s n1 n2 : Nat} {w : World} {cs : Array Value} {e : TypeId} {fr : Nat × Nat} (hb : w.heap[b]? = some (.cells cs e fr)) {i : TypeInfo} (hi : P.info? t = some i) {m : Method} (hm : i.methods.find? (fun m => m.name == name) = some m) (hp : m.path = #[⟨st, idx, true⟩]) (hf : m.func = some (f, false))
    {fields : Array Field} (hu : P.underlying st = some (.struct fields)) {fd : Field} (hfd : fields[idx]? = some fd) (ht : fd.type = xt) (ho : fd.offset = o) (hby : fd.byteOffset = byo) {fs : Array Field} (hx : P.underlying xt = some (.struct fs)) {j : TypeInfo} (hj : P.info? xt = some j) (hz : j.size = 0)
    (hs : P.cellsOf e = s) (h0 : s ≠ 0) (hc : byteOfCell P P.depth e (0 % s) = some n1) (hc2 : byteOfCell P P.depth e (o % s) = some n2) :
    (method (fuel + 1) t (.pointer (some ⟨b, 0, none⟩)) name).run P w = .ok (f, .agg #[]) w := by
  have b1 := byteOf_run (P := P) (o := 0) hb hs h0 hc
  have b2 := byteOf_run (P := P) (o := o) hb hs h0 hc2
  unfold method
  simp only [Sem.run_bind, run_typeInfo _ hi, Result.andThen_ok, hm, hp, hf, follow, run_underlying hu, hfd, Place.get, asAddr, fieldPlace, partAt, sizeOf, ht, run_typeInfo _ hj, Sem.run_pure, if_true, hz, ho, hby, b1, b2, Nat.zero_add, receiverAt, run_underlying hx, loadVar, isAgg]
  rfl
theorem field_byte {P : Program} {st idx : Nat} {t o y : Nat} (h : ((P.underlying st).bind fun d => match d with | .struct fs => fs[idx]? | _ => none).map (fun f => (f.type, f.offset, f.byteOffset)) = some (t, o, y)) :
    ∃ fs fd, P.underlying st = some (.struct fs) ∧ fs[idx]? = some fd ∧ fd.type = t ∧ fd.offset = o ∧ fd.byteOffset = y := by
  cases hu : P.underlying st with
  | none => rw [hu] at h; cases h
  | some d =>
    rw [hu] at h
    simp only [Option.bind_some] at h
    cases d with
    | struct fs =>
      simp only at h
      cases hf : fs[idx]? with
      | none => rw [hf] at h; cases h
      | some fd =>
        rw [hf] at h
        simp only [Option.map_some, Option.some.injEq, Prod.mk.injEq] at h
        exact ⟨fs, fd, rfl, hf, h.1, h.2.1, h.2.2⟩
    | _ => cases h
theorem alone_struct : ∃ fs, Tryz.prog.underlying 203 = some (.struct fs) := by
  have h : (Tryz.prog.underlying 203).map (fun d => match d with | .struct _ => true | _ => false) = some true := by kernel_rfl
  cases hu : Tryz.prog.underlying 203 with
  | none => rw [hu] at h; cases h
  | some d =>
    rw [hu] at h
    cases d with
    | struct fs => exact ⟨fs, rfl⟩
    | _ => cases h
def defNames : DefL → List (List UInt8 × Nat)
  | .const .. => []
  | .typedef d => tyNames d.ty
  | .enum .. => []
  | .struct _ _ ms => ms.flatMap fun d => tyNames d.ty
  | .union _ _ _ arms => arms.flatMap fun d => tyNames d.2.ty
  | .prog _ _ vs _ => vs.flatMap verNames
def defLeads : DefL → List (List UInt8 × Nat)
  | .const .. => []
  | .typedef d => tyLeads d.ty
  | .enum .. => []
  | .struct _ _ ms => ms.flatMap fun d => tyLeads d.ty
  | .union _ _ _ arms => arms.flatMap fun d => tyLeads d.2.ty
  | .prog .. => []
def defNamesF : DefL → Nat
  | .typedef .. => 250
  | .struct .. => 258
  | .union .. => 261
  | .prog .. => 265
  | _ => 245
theorem defNamesF_enters (d : DefL) (args : Array Value) (w : World) : (callFunc (defNamesF d) args).run Tryz.prog w = .ok (.enter (defNamesF d) args) w := by cases d <;> kernel_rfl
def defLeadsF : DefL → Nat
  | .typedef .. => 249
  | .struct .. => 257
  | .union .. => 260
  | .prog .. => 264
  | _ => 244
theorem defLeadsF_enters (d : DefL) (args : Array Value) (w : World) : (callFunc (defLeadsF d) args).run Tryz.prog w = .ok (.enter (defLeadsF d) args) w := by cases d <;> kernel_rfl
def defR (b : Nat) : DefL → Value
  | .const .. => .agg #[]
  | .enum .. => .agg #[]
  | _ => .pointer (some ⟨b, 0, none⟩)
theorem defNames_method {bs : List (Nat × Obj)} {b : Nat} {d : DefL} {w : World} (hd : DefIn bs b d) (hh : ∀ p ∈ bs, w.heap[p.1]? = some p.2) (k : Nat) : (method (k + 1) (defT d) (.pointer (some ⟨b, 0, none⟩)) "Names").run Tryz.prog w = .ok (defNamesF d, defR b d) w := by
  cases d with
  | const t a v =>
    obtain ⟨i, m, r1, r2, r3, r4⟩ := row_parts (P := Tryz.prog) (t := 176) (name := "Names") (p := #[⟨272, 1, true⟩]) (f := some (245, false)) (by kernel_rfl)
    obtain ⟨fs, fd, s1, s2, s3, s4, s5⟩ := field_byte (P := Tryz.prog) (st := 272) (idx := 1) (t := 203) (o := 2) (y := 24) (by kernel_rfl)
    obtain ⟨gs, g1⟩ := alone_struct
    obtain ⟨j, j1, j2⟩ := size_parts (P := Tryz.prog) (t := 203) (n := 0) (by kernel_rfl)
    exact method_none (s := 3) (n1 := 0) (n2 := 24) (hh _ hd) r1 r2 r3 r4 s1 s2 s3 s4 s5 g1 j1 j2 (by kernel_rfl) (by omega) (by kernel_rfl) (by kernel_rfl)
  | enum t a ms =>
    obtain ⟨sl, ps, h1, _⟩ := hd
    obtain ⟨i, m, r1, r2, r3, r4⟩ := row_parts (P := Tryz.prog) (t := 180) (name := "Names") (p := #[⟨206, 1, true⟩]) (f := some (245, false)) (by kernel_rfl)
    obtain ⟨fs, fd, s1, s2, s3, s4, s5⟩ := field_byte (P := Tryz.prog) (st := 206) (idx := 1) (t := 203) (o := 2) (y := 24) (by kernel_rfl)
    obtain ⟨gs, g1⟩ := alone_struct
    obtain ⟨j, j1, j2⟩ := size_parts (P := Tryz.prog) (t := 203) (n := 0) (by kernel_rfl)
    exact method_none (s := 3) (n1 := 0) (n2 := 24) (hh _ h1) r1 r2 r3 r4 s1 s2 s3 s4 s5 g1 j1 j2 (by kernel_rfl) (by omega) (by kernel_rfl) (by kernel_rfl)
  | typedef d => kernel_rfl
  | struct t a ms => kernel_rfl
  | union t a s ar => kernel_rfl
  | prog t a vs n => kernel_rfl
theorem defLeads_method {bs : List (Nat × Obj)} {b : Nat} {d : DefL} {w : World} (hd : DefIn bs b d) (hh : ∀ p ∈ bs, w.heap[p.1]? = some p.2) (k : Nat) : (method (k + 1) (defT d) (.pointer (some ⟨b, 0, none⟩)) "Leads").run Tryz.prog w = .ok (defLeadsF d, defR b d) w := by
  cases d with
  | const t a v =>
    obtain ⟨i, m, r1, r2, r3, r4⟩ := row_parts (P := Tryz.prog) (t := 176) (name := "Leads") (p := #[⟨272, 1, true⟩]) (f := some (244, false)) (by kernel_rfl)
    obtain ⟨fs, fd, s1, s2, s3, s4, s5⟩ := field_byte (P := Tryz.prog) (st := 272) (idx := 1) (t := 203) (o := 2) (y := 24) (by kernel_rfl)
    obtain ⟨gs, g1⟩ := alone_struct
    obtain ⟨j, j1, j2⟩ := size_parts (P := Tryz.prog) (t := 203) (n := 0) (by kernel_rfl)
    exact method_none (s := 3) (n1 := 0) (n2 := 24) (hh _ hd) r1 r2 r3 r4 s1 s2 s3 s4 s5 g1 j1 j2 (by kernel_rfl) (by omega) (by kernel_rfl) (by kernel_rfl)
  | enum t a ms =>
    obtain ⟨sl, ps, h1, _⟩ := hd
    obtain ⟨i, m, r1, r2, r3, r4⟩ := row_parts (P := Tryz.prog) (t := 180) (name := "Leads") (p := #[⟨206, 1, true⟩]) (f := some (244, false)) (by kernel_rfl)
    obtain ⟨fs, fd, s1, s2, s3, s4, s5⟩ := field_byte (P := Tryz.prog) (st := 206) (idx := 1) (t := 203) (o := 2) (y := 24) (by kernel_rfl)
    obtain ⟨gs, g1⟩ := alone_struct
    obtain ⟨j, j1, j2⟩ := size_parts (P := Tryz.prog) (t := 203) (n := 0) (by kernel_rfl)
    exact method_none (s := 3) (n1 := 0) (n2 := 24) (hh _ h1) r1 r2 r3 r4 s1 s2 s3 s4 s5 g1 j1 j2 (by kernel_rfl) (by omega) (by kernel_rfl) (by kernel_rfl)
  | typedef d => kernel_rfl
  | struct t a ms => kernel_rfl
  | union t a s ar => kernel_rfl
  | prog t a vs n => kernel_rfl
theorem progLeads_any {τ : Type} {T : Tell τ} {t : τ} {w : World} (b : Nat) (h : T.J t w) : Calls Tryz.prog 264 #[.pointer (some ⟨b, 0, none⟩), T.v] w (GivesN T w (.ok t)) := by
  go_enter Tryz.func264, Tryz.ntmps264
  go_wp2
  go_end0
  exact Or.inl ⟨t, rfl, rfl, h, Keeps.refl _ _⟩
theorem defNames_any {τ : Type} {T : Tell τ} (hT : Tells T) {bs : List (Nat × Obj)} {b : Nat} {d : DefL} (hok : ∀ n ∈ defNames d, T.ok n) (hd : DefIn bs b d) (hJ : ∀ {t : τ} {u : World}, T.J t u → ∀ p ∈ bs, u.heap[p.1]? = some p.2) {t : τ} {w : World} (h : T.J t w) :
    Calls Tryz.prog (defNamesF d) #[defR b d, T.v] w (GivesN T w (tellAll T (defNames d) t)) := by
  cases d with
  | const t a v => exact aloneNames_any hT h
  | enum t a ms => exact aloneNames_any hT h
  | typedef d => exact typedefNames_any hT hok hd hJ h
  | struct t a ms => exact structNames_any hT hok hd hJ h
  | union t a s ar => exact unionNames_any hT hok hd hJ h
  | prog t a vs n => exact progNames_any hT hok hd hJ h
theorem defLeads_any {τ : Type} {T : Tell τ} (hT : Tells T) {bs : List (Nat × Obj)} {b : Nat} {d : DefL} (hok : ∀ n ∈ defLeads d, T.ok n) (hd : DefIn bs b d) (hJ : ∀ {t : τ} {u : World}, T.J t u → ∀ p ∈ bs, u.heap[p.1]? = some p.2) {t : τ} {w : World} (h : T.J t w) :
    Calls Tryz.prog (defLeadsF d) #[defR b d, T.v] w (GivesN T w (tellAll T (defLeads d) t)) := by
  cases d with
  | const t a v => exact aloneLeads_any hT h
  | enum t a ms => exact aloneLeads_any hT h
  | typedef d => exact typedefLeads_any hT hok hd hJ h
  | struct t a ms => exact structLeads_any hT hok hd hJ h
  | union t a s ar => exact unionLeads_any hT hok hd hJ h
  | prog t a vs n => exact progLeads_any b h
end Go.Proofs.YtmbcibgknckenaaGreatDoor
