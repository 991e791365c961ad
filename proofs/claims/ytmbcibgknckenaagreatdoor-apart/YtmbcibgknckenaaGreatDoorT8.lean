import Derived.Test.YtmbcibgknckenaaGreatDoorT7
set_option linter.all false
set_option maxRecDepth 100000
set_option maxHeartbeats 4000000
namespace Go.Proofs.YtmbcibgknckenaaGreatDoor
open Go.RowKit
open Go.MapKept
theorem mput_map {κ α β : Type} [DecidableEq κ] (f : α → β) (l : List (κ × α)) (k : κ) (v : α) : (mput l k v).map (fun p => (p.1, f p.2)) = mput (l.map fun p => (p.1, f p.2)) k (f v) := by
  have e1 : (l.map fun p => (p.1, f p.2)).map (·.1) = l.map (·.1) := by rw [List.map_map]; rfl
  unfold mput
  rw [e1]
  split
  · rw [List.map_map, List.map_map]
    apply List.map_congr_left
    intro p _
    simp only [Function.comp]
    split <;> rfl
  · simp
theorem mput_mem {κ α : Type} [DecidableEq κ] {l : List (κ × α)} {k : κ} {v : α} {p : κ × α} (h : p ∈ mput l k v) : p ∈ l ∨ p = (k, v) := by
  unfold mput at h
  split at h
  · obtain ⟨q, hq, rfl⟩ := List.mem_map.1 h
    split
    · exact Or.inr rfl
    · exact Or.inl hq
  · rcases List.mem_append.1 h with h | h
    · exact Or.inl h
    · exact Or.inr (by simpa using h)
theorem mlook_mem {κ α : Type} [DecidableEq κ] {l : List (κ × α)} {k : κ} {v : α} (h : mlook l k = some v) : ∃ p ∈ l, p.1 = k ∧ p.2 = v := by
  unfold mlook at h
  rw [Option.map_eq_some_iff] at h
  obtain ⟨p, hp, rfl⟩ := h
  exact ⟨p, List.mem_of_find?_eq_some hp, by simpa using List.find?_some hp, rfl⟩
structure CAd where
  C : Nat
  B : Nat
  E : Nat
def ownC (a : CAd) (sl ks : Value) : List Nat := [a.C, a.B, a.E] ++ (sl.ownBlock.toList ++ ks.ownBlock.toList)
abbrev callC (k : Nat × List UInt8) : List Value := [.int .i64 k.1, .string ⟨k.2.toArray⟩]
def NumV (bs : List (Nat × Obj)) (v : Value) (n : NumL) : Prop := ∃ cs, v = .agg cs.toArray ∧ NumIn bs cs n
structure Cp (w : World) (a : CAd) (Fr bs : List (Nat × Obj)) (s : CSt) (sl ks : Value) (cv : List (StepL × Value)) (et : List (List UInt8 × NumL × Value)) (u : World) : Prop where
  own : Own w (ownC a sl ks) Fr bs u
  box : u.heap[a.C]? = some (.cells #[sl, .map (some a.B), .map (some a.E), ks] 123)
  bod : u.heap[a.B]? = some (placesObj s.bodies)
  bnp : (s.bodies.map (·.1)).Nodup
  enu : u.heap[a.E]? = some (mapObj (et.map fun p => (.string ⟨p.1.toArray⟩, p.2.2)))
  enp : (et.map (·.1)).Nodup
  enl : s.enums = et.map fun p => (p.1, p.2.1)
  ens : ∀ p ∈ et, NumV bs p.2.2 p.2.1
  row : u.ownsRow w.heap.size 226 1 sl s.code.length (cv.map (·.2))
  cod : s.code = cv.map (·.1)
  steps : ∀ p ∈ cv, StepIn bs p.2 p.1
  kro : u.ownsRow w.heap.size 222 2 ks s.calls.length (s.calls.flatMap callC)
def GivesCp (w : World) (a : CAd) (Fr bs : List (Nat × Obj)) (s : CSt) (u : World) : Prop := ∃ bs' sl ks cv et, (∀ p ∈ bs, p ∈ bs') ∧ Cp w a Fr bs' s sl ks cv et u
section
variable {w u u' : World} {a : CAd} {Fr bs : List (Nat × Obj)} {s : CSt} {sl ks : Value} {cv : List (StepL × Value)} {et : List (List UInt8 × NumL × Value)}
theorem Cp.gives (h : Cp w a Fr bs s sl ks cv et u) : GivesCp w a Fr bs s u := ⟨bs, sl, ks, cv, et, fun _ hp => hp, h⟩
theorem ownC_mem (a : CAd) (sl ks : Value) : a.C ∈ ownC a sl ks ∧ a.B ∈ ownC a sl ks ∧ a.E ∈ ownC a sl ks ∧ (∀ g, sl.ownBlock = some g → g ∈ ownC a sl ks) ∧ (∀ g, ks.ownBlock = some g → g ∈ ownC a sl ks) := by
  unfold ownC
  refine ⟨by simp, by simp, by simp, ?_, ?_⟩ <;> (intro g hg; simp [hg])
theorem Cp.distinct (h : Cp w a Fr bs s sl ks cv et u) : a.C ≠ a.B ∧ a.C ≠ a.E ∧ a.B ≠ a.E ∧ (∀ g, sl.ownBlock = some g → g ≠ a.C ∧ g ≠ a.B ∧ g ≠ a.E) ∧ (∀ g, ks.ownBlock = some g → g ≠ a.C ∧ g ≠ a.B ∧ g ≠ a.E ∧ sl.ownBlock ≠ some g) := by
  have hn := h.own.nd
  unfold ownC at hn
  rw [List.nodup_append, List.nodup_append] at hn
  obtain ⟨n1, ⟨n2, n3, n4⟩, n5⟩ := hn
  simp only [List.nodup_cons, List.mem_cons, List.not_mem_nil, not_or, or_false] at n1
  refine ⟨n1.1.1, n1.1.2, n1.2.1, ?_, ?_⟩
  · intro g hg
    refine ⟨fun e => n5 a.C (by simp) g (by simp [hg]) e.symm, fun e => n5 a.B (by simp) g (by simp [hg]) e.symm, fun e => n5 a.E (by simp) g (by simp [hg]) e.symm⟩
  · intro g hg
    refine ⟨fun e => n5 a.C (by simp) g (by simp [hg]) e.symm, fun e => n5 a.B (by simp) g (by simp [hg]) e.symm, fun e => n5 a.E (by simp) g (by simp [hg]) e.symm, fun e => n4 g (by simp [e]) g (by simp [hg]) rfl⟩
theorem Cp.beside {M : List Nat} {Fr' bs' : List (Nat × Obj)} (h : Cp w a Fr bs s sl ks cv et u) (hk : Keeps M u u') (hM : ∀ m ∈ M, m ∉ ownC a sl ks) (hb : ∀ p ∈ bs, p ∈ bs') (ho : Own w (ownC a sl ks) Fr' bs' u') : Cp w a Fr' bs' s sl ks cv et u' := by
  obtain ⟨o1, o2, o3, o4, o5⟩ := ownC_mem a sl ks
  refine ⟨ho, (hk.block _ (lt_of_heap h.box) (fun hm => hM _ hm o1)).trans h.box, (hk.block _ (lt_of_heap h.bod) (fun hm => hM _ hm o2)).trans h.bod, h.bnp, (hk.block _ (lt_of_heap h.enu) (fun hm => hM _ hm o3)).trans h.enu, h.enp, h.enl,
    fun p hp => ?_, owns_keeps h.row hk (fun g hg hm => hM _ hm (o4 g hg)), h.cod, fun p hp => (h.steps p hp).more hb, owns_keeps h.kro hk (fun g hg hm => hM _ hm (o5 g hg))⟩
  obtain ⟨cs, h1, h2⟩ := h.ens p hp
  exact ⟨cs, h1, h2.more hb⟩
theorem Cp.below (h : Cp w a Fr bs s sl ks cv et u) (hb : Below u.heap.size u u') : Cp w a Fr bs s sl ks cv et u' := h.beside (Keeps.of_below [] hb) (by simp) (fun _ hp => hp) (h.own.below hb)
theorem Cp.alloc (h : Cp w a Fr bs s sl ks cv et u) (o : Obj) : Cp w a ((u.heap.size, o) :: Fr) bs s sl ks cv et (u.alloc o) := h.beside ((Keeps.refl [] u).alloc o) (by simp) (fun _ hp => hp) (h.own.alloc o)
theorem Cp.setFr {m : Nat} {o o' : Obj} (h : Cp w a ((m, o) :: Fr) bs s sl ks cv et u) (hk : Keeps [m] u u') (ho : u'.heap[m]? = some o') : Cp w a ((m, o') :: Fr) bs s sl ks cv et u' :=
  h.beside hk (by simpa using (h.own.hf (m, o) (by simp)).2) (fun _ hp => hp) (h.own.setFr hk ho)
theorem Cp.give {m : Nat} {o : Obj} (h : Cp w a ((m, o) :: Fr) bs s sl ks cv et u) : Cp w a Fr ((m, o) :: bs) s sl ks cv et u := h.beside (Keeps.refl [] u) (by simp) (fun _ hp => List.mem_cons_of_mem _ hp) h.own.give
theorem Cp.tail {p : Nat × Obj} (h : Cp w a (p :: Fr) bs s sl ks cv et u) : Cp w a Fr bs s sl ks cv et u := h.beside (Keeps.refl [] u) (by simp) (fun _ hp => hp) h.own.tail
theorem Cp.sub {Fr' : List (Nat × Obj)} (h : Cp w a Fr bs s sl ks cv et u) (hs : ∀ p ∈ Fr', p ∈ Fr) (hn : (Fr'.map (·.1)).Nodup) : Cp w a Fr' bs s sl ks cv et u := h.beside (Keeps.refl [] u) (by simp) (fun _ hp => hp) (h.own.sub hs hn)
theorem Cp.slice (h : Cp w a Fr bs s sl ks cv et u) : ∃ ad cap, sl = .slice ad s.code.length cap := by
  rcases h.row.2 with ⟨rfl, h0⟩ | ⟨g, cap, cur, rfl, _⟩
  · exact ⟨none, 0, by rw [h0]⟩
  · exact ⟨_, _, rfl⟩
theorem Cp.kslice (h : Cp w a Fr bs s sl ks cv et u) : ∃ ad cap, ks = .slice ad s.calls.length cap := by
  rcases h.kro.2 with ⟨rfl, h0⟩ | ⟨g, cap, cur, rfl, _⟩
  · exact ⟨none, 0, by rw [h0]⟩
  · exact ⟨_, _, rfl⟩
theorem Cp.cells (h : Cp w a Fr bs s sl ks cv et u) : u.cell? ⟨a.C, 0, none⟩ = some sl ∧ u.cell? ⟨a.C, 1, none⟩ = some (.map (some a.B)) ∧ u.cell? ⟨a.C, 2, none⟩ = some (.map (some a.E)) ∧ u.cell? ⟨a.C, 3, none⟩ = some ks ∧ (∀ i, u.frozen? ⟨a.C, i, none⟩ = false) ∧ a.C < u.heap.size := by
  refine ⟨?_, ?_, ?_, ?_, ?_, lt_of_heap h.box⟩ <;> simp [World.cell?, World.frozen?, h.box]
theorem Cp.putCode {u2 u3 : World} {g cap : Nat} {x : StepL} {v : Value} (h : Cp w a Fr bs s sl ks cv et u) (hx : StepIn bs v x) (hb : Below u.heap.size u u2)
    (hown : u3.ownsRow w.heap.size 226 1 (.slice (some ⟨g, 0, none⟩) (s.code.length + 1) cap) (s.code.length + 1) (cv.map (·.2) ++ [v]))
    (hg : u2.grownBy u3 sl.ownBlock) (hat : sl.ownBlock = some g ∨ g = u2.heap.size) (hlt : g < u3.heap.size) :
    Cp w a Fr bs (putM x s) (.slice (some ⟨g, 0, none⟩) (s.code.length + 1) cap) ks (cv ++ [(x, v)]) et (u3.setCell ⟨a.C, 0, none⟩ (.slice (some ⟨g, 0, none⟩) (s.code.length + 1) cap)) := by
  obtain ⟨hwg, _⟩ := owns_lt hown (g := g) rfl
  have e2 := h.below hb
  obtain ⟨d1, d2, d3, d4, d5⟩ := h.distinct
  have ho : Own w (ownC a (.slice (some ⟨g, 0, none⟩) (s.code.length + 1) cap) ks) Fr bs u3 := Own.grow (A := [a.C, a.B, a.E]) (B := ks.ownBlock.toList) e2.own hg hat hlt hwg
  have hks : Keeps [a.C] u3 (u3.setCell ⟨a.C, 0, none⟩ (.slice (some ⟨g, 0, none⟩) (s.code.length + 1) cap)) := (Keeps.refl [a.C] u3).setIn (by simp) _
  have hkg := keeps_grown hg
  have rl : ∀ b, b = a.C ∨ b = a.B ∨ b = a.E → b ∉ sl.ownBlock.toList := by
    intro b hb hm
    have := d4 b (by simpa using hm)
    omega
  have rk : ∀ b, ks.ownBlock = some b → b ∉ sl.ownBlock.toList := by
    intro b hb hm
    exact (d5 b hb).2.2.2 (by simpa using hm)
  have ng : g ≠ a.C := by
    have := ho.nd
    simp [ownC, Value.ownBlock] at this
    omega
  refine ⟨ho.turn hks (by simp [ownC]), setBlock (i := 0) ((hkg.block _ (lt_of_heap e2.box) (rl _ (Or.inl rfl))).trans e2.box) _, ?_, h.bnp, ?_, h.enp, h.enl, h.ens, ?_, ?_, ?_, ?_⟩
  · exact (hks.block _ (by have := lt_of_heap e2.bod; have := hg.size; omega) (by simp; omega)).trans ((hkg.block _ (lt_of_heap e2.bod) (rl _ (Or.inr (Or.inl rfl)))).trans e2.bod)
  · exact (hks.block _ (by have := lt_of_heap e2.enu; have := hg.size; omega) (by simp; omega)).trans ((hkg.block _ (lt_of_heap e2.enu) (rl _ (Or.inr (Or.inr rfl)))).trans e2.enu)
  · have := owns_keeps hown hks (by
      intro g' h'
      simp only [Value.ownBlock, Option.some.injEq] at h'
      subst h'
      simpa using ng)
    simpa [putM] using this
  · simp [putM, h.cod]
  · intro p hp
    rcases List.mem_append.1 hp with hp | hp
    · exact h.steps p hp
    · simp only [List.mem_singleton] at hp
      subst hp
      exact hx
  · exact owns_keeps (owns_keeps e2.kro hkg rk) hks (fun g' h' => by simpa using (d5 g' h').1)
theorem Cp.putCall {u2 u3 : World} {g cap : Nat} {k : Nat × List UInt8} (h : Cp w a Fr bs s sl ks cv et u) (hb : Below u.heap.size u u2)
    (hown : u3.ownsRow w.heap.size 222 2 (.slice (some ⟨g, 0, none⟩) (s.calls.length + 1) cap) (s.calls.length + 1) (s.calls.flatMap callC ++ callC k))
    (hg : u2.grownBy u3 ks.ownBlock) (hat : ks.ownBlock = some g ∨ g = u2.heap.size) (hlt : g < u3.heap.size) :
    Cp w a Fr bs { s with calls := s.calls ++ [k] } sl (.slice (some ⟨g, 0, none⟩) (s.calls.length + 1) cap) cv et (u3.setCell ⟨a.C, 3, none⟩ (.slice (some ⟨g, 0, none⟩) (s.calls.length + 1) cap)) := by
  obtain ⟨hwg, _⟩ := owns_lt hown (g := g) rfl
  have e2 := h.below hb
  obtain ⟨d1, d2, d3, d4, d5⟩ := h.distinct
  have ho : Own w (ownC a sl (.slice (some ⟨g, 0, none⟩) (s.calls.length + 1) cap)) Fr bs u3 := by
    have h1 := Own.grow (A := [a.C, a.B, a.E] ++ sl.ownBlock.toList) (B := []) (r := ks.ownBlock) (by simpa [ownC, List.append_assoc] using e2.own) hg hat hlt hwg
    simpa [ownC, Value.ownBlock, List.append_assoc] using h1
  have hks : Keeps [a.C] u3 (u3.setCell ⟨a.C, 3, none⟩ (.slice (some ⟨g, 0, none⟩) (s.calls.length + 1) cap)) := (Keeps.refl [a.C] u3).setIn (by simp) _
  have hkg := keeps_grown hg
  have rl : ∀ b, b = a.C ∨ b = a.B ∨ b = a.E → b ∉ ks.ownBlock.toList := by
    intro b hb hm
    have := d5 b (by simpa using hm)
    omega
  have rk : ∀ b, sl.ownBlock = some b → b ∉ ks.ownBlock.toList := by
    intro b hb hm
    exact (d5 b (by simpa using hm)).2.2.2 hb
  have ng : g ≠ a.C := by
    rcases hat with hr | hr
    · exact (d5 g hr).1
    · have := lt_of_heap e2.box
      omega
  refine ⟨ho.turn hks (by simp [ownC]), setBlock (i := 3) ((hkg.block _ (lt_of_heap e2.box) (rl _ (Or.inl rfl))).trans e2.box) _, ?_, h.bnp, ?_, h.enp, h.enl, h.ens, ?_, h.cod, h.steps, ?_⟩
  · exact (hks.block _ (by have := lt_of_heap e2.bod; have := hg.size; omega) (by simp; omega)).trans ((hkg.block _ (lt_of_heap e2.bod) (rl _ (Or.inr (Or.inl rfl)))).trans e2.bod)
  · exact (hks.block _ (by have := lt_of_heap e2.enu; have := hg.size; omega) (by simp; omega)).trans ((hkg.block _ (lt_of_heap e2.enu) (rl _ (Or.inr (Or.inr rfl)))).trans e2.enu)
  · exact owns_keeps (owns_keeps e2.row hkg rk) hks (fun g' h' => by simpa using (d4 g' h').1)
  · have := owns_keeps hown hks (by
      intro g' h'
      simp only [Value.ownBlock, Option.some.injEq] at h'
      subst h'
      simpa using ng)
    simpa using this
theorem Cp.setCode {i : Nat} {x : StepL} {v : Value} (h : Cp w a Fr bs s sl ks cv et u) (hx : StepIn bs v x) (hi : i < s.code.length) :
    ∃ g cap, sl = .slice (some ⟨g, 0, none⟩) s.code.length cap ∧ s.code.length ≤ cap ∧ u.frozen? ⟨g, i, none⟩ = false ∧ (∃ y, u.cell? ⟨g, i, none⟩ = some y) ∧ g < u.heap.size ∧ Cp w a Fr bs (setM i x s) sl ks (cv.set i (x, v)) et (u.setCell ⟨g, i, none⟩ v) := by
  obtain ⟨d1, d2, d3, d4, d5⟩ := h.distinct
  rcases h.row.2 with ⟨rfl, h0⟩ | ⟨g, cap, cur, rfl, h2, h3, h4, h5, h6, h7⟩
  · omega
  · have hm : g ∈ ownC a (.slice (some ⟨g, 0, none⟩) s.code.length cap) ks := by simp [ownC, Value.ownBlock]
    have hks : Keeps [g] u (u.setCell ⟨g, i, none⟩ v) := (Keeps.refl [g] u).setIn (by simp) _
    obtain ⟨e1, e2, e3⟩ := d4 g rfl
    refine ⟨g, cap, rfl, h4, by simp [World.frozen?, h3], ⟨cur[i]'(by omega), ?_⟩, lt_of_heap h3, h.own.turn hks (by simpa using hm), ?_, ?_, h.bnp, ?_, h.enp, h.enl, h.ens, ⟨?_, Or.inr ⟨g, cap, cur.setIfInBounds i v, ?_, h2, setBlock h3 v, ?_, h5, ?_, ?_⟩⟩, ?_, ?_, ?_⟩
    · simp [World.cell?, h3]
    · exact (hks.block _ (lt_of_heap h.box) (by simp; omega)).trans h.box
    · exact (hks.block _ (lt_of_heap h.bod) (by simp; omega)).trans h.bod
    · exact (hks.block _ (lt_of_heap h.enu) (by simp; omega)).trans h.enu
    · have := h.row.1
      simpa [setM] using this
    · simp [setM]
    · simpa [setM] using h4
    · simpa using h6
    · simp only [setM, List.length_set, Array.toList_setIfInBounds]
      rw [List.take_set, h7]
      simp [List.map_set]
    · simp [setM, h.cod, List.map_set]
    · intro p hp
      rcases List.mem_or_eq_of_mem_set hp with hp | rfl
      · exact h.steps p hp
      · exact hx
    · exact owns_keeps h.kro hks (fun g' h' => by
        have := (d5 g' h').2.2.2
        intro hm
        simp at hm
        subst hm
        exact this rfl)
theorem Cp.putBody (h : Cp w a Fr bs s sl ks cv et u) (n : List UInt8) (at' : Nat) :
    (Instr.mapUpdate 64 (.map (some a.B)) (.string ⟨n.toArray⟩) (.int .i64 at')).run Tryz.prog u = .ok () (putObj u a.B (placesObj (mput s.bodies n at'))) ∧
    Cp w a Fr bs { s with bodies := mput s.bodies n at' } sl ks cv et (putObj u a.B (placesObj (mput s.bodies n at'))) := by
  obtain ⟨d1, d2, d3, d4, d5⟩ := h.distinct
  have hks := putObj_keeps u a.B (placesObj (mput s.bodies n at'))
  refine ⟨mapObj_put (P := Tryz.prog) (T := 64) (kt := 9) (et := 3) (d := .string) (by kernel_rfl) (by kernel_rfl) (fun k : List UInt8 => .string ⟨k.toArray⟩) (fun k : Nat => .int .i64 k) (fun _ => trivial) (fun _ => stays_string _) string_inj h.bod h.bnp n at', ?_⟩
  refine ⟨h.own.turn hks (by simp [ownC]), ?_, putObj_at (lt_of_heap h.bod) _, mput_nodup h.bnp _ _, ?_, h.enp, h.enl, h.ens, owns_keeps h.row hks ?_, h.cod, h.steps, owns_keeps h.kro hks ?_⟩
  · exact (hks.block _ (lt_of_heap h.box) (by simp; omega)).trans h.box
  · exact (hks.block _ (lt_of_heap h.enu) (by simp; omega)).trans h.enu
  · intro g hg
    simpa using (d4 g hg).2.1
  · intro g hg
    simpa using (d5 g hg).2.1
theorem Cp.lookBody (h : Cp w a Fr bs s sl ks cv et u) (n : List UInt8) (c : Bool) :
    (Instr.lookup 64 (.map (some a.B)) (.string ⟨n.toArray⟩) c).run Tryz.prog u = .ok (match look s.bodies n with
      | some v => if c then .tuple #[.int .i64 v, .bool true] else .int .i64 v
      | none => if c then .tuple #[.int .i64 0, .bool false] else .int .i64 0) u := by
  rw [look_mlook]
  have hh := mapObj_look (P := Tryz.prog) (T := 64) (kt := 9) (et := 3) (d := .string) (by kernel_rfl) (by kernel_rfl) (fun k : List UInt8 => .string ⟨k.toArray⟩) (fun k : Nat => .int .i64 k) (fun _ => trivial) string_inj h.bod h.bnp (z := .int .i64 0) (by kernel_rfl) n c
  cases hm : mlook s.bodies n with
  | none => rw [hm] at hh; exact hh
  | some v => rw [hm] at hh; exact hh
theorem Cp.putEnum {v : Value} {x : NumL} (h : Cp w a Fr bs s sl ks cv et u) (hx : NumV bs v x) (n : List UInt8) :
    ∃ o, (Instr.mapUpdate 120 (.map (some a.E)) (.string ⟨n.toArray⟩) v).run Tryz.prog u = .ok () (putObj u a.E o) ∧
    Cp w a Fr bs { s with enums := mput s.enums n x } sl ks cv (mput et n (x, v)) (putObj u a.E o) := by
  obtain ⟨d1, d2, d3, d4, d5⟩ := h.distinct
  have hrun := mapObj_put (P := Tryz.prog) (T := 120) (kt := 9) (et := 200) (d := .string) (by kernel_rfl) (by kernel_rfl) (fun k : List UInt8 => .string ⟨k.toArray⟩) (fun k : NumL × Value => k.2) (fun _ => trivial) (fun _ => stays_string _) string_inj h.enu h.enp n (x, v)
  refine ⟨_, hrun, ?_⟩
  have hks := putObj_keeps u a.E (mapObj ((mput et n (x, v)).map fun p => (.string ⟨p.1.toArray⟩, p.2.2)))
  refine ⟨h.own.turn hks (by simp [ownC]), ?_, ?_, h.bnp, putObj_at (lt_of_heap h.enu) _, mput_nodup h.enp _ _, ?_, ?_, owns_keeps h.row hks ?_, h.cod, h.steps, owns_keeps h.kro hks ?_⟩
  · exact (hks.block _ (lt_of_heap h.box) (by simp; omega)).trans h.box
  · exact (hks.block _ (lt_of_heap h.bod) (by simp; omega)).trans h.bod
  · show mput s.enums n x = _
    rw [h.enl]
    exact (mput_map (fun q : NumL × Value => q.1) et n (x, v)).symm
  · intro p hp
    rcases mput_mem hp with hp | rfl
    · exact h.ens p hp
    · exact hx
  · intro g hg
    simpa using (d4 g hg).2.2
  · intro g hg
    simpa using (d5 g hg).2.2.1
theorem Cp.lookEnum (h : Cp w a Fr bs s sl ks cv et u) (n : List UInt8) : ∃ v, (Instr.lookup 120 (.map (some a.E)) (.string ⟨n.toArray⟩) false).run Tryz.prog u = .ok v u ∧ NumV bs v ((look s.enums n).getD zeroNum) := by
  have hrun := mapObj_look (P := Tryz.prog) (w := u) (T := 120) (kt := 9) (et := 200) (d := .string) (by kernel_rfl) (by kernel_rfl) (fun k : List UInt8 => .string ⟨k.toArray⟩) (fun k : NumL × Value => k.2) (fun _ => trivial) string_inj h.enu h.enp (z := .agg #[.int .i64 0, .int .i64 0, .slice none 0 0, .bool false]) (by kernel_rfl) n false
  refine ⟨_, hrun, ?_⟩
  have hzero : NumV bs (.agg #[.int .i64 0, .int .i64 0, .slice none 0 0, .bool false]) zeroNum := ⟨[.int .i64 0, .int .i64 0, .slice none 0 0, .bool false], rfl, _, rfl, rfl, _, _, _, rfl⟩
  have hl : look s.enums n = (mlook et n).map (·.1) := by
    rw [look_mlook, h.enl]
    unfold mlook
    rw [List.find?_map]
    simp only [Option.map_map]
    rfl
  rw [hl]
  cases hm : mlook et n with
  | none => simpa using hzero
  | some q =>
    obtain ⟨p, hp, _, rfl⟩ := mlook_mem hm
    simpa using h.ens p hp
end
end Go.Proofs.YtmbcibgknckenaaGreatDoor
set_option linter.all false
set_option maxRecDepth 100000
set_option maxHeartbeats 4000000
namespace Go.Proofs.YtmbcibgknckenaaGreatDoor
open Go.RowKit
open Go.MapKept
def Yld {α : Type} (Q : α → Prop) (m : PM α) : Prop := ∀ σ a σ', m σ = .ok (a, σ') → Q a
def YldX {τ α : Type} (Q : α → Prop) (m : PX τ α) : Prop := ∀ t σ a t' σ', m t σ = .ok (a, t', σ') → Q a
def InvX {τ α : Type} (I : τ → Prop) (m : PX τ α) : Prop := ∀ t σ a t' σ', I t → m t σ = .ok (a, t', σ') → I t'
theorem yld_ret {α : Type} {Q : α → Prop} {a : α} (h : Q a) : Yld Q (ret a) := by
  intro σ b σ' hx
  simp only [ret] at hx
  cases hx
  exact h
theorem yld_thr {α : Type} {Q : α → Prop} (n k : Nat) : Yld Q (thr n k) := by
  intro σ b σ' hx
  simp only [thr] at hx
  cases hx
theorem yld_bnd {α β : Type} {Q : β → Prop} {R : α → Prop} {m : PM α} {f : α → PM β} (hm : Yld R m) (hf : ∀ a, R a → Yld Q (f a)) : Yld Q (bnd m f) := by
  intro σ b σ' h
  cases hx : m σ with
  | error e => rw [bnd_err hx] at h; cases h
  | ok p => obtain ⟨a, σ1⟩ := p; rw [bnd_ok hx] at h; exact hf a (hm _ _ _ hx) _ _ _ h
theorem yld_any {α : Type} (m : PM α) : Yld (fun _ => True) m := fun _ _ _ _ => trivial
theorem yld_then {α β : Type} {Q : β → Prop} {m : PM α} {f : α → PM β} (hf : ∀ a, Yld Q (f a)) : Yld Q (bnd m f) := yld_bnd (yld_any m) fun a _ => hf a
theorem yld_ite {α : Type} {Q : α → Prop} {c : Bool} {a b : PM α} (ha : Yld Q a) (hb : Yld Q b) : Yld Q (if c then a else b) := by cases c <;> assumption
theorem yldx_ret {τ α : Type} {Q : α → Prop} {a : α} (h : Q a) : YldX Q (retx (τ := τ) a) := by
  intro t σ b t' σ' hx
  simp only [retx] at hx
  cases hx
  exact h
theorem yldx_lift {τ α : Type} {Q : α → Prop} {m : PM α} (h : Yld Q m) : YldX Q (lift (τ := τ) m) := by
  intro t σ b t' σ' hx
  cases hm : m σ with
  | error e => rw [lift_err hm] at hx; cases hx
  | ok p => obtain ⟨a, σ1⟩ := p; rw [lift_ok hm] at hx; cases hx; exact h _ _ _ hm
theorem yldx_bnd {τ α β : Type} {Q : β → Prop} {R : α → Prop} {m : PX τ α} {f : α → PX τ β} (hm : YldX R m) (hf : ∀ a, R a → YldX Q (f a)) : YldX Q (bndx m f) := by
  intro t σ b t' σ' h
  cases hx : m t σ with
  | error e => rw [bndx_err hx] at h; cases h
  | ok p => obtain ⟨a, t1, σ1⟩ := p; rw [bndx_ok hx] at h; exact hf a (hm _ _ _ _ _ hx) _ _ _ _ _ h
theorem yldx_any {τ α : Type} (m : PX τ α) : YldX (fun _ => True) m := fun _ _ _ _ _ _ => trivial
theorem yldx_then {τ α β : Type} {Q : β → Prop} {m : PX τ α} {f : α → PX τ β} (hf : ∀ a, YldX Q (f a)) : YldX Q (bndx m f) := yldx_bnd (yldx_any m) fun a _ => hf a
theorem yldx_ite {τ α : Type} {Q : α → Prop} {c : Bool} {a b : PX τ α} (ha : YldX Q a) (hb : YldX Q b) : YldX Q (if c then a else b) := by cases c <;> assumption
theorem yldx_onL {τ ρ α : Type} {Q : α → Prop} {m : PX τ α} (h : YldX Q m) : YldX Q (onL (ρ := ρ) m) := by
  rintro ⟨t, r⟩ σ a t' σ' hx
  cases hm : m t σ with
  | error e => rw [onL_err hm] at hx; cases hx
  | ok p => obtain ⟨b, t1, σ1⟩ := p; rw [onL_ok hm] at hx; cases hx; exact h _ _ _ _ _ hm
theorem invx_bnd {τ α β : Type} {I : τ → Prop} {m : PX τ α} {f : α → PX τ β} (hm : InvX I m) (hf : ∀ a, InvX I (f a)) : InvX I (bndx m f) := by
  intro t σ b t' σ' hi h
  cases hx : m t σ with
  | error e => rw [bndx_err hx] at h; cases h
  | ok p => obtain ⟨a, t1, σ1⟩ := p; rw [bndx_ok hx] at h; exact hf a _ _ _ _ _ (hm _ _ _ _ _ hi hx) h
theorem invx_lift {τ α : Type} {I : τ → Prop} (m : PM α) : InvX I (lift (τ := τ) m) := by
  intro t σ b t' σ' hi hx
  cases hm : m σ with
  | error e => rw [lift_err hm] at hx; cases hx
  | ok p => obtain ⟨a, σ1⟩ := p; rw [lift_ok hm] at hx; cases hx; exact hi
theorem invx_ret {τ α : Type} {I : τ → Prop} (a : α) : InvX I (retx (τ := τ) a) := by
  intro t σ b t' σ' hi hx
  simp only [retx] at hx
  cases hx
  exact hi
theorem invx_blockF {τ : Type} {I : τ → Prop} (text : ByteArray) (most : Nat) {run : PX τ Unit} (h : InvX I run) : ∀ (k n : Nat), InvX I (blockF text most run k n) := by
  intro k
  induction k with
  | zero => intro n; exact invx_lift _
  | succ k ih =>
    intro n
    unfold blockF
    refine invx_bnd ?_ fun y => ?_
    · split
      · exact invx_ret _
      · exact invx_lift _
    · cases y
      · exact invx_bnd (invx_lift _) fun x => invx_bnd (invx_lift _) fun _ => invx_bnd h fun _ => ih _
      · exact invx_ret _
theorem invx_block {τ : Type} {I : τ → Prop} (text : ByteArray) (most : Nat) {run : PX τ Unit} (h : InvX I run) : InvX I (block text most run) := by
  unfold block
  exact invx_bnd (invx_lift _) fun _ => invx_blockF text most h _ _
theorem yld_runx {τ : Type} {I : τ → Prop} {m : PX τ Unit} (h : InvX I m) {t : τ} (ht : I t) : Yld I (runx m t) := by
  intro σ a σ' hx
  cases hm : m t σ with
  | error e => rw [runx_err hm] at hx; cases hx
  | ok p => obtain ⟨b, t1, σ1⟩ := p; rw [runx_ok hm] at hx; cases hx; exact h _ _ _ _ _ ht hm
theorem yld_runy {τ α : Type} {Q : α → Prop} {m : PX τ α} (h : YldX Q m) (t : τ) : Yld (fun p => Q p.1) (runy m t) := by
  intro σ a σ' hx
  cases hm : m t σ with
  | error e => rw [runy_err hm] at hx; cases hx
  | ok p => obtain ⟨b, t1, σ1⟩ := p; rw [runy_ok hm] at hx; cases hx; exact h _ _ _ _ _ hm
theorem yld_bare {α : Type} {Q : α → Prop} {m : PX Unit α} (h : YldX Q m) : Yld Q (bare m) := by
  intro σ a σ' hx
  cases hm : m () σ with
  | error e => rw [bare_err hm] at hx; cases hx
  | ok p => obtain ⟨b, t1, σ1⟩ := p; rw [bare_ok hm] at hx; cases hx; exact h _ _ _ _ _ hm
def Simple : Ty → Prop
  | .plain k => k ≤ 4
  | .named _ _ => True
  | _ => False
def DeclTy : Ty → Prop
  | .plain k => k ≤ 4
  | .named _ _ => True
  | .opaq _ _ => True
  | .str _ _ => True
  | .arr o _ _ => Simple o
  | .opt o => Simple o
  | .void => False
def ArmTy (t : Ty) : Prop := DeclTy t ∨ t = .void
theorem Simple.flat {t : Ty} (h : Simple t) : Flat t := by cases t <;> simp [Simple, Flat] at *
theorem Simple.decl {t : Ty} (h : Simple t) : DeclTy t := by cases t <;> simp [Simple, DeclTy] at * <;> exact h
theorem DeclTy.deep {t : Ty} (h : DeclTy t) : OneDeep t := by
  cases t with
  | arr o n f => exact Simple.flat h
  | opt o => exact Simple.flat h
  | _ => trivial
theorem ArmTy.deep {t : Ty} (h : ArmTy t) : OneDeep t := by
  rcases h with h | rfl
  · exact h.deep
  · trivial
theorem yld_typeWord (text : ByteArray) : Yld Simple (typeWord text) := by
  unfold typeWord
  refine yld_then fun x => ?_
  unfold typeWordK
  refine yld_ite (yld_ret trivial) (yld_ite (yld_ret (by simp [Simple])) (yld_ite (yld_ret (by simp [Simple])) (yld_ite (yld_ret (by simp [Simple])) (yld_ite ?_ (yld_thr _ _)))))
  exact yld_then fun y => yld_ite (yld_ret (by simp [Simple])) (yld_then fun _ => yld_ret (by simp [Simple]))
theorem yld_selector (text : ByteArray) : Yld (fun q : Ty × (Int → Bool) => Simple q.1) (selector text) := by
  unfold selector
  refine yld_then fun x => ?_
  unfold selK
  exact yld_ite (yld_then fun _ => yld_ret trivial) (yld_ite (yld_ret (by simp [Simple])) (yld_ite (yld_then fun _ => yld_ret (by simp [Simple])) (yld_ite (yld_ret (by simp [Simple])) (yld_thr _ _))))
theorem yld_decl {τ : Type} (text : ByteArray) (C : Claim τ) : YldX (fun d => DeclTy d.ty) (decl text C) := by
  unfold decl
  refine yldx_then fun y => ?_
  unfold declA1
  refine yldx_ite (yldx_then fun n => yldx_then fun q => yldx_ret trivial) (yldx_then fun y => ?_)
  unfold declA2
  refine yldx_ite (yldx_then fun n => yldx_then fun q => yldx_ret trivial) (yldx_bnd (yldx_lift (yld_typeWord text)) fun ty hty => ?_)
  unfold declA3
  refine yldx_then fun y => ?_
  unfold declB
  refine yldx_ite (yldx_then fun n => yldx_ret hty) (yldx_then fun n => ?_)
  unfold declC0
  refine yldx_then fun y => ?_
  unfold declC1
  have hD : YldX (τ := τ) (fun d => DeclTy d.ty) (declD text n ty) := by
    unfold declD
    exact yldx_then fun q => yldx_ret hty
  refine yldx_ite hD (yldx_then fun z => ?_)
  unfold declC2
  exact yldx_ite hD (yldx_ret hty.decl)
theorem yld_arm {τ : Type} (text : ByteArray) (C : Claim τ) : YldX (fun d => ArmTy d.ty) (arm text C) := by
  unfold arm
  refine yldx_bnd (R := fun d => ArmTy d.ty) (yldx_then fun y => ?_) fun d hd => yldx_then fun _ => yldx_ret hd
  unfold armK
  refine yldx_ite (yldx_ret (Or.inr rfl)) ?_
  intro t σ a t' σ' h
  exact Or.inl (yld_decl text C t σ a t' σ' h)
def ArmsTy (rs : Arms) : Prop := ∀ a ∈ rs, ArmTy a.2.ty
theorem ArmsTy.snoc {rs : Arms} (h : ArmsTy rs) {cs : List Int} {d : DeclL} (hd : ArmTy d.ty) : ArmsTy (rs ++ [(cs, d)]) := by
  intro a ha
  rcases List.mem_append.1 ha with ha | ha
  · exact h a ha
  · simp only [List.mem_singleton] at ha
    subst ha
    exact hd
theorem yld_armsEnd (text : ByteArray) {rs : Arms} (h : ArmsTy rs) : YldX ArmsTy (armsEnd text rs) := by
  unfold armsEnd
  exact yldx_then fun y => yldx_ite (yldx_then fun _ => yldx_bnd (yldx_onL (yld_arm _ _)) fun d hd => yldx_ret (h.snoc hd)) (yldx_ret h)
theorem yld_armsF (text : ByteArray) (p : Int → Bool) : ∀ (k : Nat) {rs : Arms}, ArmsTy rs → YldX ArmsTy (armsF text p k rs) := by
  intro k
  induction k with
  | zero => intro rs _; exact yldx_lift (yld_thr _ _)
  | succ k ih =>
    intro rs h
    unfold armsF
    exact yldx_then fun cs => yldx_bnd (yldx_onL (yld_arm _ _)) fun d hd => yldx_then fun y => yldx_ite (ih (h.snoc hd)) (yld_armsEnd text (h.snoc hd))
def DefTy : DefL → Prop
  | .typedef d => DeclTy d.ty
  | .struct _ _ ms => ∀ m ∈ ms, DeclTy m.ty
  | .union _ _ sel arms => Simple sel.ty ∧ ArmsTy arms
  | _ => True
theorem yld_members (text : ByteArray) (n : List UInt8 × Nat) : ∀ (k : Nat) (ms : List (List UInt8 × Nat × Int)) (l : List (Int × Int)), Yld DefTy (members text n k ms l) := by
  intro k
  induction k with
  | zero => intro ms l; exact yld_thr _ _
  | succ k ih =>
    intro ms l σ d σ' h
    cases hm : member text ms.length l σ with
    | error f => rw [members_err hm] at h; cases h
    | ok p =>
      obtain ⟨m, l', σ1⟩ := p
      rw [members_ok hm] at h
      refine yld_then (Q := DefTy) (fun y => yld_ite (ih _ _) ?_) _ _ _ h
      unfold enumEnd
      exact yld_then fun _ => yld_then fun _ => yld_ret trivial
theorem yld_definition (text : ByteArray) : Yld DefTy (definition text) := by
  unfold definition
  refine yld_then fun x => ?_
  unfold defK
  refine yld_ite ?_ (yld_ite ?_ (yld_ite ?_ (yld_ite ?_ (yld_ite ?_ (yld_ite ?_ (yld_thr _ _))))))
  · unfold constant
    exact yld_then fun _ => yld_then fun n => yld_then fun _ => yld_then fun _ => yld_then fun _ => yld_ret trivial
  · unfold typedef
    exact yld_then fun _ => yld_bnd (yld_bare (yld_decl _ _)) fun d hd => yld_then fun _ => yld_ret hd
  · unfold enumeration
    exact yld_then fun _ => yld_then fun n => yld_then fun _ => yld_members _ _ _ _ _
  · unfold structureP
    refine yld_then fun _ => yld_then fun n => yld_bnd (yld_runx (I := fun p : List DeclL × List (List UInt8) => ∀ m ∈ p.1, DeclTy m.ty) (invx_block _ _ ?_) (by simp)) fun p hp => yld_then fun _ => yld_ret hp
    rintro ⟨ds, t⟩ σ a t' σ' hi h
    cases hd : decl text (amongC 0 0) t σ with
    | error f => rw [stPiece_err hd] at h; cases h
    | ok q =>
      obtain ⟨d, t1, σ1⟩ := q
      rw [stPiece_ok hd] at h
      refine invx_bnd (I := fun p : List DeclL × List (List UInt8) => ∀ m ∈ p.1, DeclTy m.ty) (invx_lift _) (fun _ => invx_ret ()) _ _ _ _ _ ?_ h
      intro m hm
      rcases List.mem_append.1 hm with hm | hm
      · exact hi m hm
      · simp only [List.mem_singleton] at hm
        subst hm
        exact yld_decl _ _ _ _ _ _ _ hd
  · unfold unionP
    refine yld_then fun _ => yld_then fun n => ?_
    unfold unionK2
    refine yld_then fun _ => yld_then fun _ => yld_bnd (yld_selector text) fun q hq => ?_
    unfold unionK3
    refine yld_then fun m => ?_
    unfold unionK4
    refine yld_then fun _ => yld_then fun _ => yld_bnd (yld_runy (yld_armsF text q.2 13 (rs := []) (by intro a ha; cases ha)) _) fun r hr => ?_
    unfold unionK5 unionEnd
    exact yld_then fun _ => yld_then fun _ => yld_ret ⟨hq, hr⟩
  · unfold programP
    refine yld_then fun _ => yld_then fun n => ?_
    unfold programK
    exact yld_then fun _ => yld_then fun _ => yld_ret trivial
def DefsTy (ds : List DefL) : Prop := ∀ d ∈ ds, DefTy d
theorem yld_textF (text : ByteArray) : ∀ (k : Nat) {ds : List DefL}, DefsTy ds → Yld DefsTy (textF text k ds) := by
  intro k
  induction k with
  | zero => intro ds _; exact yld_thr _ _
  | succ k ih =>
    intro ds h
    unfold textF
    refine yld_then fun x => yld_ite (yld_ret h) (yld_bnd (yld_definition text) fun d hd => yld_then fun _ => ih ?_)
    intro e he
    rcases List.mem_append.1 he with he | he
    · exact h e he
    · simp only [List.mem_singleton] at he
      subst he
      exact hd
theorem textP_types {text : ByteArray} {ds : List DefL} (h : textP text = .ok ds) : DefsTy ds := by
  unfold textP at h
  split at h
  · cases h
  · cases hf : textF text 69 [] st0 with
    | error f => rw [hf] at h; cases h
    | ok p =>
      obtain ⟨ds', σ⟩ := p
      rw [hf] at h
      simp only at h
      have hd := yld_textF text 69 (ds := []) (by intro d hd; cases hd) _ _ _ hf
      split at h
      · cases h
      · split at h
        · cases h
        · cases h
          exact hd
def tyCost : Ty → Nat
  | .arr o _ _ => tyCost o + 2
  | .opt o => tyCost o + 1
  | .void => 0
  | _ => 1
theorem valueM_len (t : Ty) : ∀ s, (valueM t s).code.length = s.code.length + tyCost t := by
  induction t with
  | arr o n f ih => intro s; simp [valueM, setM, putM, tyCost, ih]; omega
  | opt o ih => intro s; simp [valueM, setM, putM, tyCost, ih]; omega
  | _ => intro s; simp [valueM, putM, callM, tyCost]
theorem cost_le {t : Ty} (h : OneDeep t) : tyCost t ≤ 3 := by
  cases t with
  | arr o n f => cases o <;> simp [OneDeep, Flat, tyCost] at *
  | opt o => cases o <;> simp [OneDeep, Flat, tyCost] at *
  | _ => simp [tyCost]
end Go.Proofs.YtmbcibgknckenaaGreatDoor
set_option linter.all false
set_option maxRecDepth 100000
set_option maxHeartbeats 4000000
namespace Go.Proofs.YtmbcibgknckenaaGreatDoor
structure Wk (τ : Type) where
  enter : Nat → τ → Except Mar.Fault τ
  num : NumL → τ → Except Mar.Fault τ
  text : Int → Bool → τ → Except Mar.Fault τ
  list : Int → Bool → τ → Except Mar.Fault (Nat × τ)
  arm : NumL → (Int → Option Nat) → τ → Except Mar.Fault (Int × τ)
def NumL.has (n : NumL) (k : Int) : Bool := decide (n.low ≤ k) && decide (k ≤ n.high) && (match n.mem with | none => true | some l => l.contains k)
def wayL (n : NumL) (ws : List (Int × Nat × Nat)) (o : Option (Nat × Nat)) (k : Int) : Option (Nat × Nat) := if n.has k then (match mlook ws k with | some q => some q | none => o) else none
structure MSt where
  next : Nat
  calls : List Nat
  rounds : List (Nat × Nat)
section
variable {τ : Type}
def stepM (W : Wk τ) (x : StepL) (m : MSt) (d : τ) : Option (Except Mar.Fault (MSt × τ)) :=
  match x with
  | .hole => none
  | .fin => none
  | .call dest => if 1000 ≤ m.calls.length then none else some (match W.enter m.calls.length d with
    | .ok d' => .ok ({ m with next := dest, calls := m.next :: m.calls }, d')
    | .error f => .error f)
  | .ret => match m.calls with
    | [] => none
    | k :: ks => some (.ok ({ m with next := k, calls := ks }, d))
  | .jump dest => some (.ok ({ m with next := dest }, d))
  | .num n => some (match W.num n d with
    | .ok d' => .ok (m, d')
    | .error f => .error f)
  | .text n b => some (match W.text n b d with
    | .ok d' => .ok (m, d')
    | .error f => .error f)
  | .struct n b => some (match W.list n b d with
    | .ok (_, d') => .ok (m, d')
    | .error f => .error f)
  | .array n b dest => if 1000 ≤ m.rounds.length then none else some (match W.list n b d with
    | .ok (0, d') => .ok ({ m with next := dest }, d')
    | .ok (k + 1, d') => .ok ({ m with rounds := (m.next, k + 1) :: m.rounds }, d')
    | .error f => .error f)
  | .again => match m.rounds with
    | [] => none
    | (from', left) :: rs => some (.ok (if 1 < left then { m with next := from', rounds := (from', left - 1) :: rs } else { m with rounds := rs }, d))
  | .choice n ws o => match W.arm n (fun k => (wayL n ws o k).map (·.2)) d with
    | .ok (k, d') => match wayL n ws o k with
      | some q => some (.ok ({ m with next := q.1 }, d'))
      | none => none
    | .error f => some (.error f)
def runN (W : Wk τ) (c : List StepL) : Nat → MSt → τ → Option (Except Mar.Fault τ)
  | 0, _, _ => none
  | n + 1, m, d => match c[m.next]? with
    | none => none
    | some .fin => some (.ok d)
    | some x => match stepM W x { m with next := m.next + 1 } d with
      | none => none
      | some (.error f) => some (.error f)
      | some (.ok (m', d')) => runN W c n m' d'
def Leads (W : Wk τ) (c : List StepL) (m : MSt) (d : τ) (r : Except Mar.Fault (MSt × τ)) : Prop :=
  ∃ n, ∀ k z, (match r with | .ok (m', d') => runN W c k m' d' | .error f => some (.error f)) = some z → runN W c (k + n) m d = some z
theorem Leads.refl (W : Wk τ) (c : List StepL) (m : MSt) (d : τ) : Leads W c m d (.ok (m, d)) := ⟨0, fun _ _ h => h⟩
theorem Leads.trans {W : Wk τ} {c : List StepL} {m m1 : MSt} {d d1 : τ} {r : Except Mar.Fault (MSt × τ)} (h : Leads W c m d (.ok (m1, d1))) (h1 : Leads W c m1 d1 r) : Leads W c m d r := by
  obtain ⟨n, hn⟩ := h
  obtain ⟨k, hk⟩ := h1
  exact ⟨k + n, fun j z hz => by rw [← Nat.add_assoc]; exact hn _ _ (hk j z hz)⟩
theorem Leads.step {W : Wk τ} {c : List StepL} {m : MSt} {d : τ} {x : StepL} {r : Except Mar.Fault (MSt × τ)} (hx : c[m.next]? = some x) (hf : x ≠ .fin) (hs : stepM W x { m with next := m.next + 1 } d = some r) : Leads W c m d r := by
  refine ⟨1, fun k z hz => ?_⟩
  unfold runN
  rw [hx]
  cases x with
  | fin => exact absurd rfl hf
  | _ =>
    simp only [hs]
    cases r with
    | error f => exact hz
    | ok p => exact hz
def thenE {α β : Type} (r : Except Mar.Fault α) (f : α → Except Mar.Fault β) : Except Mar.Fault β := match r with
  | .ok a => f a
  | .error e => .error e
abbrev Den (τ : Type) := τ → Except Mar.Fault τ
def rep (f : Den τ) : Nat → Den τ
  | 0, d => .ok d
  | n + 1, d => thenE (f d) (rep f n)
def boolVals (n : Int) : Option Nat := if n = 0 then some 0 else if n = 1 then some 1 else none
def tyD (W : Wk τ) (nm : List UInt8 → Den τ) : Ty → Den τ
  | .named n _, d => nm n d
  | .plain k, d => W.num (numberL k) d
  | .opaq n f, d => W.text n f d
  | .str n f, d => W.text n f d
  | .arr o n f, d => thenE (W.list n f d) fun p => rep (tyD W nm o) p.1 p.2
  | .opt o, d => thenE (W.arm (numberL 4) boolVals d) fun p => if p.1 = 1 then tyD W nm o p.2 else .ok p.2
  | .void, d => .ok d
def allD (W : Wk τ) (nm : List UInt8 → Den τ) : List Ty → Den τ
  | [], d => .ok d
  | t :: ts, d => thenE (tyD W nm t d) (allD W nm ts)
def armOf (arms : List (List Int × DeclL)) (n : Int) : Option Ty :=
  match arms.reverse.find? (fun a => a.1.contains n) with
  | some a => some a.2.ty
  | none => (arms.reverse.find? (fun a => a.1.isEmpty)).map (·.2.ty)
abbrev Env := List UInt8 → Option DefL
def selD (E : Env) : Ty → NumL
  | .named t _ => match E t with
    | some (.enum _ _ ms) => membersM ms
    | _ => zeroNum
  | .plain k => numberL k
  | _ => zeroNum
def armVals (E : Env) (sel : Ty) (arms : List (List Int × DeclL)) (n : Int) : Option Nat := if (selD E sel).has n then (armOf arms n).map fun t => if isVoid t then 0 else 1 else none
def defD (W : Wk τ) (E : Env) (nm : List UInt8 → Den τ) : DefL → Den τ
  | .typedef a, d => tyD W nm a.ty d
  | .enum _ _ ms, d => W.num (membersM ms) d
  | .struct _ _ ms, d => thenE (W.list ms.length true d) fun p => allD W nm (ms.map (·.ty)) p.2
  | .union _ _ sel arms, d => thenE (W.arm (selD E sel.ty) (armVals E sel.ty arms) d) fun p => match armOf arms p.1 with
    | some t => tyD W nm t p.2
    | none => .error ⟨0, 0⟩
  | _, _ => .error ⟨0, 0⟩
def nameD (W : Wk τ) (E : Env) : Nat → Nat → List UInt8 → Den τ
  | 0, k, _, d => thenE (W.enter k d) fun _ => .error ⟨0, 0⟩
  | g + 1, k, n, d => thenE (W.enter k d) fun d1 => match E n with
    | some df => defD W E (nameD W E g (k + 1)) df d1
    | none => .error ⟨0, 0⟩
def AtTy (c : List StepL) (B : List UInt8 → Nat) (E : Env) : Nat → Ty → Prop
  | p, .named n _ => c[p]? = some (.call (B n)) ∧ (E n).isSome
  | p, .plain k => c[p]? = some (.num (numberL k))
  | p, .opaq n f => c[p]? = some (.text n f)
  | p, .str n f => c[p]? = some (.text n f)
  | p, .arr o n f => c[p]? = some (.array n f (p + tyCost o + 2)) ∧ AtTy c B E (p + 1) o ∧ c[p + 1 + tyCost o]? = some .again
  | p, .opt o => c[p]? = some (.choice (numberL 4) [(0, p + 1 + tyCost o, 0), (1, p + 1, 1)] none) ∧ AtTy c B E (p + 1) o
  | _, .void => True
def AtAll (c : List StepL) (B : List UInt8 → Nat) (E : Env) : Nat → List Ty → Prop
  | _, [] => True
  | p, t :: ts => AtTy c B E p t ∧ AtAll c B E (p + tyCost t) ts
def allCost (ts : List Ty) : Nat := (ts.map tyCost).sum
def AtDef (c : List StepL) (B : List UInt8 → Nat) (E : Env) (p : Nat) : DefL → Prop
  | .typedef a => AtTy c B E p a.ty ∧ c[p + tyCost a.ty]? = some .ret
  | .enum _ _ ms => c[p]? = some (.num (membersM ms)) ∧ c[p + 1]? = some .ret
  | .struct _ _ ms => c[p]? = some (.struct ms.length true) ∧ AtAll c B E (p + 1) (ms.map (·.ty)) ∧ c[p + 1 + allCost (ms.map (·.ty))]? = some .ret
  | .union _ _ sel arms => ∃ ws o e, c[p]? = some (.choice (selD E sel.ty) ws o) ∧ c[e]? = some .ret ∧
      ∀ n, match armOf arms n with
        | none => mlook ws n = none ∧ o = none
        | some t => ∃ q, (match mlook ws n with | some q => some q | none => o) = some q ∧ q.2 = (if isVoid t then 0 else 1) ∧ AtTy c B E q.1 t ∧ c[q.1 + tyCost t]? = some (.jump e)
  | _ => True
def putAt (m : MSt) (r : Except Mar.Fault τ) : Except Mar.Fault (MSt × τ) := match r with
  | .ok d => .ok (m, d)
  | .error f => .error f
theorem Leads.thenE {W : Wk τ} {c : List StepL} {m m1 m2 : MSt} {d : τ} {r : Except Mar.Fault τ} {f : Den τ} (h : Leads W c m d (putAt m1 r)) (hf : ∀ d1, r = .ok d1 → Leads W c m1 d1 (putAt m2 (f d1))) : Leads W c m d (putAt m2 (Go.Proofs.YtmbcibgknckenaaGreatDoor.thenE r f)) := by
  cases r with
  | error e => exact h
  | ok d1 => exact h.trans (hf d1 rfl)
theorem has_bool (n : Int) : (numberL 4).has n = decide (n = 0 ∨ n = 1) := by
  simp only [NumL.has, numberL]
  rw [Bool.eq_iff_iff]
  simp
  omega
theorem way_bool (a b : Nat) (n : Int) : wayL (numberL 4) [(0, a, 0), (1, b, 1)] none n = if n = 0 then some (a, 0) else if n = 1 then some (b, 1) else none := by
  unfold wayL
  rw [has_bool]
  by_cases h0 : n = 0
  · subst h0; simp [mlook]
  · by_cases h1 : n = 1
    · subst h1; simp [mlook]
    · simp [h0, h1]
theorem vals_bool (a b : Nat) : (fun k => (wayL (numberL 4) [(0, a, 0), (1, b, 1)] none k).map (·.2)) = boolVals := by
  funext n
  rw [way_bool]
  unfold boolVals
  split
  · rfl
  · split <;> rfl
def Wk.Fair (W : Wk τ) : Prop := ∀ n v d k d', W.arm n v d = .ok (k, d') → (v k).isSome
theorem run_flat {W : Wk τ} {c : List StepL} {B : List UInt8 → Nat} {E : Env} {K : List Nat} {nm : List UInt8 → Den τ}
    (hn : ∀ n p R d, R.length ≤ K.length → (E n).isSome → c[p]? = some (.call (B n)) → Leads W c ⟨p, K, R⟩ d (putAt ⟨p + 1, K, R⟩ (nm n d))) :
    ∀ (t : Ty) (p : Nat) (R : List (Nat × Nat)) (d : τ), Flat t → R.length ≤ K.length → AtTy c B E p t → Leads W c ⟨p, K, R⟩ d (putAt ⟨p + tyCost t, K, R⟩ (tyD W nm t d)) := by
  intro t p R d hf hR h
  cases t with
  | named n a => exact hn n p R d hR h.2 h.1
  | plain k =>
    refine Leads.step h (by simp) ?_
    simp only [stepM, tyD, tyCost]
    cases W.num (numberL k) d <;> rfl
  | opaq n f =>
    refine Leads.step h (by simp) ?_
    simp only [stepM, tyD, tyCost]
    cases W.text n f d <;> rfl
  | str n f =>
    refine Leads.step h (by simp) ?_
    simp only [stepM, tyD, tyCost]
    cases W.text n f d <;> rfl
  | void => exact Leads.refl W c _ d
  | arr o n f => exact absurd hf (by simp [Flat])
  | opt o => exact absurd hf (by simp [Flat])
theorem run_ty {W : Wk τ} (hW : W.Fair) {c : List StepL} {B : List UInt8 → Nat} {E : Env} {K : List Nat} (hK : K.length ≤ 100) {nm : List UInt8 → Den τ}
    (hn : ∀ n p R d, R.length ≤ K.length → (E n).isSome → c[p]? = some (.call (B n)) → Leads W c ⟨p, K, R⟩ d (putAt ⟨p + 1, K, R⟩ (nm n d))) :
    ∀ (t : Ty) (p : Nat) (R : List (Nat × Nat)) (d : τ), OneDeep t → R.length < K.length → AtTy c B E p t → Leads W c ⟨p, K, R⟩ d (putAt ⟨p + tyCost t, K, R⟩ (tyD W nm t d)) := by
  intro t p R d hd hR h
  cases t with
  | named n a => exact run_flat hn (.named n a) p R d trivial (by omega) h
  | plain k => exact run_flat hn (.plain k) p R d trivial (by omega) h
  | opaq n f => exact run_flat hn (.opaq n f) p R d trivial (by omega) h
  | str n f => exact run_flat hn (.str n f) p R d trivial (by omega) h
  | void => exact run_flat hn .void p R d trivial (by omega) h
  | arr o n f =>
    obtain ⟨h1, h2, h3⟩ := h
    have hg : ¬ 1000 ≤ R.length := by omega
    simp only [tyD, tyCost]
    cases hl : W.list n f d with
    | error e =>
      refine Leads.step h1 (by simp) ?_
      simp only [stepM, hl, if_neg hg]
      rfl
    | ok q =>
      obtain ⟨cnt, d1⟩ := q
      cases cnt with
      | zero =>
        refine Leads.step h1 (by simp) ?_
        simp only [stepM, hl, if_neg hg]
        rfl
      | succ cnt =>
        have hs : Leads W c ⟨p, K, R⟩ d (.ok (⟨p + 1, K, (p + 1, cnt + 1) :: R⟩, d1)) := by
          refine Leads.step h1 (by simp) ?_
          simp only [stepM, hl, if_neg hg]
        refine hs.trans ?_
        clear hs hl
        simp only [thenE]
        have key : ∀ (j : Nat) (d : τ), Leads W c ⟨p + 1, K, (p + 1, j + 1) :: R⟩ d (putAt ⟨p + (tyCost o + 2), K, R⟩ (rep (tyD W nm o) (j + 1) d)) := by
          intro j
          induction j with
          | zero =>
            intro d
            unfold rep
            refine Leads.thenE (run_flat hn o (p + 1) _ d hd (by simp; omega) h2) fun d2 _ => ?_
            refine Leads.step h3 (by simp) ?_
            simp only [stepM]
            simp [putAt, rep]
            omega
          | succ j ihj =>
            intro d
            unfold rep
            refine Leads.thenE (run_flat hn o (p + 1) _ d hd (by simp; omega) h2) fun d2 _ => ?_
            refine Leads.trans (Leads.step h3 (by simp) ?_) (ihj d2)
            simp only [stepM]
            simp
        exact key cnt d1
  | opt o =>
    obtain ⟨h1, h2⟩ := h
    simp only [tyD, tyCost]
    cases hl : W.arm (numberL 4) boolVals d with
    | error e =>
      refine Leads.step h1 (by simp) ?_
      simp only [stepM, vals_bool, hl]
      rfl
    | ok q =>
      obtain ⟨k, d1⟩ := q
      have hk := hW _ _ _ _ _ hl
      by_cases h0 : k = 0
      · subst h0
        refine Leads.step h1 (by simp) ?_
        simp only [stepM, vals_bool, hl]
        rw [way_bool, show p + (tyCost o + 1) = p + 1 + tyCost o by omega]
        simp [thenE, putAt]
      · by_cases hk1 : k = 1
        · subst hk1
          have hs : Leads W c ⟨p, K, R⟩ d (.ok (⟨p + 1, K, R⟩, d1)) := by
            refine Leads.step h1 (by simp) ?_
            simp only [stepM, vals_bool, hl]
            rw [way_bool]
            rfl
          refine hs.trans ?_
          have := run_flat hn o (p + 1) R d1 hd (by omega) h2
          rw [show p + (tyCost o + 1) = p + 1 + tyCost o by omega]
          simpa [thenE] using this
        · simp [boolVals, h0, hk1] at hk
theorem run_all {W : Wk τ} (hW : W.Fair) {c : List StepL} {B : List UInt8 → Nat} {E : Env} {K : List Nat} (hK : K.length ≤ 100) {nm : List UInt8 → Den τ}
    (hn : ∀ n p R d, R.length ≤ K.length → (E n).isSome → c[p]? = some (.call (B n)) → Leads W c ⟨p, K, R⟩ d (putAt ⟨p + 1, K, R⟩ (nm n d))) :
    ∀ (ts : List Ty) (p : Nat) (R : List (Nat × Nat)) (d : τ), (∀ t ∈ ts, OneDeep t) → R.length < K.length → AtAll c B E p ts → Leads W c ⟨p, K, R⟩ d (putAt ⟨p + allCost ts, K, R⟩ (allD W nm ts d)) := by
  intro ts
  induction ts with
  | nil => intro p R d _ _ _; exact Leads.refl W c _ d
  | cons t ts ih =>
    intro p R d hd hR ⟨h1, h2⟩
    unfold allD
    refine Leads.thenE (run_ty hW hK hn t p R d (hd t (by simp)) hR h1) fun d1 _ => ?_
    have := ih (p + tyCost t) R d1 (fun t ht => hd t (List.mem_cons_of_mem _ ht)) hR h2
    rw [show p + allCost (t :: ts) = p + tyCost t + allCost ts by simp [allCost]; omega]
    exact this
def defTys : DefL → List Ty
  | .typedef d => [d.ty]
  | .struct _ _ ms => ms.map (·.ty)
  | .union _ _ _ arms => arms.map (·.2.ty)
  | _ => []
theorem armOf_mem {arms : List (List Int × DeclL)} {n : Int} {t : Ty} (h : armOf arms n = some t) : t ∈ arms.map (·.2.ty) := by
  unfold armOf at h
  cases hf : arms.reverse.find? (fun a => a.1.contains n) with
  | some a =>
    rw [hf] at h
    cases h
    exact List.mem_map.2 ⟨a, List.mem_reverse.1 (List.mem_of_find?_eq_some hf), rfl⟩
  | none =>
    rw [hf] at h
    simp only [Option.map_eq_some_iff] at h
    obtain ⟨a, ha, rfl⟩ := h
    exact List.mem_map.2 ⟨a, List.mem_reverse.1 (List.mem_of_find?_eq_some ha), rfl⟩
theorem run_def {W : Wk τ} (hW : W.Fair) {c : List StepL} {B : List UInt8 → Nat} {E : Env} {K : List Nat} (hK : K.length + 1 ≤ 100) {r : Nat} {nm : List UInt8 → Den τ}
    (hn : ∀ n p R d, R.length ≤ K.length + 1 → (E n).isSome → c[p]? = some (.call (B n)) → Leads W c ⟨p, r :: K, R⟩ d (putAt ⟨p + 1, r :: K, R⟩ (nm n d)))
    (df : DefL) (hty : ∀ t a v, df ≠ .const t a v) (hpg : ∀ t a v n, df ≠ .prog t a v n) (hdp : ∀ t ∈ defTys df, OneDeep t) (p : Nat) (R : List (Nat × Nat)) (hR : R.length ≤ K.length) (d : τ) (h : AtDef c B E p df) : Leads W c ⟨p, r :: K, R⟩ d (putAt ⟨r, K, R⟩ (defD W E nm df d)) := by
  have hK' : (r :: K).length ≤ 100 := by simp; omega
  have hR' : R.length < (r :: K).length := by simp; omega
  have hn' : ∀ n p R d, R.length ≤ (r :: K).length → (E n).isSome → c[p]? = some (.call (B n)) → Leads W c ⟨p, r :: K, R⟩ d (putAt ⟨p + 1, r :: K, R⟩ (nm n d)) := fun n p R d hr => hn n p R d (by simpa using hr)
  have back : ∀ (q : Nat) (d1 : τ), c[q]? = some .ret → Leads W c ⟨q, r :: K, R⟩ d1 (.ok (⟨r, K, R⟩, d1)) := by
    intro q d1 hq
    refine Leads.step hq (by simp) ?_
    simp only [stepM]
  have after : ∀ (q : Nat) (x : Except Mar.Fault τ), c[q]? = some .ret → Leads W c ⟨p, r :: K, R⟩ d (putAt ⟨q, r :: K, R⟩ x) → Leads W c ⟨p, r :: K, R⟩ d (putAt ⟨r, K, R⟩ x) := by
    intro q x hq hx
    cases x with
    | error f => exact hx
    | ok d1 => exact Leads.trans hx (back q d1 hq)
  cases df with
  | const t a v => exact absurd rfl (hty t a v)
  | prog t a v n => exact absurd rfl (hpg t a v n)
  | typedef a => exact after _ _ h.2 (run_ty hW hK' hn' a.ty p R d (hdp _ (by simp [defTys])) hR' h.1)
  | enum t a ms =>
    refine after _ _ h.2 (Leads.step h.1 (by simp) ?_)
    simp only [stepM, defD]
    cases W.num (membersM ms) d <;> rfl
  | struct t a ms =>
    refine after _ _ h.2.2 ?_
    simp only [defD]
    cases hl : W.list ms.length true d with
    | error e =>
      refine Leads.step h.1 (by simp) ?_
      simp only [stepM, hl]
      rfl
    | ok q =>
      obtain ⟨cnt, d1⟩ := q
      have hs : Leads W c ⟨p, r :: K, R⟩ d (.ok (⟨p + 1, r :: K, R⟩, d1)) := by
        refine Leads.step h.1 (by simp) ?_
        simp only [stepM, hl]
      exact hs.trans (run_all hW hK' hn' _ (p + 1) R d1 hdp hR' h.2.1)
  | union t a sel arms =>
    obtain ⟨ws, o, e, h1, h2, h3⟩ := h
    have hv : (fun k => (wayL (selD E sel.ty) ws o k).map (·.2)) = armVals E sel.ty arms := by
      funext k
      unfold wayL armVals
      have hk := h3 k
      split
      · cases hm : armOf arms k with
        | none => rw [hm] at hk; rw [hk.1, hk.2]; rfl
        | some ty =>
          rw [hm] at hk
          obtain ⟨q, hq, hq2, _⟩ := hk
          rw [hq]
          simp [hq2]
      · rfl
    refine after e _ h2 ?_
    simp only [defD]
    cases hl : W.arm (selD E sel.ty) (armVals E sel.ty arms) d with
    | error f =>
      refine Leads.step h1 (by simp) ?_
      simp only [stepM, hv, hl]
      rfl
    | ok p1 =>
      obtain ⟨k, d1⟩ := p1
      have hk := hW _ _ _ _ _ hl
      have hh := h3 k
      unfold armVals at hk
      split at hk
      · rename_i hhas
        cases hm : armOf arms k with
        | none => rw [hm] at hk; cases hk
        | some ty =>
          rw [hm] at hh
          obtain ⟨q, hq, hq2, hq3, hq4⟩ := hh
          have hwy : wayL (selD E sel.ty) ws o k = some q := by
            unfold wayL
            rw [if_pos hhas]
            exact hq
          have hs : Leads W c ⟨p, r :: K, R⟩ d (.ok (⟨q.1, r :: K, R⟩, d1)) := by
            refine Leads.step h1 (by simp) ?_
            simp only [stepM, hv, hl, hwy]
          refine hs.trans ?_
          simp only [thenE, hm]
          have hty := run_ty hW hK' hn' ty q.1 R d1 (hdp ty (armOf_mem hm)) hR' hq3
          cases hx : tyD W nm ty d1 with
          | error f => rw [hx] at hty; exact hty
          | ok d2 =>
            rw [hx] at hty
            refine Leads.trans hty (Leads.step hq4 (by simp) ?_)
            simp only [stepM]
            rfl
      · cases hk
def AllAt (c : List StepL) (B : List UInt8 → Nat) (E : Env) : Prop := ∀ n df, E n = some df → (∀ t a v, df ≠ .const t a v) ∧ (∀ t a v n, df ≠ .prog t a v n) ∧ (∀ t ∈ defTys df, OneDeep t) ∧ AtDef c B E (B n) df
theorem run_name {W : Wk τ} (hW : W.Fair) (hE : ∀ k d, 64 ≤ k → ∃ f, W.enter k d = .error f) {c : List StepL} {B : List UInt8 → Nat} {E : Env} (ha : AllAt c B E) :
    ∀ (g : Nat) (K : List Nat) (n : List UInt8) (p : Nat) (R : List (Nat × Nat)) (d : τ), 64 ≤ g + K.length → K.length ≤ 70 → g + K.length ≤ 70 → R.length ≤ K.length → (E n).isSome → c[p]? = some (.call (B n)) → Leads W c ⟨p, K, R⟩ d (putAt ⟨p + 1, K, R⟩ (nameD W E g K.length n d)) := by
  intro g
  induction g with
  | zero =>
    intro K n p R d hg hk1 hk2 hR _ hp
    obtain ⟨f, hf⟩ := hE K.length d (by omega)
    refine Leads.step hp (by simp) ?_
    simp only [stepM, nameD, hf, thenE, if_neg (show ¬ 1000 ≤ K.length by omega)]
    rfl
  | succ g ih =>
    intro K n p R d hg hk1 hk2 hR hen hp
    have hgd : ¬ 1000 ≤ K.length := by omega
    simp only [nameD]
    cases he : W.enter K.length d with
    | error f =>
      refine Leads.step hp (by simp) ?_
      simp only [stepM, he, if_neg hgd]
      rfl
    | ok d1 =>
      have hs : Leads W c ⟨p, K, R⟩ d (.ok (⟨B n, (p + 1) :: K, R⟩, d1)) := by
        refine Leads.step hp (by simp) ?_
        simp only [stepM, he, if_neg hgd]
      refine hs.trans ?_
      obtain ⟨df, hd⟩ := Option.isSome_iff_exists.1 hen
      obtain ⟨h1, h2, h4, h3⟩ := ha n df hd
      simp only [thenE, hd]
      refine run_def hW (by omega) ?_ df h1 h2 h4 (B n) R hR d1 h3
      intro n' p' R' d' hR' hen' hp'
      have := ih ((p + 1) :: K) n' p' R' d' (by simp; omega) (by simp; omega) (by simp; omega) (by simpa using hR') hen' hp'
      simpa using this
theorem run_start {W : Wk τ} (hW : W.Fair) (hE : ∀ k d, 64 ≤ k → ∃ f, W.enter k d = .error f) {c : List StepL} {B : List UInt8 → Nat} {E : Env} (ha : AllAt c B E) {n : List UInt8} {p : Nat} (h0 : (E n).isSome) (h1 : c[p]? = some (.call (B n))) (h2 : c[p + 1]? = some .fin) (d : τ) :
    ∃ k, runN W c k ⟨p, [], []⟩ d = some (nameD W E 64 0 n d) := by
  obtain ⟨k, hk⟩ := run_name hW hE ha 64 [] n p [] d (by simp) (by simp) (by simp) (by simp) h0 h1
  cases hx : nameD W E 64 0 n d with
  | error f =>
    refine ⟨0 + k, hk 0 _ ?_⟩
    simp only [List.length_nil, hx, putAt]
  | ok d1 =>
    refine ⟨1 + k, hk 1 _ ?_⟩
    simp only [List.length_nil, hx, putAt, runN, h2]
end
end Go.Proofs.YtmbcibgknckenaaGreatDoor
set_option linter.all false
set_option maxRecDepth 100000
set_option maxHeartbeats 4000000
namespace Go.Proofs.YtmbcibgknckenaaGreatDoor
def linkL (B : List UInt8 → Nat) (s : CSt) : List StepL := s.calls.foldl (fun c k => c.set k.1 (.call (B k.2))) s.code
def Wf (s : CSt) : Prop := ∀ k ∈ s.calls, s.code[k.1]? = some (.call 0)
theorem foldl_set_len {α : Type} (f : Nat × List UInt8 → α) : ∀ (l : List (Nat × List UInt8)) (c : List α), (l.foldl (fun c k => c.set k.1 (f k)) c).length = c.length := by
  intro l
  induction l with
  | nil => intro c; rfl
  | cons k l ih => intro c; simp [ih]
theorem foldl_set_app {α : Type} (f : Nat × List UInt8 → α) : ∀ (l : List (Nat × List UInt8)) (c d : List α), (∀ k ∈ l, k.1 < c.length) → l.foldl (fun c k => c.set k.1 (f k)) (c ++ d) = l.foldl (fun c k => c.set k.1 (f k)) c ++ d := by
  intro l
  induction l with
  | nil => intro c d _; rfl
  | cons k l ih =>
    intro c d h
    simp only [List.foldl_cons]
    rw [List.set_append_left _ _ (h k (by simp))]
    exact ih _ _ (fun q hq => by simpa using h q (List.mem_cons_of_mem _ hq))
theorem foldl_set_comm {α : Type} (f : Nat × List UInt8 → α) (i : Nat) (x : α) : ∀ (l : List (Nat × List UInt8)) (c : List α), (∀ k ∈ l, k.1 ≠ i) → l.foldl (fun c k => c.set k.1 (f k)) (c.set i x) = (l.foldl (fun c k => c.set k.1 (f k)) c).set i x := by
  intro l
  induction l with
  | nil => intro c _; rfl
  | cons k l ih =>
    intro c h
    simp only [List.foldl_cons]
    rw [List.set_comm _ _ (fun e => h k (by simp) e.symm)]
    exact ih _ (fun q hq => h q (List.mem_cons_of_mem _ hq))
section
variable {B : List UInt8 → Nat} {s : CSt}
theorem Wf.lt (h : Wf s) : ∀ k ∈ s.calls, k.1 < s.code.length := by
  intro k hk
  have := h k hk
  by_cases hl : k.1 < s.code.length
  · exact hl
  · rw [List.getElem?_eq_none (by omega)] at this
    cases this
theorem link_len : (linkL B s).length = s.code.length := foldl_set_len _ _ _
theorem Wf.put (h : Wf s) (x : StepL) : Wf (putM x s) := by
  intro k hk
  have := h k hk
  simp only [putM]
  rw [List.getElem?_append_left (h.lt k hk)]
  exact this
theorem link_put (h : Wf s) (x : StepL) : linkL B (putM x s) = linkL B s ++ [x] := foldl_set_app _ _ _ _ h.lt
theorem Wf.call (h : Wf s) (n : List UInt8) : Wf (callM n s) := by
  intro k hk
  simp only [callM, List.mem_append, List.mem_singleton] at hk ⊢
  rcases hk with hk | rfl
  · rw [List.getElem?_append_left (h.lt k hk)]
    exact h k hk
  · simp
theorem link_call (h : Wf s) (n : List UInt8) : linkL B (callM n s) = linkL B s ++ [.call (B n)] := by
  simp only [linkL, callM, List.foldl_append, List.foldl_cons, List.foldl_nil]
  rw [foldl_set_app _ _ _ _ h.lt]
  have e := foldl_set_len (fun k => StepL.call (B k.2)) s.calls s.code
  rw [← e, List.set_append_right _ _ (Nat.le_refl _)]
  simp
def Open (s : CSt) (i : Nat) : Prop := ∀ k ∈ s.calls, k.1 ≠ i
theorem open_of {i : Nat} {x : StepL} (h : Wf s) (hx : s.code[i]? = some x) (hn : x ≠ .call 0) : Open s i := by
  intro k hk e
  have := h k hk
  rw [e, hx] at this
  cases this
  exact hn rfl
theorem Wf.set {i : Nat} (h : Wf s) (ho : Open s i) (x : StepL) : Wf (setM i x s) := by
  intro k hk
  simp only [setM]
  rw [List.getElem?_set_ne (fun e => ho k hk e.symm)]
  exact h k hk
theorem link_set {i : Nat} (ho : Open s i) (x : StepL) : linkL B (setM i x s) = (linkL B s).set i x := foldl_set_comm _ i x _ _ ho
def segTy (B : List UInt8 → Nat) : Nat → Ty → List StepL
  | _, .named n _ => [.call (B n)]
  | _, .plain k => [.num (numberL k)]
  | _, .opaq n f => [.text n f]
  | _, .str n f => [.text n f]
  | p, .arr o n f => .array n f (p + tyCost o + 2) :: (segTy B (p + 1) o ++ [.again])
  | p, .opt o => .choice (numberL 4) [(0, p + 1 + tyCost o, 0), (1, p + 1, 1)] none :: segTy B (p + 1) o
  | _, .void => []
theorem segTy_len (B : List UInt8 → Nat) (t : Ty) : ∀ p, (segTy B p t).length = tyCost t := by
  induction t with
  | arr o n f ih => intro p; simp [segTy, tyCost, ih]
  | opt o ih => intro p; simp [segTy, tyCost, ih]
  | _ => intro p; simp [segTy, tyCost]
structure Ext (s s' : CSt) : Prop where
  wf : Wf s'
  bo : s'.bodies = s.bodies
  en : s'.enums = s.enums
  len : s.code.length ≤ s'.code.length
  op : ∀ i, i < s.code.length → Open s i → Open s' i
  old : ∀ i, i < s.code.length → s'.code[i]? = s.code[i]?
theorem Ext.put (h : Wf s) (x : StepL) : Ext s (putM x s) := ⟨h.put x, rfl, rfl, by simp [putM], fun i _ ho => ho, fun i hi => by simp only [putM]; rw [List.getElem?_append_left hi]⟩
theorem Ext.call (h : Wf s) (n : List UInt8) : Ext s (callM n s) := by
  refine ⟨h.call n, rfl, rfl, by simp [callM], ?_, fun i hi => by simp only [callM]; rw [List.getElem?_append_left hi]⟩
  intro i hi ho k hk
  simp only [callM, List.mem_append, List.mem_singleton] at hk
  rcases hk with hk | rfl
  · exact ho k hk
  · simp only
    omega
theorem Ext.trans {s1 s2 : CSt} (h : Ext s s1) (k : Ext s1 s2) : Ext s s2 :=
  ⟨k.wf, k.bo.trans h.bo, k.en.trans h.en, Nat.le_trans h.len k.len, fun i hi ho => k.op i (Nat.lt_of_lt_of_le hi h.len) (h.op i hi ho), fun i hi => (k.old i (Nat.lt_of_lt_of_le hi h.len)).trans (h.old i hi)⟩
theorem Ext.set {s1 : CSt} {i : Nat} (h : Ext s s1) (hi : s.code.length ≤ i) (ho : Open s1 i) (x : StepL) : Ext s (setM i x s1) :=
  ⟨h.wf.set ho x, h.bo, h.en, by simpa [setM] using h.len, h.op, fun j hj => by simp only [setM]; rw [List.getElem?_set_ne (by omega)]; exact h.old j hj⟩
theorem hole_open (h : Wf s) : Open (putM .hole s) s.code.length := open_of (h.put _) (x := .hole) (by simp [putM]) (by simp)
theorem link_value (B : List UInt8 → Nat) (t : Ty) : ∀ (s : CSt), Wf s → linkL B (valueM t s) = linkL B s ++ segTy B s.code.length t ∧ Ext s (valueM t s) := by
  induction t with
  | named n a => intro s h; exact ⟨link_call h n, Ext.call h n⟩
  | plain k => intro s h; exact ⟨link_put h _, Ext.put h _⟩
  | opaq n f => intro s h; exact ⟨link_put h _, Ext.put h _⟩
  | str n f => intro s h; exact ⟨link_put h _, Ext.put h _⟩
  | void => intro s h; exact ⟨by simp [valueM, segTy], h, rfl, rfl, Nat.le_refl _, fun _ _ ho => ho, fun _ _ => rfl⟩
  | arr o n f ih =>
    intro s h
    have h1 := h.put .hole
    obtain ⟨i1, i2⟩ := ih (putM .hole s) h1
    have e1 : (putM .hole s).code.length = s.code.length + 1 := by simp [putM]
    have op1 : Open (valueM o (putM .hole s)) s.code.length := i2.op _ (by rw [e1]; omega) (hole_open h)
    have ex := (Ext.put h .hole).trans (i2.trans (Ext.put i2.wf .again))
    have op2 : Open (putM .again (valueM o (putM .hole s))) s.code.length := op1
    refine ⟨?_, ex.set (Nat.le_refl _) op2 _⟩
    simp only [valueM]
    rw [link_set op2, link_put i2.wf, i1, link_put h, valueM_len, e1]
    have hl : s.code.length = (linkL B s).length := link_len.symm
    rw [show linkL B s ++ [StepL.hole] ++ segTy B (s.code.length + 1) o ++ [StepL.again] = linkL B s ++ (StepL.hole :: (segTy B (s.code.length + 1) o ++ [StepL.again])) by simp]
    rw [List.set_append_right _ _ (by omega)]
    simp only [segTy, hl, Nat.sub_self, List.set_cons_zero]
    congr 3
    omega
  | opt o ih =>
    intro s h
    have h1 := h.put .hole
    obtain ⟨i1, i2⟩ := ih (putM .hole s) h1
    have e1 : (putM .hole s).code.length = s.code.length + 1 := by simp [putM]
    have op1 : Open (valueM o (putM .hole s)) s.code.length := i2.op _ (by rw [e1]; omega) (hole_open h)
    have ex := (Ext.put h .hole).trans i2
    refine ⟨?_, ex.set (Nat.le_refl _) op1 _⟩
    simp only [valueM]
    rw [link_set op1, i1, link_put h, valueM_len, e1]
    have hl : s.code.length = (linkL B s).length := link_len.symm
    rw [show linkL B s ++ [StepL.hole] ++ segTy B (s.code.length + 1) o = linkL B s ++ (StepL.hole :: segTy B (s.code.length + 1) o) by simp]
    rw [List.set_append_right _ _ (by omega)]
    simp only [segTy, hl, Nat.sub_self, List.set_cons_zero]
end
def Sub (c : List StepL) (p : Nat) (seg : List StepL) : Prop := ∀ i x, seg[i]? = some x → c[p + i]? = some x
theorem Sub.app {c : List StepL} {p : Nat} {a b : List StepL} (h : Sub c p (a ++ b)) : Sub c p a ∧ Sub c (p + a.length) b := by
  refine ⟨fun i x hx => h i x ?_, fun i x hx => ?_⟩
  · have hi : i < a.length := by
      by_cases hl : i < a.length
      · exact hl
      · rw [List.getElem?_eq_none (by omega)] at hx; cases hx
    rw [List.getElem?_append_left hi]
    exact hx
  · rw [Nat.add_assoc]
    refine h (a.length + i) x ?_
    rw [List.getElem?_append_right (by omega)]
    simpa using hx
theorem Sub.cons {c : List StepL} {p : Nat} {x : StepL} {b : List StepL} (h : Sub c p (x :: b)) : c[p]? = some x ∧ Sub c (p + 1) b := by
  have h' : Sub c p ([x] ++ b) := h
  obtain ⟨h1, h2⟩ := h'.app
  exact ⟨by simpa using h1 0 x (by simp), by simpa using h2⟩
theorem Sub.at {c pre seg post : List StepL} (h : c = pre ++ seg ++ post) : Sub c pre.length seg := by
  intro i x hx
  have hi : i < seg.length := by
    by_cases hl : i < seg.length
    · exact hl
    · rw [List.getElem?_eq_none (by omega)] at hx; cases hx
  rw [h, List.append_assoc, List.getElem?_append_right (by omega)]
  rw [Nat.add_sub_cancel_left, List.getElem?_append_left hi]
  exact hx
def KnownTy (E : Env) (t : Ty) : Prop := ∀ m ∈ tyNames t, (E m.1).isSome
theorem at_ty {c : List StepL} {B : List UInt8 → Nat} {E : Env} (t : Ty) : ∀ (p : Nat), KnownTy E t → Sub c p (segTy B p t) → AtTy c B E p t := by
  induction t with
  | named n a => intro p hk h; exact ⟨h.cons.1, hk (n, a) (by simp [tyNames])⟩
  | plain k => intro p _ h; exact h.cons.1
  | opaq n f => intro p _ h; exact h.cons.1
  | str n f => intro p _ h; exact h.cons.1
  | void => intro p _ _; trivial
  | arr o n f ih =>
    intro p hk h
    obtain ⟨h1, h2⟩ := h.cons
    obtain ⟨h3, h4⟩ := h2.app
    rw [segTy_len] at h4
    exact ⟨h1, ih _ hk h3, h4.cons.1⟩
  | opt o ih =>
    intro p hk h
    obtain ⟨h1, h2⟩ := h.cons
    exact ⟨h1, ih _ hk h2⟩
def segAll (B : List UInt8 → Nat) : Nat → List Ty → List StepL
  | _, [] => []
  | p, t :: ts => segTy B p t ++ segAll B (p + tyCost t) ts
theorem segAll_len (B : List UInt8 → Nat) : ∀ (ts : List Ty) (p : Nat), (segAll B p ts).length = allCost ts := by
  intro ts
  induction ts with
  | nil => intro p; rfl
  | cons t ts ih => intro p; simp [segAll, allCost, segTy_len, ih]
theorem at_all {c : List StepL} {B : List UInt8 → Nat} {E : Env} : ∀ (ts : List Ty) (p : Nat), (∀ t ∈ ts, KnownTy E t) → Sub c p (segAll B p ts) → AtAll c B E p ts := by
  intro ts
  induction ts with
  | nil => intro p _ _; trivial
  | cons t ts ih =>
    intro p hk h
    obtain ⟨h1, h2⟩ := h.app
    rw [segTy_len] at h2
    exact ⟨at_ty t p (hk t (by simp)) h1, ih _ (fun t ht => hk t (List.mem_cons_of_mem _ ht)) h2⟩
theorem link_all (B : List UInt8 → Nat) : ∀ (ts : List Ty) (s : CSt), Wf s → linkL B (ts.foldl (fun s t => valueM t s) s) = linkL B s ++ segAll B s.code.length ts ∧ Ext s (ts.foldl (fun s t => valueM t s) s) := by
  intro ts
  induction ts with
  | nil => intro s h; exact ⟨by simp [segAll], h, rfl, rfl, Nat.le_refl _, fun _ _ ho => ho, fun _ _ => rfl⟩
  | cons t ts ih =>
    intro s h
    obtain ⟨h1, h2⟩ := link_value B t s h
    obtain ⟨h3, h4⟩ := ih _ h2.wf
    refine ⟨?_, h2.trans h4⟩
    simp only [List.foldl_cons]
    rw [h3, h1, valueM_len]
    simp [segAll]
abbrev armLen (a : List Int × DeclL) : Nat := tyCost a.2.ty + 1
def armsLen (az : List (List Int × DeclL)) : Nat := (az.map armLen).sum
def segArms (B : List UInt8 → Nat) (e : Nat) : Nat → List (List Int × DeclL) → List StepL
  | _, [] => []
  | p, a :: az => segTy B p a.2.ty ++ (.jump e :: segArms B e (p + armLen a) az)
def endsOf : Nat → List (List Int × DeclL) → List Nat
  | _, [] => []
  | p, a :: az => (p + tyCost a.2.ty) :: endsOf (p + armLen a) az
theorem segArms_len (B : List UInt8 → Nat) (e : Nat) : ∀ (az : List (List Int × DeclL)) (p : Nat), (segArms B e p az).length = armsLen az := by
  intro az
  induction az with
  | nil => intro p; rfl
  | cons a az ih => intro p; have := ih (p + armLen a); simp only [segArms, armsLen, List.length_append, segTy_len, List.length_cons, List.map_cons, List.sum_cons] at this ⊢; rw [this]; simp only [armLen]; omega
theorem segArms_snoc (B : List UInt8 → Nat) (e : Nat) (a : List Int × DeclL) : ∀ (az : List (List Int × DeclL)) (p : Nat), segArms B e p (az ++ [a]) = segArms B e p az ++ (segTy B (p + armsLen az) a.2.ty ++ [.jump e]) := by
  intro az
  induction az with
  | nil => intro p; simp [segArms, armsLen]
  | cons b az ih =>
    intro p
    simp only [List.cons_append, segArms, ih, List.append_assoc]
    rw [show p + armLen b + armsLen az = p + armsLen (b :: az) by simp [armsLen]; omega]
theorem endsOf_snoc (a : List Int × DeclL) : ∀ (az : List (List Int × DeclL)) (p : Nat), endsOf p (az ++ [a]) = endsOf p az ++ [p + armsLen az + tyCost a.2.ty] := by
  intro az
  induction az with
  | nil => intro p; simp [endsOf, armsLen]
  | cons b az ih =>
    intro p
    simp only [List.cons_append, endsOf, ih]
    rw [show p + armLen b + armsLen az = p + armsLen (b :: az) by simp [armsLen]; omega]
theorem at_arm {c : List StepL} {B : List UInt8 → Nat} {e : Nat} {a : List Int × DeclL} : ∀ (as1 as2 : List (List Int × DeclL)) (p : Nat), Sub c p (segArms B e p (as1 ++ a :: as2)) → Sub c (p + armsLen as1) (segTy B (p + armsLen as1) a.2.ty) ∧ c[p + armsLen as1 + tyCost a.2.ty]? = some (.jump e) := by
  intro as1
  induction as1 with
  | nil =>
    intro as2 p h
    simp only [List.nil_append, segArms] at h
    obtain ⟨h1, h2⟩ := h.app
    rw [segTy_len] at h2
    exact ⟨by simpa [armsLen] using h1, by simpa [armsLen] using h2.cons.1⟩
  | cons b as1 ih =>
    intro as2 p h
    simp only [List.cons_append, segArms] at h
    have h2 := h.app.2.cons.2
    rw [segTy_len] at h2
    have := ih as2 (p + armLen b) (by simpa [Nat.add_assoc] using h2)
    rw [show p + armLen b + armsLen as1 = p + armsLen (b :: as1) by simp [armsLen]; omega] at this
    exact this
theorem mlook_mput {κ α : Type} [DecidableEq κ] (v : α) (n k : κ) (ws : List (κ × α)) : mlook (mput ws k v) n = if n = k then some v else mlook ws n := by
  unfold mput
  split
  · rename_i hin
    induction ws with
    | nil => simp at hin
    | cons q ws ih =>
      by_cases hq : q.1 = k
      · by_cases hn : n = k
        · subst hn; simp [mlook, hq]
        · have hrest : mlook (ws.map fun p => if p.1 = k then (k, v) else p) n = mlook ws n := by
            clear ih hin
            induction ws with
            | nil => rfl
            | cons r ws ih2 =>
              unfold mlook at ih2 ⊢
              simp only [List.map_cons, List.find?_cons]
              by_cases hr : r.1 = k
              · have h1 : (k == n) = false := by simpa using fun e => hn e.symm
                have h2 : (r.1 == n) = false := by rw [hr]; exact h1
                simp only [hr, if_true, h1]
                exact ih2
              · simp only [hr, if_false]
                split
                · rfl
                · exact ih2
          have h1 : (k == n) = false := by simpa using fun e => hn e.symm
          have h2 : (q.1 == n) = false := by rw [hq]; exact h1
          unfold mlook at hrest ⊢
          simp only [List.map_cons, List.find?_cons, hq, if_true, h1, if_neg hn]
          exact hrest
      · have hin' : k ∈ ws.map (·.1) := by
          simp only [List.map_cons, List.mem_cons] at hin
          rcases hin with h | h
          · exact absurd h.symm hq
          · exact h
        have := ih hin'
        unfold mlook at this ⊢
        simp only [List.map_cons, List.find?_cons, hq, if_false]
        by_cases hqn : q.1 = n
        · have : n ≠ k := fun e => hq (hqn.trans e)
          simp [hqn, this]
        · have h2 : (q.1 == n) = false := by simpa using hqn
          simp only [h2]
          exact this
  · rename_i hin
    by_cases hn : n = k
    · subst hn
      have : ws.find? (fun p => p.1 == n) = none := List.find?_eq_none.2 (fun p hp => by simp; exact fun e => hin (e ▸ List.mem_map_of_mem hp))
      simp [mlook, List.find?_append, this]
    · have h1 : (k == n) = false := by simpa using fun e => hn e.symm
      simp [mlook, List.find?_append, h1, hn]
theorem look_fold {n : Int} (v : Nat × Nat) : ∀ (l : List Int) (ws : List (Int × Nat × Nat)), mlook (l.foldl (fun l k => mput l k v) ws) n = if l.contains n then some v else mlook ws n := by
  intro l
  induction l with
  | nil => intro ws; simp
  | cons k l ih =>
    intro ws
    simp only [List.foldl_cons]
    rw [ih, mlook_mput]
    by_cases hl : l.contains n = true
    · have : (k :: l).contains n = true := by simp at hl ⊢; exact Or.inr hl
      rw [if_pos hl, if_pos this]
    · rw [if_neg hl]
      by_cases hk : n = k
      · have : (k :: l).contains n = true := by simp [hk]
        rw [if_pos hk, if_pos this]
      · have : ¬ (k :: l).contains n = true := by simp at hl ⊢; exact ⟨hk, hl⟩
        rw [if_neg hk, if_neg this]
def wayAt (p : Nat) (az : List (List Int × DeclL)) (f : List Int × DeclL → Bool) (w : Option (Nat × Nat)) : Prop :=
  match az.reverse.find? f with
  | none => w = none
  | some a => ∃ as1 as2, az = as1 ++ a :: as2 ∧ w = some (p + armsLen as1, if isVoid a.2.ty then 0 else 1)
theorem wayAt_snoc {p : Nat} {az : List (List Int × DeclL)} {f : List Int × DeclL → Bool} {w : Option (Nat × Nat)} (h : wayAt p az f w) (a : List Int × DeclL) : wayAt p (az ++ [a]) f (if f a then some (p + armsLen az, if isVoid a.2.ty then 0 else 1) else w) := by
  unfold wayAt at h ⊢
  rw [List.reverse_append, List.reverse_singleton, List.singleton_append, List.find?_cons]
  cases hf : f a with
  | true => exact ⟨az, [], rfl, rfl⟩
  | false =>
    simp only [Bool.false_eq_true, if_false]
    cases hg : az.reverse.find? f with
    | none => rw [hg] at h; exact h
    | some b =>
      rw [hg] at h
      obtain ⟨as1, as2, h1, h2⟩ := h
      exact ⟨as1, as2 ++ [a], by rw [h1]; simp, h2⟩
theorem link_arms (B : List UInt8 → Nat) (q0 : USt) (h0 : Wf q0.s) (hw : q0.ways = []) (ho : q0.other = none) (he : q0.ends = []) : ∀ (n : Nat) (az : List (List Int × DeclL)), az.length = n →
    linkL B (az.foldl uArm q0).s = linkL B q0.s ++ segArms B 0 q0.s.code.length az ∧ Ext q0.s (az.foldl uArm q0).s ∧ (az.foldl uArm q0).ends = endsOf q0.s.code.length az ∧
    (∀ n, wayAt q0.s.code.length az (fun a => a.1.contains n) (mlook (az.foldl uArm q0).ways n)) ∧ wayAt q0.s.code.length az (fun a => a.1.isEmpty) (az.foldl uArm q0).other := by
  intro n
  induction n with
  | zero =>
    intro az hl
    have : az = [] := List.length_eq_zero_iff.1 hl
    subst this
    exact ⟨by simp [segArms], ⟨h0, rfl, rfl, Nat.le_refl _, fun _ _ ho => ho, fun _ _ => rfl⟩, by simp [endsOf, he], fun n => by simp [wayAt, hw, mlook], by simp [wayAt, ho]⟩
  | succ n ih =>
    intro az hl
    have hne : az ≠ [] := by intro e; subst e; simp at hl
    obtain ⟨az', a, rfl⟩ : ∃ az' a, az = az' ++ [a] := ⟨az.dropLast, az.getLast hne, (List.dropLast_concat_getLast hne).symm⟩
    obtain ⟨h1, h2, h3, h4, h5⟩ := ih az' (by simpa using hl)
    have hlen : (az'.foldl uArm q0).s.code.length = q0.s.code.length + armsLen az' := by
      have := congrArg List.length h1
      rw [link_len, List.length_append, link_len, segArms_len] at this
      exact this
    obtain ⟨v1, v2⟩ := link_value B a.2.ty (az'.foldl uArm q0).s h2.wf
    have vl := valueM_len a.2.ty (az'.foldl uArm q0).s
    simp only [List.foldl_append, List.foldl_cons, List.foldl_nil]
    refine ⟨?_, ?_, ?_, ?_, ?_⟩
    · simp only [uArm, armM]
      rw [link_put v2.wf, v1, h1, segArms_snoc, hlen]
      simp
    · exact h2.trans (v2.trans (Ext.put v2.wf _))
    · simp only [uArm, armM]
      rw [h3, endsOf_snoc, vl, hlen]
    · intro k
      simp only [uArm]
      rw [look_fold]
      have := wayAt_snoc (h4 k) a
      simp only [wayM, hlen]
      exact this
    · simp only [uArm]
      have := wayAt_snoc h5 a
      simp only [wayM, hlen]
      by_cases hc : a.1 = []
      · simpa [hc] using this
      · have hb : a.1.isEmpty = false := by simpa using hc
        simpa [hc, hb] using this
theorem link_ends (B : List UInt8 → Nat) (e : Nat) : ∀ (az : List (List Int × DeclL)) (pre post : List StepL) , (endsOf pre.length az).foldl (fun c i => c.set i (.jump e)) (pre ++ (segArms B 0 pre.length az ++ post)) = pre ++ (segArms B e pre.length az ++ post) := by
  intro az
  induction az with
  | nil => intro pre post; rfl
  | cons a az ih =>
    intro pre post
    simp only [endsOf, segArms, List.foldl_cons]
    have e1 : (pre ++ (segTy B pre.length a.2.ty ++ StepL.jump 0 :: segArms B 0 (pre.length + armLen a) az ++ post)).set (pre.length + tyCost a.2.ty) (.jump e) = (pre ++ segTy B pre.length a.2.ty ++ [StepL.jump e]) ++ (segArms B 0 (pre.length + armLen a) az ++ post) := by
      rw [show pre ++ (segTy B pre.length a.2.ty ++ StepL.jump 0 :: segArms B 0 (pre.length + armLen a) az ++ post) = (pre ++ segTy B pre.length a.2.ty) ++ (StepL.jump 0 :: (segArms B 0 (pre.length + armLen a) az ++ post)) by simp]
      rw [List.set_append_right _ _ (by simp [segTy_len])]
      simp [segTy_len]
    rw [e1]
    have hl : (pre ++ segTy B pre.length a.2.ty ++ [StepL.jump e]).length = pre.length + armLen a := by simp [segTy_len, Nat.add_assoc]
    have := ih (pre ++ segTy B pre.length a.2.ty ++ [StepL.jump e]) post
    rw [hl] at this
    rw [this]
    simp
end Go.Proofs.YtmbcibgknckenaaGreatDoor
set_option linter.all false
set_option maxRecDepth 100000
set_option maxHeartbeats 4000000
namespace Go.Proofs.YtmbcibgknckenaaGreatDoor
theorem ends_code (l : List Nat) : ∀ (s : CSt), (endsM l s).code = l.foldl (fun c i => c.set i (.jump s.code.length)) s.code ∧ (endsM l s).calls = s.calls ∧ (endsM l s).bodies = s.bodies ∧ (endsM l s).enums = s.enums := by
  induction l with
  | nil => intro s; exact ⟨rfl, rfl, rfl, rfl⟩
  | cons i l ih =>
    intro s
    obtain ⟨h1, h2, h3, h4⟩ := ih (setM i (.jump s.code.length) s)
    have e : (setM i (.jump s.code.length) s).code.length = s.code.length := by simp [setM]
    rw [e] at h1
    exact ⟨h1, h2, h3, h4⟩
theorem link_endsM (B : List UInt8 → Nat) (l : List Nat) : ∀ (s : CSt), (∀ i ∈ l, Open s i) → linkL B (endsM l s) = l.foldl (fun c i => c.set i (.jump s.code.length)) (linkL B s) := by
  induction l with
  | nil => intro s _; rfl
  | cons i l ih =>
    intro s h
    have e : (setM i (.jump s.code.length) s).code.length = s.code.length := by simp [setM]
    have := ih (setM i (.jump s.code.length) s) (fun j hj => h j (List.mem_cons_of_mem _ hj))
    rw [e, link_set (h i (by simp))] at this
    exact this
theorem ext_endsM (l : List Nat) : ∀ (s0 s : CSt), Ext s0 s → (∀ i ∈ l, s0.code.length ≤ i) → (∀ i ∈ l, Open s i) → Ext s0 (endsM l s) := by
  induction l with
  | nil => intro s0 s h _ _; exact h
  | cons i l ih =>
    intro s0 s h h1 h2
    exact ih s0 _ (h.set (h1 i (by simp)) (h2 i (by simp)) _) (fun j hj => h1 j (List.mem_cons_of_mem _ hj)) (fun j hj => h2 j (List.mem_cons_of_mem _ hj))
theorem endsOf_ge : ∀ (az : List (List Int × DeclL)) (p : Nat), ∀ i ∈ endsOf p az, p ≤ i := by
  intro az
  induction az with
  | nil => intro p i hi; cases hi
  | cons a az ih =>
    intro p i hi
    simp only [endsOf, List.mem_cons] at hi
    rcases hi with rfl | hi
    · omega
    · have := ih _ i hi
      omega
theorem ends_jump (q0 : USt) (h0 : Wf q0.s) (he : q0.ends = []) : ∀ (n : Nat) (az : List (List Int × DeclL)), az.length = n → Wf (az.foldl uArm q0).s ∧ ∀ i ∈ (az.foldl uArm q0).ends, (az.foldl uArm q0).s.code[i]? = some (.jump 0) := by
  intro n
  induction n with
  | zero =>
    intro az hl
    have : az = [] := List.length_eq_zero_iff.1 hl
    subst this
    exact ⟨h0, by intro i hi; simp [he] at hi⟩
  | succ n ih =>
    intro az hl
    have hne : az ≠ [] := by intro e; subst e; simp at hl
    obtain ⟨az', a, rfl⟩ : ∃ az' a, az = az' ++ [a] := ⟨az.dropLast, az.getLast hne, (List.dropLast_concat_getLast hne).symm⟩
    obtain ⟨h1, h2⟩ := ih az' (by simpa using hl)
    obtain ⟨_, v2⟩ := link_value (fun _ => 0) a.2.ty (az'.foldl uArm q0).s h1
    simp only [List.foldl_append, List.foldl_cons, List.foldl_nil]
    refine ⟨v2.wf.put _, ?_⟩
    intro i hi
    simp only [uArm, List.mem_append, List.mem_singleton] at hi ⊢
    rcases hi with hi | rfl
    · have hl : i < (az'.foldl uArm q0).s.code.length := by
        by_cases hl : i < (az'.foldl uArm q0).s.code.length
        · exact hl
        · have := h2 i hi
          rw [List.getElem?_eq_none (by omega)] at this
          cases this
      simp only [putM, armM]
      rw [List.getElem?_append_left (Nat.lt_of_lt_of_le hl v2.len), v2.old i hl]
      exact h2 i hi
    · simp [putM, armM]
theorem link_union (B : List UInt8 → Nat) (sel : DeclL) (arms : List (List Int × DeclL)) (s : CSt) (h : Wf s) :
    ∃ ws o, linkL B (unionM sel arms s) = linkL B s ++ (.choice (selectorM s sel.ty) ws o :: segArms B (s.code.length + 1 + armsLen arms) (s.code.length + 1) arms) ∧ Ext s (unionM sel arms s) ∧
      (∀ n, wayAt (s.code.length + 1) arms (fun a => a.1.contains n) (mlook ws n)) ∧ wayAt (s.code.length + 1) arms (fun a => a.1.isEmpty) o := by
  have h1 := h.put .hole
  have e1 : (putM .hole s).code.length = s.code.length + 1 := by simp [putM]
  obtain ⟨a1, a2, a3, a4, a5⟩ := link_arms B ⟨putM .hole s, [], none, []⟩ h1 rfl rfl rfl arms.length arms rfl
  obtain ⟨_, b2⟩ := ends_jump ⟨putM .hole s, [], none, []⟩ h1 rfl arms.length arms rfl
  simp only [e1] at a1 a2 a3 a4 a5
  have op1 : Open (arms.foldl uArm ⟨putM .hole s, [], none, []⟩).s s.code.length := a2.op _ (by rw [e1]; omega) (hole_open h)
  have hq : (arms.foldl uArm ⟨putM .hole s, [], none, []⟩).s.code.length = s.code.length + 1 + armsLen arms := by
    have := congrArg List.length a1
    rw [link_len, List.length_append, link_len, segArms_len, e1] at this
    exact this
  have hge : ∀ i ∈ (arms.foldl uArm ⟨putM .hole s, [], none, []⟩).ends, s.code.length + 1 ≤ i := by
    intro i hi
    rw [a3] at hi
    exact endsOf_ge _ _ i hi
  have exs := ((Ext.put h .hole).trans a2).set (Nat.le_refl _) op1 (.choice (selectorM s sel.ty) (arms.foldl uArm ⟨putM .hole s, [], none, []⟩).ways (arms.foldl uArm ⟨putM .hole s, [], none, []⟩).other)
  have hop : ∀ i ∈ (arms.foldl uArm ⟨putM .hole s, [], none, []⟩).ends, Open (setM s.code.length (.choice (selectorM s sel.ty) (arms.foldl uArm ⟨putM .hole s, [], none, []⟩).ways (arms.foldl uArm ⟨putM .hole s, [], none, []⟩).other) (arms.foldl uArm ⟨putM .hole s, [], none, []⟩).s) i := by
    intro i hi
    have h' : Open (arms.foldl uArm ⟨putM .hole s, [], none, []⟩).s i := open_of a2.wf (b2 i hi) (by simp)
    exact h'
  refine ⟨_, _, ?_, ext_endsM _ _ _ exs (fun i hi => by have := hge i hi; omega) hop, a4, a5⟩
  simp only [unionM]
  rw [link_endsM B _ _ hop, link_set op1, a1, link_put h, a3]
  have hs : (setM s.code.length (.choice (selectorM s sel.ty) (arms.foldl uArm ⟨putM .hole s, [], none, []⟩).ways (arms.foldl uArm ⟨putM .hole s, [], none, []⟩).other) (arms.foldl uArm ⟨putM .hole s, [], none, []⟩).s).code.length = s.code.length + 1 + armsLen arms := by simp [setM, hq]
  rw [hs]
  have hl : s.code.length = (linkL B s).length := link_len.symm
  have e2 : (linkL B s ++ [StepL.hole] ++ segArms B 0 (s.code.length + 1) arms).set s.code.length (.choice (selectorM s sel.ty) (arms.foldl uArm ⟨putM .hole s, [], none, []⟩).ways (arms.foldl uArm ⟨putM .hole s, [], none, []⟩).other) = (linkL B s ++ [StepL.choice (selectorM s sel.ty) (arms.foldl uArm ⟨putM .hole s, [], none, []⟩).ways (arms.foldl uArm ⟨putM .hole s, [], none, []⟩).other]) ++ (segArms B 0 (s.code.length + 1) arms ++ []) := by
    rw [show linkL B s ++ [StepL.hole] ++ segArms B 0 (s.code.length + 1) arms = linkL B s ++ (StepL.hole :: segArms B 0 (s.code.length + 1) arms) by simp]
    rw [List.set_append_right _ _ (by omega)]
    simp [hl]
  rw [e2]
  have hl2 : (linkL B s ++ [StepL.choice (selectorM s sel.ty) (arms.foldl uArm ⟨putM .hole s, [], none, []⟩).ways (arms.foldl uArm ⟨putM .hole s, [], none, []⟩).other]).length = s.code.length + 1 := by simp [hl]
  have := link_ends B (s.code.length + 1 + armsLen arms) arms (linkL B s ++ [StepL.choice (selectorM s sel.ty) (arms.foldl uArm ⟨putM .hole s, [], none, []⟩).ways (arms.foldl uArm ⟨putM .hole s, [], none, []⟩).other]) []
  rw [hl2] at this
  rw [this]
  simp
def KnownDef (E : Env) (d : DefL) : Prop := ∀ t ∈ defTys d, KnownTy E t
def SelIs (E : Env) (s : CSt) : DefL → Prop
  | .union _ _ sel _ => selectorM s sel.ty = selD E sel.ty
  | _ => True
theorem armOf_way {arms : List (List Int × DeclL)} {p : Nat} {ws : List (Int × Nat × Nat)} {o : Option (Nat × Nat)} {c : List StepL} {B : List UInt8 → Nat} {E : Env} {e : Nat}
    (h1 : ∀ n, wayAt p arms (fun a => a.1.contains n) (mlook ws n)) (h2 : wayAt p arms (fun a => a.1.isEmpty) o) (hs : Sub c p (segArms B e p arms)) (hk : ∀ a ∈ arms, KnownTy E a.2.ty) (n : Int) :
    match armOf arms n with
        | none => mlook ws n = none ∧ o = none
        | some t => ∃ q, (match mlook ws n with | some q => some q | none => o) = some q ∧ q.2 = (if isVoid t then 0 else 1) ∧ AtTy c B E q.1 t ∧ c[q.1 + tyCost t]? = some (.jump e) := by
  have h3 := h1 n
  have key : ∀ (f : List Int × DeclL → Bool) (w : Option (Nat × Nat)) (a : List Int × DeclL), arms.reverse.find? f = some a → wayAt p arms f w → ∃ q, w = some q ∧ q.2 = (if isVoid a.2.ty then 0 else 1) ∧ AtTy c B E q.1 a.2.ty ∧ c[q.1 + tyCost a.2.ty]? = some (.jump e) := by
    intro f w a hf hw
    unfold wayAt at hw
    rw [hf] at hw
    obtain ⟨as1, as2, ha, hq⟩ := hw
    refine ⟨_, hq, rfl, ?_⟩
    rw [ha] at hs
    obtain ⟨g1, g2⟩ := at_arm as1 as2 p hs
    exact ⟨at_ty _ _ (hk a (by rw [ha]; simp)) g1, g2⟩
  unfold armOf
  cases hf : arms.reverse.find? (fun a => a.1.contains n) with
  | some a =>
    obtain ⟨q, g1, g2⟩ := key _ _ a hf h3
    exact ⟨q, by rw [g1], g2⟩
  | none =>
    unfold wayAt at h3
    rw [hf] at h3
    simp only [h3]
    cases hg : arms.reverse.find? (fun a => a.1.isEmpty) with
    | none =>
      unfold wayAt at h2
      rw [hg] at h2
      exact ⟨trivial, h2⟩
    | some a =>
      obtain ⟨q, g1, g2⟩ := key _ _ a hg h2
      exact ⟨q, g1, g2⟩
theorem link_def (B : List UInt8 → Nat) (d : DefL) (s : CSt) (h : Wf s) (ht : isTypeL d = true) :
    ∃ seg, linkL B (definitionM d s) = linkL B s ++ seg ∧ Wf (definitionM d s) ∧ (definitionM d s).bodies = mput s.bodies (titleL d).1 s.code.length ∧
      (∀ (c : List StepL) (E : Env), Sub c s.code.length seg → KnownDef E d → SelIs E s d → AtDef c B E s.code.length d) := by
  cases d with
  | const t a v => simp [isTypeL] at ht
  | prog t a v n => simp [isTypeL] at ht
  | typedef d =>
    obtain ⟨h1, h2⟩ := link_value B d.ty s h
    refine ⟨segTy B s.code.length d.ty ++ [.ret], ?_, h2.wf.put _, ?_, ?_⟩
    · have := link_put (B := B) h2.wf .ret
      simp only [definitionM, bodyM]
      show linkL B (putM .ret (valueM d.ty s)) = _
      rw [this, h1]
      simp
    · simp only [definitionM, bodyM, h2.bo]
      rfl
    · intro c E hs hk _
      obtain ⟨g1, g2⟩ := hs.app
      rw [segTy_len] at g2
      exact ⟨at_ty _ _ (hk d.ty (by simp [defTys])) g1, g2.cons.1⟩
  | enum t a ms =>
    have h1 : Wf { s with enums := mput s.enums t (membersM ms) } := h
    refine ⟨[.num (membersM ms), .ret], ?_, (h1.put _).put _, rfl, ?_⟩
    · simp only [definitionM, bodyM]
      show linkL B (putM .ret (putM (.num (membersM ms)) { s with enums := mput s.enums t (membersM ms) })) = _
      rw [link_put (h1.put _), link_put h1]
      show linkL B s ++ [_] ++ [_] = _
      simp
    · intro c E hs _ _
      exact ⟨hs.cons.1, hs.cons.2.cons.1⟩
  | struct t a ms =>
    have e1 : (putM (.struct ms.length true) s).code.length = s.code.length + 1 := by simp [putM]
    obtain ⟨h1, h2⟩ := link_all B (ms.map (·.ty)) (putM (.struct ms.length true) s) (h.put _)
    have ef : structureM ms s = (ms.map (·.ty)).foldl (fun s t => valueM t s) (putM (.struct ms.length true) s) := by
      simp only [structureM, List.foldl_map]
    rw [e1] at h1
    have ex := (Ext.put h (.struct ms.length true)).trans h2
    refine ⟨.struct ms.length true :: (segAll B (s.code.length + 1) (ms.map (·.ty)) ++ [.ret]), ?_, ?_, ?_, ?_⟩
    · simp only [definitionM, bodyM]
      show linkL B (putM .ret (structureM ms s)) = _
      rw [ef, link_put h2.wf, h1, link_put h]
      simp
    · show Wf (putM .ret (structureM ms s))
      rw [ef]
      exact h2.wf.put _
    · simp only [definitionM, bodyM]
      rw [ef, ex.bo]
      rfl
    · intro c E hs hk _
      obtain ⟨g1, g2⟩ := hs.cons
      obtain ⟨g3, g4⟩ := g2.app
      rw [segAll_len] at g4
      exact ⟨g1, at_all _ _ hk g3, g4.cons.1⟩
  | union t a sel arms =>
    obtain ⟨ws, o, h1, h2, h3, h4⟩ := link_union B sel arms s h
    refine ⟨.choice (selectorM s sel.ty) ws o :: (segArms B (s.code.length + 1 + armsLen arms) (s.code.length + 1) arms ++ [.ret]), ?_, ?_, ?_, ?_⟩
    · simp only [definitionM, bodyM]
      show linkL B (putM .ret (unionM sel arms s)) = _
      rw [link_put h2.wf, h1]
      simp
    · exact h2.wf.put _
    · simp only [definitionM, bodyM, h2.bo]
      rfl
    · intro c E hs hk hsel
      obtain ⟨g1, g2⟩ := hs.cons
      obtain ⟨g3, g4⟩ := g2.app
      rw [segArms_len] at g4
      have hsel' : selectorM s sel.ty = selD E sel.ty := hsel
      rw [hsel'] at g1
      exact ⟨ws, o, s.code.length + 1 + armsLen arms, g1, g4.cons.1, armOf_way h3 h4 g3 (fun a ha => hk _ (by simp [defTys]; exact ⟨_, _, ha, rfl⟩))⟩
theorem def_enums (d : DefL) (s : CSt) (h : Wf s) (n : List UInt8) : mlook (definitionM d s).enums n = match d with
    | .enum t _ ms => if n = t then some (membersM ms) else mlook s.enums n
    | _ => mlook s.enums n := by
  cases d with
  | enum t a ms => exact mlook_mput _ _ _ _
  | const t a v => rfl
  | prog t a v n => rfl
  | typedef d => simp only [definitionM, bodyM, putM, (link_value (fun _ => 0) d.ty s h).2.en]
  | struct t a ms =>
    have ef : structureM ms s = (ms.map (·.ty)).foldl (fun s t => valueM t s) (putM (.struct ms.length true) s) := by simp only [structureM, List.foldl_map]
    simp only [definitionM, bodyM, putM, ef]
    have := ((Ext.put h (.struct ms.length true)).trans (link_all (fun _ => 0) (ms.map (·.ty)) (putM (.struct ms.length true) s) (h.put _)).2).en
    simp only [putM] at this
    rw [this]
  | union t a sel arms =>
    obtain ⟨ws, o, _, h2, _⟩ := link_union (fun _ => 0) sel arms s h
    simp only [definitionM, bodyM, putM, h2.en]
def compAll (ds : List DefL) : CSt := ds.foldl (fun s d => definitionM d s) st0C
theorem compAll_snoc (ds : List DefL) (d : DefL) : compAll (ds ++ [d]) = definitionM d (compAll ds) := by simp [compAll]
theorem definitionM_none {d : DefL} (h : isTypeL d = false) (s : CSt) : definitionM d s = s := by cases d <;> simp [isTypeL] at h <;> rfl
theorem comp_all (B : List UInt8 → Nat) : ∀ (k : Nat) (ds : List DefL), ds.length = k →
    Wf (compAll ds) ∧ (∀ n, (∀ d ∈ ds, isTypeL d = true → (titleL d).1 ≠ n) → mlook (compAll ds).bodies n = none) ∧
    (∀ az d bs, ds = az ++ d :: bs → isTypeL d = true → (∀ e ∈ bs, isTypeL e = true → (titleL e).1 ≠ (titleL d).1) → mlook (compAll ds).bodies (titleL d).1 = some (compAll az).code.length) ∧
    (∀ az bs, ds = az ++ bs → ∃ post, linkL B (compAll ds) = linkL B (compAll az) ++ post) ∧
    (∀ az t a ms bs, ds = az ++ DefL.enum t a ms :: bs → (∀ e ∈ bs, isTypeL e = true → (titleL e).1 ≠ t) → mlook (compAll ds).enums t = some (membersM ms)) := by
  intro k
  induction k with
  | zero =>
    intro ds hl
    have : ds = [] := List.length_eq_zero_iff.1 hl
    subst this
    refine ⟨(by intro k hk; cases hk), fun n _ => rfl, ?_, ?_, ?_⟩
    · intro az d bs h; simp at h
    · intro az bs h
      have : az = [] := by simp at h; exact h.1
      subst this
      exact ⟨[], by simp⟩
    · intro az t a ms bs h; simp at h
  | succ k ih =>
    intro ds hl
    have hne : ds ≠ [] := by intro e; subst e; simp at hl
    obtain ⟨ds', z, rfl⟩ : ∃ ds' z, ds = ds' ++ [z] := ⟨ds.dropLast, ds.getLast hne, (List.dropLast_concat_getLast hne).symm⟩
    obtain ⟨h1, h2, h3, h4, h5⟩ := ih ds' (by simpa using hl)
    rw [compAll_snoc]
    have split : ∀ (az : List DefL) (d : DefL) (bs : List DefL), ds' ++ [z] = az ++ d :: bs → (bs = [] ∧ d = z ∧ az = ds') ∨ ∃ bs', bs = bs' ++ [z] ∧ ds' = az ++ d :: bs' := by
      intro az d bs h
      by_cases hb : bs = []
      · subst hb
        obtain ⟨e1, e2⟩ := List.append_inj' h rfl
        simp at e2
        exact Or.inl ⟨rfl, e2.symm, e1.symm⟩
      · obtain ⟨bs', y, rfl⟩ : ∃ bs' y, bs = bs' ++ [y] := ⟨bs.dropLast, bs.getLast hb, (List.dropLast_concat_getLast hb).symm⟩
        have h' : ds' ++ [z] = (az ++ d :: bs') ++ [y] := by rw [h]; simp
        obtain ⟨e1, e2⟩ := List.append_inj' h' rfl
        simp at e2
        exact Or.inr ⟨bs', by rw [e2], e1⟩
    cases hz : isTypeL z with
    | false =>
      rw [definitionM_none hz]
      refine ⟨h1, ?_, ?_, ?_, ?_⟩
      · intro n hn
        exact h2 n (fun d hd => hn d (List.mem_append_left _ hd))
      · intro az d bs h ht hb
        rcases split az d bs h with ⟨_, rfl, _⟩ | ⟨bs', rfl, h'⟩
        · rw [hz] at ht; cases ht
        · exact h3 az d bs' h' ht (fun e he => hb e (List.mem_append_left _ he))
      · intro az bs h
        by_cases hb : bs = []
        · subst hb
          refine ⟨[], ?_⟩
          simp at h
          rw [← h, compAll_snoc, definitionM_none hz]
          simp
        · obtain ⟨bs', y, rfl⟩ : ∃ bs' y, bs = bs' ++ [y] := ⟨bs.dropLast, bs.getLast hb, (List.dropLast_concat_getLast hb).symm⟩
          have h' : ds' ++ [z] = (az ++ bs') ++ [y] := by rw [h]; simp
          obtain ⟨e1, _⟩ := List.append_inj' h' rfl
          exact h4 az bs' e1
      · intro az t a ms bs h hb
        rcases split az _ bs h with ⟨_, rfl, _⟩ | ⟨bs', rfl, h'⟩
        · simp [isTypeL] at hz
        · exact h5 az t a ms bs' h' (fun e he => hb e (List.mem_append_left _ he))
    | true =>
      obtain ⟨seg, g1, g2, g3, g4⟩ := link_def B z (compAll ds') h1 hz
      refine ⟨g2, ?_, ?_, ?_, ?_⟩
      · intro n hn
        rw [g3, mlook_mput, if_neg (fun e => hn z (by simp) hz e.symm)]
        exact h2 n (fun d hd => hn d (List.mem_append_left _ hd))
      · intro az d bs h ht hb
        rw [g3, mlook_mput]
        rcases split az d bs h with ⟨_, rfl, rfl⟩ | ⟨bs', rfl, h'⟩
        · rw [if_pos rfl]
        · rw [if_neg (fun e => hb z (by simp) hz e.symm)]
          exact h3 az d bs' h' ht (fun e he => hb e (List.mem_append_left _ he))
      · intro az bs h
        by_cases hb : bs = []
        · subst hb
          refine ⟨[], ?_⟩
          simp at h
          rw [← h, compAll_snoc]
          simp
        · obtain ⟨bs', y, rfl⟩ : ∃ bs' y, bs = bs' ++ [y] := ⟨bs.dropLast, bs.getLast hb, (List.dropLast_concat_getLast hb).symm⟩
          have h' : ds' ++ [z] = (az ++ bs') ++ [y] := by rw [h]; simp
          obtain ⟨e1, _⟩ := List.append_inj' h' rfl
          obtain ⟨post, hp⟩ := h4 az bs' e1
          exact ⟨post ++ seg, by rw [g1, hp]; simp⟩
      · intro az t a ms bs h hb
        rw [def_enums z _ h1]
        rcases split az _ bs h with ⟨_, rfl, rfl⟩ | ⟨bs', rfl, h'⟩
        · simp
        · have ho := h5 az t a ms bs' h' (fun e he => hb e (List.mem_append_left _ he))
          have hne := hb z (by simp) hz
          cases z with
          | enum t' a' ms' =>
            simp only
            rw [if_neg (fun e => hne (by rw [e]; rfl))]
            exact ho
          | _ => exact ho
end Go.Proofs.YtmbcibgknckenaaGreatDoor
set_option linter.all false
set_option maxRecDepth 100000
set_option maxHeartbeats 4000000
namespace Go.Proofs.YtmbcibgknckenaaGreatDoor
theorem linkM_code (s : CSt) : (linkM s).code = linkL (fun n => (mlook s.bodies n).getD 0) s := by
  have key : ∀ (l : List (Nat × List UInt8)) (s' : CSt), s'.bodies = s.bodies → (l.foldl (fun s k => setM k.1 (.call ((look s.bodies k.2).getD 0)) s) s').code = l.foldl (fun c k => c.set k.1 (.call ((mlook s.bodies k.2).getD 0))) s'.code := by
    intro l
    induction l with
    | nil => intro s' _; rfl
    | cons k l ih =>
      intro s' h
      simp only [List.foldl_cons]
      rw [ih (setM k.1 (.call ((look s'.bodies k.2).getD 0)) s') h, h, look_mlook]
      rfl
  exact key s.calls s rfl
theorem starts_all (B : List UInt8 → Nat) (s0 : CSt) (h0 : Wf s0) : ∀ (k : Nat) (az : List DefL), az.length = k →
    Wf (az.foldl startsM (s0, [])).1 ∧ (az.foldl startsM (s0, [])).1.bodies = s0.bodies ∧ (∃ post, linkL B (az.foldl startsM (s0, [])).1 = linkL B s0 ++ post) ∧
    (∀ n q, mlook (az.foldl startsM (s0, [])).2 n = some q → (linkL B (az.foldl startsM (s0, [])).1)[q]? = some (.call (B n)) ∧ (linkL B (az.foldl startsM (s0, [])).1)[q + 1]? = some .fin ∧ (mlook s0.bodies n).isSome) ∧
    (∀ d ∈ az, (mlook s0.bodies (titleL d).1).isSome → (mlook (az.foldl startsM (s0, [])).2 (titleL d).1).isSome) := by
  intro k
  induction k with
  | zero =>
    intro az hl
    have : az = [] := List.length_eq_zero_iff.1 hl
    subst this
    exact ⟨h0, rfl, ⟨[], by simp⟩, (by intro n q h; cases h), by intro d hd; cases hd⟩
  | succ k ih =>
    intro az hl
    have hne : az ≠ [] := by intro e; subst e; simp at hl
    obtain ⟨az', z, rfl⟩ : ∃ az' z, az = az' ++ [z] := ⟨az.dropLast, az.getLast hne, (List.dropLast_concat_getLast hne).symm⟩
    obtain ⟨h1, h2, ⟨post, h3⟩, h4, h5⟩ := ih az' (by simpa using hl)
    rw [List.foldl_append]
    simp only [List.foldl_cons, List.foldl_nil]
    generalize az'.foldl startsM (s0, []) = p at h1 h2 h3 h4 h5 ⊢
    unfold startsM
    rw [look_mlook, h2]
    cases hb : (mlook s0.bodies (titleL z).1).isSome with
    | false =>
      simp only [Bool.false_eq_true, if_false]
      refine ⟨h1, h2, ⟨post, h3⟩, h4, ?_⟩
      intro d hd hs
      rcases List.mem_append.1 hd with hd | hd
      · exact h5 d hd hs
      · simp only [List.mem_singleton] at hd
        subst hd
        rw [hb] at hs
        cases hs
    | true =>
      simp only [if_true]
      have w1 := h1.call (titleL z).1
      have e1 : linkL B (startM (titleL z).1 p.1) = linkL B p.1 ++ [.call (B (titleL z).1), .fin] := by
        unfold startM
        rw [link_put w1, link_call h1]
        simp
      have hl : (linkL B p.1).length = p.1.code.length := link_len
      refine ⟨w1.put _, h2, ⟨post ++ [.call (B (titleL z).1), .fin], by rw [e1, h3]; simp⟩, ?_, ?_⟩
      · intro n q hq
        rw [mlook_mput] at hq
        rw [e1]
        split at hq
        · rename_i hn
          subst hn
          cases hq
          refine ⟨?_, ?_, hb⟩
          · rw [List.getElem?_append_right (by omega), hl]
            simp
          · rw [List.getElem?_append_right (by omega), hl]
            simp
        · obtain ⟨g1, g2, g3⟩ := h4 n q hq
          have lt : ∀ (j : Nat) (x : StepL), (linkL B p.1)[j]? = some x → j < (linkL B p.1).length := by
            intro j x hx
            by_cases hj : j < (linkL B p.1).length
            · exact hj
            · rw [List.getElem?_eq_none (by omega)] at hx; cases hx
          rw [List.getElem?_append_left (lt _ _ g1), List.getElem?_append_left (lt _ _ g2)]
          exact ⟨g1, g2, g3⟩
      · intro d hd hs
        rw [mlook_mput]
        split
        · rfl
        · rename_i hn
          rcases List.mem_append.1 hd with hd | hd
          · exact h5 d hd hs
          · simp only [List.mem_singleton] at hd
            exact absurd (by rw [hd]) hn
theorem Ext.refl {s : CSt} (h : Wf s) : Ext s s := ⟨h, rfl, rfl, Nat.le_refl _, fun _ _ ho => ho, fun _ _ => rfl⟩
theorem link_start (B : List UInt8 → Nat) (t : Ty) (s : CSt) (h : Wf s) : Ext s (startT t s) ∧ linkL B (startT t s) = linkL B s ++ (segTy B s.code.length t ++ [.fin]) := by
  obtain ⟨h1, h2⟩ := link_value B t s h
  refine ⟨h2.trans (Ext.put h2.wf _), ?_⟩
  unfold startT
  rw [link_put h2.wf, h1]
  simp
theorem fold_grows {α β : Type} (B : List UInt8 → Nat) (f : CSt × α → β → CSt × α) (hf : ∀ q b, Wf q.1 → Ext q.1 (f q b).1 ∧ ∃ post, linkL B (f q b).1 = linkL B q.1 ++ post) : ∀ (l : List β) (q : CSt × α), Wf q.1 → Ext q.1 (l.foldl f q).1 ∧ ∃ post, linkL B (l.foldl f q).1 = linkL B q.1 ++ post := by
  intro l
  induction l with
  | nil => intro q h; exact ⟨Ext.refl h, [], by simp⟩
  | cons b l ih =>
    intro q h
    obtain ⟨h1, p1, e1⟩ := hf q b h
    obtain ⟨h2, p2, e2⟩ := ih (f q b) h1.wf
    exact ⟨h1.trans h2, p1 ++ p2, by rw [List.foldl_cons, e2, e1]; simp⟩
theorem proc_grows (B : List UInt8 → Nat) (q : CSt × List (Int × Nat × Nat)) (p : ProcL) (h : Wf q.1) : Ext q.1 (procStep q p).1 ∧ ∃ post, linkL B (procStep q p).1 = linkL B q.1 ++ post := by
  obtain ⟨h1, e1⟩ := link_start B p.arg q.1 h
  obtain ⟨h2, e2⟩ := link_start B p.res _ h1.wf
  exact ⟨h1.trans h2, _, by show linkL B (startT p.res (startT p.arg q.1)) = _; rw [e2, e1, List.append_assoc]⟩
theorem ver_grows (B : List UInt8 → Nat) (q : CSt × PrgL) (v : VersionL) (h : Wf q.1) : Ext q.1 (verStep q v).1 ∧ ∃ post, linkL B (verStep q v).1 = linkL B q.1 ++ post := fold_grows B procStep (proc_grows B) v.procs (q.1, []) h
theorem prog_grows (B : List UInt8 → Nat) (q : CSt × List (Int × PrgL)) (d : DefL) (h : Wf q.1) : Ext q.1 (progStep q d).1 ∧ ∃ post, linkL B (progStep q d).1 = linkL B q.1 ++ post := by
  cases d with
  | prog t a vs num => exact fold_grows B verStep (ver_grows B) vs (q.1, _) h
  | _ => exact ⟨Ext.refl h, [], by simp [progStep]⟩
theorem progs_all (B : List UInt8 → Nat) (ds : List DefL) (s0 : CSt) (h0 : Wf s0) : Ext s0 (ds.foldl progStep (s0, [])).1 ∧ ∃ post, linkL B (ds.foldl progStep (s0, [])).1 = linkL B s0 ++ post := fold_grows B progStep (prog_grows B) ds (s0, []) h0
def envOf (ds : List DefL) : Env := fun n => ds.find? fun d => isTypeL d && decide ((titleL d).1 = n)
theorem envOf_some {ds : List DefL} {n : List UInt8} {d : DefL} (h : envOf ds n = some d) : isTypeL d = true ∧ (titleL d).1 = n ∧ ∃ az bs, ds = az ++ d :: bs := by
  unfold envOf at h
  have h1 := List.find?_some h
  simp only [Bool.and_eq_true, decide_eq_true_eq] at h1
  exact ⟨h1.1, h1.2, List.append_of_mem (List.mem_of_find?_eq_some h)⟩
theorem envOf_none {ds : List DefL} {n : List UInt8} (h : envOf ds n = none) : ∀ d ∈ ds, isTypeL d = true → (titleL d).1 ≠ n := by
  intro d hd ht e
  unfold envOf at h
  have := List.find?_eq_none.1 h d hd
  simp [ht, e] at this
structure Whole (ds : List DefL) : Prop where
  nd : ∀ az d bs, ds = az ++ d :: bs → isTypeL d = true → ∀ e ∈ bs, isTypeL e = true → (titleL e).1 ≠ (titleL d).1
  known : ∀ d ∈ ds, isTypeL d = true → KnownDef (envOf ds) d
  sel : ∀ az t a s arms bs n a', ds = az ++ DefL.union t a s arms :: bs → s.ty = .named n a' → ∃ as1 a2 ms as2, az = as1 ++ DefL.enum n a2 ms :: as2
  sim : ∀ t a s arms, DefL.union t a s arms ∈ ds → Simple s.ty
  deep : ∀ d ∈ ds, ∀ t ∈ defTys d, OneDeep t
theorem Whole.env {ds : List DefL} (h : Whole ds) {az bs : List DefL} {d : DefL} (hd : ds = az ++ d :: bs) (ht : isTypeL d = true) : envOf ds (titleL d).1 = some d := by
  unfold envOf
  rw [hd, List.find?_append]
  have : az.find? (fun e => isTypeL e && decide ((titleL e).1 = (titleL d).1)) = none := by
    rw [List.find?_eq_none]
    intro e he hc
    simp only [Bool.and_eq_true, decide_eq_true_eq] at hc
    obtain ⟨a1, a2, rfl⟩ := List.append_of_mem he
    have := h.nd a1 e (a2 ++ d :: bs) (by rw [hd]; simp) hc.1 d (by simp) ht
    exact this hc.2.symm
  rw [this]
  simp [ht]
theorem getElem?_app {α : Type} {l m : List α} {i : Nat} {x : α} (h : l[i]? = some x) : (l ++ m)[i]? = some x := by
  have hi : i < l.length := by
    by_cases hi : i < l.length
    · exact hi
    · rw [List.getElem?_eq_none (by omega)] at h; cases h
  rw [List.getElem?_append_left hi, h]
theorem types_ok {ds : List DefL} (h : Whole ds) : ∃ B, AllAt (typesM ds).1 B (envOf ds) ∧ ∀ n, match mlook (typesM ds).2 n with
    | none => envOf ds n = none
    | some p => (envOf ds n).isSome ∧ (typesM ds).1[p]? = some (.call (B n)) ∧ (typesM ds).1[p + 1]? = some .fin := by
  refine ⟨fun n => (mlook (compAll ds).bodies n).getD 0, ?_⟩
  obtain ⟨c1, c2, c3, c4, _⟩ := comp_all (fun n => (mlook (compAll ds).bodies n).getD 0) ds.length ds rfl
  obtain ⟨s1, s2, ⟨post, s3⟩, s4, s5⟩ := starts_all (fun n => (mlook (compAll ds).bodies n).getD 0) (compAll ds) c1 ds.length ds rfl
  obtain ⟨g1, postp, gp⟩ := progs_all (fun n => (mlook (compAll ds).bodies n).getD 0) ds (ds.foldl startsM (compAll ds, [])).1 s1
  have hc : (typesM ds).1 = linkL (fun n => (mlook (compAll ds).bodies n).getD 0) (ds.foldl startsM (compAll ds, [])).1 ++ postp := by
    show (linkM (ds.foldl progStep ((ds.foldl startsM (compAll ds, [])).1, [])).1).code = _
    rw [linkM_code, g1.bo, s2, gp]
  have hst : (typesM ds).2 = (ds.foldl startsM (compAll ds, [])).2 := rfl
  rw [hc, hst]
  generalize hB : (fun n => (mlook (compAll ds).bodies n).getD 0) = B at *
  refine ⟨?_, ?_⟩
  · intro n df hE
    obtain ⟨ht, hn, az, bs, hd⟩ := envOf_some hE
    refine ⟨?_, ?_, h.deep df (by rw [hd]; simp), ?_⟩
    · intro t a v e; subst e; simp [isTypeL] at ht
    · intro t a v n e; subst e; simp [isTypeL] at ht
    · have hpl := c3 az df bs hd ht (h.nd az df bs hd ht)
      have hBn : B n = (compAll az).code.length := by
        rw [← hB]
        simp only
        rw [← hn, hpl]
        rfl
      rw [hBn]
      obtain ⟨w1, _, _, _, w5⟩ := comp_all B az.length az rfl
      obtain ⟨seg, g1, g2, g3, g4⟩ := link_def B df (compAll az) w1 ht
      obtain ⟨p2, hp2⟩ := c4 (az ++ [df]) bs (by rw [hd]; simp)
      refine g4 _ _ ?_ (h.known df (by rw [hd]; simp) ht) ?_
      · have : (linkL B (compAll az)).length = (compAll az).code.length := link_len
        rw [← this]
        refine Sub.at (post := p2 ++ post ++ postp) ?_
        rw [s3, hp2, compAll_snoc, g1]
        simp
      · cases df with
        | union t a sel arms =>
          show selectorM (compAll az) sel.ty = selD (envOf ds) sel.ty
          have hsim := h.sim t a sel arms (by rw [hd]; simp)
          cases hty : sel.ty with
          | named m a' =>
            obtain ⟨as1, a2, ms, as2, has⟩ := h.sel az t a sel arms bs m a' hd hty
            have hd' : ds = as1 ++ DefL.enum m a2 ms :: (as2 ++ DefL.union t a sel arms :: bs) := by rw [hd, has]; simp
            have e1 : envOf ds m = some (.enum m a2 ms) := h.env hd' rfl
            have e2 : mlook (compAll az).enums m = some (membersM ms) := w5 as1 m a2 ms as2 has (fun e he ht' => h.nd as1 _ _ hd' rfl e (List.mem_append_left _ he) ht')
            simp only [selectorM, selD, e1, look_mlook, e2, Option.getD_some]
          | plain k => rfl
          | _ => rw [hty] at hsim; simp [Simple] at hsim
        | _ => trivial
  · intro n
    cases hm : mlook (ds.foldl startsM (compAll ds, [])).2 n with
    | some p =>
      obtain ⟨g1, g2, g3⟩ := s4 n p hm
      have hBn : B n = (mlook (compAll ds).bodies n).getD 0 := by rw [← hB]
      refine ⟨?_, by rw [hBn]; exact getElem?_app g1, getElem?_app g2⟩
      cases he : envOf ds n with
      | some d => rfl
      | none =>
        rw [c2 n (envOf_none he)] at g3
        cases g3
    | none =>
      show envOf ds n = none
      cases he : envOf ds n with
      | none => rfl
      | some d =>
        obtain ⟨ht, hn, az, bs, hd⟩ := envOf_some he
        have hpl := c3 az d bs hd ht (h.nd az d bs hd ht)
        have := s5 d (by rw [hd]; simp) (by rw [hpl]; rfl)
        rw [hn, hm] at this
        cases this
end Go.Proofs.YtmbcibgknckenaaGreatDoor
