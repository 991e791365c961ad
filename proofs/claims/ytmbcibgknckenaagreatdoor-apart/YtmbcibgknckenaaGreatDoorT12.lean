import Derived.Test.YtmbcibgknckenaaGreatDoorT11
set_option linter.all false
set_option maxRecDepth 100000
set_option maxHeartbeats 4000000
namespace Go.Proofs.YtmbcibgknckenaaGreatDoor
open Go.RowKit
open Go.MapKept
theorem infoNode : (Tryz.prog.info? 48).map (fun i => (i.zero, i.size, i.bytes)) = some (some (.agg #[.int .i64 0, .int .i64 0, .string ⟨#[]⟩, .int .i64 0, .int .i64 0]), 5, 48) := by kernel_rfl
theorem one_node (x : NodeL) : ∀ u ∈ nodeC x, u.oneCell' = true := by
  intro u hu
  simp at hu
  rcases hu with rfl | rfl | rfl | rfl | rfl <;> rfl
section
variable {w u : World} {D : Nat} {Fr bs : List (Nat × Obj)} {b : List UInt8} {dep fuel size : Nat} {d : DSt} {nsl : Value}
theorem DecAt.put {u2 u3 : World} {g cap : Nat} {x : NodeL} (h : DecAt w D Fr bs b dep fuel size d nsl u) (hb : Below u.heap.size u u2) (hfew : d.nodes.length < 10000)
    (hown : u3.ownsRow w.heap.size 48 5 (.slice (some ⟨g, 0, none⟩) (d.nodes.length + 1) cap) (d.nodes.length + 1) (d.nodes.flatMap nodeC ++ nodeC x))
    (hg : u2.grownBy u3 nsl.ownBlock) (hat : nsl.ownBlock = some g ∨ g = u2.heap.size) (hlt : g < u3.heap.size) :
    DecAt w D Fr bs b dep fuel size (putD x d) (.slice (some ⟨g, 0, none⟩) (d.nodes.length + 1) cap) (u3.setCell ⟨D, 5, none⟩ (.slice (some ⟨g, 0, none⟩) (d.nodes.length + 1) cap)) := by
  obtain ⟨hwg, _⟩ := owns_lt hown (g := g) rfl
  have e2 := h.below hb
  have hkg := keeps_grown hg
  have ho := Own.grow (A := [D]) (B := []) e2.own hg hat hlt hwg
  have hks : Keeps [D] u3 (u3.setCell ⟨D, 5, none⟩ (.slice (some ⟨g, 0, none⟩) (d.nodes.length + 1) cap)) := (Keeps.refl [D] u3).setIn (by simp) _
  have hn := h.own.nd
  have hn2 := ho.nd
  simp at hn hn2
  have hd : D ∉ nsl.ownBlock.toList := by
    intro hm
    exact hn.1 (by simpa using hm)
  refine ⟨ho.turn hks (by simp), setBlock (i := 5) ((hkg.block _ (lt_of_heap e2.box) hd).trans e2.box) _, ?_, h.pos, h.len, by simp [putD]; omega⟩
  have := owns_keeps hown hks (by
    intro g' h'
    simp only [Value.ownBlock, Option.some.injEq] at h'
    subst h'
    simp
    omega)
  simpa [putD] using this
theorem DecAt.boxAt {u2 u3 : World} (h : DecAt w D Fr bs b dep fuel size d nsl u) (hb : Below u.heap.size u u2) (hg : u2.grownBy u3 nsl.ownBlock) : u3.cell? ⟨D, 5, none⟩ = some nsl ∧ (∀ i, u3.frozen? ⟨D, i, none⟩ = false) ∧ D < u3.heap.size := by
  have hl := lt_of_heap h.box
  have hn := h.own.nd
  have hz := hb.size
  simp at hn
  obtain ⟨_, _, _, _, _, h5, h6, h7⟩ := cbound6 ((hg.block _ (by omega) (fun e => hn.1 (by rw [← e]))).trans ((hb.block _ hl).trans h.box))
  exact ⟨h5, h6, h7⟩
theorem DecAt.alloc (h : DecAt w D Fr bs b dep fuel size d nsl u) (o : Obj) : DecAt w D ((u.heap.size, o) :: Fr) bs b dep fuel size d nsl (u.alloc o) := h.beside ((Keeps.refl [] u).alloc o) (by simp) (h.own.alloc o)
theorem DecAt.tail {p : Nat × Obj} (h : DecAt w D (p :: Fr) bs b dep fuel size d nsl u) : DecAt w D Fr bs b dep fuel size d nsl u := h.beside (Keeps.refl [] u) (by simp) h.own.tail
end
theorem dput_any {w u : World} {D : Nat} {Fr bs : List (Nat × Obj)} {b : List UInt8} {dep fuel size : Nat} {d : DSt} {nsl : Value} (x : NodeL) (hfew : d.nodes.length < 10000) (h : DecAt w D Fr bs b dep fuel size d nsl u) :
    Calls Tryz.prog 329 #[.pointer (some ⟨D, 0, none⟩), .agg (nodeC x).toArray] u fun e u' => e = .returned (.tuple #[]) ∧ ∃ nsl', DecAt w D Fr bs b dep fuel size (putD x d) nsl' u' := by
  obtain ⟨c0, c1, c2, c3, c4, c5, hfz, hlt⟩ := h.cells
  obtain ⟨ad, cap, rfl⟩ := h.slice
  obtain ⟨i0, hi0, hz0, hz1, hz2⟩ := info_parts infoNode
  have hl1 : d.nodes.length + 1 ≤ maxLen := by unfold maxLen; omega
  have hl2 : (d.nodes.length + 1) * 48 ≤ 140737488355328 := by omega
  have hz3 : (Value.agg #[.int .i64 0, .int .i64 0, .string ⟨#[]⟩, .int .i64 0, .int .i64 0]).cells.size = 5 := by decide
  have hwl : w.heap.size ≤ u.heap.size := h.own.kp.size
  have H := Hid.mk h
  clear h
  go_enter Tryz.func329, Tryz.ntmps329
  go_wp2_with fail
  refine region_last (fun w' => w'.cell? ⟨D, 5, none⟩ = some (.slice ad d.nodes.length cap) ∧ w'.cell? ⟨u.heap.size, 0, none⟩ = some (.int .i64 x.kind) ∧ w'.cell? ⟨u.heap.size, 1, none⟩ = some (.int .i64 x.n) ∧ w'.cell? ⟨u.heap.size, 2, none⟩ = some (.string ⟨x.s.toArray⟩) ∧ w'.cell? ⟨u.heap.size, 3, none⟩ = some (.int .i64 x.at') ∧ w'.cell? ⟨u.heap.size, 4, none⟩ = some (.int .i64 x.len)) (L := 10) (by kernel_rfl) rfl (by kernel_rfl) (by kernel_rfl) ?_ (fun hHeld => ?_)
  · go_keep
  refine tk (i := 0) (v := ?_) rfl (by kernel_rfl) (fun _ _ _ h => h) (by rfl) (by assumption) ?_ ?_
  rotate_left
  · intro w hSw; (try dsimp only at hSw); go_simp; (try with_reducible rfl)
  (try simp only [put_l, put_z, List.set])
  refine tk (i := 1) (v := ?_) rfl (by kernel_rfl) (fun _ _ _ h => h) (by rfl) (by assumption) ?_ ?_
  rotate_left
  · intro w hSw; (try dsimp only at hSw); go_simp; (try with_reducible rfl)
  (try simp only [put_l, put_z, List.set])
  refine tk (i := 2) (v := ?_) rfl (by kernel_rfl) (fun _ _ _ h => h) (by rfl) (by assumption) ?_ ?_
  rotate_left
  · intro w hSw; (try dsimp only at hSw); go_simp; (try with_reducible rfl)
  (try simp only [put_l, put_z, List.set])
  refine tk (i := 3) (v := ?_) rfl (by kernel_rfl) (fun _ _ _ h => h) (by rfl) (by assumption) ?_ ?_
  rotate_left
  · intro w hSw; (try dsimp only at hSw); go_simp; (try with_reducible rfl)
  (try simp only [put_l, put_z, List.set])
  refine tk (i := 4) (v := ?_) rfl (by kernel_rfl) (fun _ _ _ h => h) (by rfl) (by assumption) ?_ ?_
  rotate_left
  · intro w hSw; (try dsimp only at hSw); go_simp; (try with_reducible rfl)
  (try simp only [put_l, put_z, List.set])
  refine tk (i := 5) (v := ?_) rfl (by kernel_rfl) (fun _ _ _ h => h) (by rfl) (by assumption) ?_ ?_
  rotate_left
  · intro w hSw; (try dsimp only at hSw); go_simp; (try with_reducible rfl)
  (try simp only [put_l, put_z, List.set])
  refine wpAnyH_ready (rs := [6]) (by kernel_rfl) (by simp) ?_
  refine AllReadyH.cons rfl (fun K hK => ?_) AllReadyH.nil
  go_simp
  refine hK.out _ _ ?_ (fun hHeld => ?_)
  · go_keep
  clear hK K
  (try simp only [put_l, put_z, List.set])
  refine wpAnyH_ready (rs := [7]) (by kernel_rfl) (by simp) ?_
  refine AllReadyH.cons rfl (fun K hK => ?_) AllReadyH.nil
  (refine step_append_lies _ (by rfl) _ _ _ (by rfl) w.heap.size 48 i0 _ 5 48 Tryz.underlying29 hi0 hz0 hz1 hz2 hz3 (by omega) (.slice ad d.nodes.length cap) d.nodes.length (d.nodes.flatMap nodeC) (by rfl) (owns_keeps H.out.row ((((Keeps.refl [] u).alloc _).alloc _).drew) (by simp)) ⟨u.heap.size + 1, 0, none⟩ 1 1 (nodeC x) (by rfl) (by rfl) (World.news_of_block (cs := (nodeC x).toArray) (t := 48) (fr := (0, 0)) (heap_alloc_at (w := u.alloc _) (by simp))) (one_node x) (by omega) hl1 hl2 (by simp; omega) (u.heap.size + 2) (by simp) ?_; intro g cap' w6 hown6 hgrow hat hlt6; have hbb : Below u.heap.size u ((u.alloc (.cells (nodeC x).toArray 48)).alloc (.cells (nodeC x).toArray 48)).drew := (((Below.refl _ _).alloc (Nat.le_refl _) _).alloc (by simp) _).drew; obtain ⟨z5, zf, zl⟩ := H.out.boxAt hbb hgrow; have hx9 : w6.heap[u.heap.size]? = some (.cells (nodeC x).toArray 48) := (hgrow.block _ (by simp; omega) (fun e => by have := H.out.own.lt u.heap.size (by simp [e.symm]); omega)).trans ((Below.heap_alloc _ _ _ (by simp)).trans (heap_alloc_at rfl)); have y0 : w6.cell? ⟨u.heap.size, 0, none⟩ = some (.int .i64 x.kind) := (by simp [World.cell?, hx9]); have y1 : w6.cell? ⟨u.heap.size, 1, none⟩ = some (.int .i64 x.n) := (by simp [World.cell?, hx9]); have y2 : w6.cell? ⟨u.heap.size, 2, none⟩ = some (.string ⟨x.s.toArray⟩) := (by simp [World.cell?, hx9]); have y3 : w6.cell? ⟨u.heap.size, 3, none⟩ = some (.int .i64 x.at') := (by simp [World.cell?, hx9]); have y4 : w6.cell? ⟨u.heap.size, 4, none⟩ = some (.int .i64 x.len) := (by simp [World.cell?, hx9]))
  refine hK.out _ _ ?_ (fun hHeld => ?_)
  · go_keep
  clear hK K
  (try simp only [put_l, put_z, List.set])
  refine tk (i := 8) (v := ?_) rfl (by kernel_rfl) (fun _ _ _ h => h) (by rfl) (by assumption) ?_ ?_
  rotate_left
  · intro w hSw; (try dsimp only at hSw); go_simp; (try with_reducible rfl)
  (try simp only [put_l, put_z, List.set])
  refine tk (i := 9) (v := ?_) rfl (by kernel_rfl) (fun _ _ _ h => h) (by rfl) (by assumption) ?_ ?_
  rotate_left
  · intro w hSw; (try dsimp only at hSw); go_simp; (try with_reducible rfl)
  (try simp only [put_l, put_z, List.set])
  refine wpAnyH_done (by kernel_rfl) ?_ _
  refine last_step rfl (fun K hK => ?_)
  go_simp
  refine hK.out _ _ ?_
  clear hK K
  (try simp only [put_l, put_z, List.set])
  have M6 := H.out.put hbb hfew hown6 hgrow (by simpa using hat) hlt6
  go_wp2
  go_end0
  exact ⟨rfl, _, M6⟩
theorem number_dc {w u : World} {D : Nat} {Fr bs : List (Nat × Obj)} {b : List UInt8} {dep fuel size : Nat} {d : DSt} {nsl : Value} (n : NumL) (x : Option Addr) (y z : Nat) (h : DecAt w D Fr bs b dep fuel size d nsl u) :
    Calls Tryz.prog 331 #[.pointer (some ⟨D, 0, none⟩), .agg (numA n.low n.high x y z n.wide).toArray] u (GivesDc w D Fr bs b dep fuel size (numberD b n d) fun v => .int .i64 v) := by
  have hb : ∀ o, Below u.heap.size u (u.alloc o) := fun o => (Below.refl _ _).alloc (Nat.le_refl _) _
  have V1 := Hid.mk (fun o => Wide_any (h.below (hb o)))
  have V2 := Hid.mk (Word_any ((h.alloc (.cells #[.int .i64 n.low, .int .i64 n.high, .slice x y z, .bool n.wide] 200)).below (Below.refl _ _).drew))
  have H := Hid.mk h
  clear h
  cases hw : n.wide with
  | true =>
    go_enter Tryz.func331, Tryz.ntmps331
    go_wp2_with fail
    refine (V1.out _).mono ?_
    rintro e w1 (⟨v, d1, nsl1, hx, rfl, M1⟩ | ⟨f, hx, hk, g, hg, rfl, hc⟩)
    rotate_left
    · refine bodyPost_panics (Or.inr ⟨f, ?_, hk, g, hg, rfl, hc⟩)
      unfold numberD
      rw [hw]
      simp only [if_true]
      cases ht : takeD b 8 d with
      | error f' => rw [ht] at hx; simp only [thenE] at hx ⊢; cases hx; rfl
      | ok p => rw [ht] at hx; simp only [thenE] at hx; cases hx
    have E : Hid (numberD b n d = .ok (ofWide v, d1) ∧ v < 18446744073709551616) := by
      obtain ⟨p, h1, h2⟩ := thenE_ok hx
      cases h2
      refine ⟨?_, big_lt8 (take_ok h1).2.2.2.2⟩
      unfold numberD
      rw [hw]
      simp only [if_true]
      rw [h1]
      rfl
    have hv := E.out.2
    have M1 := Hid.mk M1
    clear hx V1 V2
    go_wp2
    go_ret
    refine Or.inl ⟨ofWide v, d1, nsl1, E.out.1, ?_, M1.out⟩
    show Ending.returned (Value.int .i64 (wrap64 (v : Int))) = Ending.returned (Value.int .i64 (ofWide v))
    congr 2
    unfold ofWide wrap64
    split <;> omega
  | false =>
    go_enter Tryz.func331, Tryz.ntmps331
    rw [hw] at V2
    have E0 : Hid (numberD b n d = thenE (wordD b d) fun p => .ok (ofWord n p.1, p.2)) := by show _ = _; unfold numberD; rw [hw]; rfl
    go_wp2_with fail
    refine region_last (fun w' => w'.cell? ⟨u.heap.size, 0, none⟩ = some (.int .i64 n.low) ∧ w'.cell? ⟨u.heap.size, 1, none⟩ = some (.int .i64 n.high) ∧ w'.cell? ⟨u.heap.size, 2, none⟩ = some (.slice x y z) ∧ w'.cell? ⟨u.heap.size, 3, none⟩ = some (.bool false)) (L := 6) (by kernel_rfl) rfl (by kernel_rfl) (by kernel_rfl) ?_ (fun hHeld => ?_)
    · go_keep
    refine tk (i := 0) (v := ?_) rfl (by kernel_rfl) (fun _ _ _ h => h) (by rfl) (by assumption) ?_ ?_
    rotate_left
    · intro w hSw; (try dsimp only at hSw); go_simp; (try with_reducible rfl)
    (try simp only [put_l, put_z, List.set])
    refine tk (i := 1) (v := ?_) rfl (by kernel_rfl) (fun _ _ _ h => h) (by rfl) (by assumption) ?_ ?_
    rotate_left
    · intro w hSw; (try dsimp only at hSw); go_simp; (try with_reducible rfl)
    (try simp only [put_l, put_z, List.set])
    refine tk (i := 2) (v := ?_) rfl (by kernel_rfl) (fun _ _ _ h => h) (by rfl) (by assumption) ?_ ?_
    rotate_left
    · intro w hSw; (try dsimp only at hSw); go_simp; (try with_reducible rfl)
    (try simp only [put_l, put_z, List.set])
    refine tk (i := 3) (v := ?_) rfl (by kernel_rfl) (fun _ _ _ h => h) (by rfl) (by assumption) ?_ ?_
    rotate_left
    · intro w hSw; (try dsimp only at hSw); go_simp; (try with_reducible rfl)
    (try simp only [put_l, put_z, List.set])
    refine wpAnyH_ready (rs := [4]) (by kernel_rfl) (by simp) ?_
    refine AllReadyH.cons rfl (fun K hK => ?_) AllReadyH.nil
    (go_simp; go_at_call 76; refine V2.out.mono ?_; rintro e w1 (⟨v, d1, nsl1, hx, rfl, M1⟩ | ⟨f, hx, hk, g, hg, rfl, hc⟩); rotate_left; exact bodyPost_panics (Or.inr ⟨f, by rw [E0.out, hx]; rfl, hk, g, hg, rfl, hc⟩); obtain ⟨q0, q1, q2, q3, qf⟩ := wordBlock (M1.own.hf _ List.mem_cons_self).1; have hv : v < 4294967296 := (by rw [(word_ok hx).1]; exact big_lt4 (word_ok hx).2.1); have E : Hid (numberD b n d = .ok (ofWord n v, d1)) := (by show _ = _; rw [E0.out, hx]; rfl); have M1 := Hid.mk M1; clear hx)
    refine hK.out _ _ ?_ (fun hHeld => ?_)
    · go_keep
    clear hK K
    (try simp only [put_l, put_z, List.set])
    refine wpAnyH_ready (rs := [5]) (by kernel_rfl) (by simp) ?_
    refine AllReadyH.cons rfl (fun K hK => ?_) AllReadyH.nil
    (go_simp; go_at_call 328; have VO := Of_any n x y z v hv w1; rw [hw] at VO; refine VO.mono ?_; rintro e w2 ⟨rfl, hb2⟩; have M2 := M1.out.below hb2; obtain ⟨s0, s1, s2, s3, sf⟩ := wordBlock (M2.own.hf _ List.mem_cons_self).1; have M2 := Hid.mk M2.tail; clear VO)
    refine hK.out _ _ ?_ (fun hHeld => ?_)
    · go_keep
    clear hK K
    (try simp only [put_l, put_z, List.set])
    refine wpAnyH_done (by kernel_rfl) ?_ _
    refine last_step rfl (fun K hK => ?_)
    go_simp
    refine hK.out _ _ ?_
    clear hK K
    (try simp only [put_l, put_z, List.set])
    go_wp2
    go_ret
    exact Or.inl ⟨_, d1, nsl1, E.out, rfl, M2.out⟩
end Go.Proofs.YtmbcibgknckenaaGreatDoor
set_option linter.all false
set_option maxRecDepth 100000
set_option maxHeartbeats 4000000
namespace Go.Proofs.YtmbcibgknckenaaGreatDoor
open Go.RowKit
open Go.MapKept
theorem count_dc {w u : World} {D : Nat} {Fr bs : List (Nat × Obj)} {b : List UInt8} {dep fuel size : Nat} {d : DSt} {nsl : Value} (n : Int) (f : Bool) (hn : 0 ≤ n) (hn2 : n ≤ 4294967295) (h : DecAt w D Fr bs b dep fuel size d nsl u) :
    Calls Tryz.prog 330 #[.pointer (some ⟨D, 0, none⟩), .agg #[.int .i64 n, .bool f]] u (GivesDc w D Fr bs b dep fuel size (countD b n f d) fun v => .int .i64 v) := by
  have M0 := h.alloc (.cells #[.int .i64 n, .bool f] 304)
  have VA := Hid.mk (At_any M0)
  have VW := Hid.mk (Word_any M0)
  have H := Hid.mk M0.tail
  clear h M0
  cases f with
  | true =>
    have E : Hid (countD b n true d = .ok (n.toNat, d)) := rfl
    go_enter Tryz.func330, Tryz.ntmps330
    go_wp2
    go_ret
    refine Or.inl ⟨n.toNat, d, nsl, E.out, ?_, H.out⟩
    show Ending.returned (Value.int .i64 n) = Ending.returned (Value.int .i64 (n.toNat : Int))
    rw [Int.toNat_of_nonneg hn]
  | false =>
    have E0 : Hid (countD b n false d = thenE (wordD b d) fun p => if (p.1 : Int) ≤ n then .ok p else .error ⟨19, d.pos⟩) := rfl
    go_enter Tryz.func330, Tryz.ntmps330
    go_wp2_with fail
    refine VA.out.mono ?_
    rintro e w1 ⟨rfl, rfl⟩
    go_wp2_with fail
    refine VW.out.mono ?_
    rintro e w1 (⟨v, d1, nsl1, hx, rfl, M1⟩ | ⟨f, hx, hk, g, hg, rfl, hc⟩)
    rotate_left
    · exact bodyPost_panics (Or.inr ⟨f, by rw [E0.out, hx]; rfl, hk, g, hg, rfl, hc⟩)
    obtain ⟨q0, q1, qf, ql⟩ := cbound2 (M1.own.hf _ List.mem_cons_self).1
    have hv : v < 4294967296 := by rw [(word_ok hx).1]; exact big_lt4 (word_ok hx).2.1
    have E1 : Hid (countD b n false d = if (v : Int) ≤ n then .ok (v, d1) else .error ⟨19, d.pos⟩) := by show _ = _; rw [E0.out, hx]; rfl
    have M1 := Hid.mk M1
    clear hx VA VW E0
    have VL := Hid.mk (Allows_any n false v w1)
    go_wp2_with fail
    refine VL.out.mono ?_
    rintro e w2 ⟨rfl, hb2⟩
    have M2 := Hid.mk (M1.out.below hb2).tail
    have hk2 : Hid (Keeps [] w w2) := M2.out.own.kp
    clear VL
    simp only [Bool.false_eq_true, if_false]
    by_cases hle : (v : Int) ≤ n
    · have E2 : Hid (countD b n false d = .ok (v, d1)) := by show _ = _; rw [E1.out, if_pos hle]
      have hd : decide ((v : Int) ≤ n) = true := by simp [hle]
      rw [hd]
      clear E1 hle hd
      go_wp2
      go_ret
      exact Or.inl ⟨v, d1, nsl1, E2.out, rfl, M2.out⟩
    · have E2 : Hid (countD b n false d = .error ⟨19, d.pos⟩) := by show _ = _; rw [E1.out, if_neg hle]
      have hd : decide ((v : Int) ≤ n) = false := by simp; omega
      rw [hd]
      clear E1 hle hd
      go_wp2_with (go_at_call 47; refine (New_any _ _ _).mono ?_; rintro e w' ⟨rfl, rfl⟩)
      exact bodyPost_panics (GivesDc.throws (f := ⟨19, d.pos⟩) E2.out hk2.out ((Keeps.refl [] _).alloc _) (Nat.le_refl _) (heap_alloc_at rfl))
end Go.Proofs.YtmbcibgknckenaaGreatDoor
set_option linter.all false
set_option maxRecDepth 100000
set_option maxHeartbeats 4000000
namespace Go.Proofs.YtmbcibgknckenaaGreatDoor
open Go.RowKit
open Go.MapKept
theorem badPad_step {n i : Nat} {l : List UInt8} (hi : i < l.length) (hz : badPad n (l.drop n) = badPad i (l.drop i)) (h0 : l[i] = 0) : badPad n (l.drop n) = badPad (i + 1) (l.drop (i + 1)) := by
  rw [hz, List.drop_eq_getElem_cons hi]
  simp only [badPad, h0, if_true]
theorem badPad_hit {n i : Nat} {l : List UInt8} (hi : i < l.length) (hz : badPad n (l.drop n) = badPad i (l.drop i)) (h0 : l[i] ≠ 0) : badPad n (l.drop n) = some i := by
  rw [hz, List.drop_eq_getElem_cons hi]
  simp only [badPad, h0, if_false]
theorem Padded_dc {w u : World} {D : Nat} {Fr bs : List (Nat × Obj)} {b : List UInt8} {dep fuel size : Nat} {d : DSt} {nsl : Value} (n : Nat) (hn2 : n ≤ 4294967295) (h : DecAt w D Fr bs b dep fuel size d nsl u) :
    Calls Tryz.prog 147 #[.pointer (some ⟨D, 0, none⟩), .int .i64 n] u (GivesDc w D Fr bs b dep fuel size (paddedD b n d) fun l => .string ⟨l.toArray⟩) := by
  obtain ⟨c0, c1, c2, c3, c4, c5, hfz, hlt⟩ := h.cells
  have hpl : padLen n ≤ n + 3 := by unfold padLen; omega
  have hpn : n ≤ padLen n := by unfold padLen; omega
  have VT := Hid.mk (take_any (padLen n) (by omega) h)
  have e1 : ((n : Int) + 3) / 4 * 4 = (padLen n : Int) := by unfold padLen; omega
  have hpos := h.pos
  have hln := h.len
  clear h
  go_enter Tryz.func147, Tryz.ntmps147
  go_wp2_with fail
  refine VT.out.mono ?_
  rintro e w1 (⟨l, d1, nsl1, hx, rfl, M1⟩ | ⟨f, hx, hk, g, hg, rfl, hc⟩)
  rotate_left
  · exact bodyPost_panics (Or.inr ⟨f, by unfold paddedD; rw [hx]; rfl, hk, g, hg, rfl, hc⟩)
  have hl : l.length = padLen n := (take_ok hx).2.2.2.2
  have E0 : Hid (paddedD b n d = match badPad n (l.drop n) with | some i => .error ⟨17, d.pos + i⟩ | none => .ok (l.take n, d1)) := by show _ = _; unfold paddedD; rw [hx]; rfl
  have M1 := Hid.mk M1
  have hk1 : Hid (Keeps [] w w1) := M1.out.own.kp
  have hnl : n ≤ l.length := by omega
  have hl9 : l.length ≤ 4294967300 := by omega
  clear hx VT hl hpl hpn e1
  go_wp2
  go_loopw [7] (fun i ur => ∃ j : Nat, i = .int .i64 j ∧ n ≤ j ∧ j ≤ l.length ∧ Hid (badPad n (l.drop n) = badPad j (l.drop j)) ∧ ur = w1) (fun i _ => l.length - (intOf i).toNat)
  case atStart => exact ⟨n, rfl, Nat.le_refl _, hnl, rfl, rfl⟩
  case round =>
    obtain ⟨j, rfl, hnj, hj, HB, rfl⟩ := hrel
    rcases Nat.lt_or_ge j l.length with hlt' | hge
    · have hj0 : (0 : Int) ≤ ↑j := by omega
      have hj1 : (↑j : Int) < ↑l.length := by omega
      have hcx : (⟨l.toArray⟩ : ByteArray)[j]'(by simp [ByteArray.size]; exact hlt') = l[j] := rfl
      by_cases hz : l[j] = 0
      · have HB2 := Hid.mk (badPad_step hlt' HB.out hz)
        have hb : ((l[j].toNat : Int) != 0) = false := by rw [hz]; rfl
        clear HB
        go_wp2
        exact ⟨⟨j + 1, by go_num, by omega, hlt', HB2, trivial⟩, by simp [intOf]; omega⟩
      · have E1 : Hid (paddedD b n d = .error ⟨17, d.pos + j⟩) := by show _ = _; rw [E0.out, badPad_hit hlt' HB.out hz]
        have hb : ((l[j].toNat : Int) != 0) = true := by
          have : l[j].toNat ≠ 0 := fun e => hz (UInt8.toNat_inj.1 (by simpa using e))
          simp
          omega
        clear HB hz E0
        go_wp2_with (go_at_call 47; refine (New_any _ _ _).mono ?_; rintro e w' ⟨rfl, rfl⟩)
        have ec : ((d.pos : Int) + j) = ((d.pos + j : Nat) : Int) := by omega
        exact (show bodyPost Tryz.prog Tryz.f147 (GivesDc w D Fr bs b dep fuel size (paddedD b n d) fun l => .string ⟨l.toArray⟩) (Exit.panic _) _ _ from bodyPost_panics (GivesDc.throws (f := ⟨17, d.pos + j⟩) E1.out hk1.out ((Keeps.refl [] _).alloc _) (Nat.le_refl _) (by rw [ec]; exact heap_alloc_at rfl)))
    · have hjj : j = l.length := by omega
      subst hjj
      have E1 : Hid (paddedD b n d = .ok (l.take n, d1)) := by
        show _ = _
        rw [E0.out, HB.out, List.drop_length]
        rfl
      clear HB E0
      have VC := fun w => Clone_any ⟨(l.take n).toArray⟩ w (by simp [ByteArray.size]; omega)
      have hn0 : (0 : Int) ≤ ↑n := by omega
      have hn1 : (↑n : Int) ≤ ↑l.length := by omega
      go_wp2_with fail
      rw [extract_take]
      refine (VC _).mono ?_
      rintro e w2 ⟨rfl, hb2⟩
      have M2 := Hid.mk (M1.out.below hb2)
      go_wp2
      go_ret
      exact Or.inl ⟨l.take n, d1, nsl1, E1.out, rfl, M2.out⟩
end Go.Proofs.YtmbcibgknckenaaGreatDoor
set_option linter.all false
set_option maxRecDepth 100000
set_option maxHeartbeats 4000000
namespace Go.Proofs.YtmbcibgknckenaaGreatDoor
open Go.RowKit
open Go.MapKept
abbrev unitE (r : Except Mar.Fault DSt) : Except Mar.Fault (Unit × DSt) := thenE r fun d => .ok ((), d)
theorem begin_cases (fuel : Nat) (d : DSt) : (beginD fuel d = .ok d ∧ d.nodes.length < fuel) ∨ beginD fuel d = .error ⟨15, d.pos⟩ := by
  unfold beginD
  by_cases h : fuel ≤ d.nodes.length
  · exact Or.inr (if_pos h)
  · exact Or.inl ⟨if_neg h, by omega⟩
theorem DNumber_any {w u : World} {D : Nat} {Fr bs : List (Nat × Obj)} {b : List UInt8} {dep fuel size : Nat} {d : DSt} {nsl : Value} {bsN : List (Nat × Obj)} {cs : List Value} {n : NumL} (hN : NumIn bsN cs n) (hw : ∀ p ∈ bsN, w.heap[p.1]? = some p.2) (hfu : fuel ≤ 10000) (h : DecAt w D Fr bs b dep fuel size d nsl u) :
    Calls Tryz.prog 326 #[.pointer (some ⟨D, 0, none⟩), .agg cs.toArray] u (GivesDc w D Fr bs b dep fuel size (unitE ((decW b dep fuel).num n d)) fun _ => .tuple #[]) := by
  obtain ⟨m, rfl, hm, x, y, z, rfl⟩ := id hN
  have M0 := h.alloc (.cells #[.int .i64 n.low, .int .i64 n.high, .slice x y z, .bool n.wide] 200)
  have VB := Hid.mk (begin_any M0)
  clear h M0
  go_enter Tryz.func326, Tryz.ntmps326
  go_wp2_with fail
  refine VB.out.mono ?_
  rintro e w1 (⟨_, d1, nsl1, hx, rfl, M1⟩ | ⟨f, hx, hk, g, hg, rfl, hc⟩)
  rotate_left
  · refine bodyPost_panics (Or.inr ⟨f, ?_, hk, g, hg, rfl, hc⟩)
    rcases begin_cases fuel d with ⟨hb, _⟩ | hb
    · rw [hb] at hx; cases hx
    · rw [hb] at hx
      cases hx
      show thenE (thenE (beginD fuel d) _) _ = _
      rw [hb]
      rfl
  obtain ⟨hb, hnl⟩ : beginD fuel d = .ok d ∧ d.nodes.length < fuel := by
    rcases begin_cases fuel d with hb | hb
    · exact hb
    · rw [hb] at hx; cases hx
  obtain rfl : d1 = d := by rw [hb] at hx; cases hx; rfl
  have E0 : Hid (unitE ((decW b dep fuel).num n d1) = thenE (numberD b n d1) fun p => if n.has p.1 then .ok ((), putD ⟨1, p.1, [], 0, 0⟩ p.2) else .error ⟨18, d1.pos⟩) := by
    show thenE (thenE (beginD fuel d1) _) _ = _
    rw [hb]
    simp only [thenE]
    cases numberD b n d1 with
    | error f => rfl
    | ok p =>
      cases hq : n.has p.1 <;> simp [hq]
  have VA := Hid.mk (At_any M1)
  have VN := Hid.mk (number_dc n x y z M1)
  obtain ⟨q0, q1, q2, q3, qf⟩ := wordBlock (M1.own.hf _ List.mem_cons_self).1
  clear hx hb M1 VB
  go_wp2_with fail
  refine VA.out.mono ?_
  rintro e w2 ⟨rfl, rfl⟩
  go_wp2_with fail
  refine VN.out.mono ?_
  rintro e w3 (⟨v, d3, nsl3, hx, rfl, M3⟩ | ⟨f, hx, hk, g, hg, rfl, hc⟩)
  rotate_left
  · exact bodyPost_panics (Or.inr ⟨f, by rw [E0.out, hx]; rfl, hk, g, hg, rfl, hc⟩)
  have hnd : d3.nodes.length < 10000 := by rw [(number_ok hx).2.2.2.1]; omega
  have E1 : Hid (unitE ((decW b dep fuel).num n d1) = if n.has v then .ok ((), putD ⟨1, v, [], 0, 0⟩ d3) else .error ⟨18, d1.pos⟩) := by show _ = _; rw [E0.out, hx]; rfl
  obtain ⟨q0, q1, q2, q3, qf⟩ := wordBlock (M3.own.hf _ List.mem_cons_self).1
  have VH := Hid.mk (NumHas_any hN v (fun p hp => (M3.own.kp.block _ (lt_of_heap (hw p hp)) (by simp)).trans (hw p hp)))
  have M3 := Hid.mk M3
  clear hx VA VN E0 hm
  go_wp2_with fail
  refine VH.out.mono ?_
  rintro e w4 ⟨rfl, hb4⟩
  have M4 := (M3.out.below hb4).tail
  have hk4 : Hid (Keeps [] w w4) := M4.own.kp
  cases hh : n.has v with
  | true =>
    have E2 : Hid (unitE ((decW b dep fuel).num n d1) = .ok ((), putD ⟨1, v, [], 0, 0⟩ d3)) := by show _ = _; rw [E1.out, if_pos hh]
    have VP := Hid.mk (dput_any ⟨1, v, [], 0, 0⟩ hnd M4)
    clear M4 E1 hh VH
    go_wp2_with fail
    refine VP.out.mono ?_
    rintro e w5 ⟨rfl, nsl5, M5⟩
    have M5 := Hid.mk M5
    go_wp2
    go_end0
    exact Or.inl ⟨(), _, nsl5, E2.out, rfl, M5.out⟩
  | false =>
    have E2 : Hid (unitE ((decW b dep fuel).num n d1) = .error ⟨18, d1.pos⟩) := by show _ = _; rw [E1.out, if_neg (by rw [hh]; simp)]
    clear M4 E1 hh VH
    go_wp2_with (go_at_call 47; refine (New_any _ _ _).mono ?_; rintro e w' ⟨rfl, rfl⟩)
    exact bodyPost_panics (GivesDc.throws (f := ⟨18, d1.pos⟩) E2.out hk4.out ((Keeps.refl [] _).alloc _) (Nat.le_refl _) (heap_alloc_at rfl))
end Go.Proofs.YtmbcibgknckenaaGreatDoor
set_option linter.all false
set_option maxRecDepth 100000
set_option maxHeartbeats 4000000
namespace Go.Proofs.YtmbcibgknckenaaGreatDoor
open Go.RowKit
open Go.MapKept
theorem DList_any {w u : World} {D : Nat} {Fr bs : List (Nat × Obj)} {b : List UInt8} {dep fuel size : Nat} {d : DSt} {nsl : Value} (n : Int) (f : Bool) (hn : 0 ≤ n) (hn2 : n ≤ 4294967295) (hfu : fuel ≤ 10000) (h : DecAt w D Fr bs b dep fuel size d nsl u) :
    Calls Tryz.prog 325 #[.pointer (some ⟨D, 0, none⟩), .agg #[.int .i64 n, .bool f]] u (GivesDc w D Fr bs b dep fuel size ((decW b dep fuel).list n f d) fun v => .int .i64 v) := by
  have M0 := h.alloc (.cells #[.int .i64 n, .bool f] 304)
  have VB := Hid.mk (begin_any M0)
  clear h M0
  go_enter Tryz.func325, Tryz.ntmps325
  go_wp2_with fail
  refine VB.out.mono ?_
  rintro e w1 (⟨_, d1, nsl1, hx, rfl, M1⟩ | ⟨f', hx, hk, g, hg, rfl, hc⟩)
  rotate_left
  · refine bodyPost_panics (Or.inr ⟨f', ?_, hk, g, hg, rfl, hc⟩)
    rcases begin_cases fuel d with ⟨hb, _⟩ | hb
    · rw [hb] at hx; cases hx
    · rw [hb] at hx
      cases hx
      show thenE (beginD fuel d) _ = _
      rw [hb]
      rfl
  obtain ⟨hb, hnl⟩ : beginD fuel d = .ok d ∧ d.nodes.length < fuel := by
    rcases begin_cases fuel d with hb | hb
    · exact hb
    · rw [hb] at hx; cases hx
  obtain rfl : d1 = d := by rw [hb] at hx; cases hx; rfl
  have E0 : Hid ((decW b dep fuel).list n f d1 = thenE (countD b n f d1) fun p => .ok (p.1, putD ⟨3, 0, [], p.1, 0⟩ p.2)) := by
    show thenE (beginD fuel d1) _ = _
    rw [hb]
    rfl
  obtain ⟨q0, q1, qf, ql⟩ := cbound2 (M1.own.hf _ List.mem_cons_self).1
  have VC := Hid.mk (count_dc n f hn hn2 M1.tail)
  clear hx hb M1 VB
  go_wp2_with fail
  refine VC.out.mono ?_
  rintro e w3 (⟨v, d3, nsl3, hx, rfl, M3⟩ | ⟨f', hx, hk, g, hg, rfl, hc⟩)
  rotate_left
  · exact bodyPost_panics (Or.inr ⟨f', by rw [E0.out, hx]; rfl, hk, g, hg, rfl, hc⟩)
  have hnd : d3.nodes.length < 10000 := by rw [(count_ok hx).2.1]; omega
  have E1 : Hid ((decW b dep fuel).list n f d1 = .ok (v, putD ⟨3, 0, [], v, 0⟩ d3)) := by show _ = _; rw [E0.out, hx]; rfl
  have VP := Hid.mk (dput_any ⟨3, 0, [], v, 0⟩ hnd M3)
  clear hx M3 VC E0
  go_wp2_with fail
  refine VP.out.mono ?_
  rintro e w5 ⟨rfl, nsl5, M5⟩
  have M5 := Hid.mk M5
  go_wp2
  go_ret
  exact Or.inl ⟨v, _, nsl5, E1.out, rfl, M5.out⟩
theorem count_small {b : List UInt8} {n : Int} {f : Bool} {d d' : DSt} {v : Nat} (hn : 0 ≤ n) (hn2 : n ≤ 4294967295) (h : countD b n f d = .ok (v, d')) : v ≤ 4294967295 := by
  obtain ⟨_, _, _, h4⟩ := count_ok h
  cases f with
  | true => simp only [if_true] at h4; omega
  | false =>
    simp only [Bool.false_eq_true, if_false] at h4
    have := big_lt4 h4.2
    omega
theorem DText_any {w u : World} {D : Nat} {Fr bs : List (Nat × Obj)} {b : List UInt8} {dep fuel size : Nat} {d : DSt} {nsl : Value} (n : Int) (f : Bool) (hn : 0 ≤ n) (hn2 : n ≤ 4294967295) (hfu : fuel ≤ 10000) (h : DecAt w D Fr bs b dep fuel size d nsl u) :
    Calls Tryz.prog 327 #[.pointer (some ⟨D, 0, none⟩), .agg #[.int .i64 n, .bool f]] u (GivesDc w D Fr bs b dep fuel size (unitE ((decW b dep fuel).text n f d)) fun _ => .tuple #[]) := by
  have M0 := h.alloc (.cells #[.int .i64 n, .bool f] 304)
  have VB := Hid.mk (begin_any M0)
  clear h M0
  go_enter Tryz.func327, Tryz.ntmps327
  go_wp2_with fail
  refine VB.out.mono ?_
  rintro e w1 (⟨_, d1, nsl1, hx, rfl, M1⟩ | ⟨f', hx, hk, g, hg, rfl, hc⟩)
  rotate_left
  · refine bodyPost_panics (Or.inr ⟨f', ?_, hk, g, hg, rfl, hc⟩)
    rcases begin_cases fuel d with ⟨hb, _⟩ | hb
    · rw [hb] at hx; cases hx
    · rw [hb] at hx
      cases hx
      show thenE (thenE (beginD fuel d) _) _ = _
      rw [hb]
      rfl
  obtain ⟨hb, hnl⟩ : beginD fuel d = .ok d ∧ d.nodes.length < fuel := by
    rcases begin_cases fuel d with hb | hb
    · exact hb
    · rw [hb] at hx; cases hx
  obtain rfl : d1 = d := by rw [hb] at hx; cases hx; rfl
  have E0 : Hid (unitE ((decW b dep fuel).text n f d1) = thenE (countD b n f d1) fun p => thenE (paddedD b p.1 p.2) fun q => .ok ((), putD ⟨2, 0, q.1, 0, p.2.pos⟩ q.2)) := by
    show thenE (thenE (beginD fuel d1) _) _ = _
    rw [hb]
    simp only [thenE]
    cases countD b n f d1 with
    | error f => rfl
    | ok p =>
      simp only
      cases paddedD b p.1 p.2 <;> rfl
  obtain ⟨q0, q1, qf, ql⟩ := cbound2 (M1.own.hf _ List.mem_cons_self).1
  have VC := Hid.mk (count_dc n f hn hn2 M1.tail)
  clear hx hb M1 VB
  go_wp2_with fail
  refine VC.out.mono ?_
  rintro e w3 (⟨v, d3, nsl3, hx, rfl, M3⟩ | ⟨f', hx, hk, g, hg, rfl, hc⟩)
  rotate_left
  · exact bodyPost_panics (Or.inr ⟨f', by rw [E0.out, hx]; rfl, hk, g, hg, rfl, hc⟩)
  have hnd : d3.nodes = d1.nodes := (count_ok hx).2.1
  have hvs := count_small hn hn2 hx
  have E1 : Hid (unitE ((decW b dep fuel).text n f d1) = thenE (paddedD b v d3) fun q => .ok ((), putD ⟨2, 0, q.1, 0, d3.pos⟩ q.2)) := by show _ = _; rw [E0.out, hx]; rfl
  have VA := Hid.mk (At_any M3)
  have VP := Hid.mk (Padded_dc v hvs M3)
  clear hx M3 VC E0
  go_wp2_with fail
  refine VA.out.mono ?_
  rintro e w4 ⟨rfl, rfl⟩
  go_wp2_with fail
  refine VP.out.mono ?_
  rintro e w5 (⟨l, d5, nsl5, hx, rfl, M5⟩ | ⟨f', hx, hk, g, hg, rfl, hc⟩)
  rotate_left
  · exact bodyPost_panics (Or.inr ⟨f', by rw [E1.out, hx]; rfl, hk, g, hg, rfl, hc⟩)
  have hnd5 : d5.nodes.length < 10000 := by rw [(padded_ok hx).2.2.2.1, hnd]; omega
  have E2 : Hid (unitE ((decW b dep fuel).text n f d1) = .ok ((), putD ⟨2, 0, l, 0, d3.pos⟩ d5)) := by show _ = _; rw [E1.out, hx]; rfl
  have VU := Hid.mk (dput_any ⟨2, 0, l, 0, d3.pos⟩ hnd5 M5)
  clear hx M5 VA VP E1
  go_wp2_with fail
  refine VU.out.mono ?_
  rintro e w6 ⟨rfl, nsl6, M6⟩
  have M6 := Hid.mk M6
  go_wp2
  go_end0
  exact Or.inl ⟨(), _, nsl6, E2.out, rfl, M6.out⟩
end Go.Proofs.YtmbcibgknckenaaGreatDoor
set_option linter.all false
set_option maxRecDepth 100000
set_option maxHeartbeats 4000000
namespace Go.Proofs.YtmbcibgknckenaaGreatDoor
open Go.RowKit
open Go.MapKept
def StepOk : StepL → Prop
  | .choice _ ws _ => (ws.map (·.1)).Nodup
  | _ => True
def CodeOk (s : CSt) : Prop := ∀ x ∈ s.code, StepOk x
theorem CodeOk.put {s : CSt} (h : CodeOk s) {x : StepL} (hx : StepOk x) : CodeOk (putM x s) := by
  intro y hy
  simp only [putM, List.mem_append, List.mem_singleton] at hy
  rcases hy with hy | rfl
  · exact h y hy
  · exact hx
theorem CodeOk.set {s : CSt} (h : CodeOk s) {i : Nat} {x : StepL} (hx : StepOk x) : CodeOk (setM i x s) := by
  intro y hy
  rcases List.mem_or_eq_of_mem_set hy with hy | rfl
  · exact h y hy
  · exact hx
theorem CodeOk.call {s : CSt} (h : CodeOk s) (n : List UInt8) : CodeOk (callM n s) := by
  intro y hy
  simp only [callM, List.mem_append, List.mem_singleton] at hy
  rcases hy with hy | rfl
  · exact h y hy
  · trivial
theorem CodeOk.value (t : Ty) : ∀ {s : CSt}, CodeOk s → CodeOk (valueM t s) := by
  induction t with
  | named n a => intro s h; exact h.call n
  | plain k => intro s h; exact h.put (by trivial)
  | opaq n f => intro s h; exact h.put (by trivial)
  | str n f => intro s h; exact h.put (by trivial)
  | void => intro s h; exact h
  | arr o n f ih => intro s h; exact ((ih (h.put (by trivial))).put (by trivial)).set (by trivial)
  | opt o ih => intro s h; exact (ih (h.put (by trivial))).set (by simp [StepOk])
theorem CodeOk.all (ts : List Ty) : ∀ {s : CSt}, CodeOk s → CodeOk (ts.foldl (fun s t => valueM t s) s) := by
  induction ts with
  | nil => intro s h; exact h
  | cons t ts ih => intro s h; exact ih (h.value t)
theorem fold_nodup (v : Nat × Nat) : ∀ (l : List Int) {ws : List (Int × Nat × Nat)}, (ws.map (·.1)).Nodup → ((l.foldl (fun l n => mput l n v) ws).map (·.1)).Nodup := by
  intro l
  induction l with
  | nil => intro ws h; exact h
  | cons k l ih => intro ws h; exact ih (mput_nodup h _ _)
theorem CodeOk.arms : ∀ (arms : List (List Int × DeclL)) {q : USt}, CodeOk q.s → (q.ways.map (·.1)).Nodup → CodeOk (arms.foldl uArm q).s ∧ ((arms.foldl uArm q).ways.map (·.1)).Nodup := by
  intro arms
  induction arms with
  | nil => intro q h1 h2; exact ⟨h1, h2⟩
  | cons x arms ih => intro q h1 h2; exact ih (CodeOk.put (CodeOk.value _ h1) (by trivial)) (fold_nodup _ _ h2)
theorem CodeOk.ends : ∀ (l : List Nat) {s : CSt}, CodeOk s → CodeOk (endsM l s) := by
  intro l
  induction l with
  | nil => intro s h; exact h
  | cons i l ih => intro s h; exact ih (h.set (by trivial))
theorem CodeOk.def {s : CSt} (d : DefL) (h : CodeOk s) : CodeOk (definitionM d s) := by
  cases d with
  | const t p v => exact h
  | prog t p vs k => exact h
  | typedef d => exact CodeOk.put (h.value d.ty) (by trivial)
  | enum t p ms =>
    have h1 : CodeOk { s with enums := mput s.enums t (membersM ms) } := h
    exact CodeOk.put (h1.put (by trivial)) (by trivial)
  | struct t p ms =>
    have e := CodeOk.all (ms.map (·.ty)) (h.put (x := .struct ms.length true) (by trivial))
    rw [List.foldl_map] at e
    exact CodeOk.put (s := structureM ms s) e (by trivial)
  | union t p sel arms =>
    obtain ⟨h1, h2⟩ := CodeOk.arms arms (q := ⟨putM .hole s, [], none, []⟩) (h.put (by trivial)) (by simp)
    exact CodeOk.put (s := unionM sel arms s) (CodeOk.ends _ (h1.set h2)) (by trivial)
theorem codeOk_types (ds : List DefL) : ∀ x ∈ (typesM ds).1, StepOk x := by
  have h1 : ∀ (l : List DefL) {s : CSt}, CodeOk s → CodeOk (l.foldl (fun s d => definitionM d s) s) := by
    intro l
    induction l with
    | nil => intro s h; exact h
    | cons d l ih => intro s h; exact ih (h.def d)
  have h2 : ∀ (l : List DefL) {p : CSt × List (List UInt8 × Nat)}, CodeOk p.1 → CodeOk (l.foldl startsM p).1 := by
    intro l
    induction l with
    | nil => intro p h; exact h
    | cons d l ih =>
      intro p h
      refine ih ?_
      unfold startsM
      split
      · exact CodeOk.put (h.call _) (by trivial)
      · exact h
  have h3 : ∀ (l : List (Nat × List UInt8)) {s : CSt}, CodeOk s → CodeOk (lnk s l) := by
    intro l
    induction l with
    | nil => intro s h; exact h
    | cons k l ih => intro s h; exact ih (h.set (by trivial))
  have h4 : ∀ (t : Ty) {s : CSt}, CodeOk s → CodeOk (startT t s) := fun t s h => CodeOk.put (h.value t) (by trivial)
  have h5 : ∀ (l : List ProcL) {q : CSt × List (Int × Nat × Nat)}, CodeOk q.1 → CodeOk (l.foldl procStep q).1 := by
    intro l
    induction l with
    | nil => intro q h; exact h
    | cons p l ih => intro q h; exact ih (h4 p.res (h4 p.arg h))
  have h6 : ∀ (l : List VersionL) {q : CSt × PrgL}, CodeOk q.1 → CodeOk (l.foldl verStep q).1 := by
    intro l
    induction l with
    | nil => intro q h; exact h
    | cons v l ih => intro q h; exact ih (h5 v.procs (q := (q.1, [])) h)
  have h7 : ∀ (l : List DefL) {q : CSt × List (Int × PrgL)}, CodeOk q.1 → CodeOk (l.foldl progStep q).1 := by
    intro l
    induction l with
    | nil => intro q h; exact h
    | cons d l ih =>
      intro q h
      refine ih ?_
      cases d with
      | prog t a vs num => exact h6 vs (q := (q.1, _)) h
      | _ => exact h
  exact h3 _ (h7 ds (q := ((ds.foldl startsM (ds.foldl (fun s d => definitionM d s) st0C, [])).1, [])) (h2 ds (p := (ds.foldl (fun s d => definitionM d s) st0C, [])) (h1 ds (by intro x hx; cases hx))))
def wayV (n : NumL) (ws : List (Int × Nat × Nat)) (o : Option (Nat × Nat)) (k : Int) : Value := match wayL n ws o k with
  | some q => .agg #[.int .i64 q.1, .int .i64 q.2]
  | none => .agg #[.int .i64 0, .int .i64 0]
theorem ways_look {W : World} {m : Nat} {l : List (Int × Nat × Nat)} (hb : W.heap[m]? = some (waysObj l)) (nd : (l.map (·.1)).Nodup) (k : Int) :
    (Instr.lookup 318 (.map (some m)) (.int .i64 k) true).run Tryz.prog W = .ok (match mlook l k with
      | some q => .tuple #[.agg #[.int .i64 q.1, .int .i64 q.2], .bool true]
      | none => .tuple #[.agg #[.int .i64 0, .int .i64 0], .bool false]) W := by
  have hh := mapObj_look (P := Tryz.prog) (T := 318) (kt := 2) (et := 323) (d := .int .i64) (by kernel_rfl) (by kernel_rfl) (fun k : Int => .int .i64 k) (fun q : Nat × Nat => .agg #[.int .i64 q.1, .int .i64 q.2]) (fun _ => rfl) int_inj hb nd (z := .agg #[.int .i64 0, .int .i64 0]) (by kernel_rfl) k true
  cases hm : mlook l k with
  | none => rw [hm] at hh; exact hh
  | some v => rw [hm] at hh; exact hh
theorem setTwo {b : Nat} {k t k' t' : Value} {T : TypeId} {fr : Nat × Nat} {w : World} (h : w.heap[b]? = some (.cells #[k, t] T fr)) : ((w.setCell ⟨b, 0, none⟩ k').setCell ⟨b, 1, none⟩ t').heap[b]? = some (.cells #[k', t'] T fr) := by
  have h1 := setBlock (i := 0) h k'
  exact setBlock (i := 1) h1 t'
theorem Way_any {bs : List (Nat × Obj)} {cs : List Value} {n : NumL} {m : Nat} {ws : List (Int × Nat × Nat)} {ov : Value} {o : Option (Nat × Nat)} (hN : NumIn bs cs n) (hm : (m, waysObj ws) ∈ bs) (ho : OtherIn bs ov o) (nd : (ws.map (·.1)).Nodup) (k : Int) {w : World} (hw : ∀ p ∈ bs, w.heap[p.1]? = some p.2) :
    Calls Tryz.prog 314 #[.agg (cs ++ [.map (some m), ov]).toArray, .int .i64 k] w fun e w' => e = .returned (.tuple #[wayV n ws o k, .bool (wayL n ws o k).isSome]) ∧ Below w.heap.size w w' := by
  obtain ⟨mm, rfl, hmem, x, y, z, rfl⟩ := id hN
  obtain ⟨pa, rfl⟩ : ∃ pa, ov = .pointer pa := by
    cases o with
    | none => exact ⟨_, ho⟩
    | some q => obtain ⟨b, h1, _⟩ := ho; exact ⟨_, h1⟩
  have hb2 : ∀ o1 o2, Below w.heap.size w ((w.alloc o1).alloc o2) := fun o1 o2 => ((Below.refl _ _).alloc (Nat.le_refl _) _).alloc (by simp) _
  have VH := Hid.mk (fun o1 o2 => NumHas_any hN k (w := (w.alloc o1).alloc o2) (fun p hp => ((hb2 o1 o2).block _ (lt_of_heap (hw p hp))).trans (hw p hp)))
  go_enter Tryz.func314, Tryz.ntmps314
  go_wp2_with fail
  refine (VH.out _ _).mono ?_
  rintro e w1 ⟨rfl, hbw⟩
  have oB1 : w1.heap[w.heap.size]? = some (.cells #[.int .i64 n.low, .int .i64 n.high, .slice x y z, .bool n.wide, .map (some m), .pointer pa] 321) := (hbw.block _ (by simp; omega)).trans ((Below.heap_alloc _ _ _ (by simp)).trans (heap_alloc_at rfl))
  have oR1 : w1.heap[w.heap.size + 1]? = some (.cells #[.int .i64 0, .int .i64 0] 323) := (hbw.block _ (by simp)).trans (heap_alloc_at (by simp))
  have hbW : Below w.heap.size w w1 := (hb2 _ _).trans (hbw.mono (by simp; omega))
  have hmW : w1.heap[m]? = some (waysObj ws) := (hbW.block _ (lt_of_heap (hw _ hm))).trans (hw _ hm)
  have hlk := ways_look hmW nd k
  have hsz1 := hbW.size
  have lR := lt_of_heap oR1
  have HO := Hid.mk ho
  have HW := Hid.mk hw
  clear hbw hmem ho hw
  cases hh : n.has k with
  | false =>
    have E1 : Hid (wayV n ws o k = .agg #[.int .i64 0, .int .i64 0]) := by show _ = _; simp [wayV, wayL, hh]
    have E2 : Hid ((wayL n ws o k).isSome = false) := by show _ = _; simp [wayL, hh]
    have HBF : Hid (∀ a c, Below w.heap.size w ((w1.setCell ⟨w.heap.size + 1, 0, none⟩ a).setCell ⟨w.heap.size + 1, 1, none⟩ c)) := fun a c => (hbW.setCell (p := ⟨w.heap.size + 1, 0, none⟩) (by simp) a).setCell (p := ⟨w.heap.size + 1, 1, none⟩) (by simp) c
    obtain ⟨r0, r1, rf, rl⟩ := cbound2 oR1
    obtain ⟨z0, z1, _, _⟩ := cbound2 (setTwo (k' := .int .i64 0) (t' := .int .i64 0) oR1)
    clear hbW hlk
    go_wp2
    exact bodyPost_ret (v := .tuple #[.agg #[.int .i64 0, .int .i64 0], .bool false]) (by simp [results, Tryz.results314, go_sem, z0, z1]) rfl ⟨by rw [E1.out, E2.out], HBF.out _ _⟩
  | true =>
    obtain ⟨b0, b1, b2, b3, b4, b5, bf, bl⟩ := cbound6 oB1
    cases hl : mlook ws k with
    | some q =>
      rw [hl] at hlk
      have E1 : Hid (wayV n ws o k = .agg #[.int .i64 q.1, .int .i64 q.2]) := by show _ = _; simp [wayV, wayL, hh, hl]
      have E2 : Hid ((wayL n ws o k).isSome = true) := by show _ = _; simp [wayL, hh, hl]
      have oR : ∀ (k' t' : Value) ob, (((w1.setCell ⟨w.heap.size + 1, 0, none⟩ k').setCell ⟨w.heap.size + 1, 1, none⟩ t').alloc ob).heap[w.heap.size + 1]? = some (.cells #[k', t'] 323) := fun k' t' ob => (Below.heap_alloc _ _ _ (lt_of_heap (setTwo oR1))).trans (setTwo oR1)
      have HBF : Hid (∀ ob a c, Below w.heap.size w (((w1.setCell ⟨w.heap.size + 1, 0, none⟩ a).setCell ⟨w.heap.size + 1, 1, none⟩ c).alloc ob)) := fun ob a c => ((hbW.setCell (p := ⟨w.heap.size + 1, 0, none⟩) (by simp) a).setCell (p := ⟨w.heap.size + 1, 1, none⟩) (by simp) c).alloc (by simp [World.setCell]; omega) ob
      obtain ⟨r0, r1, rf, rl⟩ := cbound2 oR1
      have zz := fun ob => cbound2 (oR (.int .i64 (q.1 : Int)) (.int .i64 (q.2 : Int)) ob)
      have z0 := fun ob => (zz ob).1
      have z1 := fun ob => (zz ob).2.1
      clear hbW zz oR hh hl
      go_wp2
      exact bodyPost_ret (v := .tuple #[.agg #[.int .i64 q.1, .int .i64 q.2], .bool true]) (by simp [results, Tryz.results314, go_sem, z0, z1]) rfl ⟨by rw [E1.out, E2.out], HBF.out _ _ _⟩
    | none =>
      rw [hl] at hlk
      have oR : ∀ (k' t' : Value) ob, (((w1.setCell ⟨w.heap.size + 1, 0, none⟩ k').setCell ⟨w.heap.size + 1, 1, none⟩ t').alloc ob).heap[w.heap.size + 1]? = some (.cells #[k', t'] 323) := fun k' t' ob => (Below.heap_alloc _ _ _ (lt_of_heap (setTwo oR1))).trans (setTwo oR1)
      have HBF : Hid (∀ ob a c, Below w.heap.size w (((w1.setCell ⟨w.heap.size + 1, 0, none⟩ a).setCell ⟨w.heap.size + 1, 1, none⟩ c).alloc ob)) := fun ob a c => ((hbW.setCell (p := ⟨w.heap.size + 1, 0, none⟩) (by simp) a).setCell (p := ⟨w.heap.size + 1, 1, none⟩) (by simp) c).alloc (by simp [World.setCell]; omega) ob
      obtain ⟨r0, r1, rf, rl⟩ := cbound2 oR1
      cases o with
      | some q =>
        obtain ⟨b9, e9, h9⟩ := HO.out
        cases e9
        have h9' : w1.heap[b9]? = some (.cells #[.int .i64 q.1, .int .i64 q.2] 323) := (hbW.block _ (lt_of_heap (HW.out _ h9))).trans (HW.out _ h9)
        obtain ⟨p0, p1, pf, pl⟩ := cbound2 h9'
        have E1 : Hid (wayV n ws (some q) k = .agg #[.int .i64 q.1, .int .i64 q.2]) := by show _ = _; simp [wayV, wayL, hh, hl]
        have E2 : Hid ((wayL n ws (some q) k).isSome = true) := by show _ = _; simp [wayL, hh, hl]
        have zz := fun ob => cbound2 (oR (.int .i64 (q.1 : Int)) (.int .i64 (q.2 : Int)) ob)
        have z0 := fun ob => (zz ob).1
        have z1 := fun ob => (zz ob).2.1
        clear hbW zz oR hh hl
        go_wp2
        exact bodyPost_ret (v := .tuple #[.agg #[.int .i64 q.1, .int .i64 q.2], .bool true]) (by simp [results, Tryz.results314, go_sem, z0, z1]) rfl ⟨by rw [E1.out, E2.out], HBF.out _ _ _⟩
      | none =>
        have e9 : Value.pointer pa = .pointer none := HO.out
        cases e9
        have E1 : Hid (wayV n ws none k = .agg #[.int .i64 0, .int .i64 0]) := by show _ = _; simp [wayV, wayL, hh, hl]
        have E2 : Hid ((wayL n ws none k).isSome = false) := by show _ = _; simp [wayL, hh, hl]
        have zz := fun ob => cbound2 (oR (.int .i64 0) (.int .i64 0) ob)
        have z0 := fun ob => (zz ob).1
        have z1 := fun ob => (zz ob).2.1
        clear hbW zz oR hh hl
        go_wp2
        exact bodyPost_ret (v := .tuple #[.agg #[.int .i64 0, .int .i64 0], .bool false]) (by simp [results, Tryz.results314, go_sem, z0, z1]) rfl ⟨by rw [E1.out, E2.out], HBF.out _ _ _⟩
end Go.Proofs.YtmbcibgknckenaaGreatDoor
set_option linter.all false
set_option maxRecDepth 100000
set_option maxHeartbeats 4000000
namespace Go.Proofs.YtmbcibgknckenaaGreatDoor
open Go.RowKit
open Go.MapKept
theorem DecAt.setFr {w u : World} {D : Nat} {Fr bs : List (Nat × Obj)} {b : List UInt8} {dep fuel size : Nat} {d : DSt} {nsl : Value} {m : Nat} {o o' : Obj} {u' : World} (h : DecAt w D ((m, o) :: Fr) bs b dep fuel size d nsl u) (hk : Keeps [m] u u') (ho : u'.heap[m]? = some o') : DecAt w D ((m, o') :: Fr) bs b dep fuel size d nsl u' :=
  h.beside hk (by simpa using (h.own.hf (m, o) (by simp)).2) (h.own.setFr hk ho)
theorem DArm_any {w u : World} {D : Nat} {Fr bs : List (Nat × Obj)} {b : List UInt8} {dep fuel size : Nat} {d : DSt} {nsl : Value} {bsN : List (Nat × Obj)} {cs : List Value} {n : NumL} {m : Nat} {ws : List (Int × Nat × Nat)} {ov : Value} {o : Option (Nat × Nat)} (hN : NumIn bsN cs n) (hm : (m, waysObj ws) ∈ bsN) (ho : OtherIn bsN ov o) (nd : (ws.map (·.1)).Nodup) (hw : ∀ p ∈ bsN, w.heap[p.1]? = some p.2) (hfu : fuel ≤ 10000) (h : DecAt w D Fr bs b dep fuel size d nsl u) :
    Calls Tryz.prog 323 #[.pointer (some ⟨D, 0, none⟩), .agg (cs ++ [.map (some m), ov]).toArray] u (GivesDc w D Fr bs b dep fuel size ((decW b dep fuel).arm n (fun k => (wayL n ws o k).map (·.2)) d) (wayV n ws o)) := by
  obtain ⟨mm, rfl, hmem, x, y, z, rfl⟩ := id hN
  obtain ⟨pa, rfl⟩ : ∃ pa, ov = .pointer pa := by
    cases o with
    | none => exact ⟨_, ho⟩
    | some q => obtain ⟨b, h1, _⟩ := ho; exact ⟨_, h1⟩
  have M0 := (h.alloc (.cells #[.int .i64 n.low, .int .i64 n.high, .slice x y z, .bool n.wide, .map (some m), .pointer pa] 321)).alloc (.cells #[.int .i64 0, .int .i64 0] 323)
  have hsz : (u.alloc (.cells #[.int .i64 n.low, .int .i64 n.high, .slice x y z, .bool n.wide, .map (some m), .pointer pa] 321)).heap.size = u.heap.size + 1 := by simp
  rw [hsz] at M0
  have VB := Hid.mk (begin_any M0)
  clear h M0
  go_enter Tryz.func323, Tryz.ntmps323
  go_wp2_with fail
  refine VB.out.mono ?_
  rintro e w1 (⟨_, d1, nsl1, hx, rfl, M1⟩ | ⟨f', hx, hk, g, hg, rfl, hc⟩)
  rotate_left
  · refine bodyPost_panics (Or.inr ⟨f', ?_, hk, g, hg, rfl, hc⟩)
    rcases begin_cases fuel d with ⟨hb, _⟩ | hb
    · rw [hb] at hx; cases hx
    · rw [hb] at hx
      cases hx
      show thenE (beginD fuel d) _ = _
      rw [hb]
      rfl
  obtain ⟨hb, hnl⟩ : beginD fuel d = .ok d ∧ d.nodes.length < fuel := by
    rcases begin_cases fuel d with hb | hb
    · exact hb
    · rw [hb] at hx; cases hx
  obtain rfl : d1 = d := by rw [hb] at hx; cases hx; rfl
  have E0 : Hid ((decW b dep fuel).arm n (fun k => (wayL n ws o k).map (·.2)) d1 = thenE (wordD b d1) fun p => match (wayL n ws o (ofWord n p.1)).map (·.2) with | none => .error ⟨18, d1.pos⟩ | some k => .ok (ofWord n p.1, putD ⟨4, ofWord n p.1, [], k, 0⟩ p.2)) := by
    show thenE (beginD fuel d1) _ = _
    rw [hb]
    rfl
  have VA := Hid.mk (At_any M1)
  have VW := Hid.mk (Word_any (M1.below (Below.refl _ _).drew))
  obtain ⟨q0, q1, q2, q3, q4, q5, qf, ql⟩ := cbound6 (M1.own.hf _ (List.mem_cons_of_mem _ List.mem_cons_self)).1
  clear hx hb M1 VB
  go_wp2_with fail
  refine VA.out.mono ?_
  rintro e w2 ⟨rfl, rfl⟩
  go_wp2_with fail
  refine region_last (fun w' => w'.cell? ⟨u.heap.size, 0, none⟩ = some (.int .i64 n.low) ∧ w'.cell? ⟨u.heap.size, 1, none⟩ = some (.int .i64 n.high) ∧ w'.cell? ⟨u.heap.size, 2, none⟩ = some (.slice x y z) ∧ w'.cell? ⟨u.heap.size, 3, none⟩ = some (.bool n.wide)) (L := 7) (by kernel_rfl) rfl (by kernel_rfl) (by kernel_rfl) ?_ (fun hHeld => ?_)
  · go_keep
  refine tk (i := 0) (v := ?_) rfl (by kernel_rfl) (fun _ _ _ h => h) (by rfl) (by assumption) ?_ ?_
  rotate_left
  · intro w hSw; (try dsimp only at hSw); go_simp; (try with_reducible rfl)
  (try simp only [put_l, put_z, List.set])
  refine tk (i := 1) (v := ?_) rfl (by kernel_rfl) (fun _ _ _ h => h) (by rfl) (by assumption) ?_ ?_
  rotate_left
  · intro w hSw; (try dsimp only at hSw); go_simp; (try with_reducible rfl)
  (try simp only [put_l, put_z, List.set])
  refine tk (i := 2) (v := ?_) rfl (by kernel_rfl) (fun _ _ _ h => h) (by rfl) (by assumption) ?_ ?_
  rotate_left
  · intro w hSw; (try dsimp only at hSw); go_simp; (try with_reducible rfl)
  (try simp only [put_l, put_z, List.set])
  refine tk (i := 3) (v := ?_) rfl (by kernel_rfl) (fun _ _ _ h => h) (by rfl) (by assumption) ?_ ?_
  rotate_left
  · intro w hSw; (try dsimp only at hSw); go_simp; (try with_reducible rfl)
  (try simp only [put_l, put_z, List.set])
  refine tk (i := 4) (v := ?_) rfl (by kernel_rfl) (fun _ _ _ h => h) (by rfl) (by assumption) ?_ ?_
  rotate_left
  · intro w hSw; (try dsimp only at hSw); go_simp; (try with_reducible rfl)
  (try simp only [put_l, put_z, List.set])
  refine wpAnyH_ready (rs := [5]) (by kernel_rfl) (by simp) ?_
  refine AllReadyH.cons rfl (fun K hK => ?_) AllReadyH.nil
  (go_simp; go_at_call 76; refine VW.out.mono ?_; rintro e w3 (⟨v, d3, nsl3, hx, rfl, M3⟩ | ⟨f, hx, hk, g, hg, rfl, hc⟩); rotate_left; exact bodyPost_panics (Or.inr ⟨f, by rw [E0.out, hx]; rfl, hk, g, hg, rfl, hc⟩); obtain ⟨r0, r1, r2, r3, r4, r5, rf, rl⟩ := cbound6 (M3.own.hf _ (List.mem_cons_of_mem _ List.mem_cons_self)).1; have hv : v < 4294967296 := (by rw [(word_ok hx).1]; exact big_lt4 (word_ok hx).2.1); have hnd : d3.nodes.length < 10000 := (by rw [(word_ok hx).2.2.2.1]; omega); have E1 : Hid ((decW b dep fuel).arm n (fun k => (wayL n ws o k).map (·.2)) d1 = match (wayL n ws o (ofWord n v)).map (·.2) with | none => .error ⟨18, d1.pos⟩ | some k => .ok (ofWord n v, putD ⟨4, ofWord n v, [], k, 0⟩ d3)) := (by show _ = _; rw [E0.out, hx]; rfl); have M3 := Hid.mk M3; clear hx)
  refine hK.out _ _ ?_ (fun hHeld => ?_)
  · go_keep
  clear hK K
  (try simp only [put_l, put_z, List.set])
  refine wpAnyH_ready (rs := [6]) (by kernel_rfl) (by simp) ?_
  refine AllReadyH.cons rfl (fun K hK => ?_) AllReadyH.nil
  (go_simp; go_at_call 328; refine (Of_any n x y z v hv w3).mono ?_; rintro e w4 ⟨rfl, hb4⟩; have M4 := M3.out.below hb4; obtain ⟨s0, s1, s2, s3, s4, s5, sf, sl⟩ := cbound6 (M4.own.hf _ (List.mem_cons_of_mem _ List.mem_cons_self)).1; have M4 := Hid.mk M4; clear hb4)
  refine hK.out _ _ ?_ (fun hHeld => ?_)
  · go_keep
  clear hK K
  (try simp only [put_l, put_z, List.set])
  refine wpAnyH_done (by kernel_rfl) ?_ _
  refine last_step rfl (fun K hK => ?_)
  go_simp
  refine hK.out _ _ ?_
  clear hK K
  (try simp only [put_l, put_z, List.set])
  have VY := Hid.mk (Way_any hN hm ho nd (ofWord n v) (fun p hp => (M4.out.own.kp.block _ (lt_of_heap (hw p hp)) (by simp)).trans (hw p hp)))
  clear VA VW E0
  go_wp2_with fail
  refine VY.out.mono ?_
  rintro e w5 ⟨rfl, hb5⟩
  have M5 := M4.out.below hb5
  have hk5 : Hid (Keeps [] w w5) := M5.own.kp
  cases hwl : wayL n ws o (ofWord n v) with
  | none =>
    have EV : wayV n ws o (ofWord n v) = .agg #[.int .i64 0, .int .i64 0] := by simp [wayV, hwl]
    have E2 : Hid ((decW b dep fuel).arm n (fun k => (wayL n ws o k).map (·.2)) d1 = .error ⟨18, d1.pos⟩) := by show _ = _; rw [E1.out, hwl]; rfl
    rw [EV]
    simp only [Option.isSome_none]
    clear M5 E1 EV VY hwl
    go_wp2_with (go_at_call 47; refine (New_any _ _ _).mono ?_; rintro e w' ⟨rfl, rfl⟩)
    exact bodyPost_panics (GivesDc.throws (u := w5) (f := ⟨18, d1.pos⟩) E2.out hk5.out (((Keeps.refl [] _).alloc _).alloc _) (by simp) (heap_alloc_at (by simp)))
  | some q =>
    have EV : wayV n ws o (ofWord n v) = .agg #[.int .i64 q.1, .int .i64 q.2] := by simp [wayV, hwl]
    have E2 : Hid ((decW b dep fuel).arm n (fun k => (wayL n ws o k).map (·.2)) d1 = .ok (ofWord n v, putD ⟨4, ofWord n v, [], q.2, 0⟩ d3)) := by show _ = _; rw [E1.out, hwl]; rfl
    have HEV := Hid.mk EV
    rw [EV]
    simp only [Option.isSome_some]
    have M6 := M5.alloc (.cells #[.int .i64 q.1, .int .i64 q.2] 323)
    have VP := Hid.mk (dput_any ⟨4, ofWord n v, [], q.2, 0⟩ hnd M6)
    clear M5 M6 E1 EV VY hwl
    go_wp2_with fail
    refine VP.out.mono ?_
    rintro e w7 ⟨rfl, nsl7, M7⟩
    obtain ⟨t0, t1, tf, tl⟩ := cbound2 (M7.own.hf _ List.mem_cons_self).1
    have oR := (M7.own.hf _ (List.mem_cons_of_mem _ List.mem_cons_self)).1
    obtain ⟨p0, p1, pf, pl⟩ := cbound2 oR
    have z := setTwo (k' := .int .i64 (q.1 : Int)) (t' := .int .i64 (q.2 : Int)) oR
    obtain ⟨z0, z1, _, _⟩ := cbound2 z
    have M8 := Hid.mk (M7.tail.setFr (((Keeps.refl [u.heap.size + 1] w7).setIn (p := ⟨u.heap.size + 1, 0, none⟩) (by simp) (.int .i64 (q.1 : Int))).setIn (p := ⟨u.heap.size + 1, 1, none⟩) (by simp) (.int .i64 (q.2 : Int))) z).tail.tail
    clear M7 oR z VP
    go_wp2
    exact bodyPost_ret (v := .agg #[.int .i64 q.1, .int .i64 q.2]) (by simp [results, Tryz.results323, go_sem, z0, z1]) rfl (Or.inl ⟨ofWord n v, _, nsl7, E2.out, by rw [HEV.out], M8.out⟩)
end Go.Proofs.YtmbcibgknckenaaGreatDoor
set_option linter.all false
set_option maxRecDepth 100000
set_option maxHeartbeats 4000000
namespace Go.Proofs.YtmbcibgknckenaaGreatDoor
open Go.RowKit
open Go.MapKept
def GivesW {τ α : Type} (w : World) (J : List (Nat × Obj) → τ → World → Prop) (Fr : List (Nat × Obj)) (r : Except Mar.Fault (α × τ)) (V : α → Value) (e : Ending) (u' : World) : Prop :=
  (∃ a d', r = .ok (a, d') ∧ e = .returned (V a) ∧ J Fr d' u') ∨ (∃ f, r = .error f ∧ Keeps [] w u' ∧ Thrown w f.no f.at' e u')
def unitW {τ : Type} (r : Except Mar.Fault τ) : Except Mar.Fault (Unit × τ) := thenE r fun d => .ok ((), d)
structure Wkr (τ : Type) (w : World) (bs : List (Nat × Obj)) where
  W : Wk τ
  T : TypeId
  D : Nat
  J : List (Nat × Obj) → τ → World → Prop
  base : ∀ {Fr d u}, J Fr d u → ∃ own bz, Own w own Fr bz u ∧ ∀ {Fr' u' M}, Keeps M u u' → (∀ m ∈ M, m ∉ own) → Own w own Fr' bz u' → J Fr' d u'
  fE : Nat
  fN : Nat
  fT : Nat
  fL : Nat
  fA : Nat
  mE : ∀ k (u : World), (method (k + 1) T (.pointer (some ⟨D, 0, none⟩)) "Enter").run Tryz.prog u = .ok (fE, .pointer (some ⟨D, 0, none⟩)) u
  mN : ∀ k (u : World), (method (k + 1) T (.pointer (some ⟨D, 0, none⟩)) "Number").run Tryz.prog u = .ok (fN, .pointer (some ⟨D, 0, none⟩)) u
  mT : ∀ k (u : World), (method (k + 1) T (.pointer (some ⟨D, 0, none⟩)) "Text").run Tryz.prog u = .ok (fT, .pointer (some ⟨D, 0, none⟩)) u
  mL : ∀ k (u : World), (method (k + 1) T (.pointer (some ⟨D, 0, none⟩)) "List").run Tryz.prog u = .ok (fL, .pointer (some ⟨D, 0, none⟩)) u
  mA : ∀ k (u : World), (method (k + 1) T (.pointer (some ⟨D, 0, none⟩)) "Arm").run Tryz.prog u = .ok (fA, .pointer (some ⟨D, 0, none⟩)) u
  eE : ∀ (args : Array Value) (u : World), (callFunc fE args).run Tryz.prog u = .ok (.enter fE args) u
  eN : ∀ (args : Array Value) (u : World), (callFunc fN args).run Tryz.prog u = .ok (.enter fN args) u
  eT : ∀ (args : Array Value) (u : World), (callFunc fT args).run Tryz.prog u = .ok (.enter fT args) u
  eL : ∀ (args : Array Value) (u : World), (callFunc fL args).run Tryz.prog u = .ok (.enter fL args) u
  eA : ∀ (args : Array Value) (u : World), (callFunc fA args).run Tryz.prog u = .ok (.enter fA args) u
  cE : ∀ {Fr d u} (k : Nat), k < 1000 → J Fr d u → Calls Tryz.prog fE #[.pointer (some ⟨D, 0, none⟩), .int .i64 k] u (GivesW w J Fr (unitW (W.enter k d)) fun _ => .tuple #[])
  cN : ∀ {Fr d u cs n}, NumIn bs cs n → J Fr d u → Calls Tryz.prog fN #[.pointer (some ⟨D, 0, none⟩), .agg cs.toArray] u (GivesW w J Fr (unitW (W.num n d)) fun _ => .tuple #[])
  cT : ∀ {Fr d u} (n : Int) (f : Bool), 0 ≤ n → n ≤ 4294967295 → J Fr d u → Calls Tryz.prog fT #[.pointer (some ⟨D, 0, none⟩), .agg #[.int .i64 n, .bool f]] u (GivesW w J Fr (unitW (W.text n f d)) fun _ => .tuple #[])
  cL : ∀ {Fr d u} (n : Int) (f : Bool), 0 ≤ n → n ≤ 4294967295 → J Fr d u → Calls Tryz.prog fL #[.pointer (some ⟨D, 0, none⟩), .agg #[.int .i64 n, .bool f]] u (GivesW w J Fr (W.list n f d) fun v => .int .i64 v)
  cA : ∀ {Fr d u cs n m ws ov o}, NumIn bs cs n → (m, waysObj ws) ∈ bs → OtherIn bs ov o → (ws.map (·.1)).Nodup → J Fr d u → Calls Tryz.prog fA #[.pointer (some ⟨D, 0, none⟩), .agg (cs ++ [.map (some m), ov]).toArray] u (GivesW w J Fr (W.arm n (fun k => (wayL n ws o k).map (·.2)) d) (wayV n ws o))
  small : ∀ {n f d k d'}, 0 ≤ n → n ≤ 4294967295 → W.list n f d = .ok (k, d') → k ≤ 4294967295
section
variable {τ : Type} {w u u' : World} {bs : List (Nat × Obj)} (K : Wkr τ w bs) {Fr : List (Nat × Obj)} {d : τ}
theorem Wkr.kp (h : K.J Fr d u) : Keeps [] w u := by
  obtain ⟨own, bz, ho, _⟩ := K.base h
  exact ho.kp
theorem Wkr.below (h : K.J Fr d u) (hb : Below u.heap.size u u') : K.J Fr d u' := by
  obtain ⟨own, bz, ho, hf⟩ := K.base h
  exact hf (Keeps.of_below [] hb) (by simp) (ho.below hb)
theorem Wkr.alloc (h : K.J Fr d u) (o : Obj) : K.J ((u.heap.size, o) :: Fr) d (u.alloc o) := by
  obtain ⟨own, bz, ho, hf⟩ := K.base h
  exact hf ((Keeps.refl [] u).alloc o) (by simp) (ho.alloc o)
theorem Wkr.perm {Fr' : List (Nat × Obj)} (h : K.J Fr d u) (hp : Fr.Perm Fr') : K.J Fr' d u := by
  obtain ⟨own, bz, ho, hf⟩ := K.base h
  refine hf (Keeps.refl [] u) (by simp) (ho.sub (fun q hq => hp.mem_iff.2 hq) ?_)
  have := ho.fnd
  rw [(hp.map _).nodup_iff] at this
  exact this
theorem Wkr.sub {Fr' : List (Nat × Obj)} (h : K.J Fr d u) (hs : ∀ p ∈ Fr', p ∈ Fr) (hn : (Fr'.map (·.1)).Nodup) : K.J Fr' d u := by
  obtain ⟨own, bz, ho, hf⟩ := K.base h
  exact hf (Keeps.refl [] u) (by simp) (ho.sub hs hn)
theorem Wkr.nodup (h : K.J Fr d u) : (Fr.map (·.1)).Nodup := by
  obtain ⟨own, bz, ho, hf⟩ := K.base h
  exact ho.fnd
theorem Wkr.at (h : K.J Fr d u) {p : Nat × Obj} (hp : p ∈ Fr) : u.heap[p.1]? = some p.2 ∧ w.heap.size ≤ p.1 := by
  obtain ⟨own, bz, ho, hf⟩ := K.base h
  exact ⟨(ho.hf p hp).1, ho.fnew p hp⟩
theorem Wkr.setFr {m : Nat} {o o' : Obj} (h : K.J ((m, o) :: Fr) d u) (hk : Keeps [m] u u') (ho' : u'.heap[m]? = some o') : K.J ((m, o') :: Fr) d u' := by
  obtain ⟨own, bz, ho, hf⟩ := K.base h
  exact hf hk (by simpa using (ho.hf (m, o) (by simp)).2) (ho.setFr hk ho')
theorem Wkr.turnAt {A B : List (Nat × Obj)} {m : Nat} {o o' : Obj} (h : K.J (A ++ (m, o) :: B) d u) (hk : Keeps [m] u u') (ho' : u'.heap[m]? = some o') : K.J (A ++ (m, o') :: B) d u' :=
  K.perm (K.setFr (K.perm h List.perm_middle) hk ho') List.perm_middle.symm
end
def RowFr (E : List (Nat × Obj)) (t : TypeId) (sz : Nat) (v : Value) (n : Nat) (xs : List Value) : Prop :=
  (E = [] ∧ v = .slice none 0 0 ∧ n = 0 ∧ xs = []) ∨ ∃ g cap cur, E = [(g, .cells cur t)] ∧ v = .slice (some ⟨g, 0, none⟩) n cap ∧ n ≤ cap ∧ cap ≤ maxLen ∧ cur.size = cap * sz ∧ cur.toList.take (n * sz) = xs
section
variable {τ : Type} {w u : World} {bs : List (Nat × Obj)} (K : Wkr τ w bs) {Fr E : List (Nat × Obj)} {d : τ} {t : TypeId} {sz n : Nat} {v : Value} {xs : List Value}
theorem RowFr.slice (h : RowFr E t sz v n xs) : ∃ ad cap, v = .slice ad n cap := by
  rcases h with ⟨_, rfl, rfl, _⟩ | ⟨g, cap, cur, _, rfl, _⟩
  · exact ⟨none, 0, rfl⟩
  · exact ⟨_, _, rfl⟩
theorem RowFr.owns (h : RowFr E t sz v n xs) (hx : xs.length = n * sz) (hj : K.J (E ++ Fr) d u) : u.ownsRow w.heap.size t sz v n xs := by
  refine ⟨hx, ?_⟩
  rcases h with ⟨_, rfl, rfl, rfl⟩ | ⟨g, cap, cur, rfl, rfl, h1, h2, h3, h4⟩
  · exact Or.inl ⟨rfl, rfl⟩
  · obtain ⟨a1, a2⟩ := K.at hj (p := (g, .cells cur t)) (by simp)
    exact Or.inr ⟨g, cap, cur, rfl, a2, a1, h1, h2, h3, h4⟩
theorem RowFr.grow {u2 u3 : World} {g cap : Nat} {news : List Value} (h : RowFr E t sz v n xs) (hj : K.J (E ++ Fr) d u) (hb : Below u.heap.size u u2)
    (hown : u3.ownsRow w.heap.size t sz (.slice (some ⟨g, 0, none⟩) (n + 1) cap) (n + 1) (xs ++ news)) (hg : u2.grownBy u3 v.ownBlock) (hat : v.ownBlock = some g ∨ g = u2.heap.size) :
    ∃ E', RowFr E' t sz (.slice (some ⟨g, 0, none⟩) (n + 1) cap) (n + 1) (xs ++ news) ∧ K.J (E' ++ Fr) d u3 := by
  obtain ⟨hwg, hlt⟩ := owns_lt hown (g := g) rfl
  rcases hown.2 with ⟨h0, _⟩ | ⟨g', cap', cur, e, _, o2, o3, o4, o5, o6⟩
  · cases h0
  cases e
  have j2 := K.below hj hb
  have hk := keeps_grown hg
  refine ⟨[(g, .cells cur t)], Or.inr ⟨g, cap, cur, rfl, rfl, o3, o4, o5, o6⟩, ?_⟩
  rcases h with ⟨rfl, rfl, rfl, rfl⟩ | ⟨g0, cap0, cur0, rfl, rfl, h1, h2, h3, h4⟩
  · simp only [Value.ownBlock] at hat hk
    have hgs : g = u2.heap.size := by
      rcases hat with h | h
      · cases h
      · exact h
    have hk0 : Keeps [] u2 u3 := hk.mono (by simp)
    obtain ⟨own, bz, ho, hf⟩ := K.base j2
    refine hf hk0 (by simp) ((ho.turn hk0 (by simp)).addFr o2 hwg ?_ ?_ ?_)
    · intro hm; have := ho.lt _ hm; omega
    · intro p hp; have := lt_of_heap (ho.hf p hp).1; omega
    · intro p hp; have := lt_of_heap (ho.hb p hp).1; omega
  · simp only [Value.ownBlock, Option.some.injEq, Option.toList_some] at hat hk
    rcases hat with rfl | hgs
    · exact K.setFr (o := .cells cur0 t) j2 hk o2
    · have hn := K.nodup j2
      simp only [List.cons_append, List.nil_append, List.map_cons, List.nodup_cons] at hn
      obtain ⟨own, bz, ho, hf⟩ := K.base j2
      have hg0 := ho.hf _ List.mem_cons_self
      have t2 := ho.tail
      have o1 : Own w own Fr bz u3 := t2.other hk (by
        intro x hx
        simp only [List.mem_singleton] at hx
        subst hx
        refine ⟨ho.fnew _ List.mem_cons_self, hg0.2, ?_, ?_⟩
        · intro p hp e
          exact hn.1 (by rw [← e]; exact List.mem_map_of_mem hp)
        · intro p hp e
          exact ho.sep _ List.mem_cons_self p hp e.symm)
      refine hf hk (by simpa using hg0.2) (o1.addFr o2 hwg ?_ ?_ ?_)
      · intro hm; have := ho.lt _ hm; omega
      · intro p hp; have := lt_of_heap (t2.hf p hp).1; omega
      · intro p hp; have := lt_of_heap (ho.hb p hp).1; omega
theorem RowFr.pop {ys zs : List Value} (h : RowFr E t sz v (n + 1) (ys ++ zs)) (hy : ys.length = n * sz) : ∃ g cap cur, v = .slice (some ⟨g, 0, none⟩) (n + 1) cap ∧ n + 1 ≤ cap ∧ E = [(g, .cells cur t)] ∧ cur.toList.take ((n + 1) * sz) = ys ++ zs ∧ RowFr E t sz (.slice (some ⟨g, 0, none⟩) n cap) n ys := by
  rcases h with ⟨_, _, h0, _⟩ | ⟨g, cap, cur, rfl, rfl, h1, h2, h3, h4⟩
  · omega
  · refine ⟨g, cap, cur, rfl, h1, rfl, h4, Or.inr ⟨g, cap, cur, rfl, rfl, by omega, h2, h3, ?_⟩⟩
    have : cur.toList.take (n * sz) = (cur.toList.take ((n + 1) * sz)).take (n * sz) := by
      rw [List.take_take]
      congr 1
      rw [Nat.add_mul]
      omega
    rw [this, h4, ← hy]
    simp
end
end Go.Proofs.YtmbcibgknckenaaGreatDoor
set_option linter.all false
set_option maxRecDepth 100000
set_option maxHeartbeats 4000000
namespace Go.Proofs.YtmbcibgknckenaaGreatDoor
open Go.RowKit
open Go.MapKept
abbrev roundC (p : Nat × Nat) : List Value := [.int .i64 p.1, .int .i64 p.2]
abbrev mObj {τ : Type} {w : World} {bs : List (Nat × Obj)} (K : Wkr τ w bs) (nx : Nat) (csl rsl : Value) (en : Bool) : Obj := .cells #[.iface K.T (.pointer (some ⟨K.D, 0, none⟩)), .int .i64 nx, csl, rsl, .bool en] 237
structure McAt {τ : Type} {w : World} {bs : List (Nat × Obj)} (K : Wkr τ w bs) (Fr : List (Nat × Obj)) (M : Nat) (m : MSt) (en : Bool) (d : τ) (Ec Er : List (Nat × Obj)) (csl rsl : Value) (u : World) : Prop where
  rc : RowFr Ec 3 1 csl m.calls.length (m.calls.reverse.map intCV)
  rr : RowFr Er 413 2 rsl m.rounds.length (m.rounds.reverse.flatMap roundC)
  j : K.J (Ec ++ (Er ++ (M, mObj K m.next csl rsl en) :: Fr)) d u
def Mc {τ : Type} {w : World} {bs : List (Nat × Obj)} (K : Wkr τ w bs) (Fr : List (Nat × Obj)) (M : Nat) (m : MSt) (en : Bool) (d : τ) (u : World) : Prop := ∃ Ec Er csl rsl, McAt K Fr M m en d Ec Er csl rsl u
theorem cbound5 {b : Nat} {c0 c1 c2 c3 c4 : Value} {T : TypeId} {w : World} (h : w.heap[b]? = some (.cells #[c0, c1, c2, c3, c4] T)) :
    w.cell? ⟨b, 0, none⟩ = some c0 ∧ w.cell? ⟨b, 1, none⟩ = some c1 ∧ w.cell? ⟨b, 2, none⟩ = some c2 ∧ w.cell? ⟨b, 3, none⟩ = some c3 ∧ w.cell? ⟨b, 4, none⟩ = some c4 ∧ (∀ i, w.frozen? ⟨b, i, none⟩ = false) ∧ b < w.heap.size := by
  refine ⟨?_, ?_, ?_, ?_, ?_, ?_, lt_of_heap h⟩ <;> simp [World.cell?, World.frozen?, h]
section
variable {τ : Type} {w u u' : World} {bs : List (Nat × Obj)} {K : Wkr τ w bs} {Fr : List (Nat × Obj)} {M : Nat} {m : MSt} {en : Bool} {d : τ} {Ec Er : List (Nat × Obj)} {csl rsl : Value}
theorem McAt.box (h : McAt K Fr M m en d Ec Er csl rsl u) : u.heap[M]? = some (mObj K m.next csl rsl en) := (K.at h.j (p := (M, mObj K m.next csl rsl en)) (by simp)).1
theorem McAt.cells (h : McAt K Fr M m en d Ec Er csl rsl u) : u.cell? ⟨M, 0, none⟩ = some (.iface K.T (.pointer (some ⟨K.D, 0, none⟩))) ∧ u.cell? ⟨M, 1, none⟩ = some (.int .i64 m.next) ∧ u.cell? ⟨M, 2, none⟩ = some csl ∧ u.cell? ⟨M, 3, none⟩ = some rsl ∧ u.cell? ⟨M, 4, none⟩ = some (.bool en) ∧ (∀ i, u.frozen? ⟨M, i, none⟩ = false) ∧ M < u.heap.size := cbound5 h.box
theorem McAt.below (h : McAt K Fr M m en d Ec Er csl rsl u) (hb : Below u.heap.size u u') : McAt K Fr M m en d Ec Er csl rsl u' := ⟨h.rc, h.rr, K.below h.j hb⟩
theorem Wkr.turn2 {A A' B : List (Nat × Obj)} {q : Nat} {o o' : Obj} (h : K.J (A ++ (A' ++ (q, o) :: B)) d u) (hk : Keeps [q] u u') (ho' : u'.heap[q]? = some o') : K.J (A ++ (A' ++ (q, o') :: B)) d u' := by
  have := K.turnAt (A := A ++ A') (by simpa using h) hk ho'
  simpa using this
theorem McAt.goto (h : McAt K Fr M m en d Ec Er csl rsl u) (p : Nat) : McAt K Fr M { m with next := p } en d Ec Er csl rsl (u.setCell ⟨M, 1, none⟩ (.int .i64 p)) :=
  ⟨h.rc, h.rr, Wkr.turn2 h.j ((Keeps.refl [M] u).setIn (p := ⟨M, 1, none⟩) (by simp) _) (setBlock (i := 1) h.box _)⟩
theorem McAt.ended (h : McAt K Fr M m en d Ec Er csl rsl u) (b : Bool) : McAt K Fr M m b d Ec Er csl rsl (u.setCell ⟨M, 4, none⟩ (.bool b)) :=
  ⟨h.rc, h.rr, Wkr.turn2 h.j ((Keeps.refl [M] u).setIn (p := ⟨M, 4, none⟩) (by simp) _) (setBlock (i := 4) h.box _)⟩
end
theorem Len_any {τ : Type} {w u : World} {bs : List (Nat × Obj)} {K : Wkr τ w bs} {Fr : List (Nat × Obj)} {M : Nat} {m : MSt} {en : Bool} {d : τ} (h : Mc K Fr M m en d u) :
    Calls Tryz.prog 275 #[.pointer (some ⟨M, 2, none⟩)] u fun e u' => e = .returned (.int .i64 m.calls.length) ∧ u' = u := by
  obtain ⟨Ec, Er, csl, rsl, h⟩ := h
  obtain ⟨ad, cap, rfl⟩ := h.rc.slice
  obtain ⟨c0, c1, c2, c3, c4, cf, cl⟩ := h.cells
  clear h
  go_enter Tryz.func275, Tryz.ntmps275
  go_wp2
  go_ret
  exact ⟨rfl, rfl⟩
theorem Push_any {τ : Type} {w u : World} {bs : List (Nat × Obj)} {K : Wkr τ w bs} {Fr : List (Nat × Obj)} {M : Nat} {m : MSt} {en : Bool} {d : τ} (p : Nat) (hc : m.calls.length < 1000) (h : Mc K Fr M m en d u) :
    Calls Tryz.prog 276 #[.pointer (some ⟨M, 2, none⟩), .int .i64 p] u fun e u' => e = .returned (.tuple #[]) ∧ Mc K Fr M { m with calls := p :: m.calls } en d u' := by
  obtain ⟨Ec, Er, csl, rsl, h⟩ := h
  obtain ⟨ad, cap, rfl⟩ := h.rc.slice
  obtain ⟨c0, c1, c2, c3, c4, cf, cl⟩ := h.cells
  obtain ⟨i0, hi0, hz0, hz1, hz2⟩ := info_parts infoInt
  have hown := h.rc.owns K (by simp) h.j
  have hown5 : ∀ ob, (u.alloc ob).ownsRow w.heap.size 3 1 (.slice ad m.calls.length cap) m.calls.length (m.calls.reverse.map intCV) := fun ob => owns_keeps hown ((Keeps.refl [] u).alloc ob) (by simp)
  have hwl : w.heap.size ≤ u.heap.size := (K.kp h.j).size
  have hl1 : m.calls.length + 1 ≤ maxLen := by unfold maxLen; omega
  have hl2 : (m.calls.length + 1) * 8 ≤ 140737488355328 := by omega
  have hz3 : (Value.int .i64 0).cells.size = 1 := rfl
  have H := Hid.mk h
  clear h hown
  go_enter Tryz.func276, Tryz.ntmps276
  go_wp2_with (first
    | (at_builtin; refine wpList_append_lies _ (by rfl) _ _ _ (by rfl) w.heap.size 3 i0 _ 1 8 Tryz.underlying230 hi0 hz0 hz1 hz2 hz3 (by omega) (.slice ad m.calls.length cap) m.calls.length (m.calls.reverse.map intCV) (by rfl) (hown5 _) ⟨u.heap.size, 0, none⟩ 1 1 [.int .i64 p] (by rfl) (by rfl) (World.news_of_block (cs := #[.int .i64 p]) (t := 3) (fr := (0, 0)) (heap_alloc_new u _)) (by simp [Value.oneCell']) (by omega) hl1 hl2 (by simp; omega) (u.heap.size + 1) (by simp) ?_; intro g cap' w8 hown8 hgrow hat hlt8; obtain ⟨E8, r8, j8⟩ := H.out.rc.grow K H.out.j ((Below.refl u.heap.size u).alloc (Nat.le_refl _) _) hown8 hgrow (by simpa using hat); have b8 := (K.at j8 (p := (M, mObj K m.next (.slice ad m.calls.length cap) rsl en)) (by simp)).1; obtain ⟨y0, y1, y2, y3, y4, yf, yl⟩ := cbound5 b8; have j9 := Hid.mk (Wkr.turn2 j8 ((Keeps.refl [M] w8).setIn (p := ⟨M, 2, none⟩) (by simp) (.slice (some ⟨g, 0, none⟩) (m.calls.length + 1) cap')) (setBlock (i := 2) b8 _)); have R8 := Hid.mk r8; clear j8 r8 hown8 hgrow hat hown5 b8))
  go_end0
  refine ⟨rfl, E8, Er, _, rsl, ?_, H.out.rr, j9.out⟩
  have := R8.out
  simpa using this
theorem Pop_any {τ : Type} {w u : World} {bs : List (Nat × Obj)} {K : Wkr τ w bs} {Fr : List (Nat × Obj)} {M : Nat} {m : MSt} {en : Bool} {d : τ} {p : Nat} {ks : List Nat} (hm : m.calls = p :: ks) (hc : m.calls.length ≤ 1000) (h : Mc K Fr M m en d u) :
    Calls Tryz.prog 271 #[.pointer (some ⟨M, 2, none⟩)] u fun e u' => e = .returned (.int .i64 p) ∧ Mc K Fr M { m with calls := ks } en d u' := by
  obtain ⟨Ec, Er, csl, rsl, h⟩ := h
  have hr := h.rc
  rw [hm] at hr
  simp only [List.length_cons, List.reverse_cons, List.map_append, List.map_cons, List.map_nil] at hr
  obtain ⟨g, cap, cur, rfl, hcap, rfl, htk, hr2⟩ := hr.pop (by simp)
  obtain ⟨c0, c1, c2, c3, c4, cf, cl⟩ := h.cells
  have hg := (K.at h.j (p := (g, .cells cur 3)) (by simp)).1
  have hlast : u.cell? ⟨g, ks.length, none⟩ = some (.int .i64 p) := row_cell' (xs := ks.reverse.map intCV ++ [intCV p]) hg (by simpa using htk) (by rw [List.getElem?_append_right (by simp)]; simp)
  have hks : ks.length < 1000 := by rw [hm] at hc; simp at hc; omega
  have j9 := Hid.mk (Wkr.turn2 h.j ((Keeps.refl [M] u).setIn (p := ⟨M, 2, none⟩) (by simp) (.slice (some ⟨g, 0, none⟩) ks.length cap)) (setBlock (i := 2) h.box _))
  have R8 := Hid.mk hr2
  have RR := Hid.mk h.rr
  clear h hr hr2 hg htk hm hc
  go_enter Tryz.func271, Tryz.ntmps271
  go_wp2
  go_ret
  exact ⟨rfl, [(g, .cells cur 3)], Er, .slice (some ⟨g, 0, none⟩) ks.length cap, rsl, R8.out, RR.out, j9.out⟩
end Go.Proofs.YtmbcibgknckenaaGreatDoor
set_option linter.all false
set_option maxRecDepth 100000
set_option maxHeartbeats 4000000
namespace Go.Proofs.YtmbcibgknckenaaGreatDoor
open Go.RowKit
open Go.MapKept
theorem infoRound : (Tryz.prog.info? 413).map (fun i => (i.zero, i.size, i.bytes)) = some (some (.agg #[.int .i64 0, .int .i64 0]), 2, 16) := by kernel_rfl
theorem one_round (k : Nat × Nat) : ∀ u ∈ roundC k, u.oneCell' = true := by
  intro u hu
  simp at hu
  rcases hu with rfl | rfl <;> rfl
theorem rounds_len (l : List (Nat × Nat)) : (l.flatMap roundC).length = l.length * 2 := by
  induction l with
  | nil => rfl
  | cons a l ih => simp only [List.flatMap_cons, List.length_append, ih, List.length_cons]; simp; omega
theorem RPush_any {τ : Type} {w u : World} {bs : List (Nat × Obj)} {Z : Wkr τ w bs} {Fr : List (Nat × Obj)} {M : Nat} {m : MSt} {en : Bool} {d : τ} (p : Nat × Nat) (hc : m.rounds.length < 1000) (h : Mc Z Fr M m en d u) :
    Calls Tryz.prog 299 #[.pointer (some ⟨M, 3, none⟩), .agg #[.int .i64 p.1, .int .i64 p.2]] u fun e u' => e = .returned (.tuple #[]) ∧ Mc Z Fr M { m with rounds := p :: m.rounds } en d u' := by
  obtain ⟨Ec, Er, csl, rsl, h⟩ := h
  obtain ⟨ad, cap, rfl⟩ := h.rr.slice
  obtain ⟨c0, c1, c2, c3, c4, cf, cl⟩ := h.cells
  obtain ⟨i0, hi0, hz0, hz1, hz2⟩ := info_parts infoRound
  have j1 : Z.J (Er ++ (Ec ++ (M, mObj Z m.next csl (.slice ad m.rounds.length cap) en) :: Fr)) d u := Z.perm h.j (List.perm_append_comm_assoc _ _ _)
  have hown := h.rr.owns Z (by rw [rounds_len]; simp) j1
  have hwl : w.heap.size ≤ u.heap.size := (Z.kp h.j).size
  have hl1 : m.rounds.length + 1 ≤ maxLen := by unfold maxLen; omega
  have hl2 : (m.rounds.length + 1) * 16 ≤ 140737488355328 := by omega
  have hz3 : (Value.agg #[.int .i64 0, .int .i64 0]).cells.size = 2 := by decide
  have H := Hid.mk h
  have J1 := Hid.mk j1
  have HOW := Hid.mk hown
  clear h hown j1
  go_enter Tryz.func299, Tryz.ntmps299
  go_wp2_with fail
  refine region_last (fun w' => w'.cell? ⟨M, 3, none⟩ = some (.slice ad m.rounds.length cap) ∧ w'.cell? ⟨u.heap.size, 0, none⟩ = some (.int .i64 p.1) ∧ w'.cell? ⟨u.heap.size, 1, none⟩ = some (.int .i64 p.2)) (L := 10) (by kernel_rfl) rfl (by kernel_rfl) (by kernel_rfl) ?_ (fun hHeld => ?_)
  · go_keep
  refine tk (i := 0) (v := ?_) rfl (by kernel_rfl) (fun _ _ _ h => h) (by rfl) (by assumption) ?_ ?_
  rotate_left
  · intro w hSw; (try dsimp only at hSw); go_simp; (try with_reducible rfl)
  (try simp only [put_l, put_z, List.set])
  refine tk (i := 1) (v := ?_) rfl (by kernel_rfl) (fun _ _ _ h => h) (by rfl) (by assumption) ?_ ?_
  rotate_left
  · intro w hSw; (try dsimp only at hSw); go_simp; (try with_reducible rfl)
  (try simp only [put_l, put_z, List.set])
  refine tk (i := 2) (v := ?_) rfl (by kernel_rfl) (fun _ _ _ h => h) (by rfl) (by assumption) ?_ ?_
  rotate_left
  · intro w hSw; (try dsimp only at hSw); go_simp; (try with_reducible rfl)
  (try simp only [put_l, put_z, List.set])
  refine tk (i := 3) (v := ?_) rfl (by kernel_rfl) (fun _ _ _ h => h) (by rfl) (by assumption) ?_ ?_
  rotate_left
  · intro w hSw; (try dsimp only at hSw); go_simp; (try with_reducible rfl)
  (try simp only [put_l, put_z, List.set])
  refine tk (i := 4) (v := ?_) rfl (by kernel_rfl) (fun _ _ _ h => h) (by rfl) (by assumption) ?_ ?_
  rotate_left
  · intro w hSw; (try dsimp only at hSw); go_simp; (try with_reducible rfl)
  (try simp only [put_l, put_z, List.set])
  refine tk (i := 5) (v := ?_) rfl (by kernel_rfl) (fun _ _ _ h => h) (by rfl) (by assumption) ?_ ?_
  rotate_left
  · intro w hSw; (try dsimp only at hSw); go_simp; (try with_reducible rfl)
  (try simp only [put_l, put_z, List.set])
  refine wpAnyH_ready (rs := [6]) (by kernel_rfl) (by simp) ?_
  refine AllReadyH.cons rfl (fun K hK => ?_) AllReadyH.nil
  go_simp
  refine hK.out _ _ ?_ (fun hHeld => ?_)
  · go_keep
  clear hK K
  (try simp only [put_l, put_z, List.set])
  refine wpAnyH_ready (rs := [7]) (by kernel_rfl) (by simp) ?_
  refine AllReadyH.cons rfl (fun K hK => ?_) AllReadyH.nil
  (refine step_append_lies _ (by rfl) _ _ _ (by rfl) w.heap.size 413 i0 _ 2 16 Tryz.underlying233 hi0 hz0 hz1 hz2 hz3 (by omega) (.slice ad m.rounds.length cap) m.rounds.length (m.rounds.reverse.flatMap roundC) (by rfl) (owns_keeps HOW.out ((((Keeps.refl [] u).alloc _).alloc _).drew) (by simp)) ⟨u.heap.size + 1, 0, none⟩ 1 1 (roundC p) (by rfl) (by rfl) (World.news_of_block (cs := (roundC p).toArray) (t := 413) (fr := (0, 0)) (heap_alloc_at (w := u.alloc _) (by simp))) (one_round p) (by omega) hl1 hl2 (by simp; omega) (u.heap.size + 2) (by simp) ?_; intro g cap' w6 hown6 hgrow hat hlt6; have hbb : Below u.heap.size u ((u.alloc (.cells (roundC p).toArray 413)).alloc (.cells (roundC p).toArray 413)).drew := (((Below.refl _ _).alloc (Nat.le_refl _) _).alloc (by simp) _).drew; obtain ⟨E8, r8, j8⟩ := H.out.rr.grow Z J1.out hbb hown6 hgrow (by simpa using hat); have b8 := (Z.at j8 (p := (M, mObj Z m.next csl (.slice ad m.rounds.length cap) en)) (by simp)).1; obtain ⟨y0, y1, y2, y3, y4, yf, yl⟩ := cbound5 b8; have hx9 : w6.heap[u.heap.size]? = some (.cells (roundC p).toArray 413) := (hgrow.block _ (by simp; omega) (fun e => by have h1 := HOW.out; have := owns_lt h1 (g := u.heap.size) e.symm; omega)).trans ((Below.heap_alloc _ _ _ (by simp)).trans (heap_alloc_at rfl)); obtain ⟨x0, x1, xf, xl⟩ := cbound2 hx9)
  refine hK.out _ _ ?_ (fun hHeld => ?_)
  · go_keep
  clear hK K
  (try simp only [put_l, put_z, List.set])
  refine tk (i := 8) (v := ?_) rfl (by kernel_rfl) (fun _ _ _ h => h) (by rfl) (by assumption) ?_ ?_
  rotate_left
  · intro w hSw; (try dsimp only at hSw); go_simp; (try with_reducible rfl)
  (try simp only [put_l, put_z, List.set])
  refine tk (i := 9) (v := ?_) rfl (by kernel_rfl) (fun _ _ _ h => h) (by rfl) (by assumption) ?_ ?_
  rotate_left
  · intro w hSw; (try dsimp only at hSw); go_simp; (try with_reducible rfl)
  (try simp only [put_l, put_z, List.set])
  refine wpAnyH_done (by kernel_rfl) ?_ _
  refine last_step rfl (fun K hK => ?_)
  go_simp
  refine hK.out _ _ ?_
  clear hK K
  (try simp only [put_l, put_z, List.set])
  have j9 := Wkr.turn2 j8 ((Keeps.refl [M] w6).setIn (p := ⟨M, 3, none⟩) (by simp) (.slice (some ⟨g, 0, none⟩) (m.rounds.length + 1) cap')) (setBlock (i := 3) b8 _)
  have j10 := Hid.mk (Z.perm j9 (List.perm_append_comm_assoc _ _ _))
  have R8 := Hid.mk r8
  clear j9 j8 r8
  go_wp2
  go_end0
  refine ⟨rfl, Ec, E8, csl, _, H.out.rc, ?_, j10.out⟩
  have := R8.out
  simpa using this
theorem RPop_any {τ : Type} {w u : World} {bs : List (Nat × Obj)} {Z : Wkr τ w bs} {Fr : List (Nat × Obj)} {M : Nat} {m : MSt} {en : Bool} {d : τ} {p : Nat × Nat} {ks : List (Nat × Nat)} (hm : m.rounds = p :: ks) (hc : m.rounds.length ≤ 1000) (h : Mc Z Fr M m en d u) :
    Calls Tryz.prog 301 #[.pointer (some ⟨M, 3, none⟩)] u fun e u' => e = .returned (.agg #[.int .i64 p.1, .int .i64 p.2]) ∧ Mc Z Fr M { m with rounds := ks } en d u' := by
  obtain ⟨Ec, Er, csl, rsl, h⟩ := h
  have hr := h.rr
  rw [hm] at hr
  simp only [List.length_cons, List.reverse_cons, List.flatMap_append, List.flatMap_cons, List.flatMap_nil, List.append_nil] at hr
  obtain ⟨g, cap, cur, rfl, hcap, rfl, htk, hr2⟩ := hr.pop (by rw [rounds_len]; simp)
  obtain ⟨c0, c1, c2, c3, c4, cf, cl⟩ := h.cells
  have hg := (Z.at h.j (p := (g, .cells cur 413)) (by simp)).1
  have hlen : (ks.reverse.flatMap roundC).length = ks.length * 2 := by rw [rounds_len]; simp
  have hl0 : u.cell? ⟨g, ks.length * 2, none⟩ = some (.int .i64 p.1) := row_cell' (xs := ks.reverse.flatMap roundC ++ roundC p) hg (by rw [List.length_append, hlen]; simpa [Nat.add_mul] using htk) (by rw [List.getElem?_append_right (by omega), hlen]; simp)
  have hl1 : u.cell? ⟨g, ks.length * 2 + 1, none⟩ = some (.int .i64 p.2) := row_cell' (xs := ks.reverse.flatMap roundC ++ roundC p) hg (by rw [List.length_append, hlen]; simpa [Nat.add_mul] using htk) (by rw [List.getElem?_append_right (by omega), hlen]; simp)
  have hks : ks.length < 1000 := by rw [hm] at hc; simp at hc; omega
  have J9 := Wkr.turn2 (K := Z) (A := Ec) (A' := [(g, .cells cur 413)]) h.j ((Keeps.refl [M] u).setIn (p := ⟨M, 3, none⟩) (by simp) (.slice (some ⟨g, 0, none⟩) ks.length cap)) (setBlock (i := 3) h.box _)
  have j9 := Hid.mk (fun o1 o2 => Z.below (Z.below J9 ((Below.refl _ _).alloc (Nat.le_refl _) o1)) ((Below.refl _ _).alloc (Nat.le_refl _) o2))
  have R8 := Hid.mk hr2
  have RC := Hid.mk h.rc
  have hng : M ≠ u.heap.size := by omega
  have hgl := lt_of_heap hg
  have hgn : g ≠ u.heap.size := by omega
  have hgn1 : g ≠ u.heap.size + 1 := by omega
  have hng1 : M ≠ u.heap.size + 1 := by omega
  clear h hr hr2 hg htk hm hc J9
  go_enter Tryz.func301, Tryz.ntmps301
  go_wp2
  refine bodyPost_ret (v := .agg #[.int .i64 p.1, .int .i64 p.2]) (by simp [results, Tryz.results301, go_sem]) rfl ⟨rfl, ?_⟩
  exact ⟨Ec, [(g, .cells cur 413)], csl, .slice (some ⟨g, 0, none⟩) ks.length cap, RC.out, R8.out, j9.out _ _⟩
end Go.Proofs.YtmbcibgknckenaaGreatDoor
set_option linter.all false
set_option maxRecDepth 100000
set_option maxHeartbeats 4000000
namespace Go.Proofs.YtmbcibgknckenaaGreatDoor
open Go.RowKit
open Go.MapKept
def GivesSt {τ : Type} {w : World} {bs : List (Nat × Obj)} (Z : Wkr τ w bs) (Fr : List (Nat × Obj)) (M : Nat) (r : Except Mar.Fault (MSt × τ)) (e : Ending) (u' : World) : Prop :=
  (∃ m' d', r = .ok (m', d') ∧ e = .returned (.tuple #[]) ∧ Mc Z Fr M m' false d' u') ∨ (∃ f, r = .error f ∧ Keeps [] w u' ∧ Thrown w f.no f.at' e u')
theorem Mc.below {τ : Type} {w u u' : World} {bs : List (Nat × Obj)} {Z : Wkr τ w bs} {Fr : List (Nat × Obj)} {M : Nat} {m : MSt} {en : Bool} {d : τ} (h : Mc Z Fr M m en d u) (hb : Below u.heap.size u u') : Mc Z Fr M m en d u' := by
  obtain ⟨a, b, c, e, h⟩ := h
  exact ⟨a, b, c, e, h.below hb⟩
theorem Mc.goto {τ : Type} {w u : World} {bs : List (Nat × Obj)} {Z : Wkr τ w bs} {Fr : List (Nat × Obj)} {M : Nat} {m : MSt} {en : Bool} {d : τ} (h : Mc Z Fr M m en d u) (p : Nat) : Mc Z Fr M { m with next := p } en d (u.setCell ⟨M, 1, none⟩ (.int .i64 p)) := by
  obtain ⟨a, b, c, e, h⟩ := h
  exact ⟨a, b, c, e, h.goto p⟩
theorem Mc.cells {τ : Type} {w u : World} {bs : List (Nat × Obj)} {Z : Wkr τ w bs} {Fr : List (Nat × Obj)} {M : Nat} {m : MSt} {en : Bool} {d : τ} (h : Mc Z Fr M m en d u) : ∃ csl rsl, u.cell? ⟨M, 0, none⟩ = some (.iface Z.T (.pointer (some ⟨Z.D, 0, none⟩))) ∧ u.cell? ⟨M, 1, none⟩ = some (.int .i64 m.next) ∧ u.cell? ⟨M, 2, none⟩ = some csl ∧ u.cell? ⟨M, 3, none⟩ = some rsl ∧ u.cell? ⟨M, 4, none⟩ = some (.bool en) ∧ (∀ i, u.frozen? ⟨M, i, none⟩ = false) ∧ M < u.heap.size := by
  obtain ⟨a, b, c, e, h⟩ := h
  exact ⟨_, _, h.cells⟩
theorem unitW_ok {τ : Type} {r : Except Mar.Fault τ} {x : Unit} {d : τ} (h : unitW r = .ok (x, d)) : r = .ok d := by
  cases r with
  | error f => cases h
  | ok a => cases h; rfl
theorem unitW_err {τ : Type} {r : Except Mar.Fault τ} {f : Mar.Fault} (h : unitW r = .error f) : r = .error f := by
  cases r with
  | error f => cases h; rfl
  | ok a => cases h
theorem Mc.work {τ α : Type} {w u : World} {bs : List (Nat × Obj)} {Z : Wkr τ w bs} {Fr : List (Nat × Obj)} {M : Nat} {m : MSt} {en : Bool} {d : τ} {f : Nat} {args : Array Value} {r : Except Mar.Fault (α × τ)} {V : α → Value} (h : Mc Z Fr M m en d u)
    (hc : ∀ Fr', Z.J Fr' d u → Calls Tryz.prog f args u (GivesW w Z.J Fr' r V)) : Calls Tryz.prog f args u fun e u' => (∃ a d', r = .ok (a, d') ∧ e = .returned (V a) ∧ Mc Z Fr M m en d' u') ∨ (∃ f, r = .error f ∧ Keeps [] w u' ∧ Thrown w f.no f.at' e u') := by
  obtain ⟨Ec, Er, csl, rsl, h⟩ := h
  refine (hc _ h.j).mono ?_
  rintro e u' (⟨a, d', h1, h2, h3⟩ | h1)
  · exact Or.inl ⟨a, d', h1, h2, Ec, Er, csl, rsl, h.rc, h.rr, h3⟩
  · exact Or.inr h1
theorem Jump_run {τ : Type} {w u : World} {bs : List (Nat × Obj)} {Z : Wkr τ w bs} {Fr : List (Nat × Obj)} {M : Nat} {m : MSt} {d : τ} (p : Nat) (h : Mc Z Fr M m false d u) :
    Calls Tryz.prog 296 #[.agg #[.int .i64 p], .pointer (some ⟨M, 0, none⟩)] u (GivesSt Z Fr M (.ok ({ m with next := p }, d))) := by
  obtain ⟨csl, rsl, c0, c1, c2, c3, c4, cf, cl⟩ := h.cells
  have hng : M ≠ u.heap.size := by omega
  have H := Hid.mk (fun o => (h.goto p).below ((Below.refl _ _).alloc (Nat.le_refl _) o))
  clear h
  go_enter Tryz.func296, Tryz.ntmps296
  go_wp2
  go_end0
  exact Or.inl ⟨_, d, rfl, rfl, H.out _⟩
theorem Return_run {τ : Type} {w u : World} {bs : List (Nat × Obj)} {Z : Wkr τ w bs} {Fr : List (Nat × Obj)} {M : Nat} {m : MSt} {d : τ} {p : Nat} {ks : List Nat} (hm : m.calls = p :: ks) (hc : m.calls.length ≤ 1000) (h : Mc Z Fr M m false d u) :
    Calls Tryz.prog 270 #[.agg #[], .pointer (some ⟨M, 0, none⟩)] u (GivesSt Z Fr M (.ok ({ m with next := p, calls := ks }, d))) := by
  have VP := Hid.mk (fun o => Pop_any hm hc (h.below ((Below.refl _ _).alloc (Nat.le_refl _) o)))
  clear h
  go_enter Tryz.func270, Tryz.ntmps270
  go_wp2_with fail
  refine (VP.out _).mono ?_
  rintro e w2 ⟨rfl, M2⟩
  obtain ⟨csl, rsl, c0, c1, c2, c3, c4, cf, cl⟩ := M2.cells
  have H := Hid.mk (M2.goto p)
  clear M2
  go_wp2
  go_end0
  exact Or.inl ⟨_, d, rfl, rfl, H.out⟩
theorem Number_run {τ : Type} {w u : World} {bs : List (Nat × Obj)} {Z : Wkr τ w bs} {Fr : List (Nat × Obj)} {M : Nat} {m : MSt} {d : τ} {cs : List Value} {n : NumL} (hN : NumIn bs cs n) (h : Mc Z Fr M m false d u) :
    Calls Tryz.prog 269 #[.agg cs.toArray, .pointer (some ⟨M, 0, none⟩)] u (GivesSt Z Fr M (thenE (Z.W.num n d) fun d' => .ok (m, d'))) := by
  obtain ⟨mm, rfl, hmem, x, y, z, rfl⟩ := id hN
  have hmn := Z.mN
  have hen := Z.eN
  have h0 := h.below ((Below.refl _ _).alloc (Nat.le_refl _) (.cells #[.int .i64 n.low, .int .i64 n.high, .slice x y z, .bool n.wide] 200))
  obtain ⟨csl, rsl, c0, c1, c2, c3, c4, cf, cl⟩ := h0.cells
  have VN := Hid.mk ((h0.below (Below.refl _ _).drew).work fun Fr' hj => Z.cN hN hj)
  clear h h0 hmem
  go_enter Tryz.func269, Tryz.ntmps269
  go_wp2_with fail
  refine region_last (fun w' => w'.cell? ⟨M, 0, none⟩ = some (.iface Z.T (.pointer (some ⟨Z.D, 0, none⟩))) ∧ w'.cell? ⟨u.heap.size, 0, none⟩ = some (.int .i64 n.low) ∧ w'.cell? ⟨u.heap.size, 1, none⟩ = some (.int .i64 n.high) ∧ w'.cell? ⟨u.heap.size, 2, none⟩ = some (.slice x y z) ∧ w'.cell? ⟨u.heap.size, 3, none⟩ = some (.bool n.wide)) (L := 5) (by kernel_rfl) rfl (by kernel_rfl) (by kernel_rfl) ?_ (fun hHeld => ?_)
  · go_keep
  refine tk (i := 0) (v := ?_) rfl (by kernel_rfl) (fun _ _ _ h => h) (by rfl) (by assumption) ?_ ?_
  rotate_left
  · intro w hSw; (try dsimp only at hSw); go_simp; (try with_reducible rfl)
  (try simp only [put_l, put_z, List.set])
  refine tk (i := 1) (v := ?_) rfl (by kernel_rfl) (fun _ _ _ h => h) (by rfl) (by assumption) ?_ ?_
  rotate_left
  · intro w hSw; (try dsimp only at hSw); go_simp; (try with_reducible rfl)
  (try simp only [put_l, put_z, List.set])
  refine tk (i := 2) (v := ?_) rfl (by kernel_rfl) (fun _ _ _ h => h) (by rfl) (by assumption) ?_ ?_
  rotate_left
  · intro w hSw; (try dsimp only at hSw); go_simp; (try with_reducible rfl)
  (try simp only [put_l, put_z, List.set])
  refine tk (i := 3) (v := ?_) rfl (by kernel_rfl) (fun _ _ _ h => h) (by rfl) (by assumption) ?_ ?_
  rotate_left
  · intro w hSw; (try dsimp only at hSw); go_simp; (try with_reducible rfl)
  (try simp only [put_l, put_z, List.set])
  refine tk (i := 4) (v := ?_) rfl (by kernel_rfl) (fun _ _ _ h => h) (by rfl) (by assumption) ?_ ?_
  rotate_left
  · intro w hSw; (try dsimp only at hSw); go_simp; (try with_reducible rfl)
  (try simp only [put_l, put_z, List.set])
  refine wpAnyH_done (by kernel_rfl) ?_ _
  refine last_step rfl (fun K hK => ?_)
  (go_simp; refine VN.out.mono ?_; rintro e w2 (⟨_, d2, hx, rfl, M2⟩ | ⟨f, hx, hk, g, hg, rfl, hc⟩); rotate_left; exact bodyPost_panics (Or.inr ⟨f, by rw [unitW_err hx]; rfl, hk, g, hg, rfl, hc⟩))
  refine hK.out _ _ ?_
  clear hK K
  (try simp only [put_l, put_z, List.set])
  have M2 := Hid.mk M2
  go_wp2
  go_end0
  exact Or.inl ⟨m, d2, by rw [unitW_ok hx]; rfl, rfl, M2.out⟩
theorem Text_run {τ : Type} {w u : World} {bs : List (Nat × Obj)} {Z : Wkr τ w bs} {Fr : List (Nat × Obj)} {M : Nat} {m : MSt} {d : τ} (n : Int) (f : Bool) (hn : 0 ≤ n) (hn2 : n ≤ 4294967295) (h : Mc Z Fr M m false d u) :
    Calls Tryz.prog 289 #[.agg #[.int .i64 n, .bool f], .pointer (some ⟨M, 0, none⟩)] u (GivesSt Z Fr M (thenE (Z.W.text n f d) fun d' => .ok (m, d'))) := by
  have hmn := Z.mT
  have hen := Z.eT
  have h0 := h.below ((Below.refl _ _).alloc (Nat.le_refl _) (.cells #[.int .i64 n, .bool f] 308))
  obtain ⟨csl, rsl, c0, c1, c2, c3, c4, cf, cl⟩ := h0.cells
  have VN := Hid.mk ((h0.below (Below.refl _ _).drew).work fun Fr' hj => Z.cT n f hn hn2 hj)
  clear h h0
  go_enter Tryz.func289, Tryz.ntmps289
  go_wp2_with fail
  refine region_last (fun w' => w'.cell? ⟨M, 0, none⟩ = some (.iface Z.T (.pointer (some ⟨Z.D, 0, none⟩))) ∧ w'.cell? ⟨u.heap.size, 0, none⟩ = some (.int .i64 n) ∧ w'.cell? ⟨u.heap.size, 1, none⟩ = some (.bool f)) (L := 6) (by kernel_rfl) rfl (by kernel_rfl) (by kernel_rfl) ?_ (fun hHeld => ?_)
  · go_keep
  refine tk (i := 0) (v := ?_) rfl (by kernel_rfl) (fun _ _ _ h => h) (by rfl) (by assumption) ?_ ?_
  rotate_left
  · intro w hSw; (try dsimp only at hSw); go_simp; (try with_reducible rfl)
  (try simp only [put_l, put_z, List.set])
  refine tk (i := 1) (v := ?_) rfl (by kernel_rfl) (fun _ _ _ h => h) (by rfl) (by assumption) ?_ ?_
  rotate_left
  · intro w hSw; (try dsimp only at hSw); go_simp; (try with_reducible rfl)
  (try simp only [put_l, put_z, List.set])
  refine tk (i := 2) (v := ?_) rfl (by kernel_rfl) (fun _ _ _ h => h) (by rfl) (by assumption) ?_ ?_
  rotate_left
  · intro w hSw; (try dsimp only at hSw); go_simp; (try with_reducible rfl)
  (try simp only [put_l, put_z, List.set])
  refine tk (i := 3) (v := ?_) rfl (by kernel_rfl) (fun _ _ _ h => h) (by rfl) (by assumption) ?_ ?_
  rotate_left
  · intro w hSw; (try dsimp only at hSw); go_simp; (try with_reducible rfl)
  (try simp only [put_l, put_z, List.set])
  refine tk (i := 4) (v := ?_) rfl (by kernel_rfl) (fun _ _ _ h => h) (by rfl) (by assumption) ?_ ?_
  rotate_left
  · intro w hSw; (try dsimp only at hSw); go_simp; (try with_reducible rfl)
  (try simp only [put_l, put_z, List.set])
  refine tk (i := 5) (v := ?_) rfl (by kernel_rfl) (fun _ _ _ h => h) (by rfl) (by assumption) ?_ ?_
  rotate_left
  · intro w hSw; (try dsimp only at hSw); go_simp; (try with_reducible rfl)
  (try simp only [put_l, put_z, List.set])
  refine wpAnyH_done (by kernel_rfl) ?_ _
  refine last_step rfl (fun K hK => ?_)
  (go_simp; refine VN.out.mono ?_; rintro e w2 (⟨v2, d2, hx, rfl, M2⟩ | ⟨f', hx, hk, g, hg, rfl, hc⟩); rotate_left; exact bodyPost_panics (Or.inr ⟨f', by rw [unitW_err hx]; rfl, hk, g, hg, rfl, hc⟩))
  refine hK.out _ _ ?_
  clear hK K
  (try simp only [put_l, put_z, List.set])
  have M2 := Hid.mk M2
  go_wp2
  go_end0
  exact Or.inl ⟨m, d2, by rw [unitW_ok hx]; rfl, rfl, M2.out⟩
theorem Struct_run {τ : Type} {w u : World} {bs : List (Nat × Obj)} {Z : Wkr τ w bs} {Fr : List (Nat × Obj)} {M : Nat} {m : MSt} {d : τ} (n : Int) (f : Bool) (hn : 0 ≤ n) (hn2 : n ≤ 4294967295) (h : Mc Z Fr M m false d u) :
    Calls Tryz.prog 294 #[.agg #[.int .i64 n, .bool f], .pointer (some ⟨M, 0, none⟩)] u (GivesSt Z Fr M (thenE (Z.W.list n f d) fun p => .ok (m, p.2))) := by
  have hmn := Z.mL
  have hen := Z.eL
  have h0 := h.below ((Below.refl _ _).alloc (Nat.le_refl _) (.cells #[.int .i64 n, .bool f] 316))
  obtain ⟨csl, rsl, c0, c1, c2, c3, c4, cf, cl⟩ := h0.cells
  have VN := Hid.mk ((h0.below (Below.refl _ _).drew).work fun Fr' hj => Z.cL n f hn hn2 hj)
  clear h h0
  go_enter Tryz.func294, Tryz.ntmps294
  go_wp2_with fail
  refine region_last (fun w' => w'.cell? ⟨M, 0, none⟩ = some (.iface Z.T (.pointer (some ⟨Z.D, 0, none⟩))) ∧ w'.cell? ⟨u.heap.size, 0, none⟩ = some (.int .i64 n) ∧ w'.cell? ⟨u.heap.size, 1, none⟩ = some (.bool f)) (L := 6) (by kernel_rfl) rfl (by kernel_rfl) (by kernel_rfl) ?_ (fun hHeld => ?_)
  · go_keep
  refine tk (i := 0) (v := ?_) rfl (by kernel_rfl) (fun _ _ _ h => h) (by rfl) (by assumption) ?_ ?_
  rotate_left
  · intro w hSw; (try dsimp only at hSw); go_simp; (try with_reducible rfl)
  (try simp only [put_l, put_z, List.set])
  refine tk (i := 1) (v := ?_) rfl (by kernel_rfl) (fun _ _ _ h => h) (by rfl) (by assumption) ?_ ?_
  rotate_left
  · intro w hSw; (try dsimp only at hSw); go_simp; (try with_reducible rfl)
  (try simp only [put_l, put_z, List.set])
  refine tk (i := 2) (v := ?_) rfl (by kernel_rfl) (fun _ _ _ h => h) (by rfl) (by assumption) ?_ ?_
  rotate_left
  · intro w hSw; (try dsimp only at hSw); go_simp; (try with_reducible rfl)
  (try simp only [put_l, put_z, List.set])
  refine tk (i := 3) (v := ?_) rfl (by kernel_rfl) (fun _ _ _ h => h) (by rfl) (by assumption) ?_ ?_
  rotate_left
  · intro w hSw; (try dsimp only at hSw); go_simp; (try with_reducible rfl)
  (try simp only [put_l, put_z, List.set])
  refine tk (i := 4) (v := ?_) rfl (by kernel_rfl) (fun _ _ _ h => h) (by rfl) (by assumption) ?_ ?_
  rotate_left
  · intro w hSw; (try dsimp only at hSw); go_simp; (try with_reducible rfl)
  (try simp only [put_l, put_z, List.set])
  refine tk (i := 5) (v := ?_) rfl (by kernel_rfl) (fun _ _ _ h => h) (by rfl) (by assumption) ?_ ?_
  rotate_left
  · intro w hSw; (try dsimp only at hSw); go_simp; (try with_reducible rfl)
  (try simp only [put_l, put_z, List.set])
  refine wpAnyH_done (by kernel_rfl) ?_ _
  refine last_step rfl (fun K hK => ?_)
  (go_simp; refine VN.out.mono ?_; rintro e w2 (⟨v2, d2, hx, rfl, M2⟩ | ⟨f', hx, hk, g, hg, rfl, hc⟩); rotate_left; exact bodyPost_panics (Or.inr ⟨f', by rw [hx]; rfl, hk, g, hg, rfl, hc⟩))
  refine hK.out _ _ ?_
  clear hK K
  (try simp only [put_l, put_z, List.set])
  have M2 := Hid.mk M2
  go_wp2
  go_end0
  exact Or.inl ⟨m, d2, by rw [hx]; rfl, rfl, M2.out⟩
end Go.Proofs.YtmbcibgknckenaaGreatDoor
set_option linter.all false
set_option maxRecDepth 100000
set_option maxHeartbeats 4000000
namespace Go.Proofs.YtmbcibgknckenaaGreatDoor
open Go.RowKit
open Go.MapKept
theorem Mc.ended {τ : Type} {w u : World} {bs : List (Nat × Obj)} {Z : Wkr τ w bs} {Fr : List (Nat × Obj)} {M : Nat} {m : MSt} {en : Bool} {d : τ} (h : Mc Z Fr M m en d u) (b : Bool) : Mc Z Fr M m b d (u.setCell ⟨M, 4, none⟩ (.bool b)) := by
  obtain ⟨a, b, c, e, h⟩ := h
  exact ⟨a, b, c, e, h.ended _⟩
theorem End_run {τ : Type} {w u : World} {bs : List (Nat × Obj)} {Z : Wkr τ w bs} {Fr : List (Nat × Obj)} {M : Nat} {m : MSt} {d : τ} (h : Mc Z Fr M m false d u) :
    Calls Tryz.prog 297 #[.agg #[], .pointer (some ⟨M, 0, none⟩)] u fun e u' => e = .returned (.tuple #[]) ∧ Mc Z Fr M m true d u' := by
  have h1 := fun o => h.below (u' := u.alloc o) ((Below.refl _ _).alloc (Nat.le_refl _) o)
  obtain ⟨csl, rsl, c0, c1, c2, c3, c4, cf, cl⟩ := h.cells
  have hng : M ≠ u.heap.size := by omega
  have H := Hid.mk (fun o => (h.ended true).below ((Below.refl _ _).alloc (Nat.le_refl _) o))
  clear h h1
  go_enter Tryz.func297, Tryz.ntmps297
  go_wp2
  go_end0
  exact ⟨rfl, H.out _⟩
theorem Again_more {τ : Type} {w u : World} {bs : List (Nat × Obj)} {Z : Wkr τ w bs} {Fr : List (Nat × Obj)} {M : Nat} {m : MSt} {d : τ} {p1 p2 : Nat} {ks : List (Nat × Nat)} (hm : m.rounds = (p1, p2 + 2) :: ks) (hc : m.rounds.length ≤ 1000) (hp : p2 + 2 ≤ 4294967295) (h : Mc Z Fr M m false d u) :
    Calls Tryz.prog 300 #[.agg #[], .pointer (some ⟨M, 0, none⟩)] u (GivesSt Z Fr M (.ok ({ m with next := p1, rounds := (p1, p2 + 1) :: ks }, d))) := by
  have VP := Hid.mk (fun o => RPop_any hm hc (h.below ((Below.refl _ _).alloc (Nat.le_refl _) o)))
  have hks : ks.length < 1000 := by rw [hm] at hc; simp at hc; omega
  clear h hm hc
  go_enter Tryz.func300, Tryz.ntmps300
  go_wp2_with fail
  refine (VP.out _).mono ?_
  rintro e w2 ⟨rfl, M2⟩
  obtain ⟨csl, rsl, c0, c1, c2, c3, c4, cf, cl⟩ := M2.cells
  have hng : M ≠ w2.heap.size := by omega
  have hsub : ((p2 : Int) + 2 - 1) = (p2 : Int) + 1 := by omega
  have H := Hid.mk (fun o => RPush_any (p1, p2 + 1) hks ((M2.goto p1).below (((Below.refl _ _).alloc (Nat.le_refl _) o).drew)))
  clear M2
  go_wp2_with fail
  refine region_last (fun w' => w'.cell? ⟨w2.heap.size, 0, none⟩ = some (.int .i64 p1) ∧ w'.cell? ⟨w2.heap.size, 1, none⟩ = some (.int .i64 ((p2 : Int) + 1))) (L := 4) (by kernel_rfl) rfl (by kernel_rfl) (by kernel_rfl) ?_ (fun hHeld => ?_)
  · exact ⟨(cbound2 (heap_alloc_at (by simp))).1, (cbound2 (heap_alloc_at (by simp))).2.1⟩
  refine tk (i := 0) (v := ?_) rfl (by kernel_rfl) (fun _ _ _ h => h) (by rfl) (by assumption) ?_ ?_
  rotate_left
  · intro w hSw; (try dsimp only at hSw); go_simp; (try with_reducible rfl)
  (try simp only [put_l, put_z, List.set])
  refine tk (i := 1) (v := ?_) rfl (by kernel_rfl) (fun _ _ _ h => h) (by rfl) (by assumption) ?_ ?_
  rotate_left
  · intro w hSw; (try dsimp only at hSw); go_simp; (try with_reducible rfl)
  (try simp only [put_l, put_z, List.set])
  refine tk (i := 2) (v := ?_) rfl (by kernel_rfl) (fun _ _ _ h => h) (by rfl) (by assumption) ?_ ?_
  rotate_left
  · intro w hSw; (try dsimp only at hSw); go_simp; (try with_reducible rfl)
  (try simp only [put_l, put_z, List.set])
  refine tk (i := 3) (v := ?_) rfl (by kernel_rfl) (fun _ _ _ h => h) (by rfl) (by assumption) ?_ ?_
  rotate_left
  · intro w hSw; (try dsimp only at hSw); go_simp; (try with_reducible rfl)
  (try simp only [put_l, put_z, List.set])
  refine wpAnyH_done (by kernel_rfl) ?_ _
  refine last_step rfl (fun K hK => ?_)
  (go_simp; refine (H.out _).mono ?_; rintro e w3 ⟨rfl, M3⟩)
  refine hK.out _ _ ?_
  clear hK K
  (try simp only [put_l, put_z, List.set])
  have M3 := Hid.mk M3
  go_wp2
  go_end0
  exact Or.inl ⟨_, d, rfl, rfl, M3.out⟩
theorem Again_last {τ : Type} {w u : World} {bs : List (Nat × Obj)} {Z : Wkr τ w bs} {Fr : List (Nat × Obj)} {M : Nat} {m : MSt} {d : τ} {p1 p2 : Nat} {ks : List (Nat × Nat)} (hm : m.rounds = (p1, p2) :: ks) (hc : m.rounds.length ≤ 1000) (hp : p2 ≤ 1) (h : Mc Z Fr M m false d u) :
    Calls Tryz.prog 300 #[.agg #[], .pointer (some ⟨M, 0, none⟩)] u (GivesSt Z Fr M (.ok ({ m with rounds := ks }, d))) := by
  have VP := Hid.mk (fun o => RPop_any hm hc (h.below ((Below.refl _ _).alloc (Nat.le_refl _) o)))
  clear h hm hc
  go_enter Tryz.func300, Tryz.ntmps300
  go_wp2_with fail
  refine (VP.out _).mono ?_
  rintro e w2 ⟨rfl, M2⟩
  obtain ⟨csl, rsl, c0, c1, c2, c3, c4, cf, cl⟩ := M2.cells
  have hng : M ≠ w2.heap.size := by omega
  have H := Hid.mk (fun o => M2.below (u' := w2.alloc o) ((Below.refl _ _).alloc (Nat.le_refl _) o))
  clear M2
  go_wp2
  go_end0
  exact Or.inl ⟨_, d, rfl, rfl, H.out _⟩
theorem Again_run {τ : Type} {w u : World} {bs : List (Nat × Obj)} {Z : Wkr τ w bs} {Fr : List (Nat × Obj)} {M : Nat} {m : MSt} {d : τ} {p : Nat × Nat} {ks : List (Nat × Nat)} (hm : m.rounds = p :: ks) (hc : m.rounds.length ≤ 1000) (hp : p.2 ≤ 4294967295) (h : Mc Z Fr M m false d u) :
    Calls Tryz.prog 300 #[.agg #[], .pointer (some ⟨M, 0, none⟩)] u (GivesSt Z Fr M (.ok (if 1 < p.2 then { m with next := p.1, rounds := (p.1, p.2 - 1) :: ks } else { m with rounds := ks }, d))) := by
  obtain ⟨p1, p2⟩ := p
  by_cases h1 : 1 < p2
  · obtain ⟨k, rfl⟩ : ∃ k, p2 = k + 2 := ⟨p2 - 2, by omega⟩
    rw [if_pos h1]
    exact Again_more hm hc hp h
  · rw [if_neg h1]
    exact Again_last hm hc (by omega) h
end Go.Proofs.YtmbcibgknckenaaGreatDoor
set_option linter.all false
set_option maxRecDepth 100000
set_option maxHeartbeats 4000000
namespace Go.Proofs.YtmbcibgknckenaaGreatDoor
open Go.RowKit
open Go.MapKept
section
variable {τ : Type} {w u u' : World} {bs : List (Nat × Obj)} {Z : Wkr τ w bs} {Fr : List (Nat × Obj)} {M : Nat} {m : MSt} {en : Bool} {d : τ}
theorem Mc.alloc (h : Mc Z Fr M m en d u) (o : Obj) : Mc Z ((u.heap.size, o) :: Fr) M m en d (u.alloc o) := by
  obtain ⟨Ec, Er, csl, rsl, h⟩ := h
  refine ⟨Ec, Er, csl, rsl, h.rc, h.rr, Z.perm (Z.alloc h.j o) ?_⟩
  have h1 : ∀ (a b : Nat × Obj) (A B C : List (Nat × Obj)), (a :: (A ++ (B ++ b :: C))).Perm (A ++ (B ++ b :: a :: C)) := by
    intro a b A B C
    rw [← List.append_assoc, ← List.append_assoc]
    refine (List.perm_middle (a := a) (l₁ := A ++ B) (l₂ := b :: C)).symm.trans ?_
    exact List.Perm.append_left _ (List.Perm.swap _ _ _)
  exact h1 _ _ _ _ _
theorem Mc.tail {p : Nat × Obj} (h : Mc Z (p :: Fr) M m en d u) : Mc Z Fr M m en d u := by
  obtain ⟨Ec, Er, csl, rsl, h⟩ := h
  refine ⟨Ec, Er, csl, rsl, h.rc, h.rr, Z.sub h.j ?_ ?_⟩
  · intro q hq
    simp only [List.mem_append, List.mem_cons] at hq ⊢
    rcases hq with h | h | h | h
    · exact Or.inl h
    · exact Or.inr (Or.inl h)
    · exact Or.inr (Or.inr (Or.inl h))
    · exact Or.inr (Or.inr (Or.inr (Or.inr h)))
  · have := Z.nodup h.j
    refine this.sublist (List.Sublist.map _ ?_)
    exact List.Sublist.append_left (List.Sublist.append_left (List.Sublist.cons_cons _ (List.sublist_cons_self _ _)) _) _
theorem Mc.at {p : Nat × Obj} (h : Mc Z Fr M m en d u) (hp : p ∈ Fr) : u.heap[p.1]? = some p.2 := by
  obtain ⟨Ec, Er, csl, rsl, h⟩ := h
  exact (Z.at h.j (by simp [hp])).1
end
theorem cbound3 {b : Nat} {c0 c1 c2 : Value} {T : TypeId} {w : World} (h : w.heap[b]? = some (.cells #[c0, c1, c2] T)) :
    w.cell? ⟨b, 0, none⟩ = some c0 ∧ w.cell? ⟨b, 1, none⟩ = some c1 ∧ w.cell? ⟨b, 2, none⟩ = some c2 ∧ b < w.heap.size := by
  refine ⟨?_, ?_, ?_, lt_of_heap h⟩ <;> simp [World.cell?, h]
theorem cbound1' {b : Nat} {c0 : Value} {T : TypeId} {w : World} (h : w.heap[b]? = some (.cells #[c0] T)) : w.cell? ⟨b, 0, none⟩ = some c0 ∧ b < w.heap.size := by
  refine ⟨?_, lt_of_heap h⟩; simp [World.cell?, h]
theorem Call_run {τ : Type} {w u : World} {bs : List (Nat × Obj)} {Z : Wkr τ w bs} {Fr : List (Nat × Obj)} {M : Nat} {m : MSt} {d : τ} (p : Nat) (hc : m.calls.length < 1000) (h : Mc Z Fr M m false d u) :
    Calls Tryz.prog 274 #[.agg #[.int .i64 p], .pointer (some ⟨M, 0, none⟩)] u (GivesSt Z Fr M (thenE (Z.W.enter m.calls.length d) fun d' => .ok ({ m with next := p, calls := m.next :: m.calls }, d'))) := by
  have hmn := Z.mE
  have hen := Z.eE
  have h0 := h.alloc (.cells #[.int .i64 p] 224)
  have h1 := h0.below (Below.refl _ _).drew
  obtain ⟨csl, rsl, c0, c1, c2, c3, c4, cf, cl⟩ := h0.cells
  have VL := Hid.mk (Len_any h1)
  have VN := Hid.mk (h1.work fun Fr' hj => Z.cE m.calls.length hc hj)
  clear h h0 h1
  go_enter Tryz.func274, Tryz.ntmps274
  go_wp2_with fail
  refine region_last (fun w' => w'.cell? ⟨M, 0, none⟩ = some (.iface Z.T (.pointer (some ⟨Z.D, 0, none⟩)))) (L := 10) (by kernel_rfl) rfl (by kernel_rfl) (by kernel_rfl) ?_ (fun hHeld => ?_)
  · go_keep
  refine tk (i := 0) (v := ?_) rfl (by kernel_rfl) (fun _ _ _ h => h) (by rfl) (by assumption) ?_ ?_
  rotate_left
  · intro w hSw; (try dsimp only at hSw); go_simp; (try with_reducible rfl)
  (try simp only [put_l, put_z, List.set])
  refine tk (i := 1) (v := ?_) rfl (by kernel_rfl) (fun _ _ _ h => h) (by rfl) (by assumption) ?_ ?_
  rotate_left
  · intro w hSw; (try dsimp only at hSw); go_simp; (try with_reducible rfl)
  (try simp only [put_l, put_z, List.set])
  refine tk (i := 2) (v := ?_) rfl (by kernel_rfl) (fun _ _ _ h => h) (by rfl) (by assumption) ?_ ?_
  rotate_left
  · intro w hSw; (try dsimp only at hSw); go_simp; (try with_reducible rfl)
  (try simp only [put_l, put_z, List.set])
  refine tk (i := 3) (v := ?_) rfl (by kernel_rfl) (fun _ _ _ h => h) (by rfl) (by assumption) ?_ ?_
  rotate_left
  · intro w hSw; (try dsimp only at hSw); go_simp; (try with_reducible rfl)
  (try simp only [put_l, put_z, List.set])
  refine tk (i := 4) (v := ?_) rfl (by kernel_rfl) (fun _ _ _ h => h) (by rfl) (by assumption) ?_ ?_
  rotate_left
  · intro w hSw; (try dsimp only at hSw); go_simp; (try with_reducible rfl)
  (try simp only [put_l, put_z, List.set])
  refine tk (i := 5) (v := ?_) rfl (by kernel_rfl) (fun _ _ _ h => h) (by rfl) (by assumption) ?_ ?_
  rotate_left
  · intro w hSw; (try dsimp only at hSw); go_simp; (try with_reducible rfl)
  (try simp only [put_l, put_z, List.set])
  refine tk (i := 6) (v := ?_) rfl (by kernel_rfl) (fun _ _ _ h => h) (by rfl) (by assumption) ?_ ?_
  rotate_left
  · intro w hSw; (try dsimp only at hSw); go_simp; (try with_reducible rfl)
  (try simp only [put_l, put_z, List.set])
  refine tk (i := 8) (v := ?_) rfl (by kernel_rfl) (fun _ _ _ h => h) (by rfl) (by assumption) ?_ ?_
  rotate_left
  · intro w hSw; (try dsimp only at hSw); go_simp; (try with_reducible rfl)
  (try simp only [put_l, put_z, List.set])
  refine tk (i := 9) (v := ?_) rfl (by kernel_rfl) (fun _ _ _ h => h) (by rfl) (by assumption) ?_ ?_
  rotate_left
  · intro w hSw; (try dsimp only at hSw); go_simp; (try with_reducible rfl)
  (try simp only [put_l, put_z, List.set])
  refine wpAnyH_ready (rs := [7]) (by kernel_rfl) (by simp) ?_
  refine AllReadyH.cons rfl (fun K hK => ?_) AllReadyH.nil
  (go_simp; go_at_call 275; refine VL.out.mono ?_; rintro e w2 ⟨rfl, rfl⟩)
  refine hK.out _ _ ?_ (fun hHeld => ?_)
  · go_keep
  clear hK K
  (try simp only [put_l, put_z, List.set])
  refine wpAnyH_done (by kernel_rfl) ?_ _
  refine last_step rfl (fun K hK => ?_)
  (go_simp; refine VN.out.mono ?_; rintro e w2 (⟨v2, d2, hx, rfl, M2⟩ | ⟨f', hx, hk, g, hg, rfl, hc⟩); rotate_left; exact bodyPost_panics (Or.inr ⟨f', by rw [unitW_err hx]; rfl, hk, g, hg, rfl, hc⟩))
  refine hK.out _ _ ?_
  clear hK K
  (try simp only [put_l, put_z, List.set])
  obtain ⟨csl, rsl, c0, c1, c2, c3, c4, cf, cl⟩ := M2.cells
  have VP := Hid.mk (Push_any m.next hc (M2.below (Below.refl _ _).drew))
  clear M2 VL VN
  go_wp2_with fail
  refine region_last (fun w' => w'.cell? ⟨M, 1, none⟩ = some (.int .i64 m.next)) (L := 7) (by kernel_rfl) rfl (by kernel_rfl) (by kernel_rfl) ?_ (fun hHeld => ?_)
  · go_keep
  refine tk (i := 0) (v := ?_) rfl (by kernel_rfl) (fun _ _ _ h => h) (by rfl) (by assumption) ?_ ?_
  rotate_left
  · intro w hSw; (try dsimp only at hSw); go_simp; (try with_reducible rfl)
  (try simp only [put_l, put_z, List.set])
  refine tk (i := 1) (v := ?_) rfl (by kernel_rfl) (fun _ _ _ h => h) (by rfl) (by assumption) ?_ ?_
  rotate_left
  · intro w hSw; (try dsimp only at hSw); go_simp; (try with_reducible rfl)
  (try simp only [put_l, put_z, List.set])
  refine tk (i := 2) (v := ?_) rfl (by kernel_rfl) (fun _ _ _ h => h) (by rfl) (by assumption) ?_ ?_
  rotate_left
  · intro w hSw; (try dsimp only at hSw); go_simp; (try with_reducible rfl)
  (try simp only [put_l, put_z, List.set])
  refine tk (i := 3) (v := ?_) rfl (by kernel_rfl) (fun _ _ _ h => h) (by rfl) (by assumption) ?_ ?_
  rotate_left
  · intro w hSw; (try dsimp only at hSw); go_simp; (try with_reducible rfl)
  (try simp only [put_l, put_z, List.set])
  refine tk (i := 4) (v := ?_) rfl (by kernel_rfl) (fun _ _ _ h => h) (by rfl) (by assumption) ?_ ?_
  rotate_left
  · intro w hSw; (try dsimp only at hSw); go_simp; (try with_reducible rfl)
  (try simp only [put_l, put_z, List.set])
  refine tk (i := 5) (v := ?_) rfl (by kernel_rfl) (fun _ _ _ h => h) (by rfl) (by assumption) ?_ ?_
  rotate_left
  · intro w hSw; (try dsimp only at hSw); go_simp; (try with_reducible rfl)
  (try simp only [put_l, put_z, List.set])
  refine tk (i := 6) (v := ?_) rfl (by kernel_rfl) (fun _ _ _ h => h) (by rfl) (by assumption) ?_ ?_
  rotate_left
  · intro w hSw; (try dsimp only at hSw); go_simp; (try with_reducible rfl)
  (try simp only [put_l, put_z, List.set])
  refine wpAnyH_done (by kernel_rfl) ?_ _
  refine last_step rfl (fun K hK => ?_)
  (go_simp; refine VP.out.mono ?_; rintro e w3 ⟨rfl, M3⟩)
  refine hK.out _ _ ?_
  clear hK K
  (try simp only [put_l, put_z, List.set])
  obtain ⟨csl, rsl, c0, c1, c2, c3, c4, cf, cl⟩ := M3.cells
  obtain ⟨s0, sl⟩ := cbound1' (M3.at (p := (u.heap.size, .cells #[.int .i64 p] 224)) (by simp))
  have H := Hid.mk (M3.goto p).tail
  clear M3
  go_wp2
  go_end0
  exact Or.inl ⟨_, d2, by rw [unitW_ok hx]; rfl, rfl, H.out⟩
end Go.Proofs.YtmbcibgknckenaaGreatDoor
