import Derived.Test.YtmbcibgknckenaaGreatDoorT4
set_option linter.all false
set_option maxRecDepth 100000
set_option maxHeartbeats 4000000
namespace Go.Proofs.YtmbcibgknckenaaGreatDoor
open Go.RowKit
open Go.MapKept
theorem union_any {A : Ad} {text : ByteArray} {σ : St} (at' : Nat) {w : World} (h : Rd A text σ w) :
    Calls Tryz.prog 90 #[.pointer (some ⟨A.R, 0, none⟩), .int .i64 at'] w (GivesD [A.R, A.S, A.N] A text w (unionP text at' σ)) := by
  have hmf : ∀ (fn : Fn) (first cap : Array Value) (w : World), (Instr.makeFunc fn first cap).run Tryz.prog w = .ok (.func fn first cap) w := fun _ _ _ _ => rfl
  have hmm : ∀ (t : TypeId) (w : World), (Instr.makeMap t none).run Tryz.prog w = .ok (.map (some w.heap.size)) (w.alloc (.map #[] 0)) := fun _ _ => rfl
  obtain ⟨i0, hi0, hz0, hz1, hz2⟩ := info_parts infoArm
  obtain ⟨l1, l2, l3, l4⟩ := h.lt
  go_enter Tryz.func90, Tryz.ntmps90
  go_wp2_with fail
  refine (newType_any at' h).mono ?_
  rintro e w1 ⟨hk1, ⟨u, σ1, hx1, rfl, hr1⟩ | ⟨f, hx1, b, hbb, rfl, hcell⟩⟩
  rotate_left
  · exact bodyPost_panics (GivesD.throws (hk1.mono (by simp)) (Keeps.refl [] _) (bnd_err hx1) hbb hcell)
  have hK1 := hk1.mono (M' := [A.R, A.S, A.N]) (by simp)
  clear hk1
  go_wp2_with fail
  refine (nameDef_calls hr1).mono ?_
  rintro e w2 ⟨hk2, ⟨n, σ2, hx2, rfl, hr2⟩ | ⟨f, hx2, b, hbb, rfl, hcell⟩⟩
  rotate_left
  · exact bodyPost_panics (GivesD.throws (hK1.trans (hk2.mono (by simp))) hK1 ((bnd_ok hx1).trans (bnd_err hx2)) hbb hcell)
  have hK2 := hK1.trans (hk2.mono (M' := [A.R, A.S, A.N]) (by simp))
  clear hk2 hK1
  have E2 : Hid (unionP text at' σ = unionK2 text n σ2) := (bnd_ok hx1).trans (bnd_ok hx2)
  dsimp only [nameV]
  have hs2 := hK2.size
  have hr3 := hr2.own (.cells #[.string ⟨n.1.toArray⟩, .int .i64 n.2, .string ⟨#[]⟩, .int .i64 0, .nilIface, .slice none 0 0] 287)
  have hv3 := heap_alloc_at (w := w2) (o := .cells #[.string ⟨n.1.toArray⟩, .int .i64 n.2, .string ⟨#[]⟩, .int .i64 0, .nilIface, .slice none 0 0] 287) rfl
  have hK3 := hK2.alloc (.cells #[.string ⟨n.1.toArray⟩, .int .i64 n.2, .string ⟨#[]⟩, .int .i64 0, .nilIface, .slice none 0 0] 287)
  have hne : w2.heap.size ∉ [A.S] := by simp; omega
  clear hr1 hr2 hx1 hx2
  go_wp2_with fail
  refine (expect_at (Same.add A _) _ hr3).mono ?_
  rintro e w4 ⟨hk4, ⟨x4, σ4, hx4, rfl, hr4⟩ | ⟨f, hx4, b, hbb, rfl, hcell⟩⟩
  rotate_left
  · exact bodyPost_panics (GivesD.throws (hK3.trans (hk4.mono (by simp))) hK3 (E2.out.trans (bnd_err hx4)) hbb hcell)
  have hv4 := (hk4.block _ (lt_of_heap hv3) hne).trans hv3
  have hK4 := hK3.trans (hk4.mono (M' := [A.R, A.S, A.N]) (by simp))
  clear hk4 hv3 hK3 hr3
  go_wp2_with fail
  refine (expect_at (Same.add A _) _ hr4).mono ?_
  rintro e w5 ⟨hk5, ⟨x5, σ5, hx5, rfl, hr5⟩ | ⟨f, hx5, b, hbb, rfl, hcell⟩⟩
  rotate_left
  · exact bodyPost_panics (GivesD.throws (hK4.trans (hk5.mono (by simp))) hK4 (E2.out.trans ((bnd_ok hx4).trans (bnd_err hx5))) hbb hcell)
  have hv5 := (hk5.block _ (lt_of_heap hv4) hne).trans hv4
  have hK5 := hK4.trans (hk5.mono (M' := [A.R, A.S, A.N]) (by simp))
  clear hk5 hv4 hK4 hr4
  go_wp2_with fail
  refine (selector_at (Same.add A _) hr5).mono ?_
  rintro e w6 ⟨hk6, ⟨⟨ty, p⟩, σ6, v, hx6, rfl, hr6, hf6⟩ | ⟨f, hx6, b, hbb, rfl, hcell⟩⟩
  rotate_left
  · exact bodyPost_panics (GivesD.throws (hK5.trans (hk6.mono (by simp [Ad.add]))) hK5 (E2.out.trans ((bnd_ok hx4).trans ((bnd_ok hx5).trans (bnd_err hx6)))) hbb hcell)
  have hv6 := (hk6.block _ (lt_of_heap hv5) hne).trans hv5
  have hK6 := hK5.trans (hk6.mono (M' := [A.R, A.S, A.N]) (by simp [Ad.add]))
  have E6 : Hid (unionP text at' σ = unionK3 text n (ty, p) σ6) := E2.out.trans ((bnd_ok hx4).trans ((bnd_ok hx5).trans (bnd_ok hx6)))
  have hlt6 := lt_of_heap hv6
  clear hk6 hv5 hK5 hr5 E2 hx4 hx5 hx6
  dsimp only at hf6 ⊢
  obtain ⟨T, vt, hT⟩ : ∃ T vt, tyV ty = .iface T vt := by cases ty <;> exact ⟨_, _, rfl⟩
  rw [hT]
  go_wp2_with fail
  refine (among_any _).mono ?_
  rintro e w7 ⟨q, bx, rfl, hq, hbx, hqb, hI, hb7, hx7⟩
  have hlq : q < w7.heap.size := by
    obtain ⟨_, _, _, hm⟩ := id hI
    exact lt_of_heap hm
  have P7 : Hid (UnPre A text w w2.heap.size q bx v p #[.string ⟨n.1.toArray⟩, .int .i64 n.2, .string ⟨#[]⟩, .int .i64 0, .nilIface, .slice none 0 0] [q, w2.heap.size] [] σ6 w7) := by
    have hk7 : Keeps [] w6 w7 := Keeps.of_below [] hb7
    have hX : ∀ bs, Held (A.add w2.heap.size).X bs w6 → Held (A.plus [q, w2.heap.size]).X bs w7 := fun bs hb => (hb.add hq).keeps hk7 (by simp)
    refine ⟨hK6.trans (hk7.mono (by simp)), hr6.take hb7 hq hlq, ⟨by simp, by simp, by omega⟩, ?_, hI, ?_, ?_, (hk7.block _ hlt6 (by simp)).trans hv6⟩
    · intro y hy
      simp at hy
      have := hK6.size
      omega
    · intro b hb
      simp only [amongC, List.mem_singleton] at hb
      subst hb
      refine ⟨hx7, ?_⟩
      simp [Ad.plus]
      refine ⟨by omega, by omega, ?_⟩
      intro hm
      have := h.old _ hm
      omega
    · obtain ⟨bs, f, pre, post, g1, g2, g3, g4⟩ := hf6
      exact ⟨bs, f, pre, post, g1, hX bs g2, g3, fun W hW => g4 W (hW.sub fun _ hx => List.mem_cons_of_mem _ hx)⟩
  clear hb7 hI hx7 hr6 hf6 hv6 hK6 hlt6
  go_wp2_with fail
  refine (claim_at (bx := bx) (Same.plus A _) (P7.out.free h) P7.out.rd P7.out.set P7.out.cl).mono ?_
  rintro e w8 ⟨hk8, ⟨m, t8, σ8, hx8, rfl, hr8, hi8⟩ | ⟨f, hx8, b, hbb, rfl, hcell⟩⟩
  rotate_left
  · refine bodyPost_panics (GivesD.throws (P7.out.kp.young hk8 ?_) P7.out.kp (E6.out.trans (bnd_err (runy_err hx8))) hbb hcell)
    intro x hx
    simp at hx ⊢
    rcases hx with hx | hx
    · exact Or.inl (Or.inr (Or.inl hx))
    · exact Or.inr (by have := P7.out.new _ P7.out.mine.2.1; omega)
  have P8 := Hid.mk ((P7.out.turn h hk8 (by simp) hr8 hi8).put h (.string ⟨m.1.toArray⟩) (.int .i64 m.2) (.iface T vt))
  obtain ⟨b2, b3, b4, hfb⟩ := bound6 (P7.out.turn h hk8 (by simp) hr8 hi8).box
  clear hk8 hr8 hi8 P7
  dsimp only [nameV]
  go_wp2_with fail
  refine (expect_at (Same.plus A _) _ P8.out.rd).mono ?_
  rintro e w9 ⟨hk9, ⟨x9, σ9, hx9, rfl, hr9⟩ | ⟨f, hx9, b, hbb, rfl, hcell⟩⟩
  rotate_left
  · exact bodyPost_panics (GivesD.throws (P8.out.kp.trans (hk9.mono (by simp))) P8.out.kp (E6.out.trans ((bnd_ok (runy_ok hx8)).trans (bnd_err hx9))) hbb hcell)
  have P9 := Hid.mk (P8.out.scan h hk9 hr9)
  clear hk9 hr9 P8 b2 b3 b4 hfb
  go_wp2_with fail
  refine (expect_at (Same.plus A _) _ P9.out.rd).mono ?_
  rintro e w10 ⟨hk10, ⟨x10, σ10, hx10, rfl, hr10⟩ | ⟨f, hx10, b, hbb, rfl, hcell⟩⟩
  rotate_left
  · exact bodyPost_panics (GivesD.throws (P9.out.kp.trans (hk10.mono (by simp))) P9.out.kp (E6.out.trans ((bnd_ok (runy_ok hx8)).trans ((bnd_ok hx9).trans (bnd_err hx10)))) hbb hcell)
  have P10 := P9.out.scan h hk10 hr10
  rw [← hT] at P10
  have M0 := Hid.mk (UnPre.start (n := n) (sel := ⟨m.1, m.2, ty⟩) h P10)
  have E10 : Hid (unionP text at' σ = bnd (runy (armsF text p 13 []) (t8, [])) (unionK5 text n ⟨m.1, m.2, ty⟩) σ10) := E6.out.trans ((bnd_ok (runy_ok hx8)).trans ((bnd_ok hx9).trans (bnd_ok hx10)))
  clear hk10 hr10 P9 P10 E6 hx8 hx9 hx10 hne hq hbx hqb hlq hs2 hK2
  go_wp2
  go_loopw [10] (fun b ur => ∃ (y : Bool) (rs : Arms) (css : List Value) (bs : List (Nat × Obj)) (Y : List Nat) (t : List (List UInt8)) (l : List (Int × Int)) (sl : Value) (σ' : St), b = .bool y ∧ rs.length ≤ l.length ∧ l.length ≤ 12 ∧ Hid (UnMid A text w w2.heap.size q bx w10.heap.size v p n ⟨m.1, m.2, ty⟩ rs css bs Y t l sl σ' ur) ∧
      Hid (unionP text at' σ = bnd (runy (if y then armsF text p (13 - rs.length) rs else armsEnd text rs) (t, l)) (unionK5 text n ⟨m.1, m.2, ty⟩) σ')) (fun _ ur => 13 - numsLen ur w10.heap.size)
  case atStart => exact ⟨true, [], [], [], _, t8, [], _, σ10, rfl, by simp, by simp, M0, E10⟩
  case round =>
    obtain ⟨y, rs, css, bs, Y, t, l, sl, σ', rfl, hrl, hl12, M, E⟩ := hrel
    clear M0 E10
    obtain ⟨ad, cap, rfl⟩ := M.out.slice
    cases y with
    | false =>
      go_wp2_with fail
      refine (accept_at (Same.plus A Y) _ M.out.rd).mono ?_
      rintro e w5 ⟨hk5, ⟨y5, σ5, hx5, rfl, hr5⟩ | ⟨f, hx5, b, hbb, rfl, hcell⟩⟩
      rotate_left
      · exact (show bodyPost Tryz.prog Tryz.f90 (GivesD [A.R, A.S, A.N] A text w (unionP text at' σ)) (Exit.panic _) _ w5 from bodyPost_panics (GivesD.throws (M.out.kp.trans (hk5.mono (by simp))) M.out.kp (E.out.trans (bnd_err (runy_err (bndx_err (lift_err hx5))))) hbb hcell))
      have M5 := Hid.mk (M.out.scan h hk5 hr5)
      clear hk5 hr5 M
      cases y5 with
      | false =>
        have E5 : Hid (unionP text at' σ = unionEnd text n ⟨m.1, m.2, ty⟩ rs σ5) := E.out.trans (bnd_ok (runy_ok ((bndx_ok (lift_ok hx5)).trans rfl)))
        clear E
        go_wp2_with fail
        refine (expect_at (Same.plus A _) _ M5.out.rd).mono ?_
        rintro e wa ⟨hka, ⟨xa, σa, hxa, rfl, hra⟩ | ⟨f, hxa, b, hbb, rfl, hcell⟩⟩
        rotate_left
        · exact (show bodyPost Tryz.prog Tryz.f90 (GivesD [A.R, A.S, A.N] A text w (unionP text at' σ)) (Exit.panic _) _ wa from bodyPost_panics (GivesD.throws (M5.out.kp.trans (hka.mono (by simp))) M5.out.kp (E5.out.trans (bnd_err hxa)) hbb hcell))
        have Ma := Hid.mk (M5.out.scan h hka hra)
        clear hka hra
        go_wp2_with fail
        refine (expect_at (Same.plus A _) _ Ma.out.rd).mono ?_
        rintro e wb ⟨hkb, ⟨xb, σb, hxb, rfl, hrb⟩ | ⟨f, hxb, b, hbb, rfl, hcell⟩⟩
        rotate_left
        · exact (show bodyPost Tryz.prog Tryz.f90 (GivesD [A.R, A.S, A.N] A text w (unionP text at' σ)) (Exit.panic _) _ wb from bodyPost_panics (GivesD.throws (Ma.out.kp.trans (hkb.mono (by simp))) Ma.out.kp (E5.out.trans ((bnd_ok hxa).trans (bnd_err hxb))) hbb hcell))
        have Mb := Hid.mk (Ma.out.scan h hkb hrb)
        clear hkb hrb Ma
        go_wp2
        go_ret
        exact Mb.out.fin h (by omega) (E5.out.trans ((bnd_ok hxa).trans (bnd_ok hxb)))
      | true =>
        have E5 : Hid (unionP text at' σ = bnd (runy (bndx (lift (expect text [58])) fun _ => bndx (onL (arm text (amongC 0 0))) fun d => retx (rs ++ [([], d)])) (t, l)) (unionK5 text n ⟨m.1, m.2, ty⟩) σ5) := E.out.trans (bnd_eq (runy_eq (bndx_ok (lift_ok hx5))))
        clear E
        go_wp2_with fail
        refine (expect_at (Same.plus A Y) _ M5.out.rd).mono ?_
        rintro e w8 ⟨hk8, ⟨x8, σ8, hx8, rfl, hr8⟩ | ⟨f, hx8, b, hbb, rfl, hcell⟩⟩
        rotate_left
        · exact (show bodyPost Tryz.prog Tryz.f90 (GivesD [A.R, A.S, A.N] A text w (unionP text at' σ)) (Exit.panic _) _ w8 from bodyPost_panics (GivesD.throws (M5.out.kp.trans (hk8.mono (by simp))) M5.out.kp (E5.out.trans (bnd_err (runy_err (bndx_err (lift_err hx8))))) hbb hcell))
        have M8 := Hid.mk (M5.out.scan h hk8 hr8)
        clear hk8 hr8 M5
        have E8 : Hid (unionP text at' σ = bnd (runy (bndx (onL (arm text (amongC 0 0))) fun d => retx (rs ++ [([], d)])) (t, l)) (unionK5 text n ⟨m.1, m.2, ty⟩) σ8) := E5.out.trans (bnd_eq (runy_eq (bndx_ok (lift_ok hx8))))
        clear E5
        have hbd : Below w8.heap.size w8 w8.drew := (Below.refl _ _).drew
        obtain ⟨k2, k5, hfD⟩ := bound65 M8.out.box
        have MD := Hid.mk (M8.out.below h hbd)
        have HC := Hid.mk (arm_at (bx := bx) (Same.plus A Y) (MD.out.free h (by simp)) MD.out.rd MD.out.set MD.out.cl)
        have hz3 : (Value.agg #[.slice none 0 0, .string ⟨#[]⟩, .int .i64 0, .nilIface]).cells.size = 4 := by decide
        have hl1 : rs.length + 1 ≤ maxLen := by unfold maxLen; omega
        have hl2 : (rs.length + 1) * 64 ≤ 140737488355328 := by omega
        clear M8
        go_wp2_with fail
        refine region_last (fun w' => w'.cell? ⟨w2.heap.size, 5, none⟩ = some (.slice ad rs.length cap)) (L := 13) (by kernel_rfl) rfl (by kernel_rfl) (by kernel_rfl) ?_ (fun hHeld => ?_)
        · go_keep
        refine tk (i := 0) (v := ?_) rfl (by kernel_rfl) (fun _ _ _ h => h) (by rfl) (by assumption) ?_ ?_
        rotate_left
        · intro w hSw; (try dsimp only at hSw); go_simp; (try with_reducible rfl)
        (try simp only [put_l, put_z, List.set])
        refine tk (i := 1) (v := ?_) rfl (by kernel_rfl) (fun _ _ _ h => h) (by rfl) (by assumption) ?_ ?_
        rotate_left
        · intro w hSw; (try dsimp only at hSw); go_simp; (try with_reducible rfl)
        (try simp only [put_l, put_z, List.set])
        refine tk (i := 2) (v := ?_) rfl (by kernel_rfl) (fun _ _ _ h => h) (by rfl) (by assumption) ?_ ?_
        rotate_left
        · intro w hSw; (try dsimp only at hSw); go_simp; (try with_reducible rfl)
        (try simp only [put_l, put_z, List.set])
        refine tk (i := 3) (v := ?_) rfl (by kernel_rfl) (fun _ _ _ h => h) (by rfl) (by assumption) ?_ ?_
        rotate_left
        · intro w hSw; (try dsimp only at hSw); go_simp; (try with_reducible rfl)
        (try simp only [put_l, put_z, List.set])
        refine tk (i := 4) (v := ?_) rfl (by kernel_rfl) (fun _ _ _ h => h) (by rfl) (by assumption) ?_ ?_
        rotate_left
        · intro w hSw; (try dsimp only at hSw); go_simp; (try with_reducible rfl)
        (try simp only [put_l, put_z, List.set])
        refine tk (i := 5) (v := ?_) rfl (by kernel_rfl) (fun _ _ _ h => h) (by rfl) (by assumption) ?_ ?_
        rotate_left
        · intro w hSw; (try dsimp only at hSw); go_simp; (try with_reducible rfl)
        (try simp only [put_l, put_z, List.set])
        refine tk (i := 6) (v := ?_) rfl (by kernel_rfl) (fun _ _ _ h => h) (by rfl) (by assumption) ?_ ?_
        rotate_left
        · intro w hSw; (try dsimp only at hSw); go_simp; (try with_reducible rfl)
        (try simp only [put_l, put_z, List.set])
        refine wpAnyH_ready (rs := [7]) (by kernel_rfl) (by simp) ?_
        refine AllReadyH.cons rfl (fun K hK => ?_) AllReadyH.nil
        (go_simp; go_at_call 134; refine HC.out.mono ?_; rintro e w6 ⟨hk6, ⟨d, t6, σ6, hx6, rfl, hr6, hi6⟩ | ⟨f, hx6, b, hbb, rfl, hcell⟩⟩; rotate_left; exact (show bodyPost Tryz.prog Tryz.f90 (GivesD [A.R, A.S, A.N] A text w (unionP text at' σ)) (Exit.panic _) _ w6 from bodyPost_panics (GivesD.throws (MD.out.kp.young hk6 (by intro x hx; simp at hx ⊢; rcases hx with hx | hx; exact Or.inl (Or.inr (Or.inl hx)); exact Or.inr (by have := MD.out.new _ (MD.out.mine q (by simp)); omega))) MD.out.kp (E8.out.trans (bnd_err (runy_err (bndx_err (onL_err hx6))))) hbb hcell)); have M6 := Hid.mk (MD.out.turn h hk6 (by intro x hx; simp at hx; rcases hx with rfl | rfl; exact Or.inl rfl; exact Or.inr (Or.inl rfl)) hr6 hi6 (MD.out.nums.keeps hk6 (by have := MD.out.nd.2.2; have := MD.out.new _ (MD.out.mine w10.heap.size (by simp)); simp [Ad.plus]; omega))); obtain ⟨z2, z5, hfz⟩ := bound65 M6.out.box; have hl6 := lt_of_heap M6.out.box; have hne6 := Nat.ne_of_lt hl6; have hwl := M6.out.kp.size; dsimp only [declV])
        refine hK.out _ _ ?_ (fun hHeld => ?_)
        · go_keep
        clear hK K
        (try simp only [put_l, put_z, List.set])
        refine tk (i := 8) (v := ?_) rfl (by kernel_rfl) (fun _ _ _ h => h) (by rfl) (by assumption) ?_ ?_
        rotate_left
        · intro w hSw; (try dsimp only at hSw); go_simp; (try with_reducible rfl)
        (try simp only [put_l, put_z, List.set])
        refine wpAnyH_ready (rs := [9]) (by kernel_rfl) (by simp) ?_
        refine AllReadyH.cons rfl (fun K hK => ?_) AllReadyH.nil
        go_simp
        refine hK.out _ _ ?_ (fun hHeld => ?_)
        · go_keep
        clear hK K
        (try simp only [put_l, put_z, List.set])
        refine wpAnyH_ready (rs := [10]) (by kernel_rfl) (by simp) ?_
        refine AllReadyH.cons rfl (fun K hK => ?_) AllReadyH.nil
        (refine step_append_lies _ (by rfl) _ _ _ (by rfl) w.heap.size 292 i0 _ 4 64 Tryz.underlying285 hi0 hz0 hz1 hz2 hz3 (by omega) (.slice ad rs.length cap) rs.length ((rs.zip css).flatMap armC) (by rfl) (M6.out.rowAt _) ⟨w6.heap.size, 0, none⟩ 1 1 (armC (([], d), .slice none 0 0)) (by rfl) (by rfl) (World.news_of_block (cs := (armC (([], d), .slice none 0 0)).toArray) (t := 292) (fr := (0, 0)) (heap_alloc_new w6 _)) (one_arm [] d none 0 0) (by omega) hl1 hl2 (by simp; omega) (w6.heap.size + 1) (by simp) ?_; intro g cap' w7 hown7 hgrow hat hlt; obtain ⟨y2, y5, hfy⟩ := bound65 (M6.out.boxAt hgrow))
        refine hK.out _ _ ?_ (fun hHeld => ?_)
        · go_keep
        clear hK K
        (try simp only [put_l, put_z, List.set])
        refine tk (i := 11) (v := ?_) rfl (by kernel_rfl) (fun _ _ _ h => h) (by rfl) (by assumption) ?_ ?_
        rotate_left
        · intro w hSw; (try dsimp only at hSw); go_simp; (try with_reducible rfl)
        (try simp only [put_l, put_z, List.set])
        refine tk (i := 12) (v := ?_) rfl (by kernel_rfl) (fun _ _ _ h => h) (by rfl) (by assumption) ?_ ?_
        rotate_left
        · intro w hSw; (try dsimp only at hSw); go_simp; (try with_reducible rfl)
        (try simp only [put_l, put_z, List.set])
        refine wpAnyH_done (by kernel_rfl) ?_ _
        refine last_step rfl (fun K hK => ?_)
        go_simp
        refine hK.out _ _ ?_
        clear hK K
        (try simp only [put_l, put_z, List.set])
        have M7 := Hid.mk (UnMid.step (bs' := []) (cs := []) (cv := .slice none 0 0) (d := d) h M6.out (by intro p hp; cases hp) (Or.inl ⟨rfl, rfl, rfl⟩) ((Below.refl w6.heap.size w6).alloc (Nat.le_refl _) _) hown7 hgrow (by simpa using hat) hlt)
        clear hk6 hr6 hi6 hown7 hgrow hat hlt y2 y5 hfy z2 z5 hfz M6 HC MD
        have E9 : Hid (unionP text at' σ = unionEnd text n ⟨m.1, m.2, ty⟩ (rs ++ [([], d)]) σ6) := E8.out.trans (bnd_ok (runy_ok ((bndx_ok (onL_ok hx6)).trans rfl)))
        clear E8
        go_wp2_with fail
        refine (expect_at (Same.plus A _) _ M7.out.rd).mono ?_
        rintro e wa ⟨hka, ⟨xa, σa, hxa, rfl, hra⟩ | ⟨f, hxa, b, hbb, rfl, hcell⟩⟩
        rotate_left
        · exact (show bodyPost Tryz.prog Tryz.f90 (GivesD [A.R, A.S, A.N] A text w (unionP text at' σ)) (Exit.panic _) _ wa from bodyPost_panics (GivesD.throws (M7.out.kp.trans (hka.mono (by simp))) M7.out.kp (E9.out.trans (bnd_err hxa)) hbb hcell))
        have Ma := Hid.mk (M7.out.scan h hka hra)
        clear hka hra
        go_wp2_with fail
        refine (expect_at (Same.plus A _) _ Ma.out.rd).mono ?_
        rintro e wb ⟨hkb, ⟨xb, σb, hxb, rfl, hrb⟩ | ⟨f, hxb, b, hbb, rfl, hcell⟩⟩
        rotate_left
        · exact (show bodyPost Tryz.prog Tryz.f90 (GivesD [A.R, A.S, A.N] A text w (unionP text at' σ)) (Exit.panic _) _ wb from bodyPost_panics (GivesD.throws (Ma.out.kp.trans (hkb.mono (by simp))) Ma.out.kp (E9.out.trans ((bnd_ok hxa).trans (bnd_err hxb))) hbb hcell))
        have Mb := Hid.mk (Ma.out.scan h hkb hrb)
        clear hkb hrb Ma
        go_wp2
        go_ret
        exact Mb.out.fin h (by simp; omega) (E9.out.trans ((bnd_ok hxa).trans (bnd_ok hxb)))
    | true =>
      have EM : Hid (unionP text at' σ = bnd (runy (armsF text p ((12 - rs.length) + 1) rs) (t, l)) (unionK5 text n ⟨m.1, m.2, ty⟩) σ') := by
        have h1 := E.out
        rw [show 13 - rs.length = (12 - rs.length) + 1 by omega] at h1
        exact h1
      clear E
      go_wp2_with fail
      refine (cases_at (Same.plus A Y) M.out.rd M.out.fit (M.out.free h (by simp)) M.out.nums).mono ?_
      rintro e w5 ⟨hk5, ⟨cs, l5, σ5, cv, bs5, hx5, rfl, hr5, hn5, hsl5, hh5⟩ | ⟨f, hx5, b, hbb, rfl, hcell⟩⟩
      rotate_left
      · exact (show bodyPost Tryz.prog Tryz.f90 (GivesD [A.R, A.S, A.N] A text w (unionP text at' σ)) (Exit.panic _) _ w5 from bodyPost_panics (GivesD.throws (M.out.kp.young hk5 (by intro x hx; simp at hx ⊢; rcases hx with hx | hx; exact Or.inl (Or.inr (Or.inl hx)); exact Or.inr (by have := M.out.new _ (M.out.mine w10.heap.size (by simp)); omega))) M.out.kp (EM.out.trans (armsF_err hx5)) hbb hcell))
      have hc5 := casesF_len _ _ _ _ _ _ _ hx5
      have M5 := Hid.mk (M.out.turn h hk5 (by intro x hx; simp at hx; rcases hx with rfl | rfl; exact Or.inl rfl; exact Or.inr (Or.inr rfl)) hr5 (M.out.set.keeps hk5 (by have := M.out.nd.2.2; have := M.out.new _ (M.out.mine q (by simp)); simp [Ad.plus]; omega)) hn5)
      have L1 := numsLen_of M.out.nums
      have E5 : Hid (unionP text at' σ = bnd (runy (armsR text p (12 - rs.length) rs cs) (t, l5)) (unionK5 text n ⟨m.1, m.2, ty⟩) σ5) := EM.out.trans (armsF_ok hx5)
      obtain ⟨ca, cn, cc, rfl⟩ : ∃ a b c, cv = .slice a b c := by rcases hsl5 with ⟨rfl, _⟩ | ⟨g, cap, cur, rfl, _⟩ <;> exact ⟨_, _, _, rfl⟩
      clear EM hk5 hr5 hn5 M
      have hbd : Below w5.heap.size w5 w5.drew := (Below.refl _ _).drew
      obtain ⟨k2, k5, hfD⟩ := bound65 M5.out.box
      have MD := Hid.mk (M5.out.below h hbd)
      have HC := Hid.mk (arm_at (bx := bx) (Same.plus A Y) (MD.out.free h (by simp)) MD.out.rd MD.out.set MD.out.cl)
      have hz3 : (Value.agg #[.slice none 0 0, .string ⟨#[]⟩, .int .i64 0, .nilIface]).cells.size = 4 := by decide
      have hl1 : rs.length + 1 ≤ maxLen := by unfold maxLen; omega
      have hl2 : (rs.length + 1) * 64 ≤ 140737488355328 := by omega
      have hh6 : ∀ w6, Keeps [A.S, q] w5.drew w6 → Held (A.plus Y).X bs5 w6 := fun w6 hk6 => (hh5.keeps (Keeps.of_below [] hbd) (by simp)).keeps hk6 (by intro x hx; simp at hx; rcases hx with rfl | rfl; exact MD.out.rd.mine.2.1; exact List.mem_append_left _ (MD.out.mine _ (by simp)))
      have HH := Hid.mk hh6
      have HS := Hid.mk hsl5
      clear M5 hh6 hh5 hsl5
      go_wp2_with fail
      refine region_last (fun w' => w'.cell? ⟨w2.heap.size, 5, none⟩ = some (.slice ad rs.length cap)) (L := 14) (by kernel_rfl) rfl (by kernel_rfl) (by kernel_rfl) ?_ (fun hHeld => ?_)
      · go_keep
      refine tk (i := 0) (v := ?_) rfl (by kernel_rfl) (fun _ _ _ h => h) (by rfl) (by assumption) ?_ ?_
      rotate_left
      · intro w hSw; (try dsimp only at hSw); go_simp; (try with_reducible rfl)
      (try simp only [put_l, put_z, List.set])
      refine tk (i := 1) (v := ?_) rfl (by kernel_rfl) (fun _ _ _ h => h) (by rfl) (by assumption) ?_ ?_
      rotate_left
      · intro w hSw; (try dsimp only at hSw); go_simp; (try with_reducible rfl)
      (try simp only [put_l, put_z, List.set])
      refine tk (i := 2) (v := ?_) rfl (by kernel_rfl) (fun _ _ _ h => h) (by rfl) (by assumption) ?_ ?_
      rotate_left
      · intro w hSw; (try dsimp only at hSw); go_simp; (try with_reducible rfl)
      (try simp only [put_l, put_z, List.set])
      refine tk (i := 3) (v := ?_) rfl (by kernel_rfl) (fun _ _ _ h => h) (by rfl) (by assumption) ?_ ?_
      rotate_left
      · intro w hSw; (try dsimp only at hSw); go_simp; (try with_reducible rfl)
      (try simp only [put_l, put_z, List.set])
      refine tk (i := 4) (v := ?_) rfl (by kernel_rfl) (fun _ _ _ h => h) (by rfl) (by assumption) ?_ ?_
      rotate_left
      · intro w hSw; (try dsimp only at hSw); go_simp; (try with_reducible rfl)
      (try simp only [put_l, put_z, List.set])
      refine tk (i := 5) (v := ?_) rfl (by kernel_rfl) (fun _ _ _ h => h) (by rfl) (by assumption) ?_ ?_
      rotate_left
      · intro w hSw; (try dsimp only at hSw); go_simp; (try with_reducible rfl)
      (try simp only [put_l, put_z, List.set])
      refine tk (i := 6) (v := ?_) rfl (by kernel_rfl) (fun _ _ _ h => h) (by rfl) (by assumption) ?_ ?_
      rotate_left
      · intro w hSw; (try dsimp only at hSw); go_simp; (try with_reducible rfl)
      (try simp only [put_l, put_z, List.set])
      refine tk (i := 7) (v := ?_) rfl (by kernel_rfl) (fun _ _ _ h => h) (by rfl) (by assumption) ?_ ?_
      rotate_left
      · intro w hSw; (try dsimp only at hSw); go_simp; (try with_reducible rfl)
      (try simp only [put_l, put_z, List.set])
      refine wpAnyH_ready (rs := [8]) (by kernel_rfl) (by simp) ?_
      refine AllReadyH.cons rfl (fun K hK => ?_) AllReadyH.nil
      (go_simp; go_at_call 134; refine HC.out.mono ?_; rintro e w6 ⟨hk6, ⟨d, t6, σ6, hx6, rfl, hr6, hi6⟩ | ⟨f, hx6, b, hbb, rfl, hcell⟩⟩; rotate_left; exact (show bodyPost Tryz.prog Tryz.f90 (GivesD [A.R, A.S, A.N] A text w (unionP text at' σ)) (Exit.panic _) _ w6 from bodyPost_panics (GivesD.throws (MD.out.kp.young hk6 (by intro x hx; simp at hx ⊢; rcases hx with hx | hx; exact Or.inl (Or.inr (Or.inl hx)); exact Or.inr (by have := MD.out.new _ (MD.out.mine q (by simp)); omega))) MD.out.kp (E5.out.trans (bnd_err (runy_err (bndx_err (onL_err hx6))))) hbb hcell)); have M6 := Hid.mk (MD.out.turn h hk6 (by intro x hx; simp at hx; rcases hx with rfl | rfl; exact Or.inl rfl; exact Or.inr (Or.inl rfl)) hr6 hi6 (MD.out.nums.keeps hk6 (by have := MD.out.nd.2.2; have := MD.out.new _ (MD.out.mine w10.heap.size (by simp)); simp [Ad.plus]; omega))); obtain ⟨z2, z5, hfz⟩ := bound65 M6.out.box; have hl6 := lt_of_heap M6.out.box; have hne6 := Nat.ne_of_lt hl6; have hwl := M6.out.kp.size; dsimp only [declV])
      refine hK.out _ _ ?_ (fun hHeld => ?_)
      · go_keep
      clear hK K
      (try simp only [put_l, put_z, List.set])
      refine tk (i := 9) (v := ?_) rfl (by kernel_rfl) (fun _ _ _ h => h) (by rfl) (by assumption) ?_ ?_
      rotate_left
      · intro w hSw; (try dsimp only at hSw); go_simp; (try with_reducible rfl)
      (try simp only [put_l, put_z, List.set])
      refine wpAnyH_ready (rs := [10]) (by kernel_rfl) (by simp) ?_
      refine AllReadyH.cons rfl (fun K hK => ?_) AllReadyH.nil
      go_simp
      refine hK.out _ _ ?_ (fun hHeld => ?_)
      · go_keep
      clear hK K
      (try simp only [put_l, put_z, List.set])
      refine wpAnyH_ready (rs := [11]) (by kernel_rfl) (by simp) ?_
      refine AllReadyH.cons rfl (fun K hK => ?_) AllReadyH.nil
      (refine step_append_lies _ (by rfl) _ _ _ (by rfl) w.heap.size 292 i0 _ 4 64 Tryz.underlying285 hi0 hz0 hz1 hz2 hz3 (by omega) (.slice ad rs.length cap) rs.length ((rs.zip css).flatMap armC) (by rfl) (M6.out.rowAt _) ⟨w6.heap.size, 0, none⟩ 1 1 (armC ((cs, d), .slice ca cn cc)) (by rfl) (by rfl) (World.news_of_block (cs := (armC ((cs, d), .slice ca cn cc)).toArray) (t := 292) (fr := (0, 0)) (heap_alloc_new w6 _)) (one_arm cs d ca cn cc) (by omega) hl1 hl2 (by simp; omega) (w6.heap.size + 1) (by simp) ?_; intro g cap' w7 hown7 hgrow hat hlt; obtain ⟨y2, y5, hfy⟩ := bound65 (M6.out.boxAt hgrow))
      refine hK.out _ _ ?_ (fun hHeld => ?_)
      · go_keep
      clear hK K
      (try simp only [put_l, put_z, List.set])
      refine tk (i := 12) (v := ?_) rfl (by kernel_rfl) (fun _ _ _ h => h) (by rfl) (by assumption) ?_ ?_
      rotate_left
      · intro w hSw; (try dsimp only at hSw); go_simp; (try with_reducible rfl)
      (try simp only [put_l, put_z, List.set])
      refine tk (i := 13) (v := ?_) rfl (by kernel_rfl) (fun _ _ _ h => h) (by rfl) (by assumption) ?_ ?_
      rotate_left
      · intro w hSw; (try dsimp only at hSw); go_simp; (try with_reducible rfl)
      (try simp only [put_l, put_z, List.set])
      refine wpAnyH_done (by kernel_rfl) ?_ _
      refine last_step rfl (fun K hK => ?_)
      go_simp
      refine hK.out _ _ ?_
      clear hK K
      (try simp only [put_l, put_z, List.set])
      have M7 := Hid.mk (UnMid.step (cs := cs) (cv := .slice ca cn cc) (d := d) h M6.out (HH.out w6 hk6) (HS.out) ((Below.refl w6.heap.size w6).alloc (Nat.le_refl _) _) hown7 hgrow (by simpa using hat) hlt)
      clear hk6 hr6 hi6 hown7 hgrow hat hlt y2 y5 hfy z2 z5 hfz M6 HC MD
      have E7 : Hid (unionP text at' σ = bnd (runy (bndx (lift (sees text [99, 97, 115, 101])) fun y => if y then armsF text p (12 - rs.length) (rs ++ [(cs, d)]) else armsEnd text (rs ++ [(cs, d)])) (t6, l5)) (unionK5 text n ⟨m.1, m.2, ty⟩) σ6) := E5.out.trans (bnd_eq (runy_eq (bndx_ok (onL_ok hx6))))
      clear E5
      go_wp2_with fail
      refine (sees_at (Same.plus A (g :: Y)) _ M7.out.rd).mono ?_
      rintro e w8 ⟨hk8, ⟨y8, σ8, hx8, rfl, hr8⟩ | ⟨f, hx8, b, hbb, rfl, hcell⟩⟩
      rotate_left
      · exact (show bodyPost Tryz.prog Tryz.f90 (GivesD [A.R, A.S, A.N] A text w (unionP text at' σ)) (Exit.panic _) _ w8 from bodyPost_panics (GivesD.throws (M7.out.kp.trans (hk8.mono (by simp))) M7.out.kp (E7.out.trans (bnd_err (runy_err (bndx_err (lift_err hx8))))) hbb hcell))
      have M8 := Hid.mk (M7.out.scan h hk8 hr8)
      clear hk8 hr8 M7
      have E8 : Hid (unionP text at' σ = bnd (runy (if y8 = true then armsF text p (13 - (rs ++ [(cs, d)]).length) (rs ++ [(cs, d)]) else armsEnd text (rs ++ [(cs, d)])) (t6, l5)) (unionK5 text n ⟨m.1, m.2, ty⟩) σ8) := by
        refine E7.out.trans (bnd_eq (runy_eq ((bndx_ok (lift_ok hx8)).trans ?_)))
        have : 13 - (rs ++ [(cs, d)]).length = 12 - rs.length := by simp
        rw [this]
      have L2 := numsLen_of M8.out.nums
      clear E7
      go_wp2
      refine ⟨⟨y8, rs ++ [(cs, d)], _, _, g :: Y, t6, l5, _, σ8, rfl, by simp; omega, by omega, M8, E8⟩, ?_⟩
      rw [L1, L2]
      omega
end Go.Proofs.YtmbcibgknckenaaGreatDoor
set_option linter.all false
set_option maxRecDepth 100000
set_option maxHeartbeats 4000000
namespace Go.Proofs.YtmbcibgknckenaaGreatDoor
open Go.RowKit
open Go.MapKept
structure QMid (A : Ad) (text : ByteArray) (w : World) (q bx nq : Nat) (B : List (Nat × Obj)) (Y : List Nat) (t : List (List UInt8)) (l : List (Int × Int)) (σ : St) (u : World) : Prop where
  kp : Keeps [A.R, A.S, A.N, q, nq] w u
  rd : Rd (A.plus Y) text σ u
  new : ∀ y ∈ Y, w.heap.size ≤ y
  set : SetAt q t u
  cl : Held (A.plus Y).X (amongC q bx).bs u
  nums : NumsAt nq l u
  box : ∀ p ∈ B, u.heap[p.1]? = some p.2 ∧ p.1 ∈ Y
section
variable {A : Ad} {text : ByteArray} {w u u' : World} {q bx nq : Nat} {B B' : List (Nat × Obj)} {Y : List Nat} {t t' : List (List UInt8)} {l l' : List (Int × Int)} {σ σ' σ0 : St}
theorem Free.plus {b : Nat} (h : Free A b) (Y : List Nat) : Free (A.plus Y) b := ⟨List.mem_append_right _ h.1, h.2.1, h.2.2.1, h.2.2.2.1, h.2.2.2.2⟩
theorem QMid.turn {M : List Nat} (h0 : Rd A text σ0 w) (hq : Free A q) (hn : Free A nq) (m : QMid A text w q bx nq B Y t l σ u) (hk : Keeps M u u') (hM : ∀ x ∈ M, x ∈ [A.R, A.S, A.N, q, nq]) (hr : Rd (A.plus Y) text σ' u') (hs : SetAt q t' u') (hl : NumsAt nq l' u') :
    QMid A text w q bx nq B Y t' l' σ' u' := by
  obtain ⟨l1, l2, l3, l4⟩ := h0.lt
  have lq := h0.old _ hq.1
  have ln := h0.old _ hn.1
  have hX : ∀ x ∈ M, x ∈ (A.plus Y).X := by
    intro x hx
    have hx := hM x hx
    simp at hx
    rcases hx with rfl | rfl | rfl | rfl | rfl
    · exact hr.mine.1
    · exact hr.mine.2.1
    · exact hr.mine.2.2.1
    · exact List.mem_append_right _ hq.1
    · exact List.mem_append_right _ hn.1
  refine ⟨m.kp.trans (hk.mono hM), hr, m.new, hs, m.cl.keeps hk hX, hl, ?_⟩
  intro p hp
  obtain ⟨h1, h2⟩ := m.box p hp
  refine ⟨(hk.block _ (lt_of_heap h1) ?_).trans h1, h2⟩
  intro hx
  have hx := hM _ hx
  have := m.new _ h2
  simp at hx
  omega
theorem QMid.scan (h0 : Rd A text σ0 w) (hq : Free A q) (hn : Free A nq) (m : QMid A text w q bx nq B Y t l σ u) (hk : Keeps [A.S] u u') (hr : Rd (A.plus Y) text σ' u') : QMid A text w q bx nq B Y t l σ' u' :=
  m.turn h0 hq hn hk (by simp) hr (m.set.keeps hk (by simp; exact hq.2.2.1)) (m.nums.keeps hk (by simp; exact hn.2.2.1))
theorem QMid.claimed (h0 : Rd A text σ0 w) (hq : Free A q) (hn : Free A nq) (hne : q ≠ nq) (m : QMid A text w q bx nq B Y t l σ u) (hk : Keeps [A.S, q] u u') (hr : Rd (A.plus Y) text σ' u') (hs : SetAt q t' u') : QMid A text w q bx nq B Y t' l σ' u' :=
  m.turn h0 hq hn hk (by simp) hr hs (m.nums.keeps hk (by simp; exact ⟨hn.2.2.1, fun e => hne e.symm⟩))
theorem QMid.ended (h0 : Rd A text σ0 w) (hq : Free A q) (hn : Free A nq) (hne : q ≠ nq) (m : QMid A text w q bx nq B Y t l σ u) (hk : Keeps [A.S, nq] u u') (hr : Rd (A.plus Y) text σ' u') (hl : NumsAt nq l' u') : QMid A text w q bx nq B Y t l' σ' u' :=
  m.turn h0 hq hn hk (by simp) hr (m.set.keeps hk (by simp; exact ⟨hq.2.2.1, hne⟩)) hl
theorem QMid.alloc (m : QMid A text w q bx nq B Y t l σ u) (o : Obj) : QMid A text w q bx nq ((u.heap.size, o) :: B) (u.heap.size :: Y) t l σ (u.alloc o) := by
  have hka : Keeps [] u (u.alloc o) := (Keeps.refl [] u).alloc _
  refine ⟨m.kp.alloc _, m.rd.own _, ?_, m.set.keeps hka (by simp), (m.cl.add (Nat.le_refl _)).keeps hka (by simp), m.nums.keeps hka (by simp), ?_⟩
  · intro y hy
    rcases List.mem_cons.1 hy with rfl | hy
    · exact m.kp.size
    · exact m.new y hy
  · intro p hp
    rcases List.mem_cons.1 hp with rfl | hp
    · exact ⟨heap_alloc_at rfl, List.mem_cons_self⟩
    · obtain ⟨h1, h2⟩ := m.box p hp
      exact ⟨(hka.block _ (lt_of_heap h1) (by simp)).trans h1, List.mem_cons_of_mem _ h2⟩
theorem QMid.put {M : List Nat} (h0 : Rd A text σ0 w) (hq : Free A q) (hn : Free A nq) (m : QMid A text w q bx nq B Y t l σ u) (hk : Keeps M u u') (hM : ∀ x ∈ M, x ∈ Y) (hB : ∀ p ∈ B', u'.heap[p.1]? = some p.2 ∧ p.1 ∈ Y) : QMid A text w q bx nq B' Y t l σ u' := by
  have lq := h0.old _ hq.1
  have ln := h0.old _ hn.1
  have hX : ∀ x ∈ M, x ∈ (A.plus Y).X := fun x hx => List.mem_append_left _ (hM x hx)
  refine ⟨m.kp.young hk (fun x hx => Or.inr (m.new _ (hM x hx))), h0.young (Same.plus A Y) m.rd hk (fun x hx => ⟨m.new _ (hM x hx), hX x hx⟩), m.new, m.set.keeps hk ?_, m.cl.keeps hk hX, m.nums.keeps hk ?_, hB⟩
  · intro hx
    have := m.new _ (hM _ hx)
    omega
  · intro hx
    have := m.new _ (hM _ hx)
    omega
end
def procP (text : ByteArray) : PX UnSt ProcL := bndx (lift (side text)) fun res => bndx (onL (name text (amongC 0 0))) fun n => bndx (lift (expect text [40])) fun _ => bndx (lift (side text)) fun arg => bndx (lift (expect text [41])) fun _ =>
  bndx (onR (ending text)) fun k => retx ⟨n.1, n.2, res, arg, k⟩
abbrev procC (q : ProcL) : List Value := nameC q.t q.at' ++ [tyV q.res, tyV q.arg, .int .i64 q.num]
def GivesQ {α : Type} (A : Ad) (text : ByteArray) (w : World) (q nq : Nat) (r : Except Mar.Fault (α × UnSt × St)) (V : α → Value) (e : Ending) (w' : World) : Prop :=
  Keeps [A.R, A.S, A.N, q, nq] w w' ∧ ((∃ a t l σ', r = .ok (a, (t, l), σ') ∧ e = .returned (V a) ∧ Rd A text σ' w' ∧ SetAt q t w' ∧ NumsAt nq l w') ∨ (∃ f, r = .error f ∧ Thrown w f.no f.at' e w'))
theorem GivesQ.throws {α : Type} {A : Ad} {M' : List Nat} {text : ByteArray} {w w1 w' : World} {q nq : Nat} {r : Except Mar.Fault (α × UnSt × St)} {V : α → Value} {f : Mar.Fault} {b : Nat}
    (hk : Keeps [A.R, A.S, A.N, q, nq] w w') (hk1 : Keeps M' w w1) (hr : r = .error f) (hb : w1.heap.size ≤ b) (hc : w'.heap[b]? = some (.cells #[.int .i64 f.no, .int .i64 f.at'] 83)) :
    GivesQ A text w q nq r V (.panicked [{ v := .iface 79 (.pointer (some ⟨b, 0, none⟩)), recovered := false }]) w' := ⟨hk, Or.inr ⟨f, hr, b, Nat.le_trans hk1.size hb, rfl, hc⟩⟩
theorem side_at {A' A : Ad} (hA : Same A' A) {text : ByteArray} {σ : St} {w : World} (h : Rd A' text σ w) :
    Calls Tryz.prog 179 #[.pointer (some ⟨A.R, 0, none⟩)] w (Gives [A.S] A' text w (side text σ) tyV) := by
  have := side_any h
  rw [hA.1, hA.2.1] at this
  exact this
theorem ending_at {A' A : Ad} (hA : Same A' A) {text : ByteArray} {σ : St} {q : Nat} {l : List (Int × Int)} {w : World} (h : Rd A' text σ w) (hq : Free A' q) (hn : NumsAt q l w) :
    Calls Tryz.prog 138 #[.pointer (some ⟨A.R, 0, none⟩), .map (some q)] w (GivesX [A.S, q] A' text w (ending text l σ) intV (NumsAt q)) := by
  have := ending_any h hq hn
  rw [hA.1, hA.2.1] at this
  exact this
theorem tyV_iface (ty : Ty) : ∃ T v, tyV ty = .iface T v := by cases ty <;> exact ⟨_, _, rfl⟩
theorem bound5 {b : Nat} {k t a c d : Value} {T : TypeId} {w : World} (h : w.heap[b]? = some (.cells #[k, t, a, c, d] T)) :
    w.cell? ⟨b, 0, none⟩ = some k ∧ w.cell? ⟨b, 1, none⟩ = some t ∧ w.cell? ⟨b, 2, none⟩ = some a ∧ w.cell? ⟨b, 3, none⟩ = some c ∧ w.cell? ⟨b, 4, none⟩ = some d ∧ ∀ i, w.frozen? ⟨b, i, none⟩ = false := by
  refine ⟨?_, ?_, ?_, ?_, ?_, ?_⟩ <;> simp [World.cell?, World.frozen?, h]
theorem procedure_any {A : Ad} {text : ByteArray} {σ : St} {q bx nq : Nat} {t : List (List UInt8)} {l : List (Int × Int)} {w : World} (h : Rd A text σ w) (hq : Free A q) (hn : Free A nq) (hne : q ≠ nq) (hs : SetAt q t w) (hcl : Held A.X (amongC q bx).bs w) (hl : NumsAt nq l w) :
    Calls Tryz.prog 169 #[.pointer (some ⟨A.R, 0, none⟩), (amongC q bx).v, .map (some nq)] w (GivesQ A text w q nq (procP text (t, l) σ) fun p => .agg (procC p).toArray) := by
  have Q0 : QMid A text w q bx nq [] [] t l σ w := ⟨Keeps.refl _ _, h, by simp, hs, hcl, hl, by simp⟩
  have Q1 := Hid.mk (Q0.alloc (.cells #[.string ⟨#[]⟩, .int .i64 0, .nilIface, .nilIface, .int .i64 0] 342))
  clear Q0
  go_enter Tryz.func169, Tryz.ntmps169
  go_wp2_with fail
  refine (side_at (Same.plus A _) Q1.out.rd).mono ?_
  rintro e w2 ⟨hk2, ⟨res, σ2, hx2, rfl, hr2⟩ | ⟨f, hx2, b, hbb, rfl, hcell⟩⟩
  rotate_left
  · exact bodyPost_panics (GivesQ.throws (Q1.out.kp.trans (hk2.mono (by simp))) Q1.out.kp (bndx_err (lift_err hx2)) hbb hcell)
  have Q2 := Hid.mk (Q1.out.scan h hq hn hk2 hr2)
  clear hk2 hr2 Q1
  obtain ⟨T1, v1, hT1⟩ := tyV_iface res
  rw [hT1]
  go_wp2_with fail
  refine (claim_at (bx := bx) (Same.plus A _) (hq.plus _) Q2.out.rd Q2.out.set Q2.out.cl).mono ?_
  rintro e w3 ⟨hk3, ⟨n, t3, σ3, hx3, rfl, hr3, hs3⟩ | ⟨f, hx3, b, hbb, rfl, hcell⟩⟩
  rotate_left
  · exact bodyPost_panics (GivesQ.throws (Q2.out.kp.trans (hk3.mono (by simp))) Q2.out.kp ((bndx_ok (lift_ok hx2)).trans (bndx_err (onL_err hx3))) hbb hcell)
  have hw3 : w.heap.size < w3.heap.size := lt_of_heap ((Q2.out.claimed h hq hn hne hk3 hr3 hs3).box (w.heap.size, .cells #[.string ⟨#[]⟩, .int .i64 0, .nilIface, .nilIface, .int .i64 0] 342) List.mem_cons_self).1
  have Q4 := Hid.mk ((Q2.out.claimed h hq hn hne hk3 hr3 hs3).alloc (.cells #[.string ⟨n.1.toArray⟩, .int .i64 n.2, .iface T1 v1, .nilIface, .int .i64 0] 342))
  have E4 : Hid (procP text (t, l) σ = bndx (lift (expect text [40])) (fun _ => bndx (lift (side text)) fun arg => bndx (lift (expect text [41])) fun _ => bndx (onR (ending text)) fun k => retx ⟨n.1, n.2, res, arg, k⟩) (t3, l) σ3) := (bndx_ok (lift_ok hx2)).trans (bndx_ok (onL_ok hx3))
  clear hk3 hr3 hs3 Q2
  dsimp only [nameV]
  go_wp2_with fail
  refine (expect_at (Same.plus A _) _ Q4.out.rd).mono ?_
  rintro e w5 ⟨hk5, ⟨x5, σ5, hx5, rfl, hr5⟩ | ⟨f, hx5, b, hbb, rfl, hcell⟩⟩
  rotate_left
  · exact bodyPost_panics (GivesQ.throws (Q4.out.kp.trans (hk5.mono (by simp))) Q4.out.kp (E4.out.trans (bndx_err (lift_err hx5))) hbb hcell)
  have Q5 := Hid.mk (Q4.out.scan h hq hn hk5 hr5)
  clear hk5 hr5 Q4
  go_wp2_with fail
  refine (side_at (Same.plus A _) Q5.out.rd).mono ?_
  rintro e w6 ⟨hk6, ⟨arg, σ6, hx6, rfl, hr6⟩ | ⟨f, hx6, b, hbb, rfl, hcell⟩⟩
  rotate_left
  · exact bodyPost_panics (GivesQ.throws (Q5.out.kp.trans (hk6.mono (by simp))) Q5.out.kp (E4.out.trans ((bndx_ok (lift_ok hx5)).trans (bndx_err (lift_err hx6)))) hbb hcell)
  have Q6 := Q5.out.scan h hq hn hk6 hr6
  clear hk6 hr6 Q5
  obtain ⟨T2, v2, hT2⟩ := tyV_iface arg
  rw [hT2]
  obtain ⟨p0, p1, p2, p3, p4, hfp⟩ := bound5 (Q6.box (w3.heap.size, _) List.mem_cons_self).1
  have Q7 := Hid.mk (Q6.put (B' := [(w3.heap.size, .cells #[.string ⟨n.1.toArray⟩, .int .i64 n.2, .iface T1 v1, .iface T2 v2, .int .i64 0] 342), (w.heap.size, .cells #[.string ⟨#[]⟩, .int .i64 0, .nilIface, .nilIface, .int .i64 0] 342)]) h hq hn ((Keeps.refl [w3.heap.size] w6).setIn (p := ⟨w3.heap.size, 3, none⟩) (by simp) (.iface T2 v2)) (by simp) (by
    intro p hp
    simp only [List.mem_cons, List.not_mem_nil, or_false] at hp
    rcases hp with rfl | rfl
    · exact ⟨setBlock (i := 3) (Q6.box (w3.heap.size, _) List.mem_cons_self).1 _, by simp⟩
    · have hb := (Q6.box (w.heap.size, .cells #[.string ⟨#[]⟩, .int .i64 0, .nilIface, .nilIface, .int .i64 0] 342) (List.mem_cons_of_mem _ List.mem_cons_self)).1
      exact ⟨(((Keeps.refl [w3.heap.size] w6).setIn (p := ⟨w3.heap.size, 3, none⟩) (by simp) (.iface T2 v2)).block _ (lt_of_heap hb) (by simp; omega)).trans hb, by simp⟩))
  clear Q6
  go_wp2_with fail
  refine (expect_at (Same.plus A _) _ Q7.out.rd).mono ?_
  rintro e w8 ⟨hk8, ⟨x8, σ8, hx8, rfl, hr8⟩ | ⟨f, hx8, b, hbb, rfl, hcell⟩⟩
  rotate_left
  · exact bodyPost_panics (GivesQ.throws (Q7.out.kp.trans (hk8.mono (by simp))) Q7.out.kp (E4.out.trans ((bndx_ok (lift_ok hx5)).trans ((bndx_ok (lift_ok hx6)).trans (bndx_err (lift_err hx8))))) hbb hcell)
  have Q8 := Hid.mk (Q7.out.scan h hq hn hk8 hr8)
  clear hk8 hr8 Q7 p0 p1 p2 p3 p4 hfp
  go_wp2_with fail
  refine (ending_at (Same.plus A _) Q8.out.rd (hn.plus _) Q8.out.nums).mono ?_
  rintro e w9 ⟨hk9, ⟨k, l9, σ9, hx9, rfl, hr9, hl9⟩ | ⟨f, hx9, b, hbb, rfl, hcell⟩⟩
  rotate_left
  · exact bodyPost_panics (GivesQ.throws (Q8.out.kp.trans (hk9.mono (by simp))) Q8.out.kp (E4.out.trans ((bndx_ok (lift_ok hx5)).trans ((bndx_ok (lift_ok hx6)).trans ((bndx_ok (lift_ok hx8)).trans (bndx_err (onR_err hx9)))))) hbb hcell)
  have Q9 := Q8.out.ended h hq hn hne hk9 hr9 hl9
  have E9 : Hid (procP text (t, l) σ = .ok (⟨n.1, n.2, res, arg, k⟩, (t3, l9), σ9)) := E4.out.trans ((bndx_ok (lift_ok hx5)).trans ((bndx_ok (lift_ok hx6)).trans ((bndx_ok (lift_ok hx8)).trans ((bndx_ok (onR_ok hx9)).trans rfl))))
  clear hk9 hr9 hl9 Q8 E4
  have hb3 := (Q9.box (w3.heap.size, _) List.mem_cons_self).1
  have hb0 := (Q9.box (w.heap.size, .cells #[.string ⟨#[]⟩, .int .i64 0, .nilIface, .nilIface, .int .i64 0] 342) (List.mem_cons_of_mem _ List.mem_cons_self)).1
  obtain ⟨p0, p1, p2, p3, p4, hfp⟩ := bound5 hb3
  obtain ⟨r0, r1, r2, r3, r4, hfr⟩ := bound5 hb0
  have hn3 : ¬ w3.heap.size = w.heap.size := by omega
  have hn3' : ¬ w.heap.size = w3.heap.size := by omega
  have HQ := Hid.mk Q9
  clear Q9 hb3 hb0
  dsimp only [intV]
  go_wp2
  have kfin := (((((Keeps.refl [w3.heap.size, w.heap.size] w9).setIn (p := ⟨w3.heap.size, 4, none⟩) (by simp) (.int .i64 k)).setIn (p := ⟨w.heap.size, 0, none⟩) (by simp) (.string ⟨n.1.toArray⟩)).setIn (p := ⟨w.heap.size, 1, none⟩) (by simp) (.int .i64 n.2)).setIn (p := ⟨w.heap.size, 2, none⟩) (by simp) (.iface T1 v1)).setIn (p := ⟨w.heap.size, 3, none⟩) (by simp) (.iface T2 v2) |>.setIn (p := ⟨w.heap.size, 4, none⟩) (by simp) (.int .i64 k)
  have Qf := HQ.out.put (B' := []) h hq hn kfin (by simp) (by simp)
  refine bodyPost_ret (v := .agg #[.string ⟨n.1.toArray⟩, .int .i64 n.2, .iface T1 v1, .iface T2 v2, .int .i64 k]) (by simp [results, Tryz.results169, go_sem, r0, r1, r2, r3, r4, p0, p1, p2, p3, p4]) rfl ⟨Qf.kp, Or.inl ⟨⟨n.1, n.2, res, arg, k⟩, t3, l9, σ9, E9.out, ?_, Rd.dropAll h.mine Qf.rd, Qf.set, Qf.nums⟩⟩
  rw [← hT1, ← hT2]
end Go.Proofs.YtmbcibgknckenaaGreatDoor
set_option linter.all false
set_option maxRecDepth 100000
set_option maxHeartbeats 4000000
namespace Go.Proofs.YtmbcibgknckenaaGreatDoor
open Go.RowKit
open Go.MapKept
structure BMid (A : Ad) (text : ByteArray) (w : World) (TD TE : TypeId) (sz D q nq : Nat) (E : List (Nat × Obj)) (n : List UInt8 × Nat) (cnt : Nat) (cells : List Value) (bs : List (Nat × Obj)) (Y : List Nat) (t : List (List UInt8)) (l : List (Int × Int)) (sl : Value) (σ : St) (u : World) : Prop where
  kp : Keeps [A.R, A.S, A.N] w u
  rd : Rd (A.plus Y) text σ u
  mine : ∀ b ∈ D :: q :: nq :: E.map (·.1), b ∈ Y
  nd : (D :: q :: nq :: E.map (·.1)).Nodup
  new : ∀ y ∈ Y, w.heap.size ≤ y
  own : ∀ g, sl.ownBlock = some g → g ∈ Y ∧ g ∉ D :: q :: nq :: E.map (·.1)
  set : SetAt q t u
  nums : NumsAt nq l u
  box : u.heap[D]? = some (.cells #[.string ⟨n.1.toArray⟩, .int .i64 n.2, sl, .int .i64 0] TD)
  fix : ∀ p ∈ E, u.heap[p.1]? = some p.2
  row : u.ownsRow w.heap.size TE sz sl cnt cells
  held : Held (A.plus Y).X bs u
section
variable {A : Ad} {text : ByteArray} {w u u' : World} {TD TE : TypeId} {sz D q nq : Nat} {E : List (Nat × Obj)} {n : List UInt8 × Nat} {cnt : Nat} {cells : List Value} {bs : List (Nat × Obj)} {Y : List Nat} {t t' : List (List UInt8)} {l l' : List (Int × Int)} {sl : Value} {σ σ' σ0 : St}
theorem BMid.slice (m : BMid A text w TD TE sz D q nq E n cnt cells bs Y t l sl σ u) : ∃ ad cap, sl = .slice ad cnt cap := by
  rcases m.row.2 with ⟨rfl, h⟩ | ⟨g, cap, cur, rfl, _⟩
  · exact ⟨none, 0, by rw [h]⟩
  · exact ⟨_, _, rfl⟩
theorem BMid.free (h0 : Rd A text σ0 w) (m : BMid A text w TD TE sz D q nq E n cnt cells bs Y t l sl σ u) {b : Nat} (hb : b ∈ Y) : Free (A.plus Y) b := by
  obtain ⟨l1, l2, l3, l4⟩ := h0.lt
  have hq := m.new _ hb
  refine ⟨List.mem_append_left _ hb, ?_, ?_, ?_, ?_⟩ <;> simp only [Ad.plus] <;> omega
theorem BMid.apart (m : BMid A text w TD TE sz D q nq E n cnt cells bs Y t l sl σ u) : D ≠ q ∧ D ≠ nq ∧ q ≠ nq ∧ (∀ p ∈ E, p.1 ≠ D ∧ p.1 ≠ q ∧ p.1 ≠ nq) := by
  have := m.nd
  simp only [List.nodup_cons, List.mem_cons, not_or] at this
  obtain ⟨⟨h1, h2, h3⟩, ⟨h4, h5⟩, h6, _⟩ := this
  refine ⟨h1, h2, h4, fun p hp => ?_⟩
  have hm : p.1 ∈ E.map (·.1) := List.mem_map.2 ⟨p, hp, rfl⟩
  exact ⟨fun e => h3 (e ▸ hm), fun e => h5 (e ▸ hm), fun e => h6 (e ▸ hm)⟩
theorem BMid.turn {M : List Nat} (h0 : Rd A text σ0 w) (m : BMid A text w TD TE sz D q nq E n cnt cells bs Y t l sl σ u) (hk : Keeps M u u') (hM : ∀ x ∈ M, x ∈ [A.R, A.S, A.N, q, nq]) (hr : Rd (A.plus Y) text σ' u') (hs : SetAt q t' u') (hn : NumsAt nq l' u') :
    BMid A text w TD TE sz D q nq E n cnt cells bs Y t' l' sl σ' u' := by
  obtain ⟨l1, l2, l3, l4⟩ := h0.lt
  obtain ⟨d1, d2, d3, d4⟩ := m.apart
  have wD := m.new _ (m.mine D (by simp))
  have wq := m.new _ (m.mine q (by simp))
  have wn := m.new _ (m.mine nq (by simp))
  have hX : ∀ x ∈ M, x ∈ (A.plus Y).X := by
    intro x hx
    have hx := hM x hx
    simp at hx
    rcases hx with rfl | rfl | rfl | rfl | rfl
    · exact hr.mine.1
    · exact hr.mine.2.1
    · exact hr.mine.2.2.1
    · exact List.mem_append_left _ (m.mine _ (by simp))
    · exact List.mem_append_left _ (m.mine _ (by simp))
  refine ⟨m.kp.young hk ?_, hr, m.mine, m.nd, m.new, m.own, hs, hn, (hk.block _ (lt_of_heap m.box) ?_).trans m.box, ?_, owns_keeps m.row hk ?_, m.held.keeps hk hX⟩
  · intro x hx
    have hx := hM x hx
    simp at hx ⊢
    omega
  · intro hx
    have hx := hM _ hx
    simp at hx
    omega
  · intro p hp
    have h1 := m.fix p hp
    refine (hk.block _ (lt_of_heap h1) ?_).trans h1
    intro hx
    have hx := hM _ hx
    have h2 := m.new _ (m.mine p.1 (by simp; exact Or.inr (Or.inr (Or.inr ⟨_, hp⟩))))
    have h3 := d4 p hp
    simp at hx
    omega
  · intro g hg hx
    have hx := hM _ hx
    have h1 := m.own g hg
    have h2 := m.new _ h1.1
    simp at hx h1
    omega
theorem BMid.scan (h0 : Rd A text σ0 w) (m : BMid A text w TD TE sz D q nq E n cnt cells bs Y t l sl σ u) (hk : Keeps [A.S] u u') (hr : Rd (A.plus Y) text σ' u') : BMid A text w TD TE sz D q nq E n cnt cells bs Y t l sl σ' u' := by
  have l2 := h0.lt.2.1
  have wq := m.new _ (m.mine q (by simp))
  have wn := m.new _ (m.mine nq (by simp))
  exact m.turn h0 hk (by simp) hr (m.set.keeps hk (by simp; omega)) (m.nums.keeps hk (by simp; omega))
theorem BMid.below (h0 : Rd A text σ0 w) (m : BMid A text w TD TE sz D q nq E n cnt cells bs Y t l sl σ u) (hb : Below u.heap.size u u') : BMid A text w TD TE sz D q nq E n cnt cells bs Y t l sl σ u' :=
  m.turn h0 (Keeps.of_below [] hb) (by simp) (m.rd.below hb) (m.set.keeps (Keeps.of_below [] hb) (by simp)) (m.nums.keeps (Keeps.of_below [] hb) (by simp))
theorem BMid.rowAt (m : BMid A text w TD TE sz D q nq E n cnt cells bs Y t l sl σ u) (o : Obj) : (u.alloc o).ownsRow w.heap.size TE sz sl cnt cells := owns_keeps m.row ((Keeps.refl [] u).alloc o) (by simp)
theorem BMid.boxAt {u2 : World} {o : Obj} (m : BMid A text w TD TE sz D q nq E n cnt cells bs Y t l sl σ u) (hg : (u.alloc o).grownBy u2 sl.ownBlock) : u2.heap[D]? = some (.cells #[.string ⟨n.1.toArray⟩, .int .i64 n.2, sl, .int .i64 0] TD) := by
  have hl := lt_of_heap m.box
  exact (hg.block _ (by simp; omega) (fun e => (m.own _ e.symm).2 (by simp))).trans ((((Keeps.refl [] u).alloc o).block _ hl (by simp)).trans m.box)
theorem BMid.fixAt {u2 : World} {o : Obj} (m : BMid A text w TD TE sz D q nq E n cnt cells bs Y t l sl σ u) (hg : (u.alloc o).grownBy u2 sl.ownBlock) {p : Nat × Obj} (hp : p ∈ E) : u2.heap[p.1]? = some p.2 := by
  have h1 := m.fix p hp
  have hl := lt_of_heap h1
  exact (hg.block _ (by simp; omega) (fun e => (m.own _ e.symm).2 (by simp; exact Or.inr (Or.inr (Or.inr ⟨_, hp⟩))))).trans ((((Keeps.refl [] u).alloc o).block _ hl (by simp)).trans h1)
theorem BMid.step {u2 u3 : World} {g cap : Nat} {news : List Value} {bs' : List (Nat × Obj)} (h0 : Rd A text σ0 w) (e : BMid A text w TD TE sz D q nq E n cnt cells bs Y t l sl σ u) (hh : Held (A.plus Y).X bs' u) (hb : Below u.heap.size u u2)
    (hown : u3.ownsRow w.heap.size TE sz (.slice (some ⟨g, 0, none⟩) (cnt + 1) cap) (cnt + 1) (cells ++ news))
    (hg : u2.grownBy u3 sl.ownBlock) (hat : sl.ownBlock = some g ∨ g = u2.heap.size) (hlt : g < u3.heap.size) :
    BMid A text w TD TE sz D q nq E n (cnt + 1) (cells ++ news) (bs ++ bs') (g :: Y) t l (.slice (some ⟨g, 0, none⟩) (cnt + 1) cap) σ (u3.setCell ⟨D, 2, none⟩ (.slice (some ⟨g, 0, none⟩) (cnt + 1) cap)) := by
  obtain ⟨hwg, _⟩ := owns_lt hown (g := g) rfl
  have e2 := e.below h0 hb
  have hh2 := hh.keeps (Keeps.of_below [] hb) (by simp)
  clear hh
  obtain ⟨d1, d2, d3, d4⟩ := e.apart
  have iD : D ∈ D :: q :: nq :: E.map (·.1) := by simp
  have iq : q ∈ D :: q :: nq :: E.map (·.1) := by simp
  have in' : nq ∈ D :: q :: nq :: E.map (·.1) := by simp
  have wnew : ∀ b ∈ D :: q :: nq :: E.map (·.1), w.heap.size ≤ b := fun b hb => e.new _ (e.mine b hb)
  have hlen : ∀ b ∈ D :: q :: nq :: E.map (·.1), b < u2.heap.size := fun b hb => e2.rd.old b (List.mem_append_left _ (e.mine b hb))
  have k3 := hg.size
  have gl : g ∉ D :: q :: nq :: E.map (·.1) := by
    rcases hat with h | h
    · exact (e.own g h).2
    · intro hm
      have := hlen g hm
      omega
  have hrow : ∀ b, sl.ownBlock = some b → w.heap.size ≤ b ∧ b ∈ (A.plus Y).X := fun b hb => ⟨e.new _ (e.own b hb).1, List.mem_append_left _ (e.own b hb).1⟩
  have hkg := keeps_grown hg
  have hks : Keeps [D] u3 (u3.setCell ⟨D, 2, none⟩ (.slice (some ⟨g, 0, none⟩) (cnt + 1) cap)) := (Keeps.refl [D] u3).setIn (by simp) _
  have rl : ∀ b ∈ D :: q :: nq :: E.map (·.1), b ∉ sl.ownBlock.toList := by
    intro b hb hm
    exact (e.own b (by simpa using hm)).2 hb
  have hgX : ∀ b, sl.ownBlock = some b → b ∈ (A.plus Y).X := fun b hb => (hrow b hb).2
  have hDX : ∀ x ∈ [D], x ∈ (A.plus (g :: Y)).X := by
    intro x hx
    simp only [List.mem_singleton] at hx
    subst hx
    exact List.mem_append_left _ (List.mem_cons_of_mem _ (e.mine _ iD))
  refine ⟨?_, ?_, fun b hb => List.mem_cons_of_mem _ (e.mine b hb), e.nd, ?_, ?_, ?_, ?_, ?_, ?_, ?_, ?_⟩
  · refine (e2.kp.young hkg ?_).young hks ?_
    · intro m hm
      exact Or.inr (hrow m (by simpa using hm)).1
    · intro m hm
      simp only [List.mem_singleton] at hm
      subst hm
      exact Or.inr (wnew _ iD)
  · exact h0.young (Same.plus A (g :: Y)) (Rd.grow h0 (Same.plus A Y) e2.rd hg hrow hat hlt) hks (by
      intro x hx
      exact ⟨by simp only [List.mem_singleton] at hx; subst hx; exact wnew _ iD, hDX x hx⟩)
  · intro y hy
    rcases List.mem_cons.1 hy with rfl | hy
    · exact hwg
    · exact e.new y hy
  · intro g' h'
    simp only [Value.ownBlock, Option.some.injEq] at h'
    subst h'
    exact ⟨List.mem_cons_self, gl⟩
  · exact (e2.set.keeps hkg (rl _ iq)).keeps hks (by simp; omega)
  · exact (e2.nums.keeps hkg (rl _ in')).keeps hks (by simp; omega)
  · exact setBlock (i := 2) ((hkg.block _ (hlen _ iD) (rl _ iD)).trans e2.box) _
  · intro p hp
    have hm : p.1 ∈ D :: q :: nq :: E.map (·.1) := by simp; exact Or.inr (Or.inr (Or.inr ⟨_, hp⟩))
    have hl := hlen _ hm
    exact (hks.block _ (by omega) (by simp; exact (d4 p hp).1)).trans ((hkg.block _ hl (rl _ hm)).trans (e2.fix p hp))
  · exact owns_keeps hown hks (by
      intro g' h'
      simp only [Value.ownBlock, Option.some.injEq] at h'
      subst h'
      intro hm
      simp only [List.mem_singleton] at hm
      exact gl (hm ▸ iD))
  · exact ((e2.held.app hh2).grow hg hgX hat).keeps hks hDX
theorem BMid.lies (m : BMid A text w TD TE sz D q nq E n cnt cells bs Y t l sl σ u) (hle : cnt ≤ 1000) (hc : cells.length = cnt * sz) (hz : cnt = 0 → cells = []) : ∃ bs', SliceIn bs' TE sl cnt cells ∧ ∀ p ∈ bs', u.heap[p.1]? = some p.2 ∧ w.heap.size ≤ p.1 ∧ p.1 ≠ D := by
  rcases m.row.2 with ⟨rfl, h⟩ | ⟨g, cap, cur, rfl, hg1, hg2, hg3, hg4, hg5, hg6⟩
  · exact ⟨[], Or.inl ⟨rfl, h, hz h⟩, by simp⟩
  · refine ⟨[(g, .cells cur TE)], Or.inr ⟨g, cap, cur, rfl, ⟨hg3, hle⟩, by simp, ?_⟩, ?_⟩
    · rw [hc]
      exact hg6
    · intro p hp
      simp only [List.mem_singleton] at hp
      subst hp
      exact ⟨hg2, hg1, fun e => (m.own g rfl).2 (by simp only at e; rw [e]; simp)⟩
end
end Go.Proofs.YtmbcibgknckenaaGreatDoor
set_option linter.all false
set_option maxRecDepth 100000
set_option maxHeartbeats 4000000
namespace Go.Proofs.YtmbcibgknckenaaGreatDoor
open Go.RowKit
open Go.MapKept
theorem infoProc : (Tryz.prog.info? 342).map (fun i => (i.zero, i.size, i.bytes)) = some (some (.agg #[.string ⟨#[]⟩, .int .i64 0, .nilIface, .nilIface, .int .i64 0]), 5, 64) := by kernel_rfl
def vsPiece (text : ByteArray) : PX (List ProcL × UnSt) Unit := fun p σ => match procP text p.2 σ with
  | .ok (d, s', σ') => .ok ((), (p.1 ++ [d], s'), σ')
  | .error f => .error f
theorem vsPiece_ok {text : ByteArray} {ps : List ProcL} {s s' : UnSt} {σ σ' : St} {d : ProcL} (h : procP text s σ = .ok (d, s', σ')) : vsPiece text (ps, s) σ = .ok ((), (ps ++ [d], s'), σ') := by simp only [vsPiece, h]
theorem vsPiece_err {text : ByteArray} {ps : List ProcL} {s : UnSt} {σ : St} {f : Mar.Fault} (h : procP text s σ = .error f) : vsPiece text (ps, s) σ = .error f := by simp only [vsPiece, h]
structure VsAd where
  VB : Nat
  rb : Nat
  cb : Nat
  nb : Nat
  q : Nat
  nq : Nat
  bx : Nat
abbrev VsAd.E (a : VsAd) : List (Nat × Obj) := [(a.cb, .cells #[(amongC a.q a.bx).v] 270), (a.nb, .cells #[.map (some a.nq)] 105)]
def vsJ (A : Ad) (text : ByteArray) (w : World) (a : VsAd) (n : List UInt8 × Nat) (k : Nat) (Y : List Nat) (p : List ProcL × UnSt) (σ : St) (u : World) : Prop := p.1.length = k ∧
  ∃ sl, BMid A text w 296 342 5 a.VB a.q a.nq a.E n p.1.length (p.1.flatMap procC) (amongC a.q a.bx).bs Y p.2.1 p.2.2 sl σ u
theorem procedure_at {A' A : Ad} (hA : Same A' A) {text : ByteArray} {σ : St} {q bx nq : Nat} {t : List (List UInt8)} {l : List (Int × Int)} {w : World} (h : Rd A' text σ w) (hq : Free A' q) (hn : Free A' nq) (hne : q ≠ nq) (hs : SetAt q t w) (hcl : Held A'.X (amongC q bx).bs w) (hl : NumsAt nq l w) :
    Calls Tryz.prog 169 #[.pointer (some ⟨A.R, 0, none⟩), (amongC q bx).v, .map (some nq)] w (GivesQ A' text w q nq (procP text (t, l) σ) fun p => .agg (procC p).toArray) := by
  have := procedure_any h hq hn hne hs hcl hl
  rw [hA.1] at this
  exact this
theorem one_proc (d : ProcL) : ∀ u ∈ procC d, u.oneCell' = true := by
  intro u hu
  simp at hu
  rcases hu with rfl | rfl | rfl | rfl | rfl
  · rfl
  · rfl
  · obtain ⟨T, v, h⟩ := tyV_iface d.res; rw [h]; rfl
  · obtain ⟨T, v, h⟩ := tyV_iface d.arg; rw [h]; rfl
  · rfl
theorem frozen4 {b : Nat} {k t a c : Value} {T : TypeId} {w : World} (h : w.heap[b]? = some (.cells #[k, t, a, c] T)) : ∀ i, w.frozen? ⟨b, i, none⟩ = false := by
  intro i
  simp [World.frozen?, h]
theorem version1_any {A : Ad} {text : ByteArray} {w u : World} {a : VsAd} {n : List UInt8 × Nat} {k : Nat} {Y : List Nat} {ps : List ProcL} {s : UnSt} {σ σ0 : St} (h0 : Rd A text σ0 w) (hrb : w.heap[a.rb]? = some (.cells #[.pointer (some ⟨A.R, 0, none⟩)] 101)) (hrf : a.rb ∉ [A.R, A.S, A.N]) (hk : k < 1000) (h : vsJ A text w a n k Y (ps, s) σ u) :
    Calls Tryz.prog 168 #[.pointer (some ⟨a.VB, 0, none⟩), .pointer (some ⟨a.rb, 0, none⟩), .pointer (some ⟨a.cb, 0, none⟩), .pointer (some ⟨a.nb, 0, none⟩)] u (GivesO A w (vsJ A text w a n (k + 1)) (vsPiece text (ps, s) σ)) := by
  obtain ⟨hlen, sl, hm⟩ := h
  obtain ⟨t, l⟩ := s
  dsimp only at hlen hm
  have HL := Hid.mk hlen
  have hds : ps.length < 1000 := by omega
  clear hlen
  obtain ⟨ad, cap, rfl⟩ := hm.slice
  obtain ⟨i0, hi0, hz0, hz1, hz2⟩ := info_parts infoProc
  have hlr := lt_of_heap hrb
  have hvr := fun (v : World) (hk : Keeps [A.R, A.S, A.N] w v) => bound1 ((hk.block _ hlr hrf).trans hrb)
  have HV := Hid.mk hvr
  obtain ⟨x0, x1, x2, x3⟩ := bound4 hm.box
  have r0 := hvr _ hm.kp
  have c0 := bound1 (hm.fix (a.cb, .cells #[(amongC a.q a.bx).v] 270) (by simp [VsAd.E]))
  have n0 := bound1 (hm.fix (a.nb, .cells #[.map (some a.nq)] 105) (by simp [VsAd.E]))
  have hbd : Below u.heap.size u u.drew := (Below.refl _ _).drew
  have MD := Hid.mk (hm.below h0 hbd)
  have HC := Hid.mk (procedure_at (bx := a.bx) (Same.plus A Y) MD.out.rd (MD.out.free h0 (MD.out.mine a.q (by simp))) (MD.out.free h0 (MD.out.mine a.nq (by simp))) MD.out.apart.2.2.1 MD.out.set MD.out.held MD.out.nums)
  have hl1 : ps.length + 1 ≤ maxLen := by unfold maxLen; omega
  have hl2 : (ps.length + 1) * 64 ≤ 140737488355328 := by omega
  have hz3 : (Value.agg #[.string ⟨#[]⟩, .int .i64 0, .nilIface, .nilIface, .int .i64 0]).cells.size = 5 := by decide
  clear hm hvr
  go_enter Tryz.func168, Tryz.ntmps168
  go_wp2_with fail
  refine region_last (fun w' => w'.cell? ⟨a.VB, 2, none⟩ = some (.slice ad ps.length cap) ∧ w'.cell? ⟨a.rb, 0, none⟩ = some (.pointer (some ⟨A.R, 0, none⟩)) ∧ w'.cell? ⟨a.cb, 0, none⟩ = some (amongC a.q a.bx).v ∧ w'.cell? ⟨a.nb, 0, none⟩ = some (.map (some a.nq))) (L := 9) (by kernel_rfl) rfl (by kernel_rfl) (by kernel_rfl) ?_ (fun hHeld => ?_)
  · go_keep
  refine tk (i := 0) (v := ?_) rfl (by kernel_rfl) (fun _ _ _ h => h) (by rfl) (by assumption) ?_ ?_
  rotate_left
  · intro w hSw; (try dsimp only at hSw); go_simp; (try with_reducible rfl)
  (try simp only [put_l, put_z, List.set])
  refine tk (i := 1) (v := ?_) rfl (by kernel_rfl) (fun _ _ _ h => h) (by rfl) (by assumption) ?_ ?_
  rotate_left
  · intro w hSw; (try dsimp only at hSw); go_simp; (try with_reducible rfl)
  (try simp only [put_l, put_z, List.set])
  refine tk (i := 2) (v := ?_) rfl (by kernel_rfl) (fun _ _ _ h => h) (by rfl) (by assumption) ?_ ?_
  rotate_left
  · intro w hSw; (try dsimp only at hSw); go_simp; (try with_reducible rfl)
  (try simp only [put_l, put_z, List.set])
  refine tk (i := 3) (v := ?_) rfl (by kernel_rfl) (fun _ _ _ h => h) (by rfl) (by assumption) ?_ ?_
  rotate_left
  · intro w hSw; (try dsimp only at hSw); go_simp; (try with_reducible rfl)
  (try simp only [put_l, put_z, List.set])
  refine tk (i := 4) (v := ?_) rfl (by kernel_rfl) (fun _ _ _ h => h) (by rfl) (by assumption) ?_ ?_
  rotate_left
  · intro w hSw; (try dsimp only at hSw); go_simp; (try with_reducible rfl)
  (try simp only [put_l, put_z, List.set])
  refine wpAnyH_ready (rs := [5]) (by kernel_rfl) (by simp) ?_
  refine AllReadyH.cons rfl (fun K hK => ?_) AllReadyH.nil
  (go_simp; go_at_call 169; refine HC.out.mono ?_; rintro e w5 ⟨hk5, ⟨d, t5, l5, σ5, hx5, rfl, hr5, hs5, hn5⟩ | ⟨f, hx5, b, hbb, rfl, hcell⟩⟩; rotate_left; exact bodyPost_panics (GivesO.throws (MD.out.kp.young hk5 (by intro x hx; have := MD.out.new _ (MD.out.mine a.q (by simp)); have := MD.out.new _ (MD.out.mine a.nq (by simp)); simp [Ad.plus] at hx ⊢; omega)) MD.out.kp (vsPiece_err hx5) hbb hcell); have M5 := Hid.mk (MD.out.turn h0 hk5 (by intro x hx; simpa [Ad.plus] using hx) hr5 hs5 hn5); obtain ⟨y0, y1, y2, y3⟩ := bound4 M5.out.box; have r5 := HV.out _ M5.out.kp; have c5 := bound1 (M5.out.fix (a.cb, .cells #[(amongC a.q a.bx).v] 270) (by simp [VsAd.E])); have n5 := bound1 (M5.out.fix (a.nb, .cells #[.map (some a.nq)] 105) (by simp [VsAd.E])); have lb5 := lt_of_heap M5.out.box; have lr5 := Nat.lt_of_lt_of_le hlr M5.out.kp.size; have lc5 := lt_of_heap (M5.out.fix (a.cb, .cells #[(amongC a.q a.bx).v] 270) (by simp [VsAd.E])); have ln5 := lt_of_heap (M5.out.fix (a.nb, .cells #[.map (some a.nq)] 105) (by simp [VsAd.E])); have hwl := M5.out.kp.size; dsimp only [procC, nameC, List.append_toArray, List.cons_append, List.nil_append])
  refine hK.out _ _ ?_ (fun hHeld => ?_)
  · go_keep
  clear hK K
  (try simp only [put_l, put_z, List.set])
  refine wpAnyH_ready (rs := [6]) (by kernel_rfl) (by simp) ?_
  refine AllReadyH.cons rfl (fun K hK => ?_) AllReadyH.nil
  go_simp
  refine hK.out _ _ ?_ (fun hHeld => ?_)
  · go_keep
  clear hK K
  (try simp only [put_l, put_z, List.set])
  refine wpAnyH_ready (rs := [7]) (by kernel_rfl) (by simp) ?_
  refine AllReadyH.cons rfl (fun K hK => ?_) AllReadyH.nil
  (refine step_append_lies _ (by rfl) _ _ _ (by rfl) w.heap.size 342 i0 _ 5 64 Tryz.underlying294 hi0 hz0 hz1 hz2 hz3 (by omega) (.slice ad ps.length cap) ps.length (ps.flatMap procC) (by rfl) (M5.out.rowAt _) ⟨w5.heap.size, 0, none⟩ 1 1 (procC d) (by rfl) (by rfl) (World.news_of_block (cs := (procC d).toArray) (t := 342) (fr := (0, 0)) (heap_alloc_new w5 _)) (one_proc d) (by omega) hl1 hl2 (by simp; omega) (w5.heap.size + 1) (by simp) ?_; intro g cap' w6 hown6 hgrow hat hlt; obtain ⟨z0, z1, z2, z3⟩ := bound4 (M5.out.boxAt hgrow); have hfz := frozen4 (M5.out.boxAt hgrow); have c6 := bound1 (M5.out.fixAt hgrow (p := (a.cb, .cells #[(amongC a.q a.bx).v] 270)) (by simp [VsAd.E])); have n6 := bound1 (M5.out.fixAt hgrow (p := (a.nb, .cells #[.map (some a.nq)] 105)) (by simp [VsAd.E])); have r6 : w6.cell? ⟨a.rb, 0, none⟩ = some (.pointer (some ⟨A.R, 0, none⟩)) := HV.out _ (((M5.out.kp.alloc _)).young (keeps_grown hgrow) (by intro x hx; have h1 := M5.out.own x (by simpa using hx); exact Or.inr (M5.out.new _ h1.1))))
  refine hK.out _ _ ?_ (fun hHeld => ?_)
  · go_keep
  clear hK K
  (try simp only [put_l, put_z, List.set])
  refine tk (i := 8) (v := ?_) rfl (by kernel_rfl) (fun _ _ _ h => h) (by rfl) (by assumption) ?_ ?_
  rotate_left
  · intro w hSw; (try dsimp only at hSw); go_simp; (try with_reducible rfl)
  (try simp only [put_l, put_z, List.set])
  refine wpAnyH_done (by kernel_rfl) ?_ _
  refine last_step rfl (fun K hK => ?_)
  go_simp
  refine hK.out _ _ ?_
  clear hK K
  (try simp only [put_l, put_z, List.set])
  have M6 := BMid.step (bs' := []) h0 M5.out (by intro p hp; cases hp) ((Below.refl w5.heap.size w5).alloc (Nat.le_refl _) _) hown6 hgrow (by simpa using hat) hlt
  go_wp2
  go_end0
  refine Or.inl ⟨g :: Y, (ps ++ [d], (t5, l5)), σ5, vsPiece_ok hx5, rfl, by simp [HL.out], .slice (some ⟨g, 0, none⟩) (ps.length + 1) cap', ?_⟩
  simpa using M6
end Go.Proofs.YtmbcibgknckenaaGreatDoor
set_option linter.all false
set_option maxRecDepth 100000
set_option maxHeartbeats 4000000
namespace Go.Proofs.YtmbcibgknckenaaGreatDoor
open Go.RowKit
open Go.MapKept
theorem version1_enters (args : Array Value) (u : World) : (callFunc 168 args).run Tryz.prog u = .ok (.enter 168 args) u := by kernel_rfl
def vsOne {A : Ad} {text : ByteArray} {σ0 : St} {w : World} (h0 : Rd A text σ0 w) (a : VsAd) (hrb : w.heap[a.rb]? = some (.cells #[.pointer (some ⟨A.R, 0, none⟩)] 101)) (hrf : a.rb ∉ [A.R, A.S, A.N]) (n : List UInt8 × Nat) : One (List ProcL × UnSt) A text w 8 where
  f := 168
  cap := #[.pointer (some ⟨a.VB, 0, none⟩), .pointer (some ⟨a.rb, 0, none⟩), .pointer (some ⟨a.cb, 0, none⟩), .pointer (some ⟨a.nb, 0, none⟩)]
  run := vsPiece text
  J := vsJ A text w a n
  enters := version1_enters
  rd := by rintro _ _ _ _ _ ⟨_, _, m⟩; exact m.rd
  kp := by rintro _ _ _ _ _ ⟨_, _, m⟩; exact m.kp
  scan := by rintro _ _ _ _ _ _ _ ⟨h, sl, m⟩ hk hr; exact ⟨h, sl, m.scan h0 hk hr⟩
  call := by
    intro k Y t σ u hk h
    exact version1_any h0 hrb hrf (by omega) h
def versionK (text : ByteArray) (n : List UInt8 × Nat) : PX UnSt VersionL := bndx (lift (runx (block text 8 (vsPiece text)) ([], ([], [])))) fun p => bndx (onR (ending text)) fun k => retx ⟨n.1, n.2, p.1, k⟩
def versionP (text : ByteArray) : PX UnSt VersionL := bndx (lift (expect text [118, 101, 114, 115, 105, 111, 110])) fun _ => bndx (onL (name text (amongC 0 0))) (versionK text)
def GivesV (A : Ad) (text : ByteArray) (w : World) (q nq : Nat) (r : Except Mar.Fault (VersionL × UnSt × St)) (e : Ending) (w' : World) : Prop :=
  Keeps [A.R, A.S, A.N, q, nq] w w' ∧ ((∃ v t l σ' sl bs, r = .ok (v, (t, l), σ') ∧ e = .returned (.agg #[.string ⟨v.t.toArray⟩, .int .i64 v.at', sl, .int .i64 v.num]) ∧ Rd A text σ' w' ∧ SetAt q t w' ∧ NumsAt nq l w' ∧ SliceIn bs 342 sl v.procs.length (v.procs.flatMap procC) ∧ Held A.X bs w') ∨ (∃ f, r = .error f ∧ Thrown w f.no f.at' e w'))
theorem GivesV.throws {A : Ad} {M' : List Nat} {text : ByteArray} {w w1 w' : World} {q nq : Nat} {r : Except Mar.Fault (VersionL × UnSt × St)} {f : Mar.Fault} {b : Nat}
    (hk : Keeps [A.R, A.S, A.N, q, nq] w w') (hk1 : Keeps M' w w1) (hr : r = .error f) (hb : w1.heap.size ≤ b) (hc : w'.heap[b]? = some (.cells #[.int .i64 f.no, .int .i64 f.at'] 83)) :
    GivesV A text w q nq r (.panicked [{ v := .iface 79 (.pointer (some ⟨b, 0, none⟩)), recovered := false }]) w' := ⟨hk, Or.inr ⟨f, hr, b, Nat.le_trans hk1.size hb, rfl, hc⟩⟩
theorem len_procC : ∀ ps : List ProcL, (ps.flatMap procC).length = ps.length * 5 := by
  intro ps
  induction ps with
  | nil => rfl
  | cons d ds ih => simp only [List.flatMap_cons, List.length_append, List.length_cons, ih]; simp; omega
theorem version_any {A : Ad} {text : ByteArray} {σ : St} {q bx nq : Nat} {t : List (List UInt8)} {l : List (Int × Int)} {w : World} (h : Rd A text σ w) (hq : Free A q) (hn : Free A nq) (hne : q ≠ nq) (hs : SetAt q t w) (hcl : Held A.X (amongC q bx).bs w) (hl : NumsAt nq l w) :
    Calls Tryz.prog 137 #[.pointer (some ⟨A.R, 0, none⟩), (amongC q bx).v, .map (some nq)] w (GivesV A text w q nq (versionP text (t, l) σ)) := by
  have hmf : ∀ (fn : Fn) (first cap : Array Value) (w : World), (Instr.makeFunc fn first cap).run Tryz.prog w = .ok (.func fn first cap) w := fun _ _ _ _ => rfl
  have hmm : ∀ (t : TypeId) (w : World), (Instr.makeMap t none).run Tryz.prog w = .ok (.map (some w.heap.size)) (w.alloc (.map #[] 0)) := fun _ _ => rfl
  have Q0 : QMid A text w q bx nq [] [] t l σ w := ⟨Keeps.refl _ _, h, by simp, hs, hcl, hl, by simp⟩
  have hs1 : (w.alloc (.cells #[.pointer (some ⟨A.R, 0, none⟩)] 101)).heap.size = w.heap.size + 1 := by simp
  have Q1' := (Q0.alloc (.cells #[.pointer (some ⟨A.R, 0, none⟩)] 101)).alloc (.cells #[.string ⟨#[]⟩, .int .i64 0, .slice none 0 0, .int .i64 0] 296)
  rw [hs1] at Q1'
  have Q1 := Hid.mk Q1'
  have rb1 := bound1 (Q1'.box (w.heap.size, .cells #[.pointer (some ⟨A.R, 0, none⟩)] 101) (by simp)).1
  clear Q0 Q1' hs1
  go_enter Tryz.func137, Tryz.ntmps137
  go_wp2_with fail
  refine (expect_at (Same.plus A _) _ Q1.out.rd).mono ?_
  rintro e w2 ⟨hk2, ⟨x2, σ2, hx2, rfl, hr2⟩ | ⟨f, hx2, b, hbb, rfl, hcell⟩⟩
  rotate_left
  · exact bodyPost_panics (GivesV.throws (Q1.out.kp.trans (hk2.mono (by simp))) Q1.out.kp (bndx_err (lift_err hx2)) hbb hcell)
  have Q2 := Hid.mk (Q1.out.scan h hq hn hk2 hr2)
  have rb2 := bound1 (Q2.out.box (w.heap.size, .cells #[.pointer (some ⟨A.R, 0, none⟩)] 101) (by simp)).1
  clear hk2 hr2 Q1 rb1
  go_wp2_with fail
  refine (claim_at (bx := bx) (Same.plus A _) (hq.plus _) Q2.out.rd Q2.out.set Q2.out.cl).mono ?_
  rintro e w3 ⟨hk3, ⟨n, t3, σ3, hx3, rfl, hr3, hs3⟩ | ⟨f, hx3, b, hbb, rfl, hcell⟩⟩
  rotate_left
  · exact bodyPost_panics (GivesV.throws (Q2.out.kp.trans (hk3.mono (by simp))) Q2.out.kp ((bndx_ok (lift_ok hx2)).trans (bndx_err (onL_err hx3))) hbb hcell)
  have Q3 := Hid.mk (Q2.out.claimed h hq hn hne hk3 hr3 hs3)
  have E3 : Hid (versionP text (t, l) σ = versionK text n (t3, l) σ3) := (bndx_ok (lift_ok hx2)).trans (bndx_ok (onL_ok hx3))
  have hrb3 := (Q3.out.box (w.heap.size, .cells #[.pointer (some ⟨A.R, 0, none⟩)] 101) (by simp)).1
  clear hk3 hr3 hs3 Q2 rb2 hx2 hx3
  dsimp only [nameV]
  go_wp2_with fail
  refine (among_any _).mono ?_
  rintro e w5 ⟨q', bx', rfl, hq', hbx', hqb', hI', hb5, hx5⟩
  dsimp only [Claim.v, amongC]
  have hs4 : (w3.alloc (.cells #[.string ⟨n.1.toArray⟩, .int .i64 n.2, .slice none 0 0, .int .i64 0] 296)).heap.size = w3.heap.size + 1 := by simp
  have l3 := lt_of_heap hrb3
  have hlq : q' < w5.heap.size := by
    obtain ⟨_, _, _, hm⟩ := id hI'
    exact lt_of_heap hm
  have hlx := lt_of_heap hx5
  have hz5 := hb5.size
  have hk5 := Keeps.of_below [] hb5
  have hv5 := (hk5.block _ (by omega) (by simp)).trans (heap_alloc_at (w := w3) (o := .cells #[.string ⟨n.1.toArray⟩, .int .i64 n.2, .slice none 0 0, .int .i64 0] 296) rfl)
  have hr5 := (Q3.out.rd.own (.cells #[.string ⟨n.1.toArray⟩, .int .i64 n.2, .slice none 0 0, .int .i64 0] 296)).take hb5 hq' hlq
  obtain ⟨W6, hW6⟩ : ∃ W6, W6 = ((w5.alloc (.map #[] 0)).alloc (.cells #[(amongC q' bx').v] 270)).alloc (.cells #[.map (some w5.heap.size)] 105) := ⟨_, rfl⟩
  have hs5 : (w5.alloc (.map #[] 0)).heap.size = w5.heap.size + 1 := by simp
  have hs6 : ((w5.alloc (.map #[] 0)).alloc (.cells #[(amongC q' bx').v] 270)).heap.size = w5.heap.size + 2 := by simp
  have hr6 := ((hr5.own (.map #[] 0)).own (.cells #[(amongC q' bx').v] 270)).own (.cells #[.map (some w5.heap.size)] 105)
  rw [hs5, hs6, ← hW6] at hr6
  have k56 : Keeps [] w5 W6 := by rw [hW6]; exact (((Keeps.refl [] w5).alloc _).alloc _).alloc _
  have hm6 : W6.heap[w5.heap.size]? = some (.map #[] 0) := by
    rw [hW6]
    exact ((((Keeps.refl [] _).alloc _).alloc _).block _ (by rw [hs5]; omega) (by simp)).trans (heap_alloc_at rfl)
  have hc6 : W6.heap[w5.heap.size + 1]? = some (.cells #[(amongC q' bx').v] 270) := by
    rw [hW6]
    exact (((Keeps.refl [] _).alloc _).block _ (by rw [hs6]; omega) (by simp)).trans (heap_alloc_at hs5.symm)
  have hn6 : W6.heap[w5.heap.size + 2]? = some (.cells #[.map (some w5.heap.size)] 105) := by
    rw [hW6]
    exact heap_alloc_at hs6.symm
  have kb6 : Keeps [] w3 W6 := (((Keeps.refl [] w3).alloc _).trans hk5).trans k56
  have hrf : w.heap.size ∉ [A.R, A.S, A.N] := by obtain ⟨l1, l2, l3, l4⟩ := h.lt; simp; omega
  have M6 : Hid (BMid (A.plus [w.heap.size + 1, w.heap.size]) text w3 296 342 5 w3.heap.size q' w5.heap.size [(w5.heap.size + 1, .cells #[(amongC q' bx').v] 270), (w5.heap.size + 2, .cells #[.map (some w5.heap.size)] 105)] n 0 [] (amongC q' bx').bs [w5.heap.size + 2, w5.heap.size + 1, w5.heap.size, q', w3.heap.size] [] [] (.slice none 0 0) σ3 W6) := by
    refine ⟨kb6.mono (by simp), hr6, ?_, ?_, ?_, (by intro g hg; cases hg), ?_, hm6, (k56.block _ (lt_of_heap hv5) (by simp)).trans hv5, ?_, ⟨rfl, Or.inl ⟨rfl, rfl⟩⟩, ?_⟩
    · intro b hb
      simp at hb ⊢
      omega
    · simp
      omega
    · intro y hy
      simp at hy
      omega
    · have hI2 : SetAt q' [] w5 := hI'
      exact hI2.keeps k56 (by simp)
    · intro p hp
      simp only [List.mem_cons, List.not_mem_nil, or_false] at hp
      rcases hp with rfl | rfl
      · exact hc6
      · exact hn6
    · intro p hp
      simp only [amongC, List.mem_singleton] at hp
      subst hp
      refine ⟨(k56.block _ hlx (by simp)).trans hx5, ?_⟩
      have h1 := Q3.out.kp.size
      have h2 : w.heap.size + 1 < w3.heap.size := lt_of_heap (Q3.out.box (w.heap.size + 1, .cells #[.string ⟨#[]⟩, .int .i64 0, .slice none 0 0, .int .i64 0] 296) (by simp)).1
      simp [Ad.plus]
      refine ⟨by omega, by omega, by omega, by omega, by omega, by omega, by omega, ?_⟩
      intro hm
      have := h.old _ hm
      omega
  have rb6 := bound1 ((kb6.block _ l3 (by simp)).trans hrb3)
  rw [hW6] at rb6
  clear hr6 hr5 hm6 hc6 hn6 hv5 hI' hx5 hb5 hk5 k56 hlq hlx hq' hbx' hqb'
  dsimp only [Claim.v, amongC] at rb6
  go_wp2_with fail
  rw [show ((w5.alloc (.map #[] 0)).alloc (.cells #[.func (.func 164) #[] #[.pointer (some ⟨bx', 0, none⟩)]] 270)).alloc (.cells #[.map (some w5.heap.size)] 105) = W6 from hW6.symm]
  have HJ : vsJ (A.plus [w.heap.size + 1, w.heap.size]) text w3 ⟨w3.heap.size, w.heap.size, w5.heap.size + 1, w5.heap.size + 2, q', w5.heap.size, bx'⟩ n 0 [w5.heap.size + 2, w5.heap.size + 1, w5.heap.size, q', w3.heap.size] ([], ([], [])) σ3 W6 := ⟨rfl, _, M6.out⟩
  refine (block_any 8 (vsOne Q3.out.rd ⟨w3.heap.size, w.heap.size, w5.heap.size + 1, w5.heap.size + 2, q', w5.heap.size, bx'⟩ hrb3 hrf n) (by omega) HJ).mono ?_
  rintro e w6 (⟨Y6, ⟨ps, t6, l6⟩, σ6, hx6, rfl, k6, hk6, hlen, sl, hM6⟩ | ⟨f, hx6, hk6, b, hbb, rfl, hcell⟩)
  rotate_left
  · exact bodyPost_panics (GivesV.throws (Q3.out.kp.trans (hk6.mono (by simp [Ad.plus]))) Q3.out.kp (E3.out.trans (bndx_err (lift_err (runx_err hx6)))) hbb hcell)
  dsimp only at hlen hM6
  have hps : ps.length ≤ 8 := by omega
  clear hlen hk6
  have hA6 : Same ((A.plus [w.heap.size + 1, w.heap.size]).plus Y6) A := ⟨rfl, rfl, rfl, rfl⟩
  have hK6 : Keeps [A.R, A.S, A.N] w3 w6 := hM6.kp
  have rb7 := bound1 ((hK6.block _ l3 hrf).trans hrb3)
  have hnq : nq ∉ [A.R, A.S, A.N] := by simp; exact ⟨hn.2.1, hn.2.2.1, hn.2.2.2.1⟩
  have hqq : q ∉ [A.R, A.S, A.N] := by simp; exact ⟨hq.2.1, hq.2.2.1, hq.2.2.2.1⟩
  have hnu6 := Q3.out.nums.keeps hK6 hnq
  have hfq : Free ((A.plus [w.heap.size + 1, w.heap.size]).plus Y6) nq := (hn.plus _).plus _
  have HM6 := Hid.mk hM6
  clear M6 HJ rb6 hW6 kb6 hs4 hs5 hs6
  go_wp2_with fail
  refine (ending_at hA6 HM6.out.rd hfq hnu6).mono ?_
  rintro e w7 ⟨hk7, ⟨k, l7, σ7, hx7, rfl, hr7, hl7⟩ | ⟨f, hx7, b, hbb, rfl, hcell⟩⟩
  rotate_left
  · exact bodyPost_panics (GivesV.throws ((Q3.out.kp.trans (hK6.mono (by simp))).trans (hk7.mono (by simp))) (Q3.out.kp.trans (hK6.mono (M' := [A.R, A.S, A.N, q, nq]) (by simp))) (E3.out.trans ((bndx_ok (lift_ok (runx_ok hx6))).trans (bndx_err (onR_err hx7)))) hbb hcell)
  have hlS := h.lt.2.1
  have hln := h.old _ hn.1
  have hlq := h.old _ hq.1
  have hRB3 := (Q3.out.box (w.heap.size + 1, .cells #[.string ⟨#[]⟩, .int .i64 0, .slice none 0 0, .int .i64 0] 296) (by simp)).1
  have lRB := lt_of_heap hRB3
  have hRf : w.heap.size + 1 ∉ [A.R, A.S, A.N] := by obtain ⟨l1, l2, l3, l4⟩ := h.lt; simp; omega
  have hRB6 := (hK6.block _ lRB hRf).trans hRB3
  have hRB7 := (hk7.block _ (lt_of_heap hRB6) (by simp; omega)).trans hRB6
  have hVB7 := (hk7.block _ (lt_of_heap HM6.out.box) (by simp; omega)).trans HM6.out.box
  obtain ⟨r0, r1, r2, r3⟩ := bound4 hRB7
  have hfr := frozen4 hRB7
  obtain ⟨v0, v1, v2, v3⟩ := bound4 hVB7
  have hfv := frozen4 hVB7
  obtain ⟨ad, cap, rfl⟩ := HM6.out.slice
  have E7 : Hid (versionP text (t, l) σ = .ok (⟨n.1, n.2, ps, k⟩, (t3, l7), σ7)) := E3.out.trans ((bndx_ok (lift_ok (runx_ok hx6))).trans ((bndx_ok (onR_ok hx7)).trans rfl))
  have hne1 : ¬ w3.heap.size = w.heap.size + 1 := by omega
  have hne2 : ¬ w.heap.size + 1 = w3.heap.size := by omega
  have HK7 := Hid.mk hk7
  have HR7 := Hid.mk hr7
  have HL7 := Hid.mk hl7
  clear hk7 hr7 hl7 E3 hRB3 hRB6 hnu6 rb7 hRB7 hVB7
  dsimp only [intV]
  go_wp2
  have kf := ((((Keeps.refl [w3.heap.size, w.heap.size + 1] w7).setIn (p := ⟨w3.heap.size, 3, none⟩) (by simp) (.int .i64 k)).setIn (p := ⟨w.heap.size + 1, 0, none⟩) (by simp) (.string ⟨n.1.toArray⟩)).setIn (p := ⟨w.heap.size + 1, 1, none⟩) (by simp) (.int .i64 n.2)).setIn (p := ⟨w.heap.size + 1, 2, none⟩) (by simp) (.slice ad ps.length cap) |>.setIn (p := ⟨w.heap.size + 1, 3, none⟩) (by simp) (.int .i64 k)
  obtain ⟨bs, hsl, hbs⟩ := HM6.out.lies (by omega) (len_procC ps) (by intro h; rw [List.length_eq_zero_iff.1 h]; rfl)
  have hrf7 := h.young hA6 HR7.out kf (by
    intro x hx
    simp only [List.mem_cons, List.not_mem_nil, or_false] at hx
    rcases hx with rfl | rfl
    · exact ⟨by omega, List.mem_append_left _ (HM6.out.mine _ (by simp))⟩
    · exact ⟨by omega, List.mem_append_right _ (by simp [Ad.plus])⟩)
  have hrA := Rd.dropAll h.mine (Rd.dropAll Q3.out.rd.mine hrf7)
  refine bodyPost_ret (v := .agg #[.string ⟨n.1.toArray⟩, .int .i64 n.2, .slice ad ps.length cap, .int .i64 k]) (by simp [results, Tryz.results137, go_sem, r0, r1, r2, r3, v0, v1, v2, v3]) rfl ⟨?_, Or.inl ⟨⟨n.1, n.2, ps, k⟩, t3, l7, σ7, .slice ad ps.length cap, bs, E7.out, rfl, hrA, ?_, ?_, hsl, ?_⟩⟩
  · refine (((Q3.out.kp.trans (hK6.mono (by simp))).trans (HK7.out.mono (by simp))).young kf ?_)
    intro x hx
    simp only [List.mem_cons, List.not_mem_nil, or_false] at hx
    exact Or.inr (by omega)
  · exact ((Q3.out.set.keeps hK6 hqq).keeps HK7.out (by simp; exact ⟨hq.2.2.1, hne⟩)).keeps kf (by simp; omega)
  · exact HL7.out.keeps kf (by simp; omega)
  · intro p hp
    obtain ⟨g1, g2, g3⟩ := hbs p hp
    have lg := lt_of_heap g1
    refine ⟨(kf.block _ (Nat.lt_of_lt_of_le lg HK7.out.size) (by simp; omega)).trans ((HK7.out.block _ lg (by simp; omega)).trans g1), ?_⟩
    intro hm
    have := h.old _ hm
    omega
end Go.Proofs.YtmbcibgknckenaaGreatDoor
set_option linter.all false
set_option maxRecDepth 100000
set_option maxHeartbeats 4000000
namespace Go.Proofs.YtmbcibgknckenaaGreatDoor
open Go.RowKit
open Go.MapKept
theorem Rd.withProgs {A : Ad} {text : ByteArray} {σ : St} {w w' : World} {l : List (Int × Int)} (h : Rd A text σ w) (hk : Keeps [A.P] w w') (hn : NumsAt A.P l w') : Rd A text { σ with progs := l } w' := by
  obtain ⟨l1, l2, l3, l4⟩ := h.lt
  obtain ⟨a1, a2, a3, a4, a5, a6⟩ := h.apart
  have hp : w.heap[A.P]? = some (.map (σ.progs.mapIdx fun i p => (⟨.int .i64 p.1, .int .i64 p.2, i⟩ : MapEntry)).toArray σ.progs.length) := h.pr
  have far : ∀ b v, w.cell? ⟨b, 0, none⟩ = some v → b ≠ A.P := by
    intro b v hc e
    subst e
    unfold World.cell? at hc
    rw [hp] at hc
    cases hc
  obtain ⟨⟨m, g1⟩, ⟨_, _, g2⟩, ⟨_, _, g3⟩⟩ := id h.gl
  refine ⟨(hk.block _ l1 (by simp; exact a3)).trans h.me, ?_, h.nm.keeps hk (by simp; exact h.mine.2.2.2) (by simp; exact a6), h.mine, fun x hx => Nat.lt_of_lt_of_le (h.old x hx) hk.size, hn, h.np, h.gl.keeps hk (by simp [far _ _ g1]) (by simp [far _ _ g2]) (by simp [far _ _ g3]), h.small, h.few⟩
  obtain ⟨ha, hs⟩ := h.sc
  refine ⟨ha, ?_⟩
  have hb := hk.block _ l2 (by simp; exact a5)
  show match σ.nx with | some x => _ | none => _
  cases hn : σ.nx with
  | some x => rw [hn] at hs; exact hb.trans hs
  | none => rw [hn] at hs; obtain ⟨k, t, n, a, hs⟩ := hs; exact ⟨k, t, n, a, hb.trans hs⟩
def numberP (text : ByteArray) (p : Int → Bool) : PM Int := fun σ => match number text p σ.progs σ with
  | .ok (n, l', σ') => .ok (n, { σ' with progs := l' })
  | .error f => .error f
theorem numberP_ok {text : ByteArray} {p : Int → Bool} {σ σ' : St} {n : Int} {l' : List (Int × Int)} (h : number text p σ.progs σ = .ok (n, l', σ')) : numberP text p σ = .ok (n, { σ' with progs := l' }) := by simp only [numberP, h]
theorem numberP_err {text : ByteArray} {p : Int → Bool} {σ : St} {f : Mar.Fault} (h : number text p σ.progs σ = .error f) : numberP text p σ = .error f := by simp only [numberP, h]
theorem numberP_any {A : Ad} {text : ByteArray} {σ : St} {v : Value} {p : Int → Bool} {w : World} (h : Rd A text σ w) (hf : Fits A.X v p w) :
    Calls Tryz.prog 163 #[.pointer (some ⟨A.R, 0, none⟩), .map (some A.P), v] w (Gives [A.S, A.P] A text w (numberP text p σ) intV) := by
  have HC := Hid.mk (value_is h hf)
  have hn : NumsAt A.P σ.progs w := h.pr
  have hqS : A.P ∉ [A.S] := by simp; exact fun e => h.apart.2.2.2.2.1 e.symm
  go_enter Tryz.func163, Tryz.ntmps163
  go_wp2_with fail
  refine HC.out.mono ?_
  rintro e w1 ⟨hk1, ⟨r, σ1, hx1, rfl, hr1⟩ | ⟨f, hx1, b, hbb, rfl, hcell⟩⟩
  rotate_left
  · exact bodyPost_panics (Gives.throws (hk1.mono (by simp)) (Keeps.refl [] _) (numberP_err (bndx_err (lift_err hx1))) hbb hcell)
  have hn1 := hn.keeps hk1 hqS
  have HK1 := Hid.mk (hk1.mono (M' := [A.S, A.P]) (by simp))
  clear hk1 hn
  go_wp2_with fail
  refine (takeNum_any _ _ hn1).mono ?_
  rintro e w2 ⟨hk2, ⟨l', o, hx2, rfl, rfl, hn2⟩ | ⟨f, hx2, b, hbb, rfl, hcell⟩⟩
  rotate_left
  · exact bodyPost_panics (Gives.throws (HK1.out.trans (hk2.mono (by simp))) HK1.out (numberP_err ((bndx_ok (lift_ok hx1)).trans (bndx_err (side_err hx2)))) hbb hcell)
  have HR2 := Hid.mk (hr1.withProgs hk2 hn2)
  have HK2 := Hid.mk (HK1.out.trans (hk2.mono (M' := [A.S, A.P]) (by simp)))
  clear hn1 hk2 hn2
  go_wp2
  go_ret
  exact Gives.ok (a := r.1) HK2.out (numberP_ok ((bndx_ok (lift_ok hx1)).trans (bndx_ok (side_ok hx2)))) rfl HR2.out
def endingP (text : ByteArray) : PM Int := bnd (expect text [61]) fun _ => bnd (numberP text (inside 0 4294967295)) fun n => bnd (expect text [59]) fun _ => ret n
theorem endingP_any {A : Ad} {text : ByteArray} {σ : St} {w : World} (h : Rd A text σ w) :
    Calls Tryz.prog 138 #[.pointer (some ⟨A.R, 0, none⟩), .map (some A.P)] w (Gives [A.S, A.P] A text w (endingP text σ) intV) := by
  go_enter Tryz.func138, Tryz.ntmps138
  go_wp2_with fail
  refine (expect_any _ h).mono ?_
  rintro e w1 ⟨hk1, ⟨x1, σ1, hx1, rfl, hr1⟩ | ⟨f, hx1, b, hbb, rfl, hcell⟩⟩
  rotate_left
  · exact bodyPost_panics (Gives.throws (hk1.mono (by simp)) (Keeps.refl [] _) (bnd_err hx1) hbb hcell)
  have hK1 := hk1.mono (M' := [A.S, A.P]) (by simp)
  clear hk1
  go_wp2_with fail
  refine (within_any _ _ _).mono ?_
  rintro e w2 ⟨v, rfl, hb2, hfit⟩
  have hf2 := hfit A.X hr1.old
  have hr2 := hr1.below hb2
  have hK2 := hK1.trans (Keeps.of_below _ hb2)
  clear hfit hb2 hK1
  go_wp2_with fail
  refine (numberP_any hr2 hf2).mono ?_
  rintro e w3 ⟨hk3, ⟨n, σ3, hx3, rfl, hr3⟩ | ⟨f, hx3, b, hbb, rfl, hcell⟩⟩
  rotate_left
  · exact bodyPost_panics (Gives.throws (hK2.trans hk3) hK2 ((bnd_ok hx1).trans (bnd_err hx3)) hbb hcell)
  have hK3 := hK2.trans hk3
  clear hf2 hK2 hk3
  dsimp only [intV]
  go_wp2_with fail
  refine (expect_any _ hr3).mono ?_
  rintro e w4 ⟨hk4, ⟨x4, σ4, hx4, rfl, hr4⟩ | ⟨f, hx4, b, hbb, rfl, hcell⟩⟩
  rotate_left
  · exact bodyPost_panics (Gives.throws (hK3.trans (hk4.mono (by simp))) hK3 ((bnd_ok hx1).trans ((bnd_ok hx3).trans (bnd_err hx4))) hbb hcell)
  go_wp2
  go_ret
  exact Gives.ok (a := n) (hK3.trans (hk4.mono (by simp))) ((bnd_ok hx1).trans ((bnd_ok hx3).trans (bnd_ok hx4))) rfl hr4
theorem endingP_at {A' A : Ad} (hA : Same A' A) {text : ByteArray} {σ : St} {w : World} (h : Rd A' text σ w) :
    Calls Tryz.prog 138 #[.pointer (some ⟨A.R, 0, none⟩), .map (some A.P)] w (Gives [A.S, A.P] A' text w (endingP text σ) intV) := by
  have := endingP_any h
  rw [hA.1, hA.2.1, hA.2.2.2] at this
  exact this
theorem infoVersion : (Tryz.prog.info? 296).map (fun i => (i.zero, i.size, i.bytes)) = some (some (.agg #[.string ⟨#[]⟩, .int .i64 0, .slice none 0 0, .int .i64 0]), 4, 56) := by kernel_rfl
def pgPiece (text : ByteArray) : PX (List VersionL × UnSt) Unit := fun p σ => match versionP text p.2 σ with
  | .ok (d, s', σ') => .ok ((), (p.1 ++ [d], s'), σ')
  | .error f => .error f
theorem pgPiece_ok {text : ByteArray} {ps : List VersionL} {s s' : UnSt} {σ σ' : St} {d : VersionL} (h : versionP text s σ = .ok (d, s', σ')) : pgPiece text (ps, s) σ = .ok ((), (ps ++ [d], s'), σ') := by simp only [pgPiece, h]
theorem pgPiece_err {text : ByteArray} {ps : List VersionL} {s : UnSt} {σ : St} {f : Mar.Fault} (h : versionP text s σ = .error f) : pgPiece text (ps, s) σ = .error f := by simp only [pgPiece, h]
structure PgAd where
  D : Nat
  db : Nat
  rb : Nat
  cb : Nat
  nb : Nat
  q : Nat
  nq : Nat
  bx : Nat
abbrev PgAd.E (a : PgAd) : List (Nat × Obj) := [(a.db, .cells #[.pointer (some ⟨a.D, 0, none⟩)] 186), (a.cb, .cells #[(amongC a.q a.bx).v] 270), (a.nb, .cells #[.map (some a.nq)] 105)]
abbrev verC (p : VersionL × Value) : List Value := nameC p.1.t p.1.at' ++ [p.2, .int .i64 p.1.num]
def pgJ (A : Ad) (text : ByteArray) (w : World) (a : PgAd) (n : List UInt8 × Nat) (k : Nat) (Y : List Nat) (p : List VersionL × UnSt) (σ : St) (u : World) : Prop := p.1.length = k ∧
  ∃ (sl : Value) (css : List Value) (bs : List (Nat × Obj)), BMid A text w 220 296 4 a.D a.q a.nq a.E n p.1.length ((p.1.zip css).flatMap verC) ((amongC a.q a.bx).bs ++ bs) Y p.2.1 p.2.2 sl σ u ∧ css.length = p.1.length ∧
    ∀ i (h : i < p.1.length) (h' : i < css.length), SliceIn bs 342 css[i] p.1[i].procs.length (p.1[i].procs.flatMap procC)
theorem version_at {A' A : Ad} (hA : Same A' A) {text : ByteArray} {σ : St} {q bx nq : Nat} {t : List (List UInt8)} {l : List (Int × Int)} {w : World} (h : Rd A' text σ w) (hq : Free A' q) (hn : Free A' nq) (hne : q ≠ nq) (hs : SetAt q t w) (hcl : Held A'.X (amongC q bx).bs w) (hl : NumsAt nq l w) :
    Calls Tryz.prog 137 #[.pointer (some ⟨A.R, 0, none⟩), (amongC q bx).v, .map (some nq)] w (GivesV A' text w q nq (versionP text (t, l) σ)) := by
  have := version_any h hq hn hne hs hcl hl
  rw [hA.1] at this
  exact this
theorem one_ver (d : VersionL) (a : Option Addr) (b c : Nat) : ∀ u ∈ verC (d, .slice a b c), u.oneCell' = true := by
  intro u hu
  simp at hu
  rcases hu with rfl | rfl | rfl | rfl <;> rfl
theorem program1_any {A : Ad} {text : ByteArray} {w u : World} {a : PgAd} {n : List UInt8 × Nat} {k : Nat} {Y : List Nat} {ps : List VersionL} {s : UnSt} {σ σ0 : St} (h0 : Rd A text σ0 w) (hrb : w.heap[a.rb]? = some (.cells #[.pointer (some ⟨A.R, 0, none⟩)] 101)) (hrf : a.rb ∉ [A.R, A.S, A.N]) (hk : k < 1000) (h : pgJ A text w a n k Y (ps, s) σ u) :
    Calls Tryz.prog 136 #[.pointer (some ⟨a.db, 0, none⟩), .pointer (some ⟨a.rb, 0, none⟩), .pointer (some ⟨a.cb, 0, none⟩), .pointer (some ⟨a.nb, 0, none⟩)] u (GivesO A w (pgJ A text w a n (k + 1)) (pgPiece text (ps, s) σ)) := by
  obtain ⟨hlen, sl, css, bs, hm, hcl, hea⟩ := h
  obtain ⟨t, l⟩ := s
  dsimp only at hlen hm hcl hea
  have HL := Hid.mk hlen
  have HCL := Hid.mk hcl
  have HEA := Hid.mk hea
  have hds : ps.length < 1000 := by omega
  clear hlen hcl hea
  obtain ⟨ad, cap, rfl⟩ := hm.slice
  obtain ⟨i0, hi0, hz0, hz1, hz2⟩ := info_parts infoVersion
  have hlr := lt_of_heap hrb
  have hvr := fun (v : World) (hk : Keeps [A.R, A.S, A.N] w v) => bound1 ((hk.block _ hlr hrf).trans hrb)
  have HV := Hid.mk hvr
  obtain ⟨x0, x1, x2, x3⟩ := bound4 hm.box
  have r0 := hvr _ hm.kp
  have d0 := bound1 (hm.fix (a.db, .cells #[.pointer (some ⟨a.D, 0, none⟩)] 186) (by simp [PgAd.E]))
  have c0 := bound1 (hm.fix (a.cb, .cells #[(amongC a.q a.bx).v] 270) (by simp [PgAd.E]))
  have n0 := bound1 (hm.fix (a.nb, .cells #[.map (some a.nq)] 105) (by simp [PgAd.E]))
  have hbd : Below u.heap.size u u.drew := (Below.refl _ _).drew
  have MD := Hid.mk (hm.below h0 hbd)
  have HC := Hid.mk (version_at (bx := a.bx) (Same.plus A Y) MD.out.rd (MD.out.free h0 (MD.out.mine a.q (by simp))) (MD.out.free h0 (MD.out.mine a.nq (by simp))) MD.out.apart.2.2.1 MD.out.set (fun p hp => MD.out.held p (List.mem_append_left _ hp)) MD.out.nums)
  have hl1 : ps.length + 1 ≤ maxLen := by unfold maxLen; omega
  have hl2 : (ps.length + 1) * 56 ≤ 140737488355328 := by omega
  have hz3 : (Value.agg #[.string ⟨#[]⟩, .int .i64 0, .slice none 0 0, .int .i64 0]).cells.size = 4 := by decide
  clear hm hvr
  go_enter Tryz.func136, Tryz.ntmps136
  go_wp2_with fail
  refine region_last (fun w' => w'.cell? ⟨a.D, 2, none⟩ = some (.slice ad ps.length cap) ∧ w'.cell? ⟨a.db, 0, none⟩ = some (.pointer (some ⟨a.D, 0, none⟩)) ∧ w'.cell? ⟨a.rb, 0, none⟩ = some (.pointer (some ⟨A.R, 0, none⟩)) ∧ w'.cell? ⟨a.cb, 0, none⟩ = some (amongC a.q a.bx).v ∧ w'.cell? ⟨a.nb, 0, none⟩ = some (.map (some a.nq))) (L := 13) (by kernel_rfl) rfl (by kernel_rfl) (by kernel_rfl) ?_ (fun hHeld => ?_)
  · go_keep
  refine tk (i := 0) (v := ?_) rfl (by kernel_rfl) (fun _ _ _ h => h) (by rfl) (by assumption) ?_ ?_
  rotate_left
  · intro w hSw; (try dsimp only at hSw); go_simp; (try with_reducible rfl)
  (try simp only [put_l, put_z, List.set])
  refine tk (i := 1) (v := ?_) rfl (by kernel_rfl) (fun _ _ _ h => h) (by rfl) (by assumption) ?_ ?_
  rotate_left
  · intro w hSw; (try dsimp only at hSw); go_simp; (try with_reducible rfl)
  (try simp only [put_l, put_z, List.set])
  refine tk (i := 2) (v := ?_) rfl (by kernel_rfl) (fun _ _ _ h => h) (by rfl) (by assumption) ?_ ?_
  rotate_left
  · intro w hSw; (try dsimp only at hSw); go_simp; (try with_reducible rfl)
  (try simp only [put_l, put_z, List.set])
  refine tk (i := 3) (v := ?_) rfl (by kernel_rfl) (fun _ _ _ h => h) (by rfl) (by assumption) ?_ ?_
  rotate_left
  · intro w hSw; (try dsimp only at hSw); go_simp; (try with_reducible rfl)
  (try simp only [put_l, put_z, List.set])
  refine tk (i := 4) (v := ?_) rfl (by kernel_rfl) (fun _ _ _ h => h) (by rfl) (by assumption) ?_ ?_
  rotate_left
  · intro w hSw; (try dsimp only at hSw); go_simp; (try with_reducible rfl)
  (try simp only [put_l, put_z, List.set])
  refine tk (i := 5) (v := ?_) rfl (by kernel_rfl) (fun _ _ _ h => h) (by rfl) (by assumption) ?_ ?_
  rotate_left
  · intro w hSw; (try dsimp only at hSw); go_simp; (try with_reducible rfl)
  (try simp only [put_l, put_z, List.set])
  refine tk (i := 6) (v := ?_) rfl (by kernel_rfl) (fun _ _ _ h => h) (by rfl) (by assumption) ?_ ?_
  rotate_left
  · intro w hSw; (try dsimp only at hSw); go_simp; (try with_reducible rfl)
  (try simp only [put_l, put_z, List.set])
  refine tk (i := 7) (v := ?_) rfl (by kernel_rfl) (fun _ _ _ h => h) (by rfl) (by assumption) ?_ ?_
  rotate_left
  · intro w hSw; (try dsimp only at hSw); go_simp; (try with_reducible rfl)
  (try simp only [put_l, put_z, List.set])
  refine wpAnyH_ready (rs := [8]) (by kernel_rfl) (by simp) ?_
  refine AllReadyH.cons rfl (fun K hK => ?_) AllReadyH.nil
  (go_simp; go_at_call 137; refine HC.out.mono ?_; rintro e w5 ⟨hk5, ⟨d, t5, l5, σ5, cv, bs5, hx5, rfl, hr5, hs5, hn5, hsl5, hh5⟩ | ⟨f, hx5, b, hbb, rfl, hcell⟩⟩; rotate_left; exact bodyPost_panics (GivesO.throws (MD.out.kp.young hk5 (by intro x hx; have := MD.out.new _ (MD.out.mine a.q (by simp)); have := MD.out.new _ (MD.out.mine a.nq (by simp)); simp [Ad.plus] at hx ⊢; omega)) MD.out.kp (pgPiece_err hx5) hbb hcell); have M5 := Hid.mk (MD.out.turn h0 hk5 (by intro x hx; simpa [Ad.plus] using hx) hr5 hs5 hn5); obtain ⟨ca, cn, cc, rfl⟩ : ∃ a b c, cv = .slice a b c := (by rcases hsl5 with ⟨rfl, _⟩ | ⟨g, cap, cur, rfl, _⟩ <;> exact ⟨_, _, _, rfl⟩); have HH5 := Hid.mk hh5; have HS5 := Hid.mk hsl5; clear hh5 hsl5; obtain ⟨y0, y1, y2, y3⟩ := bound4 M5.out.box; have r5 := HV.out _ M5.out.kp; have hd5 := M5.out.fix (a.db, .cells #[.pointer (some ⟨a.D, 0, none⟩)] 186) (by simp [PgAd.E]); have hc5 := M5.out.fix (a.cb, .cells #[(amongC a.q a.bx).v] 270) (by simp [PgAd.E]); have hn5' := M5.out.fix (a.nb, .cells #[.map (some a.nq)] 105) (by simp [PgAd.E]); have d5 := bound1 hd5; have c5 := bound1 hc5; have n5 := bound1 hn5'; have lb5 := lt_of_heap M5.out.box; have lr5 := Nat.lt_of_lt_of_le hlr M5.out.kp.size; have ld5 := lt_of_heap hd5; have lc5 := lt_of_heap hc5; have ln5 := lt_of_heap hn5'; have hwl := M5.out.kp.size; clear hd5 hc5 hn5')
  refine hK.out _ _ ?_ (fun hHeld => ?_)
  · go_keep
  clear hK K
  (try simp only [put_l, put_z, List.set])
  refine wpAnyH_ready (rs := [9]) (by kernel_rfl) (by simp) ?_
  refine AllReadyH.cons rfl (fun K hK => ?_) AllReadyH.nil
  go_simp
  refine hK.out _ _ ?_ (fun hHeld => ?_)
  · go_keep
  clear hK K
  (try simp only [put_l, put_z, List.set])
  refine wpAnyH_ready (rs := [10]) (by kernel_rfl) (by simp) ?_
  refine AllReadyH.cons rfl (fun K hK => ?_) AllReadyH.nil
  (refine step_append_lies _ (by rfl) _ _ _ (by rfl) w.heap.size 296 i0 _ 4 56 Tryz.underlying218 hi0 hz0 hz1 hz2 hz3 (by omega) (.slice ad ps.length cap) ps.length ((ps.zip css).flatMap verC) (by rfl) (M5.out.rowAt _) ⟨w5.heap.size, 0, none⟩ 1 1 (verC (d, .slice ca cn cc)) (by rfl) (by rfl) (World.news_of_block (cs := (verC (d, .slice ca cn cc)).toArray) (t := 296) (fr := (0, 0)) (heap_alloc_new w5 _)) (one_ver d ca cn cc) (by omega) hl1 hl2 (by simp; omega) (w5.heap.size + 1) (by simp) ?_; intro g cap' w6 hown6 hgrow hat hlt; obtain ⟨z0, z1, z2, z3⟩ := bound4 (M5.out.boxAt hgrow); have hfz := frozen4 (M5.out.boxAt hgrow); have d6 := bound1 (M5.out.fixAt hgrow (p := (a.db, .cells #[.pointer (some ⟨a.D, 0, none⟩)] 186)) (by simp [PgAd.E])); have c6 := bound1 (M5.out.fixAt hgrow (p := (a.cb, .cells #[(amongC a.q a.bx).v] 270)) (by simp [PgAd.E])); have n6 := bound1 (M5.out.fixAt hgrow (p := (a.nb, .cells #[.map (some a.nq)] 105)) (by simp [PgAd.E])); have r6 : w6.cell? ⟨a.rb, 0, none⟩ = some (.pointer (some ⟨A.R, 0, none⟩)) := HV.out _ (((M5.out.kp.alloc _)).young (keeps_grown hgrow) (by intro x hx; have h1 := M5.out.own x (by simpa using hx); exact Or.inr (M5.out.new _ h1.1))))
  refine hK.out _ _ ?_ (fun hHeld => ?_)
  · go_keep
  clear hK K
  (try simp only [put_l, put_z, List.set])
  refine tk (i := 11) (v := ?_) rfl (by kernel_rfl) (fun _ _ _ h => h) (by rfl) (by assumption) ?_ ?_
  rotate_left
  · intro w hSw; (try dsimp only at hSw); go_simp; (try with_reducible rfl)
  (try simp only [put_l, put_z, List.set])
  refine tk (i := 12) (v := ?_) rfl (by kernel_rfl) (fun _ _ _ h => h) (by rfl) (by assumption) ?_ ?_
  rotate_left
  · intro w hSw; (try dsimp only at hSw); go_simp; (try with_reducible rfl)
  (try simp only [put_l, put_z, List.set])
  refine wpAnyH_done (by kernel_rfl) ?_ _
  refine last_step rfl (fun K hK => ?_)
  go_simp
  refine hK.out _ _ ?_
  clear hK K
  (try simp only [put_l, put_z, List.set])
  have M6 := BMid.step (bs' := bs5) h0 M5.out HH5.out ((Below.refl w5.heap.size w5).alloc (Nat.le_refl _) _) hown6 hgrow (by simpa using hat) hlt
  go_wp2
  go_end0
  have hcl := HCL.out
  refine Or.inl ⟨g :: Y, (ps ++ [d], (t5, l5)), σ5, pgPiece_ok hx5, rfl, by simp [HL.out], .slice (some ⟨g, 0, none⟩) (ps.length + 1) cap', css ++ [.slice ca cn cc], bs ++ bs5, ?_, by simp [hcl], ?_⟩
  · have e1 : ((ps ++ [d]).zip (css ++ [.slice ca cn cc])).flatMap verC = (ps.zip css).flatMap verC ++ verC (d, .slice ca cn cc) := by
      rw [List.zip_append hcl.symm, List.flatMap_append]
      simp
    have e2 : (ps ++ [d]).length = ps.length + 1 := by simp
    rw [List.append_assoc (amongC a.q a.bx).bs bs bs5] at M6
    dsimp only
    rw [e1, e2]
    exact M6
  · intro i h1 h2
    dsimp only at h1 ⊢
    by_cases hi : i < ps.length
    · have hi' : i < css.length := by omega
      rw [List.getElem_append_left hi', List.getElem_append_left hi]
      exact (HEA.out i hi hi').mono (fun p hp => List.mem_append_left _ hp)
    · have hi' : i = ps.length := by simp at h1; omega
      rw [List.getElem_append_right (by omega), List.getElem_append_right (by omega)]
      have e1 : i - ps.length = 0 := by omega
      have e3 : i - css.length = 0 := by omega
      simp only [e1, e3, List.getElem_cons_zero]
      exact HS5.out.mono (fun p hp => List.mem_append_right _ hp)
end Go.Proofs.YtmbcibgknckenaaGreatDoor
set_option linter.all false
set_option maxRecDepth 100000
set_option maxHeartbeats 4000000
namespace Go.Proofs.YtmbcibgknckenaaGreatDoor
open Go.RowKit
open Go.MapKept
theorem program1_enters (args : Array Value) (u : World) : (callFunc 136 args).run Tryz.prog u = .ok (.enter 136 args) u := by kernel_rfl
def pgOne {A : Ad} {text : ByteArray} {σ0 : St} {w : World} (h0 : Rd A text σ0 w) (a : PgAd) (hrb : w.heap[a.rb]? = some (.cells #[.pointer (some ⟨A.R, 0, none⟩)] 101)) (hrf : a.rb ∉ [A.R, A.S, A.N]) (n : List UInt8 × Nat) : One (List VersionL × UnSt) A text w 4 where
  f := 136
  cap := #[.pointer (some ⟨a.db, 0, none⟩), .pointer (some ⟨a.rb, 0, none⟩), .pointer (some ⟨a.cb, 0, none⟩), .pointer (some ⟨a.nb, 0, none⟩)]
  run := pgPiece text
  J := pgJ A text w a n
  enters := program1_enters
  rd := by rintro _ _ _ _ _ ⟨_, _, _, _, m, _⟩; exact m.rd
  kp := by rintro _ _ _ _ _ ⟨_, _, _, _, m, _⟩; exact m.kp
  scan := by rintro _ _ _ _ _ _ _ ⟨h, sl, css, bs, m, h2, h3⟩ hk hr; exact ⟨h, sl, css, bs, m.scan h0 hk hr, h2, h3⟩
  call := by
    intro k Y t σ u hk h
    exact program1_any h0 hrb hrf (by omega) h
def programK (text : ByteArray) (n : List UInt8 × Nat) : PM DefL := bnd (runx (block text 4 (pgPiece text)) ([], ([], []))) fun p => bnd (endingP text) fun k => ret (.prog n.1 n.2 p.1 k)
def programP (text : ByteArray) (at' : Nat) : PM DefL := bnd (fun σ => roomP σ.progs.length 4 at' σ) fun _ => bnd (nameDef text) (programK text)
theorem len_verC : ∀ ps : List (VersionL × Value), (ps.flatMap verC).length = ps.length * 4 := by
  intro ps
  induction ps with
  | nil => rfl
  | cons d ds ih => simp only [List.flatMap_cons, List.length_append, List.length_cons, ih]; simp; omega
theorem program_any {A : Ad} {text : ByteArray} {σ : St} (at' : Nat) {w : World} (h : Rd A text σ w) :
    Calls Tryz.prog 91 #[.pointer (some ⟨A.R, 0, none⟩), .int .i64 at'] w (GivesD [A.R, A.S, A.N, A.P] A text w (programP text at' σ)) := by
  have hmf : ∀ (fn : Fn) (first cap : Array Value) (w : World), (Instr.makeFunc fn first cap).run Tryz.prog w = .ok (.func fn first cap) w := fun _ _ _ _ => rfl
  have hmm : ∀ (t : TypeId) (w : World), (Instr.makeMap t none).run Tryz.prog w = .ok (.map (some w.heap.size)) (w.alloc (.map #[] 0)) := fun _ _ => rfl
  have hr0 := h.own (.cells #[.pointer (some ⟨A.R, 0, none⟩)] 101)
  have hv0 := heap_alloc_at (w := w) (o := .cells #[.pointer (some ⟨A.R, 0, none⟩)] 101) rfl
  obtain ⟨l1, l2, l3, l4⟩ := h.lt
  have c0 := bound1 hv0
  have hc4 : (w.alloc (.cells #[.pointer (some ⟨A.R, 0, none⟩)] 101)).cell? ⟨A.R, 4, none⟩ = some (.map (some A.P)) := hr0.cells.2.2.2.2.1
  have hnl := nums_len (show NumsAt A.P σ.progs (w.alloc (.cells #[.pointer (some ⟨A.R, 0, none⟩)] 101)) from hr0.pr)
  go_enter Tryz.func91, Tryz.ntmps91
  go_wp2_with fail
  by_cases hfi : 4 ≤ σ.progs.length
  · refine (room_full _ _ _ _ (by omega)).mono ?_
    rintro e w1 ⟨⟨b, hbb, rfl, hcell⟩, hb⟩
    exact bodyPost_panics (GivesD.throws (f := ⟨5, at'⟩) (((Keeps.refl _ w).alloc _).trans (Keeps.of_below _ hb)) ((Keeps.refl [] w).alloc _) (bnd_err (show roomP σ.progs.length 4 at' σ = _ from if_pos hfi)) hbb hcell)
  have hx1 : (fun σ : St => roomP σ.progs.length 4 at' σ) σ = .ok ((), σ) := if_neg hfi
  refine (room_ok _ _ _ _ (by omega)).mono ?_
  rintro e w1 ⟨rfl, rfl⟩
  go_wp2_with fail
  refine (nameDef_at (Same.add A _) hr0).mono ?_
  rintro e w2 ⟨hk2, ⟨n, σ2, hx2, rfl, hr2⟩ | ⟨f, hx2, b, hbb, rfl, hcell⟩⟩
  rotate_left
  · exact bodyPost_panics (GivesD.throws (((Keeps.refl _ w).alloc _).trans (hk2.mono (by simp))) ((Keeps.refl [] w).alloc _) ((bnd_ok hx1).trans (bnd_err hx2)) hbb hcell)
  have hK2 : Keeps [A.R, A.S, A.N] w w2 := ((Keeps.refl _ w).alloc _).trans (hk2.mono (by simp))
  have hrb2 := (hk2.block _ (lt_of_heap hv0) (by simp; omega)).trans hv0
  have lrb := lt_of_heap hrb2
  have E2 : Hid (programP text at' σ = programK text n σ2) := (bnd_ok hx1).trans (bnd_ok hx2)
  have hrf : w.heap.size ∉ [A.R, A.S, A.N] := by simp; omega
  clear hk2 hv0 c0 hc4 hnl hx1 hx2 hfi hr0
  dsimp only [nameV]
  go_wp2_with fail
  obtain ⟨W3, hW3⟩ : ∃ W3, W3 = (w2.alloc (.cells #[.string ⟨n.1.toArray⟩, .int .i64 n.2, .slice none 0 0, .int .i64 0] 220)).alloc (.cells #[.pointer (some ⟨w2.heap.size, 0, none⟩)] 186) := ⟨_, rfl⟩
  rw [← hW3]
  have hs1 : (w2.alloc (.cells #[.string ⟨n.1.toArray⟩, .int .i64 n.2, .slice none 0 0, .int .i64 0] 220)).heap.size = w2.heap.size + 1 := by simp
  have hr3 := (hr2.own (.cells #[.string ⟨n.1.toArray⟩, .int .i64 n.2, .slice none 0 0, .int .i64 0] 220)).own (.cells #[.pointer (some ⟨w2.heap.size, 0, none⟩)] 186)
  rw [hs1, ← hW3] at hr3
  have hs3 : W3.heap.size = w2.heap.size + 2 := by rw [hW3]; simp
  have hk3 : Keeps [] w2 W3 := by rw [hW3]; exact ((Keeps.refl [] w2).alloc _).alloc _
  have hD3 : W3.heap[w2.heap.size]? = some (.cells #[.string ⟨n.1.toArray⟩, .int .i64 n.2, .slice none 0 0, .int .i64 0] 220) := by
    rw [hW3]
    exact (((Keeps.refl [] _).alloc _).block _ (by rw [hs1]; omega) (by simp)).trans (heap_alloc_at rfl)
  have hd3 : W3.heap[w2.heap.size + 1]? = some (.cells #[.pointer (some ⟨w2.heap.size, 0, none⟩)] 186) := by
    rw [hW3]
    exact heap_alloc_at hs1.symm
  clear hW3 hs1
  refine (among_any _).mono ?_
  rintro e w5 ⟨q, bx, rfl, hq, hbx, hqb, hI, hb5, hx5⟩
  dsimp only [Claim.v, amongC]
  have hlq : q < w5.heap.size := by
    obtain ⟨_, _, _, hm⟩ := id hI
    exact lt_of_heap hm
  have hlx := lt_of_heap hx5
  have hz5 := hb5.size
  have hk5 := Keeps.of_below [] hb5
  have hr5 := hr3.take hb5 hq hlq
  have hD5 := (hk5.block _ (lt_of_heap hD3) (by simp)).trans hD3
  have hd5 := (hk5.block _ (lt_of_heap hd3) (by simp)).trans hd3
  obtain ⟨W6, hW6⟩ : ∃ W6, W6 = ((w5.alloc (.map #[] 0)).alloc (.cells #[(amongC q bx).v] 270)).alloc (.cells #[.map (some w5.heap.size)] 105) := ⟨_, rfl⟩
  have hs5 : (w5.alloc (.map #[] 0)).heap.size = w5.heap.size + 1 := by simp
  have hs6 : ((w5.alloc (.map #[] 0)).alloc (.cells #[(amongC q bx).v] 270)).heap.size = w5.heap.size + 2 := by simp
  have hr6 := ((hr5.own (.map #[] 0)).own (.cells #[(amongC q bx).v] 270)).own (.cells #[.map (some w5.heap.size)] 105)
  rw [hs5, hs6, ← hW6] at hr6
  have k56 : Keeps [] w5 W6 := by rw [hW6]; exact (((Keeps.refl [] w5).alloc _).alloc _).alloc _
  have hm6 : W6.heap[w5.heap.size]? = some (.map #[] 0) := by
    rw [hW6]
    exact ((((Keeps.refl [] _).alloc _).alloc _).block _ (by rw [hs5]; omega) (by simp)).trans (heap_alloc_at rfl)
  have hc6 : W6.heap[w5.heap.size + 1]? = some (.cells #[(amongC q bx).v] 270) := by
    rw [hW6]
    exact (((Keeps.refl [] _).alloc _).block _ (by rw [hs6]; omega) (by simp)).trans (heap_alloc_at hs5.symm)
  have hn6 : W6.heap[w5.heap.size + 2]? = some (.cells #[.map (some w5.heap.size)] 105) := by
    rw [hW6]
    exact heap_alloc_at hs6.symm
  have kb6 : Keeps [] w2 W6 := (hk3.trans hk5).trans k56
  have M6 : Hid (BMid (A.plus [w.heap.size]) text w2 220 296 4 w2.heap.size q w5.heap.size [(w2.heap.size + 1, .cells #[.pointer (some ⟨w2.heap.size, 0, none⟩)] 186), (w5.heap.size + 1, .cells #[(amongC q bx).v] 270), (w5.heap.size + 2, .cells #[.map (some w5.heap.size)] 105)] n 0 [] ((amongC q bx).bs ++ []) [w5.heap.size + 2, w5.heap.size + 1, w5.heap.size, q, w2.heap.size + 1, w2.heap.size] [] [] (.slice none 0 0) σ2 W6) := by
    refine ⟨kb6.mono (by simp), hr6, ?_, ?_, ?_, (by intro g hg; cases hg), ?_, hm6, (k56.block _ (lt_of_heap hD5) (by simp)).trans hD5, ?_, ⟨rfl, Or.inl ⟨rfl, rfl⟩⟩, ?_⟩
    · intro b hb
      simp at hb ⊢
      omega
    · simp
      omega
    · intro y hy
      simp at hy
      omega
    · have hI2 : SetAt q [] w5 := hI
      exact hI2.keeps k56 (by simp)
    · intro p hp
      simp only [List.mem_cons, List.not_mem_nil, or_false] at hp
      rcases hp with rfl | rfl | rfl
      · exact (k56.block _ (lt_of_heap hd5) (by simp)).trans hd5
      · exact hc6
      · exact hn6
    · intro p hp
      simp only [amongC, List.append_nil, List.mem_singleton] at hp
      subst hp
      refine ⟨(k56.block _ hlx (by simp)).trans hx5, ?_⟩
      simp [Ad.plus]
      refine ⟨by omega, by omega, by omega, by omega, by omega, by omega, by omega, ?_⟩
      intro hm
      have := h.old _ hm
      omega
  have rb6 := bound1 ((kb6.block _ lrb (by simp)).trans hrb2)
  rw [hW6] at rb6
  clear hr6 hr5 hm6 hc6 hn6 hI hx5 hb5 hk5 k56 hlq hlx hq hbx hqb hD3 hd3 hD5 hd5 hr3 hk3
  dsimp only [Claim.v, amongC] at rb6
  go_wp2_with fail
  rw [show ((w5.alloc (.map #[] 0)).alloc (.cells #[.func (.func 164) #[] #[.pointer (some ⟨bx, 0, none⟩)]] 270)).alloc (.cells #[.map (some w5.heap.size)] 105) = W6 from hW6.symm]
  have HJ : pgJ (A.plus [w.heap.size]) text w2 ⟨w2.heap.size, w2.heap.size + 1, w.heap.size, w5.heap.size + 1, w5.heap.size + 2, q, w5.heap.size, bx⟩ n 0 [w5.heap.size + 2, w5.heap.size + 1, w5.heap.size, q, w2.heap.size + 1, w2.heap.size] ([], ([], [])) σ2 W6 := ⟨rfl, _, [], [], M6.out, rfl, by intro i h; cases h⟩
  refine (block_any 4 (pgOne (A := A.plus [w.heap.size]) hr2 ⟨w2.heap.size, w2.heap.size + 1, w.heap.size, w5.heap.size + 1, w5.heap.size + 2, q, w5.heap.size, bx⟩ hrb2 hrf n) (by omega) HJ).mono ?_
  rintro e w6 (⟨Y6, ⟨ps, t6, l6⟩, σ6, hx6, rfl, k6, hk6, hlen, sl, css, bs, hM6, hcl6, hea6⟩ | ⟨f, hx6, hk6, b, hbb, rfl, hcell⟩)
  rotate_left
  · exact bodyPost_panics (GivesD.throws ((hK2.mono (by simp)).trans (hk6.mono (by simp [Ad.plus]))) hK2 (E2.out.trans (bnd_err (runx_err hx6))) hbb hcell)
  dsimp only at hlen hM6 hcl6 hea6
  have hps : ps.length ≤ 4 := by omega
  clear hlen hk6
  have hA6 : Same ((A.plus [w.heap.size]).plus Y6) A := ⟨rfl, rfl, rfl, rfl⟩
  have hK6 : Keeps [A.R, A.S, A.N] w2 w6 := hM6.kp
  have rb7 := bound1 ((hK6.block _ lrb hrf).trans hrb2)
  have db7 := bound1 (hM6.fix (w2.heap.size + 1, .cells #[.pointer (some ⟨w2.heap.size, 0, none⟩)] 186) (by simp [PgAd.E]))
  have R7 : w6.cell? ⟨A.R, 4, none⟩ = some (.map (some A.P)) := hM6.rd.cells.2.2.2.2.1
  have HM6 := Hid.mk hM6
  have HCL := Hid.mk hcl6
  have HEA := Hid.mk hea6
  have hbd : Below w6.heap.size w6 w6.drew := (Below.refl _ _).drew
  have HC := Hid.mk (endingP_at hA6 (hM6.rd.below hbd))
  clear M6 HJ rb6 hW6 kb6 hs5 hs6 hcl6 hea6
  go_wp2_with fail
  have hne1 : ¬ w2.heap.size = A.R := by have := hK2.size; omega
  have hne2 : ¬ w2.heap.size = w.heap.size := by omega
  have hne3 : ¬ w2.heap.size = w2.heap.size + 1 := by omega
  have hat7 : ∀ w7, Keeps [A.S, A.P] w6.drew w7 → w7.cell? ⟨w2.heap.size + 1, 0, none⟩ = some (.pointer (some ⟨w2.heap.size, 0, none⟩)) ∧ w7.cell? ⟨w.heap.size, 0, none⟩ = some (.pointer (some ⟨A.R, 0, none⟩)) ∧
      w7.heap[w2.heap.size]? = some (.cells #[.string ⟨n.1.toArray⟩, .int .i64 n.2, sl, .int .i64 0] 220) := by
    intro w7 hk7
    have hk7' := ((Keeps.refl _ w6).drew).trans hk7
    have b1 := hM6.fix (w2.heap.size + 1, .cells #[.pointer (some ⟨w2.heap.size, 0, none⟩)] 186) (by simp [PgAd.E])
    have b2 := (hK6.block _ lrb hrf).trans hrb2
    exact ⟨bound1 ((hk7'.block _ (lt_of_heap b1) (by simp; omega)).trans b1), bound1 ((hk7'.block _ (lt_of_heap b2) (by simp; omega)).trans b2), (hk7'.block _ (lt_of_heap hM6.box) (by simp; omega)).trans hM6.box⟩
  have H7 := Hid.mk hat7
  clear hat7 hM6
  go_region_held2 (fun w' => w'.cell? ⟨w2.heap.size + 1, 0, none⟩ = some (.pointer (some ⟨w2.heap.size, 0, none⟩)) ∧ w'.cell? ⟨w.heap.size, 0, none⟩ = some (.pointer (some ⟨A.R, 0, none⟩)) ∧ w'.cell? ⟨A.R, 4, none⟩ = some (.map (some A.P))) (go_keep)
    (first
      | (go_at_call 138; refine HC.out.mono ?_; rintro e w7 ⟨hk7, ⟨k, σ7, hx7, rfl, hr7⟩ | ⟨f, hx7, b, hbb, rfl, hcell⟩⟩; rotate_left; exact bodyPost_panics (GivesD.throws (((hK2.mono (by simp)).trans (hK6.mono (by simp))).trans (((Keeps.refl _ w6).drew).trans (hk7.mono (by simp)))) (hK2.trans hK6) (E2.out.trans ((bnd_ok (runx_ok hx6)).trans (bnd_err hx7))) hbb hcell); obtain ⟨d7, b7, box7⟩ := H7.out w7 hk7; have R8 : w7.cell? ⟨A.R, 4, none⟩ = some (.map (some A.P)) := hr7.cells.2.2.2.2.1; obtain ⟨v0, v1, v2, v3⟩ := bound4 box7; have hfv := frozen4 box7; have HK7 := Hid.mk (((Keeps.refl [A.S, A.P] w6).drew).trans hk7); have HR7 := Hid.mk hr7; have HB7 := Hid.mk box7; clear hk7 hr7 box7; dsimp only [intV]))
  all_goals
    go_wp2
    go_ret
    have kf := (Keeps.refl [w2.heap.size] w7).setIn (p := ⟨w2.heap.size, 3, none⟩) (by simp) (.int .i64 k)
    obtain ⟨bs', hsl, hbs⟩ := HM6.out.lies (by omega) (by rw [len_verC, List.length_zip, HCL.out, Nat.min_self]) (by intro h; rw [List.length_eq_zero_iff.1 h]; rfl)
    have hA3 : w2.heap.size ∈ ((A.plus [w.heap.size]).plus Y6).X := List.mem_append_left _ (HM6.out.mine _ (by simp))
    have hrf7 := h.young hA6 HR7.out kf (by
      intro x hx
      simp only [List.mem_singleton] at hx
      subst hx
      exact ⟨by omega, hA3⟩)
    have hrA := Rd.dropAll h.mine (Rd.dropAll (A := A.plus [w.heap.size]) hr2.mine hrf7)
    have hbox := setBlock (i := 3) HB7.out (.int .i64 k)
    have far : ∀ b, w.heap.size ≤ b → b ∉ A.X := fun b hb hm => by have := h.old _ hm; omega
    refine ⟨?_, Or.inl ⟨.prog n.1 n.2 ps k, σ7, w2.heap.size, (w2.heap.size, .cells #[.string ⟨n.1.toArray⟩, .int .i64 n.2, sl, .int .i64 k] 220) :: (bs' ++ bs), E2.out.trans ((bnd_ok (runx_ok hx6)).trans ((bnd_ok hx7).trans rfl)), rfl, hrA, ⟨sl, css, List.mem_cons_self, HCL.out, ?_, ?_⟩, ?_⟩⟩
    · refine (((hK2.mono (by simp)).trans (hK6.mono (by simp))).trans (HK7.out.mono (by simp))).young kf ?_
      intro x hx
      simp only [List.mem_singleton] at hx
      subst hx
      exact Or.inr (by omega)
    · exact hsl.mono (fun p hp => List.mem_cons_of_mem _ (List.mem_append_left _ hp))
    · intro i h1 h2
      exact (HEA.out i h1 h2).mono (fun p hp => List.mem_cons_of_mem _ (List.mem_append_right _ hp))
    · intro p hp
      rcases List.mem_cons.1 hp with rfl | hp
      · exact ⟨hbox, far _ (by dsimp only; omega)⟩
      · rcases List.mem_append.1 hp with hp | hp
        · obtain ⟨g1, g2, g3⟩ := hbs p hp
          have lg := lt_of_heap g1
          exact ⟨(kf.block _ (Nat.lt_of_lt_of_le lg HK7.out.size) (by simp; exact g3)).trans ((HK7.out.block _ lg (by simp; omega)).trans g1), far _ (by omega)⟩
        · obtain ⟨g1, g2⟩ := HM6.out.held p (List.mem_append_right _ hp)
          have lg := lt_of_heap g1
          have hm := HM6.out.rd.mine
          have n1 : p.1 ≠ A.S := fun e => g2 (e ▸ hm.2.1)
          have n2 : p.1 ≠ A.P := fun e => g2 (e ▸ hm.2.2.2)
          have n3 : p.1 ≠ w2.heap.size := fun e => g2 (e ▸ hA3)
          exact ⟨(kf.block _ (Nat.lt_of_lt_of_le lg HK7.out.size) (by simp; exact n3)).trans ((HK7.out.block _ lg (by simp; exact ⟨n1, n2⟩)).trans g1), fun hx => g2 (List.mem_append_right _ (List.mem_append_right _ hx))⟩
end Go.Proofs.YtmbcibgknckenaaGreatDoor
