import Derived.Test.YtmbcibgknckenaaGreatDoorT12
import Derived.Deep.LoopGhost
import Derived.Deep.RegionHeld2
set_option linter.all false
set_option maxRecDepth 100000
set_option maxHeartbeats 4000000
namespace Go.Proofs.YtmbcibgknckenaaGreatDoor
open Go.RowKit
open Go.MapKept
theorem Array_run {τ : Type} {w u : World} {bs : List (Nat × Obj)} {Z : Wkr τ w bs} {Fr : List (Nat × Obj)} {M : Nat} {m : MSt} {d : τ} (n : Int) (f : Bool) (p : Nat) (hn : 0 ≤ n) (hn2 : n ≤ 4294967295) {r : Except Mar.Fault (MSt × τ)} (hr : stepM Z.W (.array n f p) m d = some r) (h : Mc Z Fr M m false d u) :
    Calls Tryz.prog 298 #[.agg #[.int .i64 n, .bool f, .int .i64 p], .pointer (some ⟨M, 0, none⟩)] u (GivesSt Z Fr M r) := by
  obtain ⟨hc, hr⟩ : m.rounds.length < 1000 ∧ r = thenE (Z.W.list n f d) fun q => .ok (if q.1 = 0 then { m with next := p } else { m with rounds := (m.next, q.1) :: m.rounds }, q.2) := by
    simp only [stepM] at hr
    split at hr
    · cases hr
    · refine ⟨by omega, ?_⟩
      cases hx : Z.W.list n f d with
      | error e => rw [hx] at hr; cases hr; rfl
      | ok q =>
        obtain ⟨k, d'⟩ := q
        rw [hx] at hr
        cases k with
        | zero => cases hr; rfl
        | succ k => cases hr; rfl
  subst hr
  have hmn := Z.mL
  have hen := Z.eL
  have h0 := h.alloc (.cells #[.int .i64 n, .bool f, .int .i64 p] 345)
  obtain ⟨csl, rsl, c0, c1, c2, c3, c4, cf, cl⟩ := h0.cells
  have VN := Hid.mk ((h0.below (Below.refl _ _).drew).work fun Fr' hj => Z.cL n f hn hn2 hj)
  clear h h0
  generalize hR : (thenE (Z.W.list n f d) fun q => Except.ok (if q.1 = 0 then { m with next := p } else { m with rounds := (m.next, q.1) :: m.rounds }, q.2)) = R
  go_enter Tryz.func298, Tryz.ntmps298
  go_wp2_with fail
  refine region_last (fun w' => w'.cell? ⟨M, 0, none⟩ = some (.iface Z.T (.pointer (some ⟨Z.D, 0, none⟩))) ∧ w'.cell? ⟨u.heap.size, 0, none⟩ = some (.int .i64 n) ∧ w'.cell? ⟨u.heap.size, 1, none⟩ = some (.bool f) ∧ w'.cell? ⟨u.heap.size, 2, none⟩ = some (.int .i64 p)) (L := 7) (by kernel_rfl) rfl (by kernel_rfl) (by kernel_rfl) ?_ (fun hHeld => ?_)
  · go_keep
  refine tk (i := 0) (v := ?_) rfl (by kernel_rfl) (fun _ _ _ h => h) (by rfl) (by assumption) ?_ ?_
  rotate_left
  · intro w hSw; (try dsimp only at hSw); go_simp; (try with_reducible rfl)
  (try simp only [put_l, put_z, List.set])
  refine tk (i := 1) (v := ?_) rfl (by kernel_rfl) (fun _ _ _ h => h) (by rfl) (by assumption) ?_ ?_
  rotate_left
  · intro w hSw; (try dsimp only at hSw); go_simp; (try with_reducible rfl)
  (try simp only [put_l, put_z, List.set])
  refine tk (i := 2) (v := ?_) rfl (by kernel_rfl) (fun _ _ _ h => h) (by rfl) (by assumption) ?_ ?_
  rotate_left
  · intro w hSw; (try dsimp only at hSw); go_simp; (try with_reducible rfl)
  (try simp only [put_l, put_z, List.set])
  refine tk (i := 3) (v := ?_) rfl (by kernel_rfl) (fun _ _ _ h => h) (by rfl) (by assumption) ?_ ?_
  rotate_left
  · intro w hSw; (try dsimp only at hSw); go_simp; (try with_reducible rfl)
  (try simp only [put_l, put_z, List.set])
  refine tk (i := 4) (v := ?_) rfl (by kernel_rfl) (fun _ _ _ h => h) (by rfl) (by assumption) ?_ ?_
  rotate_left
  · intro w hSw; (try dsimp only at hSw); go_simp; (try with_reducible rfl)
  (try simp only [put_l, put_z, List.set])
  refine tk (i := 5) (v := ?_) rfl (by kernel_rfl) (fun _ _ _ h => h) (by rfl) (by assumption) ?_ ?_
  rotate_left
  · intro w hSw; (try dsimp only at hSw); go_simp; (try with_reducible rfl)
  (try simp only [put_l, put_z, List.set])
  refine wpAnyH_ready (rs := [6]) (by kernel_rfl) (by simp) ?_
  refine AllReadyH.cons rfl (fun K hK => ?_) AllReadyH.nil
  (go_simp; refine VN.out.mono ?_; rintro e w2 (⟨v2, d2, hx, rfl, M2⟩ | ⟨f', hx, hk, g, hg, rfl, hc⟩); rotate_left; exact bodyPost_panics (Or.inr ⟨f', by rw [← hR, hx]; rfl, hk, g, hg, rfl, hc⟩); obtain ⟨csl, rsl, c0, c1, c2, c3, c4, cf, cl⟩ := M2.cells; obtain ⟨s0, s1, s2, sl⟩ := cbound3 (M2.at (p := (u.heap.size, .cells #[.int .i64 n, .bool f, .int .i64 p] 345)) (by simp)); have hv2 := Z.small hn hn2 hx; have M2 := Hid.mk M2; have HX := Hid.mk hx; clear hx)
  refine hK.out _ _ ?_ (fun hHeld => ?_)
  · go_keep
  clear hK K
  (try simp only [put_l, put_z, List.set])
  refine wpAnyH_done (by kernel_rfl) ?_ _
  refine last_step rfl (fun K hK => ?_)
  go_simp
  refine hK.out _ _ ?_
  clear hK K
  (try simp only [put_l, put_z, List.set])
  cases v2 with
  | zero =>
    have E2 : Hid (R = .ok ({ m with next := p }, d2)) := by show _ = _; rw [← hR, HX.out]; rfl
    have H := Hid.mk (M2.out.goto p).tail
    clear hR VN HX M2
    go_wp2
    go_end0
    exact Or.inl ⟨_, d2, E2.out, rfl, H.out⟩
  | succ k =>
    have E2 : Hid (R = .ok ({ m with rounds := (m.next, k + 1) :: m.rounds }, d2)) := by show _ = _; rw [← hR, HX.out]; rfl
    have H := Hid.mk (RPush_any (m.next, k + 1) hc (M2.out.below (Below.refl _ _).drew))
    clear hR VN HX M2
    go_wp2_with fail
    refine region_last (fun w' => w'.cell? ⟨M, 1, none⟩ = some (.int .i64 m.next)) (L := 9) (by kernel_rfl) rfl (by kernel_rfl) (by kernel_rfl) ?_ (fun hHeld => ?_)
    · go_keep
    refine tk (i := 0) (v := ?_) rfl (by kernel_rfl) (fun _ _ _ h => h) (by rfl) (by assumption) ?_ ?_
    rotate_left
    · intro w hSw; (try dsimp only at hSw); go_simp; (try with_reducible rfl)
    (try simp only [put_l, put_z, List.set])
    refine tk (i := 1) (v := ?_) rfl (by kernel_rfl) (fun _ _ _ h => h) (by rfl) (by assumption) ?_ ?_
    rotate_left
    · intro w hSw; (try dsimp only at hSw); go_simp; (try with_reducible rfl)
    (try simp only [put_l, put_z, List.set])
    refine tk (i := 2) (v := ?_) rfl (by kernel_rfl) (fun _ _ _ h => h) (by rfl) (by assumption) ?_ ?_
    rotate_left
    · intro w hSw; (try dsimp only at hSw); go_simp; (try with_reducible rfl)
    (try simp only [put_l, put_z, List.set])
    refine tk (i := 3) (v := ?_) rfl (by kernel_rfl) (fun _ _ _ h => h) (by rfl) (by assumption) ?_ ?_
    rotate_left
    · intro w hSw; (try dsimp only at hSw); go_simp; (try with_reducible rfl)
    (try simp only [put_l, put_z, List.set])
    refine tk (i := 4) (v := ?_) rfl (by kernel_rfl) (fun _ _ _ h => h) (by rfl) (by assumption) ?_ ?_
    rotate_left
    · intro w hSw; (try dsimp only at hSw); go_simp; (try with_reducible rfl)
    (try simp only [put_l, put_z, List.set])
    refine tk (i := 5) (v := ?_) rfl (by kernel_rfl) (fun _ _ _ h => h) (by rfl) (by assumption) ?_ ?_
    rotate_left
    · intro w hSw; (try dsimp only at hSw); go_simp; (try with_reducible rfl)
    (try simp only [put_l, put_z, List.set])
    refine tk (i := 6) (v := ?_) rfl (by kernel_rfl) (fun _ _ _ h => h) (by rfl) (by assumption) ?_ ?_
    rotate_left
    · intro w hSw; (try dsimp only at hSw); go_simp; (try with_reducible rfl)
    (try simp only [put_l, put_z, List.set])
    refine tk (i := 7) (v := ?_) rfl (by kernel_rfl) (fun _ _ _ h => h) (by rfl) (by assumption) ?_ ?_
    rotate_left
    · intro w hSw; (try dsimp only at hSw); go_simp; (try with_reducible rfl)
    (try simp only [put_l, put_z, List.set])
    refine tk (i := 8) (v := ?_) rfl (by kernel_rfl) (fun _ _ _ h => h) (by rfl) (by assumption) ?_ ?_
    rotate_left
    · intro w hSw; (try dsimp only at hSw); go_simp; (try with_reducible rfl)
    (try simp only [put_l, put_z, List.set])
    refine wpAnyH_done (by kernel_rfl) ?_ _
    refine last_step rfl (fun K hK => ?_)
    (go_simp; refine H.out.mono ?_; rintro e w3 ⟨rfl, M3⟩)
    refine hK.out _ _ ?_
    clear hK K
    (try simp only [put_l, put_z, List.set])
    have M3 := Hid.mk M3.tail
    go_wp2
    go_end0
    exact Or.inl ⟨_, d2, E2.out, rfl, M3.out⟩
theorem Choice_run {τ : Type} {w u : World} {bs : List (Nat × Obj)} {Z : Wkr τ w bs} {Fr : List (Nat × Obj)} {M : Nat} {m : MSt} {d : τ} {cs : List Value} {n : NumL} {mp : Nat} {ws : List (Int × Nat × Nat)} {ov : Value} {o : Option (Nat × Nat)} (hN : NumIn bs cs n) (hm : (mp, waysObj ws) ∈ bs) (ho : OtherIn bs ov o) (nd : (ws.map (·.1)).Nodup) {r : Except Mar.Fault (MSt × τ)} (hr : stepM Z.W (.choice n ws o) m d = some r) (h : Mc Z Fr M m false d u) :
    Calls Tryz.prog 295 #[.agg (cs ++ [.map (some mp), ov]).toArray, .pointer (some ⟨M, 0, none⟩)] u (GivesSt Z Fr M r) := by
  obtain ⟨mm, rfl, hmem, x, y, z, rfl⟩ := id hN
  obtain ⟨pa, rfl⟩ : ∃ pa, ov = .pointer pa := by
    cases o with
    | none => exact ⟨_, ho⟩
    | some q => obtain ⟨b, h1, _⟩ := ho; exact ⟨_, h1⟩
  have hmn := Z.mA
  have hfn : ∀ (a b : Value) (W : World), (Instr.field 323 (.agg #[a, b]) 0).run Tryz.prog W = .ok a W := fun _ _ _ => by kernel_rfl
  have hen := Z.eA
  have h0 := h.alloc (.cells #[.int .i64 n.low, .int .i64 n.high, .slice x y z, .bool n.wide, .map (some mp), .pointer pa] 321)
  obtain ⟨csl, rsl, c0, c1, c2, c3, c4, cf, cl⟩ := h0.cells
  have VN := Hid.mk ((h0.below (Below.refl _ _).drew).work fun Fr' hj => Z.cA hN hm ho nd hj)
  have HR := Hid.mk hr
  clear h h0 hmem hr ho
  go_enter Tryz.func295, Tryz.ntmps295
  go_wp2_with fail
  refine region_last (fun w' => w'.cell? ⟨M, 0, none⟩ = some (.iface Z.T (.pointer (some ⟨Z.D, 0, none⟩))) ∧ w'.cell? ⟨u.heap.size, 0, none⟩ = some (.int .i64 n.low) ∧ w'.cell? ⟨u.heap.size, 1, none⟩ = some (.int .i64 n.high) ∧ w'.cell? ⟨u.heap.size, 2, none⟩ = some (.slice x y z) ∧ w'.cell? ⟨u.heap.size, 3, none⟩ = some (.bool n.wide) ∧ w'.cell? ⟨u.heap.size, 4, none⟩ = some (.map (some mp)) ∧ w'.cell? ⟨u.heap.size, 5, none⟩ = some (.pointer pa)) (L := 10) (by kernel_rfl) rfl (by kernel_rfl) (by kernel_rfl) ?_ (fun hHeld => ?_)
  · go_keep
  refine tk (i := 0) (v := ?_) rfl (by kernel_rfl) (fun _ _ _ h => h) (by rfl) (by assumption) ?_ ?_
  rotate_left
  · intro w hSw; (try dsimp only at hSw); go_simp; (try with_reducible rfl)
  (try simp only [put_l, put_z, List.set])
  refine tk (i := 1) (v := ?_) rfl (by kernel_rfl) (fun _ _ _ h => h) (by rfl) (by assumption) ?_ ?_
  rotate_left
  · intro w hSw; (try dsimp only at hSw); go_simp; (try with_reducible rfl)
  (try simp only [put_l, put_z, List.set])
  refine tk (i := 2) (v := ?_) rfl (by kernel_rfl) (fun _ _ _ h => h) (by rfl) (by assumption) ?_ ?_
  rotate_left
  · intro w hSw; (try dsimp only at hSw); go_simp; (try with_reducible rfl)
  (try simp only [put_l, put_z, List.set])
  refine tk (i := 3) (v := ?_) rfl (by kernel_rfl) (fun _ _ _ h => h) (by rfl) (by assumption) ?_ ?_
  rotate_left
  · intro w hSw; (try dsimp only at hSw); go_simp; (try with_reducible rfl)
  (try simp only [put_l, put_z, List.set])
  refine tk (i := 4) (v := ?_) rfl (by kernel_rfl) (fun _ _ _ h => h) (by rfl) (by assumption) ?_ ?_
  rotate_left
  · intro w hSw; (try dsimp only at hSw); go_simp; (try with_reducible rfl)
  (try simp only [put_l, put_z, List.set])
  refine tk (i := 5) (v := ?_) rfl (by kernel_rfl) (fun _ _ _ h => h) (by rfl) (by assumption) ?_ ?_
  rotate_left
  · intro w hSw; (try dsimp only at hSw); go_simp; (try with_reducible rfl)
  (try simp only [put_l, put_z, List.set])
  refine wpAnyH_ready (rs := [6]) (by kernel_rfl) (by simp) ?_
  refine AllReadyH.cons rfl (fun K hK => ?_) AllReadyH.nil
  (go_simp; refine VN.out.mono ?_; rintro e w2 (⟨v2, d2, hx, rfl, M2⟩ | ⟨f', hx, hk, g, hg, rfl, hc⟩); rotate_left; exact bodyPost_panics (Or.inr ⟨f', by have := HR.out; simp only [stepM, hx] at this; cases this; rfl, hk, g, hg, rfl, hc⟩); obtain ⟨q, hq⟩ : ∃ q, wayL n ws o v2 = some q := (by have := HR.out; simp only [stepM, hx] at this; cases hw : wayL n ws o v2 with | none => rw [hw] at this; cases this | some q => exact ⟨q, rfl⟩); have E2 : Hid (r = .ok ({ m with next := q.1 }, d2)) := (by show _ = _; have := HR.out; simp only [stepM, hx, hq] at this; cases this; rfl); have EV : wayV n ws o v2 = .agg #[.int .i64 q.1, .int .i64 q.2] := (by simp [wayV, hq]); obtain ⟨csl, rsl, c0, c1, c2, c3, c4, cf, cl⟩ := M2.cells; obtain ⟨s0, s1, s2, s3, s4, s5, sf, sl⟩ := cbound6 (M2.at (p := (u.heap.size, .cells #[.int .i64 n.low, .int .i64 n.high, .slice x y z, .bool n.wide, .map (some mp), .pointer pa] 321)) (by simp)); have H := Hid.mk (M2.goto q.1).tail; clear M2 hx hq HR; rw [EV])
  refine hK.out _ _ ?_ (fun hHeld => ?_)
  · go_keep
  clear hK K
  (try simp only [put_l, put_z, List.set])
  refine tk (i := 7) (v := ?_) rfl (by kernel_rfl) (fun _ _ _ h => h) (by rfl) (by assumption) ?_ ?_
  rotate_left
  · intro w hSw; (try dsimp only at hSw); go_simp; (try with_reducible rfl)
  (try simp only [put_l, put_z, List.set])
  refine tk (i := 8) (v := ?_) rfl (by kernel_rfl) (fun _ _ _ h => h) (by rfl) (by assumption) ?_ ?_
  rotate_left
  · intro w hSw; (try dsimp only at hSw); go_simp; (try with_reducible rfl)
  (try simp only [put_l, put_z, List.set])
  refine tk (i := 9) (v := ?_) rfl (by kernel_rfl) (fun _ _ _ h => h) (by rfl) (by assumption) ?_ ?_
  rotate_left
  · intro w hSw; (try dsimp only at hSw); go_simp; (try with_reducible rfl)
  (try simp only [put_l, put_z, List.set])
  refine wpAnyH_done (by kernel_rfl) ?_ _
  refine last_step rfl (fun K hK => ?_)
  go_simp
  refine hK.out _ _ ?_
  clear hK K
  (try simp only [put_l, put_z, List.set])
  go_end0
  exact Or.inl ⟨_, d2, E2.out, rfl, H.out⟩
end Go.Proofs.YtmbcibgknckenaaGreatDoor
set_option linter.all false
set_option maxRecDepth 100000
set_option maxHeartbeats 4000000
namespace Go.Proofs.YtmbcibgknckenaaGreatDoor
open Go.RowKit
open Go.MapKept
def StepGood : StepL → Prop
  | .text n _ => 0 ≤ n ∧ n ≤ 4294967295
  | .struct n _ => 0 ≤ n ∧ n ≤ 4294967295
  | .array n _ _ => 0 ≤ n ∧ n ≤ 4294967295
  | .choice _ ws _ => (ws.map (·.1)).Nodup
  | _ => True
structure MOk (m : MSt) : Prop where
  calls : m.calls.length ≤ 1000
  rounds : m.rounds.length ≤ 1000
  left : ∀ p ∈ m.rounds, p.2 ≤ 4294967295
theorem MOk.goto {m : MSt} (h : MOk m) (p : Nat) : MOk { m with next := p } := ⟨h.calls, h.rounds, h.left⟩
theorem stepM_ok {τ : Type} {w : World} {bs : List (Nat × Obj)} {Z : Wkr τ w bs} {x : StepL} {m m' : MSt} {d d' : τ} (hg : StepGood x) (ho : MOk m) (hr : stepM Z.W x m d = some (.ok (m', d'))) : MOk m' := by
  cases x with
  | hole => cases hr
  | fin => cases hr
  | call dest =>
    simp only [stepM] at hr
    split at hr
    · cases hr
    · rename_i hc
      cases he : Z.W.enter m.calls.length d with
      | error f => rw [he] at hr; cases hr
      | ok e => rw [he] at hr; cases hr; exact ⟨by simp; omega, ho.rounds, ho.left⟩
  | ret =>
    simp only [stepM] at hr
    cases hm : m.calls with
    | nil => rw [hm] at hr; cases hr
    | cons k ks =>
      rw [hm] at hr
      cases hr
      have := ho.calls
      rw [hm] at this
      exact ⟨by simp at this ⊢; omega, ho.rounds, ho.left⟩
  | jump dest => cases hr; exact ho.goto _
  | num n =>
    simp only [stepM] at hr
    cases he : Z.W.num n d with
    | error f => rw [he] at hr; cases hr
    | ok e => rw [he] at hr; cases hr; exact ho
  | text n b =>
    simp only [stepM] at hr
    cases he : Z.W.text n b d with
    | error f => rw [he] at hr; cases hr
    | ok e => rw [he] at hr; cases hr; exact ho
  | struct n b =>
    simp only [stepM] at hr
    cases he : Z.W.list n b d with
    | error f => rw [he] at hr; cases hr
    | ok e => obtain ⟨k, e⟩ := e; rw [he] at hr; cases hr; exact ho
  | array n b dest =>
    simp only [stepM] at hr
    split at hr
    · cases hr
    · rename_i hc
      cases he : Z.W.list n b d with
      | error f => rw [he] at hr; cases hr
      | ok e =>
        obtain ⟨k, e⟩ := e
        have hk := Z.small hg.1 hg.2 he
        rw [he] at hr
        cases k with
        | zero => cases hr; exact ho.goto _
        | succ k =>
          cases hr
          refine ⟨ho.calls, by simp; omega, ?_⟩
          intro p hp
          rcases List.mem_cons.1 hp with rfl | hp
          · exact hk
          · exact ho.left p hp
  | again =>
    simp only [stepM] at hr
    cases hm : m.rounds with
    | nil => rw [hm] at hr; cases hr
    | cons p ps =>
      obtain ⟨f, l⟩ := p
      rw [hm] at hr
      have h1 := ho.rounds
      have h2 := ho.left
      rw [hm] at h1 h2
      simp only [Option.some.injEq, Except.ok.injEq, Prod.mk.injEq] at hr
      obtain ⟨rfl, rfl⟩ := hr
      split
      · refine ⟨ho.calls, by simpa using h1, ?_⟩
        intro q hq
        rcases List.mem_cons.1 hq with rfl | hq
        · have := h2 (f, l) (by simp)
          simp only at this ⊢
          omega
        · exact h2 q (List.mem_cons_of_mem _ hq)
      · exact ⟨ho.calls, by simp at h1 ⊢; omega, fun q hq => h2 q (List.mem_cons_of_mem _ hq)⟩
  | choice n ws o =>
    simp only [stepM] at hr
    cases he : Z.W.arm n (fun k => (wayL n ws o k).map (·.2)) d with
    | error f => rw [he] at hr; cases hr
    | ok e =>
      obtain ⟨k, e⟩ := e
      rw [he] at hr
      simp only at hr
      cases hw : wayL n ws o k with
      | none => rw [hw] at hr; cases hr
      | some q => rw [hw] at hr; cases hr; exact ho.goto _
theorem then_num {τ : Type} {r : Except Mar.Fault τ} {m : MSt} : (match r with | .ok d' => Except.ok (m, d') | .error f => .error f) = thenE r fun d' => .ok (m, d') := by
  cases r <;> rfl
def StepRuns {τ : Type} {w : World} {bs : List (Nat × Obj)} (Z : Wkr τ w bs) (Fr : List (Nat × Obj)) (M : Nat) (T : TypeId) (sv : Value) (f : Nat) (m : MSt) (d : τ) (r : Except Mar.Fault (MSt × τ)) : Prop :=
  (∀ k (u : World), (method (k + 1) T sv "marshal/machine.run").run Tryz.prog u = .ok (f, sv) u) ∧ (∀ (args : Array Value) (u : World), (callFunc f args).run Tryz.prog u = .ok (.enter f args) u) ∧ ∀ u, Mc Z Fr M m false d u → Calls Tryz.prog f #[sv, .pointer (some ⟨M, 0, none⟩)] u (GivesSt Z Fr M r)
theorem step_run {τ : Type} {w : World} {bs : List (Nat × Obj)} (Z : Wkr τ w bs) (Fr : List (Nat × Obj)) (M : Nat) {x : StepL} {v : Value} {m : MSt} {d : τ} {r : Except Mar.Fault (MSt × τ)} (hx : StepIn bs v x) (hg : StepGood x) (ho : MOk m) (hr : stepM Z.W x m d = some r) : ∃ T sv f, v = .iface T sv ∧ StepRuns Z Fr M T sv f m d r := by
  cases x with
  | hole => cases hr
  | fin => cases hr
  | call dest =>
    obtain rfl := hx
    simp only [stepM] at hr
    split at hr
    · cases hr
    · rename_i hc
      obtain rfl := Option.some.inj hr
      refine ⟨_, _, 274, rfl, fun _ _ => by kernel_rfl, fun _ _ => by kernel_rfl, fun u h => ?_⟩
      have := Call_run dest (by omega) h
      rw [← then_num] at this
      exact this
  | ret =>
    obtain rfl := hx
    simp only [stepM] at hr
    cases hm : m.calls with
    | nil => rw [hm] at hr; cases hr
    | cons k ks =>
      rw [hm] at hr
      obtain rfl := Option.some.inj hr
      exact ⟨_, _, 270, rfl, fun _ _ => by kernel_rfl, fun _ _ => by kernel_rfl, fun u h => Return_run hm ho.calls h⟩
  | jump dest =>
    obtain rfl := hx
    obtain rfl := Option.some.inj hr
    exact ⟨_, _, 296, rfl, fun _ _ => by kernel_rfl, fun _ _ => by kernel_rfl, fun u h => Jump_run dest h⟩
  | num n =>
    obtain ⟨cs, rfl, hN⟩ := hx
    obtain rfl := Option.some.inj hr
    refine ⟨_, _, 269, rfl, fun _ _ => by kernel_rfl, fun _ _ => by kernel_rfl, fun u h => ?_⟩
    have := Number_run hN h
    rw [← then_num] at this
    exact this
  | text n b =>
    obtain rfl := hx
    obtain rfl := Option.some.inj hr
    refine ⟨_, _, 289, rfl, fun _ _ => by kernel_rfl, fun _ _ => by kernel_rfl, fun u h => ?_⟩
    have := Text_run n b hg.1 hg.2 h
    rw [← then_num] at this
    exact this
  | struct n b =>
    obtain rfl := hx
    obtain rfl := Option.some.inj hr
    refine ⟨_, _, 294, rfl, fun _ _ => by kernel_rfl, fun _ _ => by kernel_rfl, fun u h => ?_⟩
    have := Struct_run n b hg.1 hg.2 h
    have e : (match Z.W.list n b d with | .ok (_, d') => Except.ok (m, d') | .error f => .error f) = thenE (Z.W.list n b d) fun p => .ok (m, p.2) := by cases Z.W.list n b d <;> rfl
    rw [← e] at this
    exact this
  | array n b dest =>
    obtain rfl := hx
    exact ⟨_, _, 298, rfl, fun _ _ => by kernel_rfl, fun _ _ => by kernel_rfl, fun u h => Array_run n b dest hg.1 hg.2 hr h⟩
  | again =>
    obtain rfl := hx
    simp only [stepM] at hr
    cases hm : m.rounds with
    | nil => rw [hm] at hr; cases hr
    | cons p ps =>
      rw [hm] at hr
      obtain ⟨p1, p2⟩ := p
      obtain rfl := Option.some.inj hr
      exact ⟨_, _, 300, rfl, fun _ _ => by kernel_rfl, fun _ _ => by kernel_rfl, fun u h => Again_run hm ho.rounds (ho.left (p1, p2) (by rw [hm]; simp)) h⟩
  | choice n ws o =>
    obtain ⟨cs, mp, ov, rfl, hN, hm, hoo⟩ := hx
    exact ⟨_, _, 295, rfl, fun _ _ => by kernel_rfl, fun _ _ => by kernel_rfl, fun u h => Choice_run hN hm hoo hg hr h⟩
end Go.Proofs.YtmbcibgknckenaaGreatDoor
set_option linter.all false
set_option maxRecDepth 100000
set_option maxHeartbeats 4000000
namespace Go.Proofs.YtmbcibgknckenaaGreatDoor
open Go.RowKit
open Go.MapKept
section
variable {τ : Type} {w u : World} {bs : List (Nat × Obj)} {Z : Wkr τ w bs} {Fr : List (Nat × Obj)} {M : Nat} {m : MSt} {en : Bool} {d : τ}
theorem Mc.start (h : Z.J Fr d u) (p : Nat) : Mc Z Fr u.heap.size ⟨p, [], []⟩ false d (u.alloc (mObj Z p (.slice none 0 0) (.slice none 0 0) false)) :=
  ⟨[], [], .slice none 0 0, .slice none 0 0, Or.inl ⟨rfl, rfl, rfl, rfl⟩, Or.inl ⟨rfl, rfl, rfl, rfl⟩, Z.alloc h _⟩
theorem Mc.drop (h : Mc Z Fr M m en d u) : Z.J Fr d u := by
  obtain ⟨Ec, Er, csl, rsl, h⟩ := h
  refine Z.sub h.j (fun q hq => by simp [hq]) ?_
  have hs : List.Sublist Fr (Ec ++ (Er ++ (M, mObj Z m.next csl rsl en) :: Fr)) := (List.sublist_cons_self _ _).trans ((List.sublist_append_right _ _).trans (List.sublist_append_right _ _))
  exact (Z.nodup h.j).sublist (hs.map _)
theorem Mc.kp (h : Mc Z Fr M m en d u) : Keeps [] w u := Z.kp h.drop
end
def RunInv {τ : Type} {w : World} {bs : List (Nat × Obj)} (Z : Wkr τ w bs) (Fr : List (Nat × Obj)) (M : Nat) (c : List StepL) (z : Except Mar.Fault τ) (k : Nat) (ur : World) : Prop :=
  ∃ m d, (Mc Z Fr M m false d ur ∧ MOk m ∧ runN Z.W c k m d = some z) ∨ (z = .ok d ∧ Mc Z Fr M m true d ur)
theorem runN_step {τ : Type} {W : Wk τ} {c : List StepL} {k : Nat} {m : MSt} {d : τ} {z : Except Mar.Fault τ} (h : runN W c k m d = some z) : ∃ j x, k = j + 1 ∧ c[m.next]? = some x ∧ ((x = .fin ∧ z = .ok d) ∨ (x ≠ .fin ∧ ∃ r, stepM W x { m with next := m.next + 1 } d = some r ∧ ((∃ f, r = .error f ∧ z = .error f) ∨ ∃ m' d', r = .ok (m', d') ∧ runN W c j m' d' = some z))) := by
  cases k with
  | zero => cases h
  | succ j =>
    unfold runN at h
    cases hx : c[m.next]? with
    | none => rw [hx] at h; cases h
    | some x =>
      rw [hx] at h
      refine ⟨j, x, rfl, rfl, ?_⟩
      by_cases hf : x = .fin
      · subst hf
        cases h
        exact Or.inl ⟨rfl, rfl⟩
      · have h' : (match stepM W x { m with next := m.next + 1 } d with
          | none => none
          | some (.error f) => some (.error f)
          | some (.ok (m', d')) => runN W c j m' d') = some z := by
          cases x <;> first | exact absurd rfl hf | exact h
        refine Or.inr ⟨hf, ?_⟩
        cases hs : stepM W x { m with next := m.next + 1 } d with
        | none => rw [hs] at h'; cases h'
        | some r =>
          rw [hs] at h'
          refine ⟨r, rfl, ?_⟩
          cases r with
          | error f => cases h'; exact Or.inl ⟨f, rfl, rfl⟩
          | ok p => exact Or.inr ⟨p.1, p.2, rfl, h'⟩
theorem Run_any {τ : Type} {w u : World} {bs : List (Nat × Obj)} {Z : Wkr τ w bs} {Fr : List (Nat × Obj)} {d : τ} {c : List StepL} {v : Value} {z : Except Mar.Fault τ} {start N : Nat} (hc : CodeIn bs v c) (hw : ∀ p ∈ bs, w.heap[p.1]? = some p.2) (hg : ∀ x ∈ c, StepGood x) (hj : Z.J Fr d u) (hr : runN Z.W c N ⟨start, [], []⟩ d = some z) :
    Calls Tryz.prog 61 #[v, .int .i64 start, .iface Z.T (.pointer (some ⟨Z.D, 0, none⟩))] u (GivesW w Z.J Fr (unitW z) fun _ => .tuple #[]) := by
  obtain ⟨cv, hcv, hlong, hst, hlen⟩ := hc
  obtain ⟨g, cap, rfl, hcap, hcell⟩ : ∃ g cap, v = .slice (some ⟨g, 0, none⟩) c.length cap ∧ c.length ≤ cap ∧ ∀ (ur : World), Keeps [] w ur → ∀ i x, c[i]? = some x → ∃ sv, StepIn bs sv x ∧ ur.cell? ⟨g, i, none⟩ = some sv ∧ g < ur.heap.size := by
    rcases hlong with ⟨rfl, h0, _⟩ | ⟨g, cap, cur, rfl, hcap, hmem, htk⟩
    · obtain ⟨j, x, _, hx, _⟩ := runN_step hr
      rw [List.getElem?_eq_none (by omega)] at hx
      cases hx
    · refine ⟨g, cap, rfl, hcap, fun ur hk i x hx => ?_⟩
      have hgu : ur.heap[g]? = some (.cells cur 226) := (hk.block _ (lt_of_heap (hw _ hmem)) (by simp)).trans (hw _ hmem)
      rw [hcv, List.getElem?_map] at hx
      obtain ⟨p, hp, rfl⟩ := Option.map_eq_some_iff.1 hx
      have hlc : c.length = cv.length := by rw [hcv]; simp
      refine ⟨p.2, hst p (List.mem_of_getElem? hp), row_cell' (xs := cv.map (·.2)) hgu (by simpa [hlc] using htk) (by rw [List.getElem?_map, hp]; rfl), lt_of_heap hgu⟩
  have M0 : Hid (RunInv Z Fr u.heap.size c z N (u.alloc (mObj Z start (.slice none 0 0) (.slice none 0 0) false))) := ⟨_, d, Or.inl ⟨Mc.start hj start, ⟨by simp, by simp, by simp⟩, hr⟩⟩
  have HC := Hid.mk hcell
  have HG := Hid.mk hg
  clear hcell hj hr hg hst hcv hlong hw
  go_enter Tryz.func61, Tryz.ntmps61
  go_wp2
  go_loopg [] N (fun k ur => Hid (RunInv Z Fr u.heap.size c z k ur))
  case atStart => exact M0
  case round =>
    obtain ⟨m, d1, ⟨M1, ho, hr⟩ | ⟨rfl, M1⟩⟩ := hrel.out
    · obtain ⟨csl, rsl, c0, c1, c2, c3, c4, cf, cl⟩ := M1.cells
      obtain ⟨j, x, rfl, hx, hcase⟩ := runN_step hr
      obtain ⟨sv, hsi, hsc, hgl⟩ := HC.out _ M1.kp _ _ hx
      have hlt : m.next < c.length := by
        rcases Nat.lt_or_ge m.next c.length with h | h
        · exact h
        · rw [List.getElem?_eq_none h] at hx; cases hx
      have hgx := HG.out x (List.mem_of_getElem? hx)
      rcases hcase with ⟨rfl, rfl⟩ | ⟨hf, r, hs, hz⟩
      · obtain rfl := hsi
        have hmn : ∀ k (u : World), (method (k + 1) 326 (.agg #[]) "marshal/machine.run").run Tryz.prog u = .ok (297, .agg #[]) u := fun _ _ => by kernel_rfl
        have VE := Hid.mk (End_run (M1.goto (m.next + 1)))
        clear M1 hrel M0 hr hx
        go_wp2_with fail
        refine VE.out.mono ?_
        rintro e w2 ⟨rfl, M2⟩
        have M2 := Hid.mk M2
        go_wp2
        go_roundg j
        case measure => omega
        case rel => exact ⟨_, d1, Or.inr ⟨rfl, M2.out⟩⟩
      · obtain ⟨T, sv, f, rfl, hmn, hen, hcalls⟩ := step_run Z Fr u.heap.size hsi hgx (ho.goto (m.next + 1)) hs
        have VE := Hid.mk (hcalls _ (M1.goto (m.next + 1)))
        have HS := Hid.mk hs
        have HO := Hid.mk (fun m' d' => stepM_ok (Z := Z) (m' := m') (d' := d') (d := d1) hgx (ho.goto (m.next + 1)))
        have HZ := Hid.mk hz
        clear M1 hrel M0 hr hx hcalls hz hs hf hsi hgx ho
        go_wp2_with fail
        refine VE.out.mono ?_
        rintro e w2 (⟨m', d', hx, rfl, M2⟩ | ⟨f', hx, hk, g', hg', rfl, hc'⟩)
        rotate_left
        · refine bodyPost_panics (Or.inr ⟨f', ?_, hk, g', hg', rfl, hc'⟩)
          rcases HZ.out with ⟨f2, h1, rfl⟩ | ⟨m2, d2, h1, _⟩
          · rw [hx] at h1; cases h1; rfl
          · rw [hx] at h1; cases h1
        have M2 := Hid.mk M2
        have HX := Hid.mk hx
        clear hx
        go_wp2
        go_roundg j
        case measure => omega
        case rel =>
          rcases HZ.out with ⟨f2, h1, rfl⟩ | ⟨m2, d2, h1, h2⟩
          · rw [HX.out] at h1; cases h1
          · have h3 := HX.out
            rw [h3] at h1
            cases h1
            have h4 := HS.out
            rw [h3] at h4
            exact ⟨_, _, Or.inl ⟨M2.out, HO.out _ _ h4, h2⟩⟩
    · obtain ⟨csl, rsl, c0, c1, c2, c3, c4, cf, cl⟩ := M1.cells
      have J1 := Hid.mk M1.drop
      clear M1 hrel M0
      go_wp2
      go_end0
      exact Or.inl ⟨(), d1, rfl, rfl, J1.out⟩
end Go.Proofs.YtmbcibgknckenaaGreatDoor
set_option linter.all false
set_option maxRecDepth 100000
set_option maxHeartbeats 4000000
namespace Go.Proofs.YtmbcibgknckenaaGreatDoor
open Go.RowKit
open Go.MapKept
theorem dec_small {b : List UInt8} {dep fuel : Nat} {n : Int} {f : Bool} {d d' : DSt} {k : Nat} (h0 : 0 ≤ n) (h1 : n ≤ 4294967295) (h : (decW b dep fuel).list n f d = .ok (k, d')) : k ≤ 4294967295 := by
  obtain ⟨d1, _, h⟩ := thenE_ok h
  obtain ⟨p, hc, h⟩ := thenE_ok h
  cases h
  unfold countD at hc
  split at hc
  · cases hc
    simp only
    omega
  · obtain ⟨q, _, hq⟩ := thenE_ok hc
    split at hq
    · cases hq
      omega
    · cases hq
theorem of_dc {α : Type} {w : World} {D : Nat} {Fr : List (Nat × Obj)} {b : List UInt8} {dep fuel size : Nat} {r : Except Mar.Fault (α × DSt)} {V : α → Value} {e : Ending} {u' : World} (h : GivesDc w D Fr [] b dep fuel size r V e u') : GivesW w (fun Fr d u => ∃ nsl, DecAt w D Fr [] b dep fuel size d nsl u) Fr r V e u' := by
  rcases h with ⟨a, d', nsl, h1, h2, h3⟩ | h
  · exact Or.inl ⟨a, d', h1, h2, nsl, h3⟩
  · exact Or.inr h
def decZ {w : World} {bs : List (Nat × Obj)} (hw : ∀ p ∈ bs, w.heap[p.1]? = some p.2) (D : Nat) (b : List UInt8) (dep fuel size : Nat) (hfu : fuel ≤ 10000) : Wkr DSt w bs where
  W := decW b dep fuel
  T := 137
  D := D
  J := fun Fr d u => ∃ nsl, DecAt w D Fr [] b dep fuel size d nsl u
  base := by
    rintro Fr d u ⟨nsl, h⟩
    exact ⟨_, _, h.own, fun hk hM ho => ⟨nsl, h.beside hk hM ho⟩⟩
  fE := 324
  fN := 326
  fT := 327
  fL := 325
  fA := 323
  mE := fun _ _ => by kernel_rfl
  mN := fun _ _ => by kernel_rfl
  mT := fun _ _ => by kernel_rfl
  mL := fun _ _ => by kernel_rfl
  mA := fun _ _ => by kernel_rfl
  eE := fun _ _ => by kernel_rfl
  eN := fun _ _ => by kernel_rfl
  eT := fun _ _ => by kernel_rfl
  eL := fun _ _ => by kernel_rfl
  eA := fun _ _ => by kernel_rfl
  cE := by
    rintro Fr d u k hk ⟨nsl, h⟩
    exact (Enter_any k (by omega) h).mono fun e u' => of_dc
  cN := by
    rintro Fr d u cs n hN ⟨nsl, h⟩
    exact (DNumber_any hN hw hfu h).mono fun e u' => of_dc
  cT := by
    rintro Fr d u n f h0 h1 ⟨nsl, h⟩
    exact (DText_any n f h0 h1 hfu h).mono fun e u' => of_dc
  cL := by
    rintro Fr d u n f h0 h1 ⟨nsl, h⟩
    exact (DList_any n f h0 h1 hfu h).mono fun e u' => of_dc
  cA := by
    rintro Fr d u cs n m ws ov o hN hm ho nd ⟨nsl, h⟩
    exact (DArm_any hN hm ho nd hw hfu h).mono fun e u' => of_dc
  small := dec_small
end Go.Proofs.YtmbcibgknckenaaGreatDoor
set_option linter.all false
set_option maxRecDepth 100000
set_option maxHeartbeats 4000000
namespace Go.Proofs.YtmbcibgknckenaaGreatDoor
open Go.RowKit
open Go.MapKept
theorem cNew_any (b : ByteArray) (w : World) : Calls Tryz.prog 62 #[.string b] w fun e w' => e = .returned (.agg #[.string b, .int .i64 0]) ∧ w' = w.alloc (.cells #[.string b, .int .i64 0] 139) := by
  go_enter Tryz.func62, Tryz.ntmps62
  go_wp2
  refine bodyPost_ret (v := .agg #[.string b, .int .i64 0]) (by simp [results, Tryz.results62, go_sem]) rfl ⟨rfl, rfl⟩
theorem DecAt.fresh {w u : World} (hk : Keeps [] w u) {b : List UInt8} {dep fuel size : Nat} (hl : b.length ≤ 100000) : DecAt w u.heap.size [] [] b dep fuel size ⟨0, []⟩ (.slice none 0 0) (u.alloc (.cells #[.string ⟨b.toArray⟩, .int .i64 0, .int .i64 dep, .int .i64 fuel, .int .i64 size, .slice none 0 0] 142)) := by
  refine ⟨⟨hk.alloc _, ?_, ?_, ?_, ?_, ?_, ?_, ?_, ?_⟩, heap_alloc_at rfl, ⟨rfl, Or.inl ⟨rfl, rfl⟩⟩, by simp, hl, by simp⟩
  · intro y hy
    simp [Value.ownBlock] at hy
    subst hy
    exact hk.size
  · intro y hy
    simp [Value.ownBlock] at hy
    subst hy
    simp
  · simp [Value.ownBlock]
  · intro p hp; cases hp
  · intro p hp; cases hp
  · simp
  · intro p hp; cases hp
  · intro p hp; cases hp
def GivesVal (w : World) (r : Except Mar.Fault (List NodeL)) (e : Ending) (u' : World) : Prop :=
  (∃ ns v, r = .ok ns ∧ e = .returned v ∧ Keeps [] w u' ∧ u'.ownsRow w.heap.size 48 5 v ns.length (ns.flatMap nodeC)) ∨ (∃ f, r = .error f ∧ Keeps [] w u' ∧ Thrown w f.no f.at' e u')
theorem GivesVal.throws {w u u' : World} {r : Except Mar.Fault (List NodeL)} {f : Mar.Fault} {g : Nat} (hr : r = .error f) (hk : Keeps [] w u) (hb : Keeps [] u u') (hg : u.heap.size ≤ g) (hc : u'.heap[g]? = some (.cells #[.int .i64 f.no, .int .i64 f.at'] 83)) :
    GivesVal w r (.panicked [{ v := .iface 79 (.pointer (some ⟨g, 0, none⟩)), recovered := false }]) u' :=
  Or.inr ⟨f, hr, hk.young hb (by simp), g, Nat.le_trans hk.size hg, rfl, hc⟩
theorem Value_c {w : World} {bs : List (Nat × Obj)} {c : List StepL} {v : Value} {b : List UInt8} {dep fuel size start N : Nat} {z : Except Mar.Fault DSt} (hc : CodeIn bs v c) (hw : ∀ p ∈ bs, w.heap[p.1]? = some p.2) (hg : ∀ x ∈ c, StepGood x) (hfu : fuel ≤ 10000) (hsz : size ≤ 100000) (hdp : dep ≤ 64) (hbl : b.length ≤ maxLen) (hr : runN (decW b dep fuel) c N ⟨start, [], []⟩ ⟨0, []⟩ = some z) :
    Calls Tryz.prog 35 #[v, .int .i64 start, .string ⟨b.toArray⟩, .agg #[.int .i64 dep, .int .i64 fuel, .int .i64 size]] w (GivesVal w (if size < b.length then .error ⟨14, 0⟩ else thenE z fun d => if d.pos < b.length then .error ⟨20, d.pos⟩ else .ok d.nodes)) := by
  have hmx : (b.length : Int) ≤ 9223372036854775807 := by unfold maxLen at hbl; omega
  generalize hR : (if size < b.length then Except.error ⟨14, 0⟩ else thenE z fun d => if d.pos < b.length then Except.error ⟨20, d.pos⟩ else .ok d.nodes) = R
  have HC := Hid.mk hc
  have HW := Hid.mk hw
  have HG := Hid.mk hg
  have HR := Hid.mk hr
  clear hc hw hg hr
  by_cases hs : size < b.length
  · have E : Hid (R = .error ⟨14, 0⟩) := by show _ = _; rw [← hR, if_pos hs]
    have hsi : (size : Int) < (b.length : Int) := by omega
    clear hR
    go_enter Tryz.func35, Tryz.ntmps35
    go_wp2_with (go_at_call 47; refine (New_any _ _ _).mono ?_; rintro e w' ⟨rfl, rfl⟩)
    exact bodyPost_panics (GivesVal.throws (f := ⟨14, 0⟩) E.out ((Keeps.refl [] w).alloc _) ((Keeps.refl [] _).alloc _) (by simp) (heap_alloc_at (by simp)))
  · have hR' : Hid (R = thenE z fun d => if d.pos < b.length then Except.error ⟨20, d.pos⟩ else .ok d.nodes) := by show _ = _; rw [← hR, if_neg hs]
    have hsi : (b.length : Int) ≤ (size : Int) := by omega
    have J0 : Hid (∀ o1 o2, (decZ HW.out (w.heap.size + 1 + 1) b dep fuel size hfu).J [] ⟨0, []⟩ (((w.alloc o1).alloc o2).alloc (.cells #[.string ⟨b.toArray⟩, .int .i64 0, .int .i64 dep, .int .i64 fuel, .int .i64 size, .slice none 0 0] 142)).drew) := by
      intro o1 o2
      have h := DecAt.fresh (u := (w.alloc o1).alloc o2) (((Keeps.refl [] w).alloc o1).alloc o2) (b := b) (dep := dep) (fuel := fuel) (size := size) (by omega)
      have e : ((w.alloc o1).alloc o2).heap.size = w.heap.size + 1 + 1 := by simp
      rw [e] at h
      exact ⟨_, h.below (Below.refl _ _).drew⟩
    clear hR
    go_enter Tryz.func35, Tryz.ntmps35
    go_wp2_with fail
    refine region_last (fun w' => w'.cell? ⟨w.heap.size, 0, none⟩ = some (.int .i64 dep) ∧ w'.cell? ⟨w.heap.size, 1, none⟩ = some (.int .i64 fuel) ∧ w'.cell? ⟨w.heap.size, 2, none⟩ = some (.int .i64 size)) (L := 5) (by kernel_rfl) rfl (by kernel_rfl) (by kernel_rfl) ?_ (fun hHeld => ?_)
    · go_keep
    refine tk (i := 0) (v := ?_) rfl (by kernel_rfl) (fun _ _ _ h => h) (by rfl) (by assumption) ?_ ?_
    rotate_left
    · intro w hSw; (try dsimp only at hSw); go_simp; (try with_reducible rfl)
    (try simp only [put_l, put_z, List.set])
    refine tk (i := 2) (v := ?_) rfl (by kernel_rfl) (fun _ _ _ h => h) (by rfl) (by assumption) ?_ ?_
    rotate_left
    · intro w hSw; (try dsimp only at hSw); go_simp; (try with_reducible rfl)
    (try simp only [put_l, put_z, List.set])
    refine wpAnyH_ready (rs := [1]) (by kernel_rfl) (by simp) ?_
    refine AllReadyH.cons rfl (fun K hK => ?_) AllReadyH.nil
    (go_simp; go_at_call 62; refine (cNew_any _ _).mono ?_; rintro e w1 ⟨rfl, rfl⟩)
    refine hK.out _ _ ?_ (fun hHeld => ?_)
    · go_keep
    clear hK K
    (try simp only [put_l, put_z, List.set])
    refine tk (i := 3) (v := ?_) rfl (by kernel_rfl) (fun _ _ _ h => h) (by rfl) (by assumption) ?_ ?_
    rotate_left
    · intro w hSw; (try dsimp only at hSw); go_simp; (try with_reducible rfl)
    (try simp only [put_l, put_z, List.set])
    refine wpAnyH_ready (rs := [4]) (by kernel_rfl) (by simp) ?_
    refine AllReadyH.cons rfl (fun K hK => ?_) AllReadyH.nil
    go_simp
    refine hK.out _ _ ?_ (fun hHeld => ?_)
    · go_keep
    clear hK K
    (try simp only [put_l, put_z, List.set])
    refine wpAnyH_done (by kernel_rfl) ?_ _
    refine last_step rfl (fun K hK => ?_)
    go_simp
    refine hK.out _ _ ?_
    clear hK K
    (try simp only [put_l, put_z, List.set])
    go_wp2_with fail
    refine (Run_any (Z := decZ HW.out (w.heap.size + 1 + 1) b dep fuel size hfu) (Fr := []) (d := ⟨0, []⟩) HC.out HW.out HG.out (J0.out _ _) HR.out).mono ?_
    rintro e w2 (⟨_, d2, hx, rfl, nsl, M2⟩ | ⟨f, hx, hk, g, hg, rfl, hc⟩)
    rotate_left
    · exact bodyPost_panics (Or.inr ⟨f, by rw [hR'.out, unitW_err hx]; rfl, hk, g, hg, rfl, hc⟩)
    have E0 : Hid (R = if d2.pos < b.length then Except.error ⟨20, d2.pos⟩ else .ok d2.nodes) := by show _ = _; rw [hR'.out, unitW_ok hx]; rfl
    have VL := Hid.mk (Left_any M2)
    have VA := Hid.mk (At_any (M2.below (Below.refl _ _).drew))
    obtain ⟨c0, c1, c2, c3, c4, c5, hfz, hlt⟩ := M2.cells
    have hp := M2.pos
    have H2 := Hid.mk M2
    clear M2 hx J0 hR'
    by_cases ht : d2.pos < b.length
    · have E : Hid (R = .error ⟨20, d2.pos⟩) := by show _ = _; rw [E0.out, if_pos ht]
      have hti : (d2.pos : Int) < (b.length : Int) := by omega
      clear E0
      go_wp2_with (first
        | (go_at_call 63; refine VL.out.mono ?_; rintro e w3 ⟨rfl, rfl⟩)
        | (go_at_call 64; refine VA.out.mono ?_; rintro e w3 ⟨rfl, rfl⟩)
        | (go_at_call 47; refine (New_any _ _ _).mono ?_; rintro e w' ⟨rfl, rfl⟩))
      exact bodyPost_panics (GivesVal.throws (f := ⟨20, d2.pos⟩) E.out H2.out.own.kp ((Keeps.refl [] _).drew.alloc _) (by simp) (heap_alloc_at (by simp)))
    · have E : Hid (R = .ok d2.nodes) := by show _ = _; rw [E0.out, if_neg ht]
      have hti : (b.length : Int) = (d2.pos : Int) := by omega
      clear E0 ht
      go_wp2_with (go_at_call 63; refine VL.out.mono ?_; rintro e w3 ⟨rfl, rfl⟩)
      go_ret
      exact Or.inl ⟨_, _, E.out, rfl, H2.out.own.kp.drew, owns_keeps H2.out.row (Keeps.refl [] _).drew (by simp)⟩
end Go.Proofs.YtmbcibgknckenaaGreatDoor
set_option linter.all false
set_option maxRecDepth 100000
set_option maxHeartbeats 4000000
namespace Go.Proofs.YtmbcibgknckenaaGreatDoor
open Go.RowKit
open Go.MapKept
def upToB (n m : Int) : Bool := decide (0 ≤ n) && decide (n ≤ m)
theorem upTo_any (n m : Int) (w : World) : Calls Tryz.prog 71 #[.int .i64 n, .int .i64 m] w fun e w' => e = .returned (.bool (upToB n m)) ∧ w' = w := by
  by_cases h0 : 0 ≤ n
  · have E : Hid (upToB n m = decide (n ≤ m)) := by show _ = _; simp [upToB, h0]
    go_enter Tryz.func71, Tryz.ntmps71
    go_wp2
    go_ret
    exact ⟨by rw [E.out]; rfl, rfl⟩
  · have E : Hid (upToB n m = false) := by show _ = _; simp [upToB, h0]
    have h1 : n < 0 := by omega
    go_enter Tryz.func71, Tryz.ntmps71
    go_wp2
    go_ret
    exact ⟨by rw [E.out]; rfl, rfl⟩
def startD (places : List (List UInt8 × Nat)) (n : List UInt8) (dep fuel size : Int) : Except Nat Nat := match mlook places n with
  | none => .error 10
  | some p => if upToB dep 64 && upToB fuel 10000 && upToB size 100000 then .ok p else .error 11
def startV : Except Nat Nat → Value
  | .ok p => .tuple #[.int .i64 p, .nilIface]
  | .error k => .tuple #[.int .i64 0, .iface 50 (.int .i64 k)]
theorem starts_look {W : World} {m : Nat} {l : List (List UInt8 × Nat)} (hb : W.heap[m]? = some (placesObj l)) (nd : (l.map (·.1)).Nodup) (k : List UInt8) :
    (Instr.lookup 64 (.map (some m)) (.string ⟨k.toArray⟩) true).run Tryz.prog W = .ok (match mlook l k with
      | some q => .tuple #[.int .i64 q, .bool true]
      | none => .tuple #[.int .i64 0, .bool false]) W := by
  have hh := mapObj_look (P := Tryz.prog) (T := 64) (kt := 9) (et := 3) (d := .string) (by kernel_rfl) (by kernel_rfl) (fun k : List UInt8 => .string ⟨k.toArray⟩) (fun k : Nat => .int .i64 k) (fun _ => trivial) string_inj hb nd (z := .int .i64 0) (by kernel_rfl) k true
  cases hm : mlook l k with
  | none => rw [hm] at hh; exact hh
  | some v => rw [hm] at hh; exact hh
theorem cbound4f {b : Nat} {c0 c1 c2 c3 : Value} {T : TypeId} {w : World} (h : w.heap[b]? = some (.cells #[c0, c1, c2, c3] T)) :
    w.cell? ⟨b, 0, none⟩ = some c0 ∧ w.cell? ⟨b, 1, none⟩ = some c1 ∧ w.cell? ⟨b, 2, none⟩ = some c2 ∧ (∀ i, w.frozen? ⟨b, i, none⟩ = false) ∧ b < w.heap.size := by
  refine ⟨?_, ?_, ?_, ?_, lt_of_heap h⟩ <;> simp [World.cell?, World.frozen?, h]
theorem cbound3f {b : Nat} {c0 c1 c2 : Value} {T : TypeId} {w : World} (h : w.heap[b]? = some (.cells #[c0, c1, c2] T)) :
    w.cell? ⟨b, 0, none⟩ = some c0 ∧ w.cell? ⟨b, 1, none⟩ = some c1 ∧ w.cell? ⟨b, 2, none⟩ = some c2 ∧ (∀ i, w.frozen? ⟨b, i, none⟩ = false) ∧ b < w.heap.size := by
  refine ⟨?_, ?_, ?_, ?_, lt_of_heap h⟩ <;> simp [World.cell?, World.frozen?, h]
def mayB (dep fuel size : Int) : Bool := upToB dep 64 && upToB fuel 10000 && upToB size 100000
theorem may_any (dep fuel size : Int) (w : World) : Calls Tryz.prog 60 #[.agg #[.int .i64 dep, .int .i64 fuel, .int .i64 size]] w fun e w' => e = .returned (.bool (mayB dep fuel size)) ∧ Below w.heap.size w w' := by
  have hb : ∀ o, Below w.heap.size w (w.alloc o) := fun o => (Below.refl _ _).alloc (Nat.le_refl _) _
  cases h1 : upToB dep 64 with
  | false =>
    have E : Hid (mayB dep fuel size = false) := by show _ = _; simp [mayB, h1]
    go_enter Tryz.func60, Tryz.ntmps60
    go_wp2_with (go_at_call 71; refine (upTo_any _ _ _).mono ?_; rintro e w1 ⟨rfl, rfl⟩; simp only [h1])
    go_ret
    exact ⟨by rw [E.out]; rfl, hb _⟩
  | true =>
    cases h2 : upToB fuel 10000 with
    | false =>
      have E : Hid (mayB dep fuel size = false) := by show _ = _; simp [mayB, h1, h2]
      go_enter Tryz.func60, Tryz.ntmps60
      go_wp2_with (go_at_call 71; refine (upTo_any _ _ _).mono ?_; rintro e w1 ⟨rfl, rfl⟩; try simp only [h1, h2])
      go_ret
      exact ⟨by rw [E.out]; rfl, hb _⟩
    | true =>
      cases h3 : upToB size 100000 with
      | false =>
        have E : Hid (mayB dep fuel size = false) := by show _ = _; simp [mayB, h1, h2, h3]
        go_enter Tryz.func60, Tryz.ntmps60
        go_wp2_with (go_at_call 71; refine (upTo_any _ _ _).mono ?_; rintro e w1 ⟨rfl, rfl⟩; try simp only [h1, h2, h3])
        go_ret
        exact ⟨by rw [E.out]; rfl, hb _⟩
      | true =>
        have E : Hid (mayB dep fuel size = true) := by show _ = _; simp [mayB, h1, h2, h3]
        go_enter Tryz.func60, Tryz.ntmps60
        go_wp2_with (go_at_call 71; refine (upTo_any _ _ _).mono ?_; rintro e w1 ⟨rfl, rfl⟩; try simp only [h1, h2, h3])
        go_ret
        exact ⟨by rw [E.out]; rfl, hb _⟩
theorem start_c {w : World} {B S P : Nat} {dsl v : Value} {places : List (List UInt8 × Nat)} (hB : w.heap[B]? = some (.cells #[dsl, v, .map (some S), .map (some P)] 70)) (hS : w.heap[S]? = some (placesObj places)) (nd : (places.map (·.1)).Nodup) (n : List UInt8) (dep fuel size : Int) :
    Calls Tryz.prog 32 #[.pointer (some ⟨B, 0, none⟩), .string ⟨n.toArray⟩, .agg #[.int .i64 dep, .int .i64 fuel, .int .i64 size]] w fun e w' => e = .returned (startV (startD places n dep fuel size)) ∧ Below w.heap.size w w' := by
  obtain ⟨c0, c1, c2, cf, cl⟩ := cbound4f hB
  have hb : ∀ o, Below w.heap.size w (w.alloc o) := fun o => (Below.refl _ _).alloc (Nat.le_refl _) _
  have hlk : ∀ o, (Instr.lookup 64 (.map (some S)) (.string ⟨n.toArray⟩) true).run Tryz.prog (w.alloc o) = .ok (match mlook places n with
      | some q => .tuple #[.int .i64 q, .bool true]
      | none => .tuple #[.int .i64 0, .bool false]) (w.alloc o) := fun o => starts_look (((hb o).block _ (lt_of_heap hS)).trans hS) nd n
  cases hm : mlook places n with
  | none =>
    have E : Hid (startD places n dep fuel size = .error 10) := by show _ = _; simp [startD, hm]
    simp only [hm] at hlk
    clear hB hS hm
    go_enter Tryz.func32, Tryz.ntmps32
    go_wp2
    exact bodyPost_ret (v := .tuple #[.int .i64 0, .iface 50 (.int .i64 10)]) (by simp [results, Tryz.results32, go_sem]) rfl ⟨by rw [E.out]; rfl, hb _⟩
  | some p =>
    have E : Hid (startD places n dep fuel size = if mayB dep fuel size then .ok p else .error 11) := by show _ = _; simp [startD, mayB, hm]
    simp only [hm] at hlk
    clear hB hS hm
    cases h1 : mayB dep fuel size with
    | false =>
      have E : Hid (startD places n dep fuel size = .error 11) := by show _ = _; rw [E.out, h1]; rfl
      go_enter Tryz.func32, Tryz.ntmps32
      go_wp2_with fail
      refine (may_any _ _ _ _).mono ?_
      rintro e w1 ⟨rfl, hb1⟩
      rw [h1]
      have hb2 := Hid.mk ((hb _).trans (hb1.mono (by simp)))
      clear hb1
      go_wp2
      exact bodyPost_ret (v := .tuple #[.int .i64 0, .iface 50 (.int .i64 11)]) (by simp [results, Tryz.results32, go_sem]) rfl ⟨by rw [E.out]; rfl, hb2.out⟩
    | true =>
      have E : Hid (startD places n dep fuel size = .ok p) := by show _ = _; rw [E.out, h1]; rfl
      go_enter Tryz.func32, Tryz.ntmps32
      go_wp2_with fail
      refine (may_any _ _ _ _).mono ?_
      rintro e w1 ⟨rfl, hb1⟩
      rw [h1]
      have hb2 := Hid.mk ((hb _).trans (hb1.mono (by simp)))
      clear hb1
      go_wp2
      exact bodyPost_ret (v := .tuple #[.int .i64 p, .nilIface]) (by simp [results, Tryz.results32, go_sem]) rfl ⟨by rw [E.out]; rfl, hb2.out⟩
end Go.Proofs.YtmbcibgknckenaaGreatDoor
set_option linter.all false
set_option maxRecDepth 100000
set_option maxHeartbeats 4000000
namespace Go.Proofs.YtmbcibgknckenaaGreatDoor
open Go.RowKit
open Go.MapKept
theorem neqE (x : Value) (w : World) : (binOp BinOp.neq 24 (.iface 50 x) .nilIface).run Tryz.prog w = .ok (.bool true) w := by kernel_rfl
theorem neqE_nil (w : World) : (binOp BinOp.neq 24 .nilIface .nilIface).run Tryz.prog w = .ok (.bool false) w := by kernel_rfl
theorem dec1_idle (p q : Addr) (w : World) :
    CallsD Tryz.prog 34 #[.pointer (some p), .pointer (some q)] .returning w fun e u' w' => e = .returned (.tuple #[]) ∧ u' = .returning ∧ w' = w := by
  have hn := neq_nil_nil
  refine callsD_of_wpS Tryz.func34 rfl fun c₀ cs hu => ?_
  apply wpS_seq
  apply wpS_region
  simp [wpOpsS, go_sem, recoverD, hu, Tryz.ntmps34, Exit.thenS]
  apply wpS_seq
  apply wpS_region
  simp [wpOpsS, go_sem, Exit.thenS, hn]
  refine wpS_cond (t := false) (by simp [Act.eval, Array.replicate]) ?_
  simp only [Bool.false_eq_true, if_false]
  refine wpS_of_wp (wp_skip ?_)
  cases c₀
  simp_all [bodyPostS, results, Tryz.results34]
theorem dec1_caught (P Q b : Nat) (x y : Value) (older : List PanicEntry) (w : World) (h1 : w.cell? ⟨P, 0, none⟩ = some x) (h2 : w.cell? ⟨Q, 0, none⟩ = some y) (f1 : w.frozen? ⟨P, 0, none⟩ = false) (f2 : w.frozen? ⟨Q, 0, none⟩ = false) (hne : P ≠ Q) :
    CallsD Tryz.prog 34 #[.pointer (some ⟨P, 0, none⟩), .pointer (some ⟨Q, 0, none⟩)] (.panicking ({ v := .iface 79 (.pointer (some ⟨b, 0, none⟩)), recovered := false } :: older)) w fun e u' w' =>
      e = .returned (.tuple #[]) ∧ u' = .panicking ({ v := .iface 79 (.pointer (some ⟨b, 0, none⟩)), recovered := true } :: older) ∧ w' = (w.setCell ⟨P, 0, none⟩ (.slice none 0 0)).setCell ⟨Q, 0, none⟩ (.iface 79 (.pointer (some ⟨b, 0, none⟩))) := by
  have hn := neq_nil 79
  refine callsD_of_wpS Tryz.func34 rfl fun c₀ cs hu => ?_
  apply wpS_seq
  apply wpS_region
  simp [wpOpsS, go_sem, recoverD, hu, Tryz.ntmps34, Exit.thenS]
  apply wpS_seq
  apply wpS_region
  simp [wpOpsS, go_sem, Exit.thenS, hn]
  refine wpS_cond (t := true) (by simp [Act.eval, Array.replicate]) ?_
  simp only [if_true]
  refine wpS_of_wp ?_
  go_wp2_with fail
  refine (Caught_any b w).mono ?_
  rintro e w2 ⟨rfl, rfl⟩
  go_wp2
  cases c₀
  simp_all [bodyPostS, results, Tryz.results34]
theorem owns_base {w : World} {b b' : Nat} {t : TypeId} {sz n : Nat} {v : Value} {xs : List Value} (h : w.ownsRow b t sz v n xs) (hb : b' ≤ b) : w.ownsRow b' t sz v n xs := by
  refine ⟨h.1, ?_⟩
  rcases h.2 with h | ⟨g, cap, cur, h1, h2, h3⟩
  · exact Or.inl h
  · exact Or.inr ⟨g, cap, cur, h1, Nat.le_trans hb h2, h3⟩
theorem owns_slice {w : World} {b : Nat} {t : TypeId} {sz n : Nat} {v : Value} {xs : List Value} (h : w.ownsRow b t sz v n xs) : ∃ ad cap, v = .slice ad n cap := by
  rcases h.2 with ⟨rfl, h0⟩ | ⟨g, cap, cur, rfl, _⟩
  · exact ⟨none, 0, by rw [h0]⟩
  · exact ⟨_, _, rfl⟩
def GivesDe (w : World) (s : Except Nat Nat) (r : Except Mar.Fault (List NodeL)) (e : Ending) (u' : World) : Prop := Keeps [] w u' ∧
  ((∃ k, s = .error k ∧ e = .returned (.tuple #[.slice none 0 0, .iface 50 (.int .i64 k)])) ∨
   (∃ p ns v, s = .ok p ∧ r = .ok ns ∧ e = .returned (.tuple #[v, .nilIface]) ∧ u'.ownsRow w.heap.size 48 5 v ns.length (ns.flatMap nodeC)) ∨
   (∃ p f g, s = .ok p ∧ r = .error f ∧ e = .returned (.tuple #[.slice none 0 0, .iface 79 (.pointer (some ⟨g, 0, none⟩))]) ∧ w.heap.size ≤ g ∧ u'.heap[g]? = some (.cells #[.int .i64 f.no, .int .i64 f.at'] 83)))
theorem Decode_none {w : World} {B S P : Nat} {dsl v : Value} {places : List (List UInt8 × Nat)} (hB : w.heap[B]? = some (.cells #[dsl, v, .map (some S), .map (some P)] 70)) (hS : w.heap[S]? = some (placesObj places)) (nd : (places.map (·.1)).Nodup) (n : List UInt8) (b : List UInt8) (dep fuel size : Int) {k : Nat} (hs : startD places n dep fuel size = .error k) (r : Except Mar.Fault (List NodeL)) :
    Calls Tryz.prog 17 #[.pointer (some ⟨B, 0, none⟩), .string ⟨n.toArray⟩, .string ⟨b.toArray⟩, .agg #[.int .i64 dep, .int .i64 fuel, .int .i64 size]] w (GivesDe w (.error k) r) := by
  have hmf : ∀ (fn : Fn) (first cap : Array Value) (w : World), (Instr.makeFunc fn first cap).run Tryz.prog w = .ok (.func fn first cap) w := fun _ _ _ _ => rfl
  have hnq := neqE
  have hb0 : Below w.heap.size w (((w.alloc (.cells #[.int .i64 dep, .int .i64 fuel, .int .i64 size] 33)).alloc (.cells #[.slice none 0 0] 29)).alloc (.cells #[.nilIface] 24)) := (((Below.refl _ _).alloc (Nat.le_refl _) _).alloc (by simp) _).alloc (by simp; omega) _
  have VS := Hid.mk (start_c ((hb0.block _ (lt_of_heap hB)).trans hB) ((hb0.block _ (lt_of_heap hS)).trans hS) nd n dep fuel size)
  rw [hs] at VS
  have o1 : (((w.alloc (.cells #[.int .i64 dep, .int .i64 fuel, .int .i64 size] 33)).alloc (.cells #[.slice none 0 0] 29)).alloc (.cells #[.nilIface] 24)).heap[w.heap.size + 1]? = some (.cells #[.slice none 0 0] 29) := (Below.heap_alloc _ _ _ (by simp)).trans (heap_alloc_at (by simp))
  have o2 : (((w.alloc (.cells #[.int .i64 dep, .int .i64 fuel, .int .i64 size] 33)).alloc (.cells #[.slice none 0 0] 29)).alloc (.cells #[.nilIface] 24)).heap[w.heap.size + 1 + 1]? = some (.cells #[.nilIface] 24) := heap_alloc_at (by simp)
  clear hB hS hs
  go_enter_defers Tryz.func17, Tryz.ntmps17
  go_wp2_with fail
  refine VS.out.mono ?_
  rintro e w1 ⟨rfl, hb1⟩
  have p1 := (hb1.block _ (lt_of_heap o1)).trans o1
  have p2 := (hb1.block _ (lt_of_heap o2)).trans o2
  have c1 := bound1 p1
  have c2 := bound1 p2
  have f1 : ∀ i, w1.frozen? ⟨w.heap.size + 1, i, none⟩ = false := by intro i; simp [World.frozen?, p1]
  have f2 : ∀ i, w1.frozen? ⟨w.heap.size + 1 + 1, i, none⟩ = false := by intro i; simp [World.frozen?, p2]
  have l2 := lt_of_heap p2
  have K1 := Hid.mk (hb0.trans (hb1.mono hb0.size))
  clear hb1 VS o1 o2 hb0
  unfold startV
  go_wp2
  have q1 : ∀ x, (w1.setCell ⟨w.heap.size + 1 + 1, 0, none⟩ x).heap[w.heap.size + 1]? = some (.cells #[.slice none 0 0] 29) := fun x => (Below.heap_setCell _ _ _ _ (by simp)).trans p1
  have q2 : ∀ x, (w1.setCell ⟨w.heap.size + 1 + 1, 0, none⟩ x).heap[w.heap.size + 1 + 1]? = some (.cells #[x] 24) := fun x => setBlock (i := 0) p2 x
  have r1 : ∀ x y, ((w1.setCell ⟨w.heap.size + 1 + 1, 0, none⟩ x).setCell ⟨w.heap.size + 1, 0, none⟩ y).heap[w.heap.size + 1]? = some (.cells #[y] 29) := fun x y => setBlock (i := 0) (q1 x) y
  have r2 : ∀ x y, ((w1.setCell ⟨w.heap.size + 1 + 1, 0, none⟩ x).setCell ⟨w.heap.size + 1, 0, none⟩ y).heap[w.heap.size + 1 + 1]? = some (.cells #[x] 24) := fun x y => (Below.heap_setCell _ _ _ _ (by simp)).trans (q2 x)
  have c1' := fun x => bound1 (q1 x)
  have c2' := fun x => bound1 (q2 x)
  have c1'' := fun x y => bound1 (r1 x y)
  have c2'' := fun x y => bound1 (r2 x y)
  have f1' : ∀ x i, (w1.setCell ⟨w.heap.size + 1 + 1, 0, none⟩ x).frozen? ⟨w.heap.size + 1, i, none⟩ = false := by intro x i; simp [World.frozen?, q1 x]
  have f2' : ∀ x y i, ((w1.setCell ⟨w.heap.size + 1 + 1, 0, none⟩ x).setCell ⟨w.heap.size + 1, 0, none⟩ y).frozen? ⟨w.heap.size + 1 + 1, i, none⟩ = false := by intro x y i; simp [World.frozen?, r2 x y]
  have z1 : ∀ x y z, (((w1.setCell ⟨w.heap.size + 1 + 1, 0, none⟩ x).setCell ⟨w.heap.size + 1, 0, none⟩ y).setCell ⟨w.heap.size + 1 + 1, 0, none⟩ z).cell? ⟨w.heap.size + 1, 0, none⟩ = some y := fun x y z => bound1 ((Below.heap_setCell _ _ _ _ (by simp)).trans (r1 x y))
  have z2 : ∀ x y z, (((w1.setCell ⟨w.heap.size + 1 + 1, 0, none⟩ x).setCell ⟨w.heap.size + 1, 0, none⟩ y).setCell ⟨w.heap.size + 1 + 1, 0, none⟩ z).cell? ⟨w.heap.size + 1 + 1, 0, none⟩ = some z := fun x y z => bound1 (setBlock (i := 0) (r2 x y) z)
  have HK : Hid (∀ x y z, Keeps [] w (((w1.setCell ⟨w.heap.size + 1 + 1, 0, none⟩ x).setCell ⟨w.heap.size + 1, 0, none⟩ y).setCell ⟨w.heap.size + 1 + 1, 0, none⟩ z).drew) := fun x y z => ((((Keeps.of_below [] K1.out).setNew (p := ⟨w.heap.size + 1 + 1, 0, none⟩) (by simp; omega) x).setNew (p := ⟨w.heap.size + 1, 0, none⟩) (by simp) y).setNew (p := ⟨w.heap.size + 1 + 1, 0, none⟩) (by simp; omega) z).drew
  have Z1 := Hid.mk z1
  have Z2 := Hid.mk z2
  clear p1 p2 q1 q2 r1 r2 z1 z2
  go_region
  go_wp2
  refine leaves_cons (f := 34) (args := #[.pointer (some ⟨w.heap.size + 1, 0, none⟩), .pointer (some ⟨w.heap.size + 1 + 1, 0, none⟩)]) (by simp) (by simp [go_sem]) ?_
  refine (dec1_idle _ _ _).mono ?_
  rintro e u' w'' ⟨rfl, rfl, rfl⟩
  simp only [Leaves, settle]
  refine ⟨.tuple #[.slice none 0 0, .iface 50 (.int .i64 k)], by simp [results, Tryz.results17, go_sem, Z1.out, Z2.out], ?_⟩
  exact ⟨HK.out _ _ _, Or.inl ⟨k, rfl, rfl⟩⟩
theorem leaves_same {P : Program} {fn : Func} {R : Ending → World → Prop} {t1 t2 : Array Value} (h : results fn t1 = results fn t2) : ∀ (ds : List Deferred) (u : FrameMode) (w : World), Leaves P fn t1 R ds u w → Leaves P fn t2 R ds u w := by
  intro ds
  induction ds with
  | nil =>
    intro u w hl
    cases u with
    | run => exact hl
    | returning => obtain ⟨v, h1, h2⟩ := hl; exact ⟨v, by rw [← h]; exact h1, h2⟩
    | panicking c => exact hl
  | cons d ds ih =>
    intro u w hl
    obtain ⟨hu, fv, cap, f, args, h1, h2, h3⟩ := hl
    refine ⟨hu, fv, cap, f, args, h1, h2, h3.mono ?_⟩
    intro e u' w' hq
    cases e with
    | returned v => exact ih _ _ hq
    | panicked c => exact ih _ _ hq
    | outgrown => exact hq
theorem dec_put {R : Ending → World → Prop} {ch : List PanicEntry} {i : Nat} {v : Value} {a : Act} {w : World} (h8 : i ≠ 8) (h9 : i ≠ 9) (h : bodyPostD Tryz.prog Tryz.f17 R (.panic ch) (a.put (some i) v) w) : bodyPostD Tryz.prog Tryz.f17 R (.panic ch) a w := by
  have e : results Tryz.f17 (a.put (some i) v).tmps = results Tryz.f17 a.tmps := by
    have g8 : (a.put (some i) v).tmps[8]?.getD undef = a.tmps[8]?.getD undef := by simp [Act.put, Array.getElem?_setIfInBounds, h8]
    have g9 : (a.put (some i) v).tmps[9]?.getD undef = a.tmps[9]?.getD undef := by simp [Act.put, Array.getElem?_setIfInBounds, h9]
    simp only [results, Tryz.results17]
    simp [g8, g9]
  exact leaves_same e _ _ _ h
theorem dec_thrown {w w2 : World} {r : Except Mar.Fault (List NodeL)} {p g : Nat} {f : Mar.Fault} {tm : Array Value} (hk : Keeps [] w w2) (x1 : w2.heap[w.heap.size + 1]? = some (.cells #[.slice none 0 0] 29)) (x2 : w2.heap[w.heap.size + 1 + 1]? = some (.cells #[.nilIface] 24)) (t8 : tm.getD 8 undef = .pointer (some ⟨w.heap.size + 1, 0, none⟩)) (t9 : tm.getD 9 undef = .pointer (some ⟨w.heap.size + 1 + 1, 0, none⟩)) (hg : w.heap.size + 1 + 1 < g) (hc : w2.heap[g]? = some (.cells #[.int .i64 f.no, .int .i64 f.at'] 83)) (hr : r = .error f) :
    bodyPostD Tryz.prog Tryz.f17 (GivesDe w (.ok p) r) (.panic [{ v := .iface 79 (.pointer (some ⟨g, 0, none⟩)), recovered := false }]) { tmps := tm, defers := [{ target := .fn (.func 34) #[.pointer (some ⟨w.heap.size + 1, 0, none⟩), .pointer (some ⟨w.heap.size + 1 + 1, 0, none⟩)], args := #[] }] } w2 := by
  have f1 : w2.frozen? ⟨w.heap.size + 1, 0, none⟩ = false := by simp [World.frozen?, x1]
  have f2 : w2.frozen? ⟨w.heap.size + 1 + 1, 0, none⟩ = false := by simp [World.frozen?, x2]
  refine leaves_cons (f := 34) (args := #[.pointer (some ⟨w.heap.size + 1, 0, none⟩), .pointer (some ⟨w.heap.size + 1 + 1, 0, none⟩)]) (by simp) (by simp [go_sem]) ?_
  refine (dec1_caught _ _ g _ _ [] w2 (bound1 x1) (bound1 x2) f1 f2 (by simp)).mono ?_
  rintro e u' w'' ⟨rfl, rfl, rfl⟩
  have r1 := setBlock (i := 0) x1 (.slice none 0 0)
  have r2 : (w2.setCell ⟨w.heap.size + 1, 0, none⟩ (.slice none 0 0)).heap[w.heap.size + 1 + 1]? = _ := (Below.heap_setCell _ _ _ _ (by simp)).trans x2
  have z1 := bound1 ((Below.heap_setCell _ ⟨w.heap.size + 1 + 1, 0, none⟩ (.iface 79 (.pointer (some ⟨g, 0, none⟩))) _ (by simp)).trans r1)
  have z2 := bound1 (setBlock (i := 0) r2 (.iface 79 (.pointer (some ⟨g, 0, none⟩))))
  simp only [Leaves, settle, List.dropWhile_nil]
  rw [Array.getD_eq_getD_getElem?] at t8 t9
  refine ⟨.tuple #[.slice none 0 0, .iface 79 (.pointer (some ⟨g, 0, none⟩))], by simp [results, Tryz.results17, go_sem, t8, t9, z1, z2], ?_⟩
  refine ⟨(hk.setNew (p := ⟨w.heap.size + 1, 0, none⟩) (by simp) _).setNew (p := ⟨w.heap.size + 1 + 1, 0, none⟩) (by simp; omega) _, Or.inr (Or.inr ⟨p, f, g, rfl, hr, rfl, by omega, ?_⟩)⟩
  exact (Below.heap_setCell _ _ _ _ (by simp; omega)).trans ((Below.heap_setCell _ _ _ _ (by simp; omega)).trans hc)
theorem Decode_some {w : World} {bs : List (Nat × Obj)} {B S P : Nat} {dsl v : Value} {c : List StepL} {places : List (List UInt8 × Nat)} (hB : (B, Obj.cells #[dsl, v, .map (some S), .map (some P)] 70) ∈ bs) (hS : (S, placesObj places) ∈ bs) (nd : (places.map (·.1)).Nodup) (hc : CodeIn bs v c) (hw : ∀ p ∈ bs, w.heap[p.1]? = some p.2) (hg : ∀ x ∈ c, StepGood x) (n : List UInt8) (b : List UInt8) (dep fuel size p N : Nat) (hs : startD places n dep fuel size = .ok p) (hdp : dep ≤ 64) (hfu : fuel ≤ 10000) (hsz : size ≤ 100000) (hbl : b.length ≤ maxLen) {z : Except Mar.Fault DSt} (hr : runN (decW b dep fuel) c N ⟨p, [], []⟩ ⟨0, []⟩ = some z) :
    Calls Tryz.prog 17 #[.pointer (some ⟨B, 0, none⟩), .string ⟨n.toArray⟩, .string ⟨b.toArray⟩, .agg #[.int .i64 dep, .int .i64 fuel, .int .i64 size]] w (GivesDe w (.ok p) (if size < b.length then .error ⟨14, 0⟩ else thenE z fun d => if d.pos < b.length then .error ⟨20, d.pos⟩ else .ok d.nodes)) := by
  generalize hR : (if size < b.length then Except.error ⟨14, 0⟩ else thenE z fun d => if d.pos < b.length then Except.error ⟨20, d.pos⟩ else .ok d.nodes) = R
  have hmf : ∀ (fn : Fn) (first cap : Array Value) (w : World), (Instr.makeFunc fn first cap).run Tryz.prog w = .ok (.func fn first cap) w := fun _ _ _ _ => rfl
  have hnq := neqE_nil
  obtain ⟨va, vb, vc, rfl⟩ := hc.slice
  have hb0 : Below w.heap.size w (((w.alloc (.cells #[.int .i64 dep, .int .i64 fuel, .int .i64 size] 33)).alloc (.cells #[.slice none 0 0] 29)).alloc (.cells #[.nilIface] 24)) := (((Below.refl _ _).alloc (Nat.le_refl _) _).alloc (by simp) _).alloc (by simp; omega) _
  have VS := Hid.mk (start_c ((hb0.block _ (lt_of_heap (hw _ hB))).trans (hw _ hB)) ((hb0.block _ (lt_of_heap (hw _ hS))).trans (hw _ hS)) nd n dep fuel size)
  rw [hs] at VS
  have o0 : (((w.alloc (.cells #[.int .i64 dep, .int .i64 fuel, .int .i64 size] 33)).alloc (.cells #[.slice none 0 0] 29)).alloc (.cells #[.nilIface] 24)).heap[w.heap.size]? = some (.cells #[.int .i64 dep, .int .i64 fuel, .int .i64 size] 33) := (Below.heap_alloc _ _ _ (by simp; omega)).trans ((Below.heap_alloc _ _ _ (by simp)).trans (heap_alloc_at rfl))
  have o1 : (((w.alloc (.cells #[.int .i64 dep, .int .i64 fuel, .int .i64 size] 33)).alloc (.cells #[.slice none 0 0] 29)).alloc (.cells #[.nilIface] 24)).heap[w.heap.size + 1]? = some (.cells #[.slice none 0 0] 29) := (Below.heap_alloc _ _ _ (by simp)).trans (heap_alloc_at (by simp))
  have o2 : (((w.alloc (.cells #[.int .i64 dep, .int .i64 fuel, .int .i64 size] 33)).alloc (.cells #[.slice none 0 0] 29)).alloc (.cells #[.nilIface] 24)).heap[w.heap.size + 1 + 1]? = some (.cells #[.nilIface] 24) := heap_alloc_at (by simp)
  have HC := Hid.mk hc
  have HW := Hid.mk hw
  have HG := Hid.mk hg
  have HR := Hid.mk hr
  have ER := Hid.mk hR
  have HBm := Hid.mk hB
  clear hS hs hc hw hg hr hR hB
  go_enter_defers Tryz.func17, Tryz.ntmps17
  go_wp2_with fail
  refine VS.out.mono ?_
  rintro e w1 ⟨rfl, hb1⟩
  have K1 := Hid.mk (hb0.trans (hb1.mono hb0.size))
  have p2 := (hb1.block _ (lt_of_heap o2)).trans o2
  have c2 := bound1 p2
  have f2 : ∀ i, w1.frozen? ⟨w.heap.size + 1 + 1, i, none⟩ = false := by intro i; simp [World.frozen?, p2]
  have x0 : (w1.setCell ⟨w.heap.size + 1 + 1, 0, none⟩ .nilIface).heap[w.heap.size]? = _ := (Below.heap_setCell _ _ _ _ (by simp; omega)).trans ((hb1.block _ (lt_of_heap o0)).trans o0)
  have x1 : (w1.setCell ⟨w.heap.size + 1 + 1, 0, none⟩ .nilIface).heap[w.heap.size + 1]? = _ := (Below.heap_setCell _ _ _ _ (by simp)).trans ((hb1.block _ (lt_of_heap o1)).trans o1)
  have x2 : (w1.setCell ⟨w.heap.size + 1 + 1, 0, none⟩ .nilIface).heap[w.heap.size + 1 + 1]? = _ := setBlock (i := 0) p2 .nilIface
  have KX := Hid.mk ((hb0.trans (hb1.mono hb0.size)).setCell (p := ⟨w.heap.size + 1 + 1, 0, none⟩) (by simp; omega) .nilIface)
  clear hb1 hb0 o0 o1 o2 p2 VS
  unfold startV
  generalize hX : w1.setCell ⟨w.heap.size + 1 + 1, 0, none⟩ .nilIface = X at x0 x1 x2 KX
  obtain ⟨e0, e1, e2, ef, el⟩ := cbound3f x0
  have y1 := bound1 x1
  have y2 := bound1 x2
  have g1 : ∀ i, X.frozen? ⟨w.heap.size + 1, i, none⟩ = false := by intro i; simp [World.frozen?, x1]
  have g2 : ∀ i, X.frozen? ⟨w.heap.size + 1 + 1, i, none⟩ = false := by intro i; simp [World.frozen?, x2]
  have xw : Hid (∀ p ∈ bs, X.drew.heap[p.1]? = some p.2) := fun p hp => (KX.out.block _ (lt_of_heap (HW.out p hp))).trans (HW.out p hp)
  obtain ⟨d0, d1, d2, df, dl⟩ := cbound4f ((KX.out.block _ (lt_of_heap (HW.out _ HBm.out))).trans (HW.out _ HBm.out))
  have VV := Hid.mk (Value_c HC.out xw.out HG.out hfu hsz hdp hbl HR.out)
  rw [ER.out] at VV
  have hBl := lt_of_heap (HW.out _ HBm.out)
  simp only at hBl
  have hBn : B ≠ w.heap.size + 1 := by omega
  have X0 := Hid.mk x0
  have X1 := Hid.mk x1
  have X2 := Hid.mk x2
  have XB := Hid.mk (xw.out _ HBm.out)
  have hxs := lt_of_heap x2
  clear x0 x1 x2
  go_wp2_with fail
  clear hX
  refine region_last (fun w' => w'.cell? ⟨B, 1, none⟩ = some (.slice va vb vc) ∧ w'.cell? ⟨w.heap.size, 0, none⟩ = some (.int .i64 dep) ∧ w'.cell? ⟨w.heap.size, 1, none⟩ = some (.int .i64 fuel) ∧ w'.cell? ⟨w.heap.size, 2, none⟩ = some (.int .i64 size)) (L := 10) (by kernel_rfl) rfl (by kernel_rfl) (by kernel_rfl) ?_ (fun hHeld => ?_)
  · go_keep
  refine tk (i := 0) (v := ?_) rfl (by kernel_rfl) (fun _ _ _ h => dec_put (by decide) (by decide) h) (by rfl) (by assumption) ?_ ?_
  rotate_left
  · intro w hSw; (try dsimp only at hSw); go_simp; (try with_reducible rfl)
  (try simp only [put_l, put_z, List.set])
  refine tk (i := 1) (v := ?_) rfl (by kernel_rfl) (fun _ _ _ h => dec_put (by decide) (by decide) h) (by rfl) (by assumption) ?_ ?_
  rotate_left
  · intro w hSw; (try dsimp only at hSw); go_simp; (try with_reducible rfl)
  (try simp only [put_l, put_z, List.set])
  refine tk (i := 2) (v := ?_) rfl (by kernel_rfl) (fun _ _ _ h => dec_put (by decide) (by decide) h) (by rfl) (by assumption) ?_ ?_
  rotate_left
  · intro w hSw; (try dsimp only at hSw); go_simp; (try with_reducible rfl)
  (try simp only [put_l, put_z, List.set])
  refine tk (i := 3) (v := ?_) rfl (by kernel_rfl) (fun _ _ _ h => dec_put (by decide) (by decide) h) (by rfl) (by assumption) ?_ ?_
  rotate_left
  · intro w hSw; (try dsimp only at hSw); go_simp; (try with_reducible rfl)
  (try simp only [put_l, put_z, List.set])
  refine tk (i := 4) (v := ?_) rfl (by kernel_rfl) (fun _ _ _ h => dec_put (by decide) (by decide) h) (by rfl) (by assumption) ?_ ?_
  rotate_left
  · intro w hSw; (try dsimp only at hSw); go_simp; (try with_reducible rfl)
  (try simp only [put_l, put_z, List.set])
  refine tk (i := 5) (v := ?_) rfl (by kernel_rfl) (fun _ _ _ h => dec_put (by decide) (by decide) h) (by rfl) (by assumption) ?_ ?_
  rotate_left
  · intro w hSw; (try dsimp only at hSw); go_simp; (try with_reducible rfl)
  (try simp only [put_l, put_z, List.set])
  refine tk (i := 6) (v := ?_) rfl (by kernel_rfl) (fun _ _ _ h => dec_put (by decide) (by decide) h) (by rfl) (by assumption) ?_ ?_
  rotate_left
  · intro w hSw; (try dsimp only at hSw); go_simp; (try with_reducible rfl)
  (try simp only [put_l, put_z, List.set])
  refine tk (i := 7) (v := ?_) rfl (by kernel_rfl) (fun _ _ _ h => dec_put (by decide) (by decide) h) (by rfl) (by assumption) ?_ ?_
  rotate_left
  · intro w hSw; (try dsimp only at hSw); go_simp; (try with_reducible rfl)
  (try simp only [put_l, put_z, List.set])
  refine wpAnyH_ready (rs := [8]) (by kernel_rfl) (by simp) ?_
  refine AllReadyH.cons rfl (fun K hK => ?_) AllReadyH.nil
  (go_simp; go_at_call 35; refine VV.out.mono ?_; rintro e w2 (⟨ns, rv, hx, rfl, hk, hrow⟩ | ⟨f, hx, hk, g, hg, rfl, hc⟩); rotate_left; exact dec_thrown ((Keeps.of_below [] KX.out).drew.trans hk) ((hk.block _ (lt_of_heap X1.out) (by simp)).trans X1.out) ((hk.block _ (lt_of_heap X2.out) (by simp)).trans X2.out) rfl rfl (Nat.lt_of_lt_of_le hxs hg) hc hx; have n1 := (hk.block _ (lt_of_heap X1.out) (by simp)).trans X1.out; have n2 := (hk.block _ (lt_of_heap X2.out) (by simp)).trans X2.out; have n0 := (hk.block _ (lt_of_heap X0.out) (by simp)).trans X0.out; have nB := (hk.block _ (lt_of_heap XB.out) (by simp)).trans XB.out; obtain ⟨e0, e1, e2, ef, el⟩ := cbound3f n0; obtain ⟨d0, d1, d2, df, dl⟩ := cbound4f nB; have y1 := bound1 n1; have y2 := bound1 n2; have g1 : ∀ i, w2.frozen? ⟨w.heap.size + 1, i, none⟩ = false := (by intro i; simp [World.frozen?, n1]); have g2 : ∀ i, w2.frozen? ⟨w.heap.size + 1 + 1, i, none⟩ = false := (by intro i; simp [World.frozen?, n2]); have N1 := Hid.mk n1; have N2 := Hid.mk n2; have HK := Hid.mk ((Keeps.of_below [] KX.out).drew.trans hk); have HROW := Hid.mk hrow; have HX := Hid.mk hx; have kB : ∀ y, (w2.setCell ⟨w.heap.size + 1, 0, none⟩ y).cell? ⟨B, 1, none⟩ = some (.slice va vb vc) := (fun y => (cbound4f ((Below.heap_setCell _ _ _ _ (by simp only; omega)).trans nB)).2.1); obtain ⟨ra, rc, rfl⟩ := owns_slice hrow; clear n0 n1 n2 nB hk hrow hx)
  refine hK.out _ _ ?_ (fun hHeld => ?_)
  · go_keep
  clear hK K
  (try simp only [put_l, put_z, List.set])
  refine wpAnyH_ready (rs := [9]) (by kernel_rfl) (by simp) ?_
  refine AllReadyH.cons rfl (fun K hK => ?_) AllReadyH.nil
  go_simp
  refine hK.out _ _ ?_ (fun hHeld => ?_)
  · go_keep
  clear hK K
  (try simp only [put_l, put_z, List.set])
  refine wpAnyH_done (by kernel_rfl) ?_ _
  refine last_step rfl (fun K hK => ?_)
  go_simp
  refine hK.out _ _ ?_
  clear hK K
  (try simp only [put_l, put_z, List.set])
  have r1 := setBlock (i := 0) N1.out (.slice ra ns.length rc)
  have r2 : (w2.setCell ⟨w.heap.size + 1, 0, none⟩ (.slice ra ns.length rc)).heap[w.heap.size + 1 + 1]? = _ := (Below.heap_setCell _ _ _ _ (by simp)).trans N2.out
  have z1 := Hid.mk (bound1 ((Below.heap_setCell _ ⟨w.heap.size + 1 + 1, 0, none⟩ .nilIface _ (by simp)).trans r1))
  have z2 := Hid.mk (bound1 (setBlock (i := 0) r2 .nilIface))
  clear r1 r2 hHeld
  go_wp2
  refine leaves_cons (f := 34) (args := #[.pointer (some ⟨w.heap.size + 1, 0, none⟩), .pointer (some ⟨w.heap.size + 1 + 1, 0, none⟩)]) (by simp) (by simp [go_sem]) ?_
  refine (dec1_idle _ _ _).mono ?_
  rintro e u' w'' ⟨rfl, rfl, rfl⟩
  simp only [Leaves, settle]
  refine ⟨.tuple #[.slice ra ns.length rc, .nilIface], by simp [results, Tryz.results17, go_sem, z1.out, z2.out], ?_⟩
  refine ⟨(HK.out.setNew (p := ⟨w.heap.size + 1, 0, none⟩) (by simp) _).setNew (p := ⟨w.heap.size + 1 + 1, 0, none⟩) (by simp; omega) _, Or.inr (Or.inl ⟨p, ns, _, rfl, HX.out, rfl, ?_⟩)⟩
  refine owns_keeps (M := [w.heap.size + 1, w.heap.size + 1 + 1]) (owns_base HROW.out (by simp; omega)) (((Keeps.refl [w.heap.size + 1, w.heap.size + 1 + 1] w2).setIn (p := ⟨w.heap.size + 1, 0, none⟩) (by simp) _).setIn (p := ⟨w.heap.size + 1 + 1, 0, none⟩) (by simp) _) ?_
  intro g hg hm
  have h1 := (owns_lt HROW.out (g := g) hg).1
  have h2 : X.drew.heap.size = X.heap.size := rfl
  simp only [List.mem_cons, List.not_mem_nil, or_false] at hm
  omega
end Go.Proofs.YtmbcibgknckenaaGreatDoor
set_option linter.all false
set_option maxRecDepth 100000
set_option maxHeartbeats 4000000
namespace Go.Proofs.YtmbcibgknckenaaGreatDoor
open Go.RowKit
open Go.MapKept
theorem decW_fair (b : List UInt8) (dep fuel : Nat) : (decW b dep fuel).Fair := by
  intro n v d k d' h
  obtain ⟨d1, _, h⟩ := thenE_ok h
  obtain ⟨p, _, h⟩ := thenE_ok h
  split at h
  · cases h
  · rename_i q hq
    cases h
    simp [hq]
theorem decW_deep (b : List UInt8) {dep : Nat} (fuel : Nat) (hd : dep ≤ 64) : ∀ k d, 64 ≤ k → ∃ f, (decW b dep fuel).enter k d = .error f := by
  intro k d hk
  exact ⟨_, if_pos (by omega)⟩
theorem dec_runs {ds : List DefL} (hW : Whole ds) {n : List UInt8} {p : Nat} (hp : mlook (typesM ds).2 n = some p) (b : List UInt8) {dep : Nat} (fuel : Nat) (hd : dep ≤ 64) : ∃ N, runN (decW b dep fuel) (typesM ds).1 N ⟨p, [], []⟩ ⟨0, []⟩ = some (nameD (decW b dep fuel) (envOf ds) 64 0 n ⟨0, []⟩) := by
  obtain ⟨B, ha, hs⟩ := types_ok hW
  have h := hs n
  rw [hp] at h
  exact run_start (decW_fair b dep fuel) (decW_deep b fuel hd) ha h.1 h.2.1 h.2.2 _
theorem startD_ok {places : List (List UInt8 × Nat)} {n : List UInt8} {dep fuel size : Int} {p : Nat} (h : startD places n dep fuel size = .ok p) : mlook places n = some p ∧ 0 ≤ dep ∧ dep ≤ 64 ∧ 0 ≤ fuel ∧ fuel ≤ 10000 ∧ 0 ≤ size ∧ size ≤ 100000 := by
  unfold startD at h
  cases hm : mlook places n with
  | none => rw [hm] at h; cases h
  | some q =>
    rw [hm] at h
    simp only at h
    split at h
    · rename_i hc
      cases h
      simp only [upToB, Bool.and_eq_true, decide_eq_true_eq] at hc
      exact ⟨rfl, hc.1.1.1, hc.1.1.2, hc.1.2.1, hc.1.2.2, hc.2.1, hc.2.2⟩
    · cases h
theorem Decode_any {w : World} {bs : List (Nat × Obj)} {B : Nat} {ds : List DefL} (hS : SpecIn bs B ds) (hw : ∀ p ∈ bs, w.heap[p.1]? = some p.2) (hW : Whole ds) (hg : ∀ x ∈ (typesM ds).1, StepGood x) (n b : List UInt8) (dep fuel size : Int) (hbl : b.length ≤ maxLen) :
    Calls Tryz.prog 17 #[.pointer (some ⟨B, 0, none⟩), .string ⟨n.toArray⟩, .string ⟨b.toArray⟩, .agg #[.int .i64 dep, .int .i64 fuel, .int .i64 size]] w (GivesDe w (startD (typesM ds).2 n dep fuel size) (decodeD (envOf ds) n b dep.toNat fuel.toNat size.toNat)) := by
  obtain ⟨dsl, ps, v, S, P, hB, hD, hU⟩ := hS
  have hC := hU.code
  have hSm := hU.types
  have nd := hU.nd
  cases hs : startD (typesM ds).2 n dep fuel size with
  | error k => exact Decode_none (hw _ hB) (hw _ hSm) nd n b dep fuel size hs _
  | ok p =>
    obtain ⟨hm, d0, d1, f0, f1, s0, s1⟩ := startD_ok hs
    obtain ⟨dep, rfl⟩ := Int.eq_ofNat_of_zero_le d0
    obtain ⟨fuel, rfl⟩ := Int.eq_ofNat_of_zero_le f0
    obtain ⟨size, rfl⟩ := Int.eq_ofNat_of_zero_le s0
    obtain ⟨N, hN⟩ := dec_runs hW hm b fuel (dep := dep) (by omega)
    exact Decode_some hB hSm nd hC hw hg n b dep fuel size p N hs (by omega) (by omega) (by omega) hbl hN
end Go.Proofs.YtmbcibgknckenaaGreatDoor
set_option linter.all false
set_option maxRecDepth 100000
set_option maxHeartbeats 4000000
namespace Go.Proofs.YtmbcibgknckenaaGreatDoor
open Go.RowKit
def keepBytes : List UInt8 := [99, 111, 110, 115, 116, 32, 87, 73, 68, 69, 32, 61, 32, 55, 59, 32, 101, 110, 117, 109, 32, 75, 105, 110, 100, 32, 123, 32, 65, 32, 61, 32, 48, 44, 32, 66, 32, 61, 32, 45, 51, 44, 32, 67, 32, 61, 32, 55, 48, 48, 48, 48, 32, 125, 59, 32, 115, 116, 114, 117, 99, 116, 32, 80, 97, 105, 114, 32, 123, 32, 105, 110, 116, 32, 120, 59, 32, 117, 110, 115, 105, 103, 110, 101, 100, 32, 104, 121, 112, 101, 114, 32, 121, 59, 32, 117, 110, 115, 105, 103, 110, 101, 100, 32, 122, 59, 32, 125, 59, 32, 117, 110, 105, 111, 110, 32, 83, 111, 109, 101, 32, 115, 119, 105, 116, 99, 104, 32, 40, 75, 105, 110, 100, 32, 107, 41, 32, 123, 32, 99, 97, 115, 101, 32, 65, 58, 32, 118, 111, 105, 100, 59, 32, 99, 97, 115, 101, 32, 66, 58, 32, 80, 97, 105, 114, 32, 112, 59, 32, 100, 101, 102, 97, 117, 108, 116, 58, 32, 111, 112, 97, 113, 117, 101, 32, 111, 60, 57, 62, 59, 32, 125, 59, 32, 116, 121, 112, 101, 100, 101, 102, 32, 83, 111, 109, 101, 32, 70, 101, 119, 60, 51, 62, 59, 32, 115, 116, 114, 117, 99, 116, 32, 84, 114, 101, 101, 32, 123, 32, 115, 116, 114, 105, 110, 103, 32, 110, 97, 109, 101, 60, 49, 50, 62, 59, 32, 84, 114, 101, 101, 32, 42, 108, 101, 102, 116, 59, 32, 84, 114, 101, 101, 32, 42, 114, 105, 103, 104, 116, 59, 32, 98, 111, 111, 108, 32, 108, 101, 97, 102, 59, 32, 70, 101, 119, 32, 102, 101, 119, 59, 32, 111, 112, 97, 113, 117, 101, 32, 115, 117, 109, 91, 53, 93, 59, 32, 125, 59, 32, 117, 110, 105, 111, 110, 32, 70, 108, 97, 103, 32, 115, 119, 105, 116, 99, 104, 32, 40, 98, 111, 111, 108, 32, 98, 41, 32, 123, 32, 99, 97, 115, 101, 32, 84, 82, 85, 69, 58, 32, 70, 108, 97, 103, 32, 42, 110, 101, 120, 116, 59, 32, 99, 97, 115, 101, 32, 70, 65, 76, 83, 69, 58, 32, 104, 121, 112, 101, 114, 32, 104, 91, 50, 93, 59, 32, 125, 59, 32, 115, 116, 114, 117, 99, 116, 32, 82, 111, 119, 32, 123, 32, 80, 97, 105, 114, 32, 97, 108, 108, 60, 87, 73, 68, 69, 62, 59, 32, 70, 108, 97, 103, 32, 102, 108, 97, 103, 115, 91, 51, 93, 59, 32, 125, 59, 32, 117, 110, 105, 111, 110, 32, 87, 111, 114, 100, 32, 115, 119, 105, 116, 99, 104, 32, 40, 117, 110, 115, 105, 103, 110, 101, 100, 32, 117, 41, 32, 123, 32, 99, 97, 115, 101, 32, 52, 50, 57, 52, 57, 54, 55, 50, 57, 53, 58, 32, 75, 105, 110, 100, 32, 107, 59, 32, 99, 97, 115, 101, 32, 48, 58, 32, 115, 116, 114, 105, 110, 103, 32, 115, 60, 62, 59, 32, 125, 59, 32, 112, 114, 111, 103, 114, 97, 109, 32, 80, 32, 123, 32, 118, 101, 114, 115, 105, 111, 110, 32, 86, 32, 123, 32, 84, 114, 101, 101, 32, 115, 119, 97, 112, 40, 84, 114, 101, 101, 41, 32, 61, 32, 49, 59, 32, 118, 111, 105, 100, 32, 100, 114, 111, 112, 40, 80, 97, 105, 114, 41, 32, 61, 32, 50, 59, 32, 80, 97, 105, 114, 32, 109, 97, 107, 101, 40, 118, 111, 105, 100, 41, 32, 61, 32, 51, 59, 32, 125, 32, 61, 32, 49, 59, 32, 118, 101, 114, 115, 105, 111, 110, 32, 87, 32, 123, 32, 87, 111, 114, 100, 32, 115, 97, 121, 40, 87, 111, 114, 100, 41, 32, 61, 32, 49, 59, 32, 125, 32, 61, 32, 51, 59, 32, 125, 32, 61, 32, 55, 55, 59]
def keepText : ByteArray := ⟨keepBytes.toArray⟩
def keepDs : List DefL := match textP keepText with
  | .ok ds => ds
  | .error _ => []
def okB {α : Type} : Except Mar.Fault α → Bool
  | .ok _ => true
  | .error _ => false
theorem keep_okB : okB (textP keepText) = true := by kernel_rfl
theorem keep_text : textP keepText = .ok keepDs := by
  have h := keep_okB
  unfold keepDs
  cases hx : textP keepText with
  | ok ds => rfl
  | error f => rw [hx] at h; cases h
def goodB : StepL → Bool
  | .text n _ => decide (0 ≤ n) && decide (n ≤ 4294967295)
  | .struct n _ => decide (0 ≤ n) && decide (n ≤ 4294967295)
  | .array n _ _ => decide (0 ≤ n) && decide (n ≤ 4294967295)
  | _ => true
theorem goodB_ok {x : StepL} (h : goodB x = true) (h2 : StepOk x) : StepGood x := by
  cases x <;> simp_all [goodB, StepGood, StepOk]
theorem keep_goodB : (typesM keepDs).1.all goodB = true := by kernel_rfl
theorem keep_good : ∀ x ∈ (typesM keepDs).1, StepGood x := fun x hx => goodB_ok (List.all_eq_true.1 keep_goodB x hx) (codeOk_types keepDs x hx)
def deepB : Ty → Bool
  | .arr (.arr _ _ _) _ _ => false
  | .arr (.opt _) _ _ => false
  | .opt (.arr _ _ _) => false
  | .opt (.opt _) => false
  | _ => true
theorem deepB_ok {t : Ty} (h : deepB t = true) : OneDeep t := by
  cases t with
  | arr o n f => cases o <;> simp_all [deepB, OneDeep, Flat]
  | opt o => cases o <;> simp_all [deepB, OneDeep, Flat]
  | _ => trivial
def progB : DefL → Bool
  | .prog _ _ vs _ => !vs.isEmpty && decide (vs.length ≤ 4) && vs.all fun v => decide (v.procs.length ≤ 8) && v.procs.all fun p => deepB p.res && deepB p.arg
  | _ => true
theorem progB_ok {d : DefL} (h : progB d = true) : ProgGood d := by
  cases d with
  | prog t a vs n =>
    simp only [progB, Bool.and_eq_true, List.all_eq_true, decide_eq_true_eq, Bool.not_eq_true'] at h
    refine ⟨by intro e; subst e; simp at h, h.1.2, fun v hv => ⟨(h.2 v hv).1, fun p hp => ⟨deepB_ok ((h.2 v hv).2 p hp).1, deepB_ok ((h.2 v hv).2 p hp).2⟩⟩⟩
  | _ => trivial
theorem keep_progB : keepDs.all progB = true := by kernel_rfl
theorem keep_progs : ∀ d ∈ keepDs, ProgGood d := fun d hd => progB_ok (List.all_eq_true.1 keep_progB d hd)
end Go.Proofs.YtmbcibgknckenaaGreatDoor
set_option linter.all false
set_option maxRecDepth 100000
set_option maxHeartbeats 4000000
namespace Go.Proofs.YtmbcibgknckenaaGreatDoor
theorem envOf_in {ds : List DefL} {n : List UInt8} {d : DefL} (h : envOf ds n = some d) : d ∈ ds := by
  unfold envOf at h
  exact List.mem_of_find?_eq_some h
end Go.Proofs.YtmbcibgknckenaaGreatDoor
set_option linter.all false
set_option maxRecDepth 100000
set_option maxHeartbeats 4000000
namespace Go.Proofs.YtmbcibgknckenaaGreatDoor
open Go.RowKit
def ndB : List DefL → Bool
  | [] => true
  | d :: ds => (!isTypeL d || ds.all fun e => !isTypeL e || !decide ((titleL e).1 = (titleL d).1)) && ndB ds
theorem ndB_ok : ∀ {ds : List DefL}, ndB ds = true → ∀ az d bs, ds = az ++ d :: bs → isTypeL d = true → ∀ e ∈ bs, isTypeL e = true → (titleL e).1 ≠ (titleL d).1 := by
  intro ds h az
  induction az generalizing ds with
  | nil =>
    intro d bs hd ht e he hte hc
    subst hd
    simp only [List.nil_append, ndB, Bool.and_eq_true, ht, Bool.not_true, Bool.false_or] at h
    have := List.all_eq_true.1 h.1 e he
    simp [hte, hc] at this
  | cons a az ih =>
    intro d bs hd
    subst hd
    simp only [List.cons_append, ndB, Bool.and_eq_true] at h
    exact ih h.2 d bs rfl
def knownB (ds : List DefL) : Bool := ds.all fun d => (defTys d).all fun t => (tyNames t).all fun m => (envOf ds m.1).isSome
theorem knownB_ok {ds : List DefL} (h : knownB ds = true) : ∀ d ∈ ds, isTypeL d = true → KnownDef (envOf ds) d := by
  intro d hd _ t ht m hm
  exact List.all_eq_true.1 (List.all_eq_true.1 (List.all_eq_true.1 h d hd) t ht) m hm
def selOf : DefL → Option (List UInt8)
  | .union _ _ s _ => match s.ty with
    | .named n _ => some n
    | _ => none
  | _ => none
def enumOf : DefL → Option (List UInt8)
  | .enum n _ _ => some n
  | _ => none
def selB : List DefL → List DefL → Bool
  | _, [] => true
  | pre, d :: ds => (match selOf d with | some n => pre.any fun e => decide (enumOf e = some n) | none => true) && selB (pre ++ [d]) ds
theorem selB_ok : ∀ {ds pre : List DefL}, selB pre ds = true → ∀ az d bs n, ds = az ++ d :: bs → selOf d = some n → ∃ e ∈ pre ++ az, enumOf e = some n := by
  intro ds pre h az
  induction az generalizing ds pre with
  | nil =>
    intro d bs n hd hs
    subst hd
    simp only [List.nil_append, selB, hs, Bool.and_eq_true] at h
    obtain ⟨e, he, hx⟩ := List.any_eq_true.1 h.1
    exact ⟨e, by simp [he], by simpa using hx⟩
  | cons a az ih =>
    intro d bs n hd hs
    subst hd
    simp only [List.cons_append, selB, Bool.and_eq_true] at h
    obtain ⟨e, he, hx⟩ := ih h.2 d bs n rfl hs
    exact ⟨e, by simpa using he, hx⟩
theorem whole_of {ds : List DefL} (hT : DefsTy ds) (h1 : ndB ds = true) (h2 : knownB ds = true) (h3 : selB [] ds = true) : Whole ds where
  nd := ndB_ok h1
  known := knownB_ok h2
  sel := by
    intro az t a s arms bs n a' hd hs
    obtain ⟨e, he, hx⟩ := selB_ok h3 az _ bs n hd (by simp [selOf, hs])
    simp only [List.nil_append] at he
    obtain ⟨as1, as2, rfl⟩ := List.append_of_mem he
    cases e with
    | enum m b ms =>
      simp only [enumOf, Option.some.injEq] at hx
      subst hx
      exact ⟨as1, b, ms, as2, rfl⟩
    | _ => cases hx
  sim := by
    intro t a s arms hm
    exact (hT _ hm).1
  deep := by
    intro d hd t ht
    have h := hT d hd
    cases d with
    | typedef d =>
      simp only [defTys, List.mem_singleton] at ht
      subst ht
      exact DeclTy.deep h
    | struct a b ms =>
      obtain ⟨m, hm, rfl⟩ := List.mem_map.1 ht
      exact DeclTy.deep (h m hm)
    | union a b s arms =>
      obtain ⟨m, hm, rfl⟩ := List.mem_map.1 ht
      rcases h.2 m hm with h | h
      · exact DeclTy.deep h
      · rw [h]; trivial
    | const a b c => cases ht
    | enum a b c => cases ht
    | prog a b c d => cases ht
theorem keep_nd : ndB keepDs = true := by kernel_rfl
theorem keep_known : knownB keepDs = true := by kernel_rfl
theorem keep_sel : selB [] keepDs = true := by kernel_rfl
theorem keep_whole : Whole keepDs := whole_of (textP_types keep_text) keep_nd keep_known keep_sel
end Go.Proofs.YtmbcibgknckenaaGreatDoor
set_option linter.all false
set_option maxRecDepth 100000
set_option maxHeartbeats 4000000
namespace Go.Proofs.YtmbcibgknckenaaGreatDoor
open Go.RowKit
open Go.MapKept
def GivesKp (w : World) (e : Ending) (w' : World) : Prop := ∃ B bs, e = .returned (.pointer (some ⟨B, 0, none⟩)) ∧ Keeps [] w w' ∧ SpecIn bs B keepDs ∧ (∀ p ∈ bs, w'.heap[p.1]? = some p.2) ∧ w.heap.size ≤ B
theorem spec_any {w : World} (hg : Gl w) : Calls Tryz.prog 13 #[] w (GivesKp w) := by
  have hnq := neqE_nil
  have VR := Hid.mk (Read_ok keep_text keep_progs hg)
  clear hg
  go_enter Tryz.func13, Tryz.ntmps13
  go_wp2_with fail
  refine VR.out.mono ?_
  rintro e w1 ⟨B, bs, rfl, hk, hS, hh, hB⟩
  have H : Hid (GivesKp w (.returned (.pointer (some ⟨B, 0, none⟩))) w1) := ⟨B, bs, rfl, hk, hS, hh, hB⟩
  clear hk hS hh hB VR
  go_wp2
  go_ret
  exact H.out
theorem wide_any (w : World) : Calls Tryz.prog 15 #[] w fun e w' => e = .returned (.agg #[.int .i64 64, .int .i64 10000, .int .i64 100000]) ∧ Below w.heap.size w w' := by
  have hb : ∀ o, Below w.heap.size w (w.alloc o) := fun o => (Below.refl _ _).alloc (Nat.le_refl _) _
  go_enter Tryz.func15, Tryz.ntmps15
  go_wp2
  refine bodyPost_ret (v := .agg #[.int .i64 64, .int .i64 10000, .int .i64 100000]) (by simp [results, Tryz.results15, go_sem]) rfl ⟨rfl, hb _⟩
end Go.Proofs.YtmbcibgknckenaaGreatDoor
set_option linter.all false
set_option maxRecDepth 100000
set_option maxHeartbeats 4000000
namespace Go.Proofs.YtmbcibgknckenaaGreatDoor
open Go.RowKit
open Go.MapKept
def pickD (c : Int) (n : Nat) : Nat := (if c < 0 then -(c + 1) else c).toNat % n
theorem pick_any (c : Int) (n : Nat) (h1 : -9223372036854775808 ≤ c) (h2 : c ≤ 9223372036854775807) (hn : 0 < n) (hn2 : n ≤ 1000000) (w : World) : Calls Tryz.prog 20 #[.int .i64 c, .int .i64 n] w fun e w' => e = .returned (.int .i64 (pickD c n)) ∧ w' = w := by
  have hn0 : (n : Int) ≠ 0 := by omega
  by_cases h0 : c < 0
  · have E : Hid ((pickD c n : Int) = -(c + 1).tmod n) := by
      show _ = _
      rw [← Int.neg_tmod]
      unfold pickD
      rw [if_pos h0]
      obtain ⟨k, hk⟩ := Int.eq_ofNat_of_zero_le (show 0 ≤ -(c + 1) by omega)
      rw [hk]
      rfl
    go_enter Tryz.func20, Tryz.ntmps20
    go_wp2
    go_ret
    exact ⟨by rw [E.out]; rfl, rfl⟩
  · have E : Hid ((pickD c n : Int) = c % n) := by
      show _ = _
      unfold pickD
      rw [if_neg h0]
      obtain ⟨k, hk⟩ := Int.eq_ofNat_of_zero_le (show 0 ≤ c by omega)
      rw [hk]
      rfl
    go_enter Tryz.func20, Tryz.ntmps20
    go_wp2
    go_ret
    exact ⟨by rw [E.out]; rfl, rfl⟩
theorem pickD_lt (c : Int) {n : Nat} (hn : 0 < n) : pickD c n < n := Nat.mod_lt _ hn
def kindNames : List (List UInt8) := [[75, 105, 110, 100], [80, 97, 105, 114], [83, 111, 109, 101], [70, 101, 119], [84, 114, 101, 101], [70, 108, 97, 103], [82, 111, 119], [87, 111, 114, 100]]
def kindD (c : Int) : List UInt8 := kindNames.getD (pickD c 8) []
theorem kinds_any (c : Int) (h1 : -9223372036854775808 ≤ c) (h2 : c ≤ 9223372036854775807) (w : World) : Calls Tryz.prog 14 #[.int .i64 c] w fun e w' => e = .returned (.string ⟨(kindD c).toArray⟩) ∧ Below w.heap.size w w' := by
  have hb : ∀ o, Below w.heap.size w (w.alloc o) := fun o => (Below.refl _ _).alloc (Nat.le_refl _) _
  have VP := Hid.mk (fun w => pick_any c 8 h1 h2 (by omega) (by omega) w)
  have hlt := pickD_lt c (n := 8) (by omega)
  have KD : Hid (kindD c = kindNames.getD (pickD c 8) []) := rfl
  generalize pickD c 8 = k at VP hlt KD
  go_enter Tryz.func14, Tryz.ntmps14
  go_wp2_with fail
  refine (VP.out _).mono ?_
  rintro e w1 ⟨rfl, rfl⟩
  have hk : k = 0 ∨ k = 1 ∨ k = 2 ∨ k = 3 ∨ k = 4 ∨ k = 5 ∨ k = 6 ∨ k = 7 := by omega
  rcases hk with rfl | rfl | rfl | rfl | rfl | rfl | rfl | rfl
  all_goals go_wp2
  all_goals go_ret
  all_goals exact ⟨by rw [KD.out]; rfl, hb _⟩
end Go.Proofs.YtmbcibgknckenaaGreatDoor
set_option linter.all false
set_option maxRecDepth 100000
set_option maxHeartbeats 4000000
namespace Go.Proofs.YtmbcibgknckenaaGreatDoor
section
variable {P : Program} {ops : Array Oper} {Q : Exit → Act → World → Prop} {S : World → Prop}
def listedAt (n i : Nat) : Array Bool := (List.replicate i true ++ List.replicate (n - i) false).toArray
def readsOk (ops : Array Oper) (base : Nat) : Bool := Region.noSelect ops && (Region.ready .any ops (listedAt ops.size ops.size)).isEmpty && (List.range ops.size).all fun i =>
  Region.free .any ops (listedAt ops.size i) i && (Region.ready .any ops (listedAt ops.size i)).contains i && (match ops[i]? with
    | some o => decide (o.dst = some (base + i)) && (o.looksAt ops).all fun d => decide (d < base + i)
    | none => false)
theorem listed_set {n i : Nat} (h : i < n) : (listedAt n i).setIfInBounds i true = listedAt n (i + 1) := by
  unfold listedAt
  rw [List.setIfInBounds_toArray]
  congr 1
  rw [List.set_append_right _ _ (by simp)]
  obtain ⟨m, rfl⟩ : ∃ m, n = i + (m + 1) := ⟨n - i - 1, by omega⟩
  have e1 : i + (m + 1) - i = m + 1 := by omega
  have e2 : i + (m + 1) - (i + 1) = m := by omega
  rw [e1, e2, List.length_replicate, Nat.sub_self, List.replicate_succ, List.set_cons_zero, List.replicate_succ', List.append_assoc]
  rfl
theorem listed_zero (n : Nat) : Array.replicate n false = listedAt n 0 := by
  unfold listedAt
  simp
def slotsAt (l m vs : List Value) (i : Nat) : Array Value := (l ++ (vs.take i ++ m.drop i)).toArray
theorem slots_put {l m vs : List Value} {i : Nat} {v : Value} (hm : m.length = vs.length) (hv : vs[i]? = some v) : (slotsAt l m vs i).setIfInBounds (l.length + i) v = slotsAt l m vs (i + 1) := by
  have hi : i < vs.length := by
    by_cases h : i < vs.length
    · exact h
    · rw [List.getElem?_eq_none (by omega)] at hv; cases hv
  unfold slotsAt
  rw [List.setIfInBounds_toArray]
  congr 1
  rw [List.set_append_right _ _ (by omega), Nat.add_sub_cancel_left, List.set_append_right _ _ (by simp; omega)]
  have e1 : (vs.take i).length = i := by simp; omega
  rw [e1, Nat.sub_self, List.take_succ_eq_append_getElem hi]
  have e2 : m.drop i = m[i]'(by omega) :: m.drop (i + 1) := (List.drop_eq_getElem_cons (by omega))
  rw [e2, List.set_cons_zero, List.append_assoc]
  have e3 : vs[i] = v := by
    rw [List.getElem?_eq_getElem hi] at hv
    injection hv
  rw [e3]
  rfl
theorem slots_get {l m vs : List Value} {i d : Nat} (hm : m.length = vs.length) (hd : d < l.length + i) (hi : i ≤ vs.length) : (slotsAt l m vs i)[d]? = (l ++ vs).toArray[d]? := by
  unfold slotsAt
  simp only [List.getElem?_toArray]
  by_cases h : d < l.length
  · rw [List.getElem?_append_left h, List.getElem?_append_left h]
  · rw [List.getElem?_append_right (l₁ := l) (l₂ := vs) (by omega), List.getElem?_append_right (l₁ := l) (by omega), List.getElem?_append_left (by simp; omega), List.getElem?_take_of_lt (by omega)]
theorem exec_same {o : Oper} (hs : ∀ cs b, o.op ≠ .select cs b) {a a' : Act} (h : ∀ d ∈ o.looksAt ops, a.tmps[d]? = a'.tmps[d]?) : execOp a.eval o = execOp a'.eval o := by
  refine execOp_congr o hs fun x hx => ?_
  cases x with
  | tmp d =>
    have := h d (List.mem_append_left _ (List.mem_filterMap.2 ⟨.tmp d, by simpa using hx, rfl⟩))
    simp only [Act.eval, Array.getD_eq_getD_getElem?, this]
  | _ => rfl
theorem wanted_same {o : Oper} {a a' : Act} (h : ∀ d ∈ o.looksAt ops, a.tmps[d]? = a'.tmps[d]?) : Region.wanted o (yielded ops a.tmps) = Region.wanted o (yielded ops a'.tmps) := by
  unfold Region.wanted
  cases hg : o.guard with
  | none => rfl
  | some gw =>
    obtain ⟨j, b⟩ := gw
    simp only
    unfold yielded
    cases hd : (ops[j]?).bind (·.dst) with
    | none => rfl
    | some d =>
      simp only [Option.bind_some]
      rw [h d ?_]
      unfold Oper.looksAt
      refine List.mem_append_right _ ?_
      simp [hg, hd]
theorem reads_go {base : Nat} (hc : readsOk ops base = true) {l m vs : List Value} (hl : l.length = base) (hn : vs.length = ops.size) (hm : m.length = vs.length) {df : List Deferred} {w : World} (hS : S w)
    (hQp : ∀ (d : Nat) (v : Value) c a w, Q (.panic c) (a.put (some d) v) w → Q (.panic c) a w)
    (hy : ∀ (i : Nat) (o : Oper) (v : Value), ops[i]? = some o → vs[i]? = some v → YieldsIf P ops S o v ⟨(l ++ vs).toArray, df⟩)
    (h : Q .normal ⟨(l ++ vs).toArray, df⟩ w) : ∀ k i, i + k = ops.size → wpAnyH P .any ops Q S k (listedAt ops.size i) ⟨slotsAt l m vs i, df⟩ w := by
  simp only [readsOk, Bool.and_eq_true, List.all_eq_true, List.mem_range] at hc
  obtain ⟨⟨hs, he⟩, hall⟩ := hc
  intro k
  induction k with
  | zero =>
    intro i hi
    have : i = ops.size := by omega
    subst this
    refine wpAnyH_done (by simpa using he) ?_ 0
    unfold slotsAt
    rw [← hn, List.take_length, ← hm, List.drop_length, List.append_nil]
    exact h
  | succ k ih =>
    intro i hi
    have hlt : i < ops.size := by omega
    obtain ⟨⟨hf, hr⟩, ho⟩ := hall i hlt
    have ho' : ops[i]? = some ops[i] := Array.getElem?_eq_getElem hlt
    rw [ho'] at ho
    simp only [Bool.and_eq_true, decide_eq_true_eq, List.all_eq_true] at ho
    obtain ⟨hd, hlk⟩ := ho
    have hv : vs[i]? = some (vs[i]'(by omega)) := List.getElem?_eq_getElem (by omega)
    have same : ∀ d ∈ ops[i].looksAt ops, (slotsAt l m vs i)[d]? = (l ++ vs).toArray[d]? := fun d hd => slots_get hm (by rw [hl]; exact hlk d hd) (by omega)
    refine wpAnyH_take (i := i) (v := vs[i]'(by omega)) ho' hs hf hr (fun c a w h => hQp (base + i) _ c a w (by rw [← hd]; exact h)) ?_ hS ?_
    · exact (hy i _ _ ho' hv).of_same (exec_same (ops := ops) (fun cs b => Region.noSelect_spec hs i _ cs b ho') same) (wanted_same (a := ⟨slotsAt l m vs i, df⟩) (a' := ⟨(l ++ vs).toArray, df⟩) same)
    · rw [listed_set hlt, hd]
      have : (Act.put ⟨slotsAt l m vs i, df⟩ (some (base + i)) (vs[i]'(by omega))) = ⟨slotsAt l m vs (i + 1), df⟩ := by
        unfold Act.put
        simp only
        rw [← hl, slots_put hm hv]
      rw [this]
      exact ih (i + 1) (by omega)
theorem region_reads (S : World → Prop) {base id : Nat} {a : Act} {w : World} {l m : List Value} (vs : List Value) (hp : P.follows .mixedOrders = true) (hc : readsOk ops base = true) (ha : a.tmps = (l ++ m).toArray) (hl : l.length = base) (hn : vs.length = ops.size) (hm : m.length = vs.length) (hS : S w.drew)
    (hQp : ∀ (d : Nat) (v : Value) c a w, Q (.panic c) (a.put (some d) v) w → Q (.panic c) a w)
    (hy : ∀ (i : Nat) (o : Oper) (v : Value), ops[i]? = some o → vs[i]? = some v → YieldsIf P ops S o v ⟨(l ++ vs).toArray, a.defers⟩)
    (h : Q .normal ⟨(l ++ vs).toArray, a.defers⟩ w.drew) : (Code.region id ops true).wp P Q a w := by
  refine wp_region_held_drew (S := S) hp hS fun _ => ?_
  rw [listed_zero]
  have := reads_go hc hl hn hm hS hQp hy h ops.size 0 (by omega)
  unfold slotsAt at this
  simp only [List.take_zero, List.nil_append, List.drop_zero] at this
  rw [← ha] at this
  exact this
end
end Go.Proofs.YtmbcibgknckenaaGreatDoor
