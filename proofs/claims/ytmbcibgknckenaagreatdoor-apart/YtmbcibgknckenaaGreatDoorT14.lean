import Derived.Test.YtmbcibgknckenaaGreatDoorT13
import Derived.Test.YtmbcibgknckenaaGreatDoorProg
import Derived.KernelRfl
import Derived.Laws.Strings
import Derived.Test.YtmbcibgknckenaaGreatDoorRows
import Derived.Test.YtmbcibgknckenaaGreatDoorTie
import Derived.Test.YtmbcibgknckenaaGreatDoorCards
import Derived.ProofKit
import Derived.LaidMore
import Derived.OpenShut
import Derived.Stop.Joined
import Derived.LaidHandle
import Derived.SevenTiedAt
import Derived.Shelf.Vars
import Derived.ShutString
import Derived.ChangeOld
set_option linter.all false
set_option maxRecDepth 100000
set_option maxHeartbeats 4000000
namespace Go.Proofs.YtmbcibgknckenaaGreatDoor
def codeOps : Code → Nat → Option (Array Oper)
  | .region id ops _, i => if id = i then some ops else none
  | .seq a b, i => (codeOps a i).orElse fun _ => codeOps b i
  | .cond _ a b, i => (codeOps a i).orElse fun _ => codeOps b i
  | .block _ b, i => codeOps b i
  | .loop b, i => codeOps b i
  | _, _ => none
def gd (c : Bool) (v : Value) : Value := match c with
  | true => undef
  | false => v
theorem same_ok : readsOk ((Tryz.f19.body.bind fun c => codeOps c 6).getD #[]) 19 = true := by kernel_rfl
section
variable {P : Program} {ops : Array Oper} {S : World → Prop} {A : Act} {o : Oper} {v : Value}
theorem yi_none (hg : o.guard = none) (h : ∀ w, S w → (execOp A.eval o).run P w = .ok (.value v) w) : YieldsIf P ops S o v A := Or.inl ⟨by simp [Region.wanted, hg], h⟩
theorem yi_guard {j : Nat} {want : Bool} {yb : Option Bool} (hg : o.guard = some (j, want)) (hy : yielded ops A.tmps j = yb) (h : yb = some want → ∀ w, S w → (execOp A.eval o).run P w = .ok (.value v) w) (h2 : yb ≠ some want → v = undef) : YieldsIf P ops S o v A := by
  by_cases hb : yb = some want
  · exact Or.inl ⟨by simp [Region.wanted, hg, hy, hb], h hb⟩
  · exact Or.inr ⟨by simp [Region.wanted, hg, hy, hb], h2 hb⟩
theorem yi_gd {j : Nat} {c : Bool} {x : Value} (hg : o.guard = some (j, false)) (hy : yielded ops A.tmps j = some c) (h : c = false → ∀ w, S w → (execOp A.eval o).run P w = .ok (.value x) w) : YieldsIf P ops S o (gd c x) A := by
  cases c with
  | true => exact yi_guard hg hy (fun h => by cases h) (fun _ => rfl)
  | false => exact yi_guard hg hy (fun _ => h rfl) (fun h => absurd rfl h)
theorem yielded_of {j d : Nat} (h : (ops[j]?).bind (·.dst) = some d) {b : Bool} (hd : A.tmps[d]? = some (.bool b)) : yielded ops A.tmps j = some b := by
  unfold yielded
  rw [h]
  simp [hd]
theorem yielded_not {j d : Nat} (h : (ops[j]?).bind (·.dst) = some d) (hd : A.tmps[d]? = some undef) : yielded ops A.tmps j = none := by
  unfold yielded
  rw [h]
  simp [hd, undef]
theorem opg_parts {i : Nat} {p : Op × Option (Nat × Bool)} (h : (ops[i]?).map (fun o => (o.op, o.guard)) = some p) (ho : ops[i]? = some o) : o.op = p.1 ∧ o.guard = p.2 := by
  rw [ho] at h
  simp only [Option.map_some, Option.some.injEq] at h
  rw [← h]
  exact ⟨rfl, rfl⟩
variable {ρ : Operand → Value} {w : World}
theorem ex_move {x : Operand} (h : o.op = .move x) (hv : ρ x = v) : (execOp ρ o).run P w = .ok (.value v) w := by
  simp only [execOp, h, hv]
  rfl
theorem ex_pick {c a b : Operand} (h : o.op = .pick c a b) {d : Bool} (hc : ρ c = .bool d) (hv : (if d then ρ a else ρ b) = v) : (execOp ρ o).run P w = .ok (.value v) w := by
  simp only [execOp, h, hc, ← hv]
  cases d <;> rfl
theorem sem_value {s : Sem Value} (h : s.run P w = .ok v w) : (do pure (Next.value (← s)) : Sem Next).run P w = .ok (.value v) w := by
  simp [go_sem, h]
theorem ex_index {t : TypeId} {x ix : Operand} {xv iv : Value} (h : o.op = .indexAddr t x ix) (hx : ρ x = xv) (hi : ρ ix = iv) (hr : (Instr.indexAt t xv iv).run P w = .ok v w) : (execOp ρ o).run P w = .ok (.value v) w := by
  simp only [execOp, h, hx, hi]
  exact sem_value hr
theorem ex_field {t : TypeId} {x : Operand} {f : Nat} {xv : Value} (h : o.op = .fieldAddr t x f) (hx : ρ x = xv) (hr : (Instr.fieldAt t xv f).run P w = .ok v w) : (execOp ρ o).run P w = .ok (.value v) w := by
  simp only [execOp, h, hx]
  exact sem_value hr
theorem ex_load {t : TypeId} {x : Operand} {xv : Value} (h : o.op = .load t x) (hx : ρ x = xv) (hr : (Instr.loadAt t xv).run P w = .ok v w) : (execOp ρ o).run P w = .ok (.value v) w := by
  simp only [execOp, h, hx]
  exact sem_value hr
theorem ex_bin {op : BinOp} {t t' : TypeId} {x y : Operand} {xv yv : Value} (h : o.op = .binOp op t x y t') (hx : ρ x = xv) (hy : ρ y = yv) (hr : (do eqGuard op t x y xv yv; binOp op t xv yv : Sem Value).run P w = .ok v w) : (execOp ρ o).run P w = .ok (.value v) w := by
  simp only [execOp, h, hx, hy]
  exact sem_value hr
end
theorem t_index {g k n c : Nat} (hk : k < n) (hn : n ≤ c) (w : World) : (Instr.indexAt 29 (.slice (some ⟨g, 0, none⟩) n c) (.int .i64 k)).run Tryz.prog w = .ok (.pointer (some ⟨g, k * 5, none⟩)) w := by
  have h0 : (0 : Int) ≤ ↑k := by omega
  have h1 : (↑k : Int) < ↑n := by omega
  go_simp
theorem t_field0 (g j : Nat) (w : World) : (Instr.fieldAt 48 (.pointer (some ⟨g, j, none⟩)) 0).run Tryz.prog w = .ok (.pointer (some ⟨g, j, none⟩)) w := by go_simp
theorem t_field1 (g j : Nat) (w : World) : (Instr.fieldAt 48 (.pointer (some ⟨g, j, none⟩)) 1).run Tryz.prog w = .ok (.pointer (some ⟨g, j + 1, none⟩)) w := by go_simp
theorem t_field2 (g j : Nat) (w : World) : (Instr.fieldAt 48 (.pointer (some ⟨g, j, none⟩)) 2).run Tryz.prog w = .ok (.pointer (some ⟨g, j + 2, none⟩)) w := by go_simp
theorem t_field3 (g j : Nat) (w : World) : (Instr.fieldAt 48 (.pointer (some ⟨g, j, none⟩)) 3).run Tryz.prog w = .ok (.pointer (some ⟨g, j + 3, none⟩)) w := by go_simp
theorem t_field4 (g j : Nat) (w : World) : (Instr.fieldAt 48 (.pointer (some ⟨g, j, none⟩)) 4).run Tryz.prog w = .ok (.pointer (some ⟨g, j + 4, none⟩)) w := by go_simp
theorem t_load3 {g j : Nat} {n : Int} {w : World} (h : w.cell? ⟨g, j, none⟩ = some (.int .i64 n)) : (Instr.loadAt 3 (.pointer (some ⟨g, j, none⟩))).run Tryz.prog w = .ok (.int .i64 n) w := by go_simp
theorem t_load2 {g j : Nat} {n : Int} {w : World} (h : w.cell? ⟨g, j, none⟩ = some (.int .i64 n)) : (Instr.loadAt 2 (.pointer (some ⟨g, j, none⟩))).run Tryz.prog w = .ok (.int .i64 n) w := by go_simp
theorem t_load9 {g j : Nat} {n : ByteArray} {w : World} (h : w.cell? ⟨g, j, none⟩ = some (.string n)) : (Instr.loadAt 9 (.pointer (some ⟨g, j, none⟩))).run Tryz.prog w = .ok (.string n) w := by go_simp
theorem t_neq3 (x y : Int) (p q : Operand) (w : World) : (do eqGuard .neq 3 p q (.int .i64 x) (.int .i64 y); binOp .neq 3 (.int .i64 x) (.int .i64 y) : Sem Value).run Tryz.prog w = .ok (.bool (decide (x ≠ y))) w := by
  by_cases h : x = y
  · go_simp
  · go_simp
theorem t_neq2 (x y : Int) (p q : Operand) (w : World) : (do eqGuard .neq 2 p q (.int .i64 x) (.int .i64 y); binOp .neq 2 (.int .i64 x) (.int .i64 y) : Sem Value).run Tryz.prog w = .ok (.bool (decide (x ≠ y))) w := by
  by_cases h : x = y
  · go_simp
  · go_simp
theorem t_neq9 (x y : ByteArray) (p q : Operand) (w : World) : (do eqGuard .neq 9 p q (.string x) (.string y); binOp .neq 9 (.string x) (.string y) : Sem Value).run Tryz.prog w = .ok (.bool (decide (x ≠ y))) w := by
  have hb : (x.toList == y.toList) = decide (x = y) := by
    by_cases h : x = y
    · subst h; simp
    · rw [decide_eq_false h]
      refine beq_eq_false_iff_ne.2 fun e => h ?_
      rw [ByteArray.toList_eq, ByteArray.toList_eq] at e
      exact ByteArray.ext (Array.toList_inj.mp e)
  have e : (binOp .neq 9 (.string x) (.string y) : Sem Value) = Op.stringOp .neq x y := rfl
  go_simp
  simp [Op.stringOp, go_sem, hb]
def sameVs (ga gb k n ca cb : Nat) (x0 x1 : Int) (x2 : ByteArray) (x3 x4 y0 y1 : Int) (y2 : ByteArray) (y3 y4 : Int) (f e1 e2 e3 e4 e5 : Bool) : List Value :=
  [(.slice (some ⟨ga, 0, none⟩) n ca), (.int .i64 k), (.pointer (some ⟨ga, k * 5, none⟩)), (.pointer (some ⟨ga, k * 5, none⟩)), (.int .i64 x0), (.slice (some ⟨gb, 0, none⟩) n cb), (.int .i64 k), (.pointer (some ⟨gb, k * 5, none⟩)), (.pointer (some ⟨gb, k * 5, none⟩)), (.int .i64 y0), (.bool e1), (.bool e1), (gd e1 (.slice (some ⟨ga, 0, none⟩) n ca)), (gd e1 (.int .i64 k)), (gd e1 (.pointer (some ⟨ga, k * 5, none⟩))), (gd e1 (.pointer (some ⟨ga, k * 5 + 1, none⟩))), (gd e1 (.int .i64 x1)), (gd e1 (.slice (some ⟨gb, 0, none⟩) n cb)), (gd e1 (.int .i64 k)), (gd e1 (.pointer (some ⟨gb, k * 5, none⟩))), (gd e1 (.pointer (some ⟨gb, k * 5 + 1, none⟩))), (gd e1 (.int .i64 y1)), (gd e1 (.bool e2)), (.bool (e1 || e2)), (.bool (e1 || e2)), (gd (e1 || e2) (.slice (some ⟨ga, 0, none⟩) n ca)), (gd (e1 || e2) (.int .i64 k)), (gd (e1 || e2) (.pointer (some ⟨ga, k * 5, none⟩))), (gd (e1 || e2) (.pointer (some ⟨ga, k * 5 + 2, none⟩))), (gd (e1 || e2) (.string x2)), (gd (e1 || e2) (.slice (some ⟨gb, 0, none⟩) n cb)), (gd (e1 || e2) (.int .i64 k)), (gd (e1 || e2) (.pointer (some ⟨gb, k * 5, none⟩))), (gd (e1 || e2) (.pointer (some ⟨gb, k * 5 + 2, none⟩))), (gd (e1 || e2) (.string y2)), (gd (e1 || e2) (.bool e3)), (.bool (e1 || e2 || e3)), (.bool (e1 || e2 || e3)), (gd (e1 || e2 || e3) (.slice (some ⟨ga, 0, none⟩) n ca)), (gd (e1 || e2 || e3) (.int .i64 k)), (gd (e1 || e2 || e3) (.pointer (some ⟨ga, k * 5, none⟩))), (gd (e1 || e2 || e3) (.pointer (some ⟨ga, k * 5 + 4, none⟩))), (gd (e1 || e2 || e3) (.int .i64 x4)), (gd (e1 || e2 || e3) (.slice (some ⟨gb, 0, none⟩) n cb)), (gd (e1 || e2 || e3) (.int .i64 k)), (gd (e1 || e2 || e3) (.pointer (some ⟨gb, k * 5, none⟩))), (gd (e1 || e2 || e3) (.pointer (some ⟨gb, k * 5 + 4, none⟩))), (gd (e1 || e2 || e3) (.int .i64 y4)), (gd (e1 || e2 || e3) (.bool e4)), (.bool (e1 || e2 || e3 || e4)), (.bool (e1 || e2 || e3 || e4)), (gd (e1 || e2 || e3 || e4) (.bool f)), (gd (e1 || e2 || e3 || e4) (.bool f)), (gd (e1 || e2 || e3 || e4 || !f) (.slice (some ⟨ga, 0, none⟩) n ca)), (gd (e1 || e2 || e3 || e4 || !f) (.int .i64 k)), (gd (e1 || e2 || e3 || e4 || !f) (.pointer (some ⟨ga, k * 5, none⟩))), (gd (e1 || e2 || e3 || e4 || !f) (.pointer (some ⟨ga, k * 5 + 3, none⟩))), (gd (e1 || e2 || e3 || e4 || !f) (.int .i64 x3)), (gd (e1 || e2 || e3 || e4 || !f) (.slice (some ⟨gb, 0, none⟩) n cb)), (gd (e1 || e2 || e3 || e4 || !f) (.int .i64 k)), (gd (e1 || e2 || e3 || e4 || !f) (.pointer (some ⟨gb, k * 5, none⟩))), (gd (e1 || e2 || e3 || e4 || !f) (.pointer (some ⟨gb, k * 5 + 3, none⟩))), (gd (e1 || e2 || e3 || e4 || !f) (.int .i64 y3)), (gd (e1 || e2 || e3 || e4 || !f) (.bool e5)), (gd (e1 || e2 || e3 || e4) (.bool (f && e5))), (.bool (e1 || e2 || e3 || e4 || (f && e5)))]
section
variable {ga gb k n ca cb : Nat} {x0 x1 x3 x4 y0 y1 y3 y4 : Int} {x2 y2 : ByteArray} {f e1 e2 e3 e4 e5 : Bool} {l vs : List Value} {df : List Deferred}
theorem ev_lo {t : Nat} {v : Value} (h : l[t]? = some v) : (Act.mk (l ++ vs).toArray df).eval (.tmp t) = v := by
  have ht : t < l.length := by
    by_cases ht : t < l.length
    · exact ht
    · rw [List.getElem?_eq_none (by omega)] at h; cases h
  simp only [Act.eval, Array.getD_eq_getD_getElem?, List.getElem?_toArray]
  rw [List.getElem?_append_left ht, h]
  rfl
theorem ev_at (hl : l.length = 19) {j : Nat} {v : Value} (h : vs[j]? = some v) : (Act.mk (l ++ vs).toArray df).tmps[19 + j]? = some v := by
  simp only [List.getElem?_toArray]
  rw [List.getElem?_append_right (by omega), hl, Nat.add_sub_cancel_left, h]
theorem ev_hi' (hl : l.length = 19) {j t : Nat} (ht : t = 19 + j) {v : Value} (h : vs[j]? = some v) : (Act.mk (l ++ vs).toArray df).eval (.tmp t) = v := by
  subst ht
  have := ev_at (df := df) hl h
  simp only [Act.eval, Array.getD_eq_getD_getElem?, this]
  rfl
def SameS (ga gb k : Nat) (x0 x1 : Int) (x2 : ByteArray) (x3 x4 y0 y1 : Int) (y2 : ByteArray) (y3 y4 : Int) (w : World) : Prop :=
  w.cell? ⟨ga, k * 5, none⟩ = some (.int .i64 x0) ∧ w.cell? ⟨ga, k * 5 + 1, none⟩ = some (.int .i64 x1) ∧ w.cell? ⟨ga, k * 5 + 2, none⟩ = some (.string x2) ∧ w.cell? ⟨ga, k * 5 + 3, none⟩ = some (.int .i64 x3) ∧ w.cell? ⟨ga, k * 5 + 4, none⟩ = some (.int .i64 x4) ∧
  w.cell? ⟨gb, k * 5, none⟩ = some (.int .i64 y0) ∧ w.cell? ⟨gb, k * 5 + 1, none⟩ = some (.int .i64 y1) ∧ w.cell? ⟨gb, k * 5 + 2, none⟩ = some (.string y2) ∧ w.cell? ⟨gb, k * 5 + 3, none⟩ = some (.int .i64 y3) ∧ w.cell? ⟨gb, k * 5 + 4, none⟩ = some (.int .i64 y4)
theorem gd_no {c : Bool} {x : Value} (h : c = false) : gd c x = x := by rw [h]; rfl
theorem all_succ {Y : Nat → Prop} {n : Nat} (h : ∀ i, i < n → Y i) (hn : Y n) : ∀ i, i < n + 1 → Y i := fun i hi => by
  rcases Nat.lt_or_ge i n with h1 | h1
  · exact h i h1
  · rw [show i = n by omega]; exact hn
def SameY (ga gb k n ca cb : Nat) (x0 x1 : Int) (x2 : ByteArray) (x3 x4 y0 y1 : Int) (y2 : ByteArray) (y3 y4 : Int) (f e1 e2 e3 e4 e5 : Bool) (l : List Value) (df : List Deferred) (i : Nat) : Prop := ∀ (o : Oper) (v : Value), ((Tryz.f19.body.bind fun c => codeOps c 6).getD #[])[i]? = some o → (sameVs ga gb k n ca cb x0 x1 x2 x3 x4 y0 y1 y2 y3 y4 f e1 e2 e3 e4 e5)[i]? = some v → YieldsIf Tryz.prog ((Tryz.f19.body.bind fun c => codeOps c 6).getD #[]) (SameS ga gb k x0 x1 x2 x3 x4 y0 y1 y2 y3 y4) o v (Act.mk (l ++ (sameVs ga gb k n ca cb x0 x1 x2 x3 x4 y0 y1 y2 y3 y4 f e1 e2 e3 e4 e5)).toArray df)
def SY (i : Nat) : Prop := ∀ {ga gb k n ca cb : Nat} {x0 x1 x3 x4 y0 y1 y3 y4 : Int} {x2 y2 : ByteArray} {f e1 e2 e3 e4 e5 : Bool} {l : List Value} {df : List Deferred}, l.length = 19 → l[0]? = some (.slice (some ⟨ga, 0, none⟩) n ca) → l[1]? = some (.slice (some ⟨gb, 0, none⟩) n cb) → l[2]? = some (.bool f) → l[7]? = some (.int .i64 k) → k < n → n ≤ ca → n ≤ cb → decide (x0 ≠ y0) = e1 → decide (x1 ≠ y1) = e2 → decide (x2 ≠ y2) = e3 → decide (x4 ≠ y4) = e4 → decide (x3 ≠ y3) = e5 → SameY ga gb k n ca cb x0 x1 x2 x3 x4 y0 y1 y2 y3 y4 f e1 e2 e3 e4 e5 l df i
theorem same_y0 : SY 0 := by
  intro ga gb k n ca cb x0 x1 x3 x4 y0 y1 y3 y4 x2 y2 f e1 e2 e3 e4 e5 l df hl h0 h1 h2 h7 hk hna hnb b1 b2 b3 b4 b5 o v hi hv
  cases hv
  have ho := opg_parts (ops := ((Tryz.f19.body.bind fun c => codeOps c 6).getD #[])) (i := 0) (p := (.move (.tmp 0), none)) (by kernel_rfl) hi
  refine yi_none ho.2 fun w hS => ?_
  exact ex_move ho.1 (ev_lo h0)
theorem same_y1 : SY 1 := by
  intro ga gb k n ca cb x0 x1 x3 x4 y0 y1 y3 y4 x2 y2 f e1 e2 e3 e4 e5 l df hl h0 h1 h2 h7 hk hna hnb b1 b2 b3 b4 b5 o v hi hv
  cases hv
  have ho := opg_parts (ops := ((Tryz.f19.body.bind fun c => codeOps c 6).getD #[])) (i := 1) (p := (.move (.tmp 7), none)) (by kernel_rfl) hi
  refine yi_none ho.2 fun w hS => ?_
  exact ex_move ho.1 (ev_lo h7)
theorem same_y2 : SY 2 := by
  intro ga gb k n ca cb x0 x1 x3 x4 y0 y1 y3 y4 x2 y2 f e1 e2 e3 e4 e5 l df hl h0 h1 h2 h7 hk hna hnb b1 b2 b3 b4 b5 o v hi hv
  cases hv
  have ho := opg_parts (ops := ((Tryz.f19.body.bind fun c => codeOps c 6).getD #[])) (i := 2) (p := (.indexAddr 29 (.tmp 19) (.tmp 20), none)) (by kernel_rfl) hi
  refine yi_none ho.2 fun w hS => ?_
  exact ex_index ho.1 (ev_hi' (j := 0) hl rfl rfl) (ev_hi' (j := 1) hl rfl rfl) (t_index hk hna w)
theorem same_y3 : SY 3 := by
  intro ga gb k n ca cb x0 x1 x3 x4 y0 y1 y3 y4 x2 y2 f e1 e2 e3 e4 e5 l df hl h0 h1 h2 h7 hk hna hnb b1 b2 b3 b4 b5 o v hi hv
  cases hv
  have ho := opg_parts (ops := ((Tryz.f19.body.bind fun c => codeOps c 6).getD #[])) (i := 3) (p := (.fieldAddr 48 (.tmp 21) 0, none)) (by kernel_rfl) hi
  refine yi_none ho.2 fun w hS => ?_
  exact ex_field ho.1 (ev_hi' (j := 2) hl rfl rfl) (t_field0 ga (k * 5) w)
theorem same_y4 : SY 4 := by
  intro ga gb k n ca cb x0 x1 x3 x4 y0 y1 y3 y4 x2 y2 f e1 e2 e3 e4 e5 l df hl h0 h1 h2 h7 hk hna hnb b1 b2 b3 b4 b5 o v hi hv
  cases hv
  have ho := opg_parts (ops := ((Tryz.f19.body.bind fun c => codeOps c 6).getD #[])) (i := 4) (p := (.load 3 (.tmp 22), none)) (by kernel_rfl) hi
  refine yi_none ho.2 fun w hS => ?_
  exact ex_load ho.1 (ev_hi' (j := 3) hl rfl rfl) (t_load3 hS.1)
theorem same_y5 : SY 5 := by
  intro ga gb k n ca cb x0 x1 x3 x4 y0 y1 y3 y4 x2 y2 f e1 e2 e3 e4 e5 l df hl h0 h1 h2 h7 hk hna hnb b1 b2 b3 b4 b5 o v hi hv
  cases hv
  have ho := opg_parts (ops := ((Tryz.f19.body.bind fun c => codeOps c 6).getD #[])) (i := 5) (p := (.move (.tmp 1), none)) (by kernel_rfl) hi
  refine yi_none ho.2 fun w hS => ?_
  exact ex_move ho.1 (ev_lo h1)
theorem same_y6 : SY 6 := by
  intro ga gb k n ca cb x0 x1 x3 x4 y0 y1 y3 y4 x2 y2 f e1 e2 e3 e4 e5 l df hl h0 h1 h2 h7 hk hna hnb b1 b2 b3 b4 b5 o v hi hv
  cases hv
  have ho := opg_parts (ops := ((Tryz.f19.body.bind fun c => codeOps c 6).getD #[])) (i := 6) (p := (.move (.tmp 7), none)) (by kernel_rfl) hi
  refine yi_none ho.2 fun w hS => ?_
  exact ex_move ho.1 (ev_lo h7)
theorem same_y7 : SY 7 := by
  intro ga gb k n ca cb x0 x1 x3 x4 y0 y1 y3 y4 x2 y2 f e1 e2 e3 e4 e5 l df hl h0 h1 h2 h7 hk hna hnb b1 b2 b3 b4 b5 o v hi hv
  cases hv
  have ho := opg_parts (ops := ((Tryz.f19.body.bind fun c => codeOps c 6).getD #[])) (i := 7) (p := (.indexAddr 29 (.tmp 24) (.tmp 25), none)) (by kernel_rfl) hi
  refine yi_none ho.2 fun w hS => ?_
  exact ex_index ho.1 (ev_hi' (j := 5) hl rfl rfl) (ev_hi' (j := 6) hl rfl rfl) (t_index hk hnb w)
theorem same_y8 : SY 8 := by
  intro ga gb k n ca cb x0 x1 x3 x4 y0 y1 y3 y4 x2 y2 f e1 e2 e3 e4 e5 l df hl h0 h1 h2 h7 hk hna hnb b1 b2 b3 b4 b5 o v hi hv
  cases hv
  have ho := opg_parts (ops := ((Tryz.f19.body.bind fun c => codeOps c 6).getD #[])) (i := 8) (p := (.fieldAddr 48 (.tmp 26) 0, none)) (by kernel_rfl) hi
  refine yi_none ho.2 fun w hS => ?_
  exact ex_field ho.1 (ev_hi' (j := 7) hl rfl rfl) (t_field0 gb (k * 5) w)
theorem same_y9 : SY 9 := by
  intro ga gb k n ca cb x0 x1 x3 x4 y0 y1 y3 y4 x2 y2 f e1 e2 e3 e4 e5 l df hl h0 h1 h2 h7 hk hna hnb b1 b2 b3 b4 b5 o v hi hv
  cases hv
  have ho := opg_parts (ops := ((Tryz.f19.body.bind fun c => codeOps c 6).getD #[])) (i := 9) (p := (.load 3 (.tmp 27), none)) (by kernel_rfl) hi
  refine yi_none ho.2 fun w hS => ?_
  exact ex_load ho.1 (ev_hi' (j := 8) hl rfl rfl) (t_load3 hS.2.2.2.2.2.1)
theorem same_y10 : SY 10 := by
  intro ga gb k n ca cb x0 x1 x3 x4 y0 y1 y3 y4 x2 y2 f e1 e2 e3 e4 e5 l df hl h0 h1 h2 h7 hk hna hnb b1 b2 b3 b4 b5 o v hi hv
  cases hv
  have ho := opg_parts (ops := ((Tryz.f19.body.bind fun c => codeOps c 6).getD #[])) (i := 10) (p := (.binOp .neq 3 (.tmp 23) (.tmp 28) 3, none)) (by kernel_rfl) hi
  refine yi_none ho.2 fun w hS => ?_
  exact ex_bin ho.1 (ev_hi' (j := 4) hl rfl rfl) (ev_hi' (j := 9) hl rfl rfl) ((t_neq3 _ _ _ _ w).trans (by rw [b1] <;> rfl))
theorem same_y11 : SY 11 := by
  intro ga gb k n ca cb x0 x1 x3 x4 y0 y1 y3 y4 x2 y2 f e1 e2 e3 e4 e5 l df hl h0 h1 h2 h7 hk hna hnb b1 b2 b3 b4 b5 o v hi hv
  cases hv
  have ho := opg_parts (ops := ((Tryz.f19.body.bind fun c => codeOps c 6).getD #[])) (i := 11) (p := (.move (.tmp 29), none)) (by kernel_rfl) hi
  refine yi_none ho.2 fun w hS => ?_
  exact ex_move ho.1 (ev_hi' (j := 10) hl rfl rfl)
theorem same_y12 : SY 12 := by
  intro ga gb k n ca cb x0 x1 x3 x4 y0 y1 y3 y4 x2 y2 f e1 e2 e3 e4 e5 l df hl h0 h1 h2 h7 hk hna hnb b1 b2 b3 b4 b5 o v hi hv
  cases hv
  have ho := opg_parts (ops := ((Tryz.f19.body.bind fun c => codeOps c 6).getD #[])) (i := 12) (p := (.move (.tmp 0), some (11, false))) (by kernel_rfl) hi
  refine yi_gd ho.2 (yielded_of (d := 30) (by kernel_rfl) (ev_at (j := 11) hl rfl)) fun hc w hS => ?_
  exact ex_move ho.1 (ev_lo h0)
theorem same_y13 : SY 13 := by
  intro ga gb k n ca cb x0 x1 x3 x4 y0 y1 y3 y4 x2 y2 f e1 e2 e3 e4 e5 l df hl h0 h1 h2 h7 hk hna hnb b1 b2 b3 b4 b5 o v hi hv
  cases hv
  have ho := opg_parts (ops := ((Tryz.f19.body.bind fun c => codeOps c 6).getD #[])) (i := 13) (p := (.move (.tmp 7), some (11, false))) (by kernel_rfl) hi
  refine yi_gd ho.2 (yielded_of (d := 30) (by kernel_rfl) (ev_at (j := 11) hl rfl)) fun hc w hS => ?_
  exact ex_move ho.1 (ev_lo h7)
theorem same_y14 : SY 14 := by
  intro ga gb k n ca cb x0 x1 x3 x4 y0 y1 y3 y4 x2 y2 f e1 e2 e3 e4 e5 l df hl h0 h1 h2 h7 hk hna hnb b1 b2 b3 b4 b5 o v hi hv
  cases hv
  have ho := opg_parts (ops := ((Tryz.f19.body.bind fun c => codeOps c 6).getD #[])) (i := 14) (p := (.indexAddr 29 (.tmp 31) (.tmp 32), some (11, false))) (by kernel_rfl) hi
  refine yi_gd ho.2 (yielded_of (d := 30) (by kernel_rfl) (ev_at (j := 11) hl rfl)) fun hc w hS => ?_
  exact ex_index ho.1 ((ev_hi' (j := 12) hl rfl rfl).trans (gd_no hc)) ((ev_hi' (j := 13) hl rfl rfl).trans (gd_no hc)) (t_index hk hna w)
theorem same_y15 : SY 15 := by
  intro ga gb k n ca cb x0 x1 x3 x4 y0 y1 y3 y4 x2 y2 f e1 e2 e3 e4 e5 l df hl h0 h1 h2 h7 hk hna hnb b1 b2 b3 b4 b5 o v hi hv
  cases hv
  have ho := opg_parts (ops := ((Tryz.f19.body.bind fun c => codeOps c 6).getD #[])) (i := 15) (p := (.fieldAddr 48 (.tmp 33) 1, some (11, false))) (by kernel_rfl) hi
  refine yi_gd ho.2 (yielded_of (d := 30) (by kernel_rfl) (ev_at (j := 11) hl rfl)) fun hc w hS => ?_
  exact ex_field ho.1 ((ev_hi' (j := 14) hl rfl rfl).trans (gd_no hc)) (t_field1 ga (k * 5) w)
theorem same_y16 : SY 16 := by
  intro ga gb k n ca cb x0 x1 x3 x4 y0 y1 y3 y4 x2 y2 f e1 e2 e3 e4 e5 l df hl h0 h1 h2 h7 hk hna hnb b1 b2 b3 b4 b5 o v hi hv
  cases hv
  have ho := opg_parts (ops := ((Tryz.f19.body.bind fun c => codeOps c 6).getD #[])) (i := 16) (p := (.load 2 (.tmp 34), some (11, false))) (by kernel_rfl) hi
  refine yi_gd ho.2 (yielded_of (d := 30) (by kernel_rfl) (ev_at (j := 11) hl rfl)) fun hc w hS => ?_
  exact ex_load ho.1 ((ev_hi' (j := 15) hl rfl rfl).trans (gd_no hc)) (t_load2 hS.2.1)
theorem same_y17 : SY 17 := by
  intro ga gb k n ca cb x0 x1 x3 x4 y0 y1 y3 y4 x2 y2 f e1 e2 e3 e4 e5 l df hl h0 h1 h2 h7 hk hna hnb b1 b2 b3 b4 b5 o v hi hv
  cases hv
  have ho := opg_parts (ops := ((Tryz.f19.body.bind fun c => codeOps c 6).getD #[])) (i := 17) (p := (.move (.tmp 1), some (11, false))) (by kernel_rfl) hi
  refine yi_gd ho.2 (yielded_of (d := 30) (by kernel_rfl) (ev_at (j := 11) hl rfl)) fun hc w hS => ?_
  exact ex_move ho.1 (ev_lo h1)
theorem same_y18 : SY 18 := by
  intro ga gb k n ca cb x0 x1 x3 x4 y0 y1 y3 y4 x2 y2 f e1 e2 e3 e4 e5 l df hl h0 h1 h2 h7 hk hna hnb b1 b2 b3 b4 b5 o v hi hv
  cases hv
  have ho := opg_parts (ops := ((Tryz.f19.body.bind fun c => codeOps c 6).getD #[])) (i := 18) (p := (.move (.tmp 7), some (11, false))) (by kernel_rfl) hi
  refine yi_gd ho.2 (yielded_of (d := 30) (by kernel_rfl) (ev_at (j := 11) hl rfl)) fun hc w hS => ?_
  exact ex_move ho.1 (ev_lo h7)
theorem same_y19 : SY 19 := by
  intro ga gb k n ca cb x0 x1 x3 x4 y0 y1 y3 y4 x2 y2 f e1 e2 e3 e4 e5 l df hl h0 h1 h2 h7 hk hna hnb b1 b2 b3 b4 b5 o v hi hv
  cases hv
  have ho := opg_parts (ops := ((Tryz.f19.body.bind fun c => codeOps c 6).getD #[])) (i := 19) (p := (.indexAddr 29 (.tmp 36) (.tmp 37), some (11, false))) (by kernel_rfl) hi
  refine yi_gd ho.2 (yielded_of (d := 30) (by kernel_rfl) (ev_at (j := 11) hl rfl)) fun hc w hS => ?_
  exact ex_index ho.1 ((ev_hi' (j := 17) hl rfl rfl).trans (gd_no hc)) ((ev_hi' (j := 18) hl rfl rfl).trans (gd_no hc)) (t_index hk hnb w)
theorem same_y20 : SY 20 := by
  intro ga gb k n ca cb x0 x1 x3 x4 y0 y1 y3 y4 x2 y2 f e1 e2 e3 e4 e5 l df hl h0 h1 h2 h7 hk hna hnb b1 b2 b3 b4 b5 o v hi hv
  cases hv
  have ho := opg_parts (ops := ((Tryz.f19.body.bind fun c => codeOps c 6).getD #[])) (i := 20) (p := (.fieldAddr 48 (.tmp 38) 1, some (11, false))) (by kernel_rfl) hi
  refine yi_gd ho.2 (yielded_of (d := 30) (by kernel_rfl) (ev_at (j := 11) hl rfl)) fun hc w hS => ?_
  exact ex_field ho.1 ((ev_hi' (j := 19) hl rfl rfl).trans (gd_no hc)) (t_field1 gb (k * 5) w)
theorem same_y21 : SY 21 := by
  intro ga gb k n ca cb x0 x1 x3 x4 y0 y1 y3 y4 x2 y2 f e1 e2 e3 e4 e5 l df hl h0 h1 h2 h7 hk hna hnb b1 b2 b3 b4 b5 o v hi hv
  cases hv
  have ho := opg_parts (ops := ((Tryz.f19.body.bind fun c => codeOps c 6).getD #[])) (i := 21) (p := (.load 2 (.tmp 39), some (11, false))) (by kernel_rfl) hi
  refine yi_gd ho.2 (yielded_of (d := 30) (by kernel_rfl) (ev_at (j := 11) hl rfl)) fun hc w hS => ?_
  exact ex_load ho.1 ((ev_hi' (j := 20) hl rfl rfl).trans (gd_no hc)) (t_load2 hS.2.2.2.2.2.2.1)
theorem same_y22 : SY 22 := by
  intro ga gb k n ca cb x0 x1 x3 x4 y0 y1 y3 y4 x2 y2 f e1 e2 e3 e4 e5 l df hl h0 h1 h2 h7 hk hna hnb b1 b2 b3 b4 b5 o v hi hv
  cases hv
  have ho := opg_parts (ops := ((Tryz.f19.body.bind fun c => codeOps c 6).getD #[])) (i := 22) (p := (.binOp .neq 2 (.tmp 35) (.tmp 40) 2, some (11, false))) (by kernel_rfl) hi
  refine yi_gd ho.2 (yielded_of (d := 30) (by kernel_rfl) (ev_at (j := 11) hl rfl)) fun hc w hS => ?_
  exact ex_bin ho.1 ((ev_hi' (j := 16) hl rfl rfl).trans (gd_no hc)) ((ev_hi' (j := 21) hl rfl rfl).trans (gd_no hc)) ((t_neq2 _ _ _ _ w).trans (by rw [b2] <;> rfl))
theorem same_y23 : SY 23 := by
  intro ga gb k n ca cb x0 x1 x3 x4 y0 y1 y3 y4 x2 y2 f e1 e2 e3 e4 e5 l df hl h0 h1 h2 h7 hk hna hnb b1 b2 b3 b4 b5 o v hi hv
  cases hv
  have ho := opg_parts (ops := ((Tryz.f19.body.bind fun c => codeOps c 6).getD #[])) (i := 23) (p := (.pick (.tmp 30) (.const (.bool true)) (.tmp 41), none)) (by kernel_rfl) hi
  refine yi_none ho.2 fun w hS => ?_
  refine ex_pick ho.1 (d := e1) (ev_hi' (j := 11) hl rfl rfl) ?_
  rw [ev_hi' (j := 22) hl rfl rfl]
  (cases e1 <;> cases e2 <;> cases e3 <;> cases e4 <;> cases f <;> cases e5 <;> rfl)
theorem same_y24 : SY 24 := by
  intro ga gb k n ca cb x0 x1 x3 x4 y0 y1 y3 y4 x2 y2 f e1 e2 e3 e4 e5 l df hl h0 h1 h2 h7 hk hna hnb b1 b2 b3 b4 b5 o v hi hv
  cases hv
  have ho := opg_parts (ops := ((Tryz.f19.body.bind fun c => codeOps c 6).getD #[])) (i := 24) (p := (.move (.tmp 42), none)) (by kernel_rfl) hi
  refine yi_none ho.2 fun w hS => ?_
  exact ex_move ho.1 (ev_hi' (j := 23) hl rfl rfl)
theorem same_y25 : SY 25 := by
  intro ga gb k n ca cb x0 x1 x3 x4 y0 y1 y3 y4 x2 y2 f e1 e2 e3 e4 e5 l df hl h0 h1 h2 h7 hk hna hnb b1 b2 b3 b4 b5 o v hi hv
  cases hv
  have ho := opg_parts (ops := ((Tryz.f19.body.bind fun c => codeOps c 6).getD #[])) (i := 25) (p := (.move (.tmp 0), some (24, false))) (by kernel_rfl) hi
  refine yi_gd ho.2 (yielded_of (d := 43) (by kernel_rfl) (ev_at (j := 24) hl rfl)) fun hc w hS => ?_
  exact ex_move ho.1 (ev_lo h0)
theorem same_y26 : SY 26 := by
  intro ga gb k n ca cb x0 x1 x3 x4 y0 y1 y3 y4 x2 y2 f e1 e2 e3 e4 e5 l df hl h0 h1 h2 h7 hk hna hnb b1 b2 b3 b4 b5 o v hi hv
  cases hv
  have ho := opg_parts (ops := ((Tryz.f19.body.bind fun c => codeOps c 6).getD #[])) (i := 26) (p := (.move (.tmp 7), some (24, false))) (by kernel_rfl) hi
  refine yi_gd ho.2 (yielded_of (d := 43) (by kernel_rfl) (ev_at (j := 24) hl rfl)) fun hc w hS => ?_
  exact ex_move ho.1 (ev_lo h7)
theorem same_y27 : SY 27 := by
  intro ga gb k n ca cb x0 x1 x3 x4 y0 y1 y3 y4 x2 y2 f e1 e2 e3 e4 e5 l df hl h0 h1 h2 h7 hk hna hnb b1 b2 b3 b4 b5 o v hi hv
  cases hv
  have ho := opg_parts (ops := ((Tryz.f19.body.bind fun c => codeOps c 6).getD #[])) (i := 27) (p := (.indexAddr 29 (.tmp 44) (.tmp 45), some (24, false))) (by kernel_rfl) hi
  refine yi_gd ho.2 (yielded_of (d := 43) (by kernel_rfl) (ev_at (j := 24) hl rfl)) fun hc w hS => ?_
  exact ex_index ho.1 ((ev_hi' (j := 25) hl rfl rfl).trans (gd_no hc)) ((ev_hi' (j := 26) hl rfl rfl).trans (gd_no hc)) (t_index hk hna w)
theorem same_y28 : SY 28 := by
  intro ga gb k n ca cb x0 x1 x3 x4 y0 y1 y3 y4 x2 y2 f e1 e2 e3 e4 e5 l df hl h0 h1 h2 h7 hk hna hnb b1 b2 b3 b4 b5 o v hi hv
  cases hv
  have ho := opg_parts (ops := ((Tryz.f19.body.bind fun c => codeOps c 6).getD #[])) (i := 28) (p := (.fieldAddr 48 (.tmp 46) 2, some (24, false))) (by kernel_rfl) hi
  refine yi_gd ho.2 (yielded_of (d := 43) (by kernel_rfl) (ev_at (j := 24) hl rfl)) fun hc w hS => ?_
  exact ex_field ho.1 ((ev_hi' (j := 27) hl rfl rfl).trans (gd_no hc)) (t_field2 ga (k * 5) w)
theorem same_y29 : SY 29 := by
  intro ga gb k n ca cb x0 x1 x3 x4 y0 y1 y3 y4 x2 y2 f e1 e2 e3 e4 e5 l df hl h0 h1 h2 h7 hk hna hnb b1 b2 b3 b4 b5 o v hi hv
  cases hv
  have ho := opg_parts (ops := ((Tryz.f19.body.bind fun c => codeOps c 6).getD #[])) (i := 29) (p := (.load 9 (.tmp 47), some (24, false))) (by kernel_rfl) hi
  refine yi_gd ho.2 (yielded_of (d := 43) (by kernel_rfl) (ev_at (j := 24) hl rfl)) fun hc w hS => ?_
  exact ex_load ho.1 ((ev_hi' (j := 28) hl rfl rfl).trans (gd_no hc)) (t_load9 hS.2.2.1)
theorem same_y30 : SY 30 := by
  intro ga gb k n ca cb x0 x1 x3 x4 y0 y1 y3 y4 x2 y2 f e1 e2 e3 e4 e5 l df hl h0 h1 h2 h7 hk hna hnb b1 b2 b3 b4 b5 o v hi hv
  cases hv
  have ho := opg_parts (ops := ((Tryz.f19.body.bind fun c => codeOps c 6).getD #[])) (i := 30) (p := (.move (.tmp 1), some (24, false))) (by kernel_rfl) hi
  refine yi_gd ho.2 (yielded_of (d := 43) (by kernel_rfl) (ev_at (j := 24) hl rfl)) fun hc w hS => ?_
  exact ex_move ho.1 (ev_lo h1)
theorem same_y31 : SY 31 := by
  intro ga gb k n ca cb x0 x1 x3 x4 y0 y1 y3 y4 x2 y2 f e1 e2 e3 e4 e5 l df hl h0 h1 h2 h7 hk hna hnb b1 b2 b3 b4 b5 o v hi hv
  cases hv
  have ho := opg_parts (ops := ((Tryz.f19.body.bind fun c => codeOps c 6).getD #[])) (i := 31) (p := (.move (.tmp 7), some (24, false))) (by kernel_rfl) hi
  refine yi_gd ho.2 (yielded_of (d := 43) (by kernel_rfl) (ev_at (j := 24) hl rfl)) fun hc w hS => ?_
  exact ex_move ho.1 (ev_lo h7)
theorem same_y32 : SY 32 := by
  intro ga gb k n ca cb x0 x1 x3 x4 y0 y1 y3 y4 x2 y2 f e1 e2 e3 e4 e5 l df hl h0 h1 h2 h7 hk hna hnb b1 b2 b3 b4 b5 o v hi hv
  cases hv
  have ho := opg_parts (ops := ((Tryz.f19.body.bind fun c => codeOps c 6).getD #[])) (i := 32) (p := (.indexAddr 29 (.tmp 49) (.tmp 50), some (24, false))) (by kernel_rfl) hi
  refine yi_gd ho.2 (yielded_of (d := 43) (by kernel_rfl) (ev_at (j := 24) hl rfl)) fun hc w hS => ?_
  exact ex_index ho.1 ((ev_hi' (j := 30) hl rfl rfl).trans (gd_no hc)) ((ev_hi' (j := 31) hl rfl rfl).trans (gd_no hc)) (t_index hk hnb w)
theorem same_y33 : SY 33 := by
  intro ga gb k n ca cb x0 x1 x3 x4 y0 y1 y3 y4 x2 y2 f e1 e2 e3 e4 e5 l df hl h0 h1 h2 h7 hk hna hnb b1 b2 b3 b4 b5 o v hi hv
  cases hv
  have ho := opg_parts (ops := ((Tryz.f19.body.bind fun c => codeOps c 6).getD #[])) (i := 33) (p := (.fieldAddr 48 (.tmp 51) 2, some (24, false))) (by kernel_rfl) hi
  refine yi_gd ho.2 (yielded_of (d := 43) (by kernel_rfl) (ev_at (j := 24) hl rfl)) fun hc w hS => ?_
  exact ex_field ho.1 ((ev_hi' (j := 32) hl rfl rfl).trans (gd_no hc)) (t_field2 gb (k * 5) w)
theorem same_y34 : SY 34 := by
  intro ga gb k n ca cb x0 x1 x3 x4 y0 y1 y3 y4 x2 y2 f e1 e2 e3 e4 e5 l df hl h0 h1 h2 h7 hk hna hnb b1 b2 b3 b4 b5 o v hi hv
  cases hv
  have ho := opg_parts (ops := ((Tryz.f19.body.bind fun c => codeOps c 6).getD #[])) (i := 34) (p := (.load 9 (.tmp 52), some (24, false))) (by kernel_rfl) hi
  refine yi_gd ho.2 (yielded_of (d := 43) (by kernel_rfl) (ev_at (j := 24) hl rfl)) fun hc w hS => ?_
  exact ex_load ho.1 ((ev_hi' (j := 33) hl rfl rfl).trans (gd_no hc)) (t_load9 hS.2.2.2.2.2.2.2.1)
theorem same_y35 : SY 35 := by
  intro ga gb k n ca cb x0 x1 x3 x4 y0 y1 y3 y4 x2 y2 f e1 e2 e3 e4 e5 l df hl h0 h1 h2 h7 hk hna hnb b1 b2 b3 b4 b5 o v hi hv
  cases hv
  have ho := opg_parts (ops := ((Tryz.f19.body.bind fun c => codeOps c 6).getD #[])) (i := 35) (p := (.binOp .neq 9 (.tmp 48) (.tmp 53) 9, some (24, false))) (by kernel_rfl) hi
  refine yi_gd ho.2 (yielded_of (d := 43) (by kernel_rfl) (ev_at (j := 24) hl rfl)) fun hc w hS => ?_
  exact ex_bin ho.1 ((ev_hi' (j := 29) hl rfl rfl).trans (gd_no hc)) ((ev_hi' (j := 34) hl rfl rfl).trans (gd_no hc)) ((t_neq9 _ _ _ _ w).trans (by rw [b3] <;> rfl))
theorem same_y36 : SY 36 := by
  intro ga gb k n ca cb x0 x1 x3 x4 y0 y1 y3 y4 x2 y2 f e1 e2 e3 e4 e5 l df hl h0 h1 h2 h7 hk hna hnb b1 b2 b3 b4 b5 o v hi hv
  cases hv
  have ho := opg_parts (ops := ((Tryz.f19.body.bind fun c => codeOps c 6).getD #[])) (i := 36) (p := (.pick (.tmp 43) (.const (.bool true)) (.tmp 54), none)) (by kernel_rfl) hi
  refine yi_none ho.2 fun w hS => ?_
  refine ex_pick ho.1 (d := (e1 || e2)) (ev_hi' (j := 24) hl rfl rfl) ?_
  rw [ev_hi' (j := 35) hl rfl rfl]
  (cases e1 <;> cases e2 <;> cases e3 <;> cases e4 <;> cases f <;> cases e5 <;> rfl)
theorem same_y37 : SY 37 := by
  intro ga gb k n ca cb x0 x1 x3 x4 y0 y1 y3 y4 x2 y2 f e1 e2 e3 e4 e5 l df hl h0 h1 h2 h7 hk hna hnb b1 b2 b3 b4 b5 o v hi hv
  cases hv
  have ho := opg_parts (ops := ((Tryz.f19.body.bind fun c => codeOps c 6).getD #[])) (i := 37) (p := (.move (.tmp 55), none)) (by kernel_rfl) hi
  refine yi_none ho.2 fun w hS => ?_
  exact ex_move ho.1 (ev_hi' (j := 36) hl rfl rfl)
theorem same_y38 : SY 38 := by
  intro ga gb k n ca cb x0 x1 x3 x4 y0 y1 y3 y4 x2 y2 f e1 e2 e3 e4 e5 l df hl h0 h1 h2 h7 hk hna hnb b1 b2 b3 b4 b5 o v hi hv
  cases hv
  have ho := opg_parts (ops := ((Tryz.f19.body.bind fun c => codeOps c 6).getD #[])) (i := 38) (p := (.move (.tmp 0), some (37, false))) (by kernel_rfl) hi
  refine yi_gd ho.2 (yielded_of (d := 56) (by kernel_rfl) (ev_at (j := 37) hl rfl)) fun hc w hS => ?_
  exact ex_move ho.1 (ev_lo h0)
theorem same_y39 : SY 39 := by
  intro ga gb k n ca cb x0 x1 x3 x4 y0 y1 y3 y4 x2 y2 f e1 e2 e3 e4 e5 l df hl h0 h1 h2 h7 hk hna hnb b1 b2 b3 b4 b5 o v hi hv
  cases hv
  have ho := opg_parts (ops := ((Tryz.f19.body.bind fun c => codeOps c 6).getD #[])) (i := 39) (p := (.move (.tmp 7), some (37, false))) (by kernel_rfl) hi
  refine yi_gd ho.2 (yielded_of (d := 56) (by kernel_rfl) (ev_at (j := 37) hl rfl)) fun hc w hS => ?_
  exact ex_move ho.1 (ev_lo h7)
theorem same_y40 : SY 40 := by
  intro ga gb k n ca cb x0 x1 x3 x4 y0 y1 y3 y4 x2 y2 f e1 e2 e3 e4 e5 l df hl h0 h1 h2 h7 hk hna hnb b1 b2 b3 b4 b5 o v hi hv
  cases hv
  have ho := opg_parts (ops := ((Tryz.f19.body.bind fun c => codeOps c 6).getD #[])) (i := 40) (p := (.indexAddr 29 (.tmp 57) (.tmp 58), some (37, false))) (by kernel_rfl) hi
  refine yi_gd ho.2 (yielded_of (d := 56) (by kernel_rfl) (ev_at (j := 37) hl rfl)) fun hc w hS => ?_
  exact ex_index ho.1 ((ev_hi' (j := 38) hl rfl rfl).trans (gd_no hc)) ((ev_hi' (j := 39) hl rfl rfl).trans (gd_no hc)) (t_index hk hna w)
theorem same_y41 : SY 41 := by
  intro ga gb k n ca cb x0 x1 x3 x4 y0 y1 y3 y4 x2 y2 f e1 e2 e3 e4 e5 l df hl h0 h1 h2 h7 hk hna hnb b1 b2 b3 b4 b5 o v hi hv
  cases hv
  have ho := opg_parts (ops := ((Tryz.f19.body.bind fun c => codeOps c 6).getD #[])) (i := 41) (p := (.fieldAddr 48 (.tmp 59) 4, some (37, false))) (by kernel_rfl) hi
  refine yi_gd ho.2 (yielded_of (d := 56) (by kernel_rfl) (ev_at (j := 37) hl rfl)) fun hc w hS => ?_
  exact ex_field ho.1 ((ev_hi' (j := 40) hl rfl rfl).trans (gd_no hc)) (t_field4 ga (k * 5) w)
theorem same_y42 : SY 42 := by
  intro ga gb k n ca cb x0 x1 x3 x4 y0 y1 y3 y4 x2 y2 f e1 e2 e3 e4 e5 l df hl h0 h1 h2 h7 hk hna hnb b1 b2 b3 b4 b5 o v hi hv
  cases hv
  have ho := opg_parts (ops := ((Tryz.f19.body.bind fun c => codeOps c 6).getD #[])) (i := 42) (p := (.load 3 (.tmp 60), some (37, false))) (by kernel_rfl) hi
  refine yi_gd ho.2 (yielded_of (d := 56) (by kernel_rfl) (ev_at (j := 37) hl rfl)) fun hc w hS => ?_
  exact ex_load ho.1 ((ev_hi' (j := 41) hl rfl rfl).trans (gd_no hc)) (t_load3 hS.2.2.2.2.1)
theorem same_y43 : SY 43 := by
  intro ga gb k n ca cb x0 x1 x3 x4 y0 y1 y3 y4 x2 y2 f e1 e2 e3 e4 e5 l df hl h0 h1 h2 h7 hk hna hnb b1 b2 b3 b4 b5 o v hi hv
  cases hv
  have ho := opg_parts (ops := ((Tryz.f19.body.bind fun c => codeOps c 6).getD #[])) (i := 43) (p := (.move (.tmp 1), some (37, false))) (by kernel_rfl) hi
  refine yi_gd ho.2 (yielded_of (d := 56) (by kernel_rfl) (ev_at (j := 37) hl rfl)) fun hc w hS => ?_
  exact ex_move ho.1 (ev_lo h1)
theorem same_y44 : SY 44 := by
  intro ga gb k n ca cb x0 x1 x3 x4 y0 y1 y3 y4 x2 y2 f e1 e2 e3 e4 e5 l df hl h0 h1 h2 h7 hk hna hnb b1 b2 b3 b4 b5 o v hi hv
  cases hv
  have ho := opg_parts (ops := ((Tryz.f19.body.bind fun c => codeOps c 6).getD #[])) (i := 44) (p := (.move (.tmp 7), some (37, false))) (by kernel_rfl) hi
  refine yi_gd ho.2 (yielded_of (d := 56) (by kernel_rfl) (ev_at (j := 37) hl rfl)) fun hc w hS => ?_
  exact ex_move ho.1 (ev_lo h7)
theorem same_y45 : SY 45 := by
  intro ga gb k n ca cb x0 x1 x3 x4 y0 y1 y3 y4 x2 y2 f e1 e2 e3 e4 e5 l df hl h0 h1 h2 h7 hk hna hnb b1 b2 b3 b4 b5 o v hi hv
  cases hv
  have ho := opg_parts (ops := ((Tryz.f19.body.bind fun c => codeOps c 6).getD #[])) (i := 45) (p := (.indexAddr 29 (.tmp 62) (.tmp 63), some (37, false))) (by kernel_rfl) hi
  refine yi_gd ho.2 (yielded_of (d := 56) (by kernel_rfl) (ev_at (j := 37) hl rfl)) fun hc w hS => ?_
  exact ex_index ho.1 ((ev_hi' (j := 43) hl rfl rfl).trans (gd_no hc)) ((ev_hi' (j := 44) hl rfl rfl).trans (gd_no hc)) (t_index hk hnb w)
theorem same_y46 : SY 46 := by
  intro ga gb k n ca cb x0 x1 x3 x4 y0 y1 y3 y4 x2 y2 f e1 e2 e3 e4 e5 l df hl h0 h1 h2 h7 hk hna hnb b1 b2 b3 b4 b5 o v hi hv
  cases hv
  have ho := opg_parts (ops := ((Tryz.f19.body.bind fun c => codeOps c 6).getD #[])) (i := 46) (p := (.fieldAddr 48 (.tmp 64) 4, some (37, false))) (by kernel_rfl) hi
  refine yi_gd ho.2 (yielded_of (d := 56) (by kernel_rfl) (ev_at (j := 37) hl rfl)) fun hc w hS => ?_
  exact ex_field ho.1 ((ev_hi' (j := 45) hl rfl rfl).trans (gd_no hc)) (t_field4 gb (k * 5) w)
theorem same_y47 : SY 47 := by
  intro ga gb k n ca cb x0 x1 x3 x4 y0 y1 y3 y4 x2 y2 f e1 e2 e3 e4 e5 l df hl h0 h1 h2 h7 hk hna hnb b1 b2 b3 b4 b5 o v hi hv
  cases hv
  have ho := opg_parts (ops := ((Tryz.f19.body.bind fun c => codeOps c 6).getD #[])) (i := 47) (p := (.load 3 (.tmp 65), some (37, false))) (by kernel_rfl) hi
  refine yi_gd ho.2 (yielded_of (d := 56) (by kernel_rfl) (ev_at (j := 37) hl rfl)) fun hc w hS => ?_
  exact ex_load ho.1 ((ev_hi' (j := 46) hl rfl rfl).trans (gd_no hc)) (t_load3 hS.2.2.2.2.2.2.2.2.2)
theorem same_y48 : SY 48 := by
  intro ga gb k n ca cb x0 x1 x3 x4 y0 y1 y3 y4 x2 y2 f e1 e2 e3 e4 e5 l df hl h0 h1 h2 h7 hk hna hnb b1 b2 b3 b4 b5 o v hi hv
  cases hv
  have ho := opg_parts (ops := ((Tryz.f19.body.bind fun c => codeOps c 6).getD #[])) (i := 48) (p := (.binOp .neq 3 (.tmp 61) (.tmp 66) 3, some (37, false))) (by kernel_rfl) hi
  refine yi_gd ho.2 (yielded_of (d := 56) (by kernel_rfl) (ev_at (j := 37) hl rfl)) fun hc w hS => ?_
  exact ex_bin ho.1 ((ev_hi' (j := 42) hl rfl rfl).trans (gd_no hc)) ((ev_hi' (j := 47) hl rfl rfl).trans (gd_no hc)) ((t_neq3 _ _ _ _ w).trans (by rw [b4] <;> rfl))
theorem same_y49 : SY 49 := by
  intro ga gb k n ca cb x0 x1 x3 x4 y0 y1 y3 y4 x2 y2 f e1 e2 e3 e4 e5 l df hl h0 h1 h2 h7 hk hna hnb b1 b2 b3 b4 b5 o v hi hv
  cases hv
  have ho := opg_parts (ops := ((Tryz.f19.body.bind fun c => codeOps c 6).getD #[])) (i := 49) (p := (.pick (.tmp 56) (.const (.bool true)) (.tmp 67), none)) (by kernel_rfl) hi
  refine yi_none ho.2 fun w hS => ?_
  refine ex_pick ho.1 (d := (e1 || e2 || e3)) (ev_hi' (j := 37) hl rfl rfl) ?_
  rw [ev_hi' (j := 48) hl rfl rfl]
  (cases e1 <;> cases e2 <;> cases e3 <;> cases e4 <;> cases f <;> cases e5 <;> rfl)
theorem same_y50 : SY 50 := by
  intro ga gb k n ca cb x0 x1 x3 x4 y0 y1 y3 y4 x2 y2 f e1 e2 e3 e4 e5 l df hl h0 h1 h2 h7 hk hna hnb b1 b2 b3 b4 b5 o v hi hv
  cases hv
  have ho := opg_parts (ops := ((Tryz.f19.body.bind fun c => codeOps c 6).getD #[])) (i := 50) (p := (.move (.tmp 68), none)) (by kernel_rfl) hi
  refine yi_none ho.2 fun w hS => ?_
  exact ex_move ho.1 (ev_hi' (j := 49) hl rfl rfl)
theorem same_y51 : SY 51 := by
  intro ga gb k n ca cb x0 x1 x3 x4 y0 y1 y3 y4 x2 y2 f e1 e2 e3 e4 e5 l df hl h0 h1 h2 h7 hk hna hnb b1 b2 b3 b4 b5 o v hi hv
  cases hv
  have ho := opg_parts (ops := ((Tryz.f19.body.bind fun c => codeOps c 6).getD #[])) (i := 51) (p := (.move (.tmp 2), some (50, false))) (by kernel_rfl) hi
  refine yi_gd ho.2 (yielded_of (d := 69) (by kernel_rfl) (ev_at (j := 50) hl rfl)) fun hc w hS => ?_
  exact ex_move ho.1 (ev_lo h2)
theorem same_y52 : SY 52 := by
  intro ga gb k n ca cb x0 x1 x3 x4 y0 y1 y3 y4 x2 y2 f e1 e2 e3 e4 e5 l df hl h0 h1 h2 h7 hk hna hnb b1 b2 b3 b4 b5 o v hi hv
  cases hv
  have ho := opg_parts (ops := ((Tryz.f19.body.bind fun c => codeOps c 6).getD #[])) (i := 52) (p := (.move (.tmp 70), some (50, false))) (by kernel_rfl) hi
  refine yi_gd ho.2 (yielded_of (d := 69) (by kernel_rfl) (ev_at (j := 50) hl rfl)) fun hc w hS => ?_
  exact ex_move ho.1 ((ev_hi' (j := 51) hl rfl rfl).trans (gd_no hc))
theorem same_y53 : SY 53 := by
  intro ga gb k n ca cb x0 x1 x3 x4 y0 y1 y3 y4 x2 y2 f e1 e2 e3 e4 e5 l df hl h0 h1 h2 h7 hk hna hnb b1 b2 b3 b4 b5 o v hi hv
  cases hv
  have ho := opg_parts (ops := ((Tryz.f19.body.bind fun c => codeOps c 6).getD #[])) (i := 53) (p := (.move (.tmp 0), some (52, true))) (by kernel_rfl) hi
  refine yi_guard (yb := if (e1 || e2 || e3 || e4) then none else some f) ho.2 ?_ ?_ ?_
  · cases hc : (e1 || e2 || e3 || e4) with
    | true => exact yielded_not (d := 71) (by kernel_rfl) ((ev_at (j := 52) hl rfl).trans (by rw [hc]; rfl))
    | false => exact yielded_of (d := 71) (by kernel_rfl) ((ev_at (j := 52) hl rfl).trans (by rw [hc]; rfl))
  · intro hc w hS
    have hc : (e1 || e2 || e3 || e4 || !f) = false := by revert hc; cases (e1 || e2 || e3 || e4) <;> cases f <;> simp
    rw [hc]
    exact ex_move ho.1 (ev_lo h0)
  · intro hc
    have hc : (e1 || e2 || e3 || e4 || !f) = true := by revert hc; cases (e1 || e2 || e3 || e4) <;> cases f <;> simp
    rw [hc]
    rfl
theorem same_y54 : SY 54 := by
  intro ga gb k n ca cb x0 x1 x3 x4 y0 y1 y3 y4 x2 y2 f e1 e2 e3 e4 e5 l df hl h0 h1 h2 h7 hk hna hnb b1 b2 b3 b4 b5 o v hi hv
  cases hv
  have ho := opg_parts (ops := ((Tryz.f19.body.bind fun c => codeOps c 6).getD #[])) (i := 54) (p := (.move (.tmp 7), some (52, true))) (by kernel_rfl) hi
  refine yi_guard (yb := if (e1 || e2 || e3 || e4) then none else some f) ho.2 ?_ ?_ ?_
  · cases hc : (e1 || e2 || e3 || e4) with
    | true => exact yielded_not (d := 71) (by kernel_rfl) ((ev_at (j := 52) hl rfl).trans (by rw [hc]; rfl))
    | false => exact yielded_of (d := 71) (by kernel_rfl) ((ev_at (j := 52) hl rfl).trans (by rw [hc]; rfl))
  · intro hc w hS
    have hc : (e1 || e2 || e3 || e4 || !f) = false := by revert hc; cases (e1 || e2 || e3 || e4) <;> cases f <;> simp
    rw [hc]
    exact ex_move ho.1 (ev_lo h7)
  · intro hc
    have hc : (e1 || e2 || e3 || e4 || !f) = true := by revert hc; cases (e1 || e2 || e3 || e4) <;> cases f <;> simp
    rw [hc]
    rfl
theorem same_y55 : SY 55 := by
  intro ga gb k n ca cb x0 x1 x3 x4 y0 y1 y3 y4 x2 y2 f e1 e2 e3 e4 e5 l df hl h0 h1 h2 h7 hk hna hnb b1 b2 b3 b4 b5 o v hi hv
  cases hv
  have ho := opg_parts (ops := ((Tryz.f19.body.bind fun c => codeOps c 6).getD #[])) (i := 55) (p := (.indexAddr 29 (.tmp 72) (.tmp 73), some (52, true))) (by kernel_rfl) hi
  refine yi_guard (yb := if (e1 || e2 || e3 || e4) then none else some f) ho.2 ?_ ?_ ?_
  · cases hc : (e1 || e2 || e3 || e4) with
    | true => exact yielded_not (d := 71) (by kernel_rfl) ((ev_at (j := 52) hl rfl).trans (by rw [hc]; rfl))
    | false => exact yielded_of (d := 71) (by kernel_rfl) ((ev_at (j := 52) hl rfl).trans (by rw [hc]; rfl))
  · intro hc w hS
    have hc : (e1 || e2 || e3 || e4 || !f) = false := by revert hc; cases (e1 || e2 || e3 || e4) <;> cases f <;> simp
    rw [hc]
    exact ex_index ho.1 ((ev_hi' (j := 53) hl rfl rfl).trans (gd_no hc)) ((ev_hi' (j := 54) hl rfl rfl).trans (gd_no hc)) (t_index hk hna w)
  · intro hc
    have hc : (e1 || e2 || e3 || e4 || !f) = true := by revert hc; cases (e1 || e2 || e3 || e4) <;> cases f <;> simp
    rw [hc]
    rfl
theorem same_y56 : SY 56 := by
  intro ga gb k n ca cb x0 x1 x3 x4 y0 y1 y3 y4 x2 y2 f e1 e2 e3 e4 e5 l df hl h0 h1 h2 h7 hk hna hnb b1 b2 b3 b4 b5 o v hi hv
  cases hv
  have ho := opg_parts (ops := ((Tryz.f19.body.bind fun c => codeOps c 6).getD #[])) (i := 56) (p := (.fieldAddr 48 (.tmp 74) 3, some (52, true))) (by kernel_rfl) hi
  refine yi_guard (yb := if (e1 || e2 || e3 || e4) then none else some f) ho.2 ?_ ?_ ?_
  · cases hc : (e1 || e2 || e3 || e4) with
    | true => exact yielded_not (d := 71) (by kernel_rfl) ((ev_at (j := 52) hl rfl).trans (by rw [hc]; rfl))
    | false => exact yielded_of (d := 71) (by kernel_rfl) ((ev_at (j := 52) hl rfl).trans (by rw [hc]; rfl))
  · intro hc w hS
    have hc : (e1 || e2 || e3 || e4 || !f) = false := by revert hc; cases (e1 || e2 || e3 || e4) <;> cases f <;> simp
    rw [hc]
    exact ex_field ho.1 ((ev_hi' (j := 55) hl rfl rfl).trans (gd_no hc)) (t_field3 ga (k * 5) w)
  · intro hc
    have hc : (e1 || e2 || e3 || e4 || !f) = true := by revert hc; cases (e1 || e2 || e3 || e4) <;> cases f <;> simp
    rw [hc]
    rfl
theorem same_y57 : SY 57 := by
  intro ga gb k n ca cb x0 x1 x3 x4 y0 y1 y3 y4 x2 y2 f e1 e2 e3 e4 e5 l df hl h0 h1 h2 h7 hk hna hnb b1 b2 b3 b4 b5 o v hi hv
  cases hv
  have ho := opg_parts (ops := ((Tryz.f19.body.bind fun c => codeOps c 6).getD #[])) (i := 57) (p := (.load 3 (.tmp 75), some (52, true))) (by kernel_rfl) hi
  refine yi_guard (yb := if (e1 || e2 || e3 || e4) then none else some f) ho.2 ?_ ?_ ?_
  · cases hc : (e1 || e2 || e3 || e4) with
    | true => exact yielded_not (d := 71) (by kernel_rfl) ((ev_at (j := 52) hl rfl).trans (by rw [hc]; rfl))
    | false => exact yielded_of (d := 71) (by kernel_rfl) ((ev_at (j := 52) hl rfl).trans (by rw [hc]; rfl))
  · intro hc w hS
    have hc : (e1 || e2 || e3 || e4 || !f) = false := by revert hc; cases (e1 || e2 || e3 || e4) <;> cases f <;> simp
    rw [hc]
    exact ex_load ho.1 ((ev_hi' (j := 56) hl rfl rfl).trans (gd_no hc)) (t_load3 hS.2.2.2.1)
  · intro hc
    have hc : (e1 || e2 || e3 || e4 || !f) = true := by revert hc; cases (e1 || e2 || e3 || e4) <;> cases f <;> simp
    rw [hc]
    rfl
theorem same_y58 : SY 58 := by
  intro ga gb k n ca cb x0 x1 x3 x4 y0 y1 y3 y4 x2 y2 f e1 e2 e3 e4 e5 l df hl h0 h1 h2 h7 hk hna hnb b1 b2 b3 b4 b5 o v hi hv
  cases hv
  have ho := opg_parts (ops := ((Tryz.f19.body.bind fun c => codeOps c 6).getD #[])) (i := 58) (p := (.move (.tmp 1), some (52, true))) (by kernel_rfl) hi
  refine yi_guard (yb := if (e1 || e2 || e3 || e4) then none else some f) ho.2 ?_ ?_ ?_
  · cases hc : (e1 || e2 || e3 || e4) with
    | true => exact yielded_not (d := 71) (by kernel_rfl) ((ev_at (j := 52) hl rfl).trans (by rw [hc]; rfl))
    | false => exact yielded_of (d := 71) (by kernel_rfl) ((ev_at (j := 52) hl rfl).trans (by rw [hc]; rfl))
  · intro hc w hS
    have hc : (e1 || e2 || e3 || e4 || !f) = false := by revert hc; cases (e1 || e2 || e3 || e4) <;> cases f <;> simp
    rw [hc]
    exact ex_move ho.1 (ev_lo h1)
  · intro hc
    have hc : (e1 || e2 || e3 || e4 || !f) = true := by revert hc; cases (e1 || e2 || e3 || e4) <;> cases f <;> simp
    rw [hc]
    rfl
theorem same_y59 : SY 59 := by
  intro ga gb k n ca cb x0 x1 x3 x4 y0 y1 y3 y4 x2 y2 f e1 e2 e3 e4 e5 l df hl h0 h1 h2 h7 hk hna hnb b1 b2 b3 b4 b5 o v hi hv
  cases hv
  have ho := opg_parts (ops := ((Tryz.f19.body.bind fun c => codeOps c 6).getD #[])) (i := 59) (p := (.move (.tmp 7), some (52, true))) (by kernel_rfl) hi
  refine yi_guard (yb := if (e1 || e2 || e3 || e4) then none else some f) ho.2 ?_ ?_ ?_
  · cases hc : (e1 || e2 || e3 || e4) with
    | true => exact yielded_not (d := 71) (by kernel_rfl) ((ev_at (j := 52) hl rfl).trans (by rw [hc]; rfl))
    | false => exact yielded_of (d := 71) (by kernel_rfl) ((ev_at (j := 52) hl rfl).trans (by rw [hc]; rfl))
  · intro hc w hS
    have hc : (e1 || e2 || e3 || e4 || !f) = false := by revert hc; cases (e1 || e2 || e3 || e4) <;> cases f <;> simp
    rw [hc]
    exact ex_move ho.1 (ev_lo h7)
  · intro hc
    have hc : (e1 || e2 || e3 || e4 || !f) = true := by revert hc; cases (e1 || e2 || e3 || e4) <;> cases f <;> simp
    rw [hc]
    rfl
theorem same_y60 : SY 60 := by
  intro ga gb k n ca cb x0 x1 x3 x4 y0 y1 y3 y4 x2 y2 f e1 e2 e3 e4 e5 l df hl h0 h1 h2 h7 hk hna hnb b1 b2 b3 b4 b5 o v hi hv
  cases hv
  have ho := opg_parts (ops := ((Tryz.f19.body.bind fun c => codeOps c 6).getD #[])) (i := 60) (p := (.indexAddr 29 (.tmp 77) (.tmp 78), some (52, true))) (by kernel_rfl) hi
  refine yi_guard (yb := if (e1 || e2 || e3 || e4) then none else some f) ho.2 ?_ ?_ ?_
  · cases hc : (e1 || e2 || e3 || e4) with
    | true => exact yielded_not (d := 71) (by kernel_rfl) ((ev_at (j := 52) hl rfl).trans (by rw [hc]; rfl))
    | false => exact yielded_of (d := 71) (by kernel_rfl) ((ev_at (j := 52) hl rfl).trans (by rw [hc]; rfl))
  · intro hc w hS
    have hc : (e1 || e2 || e3 || e4 || !f) = false := by revert hc; cases (e1 || e2 || e3 || e4) <;> cases f <;> simp
    rw [hc]
    exact ex_index ho.1 ((ev_hi' (j := 58) hl rfl rfl).trans (gd_no hc)) ((ev_hi' (j := 59) hl rfl rfl).trans (gd_no hc)) (t_index hk hnb w)
  · intro hc
    have hc : (e1 || e2 || e3 || e4 || !f) = true := by revert hc; cases (e1 || e2 || e3 || e4) <;> cases f <;> simp
    rw [hc]
    rfl
theorem same_y61 : SY 61 := by
  intro ga gb k n ca cb x0 x1 x3 x4 y0 y1 y3 y4 x2 y2 f e1 e2 e3 e4 e5 l df hl h0 h1 h2 h7 hk hna hnb b1 b2 b3 b4 b5 o v hi hv
  cases hv
  have ho := opg_parts (ops := ((Tryz.f19.body.bind fun c => codeOps c 6).getD #[])) (i := 61) (p := (.fieldAddr 48 (.tmp 79) 3, some (52, true))) (by kernel_rfl) hi
  refine yi_guard (yb := if (e1 || e2 || e3 || e4) then none else some f) ho.2 ?_ ?_ ?_
  · cases hc : (e1 || e2 || e3 || e4) with
    | true => exact yielded_not (d := 71) (by kernel_rfl) ((ev_at (j := 52) hl rfl).trans (by rw [hc]; rfl))
    | false => exact yielded_of (d := 71) (by kernel_rfl) ((ev_at (j := 52) hl rfl).trans (by rw [hc]; rfl))
  · intro hc w hS
    have hc : (e1 || e2 || e3 || e4 || !f) = false := by revert hc; cases (e1 || e2 || e3 || e4) <;> cases f <;> simp
    rw [hc]
    exact ex_field ho.1 ((ev_hi' (j := 60) hl rfl rfl).trans (gd_no hc)) (t_field3 gb (k * 5) w)
  · intro hc
    have hc : (e1 || e2 || e3 || e4 || !f) = true := by revert hc; cases (e1 || e2 || e3 || e4) <;> cases f <;> simp
    rw [hc]
    rfl
theorem same_y62 : SY 62 := by
  intro ga gb k n ca cb x0 x1 x3 x4 y0 y1 y3 y4 x2 y2 f e1 e2 e3 e4 e5 l df hl h0 h1 h2 h7 hk hna hnb b1 b2 b3 b4 b5 o v hi hv
  cases hv
  have ho := opg_parts (ops := ((Tryz.f19.body.bind fun c => codeOps c 6).getD #[])) (i := 62) (p := (.load 3 (.tmp 80), some (52, true))) (by kernel_rfl) hi
  refine yi_guard (yb := if (e1 || e2 || e3 || e4) then none else some f) ho.2 ?_ ?_ ?_
  · cases hc : (e1 || e2 || e3 || e4) with
    | true => exact yielded_not (d := 71) (by kernel_rfl) ((ev_at (j := 52) hl rfl).trans (by rw [hc]; rfl))
    | false => exact yielded_of (d := 71) (by kernel_rfl) ((ev_at (j := 52) hl rfl).trans (by rw [hc]; rfl))
  · intro hc w hS
    have hc : (e1 || e2 || e3 || e4 || !f) = false := by revert hc; cases (e1 || e2 || e3 || e4) <;> cases f <;> simp
    rw [hc]
    exact ex_load ho.1 ((ev_hi' (j := 61) hl rfl rfl).trans (gd_no hc)) (t_load3 hS.2.2.2.2.2.2.2.2.1)
  · intro hc
    have hc : (e1 || e2 || e3 || e4 || !f) = true := by revert hc; cases (e1 || e2 || e3 || e4) <;> cases f <;> simp
    rw [hc]
    rfl
theorem same_y63 : SY 63 := by
  intro ga gb k n ca cb x0 x1 x3 x4 y0 y1 y3 y4 x2 y2 f e1 e2 e3 e4 e5 l df hl h0 h1 h2 h7 hk hna hnb b1 b2 b3 b4 b5 o v hi hv
  cases hv
  have ho := opg_parts (ops := ((Tryz.f19.body.bind fun c => codeOps c 6).getD #[])) (i := 63) (p := (.binOp .neq 3 (.tmp 76) (.tmp 81) 3, some (52, true))) (by kernel_rfl) hi
  refine yi_guard (yb := if (e1 || e2 || e3 || e4) then none else some f) ho.2 ?_ ?_ ?_
  · cases hc : (e1 || e2 || e3 || e4) with
    | true => exact yielded_not (d := 71) (by kernel_rfl) ((ev_at (j := 52) hl rfl).trans (by rw [hc]; rfl))
    | false => exact yielded_of (d := 71) (by kernel_rfl) ((ev_at (j := 52) hl rfl).trans (by rw [hc]; rfl))
  · intro hc w hS
    have hc : (e1 || e2 || e3 || e4 || !f) = false := by revert hc; cases (e1 || e2 || e3 || e4) <;> cases f <;> simp
    rw [hc]
    exact ex_bin ho.1 ((ev_hi' (j := 57) hl rfl rfl).trans (gd_no hc)) ((ev_hi' (j := 62) hl rfl rfl).trans (gd_no hc)) ((t_neq3 _ _ _ _ w).trans (by rw [b5] <;> rfl))
  · intro hc
    have hc : (e1 || e2 || e3 || e4 || !f) = true := by revert hc; cases (e1 || e2 || e3 || e4) <;> cases f <;> simp
    rw [hc]
    rfl
theorem same_y64 : SY 64 := by
  intro ga gb k n ca cb x0 x1 x3 x4 y0 y1 y3 y4 x2 y2 f e1 e2 e3 e4 e5 l df hl h0 h1 h2 h7 hk hna hnb b1 b2 b3 b4 b5 o v hi hv
  cases hv
  have ho := opg_parts (ops := ((Tryz.f19.body.bind fun c => codeOps c 6).getD #[])) (i := 64) (p := (.pick (.tmp 71) (.tmp 82) (.const (.bool false)), some (50, false))) (by kernel_rfl) hi
  refine yi_guard (yb := some (e1 || e2 || e3 || e4)) ho.2 (yielded_of (d := 69) (by kernel_rfl) (ev_at (j := 50) hl rfl)) ?_ ?_
  · intro hc w hS
    have hc : (e1 || e2 || e3 || e4) = false := by injection hc
    refine ex_pick ho.1 (d := f) ((ev_hi' (j := 52) hl rfl rfl).trans (gd_no hc)) ?_
    rw [ev_hi' (j := 63) hl rfl rfl, hc]
    cases f
    · rfl
    · simp only [if_true, Bool.true_and, gd]
      cases e5 <;> simp_all [gd]
  · intro hc
    have hc : (e1 || e2 || e3 || e4) = true := by
      cases hx : (e1 || e2 || e3 || e4) with
      | true => rfl
      | false => exact absurd (by rw [hx]) hc
    rw [hc]
    rfl
theorem same_y65 : SY 65 := by
  intro ga gb k n ca cb x0 x1 x3 x4 y0 y1 y3 y4 x2 y2 f e1 e2 e3 e4 e5 l df hl h0 h1 h2 h7 hk hna hnb b1 b2 b3 b4 b5 o v hi hv
  cases hv
  have ho := opg_parts (ops := ((Tryz.f19.body.bind fun c => codeOps c 6).getD #[])) (i := 65) (p := (.pick (.tmp 69) (.const (.bool true)) (.tmp 83), none)) (by kernel_rfl) hi
  refine yi_none ho.2 fun w hS => ?_
  refine ex_pick ho.1 (d := (e1 || e2 || e3 || e4)) (ev_hi' (j := 50) hl rfl rfl) ?_
  rw [ev_hi' (j := 64) hl rfl rfl]
  (cases e1 <;> cases e2 <;> cases e3 <;> cases e4 <;> cases f <;> cases e5 <;> rfl)
theorem same_ys (hl : l.length = 19) (h0 : l[0]? = some (.slice (some ⟨ga, 0, none⟩) n ca)) (h1 : l[1]? = some (.slice (some ⟨gb, 0, none⟩) n cb)) (h2 : l[2]? = some (.bool f)) (h7 : l[7]? = some (.int .i64 k)) (hk : k < n) (hna : n ≤ ca) (hnb : n ≤ cb) (b1 : decide (x0 ≠ y0) = e1) (b2 : decide (x1 ≠ y1) = e2) (b3 : decide (x2 ≠ y2) = e3) (b4 : decide (x4 ≠ y4) = e4) (b5 : decide (x3 ≠ y3) = e5) : ∀ i, i < 66 → SameY ga gb k n ca cb x0 x1 x2 x3 x4 y0 y1 y2 y3 y4 f e1 e2 e3 e4 e5 l df i := by
  have a0 : ∀ i, i < 0 → SameY ga gb k n ca cb x0 x1 x2 x3 x4 y0 y1 y2 y3 y4 f e1 e2 e3 e4 e5 l df i := fun i h => absurd h (by omega)
  have a1 := all_succ a0 (same_y0 hl h0 h1 h2 h7 hk hna hnb b1 b2 b3 b4 b5)
  have a2 := all_succ a1 (same_y1 hl h0 h1 h2 h7 hk hna hnb b1 b2 b3 b4 b5)
  have a3 := all_succ a2 (same_y2 hl h0 h1 h2 h7 hk hna hnb b1 b2 b3 b4 b5)
  have a4 := all_succ a3 (same_y3 hl h0 h1 h2 h7 hk hna hnb b1 b2 b3 b4 b5)
  have a5 := all_succ a4 (same_y4 hl h0 h1 h2 h7 hk hna hnb b1 b2 b3 b4 b5)
  have a6 := all_succ a5 (same_y5 hl h0 h1 h2 h7 hk hna hnb b1 b2 b3 b4 b5)
  have a7 := all_succ a6 (same_y6 hl h0 h1 h2 h7 hk hna hnb b1 b2 b3 b4 b5)
  have a8 := all_succ a7 (same_y7 hl h0 h1 h2 h7 hk hna hnb b1 b2 b3 b4 b5)
  have a9 := all_succ a8 (same_y8 hl h0 h1 h2 h7 hk hna hnb b1 b2 b3 b4 b5)
  have a10 := all_succ a9 (same_y9 hl h0 h1 h2 h7 hk hna hnb b1 b2 b3 b4 b5)
  have a11 := all_succ a10 (same_y10 hl h0 h1 h2 h7 hk hna hnb b1 b2 b3 b4 b5)
  have a12 := all_succ a11 (same_y11 hl h0 h1 h2 h7 hk hna hnb b1 b2 b3 b4 b5)
  have a13 := all_succ a12 (same_y12 hl h0 h1 h2 h7 hk hna hnb b1 b2 b3 b4 b5)
  have a14 := all_succ a13 (same_y13 hl h0 h1 h2 h7 hk hna hnb b1 b2 b3 b4 b5)
  have a15 := all_succ a14 (same_y14 hl h0 h1 h2 h7 hk hna hnb b1 b2 b3 b4 b5)
  have a16 := all_succ a15 (same_y15 hl h0 h1 h2 h7 hk hna hnb b1 b2 b3 b4 b5)
  have a17 := all_succ a16 (same_y16 hl h0 h1 h2 h7 hk hna hnb b1 b2 b3 b4 b5)
  have a18 := all_succ a17 (same_y17 hl h0 h1 h2 h7 hk hna hnb b1 b2 b3 b4 b5)
  have a19 := all_succ a18 (same_y18 hl h0 h1 h2 h7 hk hna hnb b1 b2 b3 b4 b5)
  have a20 := all_succ a19 (same_y19 hl h0 h1 h2 h7 hk hna hnb b1 b2 b3 b4 b5)
  have a21 := all_succ a20 (same_y20 hl h0 h1 h2 h7 hk hna hnb b1 b2 b3 b4 b5)
  have a22 := all_succ a21 (same_y21 hl h0 h1 h2 h7 hk hna hnb b1 b2 b3 b4 b5)
  have a23 := all_succ a22 (same_y22 hl h0 h1 h2 h7 hk hna hnb b1 b2 b3 b4 b5)
  have a24 := all_succ a23 (same_y23 hl h0 h1 h2 h7 hk hna hnb b1 b2 b3 b4 b5)
  have a25 := all_succ a24 (same_y24 hl h0 h1 h2 h7 hk hna hnb b1 b2 b3 b4 b5)
  have a26 := all_succ a25 (same_y25 hl h0 h1 h2 h7 hk hna hnb b1 b2 b3 b4 b5)
  have a27 := all_succ a26 (same_y26 hl h0 h1 h2 h7 hk hna hnb b1 b2 b3 b4 b5)
  have a28 := all_succ a27 (same_y27 hl h0 h1 h2 h7 hk hna hnb b1 b2 b3 b4 b5)
  have a29 := all_succ a28 (same_y28 hl h0 h1 h2 h7 hk hna hnb b1 b2 b3 b4 b5)
  have a30 := all_succ a29 (same_y29 hl h0 h1 h2 h7 hk hna hnb b1 b2 b3 b4 b5)
  have a31 := all_succ a30 (same_y30 hl h0 h1 h2 h7 hk hna hnb b1 b2 b3 b4 b5)
  have a32 := all_succ a31 (same_y31 hl h0 h1 h2 h7 hk hna hnb b1 b2 b3 b4 b5)
  have a33 := all_succ a32 (same_y32 hl h0 h1 h2 h7 hk hna hnb b1 b2 b3 b4 b5)
  have a34 := all_succ a33 (same_y33 hl h0 h1 h2 h7 hk hna hnb b1 b2 b3 b4 b5)
  have a35 := all_succ a34 (same_y34 hl h0 h1 h2 h7 hk hna hnb b1 b2 b3 b4 b5)
  have a36 := all_succ a35 (same_y35 hl h0 h1 h2 h7 hk hna hnb b1 b2 b3 b4 b5)
  have a37 := all_succ a36 (same_y36 hl h0 h1 h2 h7 hk hna hnb b1 b2 b3 b4 b5)
  have a38 := all_succ a37 (same_y37 hl h0 h1 h2 h7 hk hna hnb b1 b2 b3 b4 b5)
  have a39 := all_succ a38 (same_y38 hl h0 h1 h2 h7 hk hna hnb b1 b2 b3 b4 b5)
  have a40 := all_succ a39 (same_y39 hl h0 h1 h2 h7 hk hna hnb b1 b2 b3 b4 b5)
  have a41 := all_succ a40 (same_y40 hl h0 h1 h2 h7 hk hna hnb b1 b2 b3 b4 b5)
  have a42 := all_succ a41 (same_y41 hl h0 h1 h2 h7 hk hna hnb b1 b2 b3 b4 b5)
  have a43 := all_succ a42 (same_y42 hl h0 h1 h2 h7 hk hna hnb b1 b2 b3 b4 b5)
  have a44 := all_succ a43 (same_y43 hl h0 h1 h2 h7 hk hna hnb b1 b2 b3 b4 b5)
  have a45 := all_succ a44 (same_y44 hl h0 h1 h2 h7 hk hna hnb b1 b2 b3 b4 b5)
  have a46 := all_succ a45 (same_y45 hl h0 h1 h2 h7 hk hna hnb b1 b2 b3 b4 b5)
  have a47 := all_succ a46 (same_y46 hl h0 h1 h2 h7 hk hna hnb b1 b2 b3 b4 b5)
  have a48 := all_succ a47 (same_y47 hl h0 h1 h2 h7 hk hna hnb b1 b2 b3 b4 b5)
  have a49 := all_succ a48 (same_y48 hl h0 h1 h2 h7 hk hna hnb b1 b2 b3 b4 b5)
  have a50 := all_succ a49 (same_y49 hl h0 h1 h2 h7 hk hna hnb b1 b2 b3 b4 b5)
  have a51 := all_succ a50 (same_y50 hl h0 h1 h2 h7 hk hna hnb b1 b2 b3 b4 b5)
  have a52 := all_succ a51 (same_y51 hl h0 h1 h2 h7 hk hna hnb b1 b2 b3 b4 b5)
  have a53 := all_succ a52 (same_y52 hl h0 h1 h2 h7 hk hna hnb b1 b2 b3 b4 b5)
  have a54 := all_succ a53 (same_y53 hl h0 h1 h2 h7 hk hna hnb b1 b2 b3 b4 b5)
  have a55 := all_succ a54 (same_y54 hl h0 h1 h2 h7 hk hna hnb b1 b2 b3 b4 b5)
  have a56 := all_succ a55 (same_y55 hl h0 h1 h2 h7 hk hna hnb b1 b2 b3 b4 b5)
  have a57 := all_succ a56 (same_y56 hl h0 h1 h2 h7 hk hna hnb b1 b2 b3 b4 b5)
  have a58 := all_succ a57 (same_y57 hl h0 h1 h2 h7 hk hna hnb b1 b2 b3 b4 b5)
  have a59 := all_succ a58 (same_y58 hl h0 h1 h2 h7 hk hna hnb b1 b2 b3 b4 b5)
  have a60 := all_succ a59 (same_y59 hl h0 h1 h2 h7 hk hna hnb b1 b2 b3 b4 b5)
  have a61 := all_succ a60 (same_y60 hl h0 h1 h2 h7 hk hna hnb b1 b2 b3 b4 b5)
  have a62 := all_succ a61 (same_y61 hl h0 h1 h2 h7 hk hna hnb b1 b2 b3 b4 b5)
  have a63 := all_succ a62 (same_y62 hl h0 h1 h2 h7 hk hna hnb b1 b2 b3 b4 b5)
  have a64 := all_succ a63 (same_y63 hl h0 h1 h2 h7 hk hna hnb b1 b2 b3 b4 b5)
  have a65 := all_succ a64 (same_y64 hl h0 h1 h2 h7 hk hna hnb b1 b2 b3 b4 b5)
  have a66 := all_succ a65 (same_y65 hl h0 h1 h2 h7 hk hna hnb b1 b2 b3 b4 b5)
  exact a66
end
end Go.Proofs.YtmbcibgknckenaaGreatDoor
set_option linter.all false
set_option maxRecDepth 100000
set_option maxHeartbeats 4000000
namespace Go.Proofs.YtmbcibgknckenaaGreatDoor
open Go.RowKit
open Go.MapKept
theorem same_region {Q : Exit → Act → World → Prop} {a : Act} {l m : List Value} {w : World} {ops : Array Oper} {ga gb k n ca cb : Nat} {x0 x1 x3 x4 y0 y1 y3 y4 : Int} {x2 y2 : ByteArray} {f : Bool}
    (ho : ops = ((Tryz.f19.body.bind fun c => codeOps c 6).getD #[])) (ha : a.tmps = (l ++ m).toArray) (hl : l.length = 19) (hm : m.length = 66) (h0 : l[0]? = some (.slice (some ⟨ga, 0, none⟩) n ca)) (h1 : l[1]? = some (.slice (some ⟨gb, 0, none⟩) n cb)) (h2 : l[2]? = some (.bool f)) (h7 : l[7]? = some (.int .i64 k)) (hk : k < n) (hna : n ≤ ca) (hnb : n ≤ cb)
    (hS : SameS ga gb k x0 x1 x2 x3 x4 y0 y1 y2 y3 y4 w) (hQp : ∀ (d : Nat) (v : Value) c a w, Q (.panic c) (a.put (some d) v) w → Q (.panic c) a w)
    (h : Q .normal ⟨(l ++ sameVs ga gb k n ca cb x0 x1 x2 x3 x4 y0 y1 y2 y3 y4 f (decide (x0 ≠ y0)) (decide (x1 ≠ y1)) (decide (x2 ≠ y2)) (decide (x4 ≠ y4)) (decide (x3 ≠ y3))).toArray, a.defers⟩ w.drew) : (Code.region 6 ops true).wp Tryz.prog Q a w := by
  subst ho
  refine region_reads (SameS ga gb k x0 x1 x2 x3 x4 y0 y1 y2 y3 y4) (base := 19) (sameVs ga gb k n ca cb x0 x1 x2 x3 x4 y0 y1 y2 y3 y4 f (decide (x0 ≠ y0)) (decide (x1 ≠ y1)) (decide (x2 ≠ y2)) (decide (x4 ≠ y4)) (decide (x3 ≠ y3))) (by kernel_rfl) same_ok ha hl (by kernel_rfl) hm hS hQp ?_ h
  intro i o v hi hv
  have hlt : i < 66 := by
    rcases Nat.lt_or_ge i 66 with h | h
    · exact h
    · rw [List.getElem?_eq_none (show (sameVs ga gb k n ca cb x0 x1 x2 x3 x4 y0 y1 y2 y3 y4 f (decide (x0 ≠ y0)) (decide (x1 ≠ y1)) (decide (x2 ≠ y2)) (decide (x4 ≠ y4)) (decide (x3 ≠ y3))).length ≤ i from h)] at hv
      cases hv
  exact same_ys hl h0 h1 h2 h7 hk hna hnb rfl rfl rfl rfl rfl i hlt o v hi hv
def NodeAt (w : World) (g k : Nat) (x : NodeL) : Prop := w.cell? ⟨g, k * 5, none⟩ = some (.int .i64 x.kind) ∧ w.cell? ⟨g, k * 5 + 1, none⟩ = some (.int .i64 x.n) ∧ w.cell? ⟨g, k * 5 + 2, none⟩ = some (.string ⟨x.s.toArray⟩) ∧ w.cell? ⟨g, k * 5 + 3, none⟩ = some (.int .i64 x.at') ∧ w.cell? ⟨g, k * 5 + 4, none⟩ = some (.int .i64 x.len)
def NodesAt (w : World) (v : Value) (ns : List NodeL) : Prop := ∃ ad cap, v = .slice ad ns.length cap ∧ ns.length ≤ cap ∧ ∀ k x, ns[k]? = some x → ∃ g, ad = some ⟨g, 0, none⟩ ∧ NodeAt w g k x
def nodeKey (f : Bool) (x : NodeL) : Int × Int × List UInt8 × Int × Int := (x.kind, x.n, x.s, x.len, if f then x.at' else 0)
theorem key_ne (f : Bool) (x y : NodeL) : (decide ((x.kind : Int) ≠ y.kind) || decide ((x.n : Int) ≠ y.n) || decide ((⟨x.s.toArray⟩ : ByteArray) ≠ ⟨y.s.toArray⟩) || decide ((x.len : Int) ≠ y.len) || (f && decide ((x.at' : Int) ≠ y.at'))) = decide (nodeKey f x ≠ nodeKey f y) := by
  have hs : ((⟨x.s.toArray⟩ : ByteArray) = ⟨y.s.toArray⟩) ↔ x.s = y.s := by
    constructor
    · intro h
      have : x.s.toArray = y.s.toArray := by injection h
      simpa using this
    · intro h; rw [h]
  unfold nodeKey
  cases f <;> simp [hs] <;> by_cases c1 : (x.kind : Int) = y.kind <;> by_cases c2 : x.n = y.n <;> by_cases c3 : x.s = y.s <;> by_cases c4 : (x.len : Int) = y.len <;> by_cases c5 : (x.at' : Int) = y.at' <;> simp_all
theorem same_any (f : Bool) {w : World} {va vb : Value} {a b : List NodeL} (hA : NodesAt w va a) (hB : NodesAt w vb b) (hn : a.length ≤ 10000) :
    Calls Tryz.prog 19 #[va, vb, .bool f] w fun e w' => e = .returned (.bool (decide (a.map (nodeKey f) = b.map (nodeKey f)))) ∧ (∀ c, w'.cell? c = w.cell? c) ∧ Below w.heap.size w w' := by
  obtain ⟨aa, ca, rfl, hca, hA⟩ := hA
  obtain ⟨ab, cb, rfl, hcb, hB⟩ := hB
  by_cases hl : a.length = b.length
  · rw [← hl] at hcb ⊢
    have HA := Hid.mk hA
    have HB := Hid.mk hB
    have HL := Hid.mk hl
    have E := Hid.mk (show (a.take 0).map (nodeKey f) = (b.take 0).map (nodeKey f) by simp)
    clear hA hB hl
    go_enter Tryz.func19, Tryz.ntmps19
    go_wp2
    go_loopw [7] (fun i ur => ∃ k : Nat, i = .int .i64 k ∧ k ≤ a.length ∧ Hid ((a.take k).map (nodeKey f) = (b.take k).map (nodeKey f)) ∧ Hid (∀ c, ur.cell? c = w.cell? c) ∧ Hid (Below w.heap.size w ur)) (fun i _ => a.length - (intOf i).toNat)
    case atStart => exact ⟨0, rfl, by omega, E, Hid.mk fun _ => rfl, Hid.mk (Below.refl _ _)⟩
    case round =>
      obtain ⟨k, rfl, hk, hE, hcells, hbw⟩ := hrel
      clear E
      rcases Nat.lt_or_ge k a.length with hlt | hge
      · have hltb : k < b.length := by have := HL.out; omega
        obtain ⟨ga, hga, hNa⟩ := HA.out k a[k] (List.getElem?_eq_getElem hlt)
        obtain ⟨gb, hgb, hNb⟩ := HB.out k b[k] (List.getElem?_eq_getElem hltb)
        cases hga
        cases hgb
        have HSS : Hid (SameS ga gb k a[k].kind a[k].n ⟨a[k].s.toArray⟩ a[k].at' a[k].len b[k].kind b[k].n ⟨b[k].s.toArray⟩ b[k].at' b[k].len wr) := by
          obtain ⟨p0, p1, p2, p3, p4⟩ := hNa
          obtain ⟨q0, q1, q2, q3, q4⟩ := hNb
          unfold SameS
          simp only [hcells.out]
          exact ⟨p0, p1, p2, p3, p4, q0, q1, q2, q3, q4⟩
        have hk0 : (k : Int) < (a.length : Int) := by omega
        clear hNa hNb
        go_wp2_with fail
        refine same_region (l := [_, _, _, _, _, _, _, _, _, _, _, _, _, _, _, _, _, _, _]) (m := [_, _, _, _, _, _, _, _, _, _, _, _, _, _, _, _, _, _, _, _, _, _, _, _, _, _, _, _, _, _, _, _, _, _, _, _, _, _, _, _, _, _, _, _, _, _, _, _, _, _, _, _, _, _, _, _, _, _, _, _, _, _, _, _, _, _]) (by kernel_rfl) rfl rfl rfl rfl rfl rfl rfl hlt hca hcb HSS.out (fun _ _ _ _ _ h => h) ?_
        simp only [sameVs, key_ne, List.cons_append, List.nil_append]
        by_cases hne : nodeKey f a[k] = nodeKey f b[k]
        · rw [decide_eq_false (show ¬ (nodeKey f a[k] ≠ nodeKey f b[k]) from fun h => h hne)]
          have hE2 : Hid ((a.take (k + 1)).map (nodeKey f) = (b.take (k + 1)).map (nodeKey f)) := by
            show _ = _
            rw [List.take_succ_eq_append_getElem hlt, List.take_succ_eq_append_getElem hltb, List.map_append, List.map_append, hE.out, List.map_singleton, List.map_singleton, hne]
          have hc2 : Hid (∀ c, wr.drew.cell? c = w.cell? c) := hcells.out
          have hb2 : Hid (Below w.heap.size w wr.drew) := hbw.out.drew
          clear hE hcells hbw HSS hne
          go_wp2
          exact ⟨⟨k + 1, by go_num, by omega, hE2, hc2, hb2⟩, by simp [intOf]; omega⟩
        · rw [decide_eq_true (show nodeKey f a[k] ≠ nodeKey f b[k] from hne)]
          have NE : Hid (¬ a.map (nodeKey f) = b.map (nodeKey f)) := by
            intro he
            apply hne
            have h1 : (a.map (nodeKey f))[k]? = (b.map (nodeKey f))[k]? := by rw [he]
            rw [List.getElem?_map, List.getElem?_map, List.getElem?_eq_getElem hlt, List.getElem?_eq_getElem hltb] at h1
            simpa using h1
          have hc2 : Hid (∀ c, wr.drew.cell? c = w.cell? c) := hcells.out
          have hb2 : Hid (Below w.heap.size w wr.drew) := hbw.out.drew
          clear hE hcells hbw HSS hne
          go_wp2
          go_ret
          exact ⟨by rw [decide_eq_false NE.out]; rfl, hc2.out, hb2.out⟩
      · have hkk : k = a.length := by omega
        subst hkk
        have hE := hE.out
        have HEQ : Hid (a.map (nodeKey f) = b.map (nodeKey f)) := by
          show _ = _
          rw [List.take_length, HL.out, List.take_length] at hE
          exact hE
        have hge0 : ¬ ((a.length : Int) < (a.length : Int)) := by omega
        clear hE
        go_wp2
        go_ret
        exact ⟨by rw [decide_eq_true HEQ.out]; rfl, hcells.out, hbw.out⟩
  · have NE : Hid (¬ a.map (nodeKey f) = b.map (nodeKey f)) := fun h => hl (by simpa using congrArg List.length h)
    have hl' : ¬ ((a.length : Int) = (b.length : Int)) := by omega
    clear hA hB
    go_enter Tryz.func19, Tryz.ntmps19
    go_wp2
    go_ret
    exact ⟨by rw [decide_eq_false NE.out]; rfl, fun _ => rfl, Below.refl _ _⟩
end Go.Proofs.YtmbcibgknckenaaGreatDoor
set_option linter.all false
set_option maxRecDepth 100000
set_option maxHeartbeats 4000000
namespace Go.Proofs.YtmbcibgknckenaaGreatDoor
open Go.RowKit
open Go.MapKept
def okN {α : Type} : Except Nat α → Bool
  | .ok _ => true
  | .error _ => false
theorem kindD_mem (c : Int) : kindD c ∈ kindNames := by
  have h := pickD_lt c (n := 8) (by omega)
  have hl : kindNames.length = 8 := rfl
  unfold kindD
  rw [List.getD_eq_getElem?_getD, List.getElem?_eq_getElem (by omega)]
  exact List.getElem_mem _
theorem keep_starts : kindNames.all (fun n => okN (startD (typesM keepDs).2 n 0 0 0)) = true := by kernel_rfl
theorem startD_lim {places : List (List UInt8 × Nat)} {n : List UInt8} (h : okN (startD places n 0 0 0) = true) {dep fuel size : Int} (h1 : 0 ≤ dep) (h2 : dep ≤ 64) (h3 : 0 ≤ fuel) (h4 : fuel ≤ 10000) (h5 : 0 ≤ size) (h6 : size ≤ 100000) : ∃ p, startD places n dep fuel size = .ok p := by
  unfold startD at h ⊢
  cases hm : mlook places n with
  | none => rw [hm] at h; cases h
  | some p =>
    refine ⟨p, ?_⟩
    simp only
    rw [if_pos]
    simp [upToB, h1, h2, h3, h4, h5, h6]
theorem keep_start (c : Int) {dep fuel size : Int} (h1 : 0 ≤ dep) (h2 : dep ≤ 64) (h3 : 0 ≤ fuel) (h4 : fuel ≤ 10000) (h5 : 0 ≤ size) (h6 : size ≤ 100000) : ∃ p, startD (typesM keepDs).2 (kindD c) dep fuel size = .ok p :=
  startD_lim (List.all_eq_true.1 keep_starts _ (kindD_mem c)) h1 h2 h3 h4 h5 h6
def voidB : DefL → Bool
  | .typedef t => !isVoid t.ty
  | _ => true
theorem keep_voidB : keepDs.all voidB = true := by kernel_rfl
theorem keep_noVoid : NoVoid (envOf keepDs) := by
  intro n t h hv
  have := List.all_eq_true.1 keep_voidB _ (envOf_in h)
  simp [voidB, hv, isVoid] at this
def GivesKd (w : World) (n b : List UInt8) (dep fuel size : Nat) (e : Ending) (u' : World) : Prop := ∃ v er, e = .returned (.tuple #[v, er]) ∧ Keeps [] w u' ∧
  ((∃ ns, decodeD (envOf keepDs) n b dep fuel size = .ok ns ∧ 0 < ns.length ∧ ns.length ≤ 10000 ∧ er = .nilIface ∧ u'.ownsRow w.heap.size 48 5 v ns.length (ns.flatMap nodeC)) ∨
   (∃ f g, decodeD (envOf keepDs) n b dep fuel size = .error f ∧ v = .slice none 0 0 ∧ er = .iface 79 (.pointer (some ⟨g, 0, none⟩)) ∧ u'.heap[g]? = some (.cells #[.int .i64 f.no, .int .i64 f.at'] 83)))
theorem Decode_kept {w : World} {bs : List (Nat × Obj)} {B : Nat} (hS : SpecIn bs B keepDs) (hw : ∀ p ∈ bs, w.heap[p.1]? = some p.2) (c : Int) (b : List UInt8) (hb : b.length ≤ maxLen) (dep fuel size : Nat) (h1 : dep ≤ 64) (h2 : fuel ≤ 10000) (h3 : size ≤ 100000) :
    Calls Tryz.prog 17 #[.pointer (some ⟨B, 0, none⟩), .string ⟨(kindD c).toArray⟩, .string ⟨b.toArray⟩, .agg #[.int .i64 dep, .int .i64 fuel, .int .i64 size]] w (GivesKd w (kindD c) b dep fuel size) := by
  obtain ⟨p, hp⟩ := keep_start c (dep := dep) (fuel := fuel) (size := size) (by omega) (by omega) (by omega) (by omega) (by omega) (by omega)
  refine (Decode_any hS hw keep_whole keep_good (kindD c) b dep fuel size hb).mono ?_
  rintro e u' ⟨hk, h⟩
  rw [hp] at h
  simp only [Int.toNat_natCast] at h
  rcases h with ⟨k, h, _⟩ | ⟨p', ns, v, _, h2, rfl, h4⟩ | ⟨p', f, g, _, h2, rfl, h4, h5⟩
  · cases h
  · exact ⟨v, .nilIface, rfl, hk, Or.inl ⟨ns, h2, decode_some keep_noVoid h2, Nat.le_trans (decode_few h2) (by omega), rfl, h4⟩⟩
  · exact ⟨_, _, rfl, hk, Or.inr ⟨f, g, h2, rfl, rfl, h5⟩⟩
theorem nodes_flat : ∀ (ns : List NodeL) (k : Nat) (x : NodeL) (j : Nat), ns[k]? = some x → j < 5 → (ns.flatMap nodeC)[k * 5 + j]? = (nodeC x)[j]? := by
  intro ns
  induction ns with
  | nil => intro k x j h _; simp at h
  | cons y ys ih =>
    intro k x j h hj
    rw [List.flatMap_cons]
    cases k with
    | zero =>
      simp only [List.getElem?_cons_zero, Option.some.injEq] at h
      subst h
      rw [List.getElem?_append_left (by simp; omega)]
      simp
    | succ k =>
      simp only [List.getElem?_cons_succ] at h
      rw [List.getElem?_append_right (by simp; omega)]
      have e : (k + 1) * 5 + j - (nodeC y).length = k * 5 + j := by simp; omega
      rw [e]
      exact ih k x j h hj
theorem nodes_at {w : World} {base : Nat} {T : TypeId} {v : Value} {ns : List NodeL} (h : w.ownsRow base T 5 v ns.length (ns.flatMap nodeC)) : NodesAt w v ns := by
  obtain ⟨hl, h⟩ := h
  rcases h with ⟨rfl, h0⟩ | ⟨g, cap, cur, rfl, hb, hc, h1, h2, h3, h4⟩
  · have hn : ns = [] := by
      cases ns with
      | nil => rfl
      | cons x xs => simp at h0
    subst hn
    exact ⟨none, 0, rfl, by simp, fun k x hx => by simp at hx⟩
  · refine ⟨_, _, rfl, h1, fun k x hx => ⟨g, rfl, ?_⟩⟩
    rw [← hl] at h4
    have key : ∀ j, j < 5 → ∀ v, (nodeC x)[j]? = some v → w.cell? ⟨g, k * 5 + j, none⟩ = some v := fun j hj v hv => row_cell' hc h4 (by rw [nodes_flat ns k x j hx hj, hv])
    exact ⟨key 0 (by omega) _ rfl, key 1 (by omega) _ rfl, key 2 (by omega) _ rfl, key 3 (by omega) _ rfl, key 4 (by omega) _ rfl⟩
theorem said_key (u v : List NodeL) : u.map (nodeKey false) = v.map (nodeKey false) ↔ u.map NodeL.said = v.map NodeL.said := by
  have e : ∀ l : List NodeL, l.map (nodeKey false) = (l.map NodeL.said).map fun p => ((p.1 : Int), p.2.1, p.2.2.1, (p.2.2.2 : Int), (0 : Int)) := by
    intro l
    rw [List.map_map]
    rfl
  constructor
  · intro h
    rw [e, e] at h
    refine List.map_inj_right (fun p q hpq => ?_) |>.1 h
    simp only [Prod.mk.injEq] at hpq
    obtain ⟨p1, p2, p3, p4⟩ := p
    obtain ⟨q1, q2, q3, q4⟩ := q
    simp only at hpq
    obtain ⟨a1, a2, a3, a4, _⟩ := hpq
    simp only [Prod.mk.injEq]
    exact ⟨by omega, a2, a3, by omega⟩
  · intro h
    rw [e, e, h]
end Go.Proofs.YtmbcibgknckenaaGreatDoor
set_option linter.all false
set_option maxRecDepth 100000
set_option maxHeartbeats 4000000
namespace Go.Proofs.YtmbcibgknckenaaGreatDoor
open Go.RowKit
open Go.MapKept
theorem neqF (p : Addr) (w : World) : (binOp BinOp.neq 24 (.iface 79 (.pointer (some p))) .nilIface).run Tryz.prog w = .ok (.bool true) w := by kernel_rfl
theorem eqlF (p : Addr) (w : World) : (binOp BinOp.eql 24 (.iface 79 (.pointer (some p))) .nilIface).run Tryz.prog w = .ok (.bool false) w := by kernel_rfl
theorem eqlE_nil (w : World) : (binOp BinOp.eql 24 .nilIface .nilIface).run Tryz.prog w = .ok (.bool true) w := by kernel_rfl
theorem Decode_wide {w : World} {bs : List (Nat × Obj)} {B : Nat} (hS : SpecIn bs B keepDs) (hw : ∀ p ∈ bs, w.heap[p.1]? = some p.2) (c : Int) (b : List UInt8) (hb : b.length ≤ maxLen) :
    Calls Tryz.prog 17 #[.pointer (some ⟨B, 0, none⟩), .string ⟨(kindD c).toArray⟩, .string ⟨b.toArray⟩, .agg #[.int .i64 64, .int .i64 10000, .int .i64 100000]] w (GivesKd w (kindD c) b 64 10000 100000) :=
  Decode_kept hS hw c b hb 64 10000 100000 (by omega) (by omega) (by omega)
theorem heap_keeps {bs : List (Nat × Obj)} {w w' : World} (h : ∀ p ∈ bs, w.heap[p.1]? = some p.2) (hk : Keeps [] w w') : ∀ p ∈ bs, w'.heap[p.1]? = some p.2 := fun p hp => (hk.block _ (lt_of_heap (h p hp)) (by simp)).trans (h p hp)
theorem apart_said {c : Int} {a b : List UInt8} {u v : List NodeL} (ha : decodeD (envOf keepDs) (kindD c) a 64 10000 100000 = .ok u) (hb : decodeD (envOf keepDs) (kindD c) b 64 10000 100000 = .ok v) (hne : ¬ a = b) : decide (u.map (nodeKey false) = v.map (nodeKey false)) = false := by
  refine decide_eq_false fun h => hne (decode_apart ha hb ((said_key u v).1 h))
theorem Apart_any {w : World} (hg : Gl w) (c : Int) (h1 : -9223372036854775808 ≤ c) (h2 : c ≤ 9223372036854775807) (a b : List UInt8) :
    Calls Tryz.prog 6 #[.int .i64 c, .string ⟨a.toArray⟩, .string ⟨b.toArray⟩] w fun e w' => e = .returned (.bool true) ∧ Keeps [] w w' := by
  have VS := Hid.mk (spec_any hg)
  have VK := Hid.mk (kinds_any c h1 h2)
  have VW := Hid.mk wide_any
  have hn1 := neqF
  have hn2 := neqE_nil
  have hn3 := eqlF
  have hn4 := eqlE_nil
  clear hg h1 h2
  by_cases la : a.length ≤ 4000
  · by_cases lb : b.length ≤ 4000
    · have VD := Hid.mk (fun (w : World) (bs : List (Nat × Obj)) (B : Nat) (hS : SpecIn bs B keepDs) (hw : ∀ p ∈ bs, w.heap[p.1]? = some p.2) (b : List UInt8) (hb : b.length ≤ maxLen) => Decode_wide hS hw c b hb)
      have HA : Hid (a.length ≤ maxLen) := Nat.le_trans la (by decide)
      have HB : Hid (b.length ≤ maxLen) := Nat.le_trans lb (by decide)
      have AP := Hid.mk (fun u v => apart_said (c := c) (a := a) (b := b) (u := u) (v := v))
      generalize kindD c = nm at VK VD AP
      go_enter Tryz.func6, Tryz.ntmps6
      go_wp2_with fail
      refine VS.out.mono ?_
      rintro e w1 ⟨B, bs, rfl, hk, hS, hh, hB⟩
      have HK1 := Hid.mk hk
      have HS := Hid.mk hS
      have HH := Hid.mk hh
      clear hk hS hh hB VS
      go_wp2_with fail
      refine (VK.out _).mono ?_
      rintro e w2 ⟨rfl, hb2⟩
      have HK2 := Hid.mk (HK1.out.trans (Keeps.of_below [] hb2))
      have HH2 := Hid.mk (heap_keeps HH.out (Keeps.of_below [] hb2))
      clear hb2 VK HK1 HH
      go_wp2_with fail
      refine (VW.out _).mono ?_
      rintro e w3 ⟨rfl, hb3⟩
      have HK3 := Hid.mk (HK2.out.trans (Keeps.of_below [] hb3))
      have HH3 := Hid.mk (heap_keeps HH2.out (Keeps.of_below [] hb3))
      clear hb3 VW HK2 HH2
      go_wp2_with fail
      refine (VD.out _ bs B HS.out (heap_keeps HH3.out ((Keeps.refl [] _).alloc _)) a HA.out).mono ?_
      rintro e w4 ⟨u, er, rfl, hk4, hu⟩
      have HK4 := Hid.mk ((HK3.out.alloc _).trans hk4)
      have HH4 := Hid.mk (heap_keeps (heap_keeps HH3.out ((Keeps.refl [] _).alloc _)) hk4)
      obtain ⟨l0, l1, l2, _, _⟩ := cbound3f ((hk4.block w3.heap.size (by simp) (by simp)).trans (heap_alloc_at rfl))
      clear hk4 HK3 HH3
      go_wp2_with fail
      refine (VD.out _ bs B HS.out HH4.out b HB.out).mono ?_
      rintro e w5 ⟨v, es, rfl, hk5, hv⟩
      have HK5 := Hid.mk (HK4.out.trans hk5)
      clear HK4 HH4 HB HA HS
      have hu2 : (∃ ns, decodeD (envOf keepDs) nm a 64 10000 100000 = .ok ns ∧ 0 < ns.length ∧ ns.length ≤ 10000 ∧ er = .nilIface ∧ NodesAt w5 u ns) ∨ (∃ g, u = .slice none 0 0 ∧ er = .iface 79 (.pointer (some ⟨g, 0, none⟩))) := by
        rcases hu with ⟨ns, e1, e2, e3, e4, e5⟩ | ⟨f, g, e1, e2, e3, e4⟩
        · exact Or.inl ⟨ns, e1, e2, e3, e4, nodes_at (owns_keeps e5 hk5 (by simp))⟩
        · exact Or.inr ⟨g, e2, e3⟩
      have hv2 : (∃ ns, decodeD (envOf keepDs) nm b 64 10000 100000 = .ok ns ∧ 0 < ns.length ∧ ns.length ≤ 10000 ∧ es = .nilIface ∧ NodesAt w5 v ns) ∨ (∃ g, v = .slice none 0 0 ∧ es = .iface 79 (.pointer (some ⟨g, 0, none⟩))) := by
        rcases hv with ⟨ns, e1, e2, e3, e4, e5⟩ | ⟨f, g, e1, e2, e3, e4⟩
        · exact Or.inl ⟨ns, e1, e2, e3, e4, nodes_at e5⟩
        · exact Or.inr ⟨g, e2, e3⟩
      clear hu hv hk5 VD l0 l1 l2
      rcases hu2 with ⟨ns, e1, e2, e3, rfl, e5⟩ | ⟨g, rfl, rfl⟩
      · obtain ⟨au, cu, rfl, hcu, hnu⟩ := e5
        have HU : Hid (NodesAt w5 (.slice au ns.length cu) ns) := ⟨au, cu, rfl, hcu, hnu⟩
        have E1 := Hid.mk e1
        have p2 : (0 : Int) < ns.length := by omega
        clear hnu hcu e1
        rcases hv2 with ⟨ms, f1, f2, f3, rfl, f5⟩ | ⟨g, rfl, rfl⟩
        · obtain ⟨av, cv, rfl, hcv, hnv⟩ := f5
          have HV : Hid (NodesAt w5 (.slice av ms.length cv) ms) := ⟨av, cv, rfl, hcv, hnv⟩
          have F1 := Hid.mk f1
          have q2 : (0 : Int) < ms.length := by omega
          clear hnv hcv f1
          by_cases hab : a = b
          · subst hab
            go_wp2
            go_ret
            exact ⟨rfl, HK5.out⟩
          · have hs : (a == b) = false := beq_eq_false_iff_ne.2 hab
            have HS := Hid.mk (AP.out _ _ E1.out F1.out hab)
            go_wp2_with fail
            refine (same_any false HU.out HV.out e3).mono ?_
            rintro e w6 ⟨rfl, hc6, hb6⟩
            have HK6 := Hid.mk (HK5.out.trans (Keeps.of_below [] hb6))
            rw [HS.out]
            clear hc6 hb6 HU HV HK5
            go_wp2
            go_ret
            exact ⟨rfl, HK6.out⟩
        · go_wp2
          go_ret
          exact ⟨rfl, HK5.out⟩
      · rcases hv2 with ⟨ms, f1, f2, f3, rfl, f5⟩ | ⟨g', rfl, rfl⟩
        · obtain ⟨av, cv, rfl, hcv, hnv⟩ := f5
          have q2 : (0 : Int) < ms.length := by omega
          clear hnv hcv f1
          go_wp2
          go_ret
          exact ⟨rfl, HK5.out⟩
        · go_wp2
          go_ret
          exact ⟨rfl, HK5.out⟩
    · have lb' : (4000 : Int) < b.length := by omega
      have la' : (a.length : Int) ≤ 4000 := by omega
      go_enter Tryz.func6, Tryz.ntmps6
      go_wp2_with fail
      refine VS.out.mono ?_
      rintro e w1 ⟨B, bs, rfl, hk, hS, hh, hB⟩
      have HK1 := Hid.mk hk
      clear hk hS hh hB VS VK VW
      go_wp2
      go_ret
      exact ⟨rfl, HK1.out⟩
  · have la' : (4000 : Int) < a.length := by omega
    go_enter Tryz.func6, Tryz.ntmps6
    go_wp2_with fail
    refine VS.out.mono ?_
    rintro e w1 ⟨B, bs, rfl, hk, hS, hh, hB⟩
    have HK1 := Hid.mk hk
    clear hk hS hh hB VS VK VW
    go_wp2
    go_ret
    exact ⟨rfl, HK1.out⟩
end Go.Proofs.YtmbcibgknckenaaGreatDoor
set_option linter.all false
set_option maxRecDepth 100000
set_option maxHeartbeats 4000000
namespace Go.Proofs.YtmbcibgknckenaaGreatDoor
open Go.ChangeShapes Go.WideShapes Go.ChangeAt Go.RowKit
theorem own_knob : ownKnob Tryz.prog.godebug = none := by kernel_rfl
theorem gRange : Tryz.prog.globalNamed "strconv.ErrRange" = some 4 := by kernel_rfl
theorem gSyntax : Tryz.prog.globalNamed "strconv.ErrSyntax" = some 3 := by kernel_rfl
theorem tRange : (Tryz.prog.globals[4]?).map (·.type) = some 24 := by kernel_rfl
theorem tSyntax : (Tryz.prog.globals[3]?).map (·.type) = some 24 := by kernel_rfl
theorem cell_of_laid {W : World} {n : String} {g : Nat} {cs : Array Value} {name : String} {d : DataW Unit} {p : List MemPlace} {fuel : Nat} (hg : Tryz.prog.globalNamed n = some g) (hv : W.var? Tryz.prog n = some cs)
    (hd : DataW.trod (fun _ => ()) Tryz.prog W 0 (fun _ => true) false fuel 24 cs.toList = some (.iface name d, p)) : ∃ te pe, W.cell? ⟨g, 0, none⟩ = some (.iface te pe) := by
  obtain ⟨_, u, v, hcs, _, _⟩ := iface_of_trod Tryz.underlying24 hd
  refine ⟨u, v, ?_⟩
  have := World.var?_cell hg hv 0
  obtain ⟨l⟩ := cs
  simp only at hcs
  subst hcs
  simpa using this
theorem gl_of_laid {W : World} (h : laidMetH Tryz.prog Rows.apartRow.laid W) (hsh : W.ShapedOpen Tryz.prog) : Gl W := by
  rw [MakeChecks.laidMetH_plain _ _ _ (by kernel_rfl)] at h
  obtain ⟨ps, ⟨g0, t0, cs0, f0, p0, q0, hg0, ht0, hv0, hd0, ⟨g1, t1, cs1, f1, p1, q1, hg1, ht1, hv1, hd1, ⟨g2, t2, cs2, f2, p2, q2, hg2, ht2, hv2, hd2, ⟨g3, t3, cs3, f3, p3, q3, hg3, ht3, hv3, hd3, ⟨g4, t4, cs4, f4, p4, q4, hg4, ht4, hv4, hd4, _, _⟩, _⟩, _⟩, _⟩, _⟩, _, _⟩ := h
  obtain rfl := Option.some.inj (gRange.symm.trans hg3)
  obtain rfl := Option.some.inj (gSyntax.symm.trans hg4)
  obtain rfl := Option.some.inj (tRange.symm.trans ht3)
  obtain rfl := Option.some.inj (tSyntax.symm.trans ht4)
  exact ⟨cell_of_shapedOpen_int (zero := #[.int .i64 0]) (t := 3) hsh (of_decide_eq_true (by kernel_rfl)) (by kernel_rfl) rfl (by kernel_rfl) (by kernel_rfl) Tryz.underlying3, cell_of_laid hg4 hv4 hd4, cell_of_laid hg3 hv3 hd3⟩
theorem door_met (os : Os) (args : Array Value) : laidMetH Tryz.prog Rows.apartRow.laid ((World.doorLaid Tryz.prog 88 os).forCall (fun _ _ => 0) ⟨#[], args, []⟩).memory :=
  laidMetH_of_parts3 (fuel := 8) (laidMet_of_run' 8 (by kernel_rfl) (by kernel_rfl)) (by kernel_rfl) (by kernel_rfl)
section
variable {H : Type} {enc : TypeId × Value → H}
theorem law_shaped {C : Checked} {os : Os} {f : FuncId} {fn : Func} {s : ChangeSpec} {X : World → Array Value → Prop}
    (hX : ∀ (w w' : World) (args : Array Value), w.heap = w'.heap → X w args → X w' args)
    (own : ownKnob C.prog.godebug = none) (started : os.Started) (noInit : C.prog.inits.idxOf? f = none) (hfn : C.prog.funcs[f]? = some fn)
    (witness : ∃ (w : World) (tape : Tape) (i : Input), w.os = os ∧ (w.forCall tape i).Shaped C.prog ∧ i.vars = [] ∧ Input.okWide C.prog (w.forCall tape i) .any w.heap.size f i ∧
      ((s.pre enc C.prog fn [] false (w.forCall tape i).memory i.args ∧ X (w.forCall tape i).memory i.args) ∧ sizedMet enc C.prog fn (OpenSpec.ofChange s) false (w.forCall tape i).memory i.args) ∧ ({} : Assume).holds C.prog (lone (Frame.enter C.prog f i.args .normal) [] (w.forCall tape i)))
    (contract : ∀ (W : World) (base : Nat) (args : Array Value) (ds gs : List (DataW H)) (before : List MemPlace),
      (∀ (j : Nat) t v, fn.params[j]? = some t → args[j]? = some v → Value.okWide C.prog W .any base t v) →
      DataW.Whole enc C.prog fn.params.toList s.vars false W args.toList ds gs before → X W args → W.ShapedOpen C.prog →
      Calls C.prog f args W fun e W' => ∃ v, e = .returned v ∧ s.post enc C.prog fn false true false false W args v W') :
    ReturnsInHanded {} C os f .any (fun w args => (s.pre enc C.prog fn [] false w args ∧ X w args) ∧ sizedMet enc C.prog fn (OpenSpec.ofChange s) false w args) (s.post enc C.prog fn false true false false) := by
  refine returnsInHanded_of_calls own started noInit witness ?_
  intro w tape i _ hsh _ hok hpre _
  obtain ⟨_, _, _, fn', hfn', _, _, _, _, hval⟩ := hok
  have e : fn' = fn := Option.some.inj (hfn'.symm.trans hfn)
  subst e
  obtain ⟨⟨⟨ds, gs, before, hw, hc⟩, hx⟩, hz⟩ := hpre
  have hw' := DataW.Whole.of_heap (w' := w.forCall tape i) (by rfl) hw
  refine (contract (w.forCall tape i) w.heap.size i.args ds gs before hval hw' (hX _ _ _ (by rfl) hx) hsh).mono fun e W' ⟨v, he, hp⟩ => ?_
  subst he
  exact ChangeSpec.post_blind hp
end
theorem below_of_keeps {w w' : World} (h : Keeps [] w w') : Below w.heap.size w w' := ⟨h.os, h.tape, h.output, h.size, fun k hk => h.block k hk (by simp)⟩
end Go.Proofs.YtmbcibgknckenaaGreatDoor
set_option linter.all false
set_option maxRecDepth 100000
set_option maxHeartbeats 4000000
namespace Go.Proofs.YtmbcibgknckenaaGreatDoor
theorem apart_closed : joinedFacts Tryz.pinned.checked.prog 6 Tryz.f6 Rows.apartSpec Rows.apartRow = true := by
  unfold joinedFacts
  simp only [Bool.and_eq_true]
  repeat' apply And.intro
  all_goals (as_aux_lemma => kernel_rfl)
end Go.Proofs.YtmbcibgknckenaaGreatDoor
set_option linter.all false
set_option maxRecDepth 100000
set_option maxHeartbeats 4000000
namespace Go.Proofs.YtmbcibgknckenaaGreatDoor
open Go.ChangeShapes Go.WideShapes Go.ChangeAt Go.RowKit
open Go.ChangeMaps (open_string shut_string)
theorem apart_lifted (os : Os) (started : os.Started) (H : Type) (enc : TypeId × Value → H) :
    ReturnsInHanded {} Tryz.checked os 6 .any (fun w args => (Rows.apartSpec.pre enc Tryz.prog Tryz.f6 [] false w args ∧ laidMetH Tryz.prog Rows.apartRow.laid w) ∧ sizedMet enc Tryz.prog Tryz.f6 (OpenSpec.ofChange Rows.apartSpec) false w args)
      (Rows.apartSpec.post enc Tryz.prog Tryz.f6 false true false false) := by
  refine law_shaped (C := Tryz.checked) (X := fun w _ => laidMetH Tryz.prog Rows.apartRow.laid w) (fun _ _ _ hh h => h.of_heap hh) own_knob started (by kernel_rfl) Tryz.func6
    (ChangeSpec.witness_shaped (enc := enc) (C := Tryz.checked) (os := os) (X := fun w _ => laidMetH Tryz.prog Rows.apartRow.laid w) false (World.doorLaid Tryz.prog 88 os) #[.int .i64 0, .string ⟨#[]⟩, .string ⟨#[]⟩] 8 rfl (World.shaped_of_RefB (by kernel_rfl) (by kernel_rfl)) (by kernel_rfl) (by kernel_rfl) (by kernel_rfl) (door_met os _)) ?_
  intro W base args ds gs before hval0 hW hL hsh
  have hval : ∀ (j : Nat) t v, Tryz.f6.params[j]? = some t → args[j]? = some v → Value.okWide Tryz.prog W .any base t v := hval0
  have hW' := hW
  obtain ⟨p, q, hA0, hV, rfl, hfz, hnd⟩ := hW
  have hA : DataW.TrodAll enc Tryz.prog W 0 (fun _ => true) true Tryz.f6.params.toList args.toList ds p := hA0
  rw [Tryz.params6] at hA hval
  obtain ⟨v0, v1, v2, d0, d1, d2, p0, p1, p2, rfl, rfl, rfl, h0, h1, h2⟩ := trodAll_three hA
  obtain ⟨rfl, rfl⟩ := trodVars_none hV
  obtain ⟨c, rfl, rfl, rfl, wc⟩ := open_int Tryz.underlying3 (hval 0 3 v0 rfl rfl) h0
  obtain ⟨⟨⟨a⟩⟩, rfl, rfl, rfl, ha⟩ := open_string Tryz.underlying9 (hval 1 9 v1 rfl rfl) h1
  obtain ⟨⟨⟨b⟩⟩, rfl, rfl, rfl, hb⟩ := open_string Tryz.underlying9 (hval 2 9 v2 rfl rfl) h2
  clear hA0 hval0
  have bc := bounds_i64 wc
  refine (Apart_any (gl_of_laid hL hsh) c bc.1 bc.2 a b).mono fun e W' ⟨he, hk⟩ => ?_
  subst he
  exact ⟨_, rfl, _, _, _, [], _, [], hW', trodAll_mk1 (shut_bool Tryz.underlying4 _), trodAll_mk3 (shut_int Tryz.underlying3 wc) (shut_string Tryz.underlying9 ha) (shut_string Tryz.underlying9 hb), rfl, (below_of_keeps hk).frame _, fun h => by cases h⟩
theorem apart_row : Rows.ApartSaid :=
  OpenClaim.holds_of_wide 6 Tryz.f6 rfl rfl rfl rfl rfl rfl rfl ⟨rfl, rfl, rfl, rfl, rfl⟩ rfl rfl rfl rfl rfl (by kernel_rfl) Tryz.func6 apart_closed
    (of_decide_eq_true (by kernel_rfl)) (by unfold Func.isWrapper; rw [if_neg (of_decide_eq_false (by kernel_rfl))]; exact ⟨rfl, rfl⟩)
    (fun os started H enc _ => apart_lifted os started H enc)
theorem apart_card : Rows.ApartCardSaid :=
  Claim7.holds_tied_plain_at .later [] Rows.apartCard.laidKinds true Rows.apartCard.stood.harness true
    apart_row (fun _ h => by cases h) (by kernel_rfl) (fun _ h => by cases h) apart_row_tie rfl ⟨rfl, rfl⟩ (by kernel_rfl) rfl
    (fun f fn hf hfn => by
      obtain rfl : f = 6 := Option.some.inj ((show Tryz.prog.funcNamed "marshal/marshalkeep.Apart" = some 6 by kernel_rfl).symm.trans hf) |>.symm
      obtain rfl : fn = Tryz.f6 := (Option.some.inj (Tryz.func6.symm.trans hfn)).symm
      exact ⟨by kernel_rfl, fun j t ht => by
        rw [Tryz.params6] at ht
        have hm : t ∈ [3, 9, 9] := by simpa using Array.mem_of_getElem? ht
        have hall : ([3, 9, 9].all fun u => !Tryz.prog.wantsStandIn u) = true := by kernel_rfl
        exact (show Tryz.prog.wantsStandIn t = false by simpa using List.all_eq_true.1 hall t hm)⟩)
    (by kernel_rfl)
#print axioms apart_card
end Go.Proofs.YtmbcibgknckenaaGreatDoor
