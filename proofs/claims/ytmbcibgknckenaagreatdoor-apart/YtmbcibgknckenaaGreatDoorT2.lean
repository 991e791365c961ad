import Derived.Test.YtmbcibgknckenaaGreatDoorT1
import Derived.MapKept
set_option linter.all false
set_option maxRecDepth 100000
set_option maxHeartbeats 4000000
namespace Go.Proofs.YtmbcibgknckenaaGreatDoor
open Go.RowKit
inductive Ty where
  | plain (k : Nat)
  | named (t : List UInt8) (at' : Nat)
  | opaq (n : Int) (fixed : Bool)
  | str (n : Int) (fixed : Bool)
  | arr (of : Ty) (n : Int) (fixed : Bool)
  | opt (of : Ty)
  | void
def tyV : Ty → Value
  | .plain k => .iface 301 (.agg #[.int .i64 k])
  | .named t a => .iface 213 (.agg #[.string ⟨t.toArray⟩, .int .i64 a])
  | .opaq n f => .iface 306 (.agg #[.int .i64 n, .bool f])
  | .str n f => .iface 309 (.agg #[.int .i64 n, .bool f])
  | .arr o n f => .iface 311 (.agg #[tyV o, .int .i64 n, .bool f])
  | .opt o => .iface 314 (.agg #[tyV o])
  | .void => .iface 340 (.agg #[])
structure DeclL where
  t : List UInt8
  at' : Nat
  ty : Ty
structure ProcL where
  t : List UInt8
  at' : Nat
  res : Ty
  arg : Ty
  num : Int
structure VersionL where
  t : List UInt8
  at' : Nat
  procs : List ProcL
  num : Int
inductive DefL where
  | const (t : List UInt8) (at' : Nat) (v : Int)
  | typedef (d : DeclL)
  | enum (t : List UInt8) (at' : Nat) (ms : List (List UInt8 × Nat × Int))
  | struct (t : List UInt8) (at' : Nat) (ms : List DeclL)
  | union (t : List UInt8) (at' : Nat) (sel : DeclL) (arms : List (List Int × DeclL))
  | prog (t : List UInt8) (at' : Nat) (vs : List VersionL) (num : Int)
def Held (X : List Nat) (bs : List (Nat × Obj)) (w : World) : Prop := ∀ p ∈ bs, w.heap[p.1]? = some p.2 ∧ p.1 ∉ X
abbrev nameC (t : List UInt8) (a : Nat) : List Value := [.string ⟨t.toArray⟩, .int .i64 a]
abbrev declC (d : DeclL) : List Value := [.string ⟨d.t.toArray⟩, .int .i64 d.at', tyV d.ty]
def SliceIn (bs : List (Nat × Obj)) (e : TypeId) (v : Value) (n : Nat) (xs : List Value) : Prop :=
  (v = .slice none 0 0 ∧ n = 0 ∧ xs = []) ∨ ∃ g cap cur, v = .slice (some ⟨g, 0, none⟩) n cap ∧ (n ≤ cap ∧ n ≤ 1000) ∧ (g, Obj.cells cur e) ∈ bs ∧ cur.toList.take xs.length = xs
def ConstIn (bs : List (Nat × Obj)) (b : Nat) (m : List UInt8 × Nat × Int) : Prop := (b, Obj.cells #[.string ⟨m.1.toArray⟩, .int .i64 m.2.1, .int .i64 m.2.2] 272) ∈ bs
def DefIn (bs : List (Nat × Obj)) (b : Nat) : DefL → Prop
  | .const t a v => ConstIn bs b (t, a, v)
  | .typedef d => (b, Obj.cells (declC d).toArray 197) ∈ bs
  | .enum t a ms => ∃ (sl : Value) (ps : List Nat), (b, Obj.cells (nameC t a ++ [sl]).toArray 206) ∈ bs ∧ ps.length = ms.length ∧
      SliceIn bs 176 sl ms.length (ps.map fun q => Value.pointer (some ⟨q, 0, none⟩)) ∧ ∀ i (h : i < ms.length) (h' : i < ps.length), ConstIn bs ps[i] ms[i]
  | .struct t a ms => ∃ (sl : Value), (b, Obj.cells (nameC t a ++ [sl]).toArray 282) ∈ bs ∧ SliceIn bs 195 sl ms.length (ms.flatMap declC)
  | .union t a sel arms => ∃ (sl : Value) (cs : List Value), (b, Obj.cells (nameC t a ++ declC sel ++ [sl]).toArray 287) ∈ bs ∧ cs.length = arms.length ∧
      SliceIn bs 292 sl arms.length ((arms.zip cs).flatMap fun p => p.2 :: declC p.1.2) ∧
      ∀ i (h : i < arms.length) (h' : i < cs.length), SliceIn bs 2 cs[i] arms[i].1.length (arms[i].1.map fun n => Value.int .i64 n)
  | .prog t a vs num => ∃ (sl : Value) (cs : List Value), (b, Obj.cells (nameC t a ++ [sl, .int .i64 num]).toArray 220) ∈ bs ∧ cs.length = vs.length ∧
      SliceIn bs 296 sl vs.length ((vs.zip cs).flatMap fun p => nameC p.1.t p.1.at' ++ [p.2, .int .i64 p.1.num]) ∧
      ∀ i (h : i < vs.length) (h' : i < cs.length), SliceIn bs 342 cs[i] vs[i].procs.length (vs[i].procs.flatMap fun q => nameC q.t q.at' ++ [tyV q.res, tyV q.arg, .int .i64 q.num])
def defT : DefL → TypeId
  | .const .. => 176
  | .typedef .. => 178
  | .enum .. => 180
  | .struct .. => 182
  | .union .. => 184
  | .prog .. => 186
def EntIn (bs : List (Nat × Obj)) (v : Value) : Option DefL → Prop
  | none => v = .nilIface
  | some d => ∃ b, v = .iface (defT d) (.pointer (some ⟨b, 0, none⟩)) ∧ DefIn bs b d
def namesObj (l : List (List UInt8 × Value)) : Obj := .map (l.mapIdx fun i p => ⟨.string ⟨p.1.toArray⟩, p.2, i⟩).toArray l.length
def numsObj (l : List (Int × Int)) : Obj := .map (l.mapIdx fun i p => ⟨.int .i64 p.1, .int .i64 p.2, i⟩).toArray l.length
def Names (X : List Nat) (N : Nat) (l : List (List UInt8 × Option DefL)) (w : World) : Prop :=
  (l.map (·.1)).Nodup ∧ ∃ (bs : List (Nat × Obj)) (vs : List Value), Held X bs w ∧ vs.length = l.length ∧ w.heap[N]? = some (namesObj (l.zip vs |>.map fun p => (p.1.1, p.2))) ∧ ∀ i (h : i < l.length) (h' : i < vs.length), EntIn bs vs[i] l[i].2
theorem lt_of_heap {w : World} {b : Nat} {o : Obj} (h : w.heap[b]? = some o) : b < w.heap.size := by
  by_cases hb : b < w.heap.size
  · exact hb
  · simp [Array.getElem?_eq_none (Nat.le_of_not_lt hb)] at h
theorem Held.keeps {X : List Nat} {bs : List (Nat × Obj)} {w w' : World} {M : List Nat} (h : Held X bs w) (hk : Keeps M w w') (hM : ∀ m ∈ M, m ∈ X) : Held X bs w' := by
  intro p hp
  obtain ⟨h1, h2⟩ := h p hp
  exact ⟨(hk.block _ (lt_of_heap h1) (fun hm => h2 (hM _ hm))).trans h1, h2⟩
theorem Held.add {X : List Nat} {bs : List (Nat × Obj)} {w : World} (h : Held X bs w) {b : Nat} (hb : w.heap.size ≤ b) : Held (b :: X) bs w := by
  intro p hp
  obtain ⟨h1, h2⟩ := h p hp
  refine ⟨h1, ?_⟩
  have := lt_of_heap h1
  simp only [List.mem_cons, not_or]
  exact ⟨by omega, h2⟩
theorem Held.sub {X X' : List Nat} {bs : List (Nat × Obj)} {w : World} (h : Held X bs w) (hX : ∀ x ∈ X', x ∈ X) : Held X' bs w :=
  fun p hp => ⟨(h p hp).1, fun hm => (h p hp).2 (hX _ hm)⟩
theorem Names.keeps {X : List Nat} {N : Nat} {l : List (List UInt8 × Option DefL)} {w w' : World} {M : List Nat} (h : Names X N l w) (hk : Keeps M w w') (hM : ∀ m ∈ M, m ∈ X) (hN : N ∉ M) : Names X N l w' := by
  obtain ⟨nd, bs, vs, h1, h2, h3, h4⟩ := h
  exact ⟨nd, bs, vs, h1.keeps hk hM, h2, (hk.block _ (lt_of_heap h3) hN).trans h3, h4⟩
theorem Names.below {X : List Nat} {N : Nat} {l : List (List UInt8 × Option DefL)} {w w' : World} (h : Names X N l w) (hb : Below w.heap.size w w') : Names X N l w' :=
  h.keeps (Keeps.of_below [] hb) (by simp) (by simp)
theorem Names.add {X : List Nat} {N : Nat} {l : List (List UInt8 × Option DefL)} {w : World} (h : Names X N l w) {b : Nat} (hb : w.heap.size ≤ b) : Names (b :: X) N l w := by
  obtain ⟨nd, bs, vs, h1, h2⟩ := h
  exact ⟨nd, bs, vs, h1.add hb, h2⟩
theorem Names.sub {X X' : List Nat} {N : Nat} {l : List (List UInt8 × Option DefL)} {w : World} (h : Names X N l w) (hX : ∀ x ∈ X', x ∈ X) : Names X' N l w := by
  obtain ⟨nd, bs, vs, h1, h2⟩ := h
  exact ⟨nd, bs, vs, h1.sub hX, h2⟩
theorem Names.heap {X : List Nat} {N : Nat} {l : List (List UInt8 × Option DefL)} {w : World} (h : Names X N l w) : ∃ es c, w.heap[N]? = some (.map es c) := by
  obtain ⟨_, bs, vs, _, _, h3, _⟩ := h
  exact ⟨_, _, h3⟩
end Go.Proofs.YtmbcibgknckenaaGreatDoor
set_option linter.all false
set_option maxRecDepth 100000
set_option maxHeartbeats 4000000
namespace Go.Proofs.YtmbcibgknckenaaGreatDoor
open Go.RowKit
structure Ad where
  R : Nat
  S : Nat
  N : Nat
  P : Nat
  X : List Nat
def Ad.add (A : Ad) (b : Nat) : Ad := { A with X := b :: A.X }
structure St where
  at' : Nat
  nx : Option Mar.Word
  types : Nat
  consts : Nat
  names : List (List UInt8 × Option DefL)
  progs : List (Int × Int)
structure Rd (A : Ad) (text : ByteArray) (σ : St) (w : World) : Prop where
  me : w.heap[A.R]? = some (.cells #[.pointer (some ⟨A.S, 0, none⟩), .map (some A.N), .int .i64 σ.types, .int .i64 σ.consts, .map (some A.P)] 107)
  sc : Sc A.S text σ.at' σ.nx w
  nm : Names A.X A.N σ.names w
  mine : A.R ∈ A.X ∧ A.S ∈ A.X ∧ A.N ∈ A.X ∧ A.P ∈ A.X
  old : ∀ x ∈ A.X, x < w.heap.size
  pr : w.heap[A.P]? = some (numsObj σ.progs)
  np : A.N ≠ A.P
  gl : Gl w
  small : text.size ≤ 4000000000
  few : σ.types ≤ 1000000 ∧ σ.consts ≤ 1000000
theorem Sc.at {S : Nat} {text : ByteArray} {at' : Nat} {nx : Option Mar.Word} {w : World} (h : Sc S text at' nx w) : ∃ k t n a hl, ScAt S text at' k t n a hl w := by
  obtain ⟨_, h⟩ := h
  cases nx with
  | some x => exact ⟨_, _, _, _, _, h⟩
  | none => obtain ⟨k, t, n, a, h⟩ := h; exact ⟨k, t, n, a, _, h⟩
theorem Rd.apart {A : Ad} {text : ByteArray} {σ : St} {w : World} (h : Rd A text σ w) : A.R ≠ A.S ∧ A.R ≠ A.N ∧ A.R ≠ A.P ∧ A.S ≠ A.N ∧ A.S ≠ A.P ∧ A.N ≠ A.P := by
  obtain ⟨k, t, n, a, hl, hs⟩ := h.sc.at
  have hs' : w.heap[A.S]? = _ := hs
  have hm := h.me
  obtain ⟨es, c, hn⟩ := h.nm.heap
  have hp := h.pr
  unfold numsObj at hp
  refine ⟨?_, ?_, ?_, ?_, ?_, h.np⟩
  · intro e; rw [e, hs'] at hm; simp at hm
  · intro e; rw [e, hn] at hm; cases hm
  · intro e; rw [e, hp] at hm; cases hm
  · intro e; rw [e, hn] at hs'; cases hs'
  · intro e; rw [e, hp] at hs'; cases hs'
theorem Rd.lt {A : Ad} {text : ByteArray} {σ : St} {w : World} (h : Rd A text σ w) : A.R < w.heap.size ∧ A.S < w.heap.size ∧ A.N < w.heap.size ∧ A.P < w.heap.size := by
  obtain ⟨k, t, n, a, hl, hs⟩ := h.sc.at
  obtain ⟨es, c, hn⟩ := h.nm.heap
  exact ⟨lt_of_heap h.me, lt_of_heap hs, lt_of_heap hn, lt_of_heap h.pr⟩
theorem Rd.cells {A : Ad} {text : ByteArray} {σ : St} {w : World} (h : Rd A text σ w) :
    w.cell? ⟨A.R, 0, none⟩ = some (.pointer (some ⟨A.S, 0, none⟩)) ∧ w.cell? ⟨A.R, 1, none⟩ = some (.map (some A.N)) ∧ w.cell? ⟨A.R, 2, none⟩ = some (.int .i64 σ.types) ∧
    w.cell? ⟨A.R, 3, none⟩ = some (.int .i64 σ.consts) ∧ w.cell? ⟨A.R, 4, none⟩ = some (.map (some A.P)) ∧ ∀ i, w.frozen? ⟨A.R, i, none⟩ = false := by
  have hm := h.me
  refine ⟨?_, ?_, ?_, ?_, ?_, ?_⟩ <;> simp [World.cell?, World.frozen?, hm]
theorem Rd.below {A : Ad} {text : ByteArray} {σ : St} {w w' : World} (h : Rd A text σ w) (hb : Below w.heap.size w w') : Rd A text σ w' := by
  obtain ⟨l1, l2, l3, l4⟩ := h.lt
  exact ⟨(hb.block _ l1).trans h.me, h.sc.below hb, h.nm.below hb, h.mine, fun x hx => Nat.lt_of_lt_of_le (h.old x hx) hb.size, (hb.block _ l4).trans h.pr, h.np, h.gl.below hb, h.small, h.few⟩
theorem Rd.scanned {A : Ad} {text : ByteArray} {σ : St} {w w' : World} (h : Rd A text σ w) (hk : Keeps [A.S] w w') {p : Nat} {nx : Option Mar.Word} (hs : Sc A.S text p nx w') :
    Rd A text { σ with at' := p, nx := nx } w' := by
  obtain ⟨l1, l2, l3, l4⟩ := h.lt
  obtain ⟨n1, n2, n3, n4, n5, n6⟩ := h.apart
  obtain ⟨k, t, n, a, hl, hs0⟩ := h.sc.at
  obtain ⟨f1, f2, f3⟩ := hs0.far h.gl
  exact ⟨(hk.block _ l1 (by simp [n1])).trans h.me, hs, h.nm.keeps hk (by simp; exact h.mine.2.1) (by simp; exact fun e => n4 e.symm), h.mine, fun x hx => Nat.lt_of_lt_of_le (h.old x hx) hk.size, (hk.block _ l4 (by simp; exact fun e => n5 e.symm)).trans h.pr, h.np,
    h.gl.keeps hk (by simp [f1]) (by simp [f2]) (by simp [f3]), h.small, h.few⟩
theorem Rd.keeps {A : Ad} {text : ByteArray} {σ : St} {w w' : World} {M : List Nat} (h : Rd A text σ w) (hk : Keeps M w w') (hX : ∀ m ∈ M, m ∈ A.X) (h1 : A.R ∉ M) (h2 : A.S ∉ M) (h3 : A.N ∉ M) (h4 : A.P ∉ M)
    (g1 : 2 ∉ M) (g2 : 3 ∉ M) (g3 : 4 ∉ M) : Rd A text σ w' := by
  obtain ⟨l1, l2, l3, l4⟩ := h.lt
  refine ⟨(hk.block _ l1 h1).trans h.me, ?_, h.nm.keeps hk hX h3, h.mine, fun x hx => Nat.lt_of_lt_of_le (h.old x hx) hk.size, (hk.block _ l4 h4).trans h.pr, h.np, h.gl.keeps hk g1 g2 g3, h.small, h.few⟩
  obtain ⟨ha, hs⟩ := h.sc
  refine ⟨ha, ?_⟩
  have hb := hk.block _ l2 h2
  cases hn : σ.nx with
  | some x => rw [hn] at hs; exact hb.trans hs
  | none => rw [hn] at hs; obtain ⟨k, t, n, a, hs⟩ := hs; exact ⟨k, t, n, a, hb.trans hs⟩
theorem Rd.setNew {A A' : Ad} {text : ByteArray} {σ0 σ : St} {w w1 : World} (h0 : Rd A text σ0 w) (hA : A'.R = A.R ∧ A'.S = A.S ∧ A'.N = A.N ∧ A'.P = A.P) (h : Rd A' text σ w1) {p : Addr} (hp : w.heap.size ≤ p.block) (hX : p.block ∈ A'.X) (v : Value) : Rd A' text σ (w1.setCell p v) := by
  obtain ⟨l1, l2, l3, l4⟩ := h0.lt
  obtain ⟨⟨m, q1⟩, ⟨_, _, q2⟩, ⟨_, _, q3⟩⟩ := h0.gl
  have q1 := lt_of_cell q1
  have q2 := lt_of_cell q2
  have q3 := lt_of_cell q3
  obtain ⟨a1, a2, a3, a4⟩ := hA
  refine h.keeps ((Keeps.refl [p.block] w1).setIn (by simp) v) (by simpa using hX) ?_ ?_ ?_ ?_ ?_ ?_ ?_ <;> simp <;> omega
theorem Rd.own {A : Ad} {text : ByteArray} {σ : St} {w : World} (h : Rd A text σ w) (o : Obj) : Rd (A.add w.heap.size) text σ (w.alloc o) := by
  have hb := h.below ((Below.refl w.heap.size w).alloc (Nat.le_refl _) o)
  refine ⟨hb.me, hb.sc, (h.nm.add (Nat.le_refl _)).below ((Below.refl w.heap.size w).alloc (Nat.le_refl _) o), ?_, ?_, hb.pr, hb.np, hb.gl, hb.small, hb.few⟩
  · obtain ⟨m1, m2, m3, m4⟩ := h.mine
    exact ⟨List.mem_cons_of_mem _ m1, List.mem_cons_of_mem _ m2, List.mem_cons_of_mem _ m3, List.mem_cons_of_mem _ m4⟩
  · intro x hx
    simp only [Ad.add, List.mem_cons] at hx
    rcases hx with rfl | hx
    · simp
    · have := h.old x hx
      simp; omega
theorem Rd.drop {A : Ad} {b : Nat} {text : ByteArray} {σ : St} {w : World} (hm : A.R ∈ A.X ∧ A.S ∈ A.X ∧ A.N ∈ A.X ∧ A.P ∈ A.X) (h : Rd (A.add b) text σ w) : Rd A text σ w :=
  ⟨h.me, h.sc, h.nm.sub (fun x hx => List.mem_cons_of_mem _ hx), hm, fun x hx => h.old x (List.mem_cons_of_mem _ hx), h.pr, h.np, h.gl, h.small, h.few⟩
abbrev PM (α : Type) := St → Except Mar.Fault (α × St)
def Gives {α : Type} (M : List Nat) (A : Ad) (text : ByteArray) (w : World) (r : Except Mar.Fault (α × St)) (V : α → Value) (e : Ending) (w' : World) : Prop :=
  Keeps M w w' ∧ ((∃ a σ', r = .ok (a, σ') ∧ e = .returned (V a) ∧ Rd A text σ' w') ∨ (∃ f, r = .error f ∧ Thrown w f.no f.at' e w'))
def peek (text : ByteArray) : PM Mar.Word := fun σ =>
  match peekM text.data.toList σ.at' σ.nx with
  | .ok (x, p) => .ok (x, { σ with at' := p, nx := some x })
  | .error f => .error f
def next (text : ByteArray) : PM Mar.Word := fun σ =>
  match peekM text.data.toList σ.at' σ.nx with
  | .ok (x, p) => .ok (x, { σ with at' := p, nx := none })
  | .error f => .error f
theorem peek_calls {A : Ad} {text : ByteArray} {σ : St} {w : World} (h : Rd A text σ w) :
    Calls Tryz.prog 49 #[.pointer (some ⟨A.S, 0, none⟩)] w (Gives [A.S] A text w (peek text σ) wordV) := by
  refine (Peek_any A.S text σ.at' σ.nx w h.sc h.gl h.small).mono ?_
  rintro e w' ⟨hk, ⟨x, p, hx, rfl, hs⟩ | ⟨f, hx, ht⟩⟩
  · exact ⟨hk, Or.inl ⟨x, _, by simp only [peek, hx], rfl, h.scanned hk hs⟩⟩
  · exact ⟨hk, Or.inr ⟨f, by simp only [peek, hx], ht⟩⟩
theorem next_calls {A : Ad} {text : ByteArray} {σ : St} {w : World} (h : Rd A text σ w) :
    Calls Tryz.prog 85 #[.pointer (some ⟨A.S, 0, none⟩)] w (Gives [A.S] A text w (next text σ) wordV) := by
  refine (Next_any A.S text σ.at' σ.nx w h.sc h.gl h.small).mono ?_
  rintro e w' ⟨hk, ⟨x, p, hx, rfl, hs⟩ | ⟨f, hx, ht⟩⟩
  · exact ⟨hk, Or.inl ⟨x, _, by simp only [next, hx], rfl, h.scanned hk hs⟩⟩
  · exact ⟨hk, Or.inr ⟨f, by simp only [next, hx], ht⟩⟩
def sees (text : ByteArray) (t : List UInt8) : PM Bool := fun σ =>
  match peek text σ with
  | .ok (x, σ') => .ok (x.text == t, σ')
  | .error f => .error f
theorem field_kind (a b c d : Value) (w : World) : (Instr.field 110 (.agg #[a, b, c, d]) 0).run Tryz.prog w = .ok a w := by kernel_rfl
theorem field_text (a b c d : Value) (w : World) : (Instr.field 110 (.agg #[a, b, c, d]) 1).run Tryz.prog w = .ok b w := by kernel_rfl
theorem field_at (a b c d : Value) (w : World) : (Instr.field 110 (.agg #[a, b, c, d]) 3).run Tryz.prog w = .ok d w := by kernel_rfl
theorem sees_any {A : Ad} {text : ByteArray} {σ : St} (t : ByteArray) {w : World} (h : Rd A text σ w) :
    Calls Tryz.prog 132 #[.pointer (some ⟨A.R, 0, none⟩), .string t] w (Gives [A.S] A text w (sees text t.data.toList σ) .bool) := by
  rw [← ByteArray.toList_eq]
  obtain ⟨c0, c1, c2, c3, c4, hfr⟩ := h.cells
  have hft := field_text
  have HC := Hid.mk (peek_calls h)
  go_enter Tryz.func132, Tryz.ntmps132
  go_wp2_with (go_at_call 49; refine HC.out.mono ?_; rintro e w1 ⟨hk, ⟨x, σ', hx, rfl, hr⟩ | ⟨f, hx, b, hbb, rfl, hcell⟩⟩ <;> (try dsimp only [wordV]))
  · go_ret
    exact ⟨hk, Or.inl ⟨_, σ', by simp only [sees, hx], rfl, hr⟩⟩
  · exact bodyPost_panics ⟨hk, Or.inr ⟨f, by simp only [sees, hx], b, hbb, rfl, hcell⟩⟩
def bnd {α β : Type} (m : PM α) (k : α → PM β) : PM β := fun σ =>
  match m σ with
  | .ok (a, σ') => k a σ'
  | .error f => .error f
def ret {α : Type} (a : α) : PM α := fun σ => .ok (a, σ)
def thr {α : Type} (no at' : Nat) : PM α := fun _ => .error ⟨no, at'⟩
theorem bnd_ok {α β : Type} {m : PM α} {k : α → PM β} {σ σ' : St} {a : α} (h : m σ = .ok (a, σ')) : bnd m k σ = k a σ' := by simp only [bnd, h]
theorem bnd_err {α β : Type} {m : PM α} {k : α → PM β} {σ : St} {f : Mar.Fault} (h : m σ = .error f) : bnd m k σ = .error f := by simp only [bnd, h]
def accept (text : ByteArray) (t : List UInt8) : PM Bool := bnd (sees text t) fun y => if y then bnd (next text) fun _ => ret true else ret false
theorem Gives.ok {α : Type} {M : List Nat} {A : Ad} {text : ByteArray} {w w' : World} {r : Except Mar.Fault (α × St)} {V : α → Value} {a : α} {σ' : St} {v : Value}
    (hk : Keeps M w w') (hr : r = .ok (a, σ')) (hv : v = V a) (h : Rd A text σ' w') : Gives M A text w r V (.returned v) w' := ⟨hk, Or.inl ⟨a, σ', hr, by rw [hv], h⟩⟩
theorem Gives.throws {α : Type} {M M' : List Nat} {A : Ad} {text : ByteArray} {w w1 w' : World} {r : Except Mar.Fault (α × St)} {V : α → Value} {f : Mar.Fault} {b : Nat}
    (hk : Keeps M w w') (hk1 : Keeps M' w w1) (hr : r = .error f) (hb : w1.heap.size ≤ b) (hc : w'.heap[b]? = some (.cells #[.int .i64 f.no, .int .i64 f.at'] 83)) :
    Gives M A text w r V (.panicked [{ v := .iface 79 (.pointer (some ⟨b, 0, none⟩)), recovered := false }]) w' :=
  ⟨hk, Or.inr ⟨f, hr, b, Nat.le_trans hk1.size hb, rfl, hc⟩⟩
theorem accept_any {A : Ad} {text : ByteArray} {σ : St} (t : ByteArray) {w : World} (h : Rd A text σ w) :
    Calls Tryz.prog 126 #[.pointer (some ⟨A.R, 0, none⟩), .string t] w (Gives [A.S] A text w (accept text t.data.toList σ) .bool) := by
  have HC := Hid.mk (sees_any t h)
  go_enter Tryz.func126, Tryz.ntmps126
  go_wp2_with (first
    | (go_at_call 132; refine HC.out.mono ?_; rintro e w1 ⟨hk, ⟨y, σ', hx, rfl, hr⟩ | ⟨f, hx, b, hbb, rfl, hcell⟩⟩; obtain ⟨c0, c1, c2, c3, c4, hfr⟩ := hr.cells)
    | (go_at_call 85; refine (next_calls hr).mono ?_; rintro e w2 ⟨hk2, ⟨x, σ2, hx2, rfl, hr2⟩ | ⟨f, hx2, b, hbb, rfl, hcell⟩⟩))
  · have hy : y = false := by simpa using ‹(!y) = true›
    subst hy
    go_ret
    exact Gives.ok hk (bnd_ok hx) rfl hr
  · have hy : y = true := by simpa using ‹(!y) = false›
    subst hy
    go_ret
    exact Gives.ok (hk.trans hk2) ((bnd_ok hx).trans (bnd_ok hx2)) rfl hr2
  · have hy : y = true := by simpa using ‹(!y) = false›
    subst hy
    exact bodyPost_panics (Gives.throws (hk.trans hk2) hk ((bnd_ok hx).trans (bnd_err hx2)) hbb hcell)
  · exact bodyPost_panics (Gives.throws hk (Keeps.refl [] _) (bnd_err hx) hbb hcell)
def expect (text : ByteArray) (t : List UInt8) : PM Mar.Word := bnd (next text) fun x => if x.text == t then ret x else thr 3 x.at'
theorem expect_any {A : Ad} {text : ByteArray} {σ : St} (t : ByteArray) {w : World} (h : Rd A text σ w) :
    Calls Tryz.prog 121 #[.pointer (some ⟨A.R, 0, none⟩), .string t] w (Gives [A.S] A text w (expect text t.data.toList σ) wordV) := by
  rw [← ByteArray.toList_eq]
  obtain ⟨c0, c1, c2, c3, c4, hfr⟩ := h.cells
  have hlt := h.lt.1
  have hltS := h.lt.2.1
  have HC : Hid (∀ o, Calls Tryz.prog 85 #[.pointer (some ⟨A.S, 0, none⟩)] (w.alloc o) (Gives [A.S] (A.add w.heap.size) text (w.alloc o) (next text σ) wordV)) := fun o => next_calls (h.own o)
  have HA := Hid.mk h.apart
  go_enter Tryz.func121, Tryz.ntmps121
  go_wp2_with (first
    | (go_at_call 85; refine (HC.out _).mono ?_; rintro e w1 ⟨hk, ⟨x, σ', hx, rfl, hr⟩ | ⟨f, hx, b, hbb, rfl, hcell⟩⟩ <;> (try dsimp only [wordV]); have hres := (hk.block w.heap.size (by simp) (by simp; omega)).trans (heap_alloc_at rfl); obtain ⟨r0, r1, r2, r3, hfrR⟩ := wordBlock hres; have hsz1 := hk.size; simp at hsz1; have hlt1 : w.heap.size < w1.heap.size := hsz1; have hlt2 : ¬ w.heap.size = w1.heap.size := (by omega); have HK := Hid.mk hk; have Hx := Hid.mk hx; have HR := Hid.mk hr; clear hres hk hx hr)
    | (go_at_call 47; refine (New_any _ _ _).mono ?_; rintro e w' ⟨rfl, rfl⟩))
  · have e1 : (x.text == t.toList) = false := by simpa using ‹(!x.text == t.toList) = true›
    refine bodyPost_panics (Gives.throws (M' := [A.S]) (w1 := w1) (f := ⟨3, x.at'⟩) ((((Keeps.refl _ _).alloc _).trans HK.out).alloc _ |>.alloc _) (((Keeps.refl _ _).alloc _).trans HK.out) ((bnd_ok Hx.out).trans ?_) (by omega) (heap_alloc_at (by simp)))
    rw [e1]; rfl
  · have e1 : (x.text == t.toList) = true := by simpa using ‹(!x.text == t.toList) = false›
    refine bodyPost_ret (v := wordV x) (by simp [results, Tryz.results121, go_sem, hlt1, r0, r1, r2, r3]) rfl (Gives.ok (a := x) ?_ ((bnd_ok Hx.out).trans (by rw [e1]; rfl)) rfl ?_)
    · exact ((((((((Keeps.refl _ _).alloc _).trans HK.out)).setNew (Nat.le_refl _) _).setNew (Nat.le_refl _) _).setNew (Nat.le_refl _) _).setNew (Nat.le_refl _) _).alloc _
    · have hs := fun {u : World} (hu : Rd (A.add w.heap.size) text σ' u) (i : Nat) (v : Value) => Rd.setNew (A' := A.add w.heap.size) h ⟨rfl, rfl, rfl, rfl⟩ hu (p := ⟨w.heap.size, i, none⟩) (Nat.le_refl _) (by simp [Ad.add]) v
      exact Rd.drop h.mine ((hs (hs (hs (hs HR.out 0 _) 1 _) 2 _) 3 _).below ((Below.refl _ _).alloc (Nat.le_refl _) _))
  · exact bodyPost_panics (Gives.throws (((Keeps.refl _ _).alloc _).trans hk) ((Keeps.refl [A.S] _).alloc _) (bnd_err hx) hbb hcell)
end Go.Proofs.YtmbcibgknckenaaGreatDoor
set_option linter.all false
set_option maxRecDepth 100000
set_option maxHeartbeats 4000000
namespace Go.Proofs.YtmbcibgknckenaaGreatDoor
open Go.RowKit
def typeWordK (text : ByteArray) (x : Mar.Word) : PM Ty :=
  if ((x.kind : Int) == 1) then ret (.named x.text x.at')
  else if x.text == [105, 110, 116] then ret (.plain 0)
  else if x.text == [104, 121, 112, 101, 114] then ret (.plain 2)
  else if x.text == [98, 111, 111, 108] then ret (.plain 4)
  else if x.text == [117, 110, 115, 105, 103, 110, 101, 100] then
    bnd (accept text [104, 121, 112, 101, 114]) fun y => if y then ret (.plain 3) else bnd (accept text [105, 110, 116]) fun _ => ret (.plain 1)
  else thr 3 x.at'
def typeWord (text : ByteArray) : PM Ty := bnd (next text) (typeWordK text)
theorem tw1 {text : ByteArray} {x : Mar.Word} (h1 : ((x.kind : Int) == 1) = true) : typeWordK text x = ret (.named x.text x.at') := by unfold typeWordK; rw [if_pos h1]
theorem tw2 {text : ByteArray} {x : Mar.Word} (h1 : ((x.kind : Int) == 1) = false) (h2 : (x.text == [105, 110, 116]) = true) : typeWordK text x = ret (.plain 0) := by unfold typeWordK; simp only [h1, h2, Bool.false_eq_true, if_false, if_true]
theorem tw3 {text : ByteArray} {x : Mar.Word} (h1 : ((x.kind : Int) == 1) = false) (h2 : (x.text == [105, 110, 116]) = false) (h3 : (x.text == [104, 121, 112, 101, 114]) = true) : typeWordK text x = ret (.plain 2) := by unfold typeWordK; simp only [h1, h2, h3, Bool.false_eq_true, if_false, if_true]
theorem tw4 {text : ByteArray} {x : Mar.Word} (h1 : ((x.kind : Int) == 1) = false) (h2 : (x.text == [105, 110, 116]) = false) (h3 : (x.text == [104, 121, 112, 101, 114]) = false) (h4 : (x.text == [98, 111, 111, 108]) = true) : typeWordK text x = ret (.plain 4) := by unfold typeWordK; simp only [h1, h2, h3, h4, Bool.false_eq_true, if_false, if_true]
theorem tw5 {text : ByteArray} {x : Mar.Word} (h1 : ((x.kind : Int) == 1) = false) (h2 : (x.text == [105, 110, 116]) = false) (h3 : (x.text == [104, 121, 112, 101, 114]) = false) (h4 : (x.text == [98, 111, 111, 108]) = false) (h5 : (x.text == [117, 110, 115, 105, 103, 110, 101, 100]) = true) :
    typeWordK text x = bnd (accept text [104, 121, 112, 101, 114]) fun y => if y then ret (.plain 3) else bnd (accept text [105, 110, 116]) fun _ => ret (.plain 1) := by unfold typeWordK; simp only [h1, h2, h3, h4, h5, Bool.false_eq_true, if_false, if_true]
theorem tw6 {text : ByteArray} {x : Mar.Word} (h1 : ((x.kind : Int) == 1) = false) (h2 : (x.text == [105, 110, 116]) = false) (h3 : (x.text == [104, 121, 112, 101, 114]) = false) (h4 : (x.text == [98, 111, 111, 108]) = false) (h5 : (x.text == [117, 110, 115, 105, 103, 110, 101, 100]) = false) :
    typeWordK text x = thr 3 x.at' := by unfold typeWordK; simp only [h1, h2, h3, h4, h5, Bool.false_eq_true, if_false]
theorem titled_any (x : Mar.Word) (w : World) :
    Calls Tryz.prog 156 #[wordV x] w fun e w' => e = .returned (.agg #[.string ⟨x.text.toArray⟩, .int .i64 x.at']) ∧ Below w.heap.size w w' := by
  dsimp only [wordV]
  go_enter Tryz.func156, Tryz.ntmps156
  go_wp2
  exact bodyPost_ret (v := .agg #[.string ⟨x.text.toArray⟩, .int .i64 x.at']) (by simp [results, Tryz.results156, go_sem]) rfl ⟨rfl, ((Below.refl _ _).alloc (Nat.le_refl _) _).alloc (by simp) _⟩
theorem typeWord_any {A : Ad} {text : ByteArray} {σ : St} {w : World} (h : Rd A text σ w) :
    Calls Tryz.prog 162 #[.pointer (some ⟨A.R, 0, none⟩)] w (Gives [A.S] A text w (typeWord text σ) tyV) := by
  obtain ⟨c0, c1, c2, c3, c4, hfr⟩ := h.cells
  have HC := Hid.mk (next_calls h)
  go_enter Tryz.func162, Tryz.ntmps162
  go_wp2_with (first
    | (go_at_call 85; refine HC.out.mono ?_; rintro e w1 ⟨hk, ⟨x, σ', hx, rfl, hr⟩ | ⟨f, hx, b, hbb, rfl, hcell⟩⟩ <;> (try dsimp only [wordV]); have HK := Hid.mk hk; have Hx := Hid.mk hx; have HR := Hid.mk hr; clear hk hx hr)
    | (go_at_call 156; refine (titled_any x _).mono ?_; rintro e w2 ⟨rfl, hb2⟩)
    | (go_at_call 47; refine (New_any _ _ _).mono ?_; rintro e w' ⟨rfl, rfl⟩)
    | (go_at_call_of 126 (Value.string { data := #[104, 121, 112, 101, 114] }); refine (accept_any _ (HR.out.below ((Below.refl _ _).alloc (Nat.le_refl _) _))).mono ?_; rintro e w3 ⟨hk3, ⟨y, σ3, hx3, rfl, hr3⟩ | ⟨f, hx3, b, hbb, rfl, hcell⟩⟩)
    | (go_at_call_of 126 (Value.string { data := #[105, 110, 116] }); refine (accept_any _ hr3).mono ?_; rintro e w4 ⟨hk4, ⟨y4, σ4, hx4, rfl, hr4⟩ | ⟨f, hx4, b, hbb, rfl, hcell⟩⟩))
  · go_ret
    exact Gives.ok ((HK.out.alloc _).trans (Keeps.of_below _ hb2)) ((bnd_ok Hx.out).trans (by rw [tw1 ‹_›]; rfl)) rfl ((HR.out.below ((Below.refl _ _).alloc (Nat.le_refl _) _)).below hb2)
  · go_ret
    exact Gives.ok (HK.out.alloc _) ((bnd_ok Hx.out).trans (by rw [tw2 ‹_› ‹_›]; rfl)) rfl (HR.out.below ((Below.refl _ _).alloc (Nat.le_refl _) _))
  · go_ret
    exact Gives.ok (HK.out.alloc _) ((bnd_ok Hx.out).trans (by rw [tw3 ‹_› ‹_› ‹_›]; rfl)) rfl (HR.out.below ((Below.refl _ _).alloc (Nat.le_refl _) _))
  · go_ret
    exact Gives.ok (HK.out.alloc _) ((bnd_ok Hx.out).trans (by rw [tw4 ‹_› ‹_› ‹_› ‹_›]; rfl)) rfl (HR.out.below ((Below.refl _ _).alloc (Nat.le_refl _) _))
  · have hy : y = true := ‹_›
    subst hy
    go_ret
    exact Gives.ok ((HK.out.alloc _).trans hk3) ((bnd_ok Hx.out).trans (by rw [tw5 ‹_› ‹_› ‹_› ‹_› ‹_›]; exact bnd_ok hx3)) rfl hr3
  · have hy : y = false := ‹_›
    subst hy
    go_ret
    exact Gives.ok (((HK.out.alloc _).trans hk3).trans hk4) ((bnd_ok Hx.out).trans (by rw [tw5 ‹_› ‹_› ‹_› ‹_› ‹_›]; exact (bnd_ok hx3).trans (bnd_ok hx4))) rfl hr4
  · have hy : y = false := ‹_›
    subst hy
    exact bodyPost_panics (Gives.throws (((HK.out.alloc _).trans hk3).trans hk4) ((HK.out.alloc _).trans hk3) ((bnd_ok Hx.out).trans (by rw [tw5 ‹_› ‹_› ‹_› ‹_› ‹_›]; exact (bnd_ok hx3).trans (bnd_err hx4))) hbb hcell)
  · exact bodyPost_panics (Gives.throws ((HK.out.alloc _).trans hk3) (HK.out.alloc _) ((bnd_ok Hx.out).trans (by rw [tw5 ‹_› ‹_› ‹_› ‹_› ‹_›]; exact bnd_err hx3)) hbb hcell)
  · exact bodyPost_panics (Gives.throws (M' := [A.S]) (w1 := w1) (f := ⟨3, x.at'⟩) ((HK.out.alloc _).alloc _) HK.out ((bnd_ok Hx.out).trans (by rw [tw6 ‹_› ‹_› ‹_› ‹_› ‹_›]; rfl)) (by omega) (heap_alloc_at (by simp)))
  · exact bodyPost_panics (Gives.throws hk (Keeps.refl [] _) (bnd_err hx) hbb hcell)
end Go.Proofs.YtmbcibgknckenaaGreatDoor
set_option linter.all false
set_option maxRecDepth 100000
set_option maxHeartbeats 4000000
namespace Go.Proofs.YtmbcibgknckenaaGreatDoor
open Go.RowKit
def newType (at' : Nat) : PM Unit := fun σ => if 24 ≤ σ.types then .error ⟨5, at'⟩ else .ok ((), { σ with types := σ.types + 1 })
def newConst (at' : Nat) : PM Unit := fun σ => if 40 ≤ σ.consts then .error ⟨5, at'⟩ else .ok ((), { σ with consts := σ.consts + 1 })
abbrev unitV : Unit → Value := fun _ => .tuple #[]
theorem Rd.farR {A : Ad} {text : ByteArray} {σ : St} {w : World} (h : Rd A text σ w) : 2 ≠ A.R ∧ 3 ≠ A.R ∧ 4 ≠ A.R := by
  obtain ⟨c0, _⟩ := h.cells
  obtain ⟨⟨m, g1⟩, ⟨_, _, g2⟩, ⟨_, _, g3⟩⟩ := h.gl
  refine ⟨?_, ?_, ?_⟩
  · intro e; rw [e] at g1; rw [g1] at c0; cases c0
  · intro e; rw [e] at g2; rw [g2] at c0; cases c0
  · intro e; rw [e] at g3; rw [g3] at c0; cases c0
theorem Rd.setTypes {A : Ad} {text : ByteArray} {σ : St} {w : World} (h : Rd A text σ w) (hf : σ.types < 24) :
    Rd A text { σ with types := σ.types + 1 } (w.setCell ⟨A.R, 2, none⟩ (.int .i64 ((σ.types + 1 : Nat) : Int))) := by
  obtain ⟨l1, l2, l3, l4⟩ := h.lt
  obtain ⟨n1, n2, n3, n4, n5, n6⟩ := h.apart
  have hk : Keeps [A.R] w (w.setCell ⟨A.R, 2, none⟩ (.int .i64 ((σ.types + 1 : Nat) : Int))) := (Keeps.refl [A.R] w).setIn (p := ⟨A.R, 2, none⟩) (by simp) _
  refine ⟨setBlock (i := 2) h.me _, ?_, h.nm.keeps hk (by simp; exact h.mine.1) (by simp; exact fun e => n2 e.symm), h.mine, fun x hx => Nat.lt_of_lt_of_le (h.old x hx) hk.size,
    (hk.block _ l4 (by simp; exact fun e => n3 e.symm)).trans h.pr, h.np, ?_, h.small, ?_⟩
  · obtain ⟨ha, hs⟩ := h.sc
    have hb := hk.block _ l2 (by simp; exact fun e => n1 e.symm)
    refine ⟨ha, ?_⟩
    cases hn : σ.nx with
    | some x => rw [hn] at hs; exact hb.trans hs
    | none => rw [hn] at hs; obtain ⟨k, t, n, a, hs⟩ := hs; exact ⟨k, t, n, a, hb.trans hs⟩
  · obtain ⟨f1, f2, f3⟩ := h.farR
    exact h.gl.keeps hk (by simp [f1]) (by simp [f2]) (by simp [f3])
  · exact ⟨by show σ.types + 1 ≤ _; omega, h.few.2⟩
theorem Rd.setConsts {A : Ad} {text : ByteArray} {σ : St} {w : World} (h : Rd A text σ w) (hf : σ.consts < 40) :
    Rd A text { σ with consts := σ.consts + 1 } (w.setCell ⟨A.R, 3, none⟩ (.int .i64 ((σ.consts + 1 : Nat) : Int))) := by
  obtain ⟨l1, l2, l3, l4⟩ := h.lt
  obtain ⟨n1, n2, n3, n4, n5, n6⟩ := h.apart
  have hk : Keeps [A.R] w (w.setCell ⟨A.R, 3, none⟩ (.int .i64 ((σ.consts + 1 : Nat) : Int))) := (Keeps.refl [A.R] w).setIn (p := ⟨A.R, 3, none⟩) (by simp) _
  refine ⟨setBlock (i := 3) h.me _, ?_, h.nm.keeps hk (by simp; exact h.mine.1) (by simp; exact fun e => n2 e.symm), h.mine, fun x hx => Nat.lt_of_lt_of_le (h.old x hx) hk.size,
    (hk.block _ l4 (by simp; exact fun e => n3 e.symm)).trans h.pr, h.np, ?_, h.small, ?_⟩
  · obtain ⟨ha, hs⟩ := h.sc
    have hb := hk.block _ l2 (by simp; exact fun e => n1 e.symm)
    refine ⟨ha, ?_⟩
    cases hn : σ.nx with
    | some x => rw [hn] at hs; exact hb.trans hs
    | none => rw [hn] at hs; obtain ⟨k, t, n, a, hs⟩ := hs; exact ⟨k, t, n, a, hb.trans hs⟩
  · obtain ⟨f1, f2, f3⟩ := h.farR
    exact h.gl.keeps hk (by simp [f1]) (by simp [f2]) (by simp [f3])
  · exact ⟨h.few.1, by show σ.consts + 1 ≤ _; omega⟩
theorem newType_any {A : Ad} {text : ByteArray} {σ : St} (at' : Nat) {w : World} (h : Rd A text σ w) :
    Calls Tryz.prog 124 #[.pointer (some ⟨A.R, 0, none⟩), .int .i64 at'] w (Gives [A.R] A text w (newType at' σ) unitV) := by
  obtain ⟨c0, c1, c2, c3, c4, hfr⟩ := h.cells
  have hfew := h.few
  by_cases hf : 24 ≤ σ.types
  · have hfi : (24 : Int) ≤ σ.types := by omega
    go_enter Tryz.func124, Tryz.ntmps124
    go_wp2_with (go_at_call 135; refine (room_full _ _ _ _ hfi).mono ?_; rintro e w1 ⟨⟨b, hbb, rfl, hcell⟩, hb⟩)
    exact bodyPost_panics (Gives.throws (f := ⟨5, at'⟩) (Keeps.of_below _ hb) (Keeps.refl [] _) (by rw [newType, if_pos hf]) hbb hcell)
  · have hfi : ¬ (24 : Int) ≤ σ.types := by omega
    go_enter Tryz.func124, Tryz.ntmps124
    go_wp2_with (go_at_call 135; refine (room_ok _ _ _ _ hfi).mono ?_; rintro e w1 ⟨rfl, rfl⟩)
    go_end0
    refine Gives.ok (a := ()) ((Keeps.refl _ _).setIn (by simp) _) (by rw [newType, if_neg hf]) rfl ?_
    exact h.setTypes (by omega)
theorem newConst_any {A : Ad} {text : ByteArray} {σ : St} (at' : Nat) {w : World} (h : Rd A text σ w) :
    Calls Tryz.prog 118 #[.pointer (some ⟨A.R, 0, none⟩), .int .i64 at'] w (Gives [A.R] A text w (newConst at' σ) unitV) := by
  obtain ⟨c0, c1, c2, c3, c4, hfr⟩ := h.cells
  have hfew := h.few
  by_cases hf : 40 ≤ σ.consts
  · have hfi : (40 : Int) ≤ σ.consts := by omega
    go_enter Tryz.func118, Tryz.ntmps118
    go_wp2_with (go_at_call 135; refine (room_full _ _ _ _ hfi).mono ?_; rintro e w1 ⟨⟨b, hbb, rfl, hcell⟩, hb⟩)
    exact bodyPost_panics (Gives.throws (f := ⟨5, at'⟩) (Keeps.of_below _ hb) (Keeps.refl [] _) (by rw [newConst, if_pos hf]) hbb hcell)
  · have hfi : ¬ (40 : Int) ≤ σ.consts := by omega
    go_enter Tryz.func118, Tryz.ntmps118
    go_wp2_with (go_at_call 135; refine (room_ok _ _ _ _ hfi).mono ?_; rintro e w1 ⟨rfl, rfl⟩)
    go_end0
    refine Gives.ok (a := ()) ((Keeps.refl _ _).setIn (by simp) _) (by rw [newConst, if_neg hf]) rfl ?_
    exact h.setConsts (by omega)
end Go.Proofs.YtmbcibgknckenaaGreatDoor
set_option linter.all false
set_option maxRecDepth 100000
set_option maxHeartbeats 4000000
namespace Go.Proofs.YtmbcibgknckenaaGreatDoor
open Go.RowKit
open Go.MapKept
section
variable {P : Program} {w : World}
theorem look_run {T kt et : TypeId} {d : TypeDesc} (ht : P.underlying T = some (.map kt et)) (hd : P.underlying kt = some d) {k : Value} (hk : IsKey d k) {N : Nat} {es : Array MapEntry} {clock : Nat}
    (hb : w.heap[N]? = some (.map es clock)) (hes : ∀ x ∈ es.toList, IsKey d x.key) {z : Value} (hz : (zeroValue et).run P w = .ok z w) (c : Bool) :
    ((∀ x ∈ es.toList, x.key ≠ k) ∧ (Instr.lookup T (.map (some N)) k c).run P w = .ok (if c then .tuple #[z, .bool false] else z) w) ∨
    (∃ (j : Nat) (e : MapEntry), es.toList[j]? = some e ∧ e.key = k ∧ (Instr.lookup T (.map (some N)) k c).run P w = .ok (if c then .tuple #[e.val, .bool true] else e.val) w) := by
  have hck := fun b => MapKept.run_checkKey (w := w) hd hk b 9999
  rcases findNow_spec hk es.toList 0 hes with ⟨h1, h2⟩ | ⟨j, e, h1, h2, h3⟩
  · refine Or.inl ⟨h2, ?_⟩
    cases c <;> simp [Instr.lookup, Instr.findKey, run_underlying ht, run_underlying hd, MapKept.run_getObj_map hb, hck, h1, hz, Result.andThen]
  · refine Or.inr ⟨j, e, h2, h3, ?_⟩
    cases c <;> simp [Instr.lookup, Instr.findKey, run_underlying ht, run_underlying hd, MapKept.run_getObj_map hb, hck, h1, Result.andThen]
theorem put_run {T kt et : TypeId} {d : TypeDesc} (ht : P.underlying T = some (.map kt et)) (hd : P.underlying kt = some d) {k : Value} (hk : IsKey d k) {N : Nat} {es : Array MapEntry} {clock : Nat}
    (hb : w.heap[N]? = some (.map es clock)) (hes : ∀ x ∈ es.toList, IsKey d x.key) (hne : ∀ x ∈ es.toList, x.key ≠ k) (v : Value) :
    (Instr.mapUpdate T (.map (some N)) k v).run P w = .ok () { w with heap := w.heap.setIfInBounds N (.map (es.push ⟨k, v, clock⟩) (clock + 1)) } := by
  have hck := fun b => MapKept.run_checkKey (w := w) hd hk b 9999
  rcases findNow_spec hk es.toList 0 hes with ⟨h1, h2⟩ | ⟨j, e, h1, h2, h3⟩
  · simp [Instr.mapUpdate, Instr.findKey, run_underlying ht, run_underlying hd, MapKept.run_getObj_map hb, hck, h1, MapKept.run_setObj_map _ hb, Result.andThen]
  · exact absurd h3 (hne e (List.mem_of_getElem? h2))
end
def look {α : Type} (l : List (List UInt8 × α)) (k : List UInt8) : Option α := (l.find? fun p => p.1 == k).map (·.2)
theorem look_none {α : Type} {l : List (List UInt8 × α)} {k : List UInt8} (h : ∀ p ∈ l, p.1 ≠ k) : look l k = none := by
  unfold look
  rw [List.find?_eq_none.2 (fun p hp => by simp [h p hp])]
  rfl
theorem look_some {α : Type} {l : List (List UInt8 × α)} {k : List UInt8} (hnd : (l.map (·.1)).Nodup) {p : List UInt8 × α} (hp : p ∈ l) (hk : p.1 = k) : look l k = some p.2 := by
  induction l with
  | nil => cases hp
  | cons q t ih =>
    unfold look
    simp only [List.map_cons, List.nodup_cons] at hnd
    rcases List.mem_cons.1 hp with rfl | hp
    · simp [hk]
    · have hq : q.1 ≠ k := fun e => hnd.1 (by rw [e, ← hk]; exact List.mem_map_of_mem hp)
      have := ih hnd.2 hp
      unfold look at this
      simp only [List.find?_cons, beq_eq_false_iff_ne.2 hq]
      exact this
theorem names_keys (l : List (List UInt8 × Value)) : ∀ x ∈ (l.mapIdx fun i p => (⟨.string ⟨p.1.toArray⟩, p.2, i⟩ : MapEntry)), IsKey .string x.key := by
  intro x hx
  obtain ⟨i, hi, rfl⟩ := List.mem_mapIdx.1 hx
  trivial
end Go.Proofs.YtmbcibgknckenaaGreatDoor
set_option linter.all false
set_option maxRecDepth 100000
set_option maxHeartbeats 4000000
namespace Go.Proofs.YtmbcibgknckenaaGreatDoor
open Go.RowKit
open Go.MapKept
theorem names_look {X : List Nat} {N : Nat} {l : List (List UInt8 × Option DefL)} {w : World} (h : Names X N l w) (k : List UInt8) (c : Bool) :
    (look l k = none ∧ (Instr.lookup 104 (.map (some N)) (.string ⟨k.toArray⟩) c).run Tryz.prog w = .ok (if c then .tuple #[.nilIface, .bool false] else .nilIface) w) ∨
    (∃ o v bs, look l k = some o ∧ Held X bs w ∧ EntIn bs v o ∧ (Instr.lookup 104 (.map (some N)) (.string ⟨k.toArray⟩) c).run Tryz.prog w = .ok (if c then .tuple #[v, .bool true] else v) w) := by
  obtain ⟨nd, bs, vs, h1, h2, h3, h4⟩ := h
  have hk : IsKey .string (.string ⟨k.toArray⟩) := trivial
  have hes := names_keys (l.zip vs |>.map fun p => (p.1.1, p.2))
  have hz : (zeroValue 113).run Tryz.prog w = .ok .nilIface w := by kernel_rfl
  rcases look_run (P := Tryz.prog) (T := 104) (kt := 9) (et := 113) (d := .string) (by kernel_rfl) (by kernel_rfl) hk h3 (by simpa using hes) hz c with ⟨g1, g2⟩ | ⟨j, e, g1, g2, g3⟩
  · refine Or.inl ⟨look_none ?_, g2⟩
    intro p hp e
    obtain ⟨i, hi, rfl⟩ := List.getElem_of_mem hp
    have hi' : i < vs.length := by omega
    have hm : (⟨.string ⟨l[i].1.toArray⟩, vs[i], i⟩ : MapEntry) ∈ ((l.zip vs |>.map fun p => (p.1.1, p.2)).mapIdx fun i p => (⟨.string ⟨p.1.toArray⟩, p.2, i⟩ : MapEntry)).toArray.toList := by
      simp only [List.toList_toArray]
      rw [List.mem_mapIdx]
      exact ⟨i, by simp; omega, by simp⟩
    exact g1 _ hm (by rw [e])
  · simp only [List.toList_toArray, List.getElem?_mapIdx] at g1
    have hj : j < l.length := by
      by_cases hj : j < l.length
      · exact hj
      · rw [List.getElem?_eq_none (by simp; omega)] at g1
        cases g1
    have hj' : j < vs.length := by omega
    rw [List.getElem?_eq_getElem (by simp; omega)] at g1
    simp at g1
    subst g1
    simp at g2 g3
    refine Or.inr ⟨l[j].2, vs[j], bs, look_some nd (List.getElem_mem hj) g2, h1, h4 j hj hj', ?_⟩
    simpa using g3
end Go.Proofs.YtmbcibgknckenaaGreatDoor
set_option linter.all false
set_option maxRecDepth 100000
set_option maxHeartbeats 4000000
namespace Go.Proofs.YtmbcibgknckenaaGreatDoor
open Go.RowKit
open Go.MapKept
def constNamed (x : Mar.Word) : PM Int := fun σ =>
  match look σ.names x.text with
  | some (some (.const _ _ v)) => .ok (v, σ)
  | _ => .error ⟨7, x.at'⟩
abbrev intV : Int → Value := fun n => .int .i64 n
theorem ta_const_nil (w : World) : (Instr.typeAssert .nilIface 113 176 true).run Tryz.prog w = .ok (.tuple #[.pointer none, .bool false]) w := by kernel_rfl
theorem ta_const_yes (p : Value) (w : World) : (Instr.typeAssert (.iface 176 p) 113 176 true).run Tryz.prog w = .ok (.tuple #[p, .bool true]) w := by kernel_rfl
theorem ta_const_no (d : DefL) (p : Value) (w : World) (hd : ∀ t a v, d ≠ .const t a v) : (Instr.typeAssert (.iface (defT d) p) 113 176 true).run Tryz.prog w = .ok (.tuple #[.pointer none, .bool false]) w := by
  cases d with
  | const t a v => exact absurd rfl (hd t a v)
  | typedef d => kernel_rfl
  | enum t a ms => kernel_rfl
  | struct t a ms => kernel_rfl
  | union t a s ar => kernel_rfl
  | prog t a vs n => kernel_rfl
theorem constantNamed_any {A : Ad} {text : ByteArray} {σ : St} (x : Mar.Word) {w : World} (h : Rd A text σ w) :
    Calls Tryz.prog 177 #[.pointer (some ⟨A.R, 0, none⟩), wordV x] w (Gives [] A text w (constNamed x σ) intV) := by
  have hb0 := ((Below.refl w.heap.size w).alloc (Nat.le_refl _) (.cells #[.int .i64 x.kind, .string ⟨x.text.toArray⟩, .int .i64 x.n, .int .i64 x.at'] 110)).drew
  obtain ⟨c0, c1, c2, c3, c4, hfr⟩ := h.cells
  have hlt := h.lt.1
  have hb := h.below hb0
  have key : (∃ v, (Instr.lookup 104 (.map (some A.N)) (.string ⟨x.text.toArray⟩) false).run Tryz.prog ((w.alloc (.cells #[.int .i64 x.kind, .string ⟨x.text.toArray⟩, .int .i64 x.n, .int .i64 x.at'] 110)).drew) = .ok v ((w.alloc (.cells #[.int .i64 x.kind, .string ⟨x.text.toArray⟩, .int .i64 x.n, .int .i64 x.at'] 110)).drew) ∧
        (∀ W, (Instr.typeAssert v 113 176 true).run Tryz.prog W = .ok (.tuple #[.pointer none, .bool false]) W) ∧ constNamed x σ = .error ⟨7, x.at'⟩) ∨
      (∃ (b : Nat) (c0 c1 : Value) (n : Int), (Instr.lookup 104 (.map (some A.N)) (.string ⟨x.text.toArray⟩) false).run Tryz.prog ((w.alloc (.cells #[.int .i64 x.kind, .string ⟨x.text.toArray⟩, .int .i64 x.n, .int .i64 x.at'] 110)).drew) = .ok (.iface 176 (.pointer (some ⟨b, 0, none⟩))) ((w.alloc (.cells #[.int .i64 x.kind, .string ⟨x.text.toArray⟩, .int .i64 x.n, .int .i64 x.at'] 110)).drew) ∧
        (w.alloc (.cells #[.int .i64 x.kind, .string ⟨x.text.toArray⟩, .int .i64 x.n, .int .i64 x.at'] 110)).heap[b]? = some (.cells #[c0, c1, .int .i64 n] 272) ∧ constNamed x σ = .ok (n, σ)) := by
    rcases names_look hb.nm x.text false with ⟨hl, hrun⟩ | ⟨o, v, bs, hl, hh, hent, hrun⟩
    · simp only [Bool.false_eq_true, if_false] at hrun
      exact Or.inl ⟨_, hrun, ta_const_nil, by simp only [constNamed, hl]⟩
    · simp only [Bool.false_eq_true, if_false] at hrun
      cases o with
      | none =>
        have hv : v = .nilIface := hent
        subst hv
        exact Or.inl ⟨_, hrun, ta_const_nil, by simp only [constNamed, hl]⟩
      | some d =>
        obtain ⟨b, rfl, hd⟩ := hent
        by_cases hc : ∃ t a n, d = .const t a n
        · obtain ⟨t, a, n, rfl⟩ := hc
          exact Or.inr ⟨b, _, _, n, hrun, (hh _ hd).1, by simp only [constNamed, hl]⟩
        · refine Or.inl ⟨_, hrun, fun W => ta_const_no d _ W (fun t a n e => hc ⟨t, a, n, e⟩), ?_⟩
          cases d with
          | const t a n => exact absurd ⟨t, a, n, rfl⟩ hc
          | typedef d => simp only [constNamed, hl]
          | enum t a ms => simp only [constNamed, hl]
          | struct t a ms => simp only [constNamed, hl]
          | union t a sl ar => simp only [constNamed, hl]
          | prog t a vs n => simp only [constNamed, hl]
  rcases key with ⟨v, hrun, hta, e1⟩ | ⟨b, k0, k1, n, hrun, hblk, e1⟩
  · have HE := Hid.mk e1
    clear e1 hb hb0
    dsimp only [wordV]
    go_enter Tryz.func177, Tryz.ntmps177
    go_wp2
    go_region
    go_wp2_with (go_at_call 47; refine (New_any _ _ _).mono ?_; rintro e w' ⟨rfl, rfl⟩)
    exact bodyPost_panics (Gives.throws (M' := []) (w1 := w) (f := ⟨7, x.at'⟩) (((Keeps.refl _ _).alloc _).alloc _).drew (Keeps.refl _ _) HE.out (by omega) (heap_alloc_at (w := w.alloc _) (by simp)))
  · have HE := Hid.mk e1
    have hta := fun p => ta_const_yes p
    have hcell : (w.alloc (.cells #[.int .i64 x.kind, .string ⟨x.text.toArray⟩, .int .i64 x.n, .int .i64 x.at'] 110)).cell? ⟨b, 2, none⟩ = some (.int .i64 n) := by simp [World.cell?, hblk]
    have HB := Hid.mk hb
    clear e1 hb hb0 hblk
    dsimp only [wordV]
    go_enter Tryz.func177, Tryz.ntmps177
    go_wp2
    go_region
    go_wp2
    go_ret
    exact Gives.ok (a := n) (((Keeps.refl _ _).alloc _).drew) HE.out rfl HB.out
end Go.Proofs.YtmbcibgknckenaaGreatDoor
set_option linter.all false
set_option maxRecDepth 100000
set_option maxHeartbeats 4000000
namespace Go.Proofs.YtmbcibgknckenaaGreatDoor
open Go.RowKit
def meaning (x : Mar.Word) : PM Int :=
  if ((x.kind : Int) == 3) then ret x.n
  else if ((x.kind : Int) == 1) then constNamed x
  else if x.text == [84, 82, 85, 69] then ret 1
  else if x.text == [70, 65, 76, 83, 69] then ret 0
  else thr 3 x.at'
theorem me1 {x : Mar.Word} (h1 : ((x.kind : Int) == 3) = true) : meaning x = ret x.n := by unfold meaning; rw [if_pos h1]
theorem me2 {x : Mar.Word} (h1 : ((x.kind : Int) == 3) = false) (h2 : ((x.kind : Int) == 1) = true) : meaning x = constNamed x := by unfold meaning; simp only [h1, h2, Bool.false_eq_true, if_false, if_true]
theorem me3 {x : Mar.Word} (h1 : ((x.kind : Int) == 3) = false) (h2 : ((x.kind : Int) == 1) = false) (h3 : (x.text == [84, 82, 85, 69]) = true) : meaning x = ret 1 := by unfold meaning; simp only [h1, h2, h3, Bool.false_eq_true, if_false, if_true]
theorem me4 {x : Mar.Word} (h1 : ((x.kind : Int) == 3) = false) (h2 : ((x.kind : Int) == 1) = false) (h3 : (x.text == [84, 82, 85, 69]) = false) (h4 : (x.text == [70, 65, 76, 83, 69]) = true) : meaning x = ret 0 := by unfold meaning; simp only [h1, h2, h3, h4, Bool.false_eq_true, if_false, if_true]
theorem me5 {x : Mar.Word} (h1 : ((x.kind : Int) == 3) = false) (h2 : ((x.kind : Int) == 1) = false) (h3 : (x.text == [84, 82, 85, 69]) = false) (h4 : (x.text == [70, 65, 76, 83, 69]) = false) : meaning x = thr 3 x.at' := by unfold meaning; simp only [h1, h2, h3, h4, Bool.false_eq_true, if_false]
theorem meaning_any {A : Ad} {text : ByteArray} {σ : St} (x : Mar.Word) {w : World} (h : Rd A text σ w) :
    Calls Tryz.prog 158 #[.pointer (some ⟨A.R, 0, none⟩), wordV x] w (Gives [] A text w (meaning x σ) intV) := by
  have HC := Hid.mk (fun o => constantNamed_any x (h.below ((Below.refl w.heap.size w).alloc (Nat.le_refl _) o)))
  dsimp only [wordV] at HC ⊢
  go_enter Tryz.func158, Tryz.ntmps158
  go_wp2_with (first
    | (go_at_call 47; refine (New_any _ _ _).mono ?_; rintro e w' ⟨rfl, rfl⟩)
    | (go_at_call 177; refine (HC.out _).mono ?_; rintro e w1 ⟨hk, ⟨n, σ', hx, rfl, hr⟩ | ⟨f, hx, b, hbb, rfl, hcell⟩⟩))
  · go_ret
    exact Gives.ok ((Keeps.refl _ _).alloc _) (by rw [me1 ‹_›]; rfl) rfl (h.below ((Below.refl _ _).alloc (Nat.le_refl _) _))
  · go_ret
    exact Gives.ok (((Keeps.refl _ _).alloc _).trans hk) (by rw [me2 ‹_› ‹_›]; exact hx) rfl hr
  · exact bodyPost_panics (Gives.throws (((Keeps.refl _ _).alloc _).trans hk) ((Keeps.refl [] _).alloc _) (by rw [me2 ‹_› ‹_›]; exact hx) hbb hcell)
  · go_ret
    exact Gives.ok ((Keeps.refl _ _).alloc _) (by rw [me3 ‹_› ‹_› ‹_›]; rfl) rfl (h.below ((Below.refl _ _).alloc (Nat.le_refl _) _))
  · go_ret
    exact Gives.ok ((Keeps.refl _ _).alloc _) (by rw [me4 ‹_› ‹_› ‹_› ‹_›]; rfl) rfl (h.below ((Below.refl _ _).alloc (Nat.le_refl _) _))
  · exact bodyPost_panics (Gives.throws (M' := []) (w1 := w) (f := ⟨3, x.at'⟩) (((Keeps.refl _ _).alloc _).alloc _) (Keeps.refl _ _) (by rw [me5 ‹_› ‹_› ‹_› ‹_›]; rfl) (by omega) (heap_alloc_at (by simp)))
end Go.Proofs.YtmbcibgknckenaaGreatDoor
set_option linter.all false
set_option maxRecDepth 100000
set_option maxHeartbeats 4000000
namespace Go.Proofs.YtmbcibgknckenaaGreatDoor
open Go.RowKit
def Fits (X : List Nat) (v : Value) (p : Int → Bool) (w : World) : Prop :=
  ∃ (bs : List (Nat × Obj)) (f : Nat) (pre post : Array Value), v = .func (.func f) pre post ∧ Held X bs w ∧ (∀ args W, (callFunc f args).run Tryz.prog W = .ok (.enter f args) W) ∧
    ∀ W, Held X bs W → ∀ n : Int, Calls Tryz.prog f (pre.push (.int .i64 n) ++ post) W fun e w' => e = .returned (.bool (p n)) ∧ Below W.heap.size W w'
def value (text : ByteArray) (p : Int → Bool) : PM (Int × Nat) := bnd (next text) fun x => bnd (meaning x) fun n => if p n then ret (n, x.at') else thr 8 x.at'
abbrev pairV : Int × Nat → Value := fun q => .tuple #[.int .i64 q.1, .int .i64 q.2]
theorem value_any {A : Ad} {text : ByteArray} {σ : St} {v : Value} {p : Int → Bool} {w : World} (h : Rd A text σ w) (hf : Fits A.X v p w) :
    Calls Tryz.prog 122 #[.pointer (some ⟨A.R, 0, none⟩), v] w (Gives [A.S] A text w (value text p σ) pairV) := by
  obtain ⟨c0, c1, c2, c3, c4, hfr⟩ := h.cells
  obtain ⟨bs, f, pre, post, rfl, hh, hent, hcall⟩ := hf
  have HH := Hid.mk hh
  have HF := Hid.mk hcall
  have HC := Hid.mk (next_calls h)
  clear hh hcall
  go_enter Tryz.func122, Tryz.ntmps122
  go_wp2_with (first
    | (go_at_call 85; refine HC.out.mono ?_; rintro e w1 ⟨hk, ⟨x, σ', hx, rfl, hr⟩ | ⟨f, hx, b, hbb, rfl, hcell⟩⟩ <;> (try dsimp only [wordV]); have HK := Hid.mk hk; have Hx := Hid.mk hx; have HR := Hid.mk hr; clear hk hx hr)
    | (go_at_call 158; refine (meaning_any x (HR.out.below ((Below.refl _ _).alloc (Nat.le_refl _) _))).mono ?_; rintro e w2 ⟨hk2, ⟨n, σ2, hx2, rfl, hr2⟩ | ⟨f, hx2, b, hbb, rfl, hcell⟩⟩ <;> (try dsimp only [intV]))
    | (go_at_call 47; refine (New_any _ _ _).mono ?_; rintro e w' ⟨rfl, rfl⟩))
  · have hh2 := (HH.out.keeps HK.out (by simp; exact h.mine.2.1)).keeps (Keeps.of_below [] ((Below.refl w1.heap.size w1).alloc (Nat.le_refl _) (.cells #[.int .i64 x.kind, .string ⟨x.text.toArray⟩, .int .i64 x.n, .int .i64 x.at'] 110))) (by simp) |>.keeps hk2 (by simp)
    refine (HF.out _ hh2 _).mono ?_
    rintro e w3 ⟨rfl, hb3⟩
    have hv2 := (hk2.block w1.heap.size (by simp) (by simp)).trans (heap_alloc_at rfl)
    have hv3 := (hb3.block w1.heap.size (lt_of_heap hv2)).trans hv2
    obtain ⟨r0, r1, r2, r3, hfrR⟩ := wordBlock hv3
    have HKK := Hid.mk (((HK.out.alloc _).trans (hk2.mono (by simp))).trans (Keeps.of_below [A.S] hb3))
    have HR3 := Hid.mk (hr2.below hb3)
    have Hx2 := Hid.mk hx2
    clear hv2 hv3 hk2 hb3 hr2 hx2 hh2
    go_wp2_with (go_at_call 47; refine (New_any _ _ _).mono ?_; rintro e w' ⟨rfl, rfl⟩)
    · have hp : p n = false := by simpa using ‹(!p n) = true›
      refine bodyPost_panics (Gives.throws (M' := [A.S]) (w1 := w3) (f := ⟨8, x.at'⟩) (HKK.out.alloc _) HKK.out ((bnd_ok Hx.out).trans ((bnd_ok Hx2.out).trans ?_)) (Nat.le_refl _) (heap_alloc_at rfl))
      rw [hp]; rfl
    · have hp : p n = true := by simpa using ‹(!p n) = false›
      go_region
      go_wp2
      go_ret2
      exact Gives.ok (a := (n, x.at')) HKK.out.drew ((bnd_ok Hx.out).trans ((bnd_ok Hx2.out).trans (by rw [hp]; rfl))) rfl (HR3.out.below ((Below.refl _ _).drew))
  · exact bodyPost_panics (Gives.throws ((HK.out.alloc _).trans (hk2.mono (by simp))) (HK.out.alloc _) ((bnd_ok Hx.out).trans (bnd_err hx2)) hbb hcell)
  · exact bodyPost_panics (Gives.throws hk (Keeps.refl [] _) (bnd_err hx) hbb hcell)
end Go.Proofs.YtmbcibgknckenaaGreatDoor
set_option linter.all false
set_option maxRecDepth 100000
set_option maxHeartbeats 4000000
namespace Go.Proofs.YtmbcibgknckenaaGreatDoor
open Go.RowKit
def inside (lo hi : Int) : Int → Bool := fun n => decide (lo ≤ n) && decide (n ≤ hi)
theorem within1_any (lo hi n : Int) (bl bh : Nat) (w : World) (hl : w.cell? ⟨bl, 0, none⟩ = some (.int .i64 lo)) (hh : w.cell? ⟨bh, 0, none⟩ = some (.int .i64 hi)) :
    Calls Tryz.prog 159 #[.int .i64 n, .pointer (some ⟨bl, 0, none⟩), .pointer (some ⟨bh, 0, none⟩)] w fun e w' => e = .returned (.bool (inside lo hi n)) ∧ Below w.heap.size w w' := by
  go_enter Tryz.func159, Tryz.ntmps159
  go_wp2
  all_goals
    go_ret
    refine ⟨ret_bool ?_, Below.refl _ _⟩
    unfold inside
    rw [Bool.eq_iff_iff]
    simp
    try omega
theorem within1_enters (args : Array Value) (w : World) : (callFunc 159 args).run Tryz.prog w = .ok (.enter 159 args) w := by kernel_rfl
theorem within_any (lo hi : Int) (w : World) :
    Calls Tryz.prog 123 #[.int .i64 lo, .int .i64 hi] w fun e w' => ∃ v, e = .returned v ∧ Below w.heap.size w w' ∧ ∀ X : List Nat, (∀ x ∈ X, x < w.heap.size) → Fits X v (inside lo hi) w' := by
  have hmf : ∀ (fn : Fn) (first cap : Array Value) (w : World), (Instr.makeFunc fn first cap).run Tryz.prog w = .ok (.func fn first cap) w := fun _ _ _ _ => rfl
  go_enter Tryz.func123, Tryz.ntmps123
  go_wp2
  go_ret
  refine ⟨.func (.func 159) #[] #[.pointer (some ⟨w.heap.size, 0, none⟩), .pointer (some ⟨w.heap.size + 1, 0, none⟩)], rfl, ((Below.refl _ _).alloc (Nat.le_refl _) _).alloc (by simp) _, ?_⟩
  intro X hX
  refine ⟨[(w.heap.size, .cells #[.int .i64 lo] 2), (w.heap.size + 1, .cells #[.int .i64 hi] 2)], _, _, _, rfl, ?_, within1_enters, ?_⟩
  · intro p hp
    simp at hp
    rcases hp with rfl | rfl
    · exact ⟨(Below.heap_alloc _ _ _ (by simp)).trans (heap_alloc_at rfl), fun hm => by have := hX _ hm; simp at this⟩
    · exact ⟨heap_alloc_at (by simp), fun hm => by have := hX _ hm; simp at this; omega⟩
  · intro W hW n
    have h1 := (hW _ (List.mem_cons_self ..)).1
    have h2 := (hW _ (List.mem_cons_of_mem _ (List.mem_cons_self ..))).1
    exact within1_any lo hi n _ _ W (by simp at h1; simp [World.cell?, h1]) (by simp at h2; simp [World.cell?, h2])
abbrev boundV : Int × Bool → Value := fun q => .agg #[.int .i64 q.1, .bool q.2]
def most (text : ByteArray) : PM (Int × Bool) := bnd (expect text [60]) fun _ => bnd (accept text [62]) fun y =>
  if y then ret (4294967295, false) else bnd (value text (inside 0 4294967295)) fun q => bnd (expect text [62]) fun _ => ret (q.1, false)
theorem Fits.keeps {X : List Nat} {v : Value} {p : Int → Bool} {w w' : World} {M : List Nat} (h : Fits X v p w) (hk : Keeps M w w') (hM : ∀ m ∈ M, m ∈ X) : Fits X v p w' := by
  obtain ⟨bs, f, pre, post, hv, hh, he, hc⟩ := h
  exact ⟨bs, f, pre, post, hv, hh.keeps hk hM, he, hc⟩
def Same (A' A : Ad) : Prop := A'.R = A.R ∧ A'.S = A.S ∧ A'.N = A.N ∧ A'.P = A.P
theorem Same.add (A : Ad) (b : Nat) : Same (A.add b) A := ⟨rfl, rfl, rfl, rfl⟩
theorem expect_at {A' A : Ad} (hA : Same A' A) {text : ByteArray} {σ : St} (t : ByteArray) {w : World} (h : Rd A' text σ w) :
    Calls Tryz.prog 121 #[.pointer (some ⟨A.R, 0, none⟩), .string t] w (Gives [A.S] A' text w (expect text t.data.toList σ) wordV) := by
  have := expect_any t h
  rw [hA.1, hA.2.1] at this
  exact this
theorem accept_at {A' A : Ad} (hA : Same A' A) {text : ByteArray} {σ : St} (t : ByteArray) {w : World} (h : Rd A' text σ w) :
    Calls Tryz.prog 126 #[.pointer (some ⟨A.R, 0, none⟩), .string t] w (Gives [A.S] A' text w (accept text t.data.toList σ) .bool) := by
  have := accept_any t h
  rw [hA.1, hA.2.1] at this
  exact this
theorem value_at {A' A : Ad} (hA : Same A' A) {text : ByteArray} {σ : St} {v : Value} {p : Int → Bool} {w : World} (h : Rd A' text σ w) (hf : Fits A'.X v p w) :
    Calls Tryz.prog 122 #[.pointer (some ⟨A.R, 0, none⟩), v] w (Gives [A.S] A' text w (value text p σ) pairV) := by
  have := value_any h hf
  rw [hA.1, hA.2.1] at this
  exact this
theorem bound2 {b : Nat} {k t : Value} {T : TypeId} {w : World} (h : w.heap[b]? = some (.cells #[k, t] T)) :
    w.cell? ⟨b, 0, none⟩ = some k ∧ w.cell? ⟨b, 1, none⟩ = some t ∧ ∀ i, w.frozen? ⟨b, i, none⟩ = false := by
  refine ⟨?_, ?_, ?_⟩ <;> simp [World.cell?, World.frozen?, h]
theorem fin2 {A : Ad} {text : ByteArray} {σ0 σ' : St} {w u : World} {M : List Nat} (h : Rd A text σ0 w) (hk : Keeps M w u) (hr : Rd (A.add w.heap.size) text σ' u) (v0 v1 : Value) :
    Keeps M w ((u.setCell ⟨w.heap.size, 0, none⟩ v0).setCell ⟨w.heap.size, 1, none⟩ v1) ∧ Rd A text σ' ((u.setCell ⟨w.heap.size, 0, none⟩ v0).setCell ⟨w.heap.size, 1, none⟩ v1) := by
  refine ⟨(hk.setNew (Nat.le_refl _) _).setNew (Nat.le_refl _) _, Rd.drop (b := w.heap.size) h.mine ?_⟩
  have hs := fun {u : World} (hu : Rd (A.add w.heap.size) text σ' u) (i : Nat) (v : Value) => Rd.setNew (A' := A.add w.heap.size) h ⟨rfl, rfl, rfl, rfl⟩ hu (p := ⟨w.heap.size, i, none⟩) (Nat.le_refl _) (by simp [Ad.add]) v
  exact hs (hs hr 0 _) 1 _
theorem most_any {A : Ad} {text : ByteArray} {σ : St} {w : World} (h : Rd A text σ w) :
    Calls Tryz.prog 161 #[.pointer (some ⟨A.R, 0, none⟩)] w (Gives [A.S] A text w (most text σ) boundV) := by
  have hltS := h.lt.2.1
  have hne : w.heap.size ∉ [A.S] := by simp; omega
  have hb0 := heap_alloc_at (w := w) (o := .cells #[.int .i64 0, .bool false] 304) rfl
  have hO := h.own (.cells #[.int .i64 0, .bool false] 304)
  have hk0 := (Keeps.refl [A.S] w).alloc (.cells #[.int .i64 0, .bool false] 304)
  go_enter Tryz.func161, Tryz.ntmps161
  go_wp2_with fail
  refine (expect_at (Same.add A _) _ hO).mono ?_
  rintro e w1 ⟨hk1, ⟨x1, σ1, hx1, rfl, hr1⟩ | ⟨f, hx1, b, hbb, rfl, hcell⟩⟩
  rotate_left
  · exact bodyPost_panics (Gives.throws (hk0.trans hk1) hk0 (bnd_err hx1) hbb hcell)
  have hb1 := (hk1.block _ (lt_of_heap hb0) hne).trans hb0
  have hK1 := hk0.trans hk1
  clear hb0 hk0 hk1
  go_wp2_with fail
  refine (accept_at (Same.add A _) _ hr1).mono ?_
  rintro e w2 ⟨hk2, ⟨y, σ2, hx2, rfl, hr2⟩ | ⟨f, hx2, b, hbb, rfl, hcell⟩⟩
  rotate_left
  · exact bodyPost_panics (Gives.throws (hK1.trans hk2) hK1 ((bnd_ok hx1).trans (bnd_err hx2)) hbb hcell)
  have hb2 := (hk2.block _ (lt_of_heap hb1) hne).trans hb1
  have hK2 := hK1.trans hk2
  clear hb1 hk2 hK1
  obtain ⟨r0, r1, hfrR⟩ := bound2 hb2
  cases y with
  | true =>
    go_wp2
    obtain ⟨f1, f2⟩ := fin2 h hK2 hr2 (.int .i64 4294967295) (.bool false)
    exact bodyPost_ret (v := .agg #[.int .i64 4294967295, .bool false]) (by simp [results, Tryz.results161, go_sem, r0, r1]) rfl (Gives.ok (a := (4294967295, false)) f1 ((bnd_ok hx1).trans (bnd_ok hx2)) rfl f2)
  | false =>
    go_wp2_with fail
    refine (within_any _ _ _).mono ?_
    rintro e w3 ⟨v, rfl, hb3, hfit⟩
    have hfit3 := hfit (A.add w.heap.size).X hr2.old
    have hr3 := hr2.below hb3
    have hK3 := hK2.trans (Keeps.of_below [A.S] hb3)
    have hc3 := (hb3.block _ (lt_of_heap hb2)).trans hb2
    clear hfit hb2 hb3 hK2
    go_wp2_with fail
    refine (value_at (Same.add A _) hr3 hfit3).mono ?_
    rintro e w4 ⟨hk4, ⟨q, σ4, hx4, rfl, hr4⟩ | ⟨f, hx4, b, hbb, rfl, hcell⟩⟩
    rotate_left
    · exact bodyPost_panics (Gives.throws (hK3.trans hk4) hK3 ((bnd_ok hx1).trans ((bnd_ok hx2).trans (bnd_err hx4))) hbb hcell)
    have hK4 := hK3.trans hk4
    have hc4 := (hk4.block _ (lt_of_heap hc3) hne).trans hc3
    clear hk4 hK3 hc3 hfit3
    dsimp only [pairV]
    go_wp2_with fail
    refine (expect_at (Same.add A _) _ hr4).mono ?_
    rintro e w5 ⟨hk5, ⟨x5, σ5, hx5, rfl, hr5⟩ | ⟨f, hx5, b, hbb, rfl, hcell⟩⟩
    rotate_left
    · exact bodyPost_panics (Gives.throws (hK4.trans hk5) hK4 ((bnd_ok hx1).trans ((bnd_ok hx2).trans ((bnd_ok hx4).trans (bnd_err hx5)))) hbb hcell)
    have hK5 := hK4.trans hk5
    have hc5 := (hk5.block _ (lt_of_heap hc4) hne).trans hc4
    clear r0 r1 hfrR
    obtain ⟨r0, r1, hfrR⟩ := bound2 hc5
    clear hk5 hK4 hc4
    go_wp2
    obtain ⟨f1, f2⟩ := fin2 h hK5 hr5 (.int .i64 q.1) (.bool false)
    exact bodyPost_ret (v := .agg #[.int .i64 q.1, .bool false]) (by simp [results, Tryz.results161, go_sem, r0, r1]) rfl (Gives.ok (a := (q.1, false)) f1 ((bnd_ok hx1).trans ((bnd_ok hx2).trans ((bnd_ok hx4).trans (bnd_ok hx5)))) rfl f2)
end Go.Proofs.YtmbcibgknckenaaGreatDoor
set_option linter.all false
set_option maxRecDepth 100000
set_option maxHeartbeats 4000000
namespace Go.Proofs.YtmbcibgknckenaaGreatDoor
open Go.RowKit
theorem most_at {A' A : Ad} (hA : Same A' A) {text : ByteArray} {σ : St} {w : World} (h : Rd A' text σ w) :
    Calls Tryz.prog 161 #[.pointer (some ⟨A.R, 0, none⟩)] w (Gives [A.S] A' text w (most text σ) boundV) := by
  have := most_any h
  rw [hA.1, hA.2.1] at this
  exact this
def bound (text : ByteArray) : PM (Int × Bool) := bnd (accept text [91]) fun y =>
  if y then bnd (value text (inside 1 1000)) fun q => bnd (expect text [93]) fun _ => ret (q.1, true) else most text
theorem bound_any {A : Ad} {text : ByteArray} {σ : St} {w : World} (h : Rd A text σ w) :
    Calls Tryz.prog 160 #[.pointer (some ⟨A.R, 0, none⟩)] w (Gives [A.S] A text w (bound text σ) boundV) := by
  have hltS := h.lt.2.1
  have hne : w.heap.size ∉ [A.S] := by simp; omega
  have hb0 := heap_alloc_at (w := w) (o := .cells #[.int .i64 0, .bool false] 304) rfl
  have hO := h.own (.cells #[.int .i64 0, .bool false] 304)
  have hk0 := (Keeps.refl [A.S] w).alloc (.cells #[.int .i64 0, .bool false] 304)
  go_enter Tryz.func160, Tryz.ntmps160
  go_wp2_with fail
  refine (accept_at (Same.add A _) _ hO).mono ?_
  rintro e w2 ⟨hk2, ⟨y, σ2, hx2, rfl, hr2⟩ | ⟨f, hx2, b, hbb, rfl, hcell⟩⟩
  rotate_left
  · exact bodyPost_panics (Gives.throws (hk0.trans hk2) hk0 (bnd_err hx2) hbb hcell)
  have hb2 := (hk2.block _ (lt_of_heap hb0) hne).trans hb0
  have hK2 := hk0.trans hk2
  clear hb0 hk2 hk0
  cases y with
  | false =>
    go_wp2_with fail
    refine (most_at (Same.add A _) hr2).mono ?_
    rintro e w3 ⟨hk3, ⟨q, σ3, hx3, rfl, hr3⟩ | ⟨f, hx3, b, hbb, rfl, hcell⟩⟩
    rotate_left
    · exact bodyPost_panics (Gives.throws (hK2.trans hk3) hK2 ((bnd_ok hx2).trans hx3) hbb hcell)
    have hK3 := hK2.trans hk3
    have hc3 := (hk3.block _ (lt_of_heap hb2) hne).trans hb2
    obtain ⟨r0, r1, hfrR⟩ := bound2 hc3
    clear hk3 hK2 hc3 hb2
    dsimp only [boundV]
    go_wp2
    obtain ⟨f1, f2⟩ := fin2 h hK3 hr3 (.int .i64 q.1) (.bool q.2)
    exact bodyPost_ret (v := .agg #[.int .i64 q.1, .bool q.2]) (by simp [results, Tryz.results160, go_sem, r0, r1]) rfl (Gives.ok (a := q) f1 ((bnd_ok hx2).trans hx3) rfl f2)
  | true =>
    go_wp2_with fail
    refine (within_any _ _ _).mono ?_
    rintro e w3 ⟨v, rfl, hb3, hfit⟩
    have hfit3 := hfit (A.add w.heap.size).X hr2.old
    have hr3 := hr2.below hb3
    have hK3 := hK2.trans (Keeps.of_below [A.S] hb3)
    have hc3 := (hb3.block _ (lt_of_heap hb2)).trans hb2
    clear hfit hb2 hb3 hK2
    go_wp2_with fail
    refine (value_at (Same.add A _) hr3 hfit3).mono ?_
    rintro e w4 ⟨hk4, ⟨q, σ4, hx4, rfl, hr4⟩ | ⟨f, hx4, b, hbb, rfl, hcell⟩⟩
    rotate_left
    · exact bodyPost_panics (Gives.throws (hK3.trans hk4) hK3 ((bnd_ok hx2).trans (bnd_err hx4)) hbb hcell)
    have hK4 := hK3.trans hk4
    have hc4 := (hk4.block _ (lt_of_heap hc3) hne).trans hc3
    clear hk4 hK3 hc3 hfit3
    dsimp only [pairV]
    go_wp2_with fail
    refine (expect_at (Same.add A _) _ hr4).mono ?_
    rintro e w5 ⟨hk5, ⟨x5, σ5, hx5, rfl, hr5⟩ | ⟨f, hx5, b, hbb, rfl, hcell⟩⟩
    rotate_left
    · exact bodyPost_panics (Gives.throws (hK4.trans hk5) hK4 ((bnd_ok hx2).trans ((bnd_ok hx4).trans (bnd_err hx5))) hbb hcell)
    have hK5 := hK4.trans hk5
    have hc5 := (hk5.block _ (lt_of_heap hc4) hne).trans hc4
    obtain ⟨r0, r1, hfrR⟩ := bound2 hc5
    clear hk5 hK4 hc4
    go_wp2
    obtain ⟨f1, f2⟩ := fin2 h hK5 hr5 (.int .i64 q.1) (.bool true)
    exact bodyPost_ret (v := .agg #[.int .i64 q.1, .bool true]) (by simp [results, Tryz.results160, go_sem, r0, r1]) rfl (Gives.ok (a := (q.1, true)) f1 ((bnd_ok hx2).trans ((bnd_ok hx4).trans (bnd_ok hx5))) rfl f2)
def side (text : ByteArray) : PM Ty := bnd (accept text [118, 111, 105, 100]) fun y => if y then ret .void else typeWord text
theorem side_any {A : Ad} {text : ByteArray} {σ : St} {w : World} (h : Rd A text σ w) :
    Calls Tryz.prog 179 #[.pointer (some ⟨A.R, 0, none⟩)] w (Gives [A.S] A text w (side text σ) tyV) := by
  have HC := Hid.mk (accept_any ⟨#[118, 111, 105, 100]⟩ h)
  go_enter Tryz.func179, Tryz.ntmps179
  go_wp2_with fail
  refine HC.out.mono ?_
  rintro e w2 ⟨hk2, ⟨y, σ2, hx2, rfl, hr2⟩ | ⟨f, hx2, b, hbb, rfl, hcell⟩⟩
  rotate_left
  · exact bodyPost_panics (Gives.throws hk2 (Keeps.refl [] _) (bnd_err hx2) hbb hcell)
  cases y with
  | true =>
    go_wp2
    go_ret
    exact Gives.ok (a := .void) hk2 ((bnd_ok hx2).trans rfl) rfl hr2
  | false =>
    go_wp2_with fail
    refine (typeWord_any hr2).mono ?_
    rintro e w3 ⟨hk3, ⟨t, σ3, hx3, rfl, hr3⟩ | ⟨f, hx3, b, hbb, rfl, hcell⟩⟩
    rotate_left
    · exact bodyPost_panics (Gives.throws (hk2.trans hk3) hk2 ((bnd_ok hx2).trans hx3) hbb hcell)
    go_wp2
    go_ret
    exact Gives.ok (hk2.trans hk3) ((bnd_ok hx2).trans hx3) rfl hr3
end Go.Proofs.YtmbcibgknckenaaGreatDoor
set_option linter.all false
set_option maxRecDepth 100000
set_option maxHeartbeats 4000000
namespace Go.Proofs.YtmbcibgknckenaaGreatDoor
open Go.RowKit
open Go.MapKept
abbrev putObj (w : World) (N : Nat) (o : Obj) : World := { w with heap := w.heap.setIfInBounds N o }
theorem putObj_keeps (w : World) (N : Nat) (o : Obj) : Keeps [N] w (putObj w N o) := by
  refine ⟨rfl, rfl, rfl, by simp [putObj], fun k _ hk => ?_⟩
  simp at hk
  show (w.heap.setIfInBounds N o)[k]? = _
  rw [Array.getElem?_setIfInBounds_ne (fun e => hk e.symm)]
theorem putObj_at {w : World} {N : Nat} (h : N < w.heap.size) (o : Obj) : (putObj w N o).heap[N]? = some o := by
  show (w.heap.setIfInBounds N o)[N]? = _
  simp [h]
theorem namesObj_snoc (l : List (List UInt8 × Value)) (k : List UInt8) (v : Value) :
    namesObj (l ++ [(k, v)]) = .map ((l.mapIdx fun i p => (⟨.string ⟨p.1.toArray⟩, p.2, i⟩ : MapEntry)).toArray.push ⟨.string ⟨k.toArray⟩, v, l.length⟩) (l.length + 1) := by
  simp [namesObj, List.mapIdx_append]
theorem Names.put {X : List Nat} {N : Nat} {l : List (List UInt8 × Option DefL)} {w : World} (h : Names X N l w) (hX : N ∈ X) {k : List UInt8} (hn : look l k = none) :
    ∃ o, (Instr.mapUpdate 104 (.map (some N)) (.string ⟨k.toArray⟩) .nilIface).run Tryz.prog w = .ok () (putObj w N o) ∧ Names X N (l ++ [(k, none)]) (putObj w N o) := by
  obtain ⟨nd, bs, vs, h1, h2, h3, h4⟩ := h
  have hlt := lt_of_heap h3
  have hnk : ∀ p ∈ l, p.1 ≠ k := by
    intro p hp e
    rw [look_some nd hp e] at hn
    cases hn
  have hes := names_keys (l.zip vs |>.map fun p => (p.1.1, p.2))
  have hrun := put_run (P := Tryz.prog) (T := 104) (kt := 9) (et := 113) (d := .string) (by kernel_rfl) (by kernel_rfl) (k := .string ⟨k.toArray⟩) trivial h3 (by simpa using hes) (by
    intro x hx e
    simp only [List.toList_toArray] at hx
    obtain ⟨i, hi, rfl⟩ := List.mem_mapIdx.1 hx
    simp at e hi
    exact hnk _ (List.getElem_mem (by omega)) e) .nilIface
  refine ⟨_, hrun, ?_, bs, vs ++ [.nilIface], h1.keeps (putObj_keeps _ _ _) (by simpa using hX), by simp [h2], ?_, ?_⟩
  · simp only [List.map_append, List.map_cons, List.map_nil]
    rw [List.nodup_append]
    refine ⟨nd, by simp, ?_⟩
    intro a ha b hb e
    simp at hb
    subst hb
    subst e
    obtain ⟨p, hp, rfl⟩ := List.mem_map.1 ha
    exact hnk p hp rfl
  · rw [putObj_at hlt]
    rw [List.zip_append (by omega)]
    simp only [List.map_append, List.zip_cons_cons, List.zip_nil_left, List.map_cons, List.map_nil]
    rw [namesObj_snoc]
  · intro i hi hi'
    by_cases hil : i < l.length
    · rw [List.getElem_append_left hil, List.getElem_append_left (by omega)]
      exact h4 i hil (by omega)
    · simp at hi
      have : i = l.length := by omega
      subst this
      simp [EntIn, h2.symm]
end Go.Proofs.YtmbcibgknckenaaGreatDoor
set_option linter.all false
set_option maxRecDepth 100000
set_option maxHeartbeats 4000000
namespace Go.Proofs.YtmbcibgknckenaaGreatDoor
open Go.RowKit
open Go.MapKept
def define (x : Mar.Word) : PM Unit := fun σ =>
  match look σ.names x.text with
  | none => .ok ((), { σ with names := σ.names ++ [(x.text, none)] })
  | some _ => .error ⟨6, x.at'⟩
theorem Rd.putNames {A : Ad} {text : ByteArray} {σ : St} {w : World} {l : List (List UInt8 × Option DefL)} {o : Obj} (h : Rd A text σ w) (hn : Names A.X A.N l (putObj w A.N o)) : Rd A text { σ with names := l } (putObj w A.N o) := by
  obtain ⟨l1, l2, l3, l4⟩ := h.lt
  obtain ⟨n1, n2, n3, n4, n5, n6⟩ := h.apart
  have hk := putObj_keeps w A.N o
  obtain ⟨es, c, hN⟩ := h.nm.heap
  refine ⟨(hk.block _ l1 (by simp [n2])).trans h.me, ?_, hn, h.mine, fun x hx => Nat.lt_of_lt_of_le (h.old x hx) hk.size, (hk.block _ l4 (by simp; exact fun e => n6 e.symm)).trans h.pr, h.np, ?_, h.small, h.few⟩
  · obtain ⟨ha, hs⟩ := h.sc
    have hb := hk.block _ l2 (by simp [n4])
    refine ⟨ha, ?_⟩
    cases hn : σ.nx with
    | some x => rw [hn] at hs; exact hb.trans hs
    | none => rw [hn] at hs; obtain ⟨k, t, n, a, hs⟩ := hs; exact ⟨k, t, n, a, hb.trans hs⟩
  · have far : ∀ b v, w.cell? ⟨b, 0, none⟩ = some v → b ≠ A.N := by
      intro b v hc e
      subst e
      unfold World.cell? at hc
      rw [hN] at hc
      cases hc
    obtain ⟨⟨m, g1⟩, ⟨_, _, g2⟩, ⟨_, _, g3⟩⟩ := id h.gl
    exact h.gl.keeps hk (by simp [far _ _ g1]) (by simp [far _ _ g2]) (by simp [far _ _ g3])
theorem takeName_any {A : Ad} {text : ByteArray} {σ : St} (x : Mar.Word) {w : World} (h : Rd A text σ w) :
    Calls Tryz.prog 157 #[.map (some A.N), .string ⟨x.text.toArray⟩, .nilIface, .int .i64 x.at'] w (Gives [A.N] A text w (define x σ) unitV) := by
  rcases names_look h.nm x.text true with ⟨hl, hrun⟩ | ⟨o, v, bs, hl, hh, hent, hrun⟩
  · simp only [if_true] at hrun
    obtain ⟨o, hput, hnew⟩ := h.nm.put h.mine.2.2.1 hl
    have HN := Hid.mk (h.putNames hnew)
    have HE : Hid (define x σ = .ok ((), { σ with names := σ.names ++ [(x.text, none)] })) := by show _ = _; simp only [define, hl]
    clear hnew hl
    go_enter Tryz.func157, Tryz.ntmps157
    go_wp2
    go_end0
    exact Gives.ok (a := ()) (putObj_keeps _ _ _) HE.out rfl HN.out
  · simp only [if_true] at hrun
    have HE : Hid (define x σ = .error ⟨6, x.at'⟩) := by show _ = _; simp only [define, hl]
    clear hl hh hent
    go_enter Tryz.func157, Tryz.ntmps157
    go_wp2_with (go_at_call 47; refine (New_any _ _ _).mono ?_; rintro e w' ⟨rfl, rfl⟩)
    exact bodyPost_panics (Gives.throws (M' := []) (w1 := w) (f := ⟨6, x.at'⟩) ((Keeps.refl _ _).alloc _) (Keeps.refl _ _) HE.out (Nat.le_refl _) (heap_alloc_at rfl))
theorem Keeps.cell {M : List Nat} {w w' : World} (hk : Keeps M w w') {b o : Nat} {v : Value} (hb : b ∉ M) (h : w.cell? ⟨b, o, none⟩ = some v) : w'.cell? ⟨b, o, none⟩ = some v := by
  have := hk.block b (lt_of_cell h) hb
  unfold World.cell? at h ⊢
  rw [this]
  exact h
theorem define_any {A : Ad} {text : ByteArray} {σ : St} (x : Mar.Word) {w : World} (h : Rd A text σ w) :
    Calls Tryz.prog 120 #[.pointer (some ⟨A.R, 0, none⟩), wordV x] w (Gives [A.N] A text w (define x σ) unitV) := by
  obtain ⟨c0, c1, c2, c3, c4, hfr⟩ := h.cells
  have hlt := h.lt.1
  have hltN := h.lt.2.2.1
  have hRN := h.apart.2.1
  have hk0 := ((Keeps.refl [A.N] w).alloc (.cells #[.int .i64 x.kind, .string ⟨x.text.toArray⟩, .int .i64 x.n, .int .i64 x.at'] 110)).drew
  have HC := Hid.mk (takeName_any x (h.below (((Below.refl w.heap.size w).alloc (Nat.le_refl _) (.cells #[.int .i64 x.kind, .string ⟨x.text.toArray⟩, .int .i64 x.n, .int .i64 x.at'] 110)).drew)))
  have hblk := heap_alloc_at (w := w) (o := .cells #[.int .i64 x.kind, .string ⟨x.text.toArray⟩, .int .i64 x.n, .int .i64 x.at'] 110) rfl
  obtain ⟨y0, y1, y2, y3, _⟩ := wordBlock hblk
  have k1 : (w.alloc (.cells #[.int .i64 x.kind, .string ⟨x.text.toArray⟩, .int .i64 x.n, .int .i64 x.at'] 110)).cell? ⟨A.R, 1, none⟩ = some (.map (some A.N)) := cell_below ((Below.refl w.heap.size w).alloc (Nat.le_refl _) _) rfl c1
  have Y1 := Hid.mk y1
  have Y3 := Hid.mk y3
  have K1 := Hid.mk k1
  have HK0 := Hid.mk hk0
  have fin_err : ∀ (f : Mar.Fault) (b : Nat) (w2 : World), define x σ = .error f → w.heap.size + 1 ≤ b → Keeps [A.N] w w2 → w2.heap[b]? = some (.cells #[.int .i64 f.no, .int .i64 f.at'] 83) →
      Gives [A.N] A text w (define x σ) unitV (.panicked [{ v := .iface 79 (.pointer (some ⟨b, 0, none⟩)), recovered := false }]) w2 := by
    intro f b w2 hf hb hk hc
    exact Gives.throws (M' := []) (w1 := w) hk (Keeps.refl _ _) hf (by omega) hc
  have FE := Hid.mk fin_err
  clear hk0 y0 y1 y2 y3 k1 hblk fin_err
  dsimp only [wordV]
  go_enter Tryz.func120, Tryz.ntmps120
  go_wp2
  go_region_held2 (fun w' => w'.cell? ⟨A.R, 1, none⟩ = some (.map (some A.N)) ∧ w'.cell? ⟨w.heap.size, 1, none⟩ = some (.string ⟨x.text.toArray⟩) ∧ w'.cell? ⟨w.heap.size, 3, none⟩ = some (.int .i64 x.at')) (go_keep)
    (first | (go_at_call 157; refine HC.out.mono ?_; rintro e w2 ⟨hk, ⟨u, σ', hx, rfl, hr⟩ | ⟨f, hx, b, hbb, rfl, hcell⟩⟩; rotate_left; exact bodyPost_panics (FE.out f b w2 hx (by simpa using hbb) (HK0.out.trans hk) hcell); have q1 := hk.cell (by simpa using hRN) K1.out; have q2 := hk.cell (b := w.heap.size) (by simp; omega) Y1.out; have q3 := hk.cell (b := w.heap.size) (by simp; omega) Y3.out; have Hk := Hid.mk hk; have Hx := Hid.mk hx; have Hr := Hid.mk hr; clear hk hx hr))
  go_wp2
  go_end0
  exact Gives.ok (a := ()) (HK0.out.trans Hk.out) Hx.out rfl Hr.out
end Go.Proofs.YtmbcibgknckenaaGreatDoor
set_option linter.all false
set_option maxRecDepth 100000
set_option maxHeartbeats 4000000
namespace Go.Proofs.YtmbcibgknckenaaGreatDoor
open Go.RowKit
open Go.MapKept
def SetAt (q : Nat) (l : List (List UInt8)) (w : World) : Prop := l.Nodup ∧ ∃ vs : List Value, vs.length = l.length ∧ w.heap[q]? = some (namesObj (l.zip vs))
theorem SetAt.keeps {q : Nat} {l : List (List UInt8)} {w w' : World} {M : List Nat} (h : SetAt q l w) (hk : Keeps M w w') (hq : q ∉ M) : SetAt q l w' := by
  obtain ⟨nd, vs, h1, h2⟩ := h
  exact ⟨nd, vs, h1, (hk.block _ (lt_of_heap h2) hq).trans h2⟩
theorem SetAt.lt {q : Nat} {l : List (List UInt8)} {w : World} (h : SetAt q l w) : q < w.heap.size := by
  obtain ⟨nd, vs, h1, h2⟩ := h
  exact lt_of_heap h2
theorem set_look {q : Nat} {l : List (List UInt8)} {w : World} (h : SetAt q l w) (k : List UInt8) :
    (k ∉ l ∧ (Instr.lookup 64 (.map (some q)) (.string ⟨k.toArray⟩) true).run Tryz.prog w = .ok (.tuple #[.int .i64 0, .bool false]) w) ∨
    (∃ v, k ∈ l ∧ (Instr.lookup 64 (.map (some q)) (.string ⟨k.toArray⟩) true).run Tryz.prog w = .ok (.tuple #[v, .bool true]) w) := by
  obtain ⟨nd, vs, h2, h3⟩ := h
  have hes := names_keys (l.zip vs)
  have hz : (zeroValue 3).run Tryz.prog w = .ok (.int .i64 0) w := by kernel_rfl
  rcases look_run (P := Tryz.prog) (T := 64) (kt := 9) (et := 3) (d := .string) (by kernel_rfl) (by kernel_rfl) (k := .string ⟨k.toArray⟩) trivial h3 (by simpa using hes) hz true with ⟨g1, g2⟩ | ⟨j, e, g1, g2, g3⟩
  · refine Or.inl ⟨?_, by simpa using g2⟩
    intro hk
    obtain ⟨i, hi, rfl⟩ := List.getElem_of_mem hk
    have hi' : i < vs.length := by omega
    have hm : (⟨.string ⟨l[i].toArray⟩, vs[i], i⟩ : MapEntry) ∈ ((l.zip vs).mapIdx fun i p => (⟨.string ⟨p.1.toArray⟩, p.2, i⟩ : MapEntry)).toArray.toList := by
      simp only [List.toList_toArray]
      rw [List.mem_mapIdx]
      exact ⟨i, by simp; omega, by simp⟩
    exact g1 _ hm rfl
  · simp only [List.toList_toArray, List.getElem?_mapIdx] at g1
    have hj : j < l.length := by
      by_cases hj : j < l.length
      · exact hj
      · rw [List.getElem?_eq_none (by simp; omega)] at g1
        cases g1
    have hj' : j < vs.length := by omega
    rw [List.getElem?_eq_getElem (by simp; omega)] at g1
    simp at g1
    subst g1
    simp at g2 g3
    exact Or.inr ⟨vs[j], by rw [← g2]; exact List.getElem_mem hj, g3⟩
theorem SetAt.put {q : Nat} {l : List (List UInt8)} {w : World} (h : SetAt q l w) {k : List UInt8} (hn : k ∉ l) (v : Value) :
    ∃ o, (Instr.mapUpdate 64 (.map (some q)) (.string ⟨k.toArray⟩) v).run Tryz.prog w = .ok () (putObj w q o) ∧ SetAt q (l ++ [k]) (putObj w q o) := by
  obtain ⟨nd, vs, h2, h3⟩ := h
  have hlt := lt_of_heap h3
  have hes := names_keys (l.zip vs)
  have hrun := put_run (P := Tryz.prog) (T := 64) (kt := 9) (et := 3) (d := .string) (by kernel_rfl) (by kernel_rfl) (k := .string ⟨k.toArray⟩) trivial h3 (by simpa using hes) (by
    intro x hx e
    simp only [List.toList_toArray] at hx
    obtain ⟨i, hi, rfl⟩ := List.mem_mapIdx.1 hx
    simp at e hi
    exact hn (by rw [← e]; exact List.getElem_mem (by omega))) v
  refine ⟨_, hrun, ?_, vs ++ [v], by simp [h2], ?_⟩
  · rw [List.nodup_append]
    refine ⟨nd, by simp, ?_⟩
    intro a ha b hb e
    simp at hb
    subst hb
    subst e
    exact hn ha
  · rw [putObj_at hlt]
    rw [List.zip_append (by omega)]
    simp only [List.zip_cons_cons, List.zip_nil_left]
    rw [namesObj_snoc]
def claimS (x : Mar.Word) (l : List (List UInt8)) : Except Mar.Fault (List (List UInt8)) := if l.contains x.text then .error ⟨6, x.at'⟩ else .ok (l ++ [x.text])
theorem takePlace_any {q : Nat} {l : List (List UInt8)} (x : Mar.Word) {w : World} (h : SetAt q l w) :
    Calls Tryz.prog 165 #[.map (some q), .string ⟨x.text.toArray⟩, .int .i64 x.at', .int .i64 x.at'] w fun e w' => Keeps [q] w w' ∧
      ((∃ l', claimS x l = .ok l' ∧ e = .returned (.tuple #[]) ∧ SetAt q l' w') ∨ (∃ f, claimS x l = .error f ∧ Thrown w f.no f.at' e w')) := by
  rcases set_look h x.text with ⟨hl, hrun⟩ | ⟨v, hl, hrun⟩
  · obtain ⟨o, hput, hnew⟩ := h.put hl (.int .i64 x.at')
    have HN := Hid.mk hnew
    have HE : Hid (claimS x l = .ok (l ++ [x.text])) := by show _ = _; rw [claimS, if_neg (by simpa using hl)]
    clear hnew hl
    go_enter Tryz.func165, Tryz.ntmps165
    go_wp2
    go_end0
    exact ⟨putObj_keeps _ _ _, Or.inl ⟨_, HE.out, rfl, HN.out⟩⟩
  · have HE : Hid (claimS x l = .error ⟨6, x.at'⟩) := by show _ = _; rw [claimS, if_pos (by simpa using hl)]
    clear hl
    go_enter Tryz.func165, Tryz.ntmps165
    go_wp2_with (go_at_call 47; refine (New_any _ _ _).mono ?_; rintro e w' ⟨rfl, rfl⟩)
    exact bodyPost_panics ⟨(Keeps.refl _ _).alloc _, Or.inr ⟨⟨6, x.at'⟩, HE.out, w.heap.size, Nat.le_refl _, rfl, heap_alloc_at rfl⟩⟩
theorem among1_any {q bx : Nat} {l : List (List UInt8)} (x : Mar.Word) {w : World} (h : SetAt q l w) (hb : w.cell? ⟨bx, 0, none⟩ = some (.map (some q))) :
    Calls Tryz.prog 164 #[wordV x, .pointer (some ⟨bx, 0, none⟩)] w fun e w' => Keeps [q] w w' ∧
      ((∃ l', claimS x l = .ok l' ∧ e = .returned (.tuple #[]) ∧ SetAt q l' w') ∨ (∃ f, claimS x l = .error f ∧ Thrown w f.no f.at' e w')) := by
  have hlt := lt_of_cell hb
  have HC := Hid.mk (fun o => takePlace_any x (h.keeps (Keeps.of_below [] ((Below.refl w.heap.size w).alloc (Nat.le_refl _) o)) (by simp)))
  dsimp only [wordV]
  go_enter Tryz.func164, Tryz.ntmps164
  go_wp2_with (go_at_call 165; refine (HC.out _).mono ?_; rintro e w2 ⟨hk, ⟨l', hx, rfl, hs⟩ | ⟨f, hx, b, hbb, rfl, hcell⟩⟩)
  · go_end0
    exact ⟨((Keeps.refl _ _).alloc _).trans hk, Or.inl ⟨l', hx, rfl, hs⟩⟩
  · exact bodyPost_panics ⟨((Keeps.refl _ _).alloc _).trans hk, Or.inr ⟨f, hx, b, by simp at hbb; omega, rfl, hcell⟩⟩
end Go.Proofs.YtmbcibgknckenaaGreatDoor
set_option linter.all false
set_option maxRecDepth 100000
set_option maxHeartbeats 4000000
namespace Go.Proofs.YtmbcibgknckenaaGreatDoor
open Go.RowKit
open Go.MapKept
def NumsAt (q : Nat) (l : List (Int × Int)) (w : World) : Prop := w.heap[q]? = some (numsObj l)
theorem NumsAt.keeps {q : Nat} {l : List (Int × Int)} {w w' : World} {M : List Nat} (h : NumsAt q l w) (hk : Keeps M w w') (hq : q ∉ M) : NumsAt q l w' := (hk.block _ (lt_of_heap h) hq).trans h
theorem nums_keys (l : List (Int × Int)) : ∀ x ∈ (l.mapIdx fun i p => (⟨.int .i64 p.1, .int .i64 p.2, i⟩ : MapEntry)), IsKey (.int .i64) x.key := by
  intro x hx
  obtain ⟨i, hi, rfl⟩ := List.mem_mapIdx.1 hx
  exact rfl
theorem nums_look {q : Nat} {l : List (Int × Int)} {w : World} (h : NumsAt q l w) (k : Int) :
    (k ∉ l.map (·.1) ∧ (Instr.lookup 105 (.map (some q)) (.int .i64 k) true).run Tryz.prog w = .ok (.tuple #[.int .i64 0, .bool false]) w) ∨
    (∃ v, k ∈ l.map (·.1) ∧ (Instr.lookup 105 (.map (some q)) (.int .i64 k) true).run Tryz.prog w = .ok (.tuple #[v, .bool true]) w) := by
  have hes := nums_keys l
  have hz : (zeroValue 3).run Tryz.prog w = .ok (.int .i64 0) w := by kernel_rfl
  rcases look_run (P := Tryz.prog) (T := 105) (kt := 2) (et := 3) (d := .int .i64) (by kernel_rfl) (by kernel_rfl) (k := .int .i64 k) rfl h (by simpa using hes) hz true with ⟨g1, g2⟩ | ⟨j, e, g1, g2, g3⟩
  · refine Or.inl ⟨?_, by simpa using g2⟩
    intro hk
    obtain ⟨p, hp, rfl⟩ := List.mem_map.1 hk
    obtain ⟨i, hi, rfl⟩ := List.getElem_of_mem hp
    have hm : (⟨.int .i64 l[i].1, .int .i64 l[i].2, i⟩ : MapEntry) ∈ (l.mapIdx fun i p => (⟨.int .i64 p.1, .int .i64 p.2, i⟩ : MapEntry)).toArray.toList := by
      simp only [List.toList_toArray]
      rw [List.mem_mapIdx]
      exact ⟨i, hi, rfl⟩
    exact g1 _ hm rfl
  · simp only [List.toList_toArray, List.getElem?_mapIdx] at g1
    have hj : j < l.length := by
      by_cases hj : j < l.length
      · exact hj
      · rw [List.getElem?_eq_none (by omega)] at g1
        cases g1
    rw [List.getElem?_eq_getElem hj] at g1
    simp at g1
    subst g1
    simp at g2 g3
    exact Or.inr ⟨.int .i64 l[j].2, List.mem_map.2 ⟨l[j], List.getElem_mem hj, g2⟩, g3⟩
theorem NumsAt.put {q : Nat} {l : List (Int × Int)} {w : World} (h : NumsAt q l w) {k : Int} (hn : k ∉ l.map (·.1)) (v : Int) :
    ∃ o, (Instr.mapUpdate 105 (.map (some q)) (.int .i64 k) (.int .i64 v)).run Tryz.prog w = .ok () (putObj w q o) ∧ NumsAt q (l ++ [(k, v)]) (putObj w q o) := by
  have hlt := lt_of_heap h
  have hes := nums_keys l
  have hrun := put_run (P := Tryz.prog) (T := 105) (kt := 2) (et := 3) (d := .int .i64) (by kernel_rfl) (by kernel_rfl) (k := .int .i64 k) rfl h (by simpa using hes) (by
    intro x hx e
    simp only [List.toList_toArray] at hx
    obtain ⟨i, hi, rfl⟩ := List.mem_mapIdx.1 hx
    simp at e
    exact hn (List.mem_map.2 ⟨l[i], List.getElem_mem hi, e⟩)) (.int .i64 v)
  refine ⟨_, hrun, ?_⟩
  unfold NumsAt
  rw [putObj_at hlt]
  simp [numsObj, List.mapIdx_append]
def claimN (n at' : Int) (l : List (Int × Int)) (f : Mar.Fault) : Except Mar.Fault (List (Int × Int)) := if (l.map (·.1)).contains n then .error f else .ok (l ++ [(n, at')])
theorem takeNum_any {q : Nat} {l : List (Int × Int)} (n : Int) (at' : Nat) {w : World} (h : NumsAt q l w) :
    Calls Tryz.prog 178 #[.map (some q), .int .i64 n, .int .i64 at', .int .i64 at'] w fun e w' => Keeps [q] w w' ∧
      ((∃ l' o, claimN n at' l ⟨6, at'⟩ = .ok l' ∧ e = .returned (.tuple #[]) ∧ w' = putObj w q o ∧ NumsAt q l' w') ∨ (∃ f, claimN n at' l ⟨6, at'⟩ = .error f ∧ Thrown w f.no f.at' e w')) := by
  rcases nums_look h n with ⟨hl, hrun⟩ | ⟨v, hl, hrun⟩
  · obtain ⟨o, hput, hnew⟩ := h.put hl at'
    have HN := Hid.mk hnew
    have HE : Hid (claimN n at' l ⟨6, at'⟩ = .ok (l ++ [(n, (at' : Int))])) := by show _ = _; rw [claimN, if_neg (by simpa using hl)]
    clear hnew hl
    go_enter Tryz.func178, Tryz.ntmps178
    go_wp2
    go_end0
    exact ⟨putObj_keeps _ _ _, Or.inl ⟨_, o, HE.out, rfl, rfl, HN.out⟩⟩
  · have HE : Hid (claimN n at' l ⟨6, at'⟩ = .error ⟨6, at'⟩) := by show _ = _; rw [claimN, if_pos (by simpa using hl)]
    clear hl
    go_enter Tryz.func178, Tryz.ntmps178
    go_wp2_with (go_at_call 47; refine (New_any _ _ _).mono ?_; rintro e w' ⟨rfl, rfl⟩)
    exact bodyPost_panics ⟨(Keeps.refl _ _).alloc _, Or.inr ⟨⟨6, at'⟩, HE.out, w.heap.size, Nat.le_refl _, rfl, heap_alloc_at rfl⟩⟩
def GivesX {α τ : Type} (M : List Nat) (A : Ad) (text : ByteArray) (w : World) (r : Except Mar.Fault (α × τ × St)) (V : α → Value) (I : τ → World → Prop) (e : Ending) (w' : World) : Prop :=
  Keeps M w w' ∧ ((∃ a t σ', r = .ok (a, t, σ') ∧ e = .returned (V a) ∧ Rd A text σ' w' ∧ I t w') ∨ (∃ f, r = .error f ∧ Thrown w f.no f.at' e w'))
abbrev PX (τ α : Type) := τ → St → Except Mar.Fault (α × τ × St)
def lift {τ α : Type} (m : PM α) : PX τ α := fun t σ => match m σ with
  | .ok (a, σ') => .ok (a, t, σ')
  | .error f => .error f
def bndx {τ α β : Type} (m : PX τ α) (k : α → PX τ β) : PX τ β := fun t σ => match m t σ with
  | .ok (a, t', σ') => k a t' σ'
  | .error f => .error f
def retx {τ α : Type} (a : α) : PX τ α := fun t σ => .ok (a, t, σ)
def side' {τ : Type} (c : τ → Except Mar.Fault τ) : PX τ Unit := fun t σ => match c t with
  | .ok t' => .ok ((), t', σ)
  | .error f => .error f
theorem lift_ok {τ α : Type} {m : PM α} {t : τ} {σ σ' : St} {a : α} (h : m σ = .ok (a, σ')) : lift m t σ = .ok (a, t, σ') := by simp only [lift, h]
theorem lift_err {τ α : Type} {m : PM α} {t : τ} {σ : St} {f : Mar.Fault} (h : m σ = .error f) : lift m t σ = .error f := by simp only [lift, h]
theorem bndx_ok {τ α β : Type} {m : PX τ α} {k : α → PX τ β} {t t' : τ} {σ σ' : St} {a : α} (h : m t σ = .ok (a, t', σ')) : bndx m k t σ = k a t' σ' := by simp only [bndx, h]
theorem bndx_err {τ α β : Type} {m : PX τ α} {k : α → PX τ β} {t : τ} {σ : St} {f : Mar.Fault} (h : m t σ = .error f) : bndx m k t σ = .error f := by simp only [bndx, h]
theorem side_ok {τ : Type} {c : τ → Except Mar.Fault τ} {t t' : τ} {σ : St} (h : c t = .ok t') : side' c t σ = .ok ((), t', σ) := by simp only [side', h]
theorem side_err {τ : Type} {c : τ → Except Mar.Fault τ} {t : τ} {σ : St} {f : Mar.Fault} (h : c t = .error f) : side' c t σ = .error f := by simp only [side', h]
def number (text : ByteArray) (p : Int → Bool) : PX (List (Int × Int)) Int := bndx (lift (value text p)) fun q => bndx (side' fun l => claimN q.1 q.2 l ⟨6, q.2⟩) fun _ => retx q.1
theorem GivesX.ok {α τ : Type} {M : List Nat} {A : Ad} {text : ByteArray} {w w' : World} {r : Except Mar.Fault (α × τ × St)} {V : α → Value} {I : τ → World → Prop} {a : α} {t : τ} {σ' : St} {v : Value}
    (hk : Keeps M w w') (hr : r = .ok (a, t, σ')) (hv : v = V a) (h : Rd A text σ' w') (hi : I t w') : GivesX M A text w r V I (.returned v) w' := ⟨hk, Or.inl ⟨a, t, σ', hr, by rw [hv], h, hi⟩⟩
theorem GivesX.throws {α τ : Type} {M M' : List Nat} {A : Ad} {text : ByteArray} {w w1 w' : World} {r : Except Mar.Fault (α × τ × St)} {V : α → Value} {I : τ → World → Prop} {f : Mar.Fault} {b : Nat}
    (hk : Keeps M w w') (hk1 : Keeps M' w w1) (hr : r = .error f) (hb : w1.heap.size ≤ b) (hc : w'.heap[b]? = some (.cells #[.int .i64 f.no, .int .i64 f.at'] 83)) :
    GivesX M A text w r V I (.panicked [{ v := .iface 79 (.pointer (some ⟨b, 0, none⟩)), recovered := false }]) w' :=
  ⟨hk, Or.inr ⟨f, hr, b, Nat.le_trans hk1.size hb, rfl, hc⟩⟩
end Go.Proofs.YtmbcibgknckenaaGreatDoor
set_option linter.all false
set_option maxRecDepth 100000
set_option maxHeartbeats 4000000
namespace Go.Proofs.YtmbcibgknckenaaGreatDoor
open Go.RowKit
open Go.MapKept
def Free (A : Ad) (q : Nat) : Prop := q ∈ A.X ∧ q ≠ A.R ∧ q ≠ A.S ∧ q ≠ A.N ∧ q ≠ A.P
theorem Rd.turned {A : Ad} {text : ByteArray} {σ : St} {w w' : World} {q : Nat} {es : Array MapEntry} {c : Nat} (h : Rd A text σ w) (hk : Keeps [q] w w') (hq : Free A q) (hm : w.heap[q]? = some (.map es c)) : Rd A text σ w' := by
  obtain ⟨q0, q1, q2, q3, q4⟩ := hq
  have far : ∀ b v, w.cell? ⟨b, 0, none⟩ = some v → b ≠ q := by
    intro b v hc e
    subst e
    unfold World.cell? at hc
    rw [hm] at hc
    cases hc
  obtain ⟨⟨m, g1⟩, ⟨_, _, g2⟩, ⟨_, _, g3⟩⟩ := id h.gl
  exact h.keeps hk (by simpa using q0) (by simp; exact fun e => q1 e.symm) (by simp; exact fun e => q2 e.symm) (by simp; exact fun e => q3 e.symm) (by simp; exact fun e => q4 e.symm) (by simp [far _ _ g1]) (by simp [far _ _ g2]) (by simp [far _ _ g3])
theorem value_is {A : Ad} {text : ByteArray} {σ : St} {v : Value} {p : Int → Bool} {w : World} (h : Rd A text σ w) (hf : Fits A.X v p w) :
    Calls Tryz.prog 122 #[.pointer (some ⟨A.R, 0, none⟩), v] w (Gives [A.S] A text w (value text p σ) fun q => .tuple #[.int .i64 q.1, .int .i64 q.2]) := value_any h hf
theorem number_any' {A : Ad} {text : ByteArray} {σ : St} {v : Value} {p : Int → Bool} {q : Nat} {l : List (Int × Int)} {w : World} (h : Rd A text σ w) (hf : Fits A.X v p w) (hq : Free A q) (hn : NumsAt q l w) :
    Calls Tryz.prog 163 #[.pointer (some ⟨A.R, 0, none⟩), .map (some q), v] w (GivesX [A.S, q] A text w (number text p l σ) intV (NumsAt q)) := by
  have HC := Hid.mk (value_is h hf)
  have hqS : q ∉ [A.S] := by simp; exact hq.2.2.1
  go_enter Tryz.func163, Tryz.ntmps163
  go_wp2_with fail
  refine HC.out.mono ?_
  rintro e w1 ⟨hk1, ⟨r, σ1, hx1, rfl, hr1⟩ | ⟨f, hx1, b, hbb, rfl, hcell⟩⟩
  rotate_left
  · exact bodyPost_panics (GivesX.throws (hk1.mono (by simp)) (Keeps.refl [] _) (bndx_err (lift_err hx1)) hbb hcell)
  have hn1 := hn.keeps hk1 hqS
  have HK1 := Hid.mk (hk1.mono (M' := [A.S, q]) (by simp))
  clear hk1
  go_wp2_with fail
  refine (takeNum_any _ _ hn1).mono ?_
  rintro e w2 ⟨hk2, ⟨l', o, hx2, rfl, rfl, hn2⟩ | ⟨f, hx2, b, hbb, rfl, hcell⟩⟩
  rotate_left
  · exact bodyPost_panics (GivesX.throws (HK1.out.trans (hk2.mono (by simp))) HK1.out ((bndx_ok (lift_ok hx1)).trans (bndx_err (side_err hx2))) hbb hcell)
  have HR2 := Hid.mk (hr1.turned hk2 hq hn1)
  have HK2 := Hid.mk (HK1.out.trans (hk2.mono (M' := [A.S, q]) (by simp)))
  have HN2 := Hid.mk hn2
  clear hn1 hk2 hn2
  go_wp2
  go_ret
  exact GivesX.ok (a := r.1) HK2.out ((bndx_ok (lift_ok hx1)).trans (bndx_ok (side_ok hx2))) rfl HR2.out HN2.out
def ending (text : ByteArray) : PX (List (Int × Int)) Int := bndx (lift (expect text [61])) fun _ => bndx (number text (inside 0 4294967295)) fun n => bndx (lift (expect text [59])) fun _ => retx n
theorem ending_any {A : Ad} {text : ByteArray} {σ : St} {q : Nat} {l : List (Int × Int)} {w : World} (h : Rd A text σ w) (hq : Free A q) (hn : NumsAt q l w) :
    Calls Tryz.prog 138 #[.pointer (some ⟨A.R, 0, none⟩), .map (some q)] w (GivesX [A.S, q] A text w (ending text l σ) intV (NumsAt q)) := by
  have hqS : q ∉ [A.S] := by simp; exact hq.2.2.1
  go_enter Tryz.func138, Tryz.ntmps138
  go_wp2_with fail
  refine (expect_any _ h).mono ?_
  rintro e w1 ⟨hk1, ⟨x1, σ1, hx1, rfl, hr1⟩ | ⟨f, hx1, b, hbb, rfl, hcell⟩⟩
  rotate_left
  · exact bodyPost_panics (GivesX.throws (hk1.mono (by simp)) (Keeps.refl [] _) (bndx_err (lift_err hx1)) hbb hcell)
  have hn1 := hn.keeps hk1 hqS
  have hK1 := hk1.mono (M' := [A.S, q]) (by simp)
  clear hk1
  go_wp2_with fail
  refine (within_any _ _ _).mono ?_
  rintro e w2 ⟨v, rfl, hb2, hfit⟩
  have hf2 := hfit A.X hr1.old
  have hr2 := hr1.below hb2
  have hn2 := hn1.keeps (Keeps.of_below [] hb2) (by simp)
  have hK2 := hK1.trans (Keeps.of_below _ hb2)
  clear hfit hb2 hn1 hK1
  go_wp2_with fail
  refine (number_any' hr2 hf2 hq hn2).mono ?_
  rintro e w3 ⟨hk3, ⟨n, l3, σ3, hx3, rfl, hr3, hn3⟩ | ⟨f, hx3, b, hbb, rfl, hcell⟩⟩
  rotate_left
  · exact bodyPost_panics (GivesX.throws (hK2.trans hk3) hK2 ((bndx_ok (lift_ok hx1)).trans (bndx_err hx3)) hbb hcell)
  have hK3 := hK2.trans hk3
  clear hf2 hK2 hk3 hn2
  dsimp only [intV]
  go_wp2_with fail
  refine (expect_any _ hr3).mono ?_
  rintro e w4 ⟨hk4, ⟨x4, σ4, hx4, rfl, hr4⟩ | ⟨f, hx4, b, hbb, rfl, hcell⟩⟩
  rotate_left
  · exact bodyPost_panics (GivesX.throws (hK3.trans (hk4.mono (by simp))) hK3 ((bndx_ok (lift_ok hx1)).trans ((bndx_ok hx3).trans (bndx_err (lift_err hx4)))) hbb hcell)
  go_wp2
  go_ret
  exact GivesX.ok (a := n) (hK3.trans (hk4.mono (by simp))) ((bndx_ok (lift_ok hx1)).trans ((bndx_ok hx3).trans (bndx_ok (lift_ok hx4)))) rfl hr4 (hn3.keeps hk4 hqS)
end Go.Proofs.YtmbcibgknckenaaGreatDoor
set_option linter.all false
set_option maxRecDepth 100000
set_option maxHeartbeats 4000000
namespace Go.Proofs.YtmbcibgknckenaaGreatDoor
open Go.RowKit
open Go.MapKept
structure Claim (τ : Type) where
  f : Nat
  pre : Array Value
  post : Array Value
  M : List Nat
  bs : List (Nat × Obj)
  I : τ → World → Prop
  run : Mar.Word → PX τ Unit
def Claim.v {τ : Type} (C : Claim τ) : Value := .func (.func C.f) C.pre C.post
structure Claims {τ : Type} (C : Claim τ) (A : Ad) (text : ByteArray) : Prop where
  enters : ∀ args W, (callFunc C.f args).run Tryz.prog W = .ok (.enter C.f args) W
  stable : ∀ {t : τ} {w w' : World} {M' : List Nat}, C.I t w → Keeps M' w w' → (∀ m ∈ M', m ∉ C.M) → C.I t w'
  far : A.S ∉ C.M
  inX : ∀ m ∈ C.M, m ∈ A.X
  call : ∀ {A' : Ad} {σ : St} {t : τ} {W : World} (x : Mar.Word), Same A' A → (∀ b ∈ A.X, b ∈ A'.X) → Rd A' text σ W → C.I t W → Held A.X C.bs W →
    Calls Tryz.prog C.f (C.pre.push (wordV x) ++ C.post) W (GivesX C.M A' text W (C.run x t σ) unitV C.I)
def thrx {τ α : Type} (no at' : Nat) : PX τ α := fun _ _ => .error ⟨no, at'⟩
def name {τ : Type} (text : ByteArray) (C : Claim τ) : PX τ (List UInt8 × Nat) := bndx (lift (next text)) fun x => if ((x.kind : Int) == 1) then bndx (C.run x) fun _ => retx (x.text, x.at') else thrx 3 x.at'
abbrev nameV : List UInt8 × Nat → Value := fun q => .agg #[.string ⟨q.1.toArray⟩, .int .i64 q.2]
theorem next_at {A' A : Ad} (hA : Same A' A) {text : ByteArray} {σ : St} {w : World} (h : Rd A' text σ w) :
    Calls Tryz.prog 85 #[.pointer (some ⟨A.S, 0, none⟩)] w (Gives [A.S] A' text w (next text σ) wordV) := by
  have := next_calls h
  rw [hA.2.1] at this
  exact this
theorem name_any' {τ : Type} {C : Claim τ} {A : Ad} {text : ByteArray} {σ : St} {t : τ} {w : World} (hC : Claims C A text) (h : Rd A text σ w) (hi : C.I t w) (hh : Held A.X C.bs w) :
    Calls Tryz.prog 119 #[.pointer (some ⟨A.R, 0, none⟩), C.v] w (GivesX (A.S :: C.M) A text w (name text C t σ) nameV C.I) := by
  obtain ⟨c0, c1, c2, c3, c4, hfr⟩ := h.cells
  have hltR := h.lt.1
  have hltS := h.lt.2.1
  have hneM : w.heap.size ∉ A.S :: C.M := by
    simp only [List.mem_cons, not_or]
    exact ⟨by omega, fun hm => by have := h.old _ (hC.inX _ hm); omega⟩
  have hne : w.heap.size ∉ [A.S] := by simp; omega
  have hb0 := heap_alloc_at (w := w) (o := .cells #[.string ⟨#[]⟩, .int .i64 0] 116) rfl
  have hO := h.own (.cells #[.string ⟨#[]⟩, .int .i64 0] 116)
  have hk0 := (Keeps.refl (A.S :: C.M) w).alloc (.cells #[.string ⟨#[]⟩, .int .i64 0] 116)
  have hi0 := hC.stable hi (Keeps.of_below [] ((Below.refl w.heap.size w).alloc (Nat.le_refl _) (.cells #[.string ⟨#[]⟩, .int .i64 0] 116))) (by simp)
  have hh0 := hh.keeps (Keeps.of_below [] ((Below.refl w.heap.size w).alloc (Nat.le_refl _) (.cells #[.string ⟨#[]⟩, .int .i64 0] 116))) (by simp)
  have hent := hC.enters
  show Calls Tryz.prog 119 #[.pointer (some ⟨A.R, 0, none⟩), .func (.func C.f) C.pre C.post] w _
  go_enter Tryz.func119, Tryz.ntmps119
  go_wp2_with fail
  refine (next_at (Same.add A _) hO).mono ?_
  rintro e w1 ⟨hk1, ⟨x, σ1, hx1, rfl, hr1⟩ | ⟨f, hx1, b, hbb, rfl, hcell⟩⟩
  rotate_left
  · exact bodyPost_panics (GivesX.throws (hk0.trans (hk1.mono (by simp))) hk0 (bndx_err (lift_err hx1)) hbb hcell)
  have hb1 := (hk1.block _ (lt_of_heap hb0) hne).trans hb0
  have hK1 := hk0.trans (hk1.mono (M' := A.S :: C.M) (by simp))
  have hi1 := hC.stable hi0 hk1 (by simp; exact hC.far)
  have hh1 := hh0.keeps hk1 (by simp; exact h.mine.2.1)
  clear hb0 hk0 hk1 hi0 hh0 hi hh
  dsimp only [wordV]
  go_wp2_with (first | (go_at_call 47; refine (New_any _ _ _).mono ?_; rintro e w' ⟨rfl, rfl⟩))
  · have hk : ((x.kind : Int) == 1) = false := by simpa [bne] using ‹((x.kind : Int) != 1) = true›
    refine bodyPost_panics (GivesX.throws (M' := A.S :: C.M) (w1 := w1) (f := ⟨3, x.at'⟩) ((hK1.alloc _).alloc _) hK1 ((bndx_ok (lift_ok hx1)).trans ?_) (by omega) (heap_alloc_at (by simp)))
    rw [hk]; rfl
  · have hk : ((x.kind : Int) == 1) = true := by simpa [bne] using ‹((x.kind : Int) != 1) = false›
    have hba := (Below.refl w1.heap.size w1).alloc (Nat.le_refl _) (.cells #[.int .i64 x.kind, .string ⟨x.text.toArray⟩, .int .i64 x.n, .int .i64 x.at'] 110)
    have hv1 := heap_alloc_at (w := w1) (o := .cells #[.int .i64 x.kind, .string ⟨x.text.toArray⟩, .int .i64 x.n, .int .i64 x.at'] 110) rfl
    have hsz1 : w.heap.size < w1.heap.size := lt_of_heap hb1
    refine (hC.call x (Same.add A _) (fun b hb => List.mem_cons_of_mem _ hb) (hr1.below hba) (hC.stable hi1 (Keeps.of_below [] hba) (by simp)) (hh1.keeps (Keeps.of_below [] hba) (by simp))).mono ?_
    rintro e w2 ⟨hk2, ⟨u, t2, σ2, hx2, rfl, hr2, hi2⟩ | ⟨f, hx2, b, hbb, rfl, hcell⟩⟩
    rotate_left
    · refine bodyPost_panics (GivesX.throws (M' := A.S :: C.M) (w1 := w1) ((hK1.alloc _).trans (hk2.mono (fun m hm => List.mem_cons_of_mem _ hm))) hK1 ((bndx_ok (lift_ok hx1)).trans ?_) (by simp at hbb; omega) hcell)
      rw [hk]
      exact bndx_err hx2
    have hvM : w1.heap.size ∉ C.M := fun hm => by have := h.old _ (hC.inX _ hm); omega
    have hwM : w.heap.size ∉ C.M := fun hm => hneM (List.mem_cons_of_mem _ hm)
    have hv2 := (hk2.block _ (lt_of_heap hv1) hvM).trans hv1
    have hb2 := (hk2.block _ (by simp; omega) hwM).trans ((hba.block _ hsz1).trans hb1)
    have hK2 := (hK1.alloc (.cells #[.int .i64 x.kind, .string ⟨x.text.toArray⟩, .int .i64 x.n, .int .i64 x.at'] 110)).trans (hk2.mono (M' := A.S :: C.M) (fun m hm => List.mem_cons_of_mem _ hm))
    obtain ⟨y0, y1, y2, y3, _⟩ := wordBlock hv2
    have HK2 := Hid.mk hK2
    have HB2 := Hid.mk hb2
    have HI2 := Hid.mk hi2
    have HR2 := Hid.mk hr2
    clear hK1 hk2 hv1 hv2 hb1 hb2 hK2 hi1 hi2 hh1 hr1 hr2 hba
    go_wp2_with fail
    refine (titled_any x _).mono ?_
    rintro e w3 ⟨rfl, hb3⟩
    have hc3 := (hb3.block _ (lt_of_heap HB2.out)).trans HB2.out
    obtain ⟨r0, r1, hfrR⟩ := bound2 hc3
    have hK3 := HK2.out.trans (Keeps.of_below _ hb3)
    have hr3 := HR2.out.below hb3
    have hi3 := hC.stable HI2.out (Keeps.of_below [] hb3) (by simp)
    clear hb3 hc3
    go_wp2
    obtain ⟨f1, f2⟩ := fin2 h hK3 hr3 (.string ⟨x.text.toArray⟩) (.int .i64 x.at')
    refine bodyPost_ret (v := .agg #[.string ⟨x.text.toArray⟩, .int .i64 x.at']) (by simp [results, Tryz.results119, go_sem, r0, r1]) rfl (GivesX.ok (a := (x.text, x.at')) (t := t2) f1 ((bndx_ok (lift_ok hx1)).trans ?_) rfl f2 ?_)
    · rw [hk]
      exact bndx_ok hx2
    · exact hC.stable hi3 (((Keeps.refl [w.heap.size] w3).setIn (p := ⟨w.heap.size, 0, none⟩) (by simp) _).setIn (p := ⟨w.heap.size, 1, none⟩) (by simp) _) (by simpa using hwM)
end Go.Proofs.YtmbcibgknckenaaGreatDoor
