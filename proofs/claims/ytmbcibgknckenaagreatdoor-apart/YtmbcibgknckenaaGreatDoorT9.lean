import Derived.Test.YtmbcibgknckenaaGreatDoorT8
set_option linter.all false
set_option maxRecDepth 100000
set_option maxHeartbeats 4000000
namespace Go.Proofs.YtmbcibgknckenaaGreatDoor
structure NodeL where
  kind : Nat
  n : Int
  s : List UInt8
  len : Nat
  at' : Nat
structure DSt where
  pos : Nat
  nodes : List NodeL
def bigL (l : List UInt8) : Nat := l.foldl (fun n c => n * 256 + c.toNat) 0
def ofWord (n : NumL) (v : Nat) : Int := if n.low < 0 then (if v < 2147483648 then (v : Int) else (v : Int) - 4294967296) else v
def ofWide (v : Nat) : Int := if v < 9223372036854775808 then (v : Int) else (v : Int) - 18446744073709551616
def padLen (n : Nat) : Nat := (n + 3) / 4 * 4
section
variable (b : List UInt8)
def takeD (k : Nat) (d : DSt) : Except Mar.Fault (List UInt8 × DSt) := if b.length < d.pos + k then .error ⟨16, d.pos⟩ else .ok ((b.drop d.pos).take k, { d with pos := d.pos + k })
def wordD (d : DSt) : Except Mar.Fault (Nat × DSt) := thenE (takeD b 4 d) fun p => .ok (bigL p.1, p.2)
def numberD (n : NumL) (d : DSt) : Except Mar.Fault (Int × DSt) :=
  if n.wide then thenE (takeD b 8 d) fun p => .ok (ofWide (bigL p.1), p.2) else thenE (wordD b d) fun p => .ok (ofWord n p.1, p.2)
def countD (n : Int) (f : Bool) (d : DSt) : Except Mar.Fault (Nat × DSt) :=
  if f then .ok (n.toNat, d) else thenE (wordD b d) fun p => if (p.1 : Int) ≤ n then .ok p else .error ⟨19, d.pos⟩
def badPad : Nat → List UInt8 → Option Nat
  | _, [] => none
  | i, c :: t => if c = 0 then badPad (i + 1) t else some i
def paddedD (n : Nat) (d : DSt) : Except Mar.Fault (List UInt8 × DSt) := thenE (takeD b (padLen n) d) fun p => match badPad n (p.1.drop n) with
  | some i => .error ⟨17, d.pos + i⟩
  | none => .ok (p.1.take n, p.2)
def putD (x : NodeL) (d : DSt) : DSt := { d with nodes := d.nodes ++ [x] }
variable (depth fuel : Nat)
def beginD (d : DSt) : Except Mar.Fault DSt := if fuel ≤ d.nodes.length then .error ⟨15, d.pos⟩ else .ok d
def decW : Wk DSt where
  enter k d := if depth ≤ k then .error ⟨13, d.pos⟩ else .ok d
  num n d := thenE (beginD fuel d) fun d => thenE (numberD b n d) fun p => if n.has p.1 then .ok (putD ⟨1, p.1, [], 0, 0⟩ p.2) else .error ⟨18, d.pos⟩
  text n f d := thenE (beginD fuel d) fun d => thenE (countD b n f d) fun p => thenE (paddedD b p.1 p.2) fun q => .ok (putD ⟨2, 0, q.1, 0, p.2.pos⟩ q.2)
  list n f d := thenE (beginD fuel d) fun d => thenE (countD b n f d) fun p => .ok (p.1, putD ⟨3, 0, [], p.1, 0⟩ p.2)
  arm n v d := thenE (beginD fuel d) fun d => thenE (wordD b d) fun p => match v (ofWord n p.1) with
    | none => .error ⟨18, d.pos⟩
    | some k => .ok (ofWord n p.1, putD ⟨4, ofWord n p.1, [], k, 0⟩ p.2)
end
def decodeD (E : Env) (n : List UInt8) (b : List UInt8) (depth fuel size : Nat) : Except Mar.Fault (List NodeL) :=
  if size < b.length then .error ⟨14, 0⟩ else thenE (nameD (decW b depth fuel) E 64 0 n ⟨0, []⟩) fun d => if d.pos < b.length then .error ⟨20, d.pos⟩ else .ok d.nodes
theorem thenE_ok {α β : Type} {r : Except Mar.Fault α} {f : α → Except Mar.Fault β} {x : β} (h : thenE r f = .ok x) : ∃ a, r = .ok a ∧ f a = .ok x := by
  cases r with
  | error e => cases h
  | ok a => exact ⟨a, rfl, h⟩
abbrev NodeL.said (x : NodeL) : Nat × Int × List UInt8 × Nat := (x.kind, x.n, x.s, x.len)
def seg (a : List UInt8) (p q : Nat) : List UInt8 := (a.drop p).take (q - p)
theorem seg_app (a : List UInt8) {p q r : Nat} (h1 : p ≤ q) (h2 : q ≤ r) : seg a p q ++ seg a q r = seg a p r := by
  unfold seg
  have e : r - p = (q - p) + (r - q) := by omega
  rw [e, List.take_add, List.drop_drop]
  congr 3
  omega
structure Goes (a : List UInt8) (d d' : DSt) (N : List NodeL) : Prop where
  nodes : d'.nodes = d.nodes ++ N
  le : d.pos ≤ d'.pos
  within : d.pos ≤ a.length → d'.pos ≤ a.length
def Pair {α : Type} (a b : List UInt8) (f g : DSt → Except Mar.Fault (α × DSt)) : Prop := ∀ d e d' e' x y, f d = .ok (x, d') → g e = .ok (y, e') → ∃ N M, Goes a d d' N ∧ Goes b e e' M ∧
  ∀ X Y, N.map NodeL.said ++ X = M.map NodeL.said ++ Y → N.map NodeL.said = M.map NodeL.said ∧ x = y ∧ seg a d.pos d'.pos = seg b e.pos e'.pos
def unit1 (f : Den DSt) : DSt → Except Mar.Fault (Unit × DSt) := fun d => thenE (f d) fun d' => .ok ((), d')
abbrev PairD (a b : List UInt8) (f g : Den DSt) : Prop := Pair a b (unit1 f) (unit1 g)
theorem unit1_ok {f : Den DSt} {d d' : DSt} {u : Unit} : unit1 f d = .ok (u, d') ↔ f d = .ok d' := by
  unfold unit1
  cases f d <;> simp [thenE]
theorem Goes.trans {a : List UInt8} {d d1 d2 : DSt} {N M : List NodeL} (h : Goes a d d1 N) (k : Goes a d1 d2 M) : Goes a d d2 (N ++ M) :=
  ⟨by rw [k.nodes, h.nodes]; simp, Nat.le_trans h.le k.le, fun hl => k.within (h.within hl)⟩
theorem pair_then {α β : Type} {a b : List UInt8} {f g : DSt → Except Mar.Fault (α × DSt)} {f2 g2 : α → DSt → Except Mar.Fault (β × DSt)} (h : Pair a b f g) (h2 : ∀ x, Pair a b (f2 x) (g2 x)) (h3 : ∀ x y d e d' e' u v, f2 x d = .ok (u, d') → g2 y e = .ok (v, e') → ∃ N M, Goes a d d' N ∧ Goes b e e' M) :
    Pair a b (fun d => thenE (f d) fun p => f2 p.1 p.2) (fun d => thenE (g d) fun p => g2 p.1 p.2) := by
  intro d e d' e' x y hx hy
  obtain ⟨⟨x1, d1⟩, hf, hf2⟩ := thenE_ok hx
  obtain ⟨⟨y1, e1⟩, hg, hg2⟩ := thenE_ok hy
  obtain ⟨N, M, n1, m1, k1⟩ := h d e d1 e1 x1 y1 hf hg
  obtain ⟨N2, M2, n2, m2⟩ := h3 x1 y1 d1 e1 d' e' x y hf2 hg2
  refine ⟨N ++ N2, M ++ M2, n1.trans n2, m1.trans m2, ?_⟩
  intro X Y hXY
  simp only [List.map_append, List.append_assoc] at hXY
  obtain ⟨q1, q2, q3⟩ := k1 _ _ hXY
  rw [q1] at hXY
  have hXY2 := List.append_cancel_left hXY
  subst q2
  obtain ⟨N3, M3, n3, m3, k3⟩ := h2 x1 d1 e1 d' e' x y hf2 hg2
  have eN : N2 = N3 := List.append_cancel_left (n2.nodes.symm.trans n3.nodes)
  have eM : M2 = M3 := List.append_cancel_left (m2.nodes.symm.trans m3.nodes)
  subst eN
  subst eM
  obtain ⟨r1, r2, r3⟩ := k3 X Y hXY2
  refine ⟨by rw [List.map_append, List.map_append, q1, r1], r2, ?_⟩
  rw [← seg_app a n1.le n2.le, ← seg_app b m1.le m2.le, q3, r3]
def Fwd {α : Type} (a : List UInt8) (f : DSt → Except Mar.Fault (α × DSt)) : Prop := ∀ d d' x, f d = .ok (x, d') → ∃ N, Goes a d d' N
theorem Pair.fwd {α : Type} {a : List UInt8} {f : DSt → Except Mar.Fault (α × DSt)} (h : Pair a a f f) : Fwd a f := fun d d' x hx => by
  obtain ⟨N, M, h1, _⟩ := h d d d' d' x x hx hx
  exact ⟨N, h1⟩
theorem take_ok {a : List UInt8} {k : Nat} {d d' : DSt} {l : List UInt8} (h : takeD a k d = .ok (l, d')) : l = seg a d.pos d'.pos ∧ d'.pos = d.pos + k ∧ d'.nodes = d.nodes ∧ d'.pos ≤ a.length ∧ l.length = k := by
  unfold takeD at h
  split at h
  · cases h
  · cases h
    refine ⟨by unfold seg; simp, rfl, rfl, by simp only; omega, ?_⟩
    simp
    omega
theorem big_inj4 {l m : List UInt8} (h1 : l.length = 4) (h2 : m.length = 4) (h : bigL l = bigL m) : l = m := by
  match l, m, h1, h2 with
  | [a, b, c, d], [a', b', c', d'], _, _ =>
    simp only [bigL, List.foldl_cons, List.foldl_nil] at h
    have := a.toNat_lt; have := b.toNat_lt; have := c.toNat_lt; have := d.toNat_lt
    have := a'.toNat_lt; have := b'.toNat_lt; have := c'.toNat_lt; have := d'.toNat_lt
    have e1 : a = a' := UInt8.toNat_inj.1 (by omega)
    have e2 : b = b' := UInt8.toNat_inj.1 (by omega)
    have e3 : c = c' := UInt8.toNat_inj.1 (by omega)
    have e4 : d = d' := UInt8.toNat_inj.1 (by omega)
    rw [e1, e2, e3, e4]
theorem big_lt4 {l : List UInt8} (h1 : l.length = 4) : bigL l < 4294967296 := by
  match l, h1 with
  | [a, b, c, d], _ =>
    simp only [bigL, List.foldl_cons, List.foldl_nil]
    have := a.toNat_lt; have := b.toNat_lt; have := c.toNat_lt; have := d.toNat_lt
    omega
theorem big_inj8 {l m : List UInt8} (h1 : l.length = 8) (h2 : m.length = 8) (h : bigL l = bigL m) : l = m := by
  match l, m, h1, h2 with
  | [a, b, c, d, e, f, g, i], [a', b', c', d', e', f', g', i'], _, _ =>
    simp only [bigL, List.foldl_cons, List.foldl_nil] at h
    have := a.toNat_lt; have := b.toNat_lt; have := c.toNat_lt; have := d.toNat_lt
    have := a'.toNat_lt; have := b'.toNat_lt; have := c'.toNat_lt; have := d'.toNat_lt
    have := e.toNat_lt; have := f.toNat_lt; have := g.toNat_lt; have := i.toNat_lt
    have := e'.toNat_lt; have := f'.toNat_lt; have := g'.toNat_lt; have := i'.toNat_lt
    have e1 : a = a' := UInt8.toNat_inj.1 (by omega)
    have e2 : b = b' := UInt8.toNat_inj.1 (by omega)
    have e3 : c = c' := UInt8.toNat_inj.1 (by omega)
    have e4 : d = d' := UInt8.toNat_inj.1 (by omega)
    have e5 : e = e' := UInt8.toNat_inj.1 (by omega)
    have e6 : f = f' := UInt8.toNat_inj.1 (by omega)
    have e7 : g = g' := UInt8.toNat_inj.1 (by omega)
    have e8 : i = i' := UInt8.toNat_inj.1 (by omega)
    rw [e1, e2, e3, e4, e5, e6, e7, e8]
theorem big_lt8 {l : List UInt8} (h1 : l.length = 8) : bigL l < 18446744073709551616 := by
  match l, h1 with
  | [a, b, c, d, e, f, g, i], _ =>
    simp only [bigL, List.foldl_cons, List.foldl_nil]
    have := a.toNat_lt; have := b.toNat_lt; have := c.toNat_lt; have := d.toNat_lt
    have := e.toNat_lt; have := f.toNat_lt; have := g.toNat_lt; have := i.toNat_lt
    omega
theorem ofWord_inj {n : NumL} {x y : Nat} (hx : x < 4294967296) (hy : y < 4294967296) (h : ofWord n x = ofWord n y) : x = y := by
  unfold ofWord at h
  split at h
  · split at h <;> split at h <;> omega
  · omega
theorem ofWide_inj {x y : Nat} (hx : x < 18446744073709551616) (hy : y < 18446744073709551616) (h : ofWide x = ofWide y) : x = y := by
  unfold ofWide at h
  split at h <;> split at h <;> omega
theorem word_ok {a : List UInt8} {d d' : DSt} {v : Nat} (h : wordD a d = .ok (v, d')) : v = bigL (seg a d.pos d'.pos) ∧ (seg a d.pos d'.pos).length = 4 ∧ d'.pos = d.pos + 4 ∧ d'.nodes = d.nodes ∧ d'.pos ≤ a.length := by
  obtain ⟨⟨l, d1⟩, h1, h2⟩ := thenE_ok h
  cases h2
  obtain ⟨e1, e2, e3, e4, e5⟩ := take_ok h1
  simp only
  exact ⟨by rw [e1], by rw [← e1]; exact e5, e2, e3, e4⟩
theorem number_ok {a : List UInt8} {n : NumL} {d d' : DSt} {v : Int} (h : numberD a n d = .ok (v, d')) : v = (if n.wide then ofWide (bigL (seg a d.pos d'.pos)) else ofWord n (bigL (seg a d.pos d'.pos))) ∧ (seg a d.pos d'.pos).length = (if n.wide then 8 else 4) ∧ d.pos ≤ d'.pos ∧ d'.nodes = d.nodes ∧ d'.pos ≤ a.length := by
  unfold numberD at h
  cases hw : n.wide with
  | true =>
    rw [hw] at h
    simp only [if_true] at h ⊢
    obtain ⟨⟨l, d1⟩, h1, h2⟩ := thenE_ok h
    cases h2
    obtain ⟨e1, e2, e3, e4, e5⟩ := take_ok h1
    simp only
    exact ⟨by rw [e1], by rw [← e1]; exact e5, by omega, e3, e4⟩
  | false =>
    rw [hw] at h
    simp only [Bool.false_eq_true, if_false] at h ⊢
    obtain ⟨⟨l, d1⟩, h1, h2⟩ := thenE_ok h
    cases h2
    obtain ⟨e1, e2, e3, e4, e5⟩ := word_ok h1
    exact ⟨by rw [e1], e2, by simp only at e3 ⊢; omega, e4, e5⟩
theorem count_ok {a : List UInt8} {n : Int} {f : Bool} {d d' : DSt} {v : Nat} (h : countD a n f d = .ok (v, d')) : d.pos ≤ d'.pos ∧ d'.nodes = d.nodes ∧ (d.pos ≤ a.length → d'.pos ≤ a.length) ∧
    (if f then v = n.toNat ∧ d' = d else v = bigL (seg a d.pos d'.pos) ∧ (seg a d.pos d'.pos).length = 4) := by
  unfold countD at h
  cases f with
  | true =>
    simp only [if_true] at h
    cases h
    exact ⟨Nat.le_refl _, rfl, id, rfl, rfl⟩
  | false =>
    simp only [Bool.false_eq_true, if_false] at h ⊢
    obtain ⟨⟨l, d1⟩, h1, h2⟩ := thenE_ok h
    split at h2
    · cases h2
      obtain ⟨e1, e2, e3, e4, e5⟩ := word_ok h1
      exact ⟨by omega, e4, fun _ => e5, e1, e2⟩
    · cases h2
theorem badPad_none : ∀ (l : List UInt8) (i : Nat), badPad i l = none → l = List.replicate l.length 0 := by
  intro l
  induction l with
  | nil => intro i _; rfl
  | cons c t ih =>
    intro i h
    unfold badPad at h
    split at h
    · rename_i hc
      simp only [List.length_cons, List.replicate_succ, hc]
      rw [← ih _ h]
    · cases h
theorem padded_ok {a : List UInt8} {n : Nat} {d d' : DSt} {l : List UInt8} (h : paddedD a n d = .ok (l, d')) : seg a d.pos d'.pos = l ++ List.replicate (padLen n - n) 0 ∧ l.length = n ∧ d.pos ≤ d'.pos ∧ d'.nodes = d.nodes ∧ d'.pos ≤ a.length := by
  obtain ⟨⟨w, d1⟩, h1, h2⟩ := thenE_ok h
  obtain ⟨e1, e2, e3, e4, e5⟩ := take_ok h1
  simp only at h2
  split at h2
  · cases h2
  · rename_i hb
    cases h2
    have hn : n ≤ padLen n := by unfold padLen; omega
    have hr := badPad_none _ _ hb
    refine ⟨?_, by simp [e5]; omega, by omega, e3, e4⟩
    rw [← e1]
    conv => lhs; rw [← List.take_append_drop n w]
    rw [hr]
    simp [e5]
section
variable {a b : List UInt8} {da fa db fb : Nat}
theorem begin_ok {fuel : Nat} {d d' : DSt} (h : beginD fuel d = .ok d') : d' = d := by
  unfold beginD at h
  split at h
  · cases h
  · cases h; rfl
theorem pair_num (n : NumL) : PairD a b ((decW a da fa).num n) ((decW b db fb).num n) := by
  intro d e d' e' x y hx hy
  rw [unit1_ok] at hx hy
  obtain ⟨d0, hb, hx1⟩ := thenE_ok hx
  obtain ⟨e0, hb', hy1⟩ := thenE_ok hy
  have := begin_ok hb; subst this
  have := begin_ok hb'; subst this
  obtain ⟨⟨v, d1⟩, h1, h2⟩ := thenE_ok hx1
  obtain ⟨⟨v', e1⟩, h1', h2'⟩ := thenE_ok hy1
  simp only at h2 h2'
  split at h2
  · split at h2'
    · cases h2
      cases h2'
      obtain ⟨p1, p2, p3, p4, p5⟩ := number_ok h1
      obtain ⟨q1, q2, q3, q4, q5⟩ := number_ok h1'
      refine ⟨[_], [_], ⟨by simp only [putD]; rw [p4], p3, fun _ => p5⟩, ⟨by simp only [putD]; rw [q4], q3, fun _ => q5⟩, ?_⟩
      intro X Y h
      simp only [List.map_cons, List.map_nil, List.cons_append, List.nil_append, List.cons.injEq, Prod.mk.injEq] at h ⊢
      obtain ⟨⟨_, hv, _⟩, _⟩ := h
      refine ⟨by simp [hv], trivial, ?_⟩
      rw [p1, q1] at hv
      simp only [putD]
      cases hw : n.wide with
      | true =>
        simp only [hw, if_true] at hv p2 q2
        exact big_inj8 p2 q2 (ofWide_inj (big_lt8 p2) (big_lt8 q2) hv)
      | false =>
        simp only [hw, Bool.false_eq_true, if_false] at hv p2 q2
        exact big_inj4 p2 q2 (ofWord_inj (big_lt4 p2) (big_lt4 q2) hv)
    · cases h2'
  · cases h2
theorem count_same {n : Int} {f : Bool} {d d' e e' : DSt} {v : Nat} (h : countD a n f d = .ok (v, d')) (k : countD b n f e = .ok (v, e')) : seg a d.pos d'.pos = seg b e.pos e'.pos := by
  obtain ⟨_, _, _, h4⟩ := count_ok h
  obtain ⟨_, _, _, k4⟩ := count_ok k
  cases f with
  | true =>
    simp only [if_true] at h4 k4
    rw [h4.2, k4.2]
    simp [seg]
  | false =>
    simp only [Bool.false_eq_true, if_false] at h4 k4
    exact big_inj4 h4.2 k4.2 (h4.1.symm.trans k4.1)
theorem pair_text (n : Int) (f : Bool) : PairD a b ((decW a da fa).text n f) ((decW b db fb).text n f) := by
  intro d e d' e' x y hx hy
  rw [unit1_ok] at hx hy
  obtain ⟨d0, hb, hx1⟩ := thenE_ok hx
  obtain ⟨e0, hb', hy1⟩ := thenE_ok hy
  have := begin_ok hb; subst this
  have := begin_ok hb'; subst this
  obtain ⟨⟨v, d1⟩, h1, h2⟩ := thenE_ok hx1
  obtain ⟨⟨v', e1⟩, h1', h2'⟩ := thenE_ok hy1
  obtain ⟨⟨l, d2⟩, h3, h4⟩ := thenE_ok h2
  obtain ⟨⟨l', e2⟩, h3', h4'⟩ := thenE_ok h2'
  cases h4
  cases h4'
  obtain ⟨c1, c2, c3, c4⟩ := count_ok h1
  obtain ⟨c1', c2', c3', c4'⟩ := count_ok h1'
  obtain ⟨p1, p2, p3, p4, p5⟩ := padded_ok h3
  obtain ⟨p1', p2', p3', p4', p5'⟩ := padded_ok h3'
  refine ⟨[_], [_], ⟨by simp only [putD]; rw [p4, c2], Nat.le_trans c1 p3, fun _ => p5⟩, ⟨by simp only [putD]; rw [p4', c2'], Nat.le_trans c1' p3', fun _ => p5'⟩, ?_⟩
  intro X Y h
  simp only [List.map_cons, List.map_nil, List.cons_append, List.nil_append, List.cons.injEq, Prod.mk.injEq] at h ⊢
  obtain ⟨⟨_, _, hl, _⟩, _⟩ := h
  refine ⟨by simp [hl], trivial, ?_⟩
  have hv : v = v' := by
    have e1 : l.length = v := p2
    have e2 : l'.length = v' := p2'
    rw [← e1, ← e2, hl]
  subst hv
  simp only [putD]
  rw [← seg_app a c1 p3, ← seg_app b c1' p3', count_same h1 h1', p1, p1', hl]
theorem pair_list (n : Int) (f : Bool) : Pair a b ((decW a da fa).list n f) ((decW b db fb).list n f) := by
  intro d e d' e' x y hx hy
  obtain ⟨d0, hb, hx1⟩ := thenE_ok hx
  obtain ⟨e0, hb', hy1⟩ := thenE_ok hy
  have := begin_ok hb; subst this
  have := begin_ok hb'; subst this
  obtain ⟨⟨v, d1⟩, h1, h2⟩ := thenE_ok hx1
  obtain ⟨⟨v', e1⟩, h1', h2'⟩ := thenE_ok hy1
  cases h2
  cases h2'
  obtain ⟨c1, c2, c3, c4⟩ := count_ok h1
  obtain ⟨c1', c2', c3', c4'⟩ := count_ok h1'
  refine ⟨[_], [_], ⟨by simp only [putD]; rw [c2], c1, c3⟩, ⟨by simp only [putD]; rw [c2'], c1', c3'⟩, ?_⟩
  intro X Y h
  simp only [List.map_cons, List.map_nil, List.cons_append, List.nil_append, List.cons.injEq, Prod.mk.injEq] at h ⊢
  obtain ⟨⟨_, _, _, hv⟩, _⟩ := h
  subst hv
  refine ⟨by simp, rfl, ?_⟩
  simp only [putD]
  exact count_same h1 h1'
theorem pair_arm (n : NumL) (v : Int → Option Nat) : Pair a b ((decW a da fa).arm n v) ((decW b db fb).arm n v) := by
  intro d e d' e' x y hx hy
  obtain ⟨d0, hb, hx1⟩ := thenE_ok hx
  obtain ⟨e0, hb', hy1⟩ := thenE_ok hy
  have := begin_ok hb; subst this
  have := begin_ok hb'; subst this
  obtain ⟨⟨w, d1⟩, h1, h2⟩ := thenE_ok hx1
  obtain ⟨⟨w', e1⟩, h1', h2'⟩ := thenE_ok hy1
  simp only at h2 h2'
  split at h2
  · cases h2
  · split at h2'
    · cases h2'
    · cases h2
      cases h2'
      obtain ⟨p1, p2, p3, p4, p5⟩ := word_ok h1
      obtain ⟨q1, q2, q3, q4, q5⟩ := word_ok h1'
      refine ⟨[_], [_], ⟨by simp only [putD]; rw [p4], by simp only [putD]; omega, fun _ => p5⟩, ⟨by simp only [putD]; rw [q4], by simp only [putD]; omega, fun _ => q5⟩, ?_⟩
      intro X Y h
      simp only [List.map_cons, List.map_nil, List.cons_append, List.nil_append, List.cons.injEq, Prod.mk.injEq] at h ⊢
      obtain ⟨⟨_, hv, _, hk⟩, _⟩ := h
      refine ⟨by simp [hv, hk], hv, ?_⟩
      simp only [putD]
      exact big_inj4 p2 q2 (by rw [← p1, ← q1]; exact ofWord_inj (by rw [p1]; exact big_lt4 p2) (by rw [q1]; exact big_lt4 q2) hv)
end
structure Both {α : Type} (a b : List UInt8) (f g : DSt → Except Mar.Fault (α × DSt)) : Prop where
  ab : Pair a b f g
  fa : Fwd a f
  fb : Fwd b g
theorem Both.then {α β : Type} {a b : List UInt8} {f g : DSt → Except Mar.Fault (α × DSt)} {f2 g2 : α → DSt → Except Mar.Fault (β × DSt)} (h : Both a b f g) (h2 : ∀ x, Both a b (f2 x) (g2 x)) :
    Both a b (fun d => thenE (f d) fun p => f2 p.1 p.2) (fun d => thenE (g d) fun p => g2 p.1 p.2) := by
  refine ⟨pair_then h.ab (fun x => (h2 x).ab) ?_, ?_, ?_⟩
  · intro x y d e d' e' u v hx hy
    obtain ⟨N, hN⟩ := (h2 x).fa _ _ _ hx
    obtain ⟨M, hM⟩ := (h2 y).fb _ _ _ hy
    exact ⟨N, M, hN, hM⟩
  · intro d d' x hx
    obtain ⟨⟨x1, d1⟩, h1, h3⟩ := thenE_ok hx
    obtain ⟨N, hN⟩ := h.fa _ _ _ h1
    obtain ⟨M, hM⟩ := (h2 x1).fa _ _ _ h3
    exact ⟨N ++ M, hN.trans hM⟩
  · intro d d' x hx
    obtain ⟨⟨x1, d1⟩, h1, h3⟩ := thenE_ok hx
    obtain ⟨N, hN⟩ := h.fb _ _ _ h1
    obtain ⟨M, hM⟩ := (h2 x1).fb _ _ _ h3
    exact ⟨N ++ M, hN.trans hM⟩
theorem both_of {α : Type} {a b : List UInt8} {f g : DSt → Except Mar.Fault (α × DSt)} (h : Pair a b f g) (ha : Pair a a f f) (hb : Pair b b g g) : Both a b f g := ⟨h, ha.fwd, hb.fwd⟩
theorem both_stay {a b : List UInt8} : Both a b (unit1 fun d => .ok d) (unit1 fun d => .ok d) := by
  refine ⟨?_, ?_, ?_⟩
  · intro d e d' e' x y hx hy
    rw [unit1_ok] at hx hy
    cases hx
    cases hy
    exact ⟨[], [], ⟨by simp, Nat.le_refl _, id⟩, ⟨by simp, Nat.le_refl _, id⟩, fun X Y _ => ⟨rfl, rfl, by simp [seg]⟩⟩
  · intro d d' x hx
    rw [unit1_ok] at hx
    cases hx
    exact ⟨[], by simp, Nat.le_refl _, id⟩
  · intro d d' x hx
    rw [unit1_ok] at hx
    cases hx
    exact ⟨[], by simp, Nat.le_refl _, id⟩
theorem both_fail {a b : List UInt8} (x y : DSt → Mar.Fault) : Both a b (unit1 fun d => .error (x d)) (unit1 fun d => .error (y d)) := by
  refine ⟨?_, ?_, ?_⟩
  · intro d e d' e' u v hx hy
    rw [unit1_ok] at hx
    cases hx
  · intro d d' u hx
    rw [unit1_ok] at hx
    cases hx
  · intro d d' u hx
    rw [unit1_ok] at hx
    cases hx
theorem unit1_then {α : Type} (f : DSt → Except Mar.Fault (α × DSt)) (f2 : α → Den DSt) : unit1 (fun d => thenE (f d) fun p => f2 p.1 p.2) = fun d => thenE (f d) fun p => unit1 (f2 p.1) p.2 := by
  funext d
  simp only [unit1]
  cases f d <;> rfl
theorem unit1_seq (f f2 : Den DSt) : unit1 (fun d => thenE (f d) f2) = fun d => thenE (unit1 f d) fun p => unit1 f2 p.2 := by
  funext d
  simp only [unit1]
  cases f d <;> rfl
section
variable {a b : List UInt8} {da fa db fb : Nat} {n1 n2 : List UInt8 → Den DSt}
theorem both_rep {f g : Den DSt} (h : Both a b (unit1 f) (unit1 g)) : ∀ k, Both a b (unit1 (rep f k)) (unit1 (rep g k)) := by
  intro k
  induction k with
  | zero => exact both_stay
  | succ k ih =>
    have e1 : unit1 (rep f (k + 1)) = fun d => thenE (unit1 f d) fun p => unit1 (rep f k) p.2 := unit1_seq f (rep f k)
    have e2 : unit1 (rep g (k + 1)) = fun d => thenE (unit1 g d) fun p => unit1 (rep g k) p.2 := unit1_seq g (rep g k)
    rw [e1, e2]
    exact h.then fun _ => ih
theorem both_ty (hn : ∀ n, Both a b (unit1 (n1 n)) (unit1 (n2 n))) (t : Ty) : Both a b (unit1 (tyD (decW a da fa) n1 t)) (unit1 (tyD (decW b db fb) n2 t)) := by
  induction t with
  | named n p => exact hn n
  | plain k => exact both_of (pair_num _) (pair_num _) (pair_num _)
  | opaq n f => exact both_of (pair_text _ _) (pair_text _ _) (pair_text _ _)
  | str n f => exact both_of (pair_text _ _) (pair_text _ _) (pair_text _ _)
  | void => exact both_stay
  | arr o n f ih =>
    have e1 : unit1 (tyD (decW a da fa) n1 (.arr o n f)) = fun d => thenE ((decW a da fa).list n f d) fun p => unit1 (rep (tyD (decW a da fa) n1 o) p.1) p.2 := unit1_then _ fun k => rep (tyD (decW a da fa) n1 o) k
    have e2 : unit1 (tyD (decW b db fb) n2 (.arr o n f)) = fun d => thenE ((decW b db fb).list n f d) fun p => unit1 (rep (tyD (decW b db fb) n2 o) p.1) p.2 := unit1_then _ fun k => rep (tyD (decW b db fb) n2 o) k
    rw [e1, e2]
    exact (both_of (pair_list _ _) (pair_list _ _) (pair_list _ _)).then fun k => both_rep ih k
  | opt o ih =>
    have e1 : unit1 (tyD (decW a da fa) n1 (.opt o)) = fun d => thenE ((decW a da fa).arm (numberL 4) boolVals d) fun p => unit1 (if p.1 = 1 then tyD (decW a da fa) n1 o else fun d => .ok d) p.2 := by
      refine (Eq.trans ?_ (unit1_then _ fun k => if k = 1 then tyD (decW a da fa) n1 o else fun d => .ok d))
      congr 1
      funext d
      simp only [tyD]
      congr 1
      funext p
      split <;> rfl
    have e2 : unit1 (tyD (decW b db fb) n2 (.opt o)) = fun d => thenE ((decW b db fb).arm (numberL 4) boolVals d) fun p => unit1 (if p.1 = 1 then tyD (decW b db fb) n2 o else fun d => .ok d) p.2 := by
      refine (Eq.trans ?_ (unit1_then _ fun k => if k = 1 then tyD (decW b db fb) n2 o else fun d => .ok d))
      congr 1
      funext d
      simp only [tyD]
      congr 1
      funext p
      split <;> rfl
    rw [e1, e2]
    refine Both.then (f2 := fun k => unit1 (if k = 1 then tyD (decW a da fa) n1 o else fun d => .ok d)) (g2 := fun k => unit1 (if k = 1 then tyD (decW b db fb) n2 o else fun d => .ok d)) (both_of (pair_arm _ _) (pair_arm _ _) (pair_arm _ _)) fun k => ?_
    by_cases hk : k = 1
    · simp only [hk, if_true]
      exact ih
    · simp only [hk, if_false]
      exact both_stay
theorem both_all (hn : ∀ n, Both a b (unit1 (n1 n)) (unit1 (n2 n))) : ∀ ts : List Ty, Both a b (unit1 (allD (decW a da fa) n1 ts)) (unit1 (allD (decW b db fb) n2 ts)) := by
  intro ts
  induction ts with
  | nil => exact both_stay
  | cons t ts ih =>
    have e1 : unit1 (allD (decW a da fa) n1 (t :: ts)) = fun d => thenE (unit1 (tyD (decW a da fa) n1 t) d) fun p => unit1 (allD (decW a da fa) n1 ts) p.2 := unit1_seq _ _
    have e2 : unit1 (allD (decW b db fb) n2 (t :: ts)) = fun d => thenE (unit1 (tyD (decW b db fb) n2 t) d) fun p => unit1 (allD (decW b db fb) n2 ts) p.2 := unit1_seq _ _
    rw [e1, e2]
    exact (both_ty hn t).then fun _ => ih
theorem both_def {E : Env} (hn : ∀ n, Both a b (unit1 (n1 n)) (unit1 (n2 n))) (df : DefL) : Both a b (unit1 (defD (decW a da fa) E n1 df)) (unit1 (defD (decW b db fb) E n2 df)) := by
  cases df with
  | const t p v => exact both_fail (fun _ => ⟨0, 0⟩) (fun _ => ⟨0, 0⟩)
  | prog t p v n => exact both_fail (fun _ => ⟨0, 0⟩) (fun _ => ⟨0, 0⟩)
  | typedef t => exact both_ty hn t.ty
  | enum t p ms => exact both_of (pair_num _) (pair_num _) (pair_num _)
  | struct t p ms =>
    have e1 : unit1 (defD (decW a da fa) E n1 (.struct t p ms)) = fun d => thenE ((decW a da fa).list ms.length true d) fun q => unit1 (allD (decW a da fa) n1 (ms.map (·.ty))) q.2 := unit1_then _ fun _ => allD (decW a da fa) n1 (ms.map DeclL.ty)
    have e2 : unit1 (defD (decW b db fb) E n2 (.struct t p ms)) = fun d => thenE ((decW b db fb).list ms.length true d) fun q => unit1 (allD (decW b db fb) n2 (ms.map (·.ty))) q.2 := unit1_then _ fun _ => allD (decW b db fb) n2 (ms.map DeclL.ty)
    rw [e1, e2]
    exact (both_of (pair_list _ _) (pair_list _ _) (pair_list _ _)).then fun _ => both_all hn _
  | union t p s arms =>
    have e1 : unit1 (defD (decW a da fa) E n1 (.union t p s arms)) = fun d => thenE ((decW a da fa).arm (selD E s.ty) (armVals E s.ty arms) d) fun q => unit1 (match armOf arms q.1 with | some t => tyD (decW a da fa) n1 t | none => fun _ => .error ⟨0, 0⟩) q.2 := by
      refine (Eq.trans ?_ (unit1_then _ fun k => match armOf arms k with | some t => tyD (decW a da fa) n1 t | none => fun _ => .error ⟨0, 0⟩))
      congr 1
      funext d
      simp only [defD]
      congr 1
      funext q
      cases armOf arms q.1 <;> rfl
    have e2 : unit1 (defD (decW b db fb) E n2 (.union t p s arms)) = fun d => thenE ((decW b db fb).arm (selD E s.ty) (armVals E s.ty arms) d) fun q => unit1 (match armOf arms q.1 with | some t => tyD (decW b db fb) n2 t | none => fun _ => .error ⟨0, 0⟩) q.2 := by
      refine (Eq.trans ?_ (unit1_then _ fun k => match armOf arms k with | some t => tyD (decW b db fb) n2 t | none => fun _ => .error ⟨0, 0⟩))
      congr 1
      funext d
      simp only [defD]
      congr 1
      funext q
      cases armOf arms q.1 <;> rfl
    rw [e1, e2]
    refine Both.then (f2 := fun k => unit1 (match armOf arms k with | some t => tyD (decW a da fa) n1 t | none => fun _ => .error ⟨0, 0⟩)) (g2 := fun k => unit1 (match armOf arms k with | some t => tyD (decW b db fb) n2 t | none => fun _ => .error ⟨0, 0⟩)) (both_of (pair_arm _ _) (pair_arm _ _) (pair_arm _ _)) fun k => ?_
    cases armOf arms k with
    | none => exact both_fail (fun _ => ⟨0, 0⟩) (fun _ => ⟨0, 0⟩)
    | some t => exact both_ty hn t
end
theorem both_enter {a b : List UInt8} {da fa db fb k k' : Nat} : Both a b (unit1 ((decW a da fa).enter k)) (unit1 ((decW b db fb).enter k')) := by
  have st : ∀ (c : List UInt8) (x y z : Nat) (d d' : DSt) (u : Unit), unit1 ((decW c x y).enter z) d = .ok (u, d') → d' = d := by
    intro c x y z d d' u h
    rw [unit1_ok] at h
    simp only [decW] at h
    split at h
    · cases h
    · cases h; rfl
  refine ⟨?_, ?_, ?_⟩
  · intro d e d' e' x y hx hy
    have := st _ _ _ _ _ _ _ hx; subst this
    have := st _ _ _ _ _ _ _ hy; subst this
    exact ⟨[], [], ⟨by simp, Nat.le_refl _, id⟩, ⟨by simp, Nat.le_refl _, id⟩, fun X Y _ => ⟨rfl, rfl, by simp [seg]⟩⟩
  · intro d d' x hx
    have := st _ _ _ _ _ _ _ hx; subst this
    exact ⟨[], by simp, Nat.le_refl _, id⟩
  · intro d d' x hx
    have := st _ _ _ _ _ _ _ hx; subst this
    exact ⟨[], by simp, Nat.le_refl _, id⟩
theorem both_name {a b : List UInt8} {da fa db fb : Nat} {E : Env} : ∀ (g k : Nat) (n : List UInt8), Both a b (unit1 (nameD (decW a da fa) E g k n)) (unit1 (nameD (decW b db fb) E g k n)) := by
  intro g
  induction g with
  | zero =>
    intro k n
    have e1 : unit1 (nameD (decW a da fa) E 0 k n) = fun d => thenE (unit1 ((decW a da fa).enter k) d) fun p => unit1 (fun _ => .error ⟨0, 0⟩) p.2 := unit1_seq _ _
    have e2 : unit1 (nameD (decW b db fb) E 0 k n) = fun d => thenE (unit1 ((decW b db fb).enter k) d) fun p => unit1 (fun _ => .error ⟨0, 0⟩) p.2 := unit1_seq _ _
    rw [e1, e2]
    exact both_enter.then fun _ => both_fail (fun _ => ⟨0, 0⟩) (fun _ => ⟨0, 0⟩)
  | succ g ih =>
    intro k n
    have e1 : unit1 (nameD (decW a da fa) E (g + 1) k n) = fun d => thenE (unit1 ((decW a da fa).enter k) d) fun p => unit1 (match E n with | some df => defD (decW a da fa) E (nameD (decW a da fa) E g (k + 1)) df | none => fun _ => .error ⟨0, 0⟩) p.2 := by
      refine (Eq.trans ?_ (unit1_seq _ _))
      congr 1
      funext d
      simp only [nameD]
      congr 1
      funext q
      cases E n <;> rfl
    have e2 : unit1 (nameD (decW b db fb) E (g + 1) k n) = fun d => thenE (unit1 ((decW b db fb).enter k) d) fun p => unit1 (match E n with | some df => defD (decW b db fb) E (nameD (decW b db fb) E g (k + 1)) df | none => fun _ => .error ⟨0, 0⟩) p.2 := by
      refine (Eq.trans ?_ (unit1_seq _ _))
      congr 1
      funext d
      simp only [nameD]
      congr 1
      funext q
      cases E n <;> rfl
    rw [e1, e2]
    refine Both.then (f2 := fun _ => unit1 (match E n with | some df => defD (decW a da fa) E (nameD (decW a da fa) E g (k + 1)) df | none => fun _ => .error ⟨0, 0⟩)) (g2 := fun _ => unit1 (match E n with | some df => defD (decW b db fb) E (nameD (decW b db fb) E g (k + 1)) df | none => fun _ => .error ⟨0, 0⟩)) both_enter fun _ => ?_
    cases E n with
    | none => exact both_fail (fun _ => ⟨0, 0⟩) (fun _ => ⟨0, 0⟩)
    | some df => exact both_def (fun m => ih (k + 1) m) df
theorem decode_apart {E : Env} {n a b : List UInt8} {da fa sa db fb sb : Nat} {u v : List NodeL} (ha : decodeD E n a da fa sa = .ok u) (hb : decodeD E n b db fb sb = .ok v) (h : u.map NodeL.said = v.map NodeL.said) : a = b := by
  unfold decodeD at ha hb
  split at ha
  · cases ha
  split at hb
  · cases hb
  obtain ⟨d, h1, h2⟩ := thenE_ok ha
  obtain ⟨e, h3, h4⟩ := thenE_ok hb
  split at h2
  · cases h2
  split at h4
  · cases h4
  rename_i hd he
  cases h2
  cases h4
  obtain ⟨N, M, g1, g2, g3⟩ := (both_name (a := a) (b := b) (da := da) (fa := fa) (db := db) (fb := fb) (E := E) 64 0 n).ab ⟨0, []⟩ ⟨0, []⟩ d e () () (unit1_ok.2 h1) (unit1_ok.2 h3)
  have eN := g1.nodes
  have eM := g2.nodes
  simp only [List.nil_append] at eN eM
  rw [eN, eM] at h
  obtain ⟨_, _, hs⟩ := g3 [] [] (by simpa using h)
  have l1 := g1.within (Nat.zero_le _)
  have l2 := g2.within (Nat.zero_le _)
  have p1 : d.pos = a.length := by omega
  have p2 : e.pos = b.length := by omega
  rw [p1, p2] at hs
  simpa [seg] using hs
end Go.Proofs.YtmbcibgknckenaaGreatDoor
set_option linter.all false
set_option maxRecDepth 100000
set_option maxHeartbeats 4000000
namespace Go.Proofs.YtmbcibgknckenaaGreatDoor
theorem decode_parts {E : Env} {n b : List UInt8} {dep fuel size : Nat} {u : List NodeL} (h : decodeD E n b dep fuel size = .ok u) : b.length ≤ size ∧ nameD (decW b dep fuel) E 64 0 n ⟨0, []⟩ = .ok ⟨b.length, u⟩ := by
  unfold decodeD at h
  split at h
  · cases h
  obtain ⟨d, h1, h2⟩ := thenE_ok h
  split at h2
  · cases h2
  rename_i hs hd
  cases h2
  obtain ⟨N, hN⟩ := (both_name (a := b) (b := b) (da := dep) (fa := fuel) (db := dep) (fb := fuel) (E := E) 64 0 n).fa ⟨0, []⟩ d () (unit1_ok.2 h1)
  have := hN.within (Nat.zero_le _)
  refine ⟨by omega, ?_⟩
  rw [h1]
  have e : d.pos = b.length := by omega
  cases d
  simp only at e
  subst e
  rfl
def NoVoid (E : Env) : Prop := ∀ n t, E n = some (.typedef t) → t.ty ≠ .void
def Adds (f : Den DSt) : Prop := ∀ d d', f d = .ok d' → d.nodes.length < d'.nodes.length
section
variable {b : List UInt8} {dep fuel : Nat}
theorem num_adds (n : NumL) : Adds ((decW b dep fuel).num n) := by
  intro d d' h
  obtain ⟨d1, e1, h'⟩ := thenE_ok h
  clear h
  have := begin_ok e1; subst this
  obtain ⟨p, e2, h⟩ := thenE_ok h'
  split at h
  · cases h
    obtain ⟨_, _, _, p4, _⟩ := number_ok (show numberD b n d1 = .ok (p.1, p.2) from e2)
    simp [putD, p4]
  · cases h
theorem text_adds (n : Int) (f : Bool) : Adds ((decW b dep fuel).text n f) := by
  intro d d' h
  obtain ⟨d1, e1, h'⟩ := thenE_ok h
  clear h
  have := begin_ok e1; subst this
  obtain ⟨p, e2, h⟩ := thenE_ok h'
  obtain ⟨q, e3, h⟩ := thenE_ok h
  cases h
  obtain ⟨_, c2, _, _⟩ := count_ok (show countD b n f d1 = .ok (p.1, p.2) from e2)
  obtain ⟨_, _, _, p4, _⟩ := padded_ok (show paddedD b p.1 p.2 = .ok (q.1, q.2) from e3)
  simp [putD, p4, c2]
theorem list_adds {n : Int} {f : Bool} {d : DSt} {p : Nat × DSt} (h : (decW b dep fuel).list n f d = .ok p) : d.nodes.length < p.2.nodes.length := by
  obtain ⟨d1, e1, h'⟩ := thenE_ok h
  clear h
  have := begin_ok e1; subst this
  obtain ⟨q, e2, h⟩ := thenE_ok h'
  cases h
  obtain ⟨_, c2, _, _⟩ := count_ok (show countD b n f d1 = .ok (q.1, q.2) from e2)
  simp [putD, c2]
theorem arm_adds {n : NumL} {v : Int → Option Nat} {d : DSt} {p : Int × DSt} (h : (decW b dep fuel).arm n v d = .ok p) : d.nodes.length < p.2.nodes.length := by
  obtain ⟨d1, e1, h'⟩ := thenE_ok h
  clear h
  have := begin_ok e1; subst this
  obtain ⟨q, e2, h⟩ := thenE_ok h'
  split at h
  · cases h
  · cases h
    obtain ⟨_, _, _, p4, _⟩ := word_ok (show wordD b d1 = .ok (q.1, q.2) from e2)
    simp [putD, p4]
theorem fwd_le {f : Den DSt} (h : Fwd b (unit1 f)) {d d' : DSt} (hd : f d = .ok d') : d.nodes.length ≤ d'.nodes.length := by
  obtain ⟨N, hN⟩ := h d d' () (unit1_ok.2 hd)
  rw [hN.nodes]
  simp
variable {nm : List UInt8 → Den DSt}
theorem ty_adds (hn : ∀ n, Adds (nm n)) (hb : ∀ n, Both b b (unit1 (nm n)) (unit1 (nm n))) (t : Ty) (ht : t ≠ .void) : Adds (tyD (decW b dep fuel) nm t) := by
  cases t with
  | named n p => exact hn n
  | plain k => exact num_adds _
  | opaq n f => exact text_adds _ _
  | str n f => exact text_adds _ _
  | void => exact absurd rfl ht
  | arr o n f =>
    intro d d' h
    obtain ⟨p, e1, h⟩ := thenE_ok h
    exact Nat.lt_of_lt_of_le (list_adds e1) (fwd_le (both_rep (both_ty (da := dep) (fa := fuel) (db := dep) (fb := fuel) hb o) p.1).fa h)
  | opt o =>
    intro d d' h
    obtain ⟨p, e1, h⟩ := thenE_ok h
    refine Nat.lt_of_lt_of_le (arm_adds e1) ?_
    split at h
    · exact fwd_le (both_ty (da := dep) (fa := fuel) (db := dep) (fb := fuel) hb o).fa h
    · cases h; exact Nat.le_refl _
theorem def_adds {E : Env} (hn : ∀ n, Adds (nm n)) (hb : ∀ n, Both b b (unit1 (nm n)) (unit1 (nm n))) (df : DefL) (ht : ∀ t, df = .typedef t → t.ty ≠ .void) : Adds (defD (decW b dep fuel) E nm df) := by
  cases df with
  | const t p v => intro d x hx; cases hx
  | prog t p v n => intro d x hx; cases hx
  | typedef t => exact ty_adds hn hb t.ty (ht t rfl)
  | enum t p ms => exact num_adds _
  | struct t p ms =>
    intro d d' h
    obtain ⟨p, e1, h⟩ := thenE_ok h
    exact Nat.lt_of_lt_of_le (list_adds e1) (fwd_le (both_all (da := dep) (fa := fuel) (db := dep) (fb := fuel) hb _).fa h)
  | union t p s arms =>
    intro d d' h
    obtain ⟨p, e1, h⟩ := thenE_ok h
    refine Nat.lt_of_lt_of_le (arm_adds e1) ?_
    split at h
    · exact fwd_le (both_ty (da := dep) (fa := fuel) (db := dep) (fb := fuel) hb _).fa h
    · cases h
theorem name_adds {E : Env} (hE : NoVoid E) : ∀ (g k : Nat) (n : List UInt8), Adds (nameD (decW b dep fuel) E g k n) := by
  intro g
  induction g with
  | zero =>
    intro k n d x hx
    obtain ⟨_, _, h2⟩ := thenE_ok hx
    cases h2
  | succ g ih =>
    intro k n d d' h
    obtain ⟨d1, e1, h⟩ := thenE_ok h
    have e : d1 = d := by
      simp only [decW] at e1
      split at e1
      · cases e1
      · cases e1; rfl
    cases hn : E n with
    | none => rw [hn] at h; cases h
    | some df =>
      rw [hn] at h
      rw [← e]
      exact def_adds (fun m => ih (k + 1) m) (fun m => both_name g (k + 1) m) df (fun t ht => hE n t (by rw [hn, ht])) _ _ h
end
theorem decode_some {E : Env} (hE : NoVoid E) {n b : List UInt8} {dep fuel size : Nat} {u : List NodeL} (h : decodeD E n b dep fuel size = .ok u) : 0 < u.length := by
  obtain ⟨_, hn⟩ := decode_parts h
  have := name_adds hE 64 0 n _ _ hn
  simpa using this
structure WInv {τ : Type} (W : Wk τ) (P : τ → Prop) : Prop where
  enter : ∀ k d d', P d → W.enter k d = .ok d' → P d'
  num : ∀ n d d', P d → W.num n d = .ok d' → P d'
  text : ∀ n f d d', P d → W.text n f d = .ok d' → P d'
  list : ∀ n f d p, P d → W.list n f d = .ok p → P p.2
  arm : ∀ n v d p, P d → W.arm n v d = .ok p → P p.2
section
variable {τ : Type} {W : Wk τ} {P : τ → Prop} {nm : List UInt8 → Den τ}
theorem inv_rep {f : Den τ} (hf : ∀ d d', P d → f d = .ok d' → P d') : ∀ k d d', P d → rep f k d = .ok d' → P d' := by
  intro k
  induction k with
  | zero => intro d d' hd hx; cases hx; exact hd
  | succ k ih =>
    intro d d' hd hx
    obtain ⟨d1, h1, h2⟩ := thenE_ok hx
    exact ih _ _ (hf _ _ hd h1) h2
theorem inv_ty (h : WInv W P) (hn : ∀ n d d', P d → nm n d = .ok d' → P d') (t : Ty) : ∀ d d', P d → tyD W nm t d = .ok d' → P d' := by
  induction t with
  | named n p => exact hn n
  | plain k => exact h.num _
  | opaq n f => exact h.text _ _
  | str n f => exact h.text _ _
  | void => intro d d' hd hx; cases hx; exact hd
  | arr o n f ih =>
    intro d d' hd hx
    obtain ⟨p, h1, h2⟩ := thenE_ok hx
    exact inv_rep ih _ _ _ (h.list _ _ _ _ hd h1) h2
  | opt o ih =>
    intro d d' hd hx
    obtain ⟨p, h1, h2⟩ := thenE_ok hx
    have hp := h.arm _ _ _ _ hd h1
    split at h2
    · exact ih _ _ hp h2
    · cases h2; exact hp
theorem inv_all (h : WInv W P) (hn : ∀ n d d', P d → nm n d = .ok d' → P d') : ∀ (ts : List Ty) d d', P d → allD W nm ts d = .ok d' → P d' := by
  intro ts
  induction ts with
  | nil => intro d d' hd hx; cases hx; exact hd
  | cons t ts ih =>
    intro d d' hd hx
    obtain ⟨p, h1, h2⟩ := thenE_ok hx
    exact ih _ _ (inv_ty h hn t _ _ hd h1) h2
theorem inv_def (h : WInv W P) {E : Env} (hn : ∀ n d d', P d → nm n d = .ok d' → P d') (df : DefL) : ∀ d d', P d → defD W E nm df d = .ok d' → P d' := by
  cases df with
  | const t p v => intro d x _ hx; cases hx
  | prog t p v n => intro d x _ hx; cases hx
  | typedef t => exact inv_ty h hn t.ty
  | enum t p ms => exact h.num _
  | struct t p ms =>
    intro d d' hd hx
    obtain ⟨p, h1, h2⟩ := thenE_ok hx
    exact inv_all h hn _ _ _ (h.list _ _ _ _ hd h1) h2
  | union t p s arms =>
    intro d d' hd hx
    obtain ⟨p, h1, h2⟩ := thenE_ok hx
    have hp := h.arm _ _ _ _ hd h1
    split at h2
    · exact inv_ty h hn _ _ _ hp h2
    · cases h2
theorem inv_name (h : WInv W P) {E : Env} : ∀ (g k : Nat) (n : List UInt8) d d', P d → nameD W E g k n d = .ok d' → P d' := by
  intro g
  induction g with
  | zero =>
    intro k n d x _ hx
    obtain ⟨_, _, h2⟩ := thenE_ok hx
    cases h2
  | succ g ih =>
    intro k n d d' hd hx
    obtain ⟨d1, h1, h2⟩ := thenE_ok hx
    have hp := h.enter _ _ _ hd h1
    split at h2
    · exact inv_def h (fun m => ih (k + 1) m) _ _ _ hp h2
    · cases h2
end
theorem begin_lt {fuel : Nat} {d d' : DSt} (h : beginD fuel d = .ok d') : d' = d ∧ d.nodes.length < fuel := by
  unfold beginD at h
  split at h
  · cases h
  · cases h; exact ⟨rfl, by omega⟩
theorem decW_fuel (b : List UInt8) (dep fuel : Nat) : WInv (decW b dep fuel) fun d => d.nodes.length ≤ fuel where
  enter k d d' hd h := by
    simp only [decW] at h
    split at h
    · cases h
    · cases h; exact hd
  num n d d' hd h := by
    obtain ⟨d1, e1, h'⟩ := thenE_ok h
    clear h
    obtain ⟨rfl, hl⟩ := begin_lt e1
    obtain ⟨p, e2, h⟩ := thenE_ok h'
    split at h
    · cases h
      obtain ⟨_, _, _, p4, _⟩ := number_ok (show numberD b n d1 = .ok (p.1, p.2) from e2)
      simp [putD, p4]; omega
    · cases h
  text n f d d' hd h := by
    obtain ⟨d1, e1, h'⟩ := thenE_ok h
    clear h
    obtain ⟨rfl, hl⟩ := begin_lt e1
    obtain ⟨p, e2, h⟩ := thenE_ok h'
    obtain ⟨q, e3, h⟩ := thenE_ok h
    cases h
    obtain ⟨_, c2, _, _⟩ := count_ok (show countD b n f d1 = .ok (p.1, p.2) from e2)
    obtain ⟨_, _, _, p4, _⟩ := padded_ok (show paddedD b p.1 p.2 = .ok (q.1, q.2) from e3)
    simp [putD, p4, c2]; omega
  list n f d p hd h := by
    obtain ⟨d1, e1, h'⟩ := thenE_ok h
    clear h
    obtain ⟨rfl, hl⟩ := begin_lt e1
    obtain ⟨q, e2, h⟩ := thenE_ok h'
    cases h
    obtain ⟨_, c2, _, _⟩ := count_ok (show countD b n f d1 = .ok (q.1, q.2) from e2)
    simp [putD, c2]; omega
  arm n v d p hd h := by
    obtain ⟨d1, e1, h'⟩ := thenE_ok h
    clear h
    obtain ⟨rfl, hl⟩ := begin_lt e1
    obtain ⟨q, e2, h⟩ := thenE_ok h'
    split at h
    · cases h
    · cases h
      obtain ⟨_, _, _, p4, _⟩ := word_ok (show wordD b d1 = .ok (q.1, q.2) from e2)
      simp [putD, p4]; omega
theorem decode_few {E : Env} {n b : List UInt8} {dep fuel size : Nat} {u : List NodeL} (h : decodeD E n b dep fuel size = .ok u) : u.length ≤ fuel := by
  obtain ⟨_, hn⟩ := decode_parts h
  exact inv_name (decW_fuel b dep fuel) 64 0 n ⟨0, []⟩ _ (Nat.zero_le _) hn
end Go.Proofs.YtmbcibgknckenaaGreatDoor
set_option linter.all false
set_option maxRecDepth 100000
set_option maxHeartbeats 4000000
namespace Go.Proofs.YtmbcibgknckenaaGreatDoor
open Go.RowKit
open Go.MapKept
theorem infoStep : (Tryz.prog.info? 226).map (fun i => (i.zero, i.size, i.bytes)) = some (some .nilIface, 1, 16) := by kernel_rfl
theorem infoCall : (Tryz.prog.info? 222).map (fun i => (i.zero, i.size, i.bytes)) = some (some (.agg #[.int .i64 0, .string ⟨#[]⟩]), 2, 24) := by kernel_rfl
theorem put_any {w u : World} {a : CAd} {Fr bs : List (Nat × Obj)} {s : CSt} {sl ks : Value} {cv : List (StepL × Value)} {et : List (List UInt8 × NumL × Value)} {v : Value} {x : StepL} (h : Cp w a Fr bs s sl ks cv et u) (hx : StepIn bs v x) (hs : s.code.length < 1000000) :
    Calls Tryz.prog 98 #[.pointer (some ⟨a.C, 0, none⟩), v] u fun e u' => e = .returned (.int .i64 s.code.length) ∧ ∃ sl', Cp w a Fr bs (putM x s) sl' ks (cv ++ [(x, v)]) et u' := by
  obtain ⟨T, y, rfl⟩ := hx.iface
  obtain ⟨ad, cap, rfl⟩ := h.slice
  obtain ⟨c0, c1, c2, c3, hfz, hlt⟩ := h.cells
  obtain ⟨i0, hi0, hz0, hz1, hz2⟩ := info_parts infoStep
  have H := Hid.mk h
  have HX := Hid.mk hx
  have hwl : w.heap.size ≤ u.heap.size := h.own.kp.size
  have hown5 : ∀ ob, (u.alloc ob).ownsRow w.heap.size 226 1 (.slice ad s.code.length cap) s.code.length (cv.map (·.2)) := fun ob => owns_keeps h.row ((Keeps.refl [] u).alloc ob) (by simp)
  have hl1 : s.code.length + 1 ≤ maxLen := by unfold maxLen; omega
  have hl2 : (s.code.length + 1) * 16 ≤ 140737488355328 := by omega
  have hz3 : Value.nilIface.cells.size = 1 := rfl
  have hbox6 : ∀ ob u3, (u.alloc ob).grownBy u3 (Value.slice ad s.code.length cap).ownBlock → u3.cell? ⟨a.C, 0, none⟩ = some (.slice ad s.code.length cap) ∧ (∀ i, u3.frozen? ⟨a.C, i, none⟩ = false) ∧ a.C < u3.heap.size := by
    intro ob u3 hg
    have hb : u3.heap[a.C]? = some (.cells #[.slice ad s.code.length cap, .map (some a.B), .map (some a.E), ks] 123) :=
      (hg.block _ (by simp; omega) (fun e => (H.out.distinct.2.2.2.1 _ e.symm).1 rfl)).trans ((((Keeps.refl [] u).alloc ob).block _ hlt (by simp)).trans H.out.box)
    refine ⟨?_, ?_, lt_of_heap hb⟩ <;> simp [World.cell?, World.frozen?, hb]
  have H6 := Hid.mk hbox6
  clear h hx hbox6
  go_enter Tryz.func98, Tryz.ntmps98
  go_wp2_with (first
    | (at_builtin; refine wpList_append_lies _ (by rfl) _ _ _ (by rfl) w.heap.size 226 i0 _ 1 16 Tryz.underlying63 hi0 hz0 hz1 hz2 hz3 (by omega) (.slice ad s.code.length cap) s.code.length (cv.map (·.2)) (by rfl) (hown5 _) ⟨u.heap.size, 0, none⟩ 1 1 [.iface T y] (by rfl) (by rfl) (World.news_of_block (cs := #[.iface T y]) (t := 226) (fr := (0, 0)) (heap_alloc_new u _)) (by simp [Value.oneCell']) (by omega) hl1 hl2 (by simp; omega) (u.heap.size + 1) (by simp) ?_; intro g cap' w8 hown8 hgrow hat hlt8; obtain ⟨q0, q1, q2⟩ := H6.out _ _ hgrow))
  go_ret
  have M := Cp.putCode H.out HX.out ((Below.refl u.heap.size u).alloc (Nat.le_refl _) _) hown8 hgrow (by simpa using hat) hlt8
  exact ⟨by simp, _, M⟩
theorem here_any {w u : World} {a : CAd} {Fr bs : List (Nat × Obj)} {s : CSt} {sl ks : Value} {cv : List (StepL × Value)} {et : List (List UInt8 × NumL × Value)} (h : Cp w a Fr bs s sl ks cv et u) :
    Calls Tryz.prog 95 #[.pointer (some ⟨a.C, 0, none⟩)] u fun e u' => e = .returned (.int .i64 s.code.length) ∧ u' = u := by
  obtain ⟨ad, cap, rfl⟩ := h.slice
  obtain ⟨c0, c1, c2, c3, hfz, hlt⟩ := h.cells
  clear h
  go_enter Tryz.func95, Tryz.ntmps95
  go_wp2
  go_ret
  exact ⟨rfl, rfl⟩
abbrev numCs (n : NumL) (m : Value) : Array Value := #[.int .i64 n.low, .int .i64 n.high, m, .bool n.wide]
theorem numberL_mem (k : Nat) : (numberL k).mem = none := by
  unfold numberL
  split
  · rfl
  · split
    · rfl
    · split <;> rfl
theorem cnumber_any (k : Nat) (w : World) : Calls Tryz.prog 141 #[.int .i64 k] w fun e w' => e = .returned (.agg (numCs (numberL k) (.slice none 0 0))) ∧ Below w.heap.size w w' := by
  have hb : ∀ o, Below w.heap.size w (w.alloc o) := fun o => (Below.refl _ _).alloc (Nat.le_refl _) _
  by_cases h0 : k = 0
  · have e0 : ((k : Int) == 0) = true := by simp [h0]
    have E : Hid (numberL k = ⟨-2147483648, 2147483647, none, false⟩) := by show _ = _; simp [numberL, h0]
    clear h0
    go_enter Tryz.func141, Tryz.ntmps141
    go_wp2
    exact bodyPost_ret (v := .agg #[.int .i64 (-2147483648), .int .i64 2147483647, .slice none 0 0, .bool false]) (by simp [results, Tryz.results141, go_sem]) rfl ⟨by rw [E.out], hb _⟩
  · have e0 : ((k : Int) == 0) = false := by simp; omega
    by_cases h1 : k = 1
    · have e1 : ((k : Int) == 1) = true := by simp [h1]
      have E : Hid (numberL k = ⟨0, 4294967295, none, false⟩) := by show _ = _; simp [numberL, h1]
      clear h0 h1
      go_enter Tryz.func141, Tryz.ntmps141
      go_wp2
      exact bodyPost_ret (v := .agg #[.int .i64 0, .int .i64 4294967295, .slice none 0 0, .bool false]) (by simp [results, Tryz.results141, go_sem]) rfl ⟨by rw [E.out], hb _⟩
    · have e1 : ((k : Int) == 1) = false := by simp; omega
      by_cases h4 : k = 4
      · have e4 : ((k : Int) == 4) = true := by simp [h4]
        have E : Hid (numberL k = ⟨0, 1, none, false⟩) := by show _ = _; simp [numberL, h4]
        clear h0 h1 h4
        go_enter Tryz.func141, Tryz.ntmps141
        go_wp2
        exact bodyPost_ret (v := .agg #[.int .i64 0, .int .i64 1, .slice none 0 0, .bool false]) (by simp [results, Tryz.results141, go_sem]) rfl ⟨by rw [E.out], hb _⟩
      · have e4 : ((k : Int) == 4) = false := by simp; omega
        have E : Hid (numberL k = ⟨-9223372036854775808, 9223372036854775807, none, true⟩) := by show _ = _; simp [numberL, h0, h1, h4]
        clear h0 h1 h4
        go_enter Tryz.func141, Tryz.ntmps141
        go_wp2
        exact bodyPost_ret (v := .agg #[.int .i64 (-9223372036854775808), .int .i64 9223372036854775807, .slice none 0 0, .bool true]) (by simp [results, Tryz.results141, go_sem]) rfl ⟨by rw [E.out], hb _⟩
end Go.Proofs.YtmbcibgknckenaaGreatDoor
set_option linter.all false
set_option maxRecDepth 100000
set_option maxHeartbeats 4000000
namespace Go.Proofs.YtmbcibgknckenaaGreatDoor
open Go.RowKit
open Go.MapKept
theorem one_call (k : Nat × List UInt8) : ∀ u ∈ callC k, u.oneCell' = true := by
  intro u hu
  simp at hu
  rcases hu with rfl | rfl <;> rfl
theorem Cp.kbox {w u u3 : World} {a : CAd} {Fr bs : List (Nat × Obj)} {s : CSt} {sl ks : Value} {cv : List (StepL × Value)} {et : List (List UInt8 × NumL × Value)} {ob : Obj} (h : Cp w a Fr bs s sl ks cv et u) (hg : (u.alloc ob).grownBy u3 ks.ownBlock) :
    u3.cell? ⟨a.C, 3, none⟩ = some ks ∧ (∀ i, u3.frozen? ⟨a.C, i, none⟩ = false) ∧ a.C < u3.heap.size := by
  have hlt := lt_of_heap h.box
  have hb : u3.heap[a.C]? = some (.cells #[sl, .map (some a.B), .map (some a.E), ks] 123) :=
    (hg.block _ (by simp; omega) (fun e => (h.distinct.2.2.2.2 _ e.symm).1 rfl)).trans ((((Keeps.refl [] u).alloc ob).block _ hlt (by simp)).trans h.box)
  refine ⟨?_, ?_, lt_of_heap hb⟩ <;> simp [World.cell?, World.frozen?, hb]
theorem call_any {w u : World} {a : CAd} {Fr bs : List (Nat × Obj)} {s : CSt} {sl ks : Value} {cv : List (StepL × Value)} {et : List (List UInt8 × NumL × Value)} (n : List UInt8) (h : Cp w a Fr bs s sl ks cv et u) (hs : s.code.length < 1000000) (hc : s.calls.length < 1000000) :
    Calls Tryz.prog 140 #[.pointer (some ⟨a.C, 0, none⟩), .string ⟨n.toArray⟩] u fun e u' => e = .returned (.tuple #[]) ∧ GivesCp w a Fr bs (callM n s) u' := by
  obtain ⟨ad, cap, rfl⟩ := h.kslice
  obtain ⟨c0, c1, c2, c3, hfz, hlt⟩ := h.cells
  obtain ⟨i0, hi0, hz0, hz1, hz2⟩ := info_parts infoCall
  have hbd : Below u.heap.size u u.drew := (Below.refl _ _).drew
  have HC := Hid.mk (put_any (v := .iface 224 (.agg #[.int .i64 0])) (x := .call 0) (h.below hbd) rfl hs)
  have hl1 : s.calls.length + 1 ≤ maxLen := by unfold maxLen; omega
  have hl2 : (s.calls.length + 1) * 24 ≤ 140737488355328 := by omega
  have hz3 : (Value.agg #[.int .i64 0, .string ⟨#[]⟩]).cells.size = 2 := by decide
  clear h hbd
  go_enter Tryz.func140, Tryz.ntmps140
  go_wp2_with fail
  refine region_last (fun w' => w'.cell? ⟨a.C, 3, none⟩ = some (.slice ad s.calls.length cap)) (L := 15) (by kernel_rfl) rfl (by kernel_rfl) (by kernel_rfl) ?_ (fun hHeld => ?_)
  · go_keep
  refine tk (i := 0) (v := ?_) rfl (by kernel_rfl) (fun _ _ _ h => h) (by rfl) (by assumption) ?_ ?_
  rotate_left
  · intro w hSw; (try dsimp only at hSw); go_simp; (try with_reducible rfl)
  (try simp only [put_l, put_z, List.set])
  refine tk (i := 1) (v := ?_) rfl (by kernel_rfl) (fun _ _ _ h => h) (by rfl) (by assumption) ?_ ?_
  rotate_left
  · intro w hSw; (try dsimp only at hSw); go_simp; (try with_reducible rfl)
  (try simp only [put_l, put_z, List.set])
  refine tk (i := 2) (v := ?_) rfl (by kernel_rfl) (fun _ _ _ h => h) (by rfl) (by assumption) ?_ ?_
  rotate_left
  · intro w hSw; (try dsimp only at hSw); go_simp; (try with_reducible rfl)
  (try simp only [put_l, put_z, List.set])
  refine tk (i := 3) (v := ?_) rfl (by kernel_rfl) (fun _ _ _ h => h) (by rfl) (by assumption) ?_ ?_
  rotate_left
  · intro w hSw; (try dsimp only at hSw); go_simp; (try with_reducible rfl)
  (try simp only [put_l, put_z, List.set])
  refine tk (i := 4) (v := ?_) rfl (by kernel_rfl) (fun _ _ _ h => h) (by rfl) (by assumption) ?_ ?_
  rotate_left
  · intro w hSw; (try dsimp only at hSw); go_simp; (try with_reducible rfl)
  (try simp only [put_l, put_z, List.set])
  refine tk (i := 5) (v := ?_) rfl (by kernel_rfl) (fun _ _ _ h => h) (by rfl) (by assumption) ?_ ?_
  rotate_left
  · intro w hSw; (try dsimp only at hSw); go_simp; (try with_reducible rfl)
  (try simp only [put_l, put_z, List.set])
  refine tk (i := 6) (v := ?_) rfl (by kernel_rfl) (fun _ _ _ h => h) (by rfl) (by assumption) ?_ ?_
  rotate_left
  · intro w hSw; (try dsimp only at hSw); go_simp; (try with_reducible rfl)
  (try simp only [put_l, put_z, List.set])
  refine tk (i := 7) (v := ?_) rfl (by kernel_rfl) (fun _ _ _ h => h) (by rfl) (by assumption) ?_ ?_
  rotate_left
  · intro w hSw; (try dsimp only at hSw); go_simp; (try with_reducible rfl)
  (try simp only [put_l, put_z, List.set])
  refine tk (i := 9) (v := ?_) rfl (by kernel_rfl) (fun _ _ _ h => h) (by rfl) (by assumption) ?_ ?_
  rotate_left
  · intro w hSw; (try dsimp only at hSw); go_simp; (try with_reducible rfl)
  (try simp only [put_l, put_z, List.set])
  refine wpAnyH_ready (rs := [8]) (by kernel_rfl) (by simp) ?_
  refine AllReadyH.cons rfl (fun K hK => ?_) AllReadyH.nil
  (go_simp; go_at_call 98; refine HC.out.mono ?_; rintro e w5 ⟨rfl, sl5, M5⟩; have M5 := Hid.mk M5; have hc5 : w5.cell? ⟨a.C, 3, none⟩ = some (.slice ad s.calls.length cap) := M5.out.cells.2.2.2.1; have hwl : w.heap.size ≤ w5.heap.size := M5.out.own.kp.size; have hlt5 : a.C < w5.heap.size := M5.out.cells.2.2.2.2.2)
  refine hK.out _ _ ?_ (fun hHeld => ?_)
  · go_keep
  clear hK K
  (try simp only [put_l, put_z, List.set])
  refine tk (i := 10) (v := ?_) rfl (by kernel_rfl) (fun _ _ _ h => h) (by rfl) (by assumption) ?_ ?_
  rotate_left
  · intro w hSw; (try dsimp only at hSw); go_simp; (try with_reducible rfl)
  (try simp only [put_l, put_z, List.set])
  refine wpAnyH_ready (rs := [11]) (by kernel_rfl) (by simp) ?_
  refine AllReadyH.cons rfl (fun K hK => ?_) AllReadyH.nil
  go_simp
  refine hK.out _ _ ?_ (fun hHeld => ?_)
  · go_keep
  clear hK K
  (try simp only [put_l, put_z, List.set])
  refine wpAnyH_ready (rs := [12]) (by kernel_rfl) (by simp) ?_
  refine AllReadyH.cons rfl (fun K hK => ?_) AllReadyH.nil
  (refine step_append_lies _ (by rfl) _ _ _ (by rfl) w.heap.size 222 i0 _ 2 24 Tryz.underlying121 hi0 hz0 hz1 hz2 hz3 (by omega) (.slice ad s.calls.length cap) s.calls.length (s.calls.flatMap callC) (by rfl) (owns_keeps M5.out.kro ((Keeps.refl [] w5).alloc _) (by simp)) ⟨w5.heap.size, 0, none⟩ 1 1 (callC (s.code.length, n)) (by rfl) (by rfl) (World.news_of_block (cs := (callC (s.code.length, n)).toArray) (t := 222) (fr := (0, 0)) (heap_alloc_new w5 _)) (one_call _) (by omega) hl1 hl2 (by simp; omega) (w5.heap.size + 1) (by simp) ?_; intro g cap' w6 hown6 hgrow hat hlt; obtain ⟨q0, q1, q2⟩ := M5.out.kbox hgrow)
  refine hK.out _ _ ?_ (fun hHeld => ?_)
  · go_keep
  clear hK K
  (try simp only [put_l, put_z, List.set])
  refine tk (i := 13) (v := ?_) rfl (by kernel_rfl) (fun _ _ _ h => h) (by rfl) (by assumption) ?_ ?_
  rotate_left
  · intro w hSw; (try dsimp only at hSw); go_simp; (try with_reducible rfl)
  (try simp only [put_l, put_z, List.set])
  refine tk (i := 14) (v := ?_) rfl (by kernel_rfl) (fun _ _ _ h => h) (by rfl) (by assumption) ?_ ?_
  rotate_left
  · intro w hSw; (try dsimp only at hSw); go_simp; (try with_reducible rfl)
  (try simp only [put_l, put_z, List.set])
  refine wpAnyH_done (by kernel_rfl) ?_ _
  refine last_step rfl (fun K hK => ?_)
  go_simp
  refine hK.out _ _ ?_
  clear hK K
  (try simp only [put_l, put_z, List.set])
  have M6 := Cp.putCall (k := (s.code.length, n)) M5.out ((Below.refl w5.heap.size w5).alloc (Nat.le_refl _) _) hown6 hgrow (by simpa using hat) hlt
  go_wp2
  go_end0
  exact ⟨rfl, M6.gives⟩
end Go.Proofs.YtmbcibgknckenaaGreatDoor
set_option linter.all false
set_option maxRecDepth 100000
set_option maxHeartbeats 4000000
namespace Go.Proofs.YtmbcibgknckenaaGreatDoor
open Go.RowKit
open Go.MapKept
theorem numIn_plain (bs : List (Nat × Obj)) {n : NumL} (h : n.mem = none) : NumIn bs [.int .i64 n.low, .int .i64 n.high, .slice none 0 0, .bool n.wide] n := ⟨.slice none 0 0, rfl, by rw [h]; rfl, _, _, _, rfl⟩
structure Room (s : CSt) (n : Nat) : Prop where
  code : s.code.length + n < 1000000
  calls : s.calls.length ≤ s.code.length
theorem Room.put {s : CSt} {n : Nat} (h : Room s (n + 1)) (x : StepL) : Room (putM x s) n := ⟨by simp [putM]; have := h.code; omega, by simp [putM]; have := h.calls; omega⟩
theorem Room.call {s : CSt} {n : Nat} (h : Room s (n + 1)) (t : List UInt8) : Room (callM t s) n := ⟨by simp [callM]; have := h.code; omega, by simp [callM]; have := h.calls; omega⟩
theorem Room.less {s : CSt} {n m : Nat} (h : Room s n) (hm : m ≤ n) : Room s m := ⟨by have := h.code; omega, h.calls⟩
theorem Room.set {s : CSt} {n : Nat} (h : Room s n) (i : Nat) (x : StepL) : Room (setM i x s) n := ⟨by simpa [setM] using h.code, by simpa [setM] using h.calls⟩
theorem Room.value (t : Ty) : ∀ {s : CSt} {n : Nat}, Room s (n + tyCost t) → Room (valueM t s) n := by
  induction t with
  | named t a => intro s n h; exact h.call t
  | plain k => intro s n h; exact h.put _
  | opaq k f => intro s n h; exact h.put _
  | str k f => intro s n h; exact h.put _
  | void => intro s n h; exact h
  | arr o k f ih => intro s n h; exact (Room.put (ih (Room.put (Room.less h (by simp only [tyCost]; omega)) _)) _).set _ _
  | opt o ih => intro s n h; exact (ih (Room.put (Room.less h (by simp only [tyCost]; omega)) _)).set _ _
theorem value_named {w u : World} {a : CAd} {Fr bs : List (Nat × Obj)} {s : CSt} {sl ks : Value} {cv : List (StepL × Value)} {et : List (List UInt8 × NumL × Value)} (t : List UInt8) (p : Nat) (h : Cp w a Fr bs s sl ks cv et u) (hr : Room s 1) :
    Calls Tryz.prog 96 #[.pointer (some ⟨a.C, 0, none⟩), .iface 213 (.agg #[.string ⟨t.toArray⟩, .int .i64 p])] u fun e u' => e = .returned (.tuple #[]) ∧ GivesCp w a Fr bs (callM t s) u' := by
  have t0 : ∀ W, (Instr.typeAssert (.iface 213 (.agg #[.string ⟨t.toArray⟩, .int .i64 p])) 193 213 true).run Tryz.prog W = .ok (.tuple #[.agg #[.string ⟨t.toArray⟩, .int .i64 p], .bool true]) W := fun W => by kernel_rfl
  have hr1 := hr.code
  have hr2 := hr.calls
  have hb : ∀ o, Below u.heap.size u (u.alloc o) := fun o => (Below.refl _ _).alloc (Nat.le_refl _) _
  have H := Hid.mk h
  clear h
  go_enter Tryz.func96, Tryz.ntmps96
  go_wp2_with fail
  refine (call_any t (H.out.below (hb _)) (by omega) (by omega)).mono ?_
  rintro e w2 ⟨rfl, M2⟩
  go_wp2
  go_end0
  exact ⟨rfl, M2⟩
theorem value_plain {w u : World} {a : CAd} {Fr bs : List (Nat × Obj)} {s : CSt} {sl ks : Value} {cv : List (StepL × Value)} {et : List (List UInt8 × NumL × Value)} (k : Nat) (h : Cp w a Fr bs s sl ks cv et u) (hr : Room s 1) :
    Calls Tryz.prog 96 #[.pointer (some ⟨a.C, 0, none⟩), .iface 301 (.agg #[.int .i64 k])] u fun e u' => e = .returned (.tuple #[]) ∧ GivesCp w a Fr bs (putM (.num (numberL k)) s) u' := by
  have t0 : ∀ W, (Instr.typeAssert (.iface 301 (.agg #[.int .i64 k])) 193 213 true).run Tryz.prog W = .ok (.tuple #[.agg #[.string ⟨#[]⟩, .int .i64 0], .bool false]) W := fun W => by kernel_rfl
  have t1 : ∀ W, (Instr.typeAssert (.iface 301 (.agg #[.int .i64 k])) 193 301 true).run Tryz.prog W = .ok (.tuple #[.agg #[.int .i64 k], .bool true]) W := fun W => by kernel_rfl
  have hr1 := hr.code
  have hr2 := hr.calls
  have hb : ∀ o, Below u.heap.size u (u.alloc o) := fun o => (Below.refl _ _).alloc (Nat.le_refl _) _
  have H := Hid.mk h
  clear h
  go_enter Tryz.func96, Tryz.ntmps96
  go_wp2_with fail
  refine (cnumber_any k _).mono ?_
  rintro e w2 ⟨rfl, hb2⟩
  have M2 := (H.out.below (hb _)).below hb2
  go_wp2_with fail
  refine (put_any (v := .iface 200 (.agg (numCs (numberL k) (.slice none 0 0)))) (x := .num (numberL k)) M2 ⟨[.int .i64 (numberL k).low, .int .i64 (numberL k).high, .slice none 0 0, .bool (numberL k).wide], rfl, numIn_plain _ (numberL_mem k)⟩ (by omega)).mono ?_
  rintro e w3 ⟨rfl, sl3, M3⟩
  go_wp2
  go_end0
  exact ⟨rfl, M3.gives⟩
theorem value_opaq {w u : World} {a : CAd} {Fr bs : List (Nat × Obj)} {s : CSt} {sl ks : Value} {cv : List (StepL × Value)} {et : List (List UInt8 × NumL × Value)} (n : Int) (f : Bool) (h : Cp w a Fr bs s sl ks cv et u) (hr : Room s 1) :
    Calls Tryz.prog 96 #[.pointer (some ⟨a.C, 0, none⟩), .iface 306 (.agg #[.int .i64 n, .bool f])] u fun e u' => e = .returned (.tuple #[]) ∧ GivesCp w a Fr bs (putM (.text n f) s) u' := by
  have t0 : ∀ W, (Instr.typeAssert (.iface 306 (.agg #[.int .i64 n, .bool f])) 193 213 true).run Tryz.prog W = .ok (.tuple #[.agg #[.string ⟨#[]⟩, .int .i64 0], .bool false]) W := fun W => by kernel_rfl
  have t1 : ∀ W, (Instr.typeAssert (.iface 306 (.agg #[.int .i64 n, .bool f])) 193 301 true).run Tryz.prog W = .ok (.tuple #[.agg #[.int .i64 0], .bool false]) W := fun W => by kernel_rfl
  have t2 : ∀ W, (Instr.typeAssert (.iface 306 (.agg #[.int .i64 n, .bool f])) 193 306 true).run Tryz.prog W = .ok (.tuple #[.agg #[.int .i64 n, .bool f], .bool true]) W := fun W => by kernel_rfl
  have hr1 := hr.code
  have hr2 := hr.calls
  have hb : ∀ o, Below u.heap.size u (u.alloc o) := fun o => (Below.refl _ _).alloc (Nat.le_refl _) _
  have H := Hid.mk h
  clear h
  go_enter Tryz.func96, Tryz.ntmps96
  go_wp2_with fail
  refine (put_any (x := .text n f) (H.out.below (hb _)) rfl (by omega)).mono ?_
  rintro e w3 ⟨rfl, sl3, M3⟩
  go_wp2
  go_end0
  exact ⟨rfl, M3.gives⟩
theorem value_str {w u : World} {a : CAd} {Fr bs : List (Nat × Obj)} {s : CSt} {sl ks : Value} {cv : List (StepL × Value)} {et : List (List UInt8 × NumL × Value)} (n : Int) (f : Bool) (h : Cp w a Fr bs s sl ks cv et u) (hr : Room s 1) :
    Calls Tryz.prog 96 #[.pointer (some ⟨a.C, 0, none⟩), .iface 309 (.agg #[.int .i64 n, .bool f])] u fun e u' => e = .returned (.tuple #[]) ∧ GivesCp w a Fr bs (putM (.text n f) s) u' := by
  have t0 : ∀ W, (Instr.typeAssert (.iface 309 (.agg #[.int .i64 n, .bool f])) 193 213 true).run Tryz.prog W = .ok (.tuple #[.agg #[.string ⟨#[]⟩, .int .i64 0], .bool false]) W := fun W => by kernel_rfl
  have t1 : ∀ W, (Instr.typeAssert (.iface 309 (.agg #[.int .i64 n, .bool f])) 193 301 true).run Tryz.prog W = .ok (.tuple #[.agg #[.int .i64 0], .bool false]) W := fun W => by kernel_rfl
  have t2 : ∀ W, (Instr.typeAssert (.iface 309 (.agg #[.int .i64 n, .bool f])) 193 306 true).run Tryz.prog W = .ok (.tuple #[.agg #[.int .i64 0, .bool false], .bool false]) W := fun W => by kernel_rfl
  have t3 : ∀ W, (Instr.typeAssert (.iface 309 (.agg #[.int .i64 n, .bool f])) 193 309 true).run Tryz.prog W = .ok (.tuple #[.agg #[.int .i64 n, .bool f], .bool true]) W := fun W => by kernel_rfl
  have hr1 := hr.code
  have hr2 := hr.calls
  have hb : ∀ o, Below u.heap.size u (u.alloc o) := fun o => (Below.refl _ _).alloc (Nat.le_refl _) _
  have H := Hid.mk h
  clear h
  go_enter Tryz.func96, Tryz.ntmps96
  go_wp2_with fail
  refine (put_any (x := .text n f) (H.out.below (hb _)) rfl (by omega)).mono ?_
  rintro e w3 ⟨rfl, sl3, M3⟩
  go_wp2
  go_end0
  exact ⟨rfl, M3.gives⟩
theorem value_void {w u : World} {a : CAd} {Fr bs : List (Nat × Obj)} {s : CSt} {sl ks : Value} {cv : List (StepL × Value)} {et : List (List UInt8 × NumL × Value)}  (h : Cp w a Fr bs s sl ks cv et u) (hr : Room s 1) :
    Calls Tryz.prog 96 #[.pointer (some ⟨a.C, 0, none⟩), .iface 340 (.agg #[])] u fun e u' => e = .returned (.tuple #[]) ∧ GivesCp w a Fr bs (s) u' := by
  have t0 : ∀ W, (Instr.typeAssert (.iface 340 (.agg #[])) 193 213 true).run Tryz.prog W = .ok (.tuple #[.agg #[.string ⟨#[]⟩, .int .i64 0], .bool false]) W := fun W => by kernel_rfl
  have t1 : ∀ W, (Instr.typeAssert (.iface 340 (.agg #[])) 193 301 true).run Tryz.prog W = .ok (.tuple #[.agg #[.int .i64 0], .bool false]) W := fun W => by kernel_rfl
  have t2 : ∀ W, (Instr.typeAssert (.iface 340 (.agg #[])) 193 306 true).run Tryz.prog W = .ok (.tuple #[.agg #[.int .i64 0, .bool false], .bool false]) W := fun W => by kernel_rfl
  have t3 : ∀ W, (Instr.typeAssert (.iface 340 (.agg #[])) 193 309 true).run Tryz.prog W = .ok (.tuple #[.agg #[.int .i64 0, .bool false], .bool false]) W := fun W => by kernel_rfl
  have t4 : ∀ W, (Instr.typeAssert (.iface 340 (.agg #[])) 193 311 true).run Tryz.prog W = .ok (.tuple #[.agg #[.nilIface, .int .i64 0, .bool false], .bool false]) W := fun W => by kernel_rfl
  have t5 : ∀ W, (Instr.typeAssert (.iface 340 (.agg #[])) 193 314 true).run Tryz.prog W = .ok (.tuple #[.agg #[.nilIface], .bool false]) W := fun W => by kernel_rfl
  have hr1 := hr.code
  have hr2 := hr.calls
  have H := Hid.mk h
  clear h
  go_enter Tryz.func96, Tryz.ntmps96
  go_wp2
  go_end0
  exact ⟨rfl, H.out.gives⟩
theorem value_flat {w u : World} {a : CAd} {Fr bs : List (Nat × Obj)} {s : CSt} {sl ks : Value} {cv : List (StepL × Value)} {et : List (List UInt8 × NumL × Value)} {t : Ty} (hf : Flat t) (h : Cp w a Fr bs s sl ks cv et u) (hr : Room s 1) :
    Calls Tryz.prog 96 #[.pointer (some ⟨a.C, 0, none⟩), tyV t] u fun e u' => e = .returned (.tuple #[]) ∧ GivesCp w a Fr bs (valueM t s) u' := by
  cases t with
  | named t p => exact value_named t p h hr
  | plain k => exact value_plain k h hr
  | opaq n f => exact value_opaq n f h hr
  | str n f => exact value_str n f h hr
  | void => exact value_void h hr
  | arr o n f => exact absurd hf (by simp [Flat])
  | opt o => exact absurd hf (by simp [Flat])
end Go.Proofs.YtmbcibgknckenaaGreatDoor
set_option linter.all false
set_option maxRecDepth 100000
set_option maxHeartbeats 4000000
namespace Go.Proofs.YtmbcibgknckenaaGreatDoor
open Go.RowKit
open Go.MapKept
theorem putM_len (x : StepL) (s : CSt) : (putM x s).code.length = s.code.length + 1 := by simp [putM]
theorem GivesCp.more {w u : World} {a : CAd} {Fr bs bs' : List (Nat × Obj)} {s : CSt} (hb : ∀ p ∈ bs, p ∈ bs') (h : GivesCp w a Fr bs' s u) : GivesCp w a Fr bs s u := by
  obtain ⟨b, sl, ks, cv, et, h1, h2⟩ := h
  exact ⟨b, sl, ks, cv, et, fun p hp => h1 p (hb p hp), h2⟩
theorem GivesCp.tail {w u : World} {a : CAd} {p : Nat × Obj} {Fr bs : List (Nat × Obj)} {s : CSt} (h : GivesCp w a (p :: Fr) bs s u) : GivesCp w a Fr bs s u := by
  obtain ⟨b, sl, ks, cv, et, h1, h2⟩ := h
  exact ⟨b, sl, ks, cv, et, h1, h2.tail⟩
theorem array_any {w u : World} {a : CAd} {Fr bs : List (Nat × Obj)} {s : CSt} {sl ks : Value} {cv : List (StepL × Value)} {et : List (List UInt8 × NumL × Value)} {o : Ty} (n : Int) (f : Bool) (hf : Flat o) (h : Cp w a Fr bs s sl ks cv et u) (hr : Room s 3) :
    Calls Tryz.prog 142 #[.pointer (some ⟨a.C, 0, none⟩), .agg #[tyV o, .int .i64 n, .bool f]] u fun e u' => e = .returned (.tuple #[]) ∧ GivesCp w a Fr bs (valueM (.arr o n f) s) u' := by
  have M0 := h.alloc (.cells #[tyV o, .int .i64 n, .bool f] 311)
  have hr0 := hr.code
  have hr1 : Room (putM .hole s) 2 := hr.put _
  have hc : tyCost o ≤ 1 := by cases o <;> simp [Flat, tyCost] at *
  have hvl := valueM_len o (putM .hole s)
  have hpl : (putM .hole s).code.length = s.code.length + 1 := by simp [putM]
  obtain ⟨T, x, hT⟩ := tyV_iface o
  have HT := Hid.mk hT
  rw [hT] at M0 ⊢
  clear h
  go_enter Tryz.func142, Tryz.ntmps142
  go_wp2_with fail
  refine (put_any (v := .iface 345 (.agg #[.int .i64 0, .bool false, .int .i64 0])) (x := .hole) M0 ⟨_, _, rfl⟩ (by omega)).mono ?_
  rintro e w1 ⟨rfl, sl1, M1⟩
  obtain ⟨b0, b1, b2, bf⟩ := bound3 (M1.own.hf _ List.mem_cons_self).1
  go_wp2_with fail
  have V := value_flat hf M1 (hr1.less (by omega))
  rw [HT.out] at V
  refine V.mono ?_
  rintro e w2 ⟨rfl, bs2, sl2, ks2, cv2, et2, hb2, M2⟩
  clear V M1 b0 b1 b2 bf
  go_wp2_with fail
  refine (put_any (v := .iface 346 (.agg #[])) (x := .again) M2 rfl (by rw [hvl, hpl]; omega)).mono ?_
  rintro e w3 ⟨rfl, sl3, M3⟩
  clear M2
  obtain ⟨b0, b1, b2, bf⟩ := bound3 (M3.own.hf _ List.mem_cons_self).1
  have hlen : (putM .again (valueM o (putM .hole s))).code.length = s.code.length + tyCost o + 2 := by rw [putM_len, hvl, hpl]; omega
  obtain ⟨c0, c1, c2, c3, hfz, hlt⟩ := M3.cells
  obtain ⟨g, cap, rfl, hcap, hfr, ⟨y, hy⟩, hg, M4⟩ := Cp.setCode (i := s.code.length) (x := .array n f ((valueM o (putM .hole s)).code.length + 1)) (v := .iface 345 (.agg #[.int .i64 n, .bool f, .int .i64 ((putM .again (valueM o (putM .hole s))).code.length : Int)])) (M3.below (Below.refl _ _).drew) (by simp [StepIn, putM]) (by rw [hlen]; omega)
  have M4 := Hid.mk M4
  have HH := Hid.mk (here_any (M3.below (Below.refl _ _).drew))
  have hidx : (s.code.length : Int) < ((putM .again (valueM o (putM .hole s))).code.length : Int) := by rw [hlen]; omega
  have HB2 := Hid.mk hb2
  clear M3 hb2 hlen hvl hpl
  generalize hL : (putM .again (valueM o (putM .hole s))).code.length = L at *
  clear hL
  go_wp2_with fail
  refine region_last (fun w' => w'.cell? ⟨a.C, 0, none⟩ = some (.slice (some ⟨g, 0, none⟩) L cap) ∧ w'.cell? ⟨u.heap.size, 1, none⟩ = some (.int .i64 n) ∧ w'.cell? ⟨u.heap.size, 2, none⟩ = some (.bool f)) (L := 12) (by kernel_rfl) rfl (by kernel_rfl) (by kernel_rfl) ?_ (fun hHeld => ?_)
  · go_keep
  refine tk (i := 0) (v := ?_) rfl (by kernel_rfl) (fun _ _ _ h => h) (by rfl) (by assumption) ?_ ?_
  rotate_left
  · intro w hSw; (try dsimp only at hSw); go_simp; (try with_reducible rfl)
  (try simp only [put_l, put_z, List.set])
  refine tk (i := 1) (v := ?_) rfl (by kernel_rfl) (fun _ _ _ h => h) (by rfl) (by assumption) ?_ ?_
  rotate_left
  · intro w hSw; (try dsimp only at hSw); go_simp; (try with_reducible rfl)
  (try simp only [put_l, put_z, List.set])
  refine tk (i := 2) (v := ?_) rfl (by kernel_rfl) (fun _ _ _ h => h) (by rfl) (by assumption) ?_ ?_
  rotate_left
  · intro w hSw; (try dsimp only at hSw); go_simp; (try with_reducible rfl)
  (try simp only [put_l, put_z, List.set])
  refine tk (i := 3) (v := ?_) rfl (by kernel_rfl) (fun _ _ _ h => h) (by rfl) (by assumption) ?_ ?_
  rotate_left
  · intro w hSw; (try dsimp only at hSw); go_simp; (try with_reducible rfl)
  (try simp only [put_l, put_z, List.set])
  refine tk (i := 4) (v := ?_) rfl (by kernel_rfl) (fun _ _ _ h => h) (by rfl) (by assumption) ?_ ?_
  rotate_left
  · intro w hSw; (try dsimp only at hSw); go_simp; (try with_reducible rfl)
  (try simp only [put_l, put_z, List.set])
  refine tk (i := 5) (v := ?_) rfl (by kernel_rfl) (fun _ _ _ h => h) (by rfl) (by assumption) ?_ ?_
  rotate_left
  · intro w hSw; (try dsimp only at hSw); go_simp; (try with_reducible rfl)
  (try simp only [put_l, put_z, List.set])
  refine tk (i := 6) (v := ?_) rfl (by kernel_rfl) (fun _ _ _ h => h) (by rfl) (by assumption) ?_ ?_
  rotate_left
  · intro w hSw; (try dsimp only at hSw); go_simp; (try with_reducible rfl)
  (try simp only [put_l, put_z, List.set])
  refine tk (i := 7) (v := ?_) rfl (by kernel_rfl) (fun _ _ _ h => h) (by rfl) (by assumption) ?_ ?_
  rotate_left
  · intro w hSw; (try dsimp only at hSw); go_simp; (try with_reducible rfl)
  (try simp only [put_l, put_z, List.set])
  refine wpAnyH_ready (rs := [8]) (by kernel_rfl) (by simp) ?_
  refine AllReadyH.cons rfl (fun K hK => ?_) AllReadyH.nil
  (go_simp; go_at_call 95; refine HH.out.mono ?_; rintro e w5 ⟨rfl, rfl⟩)
  refine hK.out _ _ ?_ (fun hHeld => ?_)
  · go_keep
  clear hK K
  (try simp only [put_l, put_z, List.set])
  refine tk (i := 9) (v := ?_) rfl (by kernel_rfl) (fun _ _ _ h => h) (by rfl) (by assumption) ?_ ?_
  rotate_left
  · intro w hSw; (try dsimp only at hSw); go_simp; (try with_reducible rfl)
  (try simp only [put_l, put_z, List.set])
  refine tk (i := 10) (v := ?_) rfl (by kernel_rfl) (fun _ _ _ h => h) (by rfl) (by assumption) ?_ ?_
  rotate_left
  · intro w hSw; (try dsimp only at hSw); go_simp; (try with_reducible rfl)
  (try simp only [put_l, put_z, List.set])
  refine tk (i := 11) (v := ?_) rfl (by kernel_rfl) (fun _ _ _ h => h) (by rfl) (by assumption) ?_ ?_
  rotate_left
  · intro w hSw; (try dsimp only at hSw); go_simp; (try with_reducible rfl)
  (try simp only [put_l, put_z, List.set])
  refine wpAnyH_done (by kernel_rfl) ?_ _
  refine last_step rfl (fun K hK => ?_)
  go_simp
  refine hK.out _ _ ?_
  clear hK K
  (try simp only [put_l, put_z, List.set])
  go_wp2
  go_end0
  exact ⟨rfl, (GivesCp.more HB2.out M4.out.gives).tail⟩
end Go.Proofs.YtmbcibgknckenaaGreatDoor
set_option linter.all false
set_option maxRecDepth 100000
set_option maxHeartbeats 4000000
namespace Go.Proofs.YtmbcibgknckenaaGreatDoor
open Go.RowKit
open Go.MapKept
theorem ways_put {W : World} {m : Nat} {l : List (Int × Nat × Nat)} (hb : W.heap[m]? = some (waysObj l)) (nd : (l.map (·.1)).Nodup) (k : Int) (p q : Nat) :
    (Instr.mapUpdate 318 (.map (some m)) (.int .i64 k) (.agg #[.int .i64 p, .int .i64 q])).run Tryz.prog W = .ok () (putObj W m (waysObj (mput l k (p, q)))) :=
  mapObj_put (P := Tryz.prog) (T := 318) (kt := 2) (et := 323) (d := .int .i64) (by kernel_rfl) (by kernel_rfl) (fun k : Int => .int .i64 k) (fun q : Nat × Nat => .agg #[.int .i64 q.1, .int .i64 q.2]) (fun _ => rfl) (fun _ => stays_int _) int_inj hb nd k (p, q)
theorem cnumber_bool (w : World) : Calls Tryz.prog 141 #[.int .i64 4] w fun e w' => e = .returned (.agg #[.int .i64 0, .int .i64 1, .slice none 0 0, .bool false]) ∧ Below w.heap.size w w' := cnumber_any 4 w
theorem lt_alloc (w : World) (o : Obj) : w.heap.size < (w.alloc o).heap.size := by simp
theorem optional_any {w u : World} {a : CAd} {Fr bs : List (Nat × Obj)} {s : CSt} {sl ks : Value} {cv : List (StepL × Value)} {et : List (List UInt8 × NumL × Value)} {o : Ty} (hf : Flat o) (h : Cp w a Fr bs s sl ks cv et u) (hr : Room s 2) :
    Calls Tryz.prog 143 #[.pointer (some ⟨a.C, 0, none⟩), .agg #[tyV o]] u fun e u' => e = .returned (.tuple #[]) ∧ GivesCp w a Fr bs (valueM (.opt o) s) u' := by
  have hmm : ∀ (t : TypeId) (w : World), (Instr.makeMap t none).run Tryz.prog w = .ok (.map (some w.heap.size)) (w.alloc (.map #[] 0)) := fun _ _ => rfl
  have M0 := h.alloc (.cells #[tyV o] 314)
  have hr0 := hr.code
  have hr1 : Room (putM .hole s) 1 := hr.put _
  have hc : tyCost o ≤ 1 := by cases o <;> simp [Flat, tyCost] at *
  have hvl := valueM_len o (putM .hole s)
  have hpl : (putM .hole s).code.length = s.code.length + 1 := by simp [putM]
  obtain ⟨T, x, hT⟩ := tyV_iface o
  have HT := Hid.mk hT
  rw [hT] at M0 ⊢
  clear h
  go_enter Tryz.func143, Tryz.ntmps143
  go_wp2_with fail
  refine (put_any (v := .iface 321 (.agg #[.int .i64 0, .int .i64 0, .slice none 0 0, .bool false, .map none, .pointer none])) (x := .hole) M0 ⟨_, _, rfl⟩ (by omega)).mono ?_
  rintro e w1 ⟨rfl, sl1, M1⟩
  have b0 := bound1 (M1.own.hf _ List.mem_cons_self).1
  go_wp2_with fail
  have V := value_flat hf M1 (hr1.less (by omega))
  rw [HT.out] at V
  refine V.mono ?_
  rintro e w2 ⟨rfl, bs2, sl2, ks2, cv2, et2, hb2, M2⟩
  clear V M1 b0
  have hlen : (valueM o (putM .hole s)).code.length = s.code.length + 1 + tyCost o := by rw [hvl, hpl]
  have N0 := M2.alloc (.map #[] 0)
  have p1 := ways_put (W := w2.alloc (.map #[] 0)) (m := w2.heap.size) (l := []) (heap_alloc_at rfl) (by simp) 0 (valueM o (putM .hole s)).code.length 0
  obtain ⟨W1, hW1⟩ : ∃ W1, W1 = putObj (w2.alloc (.map #[] 0)) w2.heap.size (waysObj (mput [] 0 ((valueM o (putM .hole s)).code.length, 0))) := ⟨_, rfl⟩
  have k1 : Keeps [w2.heap.size] (w2.alloc (.map #[] 0)) W1 := by rw [hW1]; exact putObj_keeps _ _ _
  have q1 : W1.heap[w2.heap.size]? = some (waysObj [(0, (valueM o (putM .hole s)).code.length, 0)]) := by rw [hW1]; exact putObj_at (lt_alloc _ _) _
  have N1 := N0.setFr k1 q1
  rw [← hW1, show (((0 : Nat)) : Int) = 0 from rfl] at p1
  have p2 := ways_put (W := W1) (m := w2.heap.size) q1 (by simp) 1 (s.code.length + 1) 1
  obtain ⟨W2, hW2⟩ : ∃ W2, W2 = putObj W1 w2.heap.size (waysObj (mput [(0, (valueM o (putM .hole s)).code.length, 0)] 1 (s.code.length + 1, 1))) := ⟨_, rfl⟩
  have k2 : Keeps [w2.heap.size] W1 W2 := by rw [hW2]; exact putObj_keeps _ _ _
  have q2 : W2.heap[w2.heap.size]? = some (waysObj [(0, (valueM o (putM .hole s)).code.length, 0), (1, s.code.length + 1, 1)]) := by rw [hW2]; exact putObj_at (lt_of_heap q1) _
  have N2 := (N1.setFr k2 q2).give
  rw [← hW2, show (((1 : Nat)) : Int) = 1 from rfl] at p2
  rw [show (((s.code.length + 1 : Nat)) : Int) = (s.code.length : Int) + 1 by omega] at p2
  have HH := Hid.mk (here_any N0)
  obtain ⟨c0, c1, c2, c3, hfz, hlt⟩ := N2.cells
  obtain ⟨ad, cap, rfl⟩ := N2.slice
  have hidx : (s.code.length : Int) < ((valueM o (putM .hole s)).code.length : Int) := by rw [hlen]; omega
  have hidn : s.code.length < (valueM o (putM .hole s)).code.length := by omega
  have N2 := Hid.mk N2
  have HB2 := Hid.mk hb2
  have hs63 : s.code.length < 1000000 := by omega
  clear N0 N1 M2 hb2 q1 q2 k1 k2 hW1 hW2 hlen hvl hpl
  generalize hL : (valueM o (putM .hole s)).code.length = L at *
  go_wp2_with fail
  refine HH.out.mono ?_
  rintro e w5 ⟨rfl, rfl⟩
  go_wp2_with fail
  refine region_last (fun w' => w'.cell? ⟨a.C, 0, none⟩ = some (.slice ad L cap)) (L := 10) (by kernel_rfl) rfl (by kernel_rfl) (by kernel_rfl) ?_ (fun hHeld => ?_)
  · go_keep
  refine tk (i := 0) (v := ?_) rfl (by kernel_rfl) (fun _ _ _ h => h) (by rfl) (by assumption) ?_ ?_
  rotate_left
  · intro w hSw; (try dsimp only at hSw); go_simp; (try with_reducible rfl)
  (try simp only [put_l, put_z, List.set])
  refine tk (i := 1) (v := ?_) rfl (by kernel_rfl) (fun _ _ _ h => h) (by rfl) (by assumption) ?_ ?_
  rotate_left
  · intro w hSw; (try dsimp only at hSw); go_simp; (try with_reducible rfl)
  (try simp only [put_l, put_z, List.set])
  refine tk (i := 2) (v := ?_) rfl (by kernel_rfl) (fun _ _ _ h => h) (by rfl) (by assumption) ?_ ?_
  rotate_left
  · intro w hSw; (try dsimp only at hSw); go_simp; (try with_reducible rfl)
  (try simp only [put_l, put_z, List.set])
  refine tk (i := 3) (v := ?_) rfl (by kernel_rfl) (fun _ _ _ h => h) (by rfl) (by assumption) ?_ ?_
  rotate_left
  · intro w hSw; (try dsimp only at hSw); go_simp; (try with_reducible rfl)
  (try simp only [put_l, put_z, List.set])
  refine tk (i := 4) (v := ?_) rfl (by kernel_rfl) (fun _ _ _ h => h) (by rfl) (by assumption) ?_ ?_
  rotate_left
  · intro w hSw; (try dsimp only at hSw); go_simp; (try with_reducible rfl)
  (try simp only [put_l, put_z, List.set])
  refine tk (i := 6) (v := ?_) rfl (by kernel_rfl) (fun _ _ _ h => h) (by rfl) (by assumption) ?_ ?_
  rotate_left
  · intro w hSw; (try dsimp only at hSw); go_simp; (try with_reducible rfl)
  (try simp only [put_l, put_z, List.set])
  refine wpAnyH_ready (rs := [5]) (by kernel_rfl) (by simp) ?_
  refine AllReadyH.cons rfl (fun K hK => ?_) AllReadyH.nil
  (go_simp; go_at_call 141; refine (cnumber_bool _).mono ?_; rintro e w6 ⟨rfl, hb6⟩; have N3 := (N2.out.below (Below.refl _ _).drew).below hb6; have hc6 := N3.cells.1; obtain ⟨g, cap', hsl, hcap, hfr, ⟨y, hy⟩, hg, N4⟩ := Cp.setCode (i := s.code.length) (x := .choice (numberL 4) [(0, L, 0), (1, s.code.length + 1, 1)] none) (v := .iface 321 (.agg #[.int .i64 0, .int .i64 1, .slice none 0 0, .bool false, .map (some w2.heap.size), .pointer none])) N3 ⟨[.int .i64 0, .int .i64 1, .slice none 0 0, .bool false], w2.heap.size, .pointer none, rfl, numIn_plain (n := numberL 4) _ (numberL_mem 4), by simp, rfl⟩ (by rw [hL]; exact hidn); have N4 := Hid.mk N4; clear N3; cases hsl)
  refine hK.out _ _ ?_ (fun hHeld => ?_)
  · go_keep
  clear hK K
  (try simp only [put_l, put_z, List.set])
  refine tk (i := 7) (v := ?_) rfl (by kernel_rfl) (fun _ _ _ h => h) (by rfl) (by assumption) ?_ ?_
  rotate_left
  · intro w hSw; (try dsimp only at hSw); go_simp; (try with_reducible rfl)
  (try simp only [put_l, put_z, List.set])
  refine tk (i := 8) (v := ?_) rfl (by kernel_rfl) (fun _ _ _ h => h) (by rfl) (by assumption) ?_ ?_
  rotate_left
  · intro w hSw; (try dsimp only at hSw); go_simp; (try with_reducible rfl)
  (try simp only [put_l, put_z, List.set])
  refine tk (i := 9) (v := ?_) rfl (by kernel_rfl) (fun _ _ _ h => h) (by rfl) (by assumption) ?_ ?_
  rotate_left
  · intro w hSw; (try dsimp only at hSw); go_simp; (try with_reducible rfl)
  (try simp only [put_l, put_z, List.set])
  refine wpAnyH_done (by kernel_rfl) ?_ _
  refine last_step rfl (fun K hK => ?_)
  go_simp
  refine hK.out _ _ ?_
  clear hK K
  (try simp only [put_l, put_z, List.set])
  go_wp2
  go_end0
  exact ⟨rfl, (GivesCp.more (fun p hp => List.mem_cons_of_mem _ (HB2.out p hp)) N4.out.gives).tail⟩
theorem value_arr {w u : World} {a : CAd} {Fr bs : List (Nat × Obj)} {s : CSt} {sl ks : Value} {cv : List (StepL × Value)} {et : List (List UInt8 × NumL × Value)} {o : Ty} (n : Int) (f : Bool) (hf : Flat o) (h : Cp w a Fr bs s sl ks cv et u) (hr : Room s 3) :
    Calls Tryz.prog 96 #[.pointer (some ⟨a.C, 0, none⟩), .iface 311 (.agg #[tyV o, .int .i64 n, .bool f])] u fun e u' => e = .returned (.tuple #[]) ∧ GivesCp w a Fr bs (valueM (.arr o n f) s) u' := by
  obtain ⟨T, x, hT⟩ := tyV_iface o
  have HT := Hid.mk hT
  rw [hT]
  have t0 : ∀ W, (Instr.typeAssert (.iface 311 (.agg #[.iface T x, .int .i64 n, .bool f])) 193 213 true).run Tryz.prog W = .ok (.tuple #[.agg #[.string ⟨#[]⟩, .int .i64 0], .bool false]) W := fun W => by kernel_rfl
  have t1 : ∀ W, (Instr.typeAssert (.iface 311 (.agg #[.iface T x, .int .i64 n, .bool f])) 193 301 true).run Tryz.prog W = .ok (.tuple #[.agg #[.int .i64 0], .bool false]) W := fun W => by kernel_rfl
  have t2 : ∀ W, (Instr.typeAssert (.iface 311 (.agg #[.iface T x, .int .i64 n, .bool f])) 193 306 true).run Tryz.prog W = .ok (.tuple #[.agg #[.int .i64 0, .bool false], .bool false]) W := fun W => by kernel_rfl
  have t3 : ∀ W, (Instr.typeAssert (.iface 311 (.agg #[.iface T x, .int .i64 n, .bool f])) 193 309 true).run Tryz.prog W = .ok (.tuple #[.agg #[.int .i64 0, .bool false], .bool false]) W := fun W => by kernel_rfl
  have t4 : ∀ W, (Instr.typeAssert (.iface 311 (.agg #[.iface T x, .int .i64 n, .bool f])) 193 311 true).run Tryz.prog W = .ok (.tuple #[.agg #[.iface T x, .int .i64 n, .bool f], .bool true]) W := fun W => by kernel_rfl
  have hb : ∀ o, Below u.heap.size u (u.alloc o) := fun o => (Below.refl _ _).alloc (Nat.le_refl _) _
  have V := fun ob => array_any n f hf (h.below (hb ob)) hr
  rw [HT.out] at V
  have V := Hid.mk V
  clear h hT
  go_enter Tryz.func96, Tryz.ntmps96
  go_wp2_with fail
  refine (V.out _).mono ?_
  rintro e w2 ⟨rfl, M2⟩
  go_wp2
  go_end0
  exact ⟨rfl, M2⟩
theorem value_opt {w u : World} {a : CAd} {Fr bs : List (Nat × Obj)} {s : CSt} {sl ks : Value} {cv : List (StepL × Value)} {et : List (List UInt8 × NumL × Value)} {o : Ty} (hf : Flat o) (h : Cp w a Fr bs s sl ks cv et u) (hr : Room s 2) :
    Calls Tryz.prog 96 #[.pointer (some ⟨a.C, 0, none⟩), .iface 314 (.agg #[tyV o])] u fun e u' => e = .returned (.tuple #[]) ∧ GivesCp w a Fr bs (valueM (.opt o) s) u' := by
  obtain ⟨T, x, hT⟩ := tyV_iface o
  have HT := Hid.mk hT
  rw [hT]
  have t0 : ∀ W, (Instr.typeAssert (.iface 314 (.agg #[.iface T x])) 193 213 true).run Tryz.prog W = .ok (.tuple #[.agg #[.string ⟨#[]⟩, .int .i64 0], .bool false]) W := fun W => by kernel_rfl
  have t1 : ∀ W, (Instr.typeAssert (.iface 314 (.agg #[.iface T x])) 193 301 true).run Tryz.prog W = .ok (.tuple #[.agg #[.int .i64 0], .bool false]) W := fun W => by kernel_rfl
  have t2 : ∀ W, (Instr.typeAssert (.iface 314 (.agg #[.iface T x])) 193 306 true).run Tryz.prog W = .ok (.tuple #[.agg #[.int .i64 0, .bool false], .bool false]) W := fun W => by kernel_rfl
  have t3 : ∀ W, (Instr.typeAssert (.iface 314 (.agg #[.iface T x])) 193 309 true).run Tryz.prog W = .ok (.tuple #[.agg #[.int .i64 0, .bool false], .bool false]) W := fun W => by kernel_rfl
  have t4 : ∀ W, (Instr.typeAssert (.iface 314 (.agg #[.iface T x])) 193 311 true).run Tryz.prog W = .ok (.tuple #[.agg #[.nilIface, .int .i64 0, .bool false], .bool false]) W := fun W => by kernel_rfl
  have t5 : ∀ W, (Instr.typeAssert (.iface 314 (.agg #[.iface T x])) 193 314 true).run Tryz.prog W = .ok (.tuple #[.agg #[.iface T x], .bool true]) W := fun W => by kernel_rfl
  have hb : ∀ o, Below u.heap.size u (u.alloc o) := fun o => (Below.refl _ _).alloc (Nat.le_refl _) _
  have V := fun ob => optional_any hf (h.below (hb ob)) hr
  rw [HT.out] at V
  have V := Hid.mk V
  clear h hT
  go_enter Tryz.func96, Tryz.ntmps96
  go_wp2_with fail
  refine (V.out _).mono ?_
  rintro e w2 ⟨rfl, M2⟩
  go_wp2
  go_end0
  exact ⟨rfl, M2⟩
theorem cvalue_any {w u : World} {a : CAd} {Fr bs : List (Nat × Obj)} {s : CSt} {sl ks : Value} {cv : List (StepL × Value)} {et : List (List UInt8 × NumL × Value)} {t : Ty} (hf : OneDeep t) (h : Cp w a Fr bs s sl ks cv et u) (hr : Room s 3) :
    Calls Tryz.prog 96 #[.pointer (some ⟨a.C, 0, none⟩), tyV t] u fun e u' => e = .returned (.tuple #[]) ∧ GivesCp w a Fr bs (valueM t s) u' := by
  cases t with
  | arr o n f => exact value_arr n f hf h hr
  | opt o => exact value_opt hf h (hr.less (by omega))
  | named t p => exact value_flat (t := .named t p) trivial h (hr.less (by omega))
  | plain k => exact value_flat (t := .plain k) trivial h (hr.less (by omega))
  | opaq n f => exact value_flat (t := .opaq n f) trivial h (hr.less (by omega))
  | str n f => exact value_flat (t := .str n f) trivial h (hr.less (by omega))
  | void => exact value_flat (t := .void) trivial h (hr.less (by omega))
theorem cstart_any {w u : World} {a : CAd} {Fr bs : List (Nat × Obj)} {s : CSt} {sl ks : Value} {cv : List (StepL × Value)} {et : List (List UInt8 × NumL × Value)} {t : Ty} (hf : OneDeep t) (h : Cp w a Fr bs s sl ks cv et u) (hr : Room s 4) :
    Calls Tryz.prog 101 #[.pointer (some ⟨a.C, 0, none⟩), tyV t] u fun e u' => e = .returned (.int .i64 s.code.length) ∧ GivesCp w a Fr bs (startT t s) u' := by
  have hl : (valueM t s).code.length < 1000000 := by
    have h1 := valueM_len t s
    have h2 := cost_le hf
    have h3 := hr.code
    omega
  have V := Hid.mk (cvalue_any hf h (hr.less (by omega)))
  obtain ⟨T, x, hT⟩ := tyV_iface t
  rw [hT] at V ⊢
  go_enter Tryz.func101, Tryz.ntmps101
  go_wp2_with fail
  refine (here_any h).mono ?_
  rintro e w1 ⟨rfl, rfl⟩
  go_wp2_with fail
  refine V.out.mono ?_
  rintro e w2 ⟨rfl, bs2, sl2, ks2, cv2, et2, hb2, M2⟩
  go_wp2_with fail
  refine (put_any (v := .iface 326 (.agg #[])) (x := .fin) M2 rfl hl).mono ?_
  rintro e w3 ⟨rfl, sl3, M3⟩
  go_wp2
  go_ret
  exact ⟨rfl, bs2, _, _, _, _, hb2, M3⟩
end Go.Proofs.YtmbcibgknckenaaGreatDoor
set_option linter.all false
set_option maxRecDepth 100000
set_option maxHeartbeats 4000000
namespace Go.Proofs.YtmbcibgknckenaaGreatDoor
open Go.RowKit
open Go.MapKept
theorem GivesCp.heap {w u : World} {a : CAd} {Fr bs : List (Nat × Obj)} {s : CSt} (h : GivesCp w a Fr bs s u) {b : Nat} {o : Obj} (hb : w.heap[b]? = some o) : u.heap[b]? = some o := by
  obtain ⟨_, _, _, _, _, _, m⟩ := h
  exact (m.own.kp.block _ (lt_of_heap hb) (by simp)).trans hb
theorem Cp.heap {w u : World} {a : CAd} {Fr bs : List (Nat × Obj)} {s : CSt} {sl ks : Value} {cv : List (StepL × Value)} {et : List (List UInt8 × NumL × Value)} (h : Cp w a Fr bs s sl ks cv et u) {b : Nat} {o : Obj} (hb : w.heap[b]? = some o) : u.heap[b]? = some o := h.gives.heap hb
theorem room_all (ts : List Ty) : ∀ {s : CSt} {n : Nat}, (∀ t ∈ ts, OneDeep t) → Room s (n + 3 * ts.length) → Room (ts.foldl (fun s t => valueM t s) s) n := by
  induction ts with
  | nil => intro s n _ h; exact h
  | cons t ts ih =>
    intro s n hty h
    have hc := cost_le (hty t (by simp))
    exact ih (fun t ht => hty t (List.mem_cons_of_mem _ ht)) (Room.value t (h.less (by simp only [List.length_cons]; omega)))
theorem structure_c {w u : World} {a : CAd} {Fr bs : List (Nat × Obj)} {s : CSt} {sl ks : Value} {cv : List (StepL × Value)} {et : List (List UInt8 × NumL × Value)} {bs0 : List (Nat × Obj)} {b at' : Nat} {t : List UInt8} {ms : List DeclL} (hd : DefIn bs0 b (.struct t at' ms)) (hw : ∀ p ∈ bs0, w.heap[p.1]? = some p.2) (hty : ∀ m ∈ ms, OneDeep m.ty) (h : Cp w a Fr bs s sl ks cv et u) (hr : Room s (4 + 3 * ms.length)) :
    Calls Tryz.prog 99 #[.pointer (some ⟨a.C, 0, none⟩), .pointer (some ⟨b, 0, none⟩)] u fun e u' => e = .returned (.tuple #[]) ∧ GivesCp w a Fr bs (structureM ms s) u' := by
  obtain ⟨msl, hb, hsl⟩ := hd
  have hbox := hw _ hb
  obtain ⟨k0, k1, k2, _⟩ := bound3 (h.heap hbox)
  have HB := Hid.mk (fun (v : World) (g : GivesCp w a Fr bs (putM (.struct ms.length true) s) v) => bound3 (g.heap hbox))
  have hr0 := hr.code
  have hr1 : Room (putM (.struct ms.length true) s) (3 + 3 * ms.length) := Room.put (hr.less (by omega)) _
  have HRM := Hid.mk hr1
  have HTY := Hid.mk hty
  have H := Hid.mk h
  clear h hty hr1 hr
  rcases hsl with ⟨rfl, h0, _⟩ | ⟨g, cap, cur, rfl, ⟨hcap, hms⟩, hg, htake⟩
  · have hnil : ms = [] := List.length_eq_zero_iff.1 h0
    subst hnil
    go_enter Tryz.func99, Tryz.ntmps99
    go_wp2_with fail
    refine (put_any (x := .struct 0 true) H.out rfl (by omega)).mono ?_
    rintro e w1 ⟨rfl, sl1, M1⟩
    obtain ⟨q0, q1, q2, _⟩ := HB.out _ M1.gives
    have G1 := Hid.mk M1.gives
    clear M1
    go_wp2
    go_loopw [21] (fun i ur => i = .int .i64 0 ∧ ur = w1) (fun _ _ => 0)
    case atStart => exact ⟨rfl, rfl⟩
    case round =>
      obtain ⟨rfl, rfl⟩ := hrel
      go_wp2
      go_end0
      exact ⟨rfl, G1.out⟩
  · have hgw := hw _ hg
    have hrow : ∀ (v : World) (s' : CSt), GivesCp w a Fr bs s' v → ∀ i (hi : i < ms.length), v.cell? ⟨g, i * 3, none⟩ = some (.string ⟨ms[i].t.toArray⟩) ∧ v.cell? ⟨g, i * 3 + 1, none⟩ = some (.int .i64 ms[i].at') ∧ v.cell? ⟨g, i * 3 + 2, none⟩ = some (tyV ms[i].ty) := by
      intro v s' gv i hi
      have hgb := gv.heap hgw
      have hf := flat_get (c := declC) (n := 3) (fun _ => rfl) ms i
      refine ⟨row_cell' hgb htake ?_, row_cell' hgb htake ?_, row_cell' hgb htake ?_⟩
      · have := hf 0 hi (by omega); simpa using this
      · have := hf 1 hi (by omega); simpa using this
      · have := hf 2 hi (by omega); simpa using this
    have HR := Hid.mk hrow
    clear hrow
    go_enter Tryz.func99, Tryz.ntmps99
    go_wp2_with fail
    refine (put_any (x := .struct ms.length true) H.out rfl (by omega)).mono ?_
    rintro e w1 ⟨rfl, sl1, M1⟩
    obtain ⟨q0, q1, q2, _⟩ := HB.out _ M1.gives
    have G1 := Hid.mk M1.gives
    clear M1
    go_wp2
    go_loopw [21] (fun i ur => ∃ (k : Nat), i = .int .i64 k ∧ k ≤ ms.length ∧ Hid (GivesCp w a Fr bs ((ms.take k).foldl (fun s m => valueM m.ty s) (putM (.struct ms.length true) s)) ur)) (fun i _ => ms.length - (intOf i).toNat)
    case atStart => exact ⟨0, rfl, by omega, G1⟩
    case round =>
      obtain ⟨k, rfl, hk, G⟩ := hrel
      clear G1
      rcases Nat.lt_or_ge k ms.length with hlt | hge
      · obtain ⟨p0, p1, p2⟩ := HR.out _ _ G.out k hlt
        obtain ⟨T1, v1, h1⟩ := tyV_iface ms[k].ty
        have HT := Hid.mk h1
        rw [h1] at p2
        have hi0 : (0 : Int) ≤ ↑k := by omega
        have hi1 : (↑k : Int) < ↑ms.length := by omega
        obtain ⟨bs2, sl2, ks2, cv2, et2, hb2, M2⟩ := G.out
        have hrm : Room ((ms.take k).foldl (fun s m => valueM m.ty s) (putM (.struct ms.length true) s)) 3 := by
          have e := room_all ((ms.take k).map (·.ty)) (s := putM (.struct ms.length true) s) (n := 3) (by intro t ht; obtain ⟨m, hm, rfl⟩ := List.mem_map.1 ht; exact HTY.out m (List.mem_of_mem_take hm)) (HRM.out.less (by simp; omega))
          rw [List.foldl_map] at e
          exact e
        have V := fun ob => cvalue_any (HTY.out ms[k] (List.getElem_mem hlt)) (M2.below ((Below.refl wr.heap.size wr).alloc (Nat.le_refl _) ob)) hrm
        rw [HT.out] at V
        have V := Hid.mk V
        have HB2 := Hid.mk hb2
        clear M2 hb2 h1 hrm
        go_wp2_with fail
        refine (V.out _).mono ?_
        rintro e w2 ⟨rfl, M3⟩
        have G3 : Hid (GivesCp w a Fr bs ((ms.take (k + 1)).foldl (fun s m => valueM m.ty s) (putM (.struct ms.length true) s)) w2) := by
          rw [List.take_succ_eq_append_getElem hlt, List.foldl_append]
          exact GivesCp.more HB2.out M3
        clear M3
        go_wp2
        exact ⟨⟨k + 1, by go_num, by omega, G3⟩, by simp [intOf]; omega⟩
      · have hkk : k = ms.length := by omega
        subst hkk
        go_wp2
        go_end0
        refine ⟨rfl, ?_⟩
        have := G.out
        rw [List.take_length] at this
        exact this
end Go.Proofs.YtmbcibgknckenaaGreatDoor
set_option linter.all false
set_option maxRecDepth 100000
set_option maxHeartbeats 4000000
namespace Go.Proofs.YtmbcibgknckenaaGreatDoor
open Go.RowKit
open Go.MapKept
abbrev numA (lo hi : Int) (a : Option Addr) (b c : Nat) (wd : Bool) : List Value := [.int .i64 lo, .int .i64 hi, .slice a b c, .bool wd]
theorem NumIn.parts {bs : List (Nat × Obj)} {cs : List Value} {n : NumL} (h : NumIn bs cs n) : ∃ lo hi a b c wd, cs = numA lo hi a b c wd := by
  obtain ⟨m, h1, _, x, y, z, rfl⟩ := h
  exact ⟨_, _, _, _, _, _, h1⟩
theorem selector_c {w u : World} {a : CAd} {Fr bs : List (Nat × Obj)} {s : CSt} {sl ks : Value} {cv : List (StepL × Value)} {et : List (List UInt8 × NumL × Value)} {t : Ty} (ht : Simple t) (h : Cp w a Fr bs s sl ks cv et u) :
    Calls Tryz.prog 144 #[.pointer (some ⟨a.C, 0, none⟩), tyV t] u fun e u' => ∃ lo hi x y z wd, e = .returned (.agg (numA lo hi x y z wd).toArray) ∧ NumIn bs (numA lo hi x y z wd) (selectorM s t) ∧ Below u.heap.size u u' := by
  have hb1 : ∀ o, Below u.heap.size u (u.alloc o) := fun o => (Below.refl _ _).alloc (Nat.le_refl _) _
  have hb2 : ∀ o o', Below u.heap.size u ((u.alloc o).alloc o') := fun o o' => (hb1 o).alloc (by simp) _
  cases t with
  | named n p =>
    have t0 : ∀ W, (Instr.typeAssert (.iface 213 (.agg #[.string ⟨n.toArray⟩, .int .i64 p])) 193 213 true).run Tryz.prog W = .ok (.tuple #[.agg #[.string ⟨n.toArray⟩, .int .i64 p], .bool true]) W := fun W => by kernel_rfl
    have hM := (h.below (hb2 (.cells #[.int .i64 0, .int .i64 0, .slice none 0 0, .bool false] 200) (.cells #[.string ⟨n.toArray⟩, .int .i64 p] 213))).below (Below.refl _ _).drew
    obtain ⟨v, hlk, cs, rfl, hN⟩ := hM.lookEnum n
    obtain ⟨lo, hi, x, y, z, wd, rfl⟩ := hN.parts
    obtain ⟨c0, c1, c2, c3, hfz, hlt⟩ := h.cells
    have HN := Hid.mk hN
    clear h hM hN
    dsimp only [tyV]
    go_enter Tryz.func144, Tryz.ntmps144
    go_wp2
    go_region
    go_wp2
    refine bodyPost_ret (v := .agg #[.int .i64 lo, .int .i64 hi, .slice x y z, .bool wd]) (by simp [results, Tryz.results144, go_sem]) rfl ⟨lo, hi, x, y, z, wd, rfl, HN.out, ?_⟩
    exact (hb2 _ _).drew
  | plain k =>
    have t0 : ∀ W, (Instr.typeAssert (.iface 301 (.agg #[.int .i64 k])) 193 213 true).run Tryz.prog W = .ok (.tuple #[.agg #[.string ⟨#[]⟩, .int .i64 0], .bool false]) W := fun W => by kernel_rfl
    have t1 : ∀ W, (Instr.typeAssert (.iface 301 (.agg #[.int .i64 k])) 193 301 true).run Tryz.prog W = .ok (.tuple #[.agg #[.int .i64 k], .bool true]) W := fun W => by kernel_rfl
    clear h
    dsimp only [tyV]
    go_enter Tryz.func144, Tryz.ntmps144
    go_wp2_with fail
    refine (cnumber_any k _).mono ?_
    rintro e w2 ⟨rfl, hbw⟩
    have hR : w2.heap[u.heap.size]? = some (.cells #[.int .i64 0, .int .i64 0, .slice none 0 0, .bool false] 200) :=
      (hbw.block _ (by simp; omega)).trans ((Below.heap_alloc _ _ _ (by simp)).trans (heap_alloc_at rfl))
    obtain ⟨r0, r1, r2, r3, hfr⟩ := wordBlock hR
    have hlt := lt_of_heap hR
    obtain ⟨q0, q1, q2, q3, _⟩ := wordBlock (setWord (k' := .int .i64 (numberL k).low) (t' := .int .i64 (numberL k).high) (n' := .slice none 0 0) (a' := .bool (numberL k).wide) hR)
    have HF := Hid.mk (((((hb2 _ _).trans (hbw.mono (by simp; omega))).setCell (p := ⟨u.heap.size, 0, none⟩) (Nat.le_refl _) (.int .i64 (numberL k).low)).setCell (p := ⟨u.heap.size, 1, none⟩) (Nat.le_refl _) (.int .i64 (numberL k).high)).setCell (p := ⟨u.heap.size, 2, none⟩) (Nat.le_refl _) (.slice none 0 0) |>.setCell (p := ⟨u.heap.size, 3, none⟩) (Nat.le_refl _) (.bool (numberL k).wide))
    clear hbw hR hb1 hb2
    go_wp2
    exact bodyPost_ret (v := .agg #[.int .i64 (numberL k).low, .int .i64 (numberL k).high, .slice none 0 0, .bool (numberL k).wide]) (by simp [results, Tryz.results144, go_sem, q0, q1, q2, q3]) rfl ⟨(numberL k).low, (numberL k).high, none, 0, 0, (numberL k).wide, rfl, numIn_plain _ (numberL_mem k), HF.out⟩
  | _ => simp [Simple] at ht
theorem arm_c {w u : World} {a : CAd} {Fr bs : List (Nat × Obj)} {s : CSt} {sl ks : Value} {cv : List (StepL × Value)} {et : List (List UInt8 × NumL × Value)} {d : DeclL} {ca : Option Addr} {cn cc : Nat} (hty : OneDeep d.ty) (h : Cp w a Fr bs s sl ks cv et u) (hr : Room s 3) :
    Calls Tryz.prog 145 #[.pointer (some ⟨a.C, 0, none⟩), .agg #[.slice ca cn cc, .string ⟨d.t.toArray⟩, .int .i64 d.at', tyV d.ty]] u fun e u' => e = .returned (.agg #[.int .i64 (wayM d s).1, .int .i64 (wayM d s).2]) ∧ GivesCp w a Fr bs (armM d s) u' := by
  have M0 := (h.alloc (.cells #[.slice ca cn cc, .string ⟨d.t.toArray⟩, .int .i64 d.at', tyV d.ty] 292)).alloc (.cells #[.int .i64 0, .int .i64 0] 323)
  have HH := Hid.mk (here_any M0)
  have M1 := M0.alloc (.cells #[.int .i64 s.code.length, .int .i64 1] 323)
  cases hv : isVoid d.ty with
  | true =>
    have hvoid : d.ty = .void := by cases hd : d.ty <;> rw [hd] at hv <;> simp [isVoid] at hv
    have hta : ∀ W, (Instr.typeAssert (.iface 340 (.agg #[])) 193 340 true).run Tryz.prog W = .ok (.tuple #[.agg #[], .bool true]) W := fun W => by kernel_rfl
    have E1 : Hid (wayM d s = (s.code.length, 0)) := by show _ = _; simp [wayM, hvoid, isVoid]
    have E2 : Hid (armM d s = s) := by show _ = _; simp [armM, hvoid, valueM]
    rw [hvoid] at M0 M1 HH ⊢
    dsimp only [tyV] at M0 M1 HH ⊢
    have H := Hid.mk h
    clear h M0 M1 hvoid hv hty
    go_enter Tryz.func145, Tryz.ntmps145
    go_wp2_with fail
    refine HH.out.mono ?_
    rintro e w2 ⟨rfl, rfl⟩
    go_wp2
    refine bodyPost_ret (v := .agg #[.int .i64 s.code.length, .int .i64 0]) (by simp [results, Tryz.results145, go_sem]) rfl ⟨by rw [E1.out]; rfl, ?_⟩
    rw [E2.out]
    exact ((((H.out.alloc _).alloc _).alloc _).tail.tail.tail).gives
  | false =>
    have hta : ∀ W, (Instr.typeAssert (tyV d.ty) 193 340 true).run Tryz.prog W = .ok (.tuple #[.agg #[], .bool false]) W := by
      intro W
      cases hd : d.ty with
      | void => rw [hd] at hv; simp [isVoid] at hv
      | _ => kernel_rfl
    have E1 : Hid (wayM d s = (s.code.length, 1)) := by show _ = _; simp [wayM, hv]
    obtain ⟨T, x, hT⟩ := tyV_iface d.ty
    have V := cvalue_any hty M1 hr
    rw [hT] at M0 M1 HH hta V ⊢
    have V := Hid.mk V
    clear h M0 M1 hv hty hT
    go_enter Tryz.func145, Tryz.ntmps145
    go_wp2_with fail
    refine HH.out.mono ?_
    rintro e w2 ⟨rfl, rfl⟩
    go_wp2_with fail
    refine V.out.mono ?_
    rintro e w3 ⟨rfl, bs3, sl3, ks3, cv3, et3, hb3, M3⟩
    have o5 := (M3.own.hf _ List.mem_cons_self).1
    have oR := (M3.own.hf _ (List.mem_cons_of_mem _ List.mem_cons_self)).1
    have M4 := M3.tail
    simp only [World.size_alloc, Nat.add_assoc] at o5 oR M4
    clear M3
    have c5 : w3.cell? ⟨u.heap.size + 2, 0, none⟩ = some (.int .i64 s.code.length) ∧ w3.cell? ⟨u.heap.size + 2, 1, none⟩ = some (.int .i64 1) := by constructor <;> simp [World.cell?, o5]
    have cR : w3.cell? ⟨u.heap.size + 1, 0, none⟩ = some (.int .i64 0) ∧ w3.cell? ⟨u.heap.size + 1, 1, none⟩ = some (.int .i64 0) ∧ ∀ i, w3.frozen? ⟨u.heap.size + 1, i, none⟩ = false := by refine ⟨?_, ?_, ?_⟩ <;> simp [World.cell?, World.frozen?, oR]
    obtain ⟨c50, c51⟩ := c5
    obtain ⟨cR0, cR1, cRf⟩ := cR
    have oR1 := setBlock (i := 1) (setBlock (i := 0) oR (.int .i64 s.code.length)) (.int .i64 1)
    have cQ : ((w3.setCell ⟨u.heap.size + 1, 0, none⟩ (.int .i64 s.code.length)).setCell ⟨u.heap.size + 1, 1, none⟩ (.int .i64 1)).cell? ⟨u.heap.size + 1, 0, none⟩ = some (.int .i64 s.code.length) ∧ ((w3.setCell ⟨u.heap.size + 1, 0, none⟩ (.int .i64 s.code.length)).setCell ⟨u.heap.size + 1, 1, none⟩ (.int .i64 1)).cell? ⟨u.heap.size + 1, 1, none⟩ = some (.int .i64 1) := by constructor <;> simp [World.cell?, oR1]
    obtain ⟨cQ0, cQ1⟩ := cQ
    have M5 := M4.setFr (((Keeps.refl [u.heap.size + 1] w3).setIn (p := ⟨u.heap.size + 1, 0, none⟩) (by simp) (.int .i64 s.code.length)).setIn (p := ⟨u.heap.size + 1, 1, none⟩) (by simp) (.int .i64 1)) oR1
    have M5 := Hid.mk M5
    have hltR := lt_of_heap oR
    have HB := Hid.mk hb3
    clear M4 o5 oR oR1 hb3
    go_wp2
    refine bodyPost_ret (v := .agg #[.int .i64 s.code.length, .int .i64 1]) (by simp [results, Tryz.results145, go_sem, cQ0, cQ1]) rfl ⟨by rw [E1.out]; rfl, ?_⟩
    exact GivesCp.more HB.out M5.out.tail.tail.gives
end Go.Proofs.YtmbcibgknckenaaGreatDoor
