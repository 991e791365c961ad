import Derived.Test.YtmbcibgknckenaaGreatDoorT5
set_option linter.all false
set_option maxRecDepth 100000
set_option maxHeartbeats 4000000
namespace Go.Proofs.YtmbcibgknckenaaGreatDoor
open Go.RowKit
open Go.MapKept
def Kn (l l':List (List UInt8×Option DefL)):Prop:=(∀ k,(look l k).isSome→(look l' k).isSome)∧∀ k d,look l' k=some (some d)→look l k=some (some d)∨∃ t a v,d = .const t a v
theorem Kn.refl (l:List (List UInt8×Option DefL)):Kn l l:=⟨fun _ h=>h,fun _ _ h=>Or.inl h⟩
theorem Kn.trans {a b c:List (List UInt8×Option DefL)} (h:Kn a b) (k:Kn b c):Kn a c:=⟨fun x hx=>k.1 x (h.1 x hx),fun x d hx=>by
 rcases k.2 x d hx with h' | h'
 ·exact h.2 x d h'
 ·exact Or.inr h'⟩
theorem Q8t {l:List (List UInt8×Option DefL)} {p:List UInt8×Option DefL} (k:List UInt8):look (l++[p]) k=match look l k with | some o=>some o | none=>if p.1 == k then some p.2 else none:=by
 unfold look
 rw [List.find?_append]
 cases hf:l.find? (fun p=>p.1 == k) with
 | some q=>rfl
 | none=>
  simp only [Option.none_or,List.find?_cons,List.find?_nil]
  cases p.1 == k<;>rfl
theorem Q8u {k:List UInt8} {d:DefL} (j:List UInt8):∀ (l:List (List UInt8×Option DefL)),look (Q0b l k d) j=(look l j).map (fun o=>if j == k then some d else o):=by
 intro l
 unfold look Q0b
 induction l with
 | nil=>rfl
 | cons p l ih=>
  rw [List.map_cons,List.find?_cons,List.find?_cons]
  have e:(if p.1 == k then (p.1,some d) else p).1=p.1:=by cases p.1 == k<;>rfl
  rw [e]
  by_cases hj:p.1=j
  ·subst hj
   simp
   by_cases hk:p.1=k<;>simp [hk]
  ·have:(p.1 == j)=false:=by simpa using hj
   rw [this]
   exact ih
def Le (σ σ':St):Prop:=σ.types≤σ'.types∧σ.consts≤σ'.consts∧σ'.progs = σ.progs∧(σ.types≤24→σ'.types≤24)∧(σ.consts≤40→σ'.consts≤40)∧Kn σ.names σ'.names
theorem Le.refl (σ:St):Le σ σ:=⟨Nat.le_refl _,Nat.le_refl _,rfl,id,id,Kn.refl _⟩
theorem Le.trans {a b c:St} (h:Le a b) (k:Le b c):Le a c:=⟨Nat.le_trans h.1 k.1,Nat.le_trans h.2.1 k.2.1,k.2.2.1.trans h.2.2.1,fun x=>k.2.2.2.1 (h.2.2.2.1 x),fun x=>k.2.2.2.2.1 (h.2.2.2.2.1 x),h.2.2.2.2.2.trans k.2.2.2.2.2⟩
def Mono {α:Type} (m:PM α):Prop:=∀ σ a σ',m σ = .ok (a,σ')→Le σ σ'
def QO {τ α:Type} (m:PX τ α):Prop:=∀ t σ a t' σ',m t σ = .ok (a,t',σ')→Le σ σ'
theorem Q0F {α β:Type} {m:PM α} {f:α→PM β} (hm:Mono m) (hf:∀ a,Mono (f a)):Mono (bnd m f):=by
 intro σ b σ' h
 cases hx:m σ with
 | error e=>rw [Qq hx] at h;cases h
 | ok p=>obtain ⟨a,σ1⟩:=p;rw [Qg hx] at h;exact (hm _ _ _ hx).trans (hf a _ _ _ h)
theorem Q1p {α:Type} (a:α):Mono (ret a):=by intro σ b σ' h;simp only [ret] at h;cases h;exact Le.refl _
theorem Q2Y {α:Type} (n k:Nat):Mono (thr (α:=α) n k):=by intro σ b σ' h;simp only [thr] at h;cases h
theorem Q2D {α:Type} {c:Bool} {a b:PM α} (ha:Mono a) (hb:Mono b):Mono (if c then a else b):=by cases c<;>assumption
theorem QW {τ α β:Type} {m:PX τ α} {f:α→PX τ β} (hm:QO m) (hf:∀ a,QO (f a)):QO (bndx m f):=by
 intro t σ b t' σ' h
 cases hx:m t σ with
 | error e=>rw [Ql hx] at h;cases h
 | ok p=>obtain ⟨a,t1,σ1⟩:=p;rw [Qh hx] at h;exact (hm _ _ _ _ _ hx).trans (hf a _ _ _ _ _ h)
theorem QI {τ α:Type} {m:PM α} (hm:Mono m):QO (lift (τ:=τ) m):=by
 intro t σ b t' σ' h
 cases hx:m σ with
 | error e=>rw [Qv hx] at h;cases h
 | ok p=>obtain ⟨a,σ1⟩:=p;rw [Qj hx] at h;cases h;exact hm _ _ _ hx
theorem Q0w {τ α:Type} (a:α):QO (retx (τ:=τ) a):=by intro t σ b t' σ' h;simp only [retx] at h;cases h;exact Le.refl _
theorem Qep {τ α:Type} (n k:Nat):QO (thrx (τ:=τ) (α:=α) n k):=by intro t σ b t' σ' h;simp only [thrx] at h;cases h
theorem Q1T {τ α:Type} {c:Bool} {a b:PX τ α} (ha:QO a) (hb:QO b):QO (if c then a else b):=by cases c<;>assumption
theorem Q91 {τ:Type} (c:τ→Except Mar.Fault τ):QO (Q4b c):=by
 intro t σ b t' σ' h
 cases hx:c t with
 | error e=>rw [Q4v hx] at h;cases h
 | ok p=>rw [Q4u hx] at h;cases h;exact Le.refl _
theorem Q62 {τ ρ α:Type} {m:PX τ α} (hm:QO m):QO (onL (ρ:=ρ) m):=by
 rintro ⟨t,l⟩ σ b t' σ' h
 cases hx:m t σ with
 | error e=>rw [Q5r hx] at h;cases h
 | ok p=>obtain ⟨a,t1,σ1⟩:=p;rw [Q6s hx] at h;cases h;exact hm _ _ _ _ _ hx
theorem Q7o {τ ρ α:Type} {m:PX ρ α} (hm:QO m):QO (onR (τ:=τ) m):=by
 rintro ⟨t,l⟩ σ b t' σ' h
 cases hx:m l σ with
 | error e=>rw [Q7V hx] at h;cases h
 | ok p=>obtain ⟨a,t1,σ1⟩:=p;rw [Q8U hx] at h;cases h;exact hm _ _ _ _ _ hx
theorem Q50 {τ:Type} {m:PX τ Unit} (hm:QO m) (t:τ):Mono (runx m t):=by
 intro σ b σ' h
 cases hx:m t σ with
 | error e=>rw [Q5D hx] at h;cases h
 | ok p=>obtain ⟨a,t1,σ1⟩:=p;rw [Q42 hx] at h;cases h;exact hm _ _ _ _ _ hx
theorem Q63 {τ α:Type} {m:PX τ α} (hm:QO m) (t:τ):Mono (runy m t):=by
 intro σ b σ' h
 cases hx:m t σ with
 | error e=>rw [Q2V hx] at h;cases h
 | ok p=>obtain ⟨a,t1,σ1⟩:=p;rw [Q4x hx] at h;cases h;exact hm _ _ _ _ _ hx
theorem Qa6 {α:Type} {m:PX Unit α} (hm:QO m):Mono (bare m):=by
 intro σ b σ' h
 cases hx:m () σ with
 | error e=>simp only [bare,hx] at h;cases h
 | ok p=>obtain ⟨a,t1,σ1⟩:=p;simp only [bare,hx] at h;cases h;exact hm _ _ _ _ _ hx
theorem Q64 (text:ByteArray):Mono (peek text):=by
 intro σ b σ' h
 unfold peek at h
 split at h<;>cases h
 exact ⟨Nat.le_refl _,Nat.le_refl _,rfl,id,id,Kn.refl _⟩
theorem Q2N (text:ByteArray):Mono (next text):=by
 intro σ b σ' h
 unfold next at h
 split at h<;>cases h
 exact ⟨Nat.le_refl _,Nat.le_refl _,rfl,id,id,Kn.refl _⟩
theorem Q3p (text:ByteArray) (t:List UInt8):Mono (sees text t):=by
 intro σ b σ' h
 unfold sees at h
 cases hx:peek text σ with
 | error e=>simp only [hx] at h;cases h
 | ok p=>obtain ⟨x,σ1⟩:=p;simp only [hx] at h;cases h;exact Q64 _ _ _ _ hx
theorem Q4d (k:Nat):Mono (Q1s k):=by
 intro σ b σ' h
 unfold Q1s at h
 split at h<;>cases h
 exact ⟨Nat.le_succ _,Nat.le_refl _,rfl,fun _=>by dsimp only;omega,id,Kn.refl _⟩
theorem Q76 (k:Nat):Mono (Q1B k):=by
 intro σ b σ' h
 unfold Q1B at h
 split at h<;>cases h
 exact ⟨Nat.le_refl _,Nat.le_succ _,rfl,id,fun _=>by dsimp only;omega,Kn.refl _⟩
theorem Q6L (a b c:Nat):Mono (Q0P a b c):=by
 intro σ x σ' h
 unfold Q0P at h
 split at h<;>cases h
 exact Le.refl _
theorem Qeq (k:List UInt8) (t:List UInt8) (a:Nat) (v:Int):Mono (QaZ k (.const t a v)):=by
 intro σ x σ' h
 simp only [QaZ] at h
 cases h
 refine ⟨Nat.le_refl _,Nat.le_refl _,rfl,id,id,?_,?_⟩
 ·intro j hj
  dsimp only
  rw [Q8u]
  simpa using hj
 ·intro j d hd
  dsimp only at hd
  rw [Q8u] at hd
  cases hl:look σ.names j with
  | none=>rw [hl] at hd;cases hd
  | some o=>
   rw [hl] at hd
   simp only [Option.map_some,Option.some.injEq] at hd
   split at hd
   ·cases hd;exact Or.inr ⟨t,a,v,rfl⟩
   ·subst hd;exact Or.inl rfl
theorem Q92 (x:Mar.Word):Mono (Q0v x):=by
 intro σ a σ' h
 unfold Q0v at h
 split at h<;>cases h
 exact Le.refl _
theorem Q9H (x:Mar.Word):Mono (Q0I x):=by
 intro σ a σ' h
 unfold Q0I at h
 split at h<;>cases h
 exact Le.refl _
theorem QcS (x:Mar.Word):Mono (Q18 x):=by
 intro σ a σ' h
 unfold Q18 at h
 split at h<;>cases h
 refine ⟨Nat.le_refl _,Nat.le_refl _,rfl,id,id,?_,?_⟩
 ·intro j hj
  dsimp only
  rw [Q8t]
  cases hl:look σ.names j with
  | none=>rw [hl] at hj;cases hj
  | some o=>rfl
 ·intro j d hd
  dsimp only at hd
  rw [Q8t] at hd
  cases hl:look σ.names j with
  | none=>
   rw [hl] at hd
   simp only at hd
   split at hd<;>cases hd
  | some o=>rw [hl] at hd;exact Or.inl hd
theorem Q0V (text:ByteArray) (t:List UInt8):Mono (Q0B text t):=by
 unfold Q0B
 repeat' (first | assumption | exact Q1p _ | exact Q2N _ | exact Q3p _ _ | refine Q0F ?_ ?_ | refine Q2D ?_ ?_ | (intro _))
theorem QA (text:ByteArray) (t:List UInt8):Mono (QS text t):=by
 unfold QS
 repeat' (first | assumption | exact Q1p _ | exact Q2Y _ _ | exact Q2N _ | refine Q0F ?_ ?_ | refine Q2D ?_ ?_ | (intro _))
theorem Q9I (text:ByteArray) (x:Mar.Word):Mono (Q0k text x):=by
 unfold Q0k
 repeat' (first | assumption | exact Q1p _ | exact Q2Y _ _ | exact Q0V _ _ | refine Q0F ?_ ?_ | refine Q2D ?_ ?_ | (intro _))
theorem Q77 (text:ByteArray):Mono (Q1b text):=by
 unfold Q1b
 repeat' (first | assumption | exact Q2N _ | exact Q9I _ _ | refine Q0F ?_ ?_ | (intro _))
theorem QbA (x:Mar.Word):Mono (Q1i x):=by
 unfold Q1i
 repeat' (first | assumption | exact Q1p _ | exact Q2Y _ _ | exact Q92 _ | refine Q2D ?_ ?_ | (intro _))
theorem Q4e (text:ByteArray) (p:Int→Bool):Mono (value text p):=by
 unfold value
 repeat' (first | assumption | exact Q1p _ | exact Q2Y _ _ | exact Q2N _ | exact QbA _ | refine Q0F ?_ ?_ | refine Q2D ?_ ?_ | (intro _))
theorem Q7p (text:ByteArray):Mono (most text):=by
 unfold most
 repeat' (first | assumption | exact Q1p _ | exact Q0V _ _ | exact QA _ _ | exact Q4e _ _ | refine Q0F ?_ ?_ | refine Q2D ?_ ?_ | (intro _))
theorem Q5b (text:ByteArray):Mono (bound text):=by
 unfold bound
 repeat' (first | assumption | exact Q1p _ | exact Q0V _ _ | exact QA _ _ | exact Q4e _ _ | exact Q7p _ | refine Q0F ?_ ?_ | refine Q2D ?_ ?_ | (intro _))
theorem QfE (text:ByteArray):Mono (side text):=by
 unfold side
 repeat' (first | assumption | exact Q1p _ | exact Q0V _ _ | exact Q77 _ | refine Q0F ?_ ?_ | refine Q2D ?_ ?_ | (intro _))
theorem Q3R (text:ByteArray) (p:Int→Bool):QO (number text p):=by
 unfold number
 repeat' (first | assumption | exact Q0w _ | exact Q91 _ | exact Q4e _ _ | refine QW ?_ ?_ | refine QI ?_ | (intro _))
theorem Q8f (text:ByteArray):QO (Q3b text):=by
 unfold Q3b
 repeat' (first | assumption | exact Q0w _ | exact QA _ _ | exact Q3R _ _ | refine QW ?_ ?_ | refine QI ?_ | (intro _))
theorem Q51 {τ:Type} (text:ByteArray) (C:Q0e τ) (hC:∀ x,QO (C.run x)):QO (name text C):=by
 unfold name
 repeat' (first | exact hC _ | assumption | exact Q0w _ | exact Qep _ _ | exact Q2N _ | refine QW ?_ ?_ | refine QI ?_ | refine Q1T ?_ ?_ | (intro _))
theorem Q6h (x:Mar.Word) (a b:Nat):QO ((Qr a b).run x):=Q91 _
theorem Q7q (A:Ad) (x:Mar.Word):QO ((Q0U A).run x):=QI (QcS x)
theorem Q93 {τ:Type} (text:ByteArray) (n:List UInt8×Nat) (ty:Ty):QO (Q4L (τ:=τ) text n ty):=by
 unfold Q4L
 repeat' (first | assumption | exact Q0w _ | exact Q5b _ | refine QW ?_ ?_ | refine QI ?_ | (intro _))
theorem QcT {τ:Type} (text:ByteArray) (n:List UInt8×Nat) (ty:Ty) (y:Bool):QO (Q4W (τ:=τ) text n ty y):=by
 unfold Q4W
 repeat' (first | assumption | exact Q0w _ | exact Q93 _ _ _ | refine Q1T ?_ ?_ | (intro _))
theorem QcU {τ:Type} (text:ByteArray) (n:List UInt8×Nat) (ty:Ty) (y:Bool):QO (Q4X (τ:=τ) text n ty y):=by
 unfold Q4X
 repeat' (first | assumption | exact Q3p _ _ | exact Q93 _ _ _ | exact QcT _ _ _ _ | refine QW ?_ ?_ | refine QI ?_ | refine Q1T ?_ ?_ | (intro _))
theorem QcV {τ:Type} (text:ByteArray) (ty:Ty) (n:List UInt8×Nat):QO (Q3L (τ:=τ) text ty n):=by
 unfold Q3L
 repeat' (first | assumption | exact Q3p _ _ | exact QcU _ _ _ _ | refine QW ?_ ?_ | refine QI ?_ | (intro _))
theorem Qer {τ:Type} (text:ByteArray) (C:Q0e τ) (hC:∀ x,QO (C.run x)) (ty:Ty) (y:Bool):QO (Q4M text C ty y):=by
 unfold Q4M
 repeat' (first | exact Q51 _ _ hC | exact hC _ | assumption | exact Q0w _ | exact QcV _ _ _ | refine QW ?_ ?_ | refine Q1T ?_ ?_ | (intro _))
theorem QcW {τ:Type} (text:ByteArray) (C:Q0e τ) (hC:∀ x,QO (C.run x)) (ty:Ty):QO (Q4c text C ty):=by
 unfold Q4c
 repeat' (first | exact hC _ | assumption | exact Q0V _ _ | exact Qer _ _ hC _ _ | refine QW ?_ ?_ | refine QI ?_ | (intro _))
theorem QcX {τ:Type} (text:ByteArray) (C:Q0e τ) (hC:∀ x,QO (C.run x)) (y:Bool):QO (Q3M text C y):=by
 unfold Q3M
 repeat' (first | exact Q51 _ _ hC | exact hC _ | assumption | exact Q0w _ | exact Q77 _ | exact Q7p _ | exact QcW _ _ hC _ | refine QW ?_ ?_ | refine QI ?_ | refine Q1T ?_ ?_ | (intro _))
theorem QcY {τ:Type} (text:ByteArray) (C:Q0e τ) (hC:∀ x,QO (C.run x)) (y:Bool):QO (Q3m text C y):=by
 unfold Q3m
 repeat' (first | exact Q51 _ _ hC | exact hC _ | assumption | exact Q0w _ | exact Q0V _ _ | exact Q5b _ | exact QcX _ _ hC _ | refine QW ?_ ?_ | refine QI ?_ | refine Q1T ?_ ?_ | (intro _))
theorem Q7r {τ:Type} (text:ByteArray) (C:Q0e τ) (hC:∀ x,QO (C.run x)) :QO (decl text C ):=by
 unfold decl
 repeat' (first | exact hC _ | assumption | exact Q0V _ _ | exact QcY _ _ hC _ | refine QW ?_ ?_ | refine QI ?_ | (intro _))
theorem QfF {τ:Type} (text:ByteArray) (C:Q0e τ) (hC:∀ x,QO (C.run x)) (y:Bool):QO (armK text C y):=by
 unfold armK
 repeat' (first | assumption | exact Q0w _ | exact Q7r _ _ hC | refine Q1T ?_ ?_ | (intro _))
theorem QgR {τ:Type} (text:ByteArray) (C:Q0e τ) (hC:∀ x,QO (C.run x)):QO (arm text C):=by
 unfold arm
 repeat' (first | assumption | exact Q0w _ | exact Q0V _ _ | exact QA _ _ | exact QfF _ _ hC _ | refine QW ?_ ?_ | refine QI ?_ | (intro _))
theorem Q2h (text:ByteArray):Mono (Q1j text):=Qa6 (Q51 _ _ (Q7q _))
theorem Q7s (text:ByteArray):Mono (Q4w text):=Qa6 (Q7r _ _ (Q7q _))
theorem Q5c (text:ByteArray) (a b:Nat):QO (name text (Qr a b)):=Q51 _ _ (fun x=>Q6h x a b)
theorem Qes (text:ByteArray) (a b:Nat):QO (decl text (Qr a b)):=Q7r _ _ (fun x=>Q6h x a b)
theorem Qa7 (text:ByteArray) (a b:Nat):QO (arm text (Qr a b)):=QgR _ _ (fun x=>Q6h x a b)
theorem Q8g (text:ByteArray) (n:Nat):QO (Q1R text n):=by
 unfold Q1R
 repeat' (first | assumption | exact Q0w _ | exact Q64 _ | exact Q76 _ | exact Q6L _ _ _ | exact Qeq _ _ _ _ | exact QA _ _ | exact Q3R _ _ | exact Q2h _ | refine QW ?_ ?_ | refine QI ?_ | (intro _))
theorem QbB (text:ByteArray) (n:List UInt8×Nat) (ms:List (List UInt8×Nat×Int)):Mono (Q3G text n ms):=by
 unfold Q3G
 repeat' (first | assumption | exact Q1p _ | exact QA _ _ | refine Q0F ?_ ?_ | (intro _))
theorem QbC (text:ByteArray) (n:List UInt8×Nat):∀ (k:Nat) (ms:List (List UInt8×Nat×Int)) (l:List (Int×Int)),Mono (Q0N text n k ms l):=by
 intro k
 induction k with
 | zero=>intro ms l;exact Q2Y _ _
 | succ k ih=>
  intro ms l σ d σ' h
  cases hm:Q1R text ms.length l σ with
  | error f=>rw [Q3O hm] at h;cases h
  | ok p=>
   obtain ⟨m,l',σ1⟩:=p
   rw [Q3H hm] at h
   refine (Q8g _ _ _ _ _ _ _ hm).trans (Q0F (Q0V _ _) (fun y=>?_) _ _ _ h)
   exact Q2D (ih _ _) (QbB _ _ _)
theorem Q5F (text:ByteArray) (a:StAd):QO (Q2q text a):=by
 rintro ⟨ds,t⟩ σ b t' σ' h
 cases hm:decl text (Qr a.q a.bx) t σ with
 | error f=>rw [Q6f hm] at h;cases h
 | ok p=>
  obtain ⟨d,t1,σ1⟩:=p
  rw [Q5a hm] at h
  exact (Qes _ _ _ _ _ _ _ _ hm).trans (QW (QI (QA _ _)) (fun _=>Q0w _) _ _ _ _ _ h)
theorem Q6v {τ α:Type} {run:PX τ α} {piece:PX (List α×τ) Unit} (hr:QO run) (hok:∀ {ps s s' σ σ' d},run s σ = .ok (d,s',σ')→piece (ps,s) σ = .ok ((),(ps++[d],s'),σ')) (herr:∀ {ps s σ f},run s σ = .error f→piece (ps,s) σ = .error f):QO piece:=by
 rintro ⟨ds,t⟩ σ b t' σ' h
 cases hm:run t σ with
 | error f=>rw [herr hm] at h;cases h
 | ok p=>
  obtain ⟨d,t1,σ1⟩:=p
  rw [hok hm] at h
  cases h
  exact hr _ _ _ _ _ hm
theorem QcZ {τ:Type} (text:ByteArray) (most:Nat) (run:PX τ Unit) (hr:QO run):∀ k n,QO (Q19 text most run k n):=by
 intro k
 induction k with
 | zero=>intro n;exact QI (Q2Y _ _)
 | succ k ih=>
  intro n
  unfold Q19
  refine QW ?_ fun y=>?_
  ·by_cases h:n=0
   ·rw [if_pos h];exact Q0w _
   ·rw [if_neg h];exact QI (Q0V _ _)
  ·exact Q1T (Q0w _) (QW (QI (Q64 _)) fun _=>QW (QI (Q6L _ _ _)) fun _=>QW hr fun _=>ih _)
theorem Q5d {τ:Type} (text:ByteArray) (most:Nat) (run:PX τ Unit) (hr:QO run):QO (block text most run):=QW (QI (QA _ _)) fun _=>QcZ _ _ _ hr _ _
theorem Qd0 (text:ByteArray) (p:Int→Bool):∀ (k:Nat) (cs:List Int),QO (Q1m text p k cs):=by
 intro k
 induction k with
 | zero=>intro cs;exact QI (Q2Y _ _)
 | succ k ih=>
  intro cs l σ b l' σ' h
  cases h1:QS text [99,97,115,101] σ with
  | error f=>rw [Q6I h1] at h;cases h
  | ok x=>
   obtain ⟨x,σ1⟩:=x
   by_cases hl:12≤l.length
   ·rw [Q6g h1 hl] at h;cases h
   ·rw [Q7m h1 hl] at h
    refine (QA _ _ _ _ _ h1).trans (?_:Le σ1 σ')
    exact QW (Q3R _ _) (fun _=>QW (QI (QA _ _)) fun _=>QW (QI (Q3p _ _)) fun _=>Q1T (ih _) (Q0w _)) _ _ _ _ _ h
theorem Qet (text:ByteArray) (p:Int→Bool):QO (cases text p):=Qd0 _ _ _ _
theorem QbD (text:ByteArray) (rs:Arms):QO (Q1L text rs):=by
 unfold Q1L
 repeat' (first | assumption | exact Q0w _ | exact Q0V _ _ | exact QA _ _ | exact Qa7 _ _ _ | refine QW ?_ ?_ | refine QI ?_ | refine Q1T ?_ ?_ | refine Q62 ?_ | (intro _))
theorem Q94 (text:ByteArray) (p:Int→Bool):∀ (k:Nat) (rs:Arms),QO (Q1y text p k rs):=by
 intro k
 induction k with
 | zero=>intro rs;exact QI (Q2Y _ _)
 | succ k ih=>
  intro rs
  unfold Q1y
  exact QW (Q7o (Qet _ _)) fun _=>QW (Q62 (Qa7 _ _ _)) fun _=>QW (QI (Q3p _ _)) fun _=>Q1T (ih _) (QbD _ _)
theorem QfG (text:ByteArray) (x:Mar.Word):Mono (selK text x):=by
 unfold selK
 repeat' (first | assumption | exact Q1p _ | exact Q2Y _ _ | exact Q9H _ | exact Q0V _ _ | refine Q0F ?_ ?_ | refine Q2D ?_ ?_ | (intro _))
theorem Q78 (text:ByteArray):Mono (Q1Z text):=by
 unfold Q1Z
 repeat' (first | assumption | exact Q2N _ | exact QfG _ _ | refine Q0F ?_ ?_ | (intro _))
theorem QaA (text:ByteArray) (n:List UInt8×Nat) (sel:Qk) (rs:Arms):Mono (Q3o text n sel rs):=by
 unfold Q3o
 repeat' (first | assumption | exact Q1p _ | exact QA _ _ | refine Q0F ?_ ?_ | (intro _))
theorem QbE (text:ByteArray) (n:List UInt8×Nat) (q:Ty×(Int→Bool)) (m:(List UInt8×Nat)×List (List UInt8)):Mono (Q5s text n q m):=by
 unfold Q5s
 repeat' (first | assumption | exact QA _ _ | exact Q94 _ _ _ _ | exact QaA _ _ _ _ | refine Q0F ?_ ?_ | refine Q63 ?_ _ | (intro _))
theorem QbF (text:ByteArray) (n:List UInt8×Nat) (q:Ty×(Int→Bool)):Mono (Q4y text n q):=by
 unfold Q4y
 repeat' (first | assumption | exact Q5c _ _ _ | exact QbE _ _ _ _ | refine Q0F ?_ ?_ | refine Q63 ?_ _ | (intro _))
theorem QbG (text:ByteArray) (n:List UInt8×Nat):Mono (Q4z text n):=by
 unfold Q4z
 repeat' (first | assumption | exact QA _ _ | exact Q78 _ | exact QbF _ _ _ | refine Q0F ?_ ?_ | (intro _))
theorem Qeu (text:ByteArray):QO (Q3T text):=by
 unfold Q3T
 repeat' (first | assumption | exact Q0w _ | exact QA _ _ | exact QfE _ | exact Q8f _ | exact Q5c _ _ _ | refine QW ?_ ?_ | refine QI ?_ | refine Q62 ?_ | refine Q7o ?_ | (intro _))
theorem QbH (text:ByteArray):QO (Q2a text):=Q6v (Qeu text) Q8X Q8d
theorem QbI (text:ByteArray):QO (block text 8 (Q2a text)):=Q5d _ _ _ (QbH _)
theorem QaB (text:ByteArray) (n:List UInt8×Nat):QO (Q5E text n):=by
 unfold Q5E
 repeat' (first | assumption | exact Q0w _ | exact Q8f _ | exact QbI _ | refine QW ?_ ?_ | refine QI ?_ | refine Q7o ?_ | refine Q50 ?_ _ | (intro _))
theorem QaC (text:ByteArray):QO (Q20 text):=by
 unfold Q20
 repeat' (first | assumption | exact QA _ _ | exact Q5c _ _ _ | exact QaB _ _ | refine QW ?_ ?_ | refine QI ?_ | refine Q62 ?_ | (intro _))
theorem QbJ (text:ByteArray):QO (Q1V text):=Q6v (QaC text) Q8Z Q8e
theorem Q7t (text:ByteArray):QO (block text 4 (Q1V text)):=Q5d _ _ _ (QbJ _)
structure Step (σ σ':St):Prop where
 up:σ.types + σ.consts + σ.progs.length < σ'.types + σ'.consts + σ'.progs.length
 ty:σ.types≤24→σ'.types≤24
 co:σ.consts≤40→σ'.consts≤40
 pr:σ.progs.length≤4→σ'.progs.length≤4
theorem Step.then {a b c:St} (h:Step a b) (k:Le b c):Step a c:=by
 obtain ⟨k1,k2,k3,k4,k5,_⟩:=k
 exact ⟨by rw [k3];have:=h.up;omega,fun x=>k4 (h.ty x),fun x=>k5 (h.co x),fun x=>by rw [k3];exact h.pr x⟩
theorem Q4f {k:Nat} {σ σ':St} {u:Unit} (h:Q1s k σ = .ok (u,σ')):Step σ σ':=by
 unfold Q1s at h
 split at h<;>cases h
 exact ⟨by dsimp only;omega,fun _=>by dsimp only;omega,id,id⟩
theorem QaD {k:Nat} {σ σ':St} {u:Unit} (h:Q1B k σ = .ok (u,σ')):Step σ σ':=by
 unfold Q1B at h
 split at h<;>cases h
 exact ⟨by dsimp only;omega,id,fun _=>by dsimp only;omega,id⟩
theorem Q5G {α β:Type} {m:PM α} {f:α→PM β} {σ σ':St} {b:β} (hm:∀ {a σ1},m σ = .ok (a,σ1)→Step σ σ1) (hf:∀ a,Mono (f a)) (h:bnd m f σ = .ok (b,σ')):Step σ σ':=by
 cases hx:m σ with
 | error e=>rw [Qq hx] at h;cases h
 | ok p=>obtain ⟨a,σ1⟩:=p;rw [Qg hx] at h;exact (hm hx).then (hf a _ _ _ h)
theorem QaE {text:ByteArray} {k:Nat} {σ σ':St} {d:DefL} (h:constant text k σ = .ok (d,σ')):Step σ σ':=by
 refine Q5G QaD (fun _=>?_) h
 repeat' (first | assumption | exact Q1p _ | exact QA _ _ | exact Q4e _ _ | exact Q2h _ | refine Q0F ?_ ?_ | (intro _))
theorem QbK {text:ByteArray} {k:Nat} {σ σ':St} {d:DefL} (h:typedef text k σ = .ok (d,σ')):Step σ σ':=by
 refine Q5G Q4f (fun _=>?_) h
 repeat' (first | assumption | exact Q1p _ | exact QA _ _ | exact Q7s _ | refine Q0F ?_ ?_ | (intro _))
theorem Q8v {text:ByteArray} {k:Nat} {σ σ':St} {d:DefL} (h:enumeration text k σ = .ok (d,σ')):Step σ σ':=by
 refine Q5G Q4f (fun _=>?_) h
 repeat' (first | assumption | exact QA _ _ | exact Q2h _ | exact QbC _ _ _ _ _ | refine Q0F ?_ ?_ | (intro _))
theorem Q95 {text:ByteArray} {k:Nat} {σ σ':St} {d:DefL} (h:Q1o text k σ = .ok (d,σ')):Step σ σ':=by
 refine Q5G Q4f (fun _=>?_) h
 repeat' (first | assumption | exact Q1p _ | exact QA _ _ | exact Q2h _ | exact Q5F _ _ | exact Q5d _ _ _ (Q5F _ _) | refine Q0F ?_ ?_ | refine Q50 ?_ _ | (intro _))
theorem Qd1 {text:ByteArray} {k:Nat} {σ σ':St} {d:DefL} (h:Q0n text k σ = .ok (d,σ')):Step σ σ':=by
 refine Q5G Q4f (fun _=>?_) h
 repeat' (first | assumption | exact Q2h _ | exact QbG _ _ | refine Q0F ?_ ?_ | (intro _))
theorem QbL {text:ByteArray} {p:Int→Bool} {σ σ':St} {n:Int} (h:Q2s text p σ = .ok (n,σ')):σ.types≤σ'.types∧σ.consts≤σ'.consts∧σ'.progs.length = σ.progs.length + 1∧(σ.types≤24→σ'.types≤24)∧(σ.consts≤40→σ'.consts≤40):=by
 cases hx:number text p σ.progs σ with
 | error e=>rw [Q4N hx] at h;cases h
 | ok q=>
  obtain ⟨m,l',σ1⟩:=q
  rw [Q6K hx] at h
  cases h
  obtain ⟨k1,k2,k3,k4,k5,_⟩:=Q3R _ _ _ _ _ _ _ hx
  exact ⟨k1,k2,Q6J hx,k4,k5⟩
theorem QbM {text:ByteArray} {σ σ':St} {n:Int} (h:Q2J text σ = .ok (n,σ')):σ.types≤σ'.types∧σ.consts≤σ'.consts∧σ'.progs.length = σ.progs.length + 1∧(σ.types≤24→σ'.types≤24)∧(σ.consts≤40→σ'.consts≤40):=by
 unfold Q2J at h
 cases h1:QS text [61] σ with
 | error e=>rw [Qq h1] at h;cases h
 | ok q=>
  obtain ⟨x,σ1⟩:=q
  rw [Qg h1] at h
  obtain ⟨a1,a2,a3,a4,a5,_⟩:=QA _ _ _ _ _ h1
  cases h2:Q2s text (Q14 0 4294967295) σ1 with
  | error e=>rw [Qq h2] at h;cases h
  | ok q=>
   obtain ⟨m,σ2⟩:=q
   rw [Qg h2] at h
   obtain ⟨b1,b2,b3,b4,b5⟩:=QbL h2
   cases h3:QS text [59] σ2 with
   | error e=>rw [Qq h3] at h;cases h
   | ok q=>
    obtain ⟨y,σ3⟩:=q
    rw [Qg h3] at h
    simp only [ret] at h
    cases h
    obtain ⟨c1,c2,c3,c4,c5,_⟩:=QA _ _ _ _ _ h3
    exact ⟨by omega,by omega,by rw [c3,b3,a3],fun x=>c4 (b4 (a4 x)),fun x=>c5 (b5 (a5 x))⟩
theorem QaF {text:ByteArray} {k:Nat} {σ σ':St} {d:DefL} (h:Q1C text k σ = .ok (d,σ')):Step σ σ':=by
 unfold Q1C at h
 by_cases hr:4≤σ.progs.length
 ·rw [Qq (m:=fun σ:St=>Q0P σ.progs.length 4 k σ) (show Q0P σ.progs.length 4 k σ = .error ⟨5,k⟩ from if_pos hr)] at h;cases h
 rw [Qg (m:=fun σ:St=>Q0P σ.progs.length 4 k σ) (show Q0P σ.progs.length 4 k σ = .ok ((),σ) from if_neg hr)] at h
 cases h1:Q1j text σ with
 | error e=>rw [Qq h1] at h;cases h
 | ok q=>
  obtain ⟨n,σ1⟩:=q
  rw [Qg h1] at h
  unfold Q4A at h
  obtain ⟨a1,a2,a3,a4,a5,_⟩:=Q2h _ _ _ _ h1
  cases h2:runx (block text 4 (Q1V text)) ([],([],[])) σ1 with
  | error e=>rw [Qq h2] at h;cases h
  | ok q=>
   obtain ⟨m,σ2⟩:=q
   rw [Qg h2] at h
   obtain ⟨b1,b2,b3,b4,b5,_⟩:=Q50 (Q7t text) _ _ _ _ h2
   cases h3:Q2J text σ2 with
   | error e=>rw [Qq h3] at h;cases h
   | ok q=>
    obtain ⟨y,σ3⟩:=q
    rw [Qg h3] at h
    simp only [ret] at h
    cases h
    obtain ⟨c1,c2,c3,c4,c5⟩:=QbM h3
    have hp:σ'.progs.length = σ.progs.length + 1:=by rw [c3,b3,a3]
    exact ⟨by omega,fun x=>c4 (b4 (a4 x)),fun x=>c5 (b5 (a5 x)),fun _=>by omega⟩
theorem Q96 {text:ByteArray} {σ σ':St} {d:DefL} (h:definition text σ = .ok (d,σ')):Step σ σ':=by
 unfold definition at h
 cases hx:next text σ with
 | error e=>rw [Qq hx] at h;cases h
 | ok q=>
  obtain ⟨x,σ1⟩:=q
  rw [Qg hx] at h
  obtain ⟨a1,a2,a3,a4,a5,_⟩:=Q2N _ _ _ _ hx
  have hs:Step σ1 σ':=by
   unfold defK at h
   split at h
   ·exact QaE h
   split at h
   ·exact QbK h
   split at h
   ·exact Q8v h
   split at h
   ·exact Q95 h
   split at h
   ·exact Qd1 h
   split at h
   ·exact QaF h
   ·simp only [thr] at h;cases h
  have:=hs.up
  exact ⟨by rw [a3] at this;omega,fun x=>hs.ty (a4 x),fun x=>hs.co (a5 x),fun x=>hs.pr (by rw [a3];exact x)⟩
structure Tell (τ:Type) where
 f:Nat
 pre:Array Value
 post:Array Value
 run:List UInt8×Nat→τ→Except Mar.Fault τ
 J:τ→World→Prop
 M:List Nat
 ok:List UInt8×Nat→Prop
def Tell.v {τ:Type} (T:Tell τ):Value:=.func (.func T.f) T.pre T.post
def Q0M {τ:Type} (T:Tell τ) (w:World) (r:Except Mar.Fault τ) (e:Ending) (w':World):Prop:=
 (∃ t',r = .ok t'∧e = .returned (.tuple #[])∧T.J t' w'∧Qa T.M w w')∨(∃ f,r = .error f∧Qa T.M w w'∧Q0A w f.no f.at' e w')
structure Q25 {τ:Type} (T:Tell τ):Prop where
 enters:∀ args W,(callFunc T.f args).run Tryz.prog W = .ok (.enter T.f args) W
 old:∀ {t w},T.J t w→∀ m∈T.M,m < w.heap.size
 stable:∀ {t w w'},T.J t w→Below w.heap.size w w'→T.J t w'
 call:∀ {t W} (n:List UInt8×Nat),T.ok n→T.J t W→Calls Tryz.prog T.f (T.pre.push (Q1x n)++T.post) W (Q0M T W (T.run n t))
def Qm {τ:Type} (T:Tell τ):List (List UInt8×Nat)→τ→Except Mar.Fault τ
 | [],t=>.ok t
 | n :: ns,t=>match T.run n t with
  | .ok t'=>Qm T ns t'
  | .error f=>.error f
def QJ:Ty→List (List UInt8×Nat)
 | .named t a=>[(t,a)]
 | .arr o _ _=>QJ o
 | .opt o=>QJ o
 | _=>[]
def QR:Ty→List (List UInt8×Nat)
 | .named t a=>[(t,a)]
 | .arr o _ f=>if f then QR o else []
 | _=>[]
def Q6w:Ty→Nat
 | .named ..=>273
 | .arr ..=>291
 | .opt ..=>293
 | _=>245
def Q7u:Ty→Nat
 | .named ..=>272
 | .arr ..=>290
 | .opt ..=>292
 | _=>244
def Q5H:Ty→Value
 | .named t a=>.agg #[.string ⟨t.toArray⟩,.int .i64 a]
 | .arr o n f=>.agg #[tyV o,.int .i64 n,.bool f]
 | .opt o=>.agg #[tyV o]
 | _=>.agg #[]
theorem Q2i (ty : Ty) {T1 : TypeId} {v1 : Value} (h : tyV ty = .iface T1 v1) (k : Nat) (w : World) : (method (k + 1) T1 v1 "Names").run Tryz.prog w = .ok (Q6w ty, Q5H ty) w := by
 cases ty<;>cases h<;>kernel_rfl
theorem Q4g (ty : Ty) {T1 : TypeId} {v1 : Value} (h : tyV ty = .iface T1 v1) (k : Nat) (w : World) : (method (k + 1) T1 v1 "Leads").run Tryz.prog w = .ok (Q7u ty, Q5H ty) w := by
 cases ty<;>cases h<;>kernel_rfl
theorem Q21 (ty:Ty) (args:Array Value) (w:World):(callFunc (Q6w ty) args).run Tryz.prog w = .ok (.enter (Q6w ty) args) w:=by cases ty<;>kernel_rfl
theorem Q3V (ty:Ty) (args:Array Value) (w:World):(callFunc (Q7u ty) args).run Tryz.prog w = .ok (.enter (Q7u ty) args) w:=by cases ty<;>kernel_rfl
theorem Q2b {τ:Type} {T:Tell τ} (hT:Q25 T) {t:τ} {w:World} (h:T.J t w):Calls Tryz.prog 245 #[.agg #[],T.v] w (Q0M T w (.ok t)):=by
 have hs:=hT.stable h ((Below.refl w.heap.size w).alloc (Nat.le_refl _) (.cells #[] 203))
 go_enter Tryz.func245,Tryz.ntmps245
 go_wp2
 go_end0
 exact Or.inl ⟨t,rfl,rfl,hs,(Qa.refl _ w).alloc _⟩
theorem Q2c {τ:Type} {T:Tell τ} (hT:Q25 T) {t:τ} {w:World} (h:T.J t w):Calls Tryz.prog 244 #[.agg #[],T.v] w (Q0M T w (.ok t)):=by
 have hs:=hT.stable h ((Below.refl w.heap.size w).alloc (Nat.le_refl _) (.cells #[] 203))
 go_enter Tryz.func244,Tryz.ntmps244
 go_wp2
 go_end0
 exact Or.inl ⟨t,rfl,rfl,hs,(Qa.refl _ w).alloc _⟩
theorem QbN {τ:Type} {T:Tell τ} (hT:Q25 T) {t:τ} {w:World} (o:Ty) (h:T.J t w):Calls Tryz.prog 292 #[.agg #[tyV o],T.v] w (Q0M T w (.ok t)):=by
 obtain ⟨T1,v1,h1⟩:=QG o
 rw [h1]
 have hs:=hT.stable h ((Below.refl w.heap.size w).alloc (Nat.le_refl _) (.cells #[.iface T1 v1] 314))
 go_enter Tryz.func292,Tryz.ntmps292
 go_wp2
 go_end0
 exact Or.inl ⟨t,rfl,rfl,hs,(Qa.refl _ w).alloc _⟩
theorem QbO {τ:Type} {T:Tell τ} (n:List UInt8×Nat) (t:τ):Qm T [n] t=T.run n t:=by
 simp only [Qm]
 cases T.run n t<;>rfl
theorem Q9J {τ:Type} {T:Tell τ} (hT:Q25 T) {t:τ} {w:World} (n:List UInt8) (a:Nat) (hn:T.ok (n,a)) (h:T.J t w):Calls Tryz.prog 273 #[.agg #[.string ⟨n.toArray⟩,.int .i64 a],T.v] w (Q0M T w (T.run (n,a) t)):=by
 have hs:=hT.stable h ((Below.refl w.heap.size w).alloc (Nat.le_refl _) (.cells #[.string ⟨n.toArray⟩,.int .i64 a] 213))
 have hent:=hT.enters
 show Calls Tryz.prog 273 #[.agg #[.string ⟨n.toArray⟩,.int .i64 a],.func (.func T.f) T.pre T.post] w _
 go_enter Tryz.func273,Tryz.ntmps273
 go_wp2_with fail
 refine (hT.call (n,a) hn hs).mono ?_
 rintro e w2 (⟨t2,hx,rfl,hj,hz⟩ | ⟨f,hx,hkE,b,hbb,rfl,hcell⟩)
 rotate_left
 ·exact Qb (Or.inr ⟨f,hx,((Qa.refl _ w).alloc _).trans hkE,b,by simp at hbb;omega,rfl,hcell⟩)
 go_wp2
 go_end0
 exact Or.inl ⟨t2,hx,rfl,hj,((Qa.refl _ w).alloc _).trans hz⟩
theorem Q9K {τ:Type} {T:Tell τ} (hT:Q25 T) {t:τ} {w:World} (n:List UInt8) (a:Nat) (hn:T.ok (n,a)) (h:T.J t w):Calls Tryz.prog 272 #[.agg #[.string ⟨n.toArray⟩,.int .i64 a],T.v] w (Q0M T w (T.run (n,a) t)):=by
 have hs:=hT.stable h ((Below.refl w.heap.size w).alloc (Nat.le_refl _) (.cells #[.string ⟨n.toArray⟩,.int .i64 a] 213))
 have hent:=hT.enters
 show Calls Tryz.prog 272 #[.agg #[.string ⟨n.toArray⟩,.int .i64 a],.func (.func T.f) T.pre T.post] w _
 go_enter Tryz.func272,Tryz.ntmps272
 go_wp2_with fail
 refine (hT.call (n,a) hn hs).mono ?_
 rintro e w2 (⟨t2,hx,rfl,hj,hz⟩ | ⟨f,hx,hkE,b,hbb,rfl,hcell⟩)
 rotate_left
 ·exact Qb (Or.inr ⟨f,hx,((Qa.refl _ w).alloc _).trans hkE,b,by simp at hbb;omega,rfl,hcell⟩)
 go_wp2
 go_end0
 exact Or.inl ⟨t2,hx,rfl,hj,((Qa.refl _ w).alloc _).trans hz⟩
theorem Q5I {τ:Type} {T:Tell τ} (hT:Q25 T):∀ (ty:Ty) {t:τ} {w:World},(∀ n∈QJ ty,T.ok n)→T.J t w→Calls Tryz.prog (Q6w ty) #[Q5H ty,T.v] w (Q0M T w (Qm T (QJ ty) t)):=by
 intro ty
 induction ty with
 | plain k=>intro t w _ h;exact Q2b hT h
 | opaq n f=>intro t w _ h;exact Q2b hT h
 | str n f=>intro t w _ h;exact Q2b hT h
 | void=>intro t w _ h;exact Q2b hT h
 | named n a=>intro t w hok h;simp only [QJ,QbO];exact Q9J hT n a (hok _ (by simp [QJ])) h
 | arr o n f ih=>
  intro t w hok h
  obtain ⟨T1,v1,h1⟩:=QG o
  have hnc:=Q2i o h1
  have hen:=Q21 o
  have hs:=hT.stable h ((Below.refl w.heap.size w).alloc (Nat.le_refl _) (.cells #[.iface T1 v1,.int .i64 n,.bool f] 311))
  have HI:=Hid.mk (ih hok hs)
  simp only [Q6w,Q5H,QJ]
  rw [h1]
  clear ih hok
  go_enter Tryz.func291,Tryz.ntmps291
  go_wp2_with fail
  refine HI.out.mono ?_
  rintro e w2 (⟨t2,hx,rfl,hj,hz⟩ | ⟨f,hx,hkE,b,hbb,rfl,hcell⟩)
  rotate_left
  ·exact Qb (Or.inr ⟨f,hx,((Qa.refl _ w).alloc _).trans hkE,b,by simp at hbb;omega,rfl,hcell⟩)
  go_wp2
  go_end0
  exact Or.inl ⟨t2,hx,rfl,hj,((Qa.refl _ w).alloc _).trans hz⟩
 | opt o ih=>
  intro t w hok h
  obtain ⟨T1,v1,h1⟩:=QG o
  have hnc:=Q2i o h1
  have hen:=Q21 o
  have hs:=hT.stable h ((Below.refl w.heap.size w).alloc (Nat.le_refl _) (.cells #[.iface T1 v1] 314))
  have HI:=Hid.mk (ih hok hs)
  simp only [Q6w,Q5H,QJ]
  rw [h1]
  clear ih hok
  go_enter Tryz.func293,Tryz.ntmps293
  go_wp2_with fail
  refine HI.out.mono ?_
  rintro e w2 (⟨t2,hx,rfl,hj,hz⟩ | ⟨f,hx,hkE,b,hbb,rfl,hcell⟩)
  rotate_left
  ·exact Qb (Or.inr ⟨f,hx,((Qa.refl _ w).alloc _).trans hkE,b,by simp at hbb;omega,rfl,hcell⟩)
  go_wp2
  go_end0
  exact Or.inl ⟨t2,hx,rfl,hj,((Qa.refl _ w).alloc _).trans hz⟩
theorem Q8w {τ:Type} {T:Tell τ} (hT:Q25 T):∀ (ty:Ty) {t:τ} {w:World},(∀ n∈QR ty,T.ok n)→T.J t w→Calls Tryz.prog (Q7u ty) #[Q5H ty,T.v] w (Q0M T w (Qm T (QR ty) t)):=by
 intro ty
 induction ty with
 | plain k=>intro t w _ h;exact Q2c hT h
 | opaq n f=>intro t w _ h;exact Q2c hT h
 | str n f=>intro t w _ h;exact Q2c hT h
 | void=>intro t w _ h;exact Q2c hT h
 | named n a=>intro t w hok h;simp only [QR,QbO];exact Q9K hT n a (hok _ (by simp [QR])) h
 | opt o ih=>intro t w _ h;exact QbN hT o h
 | arr o n f ih=>
  intro t w hok h
  obtain ⟨T1,v1,h1⟩:=QG o
  have hnc:=Q4g o h1
  have hen:=Q3V o
  have hs:=hT.stable h ((Below.refl w.heap.size w).alloc (Nat.le_refl _) (.cells #[.iface T1 v1,.int .i64 n,.bool f] 311))
  simp only [Q7u,Q5H,QR]
  rw [h1]
  cases f with
  | false=>
   clear ih hok
   go_enter Tryz.func290,Tryz.ntmps290
   go_wp2
   go_end0
   exact Or.inl ⟨t,rfl,rfl,hs,(Qa.refl _ w).alloc _⟩
  | true=>
   have HI:=Hid.mk (ih (by simpa [QR] using hok) hs)
   clear ih hok
   go_enter Tryz.func290,Tryz.ntmps290
   go_wp2_with fail
   refine HI.out.mono ?_
   rintro e w2 (⟨t2,hx,rfl,hj,hz⟩ | ⟨f,hx,hkE,b,hbb,rfl,hcell⟩)
   rotate_left
   ·exact Qb (Or.inr ⟨f,hx,((Qa.refl _ w).alloc _).trans hkE,b,by simp at hbb;omega,rfl,hcell⟩)
   go_wp2
   go_end0
   exact Or.inl ⟨t2,rfl,rfl,hj,((Qa.refl _ w).alloc _).trans hz⟩
theorem Q8h {τ:Type} {T:Tell τ}:∀ (xs ys:List (List UInt8×Nat)) (t:τ),Qm T (xs++ys) t=match Qm T xs t with | .ok t'=>Qm T ys t' | .error f=>.error f:=by
 intro xs
 induction xs with
 | nil=>intro ys t;rfl
 | cons x xs ih=>
  intro ys t
  simp only [List.cons_append,Qm]
  cases T.run x t with
  | ok t'=>exact ih ys t'
  | error f=>rfl
theorem Q2Z {τ:Type} {T:Tell τ} {xs ys:List (List UInt8×Nat)} {t t':τ} (h:Qm T xs t = .ok t'):Qm T (xs++ys) t=Qm T ys t':=by rw [Q8h,h]
theorem Q2E {τ:Type} {T:Tell τ} {xs ys:List (List UInt8×Nat)} {t:τ} {f:Mar.Fault} (h:Qm T xs t = .error f):Qm T (xs++ys) t = .error f:=by rw [Q8h,h]
theorem Q1q {α:Type} {c:α→List Value} {n:Nat} (hc:∀ x,(c x).length=n):∀ (xs:List α) (k j:Nat) (hk:k < xs.length) (_:j < n),(xs.flatMap c)[k * n + j]? = (c xs[k])[j]?:=by
 intro xs
 induction xs with
 | nil=>intro k j hk;cases hk
 | cons x xs ih=>
  intro k j hk hj
  rw [List.flatMap_cons]
  cases k with
  | zero=>
   rw [List.getElem?_append_left (by rw [hc];omega)]
   simp
  | succ k=>
   rw [List.getElem?_append_right (by rw [hc,Nat.succ_mul];omega)]
   have e:(k + 1) * n + j - (c x).length=k * n + j:=by rw [hc,Nat.succ_mul];omega
   rw [e,ih k j (by simpa using hk) hj]
   simp
theorem Qn {w:World} {g:Nat} {cur:Array Value} {T:TypeId} {xs:List Value} (hg:w.heap[g]? = some (.cells cur T)) (ht:cur.toList.take xs.length=xs) {i:Nat} {v:Value} (hi:xs[i]? = some v):w.cell? ⟨g,i,none⟩=some v:=by
 have hl:i < xs.length:=by
  rcases Nat.lt_or_ge i xs.length with h | h
  ·exact h
  ·rw [List.getElem?_eq_none h] at hi;cases hi
 have:=Qbr hg ht hl
 rw [this]
 rw [List.getElem?_eq_getElem hl] at hi
 exact hi
theorem Q97 {τ:Type} {T:Tell τ} (hT:Q25 T) {bs:List (Nat×Obj)} {b a:Nat} {n:List UInt8} {ms:List Qk} (hok:∀ n∈ms.flatMap fun d=>QJ d.ty,T.ok n) (hd:Q0d bs b (.struct n a ms)) (hJ:∀ {t:τ} {u:World},T.J t u→∀ p∈bs,u.heap[p.1]? = some p.2) {t:τ} {w:World} (h:T.J t w) :
  Calls Tryz.prog 258 #[.pointer (some ⟨b,0,none⟩),T.v] w (Q0M T w (Qm T (ms.flatMap fun d=>QJ d.ty) t)):=by
 have HO:=Hid.mk hok
 clear hok
 obtain ⟨sl,hb,hsl⟩:=hd
 obtain ⟨k0,k1,k2,_⟩:=Q0h (hJ h _ hb)
 rcases hsl with ⟨rfl,h0,_⟩ | ⟨g,cap,cur,rfl,⟨hcap,hms⟩,hg,htake⟩
 ·have hnil:ms=[]:=List.length_eq_zero_iff.1 h0
  subst hnil
  have HJ0:=Hid.mk h
  clear h
  go_enter Tryz.func258,Tryz.ntmps258
  go_wp2
  go_loopw [11] (fun i ur=>i = .int .i64 0∧ur=w) (fun _ _=>0)
  case atStart=>exact ⟨rfl,rfl⟩
  case round=>
   obtain ⟨rfl,rfl⟩:=hrel
   go_wp2
   go_end0
   exact Or.inl ⟨t,rfl,rfl,HJ0.out,Qa.refl _ _⟩
 ·have hrow:∀ (u:World) (t':τ),T.J t' u→∀ i (hi:i < ms.length),u.cell? ⟨g,i * 3,none⟩=some (.string ⟨ms[i].t.toArray⟩)∧u.cell? ⟨g,i * 3 + 1,none⟩=some (.int .i64 ms[i].at')∧u.cell? ⟨g,i * 3 + 2,none⟩=some (tyV ms[i].ty):=by
   intro u t' hu i hi
   have hgb:=hJ hu _ hg
   have hf:=Q1q (c:=Q0C) (n:=3) (fun _=>rfl) ms i
   exact ⟨Qn hgb htake (by have:=hf 0 hi (by omega);simpa using this),Qn hgb htake (by have:=hf 1 hi (by omega);simpa using this),Qn hgb htake (by have:=hf 2 hi (by omega);simpa using this)⟩
  have HR:=Hid.mk hrow
  have HJ0:=Hid.mk h
  clear hrow h
  go_enter Tryz.func258,Tryz.ntmps258
  go_wp2
  go_loopw [11] (fun i ur=>∃ (k:Nat) (t':τ),i = .int .i64 k∧k≤ms.length∧Hid (T.J t' ur)∧Qa T.M w ur∧Hid (Qm T (ms.flatMap fun d=>QJ d.ty) t=Qm T ((ms.drop k).flatMap fun d=>QJ d.ty) t')) (fun i _=>ms.length - (intOf i).toNat)
  case atStart=>exact ⟨0,t,rfl,by omega,HJ0,Qa.refl _ _,rfl⟩
  case round=>
   obtain ⟨k,t',rfl,hk,J,hz,E⟩:=hrel
   clear HJ0
   rcases Nat.lt_or_ge k ms.length with hlt | hge
   ·obtain ⟨q0,q1,q2⟩:=HR.out _ _ J.out k hlt
    obtain ⟨T1,v1,h1⟩:=QG ms[k].ty
    have hnc:=Q2i ms[k].ty h1
    have hen:=Q21 ms[k].ty
    rw [h1] at q2
    have hi0:(0:Int)≤↑k:=by omega
    have hi1:(↑k:Int) < ↑ms.length:=by omega
    have ED:Hid (Qm T (ms.flatMap fun d=>QJ d.ty) t=Qm T (QJ ms[k].ty++(ms.drop (k + 1)).flatMap fun d=>QJ d.ty) t'):=by
     refine E.out.trans ?_
     rw [List.drop_eq_getElem_cons hlt,List.flatMap_cons]
    have HN:=Hid.mk (Q5I hT ms[k].ty (fun n hn=>HO.out n (List.mem_flatMap.2 ⟨ms[k],List.getElem_mem hlt,hn⟩)) (hT.stable J.out ((Below.refl _ _).alloc (Nat.le_refl _) (.cells #[.string ⟨ms[k].t.toArray⟩,.int .i64 ms[k].at',.iface T1 v1] 195))))
    clear E
    go_wp2_with fail
    refine HN.out.mono ?_
    rintro e w2 (⟨t2,hx,rfl,hj,hz2⟩ | ⟨f,hx,hkE,b2,hbb,rfl,hcell⟩)
    rotate_left
    ·exact (show bodyPost Tryz.prog Tryz.f258 (Q0M T w (Qm T (ms.flatMap fun d=>QJ d.ty) t)) (Exit.panic _) _ w2 from Qb (Or.inr ⟨f,ED.out.trans (Q2E hx),(hz.alloc _).trans hkE,b2,by have:=hz.size;simp at hbb;omega,rfl,hcell⟩))
    have J2:=Hid.mk hj
    have E2:Hid (Qm T (ms.flatMap fun d=>QJ d.ty) t=Qm T ((ms.drop (k + 1)).flatMap fun d=>QJ d.ty) t2):=ED.out.trans (Q2Z hx)
    have hz3:Qa T.M w w2:=(hz.alloc _).trans hz2
    clear hj hx ED hz2
    go_wp2
    exact ⟨⟨k + 1,t2,by go_num,by omega,J2,hz3,E2⟩,by simp [intOf];omega⟩
   ·have hkk:k=ms.length:=by omega
    subst hkk
    have hfin:Qm T (ms.flatMap fun d=>QJ d.ty) t = .ok t':=by
     refine E.out.trans ?_
     rw [List.drop_length]
     rfl
    have HF:=Hid.mk hfin
    clear E hfin
    go_wp2
    go_end0
    exact Or.inl ⟨t',HF.out,rfl,J.out,hz⟩
theorem Q98 {τ:Type} {T:Tell τ} (hT:Q25 T) {bs:List (Nat×Obj)} {b a:Nat} {n:List UInt8} {ms:List Qk} (hok:∀ n∈ms.flatMap fun d=>QR d.ty,T.ok n) (hd:Q0d bs b (.struct n a ms)) (hJ:∀ {t:τ} {u:World},T.J t u→∀ p∈bs,u.heap[p.1]? = some p.2) {t:τ} {w:World} (h:T.J t w) :
  Calls Tryz.prog 257 #[.pointer (some ⟨b,0,none⟩),T.v] w (Q0M T w (Qm T (ms.flatMap fun d=>QR d.ty) t)):=by
 have HO:=Hid.mk hok
 clear hok
 obtain ⟨sl,hb,hsl⟩:=hd
 obtain ⟨k0,k1,k2,_⟩:=Q0h (hJ h _ hb)
 rcases hsl with ⟨rfl,h0,_⟩ | ⟨g,cap,cur,rfl,⟨hcap,hms⟩,hg,htake⟩
 ·have hnil:ms=[]:=List.length_eq_zero_iff.1 h0
  subst hnil
  have HJ0:=Hid.mk h
  clear h
  go_enter Tryz.func257,Tryz.ntmps257
  go_wp2
  go_loopw [11] (fun i ur=>i = .int .i64 0∧ur=w) (fun _ _=>0)
  case atStart=>exact ⟨rfl,rfl⟩
  case round=>
   obtain ⟨rfl,rfl⟩:=hrel
   go_wp2
   go_end0
   exact Or.inl ⟨t,rfl,rfl,HJ0.out,Qa.refl _ _⟩
 ·have hrow:∀ (u:World) (t':τ),T.J t' u→∀ i (hi:i < ms.length),u.cell? ⟨g,i * 3,none⟩=some (.string ⟨ms[i].t.toArray⟩)∧u.cell? ⟨g,i * 3 + 1,none⟩=some (.int .i64 ms[i].at')∧u.cell? ⟨g,i * 3 + 2,none⟩=some (tyV ms[i].ty):=by
   intro u t' hu i hi
   have hgb:=hJ hu _ hg
   have hf:=Q1q (c:=Q0C) (n:=3) (fun _=>rfl) ms i
   exact ⟨Qn hgb htake (by have:=hf 0 hi (by omega);simpa using this),Qn hgb htake (by have:=hf 1 hi (by omega);simpa using this),Qn hgb htake (by have:=hf 2 hi (by omega);simpa using this)⟩
  have HR:=Hid.mk hrow
  have HJ0:=Hid.mk h
  clear hrow h
  go_enter Tryz.func257,Tryz.ntmps257
  go_wp2
  go_loopw [11] (fun i ur=>∃ (k:Nat) (t':τ),i = .int .i64 k∧k≤ms.length∧Hid (T.J t' ur)∧Qa T.M w ur∧Hid (Qm T (ms.flatMap fun d=>QR d.ty) t=Qm T ((ms.drop k).flatMap fun d=>QR d.ty) t')) (fun i _=>ms.length - (intOf i).toNat)
  case atStart=>exact ⟨0,t,rfl,by omega,HJ0,Qa.refl _ _,rfl⟩
  case round=>
   obtain ⟨k,t',rfl,hk,J,hz,E⟩:=hrel
   clear HJ0
   rcases Nat.lt_or_ge k ms.length with hlt | hge
   ·obtain ⟨q0,q1,q2⟩:=HR.out _ _ J.out k hlt
    obtain ⟨T1,v1,h1⟩:=QG ms[k].ty
    have hnc:=Q4g ms[k].ty h1
    have hen:=Q3V ms[k].ty
    rw [h1] at q2
    have hi0:(0:Int)≤↑k:=by omega
    have hi1:(↑k:Int) < ↑ms.length:=by omega
    have ED:Hid (Qm T (ms.flatMap fun d=>QR d.ty) t=Qm T (QR ms[k].ty++(ms.drop (k + 1)).flatMap fun d=>QR d.ty) t'):=by
     refine E.out.trans ?_
     rw [List.drop_eq_getElem_cons hlt,List.flatMap_cons]
    have HN:=Hid.mk (Q8w hT ms[k].ty (fun n hn=>HO.out n (List.mem_flatMap.2 ⟨ms[k],List.getElem_mem hlt,hn⟩)) (hT.stable J.out ((Below.refl _ _).alloc (Nat.le_refl _) (.cells #[.string ⟨ms[k].t.toArray⟩,.int .i64 ms[k].at',.iface T1 v1] 195))))
    clear E
    go_wp2_with fail
    refine HN.out.mono ?_
    rintro e w2 (⟨t2,hx,rfl,hj,hz2⟩ | ⟨f,hx,hkE,b2,hbb,rfl,hcell⟩)
    rotate_left
    ·exact (show bodyPost Tryz.prog Tryz.f257 (Q0M T w (Qm T (ms.flatMap fun d=>QR d.ty) t)) (Exit.panic _) _ w2 from Qb (Or.inr ⟨f,ED.out.trans (Q2E hx),(hz.alloc _).trans hkE,b2,by have:=hz.size;simp at hbb;omega,rfl,hcell⟩))
    have J2:=Hid.mk hj
    have E2:Hid (Qm T (ms.flatMap fun d=>QR d.ty) t=Qm T ((ms.drop (k + 1)).flatMap fun d=>QR d.ty) t2):=ED.out.trans (Q2Z hx)
    have hz3:Qa T.M w w2:=(hz.alloc _).trans hz2
    clear hj hx ED hz2
    go_wp2
    exact ⟨⟨k + 1,t2,by go_num,by omega,J2,hz3,E2⟩,by simp [intOf];omega⟩
   ·have hkk:k=ms.length:=by omega
    subst hkk
    have hfin:Qm T (ms.flatMap fun d=>QR d.ty) t = .ok t':=by
     refine E.out.trans ?_
     rw [List.drop_length]
     rfl
    have HF:=Hid.mk hfin
    clear E hfin
    go_wp2
    go_end0
    exact Or.inl ⟨t',HF.out,rfl,J.out,hz⟩
theorem Q8x {τ:Type} {T:Tell τ} (hT:Q25 T) {bs:List (Nat×Obj)} {b:Nat} {d:Qk} (hok:∀ n∈QJ d.ty,T.ok n) (hd:Q0d bs b (.typedef d)) (hJ:∀ {t:τ} {u:World},T.J t u→∀ p∈bs,u.heap[p.1]? = some p.2) {t:τ} {w:World} (h:T.J t w) :
  Calls Tryz.prog 250 #[.pointer (some ⟨b,0,none⟩),T.v] w (Q0M T w (Qm T (QJ d.ty) t)):=by
 obtain ⟨k0,k1,k2,_⟩:=Q0h (hJ h _ hd)
 obtain ⟨T1,v1,h1⟩:=QG d.ty
 have hnc:=Q2i d.ty h1
 have hen:=Q21 d.ty
 rw [h1] at k2
 have HN:=Hid.mk (Q5I hT d.ty hok h)
 clear h hok
 go_enter Tryz.func250,Tryz.ntmps250
 go_wp2_with fail
 refine HN.out.mono ?_
 rintro e w2 (⟨t2,hx,rfl,hj,hz2⟩ | ⟨f,hx,hkE,b2,hbb,rfl,hcell⟩)
 rotate_left
 ·exact Qb (Or.inr ⟨f,hx,hkE,b2,hbb,rfl,hcell⟩)
 have HX:=Hid.mk hx
 clear hx
 go_wp2
 go_end0
 exact Or.inl ⟨t2,HX.out,rfl,hj,hz2⟩
theorem Q9L {τ:Type} {T:Tell τ} (hT:Q25 T) {bs:List (Nat×Obj)} {b a:Nat} {n:List UInt8} {sel:Qk} {arms:Arms} (hok:∀ n∈arms.flatMap fun d=>QJ d.2.ty,T.ok n) (hd:Q0d bs b (.union n a sel arms)) (hJ:∀ {t:τ} {u:World},T.J t u→∀ p∈bs,u.heap[p.1]? = some p.2) {t:τ} {w:World} (h:T.J t w) :
  Calls Tryz.prog 261 #[.pointer (some ⟨b,0,none⟩),T.v] w (Q0M T w (Qm T (arms.flatMap fun d=>QJ d.2.ty) t)):=by
 have HO:=Hid.mk hok
 clear hok
 obtain ⟨sl,css,hb,hcl,hsl,hea⟩:=hd
 obtain ⟨_,k5,_⟩:=Q43 (hJ h _ hb)
 rcases hsl with ⟨rfl,h0,_⟩ | ⟨g,cap,cur,rfl,⟨hcap,hms⟩,hg,htake⟩
 ·have hnil:arms=[]:=List.length_eq_zero_iff.1 h0
  subst hnil
  have HJ0:=Hid.mk h
  clear h hea
  go_enter Tryz.func261,Tryz.ntmps261
  go_wp2
  go_loopw [11] (fun i ur=>i = .int .i64 0∧ur=w) (fun _ _=>0)
  case atStart=>exact ⟨rfl,rfl⟩
  case round=>
   obtain ⟨rfl,rfl⟩:=hrel
   go_wp2
   go_end0
   exact Or.inl ⟨t,rfl,rfl,HJ0.out,Qa.refl _ _⟩
 ·have hrow:∀ (u:World) (t':τ),T.J t' u→∀ i (hi:i < arms.length),∃ ca cn cc,u.cell? ⟨g,i * 4,none⟩=some (.slice ca cn cc)∧u.cell? ⟨g,i * 4 + 1,none⟩=some (.string ⟨arms[i].2.t.toArray⟩)∧u.cell? ⟨g,i * 4 + 2,none⟩=some (.int .i64 arms[i].2.at')∧u.cell? ⟨g,i * 4 + 3,none⟩=some (tyV arms[i].2.ty):=by
   intro u t' hu i hi
   have hgb:=hJ hu _ hg
   have hi':i < css.length:=by omega
   have hf:=Q1q (c:=armC) (n:=4) (fun _=>rfl) (arms.zip css) i
   have hz:i < (arms.zip css).length:=by simp;omega
   obtain ⟨ca,cn,cc,hcv⟩:∃ a b c,css[i]=Value.slice a b c:=by rcases hea i hi hi' with ⟨e,_⟩ | ⟨g,cap,cur,e,_⟩<;>exact ⟨_,_,_,e⟩
   refine ⟨ca,cn,cc,Qn hgb htake ?_,Qn hgb htake ?_,Qn hgb htake ?_,Qn hgb htake ?_⟩
   ·have:=hf 0 hz (by omega);simpa [hcv] using this
   ·have:=hf 1 hz (by omega);simpa using this
   ·have:=hf 2 hz (by omega);simpa using this
   ·have:=hf 3 hz (by omega);simpa using this
  have HR:=Hid.mk hrow
  have HJ0:=Hid.mk h
  clear hrow h hea
  go_enter Tryz.func261,Tryz.ntmps261
  go_wp2
  go_loopw [11] (fun i ur=>∃ (k:Nat) (t':τ),i = .int .i64 k∧k≤arms.length∧Hid (T.J t' ur)∧Qa T.M w ur∧Hid (Qm T (arms.flatMap fun d=>QJ d.2.ty) t=Qm T ((arms.drop k).flatMap fun d=>QJ d.2.ty) t')) (fun i _=>arms.length - (intOf i).toNat)
  case atStart=>exact ⟨0,t,rfl,by omega,HJ0,Qa.refl _ _,rfl⟩
  case round=>
   obtain ⟨k,t',rfl,hk,J,hz,E⟩:=hrel
   clear HJ0
   rcases Nat.lt_or_ge k arms.length with hlt | hge
   ·obtain ⟨ca,cn,cc,q0,q1,q2,q3⟩:=HR.out _ _ J.out k hlt
    obtain ⟨T1,v1,h1⟩:=QG arms[k].2.ty
    have hnc:=Q2i arms[k].2.ty h1
    have hen:=Q21 arms[k].2.ty
    rw [h1] at q3
    have hi0:(0:Int)≤↑k:=by omega
    have hi1:(↑k:Int) < ↑arms.length:=by omega
    have ED:Hid (Qm T (arms.flatMap fun d=>QJ d.2.ty) t=Qm T (QJ arms[k].2.ty++(arms.drop (k + 1)).flatMap fun d=>QJ d.2.ty) t'):=by
     refine E.out.trans ?_
     rw [List.drop_eq_getElem_cons hlt,List.flatMap_cons]
    have HN:=Hid.mk (Q5I hT arms[k].2.ty (fun n hn=>HO.out n (List.mem_flatMap.2 ⟨arms[k],List.getElem_mem hlt,hn⟩)) (hT.stable J.out ((Below.refl _ _).alloc (Nat.le_refl _) (.cells #[.slice ca cn cc,.string ⟨arms[k].2.t.toArray⟩,.int .i64 arms[k].2.at',.iface T1 v1] 292))))
    clear E
    go_wp2_with fail
    refine HN.out.mono ?_
    rintro e w2 (⟨t2,hx,rfl,hj,hz2⟩ | ⟨f,hx,hkE,b2,hbb,rfl,hcell⟩)
    rotate_left
    ·exact (show bodyPost Tryz.prog Tryz.f261 (Q0M T w (Qm T (arms.flatMap fun d=>QJ d.2.ty) t)) (Exit.panic _) _ w2 from Qb (Or.inr ⟨f,ED.out.trans (Q2E hx),(hz.alloc _).trans hkE,b2,by have:=hz.size;simp at hbb;omega,rfl,hcell⟩))
    have J2:=Hid.mk hj
    have E2:Hid (Qm T (arms.flatMap fun d=>QJ d.2.ty) t=Qm T ((arms.drop (k + 1)).flatMap fun d=>QJ d.2.ty) t2):=ED.out.trans (Q2Z hx)
    have hz3:Qa T.M w w2:=(hz.alloc _).trans hz2
    clear hj hx ED hz2
    go_wp2
    exact ⟨⟨k + 1,t2,by go_num,by omega,J2,hz3,E2⟩,by simp [intOf];omega⟩
   ·have hkk:k=arms.length:=by omega
    subst hkk
    have hfin:Qm T (arms.flatMap fun d=>QJ d.2.ty) t = .ok t':=by
     refine E.out.trans ?_
     rw [List.drop_length]
     rfl
    have HF:=Hid.mk hfin
    clear E hfin
    go_wp2
    go_end0
    exact Or.inl ⟨t',HF.out,rfl,J.out,hz⟩
theorem Q8y {τ:Type} {T:Tell τ} (hT:Q25 T) {bs:List (Nat×Obj)} {b:Nat} {d:Qk} (hok:∀ n∈QR d.ty,T.ok n) (hd:Q0d bs b (.typedef d)) (hJ:∀ {t:τ} {u:World},T.J t u→∀ p∈bs,u.heap[p.1]? = some p.2) {t:τ} {w:World} (h:T.J t w) :
  Calls Tryz.prog 249 #[.pointer (some ⟨b,0,none⟩),T.v] w (Q0M T w (Qm T (QR d.ty) t)):=by
 obtain ⟨k0,k1,k2,_⟩:=Q0h (hJ h _ hd)
 obtain ⟨T1,v1,h1⟩:=QG d.ty
 have hnc:=Q4g d.ty h1
 have hen:=Q3V d.ty
 rw [h1] at k2
 have HN:=Hid.mk (Q8w hT d.ty hok h)
 clear h hok
 go_enter Tryz.func249,Tryz.ntmps249
 go_wp2_with fail
 refine HN.out.mono ?_
 rintro e w2 (⟨t2,hx,rfl,hj,hz2⟩ | ⟨f,hx,hkE,b2,hbb,rfl,hcell⟩)
 rotate_left
 ·exact Qb (Or.inr ⟨f,hx,hkE,b2,hbb,rfl,hcell⟩)
 have HX:=Hid.mk hx
 clear hx
 go_wp2
 go_end0
 exact Or.inl ⟨t2,HX.out,rfl,hj,hz2⟩
theorem Q9M {τ:Type} {T:Tell τ} (hT:Q25 T) {bs:List (Nat×Obj)} {b a:Nat} {n:List UInt8} {sel:Qk} {arms:Arms} (hok:∀ n∈arms.flatMap fun d=>QR d.2.ty,T.ok n) (hd:Q0d bs b (.union n a sel arms)) (hJ:∀ {t:τ} {u:World},T.J t u→∀ p∈bs,u.heap[p.1]? = some p.2) {t:τ} {w:World} (h:T.J t w) :
  Calls Tryz.prog 260 #[.pointer (some ⟨b,0,none⟩),T.v] w (Q0M T w (Qm T (arms.flatMap fun d=>QR d.2.ty) t)):=by
 have HO:=Hid.mk hok
 clear hok
 obtain ⟨sl,css,hb,hcl,hsl,hea⟩:=hd
 obtain ⟨_,k5,_⟩:=Q43 (hJ h _ hb)
 rcases hsl with ⟨rfl,h0,_⟩ | ⟨g,cap,cur,rfl,⟨hcap,hms⟩,hg,htake⟩
 ·have hnil:arms=[]:=List.length_eq_zero_iff.1 h0
  subst hnil
  have HJ0:=Hid.mk h
  clear h hea
  go_enter Tryz.func260,Tryz.ntmps260
  go_wp2
  go_loopw [11] (fun i ur=>i = .int .i64 0∧ur=w) (fun _ _=>0)
  case atStart=>exact ⟨rfl,rfl⟩
  case round=>
   obtain ⟨rfl,rfl⟩:=hrel
   go_wp2
   go_end0
   exact Or.inl ⟨t,rfl,rfl,HJ0.out,Qa.refl _ _⟩
 ·have hrow:∀ (u:World) (t':τ),T.J t' u→∀ i (hi:i < arms.length),∃ ca cn cc,u.cell? ⟨g,i * 4,none⟩=some (.slice ca cn cc)∧u.cell? ⟨g,i * 4 + 1,none⟩=some (.string ⟨arms[i].2.t.toArray⟩)∧u.cell? ⟨g,i * 4 + 2,none⟩=some (.int .i64 arms[i].2.at')∧u.cell? ⟨g,i * 4 + 3,none⟩=some (tyV arms[i].2.ty):=by
   intro u t' hu i hi
   have hgb:=hJ hu _ hg
   have hi':i < css.length:=by omega
   have hf:=Q1q (c:=armC) (n:=4) (fun _=>rfl) (arms.zip css) i
   have hz:i < (arms.zip css).length:=by simp;omega
   obtain ⟨ca,cn,cc,hcv⟩:∃ a b c,css[i]=Value.slice a b c:=by rcases hea i hi hi' with ⟨e,_⟩ | ⟨g,cap,cur,e,_⟩<;>exact ⟨_,_,_,e⟩
   refine ⟨ca,cn,cc,Qn hgb htake ?_,Qn hgb htake ?_,Qn hgb htake ?_,Qn hgb htake ?_⟩
   ·have:=hf 0 hz (by omega);simpa [hcv] using this
   ·have:=hf 1 hz (by omega);simpa using this
   ·have:=hf 2 hz (by omega);simpa using this
   ·have:=hf 3 hz (by omega);simpa using this
  have HR:=Hid.mk hrow
  have HJ0:=Hid.mk h
  clear hrow h hea
  go_enter Tryz.func260,Tryz.ntmps260
  go_wp2
  go_loopw [11] (fun i ur=>∃ (k:Nat) (t':τ),i = .int .i64 k∧k≤arms.length∧Hid (T.J t' ur)∧Qa T.M w ur∧Hid (Qm T (arms.flatMap fun d=>QR d.2.ty) t=Qm T ((arms.drop k).flatMap fun d=>QR d.2.ty) t')) (fun i _=>arms.length - (intOf i).toNat)
  case atStart=>exact ⟨0,t,rfl,by omega,HJ0,Qa.refl _ _,rfl⟩
  case round=>
   obtain ⟨k,t',rfl,hk,J,hz,E⟩:=hrel
   clear HJ0
   rcases Nat.lt_or_ge k arms.length with hlt | hge
   ·obtain ⟨ca,cn,cc,q0,q1,q2,q3⟩:=HR.out _ _ J.out k hlt
    obtain ⟨T1,v1,h1⟩:=QG arms[k].2.ty
    have hnc:=Q4g arms[k].2.ty h1
    have hen:=Q3V arms[k].2.ty
    rw [h1] at q3
    have hi0:(0:Int)≤↑k:=by omega
    have hi1:(↑k:Int) < ↑arms.length:=by omega
    have ED:Hid (Qm T (arms.flatMap fun d=>QR d.2.ty) t=Qm T (QR arms[k].2.ty++(arms.drop (k + 1)).flatMap fun d=>QR d.2.ty) t'):=by
     refine E.out.trans ?_
     rw [List.drop_eq_getElem_cons hlt,List.flatMap_cons]
    have HN:=Hid.mk (Q8w hT arms[k].2.ty (fun n hn=>HO.out n (List.mem_flatMap.2 ⟨arms[k],List.getElem_mem hlt,hn⟩)) (hT.stable J.out ((Below.refl _ _).alloc (Nat.le_refl _) (.cells #[.slice ca cn cc,.string ⟨arms[k].2.t.toArray⟩,.int .i64 arms[k].2.at',.iface T1 v1] 292))))
    clear E
    go_wp2_with fail
    refine HN.out.mono ?_
    rintro e w2 (⟨t2,hx,rfl,hj,hz2⟩ | ⟨f,hx,hkE,b2,hbb,rfl,hcell⟩)
    rotate_left
    ·exact (show bodyPost Tryz.prog Tryz.f260 (Q0M T w (Qm T (arms.flatMap fun d=>QR d.2.ty) t)) (Exit.panic _) _ w2 from Qb (Or.inr ⟨f,ED.out.trans (Q2E hx),(hz.alloc _).trans hkE,b2,by have:=hz.size;simp at hbb;omega,rfl,hcell⟩))
    have J2:=Hid.mk hj
    have E2:Hid (Qm T (arms.flatMap fun d=>QR d.2.ty) t=Qm T ((arms.drop (k + 1)).flatMap fun d=>QR d.2.ty) t2):=ED.out.trans (Q2Z hx)
    have hz3:Qa T.M w w2:=(hz.alloc _).trans hz2
    clear hj hx ED hz2
    go_wp2
    exact ⟨⟨k + 1,t2,by go_num,by omega,J2,hz3,E2⟩,by simp [intOf];omega⟩
   ·have hkk:k=arms.length:=by omega
    subst hkk
    have hfin:Qm T (arms.flatMap fun d=>QR d.2.ty) t = .ok t':=by
     refine E.out.trans ?_
     rw [List.drop_length]
     rfl
    have HF:=Hid.mk hfin
    clear E hfin
    go_wp2
    go_end0
    exact Or.inl ⟨t',HF.out,rfl,J.out,hz⟩
def Q2x (p:Q15):List (List UInt8×Nat):=QJ p.res++QJ p.arg
def Q0u (v:QN):List (List UInt8×Nat):=v.procs.flatMap Q2x
theorem QaG {τ:Type} {T:Tell τ} (hT:Q25 T) {bs:List (Nat×Obj)} {b a:Nat} {n:List UInt8} {vs:List QN} {num:Int} (hok:∀ n∈vs.flatMap Q0u,T.ok n) (hd:Q0d bs b (.prog n a vs num)) (hJ:∀ {t:τ} {u:World},T.J t u→∀ p∈bs,u.heap[p.1]? = some p.2) {t:τ} {w:World} (h:T.J t w) :
  Calls Tryz.prog 265 #[.pointer (some ⟨b,0,none⟩),T.v] w (Q0M T w (Qm T (vs.flatMap Q0u) t)):=by
 have HO:=Hid.mk hok
 clear hok
 obtain ⟨sl,css,hb,hcl,hsl,hea⟩:=hd
 obtain ⟨_,_,k2,_⟩:=Q2I (hJ h _ hb)
 rcases hsl with ⟨rfl,h0,_⟩ | ⟨g,cap,cur,rfl,⟨hcap,hms⟩,hg,htake⟩
 ·have hnil:vs=[]:=List.length_eq_zero_iff.1 h0
  subst hnil
  have HJ0:=Hid.mk h
  clear h hea
  go_enter Tryz.func265,Tryz.ntmps265
  go_wp2
  go_loopw [13] (fun i ur=>i = .int .i64 0∧ur=w) (fun _ _=>0)
  case atStart=>exact ⟨rfl,rfl⟩
  case round=>
   obtain ⟨rfl,rfl⟩:=hrel
   go_wp2
   go_end0
   exact Or.inl ⟨t,rfl,rfl,HJ0.out,Qa.refl _ _⟩
 ·have hrow:∀ (u:World) (t':τ),T.J t' u→∀ i (hi:i < vs.length) (hi':i < css.length),u.cell? ⟨g,i * 4,none⟩=some (.string ⟨vs[i].t.toArray⟩)∧u.cell? ⟨g,i * 4 + 1,none⟩=some (.int .i64 vs[i].at')∧u.cell? ⟨g,i * 4 + 2,none⟩=some css[i]∧u.cell? ⟨g,i * 4 + 3,none⟩=some (.int .i64 vs[i].num):=by
   intro u t' hu i hi hi'
   have hgb:=hJ hu _ hg
   have hf:=Q1q (c:=verC) (n:=4) (fun _=>rfl) (vs.zip css) i
   have hz:i < (vs.zip css).length:=by simp;omega
   refine ⟨Qn hgb htake ?_,Qn hgb htake ?_,Qn hgb htake ?_,Qn hgb htake ?_⟩
   ·exact (hf 0 hz (by omega)).trans (by simp)
   ·exact (hf 1 hz (by omega)).trans (by simp)
   ·exact (hf 2 hz (by omega)).trans (by simp)
   ·exact (hf 3 hz (by omega)).trans (by simp)
  have HR:=Hid.mk hrow
  have HEA:=Hid.mk hea
  have HCL:=Hid.mk hcl
  have HJ0:=Hid.mk h
  clear hrow h hea hcl
  go_enter Tryz.func265,Tryz.ntmps265
  go_wp2
  go_loopw [13] (fun i ur=>∃ (k:Nat) (t':τ),i = .int .i64 k∧k≤vs.length∧Hid (T.J t' ur)∧Qa T.M w ur∧Hid (Qm T (vs.flatMap Q0u) t=Qm T ((vs.drop k).flatMap Q0u) t')) (fun i _=>vs.length - (intOf i).toNat)
  case atStart=>exact ⟨0,t,rfl,by omega,HJ0,Qa.refl _ _,rfl⟩
  case round=>
   obtain ⟨k,t',rfl,hk,J,hz,E⟩:=hrel
   clear HJ0
   rcases Nat.lt_or_ge k vs.length with hlt | hge
   ·have hlt':k < css.length:=by have:=HCL.out;omega
    obtain ⟨q0,q1,q2,q3⟩:=HR.out _ _ J.out k hlt hlt'
    have hi0:(0:Int)≤↑k:=by omega
    have hi1:(↑k:Int) < ↑vs.length:=by omega
    have ED:Hid (Qm T (vs.flatMap Q0u) t=Qm T ((vs[k].procs.drop 0).flatMap Q2x++(vs.drop (k + 1)).flatMap Q0u) t'):=by
     refine E.out.trans ?_
     rw [List.drop_eq_getElem_cons hlt,List.flatMap_cons,List.drop_zero]
     rfl
    clear E
    have hsk:=HEA.out k hlt hlt'
    rcases hsk with ⟨e1,h00,_⟩ | ⟨g2,cap2,cur2,e1,⟨hcap2,hms2⟩,hg2,htake2⟩
    ·rw [e1] at q2
     have hnil:vs[k].procs=[]:=List.length_eq_zero_iff.1 h00
     have J1:=Hid.mk (hT.stable J.out ((Below.refl _ _).alloc (Nat.le_refl _) (.cells #[.string ⟨vs[k].t.toArray⟩,.int .i64 vs[k].at',.slice none 0 0,.int .i64 vs[k].num] 296)))
     have hz1:=hz.alloc (.cells #[.string ⟨vs[k].t.toArray⟩,.int .i64 vs[k].at',.slice none 0 0,.int .i64 vs[k].num] 296)
     have E1:Hid (Qm T (vs.flatMap Q0u) t=Qm T ((vs.drop (k + 1)).flatMap Q0u) t'):=by
      refine ED.out.trans ?_
      rw [hnil]
      rfl
     clear ED e1 hnil h00
     go_wp2
     go_loopw [20] (fun i ur=>i = .int .i64 0∧ur=wr.alloc (.cells #[.string ⟨vs[k].t.toArray⟩,.int .i64 vs[k].at',.slice none 0 0,.int .i64 vs[k].num] 296)) (fun _ _=>0)
     case atStart=>exact ⟨rfl,rfl⟩
     case round=>
      obtain ⟨rfl,rfl⟩:=hrel
      go_wp2
      exact ⟨⟨k + 1,t',by go_num,by omega,J1,hz1,E1⟩,by simp [intOf];omega⟩
    ·rw [e1] at q2
     have hrow2:∀ (u:World) (t':τ),T.J t' u→∀ j (hj:j < vs[k].procs.length),u.cell? ⟨g2,j * 5,none⟩=some (.string ⟨vs[k].procs[j].t.toArray⟩)∧u.cell? ⟨g2,j * 5 + 1,none⟩=some (.int .i64 vs[k].procs[j].at')∧u.cell? ⟨g2,j * 5 + 2,none⟩=some (tyV vs[k].procs[j].res)∧u.cell? ⟨g2,j * 5 + 3,none⟩=some (tyV vs[k].procs[j].arg)∧u.cell? ⟨g2,j * 5 + 4,none⟩=some (.int .i64 vs[k].procs[j].num):=by
      intro u t' hu j hj
      have hgb:=hJ hu _ hg2
      have hf:=Q1q (c:=Q3U) (n:=5) (fun _=>rfl) vs[k].procs j
      exact ⟨Qn hgb htake2 ((hf 0 hj (by omega)).trans (by simp)),Qn hgb htake2 ((hf 1 hj (by omega)).trans (by simp)),Qn hgb htake2 ((hf 2 hj (by omega)).trans (by simp)),Qn hgb htake2 ((hf 3 hj (by omega)).trans (by simp)),Qn hgb htake2 ((hf 4 hj (by omega)).trans (by simp))⟩
     have HR2:=Hid.mk hrow2
     have J1:=Hid.mk (hT.stable J.out ((Below.refl _ _).alloc (Nat.le_refl _) (.cells #[.string ⟨vs[k].t.toArray⟩,.int .i64 vs[k].at',.slice (some ⟨g2,0,none⟩) vs[k].procs.length cap2,.int .i64 vs[k].num] 296)))
     have hz1:=hz.alloc (.cells #[.string ⟨vs[k].t.toArray⟩,.int .i64 vs[k].at',.slice (some ⟨g2,0,none⟩) vs[k].procs.length cap2,.int .i64 vs[k].num] 296)
     clear hrow2 e1 hz
     go_wp2
     go_loopw [20] (fun i u2=>∃ (j:Nat) (t2:τ),i = .int .i64 j∧j≤vs[k].procs.length∧Hid (T.J t2 u2)∧Qa T.M w u2∧Hid (Qm T (vs.flatMap Q0u) t=Qm T ((vs[k].procs.drop j).flatMap Q2x++(vs.drop (k + 1)).flatMap Q0u) t2)) (fun i _=>vs[k].procs.length - (intOf i).toNat)
     case atStart=>exact ⟨0,t',rfl,by omega,J1,hz1,ED⟩
     case round=>
      obtain ⟨j,t2,rfl,hj,Jj,hzj,Ej⟩:=hrel
      clear J1 hz1 ED
      rcases Nat.lt_or_ge j vs[k].procs.length with hlj | hgj
      ·obtain ⟨p0,p1,p2,p3,p4⟩:=HR2.out _ _ Jj.out j hlj
       obtain ⟨T1,v1,h1⟩:=QG vs[k].procs[j].res
       obtain ⟨T2,v2,h2⟩:=QG vs[k].procs[j].arg
       have hnc:=Q2i vs[k].procs[j].res h1
       have hen:=Q21 vs[k].procs[j].res
       have hnc2:=Q2i vs[k].procs[j].arg h2
       have hen2:=Q21 vs[k].procs[j].arg
       rw [h1] at p2
       rw [h2] at p3
       have hj0:(0:Int)≤↑j:=by omega
       have hj1:(↑j:Int) < ↑vs[k].procs.length:=by omega
       have EJ:Hid (Qm T (vs.flatMap Q0u) t=Qm T (QJ vs[k].procs[j].res++(QJ vs[k].procs[j].arg++((vs[k].procs.drop (j + 1)).flatMap Q2x++(vs.drop (k + 1)).flatMap Q0u))) t2):=by
        refine Ej.out.trans ?_
        rw [List.drop_eq_getElem_cons hlj,List.flatMap_cons]
        simp only [Q2x,List.append_assoc]
       have HN:=Hid.mk (Q5I hT vs[k].procs[j].res (fun n hn=>HO.out n (List.mem_flatMap.2 ⟨vs[k],List.getElem_mem hlt,List.mem_flatMap.2 ⟨vs[k].procs[j],List.getElem_mem hlj,List.mem_append_left _ hn⟩⟩)) (hT.stable Jj.out ((Below.refl _ _).alloc (Nat.le_refl _) (.cells #[.string ⟨vs[k].procs[j].t.toArray⟩,.int .i64 vs[k].procs[j].at',.iface T1 v1,.iface T2 v2,.int .i64 vs[k].procs[j].num] 342))))
       have hold:=hT.old Jj.out
       have hzp:=hzj.alloc (.cells #[.string ⟨vs[k].procs[j].t.toArray⟩,.int .i64 vs[k].procs[j].at',.iface T1 v1,.iface T2 v2,.int .i64 vs[k].procs[j].num] 342)
       clear Ej
       go_wp2_with fail
       refine HN.out.mono ?_
       rintro e w2 (⟨t3,hx,rfl,hj3,hz2⟩ | ⟨f,hx,hkE,b2,hbb,rfl,hcell⟩)
       rotate_left
       ·exact (show bodyPost Tryz.prog Tryz.f265 (Q0M T w (Qm T (vs.flatMap Q0u) t)) (Exit.panic _) _ w2 from Qb (Or.inr ⟨f,EJ.out.trans (Q2E hx),hzp.trans hkE,b2,by have:=hzp.size;omega,rfl,hcell⟩))
       have hb2:=(hz2.block _ (by simp) (fun hm=>by have:=hold _ hm;omega)).trans (Qi rfl)
       obtain ⟨_,_,_,s3,_,_⟩:=Q8W hb2
       have E3:Hid (Qm T (vs.flatMap Q0u) t=Qm T (QJ vs[k].procs[j].arg++((vs[k].procs.drop (j + 1)).flatMap Q2x++(vs.drop (k + 1)).flatMap Q0u)) t3):=EJ.out.trans (Q2Z hx)
       have HN2:=Hid.mk (Q5I hT vs[k].procs[j].arg (fun n hn=>HO.out n (List.mem_flatMap.2 ⟨vs[k],List.getElem_mem hlt,List.mem_flatMap.2 ⟨vs[k].procs[j],List.getElem_mem hlj,List.mem_append_right _ hn⟩⟩)) hj3)
       have hz3:=hzp.trans hz2
       clear hx EJ hb2 hz2 hj3 HN hzp
       go_wp2_with fail
       refine HN2.out.mono ?_
       rintro e w4 (⟨t4,hx4,rfl,hj4,hz4⟩ | ⟨f,hx4,hkE,b2,hbb,rfl,hcell⟩)
       rotate_left
       ·exact (show bodyPost Tryz.prog Tryz.f265 (Q0M T w (Qm T (vs.flatMap Q0u) t)) (Exit.panic _) _ w4 from Qb (Or.inr ⟨f,E3.out.trans (Q2E hx4),hz3.trans hkE,b2,by have:=hz3.size;omega,rfl,hcell⟩))
       have J4:=Hid.mk hj4
       have E4:Hid (Qm T (vs.flatMap Q0u) t=Qm T ((vs[k].procs.drop (j + 1)).flatMap Q2x++(vs.drop (k + 1)).flatMap Q0u) t4):=E3.out.trans (Q2Z hx4)
       have hz5:=hz3.trans hz4
       clear hj4 hx4 E3 hz4 hz3
       go_wp2
       exact ⟨⟨j + 1,t4,by go_num,by omega,J4,hz5,E4⟩,by simp [intOf];omega⟩
      ·have hjj:j=vs[k].procs.length:=by omega
       subst hjj
       have E1:Hid (Qm T (vs.flatMap Q0u) t=Qm T ((vs.drop (k + 1)).flatMap Q0u) t2):=by
        refine Ej.out.trans ?_
        rw [List.drop_length]
        rfl
       clear Ej
       go_wp2
       exact ⟨⟨k + 1,t2,by go_num,by omega,Jj,hzj,E1⟩,by simp [intOf];omega⟩
   ·have hkk:k=vs.length:=by omega
    subst hkk
    have hfin:Qm T (vs.flatMap Q0u) t = .ok t':=by
     refine E.out.trans ?_
     rw [List.drop_length]
     rfl
    have HF:=Hid.mk hfin
    clear E hfin
    go_wp2
    go_end0
    exact Or.inl ⟨t',HF.out,rfl,J.out,hz⟩
theorem Q99 {P:Program} {w:World} {b o s n:Nat} {cs:Array Value} {e:TypeId} {fr:Nat×Nat} (hb:w.heap[b]? = some (.cells cs e fr)) (hs:P.cellsOf e=s) (h0:s≠0) (hc:byteOfCell P P.depth e (o % s)=some n) :
  (byteOf ⟨b,o,none⟩).run P w = .ok (o / s * P.bytesOf e + n) w:=by
 have hsh:w.shape? b=some (e,cs.size):=by simp [World.shape?,hb]
 have hv:(viewAt b).run P w = .ok none w:=by simp [viewAt,hsh]
 unfold byteOf
 simp [noView,shape,Sem.run,hv,hsh,hs,h0,hc]
theorem Q4O {P:Program} {fuel:Nat} {t st idx xt f o byo:Nat} {name:String} {b s n1 n2:Nat} {w:World} {cs:Array Value} {e:TypeId} {fr:Nat×Nat} (hb:w.heap[b]? = some (.cells cs e fr)) {i:TypeInfo} (hi:P.info? t=some i) {m:Method} (hm:i.methods.find? (fun m=>m.name == name)=some m) (hp:m.path = #[⟨st,idx,true⟩]) (hf:m.func=some (f,false))
  {fields:Array Field} (hu:P.underlying st=some (.struct fields)) {fd:Field} (hfd:fields[idx]? = some fd) (ht:fd.type=xt) (ho:fd.offset=o) (hby:fd.byteOffset=byo) {fs:Array Field} (hx:P.underlying xt=some (.struct fs)) {j:TypeInfo} (hj:P.info? xt=some j) (hz:j.size=0)
  (hs:P.cellsOf e=s) (h0:s≠0) (hc:byteOfCell P P.depth e (0 % s)=some n1) (hc2:byteOfCell P P.depth e (o % s)=some n2) :
  (method (fuel + 1) t (.pointer (some ⟨b,0,none⟩)) name).run P w = .ok (f,.agg #[]) w:=by
 have b1:=Q99 (P:=P) (o:=0) hb hs h0 hc
 have b2:=Q99 (P:=P) (o:=o) hb hs h0 hc2
 unfold method
 simp only [Sem.run_bind,run_typeInfo _ hi,Result.andThen_ok,hm,hp,hf,follow,run_underlying hu,hfd,Place.get,asAddr,fieldPlace,partAt,sizeOf,ht,run_typeInfo _ hj,Sem.run_pure,if_true,hz,ho,hby,b1,b2,Nat.zero_add,receiverAt,run_underlying hx,loadVar,isAgg]
 rfl
theorem Q5e {P:Program} {st idx:Nat} {t o y:Nat} (h:((P.underlying st).bind fun d=>match d with | .struct fs=>fs[idx]? | _=>none).map (fun f=>(f.type,f.offset,f.byteOffset))=some (t,o,y)) :
  ∃ fs fd,P.underlying st=some (.struct fs)∧fs[idx]? = some fd∧fd.type=t∧fd.offset=o∧fd.byteOffset=y:=by
 cases hu:P.underlying st with
 | none=>rw [hu] at h;cases h
 | some d=>
  rw [hu] at h
  simp only [Option.bind_some] at h
  cases d with
  | struct fs=>
   simp only at h
   cases hf:fs[idx]? with
   | none=>rw [hf] at h;cases h
   | some fd=>
    rw [hf] at h
    simp only [Option.map_some,Option.some.injEq,Prod.mk.injEq] at h
    exact ⟨fs,fd,rfl,hf,h.1,h.2.1,h.2.2⟩
  | _=>cases h
theorem Q4h:∃ fs,Tryz.prog.underlying 203=some (.struct fs):=by
 have h:(Tryz.prog.underlying 203).map (fun d=>match d with | .struct _=>true | _=>false)=some true:=by kernel_rfl
 cases hu:Tryz.prog.underlying 203 with
 | none=>rw [hu] at h;cases h
 | some d=>
  rw [hu] at h
  cases d with
  | struct fs=>exact ⟨fs,rfl⟩
  | _=>cases h
def Q0G:DefL→List (List UInt8×Nat)
 | .const ..=>[]
 | .typedef d=>QJ d.ty
 | .enum ..=>[]
 | .struct _ _ ms=>ms.flatMap fun d=>QJ d.ty
 | .union _ _ _ arms=>arms.flatMap fun d=>QJ d.2.ty
 | .prog _ _ vs _=>vs.flatMap Q0u
def Q0r:DefL→List (List UInt8×Nat)
 | .const ..=>[]
 | .typedef d=>QR d.ty
 | .enum ..=>[]
 | .struct _ _ ms=>ms.flatMap fun d=>QR d.ty
 | .union _ _ _ arms=>arms.flatMap fun d=>QR d.2.ty
 | .prog ..=>[]
def Q65:DefL→Nat
 | .typedef ..=>250
 | .struct ..=>258
 | .union ..=>261
 | .prog ..=>265
 | _=>245
theorem Q8z (d:DefL) (args:Array Value) (w:World):(callFunc (Q65 d) args).run Tryz.prog w = .ok (.enter (Q65 d) args) w:=by cases d<;>kernel_rfl
def Q66:DefL→Nat
 | .typedef ..=>249
 | .struct ..=>257
 | .union ..=>260
 | .prog ..=>264
 | _=>244
theorem Q5J (d:DefL) (args:Array Value) (w:World):(callFunc (Q66 d) args).run Tryz.prog w = .ok (.enter (Q66 d) args) w:=by cases d<;>kernel_rfl
def defR (b:Nat):DefL→Value
 | .const ..=>.agg #[]
 | .enum ..=>.agg #[]
 | _=>.pointer (some ⟨b,0,none⟩)
theorem Q9a {bs : List (Nat × Obj)} {b : Nat} {d : DefL} {w : World} (hd : Q0d bs b d) (hh : ∀ p ∈ bs, w.heap[p.1]? = some p.2) (k : Nat) : (method (k + 1) (defT d) (.pointer (some ⟨b, 0, none⟩)) "Names").run Tryz.prog w = .ok (Q65 d, defR b d) w := by
 cases d with
 | const t a v=>
  obtain ⟨i, m, r1, r2, r3, r4⟩ := Q44 (P := Tryz.prog) (t := 176) (name := "Names") (p := #[⟨272, 1, true⟩]) (f := some (245, false)) (by kernel_rfl)
  obtain ⟨fs,fd,s1,s2,s3,s4,s5⟩:=Q5e (P:=Tryz.prog) (st:=272) (idx:=1) (t:=203) (o:=2) (y:=24) (by kernel_rfl)
  obtain ⟨gs,g1⟩:=Q4h
  obtain ⟨j,j1,j2⟩:=Q2X (P:=Tryz.prog) (t:=203) (n:=0) (by kernel_rfl)
  exact Q4O (s:=3) (n1:=0) (n2:=24) (hh _ hd) r1 r2 r3 r4 s1 s2 s3 s4 s5 g1 j1 j2 (by kernel_rfl) (by omega) (by kernel_rfl) (by kernel_rfl)
 | enum t a ms=>
  obtain ⟨sl,ps,h1,_⟩:=hd
  obtain ⟨i, m, r1, r2, r3, r4⟩ := Q44 (P := Tryz.prog) (t := 180) (name := "Names") (p := #[⟨206, 1, true⟩]) (f := some (245, false)) (by kernel_rfl)
  obtain ⟨fs,fd,s1,s2,s3,s4,s5⟩:=Q5e (P:=Tryz.prog) (st:=206) (idx:=1) (t:=203) (o:=2) (y:=24) (by kernel_rfl)
  obtain ⟨gs,g1⟩:=Q4h
  obtain ⟨j,j1,j2⟩:=Q2X (P:=Tryz.prog) (t:=203) (n:=0) (by kernel_rfl)
  exact Q4O (s:=3) (n1:=0) (n2:=24) (hh _ h1) r1 r2 r3 r4 s1 s2 s3 s4 s5 g1 j1 j2 (by kernel_rfl) (by omega) (by kernel_rfl) (by kernel_rfl)
 | typedef d=>kernel_rfl
 | struct t a ms=>kernel_rfl
 | union t a s ar=>kernel_rfl
 | prog t a vs n=>kernel_rfl
theorem Q67 {bs : List (Nat × Obj)} {b : Nat} {d : DefL} {w : World} (hd : Q0d bs b d) (hh : ∀ p ∈ bs, w.heap[p.1]? = some p.2) (k : Nat) : (method (k + 1) (defT d) (.pointer (some ⟨b, 0, none⟩)) "Leads").run Tryz.prog w = .ok (Q66 d, defR b d) w := by
 cases d with
 | const t a v=>
  obtain ⟨i, m, r1, r2, r3, r4⟩ := Q44 (P := Tryz.prog) (t := 176) (name := "Leads") (p := #[⟨272, 1, true⟩]) (f := some (244, false)) (by kernel_rfl)
  obtain ⟨fs,fd,s1,s2,s3,s4,s5⟩:=Q5e (P:=Tryz.prog) (st:=272) (idx:=1) (t:=203) (o:=2) (y:=24) (by kernel_rfl)
  obtain ⟨gs,g1⟩:=Q4h
  obtain ⟨j,j1,j2⟩:=Q2X (P:=Tryz.prog) (t:=203) (n:=0) (by kernel_rfl)
  exact Q4O (s:=3) (n1:=0) (n2:=24) (hh _ hd) r1 r2 r3 r4 s1 s2 s3 s4 s5 g1 j1 j2 (by kernel_rfl) (by omega) (by kernel_rfl) (by kernel_rfl)
 | enum t a ms=>
  obtain ⟨sl,ps,h1,_⟩:=hd
  obtain ⟨i, m, r1, r2, r3, r4⟩ := Q44 (P := Tryz.prog) (t := 180) (name := "Leads") (p := #[⟨206, 1, true⟩]) (f := some (244, false)) (by kernel_rfl)
  obtain ⟨fs,fd,s1,s2,s3,s4,s5⟩:=Q5e (P:=Tryz.prog) (st:=206) (idx:=1) (t:=203) (o:=2) (y:=24) (by kernel_rfl)
  obtain ⟨gs,g1⟩:=Q4h
  obtain ⟨j,j1,j2⟩:=Q2X (P:=Tryz.prog) (t:=203) (n:=0) (by kernel_rfl)
  exact Q4O (s:=3) (n1:=0) (n2:=24) (hh _ h1) r1 r2 r3 r4 s1 s2 s3 s4 s5 g1 j1 j2 (by kernel_rfl) (by omega) (by kernel_rfl) (by kernel_rfl)
 | typedef d=>kernel_rfl
 | struct t a ms=>kernel_rfl
 | union t a s ar=>kernel_rfl
 | prog t a vs n=>kernel_rfl
theorem QaH {τ:Type} {T:Tell τ} {t:τ} {w:World} (b:Nat) (h:T.J t w):Calls Tryz.prog 264 #[.pointer (some ⟨b,0,none⟩),T.v] w (Q0M T w (.ok t)):=by
 go_enter Tryz.func264,Tryz.ntmps264
 go_wp2
 go_end0
 exact Or.inl ⟨t,rfl,rfl,h,Qa.refl _ _⟩
theorem QbP {τ:Type} {T:Tell τ} (hT:Q25 T) {bs:List (Nat×Obj)} {b:Nat} {d:DefL} (hok:∀ n∈Q0G d,T.ok n) (hd:Q0d bs b d) (hJ:∀ {t:τ} {u:World},T.J t u→∀ p∈bs,u.heap[p.1]? = some p.2) {t:τ} {w:World} (h:T.J t w) :
  Calls Tryz.prog (Q65 d) #[defR b d,T.v] w (Q0M T w (Qm T (Q0G d) t)):=by
 cases d with
 | const t a v=>exact Q2b hT h
 | enum t a ms=>exact Q2b hT h
 | typedef d=>exact Q8x hT hok hd hJ h
 | struct t a ms=>exact Q97 hT hok hd hJ h
 | union t a s ar=>exact Q9L hT hok hd hJ h
 | prog t a vs n=>exact QaG hT hok hd hJ h
theorem Q7v {τ:Type} {T:Tell τ} (hT:Q25 T) {bs:List (Nat×Obj)} {b:Nat} {d:DefL} (hok:∀ n∈Q0r d,T.ok n) (hd:Q0d bs b d) (hJ:∀ {t:τ} {u:World},T.J t u→∀ p∈bs,u.heap[p.1]? = some p.2) {t:τ} {w:World} (h:T.J t w) :
  Calls Tryz.prog (Q66 d) #[defR b d,T.v] w (Q0M T w (Qm T (Q0r d) t)):=by
 cases d with
 | const t a v=>exact Q2c hT h
 | enum t a ms=>exact Q2c hT h
 | typedef d=>exact Q8y hT hok hd hJ h
 | struct t a ms=>exact Q98 hT hok hd hJ h
 | union t a s ar=>exact Q9M hT hok hd hJ h
 | prog t a vs n=>exact QaH b h
def Q2t:DefL→Bool
 | .typedef ..=>true
 | .enum ..=>true
 | .struct ..=>true
 | .union ..=>true
 | _=>false
def Q3f:Option DefL→Bool
 | some d=>Q2t d
 | none=>false
theorem Qev {bs:List (Nat×Obj)} {v:Value} {o:Option DefL} (hv:Q1H bs v o) (w:World):Calls Tryz.prog 93 #[v] w fun e w'=>e = .returned (.bool (Q3f o))∧w'=w:=by
 cases o with
 | none=>
  have hv:v = .nilIface:=hv
  subst hv
  have t1:∀ W,(Instr.typeAssert .nilIface 113 178 true).run Tryz.prog W = .ok (.tuple #[.pointer none,.bool false]) W:=fun W=>by kernel_rfl
  have t2:∀ W,(Instr.typeAssert .nilIface 113 180 true).run Tryz.prog W = .ok (.tuple #[.pointer none,.bool false]) W:=fun W=>by kernel_rfl
  have t3:∀ W,(Instr.typeAssert .nilIface 113 182 true).run Tryz.prog W = .ok (.tuple #[.pointer none,.bool false]) W:=fun W=>by kernel_rfl
  have t4:∀ W,(Instr.typeAssert .nilIface 113 184 true).run Tryz.prog W = .ok (.tuple #[.pointer none,.bool false]) W:=fun W=>by kernel_rfl
  go_enter Tryz.func93,Tryz.ntmps93
  go_wp2
  go_ret
  exact ⟨rfl,rfl⟩
 | some d=>
  obtain ⟨b,rfl,_⟩:=hv
  cases d with
  | const t a v=>
   dsimp only [defT]
   have t1:∀ W,(Instr.typeAssert (.iface 176 (.pointer (some ⟨b,0,none⟩))) 113 178 true).run Tryz.prog W = .ok (.tuple #[.pointer none,.bool false]) W:=fun W=>by kernel_rfl
   have t2:∀ W,(Instr.typeAssert (.iface 176 (.pointer (some ⟨b,0,none⟩))) 113 180 true).run Tryz.prog W = .ok (.tuple #[.pointer none,.bool false]) W:=fun W=>by kernel_rfl
   have t3:∀ W,(Instr.typeAssert (.iface 176 (.pointer (some ⟨b,0,none⟩))) 113 182 true).run Tryz.prog W = .ok (.tuple #[.pointer none,.bool false]) W:=fun W=>by kernel_rfl
   have t4:∀ W,(Instr.typeAssert (.iface 176 (.pointer (some ⟨b,0,none⟩))) 113 184 true).run Tryz.prog W = .ok (.tuple #[.pointer none,.bool false]) W:=fun W=>by kernel_rfl
   go_enter Tryz.func93,Tryz.ntmps93
   go_wp2
   go_ret
   exact ⟨rfl,rfl⟩
  | typedef d=>
   dsimp only [defT]
   have t1:∀ W,(Instr.typeAssert (.iface 178 (.pointer (some ⟨b,0,none⟩))) 113 178 true).run Tryz.prog W = .ok (.tuple #[.pointer (some ⟨b,0,none⟩),.bool true]) W:=fun W=>by kernel_rfl
   have t2:∀ W,(Instr.typeAssert (.iface 178 (.pointer (some ⟨b,0,none⟩))) 113 180 true).run Tryz.prog W = .ok (.tuple #[.pointer none,.bool false]) W:=fun W=>by kernel_rfl
   have t3:∀ W,(Instr.typeAssert (.iface 178 (.pointer (some ⟨b,0,none⟩))) 113 182 true).run Tryz.prog W = .ok (.tuple #[.pointer none,.bool false]) W:=fun W=>by kernel_rfl
   have t4:∀ W,(Instr.typeAssert (.iface 178 (.pointer (some ⟨b,0,none⟩))) 113 184 true).run Tryz.prog W = .ok (.tuple #[.pointer none,.bool false]) W:=fun W=>by kernel_rfl
   go_enter Tryz.func93,Tryz.ntmps93
   go_wp2
   go_ret
   exact ⟨rfl,rfl⟩
  | enum t a ms=>
   dsimp only [defT]
   have t1:∀ W,(Instr.typeAssert (.iface 180 (.pointer (some ⟨b,0,none⟩))) 113 178 true).run Tryz.prog W = .ok (.tuple #[.pointer none,.bool false]) W:=fun W=>by kernel_rfl
   have t2:∀ W,(Instr.typeAssert (.iface 180 (.pointer (some ⟨b,0,none⟩))) 113 180 true).run Tryz.prog W = .ok (.tuple #[.pointer (some ⟨b,0,none⟩),.bool true]) W:=fun W=>by kernel_rfl
   have t3:∀ W,(Instr.typeAssert (.iface 180 (.pointer (some ⟨b,0,none⟩))) 113 182 true).run Tryz.prog W = .ok (.tuple #[.pointer none,.bool false]) W:=fun W=>by kernel_rfl
   have t4:∀ W,(Instr.typeAssert (.iface 180 (.pointer (some ⟨b,0,none⟩))) 113 184 true).run Tryz.prog W = .ok (.tuple #[.pointer none,.bool false]) W:=fun W=>by kernel_rfl
   go_enter Tryz.func93,Tryz.ntmps93
   go_wp2
   go_ret
   exact ⟨rfl,rfl⟩
  | struct t a ms=>
   dsimp only [defT]
   have t1:∀ W,(Instr.typeAssert (.iface 182 (.pointer (some ⟨b,0,none⟩))) 113 178 true).run Tryz.prog W = .ok (.tuple #[.pointer none,.bool false]) W:=fun W=>by kernel_rfl
   have t2:∀ W,(Instr.typeAssert (.iface 182 (.pointer (some ⟨b,0,none⟩))) 113 180 true).run Tryz.prog W = .ok (.tuple #[.pointer none,.bool false]) W:=fun W=>by kernel_rfl
   have t3:∀ W,(Instr.typeAssert (.iface 182 (.pointer (some ⟨b,0,none⟩))) 113 182 true).run Tryz.prog W = .ok (.tuple #[.pointer (some ⟨b,0,none⟩),.bool true]) W:=fun W=>by kernel_rfl
   have t4:∀ W,(Instr.typeAssert (.iface 182 (.pointer (some ⟨b,0,none⟩))) 113 184 true).run Tryz.prog W = .ok (.tuple #[.pointer none,.bool false]) W:=fun W=>by kernel_rfl
   go_enter Tryz.func93,Tryz.ntmps93
   go_wp2
   go_ret
   exact ⟨rfl,rfl⟩
  | union t a se ar=>
   dsimp only [defT]
   have t1:∀ W,(Instr.typeAssert (.iface 184 (.pointer (some ⟨b,0,none⟩))) 113 178 true).run Tryz.prog W = .ok (.tuple #[.pointer none,.bool false]) W:=fun W=>by kernel_rfl
   have t2:∀ W,(Instr.typeAssert (.iface 184 (.pointer (some ⟨b,0,none⟩))) 113 180 true).run Tryz.prog W = .ok (.tuple #[.pointer none,.bool false]) W:=fun W=>by kernel_rfl
   have t3:∀ W,(Instr.typeAssert (.iface 184 (.pointer (some ⟨b,0,none⟩))) 113 182 true).run Tryz.prog W = .ok (.tuple #[.pointer none,.bool false]) W:=fun W=>by kernel_rfl
   have t4:∀ W,(Instr.typeAssert (.iface 184 (.pointer (some ⟨b,0,none⟩))) 113 184 true).run Tryz.prog W = .ok (.tuple #[.pointer (some ⟨b,0,none⟩),.bool true]) W:=fun W=>by kernel_rfl
   go_enter Tryz.func93,Tryz.ntmps93
   go_wp2
   go_ret
   exact ⟨rfl,rfl⟩
  | prog t a vs n=>
   dsimp only [defT]
   have t1:∀ W,(Instr.typeAssert (.iface 186 (.pointer (some ⟨b,0,none⟩))) 113 178 true).run Tryz.prog W = .ok (.tuple #[.pointer none,.bool false]) W:=fun W=>by kernel_rfl
   have t2:∀ W,(Instr.typeAssert (.iface 186 (.pointer (some ⟨b,0,none⟩))) 113 180 true).run Tryz.prog W = .ok (.tuple #[.pointer none,.bool false]) W:=fun W=>by kernel_rfl
   have t3:∀ W,(Instr.typeAssert (.iface 186 (.pointer (some ⟨b,0,none⟩))) 113 182 true).run Tryz.prog W = .ok (.tuple #[.pointer none,.bool false]) W:=fun W=>by kernel_rfl
   have t4:∀ W,(Instr.typeAssert (.iface 186 (.pointer (some ⟨b,0,none⟩))) 113 184 true).run Tryz.prog W = .ok (.tuple #[.pointer none,.bool false]) W:=fun W=>by kernel_rfl
   go_enter Tryz.func93,Tryz.ntmps93
   go_wp2
   go_ret
   exact ⟨rfl,rfl⟩
def Q1r (σ:St) (n:List UInt8×Nat):Except Mar.Fault Unit:=match look σ.names n.1 with
 | some o=>if Q3f o then .ok () else .error ⟨7,n.2⟩
 | none=>.error ⟨7,n.2⟩
def Q0K (A:Ad) (text:ByteArray) (σ:St) (bs:List (Nat×Obj)) (rb:Nat):Tell Unit where
 f:=92
 pre:=#[]
 post:=#[.pointer (some ⟨rb,0,none⟩)]
 run:=fun n _=>Q1r σ n
 J:=fun _ u=>Rd A text σ u∧u.heap[rb]? = some (.cells #[.pointer (some ⟨A.R,0,none⟩)] 101)∧Held A.X bs u
 M:=[]
 ok:=fun _=>True
theorem Qd2 {A:Ad} {text:ByteArray} {σ:St} {bs:List (Nat×Obj)} {rb:Nat} {W:World} (n:List UInt8×Nat) (h:(Q0K A text σ bs rb).J () W) :
  Calls Tryz.prog 92 #[Q1x n,.pointer (some ⟨rb,0,none⟩)] W (Q0M (Q0K A text σ bs rb) W (Q1r σ n)):=by
 obtain ⟨hr,hb,hh⟩:=h
 have hbl:=((Below.refl W.heap.size W).alloc (Nat.le_refl _) (.cells #[.string ⟨n.1.toArray⟩,.int .i64 n.2] 116)).drew
 have hr1:=hr.below hbl
 obtain ⟨c0,c1,c2,c3,c4,hfr⟩:=hr.cells
 have hlr:=hr.lt.1
 have hlb:=Qc hb
 have b0:=QD hb
 have hv:=Qi (w:=W) (o:=.cells #[.string ⟨n.1.toArray⟩,.int .i64 n.2] 116) rfl
 obtain ⟨n0,n1,_⟩:=Q3a hv
 have key:∃ v o bs',(Instr.lookup 104 (.map (some A.N)) (.string ⟨n.1.toArray⟩) false).run Tryz.prog ((W.alloc (.cells #[.string ⟨n.1.toArray⟩,.int .i64 n.2] 116)).drew) = .ok v ((W.alloc (.cells #[.string ⟨n.1.toArray⟩,.int .i64 n.2] 116)).drew)∧Q1H bs' v o∧Q1r σ n=if Q3f o then .ok () else .error ⟨7,n.2⟩:=by
  rcases Q59 hr1.nm n.1 false with ⟨hl,hrun⟩ | ⟨o,v,bs',hl,_,hent,hrun⟩
  ·simp only [Bool.false_eq_true,if_false] at hrun
   exact ⟨.nilIface,none,[],hrun,rfl,by simp only [Q1r,hl,Q3f];rfl⟩
  ·simp only [Bool.false_eq_true,if_false] at hrun
   exact ⟨v,o,bs',hrun,hent,by simp only [Q1r,hl]⟩
 obtain ⟨v,o,bs',hrun,hent,hlk⟩:=key
 have HE:=Hid.mk hent
 have HL:=Hid.mk hlk
 have HJ:Hid ((Q0K A text σ bs rb).J () ((W.alloc (.cells #[.string ⟨n.1.toArray⟩,.int .i64 n.2] 116)).drew)):=⟨hr1,(hbl.block _ hlb).trans hb,hh.keeps (Qa.of_below [] hbl) (by simp)⟩
 have hne1:¬ A.R=W.heap.size:=by omega
 have hne2:¬ rb=W.heap.size:=by omega
 clear hr hb hh hbl hr1 hent hlk hv
 dsimp only [Q1x]
 go_enter Tryz.func92,Tryz.ntmps92
 go_wp2_with fail
 go_region_held2 (fun w'=>w'.cell? ⟨rb,0,none⟩=some (.pointer (some ⟨A.R,0,none⟩))∧w'.cell? ⟨A.R,1,none⟩=some (.map (some A.N))∧w'.cell? ⟨W.heap.size,0,none⟩=some (.string ⟨n.1.toArray⟩)) (go_keep)
  (first | (go_at_call 93;refine (Qev HE.out _).mono ?_;rintro e w' ⟨rfl,rfl⟩))
 all_goals
  cases ho:Q3f o with
  | true=>
   go_wp2
   go_end0
   exact Or.inl ⟨(),by rw [HL.out,ho];rfl,rfl,HJ.out,((Qa.refl _ W).alloc _).drew⟩
  | false=>
   go_wp2_with (go_at_call 47;refine (Q0T _ _ _).mono ?_;rintro e w' ⟨rfl,rfl⟩)
   exact Qb (Or.inr ⟨⟨7,n.2⟩,by rw [HL.out,ho];rfl,(((Qa.refl _ W).alloc _).drew).alloc _,W.heap.size + 1,by omega,rfl,Qi (by simp)⟩)
theorem QfH (args:Array Value) (u:World):(callFunc 92 args).run Tryz.prog u = .ok (.enter 92 args) u:=by kernel_rfl
theorem QhI (A:Ad) (text:ByteArray) (σ:St) (bs:List (Nat×Obj)) (rb:Nat):Q25 (Q0K A text σ bs rb) where
 enters:=QfH
 old:=by intro t w _ m hm;cases hm
 stable:=by
  rintro t w w' ⟨h1,h2,h3⟩ hb
  exact ⟨h1.below hb,(hb.block _ (Qc h2)).trans h2,h3.keeps (Qa.of_below [] hb) (by simp)⟩
 call:=fun n _ h=>Qd2 n h
abbrev Q1E (ds:List DefL) (ps:List Nat):List Value:=(ds.zip ps).map fun p=>Value.iface (defT p.1) (.pointer (some ⟨p.2,0,none⟩))
structure Q23 (bs:List (Nat×Obj)) (sl:Value) (ds:List DefL) (ps:List Nat):Prop where
 len:ps.length=ds.length
 row:Q0j bs 113 sl ds.length (Q1E ds ps)
 each:∀ i (h:i < ds.length) (h':i < ps.length),Q0d bs ps[i] ds[i]
def Q2u (σ:St) (ds:List DefL):Except Mar.Fault Unit:=Qm (Q0K ⟨0,0,0,0,[]⟩ ⟨#[]⟩ σ [] 0) (ds.flatMap Q0G) ()
theorem Qew (A:Ad) (text:ByteArray) (σ:St) (bs:List (Nat×Obj)) (rb:Nat):∀ (ns:List (List UInt8×Nat)) (u:Unit),Qm (Q0K A text σ bs rb) ns u=Qm (Q0K ⟨0,0,0,0,[]⟩ ⟨#[]⟩ σ [] 0) ns u:=by
 intro ns
 induction ns with
 | nil=>intro u;rfl
 | cons n ns ih=>
  intro u
  simp only [Qm]
  have e1:(Q0K A text σ bs rb).run n u=Q1r σ n:=rfl
  have e2:(Q0K ⟨0,0,0,0,[]⟩ ⟨#[]⟩ σ [] 0).run n u=Q1r σ n:=rfl
  rw [e1,e2]
  cases Q1r σ n with
  | ok t'=>exact ih t'
  | error f=>rfl
theorem Q9b {A:Ad} {text:ByteArray} {σ:St} {bs:List (Nat×Obj)} {sl:Value} {ds:List DefL} {ps:List Nat} {w:World} (h:Rd A text σ w) (hh:Held A.X bs w) (hds:Q23 bs sl ds ps) :
  Calls Tryz.prog 51 #[.pointer (some ⟨A.R,0,none⟩),sl] w fun e w'=>(Q2u σ ds = .ok ()∧e = .returned (.tuple #[])∧Qa [] w w')∨(∃ f,Q2u σ ds = .error f∧Qa [] w w'∧Q0A w f.no f.at' e w'):=by
 have hmf:∀ (fn:Fn) (first cap:Array Value) (w:World),(Instr.makeFunc fn first cap).run Tryz.prog w = .ok (.func fn first cap) w:=fun _ _ _ _=>rfl
 have hbl:=(Below.refl w.heap.size w).alloc (Nat.le_refl _) (.cells #[.pointer (some ⟨A.R,0,none⟩)] 101)
 have hT:=QhI A text σ bs w.heap.size
 have hJ:∀ (u:World),(Q0K A text σ bs w.heap.size).J () u→∀ p∈bs,u.heap[p.1]? = some p.2:=fun u hu p hp=>(hu.2.2 p hp).1
 have J0:Hid ((Q0K A text σ bs w.heap.size).J () (w.alloc (.cells #[.pointer (some ⟨A.R,0,none⟩)] 101))):=⟨h.below hbl,Qi rfl,hh.keeps (Qa.of_below [] hbl) (by simp)⟩
 have hle:Q2u σ ds=Qm (Q0K A text σ bs w.heap.size) (ds.flatMap Q0G) ():=(Qew _ _ _ _ _ _ _).symm
 rw [hle]
 have HT:=Hid.mk hT
 have HJ:=Hid.mk hJ
 obtain ⟨hpl,hrow,hea⟩:=hds
 have HEA:=Hid.mk hea
 have HPL:=Hid.mk hpl
 clear h hh hbl hT hle hea hpl
 rcases hrow with ⟨rfl,h0,_⟩ | ⟨g,cap,cur,rfl,⟨hcap,hms⟩,hg,htake⟩
 ·have hnil:ds=[]:=List.length_eq_zero_iff.1 h0
  subst hnil
  clear hJ
  go_enter Tryz.func51,Tryz.ntmps51
  go_wp2
  go_loopw [8] (fun i ur=>i = .int .i64 0∧ur=w.alloc (.cells #[.pointer (some ⟨A.R,0,none⟩)] 101)) (fun _ _=>0)
  case atStart=>exact ⟨rfl,rfl⟩
  case round=>
   obtain ⟨rfl,rfl⟩:=hrel
   go_wp2
   go_end0
   exact Or.inl ⟨rfl,rfl,(Qa.refl _ w).alloc _⟩
 ·have hrw:∀ (u:World),(Q0K A text σ bs w.heap.size).J () u→∀ i (hi:i < ds.length) (hi':i < ps.length),u.cell? ⟨g,i,none⟩=some (.iface (defT ds[i]) (.pointer (some ⟨ps[i],0,none⟩))):=by
   intro u hu i hi hi'
   refine Qn (hJ _ hu _ hg) htake ?_
   have hz:i < (Q1E ds ps).length:=by simp;omega
   rw [List.getElem?_eq_getElem hz]
   simp
  have HR:=Hid.mk hrw
  clear hrw hJ
  go_enter Tryz.func51,Tryz.ntmps51
  go_wp2
  go_loopw [8] (fun i ur=>∃ (k:Nat),i = .int .i64 k∧k≤ds.length∧Hid ((Q0K A text σ bs w.heap.size).J () ur)∧Qa [] w ur∧Hid (Qm (Q0K A text σ bs w.heap.size) (ds.flatMap Q0G) ()=Qm (Q0K A text σ bs w.heap.size) ((ds.drop k).flatMap Q0G) ())) (fun i _=>ds.length - (intOf i).toNat)
  case atStart=>exact ⟨0,rfl,by omega,J0,(Qa.refl _ w).alloc _,rfl⟩
  case round=>
   obtain ⟨k,rfl,hk,J,hz,E⟩:=hrel
   clear J0
   rcases Nat.lt_or_ge k ds.length with hlt | hge
   ·have hlt':k < ps.length:=by have:=HPL.out;omega
    have q0:=HR.out _ J.out k hlt hlt'
    have hnc:=Q9a (HEA.out k hlt hlt') (HJ.out _ J.out)
    have hen:=Q8z ds[k]
    have hi0:(0:Int)≤↑k:=by omega
    have hi1:(↑k:Int) < ↑ds.length:=by omega
    have ED:Hid (Qm (Q0K A text σ bs w.heap.size) (ds.flatMap Q0G) ()=Qm (Q0K A text σ bs w.heap.size) (Q0G ds[k]++(ds.drop (k + 1)).flatMap Q0G) ()):=by
     refine E.out.trans ?_
     rw [List.drop_eq_getElem_cons hlt,List.flatMap_cons]
    have HN:=Hid.mk (QbP HT.out (fun _ _=>trivial) (HEA.out k hlt hlt') (fun hu=>HJ.out _ hu) J.out)
    clear E
    go_wp2_with fail
    refine HN.out.mono ?_
    rintro e w2 (⟨t2,hx,rfl,hj,hz2⟩ | ⟨f,hx,hkE,b2,hbb,rfl,hcell⟩)
    rotate_left
    ·exact (show bodyPost Tryz.prog Tryz.f51 (fun e w'=>(Qm (Q0K A text σ bs w.heap.size) (ds.flatMap Q0G) () = .ok ()∧e = .returned (.tuple #[])∧Qa [] w w')∨(∃ f,Qm (Q0K A text σ bs w.heap.size) (ds.flatMap Q0G) () = .error f∧Qa [] w w'∧Q0A w f.no f.at' e w')) (Exit.panic _) _ w2 from Qb (Or.inr ⟨f,ED.out.trans (Q2E hx),hz.trans hkE,b2,by have:=hz.size;omega,rfl,hcell⟩))
    have J2:=Hid.mk hj
    have E2:Hid (Qm (Q0K A text σ bs w.heap.size) (ds.flatMap Q0G) ()=Qm (Q0K A text σ bs w.heap.size) ((ds.drop (k + 1)).flatMap Q0G) ()):=ED.out.trans (Q2Z hx)
    have hz3:Qa [] w w2:=hz.trans hz2
    clear hj hx ED hz2
    go_wp2
    exact ⟨⟨k + 1,by go_num,by omega,J2,hz3,E2⟩,by simp [intOf];omega⟩
   ·have hkk:k=ds.length:=by omega
    subst hkk
    have hfin:Qm (Q0K A text σ bs w.heap.size) (ds.flatMap Q0G) () = .ok ():=by
     refine E.out.trans ?_
     rw [List.drop_length]
     rfl
    have HF:=Hid.mk hfin
    clear E hfin
    go_wp2
    go_end0
    exact Or.inl ⟨HF.out,rfl,hz⟩
def Q3S (X:List Nat) (N:Nat) (l:List (List UInt8×Option DefL)) (bs:List (Nat×Obj)) (vs:List Value) (w:World):Prop:=
 (l.map (·.1)).Nodup∧Held X bs w∧vs.length=l.length∧w.heap[N]? = some (Q3W (l.zip vs |>.map fun p=>(p.1.1,p.2)))∧∀ i (h:i < l.length) (h':i < vs.length),Q1H bs vs[i] l[i].2
theorem Q3S.keeps {X:List Nat} {N:Nat} {l:List (List UInt8×Option DefL)} {bs:List (Nat×Obj)} {vs:List Value} {w w':World} {M:List Nat} (h:Q3S X N l bs vs w) (hk:Qa M w w') (hM:∀ m∈M,m∈X) (hN:N ∉ M):Q3S X N l bs vs w':=by
 obtain ⟨nd,h1,h2,h3,h4⟩:=h
 exact ⟨nd,h1.keeps hk hM,h2,(hk.block _ (Qc h3) hN).trans h3,h4⟩
theorem Qd3 {X:List Nat} {N:Nat} {l:List (List UInt8×Option DefL)} {bs:List (Nat×Obj)} {vs:List Value} {w:World} (h:Q3S X N l bs vs w) (k:List UInt8) {o:Option DefL} (ho:look l k=some o) :
  ∃ v,Q1H bs v o∧(Instr.lookup 104 (.map (some N)) (.string ⟨k.toArray⟩) false).run Tryz.prog w = .ok v w:=by
 obtain ⟨nd,h1,h2,h3,h4⟩:=h
 have hk:IsKey .string (.string ⟨k.toArray⟩):=trivial
 have hes:=Q3F (l.zip vs |>.map fun p=>(p.1.1,p.2))
 have hz:(zeroValue 113).run Tryz.prog w = .ok .nilIface w:=by kernel_rfl
 rcases Q5B (P:=Tryz.prog) (T:=104) (kt:=9) (et:=113) (d:=.string) (by kernel_rfl) (by kernel_rfl) hk h3 (by simpa using hes) hz false with ⟨g1,g2⟩ | ⟨j,e,g1,g2,g3⟩
 ·exfalso
  obtain ⟨p,hp,e,_⟩:=Q8q ho
  obtain ⟨i,hi,rfl⟩:=List.getElem_of_mem hp
  have hi':i < vs.length:=by omega
  have hm:(⟨.string ⟨l[i].1.toArray⟩,vs[i],i⟩:MapEntry)∈((l.zip vs |>.map fun p=>(p.1.1,p.2)).mapIdx fun i p=>(⟨.string ⟨p.1.toArray⟩,p.2,i⟩:MapEntry)).toArray.toList:=by
   simp only [List.toList_toArray]
   rw [List.mem_mapIdx]
   exact ⟨i,by simp;omega,by simp⟩
  exact g1 _ hm (by rw [e])
 ·simp only [List.toList_toArray,List.getElem?_mapIdx] at g1
  have hj:j < l.length:=by
   by_cases hj:j < l.length
   ·exact hj
   ·rw [List.getElem?_eq_none (by simp;omega)] at g1
    cases g1
  have hj':j < vs.length:=by omega
  rw [List.getElem?_eq_getElem (by simp;omega)] at g1
  simp at g1
  subst g1
  simp at g2 g3
  have e2:=Q7i nd (List.getElem_mem hj) g2
  rw [ho] at e2
  cases e2
  exact ⟨vs[j],h4 j hj hj',by simpa using g3⟩
def Q1f (σ:St) (t:List (List UInt8)):Nat:=σ.names.countP fun p=>!t.contains p.1
theorem Qd4 {t:List (List UInt8)} {n:List UInt8} (hn:n ∉ t):∀ (l:List (List UInt8×Option DefL)),l.countP (fun p=>!(t++[n]).contains p.1)≤l.countP (fun p=>!t.contains p.1)∧((∃ p∈l,p.1=n)→l.countP (fun p=>!(t++[n]).contains p.1) < l.countP (fun p=>!t.contains p.1)):=by
 intro l
 induction l with
 | nil=>exact ⟨by simp,by rintro ⟨p,hp,_⟩;cases hp⟩
 | cons x l ih=>
  obtain ⟨i1,i2⟩:=ih
  by_cases hx:x.1=n
  ·have h1:(!(t++[n]).contains x.1)=false:=by simp [hx]
   have h2:(!t.contains x.1)=true:=by rw [hx];simpa using hn
   rw [List.countP_cons_of_neg (by show ¬ ((!(t++[n]).contains x.1)=true);rw [h1];simp),List.countP_cons_of_pos (by exact h2)]
   exact ⟨by omega,fun _=>by omega⟩
  ·have h1:(!(t++[n]).contains x.1)=(!t.contains x.1):=by simp [hx]
   rw [List.countP_cons,List.countP_cons,h1]
   refine ⟨by omega,?_⟩
   rintro ⟨p,hp,e⟩
   rcases List.mem_cons.1 hp with rfl | hp
   ·exact absurd e hx
   ·have:=i2 ⟨p,hp,e⟩
    omega
theorem Q9N {σ:St} {t:List (List UInt8)} {n:List UInt8} {o:Option DefL} (hn:n ∉ t) (ho:look σ.names n=some o):Q1f σ (t++[n]) < Q1f σ t:=by
 obtain ⟨p,hp,e,_⟩:=Q8q ho
 exact (Qd4 hn σ.names).2 ⟨p,hp,e⟩
def Q6x (σ:St) (n:List UInt8):List (List UInt8×Nat):=match look σ.names n with
 | some (some d)=>Q0r d
 | _=>[]
def follow (σ:St):Nat→List UInt8→List (List UInt8)→List (List UInt8)
 | 0,_,t=>t
 | k + 1,n,t=>if t.contains n then t else (Q6x σ n).foldl (fun t m=>follow σ k m.1 t) (t++[n])
theorem QfI {σ:St} {k:Nat} {n:List UInt8} {t:List (List UInt8)} (h:n∈t):follow σ k n t=t:=by
 cases k with
 | zero=>rfl
 | succ k=>simp only [follow];rw [if_pos (by simpa using h)]
theorem Qex {σ:St} {k:Nat} {n:List UInt8} {t:List (List UInt8)} {d:DefL} (h:n ∉ t) (hd:look σ.names n=some (some d)):follow σ (k + 1) n t=(Q0r d).foldl (fun t m=>follow σ k m.1 t) (t++[n]):=by
 simp only [follow,Q6x,hd]
 rw [if_neg (by simpa using h)]
structure FwAd where
 qb:Nat
 rb:Nat
 fb:Nat
 q:Nat
def FwAd.V (a:FwAd):Value:=.func (.func 139) #[] #[.pointer (some ⟨a.qb,0,none⟩),.pointer (some ⟨a.rb,0,none⟩),.pointer (some ⟨a.fb,0,none⟩)]
structure FwJ (A:Ad) (text:ByteArray) (σ:St) (bs:List (Nat×Obj)) (vs:List Value) (a:FwAd) (k:Nat) (t:List (List UInt8)) (u:World):Prop where
 rd:Rd A text σ u
 nw:Q3S A.X A.N σ.names bs vs u
 vq:u.heap[a.qb]? = some (.cells #[.map (some a.q)] 64)
 vr:u.heap[a.rb]? = some (.cells #[.pointer (some ⟨A.R,0,none⟩)] 101)
 vf:u.heap[a.fb]? = some (.cells #[a.V] 190)
 set:Q0m a.q t u
 free:Free A a.q
 few:Q1f σ t≤k
theorem FwJ.apart {A:Ad} {text:ByteArray} {σ:St} {bs:List (Nat×Obj)} {vs:List Value} {a:FwAd} {k:Nat} {t:List (List UInt8)} {u:World} (h:FwJ A text σ bs vs a k t u):a.qb≠a.q∧a.rb≠a.q∧a.fb≠a.q:=by
 obtain ⟨_,vs',_,hm⟩:=h.set
 have v1:=h.vq
 have v2:=h.vr
 have v3:=h.vf
 unfold Q3W at hm
 refine ⟨?_,?_,?_⟩
 ·intro e;rw [e,hm] at v1;cases v1
 ·intro e;rw [e,hm] at v2;cases v2
 ·intro e;rw [e,hm] at v3;cases v3
theorem FwJ.turn {A:Ad} {text:ByteArray} {σ:St} {bs:List (Nat×Obj)} {vs:List Value} {a:FwAd} {k k':Nat} {t t':List (List UInt8)} {u u':World} (h:FwJ A text σ bs vs a k t u) (hk:Qa [a.q] u u') (hs:Q0m a.q t' u') (hf:Q1f σ t'≤k'):FwJ A text σ bs vs a k' t' u':=by
 obtain ⟨n1,n2,n3⟩:=h.apart
 obtain ⟨_,vs',_,hm⟩:=id h.set
 refine ⟨h.rd.turned hk h.free hm,h.nw.keeps hk (by simp;exact h.free.1) (by simp;exact fun e=>h.free.2.2.2.1 e.symm),(hk.block _ (Qc h.vq) (by simpa using n1)).trans h.vq,(hk.block _ (Qc h.vr) (by simpa using n2)).trans h.vr,(hk.block _ (Qc h.vf) (by simpa using n3)).trans h.vf,hs,h.free,hf⟩
theorem FwJ.below {A:Ad} {text:ByteArray} {σ:St} {bs:List (Nat×Obj)} {vs:List Value} {a:FwAd} {k:Nat} {t:List (List UInt8)} {u u':World} (h:FwJ A text σ bs vs a k t u) (hb:Below u.heap.size u u'):FwJ A text σ bs vs a k t u':=
 h.turn (Qa.of_below [a.q] hb) (h.set.keeps (Qa.of_below [] hb) (by simp)) h.few
def Q5K (A:Ad) (text:ByteArray) (σ:St) (bs:List (Nat×Obj)) (vs:List Value) (a:FwAd) (k:Nat):Tell (List (List UInt8)) where
 f:=139
 pre:=#[]
 post:=#[.pointer (some ⟨a.qb,0,none⟩),.pointer (some ⟨a.rb,0,none⟩),.pointer (some ⟨a.fb,0,none⟩)]
 run:=fun n t=>.ok (follow σ k n.1 t)
 J:=FwJ A text σ bs vs a k
 M:=[a.q]
 ok:=fun n=>∃ d,look σ.names n.1=some (some d)
theorem Q9c (A:Ad) (text:ByteArray) (σ:St) (bs:List (Nat×Obj)) (vs:List Value) (a:FwAd) (k:Nat):∀ (ns:List (List UInt8×Nat)) (t:List (List UInt8)),Qm (Q5K A text σ bs vs a k) ns t = .ok (ns.foldl (fun t m=>follow σ k m.1 t) t):=by
 intro ns
 induction ns with
 | nil=>intro t;rfl
 | cons n ns ih=>intro t;simp only [Qm,Q5K,List.foldl_cons];exact ih _
theorem QfJ (args:Array Value) (u:World):(callFunc 139 args).run Tryz.prog u = .ok (.enter 139 args) u:=by kernel_rfl
theorem QhJ {A:Ad} {text:ByteArray} {σ:St} {bs:List (Nat×Obj)} {vs:List Value} {a:FwAd} {k:Nat} (HG:∀ n d,look σ.names n=some (some d)→∀ m∈Q0r d,∃ d',look σ.names m.1=some (some d'))
  (ih:∀ k',k' < k→Q25 (Q5K A text σ bs vs a k')) {t:List (List UInt8)} {W:World} (n:List UInt8×Nat) (hn:∃ d,look σ.names n.1=some (some d)) (h:FwJ A text σ bs vs a k t W) :
  Calls Tryz.prog 139 #[Q1x n,.pointer (some ⟨a.qb,0,none⟩),.pointer (some ⟨a.rb,0,none⟩),.pointer (some ⟨a.fb,0,none⟩)] W (Q0M (Q5K A text σ bs vs a k) W (.ok (follow σ k n.1 t))):=by
 obtain ⟨d,hd⟩:=hn
 have hbl:=(Below.refl W.heap.size W).alloc (Nat.le_refl _) (.cells #[.string ⟨n.1.toArray⟩,.int .i64 n.2] 116)
 have h1:=h.below hbl
 have hv:=Qi (w:=W) (o:=.cells #[.string ⟨n.1.toArray⟩,.int .i64 n.2] 116) rfl
 have lq:=h.set.lt
 obtain ⟨n0,n1,_⟩:=Q3a hv
 have c0:=QD h1.vq
 rcases Q8n h1.set n.1 with ⟨hnot,hrun⟩ | ⟨v,hin,hrun⟩
 ·obtain ⟨ob,hput,hset⟩:=h1.set.put hnot (.int .i64 n.2)
  have hdr:=Q9N hnot hd
  have hfew:=h.few
  obtain ⟨k',rfl⟩:∃ k',k=k' + 1:=⟨k - 1,by omega⟩
  have kq:=Q0a (W.alloc (.cells #[.string ⟨n.1.toArray⟩,.int .i64 n.2] 116)) a.q ob
  have h2:=h1.turn (k':=k') kq hset (by omega)
  have hv2:=(kq.block _ (Qc hv) (by simp;omega)).trans hv
  obtain ⟨m0,m1,_⟩:=Q3a hv2
  have b2:=QD h2.vr
  have f2:=QD h2.vf
  have R2:=h2.rd.cells.2.1
  have h3:=h2.below (Below.refl _ _).drew
  obtain ⟨v,hent,hlk⟩:=Qd3 h3.nw n.1 hd
  obtain ⟨b,rfl,hdef⟩:=hent
  have hnc:=Q67 hdef (fun p hp=>(h3.nw.2.1 p hp).1)
  have hen:=Q5J d
  have HN:=Hid.mk (Q7v (ih k' (by omega)) (HG n.1 d hd) hdef (fun {t u} hu p hp=>(hu.nw.2.1 p hp).1) h3)
  have HF:=Hid.mk (Qex (k:=k') hnot hd)
  have HKP:Hid (Qa [a.q] W ((Q09 (W.alloc (.cells #[.string ⟨n.1.toArray⟩,.int .i64 n.2] 116)) a.q ob).drew)):=(((Qa.refl _ W).alloc _).trans kq).drew
  have hap:=h2.apart
  have hE:∀ w5,Qa [a.q] ((Q09 (W.alloc (.cells #[.string ⟨n.1.toArray⟩,.int .i64 n.2] 116)) a.q ob).drew) w5→w5.cell? ⟨a.rb,0,none⟩=some (.pointer (some ⟨A.R,0,none⟩))∧w5.cell? ⟨A.R,1,none⟩=some (.map (some A.N))∧w5.cell? ⟨W.heap.size,0,none⟩=some (.string ⟨n.1.toArray⟩)∧w5.cell? ⟨a.fb,0,none⟩=some a.V:=by
   intro w5 hk5
   have hk5':=((Qa.refl _ (Q09 (W.alloc (.cells #[.string ⟨n.1.toArray⟩,.int .i64 n.2] 116)) a.q ob)).drew).trans hk5
   obtain ⟨_,vs',_,hm⟩:=id h2.set
   have hR:=(h2.rd.turned hk5' h2.free hm).cells.2.1
   obtain ⟨z0,_,_⟩:=Q3a ((hk5'.block _ (Qc hv2) (by simp;omega)).trans hv2)
   exact ⟨QD ((hk5'.block _ (Qc h2.vr) (by simpa using hap.2.1)).trans h2.vr),hR,z0,QD ((hk5'.block _ (Qc h2.vf) (by simpa using hap.2.2)).trans h2.vf)⟩
  have HE:=Hid.mk hE
  clear h1 h hbl hv h2 h3 hv2 kq hset hdr hfew ih HG hdef hE hap
  dsimp only [Q1x]
  go_enter Tryz.func139,Tryz.ntmps139
  go_wp2_with fail
  go_region_held2 (fun w'=>w'.cell? ⟨a.rb,0,none⟩=some (.pointer (some ⟨A.R,0,none⟩))∧w'.cell? ⟨A.R,1,none⟩=some (.map (some A.N))∧w'.cell? ⟨W.heap.size,0,none⟩=some (.string ⟨n.1.toArray⟩)∧w'.cell? ⟨a.fb,0,none⟩=some a.V) (go_keep)
   (first | (refine HN.out.mono ?_;rintro e w5 (⟨t5,hx5,rfl,hj5,hz5⟩ | ⟨f,hx5,_⟩);rotate_left;(rw [Q9c] at hx5;cases hx5);have HJ5:=Hid.mk hj5;have HZ5:=Hid.mk hz5;have HX5:=Hid.mk hx5;obtain ⟨e1,e2,e3,e4⟩:=HE.out w5 hz5;clear hj5 hz5 hx5))
  all_goals
   go_wp2
   go_end0
   have hx:=HX5.out
   rw [Q9c] at hx
   cases hx
   exact Or.inl ⟨_,by rw [HF.out],rfl,HJ5.out.turn (Qa.refl _ _) HJ5.out.set (by have:=HJ5.out.few;omega),HKP.out.trans HZ5.out⟩
 ·have HF:=Hid.mk (QfI (σ:=σ) (k:=k) hin)
  have HJ:=Hid.mk h1
  clear h1 h hbl hv ih HG
  dsimp only [Q1x]
  go_enter Tryz.func139,Tryz.ntmps139
  go_wp2
  go_end0
  exact Or.inl ⟨t,by rw [HF.out],rfl,HJ.out,(Qa.refl _ W).alloc _⟩
theorem QgS {A:Ad} {text:ByteArray} {σ:St} {bs:List (Nat×Obj)} {vs:List Value} {a:FwAd} (HG:∀ n d,look σ.names n=some (some d)→∀ m∈Q0r d,∃ d',look σ.names m.1=some (some d')):∀ k,Q25 (Q5K A text σ bs vs a k):=by
 intro k
 induction k using Nat.strongRecOn with
 | ind k ih=>
  refine ⟨QfJ,?_,?_,?_⟩
  ·intro t w h m hm
   simp only [Q5K,List.mem_singleton] at hm
   subst hm
   exact h.set.lt
  ·intro t w w' h hb
   exact FwJ.below h hb
  ·intro t W n hn h
   exact QhJ HG ih n hn h
theorem Q4i (K T:TypeId) (b k:Nat) (w:World)
  (h1 : ((Tryz.prog.info? T).bind fun i => i.methods.find? (fun m => m.name == "Title")).map (fun m => (m.path, m.func)) = some (#[⟨K, 0, true⟩], some (238, false)))
  (h2:((Tryz.prog.underlying K).bind fun d=>match d with | .struct fs=>fs[0]? | _=>none).map (fun f=>(f.type,f.offset))=some (116,0)) :
  (method (k + 1) T (.pointer (some ⟨b, 0, none⟩)) "Title").run Tryz.prog w = ((loadVar 116 ⟨b, 0, none⟩).run Tryz.prog w).andThen (fun x w' => .ok (238, x) w') := by
 obtain ⟨i,m,r1,r2,r3,r4⟩:=Q44 h1
 obtain ⟨fs,fd,s1,s2,s3,s4⟩:=Q3Q h2
 obtain ⟨gs,gd,g1,_⟩:=Q3Q (P:=Tryz.prog) (st:=116) (idx:=0) (t:=9) (o:=0) (by kernel_rfl)
 obtain ⟨j,j1,j2⟩:=Q2X (P:=Tryz.prog) (t:=116) (n:=2) (by kernel_rfl)
 exact Qeo r1 r2 r3 r4 s1 s2 s3 s4 g1 j1 (by omega)
theorem QaI (d : DefL) (b k : Nat) (w : World) : (method (k + 1) (defT d) (.pointer (some ⟨b, 0, none⟩)) "Title").run Tryz.prog w = ((loadVar 116 ⟨b, 0, none⟩).run Tryz.prog w).andThen (fun x w' => .ok (238, x) w') := by
 cases d with
 | const t a v=>exact Q4i 272 176 b k w (by kernel_rfl) (by kernel_rfl)
 | typedef d=>
  obtain ⟨i, m, r1, r2, r3, r4⟩ := Q44 (P := Tryz.prog) (t := 178) (name := "Title") (p := #[⟨197, 0, true⟩, ⟨195, 0, false⟩]) (f := some (238, false)) (by kernel_rfl)
  obtain ⟨fs,fd,s1,s2,s3,s4⟩:=Q3Q (P:=Tryz.prog) (st:=197) (idx:=0) (t:=195) (o:=0) (by kernel_rfl)
  obtain ⟨fs',fd',s1',s2',s3',s4'⟩:=Q3Q (P:=Tryz.prog) (st:=195) (idx:=0) (t:=116) (o:=0) (by kernel_rfl)
  obtain ⟨gs,gd,g1,_⟩:=Q3Q (P:=Tryz.prog) (st:=116) (idx:=0) (t:=9) (o:=0) (by kernel_rfl)
  obtain ⟨j,j1,j2⟩:=Q2X (P:=Tryz.prog) (t:=116) (n:=2) (by kernel_rfl)
  obtain ⟨kk,k1,k2⟩:=Q2X (P:=Tryz.prog) (t:=195) (n:=3) (by kernel_rfl)
  exact QcR r1 r2 r3 r4 s1 s2 s3 s4 k1 (by omega) s1' s2' s3' s4' g1 j1 (by omega)
 | enum t a ms=>exact Q4i 206 180 b k w (by kernel_rfl) (by kernel_rfl)
 | struct t a ms=>exact Q4i 282 182 b k w (by kernel_rfl) (by kernel_rfl)
 | union t a s ar=>exact Q4i 287 184 b k w (by kernel_rfl) (by kernel_rfl)
 | prog t a vs n=>exact Q4i 220 186 b k w (by kernel_rfl) (by kernel_rfl)
theorem Q2O {X:List Nat} {bs:List (Nat×Obj)} {b:Nat} {d:DefL} {w:World} (hd:Q0d bs b d) (hh:Held X bs w) (k:Nat) :
  (method (k + 1) (defT d) (.pointer (some ⟨b, 0, none⟩)) "Title").run Tryz.prog w = .ok (238, .agg #[.string ⟨(Qw d).1.toArray⟩, .int .i64 (Qw d).2]) w := by
 obtain ⟨c0,c1⟩:=QgQ hd hh
 have hl:(loadVar 116 ⟨b,0,none⟩).run Tryz.prog w = .ok (.agg #[.string ⟨(Qw d).1.toArray⟩,.int .i64 (Qw d).2]) w:=by go_simp
 rw [QaI,hl]
 rfl
def Q30 (σ:St) (d:DefL):Bool:=((Q0r d).foldl (fun t m=>follow σ (Q1f σ []) m.1 t) []).contains (Qw d).1
theorem QfK {q:Nat} {l:List (List UInt8)} {w:World} (h:Q0m q l w) (k:List UInt8):∃ v,(Instr.lookup 64 (.map (some q)) (.string ⟨k.toArray⟩) true).run Tryz.prog w = .ok (.tuple #[v,.bool (l.contains k)]) w:=by
 rcases Q8n h k with ⟨hn,hr⟩ | ⟨v,hn,hr⟩
 ·exact ⟨.int .i64 0,by rw [hr];simp [hn]⟩
 ·exact ⟨v,by rw [hr];simp [hn]⟩
theorem Qd5 {A:Ad} {text:ByteArray} {σ:St} {bs:List (Nat×Obj)} {vs:List Value} {b:Nat} {d:DefL} {w:World} (h:Rd A text σ w) (hw:Q3S A.X A.N σ.names bs vs w) (hd:Q0d bs b d)
  (HG:∀ n d,look σ.names n=some (some d)→∀ m∈Q0r d,∃ d',look σ.names m.1=some (some d')) (hl:∀ m∈Q0r d,∃ d',look σ.names m.1=some (some d')) :
  Calls Tryz.prog 94 #[.pointer (some ⟨A.R,0,none⟩),.iface (defT d) (.pointer (some ⟨b,0,none⟩))] w fun e w'=>e = .returned (.bool (Q30 σ d))∧Qa [] w w':=by
 have hmf:∀ (fn:Fn) (first cap:Array Value) (w:World),(Instr.makeFunc fn first cap).run Tryz.prog w = .ok (.func fn first cap) w:=fun _ _ _ _=>rfl
 have hmm:∀ (t:TypeId) (w:World),(Instr.makeMap t none).run Tryz.prog w = .ok (.map (some w.heap.size)) (w.alloc (.map #[] 0)):=fun _ _=>rfl
 obtain ⟨l1,l2,l3,l4⟩:=h.lt
 obtain ⟨a,ha⟩:∃ a:FwAd,a=⟨w.heap.size + 2,w.heap.size,w.heap.size + 3,w.heap.size + 1⟩:=⟨_,rfl⟩
 obtain ⟨W4,hW4⟩:∃ W4,W4=(((w.alloc (.cells #[.pointer (some ⟨A.R,0,none⟩)] 101)).alloc (.map #[] 0)).alloc (.cells #[.map (some (w.heap.size + 1))] 64)).alloc (.cells #[a.V] 190):=⟨_,rfl⟩
 have s1:(w.alloc (.cells #[.pointer (some ⟨A.R,0,none⟩)] 101)).heap.size=w.heap.size + 1:=by simp
 have s2:((w.alloc (.cells #[.pointer (some ⟨A.R,0,none⟩)] 101)).alloc (.map #[] 0)).heap.size=w.heap.size + 2:=by simp
 have s3:(((w.alloc (.cells #[.pointer (some ⟨A.R,0,none⟩)] 101)).alloc (.map #[] 0)).alloc (.cells #[.map (some (w.heap.size + 1))] 64)).heap.size=w.heap.size + 3:=by simp
 have hr1:=h.below ((Below.refl w.heap.size w).alloc (Nat.le_refl _) (.cells #[.pointer (some ⟨A.R,0,none⟩)] 101))
 have hr2:=hr1.own (.map #[] 0)
 rw [s1] at hr2
 have kab:=((Qa.refl [] ((w.alloc (.cells #[.pointer (some ⟨A.R,0,none⟩)] 101)).alloc (.map #[] 0))).alloc (.cells #[.map (some (w.heap.size + 1))] 64)).alloc (.cells #[a.V] 190)
 have hb24:Below (w.heap.size + 2) ((w.alloc (.cells #[.pointer (some ⟨A.R,0,none⟩)] 101)).alloc (.map #[] 0)) W4:=by
  rw [hW4]
  exact ((Below.refl _ _).alloc (by omega) _).alloc (by omega) _
 rw [← s2] at hb24
 have hr4:=hr2.below hb24
 have k4:Qa [] w W4:=by rw [hW4];exact ((((Qa.refl [] w).alloc _).alloc _).alloc _).alloc _
 have J4:FwJ (A.add (w.heap.size + 1)) text σ bs vs a (Q1f σ []) [] W4:=by
  refine ⟨hr4,?_,?_,?_,?_,?_,?_,Nat.le_refl _⟩
  ·obtain ⟨nd,g1,g2,g3,g4⟩:=hw
   exact ⟨nd,(g1.add (by omega)).keeps k4 (by simp),g2,(k4.block _ (Qc g3) (by simp)).trans g3,g4⟩
  ·rw [ha,hW4]
   dsimp only
   exact (((Qa.refl [] _).alloc _).block _ (by rw [s3];omega) (by simp)).trans (Qi s2.symm)
  ·rw [ha,hW4]
   dsimp only
   exact ((((((Qa.refl [] _).alloc _).alloc _).alloc _)).block _ (by rw [s1];omega) (by simp)).trans (Qi rfl)
  ·rw [hW4,ha]
   dsimp only
   exact Qi s3.symm
  ·refine ⟨by simp,[],rfl,?_⟩
   rw [ha,hW4]
   dsimp only
   exact ((((Qa.refl [] _).alloc _).alloc _).block _ (by rw [s2];omega) (by simp)).trans (Qi s1.symm)
  ·rw [ha]
   dsimp only
   refine ⟨by simp [Ad.add],?_,?_,?_,?_⟩<;>simp only [Ad.add]<;>omega
 have f4:=QD J4.vf
 have hT:=QgS (A:=A.add (w.heap.size + 1)) (text:=text) (bs:=bs) (vs:=vs) (a:=a) HG (Q1f σ [])
 have hnc:=Q67 hd (fun p hp=>(J4.nw.2.1 p hp).1)
 have hen:=Q5J d
 have HN:=Hid.mk (Q7v hT hl hd (fun {t u} hu p hp=>(hu.nw.2.1 p hp).1) J4)
 have HK4:=Hid.mk k4
 clear J4 hT k4 hr4 hr1 hr2 hb24 kab hw h HG hl
 subst hW4
 subst ha
 dsimp only [FwAd.V] at f4 hnc
 go_enter Tryz.func94,Tryz.ntmps94
 go_wp2_with fail
 refine HN.out.mono ?_
 rintro e w5 (⟨t5,hx5,rfl,hj5,hz5⟩ | ⟨f,hx5,_⟩)
 rotate_left
 ·rw [Q9c] at hx5
  cases hx5
 rw [Q9c] at hx5
 cases hx5
 have q5:=QD hj5.vq
 dsimp only at q5
 have lq5:=Qc hj5.vq
 dsimp only at lq5
 have j5d:=hj5.below (Below.refl _ _).drew
 have htr:=Q2O hd j5d.nw.2.1
 have htn:=Q1S
 have hfn:∀ (a b:Value) (W:World),(Instr.field 116 (.agg #[a,b]) 0).run Tryz.prog W = .ok a W:=fun _ _ _=>by kernel_rfl
 have HJ5:=Hid.mk hj5
 have HJ5d:=Hid.mk j5d
 have HZ5:=Hid.mk hz5
 clear hj5 hz5 j5d HN hnc f4 s1 s2 s3
 go_wp2_with fail
 go_region_held2 (fun w'=>w'.cell? ⟨w.heap.size + 2,0,none⟩=some (.map (some (w.heap.size + 1)))) (go_keep)
  (first | (go_at_call 238;refine (Q2M _ _ _).mono ?_;rintro e w6 ⟨rfl,hb6⟩;obtain ⟨v6,hlk6⟩:=QfK (HJ5d.out.below hb6).set (Qw d).1;have q6:=QD (HJ5d.out.below hb6).vq;dsimp only at q6 hlk6;have HB6:=Hid.mk hb6;clear hb6))
 all_goals
  go_wp2
  go_ret
  refine ⟨Q4s (a:=decide ((Qw d).1∈(Q0r d).foldl (fun (t:List (List UInt8)) (m:List UInt8×Nat)=>follow σ (Q1f σ []) m.1 t) [])) (b:=Q30 σ d) (by simp [Q30]),?_⟩
  exact (HK4.out.young HZ5.out (by intro m hm;simp only [Q5K,List.mem_singleton] at hm;subst hm;exact Or.inr (by omega))).trans (((Qa.refl [] w5).drew).trans (Qa.of_below [] HB6.out))
def Q1J (σ:St):List DefL→Except Mar.Fault Unit
 | []=>.ok ()
 | d :: ds=>if Q30 σ d then .error ⟨9,(Qw d).2⟩ else Q1J σ ds
theorem Rd.quiet {A:Ad} {text:ByteArray} {σ:St} {w w':World} (h:Rd A text σ w) (hk:Qa [] w w'):Rd A text σ w':=h.keeps hk (by simp) (by simp) (by simp) (by simp) (by simp) (by simp) (by simp) (by simp)
theorem Q9d {A:Ad} {text:ByteArray} {σ:St} {bs:List (Nat×Obj)} {vs:List Value} {sl:Value} {ds:List DefL} {ps:List Nat} {w:World} (h:Rd A text σ w) (hw:Q3S A.X A.N σ.names bs vs w) (hds:Q23 bs sl ds ps)
  (HG:∀ n d,look σ.names n=some (some d)→∀ m∈Q0r d,∃ d',look σ.names m.1=some (some d')) (hl:∀ d∈ds,∀ m∈Q0r d,∃ d',look σ.names m.1=some (some d')) :
  Calls Tryz.prog 52 #[.pointer (some ⟨A.R,0,none⟩),sl] w fun e w'=>(Q1J σ ds = .ok ()∧e = .returned (.tuple #[])∧Qa [] w w')∨(∃ f,Q1J σ ds = .error f∧Qa [] w w'∧Q0A w f.no f.at' e w'):=by
 obtain ⟨hpl,hrow,hea⟩:=hds
 have HEA:=Hid.mk hea
 have HPL:=Hid.mk hpl
 have HHG:=Hid.mk HG
 have HHL:=Hid.mk hl
 have hfn:∀ (a b:Value) (W:World),(Instr.field 116 (.agg #[a,b]) 1).run Tryz.prog W = .ok b W:=fun _ _ _=>by kernel_rfl
 have htn:=Q1S
 clear hea hpl HG hl
 rcases hrow with ⟨rfl,h0,_⟩ | ⟨g,cap,cur,rfl,⟨hcap,hms⟩,hg,htake⟩
 ·have hnil:ds=[]:=List.length_eq_zero_iff.1 h0
  subst hnil
  clear hw h
  go_enter Tryz.func52,Tryz.ntmps52
  go_wp2
  go_loopw [8] (fun i ur=>i = .int .i64 0∧ur=w) (fun _ _=>0)
  case atStart=>exact ⟨rfl,rfl⟩
  case round=>
   obtain ⟨rfl,rfl⟩:=hrel
   go_wp2
   go_end0
   exact Or.inl ⟨rfl,rfl,Qa.refl _ _⟩
 ·have hrw:∀ (u:World),Q3S A.X A.N σ.names bs vs u→∀ i (hi:i < ds.length) (hi':i < ps.length),u.cell? ⟨g,i,none⟩=some (.iface (defT ds[i]) (.pointer (some ⟨ps[i],0,none⟩))):=by
   intro u hu i hi hi'
   refine Qn (hu.2.1 _ hg).1 htake ?_
   have hz:i < (Q1E ds ps).length:=by simp;omega
   rw [List.getElem?_eq_getElem hz]
   simp
  have HR:=Hid.mk hrw
  have HRD:=Hid.mk h
  have HNW:=Hid.mk hw
  clear hrw h hw
  go_enter Tryz.func52,Tryz.ntmps52
  go_wp2
  go_loopw [8] (fun i ur=>∃ (k:Nat),i = .int .i64 k∧k≤ds.length∧Hid (Rd A text σ ur)∧Hid (Q3S A.X A.N σ.names bs vs ur)∧Qa [] w ur∧Hid (Q1J σ ds=Q1J σ (ds.drop k))) (fun i _=>ds.length - (intOf i).toNat)
  case atStart=>exact ⟨0,rfl,by omega,HRD,HNW,Qa.refl _ w,rfl⟩
  case round=>
   obtain ⟨k,rfl,hk,R,N,hz,E⟩:=hrel
   clear HRD HNW
   rcases Nat.lt_or_ge k ds.length with hlt | hge
   ·have hlt':k < ps.length:=by have:=HPL.out;omega
    have q0:=HR.out _ N.out k hlt hlt'
    have hi0:(0:Int)≤↑k:=by omega
    have hi1:(↑k:Int) < ↑ds.length:=by omega
    have ED:Hid (Q1J σ ds=if Q30 σ ds[k] then .error ⟨9,(Qw ds[k]).2⟩ else Q1J σ (ds.drop (k + 1))):=by
     refine E.out.trans ?_
     rw [List.drop_eq_getElem_cons hlt]
     rfl
    have HN:=Hid.mk (Qd5 R.out N.out (HEA.out k hlt hlt') HHG.out (HHL.out _ (List.getElem_mem hlt)))
    clear E
    go_wp2_with fail
    refine HN.out.mono ?_
    rintro e w2 ⟨rfl,hz2⟩
    have N2:=Hid.mk (N.out.keeps hz2 (by simp) (by simp))
    have R2:=Hid.mk (R.out.quiet hz2)
    have hz3:Qa [] w w2:=hz.trans hz2
    clear hz2
    cases hr:Q30 σ ds[k] with
    | true=>
     have htr:=Q2O (HEA.out k hlt hlt') N2.out.2.1
     go_wp2_with (first
      | (go_at_call 238;refine (Q2M _ _ _).mono ?_;rintro e w6 ⟨rfl,hb6⟩)
      | (go_at_call 47;refine (Q0T _ _ _).mono ?_;rintro e w' ⟨rfl,rfl⟩))
     exact (show bodyPost Tryz.prog Tryz.f52 (fun e w'=>(Q1J σ ds = .ok ()∧e = .returned (.tuple #[])∧Qa [] w w')∨(∃ f,Q1J σ ds = .error f∧Qa [] w w'∧Q0A w f.no f.at' e w')) (Exit.panic _) _ _ from Qb (Or.inr ⟨⟨9,(Qw ds[k]).2⟩,ED.out.trans (by rw [hr];rfl),(by first | exact (hz3.trans (Qa.of_below [] hb6)).alloc _ | exact (hz3.drew.trans (Qa.of_below [] hb6)).alloc _),w6.heap.size,by have:=hz3.size;have:=hb6.size;omega,rfl,Qi rfl⟩))
    | false=>
     have E2:Hid (Q1J σ ds=Q1J σ (ds.drop (k + 1))):=ED.out.trans (by rw [hr];rfl)
     clear ED
     go_wp2
     exact ⟨⟨k + 1,by go_num,by omega,R2,N2,hz3,E2⟩,by simp [intOf];omega⟩
   ·have hkk:k=ds.length:=by omega
    subst hkk
    have hfin:Q1J σ ds = .ok ():=by
     refine E.out.trans ?_
     rw [List.drop_length]
     rfl
    have HF:=Hid.mk hfin
    clear E hfin
    go_wp2
    go_end0
    exact Or.inl ⟨HF.out,rfl,hz⟩
end Go.Proofs.YtmbcibgknckenaaGreatDoor
