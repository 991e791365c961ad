import Derived.Test.YtmbcibgknckenaaGreatDoorT8
set_option linter.all false
set_option maxRecDepth 100000
set_option maxHeartbeats 4000000
namespace Go.Proofs.YtmbcibgknckenaaGreatDoor
open Go.RowKit
open Go.MapKept
def Yld {α:Type} (Q:α→Prop) (m:PM α):Prop:=∀ σ a σ',m σ = .ok (a,σ')→Q a
def YldX {τ α:Type} (Q:α→Prop) (m:PX τ α):Prop:=∀ t σ a t' σ',m t σ = .ok (a,t',σ')→Q a
def InvX {τ α:Type} (I:τ→Prop) (m:PX τ α):Prop:=∀ t σ a t' σ',I t→m t σ = .ok (a,t',σ')→I t'
theorem Q1k {α:Type} {Q:α→Prop} {a:α} (h:Q a):Yld Q (ret a):=by
 intro σ b σ' hx
 simp only [ret] at hx
 cases hx
 exact h
theorem Q4C {α:Type} {Q:α→Prop} (n k:Nat):Yld Q (thr n k):=by
 intro σ b σ' hx
 simp only [thr] at hx
 cases hx
theorem Q5v {α β:Type} {Q:β→Prop} {R:α→Prop} {m:PM α} {f:α→PM β} (hm:Yld R m) (hf:∀ a,R a→Yld Q (f a)):Yld Q (bnd m f):=by
 intro σ b σ' h
 cases hx:m σ with
 | error e=>rw [Qq hx] at h;cases h
 | ok p=>obtain ⟨a,σ1⟩:=p;rw [Qg hx] at h;exact hf a (hm _ _ _ hx) _ _ _ h
theorem QhR {α:Type} (m:PM α):Yld (fun _=>True) m:=fun _ _ _ _=>trivial
theorem QK {α β:Type} {Q:β→Prop} {m:PM α} {f:α→PM β} (hf:∀ a,Yld Q (f a)):Yld Q (bnd m f):=Q5v (QhR m) fun a _=>hf a
theorem Q16 {α:Type} {Q:α→Prop} {c:Bool} {a b:PM α} (ha:Yld Q a) (hb:Yld Q b):Yld Q (if c then a else b):=by cases c<;>assumption
theorem Q35 {τ α:Type} {Q:α→Prop} {a:α} (h:Q a):YldX Q (retx (τ:=τ) a):=by
 intro t σ b t' σ' hx
 simp only [retx] at hx
 cases hx
 exact h
theorem Qac {τ α:Type} {Q:α→Prop} {m:PM α} (h:Yld Q m):YldX Q (lift (τ:=τ) m):=by
 intro t σ b t' σ' hx
 cases hm:m σ with
 | error e=>rw [Qv hm] at hx;cases hx
 | ok p=>obtain ⟨a,σ1⟩:=p;rw [Qj hm] at hx;cases hx;exact h _ _ _ hm
theorem Q5P {τ α β:Type} {Q:β→Prop} {R:α→Prop} {m:PX τ α} {f:α→PX τ β} (hm:YldX R m) (hf:∀ a,R a→YldX Q (f a)):YldX Q (bndx m f):=by
 intro t σ b t' σ' h
 cases hx:m t σ with
 | error e=>rw [Ql hx] at h;cases h
 | ok p=>obtain ⟨a,t1,σ1⟩:=p;rw [Qh hx] at h;exact hf a (hm _ _ _ _ _ hx) _ _ _ _ _ h
theorem Qh0 {τ α:Type} (m:PX τ α):YldX (fun _=>True) m:=fun _ _ _ _ _ _=>trivial
theorem Q0J {τ α β:Type} {Q:β→Prop} {m:PX τ α} {f:α→PX τ β} (hf:∀ a,YldX Q (f a)):YldX Q (bndx m f):=Q5P (Qh0 m) fun a _=>hf a
theorem Q3u {τ α:Type} {Q:α→Prop} {c:Bool} {a b:PX τ α} (ha:YldX Q a) (hb:YldX Q b):YldX Q (if c then a else b):=by cases c<;>assumption
theorem QbX {τ ρ α:Type} {Q:α→Prop} {m:PX τ α} (h:YldX Q m):YldX Q (onL (ρ:=ρ) m):=by
 rintro ⟨t,r⟩ σ a t' σ' hx
 cases hm:m t σ with
 | error e=>rw [Q5r hm] at hx;cases hx
 | ok p=>obtain ⟨b,t1,σ1⟩:=p;rw [Q6s hm] at hx;cases hx;exact h _ _ _ _ _ hm
theorem Q4D {τ α β:Type} {I:τ→Prop} {m:PX τ α} {f:α→PX τ β} (hm:InvX I m) (hf:∀ a,InvX I (f a)):InvX I (bndx m f):=by
 intro t σ b t' σ' hi h
 cases hx:m t σ with
 | error e=>rw [Ql hx] at h;cases h
 | ok p=>obtain ⟨a,t1,σ1⟩:=p;rw [Qh hx] at h;exact hf a _ _ _ _ _ (hm _ _ _ _ _ hi hx) h
theorem Q45 {τ α:Type} {I:τ→Prop} (m:PM α):InvX I (lift (τ:=τ) m):=by
 intro t σ b t' σ' hi hx
 cases hm:m σ with
 | error e=>rw [Qv hm] at hx;cases hx
 | ok p=>obtain ⟨a,σ1⟩:=p;rw [Qj hm] at hx;cases hx;exact hi
theorem Q8D {τ α:Type} {I:τ→Prop} (a:α):InvX I (retx (τ:=τ) a):=by
 intro t σ b t' σ' hi hx
 simp only [retx] at hx
 cases hx
 exact hi
theorem Qde {τ:Type} {I:τ→Prop} (text:ByteArray) (most:Nat) {run:PX τ Unit} (h:InvX I run):∀ (k n:Nat),InvX I (Q19 text most run k n):=by
 intro k
 induction k with
 | zero=>intro n;exact Q45 _
 | succ k ih=>
  intro n
  unfold Q19
  refine Q4D ?_ fun y=>?_
  ·split
   ·exact Q8D _
   ·exact Q45 _
  ·cases y
   ·exact Q4D (Q45 _) fun x=>Q4D (Q45 _) fun _=>Q4D h fun _=>ih _
   ·exact Q8D _
theorem QeN {τ:Type} {I:τ→Prop} (text:ByteArray) (most:Nat) {run:PX τ Unit} (h:InvX I run):InvX I (block text most run):=by
 unfold block
 exact Q4D (Q45 _) fun _=>Qde text most h _ _
theorem Qh1 {τ:Type} {I:τ→Prop} {m:PX τ Unit} (h:InvX I m) {t:τ} (ht:I t):Yld I (runx m t):=by
 intro σ a σ' hx
 cases hm:m t σ with
 | error e=>rw [Q5D hm] at hx;cases hx
 | ok p=>obtain ⟨b,t1,σ1⟩:=p;rw [Q42 hm] at hx;cases hx;exact h _ _ _ _ _ ht hm
theorem Qh2 {τ α:Type} {Q:α→Prop} {m:PX τ α} (h:YldX Q m) (t:τ):Yld (fun p=>Q p.1) (runy m t):=by
 intro σ a σ' hx
 cases hm:m t σ with
 | error e=>rw [Q2V hm] at hx;cases hx
 | ok p=>obtain ⟨b,t1,σ1⟩:=p;rw [Q4x hm] at hx;cases hx;exact h _ _ _ _ _ hm
theorem Qh3 {α:Type} {Q:α→Prop} {m:PX Unit α} (h:YldX Q m):Yld Q (bare m):=by
 intro σ a σ' hx
 cases hm:m () σ with
 | error e=>rw [Q8p hm] at hx;cases hx
 | ok p=>obtain ⟨b,t1,σ1⟩:=p;rw [Q9C hm] at hx;cases hx;exact h _ _ _ _ _ hm
def Q0R:Ty→Prop
 | .plain k=>k≤4
 | .named _ _=>True
 | _=>False
def Q2z:Ty→Prop
 | .plain k=>k≤4
 | .named _ _=>True
 | .opaq _ _=>True
 | .str _ _=>True
 | .arr o _ _=>Q0R o
 | .opt o=>Q0R o
 | .void=>False
def Q6N (t:Ty):Prop:=Q2z t∨t = .void
theorem Q0R.flat {t:Ty} (h:Q0R t):Flat t:=by cases t<;>simp [Q0R,Flat] at *
theorem Q0R.decl {t:Ty} (h:Q0R t):Q2z t:=by cases t<;>simp [Q0R,Q2z] at *<;>exact h
theorem Q2z.deep {t:Ty} (h:Q2z t):Q13 t:=by
 cases t with
 | arr o n f=>exact Q0R.flat h
 | opt o=>exact Q0R.flat h
 | _=>trivial
theorem Q6N.deep {t:Ty} (h:Q6N t):Q13 t:=by
 rcases h with h | rfl
 ·exact h.deep
 ·trivial
theorem QbY (text:ByteArray):Yld Q0R (Q1b text):=by
 unfold Q1b
 refine QK fun x=>?_
 unfold Q0k
 refine Q16 (Q1k trivial) (Q16 (Q1k (by simp [Q0R])) (Q16 (Q1k (by simp [Q0R])) (Q16 (Q1k (by simp [Q0R])) (Q16 ?_ (Q4C _ _)))))
 exact QK fun y=>Q16 (Q1k (by simp [Q0R])) (QK fun _=>Q1k (by simp [Q0R]))
theorem QbZ (text:ByteArray):Yld (fun q:Ty×(Int→Bool)=>Q0R q.1) (Q1Z text):=by
 unfold Q1Z
 refine QK fun x=>?_
 unfold selK
 exact Q16 (QK fun _=>Q1k trivial) (Q16 (Q1k (by simp [Q0R])) (Q16 (QK fun _=>Q1k (by simp [Q0R])) (Q16 (Q1k (by simp [Q0R])) (Q4C _ _))))
theorem Q8E {τ:Type} (text:ByteArray) (C:Q0e τ):YldX (fun d=>Q2z d.ty) (decl text C):=by
 unfold decl
 refine Q0J fun y=>?_
 unfold Q3m
 refine Q3u (Q0J fun n=>Q0J fun q=>Q35 trivial) (Q0J fun y=>?_)
 unfold Q3M
 refine Q3u (Q0J fun n=>Q0J fun q=>Q35 trivial) (Q5P (Qac (QbY text)) fun ty hty=>?_)
 unfold Q4c
 refine Q0J fun y=>?_
 unfold Q4M
 refine Q3u (Q0J fun n=>Q35 hty) (Q0J fun n=>?_)
 unfold Q3L
 refine Q0J fun y=>?_
 unfold Q4X
 have hD:YldX (τ:=τ) (fun d=>Q2z d.ty) (Q4L text n ty):=by
  unfold Q4L
  exact Q0J fun q=>Q35 hty
 refine Q3u hD (Q0J fun z=>?_)
 unfold Q4W
 exact Q3u hD (Q35 hty.decl)
theorem QdR {τ:Type} (text:ByteArray) (C:Q0e τ):YldX (fun d=>Q6N d.ty) (arm text C):=by
 unfold arm
 refine Q5P (R:=fun d=>Q6N d.ty) (Q0J fun y=>?_) fun d hd=>Q0J fun _=>Q35 hd
 unfold armK
 refine Q3u (Q35 (Or.inr rfl)) ?_
 intro t σ a t' σ' h
 exact Or.inl (Q8E text C t σ a t' σ' h)
def Q3v (rs:Arms):Prop:=∀ a∈rs,Q6N a.2.ty
theorem Q3v.snoc {rs:Arms} (h:Q3v rs) {cs:List Int} {d:Qk} (hd:Q6N d.ty):Q3v (rs++[(cs,d)]):=by
 intro a ha
 rcases List.mem_append.1 ha with ha | ha
 ·exact h a ha
 ·simp only [List.mem_singleton] at ha
  subst ha
  exact hd
theorem Qdf (text:ByteArray) {rs:Arms} (h:Q3v rs):YldX Q3v (Q1L text rs):=by
 unfold Q1L
 exact Q0J fun y=>Q3u (Q0J fun _=>Q5P (QbX (QdR _ _)) fun d hd=>Q35 (h.snoc hd)) (Q35 h)
theorem QfX (text:ByteArray) (p:Int→Bool):∀ (k:Nat) {rs:Arms},Q3v rs→YldX Q3v (Q1y text p k rs):=by
 intro k
 induction k with
 | zero=>intro rs _;exact Qac (Q4C _ _)
 | succ k ih=>
  intro rs h
  unfold Q1y
  exact Q0J fun cs=>Q5P (QbX (QdR _ _)) fun d hd=>Q0J fun y=>Q3u (ih (h.snoc hd)) (Qdf text (h.snoc hd))
def Q6O:DefL→Prop
 | .typedef d=>Q2z d.ty
 | .struct _ _ ms=>∀ m∈ms,Q2z m.ty
 | .union _ _ sel arms=>Q0R sel.ty∧Q3v arms
 | _=>True
theorem Qdg (text:ByteArray) (n:List UInt8×Nat):∀ (k:Nat) (ms:List (List UInt8×Nat×Int)) (l:List (Int×Int)),Yld Q6O (Q0N text n k ms l):=by
 intro k
 induction k with
 | zero=>intro ms l;exact Q4C _ _
 | succ k ih=>
  intro ms l σ d σ' h
  cases hm:Q1R text ms.length l σ with
  | error f=>rw [Q3O hm] at h;cases h
  | ok p=>
   obtain ⟨m,l',σ1⟩:=p
   rw [Q3H hm] at h
   refine QK (Q:=Q6O) (fun y=>Q16 (ih _ _) ?_) _ _ _ h
   unfold Q3G
   exact QK fun _=>QK fun _=>Q1k trivial
theorem Q9P (text:ByteArray):Yld Q6O (definition text):=by
 unfold definition
 refine QK fun x=>?_
 unfold defK
 refine Q16 ?_ (Q16 ?_ (Q16 ?_ (Q16 ?_ (Q16 ?_ (Q16 ?_ (Q4C _ _))))))
 ·unfold constant
  exact QK fun _=>QK fun n=>QK fun _=>QK fun _=>QK fun _=>Q1k trivial
 ·unfold typedef
  exact QK fun _=>Q5v (Qh3 (Q8E _ _)) fun d hd=>QK fun _=>Q1k hd
 ·unfold enumeration
  exact QK fun _=>QK fun n=>QK fun _=>Qdg _ _ _ _ _
 ·unfold Q1o
  refine QK fun _=>QK fun n=>Q5v (Qh1 (I:=fun p:List Qk×List (List UInt8)=>∀ m∈p.1,Q2z m.ty) (QeN _ _ ?_) (by simp)) fun p hp=>QK fun _=>Q1k hp
  rintro ⟨ds,t⟩ σ a t' σ' hi h
  cases hd:decl text (Qr 0 0) t σ with
  | error f=>rw [Q6f hd] at h;cases h
  | ok q=>
   obtain ⟨d,t1,σ1⟩:=q
   rw [Q5a hd] at h
   refine Q4D (I:=fun p:List Qk×List (List UInt8)=>∀ m∈p.1,Q2z m.ty) (Q45 _) (fun _=>Q8D ()) _ _ _ _ _ ?_ h
   intro m hm
   rcases List.mem_append.1 hm with hm | hm
   ·exact hi m hm
   ·simp only [List.mem_singleton] at hm
    subst hm
    exact Q8E _ _ _ _ _ _ _ hd
 ·unfold Q0n
  refine QK fun _=>QK fun n=>?_
  unfold Q4z
  refine QK fun _=>QK fun _=>Q5v (QbZ text) fun q hq=>?_
  unfold Q4y
  refine QK fun m=>?_
  unfold Q5s
  refine QK fun _=>QK fun _=>Q5v (Qh2 (QfX text q.2 13 (rs:=[]) (by intro a ha;cases ha)) _) fun r hr=>?_
  unfold Q2r Q3o
  exact QK fun _=>QK fun _=>Q1k ⟨hq,hr⟩
 ·unfold Q1C
  refine QK fun _=>QK fun n=>?_
  unfold Q4A
  exact QK fun _=>QK fun _=>Q1k trivial
def Q9i (ds:List DefL):Prop:=∀ d∈ds,Q6O d
theorem QfY (text:ByteArray):∀ (k:Nat) {ds:List DefL},Q9i ds→Yld Q9i (Q0L text k ds):=by
 intro k
 induction k with
 | zero=>intro ds _;exact Q4C _ _
 | succ k ih=>
  intro ds h
  unfold Q0L
  refine QK fun x=>Q16 (Q1k h) (Q5v (Q9P text) fun d hd=>QK fun _=>ih ?_)
  intro e he
  rcases List.mem_append.1 he with he | he
  ·exact h e he
  ·simp only [List.mem_singleton] at he
   subst he
   exact hd
theorem Qdh {text:ByteArray} {ds:List DefL} (h:Q11 text = .ok ds):Q9i ds:=by
 unfold Q11 at h
 split at h
 ·cases h
 ·cases hf:Q0L text 69 [] st0 with
  | error f=>rw [hf] at h;cases h
  | ok p=>
   obtain ⟨ds',σ⟩:=p
   rw [hf] at h
   simp only at h
   have hd:=QfY text 69 (ds:=[]) (by intro d hd;cases hd) _ _ _ hf
   split at h
   ·cases h
   ·split at h
    ·cases h
    ·cases h
     exact hd
def Q0c:Ty→Nat
 | .arr o _ _=>Q0c o + 2
 | .opt o=>Q0c o + 1
 | .void=>0
 | _=>1
theorem Q1P (t:Ty):∀ s,(QQ t s).code.length=s.code.length + Q0c t:=by
 induction t with
 | arr o n f ih=>intro s;simp [QQ,setM,putM,Q0c,ih];omega
 | opt o ih=>intro s;simp [QQ,setM,putM,Q0c,ih];omega
 | _=>intro s;simp [QQ,putM,Q2G,Q0c]
theorem Q4E {t:Ty} (h:Q13 t):Q0c t≤3:=by
 cases t with
 | arr o n f=>cases o<;>simp [Q13,Flat,Q0c] at *
 | opt o=>cases o<;>simp [Q13,Flat,Q0c] at *
 | _=>simp [Q0c]
end Go.Proofs.YtmbcibgknckenaaGreatDoor
namespace Go.Proofs.YtmbcibgknckenaaGreatDoor
structure Wk (τ:Type) where
 enter:Nat→τ→Except Mar.Fault τ
 num:NumL→τ→Except Mar.Fault τ
 text:Int→Bool→τ→Except Mar.Fault τ
 list:Int→Bool→τ→Except Mar.Fault (Nat×τ)
 arm:NumL→(Int→Option Nat)→τ→Except Mar.Fault (Int×τ)
def NumL.has (n:NumL) (k:Int):Bool:=decide (n.low≤k) && decide (k≤n.high) && (match n.mem with | none=>true | some l=>l.contains k)
def wayL (n:NumL) (ws:List (Int×Nat×Nat)) (o:Option (Nat×Nat)) (k:Int):Option (Nat×Nat):=if n.has k then (match Q0f ws k with | some q=>some q | none=>o) else none
structure MSt where
 next:Nat
 calls:List Nat
 rounds:List (Nat×Nat)
section
variable {τ : Type}
def Qiz (W:Wk τ) (x:Qo) (m:MSt) (d:τ):Option (Except Mar.Fault (MSt×τ)):=
 match x with
 | .hole=>none
 | .fin=>none
 | .call dest=>if 1000≤m.calls.length then none else some (match W.enter m.calls.length d with
  | .ok d'=>.ok ({ m with next:=dest,calls:=m.next :: m.calls },d')
  | .error f=>.error f)
 | .ret=>match m.calls with
  | []=>none
  | k :: ks=>some (.ok ({ m with next:=k,calls:=ks },d))
 | .jump dest=>some (.ok ({ m with next:=dest },d))
 | .num n=>some (match W.num n d with
  | .ok d'=>.ok (m,d')
  | .error f=>.error f)
 | .text n b=>some (match W.text n b d with
  | .ok d'=>.ok (m,d')
  | .error f=>.error f)
 | .struct n b=>some (match W.list n b d with
  | .ok (_,d')=>.ok (m,d')
  | .error f=>.error f)
 | .array n b dest=>if 1000≤m.rounds.length then none else some (match W.list n b d with
  | .ok (0,d')=>.ok ({ m with next:=dest },d')
  | .ok (k + 1,d')=>.ok ({ m with rounds:=(m.next,k + 1) :: m.rounds },d')
  | .error f=>.error f)
 | .again=>match m.rounds with
  | []=>none
  | (from',left) :: rs=>some (.ok (if 1 < left then { m with next:=from',rounds:=(from',left - 1) :: rs } else { m with rounds:=rs },d))
 | .choice n ws o=>match W.arm n (fun k=>(wayL n ws o k).map (·.2)) d with
  | .ok (k,d')=>match wayL n ws o k with
   | some q=>some (.ok ({ m with next:=q.1 },d'))
   | none=>none
  | .error f=>some (.error f)
def runN (W:Wk τ) (c:List Qo):Nat→MSt→τ→Option (Except Mar.Fault τ)
 | 0,_,_=>none
 | n + 1,m,d=>match c[m.next]? with
  | none=>none
  | some .fin=>some (.ok d)
  | some x=>match Qiz W x { m with next:=m.next + 1 } d with
   | none=>none
   | some (.error f)=>some (.error f)
   | some (.ok (m',d'))=>runN W c n m' d'
def QiF (W:Wk τ) (c:List Qo) (m:MSt) (d:τ) (r:Except Mar.Fault (MSt×τ)):Prop:=
 ∃ n,∀ k z,(match r with | .ok (m',d')=>runN W c k m' d' | .error f=>some (.error f))=some z→runN W c (k + n) m d=some z
def thenE {α β:Type} (r:Except Mar.Fault α) (f:α→Except Mar.Fault β):Except Mar.Fault β:=match r with
 | .ok a=>f a
 | .error e=>.error e
abbrev Den (τ:Type):=τ→Except Mar.Fault τ
def rep (f:Den τ):Nat→Den τ
 | 0,d=>.ok d
 | n + 1,d=>thenE (f d) (rep f n)
def Qh4 (n:Int):Option Nat:=if n=0 then some 0 else if n=1 then some 1 else none
def tyD (W:Wk τ) (nm:List UInt8→Den τ):Ty→Den τ
 | .named n _,d=>nm n d
 | .plain k,d=>W.num (QY k) d
 | .opaq n f,d=>W.text n f d
 | .str n f,d=>W.text n f d
 | .arr o n f,d=>thenE (W.list n f d) fun p=>rep (tyD W nm o) p.1 p.2
 | .opt o,d=>thenE (W.arm (QY 4) Qh4 d) fun p=>if p.1=1 then tyD W nm o p.2 else .ok p.2
 | .void,d=>.ok d
def allD (W:Wk τ) (nm:List UInt8→Den τ):List Ty→Den τ
 | [],d=>.ok d
 | t :: ts,d=>thenE (tyD W nm t d) (allD W nm ts)
def Q9j (arms:List (List Int×Qk)) (n:Int):Option Ty:=
 match arms.reverse.find? (fun a=>a.1.contains n) with
 | some a=>some a.2.ty
 | none=>(arms.reverse.find? (fun a=>a.1.isEmpty)).map (·.2.ty)
abbrev Env:=List UInt8→Option DefL
def selD (E:Env):Ty→NumL
 | .named t _=>match E t with
  | some (.enum _ _ ms)=>Q0H ms
  | _=>Q5u
 | .plain k=>QY k
 | _=>Q5u
def QhS (E:Env) (sel:Ty) (arms:List (List Int×Qk)) (n:Int):Option Nat:=if (selD E sel).has n then (Q9j arms n).map fun t=>if Q3s t then 0 else 1 else none
def defD (W:Wk τ) (E:Env) (nm:List UInt8→Den τ):DefL→Den τ
 | .typedef a,d=>tyD W nm a.ty d
 | .enum _ _ ms,d=>W.num (Q0H ms) d
 | .struct _ _ ms,d=>thenE (W.list ms.length true d) fun p=>allD W nm (ms.map (·.ty)) p.2
 | .union _ _ sel arms,d=>thenE (W.arm (selD E sel.ty) (QhS E sel.ty arms) d) fun p=>match Q9j arms p.1 with
  | some t=>tyD W nm t p.2
  | none=>.error ⟨0,0⟩
 | _,_=>.error ⟨0,0⟩
def AtTy (c:List Qo) (B:List UInt8→Nat) (E:Env):Nat→Ty→Prop
 | p,.named n _=>c[p]? = some (.call (B n))∧(E n).isSome
 | p,.plain k=>c[p]? = some (.num (QY k))
 | p,.opaq n f=>c[p]? = some (.text n f)
 | p,.str n f=>c[p]? = some (.text n f)
 | p,.arr o n f=>c[p]? = some (.array n f (p + Q0c o + 2))∧AtTy c B E (p + 1) o∧c[p + 1 + Q0c o]? = some .again
 | p,.opt o=>c[p]? = some (.choice (QY 4) [(0,p + 1 + Q0c o,0),(1,p + 1,1)] none)∧AtTy c B E (p + 1) o
 | _,.void=>True
def QeO (c:List Qo) (B:List UInt8→Nat) (E:Env):Nat→List Ty→Prop
 | _,[]=>True
 | p,t :: ts=>AtTy c B E p t∧QeO c B E (p + Q0c t) ts
def Q9Q (ts:List Ty):Nat:=(ts.map Q0c).sum
def QiA (c:List Qo) (B:List UInt8→Nat) (E:Env) (p:Nat):DefL→Prop
 | .typedef a=>AtTy c B E p a.ty∧c[p + Q0c a.ty]? = some .ret
 | .enum _ _ ms=>c[p]? = some (.num (Q0H ms))∧c[p + 1]? = some .ret
 | .struct _ _ ms=>c[p]? = some (.struct ms.length true)∧QeO c B E (p + 1) (ms.map (·.ty))∧c[p + 1 + Q9Q (ms.map (·.ty))]? = some .ret
 | .union _ _ sel arms=>∃ ws o e,c[p]? = some (.choice (selD E sel.ty) ws o)∧c[e]? = some .ret ∧
   ∀ n,match Q9j arms n with
    | none=>Q0f ws n=none∧o=none
    | some t=>∃ q,(match Q0f ws n with | some q=>some q | none=>o)=some q∧q.2=(if Q3s t then 0 else 1)∧AtTy c B E q.1 t∧c[q.1 + Q0c t]? = some (.jump e)
 | _=>True
def Qc0:DefL→List Ty
 | .typedef d=>[d.ty]
 | .struct _ _ ms=>ms.map (·.ty)
 | .union _ _ _ arms=>arms.map (·.2.ty)
 | _=>[]
end
def QM (B:List UInt8→Nat) (s:CSt):List Qo:=s.calls.foldl (fun c k=>c.set k.1 (.call (B k.2))) s.code
def Wf (s:CSt):Prop:=∀ k∈s.calls,s.code[k.1]? = some (.call 0)
theorem Q7a {α:Type} (f:Nat×List UInt8→α):∀ (l:List (Nat×List UInt8)) (c:List α),(l.foldl (fun c k=>c.set k.1 (f k)) c).length=c.length:=by
 intro l
 induction l with
 | nil=>intro c;rfl
 | cons k l ih=>intro c;simp [ih]
theorem Q7b {α:Type} (f:Nat×List UInt8→α):∀ (l:List (Nat×List UInt8)) (c d:List α),(∀ k∈l,k.1 < c.length)→l.foldl (fun c k=>c.set k.1 (f k)) (c++d)=l.foldl (fun c k=>c.set k.1 (f k)) c++d:=by
 intro l
 induction l with
 | nil=>intro c d _;rfl
 | cons k l ih=>
  intro c d h
  simp only [List.foldl_cons]
  rw [List.set_append_left _ _ (h k (by simp))]
  exact ih _ _ (fun q hq=>by simpa using h q (List.mem_cons_of_mem _ hq))
theorem Q9R {α:Type} (f:Nat×List UInt8→α) (i:Nat) (x:α):∀ (l:List (Nat×List UInt8)) (c:List α),(∀ k∈l,k.1≠i)→l.foldl (fun c k=>c.set k.1 (f k)) (c.set i x)=(l.foldl (fun c k=>c.set k.1 (f k)) c).set i x:=by
 intro l
 induction l with
 | nil=>intro c _;rfl
 | cons k l ih=>
  intro c h
  simp only [List.foldl_cons]
  rw [List.set_comm _ _ (fun e=>h k (by simp) e.symm)]
  exact ih _ (fun q hq=>h q (List.mem_cons_of_mem _ hq))
section
variable {B : List UInt8 → Nat} {s : CSt}
theorem Wf.lt (h:Wf s):∀ k∈s.calls,k.1 < s.code.length:=by
 intro k hk
 have:=h k hk
 by_cases hl:k.1 < s.code.length
 ·exact hl
 ·rw [List.getElem?_eq_none (by omega)] at this
  cases this
theorem Q3w:(QM B s).length=s.code.length:=Q7a _ _ _
theorem Wf.put (h:Wf s) (x:Qo):Wf (putM x s):=by
 intro k hk
 have:=h k hk
 simp only [putM]
 rw [List.getElem?_append_left (h.lt k hk)]
 exact this
theorem Q1d (h:Wf s) (x:Qo):QM B (putM x s)=QM B s++[x]:=Q7b _ _ _ _ h.lt
theorem Wf.call (h:Wf s) (n:List UInt8):Wf (Q2G n s):=by
 intro k hk
 simp only [Q2G,List.mem_append,List.mem_singleton] at hk ⊢
 rcases hk with hk | rfl
 ·rw [List.getElem?_append_left (h.lt k hk)]
  exact h k hk
 ·simp
theorem Qad (h:Wf s) (n:List UInt8):QM B (Q2G n s)=QM B s++[.call (B n)]:=by
 simp only [QM,Q2G,List.foldl_append,List.foldl_cons,List.foldl_nil]
 rw [Q7b _ _ _ _ h.lt]
 have e:=Q7a (fun k=>Qo.call (B k.2)) s.calls s.code
 rw [← e,List.set_append_right _ _ (Nat.le_refl _)]
 simp
def Open (s:CSt) (i:Nat):Prop:=∀ k∈s.calls,k.1≠i
theorem QdS {i:Nat} {x:Qo} (h:Wf s) (hx:s.code[i]? = some x) (hn:x≠.call 0):Open s i:=by
 intro k hk e
 have:=h k hk
 rw [e,hx] at this
 cases this
 exact hn rfl
theorem Wf.set {i:Nat} (h:Wf s) (ho:Open s i) (x:Qo):Wf (setM i x s):=by
 intro k hk
 simp only [setM]
 rw [List.getElem?_set_ne (fun e=>ho k hk e.symm)]
 exact h k hk
theorem Q6P {i:Nat} (ho:Open s i) (x:Qo):QM B (setM i x s)=(QM B s).set i x:=Q9R _ i x _ _ ho
def Q17 (B:List UInt8→Nat):Nat→Ty→List Qo
 | _,.named n _=>[.call (B n)]
 | _,.plain k=>[.num (QY k)]
 | _,.opaq n f=>[.text n f]
 | _,.str n f=>[.text n f]
 | p,.arr o n f=>.array n f (p + Q0c o + 2) :: (Q17 B (p + 1) o++[.again])
 | p,.opt o=>.choice (QY 4) [(0,p + 1 + Q0c o,0),(1,p + 1,1)] none :: Q17 B (p + 1) o
 | _,.void=>[]
theorem Q29 (B:List UInt8→Nat) (t:Ty):∀ p,(Q17 B p t).length=Q0c t:=by
 induction t with
 | arr o n f ih=>intro p;simp [Q17,Q0c,ih]
 | opt o ih=>intro p;simp [Q17,Q0c,ih]
 | _=>intro p;simp [Q17,Q0c]
structure Ext (s s':CSt):Prop where
 wf:Wf s'
 bo:s'.bodies=s.bodies
 en:s'.enums=s.enums
 len:s.code.length≤s'.code.length
 op:∀ i,i < s.code.length→Open s i→Open s' i
 old:∀ i,i < s.code.length→s'.code[i]? = s.code[i]?
theorem Ext.put (h:Wf s) (x:Qo):Ext s (putM x s):=⟨h.put x,rfl,rfl,by simp [putM],fun i _ ho=>ho,fun i hi=>by simp only [putM];rw [List.getElem?_append_left hi]⟩
theorem Ext.call (h:Wf s) (n:List UInt8):Ext s (Q2G n s):=by
 refine ⟨h.call n,rfl,rfl,by simp [Q2G],?_,fun i hi=>by simp only [Q2G];rw [List.getElem?_append_left hi]⟩
 intro i hi ho k hk
 simp only [Q2G,List.mem_append,List.mem_singleton] at hk
 rcases hk with hk | rfl
 ·exact ho k hk
 ·simp only
  omega
theorem Ext.trans {s1 s2:CSt} (h:Ext s s1) (k:Ext s1 s2):Ext s s2:=
 ⟨k.wf,k.bo.trans h.bo,k.en.trans h.en,Nat.le_trans h.len k.len,fun i hi ho=>k.op i (Nat.lt_of_lt_of_le hi h.len) (h.op i hi ho),fun i hi=>(k.old i (Nat.lt_of_lt_of_le hi h.len)).trans (h.old i hi)⟩
theorem Ext.set {s1:CSt} {i:Nat} (h:Ext s s1) (hi:s.code.length≤i) (ho:Open s1 i) (x:Qo):Ext s (setM i x s1):=
 ⟨h.wf.set ho x,h.bo,h.en,by simpa [setM] using h.len,h.op,fun j hj=>by simp only [setM];rw [List.getElem?_set_ne (by omega)];exact h.old j hj⟩
theorem Q7B (h:Wf s):Open (putM .hole s) s.code.length:=QdS (h.put _) (x:=.hole) (by simp [putM]) (by simp)
theorem Q3J (B:List UInt8→Nat) (t:Ty):∀ (s:CSt),Wf s→QM B (QQ t s)=QM B s++Q17 B s.code.length t∧Ext s (QQ t s):=by
 induction t with
 | named n a=>intro s h;exact ⟨Qad h n,Ext.call h n⟩
 | plain k=>intro s h;exact ⟨Q1d h _,Ext.put h _⟩
 | opaq n f=>intro s h;exact ⟨Q1d h _,Ext.put h _⟩
 | str n f=>intro s h;exact ⟨Q1d h _,Ext.put h _⟩
 | void=>intro s h;exact ⟨by simp [QQ,Q17],h,rfl,rfl,Nat.le_refl _,fun _ _ ho=>ho,fun _ _=>rfl⟩
 | arr o n f ih=>
  intro s h
  have h1:=h.put .hole
  obtain ⟨i1,i2⟩:=ih (putM .hole s) h1
  have e1:(putM .hole s).code.length=s.code.length + 1:=by simp [putM]
  have op1:Open (QQ o (putM .hole s)) s.code.length:=i2.op _ (by rw [e1];omega) (Q7B h)
  have ex:=(Ext.put h .hole).trans (i2.trans (Ext.put i2.wf .again))
  have op2:Open (putM .again (QQ o (putM .hole s))) s.code.length:=op1
  refine ⟨?_,ex.set (Nat.le_refl _) op2 _⟩
  simp only [QQ]
  rw [Q6P op2,Q1d i2.wf,i1,Q1d h,Q1P,e1]
  have hl:s.code.length=(QM B s).length:=Q3w.symm
  rw [show QM B s++[Qo.hole]++Q17 B (s.code.length + 1) o++[Qo.again]=QM B s++(Qo.hole :: (Q17 B (s.code.length + 1) o++[Qo.again])) by simp]
  rw [List.set_append_right _ _ (by omega)]
  simp only [Q17,hl,Nat.sub_self,List.set_cons_zero]
  congr 3
  omega
 | opt o ih=>
  intro s h
  have h1:=h.put .hole
  obtain ⟨i1,i2⟩:=ih (putM .hole s) h1
  have e1:(putM .hole s).code.length=s.code.length + 1:=by simp [putM]
  have op1:Open (QQ o (putM .hole s)) s.code.length:=i2.op _ (by rw [e1];omega) (Q7B h)
  have ex:=(Ext.put h .hole).trans i2
  refine ⟨?_,ex.set (Nat.le_refl _) op1 _⟩
  simp only [QQ]
  rw [Q6P op1,i1,Q1d h,Q1P,e1]
  have hl:s.code.length=(QM B s).length:=Q3w.symm
  rw [show QM B s++[Qo.hole]++Q17 B (s.code.length + 1) o=QM B s++(Qo.hole :: Q17 B (s.code.length + 1) o) by simp]
  rw [List.set_append_right _ _ (by omega)]
  simp only [Q17,hl,Nat.sub_self,List.set_cons_zero]
end
def Sub (c:List Qo) (p:Nat) (seg:List Qo):Prop:=∀ i x,seg[i]? = some x→c[p + i]? = some x
theorem Sub.app {c:List Qo} {p:Nat} {a b:List Qo} (h:Sub c p (a++b)):Sub c p a∧Sub c (p + a.length) b:=by
 refine ⟨fun i x hx=>h i x ?_,fun i x hx=>?_⟩
 ·have hi:i < a.length:=by
   by_cases hl:i < a.length
   ·exact hl
   ·rw [List.getElem?_eq_none (by omega)] at hx;cases hx
  rw [List.getElem?_append_left hi]
  exact hx
 ·rw [Nat.add_assoc]
  refine h (a.length + i) x ?_
  rw [List.getElem?_append_right (by omega)]
  simpa using hx
theorem Sub.cons {c:List Qo} {p:Nat} {x:Qo} {b:List Qo} (h:Sub c p (x :: b)):c[p]? = some x∧Sub c (p + 1) b:=by
 have h':Sub c p ([x]++b):=h
 obtain ⟨h1,h2⟩:=h'.app
 exact ⟨by simpa using h1 0 x (by simp),by simpa using h2⟩
def Q7Y (E:Env) (t:Ty):Prop:=∀ m∈QJ t,(E m.1).isSome
theorem QeP {c:List Qo} {B:List UInt8→Nat} {E:Env} (t:Ty):∀ (p:Nat),Q7Y E t→Sub c p (Q17 B p t)→AtTy c B E p t:=by
 induction t with
 | named n a=>intro p hk h;exact ⟨h.cons.1,hk (n,a) (by simp [QJ])⟩
 | plain k=>intro p _ h;exact h.cons.1
 | opaq n f=>intro p _ h;exact h.cons.1
 | str n f=>intro p _ h;exact h.cons.1
 | void=>intro p _ _;trivial
 | arr o n f ih=>
  intro p hk h
  obtain ⟨h1,h2⟩:=h.cons
  obtain ⟨h3,h4⟩:=h2.app
  rw [Q29] at h4
  exact ⟨h1,ih _ hk h3,h4.cons.1⟩
 | opt o ih=>
  intro p hk h
  obtain ⟨h1,h2⟩:=h.cons
  exact ⟨h1,ih _ hk h2⟩
def Q52 (B:List UInt8→Nat):Nat→List Ty→List Qo
 | _,[]=>[]
 | p,t :: ts=>Q17 B p t++Q52 B (p + Q0c t) ts
theorem QeQ (B:List UInt8→Nat):∀ (ts:List Ty) (p:Nat),(Q52 B p ts).length=Q9Q ts:=by
 intro ts
 induction ts with
 | nil=>intro p;rfl
 | cons t ts ih=>intro p;simp [Q52,Q9Q,Q29,ih]
theorem Qik {c:List Qo} {B:List UInt8→Nat} {E:Env}:∀ (ts:List Ty) (p:Nat),(∀ t∈ts,Q7Y E t)→Sub c p (Q52 B p ts)→QeO c B E p ts:=by
 intro ts
 induction ts with
 | nil=>intro p _ _;trivial
 | cons t ts ih=>
  intro p hk h
  obtain ⟨h1,h2⟩:=h.app
  rw [Q29] at h2
  exact ⟨QeP t p (hk t (by simp)) h1,ih _ (fun t ht=>hk t (List.mem_cons_of_mem _ ht)) h2⟩
theorem Qc1 (B:List UInt8→Nat):∀ (ts:List Ty) (s:CSt),Wf s→QM B (ts.foldl (fun s t=>QQ t s) s)=QM B s++Q52 B s.code.length ts∧Ext s (ts.foldl (fun s t=>QQ t s) s):=by
 intro ts
 induction ts with
 | nil=>intro s h;exact ⟨by simp [Q52],h,rfl,rfl,Nat.le_refl _,fun _ _ ho=>ho,fun _ _=>rfl⟩
 | cons t ts ih=>
  intro s h
  obtain ⟨h1,h2⟩:=Q3J B t s h
  obtain ⟨h3,h4⟩:=ih _ h2.wf
  refine ⟨?_,h2.trans h4⟩
  simp only [List.foldl_cons]
  rw [h3,h1,Q1P]
  simp [Q52]
abbrev Q2A (a:List Int×Qk):Nat:=Q0c a.2.ty + 1
def Q0o (az:List (List Int×Qk)):Nat:=(az.map Q2A).sum
def Q0y (B:List UInt8→Nat) (e:Nat):Nat→List (List Int×Qk)→List Qo
 | _,[]=>[]
 | p,a :: az=>Q17 B p a.2.ty++(.jump e :: Q0y B e (p + Q2A a) az)
def Q3x:Nat→List (List Int×Qk)→List Nat
 | _,[]=>[]
 | p,a :: az=>(p + Q0c a.2.ty) :: Q3x (p + Q2A a) az
theorem Q6l (B:List UInt8→Nat) (e:Nat):∀ (az:List (List Int×Qk)) (p:Nat),(Q0y B e p az).length=Q0o az:=by
 intro az
 induction az with
 | nil=>intro p;rfl
 | cons a az ih=>intro p;have:=ih (p + Q2A a);simp only [Q0y,Q0o,List.length_append,Q29,List.length_cons,List.map_cons,List.sum_cons] at this ⊢;rw [this];simp only [Q2A];omega
theorem Qc2 (B:List UInt8→Nat) (e:Nat) (a:List Int×Qk):∀ (az:List (List Int×Qk)) (p:Nat),Q0y B e p (az++[a])=Q0y B e p az++(Q17 B (p + Q0o az) a.2.ty++[.jump e]):=by
 intro az
 induction az with
 | nil=>intro p;simp [Q0y,Q0o]
 | cons b az ih=>
  intro p
  simp only [List.cons_append,Q0y,ih,List.append_assoc]
  rw [show p + Q2A b + Q0o az=p + Q0o (b :: az) by simp [Q0o];omega]
theorem Qdi (a:List Int×Qk):∀ (az:List (List Int×Qk)) (p:Nat),Q3x p (az++[a])=Q3x p az++[p + Q0o az + Q0c a.2.ty]:=by
 intro az
 induction az with
 | nil=>intro p;simp [Q3x,Q0o]
 | cons b az ih=>
  intro p
  simp only [List.cons_append,Q3x,ih]
  rw [show p + Q2A b + Q0o az=p + Q0o (b :: az) by simp [Q0o];omega]
theorem Qil {c:List Qo} {B:List UInt8→Nat} {e:Nat} {a:List Int×Qk}:∀ (as1 as2:List (List Int×Qk)) (p:Nat),Sub c p (Q0y B e p (as1++a :: as2))→Sub c (p + Q0o as1) (Q17 B (p + Q0o as1) a.2.ty)∧c[p + Q0o as1 + Q0c a.2.ty]? = some (.jump e):=by
 intro as1
 induction as1 with
 | nil=>
  intro as2 p h
  simp only [List.nil_append,Q0y] at h
  obtain ⟨h1,h2⟩:=h.app
  rw [Q29] at h2
  exact ⟨by simpa [Q0o] using h1,by simpa [Q0o] using h2.cons.1⟩
 | cons b as1 ih=>
  intro as2 p h
  simp only [List.cons_append,Q0y] at h
  have h2:=h.app.2.cons.2
  rw [Q29] at h2
  have:=ih as2 (p + Q2A b) (by simpa [Nat.add_assoc] using h2)
  rw [show p + Q2A b + Q0o as1=p + Q0o (b :: as1) by simp [Q0o];omega] at this
  exact this
theorem Q36 {κ α:Type} [DecidableEq κ] (v:α) (n k:κ) (ws:List (κ×α)):Q0f (mput ws k v) n=if n=k then some v else Q0f ws n:=by
 unfold mput
 split
 ·rename_i hin
  induction ws with
  | nil=>simp at hin
  | cons q ws ih=>
   by_cases hq:q.1=k
   ·by_cases hn:n=k
    ·subst hn;simp [Q0f,hq]
    ·have hrest:Q0f (ws.map fun p=>if p.1=k then (k,v) else p) n=Q0f ws n:=by
      clear ih hin
      induction ws with
      | nil=>rfl
      | cons r ws ih2=>
       unfold Q0f at ih2 ⊢
       simp only [List.map_cons,List.find?_cons]
       by_cases hr:r.1=k
       ·have h1:(k == n)=false:=by simpa using fun e=>hn e.symm
        have h2:(r.1 == n)=false:=by rw [hr];exact h1
        simp only [hr,if_true,h1]
        exact ih2
       ·simp only [hr,if_false]
        split
        ·rfl
        ·exact ih2
     have h1:(k == n)=false:=by simpa using fun e=>hn e.symm
     have h2:(q.1 == n)=false:=by rw [hq];exact h1
     unfold Q0f at hrest ⊢
     simp only [List.map_cons,List.find?_cons,hq,if_true,h1,if_neg hn]
     exact hrest
   ·have hin':k∈ws.map (·.1):=by
     simp only [List.map_cons,List.mem_cons] at hin
     rcases hin with h | h
     ·exact absurd h.symm hq
     ·exact h
    have:=ih hin'
    unfold Q0f at this ⊢
    simp only [List.map_cons,List.find?_cons,hq,if_false]
    by_cases hqn:q.1=n
    ·have:n≠k:=fun e=>hq (hqn.trans e)
     simp [hqn,this]
    ·have h2:(q.1 == n)=false:=by simpa using hqn
     simp only [h2]
     exact this
 ·rename_i hin
  by_cases hn:n=k
  ·subst hn
   have:ws.find? (fun p=>p.1 == n)=none:=List.find?_eq_none.2 (fun p hp=>by simp;exact fun e=>hin (e ▸ List.mem_map_of_mem hp))
   simp [Q0f,List.find?_append,this]
  ·have h1:(k == n)=false:=by simpa using fun e=>hn e.symm
   simp [Q0f,List.find?_append,h1,hn]
theorem QfZ {n:Int} (v:Nat×Nat):∀ (l:List Int) (ws:List (Int×Nat×Nat)),Q0f (l.foldl (fun l k=>mput l k v) ws) n=if l.contains n then some v else Q0f ws n:=by
 intro l
 induction l with
 | nil=>intro ws;simp
 | cons k l ih=>
  intro ws
  simp only [List.foldl_cons]
  rw [ih,Q36]
  by_cases hl:l.contains n=true
  ·have:(k :: l).contains n=true:=by simp at hl ⊢;exact Or.inr hl
   rw [if_pos hl,if_pos this]
  ·rw [if_neg hl]
   by_cases hk:n=k
   ·have:(k :: l).contains n=true:=by simp [hk]
    rw [if_pos hk,if_pos this]
   ·have:¬ (k :: l).contains n=true:=by simp at hl ⊢;exact ⟨hk,hl⟩
    rw [if_neg hk,if_neg this]
def Q37 (p:Nat) (az:List (List Int×Qk)) (f:List Int×Qk→Bool) (w:Option (Nat×Nat)):Prop:=
 match az.reverse.find? f with
 | none=>w=none
 | some a=>∃ as1 as2,az=as1++a :: as2∧w=some (p + Q0o as1,if Q3s a.2.ty then 0 else 1)
theorem Q9k {p:Nat} {az:List (List Int×Qk)} {f:List Int×Qk→Bool} {w:Option (Nat×Nat)} (h:Q37 p az f w) (a:List Int×Qk):Q37 p (az++[a]) f (if f a then some (p + Q0o az,if Q3s a.2.ty then 0 else 1) else w):=by
 unfold Q37 at h ⊢
 rw [List.reverse_append,List.reverse_singleton,List.singleton_append,List.find?_cons]
 cases hf:f a with
 | true=>exact ⟨az,[],rfl,rfl⟩
 | false=>
  simp only [Bool.false_eq_true,if_false]
  cases hg:az.reverse.find? f with
  | none=>rw [hg] at h;exact h
  | some b=>
   rw [hg] at h
   obtain ⟨as1,as2,h1,h2⟩:=h
   exact ⟨as1,as2++[a],by rw [h1];simp,h2⟩
theorem Qg0 (B:List UInt8→Nat) (q0:USt) (h0:Wf q0.s) (hw:q0.ways=[]) (ho:q0.other=none) (he:q0.ends=[]):∀ (n:Nat) (az:List (List Int×Qk)),az.length=n →
  QM B (az.foldl uArm q0).s=QM B q0.s++Q0y B 0 q0.s.code.length az∧Ext q0.s (az.foldl uArm q0).s∧(az.foldl uArm q0).ends=Q3x q0.s.code.length az ∧
  (∀ n,Q37 q0.s.code.length az (fun a=>a.1.contains n) (Q0f (az.foldl uArm q0).ways n))∧Q37 q0.s.code.length az (fun a=>a.1.isEmpty) (az.foldl uArm q0).other:=by
 intro n
 induction n with
 | zero=>
  intro az hl
  have:az=[]:=List.length_eq_zero_iff.1 hl
  subst this
  exact ⟨by simp [Q0y],⟨h0,rfl,rfl,Nat.le_refl _,fun _ _ ho=>ho,fun _ _=>rfl⟩,by simp [Q3x,he],fun n=>by simp [Q37,hw,Q0f],by simp [Q37,ho]⟩
 | succ n ih=>
  intro az hl
  have hne:az≠[]:=by intro e;subst e;simp at hl
  obtain ⟨az',a,rfl⟩:∃ az' a,az=az'++[a]:=⟨az.dropLast,az.getLast hne,(List.dropLast_concat_getLast hne).symm⟩
  obtain ⟨h1,h2,h3,h4,h5⟩:=ih az' (by simpa using hl)
  have hlen:(az'.foldl uArm q0).s.code.length=q0.s.code.length + Q0o az':=by
   have:=congrArg List.length h1
   rw [Q3w,List.length_append,Q3w,Q6l] at this
   exact this
  obtain ⟨v1,v2⟩:=Q3J B a.2.ty (az'.foldl uArm q0).s h2.wf
  have vl:=Q1P a.2.ty (az'.foldl uArm q0).s
  simp only [List.foldl_append,List.foldl_cons,List.foldl_nil]
  refine ⟨?_,?_,?_,?_,?_⟩
  ·simp only [uArm,armM]
   rw [Q1d v2.wf,v1,h1,Qc2,hlen]
   simp
  ·exact h2.trans (v2.trans (Ext.put v2.wf _))
  ·simp only [uArm,armM]
   rw [h3,Qdi,vl,hlen]
  ·intro k
   simp only [uArm]
   rw [QfZ]
   have:=Q9k (h4 k) a
   simp only [wayM,hlen]
   exact this
  ·simp only [uArm]
   have:=Q9k h5 a
   simp only [wayM,hlen]
   by_cases hc:a.1=[]
   ·simpa [hc] using this
   ·have hb:a.1.isEmpty=false:=by simpa using hc
    simpa [hc,hb] using this
theorem Qg1 (B:List UInt8→Nat) (e:Nat):∀ (az:List (List Int×Qk)) (pre post:List Qo) ,(Q3x pre.length az).foldl (fun c i=>c.set i (.jump e)) (pre++(Q0y B 0 pre.length az++post))=pre++(Q0y B e pre.length az++post):=by
 intro az
 induction az with
 | nil=>intro pre post;rfl
 | cons a az ih=>
  intro pre post
  simp only [Q3x,Q0y,List.foldl_cons]
  have e1:(pre++(Q17 B pre.length a.2.ty++Qo.jump 0 :: Q0y B 0 (pre.length + Q2A a) az++post)).set (pre.length + Q0c a.2.ty) (.jump e)=(pre++Q17 B pre.length a.2.ty++[Qo.jump e])++(Q0y B 0 (pre.length + Q2A a) az++post):=by
   rw [show pre++(Q17 B pre.length a.2.ty++Qo.jump 0 :: Q0y B 0 (pre.length + Q2A a) az++post)=(pre++Q17 B pre.length a.2.ty)++(Qo.jump 0 :: (Q0y B 0 (pre.length + Q2A a) az++post)) by simp]
   rw [List.set_append_right _ _ (by simp [Q29])]
   simp [Q29]
  rw [e1]
  have hl:(pre++Q17 B pre.length a.2.ty++[Qo.jump e]).length=pre.length + Q2A a:=by simp [Q29,Nat.add_assoc]
  have:=ih (pre++Q17 B pre.length a.2.ty++[Qo.jump e]) post
  rw [hl] at this
  rw [this]
  simp
theorem Qg2 (l:List Nat):∀ (s:CSt),(Q28 l s).code=l.foldl (fun c i=>c.set i (.jump s.code.length)) s.code∧(Q28 l s).calls=s.calls∧(Q28 l s).bodies=s.bodies∧(Q28 l s).enums=s.enums:=by
 induction l with
 | nil=>intro s;exact ⟨rfl,rfl,rfl,rfl⟩
 | cons i l ih=>
  intro s
  obtain ⟨h1,h2,h3,h4⟩:=ih (setM i (.jump s.code.length) s)
  have e:(setM i (.jump s.code.length) s).code.length=s.code.length:=by simp [setM]
  rw [e] at h1
  exact ⟨h1,h2,h3,h4⟩
theorem QeR (B:List UInt8→Nat) (l:List Nat):∀ (s:CSt),(∀ i∈l,Open s i)→QM B (Q28 l s)=l.foldl (fun c i=>c.set i (.jump s.code.length)) (QM B s):=by
 induction l with
 | nil=>intro s _;rfl
 | cons i l ih=>
  intro s h
  have e:(setM i (.jump s.code.length) s).code.length=s.code.length:=by simp [setM]
  have:=ih (setM i (.jump s.code.length) s) (fun j hj=>h j (List.mem_cons_of_mem _ hj))
  rw [e,Q6P (h i (by simp))] at this
  exact this
theorem Qg3 (l:List Nat):∀ (s0 s:CSt),Ext s0 s→(∀ i∈l,s0.code.length≤i)→(∀ i∈l,Open s i)→Ext s0 (Q28 l s):=by
 induction l with
 | nil=>intro s0 s h _ _;exact h
 | cons i l ih=>
  intro s0 s h h1 h2
  exact ih s0 _ (h.set (h1 i (by simp)) (h2 i (by simp)) _) (fun j hj=>h1 j (List.mem_cons_of_mem _ hj)) (fun j hj=>h2 j (List.mem_cons_of_mem _ hj))
theorem Qg4:∀ (az:List (List Int×Qk)) (p:Nat),∀ i∈Q3x p az,p≤i:=by
 intro az
 induction az with
 | nil=>intro p i hi;cases hi
 | cons a az ih=>
  intro p i hi
  simp only [Q3x,List.mem_cons] at hi
  rcases hi with rfl | hi
  ·omega
  ·have:=ih _ i hi
   omega
theorem Qg5 (q0:USt) (h0:Wf q0.s) (he:q0.ends=[]):∀ (n:Nat) (az:List (List Int×Qk)),az.length=n→Wf (az.foldl uArm q0).s∧∀ i∈(az.foldl uArm q0).ends,(az.foldl uArm q0).s.code[i]? = some (.jump 0):=by
 intro n
 induction n with
 | zero=>
  intro az hl
  have:az=[]:=List.length_eq_zero_iff.1 hl
  subst this
  exact ⟨h0,by intro i hi;simp [he] at hi⟩
 | succ n ih=>
  intro az hl
  have hne:az≠[]:=by intro e;subst e;simp at hl
  obtain ⟨az',a,rfl⟩:∃ az' a,az=az'++[a]:=⟨az.dropLast,az.getLast hne,(List.dropLast_concat_getLast hne).symm⟩
  obtain ⟨h1,h2⟩:=ih az' (by simpa using hl)
  obtain ⟨_,v2⟩:=Q3J (fun _=>0) a.2.ty (az'.foldl uArm q0).s h1
  simp only [List.foldl_append,List.foldl_cons,List.foldl_nil]
  refine ⟨v2.wf.put _,?_⟩
  intro i hi
  simp only [uArm,List.mem_append,List.mem_singleton] at hi ⊢
  rcases hi with hi | rfl
  ·have hl:i < (az'.foldl uArm q0).s.code.length:=by
    by_cases hl:i < (az'.foldl uArm q0).s.code.length
    ·exact hl
    ·have:=h2 i hi
     rw [List.getElem?_eq_none (by omega)] at this
     cases this
   simp only [putM,armM]
   rw [List.getElem?_append_left (Nat.lt_of_lt_of_le hl v2.len),v2.old i hl]
   exact h2 i hi
  ·simp [putM,armM]
theorem Q9l (B:List UInt8→Nat) (sel:Qk) (arms:List (List Int×Qk)) (s:CSt) (h:Wf s) :
  ∃ ws o,QM B (Q4m sel arms s)=QM B s++(.choice (Q0x s sel.ty) ws o :: Q0y B (s.code.length + 1 + Q0o arms) (s.code.length + 1) arms)∧Ext s (Q4m sel arms s) ∧
   (∀ n,Q37 (s.code.length + 1) arms (fun a=>a.1.contains n) (Q0f ws n))∧Q37 (s.code.length + 1) arms (fun a=>a.1.isEmpty) o:=by
 have h1:=h.put .hole
 have e1:(putM .hole s).code.length=s.code.length + 1:=by simp [putM]
 obtain ⟨a1,a2,a3,a4,a5⟩:=Qg0 B ⟨putM .hole s,[],none,[]⟩ h1 rfl rfl rfl arms.length arms rfl
 obtain ⟨_,b2⟩:=Qg5 ⟨putM .hole s,[],none,[]⟩ h1 rfl arms.length arms rfl
 simp only [e1] at a1 a2 a3 a4 a5
 have op1:Open (arms.foldl uArm ⟨putM .hole s,[],none,[]⟩).s s.code.length:=a2.op _ (by rw [e1];omega) (Q7B h)
 have hq:(arms.foldl uArm ⟨putM .hole s,[],none,[]⟩).s.code.length=s.code.length + 1 + Q0o arms:=by
  have:=congrArg List.length a1
  rw [Q3w,List.length_append,Q3w,Q6l,e1] at this
  exact this
 have hge:∀ i∈(arms.foldl uArm ⟨putM .hole s,[],none,[]⟩).ends,s.code.length + 1≤i:=by
  intro i hi
  rw [a3] at hi
  exact Qg4 _ _ i hi
 have exs:=((Ext.put h .hole).trans a2).set (Nat.le_refl _) op1 (.choice (Q0x s sel.ty) (arms.foldl uArm ⟨putM .hole s,[],none,[]⟩).ways (arms.foldl uArm ⟨putM .hole s,[],none,[]⟩).other)
 have hop:∀ i∈(arms.foldl uArm ⟨putM .hole s,[],none,[]⟩).ends,Open (setM s.code.length (.choice (Q0x s sel.ty) (arms.foldl uArm ⟨putM .hole s,[],none,[]⟩).ways (arms.foldl uArm ⟨putM .hole s,[],none,[]⟩).other) (arms.foldl uArm ⟨putM .hole s,[],none,[]⟩).s) i:=by
  intro i hi
  have h':Open (arms.foldl uArm ⟨putM .hole s,[],none,[]⟩).s i:=QdS a2.wf (b2 i hi) (by simp)
  exact h'
 refine ⟨_,_,?_,Qg3 _ _ _ exs (fun i hi=>by have:=hge i hi;omega) hop,a4,a5⟩
 simp only [Q4m]
 rw [QeR B _ _ hop,Q6P op1,a1,Q1d h,a3]
 have hs:(setM s.code.length (.choice (Q0x s sel.ty) (arms.foldl uArm ⟨putM .hole s,[],none,[]⟩).ways (arms.foldl uArm ⟨putM .hole s,[],none,[]⟩).other) (arms.foldl uArm ⟨putM .hole s,[],none,[]⟩).s).code.length=s.code.length + 1 + Q0o arms:=by simp [setM,hq]
 rw [hs]
 have hl:s.code.length=(QM B s).length:=Q3w.symm
 have e2:(QM B s++[Qo.hole]++Q0y B 0 (s.code.length + 1) arms).set s.code.length (.choice (Q0x s sel.ty) (arms.foldl uArm ⟨putM .hole s,[],none,[]⟩).ways (arms.foldl uArm ⟨putM .hole s,[],none,[]⟩).other)=(QM B s++[Qo.choice (Q0x s sel.ty) (arms.foldl uArm ⟨putM .hole s,[],none,[]⟩).ways (arms.foldl uArm ⟨putM .hole s,[],none,[]⟩).other])++(Q0y B 0 (s.code.length + 1) arms++[]):=by
  rw [show QM B s++[Qo.hole]++Q0y B 0 (s.code.length + 1) arms=QM B s++(Qo.hole :: Q0y B 0 (s.code.length + 1) arms) by simp]
  rw [List.set_append_right _ _ (by omega)]
  simp [hl]
 rw [e2]
 have hl2:(QM B s++[Qo.choice (Q0x s sel.ty) (arms.foldl uArm ⟨putM .hole s,[],none,[]⟩).ways (arms.foldl uArm ⟨putM .hole s,[],none,[]⟩).other]).length=s.code.length + 1:=by simp [hl]
 have:=Qg1 B (s.code.length + 1 + Q0o arms) arms (QM B s++[Qo.choice (Q0x s sel.ty) (arms.foldl uArm ⟨putM .hole s,[],none,[]⟩).ways (arms.foldl uArm ⟨putM .hole s,[],none,[]⟩).other]) []
 rw [hl2] at this
 rw [this]
 simp
def Qh5 (E:Env) (d:DefL):Prop:=∀ t∈Qc0 d,Q7Y E t
def QiB (E:Env) (s:CSt):DefL→Prop
 | .union _ _ sel _=>Q0x s sel.ty=selD E sel.ty
 | _=>True
theorem Qg6 {arms:List (List Int×Qk)} {p:Nat} {ws:List (Int×Nat×Nat)} {o:Option (Nat×Nat)} {c:List Qo} {B:List UInt8→Nat} {E:Env} {e:Nat}
  (h1:∀ n,Q37 p arms (fun a=>a.1.contains n) (Q0f ws n)) (h2:Q37 p arms (fun a=>a.1.isEmpty) o) (hs:Sub c p (Q0y B e p arms)) (hk:∀ a∈arms,Q7Y E a.2.ty) (n:Int) :
  match Q9j arms n with
    | none=>Q0f ws n=none∧o=none
    | some t=>∃ q,(match Q0f ws n with | some q=>some q | none=>o)=some q∧q.2=(if Q3s t then 0 else 1)∧AtTy c B E q.1 t∧c[q.1 + Q0c t]? = some (.jump e):=by
 have h3:=h1 n
 have key:∀ (f:List Int×Qk→Bool) (w:Option (Nat×Nat)) (a:List Int×Qk),arms.reverse.find? f=some a→Q37 p arms f w→∃ q,w=some q∧q.2=(if Q3s a.2.ty then 0 else 1)∧AtTy c B E q.1 a.2.ty∧c[q.1 + Q0c a.2.ty]? = some (.jump e):=by
  intro f w a hf hw
  unfold Q37 at hw
  rw [hf] at hw
  obtain ⟨as1,as2,ha,hq⟩:=hw
  refine ⟨_,hq,rfl,?_⟩
  rw [ha] at hs
  obtain ⟨g1,g2⟩:=Qil as1 as2 p hs
  exact ⟨QeP _ _ (hk a (by rw [ha];simp)) g1,g2⟩
 unfold Q9j
 cases hf:arms.reverse.find? (fun a=>a.1.contains n) with
 | some a=>
  obtain ⟨q,g1,g2⟩:=key _ _ a hf h3
  exact ⟨q,by rw [g1],g2⟩
 | none=>
  unfold Q37 at h3
  rw [hf] at h3
  simp only [h3]
  cases hg:arms.reverse.find? (fun a=>a.1.isEmpty) with
  | none=>
   unfold Q37 at h2
   rw [hg] at h2
   exact ⟨trivial,h2⟩
  | some a=>
   obtain ⟨q,g1,g2⟩:=key _ _ a hg h2
   exact ⟨q,g1,g2⟩
theorem Qh6 (B:List UInt8→Nat) (d:DefL) (s:CSt) (h:Wf s) (ht:Q2t d=true) :
  ∃ seg,QM B (QX d s)=QM B s++seg∧Wf (QX d s)∧(QX d s).bodies=mput s.bodies (Qw d).1 s.code.length ∧
   (∀ (c:List Qo) (E:Env),Sub c s.code.length seg→Qh5 E d→QiB E s d→QiA c B E s.code.length d):=by
 cases d with
 | const t a v=>simp [Q2t] at ht
 | prog t a v n=>simp [Q2t] at ht
 | typedef d=>
  obtain ⟨h1,h2⟩:=Q3J B d.ty s h
  refine ⟨Q17 B s.code.length d.ty++[.ret],?_,h2.wf.put _,?_,?_⟩
  ·have:=Q1d (B:=B) h2.wf .ret
   simp only [QX,Q32]
   show QM B (putM .ret (QQ d.ty s))=_
   rw [this,h1]
   simp
  ·simp only [QX,Q32,h2.bo]
   rfl
  ·intro c E hs hk _
   obtain ⟨g1,g2⟩:=hs.app
   rw [Q29] at g2
   exact ⟨QeP _ _ (hk d.ty (by simp [Qc0])) g1,g2.cons.1⟩
 | enum t a ms=>
  have h1:Wf { s with enums:=mput s.enums t (Q0H ms) }:=h
  refine ⟨[.num (Q0H ms),.ret],?_,(h1.put _).put _,rfl,?_⟩
  ·simp only [QX,Q32]
   show QM B (putM .ret (putM (.num (Q0H ms)) { s with enums:=mput s.enums t (Q0H ms) }))=_
   rw [Q1d (h1.put _),Q1d h1]
   show QM B s++[_]++[_]=_
   simp
  ·intro c E hs _ _
   exact ⟨hs.cons.1,hs.cons.2.cons.1⟩
 | struct t a ms=>
  have e1:(putM (.struct ms.length true) s).code.length=s.code.length + 1:=by simp [putM]
  obtain ⟨h1,h2⟩:=Qc1 B (ms.map (·.ty)) (putM (.struct ms.length true) s) (h.put _)
  have ef:Q27 ms s=(ms.map (·.ty)).foldl (fun s t=>QQ t s) (putM (.struct ms.length true) s):=by
   simp only [Q27,List.foldl_map]
  rw [e1] at h1
  have ex:=(Ext.put h (.struct ms.length true)).trans h2
  refine ⟨.struct ms.length true :: (Q52 B (s.code.length + 1) (ms.map (·.ty))++[.ret]),?_,?_,?_,?_⟩
  ·simp only [QX,Q32]
   show QM B (putM .ret (Q27 ms s))=_
   rw [ef,Q1d h2.wf,h1,Q1d h]
   simp
  ·show Wf (putM .ret (Q27 ms s))
   rw [ef]
   exact h2.wf.put _
  ·simp only [QX,Q32]
   rw [ef,ex.bo]
   rfl
  ·intro c E hs hk _
   obtain ⟨g1,g2⟩:=hs.cons
   obtain ⟨g3,g4⟩:=g2.app
   rw [QeQ] at g4
   exact ⟨g1,Qik _ _ hk g3,g4.cons.1⟩
 | union t a sel arms=>
  obtain ⟨ws,o,h1,h2,h3,h4⟩:=Q9l B sel arms s h
  refine ⟨.choice (Q0x s sel.ty) ws o :: (Q0y B (s.code.length + 1 + Q0o arms) (s.code.length + 1) arms++[.ret]),?_,?_,?_,?_⟩
  ·simp only [QX,Q32]
   show QM B (putM .ret (Q4m sel arms s))=_
   rw [Q1d h2.wf,h1]
   simp
  ·exact h2.wf.put _
  ·simp only [QX,Q32,h2.bo]
   rfl
  ·intro c E hs hk hsel
   obtain ⟨g1,g2⟩:=hs.cons
   obtain ⟨g3,g4⟩:=g2.app
   rw [Q6l] at g4
   have hsel':Q0x s sel.ty=selD E sel.ty:=hsel
   rw [hsel'] at g1
   exact ⟨ws,o,s.code.length + 1 + Q0o arms,g1,g4.cons.1,Qg6 h3 h4 g3 (fun a ha=>hk _ (by simp [Qc0];exact ⟨_,_,ha,rfl⟩))⟩
theorem Qg7 (d:DefL) (s:CSt) (h:Wf s) (n:List UInt8):Q0f (QX d s).enums n=match d with
  | .enum t _ ms=>if n=t then some (Q0H ms) else Q0f s.enums n
  | _=>Q0f s.enums n:=by
 cases d with
 | enum t a ms=>exact Q36 _ _ _ _
 | const t a v=>rfl
 | prog t a v n=>rfl
 | typedef d=>simp only [QX,Q32,putM,(Q3J (fun _=>0) d.ty s h).2.en]
 | struct t a ms=>
  have ef:Q27 ms s=(ms.map (·.ty)).foldl (fun s t=>QQ t s) (putM (.struct ms.length true) s):=by simp only [Q27,List.foldl_map]
  simp only [QX,Q32,putM,ef]
  have:=((Ext.put h (.struct ms.length true)).trans (Qc1 (fun _=>0) (ms.map (·.ty)) (putM (.struct ms.length true) s) (h.put _)).2).en
  simp only [putM] at this
  rw [this]
 | union t a sel arms=>
  obtain ⟨ws,o,_,h2,_⟩:=Q9l (fun _=>0) sel arms s h
  simp only [QX,Q32,putM,h2.en]
def Q0p (ds:List DefL):CSt:=ds.foldl (fun s d=>QX d s) st0C
theorem Q4o (ds:List DefL) (d:DefL):Q0p (ds++[d])=QX d (Q0p ds):=by simp [Q0p]
theorem Q5Q {d:DefL} (h:Q2t d=false) (s:CSt):QX d s=s:=by cases d<;>simp [Q2t] at h<;>rfl
theorem Qh7 (B:List UInt8→Nat):∀ (k:Nat) (ds:List DefL),ds.length=k →
  Wf (Q0p ds)∧(∀ n,(∀ d∈ds,Q2t d=true→(Qw d).1≠n)→Q0f (Q0p ds).bodies n=none) ∧
  (∀ az d bs,ds=az++d :: bs→Q2t d=true→(∀ e∈bs,Q2t e=true→(Qw e).1≠(Qw d).1)→Q0f (Q0p ds).bodies (Qw d).1=some (Q0p az).code.length) ∧
  (∀ az bs,ds=az++bs→∃ post,QM B (Q0p ds)=QM B (Q0p az)++post) ∧
  (∀ az t a ms bs,ds=az++DefL.enum t a ms :: bs→(∀ e∈bs,Q2t e=true→(Qw e).1≠t)→Q0f (Q0p ds).enums t=some (Q0H ms)):=by
 intro k
 induction k with
 | zero=>
  intro ds hl
  have:ds=[]:=List.length_eq_zero_iff.1 hl
  subst this
  refine ⟨(by intro k hk;cases hk),fun n _=>rfl,?_,?_,?_⟩
  ·intro az d bs h;simp at h
  ·intro az bs h
   have:az=[]:=by simp at h;exact h.1
   subst this
   exact ⟨[],by simp⟩
  ·intro az t a ms bs h;simp at h
 | succ k ih=>
  intro ds hl
  have hne:ds≠[]:=by intro e;subst e;simp at hl
  obtain ⟨ds',z,rfl⟩:∃ ds' z,ds=ds'++[z]:=⟨ds.dropLast,ds.getLast hne,(List.dropLast_concat_getLast hne).symm⟩
  obtain ⟨h1,h2,h3,h4,h5⟩:=ih ds' (by simpa using hl)
  rw [Q4o]
  have split:∀ (az:List DefL) (d:DefL) (bs:List DefL),ds'++[z]=az++d :: bs→(bs=[]∧d=z∧az=ds')∨∃ bs',bs=bs'++[z]∧ds'=az++d :: bs':=by
   intro az d bs h
   by_cases hb:bs=[]
   ·subst hb
    obtain ⟨e1,e2⟩:=List.append_inj' h rfl
    simp at e2
    exact Or.inl ⟨rfl,e2.symm,e1.symm⟩
   ·obtain ⟨bs',y,rfl⟩:∃ bs' y,bs=bs'++[y]:=⟨bs.dropLast,bs.getLast hb,(List.dropLast_concat_getLast hb).symm⟩
    have h':ds'++[z]=(az++d :: bs')++[y]:=by rw [h];simp
    obtain ⟨e1,e2⟩:=List.append_inj' h' rfl
    simp at e2
    exact Or.inr ⟨bs',by rw [e2],e1⟩
  cases hz:Q2t z with
  | false=>
   rw [Q5Q hz]
   refine ⟨h1,?_,?_,?_,?_⟩
   ·intro n hn
    exact h2 n (fun d hd=>hn d (List.mem_append_left _ hd))
   ·intro az d bs h ht hb
    rcases split az d bs h with ⟨_,rfl,_⟩ | ⟨bs',rfl,h'⟩
    ·rw [hz] at ht;cases ht
    ·exact h3 az d bs' h' ht (fun e he=>hb e (List.mem_append_left _ he))
   ·intro az bs h
    by_cases hb:bs=[]
    ·subst hb
     refine ⟨[],?_⟩
     simp at h
     rw [← h,Q4o,Q5Q hz]
     simp
    ·obtain ⟨bs',y,rfl⟩:∃ bs' y,bs=bs'++[y]:=⟨bs.dropLast,bs.getLast hb,(List.dropLast_concat_getLast hb).symm⟩
     have h':ds'++[z]=(az++bs')++[y]:=by rw [h];simp
     obtain ⟨e1,_⟩:=List.append_inj' h' rfl
     exact h4 az bs' e1
   ·intro az t a ms bs h hb
    rcases split az _ bs h with ⟨_,rfl,_⟩ | ⟨bs',rfl,h'⟩
    ·simp [Q2t] at hz
    ·exact h5 az t a ms bs' h' (fun e he=>hb e (List.mem_append_left _ he))
  | true=>
   obtain ⟨seg,g1,g2,g3,g4⟩:=Qh6 B z (Q0p ds') h1 hz
   refine ⟨g2,?_,?_,?_,?_⟩
   ·intro n hn
    rw [g3,Q36,if_neg (fun e=>hn z (by simp) hz e.symm)]
    exact h2 n (fun d hd=>hn d (List.mem_append_left _ hd))
   ·intro az d bs h ht hb
    rw [g3,Q36]
    rcases split az d bs h with ⟨_,rfl,rfl⟩ | ⟨bs',rfl,h'⟩
    ·rw [if_pos rfl]
    ·rw [if_neg (fun e=>hb z (by simp) hz e.symm)]
     exact h3 az d bs' h' ht (fun e he=>hb e (List.mem_append_left _ he))
   ·intro az bs h
    by_cases hb:bs=[]
    ·subst hb
     refine ⟨[],?_⟩
     simp at h
     rw [← h,Q4o]
     simp
    ·obtain ⟨bs',y,rfl⟩:∃ bs' y,bs=bs'++[y]:=⟨bs.dropLast,bs.getLast hb,(List.dropLast_concat_getLast hb).symm⟩
     have h':ds'++[z]=(az++bs')++[y]:=by rw [h];simp
     obtain ⟨e1,_⟩:=List.append_inj' h' rfl
     obtain ⟨post,hp⟩:=h4 az bs' e1
     exact ⟨post++seg,by rw [g1,hp];simp⟩
   ·intro az t a ms bs h hb
    rw [Qg7 z _ h1]
    rcases split az _ bs h with ⟨_,rfl,rfl⟩ | ⟨bs',rfl,h'⟩
    ·simp
    ·have ho:=h5 az t a ms bs' h' (fun e he=>hb e (List.mem_append_left _ he))
     have hne:=hb z (by simp) hz
     cases z with
     | enum t' a' ms'=>
      simp only
      rw [if_neg (fun e=>hne (by rw [e];rfl))]
      exact ho
     | _=>exact ho
theorem QeS (B:List UInt8→Nat) (s0:CSt) (h0:Wf s0):∀ (k:Nat) (az:List DefL),az.length=k →
  Wf (az.foldl QU (s0,[])).1∧(az.foldl QU (s0,[])).1.bodies=s0.bodies∧(∃ post,QM B (az.foldl QU (s0,[])).1=QM B s0++post) ∧
  (∀ n q,Q0f (az.foldl QU (s0,[])).2 n=some q→(QM B (az.foldl QU (s0,[])).1)[q]? = some (.call (B n))∧(QM B (az.foldl QU (s0,[])).1)[q + 1]? = some .fin∧(Q0f s0.bodies n).isSome) ∧
  (∀ d∈az,(Q0f s0.bodies (Qw d).1).isSome→(Q0f (az.foldl QU (s0,[])).2 (Qw d).1).isSome):=by
 intro k
 induction k with
 | zero=>
  intro az hl
  have:az=[]:=List.length_eq_zero_iff.1 hl
  subst this
  exact ⟨h0,rfl,⟨[],by simp⟩,(by intro n q h;cases h),by intro d hd;cases hd⟩
 | succ k ih=>
  intro az hl
  have hne:az≠[]:=by intro e;subst e;simp at hl
  obtain ⟨az',z,rfl⟩:∃ az' z,az=az'++[z]:=⟨az.dropLast,az.getLast hne,(List.dropLast_concat_getLast hne).symm⟩
  obtain ⟨h1,h2,⟨post,h3⟩,h4,h5⟩:=ih az' (by simpa using hl)
  rw [List.foldl_append]
  simp only [List.foldl_cons,List.foldl_nil]
  generalize az'.foldl QU (s0,[])=p at h1 h2 h3 h4 h5 ⊢
  unfold QU
  rw [Q6M,h2]
  cases hb:(Q0f s0.bodies (Qw z).1).isSome with
  | false=>
   simp only [Bool.false_eq_true,if_false]
   refine ⟨h1,h2,⟨post,h3⟩,h4,?_⟩
   intro d hd hs
   rcases List.mem_append.1 hd with hd | hd
   ·exact h5 d hd hs
   ·simp only [List.mem_singleton] at hd
    subst hd
    rw [hb] at hs
    cases hs
  | true=>
   simp only [if_true]
   have w1:=h1.call (Qw z).1
   have e1:QM B (Q7A (Qw z).1 p.1)=QM B p.1++[.call (B (Qw z).1),.fin]:=by
    unfold Q7A
    rw [Q1d w1,Qad h1]
    simp
   have hl:(QM B p.1).length=p.1.code.length:=Q3w
   refine ⟨w1.put _,h2,⟨post++[.call (B (Qw z).1),.fin],by rw [e1,h3];simp⟩,?_,?_⟩
   ·intro n q hq
    rw [Q36] at hq
    rw [e1]
    split at hq
    ·rename_i hn
     subst hn
     cases hq
     refine ⟨?_,?_,hb⟩
     ·rw [List.getElem?_append_right (by omega),hl]
      simp
     ·rw [List.getElem?_append_right (by omega),hl]
      simp
    ·obtain ⟨g1,g2,g3⟩:=h4 n q hq
     have lt:∀ (j:Nat) (x:Qo),(QM B p.1)[j]? = some x→j < (QM B p.1).length:=by
      intro j x hx
      by_cases hj:j < (QM B p.1).length
      ·exact hj
      ·rw [List.getElem?_eq_none (by omega)] at hx;cases hx
     rw [List.getElem?_append_left (lt _ _ g1),List.getElem?_append_left (lt _ _ g2)]
     exact ⟨g1,g2,g3⟩
   ·intro d hd hs
    rw [Q36]
    split
    ·rfl
    ·rename_i hn
     rcases List.mem_append.1 hd with hd | hd
     ·exact h5 d hd hs
     ·simp only [List.mem_singleton] at hd
      exact absurd (by rw [hd]) hn
theorem Ext.refl {s:CSt} (h:Wf s):Ext s s:=⟨h,rfl,rfl,Nat.le_refl _,fun _ _ ho=>ho,fun _ _=>rfl⟩
theorem Q9m (B:List UInt8→Nat) (t:Ty) (s:CSt) (h:Wf s):Ext s (startT t s)∧QM B (startT t s)=QM B s++(Q17 B s.code.length t++[.fin]):=by
 obtain ⟨h1,h2⟩:=Q3J B t s h
 refine ⟨h2.trans (Ext.put h2.wf _),?_⟩
 unfold startT
 rw [Q1d h2.wf,h1]
 simp
theorem Q6Q {α β:Type} (B:List UInt8→Nat) (f:CSt×α→β→CSt×α) (hf:∀ q b,Wf q.1→Ext q.1 (f q b).1∧∃ post,QM B (f q b).1=QM B q.1++post):∀ (l:List β) (q:CSt×α),Wf q.1→Ext q.1 (l.foldl f q).1∧∃ post,QM B (l.foldl f q).1=QM B q.1++post:=by
 intro l
 induction l with
 | nil=>intro q h;exact ⟨Ext.refl h,[],by simp⟩
 | cons b l ih=>
  intro q h
  obtain ⟨h1,p1,e1⟩:=hf q b h
  obtain ⟨h2,p2,e2⟩:=ih (f q b) h1.wf
  exact ⟨h1.trans h2,p1++p2,by rw [List.foldl_cons,e2,e1];simp⟩
theorem QeT (B:List UInt8→Nat) (q:CSt×List (Int×Nat×Nat)) (p:Q15) (h:Wf q.1):Ext q.1 (Q0Z q p).1∧∃ post,QM B (Q0Z q p).1=QM B q.1++post:=by
 obtain ⟨h1,e1⟩:=Q9m B p.arg q.1 h
 obtain ⟨h2,e2⟩:=Q9m B p.res _ h1.wf
 exact ⟨h1.trans h2,_,by show QM B (startT p.res (startT p.arg q.1))=_;rw [e2,e1,List.append_assoc]⟩
theorem Qg8 (B:List UInt8→Nat) (q:CSt×PrgL) (v:QN) (h:Wf q.1):Ext q.1 (Q1W q v).1∧∃ post,QM B (Q1W q v).1=QM B q.1++post:=Q6Q B Q0Z (QeT B) v.procs (q.1,[]) h
theorem QeU (B:List UInt8→Nat) (q:CSt×List (Int×PrgL)) (d:DefL) (h:Wf q.1):Ext q.1 (Q0g q d).1∧∃ post,QM B (Q0g q d).1=QM B q.1++post:=by
 cases d with
 | prog t a vs num=>exact Q6Q B Q1W (Qg8 B) vs (q.1,_) h
 | _=>exact ⟨Ext.refl h,[],by simp [Q0g]⟩
theorem Qg9 (B:List UInt8→Nat) (ds:List DefL) (s0:CSt) (h0:Wf s0):Ext s0 (ds.foldl Q0g (s0,[])).1∧∃ post,QM B (ds.foldl Q0g (s0,[])).1=QM B s0++post:=Q6Q B Q0g (QeU B) ds (s0,[]) h0
end Go.Proofs.YtmbcibgknckenaaGreatDoor
namespace Go.Proofs.YtmbcibgknckenaaGreatDoor
open Go.RowKit
open Go.MapKept
theorem Qh8:(Tryz.prog.info? 226).map (fun i=>(i.zero,i.size,i.bytes))=some (some .nilIface,1,16):=by kernel_rfl
theorem Qh9:(Tryz.prog.info? 222).map (fun i=>(i.zero,i.size,i.bytes))=some (some (.agg #[.int .i64 0,.string ⟨#[]⟩]),2,24):=by kernel_rfl
theorem Q1v {w u:World} {a:CAd} {Fr bs:List (Nat×Obj)} {s:CSt} {sl ks:Value} {cv:List (Qo×Value)} {et:List (List UInt8×NumL×Value)} {v:Value} {x:Qo} (h:Cp w a Fr bs s sl ks cv et u) (hx:Q2y bs v x) (hs:s.code.length < 1000000) :
  Calls Tryz.prog 98 #[.pointer (some ⟨a.C,0,none⟩),v] u fun e u'=>e = .returned (.int .i64 s.code.length)∧∃ sl',Cp w a Fr bs (putM x s) sl' ks (cv++[(x,v)]) et u':=by
 obtain ⟨T,y,rfl⟩:=hx.iface
 obtain ⟨ad,cap,rfl⟩:=h.slice
 obtain ⟨c0,c1,c2,c3,hfz,hlt⟩:=h.cells
 obtain ⟨i0,hi0,hz0,hz1,hz2⟩:=info_parts Qh8
 have H:=Hid.mk h
 have HX:=Hid.mk hx
 have hwl:w.heap.size≤u.heap.size:=h.own.kp.size
 have hown5:∀ ob,(u.alloc ob).ownsRow w.heap.size 226 1 (.slice ad s.code.length cap) s.code.length (cv.map (·.2)):=fun ob=>Qx h.row ((Qa.refl [] u).alloc ob) (by simp)
 have hl1:s.code.length + 1≤maxLen:=by unfold maxLen;omega
 have hl2:(s.code.length + 1) * 16≤140737488355328:=by omega
 have hz3:Value.nilIface.cells.size=1:=rfl
 have hbox6:∀ ob u3,(u.alloc ob).grownBy u3 (Value.slice ad s.code.length cap).ownBlock→u3.cell? ⟨a.C,0,none⟩=some (.slice ad s.code.length cap)∧(∀ i,u3.frozen? ⟨a.C,i,none⟩=false)∧a.C < u3.heap.size:=by
  intro ob u3 hg
  have hb:u3.heap[a.C]? = some (.cells #[.slice ad s.code.length cap,.map (some a.B),.map (some a.E),ks] 123):=
   (hg.block _ (by simp;omega) (fun e=>(H.out.distinct.2.2.2.1 _ e.symm).1 rfl)).trans ((((Qa.refl [] u).alloc ob).block _ hlt (by simp)).trans H.out.box)
  refine ⟨?_,?_,Qc hb⟩<;>simp [World.cell?,World.frozen?,hb]
 have H6:=Hid.mk hbox6
 clear h hx hbox6
 go_enter Tryz.func98,Tryz.ntmps98
 go_wp2_with (first
  | (at_builtin;refine wpList_append_lies _ (by rfl) _ _ _ (by rfl) w.heap.size 226 i0 _ 1 16 Tryz.underlying63 hi0 hz0 hz1 hz2 hz3 (by omega) (.slice ad s.code.length cap) s.code.length (cv.map (·.2)) (by rfl) (hown5 _) ⟨u.heap.size,0,none⟩ 1 1 [.iface T y] (by rfl) (by rfl) (World.news_of_block (cs:=#[.iface T y]) (t:=226) (fr:=(0,0)) (heap_alloc_new u _)) (by simp [Value.oneCell']) (by omega) hl1 hl2 (by simp;omega) (u.heap.size + 1) (by simp) ?_;intro g cap' w8 hown8 hgrow hat hlt8;obtain ⟨q0,q1,q2⟩:=H6.out _ _ hgrow))
 go_ret
 have M:=Cp.putCode H.out HX.out ((Below.refl u.heap.size u).alloc (Nat.le_refl _) _) hown8 hgrow (by simpa using hat) hlt8
 exact ⟨by simp,_,M⟩
theorem Q2l {w u:World} {a:CAd} {Fr bs:List (Nat×Obj)} {s:CSt} {sl ks:Value} {cv:List (Qo×Value)} {et:List (List UInt8×NumL×Value)} (h:Cp w a Fr bs s sl ks cv et u) :
  Calls Tryz.prog 95 #[.pointer (some ⟨a.C,0,none⟩)] u fun e u'=>e = .returned (.int .i64 s.code.length)∧u'=u:=by
 obtain ⟨ad,cap,rfl⟩:=h.slice
 obtain ⟨c0,c1,c2,c3,hfz,hlt⟩:=h.cells
 clear h
 go_enter Tryz.func95,Tryz.ntmps95
 go_wp2
 go_ret
 exact ⟨rfl,rfl⟩
abbrev Qhv (n:NumL) (m:Value):Array Value:=#[.int .i64 n.low,.int .i64 n.high,m,.bool n.wide]
theorem Q6m (k:Nat):(QY k).mem=none:=by
 unfold QY
 split
 ·rfl
 ·split
  ·rfl
  ·split<;>rfl
theorem Q6n (k:Nat) (w:World):Calls Tryz.prog 141 #[.int .i64 k] w fun e w'=>e = .returned (.agg (Qhv (QY k) (.slice none 0 0)))∧Below w.heap.size w w':=by
 have hb:∀ o,Below w.heap.size w (w.alloc o):=fun o=>(Below.refl _ _).alloc (Nat.le_refl _) _
 by_cases h0:k=0
 ·have e0:((k:Int) == 0)=true:=by simp [h0]
  have E:Hid (QY k=⟨-2147483648,2147483647,none,false⟩):=by show _=_;simp [QY,h0]
  clear h0
  go_enter Tryz.func141,Tryz.ntmps141
  go_wp2
  exact bodyPost_ret (v:=.agg #[.int .i64 (-2147483648),.int .i64 2147483647,.slice none 0 0,.bool false]) (by simp [results,Tryz.results141,go_sem]) rfl ⟨by rw [E.out],hb _⟩
 ·have e0:((k:Int) == 0)=false:=by simp;omega
  by_cases h1:k=1
  ·have e1:((k:Int) == 1)=true:=by simp [h1]
   have E:Hid (QY k=⟨0,4294967295,none,false⟩):=by show _=_;simp [QY,h1]
   clear h0 h1
   go_enter Tryz.func141,Tryz.ntmps141
   go_wp2
   exact bodyPost_ret (v:=.agg #[.int .i64 0,.int .i64 4294967295,.slice none 0 0,.bool false]) (by simp [results,Tryz.results141,go_sem]) rfl ⟨by rw [E.out],hb _⟩
  ·have e1:((k:Int) == 1)=false:=by simp;omega
   by_cases h4:k=4
   ·have e4:((k:Int) == 4)=true:=by simp [h4]
    have E:Hid (QY k=⟨0,1,none,false⟩):=by show _=_;simp [QY,h4]
    clear h0 h1 h4
    go_enter Tryz.func141,Tryz.ntmps141
    go_wp2
    exact bodyPost_ret (v:=.agg #[.int .i64 0,.int .i64 1,.slice none 0 0,.bool false]) (by simp [results,Tryz.results141,go_sem]) rfl ⟨by rw [E.out],hb _⟩
   ·have e4:((k:Int) == 4)=false:=by simp;omega
    have E:Hid (QY k=⟨-9223372036854775808,9223372036854775807,none,true⟩):=by show _=_;simp [QY,h0,h1,h4]
    clear h0 h1 h4
    go_enter Tryz.func141,Tryz.ntmps141
    go_wp2
    exact bodyPost_ret (v:=.agg #[.int .i64 (-9223372036854775808),.int .i64 9223372036854775807,.slice none 0 0,.bool true]) (by simp [results,Tryz.results141,go_sem]) rfl ⟨by rw [E.out],hb _⟩
theorem Qha (k:Nat×List UInt8):∀ u∈Q4n k,u.oneCell'=true:=by
 intro u hu
 simp at hu
 rcases hu with rfl | rfl<;>rfl
theorem Cp.kbox {w u u3:World} {a:CAd} {Fr bs:List (Nat×Obj)} {s:CSt} {sl ks:Value} {cv:List (Qo×Value)} {et:List (List UInt8×NumL×Value)} {ob:Obj} (h:Cp w a Fr bs s sl ks cv et u) (hg:(u.alloc ob).grownBy u3 ks.ownBlock) :
  u3.cell? ⟨a.C,3,none⟩=some ks∧(∀ i,u3.frozen? ⟨a.C,i,none⟩=false)∧a.C < u3.heap.size:=by
 have hlt:=Qc h.box
 have hb:u3.heap[a.C]? = some (.cells #[sl,.map (some a.B),.map (some a.E),ks] 123):=
  (hg.block _ (by simp;omega) (fun e=>(h.distinct.2.2.2.2 _ e.symm).1 rfl)).trans ((((Qa.refl [] u).alloc ob).block _ hlt (by simp)).trans h.box)
 refine ⟨?_,?_,Qc hb⟩<;>simp [World.cell?,World.frozen?,hb]
theorem Qhb {w u:World} {a:CAd} {Fr bs:List (Nat×Obj)} {s:CSt} {sl ks:Value} {cv:List (Qo×Value)} {et:List (List UInt8×NumL×Value)} (n:List UInt8) (h:Cp w a Fr bs s sl ks cv et u) (hs:s.code.length < 1000000) (hc:s.calls.length < 1000000) :
  Calls Tryz.prog 140 #[.pointer (some ⟨a.C,0,none⟩),.string ⟨n.toArray⟩] u fun e u'=>e = .returned (.tuple #[])∧Qy w a Fr bs (Q2G n s) u':=by
 obtain ⟨ad,cap,rfl⟩:=h.kslice
 obtain ⟨c0,c1,c2,c3,hfz,hlt⟩:=h.cells
 obtain ⟨i0,hi0,hz0,hz1,hz2⟩:=info_parts Qh9
 have hbd:Below u.heap.size u u.drew:=(Below.refl _ _).drew
 have HC:=Hid.mk (Q1v (v:=.iface 224 (.agg #[.int .i64 0])) (x:=.call 0) (h.below hbd) rfl hs)
 have hl1:s.calls.length + 1≤maxLen:=by unfold maxLen;omega
 have hl2:(s.calls.length + 1) * 24≤140737488355328:=by omega
 have hz3:(Value.agg #[.int .i64 0,.string ⟨#[]⟩]).cells.size=2:=by decide
 clear h hbd
 go_enter Tryz.func140,Tryz.ntmps140
 go_wp2_with fail
 refine QH (fun w'=>w'.cell? ⟨a.C,3,none⟩=some (.slice ad s.calls.length cap)) (L:=15) (by kernel_rfl) rfl (by kernel_rfl) (by kernel_rfl) ?_ (fun hHeld=>?_)
 ·go_keep
 refine tk (i:=0) (v:=?_) rfl (by kernel_rfl) (fun _ _ _ h=>h) (by rfl) (by assumption) ?_ ?_
 rotate_left
 ·intro w hSw;(try dsimp only at hSw);go_simp;(try with_reducible rfl)
 (try simp only [Qd,Qe,List.set])
 refine tk (i:=1) (v:=?_) rfl (by kernel_rfl) (fun _ _ _ h=>h) (by rfl) (by assumption) ?_ ?_
 rotate_left
 ·intro w hSw;(try dsimp only at hSw);go_simp;(try with_reducible rfl)
 (try simp only [Qd,Qe,List.set])
 refine tk (i:=2) (v:=?_) rfl (by kernel_rfl) (fun _ _ _ h=>h) (by rfl) (by assumption) ?_ ?_
 rotate_left
 ·intro w hSw;(try dsimp only at hSw);go_simp;(try with_reducible rfl)
 (try simp only [Qd,Qe,List.set])
 refine tk (i:=3) (v:=?_) rfl (by kernel_rfl) (fun _ _ _ h=>h) (by rfl) (by assumption) ?_ ?_
 rotate_left
 ·intro w hSw;(try dsimp only at hSw);go_simp;(try with_reducible rfl)
 (try simp only [Qd,Qe,List.set])
 refine tk (i:=4) (v:=?_) rfl (by kernel_rfl) (fun _ _ _ h=>h) (by rfl) (by assumption) ?_ ?_
 rotate_left
 ·intro w hSw;(try dsimp only at hSw);go_simp;(try with_reducible rfl)
 (try simp only [Qd,Qe,List.set])
 refine tk (i:=5) (v:=?_) rfl (by kernel_rfl) (fun _ _ _ h=>h) (by rfl) (by assumption) ?_ ?_
 rotate_left
 ·intro w hSw;(try dsimp only at hSw);go_simp;(try with_reducible rfl)
 (try simp only [Qd,Qe,List.set])
 refine tk (i:=6) (v:=?_) rfl (by kernel_rfl) (fun _ _ _ h=>h) (by rfl) (by assumption) ?_ ?_
 rotate_left
 ·intro w hSw;(try dsimp only at hSw);go_simp;(try with_reducible rfl)
 (try simp only [Qd,Qe,List.set])
 refine tk (i:=7) (v:=?_) rfl (by kernel_rfl) (fun _ _ _ h=>h) (by rfl) (by assumption) ?_ ?_
 rotate_left
 ·intro w hSw;(try dsimp only at hSw);go_simp;(try with_reducible rfl)
 (try simp only [Qd,Qe,List.set])
 refine tk (i:=9) (v:=?_) rfl (by kernel_rfl) (fun _ _ _ h=>h) (by rfl) (by assumption) ?_ ?_
 rotate_left
 ·intro w hSw;(try dsimp only at hSw);go_simp;(try with_reducible rfl)
 (try simp only [Qd,Qe,List.set])
 refine wpAnyH_ready (rs:=[8]) (by kernel_rfl) (by simp) ?_
 refine AllReadyH.cons rfl (fun K hK=>?_) AllReadyH.nil
 (go_simp;go_at_call 98;refine HC.out.mono ?_;rintro e w5 ⟨rfl,sl5,M5⟩;have M5:=Hid.mk M5;have hc5:w5.cell? ⟨a.C,3,none⟩=some (.slice ad s.calls.length cap):=M5.out.cells.2.2.2.1;have hwl:w.heap.size≤w5.heap.size:=M5.out.own.kp.size;have hlt5:a.C < w5.heap.size:=M5.out.cells.2.2.2.2.2)
 refine hK.out _ _ ?_ (fun hHeld=>?_)
 ·go_keep
 clear hK K
 (try simp only [Qd,Qe,List.set])
 refine tk (i:=10) (v:=?_) rfl (by kernel_rfl) (fun _ _ _ h=>h) (by rfl) (by assumption) ?_ ?_
 rotate_left
 ·intro w hSw;(try dsimp only at hSw);go_simp;(try with_reducible rfl)
 (try simp only [Qd,Qe,List.set])
 refine wpAnyH_ready (rs:=[11]) (by kernel_rfl) (by simp) ?_
 refine AllReadyH.cons rfl (fun K hK=>?_) AllReadyH.nil
 go_simp
 refine hK.out _ _ ?_ (fun hHeld=>?_)
 ·go_keep
 clear hK K
 (try simp only [Qd,Qe,List.set])
 refine wpAnyH_ready (rs:=[12]) (by kernel_rfl) (by simp) ?_
 refine AllReadyH.cons rfl (fun K hK=>?_) AllReadyH.nil
 (refine step_append_lies _ (by rfl) _ _ _ (by rfl) w.heap.size 222 i0 _ 2 24 Tryz.underlying121 hi0 hz0 hz1 hz2 hz3 (by omega) (.slice ad s.calls.length cap) s.calls.length (s.calls.flatMap Q4n) (by rfl) (Qx M5.out.kro ((Qa.refl [] w5).alloc _) (by simp)) ⟨w5.heap.size,0,none⟩ 1 1 (Q4n (s.code.length,n)) (by rfl) (by rfl) (World.news_of_block (cs:=(Q4n (s.code.length,n)).toArray) (t:=222) (fr:=(0,0)) (heap_alloc_new w5 _)) (Qha _) (by omega) hl1 hl2 (by simp;omega) (w5.heap.size + 1) (by simp) ?_;intro g cap' w6 hown6 hgrow hat hlt;obtain ⟨q0,q1,q2⟩:=M5.out.kbox hgrow)
 refine hK.out _ _ ?_ (fun hHeld=>?_)
 ·go_keep
 clear hK K
 (try simp only [Qd,Qe,List.set])
 refine tk (i:=13) (v:=?_) rfl (by kernel_rfl) (fun _ _ _ h=>h) (by rfl) (by assumption) ?_ ?_
 rotate_left
 ·intro w hSw;(try dsimp only at hSw);go_simp;(try with_reducible rfl)
 (try simp only [Qd,Qe,List.set])
 refine tk (i:=14) (v:=?_) rfl (by kernel_rfl) (fun _ _ _ h=>h) (by rfl) (by assumption) ?_ ?_
 rotate_left
 ·intro w hSw;(try dsimp only at hSw);go_simp;(try with_reducible rfl)
 (try simp only [Qd,Qe,List.set])
 refine wpAnyH_done (by kernel_rfl) ?_ _
 refine Q02 rfl (fun K hK=>?_)
 go_simp
 refine hK.out _ _ ?_
 clear hK K
 (try simp only [Qd,Qe,List.set])
 have M6:=Cp.putCall (k:=(s.code.length,n)) M5.out ((Below.refl w5.heap.size w5).alloc (Nat.le_refl _) _) hown6 hgrow (by simpa using hat) hlt
 go_wp2
 go_end0
 exact ⟨rfl,M6.gives⟩
theorem Q6o (bs:List (Nat×Obj)) {n:NumL} (h:n.mem=none):Q33 bs [.int .i64 n.low,.int .i64 n.high,.slice none 0 0,.bool n.wide] n:=⟨.slice none 0 0,rfl,by rw [h];rfl,_,_,_,rfl⟩
structure Room (s:CSt) (n:Nat):Prop where
 code:s.code.length + n < 1000000
 calls:s.calls.length≤s.code.length
theorem Room.put {s:CSt} {n:Nat} (h:Room s (n + 1)) (x:Qo):Room (putM x s) n:=⟨by simp [putM];have:=h.code;omega,by simp [putM];have:=h.calls;omega⟩
theorem Room.call {s:CSt} {n:Nat} (h:Room s (n + 1)) (t:List UInt8):Room (Q2G t s) n:=⟨by simp [Q2G];have:=h.code;omega,by simp [Q2G];have:=h.calls;omega⟩
theorem Room.less {s:CSt} {n m:Nat} (h:Room s n) (hm:m≤n):Room s m:=⟨by have:=h.code;omega,h.calls⟩
theorem Room.set {s:CSt} {n:Nat} (h:Room s n) (i:Nat) (x:Qo):Room (setM i x s) n:=⟨by simpa [setM] using h.code,by simpa [setM] using h.calls⟩
theorem Room.value (t:Ty):∀ {s:CSt} {n:Nat},Room s (n + Q0c t)→Room (QQ t s) n:=by
 induction t with
 | named t a=>intro s n h;exact h.call t
 | plain k=>intro s n h;exact h.put _
 | opaq k f=>intro s n h;exact h.put _
 | str k f=>intro s n h;exact h.put _
 | void=>intro s n h;exact h
 | arr o k f ih=>intro s n h;exact (Room.put (ih (Room.put (Room.less h (by simp only [Q0c];omega)) _)) _).set _ _
 | opt o ih=>intro s n h;exact (ih (Room.put (Room.less h (by simp only [Q0c];omega)) _)).set _ _
theorem Qdj {w u:World} {a:CAd} {Fr bs:List (Nat×Obj)} {s:CSt} {sl ks:Value} {cv:List (Qo×Value)} {et:List (List UInt8×NumL×Value)} (t:List UInt8) (p:Nat) (h:Cp w a Fr bs s sl ks cv et u) (hr:Room s 1) :
  Calls Tryz.prog 96 #[.pointer (some ⟨a.C,0,none⟩),.iface 213 (.agg #[.string ⟨t.toArray⟩,.int .i64 p])] u fun e u'=>e = .returned (.tuple #[])∧Qy w a Fr bs (Q2G t s) u':=by
 have t0:∀ W,(Instr.typeAssert (.iface 213 (.agg #[.string ⟨t.toArray⟩,.int .i64 p])) 193 213 true).run Tryz.prog W = .ok (.tuple #[.agg #[.string ⟨t.toArray⟩,.int .i64 p],.bool true]) W:=fun W=>by kernel_rfl
 have hr1:=hr.code
 have hr2:=hr.calls
 have hb:∀ o,Below u.heap.size u (u.alloc o):=fun o=>(Below.refl _ _).alloc (Nat.le_refl _) _
 have H:=Hid.mk h
 clear h
 go_enter Tryz.func96,Tryz.ntmps96
 go_wp2_with fail
 refine (Qhb t (H.out.below (hb _)) (by omega) (by omega)).mono ?_
 rintro e w2 ⟨rfl,M2⟩
 go_wp2
 go_end0
 exact ⟨rfl,M2⟩
theorem Qdk {w u:World} {a:CAd} {Fr bs:List (Nat×Obj)} {s:CSt} {sl ks:Value} {cv:List (Qo×Value)} {et:List (List UInt8×NumL×Value)} (k:Nat) (h:Cp w a Fr bs s sl ks cv et u) (hr:Room s 1) :
  Calls Tryz.prog 96 #[.pointer (some ⟨a.C,0,none⟩),.iface 301 (.agg #[.int .i64 k])] u fun e u'=>e = .returned (.tuple #[])∧Qy w a Fr bs (putM (.num (QY k)) s) u':=by
 have t0:∀ W,(Instr.typeAssert (.iface 301 (.agg #[.int .i64 k])) 193 213 true).run Tryz.prog W = .ok (.tuple #[.agg #[.string ⟨#[]⟩,.int .i64 0],.bool false]) W:=fun W=>by kernel_rfl
 have t1:∀ W,(Instr.typeAssert (.iface 301 (.agg #[.int .i64 k])) 193 301 true).run Tryz.prog W = .ok (.tuple #[.agg #[.int .i64 k],.bool true]) W:=fun W=>by kernel_rfl
 have hr1:=hr.code
 have hr2:=hr.calls
 have hb:∀ o,Below u.heap.size u (u.alloc o):=fun o=>(Below.refl _ _).alloc (Nat.le_refl _) _
 have H:=Hid.mk h
 clear h
 go_enter Tryz.func96,Tryz.ntmps96
 go_wp2_with fail
 refine (Q6n k _).mono ?_
 rintro e w2 ⟨rfl,hb2⟩
 have M2:=(H.out.below (hb _)).below hb2
 go_wp2_with fail
 refine (Q1v (v:=.iface 200 (.agg (Qhv (QY k) (.slice none 0 0)))) (x:=.num (QY k)) M2 ⟨[.int .i64 (QY k).low,.int .i64 (QY k).high,.slice none 0 0,.bool (QY k).wide],rfl,Q6o _ (Q6m k)⟩ (by omega)).mono ?_
 rintro e w3 ⟨rfl,sl3,M3⟩
 go_wp2
 go_end0
 exact ⟨rfl,M3.gives⟩
theorem QeV {w u:World} {a:CAd} {Fr bs:List (Nat×Obj)} {s:CSt} {sl ks:Value} {cv:List (Qo×Value)} {et:List (List UInt8×NumL×Value)} (n:Int) (f:Bool) (h:Cp w a Fr bs s sl ks cv et u) (hr:Room s 1) :
  Calls Tryz.prog 96 #[.pointer (some ⟨a.C,0,none⟩),.iface 306 (.agg #[.int .i64 n,.bool f])] u fun e u'=>e = .returned (.tuple #[])∧Qy w a Fr bs (putM (.text n f) s) u':=by
 have t0:∀ W,(Instr.typeAssert (.iface 306 (.agg #[.int .i64 n,.bool f])) 193 213 true).run Tryz.prog W = .ok (.tuple #[.agg #[.string ⟨#[]⟩,.int .i64 0],.bool false]) W:=fun W=>by kernel_rfl
 have t1:∀ W,(Instr.typeAssert (.iface 306 (.agg #[.int .i64 n,.bool f])) 193 301 true).run Tryz.prog W = .ok (.tuple #[.agg #[.int .i64 0],.bool false]) W:=fun W=>by kernel_rfl
 have t2:∀ W,(Instr.typeAssert (.iface 306 (.agg #[.int .i64 n,.bool f])) 193 306 true).run Tryz.prog W = .ok (.tuple #[.agg #[.int .i64 n,.bool f],.bool true]) W:=fun W=>by kernel_rfl
 have hr1:=hr.code
 have hr2:=hr.calls
 have hb:∀ o,Below u.heap.size u (u.alloc o):=fun o=>(Below.refl _ _).alloc (Nat.le_refl _) _
 have H:=Hid.mk h
 clear h
 go_enter Tryz.func96,Tryz.ntmps96
 go_wp2_with fail
 refine (Q1v (x:=.text n f) (H.out.below (hb _)) rfl (by omega)).mono ?_
 rintro e w3 ⟨rfl,sl3,M3⟩
 go_wp2
 go_end0
 exact ⟨rfl,M3.gives⟩
theorem Qga {w u:World} {a:CAd} {Fr bs:List (Nat×Obj)} {s:CSt} {sl ks:Value} {cv:List (Qo×Value)} {et:List (List UInt8×NumL×Value)} (n:Int) (f:Bool) (h:Cp w a Fr bs s sl ks cv et u) (hr:Room s 1) :
  Calls Tryz.prog 96 #[.pointer (some ⟨a.C,0,none⟩),.iface 309 (.agg #[.int .i64 n,.bool f])] u fun e u'=>e = .returned (.tuple #[])∧Qy w a Fr bs (putM (.text n f) s) u':=by
 have t0:∀ W,(Instr.typeAssert (.iface 309 (.agg #[.int .i64 n,.bool f])) 193 213 true).run Tryz.prog W = .ok (.tuple #[.agg #[.string ⟨#[]⟩,.int .i64 0],.bool false]) W:=fun W=>by kernel_rfl
 have t1:∀ W,(Instr.typeAssert (.iface 309 (.agg #[.int .i64 n,.bool f])) 193 301 true).run Tryz.prog W = .ok (.tuple #[.agg #[.int .i64 0],.bool false]) W:=fun W=>by kernel_rfl
 have t2:∀ W,(Instr.typeAssert (.iface 309 (.agg #[.int .i64 n,.bool f])) 193 306 true).run Tryz.prog W = .ok (.tuple #[.agg #[.int .i64 0,.bool false],.bool false]) W:=fun W=>by kernel_rfl
 have t3:∀ W,(Instr.typeAssert (.iface 309 (.agg #[.int .i64 n,.bool f])) 193 309 true).run Tryz.prog W = .ok (.tuple #[.agg #[.int .i64 n,.bool f],.bool true]) W:=fun W=>by kernel_rfl
 have hr1:=hr.code
 have hr2:=hr.calls
 have hb:∀ o,Below u.heap.size u (u.alloc o):=fun o=>(Below.refl _ _).alloc (Nat.le_refl _) _
 have H:=Hid.mk h
 clear h
 go_enter Tryz.func96,Tryz.ntmps96
 go_wp2_with fail
 refine (Q1v (x:=.text n f) (H.out.below (hb _)) rfl (by omega)).mono ?_
 rintro e w3 ⟨rfl,sl3,M3⟩
 go_wp2
 go_end0
 exact ⟨rfl,M3.gives⟩
theorem QeW {w u:World} {a:CAd} {Fr bs:List (Nat×Obj)} {s:CSt} {sl ks:Value} {cv:List (Qo×Value)} {et:List (List UInt8×NumL×Value)}  (h:Cp w a Fr bs s sl ks cv et u) (hr:Room s 1) :
  Calls Tryz.prog 96 #[.pointer (some ⟨a.C,0,none⟩),.iface 340 (.agg #[])] u fun e u'=>e = .returned (.tuple #[])∧Qy w a Fr bs (s) u':=by
 have t0:∀ W,(Instr.typeAssert (.iface 340 (.agg #[])) 193 213 true).run Tryz.prog W = .ok (.tuple #[.agg #[.string ⟨#[]⟩,.int .i64 0],.bool false]) W:=fun W=>by kernel_rfl
 have t1:∀ W,(Instr.typeAssert (.iface 340 (.agg #[])) 193 301 true).run Tryz.prog W = .ok (.tuple #[.agg #[.int .i64 0],.bool false]) W:=fun W=>by kernel_rfl
 have t2:∀ W,(Instr.typeAssert (.iface 340 (.agg #[])) 193 306 true).run Tryz.prog W = .ok (.tuple #[.agg #[.int .i64 0,.bool false],.bool false]) W:=fun W=>by kernel_rfl
 have t3:∀ W,(Instr.typeAssert (.iface 340 (.agg #[])) 193 309 true).run Tryz.prog W = .ok (.tuple #[.agg #[.int .i64 0,.bool false],.bool false]) W:=fun W=>by kernel_rfl
 have t4:∀ W,(Instr.typeAssert (.iface 340 (.agg #[])) 193 311 true).run Tryz.prog W = .ok (.tuple #[.agg #[.nilIface,.int .i64 0,.bool false],.bool false]) W:=fun W=>by kernel_rfl
 have t5:∀ W,(Instr.typeAssert (.iface 340 (.agg #[])) 193 314 true).run Tryz.prog W = .ok (.tuple #[.agg #[.nilIface],.bool false]) W:=fun W=>by kernel_rfl
 have hr1:=hr.code
 have hr2:=hr.calls
 have H:=Hid.mk h
 clear h
 go_enter Tryz.func96,Tryz.ntmps96
 go_wp2
 go_end0
 exact ⟨rfl,H.out.gives⟩
theorem Q38 {w u:World} {a:CAd} {Fr bs:List (Nat×Obj)} {s:CSt} {sl ks:Value} {cv:List (Qo×Value)} {et:List (List UInt8×NumL×Value)} {t:Ty} (hf:Flat t) (h:Cp w a Fr bs s sl ks cv et u) (hr:Room s 1) :
  Calls Tryz.prog 96 #[.pointer (some ⟨a.C,0,none⟩),tyV t] u fun e u'=>e = .returned (.tuple #[])∧Qy w a Fr bs (QQ t s) u':=by
 cases t with
 | named t p=>exact Qdj t p h hr
 | plain k=>exact Qdk k h hr
 | opaq n f=>exact QeV n f h hr
 | str n f=>exact Qga n f h hr
 | void=>exact QeW h hr
 | arr o n f=>exact absurd hf (by simp [Flat])
 | opt o=>exact absurd hf (by simp [Flat])
theorem Q5R (x:Qo) (s:CSt):(putM x s).code.length=s.code.length + 1:=by simp [putM]
theorem Qy.more {w u:World} {a:CAd} {Fr bs bs':List (Nat×Obj)} {s:CSt} (hb:∀ p∈bs,p∈bs') (h:Qy w a Fr bs' s u):Qy w a Fr bs s u:=by
 obtain ⟨b,sl,ks,cv,et,h1,h2⟩:=h
 exact ⟨b,sl,ks,cv,et,fun p hp=>h1 p (hb p hp),h2⟩
theorem Qy.tail {w u:World} {a:CAd} {p:Nat×Obj} {Fr bs:List (Nat×Obj)} {s:CSt} (h:Qy w a (p :: Fr) bs s u):Qy w a Fr bs s u:=by
 obtain ⟨b,sl,ks,cv,et,h1,h2⟩:=h
 exact ⟨b,sl,ks,cv,et,h1,h2.tail⟩
theorem Qgb {w u:World} {a:CAd} {Fr bs:List (Nat×Obj)} {s:CSt} {sl ks:Value} {cv:List (Qo×Value)} {et:List (List UInt8×NumL×Value)} {o:Ty} (n:Int) (f:Bool) (hf:Flat o) (h:Cp w a Fr bs s sl ks cv et u) (hr:Room s 3) :
  Calls Tryz.prog 142 #[.pointer (some ⟨a.C,0,none⟩),.agg #[tyV o,.int .i64 n,.bool f]] u fun e u'=>e = .returned (.tuple #[])∧Qy w a Fr bs (QQ (.arr o n f) s) u':=by
 have M0:=h.alloc (.cells #[tyV o,.int .i64 n,.bool f] 311)
 have hr0:=hr.code
 have hr1:Room (putM .hole s) 2:=hr.put _
 have hc:Q0c o≤1:=by cases o<;>simp [Flat,Q0c] at *
 have hvl:=Q1P o (putM .hole s)
 have hpl:(putM .hole s).code.length=s.code.length + 1:=by simp [putM]
 obtain ⟨T,x,hT⟩:=QG o
 have HT:=Hid.mk hT
 rw [hT] at M0 ⊢
 clear h
 go_enter Tryz.func142,Tryz.ntmps142
 go_wp2_with fail
 refine (Q1v (v:=.iface 345 (.agg #[.int .i64 0,.bool false,.int .i64 0])) (x:=.hole) M0 ⟨_,_,rfl⟩ (by omega)).mono ?_
 rintro e w1 ⟨rfl,sl1,M1⟩
 obtain ⟨b0,b1,b2,bf⟩:=Q0h (M1.own.hf _ List.mem_cons_self).1
 go_wp2_with fail
 have V:=Q38 hf M1 (hr1.less (by omega))
 rw [HT.out] at V
 refine V.mono ?_
 rintro e w2 ⟨rfl,bs2,sl2,ks2,cv2,et2,hb2,M2⟩
 clear V M1 b0 b1 b2 bf
 go_wp2_with fail
 refine (Q1v (v:=.iface 346 (.agg #[])) (x:=.again) M2 rfl (by rw [hvl,hpl];omega)).mono ?_
 rintro e w3 ⟨rfl,sl3,M3⟩
 clear M2
 obtain ⟨b0,b1,b2,bf⟩:=Q0h (M3.own.hf _ List.mem_cons_self).1
 have hlen:(putM .again (QQ o (putM .hole s))).code.length=s.code.length + Q0c o + 2:=by rw [Q5R,hvl,hpl];omega
 obtain ⟨c0,c1,c2,c3,hfz,hlt⟩:=M3.cells
 obtain ⟨g,cap,rfl,hcap,hfr,⟨y,hy⟩,hg,M4⟩:=Cp.setCode (i:=s.code.length) (x:=.array n f ((QQ o (putM .hole s)).code.length + 1)) (v:=.iface 345 (.agg #[.int .i64 n,.bool f,.int .i64 ((putM .again (QQ o (putM .hole s))).code.length:Int)])) (M3.below (Below.refl _ _).drew) (by simp [Q2y,putM]) (by rw [hlen];omega)
 have M4:=Hid.mk M4
 have HH:=Hid.mk (Q2l (M3.below (Below.refl _ _).drew))
 have hidx:(s.code.length:Int) < ((putM .again (QQ o (putM .hole s))).code.length:Int):=by rw [hlen];omega
 have HB2:=Hid.mk hb2
 clear M3 hb2 hlen hvl hpl
 generalize hL:(putM .again (QQ o (putM .hole s))).code.length=L at *
 clear hL
 go_wp2_with fail
 refine QH (fun w'=>w'.cell? ⟨a.C,0,none⟩=some (.slice (some ⟨g,0,none⟩) L cap)∧w'.cell? ⟨u.heap.size,1,none⟩=some (.int .i64 n)∧w'.cell? ⟨u.heap.size,2,none⟩=some (.bool f)) (L:=12) (by kernel_rfl) rfl (by kernel_rfl) (by kernel_rfl) ?_ (fun hHeld=>?_)
 ·go_keep
 refine tk (i:=0) (v:=?_) rfl (by kernel_rfl) (fun _ _ _ h=>h) (by rfl) (by assumption) ?_ ?_
 rotate_left
 ·intro w hSw;(try dsimp only at hSw);go_simp;(try with_reducible rfl)
 (try simp only [Qd,Qe,List.set])
 refine tk (i:=1) (v:=?_) rfl (by kernel_rfl) (fun _ _ _ h=>h) (by rfl) (by assumption) ?_ ?_
 rotate_left
 ·intro w hSw;(try dsimp only at hSw);go_simp;(try with_reducible rfl)
 (try simp only [Qd,Qe,List.set])
 refine tk (i:=2) (v:=?_) rfl (by kernel_rfl) (fun _ _ _ h=>h) (by rfl) (by assumption) ?_ ?_
 rotate_left
 ·intro w hSw;(try dsimp only at hSw);go_simp;(try with_reducible rfl)
 (try simp only [Qd,Qe,List.set])
 refine tk (i:=3) (v:=?_) rfl (by kernel_rfl) (fun _ _ _ h=>h) (by rfl) (by assumption) ?_ ?_
 rotate_left
 ·intro w hSw;(try dsimp only at hSw);go_simp;(try with_reducible rfl)
 (try simp only [Qd,Qe,List.set])
 refine tk (i:=4) (v:=?_) rfl (by kernel_rfl) (fun _ _ _ h=>h) (by rfl) (by assumption) ?_ ?_
 rotate_left
 ·intro w hSw;(try dsimp only at hSw);go_simp;(try with_reducible rfl)
 (try simp only [Qd,Qe,List.set])
 refine tk (i:=5) (v:=?_) rfl (by kernel_rfl) (fun _ _ _ h=>h) (by rfl) (by assumption) ?_ ?_
 rotate_left
 ·intro w hSw;(try dsimp only at hSw);go_simp;(try with_reducible rfl)
 (try simp only [Qd,Qe,List.set])
 refine tk (i:=6) (v:=?_) rfl (by kernel_rfl) (fun _ _ _ h=>h) (by rfl) (by assumption) ?_ ?_
 rotate_left
 ·intro w hSw;(try dsimp only at hSw);go_simp;(try with_reducible rfl)
 (try simp only [Qd,Qe,List.set])
 refine tk (i:=7) (v:=?_) rfl (by kernel_rfl) (fun _ _ _ h=>h) (by rfl) (by assumption) ?_ ?_
 rotate_left
 ·intro w hSw;(try dsimp only at hSw);go_simp;(try with_reducible rfl)
 (try simp only [Qd,Qe,List.set])
 refine wpAnyH_ready (rs:=[8]) (by kernel_rfl) (by simp) ?_
 refine AllReadyH.cons rfl (fun K hK=>?_) AllReadyH.nil
 (go_simp;go_at_call 95;refine HH.out.mono ?_;rintro e w5 ⟨rfl,rfl⟩)
 refine hK.out _ _ ?_ (fun hHeld=>?_)
 ·go_keep
 clear hK K
 (try simp only [Qd,Qe,List.set])
 refine tk (i:=9) (v:=?_) rfl (by kernel_rfl) (fun _ _ _ h=>h) (by rfl) (by assumption) ?_ ?_
 rotate_left
 ·intro w hSw;(try dsimp only at hSw);go_simp;(try with_reducible rfl)
 (try simp only [Qd,Qe,List.set])
 refine tk (i:=10) (v:=?_) rfl (by kernel_rfl) (fun _ _ _ h=>h) (by rfl) (by assumption) ?_ ?_
 rotate_left
 ·intro w hSw;(try dsimp only at hSw);go_simp;(try with_reducible rfl)
 (try simp only [Qd,Qe,List.set])
 refine tk (i:=11) (v:=?_) rfl (by kernel_rfl) (fun _ _ _ h=>h) (by rfl) (by assumption) ?_ ?_
 rotate_left
 ·intro w hSw;(try dsimp only at hSw);go_simp;(try with_reducible rfl)
 (try simp only [Qd,Qe,List.set])
 refine wpAnyH_done (by kernel_rfl) ?_ _
 refine Q02 rfl (fun K hK=>?_)
 go_simp
 refine hK.out _ _ ?_
 clear hK K
 (try simp only [Qd,Qe,List.set])
 go_wp2
 go_end0
 exact ⟨rfl,(Qy.more HB2.out M4.out.gives).tail⟩
theorem Q8F {W:World} {m:Nat} {l:List (Int×Nat×Nat)} (hb:W.heap[m]? = some (Q1X l)) (nd:(l.map (·.1)).Nodup) (k:Int) (p q:Nat) :
  (Instr.mapUpdate 318 (.map (some m)) (.int .i64 k) (.agg #[.int .i64 p,.int .i64 q])).run Tryz.prog W = .ok () (Q09 W m (Q1X (mput l k (p,q)))):=
 Q34 (P:=Tryz.prog) (T:=318) (kt:=2) (et:=323) (d:=.int .i64) (by kernel_rfl) (by kernel_rfl) (fun k:Int=>.int .i64 k) (fun q:Nat×Nat=>.agg #[.int .i64 q.1,.int .i64 q.2]) (fun _=>rfl) (fun _=>QfV _) QhQ hb nd k (p,q)
theorem Qc3 (w:World):Calls Tryz.prog 141 #[.int .i64 4] w fun e w'=>e = .returned (.agg #[.int .i64 0,.int .i64 1,.slice none 0 0,.bool false])∧Below w.heap.size w w':=Q6n 4 w
theorem Qhc (w:World) (o:Obj):w.heap.size < (w.alloc o).heap.size:=by simp
theorem Qc4 {w u:World} {a:CAd} {Fr bs:List (Nat×Obj)} {s:CSt} {sl ks:Value} {cv:List (Qo×Value)} {et:List (List UInt8×NumL×Value)} {o:Ty} (hf:Flat o) (h:Cp w a Fr bs s sl ks cv et u) (hr:Room s 2) :
  Calls Tryz.prog 143 #[.pointer (some ⟨a.C,0,none⟩),.agg #[tyV o]] u fun e u'=>e = .returned (.tuple #[])∧Qy w a Fr bs (QQ (.opt o) s) u':=by
 have hmm:∀ (t:TypeId) (w:World),(Instr.makeMap t none).run Tryz.prog w = .ok (.map (some w.heap.size)) (w.alloc (.map #[] 0)):=fun _ _=>rfl
 have M0:=h.alloc (.cells #[tyV o] 314)
 have hr0:=hr.code
 have hr1:Room (putM .hole s) 1:=hr.put _
 have hc:Q0c o≤1:=by cases o<;>simp [Flat,Q0c] at *
 have hvl:=Q1P o (putM .hole s)
 have hpl:(putM .hole s).code.length=s.code.length + 1:=by simp [putM]
 obtain ⟨T,x,hT⟩:=QG o
 have HT:=Hid.mk hT
 rw [hT] at M0 ⊢
 clear h
 go_enter Tryz.func143,Tryz.ntmps143
 go_wp2_with fail
 refine (Q1v (v:=.iface 321 (.agg #[.int .i64 0,.int .i64 0,.slice none 0 0,.bool false,.map none,.pointer none])) (x:=.hole) M0 ⟨_,_,rfl⟩ (by omega)).mono ?_
 rintro e w1 ⟨rfl,sl1,M1⟩
 have b0:=QD (M1.own.hf _ List.mem_cons_self).1
 go_wp2_with fail
 have V:=Q38 hf M1 (hr1.less (by omega))
 rw [HT.out] at V
 refine V.mono ?_
 rintro e w2 ⟨rfl,bs2,sl2,ks2,cv2,et2,hb2,M2⟩
 clear V M1 b0
 have hlen:(QQ o (putM .hole s)).code.length=s.code.length + 1 + Q0c o:=by rw [hvl,hpl]
 have N0:=M2.alloc (.map #[] 0)
 have p1:=Q8F (W:=w2.alloc (.map #[] 0)) (m:=w2.heap.size) (l:=[]) (Qi rfl) (by simp) 0 (QQ o (putM .hole s)).code.length 0
 obtain ⟨W1,hW1⟩:∃ W1,W1=Q09 (w2.alloc (.map #[] 0)) w2.heap.size (Q1X (mput [] 0 ((QQ o (putM .hole s)).code.length,0))):=⟨_,rfl⟩
 have k1:Qa [w2.heap.size] (w2.alloc (.map #[] 0)) W1:=by rw [hW1];exact Q0a _ _ _
 have q1:W1.heap[w2.heap.size]? = some (Q1X [(0,(QQ o (putM .hole s)).code.length,0)]):=by rw [hW1];exact Q1t (Qhc _ _) _
 have N1:=N0.setFr k1 q1
 rw [← hW1,show (((0:Nat)):Int)=0 from rfl] at p1
 have p2:=Q8F (W:=W1) (m:=w2.heap.size) q1 (by simp) 1 (s.code.length + 1) 1
 obtain ⟨W2,hW2⟩:∃ W2,W2=Q09 W1 w2.heap.size (Q1X (mput [(0,(QQ o (putM .hole s)).code.length,0)] 1 (s.code.length + 1,1))):=⟨_,rfl⟩
 have k2:Qa [w2.heap.size] W1 W2:=by rw [hW2];exact Q0a _ _ _
 have q2:W2.heap[w2.heap.size]? = some (Q1X [(0,(QQ o (putM .hole s)).code.length,0),(1,s.code.length + 1,1)]):=by rw [hW2];exact Q1t (Qc q1) _
 have N2:=(N1.setFr k2 q2).give
 rw [← hW2,show (((1:Nat)):Int)=1 from rfl] at p2
 rw [show (((s.code.length + 1:Nat)):Int)=(s.code.length:Int) + 1 by omega] at p2
 have HH:=Hid.mk (Q2l N0)
 obtain ⟨c0,c1,c2,c3,hfz,hlt⟩:=N2.cells
 obtain ⟨ad,cap,rfl⟩:=N2.slice
 have hidx:(s.code.length:Int) < ((QQ o (putM .hole s)).code.length:Int):=by rw [hlen];omega
 have hidn:s.code.length < (QQ o (putM .hole s)).code.length:=by omega
 have N2:=Hid.mk N2
 have HB2:=Hid.mk hb2
 have hs63:s.code.length < 1000000:=by omega
 clear N0 N1 M2 hb2 q1 q2 k1 k2 hW1 hW2 hlen hvl hpl
 generalize hL:(QQ o (putM .hole s)).code.length=L at *
 go_wp2_with fail
 refine HH.out.mono ?_
 rintro e w5 ⟨rfl,rfl⟩
 go_wp2_with fail
 refine QH (fun w'=>w'.cell? ⟨a.C,0,none⟩=some (.slice ad L cap)) (L:=10) (by kernel_rfl) rfl (by kernel_rfl) (by kernel_rfl) ?_ (fun hHeld=>?_)
 ·go_keep
 refine tk (i:=0) (v:=?_) rfl (by kernel_rfl) (fun _ _ _ h=>h) (by rfl) (by assumption) ?_ ?_
 rotate_left
 ·intro w hSw;(try dsimp only at hSw);go_simp;(try with_reducible rfl)
 (try simp only [Qd,Qe,List.set])
 refine tk (i:=1) (v:=?_) rfl (by kernel_rfl) (fun _ _ _ h=>h) (by rfl) (by assumption) ?_ ?_
 rotate_left
 ·intro w hSw;(try dsimp only at hSw);go_simp;(try with_reducible rfl)
 (try simp only [Qd,Qe,List.set])
 refine tk (i:=2) (v:=?_) rfl (by kernel_rfl) (fun _ _ _ h=>h) (by rfl) (by assumption) ?_ ?_
 rotate_left
 ·intro w hSw;(try dsimp only at hSw);go_simp;(try with_reducible rfl)
 (try simp only [Qd,Qe,List.set])
 refine tk (i:=3) (v:=?_) rfl (by kernel_rfl) (fun _ _ _ h=>h) (by rfl) (by assumption) ?_ ?_
 rotate_left
 ·intro w hSw;(try dsimp only at hSw);go_simp;(try with_reducible rfl)
 (try simp only [Qd,Qe,List.set])
 refine tk (i:=4) (v:=?_) rfl (by kernel_rfl) (fun _ _ _ h=>h) (by rfl) (by assumption) ?_ ?_
 rotate_left
 ·intro w hSw;(try dsimp only at hSw);go_simp;(try with_reducible rfl)
 (try simp only [Qd,Qe,List.set])
 refine tk (i:=6) (v:=?_) rfl (by kernel_rfl) (fun _ _ _ h=>h) (by rfl) (by assumption) ?_ ?_
 rotate_left
 ·intro w hSw;(try dsimp only at hSw);go_simp;(try with_reducible rfl)
 (try simp only [Qd,Qe,List.set])
 refine wpAnyH_ready (rs:=[5]) (by kernel_rfl) (by simp) ?_
 refine AllReadyH.cons rfl (fun K hK=>?_) AllReadyH.nil
 (go_simp;go_at_call 141;refine (Qc3 _).mono ?_;rintro e w6 ⟨rfl,hb6⟩;have N3:=(N2.out.below (Below.refl _ _).drew).below hb6;have hc6:=N3.cells.1;obtain ⟨g,cap',hsl,hcap,hfr,⟨y,hy⟩,hg,N4⟩:=Cp.setCode (i:=s.code.length) (x:=.choice (QY 4) [(0,L,0),(1,s.code.length + 1,1)] none) (v:=.iface 321 (.agg #[.int .i64 0,.int .i64 1,.slice none 0 0,.bool false,.map (some w2.heap.size),.pointer none])) N3 ⟨[.int .i64 0,.int .i64 1,.slice none 0 0,.bool false],w2.heap.size,.pointer none,rfl,Q6o (n:=QY 4) _ (Q6m 4),by simp,rfl⟩ (by rw [hL];exact hidn);have N4:=Hid.mk N4;clear N3;cases hsl)
 refine hK.out _ _ ?_ (fun hHeld=>?_)
 ·go_keep
 clear hK K
 (try simp only [Qd,Qe,List.set])
 refine tk (i:=7) (v:=?_) rfl (by kernel_rfl) (fun _ _ _ h=>h) (by rfl) (by assumption) ?_ ?_
 rotate_left
 ·intro w hSw;(try dsimp only at hSw);go_simp;(try with_reducible rfl)
 (try simp only [Qd,Qe,List.set])
 refine tk (i:=8) (v:=?_) rfl (by kernel_rfl) (fun _ _ _ h=>h) (by rfl) (by assumption) ?_ ?_
 rotate_left
 ·intro w hSw;(try dsimp only at hSw);go_simp;(try with_reducible rfl)
 (try simp only [Qd,Qe,List.set])
 refine tk (i:=9) (v:=?_) rfl (by kernel_rfl) (fun _ _ _ h=>h) (by rfl) (by assumption) ?_ ?_
 rotate_left
 ·intro w hSw;(try dsimp only at hSw);go_simp;(try with_reducible rfl)
 (try simp only [Qd,Qe,List.set])
 refine wpAnyH_done (by kernel_rfl) ?_ _
 refine Q02 rfl (fun K hK=>?_)
 go_simp
 refine hK.out _ _ ?_
 clear hK K
 (try simp only [Qd,Qe,List.set])
 go_wp2
 go_end0
 exact ⟨rfl,(Qy.more (fun p hp=>List.mem_cons_of_mem _ (HB2.out p hp)) N4.out.gives).tail⟩
theorem Qgc {w u:World} {a:CAd} {Fr bs:List (Nat×Obj)} {s:CSt} {sl ks:Value} {cv:List (Qo×Value)} {et:List (List UInt8×NumL×Value)} {o:Ty} (n:Int) (f:Bool) (hf:Flat o) (h:Cp w a Fr bs s sl ks cv et u) (hr:Room s 3) :
  Calls Tryz.prog 96 #[.pointer (some ⟨a.C,0,none⟩),.iface 311 (.agg #[tyV o,.int .i64 n,.bool f])] u fun e u'=>e = .returned (.tuple #[])∧Qy w a Fr bs (QQ (.arr o n f) s) u':=by
 obtain ⟨T,x,hT⟩:=QG o
 have HT:=Hid.mk hT
 rw [hT]
 have t0:∀ W,(Instr.typeAssert (.iface 311 (.agg #[.iface T x,.int .i64 n,.bool f])) 193 213 true).run Tryz.prog W = .ok (.tuple #[.agg #[.string ⟨#[]⟩,.int .i64 0],.bool false]) W:=fun W=>by kernel_rfl
 have t1:∀ W,(Instr.typeAssert (.iface 311 (.agg #[.iface T x,.int .i64 n,.bool f])) 193 301 true).run Tryz.prog W = .ok (.tuple #[.agg #[.int .i64 0],.bool false]) W:=fun W=>by kernel_rfl
 have t2:∀ W,(Instr.typeAssert (.iface 311 (.agg #[.iface T x,.int .i64 n,.bool f])) 193 306 true).run Tryz.prog W = .ok (.tuple #[.agg #[.int .i64 0,.bool false],.bool false]) W:=fun W=>by kernel_rfl
 have t3:∀ W,(Instr.typeAssert (.iface 311 (.agg #[.iface T x,.int .i64 n,.bool f])) 193 309 true).run Tryz.prog W = .ok (.tuple #[.agg #[.int .i64 0,.bool false],.bool false]) W:=fun W=>by kernel_rfl
 have t4:∀ W,(Instr.typeAssert (.iface 311 (.agg #[.iface T x,.int .i64 n,.bool f])) 193 311 true).run Tryz.prog W = .ok (.tuple #[.agg #[.iface T x,.int .i64 n,.bool f],.bool true]) W:=fun W=>by kernel_rfl
 have hb:∀ o,Below u.heap.size u (u.alloc o):=fun o=>(Below.refl _ _).alloc (Nat.le_refl _) _
 have V:=fun ob=>Qgb n f hf (h.below (hb ob)) hr
 rw [HT.out] at V
 have V:=Hid.mk V
 clear h hT
 go_enter Tryz.func96,Tryz.ntmps96
 go_wp2_with fail
 refine (V.out _).mono ?_
 rintro e w2 ⟨rfl,M2⟩
 go_wp2
 go_end0
 exact ⟨rfl,M2⟩
theorem Qgd {w u:World} {a:CAd} {Fr bs:List (Nat×Obj)} {s:CSt} {sl ks:Value} {cv:List (Qo×Value)} {et:List (List UInt8×NumL×Value)} {o:Ty} (hf:Flat o) (h:Cp w a Fr bs s sl ks cv et u) (hr:Room s 2) :
  Calls Tryz.prog 96 #[.pointer (some ⟨a.C,0,none⟩),.iface 314 (.agg #[tyV o])] u fun e u'=>e = .returned (.tuple #[])∧Qy w a Fr bs (QQ (.opt o) s) u':=by
 obtain ⟨T,x,hT⟩:=QG o
 have HT:=Hid.mk hT
 rw [hT]
 have t0:∀ W,(Instr.typeAssert (.iface 314 (.agg #[.iface T x])) 193 213 true).run Tryz.prog W = .ok (.tuple #[.agg #[.string ⟨#[]⟩,.int .i64 0],.bool false]) W:=fun W=>by kernel_rfl
 have t1:∀ W,(Instr.typeAssert (.iface 314 (.agg #[.iface T x])) 193 301 true).run Tryz.prog W = .ok (.tuple #[.agg #[.int .i64 0],.bool false]) W:=fun W=>by kernel_rfl
 have t2:∀ W,(Instr.typeAssert (.iface 314 (.agg #[.iface T x])) 193 306 true).run Tryz.prog W = .ok (.tuple #[.agg #[.int .i64 0,.bool false],.bool false]) W:=fun W=>by kernel_rfl
 have t3:∀ W,(Instr.typeAssert (.iface 314 (.agg #[.iface T x])) 193 309 true).run Tryz.prog W = .ok (.tuple #[.agg #[.int .i64 0,.bool false],.bool false]) W:=fun W=>by kernel_rfl
 have t4:∀ W,(Instr.typeAssert (.iface 314 (.agg #[.iface T x])) 193 311 true).run Tryz.prog W = .ok (.tuple #[.agg #[.nilIface,.int .i64 0,.bool false],.bool false]) W:=fun W=>by kernel_rfl
 have t5:∀ W,(Instr.typeAssert (.iface 314 (.agg #[.iface T x])) 193 314 true).run Tryz.prog W = .ok (.tuple #[.agg #[.iface T x],.bool true]) W:=fun W=>by kernel_rfl
 have hb:∀ o,Below u.heap.size u (u.alloc o):=fun o=>(Below.refl _ _).alloc (Nat.le_refl _) _
 have V:=fun ob=>Qc4 hf (h.below (hb ob)) hr
 rw [HT.out] at V
 have V:=Hid.mk V
 clear h hT
 go_enter Tryz.func96,Tryz.ntmps96
 go_wp2_with fail
 refine (V.out _).mono ?_
 rintro e w2 ⟨rfl,M2⟩
 go_wp2
 go_end0
 exact ⟨rfl,M2⟩
theorem Q5k {w u:World} {a:CAd} {Fr bs:List (Nat×Obj)} {s:CSt} {sl ks:Value} {cv:List (Qo×Value)} {et:List (List UInt8×NumL×Value)} {t:Ty} (hf:Q13 t) (h:Cp w a Fr bs s sl ks cv et u) (hr:Room s 3) :
  Calls Tryz.prog 96 #[.pointer (some ⟨a.C,0,none⟩),tyV t] u fun e u'=>e = .returned (.tuple #[])∧Qy w a Fr bs (QQ t s) u':=by
 cases t with
 | arr o n f=>exact Qgc n f hf h hr
 | opt o=>exact Qgd hf h (hr.less (by omega))
 | named t p=>exact Q38 (t:=.named t p) trivial h (hr.less (by omega))
 | plain k=>exact Q38 (t:=.plain k) trivial h (hr.less (by omega))
 | opaq n f=>exact Q38 (t:=.opaq n f) trivial h (hr.less (by omega))
 | str n f=>exact Q38 (t:=.str n f) trivial h (hr.less (by omega))
 | void=>exact Q38 (t:=.void) trivial h (hr.less (by omega))
theorem Q6R {w u:World} {a:CAd} {Fr bs:List (Nat×Obj)} {s:CSt} {sl ks:Value} {cv:List (Qo×Value)} {et:List (List UInt8×NumL×Value)} {t:Ty} (hf:Q13 t) (h:Cp w a Fr bs s sl ks cv et u) (hr:Room s 4) :
  Calls Tryz.prog 101 #[.pointer (some ⟨a.C,0,none⟩),tyV t] u fun e u'=>e = .returned (.int .i64 s.code.length)∧Qy w a Fr bs (startT t s) u':=by
 have hl:(QQ t s).code.length < 1000000:=by
  have h1:=Q1P t s
  have h2:=Q4E hf
  have h3:=hr.code
  omega
 have V:=Hid.mk (Q5k hf h (hr.less (by omega)))
 obtain ⟨T,x,hT⟩:=QG t
 rw [hT] at V ⊢
 go_enter Tryz.func101,Tryz.ntmps101
 go_wp2_with fail
 refine (Q2l h).mono ?_
 rintro e w1 ⟨rfl,rfl⟩
 go_wp2_with fail
 refine V.out.mono ?_
 rintro e w2 ⟨rfl,bs2,sl2,ks2,cv2,et2,hb2,M2⟩
 go_wp2_with fail
 refine (Q1v (v:=.iface 326 (.agg #[])) (x:=.fin) M2 rfl hl).mono ?_
 rintro e w3 ⟨rfl,sl3,M3⟩
 go_wp2
 go_ret
 exact ⟨rfl,bs2,_,_,_,_,hb2,M3⟩
theorem Qy.heap {w u:World} {a:CAd} {Fr bs:List (Nat×Obj)} {s:CSt} (h:Qy w a Fr bs s u) {b:Nat} {o:Obj} (hb:w.heap[b]? = some o):u.heap[b]? = some o:=by
 obtain ⟨_,_,_,_,_,_,m⟩:=h
 exact (m.own.kp.block _ (Qc hb) (by simp)).trans hb
theorem Cp.heap {w u:World} {a:CAd} {Fr bs:List (Nat×Obj)} {s:CSt} {sl ks:Value} {cv:List (Qo×Value)} {et:List (List UInt8×NumL×Value)} (h:Cp w a Fr bs s sl ks cv et u) {b:Nat} {o:Obj} (hb:w.heap[b]? = some o):u.heap[b]? = some o:=h.gives.heap hb
theorem Q8G (ts:List Ty):∀ {s:CSt} {n:Nat},(∀ t∈ts,Q13 t)→Room s (n + 3 * ts.length)→Room (ts.foldl (fun s t=>QQ t s) s) n:=by
 induction ts with
 | nil=>intro s n _ h;exact h
 | cons t ts ih=>
  intro s n hty h
  have hc:=Q4E (hty t (by simp))
  exact ih (fun t ht=>hty t (List.mem_cons_of_mem _ ht)) (Room.value t (h.less (by simp only [List.length_cons];omega)))
theorem Qdl {w u:World} {a:CAd} {Fr bs:List (Nat×Obj)} {s:CSt} {sl ks:Value} {cv:List (Qo×Value)} {et:List (List UInt8×NumL×Value)} {bs0:List (Nat×Obj)} {b at':Nat} {t:List UInt8} {ms:List Qk} (hd:Q0d bs0 b (.struct t at' ms)) (hw:∀ p∈bs0,w.heap[p.1]? = some p.2) (hty:∀ m∈ms,Q13 m.ty) (h:Cp w a Fr bs s sl ks cv et u) (hr:Room s (4 + 3 * ms.length)) :
  Calls Tryz.prog 99 #[.pointer (some ⟨a.C,0,none⟩),.pointer (some ⟨b,0,none⟩)] u fun e u'=>e = .returned (.tuple #[])∧Qy w a Fr bs (Q27 ms s) u':=by
 obtain ⟨msl,hb,hsl⟩:=hd
 have hbox:=hw _ hb
 obtain ⟨k0,k1,k2,_⟩:=Q0h (h.heap hbox)
 have HB:=Hid.mk (fun (v:World) (g:Qy w a Fr bs (putM (.struct ms.length true) s) v)=>Q0h (g.heap hbox))
 have hr0:=hr.code
 have hr1:Room (putM (.struct ms.length true) s) (3 + 3 * ms.length):=Room.put (hr.less (by omega)) _
 have HRM:=Hid.mk hr1
 have HTY:=Hid.mk hty
 have H:=Hid.mk h
 clear h hty hr1 hr
 rcases hsl with ⟨rfl,h0,_⟩ | ⟨g,cap,cur,rfl,⟨hcap,hms⟩,hg,htake⟩
 ·have hnil:ms=[]:=List.length_eq_zero_iff.1 h0
  subst hnil
  go_enter Tryz.func99,Tryz.ntmps99
  go_wp2_with fail
  refine (Q1v (x:=.struct 0 true) H.out rfl (by omega)).mono ?_
  rintro e w1 ⟨rfl,sl1,M1⟩
  obtain ⟨q0,q1,q2,_⟩:=HB.out _ M1.gives
  have G1:=Hid.mk M1.gives
  clear M1
  go_wp2
  go_loopw [21] (fun i ur=>i = .int .i64 0∧ur=w1) (fun _ _=>0)
  case atStart=>exact ⟨rfl,rfl⟩
  case round=>
   obtain ⟨rfl,rfl⟩:=hrel
   go_wp2
   go_end0
   exact ⟨rfl,G1.out⟩
 ·have hgw:=hw _ hg
  have hrow:∀ (v:World) (s':CSt),Qy w a Fr bs s' v→∀ i (hi:i < ms.length),v.cell? ⟨g,i * 3,none⟩=some (.string ⟨ms[i].t.toArray⟩)∧v.cell? ⟨g,i * 3 + 1,none⟩=some (.int .i64 ms[i].at')∧v.cell? ⟨g,i * 3 + 2,none⟩=some (tyV ms[i].ty):=by
   intro v s' gv i hi
   have hgb:=gv.heap hgw
   have hf:=Q1q (c:=Q0C) (n:=3) (fun _=>rfl) ms i
   refine ⟨Qn hgb htake ?_,Qn hgb htake ?_,Qn hgb htake ?_⟩
   ·have:=hf 0 hi (by omega);simpa using this
   ·have:=hf 1 hi (by omega);simpa using this
   ·have:=hf 2 hi (by omega);simpa using this
  have HR:=Hid.mk hrow
  clear hrow
  go_enter Tryz.func99,Tryz.ntmps99
  go_wp2_with fail
  refine (Q1v (x:=.struct ms.length true) H.out rfl (by omega)).mono ?_
  rintro e w1 ⟨rfl,sl1,M1⟩
  obtain ⟨q0,q1,q2,_⟩:=HB.out _ M1.gives
  have G1:=Hid.mk M1.gives
  clear M1
  go_wp2
  go_loopw [21] (fun i ur=>∃ (k:Nat),i = .int .i64 k∧k≤ms.length∧Hid (Qy w a Fr bs ((ms.take k).foldl (fun s m=>QQ m.ty s) (putM (.struct ms.length true) s)) ur)) (fun i _=>ms.length - (intOf i).toNat)
  case atStart=>exact ⟨0,rfl,by omega,G1⟩
  case round=>
   obtain ⟨k,rfl,hk,G⟩:=hrel
   clear G1
   rcases Nat.lt_or_ge k ms.length with hlt | hge
   ·obtain ⟨p0,p1,p2⟩:=HR.out _ _ G.out k hlt
    obtain ⟨T1,v1,h1⟩:=QG ms[k].ty
    have HT:=Hid.mk h1
    rw [h1] at p2
    have hi0:(0:Int)≤↑k:=by omega
    have hi1:(↑k:Int) < ↑ms.length:=by omega
    obtain ⟨bs2,sl2,ks2,cv2,et2,hb2,M2⟩:=G.out
    have hrm:Room ((ms.take k).foldl (fun s m=>QQ m.ty s) (putM (.struct ms.length true) s)) 3:=by
     have e:=Q8G ((ms.take k).map (·.ty)) (s:=putM (.struct ms.length true) s) (n:=3) (by intro t ht;obtain ⟨m,hm,rfl⟩:=List.mem_map.1 ht;exact HTY.out m (List.mem_of_mem_take hm)) (HRM.out.less (by simp;omega))
     rw [List.foldl_map] at e
     exact e
    have V:=fun ob=>Q5k (HTY.out ms[k] (List.getElem_mem hlt)) (M2.below ((Below.refl wr.heap.size wr).alloc (Nat.le_refl _) ob)) hrm
    rw [HT.out] at V
    have V:=Hid.mk V
    have HB2:=Hid.mk hb2
    clear M2 hb2 h1 hrm
    go_wp2_with fail
    refine (V.out _).mono ?_
    rintro e w2 ⟨rfl,M3⟩
    have G3:Hid (Qy w a Fr bs ((ms.take (k + 1)).foldl (fun s m=>QQ m.ty s) (putM (.struct ms.length true) s)) w2):=by
     rw [List.take_succ_eq_append_getElem hlt,List.foldl_append]
     exact Qy.more HB2.out M3
    clear M3
    go_wp2
    exact ⟨⟨k + 1,by go_num,by omega,G3⟩,by simp [intOf];omega⟩
   ·have hkk:k=ms.length:=by omega
    subst hkk
    go_wp2
    go_end0
    refine ⟨rfl,?_⟩
    have:=G.out
    rw [List.take_length] at this
    exact this
abbrev numA (lo hi:Int) (a:Option Addr) (b c:Nat) (wd:Bool):List Value:=[.int .i64 lo,.int .i64 hi,.slice a b c,.bool wd]
theorem Q33.parts {bs:List (Nat×Obj)} {cs:List Value} {n:NumL} (h:Q33 bs cs n):∃ lo hi a b c wd,cs=numA lo hi a b c wd:=by
 obtain ⟨m,h1,_,x,y,z,rfl⟩:=h
 exact ⟨_,_,_,_,_,_,h1⟩
theorem QeX {w u:World} {a:CAd} {Fr bs:List (Nat×Obj)} {s:CSt} {sl ks:Value} {cv:List (Qo×Value)} {et:List (List UInt8×NumL×Value)} {t:Ty} (ht:Q0R t) (h:Cp w a Fr bs s sl ks cv et u) :
  Calls Tryz.prog 144 #[.pointer (some ⟨a.C,0,none⟩),tyV t] u fun e u'=>∃ lo hi x y z wd,e = .returned (.agg (numA lo hi x y z wd).toArray)∧Q33 bs (numA lo hi x y z wd) (Q0x s t)∧Below u.heap.size u u':=by
 have hb1:∀ o,Below u.heap.size u (u.alloc o):=fun o=>(Below.refl _ _).alloc (Nat.le_refl _) _
 have hb2:∀ o o',Below u.heap.size u ((u.alloc o).alloc o'):=fun o o'=>(hb1 o).alloc (by simp) _
 cases t with
 | named n p=>
  have t0:∀ W,(Instr.typeAssert (.iface 213 (.agg #[.string ⟨n.toArray⟩,.int .i64 p])) 193 213 true).run Tryz.prog W = .ok (.tuple #[.agg #[.string ⟨n.toArray⟩,.int .i64 p],.bool true]) W:=fun W=>by kernel_rfl
  have hM:=(h.below (hb2 (.cells #[.int .i64 0,.int .i64 0,.slice none 0 0,.bool false] 200) (.cells #[.string ⟨n.toArray⟩,.int .i64 p] 213))).below (Below.refl _ _).drew
  obtain ⟨v,hlk,cs,rfl,hN⟩:=hM.lookEnum n
  obtain ⟨lo,hi,x,y,z,wd,rfl⟩:=hN.parts
  obtain ⟨c0,c1,c2,c3,hfz,hlt⟩:=h.cells
  have HN:=Hid.mk hN
  clear h hM hN
  dsimp only [tyV]
  go_enter Tryz.func144,Tryz.ntmps144
  go_wp2
  go_region
  go_wp2
  refine bodyPost_ret (v:=.agg #[.int .i64 lo,.int .i64 hi,.slice x y z,.bool wd]) (by simp [results,Tryz.results144,go_sem]) rfl ⟨lo,hi,x,y,z,wd,rfl,HN.out,?_⟩
  exact (hb2 _ _).drew
 | plain k=>
  have t0:∀ W,(Instr.typeAssert (.iface 301 (.agg #[.int .i64 k])) 193 213 true).run Tryz.prog W = .ok (.tuple #[.agg #[.string ⟨#[]⟩,.int .i64 0],.bool false]) W:=fun W=>by kernel_rfl
  have t1:∀ W,(Instr.typeAssert (.iface 301 (.agg #[.int .i64 k])) 193 301 true).run Tryz.prog W = .ok (.tuple #[.agg #[.int .i64 k],.bool true]) W:=fun W=>by kernel_rfl
  clear h
  dsimp only [tyV]
  go_enter Tryz.func144,Tryz.ntmps144
  go_wp2_with fail
  refine (Q6n k _).mono ?_
  rintro e w2 ⟨rfl,hbw⟩
  have hR:w2.heap[u.heap.size]? = some (.cells #[.int .i64 0,.int .i64 0,.slice none 0 0,.bool false] 200):=
   (hbw.block _ (by simp;omega)).trans ((Below.heap_alloc _ _ _ (by simp)).trans (Qi rfl))
  obtain ⟨r0,r1,r2,r3,hfr⟩:=Q0Y hR
  have hlt:=Qc hR
  obtain ⟨q0,q1,q2,q3,_⟩:=Q0Y (Q9A (k':=.int .i64 (QY k).low) (t':=.int .i64 (QY k).high) (n':=.slice none 0 0) (a':=.bool (QY k).wide) hR)
  have HF:=Hid.mk (((((hb2 _ _).trans (hbw.mono (by simp;omega))).setCell (p:=⟨u.heap.size,0,none⟩) (Nat.le_refl _) (.int .i64 (QY k).low)).setCell (p:=⟨u.heap.size,1,none⟩) (Nat.le_refl _) (.int .i64 (QY k).high)).setCell (p:=⟨u.heap.size,2,none⟩) (Nat.le_refl _) (.slice none 0 0) |>.setCell (p:=⟨u.heap.size,3,none⟩) (Nat.le_refl _) (.bool (QY k).wide))
  clear hbw hR hb1 hb2
  go_wp2
  exact bodyPost_ret (v:=.agg #[.int .i64 (QY k).low,.int .i64 (QY k).high,.slice none 0 0,.bool (QY k).wide]) (by simp [results,Tryz.results144,go_sem,q0,q1,q2,q3]) rfl ⟨(QY k).low,(QY k).high,none,0,0,(QY k).wide,rfl,Q6o _ (Q6m k),HF.out⟩
 | _=>simp [Q0R] at ht
theorem QiC {w u:World} {a:CAd} {Fr bs:List (Nat×Obj)} {s:CSt} {sl ks:Value} {cv:List (Qo×Value)} {et:List (List UInt8×NumL×Value)} {d:Qk} {ca:Option Addr} {cn cc:Nat} (hty:Q13 d.ty) (h:Cp w a Fr bs s sl ks cv et u) (hr:Room s 3) :
  Calls Tryz.prog 145 #[.pointer (some ⟨a.C,0,none⟩),.agg #[.slice ca cn cc,.string ⟨d.t.toArray⟩,.int .i64 d.at',tyV d.ty]] u fun e u'=>e = .returned (.agg #[.int .i64 (wayM d s).1,.int .i64 (wayM d s).2])∧Qy w a Fr bs (armM d s) u':=by
 have M0:=(h.alloc (.cells #[.slice ca cn cc,.string ⟨d.t.toArray⟩,.int .i64 d.at',tyV d.ty] 292)).alloc (.cells #[.int .i64 0,.int .i64 0] 323)
 have HH:=Hid.mk (Q2l M0)
 have M1:=M0.alloc (.cells #[.int .i64 s.code.length,.int .i64 1] 323)
 cases hv:Q3s d.ty with
 | true=>
  have hvoid:d.ty = .void:=by cases hd:d.ty<;>rw [hd] at hv<;>simp [Q3s] at hv
  have hta:∀ W,(Instr.typeAssert (.iface 340 (.agg #[])) 193 340 true).run Tryz.prog W = .ok (.tuple #[.agg #[],.bool true]) W:=fun W=>by kernel_rfl
  have E1:Hid (wayM d s=(s.code.length,0)):=by show _=_;simp [wayM,hvoid,Q3s]
  have E2:Hid (armM d s=s):=by show _=_;simp [armM,hvoid,QQ]
  rw [hvoid] at M0 M1 HH ⊢
  dsimp only [tyV] at M0 M1 HH ⊢
  have H:=Hid.mk h
  clear h M0 M1 hvoid hv hty
  go_enter Tryz.func145,Tryz.ntmps145
  go_wp2_with fail
  refine HH.out.mono ?_
  rintro e w2 ⟨rfl,rfl⟩
  go_wp2
  refine bodyPost_ret (v:=.agg #[.int .i64 s.code.length,.int .i64 0]) (by simp [results,Tryz.results145,go_sem]) rfl ⟨by rw [E1.out];rfl,?_⟩
  rw [E2.out]
  exact ((((H.out.alloc _).alloc _).alloc _).tail.tail.tail).gives
 | false=>
  have hta:∀ W,(Instr.typeAssert (tyV d.ty) 193 340 true).run Tryz.prog W = .ok (.tuple #[.agg #[],.bool false]) W:=by
   intro W
   cases hd:d.ty with
   | void=>rw [hd] at hv;simp [Q3s] at hv
   | _=>kernel_rfl
  have E1:Hid (wayM d s=(s.code.length,1)):=by show _=_;simp [wayM,hv]
  obtain ⟨T,x,hT⟩:=QG d.ty
  have V:=Q5k hty M1 hr
  rw [hT] at M0 M1 HH hta V ⊢
  have V:=Hid.mk V
  clear h M0 M1 hv hty hT
  go_enter Tryz.func145,Tryz.ntmps145
  go_wp2_with fail
  refine HH.out.mono ?_
  rintro e w2 ⟨rfl,rfl⟩
  go_wp2_with fail
  refine V.out.mono ?_
  rintro e w3 ⟨rfl,bs3,sl3,ks3,cv3,et3,hb3,M3⟩
  have o5:=(M3.own.hf _ List.mem_cons_self).1
  have oR:=(M3.own.hf _ (List.mem_cons_of_mem _ List.mem_cons_self)).1
  have M4:=M3.tail
  simp only [World.size_alloc,Nat.add_assoc] at o5 oR M4
  clear M3
  have c5:w3.cell? ⟨u.heap.size + 2,0,none⟩=some (.int .i64 s.code.length)∧w3.cell? ⟨u.heap.size + 2,1,none⟩=some (.int .i64 1):=by constructor<;>simp [World.cell?,o5]
  have cR:w3.cell? ⟨u.heap.size + 1,0,none⟩=some (.int .i64 0)∧w3.cell? ⟨u.heap.size + 1,1,none⟩=some (.int .i64 0)∧∀ i,w3.frozen? ⟨u.heap.size + 1,i,none⟩=false:=by refine ⟨?_,?_,?_⟩<;>simp [World.cell?,World.frozen?,oR]
  obtain ⟨c50,c51⟩:=c5
  obtain ⟨cR0,cR1,cRf⟩:=cR
  have oR1:=QB (i:=1) (QB (i:=0) oR (.int .i64 s.code.length)) (.int .i64 1)
  have cQ:((w3.setCell ⟨u.heap.size + 1,0,none⟩ (.int .i64 s.code.length)).setCell ⟨u.heap.size + 1,1,none⟩ (.int .i64 1)).cell? ⟨u.heap.size + 1,0,none⟩=some (.int .i64 s.code.length)∧((w3.setCell ⟨u.heap.size + 1,0,none⟩ (.int .i64 s.code.length)).setCell ⟨u.heap.size + 1,1,none⟩ (.int .i64 1)).cell? ⟨u.heap.size + 1,1,none⟩=some (.int .i64 1):=by constructor<;>simp [World.cell?,oR1]
  obtain ⟨cQ0,cQ1⟩:=cQ
  have M5:=M4.setFr (((Qa.refl [u.heap.size + 1] w3).setIn (p:=⟨u.heap.size + 1,0,none⟩) (by simp) (.int .i64 s.code.length)).setIn (p:=⟨u.heap.size + 1,1,none⟩) (by simp) (.int .i64 1)) oR1
  have M5:=Hid.mk M5
  have hltR:=Qc oR
  have HB:=Hid.mk hb3
  clear M4 o5 oR oR1 hb3
  go_wp2
  refine bodyPost_ret (v:=.agg #[.int .i64 s.code.length,.int .i64 1]) (by simp [results,Tryz.results145,go_sem,cQ0,cQ1]) rfl ⟨by rw [E1.out];rfl,?_⟩
  exact Qy.more HB.out M5.out.tail.tail.gives
end Go.Proofs.YtmbcibgknckenaaGreatDoor
