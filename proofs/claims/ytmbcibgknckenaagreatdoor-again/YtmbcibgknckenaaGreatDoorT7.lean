import Derived.Test.YtmbcibgknckenaaGreatDoorT6
set_option linter.all false
set_option maxRecDepth 100000
set_option maxHeartbeats 4000000
namespace Go.Proofs.YtmbcibgknckenaaGreatDoor
open Go.RowKit
open Go.MapKept
def OfN (k:List UInt8) {τ:Type} (m:PX τ Qk):Prop:=∀ t σ d t' σ',m t σ = .ok (d,t',σ')→d.t=k∧Kn σ.names σ'.names
def Q5L {τ:Type} (m:PX τ Qk):Prop:=∀ t σ d t' σ',m t σ = .ok (d,t',σ')→(look σ'.names d.t).isSome
theorem Le.kn {σ σ':St} (h:Le σ σ'):Kn σ.names σ'.names:=h.2.2.2.2.2
theorem Q6y {τ:Type} (d:Qk):OfN d.t (retx (τ:=τ) d):=by
 intro t σ d' t' σ' h
 simp only [retx] at h
 cases h
 exact ⟨rfl,Kn.refl _⟩
theorem Q5M {τ α:Type} {k:List UInt8} {m:PX τ α} {f:α→PX τ Qk} (hm:QO m) (hf:∀ a,OfN k (f a)):OfN k (bndx m f):=by
 intro t σ d t' σ' h
 cases hx:m t σ with
 | error e=>rw [Ql hx] at h;cases h
 | ok p=>
  obtain ⟨a,t1,σ1⟩:=p
  rw [Qh hx] at h
  obtain ⟨h1,h2⟩:=hf a _ _ _ _ _ h
  exact ⟨h1,(hm _ _ _ _ _ hx).kn.trans h2⟩
theorem QdL {τ:Type} {k:List UInt8} {c:Bool} {a b:PX τ Qk} (ha:OfN k a) (hb:OfN k b):OfN k (if c then a else b):=by cases c<;>assumption
theorem Q5f {τ α:Type} {m:PX τ α} {f:α→PX τ Qk} (hf:∀ a,Q5L (f a)):Q5L (bndx m f):=by
 intro t σ d t' σ' h
 cases hx:m t σ with
 | error e=>rw [Ql hx] at h;cases h
 | ok p=>obtain ⟨a,t1,σ1⟩:=p;rw [Qh hx] at h;exact hf a _ _ _ _ _ h
theorem Q7w {τ:Type} {c:Bool} {a b:PX τ Qk} (ha:Q5L a) (hb:Q5L b):Q5L (if c then a else b):=by cases c<;>assumption
theorem QbQ {x:Mar.Word} {σ σ':St} {u:Unit} (h:Q18 x σ = .ok (u,σ')):(look σ'.names x.text).isSome:=by
 unfold Q18 at h
 split at h<;>cases h
 rename_i hl
 dsimp only
 rw [Q8t,hl]
 simp
theorem Q9e {A:Ad} {text:ByteArray} {u u':Unit} {σ σ':St} {n:List UInt8×Nat} (h:name text (Q0U A) u σ = .ok (n,u',σ')):(look σ'.names n.1).isSome:=by
 unfold name at h
 cases hx:next text σ with
 | error e=>rw [Ql (Qv hx)] at h;cases h
 | ok p=>
  obtain ⟨x,σ1⟩:=p
  rw [Qh (Qj hx)] at h
  cases hk:((x.kind:Int) == 1) with
  | false=>rw [hk] at h;simp only [Bool.false_eq_true,if_false,thrx] at h;cases h
  | true=>
   rw [hk] at h
   simp only [if_true] at h
   cases hd:Q18 x σ1 with
   | error e=>rw [Ql (show (Q0U A).run x u σ1 = .error e from Qv hd)] at h;cases h
   | ok p=>
    obtain ⟨v,σ2⟩:=p
    rw [Qh (show (Q0U A).run x u σ1 = .ok (v,u,σ2) from Qj hd)] at h
    simp only [retx] at h
    cases h
    exact QbQ hd
theorem Q5g {A:Ad} {text:ByteArray} {f:List UInt8×Nat→PX Unit Qk} (hf:∀ n,OfN n.1 (f n)):Q5L (bndx (name text (Q0U A)) f):=by
 intro t σ d t' σ' h
 cases hx:name text (Q0U A) t σ with
 | error e=>rw [Ql hx] at h;cases h
 | ok p=>
  obtain ⟨n,t1,σ1⟩:=p
  rw [Qh hx] at h
  obtain ⟨h1,h2⟩:=hf n _ _ _ _ _ h
  rw [h1]
  exact h2.1 _ (Q9e hx)
theorem Qa8 {τ:Type} (text:ByteArray) (n:List UInt8×Nat) (ty:Ty):OfN n.1 (Q4L (τ:=τ) text n ty):=by
 unfold Q4L
 exact Q5M (QI (Q5b _)) fun _=>Q6y ⟨n.1,n.2,_⟩
theorem Qey {τ:Type} (text:ByteArray) (ty:Ty) (n:List UInt8×Nat):OfN n.1 (Q3L (τ:=τ) text ty n):=by
 unfold Q3L
 refine Q5M (QI (Q3p _ _)) fun y=>?_
 unfold Q4X
 refine QdL (Qa8 _ _ _) (Q5M (QI (Q3p _ _)) fun z=>?_)
 unfold Q4W
 exact QdL (Qa8 _ _ _) (Q6y ⟨n.1,n.2,ty⟩)
theorem Qez (A:Ad) (text:ByteArray):Q5L (decl text (Q0U A)):=by
 unfold decl
 refine Q5f fun y=>?_
 unfold Q3m
 refine Q7w (Q5g fun n=>Q5M (QI (Q5b _)) fun _=>Q6y ⟨n.1,n.2,_⟩) (Q5f fun y=>?_)
 unfold Q3M
 refine Q7w (Q5g fun n=>Q5M (QI (Q7p _)) fun _=>Q6y ⟨n.1,n.2,_⟩) (Q5f fun ty=>?_)
 unfold Q4c
 refine Q5f fun y=>?_
 unfold Q4M
 exact Q7w (Q5g fun n=>Q6y ⟨n.1,n.2,_⟩) (Q5g fun n=>Qey _ _ _)
theorem QaJ {text:ByteArray} {σ σ':St} {d:Qk} (h:Q4w text σ = .ok (d,σ')):(look σ'.names d.t).isSome:=by
 unfold Q4w bare at h
 cases hx:decl text (Q0U noAd) () σ with
 | error e=>rw [hx] at h;cases h
 | ok p=>obtain ⟨a,t1,σ1⟩:=p;rw [hx] at h;cases h;exact Qez _ _ _ _ _ _ _ hx
theorem QaK {text:ByteArray} {σ σ':St} {n:List UInt8×Nat} (h:Q1j text σ = .ok (n,σ')):(look σ'.names n.1).isSome:=by
 unfold Q1j bare at h
 cases hx:name text (Q0U noAd) () σ with
 | error e=>rw [hx] at h;cases h
 | ok p=>obtain ⟨a,t1,σ1⟩:=p;rw [hx] at h;cases h;exact Q9e hx
def Q68 {α:Type} (m:PM α):Prop:=∀ σ a σ',m σ = .ok (a,σ')→Kn σ.names σ'.names
theorem Mono.k {α:Type} {m:PM α} (h:Mono m):Q68 m:=fun σ a σ' hx=>(h σ a σ' hx).kn
def TOf (n:List UInt8×Nat) (m:PM DefL):Prop:=∀ σ d σ',m σ = .ok (d,σ')→Qw d=n∧Kn σ.names σ'.names
def Q4P (m:PM DefL):Prop:=∀ σ d σ',m σ = .ok (d,σ')→(look σ'.names (Qw d).1).isSome∧Kn σ.names σ'.names
theorem Q5t {n:List UInt8×Nat} {d:DefL} (h:Qw d=n):TOf n (ret d):=by
 intro σ d' σ' hx
 simp only [ret] at hx
 cases hx
 exact ⟨h,Kn.refl _⟩
theorem Q0W {α:Type} {n:List UInt8×Nat} {m:PM α} {f:α→PM DefL} (hm:Q68 m) (hf:∀ a,TOf n (f a)):TOf n (bnd m f):=by
 intro σ d σ' h
 cases hx:m σ with
 | error e=>rw [Qq hx] at h;cases h
 | ok p=>
  obtain ⟨a,σ1⟩:=p
  rw [Qg hx] at h
  obtain ⟨h1,h2⟩:=hf a _ _ _ h
  exact ⟨h1,(hm _ _ _ hx).trans h2⟩
theorem QhK {n:List UInt8×Nat} {c:Bool} {a b:PM DefL} (ha:TOf n a) (hb:TOf n b):TOf n (if c then a else b):=by cases c<;>assumption
theorem Q3q {α:Type} {m:PM α} {f:α→PM DefL} (hm:Q68 m) (hf:∀ a,Q4P (f a)):Q4P (bnd m f):=by
 intro σ d σ' h
 cases hx:m σ with
 | error e=>rw [Qq hx] at h;cases h
 | ok p=>
  obtain ⟨a,σ1⟩:=p
  rw [Qg hx] at h
  obtain ⟨h1,h2⟩:=hf a _ _ _ h
  exact ⟨h1,(hm _ _ _ hx).trans h2⟩
theorem Q4j {text:ByteArray} {f:List UInt8×Nat→PM DefL} (hf:∀ n,TOf n (f n)):Q4P (bnd (Q1j text) f):=by
 intro σ d σ' h
 cases hx:Q1j text σ with
 | error e=>rw [Qq hx] at h;cases h
 | ok p=>
  obtain ⟨n,σ1⟩:=p
  rw [Qg hx] at h
  obtain ⟨h1,h2⟩:=hf n _ _ _ h
  exact ⟨by rw [h1];exact h2.1 _ (QaK hx),(Q2h _ _ _ _ hx).kn.trans h2⟩
theorem Q9O (text:ByteArray) (k:Nat):Q4P (constant text k):=by
 unfold constant
 refine Q3q (Q76 _).k fun _=>Q4j fun n=>?_
 exact Q0W (QA _ _).k fun _=>Q0W (Q4e _ _).k fun _=>Q0W (QA _ _).k fun _=>Q5t rfl
theorem QaL (text:ByteArray) (k:Nat):Q4P (typedef text k):=by
 unfold typedef
 refine Q3q (Q4d _).k fun _=>?_
 intro σ d σ' h
 cases hx:Q4w text σ with
 | error e=>rw [Qq hx] at h;cases h
 | ok p=>
  obtain ⟨c,σ1⟩:=p
  rw [Qg hx] at h
  obtain ⟨h1,h2⟩:=Q0W (n:=(c.t,c.at')) (QA _ _).k (fun _=>Q5t rfl) _ _ _ h
  exact ⟨by rw [h1];exact h2.1 _ (QaJ hx),(Q7s _ _ _ _ hx).kn.trans h2⟩
theorem Qd6 (text:ByteArray) (n:List UInt8×Nat):∀ (k:Nat) (ms:List (List UInt8×Nat×Int)) (l:List (Int×Int)),TOf n (Q0N text n k ms l):=by
 intro k
 induction k with
 | zero=>intro ms l σ d σ' h;simp only [Q0N,thr] at h;cases h
 | succ k ih=>
  intro ms l σ d σ' h
  cases hm:Q1R text ms.length l σ with
  | error f=>rw [Q3O hm] at h;cases h
  | ok p=>
   obtain ⟨m,l',σ1⟩:=p
   rw [Q3H hm] at h
   obtain ⟨h1,h2⟩:=Q0W (n:=n) (Q0V _ _).k (fun y=>QhK (ih _ _) (show TOf n (Q3G text n (ms++[m])) from Q0W (QA _ _).k fun _=>Q0W (QA _ _).k fun _=>Q5t rfl)) _ _ _ h
   exact ⟨h1,(Q8g _ _ _ _ _ _ _ hm).kn.trans h2⟩
theorem Q88 (text:ByteArray) (k:Nat):Q4P (enumeration text k):=by
 unfold enumeration
 exact Q3q (Q4d _).k fun _=>Q4j fun n=>Q0W (QA _ _).k fun _=>Qd6 _ _ _ _ _
theorem Q9f (text:ByteArray) (k:Nat):Q4P (Q1o text k):=by
 unfold Q1o
 exact Q3q (Q4d _).k fun _=>Q4j fun n=>Q0W (Q50 (Q5d _ _ _ (Q5F _ _)) _).k fun _=>Q0W (QA _ _).k fun _=>Q5t rfl
theorem Qd7 (text:ByteArray) (k:Nat):Q4P (Q0n text k):=by
 unfold Q0n
 refine Q3q (Q4d _).k fun _=>Q4j fun n=>?_
 unfold Q4z
 refine Q0W (QA _ _).k fun _=>Q0W (QA _ _).k fun _=>Q0W (Q78 _).k fun q=>?_
 unfold Q4y
 refine Q0W (Q63 (Q5c _ _ _) _).k fun m=>?_
 unfold Q5s
 refine Q0W (QA _ _).k fun _=>Q0W (QA _ _).k fun _=>Q0W (Q63 (Q94 _ _ _ _) _).k fun r=>?_
 unfold Q2r Q3o
 exact Q0W (QA _ _).k fun _=>Q0W (QA _ _).k fun _=>Q5t rfl
theorem QaM (text:ByteArray) (p:Int→Bool):Q68 (Q2s text p):=by
 intro σ a σ' h
 cases hx:number text p σ.progs σ with
 | error e=>rw [Q4N hx] at h;cases h
 | ok q=>
  obtain ⟨m,l',σ1⟩:=q
  rw [Q6K hx] at h
  cases h
  exact (Q3R _ _ _ _ _ _ _ hx).kn
theorem Q7x {α β:Type} {m:PM α} {f:α→PM β} (hm:Q68 m) (hf:∀ a,Q68 (f a)):Q68 (bnd m f):=by
 intro σ b σ' h
 cases hx:m σ with
 | error e=>rw [Qq hx] at h;cases h
 | ok p=>obtain ⟨a,σ1⟩:=p;rw [Qg hx] at h;exact (hm _ _ _ hx).trans (hf a _ _ _ h)
theorem QaN (text:ByteArray):Q68 (Q2J text):=by
 unfold Q2J
 exact Q7x (QA _ _).k fun _=>Q7x (QaM _ _) fun _=>Q7x (QA _ _).k fun _=>(Q1p _).k
theorem QaO (text:ByteArray) (k:Nat):Q4P (Q1C text k):=by
 unfold Q1C
 refine Q3q ?_ fun _=>Q4j fun n=>?_
 ·intro σ a σ' h
  exact (Q6L _ _ _ _ _ _ h).kn
 ·unfold Q4A
  exact Q0W (Q50 (Q7t _) _).k fun _=>Q0W (QaN _) fun _=>Q5t rfl
theorem Q5N (text:ByteArray):Q4P (definition text):=by
 unfold definition
 refine Q3q (Q2N _).k fun x=>?_
 intro σ d σ' h
 unfold defK at h
 split at h
 ·exact Q9O _ _ _ _ _ h
 split at h
 ·exact QaL _ _ _ _ _ h
 split at h
 ·exact Q88 _ _ _ _ _ h
 split at h
 ·exact Q9f _ _ _ _ _ h
 split at h
 ·exact Qd7 _ _ _ _ _ h
 split at h
 ·exact QaO _ _ _ _ _ h
 ·simp only [thr] at h;cases h
theorem QbR (text:ByteArray) (w:World):Calls Tryz.prog 48 #[.string text] w fun e w'=>e = .returned (.pointer (some ⟨w.heap.size,0,none⟩))∧w'=w.alloc (.cells #[.string text,.int .i64 0,.int .i64 0,.string ⟨#[]⟩,.int .i64 0,.int .i64 0,.bool false] 175):=by
 go_enter Tryz.func48,Tryz.ntmps48
 go_wp2
 go_ret
 exact ⟨rfl,rfl⟩
def st0:St:=⟨0,none,0,0,[],[]⟩
def laid (text:ByteArray) (w:World):World:=
 (((w.alloc (.cells #[.string text,.int .i64 0,.int .i64 0,.string ⟨#[]⟩,.int .i64 0,.int .i64 0,.bool false] 175)).alloc (.map #[] 0)).alloc (.map #[] 0)).alloc
  (.cells #[.pointer (some ⟨w.heap.size,0,none⟩),.map (some (w.heap.size + 1)),.int .i64 0,.int .i64 0,.map (some (w.heap.size + 2))] 107)
def ad0 (w:World):Ad:=⟨w.heap.size + 3,w.heap.size,w.heap.size + 1,w.heap.size + 2,[w.heap.size + 3,w.heap.size,w.heap.size + 1,w.heap.size + 2]⟩
theorem QhL (text:ByteArray) {w:World} (hg:Gl w) (hs:text.size≤4000000000):Rd (ad0 w) text st0 (laid text w)∧Qa [] w (laid text w)∧(laid text w).heap.size=w.heap.size + 4:=by
 have s1:(w.alloc (.cells #[.string text,.int .i64 0,.int .i64 0,.string ⟨#[]⟩,.int .i64 0,.int .i64 0,.bool false] 175)).heap.size=w.heap.size + 1:=by simp
 have s2:((w.alloc (.cells #[.string text,.int .i64 0,.int .i64 0,.string ⟨#[]⟩,.int .i64 0,.int .i64 0,.bool false] 175)).alloc (.map #[] 0)).heap.size=w.heap.size + 2:=by simp
 have s3:(((w.alloc (.cells #[.string text,.int .i64 0,.int .i64 0,.string ⟨#[]⟩,.int .i64 0,.int .i64 0,.bool false] 175)).alloc (.map #[] 0)).alloc (.map #[] 0)).heap.size=w.heap.size + 3:=by simp
 have s4:(laid text w).heap.size=w.heap.size + 4:=by unfold laid;simp
 have hk:Qa [] w (laid text w):=((((Qa.refl [] w).alloc _).alloc _).alloc _).alloc _
 have bS:(laid text w).heap[w.heap.size]? = some (.cells #[.string text,.int .i64 0,.int .i64 0,.string ⟨#[]⟩,.int .i64 0,.int .i64 0,.bool false] 175):=
  ((((Qa.refl [] _).alloc _).alloc _).alloc _).block _ (by rw [s1];omega) (by simp) |>.trans (Qi rfl)
 have bN:(laid text w).heap[w.heap.size + 1]? = some (.map #[] 0):=(((Qa.refl [] _).alloc _).alloc _).block _ (by rw [s2];omega) (by simp) |>.trans (Qi s1.symm)
 have bP:(laid text w).heap[w.heap.size + 2]? = some (.map #[] 0):=((Qa.refl [] _).alloc _).block _ (by rw [s3];omega) (by simp) |>.trans (Qi s2.symm)
 have bR:(laid text w).heap[w.heap.size + 3]? = some (.cells #[.pointer (some ⟨w.heap.size,0,none⟩),.map (some (w.heap.size + 1)),.int .i64 0,.int .i64 0,.map (some (w.heap.size + 2))] 107):=Qi s3.symm
 refine ⟨⟨bR,⟨Nat.zero_le _,_,_,_,_,bS⟩,⟨by simp [st0],[],[],(by intro p hp;cases hp),rfl,bN,(by intro i h;cases h)⟩,?_,?_,bP,by simp [ad0],hg.keeps hk (by simp) (by simp) (by simp),hs,by simp [st0]⟩,hk,s4⟩
 ·simp [ad0]
 ·intro x hx
  simp [ad0] at hx
  rw [s4]
  omega
theorem QhM:(Tryz.prog.info? 113).map (fun i=>(i.zero,i.size,i.bytes))=some (some .nilIface,1,16):=by kernel_rfl
def QfL (d:DefL):PM Unit:=fun σ=>.ok ((),{ σ with names:=Q0b σ.names (Qw d).1 d })
def Q0L (text:ByteArray):Nat→List DefL→PM (List DefL)
 | 0,_=>thr 0 0
 | k + 1,ds=>bnd (peek text) fun x=>if ((x.kind:Int) == 0) then ret ds else bnd (definition text) fun d=>bnd (QfL d) fun _=>Q0L text k (ds++[d])
def Q11 (text:ByteArray):Except Mar.Fault (List DefL):=
 if 1200 < text.size then .error ⟨1,0⟩ else match Q0L text 69 [] st0 with
 | .error f=>.error f
 | .ok (ds,σ)=>match Q2u σ ds with
  | .error f=>.error f
  | .ok _=>match Q1J σ ds with
   | .error f=>.error f
   | .ok _=>.ok ds
structure Q26 (A:Ad) (text:ByteArray) (w:World) (ds:List DefL) (ps:List Nat) (bs:List (Nat×Obj)) (Y:List Nat) (sl:Value) (σ:St) (u:World):Prop where
 kp:Qa [A.R,A.S,A.N,A.P] w u
 rd:Rd (A.plus Y) text σ u
 new:∀ y∈Y,w.heap.size≤y
 own:∀ g,sl.ownBlock=some g→g∈Y
 row:u.ownsRow w.heap.size 113 1 sl ds.length (Q1E ds ps)
 len:ps.length=ds.length
 held:Held (A.plus Y).X bs u
 each:∀ i (h:i < ds.length) (h':i < ps.length),Q0d bs ps[i] ds[i]
section
variable {A : Ad} {text : ByteArray} {w u u' : World} {ds : List DefL} {ps : List Nat} {bs : List (Nat × Obj)} {Y : List Nat} {sl : Value} {σ σ' σ0 : St}
theorem Q26.slice (m:Q26 A text w ds ps bs Y sl σ u):∃ ad cap,sl = .slice ad ds.length cap:=by
 rcases m.row.2 with ⟨rfl,h⟩ | ⟨g,cap,cur,rfl,_⟩
 ·exact ⟨none,0,by rw [h]⟩
 ·exact ⟨_,_,rfl⟩
theorem Q26.turn {M:List Nat} (h0:Rd A text σ0 w) (m:Q26 A text w ds ps bs Y sl σ u) (hk:Qa M u u') (hM:∀ x∈M,x∈[A.R,A.S,A.N,A.P]) (hr:Rd (A.plus Y) text σ' u'):Q26 A text w ds ps bs Y sl σ' u':=by
 obtain ⟨l1,l2,l3,l4⟩:=h0.lt
 have hX:∀ x∈M,x∈(A.plus Y).X:=by
  intro x hx
  have hx:=hM x hx
  simp at hx
  rcases hx with rfl | rfl | rfl | rfl
  ·exact hr.mine.1
  ·exact hr.mine.2.1
  ·exact hr.mine.2.2.1
  ·exact hr.mine.2.2.2
 refine ⟨m.kp.trans (hk.mono hM),hr,m.new,m.own,Qx m.row hk ?_,m.len,m.held.keeps hk hX,m.each⟩
 intro g hg hx
 have hx:=hM _ hx
 have:=m.new _ (m.own g hg)
 simp at hx
 omega
theorem Q26.below (h0:Rd A text σ0 w) (m:Q26 A text w ds ps bs Y sl σ u) (hb:Below u.heap.size u u'):Q26 A text w ds ps bs Y sl σ u':=m.turn h0 (Qa.of_below [] hb) (by simp) (m.rd.below hb)
theorem Q26.rowAt (m:Q26 A text w ds ps bs Y sl σ u) (o:Obj):(u.alloc o).ownsRow w.heap.size 113 1 sl ds.length (Q1E ds ps):=Qx m.row ((Qa.refl [] u).alloc o) (by simp)
theorem Q26.step {u2 u3:World} {g cap b:Nat} {d:DefL} {bs':List (Nat×Obj)} (h0:Rd A text σ0 w) (e:Q26 A text w ds ps bs Y sl σ u) (hd:Q0d bs' b d) (hh:Held (A.plus Y).X bs' u) (hb:Below u.heap.size u u2)
  (hown:u3.ownsRow w.heap.size 113 1 (.slice (some ⟨g,0,none⟩) (ds.length + 1) cap) (ds.length + 1) (Q1E ds ps++[.iface (defT d) (.pointer (some ⟨b,0,none⟩))]))
  (hg:u2.grownBy u3 sl.ownBlock) (hat:sl.ownBlock=some g∨g=u2.heap.size) (hlt:g < u3.heap.size) :
  Q26 A text w (ds++[d]) (ps++[b]) (bs++bs') (g :: Y) (.slice (some ⟨g,0,none⟩) (ds.length + 1) cap) σ u3:=by
 obtain ⟨hwg,_⟩:=Q2p hown (g:=g) rfl
 have e2:=e.below h0 hb
 have hh2:=hh.keeps (Qa.of_below [] hb) (by simp)
 have hrow:∀ b,sl.ownBlock=some b→w.heap.size≤b∧b∈(A.plus Y).X:=fun b hb=>⟨e.new _ (e.own b hb),List.mem_append_left _ (e.own b hb)⟩
 have hkg:=Q0t hg
 refine ⟨e2.kp.young hkg ?_,Rd.grow h0 (Same.plus A Y) e2.rd hg hrow hat hlt,?_,?_,?_,by simp [e.len],(e2.held.app hh2).grow hg (fun b hb=>(hrow b hb).2) hat,?_⟩
 ·intro m hm
  exact Or.inr (hrow m (by simpa using hm)).1
 ·intro y hy
  rcases List.mem_cons.1 hy with rfl | hy
  ·exact hwg
  ·exact e.new y hy
 ·intro g' h'
  simp only [Value.ownBlock,Option.some.injEq] at h'
  subst h'
  exact List.mem_cons_self
 ·have e1:Q1E (ds++[d]) (ps++[b])=Q1E ds ps++[.iface (defT d) (.pointer (some ⟨b,0,none⟩))]:=by
   unfold Q1E
   rw [List.zip_append e.len.symm,List.map_append]
   rfl
  rw [e1]
  simpa using hown
 ·intro i h1 h2
  by_cases hi:i < ds.length
  ·have hi':i < ps.length:=by rw [e.len];exact hi
   rw [List.getElem_append_left hi,List.getElem_append_left hi']
   exact (show Q1H (bs++bs') (.iface (defT ds[i]) (.pointer (some ⟨ps[i],0,none⟩))) (some ds[i]) from Q1H.mono (fun p hp=>List.mem_append_left _ hp) ⟨_,rfl,e.each i hi hi'⟩).elim (fun b' hb'=>by obtain ⟨e1,e2⟩:=hb';cases e1;exact e2)
  ·have hi':i=ds.length:=by simp at h1;omega
   have hl:=e.len
   rw [List.getElem_append_right (by omega),List.getElem_append_right (by omega)]
   have e1:i - ds.length=0:=by omega
   have e3:i - ps.length=0:=by omega
   simp only [e1,e3,List.getElem_cons_zero]
   exact (show Q1H (bs++bs') (.iface (defT d) (.pointer (some ⟨b,0,none⟩))) (some d) from Q1H.mono (fun p hp=>List.mem_append_right _ hp) ⟨_,rfl,hd⟩).elim (fun b' hb'=>by obtain ⟨e1,e2⟩:=hb';cases e1;exact e2)
theorem Q26.lies (h0:Rd A text σ0 w) (m:Q26 A text w ds ps bs Y sl σ u) (hle:ds.length≤1000):∃ bs',Q23 (bs++bs') sl ds ps∧Held A.X (bs++bs') u:=by
 have far:∀ b,w.heap.size≤b→b ∉ A.X:=fun b hb hm=>by have:=h0.old _ hm;omega
 have hsub:Held A.X bs u:=m.held.sub (fun x hx=>List.mem_append_right _ hx)
 have hmono:∀ bs' i (h:i < ds.length) (h':i < ps.length),Q0d (bs++bs') ps[i] ds[i]:=fun bs' i h h'=>
  (show Q1H (bs++bs') (.iface (defT ds[i]) (.pointer (some ⟨ps[i],0,none⟩))) (some ds[i]) from Q1H.mono (fun p hp=>List.mem_append_left _ hp) ⟨_,rfl,m.each i h h'⟩).elim (fun b' hb'=>by obtain ⟨e1,e2⟩:=hb';cases e1;exact e2)
 rcases m.row.2 with ⟨rfl,h⟩ | ⟨g,cap,cur,rfl,hg1,hg2,hg3,hg4,hg5,hg6⟩
 ·have hn:ds=[]:=List.length_eq_zero_iff.1 h
  refine ⟨[],⟨m.len,Or.inl ⟨rfl,h,?_⟩,hmono []⟩,by simpa using hsub⟩
  subst hn
  rfl
 ·refine ⟨[(g,.cells cur 113)],⟨m.len,Or.inr ⟨g,cap,cur,rfl,⟨hg3,hle⟩,by simp,?_⟩,hmono _⟩,?_⟩
  ·have e1:(Q1E ds ps).length=ds.length:=by simp [m.len]
   rw [Nat.mul_one] at hg6
   rw [e1]
   exact hg6
  ·refine hsub.app ?_
   intro p hp
   simp only [List.mem_singleton] at hp
   subst hp
   exact ⟨hg2,far _ hg1⟩
end
theorem QfM {text:ByteArray} {k:Nat} {ds:List DefL} {σ σ1:St} {x:Mar.Word} (h:peek text σ = .ok (x,σ1)) (hk:((x.kind:Int) == 0)=true):Q0L text (k + 1) ds σ = .ok (ds,σ1):=by
 simp only [Q0L]
 rw [Qg h,hk]
 rfl
theorem QfN {text:ByteArray} {k:Nat} {ds:List DefL} {σ:St} {f:Mar.Fault} (h:peek text σ = .error f):Q0L text (k + 1) ds σ = .error f:=by
 simp only [Q0L]
 exact Qq h
theorem QfO {text:ByteArray} {k:Nat} {ds:List DefL} {σ σ1:St} {x:Mar.Word} (h:peek text σ = .ok (x,σ1)) (hk:((x.kind:Int) == 0)=false) {f:Mar.Fault} (hd:definition text σ1 = .error f):Q0L text (k + 1) ds σ = .error f:=by
 simp only [Q0L]
 rw [Qg h,hk]
 exact Qq hd
theorem QgT {text:ByteArray} {k:Nat} {ds:List DefL} {σ σ1 σ2:St} {x:Mar.Word} {d:DefL} (h:peek text σ = .ok (x,σ1)) (hk:((x.kind:Int) == 0)=false) (hd:definition text σ1 = .ok (d,σ2)) :
  Q0L text (k + 1) ds σ = Q0L text k (ds++[d]) { σ2 with names:=Q0b σ2.names (Qw d).1 d }:=by
 simp only [Q0L]
 rw [Qg h,hk]
 exact Qg hd
structure Q5h (σ:St) (ds:List DefL):Prop where
 ty:σ.types≤24
 co:σ.consts≤40
 pr:σ.progs.length≤4
 few:ds.length≤σ.types + σ.consts + σ.progs.length
 nm:∀ n d,look σ.names n=some (some d)→d∈ds∨∃ t a v,d = .const t a v
theorem Q5h.le {σ σ':St} {ds:List DefL} (h:Q5h σ ds) (k:Le σ σ'):Q5h σ' ds:=by
 obtain ⟨k1,k2,k3,k4,k5,k6⟩:=k
 refine ⟨k4 h.ty,k5 h.co,by rw [k3];exact h.pr,by rw [k3];have:=h.few;omega,fun n d hd=>?_⟩
 rcases k6.2 n d hd with h' | h'
 ·exact h.nm n d h'
 ·exact Or.inr h'
theorem Q5h.step {text:ByteArray} {σ σ':St} {ds:List DefL} {d:DefL} (h:Q5h σ ds) (hd:definition text σ = .ok (d,σ')):Q5h { σ' with names:=Q0b σ'.names (Qw d).1 d } (ds++[d]):=by
 have hs:=Q96 hd
 have hk:=(Q5N text _ _ _ hd).2
 have hu:=hs.up
 have hf:=h.few
 refine ⟨hs.ty h.ty,hs.co h.co,hs.pr h.pr,by simp;omega,fun n e he=>?_⟩
 dsimp only at he
 rw [Q8u] at he
 cases hl:look σ'.names n with
 | none=>rw [hl] at he;cases he
 | some o=>
  rw [hl] at he
  simp only [Option.map_some,Option.some.injEq] at he
  split at he
  ·cases he
   exact Or.inl (by simp)
  ·subst he
   rcases hk.2 n e hl with h' | h'
   ·rcases h.nm n e h' with h2 | h2
    ·exact Or.inl (List.mem_append_left _ h2)
    ·exact Or.inr h2
   ·exact Or.inr h'
theorem Q6i:∀ (ty:Ty) (m:List UInt8×Nat),m∈QR ty→m∈QJ ty:=by
 intro ty
 induction ty with
 | named t a=>intro m h;exact h
 | arr o n f ih=>
  intro m h
  cases f with
  | true=>exact ih m (by simpa [QR] using h)
  | false=>simp [QR] at h
 | opt o ih=>intro m h;simp [QR] at h
 | _=>intro m h;simp [QR] at h
theorem QgU (d:DefL) (m:List UInt8×Nat) (h:m∈Q0r d):m∈Q0G d:=by
 cases d with
 | const t a v=>simp [Q0r] at h
 | typedef d=>exact Q6i _ _ h
 | enum t a ms=>simp [Q0r] at h
 | struct t a ms=>
  simp only [Q0r,List.mem_flatMap] at h
  obtain ⟨x,hx,hm⟩:=h
  exact List.mem_flatMap.2 ⟨x,hx,Q6i _ _ hm⟩
 | union t a s ar=>
  simp only [Q0r,List.mem_flatMap] at h
  obtain ⟨x,hx,hm⟩:=h
  exact List.mem_flatMap.2 ⟨x,hx,Q6i _ _ hm⟩
 | prog t a vs n=>simp [Q0r] at h
theorem QfP {σ:St}:∀ (ns:List (List UInt8×Nat)) (u:Unit),Qm (Q0K ⟨0,0,0,0,[]⟩ ⟨#[]⟩ σ [] 0) ns u = .ok ()→∀ n∈ns,∃ d,look σ.names n.1=some (some d):=by
 intro ns
 induction ns with
 | nil=>intro u _ n hn;cases hn
 | cons m ns ih=>
  intro u h n hn
  simp only [Qm] at h
  have e1:(Q0K ⟨0,0,0,0,[]⟩ ⟨#[]⟩ σ [] 0).run m u=Q1r σ m:=rfl
  rw [e1] at h
  cases hl:Q1r σ m with
  | error f=>rw [hl] at h;cases h
  | ok v=>
   rw [hl] at h
   rcases List.mem_cons.1 hn with rfl | hn
   ·unfold Q1r at hl
    cases ho:look σ.names n.1 with
    | none=>rw [ho] at hl;cases hl
    | some o=>
     rw [ho] at hl
     cases o with
     | none=>simp [Q3f] at hl
     | some d=>exact ⟨d,rfl⟩
   ·exact ih _ h n hn
theorem QbS {σ:St} {ds:List DefL} (h:Q2u σ ds = .ok ()):∀ d∈ds,∀ m∈Q0r d,∃ d',look σ.names m.1=some (some d'):=by
 intro d hd m hm
 exact QfP _ _ h m (List.mem_flatMap.2 ⟨d,hd,QgU d m hm⟩)
theorem QeA {σ:St} {ds:List DefL} (hi:Q5h σ ds) (h:Q2u σ ds = .ok ()):∀ n d,look σ.names n=some (some d)→∀ m∈Q0r d,∃ d',look σ.names m.1=some (some d'):=by
 intro n d hd m hm
 rcases hi.nm n d hd with h' | ⟨t,a,v,rfl⟩
 ·exact QbS h d h' m hm
 ·simp [Q0r] at hm
theorem tx0:Q5h st0 []:=⟨by simp [st0],by simp [st0],by simp [st0],by simp,by intro n d h;simp [st0,look] at h⟩
theorem QaP {A' A:Ad} (hA:Same A' A) {text:ByteArray} {σ:St} {w:World} (h:Rd A' text σ w) :
  Calls Tryz.prog 50 #[.pointer (some ⟨A.R,0,none⟩)] w (Q1u [A.R,A.S,A.N,A.P] A' text w (definition text σ)):=by
 have:=Q9G h
 rw [hA.1,hA.2.1,hA.2.2.1,hA.2.2.2] at this
 exact this
def Q6z (text:ByteArray) (w:World) (e:Ending) (w':World):Prop:=
 (∃ ds sl ps bs,Q11 text = .ok ds∧e = .returned sl∧Qa [] w w'∧Q23 bs sl ds ps∧∀ p∈bs,w'.heap[p.1]? = some p.2)∨(∃ f,Q11 text = .error f∧Qa [] w w'∧Q0A w f.no f.at' e w')
theorem QdM {text:ByteArray} {f:Mar.Fault} (h:¬ 1200 < text.size) (hf:Q0L text 69 [] st0 = .error f):Q11 text = .error f:=by unfold Q11;rw [if_neg h,hf]
theorem QhN {text:ByteArray} {f:Mar.Fault} {ds:List DefL} {σ:St} (h:¬ 1200 < text.size) (hf:Q0L text 69 [] st0 = .ok (ds,σ)) (hl:Q2u σ ds = .error f):Q11 text = .error f:=by unfold Q11;rw [if_neg h,hf];simp only [hl]
theorem QhO {text:ByteArray} {f:Mar.Fault} {ds:List DefL} {σ:St} (h:¬ 1200 < text.size) (hf:Q0L text 69 [] st0 = .ok (ds,σ)) (hl:Q2u σ ds = .ok ()) (he:Q1J σ ds = .error f):Q11 text = .error f:=by unfold Q11;rw [if_neg h,hf];simp only [hl,he]
theorem QgV {text:ByteArray} {ds:List DefL} {σ:St} (h:¬ 1200 < text.size) (hf:Q0L text 69 [] st0 = .ok (ds,σ)) (hl:Q2u σ ds = .ok ()) (he:Q1J σ ds = .ok ()):Q11 text = .ok ds:=by unfold Q11;rw [if_neg h,hf];simp only [hl,he]
theorem QbT (text:ByteArray) {w:World} (hg:Gl w):Calls Tryz.prog 28 #[.string text] w (Q6z text w):=by
 have hmm:∀ (t:TypeId) (w:World),(Instr.makeMap t none).run Tryz.prog w = .ok (.map (some w.heap.size)) (w.alloc (.map #[] 0)):=fun _ _=>rfl
 have hft:=Qe5
 have hfn:∀ (a b:Value) (W:World),(Instr.field 116 (.agg #[a,b]) 0).run Tryz.prog W = .ok a W:=fun _ _ _=>by kernel_rfl
 have htn:=Q1S
 obtain ⟨i0,hi0,hz0,hz1,hz2⟩:=info_parts QhM
 by_cases hlong:1200 < text.size
 ·have HE:Hid (Q11 text = .error ⟨1,0⟩):=by show _=_;unfold Q11;rw [if_pos hlong]
  have hlt:(1200:Int) < ↑text.size:=by omega
  go_enter Tryz.func28,Tryz.ntmps28
  go_wp2_with (go_at_call 47;refine (Q0T _ _ _).mono ?_;rintro e w' ⟨rfl,rfl⟩)
  exact Qb (Or.inr ⟨⟨1,0⟩,HE.out,(by first | exact (Qa.refl [] w).alloc _ | exact (Qa.refl [] w).drew.alloc _),w.heap.size,Nat.le_refl _,rfl,Qi rfl⟩)
 ·obtain ⟨hr0,hk0,hs0⟩:=QhL text hg (by omega)
  have hnl:¬ (1200:Int) < ↑text.size:=by omega
  have HNL:=Hid.mk hlong
  have HR0:=Hid.mk hr0
  have HK0:=Hid.mk hk0
  have M0:Hid (Q26 (ad0 w) text (laid text w) [] [] [] [] (.slice none 0 0) st0 (laid text w)):=⟨Qa.refl _ _,hr0,by simp,(by intro g hg;cases hg),⟨rfl,Or.inl ⟨rfl,rfl⟩⟩,rfl,(by intro p hp;cases hp),(by intro i h;cases h)⟩
  clear hr0 hk0 hlong
  go_enter Tryz.func28,Tryz.ntmps28
  go_wp2_with (first | (go_at_call 48;refine (QbR _ _).mono ?_;rintro e w' ⟨rfl,rfl⟩))
  go_loopw [4] (fun sl ur=>∃ (ds:List DefL) (ps:List Nat) (bs:List (Nat×Obj)) (Y:List Nat) (σ':St),Hid (Q5h σ' ds)∧Hid (Q26 (ad0 w) text (laid text w) ds ps bs Y sl σ' ur)∧Hid (Q0L text 69 [] st0=Q0L text (69 - ds.length) ds σ')) (fun sl _=>69 - Qb0 sl)
  case atStart=>exact ⟨[],[],[],[],st0,tx0,M0,rfl⟩
  case round=>
   obtain ⟨ds,ps,bs,Y,σ',I,M,E⟩:=hrel
   clear M0
   obtain ⟨ad,cap,rfl⟩:=M.out.slice
   have hlen:ds.length≤68:=by have h1:=I.out.few;have h2:=I.out.ty;have h3:=I.out.co;have h4:=I.out.pr;omega
   have EM:Hid (Q0L text 69 [] st0=Q0L text ((68 - ds.length) + 1) ds σ'):=by
    have h1:=E.out
    rw [show 69 - ds.length=(68 - ds.length) + 1 by omega] at h1
    exact h1
   have c0:wr.cell? ⟨w.heap.size + 3,0,none⟩=some (.pointer (some ⟨w.heap.size,0,none⟩)):=M.out.rd.cells.1
   clear E
   go_wp2_with fail
   refine (Q9D (Same.plus (ad0 w) Y) M.out.rd).mono ?_
   rintro e w1 ⟨hk1,⟨x1,σ1,hx1,rfl,hr1⟩ | ⟨f,hx1,b,hbb,rfl,hcell⟩⟩
   rotate_left
   ·have hz:=M.out.kp.size
    exact (show bodyPost Tryz.prog Tryz.f28 (Q6z text w) (Exit.panic _) _ w1 from Qb (Or.inr ⟨f,QdM HNL.out (EM.out.trans (QfN hx1)),(HK0.out.young M.out.kp (by intro m hm;simp [ad0] at hm;exact Or.inr (by omega))).young hk1 (by intro m hm;simp [ad0] at hm;exact Or.inr (by omega)),b,by omega,rfl,hcell⟩))
   have M1:=Hid.mk (M.out.turn HR0.out hk1 (by simp) hr1)
   have I1:=Hid.mk (I.out.le (Q64 _ _ _ _ hx1))
   clear hk1 hr1 M I
   dsimp only [Q00]
   cases hkind:((x1.kind:Int) == 0) with
   | true=>
    have hkn:((x1.kind:Int) != 0)=false:=by simp [bne,hkind]
    have hfin:=EM.out.trans (QfM hx1 hkind)
    have HF:=Hid.mk hfin
    obtain ⟨bs',hdi,hhe⟩:=M1.out.lies HR0.out (by omega)
    have hrd:=Rd.dropAll HR0.out.mine M1.out.rd
    have HL:=Hid.mk (Q9b hrd hhe hdi)
    have HRD:=Hid.mk hrd
    have HHE:=Hid.mk hhe
    have HDI:=Hid.mk hdi
    clear hfin EM hrd hhe hdi
    go_wp2_with fail
    refine HL.out.mono ?_
    rintro e w2 (⟨hl2,rfl,hk2⟩ | ⟨f,hl2,hkE,b,hbb,rfl,hcell⟩)
    rotate_left
    ·have hz:=M1.out.kp.size
     exact (show bodyPost Tryz.prog Tryz.f28 (Q6z text w) (Exit.panic _) _ w2 from Qb (Or.inr ⟨f,QhN HNL.out HF.out hl2,(HK0.out.young M1.out.kp (by intro m hm;simp [ad0] at hm;exact Or.inr (by omega))).trans hkE,b,by omega,rfl,hcell⟩))
    have hrd2:=HRD.out.quiet hk2
    obtain ⟨nd,bsn,vsn,g1,g2,g3,g4⟩:=hrd2.nm
    have hnw:Q3S (ad0 w).X (ad0 w).N σ1.names ((bs++bs')++bsn) vsn w2:=⟨nd,(HHE.out.keeps hk2 (by simp)).app g1,g2,g3,fun i h h'=>Q1H.mono (fun p hp=>List.mem_append_right _ hp) (g4 i h h')⟩
    have hdi2:Q23 ((bs++bs')++bsn) (.slice ad ds.length cap) ds ps:=⟨HDI.out.len,HDI.out.row.mono (fun p hp=>List.mem_append_left _ hp),fun i h h'=>(show Q1H ((bs++bs')++bsn) (.iface (defT ds[i]) (.pointer (some ⟨ps[i],0,none⟩))) (some ds[i]) from Q1H.mono (fun p hp=>List.mem_append_left _ hp) ⟨_,rfl,HDI.out.each i h h'⟩).elim (fun b' hb'=>by obtain ⟨e1,e2⟩:=hb';cases e1;exact e2)⟩
    have HN:=Hid.mk (Q9d hrd2 hnw hdi2 (QeA I1.out hl2) (QbS hl2))
    have HE2:=Hid.mk (HHE.out.keeps hk2 (by simp))
    have HK2:=Hid.mk hk2
    have HL2:=Hid.mk hl2
    clear hrd2 nd g1 g2 g3 g4 hnw hdi2 hk2 hl2
    go_wp2_with fail
    refine HN.out.mono ?_
    rintro e w3 (⟨he3,rfl,hk3⟩ | ⟨f,he3,hkE,b,hbb,rfl,hcell⟩)
    rotate_left
    ·have hz:=M1.out.kp.size
     have hz2:=HK2.out.size
     exact (show bodyPost Tryz.prog Tryz.f28 (Q6z text w) (Exit.panic _) _ w3 from Qb (Or.inr ⟨f,QhO HNL.out HF.out HL2.out he3,((HK0.out.young M1.out.kp (by intro m hm;simp [ad0] at hm;exact Or.inr (by omega))).trans HK2.out).trans hkE,b,by omega,rfl,hcell⟩))
    have HE3:=Hid.mk he3
    have HK3:=Hid.mk hk3
    clear he3 hk3
    go_wp2
    go_ret
    refine Or.inl ⟨ds,_,ps,bs++bs',QgV HNL.out HF.out HL2.out HE3.out,rfl,?_,HDI.out,fun p hp=>((HE2.out.keeps HK3.out (by simp)) p hp).1⟩
    exact ((HK0.out.young M1.out.kp (by intro m hm;simp [ad0] at hm;exact Or.inr (by omega))).trans HK2.out).trans HK3.out
   | false=>
    have hkn:((x1.kind:Int) != 0)=true:=by simp [bne,hkind]
    have hx0:=hx1
    go_wp2_with fail
    refine (QaP (Same.plus (ad0 w) Y) M1.out.rd).mono ?_
    rintro e w2 ⟨hk2,⟨d,σ2,b2,bs2,hx2,rfl,hr2,hd2,hh2⟩ | ⟨f,hx2,b,hbb,rfl,hcell⟩⟩
    rotate_left
    ·have hz:=M1.out.kp.size
     exact (show bodyPost Tryz.prog Tryz.f28 (Q6z text w) (Exit.panic _) _ w2 from Qb (Or.inr ⟨f,QdM HNL.out (EM.out.trans (QfO hx1 hkind hx2)),(HK0.out.young M1.out.kp (by intro m hm;simp [ad0] at hm;exact Or.inr (by omega))).young hk2 (by intro m hm;simp [ad0] at hm;exact Or.inr (by omega)),b,by omega,rfl,hcell⟩))
    have M2:=M1.out.turn HR0.out hk2 (by simp) hr2
    have I2:=Hid.mk (I1.out.step hx2)
    have E2:=Hid.mk (EM.out.trans (QgT hx1 hkind hx2))
    obtain ⟨o2,ho2⟩:=Option.isSome_iff_exists.1 (Q5N text _ _ _ hx2).1
    have M3:=M2.below HR0.out (Below.refl _ _).drew
    have hh3:=hh2.keeps (Qa.of_below [] (Below.refl w2.heap.size w2).drew) (by simp)
    have htr:=Q2O hd2 hh3
    have c2:w2.cell? ⟨w.heap.size + 3,1,none⟩=some (.map (some (w.heap.size + 1))):=hr2.cells.2.1
    have HM3:=Hid.mk M3
    have HH3:=Hid.mk hh3
    have HD2:=Hid.mk hd2
    have lR:w.heap.size + 3 < w2.heap.size:=hr2.lt.1
    clear EM hk2 hr2 hh2 M1 I1 M2 M3 hh3 c0
    go_wp2_with fail
    refine QH (fun w'=>w'.cell? ⟨w.heap.size + 3,1,none⟩=some (.map (some (w.heap.size + 1)))) (L:=8) (by kernel_rfl) rfl (by kernel_rfl) (by kernel_rfl) ?_ (fun hHeld=>?_)
    ·go_keep
    refine tk (i:=0) (v:=?_) rfl (by kernel_rfl) (fun _ _ _ h=>h) (by rfl) (by assumption) ?_ ?_
    rotate_left
    ·intro w hSw;(try dsimp only at hSw);go_simp;(try with_reducible rfl)
    (try simp only [Qd,Qe,List.set])
    refine tk (i:=1) (v:=?_) rfl (by kernel_rfl) (fun _ _ _ h=>h) (by rfl) (by assumption) ?_ ?_
    rotate_left
    ·intro w hSw;(try dsimp only at hSw);go_simp;(try with_reducible rfl)
    (try simp only [Qd,Qe,List.set])
    refine tk (i:=2) (v:=?_) rfl (by kernel_rfl) (fun _ _ _ h=>h) (by rfl) (by assumption) ?_ ?_
    rotate_left
    ·intro w hSw;(try dsimp only at hSw);go_simp;(try with_reducible rfl)
    (try simp only [Qd,Qe,List.set])
    refine tk (i:=3) (v:=?_) rfl (by kernel_rfl) (fun _ _ _ h=>h) (by rfl) (by assumption) ?_ ?_
    rotate_left
    ·intro w hSw;(try dsimp only at hSw);go_simp;(try with_reducible rfl)
    (try simp only [Qd,Qe,List.set])
    refine tk (i:=4) (v:=?_) rfl (by kernel_rfl) (fun _ _ _ h=>h) (by rfl) (by assumption) ?_ ?_
    rotate_left
    ·intro w hSw;(try dsimp only at hSw);go_simp;(try with_reducible rfl)
    (try simp only [Qd,Qe,List.set])
    refine tk (i:=7) (v:=?_) rfl (by kernel_rfl) (fun _ _ _ h=>h) (by rfl) (by assumption) ?_ ?_
    rotate_left
    ·intro w hSw;(try dsimp only at hSw);go_simp;(try with_reducible rfl)
    (try simp only [Qd,Qe,List.set])
    refine wpAnyH_ready (rs:=[5]) (by kernel_rfl) (by simp) ?_
    refine AllReadyH.cons rfl (fun K hK=>?_) AllReadyH.nil
    (go_simp;go_at_call 238;refine (Q2M _ _ _).mono ?_;rintro e w6 ⟨rfl,hb6⟩;have M6:=HM3.out.below HR0.out hb6;have c6:w6.cell? ⟨w.heap.size + 3,1,none⟩=some (.map (some (w.heap.size + 1))):=M6.rd.cells.2.1;have hh6:=HH3.out.keeps (Qa.of_below [] hb6) (by simp);obtain ⟨ob,hput,hnm⟩:=Q1w.set M6.rd.nm M6.rd.mine.2.2.1 ho2 HD2.out hh6;have hrp:=Rd.putNames M6.rd hnm;have M7:=Hid.mk (M6.turn HR0.out (Q0a _ _ _) (by intro x hx;simp only [List.mem_singleton] at hx;subst hx;simp [Ad.plus]) hrp);have HH7:=Hid.mk (hh6.keeps (Q0a w6 (w.heap.size + 1) ob) (by intro x hx;simp only [List.mem_singleton] at hx;subst hx;exact M6.rd.mine.2.2.1));dsimp only [Ad.plus,ad0] at hput;clear hb6 M6 hh6 hnm hrp)
    refine hK.out _ _ ?_ (fun hHeld=>?_)
    ·go_keep
    clear hK K
    (try simp only [Qd,Qe,List.set])
    refine tk (i:=6) (v:=?_) rfl (by kernel_rfl) (fun _ _ _ h=>h) (by rfl) (by assumption) ?_ ?_
    rotate_left
    ·intro w hSw;(try dsimp only at hSw);go_simp;(try with_reducible rfl)
    (try simp only [Qd,Qe,List.set])
    refine wpAnyH_done (by kernel_rfl) ?_ _
    refine Q02 rfl (fun K hK=>?_)
    go_simp
    refine hK.out _ _ ?_
    clear hK K
    (try simp only [Qd,Qe,List.set])
    obtain ⟨w7,hw7⟩:∃ w7,w7=Q09 w6 (w.heap.size + 1) ob:=⟨_,rfl⟩
    rw [← hw7]
    have M8:Hid (Q26 (ad0 w) text (laid text w) ds ps bs Y (.slice ad ds.length cap) { σ2 with names:=Q0b σ2.names (Qw d).1 d } w7):=by rw [hw7];exact M7
    have HH8:Hid (Held ((ad0 w).plus Y).X bs2 w7):=by rw [hw7];exact HH7
    clear M7 HH7 hput hw7 htr HM3 HH3
    have hown5:∀ ob,(w7.alloc ob).ownsRow (laid text w).heap.size 113 1 (.slice ad ds.length cap) ds.length (Q1E ds ps):=fun ob=>M8.out.rowAt ob
    have hwl:(laid text w).heap.size≤w7.heap.size:=M8.out.kp.size
    have hl1:ds.length + 1≤maxLen:=by unfold maxLen;omega
    have hl2:(ds.length + 1) * 16≤140737488355328:=by omega
    have hz3:Value.nilIface.cells.size=1:=rfl
    go_wp2_with (first
     | (at_builtin;refine wpList_append_lies _ (by rfl) _ _ _ (by rfl) (laid text w).heap.size 113 i0 _ 1 16 Tryz.underlying60 hi0 hz0 hz1 hz2 hz3 (by omega) (.slice ad ds.length cap) ds.length (Q1E ds ps) (by rfl) (hown5 _) ⟨w7.heap.size,0,none⟩ 1 1 [.iface (defT d) (.pointer (some ⟨b2,0,none⟩))] (by rfl) (by rfl) (World.news_of_block (cs:=#[.iface (defT d) (.pointer (some ⟨b2,0,none⟩))]) (t:=113) (fr:=(0,0)) (heap_alloc_new w7 _)) (by simp [Value.oneCell']) (by omega) hl1 hl2 (by simp;omega) (w7.heap.size + 1) (by simp) ?_;intro g cap' w8 hown8 hgrow hat hlt))
    have M9:=Hid.mk (Q26.step HR0.out M8.out HD2.out HH8.out ((Below.refl w7.heap.size w7).alloc (Nat.le_refl _) _) hown8 hgrow (by simpa using hat) hlt)
    have E9:Hid (Q0L text 69 [] st0=Q0L text (69 - (ds++[d]).length) (ds++[d]) { σ2 with names:=Q0b σ2.names (Qw d).1 d }):=by
     have h1:=E2.out
     rw [show 68 - ds.length=69 - (ds++[d]).length by simp] at h1
     exact h1
    exact ⟨⟨ds++[d],ps++[b2],bs++bs2,g :: Y,_,I2,M9,E9⟩,by simp [Qb0];omega⟩
theorem QeB (b:Nat) (w:World):Calls Tryz.prog 27 #[.iface 79 (.pointer (some ⟨b,0,none⟩))] w fun e w'=>e = .returned (.iface 79 (.pointer (some ⟨b,0,none⟩)))∧w'=w:=by
 have t1:∀ W,(Instr.typeAssert (.iface 79 (.pointer (some ⟨b,0,none⟩))) 20 79 true).run Tryz.prog W = .ok (.tuple #[.pointer (some ⟨b,0,none⟩),.bool true]) W:=fun W=>by kernel_rfl
 go_enter Tryz.func27,Tryz.ntmps27
 go_wp2
 go_ret
 exact ⟨rfl,rfl⟩
def Qb1 (k:Nat):List UInt8:=
 if ((k:Int) == 0) then [105,110,116] else if ((k:Int) == 1) then [117,110,115,105,103,110,101,100] else if ((k:Int) == 2) then [104,121,112,101,114] else if ((k:Int) == 3) then [117,110,115,105,103,110,101,100,32,104,121,112,101,114] else [98,111,111,108]
theorem Q3Y (k:Nat) (w:World):Calls Tryz.prog 255 #[.int .i64 k] w fun e w'=>e = .returned (.string ⟨(Qb1 k).toArray⟩)∧w'=w:=by
 go_enter Tryz.func255,Tryz.ntmps255
 go_wp2
 all_goals
  go_ret
  refine ⟨?_,rfl⟩
  unfold Qb1
  simp only [*,Bool.false_eq_true,if_false,if_true]
  rfl
def Q1I:Ty→List UInt8
 | .named t _=>t
 | .plain k=>Qb1 k
 | _=>[118,111,105,100]
theorem Q2j (ty:Ty) (w:World):Calls Tryz.prog 254 #[tyV ty] w fun e w'=>e = .returned (.string ⟨(Q1I ty).toArray⟩)∧Below w.heap.size w w':=by
 cases ty with
 | plain k=>
  have n1:∀ W,(Instr.typeAssert (.iface 301 (.agg #[.int .i64 k])) 193 213 true).run Tryz.prog W = .ok (.tuple #[.agg #[.string ⟨#[]⟩,.int .i64 0],.bool false]) W:=fun W=>by kernel_rfl
  have n2:∀ W,(Instr.typeAssert (.iface 301 (.agg #[.int .i64 k])) 193 301 true).run Tryz.prog W = .ok (.tuple #[.agg #[.int .i64 k],.bool true]) W:=fun W=>by kernel_rfl
  dsimp only [tyV]
  go_enter Tryz.func254,Tryz.ntmps254
  go_wp2_with (first | (go_at_call 255;refine (Q3Y _ _).mono ?_;rintro e w' ⟨rfl,rfl⟩))
  go_ret
  exact ⟨rfl,by first | exact Below.refl _ _ | exact (Below.refl _ _).alloc (Nat.le_refl _) _⟩
 | named t a=>
  have n1:∀ W,(Instr.typeAssert (.iface 213 (.agg #[.string ⟨t.toArray⟩,.int .i64 a])) 193 213 true).run Tryz.prog W = .ok (.tuple #[.agg #[.string ⟨t.toArray⟩,.int .i64 a],.bool true]) W:=fun W=>by kernel_rfl
  have n2:∀ W,(Instr.typeAssert (.iface 213 (.agg #[.string ⟨t.toArray⟩,.int .i64 a])) 193 301 true).run Tryz.prog W = .ok (.tuple #[.agg #[.int .i64 0],.bool false]) W:=fun W=>by kernel_rfl
  dsimp only [tyV]
  go_enter Tryz.func254,Tryz.ntmps254
  go_wp2_with (first | (go_at_call 255;refine (Q3Y _ _).mono ?_;rintro e w' ⟨rfl,rfl⟩))
  go_ret
  exact ⟨rfl,by first | exact Below.refl _ _ | exact (Below.refl _ _).alloc (Nat.le_refl _) _⟩
 | opaq n f=>
  have n1:∀ W,(Instr.typeAssert (.iface 306 (.agg #[.int .i64 n,.bool f])) 193 213 true).run Tryz.prog W = .ok (.tuple #[.agg #[.string ⟨#[]⟩,.int .i64 0],.bool false]) W:=fun W=>by kernel_rfl
  have n2:∀ W,(Instr.typeAssert (.iface 306 (.agg #[.int .i64 n,.bool f])) 193 301 true).run Tryz.prog W = .ok (.tuple #[.agg #[.int .i64 0],.bool false]) W:=fun W=>by kernel_rfl
  dsimp only [tyV]
  go_enter Tryz.func254,Tryz.ntmps254
  go_wp2_with (first | (go_at_call 255;refine (Q3Y _ _).mono ?_;rintro e w' ⟨rfl,rfl⟩))
  go_ret
  exact ⟨rfl,by first | exact Below.refl _ _ | exact (Below.refl _ _).alloc (Nat.le_refl _) _⟩
 | str n f=>
  have n1:∀ W,(Instr.typeAssert (.iface 309 (.agg #[.int .i64 n,.bool f])) 193 213 true).run Tryz.prog W = .ok (.tuple #[.agg #[.string ⟨#[]⟩,.int .i64 0],.bool false]) W:=fun W=>by kernel_rfl
  have n2:∀ W,(Instr.typeAssert (.iface 309 (.agg #[.int .i64 n,.bool f])) 193 301 true).run Tryz.prog W = .ok (.tuple #[.agg #[.int .i64 0],.bool false]) W:=fun W=>by kernel_rfl
  dsimp only [tyV]
  go_enter Tryz.func254,Tryz.ntmps254
  go_wp2_with (first | (go_at_call 255;refine (Q3Y _ _).mono ?_;rintro e w' ⟨rfl,rfl⟩))
  go_ret
  exact ⟨rfl,by first | exact Below.refl _ _ | exact (Below.refl _ _).alloc (Nat.le_refl _) _⟩
 | arr o n f=>
  have n1:∀ W,(Instr.typeAssert (.iface 311 (.agg #[tyV o,.int .i64 n,.bool f])) 193 213 true).run Tryz.prog W = .ok (.tuple #[.agg #[.string ⟨#[]⟩,.int .i64 0],.bool false]) W:=fun W=>by kernel_rfl
  have n2:∀ W,(Instr.typeAssert (.iface 311 (.agg #[tyV o,.int .i64 n,.bool f])) 193 301 true).run Tryz.prog W = .ok (.tuple #[.agg #[.int .i64 0],.bool false]) W:=fun W=>by kernel_rfl
  dsimp only [tyV]
  go_enter Tryz.func254,Tryz.ntmps254
  go_wp2_with (first | (go_at_call 255;refine (Q3Y _ _).mono ?_;rintro e w' ⟨rfl,rfl⟩))
  go_ret
  exact ⟨rfl,by first | exact Below.refl _ _ | exact (Below.refl _ _).alloc (Nat.le_refl _) _⟩
 | opt o=>
  have n1:∀ W,(Instr.typeAssert (.iface 314 (.agg #[tyV o])) 193 213 true).run Tryz.prog W = .ok (.tuple #[.agg #[.string ⟨#[]⟩,.int .i64 0],.bool false]) W:=fun W=>by kernel_rfl
  have n2:∀ W,(Instr.typeAssert (.iface 314 (.agg #[tyV o])) 193 301 true).run Tryz.prog W = .ok (.tuple #[.agg #[.int .i64 0],.bool false]) W:=fun W=>by kernel_rfl
  dsimp only [tyV]
  go_enter Tryz.func254,Tryz.ntmps254
  go_wp2_with (first | (go_at_call 255;refine (Q3Y _ _).mono ?_;rintro e w' ⟨rfl,rfl⟩))
  go_ret
  exact ⟨rfl,by first | exact Below.refl _ _ | exact (Below.refl _ _).alloc (Nat.le_refl _) _⟩
 | void=>
  have n1:∀ W,(Instr.typeAssert (.iface 340 (.agg #[])) 193 213 true).run Tryz.prog W = .ok (.tuple #[.agg #[.string ⟨#[]⟩,.int .i64 0],.bool false]) W:=fun W=>by kernel_rfl
  have n2:∀ W,(Instr.typeAssert (.iface 340 (.agg #[])) 193 301 true).run Tryz.prog W = .ok (.tuple #[.agg #[.int .i64 0],.bool false]) W:=fun W=>by kernel_rfl
  dsimp only [tyV]
  go_enter Tryz.func254,Tryz.ntmps254
  go_wp2_with (first | (go_at_call 255;refine (Q3Y _ _).mono ?_;rintro e w' ⟨rfl,rfl⟩))
  go_ret
  exact ⟨rfl,by first | exact Below.refl _ _ | exact (Below.refl _ _).alloc (Nat.le_refl _) _⟩
def Q0E (l r:List UInt8):Bool:=
 if l == [] || l == [40] || l == [91] || l == [60] || l == [42] then false
 else if r == [59] || r == [44] || r == [58] || r == [41] || r == [91] || r == [93] || r == [60] || r == [62] then false
 else if r == [40] then l == [115,119,105,116,99,104] else true
theorem QfQ (l r:List UInt8) (w:World):Calls Tryz.prog 58 #[.string ⟨l.toArray⟩,.string ⟨r.toArray⟩] w fun e w'=>e = .returned (.bool (Q0E l r))∧w'=w:=by
 go_enter Tryz.func58,Tryz.ntmps58
 go_wp2
 all_goals
  go_ret
  refine ⟨?_,rfl⟩
  apply Q4s
  unfold Q0E
  simp_all
end Go.Proofs.YtmbcibgknckenaaGreatDoor
namespace Go.Proofs.YtmbcibgknckenaaGreatDoor
open Go.RowKit
open Go.MapKept
open Go.Sort Go.Lib
theorem QeC (n : Int) (h0 : -9223372036854775808 ≤ n) (h1 : n ≤ 9223372036854775807) (w : World) (htab : Lib.TabIs Tryz.prog w "internal/strconv.uint64pow10" .u64 Lib.pow10Tab) :
  Calls Tryz.prog 247 #[.int .i64 n] w fun e w'=>e = .returned (.string ⟨(Lib.itoa n).toArray⟩)∧∃ k os,w'=grow (w.drewN k) os:=by
 go_enter Tryz.func247,Tryz.ntmps247
 go_wp2_with (go_at_call 248;refine (Tryz.strconv_FormatInt_10 n h0 h1 _ htab).mono ?_;rintro e w' ⟨rfl,k,os,rfl⟩)
 go_ret
 exact ⟨rfl,k,os,rfl⟩
end Go.Proofs.YtmbcibgknckenaaGreatDoor
namespace Go.Proofs.YtmbcibgknckenaaGreatDoor
open Go.RowKit Go.Shelf
theorem QdN:(Tryz.prog.info? 92).map (·.size)=some 2:=by kernel_rfl
theorem QhP:liesAt Tryz.prog Tryz.prog.depth 92 (2 / Tryz.prog.cellsOf 92) 0 92 1=true:=by kernel_rfl
theorem QdO:(Tryz.prog.info? 5).map (fun i=>(i.zero,i.size,i.bytes))=some (some (Value.int .u8 0),1,1):=by kernel_rfl
theorem QeD (b:Nat) (w:World) (h0:w.cell? ⟨b,0,none⟩=some (.pointer (some ⟨b,0,none⟩))) :
  Calls Tryz.prog 83 #[.pointer (some ⟨b,0,none⟩)] w fun e w'=>e = .returned (.tuple #[])∧w'=w:=by
 obtain ⟨j,hj,_⟩:=Option.map_eq_some_iff.1 QdN
 have hne:=fun u a=>Lib.run_neq_ptr_same (P:=Tryz.prog) u (tp:=89) a Tryz.underlying89 hj
 go_enter Tryz.func83,Tryz.ntmps83
 go_wp2
 go_end0
 exact ⟨rfl,rfl⟩
theorem Qd8 (b:Nat) (w:World) (h0:w.cell? ⟨b,0,none⟩=some (.pointer none)) (hsh:w.shape? b=some (92,2)) (hfz:w.frozen? ⟨b,0,none⟩=false) :
  Calls Tryz.prog 83 #[.pointer (some ⟨b,0,none⟩)] w fun e w'=>e = .returned (.tuple #[])∧w'=w.setCell ⟨b,0,none⟩ (.pointer (some ⟨b,0,none⟩)):=by
 obtain ⟨j,hj,hjs⟩:=Option.map_eq_some_iff.1 QdN
 go_enter Tryz.func83,Tryz.ntmps83
 go_wp2
 rw [Lib.run_to_unsafe w ⟨b,0,none⟩ Tryz.underlying89 Tryz.underlying145 hj (by rw [hjs];decide) hsh (Nat.zero_lt_succ 1)]
 simp only [Result.andThen]
 rw [Oper.upon_value]
 go_wp2
 rw [run_callFunc_extern Tryz.func115 (by kernel_rfl) (by kernel_rfl) (by kernel_rfl) (e:=Extern.AbiNoEscape.same) (by kernel_rfl)]
 rw [Lib.run_noEscape]
 simp only [Result.andThen]
 rw [Oper.upon_value]
 go_wp2
 rw [Lib.run_from_unsafe w ⟨b,0,none⟩ Tryz.underlying145 Tryz.underlying89 hj hsh QhP]
 simp only [Result.andThen]
 rw [Oper.upon_value]
 go_wp2
 go_end0
 exact ⟨rfl,rfl⟩
structure BdAt (base b:Nat) (l:List UInt8) (v:Value) (u:World):Prop where
 box:∃ p,(p = .pointer none∨p = .pointer (some ⟨b,0,none⟩))∧u.heap[b]? = some (.cells #[p,v] 92)
 row:u.ownsRow base 5 1 v l.length (Lib.byteCells l)
 old:base≤u.heap.size
theorem BdAt.ne {base b:Nat} {l:List UInt8} {v:Value} {u:World} (h:BdAt base b l v u):∀ g,v.ownBlock=some g→∀ (cs:Array Value) (T:TypeId),u.heap[g]? = some (.cells cs T)→T=5:=by
 intro g hg cs T hc
 rcases h.row.2 with ⟨h0,_⟩ | ⟨g',cap,cur,h0,_,h2,_⟩
 ·rw [h0] at hg;cases hg
 ·rw [h0] at hg;cases hg;rw [h2] at hc;cases hc;rfl
theorem BdAt.own_ne {base b:Nat} {l:List UInt8} {v:Value} {u:World} (h:BdAt base b l v u):b ∉ v.ownBlock.toList:=by
 intro hm
 obtain ⟨p,_,hb⟩:=h.box
 have:=h.ne b (by simpa using hm) _ _ hb
 cases this
theorem Qa9 {base b:Nat} {l:List UInt8} {v:Value} {u:World} (h:BdAt base b l v u) :
  Calls Tryz.prog 83 #[.pointer (some ⟨b,0,none⟩)] u fun e u'=>e = .returned (.tuple #[])∧u'.heap[b]? = some (.cells #[.pointer (some ⟨b,0,none⟩),v] 92)∧u'.ownsRow base 5 1 v l.length (Lib.byteCells l)∧Qa [b] u u'∧u'.heap.size=u.heap.size:=by
 obtain ⟨p,hp,hb⟩:=h.box
 have hb':=Qc hb
 rcases hp with rfl | rfl
 ·refine (Qd8 b u (by simp [World.cell?,hb]) (by simp [World.shape?,hb]) (by simp [World.frozen?,hb])).mono ?_
  rintro e u' ⟨rfl,rfl⟩
  have hk:=(Qa.refl [b] u).setIn (p:=⟨b,0,none⟩) (by simp) (.pointer (some ⟨b,0,none⟩))
  refine ⟨rfl,?_,Qx h.row hk (fun g hg hm=>h.own_ne (by have e:g=b:=(by simpa using hm);rw [hg,← e];simp)),hk,by simp⟩
  have:=QB (i:=0) hb (.pointer (some ⟨b,0,none⟩))
  simpa using this
 ·refine (QeD b u (by simp [World.cell?,hb])).mono ?_
  rintro e u' ⟨rfl,rfl⟩
  exact ⟨rfl,hb,h.row,Qa.refl _ _,rfl⟩
theorem Q69 {base b:Nat} {l:List UInt8} {v:Value} {u:World} (h:BdAt base b l v u) (s:List UInt8) (hl:l.length + s.length≤140737488355328) :
  Calls Tryz.prog 43 #[.pointer (some ⟨b,0,none⟩),.string ⟨s.toArray⟩] u fun e u'=>(∃ x,e = .returned x)∧∃ v',BdAt base b (l++s) v' u'∧Qa (b :: v.ownBlock.toList) u u':=by
 obtain ⟨i0,hi,hz0,hz1,hz2⟩:=info_parts QdO
 have VC:=Hid.mk (Qa9 h)
 have HO:=Hid.mk h.old
 have HN:=Hid.mk h.own_ne
 clear h
 go_enter Tryz.func43,Tryz.ntmps43
 go_wp2_with fail
 refine VC.out.mono ?_
 rintro e w1 ⟨rfl,hb1,hr1,hk1,hs1⟩
 have c0:w1.cell? ⟨b,0,none⟩=some (.pointer (some ⟨b,0,none⟩)):=by simp [World.cell?,hb1]
 have c1:w1.cell? ⟨b,1,none⟩=some v:=by simp [World.cell?,hb1]
 have hbl:=Qc hb1
 have HS1:=Hid.mk hs1
 clear hs1
 go_wp2_with (at_builtin;refine Lib.wpList_append_own_string _ rfl _ _ 90 9 rfl base 5 i0 Tryz.underlying90 Tryz.underlying9 hi hz0 hz1 hz2 _ _ _ rfl hr1 ⟨s.toArray⟩ rfl ?c3 ?c4 ?c5 ?_)
 case c3=>unfold maxLen;show l.length + s.length≤_;omega
 case c4=>show l.length + s.length≤_;omega
 case c5=>have:=HO.out;have:=HS1.out;omega
 intro v' w2 hown' hgrow _
 have hb2:w2.heap[b]? = some (.cells #[.pointer (some ⟨b,0,none⟩),v] 92):=by
  rw [hgrow.block b hbl (fun e=>HN.out (by rw [← e];simp))]
  exact hb1
 have d0:w2.cell? ⟨b,0,none⟩=some (.pointer (some ⟨b,0,none⟩)):=by simp [World.cell?,hb2]
 have d1:w2.cell? ⟨b,1,none⟩=some v:=by simp [World.cell?,hb2]
 have f1:w2.frozen? ⟨b,1,none⟩=false:=by simp [World.frozen?,hb2]
 obtain ⟨ao,n',cap,rfl⟩:∃ ao n' cap,v' = .slice ao n' cap:=by
  rcases hown'.2 with ⟨hv,_⟩ | ⟨g,cap,cur,hv,_⟩
  ·exact ⟨_,_,_,hv⟩
  ·exact ⟨_,_,_,hv⟩
 have HB2:=Hid.mk hb2
 have HO':=Hid.mk hown'
 have HG:=Hid.mk (Q0t hgrow)
 clear hb1 hr1 hown' hgrow hb2
 go_wp2
 go_ret2
 have hrow:w2.ownsRow base 5 1 (.slice ao n' cap) (l++s).length (Lib.byteCells (l++s)):=by
  have:=HO'.out
  have e1:Lib.byteCells l++Lib.strCells ⟨s.toArray⟩=Lib.byteCells (l++s):=by simp [Lib.byteCells,Lib.strCells]
  rw [e1] at this
  simpa [ByteArray.size] using this
 have hset:(w2.setCell ⟨b,1,none⟩ (.slice ao n' cap)).heap[b]? = some (.cells #[.pointer (some ⟨b,0,none⟩),.slice ao n' cap] 92):=by
  have:=QB (i:=1) HB2.out (.slice ao n' cap)
  simpa using this
 have hkk:Qa (b :: v.ownBlock.toList) u (w2.setCell ⟨b,1,none⟩ (.slice ao n' cap)):=((hk1.mono (by simp)).trans (HG.out.mono (fun x hx=>List.mem_cons_of_mem _ hx))).setIn (p:=⟨b,1,none⟩) (by simp) _
 refine ⟨⟨_,rfl⟩,.slice ao n' cap,⟨⟨_,Or.inr rfl,hset⟩,?_,Nat.le_trans HO.out hkk.size⟩,hkk⟩
 refine Qx hrow ((Qa.refl [b] w2).setIn (p:=⟨b,1,none⟩) (by simp) _) (fun g hg hm=>?_)
 have hgb:g=b:=by simpa using hm
 subst hgb
 rcases hrow.2 with ⟨h0,_⟩ | ⟨g',cap',cur,h0,_,h2,_⟩
 ·rw [h0] at hg;cases hg
 ·rw [h0] at hg;cases hg;rw [HB2.out] at h2;cases h2
theorem Q79 {base b:Nat} {l:List UInt8} {v:Value} {u:World} (h:BdAt base b l v u) (c:UInt8) (hl:l.length + 1≤140737488355328) :
  Calls Tryz.prog 59 #[.pointer (some ⟨b,0,none⟩),.int .u8 c.toNat] u fun e u'=>(∃ x,e = .returned x)∧∃ v',BdAt base b (l++[c]) v' u'∧Qa (b :: v.ownBlock.toList) u u':=by
 obtain ⟨i0,hi,hz0,hz1,hz2⟩:=info_parts QdO
 have VC:=Hid.mk (Qa9 h)
 have HO:=Hid.mk h.old
 have HN:=Hid.mk h.own_ne
 clear h
 go_enter Tryz.func59,Tryz.ntmps59
 go_wp2_with fail
 refine VC.out.mono ?_
 rintro e w1 ⟨rfl,hb1,hr1,hk1,hs1⟩
 have c0:w1.cell? ⟨b,0,none⟩=some (.pointer (some ⟨b,0,none⟩)):=by simp [World.cell?,hb1]
 have c1:w1.cell? ⟨b,1,none⟩=some v:=by simp [World.cell?,hb1]
 have hbl:=Qc hb1
 have HS1:=Hid.mk hs1
 clear hs1
 go_wp2_with (at_builtin;go_must (refine wpList_append_own _ rfl _ _ 90 rfl base 5 i0 (.int .u8 0) 1 1 Tryz.underlying90 hi hz0 hz1 hz2 rfl (by decide) _ _ _ rfl (hr1.alloc _) ⟨w1.heap.size,0,none⟩ 1 1 [.int .u8 c.toNat] rfl rfl ?c1 ?c2 ?c3 ?c4 ?c5 ?_))
 case c1=>
  intro j u hj
  match j,hj with
  | 0,hj=>simp at hj;subst hj;simp [Addr.add]
 case c2=>intro u hu;simp at hu;subst hu;rfl
 case c3=>unfold maxLen;omega
 case c4=>omega
 case c5=>have:=HO.out;have:=HS1.out;simp;omega
 intro v' w2 hown' hgrow _
 have hb2:w2.heap[b]? = some (.cells #[.pointer (some ⟨b,0,none⟩),v] 92):=by
  rw [hgrow.block b (by simp;omega) (fun e=>HN.out (by rw [← e];simp))]
  exact (Below.heap_alloc _ _ _ hbl).trans hb1
 have d0:w2.cell? ⟨b,0,none⟩=some (.pointer (some ⟨b,0,none⟩)):=by simp [World.cell?,hb2]
 have d1:w2.cell? ⟨b,1,none⟩=some v:=by simp [World.cell?,hb2]
 have f1:w2.frozen? ⟨b,1,none⟩=false:=by simp [World.frozen?,hb2]
 obtain ⟨ao,n',cap,rfl⟩:∃ ao n' cap,v' = .slice ao n' cap:=by
  rcases hown'.2 with ⟨hv,_⟩ | ⟨g,cap,cur,hv,_⟩
  ·exact ⟨_,_,_,hv⟩
  ·exact ⟨_,_,_,hv⟩
 have HB2:=Hid.mk hb2
 have HO':=Hid.mk hown'
 have HG:=Hid.mk (((Qa.refl [] w1).alloc _).mono (M':=v.ownBlock.toList) (by simp) |>.trans (Q0t hgrow))
 clear hb1 hr1 hown' hgrow hb2
 go_wp2
 go_ret
 have hrow:w2.ownsRow base 5 1 (.slice ao n' cap) (l++[c]).length (Lib.byteCells (l++[c])):=by
  have:=HO'.out
  have e1:Lib.byteCells l++[.int .u8 c.toNat]=Lib.byteCells (l++[c]):=by simp [Lib.byteCells]
  rw [e1] at this
  simpa using this
 have hset:(w2.setCell ⟨b,1,none⟩ (.slice ao n' cap)).heap[b]? = some (.cells #[.pointer (some ⟨b,0,none⟩),.slice ao n' cap] 92):=by
  have:=QB (i:=1) HB2.out (.slice ao n' cap)
  simpa using this
 have hkk:Qa (b :: v.ownBlock.toList) u (w2.setCell ⟨b,1,none⟩ (.slice ao n' cap)):=((hk1.mono (by simp)).trans (HG.out.mono (fun x hx=>List.mem_cons_of_mem _ hx))).setIn (p:=⟨b,1,none⟩) (by simp) _
 refine ⟨⟨_,rfl⟩,.slice ao n' cap,⟨⟨_,Or.inr rfl,hset⟩,?_,Nat.le_trans HO.out hkk.size⟩,hkk⟩
 refine Qx hrow ((Qa.refl [b] w2).setIn (p:=⟨b,1,none⟩) (by simp) _) (fun g hg hm=>?_)
 have hgb:g=b:=by simpa using hm
 subst hgb
 rcases hrow.2 with ⟨h0,_⟩ | ⟨g',cap',cur,h0,_,h2,_⟩
 ·rw [h0] at hg;cases hg
 ·rw [h0] at hg;cases hg;rw [HB2.out] at h2;cases h2
end Go.Proofs.YtmbcibgknckenaaGreatDoor
namespace Go.Proofs.YtmbcibgknckenaaGreatDoor
open Go.RowKit
open Mar (joinW)
def Q5i:List UInt8→List (List UInt8)→List UInt8
 | l,[]=>l
 | _,w :: ws=>Q5i w ws
abbrev PSt:=List UInt8×List UInt8
def putS (st:PSt) (ws:List (List UInt8)):PSt:=(st.1++joinW Q0E st.2 ws,Q5i st.2 ws)
theorem Q7y {ap:List UInt8→List UInt8→Bool}:∀ (a b:List (List UInt8)) (l:List UInt8),joinW ap l (a++b)=joinW ap l a++joinW ap (Q5i l a) b:=by
 intro a
 induction a with
 | nil=>intro b l;rfl
 | cons w ws ih=>intro b l;simp only [List.cons_append,joinW,Q5i,ih,List.append_assoc]
theorem QfR:∀ (a b:List (List UInt8)) (l:List UInt8),Q5i l (a++b)=Q5i (Q5i l a) b:=by
 intro a
 induction a with
 | nil=>intro b l;rfl
 | cons w ws ih=>intro b l;exact ih b w
theorem Qu (st:PSt) (a b:List (List UInt8)):putS (putS st a) b=putS st (a++b):=by
 simp only [putS,Q7y,QfR,List.append_assoc]
theorem Q8A (st:PSt):putS st []=st:=by simp [putS,joinW,Q5i]
theorem Q2d (st:PSt) (a b:List (List UInt8)):(putS st a).1.length≤(putS st (a++b)).1.length:=by
 rw [← Qu]
 simp [putS]
structure Q4Q (w0:World) (b L:Nat) (st:PSt) (v:Value) (u:World):Prop where
 bd:BdAt w0.heap.size b st.1 v u
 last:u.heap[L]? = some (.cells #[.string ⟨st.2.toArray⟩] 9)
 kp:Qa [] w0 u
 nb:w0.heap.size≤b
 nl:w0.heap.size≤L
def Put (w0:World) (b L:Nat) (st:PSt) (u:World):Prop:=∃ v,Q4Q w0 b L st v u
def QT (b L:Nat) (u u':World):Prop:=u.heap.size≤u'.heap.size∧∀ k o,u.heap[k]? = some o→k≠b→k≠L→(∀ cs fr,o≠.cells cs 5 fr)→u'.heap[k]? = some o
theorem QT.refl (b L:Nat) (u:World):QT b L u u:=⟨Nat.le_refl _,fun _ _ h _ _ _=>h⟩
theorem QT.trans {b L:Nat} {u u1 u2:World} (h:QT b L u u1) (k:QT b L u1 u2):QT b L u u2:=⟨Nat.le_trans h.1 k.1,fun j o h1 h2 h3 h4=>k.2 j o (h.2 j o h1 h2 h3 h4) h2 h3 h4⟩
theorem QT.of_keeps {b L:Nat} {u u1:World} (h:Qa [] u u1):QT b L u u1:=⟨h.size,fun k o h1 _ _ _=>(h.block k (Qc h1) (by simp)).trans h1⟩
theorem Put.keeps {w0:World} {b L:Nat} {st:PSt} {u u':World} (h:Put w0 b L st u) (hk:Qa [] u u'):Put w0 b L st u':=by
 obtain ⟨v,⟨⟨p,hp,hb⟩,hr,ho⟩,hl,hkp,h1,h2⟩:=h
 exact ⟨v,⟨⟨p,hp,(hk.block _ (Qc hb) (by simp)).trans hb⟩,Qx hr hk (by simp),Nat.le_trans ho hk.size⟩,(hk.block _ (Qc hl) (by simp)).trans hl,hkp.trans hk,h1,h2⟩
theorem Q4Q.lb {w0:World} {b L:Nat} {st:PSt} {v:Value} {u:World} (h:Q4Q w0 b L st v u):L≠b:=by
 intro e
 obtain ⟨p,_,hb⟩:=h.bd.box
 have:=h.last
 rw [e,hb] at this
 cases this
theorem Q4Q.lo {w0:World} {b L:Nat} {st:PSt} {v:Value} {u:World} (h:Q4Q w0 b L st v u):L ∉ v.ownBlock.toList:=by
 intro hm
 have:=h.bd.ne L (by simpa using hm) _ _ h.last
 cases this
theorem Q4Q.more {w0:World} {b L:Nat} {st:PSt} {v v':Value} {u u':World} {l:List UInt8} (h:Q4Q w0 b L st v u) (hb:BdAt w0.heap.size b l v' u') (hk:Qa (b :: v.ownBlock.toList) u u'):Q4Q w0 b L (l,st.2) v' u'∧QT b L u u':=by
 have hy:∀ g,v.ownBlock=some g→w0.heap.size≤g:=fun g hg=>(Q2p h.bd.row hg).1
 have hL:L ∉ b :: v.ownBlock.toList:=by
  intro hm
  rcases List.mem_cons.1 hm with hm | hm
  ·exact h.lb hm
  ·exact h.lo hm
 refine ⟨⟨hb,(hk.block _ (Qc h.last) hL).trans h.last,h.kp.young hk (fun q hq=>Or.inr ?_),h.nb,h.nl⟩,hk.size,fun k o h1 h2 h3 h4=>(hk.block k (Qc h1) ?_).trans h1⟩
 ·rcases List.mem_cons.1 hq with hq | hq
  ·rw [hq];exact h.nb
  ·exact hy q (by simpa using hq)
 ·intro hm
  rcases List.mem_cons.1 hm with hm | hm
  ·exact h2 hm
  ·rcases h.bd.row.2 with ⟨h0,_⟩ | ⟨g',cap,cur,h0,_,h5,_⟩
   ·rw [h0] at hm;simp [Value.ownBlock] at hm
   ·have hg:v.ownBlock=some k:=by simpa using hm
    rw [h0] at hg
    cases hg
    rw [h5] at h1
    cases h1
    exact h4 _ _ rfl
abbrev strs (ws:List (List UInt8)):Array Value:=(ws.map fun x=>Value.string ⟨x.toArray⟩).toArray
abbrev putV (b L:Nat):Value:=.func (.func 57) #[] #[.pointer (some ⟨L,0,none⟩),.pointer (some ⟨b,0,none⟩)]
def Q1M (w0:World) (b L:Nat) (st:PSt) (u:World) (e:Ending) (u':World):Prop:=e = .returned (.tuple #[])∧Put w0 b L st u'∧QT b L u u'
theorem Q4Q.setLast {w0:World} {b L:Nat} {st:PSt} {v:Value} {u:World} (h:Q4Q w0 b L st v u) (s:List UInt8):Put w0 b L (st.1,s) (u.setCell ⟨L,0,none⟩ (.string ⟨s.toArray⟩))∧QT b L u (u.setCell ⟨L,0,none⟩ (.string ⟨s.toArray⟩)):=by
 have hk:=(Qa.refl [L] u).setIn (p:=⟨L,0,none⟩) (by simp) (.string ⟨s.toArray⟩)
 have hLb:b ∉ [L]:=by simpa using h.lb.symm
 obtain ⟨p,hp,hb⟩:=h.bd.box
 refine ⟨⟨v,⟨⟨p,hp,(hk.block b (Qc hb) hLb).trans hb⟩,Qx h.bd.row hk (fun g hg hm=>h.lo (by have e:g=L:=(by simpa using hm);rw [hg,← e];simp)),by have:=hk.size;have:=h.bd.old;omega⟩,?_,h.kp.young hk (fun q hq=>Or.inr (by have:q=L:=(by simpa using hq);rw [this];exact h.nl)),h.nb,h.nl⟩,hk.size,fun k o h1 h2 h3 h4=>(hk.block k (Qc h1) (by simpa using h3)).trans h1⟩
 have:=QB (i:=0) h.last (.string ⟨s.toArray⟩)
 simpa using this
theorem QgW {st:PSt} {ws:List (List UInt8)} {k:Nat} (hk:k < ws.length):putS st (ws.take (k + 1))=((putS st (ws.take k)).1++((if Q0E (putS st (ws.take k)).2 ws[k] then [32] else [])++ws[k]),ws[k]):=by
 rw [List.take_succ_eq_append_getElem hk,← Qu]
 generalize putS st (ws.take k)=c
 simp [putS,joinW,Q5i]
theorem QgX {w0:World} {b L:Nat} {st:PSt} {u:World} (h:Put w0 b L st u) (ws:List (List UInt8)) {A:Nat} (hA:u.heap[A]? = some (.cells (strs ws) 9)) (hAL:A≠L) (hAb:A≠b) (hl:(putS st ws).1.length≤140737488355328) (hn:ws.length≤1000) :
  Calls Tryz.prog 57 #[.slice (some ⟨A,0,none⟩) ws.length ws.length,.pointer (some ⟨L,0,none⟩),.pointer (some ⟨b,0,none⟩)] u (Q1M w0 b L (putS st ws) u):=by
 have H0:=Hid.mk (show Put w0 b L (putS st (ws.take 0)) u by rw [List.take_zero,Q8A];exact h)
 have HA:=Hid.mk hA
 have HLn:=Hid.mk hl
 have HAL:=Hid.mk hAL
 have HAb:=Hid.mk hAb
 clear h hA hl hAL hAb
 go_enter Tryz.func57,Tryz.ntmps57
 go_wp2_with fail
 go_loopw [8] (fun i ur=>∃ (k:Nat),i = .int .i64 k∧k≤ws.length∧Hid (Put w0 b L (putS st (ws.take k)) ur)∧Hid (QT b L u ur)) (fun i _=>ws.length - (intOf i).toNat)
 case atStart=>exact ⟨0,rfl,by omega,H0,QT.refl _ _ _⟩
 case round=>
  obtain ⟨k,rfl,hk,HP,HS⟩:=hrel
  clear H0
  rcases Nat.lt_or_ge k ws.length with hlt | hge
  ·obtain ⟨v,hP⟩:=HP.out
   have hAw:wr.heap[A]? = some (.cells (strs ws) 9):=HS.out.2 A _ HA.out HAb.out HAL.out (by intro cs fr h;cases h)
   have cA:wr.cell? ⟨A,k,none⟩=some (.string ⟨ws[k].toArray⟩):=by simp [World.cell?,hAw,hlt]
   have cL:wr.cell? ⟨L,0,none⟩=some (.string ⟨(putS st (ws.take k)).2.toArray⟩):=by simp [World.cell?,hP.last]
   have hlen:(putS st (ws.take (k + 1))).1.length≤140737488355328:=by
    have:=Q2d st (ws.take (k + 1)) (ws.drop (k + 1))
    rw [List.take_append_drop] at this
    exact Nat.le_trans this HLn.out
   have HO:=Hid.mk (QgW (st:=st) hlt)
   rw [HO.out] at hlen
   have HLe:=Hid.mk hlen
   have k0:(0:Int)≤(k:Int):=by omega
   have k1:(k:Int) < (ws.length:Int):=by omega
   have HPv:=Hid.mk hP
   clear hAw hP hlen
   generalize hc:putS st (ws.take k)=c at HPv cL HO HLe
   generalize hw:ws[k]=w at cA HO HLe
   obtain ⟨o,l⟩:=c
   simp only at cL HO HLe
   go_wp2_with fail
   refine (QfQ l w wr).mono ?_
   rintro e w1 ⟨rfl,rfl⟩
   /- the word,and the last word -/
   cases hap:Q0E l w with
   | true=>
    rw [hap] at HO HLe
    have VB:=Hid.mk (Q79 HPv.out.bd 32 (by have:=HLe.out;simp at this;simp only;omega))
    go_wp2_with fail
    refine VB.out.mono ?_
    rintro e w2 ⟨⟨x2,rfl⟩,v2,hb2,hk2⟩
    obtain ⟨hP2,hs2⟩:=HPv.out.more hb2 hk2
    have HS2:=Hid.mk (HS.out.trans hs2)
    have VW:=Hid.mk (Q69 hP2.bd w (by have:=HLe.out;simp at this ⊢;omega))
    have HP2:=Hid.mk hP2
    clear hP2 hs2 hb2 hk2 VB cA cL
    go_wp2_with fail
    refine VW.out.mono ?_
    rintro e w3 ⟨⟨x3,rfl⟩,v3,hb3,hk3⟩
    obtain ⟨hP3,hs3⟩:=HP2.out.more hb3 hk3
    have c3:w3.cell? ⟨L,0,none⟩=some (.string ⟨l.toArray⟩):=by simp [World.cell?,hP3.last]
    have f3:w3.frozen? ⟨L,0,none⟩=false:=by simp [World.frozen?,hP3.last]
    obtain ⟨hP4,hs4⟩:=hP3.setLast w
    have HS4:=Hid.mk ((HS2.out.trans hs3).trans hs4)
    have HP4:Hid (Put w0 b L (putS st (ws.take (k + 1))) (w3.setCell ⟨L,0,none⟩ (.string ⟨w.toArray⟩))):=by
     show Put _ _ _ _ _
     rw [HO.out]
     simpa using hP4
    clear hP3 hs3 hb3 hk3 VW hP4 hs4 HS2 HP2 HPv
    go_wp2
    exact ⟨⟨k + 1,by go_num,by omega,HP4,HS4⟩,by simp [intOf];omega⟩
   | false=>
    rw [hap] at HO HLe
    have VW:=Hid.mk (Q69 HPv.out.bd w (by have:=HLe.out;simp at this ⊢;omega))
    clear cA cL
    go_wp2_with fail
    refine VW.out.mono ?_
    rintro e w3 ⟨⟨x3,rfl⟩,v3,hb3,hk3⟩
    obtain ⟨hP3,hs3⟩:=HPv.out.more hb3 hk3
    have c3:w3.cell? ⟨L,0,none⟩=some (.string ⟨l.toArray⟩):=by simp [World.cell?,hP3.last]
    have f3:w3.frozen? ⟨L,0,none⟩=false:=by simp [World.frozen?,hP3.last]
    obtain ⟨hP4,hs4⟩:=hP3.setLast w
    have HS4:=Hid.mk ((HS.out.trans hs3).trans hs4)
    have HP4:Hid (Put w0 b L (putS st (ws.take (k + 1))) (w3.setCell ⟨L,0,none⟩ (.string ⟨w.toArray⟩))):=by
     show Put _ _ _ _ _
     rw [HO.out]
     simpa using hP4
    clear hP3 hs3 hb3 hk3 VW hP4 hs4 HPv
    go_wp2
    exact ⟨⟨k + 1,by go_num,by omega,HP4,HS4⟩,by simp [intOf];omega⟩
  ·have hkk:k=ws.length:=by omega
   subst hkk
   have hge0:¬ ((ws.length:Int) < (ws.length:Int)):=by omega
   rw [List.take_length] at HP
   go_wp2
   go_end0
   exact ⟨rfl,HP.out,HS.out⟩
end Go.Proofs.YtmbcibgknckenaaGreatDoor
namespace Go.Proofs.YtmbcibgknckenaaGreatDoor
open Go.RowKit
open Go.Sort Go.Lib
open Mar (joinW)
theorem QeE (w:World) (k:Nat) (os:Array Obj):Qa [] w (grow (w.drewN k) os):=by
 refine ⟨rfl,rfl,rfl,by simp [grow,World.drewN],fun j hj _=>?_⟩
 show (w.heap++os)[j]? = _
 rw [Array.getElem?_append_left hj]
theorem Qaa {w u:World} {n:String} {k:IntKind} {zs:List Int} (h:TabIs Tryz.prog w n k zs) (hk:Qa [] w u):TabIs Tryz.prog u n k zs:=by
 unfold TabIs World.var? at h ⊢
 cases hg:Tryz.prog.globalNamed n with
 | none=>rw [hg] at h;cases h
 | some g=>
  rw [hg] at h
  simp only [Option.bind_some] at h ⊢
  cases hw:w.heap[g]? with
  | none=>rw [hw] at h;cases h
  | some o=>rw [hw] at h;rw [hk.block g (Qc hw) (by simp),hw];exact h
abbrev Pow (w : World) : Prop := TabIs Tryz.prog w "internal/strconv.uint64pow10" .u64 pow10Tab
theorem Q1U (n:Int) (h0:-9223372036854775808≤n) (h1:n≤9223372036854775807) {w:World} (htab:Pow w) :
  Calls Tryz.prog 247 #[.int .i64 n] w fun e w'=>e = .returned (.string ⟨(itoa n).toArray⟩)∧Qa [] w w':=by
 refine (QeC n h0 h1 w htab).mono ?_
 rintro e w' ⟨rfl,k,os,rfl⟩
 exact ⟨rfl,QeE _ _ _⟩
theorem Put.pow {w0:World} {b L:Nat} {st:PSt} {u:World} (h:Put w0 b L st u) (hp:Pow w0):Pow u:=by
 obtain ⟨v,h⟩:=h
 exact Qaa hp h.kp
theorem Put.lt {w0:World} {b L:Nat} {st:PSt} {u:World} (h:Put w0 b L st u):b < u.heap.size∧L < u.heap.size:=by
 obtain ⟨v,h⟩:=h
 obtain ⟨p,_,hb⟩:=h.bd.box
 exact ⟨Qc hb,Qc h.last⟩
theorem QZ {w0:World} {b L:Nat} {st:PSt} {u:World} (h:Put w0 b L st u) (ws:List (List UInt8)) (hl:(putS st ws).1.length≤140737488355328) (k n:Nat) (cs:Array Value) (hk:k=u.heap.size) (hn:n=ws.length) (hcs:cs=strs ws) (h1000:n≤1000) :
  Calls Tryz.prog 57 #[.slice (some ⟨k,0,none⟩) n n,.pointer (some ⟨L,0,none⟩),.pointer (some ⟨b,0,none⟩)] (u.alloc (.cells cs 9)) (Q1M w0 b L (putS st ws) u):=by
 subst hk hn hcs
 have hk:=(Qa.refl [] u).alloc (.cells (strs ws) 9)
 refine (QgX (h.keeps hk) ws (A:=u.heap.size) (Qi rfl) (Nat.ne_of_gt h.lt.2) (Nat.ne_of_gt h.lt.1) hl h1000).mono ?_
 rintro e u' ⟨he,hp,hs⟩
 exact ⟨he,hp,(QT.of_keeps hk).trans hs⟩
def Q3r (n:Int) (f:Bool):List (List UInt8):=if f then [[91],itoa n,[93]] else [[60],itoa n,[62]]
def Q0S (d:Qk):List (List UInt8):=match d.ty with
 | .opaq n f=>[[111,112,97,113,117,101],d.t]++Q3r n f
 | .str n f=>[[115,116,114,105,110,103],d.t]++Q3r n f
 | .arr o n f=>[Q1I o,d.t]++Q3r n f
 | .opt o=>[Q1I o,[42],d.t]
 | .void=>[Q1I .void]
 | t=>[Q1I t,d.t]
abbrev I64 (n:Int):Prop:=-9223372036854775808≤n∧n≤9223372036854775807
def ty64:Ty→Prop
 | .opaq n _=>I64 n
 | .str n _=>I64 n
 | .arr _ n _=>I64 n
 | _=>True
theorem QdP {B:Nat} {x y:Value} {T:TypeId} {u:World} (h:u.heap[B]? = some (.cells #[x,y] T)):u.cell? ⟨B,0,none⟩=some x∧u.cell? ⟨B,1,none⟩=some y:=by
 constructor<;>simp [World.cell?,h]
theorem Q6j {w0:World} {b L:Nat} {st:PSt} {u:World} (h:Put w0 b L st u) (hw:Pow w0) (n:Int) (f:Bool) (h64:I64 n) (hl:(putS st (Q3r n f)).1.length≤140737488355328) :
  Calls Tryz.prog 253 #[.agg #[.int .i64 n,.bool f],putV b L] u (Q1M w0 b L (putS st (Q3r n f)) u):=by
 have hk:=(Qa.refl [] u).alloc (.cells #[.int .i64 n,.bool f] 304)
 have VD:=Hid.mk (Q1U n h64.1 h64.2 ((h.keeps hk).pow hw))
 have H:=Hid.mk (h.keeps hk)
 have HL:=Hid.mk hl
 clear h hl h64
 cases f with
 | true=>
  go_enter Tryz.func253,Tryz.ntmps253
  go_wp2_with fail
  refine VD.out.mono ?_
  rintro e w1 ⟨rfl,hk1⟩
  have VP:=Hid.mk (QZ (H.out.keeps hk1) [[91],itoa n,[93]] HL.out)
  have HK:=Hid.mk (hk.trans hk1)
  clear hk1 VD hk
  go_wp2_with fail
  refine (VP.out _ _ _ (by simp) rfl rfl (by simp)).mono ?_
  rintro e w2 ⟨rfl,hp2,hs2⟩
  have HS:=Hid.mk ((QT.of_keeps HK.out).trans hs2)
  have HP:=Hid.mk hp2
  clear hp2 hs2 VP
  go_wp2
  go_end0
  exact ⟨rfl,HP.out,HS.out⟩
 | false=>
  go_enter Tryz.func253,Tryz.ntmps253
  go_wp2_with fail
  refine VD.out.mono ?_
  rintro e w1 ⟨rfl,hk1⟩
  have VP:=Hid.mk (QZ (H.out.keeps hk1) [[60],itoa n,[62]] HL.out)
  have HK:=Hid.mk (hk.trans hk1)
  clear hk1 VD hk
  go_wp2_with fail
  refine (VP.out _ _ _ (by simp) rfl rfl (by simp)).mono ?_
  rintro e w2 ⟨rfl,hp2,hs2⟩
  have HS:=Hid.mk ((QT.of_keeps HK.out).trans hs2)
  have HP:=Hid.mk hp2
  clear hp2 hs2 VP
  go_wp2
  go_end0
  exact ⟨rfl,HP.out,HS.out⟩
theorem Q7z {b L:Nat} {u u':World} (h:QT b L u u') {k:Nat} {cs:Array Value} {T:TypeId} (hc:u.heap[k]? = some (.cells cs T)) (hb:b < k) (hL:L < k) (hT:T≠5):u'.heap[k]? = some (.cells cs T):=
 h.2 k _ hc (by omega) (by omega) (by intro cs' fr e;cases e;exact hT rfl)
theorem Qab (u:World) (o1 o2:Obj):((u.alloc o1).alloc o2).heap[u.heap.size]? = some o1∧((u.alloc o1).alloc o2).heap[u.heap.size + 1]? = some o2:=
 ⟨(Below.heap_alloc _ _ _ (by simp)).trans (Qi rfl),Qi (by simp)⟩
theorem Qs {B i:Nat} {cs:Array Value} {T:TypeId} {u:World} {v:Value} (h:u.heap[B]? = some (.cells cs T)) (hi:cs[i]? = some v):u.cell? ⟨B,i,none⟩=some v:=by simp [World.cell?,h,hi]
theorem Q5j {w0:World} {b L:Nat} {st:PSt} {u:World} (h:Put w0 b L st u) (hw:Pow w0) (d:Qk) (h64:ty64 d.ty) (hl:(putS st (Q0S d)).1.length≤140737488355328) :
  Calls Tryz.prog 252 #[.agg (Q0C d).toArray,putV b L] u (Q1M w0 b L (putS st (Q0S d)) u):=by
 obtain ⟨t,at',ty⟩:=d
 have hbl:=h.lt.1
 have hLl:=h.lt.2
 cases ty with
 | opaq n f=>
  have n0:∀ W,(Instr.typeAssert (.iface 306 (.agg #[.int .i64 n,.bool f])) 193 306 true).run Tryz.prog W = .ok (.tuple #[.agg #[.int .i64 n,.bool f],.bool true]) W:=fun W=>by kernel_rfl
  dsimp only [Q0C,tyV]
  have hk:=((Qa.refl [] u).alloc (.cells #[.string ⟨t.toArray⟩,.int .i64 at',.iface 306 (.agg #[.int .i64 n,.bool f])] 195)).alloc (.cells #[.int .i64 n,.bool f] 306)
  have VP:=Hid.mk (QZ (h.keeps hk) [[111,112,97,113,117,101],t] (Nat.le_trans (Q2d st [[111,112,97,113,117,101],t] (Q3r n f)) hl))
  have HK:=Hid.mk hk
  have H64:=Hid.mk h64
  have HL:=Hid.mk hl
  clear h hk hl h64
  go_enter Tryz.func252,Tryz.ntmps252
  go_wp2_with fail
  refine (VP.out _ _ _ (by simp) rfl rfl (by simp)).mono ?_
  rintro e w2 ⟨rfl,hp2,hs2⟩
  have hc:=Q7z hs2 (k:=u.heap.size + 1) (Qi (by simp)) (by omega) (by omega) (by decide)
  obtain ⟨c0,c1⟩:=QdP hc
  have VB:=Hid.mk (Q6j hp2 hw n f H64.out (by rw [Qu];exact HL.out))
  have HS:=Hid.mk ((QT.of_keeps HK.out).trans hs2)
  clear hp2 hs2 VP hc HK
  go_wp2_with fail
  refine VB.out.mono ?_
  rintro e w3 ⟨rfl,hp3,hs3⟩
  rw [Qu] at hp3
  have HS3:=Hid.mk (HS.out.trans hs3)
  have HP3:=Hid.mk hp3
  clear hp3 hs3 VB HS
  go_wp2
  go_end0
  exact ⟨rfl,HP3.out,HS3.out⟩
 | str n f=>
  have n0:∀ W,(Instr.typeAssert (.iface 309 (.agg #[.int .i64 n,.bool f])) 193 306 true).run Tryz.prog W = .ok (.tuple #[.agg #[.int .i64 0,.bool false],.bool false]) W:=fun W=>by kernel_rfl
  have n1:∀ W,(Instr.typeAssert (.iface 309 (.agg #[.int .i64 n,.bool f])) 193 309 true).run Tryz.prog W = .ok (.tuple #[.agg #[.int .i64 n,.bool f],.bool true]) W:=fun W=>by kernel_rfl
  dsimp only [Q0C,tyV]
  have hk:=((Qa.refl [] u).alloc (.cells #[.string ⟨t.toArray⟩,.int .i64 at',.iface 309 (.agg #[.int .i64 n,.bool f])] 195)).alloc (.cells #[.int .i64 n,.bool f] 309)
  have VP:=Hid.mk (QZ (h.keeps hk) [[115,116,114,105,110,103],t] (Nat.le_trans (Q2d st [[115,116,114,105,110,103],t] (Q3r n f)) hl))
  have HK:=Hid.mk hk
  have H64:=Hid.mk h64
  have HL:=Hid.mk hl
  clear h hk hl h64
  go_enter Tryz.func252,Tryz.ntmps252
  go_wp2_with fail
  refine (VP.out _ _ _ (by simp) rfl rfl (by simp)).mono ?_
  rintro e w2 ⟨rfl,hp2,hs2⟩
  have hc:=Q7z hs2 (k:=u.heap.size + 1) (Qi (by simp)) (by omega) (by omega) (by decide)
  obtain ⟨c0,c1⟩:=QdP hc
  have VB:=Hid.mk (Q6j hp2 hw n f H64.out (by rw [Qu];exact HL.out))
  have HS:=Hid.mk ((QT.of_keeps HK.out).trans hs2)
  clear hp2 hs2 VP hc HK
  go_wp2_with fail
  refine VB.out.mono ?_
  rintro e w3 ⟨rfl,hp3,hs3⟩
  rw [Qu] at hp3
  have HS3:=Hid.mk (HS.out.trans hs3)
  have HP3:=Hid.mk hp3
  clear hp3 hs3 VB HS
  go_wp2
  go_end0
  exact ⟨rfl,HP3.out,HS3.out⟩
 | arr o n f=>
  obtain ⟨To,vo,ho⟩:=QG o
  have n0:∀ W,(Instr.typeAssert (.iface 311 (.agg #[.iface To vo,.int .i64 n,.bool f])) 193 306 true).run Tryz.prog W = .ok (.tuple #[.agg #[.int .i64 0,.bool false],.bool false]) W:=fun W=>by kernel_rfl
  have n1:∀ W,(Instr.typeAssert (.iface 311 (.agg #[.iface To vo,.int .i64 n,.bool f])) 193 309 true).run Tryz.prog W = .ok (.tuple #[.agg #[.int .i64 0,.bool false],.bool false]) W:=fun W=>by kernel_rfl
  have n2:∀ W,(Instr.typeAssert (.iface 311 (.agg #[.iface To vo,.int .i64 n,.bool f])) 193 311 true).run Tryz.prog W = .ok (.tuple #[.agg #[.iface To vo,.int .i64 n,.bool f],.bool true]) W:=fun W=>by kernel_rfl
  dsimp only [Q0C,tyV]
  rw [ho]
  have hk:=((Qa.refl [] u).alloc (.cells #[.string ⟨t.toArray⟩,.int .i64 at',.iface 311 (.agg #[.iface To vo,.int .i64 n,.bool f])] 195)).alloc (.cells #[.iface To vo,.int .i64 n,.bool f] 311)
  obtain ⟨g1,g2⟩:=Qab u (.cells #[.string ⟨t.toArray⟩,.int .i64 at',.iface 311 (.agg #[.iface To vo,.int .i64 n,.bool f])] 195) (.cells #[.iface To vo,.int .i64 n,.bool f] 311)
  have VS:=fun w=>Q2j (o) w
  simp only [ho] at VS
  have VS:=Hid.mk VS
  have H:=Hid.mk (h.keeps hk)
  have HK:=Hid.mk hk
  have HG1:=Hid.mk g1
  have HG2:=Hid.mk g2
  have H64:=Hid.mk h64
  have HL:=Hid.mk hl
  clear h hk hl h64 g1 g2
  go_enter Tryz.func252,Tryz.ntmps252
  go_wp2_with fail
  refine QH (fun w'=>w'.cell? ⟨u.heap.size + 1,0,none⟩=some (.iface To vo)∧w'.cell? ⟨u.heap.size,0,none⟩=some (.string ⟨t.toArray⟩)) (L:=8) (by kernel_rfl) rfl (by kernel_rfl) (by kernel_rfl) ?_ (fun hHeld=>?_)
  ·exact ⟨Qs HG2.out rfl,Qs HG1.out rfl⟩
  refine tk (i:=0) (v:=?_) rfl (by kernel_rfl) (fun _ _ _ h=>h) (by rfl) (by assumption) ?_ ?_
  rotate_left
  ·intro w hSw;(try dsimp only at hSw);go_simp;(try with_reducible rfl)
  (try simp only [Qd,Qe,List.set])
  refine tk (i:=1) (v:=?_) rfl (by kernel_rfl) (fun _ _ _ h=>h) (by rfl) (by assumption) ?_ ?_
  rotate_left
  ·intro w hSw;(try dsimp only at hSw);go_simp;(try with_reducible rfl)
  (try simp only [Qd,Qe,List.set])
  refine tk (i:=2) (v:=?_) rfl (by kernel_rfl) (fun _ _ _ h=>h) (by rfl) (by assumption) ?_ ?_
  rotate_left
  ·intro w hSw;(try dsimp only at hSw);go_simp;(try with_reducible rfl)
  (try simp only [Qd,Qe,List.set])
  refine tk (i:=4) (v:=?_) rfl (by kernel_rfl) (fun _ _ _ h=>h) (by rfl) (by assumption) ?_ ?_
  rotate_left
  ·intro w hSw;(try dsimp only at hSw);go_simp;(try with_reducible rfl)
  (try simp only [Qd,Qe,List.set])
  refine tk (i:=5) (v:=?_) rfl (by kernel_rfl) (fun _ _ _ h=>h) (by rfl) (by assumption) ?_ ?_
  rotate_left
  ·intro w hSw;(try dsimp only at hSw);go_simp;(try with_reducible rfl)
  (try simp only [Qd,Qe,List.set])
  refine tk (i:=6) (v:=?_) rfl (by kernel_rfl) (fun _ _ _ h=>h) (by rfl) (by assumption) ?_ ?_
  rotate_left
  ·intro w hSw;(try dsimp only at hSw);go_simp;(try with_reducible rfl)
  (try simp only [Qd,Qe,List.set])
  refine wpAnyH_ready (rs:=[3]) (by kernel_rfl) (by simp) ?_
  refine AllReadyH.cons rfl (fun K hK=>?_) AllReadyH.nil
  (go_simp;go_at_call 254;refine (VS.out _).mono ?_;rintro e w1 ⟨rfl,hb1⟩;have hk1:=(Qa.refl [] _).drew.trans (Qa.of_below [] hb1);have x2:=Qs (i:=0) ((hk1.block (u.heap.size + 1) (Qc HG2.out) (by simp)).trans HG2.out) rfl;have x1:=Qs (i:=0) ((hk1.block u.heap.size (Qc HG1.out) (by simp)).trans HG1.out) rfl;have HK1:=Hid.mk hk1;clear hb1 hk1)
  refine hK.out _ _ ?_ (fun hHeld=>?_)
  ·go_keep
  clear hK K
  (try simp only [Qd,Qe,List.set])
  refine wpAnyH_ready (rs:=[7]) (by kernel_rfl) (by simp) ?_
  refine AllReadyH.cons rfl (fun K hK=>?_) AllReadyH.nil
  go_simp
  refine hK.out _ _ ?_ (fun hHeld=>?_)
  ·go_keep
  clear hK K
  (try simp only [Qd,Qe,List.set])
  refine wpAnyH_done (by kernel_rfl) ?_ _
  have VP:=Hid.mk (QZ (H.out.keeps HK1.out) [Q1I o,t] (Nat.le_trans (Q2d st [Q1I o,t] (Q3r n f)) HL.out))
  refine Q02 rfl (fun K hK=>?_)
  (go_simp;refine (VP.out _ _ _ (by simp) rfl rfl (by simp)).mono ?_;rintro e w2 ⟨rfl,hp2,hs2⟩;have hc:=Q7z hs2 (k:=u.heap.size + 1) ((HK1.out.block (u.heap.size + 1) (Qc HG2.out) (by simp)).trans HG2.out) (by omega) (by omega) (by decide);have c1:=Qs (i:=1) hc rfl;have c2:=Qs (i:=2) hc rfl;have VB:=Hid.mk (Q6j hp2 hw n f H64.out (by rw [Qu];exact HL.out));have HS:=Hid.mk ((QT.of_keeps (HK.out.trans HK1.out)).trans hs2);clear hp2 hs2 hc)
  refine hK.out _ _ ?_
  clear hK K
  (try simp only [Qd,Qe,List.set])
  clear VP VS H HK HG1 HG2 HK1
  go_wp2_with fail
  refine VB.out.mono ?_
  rintro e w3 ⟨rfl,hp3,hs3⟩
  rw [Qu] at hp3
  have HS3:=Hid.mk (HS.out.trans hs3)
  have HP3:=Hid.mk hp3
  clear hp3 hs3 VB HS
  go_wp2
  go_end0
  exact ⟨rfl,HP3.out,HS3.out⟩
 | opt o=>
  obtain ⟨To,vo,ho⟩:=QG o
  have n0:∀ W,(Instr.typeAssert (.iface 314 (.agg #[.iface To vo])) 193 306 true).run Tryz.prog W = .ok (.tuple #[.agg #[.int .i64 0,.bool false],.bool false]) W:=fun W=>by kernel_rfl
  have n1:∀ W,(Instr.typeAssert (.iface 314 (.agg #[.iface To vo])) 193 309 true).run Tryz.prog W = .ok (.tuple #[.agg #[.int .i64 0,.bool false],.bool false]) W:=fun W=>by kernel_rfl
  have n2:∀ W,(Instr.typeAssert (.iface 314 (.agg #[.iface To vo])) 193 311 true).run Tryz.prog W = .ok (.tuple #[.agg #[.nilIface,.int .i64 0,.bool false],.bool false]) W:=fun W=>by kernel_rfl
  have n3:∀ W,(Instr.typeAssert (.iface 314 (.agg #[.iface To vo])) 193 314 true).run Tryz.prog W = .ok (.tuple #[.agg #[.iface To vo],.bool true]) W:=fun W=>by kernel_rfl
  dsimp only [Q0C,tyV]
  rw [ho]
  have hk:=((Qa.refl [] u).alloc (.cells #[.string ⟨t.toArray⟩,.int .i64 at',.iface 314 (.agg #[.iface To vo])] 195)).alloc (.cells #[.iface To vo] 314)
  obtain ⟨g1,g2⟩:=Qab u (.cells #[.string ⟨t.toArray⟩,.int .i64 at',.iface 314 (.agg #[.iface To vo])] 195) (.cells #[.iface To vo] 314)
  have VS:=fun w=>Q2j (o) w
  simp only [ho] at VS
  have VS:=Hid.mk VS
  have H:=Hid.mk (h.keeps hk)
  have HK:=Hid.mk hk
  have HG1:=Hid.mk g1
  have HG2:=Hid.mk g2
  have H64:=Hid.mk h64
  have HL:=Hid.mk hl
  clear h hk hl h64 g1 g2
  go_enter Tryz.func252,Tryz.ntmps252
  go_wp2_with fail
  refine QH (fun w'=>w'.cell? ⟨u.heap.size + 1,0,none⟩=some (.iface To vo)∧w'.cell? ⟨u.heap.size,0,none⟩=some (.string ⟨t.toArray⟩)) (L:=8) (by kernel_rfl) rfl (by kernel_rfl) (by kernel_rfl) ?_ (fun hHeld=>?_)
  ·exact ⟨Qs HG2.out rfl,Qs HG1.out rfl⟩
  refine tk (i:=0) (v:=?_) rfl (by kernel_rfl) (fun _ _ _ h=>h) (by rfl) (by assumption) ?_ ?_
  rotate_left
  ·intro w hSw;(try dsimp only at hSw);go_simp;(try with_reducible rfl)
  (try simp only [Qd,Qe,List.set])
  refine tk (i:=1) (v:=?_) rfl (by kernel_rfl) (fun _ _ _ h=>h) (by rfl) (by assumption) ?_ ?_
  rotate_left
  ·intro w hSw;(try dsimp only at hSw);go_simp;(try with_reducible rfl)
  (try simp only [Qd,Qe,List.set])
  refine tk (i:=2) (v:=?_) rfl (by kernel_rfl) (fun _ _ _ h=>h) (by rfl) (by assumption) ?_ ?_
  rotate_left
  ·intro w hSw;(try dsimp only at hSw);go_simp;(try with_reducible rfl)
  (try simp only [Qd,Qe,List.set])
  refine tk (i:=4) (v:=?_) rfl (by kernel_rfl) (fun _ _ _ h=>h) (by rfl) (by assumption) ?_ ?_
  rotate_left
  ·intro w hSw;(try dsimp only at hSw);go_simp;(try with_reducible rfl)
  (try simp only [Qd,Qe,List.set])
  refine tk (i:=5) (v:=?_) rfl (by kernel_rfl) (fun _ _ _ h=>h) (by rfl) (by assumption) ?_ ?_
  rotate_left
  ·intro w hSw;(try dsimp only at hSw);go_simp;(try with_reducible rfl)
  (try simp only [Qd,Qe,List.set])
  refine tk (i:=6) (v:=?_) rfl (by kernel_rfl) (fun _ _ _ h=>h) (by rfl) (by assumption) ?_ ?_
  rotate_left
  ·intro w hSw;(try dsimp only at hSw);go_simp;(try with_reducible rfl)
  (try simp only [Qd,Qe,List.set])
  refine wpAnyH_ready (rs:=[3]) (by kernel_rfl) (by simp) ?_
  refine AllReadyH.cons rfl (fun K hK=>?_) AllReadyH.nil
  (go_simp;go_at_call 254;refine (VS.out _).mono ?_;rintro e w1 ⟨rfl,hb1⟩;have hk1:=(Qa.refl [] _).drew.trans (Qa.of_below [] hb1);have x2:=Qs (i:=0) ((hk1.block (u.heap.size + 1) (Qc HG2.out) (by simp)).trans HG2.out) rfl;have x1:=Qs (i:=0) ((hk1.block u.heap.size (Qc HG1.out) (by simp)).trans HG1.out) rfl;have HK1:=Hid.mk hk1;clear hb1 hk1)
  refine hK.out _ _ ?_ (fun hHeld=>?_)
  ·go_keep
  clear hK K
  (try simp only [Qd,Qe,List.set])
  refine wpAnyH_ready (rs:=[7]) (by kernel_rfl) (by simp) ?_
  refine AllReadyH.cons rfl (fun K hK=>?_) AllReadyH.nil
  go_simp
  refine hK.out _ _ ?_ (fun hHeld=>?_)
  ·go_keep
  clear hK K
  (try simp only [Qd,Qe,List.set])
  refine wpAnyH_done (by kernel_rfl) ?_ _
  have VP:=Hid.mk (QZ (H.out.keeps HK1.out) [Q1I o,[42],t] HL.out)
  refine Q02 rfl (fun K hK=>?_)
  (go_simp;refine (VP.out _ _ _ (by simp) rfl rfl (by simp)).mono ?_;rintro e w2 ⟨rfl,hp2,hs2⟩;have HS:=Hid.mk ((QT.of_keeps (HK.out.trans HK1.out)).trans hs2);have HP:=Hid.mk hp2;clear hp2 hs2)
  refine hK.out _ _ ?_
  clear hK K
  (try simp only [Qd,Qe,List.set])
  clear VP VS H HK HG1 HG2 HK1
  go_wp2
  go_end0
  exact ⟨rfl,HP.out,HS.out⟩
 | void=>
  have n0:∀ W,(Instr.typeAssert (.iface 340 (.agg #[])) 193 306 true).run Tryz.prog W = .ok (.tuple #[.agg #[.int .i64 0,.bool false],.bool false]) W:=fun W=>by kernel_rfl
  have n1:∀ W,(Instr.typeAssert (.iface 340 (.agg #[])) 193 309 true).run Tryz.prog W = .ok (.tuple #[.agg #[.int .i64 0,.bool false],.bool false]) W:=fun W=>by kernel_rfl
  have n2:∀ W,(Instr.typeAssert (.iface 340 (.agg #[])) 193 311 true).run Tryz.prog W = .ok (.tuple #[.agg #[.nilIface,.int .i64 0,.bool false],.bool false]) W:=fun W=>by kernel_rfl
  have n3:∀ W,(Instr.typeAssert (.iface 340 (.agg #[])) 193 314 true).run Tryz.prog W = .ok (.tuple #[.agg #[.nilIface],.bool false]) W:=fun W=>by kernel_rfl
  have n4:∀ W,(Instr.typeAssert (.iface 340 (.agg #[])) 193 340 true).run Tryz.prog W = .ok (.tuple #[.agg #[],.bool true]) W:=fun W=>by kernel_rfl
  dsimp only [Q0C,tyV]
  have hk:=((Qa.refl [] u).alloc (.cells #[.string ⟨t.toArray⟩,.int .i64 at',.iface 340 (.agg #[])] 195)).alloc (.cells #[] 340)
  have VS:=Hid.mk (fun w=>Q2j .void w)
  dsimp only [tyV] at VS
  have H:=Hid.mk (h.keeps hk)
  have HK:=Hid.mk hk
  have HL:=Hid.mk hl
  clear h hk hl h64
  go_enter Tryz.func252,Tryz.ntmps252
  go_wp2_with fail
  refine (VS.out _).mono ?_
  rintro e w1 ⟨rfl,hb1⟩
  have hk1:=Qa.of_below [] hb1
  have VP:=Hid.mk (QZ (H.out.keeps hk1) [Q1I .void] HL.out)
  have HK1:=Hid.mk (HK.out.trans hk1)
  clear hb1 hk1 VS HK
  go_wp2_with fail
  refine (VP.out _ _ _ (by simp) rfl rfl (by simp)).mono ?_
  rintro e w2 ⟨rfl,hp2,hs2⟩
  have HS:=Hid.mk ((QT.of_keeps HK1.out).trans hs2)
  have HP:=Hid.mk hp2
  clear hp2 hs2 VP
  go_wp2
  go_end0
  exact ⟨rfl,HP.out,HS.out⟩
 | named x a=>
  have n0:∀ W,(Instr.typeAssert (.iface 213 (.agg #[.string ⟨x.toArray⟩,.int .i64 a])) 193 306 true).run Tryz.prog W = .ok (.tuple #[.agg #[.int .i64 0,.bool false],.bool false]) W:=fun W=>by kernel_rfl
  have n1:∀ W,(Instr.typeAssert (.iface 213 (.agg #[.string ⟨x.toArray⟩,.int .i64 a])) 193 309 true).run Tryz.prog W = .ok (.tuple #[.agg #[.int .i64 0,.bool false],.bool false]) W:=fun W=>by kernel_rfl
  have n2:∀ W,(Instr.typeAssert (.iface 213 (.agg #[.string ⟨x.toArray⟩,.int .i64 a])) 193 311 true).run Tryz.prog W = .ok (.tuple #[.agg #[.nilIface,.int .i64 0,.bool false],.bool false]) W:=fun W=>by kernel_rfl
  have n3:∀ W,(Instr.typeAssert (.iface 213 (.agg #[.string ⟨x.toArray⟩,.int .i64 a])) 193 314 true).run Tryz.prog W = .ok (.tuple #[.agg #[.nilIface],.bool false]) W:=fun W=>by kernel_rfl
  have n4:∀ W,(Instr.typeAssert (.iface 213 (.agg #[.string ⟨x.toArray⟩,.int .i64 a])) 193 340 true).run Tryz.prog W = .ok (.tuple #[.agg #[],.bool false]) W:=fun W=>by kernel_rfl
  dsimp only [Q0C,tyV]
  have hk:=(Qa.refl [] u).alloc (.cells #[.string ⟨t.toArray⟩,.int .i64 at',.iface 213 (.agg #[.string ⟨x.toArray⟩,.int .i64 a])] 195)
  have g1:=Qi (w:=u) (o:=(.cells #[.string ⟨t.toArray⟩,.int .i64 at',.iface 213 (.agg #[.string ⟨x.toArray⟩,.int .i64 a])] 195)) rfl
  have g2:=True.intro
  have VS:=fun w=>Q2j (.named x a) w
  dsimp only [tyV] at VS
  have VS:=Hid.mk VS
  have H:=Hid.mk (h.keeps hk)
  have HK:=Hid.mk hk
  have HG1:=Hid.mk g1
  have HG2:=Hid.mk g2
  have H64:=Hid.mk h64
  have HL:=Hid.mk hl
  clear h hk hl h64 g1 g2
  go_enter Tryz.func252,Tryz.ntmps252
  go_wp2_with fail
  refine QH (fun w'=>w'.cell? ⟨u.heap.size,0,none⟩=some (.string ⟨t.toArray⟩)) (L:=7) (by kernel_rfl) rfl (by kernel_rfl) (by kernel_rfl) ?_ (fun hHeld=>?_)
  ·exact Qs HG1.out rfl
  refine tk (i:=0) (v:=?_) rfl (by kernel_rfl) (fun _ _ _ h=>h) (by rfl) (by assumption) ?_ ?_
  rotate_left
  ·intro w hSw;(try dsimp only at hSw);go_simp;(try with_reducible rfl)
  (try simp only [Qd,Qe,List.set])
  refine tk (i:=1) (v:=?_) rfl (by kernel_rfl) (fun _ _ _ h=>h) (by rfl) (by assumption) ?_ ?_
  rotate_left
  ·intro w hSw;(try dsimp only at hSw);go_simp;(try with_reducible rfl)
  (try simp only [Qd,Qe,List.set])
  refine tk (i:=3) (v:=?_) rfl (by kernel_rfl) (fun _ _ _ h=>h) (by rfl) (by assumption) ?_ ?_
  rotate_left
  ·intro w hSw;(try dsimp only at hSw);go_simp;(try with_reducible rfl)
  (try simp only [Qd,Qe,List.set])
  refine tk (i:=4) (v:=?_) rfl (by kernel_rfl) (fun _ _ _ h=>h) (by rfl) (by assumption) ?_ ?_
  rotate_left
  ·intro w hSw;(try dsimp only at hSw);go_simp;(try with_reducible rfl)
  (try simp only [Qd,Qe,List.set])
  refine tk (i:=5) (v:=?_) rfl (by kernel_rfl) (fun _ _ _ h=>h) (by rfl) (by assumption) ?_ ?_
  rotate_left
  ·intro w hSw;(try dsimp only at hSw);go_simp;(try with_reducible rfl)
  (try simp only [Qd,Qe,List.set])
  refine wpAnyH_ready (rs:=[2]) (by kernel_rfl) (by simp) ?_
  refine AllReadyH.cons rfl (fun K hK=>?_) AllReadyH.nil
  (go_simp;go_at_call 254;refine (VS.out _).mono ?_;rintro e w1 ⟨rfl,hb1⟩;have hk1:=(Qa.refl [] _).drew.trans (Qa.of_below [] hb1);have x1:=Qs (i:=0) ((hk1.block u.heap.size (Qc HG1.out) (by simp)).trans HG1.out) rfl;have HK1:=Hid.mk hk1;clear hb1 hk1)
  refine hK.out _ _ ?_ (fun hHeld=>?_)
  ·go_keep
  clear hK K
  (try simp only [Qd,Qe,List.set])
  refine wpAnyH_ready (rs:=[6]) (by kernel_rfl) (by simp) ?_
  refine AllReadyH.cons rfl (fun K hK=>?_) AllReadyH.nil
  go_simp
  refine hK.out _ _ ?_ (fun hHeld=>?_)
  ·go_keep
  clear hK K
  (try simp only [Qd,Qe,List.set])
  refine wpAnyH_done (by kernel_rfl) ?_ _
  have VP:=Hid.mk (QZ (H.out.keeps HK1.out) [Q1I (.named x a),t] HL.out)
  refine Q02 rfl (fun K hK=>?_)
  (go_simp;refine (VP.out _ _ _ (by simp) rfl rfl (by simp)).mono ?_;rintro e w2 ⟨rfl,hp2,hs2⟩;have HS:=Hid.mk ((QT.of_keeps (HK.out.trans HK1.out)).trans hs2);have HP:=Hid.mk hp2;clear hp2 hs2)
  refine hK.out _ _ ?_
  clear hK K
  (try simp only [Qd,Qe,List.set])
  clear VP VS H HK HG1 HG2 HK1
  go_wp2
  go_end0
  exact ⟨rfl,HP.out,HS.out⟩
 | plain k=>
  have n0:∀ W,(Instr.typeAssert (.iface 301 (.agg #[.int .i64 k])) 193 306 true).run Tryz.prog W = .ok (.tuple #[.agg #[.int .i64 0,.bool false],.bool false]) W:=fun W=>by kernel_rfl
  have n1:∀ W,(Instr.typeAssert (.iface 301 (.agg #[.int .i64 k])) 193 309 true).run Tryz.prog W = .ok (.tuple #[.agg #[.int .i64 0,.bool false],.bool false]) W:=fun W=>by kernel_rfl
  have n2:∀ W,(Instr.typeAssert (.iface 301 (.agg #[.int .i64 k])) 193 311 true).run Tryz.prog W = .ok (.tuple #[.agg #[.nilIface,.int .i64 0,.bool false],.bool false]) W:=fun W=>by kernel_rfl
  have n3:∀ W,(Instr.typeAssert (.iface 301 (.agg #[.int .i64 k])) 193 314 true).run Tryz.prog W = .ok (.tuple #[.agg #[.nilIface],.bool false]) W:=fun W=>by kernel_rfl
  have n4:∀ W,(Instr.typeAssert (.iface 301 (.agg #[.int .i64 k])) 193 340 true).run Tryz.prog W = .ok (.tuple #[.agg #[],.bool false]) W:=fun W=>by kernel_rfl
  dsimp only [Q0C,tyV]
  have hk:=(Qa.refl [] u).alloc (.cells #[.string ⟨t.toArray⟩,.int .i64 at',.iface 301 (.agg #[.int .i64 k])] 195)
  have g1:=Qi (w:=u) (o:=(.cells #[.string ⟨t.toArray⟩,.int .i64 at',.iface 301 (.agg #[.int .i64 k])] 195)) rfl
  have g2:=True.intro
  have VS:=fun w=>Q2j (.plain k) w
  dsimp only [tyV] at VS
  have VS:=Hid.mk VS
  have H:=Hid.mk (h.keeps hk)
  have HK:=Hid.mk hk
  have HG1:=Hid.mk g1
  have HG2:=Hid.mk g2
  have H64:=Hid.mk h64
  have HL:=Hid.mk hl
  clear h hk hl h64 g1 g2
  go_enter Tryz.func252,Tryz.ntmps252
  go_wp2_with fail
  refine QH (fun w'=>w'.cell? ⟨u.heap.size,0,none⟩=some (.string ⟨t.toArray⟩)) (L:=7) (by kernel_rfl) rfl (by kernel_rfl) (by kernel_rfl) ?_ (fun hHeld=>?_)
  ·exact Qs HG1.out rfl
  refine tk (i:=0) (v:=?_) rfl (by kernel_rfl) (fun _ _ _ h=>h) (by rfl) (by assumption) ?_ ?_
  rotate_left
  ·intro w hSw;(try dsimp only at hSw);go_simp;(try with_reducible rfl)
  (try simp only [Qd,Qe,List.set])
  refine tk (i:=1) (v:=?_) rfl (by kernel_rfl) (fun _ _ _ h=>h) (by rfl) (by assumption) ?_ ?_
  rotate_left
  ·intro w hSw;(try dsimp only at hSw);go_simp;(try with_reducible rfl)
  (try simp only [Qd,Qe,List.set])
  refine tk (i:=3) (v:=?_) rfl (by kernel_rfl) (fun _ _ _ h=>h) (by rfl) (by assumption) ?_ ?_
  rotate_left
  ·intro w hSw;(try dsimp only at hSw);go_simp;(try with_reducible rfl)
  (try simp only [Qd,Qe,List.set])
  refine tk (i:=4) (v:=?_) rfl (by kernel_rfl) (fun _ _ _ h=>h) (by rfl) (by assumption) ?_ ?_
  rotate_left
  ·intro w hSw;(try dsimp only at hSw);go_simp;(try with_reducible rfl)
  (try simp only [Qd,Qe,List.set])
  refine tk (i:=5) (v:=?_) rfl (by kernel_rfl) (fun _ _ _ h=>h) (by rfl) (by assumption) ?_ ?_
  rotate_left
  ·intro w hSw;(try dsimp only at hSw);go_simp;(try with_reducible rfl)
  (try simp only [Qd,Qe,List.set])
  refine wpAnyH_ready (rs:=[2]) (by kernel_rfl) (by simp) ?_
  refine AllReadyH.cons rfl (fun K hK=>?_) AllReadyH.nil
  (go_simp;go_at_call 254;refine (VS.out _).mono ?_;rintro e w1 ⟨rfl,hb1⟩;have hk1:=(Qa.refl [] _).drew.trans (Qa.of_below [] hb1);have x1:=Qs (i:=0) ((hk1.block u.heap.size (Qc HG1.out) (by simp)).trans HG1.out) rfl;have HK1:=Hid.mk hk1;clear hb1 hk1)
  refine hK.out _ _ ?_ (fun hHeld=>?_)
  ·go_keep
  clear hK K
  (try simp only [Qd,Qe,List.set])
  refine wpAnyH_ready (rs:=[6]) (by kernel_rfl) (by simp) ?_
  refine AllReadyH.cons rfl (fun K hK=>?_) AllReadyH.nil
  go_simp
  refine hK.out _ _ ?_ (fun hHeld=>?_)
  ·go_keep
  clear hK K
  (try simp only [Qd,Qe,List.set])
  refine wpAnyH_done (by kernel_rfl) ?_ _
  have VP:=Hid.mk (QZ (H.out.keeps HK1.out) [Q1I (.plain k),t] HL.out)
  refine Q02 rfl (fun K hK=>?_)
  (go_simp;refine (VP.out _ _ _ (by simp) rfl rfl (by simp)).mono ?_;rintro e w2 ⟨rfl,hp2,hs2⟩;have HS:=Hid.mk ((QT.of_keeps (HK.out.trans HK1.out)).trans hs2);have HP:=Hid.mk hp2;clear hp2 hs2)
  refine hK.out _ _ ?_
  clear hK K
  (try simp only [Qd,Qe,List.set])
  clear VP VS H HK HG1 HG2 HK1
  go_wp2
  go_end0
  exact ⟨rfl,HP.out,HS.out⟩
end Go.Proofs.YtmbcibgknckenaaGreatDoor
