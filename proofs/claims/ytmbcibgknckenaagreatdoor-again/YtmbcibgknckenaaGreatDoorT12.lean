import Derived.Test.YtmbcibgknckenaaGreatDoorT11
import Derived.Test.YtmbcibgknckenaaGreatDoorRows
import Derived.Test.YtmbcibgknckenaaGreatDoorTie
import Derived.Test.YtmbcibgknckenaaGreatDoorCards
import Derived.ProofKit
import Derived.LaidMore
import Derived.OpenShut
import Derived.Stop.Joined
import Derived.LaidHandle
import Derived.SevenTiedAt
import Derived.Shelf.Vars
import Derived.ShutString
import Derived.ChangeOld
import Derived.Lib.LaidTab
set_option linter.all false
set_option maxRecDepth 100000
set_option maxHeartbeats 4000000
namespace Go.Proofs.YtmbcibgknckenaaGreatDoor
open Mar (WTok GoodTok Written Run)
def memT (m:List UInt8×Nat×Int):List WTok:=[nm m.1,sg 61,nu m.2.2]
def Q2H:List (List UInt8×Nat×Int)→List WTok
 | []=>[]
 | [m]=>memT m
 | m :: ms=>memT m++sg 44 :: Q2H ms
def armT (a:List Int×Qk):List WTok:=(if a.1=[] then [kw [100,101,102,97,117,108,116],sg 58] else a.1.flatMap fun n=>[kw [99,97,115,101],nu n,sg 58])++(Q07 a.2++[sg 59])
def Q2C (p:Q15):List WTok:=Q0q p.res++nm p.t :: sg 40 :: (Q0q p.arg++[sg 41,sg 61,nu p.num,sg 59])
def verT (v:QN):List WTok:=kw [118,101,114,115,105,111,110] :: nm v.t :: sg 123 :: (v.procs.flatMap Q2C++[sg 125,sg 61,nu v.num,sg 59])
def Q01:DefL→List WTok
 | .const t _ v=>[kw [99,111,110,115,116],nm t,sg 61,nu v,sg 59]
 | .typedef d=>kw [116,121,112,101,100,101,102] :: (Q07 d++[sg 59])
 | .enum t _ ms=>kw [101,110,117,109] :: nm t :: sg 123 :: (Q2H ms++[sg 125,sg 59])
 | .struct t _ ms=>kw [115,116,114,117,99,116] :: nm t :: sg 123 :: (ms.flatMap (fun d=>Q07 d++[sg 59])++[sg 125,sg 59])
 | .union t _ s arms=>kw [117,110,105,111,110] :: nm t :: kw [115,119,105,116,99,104] :: sg 40 :: (Q07 s++sg 41 :: sg 123 :: (arms.flatMap armT++[sg 125,sg 59]))
 | .prog t _ vs n=>kw [112,114,111,103,114,97,109] :: nm t :: sg 123 :: (vs.flatMap verT++[sg 125,sg 61,nu n,sg 59])
def Q4I (m1:PM DefL) (t2:ByteArray) (m2:PM DefL) (k:WTok):Prop:=∀ {σ1 σ1':St} {d:DefL},m1 σ1 = .ok (d,σ1')→Inv σ1→Inv σ1'∧((∀ t∈Q01 d,GoodTok t)∧Q2F d)∧(∃ r,Q01 d=k :: r) ∧
 ∀ σ2 r ts,Q01 d=k :: r→SR σ1 σ2→Toks t2 σ2 (r++ts)→∃ e σ2',m2 σ2 = .ok (e,σ2')∧er e=er d∧SR σ1' σ2'∧Toks t2 σ2' ts
section
variable {t1 t2 : ByteArray} {σ1 σ1' : St}
theorem Qce {α:Type} {m:PX Unit α} {σ σ':St} {a:α} (h:bare m σ = .ok (a,σ')):m () σ = .ok (a,(),σ'):=by
 unfold bare at h
 split at h
 ·rename_i b u σ2 hm;cases h;exact hm
 ·cases h
theorem Qcf {α:Type} {m:PX Unit α} {σ σ':St} {a:α} (h:m () σ = .ok (a,(),σ')):bare m σ = .ok (a,σ'):=by
 unfold bare
 rw [h]
theorem Q2L {q:List UInt8×Nat} (h:Q1j t1 σ1 = .ok (q,σ1')) (hi:Inv σ1) :
  Inv σ1'∧GoodTok (nm q.1)∧∀ σ2 ts,SR σ1 σ2→Toks t2 σ2 (nm q.1 :: ts)→∃ b σ2',Q1j t2 σ2 = .ok ((q.1,b),σ2')∧SR σ1' σ2'∧Toks t2 σ2' ts:=by
 obtain ⟨i,g,n⟩:=Q2P (t2:=t2) (Qak noAd) (Qce h) hi
 refine ⟨i,g,fun σ2 ts hR hT=>?_⟩
 obtain ⟨b,σ2',h1,h2,h3⟩:=n σ2 ts hR hT
 exact ⟨b,σ2',Qcf h1,h2,h3⟩
theorem Qdr {a:Nat} {u:Unit} (h:Q1s a σ1 = .ok (u,σ1')):σ1' = { σ1 with types:=σ1.types + 1 }∧¬ 24≤σ1.types:=by
 unfold Q1s at h
 split at h
 ·cases h
 ·rename_i hc;cases h;exact ⟨rfl,hc⟩
theorem Qcg {a:Nat} {u:Unit} (h:Q1B a σ1 = .ok (u,σ1')):σ1' = { σ1 with consts:=σ1.consts + 1 }∧¬ 40≤σ1.consts:=by
 unfold Q1B at h
 split at h
 ·cases h
 ·rename_i hc;cases h;exact ⟨rfl,hc⟩
theorem Q4r {a b:Nat} {u:Unit} (h:Q1s a σ1 = .ok (u,σ1')) (hi:Inv σ1):Inv σ1'∧∀ σ2 ts,SR σ1 σ2→Toks t2 σ2 ts→∃ σ2',Q1s b σ2 = .ok ((),σ2')∧SR σ1' σ2'∧Toks t2 σ2' ts:=by
 obtain ⟨rfl,hc⟩:=Qdr h
 refine ⟨⟨hi.nx,hi.cs⟩,fun σ2 ts hR hT=>⟨{ σ2 with types:=σ2.types + 1 },?_,⟨by simp [hR.types],hR.consts,hR.names,hR.progs⟩,Q3K hT rfl rfl⟩⟩
 unfold Q1s
 rw [if_neg (by rw [hR.types];exact hc)]
theorem Q58 {a b:Nat} {u:Unit} (h:Q1B a σ1 = .ok (u,σ1')) (hi:Inv σ1):Inv σ1'∧∀ σ2 ts,SR σ1 σ2→Toks t2 σ2 ts→∃ σ2',Q1B b σ2 = .ok ((),σ2')∧SR σ1' σ2'∧Toks t2 σ2' ts:=by
 obtain ⟨rfl,hc⟩:=Qcg h
 refine ⟨⟨hi.nx,hi.cs⟩,fun σ2 ts hR hT=>⟨{ σ2 with consts:=σ2.consts + 1 },?_,⟨hR.types,by simp [hR.consts],hR.names,hR.progs⟩,Q3K hT rfl rfl⟩⟩
 unfold Q1B
 rw [if_neg (by rw [hR.consts];exact hc)]
theorem QaW (a b:Nat):Q4I (constant t1 a) t2 (constant t2 b) (kw [99,111,110,115,116]):=by
 intro σ1 σ1' d h hi
 obtain ⟨_,σa,h1,h⟩:=Qz h
 obtain ⟨i1,n1⟩:=Q58 (t2:=t2) (b:=b) h1 hi
 obtain ⟨n,σb,h2,h⟩:=Qz h
 obtain ⟨i2,g2,n2⟩:=Q2L (t2:=t2) h2 i1
 obtain ⟨_,σc,h3,h⟩:=Qz h
 obtain ⟨i3,e3⟩:=QE h3 i2
 obtain ⟨q,σd,h4,h⟩:=Qz h
 obtain ⟨i4,e4,r4,p4⟩:=Q5l h4 i3
 obtain ⟨_,σe,h5,h⟩:=Qz h
 obtain ⟨i5,e5⟩:=QE h5 i4
 cases h
 refine ⟨i5,⟨Qp (Q1l rfl (by decide) (by decide) (by decide) (by decide)) (Qp g2 (Qp (Q03 (by decide)) (Qp (Q47 r4) (Qp (Q03 (by decide)) Q0Q)))),trivial⟩,⟨_,rfl⟩,fun σ2 r ts er' hR hT=>?_⟩
 cases er'
 obtain ⟨σA,a1,a2,a3⟩:=n1 σ2 _ hR hT
 obtain ⟨nb,σB,b1,b2,b3⟩:=n2 σA _ a2 a3
 obtain ⟨_,σC,c1,_,c2,c3⟩:=QF b3 (l:=[61]) rfl
 obtain ⟨va,σD,d1,d2,d3⟩:=Q5m c2 p4
 obtain ⟨_,σE,f1,_,f2,f3⟩:=QF d2 (l:=[59]) rfl
 refine ⟨.const n.1 nb q.1,σE,?_,rfl,(b2.left ((e3.trans e4).trans e5)).right ((c3.trans d3).trans f3),f2⟩
 unfold constant
 rw [Qg a1,Qg b1,Qg c1,Qg d1,Qg f1]
 rfl
theorem Qch (a b:Nat):Q4I (typedef t1 a) t2 (typedef t2 b) (kw [116,121,112,101,100,101,102]):=by
 intro σ1 σ1' d h hi
 obtain ⟨_,σa,h1,h⟩:=Qz h
 obtain ⟨i1,n1⟩:=Q4r (t2:=t2) (b:=b) h1 hi
 obtain ⟨n,σb,h2,h⟩:=Qz h
 obtain ⟨i2,g2,n2⟩:=Q7I (t2:=t2) (Qak noAd) (Qce h2) i1
 obtain ⟨_,σc,h3,h⟩:=Qz h
 obtain ⟨i3,e3⟩:=QE h3 i2
 cases h
 refine ⟨i3,⟨Qp (Q1l rfl (by decide) (by decide) (by decide) (by decide)) (Q0s g2.good (Qp (Q03 (by decide)) Q0Q)),trivial⟩,⟨_,rfl⟩,fun σ2 r ts er' hR hT=>?_⟩
 cases er'
 obtain ⟨σA,a1,a2,a3⟩:=n1 σ2 _ hR hT
 rw [List.append_assoc] at a3
 obtain ⟨e,σB,b1,b2,b3,b4⟩:=n2 σA _ a2 a3
 obtain ⟨_,σC,c1,_,c2,c3⟩:=QF b4 (l:=[59]) rfl
 refine ⟨.typedef e,σC,?_,by simp [er,b2],(b3.left e3).right c3,c2⟩
 unfold typedef
 have b1':Q4w t2 σA = .ok (e,σB):=Qcf b1
 rw [Qg a1,Qg b1',Qg c1]
 rfl
theorem Qds {n:Int} {a:Int} {l l':List (Int×Int)} {f:Mar.Fault} (h:Q2f n a l f = .ok l') {m:List (Int×Int)} (hm:m.map (·.1)=l.map (·.1)) (b:Int) (g:Mar.Fault):∃ m',Q2f n b m g = .ok m'∧m'.map (·.1)=l'.map (·.1):=by
 unfold Q2f at h ⊢
 rw [hm]
 split at h
 ·cases h
 ·rename_i hc
  rw [if_neg hc]
  cases h
  exact ⟨_,rfl,by simp [hm]⟩
theorem Q4U {p:Int→Bool} {l l':List (Int×Int)} {n:Int} (h:number t1 p l σ1 = .ok (n,l',σ1')) (hi:Inv σ1):Inv σ1'∧Q06 σ1 σ1'∧Q1F n∧p n=true ∧
  ∀ (p2:Int→Bool) σ2 ts m,p2 n=true→m.map (·.1)=l.map (·.1)→Toks t2 σ2 (nu n :: ts)→∃ m' σ2',number t2 p2 m σ2 = .ok (n,m',σ2')∧m'.map (·.1)=l'.map (·.1)∧Q06 σ2 σ2'∧Toks t2 σ2' ts:=by
 obtain ⟨q,σa,h1,h⟩:=QL h
 obtain ⟨i1,e1,r1,p1⟩:=Q5l h1 hi
 obtain ⟨_,l2,σb,h2,h⟩:=Q05 h
 cases h
 have hs:Q2f q.1 q.2 l ⟨6,q.2⟩ = .ok l'∧σ1' = σa:=by
  unfold Q4b at h2
  split at h2
  ·rename_i t' ht;cases h2;exact ⟨ht,rfl⟩
  ·cases h2
 rw [hs.2]
 refine ⟨i1,e1,r1,p1,fun p2 σ2 ts m hp hm hT=>?_⟩
 obtain ⟨va,σA,a1,a2,a3⟩:=Q5m hT hp
 obtain ⟨m',c1,c2⟩:=Qds hs.1 hm (va:Int) ⟨6,va⟩
 refine ⟨m',σA,?_,c2,a3,a2⟩
 unfold number
 rw [Qh (Qj a1)]
 have hs2:Q4b (fun l=>Q2f q.1 (va:Int) l ⟨6,va⟩) m σA = .ok ((),m',σA):=Q4u c1
 rw [Qh hs2]
 rfl
theorem Q9u (l:List (List UInt8×Option DefL)) (k:List UInt8) (d e:DefL) (h:er e=er d) {m:List (List UInt8×Option DefL)} (hm:erN m=erN l):erN (Q0b m k e)=erN (Q0b l k d):=by
 have key:∀ (l:List (List UInt8×Option DefL)) (d:DefL),erN (Q0b l k d)=(erN l).map fun p=>if p.1 == k then (p.1,some (er d)) else p:=by
  intro l d
  unfold erN Q0b
  rw [List.map_map,List.map_map]
  refine List.map_congr_left fun p _=>?_
  simp only [Function.comp]
  split<;>rfl
 rw [key,key,hm,h]
theorem Qgs (l:List (List UInt8×Option DefL)) (k j:List UInt8) (d:DefL):look (Q0b l k d) j=if j == k then (look l j).map fun _=>some d else look l j:=by
 unfold look Q0b
 induction l with
 | nil=>simp
 | cons p l ih=>
  simp only [List.map_cons,List.find?_cons]
  cases hp:(p.1 == k) with
  | true=>
   cases hj:(p.1 == j) with
   | true=>
    have:(j == k)=true:=by rw [beq_iff_eq] at hp hj ⊢;rw [← hj,hp]
    simp [hj,this]
   | false=>
    simp only [if_true,hj]
    exact ih
  | false=>
   cases hj:(p.1 == j) with
   | true=>
    have:(j == k)=false:=by rw [beq_iff_eq] at hj;rw [← hj];exact hp
    simp [hj,this]
   | false=>
    simp only [Bool.false_eq_true,if_false,hj]
    exact ih
theorem Qal {σ:St} (hi:Inv σ) (k:List UInt8) {d:DefL} (hd:∀ t a v,d = .const t a v→Q1F v):Inv { σ with names:=Q0b σ.names k d }:=by
 refine ⟨hi.nx,fun j t a v h=>?_⟩
 simp only at h
 rw [Qgs] at h
 split at h
 ·cases hl:look σ.names j with
  | none=>rw [hl] at h;cases h
  | some o=>rw [hl] at h;simp only [Option.map_some,Option.some.injEq] at h;exact hd t a v h
 ·exact hi.cs j t a v h
theorem Qam {n m a:Nat} {u:Unit} (h:Q0P n m a σ1 = .ok (u,σ1')):¬ m≤n∧σ1' = σ1:=by
 unfold Q0P at h
 split at h
 ·cases h
 ·rename_i hc;cases h;exact ⟨hc,rfl⟩
theorem Q8I {τ β:Type} {n m a:Nat} {k:Unit→PX τ β} {t:τ} {σ:St} {r:β×τ×St} (h:bndx (lift (Q0P n m a)) k t σ = .ok r):¬ m≤n∧k () t σ = .ok r:=by
 obtain ⟨u,σ1,h1,h2⟩:=QL h
 obtain ⟨h3,e⟩:=Qam h1
 rw [e] at h2
 exact ⟨h3,h2⟩
theorem Q6X {n m a:Nat} {σ:St} (h:¬ m≤n):Q0P n m a σ = .ok ((),σ):=by
 unfold Q0P
 rw [if_neg h]
theorem Qdt {k:Nat} {l l':List (Int×Int)} {m:List UInt8×Nat×Int} (h:Q1R t1 k l σ1 = .ok (m,l',σ1')) (hi:Inv σ1):Inv σ1'∧(∀ t∈memT m,GoodTok t) ∧
  ∀ σ2 ts q,SR σ1 σ2→q.map (·.1)=l.map (·.1)→Toks t2 σ2 (memT m++ts)→∃ e q' σ2',Q1R t2 k q σ2 = .ok ((m.1,e,m.2.2),q',σ2')∧q'.map (·.1)=l'.map (·.1)∧SR σ1' σ2'∧Toks t2 σ2' ts:=by
 obtain ⟨x,σa,h1,h⟩:=QL h
 obtain ⟨_,i1,e1⟩:=Q6a h1 hi
 obtain ⟨hr,h⟩:=Q8I h
 obtain ⟨_,σc,h3,h⟩:=QL h
 obtain ⟨n,σd,h4,h⟩:=QL h
 obtain ⟨_,σe,h5,h⟩:=QL h
 obtain ⟨v,l2,σf,h6,h⟩:=Q05 h
 obtain ⟨_,σg,h7,h⟩:=QL h
 cases h
 obtain ⟨i3,n3⟩:=Q58 (t2:=t2) (b:=0) h3 i1
 obtain ⟨i4,g4,n4⟩:=Q2L (t2:=t2) h4 i3
 obtain ⟨i5,e5⟩:=QE h5 i4
 obtain ⟨i6,e6,r6,p6,n6⟩:=Q4U (t2:=t2) h6 i5
 cases h7
 refine ⟨Qal i6 _ (fun t a v h=>(by cases h;exact r6)),Qp g4 (Qp (Q03 (by decide)) (Qp (Q47 r6) Q0Q)),fun σ2 ts q hR hq hT=>?_⟩
 obtain ⟨y,σA,a1,a2,a3,a4⟩:=Q56 (t:=nm n.1) (ts:=sg 61 :: nu v :: ts) hT
 obtain ⟨i3',n3'⟩:=Q58 (t2:=t2) (b:=y.at') h3 i1
 obtain ⟨σB,b1,b2,b3⟩:=n3' σA _ ((hR.left e1).right a4) a3
 obtain ⟨nb,σC,c1,c2,c3⟩:=n4 σB _ b2 b3
 obtain ⟨_,σD,d1,_,d2,d3⟩:=QF c3 (l:=[61]) rfl
 obtain ⟨q',σE,f1,f2,f3,f4⟩:=n6 _ σD ts q p6 hq d2
 have hR6:SR σf σE:=(c2.left (e5.trans e6)).right (d3.trans f3)
 refine ⟨nb,q',{ σE with names:=Q0b σE.names n.1 (.const n.1 nb v) },?_,f2,⟨hR6.types,hR6.consts,Q9u σf.names n.1 (.const n.1 n.2 v) (.const n.1 nb v) rfl hR6.names,hR6.progs⟩,Q3K f4 rfl rfl⟩
 unfold Q1R
 rw [Qh (Qj a1),Qh (Qj (Q6X hr)),Qh (Qj b1),Qh (Qj c1),Qh (Qj d1),Qh f1]
 have hm:lift (QaZ n.1 (.const n.1 nb v)) q' σE = .ok ((),q',{ σE with names:=Q0b σE.names n.1 (.const n.1 nb v) }):=rfl
 rw [Qh hm]
 rfl
theorem Q39 (m:List UInt8×Nat×Int) {ms:List (List UInt8×Nat×Int)} (h:ms≠[]):Q2H (m :: ms)=memT m++sg 44 :: Q2H ms:=by
 cases ms with
 | nil=>exact absurd rfl h
 | cons x xs=>rfl
theorem Qci (n:List UInt8×Nat):∀ (k:Nat) (ms:List (List UInt8×Nat×Int)) (l:List (Int×Int)) {σ1 σ1':St} {d:DefL},Q0N t1 n k ms l σ1 = .ok (d,σ1')→Inv σ1 →
  Inv σ1'∧∃ rest,rest≠[]∧d = .enum n.1 n.2 (ms++rest)∧(∀ t∈Q2H rest,GoodTok t) ∧
   ∀ σ2 ts q b (es:List (List UInt8×Nat×Int)),SR σ1 σ2→q.map (·.1)=l.map (·.1)→es.length=ms.length→Toks t2 σ2 (Q2H rest++sg 125 :: sg 59 :: ts)→∃ es' σ2',Q0N t2 (n.1,b) k es q σ2 = .ok (.enum n.1 b (es++es'),σ2')∧es'.map (fun m=>(m.1,0,m.2.2))=rest.map (fun m=>(m.1,0,m.2.2))∧SR σ1' σ2'∧Toks t2 σ2' ts:=by
 intro k
 induction k with
 | zero=>intro ms l σ1 σ1' d h;cases h
 | succ k ih=>
  intro ms l σ1 σ1' d h hi
  unfold Q0N at h
  split at h
  ·rename_i m l' σa hm
   obtain ⟨i1,g1,n1⟩:=Qdt (t2:=t2) hm hi
   obtain ⟨y,σb,h2,h⟩:=Qz h
   obtain ⟨i2,e2⟩:=Q0z h2 i1
   split at h
   ·obtain ⟨i3,rest,r1,r2,r3,r4⟩:=ih _ _ h i2
    refine ⟨i3,m :: rest,by simp,by rw [r2];simp,?_,fun σ2 ts q b es hR hq hl hT=>?_⟩
    ·rw [Q39 m r1];exact Q0s g1 (Qp (Q03 (by decide)) r3)
    ·rw [Q39 m r1,List.append_assoc] at hT
     obtain ⟨e,q',σA,a1,a2,a3,a4⟩:=n1 σ2 _ q hR hq hT
     obtain ⟨σB,b1,b2,b3⟩:=Q1Q a4 (l:=[44]) rfl
     obtain ⟨es',σC,c1,c2,c3,c4⟩:=r4 σB ts q' b (es++[(m.1,e,m.2.2)]) ((a3.left e2).right b3) a2 (by simp [hl]) b2
     refine ⟨(m.1,e,m.2.2) :: es',σC,?_,by simp [c2],c3,c4⟩
     unfold Q0N
     rw [hl,a1]
     show bnd _ _ σA=_
     rw [Qg b1,if_pos rfl,c1]
     simp
   ·obtain ⟨_,σc,h3,h⟩:=Qz h
    obtain ⟨i3,e3⟩:=QE h3 i2
    obtain ⟨_,σd,h4,h⟩:=Qz h
    obtain ⟨i4,e4⟩:=QE h4 i3
    cases h
    refine ⟨i4,[m],by simp,rfl,g1,fun σ2 ts q b es hR hq hl hT=>?_⟩
    obtain ⟨e,q',σA,a1,a2,a3,a4⟩:=n1 σ2 _ q hR hq hT
    obtain ⟨σB,b1,b2,b3⟩:=Q1h a4 (l:=[44]) (by decide)
    obtain ⟨_,σC,c1,_,c2,c3⟩:=QF b2 (l:=[125]) rfl
    obtain ⟨_,σD,d1,_,d2,d3⟩:=QF c2 (l:=[59]) rfl
    refine ⟨[(m.1,e,m.2.2)],σD,?_,rfl,(a3.left ((e2.trans e3).trans e4)).right ((b3.trans c3).trans d3),d2⟩
    unfold Q0N
    rw [hl,a1]
    show bnd _ _ σA=_
    rw [Qg b1,if_neg (by simp)]
    unfold Q3G
    rw [Qg c1,Qg d1]
    rfl
  ·cases h
theorem Q8J (a b:Nat):Q4I (enumeration t1 a) t2 (enumeration t2 b) (kw [101,110,117,109]):=by
 intro σ1 σ1' d h hi
 obtain ⟨_,σa,h1,h⟩:=Qz h
 obtain ⟨i1,n1⟩:=Q4r (t2:=t2) (b:=b) h1 hi
 obtain ⟨n,σb,h2,h⟩:=Qz h
 obtain ⟨i2,g2,n2⟩:=Q2L (t2:=t2) h2 i1
 obtain ⟨_,σc,h3,h⟩:=Qz h
 obtain ⟨i3,e3⟩:=QE h3 i2
 obtain ⟨i4,rest,r1,rfl,r3,r4⟩:=Qci (t2:=t2) n 13 [] [] h i3
 refine ⟨i4,⟨Qp (Q1l rfl (by decide) (by decide) (by decide) (by decide)) (Qp g2 (Qp (Q03 (by decide)) (Q0s r3 (Qp (Q03 (by decide)) (Qp (Q03 (by decide)) Q0Q))))),trivial⟩,⟨_,rfl⟩,fun σ2 r ts er' hR hT=>?_⟩
 cases er'
 obtain ⟨σA,a1,a2,a3⟩:=n1 σ2 _ hR hT
 obtain ⟨nb,σB,b1,b2,b3⟩:=n2 σA _ a2 a3
 obtain ⟨_,σC,c1,_,c2,c3⟩:=QF b3 (l:=[123]) rfl
 obtain ⟨es',σD,d1,d2,d3,d4⟩:=r4 σC ts [] nb [] ((b2.left e3).right c3) rfl rfl (by simpa using c2)
 refine ⟨.enum n.1 nb ([]++es'),σD,?_,?_,d3,d4⟩
 ·unfold enumeration
  rw [Qg a1,Qg b1,Qg c1]
  exact d1
 ·simp [er,d2]
def Q9v {τ β:Type} (r1:PX τ Unit) (t2:ByteArray) (r2:PX τ Unit) (T:τ→τ→Prop) (acc:τ→List β) (wd:β→List WTok) (q:β→Prop):Prop:=∀ {s s':τ} {σ1 σ1':St},r1 s σ1 = .ok ((),s',σ1')→Inv σ1 →
 Inv σ1'∧∃ d,acc s'=acc s++[d]∧((∀ t∈wd d,GoodTok t)∧q d)∧(∃ t r,wd d=t :: r∧t.text≠[125])∧∀ z σ2 ts,T s z→SR σ1 σ2→Toks t2 σ2 (wd d++ts)→∃ z' σ2',r2 z σ2 = .ok ((),z',σ2')∧T s' z'∧SR σ1' σ2'∧Toks t2 σ2' ts
theorem Qdu {τ β:Type} {r1 r2:PX τ Unit} {T:τ→τ→Prop} {acc:τ→List β} {wd:β→List WTok} {q:β→Prop} {mst:Nat} (hP:Q9v r1 t2 r2 T acc wd q):∀ (k n:Nat) {s s':τ} {σ1 σ1':St},Q19 t1 mst r1 k n s σ1 = .ok ((),s',σ1')→Inv σ1 →
  Inv σ1'∧∃ rest,((n=0→rest≠[])∧(rest≠[]→n + rest.length≤mst)∧∀ x∈rest,q x)∧acc s'=acc s++rest∧(∀ t∈rest.flatMap wd,GoodTok t)∧∀ z σ2 ts,T s z→SR σ1 σ2→Toks t2 σ2 (rest.flatMap wd++sg 125 :: ts)→∃ z' σ2',Q19 t2 mst r2 k n z σ2 = .ok ((),z',σ2')∧T s' z'∧SR σ1' σ2'∧Toks t2 σ2' ts:=by
 intro k
 induction k with
 | zero=>intro n s s' σ1 σ1' h;cases h
 | succ k ih=>
  intro n s s' σ1 σ1' h hi
  unfold Q19 at h
  obtain ⟨y,s1,σa,h1,h⟩:=Q05 h
  have hq:s1=s∧Inv σa∧Q06 σ1 σa∧(n=0→y=false):=by
   split at h1
   ·cases h1;exact ⟨rfl,hi,Q06.refl _,fun _=>rfl⟩
   ·rename_i hn
    obtain ⟨h1',es⟩:=Q6V h1
    obtain ⟨i1,e1⟩:=Q0z h1' hi
    exact ⟨es,i1,e1,fun h=>absurd h hn⟩
  obtain ⟨es,i1,e1,y1⟩:=hq
  rw [es] at h
  clear h1 es
  split at h
  ·rename_i hy
   cases h
   have hn:¬ n=0:=fun h=>by rw [y1 h] at hy;cases hy
   refine ⟨i1,[],⟨fun h=>absurd h hn,fun h=>absurd rfl h,fun x hx=>(by cases hx)⟩,by simp,Q0Q,fun z σ2 ts hT hR hK=>?_⟩
   obtain ⟨σA,a1,a2,a3⟩:=Q1Q (t:=sg 125) (ts:=ts) hK (l:=[125]) rfl
   refine ⟨z,σA,?_,hT,(hR.left e1).right a3,a2⟩
   unfold Q19
   rw [if_neg hn,Qh (Qj a1)]
   rfl
  ·obtain ⟨x,σb,h2,h⟩:=QL h
   obtain ⟨_,i2,e2⟩:=Q6a h2 i1
   obtain ⟨hr,h⟩:=Q8I h
   obtain ⟨_,s2,σd,h4,h⟩:=Q05 h
   obtain ⟨i4,d,d1,⟨d2,dq⟩,⟨t,r,d3,d3'⟩,d4⟩:=hP h4 i2
   obtain ⟨i5,rest,⟨_,rn,rq⟩,r1',r2',r3'⟩:=ih _ h i4
   refine ⟨i5,d :: rest,⟨fun _=>by simp,fun _=>?_,fun x hx=>?_⟩,by rw [r1',d1];simp,?_,fun z σ2 ts hT hR hK=>?_⟩
   ·by_cases he:rest=[]
    ·rw [he];simp;omega
    ·have:=rn he;simp;omega
   ·rcases List.mem_cons.1 hx with rfl | hx
    ·exact dq
    ·exact rq x hx
   ·rw [List.flatMap_cons];exact Q0s d2 r2'
   ·rw [List.flatMap_cons,List.append_assoc] at hK
    have go:∀ σA,Toks t2 σA (wd d++(rest.flatMap wd++sg 125 :: ts))→Q06 σ2 σA→∃ z' σ2',bndx (lift (peek t2)) (fun x=>bndx (lift (Q0P n mst x.at')) fun _=>bndx r2 fun _=>Q19 t2 mst r2 k (n + 1)) z σA = .ok ((),z',σ2')∧T s' z'∧SR σ1' σ2'∧Toks t2 σ2' ts:=by
     intro σA hA eA
     rw [d3,List.cons_append] at hA
     obtain ⟨x',σB,b1,_,b2,b3⟩:=Q56 hA
     rw [← List.cons_append,← d3] at b2
     obtain ⟨z1,σC,c1,c2,c3,c4⟩:=d4 z σB _ hT (((hR.left e1).left e2).right (eA.trans b3)) b2
     obtain ⟨z2,σD,f1,f2,f3,f4⟩:=r3' z1 σC ts c2 c3 c4
     refine ⟨z2,σD,?_,f2,f3,f4⟩
     rw [Qh (Qj b1),Qh (Qj (Q6X hr)),Qh c1]
     exact f1
    by_cases hn:n=0
    ·obtain ⟨z',σ2',g1,g2⟩:=go σ2 hK (Q06.refl _)
     refine ⟨z',σ2',?_,g2⟩
     unfold Q19
     rw [if_pos hn]
     exact g1
    ·have hK':=hK
     rw [d3,List.cons_append] at hK'
     obtain ⟨σA,a1,a2,a3⟩:=Q1h hK' d3'
     rw [← List.cons_append,← d3] at a2
     obtain ⟨z',σ2',g1,g2⟩:=go σA a2 a3
     refine ⟨z',σ2',?_,g2⟩
     unfold Q19
     rw [if_neg hn,Qh (Qj a1),if_neg (by simp)]
     exact g1
theorem Q6Y {τ β:Type} {r1 r2:PX τ Unit} {T:τ→τ→Prop} {acc:τ→List β} {wd:β→List WTok} {q:β→Prop} {mst:Nat} (hP:Q9v r1 t2 r2 T acc wd q) {s s':τ} {σ1 σ1':St} (h:runx (block t1 mst r1) s σ1 = .ok (s',σ1')) (hi:Inv σ1) :
  Inv σ1'∧∃ rest,(rest≠[]∧rest.length≤mst∧∀ x∈rest,q x)∧acc s'=acc s++rest∧(∀ t∈rest.flatMap wd,GoodTok t)∧∀ z σ2 ts,T s z→SR σ1 σ2→Toks t2 σ2 (sg 123 :: (rest.flatMap wd++sg 125 :: ts))→∃ z' σ2',runx (block t2 mst r2) z σ2 = .ok (z',σ2')∧T s' z'∧SR σ1' σ2'∧Toks t2 σ2' ts:=by
 have h':block t1 mst r1 s σ1 = .ok ((),s',σ1'):=by
  unfold runx at h
  split at h
  ·rename_i u t' σ' hm;cases h;exact hm
  ·cases h
 obtain ⟨_,σa,h1,h2⟩:=QL h'
 obtain ⟨i1,e1⟩:=QE h1 hi
 obtain ⟨i2,rest,⟨r0,rn,rq⟩,r1',r2',r3'⟩:=Qdu hP _ _ h2 i1
 refine ⟨i2,rest,⟨r0 rfl,by have:=rn (r0 rfl);omega,rq⟩,r1',r2',fun z σ2 ts hT hR hK=>?_⟩
 obtain ⟨_,σA,a1,_,a2,a3⟩:=QF hK (l:=[123]) rfl
 obtain ⟨z',σB,b1,b2,b3,b4⟩:=r3' z σA ts hT ((hR.left e1).right a3) a2
 refine ⟨z',σB,?_,b2,b3,b4⟩
 unfold runx
 have:block t2 mst r2 z σ2 = .ok ((),z',σB):=by
  unfold block
  rw [Qh (Qj a1)]
  exact b1
 rw [this]
theorem Qcj (a b:StAd):Q9v (Q2q t1 a) t2 (Q2q t2 b) (fun s z=>z.2=s.2∧z.1.map erD=s.1.map erD) (·.1) (fun d=>Q07 d++[sg 59]) (fun _=>True):=by
 intro s s' σ1 σ1' h hi
 unfold Q2q at h
 split at h
 ·rename_i d t' σa hd
  obtain ⟨i1,g1,n1⟩:=Q7I (t2:=t2) (Q41 a.q a.bx) hd hi
  obtain ⟨_,σb,h2,h⟩:=QL h
  obtain ⟨i2,e2⟩:=QE h2 i1
  cases h
  obtain ⟨t,r,et,_,hne⟩:=g1.first
  refine ⟨i2,d,rfl,⟨Q0s g1.good (Qp (Q03 (by decide)) Q0Q),trivial⟩,⟨t,r++[sg 59],by show Q07 d++[sg 59]=_;rw [et];rfl,hne⟩,fun z σ2 ts hT hR hK=>?_⟩
  rw [List.append_assoc] at hK
  obtain ⟨e,σA,a1,a2,a3,a4⟩:=n1 σ2 ts hR hK
  obtain ⟨_,σB,b1,_,b2,b3⟩:=QF a4 (l:=[59]) rfl
  refine ⟨(z.1++[e],t'),σB,?_,⟨rfl,by simp [hT.2,a2]⟩,(a3.left e2).right b3,b2⟩
  have a1':decl t2 (Qr b.q b.bx) z.2 σ2 = .ok (e,t',σA):=by rw [hT.1];exact a1
  unfold Q2q
  rw [a1']
  show bndx _ _ _ _=_
  rw [Qh (Qj b1)]
  rfl
 ·cases h
theorem Q9U (a b:Nat):Q4I (Q1o t1 a) t2 (Q1o t2 b) (kw [115,116,114,117,99,116]):=by
 intro σ1 σ1' d h hi
 obtain ⟨_,σa,h1,h⟩:=Qz h
 obtain ⟨i1,n1⟩:=Q4r (t2:=t2) (b:=b) h1 hi
 obtain ⟨n,σb,h2,h⟩:=Qz h
 obtain ⟨i2,g2,n2⟩:=Q2L (t2:=t2) h2 i1
 obtain ⟨p,σc,h3,h⟩:=Qz h
 obtain ⟨i3,rest,r0,r1,r2,r3⟩:=Q6Y (Qcj (t1:=t1) (t2:=t2) ⟨0,0,0,0,0,0⟩ ⟨0,0,0,0,0,0⟩) h3 i2
 obtain ⟨_,σd,h4,h⟩:=Qz h
 obtain ⟨i4,e4⟩:=QE h4 i3
 cases h
 simp only [List.nil_append] at r1
 subst r1
 refine ⟨i4,⟨Qp (Q1l rfl (by decide) (by decide) (by decide) (by decide)) (Qp g2 (Qp (Q03 (by decide)) (Q0s r2 (Qp (Q03 (by decide)) (Qp (Q03 (by decide)) Q0Q))))),trivial⟩,⟨_,rfl⟩,fun σ2 r ts er' hR hT=>?_⟩
 cases er'
 obtain ⟨σA,a1,a2,a3⟩:=n1 σ2 _ hR hT
 obtain ⟨nb,σB,b1,b2,b3⟩:=n2 σA _ a2 a3
 obtain ⟨z',σC,c1,c2,c3,c4⟩:=r3 ([],[]) σB (sg 59 :: ts) ⟨rfl,rfl⟩ b2 (by simpa using b3)
 obtain ⟨_,σD,d1,_,d2,d3⟩:=QF c4 (l:=[59]) rfl
 refine ⟨.struct n.1 nb z'.1,σD,?_,by simp [er,c2.2],(c3.left e4).right d3,d2⟩
 unfold Q1o
 rw [Qg a1,Qg b1,Qg c1,Qg d1]
 rfl
end
section
variable {t1 t2 : ByteArray} {σ1 σ1' : St}
theorem QaX {q:Ty×(Int→Bool)} (h:Q1Z t1 σ1 = .ok (q,σ1')) (hi:Inv σ1):Inv σ1'∧Q06 σ1 σ1'∧Q3e q.1∧∀ σ2 ts,SR σ1 σ2→NoTy ts→Toks t2 σ2 (Q0q q.1++ts)→∃ r σ2',Q1Z t2 σ2 = .ok (r,σ2')∧erT r.1=erT q.1∧(∀ n,r.2 n=q.2 n)∧Q06 σ2 σ2'∧Toks t2 σ2' ts:=by
 obtain ⟨x,σa,h1,h⟩:=Qz h
 obtain ⟨g1,i1,e1⟩:=Q3z h1 hi
 unfold selK at h
 split at h
 ·rename_i hk
  obtain ⟨ms,σb,h2,h⟩:=Qz h
  unfold Q0I at h2
  split at h2
  ·rename_i t a ms' hl
   cases h2
   cases h
   have hg:=g1.1 (by have:=eq_of_beq hk;omega)
   refine ⟨i1,e1,Or.inl ⟨_,_,rfl,hg⟩,fun σ2 ts hR _ hT=>?_⟩
   obtain ⟨y,σA,a1,a2,a3,a4⟩:=Q2B (t:=nm x.text) (ts:=ts) hT
   obtain ⟨y1,y2,_⟩:=Q2n a2
   have hR':=(hR.left e1).right a4
   have hl2:=hR'.look x.text
   rw [hl] at hl2
   obtain ⟨t',a',ms2,hE,hM⟩:∃ t' a' ms2,look σA.names x.text=some (some (.enum t' a' ms2))∧ms2.map (fun m=>(m.1,(0:Nat),m.2.2))=ms.map (fun m=>(m.1,(0:Nat),m.2.2)):=by
    cases h3:look σA.names x.text with
    | none=>rw [h3] at hl2;cases hl2
    | some o=>
     rw [h3] at hl2
     simp only [Option.map_some,Option.some.injEq] at hl2
     cases o with
     | none=>cases hl2
     | some d=>
      simp only [Option.map_some,Option.some.injEq] at hl2
      cases d with
      | enum t' a' ms2=>
       simp only [er,DefL.enum.injEq] at hl2
       exact ⟨t',a',ms2,rfl,hl2.2.2⟩
      | _=>simp [er] at hl2
   refine ⟨(.named y.text y.at',Q3n ms2),σA,?_,by rw [y1];rfl,fun n=>?_,a4,a3⟩
   ·unfold Q1Z selK
    rw [Qg a1,if_pos (by rw [y2];rfl)]
    have hE':Q0I y σA = .ok (ms2,σA):=by
     unfold Q0I
     rw [y1,hE]
    rw [Qg hE']
    rfl
   ·have key:∀ l:List (List UInt8×Nat×Int),Q3n l n=(l.map (fun m=>(m.1,(0:Nat),m.2.2))).any fun m=>m.2.2 == n:=by
     intro l
     unfold Q3n
     rw [List.any_map]
     rfl
    simp only
    rw [key,key,hM]
  ·cases h2
 have plain:∀ {k:Nat} {l:List UInt8} {f:Int→Bool} {σb:St},k≤4→Inv σb→Q06 σ1 σb→Q0q (.plain k)=[kw l]→(∀ y σA,y.text=l→y.kind=2→∀ r,(∃ t us,r=t :: us∧t.text≠[105,110,116])→Toks t2 σA r→∃ σB,selK t2 y σA = .ok ((.plain k,f),σB)∧Q06 σA σB∧Toks t2 σB r) →
   Inv σb∧Q06 σ1 σb∧Q3e (.plain k)∧∀ σ2 ts,SR σ1 σ2→NoTy ts→Toks t2 σ2 (Q0q (.plain k)++ts)→∃ r σ2',Q1Z t2 σ2 = .ok (r,σ2')∧erT r.1=erT (.plain k)∧(∀ n,r.2 n=f n)∧Q06 σ2 σ2'∧Toks t2 σ2' ts:=by
  intro k l f σb hk ib eb hs hsel
  refine ⟨ib,eb,Or.inr ⟨k,rfl,hk⟩,fun σ2 ts hR hN hT=>?_⟩
  rw [hs] at hT
  obtain ⟨y,σA,a1,a2,a3,a4⟩:=Q2B (t:=kw l) (ts:=ts) hT
  obtain ⟨y1,y2,_⟩:=Q2n a2
  obtain ⟨t,us,rfl,_,hn2⟩:=hN
  obtain ⟨σB,b1,b2,b3⟩:=hsel y σA y1 y2 _ ⟨t,us,rfl,hn2⟩ a3
  refine ⟨(.plain k,f),σB,?_,rfl,fun _=>rfl,a4.trans b2,b3⟩
  unfold Q1Z
  rw [Qg a1]
  exact b1
 split at h
 ·cases h
  refine plain (k:=0) (by omega) i1 e1 rfl fun y σA hy hk r _ hT=>⟨σA,?_,Q06.refl _,hT⟩
  unfold selK
  rw [hy,hk]
  rfl
 split at h
 ·obtain ⟨z,σb,h2,h⟩:=Qz h
  obtain ⟨i2,e2⟩:=Q0z h2 i1
  cases h
  refine plain (k:=1) (by omega) i2 (e1.trans e2) rfl fun y σA hy hk r hr hT=>?_
  obtain ⟨t,us,rfl,hne⟩:=hr
  obtain ⟨σB,b1,b2,b3⟩:=Q1h hT hne
  refine ⟨σB,?_,b3,b2⟩
  unfold selK
  rw [hy,hk]
  show bnd _ _ σA=_
  rw [Qg b1]
  rfl
 split at h
 ·cases h
  refine plain (k:=4) (by omega) i1 e1 rfl fun y σA hy hk r _ hT=>⟨σA,?_,Q06.refl _,hT⟩
  unfold selK
  rw [hy,hk]
  rfl
 ·cases h
abbrev Q6c (n:Int):List WTok:=[kw [99,97,115,101],nu n,sg 58]
theorem Qdv {p:Int→Bool}:∀ (k:Nat) (cs:List Int) {l l':List (Int×Int)} {σ1 σ1':St} {r:List Int},Q1m t1 p k cs l σ1 = .ok (r,l',σ1')→Inv σ1 →
  Inv σ1'∧Q06 σ1 σ1'∧∃ rest,rest≠[]∧r=cs++rest∧(∀ t∈rest.flatMap Q6c,GoodTok t)∧∀ (p2:Int→Bool) σ2 t ts q,(∀ n,p2 n=p n)→t.text≠[99,97,115,101]→q.map (·.1)=l.map (·.1)→Toks t2 σ2 (rest.flatMap Q6c++t :: ts) →
   ∃ q' σ2',Q1m t2 p2 k cs q σ2 = .ok (r,q',σ2')∧q'.map (·.1)=l'.map (·.1)∧Q06 σ2 σ2'∧Toks t2 σ2' (t :: ts):=by
 intro k
 induction k with
 | zero=>intro cs l l' σ1 σ1' r h;cases h
 | succ k ih=>
  intro cs l l' σ1 σ1' r h hi
  unfold Q1m at h
  obtain ⟨x,σa,h1,h⟩:=QL h
  obtain ⟨i1,e1⟩:=QE h1 hi
  obtain ⟨hr,h⟩:=Q8I h
  obtain ⟨n,l2,σc,h3,h⟩:=Q05 h
  obtain ⟨i3,e3,r3,p3,n3⟩:=Q4U (t2:=t2) h3 i1
  obtain ⟨_,σd,h4,h⟩:=QL h
  obtain ⟨i4,e4⟩:=QE h4 i3
  obtain ⟨y,σe,h5,h⟩:=QL h
  obtain ⟨i5,e5⟩:=Q55 h5 i4
  have e15:=(((e1.trans e3).trans e4).trans e5)
  have hg:∀ t∈Q6c n,GoodTok t:=Qp (Q1l rfl (by decide) (by decide) (by decide) (by decide)) (Qp (Q47 r3) (Qp (Q03 (by decide)) Q0Q))
  /- the way to the next word -/
  have key:∀ (p2:Int→Bool) σ2 us q,(∀ n,p2 n=p n)→q.map (·.1)=l.map (·.1)→Toks t2 σ2 (Q6c n++us)→∃ q' σA,q'.map (·.1)=l2.map (·.1)∧Q06 σ2 σA∧Toks t2 σA us∧Q1m t2 p2 (k + 1) cs q σ2=bndx (lift (sees t2 [99,97,115,101])) (fun y=>if y then Q1m t2 p2 k (cs++[n]) else retx (cs++[n])) q' σA:=by
   intro p2 σ2 us q hp hq hT
   obtain ⟨x',σA,a1,_,a2,a3⟩:=QF (t:=kw [99,97,115,101]) (ts:=nu n :: sg 58 :: us) hT (l:=[99,97,115,101]) rfl
   obtain ⟨q',σB,b1,b2,b3,b4⟩:=n3 p2 σA _ q (by rw [hp];exact p3) hq a2
   obtain ⟨_,σC,c1,_,c2,c3⟩:=QF b4 (l:=[58]) rfl
   refine ⟨q',σC,b2,(a3.trans b3).trans c3,c2,?_⟩
   have hlen:q.length=l.length:=by have:=congrArg List.length hq;simpa using this
   conv=>lhs;unfold Q1m
   rw [Qh (Qj a1)]
   show bndx (lift (Q0P q.length 12 x'.at')) _ q σA=_
   rw [Qh (Qj (Q6X (by rw [hlen];exact hr))),Qh b1,Qh (Qj c1)]
  split at h
  ·obtain ⟨i6,e6,rest,q1,q2,q3,q4⟩:=ih _ h i5
   refine ⟨i6,e15.trans e6,n :: rest,by simp,by rw [q2];simp,?_,fun p2 σ2 t ts q hp ht hq hT=>?_⟩
   ·rw [List.flatMap_cons];exact Q0s hg q3
   ·rw [List.flatMap_cons,List.append_assoc] at hT
    obtain ⟨q',σA,a1,a2,a3,a4⟩:=key p2 σ2 _ q hp hq hT
    obtain ⟨c,cr,ec⟩:∃ c cr,rest=c :: cr:=by cases rest with | nil=>exact absurd rfl q1 | cons c cr=>exact ⟨c,cr,rfl⟩
    have a3':=a3
    rw [ec,List.flatMap_cons] at a3'
    obtain ⟨σB,b1,b2,b3⟩:=Q1G (t:=kw [99,97,115,101]) (ts:=nu c :: sg 58 :: (cr.flatMap Q6c++t :: ts)) (by simpa using a3') [99,97,115,101]
    have b2':Toks t2 σB (rest.flatMap Q6c++t :: ts):=by rw [ec,List.flatMap_cons];simpa using b2
    obtain ⟨q'',σC,c1,c2,c3,c4⟩:=q4 p2 σB t ts q' hp ht a1 b2'
    refine ⟨q'',σC,?_,c2,(a2.trans b3).trans c3,c4⟩
    rw [a4,Qh (Qj b1)]
    exact c1
  ·cases h
   refine ⟨i5,e15,[n],by simp,rfl,by simpa using hg,fun p2 σ2 t ts q hp ht hq hT=>?_⟩
   obtain ⟨q',σA,a1,a2,a3,a4⟩:=key p2 σ2 (t :: ts) q hp hq (by simpa using hT)
   obtain ⟨σB,b1,b2,b3⟩:=Q1G a3 [99,97,115,101]
   refine ⟨q',σB,?_,a1,a2.trans b3,b2⟩
   have hb:(t.text == [99,97,115,101])=false:=by simpa using ht
   rw [a4,Qh (Qj b1),hb]
   rfl
theorem Q82 {τ ρ α:Type} {m:PX τ α} {s s':τ×ρ} {a:α} {σ σ':St} (h:onL m s σ = .ok (a,s',σ')):m s.1 σ = .ok (a,s'.1,σ')∧s'.2=s.2:=by
 unfold onL at h
 split at h
 ·rename_i b t' σ2 hm;cases h;exact ⟨hm,rfl⟩
 ·cases h
theorem Q9V {τ ρ α:Type} {m:PX ρ α} {s s':τ×ρ} {a:α} {σ σ':St} (h:onR m s σ = .ok (a,s',σ')):m s.2 σ = .ok (a,s'.2,σ')∧s'.1=s.1:=by
 unfold onR at h
 split at h
 ·rename_i b t' σ2 hm;cases h;exact ⟨hm,rfl⟩
 ·cases h
theorem Q83 {τ ρ α:Type} {m:PX τ α} {x x':τ} {y:ρ} {a:α} {σ σ':St} (h:m x σ = .ok (a,x',σ')):onL m (x,y) σ = .ok (a,(x',y),σ'):=by
 unfold onL
 rw [h]
theorem Q9W {τ ρ α:Type} {m:PX ρ α} {x:τ} {y y':ρ} {a:α} {σ σ':St} (h:m y σ = .ok (a,y',σ')):onR m (x,y) σ = .ok (a,(x,y'),σ'):=by
 unfold onR
 rw [h]
def UT (s z:UnSt):Prop:=z.1=s.1∧z.2.map (·.1)=s.2.map (·.1)
theorem Qgt {τ:Type} {C:Q0e τ} {s s':τ} {d:Qk} (h:arm t1 C s σ1 = .ok (d,s',σ1')) (hC:CL C) (hi:Inv σ1):∃ t r,Q07 d=t :: r∧t.text≠[99,97,115,101]:=by
 have base:∀ {a:Ty},Q3e a→∀ m,∃ t r,Q0q a++m=t :: r∧t.text≠[99,97,115,101]:=by
  intro a ha m
  rcases ha with ⟨l,p,rfl,hg⟩ | ⟨j,rfl,hj⟩
  ·exact ⟨nm l,m,rfl,Q5x hg (by decide)⟩
  ·have hj':j=0∨j=1∨j=2∨j=3∨j=4:=by omega
   rcases hj' with rfl | rfl | rfl | rfl | rfl<;>exact ⟨_,_,rfl,by decide⟩
 obtain ⟨d0,s0,σx,h0,h9⟩:=Q05 h
 obtain ⟨_,_,σy,hy,h9⟩:=Q05 h9
 cases h9
 obtain ⟨y,σa,h1,h2⟩:=QL h0
 obtain ⟨i1,e1⟩:=Q0z h1 hi
 unfold armK at h2
 split at h2
 ·cases h2;exact ⟨_,_,rfl,by decide⟩
 obtain ⟨y,σa,h1,h⟩:=QL h2
 obtain ⟨i1,e1⟩:=Q0z h1 i1
 unfold Q3m at h
 split at h
 ·obtain ⟨n,s2,σb,h2,h⟩:=Q05 h
  obtain ⟨q,_,σc,h3,h⟩:=Q05 h
  cases h
  exact ⟨_,_,rfl,by decide⟩
 ·obtain ⟨z,σb,h2,h⟩:=QL h
  obtain ⟨i2,e2⟩:=Q0z h2 i1
  unfold Q3M at h
  split at h
  ·obtain ⟨n,s2,σc,h3,h⟩:=Q05 h
   obtain ⟨q,_,σd,h4,h⟩:=Q05 h
   cases h
   exact ⟨_,_,rfl,by decide⟩
  ·obtain ⟨ty,σc,h3,h⟩:=QL h
   obtain ⟨i3,e3,b3⟩:=Q57 h3 i2
   obtain ⟨w,_,σd,h4,h⟩:=Q05 h
   unfold Q4M at h
   split at h
   ·obtain ⟨n,s2,σe,h5,h⟩:=Q05 h
    cases h
    exact base b3 _
   ·obtain ⟨n,s2,σe,h5,h⟩:=Q05 h
    obtain ⟨v,_,σf,h6,h⟩:=Q05 h
    unfold Q4X at h
    split at h
    ·obtain ⟨q,_,σg,h7,h⟩:=Q05 h
     cases h
     exact base b3 _
    ·obtain ⟨v2,_,σg,h7,h⟩:=Q05 h
     unfold Q4W at h
     split at h
     ·obtain ⟨q,_,σh,h8,h⟩:=Q05 h
      cases h
      exact base b3 _
     ·cases h
      rw [Q4q b3]
      exact base b3 _
theorem Q6d {cs:List Int} {d:Qk} (h:cs≠[]):armT (cs,d)=cs.flatMap Q6c++(Q07 d++[sg 59]):=by
 unfold armT
 rw [if_neg h]
abbrev erA (a:List Int×Qk):List Int×Qk:=(a.1,erD a.2)
theorem Qf8 {p:Int→Bool}:∀ (k:Nat) (rs:Arms) {s s':UnSt} {σ1 σ1':St} {r:Arms},Q1y t1 p k rs s σ1 = .ok (r,s',σ1')→Inv σ1 →
  Inv σ1'∧∃ rest:Arms,rest≠[]∧(∃ c cs d more,rest=(c :: cs,d) :: more)∧r=rs++rest∧(∀ t∈rest.flatMap armT,GoodTok t)∧∀ (p2:Int→Bool) σ2 ts z (rs2:Arms),(∀ n,p2 n=p n)→UT s z→SR σ1 σ2→Toks t2 σ2 (rest.flatMap armT++sg 125 :: ts) →
   ∃ more z' σ2',Q1y t2 p2 k rs2 z σ2 = .ok (rs2++more,z',σ2')∧more.map erA=rest.map erA∧UT s' z'∧SR σ1' σ2'∧Toks t2 σ2' (sg 125 :: ts):=by
 intro k
 induction k with
 | zero=>intro rs s s' σ1 σ1' r h;cases h
 | succ k ih=>
  intro rs s s' σ1 σ1' r h hi
  unfold Q1y at h
  obtain ⟨cs,s1,σa,h1,h⟩:=Q05 h
  obtain ⟨h1,u1⟩:=Q9V h1
  obtain ⟨i1,e1,rest0,q1,q2,q3,q4⟩:=Qdv (t2:=t2) 13 [] h1 hi
  rw [List.nil_append] at q2
  subst q2
  obtain ⟨d,s2,σb,h2,h⟩:=Q05 h
  obtain ⟨h2,u2⟩:=Q82 h2
  obtain ⟨i2,g2,n2⟩:=Qcd (t2:=t2) (Q41 0 0) h2 i1
  obtain ⟨ft,fr,fe,fne⟩:=Qgt h2 (Q41 0 0) i1
  obtain ⟨y,σc,h3,h⟩:=QL h
  obtain ⟨i3,e3⟩:=Q55 h3 i2
  obtain ⟨c,cr,ec⟩:∃ c cr,cs=c :: cr:=by cases cs with | nil=>exact absurd rfl q1 | cons c cr=>exact ⟨c,cr,rfl⟩
  have hg:∀ t∈armT (cs,d),GoodTok t:=by rw [Q6d q1];exact Q0s q3 (Q0s g2 (Qp (Q03 (by decide)) Q0Q))
  /- one arm -/
  have key:∀ (p2:Int→Bool) σ2 us z (rs2:Arms),(∀ n,p2 n=p n)→UT s z→SR σ1 σ2→Toks t2 σ2 (armT (cs,d)++us)→∃ e z' σA,erD e=erD d∧UT s2 z'∧SR σb σA∧Toks t2 σA us∧Q1y t2 p2 (k + 1) rs2 z σ2=bndx (lift (sees t2 [99,97,115,101])) (fun y=>if y then Q1y t2 p2 k (rs2++[(cs,e)]) else Q1L t2 (rs2++[(cs,e)])) z' σA:=by
   intro p2 σ2 us z rs2 hp hz hR hT
   rw [Q6d q1,List.append_assoc,List.append_assoc,fe] at hT
   obtain ⟨z1,z2⟩:=z
   obtain ⟨hz1,hz2⟩:=hz
   simp only at hz1 hz2
   obtain ⟨q',σA,a1,a2,a3,a4⟩:=q4 p2 σ2 ft (fr++([sg 59]++us)) z2 hp fne hz2 (by simpa using hT)
   have a4':Toks t2 σA (Q07 d++sg 59 :: us):=by rw [fe];simpa using a4
   obtain ⟨e,σB,b1,b2,b3,b4⟩:=n2 σA us ((hR.left e1).right a3) a4'
   refine ⟨e,(s2.1,q'),σB,b2,⟨rfl,?_⟩,b3,b4,?_⟩
   ·simp only
    rw [a2,u2]
   ·conv=>lhs;unfold Q1y
    have c1:onR (cases t2 p2) (z1,z2) σ2 = .ok (cs,(z1,q'),σA):=Q9W a1
    rw [Qh c1]
    have b1':onL (arm t2 (Qr 0 0)) (z1,q') σA = .ok (e,(s2.1,q'),σB):=Q83 (by rw [hz1,← u1];exact b1)
    rw [Qh b1']
  split at h
  ·obtain ⟨i4,rest,r0,⟨c',cs',d',more',re⟩,r1,r2,r3⟩:=ih _ h i3
   refine ⟨i4,(cs,d) :: rest,by simp,⟨c,cr,d,rest,by rw [ec]⟩,by rw [r1];simp,?_,fun p2 σ2 ts z rs2 hp hz hR hT=>?_⟩
   ·rw [List.flatMap_cons];exact Q0s hg r2
   ·rw [List.flatMap_cons,List.append_assoc] at hT
    obtain ⟨e,z',σA,a1,a2,a3,a4,a5⟩:=key p2 σ2 _ z rs2 hp hz hR hT
    have a4':=a4
    rw [re,List.flatMap_cons,Q6d (by simp)] at a4'
    obtain ⟨σB,b1,b2,b3⟩:=Q1G (t:=kw [99,97,115,101]) (ts:=nu c' :: sg 58 :: (cs'.flatMap Q6c++(Q07 d'++[sg 59])++(more'.flatMap armT++sg 125 :: ts))) (by simpa using a4') [99,97,115,101]
    have b2':Toks t2 σB (rest.flatMap armT++sg 125 :: ts):=by rw [re,List.flatMap_cons,Q6d (by simp)];simpa using b2
    obtain ⟨more,z'',σC,c1,c2,c3,c4,c5⟩:=r3 p2 σB ts z' (rs2++[(cs,e)]) hp a2 ((a3.left e3).right b3) b2'
    refine ⟨(cs,e) :: more,z'',σC,?_,by simp [erA,a1,c2],c3,c4,c5⟩
    rw [a5,Qh (Qj b1)]
    show Q1y t2 p2 k (rs2++[(cs,e)]) z' σB=_
    rw [c1]
    simp
  ·unfold Q1L at h
   obtain ⟨w,σd,h4,h⟩:=QL h
   obtain ⟨i4,e4⟩:=Q0z h4 i3
   split at h
   ·obtain ⟨_,σe,h5,h⟩:=QL h
    obtain ⟨i5,e5⟩:=QE h5 i4
    obtain ⟨d2,s3,σf,h6,h⟩:=Q05 h
    obtain ⟨h6,u6⟩:=Q82 h6
    obtain ⟨i6,g6,n6⟩:=Qcd (t2:=t2) (Q41 0 0) h6 i5
    cases h
    refine ⟨i6,[(cs,d),([],d2)],by simp,⟨c,cr,d,_,by rw [ec]⟩,by simp,?_,fun p2 σ2 ts z rs2 hp hz hR hT=>?_⟩
    ·rw [List.flatMap_cons,List.flatMap_cons]
     refine Q0s hg (Q0s ?_ Q0Q)
     exact Q0s (Qp (Q1l rfl (by decide) (by decide) (by decide) (by decide)) (Qp (Q03 (by decide)) Q0Q)) (Q0s g6 (Qp (Q03 (by decide)) Q0Q))
    ·rw [List.flatMap_cons,List.append_assoc] at hT
     obtain ⟨e,z',σA,a1,a2,a3,a4,a5⟩:=key p2 σ2 _ z rs2 hp hz hR hT
     have a4':Toks t2 σA (kw [100,101,102,97,117,108,116] :: sg 58 :: (Q07 d2++sg 59 :: sg 125 :: ts)):=by
      simpa [armT] using a4
     obtain ⟨σB,b1,b2,b3⟩:=Q1G a4' [99,97,115,101]
     obtain ⟨σC,c1,c2,c3⟩:=Q1Q b2 (l:=[100,101,102,97,117,108,116]) rfl
     obtain ⟨_,σD,d1,_,d2',d3⟩:=QF c2 (l:=[58]) rfl
     obtain ⟨e2,σE,f1,f2,f3,f4⟩:=n6 σD (sg 125 :: ts) (((a3.left ((e3.trans e4).trans e5))).right ((b3.trans c3).trans d3)) d2'
     obtain ⟨z1,z2⟩:=z'
     obtain ⟨hz1,hz2⟩:=a2
     simp only at hz1 hz2
     refine ⟨[(cs,e),([],e2)],(s'.1,z2),σE,?_,by simp [erA,a1,f2],⟨rfl,by simp only;rw [hz2,u6]⟩,f3,f4⟩
     rw [a5,Qh (Qj b1)]
     show Q1L t2 (rs2++[(cs,e)]) (z1,z2) σB=_
     unfold Q1L
     rw [Qh (Qj c1)]
     show bndx _ _ (z1,z2) σC=_
     rw [Qh (Qj d1)]
     have f1':onL (arm t2 (Qr 0 0)) (z1,z2) σD = .ok (e2,(s'.1,z2),σE):=Q83 (by rw [hz1];exact f1)
     rw [Qh f1']
     simp [retx]
   ·cases h
    refine ⟨i4,[(cs,d)],by simp,⟨c,cr,d,[],by rw [ec]⟩,rfl,by simpa using hg,fun p2 σ2 ts z rs2 hp hz hR hT=>?_⟩
    rw [List.flatMap_cons,List.append_assoc] at hT
    obtain ⟨e,z',σA,a1,a2,a3,a4,a5⟩:=key p2 σ2 _ z rs2 hp hz hR hT
    obtain ⟨σB,b1,b2,b3⟩:=Q1G (t:=sg 125) (ts:=ts) a4 [99,97,115,101]
    obtain ⟨σC,c1,c2,c3⟩:=Q1h b2 (l:=[100,101,102,97,117,108,116]) (by decide)
    refine ⟨[(cs,e)],z',σC,?_,by simp [erA,a1],a2,(a3.left (e3.trans e4)).right (b3.trans c3),c2⟩
    rw [a5,Qh (Qj b1)]
    show Q1L t2 (rs2++[(cs,e)]) z' σB=_
    unfold Q1L
    rw [Qh (Qj c1)]
    rfl
theorem Qck {τ α:Type} {m:PX τ α} {t:τ} {r:α×τ} {σ σ':St} (h:runy m t σ = .ok (r,σ')):m t σ = .ok (r.1,r.2,σ'):=by
 unfold runy at h
 split at h
 ·rename_i a t' σ2 hm;cases h;exact hm
 ·cases h
theorem Qcl {τ α:Type} {m:PX τ α} {t t':τ} {a:α} {σ σ':St} (h:m t σ = .ok (a,t',σ')):runy m t σ = .ok ((a,t'),σ'):=by
 unfold runy
 rw [h]
theorem Qf9 (a b:Nat):Q4I (Q0n t1 a) t2 (Q0n t2 b) (kw [117,110,105,111,110]):=by
 intro σ1 σ1' d h hi
 obtain ⟨_,σa,h1,h⟩:=Qz h
 obtain ⟨i1,n1⟩:=Q4r (t2:=t2) (b:=b) h1 hi
 obtain ⟨n,σb,h2,h⟩:=Qz h
 obtain ⟨i2,g2,n2⟩:=Q2L (t2:=t2) h2 i1
 obtain ⟨_,σc,h3,h⟩:=Qz h
 obtain ⟨i3,e3⟩:=QE h3 i2
 obtain ⟨_,σd,h4,h⟩:=Qz h
 obtain ⟨i4,e4⟩:=QE h4 i3
 obtain ⟨q,σe,h5,h⟩:=Qz h
 obtain ⟨i5,e5,b5,n5⟩:=QaX (t2:=t2) h5 i4
 obtain ⟨m,σf,h6,h⟩:=Qz h
 obtain ⟨i6,g6,n6⟩:=Q2P (t2:=t2) (Q41 0 0) (Qck h6) i5
 obtain ⟨_,σg,h7,h⟩:=Qz h
 obtain ⟨i7,e7⟩:=QE h7 i6
 obtain ⟨_,σh,h8,h⟩:=Qz h
 obtain ⟨i8,e8⟩:=QE h8 i7
 obtain ⟨r,σi,h9,h⟩:=Qz h
 obtain ⟨i9,rest,r0,_,r1,r2,r3⟩:=Qf8 (t2:=t2) 13 [] (Qck h9) i8
 obtain ⟨_,σj,h10,h⟩:=Qz h
 obtain ⟨i10,e10⟩:=QE h10 i9
 obtain ⟨_,σk,h11,h⟩:=Qz h
 obtain ⟨i11,e11⟩:=QE h11 i10
 cases h
 rw [List.nil_append] at r1
 subst r1
 have hdt:Q07 ⟨m.1.1,m.1.2,q.1⟩=Q0q q.1++[nm m.1.1]:=Q4q b5
 refine ⟨i11,⟨Qp (Q1l rfl (by decide) (by decide) (by decide) (by decide)) (Qp g2 (Qp (Q1l rfl (by decide) (by decide) (by decide) (by decide)) (Qp (Q03 (by decide)) (Q0s (by rw [hdt];exact Q0s (Q3A (Or.inl b5)) (Qp g6 Q0Q)) (Qp (Q03 (by decide)) (Qp (Q03 (by decide)) (Q0s r2 (Qp (Q03 (by decide)) (Qp (Q03 (by decide)) Q0Q))))))))),trivial⟩,⟨_,rfl⟩,fun σ2 w ts er' hR hT=>?_⟩
 cases er'
 obtain ⟨σA,a1,a2,a3⟩:=n1 σ2 _ hR hT
 obtain ⟨nb,σB,b1,b2,b3⟩:=n2 σA _ a2 a3
 obtain ⟨_,σC,c1,_,c2,c3⟩:=QF b3 (l:=[115,119,105,116,99,104]) rfl
 obtain ⟨_,σD,d1,_,d2,d3⟩:=QF c2 (l:=[40]) rfl
 have d2':Toks t2 σD (Q0q q.1++nm m.1.1 :: sg 41 :: sg 123 :: (r.1.flatMap armT++sg 125 :: sg 59 :: ts)):=by rw [hdt] at d2;simpa using d2
 have hD:SR σd σD:=(b2.left (e3.trans e4)).right (c3.trans d3)
 obtain ⟨q',σE,f1,f2,f3,f4,f5⟩:=n5 σD _ hD (Q7H g6 _) d2'
 obtain ⟨mb,σF,g1,g2',g3⟩:=n6 σE _ ((hD.left e5).right f4) f5
 obtain ⟨_,σG,k1,_,k2,k3⟩:=QF g3 (l:=[41]) rfl
 obtain ⟨_,σH,l1,_,l2,l3⟩:=QF k2 (l:=[123]) rfl
 obtain ⟨more,z',σI,m1,m2,m3,m4,m5⟩:=r3 q'.2 σH (sg 59 :: ts) (m.2,[]) [] f3 ⟨rfl,rfl⟩ ((g2'.left (e7.trans e8)).right (k3.trans l3)) l2
 obtain ⟨_,σJ,o1,_,o2,o3⟩:=QF m5 (l:=[125]) rfl
 obtain ⟨_,σK,p1,_,p2,p3⟩:=QF o2 (l:=[59]) rfl
 refine ⟨.union n.1 nb ⟨m.1.1,mb,q'.1⟩ more,σK,?_,?_,(m4.left (e10.trans e11)).right (o3.trans p3),p2⟩
 ·unfold Q0n
  rw [Qg a1,Qg b1]
  unfold Q4z
  rw [Qg c1,Qg d1,Qg f1]
  unfold Q4y
  rw [Qg (Qcl g1)]
  unfold Q5s
  rw [Qg k1,Qg l1]
  have m1':runy (Q1y t2 q'.2 13 []) (m.2,[]) σH = .ok ((more,z'),σI):=Qcl (by simpa using m1)
  rw [Qg m1']
  unfold Q2r Q3o
  rw [Qg o1,Qg p1]
  rfl
 ·have hm:more.map (fun a=>(a.1,erD a.2))=r.1.map (fun a=>(a.1,erD a.2)):=m2
  have hs:erD ⟨m.1.1,mb,q'.1⟩=erD ⟨m.1.1,m.1.2,q.1⟩:=by simp [erD,f2]
  show DefL.union n.1 0 (erD ⟨m.1.1,mb,q'.1⟩) (more.map fun a=>(a.1,erD a.2))=DefL.union n.1 0 (erD ⟨m.1.1,m.1.2,q.1⟩) (r.1.map fun a=>(a.1,erD a.2))
  rw [hm,hs]
end
section
variable {t1 t2 : ByteArray} {σ1 σ1' : St}
theorem Q8i {l l':List (Int×Int)} {n:Int} (h:Q3b t1 l σ1 = .ok (n,l',σ1')) (hi:Inv σ1):Inv σ1'∧Q06 σ1 σ1'∧Q1F n ∧
  ∀ σ2 ts m,m.map (·.1)=l.map (·.1)→Toks t2 σ2 (sg 61 :: nu n :: sg 59 :: ts)→∃ m' σ2',Q3b t2 m σ2 = .ok (n,m',σ2')∧m'.map (·.1)=l'.map (·.1)∧Q06 σ2 σ2'∧Toks t2 σ2' ts:=by
 obtain ⟨_,σa,h1,h⟩:=QL h
 obtain ⟨i1,e1⟩:=QE h1 hi
 obtain ⟨k,l2,σb,h2,h⟩:=Q05 h
 obtain ⟨i2,e2,r2,p2,n2⟩:=Q4U (t2:=t2) h2 i1
 obtain ⟨_,σc,h3,h⟩:=QL h
 obtain ⟨i3,e3⟩:=QE h3 i2
 cases h
 refine ⟨i3,(e1.trans e2).trans e3,r2,fun σ2 ts m hm hT=>?_⟩
 obtain ⟨_,σA,a1,_,a2,a3⟩:=QF hT (l:=[61]) rfl
 obtain ⟨m',σB,b1,b2,b3,b4⟩:=n2 _ σA _ m p2 hm a2
 obtain ⟨_,σC,c1,_,c2,c3⟩:=QF b4 (l:=[59]) rfl
 refine ⟨m',σC,?_,b2,(a3.trans b3).trans c3,c2⟩
 unfold Q3b
 rw [Qh (Qj a1),Qh b1,Qh (Qj c1)]
 rfl
abbrev Qgu (t:Ty):Prop:=Q3e t∨t = .void
theorem Qdw {a:Ty} (ha:Qgu a) (m:List WTok):∃ t r,Q0q a++m=t :: r∧t.text≠[125]:=by
 rcases ha with ha | rfl
 ·obtain ⟨t,r,e,_,h⟩:=Q4T ha m
  exact ⟨t,r,e,h⟩
 ·exact ⟨_,_,rfl,by decide⟩
theorem Qcm {t:Ty} (h:Qgu t):Q13 t:=by
 rcases h with (⟨x,a,rfl,_⟩ | ⟨k,rfl,_⟩) | rfl<;>trivial
theorem Qfa {s s':UnSt} {d:Q15} (h:Q3T t1 s σ1 = .ok (d,s',σ1')) (hi:Inv σ1):Inv σ1'∧((∀ t∈Q2C d,GoodTok t)∧Q13 d.res∧Q13 d.arg)∧(∃ t r,Q2C d=t :: r∧t.text≠[125]) ∧
  ∀ z σ2 ts,UT s z→SR σ1 σ2→Toks t2 σ2 (Q2C d++ts)→∃ e z' σ2',Q3T t2 z σ2 = .ok (e,z',σ2')∧erP e=erP d∧UT s' z'∧SR σ1' σ2'∧Toks t2 σ2' ts:=by
 obtain ⟨res,σa,h1,h⟩:=QL h
 obtain ⟨i1,e1,b1⟩:=Qag h1 hi
 obtain ⟨n,s2,σb,h2,h⟩:=Q05 h
 obtain ⟨h2,u2⟩:=Q82 h2
 obtain ⟨i2,g2,n2⟩:=Q2P (t2:=t2) (Q41 0 0) h2 i1
 obtain ⟨_,σc,h3,h⟩:=QL h
 obtain ⟨i3,e3⟩:=QE h3 i2
 obtain ⟨arg,σd,h4,h⟩:=QL h
 obtain ⟨i4,e4,b4⟩:=Qag h4 i3
 obtain ⟨_,σe,h5,h⟩:=QL h
 obtain ⟨i5,e5⟩:=QE h5 i4
 obtain ⟨k,s3,σf,h6,h⟩:=Q05 h
 obtain ⟨h6,u6⟩:=Q9V h6
 obtain ⟨i6,e6,r6,n6⟩:=Q8i (t2:=t2) h6 i5
 cases h
 have hg:∀ t∈Q2C ⟨n.1,n.2,res,arg,k⟩,GoodTok t:=Q0s (Q3A b1) (Qp g2 (Qp (Q03 (by decide)) (Q0s (Q3A b4) (Qp (Q03 (by decide)) (Qp (Q03 (by decide)) (Qp (Q47 r6) (Qp (Q03 (by decide)) Q0Q)))))))
 refine ⟨i6,⟨hg,Qcm b1,Qcm b4⟩,Qdw b1 _,fun z σ2 ts hz hR hT=>?_⟩
 obtain ⟨z1,z2⟩:=z
 obtain ⟨hz1,hz2⟩:=hz
 simp only at hz1 hz2
 have hT':Toks t2 σ2 (Q0q res++nm n.1 :: sg 40 :: (Q0q arg++sg 41 :: sg 61 :: nu k :: sg 59 :: ts)):=by simpa [Q2C] using hT
 obtain ⟨res2,σA,a1,a2,a3,a4⟩:=Qah b1 hT' (Q7H g2 _)
 obtain ⟨nb,σB,c1,c2,c3⟩:=n2 σA _ ((hR.left e1).right a4) a3
 obtain ⟨_,σC,d1,_,d2,d3⟩:=QF c3 (l:=[40]) rfl
 obtain ⟨arg2,σD,f1,f2,f3,f4⟩:=Qah b4 d2 (QdW _)
 obtain ⟨_,σE,g1,_,g2',g3⟩:=QF f3 (l:=[41]) rfl
 obtain ⟨m',σF,k1,k2,k3,k4⟩:=n6 σE ts z2 (by rw [hz2,u2]) g2'
 refine ⟨⟨n.1,nb,res2,arg2,k⟩,(s2.1,m'),σF,?_,by simp [erP,a2,f2],⟨u6.symm ▸ rfl,k2⟩,(c2.left (((e3.trans e4).trans e5).trans e6)).right (((d3.trans f4).trans g3).trans k3),k4⟩
 unfold Q3T
 have c1':onL (name t2 (Qr 0 0)) (z1,z2) σA = .ok ((n.1,nb),(s2.1,z2),σB):=Q83 (by rw [hz1];exact c1)
 have k1':onR (Q3b t2) (s2.1,z2) σE = .ok (k,(s2.1,m'),σF):=Q9W k1
 rw [Qh (Qj a1),Qh c1',Qh (Qj d1),Qh (Qj f1),Qh (Qj g1),Qh k1']
 rfl
theorem Qcn:Q9v (Q2a t1) t2 (Q2a t2) (fun s z=>UT s.2 z.2∧z.1.map erP=s.1.map erP) (·.1) Q2C (fun p=>Q13 p.res∧Q13 p.arg):=by
 intro s s' σ1 σ1' h hi
 unfold Q2a at h
 split at h
 ·rename_i d u σa hd
  cases h
  obtain ⟨i1,g1,f1,n1⟩:=Qfa (t2:=t2) hd hi
  refine ⟨i1,d,rfl,g1,f1,fun z σ2 ts hT hR hK=>?_⟩
  obtain ⟨e,z',σA,a1,a2,a3,a4,a5⟩:=n1 z.2 σ2 ts hT.1 hR hK
  refine ⟨(z.1++[e],z'),σA,?_,⟨a3,by simp [hT.2,a2]⟩,a4,a5⟩
  unfold Q2a
  rw [a1]
 ·cases h
theorem QaY {s s':UnSt} {d:QN} (h:Q20 t1 s σ1 = .ok (d,s',σ1')) (hi:Inv σ1):Inv σ1'∧((∀ t∈verT d,GoodTok t)∧Q6C d)∧(∃ t r,verT d=t :: r∧t.text≠[125]) ∧
  ∀ z σ2 ts,UT s z→SR σ1 σ2→Toks t2 σ2 (verT d++ts)→∃ e z' σ2',Q20 t2 z σ2 = .ok (e,z',σ2')∧erV e=erV d∧UT s' z'∧SR σ1' σ2'∧Toks t2 σ2' ts:=by
 obtain ⟨_,σa,h1,h⟩:=QL h
 obtain ⟨i1,e1⟩:=QE h1 hi
 obtain ⟨n,s2,σb,h2,h⟩:=Q05 h
 obtain ⟨h2,u2⟩:=Q82 h2
 obtain ⟨i2,g2,n2⟩:=Q2P (t2:=t2) (Q41 0 0) h2 i1
 obtain ⟨p,σc,h3,h⟩:=QL h
 obtain ⟨i3,rest,r0,r1,r2,r3⟩:=Q6Y (Qcn (t1:=t1) (t2:=t2)) h3 i2
 obtain ⟨k,s3,σd,h4,h⟩:=Q05 h
 obtain ⟨h4,u4⟩:=Q9V h4
 obtain ⟨i4,e4,q4,n4⟩:=Q8i (t2:=t2) h4 i3
 cases h
 simp only [List.nil_append] at r1
 subst r1
 have hg:∀ t∈verT ⟨n.1,n.2,p.1,k⟩,GoodTok t:=Qp (Q1l rfl (by decide) (by decide) (by decide) (by decide)) (Qp g2 (Qp (Q03 (by decide)) (Q0s r2 (Qp (Q03 (by decide)) (Qp (Q03 (by decide)) (Qp (Q47 q4) (Qp (Q03 (by decide)) Q0Q)))))))
 refine ⟨i4,⟨hg,r0.2.1,r0.2.2⟩,⟨_,_,rfl,by decide⟩,fun z σ2 ts hz hR hT=>?_⟩
 obtain ⟨z1,z2⟩:=z
 obtain ⟨hz1,hz2⟩:=hz
 simp only at hz1 hz2
 have hT':Toks t2 σ2 (kw [118,101,114,115,105,111,110] :: nm n.1 :: sg 123 :: (p.1.flatMap Q2C++sg 125 :: sg 61 :: nu k :: sg 59 :: ts)):=by simpa [verT] using hT
 obtain ⟨_,σA,a1,_,a2,a3⟩:=QF hT' (l:=[118,101,114,115,105,111,110]) rfl
 obtain ⟨nb,σB,c1,c2,c3⟩:=n2 σA _ ((hR.left e1).right a3) a2
 obtain ⟨p2,σC,d1,d2,d3,d4⟩:=r3 ([],([],[])) σB _ ⟨⟨rfl,rfl⟩,rfl⟩ c2 c3
 obtain ⟨m',σD,k1,k2,k3,k4⟩:=n4 σC ts z2 (by rw [hz2,u2]) d4
 refine ⟨⟨n.1,nb,p2.1,k⟩,(s2.1,m'),σD,?_,by simp [erV,d2.2],⟨u4.symm ▸ rfl,k2⟩,(d3.left e4).right k3,k4⟩
 unfold Q20
 have c1':onL (name t2 (Qr 0 0)) (z1,z2) σA = .ok ((n.1,nb),(s2.1,z2),σB):=Q83 (by rw [hz1];exact c1)
 have k1':onR (Q3b t2) (s2.1,z2) σC = .ok (k,(s2.1,m'),σD):=Q9W k1
 rw [Qh (Qj a1),Qh c1']
 unfold Q5E
 rw [Qh (Qj d1),Qh k1']
 rfl
theorem Qco:Q9v (Q1V t1) t2 (Q1V t2) (fun s z=>UT s.2 z.2∧z.1.map erV=s.1.map erV) (·.1) verT Q6C:=by
 intro s s' σ1 σ1' h hi
 unfold Q1V at h
 split at h
 ·rename_i d u σa hd
  cases h
  obtain ⟨i1,g1,f1,n1⟩:=QaY (t2:=t2) hd hi
  refine ⟨i1,d,rfl,g1,f1,fun z σ2 ts hT hR hK=>?_⟩
  obtain ⟨e,z',σA,a1,a2,a3,a4,a5⟩:=n1 z.2 σ2 ts hT.1 hR hK
  refine ⟨(z.1++[e],z'),σA,?_,⟨a3,by simp [hT.2,a2]⟩,a4,a5⟩
  unfold Q1V
  rw [a1]
 ·cases h
theorem Qcp {n:Int} (h:Q2J t1 σ1 = .ok (n,σ1')) (hi:Inv σ1):Inv σ1'∧Q1F n ∧
  ∀ σ2 ts,SR σ1 σ2→Toks t2 σ2 (sg 61 :: nu n :: sg 59 :: ts)→∃ σ2',Q2J t2 σ2 = .ok (n,σ2')∧SR σ1' σ2'∧Toks t2 σ2' ts:=by
 obtain ⟨_,σa,h1,h⟩:=Qz h
 obtain ⟨i1,e1⟩:=QE h1 hi
 obtain ⟨k,σb,h2,h⟩:=Qz h
 unfold Q2s at h2
 split at h2
 ·rename_i n' l' σ' hn
  cases h2
  obtain ⟨i2,e2,r2,p2,n2⟩:=Q4U (t2:=t2) hn i1
  have i2':Inv { σ' with progs:=l' }:=⟨i2.nx,i2.cs⟩
  obtain ⟨_,σc,h3,h⟩:=Qz h
  obtain ⟨i3,e3⟩:=QE h3 i2'
  cases h
  refine ⟨i3,r2,fun σ2 ts hR hT=>?_⟩
  obtain ⟨_,σA,a1,_,a2,a3⟩:=QF hT (l:=[61]) rfl
  have hRA:=(hR.left e1).right a3
  obtain ⟨m',σB,b1,b2,b3,b4⟩:=n2 _ σA _ σA.progs p2 hRA.progs a2
  have hRB:SR { σ' with progs:=l' } { σB with progs:=m' }:=by
   have:=(hRA.left e2).right b3
   exact ⟨this.types,this.consts,this.names,b2⟩
  obtain ⟨_,σC,c1,_,c2,c3⟩:=QF (Q3K (σ':={ σB with progs:=m' }) b4 rfl rfl) (l:=[59]) rfl
  refine ⟨σC,?_,(hRB.left e3).right c3,c2⟩
  unfold Q2J
  have b1':Q2s t2 (Q14 0 4294967295) σA = .ok (n,{ σB with progs:=m' }):=by
   unfold Q2s
   rw [b1]
  rw [Qg a1,Qg b1',Qg c1]
  rfl
 ·cases h2
theorem Qcq (a b:Nat):Q4I (Q1C t1 a) t2 (Q1C t2 b) (kw [112,114,111,103,114,97,109]):=by
 intro σ1 σ1' d h hi
 obtain ⟨_,σa,h1,h⟩:=Qz h
 obtain ⟨hr,es⟩:=Qam h1
 rw [es] at h
 clear h1 es
 obtain ⟨n,σb,h2,h⟩:=Qz h
 obtain ⟨i2,g2,n2⟩:=Q2L (t2:=t2) h2 hi
 obtain ⟨p,σc,h3,h⟩:=Qz h
 obtain ⟨i3,rest,r0,r1,r2,r3⟩:=Q6Y (Qco (t1:=t1) (t2:=t2)) h3 i2
 obtain ⟨k,σd,h4,h⟩:=Qz h
 obtain ⟨i4,q4,n4⟩:=Qcp (t2:=t2) h4 i3
 cases h
 simp only [List.nil_append] at r1
 subst r1
 refine ⟨i4,⟨Qp (Q1l rfl (by decide) (by decide) (by decide) (by decide)) (Qp g2 (Qp (Q03 (by decide)) (Q0s r2 (Qp (Q03 (by decide)) (Qp (Q03 (by decide)) (Qp (Q47 q4) (Qp (Q03 (by decide)) Q0Q))))))),r0.1,r0.2.1,r0.2.2⟩,⟨_,rfl⟩,fun σ2 r ts er' hR hT=>?_⟩
 cases er'
 have hr2:¬ 4≤σ2.progs.length:=by
  have:=congrArg List.length hR.progs
  simp only [List.length_map] at this
  rw [this]
  exact hr
 have hT':Toks t2 σ2 (nm n.1 :: sg 123 :: (p.1.flatMap verT++sg 125 :: sg 61 :: nu k :: sg 59 :: ts)):=by simpa using hT
 obtain ⟨nb,σB,b1,b2,b3⟩:=n2 σ2 _ hR hT'
 obtain ⟨z',σC,c1,c2,c3,c4⟩:=r3 ([],([],[])) σB _ ⟨⟨rfl,rfl⟩,rfl⟩ b2 b3
 obtain ⟨σD,d1,d2,d3⟩:=n4 σC ts c3 c4
 refine ⟨.prog n.1 nb z'.1 k,σD,?_,by simp [er,c2.2],d2,d3⟩
 unfold Q1C
 have a1:∀ (k:Unit→PM DefL),bnd (fun σ:St=>Q0P σ.progs.length 4 b σ) k σ2=k () σ2:=fun k=>Qg (m:=fun σ:St=>Q0P σ.progs.length 4 b σ) (Q6X hr2)
 rw [a1,Qg b1]
 unfold Q4A
 rw [Qg c1,Qg d1]
 rfl
theorem Q9w {d:DefL} (h:definition t1 σ1 = .ok (d,σ1')) (hi:Inv σ1):Inv σ1'∧((∀ t∈Q01 d,GoodTok t)∧Q2F d)∧(∃ t r,Q01 d=t :: r∧t.kind=2) ∧
  ∀ σ2 ts,SR σ1 σ2→Toks t2 σ2 (Q01 d++ts)→∃ e σ2',definition t2 σ2 = .ok (e,σ2')∧er e=er d∧SR σ1' σ2'∧Toks t2 σ2' ts:=by
 obtain ⟨x,σa,h1,h⟩:=Qz h
 obtain ⟨_,i1,e1⟩:=Q3z h1 hi
 /- one kind of definition -/
 have one:∀ {m:ByteArray→Nat→PM DefL} {l:List UInt8},(∀ a b,Q4I (m t1 a) t2 (m t2 b) (kw l))→m t1 x.at' σa = .ok (d,σ1')→(∀ (y:Mar.Word),y.text=l→defK t2 y=m t2 y.at') →
   Inv σ1'∧((∀ t∈Q01 d,GoodTok t)∧Q2F d)∧(∃ t r,Q01 d=t :: r∧t.kind=2)∧∀ σ2 ts,SR σ1 σ2→Toks t2 σ2 (Q01 d++ts)→∃ e σ2',definition t2 σ2 = .ok (e,σ2')∧er e=er d∧SR σ1' σ2'∧Toks t2 σ2' ts:=by
  intro m l hm h2 hk
  obtain ⟨i2,g2,⟨r,er'⟩,_⟩:=hm x.at' 0 h2 i1
  refine ⟨i2,g2,⟨_,r,er',rfl⟩,fun σ2 ts hR hT=>?_⟩
  rw [er',List.cons_append] at hT
  obtain ⟨y,σA,a1,a2,a3,a4⟩:=Q2B hT
  obtain ⟨_,_,_,n2⟩:=hm x.at' y.at' h2 i1
  obtain ⟨e,σB,b1,b2,b3,b4⟩:=n2 σA r ts er' ((hR.left e1).right a4) a3
  refine ⟨e,σB,?_,b2,b3,b4⟩
  unfold definition
  rw [Qg a1,hk y (Q2n a2).1]
  exact b1
 unfold defK at h
 split at h
 ·exact one (m:=constant) QaW h (fun y hy=>by unfold defK;rw [hy];rfl)
 split at h
 ·exact one (m:=typedef) Qch h (fun y hy=>by unfold defK;rw [hy];rfl)
 split at h
 ·exact one (m:=enumeration) Q8J h (fun y hy=>by unfold defK;rw [hy];rfl)
 split at h
 ·exact one (m:=Q1o) Q9U h (fun y hy=>by unfold defK;rw [hy];rfl)
 split at h
 ·exact one (m:=Q0n) Qf9 h (fun y hy=>by unfold defK;rw [hy];rfl)
 split at h
 ·exact one (m:=Q1C) Qcq h (fun y hy=>by unfold defK;rw [hy];rfl)
 ·cases h
end
end Go.Proofs.YtmbcibgknckenaaGreatDoor
namespace Go.Proofs.YtmbcibgknckenaaGreatDoor
open Mar (WTok GoodTok Written Run joinW)
theorem Qcr (d:DefL):(Qw (er d)).1=(Qw d).1:=by cases d<;>rfl
theorem Q9x {d e:DefL} (h:er e=er d):(Qw e).1=(Qw d).1:=by rw [← Qcr,h,Qcr]
section
variable {t1 t2 : ByteArray}
theorem Q9y:∀ (k:Nat) (ds:List DefL) {σ1 σ1':St} {r:List DefL},Q0L t1 k ds σ1 = .ok (r,σ1')→Inv σ1 →
  ∃ rest,r=ds++rest∧(∀ d∈rest,((∀ t∈Q01 d,GoodTok t)∧Q01 d≠[])∧Q2F d)∧∀ σ2 es,SR σ1 σ2→Toks t2 σ2 (rest.flatMap Q01++[Q9r])→∃ more σ2',Q0L t2 k es σ2 = .ok (es++more,σ2')∧more.map er=rest.map er∧SR σ1' σ2':=by
 intro k
 induction k with
 | zero=>intro ds σ1 σ1' r h;cases h
 | succ k ih=>
  intro ds σ1 σ1' r h hi
  unfold Q0L at h
  obtain ⟨x,σa,h1,h⟩:=Qz h
  obtain ⟨_,i1,e1⟩:=Q6a h1 hi
  split at h
  ·cases h
   refine ⟨[],by simp,fun d hd=>(by cases hd),fun σ2 es hR hT=>?_⟩
   obtain ⟨y,σA,a1,a2,a3,a4⟩:=Q56 (t:=Q9r) (ts:=[]) hT
   refine ⟨[],σA,?_,rfl,(hR.left e1).right a4⟩
   unfold Q0L
   rw [Qg a1,if_pos (by rw [(Q2n a2).2.1];rfl),List.append_nil]
   rfl
  ·obtain ⟨d,σb,h2,h⟩:=Qz h
   obtain ⟨i2,⟨g2,gp⟩,⟨t,tr,et,kt⟩,n2⟩:=Q9w (t2:=t2) h2 i1
   obtain ⟨_,σc,h3,h⟩:=Qz h
   cases h3
   have hc:∀ t a v,d = .const t a v→Q1F v:=by
    intro t a v hd
    subst hd
    have:=g2 (nu v) (by simp [Q01])
    rcases this with ⟨h,_⟩ | ⟨h,_⟩ | ⟨_,_,h,_⟩ | ⟨h,_⟩
    ·cases h
    ·cases h
    ·exact Q5T h
    ·cases h
   obtain ⟨rest,r1,r2,r3⟩:=ih _ h (Qal i2 _ hc)
   refine ⟨d :: rest,by rw [r1];simp,?_,fun σ2 es hR hT=>?_⟩
   ·intro x hx
    rcases List.mem_cons.1 hx with rfl | hx
    ·exact ⟨⟨g2,by rw [et];simp⟩,gp⟩
    ·exact r2 x hx
   ·rw [List.flatMap_cons,List.append_assoc] at hT
    have hT':=hT
    rw [et,List.cons_append] at hT'
    obtain ⟨y,σA,a1,a2,a3,a4⟩:=Q56 hT'
    rw [← List.cons_append,← et] at a3
    obtain ⟨e,σB,b1,b2,b3,b4⟩:=n2 σA _ ((hR.left e1).right a4) a3
    have hs:SR { σb with names:=Q0b σb.names (Qw d).1 d } { σB with names:=Q0b σB.names (Qw e).1 e }:=by
     refine ⟨b3.types,b3.consts,?_,b3.progs⟩
     simp only
     rw [Q9x b2]
     exact Q9u σb.names (Qw d).1 d e b2 b3.names
    obtain ⟨more,σC,c1,c2,c3⟩:=r3 { σB with names:=Q0b σB.names (Qw e).1 e } (es++[e]) hs (Q3K b4 rfl rfl)
    refine ⟨e :: more,σC,?_,by simp [b2,c2],c3⟩
    unfold Q0L
    have hk:((y.kind:Int) == 0)=false:=by rw [(Q2n a2).2.1,kt];rfl
    rw [Qg a1,hk,if_neg (by simp),Qg b1]
    have hd:QfL e σB = .ok ((),{ σB with names:=Q0b σB.names (Qw e).1 e }):=rfl
    rw [Qg hd,c1]
    simp
end
theorem Q5n (t:Ty):(QJ (erT t)).map (·.1)=(QJ t).map (·.1):=by
 induction t with
 | named n a=>rfl
 | arr o n f ih=>exact ih
 | opt o ih=>exact ih
 | _=>rfl
theorem Q6Z (t:Ty):(QR (erT t)).map (·.1)=(QR t).map (·.1):=by
 induction t with
 | named n a=>rfl
 | arr o n f ih=>
  simp only [erT,QR]
  split
  ·exact ih
  ·rfl
 | _=>rfl
theorem Q48 {α β:Type} {l:List α} {f:α→α} {g:α→List (β×Nat)} (h:∀ a,(g (f a)).map (·.1)=(g a).map (·.1)):((l.map f).flatMap g).map (·.1)=(l.flatMap g).map (·.1):=by
 induction l with
 | nil=>rfl
 | cons a l ih=>simp only [List.map_cons,List.flatMap_cons,List.map_append,h,ih]
theorem Q8j (d:DefL):(Q0G (er d)).map (·.1)=(Q0G d).map (·.1):=by
 cases d with
 | typedef d=>exact Q5n d.ty
 | struct t a ms=>exact Q48 (g:=fun d:Qk=>QJ d.ty) fun d=>Q5n d.ty
 | union t a s arms=>exact Q48 (g:=fun d:List Int×Qk=>QJ d.2.ty) fun d=>Q5n d.2.ty
 | prog t a vs n=>
  refine Q48 (g:=Q0u) fun v=>?_
  refine Q48 (l:=v.procs) (g:=Q2x) fun p=>?_
  simp only [Q2x,erP,List.map_append,Q5n]
 | _=>rfl
theorem Q4V (d:DefL):(Q0r (er d)).map (·.1)=(Q0r d).map (·.1):=by
 cases d with
 | typedef d=>exact Q6Z d.ty
 | struct t a ms=>exact Q48 (g:=fun d:Qk=>QR d.ty) fun d=>Q6Z d.ty
 | union t a s arms=>exact Q48 (g:=fun d:List Int×Qk=>QR d.2.ty) fun d=>Q6Z d.2.ty
 | _=>rfl
theorem Qan (o:Option DefL):Q3f (o.map er)=Q3f o:=by
 cases o with
 | none=>rfl
 | some d=>cases d<;>rfl
def Q6e (σ:St) (n:List UInt8):Bool:=match look σ.names n with
 | some o=>Q3f o
 | none=>false
theorem Qfb {σ1 σ2:St} (h:SR σ1 σ2) (n:List UInt8):Q6e σ2 n=Q6e σ1 n:=by
 have e:=h.look n
 unfold Q6e
 cases h1:look σ1.names n with
 | none=>
  cases h2:look σ2.names n with
  | none=>rfl
  | some o=>rw [h1,h2] at e;cases e
 | some o=>
  cases h2:look σ2.names n with
  | none=>rw [h1,h2] at e;cases e
  | some o2=>
   rw [h1,h2] at e
   simp only [Option.map_some,Option.some.injEq] at e
   simp only
   rw [← Qan,e,Qan]
theorem Q7J (σ:St) (n:List UInt8×Nat):Q1r σ n = .ok ()↔Q6e σ n.1=true:=by
 unfold Q1r Q6e
 cases look σ.names n.1 with
 | none=>simp
 | some o=>cases h:Q3f o<;>simp [h]
theorem Qdx (σ:St):∀ l:List (List UInt8×Nat),Qm (Q0K ⟨0,0,0,0,[]⟩ ⟨#[]⟩ σ [] 0) l () = .ok ()↔(l.map (·.1)).all (Q6e σ)=true:=by
 intro l
 induction l with
 | nil=>simp [Qm]
 | cons n l ih=>
  have hr:(Q0K ⟨0,0,0,0,[]⟩ ⟨#[]⟩ σ [] 0).run n ()=Q1r σ n:=rfl
  rw [Qm,hr,List.map_cons,List.all_cons]
  cases hl:Q1r σ n with
  | error f=>
   have:¬ Q6e σ n.1=true:=fun h=>by rw [(Q7J σ n).2 h] at hl;cases hl
   simp [this]
  | ok u=>
   have:Q6e σ n.1=true:=(Q7J σ n).1 (by rw [hl])
   simp only [this,Bool.true_and]
   exact ih
theorem Qfc {ds es:List DefL} (h:es.map er=ds.map er):(es.flatMap Q0G).map (·.1)=(ds.flatMap Q0G).map (·.1):=by
 have e1:=Q48 (l:=es) (f:=er) (g:=Q0G) Q8j
 have e2:=Q48 (l:=ds) (f:=er) (g:=Q0G) Q8j
 rw [← e1,← e2,h]
theorem Qcs {σ1 σ2:St} (hR:SR σ1 σ2) {ds es:List DefL} (h:es.map er=ds.map er) (hl:Q2u σ1 ds = .ok ()):Q2u σ2 es = .ok ():=by
 unfold Q2u at hl ⊢
 rw [Qdx] at hl ⊢
 rw [Qfc h]
 rw [List.all_eq_true] at hl ⊢
 intro n hn
 rw [Qfb hR]
 exact hl n hn
theorem Qct {σ1 σ2:St} (h:SR σ1 σ2) (n:List UInt8):(Q6x σ2 n).map (·.1)=(Q6x σ1 n).map (·.1):=by
 have e:=h.look n
 unfold Q6x
 cases h1:look σ1.names n with
 | none=>
  cases h2:look σ2.names n with
  | none=>rfl
  | some o=>rw [h1,h2] at e;cases e
 | some o=>
  cases h2:look σ2.names n with
  | none=>rw [h1,h2] at e;cases e
  | some o2=>
   rw [h1,h2] at e
   simp only [Option.map_some,Option.some.injEq] at e
   cases o with
   | none=>
    cases o2 with
    | none=>rfl
    | some d2=>cases e
   | some d=>
    cases o2 with
    | none=>cases e
    | some d2=>
     simp only [Option.map_some,Option.some.injEq] at e
     simp only
     rw [← Q4V,e,Q4V]
theorem Qdy {σ1 σ2:St} (h:SR σ1 σ2):∀ (k:Nat) (n:List UInt8) (t:List (List UInt8)),follow σ2 k n t=follow σ1 k n t:=by
 intro k
 induction k with
 | zero=>intro n t;rfl
 | succ k ih=>
  intro n t
  unfold follow
  split
  ·rfl
  ·have e:∀ (σ:St) (l:List (List UInt8×Nat)) (t:List (List UInt8)),l.foldl (fun t m=>follow σ k m.1 t) t=(l.map (·.1)).foldl (fun t m=>follow σ k m t) t:=by
    intro σ l t
    rw [List.foldl_map]
   rw [e,e,Qct h]
   congr 1
   funext t m
   exact ih m t
theorem Q9X {σ1 σ2:St} (h:SR σ1 σ2):Q1f σ2 []=Q1f σ1 []:=by
 have e:∀ σ:St,Q1f σ [] = σ.names.length:=by
  intro σ
  unfold Q1f
  rw [List.countP_eq_length]
  simp
 rw [e,e]
 have:=congrArg List.length h.names
 simpa using this
theorem Qcu {σ1 σ2:St} (h:SR σ1 σ2) {d e:DefL} (hd:er e=er d):Q30 σ2 e=Q30 σ1 d:=by
 unfold Q30
 rw [Q9x hd,Q9X h]
 have k:∀ (σ:St) (l:List (List UInt8×Nat)) (t:List (List UInt8)),l.foldl (fun t m=>follow σ (Q1f σ1 []) m.1 t) t=(l.map (·.1)).foldl (fun t m=>follow σ (Q1f σ1 []) m t) t:=by
  intro σ l t
  rw [List.foldl_map]
 have hl:(Q0r e).map (·.1)=(Q0r d).map (·.1):=by rw [← Q4V,hd,Q4V]
 rw [k,k,hl]
 congr 1
 congr 1
 funext t m
 exact Qdy h _ m t
theorem Qdz {σ1 σ2:St} (h:SR σ1 σ2):∀ {ds es:List DefL},es.map er=ds.map er→Q1J σ1 ds = .ok ()→Q1J σ2 es = .ok ():=by
 intro ds
 induction ds with
 | nil=>
  intro es he _
  cases es with
  | nil=>rfl
  | cons e es=>cases he
 | cons d ds ih=>
  intro es he hd
  cases es with
  | nil=>cases he
  | cons e es=>
   simp only [List.map_cons,List.cons.injEq] at he
   unfold Q1J at hd ⊢
   rw [Qcu h he.1]
   split at hd
   ·cases hd
   ·rename_i hr
    rw [if_neg hr]
    exact ih he.2 hd
def defW (d:DefL):List UInt8:=joinW Q0E [] ((Q01 d).map (·.text))++[10]
theorem Qfd (l r:List UInt8) (h:Q0E l r=false) (hl:l≠[]):(∃ c,l=[c]∧Mar.isSign c=true)∨∃ c,r=[c]∧Mar.isSign c=true:=by
 unfold Q0E at h
 split at h
 ·rename_i h1
  simp only [Bool.or_eq_true,beq_iff_eq] at h1
  rcases h1 with (((h1 | h1) | h1) | h1) | h1
  ·exact absurd h1 hl
  ·exact Or.inl ⟨40,h1,by decide⟩
  ·exact Or.inl ⟨91,h1,by decide⟩
  ·exact Or.inl ⟨60,h1,by decide⟩
  ·exact Or.inl ⟨42,h1,by decide⟩
 ·split at h
  ·rename_i h1
   simp only [Bool.or_eq_true,beq_iff_eq] at h1
   rcases h1 with ((((((h1 | h1) | h1) | h1) | h1) | h1) | h1) | h1
   ·exact Or.inr ⟨59,h1,by decide⟩
   ·exact Or.inr ⟨44,h1,by decide⟩
   ·exact Or.inr ⟨58,h1,by decide⟩
   ·exact Or.inr ⟨41,h1,by decide⟩
   ·exact Or.inr ⟨91,h1,by decide⟩
   ·exact Or.inr ⟨93,h1,by decide⟩
   ·exact Or.inr ⟨60,h1,by decide⟩
   ·exact Or.inr ⟨62,h1,by decide⟩
  ·split at h
   ·rename_i h1
    exact Or.inr ⟨40,by simpa using h1,by decide⟩
   ·cases h
theorem Qcv {ts us:List WTok} {l:List UInt8} (hne:ts≠[]) (hg:∀ t∈ts,GoodTok t) (hl:∃ r,l=joinW Q0E [] (ts.map (·.text))++r) (h:Written (ts++us) l):Written (ts++us) (10 :: l):=by
 cases ts with
 | nil=>exact absurd rfl hne
 | cons t ts=>
  obtain ⟨s,r,e,hs,h1,h2,h3⟩:=h
  have hs0:s=[]:=by
   rcases hs with hs | ⟨c,hs,hc⟩
   ·exact hs
   ·obtain ⟨r',hr'⟩:=hl
    have ha:Q0E [] t.text=false:=rfl
    simp only [List.map_cons,joinW,ha,Bool.false_eq_true,if_false,List.nil_append,List.append_assoc] at hr'
    rw [e,hs] at hr'
    have:=((hg t (by simp)).head (joinW Q0E t.text (ts.map (·.text))++r')).1 c (t.text++r) hr'.symm
    rw [hc] at this
    cases this.1
  subst hs0
  exact ⟨[10],r,by rw [e];rfl,Or.inr ⟨10,rfl,by decide⟩,h1,h2,h3⟩
theorem Qcw:∀ (ds:List DefL),(∀ d∈ds,(∀ t∈Q01 d,GoodTok t)∧Q01 d≠[])→Written (ds.flatMap Q01) (ds.flatMap defW)∧Written (ds.flatMap Q01) (10 :: ds.flatMap defW):=by
 intro ds
 induction ds with
 | nil=>intro _;exact ⟨Or.inl rfl,Or.inr ⟨10,rfl,by decide⟩⟩
 | cons d ds ih=>
  intro h
  obtain ⟨h1,h2⟩:=h d (by simp)
  obtain ⟨_,i2⟩:=ih fun x hx=>h x (List.mem_cons_of_mem _ hx)
  have w:=Mar.written_join Qfd i2 (Q01 d) [] h1
  have e:(d :: ds).flatMap defW=joinW Q0E [] ((Q01 d).map (·.text))++10 :: ds.flatMap defW:=by
   rw [List.flatMap_cons,defW,List.append_assoc]
   rfl
  rw [e,List.flatMap_cons]
  exact ⟨w,Qcv h2 h1 ⟨_,rfl⟩ w⟩
theorem Qfe {t1 t2:ByteArray} {ds:List DefL} (h:Q11 t1 = .ok ds) (hw:t2.data.toList=ds.flatMap defW) (hl:t2.size≤1200):∃ es,Q11 t2 = .ok es∧es.map er=ds.map er:=by
 unfold Q11 at h
 split at h
 ·cases h
 ·split at h
  ·cases h
  ·rename_i ds' σ hF
   split at h
   ·cases h
   ·rename_i hL
    split at h
    ·cases h
    ·rename_i hE
     cases h
     obtain ⟨rest,r1,r2,r3⟩:=Q9y (t2:=t2) 69 [] hF ⟨fun x hx=>(by cases hx),fun k t a v hk=>(by cases hk)⟩
     rw [List.nil_append] at r1
     subst r1
     have hT:Toks t2 st0 (ds.flatMap Q01++[Q9r]):=by
      show Q4H t2.data.toList 0 _
      refine Qcb _ 0 ?_
      rw [List.drop_zero,hw]
      exact (Qcw ds fun d hd=>(r2 d hd).1).1
     obtain ⟨more,σ2,m1,m2,m3⟩:=r3 st0 [] ⟨rfl,rfl,rfl,rfl⟩ hT
     refine ⟨more,?_,m2⟩
     unfold Q11
     rw [if_neg (by omega),m1,List.nil_append]
     simp only
     rw [Qcs m3 m2 hL]
     simp only
     rw [Qdz m3 m2 hE]
def JE (a c:List (List UInt8)):Prop:=∀ l r,joinW Q0E l (a++r)=joinW Q0E l (c++r)
theorem JE.of_eq {a c:List (List UInt8)} (h:a=c):JE a c:=by subst h;intro l r;rfl
theorem JE.app {a a' c c':List (List UInt8)} (h:JE a a') (k:JE c c'):JE (a++c) (a'++c'):=by
 intro l r
 rw [List.append_assoc,List.append_assoc,h l (c++r),Q7y a' (c++r),Q7y a' (c'++r),k]
abbrev tx (ts:List WTok):List (List UInt8):=ts.map (·.text)
theorem JE.flat {α:Type} {f:α→List (List UInt8)} {g:α→List WTok}:∀ (l:List α),(∀ x∈l,JE (f x) (tx (g x)))→JE (l.flatMap f) (tx (l.flatMap g)):=by
 intro l
 induction l with
 | nil=>intro _;exact JE.of_eq rfl
 | cons x xs ih=>
  intro h
  rw [List.flatMap_cons,List.flatMap_cons,tx,List.map_append]
  exact JE.app (h x (by simp)) (ih fun y hy=>h y (List.mem_cons_of_mem _ hy))
theorem Qhn:JE [[117,110,115,105,103,110,101,100,32,104,121,112,101,114]] [[117,110,115,105,103,110,101,100],[104,121,112,101,114]]:=by
 intro l r
 have h1:Q0E l [117,110,115,105,103,110,101,100,32,104,121,112,101,114]=Q0E l [117,110,115,105,103,110,101,100]:=by
  unfold Q0E
  rfl
 have h2:Q0E [117,110,115,105,103,110,101,100] [104,121,112,101,114]=true:=by decide
 have h3:joinW Q0E [117,110,115,105,103,110,101,100,32,104,121,112,101,114] r=joinW Q0E [104,121,112,101,114] r:=by
  cases r with
  | nil=>rfl
  | cons w ws=>
   have:Q0E [117,110,115,105,103,110,101,100,32,104,121,112,101,114] w=Q0E [104,121,112,101,114] w:=by
    unfold Q0E
    rfl
   simp only [joinW,this]
 simp only [List.cons_append,List.nil_append,joinW,h1,h2,h3,if_true,List.append_assoc]
theorem Q6E (t:Ty):JE [Q1I t] (tx (Q0q t)):=by
 cases t with
 | plain k=>
  by_cases h3:k=3
  ·subst h3;exact Qhn
  ·refine JE.of_eq ?_
   simp only [Q1I,Qb1,Q0q]
   by_cases h0:k=0
   ·subst h0;rfl
   ·by_cases h1:k=1
    ·subst h1;rfl
    ·by_cases h2:k=2
     ·subst h2;rfl
     ·have e0:((k:Int) == 0)=false:=by simp;omega
      have e1:((k:Int) == 1)=false:=by simp;omega
      have e2:((k:Int) == 2)=false:=by simp;omega
      have e3:((k:Int) == 3)=false:=by simp;omega
      simp [e0,e1,e2,e3,h0,h1,h2,h3]
 | _=>exact JE.of_eq rfl
theorem Q8K (n:Int) (f:Bool):tx (Q24 n f)=Q3r n f:=by cases f<;>rfl
theorem Q84 (d:Qk):JE (Q0S d) (tx (Q07 d)):=by
 obtain ⟨t,a,ty⟩:=d
 cases ty with
 | opaq n f=>exact JE.of_eq (by simp [Q0S,Q07,← Q8K])
 | str n f=>exact JE.of_eq (by simp [Q0S,Q07,← Q8K])
 | arr o n f=>
  have:JE ([Q1I o]++(t :: Q3r n f)) (tx (Q0q o)++(t :: Q3r n f)):=JE.app (Q6E o) (JE.of_eq rfl)
  simpa [Q0S,Q07,← Q8K] using this
 | opt o=>
  have:JE ([Q1I o]++[[42],t]) (tx (Q0q o)++[[42],t]):=JE.app (Q6E o) (JE.of_eq rfl)
  simpa [Q0S,Q07] using this
 | void=>exact JE.of_eq rfl
 | named x p=>exact JE.of_eq rfl
 | plain k=>
  have:JE ([Q1I (.plain k)]++[t]) (tx (Q0q (.plain k))++[t]):=JE.app (Q6E _) (JE.of_eq rfl)
  simpa [Q0S,Q07] using this
theorem Qi5:∀ ms:List (List UInt8×Nat×Int),tx (Q2H ms)=Q1z ms:=by
 intro ms
 induction ms with
 | nil=>rfl
 | cons m ms ih=>
  cases ms with
  | nil=>simp [Q2H,Q1z,memT,memW]
  | cons x xs=>
   rw [Q39 m (by simp),tx,List.map_append,List.map_cons]
   have e:(Q2H (x :: xs)).map (·.text)=Q1z (x :: xs):=ih
   rw [e]
   simp [Q1z,memT,memW]
theorem Qiq (a:List Int×Qk):JE (armW a) (tx (armT a)):=by
 obtain ⟨cs,d⟩:=a
 have h1:JE (Q4k cs) (tx (if cs=[] then [kw [100,101,102,97,117,108,116],sg 58] else cs.flatMap fun n=>[kw [99,97,115,101],nu n,sg 58])):=by
  unfold Q4k
  split
  ·exact JE.of_eq rfl
  ·exact JE.flat (g:=fun n=>[kw [99,97,115,101],nu n,sg 58]) cs (fun x _=>JE.of_eq rfl)
 have h2:JE (Q0S d++[[59]]) (tx (Q07 d++[sg 59])):=by
  rw [tx,List.map_append]
  exact JE.app (Q84 d) (JE.of_eq rfl)
 rw [armW,armT,tx,List.map_append]
 exact JE.app h1 h2
theorem Qi6 (p:Q15):JE (Qb2 p) (tx (Q2C p)):=by
 obtain ⟨t,a,res,arg,num⟩:=p
 have:JE ([Q1I res]++([t,[40]]++([Q1I arg]++[[41],[61],Lib.itoa num,[59]]))) (tx (Q0q res)++([t,[40]]++(tx (Q0q arg)++[[41],[61],Lib.itoa num,[59]]))):=
  JE.app (Q6E res) (JE.app (JE.of_eq rfl) (JE.app (Q6E arg) (JE.of_eq rfl)))
 simpa [Qb2,Q2C] using this
theorem Qir (v:QN):JE (verW v) (tx (verT v)):=by
 obtain ⟨t,a,ps,num⟩:=v
 have:JE ([[118,101,114,115,105,111,110],t,[123]]++(Q1a ps++[[125],[61],Lib.itoa num,[59]])) ([[118,101,114,115,105,111,110],t,[123]]++(tx (ps.flatMap Q2C)++[[125],[61],Lib.itoa num,[59]])):=
  JE.app (JE.of_eq rfl) (JE.app (JE.flat ps fun p _=>Qi6 p) (JE.of_eq rfl))
 simpa [verW,verT] using this
theorem Qis (d:DefL):JE (Q4l d) (tx (Q01 d)):=by
 cases d with
 | const t a v=>exact JE.of_eq rfl
 | typedef d=>
  have:JE ([[116,121,112,101,100,101,102]]++(Q0S d++[[59]])) ([[116,121,112,101,100,101,102]]++(tx (Q07 d)++[[59]])):=JE.app (JE.of_eq rfl) (JE.app (Q84 d) (JE.of_eq rfl))
  simpa [Q4l,Q01] using this
 | enum t a ms=>exact JE.of_eq (by simp [Q4l,Q01,← Qi5])
 | struct t a ms=>
  have h:JE (Q12 ms) (tx (ms.flatMap fun d=>Q07 d++[sg 59])):=JE.flat (g:=fun d=>Q07 d++[sg 59]) ms fun d _=>by
   rw [tx,List.map_append]
   exact JE.app (Q84 d) (JE.of_eq rfl)
  have:JE ([[115,116,114,117,99,116],t,[123]]++(Q12 ms++[[125],[59]])) ([[115,116,114,117,99,116],t,[123]]++(tx (ms.flatMap fun d=>Q07 d++[sg 59])++[[125],[59]])):=JE.app (JE.of_eq rfl) (JE.app h (JE.of_eq rfl))
  simpa [Q4l,Q01] using this
 | union t a s arms=>
  have:JE ([[117,110,105,111,110],t,[115,119,105,116,99,104],[40]]++(Q0S s++([[41],[123]]++(Q1A arms++[[125],[59]])))) ([[117,110,105,111,110],t,[115,119,105,116,99,104],[40]]++(tx (Q07 s)++([[41],[123]]++(tx (arms.flatMap armT)++[[125],[59]])))):=
   JE.app (JE.of_eq rfl) (JE.app (Q84 s) (JE.app (JE.of_eq rfl) (JE.app (JE.flat arms fun a _=>Qiq a) (JE.of_eq rfl))))
  simpa [Q4l,Q01,Q2k] using this
 | prog t a vs n=>
  have:JE ([[112,114,111,103,114,97,109],t,[123]]++(Q1D vs++[[125],[61],Lib.itoa n,[59]])) ([[112,114,111,103,114,97,109],t,[123]]++(tx (vs.flatMap verT)++[[125],[61],Lib.itoa n,[59]])):=
   JE.app (JE.of_eq rfl) (JE.app (JE.flat vs fun v _=>Qir v) (JE.of_eq rfl))
  simpa [Q4l,Q01] using this
theorem Qi7 (d:DefL):Q9q d=defW d:=by
 have:=Qis d [] []
 rw [List.append_nil,List.append_nil] at this
 rw [Q9q,defW,this]
theorem Q70 (ds:List DefL):Q0l ds=ds.flatMap defW:=by
 unfold Q0l
 congr 1
 funext d
 exact Qi7 d
theorem Q5o {n:Int} (h:GoodTok (nu n)):I64 n:=by
 rcases h with ⟨h,_⟩ | ⟨h,_⟩ | ⟨_,_,h,_⟩ | ⟨h,_⟩
 ·cases h
 ·cases h
 ·have hr:Q1F n:=Q5T h
  exact ⟨by have:=hr.1;omega,by have:=hr.2;omega⟩
 ·cases h
theorem Q85 {d:Qk} (h:∀ t∈Q07 d,GoodTok t):ty64 d.ty:=by
 obtain ⟨t,a,ty⟩:=d
 cases ty with
 | opaq n f=>exact Q5o (h (nu n) (by cases f<;>simp [Q07,Q24]))
 | str n f=>exact Q5o (h (nu n) (by cases f<;>simp [Q07,Q24]))
 | arr o n f=>exact Q5o (h (nu n) (by cases f<;>simp [Q07,Q24]))
 | _=>trivial
theorem Qgv {ms:List (List UInt8×Nat×Int)} {m:List UInt8×Nat×Int} (hm:m∈ms):nu m.2.2∈Q2H ms:=by
 induction ms with
 | nil=>cases hm
 | cons x xs ih=>
  cases xs with
  | nil=>
   have:m=x:=by simpa using hm
   subst this
   simp [Q2H,memT]
  | cons y ys=>
   rw [Q39 x (by simp)]
   rcases List.mem_cons.1 hm with rfl | hm
   ·simp [memT]
   ·exact List.mem_append_right _ (List.mem_cons_of_mem _ (ih hm))
theorem Qit {d:DefL} (h:∀ t∈Q01 d,GoodTok t):Qb3 d:=by
 cases d with
 | const t a v=>exact Q5o (h (nu v) (by simp [Q01]))
 | typedef d=>exact Q85 fun t ht=>h t (by simp [Q01,ht])
 | enum t a ms=>exact fun m hm=>Q5o (h _ (by simp [Q01,Qgv hm]))
 | struct t a ms=>exact fun m hm=>Q85 fun t ht=>h t (by
   have:t∈ms.flatMap (fun d=>Q07 d++[sg 59]):=List.mem_flatMap.2 ⟨m,hm,by simp [ht]⟩
   simp only [Q01,List.mem_cons,List.mem_append]
   exact Or.inr (Or.inr (Or.inr (Or.inl this))))
 | union t a s arms=>
  have hA:∀ m∈arms,∀ t∈armT m,GoodTok t:=fun m hm t ht=>h t (by
   have:t∈arms.flatMap armT:=List.mem_flatMap.2 ⟨m,hm,ht⟩
   simp only [Q01,List.mem_cons,List.mem_append]
   exact Or.inr (Or.inr (Or.inr (Or.inr (Or.inr (Or.inr (Or.inr (Or.inl this))))))))
  refine ⟨Q85 fun t ht=>h t (by simp [Q01,ht]),fun m hm=>⟨Q85 fun t ht=>hA m hm t (by simp [armT,ht]),fun n hn=>Q5o (hA m hm _ ?_)⟩⟩
  have hne:m.1≠[]:=by intro e;rw [e] at hn;cases hn
  rw [armT,if_neg hne]
  exact List.mem_append_left _ (List.mem_flatMap.2 ⟨n,hn,by simp⟩)
 | prog t a vs n=>
  have hV:∀ m∈vs,∀ t∈verT m,GoodTok t:=fun m hm t ht=>h t (by
   have:t∈vs.flatMap verT:=List.mem_flatMap.2 ⟨m,hm,ht⟩
   simp only [Q01,List.mem_cons,List.mem_append]
   exact Or.inr (Or.inr (Or.inr (Or.inl this))))
  refine ⟨Q5o (h (nu n) (by simp [Q01])),fun m hm=>⟨Q5o (hV m hm _ (by simp [verT])),fun p hp=>Q5o (hV m hm _ ?_)⟩⟩
  have:nu p.num∈m.procs.flatMap Q2C:=List.mem_flatMap.2 ⟨p,hp,by simp [Q2C]⟩
  simp only [verT,List.mem_cons,List.mem_append]
  exact Or.inr (Or.inr (Or.inr (Or.inl this)))
theorem Qho {t:WTok} (h:GoodTok t):t.text.length≤24:=by
 rcases h with ⟨_,_,h,_⟩ | ⟨_,_,h,_⟩ | ⟨_,_,_,h⟩ | ⟨_,c,h,_⟩
 ·omega
 ·omega
 ·exact h
 ·rw [h];simp
theorem Qhp:∀ (ts:List WTok) (l:List UInt8),(∀ t∈ts,GoodTok t)→(joinW Q0E l (tx ts)).length≤25 * ts.length:=by
 intro ts
 induction ts with
 | nil=>intro l _;simp [joinW]
 | cons t ts ih=>
  intro l h
  have h1:=Qho (h t (by simp))
  have h2:=ih t.text fun x hx=>h x (List.mem_cons_of_mem _ hx)
  simp only [tx,List.map_cons,joinW,List.length_append,List.length_cons]
  have h3:(if Q0E l t.text=true then ([32]:List UInt8) else []).length≤1:=by split<;>simp
  have h4:(joinW Q0E t.text (tx ts)).length=(joinW Q0E t.text (ts.map (·.text))).length:=rfl
  omega
theorem Q4J {α β:Type} {f:α→List β} {c:Nat}:∀ (l:List α),(∀ x∈l,(f x).length≤c)→(l.flatMap f).length≤l.length * c:=by
 intro l
 induction l with
 | nil=>intro _;simp
 | cons x xs ih=>
  intro h
  rw [List.flatMap_cons,List.length_append,List.length_cons,Nat.succ_mul]
  have:=h x (by simp)
  have:=ih fun y hy=>h y (List.mem_cons_of_mem _ hy)
  omega
def Qgw:DefL→Prop
 | .enum _ _ ms=>ms.length≤1000
 | .struct _ _ ms=>ms.length≤1000
 | .union _ _ _ arms=>arms.length≤1000∧∀ a∈arms,a.1.length≤1000
 | .prog _ _ vs _=>vs.length≤1000∧∀ v∈vs,v.procs.length≤1000
 | _=>True
theorem Q0j.le {bs:List (Nat×Obj)} {e:TypeId} {v:Value} {n:Nat} {xs:List Value} (h:Q0j bs e v n xs):n≤1000:=by
 rcases h with ⟨_,h,_⟩ | ⟨_,_,_,_,h,_⟩
 ·omega
 ·exact h.2
theorem QdA {bs:List (Nat×Obj)} {b:Nat} {d:DefL} (h:Q0d bs b d):Qgw d:=by
 cases d with
 | const t a v=>trivial
 | typedef d=>trivial
 | enum t a ms=>
  obtain ⟨sl,ps,_,_,h,_⟩:=h
  exact h.le
 | struct t a ms=>
  obtain ⟨sl,_,h⟩:=h
  exact h.le
 | union t a s arms=>
  obtain ⟨sl,cs,_,hl,h,hc⟩:=h
  refine ⟨h.le,fun a ha=>?_⟩
  obtain ⟨i,hi,rfl⟩:=List.getElem_of_mem ha
  exact (hc i hi (by omega)).le
 | prog t a vs n=>
  obtain ⟨sl,cs,_,hl,h,hc⟩:=h
  refine ⟨h.le,fun a ha=>?_⟩
  obtain ⟨i,hi,rfl⟩:=List.getElem_of_mem ha
  exact (hc i hi (by omega)).le
theorem Q5U (t:Ty):(Q0q t).length≤2:=by
 cases t with
 | plain k=>
  simp only [Q0q]
  split
  ·simp
  ·split
   ·simp
   ·split
    ·simp
    ·split<;>simp
 | _=>simp [Q0q]
theorem Q7K (n:Int) (f:Bool):(Q24 n f).length=3:=by cases f<;>rfl
theorem Q71 (d:Qk):(Q07 d).length≤7:=by
 obtain ⟨t,a,ty⟩:=d
 cases ty with
 | opaq n f=>simp [Q07,Q7K]
 | str n f=>simp [Q07,Q7K]
 | arr o n f=>have:=Q5U o;simp [Q07,Q7K];omega
 | opt o=>have:=Q5U o;simp [Q07];omega
 | void=>simp [Q07]
 | named x p=>simp [Q07,Q0q]
 | plain k=>have:=Q5U (.plain k);simp [Q07];omega
theorem Qhq:∀ ms:List (List UInt8×Nat×Int),(Q2H ms).length≤4 * ms.length:=by
 intro ms
 induction ms with
 | nil=>simp [Q2H]
 | cons m ms ih=>
  cases ms with
  | nil=>simp [Q2H,memT]
  | cons x xs=>
   rw [Q39 m (by simp),List.length_append,List.length_cons]
   simp only [memT,List.length_cons,List.length_nil] at ih ⊢
   omega
theorem Qi8 {d:DefL} (h:Qgw d):(Q01 d).length≤11000000:=by
 cases d with
 | const t a v=>simp [Q01]
 | typedef d=>have:=Q71 d;simp [Q01];omega
 | enum t a ms=>
  have h1:ms.length≤1000:=h
  have:=Qhq ms
  simp [Q01]
  omega
 | struct t a ms=>
  have h1:ms.length≤1000:=h
  have h2:=Q4J (f:=fun d=>Q07 d++[sg 59]) (c:=8) ms fun d _=>by have:=Q71 d;simp;omega
  have h3:ms.length * 8≤1000 * 8:=Nat.mul_le_mul_right 8 h1
  simp only [Q01,List.length_cons,List.length_append,List.length_nil]
  omega
 | union t a s arms=>
  obtain ⟨h1,h4⟩:=h
  have h5:=Q71 s
  have h2:=Q4J (f:=armT) (c:=3010) arms fun a ha=>by
   have h6:=h4 a ha
   have h7:=Q71 a.2
   have h8:=Q4J (f:=fun n:Int=>[kw [99,97,115,101],nu n,sg 58]) (c:=3) a.1 fun n _=>by simp
   simp only [armT,List.length_append]
   split
   ·simp only [List.length_cons,List.length_nil];omega
   ·simp only [List.length_cons,List.length_nil];omega
  have h3:arms.length * 3010≤1000 * 3010:=Nat.mul_le_mul_right 3010 h1
  simp only [Q01,List.length_cons,List.length_append,List.length_nil]
  omega
 | prog t a vs n=>
  obtain ⟨h1,h4⟩:=h
  have h2:=Q4J (f:=verT) (c:=10100) vs fun v hv=>by
   have h6:=h4 v hv
   have h8:=Q4J (f:=Q2C) (c:=10) v.procs fun p _=>by
    have:=Q5U p.res
    have:=Q5U p.arg
    simp [Q2C]
    omega
   simp only [verT,List.length_cons,List.length_append,List.length_nil]
   omega
  have h3:vs.length * 10100≤1000 * 10100:=Nat.mul_le_mul_right 10100 h1
  simp only [Q01,List.length_cons,List.length_append,List.length_nil]
  omega
theorem Qgx {bs:List (Nat×Obj)} {dsl:Value} {ds:List DefL} {ps:List Nat} (hd:Q23 bs dsl ds ps) (hg:∀ d∈ds,∀ t∈Q01 d,GoodTok t):(Q0l ds).length≤CAP:=by
 rw [Q70]
 have h1:ds.length≤1000:=hd.row.le
 have h2:=Q4J (f:=defW) (c:=275000001) ds fun d hm=>by
  obtain ⟨i,hi,rfl⟩:=List.getElem_of_mem hm
  have h3:=Qi8 (QdA (hd.each i hi (by rw [hd.len];exact hi)))
  have h4:(joinW Q0E [] ((Q01 ds[i]).map (·.text))).length≤25 * (Q01 ds[i]).length:=Qhp (Q01 ds[i]) [] (hg _ hm)
  simp only [defW,List.length_append,List.length_cons,List.length_nil]
  omega
 have h3:ds.length * 275000001≤1000 * 275000001:=Nat.mul_le_mul_right 275000001 h1
 show _≤140737488355328
 omega
theorem Q7L {t1:ByteArray} {ds:List DefL} (h:Q11 t1 = .ok ds):∀ d∈ds,(∀ t∈Q01 d,GoodTok t)∧Q2F d:=by
 unfold Q11 at h
 split at h
 ·cases h
 ·split at h
  ·cases h
  ·rename_i ds' σ hF
   split at h
   ·cases h
   ·split at h
    ·cases h
    ·cases h
     obtain ⟨rest,r1,r2,_⟩:=Q9y (t2:=t1) 69 [] hF ⟨fun x hx=>(by cases hx),fun k t a v hk=>(by cases hk)⟩
     rw [List.nil_append] at r1
     subst r1
     exact fun d hd=>⟨(r2 d hd).1.1,(r2 d hd).2⟩
theorem Q8L (t:Ty):Q0q (erT t)=Q0q t:=by cases t<;>rfl
theorem Q72 (d:Qk):Q07 (erD d)=Q07 d:=by
 obtain ⟨t,a,ty⟩:=d
 cases ty with
 | arr o n f=>simp [Q07,erD,erT,Q8L]
 | opt o=>simp [Q07,erD,erT,Q8L]
 | _=>rfl
theorem Qhr (ms:List (List UInt8×Nat×Int)):Q2H (ms.map fun m=>(m.1,0,m.2.2))=Q2H ms:=by
 induction ms with
 | nil=>rfl
 | cons m ms ih=>
  cases ms with
  | nil=>rfl
  | cons x xs=>
   rw [List.map_cons,Q39 _ (by simp),Q39 _ (by simp),ih]
   rfl
theorem Q5V {α β:Type} {f:α→α} {g:α→List β} (h:∀ a,g (f a)=g a) (l:List α):(l.map f).flatMap g=l.flatMap g:=by
 induction l with
 | nil=>rfl
 | cons a l ih=>simp only [List.map_cons,List.flatMap_cons,h,ih]
theorem Qi9 (d:DefL):Q01 (er d)=Q01 d:=by
 cases d with
 | const t a v=>rfl
 | typedef d=>simp [er,Q01,Q72]
 | enum t a ms=>simp only [er,Q01,Qhr]
 | struct t a ms=>
  have h:=Q5V (f:=erD) (g:=fun d=>Q07 d++[sg 59]) (fun d=>by simp only [Q72]) ms
  simp only [er,Q01,h]
 | union t a s arms=>
  have h:=Q5V (f:=fun a:List Int×Qk=>(a.1,erD a.2)) (g:=armT) (fun a=>by simp only [armT,Q72]) arms
  simp only [er,Q01,h,Q72]
 | prog t a vs n=>
  have h:=Q5V (f:=erV) (g:=verT) (fun v=>by
   have h2:=Q5V (f:=erP) (g:=Q2C) (fun p=>by simp only [Q2C,erP,Q8L]) v.procs
   simp only [verT,erV,h2]) vs
  simp only [er,Q01,h]
theorem Qcx (ds:List DefL):Q0l (ds.map er)=Q0l ds:=by
 rw [Q70,Q70]
 exact Q5V (fun d=>by simp only [defW,Qi9]) ds
theorem QdB {t1:ByteArray} {ds:List DefL} (h:Q11 t1 = .ok ds) (hl:(Q0l ds).length≤1200):∃ es,Q11 ⟨(Q0l ds).toArray⟩ = .ok es∧Q0l es=Q0l ds:=by
 obtain ⟨es,h1,h2⟩:=Qfe (t2:=⟨(Q0l ds).toArray⟩) h (by simp [Q70]) (by simpa [ByteArray.size] using hl)
 exact ⟨es,h1,by rw [← Qcx,h2,Qcx]⟩
end Go.Proofs.YtmbcibgknckenaaGreatDoor
namespace Go.Proofs.YtmbcibgknckenaaGreatDoor
open Go.RowKit
open Go.MapKept
theorem QiD (p:Addr) (w:World):(binOp BinOp.neq 24 (.iface 79 (.pointer (some p))) .nilIface).run Tryz.prog w = .ok (.bool true) w:=by kernel_rfl
theorem QiE (w:World):(binOp BinOp.neq 24 .nilIface .nilIface).run Tryz.prog w = .ok (.bool false) w:=by kernel_rfl
theorem Qia {w w':World} (h:Gl w) (hk:Qa [] w w'):Gl w':=h.below ⟨hk.os,hk.tape,hk.output,hk.size,fun k h=>hk.block k h (by simp)⟩
theorem Qao {text:ByteArray} {ds:List DefL} (ht:Q11 text = .ok ds) {w:World} (hg:Gl w):Calls Tryz.prog 11 #[.string text] w (QdU w ds):=Qi3 ht (fun d hd=>(Q7L ht d hd).2) hg
theorem Q9z {text:ByteArray} {ds:List DefL} (ht:Q11 text = .ok ds) {w:World} {bs:List (Nat×Obj)} {B:Nat} (hS:Q6D bs B ds) (hB:∀ p∈bs,w.heap[p.1]? = some p.2) (hw:Pow w) :
  Calls Tryz.prog 12 #[.pointer (some ⟨B,0,none⟩)] w fun e w'=>e = .returned (.string ⟨(Q0l ds).toArray⟩)∧Qa [] w w':=by
 have hS':=hS
 obtain ⟨dsl,ps,v,S,P,hb,hd,_⟩:=hS'
 exact Qgo hS hB hw (fun d hm=>Qit (Q7L ht d hm).1) (Qgx hd fun d hm=>(Q7L ht d hm).1)
theorem Qgy {w:World} (hg:Gl w) (hw:Pow w) (t:List UInt8) :
  Calls Tryz.prog 3 #[.string ⟨t.toArray⟩] w fun e w'=>e = .returned (.bool true)∧Qa [] w w':=by
 have hn1:=QiD
 have hn2:=QiE
 by_cases lt:t.length≤4000
 ·have l1:¬ ((4000:Int) < (t.length:Int)):=by omega
  cases htx:Q11 ⟨t.toArray⟩ with
  | error f=>
   have VR:=Hid.mk (Qf6 htx hg)
   clear hg hw htx
   go_enter Tryz.func3,Tryz.ntmps3
   go_wp2_with fail
   refine VR.out.mono ?_
   rintro e w1 ⟨hk1,g,rfl⟩
   have HK1:=Hid.mk hk1
   clear hk1 VR
   go_wp2
   go_ret
   exact ⟨rfl,HK1.out⟩
  | ok ds=>
   have VR:=Hid.mk (Qao htx hg)
   have VP:=Hid.mk (fun (u:World) (bs:List (Nat×Obj)) (B:Nat) (hS:Q6D bs B ds) (hB:∀ p∈bs,u.heap[p.1]? = some p.2) (hw:Pow u)=>Q9z htx hS hB hw)
   have HG:=Hid.mk (fun (u:World) (hk:Qa [] w u)=>Qia hg hk)
   have HW:=Hid.mk (fun (u:World) (hk:Qa [] w u)=>Qaa hw hk)
   clear hg hw
   by_cases hp:(Q0l ds).length≤1200
   ·have p1:¬ ((1200:Int) < ((Q0l ds).length:Int)):=by omega
    obtain ⟨es,he,hpe⟩:=QdB htx hp
    have VR2:=Hid.mk (fun (u:World) (hg:Gl u)=>Qao he hg)
    have VP2:=Hid.mk (fun (u:World) (bs:List (Nat×Obj)) (B:Nat) (hS:Q6D bs B es) (hB:∀ p∈bs,u.heap[p.1]? = some p.2) (hw:Pow u)=>Q9z he hS hB hw)
    rw [hpe] at VP2
    clear htx he hpe hp
    generalize Q0l ds=pr at VP VP2 VR2 p1
    go_enter Tryz.func3,Tryz.ntmps3
    go_wp2_with fail
    refine VR.out.mono ?_
    rintro e w1 ⟨B,bs,rfl,hk1,hS,hB,_⟩
    have VP:=Hid.mk (VP.out _ bs B hS hB (HW.out _ hk1))
    have HK1:=Hid.mk hk1
    clear hk1 hS hB VR
    go_wp2_with fail
    refine VP.out.mono ?_
    rintro e w2 ⟨rfl,hk2⟩
    have HK2:=Hid.mk (HK1.out.trans hk2)
    have VR2:=Hid.mk (VR2.out _ (HG.out _ HK2.out))
    clear hk2 VP HK1
    go_wp2_with fail
    refine VR2.out.mono ?_
    rintro e w3 ⟨B3,bs3,rfl,hk3,hS3,hB3,_⟩
    have HK3:=Hid.mk (HK2.out.trans hk3)
    have VP2:=Hid.mk (VP2.out _ bs3 B3 hS3 hB3 (HW.out _ HK3.out))
    clear hk3 hS3 hB3 VR2 HK2
    go_wp2_with fail
    refine VP2.out.mono ?_
    rintro e w4 ⟨rfl,hk4⟩
    have HK4:=Hid.mk (HK3.out.trans hk4)
    clear hk4 VP2
    go_wp2
    go_ret
    exact ⟨rfl,HK4.out⟩
   ·have p1:(1200:Int) < ((Q0l ds).length:Int):=by omega
    clear htx hp
    generalize Q0l ds=pr at VP p1
    go_enter Tryz.func3,Tryz.ntmps3
    go_wp2_with fail
    refine VR.out.mono ?_
    rintro e w1 ⟨B,bs,rfl,hk1,hS,hB,_⟩
    have VP:=Hid.mk (VP.out _ bs B hS hB (HW.out _ hk1))
    have HK1:=Hid.mk hk1
    clear hk1 hS hB VR
    go_wp2_with fail
    refine VP.out.mono ?_
    rintro e w2 ⟨rfl,hk2⟩
    have HK2:=Hid.mk (HK1.out.trans hk2)
    clear hk2 VP HK1
    go_wp2
    go_ret
    exact ⟨rfl,HK2.out⟩
 ·have l1:(4000:Int) < (t.length:Int):=by omega
  clear hg hw
  go_enter Tryz.func3,Tryz.ntmps3
  go_wp2
  go_ret
  exact ⟨rfl,Qa.refl _ _⟩
end Go.Proofs.YtmbcibgknckenaaGreatDoor
namespace Go.Proofs.YtmbcibgknckenaaGreatDoor
open Go.ChangeShapes Go.WideShapes Go.ChangeAt Go.RowKit
theorem Qhs:ownKnob Tryz.prog.godebug=none:=by kernel_rfl
theorem Qiu : Tryz.prog.globalNamed "strconv.ErrRange" = some 4 := by kernel_rfl
theorem Qib : Tryz.prog.globalNamed "strconv.ErrSyntax" = some 3 := by kernel_rfl
theorem Qiv:(Tryz.prog.globals[4]?).map (·.type)=some 24:=by kernel_rfl
theorem Qic:(Tryz.prog.globals[3]?).map (·.type)=some 24:=by kernel_rfl
theorem Q7M {W:World} {n:String} {g:Nat} {cs:Array Value} {name:String} {d:DataW Unit} {p:List MemPlace} {fuel:Nat} (hg:Tryz.prog.globalNamed n=some g) (hv:W.var? Tryz.prog n=some cs)
  (hd:DataW.trod (fun _=>()) Tryz.prog W 0 (fun _=>true) false fuel 24 cs.toList=some (.iface name d,p)):∃ te pe,W.cell? ⟨g,0,none⟩=some (.iface te pe):=by
 obtain ⟨_,u,v,hcs,_,_⟩:=iface_of_trod Tryz.underlying24 hd
 refine ⟨u,v,?_⟩
 have:=World.var?_cell hg hv 0
 obtain ⟨l⟩:=cs
 simp only at hcs
 subst hcs
 simpa using this
theorem Qff {W:World} (h:laidMetH Tryz.prog Rows.apartRow.laid W) (hsh:W.ShapedOpen Tryz.prog):Gl W:=by
 rw [MakeChecks.laidMetH_plain _ _ _ (by kernel_rfl)] at h
 obtain ⟨ps,⟨g0,t0,cs0,f0,p0,q0,hg0,ht0,hv0,hd0,⟨g1,t1,cs1,f1,p1,q1,hg1,ht1,hv1,hd1,⟨g2,t2,cs2,f2,p2,q2,hg2,ht2,hv2,hd2,⟨g3,t3,cs3,f3,p3,q3,hg3,ht3,hv3,hd3,⟨g4,t4,cs4,f4,p4,q4,hg4,ht4,hv4,hd4,_,_⟩,_⟩,_⟩,_⟩,_⟩,_,_⟩:=h
 obtain rfl:=Option.some.inj (Qiu.symm.trans hg3)
 obtain rfl:=Option.some.inj (Qib.symm.trans hg4)
 obtain rfl:=Option.some.inj (Qiv.symm.trans ht3)
 obtain rfl:=Option.some.inj (Qic.symm.trans ht4)
 exact ⟨cell_of_shapedOpen_int (zero:=#[.int .i64 0]) (t:=3) hsh (of_decide_eq_true (by kernel_rfl)) (by kernel_rfl) rfl (by kernel_rfl) (by kernel_rfl) Tryz.underlying3,Q7M hg4 hv4 hd4,Q7M hg3 hv3 hd3⟩
theorem Qht (os:Os) (args:Array Value):laidMetH Tryz.prog Rows.apartRow.laid ((World.doorLaid Tryz.prog 88 os).forCall (fun _ _=>0) ⟨#[],args,[]⟩).memory:=
 laidMetH_of_parts3 (fuel:=8) (laidMet_of_run' 8 (by kernel_rfl) (by kernel_rfl)) (by kernel_rfl) (by kernel_rfl)
section
variable {H : Type} {enc : TypeId × Value → H}
theorem Qfg {C:Checked} {os:Os} {f:FuncId} {fn:Func} {s:ChangeSpec} {X:World→Array Value→Prop}
  (hX:∀ (w w':World) (args:Array Value),w.heap=w'.heap→X w args→X w' args)
  (own:ownKnob C.prog.godebug=none) (started:os.Started) (noInit:C.prog.inits.idxOf? f=none) (hfn:C.prog.funcs[f]? = some fn)
  (witness:∃ (w:World) (tape:Tape) (i:Input),w.os=os∧(w.forCall tape i).Shaped C.prog∧i.vars=[]∧Input.okWide C.prog (w.forCall tape i) .any w.heap.size f i ∧
   ((s.pre enc C.prog fn [] false (w.forCall tape i).memory i.args∧X (w.forCall tape i).memory i.args)∧sizedMet enc C.prog fn (OpenSpec.ofChange s) false (w.forCall tape i).memory i.args)∧({}:Assume).holds C.prog (lone (Frame.enter C.prog f i.args .normal) [] (w.forCall tape i)))
  (contract:∀ (W:World) (base:Nat) (args:Array Value) (ds gs:List (DataW H)) (before:List MemPlace),
   (∀ (j:Nat) t v,fn.params[j]? = some t→args[j]? = some v→Value.okWide C.prog W .any base t v) →
   DataW.Whole enc C.prog fn.params.toList s.vars false W args.toList ds gs before→X W args→W.ShapedOpen C.prog →
   Calls C.prog f args W fun e W'=>∃ v,e = .returned v∧s.post enc C.prog fn false true false false W args v W') :
  ReturnsInHanded {} C os f .any (fun w args=>(s.pre enc C.prog fn [] false w args∧X w args)∧sizedMet enc C.prog fn (OpenSpec.ofChange s) false w args) (s.post enc C.prog fn false true false false):=by
 refine returnsInHanded_of_calls own started noInit witness ?_
 intro w tape i _ hsh _ hok hpre _
 obtain ⟨_,_,_,fn',hfn',_,_,_,_,hval⟩:=hok
 have e:fn'=fn:=Option.some.inj (hfn'.symm.trans hfn)
 subst e
 obtain ⟨⟨⟨ds,gs,before,hw,hc⟩,hx⟩,hz⟩:=hpre
 have hw':=DataW.Whole.of_heap (w':=w.forCall tape i) (by rfl) hw
 refine (contract (w.forCall tape i) w.heap.size i.args ds gs before hval hw' (hX _ _ _ (by rfl) hx) hsh).mono fun e W' ⟨v,he,hp⟩=>?_
 subst he
 exact ChangeSpec.post_blind hp
end
theorem Q9Y {w w':World} (h:Qa [] w w'):Below w.heap.size w w':=⟨h.os,h.tape,h.output,h.size,fun k hk=>h.block k hk (by simp)⟩
end Go.Proofs.YtmbcibgknckenaaGreatDoor
namespace Go.Proofs.YtmbcibgknckenaaGreatDoor
theorem Qcy:joinedFacts Tryz.pinned.checked.prog 3 Tryz.f3 Rows.againSpec Rows.againRow=true:=by
 unfold joinedFacts
 simp only [Bool.and_eq_true]
 repeat' apply And.intro
 all_goals (as_aux_lemma=>kernel_rfl)
end Go.Proofs.YtmbcibgknckenaaGreatDoor
namespace Go.Proofs.YtmbcibgknckenaaGreatDoor
open Go.ChangeShapes Go.WideShapes Go.ChangeAt Go.RowKit
open Go.ChangeMaps (open_string shut_string)
theorem gPow : Tryz.prog.globalNamed "internal/strconv.uint64pow10" = some 5 := by kernel_rfl
theorem tPow:(Tryz.prog.globals[5]?).map (·.type)=some 383:=by kernel_rfl
theorem QdC {W:World} (h:laidMetH Tryz.prog Rows.apartRow.laid W):Pow W:=by
 rw [MakeChecks.laidMetH_plain _ _ _ (by kernel_rfl)] at h
 obtain ⟨ps,⟨g0,t0,cs0,f0,p0,q0,hg0,ht0,hv0,hd0,⟨g1,t1,cs1,f1,p1,q1,hg1,ht1,hv1,hd1,⟨g2,t2,cs2,f2,p2,q2,hg2,ht2,hv2,hd2,_,_⟩,_⟩,_⟩,_⟩:=h
 obtain rfl:=Option.some.inj (gPow.symm.trans hg2)
 obtain rfl:=Option.some.inj (tPow.symm.trans ht2)
 have hd:DataW.trod (fun _=>()) Tryz.prog W 0 (fun _=>true) false f2 383 cs2.toList=some (Lib.tabData .u64 Lib.pow10Tab,p2):=hd2
 show W.var? Tryz.prog "internal/strconv.uint64pow10" = some (Lib.pow10Tab.map fun z => Value.int .u64 z).toArray
 rw [hv2,← Lib.cells_of_tab Tryz.underlying383 Tryz.underlying253 (by kernel_rfl) (by kernel_rfl) hd]
theorem Qcz (os:Os) (started:os.Started) (H:Type) (enc:TypeId×Value→H) :
  ReturnsInHanded {} Tryz.checked os 3 .any (fun w args=>(Rows.againSpec.pre enc Tryz.prog Tryz.f3 [] false w args∧laidMetH Tryz.prog Rows.againRow.laid w)∧sizedMet enc Tryz.prog Tryz.f3 (OpenSpec.ofChange Rows.againSpec) false w args)
   (Rows.againSpec.post enc Tryz.prog Tryz.f3 false true false false):=by
 refine Qfg (C:=Tryz.checked) (X:=fun w _=>laidMetH Tryz.prog Rows.againRow.laid w) (fun _ _ _ hh h=>h.of_heap hh) Qhs started (by kernel_rfl) Tryz.func3
  (ChangeSpec.witness_shaped (enc:=enc) (C:=Tryz.checked) (os:=os) (X:=fun w _=>laidMetH Tryz.prog Rows.againRow.laid w) false (World.doorLaid Tryz.prog 88 os) #[.string ⟨#[]⟩] 8 rfl (World.shaped_of_RefB (by kernel_rfl) (by kernel_rfl)) (by kernel_rfl) (by kernel_rfl) (by kernel_rfl) (Qht os _)) ?_
 intro W base args ds gs before hval0 hW hL hsh
 have hval:∀ (j:Nat) t v,Tryz.f3.params[j]? = some t→args[j]? = some v→Value.okWide Tryz.prog W .any base t v:=hval0
 have hW':=hW
 obtain ⟨p,q,hA0,hV,rfl,hfz,hnd⟩:=hW
 have hA:DataW.TrodAll enc Tryz.prog W 0 (fun _=>true) true Tryz.f3.params.toList args.toList ds p:=hA0
 rw [Tryz.params3] at hA hval
 obtain ⟨v0,vs0,d0,ds0,p0,q0,hargs,rfl,rfl,h0,r0⟩:=trodAll_cons hA
 obtain ⟨rfl,rfl,rfl⟩:=trodAll_nil r0
 obtain rfl:args = #[v0]:=by cases args;simp_all
 obtain ⟨rfl,rfl⟩:=trodVars_none hV
 obtain ⟨⟨⟨b⟩⟩,rfl,rfl,rfl,hb⟩:=open_string Tryz.underlying9 (hval 0 9 v0 rfl rfl) h0
 clear hA0 hval0
 refine (Qgy (Qff hL hsh) (QdC hL) b).mono fun e W' ⟨he,hk⟩=>?_
 subst he
 have bel:=Q9Y hk
 exact ⟨_,rfl,_,_,_,[],_,[],hW',trodAll_mk1 (shut_bool Tryz.underlying4 _),(trodAll_cons_mk (shut_string Tryz.underlying9 hb) trodAll_mk0),rfl,bel.frame _,fun h=>by cases h⟩
theorem Qgz:Rows.AgainSaid:=
 OpenClaim.holds_of_wide 3 Tryz.f3 rfl rfl rfl rfl rfl rfl rfl ⟨rfl,rfl,rfl,rfl,rfl⟩ rfl rfl rfl rfl rfl (by kernel_rfl) Tryz.func3 Qcy
  (of_decide_eq_true (by kernel_rfl)) (by unfold Func.isWrapper;rw [if_neg (of_decide_eq_false (by kernel_rfl))];exact ⟨rfl,rfl⟩)
  (fun os started H enc _=>Qcz os started H enc)
theorem again_card:Rows.AgainCardSaid:=
 Claim7.holds_tied_plain_at .later [] Rows.againCard.laidKinds true Rows.againCard.stood.harness true
  Qgz (fun _ h=>by cases h) (by kernel_rfl) (fun _ h=>by cases h) again_row_tie rfl ⟨rfl,rfl⟩ (by kernel_rfl) rfl
  (fun f fn hf hfn=>by
   obtain rfl : f = 3 := Option.some.inj ((show Tryz.prog.funcNamed "marshal/marshalkeep.Again" = some 3 by kernel_rfl).symm.trans hf) |>.symm
   obtain rfl:fn=Tryz.f3:=(Option.some.inj (Tryz.func3.symm.trans hfn)).symm
   exact ⟨by kernel_rfl,fun j t ht=>by
    rw [Tryz.params3] at ht
    have hm:t∈[9]:=by simpa using Array.mem_of_getElem? ht
    have hall:([9].all fun u=>!Tryz.prog.wantsStandIn u)=true:=by kernel_rfl
    exact (show Tryz.prog.wantsStandIn t=false by simpa using List.all_eq_true.1 hall t hm)⟩)
  (by kernel_rfl)
end Go.Proofs.YtmbcibgknckenaaGreatDoor
