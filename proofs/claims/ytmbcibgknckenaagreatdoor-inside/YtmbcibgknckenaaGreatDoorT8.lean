import Derived.Test.YtmbcibgknckenaaGreatDoorT7
set_option linter.all false
set_option maxRecDepth 100000
set_option maxHeartbeats 4000000
namespace Go.Proofs.YtmbcibgknckenaaGreatDoor
structure Q0N where
 kind:Nat
 n:Int
 s:List UInt8
 len:Nat
 at':Nat
structure DSt where
 pos:Nat
 nodes:List Q0N
def bigL (l:List UInt8):Nat:=l.foldl (fun n c=>n * 256 + c.toNat) 0
def Q0L (n:NumL) (v:Nat):Int:=if n.low < 0 then (if v < 2147483648 then (v:Int) else (v:Int) - 4294967296) else v
def Q4E (v:Nat):Int:=if v < 9223372036854775808 then (v:Int) else (v:Int) - 18446744073709551616
def Q2f (n:Nat):Nat:=(n + 3) / 4 * 4
section
variable (b : List UInt8)
def Q3l (k:Nat) (d:DSt):Except Mar.Fault (List UInt8×DSt):=if b.length < d.pos + k then .error ⟨16,d.pos⟩ else .ok ((b.drop d.pos).take k,{ d with pos:=d.pos + k })
def Q37 (d:DSt):Except Mar.Fault (Nat×DSt):=thenE (Q3l b 4 d) fun p=>.ok (bigL p.1,p.2)
def Q1F (n:NumL) (d:DSt):Except Mar.Fault (Int×DSt):=
 if n.wide then thenE (Q3l b 8 d) fun p=>.ok (Q4E (bigL p.1),p.2) else thenE (Q37 b d) fun p=>.ok (Q0L n p.1,p.2)
def Q0Z (n:Int) (f:Bool) (d:DSt):Except Mar.Fault (Nat×DSt):=
 if f then .ok (n.toNat,d) else thenE (Q37 b d) fun p=>if (p.1:Int)≤n then .ok p else .error ⟨19,d.pos⟩
def Q1X:Nat→List UInt8→Option Nat
 | _,[]=>none
 | i,c :: t=>if c=0 then Q1X (i + 1) t else some i
def Q1G (n:Nat) (d:DSt):Except Mar.Fault (List UInt8×DSt):=thenE (Q3l b (Q2f n) d) fun p=>match Q1X n (p.1.drop n) with
 | some i=>.error ⟨17,d.pos + i⟩
 | none=>.ok (p.1.take n,p.2)
def putD (x:Q0N) (d:DSt):DSt:={ d with nodes:=d.nodes++[x] }
variable (depth fuel : Nat)
def Q0E (d:DSt):Except Mar.Fault DSt:=if fuel≤d.nodes.length then .error ⟨15,d.pos⟩ else .ok d
def decW:Wk DSt where
 enter k d:=if depth≤k then .error ⟨13,d.pos⟩ else .ok d
 num n d:=thenE (Q0E fuel d) fun d=>thenE (Q1F b n d) fun p=>if n.has p.1 then .ok (putD ⟨1,p.1,[],0,0⟩ p.2) else .error ⟨18,d.pos⟩
 text n f d:=thenE (Q0E fuel d) fun d=>thenE (Q0Z b n f d) fun p=>thenE (Q1G b p.1 p.2) fun q=>.ok (putD ⟨2,0,q.1,0,p.2.pos⟩ q.2)
 list n f d:=thenE (Q0E fuel d) fun d=>thenE (Q0Z b n f d) fun p=>.ok (p.1,putD ⟨3,0,[],p.1,0⟩ p.2)
 arm n v d:=thenE (Q0E fuel d) fun d=>thenE (Q37 b d) fun p=>match v (Q0L n p.1) with
  | none=>.error ⟨18,d.pos⟩
  | some k=>.ok (Q0L n p.1,putD ⟨4,Q0L n p.1,[],k,0⟩ p.2)
end
def Q3g (E:Env) (n:List UInt8) (b:List UInt8) (depth fuel size:Nat):Except Mar.Fault (List Q0N):=
 if size < b.length then .error ⟨14,0⟩ else thenE (Q1s (decW b depth fuel) E 64 0 n ⟨0,[]⟩) fun d=>if d.pos < b.length then .error ⟨20,d.pos⟩ else .ok d.nodes
theorem Ql {α β:Type} {r:Except Mar.Fault α} {f:α→Except Mar.Fault β} {x:β} (h:thenE r f = .ok x):∃ a,r = .ok a∧f a = .ok x:=by
 cases r with
 | error e=>cases h
 | ok a=>exact ⟨a,rfl,h⟩
abbrev Q0N.said (x:Q0N):Nat×Int×List UInt8×Nat:=(x.kind,x.n,x.s,x.len)
def seg (a:List UInt8) (p q:Nat):List UInt8:=(a.drop p).take (q - p)
theorem Q8b (a:List UInt8) {p q r:Nat} (h1:p≤q) (h2:q≤r):seg a p q++seg a q r=seg a p r:=by
 unfold seg
 have e:r - p=(q - p) + (r - q):=by omega
 rw [e,List.take_add,List.drop_drop]
 congr 3
 omega
structure Goes (a:List UInt8) (d d':DSt) (N:List Q0N):Prop where
 nodes:d'.nodes=d.nodes++N
 le:d.pos≤d'.pos
 within:d.pos≤a.length→d'.pos≤a.length
def Pair {α:Type} (a b:List UInt8) (f g:DSt→Except Mar.Fault (α×DSt)):Prop:=∀ d e d' e' x y,f d = .ok (x,d')→g e = .ok (y,e')→∃ N M,Goes a d d' N∧Goes b e e' M ∧
 ∀ X Y,N.map Q0N.said++X=M.map Q0N.said++Y→N.map Q0N.said=M.map Q0N.said∧x=y∧seg a d.pos d'.pos=seg b e.pos e'.pos
def QD (f:Den DSt):DSt→Except Mar.Fault (Unit×DSt):=fun d=>thenE (f d) fun d'=>.ok ((),d')
abbrev Qjt (a b:List UInt8) (f g:Den DSt):Prop:=Pair a b (QD f) (QD g)
theorem Q2g {f:Den DSt} {d d':DSt} {u:Unit}:QD f d = .ok (u,d')↔f d = .ok d':=by
 unfold QD
 cases f d<;>simp [thenE]
theorem Goes.trans {a:List UInt8} {d d1 d2:DSt} {N M:List Q0N} (h:Goes a d d1 N) (k:Goes a d1 d2 M):Goes a d d2 (N++M):=
 ⟨by rw [k.nodes,h.nodes];simp,Nat.le_trans h.le k.le,fun hl=>k.within (h.within hl)⟩
theorem Qgr {α β:Type} {a b:List UInt8} {f g:DSt→Except Mar.Fault (α×DSt)} {f2 g2:α→DSt→Except Mar.Fault (β×DSt)} (h:Pair a b f g) (h2:∀ x,Pair a b (f2 x) (g2 x)) (h3:∀ x y d e d' e' u v,f2 x d = .ok (u,d')→g2 y e = .ok (v,e')→∃ N M,Goes a d d' N∧Goes b e e' M) :
  Pair a b (fun d=>thenE (f d) fun p=>f2 p.1 p.2) (fun d=>thenE (g d) fun p=>g2 p.1 p.2):=by
 intro d e d' e' x y hx hy
 obtain ⟨⟨x1,d1⟩,hf,hf2⟩:=Ql hx
 obtain ⟨⟨y1,e1⟩,hg,hg2⟩:=Ql hy
 obtain ⟨N,M,n1,m1,k1⟩:=h d e d1 e1 x1 y1 hf hg
 obtain ⟨N2,M2,n2,m2⟩:=h3 x1 y1 d1 e1 d' e' x y hf2 hg2
 refine ⟨N++N2,M++M2,n1.trans n2,m1.trans m2,?_⟩
 intro X Y hXY
 simp only [List.map_append,List.append_assoc] at hXY
 obtain ⟨q1,q2,q3⟩:=k1 _ _ hXY
 rw [q1] at hXY
 have hXY2:=List.append_cancel_left hXY
 subst q2
 obtain ⟨N3,M3,n3,m3,k3⟩:=h2 x1 d1 e1 d' e' x y hf2 hg2
 have eN:N2=N3:=List.append_cancel_left (n2.nodes.symm.trans n3.nodes)
 have eM:M2=M3:=List.append_cancel_left (m2.nodes.symm.trans m3.nodes)
 subst eN
 subst eM
 obtain ⟨r1,r2,r3⟩:=k3 X Y hXY2
 refine ⟨by rw [List.map_append,List.map_append,q1,r1],r2,?_⟩
 rw [← Q8b a n1.le n2.le,← Q8b b m1.le m2.le,q3,r3]
def Fwd {α:Type} (a:List UInt8) (f:DSt→Except Mar.Fault (α×DSt)):Prop:=∀ d d' x,f d = .ok (x,d')→∃ N,Goes a d d' N
theorem Pair.fwd {α:Type} {a:List UInt8} {f:DSt→Except Mar.Fault (α×DSt)} (h:Pair a a f f):Fwd a f:=fun d d' x hx=>by
 obtain ⟨N,M,h1,_⟩:=h d d d' d' x x hx hx
 exact ⟨N,h1⟩
theorem Q4f {a:List UInt8} {k:Nat} {d d':DSt} {l:List UInt8} (h:Q3l a k d = .ok (l,d')):l=seg a d.pos d'.pos∧d'.pos=d.pos + k∧d'.nodes=d.nodes∧d'.pos≤a.length∧l.length=k:=by
 unfold Q3l at h
 split at h
 ·cases h
 ·cases h
  refine ⟨by unfold seg;simp,rfl,rfl,by simp only;omega,?_⟩
  simp
  omega
theorem Q8W {l m:List UInt8} (h1:l.length=4) (h2:m.length=4) (h:bigL l=bigL m):l=m:=by
 match l,m,h1,h2 with
 | [a,b,c,d],[a',b',c',d'],_,_=>
  simp only [bigL,List.foldl_cons,List.foldl_nil] at h
  have:=a.toNat_lt;have:=b.toNat_lt;have:=c.toNat_lt;have:=d.toNat_lt
  have:=a'.toNat_lt;have:=b'.toNat_lt;have:=c'.toNat_lt;have:=d'.toNat_lt
  have e1:a=a':=UInt8.toNat_inj.1 (by omega)
  have e2:b=b':=UInt8.toNat_inj.1 (by omega)
  have e3:c=c':=UInt8.toNat_inj.1 (by omega)
  have e4:d=d':=UInt8.toNat_inj.1 (by omega)
  rw [e1,e2,e3,e4]
theorem Q3L {l:List UInt8} (h1:l.length=4):bigL l < 4294967296:=by
 match l,h1 with
 | [a,b,c,d],_=>
  simp only [bigL,List.foldl_cons,List.foldl_nil]
  have:=a.toNat_lt;have:=b.toNat_lt;have:=c.toNat_lt;have:=d.toNat_lt
  omega
theorem QhL {l m:List UInt8} (h1:l.length=8) (h2:m.length=8) (h:bigL l=bigL m):l=m:=by
 match l,m,h1,h2 with
 | [a,b,c,d,e,f,g,i],[a',b',c',d',e',f',g',i'],_,_=>
  simp only [bigL,List.foldl_cons,List.foldl_nil] at h
  have:=a.toNat_lt;have:=b.toNat_lt;have:=c.toNat_lt;have:=d.toNat_lt
  have:=a'.toNat_lt;have:=b'.toNat_lt;have:=c'.toNat_lt;have:=d'.toNat_lt
  have:=e.toNat_lt;have:=f.toNat_lt;have:=g.toNat_lt;have:=i.toNat_lt
  have:=e'.toNat_lt;have:=f'.toNat_lt;have:=g'.toNat_lt;have:=i'.toNat_lt
  have e1:a=a':=UInt8.toNat_inj.1 (by omega)
  have e2:b=b':=UInt8.toNat_inj.1 (by omega)
  have e3:c=c':=UInt8.toNat_inj.1 (by omega)
  have e4:d=d':=UInt8.toNat_inj.1 (by omega)
  have e5:e=e':=UInt8.toNat_inj.1 (by omega)
  have e6:f=f':=UInt8.toNat_inj.1 (by omega)
  have e7:g=g':=UInt8.toNat_inj.1 (by omega)
  have e8:i=i':=UInt8.toNat_inj.1 (by omega)
  rw [e1,e2,e3,e4,e5,e6,e7,e8]
theorem Qa8 {l:List UInt8} (h1:l.length=8):bigL l < 18446744073709551616:=by
 match l,h1 with
 | [a,b,c,d,e,f,g,i],_=>
  simp only [bigL,List.foldl_cons,List.foldl_nil]
  have:=a.toNat_lt;have:=b.toNat_lt;have:=c.toNat_lt;have:=d.toNat_lt
  have:=e.toNat_lt;have:=f.toNat_lt;have:=g.toNat_lt;have:=i.toNat_lt
  omega
theorem Q9F {n:NumL} {x y:Nat} (hx:x < 4294967296) (hy:y < 4294967296) (h:Q0L n x=Q0L n y):x=y:=by
 unfold Q0L at h
 split at h
 ·split at h<;>split at h<;>omega
 ·omega
theorem QeT {x y:Nat} (hx:x < 18446744073709551616) (hy:y < 18446744073709551616) (h:Q4E x=Q4E y):x=y:=by
 unfold Q4E at h
 split at h<;>split at h<;>omega
theorem Q1H {a:List UInt8} {d d':DSt} {v:Nat} (h:Q37 a d = .ok (v,d')):v=bigL (seg a d.pos d'.pos)∧(seg a d.pos d'.pos).length=4∧d'.pos=d.pos + 4∧d'.nodes=d.nodes∧d'.pos≤a.length:=by
 obtain ⟨⟨l,d1⟩,h1,h2⟩:=Ql h
 cases h2
 obtain ⟨e1,e2,e3,e4,e5⟩:=Q4f h1
 simp only
 exact ⟨by rw [e1],by rw [← e1];exact e5,e2,e3,e4⟩
theorem Q4g {a:List UInt8} {n:NumL} {d d':DSt} {v:Int} (h:Q1F a n d = .ok (v,d')):v=(if n.wide then Q4E (bigL (seg a d.pos d'.pos)) else Q0L n (bigL (seg a d.pos d'.pos)))∧(seg a d.pos d'.pos).length=(if n.wide then 8 else 4)∧d.pos≤d'.pos∧d'.nodes=d.nodes∧d'.pos≤a.length:=by
 unfold Q1F at h
 cases hw:n.wide with
 | true=>
  rw [hw] at h
  simp only [if_true] at h ⊢
  obtain ⟨⟨l,d1⟩,h1,h2⟩:=Ql h
  cases h2
  obtain ⟨e1,e2,e3,e4,e5⟩:=Q4f h1
  simp only
  exact ⟨by rw [e1],by rw [← e1];exact e5,by omega,e3,e4⟩
 | false=>
  rw [hw] at h
  simp only [Bool.false_eq_true,if_false] at h ⊢
  obtain ⟨⟨l,d1⟩,h1,h2⟩:=Ql h
  cases h2
  obtain ⟨e1,e2,e3,e4,e5⟩:=Q1H h1
  exact ⟨by rw [e1],e2,by simp only at e3 ⊢;omega,e4,e5⟩
theorem Q1k {a:List UInt8} {n:Int} {f:Bool} {d d':DSt} {v:Nat} (h:Q0Z a n f d = .ok (v,d')):d.pos≤d'.pos∧d'.nodes=d.nodes∧(d.pos≤a.length→d'.pos≤a.length) ∧
  (if f then v=n.toNat∧d'=d else v=bigL (seg a d.pos d'.pos)∧(seg a d.pos d'.pos).length=4):=by
 unfold Q0Z at h
 cases f with
 | true=>
  simp only [if_true] at h
  cases h
  exact ⟨Nat.le_refl _,rfl,id,rfl,rfl⟩
 | false=>
  simp only [Bool.false_eq_true,if_false] at h ⊢
  obtain ⟨⟨l,d1⟩,h1,h2⟩:=Ql h
  split at h2
  ·cases h2
   obtain ⟨e1,e2,e3,e4,e5⟩:=Q1H h1
   exact ⟨by omega,e4,fun _=>e5,e1,e2⟩
  ·cases h2
theorem Qdg:∀ (l:List UInt8) (i:Nat),Q1X i l=none→l=List.replicate l.length 0:=by
 intro l
 induction l with
 | nil=>intro i _;rfl
 | cons c t ih=>
  intro i h
  unfold Q1X at h
  split at h
  ·rename_i hc
   simp only [List.length_cons,List.replicate_succ,hc]
   rw [← ih _ h]
  ·cases h
theorem Q4h {a:List UInt8} {n:Nat} {d d':DSt} {l:List UInt8} (h:Q1G a n d = .ok (l,d')):seg a d.pos d'.pos=l++List.replicate (Q2f n - n) 0∧l.length=n∧d.pos≤d'.pos∧d'.nodes=d.nodes∧d'.pos≤a.length:=by
 obtain ⟨⟨w,d1⟩,h1,h2⟩:=Ql h
 obtain ⟨e1,e2,e3,e4,e5⟩:=Q4f h1
 simp only at h2
 split at h2
 ·cases h2
 ·rename_i hb
  cases h2
  have hn:n≤Q2f n:=by unfold Q2f;omega
  have hr:=Qdg _ _ hb
  refine ⟨?_,by simp [e5];omega,by omega,e3,e4⟩
  rw [← e1]
  conv=>lhs;rw [← List.take_append_drop n w]
  rw [hr]
  simp [e5]
section
variable {a b : List UInt8} {da fa db fb : Nat}
theorem Q1T {fuel:Nat} {d d':DSt} (h:Q0E fuel d = .ok d'):d'=d:=by
 unfold Q0E at h
 split at h
 ·cases h
 ·cases h;rfl
theorem Q4P (n:NumL):Qjt a b ((decW a da fa).num n) ((decW b db fb).num n):=by
 intro d e d' e' x y hx hy
 rw [Q2g] at hx hy
 obtain ⟨d0,hb,hx1⟩:=Ql hx
 obtain ⟨e0,hb',hy1⟩:=Ql hy
 have:=Q1T hb;subst this
 have:=Q1T hb';subst this
 obtain ⟨⟨v,d1⟩,h1,h2⟩:=Ql hx1
 obtain ⟨⟨v',e1⟩,h1',h2'⟩:=Ql hy1
 simp only at h2 h2'
 split at h2
 ·split at h2'
  ·cases h2
   cases h2'
   obtain ⟨p1,p2,p3,p4,p5⟩:=Q4g h1
   obtain ⟨q1,q2,q3,q4,q5⟩:=Q4g h1'
   refine ⟨[_],[_],⟨by simp only [putD];rw [p4],p3,fun _=>p5⟩,⟨by simp only [putD];rw [q4],q3,fun _=>q5⟩,?_⟩
   intro X Y h
   simp only [List.map_cons,List.map_nil,List.cons_append,List.nil_append,List.cons.injEq,Prod.mk.injEq] at h ⊢
   obtain ⟨⟨_,hv,_⟩,_⟩:=h
   refine ⟨by simp [hv],trivial,?_⟩
   rw [p1,q1] at hv
   simp only [putD]
   cases hw:n.wide with
   | true=>
    simp only [hw,if_true] at hv p2 q2
    exact QhL p2 q2 (QeT (Qa8 p2) (Qa8 q2) hv)
   | false=>
    simp only [hw,Bool.false_eq_true,if_false] at hv p2 q2
    exact Q8W p2 q2 (Q9F (Q3L p2) (Q3L q2) hv)
  ·cases h2'
 ·cases h2
theorem Q9G {n:Int} {f:Bool} {d d' e e':DSt} {v:Nat} (h:Q0Z a n f d = .ok (v,d')) (k:Q0Z b n f e = .ok (v,e')):seg a d.pos d'.pos=seg b e.pos e'.pos:=by
 obtain ⟨_,_,_,h4⟩:=Q1k h
 obtain ⟨_,_,_,k4⟩:=Q1k k
 cases f with
 | true=>
  simp only [if_true] at h4 k4
  rw [h4.2,k4.2]
  simp [seg]
 | false=>
  simp only [Bool.false_eq_true,if_false] at h4 k4
  exact Q8W h4.2 k4.2 (h4.1.symm.trans k4.1)
theorem Q4i (n:Int) (f:Bool):Qjt a b ((decW a da fa).text n f) ((decW b db fb).text n f):=by
 intro d e d' e' x y hx hy
 rw [Q2g] at hx hy
 obtain ⟨d0,hb,hx1⟩:=Ql hx
 obtain ⟨e0,hb',hy1⟩:=Ql hy
 have:=Q1T hb;subst this
 have:=Q1T hb';subst this
 obtain ⟨⟨v,d1⟩,h1,h2⟩:=Ql hx1
 obtain ⟨⟨v',e1⟩,h1',h2'⟩:=Ql hy1
 obtain ⟨⟨l,d2⟩,h3,h4⟩:=Ql h2
 obtain ⟨⟨l',e2⟩,h3',h4'⟩:=Ql h2'
 cases h4
 cases h4'
 obtain ⟨c1,c2,c3,c4⟩:=Q1k h1
 obtain ⟨c1',c2',c3',c4'⟩:=Q1k h1'
 obtain ⟨p1,p2,p3,p4,p5⟩:=Q4h h3
 obtain ⟨p1',p2',p3',p4',p5'⟩:=Q4h h3'
 refine ⟨[_],[_],⟨by simp only [putD];rw [p4,c2],Nat.le_trans c1 p3,fun _=>p5⟩,⟨by simp only [putD];rw [p4',c2'],Nat.le_trans c1' p3',fun _=>p5'⟩,?_⟩
 intro X Y h
 simp only [List.map_cons,List.map_nil,List.cons_append,List.nil_append,List.cons.injEq,Prod.mk.injEq] at h ⊢
 obtain ⟨⟨_,_,hl,_⟩,_⟩:=h
 refine ⟨by simp [hl],trivial,?_⟩
 have hv:v=v':=by
  have e1:l.length=v:=p2
  have e2:l'.length=v':=p2'
  rw [← e1,← e2,hl]
 subst hv
 simp only [putD]
 rw [← Q8b a c1 p3,← Q8b b c1' p3',Q9G h1 h1',p1,p1',hl]
theorem Q4j (n:Int) (f:Bool):Pair a b ((decW a da fa).list n f) ((decW b db fb).list n f):=by
 intro d e d' e' x y hx hy
 obtain ⟨d0,hb,hx1⟩:=Ql hx
 obtain ⟨e0,hb',hy1⟩:=Ql hy
 have:=Q1T hb;subst this
 have:=Q1T hb';subst this
 obtain ⟨⟨v,d1⟩,h1,h2⟩:=Ql hx1
 obtain ⟨⟨v',e1⟩,h1',h2'⟩:=Ql hy1
 cases h2
 cases h2'
 obtain ⟨c1,c2,c3,c4⟩:=Q1k h1
 obtain ⟨c1',c2',c3',c4'⟩:=Q1k h1'
 refine ⟨[_],[_],⟨by simp only [putD];rw [c2],c1,c3⟩,⟨by simp only [putD];rw [c2'],c1',c3'⟩,?_⟩
 intro X Y h
 simp only [List.map_cons,List.map_nil,List.cons_append,List.nil_append,List.cons.injEq,Prod.mk.injEq] at h ⊢
 obtain ⟨⟨_,_,_,hv⟩,_⟩:=h
 subst hv
 refine ⟨by simp,rfl,?_⟩
 simp only [putD]
 exact Q9G h1 h1'
theorem Q4Q (n:NumL) (v:Int→Option Nat):Pair a b ((decW a da fa).arm n v) ((decW b db fb).arm n v):=by
 intro d e d' e' x y hx hy
 obtain ⟨d0,hb,hx1⟩:=Ql hx
 obtain ⟨e0,hb',hy1⟩:=Ql hy
 have:=Q1T hb;subst this
 have:=Q1T hb';subst this
 obtain ⟨⟨w,d1⟩,h1,h2⟩:=Ql hx1
 obtain ⟨⟨w',e1⟩,h1',h2'⟩:=Ql hy1
 simp only at h2 h2'
 split at h2
 ·cases h2
 ·split at h2'
  ·cases h2'
  ·cases h2
   cases h2'
   obtain ⟨p1,p2,p3,p4,p5⟩:=Q1H h1
   obtain ⟨q1,q2,q3,q4,q5⟩:=Q1H h1'
   refine ⟨[_],[_],⟨by simp only [putD];rw [p4],by simp only [putD];omega,fun _=>p5⟩,⟨by simp only [putD];rw [q4],by simp only [putD];omega,fun _=>q5⟩,?_⟩
   intro X Y h
   simp only [List.map_cons,List.map_nil,List.cons_append,List.nil_append,List.cons.injEq,Prod.mk.injEq] at h ⊢
   obtain ⟨⟨_,hv,_,hk⟩,_⟩:=h
   refine ⟨by simp [hv,hk],hv,?_⟩
   simp only [putD]
   exact Q8W p2 q2 (by rw [← p1,← q1];exact Q9F (by rw [p1];exact Q3L p2) (by rw [q1];exact Q3L q2) hv)
end
structure Both {α:Type} (a b:List UInt8) (f g:DSt→Except Mar.Fault (α×DSt)):Prop where
 ab:Pair a b f g
 fa:Fwd a f
 fb:Fwd b g
theorem Both.then {α β:Type} {a b:List UInt8} {f g:DSt→Except Mar.Fault (α×DSt)} {f2 g2:α→DSt→Except Mar.Fault (β×DSt)} (h:Both a b f g) (h2:∀ x,Both a b (f2 x) (g2 x)) :
  Both a b (fun d=>thenE (f d) fun p=>f2 p.1 p.2) (fun d=>thenE (g d) fun p=>g2 p.1 p.2):=by
 refine ⟨Qgr h.ab (fun x=>(h2 x).ab) ?_,?_,?_⟩
 ·intro x y d e d' e' u v hx hy
  obtain ⟨N,hN⟩:=(h2 x).fa _ _ _ hx
  obtain ⟨M,hM⟩:=(h2 y).fb _ _ _ hy
  exact ⟨N,M,hN,hM⟩
 ·intro d d' x hx
  obtain ⟨⟨x1,d1⟩,h1,h3⟩:=Ql hx
  obtain ⟨N,hN⟩:=h.fa _ _ _ h1
  obtain ⟨M,hM⟩:=(h2 x1).fa _ _ _ h3
  exact ⟨N++M,hN.trans hM⟩
 ·intro d d' x hx
  obtain ⟨⟨x1,d1⟩,h1,h3⟩:=Ql hx
  obtain ⟨N,hN⟩:=h.fb _ _ _ h1
  obtain ⟨M,hM⟩:=(h2 x1).fb _ _ _ h3
  exact ⟨N++M,hN.trans hM⟩
theorem Q4k {α:Type} {a b:List UInt8} {f g:DSt→Except Mar.Fault (α×DSt)} (h:Pair a b f g) (ha:Pair a a f f) (hb:Pair b b g g):Both a b f g:=⟨h,ha.fwd,hb.fwd⟩
theorem Q6j {a b:List UInt8}:Both a b (QD fun d=>.ok d) (QD fun d=>.ok d):=by
 refine ⟨?_,?_,?_⟩
 ·intro d e d' e' x y hx hy
  rw [Q2g] at hx hy
  cases hx
  cases hy
  exact ⟨[],[],⟨by simp,Nat.le_refl _,id⟩,⟨by simp,Nat.le_refl _,id⟩,fun X Y _=>⟨rfl,rfl,by simp [seg]⟩⟩
 ·intro d d' x hx
  rw [Q2g] at hx
  cases hx
  exact ⟨[],by simp,Nat.le_refl _,id⟩
 ·intro d d' x hx
  rw [Q2g] at hx
  cases hx
  exact ⟨[],by simp,Nat.le_refl _,id⟩
theorem Q55 {a b:List UInt8} (x y:DSt→Mar.Fault):Both a b (QD fun d=>.error (x d)) (QD fun d=>.error (y d)):=by
 refine ⟨?_,?_,?_⟩
 ·intro d e d' e' u v hx hy
  rw [Q2g] at hx
  cases hx
 ·intro d d' u hx
  rw [Q2g] at hx
  cases hx
 ·intro d d' u hx
  rw [Q2g] at hx
  cases hx
theorem Q2x {α:Type} (f:DSt→Except Mar.Fault (α×DSt)) (f2:α→Den DSt):QD (fun d=>thenE (f d) fun p=>f2 p.1 p.2)=fun d=>thenE (f d) fun p=>QD (f2 p.1) p.2:=by
 funext d
 simp only [QD]
 cases f d<;>rfl
theorem Q2N (f f2:Den DSt):QD (fun d=>thenE (f d) f2)=fun d=>thenE (QD f d) fun p=>QD f2 p.2:=by
 funext d
 simp only [QD]
 cases f d<;>rfl
section
variable {a b : List UInt8} {da fa db fb : Nat} {n1 n2 : List UInt8 → Den DSt}
theorem Qc8 {f g:Den DSt} (h:Both a b (QD f) (QD g)):∀ k,Both a b (QD (rep f k)) (QD (rep g k)):=by
 intro k
 induction k with
 | zero=>exact Q6j
 | succ k ih=>
  have e1:QD (rep f (k + 1))=fun d=>thenE (QD f d) fun p=>QD (rep f k) p.2:=Q2N f (rep f k)
  have e2:QD (rep g (k + 1))=fun d=>thenE (QD g d) fun p=>QD (rep g k) p.2:=Q2N g (rep g k)
  rw [e1,e2]
  exact h.then fun _=>ih
theorem Q5z (hn:∀ n,Both a b (QD (n1 n)) (QD (n2 n))) (t:Ty):Both a b (QD (tyD (decW a da fa) n1 t)) (QD (tyD (decW b db fb) n2 t)):=by
 induction t with
 | named n p=>exact hn n
 | plain k=>exact Q4k (Q4P _) (Q4P _) (Q4P _)
 | opaq n f=>exact Q4k (Q4i _ _) (Q4i _ _) (Q4i _ _)
 | str n f=>exact Q4k (Q4i _ _) (Q4i _ _) (Q4i _ _)
 | void=>exact Q6j
 | arr o n f ih=>
  have e1:QD (tyD (decW a da fa) n1 (.arr o n f))=fun d=>thenE ((decW a da fa).list n f d) fun p=>QD (rep (tyD (decW a da fa) n1 o) p.1) p.2:=Q2x _ fun k=>rep (tyD (decW a da fa) n1 o) k
  have e2:QD (tyD (decW b db fb) n2 (.arr o n f))=fun d=>thenE ((decW b db fb).list n f d) fun p=>QD (rep (tyD (decW b db fb) n2 o) p.1) p.2:=Q2x _ fun k=>rep (tyD (decW b db fb) n2 o) k
  rw [e1,e2]
  exact (Q4k (Q4j _ _) (Q4j _ _) (Q4j _ _)).then fun k=>Qc8 ih k
 | opt o ih=>
  have e1:QD (tyD (decW a da fa) n1 (.opt o))=fun d=>thenE ((decW a da fa).arm (QL 4) Q45 d) fun p=>QD (if p.1=1 then tyD (decW a da fa) n1 o else fun d=>.ok d) p.2:=by
   refine (Eq.trans ?_ (Q2x _ fun k=>if k=1 then tyD (decW a da fa) n1 o else fun d=>.ok d))
   congr 1
   funext d
   simp only [tyD]
   congr 1
   funext p
   split<;>rfl
  have e2:QD (tyD (decW b db fb) n2 (.opt o))=fun d=>thenE ((decW b db fb).arm (QL 4) Q45 d) fun p=>QD (if p.1=1 then tyD (decW b db fb) n2 o else fun d=>.ok d) p.2:=by
   refine (Eq.trans ?_ (Q2x _ fun k=>if k=1 then tyD (decW b db fb) n2 o else fun d=>.ok d))
   congr 1
   funext d
   simp only [tyD]
   congr 1
   funext p
   split<;>rfl
  rw [e1,e2]
  refine Both.then (f2:=fun k=>QD (if k=1 then tyD (decW a da fa) n1 o else fun d=>.ok d)) (g2:=fun k=>QD (if k=1 then tyD (decW b db fb) n2 o else fun d=>.ok d)) (Q4k (Q4Q _ _) (Q4Q _ _) (Q4Q _ _)) fun k=>?_
  by_cases hk:k=1
  ·simp only [hk,if_true]
   exact ih
  ·simp only [hk,if_false]
   exact Q6j
theorem Qc9 (hn:∀ n,Both a b (QD (n1 n)) (QD (n2 n))):∀ ts:List Ty,Both a b (QD (allD (decW a da fa) n1 ts)) (QD (allD (decW b db fb) n2 ts)):=by
 intro ts
 induction ts with
 | nil=>exact Q6j
 | cons t ts ih=>
  have e1:QD (allD (decW a da fa) n1 (t :: ts))=fun d=>thenE (QD (tyD (decW a da fa) n1 t) d) fun p=>QD (allD (decW a da fa) n1 ts) p.2:=Q2N _ _
  have e2:QD (allD (decW b db fb) n2 (t :: ts))=fun d=>thenE (QD (tyD (decW b db fb) n2 t) d) fun p=>QD (allD (decW b db fb) n2 ts) p.2:=Q2N _ _
  rw [e1,e2]
  exact (Q5z hn t).then fun _=>ih
theorem QhM {E:Env} (hn:∀ n,Both a b (QD (n1 n)) (QD (n2 n))) (df:DefL):Both a b (QD (defD (decW a da fa) E n1 df)) (QD (defD (decW b db fb) E n2 df)):=by
 cases df with
 | const t p v=>exact Q55 (fun _=>⟨0,0⟩) (fun _=>⟨0,0⟩)
 | prog t p v n=>exact Q55 (fun _=>⟨0,0⟩) (fun _=>⟨0,0⟩)
 | typedef t=>exact Q5z hn t.ty
 | enum t p ms=>exact Q4k (Q4P _) (Q4P _) (Q4P _)
 | struct t p ms=>
  have e1:QD (defD (decW a da fa) E n1 (.struct t p ms))=fun d=>thenE ((decW a da fa).list ms.length true d) fun q=>QD (allD (decW a da fa) n1 (ms.map (·.ty))) q.2:=Q2x _ fun _=>allD (decW a da fa) n1 (ms.map Qr.ty)
  have e2:QD (defD (decW b db fb) E n2 (.struct t p ms))=fun d=>thenE ((decW b db fb).list ms.length true d) fun q=>QD (allD (decW b db fb) n2 (ms.map (·.ty))) q.2:=Q2x _ fun _=>allD (decW b db fb) n2 (ms.map Qr.ty)
  rw [e1,e2]
  exact (Q4k (Q4j _ _) (Q4j _ _) (Q4j _ _)).then fun _=>Qc9 hn _
 | union t p s arms=>
  have e1:QD (defD (decW a da fa) E n1 (.union t p s arms))=fun d=>thenE ((decW a da fa).arm (selD E s.ty) (Q4N E s.ty arms) d) fun q=>QD (match Q2l arms q.1 with | some t=>tyD (decW a da fa) n1 t | none=>fun _=>.error ⟨0,0⟩) q.2:=by
   refine (Eq.trans ?_ (Q2x _ fun k=>match Q2l arms k with | some t=>tyD (decW a da fa) n1 t | none=>fun _=>.error ⟨0,0⟩))
   congr 1
   funext d
   simp only [defD]
   congr 1
   funext q
   cases Q2l arms q.1<;>rfl
  have e2:QD (defD (decW b db fb) E n2 (.union t p s arms))=fun d=>thenE ((decW b db fb).arm (selD E s.ty) (Q4N E s.ty arms) d) fun q=>QD (match Q2l arms q.1 with | some t=>tyD (decW b db fb) n2 t | none=>fun _=>.error ⟨0,0⟩) q.2:=by
   refine (Eq.trans ?_ (Q2x _ fun k=>match Q2l arms k with | some t=>tyD (decW b db fb) n2 t | none=>fun _=>.error ⟨0,0⟩))
   congr 1
   funext d
   simp only [defD]
   congr 1
   funext q
   cases Q2l arms q.1<;>rfl
  rw [e1,e2]
  refine Both.then (f2:=fun k=>QD (match Q2l arms k with | some t=>tyD (decW a da fa) n1 t | none=>fun _=>.error ⟨0,0⟩)) (g2:=fun k=>QD (match Q2l arms k with | some t=>tyD (decW b db fb) n2 t | none=>fun _=>.error ⟨0,0⟩)) (Q4k (Q4Q _ _) (Q4Q _ _) (Q4Q _ _)) fun k=>?_
  cases Q2l arms k with
  | none=>exact Q55 (fun _=>⟨0,0⟩) (fun _=>⟨0,0⟩)
  | some t=>exact Q5z hn t
end
theorem Q9H {a b:List UInt8} {da fa db fb k k':Nat}:Both a b (QD ((decW a da fa).enter k)) (QD ((decW b db fb).enter k')):=by
 have st:∀ (c:List UInt8) (x y z:Nat) (d d':DSt) (u:Unit),QD ((decW c x y).enter z) d = .ok (u,d')→d'=d:=by
  intro c x y z d d' u h
  rw [Q2g] at h
  simp only [decW] at h
  split at h
  ·cases h
  ·cases h;rfl
 refine ⟨?_,?_,?_⟩
 ·intro d e d' e' x y hx hy
  have:=st _ _ _ _ _ _ _ hx;subst this
  have:=st _ _ _ _ _ _ _ hy;subst this
  exact ⟨[],[],⟨by simp,Nat.le_refl _,id⟩,⟨by simp,Nat.le_refl _,id⟩,fun X Y _=>⟨rfl,rfl,by simp [seg]⟩⟩
 ·intro d d' x hx
  have:=st _ _ _ _ _ _ _ hx;subst this
  exact ⟨[],by simp,Nat.le_refl _,id⟩
 ·intro d d' x hx
  have:=st _ _ _ _ _ _ _ hx;subst this
  exact ⟨[],by simp,Nat.le_refl _,id⟩
theorem Qas {a b:List UInt8} {da fa db fb:Nat} {E:Env}:∀ (g k:Nat) (n:List UInt8),Both a b (QD (Q1s (decW a da fa) E g k n)) (QD (Q1s (decW b db fb) E g k n)):=by
 intro g
 induction g with
 | zero=>
  intro k n
  have e1:QD (Q1s (decW a da fa) E 0 k n)=fun d=>thenE (QD ((decW a da fa).enter k) d) fun p=>QD (fun _=>.error ⟨0,0⟩) p.2:=Q2N _ _
  have e2:QD (Q1s (decW b db fb) E 0 k n)=fun d=>thenE (QD ((decW b db fb).enter k) d) fun p=>QD (fun _=>.error ⟨0,0⟩) p.2:=Q2N _ _
  rw [e1,e2]
  exact Q9H.then fun _=>Q55 (fun _=>⟨0,0⟩) (fun _=>⟨0,0⟩)
 | succ g ih=>
  intro k n
  have e1:QD (Q1s (decW a da fa) E (g + 1) k n)=fun d=>thenE (QD ((decW a da fa).enter k) d) fun p=>QD (match E n with | some df=>defD (decW a da fa) E (Q1s (decW a da fa) E g (k + 1)) df | none=>fun _=>.error ⟨0,0⟩) p.2:=by
   refine (Eq.trans ?_ (Q2N _ _))
   congr 1
   funext d
   simp only [Q1s]
   congr 1
   funext q
   cases E n<;>rfl
  have e2:QD (Q1s (decW b db fb) E (g + 1) k n)=fun d=>thenE (QD ((decW b db fb).enter k) d) fun p=>QD (match E n with | some df=>defD (decW b db fb) E (Q1s (decW b db fb) E g (k + 1)) df | none=>fun _=>.error ⟨0,0⟩) p.2:=by
   refine (Eq.trans ?_ (Q2N _ _))
   congr 1
   funext d
   simp only [Q1s]
   congr 1
   funext q
   cases E n<;>rfl
  rw [e1,e2]
  refine Both.then (f2:=fun _=>QD (match E n with | some df=>defD (decW a da fa) E (Q1s (decW a da fa) E g (k + 1)) df | none=>fun _=>.error ⟨0,0⟩)) (g2:=fun _=>QD (match E n with | some df=>defD (decW b db fb) E (Q1s (decW b db fb) E g (k + 1)) df | none=>fun _=>.error ⟨0,0⟩)) Q9H fun _=>?_
  cases E n with
  | none=>exact Q55 (fun _=>⟨0,0⟩) (fun _=>⟨0,0⟩)
  | some df=>exact QhM (fun m=>ih (k + 1) m) df
theorem Q5X {E:Env} {n b:List UInt8} {dep fuel size:Nat} {u:List Q0N} (h:Q3g E n b dep fuel size = .ok u):b.length≤size∧Q1s (decW b dep fuel) E 64 0 n ⟨0,[]⟩ = .ok ⟨b.length,u⟩:=by
 unfold Q3g at h
 split at h
 ·cases h
 obtain ⟨d,h1,h2⟩:=Ql h
 split at h2
 ·cases h2
 rename_i hs hd
 cases h2
 obtain ⟨N,hN⟩:=(Qas (a:=b) (b:=b) (da:=dep) (fa:=fuel) (db:=dep) (fb:=fuel) (E:=E) 64 0 n).fa ⟨0,[]⟩ d () (Q2g.2 h1)
 have:=hN.within (Nat.zero_le _)
 refine ⟨by omega,?_⟩
 rw [h1]
 have e:d.pos=b.length:=by omega
 cases d
 simp only at e
 subst e
 rfl
def Qca (E:Env):Prop:=∀ n t,E n=some (.typedef t)→t.ty≠.void
def Adds (f:Den DSt):Prop:=∀ d d',f d = .ok d'→d.nodes.length < d'.nodes.length
section
variable {b : List UInt8} {dep fuel : Nat}
theorem Qcb (n:NumL):Adds ((decW b dep fuel).num n):=by
 intro d d' h
 obtain ⟨d1,e1,h'⟩:=Ql h
 clear h
 have:=Q1T e1;subst this
 obtain ⟨p,e2,h⟩:=Ql h'
 split at h
 ·cases h
  obtain ⟨_,_,_,p4,_⟩:=Q4g (show Q1F b n d1 = .ok (p.1,p.2) from e2)
  simp [putD,p4]
 ·cases h
theorem Qat (n:Int) (f:Bool):Adds ((decW b dep fuel).text n f):=by
 intro d d' h
 obtain ⟨d1,e1,h'⟩:=Ql h
 clear h
 have:=Q1T e1;subst this
 obtain ⟨p,e2,h⟩:=Ql h'
 obtain ⟨q,e3,h⟩:=Ql h
 cases h
 obtain ⟨_,c2,_,_⟩:=Q1k (show Q0Z b n f d1 = .ok (p.1,p.2) from e2)
 obtain ⟨_,_,_,p4,_⟩:=Q4h (show Q1G b p.1 p.2 = .ok (q.1,q.2) from e3)
 simp [putD,p4,c2]
theorem Qau {n:Int} {f:Bool} {d:DSt} {p:Nat×DSt} (h:(decW b dep fuel).list n f d = .ok p):d.nodes.length < p.2.nodes.length:=by
 obtain ⟨d1,e1,h'⟩:=Ql h
 clear h
 have:=Q1T e1;subst this
 obtain ⟨q,e2,h⟩:=Ql h'
 cases h
 obtain ⟨_,c2,_,_⟩:=Q1k (show Q0Z b n f d1 = .ok (q.1,q.2) from e2)
 simp [putD,c2]
theorem Qcc {n:NumL} {v:Int→Option Nat} {d:DSt} {p:Int×DSt} (h:(decW b dep fuel).arm n v d = .ok p):d.nodes.length < p.2.nodes.length:=by
 obtain ⟨d1,e1,h'⟩:=Ql h
 clear h
 have:=Q1T e1;subst this
 obtain ⟨q,e2,h⟩:=Ql h'
 split at h
 ·cases h
 ·cases h
  obtain ⟨_,_,_,p4,_⟩:=Q1H (show Q37 b d1 = .ok (q.1,q.2) from e2)
  simp [putD,p4]
theorem Q9I {f:Den DSt} (h:Fwd b (QD f)) {d d':DSt} (hd:f d = .ok d'):d.nodes.length≤d'.nodes.length:=by
 obtain ⟨N,hN⟩:=h d d' () (Q2g.2 hd)
 rw [hN.nodes]
 simp
variable {nm : List UInt8 → Den DSt}
theorem QjS (hn:∀ n,Adds (nm n)) (hb:∀ n,Both b b (QD (nm n)) (QD (nm n))) (t:Ty) (ht:t≠.void):Adds (tyD (decW b dep fuel) nm t):=by
 cases t with
 | named n p=>exact hn n
 | plain k=>exact Qcb _
 | opaq n f=>exact Qat _ _
 | str n f=>exact Qat _ _
 | void=>exact absurd rfl ht
 | arr o n f=>
  intro d d' h
  obtain ⟨p,e1,h⟩:=Ql h
  exact Nat.lt_of_lt_of_le (Qau e1) (Q9I (Qc8 (Q5z (da:=dep) (fa:=fuel) (db:=dep) (fb:=fuel) hb o) p.1).fa h)
 | opt o=>
  intro d d' h
  obtain ⟨p,e1,h⟩:=Ql h
  refine Nat.lt_of_lt_of_le (Qcc e1) ?_
  split at h
  ·exact Q9I (Q5z (da:=dep) (fa:=fuel) (db:=dep) (fb:=fuel) hb o).fa h
  ·cases h;exact Nat.le_refl _
theorem QhN {E:Env} (hn:∀ n,Adds (nm n)) (hb:∀ n,Both b b (QD (nm n)) (QD (nm n))) (df:DefL) (ht:∀ t,df = .typedef t→t.ty≠.void):Adds (defD (decW b dep fuel) E nm df):=by
 cases df with
 | const t p v=>intro d x hx;cases hx
 | prog t p v n=>intro d x hx;cases hx
 | typedef t=>exact QjS hn hb t.ty (ht t rfl)
 | enum t p ms=>exact Qcb _
 | struct t p ms=>
  intro d d' h
  obtain ⟨p,e1,h⟩:=Ql h
  exact Nat.lt_of_lt_of_le (Qau e1) (Q9I (Qc9 (da:=dep) (fa:=fuel) (db:=dep) (fb:=fuel) hb _).fa h)
 | union t p s arms=>
  intro d d' h
  obtain ⟨p,e1,h⟩:=Ql h
  refine Nat.lt_of_lt_of_le (Qcc e1) ?_
  split at h
  ·exact Q9I (Q5z (da:=dep) (fa:=fuel) (db:=dep) (fb:=fuel) hb _).fa h
  ·cases h
theorem Qgs {E:Env} (hE:Qca E):∀ (g k:Nat) (n:List UInt8),Adds (Q1s (decW b dep fuel) E g k n):=by
 intro g
 induction g with
 | zero=>
  intro k n d x hx
  obtain ⟨_,_,h2⟩:=Ql hx
  cases h2
 | succ g ih=>
  intro k n d d' h
  obtain ⟨d1,e1,h⟩:=Ql h
  have e:d1=d:=by
   simp only [decW] at e1
   split at e1
   ·cases e1
   ·cases e1;rfl
  cases hn:E n with
  | none=>rw [hn] at h;cases h
  | some df=>
   rw [hn] at h
   rw [← e]
   exact QhN (fun m=>ih (k + 1) m) (fun m=>Qas g (k + 1) m) df (fun t ht=>hE n t (by rw [hn,ht])) _ _ h
end
theorem Qdh {E:Env} (hE:Qca E) {n b:List UInt8} {dep fuel size:Nat} {u:List Q0N} (h:Q3g E n b dep fuel size = .ok u):0 < u.length:=by
 obtain ⟨_,hn⟩:=Q5X h
 have:=Qgs hE 64 0 n _ _ hn
 simpa using this
structure WInv {τ:Type} (W:Wk τ) (P:τ→Prop):Prop where
 enter:∀ k d d',P d→W.enter k d = .ok d'→P d'
 num:∀ n d d',P d→W.num n d = .ok d'→P d'
 text:∀ n f d d',P d→W.text n f d = .ok d'→P d'
 list:∀ n f d p,P d→W.list n f d = .ok p→P p.2
 arm:∀ n v d p,P d→W.arm n v d = .ok p→P p.2
section
variable {τ : Type} {W : Wk τ} {P : τ → Prop} {nm : List UInt8 → Den τ}
theorem QdR {f:Den τ} (hf:∀ d d',P d→f d = .ok d'→P d'):∀ k d d',P d→rep f k d = .ok d'→P d':=by
 intro k
 induction k with
 | zero=>intro d d' hd hx;cases hx;exact hd
 | succ k ih=>
  intro d d' hd hx
  obtain ⟨d1,h1,h2⟩:=Ql hx
  exact ih _ _ (hf _ _ hd h1) h2
theorem Qcd (h:WInv W P) (hn:∀ n d d',P d→nm n d = .ok d'→P d') (t:Ty):∀ d d',P d→tyD W nm t d = .ok d'→P d':=by
 induction t with
 | named n p=>exact hn n
 | plain k=>exact h.num _
 | opaq n f=>exact h.text _ _
 | str n f=>exact h.text _ _
 | void=>intro d d' hd hx;cases hx;exact hd
 | arr o n f ih=>
  intro d d' hd hx
  obtain ⟨p,h1,h2⟩:=Ql hx
  exact QdR ih _ _ _ (h.list _ _ _ _ hd h1) h2
 | opt o ih=>
  intro d d' hd hx
  obtain ⟨p,h1,h2⟩:=Ql hx
  have hp:=h.arm _ _ _ _ hd h1
  split at h2
  ·exact ih _ _ hp h2
  ·cases h2;exact hp
theorem QjT (h:WInv W P) (hn:∀ n d d',P d→nm n d = .ok d'→P d'):∀ (ts:List Ty) d d',P d→allD W nm ts d = .ok d'→P d':=by
 intro ts
 induction ts with
 | nil=>intro d d' hd hx;cases hx;exact hd
 | cons t ts ih=>
  intro d d' hd hx
  obtain ⟨p,h1,h2⟩:=Ql hx
  exact ih _ _ (Qcd h hn t _ _ hd h1) h2
theorem QjU (h:WInv W P) {E:Env} (hn:∀ n d d',P d→nm n d = .ok d'→P d') (df:DefL):∀ d d',P d→defD W E nm df d = .ok d'→P d':=by
 cases df with
 | const t p v=>intro d x _ hx;cases hx
 | prog t p v n=>intro d x _ hx;cases hx
 | typedef t=>exact Qcd h hn t.ty
 | enum t p ms=>exact h.num _
 | struct t p ms=>
  intro d d' hd hx
  obtain ⟨p,h1,h2⟩:=Ql hx
  exact QjT h hn _ _ _ (h.list _ _ _ _ hd h1) h2
 | union t p s arms=>
  intro d d' hd hx
  obtain ⟨p,h1,h2⟩:=Ql hx
  have hp:=h.arm _ _ _ _ hd h1
  split at h2
  ·exact Qcd h hn _ _ _ hp h2
  ·cases h2
theorem QhO (h:WInv W P) {E:Env}:∀ (g k:Nat) (n:List UInt8) d d',P d→Q1s W E g k n d = .ok d'→P d':=by
 intro g
 induction g with
 | zero=>
  intro k n d x _ hx
  obtain ⟨_,_,h2⟩:=Ql hx
  cases h2
 | succ g ih=>
  intro k n d d' hd hx
  obtain ⟨d1,h1,h2⟩:=Ql hx
  have hp:=h.enter _ _ _ hd h1
  split at h2
  ·exact QjU h (fun m=>ih (k + 1) m) _ _ _ hp h2
  ·cases h2
end
theorem Q3z {fuel:Nat} {d d':DSt} (h:Q0E fuel d = .ok d'):d'=d∧d.nodes.length < fuel:=by
 unfold Q0E at h
 split at h
 ·cases h
 ·cases h;exact ⟨rfl,by omega⟩
theorem Qgt (b:List UInt8) (dep fuel:Nat):WInv (decW b dep fuel) fun d=>d.nodes.length≤fuel where
 enter k d d' hd h:=by
  simp only [decW] at h
  split at h
  ·cases h
  ·cases h;exact hd
 num n d d' hd h:=by
  obtain ⟨d1,e1,h'⟩:=Ql h
  clear h
  obtain ⟨rfl,hl⟩:=Q3z e1
  obtain ⟨p,e2,h⟩:=Ql h'
  split at h
  ·cases h
   obtain ⟨_,_,_,p4,_⟩:=Q4g (show Q1F b n d1 = .ok (p.1,p.2) from e2)
   simp [putD,p4];omega
  ·cases h
 text n f d d' hd h:=by
  obtain ⟨d1,e1,h'⟩:=Ql h
  clear h
  obtain ⟨rfl,hl⟩:=Q3z e1
  obtain ⟨p,e2,h⟩:=Ql h'
  obtain ⟨q,e3,h⟩:=Ql h
  cases h
  obtain ⟨_,c2,_,_⟩:=Q1k (show Q0Z b n f d1 = .ok (p.1,p.2) from e2)
  obtain ⟨_,_,_,p4,_⟩:=Q4h (show Q1G b p.1 p.2 = .ok (q.1,q.2) from e3)
  simp [putD,p4,c2];omega
 list n f d p hd h:=by
  obtain ⟨d1,e1,h'⟩:=Ql h
  clear h
  obtain ⟨rfl,hl⟩:=Q3z e1
  obtain ⟨q,e2,h⟩:=Ql h'
  cases h
  obtain ⟨_,c2,_,_⟩:=Q1k (show Q0Z b n f d1 = .ok (q.1,q.2) from e2)
  simp [putD,c2];omega
 arm n v d p hd h:=by
  obtain ⟨d1,e1,h'⟩:=Ql h
  clear h
  obtain ⟨rfl,hl⟩:=Q3z e1
  obtain ⟨q,e2,h⟩:=Ql h'
  split at h
  ·cases h
  ·cases h
   obtain ⟨_,_,_,p4,_⟩:=Q1H (show Q37 b d1 = .ok (q.1,q.2) from e2)
   simp [putD,p4];omega
theorem QeU {E:Env} {n b:List UInt8} {dep fuel size:Nat} {u:List Q0N} (h:Q3g E n b dep fuel size = .ok u):u.length≤fuel:=by
 obtain ⟨_,hn⟩:=Q5X h
 exact QhO (Qgt b dep fuel) 64 0 n ⟨0,[]⟩ _ (Nat.zero_le _) hn
structure Q0I where
 kind:Int
 n:Int
 s:List UInt8
 at':Int
 len:Int
def toG (x:Q0N):Q0I:=⟨x.kind,x.n,x.s,x.at',x.len⟩
end Go.Proofs.YtmbcibgknckenaaGreatDoor
namespace Go.Proofs.YtmbcibgknckenaaGreatDoor
open Go.RowKit
open Go.MapKept
theorem QhP:(Tryz.prog.info? 226).map (fun i=>(i.zero,i.size,i.bytes))=some (some .nilIface,1,16):=by kernel_rfl
theorem QhQ:(Tryz.prog.info? 222).map (fun i=>(i.zero,i.size,i.bytes))=some (some (.agg #[.int .i64 0,.string ⟨#[]⟩]),2,24):=by kernel_rfl
theorem Q1p {w u:World} {a:CAd} {Fr bs:List (Nat×Obj)} {s:CSt} {sl ks:Value} {cv:List (Qj×Value)} {et:List (List UInt8×NumL×Value)} {v:Value} {x:Qj} (h:Cp w a Fr bs s sl ks cv et u) (hx:Q1W bs v x) (hs:s.code.length < 1000000) :
  Calls Tryz.prog 98 #[.pointer (some ⟨a.C,0,none⟩),v] u fun e u'=>e = .returned (.int .i64 s.code.length)∧∃ sl',Cp w a Fr bs (putM x s) sl' ks (cv++[(x,v)]) et u':=by
 obtain ⟨T,y,rfl⟩:=hx.iface
 obtain ⟨ad,cap,rfl⟩:=h.slice
 obtain ⟨c0,c1,c2,c3,hfz,hlt⟩:=h.cells
 obtain ⟨i0,hi0,hz0,hz1,hz2⟩:=info_parts QhP
 have H:=Hid.mk h
 have HX:=Hid.mk hx
 have hwl:w.heap.size≤u.heap.size:=h.own.kp.size
 have hown5:∀ ob,(u.alloc ob).ownsRow w.heap.size 226 1 (.slice ad s.code.length cap) s.code.length (cv.map (·.2)):=fun ob=>Qp h.row ((Qb.refl [] u).alloc ob) (by simp)
 have hl1:s.code.length + 1≤maxLen:=by unfold maxLen;omega
 have hl2:(s.code.length + 1) * 16≤140737488355328:=by omega
 have hz3:Value.nilIface.cells.size=1:=rfl
 have hbox6:∀ ob u3,(u.alloc ob).grownBy u3 (Value.slice ad s.code.length cap).ownBlock→u3.cell? ⟨a.C,0,none⟩=some (.slice ad s.code.length cap)∧(∀ i,u3.frozen? ⟨a.C,i,none⟩=false)∧a.C < u3.heap.size:=by
  intro ob u3 hg
  have hb:u3.heap[a.C]? = some (.cells #[.slice ad s.code.length cap,.map (some a.B),.map (some a.E),ks] 123):=
   (hg.block _ (by simp;omega) (fun e=>(H.out.distinct.2.2.2.1 _ e.symm).1 rfl)).trans ((((Qb.refl [] u).alloc ob).block _ hlt (by simp)).trans H.out.box)
  refine ⟨?_,?_,Qc hb⟩<;>simp [World.cell?,World.frozen?,hb]
 have H6:=Hid.mk hbox6
 clear h hx hbox6
 go_enter Tryz.func98,Tryz.ntmps98
 go_wp2_with (first
  | (at_builtin;refine wpList_append_lies _ (by rfl) _ _ _ (by rfl) w.heap.size 226 i0 _ 1 16 Tryz.underlying63 hi0 hz0 hz1 hz2 hz3 (by omega) (.slice ad s.code.length cap) s.code.length (cv.map (·.2)) (by rfl) (hown5 _) ⟨u.heap.size,0,none⟩ 1 1 [.iface T y] (by rfl) (by rfl) (World.news_of_block (cs:=#[.iface T y]) (t:=226) (fr:=(0,0)) (heap_alloc_new u _)) (by simp [Value.oneCell']) (by omega) hl1 hl2 (by simp;omega) (u.heap.size + 1) (by simp) ?_;intro g cap' w8 hown8 hgrow hat hlt8;obtain ⟨q0,q1,q2⟩:=H6.out _ _ hgrow))
 go_ret
 have M:=Cp.putCode H.out HX.out ((Below.refl u.heap.size u).alloc (Nat.le_refl _) _) hown8 hgrow (by simpa using hat) hlt8
 exact ⟨by simp,_,M⟩
theorem Q2h {w u:World} {a:CAd} {Fr bs:List (Nat×Obj)} {s:CSt} {sl ks:Value} {cv:List (Qj×Value)} {et:List (List UInt8×NumL×Value)} (h:Cp w a Fr bs s sl ks cv et u) :
  Calls Tryz.prog 95 #[.pointer (some ⟨a.C,0,none⟩)] u fun e u'=>e = .returned (.int .i64 s.code.length)∧u'=u:=by
 obtain ⟨ad,cap,rfl⟩:=h.slice
 obtain ⟨c0,c1,c2,c3,hfz,hlt⟩:=h.cells
 clear h
 go_enter Tryz.func95,Tryz.ntmps95
 go_wp2
 go_ret
 exact ⟨rfl,rfl⟩
abbrev Qju (n:NumL) (m:Value):Array Value:=#[.int .i64 n.low,.int .i64 n.high,m,.bool n.wide]
theorem Q6t (k:Nat):(QL k).mem=none:=by
 unfold QL
 split
 ·rfl
 ·split
  ·rfl
  ·split<;>rfl
theorem Q6u (k:Nat) (w:World):Calls Tryz.prog 141 #[.int .i64 k] w fun e w'=>e = .returned (.agg (Qju (QL k) (.slice none 0 0)))∧Below w.heap.size w w':=by
 have hb:∀ o,Below w.heap.size w (w.alloc o):=fun o=>(Below.refl _ _).alloc (Nat.le_refl _) _
 by_cases h0:k=0
 ·have e0:((k:Int) == 0)=true:=by simp [h0]
  have E:Hid (QL k=⟨-2147483648,2147483647,none,false⟩):=by show _=_;simp [QL,h0]
  clear h0
  go_enter Tryz.func141,Tryz.ntmps141
  go_wp2
  exact bodyPost_ret (v:=.agg #[.int .i64 (-2147483648),.int .i64 2147483647,.slice none 0 0,.bool false]) (by simp [results,Tryz.results141,go_sem]) rfl ⟨by rw [E.out],hb _⟩
 ·have e0:((k:Int) == 0)=false:=by simp;omega
  by_cases h1:k=1
  ·have e1:((k:Int) == 1)=true:=by simp [h1]
   have E:Hid (QL k=⟨0,4294967295,none,false⟩):=by show _=_;simp [QL,h1]
   clear h0 h1
   go_enter Tryz.func141,Tryz.ntmps141
   go_wp2
   exact bodyPost_ret (v:=.agg #[.int .i64 0,.int .i64 4294967295,.slice none 0 0,.bool false]) (by simp [results,Tryz.results141,go_sem]) rfl ⟨by rw [E.out],hb _⟩
  ·have e1:((k:Int) == 1)=false:=by simp;omega
   by_cases h4:k=4
   ·have e4:((k:Int) == 4)=true:=by simp [h4]
    have E:Hid (QL k=⟨0,1,none,false⟩):=by show _=_;simp [QL,h4]
    clear h0 h1 h4
    go_enter Tryz.func141,Tryz.ntmps141
    go_wp2
    exact bodyPost_ret (v:=.agg #[.int .i64 0,.int .i64 1,.slice none 0 0,.bool false]) (by simp [results,Tryz.results141,go_sem]) rfl ⟨by rw [E.out],hb _⟩
   ·have e4:((k:Int) == 4)=false:=by simp;omega
    have E:Hid (QL k=⟨-9223372036854775808,9223372036854775807,none,true⟩):=by show _=_;simp [QL,h0,h1,h4]
    clear h0 h1 h4
    go_enter Tryz.func141,Tryz.ntmps141
    go_wp2
    exact bodyPost_ret (v:=.agg #[.int .i64 (-9223372036854775808),.int .i64 9223372036854775807,.slice none 0 0,.bool true]) (by simp [results,Tryz.results141,go_sem]) rfl ⟨by rw [E.out],hb _⟩
theorem QhR (k:Nat×List UInt8):∀ u∈Q4C k,u.oneCell'=true:=by
 intro u hu
 simp at hu
 rcases hu with rfl | rfl<;>rfl
theorem Cp.kbox {w u u3:World} {a:CAd} {Fr bs:List (Nat×Obj)} {s:CSt} {sl ks:Value} {cv:List (Qj×Value)} {et:List (List UInt8×NumL×Value)} {ob:Obj} (h:Cp w a Fr bs s sl ks cv et u) (hg:(u.alloc ob).grownBy u3 ks.ownBlock) :
  u3.cell? ⟨a.C,3,none⟩=some ks∧(∀ i,u3.frozen? ⟨a.C,i,none⟩=false)∧a.C < u3.heap.size:=by
 have hlt:=Qc h.box
 have hb:u3.heap[a.C]? = some (.cells #[sl,.map (some a.B),.map (some a.E),ks] 123):=
  (hg.block _ (by simp;omega) (fun e=>(h.distinct.2.2.2.2 _ e.symm).1 rfl)).trans ((((Qb.refl [] u).alloc ob).block _ hlt (by simp)).trans h.box)
 refine ⟨?_,?_,Qc hb⟩<;>simp [World.cell?,World.frozen?,hb]
theorem QhS {w u:World} {a:CAd} {Fr bs:List (Nat×Obj)} {s:CSt} {sl ks:Value} {cv:List (Qj×Value)} {et:List (List UInt8×NumL×Value)} (n:List UInt8) (h:Cp w a Fr bs s sl ks cv et u) (hs:s.code.length < 1000000) (hc:s.calls.length < 1000000) :
  Calls Tryz.prog 140 #[.pointer (some ⟨a.C,0,none⟩),.string ⟨n.toArray⟩] u fun e u'=>e = .returned (.tuple #[])∧QC w a Fr bs (Q2k n s) u':=by
 obtain ⟨ad,cap,rfl⟩:=h.kslice
 obtain ⟨c0,c1,c2,c3,hfz,hlt⟩:=h.cells
 obtain ⟨i0,hi0,hz0,hz1,hz2⟩:=info_parts QhQ
 have hbd:Below u.heap.size u u.drew:=(Below.refl _ _).drew
 have HC:=Hid.mk (Q1p (v:=.iface 224 (.agg #[.int .i64 0])) (x:=.call 0) (h.below hbd) rfl hs)
 have hl1:s.calls.length + 1≤maxLen:=by unfold maxLen;omega
 have hl2:(s.calls.length + 1) * 24≤140737488355328:=by omega
 have hz3:(Value.agg #[.int .i64 0,.string ⟨#[]⟩]).cells.size=2:=by decide
 clear h hbd
 go_enter Tryz.func140,Tryz.ntmps140
 go_wp2_with fail
 refine QE (fun w'=>w'.cell? ⟨a.C,3,none⟩=some (.slice ad s.calls.length cap)) (L:=15) (by kernel_rfl) rfl (by kernel_rfl) (by kernel_rfl) ?_ (fun hHeld=>?_)
 ·go_keep
 refine tk (i:=0) (v:=?_) rfl (by kernel_rfl) (fun _ _ _ h=>h) (by rfl) (by assumption) ?_ ?_
 rotate_left
 ·intro w hSw;(try dsimp only at hSw);go_simp;(try with_reducible rfl)
 (try simp only [Qd,Qe,List.set])
 refine tk (i:=1) (v:=?_) rfl (by kernel_rfl) (fun _ _ _ h=>h) (by rfl) (by assumption) ?_ ?_
 rotate_left
 ·intro w hSw;(try dsimp only at hSw);go_simp;(try with_reducible rfl)
 (try simp only [Qd,Qe,List.set])
 refine tk (i:=2) (v:=?_) rfl (by kernel_rfl) (fun _ _ _ h=>h) (by rfl) (by assumption) ?_ ?_
 rotate_left
 ·intro w hSw;(try dsimp only at hSw);go_simp;(try with_reducible rfl)
 (try simp only [Qd,Qe,List.set])
 refine tk (i:=3) (v:=?_) rfl (by kernel_rfl) (fun _ _ _ h=>h) (by rfl) (by assumption) ?_ ?_
 rotate_left
 ·intro w hSw;(try dsimp only at hSw);go_simp;(try with_reducible rfl)
 (try simp only [Qd,Qe,List.set])
 refine tk (i:=4) (v:=?_) rfl (by kernel_rfl) (fun _ _ _ h=>h) (by rfl) (by assumption) ?_ ?_
 rotate_left
 ·intro w hSw;(try dsimp only at hSw);go_simp;(try with_reducible rfl)
 (try simp only [Qd,Qe,List.set])
 refine tk (i:=5) (v:=?_) rfl (by kernel_rfl) (fun _ _ _ h=>h) (by rfl) (by assumption) ?_ ?_
 rotate_left
 ·intro w hSw;(try dsimp only at hSw);go_simp;(try with_reducible rfl)
 (try simp only [Qd,Qe,List.set])
 refine tk (i:=6) (v:=?_) rfl (by kernel_rfl) (fun _ _ _ h=>h) (by rfl) (by assumption) ?_ ?_
 rotate_left
 ·intro w hSw;(try dsimp only at hSw);go_simp;(try with_reducible rfl)
 (try simp only [Qd,Qe,List.set])
 refine tk (i:=7) (v:=?_) rfl (by kernel_rfl) (fun _ _ _ h=>h) (by rfl) (by assumption) ?_ ?_
 rotate_left
 ·intro w hSw;(try dsimp only at hSw);go_simp;(try with_reducible rfl)
 (try simp only [Qd,Qe,List.set])
 refine tk (i:=9) (v:=?_) rfl (by kernel_rfl) (fun _ _ _ h=>h) (by rfl) (by assumption) ?_ ?_
 rotate_left
 ·intro w hSw;(try dsimp only at hSw);go_simp;(try with_reducible rfl)
 (try simp only [Qd,Qe,List.set])
 refine wpAnyH_ready (rs:=[8]) (by kernel_rfl) (by simp) ?_
 refine AllReadyH.cons rfl (fun K hK=>?_) AllReadyH.nil
 (go_simp;go_at_call 98;refine HC.out.mono ?_;rintro e w5 ⟨rfl,sl5,M5⟩;have M5:=Hid.mk M5;have hc5:w5.cell? ⟨a.C,3,none⟩=some (.slice ad s.calls.length cap):=M5.out.cells.2.2.2.1;have hwl:w.heap.size≤w5.heap.size:=M5.out.own.kp.size;have hlt5:a.C < w5.heap.size:=M5.out.cells.2.2.2.2.2)
 refine hK.out _ _ ?_ (fun hHeld=>?_)
 ·go_keep
 clear hK K
 (try simp only [Qd,Qe,List.set])
 refine tk (i:=10) (v:=?_) rfl (by kernel_rfl) (fun _ _ _ h=>h) (by rfl) (by assumption) ?_ ?_
 rotate_left
 ·intro w hSw;(try dsimp only at hSw);go_simp;(try with_reducible rfl)
 (try simp only [Qd,Qe,List.set])
 refine wpAnyH_ready (rs:=[11]) (by kernel_rfl) (by simp) ?_
 refine AllReadyH.cons rfl (fun K hK=>?_) AllReadyH.nil
 go_simp
 refine hK.out _ _ ?_ (fun hHeld=>?_)
 ·go_keep
 clear hK K
 (try simp only [Qd,Qe,List.set])
 refine wpAnyH_ready (rs:=[12]) (by kernel_rfl) (by simp) ?_
 refine AllReadyH.cons rfl (fun K hK=>?_) AllReadyH.nil
 (refine step_append_lies _ (by rfl) _ _ _ (by rfl) w.heap.size 222 i0 _ 2 24 Tryz.underlying121 hi0 hz0 hz1 hz2 hz3 (by omega) (.slice ad s.calls.length cap) s.calls.length (s.calls.flatMap Q4C) (by rfl) (Qp M5.out.kro ((Qb.refl [] w5).alloc _) (by simp)) ⟨w5.heap.size,0,none⟩ 1 1 (Q4C (s.code.length,n)) (by rfl) (by rfl) (World.news_of_block (cs:=(Q4C (s.code.length,n)).toArray) (t:=222) (fr:=(0,0)) (heap_alloc_new w5 _)) (QhR _) (by omega) hl1 hl2 (by simp;omega) (w5.heap.size + 1) (by simp) ?_;intro g cap' w6 hown6 hgrow hat hlt;obtain ⟨q0,q1,q2⟩:=M5.out.kbox hgrow)
 refine hK.out _ _ ?_ (fun hHeld=>?_)
 ·go_keep
 clear hK K
 (try simp only [Qd,Qe,List.set])
 refine tk (i:=13) (v:=?_) rfl (by kernel_rfl) (fun _ _ _ h=>h) (by rfl) (by assumption) ?_ ?_
 rotate_left
 ·intro w hSw;(try dsimp only at hSw);go_simp;(try with_reducible rfl)
 (try simp only [Qd,Qe,List.set])
 refine tk (i:=14) (v:=?_) rfl (by kernel_rfl) (fun _ _ _ h=>h) (by rfl) (by assumption) ?_ ?_
 rotate_left
 ·intro w hSw;(try dsimp only at hSw);go_simp;(try with_reducible rfl)
 (try simp only [Qd,Qe,List.set])
 refine wpAnyH_done (by kernel_rfl) ?_ _
 refine QK rfl (fun K hK=>?_)
 go_simp
 refine hK.out _ _ ?_
 clear hK K
 (try simp only [Qd,Qe,List.set])
 have M6:=Cp.putCall (k:=(s.code.length,n)) M5.out ((Below.refl w5.heap.size w5).alloc (Nat.le_refl _) _) hown6 hgrow (by simpa using hat) hlt
 go_wp2
 go_end0
 exact ⟨rfl,M6.gives⟩
theorem Q6v (bs:List (Nat×Obj)) {n:NumL} (h:n.mem=none):Q1u bs [.int .i64 n.low,.int .i64 n.high,.slice none 0 0,.bool n.wide] n:=⟨.slice none 0 0,rfl,by rw [h];rfl,_,_,_,rfl⟩
structure Room (s:CSt) (n:Nat):Prop where
 code:s.code.length + n < 1000000
 calls:s.calls.length≤s.code.length
theorem Room.put {s:CSt} {n:Nat} (h:Room s (n + 1)) (x:Qj):Room (putM x s) n:=⟨by simp [putM];have:=h.code;omega,by simp [putM];have:=h.calls;omega⟩
theorem Room.call {s:CSt} {n:Nat} (h:Room s (n + 1)) (t:List UInt8):Room (Q2k t s) n:=⟨by simp [Q2k];have:=h.code;omega,by simp [Q2k];have:=h.calls;omega⟩
theorem Room.less {s:CSt} {n m:Nat} (h:Room s n) (hm:m≤n):Room s m:=⟨by have:=h.code;omega,h.calls⟩
theorem Room.set {s:CSt} {n:Nat} (h:Room s n) (i:Nat) (x:Qj):Room (setM i x s) n:=⟨by simpa [setM] using h.code,by simpa [setM] using h.calls⟩
theorem Room.value (t:Ty):∀ {s:CSt} {n:Nat},Room s (n + QS t)→Room (QR t s) n:=by
 induction t with
 | named t a=>intro s n h;exact h.call t
 | plain k=>intro s n h;exact h.put _
 | opaq k f=>intro s n h;exact h.put _
 | str k f=>intro s n h;exact h.put _
 | void=>intro s n h;exact h
 | arr o k f ih=>intro s n h;exact (Room.put (ih (Room.put (Room.less h (by simp only [QS];omega)) _)) _).set _ _
 | opt o ih=>intro s n h;exact (ih (Room.put (Room.less h (by simp only [QS];omega)) _)).set _ _
theorem Qdi {w u:World} {a:CAd} {Fr bs:List (Nat×Obj)} {s:CSt} {sl ks:Value} {cv:List (Qj×Value)} {et:List (List UInt8×NumL×Value)} (t:List UInt8) (p:Nat) (h:Cp w a Fr bs s sl ks cv et u) (hr:Room s 1) :
  Calls Tryz.prog 96 #[.pointer (some ⟨a.C,0,none⟩),.iface 213 (.agg #[.string ⟨t.toArray⟩,.int .i64 p])] u fun e u'=>e = .returned (.tuple #[])∧QC w a Fr bs (Q2k t s) u':=by
 have t0:∀ W,(Instr.typeAssert (.iface 213 (.agg #[.string ⟨t.toArray⟩,.int .i64 p])) 193 213 true).run Tryz.prog W = .ok (.tuple #[.agg #[.string ⟨t.toArray⟩,.int .i64 p],.bool true]) W:=fun W=>by kernel_rfl
 have hr1:=hr.code
 have hr2:=hr.calls
 have hb:∀ o,Below u.heap.size u (u.alloc o):=fun o=>(Below.refl _ _).alloc (Nat.le_refl _) _
 have H:=Hid.mk h
 clear h
 go_enter Tryz.func96,Tryz.ntmps96
 go_wp2_with fail
 refine (QhS t (H.out.below (hb _)) (by omega) (by omega)).mono ?_
 rintro e w2 ⟨rfl,M2⟩
 go_wp2
 go_end0
 exact ⟨rfl,M2⟩
theorem Qdj {w u:World} {a:CAd} {Fr bs:List (Nat×Obj)} {s:CSt} {sl ks:Value} {cv:List (Qj×Value)} {et:List (List UInt8×NumL×Value)} (k:Nat) (h:Cp w a Fr bs s sl ks cv et u) (hr:Room s 1) :
  Calls Tryz.prog 96 #[.pointer (some ⟨a.C,0,none⟩),.iface 301 (.agg #[.int .i64 k])] u fun e u'=>e = .returned (.tuple #[])∧QC w a Fr bs (putM (.num (QL k)) s) u':=by
 have t0:∀ W,(Instr.typeAssert (.iface 301 (.agg #[.int .i64 k])) 193 213 true).run Tryz.prog W = .ok (.tuple #[.agg #[.string ⟨#[]⟩,.int .i64 0],.bool false]) W:=fun W=>by kernel_rfl
 have t1:∀ W,(Instr.typeAssert (.iface 301 (.agg #[.int .i64 k])) 193 301 true).run Tryz.prog W = .ok (.tuple #[.agg #[.int .i64 k],.bool true]) W:=fun W=>by kernel_rfl
 have hr1:=hr.code
 have hr2:=hr.calls
 have hb:∀ o,Below u.heap.size u (u.alloc o):=fun o=>(Below.refl _ _).alloc (Nat.le_refl _) _
 have H:=Hid.mk h
 clear h
 go_enter Tryz.func96,Tryz.ntmps96
 go_wp2_with fail
 refine (Q6u k _).mono ?_
 rintro e w2 ⟨rfl,hb2⟩
 have M2:=(H.out.below (hb _)).below hb2
 go_wp2_with fail
 refine (Q1p (v:=.iface 200 (.agg (Qju (QL k) (.slice none 0 0)))) (x:=.num (QL k)) M2 ⟨[.int .i64 (QL k).low,.int .i64 (QL k).high,.slice none 0 0,.bool (QL k).wide],rfl,Q6v _ (Q6t k)⟩ (by omega)).mono ?_
 rintro e w3 ⟨rfl,sl3,M3⟩
 go_wp2
 go_end0
 exact ⟨rfl,M3.gives⟩
theorem QeV {w u:World} {a:CAd} {Fr bs:List (Nat×Obj)} {s:CSt} {sl ks:Value} {cv:List (Qj×Value)} {et:List (List UInt8×NumL×Value)} (n:Int) (f:Bool) (h:Cp w a Fr bs s sl ks cv et u) (hr:Room s 1) :
  Calls Tryz.prog 96 #[.pointer (some ⟨a.C,0,none⟩),.iface 306 (.agg #[.int .i64 n,.bool f])] u fun e u'=>e = .returned (.tuple #[])∧QC w a Fr bs (putM (.text n f) s) u':=by
 have t0:∀ W,(Instr.typeAssert (.iface 306 (.agg #[.int .i64 n,.bool f])) 193 213 true).run Tryz.prog W = .ok (.tuple #[.agg #[.string ⟨#[]⟩,.int .i64 0],.bool false]) W:=fun W=>by kernel_rfl
 have t1:∀ W,(Instr.typeAssert (.iface 306 (.agg #[.int .i64 n,.bool f])) 193 301 true).run Tryz.prog W = .ok (.tuple #[.agg #[.int .i64 0],.bool false]) W:=fun W=>by kernel_rfl
 have t2:∀ W,(Instr.typeAssert (.iface 306 (.agg #[.int .i64 n,.bool f])) 193 306 true).run Tryz.prog W = .ok (.tuple #[.agg #[.int .i64 n,.bool f],.bool true]) W:=fun W=>by kernel_rfl
 have hr1:=hr.code
 have hr2:=hr.calls
 have hb:∀ o,Below u.heap.size u (u.alloc o):=fun o=>(Below.refl _ _).alloc (Nat.le_refl _) _
 have H:=Hid.mk h
 clear h
 go_enter Tryz.func96,Tryz.ntmps96
 go_wp2_with fail
 refine (Q1p (x:=.text n f) (H.out.below (hb _)) rfl (by omega)).mono ?_
 rintro e w3 ⟨rfl,sl3,M3⟩
 go_wp2
 go_end0
 exact ⟨rfl,M3.gives⟩
theorem Qgu {w u:World} {a:CAd} {Fr bs:List (Nat×Obj)} {s:CSt} {sl ks:Value} {cv:List (Qj×Value)} {et:List (List UInt8×NumL×Value)} (n:Int) (f:Bool) (h:Cp w a Fr bs s sl ks cv et u) (hr:Room s 1) :
  Calls Tryz.prog 96 #[.pointer (some ⟨a.C,0,none⟩),.iface 309 (.agg #[.int .i64 n,.bool f])] u fun e u'=>e = .returned (.tuple #[])∧QC w a Fr bs (putM (.text n f) s) u':=by
 have t0:∀ W,(Instr.typeAssert (.iface 309 (.agg #[.int .i64 n,.bool f])) 193 213 true).run Tryz.prog W = .ok (.tuple #[.agg #[.string ⟨#[]⟩,.int .i64 0],.bool false]) W:=fun W=>by kernel_rfl
 have t1:∀ W,(Instr.typeAssert (.iface 309 (.agg #[.int .i64 n,.bool f])) 193 301 true).run Tryz.prog W = .ok (.tuple #[.agg #[.int .i64 0],.bool false]) W:=fun W=>by kernel_rfl
 have t2:∀ W,(Instr.typeAssert (.iface 309 (.agg #[.int .i64 n,.bool f])) 193 306 true).run Tryz.prog W = .ok (.tuple #[.agg #[.int .i64 0,.bool false],.bool false]) W:=fun W=>by kernel_rfl
 have t3:∀ W,(Instr.typeAssert (.iface 309 (.agg #[.int .i64 n,.bool f])) 193 309 true).run Tryz.prog W = .ok (.tuple #[.agg #[.int .i64 n,.bool f],.bool true]) W:=fun W=>by kernel_rfl
 have hr1:=hr.code
 have hr2:=hr.calls
 have hb:∀ o,Below u.heap.size u (u.alloc o):=fun o=>(Below.refl _ _).alloc (Nat.le_refl _) _
 have H:=Hid.mk h
 clear h
 go_enter Tryz.func96,Tryz.ntmps96
 go_wp2_with fail
 refine (Q1p (x:=.text n f) (H.out.below (hb _)) rfl (by omega)).mono ?_
 rintro e w3 ⟨rfl,sl3,M3⟩
 go_wp2
 go_end0
 exact ⟨rfl,M3.gives⟩
theorem QeW {w u:World} {a:CAd} {Fr bs:List (Nat×Obj)} {s:CSt} {sl ks:Value} {cv:List (Qj×Value)} {et:List (List UInt8×NumL×Value)}  (h:Cp w a Fr bs s sl ks cv et u) (hr:Room s 1) :
  Calls Tryz.prog 96 #[.pointer (some ⟨a.C,0,none⟩),.iface 340 (.agg #[])] u fun e u'=>e = .returned (.tuple #[])∧QC w a Fr bs (s) u':=by
 have t0:∀ W,(Instr.typeAssert (.iface 340 (.agg #[])) 193 213 true).run Tryz.prog W = .ok (.tuple #[.agg #[.string ⟨#[]⟩,.int .i64 0],.bool false]) W:=fun W=>by kernel_rfl
 have t1:∀ W,(Instr.typeAssert (.iface 340 (.agg #[])) 193 301 true).run Tryz.prog W = .ok (.tuple #[.agg #[.int .i64 0],.bool false]) W:=fun W=>by kernel_rfl
 have t2:∀ W,(Instr.typeAssert (.iface 340 (.agg #[])) 193 306 true).run Tryz.prog W = .ok (.tuple #[.agg #[.int .i64 0,.bool false],.bool false]) W:=fun W=>by kernel_rfl
 have t3:∀ W,(Instr.typeAssert (.iface 340 (.agg #[])) 193 309 true).run Tryz.prog W = .ok (.tuple #[.agg #[.int .i64 0,.bool false],.bool false]) W:=fun W=>by kernel_rfl
 have t4:∀ W,(Instr.typeAssert (.iface 340 (.agg #[])) 193 311 true).run Tryz.prog W = .ok (.tuple #[.agg #[.nilIface,.int .i64 0,.bool false],.bool false]) W:=fun W=>by kernel_rfl
 have t5:∀ W,(Instr.typeAssert (.iface 340 (.agg #[])) 193 314 true).run Tryz.prog W = .ok (.tuple #[.agg #[.nilIface],.bool false]) W:=fun W=>by kernel_rfl
 have hr1:=hr.code
 have hr2:=hr.calls
 have H:=Hid.mk h
 clear h
 go_enter Tryz.func96,Tryz.ntmps96
 go_wp2
 go_end0
 exact ⟨rfl,H.out.gives⟩
theorem Q38 {w u:World} {a:CAd} {Fr bs:List (Nat×Obj)} {s:CSt} {sl ks:Value} {cv:List (Qj×Value)} {et:List (List UInt8×NumL×Value)} {t:Ty} (hf:Flat t) (h:Cp w a Fr bs s sl ks cv et u) (hr:Room s 1) :
  Calls Tryz.prog 96 #[.pointer (some ⟨a.C,0,none⟩),tyV t] u fun e u'=>e = .returned (.tuple #[])∧QC w a Fr bs (QR t s) u':=by
 cases t with
 | named t p=>exact Qdi t p h hr
 | plain k=>exact Qdj k h hr
 | opaq n f=>exact QeV n f h hr
 | str n f=>exact Qgu n f h hr
 | void=>exact QeW h hr
 | arr o n f=>exact absurd hf (by simp [Flat])
 | opt o=>exact absurd hf (by simp [Flat])
theorem Q5Y (x:Qj) (s:CSt):(putM x s).code.length=s.code.length + 1:=by simp [putM]
theorem QC.more {w u:World} {a:CAd} {Fr bs bs':List (Nat×Obj)} {s:CSt} (hb:∀ p∈bs,p∈bs') (h:QC w a Fr bs' s u):QC w a Fr bs s u:=by
 obtain ⟨b,sl,ks,cv,et,h1,h2⟩:=h
 exact ⟨b,sl,ks,cv,et,fun p hp=>h1 p (hb p hp),h2⟩
theorem QC.tail {w u:World} {a:CAd} {p:Nat×Obj} {Fr bs:List (Nat×Obj)} {s:CSt} (h:QC w a (p :: Fr) bs s u):QC w a Fr bs s u:=by
 obtain ⟨b,sl,ks,cv,et,h1,h2⟩:=h
 exact ⟨b,sl,ks,cv,et,h1,h2.tail⟩
theorem Qgv {w u:World} {a:CAd} {Fr bs:List (Nat×Obj)} {s:CSt} {sl ks:Value} {cv:List (Qj×Value)} {et:List (List UInt8×NumL×Value)} {o:Ty} (n:Int) (f:Bool) (hf:Flat o) (h:Cp w a Fr bs s sl ks cv et u) (hr:Room s 3) :
  Calls Tryz.prog 142 #[.pointer (some ⟨a.C,0,none⟩),.agg #[tyV o,.int .i64 n,.bool f]] u fun e u'=>e = .returned (.tuple #[])∧QC w a Fr bs (QR (.arr o n f) s) u':=by
 have M0:=h.alloc (.cells #[tyV o,.int .i64 n,.bool f] 311)
 have hr0:=hr.code
 have hr1:Room (putM .hole s) 2:=hr.put _
 have hc:QS o≤1:=by cases o<;>simp [Flat,QS] at *
 have hvl:=Q1L o (putM .hole s)
 have hpl:(putM .hole s).code.length=s.code.length + 1:=by simp [putM]
 obtain ⟨T,x,hT⟩:=Q07 o
 have HT:=Hid.mk hT
 rw [hT] at M0 ⊢
 clear h
 go_enter Tryz.func142,Tryz.ntmps142
 go_wp2_with fail
 refine (Q1p (v:=.iface 345 (.agg #[.int .i64 0,.bool false,.int .i64 0])) (x:=.hole) M0 ⟨_,_,rfl⟩ (by omega)).mono ?_
 rintro e w1 ⟨rfl,sl1,M1⟩
 obtain ⟨b0,b1,b2,bf⟩:=Q0f (M1.own.hf _ List.mem_cons_self).1
 go_wp2_with fail
 have V:=Q38 hf M1 (hr1.less (by omega))
 rw [HT.out] at V
 refine V.mono ?_
 rintro e w2 ⟨rfl,bs2,sl2,ks2,cv2,et2,hb2,M2⟩
 clear V M1 b0 b1 b2 bf
 go_wp2_with fail
 refine (Q1p (v:=.iface 346 (.agg #[])) (x:=.again) M2 rfl (by rw [hvl,hpl];omega)).mono ?_
 rintro e w3 ⟨rfl,sl3,M3⟩
 clear M2
 obtain ⟨b0,b1,b2,bf⟩:=Q0f (M3.own.hf _ List.mem_cons_self).1
 have hlen:(putM .again (QR o (putM .hole s))).code.length=s.code.length + QS o + 2:=by rw [Q5Y,hvl,hpl];omega
 obtain ⟨c0,c1,c2,c3,hfz,hlt⟩:=M3.cells
 obtain ⟨g,cap,rfl,hcap,hfr,⟨y,hy⟩,hg,M4⟩:=Cp.setCode (i:=s.code.length) (x:=.array n f ((QR o (putM .hole s)).code.length + 1)) (v:=.iface 345 (.agg #[.int .i64 n,.bool f,.int .i64 ((putM .again (QR o (putM .hole s))).code.length:Int)])) (M3.below (Below.refl _ _).drew) (by simp [Q1W,putM]) (by rw [hlen];omega)
 have M4:=Hid.mk M4
 have HH:=Hid.mk (Q2h (M3.below (Below.refl _ _).drew))
 have hidx:(s.code.length:Int) < ((putM .again (QR o (putM .hole s))).code.length:Int):=by rw [hlen];omega
 have HB2:=Hid.mk hb2
 clear M3 hb2 hlen hvl hpl
 generalize hL:(putM .again (QR o (putM .hole s))).code.length=L at *
 clear hL
 go_wp2_with fail
 refine QE (fun w'=>w'.cell? ⟨a.C,0,none⟩=some (.slice (some ⟨g,0,none⟩) L cap)∧w'.cell? ⟨u.heap.size,1,none⟩=some (.int .i64 n)∧w'.cell? ⟨u.heap.size,2,none⟩=some (.bool f)) (L:=12) (by kernel_rfl) rfl (by kernel_rfl) (by kernel_rfl) ?_ (fun hHeld=>?_)
 ·go_keep
 refine tk (i:=0) (v:=?_) rfl (by kernel_rfl) (fun _ _ _ h=>h) (by rfl) (by assumption) ?_ ?_
 rotate_left
 ·intro w hSw;(try dsimp only at hSw);go_simp;(try with_reducible rfl)
 (try simp only [Qd,Qe,List.set])
 refine tk (i:=1) (v:=?_) rfl (by kernel_rfl) (fun _ _ _ h=>h) (by rfl) (by assumption) ?_ ?_
 rotate_left
 ·intro w hSw;(try dsimp only at hSw);go_simp;(try with_reducible rfl)
 (try simp only [Qd,Qe,List.set])
 refine tk (i:=2) (v:=?_) rfl (by kernel_rfl) (fun _ _ _ h=>h) (by rfl) (by assumption) ?_ ?_
 rotate_left
 ·intro w hSw;(try dsimp only at hSw);go_simp;(try with_reducible rfl)
 (try simp only [Qd,Qe,List.set])
 refine tk (i:=3) (v:=?_) rfl (by kernel_rfl) (fun _ _ _ h=>h) (by rfl) (by assumption) ?_ ?_
 rotate_left
 ·intro w hSw;(try dsimp only at hSw);go_simp;(try with_reducible rfl)
 (try simp only [Qd,Qe,List.set])
 refine tk (i:=4) (v:=?_) rfl (by kernel_rfl) (fun _ _ _ h=>h) (by rfl) (by assumption) ?_ ?_
 rotate_left
 ·intro w hSw;(try dsimp only at hSw);go_simp;(try with_reducible rfl)
 (try simp only [Qd,Qe,List.set])
 refine tk (i:=5) (v:=?_) rfl (by kernel_rfl) (fun _ _ _ h=>h) (by rfl) (by assumption) ?_ ?_
 rotate_left
 ·intro w hSw;(try dsimp only at hSw);go_simp;(try with_reducible rfl)
 (try simp only [Qd,Qe,List.set])
 refine tk (i:=6) (v:=?_) rfl (by kernel_rfl) (fun _ _ _ h=>h) (by rfl) (by assumption) ?_ ?_
 rotate_left
 ·intro w hSw;(try dsimp only at hSw);go_simp;(try with_reducible rfl)
 (try simp only [Qd,Qe,List.set])
 refine tk (i:=7) (v:=?_) rfl (by kernel_rfl) (fun _ _ _ h=>h) (by rfl) (by assumption) ?_ ?_
 rotate_left
 ·intro w hSw;(try dsimp only at hSw);go_simp;(try with_reducible rfl)
 (try simp only [Qd,Qe,List.set])
 refine wpAnyH_ready (rs:=[8]) (by kernel_rfl) (by simp) ?_
 refine AllReadyH.cons rfl (fun K hK=>?_) AllReadyH.nil
 (go_simp;go_at_call 95;refine HH.out.mono ?_;rintro e w5 ⟨rfl,rfl⟩)
 refine hK.out _ _ ?_ (fun hHeld=>?_)
 ·go_keep
 clear hK K
 (try simp only [Qd,Qe,List.set])
 refine tk (i:=9) (v:=?_) rfl (by kernel_rfl) (fun _ _ _ h=>h) (by rfl) (by assumption) ?_ ?_
 rotate_left
 ·intro w hSw;(try dsimp only at hSw);go_simp;(try with_reducible rfl)
 (try simp only [Qd,Qe,List.set])
 refine tk (i:=10) (v:=?_) rfl (by kernel_rfl) (fun _ _ _ h=>h) (by rfl) (by assumption) ?_ ?_
 rotate_left
 ·intro w hSw;(try dsimp only at hSw);go_simp;(try with_reducible rfl)
 (try simp only [Qd,Qe,List.set])
 refine tk (i:=11) (v:=?_) rfl (by kernel_rfl) (fun _ _ _ h=>h) (by rfl) (by assumption) ?_ ?_
 rotate_left
 ·intro w hSw;(try dsimp only at hSw);go_simp;(try with_reducible rfl)
 (try simp only [Qd,Qe,List.set])
 refine wpAnyH_done (by kernel_rfl) ?_ _
 refine QK rfl (fun K hK=>?_)
 go_simp
 refine hK.out _ _ ?_
 clear hK K
 (try simp only [Qd,Qe,List.set])
 go_wp2
 go_end0
 exact ⟨rfl,(QC.more HB2.out M4.out.gives).tail⟩
theorem Q8X {W:World} {m:Nat} {l:List (Int×Nat×Nat)} (hb:W.heap[m]? = some (Q12 l)) (nd:(l.map (·.1)).Nodup) (k:Int) (p q:Nat) :
  (Instr.mapUpdate 318 (.map (some m)) (.int .i64 k) (.agg #[.int .i64 p,.int .i64 q])).run Tryz.prog W = .ok () (putObj W m (Q12 (mput l k (p,q)))):=
 Q31 (P:=Tryz.prog) (T:=318) (kt:=2) (et:=323) (d:=.int .i64) (by kernel_rfl) (by kernel_rfl) (fun k:Int=>.int .i64 k) (fun q:Nat×Nat=>.agg #[.int .i64 q.1,.int .i64 q.2]) (fun _=>rfl) (fun _=>Qgc _) QdO hb nd k (p,q)
theorem Qce (w:World):Calls Tryz.prog 141 #[.int .i64 4] w fun e w'=>e = .returned (.agg #[.int .i64 0,.int .i64 1,.slice none 0 0,.bool false])∧Below w.heap.size w w':=Q6u 4 w
theorem QhT (w:World) (o:Obj):w.heap.size < (w.alloc o).heap.size:=by simp
theorem Qcf {w u:World} {a:CAd} {Fr bs:List (Nat×Obj)} {s:CSt} {sl ks:Value} {cv:List (Qj×Value)} {et:List (List UInt8×NumL×Value)} {o:Ty} (hf:Flat o) (h:Cp w a Fr bs s sl ks cv et u) (hr:Room s 2) :
  Calls Tryz.prog 143 #[.pointer (some ⟨a.C,0,none⟩),.agg #[tyV o]] u fun e u'=>e = .returned (.tuple #[])∧QC w a Fr bs (QR (.opt o) s) u':=by
 have hmm:∀ (t:TypeId) (w:World),(Instr.makeMap t none).run Tryz.prog w = .ok (.map (some w.heap.size)) (w.alloc (.map #[] 0)):=fun _ _=>rfl
 have M0:=h.alloc (.cells #[tyV o] 314)
 have hr0:=hr.code
 have hr1:Room (putM .hole s) 1:=hr.put _
 have hc:QS o≤1:=by cases o<;>simp [Flat,QS] at *
 have hvl:=Q1L o (putM .hole s)
 have hpl:(putM .hole s).code.length=s.code.length + 1:=by simp [putM]
 obtain ⟨T,x,hT⟩:=Q07 o
 have HT:=Hid.mk hT
 rw [hT] at M0 ⊢
 clear h
 go_enter Tryz.func143,Tryz.ntmps143
 go_wp2_with fail
 refine (Q1p (v:=.iface 321 (.agg #[.int .i64 0,.int .i64 0,.slice none 0 0,.bool false,.map none,.pointer none])) (x:=.hole) M0 ⟨_,_,rfl⟩ (by omega)).mono ?_
 rintro e w1 ⟨rfl,sl1,M1⟩
 have b0:=Qv (M1.own.hf _ List.mem_cons_self).1
 go_wp2_with fail
 have V:=Q38 hf M1 (hr1.less (by omega))
 rw [HT.out] at V
 refine V.mono ?_
 rintro e w2 ⟨rfl,bs2,sl2,ks2,cv2,et2,hb2,M2⟩
 clear V M1 b0
 have hlen:(QR o (putM .hole s)).code.length=s.code.length + 1 + QS o:=by rw [hvl,hpl]
 have N0:=M2.alloc (.map #[] 0)
 have p1:=Q8X (W:=w2.alloc (.map #[] 0)) (m:=w2.heap.size) (l:=[]) (Qg rfl) (by simp) 0 (QR o (putM .hole s)).code.length 0
 obtain ⟨W1,hW1⟩:∃ W1,W1=putObj (w2.alloc (.map #[] 0)) w2.heap.size (Q12 (mput [] 0 ((QR o (putM .hole s)).code.length,0))):=⟨_,rfl⟩
 have k1:Qb [w2.heap.size] (w2.alloc (.map #[] 0)) W1:=by rw [hW1];exact Q08 _ _ _
 have q1:W1.heap[w2.heap.size]? = some (Q12 [(0,(QR o (putM .hole s)).code.length,0)]):=by rw [hW1];exact Q1l (QhT _ _) _
 have N1:=N0.setFr k1 q1
 rw [← hW1,show (((0:Nat)):Int)=0 from rfl] at p1
 have p2:=Q8X (W:=W1) (m:=w2.heap.size) q1 (by simp) 1 (s.code.length + 1) 1
 obtain ⟨W2,hW2⟩:∃ W2,W2=putObj W1 w2.heap.size (Q12 (mput [(0,(QR o (putM .hole s)).code.length,0)] 1 (s.code.length + 1,1))):=⟨_,rfl⟩
 have k2:Qb [w2.heap.size] W1 W2:=by rw [hW2];exact Q08 _ _ _
 have q2:W2.heap[w2.heap.size]? = some (Q12 [(0,(QR o (putM .hole s)).code.length,0),(1,s.code.length + 1,1)]):=by rw [hW2];exact Q1l (Qc q1) _
 have N2:=(N1.setFr k2 q2).give
 rw [← hW2,show (((1:Nat)):Int)=1 from rfl] at p2
 rw [show (((s.code.length + 1:Nat)):Int)=(s.code.length:Int) + 1 by omega] at p2
 have HH:=Hid.mk (Q2h N0)
 obtain ⟨c0,c1,c2,c3,hfz,hlt⟩:=N2.cells
 obtain ⟨ad,cap,rfl⟩:=N2.slice
 have hidx:(s.code.length:Int) < ((QR o (putM .hole s)).code.length:Int):=by rw [hlen];omega
 have hidn:s.code.length < (QR o (putM .hole s)).code.length:=by omega
 have N2:=Hid.mk N2
 have HB2:=Hid.mk hb2
 have hs63:s.code.length < 1000000:=by omega
 clear N0 N1 M2 hb2 q1 q2 k1 k2 hW1 hW2 hlen hvl hpl
 generalize hL:(QR o (putM .hole s)).code.length=L at *
 go_wp2_with fail
 refine HH.out.mono ?_
 rintro e w5 ⟨rfl,rfl⟩
 go_wp2_with fail
 refine QE (fun w'=>w'.cell? ⟨a.C,0,none⟩=some (.slice ad L cap)) (L:=10) (by kernel_rfl) rfl (by kernel_rfl) (by kernel_rfl) ?_ (fun hHeld=>?_)
 ·go_keep
 refine tk (i:=0) (v:=?_) rfl (by kernel_rfl) (fun _ _ _ h=>h) (by rfl) (by assumption) ?_ ?_
 rotate_left
 ·intro w hSw;(try dsimp only at hSw);go_simp;(try with_reducible rfl)
 (try simp only [Qd,Qe,List.set])
 refine tk (i:=1) (v:=?_) rfl (by kernel_rfl) (fun _ _ _ h=>h) (by rfl) (by assumption) ?_ ?_
 rotate_left
 ·intro w hSw;(try dsimp only at hSw);go_simp;(try with_reducible rfl)
 (try simp only [Qd,Qe,List.set])
 refine tk (i:=2) (v:=?_) rfl (by kernel_rfl) (fun _ _ _ h=>h) (by rfl) (by assumption) ?_ ?_
 rotate_left
 ·intro w hSw;(try dsimp only at hSw);go_simp;(try with_reducible rfl)
 (try simp only [Qd,Qe,List.set])
 refine tk (i:=3) (v:=?_) rfl (by kernel_rfl) (fun _ _ _ h=>h) (by rfl) (by assumption) ?_ ?_
 rotate_left
 ·intro w hSw;(try dsimp only at hSw);go_simp;(try with_reducible rfl)
 (try simp only [Qd,Qe,List.set])
 refine tk (i:=4) (v:=?_) rfl (by kernel_rfl) (fun _ _ _ h=>h) (by rfl) (by assumption) ?_ ?_
 rotate_left
 ·intro w hSw;(try dsimp only at hSw);go_simp;(try with_reducible rfl)
 (try simp only [Qd,Qe,List.set])
 refine tk (i:=6) (v:=?_) rfl (by kernel_rfl) (fun _ _ _ h=>h) (by rfl) (by assumption) ?_ ?_
 rotate_left
 ·intro w hSw;(try dsimp only at hSw);go_simp;(try with_reducible rfl)
 (try simp only [Qd,Qe,List.set])
 refine wpAnyH_ready (rs:=[5]) (by kernel_rfl) (by simp) ?_
 refine AllReadyH.cons rfl (fun K hK=>?_) AllReadyH.nil
 (go_simp;go_at_call 141;refine (Qce _).mono ?_;rintro e w6 ⟨rfl,hb6⟩;have N3:=(N2.out.below (Below.refl _ _).drew).below hb6;have hc6:=N3.cells.1;obtain ⟨g,cap',hsl,hcap,hfr,⟨y,hy⟩,hg,N4⟩:=Cp.setCode (i:=s.code.length) (x:=.choice (QL 4) [(0,L,0),(1,s.code.length + 1,1)] none) (v:=.iface 321 (.agg #[.int .i64 0,.int .i64 1,.slice none 0 0,.bool false,.map (some w2.heap.size),.pointer none])) N3 ⟨[.int .i64 0,.int .i64 1,.slice none 0 0,.bool false],w2.heap.size,.pointer none,rfl,Q6v (n:=QL 4) _ (Q6t 4),by simp,rfl⟩ (by rw [hL];exact hidn);have N4:=Hid.mk N4;clear N3;cases hsl)
 refine hK.out _ _ ?_ (fun hHeld=>?_)
 ·go_keep
 clear hK K
 (try simp only [Qd,Qe,List.set])
 refine tk (i:=7) (v:=?_) rfl (by kernel_rfl) (fun _ _ _ h=>h) (by rfl) (by assumption) ?_ ?_
 rotate_left
 ·intro w hSw;(try dsimp only at hSw);go_simp;(try with_reducible rfl)
 (try simp only [Qd,Qe,List.set])
 refine tk (i:=8) (v:=?_) rfl (by kernel_rfl) (fun _ _ _ h=>h) (by rfl) (by assumption) ?_ ?_
 rotate_left
 ·intro w hSw;(try dsimp only at hSw);go_simp;(try with_reducible rfl)
 (try simp only [Qd,Qe,List.set])
 refine tk (i:=9) (v:=?_) rfl (by kernel_rfl) (fun _ _ _ h=>h) (by rfl) (by assumption) ?_ ?_
 rotate_left
 ·intro w hSw;(try dsimp only at hSw);go_simp;(try with_reducible rfl)
 (try simp only [Qd,Qe,List.set])
 refine wpAnyH_done (by kernel_rfl) ?_ _
 refine QK rfl (fun K hK=>?_)
 go_simp
 refine hK.out _ _ ?_
 clear hK K
 (try simp only [Qd,Qe,List.set])
 go_wp2
 go_end0
 exact ⟨rfl,(QC.more (fun p hp=>List.mem_cons_of_mem _ (HB2.out p hp)) N4.out.gives).tail⟩
theorem Qgw {w u:World} {a:CAd} {Fr bs:List (Nat×Obj)} {s:CSt} {sl ks:Value} {cv:List (Qj×Value)} {et:List (List UInt8×NumL×Value)} {o:Ty} (n:Int) (f:Bool) (hf:Flat o) (h:Cp w a Fr bs s sl ks cv et u) (hr:Room s 3) :
  Calls Tryz.prog 96 #[.pointer (some ⟨a.C,0,none⟩),.iface 311 (.agg #[tyV o,.int .i64 n,.bool f])] u fun e u'=>e = .returned (.tuple #[])∧QC w a Fr bs (QR (.arr o n f) s) u':=by
 obtain ⟨T,x,hT⟩:=Q07 o
 have HT:=Hid.mk hT
 rw [hT]
 have t0:∀ W,(Instr.typeAssert (.iface 311 (.agg #[.iface T x,.int .i64 n,.bool f])) 193 213 true).run Tryz.prog W = .ok (.tuple #[.agg #[.string ⟨#[]⟩,.int .i64 0],.bool false]) W:=fun W=>by kernel_rfl
 have t1:∀ W,(Instr.typeAssert (.iface 311 (.agg #[.iface T x,.int .i64 n,.bool f])) 193 301 true).run Tryz.prog W = .ok (.tuple #[.agg #[.int .i64 0],.bool false]) W:=fun W=>by kernel_rfl
 have t2:∀ W,(Instr.typeAssert (.iface 311 (.agg #[.iface T x,.int .i64 n,.bool f])) 193 306 true).run Tryz.prog W = .ok (.tuple #[.agg #[.int .i64 0,.bool false],.bool false]) W:=fun W=>by kernel_rfl
 have t3:∀ W,(Instr.typeAssert (.iface 311 (.agg #[.iface T x,.int .i64 n,.bool f])) 193 309 true).run Tryz.prog W = .ok (.tuple #[.agg #[.int .i64 0,.bool false],.bool false]) W:=fun W=>by kernel_rfl
 have t4:∀ W,(Instr.typeAssert (.iface 311 (.agg #[.iface T x,.int .i64 n,.bool f])) 193 311 true).run Tryz.prog W = .ok (.tuple #[.agg #[.iface T x,.int .i64 n,.bool f],.bool true]) W:=fun W=>by kernel_rfl
 have hb:∀ o,Below u.heap.size u (u.alloc o):=fun o=>(Below.refl _ _).alloc (Nat.le_refl _) _
 have V:=fun ob=>Qgv n f hf (h.below (hb ob)) hr
 rw [HT.out] at V
 have V:=Hid.mk V
 clear h hT
 go_enter Tryz.func96,Tryz.ntmps96
 go_wp2_with fail
 refine (V.out _).mono ?_
 rintro e w2 ⟨rfl,M2⟩
 go_wp2
 go_end0
 exact ⟨rfl,M2⟩
theorem Qgx {w u:World} {a:CAd} {Fr bs:List (Nat×Obj)} {s:CSt} {sl ks:Value} {cv:List (Qj×Value)} {et:List (List UInt8×NumL×Value)} {o:Ty} (hf:Flat o) (h:Cp w a Fr bs s sl ks cv et u) (hr:Room s 2) :
  Calls Tryz.prog 96 #[.pointer (some ⟨a.C,0,none⟩),.iface 314 (.agg #[tyV o])] u fun e u'=>e = .returned (.tuple #[])∧QC w a Fr bs (QR (.opt o) s) u':=by
 obtain ⟨T,x,hT⟩:=Q07 o
 have HT:=Hid.mk hT
 rw [hT]
 have t0:∀ W,(Instr.typeAssert (.iface 314 (.agg #[.iface T x])) 193 213 true).run Tryz.prog W = .ok (.tuple #[.agg #[.string ⟨#[]⟩,.int .i64 0],.bool false]) W:=fun W=>by kernel_rfl
 have t1:∀ W,(Instr.typeAssert (.iface 314 (.agg #[.iface T x])) 193 301 true).run Tryz.prog W = .ok (.tuple #[.agg #[.int .i64 0],.bool false]) W:=fun W=>by kernel_rfl
 have t2:∀ W,(Instr.typeAssert (.iface 314 (.agg #[.iface T x])) 193 306 true).run Tryz.prog W = .ok (.tuple #[.agg #[.int .i64 0,.bool false],.bool false]) W:=fun W=>by kernel_rfl
 have t3:∀ W,(Instr.typeAssert (.iface 314 (.agg #[.iface T x])) 193 309 true).run Tryz.prog W = .ok (.tuple #[.agg #[.int .i64 0,.bool false],.bool false]) W:=fun W=>by kernel_rfl
 have t4:∀ W,(Instr.typeAssert (.iface 314 (.agg #[.iface T x])) 193 311 true).run Tryz.prog W = .ok (.tuple #[.agg #[.nilIface,.int .i64 0,.bool false],.bool false]) W:=fun W=>by kernel_rfl
 have t5:∀ W,(Instr.typeAssert (.iface 314 (.agg #[.iface T x])) 193 314 true).run Tryz.prog W = .ok (.tuple #[.agg #[.iface T x],.bool true]) W:=fun W=>by kernel_rfl
 have hb:∀ o,Below u.heap.size u (u.alloc o):=fun o=>(Below.refl _ _).alloc (Nat.le_refl _) _
 have V:=fun ob=>Qcf hf (h.below (hb ob)) hr
 rw [HT.out] at V
 have V:=Hid.mk V
 clear h hT
 go_enter Tryz.func96,Tryz.ntmps96
 go_wp2_with fail
 refine (V.out _).mono ?_
 rintro e w2 ⟨rfl,M2⟩
 go_wp2
 go_end0
 exact ⟨rfl,M2⟩
theorem Q5l {w u:World} {a:CAd} {Fr bs:List (Nat×Obj)} {s:CSt} {sl ks:Value} {cv:List (Qj×Value)} {et:List (List UInt8×NumL×Value)} {t:Ty} (hf:Q0J t) (h:Cp w a Fr bs s sl ks cv et u) (hr:Room s 3) :
  Calls Tryz.prog 96 #[.pointer (some ⟨a.C,0,none⟩),tyV t] u fun e u'=>e = .returned (.tuple #[])∧QC w a Fr bs (QR t s) u':=by
 cases t with
 | arr o n f=>exact Qgw n f hf h hr
 | opt o=>exact Qgx hf h (hr.less (by omega))
 | named t p=>exact Q38 (t:=.named t p) trivial h (hr.less (by omega))
 | plain k=>exact Q38 (t:=.plain k) trivial h (hr.less (by omega))
 | opaq n f=>exact Q38 (t:=.opaq n f) trivial h (hr.less (by omega))
 | str n f=>exact Q38 (t:=.str n f) trivial h (hr.less (by omega))
 | void=>exact Q38 (t:=.void) trivial h (hr.less (by omega))
theorem Q78 {w u:World} {a:CAd} {Fr bs:List (Nat×Obj)} {s:CSt} {sl ks:Value} {cv:List (Qj×Value)} {et:List (List UInt8×NumL×Value)} {t:Ty} (hf:Q0J t) (h:Cp w a Fr bs s sl ks cv et u) (hr:Room s 4) :
  Calls Tryz.prog 101 #[.pointer (some ⟨a.C,0,none⟩),tyV t] u fun e u'=>e = .returned (.int .i64 s.code.length)∧QC w a Fr bs (startT t s) u':=by
 have hl:(QR t s).code.length < 1000000:=by
  have h1:=Q1L t s
  have h2:=Q4M hf
  have h3:=hr.code
  omega
 have V:=Hid.mk (Q5l hf h (hr.less (by omega)))
 obtain ⟨T,x,hT⟩:=Q07 t
 rw [hT] at V ⊢
 go_enter Tryz.func101,Tryz.ntmps101
 go_wp2_with fail
 refine (Q2h h).mono ?_
 rintro e w1 ⟨rfl,rfl⟩
 go_wp2_with fail
 refine V.out.mono ?_
 rintro e w2 ⟨rfl,bs2,sl2,ks2,cv2,et2,hb2,M2⟩
 go_wp2_with fail
 refine (Q1p (v:=.iface 326 (.agg #[])) (x:=.fin) M2 rfl hl).mono ?_
 rintro e w3 ⟨rfl,sl3,M3⟩
 go_wp2
 go_ret
 exact ⟨rfl,bs2,_,_,_,_,hb2,M3⟩
theorem QC.heap {w u:World} {a:CAd} {Fr bs:List (Nat×Obj)} {s:CSt} (h:QC w a Fr bs s u) {b:Nat} {o:Obj} (hb:w.heap[b]? = some o):u.heap[b]? = some o:=by
 obtain ⟨_,_,_,_,_,_,m⟩:=h
 exact (m.own.kp.block _ (Qc hb) (by simp)).trans hb
theorem Cp.heap {w u:World} {a:CAd} {Fr bs:List (Nat×Obj)} {s:CSt} {sl ks:Value} {cv:List (Qj×Value)} {et:List (List UInt8×NumL×Value)} (h:Cp w a Fr bs s sl ks cv et u) {b:Nat} {o:Obj} (hb:w.heap[b]? = some o):u.heap[b]? = some o:=h.gives.heap hb
theorem Q8Y (ts:List Ty):∀ {s:CSt} {n:Nat},(∀ t∈ts,Q0J t)→Room s (n + 3 * ts.length)→Room (ts.foldl (fun s t=>QR t s) s) n:=by
 induction ts with
 | nil=>intro s n _ h;exact h
 | cons t ts ih=>
  intro s n hty h
  have hc:=Q4M (hty t (by simp))
  exact ih (fun t ht=>hty t (List.mem_cons_of_mem _ ht)) (Room.value t (h.less (by simp only [List.length_cons];omega)))
theorem Qdk {w u:World} {a:CAd} {Fr bs:List (Nat×Obj)} {s:CSt} {sl ks:Value} {cv:List (Qj×Value)} {et:List (List UInt8×NumL×Value)} {bs0:List (Nat×Obj)} {b at':Nat} {t:List UInt8} {ms:List Qr} (hd:Q0n bs0 b (.struct t at' ms)) (hw:∀ p∈bs0,w.heap[p.1]? = some p.2) (hty:∀ m∈ms,Q0J m.ty) (h:Cp w a Fr bs s sl ks cv et u) (hr:Room s (4 + 3 * ms.length)) :
  Calls Tryz.prog 99 #[.pointer (some ⟨a.C,0,none⟩),.pointer (some ⟨b,0,none⟩)] u fun e u'=>e = .returned (.tuple #[])∧QC w a Fr bs (Q1K ms s) u':=by
 obtain ⟨msl,hb,hsl⟩:=hd
 have hbox:=hw _ hb
 obtain ⟨k0,k1,k2,_⟩:=Q0f (h.heap hbox)
 have HB:=Hid.mk (fun (v:World) (g:QC w a Fr bs (putM (.struct ms.length true) s) v)=>Q0f (g.heap hbox))
 have hr0:=hr.code
 have hr1:Room (putM (.struct ms.length true) s) (3 + 3 * ms.length):=Room.put (hr.less (by omega)) _
 have HRM:=Hid.mk hr1
 have HTY:=Hid.mk hty
 have H:=Hid.mk h
 clear h hty hr1 hr
 rcases hsl with ⟨rfl,h0,_⟩ | ⟨g,cap,cur,rfl,⟨hcap,hms⟩,hg,htake⟩
 ·have hnil:ms=[]:=List.length_eq_zero_iff.1 h0
  subst hnil
  go_enter Tryz.func99,Tryz.ntmps99
  go_wp2_with fail
  refine (Q1p (x:=.struct 0 true) H.out rfl (by omega)).mono ?_
  rintro e w1 ⟨rfl,sl1,M1⟩
  obtain ⟨q0,q1,q2,_⟩:=HB.out _ M1.gives
  have G1:=Hid.mk M1.gives
  clear M1
  go_wp2
  go_loopw [21] (fun i ur=>i = .int .i64 0∧ur=w1) (fun _ _=>0)
  case atStart=>exact ⟨rfl,rfl⟩
  case round=>
   obtain ⟨rfl,rfl⟩:=hrel
   go_wp2
   go_end0
   exact ⟨rfl,G1.out⟩
 ·have hgw:=hw _ hg
  have hrow:∀ (v:World) (s':CSt),QC w a Fr bs s' v→∀ i (hi:i < ms.length),v.cell? ⟨g,i * 3,none⟩=some (.string ⟨ms[i].t.toArray⟩)∧v.cell? ⟨g,i * 3 + 1,none⟩=some (.int .i64 ms[i].at')∧v.cell? ⟨g,i * 3 + 2,none⟩=some (tyV ms[i].ty):=by
   intro v s' gv i hi
   have hgb:=gv.heap hgw
   have hf:=Q2c (c:=Q1Z) (n:=3) (fun _=>rfl) ms i
   refine ⟨Qw hgb htake ?_,Qw hgb htake ?_,Qw hgb htake ?_⟩
   ·have:=hf 0 hi (by omega);simpa using this
   ·have:=hf 1 hi (by omega);simpa using this
   ·have:=hf 2 hi (by omega);simpa using this
  have HR:=Hid.mk hrow
  clear hrow
  go_enter Tryz.func99,Tryz.ntmps99
  go_wp2_with fail
  refine (Q1p (x:=.struct ms.length true) H.out rfl (by omega)).mono ?_
  rintro e w1 ⟨rfl,sl1,M1⟩
  obtain ⟨q0,q1,q2,_⟩:=HB.out _ M1.gives
  have G1:=Hid.mk M1.gives
  clear M1
  go_wp2
  go_loopw [21] (fun i ur=>∃ (k:Nat),i = .int .i64 k∧k≤ms.length∧Hid (QC w a Fr bs ((ms.take k).foldl (fun s m=>QR m.ty s) (putM (.struct ms.length true) s)) ur)) (fun i _=>ms.length - (intOf i).toNat)
  case atStart=>exact ⟨0,rfl,by omega,G1⟩
  case round=>
   obtain ⟨k,rfl,hk,G⟩:=hrel
   clear G1
   rcases Nat.lt_or_ge k ms.length with hlt | hge
   ·obtain ⟨p0,p1,p2⟩:=HR.out _ _ G.out k hlt
    obtain ⟨T1,v1,h1⟩:=Q07 ms[k].ty
    have HT:=Hid.mk h1
    rw [h1] at p2
    have hi0:(0:Int)≤↑k:=by omega
    have hi1:(↑k:Int) < ↑ms.length:=by omega
    obtain ⟨bs2,sl2,ks2,cv2,et2,hb2,M2⟩:=G.out
    have hrm:Room ((ms.take k).foldl (fun s m=>QR m.ty s) (putM (.struct ms.length true) s)) 3:=by
     have e:=Q8Y ((ms.take k).map (·.ty)) (s:=putM (.struct ms.length true) s) (n:=3) (by intro t ht;obtain ⟨m,hm,rfl⟩:=List.mem_map.1 ht;exact HTY.out m (List.mem_of_mem_take hm)) (HRM.out.less (by simp;omega))
     rw [List.foldl_map] at e
     exact e
    have V:=fun ob=>Q5l (HTY.out ms[k] (List.getElem_mem hlt)) (M2.below ((Below.refl wr.heap.size wr).alloc (Nat.le_refl _) ob)) hrm
    rw [HT.out] at V
    have V:=Hid.mk V
    have HB2:=Hid.mk hb2
    clear M2 hb2 h1 hrm
    go_wp2_with fail
    refine (V.out _).mono ?_
    rintro e w2 ⟨rfl,M3⟩
    have G3:Hid (QC w a Fr bs ((ms.take (k + 1)).foldl (fun s m=>QR m.ty s) (putM (.struct ms.length true) s)) w2):=by
     rw [List.take_succ_eq_append_getElem hlt,List.foldl_append]
     exact QC.more HB2.out M3
    clear M3
    go_wp2
    exact ⟨⟨k + 1,by go_num,by omega,G3⟩,by simp [intOf];omega⟩
   ·have hkk:k=ms.length:=by omega
    subst hkk
    go_wp2
    go_end0
    refine ⟨rfl,?_⟩
    have:=G.out
    rw [List.take_length] at this
    exact this
abbrev numA (lo hi:Int) (a:Option Addr) (b c:Nat) (wd:Bool):List Value:=[.int .i64 lo,.int .i64 hi,.slice a b c,.bool wd]
theorem Q1u.parts {bs:List (Nat×Obj)} {cs:List Value} {n:NumL} (h:Q1u bs cs n):∃ lo hi a b c wd,cs=numA lo hi a b c wd:=by
 obtain ⟨m,h1,_,x,y,z,rfl⟩:=h
 exact ⟨_,_,_,_,_,_,h1⟩
theorem QeX {w u:World} {a:CAd} {Fr bs:List (Nat×Obj)} {s:CSt} {sl ks:Value} {cv:List (Qj×Value)} {et:List (List UInt8×NumL×Value)} {t:Ty} (ht:Q0K t) (h:Cp w a Fr bs s sl ks cv et u) :
  Calls Tryz.prog 144 #[.pointer (some ⟨a.C,0,none⟩),tyV t] u fun e u'=>∃ lo hi x y z wd,e = .returned (.agg (numA lo hi x y z wd).toArray)∧Q1u bs (numA lo hi x y z wd) (Q0m s t)∧Below u.heap.size u u':=by
 have hb1:∀ o,Below u.heap.size u (u.alloc o):=fun o=>(Below.refl _ _).alloc (Nat.le_refl _) _
 have hb2:∀ o o',Below u.heap.size u ((u.alloc o).alloc o'):=fun o o'=>(hb1 o).alloc (by simp) _
 cases t with
 | named n p=>
  have t0:∀ W,(Instr.typeAssert (.iface 213 (.agg #[.string ⟨n.toArray⟩,.int .i64 p])) 193 213 true).run Tryz.prog W = .ok (.tuple #[.agg #[.string ⟨n.toArray⟩,.int .i64 p],.bool true]) W:=fun W=>by kernel_rfl
  have hM:=(h.below (hb2 (.cells #[.int .i64 0,.int .i64 0,.slice none 0 0,.bool false] 200) (.cells #[.string ⟨n.toArray⟩,.int .i64 p] 213))).below (Below.refl _ _).drew
  obtain ⟨v,hlk,cs,rfl,hN⟩:=hM.lookEnum n
  obtain ⟨lo,hi,x,y,z,wd,rfl⟩:=hN.parts
  obtain ⟨c0,c1,c2,c3,hfz,hlt⟩:=h.cells
  have HN:=Hid.mk hN
  clear h hM hN
  dsimp only [tyV]
  go_enter Tryz.func144,Tryz.ntmps144
  go_wp2
  go_region
  go_wp2
  refine bodyPost_ret (v:=.agg #[.int .i64 lo,.int .i64 hi,.slice x y z,.bool wd]) (by simp [results,Tryz.results144,go_sem]) rfl ⟨lo,hi,x,y,z,wd,rfl,HN.out,?_⟩
  exact (hb2 _ _).drew
 | plain k=>
  have t0:∀ W,(Instr.typeAssert (.iface 301 (.agg #[.int .i64 k])) 193 213 true).run Tryz.prog W = .ok (.tuple #[.agg #[.string ⟨#[]⟩,.int .i64 0],.bool false]) W:=fun W=>by kernel_rfl
  have t1:∀ W,(Instr.typeAssert (.iface 301 (.agg #[.int .i64 k])) 193 301 true).run Tryz.prog W = .ok (.tuple #[.agg #[.int .i64 k],.bool true]) W:=fun W=>by kernel_rfl
  clear h
  dsimp only [tyV]
  go_enter Tryz.func144,Tryz.ntmps144
  go_wp2_with fail
  refine (Q6u k _).mono ?_
  rintro e w2 ⟨rfl,hbw⟩
  have hR:w2.heap[u.heap.size]? = some (.cells #[.int .i64 0,.int .i64 0,.slice none 0 0,.bool false] 200):=
   (hbw.block _ (by simp;omega)).trans ((Below.heap_alloc _ _ _ (by simp)).trans (Qg rfl))
  obtain ⟨r0,r1,r2,r3,hfr⟩:=Q0q hR
  have hlt:=Qc hR
  obtain ⟨q0,q1,q2,q3,_⟩:=Q0q (Q9R (k':=.int .i64 (QL k).low) (t':=.int .i64 (QL k).high) (n':=.slice none 0 0) (a':=.bool (QL k).wide) hR)
  have HF:=Hid.mk (((((hb2 _ _).trans (hbw.mono (by simp;omega))).setCell (p:=⟨u.heap.size,0,none⟩) (Nat.le_refl _) (.int .i64 (QL k).low)).setCell (p:=⟨u.heap.size,1,none⟩) (Nat.le_refl _) (.int .i64 (QL k).high)).setCell (p:=⟨u.heap.size,2,none⟩) (Nat.le_refl _) (.slice none 0 0) |>.setCell (p:=⟨u.heap.size,3,none⟩) (Nat.le_refl _) (.bool (QL k).wide))
  clear hbw hR hb1 hb2
  go_wp2
  exact bodyPost_ret (v:=.agg #[.int .i64 (QL k).low,.int .i64 (QL k).high,.slice none 0 0,.bool (QL k).wide]) (by simp [results,Tryz.results144,go_sem,q0,q1,q2,q3]) rfl ⟨(QL k).low,(QL k).high,none,0,0,(QL k).wide,rfl,Q6v _ (Q6t k),HF.out⟩
 | _=>simp [Q0K] at ht
theorem QkX {w u:World} {a:CAd} {Fr bs:List (Nat×Obj)} {s:CSt} {sl ks:Value} {cv:List (Qj×Value)} {et:List (List UInt8×NumL×Value)} {d:Qr} {ca:Option Addr} {cn cc:Nat} (hty:Q0J d.ty) (h:Cp w a Fr bs s sl ks cv et u) (hr:Room s 3) :
  Calls Tryz.prog 145 #[.pointer (some ⟨a.C,0,none⟩),.agg #[.slice ca cn cc,.string ⟨d.t.toArray⟩,.int .i64 d.at',tyV d.ty]] u fun e u'=>e = .returned (.agg #[.int .i64 (wayM d s).1,.int .i64 (wayM d s).2])∧QC w a Fr bs (armM d s) u':=by
 have M0:=(h.alloc (.cells #[.slice ca cn cc,.string ⟨d.t.toArray⟩,.int .i64 d.at',tyV d.ty] 292)).alloc (.cells #[.int .i64 0,.int .i64 0] 323)
 have HH:=Hid.mk (Q2h M0)
 have M1:=M0.alloc (.cells #[.int .i64 s.code.length,.int .i64 1] 323)
 cases hv:Q3d d.ty with
 | true=>
  have hvoid:d.ty = .void:=by cases hd:d.ty<;>rw [hd] at hv<;>simp [Q3d] at hv
  have hta:∀ W,(Instr.typeAssert (.iface 340 (.agg #[])) 193 340 true).run Tryz.prog W = .ok (.tuple #[.agg #[],.bool true]) W:=fun W=>by kernel_rfl
  have E1:Hid (wayM d s=(s.code.length,0)):=by show _=_;simp [wayM,hvoid,Q3d]
  have E2:Hid (armM d s=s):=by show _=_;simp [armM,hvoid,QR]
  rw [hvoid] at M0 M1 HH ⊢
  dsimp only [tyV] at M0 M1 HH ⊢
  have H:=Hid.mk h
  clear h M0 M1 hvoid hv hty
  go_enter Tryz.func145,Tryz.ntmps145
  go_wp2_with fail
  refine HH.out.mono ?_
  rintro e w2 ⟨rfl,rfl⟩
  go_wp2
  refine bodyPost_ret (v:=.agg #[.int .i64 s.code.length,.int .i64 0]) (by simp [results,Tryz.results145,go_sem]) rfl ⟨by rw [E1.out];rfl,?_⟩
  rw [E2.out]
  exact ((((H.out.alloc _).alloc _).alloc _).tail.tail.tail).gives
 | false=>
  have hta:∀ W,(Instr.typeAssert (tyV d.ty) 193 340 true).run Tryz.prog W = .ok (.tuple #[.agg #[],.bool false]) W:=by
   intro W
   cases hd:d.ty with
   | void=>rw [hd] at hv;simp [Q3d] at hv
   | _=>kernel_rfl
  have E1:Hid (wayM d s=(s.code.length,1)):=by show _=_;simp [wayM,hv]
  obtain ⟨T,x,hT⟩:=Q07 d.ty
  have V:=Q5l hty M1 hr
  rw [hT] at M0 M1 HH hta V ⊢
  have V:=Hid.mk V
  clear h M0 M1 hv hty hT
  go_enter Tryz.func145,Tryz.ntmps145
  go_wp2_with fail
  refine HH.out.mono ?_
  rintro e w2 ⟨rfl,rfl⟩
  go_wp2_with fail
  refine V.out.mono ?_
  rintro e w3 ⟨rfl,bs3,sl3,ks3,cv3,et3,hb3,M3⟩
  have o5:=(M3.own.hf _ List.mem_cons_self).1
  have oR:=(M3.own.hf _ (List.mem_cons_of_mem _ List.mem_cons_self)).1
  have M4:=M3.tail
  simp only [World.size_alloc,Nat.add_assoc] at o5 oR M4
  clear M3
  have c5:w3.cell? ⟨u.heap.size + 2,0,none⟩=some (.int .i64 s.code.length)∧w3.cell? ⟨u.heap.size + 2,1,none⟩=some (.int .i64 1):=by constructor<;>simp [World.cell?,o5]
  have cR:w3.cell? ⟨u.heap.size + 1,0,none⟩=some (.int .i64 0)∧w3.cell? ⟨u.heap.size + 1,1,none⟩=some (.int .i64 0)∧∀ i,w3.frozen? ⟨u.heap.size + 1,i,none⟩=false:=by refine ⟨?_,?_,?_⟩<;>simp [World.cell?,World.frozen?,oR]
  obtain ⟨c50,c51⟩:=c5
  obtain ⟨cR0,cR1,cRf⟩:=cR
  have oR1:=Qy (i:=1) (Qy (i:=0) oR (.int .i64 s.code.length)) (.int .i64 1)
  have cQ:((w3.setCell ⟨u.heap.size + 1,0,none⟩ (.int .i64 s.code.length)).setCell ⟨u.heap.size + 1,1,none⟩ (.int .i64 1)).cell? ⟨u.heap.size + 1,0,none⟩=some (.int .i64 s.code.length)∧((w3.setCell ⟨u.heap.size + 1,0,none⟩ (.int .i64 s.code.length)).setCell ⟨u.heap.size + 1,1,none⟩ (.int .i64 1)).cell? ⟨u.heap.size + 1,1,none⟩=some (.int .i64 1):=by constructor<;>simp [World.cell?,oR1]
  obtain ⟨cQ0,cQ1⟩:=cQ
  have M5:=M4.setFr (((Qb.refl [u.heap.size + 1] w3).setIn (p:=⟨u.heap.size + 1,0,none⟩) (by simp) (.int .i64 s.code.length)).setIn (p:=⟨u.heap.size + 1,1,none⟩) (by simp) (.int .i64 1)) oR1
  have M5:=Hid.mk M5
  have hltR:=Qc oR
  have HB:=Hid.mk hb3
  clear M4 o5 oR oR1 hb3
  go_wp2
  refine bodyPost_ret (v:=.agg #[.int .i64 s.code.length,.int .i64 1]) (by simp [results,Tryz.results145,go_sem,cQ0,cQ1]) rfl ⟨by rw [E1.out];rfl,?_⟩
  exact QC.more HB.out M5.out.tail.tail.gives
abbrev Q6O (sl:Value):Obj:=.cells #[.int .i64 (-2147483648),.int .i64 2147483647,sl,.bool false] 200
abbrev Q5A:Obj:=.cells #[.int .i64 0,.int .i64 0,.slice none 0 0,.bool false] 200
structure Q4W (u:World) (k:Nat) (ns:List Int) (sl:Value) (v:World):Prop where
 own:Own u ([u.heap.size + 1]++(sl.ownBlock.toList++[])) [(u.heap.size,Q5A)] [] v
 box:v.heap[u.heap.size + 1]? = some (Q6O sl)
 row:v.ownsRow u.heap.size 2 1 sl k (ns.map fun n=>Value.int .i64 n)
 nn:k=0→sl = .slice none 0 0
theorem Q4W.step {u v v2 v3:World} {k g cap:Nat} {ns:List Int} {sl:Value} {n:Int} (m:Q4W u k ns sl v) (hb:Below v.heap.size v v2)
  (hown:v3.ownsRow u.heap.size 2 1 (.slice (some ⟨g,0,none⟩) (k + 1) cap) (k + 1) ((ns.map fun n=>Value.int .i64 n)++[.int .i64 n])) (hg:v2.grownBy v3 sl.ownBlock) (hat:sl.ownBlock=some g∨g=v2.heap.size) (hlt:g < v3.heap.size) :
  Q4W u (k + 1) (ns++[n]) (.slice (some ⟨g,0,none⟩) (k + 1) cap) (v3.setCell ⟨u.heap.size + 1,2,none⟩ (.slice (some ⟨g,0,none⟩) (k + 1) cap)):=by
 obtain ⟨hwg,_⟩:=Q16 hown (g:=g) rfl
 have e2:=m.own.below hb
 have hkg:=Q05 hg
 have ho:=Own.grow (A:=[u.heap.size + 1]) (B:=[]) e2 hg hat hlt hwg
 have hks:Qb [u.heap.size + 1] v3 (v3.setCell ⟨u.heap.size + 1,2,none⟩ (.slice (some ⟨g,0,none⟩) (k + 1) cap)):=(Qb.refl [u.heap.size + 1] v3).setIn (by simp) _
 have hn:=m.own.nd
 have hn2:=ho.nd
 simp at hn hn2
 have hd:u.heap.size + 1 ∉ sl.ownBlock.toList:=by
  intro hm
  exact hn.1 (by simpa using hm)
 have box2:v2.heap[u.heap.size + 1]? = some (Q6O sl):=(hb.block _ (Qc m.box)).trans m.box
 refine ⟨ho.turn hks (by simp),Qy (i:=2) ((hkg.block _ (Qc box2) hd).trans box2) _,?_,by omega⟩
 have:=Qp hown hks (by
  intro g' h'
  simp only [Value.ownBlock,Option.some.injEq] at h'
  subst h'
  simp
  omega)
 simpa using this
theorem Q4W.slice {u v:World} {k:Nat} {ns:List Int} {sl:Value} (m:Q4W u k ns sl v):∃ ad cap,sl = .slice ad k cap:=by
 rcases m.row.2 with ⟨rfl,h0⟩ | ⟨g,cap,cur,rfl,_⟩
 ·exact ⟨none,0,by rw [h0]⟩
 ·exact ⟨_,_,rfl⟩
theorem Q4W.boxAt {u v v2 v3:World} {k:Nat} {ns:List Int} {sl:Value} (m:Q4W u k ns sl v) (hb:Below v.heap.size v v2) (hg:v2.grownBy v3 sl.ownBlock):v3.heap[u.heap.size + 1]? = some (Q6O sl):=by
 have hl:=Qc m.box
 have hn:=m.own.nd
 have hz:=hb.size
 simp at hn
 exact (hg.block _ (by omega) (fun e=>hn.1 (by rw [← e]))).trans ((hb.block _ hl).trans m.box)
theorem Qcg (u:World):Q4W u 0 [] (.slice none 0 0) ((u.alloc Q5A).alloc (Q6O (.slice none 0 0))):=by
 have e1:(u.alloc Q5A).heap.size=u.heap.size + 1:=by simp
 refine ⟨⟨((Qb.refl [] u).alloc _).alloc _,?_,?_,by simp [Value.ownBlock],?_,?_,by simp,by simp,by simp⟩,Qg e1.symm,⟨by simp,Or.inl ⟨rfl,rfl⟩⟩,fun _=>rfl⟩
 ·intro y hy
  simp [Value.ownBlock] at hy
  omega
 ·intro y hy
  simp [Value.ownBlock] at hy
  simp
  omega
 ·intro p hp
  simp only [List.mem_singleton] at hp
  subst hp
  refine ⟨(Below.heap_alloc _ _ _ (by simp)).trans (Qg rfl),by simp [Value.ownBlock]⟩
 ·intro p hp
  cases hp
def QjV (u:World) (ms:List (List UInt8×Nat×Int)) (e:Ending) (u':World):Prop:=∃ lo hi x y z wd bs',e = .returned (.agg (numA lo hi x y z wd).toArray)∧Q1u bs' (numA lo hi x y z wd) (Q0o ms)∧Below u.heap.size u u'∧∀ p∈bs',u'.heap[p.1]? = some p.2∧u.heap.size≤p.1
theorem Qgy {u:World} {bs0:List (Nat×Obj)} {b at':Nat} {t:List UInt8} {ms:List (List UInt8×Nat×Int)} (hd:Q0n bs0 b (.enum t at' ms)) (hw:∀ p∈bs0,u.heap[p.1]? = some p.2) :
  Calls Tryz.prog 97 #[.pointer (some ⟨b,0,none⟩)] u (QjV u ms):=by
 obtain ⟨msl,ps,hb,hpl,hsl,hea⟩:=hd
 have hbox:=hw _ hb
 obtain ⟨k0,k1,k2,_⟩:=Q0f hbox
 obtain ⟨i0,hi0,hz0,hz1,hz2⟩:=info_parts QdH
 have M0:=Hid.mk (Qcg u)
 have hlb:=Qc hbox
 have fin:∀ (sl:Value) (v:World),Q4W u ms.length (ms.map (·.2.2)) sl v→ms.length≤1000→∃ x y z bs',sl = .slice x y z∧Q1u bs' (numA (-2147483648) 2147483647 x y z false) (Q0o ms)∧(∀ p∈bs',p.1≠u.heap.size∧v.heap[p.1]? = some p.2∧u.heap.size≤p.1):=by
  intro sl v m hle
  rcases m.row.2 with ⟨rfl,h0⟩ | ⟨g,cap,cur,rfl,hg1,hg2,hg3,hg4,hg5,hg6⟩
  ·have hnil:ms=[]:=List.length_eq_zero_iff.1 h0
   subst hnil
   exact ⟨none,0,0,[],rfl,⟨_,rfl,by simp [Q0o,Qb8],_,_,_,rfl⟩,by intro p hp;cases hp⟩
  ·refine ⟨_,_,_,[(g,.cells cur 2)],rfl,⟨_,rfl,?_,_,_,_,rfl⟩,?_⟩
   ·simp only [Q0o]
    by_cases hnil:ms=[]
    ·have:=m.nn (by simp [hnil])
     cases this
    ·rw [if_neg hnil]
     refine ⟨by simpa using hnil,Or.inr ⟨g,cap,cur,by simp,⟨by simpa using hg3,by simpa using hle⟩,by simp,?_⟩⟩
     simpa using hg6
   ·intro p hp
    simp only [List.mem_singleton] at hp
    subst hp
    have:=m.own.hf (u.heap.size,Q5A) (by simp)
    refine ⟨fun e=>this.2 ?_,hg2,hg1⟩
    simp only at e
    simp [Value.ownBlock,e]
 have HF:=Hid.mk fin
 clear fin
 have e1:((u.alloc Q5A).alloc (Q6O (.slice none 0 0))).cell? ⟨b,2,none⟩=some msl:=by
  rw [World.cell?_of_block (w:=u) (((Qcg u).own.kp.block _ hlb (by simp)))]
  exact k2
 rcases hsl with ⟨rfl,h0,_⟩ | ⟨g,cap,cur,rfl,⟨hcap,hms⟩,hg,htake⟩
 ·have hnil:ms=[]:=List.length_eq_zero_iff.1 h0
  subst hnil
  go_enter Tryz.func97,Tryz.ntmps97
  go_wp2
  go_loopw [12] (fun i ur=>i = .int .i64 0∧ur=(u.alloc Q5A).alloc (Q6O (.slice none 0 0))) (fun _ _=>0)
  case atStart=>exact ⟨rfl,rfl⟩
  case round=>
   obtain ⟨rfl,rfl⟩:=hrel
   go_wp2
   refine bodyPost_ret (v:=.agg #[.int .i64 (-2147483648),.int .i64 2147483647,.slice none 0 0,.bool false]) (by simp [results,Tryz.results97,go_sem]) rfl ⟨-2147483648,2147483647,none,0,0,false,[],rfl,⟨_,rfl,by simp [Q0o,Qb8],_,_,_,rfl⟩,?_,by intro p hp;cases hp⟩
   exact ((Below.refl _ _).alloc (Nat.le_refl _) _).alloc (by simp) _
 ·have hrow:∀ (v:World),Qb [] u v→∀ i (hi:i < ms.length) (hi':i < ps.length),v.cell? ⟨g,i,none⟩=some (.pointer (some ⟨ps[i],0,none⟩))∧v.cell? ⟨ps[i],2,none⟩=some (.int .i64 ms[i].2.2)∧ps[i] < u.heap.size∧u.cell? ⟨ps[i],2,none⟩=some (.int .i64 ms[i].2.2):=by
   intro v hv i hi hi'
   have hgb:=(hv.block _ (Qc (hw _ hg)) (by simp)).trans (hw _ hg)
   have hc:=hw _ (hea i hi hi')
   have hcb:=(hv.block _ (Qc hc) (by simp)).trans hc
   exact ⟨Qw hgb htake (by simp [hi']),(Q0f hcb).2.2.1,Qc hc,(Q0f hc).2.2.1⟩
  have HR:=Hid.mk hrow
  clear hrow
  go_enter Tryz.func97,Tryz.ntmps97
  go_wp2
  go_loopw [12] (fun i ur=>∃ (k:Nat) (sl:Value),i = .int .i64 k∧k≤ms.length∧Hid (Q4W u k ((ms.take k).map (·.2.2)) sl ur)) (fun i _=>ms.length - (intOf i).toNat)
  case atStart=>exact ⟨0,_,rfl,by omega,M0⟩
  case round=>
   obtain ⟨k,sl,rfl,hk,M⟩:=hrel
   clear M0
   rcases Nat.lt_or_ge k ms.length with hlt | hge
   ·obtain ⟨q0,q1,q2,q5⟩:=HR.out _ M.out.own.kp k hlt (by omega)
    obtain ⟨ad,cap',rfl⟩:=M.out.slice
    obtain ⟨d0,d1,d2,d3,dfr⟩:=Q0q M.out.box
    have hk0:(0:Int)≤↑k:=by omega
    have hk1:(↑k:Int) < ↑ms.length:=by omega
    have hl1:k + 1≤maxLen:=by unfold maxLen;omega
    have hl2:(k + 1) * 8≤140737488355328:=by omega
    have hz3:(Value.int .i64 0).cells.size=1:=rfl
    have hwl:u.heap.size≤wr.heap.size:=M.out.own.kp.size
    have hdl:u.heap.size + 1 < wr.heap.size:=Qc M.out.box
    go_wp2_with fail
    refine QE (fun w'=>w'.cell? ⟨u.heap.size + 1,2,none⟩=some (.slice ad k cap')∧w'.cell? ⟨ps[k],2,none⟩=some (.int .i64 ms[k].2.2)) (L:=9) (by kernel_rfl) rfl (by kernel_rfl) (by kernel_rfl) ?_ (fun hHeld=>?_)
    ·go_keep
    refine tk (i:=0) (v:=?_) rfl (by kernel_rfl) (fun _ _ _ h=>h) (by rfl) (by assumption) ?_ ?_
    rotate_left
    ·intro w hSw;(try dsimp only at hSw);go_simp;(try with_reducible rfl)
    (try simp only [Qd,Qe,List.set])
    refine tk (i:=1) (v:=?_) rfl (by kernel_rfl) (fun _ _ _ h=>h) (by rfl) (by assumption) ?_ ?_
    rotate_left
    ·intro w hSw;(try dsimp only at hSw);go_simp;(try with_reducible rfl)
    (try simp only [Qd,Qe,List.set])
    refine tk (i:=2) (v:=?_) rfl (by kernel_rfl) (fun _ _ _ h=>h) (by rfl) (by assumption) ?_ ?_
    rotate_left
    ·intro w hSw;(try dsimp only at hSw);go_simp;(try with_reducible rfl)
    (try simp only [Qd,Qe,List.set])
    refine tk (i:=3) (v:=?_) rfl (by kernel_rfl) (fun _ _ _ h=>h) (by rfl) (by assumption) ?_ ?_
    rotate_left
    ·intro w hSw;(try dsimp only at hSw);go_simp;(try with_reducible rfl)
    (try simp only [Qd,Qe,List.set])
    refine tk (i:=4) (v:=?_) rfl (by kernel_rfl) (fun _ _ _ h=>h) (by rfl) (by assumption) ?_ ?_
    rotate_left
    ·intro w hSw;(try dsimp only at hSw);go_simp;(try with_reducible rfl)
    (try simp only [Qd,Qe,List.set])
    refine tk (i:=5) (v:=?_) rfl (by kernel_rfl) (fun _ _ _ h=>h) (by rfl) (by assumption) ?_ ?_
    rotate_left
    ·intro w hSw;(try dsimp only at hSw);go_simp;(try with_reducible rfl)
    (try simp only [Qd,Qe,List.set])
    refine wpAnyH_ready (rs:=[6]) (by kernel_rfl) (by simp) ?_
    refine AllReadyH.cons rfl (fun K hK=>?_) AllReadyH.nil
    go_simp
    refine hK.out _ _ ?_ (fun hHeld=>?_)
    ·go_keep
    clear hK K
    (try simp only [Qd,Qe,List.set])
    refine wpAnyH_ready (rs:=[7]) (by kernel_rfl) (by simp) ?_
    refine AllReadyH.cons rfl (fun K hK=>?_) AllReadyH.nil
    (refine step_append_lies _ (by rfl) _ _ _ (by rfl) u.heap.size 2 i0 _ 1 8 Tryz.underlying198 hi0 hz0 hz1 hz2 hz3 (by omega) (.slice ad k cap') k (((ms.take k).map (·.2.2)).map fun n=>Value.int .i64 n) (by rfl) (Qp (M.out.row) (((Qb.refl [] wr).alloc _).drew) (by simp)) ⟨wr.heap.size,0,none⟩ 1 1 [.int .i64 ms[k].2.2] (by rfl) (by rfl) (World.news_of_block (cs:=#[.int .i64 ms[k].2.2]) (t:=2) (fr:=(0,0)) (heap_alloc_new wr _)) (by simp [Value.oneCell']) (by omega) hl1 hl2 (by simp;omega) (wr.heap.size + 1) (by simp) ?_;intro g' cap2 w6 hown6 hgrow hat hlt6;have hbb:Below wr.heap.size wr (wr.alloc (.cells #[.int .i64 ms[k].2.2] 2)).drew:=((Below.refl _ _).alloc (Nat.le_refl _) _).drew;obtain ⟨z0,z1,z2,z3,zfr⟩:=Q0q (M.out.boxAt hbb hgrow);have zlt:=Qc (M.out.boxAt hbb hgrow);have z5:w6.cell? ⟨ps[k],2,none⟩=some (.int .i64 ms[k].2.2):=by rw [World.cell?_of_block (w:=u) (((M.out.own.below hbb).kp.young (Q05 hgrow) (by intro x hx;exact Or.inr (M.out.own.new _ (by simp at hx ⊢;exact Or.inr hx)))).block _ q2 (by simp))];exact q5)
    refine hK.out _ _ ?_ (fun hHeld=>?_)
    ·go_keep
    clear hK K
    (try simp only [Qd,Qe,List.set])
    refine tk (i:=8) (v:=?_) rfl (by kernel_rfl) (fun _ _ _ h=>h) (by rfl) (by assumption) ?_ ?_
    rotate_left
    ·intro w hSw;(try dsimp only at hSw);go_simp;(try with_reducible rfl)
    (try simp only [Qd,Qe,List.set])
    refine wpAnyH_done (by kernel_rfl) ?_ _
    refine QK rfl (fun K hK=>?_)
    go_simp
    refine hK.out _ _ ?_
    clear hK K
    (try simp only [Qd,Qe,List.set])
    have M6:=Hid.mk (M.out.step (n:=ms[k].2.2) hbb hown6 hgrow (by simpa using hat) hlt6)
    go_wp2
    refine ⟨⟨k + 1,.slice (some ⟨g',0,none⟩) (k + 1) cap2,by go_num,by omega,?_⟩,by simp [intOf];omega⟩
    have e9:(ms.take (k + 1)).map (·.2.2)=(ms.take k).map (·.2.2)++[ms[k].2.2]:=by rw [List.take_succ_eq_append_getElem hlt,List.map_append];rfl
    rw [e9]
    exact M6
   ·have hkk:k=ms.length:=by omega
    subst hkk
    have m:=M.out
    rw [List.take_length] at m
    obtain ⟨x,y,z,bs',rfl,hN,hbs⟩:=HF.out _ _ m hms
    obtain ⟨d0,d1,d2,d3,dfr⟩:=Q0q m.box
    have hR:=(m.own.hf _ List.mem_cons_self).1
    obtain ⟨r0,r1,r2,r3,rfr⟩:=Q0q hR
    have hRl:=Qc hR
    obtain ⟨p0,p1,p2,p3,_⟩:=Q0q (Q9R (k':=.int .i64 (-2147483648)) (t':=.int .i64 2147483647) (n':=.slice x y z) (a':=.bool false) hR)
    have kp:=Hid.mk m.own.kp
    have HN:=Hid.mk hN
    have HB:=Hid.mk hbs
    clear m M hN hbs hR
    go_wp2
    refine bodyPost_ret (v:=.agg #[.int .i64 (-2147483648),.int .i64 2147483647,.slice x y z,.bool false]) (by simp [results,Tryz.results97,go_sem,p0,p1,p2,p3]) rfl ⟨-2147483648,2147483647,x,y,z,false,bs',rfl,HN.out,?_,?_⟩
    ·have hb0:Below u.heap.size u wr:=⟨kp.out.os,kp.out.tape,kp.out.output,kp.out.size,fun k hk=>kp.out.block k hk (by simp)⟩
     exact (((hb0.setCell (p:=⟨u.heap.size,0,none⟩) (Nat.le_refl _) _).setCell (p:=⟨u.heap.size,1,none⟩) (Nat.le_refl _) _).setCell (p:=⟨u.heap.size,2,none⟩) (Nat.le_refl _) _).setCell (p:=⟨u.heap.size,3,none⟩) (Nat.le_refl _) _
    ·intro p hp
     obtain ⟨h1,h2,h3⟩:=HB.out p hp
     refine ⟨?_,h3⟩
     have hk:Qb [u.heap.size] wr ((((wr.setCell ⟨u.heap.size,0,none⟩ (.int .i64 (-2147483648))).setCell ⟨u.heap.size,1,none⟩ (.int .i64 2147483647)).setCell ⟨u.heap.size,2,none⟩ (.slice x y z)).setCell ⟨u.heap.size,3,none⟩ (.bool false)):=
      ((((Qb.refl [u.heap.size] wr).setIn (p:=⟨u.heap.size,0,none⟩) (by simp) _).setIn (p:=⟨u.heap.size,1,none⟩) (by simp) _).setIn (p:=⟨u.heap.size,2,none⟩) (by simp) _).setIn (p:=⟨u.heap.size,3,none⟩) (by simp) _
     exact (hk.block _ (Qc h2) (by simpa using h1)).trans h2
section
variable {w u u' : World} {own : List Nat} {Fr bs : List (Nat × Obj)}
theorem Own.other {M:List Nat} (h:Own w own Fr bs u) (hk:Qb M u u') (hM:∀ m∈M,w.heap.size≤m∧m ∉ own∧(∀ p∈Fr,p.1≠m)∧(∀ p∈bs,p.1≠m)):Own w own Fr bs u':=by
 refine ⟨h.kp.young hk (fun m hm=>Or.inr (hM m hm).1),h.new,fun y hy=>Nat.lt_of_lt_of_le (h.lt y hy) hk.size,h.nd,?_,?_,h.fnd,h.fnew,h.sep⟩
 ·intro p hp
  obtain ⟨h1,h2⟩:=h.hf p hp
  exact ⟨(hk.block _ (Qc h1) (fun hm=>(hM _ hm).2.2.1 p hp rfl)).trans h1,h2⟩
 ·intro p hp
  obtain ⟨h1,h2⟩:=h.hb p hp
  exact ⟨(hk.block _ (Qc h1) (fun hm=>(hM _ hm).2.2.2 p hp rfl)).trans h1,h2⟩
theorem Own.addFr (h:Own w own Fr bs u) {g:Nat} {o:Obj} (hg:u.heap[g]? = some o) (hw:w.heap.size≤g) (ho:g ∉ own) (hf:∀ p∈Fr,p.1≠g) (hb:∀ p∈bs,p.1≠g):Own w own ((g,o) :: Fr) bs u:=by
 refine ⟨h.kp,h.new,h.lt,h.nd,?_,h.hb,?_,?_,?_⟩
 ·intro p hp
  rcases List.mem_cons.1 hp with rfl | hp
  ·exact ⟨hg,ho⟩
  ·exact h.hf p hp
 ·simp only [List.map_cons,List.nodup_cons]
  refine ⟨?_,h.fnd⟩
  intro hm
  obtain ⟨p,hp,e⟩:=List.mem_map.1 hm
  exact hf p hp e
 ·intro p hp
  rcases List.mem_cons.1 hp with rfl | hp
  ·exact hw
  ·exact h.fnew p hp
 ·intro p hp q hq
  rcases List.mem_cons.1 hp with rfl | hp
  ·exact fun e=>hb q hq e.symm
  ·exact h.sep p hp q hq
theorem Own.addBs {bs':List (Nat×Obj)} (h:Own w own Fr bs u) (hk:Below u.heap.size u u') (hb:∀ p∈bs',u'.heap[p.1]? = some p.2∧u.heap.size≤p.1):Own w own Fr (bs'++bs) u':=by
 have h1:=h.below hk
 refine ⟨h1.kp,h1.new,h1.lt,h1.nd,h1.hf,?_,h1.fnd,h1.fnew,?_⟩
 ·intro p hp
  rcases List.mem_append.1 hp with hp | hp
  ·refine ⟨(hb p hp).1,fun hm=>?_⟩
   have:=h.lt _ hm
   have:=(hb p hp).2
   omega
  ·exact h1.hb p hp
 ·intro p hp q hq
  rcases List.mem_append.1 hq with hq | hq
  ·have:=Qc (h.hf p hp).1
   have:=(hb q hq).2
   omega
  ·exact h1.sep p hp q hq
end
section
variable {w u u' : World} {a : CAd} {Fr bs : List (Nat × Obj)} {s : CSt} {sl ks : Value} {cv : List (Qj × Value)} {et : List (List UInt8 × NumL × Value)}
theorem Cp.addBs {bs':List (Nat×Obj)} (h:Cp w a Fr bs s sl ks cv et u) (hk:Below u.heap.size u u') (hb:∀ p∈bs',u'.heap[p.1]? = some p.2∧u.heap.size≤p.1):Cp w a Fr (bs'++bs) s sl ks cv et u':=
 h.beside (Qb.of_below [] hk) (by simp) (fun _ hp=>List.mem_append_right _ hp) (h.own.addBs hk hb)
def Q56 (E:List (Nat×Obj)) (esl:Value) (l:List Nat):Prop:=
 (E=[]∧esl = .slice none 0 0∧l=[])∨∃ g cap cur,E=[(g,.cells cur 3)]∧esl = .slice (some ⟨g,0,none⟩) l.length cap∧l.length≤cap∧cap≤maxLen∧cur.size=cap∧cur.toList.take l.length=l.map Q4A
theorem Q56.slice {E:List (Nat×Obj)} {esl:Value} {l:List Nat} (h:Q56 E esl l):∃ ad cap,esl = .slice ad l.length cap:=by
 rcases h with ⟨_,rfl,rfl⟩ | ⟨g,cap,cur,_,rfl,_⟩
 ·exact ⟨none,0,rfl⟩
 ·exact ⟨_,_,rfl⟩
theorem Q56.owns {E:List (Nat×Obj)} {esl:Value} {l:List Nat} (h:Q56 E esl l) (m:Cp w a (E++Fr) bs s sl ks cv et u):u.ownsRow w.heap.size 3 1 esl l.length (l.map Q4A):=by
 refine ⟨by simp,?_⟩
 rcases h with ⟨_,rfl,rfl⟩ | ⟨g,cap,cur,rfl,rfl,h1,h2,h3,h4⟩
 ·exact Or.inl ⟨rfl,rfl⟩
 ·exact Or.inr ⟨g,cap,cur,rfl,m.own.fnew _ List.mem_cons_self,(m.own.hf _ List.mem_cons_self).1,h1,h2,by simpa using h3,by simpa using h4⟩
theorem Q56.grow {E:List (Nat×Obj)} {esl:Value} {l:List Nat} {u2 u3:World} {g cap n:Nat} (h:Q56 E esl l) (m:Cp w a (E++Fr) bs s sl ks cv et u) (hb:Below u.heap.size u u2)
  (hown:u3.ownsRow w.heap.size 3 1 (.slice (some ⟨g,0,none⟩) (l.length + 1) cap) (l.length + 1) ((l.map Q4A)++[.int .i64 n])) (hg:u2.grownBy u3 esl.ownBlock) (hat:esl.ownBlock=some g∨g=u2.heap.size) :
  ∃ E',Q56 E' (.slice (some ⟨g,0,none⟩) (l.length + 1) cap) (l++[n])∧Cp w a (E'++Fr) bs s sl ks cv et u3:=by
 obtain ⟨hwg,hlt⟩:=Q16 hown (g:=g) rfl
 rcases hown.2 with ⟨h0,_⟩ | ⟨g',cap',cur,e,_,o2,o3,o4,o5,o6⟩
 ·cases h0
 cases e
 have m2:=m.below hb
 have hk:=Q05 hg
 refine ⟨[(g,.cells cur 3)],Or.inr ⟨g,cap,cur,rfl,by simp,by simpa using o3,o4,by simpa using o5,by simpa using o6⟩,?_⟩
 rcases h with ⟨rfl,rfl,rfl⟩ | ⟨g0,cap0,cur0,rfl,rfl,h1,h2,h3,h4⟩
 ·simp only [Value.ownBlock] at hat hk
  have hgs:g=u2.heap.size:=by
   rcases hat with h | h
   ·cases h
   ·exact h
  have hk0:Qb [] u2 u3:=hk.mono (by simp)
  have o1:Own w (ownC a sl ks) Fr bs u3:=m2.own.turn hk0 (by simp)
  refine m2.beside hk0 (by simp) (fun _ hp=>hp) (o1.addFr o2 hwg ?_ ?_ ?_)
  ·intro hm;have:=m2.own.lt _ hm;omega
  ·intro p hp;have:=Qc (m2.own.hf p hp).1;omega
  ·intro p hp;have:=Qc (m2.own.hb p hp).1;omega
 ·simp only [Value.ownBlock,Option.some.injEq,Option.toList_some] at hat hk
  rcases hat with rfl | hgs
  ·exact Cp.setFr (o:=.cells cur0 3) m2 hk o2
  ·have hn:=m2.own.fnd
   simp only [List.cons_append,List.nil_append,List.map_cons,List.nodup_cons] at hn
   have hg0:=m2.own.hf _ List.mem_cons_self
   have t2:=m2.tail
   have o1:Own w (ownC a sl ks) Fr bs u3:=t2.own.other hk (by
    intro x hx
    simp only [List.mem_singleton] at hx
    subst hx
    refine ⟨m2.own.fnew _ List.mem_cons_self,hg0.2,?_,?_⟩
    ·intro p hp e
     exact hn.1 (by rw [← e];exact List.mem_map_of_mem hp)
    ·intro p hp e
     exact m2.own.sep _ List.mem_cons_self p hp e.symm)
   refine t2.beside hk (by simpa using hg0.2) (fun _ hp=>hp) (o1.addFr o2 hwg ?_ ?_ ?_)
   ·intro hm;have:=m2.own.lt _ hm;omega
   ·intro p hp;have:=Qc (t2.own.hf p hp).1;omega
   ·intro p hp;have:=Qc (t2.own.hb p hp).1;omega
end
theorem Cp.front {w u:World} {a:CAd} {A B bs:List (Nat×Obj)} {p:Nat×Obj} {s:CSt} {sl ks:Value} {cv:List (Qj×Value)} {et:List (List UInt8×NumL×Value)} (h:Cp w a (A++p :: B) bs s sl ks cv et u):Cp w a (p :: (A++B)) bs s sl ks cv et u:=by
 refine h.sub (fun q hq=>List.perm_middle.mem_iff.2 hq) ?_
 have:=h.own.fnd
 rw [(List.perm_middle.map _).nodup_iff] at this
 exact this
theorem Cp.back {w u:World} {a:CAd} {A B bs:List (Nat×Obj)} {p:Nat×Obj} {s:CSt} {sl ks:Value} {cv:List (Qj×Value)} {et:List (List UInt8×NumL×Value)} (h:Cp w a (p :: (A++B)) bs s sl ks cv et u):Cp w a (A++p :: B) bs s sl ks cv et u:=by
 refine h.sub (fun q hq=>List.perm_middle.mem_iff.1 hq) ?_
 have:=h.own.fnd
 rw [(List.perm_middle.map _).nodup_iff]
 exact this
theorem Cp.perm {w u:World} {a:CAd} {A B bs:List (Nat×Obj)} {s:CSt} {sl ks:Value} {cv:List (Qj×Value)} {et:List (List UInt8×NumL×Value)} (h:Cp w a A bs s sl ks cv et u) (hp:A.Perm B):Cp w a B bs s sl ks cv et u:=by
 refine h.sub (fun q hq=>hp.mem_iff.2 hq) ?_
 have:=h.own.fnd
 rw [(hp.map _).nodup_iff] at this
 exact this
theorem Cp.back2 {w u:World} {a:CAd} {A B bs:List (Nat×Obj)} {p p':Nat×Obj} {s:CSt} {sl ks:Value} {cv:List (Qj×Value)} {et:List (List UInt8×NumL×Value)} (h:Cp w a (p :: p' :: (A++B)) bs s sl ks cv et u):Cp w a (A++p :: p' :: B) bs s sl ks cv et u:=
 h.perm (List.perm_middle.trans (List.perm_middle.cons p)).symm
theorem Cp.turnAt {w u u':World} {a:CAd} {A B bs:List (Nat×Obj)} {m:Nat} {o o':Obj} {s:CSt} {sl ks:Value} {cv:List (Qj×Value)} {et:List (List UInt8×NumL×Value)} (h:Cp w a (A++(m,o) :: B) bs s sl ks cv et u) (hk:Qb [m] u u') (ho:u'.heap[m]? = some o'):Cp w a (A++(m,o') :: B) bs s sl ks cv et u':=(h.front.setFr hk ho).back
theorem Cp.turn3 {w u u':World} {a:CAd} {A B bs:List (Nat×Obj)} {p1 p2:Nat×Obj} {m:Nat} {o o':Obj} {s:CSt} {sl ks:Value} {cv:List (Qj×Value)} {et:List (List UInt8×NumL×Value)} (h:Cp w a (A++p1 :: p2 :: (m,o) :: B) bs s sl ks cv et u) (hk:Qb [m] u u') (ho:u'.heap[m]? = some o'):Cp w a (A++p1 :: p2 :: (m,o') :: B) bs s sl ks cv et u':=by
 have:=Cp.turnAt (A:=A++[p1,p2]) (B:=B) (by simpa using h) hk ho
 simpa using this
theorem Cp.turn4 {w u u':World} {a:CAd} {A B bs:List (Nat×Obj)} {p1 p2 p3:Nat×Obj} {m:Nat} {o o':Obj} {s:CSt} {sl ks:Value} {cv:List (Qj×Value)} {et:List (List UInt8×NumL×Value)} (h:Cp w a (A++p1 :: p2 :: p3 :: (m,o) :: B) bs s sl ks cv et u) (hk:Qb [m] u u') (ho:u'.heap[m]? = some o'):Cp w a (A++p1 :: p2 :: p3 :: (m,o') :: B) bs s sl ks cv et u':=by
 have:=Cp.turnAt (A:=A++[p1,p2,p3]) (B:=B) (by simpa using h) hk ho
 simpa using this
theorem Cp.gave {w u:World} {a:CAd} {A B bs:List (Nat×Obj)} {p p':Nat×Obj} {s:CSt} {sl ks:Value} {cv:List (Qj×Value)} {et:List (List UInt8×NumL×Value)} (h:Cp w a (A++p :: p' :: B) bs s sl ks cv et u):Cp w a (A++B) (p :: bs) s sl ks cv et u:=
 (Cp.give (h.perm (List.perm_middle.trans (List.perm_middle.cons p)))).tail
abbrev Q3h (lo hi:Int) (x:Option Addr) (y z:Nat) (wd:Bool) (m:Nat) (ov:Value):Array Value:=#[.int .i64 lo,.int .i64 hi,.slice x y z,.bool wd,.map (some m),ov]
structure Qba (w:World) (a:CAd) (Fr bs:List (Nat×Obj)) (C:Value→Array Value) (S m:Nat) (q:USt) (esl:Value) (ur:World):Prop where
 nd:(q.ways.map (·.1)).Nodup
 ex:∃ bs' ov E sl ks cv et,(∀ p∈bs,p∈bs')∧Q3J bs' ov q.other∧(∃ pa,ov = .pointer pa)∧Q56 E esl q.ends∧Cp w a (E++((m,Q12 q.ways) :: (S,.cells (C ov) 321) :: Fr)) bs' q.s sl ks cv et ur
theorem Q2I {b:Nat} {c0 c1 c2 c3 c4 c5:Value} {T:TypeId} {w:World} (h:w.heap[b]? = some (.cells #[c0,c1,c2,c3,c4,c5] T)) :
  w.cell? ⟨b,0,none⟩=some c0∧w.cell? ⟨b,1,none⟩=some c1∧w.cell? ⟨b,2,none⟩=some c2∧w.cell? ⟨b,3,none⟩=some c3∧w.cell? ⟨b,4,none⟩=some c4∧w.cell? ⟨b,5,none⟩=some c5∧(∀ i,w.frozen? ⟨b,i,none⟩=false)∧b < w.heap.size:=by
 refine ⟨?_,?_,?_,?_,?_,?_,?_,Qc h⟩<;>simp [World.cell?,World.frozen?,h]
theorem Q0V {b:Nat} {c0 c1:Value} {T:TypeId} {w:World} (h:w.heap[b]? = some (.cells #[c0,c1] T)) :
  w.cell? ⟨b,0,none⟩=some c0∧w.cell? ⟨b,1,none⟩=some c1∧(∀ i,w.frozen? ⟨b,i,none⟩=false)∧b < w.heap.size:=by
 refine ⟨?_,?_,?_,Qc h⟩<;>simp [World.cell?,World.frozen?,h]
theorem QdS {b:Nat} {c0 c1 c2 c3:Value} {T:TypeId} {w:World} (h:w.heap[b]? = some (.cells #[c0,c1,c2,c3] T)) :
  w.cell? ⟨b,0,none⟩=some c0∧w.cell? ⟨b,1,none⟩=some c1∧w.cell? ⟨b,2,none⟩=some c2∧w.cell? ⟨b,3,none⟩=some c3∧(∀ i,w.frozen? ⟨b,i,none⟩=false)∧b < w.heap.size:=by
 refine ⟨?_,?_,?_,?_,?_,Qc h⟩<;>simp [World.cell?,World.frozen?,h]
theorem Q3J.more {bs bs':List (Nat×Obj)} (hb:∀ p∈bs,p∈bs') {v:Value} {o:Option (Nat×Nat)} (h:Q3J bs v o):Q3J bs' v o:=by
 cases o with
 | none=>exact h
 | some q=>obtain ⟨b,h1,h2⟩:=h;exact ⟨b,h1,hb _ h2⟩
theorem QhU {q:USt} {n:Nat} {x:List Int×Qr} (hx:Q74 x.2.ty) (h:Room q.s (n + 4)):Room (uArm q x).s n:=by
 have hc:=Q4M hx.deep
 exact Room.put (Room.value _ (h.less (by omega))) _
theorem Q7O:∀ (arms:List (List Int×Qr)) {q:USt} {n:Nat},Q3v arms→Room q.s (n + 4 * arms.length)→Room (arms.foldl uArm q).s n:=by
 intro arms
 induction arms with
 | nil=>intro q n _ h;exact h
 | cons x arms ih=>
  intro q n hty h
  exact ih (fun y hy=>hty y (List.mem_cons_of_mem _ hy)) (QhU (hty x (by simp)) (h.less (by simp only [List.length_cons];omega)))
theorem Qch:∀ (arms:List (List Int×Qr)) (q:USt),(arms.foldl uArm q).ends.length=q.ends.length + arms.length:=by
 intro arms
 induction arms with
 | nil=>intro q;rfl
 | cons x arms ih=>intro q;simp only [List.foldl_cons];rw [ih];simp [uArm];omega
theorem QhV:∀ (arms:List (List Int×Qr)) (q:USt),q.s.code.length≤(arms.foldl uArm q).s.code.length:=by
 intro arms
 induction arms with
 | nil=>intro q;exact Nat.le_refl _
 | cons x arms ih=>
  intro q
  simp only [List.foldl_cons]
  refine Nat.le_trans ?_ (ih (uArm q x))
  simp only [uArm,Q5Y,armM,Q1L]
  omega
theorem QjW:∀ (arms:List (List Int×Qr)) (q:USt),(∀ e∈q.ends,e < q.s.code.length)→∀ e∈(arms.foldl uArm q).ends,e < (arms.foldl uArm q).s.code.length:=by
 intro arms
 induction arms with
 | nil=>intro q h;exact h
 | cons x arms ih=>
  intro q h
  simp only [List.foldl_cons]
  refine ih (uArm q x) ?_
  intro e he
  simp only [uArm,List.mem_append,List.mem_singleton] at he ⊢
  simp only [Q5Y,armM,Q1L] at he ⊢
  rcases he with he | rfl
  ·have:=h e he
   omega
  ·omega
theorem Q57 (l:List Nat):∀ s:CSt,(Q1Q l s).code.length=s.code.length:=by
 induction l with
 | nil=>intro s;rfl
 | cons i l ih=>
  intro s
  have:=ih (setM i (.jump s.code.length) s)
  simp only [setM,List.length_set] at this
  exact this
theorem QeY (l:List Nat) (i:Nat) (s:CSt):Q1Q (l++[i]) s=setM i (.jump s.code.length) (Q1Q l s):=by
 have:=Q57 l s
 simp only [Q1Q,List.foldl_append,List.foldl_cons,List.foldl_nil] at this ⊢
 rw [this]
theorem QdT:(Tryz.prog.info? 3).map (fun i=>(i.zero,i.size,i.bytes))=some (some (.int .i64 0),1,8):=by kernel_rfl
end Go.Proofs.YtmbcibgknckenaaGreatDoor
