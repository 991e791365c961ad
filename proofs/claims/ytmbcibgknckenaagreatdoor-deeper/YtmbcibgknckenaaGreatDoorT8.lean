import Derived.Test.YtmbcibgknckenaaGreatDoorT7
set_option linter.all false
set_option maxRecDepth 100000
set_option maxHeartbeats 4000000
namespace Go.Proofs.YtmbcibgknckenaaGreatDoor
structure Q0j where
 kind:Nat
 n:Int
 s:List UInt8
 len:Nat
 at':Nat
structure DSt where
 pos:Nat
 nodes:List Q0j
def bigL (l:List UInt8):Nat:=l.foldl (fun n c=>n * 256 + c.toNat) 0
def Q0A (n:NumL) (v:Nat):Int:=if n.low < 0 then (if v < 2147483648 then (v:Int) else (v:Int) - 4294967296) else v
def Q2U (v:Nat):Int:=if v < 9223372036854775808 then (v:Int) else (v:Int) - 18446744073709551616
def Q0i (n:Nat):Nat:=(n + 3) / 4 * 4
section
variable (b : List UInt8)
def Q27 (k:Nat) (d:DSt):Except Mar.Fault (List UInt8×DSt):=if b.length < d.pos + k then .error ⟨16,d.pos⟩ else .ok ((b.drop d.pos).take k,{ d with pos:=d.pos + k })
def Q2F (d:DSt):Except Mar.Fault (Nat×DSt):=thenE (Q27 b 4 d) fun p=>.ok (bigL p.1,p.2)
def Q0Z (n:NumL) (d:DSt):Except Mar.Fault (Int×DSt):=
 if n.wide then thenE (Q27 b 8 d) fun p=>.ok (Q2U (bigL p.1),p.2) else thenE (Q2F b d) fun p=>.ok (Q0A n p.1,p.2)
def Q0y (n:Int) (f:Bool) (d:DSt):Except Mar.Fault (Nat×DSt):=
 if f then .ok (n.toNat,d) else thenE (Q2F b d) fun p=>if (p.1:Int)≤n then .ok p else .error ⟨19,d.pos⟩
def Q1M:Nat→List UInt8→Option Nat
 | _,[]=>none
 | i,c :: t=>if c=0 then Q1M (i + 1) t else some i
def Q1j (n:Nat) (d:DSt):Except Mar.Fault (List UInt8×DSt):=thenE (Q27 b (Q0i n) d) fun p=>match Q1M n (p.1.drop n) with
 | some i=>.error ⟨17,d.pos + i⟩
 | none=>.ok (p.1.take n,p.2)
def putD (x:Q0j) (d:DSt):DSt:={ d with nodes:=d.nodes++[x] }
variable (depth fuel : Nat)
def Q0x (d:DSt):Except Mar.Fault DSt:=if fuel≤d.nodes.length then .error ⟨15,d.pos⟩ else .ok d
def decW:Wk DSt where
 enter k d:=if depth≤k then .error ⟨13,d.pos⟩ else .ok d
 num n d:=thenE (Q0x fuel d) fun d=>thenE (Q0Z b n d) fun p=>if n.has p.1 then .ok (putD ⟨1,p.1,[],0,0⟩ p.2) else .error ⟨18,d.pos⟩
 text n f d:=thenE (Q0x fuel d) fun d=>thenE (Q0y b n f d) fun p=>thenE (Q1j b p.1 p.2) fun q=>.ok (putD ⟨2,0,q.1,0,p.2.pos⟩ q.2)
 list n f d:=thenE (Q0x fuel d) fun d=>thenE (Q0y b n f d) fun p=>.ok (p.1,putD ⟨3,0,[],p.1,0⟩ p.2)
 arm n v d:=thenE (Q0x fuel d) fun d=>thenE (Q2F b d) fun p=>match v (Q0A n p.1) with
  | none=>.error ⟨18,d.pos⟩
  | some k=>.ok (Q0A n p.1,putD ⟨4,Q0A n p.1,[],k,0⟩ p.2)
end
def Q0z (E:Env) (n:List UInt8) (b:List UInt8) (depth fuel size:Nat):Except Mar.Fault (List Q0j):=
 if size < b.length then .error ⟨14,0⟩ else thenE (Q0R (decW b depth fuel) E 64 0 n ⟨0,[]⟩) fun d=>if d.pos < b.length then .error ⟨20,d.pos⟩ else .ok d.nodes
theorem Qh {α β:Type} {r:Except Mar.Fault α} {f:α→Except Mar.Fault β} {x:β} (h:thenE r f = .ok x):∃ a,r = .ok a∧f a = .ok x:=by
 cases r with
 | error e=>cases h
 | ok a=>exact ⟨a,rfl,h⟩
abbrev Q0j.said (x:Q0j):Nat×Int×List UInt8×Nat:=(x.kind,x.n,x.s,x.len)
def seg (a:List UInt8) (p q:Nat):List UInt8:=(a.drop p).take (q - p)
theorem Q7x (a:List UInt8) {p q r:Nat} (h1:p≤q) (h2:q≤r):seg a p q++seg a q r=seg a p r:=by
 unfold seg
 have e:r - p=(q - p) + (r - q):=by omega
 rw [e,List.take_add,List.drop_drop]
 congr 3
 omega
structure Goes (a:List UInt8) (d d':DSt) (N:List Q0j):Prop where
 nodes:d'.nodes=d.nodes++N
 le:d.pos≤d'.pos
 within:d.pos≤a.length→d'.pos≤a.length
def Pair {α:Type} (a b:List UInt8) (f g:DSt→Except Mar.Fault (α×DSt)):Prop:=∀ d e d' e' x y,f d = .ok (x,d')→g e = .ok (y,e')→∃ N M,Goes a d d' N∧Goes b e e' M ∧
 ∀ X Y,N.map Q0j.said++X=M.map Q0j.said++Y→N.map Q0j.said=M.map Q0j.said∧x=y∧seg a d.pos d'.pos=seg b e.pos e'.pos
def QF (f:Den DSt):DSt→Except Mar.Fault (Unit×DSt):=fun d=>thenE (f d) fun d'=>.ok ((),d')
abbrev QlT (a b:List UInt8) (f g:Den DSt):Prop:=Pair a b (QF f) (QF g)
theorem Q1S {f:Den DSt} {d d':DSt} {u:Unit}:QF f d = .ok (u,d')↔f d = .ok d':=by
 unfold QF
 cases f d<;>simp [thenE]
theorem Goes.trans {a:List UInt8} {d d1 d2:DSt} {N M:List Q0j} (h:Goes a d d1 N) (k:Goes a d1 d2 M):Goes a d d2 (N++M):=
 ⟨by rw [k.nodes,h.nodes];simp,Nat.le_trans h.le k.le,fun hl=>k.within (h.within hl)⟩
theorem Qiq {α β:Type} {a b:List UInt8} {f g:DSt→Except Mar.Fault (α×DSt)} {f2 g2:α→DSt→Except Mar.Fault (β×DSt)} (h:Pair a b f g) (h2:∀ x,Pair a b (f2 x) (g2 x)) (h3:∀ x y d e d' e' u v,f2 x d = .ok (u,d')→g2 y e = .ok (v,e')→∃ N M,Goes a d d' N∧Goes b e e' M) :
  Pair a b (fun d=>thenE (f d) fun p=>f2 p.1 p.2) (fun d=>thenE (g d) fun p=>g2 p.1 p.2):=by
 intro d e d' e' x y hx hy
 obtain ⟨⟨x1,d1⟩,hf,hf2⟩:=Qh hx
 obtain ⟨⟨y1,e1⟩,hg,hg2⟩:=Qh hy
 obtain ⟨N,M,n1,m1,k1⟩:=h d e d1 e1 x1 y1 hf hg
 obtain ⟨N2,M2,n2,m2⟩:=h3 x1 y1 d1 e1 d' e' x y hf2 hg2
 refine ⟨N++N2,M++M2,n1.trans n2,m1.trans m2,?_⟩
 intro X Y hXY
 simp only [List.map_append,List.append_assoc] at hXY
 obtain ⟨q1,q2,q3⟩:=k1 _ _ hXY
 rw [q1] at hXY
 have hXY2:=List.append_cancel_left hXY
 subst q2
 obtain ⟨N3,M3,n3,m3,k3⟩:=h2 x1 d1 e1 d' e' x y hf2 hg2
 have eN:N2=N3:=List.append_cancel_left (n2.nodes.symm.trans n3.nodes)
 have eM:M2=M3:=List.append_cancel_left (m2.nodes.symm.trans m3.nodes)
 subst eN
 subst eM
 obtain ⟨r1,r2,r3⟩:=k3 X Y hXY2
 refine ⟨by rw [List.map_append,List.map_append,q1,r1],r2,?_⟩
 rw [← Q7x a n1.le n2.le,← Q7x b m1.le m2.le,q3,r3]
def Fwd {α:Type} (a:List UInt8) (f:DSt→Except Mar.Fault (α×DSt)):Prop:=∀ d d' x,f d = .ok (x,d')→∃ N,Goes a d d' N
theorem Pair.fwd {α:Type} {a:List UInt8} {f:DSt→Except Mar.Fault (α×DSt)} (h:Pair a a f f):Fwd a f:=fun d d' x hx=>by
 obtain ⟨N,M,h1,_⟩:=h d d d' d' x x hx hx
 exact ⟨N,h1⟩
theorem Q5o {a:List UInt8} {k:Nat} {d d':DSt} {l:List UInt8} (h:Q27 a k d = .ok (l,d')):l=seg a d.pos d'.pos∧d'.pos=d.pos + k∧d'.nodes=d.nodes∧d'.pos≤a.length∧l.length=k:=by
 unfold Q27 at h
 split at h
 ·cases h
 ·cases h
  refine ⟨by unfold seg;simp,rfl,rfl,by simp only;omega,?_⟩
  simp
  omega
theorem Q7P {l m:List UInt8} (h1:l.length=4) (h2:m.length=4) (h:bigL l=bigL m):l=m:=by
 match l,m,h1,h2 with
 | [a,b,c,d],[a',b',c',d'],_,_=>
  simp only [bigL,List.foldl_cons,List.foldl_nil] at h
  have:=a.toNat_lt;have:=b.toNat_lt;have:=c.toNat_lt;have:=d.toNat_lt
  have:=a'.toNat_lt;have:=b'.toNat_lt;have:=c'.toNat_lt;have:=d'.toNat_lt
  have e1:a=a':=UInt8.toNat_inj.1 (by omega)
  have e2:b=b':=UInt8.toNat_inj.1 (by omega)
  have e3:c=c':=UInt8.toNat_inj.1 (by omega)
  have e4:d=d':=UInt8.toNat_inj.1 (by omega)
  rw [e1,e2,e3,e4]
theorem Q28 {l:List UInt8} (h1:l.length=4):bigL l < 4294967296:=by
 match l,h1 with
 | [a,b,c,d],_=>
  simp only [bigL,List.foldl_cons,List.foldl_nil]
  have:=a.toNat_lt;have:=b.toNat_lt;have:=c.toNat_lt;have:=d.toNat_lt
  omega
theorem Qk0 {l m:List UInt8} (h1:l.length=8) (h2:m.length=8) (h:bigL l=bigL m):l=m:=by
 match l,m,h1,h2 with
 | [a,b,c,d,e,f,g,i],[a',b',c',d',e',f',g',i'],_,_=>
  simp only [bigL,List.foldl_cons,List.foldl_nil] at h
  have:=a.toNat_lt;have:=b.toNat_lt;have:=c.toNat_lt;have:=d.toNat_lt
  have:=a'.toNat_lt;have:=b'.toNat_lt;have:=c'.toNat_lt;have:=d'.toNat_lt
  have:=e.toNat_lt;have:=f.toNat_lt;have:=g.toNat_lt;have:=i.toNat_lt
  have:=e'.toNat_lt;have:=f'.toNat_lt;have:=g'.toNat_lt;have:=i'.toNat_lt
  have e1:a=a':=UInt8.toNat_inj.1 (by omega)
  have e2:b=b':=UInt8.toNat_inj.1 (by omega)
  have e3:c=c':=UInt8.toNat_inj.1 (by omega)
  have e4:d=d':=UInt8.toNat_inj.1 (by omega)
  have e5:e=e':=UInt8.toNat_inj.1 (by omega)
  have e6:f=f':=UInt8.toNat_inj.1 (by omega)
  have e7:g=g':=UInt8.toNat_inj.1 (by omega)
  have e8:i=i':=UInt8.toNat_inj.1 (by omega)
  rw [e1,e2,e3,e4,e5,e6,e7,e8]
theorem Q94 {l:List UInt8} (h1:l.length=8):bigL l < 18446744073709551616:=by
 match l,h1 with
 | [a,b,c,d,e,f,g,i],_=>
  simp only [bigL,List.foldl_cons,List.foldl_nil]
  have:=a.toNat_lt;have:=b.toNat_lt;have:=c.toNat_lt;have:=d.toNat_lt
  have:=e.toNat_lt;have:=f.toNat_lt;have:=g.toNat_lt;have:=i.toNat_lt
  omega
theorem QaF {n:NumL} {x y:Nat} (hx:x < 4294967296) (hy:y < 4294967296) (h:Q0A n x=Q0A n y):x=y:=by
 unfold Q0A at h
 split at h
 ·split at h<;>split at h<;>omega
 ·omega
theorem QgM {x y:Nat} (hx:x < 18446744073709551616) (hy:y < 18446744073709551616) (h:Q2U x=Q2U y):x=y:=by
 unfold Q2U at h
 split at h<;>split at h<;>omega
theorem Q29 {a:List UInt8} {d d':DSt} {v:Nat} (h:Q2F a d = .ok (v,d')):v=bigL (seg a d.pos d'.pos)∧(seg a d.pos d'.pos).length=4∧d'.pos=d.pos + 4∧d'.nodes=d.nodes∧d'.pos≤a.length:=by
 obtain ⟨⟨l,d1⟩,h1,h2⟩:=Qh h
 cases h2
 obtain ⟨e1,e2,e3,e4,e5⟩:=Q5o h1
 simp only
 exact ⟨by rw [e1],by rw [← e1];exact e5,e2,e3,e4⟩
theorem Q4K {a:List UInt8} {n:NumL} {d d':DSt} {v:Int} (h:Q0Z a n d = .ok (v,d')):v=(if n.wide then Q2U (bigL (seg a d.pos d'.pos)) else Q0A n (bigL (seg a d.pos d'.pos)))∧(seg a d.pos d'.pos).length=(if n.wide then 8 else 4)∧d.pos≤d'.pos∧d'.nodes=d.nodes∧d'.pos≤a.length:=by
 unfold Q0Z at h
 cases hw:n.wide with
 | true=>
  rw [hw] at h
  simp only [if_true] at h ⊢
  obtain ⟨⟨l,d1⟩,h1,h2⟩:=Qh h
  cases h2
  obtain ⟨e1,e2,e3,e4,e5⟩:=Q5o h1
  simp only
  exact ⟨by rw [e1],by rw [← e1];exact e5,by omega,e3,e4⟩
 | false=>
  rw [hw] at h
  simp only [Bool.false_eq_true,if_false] at h ⊢
  obtain ⟨⟨l,d1⟩,h1,h2⟩:=Qh h
  cases h2
  obtain ⟨e1,e2,e3,e4,e5⟩:=Q29 h1
  exact ⟨by rw [e1],e2,by simp only at e3 ⊢;omega,e4,e5⟩
theorem Q1o {a:List UInt8} {n:Int} {f:Bool} {d d':DSt} {v:Nat} (h:Q0y a n f d = .ok (v,d')):d.pos≤d'.pos∧d'.nodes=d.nodes∧(d.pos≤a.length→d'.pos≤a.length) ∧
  (if f then v=n.toNat∧d'=d else v=bigL (seg a d.pos d'.pos)∧(seg a d.pos d'.pos).length=4):=by
 unfold Q0y at h
 cases f with
 | true=>
  simp only [if_true] at h
  cases h
  exact ⟨Nat.le_refl _,rfl,id,rfl,rfl⟩
 | false=>
  simp only [Bool.false_eq_true,if_false] at h ⊢
  obtain ⟨⟨l,d1⟩,h1,h2⟩:=Qh h
  split at h2
  ·cases h2
   obtain ⟨e1,e2,e3,e4,e5⟩:=Q29 h1
   exact ⟨by omega,e4,fun _=>e5,e1,e2⟩
  ·cases h2
theorem QeV:∀ (l:List UInt8) (i:Nat),Q1M i l=none→l=List.replicate l.length 0:=by
 intro l
 induction l with
 | nil=>intro i _;rfl
 | cons c t ih=>
  intro i h
  unfold Q1M at h
  split at h
  ·rename_i hc
   simp only [List.length_cons,List.replicate_succ,hc]
   rw [← ih _ h]
  ·cases h
theorem Q4L {a:List UInt8} {n:Nat} {d d':DSt} {l:List UInt8} (h:Q1j a n d = .ok (l,d')):seg a d.pos d'.pos=l++List.replicate (Q0i n - n) 0∧l.length=n∧d.pos≤d'.pos∧d'.nodes=d.nodes∧d'.pos≤a.length:=by
 obtain ⟨⟨w,d1⟩,h1,h2⟩:=Qh h
 obtain ⟨e1,e2,e3,e4,e5⟩:=Q5o h1
 simp only at h2
 split at h2
 ·cases h2
 ·rename_i hb
  cases h2
  have hn:n≤Q0i n:=by unfold Q0i;omega
  have hr:=QeV _ _ hb
  refine ⟨?_,by simp [e5];omega,by omega,e3,e4⟩
  rw [← e1]
  conv=>lhs;rw [← List.take_append_drop n w]
  rw [hr]
  simp [e5]
section
variable {a b : List UInt8} {da fa db fb : Nat}
theorem Q2d {fuel:Nat} {d d':DSt} (h:Q0x fuel d = .ok d'):d'=d:=by
 unfold Q0x at h
 split at h
 ·cases h
 ·cases h;rfl
theorem Q5p (n:NumL):QlT a b ((decW a da fa).num n) ((decW b db fb).num n):=by
 intro d e d' e' x y hx hy
 rw [Q1S] at hx hy
 obtain ⟨d0,hb,hx1⟩:=Qh hx
 obtain ⟨e0,hb',hy1⟩:=Qh hy
 have:=Q2d hb;subst this
 have:=Q2d hb';subst this
 obtain ⟨⟨v,d1⟩,h1,h2⟩:=Qh hx1
 obtain ⟨⟨v',e1⟩,h1',h2'⟩:=Qh hy1
 simp only at h2 h2'
 split at h2
 ·split at h2'
  ·cases h2
   cases h2'
   obtain ⟨p1,p2,p3,p4,p5⟩:=Q4K h1
   obtain ⟨q1,q2,q3,q4,q5⟩:=Q4K h1'
   refine ⟨[_],[_],⟨by simp only [putD];rw [p4],p3,fun _=>p5⟩,⟨by simp only [putD];rw [q4],q3,fun _=>q5⟩,?_⟩
   intro X Y h
   simp only [List.map_cons,List.map_nil,List.cons_append,List.nil_append,List.cons.injEq,Prod.mk.injEq] at h ⊢
   obtain ⟨⟨_,hv,_⟩,_⟩:=h
   refine ⟨by simp [hv],trivial,?_⟩
   rw [p1,q1] at hv
   simp only [putD]
   cases hw:n.wide with
   | true=>
    simp only [hw,if_true] at hv p2 q2
    exact Qk0 p2 q2 (QgM (Q94 p2) (Q94 q2) hv)
   | false=>
    simp only [hw,Bool.false_eq_true,if_false] at hv p2 q2
    exact Q7P p2 q2 (QaF (Q28 p2) (Q28 q2) hv)
  ·cases h2'
 ·cases h2
theorem QaG {n:Int} {f:Bool} {d d' e e':DSt} {v:Nat} (h:Q0y a n f d = .ok (v,d')) (k:Q0y b n f e = .ok (v,e')):seg a d.pos d'.pos=seg b e.pos e'.pos:=by
 obtain ⟨_,_,_,h4⟩:=Q1o h
 obtain ⟨_,_,_,k4⟩:=Q1o k
 cases f with
 | true=>
  simp only [if_true] at h4 k4
  rw [h4.2,k4.2]
  simp [seg]
 | false=>
  simp only [Bool.false_eq_true,if_false] at h4 k4
  exact Q7P h4.2 k4.2 (h4.1.symm.trans k4.1)
theorem Q4M (n:Int) (f:Bool):QlT a b ((decW a da fa).text n f) ((decW b db fb).text n f):=by
 intro d e d' e' x y hx hy
 rw [Q1S] at hx hy
 obtain ⟨d0,hb,hx1⟩:=Qh hx
 obtain ⟨e0,hb',hy1⟩:=Qh hy
 have:=Q2d hb;subst this
 have:=Q2d hb';subst this
 obtain ⟨⟨v,d1⟩,h1,h2⟩:=Qh hx1
 obtain ⟨⟨v',e1⟩,h1',h2'⟩:=Qh hy1
 obtain ⟨⟨l,d2⟩,h3,h4⟩:=Qh h2
 obtain ⟨⟨l',e2⟩,h3',h4'⟩:=Qh h2'
 cases h4
 cases h4'
 obtain ⟨c1,c2,c3,c4⟩:=Q1o h1
 obtain ⟨c1',c2',c3',c4'⟩:=Q1o h1'
 obtain ⟨p1,p2,p3,p4,p5⟩:=Q4L h3
 obtain ⟨p1',p2',p3',p4',p5'⟩:=Q4L h3'
 refine ⟨[_],[_],⟨by simp only [putD];rw [p4,c2],Nat.le_trans c1 p3,fun _=>p5⟩,⟨by simp only [putD];rw [p4',c2'],Nat.le_trans c1' p3',fun _=>p5'⟩,?_⟩
 intro X Y h
 simp only [List.map_cons,List.map_nil,List.cons_append,List.nil_append,List.cons.injEq,Prod.mk.injEq] at h ⊢
 obtain ⟨⟨_,_,hl,_⟩,_⟩:=h
 refine ⟨by simp [hl],trivial,?_⟩
 have hv:v=v':=by
  have e1:l.length=v:=p2
  have e2:l'.length=v':=p2'
  rw [← e1,← e2,hl]
 subst hv
 simp only [putD]
 rw [← Q7x a c1 p3,← Q7x b c1' p3',QaG h1 h1',p1,p1',hl]
theorem Q4N (n:Int) (f:Bool):Pair a b ((decW a da fa).list n f) ((decW b db fb).list n f):=by
 intro d e d' e' x y hx hy
 obtain ⟨d0,hb,hx1⟩:=Qh hx
 obtain ⟨e0,hb',hy1⟩:=Qh hy
 have:=Q2d hb;subst this
 have:=Q2d hb';subst this
 obtain ⟨⟨v,d1⟩,h1,h2⟩:=Qh hx1
 obtain ⟨⟨v',e1⟩,h1',h2'⟩:=Qh hy1
 cases h2
 cases h2'
 obtain ⟨c1,c2,c3,c4⟩:=Q1o h1
 obtain ⟨c1',c2',c3',c4'⟩:=Q1o h1'
 refine ⟨[_],[_],⟨by simp only [putD];rw [c2],c1,c3⟩,⟨by simp only [putD];rw [c2'],c1',c3'⟩,?_⟩
 intro X Y h
 simp only [List.map_cons,List.map_nil,List.cons_append,List.nil_append,List.cons.injEq,Prod.mk.injEq] at h ⊢
 obtain ⟨⟨_,_,_,hv⟩,_⟩:=h
 subst hv
 refine ⟨by simp,rfl,?_⟩
 simp only [putD]
 exact QaG h1 h1'
theorem Q5q (n:NumL) (v:Int→Option Nat):Pair a b ((decW a da fa).arm n v) ((decW b db fb).arm n v):=by
 intro d e d' e' x y hx hy
 obtain ⟨d0,hb,hx1⟩:=Qh hx
 obtain ⟨e0,hb',hy1⟩:=Qh hy
 have:=Q2d hb;subst this
 have:=Q2d hb';subst this
 obtain ⟨⟨w,d1⟩,h1,h2⟩:=Qh hx1
 obtain ⟨⟨w',e1⟩,h1',h2'⟩:=Qh hy1
 simp only at h2 h2'
 split at h2
 ·cases h2
 ·split at h2'
  ·cases h2'
  ·cases h2
   cases h2'
   obtain ⟨p1,p2,p3,p4,p5⟩:=Q29 h1
   obtain ⟨q1,q2,q3,q4,q5⟩:=Q29 h1'
   refine ⟨[_],[_],⟨by simp only [putD];rw [p4],by simp only [putD];omega,fun _=>p5⟩,⟨by simp only [putD];rw [q4],by simp only [putD];omega,fun _=>q5⟩,?_⟩
   intro X Y h
   simp only [List.map_cons,List.map_nil,List.cons_append,List.nil_append,List.cons.injEq,Prod.mk.injEq] at h ⊢
   obtain ⟨⟨_,hv,_,hk⟩,_⟩:=h
   refine ⟨by simp [hv,hk],hv,?_⟩
   simp only [putD]
   exact Q7P p2 q2 (by rw [← p1,← q1];exact QaF (by rw [p1];exact Q28 p2) (by rw [q1];exact Q28 q2) hv)
end
structure Both {α:Type} (a b:List UInt8) (f g:DSt→Except Mar.Fault (α×DSt)):Prop where
 ab:Pair a b f g
 fa:Fwd a f
 fb:Fwd b g
theorem Both.then {α β:Type} {a b:List UInt8} {f g:DSt→Except Mar.Fault (α×DSt)} {f2 g2:α→DSt→Except Mar.Fault (β×DSt)} (h:Both a b f g) (h2:∀ x,Both a b (f2 x) (g2 x)) :
  Both a b (fun d=>thenE (f d) fun p=>f2 p.1 p.2) (fun d=>thenE (g d) fun p=>g2 p.1 p.2):=by
 refine ⟨Qiq h.ab (fun x=>(h2 x).ab) ?_,?_,?_⟩
 ·intro x y d e d' e' u v hx hy
  obtain ⟨N,hN⟩:=(h2 x).fa _ _ _ hx
  obtain ⟨M,hM⟩:=(h2 y).fb _ _ _ hy
  exact ⟨N,M,hN,hM⟩
 ·intro d d' x hx
  obtain ⟨⟨x1,d1⟩,h1,h3⟩:=Qh hx
  obtain ⟨N,hN⟩:=h.fa _ _ _ h1
  obtain ⟨M,hM⟩:=(h2 x1).fa _ _ _ h3
  exact ⟨N++M,hN.trans hM⟩
 ·intro d d' x hx
  obtain ⟨⟨x1,d1⟩,h1,h3⟩:=Qh hx
  obtain ⟨N,hN⟩:=h.fb _ _ _ h1
  obtain ⟨M,hM⟩:=(h2 x1).fb _ _ _ h3
  exact ⟨N++M,hN.trans hM⟩
theorem Q4O {α:Type} {a b:List UInt8} {f g:DSt→Except Mar.Fault (α×DSt)} (h:Pair a b f g) (ha:Pair a a f f) (hb:Pair b b g g):Both a b f g:=⟨h,ha.fwd,hb.fwd⟩
theorem Q74 {a b:List UInt8}:Both a b (QF fun d=>.ok d) (QF fun d=>.ok d):=by
 refine ⟨?_,?_,?_⟩
 ·intro d e d' e' x y hx hy
  rw [Q1S] at hx hy
  cases hx
  cases hy
  exact ⟨[],[],⟨by simp,Nat.le_refl _,id⟩,⟨by simp,Nat.le_refl _,id⟩,fun X Y _=>⟨rfl,rfl,by simp [seg]⟩⟩
 ·intro d d' x hx
  rw [Q1S] at hx
  cases hx
  exact ⟨[],by simp,Nat.le_refl _,id⟩
 ·intro d d' x hx
  rw [Q1S] at hx
  cases hx
  exact ⟨[],by simp,Nat.le_refl _,id⟩
theorem Q5I {a b:List UInt8} (x y:DSt→Mar.Fault):Both a b (QF fun d=>.error (x d)) (QF fun d=>.error (y d)):=by
 refine ⟨?_,?_,?_⟩
 ·intro d e d' e' u v hx hy
  rw [Q1S] at hx
  cases hx
 ·intro d d' u hx
  rw [Q1S] at hx
  cases hx
 ·intro d d' u hx
  rw [Q1S] at hx
  cases hx
theorem Q2V {α:Type} (f:DSt→Except Mar.Fault (α×DSt)) (f2:α→Den DSt):QF (fun d=>thenE (f d) fun p=>f2 p.1 p.2)=fun d=>thenE (f d) fun p=>QF (f2 p.1) p.2:=by
 funext d
 simp only [QF]
 cases f d<;>rfl
theorem Q3g (f f2:Den DSt):QF (fun d=>thenE (f d) f2)=fun d=>thenE (QF f d) fun p=>QF f2 p.2:=by
 funext d
 simp only [QF]
 cases f d<;>rfl
section
variable {a b : List UInt8} {da fa db fb : Nat} {n1 n2 : List UInt8 → Den DSt}
theorem Qdz {f g:Den DSt} (h:Both a b (QF f) (QF g)):∀ k,Both a b (QF (rep f k)) (QF (rep g k)):=by
 intro k
 induction k with
 | zero=>exact Q74
 | succ k ih=>
  have e1:QF (rep f (k + 1))=fun d=>thenE (QF f d) fun p=>QF (rep f k) p.2:=Q3g f (rep f k)
  have e2:QF (rep g (k + 1))=fun d=>thenE (QF g d) fun p=>QF (rep g k) p.2:=Q3g g (rep g k)
  rw [e1,e2]
  exact h.then fun _=>ih
theorem Q6d (hn:∀ n,Both a b (QF (n1 n)) (QF (n2 n))) (t:Ty):Both a b (QF (tyD (decW a da fa) n1 t)) (QF (tyD (decW b db fb) n2 t)):=by
 induction t with
 | named n p=>exact hn n
 | plain k=>exact Q4O (Q5p _) (Q5p _) (Q5p _)
 | opaq n f=>exact Q4O (Q4M _ _) (Q4M _ _) (Q4M _ _)
 | str n f=>exact Q4O (Q4M _ _) (Q4M _ _) (Q4M _ _)
 | void=>exact Q74
 | arr o n f ih=>
  have e1:QF (tyD (decW a da fa) n1 (.arr o n f))=fun d=>thenE ((decW a da fa).list n f d) fun p=>QF (rep (tyD (decW a da fa) n1 o) p.1) p.2:=Q2V _ fun k=>rep (tyD (decW a da fa) n1 o) k
  have e2:QF (tyD (decW b db fb) n2 (.arr o n f))=fun d=>thenE ((decW b db fb).list n f d) fun p=>QF (rep (tyD (decW b db fb) n2 o) p.1) p.2:=Q2V _ fun k=>rep (tyD (decW b db fb) n2 o) k
  rw [e1,e2]
  exact (Q4O (Q4N _ _) (Q4N _ _) (Q4N _ _)).then fun k=>Qdz ih k
 | opt o ih=>
  have e1:QF (tyD (decW a da fa) n1 (.opt o))=fun d=>thenE ((decW a da fa).arm (QI 4) Q2A d) fun p=>QF (if p.1=1 then tyD (decW a da fa) n1 o else fun d=>.ok d) p.2:=by
   refine (Eq.trans ?_ (Q2V _ fun k=>if k=1 then tyD (decW a da fa) n1 o else fun d=>.ok d))
   congr 1
   funext d
   simp only [tyD]
   congr 1
   funext p
   split<;>rfl
  have e2:QF (tyD (decW b db fb) n2 (.opt o))=fun d=>thenE ((decW b db fb).arm (QI 4) Q2A d) fun p=>QF (if p.1=1 then tyD (decW b db fb) n2 o else fun d=>.ok d) p.2:=by
   refine (Eq.trans ?_ (Q2V _ fun k=>if k=1 then tyD (decW b db fb) n2 o else fun d=>.ok d))
   congr 1
   funext d
   simp only [tyD]
   congr 1
   funext p
   split<;>rfl
  rw [e1,e2]
  refine Both.then (f2:=fun k=>QF (if k=1 then tyD (decW a da fa) n1 o else fun d=>.ok d)) (g2:=fun k=>QF (if k=1 then tyD (decW b db fb) n2 o else fun d=>.ok d)) (Q4O (Q5q _ _) (Q5q _ _) (Q5q _ _)) fun k=>?_
  by_cases hk:k=1
  ·simp only [hk,if_true]
   exact ih
  ·simp only [hk,if_false]
   exact Q74
theorem QdA (hn:∀ n,Both a b (QF (n1 n)) (QF (n2 n))):∀ ts:List Ty,Both a b (QF (allD (decW a da fa) n1 ts)) (QF (allD (decW b db fb) n2 ts)):=by
 intro ts
 induction ts with
 | nil=>exact Q74
 | cons t ts ih=>
  have e1:QF (allD (decW a da fa) n1 (t :: ts))=fun d=>thenE (QF (tyD (decW a da fa) n1 t) d) fun p=>QF (allD (decW a da fa) n1 ts) p.2:=Q3g _ _
  have e2:QF (allD (decW b db fb) n2 (t :: ts))=fun d=>thenE (QF (tyD (decW b db fb) n2 t) d) fun p=>QF (allD (decW b db fb) n2 ts) p.2:=Q3g _ _
  rw [e1,e2]
  exact (Q6d hn t).then fun _=>ih
theorem Qk1 {E:Env} (hn:∀ n,Both a b (QF (n1 n)) (QF (n2 n))) (df:DefL):Both a b (QF (defD (decW a da fa) E n1 df)) (QF (defD (decW b db fb) E n2 df)):=by
 cases df with
 | const t p v=>exact Q5I (fun _=>⟨0,0⟩) (fun _=>⟨0,0⟩)
 | prog t p v n=>exact Q5I (fun _=>⟨0,0⟩) (fun _=>⟨0,0⟩)
 | typedef t=>exact Q6d hn t.ty
 | enum t p ms=>exact Q4O (Q5p _) (Q5p _) (Q5p _)
 | struct t p ms=>
  have e1:QF (defD (decW a da fa) E n1 (.struct t p ms))=fun d=>thenE ((decW a da fa).list ms.length true d) fun q=>QF (allD (decW a da fa) n1 (ms.map (·.ty))) q.2:=Q2V _ fun _=>allD (decW a da fa) n1 (ms.map Qs.ty)
  have e2:QF (defD (decW b db fb) E n2 (.struct t p ms))=fun d=>thenE ((decW b db fb).list ms.length true d) fun q=>QF (allD (decW b db fb) n2 (ms.map (·.ty))) q.2:=Q2V _ fun _=>allD (decW b db fb) n2 (ms.map Qs.ty)
  rw [e1,e2]
  exact (Q4O (Q4N _ _) (Q4N _ _) (Q4N _ _)).then fun _=>QdA hn _
 | union t p s arms=>
  have e1:QF (defD (decW a da fa) E n1 (.union t p s arms))=fun d=>thenE ((decW a da fa).arm (selD E s.ty) (Q2I E s.ty arms) d) fun q=>QF (match Q1D arms q.1 with | some t=>tyD (decW a da fa) n1 t | none=>fun _=>.error ⟨0,0⟩) q.2:=by
   refine (Eq.trans ?_ (Q2V _ fun k=>match Q1D arms k with | some t=>tyD (decW a da fa) n1 t | none=>fun _=>.error ⟨0,0⟩))
   congr 1
   funext d
   simp only [defD]
   congr 1
   funext q
   cases Q1D arms q.1<;>rfl
  have e2:QF (defD (decW b db fb) E n2 (.union t p s arms))=fun d=>thenE ((decW b db fb).arm (selD E s.ty) (Q2I E s.ty arms) d) fun q=>QF (match Q1D arms q.1 with | some t=>tyD (decW b db fb) n2 t | none=>fun _=>.error ⟨0,0⟩) q.2:=by
   refine (Eq.trans ?_ (Q2V _ fun k=>match Q1D arms k with | some t=>tyD (decW b db fb) n2 t | none=>fun _=>.error ⟨0,0⟩))
   congr 1
   funext d
   simp only [defD]
   congr 1
   funext q
   cases Q1D arms q.1<;>rfl
  rw [e1,e2]
  refine Both.then (f2:=fun k=>QF (match Q1D arms k with | some t=>tyD (decW a da fa) n1 t | none=>fun _=>.error ⟨0,0⟩)) (g2:=fun k=>QF (match Q1D arms k with | some t=>tyD (decW b db fb) n2 t | none=>fun _=>.error ⟨0,0⟩)) (Q4O (Q5q _ _) (Q5q _ _) (Q5q _ _)) fun k=>?_
  cases Q1D arms k with
  | none=>exact Q5I (fun _=>⟨0,0⟩) (fun _=>⟨0,0⟩)
  | some t=>exact Q6d hn t
end
theorem QaH {a b:List UInt8} {da fa db fb k k':Nat}:Both a b (QF ((decW a da fa).enter k)) (QF ((decW b db fb).enter k')):=by
 have st:∀ (c:List UInt8) (x y z:Nat) (d d':DSt) (u:Unit),QF ((decW c x y).enter z) d = .ok (u,d')→d'=d:=by
  intro c x y z d d' u h
  rw [Q1S] at h
  simp only [decW] at h
  split at h
  ·cases h
  ·cases h;rfl
 refine ⟨?_,?_,?_⟩
 ·intro d e d' e' x y hx hy
  have:=st _ _ _ _ _ _ _ hx;subst this
  have:=st _ _ _ _ _ _ _ hy;subst this
  exact ⟨[],[],⟨by simp,Nat.le_refl _,id⟩,⟨by simp,Nat.le_refl _,id⟩,fun X Y _=>⟨rfl,rfl,by simp [seg]⟩⟩
 ·intro d d' x hx
  have:=st _ _ _ _ _ _ _ hx;subst this
  exact ⟨[],by simp,Nat.le_refl _,id⟩
 ·intro d d' x hx
  have:=st _ _ _ _ _ _ _ hx;subst this
  exact ⟨[],by simp,Nat.le_refl _,id⟩
theorem Q8E {a b:List UInt8} {da fa db fb:Nat} {E:Env}:∀ (g k:Nat) (n:List UInt8),Both a b (QF (Q0R (decW a da fa) E g k n)) (QF (Q0R (decW b db fb) E g k n)):=by
 intro g
 induction g with
 | zero=>
  intro k n
  have e1:QF (Q0R (decW a da fa) E 0 k n)=fun d=>thenE (QF ((decW a da fa).enter k) d) fun p=>QF (fun _=>.error ⟨0,0⟩) p.2:=Q3g _ _
  have e2:QF (Q0R (decW b db fb) E 0 k n)=fun d=>thenE (QF ((decW b db fb).enter k) d) fun p=>QF (fun _=>.error ⟨0,0⟩) p.2:=Q3g _ _
  rw [e1,e2]
  exact QaH.then fun _=>Q5I (fun _=>⟨0,0⟩) (fun _=>⟨0,0⟩)
 | succ g ih=>
  intro k n
  have e1:QF (Q0R (decW a da fa) E (g + 1) k n)=fun d=>thenE (QF ((decW a da fa).enter k) d) fun p=>QF (match E n with | some df=>defD (decW a da fa) E (Q0R (decW a da fa) E g (k + 1)) df | none=>fun _=>.error ⟨0,0⟩) p.2:=by
   refine (Eq.trans ?_ (Q3g _ _))
   congr 1
   funext d
   simp only [Q0R]
   congr 1
   funext q
   cases E n<;>rfl
  have e2:QF (Q0R (decW b db fb) E (g + 1) k n)=fun d=>thenE (QF ((decW b db fb).enter k) d) fun p=>QF (match E n with | some df=>defD (decW b db fb) E (Q0R (decW b db fb) E g (k + 1)) df | none=>fun _=>.error ⟨0,0⟩) p.2:=by
   refine (Eq.trans ?_ (Q3g _ _))
   congr 1
   funext d
   simp only [Q0R]
   congr 1
   funext q
   cases E n<;>rfl
  rw [e1,e2]
  refine Both.then (f2:=fun _=>QF (match E n with | some df=>defD (decW a da fa) E (Q0R (decW a da fa) E g (k + 1)) df | none=>fun _=>.error ⟨0,0⟩)) (g2:=fun _=>QF (match E n with | some df=>defD (decW b db fb) E (Q0R (decW b db fb) E g (k + 1)) df | none=>fun _=>.error ⟨0,0⟩)) QaH fun _=>?_
  cases E n with
  | none=>exact Q5I (fun _=>⟨0,0⟩) (fun _=>⟨0,0⟩)
  | some df=>exact Qk1 (fun m=>ih (k + 1) m) df
theorem QdB {E:Env} {n a b:List UInt8} {da fa sa db fb sb:Nat} {u v:List Q0j} (ha:Q0z E n a da fa sa = .ok u) (hb:Q0z E n b db fb sb = .ok v) (h:u.map Q0j.said=v.map Q0j.said):a=b:=by
 unfold Q0z at ha hb
 split at ha
 ·cases ha
 split at hb
 ·cases hb
 obtain ⟨d,h1,h2⟩:=Qh ha
 obtain ⟨e,h3,h4⟩:=Qh hb
 split at h2
 ·cases h2
 split at h4
 ·cases h4
 rename_i hd he
 cases h2
 cases h4
 obtain ⟨N,M,g1,g2,g3⟩:=(Q8E (a:=a) (b:=b) (da:=da) (fa:=fa) (db:=db) (fb:=fb) (E:=E) 64 0 n).ab ⟨0,[]⟩ ⟨0,[]⟩ d e () () (Q1S.2 h1) (Q1S.2 h3)
 have eN:=g1.nodes
 have eM:=g2.nodes
 simp only [List.nil_append] at eN eM
 rw [eN,eM] at h
 obtain ⟨_,_,hs⟩:=g3 [] [] (by simpa using h)
 have l1:=g1.within (Nat.zero_le _)
 have l2:=g2.within (Nat.zero_le _)
 have p1:d.pos=a.length:=by omega
 have p2:e.pos=b.length:=by omega
 rw [p1,p2] at hs
 simpa [seg] using hs
def Q4r (n:NumL):Prop:=if n.wide then n.low = -9223372036854775808∧n.high=9223372036854775807 else (n.low < 0→-2147483648≤n.low∧n.high < 2147483648)∧n.high < 4294967296
def Qcy (n:NumL) (v:Int→Option Nat):Prop:=∀ k,(v k).isSome→(n.low < 0→-2147483648≤k∧k < 2147483648)∧(¬ n.low < 0→0≤k∧k < 4294967296)
def Q5Y (n:Int):Prop:=0≤n∧n≤4294967295
def TyOk:Ty→Prop
 | .opaq n _=>Q5Y n
 | .str n _=>Q5Y n
 | .arr o n _=>Q5Y n∧TyOk o
 | .opt o=>TyOk o
 | _=>True
def QgN (E:Env):DefL→Prop
 | .typedef t=>TyOk t.ty
 | .struct _ _ ms=>Q5Y ms.length∧∀ m∈ms,TyOk m.ty
 | .union _ _ s arms=>Qcy (selD E s.ty) (Q2I E s.ty arms)∧∀ a∈arms,TyOk a.2.ty
 | _=>True
def Qcz (E:Env):Prop:=∀ n d,E n=some d→QgN E d
theorem Q9s (k:Nat):Q4r (QI k):=by
 unfold QI
 split
 ·simp [Q4r]
 ·split
  ·simp [Q4r]
  ·split<;>simp [Q4r]
theorem Q8c (ms:List (List UInt8×Nat×Int)):Q4r (Q0r ms):=by simp [Q4r,Q0r]
theorem QgO:Qcy (QI 4) Q2A:=by
 intro k hk
 have h4:(QI 4).low=0:=rfl
 unfold Q2A at hk
 split at hk
 ·subst_vars;simp [h4]
 ·split at hk
  ·subst_vars;simp [h4]
  ·cases hk
structure Kit (τ σ I:Type) where
 D:Den τ→(I→Den σ)→Prop
 R:∀ {α:Type},(τ→Except Mar.Fault (α×τ))→(I→σ→Except Mar.Fault (α×σ))→Prop
 stay:D (fun d=>.ok d) (fun _ d=>.ok d)
 fail:∀ (f:Mar.Fault),D (fun _=>.error f) (fun _ _=>.error f)
 seq:∀ {f g f2 g2},D f g→D f2 g2→D (fun d=>thenE (f d) f2) (fun i e=>thenE (g i e) (g2 i))
 bind:∀ {α:Type} {f g} {f2:α→Den τ} {g2:α→I→Den σ},R f g→(∀ x,D (f2 x) (g2 x))→D (fun d=>thenE (f d) fun p=>f2 p.1 p.2) (fun i e=>thenE (g i e) fun p=>g2 p.1 i p.2)
structure KitW {τ σ I:Type} (K:Kit τ σ I) (W:Wk τ) (X:I→Wk σ):Prop where
 enter:∀ k,K.D (W.enter k) (fun i=>(X i).enter k)
 num:∀ n,Q4r n→K.D (W.num n) (fun i=>(X i).num n)
 text:∀ n f,Q5Y n→K.D (W.text n f) (fun i=>(X i).text n f)
 list:∀ n f,Q5Y n→K.R (W.list n f) (fun i=>(X i).list n f)
 arm:∀ n v,Qcy n v→K.R (W.arm n v) (fun i=>(X i).arm n v)
section
variable {τ σ I : Type} {K : Kit τ σ I} {W : Wk τ} {X : I → Wk σ} {n1 : List UInt8 → Den τ} {n2 : List UInt8 → I → Den σ}
theorem Qmi {f:Den τ} {g:I→Den σ} (hf:K.D f g):∀ k,K.D (rep f k) (fun i=>rep (g i) k):=by
 intro k
 induction k with
 | zero=>exact K.stay
 | succ k ih=>exact K.seq hf ih
theorem QdC (h:KitW K W X) (hn:∀ n,K.D (n1 n) (n2 n)) (t:Ty) (ht:TyOk t):K.D (tyD W n1 t) (fun i=>tyD (X i) (fun n=>n2 n i) t):=by
 induction t with
 | named n p=>exact hn n
 | plain k=>exact h.num _ (Q9s k)
 | opaq n f=>exact h.text _ _ ht
 | str n f=>exact h.text _ _ ht
 | void=>exact K.stay
 | arr o n f ih=>exact K.bind (f2:=fun k=>rep (tyD W n1 o) k) (g2:=fun k i=>rep (tyD (X i) (fun n=>n2 n i) o) k) (h.list n f ht.1) fun k=>Qmi (ih ht.2) k
 | opt o ih=>
  refine K.bind (f2:=fun k d=>if k=1 then tyD W n1 o d else .ok d) (g2:=fun k i d=>if k=1 then tyD (X i) (fun n=>n2 n i) o d else .ok d) (h.arm _ _ QgO) fun k=>?_
  by_cases hk:k=1
  ·simp only [hk,if_true]
   exact ih ht
  ·simp only [hk,if_false]
   exact K.stay
theorem Qmj (h:KitW K W X) (hn:∀ n,K.D (n1 n) (n2 n)):∀ ts:List Ty,(∀ t∈ts,TyOk t)→K.D (allD W n1 ts) (fun i=>allD (X i) (fun n=>n2 n i) ts):=by
 intro ts
 induction ts with
 | nil=>intro _;exact K.stay
 | cons t ts ih=>intro ht;exact K.seq (QdC h hn t (ht t (by simp))) (ih fun t m=>ht t (List.mem_cons_of_mem _ m))
theorem Qmk (h:KitW K W X) {E:Env} (hn:∀ n,K.D (n1 n) (n2 n)) (df:DefL) (hd:QgN E df):K.D (defD W E n1 df) (fun i=>defD (X i) E (fun n=>n2 n i) df):=by
 cases df with
 | const t p v=>exact K.fail _
 | prog t p v n=>exact K.fail _
 | typedef t=>exact QdC h hn t.ty hd
 | enum t p ms=>exact h.num _ (Q8c ms)
 | struct t p ms=>
  refine K.bind (f2:=fun _=>allD W n1 (ms.map (·.ty))) (g2:=fun _ i=>allD (X i) (fun n=>n2 n i) (ms.map (·.ty))) (h.list _ _ hd.1) fun _=>Qmj h hn _ fun t ht=>?_
  obtain ⟨m,hm,rfl⟩:=List.mem_map.1 ht
  exact hd.2 m hm
 | union t p s arms=>
  refine K.bind (f2:=fun k d=>match Q1D arms k with | some t=>tyD W n1 t d | none=>.error ⟨0,0⟩) (g2:=fun k i d=>match Q1D arms k with | some t=>tyD (X i) (fun n=>n2 n i) t d | none=>.error ⟨0,0⟩) (h.arm _ _ hd.1) fun k=>?_
  cases ha:Q1D arms k with
  | none=>exact K.fail _
  | some t=>
   obtain ⟨a,hm,rfl⟩:=List.mem_map.1 (Qby ha)
   exact QdC h hn _ (hd.2 a hm)
theorem QdD (h:KitW K W X) {E:Env} (hE:Qcz E):∀ (g k:Nat) (n:List UInt8),K.D (Q0R W E g k n) (fun i=>Q0R (X i) E g k n):=by
 intro g
 induction g with
 | zero=>intro k n;exact K.seq (h.enter k) (K.fail _)
 | succ g ih=>
  intro k n
  refine K.seq (f2:=fun d1=>match E n with | some df=>defD W E (Q0R W E g (k + 1)) df d1 | none=>.error ⟨0,0⟩) (g2:=fun i d1=>match E n with | some df=>defD (X i) E (Q0R (X i) E g (k + 1)) df d1 | none=>.error ⟨0,0⟩) (h.enter k) ?_
  cases hn:E n with
  | none=>exact K.fail _
  | some df=>exact Qmk h (n2:=fun n i=>Q0R (X i) E g (k + 1) n) (fun m=>ih (k + 1) m) df (hE n df hn)
end
def SubE {α β:Type} (f g:α→Except Mar.Fault β):Prop:=∀ d x,f d = .ok x→g d = .ok x
theorem QO {α β:Type} {r:Except Mar.Fault α} {f:α→Except Mar.Fault β} {a:α} {x:β} (h:r = .ok a) (h2:f a = .ok x):thenE r f = .ok x:=by
 rw [h]
 exact h2
theorem SubE.thenD {α β γ:Type} {f g:α→Except Mar.Fault β} {f2 g2:α→β→Except Mar.Fault γ} (h:SubE f g) (h2:∀ d,SubE (f2 d) (g2 d)):SubE (fun d=>thenE (f d) (f2 d)) (fun d=>thenE (g d) (g2 d)):=by
 intro d x hx
 obtain ⟨a,h3,h4⟩:=Qh hx
 exact QO (h d a h3) (h2 d a x h4)
theorem SubE.refl {α β:Type} (f:α→Except Mar.Fault β):SubE f f:=fun _ _ h=>h
structure WSub {τ:Type} (W X:Wk τ):Prop where
 enter:∀ k,SubE (W.enter k) (X.enter k)
 num:∀ n,SubE (W.num n) (X.num n)
 text:∀ n f,SubE (W.text n f) (X.text n f)
 list:∀ n f,SubE (W.list n f) (X.list n f)
 arm:∀ n v,SubE (W.arm n v) (X.arm n v)
section
variable {τ : Type} {W X : Wk τ} {n1 n2 : List UInt8 → Den τ}
theorem Qml {f g:Den τ} (hf:SubE f g):∀ k,SubE (rep f k) (rep g k):=by
 intro k
 induction k with
 | zero=>exact SubE.refl _
 | succ k ih=>exact SubE.thenD (f:=f) (g:=g) (f2:=fun _=>rep f k) (g2:=fun _=>rep g k) hf fun _=>ih
theorem QdE (h:WSub W X) (hn:∀ n,SubE (n1 n) (n2 n)) (t:Ty):SubE (tyD W n1 t) (tyD X n2 t):=by
 induction t with
 | named n p=>exact hn n
 | plain k=>exact h.num _
 | opaq n f=>exact h.text _ _
 | str n f=>exact h.text _ _
 | void=>exact SubE.refl _
 | arr o n f ih=>exact SubE.thenD (f:=W.list n f) (g:=X.list n f) (f2:=fun _ p=>rep (tyD W n1 o) p.1 p.2) (g2:=fun _ p=>rep (tyD X n2 o) p.1 p.2) (h.list n f) fun _ p x hx=>Qml ih p.1 p.2 x hx
 | opt o ih=>
  refine SubE.thenD (f:=W.arm (QI 4) Q2A) (g:=X.arm (QI 4) Q2A) (f2:=fun _ p=>if p.1=1 then tyD W n1 o p.2 else .ok p.2) (g2:=fun _ p=>if p.1=1 then tyD X n2 o p.2 else .ok p.2) (h.arm _ _) fun _ p x hx=>?_
  by_cases hp:p.1=1
  ·simp only [hp,if_true] at hx ⊢
   exact ih _ _ hx
  ·simp only [hp,if_false] at hx ⊢
   exact hx
theorem Qmm (h:WSub W X) (hn:∀ n,SubE (n1 n) (n2 n)):∀ ts:List Ty,SubE (allD W n1 ts) (allD X n2 ts):=by
 intro ts
 induction ts with
 | nil=>exact SubE.refl _
 | cons t ts ih=>exact SubE.thenD (f:=tyD W n1 t) (g:=tyD X n2 t) (f2:=fun _=>allD W n1 ts) (g2:=fun _=>allD X n2 ts) (QdE h hn t) fun _=>ih
theorem Qmn (h:WSub W X) {E:Env} (hn:∀ n,SubE (n1 n) (n2 n)) (df:DefL):SubE (defD W E n1 df) (defD X E n2 df):=by
 cases df with
 | const t p v=>intro d x hx;cases hx
 | prog t p v n=>intro d x hx;cases hx
 | typedef t=>exact QdE h hn t.ty
 | enum t p ms=>exact h.num _
 | struct t p ms=>exact SubE.thenD (f:=W.list ms.length true) (g:=X.list ms.length true) (f2:=fun _ p=>allD W n1 (ms.map (·.ty)) p.2) (g2:=fun _ p=>allD X n2 (ms.map (·.ty)) p.2) (h.list _ _) fun _ p x hx=>Qmm h hn _ _ _ hx
 | union t p s arms=>
  refine SubE.thenD (f:=W.arm (selD E s.ty) (Q2I E s.ty arms)) (g:=X.arm (selD E s.ty) (Q2I E s.ty arms)) (f2:=fun _ q=>match Q1D arms q.1 with | some t=>tyD W n1 t q.2 | none=>.error ⟨0,0⟩) (g2:=fun _ q=>match Q1D arms q.1 with | some t=>tyD X n2 t q.2 | none=>.error ⟨0,0⟩) (h.arm _ _) fun _ q x hx=>?_
  cases ha:Q1D arms q.1 with
  | none=>simp only [ha] at hx;cases hx
  | some t=>
   simp only [ha] at hx ⊢
   exact QdE h hn t _ _ hx
theorem QdF (h:WSub W X) {E:Env}:∀ (g k:Nat) (n:List UInt8),SubE (Q0R W E g k n) (Q0R X E g k n):=by
 intro g
 induction g with
 | zero=>
  intro k n d x hx
  obtain ⟨_,_,h2⟩:=Qh hx
  cases h2
 | succ g ih=>
  intro k n
  refine SubE.thenD (f:=W.enter k) (g:=X.enter k) (f2:=fun _ d1=>match E n with | some df=>defD W E (Q0R W E g (k + 1)) df d1 | none=>.error ⟨0,0⟩) (g2:=fun _ d1=>match E n with | some df=>defD X E (Q0R X E g (k + 1)) df d1 | none=>.error ⟨0,0⟩) (h.enter k) fun _ d1 x hx=>?_
  cases hE:E n with
  | none=>simp only [hE] at hx;cases hx
  | some df=>
   simp only [hE] at hx ⊢
   exact Qmn h (fun m=>ih (k + 1) m) df _ _ hx
end
section
variable (b c : List UInt8)
theorem Q8F (k:Nat):SubE (Q27 b k) (Q27 (b++c) k):=by
 intro d x h
 unfold Q27 at h ⊢
 split at h
 ·cases h
 ·rename_i hl
  cases h
  rw [if_neg (by rw [List.length_append];omega),List.drop_append_of_le_length (by omega),List.take_append_of_le_length (by rw [List.length_drop];omega)]
theorem Q8G:SubE (Q2F b) (Q2F (b++c)):=SubE.thenD (f:=Q27 b 4) (g:=Q27 (b++c) 4) (f2:=fun _ p=>.ok (bigL p.1,p.2)) (g2:=fun _ p=>.ok (bigL p.1,p.2)) (Q8F b c 4) fun _=>SubE.refl _
theorem QeW (n:NumL):SubE (Q0Z b n) (Q0Z (b++c) n):=by
 intro d x h
 unfold Q0Z at h ⊢
 split at h
 ·rename_i hw
  rw [if_pos hw]
  obtain ⟨a,h1,h2⟩:=Qh h
  exact QO (Q8F b c 8 _ _ h1) h2
 ·rename_i hw
  rw [if_neg hw]
  obtain ⟨a,h1,h2⟩:=Qh h
  exact QO (Q8G b c _ _ h1) h2
theorem QaI (n:Int) (f:Bool):SubE (Q0y b n f) (Q0y (b++c) n f):=by
 intro d x h
 unfold Q0y at h ⊢
 split at h
 ·rename_i hw
  rw [if_pos hw]
  exact h
 ·rename_i hw
  rw [if_neg hw]
  obtain ⟨a,h1,h2⟩:=Qh h
  exact QO (Q8G b c _ _ h1) h2
theorem QeX (n:Nat):SubE (Q1j b n) (Q1j (b++c) n):=by
 intro d x h
 obtain ⟨a,h1,h2⟩:=Qh h
 exact QO (Q8F b c _ _ _ h1) h2
theorem Q5Z {f g:Nat} (h:f≤g):SubE (Q0x f) (Q0x g):=by
 intro d x hx
 unfold Q0x at hx ⊢
 split at hx
 ·cases hx
 ·rw [if_neg (by omega)]
  exact hx
theorem QbC {dep dep' fuel fuel':Nat} (h1:dep≤dep') (h2:fuel≤fuel'):WSub (decW b dep fuel) (decW (b++c) dep' fuel') where
 enter k:=by
  intro d x h
  simp only [decW] at h ⊢
  split at h
  ·cases h
  ·rw [if_neg (by omega)]
   exact h
 num n:=by
  intro d x h
  obtain ⟨d1,e1,h⟩:=Qh h
  obtain ⟨p,e2,h⟩:=Qh h
  exact QO (Q5Z h2 _ _ e1) (QO (QeW b c n _ _ e2) h)
 text n f:=by
  intro d x h
  obtain ⟨d1,e1,h⟩:=Qh h
  obtain ⟨p,e2,h⟩:=Qh h
  obtain ⟨q,e3,h⟩:=Qh h
  exact QO (Q5Z h2 _ _ e1) (QO (QaI b c n f _ _ e2) (QO (QeX b c _ _ _ e3) h))
 list n f:=by
  intro d x h
  obtain ⟨d1,e1,h⟩:=Qh h
  obtain ⟨p,e2,h⟩:=Qh h
  exact QO (Q5Z h2 _ _ e1) (QO (QaI b c n f _ _ e2) h)
 arm n v:=by
  intro d x h
  obtain ⟨d1,e1,h⟩:=Qh h
  obtain ⟨p,e2,h⟩:=Qh h
  exact QO (Q5Z h2 _ _ e1) (QO (Q8G b c _ _ e2) h)
end
theorem Q39 {E:Env} {n b:List UInt8} {dep fuel size:Nat} {u:List Q0j} (h:Q0z E n b dep fuel size = .ok u):b.length≤size∧Q0R (decW b dep fuel) E 64 0 n ⟨0,[]⟩ = .ok ⟨b.length,u⟩:=by
 unfold Q0z at h
 split at h
 ·cases h
 obtain ⟨d,h1,h2⟩:=Qh h
 split at h2
 ·cases h2
 rename_i hs hd
 cases h2
 obtain ⟨N,hN⟩:=(Q8E (a:=b) (b:=b) (da:=dep) (fa:=fuel) (db:=dep) (fb:=fuel) (E:=E) 64 0 n).fa ⟨0,[]⟩ d () (Q1S.2 h1)
 have:=hN.within (Nat.zero_le _)
 refine ⟨by omega,?_⟩
 rw [h1]
 have e:d.pos=b.length:=by omega
 cases d
 simp only at e
 subst e
 rfl
theorem Q8d {E:Env} {n b:List UInt8} {dep fuel size dep' fuel' size':Nat} {u:List Q0j} (h:Q0z E n b dep fuel size = .ok u) (h1:dep≤dep') (h2:fuel≤fuel') (h3:size≤size'):Q0z E n b dep' fuel' size' = .ok u:=by
 obtain ⟨hs,hn⟩:=Q39 h
 have:=QdF (QbC b [] h1 h2) (E:=E) 64 0 n _ _ hn
 rw [List.append_nil] at this
 unfold Q0z
 rw [if_neg (by omega),this]
 simp [thenE]
theorem Q9t {E:Env} {n b c:List UInt8} {dep fuel size:Nat} {u:List Q0j} (h:Q0z E n b dep fuel size = .ok u) (hc:c≠[]) (hl:b.length + c.length≤size):Q0z E n (b++c) dep fuel size = .error ⟨20,b.length⟩:=by
 obtain ⟨hs,hn⟩:=Q39 h
 have:=QdF (QbC b c (Nat.le_refl dep) (Nat.le_refl fuel)) (E:=E) 64 0 n _ _ hn
 have hc2:0 < c.length:=List.length_pos_iff.2 hc
 unfold Q0z
 rw [if_neg (by rw [List.length_append];omega),this]
 simp only [thenE]
 rw [if_pos (by rw [List.length_append];omega)]
theorem QdG {E:Env} {n b:List UInt8} {dep fuel size k:Nat} {u v:List Q0j} (h:Q0z E n b dep fuel size = .ok u) (hk:k < b.length):Q0z E n (b.take k) dep fuel size≠.ok v:=by
 intro h2
 obtain ⟨hs,_⟩:=Q39 h
 have:=Q9t h2 (c:=b.drop k) (by rw [ne_eq,List.drop_eq_nil_iff];omega) (by rw [← List.length_append,List.take_append_drop];exact hs)
 rw [List.take_append_drop,h] at this
 cases this
def QdH (E:Env):Prop:=∀ n t,E n=some (.typedef t)→t.ty≠.void
def Adds (f:Den DSt):Prop:=∀ d d',f d = .ok d'→d.nodes.length < d'.nodes.length
section
variable {b : List UInt8} {dep fuel : Nat}
theorem QdI (n:NumL):Adds ((decW b dep fuel).num n):=by
 intro d d' h
 obtain ⟨d1,e1,h'⟩:=Qh h
 clear h
 have:=Q2d e1;subst this
 obtain ⟨p,e2,h⟩:=Qh h'
 split at h
 ·cases h
  obtain ⟨_,_,_,p4,_⟩:=Q4K (show Q0Z b n d1 = .ok (p.1,p.2) from e2)
  simp [putD,p4]
 ·cases h
theorem QbD (n:Int) (f:Bool):Adds ((decW b dep fuel).text n f):=by
 intro d d' h
 obtain ⟨d1,e1,h'⟩:=Qh h
 clear h
 have:=Q2d e1;subst this
 obtain ⟨p,e2,h⟩:=Qh h'
 obtain ⟨q,e3,h⟩:=Qh h
 cases h
 obtain ⟨_,c2,_,_⟩:=Q1o (show Q0y b n f d1 = .ok (p.1,p.2) from e2)
 obtain ⟨_,_,_,p4,_⟩:=Q4L (show Q1j b p.1 p.2 = .ok (q.1,q.2) from e3)
 simp [putD,p4,c2]
theorem QbE {n:Int} {f:Bool} {d:DSt} {p:Nat×DSt} (h:(decW b dep fuel).list n f d = .ok p):d.nodes.length < p.2.nodes.length:=by
 obtain ⟨d1,e1,h'⟩:=Qh h
 clear h
 have:=Q2d e1;subst this
 obtain ⟨q,e2,h⟩:=Qh h'
 cases h
 obtain ⟨_,c2,_,_⟩:=Q1o (show Q0y b n f d1 = .ok (q.1,q.2) from e2)
 simp [putD,c2]
theorem QdJ {n:NumL} {v:Int→Option Nat} {d:DSt} {p:Int×DSt} (h:(decW b dep fuel).arm n v d = .ok p):d.nodes.length < p.2.nodes.length:=by
 obtain ⟨d1,e1,h'⟩:=Qh h
 clear h
 have:=Q2d e1;subst this
 obtain ⟨q,e2,h⟩:=Qh h'
 split at h
 ·cases h
 ·cases h
  obtain ⟨_,_,_,p4,_⟩:=Q29 (show Q2F b d1 = .ok (q.1,q.2) from e2)
  simp [putD,p4]
theorem QaJ {f:Den DSt} (h:Fwd b (QF f)) {d d':DSt} (hd:f d = .ok d'):d.nodes.length≤d'.nodes.length:=by
 obtain ⟨N,hN⟩:=h d d' () (Q1S.2 hd)
 rw [hN.nodes]
 simp
variable {nm : List UInt8 → Den DSt}
theorem Qmo (hn:∀ n,Adds (nm n)) (hb:∀ n,Both b b (QF (nm n)) (QF (nm n))) (t:Ty) (ht:t≠.void):Adds (tyD (decW b dep fuel) nm t):=by
 cases t with
 | named n p=>exact hn n
 | plain k=>exact QdI _
 | opaq n f=>exact QbD _ _
 | str n f=>exact QbD _ _
 | void=>exact absurd rfl ht
 | arr o n f=>
  intro d d' h
  obtain ⟨p,e1,h⟩:=Qh h
  exact Nat.lt_of_lt_of_le (QbE e1) (QaJ (Qdz (Q6d (da:=dep) (fa:=fuel) (db:=dep) (fb:=fuel) hb o) p.1).fa h)
 | opt o=>
  intro d d' h
  obtain ⟨p,e1,h⟩:=Qh h
  refine Nat.lt_of_lt_of_le (QdJ e1) ?_
  split at h
  ·exact QaJ (Q6d (da:=dep) (fa:=fuel) (db:=dep) (fb:=fuel) hb o).fa h
  ·cases h;exact Nat.le_refl _
theorem Qk2 {E:Env} (hn:∀ n,Adds (nm n)) (hb:∀ n,Both b b (QF (nm n)) (QF (nm n))) (df:DefL) (ht:∀ t,df = .typedef t→t.ty≠.void):Adds (defD (decW b dep fuel) E nm df):=by
 cases df with
 | const t p v=>intro d x hx;cases hx
 | prog t p v n=>intro d x hx;cases hx
 | typedef t=>exact Qmo hn hb t.ty (ht t rfl)
 | enum t p ms=>exact QdI _
 | struct t p ms=>
  intro d d' h
  obtain ⟨p,e1,h⟩:=Qh h
  exact Nat.lt_of_lt_of_le (QbE e1) (QaJ (QdA (da:=dep) (fa:=fuel) (db:=dep) (fb:=fuel) hb _).fa h)
 | union t p s arms=>
  intro d d' h
  obtain ⟨p,e1,h⟩:=Qh h
  refine Nat.lt_of_lt_of_le (QdJ e1) ?_
  split at h
  ·exact QaJ (Q6d (da:=dep) (fa:=fuel) (db:=dep) (fb:=fuel) hb _).fa h
  ·cases h
theorem Qir {E:Env} (hE:QdH E):∀ (g k:Nat) (n:List UInt8),Adds (Q0R (decW b dep fuel) E g k n):=by
 intro g
 induction g with
 | zero=>
  intro k n d x hx
  obtain ⟨_,_,h2⟩:=Qh hx
  cases h2
 | succ g ih=>
  intro k n d d' h
  obtain ⟨d1,e1,h⟩:=Qh h
  have e:d1=d:=by
   simp only [decW] at e1
   split at e1
   ·cases e1
   ·cases e1;rfl
  cases hn:E n with
  | none=>rw [hn] at h;cases h
  | some df=>
   rw [hn] at h
   rw [← e]
   exact Qk2 (fun m=>ih (k + 1) m) (fun m=>Q8E g (k + 1) m) df (fun t ht=>hE n t (by rw [hn,ht])) _ _ h
end
theorem QeY {E:Env} (hE:QdH E) {n b:List UInt8} {dep fuel size:Nat} {u:List Q0j} (h:Q0z E n b dep fuel size = .ok u):0 < u.length:=by
 obtain ⟨_,hn⟩:=Q39 h
 have:=Qir hE 64 0 n _ _ hn
 simpa using this
structure WInv {τ:Type} (W:Wk τ) (P:τ→Prop):Prop where
 enter:∀ k d d',P d→W.enter k d = .ok d'→P d'
 num:∀ n d d',P d→W.num n d = .ok d'→P d'
 text:∀ n f d d',P d→W.text n f d = .ok d'→P d'
 list:∀ n f d p,P d→W.list n f d = .ok p→P p.2
 arm:∀ n v d p,P d→W.arm n v d = .ok p→P p.2
section
variable {τ : Type} {W : Wk τ} {P : τ → Prop} {nm : List UInt8 → Den τ}
theorem Qmp {f:Den τ} (hf:∀ d d',P d→f d = .ok d'→P d'):∀ k d d',P d→rep f k d = .ok d'→P d':=by
 intro k
 induction k with
 | zero=>intro d d' hd hx;cases hx;exact hd
 | succ k ih=>
  intro d d' hd hx
  obtain ⟨d1,h1,h2⟩:=Qh hx
  exact ih _ _ (hf _ _ hd h1) h2
theorem QdK (h:WInv W P) (hn:∀ n d d',P d→nm n d = .ok d'→P d') (t:Ty):∀ d d',P d→tyD W nm t d = .ok d'→P d':=by
 induction t with
 | named n p=>exact hn n
 | plain k=>exact h.num _
 | opaq n f=>exact h.text _ _
 | str n f=>exact h.text _ _
 | void=>intro d d' hd hx;cases hx;exact hd
 | arr o n f ih=>
  intro d d' hd hx
  obtain ⟨p,h1,h2⟩:=Qh hx
  exact Qmp ih _ _ _ (h.list _ _ _ _ hd h1) h2
 | opt o ih=>
  intro d d' hd hx
  obtain ⟨p,h1,h2⟩:=Qh hx
  have hp:=h.arm _ _ _ _ hd h1
  split at h2
  ·exact ih _ _ hp h2
  ·cases h2;exact hp
theorem Qmq (h:WInv W P) (hn:∀ n d d',P d→nm n d = .ok d'→P d'):∀ (ts:List Ty) d d',P d→allD W nm ts d = .ok d'→P d':=by
 intro ts
 induction ts with
 | nil=>intro d d' hd hx;cases hx;exact hd
 | cons t ts ih=>
  intro d d' hd hx
  obtain ⟨p,h1,h2⟩:=Qh hx
  exact ih _ _ (QdK h hn t _ _ hd h1) h2
theorem Qmr (h:WInv W P) {E:Env} (hn:∀ n d d',P d→nm n d = .ok d'→P d') (df:DefL):∀ d d',P d→defD W E nm df d = .ok d'→P d':=by
 cases df with
 | const t p v=>intro d x _ hx;cases hx
 | prog t p v n=>intro d x _ hx;cases hx
 | typedef t=>exact QdK h hn t.ty
 | enum t p ms=>exact h.num _
 | struct t p ms=>
  intro d d' hd hx
  obtain ⟨p,h1,h2⟩:=Qh hx
  exact Qmq h hn _ _ _ (h.list _ _ _ _ hd h1) h2
 | union t p s arms=>
  intro d d' hd hx
  obtain ⟨p,h1,h2⟩:=Qh hx
  have hp:=h.arm _ _ _ _ hd h1
  split at h2
  ·exact QdK h hn _ _ _ hp h2
  ·cases h2
theorem Q7Q (h:WInv W P) {E:Env}:∀ (g k:Nat) (n:List UInt8) d d',P d→Q0R W E g k n d = .ok d'→P d':=by
 intro g
 induction g with
 | zero=>
  intro k n d x _ hx
  obtain ⟨_,_,h2⟩:=Qh hx
  cases h2
 | succ g ih=>
  intro k n d d' hd hx
  obtain ⟨d1,h1,h2⟩:=Qh hx
  have hp:=h.enter _ _ _ hd h1
  split at h2
  ·exact Qmr h (fun m=>ih (k + 1) m) _ _ _ hp h2
  ·cases h2
end
theorem Q42 {fuel:Nat} {d d':DSt} (h:Q0x fuel d = .ok d'):d'=d∧d.nodes.length < fuel:=by
 unfold Q0x at h
 split at h
 ·cases h
 ·cases h;exact ⟨rfl,by omega⟩
theorem Qis (b:List UInt8) (dep fuel:Nat):WInv (decW b dep fuel) fun d=>d.nodes.length≤fuel where
 enter k d d' hd h:=by
  simp only [decW] at h
  split at h
  ·cases h
  ·cases h;exact hd
 num n d d' hd h:=by
  obtain ⟨d1,e1,h'⟩:=Qh h
  clear h
  obtain ⟨rfl,hl⟩:=Q42 e1
  obtain ⟨p,e2,h⟩:=Qh h'
  split at h
  ·cases h
   obtain ⟨_,_,_,p4,_⟩:=Q4K (show Q0Z b n d1 = .ok (p.1,p.2) from e2)
   simp [putD,p4];omega
  ·cases h
 text n f d d' hd h:=by
  obtain ⟨d1,e1,h'⟩:=Qh h
  clear h
  obtain ⟨rfl,hl⟩:=Q42 e1
  obtain ⟨p,e2,h⟩:=Qh h'
  obtain ⟨q,e3,h⟩:=Qh h
  cases h
  obtain ⟨_,c2,_,_⟩:=Q1o (show Q0y b n f d1 = .ok (p.1,p.2) from e2)
  obtain ⟨_,_,_,p4,_⟩:=Q4L (show Q1j b p.1 p.2 = .ok (q.1,q.2) from e3)
  simp [putD,p4,c2];omega
 list n f d p hd h:=by
  obtain ⟨d1,e1,h'⟩:=Qh h
  clear h
  obtain ⟨rfl,hl⟩:=Q42 e1
  obtain ⟨q,e2,h⟩:=Qh h'
  cases h
  obtain ⟨_,c2,_,_⟩:=Q1o (show Q0y b n f d1 = .ok (q.1,q.2) from e2)
  simp [putD,c2];omega
 arm n v d p hd h:=by
  obtain ⟨d1,e1,h'⟩:=Qh h
  clear h
  obtain ⟨rfl,hl⟩:=Q42 e1
  obtain ⟨q,e2,h⟩:=Qh h'
  split at h
  ·cases h
  ·cases h
   obtain ⟨_,_,_,p4,_⟩:=Q29 (show Q2F b d1 = .ok (q.1,q.2) from e2)
   simp [putD,p4];omega
theorem QgP {E:Env} {n b:List UInt8} {dep fuel size:Nat} {u:List Q0j} (h:Q0z E n b dep fuel size = .ok u):u.length≤fuel:=by
 obtain ⟨_,hn⟩:=Q39 h
 exact Q7Q (Qis b dep fuel) 64 0 n ⟨0,[]⟩ _ (Nat.zero_le _) hn
structure QB where
 kind:Int
 n:Int
 s:List UInt8
 at':Int
 len:Int
def toG (x:Q0j):QB:=⟨x.kind,x.n,x.s,x.at',x.len⟩
structure ESt where
 next:Nat
 out:List UInt8
def Q34 (n:Int):List UInt8:=[UInt8.ofNat ((n % 4294967296).toNat / 16777216),UInt8.ofNat ((n % 4294967296).toNat / 65536),UInt8.ofNat ((n % 4294967296).toNat / 256),UInt8.ofNat (n % 4294967296).toNat]
def Q0K (n:Int) (f:Bool) (k:Int):Bool:=if f then decide (k=n) else decide (0≤k) && decide (k≤n)
section
variable (v : List QB) (depth fuel size : Nat)
def Q1t (kind:Int) (fits:QB→Bool) (e:ESt):Except Mar.Fault (QB×ESt):=
 if fuel≤e.next then .error ⟨15,e.next⟩ else match v[e.next]? with
  | none=>.error ⟨12,e.next⟩
  | some x=>if x.kind=kind∧fits x=true then .ok (x,{ e with next:=e.next + 1 }) else .error ⟨12,e.next⟩
def Q2G (k:Nat) (e:ESt):Except Mar.Fault ESt:=if size < e.out.length + k then .error ⟨14,e.next - 1⟩ else .ok e
def Q1k (n:Int) (e:ESt):Except Mar.Fault ESt:=thenE (Q2G size 4 e) fun e=>.ok { e with out:=e.out++Q34 n }
def padB (s:List UInt8):List UInt8:=s++List.replicate (Q0i s.length - s.length) 0
def Q2J (s:List UInt8) (e:ESt):Except Mar.Fault ESt:=thenE (Q2G size (Q0i s.length) e) fun e=>.ok { e with out:=e.out++padB s }
def Q3a (w:Int→Option Nat) (x:QB):Bool:=match w x.n with
 | some k=>decide (x.len=k)
 | none=>false
def encW:Wk ESt where
 enter k e:=if depth≤k then .error ⟨13,e.next⟩ else .ok e
 num n e:=thenE (Q1t v fuel 1 (fun x=>n.has x.n) e) fun p=>thenE (if n.wide then Q1k size (p.1.n / 4294967296) p.2 else .ok p.2) fun e=>Q1k size p.1.n e
 text n f e:=thenE (Q1t v fuel 2 (fun x=>Q0K n f x.s.length) e) fun p=>thenE (if f then .ok p.2 else Q1k size p.1.s.length p.2) fun e=>Q2J size p.1.s e
 list n f e:=thenE (Q1t v fuel 3 (fun x=>Q0K n f x.len) e) fun p=>thenE (if f then .ok p.2 else Q1k size p.1.len p.2) fun e=>.ok (p.1.len.toNat,e)
 arm n w e:=thenE (Q1t v fuel 4 (Q3a w) e) fun p=>thenE (Q1k size p.1.n p.2) fun e=>.ok (p.1.n,e)
end
def Q5r (E:Env) (n:List UInt8) (v:List QB) (depth fuel size:Nat):Except Mar.Fault (List UInt8):=
 thenE (Q0R (encW v depth fuel size) E 64 0 n ⟨0,[]⟩) fun e=>if e.next < v.length then .error ⟨12,e.next⟩ else .ok e.out
theorem Q1d (n:Int):(Q34 n).length=4:=rfl
theorem Q7R (n:Int):bigL (Q34 n)=(n % 4294967296).toNat:=by
 have h0:0≤n % 4294967296:=Int.emod_nonneg _ (by omega)
 have h1:n % 4294967296 < 4294967296:=Int.emod_lt_of_pos _ (by omega)
 unfold Q34 bigL
 generalize n % 4294967296=z at h0 h1
 obtain ⟨m,rfl⟩:=Int.eq_ofNat_of_zero_le h0
 simp only [List.foldl_cons,List.foldl_nil,UInt8.toNat_ofNat',Int.toNat_natCast]
 omega
theorem Q6B {l:List UInt8} (h:l.length=4) {n:Int} (hn:n % 4294967296=bigL l):Q34 n=l:=by
 refine Q7P (Q1d n) h ?_
 rw [Q7R,hn]
 simp
theorem QfJ {l m:List UInt8} (hm:m.length=4):bigL (l++m)=bigL l * 4294967296 + bigL m:=by
 match m,hm with
 | [a,b,c,d],_=>
  simp only [bigL,List.foldl_append,List.foldl_cons,List.foldl_nil]
  omega
theorem QaK (n:NumL) {v:Nat} (h:v < 4294967296):Q0A n v % 4294967296=v:=by
 unfold Q0A
 split
 ·split<;>omega
 ·omega
theorem QbF {n:NumL} {k:Int} (h1:n.low < 0→-2147483648≤k∧k < 2147483648) (h2:¬ n.low < 0→0≤k∧k < 4294967296):Q0A n (k % 4294967296).toNat=k:=by
 unfold Q0A
 split
 ·rename_i h
  have:=h1 h
  split<;>omega
 ·rename_i h
  have:=h2 h
  omega
theorem QdL {v:Nat} (h:v < 18446744073709551616):(Q2U v / 4294967296) % 4294967296=(v / 4294967296:Nat)∧Q2U v % 4294967296=(v % 4294967296:Nat):=by
 unfold Q2U
 split<;>omega
theorem Qit {k:Int} (h1:-9223372036854775808≤k) (h2:k≤9223372036854775807):Q2U (((k / 4294967296) % 4294967296).toNat * 4294967296 + (k % 4294967296).toNat)=k:=by
 unfold Q2U
 split<;>omega
structure QaL (b:List UInt8) (d:DSt) (e:ESt):Prop where
 next:e.next=d.nodes.length
 out:e.out=b.take d.pos
 pos:d.pos≤b.length
section
variable (b : List UInt8)
def kitF:Kit DSt ESt (List Q0j) where
 D f g:=∀ d d',f d = .ok d'→(∃ N,d'.nodes=d.nodes++N)∧∀ u e,d'.nodes <+: u→QaL b d e→∃ e',g u e = .ok e'∧QaL b d' e'
 R f g:=∀ d p,f d = .ok p→(∃ N,p.2.nodes=d.nodes++N)∧∀ u e,p.2.nodes <+: u→QaL b d e→∃ e',g u e = .ok (p.1,e')∧QaL b p.2 e'
 stay:=by
  intro d d' h
  cases h
  exact ⟨⟨[],by simp⟩,fun u e _ hs=>⟨e,rfl,hs⟩⟩
 fail:=by
  intro f d d' h
  cases h
 seq:=by
  intro f g f2 g2 h1 h2 d d' h
  obtain ⟨d1,e1,e2⟩:=Qh h
  obtain ⟨⟨N,hN⟩,s1⟩:=h1 d d1 e1
  obtain ⟨⟨M,hM⟩,s2⟩:=h2 d1 d' e2
  refine ⟨⟨N++M,by rw [hM,hN,List.append_assoc]⟩,fun u e hu hs=>?_⟩
  obtain ⟨x,hx,hs1⟩:=s1 u e (List.IsPrefix.trans ⟨M,hM.symm⟩ hu) hs
  obtain ⟨y,hy,hs2⟩:=s2 u x hu hs1
  exact ⟨y,QO hx hy,hs2⟩
 bind:=by
  intro α f g f2 g2 h1 h2 d d' h
  obtain ⟨p,e1,e2⟩:=Qh h
  obtain ⟨⟨N,hN⟩,s1⟩:=h1 d p e1
  obtain ⟨⟨M,hM⟩,s2⟩:=h2 p.1 p.2 d' e2
  refine ⟨⟨N++M,by rw [hM,hN,List.append_assoc]⟩,fun u e hu hs=>?_⟩
  obtain ⟨x,hx,hs1⟩:=s1 u e (List.IsPrefix.trans ⟨M,hM.symm⟩ hu) hs
  obtain ⟨y,hy,hs2⟩:=s2 u x hu hs1
  exact ⟨y,QO hx hy,hs2⟩
end
theorem Qiu {α:Type} {l u:List α} {x:α} (h:l++[x] <+: u):u[l.length]? = some x:=by
 obtain ⟨t,rfl⟩:=h
 simp
theorem QdM {b:List UInt8} {p q:Nat} (h:p≤q):b.take p++seg b p q=b.take q:=by
 unfold seg
 rw [← List.take_add]
 congr 1
 omega
section
variable {b : List UInt8} {dep fuel size : Nat} {d d1 : DSt} {e : ESt} {u : List Q0j}
theorem QcA {x:Q0j} {kind:Int} {fits:QB→Bool} (hs:QaL b d e) (hf:d.nodes.length < fuel) (hu:d.nodes++[x] <+: u) (hk:(x.kind:Int)=kind) (hx:fits (toG x)=true):Q1t (u.map toG) fuel kind fits e = .ok (toG x,{ e with next:=e.next + 1 }):=by
 unfold Q1t
 rw [if_neg (by rw [hs.next];omega),List.getElem?_map,hs.next,Qiu hu]
 simp only [Option.map_some]
 rw [if_pos ⟨hk,hx⟩]
theorem outF {l:List UInt8} {p q:Nat} (hb:b.length≤size) (h:l=seg b p q) (hp:p≤q) (hq:q≤b.length) (ho:e.out=b.take p):¬ size < e.out.length + l.length∧e.out++l=b.take q:=by
 have h1:e.out++l=b.take q:=by rw [ho,h,QdM hp]
 have h2:=congrArg List.length h1
 rw [List.length_append,List.length_take] at h2
 exact ⟨by omega,h1⟩
theorem QaM {n:Int} {p q:Nat} (hb:b.length≤size) (h:Q34 n=seg b p q) (hp:p≤q) (hq:q≤b.length) (ho:e.out=b.take p):Q1k size n e = .ok { e with out:=b.take q }:=by
 obtain ⟨h1,h2⟩:=outF hb h hp hq ho
 rw [Q1d] at h1
 unfold Q1k Q2G
 rw [if_neg h1]
 simp only [thenE]
 rw [h2]
theorem padF {l:List UInt8} {p q:Nat} (hb:b.length≤size) (h:padB l=seg b p q) (hp:p≤q) (hq:q≤b.length) (ho:e.out=b.take p):Q2J size l e = .ok { e with out:=b.take q }:=by
 obtain ⟨h1,h2⟩:=outF hb h hp hq ho
 have h3:(padB l).length=Q0i l.length:=by unfold padB Q0i;simp;omega
 rw [h3] at h1
 unfold Q2J Q2G
 rw [if_neg h1]
 simp only [thenE]
 rw [h2]
theorem Q8H {n:Int} {f:Bool} {v:Nat} (h0:0≤n) (h:Q0y b n f d = .ok (v,d1)):Q0K n f v=true:=by
 unfold Q0y at h
 unfold Q0K
 cases f with
 | true=>
  simp only [if_true] at h ⊢
  cases h
  simp only [decide_eq_true_eq]
  omega
 | false=>
  simp only [Bool.false_eq_true,if_false] at h ⊢
  obtain ⟨p,_,h2⟩:=Qh h
  split at h2
  ·cases h2
   simp only [Bool.and_eq_true,decide_eq_true_eq]
   exact ⟨by omega,by assumption⟩
  ·cases h2
theorem Qiv {n:Int} {f:Bool} {v:Nat} (hb:b.length≤size) (h:Q0y b n f d = .ok (v,d1)) (hp:d.pos≤b.length) (ho:e.out=b.take d.pos):(if f then .ok e else Q1k size v e) = .ok { e with out:=b.take d1.pos }:=by
 obtain ⟨c1,c2,c3,c4⟩:=Q1o h
 cases f with
 | true=>
  simp only [if_true] at c4 ⊢
  rw [c4.2,← ho]
 | false=>
  simp only [Bool.false_eq_true,if_false] at c4 ⊢
  have:=Q28 c4.2
  exact QaM hb (Q6B c4.2 (by rw [c4.1];omega)) c1 (c3 hp) ho
end
theorem Qiw {b:List UInt8} {dep fuel size:Nat} (hb:b.length≤size):KitW (kitF b) (decW b dep fuel) (fun u=>encW (u.map toG) dep fuel size) where
 enter k:=by
  intro d d' h
  simp only [decW] at h
  split at h
  ·cases h
  ·rename_i hk
   cases h
   exact ⟨⟨[],by simp⟩,fun u e _ hs=>⟨e,by simp only [encW];rw [if_neg hk],hs⟩⟩
 num n _:=by
  intro d d' h
  obtain ⟨d0,e1,h'⟩:=Qh h
  clear h
  obtain ⟨rfl,hl⟩:=Q42 e1
  obtain ⟨p,e2,h⟩:=Qh h'
  split at h
  ·rename_i hn
   cases h
   obtain ⟨p1,p2,p3,p4,p5⟩:=Q4K (show Q0Z b n d0 = .ok (p.1,p.2) from e2)
   refine ⟨⟨_,by simp only [putD];rw [p4]⟩,fun u e hu hs=>?_⟩
   simp only [putD,p4] at hu
   refine ⟨⟨e.next + 1,b.take p.2.pos⟩,QO (QcA hs hl hu rfl hn) ?_,⟨by simp only [putD];rw [hs.next,p4];simp,rfl,p5⟩⟩
   simp only [toG]
   cases hw:n.wide with
   | true=>
    simp only [hw,if_true] at p1 p2 ⊢
    have hpos:d0.pos + 8=p.2.pos:=by
     have:=congrArg List.length (QdM (b:=b) p3)
     rw [List.length_append,p2,List.length_take,List.length_take] at this
     have:=hs.pos
     omega
    have e8:seg b d0.pos (d0.pos + 4)++seg b (d0.pos + 4) p.2.pos=seg b d0.pos p.2.pos:=Q7x b (by omega) (by omega)
    have l1:(seg b d0.pos (d0.pos + 4)).length=4:=by simp [seg];omega
    have l2:(seg b (d0.pos + 4) p.2.pos).length=4:=by simp [seg];omega
    have hlt:=Q94 p2
    rw [← e8,QfJ l2] at hlt p1
    have q1:=Q28 l1
    have q2:=Q28 l2
    obtain ⟨r1,r2⟩:=QdL hlt
    have a1:(bigL (seg b d0.pos (d0.pos + 4)) * 4294967296 + bigL (seg b (d0.pos + 4) p.2.pos)) / 4294967296=bigL (seg b d0.pos (d0.pos + 4)):=by omega
    have a2:(bigL (seg b d0.pos (d0.pos + 4)) * 4294967296 + bigL (seg b (d0.pos + 4) p.2.pos)) % 4294967296=bigL (seg b (d0.pos + 4) p.2.pos):=by omega
    rw [a1] at r1
    rw [a2] at r2
    rw [← p1] at r1 r2
    refine QO (QaM (q:=d0.pos + 4) hb (Q6B l1 r1) (by omega) (by omega) hs.out) ?_
    exact QaM hb (Q6B l2 r2) (by omega) p5 rfl
   | false=>
    simp only [hw,Bool.false_eq_true,if_false] at p1 p2 ⊢
    refine QO rfl ?_
    exact QaM hb (Q6B p2 (by rw [p1];exact QaK n (Q28 p2))) p3 p5 hs.out
  ·cases h
 text n f hn:=by
  intro d d' h
  obtain ⟨d0,e1,h'⟩:=Qh h
  clear h
  obtain ⟨rfl,hl⟩:=Q42 e1
  obtain ⟨p,e2,h⟩:=Qh h'
  obtain ⟨q,e3,h⟩:=Qh h
  cases h
  have e2:Q0y b n f d0 = .ok (p.1,p.2):=e2
  obtain ⟨c1,c2,c3,c4⟩:=Q1o e2
  obtain ⟨s1,s2,s3,s4,s5⟩:=Q4L (show Q1j b p.1 p.2 = .ok (q.1,q.2) from e3)
  refine ⟨⟨_,by simp only [putD];rw [s4,c2]⟩,fun u e hu hs=>?_⟩
  simp only [putD,s4,c2] at hu
  have hal:=Q8H hn.1 e2
  refine ⟨⟨e.next + 1,b.take q.2.pos⟩,QO (QcA hs hl hu rfl (by simp only [toG];rw [s2];exact hal)) ?_,⟨by simp only [putD];rw [hs.next,s4,c2];simp,rfl,s5⟩⟩
  simp only [toG]
  rw [s2]
  refine QO (Qiv (e:=⟨e.next + 1,e.out⟩) hb e2 hs.pos hs.out) ?_
  exact padF hb (by unfold padB;rw [s2];exact s1.symm) s3 s5 rfl
 list n f hn:=by
  intro d p' h
  obtain ⟨d0,e1,h'⟩:=Qh h
  clear h
  obtain ⟨rfl,hl⟩:=Q42 e1
  obtain ⟨p,e2,h⟩:=Qh h'
  cases h
  have e2:Q0y b n f d0 = .ok (p.1,p.2):=e2
  obtain ⟨c1,c2,c3,c4⟩:=Q1o e2
  refine ⟨⟨_,by simp only [putD];rw [c2]⟩,fun u e hu hs=>?_⟩
  simp only [putD,c2] at hu
  have hal:=Q8H hn.1 e2
  refine ⟨⟨e.next + 1,b.take p.2.pos⟩,QO (QcA hs hl hu rfl hal) ?_,⟨by simp only [putD];rw [hs.next,c2];simp,rfl,c3 hs.pos⟩⟩
  simp only [toG]
  refine QO (Qiv (e:=⟨e.next + 1,e.out⟩) hb e2 hs.pos hs.out) ?_
  simp
 arm n w _:=by
  intro d p' h
  obtain ⟨d0,e1,h'⟩:=Qh h
  clear h
  obtain ⟨rfl,hl⟩:=Q42 e1
  obtain ⟨p,e2,h⟩:=Qh h'
  split at h
  ·cases h
  ·rename_i k hk
   cases h
   obtain ⟨p1,p2,p3,p4,p5⟩:=Q29 (show Q2F b d0 = .ok (p.1,p.2) from e2)
   refine ⟨⟨_,by simp only [putD];rw [p4]⟩,fun u e hu hs=>?_⟩
   simp only [putD,p4] at hu
   refine ⟨⟨e.next + 1,b.take p.2.pos⟩,QO (QcA hs hl hu rfl (by simp [Q3a,toG,hk])) ?_,⟨by simp only [putD];rw [hs.next,p4];simp,rfl,p5⟩⟩
   simp only [toG]
   refine QO (QaM (e:=⟨e.next + 1,e.out⟩) hb (Q6B p2 (by rw [p1];exact QaK n (Q28 p2))) (by omega) p5 hs.out) rfl
theorem Q8e {E:Env} (hE:Qcz E) {n b:List UInt8} {dep fuel size:Nat} {u:List Q0j} (h:Q0z E n b dep fuel size = .ok u):Q5r E n (u.map toG) dep fuel size = .ok b:=by
 obtain ⟨hs,hn⟩:=Q39 h
 obtain ⟨_,hx⟩:=QdD (Qiw (dep:=dep) (fuel:=fuel) hs) hE 64 0 n _ _ hn
 obtain ⟨e,he,h1⟩:=hx u ⟨0,[]⟩ (List.prefix_refl u) ⟨rfl,rfl,Nat.zero_le _⟩
 unfold Q5r
 refine QO he ?_
 rw [if_neg (by rw [h1.next];simp),h1.out]
 simp
def Q3A (x:QB):Int×Int×List UInt8×Int:=
 if x.kind=1 then (1,x.n,[],0) else if x.kind=2 then (2,0,x.s,0) else if x.kind=3 then (3,0,[],x.len) else if x.kind=4 then (4,x.n,[],x.len) else (x.kind,0,[],0)
def keyL (x:Q0j):Int×Int×List UInt8×Int:=(x.kind,x.n,x.s,x.len)
structure Q7S (v:List QB) (e:ESt) (d:DSt):Prop where
 pos:d.pos=e.out.length
 len:d.nodes.length=e.next
 key:d.nodes.map keyL=(v.take e.next).map Q3A
section
variable (v : List QB)
def kitB:Kit ESt DSt (List UInt8) where
 D f g:=∀ e e',f e = .ok e'→e.out <+: e'.out∧∀ b d,e'.out <+: b→Q7S v e d→∃ d',g b d = .ok d'∧Q7S v e' d'
 R f g:=∀ e p,f e = .ok p→e.out <+: p.2.out∧∀ b d,p.2.out <+: b→Q7S v e d→∃ d',g b d = .ok (p.1,d')∧Q7S v p.2 d'
 stay:=by
  intro d d' h
  cases h
  exact ⟨List.prefix_refl _,fun u e _ hs=>⟨e,rfl,hs⟩⟩
 fail:=by
  intro f d d' h
  cases h
 seq:=by
  intro f g f2 g2 h1 h2 d d' h
  obtain ⟨d1,e1,e2⟩:=Qh h
  obtain ⟨hN,s1⟩:=h1 d d1 e1
  obtain ⟨hM,s2⟩:=h2 d1 d' e2
  refine ⟨hN.trans hM,fun u e hu hs=>?_⟩
  obtain ⟨x,hx,hs1⟩:=s1 u e (hM.trans hu) hs
  obtain ⟨y,hy,hs2⟩:=s2 u x hu hs1
  exact ⟨y,QO hx hy,hs2⟩
 bind:=by
  intro α f g f2 g2 h1 h2 d d' h
  obtain ⟨p,e1,e2⟩:=Qh h
  obtain ⟨hN,s1⟩:=h1 d p e1
  obtain ⟨hM,s2⟩:=h2 p.1 p.2 d' e2
  refine ⟨hN.trans hM,fun u e hu hs=>?_⟩
  obtain ⟨x,hx,hs1⟩:=s1 u e (hM.trans hu) hs
  obtain ⟨y,hy,hs2⟩:=s2 u x hu hs1
  exact ⟨y,QO hx hy,hs2⟩
end
theorem Q3B {v:List QB} {fuel:Nat} {kind:Int} {fits:QB→Bool} {e:ESt} {p:QB×ESt} (h:Q1t v fuel kind fits e = .ok p):e.next < fuel∧v[e.next]? = some p.1∧p.1.kind=kind∧fits p.1=true∧p.2 = { e with next:=e.next + 1 }:=by
 unfold Q1t at h
 split at h
 ·cases h
 ·rename_i hf
  split at h
  ·cases h
  ·rename_i x hx
   split at h
   ·rename_i hk
    cases h
    exact ⟨by omega,hx,hk.1,hk.2,rfl⟩
   ·cases h
theorem Q1T {size:Nat} {n:Int} {e e':ESt} (h:Q1k size n e = .ok e'):e' = { e with out:=e.out++Q34 n }∧e'.out.length≤size:=by
 obtain ⟨e1,h1,h2⟩:=Qh h
 unfold Q2G at h1
 split at h1
 ·cases h1
 ·cases h1
  cases h2
  refine ⟨rfl,?_⟩
  simp only [List.length_append,Q1d]
  omega
theorem Q7T {size:Nat} {s:List UInt8} {e e':ESt} (h:Q2J size s e = .ok e'):e' = { e with out:=e.out++padB s }∧e'.out.length≤size:=by
 obtain ⟨e1,h1,h2⟩:=Qh h
 unfold Q2G at h1
 split at h1
 ·cases h1
 ·cases h1
  cases h2
  have h3:(padB s).length=Q0i s.length:=by unfold padB Q0i;simp;omega
  refine ⟨rfl,?_⟩
  simp only [List.length_append,h3]
  omega
theorem QgQ {b o l:List UInt8} {d:DSt} (h:o++l <+: b) (hp:d.pos=o.length):Q27 b l.length d = .ok (l,{ d with pos:=d.pos + l.length }):=by
 obtain ⟨t,rfl⟩:=h
 unfold Q27
 rw [if_neg (by simp [hp]),hp,List.append_assoc,List.drop_left,List.take_left]
theorem Q9X {b o:List UInt8} {n:Int} {d:DSt} (h:o++Q34 n <+: b) (hp:d.pos=o.length):Q2F b d = .ok ((n % 4294967296).toNat,{ d with pos:=d.pos + 4 }):=by
 have:=QgQ h hp
 rw [Q1d] at this
 unfold Q2F
 rw [this]
 simp only [thenE]
 rw [Q7R]
theorem QeZ:∀ (k i:Nat),Q1M i (List.replicate k 0)=none:=by
 intro k
 induction k with
 | zero=>intro i;rfl
 | succ k ih=>
  intro i
  rw [List.replicate_succ]
  simp only [Q1M,if_true]
  exact ih (i + 1)
theorem Qms {b o s:List UInt8} {d:DSt} (h:o++padB s <+: b) (hp:d.pos=o.length):Q1j b s.length d = .ok (s,{ d with pos:=d.pos + (padB s).length }):=by
 have h3:(padB s).length=Q0i s.length:=by unfold padB Q0i;simp;omega
 have:=QgQ h hp
 rw [h3] at this ⊢
 unfold Q1j
 rw [this]
 simp only [thenE]
 have e1:(padB s).drop s.length=List.replicate (Q0i s.length - s.length) 0:=by unfold padB;rw [List.drop_left]
 have e2:(padB s).take s.length=s:=by unfold padB;rw [List.take_left]
 rw [e1,e2,QeZ]
theorem Q6C {fuel:Nat} {d:DSt} (h:d.nodes.length < fuel):Q0x fuel d = .ok d:=by
 unfold Q0x
 rw [if_neg (by omega)]
theorem Q7S.step {v:List QB} {e:ESt} {d:DSt} {x:QB} {y:Q0j} {out:List UInt8} {pos:Nat} (hs:Q7S v e d) (hx:v[e.next]? = some x) (hk:keyL y=Q3A x) (hp:pos=out.length):Q7S v ⟨e.next + 1,out⟩ (putD y ⟨pos,d.nodes⟩):=by
 refine ⟨hp,by simp [putD,hs.len],?_⟩
 have hlt:e.next < v.length:=by
  rcases Nat.lt_or_ge e.next v.length with h | h
  ·exact h
  ·rw [List.getElem?_eq_none h] at hx;cases hx
 simp only [putD]
 rw [List.map_append,hs.key,List.take_succ,hx]
 simp [hk]
theorem Q5a {b:List UInt8} {n:Int} {f:Bool} {k:Int} {d:DSt} {size:Nat} {e e':ESt} (hn:Q5Y n) (ha:Q0K n f k=true) (h:(if f then .ok e else Q1k size k e) = .ok e') :
  e'.next=e.next∧e.out <+: e'.out∧(e.out.length≤size→e'.out.length≤size)∧0≤k∧(e'.out <+: b→d.pos=e.out.length→Q0y b n f d = .ok (k.toNat,{ d with pos:=e'.out.length })):=by
 unfold Q0K at ha
 cases f with
 | true=>
  simp only [if_true,decide_eq_true_eq] at ha h
  cases h
  refine ⟨rfl,List.prefix_refl _,id,by rw [ha];exact hn.1,fun _ hp=>?_⟩
  unfold Q0y
  simp only [if_true]
  rw [ha,← hp]
 | false=>
  simp only [Bool.false_eq_true,if_false,Bool.and_eq_true,decide_eq_true_eq] at ha h
  obtain ⟨rfl,hl⟩:=Q1T h
  refine ⟨rfl,List.prefix_append _ _,fun _=>hl,ha.1,fun hb hp=>?_⟩
  unfold Q0y
  simp only [Bool.false_eq_true,if_false]
  have hk:=hn.2
  have ek:(k % 4294967296).toNat=k.toNat:=by omega
  rw [Q9X hb hp,ek]
  simp only [thenE]
  rw [if_pos (by omega)]
  simp [hp,Q1d]
theorem Qix {v:List QB} {dep fuel size:Nat}:KitW (kitB v) (encW v dep fuel size) (fun b=>decW b dep fuel) where
 enter k:=by
  intro d d' h
  simp only [encW] at h
  split at h
  ·cases h
  ·rename_i hk
   cases h
   exact ⟨List.prefix_refl _,fun u e _ hs=>⟨e,by simp only [decW];rw [if_neg hk],hs⟩⟩
 num n hn:=by
  intro e e' h
  obtain ⟨p,e1,h⟩:=Qh h
  obtain ⟨hf,hx,hk,hh,hp⟩:=Q3B e1
  obtain ⟨x,e0⟩:=p
  simp only at hx hk hh hp h
  subst hp
  have hr:n.low≤x.n∧x.n≤n.high:=by
   simp only [NumL.has,Bool.and_eq_true,decide_eq_true_eq] at hh
   exact hh.1
  have key:keyL ⟨1,x.n,[],0,0⟩=Q3A x:=by simp [keyL,Q3A,hk]
  unfold Q4r at hn
  obtain ⟨e2,h2,h3⟩:=Qh h
  cases hw:n.wide with
  | true=>
   simp only [hw,if_true] at h2 hn
   obtain ⟨rfl,_⟩:=Q1T h2
   obtain ⟨rfl,_⟩:=Q1T h3
   refine ⟨by simp only [List.append_assoc];exact List.prefix_append _ _,fun b d hb hs=>?_⟩
   simp only [List.append_assoc] at hb
   refine ⟨putD ⟨1,x.n,[],0,0⟩ ⟨d.pos + 8,d.nodes⟩,?_,hs.step hx key (by simp [hs.pos,Q1d])⟩
   have hnum:Q0Z b n d = .ok (x.n,⟨d.pos + 8,d.nodes⟩):=by
    unfold Q0Z
    rw [if_pos hw]
    have:=QgQ hb hs.pos
    rw [List.length_append,Q1d,Q1d] at this
    refine QO this ?_
    rw [QfJ (Q1d _),Q7R,Q7R,Qit (by omega) (by omega)]
   exact QO (Q6C (by rw [hs.len];exact hf)) (QO hnum (by simp only [hh,if_true]))
  | false=>
   simp only [hw,Bool.false_eq_true,if_false] at h2 hn
   cases h2
   obtain ⟨rfl,_⟩:=Q1T h3
   refine ⟨List.prefix_append _ _,fun b d hb hs=>?_⟩
   refine ⟨putD ⟨1,x.n,[],0,0⟩ ⟨d.pos + 4,d.nodes⟩,?_,hs.step hx key (by simp [hs.pos,Q1d])⟩
   have hnum:Q0Z b n d = .ok (x.n,⟨d.pos + 4,d.nodes⟩):=by
    unfold Q0Z
    rw [if_neg (by simp [hw])]
    refine QO (Q9X hb hs.pos) ?_
    simp only
    rw [QbF (fun hl=>⟨by have:=(hn.1 hl).1;omega,by have:=(hn.1 hl).2;omega⟩) (fun hl=>⟨by omega,by omega⟩)]
   exact QO (Q6C (by rw [hs.len];exact hf)) (QO hnum (by simp only [hh,if_true]))
 text n f hn:=by
  intro e e' h
  obtain ⟨p,e1,h⟩:=Qh h
  obtain ⟨hf,hx,hk,hh,hp⟩:=Q3B e1
  obtain ⟨x,e0⟩:=p
  simp only at hx hk hh hp h
  subst hp
  obtain ⟨e2,h2,h3⟩:=Qh h
  obtain ⟨rfl,_⟩:=Q7T h3
  obtain ⟨c1,c2,c3,c4,c5⟩:=Q5a (b:=[]) (d:=⟨0,[]⟩) hn hh h2
  refine ⟨c2.trans (List.prefix_append _ _),fun b d hb hs=>?_⟩
  obtain ⟨_,_,_,_,c6⟩:=Q5a (b:=b) (d:=d) hn hh h2
  have c7:=c6 ((List.prefix_append _ _).trans hb) hs.pos
  simp only [Int.toNat_natCast] at c7
  refine ⟨_,QO (Q6C (by rw [hs.len];exact hf)) (QO c7 (QO (Qms hb rfl) rfl)),?_⟩
  have:=hs.step (y:=⟨2,0,x.s,0,e2.out.length⟩) (out:=e2.out++padB x.s) (pos:=e2.out.length + (padB x.s).length) hx (by simp [keyL,Q3A,hk]) (by simp)
  simp only at c1
  rw [c1]
  exact this
 list n f hn:=by
  intro e p' h
  obtain ⟨p,e1,h⟩:=Qh h
  obtain ⟨hf,hx,hk,hh,hp⟩:=Q3B e1
  obtain ⟨x,e0⟩:=p
  simp only at hx hk hh hp h
  subst hp
  obtain ⟨e2,h2,h3⟩:=Qh h
  cases h3
  obtain ⟨c1,c2,c3,c4,c5⟩:=Q5a (b:=[]) (d:=⟨0,[]⟩) hn hh h2
  refine ⟨c2,fun b d hb hs=>?_⟩
  obtain ⟨_,_,_,_,c6⟩:=Q5a (b:=b) (d:=d) hn hh h2
  have c7:=c6 hb hs.pos
  refine ⟨_,QO (Q6C (by rw [hs.len];exact hf)) (QO c7 rfl),?_⟩
  have:=hs.step (y:=⟨3,0,[],x.len.toNat,0⟩) (out:=e2.out) (pos:=e2.out.length) hx (by simp only [keyL,Q3A,hk,Int.toNat_of_nonneg c4];rfl) rfl
  simp only at c1
  rw [← c1] at this
  exact this
 arm n w hn:=by
  intro e p' h
  obtain ⟨p,e1,h⟩:=Qh h
  obtain ⟨hf,hx,hk,hh,hp⟩:=Q3B e1
  obtain ⟨x,e0⟩:=p
  simp only at hx hk hh hp h
  subst hp
  obtain ⟨e2,h2,h3⟩:=Qh h
  cases h3
  obtain ⟨rfl,_⟩:=Q1T h2
  unfold Q3a at hh
  split at hh
  ·rename_i k hw
   simp only [decide_eq_true_eq] at hh
   obtain ⟨r1,r2⟩:=hn x.n (by rw [hw];rfl)
   refine ⟨List.prefix_append _ _,fun b d hb hs=>?_⟩
   have c7:=Q9X hb hs.pos
   refine ⟨_,QO (Q6C (by rw [hs.len];exact hf)) (QO c7 ?_),hs.step (y:=⟨4,x.n,[],k,0⟩) (pos:=d.pos + 4) (out:=e.out++Q34 x.n) hx (by simp only [keyL,Q3A,hk,hh];rfl) (by simp [hs.pos,Q1d])⟩
   simp only
   rw [QbF r1 r2,hw]
  ·cases hh
theorem QbG (v:List QB) (dep fuel size:Nat):WInv (encW v dep fuel size) fun e=>e.out.length≤size where
 enter k e e' he h:=by
  simp only [encW] at h
  split at h
  ·cases h
  ·cases h;exact he
 num n e e' he h:=by
  obtain ⟨p,e1,h⟩:=Qh h
  obtain ⟨e2,h2,h3⟩:=Qh h
  exact (Q1T h3).2
 text n f e e' he h:=by
  obtain ⟨p,e1,h⟩:=Qh h
  obtain ⟨e2,h2,h3⟩:=Qh h
  exact (Q7T h3).2
 list n f e p' he h:=by
  obtain ⟨p,e1,h⟩:=Qh h
  obtain ⟨_,_,_,_,hp⟩:=Q3B e1
  obtain ⟨e2,h2,h3⟩:=Qh h
  cases h3
  split at h2
  ·cases h2
   rw [hp]
   exact he
  ·exact (Q1T h2).2
 arm n w e p' he h:=by
  obtain ⟨p,e1,h⟩:=Qh h
  obtain ⟨e2,h2,h3⟩:=Qh h
  cases h3
  exact (Q1T h2).2
theorem Qco {E:Env} (hE:Qcz E) {n b:List UInt8} {v:List QB} {dep fuel size:Nat} (h:Q5r E n v dep fuel size = .ok b):∃ u,Q0z E n b dep fuel size = .ok u∧u.map keyL=v.map Q3A:=by
 obtain ⟨e,h1,h2⟩:=Qh h
 split at h2
 ·cases h2
 rename_i hl
 cases h2
 have hs:=Q7Q (QbG v dep fuel size) 64 0 n ⟨0,[]⟩ _ (Nat.zero_le _) h1
 obtain ⟨_,hx⟩:=QdD (Qix (v:=v) (dep:=dep) (fuel:=fuel) (size:=size)) hE 64 0 n _ _ h1
 obtain ⟨d,hd,h3⟩:=hx e.out ⟨0,[]⟩ (List.prefix_refl _) ⟨rfl,rfl,rfl⟩
 refine ⟨d.nodes,?_,?_⟩
 ·unfold Q0z
  rw [if_neg (by omega)]
  refine QO hd ?_
  rw [if_neg (by rw [h3.pos];omega)]
 ·rw [h3.key,List.take_of_length_le (by omega)]
end Go.Proofs.YtmbcibgknckenaaGreatDoor
namespace Go.Proofs.YtmbcibgknckenaaGreatDoor
open Go.RowKit
open Go.MapKept
theorem Qk3:(Tryz.prog.info? 226).map (fun i=>(i.zero,i.size,i.bytes))=some (some .nilIface,1,16):=by kernel_rfl
theorem Qk4:(Tryz.prog.info? 222).map (fun i=>(i.zero,i.size,i.bytes))=some (some (.agg #[.int .i64 0,.string ⟨#[]⟩]),2,24):=by kernel_rfl
theorem Q1z {w u:World} {a:CAd} {Fr bs:List (Nat×Obj)} {s:CSt} {sl ks:Value} {cv:List (Qk×Value)} {et:List (List UInt8×NumL×Value)} {v:Value} {x:Qk} (h:Cp w a Fr bs s sl ks cv et u) (hx:Q2i bs v x) (hs:s.code.length < 1000000) :
  Calls Tryz.prog 98 #[.pointer (some ⟨a.C,0,none⟩),v] u fun e u'=>e = .returned (.int .i64 s.code.length)∧∃ sl',Cp w a Fr bs (putM x s) sl' ks (cv++[(x,v)]) et u':=by
 obtain ⟨T,y,rfl⟩:=hx.iface
 obtain ⟨ad,cap,rfl⟩:=h.slice
 obtain ⟨c0,c1,c2,c3,hfz,hlt⟩:=h.cells
 obtain ⟨i0,hi0,hz0,hz1,hz2⟩:=info_parts Qk3
 have H:=Hid.mk h
 have HX:=Hid.mk hx
 have hwl:w.heap.size≤u.heap.size:=h.own.kp.size
 have hown5:∀ ob,(u.alloc ob).ownsRow w.heap.size 226 1 (.slice ad s.code.length cap) s.code.length (cv.map (·.2)):=fun ob=>Qt h.row ((Qb.refl [] u).alloc ob) (by simp)
 have hl1:s.code.length + 1≤maxLen:=by unfold maxLen;omega
 have hl2:(s.code.length + 1) * 16≤140737488355328:=by omega
 have hz3:Value.nilIface.cells.size=1:=rfl
 have hbox6:∀ ob u3,(u.alloc ob).grownBy u3 (Value.slice ad s.code.length cap).ownBlock→u3.cell? ⟨a.C,0,none⟩=some (.slice ad s.code.length cap)∧(∀ i,u3.frozen? ⟨a.C,i,none⟩=false)∧a.C < u3.heap.size:=by
  intro ob u3 hg
  have hb:u3.heap[a.C]? = some (.cells #[.slice ad s.code.length cap,.map (some a.B),.map (some a.E),ks] 123):=
   (hg.block _ (by simp;omega) (fun e=>(H.out.distinct.2.2.2.1 _ e.symm).1 rfl)).trans ((((Qb.refl [] u).alloc ob).block _ hlt (by simp)).trans H.out.box)
  refine ⟨?_,?_,Qc hb⟩<;>simp [World.cell?,World.frozen?,hb]
 have H6:=Hid.mk hbox6
 clear h hx hbox6
 go_enter Tryz.func98,Tryz.ntmps98
 go_wp2_with (first
  | (at_builtin;refine wpList_append_lies _ (by rfl) _ _ _ (by rfl) w.heap.size 226 i0 _ 1 16 Tryz.underlying63 hi0 hz0 hz1 hz2 hz3 (by omega) (.slice ad s.code.length cap) s.code.length (cv.map (·.2)) (by rfl) (hown5 _) ⟨u.heap.size,0,none⟩ 1 1 [.iface T y] (by rfl) (by rfl) (World.news_of_block (cs:=#[.iface T y]) (t:=226) (fr:=(0,0)) (heap_alloc_new u _)) (by simp [Value.oneCell']) (by omega) hl1 hl2 (by simp;omega) (u.heap.size + 1) (by simp) ?_;intro g cap' w8 hown8 hgrow hat hlt8;obtain ⟨q0,q1,q2⟩:=H6.out _ _ hgrow))
 go_ret
 have M:=Cp.putCode H.out HX.out ((Below.refl u.heap.size u).alloc (Nat.le_refl _) _) hown8 hgrow (by simpa using hat) hlt8
 exact ⟨by simp,_,M⟩
theorem Q2B {w u:World} {a:CAd} {Fr bs:List (Nat×Obj)} {s:CSt} {sl ks:Value} {cv:List (Qk×Value)} {et:List (List UInt8×NumL×Value)} (h:Cp w a Fr bs s sl ks cv et u) :
  Calls Tryz.prog 95 #[.pointer (some ⟨a.C,0,none⟩)] u fun e u'=>e = .returned (.int .i64 s.code.length)∧u'=u:=by
 obtain ⟨ad,cap,rfl⟩:=h.slice
 obtain ⟨c0,c1,c2,c3,hfz,hlt⟩:=h.cells
 clear h
 go_enter Tryz.func95,Tryz.ntmps95
 go_wp2
 go_ret
 exact ⟨rfl,rfl⟩
abbrev QlU (n:NumL) (m:Value):Array Value:=#[.int .i64 n.low,.int .i64 n.high,m,.bool n.wide]
theorem Q7d (k:Nat):(QI k).mem=none:=by
 unfold QI
 split
 ·rfl
 ·split
  ·rfl
  ·split<;>rfl
theorem Q7e (k:Nat) (w:World):Calls Tryz.prog 141 #[.int .i64 k] w fun e w'=>e = .returned (.agg (QlU (QI k) (.slice none 0 0)))∧Below w.heap.size w w':=by
 have hb:∀ o,Below w.heap.size w (w.alloc o):=fun o=>(Below.refl _ _).alloc (Nat.le_refl _) _
 by_cases h0:k=0
 ·have e0:((k:Int) == 0)=true:=by simp [h0]
  have E:Hid (QI k=⟨-2147483648,2147483647,none,false⟩):=by show _=_;simp [QI,h0]
  clear h0
  go_enter Tryz.func141,Tryz.ntmps141
  go_wp2
  exact bodyPost_ret (v:=.agg #[.int .i64 (-2147483648),.int .i64 2147483647,.slice none 0 0,.bool false]) (by simp [results,Tryz.results141,go_sem]) rfl ⟨by rw [E.out],hb _⟩
 ·have e0:((k:Int) == 0)=false:=by simp;omega
  by_cases h1:k=1
  ·have e1:((k:Int) == 1)=true:=by simp [h1]
   have E:Hid (QI k=⟨0,4294967295,none,false⟩):=by show _=_;simp [QI,h1]
   clear h0 h1
   go_enter Tryz.func141,Tryz.ntmps141
   go_wp2
   exact bodyPost_ret (v:=.agg #[.int .i64 0,.int .i64 4294967295,.slice none 0 0,.bool false]) (by simp [results,Tryz.results141,go_sem]) rfl ⟨by rw [E.out],hb _⟩
  ·have e1:((k:Int) == 1)=false:=by simp;omega
   by_cases h4:k=4
   ·have e4:((k:Int) == 4)=true:=by simp [h4]
    have E:Hid (QI k=⟨0,1,none,false⟩):=by show _=_;simp [QI,h4]
    clear h0 h1 h4
    go_enter Tryz.func141,Tryz.ntmps141
    go_wp2
    exact bodyPost_ret (v:=.agg #[.int .i64 0,.int .i64 1,.slice none 0 0,.bool false]) (by simp [results,Tryz.results141,go_sem]) rfl ⟨by rw [E.out],hb _⟩
   ·have e4:((k:Int) == 4)=false:=by simp;omega
    have E:Hid (QI k=⟨-9223372036854775808,9223372036854775807,none,true⟩):=by show _=_;simp [QI,h0,h1,h4]
    clear h0 h1 h4
    go_enter Tryz.func141,Tryz.ntmps141
    go_wp2
    exact bodyPost_ret (v:=.agg #[.int .i64 (-9223372036854775808),.int .i64 9223372036854775807,.slice none 0 0,.bool true]) (by simp [results,Tryz.results141,go_sem]) rfl ⟨by rw [E.out],hb _⟩
theorem Qk5 (k:Nat×List UInt8):∀ u∈Q58 k,u.oneCell'=true:=by
 intro u hu
 simp at hu
 rcases hu with rfl | rfl<;>rfl
theorem Cp.kbox {w u u3:World} {a:CAd} {Fr bs:List (Nat×Obj)} {s:CSt} {sl ks:Value} {cv:List (Qk×Value)} {et:List (List UInt8×NumL×Value)} {ob:Obj} (h:Cp w a Fr bs s sl ks cv et u) (hg:(u.alloc ob).grownBy u3 ks.ownBlock) :
  u3.cell? ⟨a.C,3,none⟩=some ks∧(∀ i,u3.frozen? ⟨a.C,i,none⟩=false)∧a.C < u3.heap.size:=by
 have hlt:=Qc h.box
 have hb:u3.heap[a.C]? = some (.cells #[sl,.map (some a.B),.map (some a.E),ks] 123):=
  (hg.block _ (by simp;omega) (fun e=>(h.distinct.2.2.2.2 _ e.symm).1 rfl)).trans ((((Qb.refl [] u).alloc ob).block _ hlt (by simp)).trans h.box)
 refine ⟨?_,?_,Qc hb⟩<;>simp [World.cell?,World.frozen?,hb]
theorem Qk6 {w u:World} {a:CAd} {Fr bs:List (Nat×Obj)} {s:CSt} {sl ks:Value} {cv:List (Qk×Value)} {et:List (List UInt8×NumL×Value)} (n:List UInt8) (h:Cp w a Fr bs s sl ks cv et u) (hs:s.code.length < 1000000) (hc:s.calls.length < 1000000) :
  Calls Tryz.prog 140 #[.pointer (some ⟨a.C,0,none⟩),.string ⟨n.toArray⟩] u fun e u'=>e = .returned (.tuple #[])∧QE w a Fr bs (Q2E n s) u':=by
 obtain ⟨ad,cap,rfl⟩:=h.kslice
 obtain ⟨c0,c1,c2,c3,hfz,hlt⟩:=h.cells
 obtain ⟨i0,hi0,hz0,hz1,hz2⟩:=info_parts Qk4
 have hbd:Below u.heap.size u u.drew:=(Below.refl _ _).drew
 have HC:=Hid.mk (Q1z (v:=.iface 224 (.agg #[.int .i64 0])) (x:=.call 0) (h.below hbd) rfl hs)
 have hl1:s.calls.length + 1≤maxLen:=by unfold maxLen;omega
 have hl2:(s.calls.length + 1) * 24≤140737488355328:=by omega
 have hz3:(Value.agg #[.int .i64 0,.string ⟨#[]⟩]).cells.size=2:=by decide
 clear h hbd
 go_enter Tryz.func140,Tryz.ntmps140
 go_wp2_with fail
 refine QD (fun w'=>w'.cell? ⟨a.C,3,none⟩=some (.slice ad s.calls.length cap)) (L:=15) (by kernel_rfl) rfl (by kernel_rfl) (by kernel_rfl) ?_ (fun hHeld=>?_)
 ·go_keep
 refine tk (i:=0) (v:=?_) rfl (by kernel_rfl) (fun _ _ _ h=>h) (by rfl) (by assumption) ?_ ?_
 rotate_left
 ·intro w hSw;(try dsimp only at hSw);go_simp;(try with_reducible rfl)
 (try simp only [Qd,Qe,List.set])
 refine tk (i:=1) (v:=?_) rfl (by kernel_rfl) (fun _ _ _ h=>h) (by rfl) (by assumption) ?_ ?_
 rotate_left
 ·intro w hSw;(try dsimp only at hSw);go_simp;(try with_reducible rfl)
 (try simp only [Qd,Qe,List.set])
 refine tk (i:=2) (v:=?_) rfl (by kernel_rfl) (fun _ _ _ h=>h) (by rfl) (by assumption) ?_ ?_
 rotate_left
 ·intro w hSw;(try dsimp only at hSw);go_simp;(try with_reducible rfl)
 (try simp only [Qd,Qe,List.set])
 refine tk (i:=3) (v:=?_) rfl (by kernel_rfl) (fun _ _ _ h=>h) (by rfl) (by assumption) ?_ ?_
 rotate_left
 ·intro w hSw;(try dsimp only at hSw);go_simp;(try with_reducible rfl)
 (try simp only [Qd,Qe,List.set])
 refine tk (i:=4) (v:=?_) rfl (by kernel_rfl) (fun _ _ _ h=>h) (by rfl) (by assumption) ?_ ?_
 rotate_left
 ·intro w hSw;(try dsimp only at hSw);go_simp;(try with_reducible rfl)
 (try simp only [Qd,Qe,List.set])
 refine tk (i:=5) (v:=?_) rfl (by kernel_rfl) (fun _ _ _ h=>h) (by rfl) (by assumption) ?_ ?_
 rotate_left
 ·intro w hSw;(try dsimp only at hSw);go_simp;(try with_reducible rfl)
 (try simp only [Qd,Qe,List.set])
 refine tk (i:=6) (v:=?_) rfl (by kernel_rfl) (fun _ _ _ h=>h) (by rfl) (by assumption) ?_ ?_
 rotate_left
 ·intro w hSw;(try dsimp only at hSw);go_simp;(try with_reducible rfl)
 (try simp only [Qd,Qe,List.set])
 refine tk (i:=7) (v:=?_) rfl (by kernel_rfl) (fun _ _ _ h=>h) (by rfl) (by assumption) ?_ ?_
 rotate_left
 ·intro w hSw;(try dsimp only at hSw);go_simp;(try with_reducible rfl)
 (try simp only [Qd,Qe,List.set])
 refine tk (i:=9) (v:=?_) rfl (by kernel_rfl) (fun _ _ _ h=>h) (by rfl) (by assumption) ?_ ?_
 rotate_left
 ·intro w hSw;(try dsimp only at hSw);go_simp;(try with_reducible rfl)
 (try simp only [Qd,Qe,List.set])
 refine wpAnyH_ready (rs:=[8]) (by kernel_rfl) (by simp) ?_
 refine AllReadyH.cons rfl (fun K hK=>?_) AllReadyH.nil
 (go_simp;go_at_call 98;refine HC.out.mono ?_;rintro e w5 ⟨rfl,sl5,M5⟩;have M5:=Hid.mk M5;have hc5:w5.cell? ⟨a.C,3,none⟩=some (.slice ad s.calls.length cap):=M5.out.cells.2.2.2.1;have hwl:w.heap.size≤w5.heap.size:=M5.out.own.kp.size;have hlt5:a.C < w5.heap.size:=M5.out.cells.2.2.2.2.2)
 refine hK.out _ _ ?_ (fun hHeld=>?_)
 ·go_keep
 clear hK K
 (try simp only [Qd,Qe,List.set])
 refine tk (i:=10) (v:=?_) rfl (by kernel_rfl) (fun _ _ _ h=>h) (by rfl) (by assumption) ?_ ?_
 rotate_left
 ·intro w hSw;(try dsimp only at hSw);go_simp;(try with_reducible rfl)
 (try simp only [Qd,Qe,List.set])
 refine wpAnyH_ready (rs:=[11]) (by kernel_rfl) (by simp) ?_
 refine AllReadyH.cons rfl (fun K hK=>?_) AllReadyH.nil
 go_simp
 refine hK.out _ _ ?_ (fun hHeld=>?_)
 ·go_keep
 clear hK K
 (try simp only [Qd,Qe,List.set])
 refine wpAnyH_ready (rs:=[12]) (by kernel_rfl) (by simp) ?_
 refine AllReadyH.cons rfl (fun K hK=>?_) AllReadyH.nil
 (refine step_append_lies _ (by rfl) _ _ _ (by rfl) w.heap.size 222 i0 _ 2 24 Tryz.underlying121 hi0 hz0 hz1 hz2 hz3 (by omega) (.slice ad s.calls.length cap) s.calls.length (s.calls.flatMap Q58) (by rfl) (Qt M5.out.kro ((Qb.refl [] w5).alloc _) (by simp)) ⟨w5.heap.size,0,none⟩ 1 1 (Q58 (s.code.length,n)) (by rfl) (by rfl) (World.news_of_block (cs:=(Q58 (s.code.length,n)).toArray) (t:=222) (fr:=(0,0)) (heap_alloc_new w5 _)) (Qk5 _) (by omega) hl1 hl2 (by simp;omega) (w5.heap.size + 1) (by simp) ?_;intro g cap' w6 hown6 hgrow hat hlt;obtain ⟨q0,q1,q2⟩:=M5.out.kbox hgrow)
 refine hK.out _ _ ?_ (fun hHeld=>?_)
 ·go_keep
 clear hK K
 (try simp only [Qd,Qe,List.set])
 refine tk (i:=13) (v:=?_) rfl (by kernel_rfl) (fun _ _ _ h=>h) (by rfl) (by assumption) ?_ ?_
 rotate_left
 ·intro w hSw;(try dsimp only at hSw);go_simp;(try with_reducible rfl)
 (try simp only [Qd,Qe,List.set])
 refine tk (i:=14) (v:=?_) rfl (by kernel_rfl) (fun _ _ _ h=>h) (by rfl) (by assumption) ?_ ?_
 rotate_left
 ·intro w hSw;(try dsimp only at hSw);go_simp;(try with_reducible rfl)
 (try simp only [Qd,Qe,List.set])
 refine wpAnyH_done (by kernel_rfl) ?_ _
 refine QL rfl (fun K hK=>?_)
 go_simp
 refine hK.out _ _ ?_
 clear hK K
 (try simp only [Qd,Qe,List.set])
 have M6:=Cp.putCall (k:=(s.code.length,n)) M5.out ((Below.refl w5.heap.size w5).alloc (Nat.le_refl _) _) hown6 hgrow (by simpa using hat) hlt
 go_wp2
 go_end0
 exact ⟨rfl,M6.gives⟩
theorem Q7f (bs:List (Nat×Obj)) {n:NumL} (h:n.mem=none):Q1g bs [.int .i64 n.low,.int .i64 n.high,.slice none 0 0,.bool n.wide] n:=⟨.slice none 0 0,rfl,by rw [h];rfl,_,_,_,rfl⟩
structure Room (s:CSt) (n:Nat):Prop where
 code:s.code.length + n < 1000000
 calls:s.calls.length≤s.code.length
theorem Room.put {s:CSt} {n:Nat} (h:Room s (n + 1)) (x:Qk):Room (putM x s) n:=⟨by simp [putM];have:=h.code;omega,by simp [putM];have:=h.calls;omega⟩
theorem Room.call {s:CSt} {n:Nat} (h:Room s (n + 1)) (t:List UInt8):Room (Q2E t s) n:=⟨by simp [Q2E];have:=h.code;omega,by simp [Q2E];have:=h.calls;omega⟩
theorem Room.less {s:CSt} {n m:Nat} (h:Room s n) (hm:m≤n):Room s m:=⟨by have:=h.code;omega,h.calls⟩
theorem Room.set {s:CSt} {n:Nat} (h:Room s n) (i:Nat) (x:Qk):Room (setM i x s) n:=⟨by simpa [setM] using h.code,by simpa [setM] using h.calls⟩
theorem Room.value (t:Ty):∀ {s:CSt} {n:Nat},Room s (n + QU t)→Room (QT t s) n:=by
 induction t with
 | named t a=>intro s n h;exact h.call t
 | plain k=>intro s n h;exact h.put _
 | opaq k f=>intro s n h;exact h.put _
 | str k f=>intro s n h;exact h.put _
 | void=>intro s n h;exact h
 | arr o k f ih=>intro s n h;exact (Room.put (ih (Room.put (Room.less h (by simp only [QU];omega)) _)) _).set _ _
 | opt o ih=>intro s n h;exact (ih (Room.put (Room.less h (by simp only [QU];omega)) _)).set _ _
theorem Qf0 {w u:World} {a:CAd} {Fr bs:List (Nat×Obj)} {s:CSt} {sl ks:Value} {cv:List (Qk×Value)} {et:List (List UInt8×NumL×Value)} (t:List UInt8) (p:Nat) (h:Cp w a Fr bs s sl ks cv et u) (hr:Room s 1) :
  Calls Tryz.prog 96 #[.pointer (some ⟨a.C,0,none⟩),.iface 213 (.agg #[.string ⟨t.toArray⟩,.int .i64 p])] u fun e u'=>e = .returned (.tuple #[])∧QE w a Fr bs (Q2E t s) u':=by
 have t0:∀ W,(Instr.typeAssert (.iface 213 (.agg #[.string ⟨t.toArray⟩,.int .i64 p])) 193 213 true).run Tryz.prog W = .ok (.tuple #[.agg #[.string ⟨t.toArray⟩,.int .i64 p],.bool true]) W:=fun W=>by kernel_rfl
 have hr1:=hr.code
 have hr2:=hr.calls
 have hb:∀ o,Below u.heap.size u (u.alloc o):=fun o=>(Below.refl _ _).alloc (Nat.le_refl _) _
 have H:=Hid.mk h
 clear h
 go_enter Tryz.func96,Tryz.ntmps96
 go_wp2_with fail
 refine (Qk6 t (H.out.below (hb _)) (by omega) (by omega)).mono ?_
 rintro e w2 ⟨rfl,M2⟩
 go_wp2
 go_end0
 exact ⟨rfl,M2⟩
theorem Qf1 {w u:World} {a:CAd} {Fr bs:List (Nat×Obj)} {s:CSt} {sl ks:Value} {cv:List (Qk×Value)} {et:List (List UInt8×NumL×Value)} (k:Nat) (h:Cp w a Fr bs s sl ks cv et u) (hr:Room s 1) :
  Calls Tryz.prog 96 #[.pointer (some ⟨a.C,0,none⟩),.iface 301 (.agg #[.int .i64 k])] u fun e u'=>e = .returned (.tuple #[])∧QE w a Fr bs (putM (.num (QI k)) s) u':=by
 have t0:∀ W,(Instr.typeAssert (.iface 301 (.agg #[.int .i64 k])) 193 213 true).run Tryz.prog W = .ok (.tuple #[.agg #[.string ⟨#[]⟩,.int .i64 0],.bool false]) W:=fun W=>by kernel_rfl
 have t1:∀ W,(Instr.typeAssert (.iface 301 (.agg #[.int .i64 k])) 193 301 true).run Tryz.prog W = .ok (.tuple #[.agg #[.int .i64 k],.bool true]) W:=fun W=>by kernel_rfl
 have hr1:=hr.code
 have hr2:=hr.calls
 have hb:∀ o,Below u.heap.size u (u.alloc o):=fun o=>(Below.refl _ _).alloc (Nat.le_refl _) _
 have H:=Hid.mk h
 clear h
 go_enter Tryz.func96,Tryz.ntmps96
 go_wp2_with fail
 refine (Q7e k _).mono ?_
 rintro e w2 ⟨rfl,hb2⟩
 have M2:=(H.out.below (hb _)).below hb2
 go_wp2_with fail
 refine (Q1z (v:=.iface 200 (.agg (QlU (QI k) (.slice none 0 0)))) (x:=.num (QI k)) M2 ⟨[.int .i64 (QI k).low,.int .i64 (QI k).high,.slice none 0 0,.bool (QI k).wide],rfl,Q7f _ (Q7d k)⟩ (by omega)).mono ?_
 rintro e w3 ⟨rfl,sl3,M3⟩
 go_wp2
 go_end0
 exact ⟨rfl,M3.gives⟩
theorem QgR {w u:World} {a:CAd} {Fr bs:List (Nat×Obj)} {s:CSt} {sl ks:Value} {cv:List (Qk×Value)} {et:List (List UInt8×NumL×Value)} (n:Int) (f:Bool) (h:Cp w a Fr bs s sl ks cv et u) (hr:Room s 1) :
  Calls Tryz.prog 96 #[.pointer (some ⟨a.C,0,none⟩),.iface 306 (.agg #[.int .i64 n,.bool f])] u fun e u'=>e = .returned (.tuple #[])∧QE w a Fr bs (putM (.text n f) s) u':=by
 have t0:∀ W,(Instr.typeAssert (.iface 306 (.agg #[.int .i64 n,.bool f])) 193 213 true).run Tryz.prog W = .ok (.tuple #[.agg #[.string ⟨#[]⟩,.int .i64 0],.bool false]) W:=fun W=>by kernel_rfl
 have t1:∀ W,(Instr.typeAssert (.iface 306 (.agg #[.int .i64 n,.bool f])) 193 301 true).run Tryz.prog W = .ok (.tuple #[.agg #[.int .i64 0],.bool false]) W:=fun W=>by kernel_rfl
 have t2:∀ W,(Instr.typeAssert (.iface 306 (.agg #[.int .i64 n,.bool f])) 193 306 true).run Tryz.prog W = .ok (.tuple #[.agg #[.int .i64 n,.bool f],.bool true]) W:=fun W=>by kernel_rfl
 have hr1:=hr.code
 have hr2:=hr.calls
 have hb:∀ o,Below u.heap.size u (u.alloc o):=fun o=>(Below.refl _ _).alloc (Nat.le_refl _) _
 have H:=Hid.mk h
 clear h
 go_enter Tryz.func96,Tryz.ntmps96
 go_wp2_with fail
 refine (Q1z (x:=.text n f) (H.out.below (hb _)) rfl (by omega)).mono ?_
 rintro e w3 ⟨rfl,sl3,M3⟩
 go_wp2
 go_end0
 exact ⟨rfl,M3.gives⟩
theorem Qiy {w u:World} {a:CAd} {Fr bs:List (Nat×Obj)} {s:CSt} {sl ks:Value} {cv:List (Qk×Value)} {et:List (List UInt8×NumL×Value)} (n:Int) (f:Bool) (h:Cp w a Fr bs s sl ks cv et u) (hr:Room s 1) :
  Calls Tryz.prog 96 #[.pointer (some ⟨a.C,0,none⟩),.iface 309 (.agg #[.int .i64 n,.bool f])] u fun e u'=>e = .returned (.tuple #[])∧QE w a Fr bs (putM (.text n f) s) u':=by
 have t0:∀ W,(Instr.typeAssert (.iface 309 (.agg #[.int .i64 n,.bool f])) 193 213 true).run Tryz.prog W = .ok (.tuple #[.agg #[.string ⟨#[]⟩,.int .i64 0],.bool false]) W:=fun W=>by kernel_rfl
 have t1:∀ W,(Instr.typeAssert (.iface 309 (.agg #[.int .i64 n,.bool f])) 193 301 true).run Tryz.prog W = .ok (.tuple #[.agg #[.int .i64 0],.bool false]) W:=fun W=>by kernel_rfl
 have t2:∀ W,(Instr.typeAssert (.iface 309 (.agg #[.int .i64 n,.bool f])) 193 306 true).run Tryz.prog W = .ok (.tuple #[.agg #[.int .i64 0,.bool false],.bool false]) W:=fun W=>by kernel_rfl
 have t3:∀ W,(Instr.typeAssert (.iface 309 (.agg #[.int .i64 n,.bool f])) 193 309 true).run Tryz.prog W = .ok (.tuple #[.agg #[.int .i64 n,.bool f],.bool true]) W:=fun W=>by kernel_rfl
 have hr1:=hr.code
 have hr2:=hr.calls
 have hb:∀ o,Below u.heap.size u (u.alloc o):=fun o=>(Below.refl _ _).alloc (Nat.le_refl _) _
 have H:=Hid.mk h
 clear h
 go_enter Tryz.func96,Tryz.ntmps96
 go_wp2_with fail
 refine (Q1z (x:=.text n f) (H.out.below (hb _)) rfl (by omega)).mono ?_
 rintro e w3 ⟨rfl,sl3,M3⟩
 go_wp2
 go_end0
 exact ⟨rfl,M3.gives⟩
theorem QgS {w u:World} {a:CAd} {Fr bs:List (Nat×Obj)} {s:CSt} {sl ks:Value} {cv:List (Qk×Value)} {et:List (List UInt8×NumL×Value)}  (h:Cp w a Fr bs s sl ks cv et u) (hr:Room s 1) :
  Calls Tryz.prog 96 #[.pointer (some ⟨a.C,0,none⟩),.iface 340 (.agg #[])] u fun e u'=>e = .returned (.tuple #[])∧QE w a Fr bs (s) u':=by
 have t0:∀ W,(Instr.typeAssert (.iface 340 (.agg #[])) 193 213 true).run Tryz.prog W = .ok (.tuple #[.agg #[.string ⟨#[]⟩,.int .i64 0],.bool false]) W:=fun W=>by kernel_rfl
 have t1:∀ W,(Instr.typeAssert (.iface 340 (.agg #[])) 193 301 true).run Tryz.prog W = .ok (.tuple #[.agg #[.int .i64 0],.bool false]) W:=fun W=>by kernel_rfl
 have t2:∀ W,(Instr.typeAssert (.iface 340 (.agg #[])) 193 306 true).run Tryz.prog W = .ok (.tuple #[.agg #[.int .i64 0,.bool false],.bool false]) W:=fun W=>by kernel_rfl
 have t3:∀ W,(Instr.typeAssert (.iface 340 (.agg #[])) 193 309 true).run Tryz.prog W = .ok (.tuple #[.agg #[.int .i64 0,.bool false],.bool false]) W:=fun W=>by kernel_rfl
 have t4:∀ W,(Instr.typeAssert (.iface 340 (.agg #[])) 193 311 true).run Tryz.prog W = .ok (.tuple #[.agg #[.nilIface,.int .i64 0,.bool false],.bool false]) W:=fun W=>by kernel_rfl
 have t5:∀ W,(Instr.typeAssert (.iface 340 (.agg #[])) 193 314 true).run Tryz.prog W = .ok (.tuple #[.agg #[.nilIface],.bool false]) W:=fun W=>by kernel_rfl
 have hr1:=hr.code
 have hr2:=hr.calls
 have H:=Hid.mk h
 clear h
 go_enter Tryz.func96,Tryz.ntmps96
 go_wp2
 go_end0
 exact ⟨rfl,H.out.gives⟩
theorem Q3C {w u:World} {a:CAd} {Fr bs:List (Nat×Obj)} {s:CSt} {sl ks:Value} {cv:List (Qk×Value)} {et:List (List UInt8×NumL×Value)} {t:Ty} (hf:Flat t) (h:Cp w a Fr bs s sl ks cv et u) (hr:Room s 1) :
  Calls Tryz.prog 96 #[.pointer (some ⟨a.C,0,none⟩),tyV t] u fun e u'=>e = .returned (.tuple #[])∧QE w a Fr bs (QT t s) u':=by
 cases t with
 | named t p=>exact Qf0 t p h hr
 | plain k=>exact Qf1 k h hr
 | opaq n f=>exact QgR n f h hr
 | str n f=>exact Qiy n f h hr
 | void=>exact QgS h hr
 | arr o n f=>exact absurd hf (by simp [Flat])
 | opt o=>exact absurd hf (by simp [Flat])
theorem Q6D (x:Qk) (s:CSt):(putM x s).code.length=s.code.length + 1:=by simp [putM]
theorem QE.more {w u:World} {a:CAd} {Fr bs bs':List (Nat×Obj)} {s:CSt} (hb:∀ p∈bs,p∈bs') (h:QE w a Fr bs' s u):QE w a Fr bs s u:=by
 obtain ⟨b,sl,ks,cv,et,h1,h2⟩:=h
 exact ⟨b,sl,ks,cv,et,fun p hp=>h1 p (hb p hp),h2⟩
theorem QE.tail {w u:World} {a:CAd} {p:Nat×Obj} {Fr bs:List (Nat×Obj)} {s:CSt} (h:QE w a (p :: Fr) bs s u):QE w a Fr bs s u:=by
 obtain ⟨b,sl,ks,cv,et,h1,h2⟩:=h
 exact ⟨b,sl,ks,cv,et,h1,h2.tail⟩
theorem Qiz {w u:World} {a:CAd} {Fr bs:List (Nat×Obj)} {s:CSt} {sl ks:Value} {cv:List (Qk×Value)} {et:List (List UInt8×NumL×Value)} {o:Ty} (n:Int) (f:Bool) (hf:Flat o) (h:Cp w a Fr bs s sl ks cv et u) (hr:Room s 3) :
  Calls Tryz.prog 142 #[.pointer (some ⟨a.C,0,none⟩),.agg #[tyV o,.int .i64 n,.bool f]] u fun e u'=>e = .returned (.tuple #[])∧QE w a Fr bs (QT (.arr o n f) s) u':=by
 have M0:=h.alloc (.cells #[tyV o,.int .i64 n,.bool f] 311)
 have hr0:=hr.code
 have hr1:Room (putM .hole s) 2:=hr.put _
 have hc:QU o≤1:=by cases o<;>simp [Flat,QU] at *
 have hvl:=Q1X o (putM .hole s)
 have hpl:(putM .hole s).code.length=s.code.length + 1:=by simp [putM]
 obtain ⟨T,x,hT⟩:=Q0b o
 have HT:=Hid.mk hT
 rw [hT] at M0 ⊢
 clear h
 go_enter Tryz.func142,Tryz.ntmps142
 go_wp2_with fail
 refine (Q1z (v:=.iface 345 (.agg #[.int .i64 0,.bool false,.int .i64 0])) (x:=.hole) M0 ⟨_,_,rfl⟩ (by omega)).mono ?_
 rintro e w1 ⟨rfl,sl1,M1⟩
 obtain ⟨b0,b1,b2,bf⟩:=Q0p (M1.own.hf _ List.mem_cons_self).1
 go_wp2_with fail
 have V:=Q3C hf M1 (hr1.less (by omega))
 rw [HT.out] at V
 refine V.mono ?_
 rintro e w2 ⟨rfl,bs2,sl2,ks2,cv2,et2,hb2,M2⟩
 clear V M1 b0 b1 b2 bf
 go_wp2_with fail
 refine (Q1z (v:=.iface 346 (.agg #[])) (x:=.again) M2 rfl (by rw [hvl,hpl];omega)).mono ?_
 rintro e w3 ⟨rfl,sl3,M3⟩
 clear M2
 obtain ⟨b0,b1,b2,bf⟩:=Q0p (M3.own.hf _ List.mem_cons_self).1
 have hlen:(putM .again (QT o (putM .hole s))).code.length=s.code.length + QU o + 2:=by rw [Q6D,hvl,hpl];omega
 obtain ⟨c0,c1,c2,c3,hfz,hlt⟩:=M3.cells
 obtain ⟨g,cap,rfl,hcap,hfr,⟨y,hy⟩,hg,M4⟩:=Cp.setCode (i:=s.code.length) (x:=.array n f ((QT o (putM .hole s)).code.length + 1)) (v:=.iface 345 (.agg #[.int .i64 n,.bool f,.int .i64 ((putM .again (QT o (putM .hole s))).code.length:Int)])) (M3.below (Below.refl _ _).drew) (by simp [Q2i,putM]) (by rw [hlen];omega)
 have M4:=Hid.mk M4
 have HH:=Hid.mk (Q2B (M3.below (Below.refl _ _).drew))
 have hidx:(s.code.length:Int) < ((putM .again (QT o (putM .hole s))).code.length:Int):=by rw [hlen];omega
 have HB2:=Hid.mk hb2
 clear M3 hb2 hlen hvl hpl
 generalize hL:(putM .again (QT o (putM .hole s))).code.length=L at *
 clear hL
 go_wp2_with fail
 refine QD (fun w'=>w'.cell? ⟨a.C,0,none⟩=some (.slice (some ⟨g,0,none⟩) L cap)∧w'.cell? ⟨u.heap.size,1,none⟩=some (.int .i64 n)∧w'.cell? ⟨u.heap.size,2,none⟩=some (.bool f)) (L:=12) (by kernel_rfl) rfl (by kernel_rfl) (by kernel_rfl) ?_ (fun hHeld=>?_)
 ·go_keep
 refine tk (i:=0) (v:=?_) rfl (by kernel_rfl) (fun _ _ _ h=>h) (by rfl) (by assumption) ?_ ?_
 rotate_left
 ·intro w hSw;(try dsimp only at hSw);go_simp;(try with_reducible rfl)
 (try simp only [Qd,Qe,List.set])
 refine tk (i:=1) (v:=?_) rfl (by kernel_rfl) (fun _ _ _ h=>h) (by rfl) (by assumption) ?_ ?_
 rotate_left
 ·intro w hSw;(try dsimp only at hSw);go_simp;(try with_reducible rfl)
 (try simp only [Qd,Qe,List.set])
 refine tk (i:=2) (v:=?_) rfl (by kernel_rfl) (fun _ _ _ h=>h) (by rfl) (by assumption) ?_ ?_
 rotate_left
 ·intro w hSw;(try dsimp only at hSw);go_simp;(try with_reducible rfl)
 (try simp only [Qd,Qe,List.set])
 refine tk (i:=3) (v:=?_) rfl (by kernel_rfl) (fun _ _ _ h=>h) (by rfl) (by assumption) ?_ ?_
 rotate_left
 ·intro w hSw;(try dsimp only at hSw);go_simp;(try with_reducible rfl)
 (try simp only [Qd,Qe,List.set])
 refine tk (i:=4) (v:=?_) rfl (by kernel_rfl) (fun _ _ _ h=>h) (by rfl) (by assumption) ?_ ?_
 rotate_left
 ·intro w hSw;(try dsimp only at hSw);go_simp;(try with_reducible rfl)
 (try simp only [Qd,Qe,List.set])
 refine tk (i:=5) (v:=?_) rfl (by kernel_rfl) (fun _ _ _ h=>h) (by rfl) (by assumption) ?_ ?_
 rotate_left
 ·intro w hSw;(try dsimp only at hSw);go_simp;(try with_reducible rfl)
 (try simp only [Qd,Qe,List.set])
 refine tk (i:=6) (v:=?_) rfl (by kernel_rfl) (fun _ _ _ h=>h) (by rfl) (by assumption) ?_ ?_
 rotate_left
 ·intro w hSw;(try dsimp only at hSw);go_simp;(try with_reducible rfl)
 (try simp only [Qd,Qe,List.set])
 refine tk (i:=7) (v:=?_) rfl (by kernel_rfl) (fun _ _ _ h=>h) (by rfl) (by assumption) ?_ ?_
 rotate_left
 ·intro w hSw;(try dsimp only at hSw);go_simp;(try with_reducible rfl)
 (try simp only [Qd,Qe,List.set])
 refine wpAnyH_ready (rs:=[8]) (by kernel_rfl) (by simp) ?_
 refine AllReadyH.cons rfl (fun K hK=>?_) AllReadyH.nil
 (go_simp;go_at_call 95;refine HH.out.mono ?_;rintro e w5 ⟨rfl,rfl⟩)
 refine hK.out _ _ ?_ (fun hHeld=>?_)
 ·go_keep
 clear hK K
 (try simp only [Qd,Qe,List.set])
 refine tk (i:=9) (v:=?_) rfl (by kernel_rfl) (fun _ _ _ h=>h) (by rfl) (by assumption) ?_ ?_
 rotate_left
 ·intro w hSw;(try dsimp only at hSw);go_simp;(try with_reducible rfl)
 (try simp only [Qd,Qe,List.set])
 refine tk (i:=10) (v:=?_) rfl (by kernel_rfl) (fun _ _ _ h=>h) (by rfl) (by assumption) ?_ ?_
 rotate_left
 ·intro w hSw;(try dsimp only at hSw);go_simp;(try with_reducible rfl)
 (try simp only [Qd,Qe,List.set])
 refine tk (i:=11) (v:=?_) rfl (by kernel_rfl) (fun _ _ _ h=>h) (by rfl) (by assumption) ?_ ?_
 rotate_left
 ·intro w hSw;(try dsimp only at hSw);go_simp;(try with_reducible rfl)
 (try simp only [Qd,Qe,List.set])
 refine wpAnyH_done (by kernel_rfl) ?_ _
 refine QL rfl (fun K hK=>?_)
 go_simp
 refine hK.out _ _ ?_
 clear hK K
 (try simp only [Qd,Qe,List.set])
 go_wp2
 go_end0
 exact ⟨rfl,(QE.more HB2.out M4.out.gives).tail⟩
theorem Q9Y {W:World} {m:Nat} {l:List (Int×Nat×Nat)} (hb:W.heap[m]? = some (Q0Y l)) (nd:(l.map (·.1)).Nodup) (k:Int) (p q:Nat) :
  (Instr.mapUpdate 318 (.map (some m)) (.int .i64 k) (.agg #[.int .i64 p,.int .i64 q])).run Tryz.prog W = .ok () (Q0c W m (Q0Y (mput l k (p,q)))):=
 Q3u (P:=Tryz.prog) (T:=318) (kt:=2) (et:=323) (d:=.int .i64) (by kernel_rfl) (by kernel_rfl) (fun k:Int=>.int .i64 k) (fun q:Nat×Nat=>.agg #[.int .i64 q.1,.int .i64 q.2]) (fun _=>rfl) (fun _=>Qic _) QfG hb nd k (p,q)
theorem QdN (w:World):Calls Tryz.prog 141 #[.int .i64 4] w fun e w'=>e = .returned (.agg #[.int .i64 0,.int .i64 1,.slice none 0 0,.bool false])∧Below w.heap.size w w':=Q7e 4 w
theorem Qk7 (w:World) (o:Obj):w.heap.size < (w.alloc o).heap.size:=by simp
theorem QdO {w u:World} {a:CAd} {Fr bs:List (Nat×Obj)} {s:CSt} {sl ks:Value} {cv:List (Qk×Value)} {et:List (List UInt8×NumL×Value)} {o:Ty} (hf:Flat o) (h:Cp w a Fr bs s sl ks cv et u) (hr:Room s 2) :
  Calls Tryz.prog 143 #[.pointer (some ⟨a.C,0,none⟩),.agg #[tyV o]] u fun e u'=>e = .returned (.tuple #[])∧QE w a Fr bs (QT (.opt o) s) u':=by
 have hmm:∀ (t:TypeId) (w:World),(Instr.makeMap t none).run Tryz.prog w = .ok (.map (some w.heap.size)) (w.alloc (.map #[] 0)):=fun _ _=>rfl
 have M0:=h.alloc (.cells #[tyV o] 314)
 have hr0:=hr.code
 have hr1:Room (putM .hole s) 1:=hr.put _
 have hc:QU o≤1:=by cases o<;>simp [Flat,QU] at *
 have hvl:=Q1X o (putM .hole s)
 have hpl:(putM .hole s).code.length=s.code.length + 1:=by simp [putM]
 obtain ⟨T,x,hT⟩:=Q0b o
 have HT:=Hid.mk hT
 rw [hT] at M0 ⊢
 clear h
 go_enter Tryz.func143,Tryz.ntmps143
 go_wp2_with fail
 refine (Q1z (v:=.iface 321 (.agg #[.int .i64 0,.int .i64 0,.slice none 0 0,.bool false,.map none,.pointer none])) (x:=.hole) M0 ⟨_,_,rfl⟩ (by omega)).mono ?_
 rintro e w1 ⟨rfl,sl1,M1⟩
 have b0:=Qq (M1.own.hf _ List.mem_cons_self).1
 go_wp2_with fail
 have V:=Q3C hf M1 (hr1.less (by omega))
 rw [HT.out] at V
 refine V.mono ?_
 rintro e w2 ⟨rfl,bs2,sl2,ks2,cv2,et2,hb2,M2⟩
 clear V M1 b0
 have hlen:(QT o (putM .hole s)).code.length=s.code.length + 1 + QU o:=by rw [hvl,hpl]
 have N0:=M2.alloc (.map #[] 0)
 have p1:=Q9Y (W:=w2.alloc (.map #[] 0)) (m:=w2.heap.size) (l:=[]) (Qg rfl) (by simp) 0 (QT o (putM .hole s)).code.length 0
 obtain ⟨W1,hW1⟩:∃ W1,W1=Q0c (w2.alloc (.map #[] 0)) w2.heap.size (Q0Y (mput [] 0 ((QT o (putM .hole s)).code.length,0))):=⟨_,rfl⟩
 have k1:Qb [w2.heap.size] (w2.alloc (.map #[] 0)) W1:=by rw [hW1];exact Q0d _ _ _
 have q1:W1.heap[w2.heap.size]? = some (Q0Y [(0,(QT o (putM .hole s)).code.length,0)]):=by rw [hW1];exact Q1w (Qk7 _ _) _
 have N1:=N0.setFr k1 q1
 rw [← hW1,show (((0:Nat)):Int)=0 from rfl] at p1
 have p2:=Q9Y (W:=W1) (m:=w2.heap.size) q1 (by simp) 1 (s.code.length + 1) 1
 obtain ⟨W2,hW2⟩:∃ W2,W2=Q0c W1 w2.heap.size (Q0Y (mput [(0,(QT o (putM .hole s)).code.length,0)] 1 (s.code.length + 1,1))):=⟨_,rfl⟩
 have k2:Qb [w2.heap.size] W1 W2:=by rw [hW2];exact Q0d _ _ _
 have q2:W2.heap[w2.heap.size]? = some (Q0Y [(0,(QT o (putM .hole s)).code.length,0),(1,s.code.length + 1,1)]):=by rw [hW2];exact Q1w (Qc q1) _
 have N2:=(N1.setFr k2 q2).give
 rw [← hW2,show (((1:Nat)):Int)=1 from rfl] at p2
 rw [show (((s.code.length + 1:Nat)):Int)=(s.code.length:Int) + 1 by omega] at p2
 have HH:=Hid.mk (Q2B N0)
 obtain ⟨c0,c1,c2,c3,hfz,hlt⟩:=N2.cells
 obtain ⟨ad,cap,rfl⟩:=N2.slice
 have hidx:(s.code.length:Int) < ((QT o (putM .hole s)).code.length:Int):=by rw [hlen];omega
 have hidn:s.code.length < (QT o (putM .hole s)).code.length:=by omega
 have N2:=Hid.mk N2
 have HB2:=Hid.mk hb2
 have hs63:s.code.length < 1000000:=by omega
 clear N0 N1 M2 hb2 q1 q2 k1 k2 hW1 hW2 hlen hvl hpl
 generalize hL:(QT o (putM .hole s)).code.length=L at *
 go_wp2_with fail
 refine HH.out.mono ?_
 rintro e w5 ⟨rfl,rfl⟩
 go_wp2_with fail
 refine QD (fun w'=>w'.cell? ⟨a.C,0,none⟩=some (.slice ad L cap)) (L:=10) (by kernel_rfl) rfl (by kernel_rfl) (by kernel_rfl) ?_ (fun hHeld=>?_)
 ·go_keep
 refine tk (i:=0) (v:=?_) rfl (by kernel_rfl) (fun _ _ _ h=>h) (by rfl) (by assumption) ?_ ?_
 rotate_left
 ·intro w hSw;(try dsimp only at hSw);go_simp;(try with_reducible rfl)
 (try simp only [Qd,Qe,List.set])
 refine tk (i:=1) (v:=?_) rfl (by kernel_rfl) (fun _ _ _ h=>h) (by rfl) (by assumption) ?_ ?_
 rotate_left
 ·intro w hSw;(try dsimp only at hSw);go_simp;(try with_reducible rfl)
 (try simp only [Qd,Qe,List.set])
 refine tk (i:=2) (v:=?_) rfl (by kernel_rfl) (fun _ _ _ h=>h) (by rfl) (by assumption) ?_ ?_
 rotate_left
 ·intro w hSw;(try dsimp only at hSw);go_simp;(try with_reducible rfl)
 (try simp only [Qd,Qe,List.set])
 refine tk (i:=3) (v:=?_) rfl (by kernel_rfl) (fun _ _ _ h=>h) (by rfl) (by assumption) ?_ ?_
 rotate_left
 ·intro w hSw;(try dsimp only at hSw);go_simp;(try with_reducible rfl)
 (try simp only [Qd,Qe,List.set])
 refine tk (i:=4) (v:=?_) rfl (by kernel_rfl) (fun _ _ _ h=>h) (by rfl) (by assumption) ?_ ?_
 rotate_left
 ·intro w hSw;(try dsimp only at hSw);go_simp;(try with_reducible rfl)
 (try simp only [Qd,Qe,List.set])
 refine tk (i:=6) (v:=?_) rfl (by kernel_rfl) (fun _ _ _ h=>h) (by rfl) (by assumption) ?_ ?_
 rotate_left
 ·intro w hSw;(try dsimp only at hSw);go_simp;(try with_reducible rfl)
 (try simp only [Qd,Qe,List.set])
 refine wpAnyH_ready (rs:=[5]) (by kernel_rfl) (by simp) ?_
 refine AllReadyH.cons rfl (fun K hK=>?_) AllReadyH.nil
 (go_simp;go_at_call 141;refine (QdN _).mono ?_;rintro e w6 ⟨rfl,hb6⟩;have N3:=(N2.out.below (Below.refl _ _).drew).below hb6;have hc6:=N3.cells.1;obtain ⟨g,cap',hsl,hcap,hfr,⟨y,hy⟩,hg,N4⟩:=Cp.setCode (i:=s.code.length) (x:=.choice (QI 4) [(0,L,0),(1,s.code.length + 1,1)] none) (v:=.iface 321 (.agg #[.int .i64 0,.int .i64 1,.slice none 0 0,.bool false,.map (some w2.heap.size),.pointer none])) N3 ⟨[.int .i64 0,.int .i64 1,.slice none 0 0,.bool false],w2.heap.size,.pointer none,rfl,Q7f (n:=QI 4) _ (Q7d 4),by simp,rfl⟩ (by rw [hL];exact hidn);have N4:=Hid.mk N4;clear N3;cases hsl)
 refine hK.out _ _ ?_ (fun hHeld=>?_)
 ·go_keep
 clear hK K
 (try simp only [Qd,Qe,List.set])
 refine tk (i:=7) (v:=?_) rfl (by kernel_rfl) (fun _ _ _ h=>h) (by rfl) (by assumption) ?_ ?_
 rotate_left
 ·intro w hSw;(try dsimp only at hSw);go_simp;(try with_reducible rfl)
 (try simp only [Qd,Qe,List.set])
 refine tk (i:=8) (v:=?_) rfl (by kernel_rfl) (fun _ _ _ h=>h) (by rfl) (by assumption) ?_ ?_
 rotate_left
 ·intro w hSw;(try dsimp only at hSw);go_simp;(try with_reducible rfl)
 (try simp only [Qd,Qe,List.set])
 refine tk (i:=9) (v:=?_) rfl (by kernel_rfl) (fun _ _ _ h=>h) (by rfl) (by assumption) ?_ ?_
 rotate_left
 ·intro w hSw;(try dsimp only at hSw);go_simp;(try with_reducible rfl)
 (try simp only [Qd,Qe,List.set])
 refine wpAnyH_done (by kernel_rfl) ?_ _
 refine QL rfl (fun K hK=>?_)
 go_simp
 refine hK.out _ _ ?_
 clear hK K
 (try simp only [Qd,Qe,List.set])
 go_wp2
 go_end0
 exact ⟨rfl,(QE.more (fun p hp=>List.mem_cons_of_mem _ (HB2.out p hp)) N4.out.gives).tail⟩
theorem QiA {w u:World} {a:CAd} {Fr bs:List (Nat×Obj)} {s:CSt} {sl ks:Value} {cv:List (Qk×Value)} {et:List (List UInt8×NumL×Value)} {o:Ty} (n:Int) (f:Bool) (hf:Flat o) (h:Cp w a Fr bs s sl ks cv et u) (hr:Room s 3) :
  Calls Tryz.prog 96 #[.pointer (some ⟨a.C,0,none⟩),.iface 311 (.agg #[tyV o,.int .i64 n,.bool f])] u fun e u'=>e = .returned (.tuple #[])∧QE w a Fr bs (QT (.arr o n f) s) u':=by
 obtain ⟨T,x,hT⟩:=Q0b o
 have HT:=Hid.mk hT
 rw [hT]
 have t0:∀ W,(Instr.typeAssert (.iface 311 (.agg #[.iface T x,.int .i64 n,.bool f])) 193 213 true).run Tryz.prog W = .ok (.tuple #[.agg #[.string ⟨#[]⟩,.int .i64 0],.bool false]) W:=fun W=>by kernel_rfl
 have t1:∀ W,(Instr.typeAssert (.iface 311 (.agg #[.iface T x,.int .i64 n,.bool f])) 193 301 true).run Tryz.prog W = .ok (.tuple #[.agg #[.int .i64 0],.bool false]) W:=fun W=>by kernel_rfl
 have t2:∀ W,(Instr.typeAssert (.iface 311 (.agg #[.iface T x,.int .i64 n,.bool f])) 193 306 true).run Tryz.prog W = .ok (.tuple #[.agg #[.int .i64 0,.bool false],.bool false]) W:=fun W=>by kernel_rfl
 have t3:∀ W,(Instr.typeAssert (.iface 311 (.agg #[.iface T x,.int .i64 n,.bool f])) 193 309 true).run Tryz.prog W = .ok (.tuple #[.agg #[.int .i64 0,.bool false],.bool false]) W:=fun W=>by kernel_rfl
 have t4:∀ W,(Instr.typeAssert (.iface 311 (.agg #[.iface T x,.int .i64 n,.bool f])) 193 311 true).run Tryz.prog W = .ok (.tuple #[.agg #[.iface T x,.int .i64 n,.bool f],.bool true]) W:=fun W=>by kernel_rfl
 have hb:∀ o,Below u.heap.size u (u.alloc o):=fun o=>(Below.refl _ _).alloc (Nat.le_refl _) _
 have V:=fun ob=>Qiz n f hf (h.below (hb ob)) hr
 rw [HT.out] at V
 have V:=Hid.mk V
 clear h hT
 go_enter Tryz.func96,Tryz.ntmps96
 go_wp2_with fail
 refine (V.out _).mono ?_
 rintro e w2 ⟨rfl,M2⟩
 go_wp2
 go_end0
 exact ⟨rfl,M2⟩
theorem QiB {w u:World} {a:CAd} {Fr bs:List (Nat×Obj)} {s:CSt} {sl ks:Value} {cv:List (Qk×Value)} {et:List (List UInt8×NumL×Value)} {o:Ty} (hf:Flat o) (h:Cp w a Fr bs s sl ks cv et u) (hr:Room s 2) :
  Calls Tryz.prog 96 #[.pointer (some ⟨a.C,0,none⟩),.iface 314 (.agg #[tyV o])] u fun e u'=>e = .returned (.tuple #[])∧QE w a Fr bs (QT (.opt o) s) u':=by
 obtain ⟨T,x,hT⟩:=Q0b o
 have HT:=Hid.mk hT
 rw [hT]
 have t0:∀ W,(Instr.typeAssert (.iface 314 (.agg #[.iface T x])) 193 213 true).run Tryz.prog W = .ok (.tuple #[.agg #[.string ⟨#[]⟩,.int .i64 0],.bool false]) W:=fun W=>by kernel_rfl
 have t1:∀ W,(Instr.typeAssert (.iface 314 (.agg #[.iface T x])) 193 301 true).run Tryz.prog W = .ok (.tuple #[.agg #[.int .i64 0],.bool false]) W:=fun W=>by kernel_rfl
 have t2:∀ W,(Instr.typeAssert (.iface 314 (.agg #[.iface T x])) 193 306 true).run Tryz.prog W = .ok (.tuple #[.agg #[.int .i64 0,.bool false],.bool false]) W:=fun W=>by kernel_rfl
 have t3:∀ W,(Instr.typeAssert (.iface 314 (.agg #[.iface T x])) 193 309 true).run Tryz.prog W = .ok (.tuple #[.agg #[.int .i64 0,.bool false],.bool false]) W:=fun W=>by kernel_rfl
 have t4:∀ W,(Instr.typeAssert (.iface 314 (.agg #[.iface T x])) 193 311 true).run Tryz.prog W = .ok (.tuple #[.agg #[.nilIface,.int .i64 0,.bool false],.bool false]) W:=fun W=>by kernel_rfl
 have t5:∀ W,(Instr.typeAssert (.iface 314 (.agg #[.iface T x])) 193 314 true).run Tryz.prog W = .ok (.tuple #[.agg #[.iface T x],.bool true]) W:=fun W=>by kernel_rfl
 have hb:∀ o,Below u.heap.size u (u.alloc o):=fun o=>(Below.refl _ _).alloc (Nat.le_refl _) _
 have V:=fun ob=>QdO hf (h.below (hb ob)) hr
 rw [HT.out] at V
 have V:=Hid.mk V
 clear h hT
 go_enter Tryz.func96,Tryz.ntmps96
 go_wp2_with fail
 refine (V.out _).mono ?_
 rintro e w2 ⟨rfl,M2⟩
 go_wp2
 go_end0
 exact ⟨rfl,M2⟩
theorem Q60 {w u:World} {a:CAd} {Fr bs:List (Nat×Obj)} {s:CSt} {sl ks:Value} {cv:List (Qk×Value)} {et:List (List UInt8×NumL×Value)} {t:Ty} (hf:Q0T t) (h:Cp w a Fr bs s sl ks cv et u) (hr:Room s 3) :
  Calls Tryz.prog 96 #[.pointer (some ⟨a.C,0,none⟩),tyV t] u fun e u'=>e = .returned (.tuple #[])∧QE w a Fr bs (QT t s) u':=by
 cases t with
 | arr o n f=>exact QiA n f hf h hr
 | opt o=>exact QiB hf h (hr.less (by omega))
 | named t p=>exact Q3C (t:=.named t p) trivial h (hr.less (by omega))
 | plain k=>exact Q3C (t:=.plain k) trivial h (hr.less (by omega))
 | opaq n f=>exact Q3C (t:=.opaq n f) trivial h (hr.less (by omega))
 | str n f=>exact Q3C (t:=.str n f) trivial h (hr.less (by omega))
 | void=>exact Q3C (t:=.void) trivial h (hr.less (by omega))
theorem Q7U {w u:World} {a:CAd} {Fr bs:List (Nat×Obj)} {s:CSt} {sl ks:Value} {cv:List (Qk×Value)} {et:List (List UInt8×NumL×Value)} {t:Ty} (hf:Q0T t) (h:Cp w a Fr bs s sl ks cv et u) (hr:Room s 4) :
  Calls Tryz.prog 101 #[.pointer (some ⟨a.C,0,none⟩),tyV t] u fun e u'=>e = .returned (.int .i64 s.code.length)∧QE w a Fr bs (startT t s) u':=by
 have hl:(QT t s).code.length < 1000000:=by
  have h1:=Q1X t s
  have h2:=Q5m hf
  have h3:=hr.code
  omega
 have V:=Hid.mk (Q60 hf h (hr.less (by omega)))
 obtain ⟨T,x,hT⟩:=Q0b t
 rw [hT] at V ⊢
 go_enter Tryz.func101,Tryz.ntmps101
 go_wp2_with fail
 refine (Q2B h).mono ?_
 rintro e w1 ⟨rfl,rfl⟩
 go_wp2_with fail
 refine V.out.mono ?_
 rintro e w2 ⟨rfl,bs2,sl2,ks2,cv2,et2,hb2,M2⟩
 go_wp2_with fail
 refine (Q1z (v:=.iface 326 (.agg #[])) (x:=.fin) M2 rfl hl).mono ?_
 rintro e w3 ⟨rfl,sl3,M3⟩
 go_wp2
 go_ret
 exact ⟨rfl,bs2,_,_,_,_,hb2,M3⟩
end Go.Proofs.YtmbcibgknckenaaGreatDoor
