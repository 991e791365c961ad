import Derived.Test.YtmbcibgknckenaaGreatDoorT13
import Derived.Deep.Slices
set_option linter.all false
set_option maxRecDepth 100000
set_option maxHeartbeats 4000000
namespace Go.Proofs.YtmbcibgknckenaaGreatDoor
def Q3A (x:QB):Int×Int×List UInt8×Int:=
 if x.kind=1 then (1,x.n,[],0) else if x.kind=2 then (2,0,x.s,0) else if x.kind=3 then (3,0,[],x.len) else if x.kind=4 then (4,x.n,[],x.len) else (x.kind,0,[],0)
def keyL (x:Q0j):Int×Int×List UInt8×Int:=(x.kind,x.n,x.s,x.len)
structure Q7S (v:List QB) (e:ESt) (d:DSt):Prop where
 pos:d.pos=e.out.length
 len:d.nodes.length=e.next
 key:d.nodes.map keyL=(v.take e.next).map Q3A
section
variable (v : List QB)
def kitB:Kit ESt DSt (List UInt8) where
 D f g:=∀ e e',f e = .ok e'→e.out <+: e'.out∧∀ b d,e'.out <+: b→Q7S v e d→∃ d',g b d = .ok d'∧Q7S v e' d'
 R f g:=∀ e p,f e = .ok p→e.out <+: p.2.out∧∀ b d,p.2.out <+: b→Q7S v e d→∃ d',g b d = .ok (p.1,d')∧Q7S v p.2 d'
 stay:=by
  intro d d' h
  cases h
  exact ⟨List.prefix_refl _,fun u e _ hs=>⟨e,rfl,hs⟩⟩
 fail:=by
  intro f d d' h
  cases h
 seq:=by
  intro f g f2 g2 h1 h2 d d' h
  obtain ⟨d1,e1,e2⟩:=Qh h
  obtain ⟨hN,s1⟩:=h1 d d1 e1
  obtain ⟨hM,s2⟩:=h2 d1 d' e2
  refine ⟨hN.trans hM,fun u e hu hs=>?_⟩
  obtain ⟨x,hx,hs1⟩:=s1 u e (hM.trans hu) hs
  obtain ⟨y,hy,hs2⟩:=s2 u x hu hs1
  exact ⟨y,QO hx hy,hs2⟩
 bind:=by
  intro α f g f2 g2 h1 h2 d d' h
  obtain ⟨p,e1,e2⟩:=Qh h
  obtain ⟨hN,s1⟩:=h1 d p e1
  obtain ⟨hM,s2⟩:=h2 p.1 p.2 d' e2
  refine ⟨hN.trans hM,fun u e hu hs=>?_⟩
  obtain ⟨x,hx,hs1⟩:=s1 u e (hM.trans hu) hs
  obtain ⟨y,hy,hs2⟩:=s2 u x hu hs1
  exact ⟨y,QO hx hy,hs2⟩
end
theorem Q3B {v:List QB} {fuel:Nat} {kind:Int} {fits:QB→Bool} {e:ESt} {p:QB×ESt} (h:Q1t v fuel kind fits e = .ok p):e.next < fuel∧v[e.next]? = some p.1∧p.1.kind=kind∧fits p.1=true∧p.2 = { e with next:=e.next + 1 }:=by
 unfold Q1t at h
 split at h
 ·cases h
 ·rename_i hf
  split at h
  ·cases h
  ·rename_i x hx
   split at h
   ·rename_i hk
    cases h
    exact ⟨by omega,hx,hk.1,hk.2,rfl⟩
   ·cases h
theorem Q1T {size:Nat} {n:Int} {e e':ESt} (h:Q1k size n e = .ok e'):e' = { e with out:=e.out++Q34 n }∧e'.out.length≤size:=by
 obtain ⟨e1,h1,h2⟩:=Qh h
 unfold Q2G at h1
 split at h1
 ·cases h1
 ·cases h1
  cases h2
  refine ⟨rfl,?_⟩
  simp only [List.length_append,Q1d]
  omega
theorem Q7T {size:Nat} {s:List UInt8} {e e':ESt} (h:Q2J size s e = .ok e'):e' = { e with out:=e.out++padB s }∧e'.out.length≤size:=by
 obtain ⟨e1,h1,h2⟩:=Qh h
 unfold Q2G at h1
 split at h1
 ·cases h1
 ·cases h1
  cases h2
  have h3:(padB s).length=Q0i s.length:=by unfold padB Q0i;simp;omega
  refine ⟨rfl,?_⟩
  simp only [List.length_append,h3]
  omega
theorem QgQ {b o l:List UInt8} {d:DSt} (h:o++l <+: b) (hp:d.pos=o.length):Q27 b l.length d = .ok (l,{ d with pos:=d.pos + l.length }):=by
 obtain ⟨t,rfl⟩:=h
 unfold Q27
 rw [if_neg (by simp [hp]),hp,List.append_assoc,List.drop_left,List.take_left]
theorem Q9X {b o:List UInt8} {n:Int} {d:DSt} (h:o++Q34 n <+: b) (hp:d.pos=o.length):Q2F b d = .ok ((n % 4294967296).toNat,{ d with pos:=d.pos + 4 }):=by
 have:=QgQ h hp
 rw [Q1d] at this
 unfold Q2F
 rw [this]
 simp only [thenE]
 rw [Q7R]
theorem QeZ:∀ (k i:Nat),Q1M i (List.replicate k 0)=none:=by
 intro k
 induction k with
 | zero=>intro i;rfl
 | succ k ih=>
  intro i
  rw [List.replicate_succ]
  simp only [Q1M,if_true]
  exact ih (i + 1)
theorem Qms {b o s:List UInt8} {d:DSt} (h:o++padB s <+: b) (hp:d.pos=o.length):Q1j b s.length d = .ok (s,{ d with pos:=d.pos + (padB s).length }):=by
 have h3:(padB s).length=Q0i s.length:=by unfold padB Q0i;simp;omega
 have:=QgQ h hp
 rw [h3] at this ⊢
 unfold Q1j
 rw [this]
 simp only [thenE]
 have e1:(padB s).drop s.length=List.replicate (Q0i s.length - s.length) 0:=by unfold padB;rw [List.drop_left]
 have e2:(padB s).take s.length=s:=by unfold padB;rw [List.take_left]
 rw [e1,e2,QeZ]
theorem Q6C {fuel:Nat} {d:DSt} (h:d.nodes.length < fuel):Q0x fuel d = .ok d:=by
 unfold Q0x
 rw [if_neg (by omega)]
theorem Q7S.step {v:List QB} {e:ESt} {d:DSt} {x:QB} {y:Q0j} {out:List UInt8} {pos:Nat} (hs:Q7S v e d) (hx:v[e.next]? = some x) (hk:keyL y=Q3A x) (hp:pos=out.length):Q7S v ⟨e.next + 1,out⟩ (putD y ⟨pos,d.nodes⟩):=by
 refine ⟨hp,by simp [putD,hs.len],?_⟩
 have hlt:e.next < v.length:=by
  rcases Nat.lt_or_ge e.next v.length with h | h
  ·exact h
  ·rw [List.getElem?_eq_none h] at hx;cases hx
 simp only [putD]
 rw [List.map_append,hs.key,List.take_succ,hx]
 simp [hk]
theorem Q5a {b:List UInt8} {n:Int} {f:Bool} {k:Int} {d:DSt} {size:Nat} {e e':ESt} (hn:Q5Y n) (ha:Q0K n f k=true) (h:(if f then .ok e else Q1k size k e) = .ok e') :
  e'.next=e.next∧e.out <+: e'.out∧(e.out.length≤size→e'.out.length≤size)∧0≤k∧(e'.out <+: b→d.pos=e.out.length→Q0y b n f d = .ok (k.toNat,{ d with pos:=e'.out.length })):=by
 unfold Q0K at ha
 cases f with
 | true=>
  simp only [if_true,decide_eq_true_eq] at ha h
  cases h
  refine ⟨rfl,List.prefix_refl _,id,by rw [ha];exact hn.1,fun _ hp=>?_⟩
  unfold Q0y
  simp only [if_true]
  rw [ha,← hp]
 | false=>
  simp only [Bool.false_eq_true,if_false,Bool.and_eq_true,decide_eq_true_eq] at ha h
  obtain ⟨rfl,hl⟩:=Q1T h
  refine ⟨rfl,List.prefix_append _ _,fun _=>hl,ha.1,fun hb hp=>?_⟩
  unfold Q0y
  simp only [Bool.false_eq_true,if_false]
  have hk:=hn.2
  have ek:(k % 4294967296).toNat=k.toNat:=by omega
  rw [Q9X hb hp,ek]
  simp only [thenE]
  rw [if_pos (by omega)]
  simp [hp,Q1d]
theorem Qix {v:List QB} {dep fuel size:Nat}:KitW (kitB v) (encW v dep fuel size) (fun b=>decW b dep fuel) where
 enter k:=by
  intro d d' h
  simp only [encW] at h
  split at h
  ·cases h
  ·rename_i hk
   cases h
   exact ⟨List.prefix_refl _,fun u e _ hs=>⟨e,by simp only [decW];rw [if_neg hk],hs⟩⟩
 num n hn:=by
  intro e e' h
  obtain ⟨p,e1,h⟩:=Qh h
  obtain ⟨hf,hx,hk,hh,hp⟩:=Q3B e1
  obtain ⟨x,e0⟩:=p
  simp only at hx hk hh hp h
  subst hp
  have hr:n.low≤x.n∧x.n≤n.high:=by
   simp only [NumL.has,Bool.and_eq_true,decide_eq_true_eq] at hh
   exact hh.1
  have key:keyL ⟨1,x.n,[],0,0⟩=Q3A x:=by simp [keyL,Q3A,hk]
  unfold Q4r at hn
  obtain ⟨e2,h2,h3⟩:=Qh h
  cases hw:n.wide with
  | true=>
   simp only [hw,if_true] at h2 hn
   obtain ⟨rfl,_⟩:=Q1T h2
   obtain ⟨rfl,_⟩:=Q1T h3
   refine ⟨by simp only [List.append_assoc];exact List.prefix_append _ _,fun b d hb hs=>?_⟩
   simp only [List.append_assoc] at hb
   refine ⟨putD ⟨1,x.n,[],0,0⟩ ⟨d.pos + 8,d.nodes⟩,?_,hs.step hx key (by simp [hs.pos,Q1d])⟩
   have hnum:Q0Z b n d = .ok (x.n,⟨d.pos + 8,d.nodes⟩):=by
    unfold Q0Z
    rw [if_pos hw]
    have:=QgQ hb hs.pos
    rw [List.length_append,Q1d,Q1d] at this
    refine QO this ?_
    rw [QfJ (Q1d _),Q7R,Q7R,Qit (by omega) (by omega)]
   exact QO (Q6C (by rw [hs.len];exact hf)) (QO hnum (by simp only [hh,if_true]))
  | false=>
   simp only [hw,Bool.false_eq_true,if_false] at h2 hn
   cases h2
   obtain ⟨rfl,_⟩:=Q1T h3
   refine ⟨List.prefix_append _ _,fun b d hb hs=>?_⟩
   refine ⟨putD ⟨1,x.n,[],0,0⟩ ⟨d.pos + 4,d.nodes⟩,?_,hs.step hx key (by simp [hs.pos,Q1d])⟩
   have hnum:Q0Z b n d = .ok (x.n,⟨d.pos + 4,d.nodes⟩):=by
    unfold Q0Z
    rw [if_neg (by simp [hw])]
    refine QO (Q9X hb hs.pos) ?_
    simp only
    rw [QbF (fun hl=>⟨by have:=(hn.1 hl).1;omega,by have:=(hn.1 hl).2;omega⟩) (fun hl=>⟨by omega,by omega⟩)]
   exact QO (Q6C (by rw [hs.len];exact hf)) (QO hnum (by simp only [hh,if_true]))
 text n f hn:=by
  intro e e' h
  obtain ⟨p,e1,h⟩:=Qh h
  obtain ⟨hf,hx,hk,hh,hp⟩:=Q3B e1
  obtain ⟨x,e0⟩:=p
  simp only at hx hk hh hp h
  subst hp
  obtain ⟨e2,h2,h3⟩:=Qh h
  obtain ⟨rfl,_⟩:=Q7T h3
  obtain ⟨c1,c2,c3,c4,c5⟩:=Q5a (b:=[]) (d:=⟨0,[]⟩) hn hh h2
  refine ⟨c2.trans (List.prefix_append _ _),fun b d hb hs=>?_⟩
  obtain ⟨_,_,_,_,c6⟩:=Q5a (b:=b) (d:=d) hn hh h2
  have c7:=c6 ((List.prefix_append _ _).trans hb) hs.pos
  simp only [Int.toNat_natCast] at c7
  refine ⟨_,QO (Q6C (by rw [hs.len];exact hf)) (QO c7 (QO (Qms hb rfl) rfl)),?_⟩
  have:=hs.step (y:=⟨2,0,x.s,0,e2.out.length⟩) (out:=e2.out++padB x.s) (pos:=e2.out.length + (padB x.s).length) hx (by simp [keyL,Q3A,hk]) (by simp)
  simp only at c1
  rw [c1]
  exact this
 list n f hn:=by
  intro e p' h
  obtain ⟨p,e1,h⟩:=Qh h
  obtain ⟨hf,hx,hk,hh,hp⟩:=Q3B e1
  obtain ⟨x,e0⟩:=p
  simp only at hx hk hh hp h
  subst hp
  obtain ⟨e2,h2,h3⟩:=Qh h
  cases h3
  obtain ⟨c1,c2,c3,c4,c5⟩:=Q5a (b:=[]) (d:=⟨0,[]⟩) hn hh h2
  refine ⟨c2,fun b d hb hs=>?_⟩
  obtain ⟨_,_,_,_,c6⟩:=Q5a (b:=b) (d:=d) hn hh h2
  have c7:=c6 hb hs.pos
  refine ⟨_,QO (Q6C (by rw [hs.len];exact hf)) (QO c7 rfl),?_⟩
  have:=hs.step (y:=⟨3,0,[],x.len.toNat,0⟩) (out:=e2.out) (pos:=e2.out.length) hx (by simp only [keyL,Q3A,hk,Int.toNat_of_nonneg c4];rfl) rfl
  simp only at c1
  rw [← c1] at this
  exact this
 arm n w hn:=by
  intro e p' h
  obtain ⟨p,e1,h⟩:=Qh h
  obtain ⟨hf,hx,hk,hh,hp⟩:=Q3B e1
  obtain ⟨x,e0⟩:=p
  simp only at hx hk hh hp h
  subst hp
  obtain ⟨e2,h2,h3⟩:=Qh h
  cases h3
  obtain ⟨rfl,_⟩:=Q1T h2
  unfold Q3a at hh
  split at hh
  ·rename_i k hw
   simp only [decide_eq_true_eq] at hh
   obtain ⟨r1,r2⟩:=hn x.n (by rw [hw];rfl)
   refine ⟨List.prefix_append _ _,fun b d hb hs=>?_⟩
   have c7:=Q9X hb hs.pos
   refine ⟨_,QO (Q6C (by rw [hs.len];exact hf)) (QO c7 ?_),hs.step (y:=⟨4,x.n,[],k,0⟩) (pos:=d.pos + 4) (out:=e.out++Q34 x.n) hx (by simp only [keyL,Q3A,hk,hh];rfl) (by simp [hs.pos,Q1d])⟩
   simp only
   rw [QbF r1 r2,hw]
  ·cases hh
theorem QbG (v:List QB) (dep fuel size:Nat):WInv (encW v dep fuel size) fun e=>e.out.length≤size where
 enter k e e' he h:=by
  simp only [encW] at h
  split at h
  ·cases h
  ·cases h;exact he
 num n e e' he h:=by
  obtain ⟨p,e1,h⟩:=Qh h
  obtain ⟨e2,h2,h3⟩:=Qh h
  exact (Q1T h3).2
 text n f e e' he h:=by
  obtain ⟨p,e1,h⟩:=Qh h
  obtain ⟨e2,h2,h3⟩:=Qh h
  exact (Q7T h3).2
 list n f e p' he h:=by
  obtain ⟨p,e1,h⟩:=Qh h
  obtain ⟨_,_,_,_,hp⟩:=Q3B e1
  obtain ⟨e2,h2,h3⟩:=Qh h
  cases h3
  split at h2
  ·cases h2
   rw [hp]
   exact he
  ·exact (Q1T h2).2
 arm n w e p' he h:=by
  obtain ⟨p,e1,h⟩:=Qh h
  obtain ⟨e2,h2,h3⟩:=Qh h
  cases h3
  exact (Q1T h2).2
theorem Qco {E:Env} (hE:Qcz E) {n b:List UInt8} {v:List QB} {dep fuel size:Nat} (h:Q5r E n v dep fuel size = .ok b):∃ u,Q0z E n b dep fuel size = .ok u∧u.map keyL=v.map Q3A:=by
 obtain ⟨e,h1,h2⟩:=Qh h
 split at h2
 ·cases h2
 rename_i hl
 cases h2
 have hs:=Q7Q (QbG v dep fuel size) 64 0 n ⟨0,[]⟩ _ (Nat.zero_le _) h1
 obtain ⟨_,hx⟩:=QdD (Qix (v:=v) (dep:=dep) (fuel:=fuel) (size:=size)) hE 64 0 n _ _ h1
 obtain ⟨d,hd,h3⟩:=hx e.out ⟨0,[]⟩ (List.prefix_refl _) ⟨rfl,rfl,rfl⟩
 refine ⟨d.nodes,?_,?_⟩
 ·unfold Q0z
  rw [if_neg (by omega)]
  refine QO hd ?_
  rw [if_neg (by rw [h3.pos];omega)]
 ·rw [h3.key,List.take_of_length_le (by omega)]
end Go.Proofs.YtmbcibgknckenaaGreatDoor
namespace Go.Proofs.YtmbcibgknckenaaGreatDoor
open Go.RowKit
open Go.MapKept
def Q2b (x:QB):QB:=
 if x.kind=1 then ⟨1,x.n,[],0,0⟩ else if x.kind=2 then ⟨2,0,x.s,0,0⟩ else if x.kind=3 then ⟨3,0,[],0,x.len⟩ else if x.kind=4 then ⟨4,x.n,[],0,x.len⟩ else ⟨x.kind,0,[],0,0⟩
def Q4u (l:List QB) (k:Nat):List Value:=((l.take k).map Q2b).flatMap Q24
theorem Q8R (l:List QB) {k:Nat} (hk:k≤l.length):(Q4u l k).length=k * 5:=by
 unfold Q4u
 rw [List.length_flatMap]
 have:((l.take k).map Q2b).map (fun x=>(Q24 x).length)=List.replicate k 5:=by
  rw [List.map_map]
  have e:((fun x=>(Q24 x).length) ∘ Q2b)=fun _=>5:=by funext x;rfl
  rw [e,List.map_const',List.length_take,Nat.min_eq_left hk]
 rw [this]
 simp
theorem Qhx (l:List QB) {k:Nat} (hk:k < l.length):Q4u l (k + 1)=Q4u l k++Q24 (Q2b l[k]):=by
 unfold Q4u
 rw [List.take_succ_eq_append_getElem hk,List.map_append,List.flatMap_append]
 simp
theorem Qjk {ys:List Value} {m:Nat} (h:ys.length=(m + 1) * 5):∃ y0 y1 y2 y3 y4 zs,ys=y0 :: y1 :: y2 :: y3 :: y4 :: zs∧zs.length=m * 5:=by
 match ys,h with
 | y0 :: y1 :: y2 :: y3 :: y4 :: zs,h=>exact ⟨y0,y1,y2,y3,y4,zs,rfl,by simp at h;omega⟩
 | [],h=>simp at h
 | [_],h=>simp at h;omega
 | [_,_],h=>simp at h;omega
 | [_,_,_],h=>simp at h;omega
 | [_,_,_,_],h=>simp at h;omega
theorem Q7B {G:Nat} {xs zs:List Value} {y v:Value} {T:TypeId} {u:World} {o:Nat} (h:u.heap[G]? = some (.cells (xs++y :: zs).toArray T)) (ho:o=xs.length):(u.setCell ⟨G,o,none⟩ v).heap[G]? = some (.cells ((xs++[v])++zs).toArray T):=by
 have:=Qo (i:=o) h v
 rw [this,ho]
 simp
theorem QlA {G:Nat} {xs zs:List Value} {y0 y1 y2 y3 y4 v0 v1 v2 v3 v4:Value} {T:TypeId} {u:World} {o:Nat} (h:u.heap[G]? = some (.cells (xs++y0 :: y1 :: y2 :: y3 :: y4 :: zs).toArray T)) (ho:o=xs.length) :
  (((((u.setCell ⟨G,o,none⟩ v0).setCell ⟨G,o + 1,none⟩ v1).setCell ⟨G,o + 2,none⟩ v2).setCell ⟨G,o + 3,none⟩ v3).setCell ⟨G,o + 4,none⟩ v4).heap[G]? = some (.cells ((xs++[v0,v1,v2,v3,v4])++zs).toArray T):=by
 have h1:=Q7B (v:=v0) h ho
 have h2:=Q7B (v:=v1) (o:=o + 1) h1 (by simp [ho])
 have h3:=Q7B (v:=v2) (o:=o + 2) h2 (by simp [ho])
 have h4:=Q7B (v:=v3) (o:=o + 3) h3 (by simp [ho])
 have h5:=Q7B (v:=v4) (o:=o + 4) h4 (by simp [ho])
 rw [h5]
 simp
theorem QbU {G:Nat} {xs zs:List Value} {y0 y1 y2 y3 y4:Value} {T:TypeId} {u:World} {o:Nat} (h:u.heap[G]? = some (.cells (xs++y0 :: y1 :: y2 :: y3 :: y4 :: zs).toArray T)) (ho:o=xs.length) :
  u.cell? ⟨G,o,none⟩=some y0∧u.cell? ⟨G,o + 1,none⟩=some y1∧u.cell? ⟨G,o + 2,none⟩=some y2∧u.cell? ⟨G,o + 3,none⟩=some y3∧u.cell? ⟨G,o + 4,none⟩=some y4∧(∀ i,u.frozen? ⟨G,i,none⟩=false)∧G < u.heap.size:=by
 subst ho
 refine ⟨?_,?_,?_,?_,?_,?_,Qc h⟩<;>simp [World.cell?,World.frozen?,h]
theorem QlB {w:World} {nsl:Value} {l:List QB} (hn:Q23 w nsl l) (hl:l.length≤400) :
  Calls Tryz.prog 18 #[nsl] w fun e w'=>∃ v,e = .returned v∧Qb [] w w'∧Q5u w' v (l.map Q2b):=by
 obtain ⟨ad,cap,rfl,hvc,hcm,hnodes⟩:=hn
 obtain ⟨i0,hi0,hz0,hz1,hz2⟩:=info_parts QdW
 have HN:=Hid.mk hnodes
 clear hnodes
 go_enter Tryz.func18,Tryz.ntmps18
 go_wp2_with (at_make;go_must (refine wpList_make_full _ (by rfl) _ _ _ (by rfl) w.heap.size 48 i0 _ 5 Tryz.underlying29 hi0 hz0 hz1 .i64 .i64 l.length l.length l.length (by rfl) (by rfl) rfl rfl (by rw [hz2];omega) (by unfold maxLen;omega) (Nat.le_refl _) ?_;intro w1 hown hgrow))
 obtain ⟨cur,hcur,hsz⟩:∃ cur,w1.heap[w.heap.size]? = some (.cells cur 48)∧cur.size=l.length * 5:=by
  rcases hown.2 with ⟨h0,_⟩ | ⟨g',cap',cur,h0,_,h2,_,_,h5,_⟩
  ·cases h0
  ·cases h0
   exact ⟨cur,h2,h5⟩
 have HK0:Hid (Qb [] w w1):=Q0q hgrow
 have HC0:Hid (w1.heap[w.heap.size]? = some (.cells (Q4u l 0++cur.toList).toArray 48)):=by show _=_;rw [hcur];simp [Q4u]
 have HS0:Hid (cur.toList.length=(l.length - 0) * 5):=by show _=_;simpa using hsz
 clear hown hgrow hcur hsz
 go_loopw [4] (fun i ur=>∃ (k:Nat) (ys:List Value),i = .int .i64 k∧k≤l.length∧Hid (ur.heap[w.heap.size]? = some (.cells (Q4u l k++ys).toArray 48))∧Hid (ys.length=(l.length - k) * 5)∧Hid (Qb [] w ur)) (fun i _=>l.length - (intOf i).toNat)
 case atStart=>exact ⟨0,_,rfl,by omega,HC0,HS0,HK0⟩
 case round=>
  obtain ⟨k,ys,rfl,hk,HC,HS,HK⟩:=hrel
  clear HC0 HS0 HK0
  rcases Nat.lt_or_ge k l.length with hlt | hge
  ·obtain ⟨y0,y1,y2,y3,y4,zs,rfl,hzs⟩:=Qjk (m:=l.length - k - 1) (ys:=ys) (by rw [HS.out];congr 1;omega)
   obtain ⟨p0,p1,p2,p3,p4,pf,pl⟩:=QbU HC.out (Q8R l (by omega)).symm
   obtain ⟨g,o,rfl,hN⟩:=HN.out k l[k] (List.getElem?_eq_getElem hlt)
   have hgl:g < w.heap.size:=Q1e hN.1
   obtain ⟨n0,n1,n2,n3,n4⟩:Q9b wr g (o + k * 5) l[k]:=by
    obtain ⟨n0,n1,n2,n3,n4⟩:=hN
    have hb:∀ i,wr.cell? ⟨g,i,none⟩=w.cell? ⟨g,i,none⟩:=fun i=>World.cell?_of_block (HK.out.block g hgl (by simp))
    exact ⟨(hb _).trans n0,(hb _).trans n1,(hb _).trans n2,(hb _).trans n3,(hb _).trans n4⟩
   have hk0:(0:Int)≤(k:Int):=by omega
   have hk1:(k:Int) < (l.length:Int):=by omega
   have hgr:g < wr.heap.size:=Nat.lt_of_lt_of_le hgl HK.out.size
   have hne:g≠w.heap.size:=by omega
   have hne2:w.heap.size≠g:=by omega
   have hS:=Qhx l hlt
   have fin:∀ v0 v1 v2 v3 v4 o',Q2b l[k]=⟨v0,v1,v2,v3,v4⟩→Hid (Qb [] w ((((((wr.setCell ⟨w.heap.size,k * 5,none⟩ (.int .i64 v0)).setCell ⟨w.heap.size,k * 5 + 1,none⟩ (.int .i64 v1)).setCell ⟨w.heap.size,k * 5 + 2,none⟩ (.string ⟨v2.toArray⟩)).setCell ⟨w.heap.size,k * 5 + 3,none⟩ (.int .i64 v3)).setCell ⟨w.heap.size,k * 5 + 4,none⟩ (.int .i64 v4)).alloc o')∧((((((wr.setCell ⟨w.heap.size,k * 5,none⟩ (.int .i64 v0)).setCell ⟨w.heap.size,k * 5 + 1,none⟩ (.int .i64 v1)).setCell ⟨w.heap.size,k * 5 + 2,none⟩ (.string ⟨v2.toArray⟩)).setCell ⟨w.heap.size,k * 5 + 3,none⟩ (.int .i64 v3)).setCell ⟨w.heap.size,k * 5 + 4,none⟩ (.int .i64 v4)).alloc o').heap[w.heap.size]? = some (.cells (Q4u l (k + 1)++zs).toArray 48)):=by
    intro v0 v1 v2 v3 v4 o' hx
    refine ⟨(((((HK.out.setNew (p:=⟨w.heap.size,k * 5,none⟩) (by simp) _).setNew (p:=⟨w.heap.size,k * 5 + 1,none⟩) (by simp) _).setNew (p:=⟨w.heap.size,k * 5 + 2,none⟩) (by simp) _).setNew (p:=⟨w.heap.size,k * 5 + 3,none⟩) (by simp) _).setNew (p:=⟨w.heap.size,k * 5 + 4,none⟩) (by simp) _).alloc _,?_⟩
    rw [hS,hx]
    have:=QlA (v0:=.int .i64 v0) (v1:=.int .i64 v1) (v2:=.string ⟨v2.toArray⟩) (v3:=.int .i64 v3) (v4:=.int .i64 v4) HC.out (Q8R l (by omega)).symm
    exact (Below.heap_alloc _ _ _ (Qc this)).trans this
   have FIN:=Hid.mk fin
   have hzs':Hid (zs.length=(l.length - (k + 1)) * 5):=by show _=_;rw [hzs];congr 1
   clear hS fin hN HC HS hzs
   generalize hx:l[k]=x at n0 n1 n2 n3 n4 FIN
   clear hx
   by_cases c1:x.kind=1
   ·rw [c1] at n0
    have F:=Hid.mk (FIN.out 1 x.n [] 0 0 (.cells #[.int .i64 1,.int .i64 x.n,.string ⟨#[]⟩,.int .i64 0,.int .i64 0] 48) (by simp [Q2b,c1]))
    clear FIN c1
    go_wp2
    exact ⟨⟨k + 1,zs,by go_num,by omega,Hid.mk F.out.2,hzs',Hid.mk F.out.1⟩,by simp [intOf];omega⟩
   by_cases c2:x.kind=2
   ·rw [c2] at n0
    have F:=Hid.mk (FIN.out 2 0 x.s 0 0 (.cells #[.int .i64 2,.int .i64 0,.string ⟨x.s.toArray⟩,.int .i64 0,.int .i64 0] 48) (by simp [Q2b,c2]))
    clear FIN c2
    go_wp2
    exact ⟨⟨k + 1,zs,by go_num,by omega,Hid.mk F.out.2,hzs',Hid.mk F.out.1⟩,by simp [intOf];omega⟩
   by_cases c3:x.kind=3
   ·rw [c3] at n0
    have F:=Hid.mk (FIN.out 3 0 [] 0 x.len (.cells #[.int .i64 3,.int .i64 0,.string ⟨#[]⟩,.int .i64 0,.int .i64 x.len] 48) (by simp [Q2b,c3]))
    clear FIN c3
    go_wp2
    exact ⟨⟨k + 1,zs,by go_num,by omega,Hid.mk F.out.2,hzs',Hid.mk F.out.1⟩,by simp [intOf];omega⟩
   by_cases c4:x.kind=4
   ·rw [c4] at n0
    have F:=Hid.mk (FIN.out 4 x.n [] 0 x.len (.cells #[.int .i64 4,.int .i64 x.n,.string ⟨#[]⟩,.int .i64 0,.int .i64 x.len] 48) (by simp [Q2b,c4]))
    clear FIN c4
    go_wp2
    exact ⟨⟨k + 1,zs,by go_num,by omega,Hid.mk F.out.2,hzs',Hid.mk F.out.1⟩,by simp [intOf];omega⟩
   have b1:(x.kind == 1)=false:=by simpa using c1
   have b2:(x.kind == 2)=false:=by simpa using c2
   have b3:(x.kind == 3)=false:=by simpa using c3
   have b4:(x.kind == 4)=false:=by simpa using c4
   have F:=Hid.mk (FIN.out x.kind 0 [] 0 0 (.cells #[.int .i64 x.kind,.int .i64 0,.string ⟨#[]⟩,.int .i64 0,.int .i64 0] 48) (by simp [Q2b,c1,c2,c3,c4]))
   clear FIN c1 c2 c3 c4
   go_wp2
   exact ⟨⟨k + 1,zs,by go_num,by omega,Hid.mk F.out.2,hzs',Hid.mk F.out.1⟩,by simp [intOf];omega⟩
  ·have hkk:k=l.length:=by omega
   subst hkk
   have hge0:¬ ((l.length:Int) < (l.length:Int)):=by omega
   have R:Hid (Q5u wr (.slice (some ⟨w.heap.size,0,none⟩) l.length l.length) (l.map Q2b)):=by
    refine ⟨some ⟨w.heap.size,0,none⟩,l.length,by simp,by simp,fun k x hx=>⟨w.heap.size,rfl,?_⟩⟩
    have hc:=HC.out
    have hy:ys=[]:=List.length_eq_zero_iff.1 (by rw [HS.out];simp)
    rw [hy,List.append_nil] at hc
    have hkl:k < l.length:=by
     rcases Nat.lt_or_ge k l.length with h | h
     ·exact h
     ·rw [List.getElem?_eq_none (by simpa using h)] at hx;cases hx
    rw [List.getElem?_map,List.getElem?_eq_getElem hkl] at hx
    simp only [Option.map_some,Option.some.injEq] at hx
    subst hx
    have e:Q4u l l.length=Q4u l k++(Q24 (Q2b l[k])++((l.drop (k + 1)).map Q2b).flatMap Q24):=by
     have hd:l.take k++l[k] :: l.drop (k + 1)=l:=by rw [← List.drop_eq_getElem_cons hkl,List.take_append_drop]
     have h2:(l.map Q2b).flatMap Q24=((l.take k++l[k] :: l.drop (k + 1)).map Q2b).flatMap Q24:=by rw [hd]
     unfold Q4u
     rw [List.take_length,h2,List.map_append,List.flatMap_append,List.map_cons,List.flatMap_cons]
    rw [e] at hc
    obtain ⟨q0,q1,q2,q3,q4,_,_⟩:=QbU hc (Q8R l (Nat.le_of_lt hkl)).symm
    exact ⟨q0,q1,q2,q3,q4⟩
   clear HC HS
   go_wp2
   go_ret
   exact ⟨_,rfl,HK.out,R.out⟩
end Go.Proofs.YtmbcibgknckenaaGreatDoor
namespace Go.Proofs.YtmbcibgknckenaaGreatDoor
open Go.ChangeShapes Go.WideShapes
theorem QlE:laidOutB Tryz.prog=true:=by kernel_rfl
instance:Inhabited QB:=⟨⟨0,0,[],0,0⟩⟩
theorem Qhz {H:Type} {enc:TypeId×Value→H} {W:World} {v:Value} {d:DataW H} {p:List MemPlace}
  {base:Nat} (hval:Value.okWide Tryz.prog W .any base 29 v) (h:DataW.Trod enc Tryz.prog W 0 (fun _=>true) true 29 v d p):∃ l,Q23 W v l:=by
 obtain ⟨m,hm⟩:=h
 obtain ⟨a0,l0,c0,rfl⟩:=okWide_slice Tryz.underlying29 hval
 rw [show (Value.slice a0 l0 c0).cells.toList=[.slice a0 l0 c0] from rfl] at hm
 rcases Go.Deep.open_slice Tryz.underlying29 hm with ⟨hv,_⟩ | ⟨a,len,cap,m',n,D,Pl,hv,_,hl,hc,hmm,_,hx⟩
 ·simp only [List.cons.injEq,Value.slice.injEq,and_true] at hv
  obtain ⟨rfl,rfl,rfl⟩:=hv
  exact ⟨[],none,0,rfl,Nat.le_refl _,Nat.zero_le _,fun k x hk=>by simp at hk⟩
 ·simp only [List.cons.injEq,Value.slice.injEq,and_true] at hv
  obtain ⟨rfl,rfl,rfl⟩:=hv
  have hlm:l0≤m':=by rw [hmm];simpa using hl
  have ce:Tryz.prog.cellsOf 48=5:=by kernel_rfl
  have each:∀ i,i < l0→∃ x:QB,a.spot=none∧Q9b W a.block (a.off + i * 5) x:=by
   intro i hi
   obtain ⟨cs',h1,h2⟩:=hx i (by omega)
   rw [ce] at h1
   obtain ⟨_,hlen,hcell⟩:=World.cells?_some h1
   obtain ⟨xs,k,hk,hxy,_,hxl,hf⟩:=DataW.trod_struct Tryz.underlying48 h2
   match xs,hxl,cs',hlen with
   | [y0,y1,y2,y3,y4],_,[c0,c1,c2,c3,c4],_=>
    have g0:=hf 0 _ rfl
    have g1:=hf 1 _ rfl
    have g2:=hf 2 _ rfl
    have g3:=hf 3 _ rfl
    have g4:=hf 4 _ rfl
    obtain ⟨n0,e0,_,_⟩:=DataW.trod_int Tryz.underlying3 g0
    obtain ⟨n1,e1,_,_⟩:=DataW.trod_int Tryz.underlying2 g1
    obtain ⟨s2,e2,_,_⟩:=DataW.trod_string Tryz.underlying9 g2
    obtain ⟨n3,e3,_,_⟩:=DataW.trod_int Tryz.underlying3 g3
    obtain ⟨n4,e4,_,_⟩:=DataW.trod_int Tryz.underlying3 g4
    have k2:Tryz.prog.cellsOf 2=1:=by kernel_rfl
    have k3:Tryz.prog.cellsOf 3=1:=by kernel_rfl
    have k9:Tryz.prog.cellsOf 9=1:=by kernel_rfl
    simp [k2,k3,k9] at e0 e1 e2 e3 e4
    subst e0 e1 e2 e3 e4
    have z0:=hcell 0 (by omega)
    have z1:=hcell 1 (by omega)
    have z2:=hcell 2 (by omega)
    have z3:=hcell 3 (by omega)
    have z4:=hcell 4 (by omega)
    rw [Go.Deep.add_add] at z0 z1 z2 z3 z4
    simp only [List.getElem?_cons_zero,List.getElem?_cons_succ] at z0 z1 z2 z3 z4
    have hs:a.spot=none:=by
     obtain ⟨c,hc1,_⟩:=hx 0 (by omega)
     rw [ce] at hc1
     obtain ⟨_,hl5,hc5⟩:=World.cells?_some hc1
     have hz:=hc5 0 (by omega)
     rw [Go.Deep.add_add] at hz
     rw [List.getElem?_eq_getElem (by omega)] at hz
     exact World.cell?_spot (a:=a) (by simpa [Addr.add] using hz)
    have sp:∀ j x,W.cell? (a.add j)=some x→W.cell? ⟨a.block,a.off + j,none⟩=some x:=by
     intro j x hj
     obtain ⟨b,o,s⟩:=a
     simp only at hs
     subst hs
     unfold Addr.add at hj
     by_cases h0:j=0
     ·subst h0
      simpa using hj
     ·simpa [h0] using hj
    exact ⟨⟨n0,n1,s2.data.toList,n3,n4⟩,hs,sp _ _ z0,sp _ _ z1,sp _ _ z2,sp _ _ z3,sp _ _ z4⟩
  obtain ⟨q,hq⟩:=Go.Deep.choose_lt each
  refine ⟨(List.range l0).map q,some a,c0,by simp,by simpa using hl,hc,?_⟩
  intro k x hk
  have hkl:k < l0:=by have:=(List.getElem?_eq_some_iff.1 hk).1;simpa using this
  obtain rfl:q k=x:=by simpa [hkl] using hk
  refine ⟨a.block,a.off,?_,(hq k hkl).2⟩
  obtain ⟨b,o,sp⟩:=a
  have:=(hq k hkl).1
  simp only at this
  subst this
  rfl
end Go.Proofs.YtmbcibgknckenaaGreatDoor
namespace Go.Proofs.YtmbcibgknckenaaGreatDoor
theorem Qfo:joinedFacts Tryz.pinned.checked.prog 4 Tryz.f4 Rows.backSpec Rows.backRow=true:=by
 unfold joinedFacts
 simp only [Bool.and_eq_true]
 repeat' apply And.intro
 all_goals (as_aux_lemma=>kernel_rfl)
end Go.Proofs.YtmbcibgknckenaaGreatDoor
namespace Go.Proofs.YtmbcibgknckenaaGreatDoor
open Go.ChangeShapes Go.WideShapes Go.ChangeAt Go.RowKit
open Go.ChangeMaps (open_string shut_string)
theorem Qfp (os:Os) (started:os.Started) (H:Type) (enc:TypeId×Value→H) :
  ReturnsInHanded {} Tryz.checked os 4 .any (fun w args=>(Rows.backSpec.pre enc Tryz.prog Tryz.f4 [] false w args∧laidMetH Tryz.prog Rows.backRow.laid w)∧sizedMet enc Tryz.prog Tryz.f4 (OpenSpec.ofChange Rows.backSpec) false w args)
   (Rows.backSpec.post enc Tryz.prog Tryz.f4 false true false false):=by
 refine Q5e (C:=Tryz.checked) (X:=fun w _=>laidMetH Tryz.prog Rows.backRow.laid w) (fun _ _ _ hh h=>h.of_heap hh) Q6N started (by kernel_rfl) Tryz.func4
  (ChangeSpec.witness_shaped (enc:=enc) (C:=Tryz.checked) (os:=os) (X:=fun w _=>laidMetH Tryz.prog Rows.backRow.laid w) false (World.doorLaid Tryz.prog 88 os) #[.int .i64 0,.slice none 0 0] 8 rfl (World.shaped_of_RefB (by kernel_rfl) (by kernel_rfl)) (by kernel_rfl) (by kernel_rfl) (by kernel_rfl) (Q82 os _)) ?_
 intro W base args ds gs before hval0 hW hL hsh
 have hval:∀ (j:Nat) t v,Tryz.f4.params[j]? = some t→args[j]? = some v→Value.okWide Tryz.prog W .any base t v:=hval0
 have hW':=hW
 obtain ⟨p,q,hA0,hV,rfl,hfz,hnd⟩:=hW
 have hA:DataW.TrodAll enc Tryz.prog W 0 (fun _=>true) true Tryz.f4.params.toList args.toList ds p:=hA0
 rw [Tryz.params4] at hA hval
 obtain ⟨v0,v1,d0,d1,p0,p1,rfl,rfl,rfl,h0,h1⟩:=trodAll_two hA
 obtain ⟨rfl,rfl⟩:=trodVars_none hV
 obtain ⟨c,rfl,rfl,rfl,wc⟩:=open_int Tryz.underlying3 (hval 0 3 v0 rfl rfl) h0
 have k1:=h1
 have lt1:∀ x∈p1,x.block < W.heap.size:=by obtain ⟨m,hm⟩:=k1;exact DataW.trod_lt m _ _ _ hm
 obtain ⟨l,hl⟩:=Qhz (hval 1 29 v1 rfl rfl) h1
 have bc:=bounds_i64 wc
 clear hA0 hval0
 refine (QlD (Q5d hL hsh) c bc.1 bc.2 hl).mono fun e W' ⟨he,hk⟩=>?_
 subst he
 have bel:=Q3b hk
 exact ⟨_,rfl,_,_,_,[],_,[],hW',trodAll_mk1 (shut_bool Tryz.underlying4 _),trodAll_mk2 (shut_int Tryz.underlying3 wc) (Below.trod QlE (by kernel_rfl) (of_decide_eq_true (by kernel_rfl)) k1 bel lt1),rfl,bel.frame _,fun h=>by cases h⟩
theorem QlF:Rows.BackSaid:=
 OpenClaim.holds_of_wide 4 Tryz.f4 rfl rfl rfl rfl rfl rfl rfl ⟨rfl,rfl,rfl,rfl,rfl⟩ rfl rfl rfl rfl rfl (by kernel_rfl) Tryz.func4 Qfo
  (of_decide_eq_true (by kernel_rfl)) (by unfold Func.isWrapper;rw [if_neg (of_decide_eq_false (by kernel_rfl))];exact ⟨rfl,rfl⟩)
  (fun os started H enc _=>Qfp os started H enc)
theorem back_card:Rows.BackCardSaid:=
 Claim7.holds_tied_plain_at .later [] Rows.backCard.laidKinds true Rows.backCard.stood.harness true
  QlF (fun _ h=>by cases h) (by kernel_rfl) (fun _ h=>by cases h) back_row_tie rfl ⟨rfl,rfl⟩ (by kernel_rfl) rfl
  (fun f fn hf hfn=>by
   obtain rfl : f = 4 := Option.some.inj ((show Tryz.prog.funcNamed "marshal/marshalkeep.Back" = some 4 by kernel_rfl).symm.trans hf) |>.symm
   obtain rfl:fn=Tryz.f4:=(Option.some.inj (Tryz.func4.symm.trans hfn)).symm
   exact ⟨by kernel_rfl,fun j t ht=>by
    rw [Tryz.params4] at ht
    have hm:t∈[3,29]:=by simpa using Array.mem_of_getElem? ht
    have hall:([3,29].all fun u=>!Tryz.prog.wantsStandIn u)=true:=by kernel_rfl
    exact (show Tryz.prog.wantsStandIn t=false by simpa using List.all_eq_true.1 hall t hm)⟩)
  (by kernel_rfl)
end Go.Proofs.YtmbcibgknckenaaGreatDoor
