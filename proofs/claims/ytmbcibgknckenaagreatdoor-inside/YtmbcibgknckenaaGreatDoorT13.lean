import Derived.Test.YtmbcibgknckenaaGreatDoorT12
set_option linter.all false
set_option maxRecDepth 100000
set_option maxHeartbeats 4000000
namespace Go.Proofs.YtmbcibgknckenaaGreatDoor
def TxOk:Ty→Prop
 | .opaq n f=>f=true→1≤n
 | .str n f=>f=true→1≤n
 | .arr o _ _=>TxOk o
 | .opt o=>TxOk o
 | _=>True
def Qbd:DefL→Prop
 | .typedef t=>TxOk t.ty
 | .struct _ _ ms=>∀ m∈ms,TxOk m.ty
 | .union _ _ _ arms=>∀ a∈arms,TxOk a.2.ty
 | _=>True
def txB:Ty→Bool
 | .opaq n f=>!f || decide (1≤n)
 | .str n f=>!f || decide (1≤n)
 | .arr o _ _=>txB o
 | .opt o=>txB o
 | _=>true
def Qhb:DefL→Bool
 | .typedef t=>txB t.ty
 | .struct _ _ ms=>ms.all fun m=>txB m.ty
 | .union _ _ _ arms=>arms.all fun a=>txB a.2.ty
 | _=>true
theorem Qfz:∀ {t:Ty},txB t=true→TxOk t:=by
 intro t
 induction t with
 | opaq n f=>intro h hf;simpa [txB,hf] using h
 | str n f=>intro h hf;simpa [txB,hf] using h
 | arr o n f ih=>intro h;exact ih h
 | opt o ih=>intro h;exact ih h
 | _=>intro _;trivial
theorem Qjm {d:DefL} (h:Qhb d=true):Qbd d:=by
 cases d with
 | typedef t=>exact Qfz h
 | struct t p ms=>exact fun m hm=>Qfz (List.all_eq_true.1 h m hm)
 | union t p s arms=>exact fun a ha=>Qfz (List.all_eq_true.1 h a ha)
 | _=>trivial
theorem Qjn:Q0z.all Qhb=true:=by kernel_rfl
theorem Qku {n:List UInt8} {d:DefL} (h:Q13 Q0z n=some d):Qbd d:=Qjm (List.all_eq_true.1 Qjn _ (Qcs h))
structure Q9Q {τ:Type} (W:Wk τ) (P:τ→Prop):Prop where
 enter:∀ k d d',P d→W.enter k d = .ok d'→P d'
 num:∀ n d d',P d→W.num n d = .ok d'→P d'
 text:∀ n f d d',(f=true→1≤n)→P d→W.text n f d = .ok d'→P d'
 list:∀ n f d p,P d→W.list n f d = .ok p→P p.2
 arm:∀ n v d p,P d→W.arm n v d = .ok p→P p.2
section
variable {τ : Type} {W : Wk τ} {P : τ → Prop} {nm : List UInt8 → Den τ}
theorem Qad (h:Q9Q W P) (hn:∀ n d d',P d→nm n d = .ok d'→P d') (t:Ty):TxOk t→∀ d d',P d→tyD W nm t d = .ok d'→P d':=by
 induction t with
 | named n p=>exact fun _=>hn n
 | plain k=>exact fun _=>h.num _
 | opaq n f=>exact fun ht d d'=>h.text _ _ d d' ht
 | str n f=>exact fun ht d d'=>h.text _ _ d d' ht
 | void=>intro _ d d' hd hx;cases hx;exact hd
 | arr o n f ih=>
  intro ht d d' hd hx
  obtain ⟨p,h1,h2⟩:=Ql hx
  exact QdR (ih ht) _ _ _ (h.list _ _ _ _ hd h1) h2
 | opt o ih=>
  intro ht d d' hd hx
  obtain ⟨p,h1,h2⟩:=Ql hx
  have hp:=h.arm _ _ _ _ hd h1
  split at h2
  ·exact ih ht _ _ hp h2
  ·cases h2;exact hp
theorem Qjo (h:Q9Q W P) (hn:∀ n d d',P d→nm n d = .ok d'→P d'):∀ (ts:List Ty),(∀ t∈ts,TxOk t)→∀ d d',P d→allD W nm ts d = .ok d'→P d':=by
 intro ts
 induction ts with
 | nil=>intro _ d d' hd hx;cases hx;exact hd
 | cons t ts ih=>
  intro ht d d' hd hx
  obtain ⟨p,h1,h2⟩:=Ql hx
  exact ih (fun t h=>ht t (List.mem_cons_of_mem _ h)) _ _ (Qad h hn t (ht t (by simp)) _ _ hd h1) h2
theorem Qjp (h:Q9Q W P) {E:Env} (hn:∀ n d d',P d→nm n d = .ok d'→P d') (df:DefL) (ht:Qbd df):∀ d d',P d→defD W E nm df d = .ok d'→P d':=by
 cases df with
 | const t p v=>intro d x _ hx;cases hx
 | prog t p v n=>intro d x _ hx;cases hx
 | typedef t=>exact Qad h hn t.ty ht
 | enum t p ms=>exact h.num _
 | struct t p ms=>
  intro d d' hd hx
  obtain ⟨p,h1,h2⟩:=Ql hx
  exact Qjo h hn _ (fun t h=>by obtain ⟨m,hm,rfl⟩:=List.mem_map.1 h;exact ht m hm) _ _ (h.list _ _ _ _ hd h1) h2
 | union t p s arms=>
  intro d d' hd hx
  obtain ⟨p,h1,h2⟩:=Ql hx
  have hp:=h.arm _ _ _ _ hd h1
  split at h2
  ·rename_i t ha
   obtain ⟨a,h3,rfl⟩:=List.mem_map.1 (Qap ha)
   exact Qad h hn _ (ht a h3) _ _ hp h2
  ·cases h2
theorem Qhc (h:Q9Q W P) {E:Env} (hE:∀ n d,E n=some d→Qbd d):∀ (g k:Nat) (n:List UInt8) d d',P d→Q1s W E g k n d = .ok d'→P d':=by
 intro g
 induction g with
 | zero=>
  intro k n d x _ hx
  obtain ⟨_,_,h2⟩:=Ql hx
  cases h2
 | succ g ih=>
  intro k n d d' hd hx
  obtain ⟨d1,h1,h2⟩:=Ql hx
  have hp:=h.enter _ _ _ hd h1
  split at h2
  ·rename_i df hdf
   exact Qjp h (fun m=>ih (k + 1) m) _ (hE _ _ hdf) _ _ hp h2
  ·cases h2
end
def InB (b:List UInt8):Nat→List Q0I→Prop
 | _,[]=>True
 | e,x :: xs=>∃ p:Nat,x.at'=p∧e≤p∧p + x.s.length≤b.length∧(b.drop p).take x.s.length=x.s∧InB b (p + x.s.length) xs
def endB:Nat→List Q0I→Nat
 | e,[]=>e
 | _,x :: xs=>endB (x.at'.toNat + x.s.length) xs
theorem Qkv {b:List UInt8} {x:Q0I} {p:Nat} (hp:x.at'=p) (h1:p + x.s.length≤b.length) (h2:(b.drop p).take x.s.length=x.s):∀ (l:List Q0I) (e:Nat),InB b e l→endB e l≤p→InB b e (l++[x]):=by
 intro l
 induction l with
 | nil=>intro e _ he;exact ⟨p,hp,he,h1,h2,trivial⟩
 | cons y ys ih=>
  rintro e ⟨q,hq,q1,q2,q3,q4⟩ he
  refine ⟨q,hq,q1,q2,q3,ih _ q4 ?_⟩
  have:endB e (y :: ys)=endB (q + y.s.length) ys:=by simp [endB,hq]
  omega
theorem Qjq (x:Q0I):∀ (l:List Q0I) (e:Nat),endB e (l++[x])=x.at'.toNat + x.s.length:=by
 intro l
 induction l with
 | nil=>intro e;rfl
 | cons y ys ih=>intro e;exact ih _
def Q6U (b:List UInt8) (d:DSt):Prop:=InB b 0 (Q0c (d.nodes.map toG))∧endB 0 (Q0c (d.nodes.map toG))≤d.pos∧d.pos≤b.length∧4 * (Q0c (d.nodes.map toG)).length≤d.pos
theorem Qhd (N:List Q0N) (x:Q0N) (h:x.kind≠2):Q0c ((N++[x]).map toG)=Q0c (N.map toG):=by
 simp [Q0c,toG]
 omega
theorem QfA (N:List Q0N) (x:Q0N) (h:x.kind=2):Q0c ((N++[x]).map toG)=Q0c (N.map toG)++[toG x]:=by
 simp [Q0c,toG,h]
theorem Q6x {b:List UInt8} {d d':DSt} {x:Q0N} (h:Q6U b d) (h1:d'.nodes=d.nodes) (h2:d.pos≤d'.pos) (h3:d'.pos≤b.length) (hx:x.kind≠2):Q6U b (putD x d'):=by
 obtain ⟨a1,a2,a3,a4⟩:=h
 unfold Q6U
 simp only [putD]
 rw [h1,Qhd _ _ hx]
 exact ⟨a1,by omega,h3,by omega⟩
theorem Qjr {b:List UInt8} {p q:Nat} {l r:List UInt8} (h:seg b p q=l++r):(b.drop p).take l.length=l:=by
 unfold seg at h
 have h2:(((b.drop p).take (q - p)).take l.length)=l:=by rw [h];simp
 rw [List.take_take] at h2
 have h3:l.length≤q - p:=by
  have:=congrArg List.length h
  simp at this
  omega
 rwa [Nat.min_eq_left h3] at h2
theorem Qkw (b:List UInt8) (dep fuel:Nat):Q9Q (decW b dep fuel) (Q6U b) where
 enter k d d' hd h:=by
  simp only [decW] at h
  split at h
  ·cases h
  ·cases h;exact hd
 num n d d' hd h:=by
  obtain ⟨d1,e1,h'⟩:=Ql h
  clear h
  obtain ⟨rfl,hl⟩:=Q3z e1
  obtain ⟨p,e2,h⟩:=Ql h'
  split at h
  ·cases h
   obtain ⟨_,_,p3,p4,p5⟩:=Q4g (show Q1F b n d1 = .ok (p.1,p.2) from e2)
   exact Q6x hd p4 p3 p5 (by simp)
  ·cases h
 text n f d d' hf hd h:=by
  obtain ⟨d1,e1,h'⟩:=Ql h
  clear h
  obtain ⟨rfl,hl⟩:=Q3z e1
  obtain ⟨p,e2,h⟩:=Ql h'
  obtain ⟨q,e3,h⟩:=Ql h
  cases h
  have hc:d1.pos + 4≤q.2.pos:=by
   have t1:=e3
   obtain ⟨s,t2,t3⟩:=Ql t1
   obtain ⟨_,s2,_,_,_⟩:=Q4f (show Q3l b (Q2f p.1) p.2 = .ok (s.1,s.2) from t2)
   have hq:q.2=s.2:=by
    split at t3
    ·cases t3
    ·cases t3;rfl
   rw [hq,s2]
   have t4:=e2
   unfold Q0Z at t4
   split at t4
   ·rename_i hf'
    have:=hf hf'
    cases t4
    have hp:4≤Q2f n.toNat:=by unfold Q2f;omega
    simp only
    omega
   ·obtain ⟨u,t5,t6⟩:=Ql t4
    obtain ⟨_,_,u3,_,_⟩:=Q1H (show Q37 b d1 = .ok (u.1,u.2) from t5)
    split at t6
    ·cases t6;omega
    ·cases t6
  obtain ⟨c1,c2,c3,c4⟩:=Q1k (show Q0Z b n f d1 = .ok (p.1,p.2) from e2)
  obtain ⟨p1,p2,p3,p4,p5⟩:=Q4h (show Q1G b p.1 p.2 = .ok (q.1,q.2) from e3)
  obtain ⟨a1,a2,a3,a4⟩:=hd
  have hlen:p.2.pos + q.1.length≤q.2.pos:=by
   have h5:=congrArg List.length p1
   unfold seg at h5
   simp at h5
   omega
  unfold Q6U
  simp only [putD]
  rw [p4,c2,QfA _ _ rfl]
  refine ⟨Qkv (p:=p.2.pos) rfl (by simp only [toG];omega) (Qjr p1) _ _ a1 (by omega),?_,p5,by simp;omega⟩
  rw [Qjq]
  simpa [toG] using hlen
 list n f d p hd h:=by
  obtain ⟨d1,e1,h'⟩:=Ql h
  clear h
  obtain ⟨rfl,hl⟩:=Q3z e1
  obtain ⟨q,e2,h⟩:=Ql h'
  cases h
  obtain ⟨c1,c2,c3,_⟩:=Q1k (show Q0Z b n f d1 = .ok (q.1,q.2) from e2)
  exact Q6x hd c2 c1 (c3 hd.2.2.1) (by simp)
 arm n v d p hd h:=by
  obtain ⟨d1,e1,h'⟩:=Ql h
  clear h
  obtain ⟨rfl,hl⟩:=Q3z e1
  obtain ⟨q,e2,h⟩:=Ql h'
  split at h
  ·cases h
  ·cases h
   obtain ⟨_,_,p3,p4,p5⟩:=Q1H (show Q37 b d1 = .ok (q.1,q.2) from e2)
   exact Q6x hd p4 (by omega) p5 (by simp)
theorem Qhe (n b:List UInt8):InB b 0 (Q1f n b)∧4 * (Q1f n b).length≤b.length:=by
 unfold Q1f
 split
 ·rename_i u hu
  obtain ⟨_,hn⟩:=Q5X hu
  obtain ⟨a1,a2,a3,a4⟩:=Qhc (Qkw b 64 10000) (fun _ _ h=>Qku h) 64 0 n ⟨0,[]⟩ _ ⟨trivial,Nat.le_refl _,Nat.zero_le _,Nat.le_refl _⟩ hn
  exact ⟨a1,Nat.le_trans a4 a3⟩
 ·exact ⟨trivial,by simp⟩
end Go.Proofs.YtmbcibgknckenaaGreatDoor
namespace Go.Proofs.YtmbcibgknckenaaGreatDoor
open Go.RowKit
open Go.MapKept
theorem QkS {b:List UInt8} {L:List Q0I} {k e:Nat} (hk:k < L.length) (h:InB b e (L.drop k)):∃ p:Nat,L[k].at'=p∧e≤p∧p + L[k].s.length≤b.length∧(b.drop p).take L[k].s.length=L[k].s∧InB b (p + L[k].s.length) (L.drop (k + 1)):=by
 rw [List.drop_eq_getElem_cons hk] at h
 exact h
theorem Q8x {w:World} {base:Nat} {T:TypeId} {v:Value} {ns:List Q0I} (h:w.ownsRow base T 5 v ns.length (ns.flatMap Q0l)):Q4n w v ns:=by
 obtain ⟨hl,h⟩:=h
 rcases h with ⟨rfl,h0⟩ | ⟨g,cap,cur,rfl,hb,hc,h1,h2,h3,h4⟩
 ·have hn:ns=[]:=List.length_eq_zero_iff.1 h0
  subst hn
  exact ⟨none,0,rfl,by simp,fun k x hx=>by simp at hx⟩
 ·refine ⟨some ⟨g,0,none⟩,cap,rfl,h1,fun k x hx=>⟨g,rfl,?_⟩⟩
  rw [← hl] at h4
  have key:∀ j,j < 5→∀ v,(Q0l x)[j]? = some v→w.cell? ⟨g,k * 5 + j,none⟩=some v:=fun j hj v hv=>Qw hc h4 (by rw [Q8w ns k x j hx hj,hv])
  exact ⟨key 0 (by omega) _ rfl,key 1 (by omega) _ rfl,key 2 (by omega) _ rfl,key 3 (by omega) _ rfl,key 4 (by omega) _ rfl⟩
theorem Qb4 {w:World} {ad:Option Addr} {c:Nat} {ns:List Q0I} (h:Q4n w (.slice ad ns.length c) ns) {k:Nat} (hk:k≤ns.length):Q4n w (.slice ad k c) (ns.take k):=by
 obtain ⟨ad',c',e,h1,h2⟩:=h
 cases e
 refine ⟨ad,c,by rw [List.length_take,Nat.min_eq_left hk],by rw [List.length_take];omega,fun j x hx=>h2 j x ?_⟩
 rw [List.getElem?_take] at hx
 split at hx
 ·exact hx
 ·cases hx
theorem Q8y {l:List Q0I} {k:Nat} (hk:k < l.length):(Q0c (l.take (k + 1))).length=(Q0c (l.take k)).length + if l[k].kind=2 then 1 else 0:=by
 rw [Q6w hk,List.length_append]
 split<;>rfl
set_option maxHeartbeats 20000000 in
theorem QfB {w:World} (hg:Gl w) (c:Int) (h1:-9223372036854775808≤c) (h2:c≤9223372036854775807) (b:List UInt8) (n:Int) (n1:-9223372036854775808≤n) (n2:n≤9223372036854775807) :
  Calls Tryz.prog 8 #[.int .i64 c,.string ⟨b.toArray⟩,.int .i64 n] w fun e w'=>e = .returned (.bool true)∧Qb [] w w':=by
 have VS:=Hid.mk (Qil hg)
 have VK:=Hid.mk (Qh4 c h1 h2)
 have VW:=Hid.mk Qim
 have VP:=Hid.mk (Qcv n 6 n1 n2 (by omega) (by omega))
 have hq:=Q95 n (n:=6) (by omega)
 generalize Q4Y n 6=q at VP hq
 have hn1:=neqF
 have hn2:=Q94
 have hn3:=eqlF
 have hn4:=Qji
 clear hg h1 h2 n1 n2
 by_cases lb:b.length≤4000
 ·obtain ⟨hI,hlen⟩:=Qhe (Q1d c) b
  have hb:b.length≤maxLen:=Nat.le_trans lb (by decide)
  have VD:=Hid.mk (fun (w:World) (bs:List (Nat×Obj)) (B:Nat) (hS:Q3W bs B Q0z) (hw:∀ p∈bs,w.heap[p.1]? = some p.2)=>Q8v hS hw c b hb)
  have VF:=Hid.mk (fun (w:World) (bs:List (Nat×Obj)) (B:Nat) (hS:Q3W bs B Q0z) (hw:∀ p∈bs,w.heap[p.1]? = some p.2) (m:Nat) (hm:m≤4000)=>Qha hS hw c b hb m hm (by omega))
  have HD:Hid (∀ u,Q3g (Q13 Q0z) (Q1d c) b 64 10000 100000 = .ok u→Q0c (u.map toG)=Q1f (Q1d c) b):=by
   intro u hu
   rw [Q1f,hu]
  have HE:Hid (∀ f,Q3g (Q13 Q0z) (Q1d c) b 64 10000 100000 = .error f→Q1f (Q1d c) b=[]):=by
   intro u hu
   rw [Q1f,hu]
  generalize Q1f (Q1d c) b=L at hI hlen VF HD HE
  generalize Q1d c=nm at VK VD VF HD HE
  have hL:L.length≤1000:=by omega
  have HI:=Hid.mk hI
  have b2:(b.length:Int)≤4000:=by omega
  clear hI hlen hb
  go_enter Tryz.func8,Tryz.ntmps8
  go_wp2_with fail
  refine VS.out.mono ?_
  rintro e w1 ⟨B,bs,rfl,hk,hS,hh,hB⟩
  have HK1:=Hid.mk hk
  have HS:=Hid.mk hS
  have HH:=Hid.mk hh
  clear hk hS hh hB VS
  go_wp2_with fail
  refine (VK.out _).mono ?_
  rintro e w2 ⟨rfl,hb2⟩
  have HK2:=Hid.mk (HK1.out.trans (Qb.of_below [] hb2))
  have HH2:=Hid.mk (Q1w HH.out (Qb.of_below [] hb2))
  clear hb2 VK HK1 HH
  go_wp2_with fail
  refine (VW.out _).mono ?_
  rintro e w3 ⟨rfl,hb3⟩
  have HK3:=Hid.mk (HK2.out.trans (Qb.of_below [] hb3))
  have HH3:=Hid.mk (Q1w HH2.out (Qb.of_below [] hb3))
  clear hb3 VW HK2 HH2
  go_wp2_with fail
  refine (VF.out _ bs B HS.out (Q1w HH3.out ((Qb.refl [] _).alloc _)) 4000 (by omega)).mono ?_
  rintro e w4 ⟨v,rfl,hk4,ho4⟩
  rw [List.take_of_length_le (by omega)] at ho4
  have HK4:=Hid.mk ((HK3.out.alloc _).trans hk4)
  have HH4:=Hid.mk (Q1w (Q1w HH3.out ((Qb.refl [] _).alloc _)) hk4)
  have HW4:=Hid.mk ((hk4.block w3.heap.size (by simp) (by simp)).trans (Qg rfl))
  obtain ⟨av,cv,rfl⟩:=Q10 ho4
  have HA4:=Hid.mk (Q8x ho4)
  have HG4:=Hid.mk (Q7g ho4)
  clear hk4 HK3 HH3 ho4
  go_wp2_with fail
  go_loopw [11,12] (fun en i ur=>∃ (k e:Nat),i = .int .i64 k∧en = .int .i64 e∧k≤L.length∧Hid (InB b e (L.drop k))∧Hid (Qb [] w4 ur)) (fun _ i _=>L.length - (intOf i).toNat)
  case atStart=>exact ⟨0,0,rfl,rfl,by omega,HI,Qb.refl [] _⟩
  case round=>
   obtain ⟨k,e,rfl,rfl,hk,HJ,HR⟩:=hrel
   clear HI
   rcases Nat.lt_or_ge k L.length with hlt | hge
   ·obtain ⟨p,hp,q1,q2,q3,q4⟩:=QkS hlt HJ.out
    have HJ2:=Hid.mk q4
    obtain ⟨ad,cap,hsl,hvc,hcm,hN⟩:=HG4.out
    cases hsl
    obtain ⟨g,o,rfl,hNk⟩:=hN k L[k] (List.getElem?_eq_getElem hlt)
    have hgl:g < w4.heap.size:=Q0H hNk.1
    obtain ⟨m0,m1,m2,m3,m4⟩:Q6T wr g (o + k * 5) L[k]:=by
     obtain ⟨m0,m1,m2,m3,m4⟩:=hNk
     have hb:∀ i,wr.cell? ⟨g,i,none⟩=w4.cell? ⟨g,i,none⟩:=fun i=>World.cell?_of_block (HR.out.block g hgl (by simp))
     exact ⟨(hb _).trans m0,(hb _).trans m1,(hb _).trans m2,(hb _).trans m3,(hb _).trans m4⟩
    rw [hp] at m3
    have hX:=Qaw b p L[k].s.length
    rw [q3] at hX
    clear q3 q4 HJ hN hNk hp
    generalize L[k].s=s at *
    have k0:(0:Int)≤(k:Int):=by omega
    have k1:(k:Int) < (L.length:Int):=by omega
    have r0:¬ ((p:Int) < (e:Int)):=by omega
    have r1:¬ ((b.length:Int) < (p:Int)):=by omega
    have r1n:p≤b.length:=by omega
    have r2n:(s.length:Int)≤(b.length:Int) - (p:Int):=by omega
    have r2:¬ ((b.length:Int) - (p:Int) < (s.length:Int)):=by omega
    have r3:(0:Int)≤(p:Int):=by omega
    have r4:(p:Int)≤(p:Int) + (s.length:Int):=by omega
    have r5:(p:Int) + (s.length:Int)≤(b.length:Int):=by omega
    have wr1:IntKind.i64.wrap ((b.length:Int) - (p:Int))=(b.length:Int) - (p:Int):=by rw [IntKind.wrap_i64];omega
    have wr2:IntKind.i64.wrap ((p:Int) + (s.length:Int))=(p:Int) + (s.length:Int):=by rw [IntKind.wrap_i64];omega
    have wr3:((p:Int) + (s.length:Int)).toNat=p + s.length:=by omega
    have hX':(⟨b.toArray⟩:ByteArray).extract p (p + s.length)=⟨s.toArray⟩:=hX
    go_wp2_with fail
    refine QE (fun w'=>w'.cell? ⟨g,o + k * 5 + 2,none⟩=some (.string ⟨s.toArray⟩)) (L:=40) (by kernel_rfl) rfl (by kernel_rfl) (by kernel_rfl) ?_ (fun hHeld=>?_)
    ·exact m2
    refine tk (i:=0) (v:=?_) rfl (by kernel_rfl) (fun _ _ _ h=>h) (by kernel_rfl) (by assumption) ?_ ?_
    rotate_left
    ·intro w hSw;(try dsimp only at hSw);go_simp;(try with_reducible rfl)
    (try simp only [Qd,Qe,List.set])
    refine tk (i:=1) (v:=?_) rfl (by kernel_rfl) (fun _ _ _ h=>h) (by kernel_rfl) (by assumption) ?_ ?_
    rotate_left
    ·intro w hSw;(try dsimp only at hSw);go_simp;(try with_reducible rfl)
    (try simp only [Qd,Qe,List.set])
    refine tk (i:=2) (v:=(.bool false)) rfl (by kernel_rfl) (fun _ _ _ h=>h) (by kernel_rfl) (by assumption) ?_ ?_
    ·intro w hSw;(try dsimp only at hSw);go_simp;(try with_reducible rfl);all_goals (try omega)
    (try simp only [Qd,Qe,List.set])
    refine tk (i:=3) (v:=?_) rfl (by kernel_rfl) (fun _ _ _ h=>h) (by kernel_rfl) (by assumption) ?_ ?_
    rotate_left
    ·intro w hSw;(try dsimp only at hSw);go_simp;(try with_reducible rfl)
    (try simp only [Qd,Qe,List.set])
    refine tk (i:=4) (v:=?_) rfl (by kernel_rfl) (fun _ _ _ h=>h) (by kernel_rfl) (by assumption) ?_ ?_
    rotate_left
    ·intro w hSw;(try dsimp only at hSw);go_simp;(try with_reducible rfl)
    (try simp only [Qd,Qe,List.set])
    refine tk (i:=5) (v:=?_) rfl (by kernel_rfl) (fun _ _ _ h=>h) (by kernel_rfl) (by assumption) ?_ ?_
    rotate_left
    ·intro w hSw;(try dsimp only at hSw);go_simp;(try with_reducible rfl)
    (try simp only [Qd,Qe,List.set])
    refine tk (i:=6) (v:=?_) rfl (by kernel_rfl) (fun _ _ _ h=>h) (by kernel_rfl) (by assumption) ?_ ?_
    rotate_left
    ·intro w hSw;(try dsimp only at hSw);go_simp;(try with_reducible rfl)
    (try simp only [Qd,Qe,List.set])
    refine tk (i:=7) (v:=(.bool false)) rfl (by kernel_rfl) (fun _ _ _ h=>h) (by kernel_rfl) (by assumption) ?_ ?_
    ·intro w hSw;(try dsimp only at hSw);go_simp;(try with_reducible rfl);all_goals (try omega)
    (try simp only [Qd,Qe,List.set])
    refine tk (i:=8) (v:=(.bool false)) rfl (by kernel_rfl) (fun _ _ _ h=>h) (by kernel_rfl) (by assumption) ?_ ?_
    ·intro w hSw;(try dsimp only at hSw);go_simp;(try with_reducible rfl);all_goals (try omega)
    (try simp only [Qd,Qe,List.set])
    refine tk (i:=9) (v:=?_) rfl (by kernel_rfl) (fun _ _ _ h=>h) (by kernel_rfl) (by assumption) ?_ ?_
    rotate_left
    ·intro w hSw;(try dsimp only at hSw);go_simp;(try with_reducible rfl)
    (try simp only [Qd,Qe,List.set])
    refine tk (i:=10) (v:=?_) rfl (by kernel_rfl) (fun _ _ _ h=>h) (by kernel_rfl) (by assumption) ?_ ?_
    rotate_left
    ·intro w hSw;(try dsimp only at hSw);go_simp;(try with_reducible rfl)
    (try simp only [Qd,Qe,List.set])
    refine tk (i:=11) (v:=?_) rfl (by kernel_rfl) (fun _ _ _ h=>h) (by kernel_rfl) (by assumption) ?_ ?_
    rotate_left
    ·intro w hSw;(try dsimp only at hSw);go_simp;(try with_reducible rfl)
    (try simp only [Qd,Qe,List.set])
    refine tk (i:=12) (v:=?_) rfl (by kernel_rfl) (fun _ _ _ h=>h) (by kernel_rfl) (by assumption) ?_ ?_
    rotate_left
    ·intro w hSw;(try dsimp only at hSw);go_simp;(try with_reducible rfl)
    (try simp only [Qd,Qe,List.set])
    refine tk (i:=13) (v:=?_) rfl (by kernel_rfl) (fun _ _ _ h=>h) (by kernel_rfl) (by assumption) ?_ ?_
    rotate_left
    ·intro w hSw;(try dsimp only at hSw);go_simp;(try with_reducible rfl)
    (try simp only [Qd,Qe,List.set])
    refine tk (i:=14) (v:=?_) rfl (by kernel_rfl) (fun _ _ _ h=>h) (by kernel_rfl) (by assumption) ?_ ?_
    rotate_left
    ·intro w hSw;(try dsimp only at hSw);go_simp;(try with_reducible rfl)
    (try simp only [Qd,Qe,List.set])
    refine tk (i:=15) (v:=?_) rfl (by kernel_rfl) (fun _ _ _ h=>h) (by kernel_rfl) (by assumption) ?_ ?_
    rotate_left
    ·intro w hSw;(try dsimp only at hSw);go_simp;(try with_reducible rfl)
    (try simp only [Qd,Qe,List.set])
    refine tk (i:=16) (v:=?_) rfl (by kernel_rfl) (fun _ _ _ h=>h) (by kernel_rfl) (by assumption) ?_ ?_
    rotate_left
    ·intro w hSw;(try dsimp only at hSw);go_simp;(try with_reducible rfl)
    (try simp only [Qd,Qe,List.set])
    refine tk (i:=17) (v:=?_) rfl (by kernel_rfl) (fun _ _ _ h=>h) (by kernel_rfl) (by assumption) ?_ ?_
    rotate_left
    ·intro w hSw;(try dsimp only at hSw);go_simp;(try with_reducible rfl)
    (try simp only [Qd,Qe,List.set])
    refine tk (i:=18) (v:=?_) rfl (by kernel_rfl) (fun _ _ _ h=>h) (by kernel_rfl) (by assumption) ?_ ?_
    rotate_left
    ·intro w hSw;(try dsimp only at hSw);go_simp;(try with_reducible rfl)
    (try simp only [Qd,Qe,List.set])
    refine tk (i:=19) (v:=(.int .i64 ((b.length:Int) - (p:Int)))) rfl (by kernel_rfl) (fun _ _ _ h=>h) (by kernel_rfl) (by assumption) ?_ ?_
    ·intro w hSw;(try dsimp only at hSw);go_simp;(try with_reducible rfl);all_goals (try omega)
    (try simp only [Qd,Qe,List.set])
    refine tk (i:=20) (v:=(.bool false)) rfl (by kernel_rfl) (fun _ _ _ h=>h) (by kernel_rfl) (by assumption) ?_ ?_
    ·intro w hSw;(try dsimp only at hSw);go_simp;(try with_reducible rfl);all_goals (try omega)
    (try simp only [Qd,Qe,List.set])
    refine tk (i:=21) (v:=(.bool false)) rfl (by kernel_rfl) (fun _ _ _ h=>h) (by kernel_rfl) (by assumption) ?_ ?_
    ·intro w hSw;(try dsimp only at hSw);go_simp;(try with_reducible rfl);all_goals (try omega)
    (try simp only [Qd,Qe,List.set])
    refine tk (i:=22) (v:=?_) rfl (by kernel_rfl) (fun _ _ _ h=>h) (by kernel_rfl) (by assumption) ?_ ?_
    rotate_left
    ·intro w hSw;(try dsimp only at hSw);go_simp;(try with_reducible rfl)
    (try simp only [Qd,Qe,List.set])
    refine tk (i:=23) (v:=?_) rfl (by kernel_rfl) (fun _ _ _ h=>h) (by kernel_rfl) (by assumption) ?_ ?_
    rotate_left
    ·intro w hSw;(try dsimp only at hSw);go_simp;(try with_reducible rfl)
    (try simp only [Qd,Qe,List.set])
    refine tk (i:=24) (v:=?_) rfl (by kernel_rfl) (fun _ _ _ h=>h) (by kernel_rfl) (by assumption) ?_ ?_
    rotate_left
    ·intro w hSw;(try dsimp only at hSw);go_simp;(try with_reducible rfl)
    (try simp only [Qd,Qe,List.set])
    refine tk (i:=25) (v:=?_) rfl (by kernel_rfl) (fun _ _ _ h=>h) (by kernel_rfl) (by assumption) ?_ ?_
    rotate_left
    ·intro w hSw;(try dsimp only at hSw);go_simp;(try with_reducible rfl)
    (try simp only [Qd,Qe,List.set])
    refine tk (i:=26) (v:=?_) rfl (by kernel_rfl) (fun _ _ _ h=>h) (by kernel_rfl) (by assumption) ?_ ?_
    rotate_left
    ·intro w hSw;(try dsimp only at hSw);go_simp;(try with_reducible rfl)
    (try simp only [Qd,Qe,List.set])
    refine tk (i:=27) (v:=?_) rfl (by kernel_rfl) (fun _ _ _ h=>h) (by kernel_rfl) (by assumption) ?_ ?_
    rotate_left
    ·intro w hSw;(try dsimp only at hSw);go_simp;(try with_reducible rfl)
    (try simp only [Qd,Qe,List.set])
    refine tk (i:=28) (v:=?_) rfl (by kernel_rfl) (fun _ _ _ h=>h) (by kernel_rfl) (by assumption) ?_ ?_
    rotate_left
    ·intro w hSw;(try dsimp only at hSw);go_simp;(try with_reducible rfl)
    (try simp only [Qd,Qe,List.set])
    refine tk (i:=29) (v:=?_) rfl (by kernel_rfl) (fun _ _ _ h=>h) (by kernel_rfl) (by assumption) ?_ ?_
    rotate_left
    ·intro w hSw;(try dsimp only at hSw);go_simp;(try with_reducible rfl)
    (try simp only [Qd,Qe,List.set])
    refine tk (i:=30) (v:=?_) rfl (by kernel_rfl) (fun _ _ _ h=>h) (by kernel_rfl) (by assumption) ?_ ?_
    rotate_left
    ·intro w hSw;(try dsimp only at hSw);go_simp;(try with_reducible rfl)
    (try simp only [Qd,Qe,List.set])
    refine tk (i:=31) (v:=?_) rfl (by kernel_rfl) (fun _ _ _ h=>h) (by kernel_rfl) (by assumption) ?_ ?_
    rotate_left
    ·intro w hSw;(try dsimp only at hSw);go_simp;(try with_reducible rfl)
    (try simp only [Qd,Qe,List.set])
    refine tk (i:=32) (v:=(.int .i64 ((p:Int) + (s.length:Int)))) rfl (by kernel_rfl) (fun _ _ _ h=>h) (by kernel_rfl) (by assumption) ?_ ?_
    ·intro w hSw;(try dsimp only at hSw);go_simp;(try with_reducible rfl);all_goals (try omega)
    (try simp only [Qd,Qe,List.set])
    refine tk (i:=33) (v:=(.string ⟨s.toArray⟩)) rfl (by kernel_rfl) (fun _ _ _ h=>h) (by kernel_rfl) (by assumption) ?_ ?_
    ·intro w hSw;(try dsimp only at hSw);go_simp;(try with_reducible rfl);all_goals (try omega)
    (try simp only [Qd,Qe,List.set])
    refine tk (i:=34) (v:=?_) rfl (by kernel_rfl) (fun _ _ _ h=>h) (by kernel_rfl) (by assumption) ?_ ?_
    rotate_left
    ·intro w hSw;(try dsimp only at hSw);go_simp;(try with_reducible rfl)
    (try simp only [Qd,Qe,List.set])
    refine tk (i:=35) (v:=?_) rfl (by kernel_rfl) (fun _ _ _ h=>h) (by kernel_rfl) (by assumption) ?_ ?_
    rotate_left
    ·intro w hSw;(try dsimp only at hSw);go_simp;(try with_reducible rfl)
    (try simp only [Qd,Qe,List.set])
    refine tk (i:=36) (v:=?_) rfl (by kernel_rfl) (fun _ _ _ h=>h) (by kernel_rfl) (by assumption) ?_ ?_
    rotate_left
    ·intro w hSw;(try dsimp only at hSw);go_simp;(try with_reducible rfl)
    (try simp only [Qd,Qe,List.set])
    refine tk (i:=37) (v:=?_) rfl (by kernel_rfl) (fun _ _ _ h=>h) (by kernel_rfl) (by assumption) ?_ ?_
    rotate_left
    ·intro w hSw;(try dsimp only at hSw);go_simp;(try with_reducible rfl)
    (try simp only [Qd,Qe,List.set])
    refine tk (i:=38) (v:=?_) rfl (by kernel_rfl) (fun _ _ _ h=>h) (by kernel_rfl) (by assumption) ?_ ?_
    rotate_left
    ·intro w hSw;(try dsimp only at hSw);go_simp;(try with_reducible rfl)
    (try simp only [Qd,Qe,List.set])
    refine tk (i:=39) (v:=(.bool false)) rfl (by kernel_rfl) (fun _ _ _ h=>h) (by kernel_rfl) (by assumption) ?_ ?_
    ·intro w hSw;(try dsimp only at hSw);go_simp;(try with_reducible rfl);all_goals (try omega)
    (try simp only [Qd,Qe,List.set])
    refine wpAnyH_done (by kernel_rfl) ?_ _
    refine QK rfl (fun K hK=>?_)
    go_simp
    refine hK.out _ _ ?_
    clear hK K
    (try simp only [Qd,Qe,List.set])
    go_wp2
    exact ⟨⟨k + 1,p + s.length,by go_num,by go_num,by omega,HJ2,HR.out.drew⟩,by simp [intOf];omega⟩
   ·have hkk:k=L.length:=by omega
    subst hkk
    have hge0:¬ ((L.length:Int) < (L.length:Int)):=by omega
    have HH5:=Hid.mk (Q1w HH4.out HR.out)
    have HK5:=Hid.mk (HK4.out.trans HR.out)
    have HW5:=Hid.mk ((HR.out.block w3.heap.size (Qc HW4.out) (by simp)).trans HW4.out)
    clear HJ
    go_wp2_with fail
    refine (VP.out _).mono ?_
    rintro e w5 ⟨rfl,rfl⟩
    obtain ⟨l0,l1,l2,_,_⟩:=Q62 HW5.out
    go_wp2_with fail
    refine (VF.out _ bs B HS.out HH5.out q (by omega)).mono ?_
    rintro e w6 ⟨v6,rfl,hk6,ho6⟩
    obtain ⟨a6,c6,rfl⟩:=Q10 ho6
    have HA6:=Hid.mk (Q8x ho6)
    have HK6:=Hid.mk (HK5.out.trans hk6)
    have HH6:=Hid.mk (Q1w HH5.out hk6)
    have HW6:=Hid.mk ((hk6.block w3.heap.size (Qc HW5.out) (by simp)).trans HW5.out)
    have HA46:Hid (Q4n w6 (.slice av L.length cv) L):=by
     obtain ⟨ad',c',e',n1,n2⟩:=HA4.out
     cases e'
     refine ⟨av,cv,rfl,n1,fun k x hx=>?_⟩
     obtain ⟨g,hg,m0,m1,m2,m3,m4⟩:=n2 k x hx
     have hgl:g < w4.heap.size:=Q0H m0
     have hb:∀ i,w6.cell? ⟨g,i,none⟩=w4.cell? ⟨g,i,none⟩:=fun i=>World.cell?_of_block ((HR.out.trans hk6).block g hgl (by simp))
     exact ⟨g,hg,(hb _).trans m0,(hb _).trans m1,(hb _).trans m2,(hb _).trans m3,(hb _).trans m4⟩
    have hcv:(L.length:Int)≤(cv:Int):=by
     obtain ⟨ad',c',e',n1,n2⟩:=HA4.out
     cases e'
     omega
    clear ho6 hk6 HK5 HH5 HW5 VF VP l0 l1 l2 HA4 HG4 HR HK4 HH4 HW4
    have hl0:(0:Int)≤(L.length:Int):=by omega
    have hq0:(0:Int)≤(q:Int):=by omega
    by_cases hqL:L.length < q
    ·have hq1:(L.length:Int) < (q:Int):=by omega
     have hfr:Hid (Q4n w6 (.slice av L.length cv) (L.take q)):=by
      show Q4n _ _ _
      rw [List.take_of_length_le (by omega)]
      exact HA46.out
     have VM:=QcD true HA6.out hfr.out (by rw [List.length_take];omega)
     rw [decide_eq_true rfl,List.length_take] at VM
     have VM:=Hid.mk VM
     clear HA6 HA46 hfr
     go_wp2_with fail
     refine VM.out.mono ?_
     rintro e w7 ⟨rfl,hc7,hb7⟩
     have hk7:=Qb.of_below [] hb7
     have HK7:=Hid.mk (HK6.out.trans hk7)
     have HH7:=Hid.mk (Q1w HH6.out hk7)
     have HW7:=Hid.mk ((hk7.block w3.heap.size (Qc HW6.out) (by simp)).trans HW6.out)
     obtain ⟨l0,l1,l2,_,_⟩:=Q62 HW7.out
     clear hc7 hb7 hk7 VM HK6 HH6 HW6
     go_wp2_with fail
     refine (VD.out _ bs B HS.out HH7.out).mono ?_
     rintro e w8 ⟨u8,er,rfl,hk8,hu⟩
     have HK8:=Hid.mk (HK7.out.trans hk8)
     clear hk8 HK7 HH7 HW7 l0 l1 l2 VD
     rcases hu with ⟨ns,e1,e2,e3,rfl,e5⟩ | ⟨f,g,e1,rfl,rfl,_⟩
     ·have hT:=HD.out _ e1
      have HN:=Q7W e5
      obtain ⟨a8,c8,rfl⟩:=Q10 e5
      have hlen:(ns.map toG).length=ns.length:=by simp
      rw [← hlen] at e2 e3 HN ⊢
      clear e1 e5 HD HE
      generalize ns.map toG=ms at hT HN hlen e2 e3 ⊢
      obtain ⟨ad,cap,hsl,hvc,hcm,hN⟩:=HN
      cases hsl
      have HN:=Hid.mk hN
      have HT:=Hid.mk (congrArg List.length hT)
      have p2:(0:Int) < (ms.length:Int):=by omega
      clear hN hT hlen
      go_wp2_with fail
      go_loopw [19,20] (fun t i ur=>∃ k:Nat,i = .int .i64 k∧k≤ms.length∧t = .int .i64 (Q0c (ms.take k)).length∧Hid (Qb [] w8 ur)) (fun _ i _=>ms.length - (intOf i).toNat)
      case atStart=>exact ⟨0,rfl,by omega,by simp [Q0c],Qb.refl [] _⟩
      case round=>
       obtain ⟨k,rfl,hk,rfl,HR8⟩:=hrel
       rcases Nat.lt_or_ge k ms.length with hlt | hge
       ·obtain ⟨g,o,rfl,hNk⟩:=HN.out k ms[k] (List.getElem?_eq_getElem hlt)
        have hgl:g < w8.heap.size:=Q0H hNk.1
        have m0:wr.cell? ⟨g,o + k * 5,none⟩=some (.int .i64 ms[k].kind):=(World.cell?_of_block (HR8.out.block g hgl (by simp))).trans hNk.1
        have hC:=Q8y hlt
        have hle:(Q0c (ms.take k)).length≤10000:=Nat.le_trans (Q7X _) (by rw [List.length_take];omega)
        have k0:(0:Int)≤(k:Int):=by omega
        have k1:(k:Int) < (ms.length:Int):=by omega
        have HC:=Hid.mk hC
        clear hNk hC
        generalize (Q0c (ms.take k)).length=t0 at HC hle ⊢
        generalize ms[k].kind=kd at m0 HC
        by_cases c2:kd=2
        ·subst c2
         have hC:=HC.out
         rw [if_pos rfl] at hC
         have HC2:=Hid.mk hC
         clear HC hC
         go_wp2
         exact ⟨⟨k + 1,by go_num,by omega,(by rw [HC2.out];go_num),HR8⟩,by simp [intOf];omega⟩
        ·have b2:(kd == 2)=false:=by simpa using c2
         have hC:=HC.out
         rw [if_neg c2,Nat.add_zero] at hC
         have HC2:=Hid.mk hC
         clear HC hC
         go_wp2
         exact ⟨⟨k + 1,by go_num,by omega,(by rw [HC2.out];first | rfl | simp),HR8⟩,by simp [intOf];omega⟩
       ·have hkk:k=ms.length:=by omega
        subst hkk
        have hge0:¬ ((ms.length:Int) < (ms.length:Int)):=by omega
        rw [List.take_length,HT.out]
        go_wp2
        go_ret
        exact ⟨rfl,HK8.out.trans HR8.out⟩
     ·have hL0:=HE.out _ e1
      subst hL0
      clear e1 HD HE
      go_wp2_with fail
      go_loopw [19,20] (fun t i ur=>i = .int .i64 0∧t = .int .i64 0∧Hid (ur=w8)) (fun _ _ _=>0)
      case atStart=>exact ⟨rfl,rfl,Hid.mk rfl⟩
      case round=>
       obtain ⟨rfl,rfl,hW⟩:=hrel
       have hW:=hW.out
       subst hW
       go_wp2
       go_ret
       exact ⟨rfl,HK8.out⟩
    ·have hq1:¬ ((L.length:Int) < (q:Int)):=by omega
     have hq2:(q:Int)≤(L.length:Int):=by omega
     have hq3:(q:Int)≤(cv:Int):=by omega
     have hfr:=Hid.mk (Qb4 HA46.out (k:=q) (by omega))
     have VM:=QcD true HA6.out hfr.out (by rw [List.length_take];omega)
     rw [decide_eq_true rfl,List.length_take] at VM
     have VM:=Hid.mk VM
     clear HA6 HA46 hfr
     go_wp2_with fail
     refine VM.out.mono ?_
     rintro e w7 ⟨rfl,hc7,hb7⟩
     have hk7:=Qb.of_below [] hb7
     have HK7:=Hid.mk (HK6.out.trans hk7)
     have HH7:=Hid.mk (Q1w HH6.out hk7)
     have HW7:=Hid.mk ((hk7.block w3.heap.size (Qc HW6.out) (by simp)).trans HW6.out)
     obtain ⟨l0,l1,l2,_,_⟩:=Q62 HW7.out
     clear hc7 hb7 hk7 VM HK6 HH6 HW6
     go_wp2_with fail
     refine (VD.out _ bs B HS.out HH7.out).mono ?_
     rintro e w8 ⟨u8,er,rfl,hk8,hu⟩
     have HK8:=Hid.mk (HK7.out.trans hk8)
     clear hk8 HK7 HH7 HW7 l0 l1 l2 VD
     rcases hu with ⟨ns,e1,e2,e3,rfl,e5⟩ | ⟨f,g,e1,rfl,rfl,_⟩
     ·have hT:=HD.out _ e1
      have HN:=Q7W e5
      obtain ⟨a8,c8,rfl⟩:=Q10 e5
      have hlen:(ns.map toG).length=ns.length:=by simp
      rw [← hlen] at e2 e3 HN ⊢
      clear e1 e5 HD HE
      generalize ns.map toG=ms at hT HN hlen e2 e3 ⊢
      obtain ⟨ad,cap,hsl,hvc,hcm,hN⟩:=HN
      cases hsl
      have HN:=Hid.mk hN
      have HT:=Hid.mk (congrArg List.length hT)
      have p2:(0:Int) < (ms.length:Int):=by omega
      clear hN hT hlen
      go_wp2_with fail
      go_loopw [19,20] (fun t i ur=>∃ k:Nat,i = .int .i64 k∧k≤ms.length∧t = .int .i64 (Q0c (ms.take k)).length∧Hid (Qb [] w8 ur)) (fun _ i _=>ms.length - (intOf i).toNat)
      case atStart=>exact ⟨0,rfl,by omega,by simp [Q0c],Qb.refl [] _⟩
      case round=>
       obtain ⟨k,rfl,hk,rfl,HR8⟩:=hrel
       rcases Nat.lt_or_ge k ms.length with hlt | hge
       ·obtain ⟨g,o,rfl,hNk⟩:=HN.out k ms[k] (List.getElem?_eq_getElem hlt)
        have hgl:g < w8.heap.size:=Q0H hNk.1
        have m0:wr.cell? ⟨g,o + k * 5,none⟩=some (.int .i64 ms[k].kind):=(World.cell?_of_block (HR8.out.block g hgl (by simp))).trans hNk.1
        have hC:=Q8y hlt
        have hle:(Q0c (ms.take k)).length≤10000:=Nat.le_trans (Q7X _) (by rw [List.length_take];omega)
        have k0:(0:Int)≤(k:Int):=by omega
        have k1:(k:Int) < (ms.length:Int):=by omega
        have HC:=Hid.mk hC
        clear hNk hC
        generalize (Q0c (ms.take k)).length=t0 at HC hle ⊢
        generalize ms[k].kind=kd at m0 HC
        by_cases c2:kd=2
        ·subst c2
         have hC:=HC.out
         rw [if_pos rfl] at hC
         have HC2:=Hid.mk hC
         clear HC hC
         go_wp2
         exact ⟨⟨k + 1,by go_num,by omega,(by rw [HC2.out];go_num),HR8⟩,by simp [intOf];omega⟩
        ·have b2:(kd == 2)=false:=by simpa using c2
         have hC:=HC.out
         rw [if_neg c2,Nat.add_zero] at hC
         have HC2:=Hid.mk hC
         clear HC hC
         go_wp2
         exact ⟨⟨k + 1,by go_num,by omega,(by rw [HC2.out];first | rfl | simp),HR8⟩,by simp [intOf];omega⟩
       ·have hkk:k=ms.length:=by omega
        subst hkk
        have hge0:¬ ((ms.length:Int) < (ms.length:Int)):=by omega
        rw [List.take_length,HT.out]
        go_wp2
        go_ret
        exact ⟨rfl,HK8.out.trans HR8.out⟩
     ·have hL0:=HE.out _ e1
      subst hL0
      clear e1 HD HE
      go_wp2_with fail
      go_loopw [19,20] (fun t i ur=>i = .int .i64 0∧t = .int .i64 0∧Hid (ur=w8)) (fun _ _ _=>0)
      case atStart=>exact ⟨rfl,rfl,Hid.mk rfl⟩
      case round=>
       obtain ⟨rfl,rfl,hW⟩:=hrel
       have hW:=hW.out
       subst hW
       go_wp2
       go_ret
       exact ⟨rfl,HK8.out⟩
 ·have lb':(4000:Int) < b.length:=by omega
  go_enter Tryz.func8,Tryz.ntmps8
  go_wp2_with fail
  refine VS.out.mono ?_
  rintro e w1 ⟨B,bs,rfl,hk,hS,hh,hB⟩
  have HK1:=Hid.mk hk
  clear hk hS hh hB VS VK VW
  go_wp2
  go_ret
  exact ⟨rfl,HK1.out⟩
end Go.Proofs.YtmbcibgknckenaaGreatDoor
namespace Go.Proofs.YtmbcibgknckenaaGreatDoor
theorem Qb5:joinedFacts Tryz.pinned.checked.prog 8 Tryz.f8 Rows.insideSpec Rows.insideRow=true:=by
 unfold joinedFacts
 simp only [Bool.and_eq_true]
 repeat' apply And.intro
 all_goals (as_aux_lemma=>kernel_rfl)
end Go.Proofs.YtmbcibgknckenaaGreatDoor
namespace Go.Proofs.YtmbcibgknckenaaGreatDoor
open Go.ChangeShapes Go.WideShapes Go.ChangeAt Go.RowKit
open Go.ChangeMaps (open_string shut_string)
theorem Qb6 (os:Os) (started:os.Started) (H:Type) (enc:TypeId×Value→H) :
  ReturnsInHanded {} Tryz.checked os 8 .any (fun w args=>(Rows.insideSpec.pre enc Tryz.prog Tryz.f8 [] false w args∧laidMetH Tryz.prog Rows.insideRow.laid w)∧sizedMet enc Tryz.prog Tryz.f8 (OpenSpec.ofChange Rows.insideSpec) false w args)
   (Rows.insideSpec.post enc Tryz.prog Tryz.f8 false true false false):=by
 refine Qfw (C:=Tryz.checked) (X:=fun w _=>laidMetH Tryz.prog Rows.insideRow.laid w) (fun _ _ _ hh h=>h.of_heap hh) Qjj started (by kernel_rfl) Tryz.func8
  (ChangeSpec.witness_shaped (enc:=enc) (C:=Tryz.checked) (os:=os) (X:=fun w _=>laidMetH Tryz.prog Rows.insideRow.laid w) false (World.doorLaid Tryz.prog 88 os) #[.int .i64 0,.string ⟨#[]⟩,.int .i64 0] 8 rfl (World.shaped_of_RefB (by kernel_rfl) (by kernel_rfl)) (by kernel_rfl) (by kernel_rfl) (by kernel_rfl) (Qjk os _)) ?_
 intro W base args ds gs before hval0 hW hL hsh
 have hval:∀ (j:Nat) t v,Tryz.f8.params[j]? = some t→args[j]? = some v→Value.okWide Tryz.prog W .any base t v:=hval0
 have hW':=hW
 obtain ⟨p,q,hA0,hV,rfl,hfz,hnd⟩:=hW
 have hA:DataW.TrodAll enc Tryz.prog W 0 (fun _=>true) true Tryz.f8.params.toList args.toList ds p:=hA0
 rw [Tryz.params8] at hA hval
 obtain ⟨v0,vs0,d0,ds0,p0,q0,hargs,rfl,rfl,h0,r0⟩:=trodAll_cons hA
 obtain ⟨v1,vs1,d1,ds1,p1,q1,rfl,rfl,rfl,h1,r1⟩:=trodAll_cons r0
 obtain ⟨v2,vs2,d2,ds2,p2,q2,rfl,rfl,rfl,h2,r2⟩:=trodAll_cons r1
 obtain ⟨rfl,rfl,rfl⟩:=trodAll_nil r2
 obtain rfl:args = #[v0,v1,v2]:=by cases args;simp_all
 obtain ⟨rfl,rfl⟩:=trodVars_none hV
 obtain ⟨c,rfl,rfl,rfl,wc⟩:=open_int Tryz.underlying3 (hval 0 3 v0 rfl rfl) h0
 obtain ⟨⟨⟨b⟩⟩,rfl,rfl,rfl,hb⟩:=open_string Tryz.underlying9 (hval 1 9 v1 rfl rfl) h1
 obtain ⟨n,rfl,rfl,rfl,wd⟩:=open_int Tryz.underlying3 (hval 2 3 v2 rfl rfl) h2
 have bc:=bounds_i64 wc
 have bd:=bounds_i64 wd
 clear hA0 hval0
 refine (QfB (Qfv hL hsh) c bc.1 bc.2 b n bd.1 bd.2).mono fun e W' ⟨he,hk⟩=>?_
 subst he
 have bel:=Qac hk
 exact ⟨_,rfl,_,_,_,[],_,[],hW',trodAll_mk1 (shut_bool Tryz.underlying4 _),(trodAll_cons_mk (shut_int Tryz.underlying3 wc) (trodAll_cons_mk (shut_string Tryz.underlying9 hb) (trodAll_cons_mk (shut_int Tryz.underlying3 wd) trodAll_mk0))),rfl,bel.frame _,fun h=>by cases h⟩
theorem QfC:Rows.InsideSaid:=
 OpenClaim.holds_of_wide 8 Tryz.f8 rfl rfl rfl rfl rfl rfl rfl ⟨rfl,rfl,rfl,rfl,rfl⟩ rfl rfl rfl rfl rfl (by kernel_rfl) Tryz.func8 Qb5
  (of_decide_eq_true (by kernel_rfl)) (by unfold Func.isWrapper;rw [if_neg (of_decide_eq_false (by kernel_rfl))];exact ⟨rfl,rfl⟩)
  (fun os started H enc _=>Qb6 os started H enc)
theorem inside_card:Rows.InsideCardSaid:=
 Claim7.holds_tied_plain_at .later [] Rows.insideCard.laidKinds true Rows.insideCard.stood.harness true
  QfC (fun _ h=>by cases h) (by kernel_rfl) (fun _ h=>by cases h) inside_row_tie rfl ⟨rfl,rfl⟩ (by kernel_rfl) rfl
  (fun f fn hf hfn=>by
   obtain rfl : f = 8 := Option.some.inj ((show Tryz.prog.funcNamed "marshal/marshalkeep.Inside" = some 8 by kernel_rfl).symm.trans hf) |>.symm
   obtain rfl:fn=Tryz.f8:=(Option.some.inj (Tryz.func8.symm.trans hfn)).symm
   exact ⟨by kernel_rfl,fun j t ht=>by
    rw [Tryz.params8] at ht
    have hm:t∈[3,9,3]:=by simpa using Array.mem_of_getElem? ht
    have hall:([3,9,3].all fun u=>!Tryz.prog.wantsStandIn u)=true:=by kernel_rfl
    exact (show Tryz.prog.wantsStandIn t=false by simpa using List.all_eq_true.1 hall t hm)⟩)
  (by kernel_rfl)
end Go.Proofs.YtmbcibgknckenaaGreatDoor
