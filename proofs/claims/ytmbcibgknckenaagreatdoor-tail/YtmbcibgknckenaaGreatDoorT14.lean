import Derived.Test.YtmbcibgknckenaaGreatDoorT13
import Derived.Test.YtmbcibgknckenaaGreatDoorProg
import Derived.WalkKit
import Derived.LaidEql
import Derived.Stop.Asserts
import Derived.RowKitTokens
set_option linter.all false
set_option maxRecDepth 100000
set_option maxHeartbeats 4000000
namespace Go.Proofs.YtmbcibgknckenaaGreatDoor
open Go.RowKit
open Go.MapKept
def Q2b (x:QB):QB:=
 if x.kind=1 then ⟨1,x.n,[],0,0⟩ else if x.kind=2 then ⟨2,0,x.s,0,0⟩ else if x.kind=3 then ⟨3,0,[],0,x.len⟩ else if x.kind=4 then ⟨4,x.n,[],0,x.len⟩ else ⟨x.kind,0,[],0,0⟩
def Q4u (l:List QB) (k:Nat):List Value:=((l.take k).map Q2b).flatMap Q24
theorem Q8R (l:List QB) {k:Nat} (hk:k≤l.length):(Q4u l k).length=k * 5:=by
 unfold Q4u
 rw [List.length_flatMap]
 have:((l.take k).map Q2b).map (fun x=>(Q24 x).length)=List.replicate k 5:=by
  rw [List.map_map]
  have e:((fun x=>(Q24 x).length) ∘ Q2b)=fun _=>5:=by funext x;rfl
  rw [e,List.map_const',List.length_take,Nat.min_eq_left hk]
 rw [this]
 simp
theorem Qhx (l:List QB) {k:Nat} (hk:k < l.length):Q4u l (k + 1)=Q4u l k++Q24 (Q2b l[k]):=by
 unfold Q4u
 rw [List.take_succ_eq_append_getElem hk,List.map_append,List.flatMap_append]
 simp
theorem Qjk {ys:List Value} {m:Nat} (h:ys.length=(m + 1) * 5):∃ y0 y1 y2 y3 y4 zs,ys=y0 :: y1 :: y2 :: y3 :: y4 :: zs∧zs.length=m * 5:=by
 match ys,h with
 | y0 :: y1 :: y2 :: y3 :: y4 :: zs,h=>exact ⟨y0,y1,y2,y3,y4,zs,rfl,by simp at h;omega⟩
 | [],h=>simp at h
 | [_],h=>simp at h;omega
 | [_,_],h=>simp at h;omega
 | [_,_,_],h=>simp at h;omega
 | [_,_,_,_],h=>simp at h;omega
theorem Q7B {G:Nat} {xs zs:List Value} {y v:Value} {T:TypeId} {u:World} {o:Nat} (h:u.heap[G]? = some (.cells (xs++y :: zs).toArray T)) (ho:o=xs.length):(u.setCell ⟨G,o,none⟩ v).heap[G]? = some (.cells ((xs++[v])++zs).toArray T):=by
 have:=Qo (i:=o) h v
 rw [this,ho]
 simp
theorem QlA {G:Nat} {xs zs:List Value} {y0 y1 y2 y3 y4 v0 v1 v2 v3 v4:Value} {T:TypeId} {u:World} {o:Nat} (h:u.heap[G]? = some (.cells (xs++y0 :: y1 :: y2 :: y3 :: y4 :: zs).toArray T)) (ho:o=xs.length) :
  (((((u.setCell ⟨G,o,none⟩ v0).setCell ⟨G,o + 1,none⟩ v1).setCell ⟨G,o + 2,none⟩ v2).setCell ⟨G,o + 3,none⟩ v3).setCell ⟨G,o + 4,none⟩ v4).heap[G]? = some (.cells ((xs++[v0,v1,v2,v3,v4])++zs).toArray T):=by
 have h1:=Q7B (v:=v0) h ho
 have h2:=Q7B (v:=v1) (o:=o + 1) h1 (by simp [ho])
 have h3:=Q7B (v:=v2) (o:=o + 2) h2 (by simp [ho])
 have h4:=Q7B (v:=v3) (o:=o + 3) h3 (by simp [ho])
 have h5:=Q7B (v:=v4) (o:=o + 4) h4 (by simp [ho])
 rw [h5]
 simp
theorem QbU {G:Nat} {xs zs:List Value} {y0 y1 y2 y3 y4:Value} {T:TypeId} {u:World} {o:Nat} (h:u.heap[G]? = some (.cells (xs++y0 :: y1 :: y2 :: y3 :: y4 :: zs).toArray T)) (ho:o=xs.length) :
  u.cell? ⟨G,o,none⟩=some y0∧u.cell? ⟨G,o + 1,none⟩=some y1∧u.cell? ⟨G,o + 2,none⟩=some y2∧u.cell? ⟨G,o + 3,none⟩=some y3∧u.cell? ⟨G,o + 4,none⟩=some y4∧(∀ i,u.frozen? ⟨G,i,none⟩=false)∧G < u.heap.size:=by
 subst ho
 refine ⟨?_,?_,?_,?_,?_,?_,Qc h⟩<;>simp [World.cell?,World.frozen?,h]
theorem QlB {w:World} {nsl:Value} {l:List QB} (hn:Q23 w nsl l) (hl:l.length≤400) :
  Calls Tryz.prog 18 #[nsl] w fun e w'=>∃ v,e = .returned v∧Qb [] w w'∧Q5u w' v (l.map Q2b):=by
 obtain ⟨ad,cap,rfl,hvc,hcm,hnodes⟩:=hn
 obtain ⟨i0,hi0,hz0,hz1,hz2⟩:=info_parts QdW
 have HN:=Hid.mk hnodes
 clear hnodes
 go_enter Tryz.func18,Tryz.ntmps18
 go_wp2_with (at_make;go_must (refine wpList_make_full _ (by rfl) _ _ _ (by rfl) w.heap.size 48 i0 _ 5 Tryz.underlying29 hi0 hz0 hz1 .i64 .i64 l.length l.length l.length (by rfl) (by rfl) rfl rfl (by rw [hz2];omega) (by unfold maxLen;omega) (Nat.le_refl _) ?_;intro w1 hown hgrow))
 obtain ⟨cur,hcur,hsz⟩:∃ cur,w1.heap[w.heap.size]? = some (.cells cur 48)∧cur.size=l.length * 5:=by
  rcases hown.2 with ⟨h0,_⟩ | ⟨g',cap',cur,h0,_,h2,_,_,h5,_⟩
  ·cases h0
  ·cases h0
   exact ⟨cur,h2,h5⟩
 have HK0:Hid (Qb [] w w1):=Q0q hgrow
 have HC0:Hid (w1.heap[w.heap.size]? = some (.cells (Q4u l 0++cur.toList).toArray 48)):=by show _=_;rw [hcur];simp [Q4u]
 have HS0:Hid (cur.toList.length=(l.length - 0) * 5):=by show _=_;simpa using hsz
 clear hown hgrow hcur hsz
 go_loopw [4] (fun i ur=>∃ (k:Nat) (ys:List Value),i = .int .i64 k∧k≤l.length∧Hid (ur.heap[w.heap.size]? = some (.cells (Q4u l k++ys).toArray 48))∧Hid (ys.length=(l.length - k) * 5)∧Hid (Qb [] w ur)) (fun i _=>l.length - (intOf i).toNat)
 case atStart=>exact ⟨0,_,rfl,by omega,HC0,HS0,HK0⟩
 case round=>
  obtain ⟨k,ys,rfl,hk,HC,HS,HK⟩:=hrel
  clear HC0 HS0 HK0
  rcases Nat.lt_or_ge k l.length with hlt | hge
  ·obtain ⟨y0,y1,y2,y3,y4,zs,rfl,hzs⟩:=Qjk (m:=l.length - k - 1) (ys:=ys) (by rw [HS.out];congr 1;omega)
   obtain ⟨p0,p1,p2,p3,p4,pf,pl⟩:=QbU HC.out (Q8R l (by omega)).symm
   obtain ⟨g,o,rfl,hN⟩:=HN.out k l[k] (List.getElem?_eq_getElem hlt)
   have hgl:g < w.heap.size:=Q1e hN.1
   obtain ⟨n0,n1,n2,n3,n4⟩:Q9b wr g (o + k * 5) l[k]:=by
    obtain ⟨n0,n1,n2,n3,n4⟩:=hN
    have hb:∀ i,wr.cell? ⟨g,i,none⟩=w.cell? ⟨g,i,none⟩:=fun i=>World.cell?_of_block (HK.out.block g hgl (by simp))
    exact ⟨(hb _).trans n0,(hb _).trans n1,(hb _).trans n2,(hb _).trans n3,(hb _).trans n4⟩
   have hk0:(0:Int)≤(k:Int):=by omega
   have hk1:(k:Int) < (l.length:Int):=by omega
   have hgr:g < wr.heap.size:=Nat.lt_of_lt_of_le hgl HK.out.size
   have hne:g≠w.heap.size:=by omega
   have hne2:w.heap.size≠g:=by omega
   have hS:=Qhx l hlt
   have fin:∀ v0 v1 v2 v3 v4 o',Q2b l[k]=⟨v0,v1,v2,v3,v4⟩→Hid (Qb [] w ((((((wr.setCell ⟨w.heap.size,k * 5,none⟩ (.int .i64 v0)).setCell ⟨w.heap.size,k * 5 + 1,none⟩ (.int .i64 v1)).setCell ⟨w.heap.size,k * 5 + 2,none⟩ (.string ⟨v2.toArray⟩)).setCell ⟨w.heap.size,k * 5 + 3,none⟩ (.int .i64 v3)).setCell ⟨w.heap.size,k * 5 + 4,none⟩ (.int .i64 v4)).alloc o')∧((((((wr.setCell ⟨w.heap.size,k * 5,none⟩ (.int .i64 v0)).setCell ⟨w.heap.size,k * 5 + 1,none⟩ (.int .i64 v1)).setCell ⟨w.heap.size,k * 5 + 2,none⟩ (.string ⟨v2.toArray⟩)).setCell ⟨w.heap.size,k * 5 + 3,none⟩ (.int .i64 v3)).setCell ⟨w.heap.size,k * 5 + 4,none⟩ (.int .i64 v4)).alloc o').heap[w.heap.size]? = some (.cells (Q4u l (k + 1)++zs).toArray 48)):=by
    intro v0 v1 v2 v3 v4 o' hx
    refine ⟨(((((HK.out.setNew (p:=⟨w.heap.size,k * 5,none⟩) (by simp) _).setNew (p:=⟨w.heap.size,k * 5 + 1,none⟩) (by simp) _).setNew (p:=⟨w.heap.size,k * 5 + 2,none⟩) (by simp) _).setNew (p:=⟨w.heap.size,k * 5 + 3,none⟩) (by simp) _).setNew (p:=⟨w.heap.size,k * 5 + 4,none⟩) (by simp) _).alloc _,?_⟩
    rw [hS,hx]
    have:=QlA (v0:=.int .i64 v0) (v1:=.int .i64 v1) (v2:=.string ⟨v2.toArray⟩) (v3:=.int .i64 v3) (v4:=.int .i64 v4) HC.out (Q8R l (by omega)).symm
    exact (Below.heap_alloc _ _ _ (Qc this)).trans this
   have FIN:=Hid.mk fin
   have hzs':Hid (zs.length=(l.length - (k + 1)) * 5):=by show _=_;rw [hzs];congr 1
   clear hS fin hN HC HS hzs
   generalize hx:l[k]=x at n0 n1 n2 n3 n4 FIN
   clear hx
   by_cases c1:x.kind=1
   ·rw [c1] at n0
    have F:=Hid.mk (FIN.out 1 x.n [] 0 0 (.cells #[.int .i64 1,.int .i64 x.n,.string ⟨#[]⟩,.int .i64 0,.int .i64 0] 48) (by simp [Q2b,c1]))
    clear FIN c1
    go_wp2
    exact ⟨⟨k + 1,zs,by go_num,by omega,Hid.mk F.out.2,hzs',Hid.mk F.out.1⟩,by simp [intOf];omega⟩
   by_cases c2:x.kind=2
   ·rw [c2] at n0
    have F:=Hid.mk (FIN.out 2 0 x.s 0 0 (.cells #[.int .i64 2,.int .i64 0,.string ⟨x.s.toArray⟩,.int .i64 0,.int .i64 0] 48) (by simp [Q2b,c2]))
    clear FIN c2
    go_wp2
    exact ⟨⟨k + 1,zs,by go_num,by omega,Hid.mk F.out.2,hzs',Hid.mk F.out.1⟩,by simp [intOf];omega⟩
   by_cases c3:x.kind=3
   ·rw [c3] at n0
    have F:=Hid.mk (FIN.out 3 0 [] 0 x.len (.cells #[.int .i64 3,.int .i64 0,.string ⟨#[]⟩,.int .i64 0,.int .i64 x.len] 48) (by simp [Q2b,c3]))
    clear FIN c3
    go_wp2
    exact ⟨⟨k + 1,zs,by go_num,by omega,Hid.mk F.out.2,hzs',Hid.mk F.out.1⟩,by simp [intOf];omega⟩
   by_cases c4:x.kind=4
   ·rw [c4] at n0
    have F:=Hid.mk (FIN.out 4 x.n [] 0 x.len (.cells #[.int .i64 4,.int .i64 x.n,.string ⟨#[]⟩,.int .i64 0,.int .i64 x.len] 48) (by simp [Q2b,c4]))
    clear FIN c4
    go_wp2
    exact ⟨⟨k + 1,zs,by go_num,by omega,Hid.mk F.out.2,hzs',Hid.mk F.out.1⟩,by simp [intOf];omega⟩
   have b1:(x.kind == 1)=false:=by simpa using c1
   have b2:(x.kind == 2)=false:=by simpa using c2
   have b3:(x.kind == 3)=false:=by simpa using c3
   have b4:(x.kind == 4)=false:=by simpa using c4
   have F:=Hid.mk (FIN.out x.kind 0 [] 0 0 (.cells #[.int .i64 x.kind,.int .i64 0,.string ⟨#[]⟩,.int .i64 0,.int .i64 0] 48) (by simp [Q2b,c1,c2,c3,c4]))
   clear FIN c1 c2 c3 c4
   go_wp2
   exact ⟨⟨k + 1,zs,by go_num,by omega,Hid.mk F.out.2,hzs',Hid.mk F.out.1⟩,by simp [intOf];omega⟩
  ·have hkk:k=l.length:=by omega
   subst hkk
   have hge0:¬ ((l.length:Int) < (l.length:Int)):=by omega
   have R:Hid (Q5u wr (.slice (some ⟨w.heap.size,0,none⟩) l.length l.length) (l.map Q2b)):=by
    refine ⟨some ⟨w.heap.size,0,none⟩,l.length,by simp,by simp,fun k x hx=>⟨w.heap.size,rfl,?_⟩⟩
    have hc:=HC.out
    have hy:ys=[]:=List.length_eq_zero_iff.1 (by rw [HS.out];simp)
    rw [hy,List.append_nil] at hc
    have hkl:k < l.length:=by
     rcases Nat.lt_or_ge k l.length with h | h
     ·exact h
     ·rw [List.getElem?_eq_none (by simpa using h)] at hx;cases hx
    rw [List.getElem?_map,List.getElem?_eq_getElem hkl] at hx
    simp only [Option.map_some,Option.some.injEq] at hx
    subst hx
    have e:Q4u l l.length=Q4u l k++(Q24 (Q2b l[k])++((l.drop (k + 1)).map Q2b).flatMap Q24):=by
     have hd:l.take k++l[k] :: l.drop (k + 1)=l:=by rw [← List.drop_eq_getElem_cons hkl,List.take_append_drop]
     have h2:(l.map Q2b).flatMap Q24=((l.take k++l[k] :: l.drop (k + 1)).map Q2b).flatMap Q24:=by rw [hd]
     unfold Q4u
     rw [List.take_length,h2,List.map_append,List.flatMap_append,List.map_cons,List.flatMap_cons]
    rw [e] at hc
    obtain ⟨q0,q1,q2,q3,q4,_,_⟩:=QbU hc (Q8R l (Nat.le_of_lt hkl)).symm
    exact ⟨q0,q1,q2,q3,q4⟩
   clear HC HS
   go_wp2
   go_ret
   exact ⟨_,rfl,HK.out,R.out⟩
theorem Qjl (v:List QB) (dep fuel size:Nat):WInv (encW v dep fuel size) fun e=>e.out.length % 4=0 where
 enter k e e' he h:=by
  simp only [encW] at h
  split at h
  ·cases h
  ·cases h;exact he
 num n e e' he h:=by
  obtain ⟨p,e1,h⟩:=Qh h
  obtain ⟨_,_,_,_,hp⟩:=Q3B e1
  obtain ⟨e2,h2,h3⟩:=Qh h
  obtain ⟨rfl,_⟩:=Q1T h3
  split at h2
  ·obtain ⟨rfl,_⟩:=Q1T h2
   simp only [List.length_append,Q1d,hp]
   omega
  ·cases h2
   simp only [List.length_append,Q1d,hp]
   omega
 text n f e e' he h:=by
  obtain ⟨p,e1,h⟩:=Qh h
  obtain ⟨_,_,_,_,hp⟩:=Q3B e1
  obtain ⟨e2,h2,h3⟩:=Qh h
  obtain ⟨rfl,_⟩:=Q7T h3
  have h4:(padB p.1.s).length % 4=0:=by
   have h3:(padB p.1.s).length=Q0i p.1.s.length:=by unfold padB Q0i;simp;omega
   rw [h3]
   unfold Q0i
   omega
  split at h2
  ·cases h2
   simp only [List.length_append,hp]
   omega
  ·obtain ⟨rfl,_⟩:=Q1T h2
   simp only [List.length_append,Q1d,hp]
   omega
 list n f e p' he h:=by
  obtain ⟨p,e1,h⟩:=Qh h
  obtain ⟨_,_,_,_,hp⟩:=Q3B e1
  obtain ⟨e2,h2,h3⟩:=Qh h
  cases h3
  split at h2
  ·cases h2
   simp only [hp]
   exact he
  ·obtain ⟨rfl,_⟩:=Q1T h2
   simp only [List.length_append,Q1d,hp]
   omega
 arm n w e p' he h:=by
  obtain ⟨p,e1,h⟩:=Qh h
  obtain ⟨_,_,_,_,hp⟩:=Q3B e1
  obtain ⟨e2,h2,h3⟩:=Qh h
  cases h3
  obtain ⟨rfl,_⟩:=Q1T h2
  simp only [List.length_append,Q1d,hp]
  omega
theorem Qfn {E:Env} {n b:List UInt8} {v:List QB} {dep fuel size:Nat} (h:Q5r E n v dep fuel size = .ok b):b.length % 4=0∧b.length≤size:=by
 obtain ⟨e,h1,h2⟩:=Qh h
 split at h2
 ·cases h2
 cases h2
 exact ⟨Q7Q (Qjl v dep fuel size) 64 0 n ⟨0,[]⟩ _ rfl h1,Q7Q (QbG v dep fuel size) 64 0 n ⟨0,[]⟩ _ (Nat.zero_le _) h1⟩
theorem Qeg:Q4R.all (fun n=>!okB (Q0z (Q0M Q0e) n [] 64 10000 100000))=true:=by kernel_rfl
theorem QbV (c:Int) {b:List UInt8} {u:List Q0j} (h:Q0z (Q0M Q0e) (Q1G c) b 64 10000 100000 = .ok u):b≠[]:=by
 intro hb
 subst hb
 have:=List.all_eq_true.1 Qeg _ (QbO c)
 rw [h] at this
 cases this
theorem QlC (x:QB):Q0f false (Q2b x)=((Q3A x).1,(Q3A x).2.1,(Q3A x).2.2.1,(Q3A x).2.2.2,(0:Int)):=by
 unfold Q2b Q3A
 split
 ·rfl
 ·split
  ·rfl
  ·split
   ·rfl
   ·split<;>rfl
theorem Qjm {u:List Q0j} {l:List QB} (h:u.map keyL=l.map Q3A):(u.map toG).map (Q0f false)=(l.map Q2b).map (Q0f false):=by
 have e1:(u.map toG).map (Q0f false)=(u.map keyL).map fun p=>(p.1,p.2.1,p.2.2.1,p.2.2.2,(0:Int)):=by
  rw [List.map_map,List.map_map]
  rfl
 have e2:(l.map Q2b).map (Q0f false)=(l.map Q3A).map fun p=>(p.1,p.2.1,p.2.2.1,p.2.2.2,(0:Int)):=by
  rw [List.map_map,List.map_map]
  refine List.map_congr_left fun x _=>QlC x
 rw [e1,e2,h]
theorem QlD {w:World} (hg:Gl w) (c:Int) (h1:-9223372036854775808≤c) (h2:c≤9223372036854775807) {nsl:Value} {l:List QB} (hn:Q23 w nsl l) :
  Calls Tryz.prog 4 #[.int .i64 c,nsl] w fun e w'=>e = .returned (.bool true)∧Qb [] w w':=by
 have VS:=Hid.mk (Q6I hg)
 have VK:=Hid.mk (Q5M c h1 h2)
 have VW:=Hid.mk Q6J
 have hn1:=neqF
 have hn2:=Q44
 have hn3:=eqlF
 have hn4:=Q6M
 obtain ⟨ad,cap,rfl,hlc,hcm,_⟩:=id hn
 have hlm:(l.length:Int)≤9223372036854775807:=by unfold maxLen at hcm;omega
 have HN:=Hid.mk hn
 clear hg h1 h2 hn
 by_cases lb:l.length≤400
 ·have VD:=Hid.mk (fun (w:World) (bs:List (Nat×Obj)) (B:Nat) (hS:Q1N bs B Q0e) (hw:∀ p∈bs,w.heap[p.1]? = some p.2) (b:List UInt8) (hb:b.length≤maxLen)=>Q4o hS hw c b hb)
  have VE:=Hid.mk (fun (w:World) (bs:List (Nat×Obj)) (B:Nat) (hS:Q1N bs B Q0e) (hw:∀ p∈bs,w.heap[p.1]? = some p.2) (nsl:Value) (v:List QB) (hn:Q23 w nsl v)=>Q9z hS hw c hn)
  have KS:=Hid.mk (fun b u=>QbV c (b:=b) (u:=u))
  generalize Q1G c=nm at VK VD VE KS
  go_enter Tryz.func4,Tryz.ntmps4
  go_wp2_with fail
  refine VS.out.mono ?_
  rintro e w1 ⟨B,bs,rfl,hk,hS,hh,hB⟩
  have HK1:=Hid.mk hk
  have HS:=Hid.mk hS
  have HH:=Hid.mk hh
  clear hk hS hh hB VS
  go_wp2_with fail
  refine (VK.out _).mono ?_
  rintro e w2 ⟨rfl,hb2⟩
  have HK2:=Hid.mk (HK1.out.trans (Qb.of_below [] hb2))
  have HH2:=Hid.mk (QX HH.out (Qb.of_below [] hb2))
  clear hb2 VK HK1 HH
  go_wp2_with fail
  refine (VW.out _).mono ?_
  rintro e w3 ⟨rfl,hb3⟩
  have HK3:=Hid.mk (HK2.out.trans (Qb.of_below [] hb3))
  have HH3:=Hid.mk (QX HH2.out (Qb.of_below [] hb3))
  clear hb3 VW HK2 HH2
  have VE:=Hid.mk (fun o=>VE.out (w3.alloc o) bs B HS.out (QX HH3.out ((Qb.refl [] _).alloc _)) _ _ (HN.out.keeps (HK3.out.alloc _)))
  go_wp2_with fail
  refine (VE.out _).mono ?_
  rintro e w4 ⟨b,er,rfl,hk4,hu⟩
  have HK4:=Hid.mk ((HK3.out.alloc _).trans hk4)
  have HH4:=Hid.mk (QX (QX HH3.out ((Qb.refl [] _).alloc _)) hk4)
  obtain ⟨l0,l1,l2,_,_⟩:=Q2f ((hk4.block w3.heap.size (by simp) (by simp)).trans (Qg rfl))
  clear hk4 HK3 HH3 VE
  rcases hu with ⟨e1,rfl⟩ | ⟨f,g,e1,rfl,rfl⟩
  ·obtain ⟨v,hd,hkey⟩:=Qco Q81 e1
   obtain ⟨h4,hsz⟩:=Qfn e1
   have hne:=KS.out _ _ hd
   have hbn:0 < b.length:=List.length_pos_iff.2 hne
   have hb0:(0:Int) < b.length:=by omega
   have hb4:(b.length:Int) % 4=0:=by omega
   have VD:=Hid.mk (VD.out _ bs B HS.out HH4.out b (Nat.le_trans hsz (by decide)))
   have KEY:=Hid.mk (Qjm hkey)
   clear e1 hkey h4 hne KS HH4 HS
   go_wp2_with fail
   refine VD.out.mono ?_
   rintro e w5 ⟨u,es,rfl,hk5,hv⟩
   rcases hv with ⟨ns,m1,m2,m3,rfl,m5⟩ | ⟨f',g',m1,_,_,_⟩
   rotate_left
   ·rw [hd] at m1;cases m1
   obtain rfl:v=ns:=by rw [hd] at m1;cases m1;rfl
   have HK5:=Hid.mk (HK4.out.trans hk5)
   have VSd:=Hid.mk (QlB (HN.out.keeps HK5.out) lb)
   obtain ⟨au,cu,rfl⟩:=Q1F m5
   have M5:=Hid.mk m5
   clear hd m1 m5 hk5 HK4 VD l0 l1 l2
   go_wp2_with fail
   refine VSd.out.mono ?_
   rintro e w6 ⟨pv,rfl,hk6,hpv⟩
   have HK6:=Hid.mk (HK5.out.trans hk6)
   have VM:=Qa4 false (Q6L (Qt M5.out hk6 (by simp))) hpv (by simpa using m3)
   rw [decide_eq_true KEY.out] at VM
   have VM:=Hid.mk VM
   clear hk6 hpv VSd M5 KEY HK5
   go_wp2_with fail
   refine VM.out.mono ?_
   rintro e w7 ⟨rfl,_,hb7⟩
   have HK7:=Hid.mk (HK6.out.trans (Qb.of_below [] hb7))
   clear hb7 VM HK6
   go_wp2
   go_ret
   exact ⟨rfl,HK7.out⟩
  ·clear e1 l0 l1 l2 VD KS
   go_wp2
   go_ret
   exact ⟨rfl,HK4.out⟩
 ·have lb':(400:Int) < l.length:=by omega
  go_enter Tryz.func4,Tryz.ntmps4
  go_wp2_with fail
  refine VS.out.mono ?_
  rintro e w1 ⟨B,bs,rfl,hk,hS,hh,hB⟩
  have HK1:=Hid.mk hk
  clear hk hS hh hB VS VK VW
  go_wp2
  go_ret
  exact ⟨rfl,HK1.out⟩
end Go.Proofs.YtmbcibgknckenaaGreatDoor
namespace Go.Proofs.YtmbcibgknckenaaGreatDoor
open Go.RowKit Go.Extern.Stop Go.Stop Go.Extern
abbrev hdl (t:Nat):Value:=.pointer (some ⟨8,t,none⟩)
abbrev rlV (t:Nat) (a:Addr) (fl:Int):Value:=.agg #[hdl t,.pointer (some a),.int .u64 fl]
abbrev rlO (t:Nat) (a:Addr) (fl:Int):Obj:=.cells #[hdl t,.pointer (some a),.int .u64 fl] 148
abbrev rlT (t:Nat):Value:=.iface 240 (.agg #[hdl t])
theorem Qfq (t:Addr) (w:World):(ReflectliteValue.unpack (.iface 81 (.pointer (some t)))).run Tryz.prog w = .ok (rlV 81 ⟨w.heap.size,0,none⟩ 150) (w.alloc (.cells #[.pointer (some t)] 81)):=by kernel_rfl
theorem QlG (a : Addr) (w : World) : (ReflectliteValue.methodAny (ReflectliteValue.valueError "reflectlite.Value.Type" 0) (fun t _ _ _ => ReflectliteType.toType t) #[rlV 81 a 150]).run Tryz.prog w = .ok (rlT 81) w := by kernel_rfl
theorem QlH (k : Nat) (h : Value) (w : World) : (Go.method (k + 3) 240 (.agg #[h]) "Kind").run Tryz.prog w = .ok (231, h) w := by kernel_rfl
theorem QlI (k : Nat) (h : Value) (w : World) : (Go.method (k + 3) 240 (.agg #[h]) "Elem").run Tryz.prog w = .ok (280, .agg #[h]) w := by kernel_rfl
theorem QlJ (k : Nat) (h : Value) (w : World) : (Go.method (k + 3) 240 (.agg #[h]) "Implements").run Tryz.prog w = .ok (281, .agg #[h]) w := by kernel_rfl
theorem QhA (k : Nat) (h : Value) (w : World) : (Go.method (k + 3) 240 (.agg #[h]) "AssignableTo").run Tryz.prog w = .ok (278, .agg #[h]) w := by kernel_rfl
theorem QlK (w:World):((ReflectliteType.abiMethod fun t=>(fun a:Nat=>Value.int IntKind.u8 (a:Int)) <$> Rtype.kind t) #[hdl 81]).run Tryz.prog w = .ok (.int .u8 22) w:=by kernel_rfl
theorem QlL (w:World):((ReflectliteType.abiMethod fun t=>(fun a:Nat=>Value.int IntKind.u8 (a:Int)) <$> Rtype.kind t) #[hdl 79]).run Tryz.prog w = .ok (.int .u8 22) w:=by kernel_rfl
theorem QbW (a:Addr) (w:World):(ReflectliteValue.parts (rlV 81 a 150)).run Tryz.prog w = .ok (some (81,a,150)) w:=by kernel_rfl
theorem QlM (a p:Addr) (W:World) (ha:W.cell? a=some (.pointer (some p))) :
  (ReflectliteValue.method (ReflectliteValue.valueError "reflectlite.Value.IsNil" 0) ReflectliteValue.isNil #[rlV 81 a 150]).run Tryz.prog W = .ok (.bool false) W := by
 change Sem.run Tryz.prog (ReflectliteValue.parts (rlV 81 a 150) >>= _) W=_
 simp only [Sem.run_bind,QbW,Result.andThen]
 simp [ReflectliteValue.isNil,loadVar,isAgg,underlying,Tryz.underlying81,ha,Result.andThen]
theorem QlN (w:World):(ReflectliteType.method ReflectliteType.elem #[.agg #[hdl 81]]).run Tryz.prog w = .ok (rlT 79) w:=by kernel_rfl
theorem Qn3 (w : World) : (ReflectliteType.relation "Implements" ReflectliteType.implements_ #[.agg #[hdl 79], rlT 24]).run Tryz.prog w = .ok (.bool true) w := by kernel_rfl
theorem Qjo (v:Value) (w:World):(ReflectliteType.typeOf #[.iface 79 v]).run Tryz.prog w = .ok (rlT 79) w:=by kernel_rfl
theorem Qjp (w : World) : (ReflectliteType.relation "AssignableTo" ReflectliteType.assignableTo #[.agg #[hdl 79], rlT 79]).run Tryz.prog w = .ok (.bool true) w := by kernel_rfl
theorem Qfr (e:Addr) (w:World):(ReflectliteValue.unpack (.iface 79 (.pointer (some e)))).run Tryz.prog w = .ok (rlV 79 ⟨w.heap.size,0,none⟩ 150) (w.alloc (.cells #[.pointer (some e)] 79)):=by kernel_rfl
theorem Qjq (w:World):(Rtype.elem? 81).run Tryz.prog w = .ok (some 79) w:=by kernel_rfl
theorem QnB (p:Addr) (w:World):(ReflectliteValue.mk 79 p ReflectliteValue.flagAddr).run Tryz.prog w = .ok (rlV 79 p 406) w:=by kernel_rfl
theorem QlO (a p:Addr) (W:World) (ha:W.cell? a=some (.pointer (some p))) :
  (ReflectliteValue.method (ReflectliteValue.valueError "reflectlite.Value.Elem" 0) ReflectliteValue.elem #[rlV 81 a 150]).run Tryz.prog W = .ok (rlV 79 p 406) W := by
 change Sem.run Tryz.prog (ReflectliteValue.parts (rlV 81 a 150) >>= _) W=_
 simp only [Sem.run_bind,QbW,Result.andThen]
 simp [ReflectliteValue.elem,loadVar,isAgg,underlying,Tryz.underlying81,ha,Result.andThen,Qjq,QnB]
theorem Qjr (a:Addr) (w:World):(ReflectliteValue.parts (rlV 79 a 406)).run Tryz.prog w = .ok (some (79,a,406)) w:=by kernel_rfl
theorem Qjs (a:Addr) (w:World):(ReflectliteValue.parts (rlV 79 a 150)).run Tryz.prog w = .ok (some (79,a,150)) w:=by kernel_rfl
theorem Qjt (w:World):(Rtype.directlyAssignable 79 79).run Tryz.prog w = .ok true w:=by kernel_rfl
theorem Qnr (ta b e:Addr) (old:Value) (W:World) (hb:W.cell? b=some (.pointer (some e))) (ht:W.cell? ta=some old) (hf:W.frozen? ta=false) :
  (ReflectliteValue.set #[rlV 79 ta 406,rlV 79 b 150]).run Tryz.prog W = .ok (.tuple #[]) (W.setCell ta (.pointer (some e))):=by
 change Sem.run Tryz.prog (ReflectliteValue.parts (rlV 79 ta 406) >>= fun _=>ReflectliteValue.parts (rlV 79 b 150) >>= _) W=_
 simp only [Sem.run_bind,Qjr,Qjs,Result.andThen]
 simp [ReflectliteValue.flagAddr,loadVar,isAgg,underlying,Tryz.underlying79,hb,Result.andThen,Qjt,storeVar,Value.cells,storeCells,Addr.add]
 rw [run_store Tryz.prog W ta _ _ (by rfl)]
 simp [ht,hf]
end Go.Proofs.YtmbcibgknckenaaGreatDoor
