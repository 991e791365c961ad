import Derived.Test.YtmbcibgknckenaaGreatDoorT12
import Derived.Test.YtmbcibgknckenaaGreatDoorRows
import Derived.Test.YtmbcibgknckenaaGreatDoorTie
import Derived.Test.YtmbcibgknckenaaGreatDoorCards
import Derived.ProofKit
import Derived.LaidMore
import Derived.OpenShut
import Derived.Stop.Joined
import Derived.LaidHandle
import Derived.SevenTiedAt
import Derived.Shelf.Vars
import Derived.ShutString
import Derived.ChangeOld
set_option linter.all false
set_option maxRecDepth 100000
set_option maxHeartbeats 4000000
namespace Go.Proofs.YtmbcibgknckenaaGreatDoor
open Go.RowKit
open Go.MapKept
theorem Qae {c:List UInt8} (h:c≠[]):c.isEmpty=false:=by simp [h]
section
variable {w0 : World} {lo S b X : Nat} {F0 : List Nat} {says : List UInt8 → List UInt8} {s0 s : SSt} {c0 c : List UInt8}
theorem QcS (h:c=[]∨s.closed=true):QE s c=(s,[]):=by
 rcases h with rfl | h
 ·rfl
 ·exact QgH c s h
theorem QfI (hi:SInv s) (hc:s.closed=false) (hne:c≠[]):QE s c=((QE (finS (Q0f s c).2).1 (c.drop (Q0f s c).1)).1,(finS (Q0f s c).2).2++(QE (finS (Q0f s c).2).1 (c.drop (Q0f s c).1)).2):=by
 obtain ⟨_,_,h,_⟩:=Q7o hi hc hne
 have:=Q9i (c.take (Q0f s c).1) (c.drop (Q0f s c).1) s
 rw [List.take_append_drop,h] at this
 exact this
end
theorem QiT {w0 u:World} {lo S b X:Nat} {F0:List Nat} {says:List UInt8→List UInt8} (hT:Qhz w0 S b X F0 says) (hsl:∀ r,(says r).length≤200000) {s0:SSt} {c0:List UInt8} (hc0:c0.length≤1000000) (h:Qbx w0 lo S b F0 says s0 c0 c0 u) :
  Calls Tryz.prog 40 #[.pointer (some ⟨S,0,none⟩),.string ⟨c0.toArray⟩,.func (.func 41) #[] #[.pointer (some ⟨X,0,none⟩),.pointer (some ⟨b,0,none⟩)]] u fun e u'=>e = .returned (.tuple #[])∧∃ hv rv v,Q3S w0 lo S b F0 (QE s0 c0).1 ((QE s0 c0).2.flatMap says) hv rv v u'∧SInv (QE s0 c0).1:=by
 have HT:=Hid.mk hT
 have HSL:=Hid.mk hsl
 have H0:=Hid.mk h
 clear hT hsl h
 go_enter Tryz.func40,Tryz.ntmps40
 go_wp2_with fail
 go_loopw [1] (fun ch ur=>∃ c:List UInt8,ch = .string ⟨c.toArray⟩∧c.length≤c0.length∧Hid (Qbx w0 lo S b F0 says s0 c0 c ur)) (fun ch _=>QcR ch)
 case atStart=>exact ⟨c0,rfl,Nat.le_refl _,H0⟩
 case round=>
  obtain ⟨c,rfl,hlc,HR⟩:=hrel
  clear H0
  obtain ⟨s,out,hv,rv,v,hF,hi,h1,h2,h3⟩:=HR.out
  clear HR
  obtain ⟨d0,d1,d2,d3,d4,d5,hfz,hlt⟩:=hF.st.cells
  have HF:=Hid.mk hF
  have HI:=Hid.mk hi
  have H1:=Hid.mk h1
  have H2:=Hid.mk h2
  clear hF hi h1 h2
  by_cases hne:c=[]
  ·subst hne
   have E:=Hid.mk (QcS (s:=s) (c:=[]) (Or.inl rfl))
   go_wp2
   go_end0
   have e1:=H1.out
   have e2:=H2.out
   rw [E.out] at e1 e2
   simp only [List.flatMap_nil,List.append_nil] at e1 e2
   rw [← e1,← e2]
   exact ⟨rfl,hv,rv,v,HF.out,HI.out⟩
  ·have hb0:=Qae hne
   cases hcl:s.closed with
   | true=>
    rw [hcl] at d5
    have E:=Hid.mk (QcS (s:=s) (c:=c) (Or.inr hcl))
    clear hcl
    go_wp2
    go_end0
    have e1:=H1.out
    have e2:=H2.out
    rw [E.out] at e1 e2
    simp only [List.flatMap_nil,List.append_nil] at e1 e2
    rw [← e1,← e2]
    exact ⟨rfl,hv,rv,v,HF.out,HI.out⟩
   | false=>
    rw [hcl] at d5
    obtain ⟨p1,p2,p3,p4⟩:=Q7o HI.out hcl hne
    have E:=Hid.mk (QfI HI.out hcl hne)
    have VP:=Hid.mk (Qhy HF.out.st HI.out c hne (by omega) hcl)
    have P4:=Hid.mk p4
    have hp1:(0:Int)≤((Q0f s c).1:Int):=by omega
    have hp2:((Q0f s c).1:Int)≤(c.length:Int):=by omega
    clear hcl p3 p4
    generalize hpn:(Q0f s c).1=pn at p1 p2 hp1 hp2 E VP
    generalize hps:(Q0f s c).2=ps at E VP P4
    have HF2:=Hid.mk (fun u' (hg:Q3R lo S ps (foot hv rv) _ u')=>HF.out.piece hg)
    clear hpn hps d0 d1 d2 d3 d4 HF
    go_wp2_with fail
    refine VP.out.mono ?_
    rintro e w1 ⟨rfl,hg⟩
    obtain ⟨hv1,rv1,hF1⟩:=HF2.out w1 hg
    obtain ⟨d0,d1,d2,d3,d4,d5,hfz,hlt⟩:=hF1.st.cells
    have HF1:=Hid.mk hF1
    have hdrop:=Q7z c pn
    have hdl:(c.drop pn).length=c.length - pn:=List.length_drop
    clear hg hF1 VP HF2 d5
    by_cases he:ps.ending=true∧ps.left=0
    ·have EF:Hid (finS ps=({ ps with record:=[],ending:=false },[ps.record])):=by show _=_;unfold finS;rw [if_pos he]
     have VF:=Hid.mk (Qhv HF1.out.st)
     rw [he.1] at d3
     rw [he.2] at d2
     have hrl:ps.record.length≤100000:=by have:=HF1.out.st.few;omega
     have VT:=Hid.mk (fun u' (h:Qb (S :: F0) w0 u') (hb:BdAt w0.heap.size b out v u')=>HT.out u' out ps.record v hb h hrl (by omega))
     clear he
     go_wp2_with fail
     refine VF.out.mono ?_
     rintro e w2 ⟨rfl,hg⟩
     obtain ⟨hv2,rv2,hF2⟩:=HF1.out.piece hg
     have VT2:=Hid.mk (VT.out w2 hF2.kp hF2.bd)
     have HF2:=Hid.mk hF2
     clear hg hF2 VF VT d0 d1 d2 d3 d4 HF1
     go_wp2_with fail
     refine VT2.out.mono ?_
     rintro e w3 ⟨rfl,v3,hb3,hk3,hf3⟩
     have HF3:=Hid.mk (HF2.out.tell hb3 hk3 hf3)
     have hsl:=HSL.out ps.record
     clear hb3 hk3 hf3 VT2 HF2
     go_wp2
     refine ⟨⟨c.drop pn,rfl,by omega,?_⟩,?_⟩
     ·have e1:=E.out
      rw [EF.out] at e1
      have p4:=P4.out
      rw [EF.out] at p4
      refine ⟨_,_,_,_,_,HF3.out,p4,?_,?_,?_⟩
      ·rw [← H1.out,e1]
      ·rw [← H2.out,e1]
       simp [List.append_assoc]
      ·rw [List.length_append]
       omega
     ·show (c.drop pn).toArray.size < c.toArray.size
      simp
      omega
    ·have EF:Hid (finS ps=(ps,[])):=Q7n he
     have hend:Hid ((∃ d:List UInt8,Value.string ⟨(c.drop pn).toArray⟩ = .string ⟨d.toArray⟩∧d.length≤c0.length∧Hid (Qbx w0 lo S b F0 says s0 c0 d w1))∧QcR (.string ⟨(c.drop pn).toArray⟩) < QcR (.string ⟨c.toArray⟩)):=by
      refine ⟨⟨c.drop pn,rfl,by omega,?_⟩,?_⟩
      ·have e1:=E.out
       rw [EF.out] at e1
       have p4:=P4.out
       rw [EF.out] at p4
       refine ⟨_,_,_,_,_,HF1.out,p4,?_,?_,?_⟩
       ·rw [← H1.out,e1]
       ·rw [← H2.out,e1]
        simp
       ·omega
      ·show (c.drop pn).toArray.size < c.toArray.size
       simp
       omega
     cases hpe:ps.ending with
     | false=>
      rw [hpe] at d3
      clear hpe he
      go_wp2
      exact hend.out
     | true=>
      have hz:((ps.left:Int) == 0)=false:=by
       simp only [hpe,true_and] at he
       simp
       omega
      rw [hpe] at d3
      clear hpe he
      go_wp2
      exact hend.out
theorem QhA {C:Nat} {b:List UInt8} {p:Nat} {u:World} (h:Q1T C b p u) :
  Calls Tryz.prog 80 #[.pointer (some ⟨C,0,none⟩)] u (Q2Q C b u (Q4U b ⟨p,[]⟩) fun r=>.agg #[.int .u32 r.1,.int .u32 r.2.1,.int .u32 r.2.2]):=by
 have hCl:=Qc h.box
 have k0:∀ o,Qb [C] u (u.alloc o):=fun o=>(Qb.refl [C] u).alloc o
 have VT:=Hid.mk (fun o=>Q3Q (h.keep ((Qb.refl [] u).alloc o) (by simp)))
 have K0:=Hid.mk k0
 have r0:(u.alloc (.cells #[.int .u32 0,.int .u32 0,.int .u32 0] 163)).heap[u.heap.size]? = some (.cells #[.int .u32 0,.int .u32 0,.int .u32 0] 163):=Qg rfl
 have R0:=Hid.mk r0
 clear h k0 r0
 go_enter Tryz.func80,Tryz.ntmps80
 go_wp2_with fail
 refine (VT.out _).mono ?_
 rintro e w1 (⟨a,d1,hx,hn1,rfl,M1,hk1⟩ | ⟨f,hx,hk,g,hg,rfl,hc⟩)
 rotate_left
 ·exact Qa (Or.inr ⟨f,Q4p hx _,(K0.out _).trans hk,g,Nat.le_trans (K0.out _).size hg,rfl,hc⟩)
 obtain ⟨q1,n1⟩:=d1
 simp only at hn1 M1
 subst hn1
 have VW:=Hid.mk (Q3Q M1)
 have E1:=Hid.mk hx
 have K1:=Hid.mk ((K0.out _).trans hk1)
 have R1:=Hid.mk ((hk1.block _ (Qc R0.out) (by simp;omega)).trans R0.out)
 clear hx VT hk1 M1 K0 R0
 go_wp2_with fail
 refine VW.out.mono ?_
 rintro e w2 (⟨a2,d2,hx,hn2,rfl,M2,hk2⟩ | ⟨f,hx,hk,g,hg,rfl,hc⟩)
 rotate_left
 ·exact Qa (Or.inr ⟨f,(Q0L E1.out _).trans (Q4p hx _),K1.out.trans hk,g,Nat.le_trans K1.out.size hg,rfl,hc⟩)
 obtain ⟨q2,n2⟩:=d2
 simp only at hn2 M2
 subst hn2
 have VW:=Hid.mk (Q3Q M2)
 have E2:=Hid.mk hx
 have K2:=Hid.mk (K1.out.trans hk2)
 have R2:=Hid.mk ((hk2.block _ (Qc R1.out) (by simp;omega)).trans R1.out)
 clear hx hk2 M2 K1 R1
 go_wp2_with fail
 refine VW.out.mono ?_
 rintro e w3 (⟨a3,d3,hx,hn3,rfl,M3,hk3⟩ | ⟨f,hx,hk,g,hg,rfl,hc⟩)
 rotate_left
 ·exact Qa (Or.inr ⟨f,(Q0L E1.out _).trans ((Q0L E2.out _).trans (Q4p hx _)),K2.out.trans hk,g,Nat.le_trans K2.out.size hg,rfl,hc⟩)
 obtain ⟨q3,n3⟩:=d3
 simp only at hn3 M3
 subst hn3
 have hC3:=Qc M3.box
 have VS:=Hid.mk (Q8S (M3.keep ((Qb.refl [] w3).alloc (.cells #[.int .u32 a,.int .u32 a2,.int .u32 a3] 163)) (by simp)))
 have E3:=Hid.mk hx
 have K3:=Hid.mk (K2.out.trans hk3)
 have R3:=Hid.mk ((((Qb.refl [] w3).alloc (.cells #[.int .u32 a,.int .u32 a2,.int .u32 a3] 163)).block _ (Qc ((hk3.block _ (Qc R2.out) (by simp;omega)).trans R2.out)) (by simp)).trans ((hk3.block _ (Qc R2.out) (by simp;omega)).trans R2.out))
 have B3:Hid ((w3.alloc (.cells #[.int .u32 a,.int .u32 a2,.int .u32 a3] 163)).heap[w3.heap.size]? = some (.cells #[.int .u32 a,.int .u32 a2,.int .u32 a3] 163)):=Qg rfl
 have hus:u.heap.size < w3.heap.size:=Qc ((hk3.block _ (Qc R2.out) (by simp;omega)).trans R2.out)
 have K3a:=Hid.mk (K3.out.alloc (.cells #[.int .u32 a,.int .u32 a2,.int .u32 a3] 163))
 clear hx hk3 M3 K2 R2 VW K3
 go_wp2_with fail
 refine VS.out.mono ?_
 rintro e w4 (⟨_,d4,hx,hn4,rfl,M4,hk4⟩ | ⟨f,hx,hk,g,hg,rfl,hc⟩)
 rotate_left
 ·exact Qa (Or.inr ⟨f,(Q0L E1.out _).trans ((Q0L E2.out _).trans ((Q0L E3.out _).trans (Q4p hx _))),K3a.out.trans hk,g,Nat.le_trans K3a.out.size hg,rfl,hc⟩)
 obtain ⟨q4,n4⟩:=d4
 simp only at hn4 M4
 subst hn4
 have VS2:=Hid.mk (Q8S M4)
 have E4:=Hid.mk hx
 have K4:=Hid.mk (K3a.out.trans hk4)
 have R4:=Hid.mk ((hk4.block _ (Qc R3.out) (by simp;omega)).trans R3.out)
 have B4:=Hid.mk ((hk4.block _ (Qc B3.out) (by simp;omega)).trans B3.out)
 clear hx hk4 M4 K3a R3 B3 VS
 go_wp2_with fail
 refine VS2.out.mono ?_
 rintro e w5 (⟨_,d5,hx,hn5,rfl,M5,hk5⟩ | ⟨f,hx,hk,g,hg,rfl,hc⟩)
 rotate_left
 ·exact Qa (Or.inr ⟨f,(Q0L E1.out _).trans ((Q0L E2.out _).trans ((Q0L E3.out _).trans ((Q0L E4.out _).trans (Q4p hx _)))),K4.out.trans hk,g,Nat.le_trans K4.out.size hg,rfl,hc⟩)
 have E5:Hid (Q4U b ⟨p,[]⟩ = .ok ((a,a2,a3),d5)):=(Q0L E1.out _).trans ((Q0L E2.out _).trans ((Q0L E3.out _).trans ((Q0L E4.out _).trans (Q0L hx _))))
 have K5:=Hid.mk (K4.out.trans hk5)
 have r5:=(hk5.block _ (Qc R4.out) (by simp;omega)).trans R4.out
 have b5:=(hk5.block _ (Qc B4.out) (by simp;omega)).trans B4.out
 obtain ⟨x0,x1,x2,xf,xl⟩:=Q0y b5
 obtain ⟨y0,y1,y2,yf,yl⟩:=Q0y r5
 have R5:=Hid.mk r5
 have N5:=Hid.mk hn5
 have MM5:=Hid.mk M5
 clear hx hk5 M5 K4 R4 B4 VS2 r5 b5 hn5 E1 E2 E3 E4
 go_wp2
 have zz:=Q4W (x:=.int .u32 a) (y:=.int .u32 a2) (z:=.int .u32 a3) R5.out
 obtain ⟨z0,z1,z2,zf,zl⟩:=Q0y zz
 refine bodyPost_ret (v:=.agg #[.int .u32 a,.int .u32 a2,.int .u32 a3]) (by simp [results,Tryz.results80,go_sem,z0,z1,z2]) rfl ?_
 refine Or.inl ⟨(a,a2,a3),d5,E5.out,N5.out,rfl,MM5.out.keep (Q6w _ _ _) (by simp;omega),?_⟩
 exact ((K5.out.setNew (p:=⟨u.heap.size,0,none⟩) (by simp) _).setNew (p:=⟨u.heap.size,1,none⟩) (by simp) _).setNew (p:=⟨u.heap.size,2,none⟩) (by simp) _
theorem QfJ {W:World} {m:Nat} {l:List (Int×PrgB)} (hb:W.heap[m]? = some (Q3f l)) (nd:(l.map (·.1)).Nodup) (k:Int) :
  (Instr.lookup 65 (.map (some m)) (.int .u32 k) true).run Tryz.prog W = .ok (match Qy l k with
   | some q=>.tuple #[.agg #[.int .u32 q.lo,.int .u32 q.hi,.map (some q.m)],.bool true]
   | none=>.tuple #[.agg #[.int .u32 0,.int .u32 0,.map none],.bool false]) W:=by
 have hh:=Q2H (P:=Tryz.prog) (T:=65) (kt:=161) (et:=216) (d:=.int .u32) (by kernel_rfl) (by kernel_rfl) (fun k:Int=>.int .u32 k) (fun q:PrgB=>.agg #[.int .u32 q.lo,.int .u32 q.hi,.map (some q.m)]) (fun _=>rfl) Q5L hb nd (z:=.agg #[.int .u32 0,.int .u32 0,.map none]) (by kernel_rfl) k true
 cases hm:Qy l k with
 | none=>rw [hm] at hh;exact hh
 | some v=>rw [hm] at hh;exact hh
theorem QhB {W:World} {m:Nat} {l:List (Int×Nat×List (Int×Nat×Nat))} (hb:W.heap[m]? = some (Q2O l)) (nd:(l.map (·.1)).Nodup) (k:Int) :
  (Instr.lookup 214 (.map (some m)) (.int .u32 k) true).run Tryz.prog W = .ok (match Qy l k with
   | some q=>.tuple #[.map (some q.1),.bool true]
   | none=>.tuple #[.map none,.bool false]) W:=by
 have hh:=Q2H (P:=Tryz.prog) (T:=214) (kt:=161) (et:=260) (d:=.int .u32) (by kernel_rfl) (by kernel_rfl) (fun k:Int=>.int .u32 k) (fun q:Nat×List (Int×Nat×Nat)=>.map (some q.1)) (fun _=>rfl) Q5L hb nd (z:=.map none) (by kernel_rfl) k true
 cases hm:Qy l k with
 | none=>rw [hm] at hh;exact hh
 | some v=>rw [hm] at hh;exact hh
theorem QfK {W:World} {m:Nat} {l:List (Int×Nat×Nat)} (hb:W.heap[m]? = some (Q1F l)) (nd:(l.map (·.1)).Nodup) (k:Int) :
  (Instr.lookup 260 (.map (some m)) (.int .u32 k) true).run Tryz.prog W = .ok (match Qy l k with
   | some q=>.tuple #[.agg #[.int .i64 q.1,.int .i64 q.2],.bool true]
   | none=>.tuple #[.agg #[.int .i64 0,.int .i64 0],.bool false]) W:=by
 have hh:=Q2H (P:=Tryz.prog) (T:=260) (kt:=161) (et:=263) (d:=.int .u32) (by kernel_rfl) (by kernel_rfl) (fun k:Int=>.int .u32 k) (fun q:Nat×Nat=>.agg #[.int .i64 q.1,.int .i64 q.2]) (fun _=>rfl) Q5L hb nd (z:=.agg #[.int .i64 0,.int .i64 0]) (by kernel_rfl) k true
 cases hm:Qy l k with
 | none=>rw [hm] at hh;exact hh
 | some v=>rw [hm] at hh;exact hh
theorem QiU {w:World} {bs:List (Nat×Obj)} {D:Nat} {v:Value} {S P dep fuel size K n:Nat} {ds:List DefL} (hD:Q78 bs D v S P dep fuel size K n ds) (hw:∀ p∈bs,w.heap[p.1]? = some p.2) (hg:∀ x∈(Q09 ds).1,Q1w x) {p q:Nat} (hend:Q77 ds dep fuel size p) (rest:List UInt8) (hrl:rest.length≤100000) {A B C E k:Nat} {x:Value}
  (hA:w.heap[A]? = some (.cells #[.pointer (some ⟨D,0,none⟩)] 94)) (hB:w.heap[B]? = some (.cells #[.int .i64 p,.int .i64 q] 263)) (hC:w.heap[C]? = some (.cells #[.string ⟨rest.toArray⟩] 9)) (hE:w.heap[E]? = some (.cells #[x] 29)) (hk:w.heap[k]? = some (.cells #[.bool false] 4)) :
  Calls Tryz.prog 112 #[.pointer (some ⟨A,0,none⟩),.pointer (some ⟨B,0,none⟩),.pointer (some ⟨C,0,none⟩),.pointer (some ⟨E,0,none⟩)] w
   (Qbw k (fun u=>∃ arg nv,Qf4 ds p rest dep fuel size = .ok arg∧Qb [E] w u∧u.heap[E]? = some (.cells #[nv] 29)∧∀ y,Q2P (u.setCell ⟨k,0,none⟩ y) nv (arg.map toG)) (fun u=>(∃ f,Qf4 ds p rest dep fuel size = .error f)∧Qb [E] w u)):=by
 obtain ⟨va,vb,vc,rfl⟩:=hD.unit.code.slice
 obtain ⟨x0,x1,x2,x3,x4,x5,x6,xf,xl⟩:=Q4Y (hw _ hD.desk)
 have a0:=Qv hA
 obtain ⟨b0,b1⟩:w.cell? ⟨B,0,none⟩=some (.int .i64 p)∧w.cell? ⟨B,1,none⟩=some (.int .i64 q):=⟨Q1x hB rfl,Q1x hB rfl⟩
 have c0:=Qv hC
 have e0:=Qv hE
 have ef:∀ i,w.frozen? ⟨E,i,none⟩=false:=by intro i;simp [World.frozen?,hE]
 have hEk:k≠E:=by intro e;rw [e,hE] at hk;cases hk
 obtain ⟨N,hN⟩:=hend.dec rest
 have VV:=Hid.mk (QjL (w:=w.drew) hD.unit.code (Q0q hw ((Qb.refl [] w).drew)) hg hD.lims.2.1 hD.lims.2.2.1 hD.lims.1 (by unfold maxLen;omega) hN)
 have HD:=Hid.mk (hw _ hD.desk)
 have HA:=Hid.mk hA
 have HB:=Hid.mk hB
 have HC:=Hid.mk hC
 have HE:=Hid.mk hE
 have HK:=Hid.mk hk
 clear hD hw hg hend hA hB hC hE hk hN
 go_enter Tryz.func112,Tryz.ntmps112
 go_wp2_with fail
 refine Qu (fun w'=>w'.cell? ⟨A,0,none⟩=some (.pointer (some ⟨D,0,none⟩))∧w'.cell? ⟨D,0,none⟩=some (.slice va vb vc)∧w'.cell? ⟨D,3,none⟩=some (.int .i64 dep)∧w'.cell? ⟨D,4,none⟩=some (.int .i64 fuel)∧w'.cell? ⟨D,5,none⟩=some (.int .i64 size)∧w'.cell? ⟨B,0,none⟩=some (.int .i64 p)∧w'.cell? ⟨C,0,none⟩=some (.string ⟨rest.toArray⟩)) (L:=13) (by kernel_rfl) rfl (by kernel_rfl) (by kernel_rfl) ?_ (fun hHeld=>?_)
 ·go_keep
 refine tk (i:=0) (v:=?_) rfl (by kernel_rfl) (fun _ _ _ h=>h) (by rfl) (by assumption) ?_ ?_
 rotate_left
 ·intro w hSw;(try dsimp only at hSw);go_simp;(try with_reducible rfl)
 (try simp only [Qd,Qe,List.set])
 refine tk (i:=1) (v:=?_) rfl (by kernel_rfl) (fun _ _ _ h=>h) (by rfl) (by assumption) ?_ ?_
 rotate_left
 ·intro w hSw;(try dsimp only at hSw);go_simp;(try with_reducible rfl)
 (try simp only [Qd,Qe,List.set])
 refine tk (i:=2) (v:=?_) rfl (by kernel_rfl) (fun _ _ _ h=>h) (by rfl) (by assumption) ?_ ?_
 rotate_left
 ·intro w hSw;(try dsimp only at hSw);go_simp;(try with_reducible rfl)
 (try simp only [Qd,Qe,List.set])
 refine tk (i:=3) (v:=?_) rfl (by kernel_rfl) (fun _ _ _ h=>h) (by rfl) (by assumption) ?_ ?_
 rotate_left
 ·intro w hSw;(try dsimp only at hSw);go_simp;(try with_reducible rfl)
 (try simp only [Qd,Qe,List.set])
 refine tk (i:=4) (v:=?_) rfl (by kernel_rfl) (fun _ _ _ h=>h) (by rfl) (by assumption) ?_ ?_
 rotate_left
 ·intro w hSw;(try dsimp only at hSw);go_simp;(try with_reducible rfl)
 (try simp only [Qd,Qe,List.set])
 refine tk (i:=5) (v:=?_) rfl (by kernel_rfl) (fun _ _ _ h=>h) (by rfl) (by assumption) ?_ ?_
 rotate_left
 ·intro w hSw;(try dsimp only at hSw);go_simp;(try with_reducible rfl)
 (try simp only [Qd,Qe,List.set])
 refine tk (i:=6) (v:=?_) rfl (by kernel_rfl) (fun _ _ _ h=>h) (by rfl) (by assumption) ?_ ?_
 rotate_left
 ·intro w hSw;(try dsimp only at hSw);go_simp;(try with_reducible rfl)
 (try simp only [Qd,Qe,List.set])
 refine tk (i:=7) (v:=?_) rfl (by kernel_rfl) (fun _ _ _ h=>h) (by rfl) (by assumption) ?_ ?_
 rotate_left
 ·intro w hSw;(try dsimp only at hSw);go_simp;(try with_reducible rfl)
 (try simp only [Qd,Qe,List.set])
 refine tk (i:=8) (v:=?_) rfl (by kernel_rfl) (fun _ _ _ h=>h) (by rfl) (by assumption) ?_ ?_
 rotate_left
 ·intro w hSw;(try dsimp only at hSw);go_simp;(try with_reducible rfl)
 (try simp only [Qd,Qe,List.set])
 refine tk (i:=9) (v:=?_) rfl (by kernel_rfl) (fun _ _ _ h=>h) (by rfl) (by assumption) ?_ ?_
 rotate_left
 ·intro w hSw;(try dsimp only at hSw);go_simp;(try with_reducible rfl)
 (try simp only [Qd,Qe,List.set])
 refine tk (i:=10) (v:=?_) rfl (by kernel_rfl) (fun _ _ _ h=>h) (by rfl) (by assumption) ?_ ?_
 rotate_left
 ·intro w hSw;(try dsimp only at hSw);go_simp;(try with_reducible rfl)
 (try simp only [Qd,Qe,List.set])
 refine tk (i:=11) (v:=?_) rfl (by kernel_rfl) (fun _ _ _ h=>h) (by rfl) (by assumption) ?_ ?_
 rotate_left
 ·intro w hSw;(try dsimp only at hSw);go_simp;(try with_reducible rfl)
 (try simp only [Qd,Qe,List.set])
 refine wpAnyH_ready (rs:=[12]) (by kernel_rfl) (by simp) ?_
 refine AllReadyH.cons rfl (fun K hK=>?_) AllReadyH.nil
 (go_simp;go_at_call 35;refine VV.out.mono ?_;rintro e w2 (⟨ns,rv,hx,rfl,hk2,hrow⟩ | ⟨f,hx,hk2,g,hg,rfl,hc⟩);rotate_left;exact Qa ⟨(hk2.block _ (Qc HK.out) (by simp)).trans HK.out,Or.inr ⟨_,rfl,Q7B _,⟨f,hx⟩,(((Qb.refl [] w).drew).trans hk2).mono (by simp)⟩⟩;have m0:w2.heap[D]? = _:=(hk2.block _ (Qc HD.out) (by simp)).trans HD.out;have m1:w2.heap[A]? = _:=(hk2.block _ (Qc HA.out) (by simp)).trans HA.out;have m2:w2.heap[B]? = _:=(hk2.block _ (Qc HB.out) (by simp)).trans HB.out;have m3:w2.heap[C]? = _:=(hk2.block _ (Qc HC.out) (by simp)).trans HC.out;have m4:w2.heap[E]? = _:=(hk2.block _ (Qc HE.out) (by simp)).trans HE.out;have m5:w2.heap[k]? = _:=(hk2.block _ (Qc HK.out) (by simp)).trans HK.out;obtain ⟨z0,z1,z2,z3,z4,z5,z6,zf,zl⟩:=Q4Y m0;have n1:=Qv m1;have n2:=Q1x (i:=0) m2 rfl;have n3:=Qv m3;have n4:=Qv m4;have nf:∀ i,w2.frozen? ⟨E,i,none⟩=false:=(by intro i;simp [World.frozen?,m4]);have M4:=Hid.mk m4;have M5:=Hid.mk m5;have HROW:=Hid.mk hrow;have HX:=Hid.mk hx;have HK2:=Hid.mk (((Qb.refl [] w).drew).trans hk2);obtain ⟨ra,rc,rfl⟩:=Q19 hrow;clear m0 m1 m2 m3 m4 m5 hk2 hrow hx)
 refine hK.out _ _ ?_ (fun hHeld=>?_)
 ·go_keep
 clear hK K
 (try simp only [Qd,Qe,List.set])
 refine wpAnyH_done (by kernel_rfl) ?_ _
 refine QB rfl (fun K hK=>?_)
 go_simp
 refine hK.out _ _ ?_
 clear hK K
 (try simp only [Qd,Qe,List.set])
 go_wp2
 go_end0
 have kE:Qb [E] w2 (w2.setCell ⟨E,0,none⟩ (.slice ra ns.length rc)):=(Qb.refl [E] w2).setIn (p:=⟨E,0,none⟩) (by simp) _
 refine ⟨(kE.block _ (Qc M5.out) (by simp;exact hEk)).trans M5.out,Or.inl ⟨rfl,ns,_,HX.out,(HK2.out.mono (by simp)).trans kE,Qn (i:=0) M4.out _,fun y=>?_⟩⟩
 refine Qhs (Qk (M:=[E,k]) HROW.out ((kE.mono (by simp)).setIn (p:=⟨k,0,none⟩) (by simp) y) (fun g hg hm=>?_))
 simp only [List.mem_cons,List.not_mem_nil,or_false] at hm
 have:=(Q0z HROW.out hg).1
 have:=Qc HE.out
 have:=Qc HK.out
 have e:w.drew.heap.size=w.heap.size:=rfl
 omega
theorem QiV {w:World} {bs:List (Nat×Obj)} {D:Nat} {v:Value} {S P dep fuel size K n:Nat} {ds:List DefL} (hD:Q78 bs D v S P dep fuel size K n ds) (hw:∀ p∈bs,w.heap[p.1]? = some p.2) (hg:∀ x∈(Q09 ds).1,Q1w x) {p q:Nat} (hend:Q77 ds dep fuel size q) {arg:List Q2n} {nsl:Value} (hn:Q2P w nsl (arg.map toG)) {A B C E R k:Nat} {x0 x1 x2 x:Value}
  (hA:w.heap[A]? = some (.cells #[.pointer (some ⟨D,0,none⟩)] 94)) (hC:w.heap[C]? = some (.cells #[x0,x1,x2] 163)) (hB:w.heap[B]? = some (.cells #[.int .i64 p,.int .i64 q] 263)) (hE:w.heap[E]? = some (.cells #[nsl] 29)) (hR:w.heap[R]? = some (.cells #[x] 9)) (hk:w.heap[k]? = some (.cells #[.bool false] 4)) :
  Calls Tryz.prog 113 #[.pointer (some ⟨A,0,none⟩),.pointer (some ⟨C,0,none⟩),.pointer (some ⟨B,0,none⟩),.pointer (some ⟨E,0,none⟩),.pointer (some ⟨R,0,none⟩)] w
   (Qbw k (fun u=>∃ out,Q2a ds n q arg dep fuel size=some out∧Qb [R] w u∧u.heap[R]? = some (.cells #[.string ⟨out.toArray⟩] 9)) (fun u=>Q2a ds n q arg dep fuel size=none∧Qb [R] w u)):=by
 have a0:=Qv hA
 obtain ⟨b0,b1⟩:w.cell? ⟨B,0,none⟩=some (.int .i64 p)∧w.cell? ⟨B,1,none⟩=some (.int .i64 q):=⟨Q1x hB rfl,Q1x hB rfl⟩
 obtain ⟨c0,c1,c2⟩:w.cell? ⟨C,0,none⟩=some x0∧w.cell? ⟨C,1,none⟩=some x1∧w.cell? ⟨C,2,none⟩=some x2:=⟨Q1x hC rfl,Q1x hC rfl,Q1x hC rfl⟩
 have e0:=Qv hE
 have hRk:k≠R:=by intro e;rw [e,hR] at hk;cases hk
 have VR:=Hid.mk (QfF hD hw hg x0 x1 x2 p q hend hn)
 have HR:=Hid.mk hR
 have HK:=Hid.mk hk
 obtain ⟨na,nc,hnsl,_⟩:=id hn
 rw [List.length_map] at hnsl
 subst hnsl
 clear hD hw hg hend hA hB hC hE hk hR hn
 go_enter Tryz.func113,Tryz.ntmps113
 go_wp2_with fail
 refine VR.out.mono ?_
 rintro e w2 ⟨hk2,⟨out,hx,rfl⟩ | ⟨hx,y,rfl,hl⟩⟩
 rotate_left
 ·exact Qa ⟨(hk2.block _ (Qc HK.out) (by simp)).trans HK.out,Or.inr ⟨_,rfl,hl,hx,hk2.mono (by simp)⟩⟩
 have m4:w2.heap[R]? = _:=(hk2.block _ (Qc HR.out) (by simp)).trans HR.out
 have m5:w2.heap[k]? = _:=(hk2.block _ (Qc HK.out) (by simp)).trans HK.out
 have n4:=Qv m4
 have nf:∀ i,w2.frozen? ⟨R,i,none⟩=false:=by intro i;simp [World.frozen?,m4]
 have M4:=Hid.mk m4
 have M5:=Hid.mk m5
 have HX:=Hid.mk hx
 have HK2:=Hid.mk hk2
 clear m4 m5 hx hk2 VR
 go_wp2
 go_end0
 have kE:Qb [R] w2 (w2.setCell ⟨R,0,none⟩ (.string ⟨out.toArray⟩)):=(Qb.refl [R] w2).setIn (p:=⟨R,0,none⟩) (by simp) _
 exact ⟨(kE.block _ (Qc M5.out) (by simp;exact hRk)).trans M5.out,Or.inl ⟨rfl,out,HX.out,(HK2.out.mono (by simp)).trans kE,Qn (i:=0) M4.out _⟩⟩
theorem Q2D {w:World} {o:Obj} {g:Nat} (h:g=w.heap.size):(w.alloc o).drew.heap[g]? = some o:=Qg (w:=w) (o:=o) h
theorem Q2V (ws:List Int) (hr:∀ x∈ws,0≤x∧x < 4294967296) (hl:ws.length≤10) {w':World} {g n cap:Nat} {cs:Array Value} (hb:w'.heap[g]? = some (.cells cs 161)) (hn:n=ws.length) (hcap:n≤cap) (hcs:cs=(ws.map (Value.int .u32)).toArray) :
  Calls Tryz.prog 77 #[.slice (some ⟨g,0,none⟩) n cap] w' fun e u'=>e = .returned (.string ⟨(Q0b ws).toArray⟩)∧Qb [] w' u':=by
 subst hn hcs
 exact QaX hb hr hl hcap
theorem QiW {ds:List DefL} {lp:List (Int×PrgB)} (h:Q8w lp=(Q3k ds).2) (a:Int):Qy (Q3k ds).2 a=(Qy lp a).map Q45:=by rw [← h];exact QaV Q45 lp a
theorem QjX (q:PrgB) (b:Int):Qy (Q45 q).vs b=(Qy q.vs b).map (·.2):=QaV (fun p:Nat×List (Int×Nat×Nat)=>p.2) q.vs b
theorem QjY (q:PrgB):(Q45 q).vs.map (·.1)=q.vs.map (·.1):=by
 show (Q7t q.vs).map (·.1)=_
 unfold Q7t
 rw [List.map_map]
 rfl
theorem QdO {u:World} {bs:List (Nat×Obj)} {D:Nat} {v:Value} {S P dep fuel size K n:Nat} {ds:List DefL} (hD:Q78 bs D v S P dep fuel size K n ds) (hw:∀ p∈bs,u.heap[p.1]? = some p.2) (hg:∀ x∈(Q09 ds).1,Q1w x) (hs:Q8B ds dep fuel size) (a b c:Nat) (rest:List UInt8) (hrl:rest.length≤100000) :
  Calls Tryz.prog 81 #[.pointer (some ⟨D,0,none⟩),.agg #[.int .u32 a,.int .u32 b,.int .u32 c],.string ⟨rest.toArray⟩] u fun e u'=>e = .returned (.string ⟨(Q0F ds n (a,b,c) rest dep fuel size).toArray⟩)∧Qb [] u u':=by
 have hmf:∀ (fn:Fn) (first cap:Array Value) (w:World),(Instr.makeFunc fn first cap).run Tryz.prog w = .ok (.func fn first cap) w:=fun _ _ _ _=>rfl
 obtain ⟨lp,p1,p2,p3,p4⟩:=hD.unit.progs
 have hpo:=QiW p3 (a:Int)
 have hlook:=fun (w':World) (h:w'.heap[P]? = some (Q3f lp))=>QfJ h p4 (a:Int)
 have hk0:=(((Qb.refl [] u).alloc (.cells #[.pointer (some ⟨D,0,none⟩)] 94)).alloc (.cells #[.int .u32 a,.int .u32 b,.int .u32 c] 163)).alloc (.cells #[.string ⟨rest.toArray⟩] 9)
 have hw0:=Q0q hw hk0
 have a0:((((u.alloc (.cells #[.pointer (some ⟨D,0,none⟩)] 94)).alloc (.cells #[.int .u32 a,.int .u32 b,.int .u32 c] 163)).alloc (.cells #[.string ⟨rest.toArray⟩] 9))).heap[u.heap.size]? = some (.cells #[.pointer (some ⟨D,0,none⟩)] 94):=(Below.heap_alloc _ _ _ (by simp;omega)).trans ((Below.heap_alloc _ _ _ (by simp)).trans (Qg rfl))
 have a1:((((u.alloc (.cells #[.pointer (some ⟨D,0,none⟩)] 94)).alloc (.cells #[.int .u32 a,.int .u32 b,.int .u32 c] 163)).alloc (.cells #[.string ⟨rest.toArray⟩] 9))).heap[u.heap.size + 1]? = some (.cells #[.int .u32 a,.int .u32 b,.int .u32 c] 163):=(Below.heap_alloc _ _ _ (by simp)).trans (Qg (by simp))
 have a2:((((u.alloc (.cells #[.pointer (some ⟨D,0,none⟩)] 94)).alloc (.cells #[.int .u32 a,.int .u32 b,.int .u32 c] 163)).alloc (.cells #[.string ⟨rest.toArray⟩] 9))).heap[u.heap.size + 1 + 1]? = some (.cells #[.string ⟨rest.toArray⟩] 9):=Qg (by simp)
 have hX:=hw0 _ hD.desk
 have hP:=hw0 _ p1
 have HK0:=Hid.mk hk0
 have HW0:=Hid.mk hw0
 have HBL:Hid (∀ p∈bs,p.1 < u.heap.size):=fun p hp=>Qc (hw p hp)
 have HD:=Hid.mk hD
 have HG:=Hid.mk hg
 have HS:=Hid.mk hs
 have HP2:=Hid.mk p2
 clear hD hw hk0 hw0 p1 p2 p3 p4 hg hs
 go_enter Tryz.func81,Tryz.ntmps81
 go_wp2_with fail
 generalize (((u.alloc (.cells #[.pointer (some ⟨D,0,none⟩)] 94)).alloc (.cells #[.int .u32 a,.int .u32 b,.int .u32 c] 163)).alloc (.cells #[.string ⟨rest.toArray⟩] 9))=X at *
 have al:∀ (o:Obj) {k:Nat} {o':Obj},X.heap[k]? = some o'→(X.alloc o).heap[k]? = some o':=fun o k o' h=>(Below.heap_alloc _ _ _ (Qc h)).trans h
 have y0:=fun o=>Qv (al o a0)
 have y1:=fun o=>(Q0y (al o a1)).1
 have x2:=fun o=>(Q4Y (al o hX)).2.2.1
 have hl1:=fun o=>hlook (X.alloc o).drew (al o hP)
 have yy0:=Qv a0
 have yy1:=(Q0y a1).1
 have xx2:=(Q4Y hX).2.2.1
 have hll1:=hlook X.drew hP
 have A0:=Hid.mk a0
 have A1:=Hid.mk a1
 have A2:=Hid.mk a2
 have y1b:=fun o=>(Q0y (al o a1)).2.1
 have y1c:=fun o=>(Q0y (al o a1)).2.2.1
 clear hP hX a0 a1 a2 hlook
 cases hm:Qy lp (a:Int) with
 | none=>
  rw [hm] at hl1 hll1 hpo
  have E:Hid (Q0F ds n (a,b,c) rest dep fuel size=Q0b [1]):=by show _=_;unfold Q0F;simp only [hpo,Option.map_none]
  clear hm hpo
  go_region
  go_wp2_with fail
  refine Calls.mono (Q2V [1] (by intro x hx;simp at hx;subst hx;omega) (by simp) (Q2D (by simp)) rfl (by simp) rfl) ?_
  rintro e w1 ⟨rfl,hk1⟩
  have HK1:=Hid.mk (((HK0.out.alloc _).alloc _).drew.trans hk1)
  clear hk1
  go_wp2
  go_ret
  exact ⟨by rw [E.out];rfl,HK1.out⟩
 | some g=>
  rw [hm] at hl1 hll1 hpo
  have hgi:Q4H bs g:=by obtain ⟨p,h1,_,rfl⟩:=Q25 hm;exact HP2.out p h1
  have hnd1:=HS.out.vers (a:Int) (Q45 g) hpo
  rw [QjY] at hnd1
  have hl2:=fun o=>QhB (W:=(X.alloc o).drew) (al o (HW0.out _ hgi.1)) hnd1 (b:Int)
  have hvo:=QjX g (b:Int)
  obtain ⟨r0,r1,r2,r3⟩:=HS.out.range (a:Int) (Q45 g) hpo
  have r0:0≤g.lo:=r0
  have r1:g.lo < 4294967296:=r1
  have r2:0≤g.hi:=r2
  have r3:g.hi < 4294967296:=r3
  cases hm2:Qy g.vs (b:Int) with
  | none=>
   rw [hm2] at hl2 hvo
   have E:Hid (Q0F ds n (a,b,c) rest dep fuel size=Q0b [2,g.lo,g.hi]):=by
    show _=_
    unfold Q0F
    simp only [hpo,Option.map_some,hvo,Option.map_none]
    rfl
   clear hm hm2 hpo hvo hnd1 al
   go_region
   go_wp2_with fail
   refine Calls.mono (Q2V [2,g.lo,g.hi] (by intro x hx;simp at hx;rcases hx with rfl | rfl | rfl<;>omega) (by simp) (Q2D (by simp)) rfl (by simp) rfl) ?_
   rintro e w1 ⟨rfl,hk1⟩
   have HK1:=Hid.mk (((HK0.out.alloc _).alloc _).drew.trans hk1)
   clear hk1
   go_wp2
   go_ret
   exact ⟨by rw [E.out];rfl,HK1.out⟩
  | some vq=>
   obtain ⟨vm,pl⟩:=vq
   rw [hm2] at hl2 hvo
   simp only [Option.map_some] at hvo
   have hpl:(vm,Q1F pl)∈bs:=by obtain ⟨p,h1,_,h3⟩:=Q25 hm2;have:=hgi.2 p h1;rw [h3] at this;exact this
   have hnd2:=HS.out.procs (a:Int) (Q45 g) (b:Int) pl hpo hvo
   have hl3:=fun o=>QfK (W:=(X.alloc o).drew) (al o (HW0.out _ hpl)) hnd2 (c:Int)
   cases hm3:Qy pl (c:Int) with
   | none=>
    rw [hm3] at hl3
    have E:Hid (Q0F ds n (a,b,c) rest dep fuel size=Q0b [3]):=by
     show _=_
     unfold Q0F
     simp only [hpo,Option.map_some,hvo,hm3]
    clear hm hm2 hm3 hpo hvo hnd1 hnd2 al
    go_region
    go_wp2_with fail
    refine Calls.mono (Q2V [3] (by intro x hx;simp at hx;subst hx;omega) (by simp) (Q2D (by simp)) rfl (by simp) rfl) ?_
    rintro e w1 ⟨rfl,hk1⟩
    have HK1:=Hid.mk ((((HK0.out.alloc _).alloc _).alloc _).drew.trans hk1)
    clear hk1
    go_wp2
    go_ret
    exact ⟨by rw [E.out];rfl,HK1.out⟩
   | some pq=>
    obtain ⟨p,q⟩:=pq
    rw [hm3] at hl3
    have E:Hid (Q0F ds n (a,b,c) rest dep fuel size=Q8u ds n (p,q) rest dep fuel size):=by
     show _=_
     unfold Q0F
     simp only [hpo,Option.map_some,hvo,hm3]
    obtain ⟨en1,en2⟩:=HS.out.ends (a:Int) (Q45 g) (b:Int) pl (c:Int) (p,q) hpo hvo hm3
    have EN1:=Hid.mk en1
    have EN2:=Hid.mk en2
    clear hm hm2 hm3 hpo hvo hnd1 hnd2 al en1 en2
    go_region
    go_wp2_with fail
    have k3:Qb [] X ((((X.alloc (.cells #[.int .u32 g.lo,.int .u32 g.hi,.map (some g.m)] 216)).alloc (.cells #[.int .i64 p,.int .i64 q] 263)).alloc (.cells #[.slice none 0 0] 29)).drew):=((((Qb.refl [] X).alloc _).alloc _).alloc _).drew
    have b3:((((X.alloc (.cells #[.int .u32 g.lo,.int .u32 g.hi,.map (some g.m)] 216)).alloc (.cells #[.int .i64 p,.int .i64 q] 263)).alloc (.cells #[.slice none 0 0] 29)).drew).heap[X.heap.size + 1]? = some (.cells #[.int .i64 p,.int .i64 q] 263):=(Below.heap_alloc _ _ _ (by simp)).trans (Qg (by simp))
    have e3:((((X.alloc (.cells #[.int .u32 g.lo,.int .u32 g.hi,.map (some g.m)] 216)).alloc (.cells #[.int .i64 p,.int .i64 q] 263)).alloc (.cells #[.slice none 0 0] 29)).drew).heap[X.heap.size + 1 + 1]? = some (.cells #[.slice none 0 0] 29):=Qg (by simp)
    generalize (((X.alloc (.cells #[.int .u32 g.lo,.int .u32 g.hi,.map (some g.m)] 216)).alloc (.cells #[.int .i64 p,.int .i64 q] 263)).alloc (.cells #[.slice none 0 0] 29)).drew=W at k3 b3 e3 ⊢
    have hu3:=Qc A2.out
    have we:=Qc e3
    have k4:Qb [] W (W.alloc (.cells #[.bool false] 4)):=(Qb.refl [] W).alloc _
    have fA:=(k3.block _ (Qc A0.out) (by simp)).trans A0.out
    have fC:=(k3.block _ (Qc A1.out) (by simp)).trans A1.out
    have fR:=(k3.block _ (Qc A2.out) (by simp)).trans A2.out
    have hw3:=Q0q HW0.out k3
    have VS:=Hid.mk (Q6f (f:=112) (fun args w=>by kernel_rfl) (QiU HD.out (Q0q hw3 k4) HG.out EN1.out rest hrl (E:=X.heap.size + 1 + 1) (k:=W.heap.size) ((k4.block _ (Qc fA) (by simp)).trans fA) ((k4.block _ (Qc b3) (by simp)).trans b3) ((k4.block _ (Qc fR) (by simp)).trans fR) ((k4.block _ (Qc e3) (by simp)).trans e3) (Qg rfl)))
    have F:=Hid.mk (And.intro fA (And.intro fC (And.intro b3 (And.intro e3 hw3))))
    have KW:=Hid.mk (HK0.out.trans k3)
    clear k3 k4 fA fC fR hw3 b3 e3 y0 y1 x2 hl1 yy0 yy1 xx2 hll1 y1b y1c hl2 hl3 hpl hgi A0 A1 A2 HP2 HW0 HK0 r0 r1 r2 r3
    refine VS.out.mono ?_
    rintro e w1 ⟨u1,⟨rfl,⟨arg,nv,hsd,hkE,hEb,hnn⟩,rfl⟩ | ⟨rfl,⟨⟨f,hsd⟩,hkE⟩,rfl⟩⟩
    rotate_left
    ·have E2:Hid (Q0F ds n (a,b,c) rest dep fuel size=Q0b [4]):=E.out.trans (by unfold Q8u;simp only [hsd])
     have KZ:Hid (Qb [] u (u1.setCell ⟨W.heap.size,0,none⟩ (.bool false))):=((KW.out.alloc _).young hkE (fun m hm=>Or.inr (by simp only [List.mem_singleton] at hm;omega))).setNew (p:=⟨W.heap.size,0,none⟩) (by simp only;omega) _
     clear hsd hkE VS
     generalize u1.setCell ⟨W.heap.size,0,none⟩ (.bool false)=Z at KZ ⊢
     go_wp2_with fail
     refine Calls.mono (Q2V [4] (by intro x hx;simp at hx;subst hx;omega) (by simp) (by first | exact Qg rfl | exact Q2D rfl) rfl (by simp) rfl) ?_
     rintro e w2 ⟨rfl,hk2⟩
     have HK2:=Hid.mk ((KZ.out.alloc _).trans hk2)
     clear hk2
     go_wp2
     go_ret
     exact ⟨by rw [E2.out];rfl,HK2.out⟩
    ·have E2:Hid (Q0F ds n (a,b,c) rest dep fuel size=match Q2a ds n q arg dep fuel size with | none=>Q0b [5] | some out=>Q0b [0]++out):=E.out.trans (by unfold Q8u;simp only [hsd];cases Q2a ds n q arg dep fuel size<;>rfl)
     have KZ:Qb [] u (u1.setCell ⟨W.heap.size,0,none⟩ (.bool true)):=((KW.out.alloc _).young hkE (fun m hm=>Or.inr (by simp only [List.mem_singleton] at hm;omega))).setNew (p:=⟨W.heap.size,0,none⟩) (by simp only;omega) _
     have tr:∀ {k:Nat} {o:Obj},W.heap[k]? = some o→k≠X.heap.size + 1 + 1→(u1.setCell ⟨W.heap.size,0,none⟩ (.bool true)).heap[k]? = some o:=fun {k} {o} h hne=>(Below.heap_setCell _ _ _ _ (by have:=Qc h;simp only;omega)).trans ((hkE.block _ (by have:=Qc h;simp;omega) (by simpa using hne)).trans ((Below.heap_alloc _ _ _ (Qc h)).trans h))
     obtain ⟨fA,fC,fB,fE,fw⟩:=F.out
     have zA:=tr fA (by omega)
     have zC:=tr fC (by omega)
     have zB:=tr fB (by omega)
     have zE:(u1.setCell ⟨W.heap.size,0,none⟩ (.bool true)).heap[X.heap.size + 1 + 1]? = some (.cells #[nv] 29):=(Below.heap_setCell _ _ _ _ (by simp only;omega)).trans hEb
     have zw:∀ p∈bs,(u1.setCell ⟨W.heap.size,0,none⟩ (.bool true)).heap[p.1]? = some p.2:=fun p hp=>tr (fw p hp) (by have:=HBL.out p hp;omega)
     have zn:=hnn (.bool true)
     clear hsd hkE VS tr fA fC fB fE fw F hEb hnn
     generalize u1.setCell ⟨W.heap.size,0,none⟩ (.bool true)=Z at *
     have k5:Qb [] Z (Z.alloc (.cells #[.string ⟨#[]⟩] 9)):=(Qb.refl [] Z).alloc _
     have k6:Qb [] Z ((Z.alloc (.cells #[.string ⟨#[]⟩] 9)).alloc (.cells #[.bool false] 4)):=k5.alloc _
     have VS:=Hid.mk (Q6f (f:=113) (w:=Z.alloc (.cells #[.string ⟨#[]⟩] 9)) (fun args w=>by kernel_rfl) (QiV HD.out (Q0q zw k6) HG.out EN2.out (zn.keeps k6) (A:=u.heap.size) (B:=X.heap.size + 1) (C:=u.heap.size + 1) (E:=X.heap.size + 1 + 1) (R:=Z.heap.size) (k:=(Z.alloc (.cells #[.string ⟨#[]⟩] 9)).heap.size) ((k6.block _ (Qc zA) (by simp)).trans zA) ((k6.block _ (Qc zC) (by simp)).trans zC) ((k6.block _ (Qc zB) (by simp)).trans zB) ((k6.block _ (Qc zE) (by simp)).trans zE) ((Below.heap_alloc _ _ _ (by simp)).trans (Qg rfl)) (Qg rfl)))
     have KZ:=Hid.mk KZ
     have hzs:u.heap.size≤Z.heap.size:=KZ.out.size
     clear k5 k6 zA zB zC zE zw zn
     go_wp2_with fail
     refine VS.out.mono ?_
     rintro e w1 ⟨u2,⟨rfl,⟨out,hrs,hkR,hRb⟩,rfl⟩ | ⟨rfl,⟨hrs,hkR⟩,rfl⟩⟩
     rotate_left
     ·have E3:Hid (Q0F ds n (a,b,c) rest dep fuel size=Q0b [5]):=E2.out.trans (by simp only [hrs])
      have KZ2:Hid (Qb [] u (u2.setCell ⟨(Z.alloc (.cells #[.string ⟨#[]⟩] 9)).heap.size,0,none⟩ (.bool false))):=(((KZ.out.alloc _).alloc _).young hkR (fun m hm=>Or.inr (by simp only [List.mem_singleton] at hm;omega))).setNew (p:=⟨(Z.alloc (.cells #[.string ⟨#[]⟩] 9)).heap.size,0,none⟩) (by simp;omega) _
      clear hrs hkR VS
      generalize u2.setCell ⟨(Z.alloc (.cells #[.string ⟨#[]⟩] 9)).heap.size,0,none⟩ (.bool false)=Y at KZ2 ⊢
      go_wp2_with fail
      refine Calls.mono (Q2V [5] (by intro x hx;simp at hx;subst hx;omega) (by simp) (by first | exact Qg rfl | exact Q2D rfl) rfl (by simp) rfl) ?_
      rintro e w2 ⟨rfl,hk2⟩
      have HK2:=Hid.mk ((KZ2.out.alloc _).trans hk2)
      clear hk2
      go_wp2
      go_ret
      exact ⟨by rw [E3.out];rfl,HK2.out⟩
     ·have E3:Hid (Q0F ds n (a,b,c) rest dep fuel size=Q0b [0]++out):=E2.out.trans (by simp only [hrs])
      have KZ2:Hid (Qb [] u (u2.setCell ⟨(Z.alloc (.cells #[.string ⟨#[]⟩] 9)).heap.size,0,none⟩ (.bool true))):=(((KZ.out.alloc _).alloc _).young hkR (fun m hm=>Or.inr (by simp only [List.mem_singleton] at hm;omega))).setNew (p:=⟨(Z.alloc (.cells #[.string ⟨#[]⟩] 9)).heap.size,0,none⟩) (by simp;omega) _
      have zR:(u2.setCell ⟨(Z.alloc (.cells #[.string ⟨#[]⟩] 9)).heap.size,0,none⟩ (.bool true)).heap[Z.heap.size]? = some (.cells #[.string ⟨out.toArray⟩] 9):=(Below.heap_setCell _ _ _ _ (by simp)).trans hRb
      have hol:=Q6I ds n (a,b,c) rest dep fuel size
      rw [E3.out,List.length_append,Q0H] at hol
      have hsz:=HD.out.lims.2.2.1
      have hsum:¬ (9223372036854775807 < (Q0b [0]).length + out.length):=by rw [Q0H];simp at hol ⊢;omega
      clear hrs hkR VS hRb
      generalize u2.setCell ⟨(Z.alloc (.cells #[.string ⟨#[]⟩] 9)).heap.size,0,none⟩ (.bool true)=Y at KZ2 zR ⊢
      have yR:=Qv zR
      have ZR:=Hid.mk zR
      clear zR
      go_wp2_with fail
      refine Qu (fun w'=>w'.cell? ⟨Z.heap.size,0,none⟩=some (.string ⟨out.toArray⟩)) (L:=4) (by kernel_rfl) rfl (by kernel_rfl) (by kernel_rfl) ?_ (fun hHeld=>?_)
      ·go_keep
      refine tk (i:=2) (v:=?_) rfl (by kernel_rfl) (fun _ _ _ h=>h) (by kernel_rfl) (by assumption) ?_ ?_
      rotate_left
      ·intro w hSw;(try dsimp only at hSw);go_simp;(try with_reducible rfl)
      (try simp only [Qd,Qe,List.set])
      refine wpAnyH_ready (rs:=[0]) (by kernel_rfl) (by simp) ?_
      refine AllReadyH.cons rfl (fun K hK=>?_) AllReadyH.nil
      go_simp
      refine hK.out _ _ ?_ (fun hHeld=>?_)
      ·exact Qv (((((Qb.refl [] Y).alloc _).drew).block _ (Qc ZR.out) (by simp)).trans ZR.out)
      clear hK K
      (try simp only [Qd,Qe,List.set])
      refine wpAnyH_ready (rs:=[1]) (by kernel_rfl) (by simp) ?_
      refine AllReadyH.cons rfl (fun K hK=>?_) AllReadyH.nil
      (go_simp;go_at_call 77;refine Calls.mono (Q2V [0] (by intro x hx;simp at hx;subst hx;omega) (by simp) (by first | exact Qg rfl | exact Q2D rfl) rfl (by simp) rfl) ?_;rintro e w2 ⟨rfl,hk2⟩;have kk:Qb [] Y w2:=(((Qb.refl [] Y).alloc _).drew).trans hk2;have yR2:=Qv ((kk.block _ (Qc ZR.out) (by simp)).trans ZR.out);have HK2:=Hid.mk (KZ2.out.trans kk);clear hk2 kk)
      refine hK.out _ _ ?_ (fun hHeld=>?_)
      ·go_keep
      clear hK K
      (try simp only [Qd,Qe,List.set])
      refine wpAnyH_ready (rs:=[3]) (by kernel_rfl) (by simp) ?_
      refine AllReadyH.cons rfl (fun K hK=>?_) AllReadyH.nil
      go_simp
      refine hK.out _ _ ?_ (fun hHeld=>?_)
      ·go_keep
      clear hK K
      (try simp only [Qd,Qe,List.set])
      refine wpAnyH_done (by kernel_rfl) ?_ _
      refine QB rfl (fun K hK=>?_)
      go_simp
      refine hK.out _ _ ?_
      clear hK K
      (try simp only [Qd,Qe,List.set])
      go_wp2
      go_ret
      exact ⟨by rw [E3.out,← Q5h];rfl,HK2.out⟩
theorem QiX {w:World} {C Cc k p:Nat} {r:List UInt8} {x y z:Value} (h:Q1T C r p w) (hc:w.heap[Cc]? = some (.cells #[x,y,z] 163)) (hk:w.heap[k]? = some (.cells #[.bool false] 4)) :
  Calls Tryz.prog 79 #[.pointer (some ⟨C,0,none⟩),.pointer (some ⟨Cc,0,none⟩)] w
   (Qbw k (fun u=>∃ call d,Q4U r ⟨p,[]⟩ = .ok (call,d)∧Qb [C,Cc] w u∧Q1T C r d.pos u∧u.heap[Cc]? = some (.cells #[.int .u32 call.1,.int .u32 call.2.1,.int .u32 call.2.2] 163)) (fun u=>(∃ f,Q4U r ⟨p,[]⟩ = .error f)∧Qb [C,Cc] w u)):=by
 have VC:=Hid.mk (QhA h)
 have hkC:k≠C:=by intro e;rw [e,h.box] at hk;cases hk
 have hkc:k≠Cc:=by intro e;rw [e,hc] at hk;cases hk
 have hcC:Cc≠C:=by intro e;rw [e,h.box] at hc;cases hc
 have HC:=Hid.mk hc
 have HK:=Hid.mk hk
 clear h hc hk
 go_enter Tryz.func79,Tryz.ntmps79
 go_wp2_with fail
 refine VC.out.mono ?_
 rintro e w2 (⟨call,d,hx,hn,rfl,hcu,hk2⟩ | ⟨f,hx,hk2,g,hg,rfl,hc⟩)
 rotate_left
 ·exact Qa ⟨(hk2.block _ (Qc HK.out) (by simpa using hkC)).trans HK.out,Or.inr ⟨_,rfl,Q7B _,⟨f,hx⟩,hk2.mono (by simp)⟩⟩
 have m4:w2.heap[Cc]? = _:=(hk2.block _ (Qc HC.out) (by simpa using hcC)).trans HC.out
 have m5:w2.heap[k]? = _:=(hk2.block _ (Qc HK.out) (by simpa using hkC)).trans HK.out
 obtain ⟨n0,n1,n2,nf,nl⟩:=Q0y m4
 have M4:=Hid.mk m4
 have M5:=Hid.mk m5
 have HX:=Hid.mk hx
 have HK2:=Hid.mk hk2
 have HCU:=Hid.mk hcu
 clear m4 m5 hx hk2 VC hcu
 go_wp2
 go_end0
 have kE:=Q6w (b:=Cc) (w:=w2) (.int .u32 call.1) (.int .u32 call.2.1) (.int .u32 call.2.2)
 refine ⟨(kE.block _ (Qc M5.out) (by simpa using hkc)).trans M5.out,Or.inl ⟨rfl,call,d,HX.out,(HK2.out.mono (by simp)).trans (kE.mono (by simp)),HCU.out.keep kE (by simpa using hcC.symm),Q4W M4.out⟩⟩
theorem QhC {u:World} {bs:List (Nat×Obj)} {D:Nat} {v:Value} {S P dep fuel size K n:Nat} {ds:List DefL} (hD:Q78 bs D v S P dep fuel size K n ds) (hw:∀ p∈bs,u.heap[p.1]? = some p.2) (hg:∀ x∈(Q09 ds).1,Q1w x) (hs:Q8B ds dep fuel size) (r:List UInt8) (hrl:r.length≤100000) :
  Calls Tryz.prog 42 #[.pointer (some ⟨D,0,none⟩),.string ⟨r.toArray⟩] u fun e u'=>e = .returned (.string ⟨(Q1f ds n dep fuel size r).toArray⟩)∧Qb [] u u':=by
 by_cases hlen:r.length < 12
 ·have E:Hid (Q1f ds n dep fuel size r=[]):=by show _=_;unfold Q1f;rw [if_pos hlen]
  have hli:(r.length:Int) < 12:=by omega
  clear hD hw hg hs hlen
  go_enter Tryz.func42,Tryz.ntmps42
  go_wp2
  go_ret
  exact ⟨by rw [E.out];rfl,Qb.refl _ _⟩
 have hmf:∀ (fn:Fn) (first cap:Array Value) (w:World),(Instr.makeFunc fn first cap).run Tryz.prog w = .ok (.func fn first cap) w:=fun _ _ _ _=>rfl
 have hli:(12:Int)≤(r.length:Int):=by omega
 have E0:Hid (Q1f ds n dep fuel size r=if Q2z r 4≠0 then [] else if Q2z r 8≠2 then Q0b [Q2z r 0,1,1,0,2,2] else match Q4U r ⟨12,[]⟩ with | .error _=>[] | .ok q=>Q0b [Q2z r 0,1,0,0,0]++Q0F ds n q.1 (r.drop q.2.pos) dep fuel size):=by show _=_;unfold Q1f;rw [if_neg hlen];rfl
 have W0:=Hid.mk (Q7r (b:=r) (d:=⟨0,[]⟩) (by simp;omega))
 have W1:=Hid.mk (Q7r (b:=r) (d:=⟨4,[]⟩) (by simp;omega))
 have W2:=Hid.mk (Q7r (b:=r) (d:=⟨8,[]⟩) (by simp;omega))
 have l0:Q2z r 0 < 4294967296:=(Qa5 W0.out).2.2.2
 have HD:=Hid.mk hD
 have HW:=Hid.mk hw
 have HG:=Hid.mk hg
 have HS:=Hid.mk hs
 clear hD hw hg hs hlen
 go_enter Tryz.func42,Tryz.ntmps42
 go_wp2_with (go_at_call 62;refine (Q9q _ _).mono ?_;rintro e w' ⟨rfl,rfl⟩)
 refine (Q3Q (C:=u.heap.size + 1) (b:=r) (p:=0) ⟨Qg (by simp),by omega,hrl⟩).mono ?_
 rw [W0.out]
 rintro e w1 (⟨x0,d1,hx,hn1,rfl,M1,hk1⟩ | ⟨f,hx,_⟩)
 rotate_left
 ·cases hx
 cases hx
 have K1:Hid (Qb [] u w1):=(((Qb.refl [] u).alloc _).alloc _).young hk1 (fun m hm=>Or.inr (by simp only [List.mem_singleton] at hm;omega))
 have VW:=Hid.mk (Q3Q M1)
 rw [W1.out] at VW
 clear hk1 M1
 go_wp2_with fail
 refine VW.out.mono ?_
 rintro e w2 (⟨x1,d2,hx,hn2,rfl,M2,hk2⟩ | ⟨f,hx,_⟩)
 rotate_left
 ·cases hx
 cases hx
 have K2:Hid (Qb [] u w2):=K1.out.young hk2 (fun m hm=>Or.inr (by simp only [List.mem_singleton] at hm;omega))
 have VW2:=Hid.mk (Q3Q M2)
 rw [W2.out] at VW2
 clear hk2 M2 VW K1
 go_wp2_with fail
 refine VW2.out.mono ?_
 rintro e w3 (⟨x2,d3,hx,hn3,rfl,M3,hk3⟩ | ⟨f,hx,_⟩)
 rotate_left
 ·cases hx
 cases hx
 have K3:Hid (Qb [] u w3):=K2.out.young hk3 (fun m hm=>Or.inr (by simp only [List.mem_singleton] at hm;omega))
 have M3:=Hid.mk M3
 clear hk3 VW2 K2 W0 W1 W2 hn1 hn2 hn3
 dsimp only at *
 generalize Q2z r 4=kd at *
 generalize Q2z r 8=vs at *
 generalize Q2z r 0=xid at *
 by_cases hkd:kd=0
 ·by_cases hvs:vs=2
  ·subst hkd hvs
   have E1:Hid (Q1f ds n dep fuel size r=match Q4U r ⟨12,[]⟩ with | .error _=>[] | .ok q=>Q0b [(xid:Int),1,0,0,0]++Q0F ds n q.1 (r.drop q.2.pos) dep fuel size):=E0.out
   clear E0
   have kz:Qb [] w3 ((w3.alloc (.cells #[.int .u32 0,.int .u32 0,.int .u32 0] 163)).alloc (.cells #[.bool false] 4)):=((Qb.refl [] w3).alloc _).alloc _
   have VS:=Hid.mk (Q6f (f:=79) (w:=w3.alloc (.cells #[.int .u32 0,.int .u32 0,.int .u32 0] 163)) (fun args w=>by kernel_rfl) (QiX (p:=12) (k:=(w3.alloc (.cells #[.int .u32 0,.int .u32 0,.int .u32 0] 163)).heap.size) (M3.out.keep kz (by simp)) ((Below.heap_alloc _ _ _ (by simp)).trans (Qg rfl)) (Qg rfl)))
   have hC3:=Qc M3.out.box
   clear kz
   go_wp2_with fail
   refine VS.out.mono ?_
   rintro e w4 ⟨u1,⟨rfl,⟨call,d,hcd,hkk,hcu,hcb⟩,rfl⟩ | ⟨rfl,⟨⟨f,hcd⟩,hkk⟩,rfl⟩⟩
   rotate_left
   ·have E2:Hid (Q1f ds n dep fuel size r=[]):=E1.out.trans (by simp only [hcd])
    have KZ:Hid (Qb [] u (u1.setCell ⟨(w3.alloc (.cells #[.int .u32 0,.int .u32 0,.int .u32 0] 163)).heap.size,0,none⟩ (.bool false))):=(((K3.out.alloc _).alloc _).young hkk (fun m hm=>Or.inr (by simp only [List.mem_cons,List.not_mem_nil,or_false] at hm;omega))).setNew (p:=⟨(w3.alloc (.cells #[.int .u32 0,.int .u32 0,.int .u32 0] 163)).heap.size,0,none⟩) (by simp;omega) _
    clear hcd hkk VS
    generalize u1.setCell ⟨(w3.alloc (.cells #[.int .u32 0,.int .u32 0,.int .u32 0] 163)).heap.size,0,none⟩ (.bool false)=Z at KZ ⊢
    go_wp2
    go_ret
    exact ⟨by rw [E2.out];rfl,KZ.out⟩
   ·obtain ⟨c1,c2,c3⟩:=call
    have E2:Hid (Q1f ds n dep fuel size r=Q0b [(xid:Int),1,0,0,0]++Q0F ds n (c1,c2,c3) (r.drop d.pos) dep fuel size):=E1.out.trans (by simp only [hcd])
    have KZ:Qb [] u (u1.setCell ⟨(w3.alloc (.cells #[.int .u32 0,.int .u32 0,.int .u32 0] 163)).heap.size,0,none⟩ (.bool true)):=(((K3.out.alloc _).alloc _).young hkk (fun m hm=>Or.inr (by simp only [List.mem_cons,List.not_mem_nil,or_false] at hm;omega))).setNew (p:=⟨(w3.alloc (.cells #[.int .u32 0,.int .u32 0,.int .u32 0] 163)).heap.size,0,none⟩) (by simp;omega) _
    have zC:Q1T (u.heap.size + 1) r d.pos (u1.setCell ⟨(w3.alloc (.cells #[.int .u32 0,.int .u32 0,.int .u32 0] 163)).heap.size,0,none⟩ (.bool true)):=hcu.keep ((Qb.refl [(w3.alloc (.cells #[.int .u32 0,.int .u32 0,.int .u32 0] 163)).heap.size] u1).setIn (p:=⟨(w3.alloc (.cells #[.int .u32 0,.int .u32 0,.int .u32 0] 163)).heap.size,0,none⟩) (by simp) _) (by simp;omega)
    have zc:(u1.setCell ⟨(w3.alloc (.cells #[.int .u32 0,.int .u32 0,.int .u32 0] 163)).heap.size,0,none⟩ (.bool true)).heap[w3.heap.size]? = some (.cells #[.int .u32 c1,.int .u32 c2,.int .u32 c3] 163):=(Below.heap_setCell _ _ _ _ (by simp)).trans hcb
    clear hcd hkk hcu hcb VS E1
    generalize u1.setCell ⟨(w3.alloc (.cells #[.int .u32 0,.int .u32 0,.int .u32 0] 163)).heap.size,0,none⟩ (.bool true)=Z at KZ zC zc ⊢
    have hol:=Q6I ds n (c1,c2,c3) (r.drop d.pos) dep fuel size
    have hsz:=HD.out.lims.2.2.1
    have hsum:¬ (9223372036854775807 < (Q0b [(xid:Int),1,0,0,0]).length + (Q0F ds n (c1,c2,c3) (r.drop d.pos) dep fuel size).length):=by rw [Q0H];simp;omega
    have VO:=Hid.mk (fun (w':World) (hk:Qb [] Z w')=>QdO HD.out (Q0q HW.out (KZ.trans hk)) HG.out HS.out c1 c2 c3 (r.drop d.pos) (by rw [List.length_drop];omega))
    have VR:=Hid.mk (fun (w':World) (hk:Qb [] Z w')=>QjT (zC.keep hk (by simp)))
    generalize Q0F ds n (c1,c2,c3) (r.drop d.pos) dep fuel size=oc at *
    obtain ⟨t0,t1,t2,tf,tl⟩:=Q0y zc
    have ZC:=Hid.mk zc
    have KZ:=Hid.mk KZ
    clear zc zC hol hsz
    go_wp2_with fail
    refine Qu (fun w'=>w'.cell? ⟨w3.heap.size,0,none⟩=some (.int .u32 c1)∧w'.cell? ⟨w3.heap.size,1,none⟩=some (.int .u32 c2)∧w'.cell? ⟨w3.heap.size,2,none⟩=some (.int .u32 c3)) (L:=8) (by kernel_rfl) rfl (by kernel_rfl) (by kernel_rfl) ?_ (fun hHeld=>?_)
    ·go_keep
    refine tk (i:=0) (v:=?_) rfl (by kernel_rfl) (fun _ _ _ h=>h) (by kernel_rfl) (by assumption) ?_ ?_
    rotate_left
    ·intro w hSw;(try dsimp only at hSw);go_simp;(try with_reducible rfl)
    (try simp only [Qd,Qe,List.set])
    refine tk (i:=3) (v:=?_) rfl (by kernel_rfl) (fun _ _ _ h=>h) (by kernel_rfl) (by assumption) ?_ ?_
    rotate_left
    ·intro w hSw;(try dsimp only at hSw);go_simp;(try with_reducible rfl)
    (try simp only [Qd,Qe,List.set])
    refine tk (i:=4) (v:=?_) rfl (by kernel_rfl) (fun _ _ _ h=>h) (by kernel_rfl) (by assumption) ?_ ?_
    rotate_left
    ·intro w hSw;(try dsimp only at hSw);go_simp;(try with_reducible rfl)
    (try simp only [Qd,Qe,List.set])
    refine wpAnyH_ready (rs:=[1]) (by kernel_rfl) (by simp) ?_
    refine AllReadyH.cons rfl (fun K hK=>?_) AllReadyH.nil
    go_simp
    refine hK.out _ _ ?_ (fun hHeld=>?_)
    ·have:=fun o=>Q0y (((((Qb.refl [] Z).alloc o).drew).block _ (Qc ZC.out) (by simp)).trans ZC.out)
     exact ⟨(this _).1,(this _).2.1,(this _).2.2.1⟩
    clear hK K
    (try simp only [Qd,Qe,List.set])
    refine wpAnyH_ready (rs:=[2]) (by kernel_rfl) (by simp) ?_
    refine AllReadyH.cons rfl (fun K hK=>?_) AllReadyH.nil
    (go_simp;go_at_call 77;refine Calls.mono (Q2V [(xid:Int),1,0,0,0] (by intro x hx;simp at hx;omega) (by simp) (by first | exact Qg rfl | exact Q2D rfl) rfl (by simp) rfl) ?_;rintro e w5 ⟨rfl,hk5⟩;have kk:Qb [] Z w5:=(((Qb.refl [] Z).alloc _).drew).trans hk5;obtain ⟨t0,t1,t2,tf,tl⟩:=Q0y ((kk.block _ (Qc ZC.out) (by simp)).trans ZC.out);have KK:=Hid.mk kk;clear hk5 kk)
    refine hK.out _ _ ?_ (fun hHeld=>?_)
    ·go_keep
    clear hK K
    (try simp only [Qd,Qe,List.set])
    refine wpAnyH_ready (rs:=[5]) (by kernel_rfl) (by simp) ?_
    refine AllReadyH.cons rfl (fun K hK=>?_) AllReadyH.nil
    (go_simp;go_at_call 82;refine (VR.out _ KK.out).mono ?_;rintro e w6 ⟨rfl,hk6⟩;have kk:=KK.out.trans hk6;obtain ⟨t0,t1,t2,tf,tl⟩:=Q0y ((kk.block _ (Qc ZC.out) (by simp)).trans ZC.out);have KK6:=Hid.mk kk;clear hk6 kk)
    refine hK.out _ _ ?_ (fun hHeld=>?_)
    ·go_keep
    clear hK K
    (try simp only [Qd,Qe,List.set])
    refine wpAnyH_ready (rs:=[6]) (by kernel_rfl) (by simp) ?_
    refine AllReadyH.cons rfl (fun K hK=>?_) AllReadyH.nil
    (go_simp;go_at_call 81;refine (VO.out _ KK6.out).mono ?_;rintro e w7 ⟨rfl,hk7⟩;have kk:=KK6.out.trans hk7;obtain ⟨t0,t1,t2,tf,tl⟩:=Q0y ((kk.block _ (Qc ZC.out) (by simp)).trans ZC.out);have KK7:=Hid.mk kk;clear hk7 kk)
    refine hK.out _ _ ?_ (fun hHeld=>?_)
    ·go_keep
    clear hK K
    (try simp only [Qd,Qe,List.set])
    refine wpAnyH_ready (rs:=[7]) (by kernel_rfl) (by simp) ?_
    refine AllReadyH.cons rfl (fun K hK=>?_) AllReadyH.nil
    go_simp
    refine hK.out _ _ ?_ (fun hHeld=>?_)
    ·go_keep
    clear hK K
    (try simp only [Qd,Qe,List.set])
    refine wpAnyH_done (by kernel_rfl) ?_ _
    refine QB rfl (fun K hK=>?_)
    go_simp
    refine hK.out _ _ ?_
    clear hK K
    (try simp only [Qd,Qe,List.set])
    go_wp2
    go_ret
    exact ⟨by rw [E2.out,← Q5h];rfl,KZ.out.trans KK7.out⟩
  ·have E1:Hid (Q1f ds n dep fuel size r=Q0b [(xid:Int),1,1,0,2,2]):=by show _=_;rw [E0.out,if_neg (by simpa using hkd),if_pos hvs]
   have hv1:((vs:Int) != 2)=true:=by simp;omega
   subst hkd
   clear E0 hvs
   go_wp2_with fail
   refine Calls.mono (Q2V [(xid:Int),1,1,0,2,2] (by intro x hx;simp at hx;omega) (by simp) (by first | exact Qg rfl | exact Q2D rfl) rfl (by simp) rfl) ?_
   rintro e w4 ⟨rfl,hk4⟩
   have HK4:=Hid.mk ((K3.out.alloc _).trans hk4)
   clear hk4
   go_wp2
   go_ret
   exact ⟨by rw [E1.out];rfl,HK4.out⟩
 ·have E1:Hid (Q1f ds n dep fuel size r=[]):=by show _=_;rw [E0.out,if_pos hkd]
  have hk1:((kd:Int) != 0)=true:=by simp;omega
  clear E0 hkd
  go_wp2
  go_ret
  exact ⟨by rw [E1.out];rfl,K3.out⟩
theorem QcT (u:World) (g n:Nat):Qb [g] u (u.freeze ⟨g,0,none⟩ n):=by
 unfold World.freeze
 split
 ·exact Qb.refl _ _
 ·exact ⟨rfl,rfl,rfl,by simp,fun k hk hm=>by
   simp only [Array.getElem?_modify]
   rw [if_neg (by intro e;exact hm (by simp [← e]))]⟩
theorem QhD {u u':World} (h:Below u.heap.size u u'):Qb [] u u':=Qb.of_below [] h
theorem QdP {base b:Nat} {l:List UInt8} {v:Value} {u:World} (h:BdAt base b l v u) :
  Calls Tryz.prog 45 #[.pointer (some ⟨b,0,none⟩)] u fun e u'=>e = .returned (.string ⟨l.toArray⟩)∧Qb v.ownBlock.toList u u':=by
 obtain ⟨⟨p,hp,hb⟩,hrow,ho⟩:=h
 by_cases h0:l=[]
 ·subst h0
  have key:Calls Tryz.prog 45 #[.pointer (some ⟨b,0,none⟩)] u fun e u'=>e = .returned (.string ⟨#[]⟩)∧Below u.heap.size u u':=by
   rcases hrow.2 with ⟨rfl,_⟩ | ⟨g,cap,cur,rfl,_,hg,_⟩
   ·exact Any.Builder_String_nil Tryz.lays169 Tryz.Builder_Extra_169 u.heap.size b p u hb
   ·by_cases hc:cap=0
    ·subst hc
     exact Any.Builder_String_noroom Tryz.lays169 Tryz.Builder_Extra_169 u.heap.size b g p cur u (Nat.le_refl _) hb hg
    ·exact Any.Builder_String_room Tryz.lays169 Tryz.Builder_Extra_169 u.heap.size b g cap p u hc hb
  refine key.mono ?_
  rintro e u' ⟨rfl,hb⟩
  exact ⟨rfl,(QhD hb).mono (by simp)⟩
 ·have hl0:l.length≠0:=by simpa using h0
  obtain ⟨g,cap,cur,rfl,hbg,hg,hnc,hcm,hcs,htake⟩:∃ g cap cur,v = .slice (some ⟨g,0,none⟩) l.length cap∧base≤g∧u.heap[g]? = some (.cells cur 5 (0,0))∧l.length≤cap∧cap≤maxLen∧cur.size=cap * 1∧cur.toList.take (l.length * 1)=Lib.byteCells l:=by
   rcases hrow.2 with ⟨_,hz⟩ | ⟨g,cap,cur,hv,r⟩
   ·exact absurd hz hl0
   ·exact ⟨g,cap,cur,hv,r⟩
  have c1:u.drew.cell? ⟨b,1,none⟩=some (.slice (some ⟨g,0,none⟩) l.length cap):=by simp [World.cell?,show u.drew.heap[b]? = _ from hb]
  have hSD:(Builtin.unsafeSliceData_ #[90] 173 #[.slice (some ⟨g,0,none⟩) l.length cap]).run Tryz.prog u.drew = .ok (.pointer (some ⟨g,0,none⟩)) u.drew:=
   Lib.run_unsafeSliceData_row _ _ _ _ _ _ (by omega)
  have hUS:(Builtin.unsafeString_ #[173,3] 9 #[.pointer (some ⟨g,0,none⟩),.int .i64 l.length]).run Tryz.prog u.drew = .ok (.string ⟨l.toArray⟩) (u.drew.freeze ⟨g,0,none⟩ l.length):=by
   refine Lib.run_unsafeString_row u.drew 173 3 9 5 Tryz.underlying173 (by kernel_rfl) g cur.size (by have hg':u.drew.heap[g]? = some (.cells cur 5 (0,0)):=hg;simp [World.shape?,hg']) l h0 (by omega) (by unfold maxLen at hcm;omega) ?_
   intro j x hx
   exact hrow.cells (g:=g) rfl j (.int .u8 x.toNat) (by simp [Lib.byteCells,hx])
  have KF:=Hid.mk (((Qb.refl [g] u).drew).trans (QcT u.drew g l.length))
  clear hb hrow ho hp hg hbg hnc hcm hcs htake hl0
  go_enter Tryz.func45,Tryz.ntmps45
  go_wp2
  go_region
  all_goals (go_wp2;go_ret;exact ⟨rfl,KF.out⟩)
abbrev Q5i (S D:Nat):Obj:=.cells #[.pointer (some ⟨S,0,none⟩),.pointer (some ⟨D,0,none⟩)] 96
structure QfL (bs:List (Nat×Obj)) (X S D n:Nat) (ds:List DefL):Prop where
 srv:(X,Q5i S D)∈bs
 desk:∃ v Sm P K,Q78 bs D v Sm P 64 10000 100000 K n ds
 good:∀ x∈(Q09 ds).1,Q1w x
 ends:Q8B ds 64 10000 100000
theorem QiY {w0:World} {S b X Xb D n:Nat} {F0:List Nat} {bs:List (Nat×Obj)} {ds:List DefL} (hs:QfL bs X S D n ds) (hw:∀ p∈bs,w0.heap[p.1]? = some p.2) (hsep:∀ p∈bs,p.1 ∉ S :: F0) (hx:w0.heap[Xb]? = some (.cells #[.pointer (some ⟨X,0,none⟩)] 53)) (hxs:Xb ∉ S :: F0):Qhz w0 S b Xb F0 (Q5w ds n 64 10000 100000):=by
 intro u out r v hb hk hr hout
 have hw1:∀ p∈bs,u.heap[p.1]? = some p.2:=fun p hp=>(hk.block _ (Qc (hw p hp)) (hsep p hp)).trans (hw p hp)
 have hx1:=(hk.block _ (Qc hx) hxs).trans hx
 have c0:=Qv hx1
 obtain ⟨d0,d1,df,dl⟩:u.cell? ⟨X,0,none⟩=some (.pointer (some ⟨S,0,none⟩))∧u.cell? ⟨X,1,none⟩=some (.pointer (some ⟨D,0,none⟩))∧(∀ i,u.frozen? ⟨X,i,none⟩=false)∧X < u.heap.size:=by
  have:=hw1 _ hs.srv
  refine ⟨?_,?_,?_,Qc this⟩<;>simp [World.cell?,World.frozen?,this]
 obtain ⟨dv,Sm,P,K,hD⟩:=hs.desk
 have VR:=Hid.mk (QhC hD hw1 hs.good hs.ends r hr)
 have hlen:=QaO ds n 64 10000 100000 r
 have HB:=Hid.mk hb
 clear hw1 hx1 hk hw hx hs hD hb
 by_cases he:Q1f ds n 64 10000 100000 r=[]
 ·have E:Hid (Q5w ds n 64 10000 100000 r=[]):=by show _=_;unfold Q5w;rw [if_pos he]
  rw [he] at VR
  go_enter Tryz.func41,Tryz.ntmps41
  go_wp2_with fail
  refine VR.out.mono ?_
  rintro e w1 ⟨rfl,hk1⟩
  have HK1:=Hid.mk hk1
  clear hk1 VR
  go_wp2
  go_end0
  refine ⟨rfl,v,?_,HK1.out.mono (by simp),fun g hg=>Or.inl hg⟩
  rw [E.out,List.append_nil]
  exact HB.out.keep HK1.out (by simp) (by simp)
 ·have E:Hid (Q5w ds n 64 10000 100000 r=Q4G (Q1f ds n 64 10000 100000 r)):=by show _=_;unfold Q5w;rw [if_neg he]
  have hb0:=Qae he
  have VF:=Hid.mk (QcQ (Q1f ds n 64 10000 100000 r) (by omega))
  have hfl:(Q4G (Q1f ds n 64 10000 100000 r)).length≤200000:=by unfold Q4G;rw [List.length_append,Q0H];simp;omega
  have hfn:Q4G (Q1f ds n 64 10000 100000 r)≠[]:=by
   intro e
   have:=congrArg List.length e
   unfold Q4G at this
   rw [List.length_append,Q0H] at this
   simp at this
  have VW:=Hid.mk (fun u' (hk:Qb [] u u')=>Q9s (HB.out.keep hk (by simp) (by simp)) (Q4G (Q1f ds n 64 10000 100000 r)) (by omega) hfn)
  clear he hfl hfn hlen
  generalize Q1f ds n 64 10000 100000 r=rep at *
  generalize Q4G rep=fr at *
  go_enter Tryz.func41,Tryz.ntmps41
  go_wp2_with fail
  refine VR.out.mono ?_
  rintro e w1 ⟨rfl,hk1⟩
  have HK1:=Hid.mk hk1
  clear hk1 VR
  go_wp2_with fail
  refine (VF.out _).mono ?_
  rintro e w2 ⟨rfl,hk2⟩
  have HK2:=Hid.mk (HK1.out.trans hk2)
  clear hk2 VF
  go_wp2_with fail
  refine (VW.out _ HK2.out).mono ?_
  rintro e w3 ⟨⟨x,rfl⟩,v',hb3,hk3,hf3⟩
  have H3:=Hid.mk (And.intro hb3 (And.intro hk3 hf3))
  clear hb3 hk3 hf3 VW
  go_wp2
  go_end0
  obtain ⟨hb3,hk3,hf3⟩:=H3.out
  refine ⟨rfl,v',by rw [E.out];exact hb3,(HK2.out.mono (by simp)).trans hk3,fun g hg=>?_⟩
  rcases hf3 g hg with h | h
  ·exact Or.inl h
  ·exact Or.inr (Nat.le_trans HK2.out.size h)
theorem QiZ {w:World} {lo S X D n:Nat} {bs:List (Nat×Obj)} {ds:List DefL} (hs:QfL bs X S D n ds) (hw:∀ p∈bs,w.heap[p.1]? = some p.2) {s:SSt} {hv rv:Value} (h:Q1K lo S s hv rv w) (hi:SInv s) (hsep:∀ p∈bs,p.1 ∉ S :: foot hv rv) (c:List UInt8) (hc:c.length≤1000000) :
  Calls Tryz.prog 24 #[.pointer (some ⟨X,0,none⟩),.string ⟨c.toArray⟩] w fun e u'=>e = .returned (.string ⟨(allR ds n 64 10000 100000 (QE s c).2).toArray⟩)∧Q3R lo S (QE s c).1 (foot hv rv) w u':=by
 have hlt:=h.cells.2.2.2.2.2.2.2
 have k0:Qb [] w (w.alloc (.cells #[.pointer (some ⟨X,0,none⟩)] 53)):=(Qb.refl [] w).alloc _
 have k1:Qb [] (w.alloc (.cells #[.pointer (some ⟨X,0,none⟩)] 53)) ((w.alloc (.cells #[.pointer (some ⟨X,0,none⟩)] 53)).alloc (.cells #[.pointer none,.slice none 0 0] 92)):=(Qb.refl [] _).alloc _
 have hw0:=Q0q hw k0
 have hT:=QiY (b:=w.heap.size + 1) hs hw0 hsep (Qg rfl) (by
  intro hm
  rcases List.mem_cons.1 hm with hm | hm
  ·omega
  ·have:=(Q79 h hm).2;omega)
 have hR:Qbx (w.alloc (.cells #[.pointer (some ⟨X,0,none⟩)] 53)) lo S (w.heap.size + 1) (foot hv rv) (Q5w ds n 64 10000 100000) s c c ((w.alloc (.cells #[.pointer (some ⟨X,0,none⟩)] 53)).alloc (.cells #[.pointer none,.slice none 0 0] 92)):=by
  refine ⟨s,[],hv,rv,.slice none 0 0,⟨h.keep (k0.trans k1) (by simp) (by simp),⟨⟨_,Or.inl rfl,Qg (by simp)⟩,World.ownsRow_nil _ _ _ _,by simp⟩,?_,k1.mono (by simp),fun g hg=>Or.inl hg,by simp⟩,hi,rfl,by simp,by simp⟩
  intro g hg
  have:=(Q79 h hg).2
  exact ⟨by omega,by simp [Value.ownBlock]⟩
 have VT:=Hid.mk (QiT hT (fun r=>Nat.le_trans (Qcu ds n 64 10000 100000 r) (by omega)) hc hR)
 have VS:=Hid.mk (fun (u':World) (s':SSt) (out:List UInt8) (hv' rv' v':Value) (h:Q3S (w.alloc (.cells #[.pointer (some ⟨X,0,none⟩)] 53)) lo S (w.heap.size + 1) (foot hv rv) s' out hv' rv' v' u')=>QdP h.bd)
 obtain ⟨d0,d1,df,dl⟩:((w.alloc (.cells #[.pointer (some ⟨X,0,none⟩)] 53)).alloc (.cells #[.pointer none,.slice none 0 0] 92)).cell? ⟨X,0,none⟩=some (.pointer (some ⟨S,0,none⟩))∧((w.alloc (.cells #[.pointer (some ⟨X,0,none⟩)] 53)).alloc (.cells #[.pointer none,.slice none 0 0] 92)).cell? ⟨X,1,none⟩=some (.pointer (some ⟨D,0,none⟩))∧(∀ i,((w.alloc (.cells #[.pointer (some ⟨X,0,none⟩)] 53)).alloc (.cells #[.pointer none,.slice none 0 0] 92)).frozen? ⟨X,i,none⟩=false)∧X < ((w.alloc (.cells #[.pointer (some ⟨X,0,none⟩)] 53)).alloc (.cells #[.pointer none,.slice none 0 0] 92)).heap.size:=by
  have:=Q0q hw0 k1 _ hs.srv
  refine ⟨?_,?_,?_,Qc this⟩<;>simp [World.cell?,World.frozen?,this]
 have x0:((w.alloc (.cells #[.pointer (some ⟨X,0,none⟩)] 53)).alloc (.cells #[.pointer none,.slice none 0 0] 92)).cell? ⟨w.heap.size,0,none⟩=some (.pointer (some ⟨X,0,none⟩)):=Qv ((Below.heap_alloc _ _ _ (by simp)).trans (Qg rfl))
 have K0:=Hid.mk k0
 have hmf:∀ (fn:Fn) (first cap:Array Value) (w:World),(Instr.makeFunc fn first cap).run Tryz.prog w = .ok (.func fn first cap) w:=fun _ _ _ _=>rfl
 clear hs hw h hi hsep k0 k1 hw0 hT hR
 go_enter Tryz.func24,Tryz.ntmps24
 go_wp2_with fail
 refine VT.out.mono ?_
 rintro e w1 ⟨rfl,hv1,rv1,v1,hF,hi1⟩
 have VS:=Hid.mk (VS.out _ _ _ _ _ _ hF)
 have HF:=Hid.mk hF
 clear VT hF
 go_wp2_with fail
 refine VS.out.mono ?_
 rintro e w2 ⟨rfl,hk2⟩
 have HK2:=Hid.mk hk2
 clear hk2 VS
 go_wp2
 go_ret
 refine ⟨rfl,hv1,rv1,HF.out.st.keep HK2.out (fun hm=>HF.out.sv (by simpa using hm)) (fun g hg hm=>(HF.out.apart g hg).2 (by simpa using hm)),?_,?_⟩
 ·refine ((K0.out.mono (by simp)).trans HF.out.kp).young HK2.out (fun m hm=>Or.inr ?_)
  have:=(Q0z HF.out.bd.row (by simpa using hm:v1.ownBlock=some m)).1
  exact Nat.le_trans K0.out.size this
 ·intro g hg
  rcases HF.out.fresh g hg with h | h
  ·exact Or.inl h
  ·exact Or.inr (Nat.le_trans K0.out.size h)
theorem Q6M {w:World} {S X D:Nat} {s:SSt} {hv rv:Value} (hx:w.heap[X]? = some (Q5i S D)) (h:w.heap[S]? = some (Q11 s hv rv)) :
  Calls Tryz.prog 25 #[.pointer (some ⟨X,0,none⟩)] w fun e u'=>e = .returned (.bool s.closed)∧u'=w:=by
 obtain ⟨d0,d1,df,dl⟩:w.cell? ⟨X,0,none⟩=some (.pointer (some ⟨S,0,none⟩))∧w.cell? ⟨X,1,none⟩=some (.pointer (some ⟨D,0,none⟩))∧(∀ i,w.frozen? ⟨X,i,none⟩=false)∧X < w.heap.size:=by
  refine ⟨?_,?_,?_,Qc hx⟩<;>simp [World.cell?,World.frozen?,hx]
 have VC:=Hid.mk (Qhu (lo:=0) h)
 clear hx h
 go_enter Tryz.func25,Tryz.ntmps25
 go_wp2_with fail
 refine VC.out.mono ?_
 rintro e w1 ⟨rfl,rfl⟩
 go_wp2
 go_ret
 exact ⟨rfl,rfl⟩
theorem Q41.more {bs bs':List (Nat×Obj)} (hb:∀ p∈bs,p∈bs') {v:Value} {S P:Nat} {ds:List DefL} (h:Q41 bs v S P ds):Q41 bs' v S P ds:=by
 obtain ⟨lp,h1,h2,h3,h4⟩:=h.progs
 exact ⟨h.code.more hb,hb _ h.types,h.nd,lp,hb _ h1,fun p hp=>(h2 p hp).more hb,h3,h4⟩
abbrev ansV (K:Nat):Value:=.func (.func 73) #[] #[.pointer (some ⟨K,0,none⟩)]
abbrev Q0r:SSt:=⟨600,[],0,false,[],false⟩
def QjZ (w:World) (v:Value) (Sm P K:Nat) (e:Ending) (u:World):Prop:=∃ X S D,e = .returned (.tuple #[.pointer (some ⟨X,0,none⟩),.nilIface])∧Qb [] w u∧w.heap.size≤S∧w.heap.size≤D∧w.heap.size≤X∧u.heap[S]? = some (Q11 Q0r (.slice none 0 0) (.slice none 0 0))∧u.heap[D]? = some (Q5M v Sm P 64 10000 100000 K)∧u.heap[X]? = some (Q5i S D)
theorem QhE {w:World} {B Sm P K:Nat} {dsl v:Value} (hB:w.heap[B]? = some (.cells #[dsl,v,.map (some Sm),.map (some P)] 70)) (hv:∃ a b d,v = .slice a b d) :
  Calls Tryz.prog 38 #[.pointer (some ⟨B,0,none⟩),.agg #[.int .i64 64,.int .i64 10000,.int .i64 100000],.int .i64 600,ansV K] w (QjZ w v Sm P K):=by
 obtain ⟨va,vb,vc,rfl⟩:=hv
 have hb0:Below w.heap.size w (w.alloc (.cells #[.int .i64 64,.int .i64 10000,.int .i64 100000] 33)):=(Below.refl _ _).alloc (Nat.le_refl _) _
 have x0:(w.alloc (.cells #[.int .i64 64,.int .i64 10000,.int .i64 100000] 33)).heap[w.heap.size]? = some (.cells #[.int .i64 64,.int .i64 10000,.int .i64 100000] 33):=Qg rfl
 have y0:=(hb0.block _ (Qc hB)).trans hB
 obtain ⟨e0,e1,e2,ef,el⟩:=Q0y x0
 have VM:=fun u=>QjM 64 10000 100000 u
 have VU:=fun u=>Q6d 600 100000 u
 rw [show mayB 64 10000 100000=true from rfl] at VM
 rw [show Q47 600 100000=true from rfl] at VU
 have X0:=Hid.mk x0
 have Y0:=Hid.mk y0
 have HB0:=Hid.mk hb0
 clear hB x0 y0 hb0
 go_enter Tryz.func38,Tryz.ntmps38
 go_wp2_with fail
 refine (VM _).mono ?_
 rintro e w1 ⟨rfl,hb1⟩
 have x1:=(hb1.block _ (Qc X0.out)).trans X0.out
 have y1:=(hb1.block _ (Qc Y0.out)).trans Y0.out
 have HB1:=Hid.mk (HB0.out.trans (hb1.mono HB0.out.size))
 obtain ⟨f0,f1,f2,ff,fl⟩:=Q0y x1
 obtain ⟨d1,d2,d3⟩:w1.cell? ⟨B,1,none⟩=some (.slice va vb vc)∧w1.cell? ⟨B,2,none⟩=some (.map (some Sm))∧w1.cell? ⟨B,3,none⟩=some (.map (some P)):=⟨Q1x y1 rfl,Q1x y1 rfl,Q1x y1 rfl⟩
 clear hb1 x1 y1 X0 Y0 HB0 e0 e1 e2 ef el VM
 go_wp2_with (go_at_call 71;refine (VU _).mono ?_;rintro e w2 ⟨rfl,rfl⟩)
 have VN:Hid (∀ (u:World),Calls Tryz.prog 72 #[.int .i64 600] u fun e u'=>e = .returned (.pointer (some ⟨u.heap.size,0,none⟩))∧u'=u.alloc (Q11 Q0r (.slice none 0 0) (.slice none 0 0))):=fun u=>Qkl 600 u
 go_region
 go_wp2_with (go_at_call 72;refine (VN.out _).mono ?_;rintro e w3 ⟨rfl,rfl⟩)
 go_ret2
 have hsz:=HB1.out.size
 refine ⟨w2.heap.size + 1 + 1,w2.heap.size + 1,w2.heap.size,rfl,((((Qb.of_below [] HB1.out).alloc _).alloc _).alloc _).drew,by omega,by omega,by omega,?_,?_,?_⟩
 ·rw [Q6B]
  exact (Below.heap_alloc _ _ _ (by simp)).trans (Qg (by simp))
 ·rw [Q6B]
  exact (Below.heap_alloc _ _ _ (by simp;omega)).trans ((Below.heap_alloc _ _ _ (by simp)).trans (Qg rfl))
 ·rw [Q6B]
  exact Qg (by simp)
theorem QcU (n:Nat) (u:World):Calls Tryz.prog 39 #[.int .i64 n] u fun e u'=>e = .returned (ansV u.heap.size)∧u'=u.alloc (.cells #[.int .i64 n] 3):=by
 have hmf:∀ (fn:Fn) (first cap:Array Value) (w:World),(Instr.makeFunc fn first cap).run Tryz.prog w = .ok (.func fn first cap) w:=fun _ _ _ _=>rfl
 go_enter Tryz.func39,Tryz.ntmps39
 go_wp2
 go_ret
 exact ⟨rfl,rfl⟩
def Qk0 (w:World) (v:Value) (Sm P n:Nat) (e:Ending) (u:World):Prop:=∃ X S D K,e = .returned (.tuple #[.pointer (some ⟨X,0,none⟩),.nilIface])∧Qb [] w u∧w.heap.size≤S∧u.heap[S]? = some (Q11 Q0r (.slice none 0 0) (.slice none 0 0))∧u.heap[D]? = some (Q5M v Sm P 64 10000 100000 K)∧u.heap[X]? = some (Q5i S D)∧u.heap[K]? = some (.cells #[.int .i64 n] 3)
theorem Qaz {w:World} {B Sm P:Nat} {dsl v:Value} (n:Nat) (hB:w.heap[B]? = some (.cells #[dsl,v,.map (some Sm),.map (some P)] 70)) (hv:∃ a b d,v = .slice a b d) :
  Calls Tryz.prog 23 #[.pointer (some ⟨B,0,none⟩),.agg #[.int .i64 64,.int .i64 10000,.int .i64 100000],.int .i64 600,.int .i64 n] w (Qk0 w v Sm P n):=by
 have x0:(w.alloc (.cells #[.int .i64 64,.int .i64 10000,.int .i64 100000] 33)).heap[w.heap.size]? = some (.cells #[.int .i64 64,.int .i64 10000,.int .i64 100000] 33):=Qg rfl
 obtain ⟨e0,e1,e2,ef,el⟩:=Q0y x0
 have X0:=Hid.mk x0
 have VS:=Hid.mk (fun (w':World) (K:Nat) (hk:Qb [] w w')=>QhE (K:=K) ((hk.block _ (Qc hB) (by simp)).trans hB) hv)
 clear hB hv x0
 go_enter Tryz.func23,Tryz.ntmps23
 go_wp2_with fail
 refine Qu (fun w'=>w'.cell? ⟨w.heap.size,0,none⟩=some (.int .i64 64)∧w'.cell? ⟨w.heap.size,1,none⟩=some (.int .i64 10000)∧w'.cell? ⟨w.heap.size,2,none⟩=some (.int .i64 100000)) (L:=9) (by kernel_rfl) rfl (by kernel_rfl) (by kernel_rfl) ?_ (fun hHeld=>?_)
 ·go_keep
 refine tk (i:=0) (v:=?_) rfl (by kernel_rfl) (fun _ _ _ h=>h) (by kernel_rfl) (by assumption) ?_ ?_
 rotate_left
 ·intro w hSw;(try dsimp only at hSw);go_simp;(try with_reducible rfl)
 (try simp only [Qd,Qe,List.set])
 refine tk (i:=1) (v:=?_) rfl (by kernel_rfl) (fun _ _ _ h=>h) (by kernel_rfl) (by assumption) ?_ ?_
 rotate_left
 ·intro w hSw;(try dsimp only at hSw);go_simp;(try with_reducible rfl)
 (try simp only [Qd,Qe,List.set])
 refine tk (i:=2) (v:=?_) rfl (by kernel_rfl) (fun _ _ _ h=>h) (by kernel_rfl) (by assumption) ?_ ?_
 rotate_left
 ·intro w hSw;(try dsimp only at hSw);go_simp;(try with_reducible rfl)
 (try simp only [Qd,Qe,List.set])
 refine tk (i:=3) (v:=?_) rfl (by kernel_rfl) (fun _ _ _ h=>h) (by kernel_rfl) (by assumption) ?_ ?_
 rotate_left
 ·intro w hSw;(try dsimp only at hSw);go_simp;(try with_reducible rfl)
 (try simp only [Qd,Qe,List.set])
 refine wpAnyH_ready (rs:=[4]) (by kernel_rfl) (by simp) ?_
 refine AllReadyH.cons rfl (fun K hK=>?_) AllReadyH.nil
 (go_simp;go_at_call 39;refine (QcU n _).mono ?_;rintro e w1 ⟨rfl,rfl⟩;obtain ⟨e0,e1,e2,ef,el⟩:=Q0y (((((Qb.refl [] (w.alloc (.cells #[.int .i64 64,.int .i64 10000,.int .i64 100000] 33))).drew).alloc (.cells #[.int .i64 n] 3)).block _ (Qc X0.out) (by simp)).trans X0.out))
 refine hK.out _ _ ?_ (fun hHeld=>?_)
 ·go_keep
 clear hK K
 (try simp only [Qd,Qe,List.set])
 have KA:Hid (Qb [] w (((w.alloc (.cells #[.int .i64 64,.int .i64 10000,.int .i64 100000] 33)).drew).alloc (.cells #[.int .i64 n] 3))):=(((Qb.refl [] w).alloc _).drew).alloc _
 have HKn:Hid (((w.alloc (.cells #[.int .i64 64,.int .i64 10000,.int .i64 100000] 33)).drew.alloc (.cells #[.int .i64 n] 3)).heap[(w.alloc (.cells #[.int .i64 64,.int .i64 10000,.int .i64 100000] 33)).drew.heap.size]? = some (.cells #[.int .i64 n] 3)):=Qg rfl
 have HX:Hid (((w.alloc (.cells #[.int .i64 64,.int .i64 10000,.int .i64 100000] 33)).drew.alloc (.cells #[.int .i64 n] 3)).heap[w.heap.size]? = some (.cells #[.int .i64 64,.int .i64 10000,.int .i64 100000] 33)):=(((((Qb.refl [] (w.alloc (.cells #[.int .i64 64,.int .i64 10000,.int .i64 100000] 33))).drew).alloc (.cells #[.int .i64 n] 3)).block _ (Qc X0.out) (by simp)).trans X0.out)
 generalize (w.alloc (.cells #[.int .i64 64,.int .i64 10000,.int .i64 100000] 33)).drew.alloc (.cells #[.int .i64 n] 3)=W at *
 generalize (w.alloc (.cells #[.int .i64 64,.int .i64 10000,.int .i64 100000] 33)).drew.heap.size=Kn at *
 refine wpAnyH_ready (rs:=[5]) (by kernel_rfl) (by simp) ?_
 refine AllReadyH.cons rfl (fun K hK=>?_) AllReadyH.nil
 (go_simp;go_at_call 38;refine (VS.out W Kn KA.out).mono ?_;rintro e w2 ⟨Xs,Ss,Ds,rfl,hk2,g1,g2,g3,g4,g5,g6⟩;obtain ⟨e0,e1,e2,ef,el⟩:=Q0y ((hk2.block _ (Qc HX.out) (by simp)).trans HX.out);have G:=Hid.mk (And.intro g1 (And.intro g4 (And.intro g5 g6)));have HK2:=Hid.mk hk2;clear hk2 g1 g2 g3 g4 g5 g6)
 refine hK.out _ _ ?_ (fun hHeld=>?_)
 ·go_keep
 clear hK K
 (try simp only [Qd,Qe,List.set])
 refine tk (i:=6) (v:=?_) rfl (by kernel_rfl) (fun _ _ _ h=>h) (by kernel_rfl) (by assumption) ?_ ?_
 rotate_left
 ·intro w hSw;(try dsimp only at hSw);go_simp;(try with_reducible rfl)
 (try simp only [Qd,Qe,List.set])
 refine tk (i:=7) (v:=?_) rfl (by kernel_rfl) (fun _ _ _ h=>h) (by kernel_rfl) (by assumption) ?_ ?_
 rotate_left
 ·intro w hSw;(try dsimp only at hSw);go_simp;(try with_reducible rfl)
 (try simp only [Qd,Qe,List.set])
 refine tk (i:=8) (v:=?_) rfl (by kernel_rfl) (fun _ _ _ h=>h) (by kernel_rfl) (by assumption) ?_ ?_
 rotate_left
 ·intro w hSw;(try dsimp only at hSw);go_simp;(try with_reducible rfl)
 (try simp only [Qd,Qe,List.set])
 refine wpAnyH_done (by kernel_rfl) ?_ _
 refine QB rfl (fun K hK=>?_)
 go_simp
 refine hK.out _ _ ?_
 clear hK K
 (try simp only [Qd,Qe,List.set])
 go_wp2
 go_ret2
 obtain ⟨g1,g4,g5,g6⟩:=G.out
 exact ⟨Xs,Ss,Ds,Kn,rfl,KA.out.trans HK2.out,Nat.le_trans KA.out.size g1,g4,g5,g6,(HK2.out.block _ (Qc HKn.out) (by simp)).trans HKn.out⟩
theorem Q6C:SInv Q0r:=⟨by simp,by simp,by simp⟩
theorem QcV (ds:List DefL) (n dep fuel size:Nat) (a b:List (List UInt8)):allR ds n dep fuel size (a++b)=allR ds n dep fuel size a++allR ds n dep fuel size b:=by
 unfold allR
 rw [List.flatMap_append]
theorem Qeb:∀ (c:List UInt8) (s:SSt),(QE s c).2.length≤c.length:=by
 intro c
 induction c with
 | nil=>intro s;simp [QE]
 | cons x c ih=>
  intro s
  have h1:(Q4F s x).2.length≤1:=by
   unfold Q4F
   split
   ·simp
   ·unfold finS
    split<;>simp
  have:=ih (Q4F s x).1
  simp only [QE,List.length_append,List.length_cons]
  omega
theorem QcW (ds:List DefL) (n:Nat) (l:List (List UInt8)):(allR ds n 64 10000 100000 l).length≤200000 * l.length:=by
 unfold allR
 induction l with
 | nil=>simp
 | cons x l ih=>
  have:=Qcu ds n 64 10000 100000 x
  simp only [List.flatMap_cons,List.length_append,List.length_cons]
  omega
structure Q55 (base:Nat) (bs:List (Nat×Obj)) (X S D n:Nat) (u:World):Prop where
 srv:QfL bs X S D n Q0g
 held:∀ p∈bs,u.heap[p.1]? = some p.2
 off:∀ p∈bs,p.1 < base∨∀ s hv rv,p.2≠Q11 s hv rv
 low:base≤S
 box:∃ s hv rv,u.heap[S]? = some (Q11 s hv rv)
theorem Q55.ne {base:Nat} {bs:List (Nat×Obj)} {X S D n:Nat} {u:World} (h:Q55 base bs X S D n u) {S':Nat} (hl:base≤S') (hs:∃ s hv rv,u.heap[S']? = some (Q11 s hv rv)):∀ p∈bs,p.1≠S':=by
 intro p hp e
 rcases h.off p hp with ho | ho
 ·omega
 ·obtain ⟨s,hv,rv,hs⟩:=hs
  have:=h.held p hp
  rw [e,hs] at this
  injection this with this
  exact ho _ _ _ this.symm
theorem Q55.keep {base:Nat} {bs:List (Nat×Obj)} {X S D n:Nat} {u u':World} {S':Nat} (h:Q55 base bs X S D n u) (hk:Qb [S'] u u') (hl:base≤S') (hs:∃ s hv rv,u.heap[S']? = some (Q11 s hv rv)) (hn:S≠S'):Q55 base bs X S D n u':=by
 obtain ⟨s,hv,rv,hb⟩:=h.box
 exact ⟨h.srv,fun p hp=>(hk.block _ (Qc (h.held p hp)) (by simpa using h.ne hl hs p hp)).trans (h.held p hp),h.off,h.low,s,hv,rv,(hk.block _ (Qc hb) (by simpa using hn)).trans hb⟩
theorem Q55.keeps {base:Nat} {bs:List (Nat×Obj)} {X S D n:Nat} {u u':World} (h:Q55 base bs X S D n u) (hk:Qb [] u u'):Q55 base bs X S D n u':=by
 obtain ⟨s,hv,rv,hb⟩:=h.box
 exact ⟨h.srv,Q0q h.held hk,h.off,h.low,s,hv,rv,(hk.block _ (Qc hb) (by simp)).trans hb⟩
theorem Q9t {bs:List (Nat×Obj)} {base:Nat} {w u:World} {v:Value} {Sm P K n:Nat} (hU:Q41 bs v Sm P Q0g) (hw:∀ p∈bs,w.heap[p.1]? = some p.2) (hlt:∀ p∈bs,p.1 < base) (hn:n≤1000000) {X S D:Nat} (hk:Qb [] w u) (hS:base≤S) (hs:u.heap[S]? = some (Q11 Q0r (.slice none 0 0) (.slice none 0 0))) (hD:u.heap[D]? = some (Q5M v Sm P 64 10000 100000 K)) (hX:u.heap[X]? = some (Q5i S D)) (hK:u.heap[K]? = some (.cells #[.int .i64 n] 3)) :
  Q55 base ((X,Q5i S D) :: (D,Q5M v Sm P 64 10000 100000 K) :: (K,.cells #[.int .i64 n] 3) :: bs) X S D n u:=by
 have hm:∀ p∈bs,p∈((X,Q5i S D) :: (D,Q5M v Sm P 64 10000 100000 K) :: (K,.cells #[.int .i64 n] 3) :: bs):=fun p hp=>by simp [hp]
 refine ⟨⟨by simp,⟨v,Sm,P,K,hU.more hm,by simp,by simp,by omega,by omega,by omega,hn⟩,Qhi,QfC hU.nd _ _ (by omega)⟩,?_,?_,hS,_,_,_,hs⟩
 ·intro p hp
  simp only [List.mem_cons] at hp
  rcases hp with rfl | rfl | rfl | hp
  ·exact hX
  ·exact hD
  ·exact hK
  ·exact Q0q hw hk p hp
 ·intro p hp
  simp only [List.mem_cons] at hp
  rcases hp with rfl | rfl | rfl | hp
  ·exact Or.inr fun s hv rv e=>by cases e
  ·exact Or.inr fun s hv rv e=>by cases e
  ·exact Or.inr fun s hv rv e=>by cases e
  ·exact Or.inl (hlt p hp)
theorem QhF {S:Nat} {u:World} (h:u.heap[S]? = some (Q11 Q0r (.slice none 0 0) (.slice none 0 0))):Q1K u.heap.size S Q0r (.slice none 0 0) (.slice none 0 0) u:=
 ⟨h,World.ownsRow_nil _ _ _ _,World.ownsRow_nil _ _ _ _,by simp [Value.ownBlock],Nat.le_refl _,by simp,by simp,by simp⟩
def Fed (w0:World) (S:Nat) (s:SSt) (u:World):Prop:=∃ hv rv,Q1K w0.heap.size S s hv rv u∧Qb [S] w0 u
theorem Fed.start {S:Nat} {u:World} (h:u.heap[S]? = some (Q11 Q0r (.slice none 0 0) (.slice none 0 0))):Fed u S Q0r u:=⟨_,_,QhF h,Qb.refl _ _⟩
theorem Fed.box {w0 u:World} {S:Nat} {s:SSt} (h:Fed w0 S s u):∃ hv rv,u.heap[S]? = some (Q11 s hv rv):=by
 obtain ⟨hv,rv,h,_⟩:=h
 exact ⟨hv,rv,h.box⟩
theorem Fed.kp {w0 u:World} {S:Nat} {s:SSt} (h:Fed w0 S s u):Qb [S] w0 u:=by
 obtain ⟨hv,rv,_,h⟩:=h
 exact h
theorem Q7C {w0 u:World} {bs:List (Nat×Obj)} {X S D n:Nat} {s:SSt} (h:Fed w0 S s u) (hi:SInv s) {base:Nat} (hr:Q55 base bs X S D n w0) (c:List UInt8) (hc:c.length≤1000000) :
  Calls Tryz.prog 24 #[.pointer (some ⟨X,0,none⟩),.string ⟨c.toArray⟩] u fun e u'=>e = .returned (.string ⟨(allR Q0g n 64 10000 100000 (QE s c).2).toArray⟩)∧Fed w0 S (QE s c).1 u':=by
 obtain ⟨hv,rv,h,hk⟩:=h
 have hsep:∀ p∈bs,p.1 ∉ S :: foot hv rv:=by
  intro p hp hm
  rcases List.mem_cons.1 hm with hm | hm
  ·exact hr.ne hr.low hr.box p hp hm
  ·have:=(Q79 h hm).1
   have:=Qc (hr.held p hp)
   omega
 refine (QiZ hr.srv (fun p hp=>(hk.block _ (Qc (hr.held p hp)) (by simpa using hr.ne hr.low hr.box p hp)).trans (hr.held p hp)) h hi hsep c hc).mono ?_
 rintro e u' ⟨rfl,hv',rv',h',hk',hf'⟩
 refine ⟨rfl,hv',rv',h',hk.young hk' ?_⟩
 intro m hm
 rcases List.mem_cons.1 hm with hm | hm
 ·exact Or.inl (by simp [hm])
 ·exact Or.inr (Q79 h hm).1
theorem Qk1 {w:World} (hg:Gl w) (b:List UInt8) (c:Int) (h1:-9223372036854775808≤c) (h2:c≤9223372036854775807) (n:Int) (n1:-9223372036854775808≤n) (n2:n≤9223372036854775807) :
  Calls Tryz.prog 10 #[.string ⟨b.toArray⟩,.int .i64 c,.int .i64 n] w fun e w'=>e = .returned (.bool true)∧Qb [] w w':=by
 have VS:=Hid.mk (QiM hg)
 have VW:=Hid.mk QiN
 have VP:=Hid.mk (QcL n 6 n1 n2 (by omega) (by omega))
 have hq:=QcM n (n:=6) (by omega)
 generalize Q6y n 6=q at VP hq
 clear hg n1 n2
 by_cases lb:b.length≤4000
 ·have VQ:=QcL c (b.length + 1) h1 h2 (by omega) (by omega)
  rw [show ((b.length + 1:Nat):Int)=(b.length:Int) + 1 by omega] at VQ
  have VQ:=Hid.mk VQ
  have hk:=QcM c (n:=b.length + 1) (by omega)
  generalize Q6y c (b.length + 1)=k at VQ hk
  have b2:(b.length:Int)≤4000:=by omega
  have hn2:=Q9r
  obtain ⟨hap1,hap2⟩:(QE Q0r b).1=(QE (QE Q0r (b.take k)).1 (b.drop k)).1∧(QE Q0r b).2=(QE Q0r (b.take k)).2++(QE (QE Q0r (b.take k)).1 (b.drop k)).2:=by
   have:=Q9i (b.take k) (b.drop k) Q0r
   rw [List.take_append_drop] at this
   exact ⟨by rw [this],by rw [this]⟩
  have HAP1:=Hid.mk hap1
  have HAP2:=Hid.mk hap2
  have hext:=Q1L ⟨b.toArray⟩ k
  have hdrp:=Q7z b k
  clear hap1 hap2
  go_enter Tryz.func10,Tryz.ntmps10
  go_wp2_with fail
  refine VS.out.mono ?_
  rintro e w1 ⟨B,bs,rfl,hk1,hS,hh,hB⟩
  have HK1:=Hid.mk hk1
  have HS:=Hid.mk hS
  have HH:=Hid.mk hh
  clear hk1 hS hh hB VS
  go_wp2_with fail
  refine (VW.out _).mono ?_
  rintro e w2 ⟨rfl,hb2⟩
  have kl:Qb [] w2 (w2.alloc (.cells #[.int .i64 64,.int .i64 10000,.int .i64 100000] 33)):=(Qb.refl [] w2).alloc _
  have HK2:=Hid.mk ((HK1.out.trans (Qb.of_below [] hb2)).trans kl)
  have HH2:=Hid.mk (Q0q (Q0q HH.out (Qb.of_below [] hb2)) kl)
  have HL:Hid ((w2.alloc (.cells #[.int .i64 64,.int .i64 10000,.int .i64 100000] 33)).heap[w2.heap.size]? = some (.cells #[.int .i64 64,.int .i64 10000,.int .i64 100000] 33)):=Qg rfl
  clear hb2 VW HK1 HH kl
  obtain ⟨dsl,ps,v,Sm,P,hB,hDf,hU⟩:=HS.out
  clear hDf HS
  have VPl:=Hid.mk (fun (w':World) (hh:∀ p∈bs,w'.heap[p.1]? = some p.2)=>Qaz q (hh _ hB) hU.code.slice)
  have HU:=Hid.mk hU
  clear hU hB
  go_wp2_with fail
  generalize w2.alloc (.cells #[.int .i64 64,.int .i64 10000,.int .i64 100000] 33)=W at *
  generalize w2.heap.size=lb at *
  have hlt:Hid (∀ p∈bs,p.1 < W.heap.size):=fun p hp=>Qc (HH2.out p hp)
  refine (VP.out _).mono ?_
  rintro e w3 ⟨rfl,rfl⟩
  obtain ⟨l0,l1,l2,lf,ll⟩:=Q0y HL.out
  go_wp2_with fail
  refine (VPl.out _ HH2.out).mono ?_
  rintro e wx ⟨X,Sx,Dx,Kx,rfl,hkx,gx1,gx2,gx3,gx4,gx5⟩
  have HXr:=Hid.mk (Q9t HU.out HH2.out hlt.out (by omega) hkx gx1 gx2 gx3 gx4 gx5)
  have HLx:=Hid.mk ((hkx.block _ (Qc HL.out) (by simp)).trans HL.out)
  have HHx:=Hid.mk (Q0q HH2.out hkx)
  have HKx:=Hid.mk hkx
  have GX:=Hid.mk (And.intro gx1 (And.intro gx2 gx4))
  obtain ⟨l0,l1,l2,lf,ll⟩:=Q0y HLx.out
  clear hkx gx1 gx2 gx3 gx4 gx5
  go_wp2_with fail
  refine (VPl.out _ HHx.out).mono ?_
  rintro e wy ⟨Y,Sy,Dy,Ky,rfl,hky,gy1,gy2,gy3,gy4,gy5⟩
  have HYr:=Hid.mk (Q9t HU.out HHx.out hlt.out (by omega) hky (Nat.le_trans HKx.out.size gy1) gy2 gy3 gy4 gy5)
  have HLy:=Hid.mk ((hky.block _ (Qc HLx.out) (by simp)).trans HLx.out)
  have HHy:=Hid.mk (Q0q HHx.out hky)
  have HKy:=Hid.mk hky
  have GY:=Hid.mk (And.intro gy1 (And.intro gy2 gy4))
  obtain ⟨l0,l1,l2,lf,ll⟩:=Q0y HLy.out
  clear hky gy1 gy2 gy3 gy4 gy5
  go_wp2_with fail
  refine (VPl.out _ HHy.out).mono ?_
  rintro e wz ⟨Z,Sz,Dz,Kz,rfl,hkz,gz1,gz2,gz3,gz4,gz5⟩
  have HZr:=Hid.mk (Q9t HU.out HHy.out hlt.out (by omega) hkz (Nat.le_trans HKx.out.size (Nat.le_trans HKy.out.size gz1)) gz2 gz3 gz4 gz5)
  have HKz:=Hid.mk hkz
  have GZ:=Hid.mk (And.intro gz1 (And.intro gz2 gz4))
  clear hkz gz1 gz2 gz3 gz4 gz5 l0 l1 l2 lf ll VPl HLx HLy HHx HHy
  have kyz:=HKy.out.trans HKz.out
  obtain ⟨gx1,gx2,gx4⟩:=GX.out
  obtain ⟨gy1,gy2,gy4⟩:=GY.out
  obtain ⟨gz1,gz2,gz4⟩:=GZ.out
  have sxy:Sx < Sy:=Nat.lt_of_lt_of_le (Qc gx2) gy1
  have syz:Sy < Sz:=Nat.lt_of_lt_of_le (Qc gy2) gz1
  have bx:=(kyz.block _ (Qc gx2) (by simp)).trans gx2
  have by':=(HKz.out.block _ (Qc gy2) (by simp)).trans gy2
  have cx:=(kyz.block _ (Qc gx4) (by simp)).trans gx4
  have cy:=(HKz.out.block _ (Qc gy4) (by simp)).trans gy4
  have KW:=Hid.mk (((HK2.out.trans HKx.out).trans HKy.out).trans HKz.out)
  have RX:=Hid.mk (HXr.out.keeps kyz)
  have RY:=Hid.mk (HYr.out.keeps HKz.out)
  have hbase:w3.heap.size≤Sx:=gx1
  have BX:=Hid.mk bx
  have BY:=Hid.mk by'
  have BZ:=Hid.mk gz2
  have CX:=Hid.mk cx
  have CY:=Hid.mk cy
  have CZ:=Hid.mk gz4
  have hsw:w.heap.size≤w3.heap.size:=HK2.out.size
  clear kyz gx1 gx2 gx4 gy1 gy2 gy4 gz1 gz2 gz4 GX GY GZ bx by' cx cy HK2 HKx HKy HKz HXr HYr HU HH2 HL hlt
  have VF:=Hid.mk (Q7C (Fed.start BX.out) Q6C RX.out b (by omega))
  go_wp2_with fail
  refine VF.out.mono ?_
  rintro e w5 ⟨rfl,hF⟩
  have F1:=Hid.mk hF
  clear hF VF
  go_wp2_with fail
  refine (VQ.out _).mono ?_
  rintro e w6 ⟨rfl,rfl⟩
  have k5:=F1.out.kp
  have by5:=(k5.block _ (Qc BY.out) (by simp;omega)).trans BY.out
  have bz5:=(k5.block _ (Qc BZ.out) (by simp;omega)).trans BZ.out
  have RY5:=Hid.mk (RY.out.keep k5 hbase ⟨_,_,_,BX.out⟩ (by omega))
  have RZ5:=Hid.mk (HZr.out.keep k5 hbase ⟨_,_,_,BX.out⟩ (by omega))
  have neX:∀ {T:Nat} {a d:Nat},wz.heap[T]? = some (Q5i a d)→∀ {S':Nat} {s':SSt} {h' r':Value},wz.heap[S']? = some (Q11 s' h' r')→T≠S':=by
   intro T a d h S' s' h' r' h2 e
   rw [e,h2] at h
   cases h
  have cx5:=(k5.block _ (Qc CX.out) (by simpa using neX CX.out BX.out)).trans CX.out
  have cy5:=(k5.block _ (Qc CY.out) (by simpa using neX CY.out BX.out)).trans CY.out
  have cz5:=(k5.block _ (Qc CZ.out) (by simpa using neX CZ.out BX.out)).trans CZ.out
  have NX:=Hid.mk (And.intro (neX CX.out BY.out) (And.intro (neX CX.out BZ.out) (And.intro (neX CY.out BY.out) (And.intro (neX CY.out BZ.out) (neX CZ.out BZ.out)))))
  have BY5:=Hid.mk by5
  have BZ5:=Hid.mk bz5
  have CX5:=Hid.mk cx5
  have CY5:=Hid.mk cy5
  have CZ5:=Hid.mk cz5
  have CZY:=Hid.mk (neX CZ.out BY.out)
  have hk0:(0:Int)≤(k:Int):=by omega
  have hk1:(k:Int)≤(b.length:Int):=by omega
  clear k5 by5 bz5 neX cx5 cy5 cz5 RX RY HZr BY BZ CX CY CZ VQ
  have VF:=Hid.mk (Q7C (Fed.start BY5.out) Q6C RY5.out (b.take k) (by rw [List.length_take];omega))
  go_wp2_with fail
  refine VF.out.mono ?_
  rintro e w7 ⟨rfl,hF⟩
  have VF2:=Hid.mk (Q7C hF (Qcs _ _ Q6C) RY5.out (b.drop k) (by rw [List.length_drop];omega))
  clear hF VF
  go_wp2_with fail
  refine VF2.out.mono ?_
  rintro e w8 ⟨rfl,hF⟩
  have F2:=Hid.mk hF
  clear hF VF2
  have k8:=F2.out.kp
  have bz8:=(k8.block _ (Qc BZ5.out) (by simp;omega)).trans BZ5.out
  have RZ8:=Hid.mk (RZ5.out.keep k8 (by omega) ⟨_,_,_,BY5.out⟩ (by omega))
  obtain ⟨hvx,rvx,bx6⟩:=F1.out.box
  have bx8:=(k8.block _ (Qc bx6) (by simp;omega)).trans bx6
  obtain ⟨hvy,rvy,by8⟩:=F2.out.box
  obtain ⟨nx1,nx2,nx3,nx4,nx5⟩:=NX.out
  have cx8:=(k8.block _ (Qc CX5.out) (by simpa using nx1)).trans CX5.out
  have cy8:=(k8.block _ (Qc CY5.out) (by simpa using nx3)).trans CY5.out
  have cz8:=(k8.block _ (Qc CZ5.out) (by simpa using CZY.out)).trans CZ5.out
  have KW8:Hid (Qb [] w w8):=(KW.out.young F1.out.kp (fun m hm=>Or.inr (by simp only [List.mem_singleton] at hm;omega))).young k8 (fun m hm=>Or.inr (by simp only [List.mem_singleton] at hm;omega))
  have BX8:=Hid.mk bx8
  have BY8:=Hid.mk by8
  have CX8:=Hid.mk cx8
  have CY8:=Hid.mk cy8
  have CZ8:=Hid.mk cz8
  have NE:=Hid.mk (And.intro nx2 (And.intro nx4 nx5))
  have FZ0:=Hid.mk (Fed.start bz8)
  clear k8 bz8 bx6 bx8 by8 nx1 nx2 nx3 nx4 nx5 cx8 cy8 cz8 F1 F2 BY5 BZ5 CX5 CY5 CZ5 RY5 RZ5 NX CZY KW BX hext hdrp
  go_wp2_with fail
  go_loopw [20,21] (fun al i ur=>∃ j:Nat,i = .int .i64 j∧j≤b.length∧al = .string ⟨(allR Q0g q 64 10000 100000 (QE Q0r (b.take j)).2).toArray⟩∧Hid (Fed w8 Sz (QE Q0r (b.take j)).1 ur)) (fun _ i _=>b.length - (intOf i).toNat)
  case atStart=>exact ⟨0,rfl,by omega,rfl,FZ0⟩
  case round=>
   obtain ⟨j,rfl,hj,rfl,FZ⟩:=hrel
   clear FZ0
   rcases Nat.lt_or_ge j b.length with hlt | hge
   ·have j0:(0:Int)≤(j:Int):=by omega
    have j1:(j:Int) < (b.length:Int):=by omega
    have j2:(j:Int)≤(j:Int) + 1:=by omega
    have j3:(j:Int) + 1≤(b.length:Int):=by omega
    have hcut:(⟨b.toArray⟩:ByteArray).extract j (j + 1)=⟨[b[j]].toArray⟩:=by
     rw [Q8e,List.drop_eq_getElem_cons hlt]
     rfl
    have VF:=Hid.mk (Q7C FZ.out (Qcs _ _ Q6C) RZ8.out [b[j]] (by simp))
    obtain ⟨ea,eb⟩:(QE Q0r (b.take (j + 1))).1=(QE (QE Q0r (b.take j)).1 [b[j]]).1∧allR Q0g q 64 10000 100000 (QE Q0r (b.take (j + 1))).2=allR Q0g q 64 10000 100000 (QE Q0r (b.take j)).2++allR Q0g q 64 10000 100000 (QE (QE Q0r (b.take j)).1 [b[j]]).2:=by
     rw [List.take_succ_eq_append_getElem hlt,Q9i,QcV]
     exact ⟨rfl,rfl⟩
    have hsum:¬ (9223372036854775807 < (allR Q0g q 64 10000 100000 (QE Q0r (b.take j)).2).length + (allR Q0g q 64 10000 100000 (QE (QE Q0r (b.take j)).1 [b[j]]).2).length):=by
     have e:=QcW Q0g q (QE Q0r (b.take (j + 1))).2
     have f:=Qeb (b.take (j + 1)) Q0r
     rw [eb,List.length_append] at e
     rw [List.length_take] at f
     omega
    have EA:=Hid.mk ea
    have EB:=Hid.mk eb
    clear ea eb
    go_wp2_with fail
    refine VF.out.mono ?_
    rintro e w9 ⟨rfl,hF⟩
    have FN:=Hid.mk hF
    clear hF VF
    go_wp2
    refine ⟨⟨j + 1,by go_num,hlt,?_,?_⟩,by simp [intOf];omega⟩
    ·rw [EB.out,← Q5h]
    ·show Fed _ _ _ _
     rw [EA.out]
     exact FN.out
   ·have hjj:j=b.length:=by omega
    subst hjj
    rw [List.take_length] at FZ ⊢
    have kr:=FZ.out.kp
    obtain ⟨hvz,rvz,bzr⟩:=FZ.out.box
    obtain ⟨ne1,ne2,ne3⟩:=NE.out
    have VX:=Hid.mk (Q6M ((kr.block _ (Qc CX8.out) (by simpa using ne1)).trans CX8.out) ((kr.block _ (Qc BX8.out) (by simp;omega)).trans BX8.out))
    have VY:=Hid.mk (Q6M ((kr.block _ (Qc CY8.out) (by simpa using ne2)).trans CY8.out) ((kr.block _ (Qc BY8.out) (by simp;omega)).trans BY8.out))
    have VZ:=Hid.mk (Q6M ((kr.block _ (Qc CZ8.out) (by simpa using ne3)).trans CZ8.out) bzr)
    have KR:Hid (Qb [] w wr):=KW8.out.young kr (fun m hm=>Or.inr (by simp only [List.mem_singleton] at hm;omega))
    have e1:allR Q0g q 64 10000 100000 (QE Q0r b).2=allR Q0g q 64 10000 100000 (QE Q0r (b.take k)).2++allR Q0g q 64 10000 100000 (QE (QE Q0r (b.take k)).1 (b.drop k)).2:=by rw [HAP2.out,QcV]
    have e2:(QE (QE Q0r (b.take k)).1 (b.drop k)).1.closed=(QE Q0r b).1.closed:=by rw [HAP1.out]
    have hsum:¬ (9223372036854775807 < (allR Q0g q 64 10000 100000 (QE Q0r (b.take k)).2).length + (allR Q0g q 64 10000 100000 (QE (QE Q0r (b.take k)).1 (b.drop k)).2).length):=by
     have e:=QcW Q0g q (QE Q0r b).2
     have f:=Qeb b Q0r
     rw [e1,List.length_append] at e
     omega
    rw [e2] at VY
    rw [e1]
    clear e1 e2 kr bzr ne1 ne2 ne3 FZ HAP1 HAP2 BX8 BY8 CX8 CY8 CZ8 RZ8 NE KW8
    generalize allR Q0g q 64 10000 100000 (QE Q0r (b.take k)).2=S1 at *
    generalize allR Q0g q 64 10000 100000 (QE (QE Q0r (b.take k)).1 (b.drop k)).2=S2 at *
    generalize (QE Q0r b).1.closed=cb at *
    have hab:=Q5h S1 S2
    go_wp2_with fail
    refine VX.out.mono ?_
    rintro e w9 ⟨rfl,rfl⟩
    go_wp2_with fail
    refine VY.out.mono ?_
    rintro e w10 ⟨rfl,rfl⟩
    go_wp2_with fail
    refine VZ.out.mono ?_
    rintro e w11 ⟨rfl,rfl⟩
    go_wp2
    go_ret
    exact ⟨rfl,KR.out⟩
 ·have b3:(4000:Int) < (b.length:Int):=by omega
  go_enter Tryz.func10,Tryz.ntmps10
  go_wp2_with fail
  refine VS.out.mono ?_
  rintro e w1 ⟨B,bs,rfl,hk1,hS,hh,hB⟩
  have HK1:=Hid.mk hk1
  clear hk1 hS hh hB VS
  go_wp2
  go_ret
  exact ⟨rfl,HK1.out⟩
end Go.Proofs.YtmbcibgknckenaaGreatDoor
namespace Go.Proofs.YtmbcibgknckenaaGreatDoor
open Go.ChangeShapes Go.WideShapes Go.ChangeAt Go.RowKit
theorem Qj0:ownKnob Tryz.prog.godebug=none:=by kernel_rfl
theorem Qko : Tryz.prog.globalNamed "strconv.ErrRange" = some 4 := by kernel_rfl
theorem Qk2 : Tryz.prog.globalNamed "strconv.ErrSyntax" = some 3 := by kernel_rfl
theorem Qkp:(Tryz.prog.globals[4]?).map (·.type)=some 24:=by kernel_rfl
theorem Qk3:(Tryz.prog.globals[3]?).map (·.type)=some 24:=by kernel_rfl
theorem Q8f {W:World} {n:String} {g:Nat} {cs:Array Value} {name:String} {d:DataW Unit} {p:List MemPlace} {fuel:Nat} (hg:Tryz.prog.globalNamed n=some g) (hv:W.var? Tryz.prog n=some cs)
  (hd:DataW.trod (fun _=>()) Tryz.prog W 0 (fun _=>true) false fuel 24 cs.toList=some (.iface name d,p)):∃ te pe,W.cell? ⟨g,0,none⟩=some (.iface te pe):=by
 obtain ⟨_,u,v,hcs,_,_⟩:=iface_of_trod Tryz.underlying24 hd
 refine ⟨u,v,?_⟩
 have:=World.var?_cell hg hv 0
 obtain ⟨l⟩:=cs
 simp only at hcs
 subst hcs
 simpa using this
theorem QfM {W:World} (h:laidMetH Tryz.prog Rows.apartRow.laid W) (hsh:W.ShapedOpen Tryz.prog):Gl W:=by
 rw [MakeChecks.laidMetH_plain _ _ _ (by kernel_rfl)] at h
 obtain ⟨ps,⟨g0,t0,cs0,f0,p0,q0,hg0,ht0,hv0,hd0,⟨g1,t1,cs1,f1,p1,q1,hg1,ht1,hv1,hd1,⟨g2,t2,cs2,f2,p2,q2,hg2,ht2,hv2,hd2,⟨g3,t3,cs3,f3,p3,q3,hg3,ht3,hv3,hd3,⟨g4,t4,cs4,f4,p4,q4,hg4,ht4,hv4,hd4,_,_⟩,_⟩,_⟩,_⟩,_⟩,_,_⟩:=h
 obtain rfl:=Option.some.inj (Qko.symm.trans hg3)
 obtain rfl:=Option.some.inj (Qk2.symm.trans hg4)
 obtain rfl:=Option.some.inj (Qkp.symm.trans ht3)
 obtain rfl:=Option.some.inj (Qk3.symm.trans ht4)
 exact ⟨cell_of_shapedOpen_int (zero:=#[.int .i64 0]) (t:=3) hsh (of_decide_eq_true (by kernel_rfl)) (by kernel_rfl) rfl (by kernel_rfl) (by kernel_rfl) Tryz.underlying3,Q8f hg4 hv4 hd4,Q8f hg3 hv3 hd3⟩
theorem Qj1 (os:Os) (args:Array Value):laidMetH Tryz.prog Rows.apartRow.laid ((World.doorLaid Tryz.prog 88 os).forCall (fun _ _=>0) ⟨#[],args,[]⟩).memory:=
 laidMetH_of_parts3 (fuel:=8) (laidMet_of_run' 8 (by kernel_rfl) (by kernel_rfl)) (by kernel_rfl) (by kernel_rfl)
section
variable {H : Type} {enc : TypeId × Value → H}
theorem QfN {C:Checked} {os:Os} {f:FuncId} {fn:Func} {s:ChangeSpec} {X:World→Array Value→Prop}
  (hX:∀ (w w':World) (args:Array Value),w.heap=w'.heap→X w args→X w' args)
  (own:ownKnob C.prog.godebug=none) (started:os.Started) (noInit:C.prog.inits.idxOf? f=none) (hfn:C.prog.funcs[f]? = some fn)
  (witness:∃ (w:World) (tape:Tape) (i:Input),w.os=os∧(w.forCall tape i).Shaped C.prog∧i.vars=[]∧Input.okWide C.prog (w.forCall tape i) .any w.heap.size f i ∧
   ((s.pre enc C.prog fn [] false (w.forCall tape i).memory i.args∧X (w.forCall tape i).memory i.args)∧sizedMet enc C.prog fn (OpenSpec.ofChange s) false (w.forCall tape i).memory i.args)∧({}:Assume).holds C.prog (lone (Frame.enter C.prog f i.args .normal) [] (w.forCall tape i)))
  (contract:∀ (W:World) (base:Nat) (args:Array Value) (ds gs:List (DataW H)) (before:List MemPlace),
   (∀ (j:Nat) t v,fn.params[j]? = some t→args[j]? = some v→Value.okWide C.prog W .any base t v) →
   DataW.Whole enc C.prog fn.params.toList s.vars false W args.toList ds gs before→X W args→W.ShapedOpen C.prog →
   Calls C.prog f args W fun e W'=>∃ v,e = .returned v∧s.post enc C.prog fn false true false false W args v W') :
  ReturnsInHanded {} C os f .any (fun w args=>(s.pre enc C.prog fn [] false w args∧X w args)∧sizedMet enc C.prog fn (OpenSpec.ofChange s) false w args) (s.post enc C.prog fn false true false false):=by
 refine returnsInHanded_of_calls own started noInit witness ?_
 intro w tape i _ hsh _ hok hpre _
 obtain ⟨_,_,_,fn',hfn',_,_,_,_,hval⟩:=hok
 have e:fn'=fn:=Option.some.inj (hfn'.symm.trans hfn)
 subst e
 obtain ⟨⟨⟨ds,gs,before,hw,hc⟩,hx⟩,hz⟩:=hpre
 have hw':=DataW.Whole.of_heap (w':=w.forCall tape i) (by rfl) hw
 refine (contract (w.forCall tape i) w.heap.size i.args ds gs before hval hw' (hX _ _ _ (by rfl) hx) hsh).mono fun e W' ⟨v,he,hp⟩=>?_
 subst he
 exact ChangeSpec.post_blind hp
end
theorem QaA {w w':World} (h:Qb [] w w'):Below w.heap.size w w':=⟨h.os,h.tape,h.output,h.size,fun k hk=>h.block k hk (by simp)⟩
end Go.Proofs.YtmbcibgknckenaaGreatDoor
namespace Go.Proofs.YtmbcibgknckenaaGreatDoor
theorem QfO:joinedFacts Tryz.pinned.checked.prog 10 Tryz.f10 Rows.cutSpec Rows.cutRow=true:=by
 unfold joinedFacts
 simp only [Bool.and_eq_true]
 repeat' apply And.intro
 all_goals (as_aux_lemma=>kernel_rfl)
end Go.Proofs.YtmbcibgknckenaaGreatDoor
namespace Go.Proofs.YtmbcibgknckenaaGreatDoor
open Go.ChangeShapes Go.WideShapes Go.ChangeAt Go.RowKit
open Go.ChangeMaps (open_string shut_string)
theorem QfP (os:Os) (started:os.Started) (H:Type) (enc:TypeId×Value→H) :
  ReturnsInHanded {} Tryz.checked os 10 .any (fun w args=>(Rows.cutSpec.pre enc Tryz.prog Tryz.f10 [] false w args∧laidMetH Tryz.prog Rows.cutRow.laid w)∧sizedMet enc Tryz.prog Tryz.f10 (OpenSpec.ofChange Rows.cutSpec) false w args)
   (Rows.cutSpec.post enc Tryz.prog Tryz.f10 false true false false):=by
 refine QfN (C:=Tryz.checked) (X:=fun w _=>laidMetH Tryz.prog Rows.cutRow.laid w) (fun _ _ _ hh h=>h.of_heap hh) Qj0 started (by kernel_rfl) Tryz.func10
  (ChangeSpec.witness_shaped (enc:=enc) (C:=Tryz.checked) (os:=os) (X:=fun w _=>laidMetH Tryz.prog Rows.cutRow.laid w) false (World.doorLaid Tryz.prog 88 os) #[.string ⟨#[]⟩,.int .i64 0,.int .i64 0] 8 rfl (World.shaped_of_RefB (by kernel_rfl) (by kernel_rfl)) (by kernel_rfl) (by kernel_rfl) (by kernel_rfl) (Qj1 os _)) ?_
 intro W base args ds gs before hval0 hW hL hsh
 have hval:∀ (j:Nat) t v,Tryz.f10.params[j]? = some t→args[j]? = some v→Value.okWide Tryz.prog W .any base t v:=hval0
 have hW':=hW
 obtain ⟨p,q,hA0,hV,rfl,hfz,hnd⟩:=hW
 have hA:DataW.TrodAll enc Tryz.prog W 0 (fun _=>true) true Tryz.f10.params.toList args.toList ds p:=hA0
 rw [Tryz.params10] at hA hval
 obtain ⟨v0,vs0,d0,ds0,p0,q0,hargs,rfl,rfl,h0,r0⟩:=trodAll_cons hA
 obtain ⟨v1,vs1,d1,ds1,p1,q1,rfl,rfl,rfl,h1,r1⟩:=trodAll_cons r0
 obtain ⟨v2,vs2,d2,ds2,p2,q2,rfl,rfl,rfl,h2,r2⟩:=trodAll_cons r1
 obtain ⟨rfl,rfl,rfl⟩:=trodAll_nil r2
 obtain rfl:args = #[v0,v1,v2]:=by cases args;simp_all
 obtain ⟨rfl,rfl⟩:=trodVars_none hV
 obtain ⟨⟨⟨b⟩⟩,rfl,rfl,rfl,hb⟩:=open_string Tryz.underlying9 (hval 0 9 v0 rfl rfl) h0
 obtain ⟨c,rfl,rfl,rfl,wc⟩:=open_int Tryz.underlying3 (hval 1 3 v1 rfl rfl) h1
 obtain ⟨n,rfl,rfl,rfl,wd⟩:=open_int Tryz.underlying3 (hval 2 3 v2 rfl rfl) h2
 have bc:=bounds_i64 wc
 have bd:=bounds_i64 wd
 clear hA0 hval0
 refine (Qk1 (QfM hL hsh) b c bc.1 bc.2 n bd.1 bd.2).mono fun e W' ⟨he,hk⟩=>?_
 subst he
 have bel:=QaA hk
 exact ⟨_,rfl,_,_,_,[],_,[],hW',trodAll_mk1 (shut_bool Tryz.underlying4 _),(trodAll_cons_mk (shut_string Tryz.underlying9 hb) (trodAll_cons_mk (shut_int Tryz.underlying3 wc) (trodAll_cons_mk (shut_int Tryz.underlying3 wd) trodAll_mk0))),rfl,bel.frame _,fun h=>by cases h⟩
theorem Qk4:Rows.CutSaid:=
 OpenClaim.holds_of_wide 10 Tryz.f10 rfl rfl rfl rfl rfl rfl rfl ⟨rfl,rfl,rfl,rfl,rfl⟩ rfl rfl rfl rfl rfl (by kernel_rfl) Tryz.func10 QfO
  (of_decide_eq_true (by kernel_rfl)) (by unfold Func.isWrapper;rw [if_neg (of_decide_eq_false (by kernel_rfl))];exact ⟨rfl,rfl⟩)
  (fun os started H enc _=>QfP os started H enc)
theorem cut_card:Rows.CutCardSaid:=
 Claim7.holds_tied_plain_at .later [] Rows.cutCard.laidKinds true Rows.cutCard.stood.harness true
  Qk4 (fun _ h=>by cases h) (by kernel_rfl) (fun _ h=>by cases h) cut_row_tie rfl ⟨rfl,rfl⟩ (by kernel_rfl) rfl
  (fun f fn hf hfn=>by
   obtain rfl : f = 10 := Option.some.inj ((show Tryz.prog.funcNamed "marshal/marshalkeep.Cut" = some 10 by kernel_rfl).symm.trans hf) |>.symm
   obtain rfl:fn=Tryz.f10:=(Option.some.inj (Tryz.func10.symm.trans hfn)).symm
   exact ⟨by kernel_rfl,fun j t ht=>by
    rw [Tryz.params10] at ht
    have hm:t∈[9,3,3]:=by simpa using Array.mem_of_getElem? ht
    have hall:([9,3,3].all fun u=>!Tryz.prog.wantsStandIn u)=true:=by kernel_rfl
    exact (show Tryz.prog.wantsStandIn t=false by simpa using List.all_eq_true.1 hall t hm)⟩)
  (by kernel_rfl)
end Go.Proofs.YtmbcibgknckenaaGreatDoor
