import Derived.Test.YtmbcibgknckenaaGreatDoorT14
set_option linter.all false
set_option maxRecDepth 100000
set_option maxHeartbeats 4000000
namespace Go.Proofs.YtmbcibgknckenaaGreatDoor
open Go.RowKit
open Go.MapKept
theorem Qhw {w:World} (hg:Gl w) (c:Int) (h1:-9223372036854775808≤c) (h2:c≤9223372036854775807) (b:List UInt8) (dp fu sz:Int) (d1:-9223372036854775808≤dp) (d2:dp≤9223372036854775807) (f1:-9223372036854775808≤fu) (f2:fu≤9223372036854775807) (s1:-9223372036854775808≤sz) (s2:sz≤9223372036854775807) :
  Calls Tryz.prog 7 #[.int .i64 c,.string ⟨b.toArray⟩,.int .i64 dp,.int .i64 fu,.int .i64 sz] w fun e w'=>e = .returned (.bool true)∧Qb [] w w':=by
 have VS:=Hid.mk (Q6I hg)
 have VK:=Hid.mk (Q5M c h1 h2)
 have VW:=Hid.mk Q6J
 have VP1:=Hid.mk (Q6K dp 65 d1 d2 (by omega) (by omega))
 have VP2:=Hid.mk (Q6K fu 10001 f1 f2 (by omega) (by omega))
 have VP3:=Hid.mk (Q6K sz 100001 s1 s2 (by omega) (by omega))
 have hp1:=Q5t dp (n:=65) (by omega)
 have hp2:=Q5t fu (n:=10001) (by omega)
 have hp3:=Q5t sz (n:=100001) (by omega)
 generalize Q3P dp 65=dep at VP1 hp1
 generalize Q3P fu 10001=fuel at VP2 hp2
 generalize Q3P sz 100001=size at VP3 hp3
 have hn1:=neqF
 have hn2:=Q44
 have hn3:=eqlF
 have hn4:=Q6M
 clear hg h1 h2 d1 d2 f1 f2 s1 s2
 by_cases lb:b.length≤4000
 ·have VD:=Hid.mk (fun (w:World) (bs:List (Nat×Obj)) (B:Nat) (hS:Q1N bs B Q0e) (hw:∀ p∈bs,w.heap[p.1]? = some p.2) (b:List UInt8) (hb:b.length≤maxLen)=>Q4o hS hw c b hb)
  have VL:=Hid.mk (fun (w:World) (bs:List (Nat×Obj)) (B:Nat) (hS:Q1N bs B Q0e) (hw:∀ p∈bs,w.heap[p.1]? = some p.2) (b:List UInt8) (hb:b.length≤maxLen)=>Q9v hS hw c b hb dep fuel size (by omega) (by omega) (by omega))
  have VE:=Hid.mk (fun (w:World) (bs:List (Nat×Obj)) (B:Nat) (hS:Q1N bs B Q0e) (hw:∀ p∈bs,w.heap[p.1]? = some p.2) (nsl:Value) (v:List QB) (hn:Q23 w nsl v)=>Q9y hS hw c hn dep fuel size (by omega) (by omega) (by omega))
  have HB:Hid (b.length≤maxLen):=Nat.le_trans lb (by decide)
  generalize Q1G c=nm at VK VD VE VL
  go_enter Tryz.func7,Tryz.ntmps7
  go_wp2_with fail
  refine VS.out.mono ?_
  rintro e w1 ⟨B,bs,rfl,hk,hS,hh,hB⟩
  have HK1:=Hid.mk hk
  have HS:=Hid.mk hS
  have HH:=Hid.mk hh
  clear hk hS hh hB VS
  go_wp2_with fail
  refine (VK.out _).mono ?_
  rintro e w2 ⟨rfl,hb2⟩
  have HK2:=Hid.mk (HK1.out.trans (Qb.of_below [] hb2))
  have HH2:=Hid.mk (QX HH.out (Qb.of_below [] hb2))
  clear hb2 VK HK1 HH
  go_wp2_with fail
  refine (VP1.out _).mono ?_
  rintro e w2' ⟨rfl,rfl⟩
  go_wp2_with fail
  refine (VP2.out _).mono ?_
  rintro e w2'' ⟨rfl,rfl⟩
  go_wp2_with fail
  refine (VP3.out _).mono ?_
  rintro e w3 ⟨rfl,rfl⟩
  clear VP1 VP2 VP3
  go_wp2_with fail
  refine (VL.out _ bs B HS.out (QX HH2.out ((Qb.refl [] _).alloc _)) b HB.out).mono ?_
  rintro e w4 ⟨u,er,rfl,hk4,hu⟩
  have HK4:=Hid.mk ((HK2.out.alloc _).trans hk4)
  have HH4:=Hid.mk (QX (QX HH2.out ((Qb.refl [] _).alloc _)) hk4)
  have OL:=Hid.mk ((hk4.block w3.heap.size (by simp) (by simp)).trans (Qg rfl))
  clear hk4 HK2 HH2 VL
  go_wp2_with fail
  refine (VW.out _).mono ?_
  rintro e w5 ⟨rfl,hb5⟩
  have hk45:=Qb.of_below [] hb5
  have HK5:=Hid.mk (HK4.out.trans hk45)
  have HH5:=Hid.mk (QX HH4.out hk45)
  have OL5:=Hid.mk ((hk45.block w3.heap.size (Qc OL.out) (by simp)).trans OL.out)
  clear hb5 VW HK4 HH4 OL
  go_wp2_with fail
  refine (VD.out _ bs B HS.out (QX HH5.out ((Qb.refl [] _).alloc _)) b HB.out).mono ?_
  rintro e w6 ⟨v,es,rfl,hk6,hv⟩
  have hk56:Qb [] w5 w6:=((Qb.refl [] w5).alloc _).trans hk6
  have HK6:=Hid.mk (HK5.out.trans hk56)
  have HH6:=Hid.mk (QX HH5.out hk56)
  have OL6:=(hk56.block w3.heap.size (Qc OL5.out) (by simp)).trans OL5.out
  obtain ⟨l0,l1,l2,lf,ll⟩:=Q2f OL6
  have hk46:=Hid.mk (hk45.trans hk56)
  have OL6:=Hid.mk OL6
  clear hk6 HK5 HH5 OL5 VD hk56 hk45
  rcases hu with ⟨ns,e1,e2,e3,rfl,e5⟩ | ⟨f,g,e1,rfl,rfl,e4⟩
  ·rcases hv with ⟨ms,m1,m2,m3,rfl,m5⟩ | ⟨f',g',m1,rfl,rfl,_⟩
   rotate_left
   ·rw [Q8d e1 (by omega) (by omega) (by omega)] at m1;cases m1
   have hms:ns=ms:=by
    rw [Q8d e1 (by omega) (by omega) (by omega)] at m1;cases m1;rfl
   subst hms
   have E:=Q8e Q81 e1
   have e5':=Qt e5 hk46.out (by simp)
   have VM:=Qa4 true (Q6L e5') (Q6L m5) (by simpa using e3)
   rw [decide_eq_true rfl] at VM
   obtain ⟨au,cu,rfl⟩:=Q1F e5
   obtain ⟨av,cv,rfl⟩:=Q1F m5
   have VM:=Hid.mk VM
   have HE5:=Hid.mk e5'
   clear e1 e2 e3 e5 e5' m1 m2 m3 m5
   go_wp2_with fail
   refine VM.out.mono ?_
   rintro e w7 ⟨rfl,hc7,hb7⟩
   have hk67:=Qb.of_below [] hb7
   have HK7:=Hid.mk (HK6.out.trans hk67)
   obtain ⟨l0,l1,l2,lf,ll⟩:=Q2f ((hk67.block w3.heap.size (Qc OL6.out) (by simp)).trans OL6.out)
   have VE:=Hid.mk (VE.out _ bs B HS.out (QX HH6.out hk67) _ _ (QbT (Qt HE5.out hk67 (by simp))))
   clear hc7 hb7 hk67 HK6 HH6 VM HE5
   go_wp2_with fail
   refine VE.out.mono ?_
   rintro e w8 ⟨t,er,rfl,hk8,⟨ht,rfl⟩ | ⟨f,g,ht,_,_⟩⟩
   rotate_left
   ·rw [E] at ht;cases ht
   obtain rfl:b=t:=by rw [E] at ht;cases ht;rfl
   have HK8:=Hid.mk (HK7.out.trans hk8)
   clear ht E hk8 HK7 VE l0 l1 l2
   go_wp2
   go_ret
   exact ⟨rfl,HK8.out⟩
  ·clear e1 e4 l0 l1 l2
   rcases hv with ⟨ms,m1,m2,m3,rfl,m5⟩ | ⟨f',g',m1,rfl,rfl,_⟩
   ·obtain ⟨av,cv,rfl⟩:=Q1F m5
    have q2:(0:Int) < ms.length:=by omega
    clear m1 m3 m5
    go_wp2
    go_ret
    exact ⟨rfl,HK6.out⟩
   ·clear m1
    go_wp2
    go_ret
    exact ⟨rfl,HK6.out⟩
 ·have lb':(4000:Int) < b.length:=by omega
  go_enter Tryz.func7,Tryz.ntmps7
  go_wp2_with fail
  refine VS.out.mono ?_
  rintro e w1 ⟨B,bs,rfl,hk,hS,hh,hB⟩
  have HK1:=Hid.mk hk
  clear hk hS hh hB VS VK VW
  go_wp2
  go_ret
  exact ⟨rfl,HK1.out⟩
end Go.Proofs.YtmbcibgknckenaaGreatDoor
namespace Go.Proofs.YtmbcibgknckenaaGreatDoor
theorem Qcr:joinedFacts Tryz.pinned.checked.prog 7 Tryz.f7 Rows.deeperSpec Rows.deeperRow=true:=by
 unfold joinedFacts
 simp only [Bool.and_eq_true]
 repeat' apply And.intro
 all_goals (as_aux_lemma=>kernel_rfl)
end Go.Proofs.YtmbcibgknckenaaGreatDoor
namespace Go.Proofs.YtmbcibgknckenaaGreatDoor
open Go.ChangeShapes Go.WideShapes Go.ChangeAt Go.RowKit
open Go.ChangeMaps (open_string shut_string)
theorem Qcs (os:Os) (started:os.Started) (H:Type) (enc:TypeId×Value→H) :
  ReturnsInHanded {} Tryz.checked os 7 .any (fun w args=>(Rows.deeperSpec.pre enc Tryz.prog Tryz.f7 [] false w args∧laidMetH Tryz.prog Rows.deeperRow.laid w)∧sizedMet enc Tryz.prog Tryz.f7 (OpenSpec.ofChange Rows.deeperSpec) false w args)
   (Rows.deeperSpec.post enc Tryz.prog Tryz.f7 false true false false):=by
 refine Q5e (C:=Tryz.checked) (X:=fun w _=>laidMetH Tryz.prog Rows.deeperRow.laid w) (fun _ _ _ hh h=>h.of_heap hh) Q6N started (by kernel_rfl) Tryz.func7
  (ChangeSpec.witness_shaped (enc:=enc) (C:=Tryz.checked) (os:=os) (X:=fun w _=>laidMetH Tryz.prog Rows.deeperRow.laid w) false (World.doorLaid Tryz.prog 88 os) #[.int .i64 0,.string ⟨#[]⟩,.int .i64 0,.int .i64 0,.int .i64 0] 8 rfl (World.shaped_of_RefB (by kernel_rfl) (by kernel_rfl)) (by kernel_rfl) (by kernel_rfl) (by kernel_rfl) (Q82 os _)) ?_
 intro W base args ds gs before hval0 hW hL hsh
 have hval:∀ (j:Nat) t v,Tryz.f7.params[j]? = some t→args[j]? = some v→Value.okWide Tryz.prog W .any base t v:=hval0
 have hW':=hW
 obtain ⟨p,q,hA0,hV,rfl,hfz,hnd⟩:=hW
 have hA:DataW.TrodAll enc Tryz.prog W 0 (fun _=>true) true Tryz.f7.params.toList args.toList ds p:=hA0
 rw [Tryz.params7] at hA hval
 obtain ⟨v0,vs0,d0,ds0,p0,q0,hargs,rfl,rfl,h0,r0⟩:=trodAll_cons hA
 obtain ⟨v1,vs1,d1,ds1,p1,q1,rfl,rfl,rfl,h1,r1⟩:=trodAll_cons r0
 obtain ⟨v2,vs2,d2,ds2,p2,q2,rfl,rfl,rfl,h2,r2⟩:=trodAll_cons r1
 obtain ⟨v3,vs3,d3,ds3,p3,q3,rfl,rfl,rfl,h3,r3⟩:=trodAll_cons r2
 obtain ⟨v4,vs4,d4,ds4,p4,q4,rfl,rfl,rfl,h4,r4⟩:=trodAll_cons r3
 obtain ⟨rfl,rfl,rfl⟩:=trodAll_nil r4
 obtain rfl:args = #[v0,v1,v2,v3,v4]:=by cases args;simp_all
 obtain ⟨rfl,rfl⟩:=trodVars_none hV
 obtain ⟨c,rfl,rfl,rfl,wc⟩:=open_int Tryz.underlying3 (hval 0 3 v0 rfl rfl) h0
 obtain ⟨⟨⟨b⟩⟩,rfl,rfl,rfl,hb⟩:=open_string Tryz.underlying9 (hval 1 9 v1 rfl rfl) h1
 obtain ⟨dp,rfl,rfl,rfl,wd⟩:=open_int Tryz.underlying3 (hval 2 3 v2 rfl rfl) h2
 obtain ⟨fu,rfl,rfl,rfl,wf⟩:=open_int Tryz.underlying3 (hval 3 3 v3 rfl rfl) h3
 obtain ⟨sz,rfl,rfl,rfl,ws⟩:=open_int Tryz.underlying3 (hval 4 3 v4 rfl rfl) h4
 have bc:=bounds_i64 wc
 have bd:=bounds_i64 wd
 have bf:=bounds_i64 wf
 have bz:=bounds_i64 ws
 clear hA0 hval0
 refine (Qhw (Q5d hL hsh) c bc.1 bc.2 b dp fu sz bd.1 bd.2 bf.1 bf.2 bz.1 bz.2).mono fun e W' ⟨he,hk⟩=>?_
 subst he
 have bel:=Q3b hk
 exact ⟨_,rfl,_,_,_,[],_,[],hW',trodAll_mk1 (shut_bool Tryz.underlying4 _),(trodAll_cons_mk (shut_int Tryz.underlying3 wc) (trodAll_cons_mk (shut_string Tryz.underlying9 hb) (trodAll_cons_mk (shut_int Tryz.underlying3 wd) (trodAll_cons_mk (shut_int Tryz.underlying3 wf) (trodAll_cons_mk (shut_int Tryz.underlying3 ws) trodAll_mk0))))),rfl,bel.frame _,fun h=>by cases h⟩
theorem Qhy:Rows.DeeperSaid:=
 OpenClaim.holds_of_wide 7 Tryz.f7 rfl rfl rfl rfl rfl rfl rfl ⟨rfl,rfl,rfl,rfl,rfl⟩ rfl rfl rfl rfl rfl (by kernel_rfl) Tryz.func7 Qcr
  (of_decide_eq_true (by kernel_rfl)) (by unfold Func.isWrapper;rw [if_neg (of_decide_eq_false (by kernel_rfl))];exact ⟨rfl,rfl⟩)
  (fun os started H enc _=>Qcs os started H enc)
theorem deeper_card:Rows.DeeperCardSaid:=
 Claim7.holds_tied_plain_at .later [] Rows.deeperCard.laidKinds true Rows.deeperCard.stood.harness true
  Qhy (fun _ h=>by cases h) (by kernel_rfl) (fun _ h=>by cases h) deeper_row_tie rfl ⟨rfl,rfl⟩ (by kernel_rfl) rfl
  (fun f fn hf hfn=>by
   obtain rfl : f = 7 := Option.some.inj ((show Tryz.prog.funcNamed "marshal/marshalkeep.Deeper" = some 7 by kernel_rfl).symm.trans hf) |>.symm
   obtain rfl:fn=Tryz.f7:=(Option.some.inj (Tryz.func7.symm.trans hfn)).symm
   exact ⟨by kernel_rfl,fun j t ht=>by
    rw [Tryz.params7] at ht
    have hm:t∈[3,9,3,3,3]:=by simpa using Array.mem_of_getElem? ht
    have hall:([3,9,3,3,3].all fun u=>!Tryz.prog.wantsStandIn u)=true:=by kernel_rfl
    exact (show Tryz.prog.wantsStandIn t=false by simpa using List.all_eq_true.1 hall t hm)⟩)
  (by kernel_rfl)
end Go.Proofs.YtmbcibgknckenaaGreatDoor
