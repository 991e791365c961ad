import Derived.Test.YtmbcibgknckenaaGreatDoorT14
import Derived.Deep.Slices
set_option linter.all false
set_option maxRecDepth 100000
set_option maxHeartbeats 4000000
namespace Go.Proofs.YtmbcibgknckenaaGreatDoor
open Go.ChangeShapes Go.WideShapes
theorem QlE:laidOutB Tryz.prog=true:=by kernel_rfl
instance:Inhabited QB:=⟨⟨0,0,[],0,0⟩⟩
theorem Qhz {H:Type} {enc:TypeId×Value→H} {W:World} {v:Value} {d:DataW H} {p:List MemPlace}
  {base:Nat} (hval:Value.okWide Tryz.prog W .any base 29 v) (h:DataW.Trod enc Tryz.prog W 0 (fun _=>true) true 29 v d p):∃ l,Q23 W v l:=by
 obtain ⟨m,hm⟩:=h
 obtain ⟨a0,l0,c0,rfl⟩:=okWide_slice Tryz.underlying29 hval
 rw [show (Value.slice a0 l0 c0).cells.toList=[.slice a0 l0 c0] from rfl] at hm
 rcases Go.Deep.open_slice Tryz.underlying29 hm with ⟨hv,_⟩ | ⟨a,len,cap,m',n,D,Pl,hv,_,hl,hc,hmm,_,hx⟩
 ·simp only [List.cons.injEq,Value.slice.injEq,and_true] at hv
  obtain ⟨rfl,rfl,rfl⟩:=hv
  exact ⟨[],none,0,rfl,Nat.le_refl _,Nat.zero_le _,fun k x hk=>by simp at hk⟩
 ·simp only [List.cons.injEq,Value.slice.injEq,and_true] at hv
  obtain ⟨rfl,rfl,rfl⟩:=hv
  have hlm:l0≤m':=by rw [hmm];simpa using hl
  have ce:Tryz.prog.cellsOf 48=5:=by kernel_rfl
  have each:∀ i,i < l0→∃ x:QB,a.spot=none∧Q9b W a.block (a.off + i * 5) x:=by
   intro i hi
   obtain ⟨cs',h1,h2⟩:=hx i (by omega)
   rw [ce] at h1
   obtain ⟨_,hlen,hcell⟩:=World.cells?_some h1
   obtain ⟨xs,k,hk,hxy,_,hxl,hf⟩:=DataW.trod_struct Tryz.underlying48 h2
   match xs,hxl,cs',hlen with
   | [y0,y1,y2,y3,y4],_,[c0,c1,c2,c3,c4],_=>
    have g0:=hf 0 _ rfl
    have g1:=hf 1 _ rfl
    have g2:=hf 2 _ rfl
    have g3:=hf 3 _ rfl
    have g4:=hf 4 _ rfl
    obtain ⟨n0,e0,_,_⟩:=DataW.trod_int Tryz.underlying3 g0
    obtain ⟨n1,e1,_,_⟩:=DataW.trod_int Tryz.underlying2 g1
    obtain ⟨s2,e2,_,_⟩:=DataW.trod_string Tryz.underlying9 g2
    obtain ⟨n3,e3,_,_⟩:=DataW.trod_int Tryz.underlying3 g3
    obtain ⟨n4,e4,_,_⟩:=DataW.trod_int Tryz.underlying3 g4
    have k2:Tryz.prog.cellsOf 2=1:=by kernel_rfl
    have k3:Tryz.prog.cellsOf 3=1:=by kernel_rfl
    have k9:Tryz.prog.cellsOf 9=1:=by kernel_rfl
    simp [k2,k3,k9] at e0 e1 e2 e3 e4
    subst e0 e1 e2 e3 e4
    have z0:=hcell 0 (by omega)
    have z1:=hcell 1 (by omega)
    have z2:=hcell 2 (by omega)
    have z3:=hcell 3 (by omega)
    have z4:=hcell 4 (by omega)
    rw [Go.Deep.add_add] at z0 z1 z2 z3 z4
    simp only [List.getElem?_cons_zero,List.getElem?_cons_succ] at z0 z1 z2 z3 z4
    have hs:a.spot=none:=by
     obtain ⟨c,hc1,_⟩:=hx 0 (by omega)
     rw [ce] at hc1
     obtain ⟨_,hl5,hc5⟩:=World.cells?_some hc1
     have hz:=hc5 0 (by omega)
     rw [Go.Deep.add_add] at hz
     rw [List.getElem?_eq_getElem (by omega)] at hz
     exact World.cell?_spot (a:=a) (by simpa [Addr.add] using hz)
    have sp:∀ j x,W.cell? (a.add j)=some x→W.cell? ⟨a.block,a.off + j,none⟩=some x:=by
     intro j x hj
     obtain ⟨b,o,s⟩:=a
     simp only at hs
     subst hs
     unfold Addr.add at hj
     by_cases h0:j=0
     ·subst h0
      simpa using hj
     ·simpa [h0] using hj
    exact ⟨⟨n0,n1,s2.data.toList,n3,n4⟩,hs,sp _ _ z0,sp _ _ z1,sp _ _ z2,sp _ _ z3,sp _ _ z4⟩
  obtain ⟨q,hq⟩:=Go.Deep.choose_lt each
  refine ⟨(List.range l0).map q,some a,c0,by simp,by simpa using hl,hc,?_⟩
  intro k x hk
  have hkl:k < l0:=by have:=(List.getElem?_eq_some_iff.1 hk).1;simpa using this
  obtain rfl:q k=x:=by simpa [hkl] using hk
  refine ⟨a.block,a.off,?_,(hq k hkl).2⟩
  obtain ⟨b,o,sp⟩:=a
  have:=(hq k hkl).1
  simp only at this
  subst this
  rfl
end Go.Proofs.YtmbcibgknckenaaGreatDoor
namespace Go.Proofs.YtmbcibgknckenaaGreatDoor
theorem Qfo:joinedFacts Tryz.pinned.checked.prog 4 Tryz.f4 Rows.backSpec Rows.backRow=true:=by
 unfold joinedFacts
 simp only [Bool.and_eq_true]
 repeat' apply And.intro
 all_goals (as_aux_lemma=>kernel_rfl)
end Go.Proofs.YtmbcibgknckenaaGreatDoor
namespace Go.Proofs.YtmbcibgknckenaaGreatDoor
open Go.ChangeShapes Go.WideShapes Go.ChangeAt Go.RowKit
open Go.ChangeMaps (open_string shut_string)
theorem Qfp (os:Os) (started:os.Started) (H:Type) (enc:TypeId×Value→H) :
  ReturnsInHanded {} Tryz.checked os 4 .any (fun w args=>(Rows.backSpec.pre enc Tryz.prog Tryz.f4 [] false w args∧laidMetH Tryz.prog Rows.backRow.laid w)∧sizedMet enc Tryz.prog Tryz.f4 (OpenSpec.ofChange Rows.backSpec) false w args)
   (Rows.backSpec.post enc Tryz.prog Tryz.f4 false true false false):=by
 refine Q5e (C:=Tryz.checked) (X:=fun w _=>laidMetH Tryz.prog Rows.backRow.laid w) (fun _ _ _ hh h=>h.of_heap hh) Q6N started (by kernel_rfl) Tryz.func4
  (ChangeSpec.witness_shaped (enc:=enc) (C:=Tryz.checked) (os:=os) (X:=fun w _=>laidMetH Tryz.prog Rows.backRow.laid w) false (World.doorLaid Tryz.prog 88 os) #[.int .i64 0,.slice none 0 0] 8 rfl (World.shaped_of_RefB (by kernel_rfl) (by kernel_rfl)) (by kernel_rfl) (by kernel_rfl) (by kernel_rfl) (Q82 os _)) ?_
 intro W base args ds gs before hval0 hW hL hsh
 have hval:∀ (j:Nat) t v,Tryz.f4.params[j]? = some t→args[j]? = some v→Value.okWide Tryz.prog W .any base t v:=hval0
 have hW':=hW
 obtain ⟨p,q,hA0,hV,rfl,hfz,hnd⟩:=hW
 have hA:DataW.TrodAll enc Tryz.prog W 0 (fun _=>true) true Tryz.f4.params.toList args.toList ds p:=hA0
 rw [Tryz.params4] at hA hval
 obtain ⟨v0,v1,d0,d1,p0,p1,rfl,rfl,rfl,h0,h1⟩:=trodAll_two hA
 obtain ⟨rfl,rfl⟩:=trodVars_none hV
 obtain ⟨c,rfl,rfl,rfl,wc⟩:=open_int Tryz.underlying3 (hval 0 3 v0 rfl rfl) h0
 have k1:=h1
 have lt1:∀ x∈p1,x.block < W.heap.size:=by obtain ⟨m,hm⟩:=k1;exact DataW.trod_lt m _ _ _ hm
 obtain ⟨l,hl⟩:=Qhz (hval 1 29 v1 rfl rfl) h1
 have bc:=bounds_i64 wc
 clear hA0 hval0
 refine (QlD (Q5d hL hsh) c bc.1 bc.2 hl).mono fun e W' ⟨he,hk⟩=>?_
 subst he
 have bel:=Q3b hk
 exact ⟨_,rfl,_,_,_,[],_,[],hW',trodAll_mk1 (shut_bool Tryz.underlying4 _),trodAll_mk2 (shut_int Tryz.underlying3 wc) (Below.trod QlE (by kernel_rfl) (of_decide_eq_true (by kernel_rfl)) k1 bel lt1),rfl,bel.frame _,fun h=>by cases h⟩
theorem QlF:Rows.BackSaid:=
 OpenClaim.holds_of_wide 4 Tryz.f4 rfl rfl rfl rfl rfl rfl rfl ⟨rfl,rfl,rfl,rfl,rfl⟩ rfl rfl rfl rfl rfl (by kernel_rfl) Tryz.func4 Qfo
  (of_decide_eq_true (by kernel_rfl)) (by unfold Func.isWrapper;rw [if_neg (of_decide_eq_false (by kernel_rfl))];exact ⟨rfl,rfl⟩)
  (fun os started H enc _=>Qfp os started H enc)
theorem back_card:Rows.BackCardSaid:=
 Claim7.holds_tied_plain_at .later [] Rows.backCard.laidKinds true Rows.backCard.stood.harness true
  QlF (fun _ h=>by cases h) (by kernel_rfl) (fun _ h=>by cases h) back_row_tie rfl ⟨rfl,rfl⟩ (by kernel_rfl) rfl
  (fun f fn hf hfn=>by
   obtain rfl : f = 4 := Option.some.inj ((show Tryz.prog.funcNamed "marshal/marshalkeep.Back" = some 4 by kernel_rfl).symm.trans hf) |>.symm
   obtain rfl:fn=Tryz.f4:=(Option.some.inj (Tryz.func4.symm.trans hfn)).symm
   exact ⟨by kernel_rfl,fun j t ht=>by
    rw [Tryz.params4] at ht
    have hm:t∈[3,29]:=by simpa using Array.mem_of_getElem? ht
    have hall:([3,29].all fun u=>!Tryz.prog.wantsStandIn u)=true:=by kernel_rfl
    exact (show Tryz.prog.wantsStandIn t=false by simpa using List.all_eq_true.1 hall t hm)⟩)
  (by kernel_rfl)
end Go.Proofs.YtmbcibgknckenaaGreatDoor
