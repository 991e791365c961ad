import Derived.Test.YtmbcibgknckenaaGreatDoorT14
set_option linter.all false
set_option maxRecDepth 100000
set_option maxHeartbeats 4000000
namespace Go.Proofs.YtmbcibgknckenaaGreatDoor
open Go.RowKit Go.Extern.Stop Go.Stop Go.Extern
abbrev asW (w:World) (t:Addr):World:=(w.alloc (.cells #[.pointer (some t)] 81)).alloc (rlO 81 ⟨w.heap.size,0,none⟩ 150)
theorem Qns (e t:Addr) (old:Value) (w:World) (hg:w.cell? ⟨1,0,none⟩=some (rlT 24)) (ht0:w.cell? t=some old) (hf0:w.frozen? t=false) :
  Calls Tryz.prog 37 #[.iface 79 (.pointer (some e)),.iface 81 (.pointer (some t))] w fun ev w'=>ev = .returned (.bool true) ∧
   w'=(((asW w t).alloc (rlO 81 ⟨w.heap.size,0,none⟩ 150)).alloc (.cells #[.pointer (some e)] 79)).setCell t (.pointer (some e)):=by
 have x1:=@run_callFunc_extern Tryz.prog 67 _ (fun args=>ReflectliteValue.unpack (args.getD 0 (.tuple #[]))) Tryz.func67 (by kernel_rfl) (by kernel_rfl) (by kernel_rfl) (by kernel_rfl)
 have x2 := @run_callFunc_extern Tryz.prog 68 _ (ReflectliteValue.methodAny (ReflectliteValue.valueError "reflectlite.Value.Type" 0) (fun t _ _ _ => ReflectliteType.toType t)) Tryz.func68 (by kernel_rfl) (by kernel_rfl) (by kernel_rfl) (by kernel_rfl)
 have x3 := @run_callFunc_extern Tryz.prog 69 _ (ReflectliteValue.method (ReflectliteValue.valueError "reflectlite.Value.IsNil" 0) ReflectliteValue.isNil) Tryz.func69 (by kernel_rfl) (by kernel_rfl) (by kernel_rfl) (by kernel_rfl)
 have x4:=@run_callFunc_extern Tryz.prog 231 _ (ReflectliteType.abiMethod fun t=>do pure (.int .u8 (← Rtype.kind t))) Tryz.func231 (by kernel_rfl) (by kernel_rfl) (by kernel_rfl) (by kernel_rfl)
 have x5:=@run_callFunc_extern Tryz.prog 280 _ (ReflectliteType.method ReflectliteType.elem) Tryz.func280 (by kernel_rfl) (by kernel_rfl) (by kernel_rfl) (by kernel_rfl)
 have x6 := @run_callFunc_extern Tryz.prog 281 _ (ReflectliteType.relation "Implements" ReflectliteType.implements_) Tryz.func281 (by kernel_rfl) (by kernel_rfl) (by kernel_rfl) (by kernel_rfl)
 have x7:=@run_callFunc_extern Tryz.prog 103 _ ReflectliteType.typeOf Tryz.func103 (by kernel_rfl) (by kernel_rfl) (by kernel_rfl) (by kernel_rfl)
 have x8 := @run_callFunc_extern Tryz.prog 278 _ (ReflectliteType.relation "AssignableTo" ReflectliteType.assignableTo) Tryz.func278 (by kernel_rfl) (by kernel_rfl) (by kernel_rfl) (by kernel_rfl)
 have x9 := @run_callFunc_extern Tryz.prog 104 _ (ReflectliteValue.method (ReflectliteValue.valueError "reflectlite.Value.Elem" 0) ReflectliteValue.elem) Tryz.func104 (by kernel_rfl) (by kernel_rfl) (by kernel_rfl) (by kernel_rfl)
 have x10:=@run_callFunc_extern Tryz.prog 105 _ ReflectliteValue.set Tryz.func105 (by kernel_rfl) (by kernel_rfl) (by kernel_rfl) (by kernel_rfl)
 have tO:=Qjo
 have mA:=QhA
 have aF:=Qjp
 have vF:=Qfr
 have vP:=Qfq
 have tP:=QlG
 have mK:=QlH
 have mE:=QlI
 have mI:=QlJ
 have kP:=QlK
 have kF:=QlL
 have eT:=QlN
 have iF:=Qn3
 have n8:=QlM ⟨w.heap.size,0,none⟩ t (asW w t) (by simp)
 have hlt:1 < w.heap.size:=by
  rcases Nat.lt_or_ge 1 w.heap.size with h | h
  ·exact h
  ·simp [World.cell?,Array.getElem?_eq_none h] at hg
 have hg2:(asW w t).cell? ⟨1,0,none⟩=some (rlT 24):=by
  rw [World.cell?_alloc_lt _ _ ⟨1,0,none⟩ (by simp;omega),World.cell?_alloc_lt _ _ ⟨1,0,none⟩ hlt];exact hg
 have htl:t.block < w.heap.size:=by
  rcases Nat.lt_or_ge t.block w.heap.size with h | h
  ·exact h
  ·simp [World.cell?,Array.getElem?_eq_none h] at ht0
 have el:=QlO ⟨w.heap.size,0,none⟩ t ((asW w t).alloc (rlO 81 ⟨w.heap.size,0,none⟩ 150)) (by rw [World.cell?_alloc_lt _ _ ⟨w.heap.size,0,none⟩ (by simp;omega)];simp)
 have st:=Qnr t ⟨w.heap.size + 1 + 1 + 1,0,none⟩ e old (((asW w t).alloc (rlO 81 ⟨w.heap.size,0,none⟩ 150)).alloc (.cells #[.pointer (some e)] 79))
  (by rw [World.cell?_alloc_at _ _ _ _ (by simp)];rfl)
  (by rw [World.cell?_alloc_lt _ _ t (by simp;omega),World.cell?_alloc_lt _ _ t (by simp;omega),World.cell?_alloc_lt _ _ t (by simp;omega),World.cell?_alloc_lt _ _ t htl];exact ht0)
  (by rw [World.frozen?_alloc_old _ _ t (by simp;omega),World.frozen?_alloc_old _ _ t (by simp;omega),World.frozen?_alloc_old _ _ t (by simp;omega),World.frozen?_alloc_old _ _ t (Nat.ne_of_lt htl)];exact hf0)
 go_enter Tryz.func37,Tryz.ntmps37
 go_wp2
 refine wp_loop_rounds 1 ?_
 rw [rounds_succ]
 go_wp2
 go_ret
 exact ⟨rfl,rfl⟩
end Go.Proofs.YtmbcibgknckenaaGreatDoor
namespace Go.Proofs.YtmbcibgknckenaaGreatDoor
open Go.RowKit
theorem QhB {w:World} (hg:w.cell? ⟨1,0,none⟩=some (rlT 24)) {g:Nat} {no at':Int} (hf:w.heap[g]? = some (.cells #[.int .i64 no,.int .i64 at'] 83)) :
  Calls Tryz.prog 22 #[.iface 79 (.pointer (some ⟨g,0,none⟩))] w fun e w'=>e = .returned (.tuple #[.int .i64 no,.int .i64 at'])∧Qb [] w w':=by
 have hlt:1 < w.heap.size:=by
  rcases Nat.lt_or_ge 1 w.heap.size with h | h
  ·exact h
  ·simp [World.cell?,Array.getElem?_eq_none h] at hg
 have hgl:=Qc hf
 have hgA:(w.alloc (.cells #[.pointer none] 79)).cell? ⟨1,0,none⟩=some (rlT 24):=by rw [World.cell?_alloc_lt _ _ ⟨1,0,none⟩ hlt];exact hg
 have htA:(w.alloc (.cells #[.pointer none] 79)).cell? ⟨w.heap.size,0,none⟩=some (.pointer none):=by simp
 have hfA:(w.alloc (.cells #[.pointer none] 79)).frozen? ⟨w.heap.size,0,none⟩=false:=by simp
 have VA:=Hid.mk (Qns ⟨g,0,none⟩ ⟨w.heap.size,0,none⟩ (.pointer none) _ hgA htA hfA)
 clear hgA htA hfA hg
 go_enter Tryz.func22,Tryz.ntmps22
 go_wp2_with fail
 refine VA.out.mono ?_
 rintro e w4 ⟨rfl,hw4⟩
 have hk:Qb [] w w4:=by
  rw [hw4]
  exact (((((Qb.refl [] w).alloc _).alloc _).alloc _).alloc _ |>.alloc _).setNew (Nat.le_refl _) _
 have c0:w4.cell? ⟨w.heap.size,0,none⟩=some (.pointer (some ⟨g,0,none⟩)):=by
  rw [hw4]
  refine Qq (Qo (i:=0) (cs:=#[.pointer none]) (T:=79) ?_ _)
  exact (((((Qb.refl [] (w.alloc (.cells #[.pointer none] 79))).alloc _).alloc _).alloc _ |>.alloc _).block w.heap.size (by simp) (by simp)).trans (Qg rfl)
 have hf4:=(hk.block g hgl (by simp)).trans hf
 obtain ⟨c1,c2,_⟩:=Q0o hf4
 clear hw4 VA hf
 go_wp2_with fail
 go_region
 go_wp2
 go_ret2
 exact ⟨rfl,hk.drew⟩
end Go.Proofs.YtmbcibgknckenaaGreatDoor
namespace Go.Proofs.YtmbcibgknckenaaGreatDoor
open Go.RowKit
open Go.MapKept
theorem QhC (b m:List UInt8):(⟨b.toArray⟩:ByteArray)++⟨m.toArray⟩=⟨(b++m).toArray⟩:=by
 apply ByteArray.ext
 simp
theorem Qju (b:List UInt8) (k:Nat):(⟨b.toArray⟩:ByteArray).extract 0 k=⟨(b.take k).toArray⟩:=by
 apply ByteArray.ext
 simp
theorem QlP {w:World} (hg:Gl w) (he:w.cell? ⟨1,0,none⟩=some (rlT 24)) (c:Int) (h1:-9223372036854775808≤c) (h2:c≤9223372036854775807) (b m:List UInt8) :
  Calls Tryz.prog 9 #[.int .i64 c,.string ⟨b.toArray⟩,.string ⟨m.toArray⟩] w fun e w'=>e = .returned (.bool true)∧Qb [] w w':=by
 have VS:=Hid.mk (Q6I hg)
 have VK:=Hid.mk (Q5M c h1 h2)
 have VW:=Hid.mk Q6J
 have HE:=Hid.mk he
 have hn1:=neqF
 have hn2:=Q44
 have hn3:=eqlF
 have hn4:=Q6M
 clear hg h1 h2 he
 by_cases la:b.length≤4000
 ·by_cases lb:m.length≤4000
  ·by_cases lm:m=[]
   ·subst lm
    have la':(b.length:Int)≤4000:=by omega
    go_enter Tryz.func9,Tryz.ntmps9
    go_wp2_with fail
    refine VS.out.mono ?_
    rintro e w1 ⟨B,bs,rfl,hk,hS,hh,hB⟩
    have HK1:=Hid.mk hk
    clear hk hS hh hB VS VK VW
    go_wp2
    go_ret
    exact ⟨rfl,HK1.out⟩
   ·have VD:=Hid.mk (fun (w:World) (bs:List (Nat×Obj)) (B:Nat) (hS:Q1N bs B Q0e) (hw:∀ p∈bs,w.heap[p.1]? = some p.2) (b:List UInt8) (hb:b.length≤maxLen)=>Q4o hS hw c b hb)
    have HA:Hid (b.length≤maxLen):=Nat.le_trans la (by decide)
    have HB:Hid ((b++m).length≤maxLen):=by rw [List.length_append];exact Nat.le_trans (show b.length + m.length≤8000 by omega) (by decide)
    have KS:=Hid.mk (fun b u=>QbV c (b:=b) (u:=u))
    have m0:0 < m.length:=List.length_pos_iff.2 lm
    have m1:(0:Int) < m.length:=by omega
    have mz:((m.length:Int) == 0)=false:=by simp;omega
    have my:¬ (m.length:Int)=0:=by omega
    have m2:(m.length:Int)≤4000:=by omega
    have b2:(b.length:Int)≤4000:=by omega
    generalize Q1G c=nm at VK VD KS
    go_enter Tryz.func9,Tryz.ntmps9
    go_wp2_with fail
    refine VS.out.mono ?_
    rintro e w1 ⟨B,bs,rfl,hk,hS,hh,hB⟩
    have HK1:=Hid.mk hk
    have HS:=Hid.mk hS
    have HH:=Hid.mk hh
    clear hk hS hh hB VS
    go_wp2_with fail
    refine (VK.out _).mono ?_
    rintro e w2 ⟨rfl,hb2⟩
    have HK2:=Hid.mk (HK1.out.trans (Qb.of_below [] hb2))
    have HH2:=Hid.mk (QX HH.out (Qb.of_below [] hb2))
    clear hb2 VK HK1 HH
    go_wp2_with fail
    refine (VW.out _).mono ?_
    rintro e w3 ⟨rfl,hb3⟩
    have HK3:=Hid.mk (HK2.out.trans (Qb.of_below [] hb3))
    have HH3:=Hid.mk (QX HH2.out (Qb.of_below [] hb3))
    clear hb3 VW HK2 HH2
    go_wp2_with fail
    refine (VD.out _ bs B HS.out (QX HH3.out ((Qb.refl [] _).alloc _)) b HA.out).mono ?_
    rintro e w4 ⟨u,er,rfl,hk4,hu⟩
    have HK4:=Hid.mk ((HK3.out.alloc _).trans hk4)
    have HH4:=Hid.mk (QX (QX HH3.out ((Qb.refl [] _).alloc _)) hk4)
    have HW4:=Hid.mk ((hk4.block w3.heap.size (by simp) (by simp)).trans (Qg rfl))
    obtain ⟨l0,l1,l2,_,_⟩:=Q2f HW4.out
    clear hk4 HK3 HH3
    rcases hu with ⟨ns,e1,e2,e3,rfl,e5⟩ | ⟨f,g,e1,rfl,rfl,_⟩
    ·obtain ⟨au,cu,rfl⟩:=Q1F e5
     have p2:(0:Int) < ns.length:=by omega
     have b0:0 < b.length:=List.length_pos_iff.2 (KS.out _ _ e1)
     have b1:(0:Int) < b.length:=by omega
     have T1:=Hid.mk (Q9t (c:=m) e1 lm (by omega))
     have T2:=Hid.mk (fun k v=>QdG (k:=k) (v:=v) e1)
     clear e1 e5 KS
     go_wp2_with fail
     rw [QhC]
     refine (VD.out _ bs B HS.out HH4.out (b++m) HB.out).mono ?_
     rintro e w5 ⟨u5,es,rfl,hk5,hu5⟩
     have HK5:=Hid.mk (HK4.out.trans hk5)
     have HH5:=Hid.mk (QX HH4.out hk5)
     have HW5:=Hid.mk ((hk5.block w3.heap.size (by assumption) (by simp)).trans HW4.out)
     rcases hu5 with ⟨ns',f1,_⟩ | ⟨f,g,f1,rfl,rfl,f4⟩
     ·rw [T1.out] at f1
      cases f1
     rw [T1.out] at f1
     cases f1
     clear hk5 l0 l1 l2 HB T1
     have VT:=Hid.mk (QhB (Qb.cell HK5.out (by simp) HE.out) f4)
     clear f4
     have VP:=Hid.mk (Q6K (m.length:Int) b.length (by omega) (by omega) b0 (by omega))
     have pk:Q3P (m.length:Int) b.length < b.length:=Q5t _ b0
     generalize Q3P (m.length:Int) b.length=k at VP pk
     go_wp2_with fail
     refine VT.out.mono ?_
     rintro e w6 ⟨rfl,hk6⟩
     have HK6:=Hid.mk (HK5.out.trans hk6)
     have HH6:=Hid.mk (QX HH5.out hk6)
     have HW6:=Hid.mk ((hk6.block w3.heap.size (by have:=Qc HW5.out;exact this) (by simp)).trans HW5.out)
     clear hk6 HK5 HH5 HW5 HK4 HH4 HW4
     obtain ⟨l0,l1,l2,_,_⟩:=Q2f HW6.out
     go_wp2_with fail
     refine (VP.out _).mono ?_
     rintro e w7 ⟨rfl,rfl⟩
     have k1:(k:Int) < b.length:=by omega
     have k2:(k:Int)≤b.length:=by omega
     have VD:=Hid.mk (fun w' (h:Qb [] w7 w')=>VD.out w' bs B HS.out (QX HH6.out h) (b.take k) (by rw [List.length_take];have:=HA.out;omega))
     have hS6:=Qc HW6.out
     go_wp2_with fail
     refine QD (fun w'=>w'.cell? ⟨w3.heap.size,0,none⟩=some (.int .i64 64)∧w'.cell? ⟨w3.heap.size,1,none⟩=some (.int .i64 10000)∧w'.cell? ⟨w3.heap.size,2,none⟩=some (.int .i64 100000)) (L:=11) (by kernel_rfl) rfl (by kernel_rfl) (by kernel_rfl) ?_ (fun hHeld=>?_)
     ·exact ⟨l0,l1,l2⟩
     refine tk (i:=0) (v:=?_) rfl (by kernel_rfl) (fun _ _ _ h=>h) (by rfl) (by assumption) ?_ ?_
     rotate_left
     ·intro w hSw;(try dsimp only at hSw);go_simp;(try with_reducible rfl)
     (try simp only [Qd,Qe,List.set])
     refine tk (i:=1) (v:=?_) rfl (by kernel_rfl) (fun _ _ _ h=>h) (by rfl) (by assumption) ?_ ?_
     rotate_left
     ·intro w hSw;(try dsimp only at hSw);go_simp;(try with_reducible rfl)
     (try simp only [Qd,Qe,List.set])
     refine tk (i:=2) (v:=?_) rfl (by kernel_rfl) (fun _ _ _ h=>h) (by rfl) (by assumption) ?_ ?_
     rotate_left
     ·intro w hSw;(try dsimp only at hSw);go_simp;(try with_reducible rfl)
     (try simp only [Qd,Qe,List.set])
     refine tk (i:=3) (v:=?_) rfl (by kernel_rfl) (fun _ _ _ h=>h) (by rfl) (by assumption) ?_ ?_
     rotate_left
     ·intro w hSw;(try dsimp only at hSw);go_simp;(try with_reducible rfl)
     (try simp only [Qd,Qe,List.set])
     refine tk (i:=4) (v:=?_) rfl (by kernel_rfl) (fun _ _ _ h=>h) (by rfl) (by assumption) ?_ ?_
     rotate_left
     ·intro w hSw;(try dsimp only at hSw);go_simp;(try with_reducible rfl)
     (try simp only [Qd,Qe,List.set])
     refine tk (i:=5) (v:=?_) rfl (by kernel_rfl) (fun _ _ _ h=>h) (by rfl) (by assumption) ?_ ?_
     rotate_left
     ·intro w hSw;(try dsimp only at hSw);go_simp;(try with_reducible rfl)
     (try simp only [Qd,Qe,List.set])
     refine wpAnyH_ready (rs:=[6]) (by kernel_rfl) (by simp) ?_
     refine AllReadyH.cons rfl (fun K hK=>?_) AllReadyH.nil
     (go_simp;go_at_call 17;rw [Qju];refine (VD.out _ ((Qb.refl [] _).drew)).mono ?_;rintro e w8 ⟨u8,es8,rfl,hk8,⟨ns8,f8,_⟩ | ⟨f,g,_,rfl,rfl,_⟩⟩;(exact absurd f8 (T2.out _ _ pk));have HK8:=Hid.mk ((HK6.out.drew).trans hk8);obtain ⟨y0,y1,y2,_,_⟩:=Q2f ((hk8.block w3.heap.size hS6 (by simp)).trans HW6.out);clear hk8)
     refine hK.out _ _ ?_ (fun hHeld=>?_)
     ·go_keep
     clear hK K
     (try simp only [Qd,Qe,List.set])
     refine tk (i:=7) (v:=?_) rfl (by kernel_rfl) (fun _ _ _ h=>h) (by rfl) (by assumption) ?_ ?_
     rotate_left
     ·intro w hSw;(try dsimp only at hSw);go_simp;(try with_reducible rfl)
     (try simp only [Qd,Qe,List.set])
     refine tk (i:=8) (v:=?_) rfl (by kernel_rfl) (fun _ _ _ h=>h) (by rfl) (by assumption) ?_ ?_
     rotate_left
     ·intro w hSw;(try dsimp only at hSw);go_simp;(try with_reducible rfl)
     (try simp only [Qd,Qe,List.set])
     refine tk (i:=9) (v:=?_) rfl (by kernel_rfl) (fun _ _ _ h=>h) (by rfl) (by assumption) ?_ ?_
     rotate_left
     ·intro w hSw;(try dsimp only at hSw);go_simp;(try with_reducible rfl)
     (try simp only [Qd,Qe,List.set])
     refine tk (i:=10) (v:=?_) rfl (by kernel_rfl) (fun _ _ _ h=>h) (by rfl) (by assumption) ?_ ?_
     rotate_left
     ·intro w hSw;(try dsimp only at hSw);go_simp;(try with_reducible rfl)
     (try simp only [Qd,Qe,List.set])
     refine wpAnyH_done (by kernel_rfl) ?_ _
     refine QL rfl (fun K hK=>?_)
     go_simp
     refine hK.out _ _ ?_
     clear hK K
     (try simp only [Qd,Qe,List.set])
     go_wp2
     go_ret
     exact ⟨rfl,HK8.out⟩
    ·go_wp2
     go_ret
     exact ⟨rfl,HK4.out⟩
  ·have lb':(4000:Int) < m.length:=by omega
   have la':(b.length:Int)≤4000:=by omega
   go_enter Tryz.func9,Tryz.ntmps9
   go_wp2_with fail
   refine VS.out.mono ?_
   rintro e w1 ⟨B,bs,rfl,hk,hS,hh,hB⟩
   have HK1:=Hid.mk hk
   clear hk hS hh hB VS VK VW
   go_wp2
   go_ret
   exact ⟨rfl,HK1.out⟩
 ·have la':(4000:Int) < b.length:=by omega
  go_enter Tryz.func9,Tryz.ntmps9
  go_wp2_with fail
  refine VS.out.mono ?_
  rintro e w1 ⟨B,bs,rfl,hk,hS,hh,hB⟩
  have HK1:=Hid.mk hk
  clear hk hS hh hB VS VK VW
  go_wp2
  go_ret
  exact ⟨rfl,HK1.out⟩
end Go.Proofs.YtmbcibgknckenaaGreatDoor
namespace Go.Proofs.YtmbcibgknckenaaGreatDoor
theorem Qfs:joinedFacts Tryz.pinned.checked.prog 9 Tryz.f9 Rows.tailSpec Rows.tailRow=true:=by
 unfold joinedFacts
 simp only [Bool.and_eq_true]
 repeat' apply And.intro
 all_goals (as_aux_lemma=>kernel_rfl)
end Go.Proofs.YtmbcibgknckenaaGreatDoor
namespace Go.Proofs.YtmbcibgknckenaaGreatDoor
open Go.ChangeShapes Go.WideShapes Go.ChangeAt Go.RowKit
open Go.ChangeMaps (open_string shut_string)
theorem Qnt : Tryz.prog.globalNamed "errors.errorType" = some 1 := by kernel_rfl
theorem Qnu : (Tryz.prog.cutTypes.find? (·.1 == "internal/reflectlite.rtype")).map (·.2) = some 240 := by kernel_rfl
theorem Qnv:((List.range Tryz.prog.types.size).filter fun t=>Tryz.prog.rowNamed t [101,114,114,111,114])=[24]:=by kernel_rfl
theorem Qct {W:World} (h:laidMetH Tryz.prog Rows.tailRow.laid W):laidMetH Tryz.prog Rows.apartRow.laid W:=by
 have h' : laidMet Tryz.prog Rows.apartRow.laid W ∧ handlesMet Tryz.prog [("errors.errorType", Rows.laid_errors_errorType)] W := h
 rw [MakeChecks.laidMetH_plain _ _ _ (by kernel_rfl)]
 exact h'.1
theorem Qcu {W:World} (h:laidMetH Tryz.prog Rows.tailRow.laid W):W.cell? ⟨1,0,none⟩=some (rlT 24):=by
 have h' : laidMet Tryz.prog Rows.apartRow.laid W ∧ handlesMet Tryz.prog [("errors.errorType", Rows.laid_errors_errorType)] W := h
 obtain ⟨name,u,ty,e1,e2,e3,e4,e5⟩:=h'.2 _ (List.mem_singleton.2 rfl)
 have en:name=[101,114,114,111,114]:=(Option.some.inj e1).symm
 subst en
 obtain rfl:=Option.some.inj (Qnu.symm.trans e2)
 have hm:ty∈(List.range Tryz.prog.types.size).filter fun t=>Tryz.prog.rowNamed t [101,114,114,111,114]:=List.mem_filter.2 ⟨List.mem_range.2 e3,e4⟩
 rw [Qnv] at hm
 obtain rfl:=List.mem_singleton.1 hm
 have hh:typeHandle Tryz.prog 24=hdl 24:=by kernel_rfl
 rw [hh] at e5
 simpa using World.var?_cell Qnt e5 0
theorem QlQ (os:Os) (args:Array Value):laidMetH Tryz.prog Rows.tailRow.laid ((World.doorLaid Tryz.prog 88 os).forCall (fun _ _=>0) ⟨#[],args,[]⟩).memory:=
 laidMetH_of_parts3 (fuel:=8) (laidMet_of_run' 8 (by kernel_rfl) (by kernel_rfl)) (by kernel_rfl) (by kernel_rfl)
theorem Qft (os:Os) (started:os.Started) (H:Type) (enc:TypeId×Value→H) :
  ReturnsInHanded {} Tryz.checked os 9 .any (fun w args=>(Rows.tailSpec.pre enc Tryz.prog Tryz.f9 [] false w args∧laidMetH Tryz.prog Rows.tailRow.laid w)∧sizedMet enc Tryz.prog Tryz.f9 (OpenSpec.ofChange Rows.tailSpec) false w args)
   (Rows.tailSpec.post enc Tryz.prog Tryz.f9 false true false false):=by
 refine Q5e (C:=Tryz.checked) (X:=fun w _=>laidMetH Tryz.prog Rows.tailRow.laid w) (fun _ _ _ hh h=>h.of_heap hh) Q6N started (by kernel_rfl) Tryz.func9
  (ChangeSpec.witness_shaped (enc:=enc) (C:=Tryz.checked) (os:=os) (X:=fun w _=>laidMetH Tryz.prog Rows.tailRow.laid w) false (World.doorLaid Tryz.prog 88 os) #[.int .i64 0,.string ⟨#[]⟩,.string ⟨#[]⟩] 8 rfl (World.shaped_of_RefB (by kernel_rfl) (by kernel_rfl)) (by kernel_rfl) (by kernel_rfl) (by kernel_rfl) (QlQ os _)) ?_
 intro W base args ds gs before hval0 hW hL hsh
 have hval:∀ (j:Nat) t v,Tryz.f9.params[j]? = some t→args[j]? = some v→Value.okWide Tryz.prog W .any base t v:=hval0
 have hW':=hW
 obtain ⟨p,q,hA0,hV,rfl,hfz,hnd⟩:=hW
 have hA:DataW.TrodAll enc Tryz.prog W 0 (fun _=>true) true Tryz.f9.params.toList args.toList ds p:=hA0
 rw [Tryz.params9] at hA hval
 obtain ⟨v0,v1,v2,d0,d1,d2,p0,p1,p2,rfl,rfl,rfl,h0,h1,h2⟩:=trodAll_three hA
 obtain ⟨rfl,rfl⟩:=trodVars_none hV
 obtain ⟨c,rfl,rfl,rfl,wc⟩:=open_int Tryz.underlying3 (hval 0 3 v0 rfl rfl) h0
 obtain ⟨⟨⟨a⟩⟩,rfl,rfl,rfl,ha⟩:=open_string Tryz.underlying9 (hval 1 9 v1 rfl rfl) h1
 obtain ⟨⟨⟨b⟩⟩,rfl,rfl,rfl,hb⟩:=open_string Tryz.underlying9 (hval 2 9 v2 rfl rfl) h2
 clear hA0 hval0
 have bc:=bounds_i64 wc
 refine (QlP (Q5d (Qct hL) hsh) (Qcu hL) c bc.1 bc.2 a b).mono fun e W' ⟨he,hk⟩=>?_
 subst he
 exact ⟨_,rfl,_,_,_,[],_,[],hW',trodAll_mk1 (shut_bool Tryz.underlying4 _),trodAll_mk3 (shut_int Tryz.underlying3 wc) (shut_string Tryz.underlying9 ha) (shut_string Tryz.underlying9 hb),rfl,(Q3b hk).frame _,fun h=>by cases h⟩
theorem QlR:Rows.TailSaid:=
 OpenClaim.holds_of_wide 9 Tryz.f9 rfl rfl rfl rfl rfl rfl rfl ⟨rfl,rfl,rfl,rfl,rfl⟩ rfl rfl rfl rfl rfl (by kernel_rfl) Tryz.func9 Qfs
  (of_decide_eq_true (by kernel_rfl)) (by unfold Func.isWrapper;rw [if_neg (of_decide_eq_false (by kernel_rfl))];exact ⟨rfl,rfl⟩)
  (fun os started H enc _=>Qft os started H enc)
theorem tail_card:Rows.TailCardSaid:=
 Claim7.holds_tied_plain_at .later [] Rows.tailCard.laidKinds true Rows.tailCard.stood.harness true
  QlR (fun _ h=>by cases h) (by kernel_rfl) (fun _ h=>by cases h) tail_row_tie rfl ⟨rfl,rfl⟩ (by kernel_rfl) rfl
  (fun f fn hf hfn=>by
   obtain rfl : f = 9 := Option.some.inj ((show Tryz.prog.funcNamed "marshal/marshalkeep.Tail" = some 9 by kernel_rfl).symm.trans hf) |>.symm
   obtain rfl:fn=Tryz.f9:=(Option.some.inj (Tryz.func9.symm.trans hfn)).symm
   exact ⟨by kernel_rfl,fun j t ht=>by
    rw [Tryz.params9] at ht
    have hm:t∈[3,9,9]:=by simpa using Array.mem_of_getElem? ht
    have hall:([3,9,9].all fun u=>!Tryz.prog.wantsStandIn u)=true:=by kernel_rfl
    exact (show Tryz.prog.wantsStandIn t=false by simpa using List.all_eq_true.1 hall t hm)⟩)
  (by kernel_rfl)
end Go.Proofs.YtmbcibgknckenaaGreatDoor
