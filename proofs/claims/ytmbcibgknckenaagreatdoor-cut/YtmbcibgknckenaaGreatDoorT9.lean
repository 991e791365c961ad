import Derived.Test.YtmbcibgknckenaaGreatDoorT8
import Derived.Defers
import Derived.Recover
set_option linter.all false
set_option maxRecDepth 100000
set_option maxHeartbeats 4000000
namespace Go.Proofs.YtmbcibgknckenaaGreatDoor
open Go.RowKit
open Go.MapKept
theorem QdE {w u:World} {a:CAd} {Fr bs:List (Nat×Obj)} {s:CSt} {sl ks:Value} {cv:List (Qj×Value)} {et:List (List UInt8×NumL×Value)} {bs0:List (Nat×Obj)} {b:Nat} {d:Qq} (hd:Q0o bs0 b (.typedef d)) (hw:∀ p∈bs0,w.heap[p.1]? = some p.2) (hty:Q1O d.ty) (h:Cp w a Fr bs s sl ks cv et u) (hr:Room s 5000) :
  Calls Tryz.prog 53 #[.pointer (some ⟨a.C,0,none⟩),.iface 178 (.pointer (some ⟨b,0,none⟩))] u fun e u'=>e = .returned (.tuple #[])∧Qz w a Fr bs (QH (.typedef d) s) u':=by
 have t0:∀ W,(Instr.typeAssert (.iface 178 (.pointer (some ⟨b,0,none⟩))) 113 178 true).run Tryz.prog W = .ok (.tuple #[.pointer (some ⟨b,0,none⟩),.bool true]) W:=fun W=>by kernel_rfl
 have HD:=Hid.mk hd
 have hr0:=hr.code
 have HH:=Hid.mk (Q2k h)
 obtain ⟨k0,k1,k2,_⟩:=Q0i (h.heap (hw _ hd))
 obtain ⟨T,x,hT⟩:=Q03 d.ty
 have V:=Q5x hty.deep h (hr.less (by omega))
 rw [hT] at k2 V
 have V:=Hid.mk V
 have hc:=Q4S hty.deep
 have hvl:=Q1J d.ty s
 clear h hd hT
 go_enter Tryz.func53,Tryz.ntmps53
 go_wp2_with fail
 refine HH.out.mono ?_
 rintro e w1 ⟨rfl,rfl⟩
 go_wp2_with fail
 refine V.out.mono ?_
 rintro e w2 ⟨rfl,bs2,sl2,ks2,cv2,et2,hb2,M2⟩
 go_wp2_with fail
 refine (Q1n (v:=.iface 210 (.agg #[])) (x:=.ret) M2 rfl (by rw [hvl];omega)).mono ?_
 rintro e w3 ⟨rfl,sl3,M3⟩
 have hh3:Held [] bs0 w3.drew:=fun p hp=>⟨M3.heap (hw p hp),by simp⟩
 have htr:=Q2U (d:=.typedef d) HD.out hh3
 have hen:=Q1M
 have hfn:∀ (a b:Value) (W:World),(Instr.field 116 (.agg #[a,b]) 0).run Tryz.prog W = .ok a W:=fun _ _ _=>by kernel_rfl
 dsimp only [defT,Qw] at htr
 obtain ⟨c0,c1,c2,c3,hfz,hlt⟩:=M3.cells
 have M3:=Hid.mk M3
 have HB2:=Hid.mk hb2
 clear M2 hb2 hh3
 go_wp2_with fail
 refine Qu (fun w'=>w'.cell? ⟨a.C,1,none⟩=some (.map (some a.B))) (L:=8) (by kernel_rfl) rfl (by kernel_rfl) (by kernel_rfl) ?_ (fun hHeld=>?_)
 ·go_keep
 refine tk (i:=0) (v:=?_) rfl (by kernel_rfl) (fun _ _ _ h=>h) (by rfl) (by assumption) ?_ ?_
 rotate_left
 ·intro w hSw;(try dsimp only at hSw);go_simp;(try with_reducible rfl)
 (try simp only [Qd,Qe,List.set])
 refine tk (i:=1) (v:=?_) rfl (by kernel_rfl) (fun _ _ _ h=>h) (by rfl) (by assumption) ?_ ?_
 rotate_left
 ·intro w hSw;(try dsimp only at hSw);go_simp;(try with_reducible rfl)
 (try simp only [Qd,Qe,List.set])
 refine tk (i:=2) (v:=?_) rfl (by kernel_rfl) (fun _ _ _ h=>h) (by rfl) (by assumption) ?_ ?_
 rotate_left
 ·intro w hSw;(try dsimp only at hSw);go_simp;(try with_reducible rfl)
 (try simp only [Qd,Qe,List.set])
 refine tk (i:=3) (v:=?_) rfl (by kernel_rfl) (fun _ _ _ h=>h) (by rfl) (by assumption) ?_ ?_
 rotate_left
 ·intro w hSw;(try dsimp only at hSw);go_simp;(try with_reducible rfl)
 (try simp only [Qd,Qe,List.set])
 refine tk (i:=4) (v:=?_) rfl (by kernel_rfl) (fun _ _ _ h=>h) (by rfl) (by assumption) ?_ ?_
 rotate_left
 ·intro w hSw;(try dsimp only at hSw);go_simp;(try with_reducible rfl)
 (try simp only [Qd,Qe,List.set])
 refine tk (i:=7) (v:=?_) rfl (by kernel_rfl) (fun _ _ _ h=>h) (by rfl) (by assumption) ?_ ?_
 rotate_left
 ·intro w hSw;(try dsimp only at hSw);go_simp;(try with_reducible rfl)
 (try simp only [Qd,Qe,List.set])
 refine wpAnyH_ready (rs:=[5]) (by kernel_rfl) (by simp) ?_
 refine AllReadyH.cons rfl (fun K hK=>?_) AllReadyH.nil
 (go_simp;go_at_call 238;refine (Q2R _ _ _).mono ?_;rintro e w6 ⟨rfl,hb6⟩;have M6:=(M3.out.below (Below.refl _ _).drew).below hb6;have c6:=M6.cells.2.1;obtain ⟨hput,M7⟩:=M6.putBody d.t s.code.length;have M7:=Hid.mk M7;clear M6 hb6)
 refine hK.out _ _ ?_ (fun hHeld=>?_)
 ·go_keep
 clear hK K
 (try simp only [Qd,Qe,List.set])
 refine tk (i:=6) (v:=?_) rfl (by kernel_rfl) (fun _ _ _ h=>h) (by rfl) (by assumption) ?_ ?_
 rotate_left
 ·intro w hSw;(try dsimp only at hSw);go_simp;(try with_reducible rfl)
 (try simp only [Qd,Qe,List.set])
 refine wpAnyH_done (by kernel_rfl) ?_ _
 refine QB rfl (fun K hK=>?_)
 go_simp
 refine hK.out _ _ ?_
 clear hK K
 (try simp only [Qd,Qe,List.set])
 go_wp2
 go_end0
 exact ⟨rfl,Qz.more HB2.out M7.out.gives⟩
theorem Qf9 {w u:World} {a:CAd} {Fr bs:List (Nat×Obj)} {s:CSt} {sl ks:Value} {cv:List (Qj×Value)} {et:List (List UInt8×NumL×Value)} {bs0:List (Nat×Obj)} {b:Nat} {at':Nat} {t:List UInt8} {ms:List Qq} (hd:Q0o bs0 b (.struct t at' ms)) (hw:∀ p∈bs0,w.heap[p.1]? = some p.2) (hty:∀ m∈ms,Q1O m.ty) (hn:ms.length≤1000) (h:Cp w a Fr bs s sl ks cv et u) (hr:Room s 5000) :
  Calls Tryz.prog 53 #[.pointer (some ⟨a.C,0,none⟩),.iface 182 (.pointer (some ⟨b,0,none⟩))] u fun e u'=>e = .returned (.tuple #[])∧Qz w a Fr bs (QH (.struct t at' ms) s) u':=by
 have t0:∀ W,(Instr.typeAssert (.iface 182 (.pointer (some ⟨b,0,none⟩))) 113 178 true).run Tryz.prog W = .ok (.tuple #[.pointer none,.bool false]) W:=fun W=>by kernel_rfl
 have t1:∀ W,(Instr.typeAssert (.iface 182 (.pointer (some ⟨b,0,none⟩))) 113 180 true).run Tryz.prog W = .ok (.tuple #[.pointer none,.bool false]) W:=fun W=>by kernel_rfl
 have t2:∀ W,(Instr.typeAssert (.iface 182 (.pointer (some ⟨b,0,none⟩))) 113 182 true).run Tryz.prog W = .ok (.tuple #[.pointer (some ⟨b,0,none⟩),.bool true]) W:=fun W=>by kernel_rfl
 have HD:=Hid.mk hd
 have hr0:=hr.code
 have HH:=Hid.mk (Q2k h)
 have V:=Hid.mk (QdD hd hw (fun m hm=>(hty m hm).deep) h (hr.less (by omega)))
 have hrm:Room (Q1I ms s) 1:=by
  have e:=Q9l (ms.map (·.ty)) (s:=putM (.struct ms.length true) s) (n:=1) (by intro t ht;obtain ⟨m,hm,rfl⟩:=List.mem_map.1 ht;exact (hty m hm).deep) (Room.put (hr.less (by simp;omega)) _)
  rw [List.foldl_map] at e
  exact e
 have hrc:=hrm.code
 clear h hd hty hrm
 go_enter Tryz.func53,Tryz.ntmps53
 go_wp2_with fail
 refine HH.out.mono ?_
 rintro e w1 ⟨rfl,rfl⟩
 go_wp2_with fail
 refine V.out.mono ?_
 rintro e w2 ⟨rfl,bs2,sl2,ks2,cv2,et2,hb2,M2⟩
 go_wp2_with fail
 refine (Q1n (v:=.iface 210 (.agg #[])) (x:=.ret) M2 rfl (by omega)).mono ?_
 rintro e w3 ⟨rfl,sl3,M3⟩
 have hh3:Held [] bs0 w3.drew:=fun p hp=>⟨M3.heap (hw p hp),by simp⟩
 have htr:=Q2U (d:=.struct t at' ms) HD.out hh3
 have hen:=Q1M
 have hfn:∀ (a b:Value) (W:World),(Instr.field 116 (.agg #[a,b]) 0).run Tryz.prog W = .ok a W:=fun _ _ _=>by kernel_rfl
 dsimp only [defT,Qw] at htr
 obtain ⟨c0,c1,c2,c3,hfz,hlt⟩:=M3.cells
 have M3:=Hid.mk M3
 have HB2:=Hid.mk hb2
 clear M2 hb2 hh3
 go_wp2_with fail
 refine Qu (fun w'=>w'.cell? ⟨a.C,1,none⟩=some (.map (some a.B))) (L:=8) (by kernel_rfl) rfl (by kernel_rfl) (by kernel_rfl) ?_ (fun hHeld=>?_)
 ·go_keep
 refine tk (i:=0) (v:=?_) rfl (by kernel_rfl) (fun _ _ _ h=>h) (by rfl) (by assumption) ?_ ?_
 rotate_left
 ·intro w hSw;(try dsimp only at hSw);go_simp;(try with_reducible rfl)
 (try simp only [Qd,Qe,List.set])
 refine tk (i:=1) (v:=?_) rfl (by kernel_rfl) (fun _ _ _ h=>h) (by rfl) (by assumption) ?_ ?_
 rotate_left
 ·intro w hSw;(try dsimp only at hSw);go_simp;(try with_reducible rfl)
 (try simp only [Qd,Qe,List.set])
 refine tk (i:=2) (v:=?_) rfl (by kernel_rfl) (fun _ _ _ h=>h) (by rfl) (by assumption) ?_ ?_
 rotate_left
 ·intro w hSw;(try dsimp only at hSw);go_simp;(try with_reducible rfl)
 (try simp only [Qd,Qe,List.set])
 refine tk (i:=3) (v:=?_) rfl (by kernel_rfl) (fun _ _ _ h=>h) (by rfl) (by assumption) ?_ ?_
 rotate_left
 ·intro w hSw;(try dsimp only at hSw);go_simp;(try with_reducible rfl)
 (try simp only [Qd,Qe,List.set])
 refine tk (i:=4) (v:=?_) rfl (by kernel_rfl) (fun _ _ _ h=>h) (by rfl) (by assumption) ?_ ?_
 rotate_left
 ·intro w hSw;(try dsimp only at hSw);go_simp;(try with_reducible rfl)
 (try simp only [Qd,Qe,List.set])
 refine tk (i:=7) (v:=?_) rfl (by kernel_rfl) (fun _ _ _ h=>h) (by rfl) (by assumption) ?_ ?_
 rotate_left
 ·intro w hSw;(try dsimp only at hSw);go_simp;(try with_reducible rfl)
 (try simp only [Qd,Qe,List.set])
 refine wpAnyH_ready (rs:=[5]) (by kernel_rfl) (by simp) ?_
 refine AllReadyH.cons rfl (fun K hK=>?_) AllReadyH.nil
 (go_simp;go_at_call 238;refine (Q2R _ _ _).mono ?_;rintro e w6 ⟨rfl,hb6⟩;have M6:=(M3.out.below (Below.refl _ _).drew).below hb6;have c6:=M6.cells.2.1;obtain ⟨hput,M7⟩:=M6.putBody t s.code.length;have M7:=Hid.mk M7;clear M6 hb6)
 refine hK.out _ _ ?_ (fun hHeld=>?_)
 ·go_keep
 clear hK K
 (try simp only [Qd,Qe,List.set])
 refine tk (i:=6) (v:=?_) rfl (by kernel_rfl) (fun _ _ _ h=>h) (by rfl) (by assumption) ?_ ?_
 rotate_left
 ·intro w hSw;(try dsimp only at hSw);go_simp;(try with_reducible rfl)
 (try simp only [Qd,Qe,List.set])
 refine wpAnyH_done (by kernel_rfl) ?_ _
 refine QB rfl (fun K hK=>?_)
 go_simp
 refine hK.out _ _ ?_
 clear hK K
 (try simp only [Qd,Qe,List.set])
 go_wp2
 go_end0
 exact ⟨rfl,Qz.more HB2.out M7.out.gives⟩
theorem QgR {w u:World} {a:CAd} {Fr bs:List (Nat×Obj)} {s:CSt} {sl ks:Value} {cv:List (Qj×Value)} {et:List (List UInt8×NumL×Value)} {bs0:List (Nat×Obj)} {b:Nat} {at':Nat} {t:List UInt8} {sel:Qq} {arms:List (List Int×Qq)} (hd:Q0o bs0 b (.union t at' sel arms)) (hw:∀ p∈bs0,w.heap[p.1]? = some p.2) (hsel:Q0J sel.ty) (hty:Q3y arms) (hn:arms.length≤1000) (h:Cp w a Fr bs s sl ks cv et u) (hr:Room s 5000) :
  Calls Tryz.prog 53 #[.pointer (some ⟨a.C,0,none⟩),.iface 184 (.pointer (some ⟨b,0,none⟩))] u fun e u'=>e = .returned (.tuple #[])∧Qz w a Fr bs (QH (.union t at' sel arms) s) u':=by
 have t0:∀ W,(Instr.typeAssert (.iface 184 (.pointer (some ⟨b,0,none⟩))) 113 178 true).run Tryz.prog W = .ok (.tuple #[.pointer none,.bool false]) W:=fun W=>by kernel_rfl
 have t1:∀ W,(Instr.typeAssert (.iface 184 (.pointer (some ⟨b,0,none⟩))) 113 180 true).run Tryz.prog W = .ok (.tuple #[.pointer none,.bool false]) W:=fun W=>by kernel_rfl
 have t2:∀ W,(Instr.typeAssert (.iface 184 (.pointer (some ⟨b,0,none⟩))) 113 182 true).run Tryz.prog W = .ok (.tuple #[.pointer none,.bool false]) W:=fun W=>by kernel_rfl
 have t3:∀ W,(Instr.typeAssert (.iface 184 (.pointer (some ⟨b,0,none⟩))) 113 184 true).run Tryz.prog W = .ok (.tuple #[.pointer (some ⟨b,0,none⟩),.bool true]) W:=fun W=>by kernel_rfl
 have HD:=Hid.mk hd
 have hr0:=hr.code
 have HH:=Hid.mk (Q2k h)
 have V:=Hid.mk (Qjy hd hw hsel hty h (hr.less (by omega)))
 have hrm:(Q40 sel arms s).code.length < 1000000:=by
  have e:=(Q8a arms (q:=⟨putM .hole s,[],none,[]⟩) (n:=1) hty (Room.put (hr.less (by omega)) _)).code
  simp only [Q40]
  rw [Q5e]
  simp only [setM,List.length_set]
  omega
 clear h hd hty
 go_enter Tryz.func53,Tryz.ntmps53
 go_wp2_with fail
 refine HH.out.mono ?_
 rintro e w1 ⟨rfl,rfl⟩
 go_wp2_with fail
 refine V.out.mono ?_
 rintro e w2 ⟨rfl,bs2,sl2,ks2,cv2,et2,hb2,M2⟩
 go_wp2_with fail
 refine (Q1n (v:=.iface 210 (.agg #[])) (x:=.ret) M2 rfl (by omega)).mono ?_
 rintro e w3 ⟨rfl,sl3,M3⟩
 have hh3:Held [] bs0 w3.drew:=fun p hp=>⟨M3.heap (hw p hp),by simp⟩
 have htr:=Q2U (d:=.union t at' sel arms) HD.out hh3
 have hen:=Q1M
 have hfn:∀ (a b:Value) (W:World),(Instr.field 116 (.agg #[a,b]) 0).run Tryz.prog W = .ok a W:=fun _ _ _=>by kernel_rfl
 dsimp only [defT,Qw] at htr
 obtain ⟨c0,c1,c2,c3,hfz,hlt⟩:=M3.cells
 have M3:=Hid.mk M3
 have HB2:=Hid.mk hb2
 clear M2 hb2 hh3
 go_wp2_with fail
 refine Qu (fun w'=>w'.cell? ⟨a.C,1,none⟩=some (.map (some a.B))) (L:=8) (by kernel_rfl) rfl (by kernel_rfl) (by kernel_rfl) ?_ (fun hHeld=>?_)
 ·go_keep
 refine tk (i:=0) (v:=?_) rfl (by kernel_rfl) (fun _ _ _ h=>h) (by rfl) (by assumption) ?_ ?_
 rotate_left
 ·intro w hSw;(try dsimp only at hSw);go_simp;(try with_reducible rfl)
 (try simp only [Qd,Qe,List.set])
 refine tk (i:=1) (v:=?_) rfl (by kernel_rfl) (fun _ _ _ h=>h) (by rfl) (by assumption) ?_ ?_
 rotate_left
 ·intro w hSw;(try dsimp only at hSw);go_simp;(try with_reducible rfl)
 (try simp only [Qd,Qe,List.set])
 refine tk (i:=2) (v:=?_) rfl (by kernel_rfl) (fun _ _ _ h=>h) (by rfl) (by assumption) ?_ ?_
 rotate_left
 ·intro w hSw;(try dsimp only at hSw);go_simp;(try with_reducible rfl)
 (try simp only [Qd,Qe,List.set])
 refine tk (i:=3) (v:=?_) rfl (by kernel_rfl) (fun _ _ _ h=>h) (by rfl) (by assumption) ?_ ?_
 rotate_left
 ·intro w hSw;(try dsimp only at hSw);go_simp;(try with_reducible rfl)
 (try simp only [Qd,Qe,List.set])
 refine tk (i:=4) (v:=?_) rfl (by kernel_rfl) (fun _ _ _ h=>h) (by rfl) (by assumption) ?_ ?_
 rotate_left
 ·intro w hSw;(try dsimp only at hSw);go_simp;(try with_reducible rfl)
 (try simp only [Qd,Qe,List.set])
 refine tk (i:=7) (v:=?_) rfl (by kernel_rfl) (fun _ _ _ h=>h) (by rfl) (by assumption) ?_ ?_
 rotate_left
 ·intro w hSw;(try dsimp only at hSw);go_simp;(try with_reducible rfl)
 (try simp only [Qd,Qe,List.set])
 refine wpAnyH_ready (rs:=[5]) (by kernel_rfl) (by simp) ?_
 refine AllReadyH.cons rfl (fun K hK=>?_) AllReadyH.nil
 (go_simp;go_at_call 238;refine (Q2R _ _ _).mono ?_;rintro e w6 ⟨rfl,hb6⟩;have M6:=(M3.out.below (Below.refl _ _).drew).below hb6;have c6:=M6.cells.2.1;obtain ⟨hput,M7⟩:=M6.putBody t s.code.length;have M7:=Hid.mk M7;clear M6 hb6)
 refine hK.out _ _ ?_ (fun hHeld=>?_)
 ·go_keep
 clear hK K
 (try simp only [Qd,Qe,List.set])
 refine tk (i:=6) (v:=?_) rfl (by kernel_rfl) (fun _ _ _ h=>h) (by rfl) (by assumption) ?_ ?_
 rotate_left
 ·intro w hSw;(try dsimp only at hSw);go_simp;(try with_reducible rfl)
 (try simp only [Qd,Qe,List.set])
 refine wpAnyH_done (by kernel_rfl) ?_ _
 refine QB rfl (fun K hK=>?_)
 go_simp
 refine hK.out _ _ ?_
 clear hK K
 (try simp only [Qd,Qe,List.set])
 go_wp2
 go_end0
 exact ⟨rfl,Qz.more HB2.out M7.out.gives⟩
theorem Cp.lookSame {w u:World} {a:CAd} {Fr bs:List (Nat×Obj)} {s:CSt} {sl ks:Value} {cv:List (Qj×Value)} {et:List (List UInt8×NumL×Value)} {n:List UInt8} {x:NumL} {v:Value} (h:Cp w a Fr bs s sl ks cv (mput et n (x,v)) u):(Instr.lookup 120 (.map (some a.E)) (.string ⟨n.toArray⟩) false).run Tryz.prog u = .ok v u:=by
 have hrun:=Q2H (P:=Tryz.prog) (w:=u) (T:=120) (kt:=9) (et:=200) (d:=.string) (by kernel_rfl) (by kernel_rfl) (fun k:List UInt8=>.string ⟨k.toArray⟩) (fun k:NumL×Value=>k.2) (fun _=>trivial) Q3L h.enu h.enp (z:=.agg #[.int .i64 0,.int .i64 0,.slice none 0 0,.bool false]) (by kernel_rfl) n false
 rw [Q3c,if_pos rfl] at hrun
 exact hrun
theorem Qio {w u:World} {a:CAd} {Fr bs:List (Nat×Obj)} {s:CSt} {sl ks:Value} {cv:List (Qj×Value)} {et:List (List UInt8×NumL×Value)} {bs0:List (Nat×Obj)} {b:Nat} {at':Nat} {t:List UInt8} {ms:List (List UInt8×Nat×Int)} (hd:Q0o bs0 b (.enum t at' ms)) (hw:∀ p∈bs0,w.heap[p.1]? = some p.2) (h:Cp w a Fr bs s sl ks cv et u) (hr:Room s 5000) :
  Calls Tryz.prog 53 #[.pointer (some ⟨a.C,0,none⟩),.iface 180 (.pointer (some ⟨b,0,none⟩))] u fun e u'=>e = .returned (.tuple #[])∧Qz w a Fr bs (QH (.enum t at' ms) s) u':=by
 have t0:∀ W,(Instr.typeAssert (.iface 180 (.pointer (some ⟨b,0,none⟩))) 113 178 true).run Tryz.prog W = .ok (.tuple #[.pointer none,.bool false]) W:=fun W=>by kernel_rfl
 have t1:∀ W,(Instr.typeAssert (.iface 180 (.pointer (some ⟨b,0,none⟩))) 113 180 true).run Tryz.prog W = .ok (.tuple #[.pointer (some ⟨b,0,none⟩),.bool true]) W:=fun W=>by kernel_rfl
 have HD:=Hid.mk hd
 have hr0:=hr.code
 have HH:=Hid.mk (Q2k h)
 have hbb:∃ msl,w.heap[b]? = some (.cells #[.string ⟨t.toArray⟩,.int .i64 at',msl] 206):=by obtain ⟨msl,ps,h1,_⟩:=hd;exact ⟨msl,hw _ h1⟩
 obtain ⟨msl,hbox⟩:=hbb
 have HBX:=Hid.mk (fun (v:World) (hv:Qb [] w v)=>(Q0i ((hv.block _ (Qc hbox) (by simp)).trans hbox)).1)
 have k0:=HBX.out _ h.own.kp
 obtain ⟨c0,c1,c2,c3,hfz,hlt⟩:=h.cells
 have VM:=Hid.mk (QgQ (u:=u.drew) hd (fun p hp=>h.heap (hw p hp)))
 have H:=Hid.mk h
 clear h hd hbox
 go_enter Tryz.func53,Tryz.ntmps53
 go_wp2_with fail
 refine HH.out.mono ?_
 rintro e w1 ⟨rfl,rfl⟩
 go_wp2_with fail
 refine Qu (fun w'=>w'.cell? ⟨a.C,2,none⟩=some (.map (some a.E))∧w'.cell? ⟨b,0,none⟩=some (.string ⟨t.toArray⟩)) (L:=11) (by kernel_rfl) rfl (by kernel_rfl) (by kernel_rfl) ?_ (fun hHeld=>?_)
 ·go_keep
 refine tk (i:=0) (v:=?_) rfl (by kernel_rfl) (fun _ _ _ h=>h) (by rfl) (by assumption) ?_ ?_
 rotate_left
 ·intro w hSw;(try dsimp only at hSw);go_simp;(try with_reducible rfl)
 (try simp only [Qd,Qe,List.set])
 refine tk (i:=1) (v:=?_) rfl (by kernel_rfl) (fun _ _ _ h=>h) (by rfl) (by assumption) ?_ ?_
 rotate_left
 ·intro w hSw;(try dsimp only at hSw);go_simp;(try with_reducible rfl)
 (try simp only [Qd,Qe,List.set])
 refine tk (i:=2) (v:=?_) rfl (by kernel_rfl) (fun _ _ _ h=>h) (by rfl) (by assumption) ?_ ?_
 rotate_left
 ·intro w hSw;(try dsimp only at hSw);go_simp;(try with_reducible rfl)
 (try simp only [Qd,Qe,List.set])
 refine tk (i:=3) (v:=?_) rfl (by kernel_rfl) (fun _ _ _ h=>h) (by rfl) (by assumption) ?_ ?_
 rotate_left
 ·intro w hSw;(try dsimp only at hSw);go_simp;(try with_reducible rfl)
 (try simp only [Qd,Qe,List.set])
 refine tk (i:=4) (v:=?_) rfl (by kernel_rfl) (fun _ _ _ h=>h) (by rfl) (by assumption) ?_ ?_
 rotate_left
 ·intro w hSw;(try dsimp only at hSw);go_simp;(try with_reducible rfl)
 (try simp only [Qd,Qe,List.set])
 refine tk (i:=5) (v:=?_) rfl (by kernel_rfl) (fun _ _ _ h=>h) (by rfl) (by assumption) ?_ ?_
 rotate_left
 ·intro w hSw;(try dsimp only at hSw);go_simp;(try with_reducible rfl)
 (try simp only [Qd,Qe,List.set])
 refine tk (i:=6) (v:=?_) rfl (by kernel_rfl) (fun _ _ _ h=>h) (by rfl) (by assumption) ?_ ?_
 rotate_left
 ·intro w hSw;(try dsimp only at hSw);go_simp;(try with_reducible rfl)
 (try simp only [Qd,Qe,List.set])
 refine tk (i:=7) (v:=?_) rfl (by kernel_rfl) (fun _ _ _ h=>h) (by rfl) (by assumption) ?_ ?_
 rotate_left
 ·intro w hSw;(try dsimp only at hSw);go_simp;(try with_reducible rfl)
 (try simp only [Qd,Qe,List.set])
 refine tk (i:=8) (v:=?_) rfl (by kernel_rfl) (fun _ _ _ h=>h) (by rfl) (by assumption) ?_ ?_
 rotate_left
 ·intro w hSw;(try dsimp only at hSw);go_simp;(try with_reducible rfl)
 (try simp only [Qd,Qe,List.set])
 refine tk (i:=9) (v:=?_) rfl (by kernel_rfl) (fun _ _ _ h=>h) (by rfl) (by assumption) ?_ ?_
 rotate_left
 ·intro w hSw;(try dsimp only at hSw);go_simp;(try with_reducible rfl)
 (try simp only [Qd,Qe,List.set])
 refine wpAnyH_ready (rs:=[10]) (by kernel_rfl) (by simp) ?_
 refine AllReadyH.cons rfl (fun K hK=>?_) AllReadyH.nil
 (go_simp;go_at_call 97;refine VM.out.mono ?_;rintro e w5 ⟨lo,hi,x,y,z,wd,bs5,rfl,hN,hb5,hbs5⟩;have M5:=Cp.addBs (H.out.below (Below.refl _ _).drew) hb5 hbs5;have q2:=M5.cells.2.2.1;have q0:=HBX.out _ M5.own.kp;obtain ⟨o,hput,M6⟩:=M5.putEnum (v:=.agg (numA lo hi x y z wd).toArray) (x:=Q0p ms) ⟨_,rfl,hN.more (fun p hp=>List.mem_append_left _ hp)⟩ t;have M6:=Hid.mk M6;have HN:=Hid.mk hN;clear M5 hb5 hbs5 hN)
 refine hK.out _ _ ?_ (fun hHeld=>?_)
 ·go_keep
 clear hK K
 (try simp only [Qd,Qe,List.set])
 refine wpAnyH_done (by kernel_rfl) ?_ _
 refine QB rfl (fun K hK=>?_)
 go_simp
 refine hK.out _ _ ?_
 clear hK K
 (try simp only [Qd,Qe,List.set])
 obtain ⟨w6,hw6⟩:∃ w6,w6=Q04 w5 a.E o:=⟨_,rfl⟩
 rw [← hw6] at M6 ⊢
 clear hput hw6
 have hlk:=(M6.out.below (Below.refl _ _).drew).lookSame
 obtain ⟨d0,d1,d2,d3,dfz,dlt⟩:=M6.out.cells
 have kk0:=HBX.out _ M6.out.own.kp
 have HP:=Hid.mk (Q1n (v:=.iface 200 (.agg (numA lo hi x y z wd).toArray)) (x:=.num (Q0p ms)) (M6.out.below (Below.refl _ _).drew) ⟨_,rfl,HN.out.more (fun p hp=>List.mem_append_left _ hp)⟩ (by show s.code.length < 1000000;omega))
 have hl5:(putM (.num (Q0p ms)) { s with enums:=mput s.enums t (Q0p ms) }).code.length < 1000000:=by rw [Q68];show s.code.length + 1 < 1000000;omega
 clear M6 HN
 go_wp2_with fail
 refine Qu (fun w'=>w'.cell? ⟨a.C,2,none⟩=some (.map (some a.E))∧w'.cell? ⟨b,0,none⟩=some (.string ⟨t.toArray⟩)∧(Instr.lookup 120 (.map (some a.E)) (.string ⟨t.toArray⟩) false).run Tryz.prog w' = .ok (.agg (numA lo hi x y z wd).toArray) w') (L:=12) (by kernel_rfl) rfl (by kernel_rfl) (by kernel_rfl) ?_ (fun hHeld=>?_)
 ·go_keep
 refine tk (i:=0) (v:=?_) rfl (by kernel_rfl) (fun _ _ _ h=>h) (by rfl) (by assumption) ?_ ?_
 rotate_left
 ·intro w hSw;(try dsimp only at hSw);go_simp;(try with_reducible rfl)
 (try simp only [Qd,Qe,List.set])
 refine tk (i:=1) (v:=?_) rfl (by kernel_rfl) (fun _ _ _ h=>h) (by rfl) (by assumption) ?_ ?_
 rotate_left
 ·intro w hSw;(try dsimp only at hSw);go_simp;(try with_reducible rfl)
 (try simp only [Qd,Qe,List.set])
 refine tk (i:=2) (v:=?_) rfl (by kernel_rfl) (fun _ _ _ h=>h) (by rfl) (by assumption) ?_ ?_
 rotate_left
 ·intro w hSw;(try dsimp only at hSw);go_simp;(try with_reducible rfl)
 (try simp only [Qd,Qe,List.set])
 refine tk (i:=3) (v:=?_) rfl (by kernel_rfl) (fun _ _ _ h=>h) (by rfl) (by assumption) ?_ ?_
 rotate_left
 ·intro w hSw;(try dsimp only at hSw);go_simp;(try with_reducible rfl)
 (try simp only [Qd,Qe,List.set])
 refine tk (i:=4) (v:=?_) rfl (by kernel_rfl) (fun _ _ _ h=>h) (by rfl) (by assumption) ?_ ?_
 rotate_left
 ·intro w hSw;(try dsimp only at hSw);go_simp;(try with_reducible rfl)
 (try simp only [Qd,Qe,List.set])
 refine tk (i:=5) (v:=?_) rfl (by kernel_rfl) (fun _ _ _ h=>h) (by rfl) (by assumption) ?_ ?_
 rotate_left
 ·intro w hSw;(try dsimp only at hSw);go_simp;(try with_reducible rfl)
 (try simp only [Qd,Qe,List.set])
 refine tk (i:=6) (v:=?_) rfl (by kernel_rfl) (fun _ _ _ h=>h) (by rfl) (by assumption) ?_ ?_
 rotate_left
 ·intro w hSw;(try dsimp only at hSw);go_simp;(try with_reducible rfl)
 (try simp only [Qd,Qe,List.set])
 refine tk (i:=7) (v:=?_) rfl (by kernel_rfl) (fun _ _ _ h=>h) (by rfl) (by assumption) ?_ ?_
 rotate_left
 ·intro w hSw;(try dsimp only at hSw);go_simp;(try with_reducible rfl)
 (try simp only [Qd,Qe,List.set])
 refine tk (i:=8) (v:=?_) rfl (by kernel_rfl) (fun _ _ _ h=>h) (by rfl) (by assumption) ?_ ?_
 rotate_left
 ·intro w hSw;(try dsimp only at hSw);go_simp;(try with_reducible rfl)
 (try simp only [Qd,Qe,List.set])
 refine tk (i:=9) (v:=?_) rfl (by kernel_rfl) (fun _ _ _ h=>h) (by rfl) (by assumption) ?_ ?_
 rotate_left
 ·intro w hSw;(try dsimp only at hSw);go_simp;(try with_reducible rfl)
 (try simp only [Qd,Qe,List.set])
 refine tk (i:=10) (v:=?_) rfl (by kernel_rfl) (fun _ _ _ h=>h) (by rfl) (by assumption) ?_ ?_
 rotate_left
 ·intro w hSw;(try dsimp only at hSw);go_simp;(try with_reducible rfl)
 (try simp only [Qd,Qe,List.set])
 refine tk (i:=11) (v:=?_) rfl (by kernel_rfl) (fun _ _ _ h=>h) (by rfl) (by assumption) ?_ ?_
 rotate_left
 ·intro w hSw;(try dsimp only at hSw);go_simp;(try with_reducible rfl)
 (try simp only [Qd,Qe,List.set])
 refine wpAnyH_done (by kernel_rfl) ?_ _
 refine QB rfl (fun K hK=>?_)
 (go_simp;go_at_call 98;refine HP.out.mono ?_;rintro e w2 ⟨rfl,sl2,M2⟩)
 refine hK.out _ _ ?_
 clear hK K
 (try simp only [Qd,Qe,List.set])
 have hb2:∀ p∈bs,p∈bs5++bs:=fun p hp=>List.mem_append_right _ hp
 clear HP hlk
 go_wp2_with fail
 refine (Q1n (v:=.iface 210 (.agg #[])) (x:=.ret) M2 rfl (by exact hl5)).mono ?_
 rintro e w3 ⟨rfl,sl3,M3⟩
 have hh3:Held [] bs0 w3.drew:=fun p hp=>⟨M3.heap (hw p hp),by simp⟩
 have htr:=Q2U (d:=.enum t at' ms) HD.out hh3
 have hen:=Q1M
 have hfn:∀ (a b:Value) (W:World),(Instr.field 116 (.agg #[a,b]) 0).run Tryz.prog W = .ok a W:=fun _ _ _=>by kernel_rfl
 dsimp only [defT,Qw] at htr
 obtain ⟨c0,c1,c2,c3,hfz,hlt⟩:=M3.cells
 have M3:=Hid.mk M3
 have HB2:=Hid.mk hb2
 clear M2 hb2 hh3
 go_wp2_with fail
 refine Qu (fun w'=>w'.cell? ⟨a.C,1,none⟩=some (.map (some a.B))) (L:=8) (by kernel_rfl) rfl (by kernel_rfl) (by kernel_rfl) ?_ (fun hHeld=>?_)
 ·go_keep
 refine tk (i:=0) (v:=?_) rfl (by kernel_rfl) (fun _ _ _ h=>h) (by rfl) (by assumption) ?_ ?_
 rotate_left
 ·intro w hSw;(try dsimp only at hSw);go_simp;(try with_reducible rfl)
 (try simp only [Qd,Qe,List.set])
 refine tk (i:=1) (v:=?_) rfl (by kernel_rfl) (fun _ _ _ h=>h) (by rfl) (by assumption) ?_ ?_
 rotate_left
 ·intro w hSw;(try dsimp only at hSw);go_simp;(try with_reducible rfl)
 (try simp only [Qd,Qe,List.set])
 refine tk (i:=2) (v:=?_) rfl (by kernel_rfl) (fun _ _ _ h=>h) (by rfl) (by assumption) ?_ ?_
 rotate_left
 ·intro w hSw;(try dsimp only at hSw);go_simp;(try with_reducible rfl)
 (try simp only [Qd,Qe,List.set])
 refine tk (i:=3) (v:=?_) rfl (by kernel_rfl) (fun _ _ _ h=>h) (by rfl) (by assumption) ?_ ?_
 rotate_left
 ·intro w hSw;(try dsimp only at hSw);go_simp;(try with_reducible rfl)
 (try simp only [Qd,Qe,List.set])
 refine tk (i:=4) (v:=?_) rfl (by kernel_rfl) (fun _ _ _ h=>h) (by rfl) (by assumption) ?_ ?_
 rotate_left
 ·intro w hSw;(try dsimp only at hSw);go_simp;(try with_reducible rfl)
 (try simp only [Qd,Qe,List.set])
 refine tk (i:=7) (v:=?_) rfl (by kernel_rfl) (fun _ _ _ h=>h) (by rfl) (by assumption) ?_ ?_
 rotate_left
 ·intro w hSw;(try dsimp only at hSw);go_simp;(try with_reducible rfl)
 (try simp only [Qd,Qe,List.set])
 refine wpAnyH_ready (rs:=[5]) (by kernel_rfl) (by simp) ?_
 refine AllReadyH.cons rfl (fun K hK=>?_) AllReadyH.nil
 (go_simp;go_at_call 238;refine (Q2R _ _ _).mono ?_;rintro e w6 ⟨rfl,hb6⟩;have M6:=(M3.out.below (Below.refl _ _).drew).below hb6;have c6:=M6.cells.2.1;obtain ⟨hput,M7⟩:=M6.putBody t s.code.length;have M7:=Hid.mk M7;clear M6 hb6)
 refine hK.out _ _ ?_ (fun hHeld=>?_)
 ·go_keep
 clear hK K
 (try simp only [Qd,Qe,List.set])
 refine tk (i:=6) (v:=?_) rfl (by kernel_rfl) (fun _ _ _ h=>h) (by rfl) (by assumption) ?_ ?_
 rotate_left
 ·intro w hSw;(try dsimp only at hSw);go_simp;(try with_reducible rfl)
 (try simp only [Qd,Qe,List.set])
 refine wpAnyH_done (by kernel_rfl) ?_ _
 refine QB rfl (fun K hK=>?_)
 go_simp
 refine hK.out _ _ ?_
 clear hK K
 (try simp only [Qd,Qe,List.set])
 go_wp2
 go_end0
 exact ⟨rfl,Qz.more HB2.out M7.out.gives⟩
theorem QgS {w u:World} {a:CAd} {Fr bs:List (Nat×Obj)} {s:CSt} {sl ks:Value} {cv:List (Qj×Value)} {et:List (List UInt8×NumL×Value)} {b:Nat} (h:Cp w a Fr bs s sl ks cv et u) :
  Calls Tryz.prog 53 #[.pointer (some ⟨a.C,0,none⟩),.iface 176 (.pointer (some ⟨b,0,none⟩))] u fun e u'=>e = .returned (.tuple #[])∧Qz w a Fr bs s u':=by
 have t0:∀ W,(Instr.typeAssert (.iface 176 (.pointer (some ⟨b,0,none⟩))) 113 178 true).run Tryz.prog W = .ok (.tuple #[.pointer none,.bool false]) W:=fun W=>by kernel_rfl
 have t1:∀ W,(Instr.typeAssert (.iface 176 (.pointer (some ⟨b,0,none⟩))) 113 180 true).run Tryz.prog W = .ok (.tuple #[.pointer none,.bool false]) W:=fun W=>by kernel_rfl
 have t2:∀ W,(Instr.typeAssert (.iface 176 (.pointer (some ⟨b,0,none⟩))) 113 182 true).run Tryz.prog W = .ok (.tuple #[.pointer none,.bool false]) W:=fun W=>by kernel_rfl
 have t3:∀ W,(Instr.typeAssert (.iface 176 (.pointer (some ⟨b,0,none⟩))) 113 184 true).run Tryz.prog W = .ok (.tuple #[.pointer none,.bool false]) W:=fun W=>by kernel_rfl
 have HH:=Hid.mk (Q2k h)
 have H:=Hid.mk h.gives
 clear h
 go_enter Tryz.func53,Tryz.ntmps53
 go_wp2_with fail
 refine HH.out.mono ?_
 rintro e w1 ⟨rfl,rfl⟩
 go_wp2
 first
  | (go_end0;exact ⟨rfl,H.out⟩)
  | exact bodyPost_ret (v:=.tuple #[]) (by simp [results,Tryz.results53,go_sem]) rfl ⟨rfl,H.out⟩
theorem Qip {w u:World} {a:CAd} {Fr bs:List (Nat×Obj)} {s:CSt} {sl ks:Value} {cv:List (Qj×Value)} {et:List (List UInt8×NumL×Value)} {b:Nat} (h:Cp w a Fr bs s sl ks cv et u) :
  Calls Tryz.prog 53 #[.pointer (some ⟨a.C,0,none⟩),.iface 186 (.pointer (some ⟨b,0,none⟩))] u fun e u'=>e = .returned (.tuple #[])∧Qz w a Fr bs s u':=by
 have t0:∀ W,(Instr.typeAssert (.iface 186 (.pointer (some ⟨b,0,none⟩))) 113 178 true).run Tryz.prog W = .ok (.tuple #[.pointer none,.bool false]) W:=fun W=>by kernel_rfl
 have t1:∀ W,(Instr.typeAssert (.iface 186 (.pointer (some ⟨b,0,none⟩))) 113 180 true).run Tryz.prog W = .ok (.tuple #[.pointer none,.bool false]) W:=fun W=>by kernel_rfl
 have t2:∀ W,(Instr.typeAssert (.iface 186 (.pointer (some ⟨b,0,none⟩))) 113 182 true).run Tryz.prog W = .ok (.tuple #[.pointer none,.bool false]) W:=fun W=>by kernel_rfl
 have t3:∀ W,(Instr.typeAssert (.iface 186 (.pointer (some ⟨b,0,none⟩))) 113 184 true).run Tryz.prog W = .ok (.tuple #[.pointer none,.bool false]) W:=fun W=>by kernel_rfl
 have HH:=Hid.mk (Q2k h)
 have H:=Hid.mk h.gives
 clear h
 go_enter Tryz.func53,Tryz.ntmps53
 go_wp2_with fail
 refine HH.out.mono ?_
 rintro e w1 ⟨rfl,rfl⟩
 go_wp2
 first
  | (go_end0;exact ⟨rfl,H.out⟩)
  | exact bodyPost_ret (v:=.tuple #[]) (by simp [results,Tryz.results53,go_sem]) rfl ⟨rfl,H.out⟩
theorem Qcz {w u:World} {a:CAd} {Fr bs:List (Nat×Obj)} {s:CSt} {sl ks:Value} {cv:List (Qj×Value)} {et:List (List UInt8×NumL×Value)} {bs0:List (Nat×Obj)} {b:Nat} {d:DefL} (hd:Q0o bs0 b d) (hw:∀ p∈bs0,w.heap[p.1]? = some p.2) (hty:Q7k d) (h:Cp w a Fr bs s sl ks cv et u) (hr:Room s 5000) :
  Calls Tryz.prog 53 #[.pointer (some ⟨a.C,0,none⟩),.iface (defT d) (.pointer (some ⟨b,0,none⟩))] u fun e u'=>e = .returned (.tuple #[])∧Qz w a Fr bs (QH d s) u':=by
 cases d with
 | const t p v=>exact QgS h
 | prog t p vs n=>exact Qip h
 | typedef d=>exact QdE hd hw hty h hr
 | enum t p ms=>exact Qio hd hw h hr
 | struct t p ms=>
  have hn:ms.length≤1000:=by
   obtain ⟨_,_,h1⟩:=hd
   rcases h1 with ⟨_,h0,_⟩ | ⟨_,_,_,_,⟨_,h1⟩,_⟩<;>omega
  exact Qf9 hd hw hty hn h hr
 | union t p sel arms=>
  have hn:arms.length≤1000:=by
   obtain ⟨_,_,_,_,h1,_⟩:=hd
   rcases h1 with ⟨_,h0,_⟩ | ⟨_,_,_,_,⟨_,h1⟩,_⟩<;>omega
  exact QgR hd hw hty.1 hty.2 hn h hr
abbrev lnk (s:CSt) (l:List (Nat×List UInt8)):CSt:=l.foldl (fun s k=>setM k.1 (.call ((look s.bodies k.2).getD 0)) s) s
theorem QcA:∀ (l:List (Nat×List UInt8)) (s:CSt),(lnk s l).code.length=s.code.length∧(lnk s l).bodies=s.bodies∧(lnk s l).calls=s.calls:=by
 intro l
 induction l with
 | nil=>intro s;exact ⟨rfl,rfl,rfl⟩
 | cons k l ih=>
  intro s
  obtain ⟨h1,h2,h3⟩:=ih (setM k.1 (.call ((look s.bodies k.2).getD 0)) s)
  exact ⟨h1.trans (by simp [setM]),h2,h3⟩
theorem Qiq (l:List (Nat×List UInt8)) (k:Nat×List UInt8) (s:CSt):lnk s (l++[k])=setM k.1 (.call ((look (lnk s l).bodies k.2).getD 0)) (lnk s l):=by
 unfold lnk
 rw [List.foldl_append]
 rfl
theorem Qkf {w u:World} {a:CAd} {Fr bs:List (Nat×Obj)} {s:CSt} {sl ks:Value} {cv:List (Qj×Value)} {et:List (List UInt8×NumL×Value)} (h:Cp w a Fr bs s sl ks cv et u) (hc:∀ k∈s.calls,k.1 < s.code.length) (hs:s.code.length < 1000000) (hs2:s.calls.length < 1000000) :
  Calls Tryz.prog 56 #[.pointer (some ⟨a.C,0,none⟩)] u fun e u'=>e = .returned (.tuple #[])∧∃ cv',Cp w a Fr bs (Q6v s) sl ks cv' et u':=by
 obtain ⟨c0,c1,c2,c3,hfz,hlt⟩:=h.cells
 have HU:Hid (Q6v s=lnk s s.calls):=rfl
 have hcells:∀ (v:World) (st:CSt) (cv9:List (Qj×Value)),st.calls=s.calls→Cp w a Fr bs st sl ks cv9 et v→∀ (j:Nat) (hj:j < s.calls.length),∃ g cap,ks = .slice (some ⟨g,0,none⟩) s.calls.length cap∧s.calls.length≤cap∧v.cell? ⟨g,j * 2,none⟩=some (.int .i64 s.calls[j].1)∧v.cell? ⟨g,j * 2 + 1,none⟩=some (.string ⟨s.calls[j].2.toArray⟩):=by
  intro v st cv9 hst m j hj
  have hk:=m.kro
  rw [hst] at hk
  rcases hk.2 with ⟨_,h0⟩ | ⟨g,cap,cur,e,_,h3,h4,h5,h6,h7⟩
  ·omega
  ·have hf:=Q2g (c:=Q4D) (n:=2) (fun _=>rfl) s.calls j
   have hl:(s.calls.flatMap Q4D).length=s.calls.length * 2:=hk.1
   have htk:cur.toList.take (s.calls.flatMap Q4D).length=s.calls.flatMap Q4D:=by rw [hl];exact h7
   refine ⟨g,cap,e,h4,Qs h3 htk ?_,Qs h3 htk ?_⟩
   ·have:=hf 0 hj (by omega);simpa using this
   ·have:=hf 1 hj (by omega);simpa using this
 have HCL:=Hid.mk hcells
 have HC:=Hid.mk hc
 obtain ⟨kad,kcap,rfl⟩:=h.kslice
 have M0:Hid (∃ cv9,Cp w a Fr bs (lnk s (s.calls.take 0)) sl (.slice kad s.calls.length kcap) cv9 et u):=⟨cv,h⟩
 clear h hcells hc
 go_enter Tryz.func56,Tryz.ntmps56
 go_wp2
 go_loopw [9] (fun i ur=>∃ j:Nat,i = .int .i64 j∧j≤s.calls.length∧Hid (∃ cv9,Cp w a Fr bs (lnk s (s.calls.take j)) sl (.slice kad s.calls.length kcap) cv9 et ur)) (fun i _=>s.calls.length - (intOf i).toNat)
 case atStart=>exact ⟨0,rfl,by omega,M0⟩
 case round=>
  obtain ⟨j,rfl,hj,N⟩:=hrel
  clear M0
  obtain ⟨e1,e2,e3⟩:=QcA (s.calls.take j) s
  rcases Nat.lt_or_ge j s.calls.length with hjl | hjg
  ·obtain ⟨cv9,N6⟩:=N.out
   obtain ⟨g',cap',hks,hcap',q0,q1⟩:=HCL.out _ _ _ e3 N6 j hjl
   cases hks
   have hej:=HC.out _ (List.getElem_mem hjl)
   obtain ⟨vb,hvb⟩:∃ vb,vb=(look s.bodies s.calls[j].2).getD 0:=⟨_,rfl⟩
   have hj9:j + 1≤s.calls.length:=hjl
   have hst:lnk s (s.calls.take (j + 1))=setM s.calls[j].1 (.call vb) (lnk s (s.calls.take j)):=by
    rw [List.take_succ_eq_append_getElem hjl,Qiq,e2,hvb]
   obtain ⟨d0,d1,d2,d3,dfz,dlt⟩:=N6.cells
   generalize s.calls[j].1=ca at *
   generalize s.calls[j].2=cn at *
   have N7:=(N6.below ((Below.refl wr.heap.size wr).alloc (Nat.le_refl _) (.cells #[.int .i64 ca,.string ⟨cn.toArray⟩] 222))).below (Below.refl _ _).drew
   have hlk:=N7.lookBody cn false
   rw [e2] at hlk
   have hlk2:(Instr.lookup 64 (.map (some a.B)) (.string ⟨cn.toArray⟩) false).run Tryz.prog (wr.alloc (.cells #[.int .i64 ca,.string ⟨cn.toArray⟩] 222)).drew = .ok (.int .i64 vb) (wr.alloc (.cells #[.int .i64 ca,.string ⟨cn.toArray⟩] 222)).drew:=by
    rw [hlk,hvb]
    cases look s.bodies cn<;>rfl
   obtain ⟨g9,cap9,hsl9,hcap9,hfr9,⟨y9,hy9⟩,hg9,N8⟩:=Cp.setCode (i:=ca) (x:=.call vb) (v:=.iface 224 (.agg #[.int .i64 vb])) N7 rfl (by rw [e1];exact hej)
   rw [e1] at hsl9 hcap9
   have hN:Hid (∃ cv9,Cp w a Fr bs (lnk s (s.calls.take (j + 1))) sl (.slice (some ⟨g',0,none⟩) s.calls.length kcap) cv9 et ((wr.alloc (.cells #[.int .i64 ca,.string ⟨cn.toArray⟩] 222)).drew.setCell ⟨g9,ca,none⟩ (.iface 224 (.agg #[.int .i64 vb])))):=by
    rw [hst]
    exact ⟨_,N8⟩
   have hj0:(0:Int)≤↑j:=by omega
   have hj1:(↑j:Int) < ↑s.calls.length:=by omega
   have hje:(↑ca:Int) < ↑s.code.length:=by omega
   subst hsl9
   clear N N6 N7 N8 hst hlk e1 e2 e3 hvb HCL HC
   go_wp2_with fail
   refine Qu (fun w'=>w'.cell? ⟨a.C,0,none⟩=some (.slice (some ⟨g9,0,none⟩) s.code.length cap9)∧w'.cell? ⟨a.C,1,none⟩=some (.map (some a.B))∧w'.cell? ⟨wr.heap.size,0,none⟩=some (.int .i64 ca)∧w'.cell? ⟨wr.heap.size,1,none⟩=some (.string ⟨cn.toArray⟩)∧(Instr.lookup 64 (.map (some a.B)) (.string ⟨cn.toArray⟩) false).run Tryz.prog w' = .ok (.int .i64 vb) w') (L:=16) (by kernel_rfl) rfl (by kernel_rfl) (by kernel_rfl) ?_ (fun hHeld=>?_)
   ·go_keep
   refine tk (i:=0) (v:=?_) rfl (by kernel_rfl) (fun _ _ _ h=>h) (by rfl) (by assumption) ?_ ?_
   rotate_left
   ·intro w hSw;(try dsimp only at hSw);go_simp;(try with_reducible rfl)
   (try simp only [Qd,Qe,List.set])
   refine tk (i:=1) (v:=?_) rfl (by kernel_rfl) (fun _ _ _ h=>h) (by rfl) (by assumption) ?_ ?_
   rotate_left
   ·intro w hSw;(try dsimp only at hSw);go_simp;(try with_reducible rfl)
   (try simp only [Qd,Qe,List.set])
   refine tk (i:=2) (v:=?_) rfl (by kernel_rfl) (fun _ _ _ h=>h) (by rfl) (by assumption) ?_ ?_
   rotate_left
   ·intro w hSw;(try dsimp only at hSw);go_simp;(try with_reducible rfl)
   (try simp only [Qd,Qe,List.set])
   refine tk (i:=3) (v:=?_) rfl (by kernel_rfl) (fun _ _ _ h=>h) (by rfl) (by assumption) ?_ ?_
   rotate_left
   ·intro w hSw;(try dsimp only at hSw);go_simp;(try with_reducible rfl)
   (try simp only [Qd,Qe,List.set])
   refine tk (i:=4) (v:=?_) rfl (by kernel_rfl) (fun _ _ _ h=>h) (by rfl) (by assumption) ?_ ?_
   rotate_left
   ·intro w hSw;(try dsimp only at hSw);go_simp;(try with_reducible rfl)
   (try simp only [Qd,Qe,List.set])
   refine tk (i:=5) (v:=?_) rfl (by kernel_rfl) (fun _ _ _ h=>h) (by rfl) (by assumption) ?_ ?_
   rotate_left
   ·intro w hSw;(try dsimp only at hSw);go_simp;(try with_reducible rfl)
   (try simp only [Qd,Qe,List.set])
   refine tk (i:=6) (v:=?_) rfl (by kernel_rfl) (fun _ _ _ h=>h) (by rfl) (by assumption) ?_ ?_
   rotate_left
   ·intro w hSw;(try dsimp only at hSw);go_simp;(try with_reducible rfl)
   (try simp only [Qd,Qe,List.set])
   refine tk (i:=7) (v:=?_) rfl (by kernel_rfl) (fun _ _ _ h=>h) (by rfl) (by assumption) ?_ ?_
   rotate_left
   ·intro w hSw;(try dsimp only at hSw);go_simp;(try with_reducible rfl)
   (try simp only [Qd,Qe,List.set])
   refine tk (i:=8) (v:=?_) rfl (by kernel_rfl) (fun _ _ _ h=>h) (by rfl) (by assumption) ?_ ?_
   rotate_left
   ·intro w hSw;(try dsimp only at hSw);go_simp;(try with_reducible rfl)
   (try simp only [Qd,Qe,List.set])
   refine tk (i:=9) (v:=?_) rfl (by kernel_rfl) (fun _ _ _ h=>h) (by rfl) (by assumption) ?_ ?_
   rotate_left
   ·intro w hSw;(try dsimp only at hSw);go_simp;(try with_reducible rfl)
   (try simp only [Qd,Qe,List.set])
   refine tk (i:=10) (v:=?_) rfl (by kernel_rfl) (fun _ _ _ h=>h) (by rfl) (by assumption) ?_ ?_
   rotate_left
   ·intro w hSw;(try dsimp only at hSw);go_simp;(try with_reducible rfl)
   (try simp only [Qd,Qe,List.set])
   refine tk (i:=11) (v:=?_) rfl (by kernel_rfl) (fun _ _ _ h=>h) (by rfl) (by assumption) ?_ ?_
   rotate_left
   ·intro w hSw;(try dsimp only at hSw);go_simp;(try with_reducible rfl)
   (try simp only [Qd,Qe,List.set])
   refine tk (i:=12) (v:=?_) rfl (by kernel_rfl) (fun _ _ _ h=>h) (by rfl) (by assumption) ?_ ?_
   rotate_left
   ·intro w hSw;(try dsimp only at hSw);go_simp;(try with_reducible rfl)
   (try simp only [Qd,Qe,List.set])
   refine tk (i:=13) (v:=?_) rfl (by kernel_rfl) (fun _ _ _ h=>h) (by rfl) (by assumption) ?_ ?_
   rotate_left
   ·intro w hSw;(try dsimp only at hSw);go_simp;(try with_reducible rfl)
   (try simp only [Qd,Qe,List.set])
   refine tk (i:=14) (v:=?_) rfl (by kernel_rfl) (fun _ _ _ h=>h) (by rfl) (by assumption) ?_ ?_
   rotate_left
   ·intro w hSw;(try dsimp only at hSw);go_simp;(try with_reducible rfl)
   (try simp only [Qd,Qe,List.set])
   refine tk (i:=15) (v:=?_) rfl (by kernel_rfl) (fun _ _ _ h=>h) (by rfl) (by assumption) ?_ ?_
   rotate_left
   ·intro w hSw;(try dsimp only at hSw);go_simp;(try with_reducible rfl)
   (try simp only [Qd,Qe,List.set])
   refine wpAnyH_done (by kernel_rfl) ?_ _
   refine QB rfl (fun K hK=>?_)
   go_simp
   refine hK.out _ _ ?_
   clear hK K
   (try simp only [Qd,Qe,List.set])
   go_wp2
   exact ⟨⟨j + 1,by go_num,hj9,hN⟩,by simp [intOf];omega⟩
  ·have hjj:j=s.calls.length:=by omega
   subst hjj
   have G:=N.out
   rw [List.take_length] at G
   have G:=Hid.mk G
   clear N
   go_wp2
   go_end0
   rw [HU.out]
   exact ⟨rfl,G.out⟩
def Qa6:DefL→Prop
 | .struct _ _ ms=>ms.length≤1000
 | .union _ _ _ arms=>arms.length≤1000
 | _=>True
theorem QgT {bs:List (Nat×Obj)} {b:Nat} {d:DefL} (h:Q0o bs b d):Qa6 d:=by
 cases d with
 | struct t p ms=>
  obtain ⟨_,_,h1⟩:=h
  show ms.length≤1000
  rcases h1 with ⟨_,h0,_⟩ | ⟨_,_,_,_,⟨_,h1⟩,_⟩<;>omega
 | union t p sel arms=>
  obtain ⟨_,_,_,_,h1,_⟩:=h
  show arms.length≤1000
  rcases h1 with ⟨_,h0,_⟩ | ⟨_,_,_,_,⟨_,h1⟩,_⟩<;>omega
 | _=>trivial
theorem Room.body {s:CSt} {n:Nat} (h:Room s (n + 1)) (t:List UInt8) (p:Nat):Room (Q38 t p s) n:=⟨(h.put .ret).code,(h.put .ret).calls⟩
theorem Room.ends {s:CSt} {n:Nat} (h:Room s n) (l:List Nat):Room (Q1Q l s) n:=by
 refine ⟨by rw [Q5e];exact h.code,?_⟩
 rw [Q5e]
 have:(Q1Q l s).calls=s.calls:=(Qgy l s).2.1
 rw [this]
 exact h.calls
theorem Room.def {s:CSt} {n:Nat} {d:DefL} (hty:Q7k d) (hf:Qa6 d) (h:Room s (n + 4100)):Room (QH d s) n:=by
 cases d with
 | const t p v=>exact h.less (by omega)
 | prog t p vs k=>exact h.less (by omega)
 | typedef d=>exact Room.body (Room.value _ (h.less (by have:=Q4S (Q1O.deep hty);omega))) _ _
 | enum t p ms=>
  have h1:Room { s with enums:=mput s.enums t (Q0p ms) } (n + 2):=⟨by have:=h.code;show s.code.length + (n + 2) < 1000000;omega,h.calls⟩
  exact Room.body (Room.put h1 _) _ _
 | struct t p ms=>
  have hl:ms.length≤1000:=hf
  refine Room.body ?_ _ _
  have e:=Q9l (ms.map (·.ty)) (s:=putM (.struct ms.length true) s) (n:=n + 1) (by intro t ht;obtain ⟨m,hm,rfl⟩:=List.mem_map.1 ht;exact (hty m hm).deep) (Room.put (h.less (by simp;omega)) _)
  rw [List.foldl_map] at e
  exact e
 | union t p sel arms=>
  have hl:arms.length≤1000:=hf
  refine Room.body ?_ _ _
  exact Room.ends (Room.set (Q8a arms (q:=⟨putM .hole s,[],none,[]⟩) (n:=n + 1) hty.2 (Room.put (h.less (by omega)) _)) _ _) _
theorem Room.defs:∀ (ds:List DefL) {s:CSt} {n:Nat},(∀ d∈ds,Q7k d)→(∀ d∈ds,Qa6 d)→Room s (n + 4100 * ds.length)→Room (ds.foldl (fun s d=>QH d s) s) n:=by
 intro ds
 induction ds with
 | nil=>intro s n _ _ h;exact h
 | cons d ds ih=>
  intro s n h1 h2 h
  exact ih (fun e he=>h1 e (List.mem_cons_of_mem _ he)) (fun e he=>h2 e (List.mem_cons_of_mem _ he)) (Room.def (h1 d (by simp)) (h2 d (by simp)) (h.less (by simp only [List.length_cons];omega)))
theorem Room.start {s:CSt} {n:Nat} (h:Room s (n + 2)) (t:List UInt8):Room (Q85 t s) n:=Room.put (Room.call h t) _
theorem Room.starts:∀ (ds:List DefL) {p:CSt×List (List UInt8×Nat)} {n:Nat},Room p.1 (n + 2 * ds.length)→Room (ds.foldl QD p).1 n:=by
 intro ds
 induction ds with
 | nil=>intro p n h;exact h
 | cons d ds ih=>
  intro p n h
  refine ih ?_
  unfold QD
  split
  ·exact Room.start (h.less (by simp only [List.length_cons];omega)) _
  ·exact h.less (by simp only [List.length_cons];omega)
theorem Q8b:∀ (ds:List DefL) {p:CSt×List (List UInt8×Nat)},(p.2.map (·.1)).Nodup→((ds.foldl QD p).2.map (·.1)).Nodup:=by
 intro ds
 induction ds with
 | nil=>intro p h;exact h
 | cons d ds ih=>
  intro p h
  refine ih ?_
  unfold QD
  split
  ·exact Q2x h _ _
  ·exact h
theorem QgU (text:ByteArray):∀ (k:Nat) {ds:List DefL},Yld (fun l=>l.length≤ds.length + k) (Q15 text k ds):=by
 intro k
 induction k with
 | zero=>intro ds;exact Q4Q _ _
 | succ k ih=>
  intro ds
  unfold Q15
  refine QK fun x=>Q17 (Q1e (by omega)) (QK fun d=>QK fun _=>?_)
  intro σ l σ' h
  have:=ih (ds:=ds++[d]) _ _ _ h
  simp at this
  omega
theorem QgV {text:ByteArray} {ds:List DefL} (h:Q1H text = .ok ds):ds.length≤69:=by
 unfold Q1H at h
 split at h
 ·cases h
 ·cases hf:Q15 text 69 [] st0 with
  | error f=>rw [hf] at h;cases h
  | ok p=>
   obtain ⟨ds',σ⟩:=p
   rw [hf] at h
   simp only at h
   have hd:=QgU text 69 (ds:=[]) _ _ _ hf
   split at h
   ·cases h
   ·split at h
    ·cases h
    ·cases h
     simpa using hd
abbrev Q4V (v:Value) (s p:Option Nat):Obj:=.cells #[v,.map s,.map p] 67
theorem Qir (u:World):Cp u ⟨u.heap.size + 3,u.heap.size + 1,u.heap.size + 2⟩ [(u.heap.size,Q4V (.slice none 0 0) none none)] [] st0C (.slice none 0 0) (.slice none 0 0) [] []
  ((((u.alloc (Q4V (.slice none 0 0) none none)).alloc (.map #[] 0)).alloc (.map #[] 0)).alloc (.cells #[.slice none 0 0,.map (some (u.heap.size + 1)),.map (some (u.heap.size + 2)),.slice none 0 0] 123)):=by
 have z1:(u.alloc (Q4V (.slice none 0 0) none none)).heap.size=u.heap.size + 1:=by simp
 have z2:((u.alloc (Q4V (.slice none 0 0) none none)).alloc (.map #[] 0)).heap.size=u.heap.size + 2:=by simp
 have z3:(((u.alloc (Q4V (.slice none 0 0) none none)).alloc (.map #[] 0)).alloc (.map #[] 0)).heap.size=u.heap.size + 3:=by simp
 refine ⟨⟨((((Qb.refl [] u).alloc _).alloc _).alloc _).alloc _,?_,?_,?_,?_,(by intro p hp;cases hp),by simp,?_,(by intro p _ q hq;cases hq)⟩,?_,?_,by simp [st0C],?_,by simp,by simp [st0C],(by intro p hp;cases hp),⟨by simp [st0C],Or.inl ⟨rfl,rfl⟩⟩,rfl,(by intro p hp;cases hp),⟨by simp [st0C],Or.inl ⟨rfl,rfl⟩⟩⟩
 ·intro y hy
  simp [ownC,Value.ownBlock] at hy
  omega
 ·intro y hy
  simp [ownC,Value.ownBlock] at hy
  simp
  omega
 ·simp [ownC,Value.ownBlock]
 ·intro p hp
  simp only [List.mem_singleton] at hp
  subst hp
  refine ⟨(Below.heap_alloc _ _ _ (by simp;omega)).trans ((Below.heap_alloc _ _ _ (by simp;omega)).trans ((Below.heap_alloc _ _ _ (by simp)).trans (Qg rfl))),?_⟩
  simp [ownC,Value.ownBlock]
 ·intro p hp
  simp only [List.mem_singleton] at hp
  subst hp
  simp
 ·exact Qg z3.symm
 ·exact (Below.heap_alloc _ _ _ (by simp)).trans ((Below.heap_alloc _ _ _ (by simp)).trans (Qg z1.symm))
 ·exact (Below.heap_alloc _ _ _ (by simp)).trans (Qg z2.symm)
def Qkg (bs:List (Nat×Obj)) (e:TypeId) (v:Value) (n:Nat) (xs:List Value):Prop:=
 (v = .slice none 0 0∧n=0∧xs=[])∨∃ g cap cur,v = .slice (some ⟨g,0,none⟩) n cap∧n≤cap∧(g,Obj.cells cur e)∈bs∧cur.toList.take n=xs
def Q2N (bs:List (Nat×Obj)) (v:Value) (c:List Qj):Prop:=∃ cv:List (Qj×Value),c=cv.map (·.1)∧Qkg bs 226 v c.length (cv.map (·.2))∧(∀ p∈cv,Q1X bs p.2 p.1)∧c.length < 1000000
abbrev prcC (q:Q1Y):List Value:=Q4q q.t q.at'++[tyV q.res,tyV q.arg,.int .i64 q.num]
def Q1F (l:List (Int×Nat×Nat)):Obj:=Q3i (l.map fun p=>(.int .u32 p.1,.agg #[.int .i64 p.2.1,.int .i64 p.2.2]))
def Q2O (l:List (Int×Nat×List (Int×Nat×Nat))):Obj:=Q3i (l.map fun p=>(.int .u32 p.1,.map (some p.2.1)))
structure PrgB where
 lo:Int
 hi:Int
 m:Nat
 vs:List (Int×Nat×List (Int×Nat×Nat))
def Q3f (l:List (Int×PrgB)):Obj:=Q3i (l.map fun p=>(.int .u32 p.1,.agg #[.int .u32 p.2.lo,.int .u32 p.2.hi,.map (some p.2.m)]))
def Q8c (bs:List (Nat×Obj)) (l:List (Int×Nat×List (Int×Nat×Nat))):Prop:=∀ p∈l,(p.2.1,Q1F p.2.2)∈bs
def Q4H (bs:List (Nat×Obj)) (q:PrgB):Prop:=(q.m,Q2O q.vs)∈bs∧Q8c bs q.vs
def Q7t (l:List (Int×Nat×List (Int×Nat×Nat))):List (Int×List (Int×Nat×Nat)):=l.map fun p=>(p.1,p.2.2)
def Q45 (q:PrgB):PrgL:=⟨q.lo,q.hi,Q7t q.vs⟩
def Q8w (l:List (Int×PrgB)):List (Int×PrgL):=l.map fun p=>(p.1,Q45 p.2)
def Qaw (v:Q0d):Prop:=v.procs.length≤8∧∀ p∈v.procs,Q0I p.res∧Q0I p.arg
def Q4d:DefL→Prop
 | .prog _ _ vs _=>vs≠[]∧vs.length≤4∧∀ v∈vs,Qaw v
 | _=>True
theorem Q8d (n:Int):Instr.keyThatStays (.int .u32 n) (.int .u32 n)=pure (.int .u32 n):=by
 unfold Instr.keyThatStays
 rw [if_pos (by show ((IntKind.u32 == IntKind.u32) && (n == n))=true;simp)]
theorem Q5L (a b:Int) (h:(Value.int .u32 a) = .int .u32 b):a=b:=by simpa using h
theorem Q9m (n:Int) (w:World):(convert 2 161 (.int .i64 n)).run Tryz.prog w = .ok (.int .u32 (u32 n)) w:=by kernel_rfl
theorem QgW {W:World} {m:Nat} {l:List (Int×Nat×Nat)} (hb:W.heap[m]? = some (Q1F l)) (nd:(l.map (·.1)).Nodup) (k:Int) (p q:Nat) :
  (Instr.mapUpdate 260 (.map (some m)) (.int .u32 k) (.agg #[.int .i64 p,.int .i64 q])).run Tryz.prog W = .ok () (Q04 W m (Q1F (mput l k (p,q)))):=
 Q39 (P:=Tryz.prog) (T:=260) (kt:=161) (et:=263) (d:=.int .u32) (by kernel_rfl) (by kernel_rfl) (fun k:Int=>.int .u32 k) (fun q:Nat×Nat=>.agg #[.int .i64 q.1,.int .i64 q.2]) (fun _=>rfl) (fun _=>Q8d _) Q5L hb nd k (p,q)
theorem Qis {W:World} {m:Nat} {l:List (Int×Nat×List (Int×Nat×Nat))} (hb:W.heap[m]? = some (Q2O l)) (nd:(l.map (·.1)).Nodup) (k:Int) (v:Nat) (x:List (Int×Nat×Nat)) :
  (Instr.mapUpdate 214 (.map (some m)) (.int .u32 k) (.map (some v))).run Tryz.prog W = .ok () (Q04 W m (Q2O (mput l k (v,x)))):=
 Q39 (P:=Tryz.prog) (T:=214) (kt:=161) (et:=260) (d:=.int .u32) (by kernel_rfl) (by kernel_rfl) (fun k:Int=>.int .u32 k) (fun q:Nat×List (Int×Nat×Nat)=>.map (some q.1)) (fun _=>rfl) (fun _=>Q8d _) Q5L hb nd k (v,x)
theorem QgX {W:World} {m:Nat} {l:List (Int×PrgB)} (hb:W.heap[m]? = some (Q3f l)) (nd:(l.map (·.1)).Nodup) (k:Int) (q:PrgB) :
  (Instr.mapUpdate 65 (.map (some m)) (.int .u32 k) (.agg #[.int .u32 q.lo,.int .u32 q.hi,.map (some q.m)])).run Tryz.prog W = .ok () (Q04 W m (Q3f (mput l k q))):=
 Q39 (P:=Tryz.prog) (T:=65) (kt:=161) (et:=216) (d:=.int .u32) (by kernel_rfl) (by kernel_rfl) (fun k:Int=>.int .u32 k) (fun q:PrgB=>.agg #[.int .u32 q.lo,.int .u32 q.hi,.map (some q.m)]) (fun _=>rfl) (fun _=>Q8d _) Q5L hb nd k q
theorem Room.startT {s:CSt} {n:Nat} {t:Ty} (hf:Q0I t) (h:Room s (n + 4)):Room (startT t s) n:=Room.put (Room.value t (h.less (by have:=Q4S hf;omega))) _
theorem Room.procs:∀ (l:List Q1Y) {q:CSt×List (Int×Nat×Nat)} {n:Nat},(∀ p∈l,Q0I p.res∧Q0I p.arg)→Room q.1 (n + 8 * l.length)→Room (l.foldl Q0Q q).1 n:=by
 intro l
 induction l with
 | nil=>intro q n _ h;exact h
 | cons p l ih=>
  intro q n hp h
  refine ih (fun x hx=>hp x (List.mem_cons_of_mem _ hx)) ?_
  exact Room.startT (hp p (by simp)).1 (Room.startT (hp p (by simp)).2 (h.less (by simp only [List.length_cons];omega)))
theorem QdF:∀ (l:List Q1Y) {q:CSt×List (Int×Nat×Nat)},(q.2.map (·.1)).Nodup→((l.foldl Q0Q q).2.map (·.1)).Nodup:=by
 intro l
 induction l with
 | nil=>intro q h;exact h
 | cons p l ih=>intro q h;exact ih (Q2x h _ _)
theorem Qax {b:Nat} {c0 c1 c2 c3 c4:Value} {T:TypeId} {w:World} (h:w.heap[b]? = some (.cells #[c0,c1,c2,c3,c4] T)) :
  w.cell? ⟨b,2,none⟩=some c2∧w.cell? ⟨b,3,none⟩=some c3∧w.cell? ⟨b,4,none⟩=some c4:=by
 refine ⟨?_,?_,?_⟩<;>simp [World.cell?,h]
def Qjz (w:World) (a:CAd) (Fr bs:List (Nat×Obj)) (v:Q0d) (s:CSt) (e:Ending) (u':World):Prop:=∃ V bs',e = .returned (.map (some V))∧(∀ p∈bs,p∈bs')∧(V,Q1F (Q3w v s).2)∈bs'∧Qz w a Fr bs' (Q3w v s).1 u'
theorem QgY {w u:World} {a:CAd} {Fr bs:List (Nat×Obj)} {s:CSt} {sl ks:Value} {cv:List (Qj×Value)} {et:List (List UInt8×NumL×Value)} {bs0:List (Nat×Obj)} {csl:Value} {v:Q0d} (hsl:Q0u bs0 342 csl v.procs.length (v.procs.flatMap prcC)) (hw:∀ p∈bs0,w.heap[p.1]? = some p.2) (hty:Qaw v) (h:Cp w a Fr bs s sl ks cv et u) (hr:Room s 80) :
  Calls Tryz.prog 146 #[.pointer (some ⟨a.C,0,none⟩),.agg #[.string ⟨v.t.toArray⟩,.int .i64 v.at',csl,.int .i64 v.num]] u (Qjz w a Fr bs v s):=by
 have hmm:∀ (t:TypeId) (w:World),(Instr.makeMap t none).run Tryz.prog w = .ok (.map (some w.heap.size)) (w.alloc (.map #[] 0)):=fun _ _=>rfl
 have hcv:=Q9m
 have HTY:=Hid.mk hty
 have h8:=hty.1
 have HRM:=Hid.mk hr
 have hul:w.heap.size≤u.heap.size:=h.own.kp.size
 have M0:Hid (Qz w a ((u.heap.size + 1,Q1F ((v.procs.take 0).foldl Q0Q (s,[])).2) :: Fr) bs ((v.procs.take 0).foldl Q0Q (s,[])).1 ((u.alloc (.cells #[.string ⟨v.t.toArray⟩,.int .i64 v.at',csl,.int .i64 v.num] 296)).alloc (.map #[] 0))):=by
  have h1:=(h.below ((Below.refl u.heap.size u).alloc (Nat.le_refl _) (.cells #[.string ⟨v.t.toArray⟩,.int .i64 v.at',csl,.int .i64 v.num] 296))).alloc (.map #[] 0)
  have e:(u.alloc (.cells #[.string ⟨v.t.toArray⟩,.int .i64 v.at',csl,.int .i64 v.num] 296)).heap.size=u.heap.size + 1:=by simp
  rw [e] at h1
  exact h1.gives
 have hcell:∀ (W:World),Qb [] w W→∀ i (hi:i < v.procs.length),∃ g cap,csl = .slice (some ⟨g,0,none⟩) v.procs.length cap∧v.procs.length≤cap∧W.cell? ⟨g,i * 5,none⟩=some (.string ⟨v.procs[i].t.toArray⟩)∧W.cell? ⟨g,i * 5 + 1,none⟩=some (.int .i64 v.procs[i].at')∧W.cell? ⟨g,i * 5 + 2,none⟩=some (tyV v.procs[i].res)∧W.cell? ⟨g,i * 5 + 3,none⟩=some (tyV v.procs[i].arg)∧W.cell? ⟨g,i * 5 + 4,none⟩=some (.int .i64 v.procs[i].num):=by
  intro W hW i hi
  rcases hsl with ⟨_,h0,_⟩ | ⟨g,cap,cur,e,⟨h1,_⟩,hg,htake⟩
  ·omega
  ·have hgb:=(hW.block _ (Qc (hw _ hg)) (by simp)).trans (hw _ hg)
   have hf:=Q2g (c:=prcC) (n:=5) (fun _=>rfl) v.procs i
   refine ⟨g,cap,e,h1,Qs hgb htake ?_,Qs hgb htake ?_,Qs hgb htake ?_,Qs hgb htake ?_,Qs hgb htake ?_⟩
   ·have:=hf 0 hi (by omega);simpa using this
   ·have:=hf 1 hi (by omega);simpa using this
   ·have:=hf 2 hi (by omega);simpa using this
   ·have:=hf 3 hi (by omega);simpa using this
   ·have:=hf 4 hi (by omega);simpa using this
 obtain ⟨dad,dcap,rfl⟩:∃ ad cap,csl = .slice ad v.procs.length cap:=by
  rcases hsl with ⟨e,h0,_⟩ | ⟨g,cap,cur,e,_⟩
  ·exact ⟨none,0,by rw [e,h0]⟩
  ·exact ⟨_,_,e⟩
 have HCL:=Hid.mk hcell
 clear hcell hsl hty hr h hw
 go_enter Tryz.func146,Tryz.ntmps146
 go_wp2
 go_loopw [12] (fun i ur=>∃ k:Nat,i = .int .i64 k∧k≤v.procs.length∧Hid (Qz w a ((u.heap.size + 1,Q1F ((v.procs.take k).foldl Q0Q (s,[])).2) :: Fr) bs ((v.procs.take k).foldl Q0Q (s,[])).1 ur)) (fun i _=>v.procs.length - (intOf i).toNat)
 case atStart=>exact ⟨0,rfl,by omega,M0⟩
 case round=>
  obtain ⟨k,rfl,hk,G⟩:=hrel
  clear M0
  rcases Nat.lt_or_ge k v.procs.length with hlt | hge
  ·have hrm:Room ((v.procs.take k).foldl Q0Q (s,[])).1 16:=Room.procs (v.procs.take k) (fun p hp=>HTY.out.2 p (List.mem_of_mem_take hp)) (HRM.out.less (by have:=HTY.out.1;simp;omega))
   have hnd:(((v.procs.take k).foldl Q0Q (s,[])).2.map (·.1)).Nodup:=QdF _ (by simp)
   have HST:Hid ((v.procs.take (k + 1)).foldl Q0Q (s,[])=Q0Q ((v.procs.take k).foldl Q0Q (s,[])) v.procs[k]):=by show _=_;rw [List.take_succ_eq_append_getElem hlt,List.foldl_append];rfl
   obtain ⟨bs1,sl1,ks1,cv1,et1,hb1,M1⟩:=G.out
   generalize hq:(v.procs.take k).foldl Q0Q (s,[])=q at *
   obtain ⟨g,cap,hds,hcap,p0,p1,p2,p3,p4⟩:=HCL.out _ M1.own.kp k hlt
   cases hds
   have hko:=HTY.out.2 v.procs[k] (List.getElem_mem hlt)
   obtain ⟨T2,v2,h2⟩:=Q03 v.procs[k].res
   obtain ⟨T3,v3,h3⟩:=Q03 v.procs[k].arg
   rw [h2] at p2
   rw [h3] at p3
   have hk0:(0:Int)≤↑k:=by omega
   have hk1:(↑k:Int) < ↑v.procs.length:=by omega
   have MA:=Hid.mk ((M1.alloc (.cells #[.string ⟨v.procs[k].t.toArray⟩,.int .i64 v.procs[k].at',.iface T2 v2,.iface T3 v3,.int .i64 v.procs[k].num] 342)).below ((Below.refl _ _).drew))
   have hV:u.heap.size + 1≠wr.heap.size:=by
    have:=Qc (M1.own.hf _ List.mem_cons_self).1
    simp only at this
    omega
   have VA:=Q7s hko.2 MA.out (hrm.less (by omega))
   rw [h3] at VA
   have VA:=Hid.mk VA
   have VB:=fun (W:World) (bs:List (Nat×Obj)) sl ks cv et (M:Cp w a ((wr.heap.size,.cells #[.string ⟨v.procs[k].t.toArray⟩,.int .i64 v.procs[k].at',.iface T2 v2,.iface T3 v3,.int .i64 v.procs[k].num] 342) :: (u.heap.size + 1,Q1F q.2) :: Fr) bs (startT v.procs[k].arg q.1) sl ks cv et W)=>Q7s hko.1 M (Room.startT hko.2 (hrm.less (by omega)))
   rw [h2] at VB
   have VB:=Hid.mk VB
   have HB1:=Hid.mk hb1
   clear M1 G hrm hb1 MA
   go_wp2_with fail
   refine Qu (fun w'=>w'.cell? ⟨wr.heap.size,2,none⟩=some (.iface T2 v2)∧w'.cell? ⟨wr.heap.size,3,none⟩=some (.iface T3 v3)∧w'.cell? ⟨wr.heap.size,4,none⟩=some (.int .i64 v.procs[k].num)) (L:=13) (by kernel_rfl) rfl (by kernel_rfl) (by kernel_rfl) ?_ (fun hHeld=>?_)
   ·exact Qax (Qg rfl)
   refine tk (i:=0) (v:=?_) rfl (by kernel_rfl) (fun _ _ _ h=>h) (by rfl) (by assumption) ?_ ?_
   rotate_left
   ·intro w hSw;(try dsimp only at hSw);go_simp;(try with_reducible rfl)
   (try simp only [Qd,Qe,List.set])
   refine tk (i:=1) (v:=?_) rfl (by kernel_rfl) (fun _ _ _ h=>h) (by rfl) (by assumption) ?_ ?_
   rotate_left
   ·intro w hSw;(try dsimp only at hSw);go_simp;(try with_reducible rfl)
   (try simp only [Qd,Qe,List.set])
   refine tk (i:=2) (v:=?_) rfl (by kernel_rfl) (fun _ _ _ h=>h) (by rfl) (by assumption) ?_ ?_
   rotate_left
   ·intro w hSw;(try dsimp only at hSw);go_simp;(try with_reducible rfl)
   (try simp only [Qd,Qe,List.set])
   refine tk (i:=3) (v:=?_) rfl (by kernel_rfl) (fun _ _ _ h=>h) (by rfl) (by assumption) ?_ ?_
   rotate_left
   ·intro w hSw;(try dsimp only at hSw);go_simp;(try with_reducible rfl)
   (try simp only [Qd,Qe,List.set])
   refine tk (i:=4) (v:=?_) rfl (by kernel_rfl) (fun _ _ _ h=>h) (by rfl) (by assumption) ?_ ?_
   rotate_left
   ·intro w hSw;(try dsimp only at hSw);go_simp;(try with_reducible rfl)
   (try simp only [Qd,Qe,List.set])
   refine tk (i:=5) (v:=?_) rfl (by kernel_rfl) (fun _ _ _ h=>h) (by rfl) (by assumption) ?_ ?_
   rotate_left
   ·intro w hSw;(try dsimp only at hSw);go_simp;(try with_reducible rfl)
   (try simp only [Qd,Qe,List.set])
   refine tk (i:=6) (v:=?_) rfl (by kernel_rfl) (fun _ _ _ h=>h) (by rfl) (by assumption) ?_ ?_
   rotate_left
   ·intro w hSw;(try dsimp only at hSw);go_simp;(try with_reducible rfl)
   (try simp only [Qd,Qe,List.set])
   refine tk (i:=8) (v:=?_) rfl (by kernel_rfl) (fun _ _ _ h=>h) (by rfl) (by assumption) ?_ ?_
   rotate_left
   ·intro w hSw;(try dsimp only at hSw);go_simp;(try with_reducible rfl)
   (try simp only [Qd,Qe,List.set])
   refine tk (i:=9) (v:=?_) rfl (by kernel_rfl) (fun _ _ _ h=>h) (by rfl) (by assumption) ?_ ?_
   rotate_left
   ·intro w hSw;(try dsimp only at hSw);go_simp;(try with_reducible rfl)
   (try simp only [Qd,Qe,List.set])
   refine tk (i:=10) (v:=?_) rfl (by kernel_rfl) (fun _ _ _ h=>h) (by rfl) (by assumption) ?_ ?_
   rotate_left
   ·intro w hSw;(try dsimp only at hSw);go_simp;(try with_reducible rfl)
   (try simp only [Qd,Qe,List.set])
   refine wpAnyH_ready (rs:=[7]) (by kernel_rfl) (by simp) ?_
   refine AllReadyH.cons rfl (fun K hK=>?_) AllReadyH.nil
   (go_simp;go_at_call 101;refine VA.out.mono ?_;rintro e w5 ⟨rfl,bs5,sl5,ks5,cv5,et5,hb5,M5⟩;have M5:=Hid.mk M5;have VB:=Hid.mk (VB.out _ _ _ _ _ _ M5.out);obtain ⟨x2,x3,x4⟩:=Qax (M5.out.own.hf _ List.mem_cons_self).1)
   refine hK.out _ _ ?_ (fun hHeld=>?_)
   ·go_keep
   clear hK K
   (try simp only [Qd,Qe,List.set])
   clear M5
   refine wpAnyH_ready (rs:=[11]) (by kernel_rfl) (by simp) ?_
   refine AllReadyH.cons rfl (fun K hK=>?_) AllReadyH.nil
   (go_simp;go_at_call 101;refine VB.out.mono ?_;rintro e w6 ⟨rfl,bs6,sl6,ks6,cv6,et6,hb6,M6⟩;have M6:=Hid.mk M6;obtain ⟨x2,x3,x4⟩:=Qax (M6.out.own.hf _ List.mem_cons_self).1;have hmap:=(M6.out.tail.own.hf _ List.mem_cons_self).1;have pu:=QgW hmap hnd (u32 v.procs[k].num) q.1.code.length (startT v.procs[k].arg q.1).code.length;have M8:=M6.out.tail.setFr (Q06 _ _ _) (Q1k (Qc hmap) (Q1F (mput q.2 (u32 v.procs[k].num) (q.1.code.length,(startT v.procs[k].arg q.1).code.length))));obtain ⟨W,hW⟩:∃ W,W=Q04 w6 (u.heap.size + 1) (Q1F (mput q.2 (u32 v.procs[k].num) (q.1.code.length,(startT v.procs[k].arg q.1).code.length))):=⟨_,rfl⟩;rw [← hW] at pu M8;have M8:=Hid.mk M8;clear M6 hmap hW)
   refine hK.out _ _ ?_ (fun hHeld=>?_)
   ·go_keep
   clear hK K
   (try simp only [Qd,Qe,List.set])
   refine tk (i:=12) (v:=?_) rfl (by kernel_rfl) (fun _ _ _ h=>h) (by rfl) (by assumption) ?_ ?_
   rotate_left
   ·intro w hSw;(try dsimp only at hSw);go_simp;(try with_reducible rfl)
   (try simp only [Qd,Qe,List.set])
   refine wpAnyH_done (by kernel_rfl) ?_ _
   refine QB rfl (fun K hK=>?_)
   go_simp
   refine hK.out _ _ ?_
   clear hK K
   (try simp only [Qd,Qe,List.set])
   have hN:Hid (Qz w a ((u.heap.size + 1,Q1F ((v.procs.take (k + 1)).foldl Q0Q (s,[])).2) :: Fr) bs ((v.procs.take (k + 1)).foldl Q0Q (s,[])).1 W):=by
    rw [HST.out]
    exact ⟨bs6,_,_,_,_,fun p hp=>hb6 p (hb5 p (HB1.out p hp)),M8.out⟩
   clear M8 VA VB
   go_wp2
   exact ⟨⟨k + 1,by go_num,by omega,hN⟩,by simp [intOf];omega⟩
  ·have hkk:k=v.procs.length:=by omega
   subst hkk
   have G:=G.out
   rw [List.take_length] at G
   obtain ⟨bs1,sl1,ks1,cv1,et1,hb1,M1⟩:=G
   have M1:=Hid.mk M1
   go_wp2
   go_ret
   exact ⟨u.heap.size + 1,_,rfl,fun p hp=>List.mem_cons_of_mem _ (hb1 p hp),List.mem_cons_self,M1.out.give.gives⟩
abbrev vrsC (p:Q0d×Value):List Value:=Q4q p.1.t p.1.at'++[p.2,.int .i64 p.1.num]
abbrev Q3C (lo hi:Int) (m:Option Nat):Obj:=.cells #[.int .u32 lo,.int .u32 hi,.map m] 216
theorem Room.vers:∀ (l:List Q0d) {q:CSt×PrgL} {n:Nat},(∀ v∈l,Qaw v)→Room q.1 (n + 64 * l.length)→Room (l.foldl Q1E q).1 n:=by
 intro l
 induction l with
 | nil=>intro q n _ h;exact h
 | cons v l ih=>
  intro q n hp h
  refine ih (fun x hx=>hp x (List.mem_cons_of_mem _ hx)) ?_
  have hv:=hp v (by simp)
  exact Room.procs v.procs (q:=(q.1,[])) hv.2 (h.less (by have:=hv.1;simp only [List.length_cons];omega))
theorem Qfa (l:List (Int×Nat×List (Int×Nat×Nat))) (k:Int) (v:Nat) (x:List (Int×Nat×Nat)):Q7t (mput l k (v,x))=mput (Q7t l) k x:=Q9a (fun q:Nat×List (Int×Nat×Nat)=>q.2) l k (v,x)
theorem Q8c.put {bs bs':List (Nat×Obj)} {l:List (Int×Nat×List (Int×Nat×Nat))} (h:Q8c bs l) (hb:∀ p∈bs,p∈bs') (k:Int) {v:Nat} {x:List (Int×Nat×Nat)} (hv:(v,Q1F x)∈bs'):Q8c bs' (mput l k (v,x)):=by
 intro p hp
 rcases Q9b hp with hp | rfl
 ·exact hb _ (h p hp)
 ·exact hv
structure Qfb (w:World) (a:CAd) (Fr bs:List (Nat×Obj)) (R:Nat) (Q:CSt×PrgL) (lv:List (Int×Nat×List (Int×Nat×Nat))) (bk:List (Nat×Obj)) (sl ks:Value) (cv:List (Qj×Value)) (et:List (List UInt8×NumL×Value)) (ur:World):Prop where
 sub:∀ p∈bs,p∈bk
 vin:Q8c bk lv
 bare:Q7t lv=Q.2.vs
 nd:(lv.map (·.1)).Nodup
 cp:Cp w a ((R + 1 + 1,Q3C Q.2.lo Q.2.hi (some (R + 1))) :: (R + 1,Q2O lv) :: (R,Q3C 0 0 none) :: Fr) bk Q.1 sl ks cv et ur
def QjA (w:World) (a:CAd) (Fr bs:List (Nat×Obj)) (vs:List Q0d) (s:CSt) (e:Ending) (u':World):Prop:=∃ (q:PrgB) (bs':List (Nat×Obj)),e = .returned (.agg #[.int .u32 q.lo,.int .u32 q.hi,.map (some q.m)])∧(∀ p∈bs,p∈bs')∧Q4H bs' q∧Q45 q=(Q4c vs s).2∧Qz w a Fr bs' (Q4c vs s).1 u'
theorem Q8x {b:Nat} {c0 c1 c2 c3:Value} {T:TypeId} {w:World} (h:w.heap[b]? = some (.cells #[c0,c1,c2,c3] T)) :
  w.cell? ⟨b,0,none⟩=some c0∧w.cell? ⟨b,1,none⟩=some c1∧w.cell? ⟨b,2,none⟩=some c2∧w.cell? ⟨b,3,none⟩=some c3:=by
 refine ⟨?_,?_,?_,?_⟩<;>simp [World.cell?,h]
theorem Q4n {b:Nat} {c0 c1 c2:Value} {T:TypeId} {w:World} (h:w.heap[b]? = some (.cells #[c0,c1,c2] T)) :
  w.cell? ⟨b,0,none⟩=some c0∧w.cell? ⟨b,1,none⟩=some c1∧w.cell? ⟨b,2,none⟩=some c2∧(∀ i,w.frozen? ⟨b,i,none⟩=false)∧b < w.heap.size:=by
 refine ⟨?_,?_,?_,?_,Qc h⟩<;>simp [World.cell?,World.frozen?,h]
theorem Q4W {b:Nat} {c0 c1 c2 x y z:Value} {T:TypeId} {w:World} (h:w.heap[b]? = some (.cells #[c0,c1,c2] T)):(((w.setCell ⟨b,0,none⟩ x).setCell ⟨b,1,none⟩ y).setCell ⟨b,2,none⟩ z).heap[b]? = some (.cells #[x,y,z] T):=Qn (i:=2) (Qn (i:=1) (Qn (i:=0) h x) y) z
theorem Q6w {b:Nat} {w:World} (x y z:Value):Qb [b] w (((w.setCell ⟨b,0,none⟩ x).setCell ⟨b,1,none⟩ y).setCell ⟨b,2,none⟩ z):=
 (((Qb.refl [b] w).setIn (p:=⟨b,0,none⟩) (by simp) _).setIn (p:=⟨b,1,none⟩) (by simp) _).setIn (p:=⟨b,2,none⟩) (by simp) _
theorem QgZ {w u:World} {a:CAd} {Fr bs:List (Nat×Obj)} {s:CSt} {sl ks:Value} {cv:List (Qj×Value)} {et:List (List UInt8×NumL×Value)} {bs0:List (Nat×Obj)} {b at':Nat} {t:List UInt8} {vs:List Q0d} {num:Int} (hd:Q0o bs0 b (.prog t at' vs num)) (hw:∀ p∈bs0,w.heap[p.1]? = some p.2) (hg:Q4d (.prog t at' vs num)) (h:Cp w a Fr bs s sl ks cv et u) (hr:Room s 400) :
  Calls Tryz.prog 102 #[.pointer (some ⟨a.C,0,none⟩),.pointer (some ⟨b,0,none⟩)] u (QjA w a Fr bs vs s):=by
 have hmm:∀ (t:TypeId) (w:World),(Instr.makeMap t none).run Tryz.prog w = .ok (.map (some w.heap.size)) (w.alloc (.map #[] 0)):=fun _ _=>rfl
 have hcv:=Q9m
 obtain ⟨vsl,cs,hb,hcl,hsl,hea⟩:=hd
 obtain ⟨hne,hfew,hvg⟩:=hg
 have hpos:0 < vs.length:=List.length_pos_iff.2 hne
 have hbox:=hw _ hb
 have hbu:u.heap[b]? = _:=h.heap hbox
 have hbw:b < w.heap.size:=Qc hbox
 have hul:w.heap.size≤u.heap.size:=h.own.kp.size
 obtain ⟨g,cap,cur,rfl,⟨hcap,_⟩,hg,htake⟩:∃ g cap cur,vsl = .slice (some ⟨g,0,none⟩) vs.length cap∧(vs.length≤cap∧vs.length≤1000)∧(g,Obj.cells cur 296)∈bs0∧cur.toList.take ((vs.zip cs).flatMap vrsC).length=(vs.zip cs).flatMap vrsC:=by
  rcases hsl with ⟨_,h0,_⟩ | h
  ·omega
  ·exact h
 have hcell:∀ (W:World),Qb [] w W→∀ i (hi:i < vs.length) (hi':i < cs.length),W.cell? ⟨g,i * 4,none⟩=some (.string ⟨vs[i].t.toArray⟩)∧W.cell? ⟨g,i * 4 + 1,none⟩=some (.int .i64 vs[i].at')∧W.cell? ⟨g,i * 4 + 2,none⟩=some cs[i]∧W.cell? ⟨g,i * 4 + 3,none⟩=some (.int .i64 vs[i].num):=by
  intro W hW i hi hi'
  have hgb:=(hW.block _ (Qc (hw _ hg)) (by simp)).trans (hw _ hg)
  have hf:=Q2g (c:=vrsC) (n:=4) (fun _=>rfl) (vs.zip cs) i
  have hz:i < (vs.zip cs).length:=by simp;omega
  refine ⟨Qs hgb htake ?_,Qs hgb htake ?_,Qs hgb htake ?_,Qs hgb htake ?_⟩
  ·have:=hf 0 hz (by omega);simpa using this
  ·have:=hf 1 hz (by omega);simpa using this
  ·have:=hf 2 hz (by omega);simpa using this
  ·have:=hf 3 hz (by omega);simpa using this
 have hcsl:∀ i (hi:i < vs.length) (hi':i < cs.length),∃ x y z,cs[i] = .slice x y z:=by
  intro i hi hi'
  rcases hea i hi hi' with ⟨e,_⟩ | ⟨_,_,_,e,_⟩<;>exact ⟨_,_,_,e⟩
 have hgw:g < w.heap.size:=Qc (hw _ hg)
 obtain ⟨f0,f1,f2,f3⟩:=hcell u h.own.kp 0 hpos (by omega)
 obtain ⟨k0,k1,k2,k3⟩:=Q8x hbu
 simp only [Nat.zero_mul,Nat.zero_add] at f0 f1 f2 f3
 have hbl:b < u.heap.size:=by omega
 have hgl:g < u.heap.size:=by omega
 have hbl1:b < u.heap.size + 1:=by omega
 have hgl1:g < u.heap.size + 1:=by omega
 have hbl2:b < u.heap.size + 1 + 1:=by omega
 have hgl2:g < u.heap.size + 1 + 1:=by omega
 have hgn:g≠u.heap.size:=by omega
 have hbn:b≠u.heap.size:=by omega
 have hgn1:g≠u.heap.size + 1:=by omega
 have hbn1:b≠u.heap.size + 1:=by omega
 have hgn2:g≠u.heap.size + 1 + 1:=by omega
 have hbn2:b≠u.heap.size + 1 + 1:=by omega
 have hp1:(0:Int) < ↑vs.length:=by omega
 have hinit:(vs.head?.map fun v=>u32 v.num).getD 0=Go.Proofs.YtmbcibgknckenaaGreatDoor.u32 vs[0].num:=by
  cases vs with
  | nil=>simp at hpos
  | cons v vr=>rfl
 have M0:Hid (Qfb w a Fr bs u.heap.size (s,⟨Go.Proofs.YtmbcibgknckenaaGreatDoor.u32 vs[0].num,Go.Proofs.YtmbcibgknckenaaGreatDoor.u32 vs[0].num,[]⟩) [] bs sl ks cv et (((u.alloc (Q3C 0 0 none)).alloc (.map #[] 0)).alloc (Q3C (Go.Proofs.YtmbcibgknckenaaGreatDoor.u32 vs[0].num) (Go.Proofs.YtmbcibgknckenaaGreatDoor.u32 vs[0].num) (some (u.heap.size + 1))))):=by
  have h1:=((h.alloc (Q3C 0 0 none)).alloc (.map #[] 0)).alloc (Q3C (Go.Proofs.YtmbcibgknckenaaGreatDoor.u32 vs[0].num) (Go.Proofs.YtmbcibgknckenaaGreatDoor.u32 vs[0].num) (some (u.heap.size + 1)))
  have z1:(u.alloc (Q3C 0 0 none)).heap.size=u.heap.size + 1:=by simp
  have z2:((u.alloc (Q3C 0 0 none)).alloc (.map #[] 0)).heap.size=u.heap.size + 1 + 1:=by simp
  rw [z2,z1] at h1
  exact ⟨fun _ hp=>hp,(by intro p hp;cases hp),rfl,by simp,h1⟩
 have HCL:=Hid.mk hcell
 have HCS:=Hid.mk hcsl
 have HEA:=Hid.mk hea
 have HVG:=Hid.mk hvg
 have HRM:=Hid.mk hr
 have HW:=Hid.mk hw
 clear hcell hcsl hea hvg hr h hw hsl hbu hbox htake
 go_enter Tryz.func102,Tryz.ntmps102
 go_wp2
 go_loopw [27] (fun i ur=>∃ (k:Nat) (lv:List (Int×Nat×List (Int×Nat×Nat))) (bk:List (Nat×Obj)) (sl ks:Value) (cv:List (Qj×Value)) (et:List (List UInt8×NumL×Value)),i = .int .i64 k∧k≤vs.length∧Hid (Qfb w a Fr bs u.heap.size ((vs.take k).foldl Q1E (s,⟨Go.Proofs.YtmbcibgknckenaaGreatDoor.u32 vs[0].num,Go.Proofs.YtmbcibgknckenaaGreatDoor.u32 vs[0].num,[]⟩)) lv bk sl ks cv et ur)) (fun i _=>vs.length - (intOf i).toNat)
 case atStart=>exact ⟨0,_,_,_,_,_,_,rfl,by omega,M0⟩
 case round=>
  obtain ⟨k,lv,bk,sl1,ks1,cv1,et1,rfl,hk,G⟩:=hrel
  clear M0
  rcases Nat.lt_or_ge k vs.length with hlt | hge
  ·have hlt':k < cs.length:=by omega
   have hrm:Room ((vs.take k).foldl Q1E (s,⟨Go.Proofs.YtmbcibgknckenaaGreatDoor.u32 vs[0].num,Go.Proofs.YtmbcibgknckenaaGreatDoor.u32 vs[0].num,[]⟩)).1 80:=Room.vers (vs.take k) (fun v hv=>HVG.out v (List.mem_of_mem_take hv)) (HRM.out.less (by simp;omega))
   have HST:Hid ((vs.take (k + 1)).foldl Q1E (s,⟨Go.Proofs.YtmbcibgknckenaaGreatDoor.u32 vs[0].num,Go.Proofs.YtmbcibgknckenaaGreatDoor.u32 vs[0].num,[]⟩)=Q1E ((vs.take k).foldl Q1E (s,⟨Go.Proofs.YtmbcibgknckenaaGreatDoor.u32 vs[0].num,Go.Proofs.YtmbcibgknckenaaGreatDoor.u32 vs[0].num,[]⟩)) vs[k]):=by show _=_;rw [List.take_succ_eq_append_getElem hlt,List.foldl_append];rfl
   generalize hq:(vs.take k).foldl Q1E (s,⟨Go.Proofs.YtmbcibgknckenaaGreatDoor.u32 vs[0].num,Go.Proofs.YtmbcibgknckenaaGreatDoor.u32 vs[0].num,[]⟩)=q at *
   obtain ⟨x,y,z,hxyz⟩:=HCS.out k hlt hlt'
   obtain ⟨p0,p1,p2,p3⟩:=HCL.out _ G.out.cp.own.kp k hlt hlt'
   rw [hxyz] at p2
   have hsk:=HEA.out k hlt hlt'
   rw [hxyz] at hsk
   have hk0:(0:Int)≤↑k:=by omega
   have hk1:(↑k:Int) < ↑vs.length:=by omega
   have hP:=(G.out.cp.own.hf _ List.mem_cons_self).1
   obtain ⟨d0,d1,d2,dfr,dlt⟩:=Q4n hP
   have hPn:u.heap.size + 1 + 1≠wr.heap.size:=by omega
   have e0:=G.out.cp.setFr ((Qb.refl [u.heap.size + 1 + 1] _).setIn (p:=⟨u.heap.size + 1 + 1,0,none⟩) (by simp) (.int .u32 (min q.2.lo (Go.Proofs.YtmbcibgknckenaaGreatDoor.u32 vs[k].num)))) (Qn (i:=0) hP _)
   have e1:=e0.setFr ((Qb.refl [u.heap.size + 1 + 1] _).setIn (p:=⟨u.heap.size + 1 + 1,1,none⟩) (by simp) (.int .u32 (max q.2.hi (Go.Proofs.YtmbcibgknckenaaGreatDoor.u32 vs[k].num)))) (Qn (i:=1) (Qn (i:=0) hP _) _)
   have ez:((wr.setCell ⟨u.heap.size + 1 + 1,0,none⟩ (.int .u32 (min q.2.lo (Go.Proofs.YtmbcibgknckenaaGreatDoor.u32 vs[k].num)))).setCell ⟨u.heap.size + 1 + 1,1,none⟩ (.int .u32 (max q.2.hi (Go.Proofs.YtmbcibgknckenaaGreatDoor.u32 vs[k].num)))).heap.size=wr.heap.size:=by simp
   have e2':=e1.alloc (.cells #[.string ⟨vs[k].t.toArray⟩,.int .i64 vs[k].at',.slice x y z,.int .i64 vs[k].num] 296)
   rw [ez] at e2'
   have e2:Cp w a ((wr.heap.size,(.cells #[.string ⟨vs[k].t.toArray⟩,.int .i64 vs[k].at',.slice x y z,.int .i64 vs[k].num] 296)) :: (u.heap.size + 1 + 1,Q3C (min q.2.lo (Go.Proofs.YtmbcibgknckenaaGreatDoor.u32 vs[k].num)) (max q.2.hi (Go.Proofs.YtmbcibgknckenaaGreatDoor.u32 vs[k].num)) (some (u.heap.size + 1))) :: (u.heap.size + 1,Q2O lv) :: (u.heap.size,Q3C 0 0 none) :: Fr) bk q.1 sl1 ks1 cv1 et1 _:=e2'
   have HX:=Hid.mk e2
   have VA:=Hid.mk (QgY hsk HW.out (HVG.out vs[k] (List.getElem_mem hlt)) (e2.below ((Below.refl _ _).drew)) hrm)
   clear e0 e1 e2 e2' hsk hrm
   go_wp2_with fail
   refine Qu (fun w'=>w'.cell? ⟨u.heap.size + 1 + 1,2,none⟩=some (.map (some (u.heap.size + 1)))∧w'.cell? ⟨wr.heap.size,0,none⟩=some (.string ⟨vs[k].t.toArray⟩)∧w'.cell? ⟨wr.heap.size,1,none⟩=some (.int .i64 vs[k].at')∧w'.cell? ⟨wr.heap.size,2,none⟩=some (.slice x y z)∧w'.cell? ⟨wr.heap.size,3,none⟩=some (.int .i64 vs[k].num)) (L:=6) (by kernel_rfl) rfl (by kernel_rfl) (by kernel_rfl) ?_ (fun hHeld=>?_)
   ·exact ⟨(Q4n (HX.out.tail.own.hf _ List.mem_cons_self).1).2.2.1,Q8x (HX.out.own.hf _ List.mem_cons_self).1⟩
   refine tk (i:=0) (v:=?_) rfl (by kernel_rfl) (fun _ _ _ h=>h) (by rfl) (by assumption) ?_ ?_
   rotate_left
   ·intro w hSw;(try dsimp only at hSw);go_simp;(try with_reducible rfl)
   (try simp only [Qd,Qe,List.set])
   refine tk (i:=1) (v:=?_) rfl (by kernel_rfl) (fun _ _ _ h=>h) (by rfl) (by assumption) ?_ ?_
   rotate_left
   ·intro w hSw;(try dsimp only at hSw);go_simp;(try with_reducible rfl)
   (try simp only [Qd,Qe,List.set])
   refine tk (i:=2) (v:=?_) rfl (by kernel_rfl) (fun _ _ _ h=>h) (by rfl) (by assumption) ?_ ?_
   rotate_left
   ·intro w hSw;(try dsimp only at hSw);go_simp;(try with_reducible rfl)
   (try simp only [Qd,Qe,List.set])
   refine tk (i:=3) (v:=?_) rfl (by kernel_rfl) (fun _ _ _ h=>h) (by rfl) (by assumption) ?_ ?_
   rotate_left
   ·intro w hSw;(try dsimp only at hSw);go_simp;(try with_reducible rfl)
   (try simp only [Qd,Qe,List.set])
   refine tk (i:=4) (v:=?_) rfl (by kernel_rfl) (fun _ _ _ h=>h) (by rfl) (by assumption) ?_ ?_
   rotate_left
   ·intro w hSw;(try dsimp only at hSw);go_simp;(try with_reducible rfl)
   (try simp only [Qd,Qe,List.set])
   refine wpAnyH_ready (rs:=[5]) (by kernel_rfl) (by simp) ?_
   refine AllReadyH.cons rfl (fun K hK=>?_) AllReadyH.nil
   (go_simp;go_at_call 146;refine VA.out.mono ?_;rintro e w7 ⟨V,bs7,rfl,hb7,hV,bs8,sl7,ks7,cv7,et7,hb8,M7⟩;obtain ⟨x0,x1,x2,x3⟩:=Q8x (M7.own.hf _ List.mem_cons_self).1;obtain ⟨y0,y1,y2,yf,yl⟩:=Q4n (M7.tail.own.hf _ List.mem_cons_self).1;have hmap:=(M7.tail.tail.own.hf _ List.mem_cons_self).1;have pu:=Qis hmap G.out.nd (Go.Proofs.YtmbcibgknckenaaGreatDoor.u32 vs[k].num) V (Q3w vs[k] q.1).2;have M8:=Cp.turnAt (A:=[(u.heap.size + 1 + 1,Q3C (min q.2.lo (Go.Proofs.YtmbcibgknckenaaGreatDoor.u32 vs[k].num)) (max q.2.hi (Go.Proofs.YtmbcibgknckenaaGreatDoor.u32 vs[k].num)) (some (u.heap.size + 1)))]) M7.tail (Q06 _ _ _) (Q1k (Qc hmap) (Q2O (mput lv (Go.Proofs.YtmbcibgknckenaaGreatDoor.u32 vs[k].num) (V,(Q3w vs[k] q.1).2))));obtain ⟨W,hW⟩:∃ W,W=Q04 w7 (u.heap.size + 1) (Q2O (mput lv (Go.Proofs.YtmbcibgknckenaaGreatDoor.u32 vs[k].num) (V,(Q3w vs[k] q.1).2))):=⟨_,rfl⟩;rw [← hW] at pu M8;have M8:=Hid.mk M8;clear M7 hmap hW)
   refine hK.out _ _ ?_ (fun hHeld=>?_)
   ·go_keep
   clear hK K
   (try simp only [Qd,Qe,List.set])
   refine wpAnyH_done (by kernel_rfl) ?_ _
   refine QB rfl (fun K hK=>?_)
   go_simp
   refine hK.out _ _ ?_
   clear hK K
   (try simp only [Qd,Qe,List.set])
   have hN:Hid (Qfb w a Fr bs u.heap.size ((vs.take (k + 1)).foldl Q1E (s,⟨Go.Proofs.YtmbcibgknckenaaGreatDoor.u32 vs[0].num,Go.Proofs.YtmbcibgknckenaaGreatDoor.u32 vs[0].num,[]⟩)) (mput lv (Go.Proofs.YtmbcibgknckenaaGreatDoor.u32 vs[k].num) (V,(Q3w vs[k] q.1).2)) bs8 sl7 ks7 cv7 et7 W):=by
    rw [HST.out]
    refine ⟨fun p hp=>hb8 p (hb7 p (G.out.sub p hp)),G.out.vin.put (fun p hp=>hb8 p (hb7 p hp)) _ (hb8 _ hV),?_,Q2x G.out.nd _ _,M8.out⟩
    rw [Qfa,G.out.bare]
    rfl
   clear M8 VA HX
   go_wp2
   exact ⟨⟨k + 1,_,_,_,_,_,_,by go_num,by omega,hN⟩,by simp [intOf];omega⟩
  ·have hkk:k=vs.length:=by omega
   subst hkk
   have G:=G.out
   rw [List.take_length] at G
   have HPM:Hid (Q4c vs s=vs.foldl Q1E (s,⟨Go.Proofs.YtmbcibgknckenaaGreatDoor.u32 vs[0].num,Go.Proofs.YtmbcibgknckenaaGreatDoor.u32 vs[0].num,[]⟩)):=by
    show Q4c vs s=_
    unfold Q4c
    rw [hinit]
   generalize vs.foldl Q1E (s,⟨Go.Proofs.YtmbcibgknckenaaGreatDoor.u32 vs[0].num,Go.Proofs.YtmbcibgknckenaaGreatDoor.u32 vs[0].num,[]⟩)=q at *
   obtain ⟨d0,d1,d2,dfr,dlt⟩:=Q4n (G.cp.own.hf _ List.mem_cons_self).1
   have hR:=(G.cp.tail.tail.own.hf _ List.mem_cons_self).1
   obtain ⟨r0,r1,r2,rfr,rlt⟩:=Q4n hR
   obtain ⟨t0,t1,t2,_,_⟩:=Q4n (Q4W (x:=.int .u32 q.2.lo) (y:=.int .u32 q.2.hi) (z:=.map (some (u.heap.size + 1))) hR)
   have M9:=Hid.mk (Cp.turnAt (A:=[(u.heap.size + 1,Q2O lv)]) G.cp.tail (Q6w (.int .u32 q.2.lo) (.int .u32 q.2.hi) (.map (some (u.heap.size + 1)))) (Q4W hR))
   have G:=Hid.mk G
   clear hR
   go_wp2
   refine bodyPost_ret (v:=.agg #[.int .u32 q.2.lo,.int .u32 q.2.hi,.map (some (u.heap.size + 1))]) (by simp [results,Tryz.results102,go_sem,t0,t1,t2]) rfl ?_
   refine ⟨⟨q.2.lo,q.2.hi,u.heap.size + 1,lv⟩,(u.heap.size + 1,Q2O lv) :: bk,rfl,fun p hp=>List.mem_cons_of_mem _ (G.out.sub p hp),⟨List.mem_cons_self,fun p hp=>List.mem_cons_of_mem _ (G.out.vin p hp)⟩,?_,?_⟩
   ·rw [HPM.out]
    show PrgL.mk q.2.lo q.2.hi (Q7t lv)=q.2
    rw [G.out.bare]
   ·rw [HPM.out]
    exact (Cp.give (M9.out:Cp w a ((u.heap.size + 1,Q2O lv) :: _ :: Fr) bk q.1 sl1 ks1 cv1 et1 _)).tail.gives
theorem Qfc {W:World} {m:Nat} {l:List (List UInt8×Nat)} (hb:W.heap[m]? = some (Q1c l)) (nd:(l.map (·.1)).Nodup) (k:List UInt8) (p:Nat) :
  (Instr.mapUpdate 64 (.map (some m)) (.string ⟨k.toArray⟩) (.int .i64 p)).run Tryz.prog W = .ok () (Q04 W m (Q1c (mput l k p))):=
 Q39 (P:=Tryz.prog) (T:=64) (kt:=9) (et:=3) (d:=.string) (by kernel_rfl) (by kernel_rfl) (fun k:List UInt8=>.string ⟨k.toArray⟩) (fun k:Nat=>.int .i64 k) (fun _=>trivial) (fun _=>Q64 _) Q3L hb nd k p
theorem Qz.held {w u:World} {a:CAd} {Fr bs:List (Nat×Obj)} {s:CSt} (h:Qz w a Fr bs s u) (bs0:List (Nat×Obj)) (hw:∀ p∈bs0,w.heap[p.1]? = some p.2):Held [] bs0 u:=fun p hp=>⟨h.heap (hw p hp),by simp⟩
theorem Cp.codeIn {w u:World} {a:CAd} {Fr bs:List (Nat×Obj)} {s:CSt} {sl ks:Value} {cv:List (Qj×Value)} {et:List (List UInt8×NumL×Value)} (h:Cp w a Fr bs s sl ks cv et u) (hl:s.code.length < 1000000):∃ bs',Q2N bs' sl s.code∧(∀ p∈bs,p∈bs')∧∀ p∈bs',u.heap[p.1]? = some p.2:=by
 have hB:∀ p∈bs,u.heap[p.1]? = some p.2:=fun p hp=>(h.own.hb p hp).1
 rcases h.row.2 with ⟨e,h0⟩ | ⟨g,cap,cur,e,_,h3,h4,h5,h6,h7⟩
 ·refine ⟨bs,⟨cv,h.cod,Or.inl ⟨e,h0,?_⟩,h.steps,hl⟩,fun _ hp=>hp,hB⟩
  have:=h.row.1
  rw [h0] at this
  simpa using this
 ·refine ⟨(g,.cells cur 226) :: bs,⟨cv,h.cod,Or.inr ⟨g,cap,cur,e,h4,List.mem_cons_self,?_⟩,fun p hp=>(h.steps p hp).more (fun _ hq=>List.mem_cons_of_mem _ hq),hl⟩,fun _ hp=>List.mem_cons_of_mem _ hp,?_⟩
  ·simpa using h7
  ·intro p hp
   rcases List.mem_cons.1 hp with rfl | hp
   ·exact h3
   ·exact hB p hp
def Qit (w:World) (a:CAd) (Fr bs:List (Nat×Obj)) (ds:List DefL) (s:CSt) (e:Ending) (u':World):Prop:=∃ S bs',e = .returned (.map (some S))∧(∀ p∈bs,p∈bs')∧(S,Q1c (ds.foldl QD (s,[])).2)∈bs'∧Qz w a Fr bs' (ds.foldl QD (s,[])).1 u'
set_option maxHeartbeats 8000000 in
theorem QjB {w u:World} {a:CAd} {Fr bs:List (Nat×Obj)} {s:CSt} {sl ks:Value} {cv:List (Qj×Value)} {et:List (List UInt8×NumL×Value)} {bs0:List (Nat×Obj)} {dsl:Value} {ds:List DefL} {ps:List Nat} (hd:Q2v bs0 dsl ds ps) (hw:∀ p∈bs0,w.heap[p.1]? = some p.2) (hn:ds.length≤100) (h:Cp w a Fr bs s sl ks cv et u) (hr:Room s 300) :
  Calls Tryz.prog 54 #[.pointer (some ⟨a.C,0,none⟩),dsl] u (Qit w a Fr bs ds s):=by
 have hmm:∀ (t:TypeId) (w:World),(Instr.makeMap t none).run Tryz.prog w = .ok (.map (some w.heap.size)) (w.alloc (.map #[] 0)):=fun _ _=>rfl
 have hen:=Q1M
 obtain ⟨hpl,hrow,hea⟩:=hd
 have HRM:=Hid.mk hr
 have M0:Hid (Qz w a ((u.heap.size,Q1c ((ds.take 0).foldl QD (s,[])).2) :: Fr) bs ((ds.take 0).foldl QD (s,[])).1 (u.alloc (.map #[] 0))):=(h.alloc (.map #[] 0)).gives
 have hcell:∀ (v:World),Qb [] w v→∀ i (hi:i < ds.length) (hi':i < ps.length),∃ g cap,dsl = .slice (some ⟨g,0,none⟩) ds.length cap∧ds.length≤cap∧v.cell? ⟨g,i,none⟩=some (.iface (defT ds[i]) (.pointer (some ⟨ps[i],0,none⟩))):=by
  intro v hv i hi hi'
  rcases hrow with ⟨_,h0,_⟩ | ⟨g,cap,cur,e,⟨h1,_⟩,hg,htake⟩
  ·omega
  ·exact ⟨g,cap,e,h1,Qs ((hv.block _ (Qc (hw _ hg)) (by simp)).trans (hw _ hg)) htake (by unfold Q1D;rw [List.getElem?_map,List.getElem?_eq_getElem (by simp;omega)];simp)⟩
 obtain ⟨dad,dcap,rfl⟩:∃ ad cap,dsl = .slice ad ds.length cap:=by
  rcases hrow with ⟨e,h0,_⟩ | ⟨g,cap,cur,e,_⟩
  ·exact ⟨none,0,by rw [e,h0]⟩
  ·exact ⟨_,_,e⟩
 have HCL:=Hid.mk hcell
 have HEA:=Hid.mk hea
 have HW:=Hid.mk hw
 clear hcell hrow hea hw h hr
 go_enter Tryz.func54,Tryz.ntmps54
 go_wp2
 go_loopw [14] (fun i ur=>∃ k:Nat,i = .int .i64 k∧k≤ds.length∧Hid (Qz w a ((u.heap.size,Q1c ((ds.take k).foldl QD (s,[])).2) :: Fr) bs ((ds.take k).foldl QD (s,[])).1 ur)) (fun i _=>ds.length - (intOf i).toNat)
 case atStart=>exact ⟨0,rfl,by omega,M0⟩
 case round=>
  obtain ⟨k,rfl,hk,G⟩:=hrel
  clear M0
  rcases Nat.lt_or_ge k ds.length with hlt | hge
  ·have hlt':k < ps.length:=by omega
   have hrm:Room ((ds.take k).foldl QD (s,[])).1 100:=Room.starts (ds.take k) (p:=(s,[])) (HRM.out.less (by simp;omega))
   have hnd:(((ds.take k).foldl QD (s,[])).2.map (·.1)).Nodup:=Q8b _ (by simp)
   have hst:(ds.take (k + 1)).foldl QD (s,[])=QD ((ds.take k).foldl QD (s,[])) ds[k]:=by rw [List.take_succ_eq_append_getElem hlt,List.foldl_append];rfl
   have HST:=Hid.mk hst
   obtain ⟨bs1,sl1,ks1,cv1,et1,hb1,M1⟩:=G.out
   clear hst G
   generalize hp:(ds.take k).foldl QD (s,[])=p at *
   obtain ⟨g,cap,hds,hcap,q0⟩:=HCL.out _ M1.own.kp k hlt hlt'
   cases hds
   have htr:=Q2U (HEA.out k hlt hlt') (M1.gives.held bs0 HW.out)
   have hk0:(0:Int)≤↑k:=by omega
   have hk1:(↑k:Int) < ↑ds.length:=by omega
   have M1:=Hid.mk M1
   have HB1:=Hid.mk hb1
   clear hb1
   go_wp2_with fail
   refine (Q2R _ _ _).mono ?_
   rintro e w6 ⟨rfl,hb6⟩
   have M5:=M1.out.below hb6
   obtain ⟨c0,c1,c2,c3,hfz,hlt9⟩:=M5.cells
   have hCn:a.C≠w6.heap.size:=by omega
   have M6:=(M5.alloc (.cells #[.string ⟨(Qw ds[k]).1.toArray⟩,.int .i64 (Qw ds[k]).2] 116)).below ((Below.refl _ _).drew)
   have hlk:=M6.lookBody (Qw ds[k]).1 true
   clear M1 hb6 htr M5
   cases hb:look p.1.bodies (Qw ds[k]).1 with
   | none=>
    rw [hb] at hlk
    simp only [if_true] at hlk
    have hN:Hid (Qz w a ((u.heap.size,Q1c ((ds.take (k + 1)).foldl QD (s,[])).2) :: Fr) bs ((ds.take (k + 1)).foldl QD (s,[])).1 (w6.alloc (.cells #[.string ⟨(Qw ds[k]).1.toArray⟩,.int .i64 (Qw ds[k]).2] 116)).drew):=by
     rw [HST.out]
     unfold QD
     rw [hb]
     simp only [Option.isSome_none,Bool.false_eq_true,if_false]
     exact Qz.more HB1.out M6.tail.gives
    clear M6 hb
    go_wp2_with fail
    go_region
    go_wp2
    exact ⟨⟨k + 1,by go_num,by omega,hN⟩,by simp [intOf];omega⟩
   | some pl=>
    rw [hb] at hlk
    simp only [if_true] at hlk
    have VS:=Hid.mk (Q7s (t:=.named (Qw ds[k]).1 (Qw ds[k]).2) trivial (M6.below ((Below.refl _ _).drew)) (hrm.less (by omega)))
    have HBS:Hid (QD p ds[k]=(Q85 (Qw ds[k]).1 p.1,mput p.2 (Qw ds[k]).1 p.1.code.length)):=by
     show _=_
     unfold QD
     rw [hb]
     rfl
    clear M6 hb
    go_wp2_with fail
    go_region
    go_wp2_with fail
    refine Qu (fun w'=>w'.cell? ⟨w6.heap.size,0,none⟩=some (.string ⟨(Qw ds[k]).1.toArray⟩)∧w'.cell? ⟨w6.heap.size,1,none⟩=some (.int .i64 (Qw ds[k]).2)) (L:=8) (by kernel_rfl) rfl (by kernel_rfl) (by kernel_rfl) ?_ (fun hHeld=>?_)
    ·exact ⟨(Q0k (w:=((w6.alloc _).drew).drew) (Qg (w:=w6) rfl)).1,(Q0k (w:=((w6.alloc _).drew).drew) (Qg (w:=w6) rfl)).2.1⟩
    refine tk (i:=0) (v:=?_) rfl (by kernel_rfl) (fun _ _ _ h=>h) (by rfl) (by assumption) ?_ ?_
    rotate_left
    ·intro w hSw;(try dsimp only at hSw);go_simp;(try with_reducible rfl)
    (try simp only [Qd,Qe,List.set])
    refine tk (i:=1) (v:=?_) rfl (by kernel_rfl) (fun _ _ _ h=>h) (by rfl) (by assumption) ?_ ?_
    rotate_left
    ·intro w hSw;(try dsimp only at hSw);go_simp;(try with_reducible rfl)
    (try simp only [Qd,Qe,List.set])
    refine tk (i:=2) (v:=?_) rfl (by kernel_rfl) (fun _ _ _ h=>h) (by rfl) (by assumption) ?_ ?_
    rotate_left
    ·intro w hSw;(try dsimp only at hSw);go_simp;(try with_reducible rfl)
    (try simp only [Qd,Qe,List.set])
    refine tk (i:=3) (v:=?_) rfl (by kernel_rfl) (fun _ _ _ h=>h) (by rfl) (by assumption) ?_ ?_
    rotate_left
    ·intro w hSw;(try dsimp only at hSw);go_simp;(try with_reducible rfl)
    (try simp only [Qd,Qe,List.set])
    refine tk (i:=4) (v:=?_) rfl (by kernel_rfl) (fun _ _ _ h=>h) (by rfl) (by assumption) ?_ ?_
    rotate_left
    ·intro w hSw;(try dsimp only at hSw);go_simp;(try with_reducible rfl)
    (try simp only [Qd,Qe,List.set])
    refine tk (i:=5) (v:=?_) rfl (by kernel_rfl) (fun _ _ _ h=>h) (by rfl) (by assumption) ?_ ?_
    rotate_left
    ·intro w hSw;(try dsimp only at hSw);go_simp;(try with_reducible rfl)
    (try simp only [Qd,Qe,List.set])
    refine tk (i:=6) (v:=?_) rfl (by kernel_rfl) (fun _ _ _ h=>h) (by rfl) (by assumption) ?_ ?_
    rotate_left
    ·intro w hSw;(try dsimp only at hSw);go_simp;(try with_reducible rfl)
    (try simp only [Qd,Qe,List.set])
    refine wpAnyH_ready (rs:=[7]) (by kernel_rfl) (by simp) ?_
    refine AllReadyH.cons rfl (fun K hK=>?_) AllReadyH.nil
    (go_simp;go_at_call 101;refine VS.out.mono ?_;rintro e w7 ⟨rfl,bs7,sl7,ks7,cv7,et7,hb7,M7⟩;obtain ⟨x0,x1,_,_⟩:=Q0k (M7.own.hf _ List.mem_cons_self).1;have hmap:=(M7.tail.own.hf _ List.mem_cons_self).1;have pu:=Qfc hmap hnd (Qw ds[k]).1 p.1.code.length;have M8:=M7.tail.setFr (Q06 _ _ _) (Q1k (Qc hmap) (Q1c (mput p.2 (Qw ds[k]).1 p.1.code.length)));obtain ⟨W,hW⟩:∃ W,W=Q04 w7 u.heap.size (Q1c (mput p.2 (Qw ds[k]).1 p.1.code.length)):=⟨_,rfl⟩;rw [← hW] at pu M8;have M8:=Hid.mk M8;clear M7 hmap hW)
    refine hK.out _ _ ?_ (fun hHeld=>?_)
    ·go_keep
    clear hK K
    (try simp only [Qd,Qe,List.set])
    refine wpAnyH_done (by kernel_rfl) ?_ _
    refine QB rfl (fun K hK=>?_)
    go_simp
    refine hK.out _ _ ?_
    clear hK K
    (try simp only [Qd,Qe,List.set])
    have hN:Hid (Qz w a ((u.heap.size,Q1c ((ds.take (k + 1)).foldl QD (s,[])).2) :: Fr) bs ((ds.take (k + 1)).foldl QD (s,[])).1 W):=by
     rw [HST.out,HBS.out]
     exact ⟨bs7,_,_,_,_,fun p hp=>hb7 p (HB1.out p hp),M8.out⟩
    clear M8 VS
    go_wp2
    exact ⟨⟨k + 1,by go_num,by omega,hN⟩,by simp [intOf];omega⟩
  ·have hkk:k=ds.length:=by omega
   subst hkk
   have G:=G.out
   rw [List.take_length] at G
   obtain ⟨bs1,sl1,ks1,cv1,et1,hb1,M1⟩:=G
   have M1:=Hid.mk M1
   go_wp2
   go_ret
   exact ⟨u.heap.size,_,rfl,fun p hp=>List.mem_cons_of_mem _ (hb1 p hp),List.mem_cons_self,M1.out.give.gives⟩
theorem Room.progs:∀ (l:List DefL) {q:CSt×List (Int×PrgL)} {n:Nat},(∀ d∈l,Q4d d)→Room q.1 (n + 256 * l.length)→Room (l.foldl Q08 q).1 n:=by
 intro l
 induction l with
 | nil=>intro q n _ h;exact h
 | cons d l ih=>
  intro q n hp h
  refine ih (fun x hx=>hp x (List.mem_cons_of_mem _ hx)) ?_
  have hd:=hp d (by simp)
  cases d with
  | prog t a vs num=>exact Room.vers vs (q:=(q.1,_)) hd.2.2 (h.less (by have:=hd.2.1;simp only [List.length_cons];omega))
  | _=>exact h.less (by simp only [List.length_cons];omega)
theorem Q4H.more {bs bs':List (Nat×Obj)} (hb:∀ p∈bs,p∈bs') {q:PrgB} (h:Q4H bs q):Q4H bs' q:=⟨hb _ h.1,fun p hp=>hb _ (h.2 p hp)⟩
theorem Qfd (l:List (Int×PrgB)) (k:Int) (q:PrgB):Q8w (mput l k q)=mput (Q8w l) k (Q45 q):=Q9a Q45 l k q
theorem QdG {d:DefL} (h:∀ t a vs n,d≠.prog t a vs n) (b:Nat) (W:World):(Instr.typeAssert (.iface (defT d) (.pointer (some ⟨b,0,none⟩))) 113 186 true).run Tryz.prog W = .ok (.tuple #[.pointer none,.bool false]) W:=by
 cases d with
 | prog t a vs n=>exact absurd rfl (h t a vs n)
 | _=>kernel_rfl
theorem Qbp {d:DefL} (h:∀ t a vs n,d≠.prog t a vs n) (q:CSt×List (Int×PrgL)):Q08 q d=q:=by
 cases d with
 | prog t a vs n=>exact absurd rfl (h t a vs n)
 | _=>rfl
structure Qbv (w:World) (a:CAd) (Fr bs:List (Nat×Obj)) (B:Nat) (Q:CSt×List (Int×PrgL)) (lp:List (Int×PrgB)) (bk:List (Nat×Obj)) (sl ks:Value) (cv:List (Qj×Value)) (et:List (List UInt8×NumL×Value)) (ur:World):Prop where
 sub:∀ p∈bs,p∈bk
 pin:∀ p∈lp,Q4H bk p.2
 bare:Q8w lp=Q.2
 nd:(lp.map (·.1)).Nodup
 cp:Cp w a ((B,Q3f lp) :: Fr) bk Q.1 sl ks cv et ur
def QjC (w:World) (a:CAd) (Fr bs:List (Nat×Obj)) (ds:List DefL) (s:CSt) (e:Ending) (u':World):Prop:=∃ P lp bs',e = .returned (.map (some P))∧(∀ p∈bs,p∈bs')∧(P,Q3f lp)∈bs'∧(∀ p∈lp,Q4H bs' p.2)∧Q8w lp=(ds.foldl Q08 (s,[])).2∧(lp.map (·.1)).Nodup∧Qz w a Fr bs' (ds.foldl Q08 (s,[])).1 u'
set_option maxHeartbeats 8000000 in
theorem Qfe {w u:World} {a:CAd} {Fr bs:List (Nat×Obj)} {s:CSt} {sl ks:Value} {cv:List (Qj×Value)} {et:List (List UInt8×NumL×Value)} {bs0:List (Nat×Obj)} {dsl:Value} {ds:List DefL} {ps:List Nat} (hd:Q2v bs0 dsl ds ps) (hw:∀ p∈bs0,w.heap[p.1]? = some p.2) (hn:ds.length≤100) (hgd:∀ d∈ds,Q4d d) (h:Cp w a Fr bs s sl ks cv et u) (hr:Room s 27000) :
  Calls Tryz.prog 55 #[.pointer (some ⟨a.C,0,none⟩),dsl] u (QjC w a Fr bs ds s):=by
 have hmm:∀ (t:TypeId) (w:World),(Instr.makeMap t none).run Tryz.prog w = .ok (.map (some w.heap.size)) (w.alloc (.map #[] 0)):=fun _ _=>rfl
 have hcv:=Q9m
 obtain ⟨hpl,hrow,hea⟩:=hd
 have HRM:=Hid.mk hr
 have HGD:=Hid.mk hgd
 have M0:Hid (Qbv w a Fr bs u.heap.size ((ds.take 0).foldl Q08 (s,[])) [] bs sl ks cv et (u.alloc (.map #[] 0))):=⟨fun _ hp=>hp,(by intro p hp;cases hp),rfl,by simp,h.alloc (.map #[] 0)⟩
 have hcell:∀ (v:World),Qb [] w v→∀ i (hi:i < ds.length) (hi':i < ps.length),∃ g cap,dsl = .slice (some ⟨g,0,none⟩) ds.length cap∧ds.length≤cap∧v.cell? ⟨g,i,none⟩=some (.iface (defT ds[i]) (.pointer (some ⟨ps[i],0,none⟩))):=by
  intro v hv i hi hi'
  rcases hrow with ⟨_,h0,_⟩ | ⟨g,cap,cur,e,⟨h1,_⟩,hg,htake⟩
  ·omega
  ·exact ⟨g,cap,e,h1,Qs ((hv.block _ (Qc (hw _ hg)) (by simp)).trans (hw _ hg)) htake (by unfold Q1D;rw [List.getElem?_map,List.getElem?_eq_getElem (by simp;omega)];simp)⟩
 obtain ⟨dad,dcap,rfl⟩:∃ ad cap,dsl = .slice ad ds.length cap:=by
  rcases hrow with ⟨e,h0,_⟩ | ⟨g,cap,cur,e,_⟩
  ·exact ⟨none,0,by rw [e,h0]⟩
  ·exact ⟨_,_,e⟩
 have HCL:=Hid.mk hcell
 have HEA:=Hid.mk hea
 have HW:=Hid.mk hw
 clear hcell hrow hea hw h hr hgd
 go_enter Tryz.func55,Tryz.ntmps55
 go_wp2
 go_loopw [12] (fun i ur=>∃ (k:Nat) (lp:List (Int×PrgB)) (bk:List (Nat×Obj)) (sl ks:Value) (cv:List (Qj×Value)) (et:List (List UInt8×NumL×Value)),i = .int .i64 k∧k≤ds.length∧Hid (Qbv w a Fr bs u.heap.size ((ds.take k).foldl Q08 (s,[])) lp bk sl ks cv et ur)) (fun i _=>ds.length - (intOf i).toNat)
 case atStart=>exact ⟨0,_,_,_,_,_,_,rfl,by omega,M0⟩
 case round=>
  obtain ⟨k,lp,bk,sl1,ks1,cv1,et1,rfl,hk,G⟩:=hrel
  clear M0
  rcases Nat.lt_or_ge k ds.length with hlt | hge
  ·have hlt':k < ps.length:=by omega
   have hrm:Room ((ds.take k).foldl Q08 (s,[])).1 400:=Room.progs (ds.take k) (fun d hd=>HGD.out d (List.mem_of_mem_take hd)) (HRM.out.less (by simp;omega))
   have HST:Hid ((ds.take (k + 1)).foldl Q08 (s,[])=Q08 ((ds.take k).foldl Q08 (s,[])) ds[k]):=by show _=_;rw [List.take_succ_eq_append_getElem hlt,List.foldl_append];rfl
   generalize hp:(ds.take k).foldl Q08 (s,[])=q at *
   obtain ⟨g,cap,hds,hcap,q0⟩:=HCL.out _ G.out.cp.own.kp k hlt hlt'
   cases hds
   have hk0:(0:Int)≤↑k:=by omega
   have hk1:(↑k:Int) < ↑ds.length:=by omega
   by_cases hpr:∃ t a vs n,ds[k] = .prog t a vs n
   ·obtain ⟨t,pa,vs,num,hdk⟩:=hpr
    have hdi:=HEA.out k hlt hlt'
    have hgk:=HGD.out ds[k] (List.getElem_mem hlt)
    rw [hdk] at hdi hgk q0
    have hta:∀ W,(Instr.typeAssert (.iface 186 (.pointer (some ⟨ps[k],0,none⟩))) 113 186 true).run Tryz.prog W = .ok (.tuple #[.pointer (some ⟨ps[k],0,none⟩),.bool true]) W:=fun W=>by kernel_rfl
    replace q0:wr.cell? ⟨g,k,none⟩=some (.iface 186 (.pointer (some ⟨ps[k],0,none⟩))):=q0
    have hbx:∀ (v:World),Qb [] w v→v.cell? ⟨ps[k],3,none⟩=some (.int .i64 num):=by
     intro v hv
     obtain ⟨vsl,cs,hb,_⟩:=hdi
     exact (Q8x ((hv.block _ (Qc (HW.out _ hb)) (by simp)).trans (HW.out _ hb))).2.2.2
    have f3:=hbx _ G.out.cp.own.kp
    have HBX:=Hid.mk hbx
    have VA:=Hid.mk (QgZ hdi HW.out hgk (G.out.cp.below ((Below.refl _ _).drew)) hrm)
    clear hdi hgk hbx hrm
    go_wp2_with fail
    refine Qu (fun w'=>w'.cell? ⟨ps[k],3,none⟩=some (.int .i64 num)) (L:=9) (by kernel_rfl) rfl (by kernel_rfl) (by kernel_rfl) ?_ (fun hHeld=>?_)
    ·go_keep
    refine tk (i:=0) (v:=?_) rfl (by kernel_rfl) (fun _ _ _ h=>h) (by rfl) (by assumption) ?_ ?_
    rotate_left
    ·intro w hSw;(try dsimp only at hSw);go_simp;(try with_reducible rfl)
    (try simp only [Qd,Qe,List.set])
    refine tk (i:=1) (v:=?_) rfl (by kernel_rfl) (fun _ _ _ h=>h) (by rfl) (by assumption) ?_ ?_
    rotate_left
    ·intro w hSw;(try dsimp only at hSw);go_simp;(try with_reducible rfl)
    (try simp only [Qd,Qe,List.set])
    refine tk (i:=2) (v:=?_) rfl (by kernel_rfl) (fun _ _ _ h=>h) (by rfl) (by assumption) ?_ ?_
    rotate_left
    ·intro w hSw;(try dsimp only at hSw);go_simp;(try with_reducible rfl)
    (try simp only [Qd,Qe,List.set])
    refine tk (i:=3) (v:=?_) rfl (by kernel_rfl) (fun _ _ _ h=>h) (by rfl) (by assumption) ?_ ?_
    rotate_left
    ·intro w hSw;(try dsimp only at hSw);go_simp;(try with_reducible rfl)
    (try simp only [Qd,Qe,List.set])
    refine tk (i:=4) (v:=?_) rfl (by kernel_rfl) (fun _ _ _ h=>h) (by rfl) (by assumption) ?_ ?_
    rotate_left
    ·intro w hSw;(try dsimp only at hSw);go_simp;(try with_reducible rfl)
    (try simp only [Qd,Qe,List.set])
    refine tk (i:=5) (v:=?_) rfl (by kernel_rfl) (fun _ _ _ h=>h) (by rfl) (by assumption) ?_ ?_
    rotate_left
    ·intro w hSw;(try dsimp only at hSw);go_simp;(try with_reducible rfl)
    (try simp only [Qd,Qe,List.set])
    refine tk (i:=6) (v:=?_) rfl (by kernel_rfl) (fun _ _ _ h=>h) (by rfl) (by assumption) ?_ ?_
    rotate_left
    ·intro w hSw;(try dsimp only at hSw);go_simp;(try with_reducible rfl)
    (try simp only [Qd,Qe,List.set])
    refine tk (i:=7) (v:=?_) rfl (by kernel_rfl) (fun _ _ _ h=>h) (by rfl) (by assumption) ?_ ?_
    rotate_left
    ·intro w hSw;(try dsimp only at hSw);go_simp;(try with_reducible rfl)
    (try simp only [Qd,Qe,List.set])
    refine wpAnyH_ready (rs:=[8]) (by kernel_rfl) (by simp) ?_
    refine AllReadyH.cons rfl (fun K hK=>?_) AllReadyH.nil
    (go_simp;go_at_call 102;refine VA.out.mono ?_;rintro e w7 ⟨pg,bs7,rfl,hb7,hin,hbare,sb8,sl7,ks7,cv7,et7,hb8,M7⟩;have f7:=HBX.out _ M7.own.kp;have hmap:=(M7.own.hf _ List.mem_cons_self).1;have pu:=QgX hmap G.out.nd (u32 num) pg;have M8:=M7.setFr (Q06 _ _ _) (Q1k (Qc hmap) (Q3f (mput lp (u32 num) pg)));obtain ⟨W,hW⟩:∃ W,W=Q04 w7 u.heap.size (Q3f (mput lp (u32 num) pg)):=⟨_,rfl⟩;rw [← hW] at pu M8;have M8:=Hid.mk M8;clear M7 hmap hW)
    refine hK.out _ _ ?_ (fun hHeld=>?_)
    ·go_keep
    clear hK K
    (try simp only [Qd,Qe,List.set])
    refine wpAnyH_done (by kernel_rfl) ?_ _
    refine QB rfl (fun K hK=>?_)
    go_simp
    refine hK.out _ _ ?_
    clear hK K
    (try simp only [Qd,Qe,List.set])
    have hN:Hid (Qbv w a Fr bs u.heap.size ((ds.take (k + 1)).foldl Q08 (s,[])) (mput lp (u32 num) pg) sb8 sl7 ks7 cv7 et7 W):=by
     rw [HST.out,hdk]
     refine ⟨fun p hp=>hb8 p (hb7 p (G.out.sub p hp)),?_,?_,Q2x G.out.nd _ _,M8.out⟩
     ·intro p hp
      rcases Q9b hp with hp | rfl
      ·exact (G.out.pin p hp).more fun x hx=>hb8 x (hb7 x hx)
      ·exact hin.more hb8
     ·rw [Qfd,G.out.bare,hbare]
      rfl
    clear M8 VA
    go_wp2
    exact ⟨⟨k + 1,_,_,_,_,_,_,by go_num,by omega,hN⟩,by simp [intOf];omega⟩
   ·have hnp:∀ t a vs n,ds[k]≠.prog t a vs n:=fun t a vs n e=>hpr ⟨t,a,vs,n,e⟩
    have hta:=QdG hnp ps[k]
    have hN:Hid (Qbv w a Fr bs u.heap.size ((ds.take (k + 1)).foldl Q08 (s,[])) lp bk sl1 ks1 cv1 et1 wr):=by
     rw [HST.out,Qbp hnp]
     exact G.out
    go_wp2
    exact ⟨⟨k + 1,_,_,_,_,_,_,by go_num,by omega,hN⟩,by simp [intOf];omega⟩
  ·have hkk:k=ds.length:=by omega
   subst hkk
   have G:=G.out
   rw [List.take_length] at G
   have G:=Hid.mk G
   go_wp2
   go_ret
   exact ⟨u.heap.size,lp,_,rfl,fun p hp=>List.mem_cons_of_mem _ (G.out.sub p hp),List.mem_cons_self,fun p hp=>(G.out.pin p hp).more fun x hx=>List.mem_cons_of_mem _ hx,G.out.bare,G.out.nd,G.out.cp.give.gives⟩
structure Q41 (bs:List (Nat×Obj)) (v:Value) (S P:Nat) (ds:List DefL):Prop where
 code:Q2N bs v (Q09 ds).1
 types:(S,Q1c (Q09 ds).2)∈bs
 nd:((Q09 ds).2.map (·.1)).Nodup
 progs:∃ lp,(P,Q3f lp)∈bs∧(∀ p∈lp,Q4H bs p.2)∧Q8w lp=(Q3k ds).2∧(lp.map (·.1)).Nodup
def QjD (u:World) (ds:List DefL) (e:Ending) (u':World):Prop:=∃ v S P bs,e = .returned (.agg #[v,.map (some S),.map (some P)])∧Qb [] u u'∧Q41 bs v S P ds∧∀ p∈bs,u'.heap[p.1]? = some p.2
theorem Qiu {ds:List DefL}:∀ k∈(ds.foldl Q08 ((ds.foldl QD (QG ds,[])).1,[])).1.calls,k.1 < (ds.foldl Q08 ((ds.foldl QD (QG ds,[])).1,[])).1.code.length:=by
 obtain ⟨c1,_⟩:=Q9g (fun _=>0) ds.length ds rfl
 obtain ⟨s1,_⟩:=Qa1 (fun _=>0) (QG ds) c1 ds.length ds rfl
 exact (QaN (fun _=>0) ds _ s1).1.wf.lt
set_option maxHeartbeats 8000000 in
theorem Qkh {u:World} {bs0:List (Nat×Obj)} {dsl:Value} {ds:List DefL} {ps:List Nat} (hd:Q2v bs0 dsl ds ps) (hw:∀ p∈bs0,u.heap[p.1]? = some p.2) (hty:Q86 ds) (hgd:∀ d∈ds,Q4d d) (hn:ds.length≤100) :
  Calls Tryz.prog 29 #[dsl] u (QjD u ds):=by
 have hmm:∀ (t:TypeId) (w:World),(Instr.makeMap t none).run Tryz.prog w = .ok (.map (some w.heap.size)) (w.alloc (.map #[] 0)):=fun _ _=>rfl
 have HD:=Hid.mk hd
 have HGD:=Hid.mk hgd
 obtain ⟨hpl,hrow,hea⟩:=hd
 have hfew:∀ d∈ds,Qa6 d:=by
  intro d hd
  obtain ⟨i,hi,rfl⟩:=List.getElem_of_mem hd
  exact QgT (hea i hi (by omega))
 have R0:Hid (Room st0C (28000 + 5000 + 300 + 4100 * ds.length)):=⟨by simp [st0C];omega,by simp [st0C]⟩
 have HFEW:=Hid.mk hfew
 have HTY:=Hid.mk hty
 have M0:=Hid.mk (Qir u).gives
 have hcell:∀ (v:World),Qb [] u v→∀ i (hi:i < ds.length) (hi':i < ps.length),∃ g cap,dsl = .slice (some ⟨g,0,none⟩) ds.length cap∧ds.length≤cap∧v.cell? ⟨g,i,none⟩=some (.iface (defT ds[i]) (.pointer (some ⟨ps[i],0,none⟩))):=by
  intro v hv i hi hi'
  rcases hrow with ⟨_,h0,_⟩ | ⟨g,cap,cur,e,⟨h1,_⟩,hg,htake⟩
  ·omega
  ·exact ⟨g,cap,e,h1,Qs ((hv.block _ (Qc (hw _ hg)) (by simp)).trans (hw _ hg)) htake (by unfold Q1D;rw [List.getElem?_map,List.getElem?_eq_getElem (by simp;omega)];simp)⟩
 obtain ⟨dad,dcap,rfl⟩:∃ ad cap,dsl = .slice ad ds.length cap:=by
  rcases hrow with ⟨e,h0,_⟩ | ⟨g,cap,cur,e,_⟩
  ·exact ⟨none,0,by rw [e,h0]⟩
  ·exact ⟨_,_,e⟩
 have HCL:=Hid.mk hcell
 have HEA:=Hid.mk hea
 have HW:=Hid.mk hw
 clear hcell hrow hea hw hfew hty hgd
 go_enter Tryz.func29,Tryz.ntmps29
 go_wp2
 go_loopw [14] (fun i ur=>∃ k:Nat,i = .int .i64 k∧k≤ds.length∧Hid (Qz u ⟨u.heap.size + 3,u.heap.size + 1,u.heap.size + 2⟩ [(u.heap.size,Q4V (.slice none 0 0) none none)] [] (QG (ds.take k)) ur)) (fun i _=>ds.length - (intOf i).toNat)
 case atStart=>exact ⟨0,rfl,by omega,M0⟩
 case round=>
  obtain ⟨k,rfl,hk,G⟩:=hrel
  clear M0
  rcases Nat.lt_or_ge k ds.length with hlt | hge
  ·have hlt':k < ps.length:=by omega
   have hrm:Room (QG (ds.take k)) 5000:=Room.defs (ds.take k) (fun d hd=>HTY.out d (List.mem_of_mem_take hd)) (fun d hd=>HFEW.out d (List.mem_of_mem_take hd)) (R0.out.less (by simp;omega))
   obtain ⟨bs1,sl1,ks1,cv1,et1,hb1,M1⟩:=G.out
   obtain ⟨g,cap,hds,hcap,q0⟩:=HCL.out _ M1.own.kp k hlt hlt'
   cases hds
   have VD:=Hid.mk (Qcz (HEA.out k hlt hlt') HW.out (HTY.out ds[k] (List.getElem_mem hlt)) M1 hrm)
   have hk0:(0:Int)≤↑k:=by omega
   have hk1:(↑k:Int) < ↑ds.length:=by omega
   have HST:Hid (QG (ds.take (k + 1))=QH ds[k] (QG (ds.take k))):=by show _=_;rw [List.take_succ_eq_append_getElem hlt,Q3B]
   clear M1 hrm hb1 G
   go_wp2_with fail
   refine VD.out.mono ?_
   rintro e w2 ⟨rfl,M3⟩
   have G3:Hid (Qz u ⟨u.heap.size + 3,u.heap.size + 1,u.heap.size + 2⟩ [(u.heap.size,Q4V (.slice none 0 0) none none)] [] (QG (ds.take (k + 1))) w2):=by
    rw [HST.out]
    exact Qz.more (by intro p hp;cases hp) M3
   clear M3 VD
   go_wp2
   exact ⟨⟨k + 1,by go_num,by omega,G3⟩,by simp [intOf];omega⟩
  ·have hkk:k=ds.length:=by omega
   subst hkk
   have G:=G.out
   rw [List.take_length] at G
   have R1:Room (QG ds) 33000:=Room.defs ds HTY.out HFEW.out (R0.out.less (by omega))
   obtain ⟨bs1,sl1,ks1,cv1,et1,hb1,M1⟩:=G
   have R2:Hid (Room (ds.foldl QD (QG ds,[])).1 32000):=Room.starts ds (p:=(QG ds,[])) (R1.less (by omega))
   have R3:Hid (Room (ds.foldl Q08 ((ds.foldl QD (QG ds,[])).1,[])).1 100):=Room.progs ds (q:=((ds.foldl QD (QG ds,[])).1,[])) HGD.out (R2.out.less (by omega))
   have VS:=Hid.mk (QjB HD.out HW.out hn M1 (R1.less (by omega)))
   clear M1 R0 R1
   go_wp2_with fail
   refine VS.out.mono ?_
   rintro e w2 ⟨S,bs2,rfl,hs2,hS,bs3,sl3,ks3,cv3,et3,hb3,M3⟩
   have VP:=Hid.mk (Qfe HD.out HW.out hn HGD.out M3 (R2.out.less (by omega)))
   have HS:=Hid.mk (hb3 _ hS)
   clear M3 VS hS
   go_wp2_with fail
   refine VP.out.mono ?_
   rintro e w4 ⟨P,lp,bs4,rfl,hs4,hP,hpin,hbare,hlpn,bs5,sl5,ks5,cv5,et5,hb5,M5⟩
   have hwf:=Qiu (ds:=ds)
   have hc9:=R3.out.code
   have hc8:=R3.out.calls
   have HLEN:Hid ((Q09 ds).1.length < 1000000):=by
    have:=(QcA (ds.foldl Q08 ((ds.foldl QD (QG ds,[])).1,[])).1.calls (ds.foldl Q08 ((ds.foldl QD (QG ds,[])).1,[])).1).1
    exact Nat.lt_of_le_of_lt (Nat.le_of_eq this) (by omega)
   have VL:=Hid.mk (Qkf M5 hwf (by omega) (by omega))
   have HBARE:=Hid.mk hbare
   have HPIN:=Hid.mk hpin
   clear M5 hwf VP hbare hpin
   go_wp2_with fail
   refine VL.out.mono ?_
   rintro e w7 ⟨rfl,cv7,M7⟩
   obtain ⟨sa,sc,rfl⟩:=M7.slice
   obtain ⟨c0,c1,c2,c3,hfz,hlt9⟩:=M7.cells
   have hR:=(M7.own.hf _ List.mem_cons_self).1
   obtain ⟨r0,r1,r2,rfr,rlt⟩:=Q4n hR
   obtain ⟨t0,t1,t2,_,_⟩:=Q4n (Q4W (x:=.slice sa (Q6v (ds.foldl Q08 ((ds.foldl QD (QG ds,[])).1,[])).1).code.length sc) (y:=.map (some S)) (z:=.map (some P)) hR)
   have M9:=Hid.mk (M7.setFr (Q6w (.slice sa (Q6v (ds.foldl Q08 ((ds.foldl QD (QG ds,[])).1,[])).1).code.length sc) (.map (some S)) (.map (some P))) (Q4W hR))
   clear VL M7 hR
   go_wp2
   refine bodyPost_ret (v:=.agg #[.slice sa (Q6v (ds.foldl Q08 ((ds.foldl QD (QG ds,[])).1,[])).1).code.length sc,.map (some S),.map (some P)]) (by simp [results,Tryz.results29,go_sem,t0,t1,t2]) rfl ?_
   obtain ⟨bs',h1,h2,h3⟩:=M9.out.codeIn HLEN.out
   exact ⟨_,S,P,bs',rfl,M9.out.own.kp,⟨h1,h2 _ (hb5 _ (hs4 _ HS.out)),Q8b _ (by simp),lp,h2 _ (hb5 _ hP),fun p hp=>(HPIN.out p hp).more fun x hx=>h2 _ (hb5 _ hx),HBARE.out,hlpn⟩,h3⟩
theorem QdH (w:World):(binOp BinOp.neq 20 .nilIface .nilIface).run Tryz.prog w = .ok (.bool false) w:=by kernel_rfl
theorem Qff (p q:Addr) (w:World) :
  CallsD Tryz.prog 26 #[.pointer (some p),.pointer (some q)] .returning w fun e u' w'=>e = .returned (.tuple #[])∧u' = .returning∧w'=w:=by
 have hn:=QdH
 refine callsD_of_wpS Tryz.func26 rfl fun c₀ cs hu=>?_
 apply wpS_seq
 apply wpS_region
 simp [wpOpsS,go_sem,recoverD,hu,Tryz.ntmps26,Exit.thenS]
 apply wpS_seq
 apply wpS_region
 simp [wpOpsS,go_sem,Exit.thenS,hn]
 refine wpS_cond (t:=false) (by simp [Act.eval,Array.replicate]) ?_
 simp only [Bool.false_eq_true,if_false]
 refine wpS_of_wp (wp_skip ?_)
 cases c₀
 simp_all [bodyPostS,results,Tryz.results26]
end Go.Proofs.YtmbcibgknckenaaGreatDoor
