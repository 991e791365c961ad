import Derived.Test.YtmbcibgknckenaaGreatDoorT10
import Derived.Defers
import Derived.Recover
set_option linter.all false
set_option maxRecDepth 100000
set_option maxHeartbeats 4000000
namespace Go.Proofs.YtmbcibgknckenaaGreatDoor
open Go.RowKit
open Go.MapKept
abbrev vrsC (p:QN×Value):List Value:=Q3D p.1.t p.1.at'++[p.2,.int .i64 p.1.num]
abbrev Q3y (lo hi:Int) (m:Option Nat):Obj:=.cells #[.int .u32 lo,.int .u32 hi,.map m] 216
theorem Room.vers:∀ (l:List QN) {q:CSt×PrgL} {n:Nat},(∀ v∈l,Q6C v)→Room q.1 (n + 64 * l.length)→Room (l.foldl Q1W q).1 n:=by
 intro l
 induction l with
 | nil=>intro q n _ h;exact h
 | cons v l ih=>
  intro q n hp h
  refine ih (fun x hx=>hp x (List.mem_cons_of_mem _ hx)) ?_
  have hv:=hp v (by simp)
  exact Room.procs v.procs (q:=(q.1,[])) hv.2 (h.less (by have:=hv.1;simp only [List.length_cons];omega))
theorem Qf0 (l:List (Int×Nat×List (Int×Nat×Nat))) (k:Int) (v:Nat) (x:List (Int×Nat×Nat)):Q9o (mput l k (v,x))=mput (Q9o l) k x:=Q8B (fun q:Nat×List (Int×Nat×Nat)=>q.2) l k (v,x)
theorem Q7E.put {bs bs':List (Nat×Obj)} {l:List (Int×Nat×List (Int×Nat×Nat))} (h:Q7E bs l) (hb:∀ p∈bs,p∈bs') (k:Int) {v:Nat} {x:List (Int×Nat×Nat)} (hv:(v,Q2m x)∈bs'):Q7E bs' (mput l k (v,x)):=by
 intro p hp
 rcases Q8C hp with hp | rfl
 ·exact hb _ (h p hp)
 ·exact hv
structure Qf1 (w:World) (a:CAd) (Fr bs:List (Nat×Obj)) (R:Nat) (Q:CSt×PrgL) (lv:List (Int×Nat×List (Int×Nat×Nat))) (bk:List (Nat×Obj)) (sl ks:Value) (cv:List (Qo×Value)) (et:List (List UInt8×NumL×Value)) (ur:World):Prop where
 sub:∀ p∈bs,p∈bk
 vin:Q7E bk lv
 bare:Q9o lv=Q.2.vs
 nd:(lv.map (·.1)).Nodup
 cp:Cp w a ((R + 1 + 1,Q3y Q.2.lo Q.2.hi (some (R + 1))) :: (R + 1,Q3h lv) :: (R,Q3y 0 0 none) :: Fr) bk Q.1 sl ks cv et ur
def QhY (w:World) (a:CAd) (Fr bs:List (Nat×Obj)) (vs:List QN) (s:CSt) (e:Ending) (u':World):Prop:=∃ (q:PrgB) (bs':List (Nat×Obj)),e = .returned (.agg #[.int .u32 q.lo,.int .u32 q.hi,.map (some q.m)])∧(∀ p∈bs,p∈bs')∧Q4S bs' q∧Qb5 q=(Q3Z vs s).2∧Qy w a Fr bs' (Q3Z vs s).1 u'
theorem Q81 {b:Nat} {c0 c1 c2 c3:Value} {T:TypeId} {w:World} (h:w.heap[b]? = some (.cells #[c0,c1,c2,c3] T)) :
  w.cell? ⟨b,0,none⟩=some c0∧w.cell? ⟨b,1,none⟩=some c1∧w.cell? ⟨b,2,none⟩=some c2∧w.cell? ⟨b,3,none⟩=some c3:=by
 refine ⟨?_,?_,?_,?_⟩<;>simp [World.cell?,h]
theorem Q46 {b:Nat} {c0 c1 c2:Value} {T:TypeId} {w:World} (h:w.heap[b]? = some (.cells #[c0,c1,c2] T)) :
  w.cell? ⟨b,0,none⟩=some c0∧w.cell? ⟨b,1,none⟩=some c1∧w.cell? ⟨b,2,none⟩=some c2∧(∀ i,w.frozen? ⟨b,i,none⟩=false)∧b < w.heap.size:=by
 refine ⟨?_,?_,?_,?_,Qc h⟩<;>simp [World.cell?,World.frozen?,h]
theorem Q6S {b:Nat} {c0 c1 c2 x y z:Value} {T:TypeId} {w:World} (h:w.heap[b]? = some (.cells #[c0,c1,c2] T)):(((w.setCell ⟨b,0,none⟩ x).setCell ⟨b,1,none⟩ y).setCell ⟨b,2,none⟩ z).heap[b]? = some (.cells #[x,y,z] T):=QB (i:=2) (QB (i:=1) (QB (i:=0) h x) y) z
theorem Qae {b:Nat} {w:World} (x y z:Value):Qa [b] w (((w.setCell ⟨b,0,none⟩ x).setCell ⟨b,1,none⟩ y).setCell ⟨b,2,none⟩ z):=
 (((Qa.refl [b] w).setIn (p:=⟨b,0,none⟩) (by simp) _).setIn (p:=⟨b,1,none⟩) (by simp) _).setIn (p:=⟨b,2,none⟩) (by simp) _
theorem Qgn {w u:World} {a:CAd} {Fr bs:List (Nat×Obj)} {s:CSt} {sl ks:Value} {cv:List (Qo×Value)} {et:List (List UInt8×NumL×Value)} {bs0:List (Nat×Obj)} {b at':Nat} {t:List UInt8} {vs:List QN} {num:Int} (hd:Q0d bs0 b (.prog t at' vs num)) (hw:∀ p∈bs0,w.heap[p.1]? = some p.2) (hg:Q2F (.prog t at' vs num)) (h:Cp w a Fr bs s sl ks cv et u) (hr:Room s 400) :
  Calls Tryz.prog 102 #[.pointer (some ⟨a.C,0,none⟩),.pointer (some ⟨b,0,none⟩)] u (QhY w a Fr bs vs s):=by
 have hmm:∀ (t:TypeId) (w:World),(Instr.makeMap t none).run Tryz.prog w = .ok (.map (some w.heap.size)) (w.alloc (.map #[] 0)):=fun _ _=>rfl
 have hcv:=Q8H
 obtain ⟨vsl,cs,hb,hcl,hsl,hea⟩:=hd
 obtain ⟨hne,hfew,hvg⟩:=hg
 have hpos:0 < vs.length:=List.length_pos_iff.2 hne
 have hbox:=hw _ hb
 have hbu:u.heap[b]? = _:=h.heap hbox
 have hbw:b < w.heap.size:=Qc hbox
 have hul:w.heap.size≤u.heap.size:=h.own.kp.size
 obtain ⟨g,cap,cur,rfl,⟨hcap,_⟩,hg,htake⟩:∃ g cap cur,vsl = .slice (some ⟨g,0,none⟩) vs.length cap∧(vs.length≤cap∧vs.length≤1000)∧(g,Obj.cells cur 296)∈bs0∧cur.toList.take ((vs.zip cs).flatMap vrsC).length=(vs.zip cs).flatMap vrsC:=by
  rcases hsl with ⟨_,h0,_⟩ | h
  ·omega
  ·exact h
 have hcell:∀ (W:World),Qa [] w W→∀ i (hi:i < vs.length) (hi':i < cs.length),W.cell? ⟨g,i * 4,none⟩=some (.string ⟨vs[i].t.toArray⟩)∧W.cell? ⟨g,i * 4 + 1,none⟩=some (.int .i64 vs[i].at')∧W.cell? ⟨g,i * 4 + 2,none⟩=some cs[i]∧W.cell? ⟨g,i * 4 + 3,none⟩=some (.int .i64 vs[i].num):=by
  intro W hW i hi hi'
  have hgb:=(hW.block _ (Qc (hw _ hg)) (by simp)).trans (hw _ hg)
  have hf:=Q1q (c:=vrsC) (n:=4) (fun _=>rfl) (vs.zip cs) i
  have hz:i < (vs.zip cs).length:=by simp;omega
  refine ⟨Qn hgb htake ?_,Qn hgb htake ?_,Qn hgb htake ?_,Qn hgb htake ?_⟩
  ·have:=hf 0 hz (by omega);simpa using this
  ·have:=hf 1 hz (by omega);simpa using this
  ·have:=hf 2 hz (by omega);simpa using this
  ·have:=hf 3 hz (by omega);simpa using this
 have hcsl:∀ i (hi:i < vs.length) (hi':i < cs.length),∃ x y z,cs[i] = .slice x y z:=by
  intro i hi hi'
  rcases hea i hi hi' with ⟨e,_⟩ | ⟨_,_,_,e,_⟩<;>exact ⟨_,_,_,e⟩
 have hgw:g < w.heap.size:=Qc (hw _ hg)
 obtain ⟨f0,f1,f2,f3⟩:=hcell u h.own.kp 0 hpos (by omega)
 obtain ⟨k0,k1,k2,k3⟩:=Q81 hbu
 simp only [Nat.zero_mul,Nat.zero_add] at f0 f1 f2 f3
 have hbl:b < u.heap.size:=by omega
 have hgl:g < u.heap.size:=by omega
 have hbl1:b < u.heap.size + 1:=by omega
 have hgl1:g < u.heap.size + 1:=by omega
 have hbl2:b < u.heap.size + 1 + 1:=by omega
 have hgl2:g < u.heap.size + 1 + 1:=by omega
 have hgn:g≠u.heap.size:=by omega
 have hbn:b≠u.heap.size:=by omega
 have hgn1:g≠u.heap.size + 1:=by omega
 have hbn1:b≠u.heap.size + 1:=by omega
 have hgn2:g≠u.heap.size + 1 + 1:=by omega
 have hbn2:b≠u.heap.size + 1 + 1:=by omega
 have hp1:(0:Int) < ↑vs.length:=by omega
 have hinit:(vs.head?.map fun v=>u32 v.num).getD 0=Go.Proofs.YtmbcibgknckenaaGreatDoor.u32 vs[0].num:=by
  cases vs with
  | nil=>simp at hpos
  | cons v vr=>rfl
 have M0:Hid (Qf1 w a Fr bs u.heap.size (s,⟨Go.Proofs.YtmbcibgknckenaaGreatDoor.u32 vs[0].num,Go.Proofs.YtmbcibgknckenaaGreatDoor.u32 vs[0].num,[]⟩) [] bs sl ks cv et (((u.alloc (Q3y 0 0 none)).alloc (.map #[] 0)).alloc (Q3y (Go.Proofs.YtmbcibgknckenaaGreatDoor.u32 vs[0].num) (Go.Proofs.YtmbcibgknckenaaGreatDoor.u32 vs[0].num) (some (u.heap.size + 1))))):=by
  have h1:=((h.alloc (Q3y 0 0 none)).alloc (.map #[] 0)).alloc (Q3y (Go.Proofs.YtmbcibgknckenaaGreatDoor.u32 vs[0].num) (Go.Proofs.YtmbcibgknckenaaGreatDoor.u32 vs[0].num) (some (u.heap.size + 1)))
  have z1:(u.alloc (Q3y 0 0 none)).heap.size=u.heap.size + 1:=by simp
  have z2:((u.alloc (Q3y 0 0 none)).alloc (.map #[] 0)).heap.size=u.heap.size + 1 + 1:=by simp
  rw [z2,z1] at h1
  exact ⟨fun _ hp=>hp,(by intro p hp;cases hp),rfl,by simp,h1⟩
 have HCL:=Hid.mk hcell
 have HCS:=Hid.mk hcsl
 have HEA:=Hid.mk hea
 have HVG:=Hid.mk hvg
 have HRM:=Hid.mk hr
 have HW:=Hid.mk hw
 clear hcell hcsl hea hvg hr h hw hsl hbu hbox htake
 go_enter Tryz.func102,Tryz.ntmps102
 go_wp2
 go_loopw [27] (fun i ur=>∃ (k:Nat) (lv:List (Int×Nat×List (Int×Nat×Nat))) (bk:List (Nat×Obj)) (sl ks:Value) (cv:List (Qo×Value)) (et:List (List UInt8×NumL×Value)),i = .int .i64 k∧k≤vs.length∧Hid (Qf1 w a Fr bs u.heap.size ((vs.take k).foldl Q1W (s,⟨Go.Proofs.YtmbcibgknckenaaGreatDoor.u32 vs[0].num,Go.Proofs.YtmbcibgknckenaaGreatDoor.u32 vs[0].num,[]⟩)) lv bk sl ks cv et ur)) (fun i _=>vs.length - (intOf i).toNat)
 case atStart=>exact ⟨0,_,_,_,_,_,_,rfl,by omega,M0⟩
 case round=>
  obtain ⟨k,lv,bk,sl1,ks1,cv1,et1,rfl,hk,G⟩:=hrel
  clear M0
  rcases Nat.lt_or_ge k vs.length with hlt | hge
  ·have hlt':k < cs.length:=by omega
   have hrm:Room ((vs.take k).foldl Q1W (s,⟨Go.Proofs.YtmbcibgknckenaaGreatDoor.u32 vs[0].num,Go.Proofs.YtmbcibgknckenaaGreatDoor.u32 vs[0].num,[]⟩)).1 80:=Room.vers (vs.take k) (fun v hv=>HVG.out v (List.mem_of_mem_take hv)) (HRM.out.less (by simp;omega))
   have HST:Hid ((vs.take (k + 1)).foldl Q1W (s,⟨Go.Proofs.YtmbcibgknckenaaGreatDoor.u32 vs[0].num,Go.Proofs.YtmbcibgknckenaaGreatDoor.u32 vs[0].num,[]⟩)=Q1W ((vs.take k).foldl Q1W (s,⟨Go.Proofs.YtmbcibgknckenaaGreatDoor.u32 vs[0].num,Go.Proofs.YtmbcibgknckenaaGreatDoor.u32 vs[0].num,[]⟩)) vs[k]):=by show _=_;rw [List.take_succ_eq_append_getElem hlt,List.foldl_append];rfl
   generalize hq:(vs.take k).foldl Q1W (s,⟨Go.Proofs.YtmbcibgknckenaaGreatDoor.u32 vs[0].num,Go.Proofs.YtmbcibgknckenaaGreatDoor.u32 vs[0].num,[]⟩)=q at *
   obtain ⟨x,y,z,hxyz⟩:=HCS.out k hlt hlt'
   obtain ⟨p0,p1,p2,p3⟩:=HCL.out _ G.out.cp.own.kp k hlt hlt'
   rw [hxyz] at p2
   have hsk:=HEA.out k hlt hlt'
   rw [hxyz] at hsk
   have hk0:(0:Int)≤↑k:=by omega
   have hk1:(↑k:Int) < ↑vs.length:=by omega
   have hP:=(G.out.cp.own.hf _ List.mem_cons_self).1
   obtain ⟨d0,d1,d2,dfr,dlt⟩:=Q46 hP
   have hPn:u.heap.size + 1 + 1≠wr.heap.size:=by omega
   have e0:=G.out.cp.setFr ((Qa.refl [u.heap.size + 1 + 1] _).setIn (p:=⟨u.heap.size + 1 + 1,0,none⟩) (by simp) (.int .u32 (min q.2.lo (Go.Proofs.YtmbcibgknckenaaGreatDoor.u32 vs[k].num)))) (QB (i:=0) hP _)
   have e1:=e0.setFr ((Qa.refl [u.heap.size + 1 + 1] _).setIn (p:=⟨u.heap.size + 1 + 1,1,none⟩) (by simp) (.int .u32 (max q.2.hi (Go.Proofs.YtmbcibgknckenaaGreatDoor.u32 vs[k].num)))) (QB (i:=1) (QB (i:=0) hP _) _)
   have ez:((wr.setCell ⟨u.heap.size + 1 + 1,0,none⟩ (.int .u32 (min q.2.lo (Go.Proofs.YtmbcibgknckenaaGreatDoor.u32 vs[k].num)))).setCell ⟨u.heap.size + 1 + 1,1,none⟩ (.int .u32 (max q.2.hi (Go.Proofs.YtmbcibgknckenaaGreatDoor.u32 vs[k].num)))).heap.size=wr.heap.size:=by simp
   have e2':=e1.alloc (.cells #[.string ⟨vs[k].t.toArray⟩,.int .i64 vs[k].at',.slice x y z,.int .i64 vs[k].num] 296)
   rw [ez] at e2'
   have e2:Cp w a ((wr.heap.size,(.cells #[.string ⟨vs[k].t.toArray⟩,.int .i64 vs[k].at',.slice x y z,.int .i64 vs[k].num] 296)) :: (u.heap.size + 1 + 1,Q3y (min q.2.lo (Go.Proofs.YtmbcibgknckenaaGreatDoor.u32 vs[k].num)) (max q.2.hi (Go.Proofs.YtmbcibgknckenaaGreatDoor.u32 vs[k].num)) (some (u.heap.size + 1))) :: (u.heap.size + 1,Q3h lv) :: (u.heap.size,Q3y 0 0 none) :: Fr) bk q.1 sl1 ks1 cv1 et1 _:=e2'
   have HX:=Hid.mk e2
   have VA:=Hid.mk (Qgm hsk HW.out (HVG.out vs[k] (List.getElem_mem hlt)) (e2.below ((Below.refl _ _).drew)) hrm)
   clear e0 e1 e2 e2' hsk hrm
   go_wp2_with fail
   refine QH (fun w'=>w'.cell? ⟨u.heap.size + 1 + 1,2,none⟩=some (.map (some (u.heap.size + 1)))∧w'.cell? ⟨wr.heap.size,0,none⟩=some (.string ⟨vs[k].t.toArray⟩)∧w'.cell? ⟨wr.heap.size,1,none⟩=some (.int .i64 vs[k].at')∧w'.cell? ⟨wr.heap.size,2,none⟩=some (.slice x y z)∧w'.cell? ⟨wr.heap.size,3,none⟩=some (.int .i64 vs[k].num)) (L:=6) (by kernel_rfl) rfl (by kernel_rfl) (by kernel_rfl) ?_ (fun hHeld=>?_)
   ·exact ⟨(Q46 (HX.out.tail.own.hf _ List.mem_cons_self).1).2.2.1,Q81 (HX.out.own.hf _ List.mem_cons_self).1⟩
   refine tk (i:=0) (v:=?_) rfl (by kernel_rfl) (fun _ _ _ h=>h) (by rfl) (by assumption) ?_ ?_
   rotate_left
   ·intro w hSw;(try dsimp only at hSw);go_simp;(try with_reducible rfl)
   (try simp only [Qd,Qe,List.set])
   refine tk (i:=1) (v:=?_) rfl (by kernel_rfl) (fun _ _ _ h=>h) (by rfl) (by assumption) ?_ ?_
   rotate_left
   ·intro w hSw;(try dsimp only at hSw);go_simp;(try with_reducible rfl)
   (try simp only [Qd,Qe,List.set])
   refine tk (i:=2) (v:=?_) rfl (by kernel_rfl) (fun _ _ _ h=>h) (by rfl) (by assumption) ?_ ?_
   rotate_left
   ·intro w hSw;(try dsimp only at hSw);go_simp;(try with_reducible rfl)
   (try simp only [Qd,Qe,List.set])
   refine tk (i:=3) (v:=?_) rfl (by kernel_rfl) (fun _ _ _ h=>h) (by rfl) (by assumption) ?_ ?_
   rotate_left
   ·intro w hSw;(try dsimp only at hSw);go_simp;(try with_reducible rfl)
   (try simp only [Qd,Qe,List.set])
   refine tk (i:=4) (v:=?_) rfl (by kernel_rfl) (fun _ _ _ h=>h) (by rfl) (by assumption) ?_ ?_
   rotate_left
   ·intro w hSw;(try dsimp only at hSw);go_simp;(try with_reducible rfl)
   (try simp only [Qd,Qe,List.set])
   refine wpAnyH_ready (rs:=[5]) (by kernel_rfl) (by simp) ?_
   refine AllReadyH.cons rfl (fun K hK=>?_) AllReadyH.nil
   (go_simp;go_at_call 146;refine VA.out.mono ?_;rintro e w7 ⟨V,bs7,rfl,hb7,hV,bs8,sl7,ks7,cv7,et7,hb8,M7⟩;obtain ⟨x0,x1,x2,x3⟩:=Q81 (M7.own.hf _ List.mem_cons_self).1;obtain ⟨y0,y1,y2,yf,yl⟩:=Q46 (M7.tail.own.hf _ List.mem_cons_self).1;have hmap:=(M7.tail.tail.own.hf _ List.mem_cons_self).1;have pu:=Qhj hmap G.out.nd (Go.Proofs.YtmbcibgknckenaaGreatDoor.u32 vs[k].num) V (Q3t vs[k] q.1).2;have M8:=Cp.turnAt (A:=[(u.heap.size + 1 + 1,Q3y (min q.2.lo (Go.Proofs.YtmbcibgknckenaaGreatDoor.u32 vs[k].num)) (max q.2.hi (Go.Proofs.YtmbcibgknckenaaGreatDoor.u32 vs[k].num)) (some (u.heap.size + 1)))]) M7.tail (Q0a _ _ _) (Q1t (Qc hmap) (Q3h (mput lv (Go.Proofs.YtmbcibgknckenaaGreatDoor.u32 vs[k].num) (V,(Q3t vs[k] q.1).2))));obtain ⟨W,hW⟩:∃ W,W=Q09 w7 (u.heap.size + 1) (Q3h (mput lv (Go.Proofs.YtmbcibgknckenaaGreatDoor.u32 vs[k].num) (V,(Q3t vs[k] q.1).2))):=⟨_,rfl⟩;rw [← hW] at pu M8;have M8:=Hid.mk M8;clear M7 hmap hW)
   refine hK.out _ _ ?_ (fun hHeld=>?_)
   ·go_keep
   clear hK K
   (try simp only [Qd,Qe,List.set])
   refine wpAnyH_done (by kernel_rfl) ?_ _
   refine Q02 rfl (fun K hK=>?_)
   go_simp
   refine hK.out _ _ ?_
   clear hK K
   (try simp only [Qd,Qe,List.set])
   have hN:Hid (Qf1 w a Fr bs u.heap.size ((vs.take (k + 1)).foldl Q1W (s,⟨Go.Proofs.YtmbcibgknckenaaGreatDoor.u32 vs[0].num,Go.Proofs.YtmbcibgknckenaaGreatDoor.u32 vs[0].num,[]⟩)) (mput lv (Go.Proofs.YtmbcibgknckenaaGreatDoor.u32 vs[k].num) (V,(Q3t vs[k] q.1).2)) bs8 sl7 ks7 cv7 et7 W):=by
    rw [HST.out]
    refine ⟨fun p hp=>hb8 p (hb7 p (G.out.sub p hp)),G.out.vin.put (fun p hp=>hb8 p (hb7 p hp)) _ (hb8 _ hV),?_,Q31 G.out.nd _ _,M8.out⟩
    rw [Qf0,G.out.bare]
    rfl
   clear M8 VA HX
   go_wp2
   exact ⟨⟨k + 1,_,_,_,_,_,_,by go_num,by omega,hN⟩,by simp [intOf];omega⟩
  ·have hkk:k=vs.length:=by omega
   subst hkk
   have G:=G.out
   rw [List.take_length] at G
   have HPM:Hid (Q3Z vs s=vs.foldl Q1W (s,⟨Go.Proofs.YtmbcibgknckenaaGreatDoor.u32 vs[0].num,Go.Proofs.YtmbcibgknckenaaGreatDoor.u32 vs[0].num,[]⟩)):=by
    show Q3Z vs s=_
    unfold Q3Z
    rw [hinit]
   generalize vs.foldl Q1W (s,⟨Go.Proofs.YtmbcibgknckenaaGreatDoor.u32 vs[0].num,Go.Proofs.YtmbcibgknckenaaGreatDoor.u32 vs[0].num,[]⟩)=q at *
   obtain ⟨d0,d1,d2,dfr,dlt⟩:=Q46 (G.cp.own.hf _ List.mem_cons_self).1
   have hR:=(G.cp.tail.tail.own.hf _ List.mem_cons_self).1
   obtain ⟨r0,r1,r2,rfr,rlt⟩:=Q46 hR
   obtain ⟨t0,t1,t2,_,_⟩:=Q46 (Q6S (x:=.int .u32 q.2.lo) (y:=.int .u32 q.2.hi) (z:=.map (some (u.heap.size + 1))) hR)
   have M9:=Hid.mk (Cp.turnAt (A:=[(u.heap.size + 1,Q3h lv)]) G.cp.tail (Qae (.int .u32 q.2.lo) (.int .u32 q.2.hi) (.map (some (u.heap.size + 1)))) (Q6S hR))
   have G:=Hid.mk G
   clear hR
   go_wp2
   refine bodyPost_ret (v:=.agg #[.int .u32 q.2.lo,.int .u32 q.2.hi,.map (some (u.heap.size + 1))]) (by simp [results,Tryz.results102,go_sem,t0,t1,t2]) rfl ?_
   refine ⟨⟨q.2.lo,q.2.hi,u.heap.size + 1,lv⟩,(u.heap.size + 1,Q3h lv) :: bk,rfl,fun p hp=>List.mem_cons_of_mem _ (G.out.sub p hp),⟨List.mem_cons_self,fun p hp=>List.mem_cons_of_mem _ (G.out.vin p hp)⟩,?_,?_⟩
   ·rw [HPM.out]
    show PrgL.mk q.2.lo q.2.hi (Q9o lv)=q.2
    rw [G.out.bare]
   ·rw [HPM.out]
    exact (Cp.give (M9.out:Cp w a ((u.heap.size + 1,Q3h lv) :: _ :: Fr) bk q.1 sl1 ks1 cv1 et1 _)).tail.gives
theorem Qf2 {W:World} {m:Nat} {l:List (List UInt8×Nat)} (hb:W.heap[m]? = some (Q1g l)) (nd:(l.map (·.1)).Nodup) (k:List UInt8) (p:Nat) :
  (Instr.mapUpdate 64 (.map (some m)) (.string ⟨k.toArray⟩) (.int .i64 p)).run Tryz.prog W = .ok () (Q09 W m (Q1g (mput l k p))):=
 Q34 (P:=Tryz.prog) (T:=64) (kt:=9) (et:=3) (d:=.string) (by kernel_rfl) (by kernel_rfl) (fun k:List UInt8=>.string ⟨k.toArray⟩) (fun k:Nat=>.int .i64 k) (fun _=>trivial) (fun _=>Q5O _) Q3I hb nd k p
theorem Qy.held {w u:World} {a:CAd} {Fr bs:List (Nat×Obj)} {s:CSt} (h:Qy w a Fr bs s u) (bs0:List (Nat×Obj)) (hw:∀ p∈bs0,w.heap[p.1]? = some p.2):Held [] bs0 u:=fun p hp=>⟨h.heap (hw p hp),by simp⟩
theorem Cp.codeIn {w u:World} {a:CAd} {Fr bs:List (Nat×Obj)} {s:CSt} {sl ks:Value} {cv:List (Qo×Value)} {et:List (List UInt8×NumL×Value)} (h:Cp w a Fr bs s sl ks cv et u) (hl:s.code.length < 1000000):∃ bs',Q5S bs' sl s.code∧(∀ p∈bs,p∈bs')∧∀ p∈bs',u.heap[p.1]? = some p.2:=by
 have hB:∀ p∈bs,u.heap[p.1]? = some p.2:=fun p hp=>(h.own.hb p hp).1
 rcases h.row.2 with ⟨e,h0⟩ | ⟨g,cap,cur,e,_,h3,h4,h5,h6,h7⟩
 ·refine ⟨bs,⟨cv,h.cod,Or.inl ⟨e,h0,?_⟩,h.steps,hl⟩,fun _ hp=>hp,hB⟩
  have:=h.row.1
  rw [h0] at this
  simpa using this
 ·refine ⟨(g,.cells cur 226) :: bs,⟨cv,h.cod,Or.inr ⟨g,cap,cur,e,h4,List.mem_cons_self,?_⟩,fun p hp=>(h.steps p hp).more (fun _ hq=>List.mem_cons_of_mem _ hq),hl⟩,fun _ hp=>List.mem_cons_of_mem _ hp,?_⟩
  ·simpa using h7
  ·intro p hp
   rcases List.mem_cons.1 hp with rfl | hp
   ·exact h3
   ·exact hB p hp
def Qhk (w:World) (a:CAd) (Fr bs:List (Nat×Obj)) (ds:List DefL) (s:CSt) (e:Ending) (u':World):Prop:=∃ S bs',e = .returned (.map (some S))∧(∀ p∈bs,p∈bs')∧(S,Q1g (ds.foldl QU (s,[])).2)∈bs'∧Qy w a Fr bs' (ds.foldl QU (s,[])).1 u'
set_option maxHeartbeats 8000000 in
theorem QhZ {w u:World} {a:CAd} {Fr bs:List (Nat×Obj)} {s:CSt} {sl ks:Value} {cv:List (Qo×Value)} {et:List (List UInt8×NumL×Value)} {bs0:List (Nat×Obj)} {dsl:Value} {ds:List DefL} {ps:List Nat} (hd:Q23 bs0 dsl ds ps) (hw:∀ p∈bs0,w.heap[p.1]? = some p.2) (hn:ds.length≤100) (h:Cp w a Fr bs s sl ks cv et u) (hr:Room s 300) :
  Calls Tryz.prog 54 #[.pointer (some ⟨a.C,0,none⟩),dsl] u (Qhk w a Fr bs ds s):=by
 have hmm:∀ (t:TypeId) (w:World),(Instr.makeMap t none).run Tryz.prog w = .ok (.map (some w.heap.size)) (w.alloc (.map #[] 0)):=fun _ _=>rfl
 have hen:=Q1S
 obtain ⟨hpl,hrow,hea⟩:=hd
 have HRM:=Hid.mk hr
 have M0:Hid (Qy w a ((u.heap.size,Q1g ((ds.take 0).foldl QU (s,[])).2) :: Fr) bs ((ds.take 0).foldl QU (s,[])).1 (u.alloc (.map #[] 0))):=(h.alloc (.map #[] 0)).gives
 have hcell:∀ (v:World),Qa [] w v→∀ i (hi:i < ds.length) (hi':i < ps.length),∃ g cap,dsl = .slice (some ⟨g,0,none⟩) ds.length cap∧ds.length≤cap∧v.cell? ⟨g,i,none⟩=some (.iface (defT ds[i]) (.pointer (some ⟨ps[i],0,none⟩))):=by
  intro v hv i hi hi'
  rcases hrow with ⟨_,h0,_⟩ | ⟨g,cap,cur,e,⟨h1,_⟩,hg,htake⟩
  ·omega
  ·exact ⟨g,cap,e,h1,Qn ((hv.block _ (Qc (hw _ hg)) (by simp)).trans (hw _ hg)) htake (by unfold Q1E;rw [List.getElem?_map,List.getElem?_eq_getElem (by simp;omega)];simp)⟩
 obtain ⟨dad,dcap,rfl⟩:∃ ad cap,dsl = .slice ad ds.length cap:=by
  rcases hrow with ⟨e,h0,_⟩ | ⟨g,cap,cur,e,_⟩
  ·exact ⟨none,0,by rw [e,h0]⟩
  ·exact ⟨_,_,e⟩
 have HCL:=Hid.mk hcell
 have HEA:=Hid.mk hea
 have HW:=Hid.mk hw
 clear hcell hrow hea hw h hr
 go_enter Tryz.func54,Tryz.ntmps54
 go_wp2
 go_loopw [14] (fun i ur=>∃ k:Nat,i = .int .i64 k∧k≤ds.length∧Hid (Qy w a ((u.heap.size,Q1g ((ds.take k).foldl QU (s,[])).2) :: Fr) bs ((ds.take k).foldl QU (s,[])).1 ur)) (fun i _=>ds.length - (intOf i).toNat)
 case atStart=>exact ⟨0,rfl,by omega,M0⟩
 case round=>
  obtain ⟨k,rfl,hk,G⟩:=hrel
  clear M0
  rcases Nat.lt_or_ge k ds.length with hlt | hge
  ·have hlt':k < ps.length:=by omega
   have hrm:Room ((ds.take k).foldl QU (s,[])).1 100:=Room.starts (ds.take k) (p:=(s,[])) (HRM.out.less (by simp;omega))
   have hnd:(((ds.take k).foldl QU (s,[])).2.map (·.1)).Nodup:=Q7D _ (by simp)
   have hst:(ds.take (k + 1)).foldl QU (s,[])=QU ((ds.take k).foldl QU (s,[])) ds[k]:=by rw [List.take_succ_eq_append_getElem hlt,List.foldl_append];rfl
   have HST:=Hid.mk hst
   obtain ⟨bs1,sl1,ks1,cv1,et1,hb1,M1⟩:=G.out
   clear hst G
   generalize hp:(ds.take k).foldl QU (s,[])=p at *
   obtain ⟨g,cap,hds,hcap,q0⟩:=HCL.out _ M1.own.kp k hlt hlt'
   cases hds
   have htr:=Q2O (HEA.out k hlt hlt') (M1.gives.held bs0 HW.out)
   have hk0:(0:Int)≤↑k:=by omega
   have hk1:(↑k:Int) < ↑ds.length:=by omega
   have M1:=Hid.mk M1
   have HB1:=Hid.mk hb1
   clear hb1
   go_wp2_with fail
   refine (Q2M _ _ _).mono ?_
   rintro e w6 ⟨rfl,hb6⟩
   have M5:=M1.out.below hb6
   obtain ⟨c0,c1,c2,c3,hfz,hlt9⟩:=M5.cells
   have hCn:a.C≠w6.heap.size:=by omega
   have M6:=(M5.alloc (.cells #[.string ⟨(Qw ds[k]).1.toArray⟩,.int .i64 (Qw ds[k]).2] 116)).below ((Below.refl _ _).drew)
   have hlk:=M6.lookBody (Qw ds[k]).1 true
   clear M1 hb6 htr M5
   cases hb:look p.1.bodies (Qw ds[k]).1 with
   | none=>
    rw [hb] at hlk
    simp only [if_true] at hlk
    have hN:Hid (Qy w a ((u.heap.size,Q1g ((ds.take (k + 1)).foldl QU (s,[])).2) :: Fr) bs ((ds.take (k + 1)).foldl QU (s,[])).1 (w6.alloc (.cells #[.string ⟨(Qw ds[k]).1.toArray⟩,.int .i64 (Qw ds[k]).2] 116)).drew):=by
     rw [HST.out]
     unfold QU
     rw [hb]
     simp only [Option.isSome_none,Bool.false_eq_true,if_false]
     exact Qy.more HB1.out M6.tail.gives
    clear M6 hb
    go_wp2_with fail
    go_region
    go_wp2
    exact ⟨⟨k + 1,by go_num,by omega,hN⟩,by simp [intOf];omega⟩
   | some pl=>
    rw [hb] at hlk
    simp only [if_true] at hlk
    have VS:=Hid.mk (Q6R (t:=.named (Qw ds[k]).1 (Qw ds[k]).2) trivial (M6.below ((Below.refl _ _).drew)) (hrm.less (by omega)))
    have HBS:Hid (QU p ds[k]=(Q7A (Qw ds[k]).1 p.1,mput p.2 (Qw ds[k]).1 p.1.code.length)):=by
     show _=_
     unfold QU
     rw [hb]
     rfl
    clear M6 hb
    go_wp2_with fail
    go_region
    go_wp2_with fail
    refine QH (fun w'=>w'.cell? ⟨w6.heap.size,0,none⟩=some (.string ⟨(Qw ds[k]).1.toArray⟩)∧w'.cell? ⟨w6.heap.size,1,none⟩=some (.int .i64 (Qw ds[k]).2)) (L:=8) (by kernel_rfl) rfl (by kernel_rfl) (by kernel_rfl) ?_ (fun hHeld=>?_)
    ·exact ⟨(Q80 (w:=((w6.alloc _).drew).drew) (Qi (w:=w6) rfl)).1,(Q80 (w:=((w6.alloc _).drew).drew) (Qi (w:=w6) rfl)).2.1⟩
    refine tk (i:=0) (v:=?_) rfl (by kernel_rfl) (fun _ _ _ h=>h) (by rfl) (by assumption) ?_ ?_
    rotate_left
    ·intro w hSw;(try dsimp only at hSw);go_simp;(try with_reducible rfl)
    (try simp only [Qd,Qe,List.set])
    refine tk (i:=1) (v:=?_) rfl (by kernel_rfl) (fun _ _ _ h=>h) (by rfl) (by assumption) ?_ ?_
    rotate_left
    ·intro w hSw;(try dsimp only at hSw);go_simp;(try with_reducible rfl)
    (try simp only [Qd,Qe,List.set])
    refine tk (i:=2) (v:=?_) rfl (by kernel_rfl) (fun _ _ _ h=>h) (by rfl) (by assumption) ?_ ?_
    rotate_left
    ·intro w hSw;(try dsimp only at hSw);go_simp;(try with_reducible rfl)
    (try simp only [Qd,Qe,List.set])
    refine tk (i:=3) (v:=?_) rfl (by kernel_rfl) (fun _ _ _ h=>h) (by rfl) (by assumption) ?_ ?_
    rotate_left
    ·intro w hSw;(try dsimp only at hSw);go_simp;(try with_reducible rfl)
    (try simp only [Qd,Qe,List.set])
    refine tk (i:=4) (v:=?_) rfl (by kernel_rfl) (fun _ _ _ h=>h) (by rfl) (by assumption) ?_ ?_
    rotate_left
    ·intro w hSw;(try dsimp only at hSw);go_simp;(try with_reducible rfl)
    (try simp only [Qd,Qe,List.set])
    refine tk (i:=5) (v:=?_) rfl (by kernel_rfl) (fun _ _ _ h=>h) (by rfl) (by assumption) ?_ ?_
    rotate_left
    ·intro w hSw;(try dsimp only at hSw);go_simp;(try with_reducible rfl)
    (try simp only [Qd,Qe,List.set])
    refine tk (i:=6) (v:=?_) rfl (by kernel_rfl) (fun _ _ _ h=>h) (by rfl) (by assumption) ?_ ?_
    rotate_left
    ·intro w hSw;(try dsimp only at hSw);go_simp;(try with_reducible rfl)
    (try simp only [Qd,Qe,List.set])
    refine wpAnyH_ready (rs:=[7]) (by kernel_rfl) (by simp) ?_
    refine AllReadyH.cons rfl (fun K hK=>?_) AllReadyH.nil
    (go_simp;go_at_call 101;refine VS.out.mono ?_;rintro e w7 ⟨rfl,bs7,sl7,ks7,cv7,et7,hb7,M7⟩;obtain ⟨x0,x1,_,_⟩:=Q80 (M7.own.hf _ List.mem_cons_self).1;have hmap:=(M7.tail.own.hf _ List.mem_cons_self).1;have pu:=Qf2 hmap hnd (Qw ds[k]).1 p.1.code.length;have M8:=M7.tail.setFr (Q0a _ _ _) (Q1t (Qc hmap) (Q1g (mput p.2 (Qw ds[k]).1 p.1.code.length)));obtain ⟨W,hW⟩:∃ W,W=Q09 w7 u.heap.size (Q1g (mput p.2 (Qw ds[k]).1 p.1.code.length)):=⟨_,rfl⟩;rw [← hW] at pu M8;have M8:=Hid.mk M8;clear M7 hmap hW)
    refine hK.out _ _ ?_ (fun hHeld=>?_)
    ·go_keep
    clear hK K
    (try simp only [Qd,Qe,List.set])
    refine wpAnyH_done (by kernel_rfl) ?_ _
    refine Q02 rfl (fun K hK=>?_)
    go_simp
    refine hK.out _ _ ?_
    clear hK K
    (try simp only [Qd,Qe,List.set])
    have hN:Hid (Qy w a ((u.heap.size,Q1g ((ds.take (k + 1)).foldl QU (s,[])).2) :: Fr) bs ((ds.take (k + 1)).foldl QU (s,[])).1 W):=by
     rw [HST.out,HBS.out]
     exact ⟨bs7,_,_,_,_,fun p hp=>hb7 p (HB1.out p hp),M8.out⟩
    clear M8 VS
    go_wp2
    exact ⟨⟨k + 1,by go_num,by omega,hN⟩,by simp [intOf];omega⟩
  ·have hkk:k=ds.length:=by omega
   subst hkk
   have G:=G.out
   rw [List.take_length] at G
   obtain ⟨bs1,sl1,ks1,cv1,et1,hb1,M1⟩:=G
   have M1:=Hid.mk M1
   go_wp2
   go_ret
   exact ⟨u.heap.size,_,rfl,fun p hp=>List.mem_cons_of_mem _ (hb1 p hp),List.mem_cons_self,M1.out.give.gives⟩
theorem Room.progs:∀ (l:List DefL) {q:CSt×List (Int×PrgL)} {n:Nat},(∀ d∈l,Q2F d)→Room q.1 (n + 256 * l.length)→Room (l.foldl Q0g q).1 n:=by
 intro l
 induction l with
 | nil=>intro q n _ h;exact h
 | cons d l ih=>
  intro q n hp h
  refine ih (fun x hx=>hp x (List.mem_cons_of_mem _ hx)) ?_
  have hd:=hp d (by simp)
  cases d with
  | prog t a vs num=>exact Room.vers vs (q:=(q.1,_)) hd.2.2 (h.less (by have:=hd.2.1;simp only [List.length_cons];omega))
  | _=>exact h.less (by simp only [List.length_cons];omega)
theorem Q4S.more {bs bs':List (Nat×Obj)} (hb:∀ p∈bs,p∈bs') {q:PrgB} (h:Q4S bs q):Q4S bs' q:=⟨hb _ h.1,fun p hp=>hb _ (h.2 p hp)⟩
theorem Qf3 (l:List (Int×PrgB)) (k:Int) (q:PrgB):Q9p (mput l k q)=mput (Q9p l) k (Qb5 q):=Q8B Qb5 l k q
theorem Qdo {d:DefL} (h:∀ t a vs n,d≠.prog t a vs n) (b:Nat) (W:World):(Instr.typeAssert (.iface (defT d) (.pointer (some ⟨b,0,none⟩))) 113 186 true).run Tryz.prog W = .ok (.tuple #[.pointer none,.bool false]) W:=by
 cases d with
 | prog t a vs n=>exact absurd rfl (h t a vs n)
 | _=>kernel_rfl
theorem QaT {d:DefL} (h:∀ t a vs n,d≠.prog t a vs n) (q:CSt×List (Int×PrgL)):Q0g q d=q:=by
 cases d with
 | prog t a vs n=>exact absurd rfl (h t a vs n)
 | _=>rfl
structure Qb6 (w:World) (a:CAd) (Fr bs:List (Nat×Obj)) (B:Nat) (Q:CSt×List (Int×PrgL)) (lp:List (Int×PrgB)) (bk:List (Nat×Obj)) (sl ks:Value) (cv:List (Qo×Value)) (et:List (List UInt8×NumL×Value)) (ur:World):Prop where
 sub:∀ p∈bs,p∈bk
 pin:∀ p∈lp,Q4S bk p.2
 bare:Q9p lp=Q.2
 nd:(lp.map (·.1)).Nodup
 cp:Cp w a ((B,Q40 lp) :: Fr) bk Q.1 sl ks cv et ur
def Qi0 (w:World) (a:CAd) (Fr bs:List (Nat×Obj)) (ds:List DefL) (s:CSt) (e:Ending) (u':World):Prop:=∃ P lp bs',e = .returned (.map (some P))∧(∀ p∈bs,p∈bs')∧(P,Q40 lp)∈bs'∧(∀ p∈lp,Q4S bs' p.2)∧Q9p lp=(ds.foldl Q0g (s,[])).2∧(lp.map (·.1)).Nodup∧Qy w a Fr bs' (ds.foldl Q0g (s,[])).1 u'
set_option maxHeartbeats 8000000 in
theorem Qf4 {w u:World} {a:CAd} {Fr bs:List (Nat×Obj)} {s:CSt} {sl ks:Value} {cv:List (Qo×Value)} {et:List (List UInt8×NumL×Value)} {bs0:List (Nat×Obj)} {dsl:Value} {ds:List DefL} {ps:List Nat} (hd:Q23 bs0 dsl ds ps) (hw:∀ p∈bs0,w.heap[p.1]? = some p.2) (hn:ds.length≤100) (hgd:∀ d∈ds,Q2F d) (h:Cp w a Fr bs s sl ks cv et u) (hr:Room s 27000) :
  Calls Tryz.prog 55 #[.pointer (some ⟨a.C,0,none⟩),dsl] u (Qi0 w a Fr bs ds s):=by
 have hmm:∀ (t:TypeId) (w:World),(Instr.makeMap t none).run Tryz.prog w = .ok (.map (some w.heap.size)) (w.alloc (.map #[] 0)):=fun _ _=>rfl
 have hcv:=Q8H
 obtain ⟨hpl,hrow,hea⟩:=hd
 have HRM:=Hid.mk hr
 have HGD:=Hid.mk hgd
 have M0:Hid (Qb6 w a Fr bs u.heap.size ((ds.take 0).foldl Q0g (s,[])) [] bs sl ks cv et (u.alloc (.map #[] 0))):=⟨fun _ hp=>hp,(by intro p hp;cases hp),rfl,by simp,h.alloc (.map #[] 0)⟩
 have hcell:∀ (v:World),Qa [] w v→∀ i (hi:i < ds.length) (hi':i < ps.length),∃ g cap,dsl = .slice (some ⟨g,0,none⟩) ds.length cap∧ds.length≤cap∧v.cell? ⟨g,i,none⟩=some (.iface (defT ds[i]) (.pointer (some ⟨ps[i],0,none⟩))):=by
  intro v hv i hi hi'
  rcases hrow with ⟨_,h0,_⟩ | ⟨g,cap,cur,e,⟨h1,_⟩,hg,htake⟩
  ·omega
  ·exact ⟨g,cap,e,h1,Qn ((hv.block _ (Qc (hw _ hg)) (by simp)).trans (hw _ hg)) htake (by unfold Q1E;rw [List.getElem?_map,List.getElem?_eq_getElem (by simp;omega)];simp)⟩
 obtain ⟨dad,dcap,rfl⟩:∃ ad cap,dsl = .slice ad ds.length cap:=by
  rcases hrow with ⟨e,h0,_⟩ | ⟨g,cap,cur,e,_⟩
  ·exact ⟨none,0,by rw [e,h0]⟩
  ·exact ⟨_,_,e⟩
 have HCL:=Hid.mk hcell
 have HEA:=Hid.mk hea
 have HW:=Hid.mk hw
 clear hcell hrow hea hw h hr hgd
 go_enter Tryz.func55,Tryz.ntmps55
 go_wp2
 go_loopw [12] (fun i ur=>∃ (k:Nat) (lp:List (Int×PrgB)) (bk:List (Nat×Obj)) (sl ks:Value) (cv:List (Qo×Value)) (et:List (List UInt8×NumL×Value)),i = .int .i64 k∧k≤ds.length∧Hid (Qb6 w a Fr bs u.heap.size ((ds.take k).foldl Q0g (s,[])) lp bk sl ks cv et ur)) (fun i _=>ds.length - (intOf i).toNat)
 case atStart=>exact ⟨0,_,_,_,_,_,_,rfl,by omega,M0⟩
 case round=>
  obtain ⟨k,lp,bk,sl1,ks1,cv1,et1,rfl,hk,G⟩:=hrel
  clear M0
  rcases Nat.lt_or_ge k ds.length with hlt | hge
  ·have hlt':k < ps.length:=by omega
   have hrm:Room ((ds.take k).foldl Q0g (s,[])).1 400:=Room.progs (ds.take k) (fun d hd=>HGD.out d (List.mem_of_mem_take hd)) (HRM.out.less (by simp;omega))
   have HST:Hid ((ds.take (k + 1)).foldl Q0g (s,[])=Q0g ((ds.take k).foldl Q0g (s,[])) ds[k]):=by show _=_;rw [List.take_succ_eq_append_getElem hlt,List.foldl_append];rfl
   generalize hp:(ds.take k).foldl Q0g (s,[])=q at *
   obtain ⟨g,cap,hds,hcap,q0⟩:=HCL.out _ G.out.cp.own.kp k hlt hlt'
   cases hds
   have hk0:(0:Int)≤↑k:=by omega
   have hk1:(↑k:Int) < ↑ds.length:=by omega
   by_cases hpr:∃ t a vs n,ds[k] = .prog t a vs n
   ·obtain ⟨t,pa,vs,num,hdk⟩:=hpr
    have hdi:=HEA.out k hlt hlt'
    have hgk:=HGD.out ds[k] (List.getElem_mem hlt)
    rw [hdk] at hdi hgk q0
    have hta:∀ W,(Instr.typeAssert (.iface 186 (.pointer (some ⟨ps[k],0,none⟩))) 113 186 true).run Tryz.prog W = .ok (.tuple #[.pointer (some ⟨ps[k],0,none⟩),.bool true]) W:=fun W=>by kernel_rfl
    replace q0:wr.cell? ⟨g,k,none⟩=some (.iface 186 (.pointer (some ⟨ps[k],0,none⟩))):=q0
    have hbx:∀ (v:World),Qa [] w v→v.cell? ⟨ps[k],3,none⟩=some (.int .i64 num):=by
     intro v hv
     obtain ⟨vsl,cs,hb,_⟩:=hdi
     exact (Q81 ((hv.block _ (Qc (HW.out _ hb)) (by simp)).trans (HW.out _ hb))).2.2.2
    have f3:=hbx _ G.out.cp.own.kp
    have HBX:=Hid.mk hbx
    have VA:=Hid.mk (Qgn hdi HW.out hgk (G.out.cp.below ((Below.refl _ _).drew)) hrm)
    clear hdi hgk hbx hrm
    go_wp2_with fail
    refine QH (fun w'=>w'.cell? ⟨ps[k],3,none⟩=some (.int .i64 num)) (L:=9) (by kernel_rfl) rfl (by kernel_rfl) (by kernel_rfl) ?_ (fun hHeld=>?_)
    ·go_keep
    refine tk (i:=0) (v:=?_) rfl (by kernel_rfl) (fun _ _ _ h=>h) (by rfl) (by assumption) ?_ ?_
    rotate_left
    ·intro w hSw;(try dsimp only at hSw);go_simp;(try with_reducible rfl)
    (try simp only [Qd,Qe,List.set])
    refine tk (i:=1) (v:=?_) rfl (by kernel_rfl) (fun _ _ _ h=>h) (by rfl) (by assumption) ?_ ?_
    rotate_left
    ·intro w hSw;(try dsimp only at hSw);go_simp;(try with_reducible rfl)
    (try simp only [Qd,Qe,List.set])
    refine tk (i:=2) (v:=?_) rfl (by kernel_rfl) (fun _ _ _ h=>h) (by rfl) (by assumption) ?_ ?_
    rotate_left
    ·intro w hSw;(try dsimp only at hSw);go_simp;(try with_reducible rfl)
    (try simp only [Qd,Qe,List.set])
    refine tk (i:=3) (v:=?_) rfl (by kernel_rfl) (fun _ _ _ h=>h) (by rfl) (by assumption) ?_ ?_
    rotate_left
    ·intro w hSw;(try dsimp only at hSw);go_simp;(try with_reducible rfl)
    (try simp only [Qd,Qe,List.set])
    refine tk (i:=4) (v:=?_) rfl (by kernel_rfl) (fun _ _ _ h=>h) (by rfl) (by assumption) ?_ ?_
    rotate_left
    ·intro w hSw;(try dsimp only at hSw);go_simp;(try with_reducible rfl)
    (try simp only [Qd,Qe,List.set])
    refine tk (i:=5) (v:=?_) rfl (by kernel_rfl) (fun _ _ _ h=>h) (by rfl) (by assumption) ?_ ?_
    rotate_left
    ·intro w hSw;(try dsimp only at hSw);go_simp;(try with_reducible rfl)
    (try simp only [Qd,Qe,List.set])
    refine tk (i:=6) (v:=?_) rfl (by kernel_rfl) (fun _ _ _ h=>h) (by rfl) (by assumption) ?_ ?_
    rotate_left
    ·intro w hSw;(try dsimp only at hSw);go_simp;(try with_reducible rfl)
    (try simp only [Qd,Qe,List.set])
    refine tk (i:=7) (v:=?_) rfl (by kernel_rfl) (fun _ _ _ h=>h) (by rfl) (by assumption) ?_ ?_
    rotate_left
    ·intro w hSw;(try dsimp only at hSw);go_simp;(try with_reducible rfl)
    (try simp only [Qd,Qe,List.set])
    refine wpAnyH_ready (rs:=[8]) (by kernel_rfl) (by simp) ?_
    refine AllReadyH.cons rfl (fun K hK=>?_) AllReadyH.nil
    (go_simp;go_at_call 102;refine VA.out.mono ?_;rintro e w7 ⟨pg,bs7,rfl,hb7,hin,hbare,sb8,sl7,ks7,cv7,et7,hb8,M7⟩;have f7:=HBX.out _ M7.own.kp;have hmap:=(M7.own.hf _ List.mem_cons_self).1;have pu:=Qgl hmap G.out.nd (u32 num) pg;have M8:=M7.setFr (Q0a _ _ _) (Q1t (Qc hmap) (Q40 (mput lp (u32 num) pg)));obtain ⟨W,hW⟩:∃ W,W=Q09 w7 u.heap.size (Q40 (mput lp (u32 num) pg)):=⟨_,rfl⟩;rw [← hW] at pu M8;have M8:=Hid.mk M8;clear M7 hmap hW)
    refine hK.out _ _ ?_ (fun hHeld=>?_)
    ·go_keep
    clear hK K
    (try simp only [Qd,Qe,List.set])
    refine wpAnyH_done (by kernel_rfl) ?_ _
    refine Q02 rfl (fun K hK=>?_)
    go_simp
    refine hK.out _ _ ?_
    clear hK K
    (try simp only [Qd,Qe,List.set])
    have hN:Hid (Qb6 w a Fr bs u.heap.size ((ds.take (k + 1)).foldl Q0g (s,[])) (mput lp (u32 num) pg) sb8 sl7 ks7 cv7 et7 W):=by
     rw [HST.out,hdk]
     refine ⟨fun p hp=>hb8 p (hb7 p (G.out.sub p hp)),?_,?_,Q31 G.out.nd _ _,M8.out⟩
     ·intro p hp
      rcases Q8C hp with hp | rfl
      ·exact (G.out.pin p hp).more fun x hx=>hb8 x (hb7 x hx)
      ·exact hin.more hb8
     ·rw [Qf3,G.out.bare,hbare]
      rfl
    clear M8 VA
    go_wp2
    exact ⟨⟨k + 1,_,_,_,_,_,_,by go_num,by omega,hN⟩,by simp [intOf];omega⟩
   ·have hnp:∀ t a vs n,ds[k]≠.prog t a vs n:=fun t a vs n e=>hpr ⟨t,a,vs,n,e⟩
    have hta:=Qdo hnp ps[k]
    have hN:Hid (Qb6 w a Fr bs u.heap.size ((ds.take (k + 1)).foldl Q0g (s,[])) lp bk sl1 ks1 cv1 et1 wr):=by
     rw [HST.out,QaT hnp]
     exact G.out
    go_wp2
    exact ⟨⟨k + 1,_,_,_,_,_,_,by go_num,by omega,hN⟩,by simp [intOf];omega⟩
  ·have hkk:k=ds.length:=by omega
   subst hkk
   have G:=G.out
   rw [List.take_length] at G
   have G:=Hid.mk G
   go_wp2
   go_ret
   exact ⟨u.heap.size,lp,_,rfl,fun p hp=>List.mem_cons_of_mem _ (G.out.sub p hp),List.mem_cons_self,fun p hp=>(G.out.pin p hp).more fun x hx=>List.mem_cons_of_mem _ hx,G.out.bare,G.out.nd,G.out.cp.give.gives⟩
structure Q7G (bs:List (Nat×Obj)) (v:Value) (S P:Nat) (ds:List DefL):Prop where
 code:Q5S bs v (Q9h ds).1
 types:(S,Q1g (Q9h ds).2)∈bs
 nd:((Q9h ds).2.map (·.1)).Nodup
 progs:∃ lp,(P,Q40 lp)∈bs∧(∀ p∈lp,Q4S bs p.2)∧Q9p lp=(QdQ ds).2∧(lp.map (·.1)).Nodup
def Qi1 (u:World) (ds:List DefL) (e:Ending) (u':World):Prop:=∃ v S P bs,e = .returned (.agg #[v,.map (some S),.map (some P)])∧Qa [] u u'∧Q7G bs v S P ds∧∀ p∈bs,u'.heap[p.1]? = some p.2
theorem Qhl {ds:List DefL}:∀ k∈(ds.foldl Q0g ((ds.foldl QU (Q0p ds,[])).1,[])).1.calls,k.1 < (ds.foldl Q0g ((ds.foldl QU (Q0p ds,[])).1,[])).1.code.length:=by
 obtain ⟨c1,_⟩:=Qh7 (fun _=>0) ds.length ds rfl
 obtain ⟨s1,_⟩:=QeS (fun _=>0) (Q0p ds) c1 ds.length ds rfl
 exact (Qg9 (fun _=>0) ds _ s1).1.wf.lt
set_option maxHeartbeats 8000000 in
theorem Qio {u:World} {bs0:List (Nat×Obj)} {dsl:Value} {ds:List DefL} {ps:List Nat} (hd:Q23 bs0 dsl ds ps) (hw:∀ p∈bs0,u.heap[p.1]? = some p.2) (hty:Q9i ds) (hgd:∀ d∈ds,Q2F d) (hn:ds.length≤100) :
  Calls Tryz.prog 29 #[dsl] u (Qi1 u ds):=by
 have hmm:∀ (t:TypeId) (w:World),(Instr.makeMap t none).run Tryz.prog w = .ok (.map (some w.heap.size)) (w.alloc (.map #[] 0)):=fun _ _=>rfl
 have HD:=Hid.mk hd
 have HGD:=Hid.mk hgd
 obtain ⟨hpl,hrow,hea⟩:=hd
 have hfew:∀ d∈ds,Q9n d:=by
  intro d hd
  obtain ⟨i,hi,rfl⟩:=List.getElem_of_mem hd
  exact Qgh (hea i hi (by omega))
 have R0:Hid (Room st0C (28000 + 5000 + 300 + 4100 * ds.length)):=⟨by simp [st0C];omega,by simp [st0C]⟩
 have HFEW:=Hid.mk hfew
 have HTY:=Hid.mk hty
 have M0:=Hid.mk (Qhi u).gives
 have hcell:∀ (v:World),Qa [] u v→∀ i (hi:i < ds.length) (hi':i < ps.length),∃ g cap,dsl = .slice (some ⟨g,0,none⟩) ds.length cap∧ds.length≤cap∧v.cell? ⟨g,i,none⟩=some (.iface (defT ds[i]) (.pointer (some ⟨ps[i],0,none⟩))):=by
  intro v hv i hi hi'
  rcases hrow with ⟨_,h0,_⟩ | ⟨g,cap,cur,e,⟨h1,_⟩,hg,htake⟩
  ·omega
  ·exact ⟨g,cap,e,h1,Qn ((hv.block _ (Qc (hw _ hg)) (by simp)).trans (hw _ hg)) htake (by unfold Q1E;rw [List.getElem?_map,List.getElem?_eq_getElem (by simp;omega)];simp)⟩
 obtain ⟨dad,dcap,rfl⟩:∃ ad cap,dsl = .slice ad ds.length cap:=by
  rcases hrow with ⟨e,h0,_⟩ | ⟨g,cap,cur,e,_⟩
  ·exact ⟨none,0,by rw [e,h0]⟩
  ·exact ⟨_,_,e⟩
 have HCL:=Hid.mk hcell
 have HEA:=Hid.mk hea
 have HW:=Hid.mk hw
 clear hcell hrow hea hw hfew hty hgd
 go_enter Tryz.func29,Tryz.ntmps29
 go_wp2
 go_loopw [14] (fun i ur=>∃ k:Nat,i = .int .i64 k∧k≤ds.length∧Hid (Qy u ⟨u.heap.size + 3,u.heap.size + 1,u.heap.size + 2⟩ [(u.heap.size,Q4F (.slice none 0 0) none none)] [] (Q0p (ds.take k)) ur)) (fun i _=>ds.length - (intOf i).toNat)
 case atStart=>exact ⟨0,rfl,by omega,M0⟩
 case round=>
  obtain ⟨k,rfl,hk,G⟩:=hrel
  clear M0
  rcases Nat.lt_or_ge k ds.length with hlt | hge
  ·have hlt':k < ps.length:=by omega
   have hrm:Room (Q0p (ds.take k)) 5000:=Room.defs (ds.take k) (fun d hd=>HTY.out d (List.mem_of_mem_take hd)) (fun d hd=>HFEW.out d (List.mem_of_mem_take hd)) (R0.out.less (by simp;omega))
   obtain ⟨bs1,sl1,ks1,cv1,et1,hb1,M1⟩:=G.out
   obtain ⟨g,cap,hds,hcap,q0⟩:=HCL.out _ M1.own.kp k hlt hlt'
   cases hds
   have VD:=Hid.mk (Qc7 (HEA.out k hlt hlt') HW.out (HTY.out ds[k] (List.getElem_mem hlt)) M1 hrm)
   have hk0:(0:Int)≤↑k:=by omega
   have hk1:(↑k:Int) < ↑ds.length:=by omega
   have HST:Hid (Q0p (ds.take (k + 1))=QX ds[k] (Q0p (ds.take k))):=by show _=_;rw [List.take_succ_eq_append_getElem hlt,Q4o]
   clear M1 hrm hb1 G
   go_wp2_with fail
   refine VD.out.mono ?_
   rintro e w2 ⟨rfl,M3⟩
   have G3:Hid (Qy u ⟨u.heap.size + 3,u.heap.size + 1,u.heap.size + 2⟩ [(u.heap.size,Q4F (.slice none 0 0) none none)] [] (Q0p (ds.take (k + 1))) w2):=by
    rw [HST.out]
    exact Qy.more (by intro p hp;cases hp) M3
   clear M3 VD
   go_wp2
   exact ⟨⟨k + 1,by go_num,by omega,G3⟩,by simp [intOf];omega⟩
  ·have hkk:k=ds.length:=by omega
   subst hkk
   have G:=G.out
   rw [List.take_length] at G
   have R1:Room (Q0p ds) 33000:=Room.defs ds HTY.out HFEW.out (R0.out.less (by omega))
   obtain ⟨bs1,sl1,ks1,cv1,et1,hb1,M1⟩:=G
   have R2:Hid (Room (ds.foldl QU (Q0p ds,[])).1 32000):=Room.starts ds (p:=(Q0p ds,[])) (R1.less (by omega))
   have R3:Hid (Room (ds.foldl Q0g ((ds.foldl QU (Q0p ds,[])).1,[])).1 100):=Room.progs ds (q:=((ds.foldl QU (Q0p ds,[])).1,[])) HGD.out (R2.out.less (by omega))
   have VS:=Hid.mk (QhZ HD.out HW.out hn M1 (R1.less (by omega)))
   clear M1 R0 R1
   go_wp2_with fail
   refine VS.out.mono ?_
   rintro e w2 ⟨S,bs2,rfl,hs2,hS,bs3,sl3,ks3,cv3,et3,hb3,M3⟩
   have VP:=Hid.mk (Qf4 HD.out HW.out hn HGD.out M3 (R2.out.less (by omega)))
   have HS:=Hid.mk (hb3 _ hS)
   clear M3 VS hS
   go_wp2_with fail
   refine VP.out.mono ?_
   rintro e w4 ⟨P,lp,bs4,rfl,hs4,hP,hpin,hbare,hlpn,bs5,sl5,ks5,cv5,et5,hb5,M5⟩
   have hwf:=Qhl (ds:=ds)
   have hc9:=R3.out.code
   have hc8:=R3.out.calls
   have HLEN:Hid ((Q9h ds).1.length < 1000000):=by
    have:=(Qc8 (ds.foldl Q0g ((ds.foldl QU (Q0p ds,[])).1,[])).1.calls (ds.foldl Q0g ((ds.foldl QU (Q0p ds,[])).1,[])).1).1
    exact Nat.lt_of_le_of_lt (Nat.le_of_eq this) (by omega)
   have VL:=Hid.mk (Qim M5 hwf (by omega) (by omega))
   have HBARE:=Hid.mk hbare
   have HPIN:=Hid.mk hpin
   clear M5 hwf VP hbare hpin
   go_wp2_with fail
   refine VL.out.mono ?_
   rintro e w7 ⟨rfl,cv7,M7⟩
   obtain ⟨sa,sc,rfl⟩:=M7.slice
   obtain ⟨c0,c1,c2,c3,hfz,hlt9⟩:=M7.cells
   have hR:=(M7.own.hf _ List.mem_cons_self).1
   obtain ⟨r0,r1,r2,rfr,rlt⟩:=Q46 hR
   obtain ⟨t0,t1,t2,_,_⟩:=Q46 (Q6S (x:=.slice sa (Q7W (ds.foldl Q0g ((ds.foldl QU (Q0p ds,[])).1,[])).1).code.length sc) (y:=.map (some S)) (z:=.map (some P)) hR)
   have M9:=Hid.mk (M7.setFr (Qae (.slice sa (Q7W (ds.foldl Q0g ((ds.foldl QU (Q0p ds,[])).1,[])).1).code.length sc) (.map (some S)) (.map (some P))) (Q6S hR))
   clear VL M7 hR
   go_wp2
   refine bodyPost_ret (v:=.agg #[.slice sa (Q7W (ds.foldl Q0g ((ds.foldl QU (Q0p ds,[])).1,[])).1).code.length sc,.map (some S),.map (some P)]) (by simp [results,Tryz.results29,go_sem,t0,t1,t2]) rfl ?_
   obtain ⟨bs',h1,h2,h3⟩:=M9.out.codeIn HLEN.out
   exact ⟨_,S,P,bs',rfl,M9.out.own.kp,⟨h1,h2 _ (hb5 _ (hs4 _ HS.out)),Q7D _ (by simp),lp,h2 _ (hb5 _ hP),fun p hp=>(HPIN.out p hp).more fun x hx=>h2 _ (hb5 _ hx),HBARE.out,hlpn⟩,h3⟩
theorem Qi2 (T:TypeId) (x:Value) (w:World) (h:T=79):(binOp BinOp.neq 20 (.iface T x) .nilIface).run Tryz.prog w = .ok (.bool true) w:=by subst h;kernel_rfl
theorem Qdp (w:World):(binOp BinOp.neq 20 .nilIface .nilIface).run Tryz.prog w = .ok (.bool false) w:=by kernel_rfl
theorem Qf5 (p q:Addr) (w:World) :
  CallsD Tryz.prog 26 #[.pointer (some p),.pointer (some q)] .returning w fun e u' w'=>e = .returned (.tuple #[])∧u' = .returning∧w'=w:=by
 have hn:=Qdp
 refine callsD_of_wpS Tryz.func26 rfl fun c₀ cs hu=>?_
 apply wpS_seq
 apply wpS_region
 simp [wpOpsS,go_sem,recoverD,hu,Tryz.ntmps26,Exit.thenS]
 apply wpS_seq
 apply wpS_region
 simp [wpOpsS,go_sem,Exit.thenS,hn]
 refine wpS_cond (t:=false) (by simp [Act.eval,Array.replicate]) ?_
 simp only [Bool.false_eq_true,if_false]
 refine wpS_of_wp (wp_skip ?_)
 cases c₀
 simp_all [bodyPostS,results,Tryz.results26]
theorem Qc9 (P Q b:Nat) (x y:Value) (older:List PanicEntry) (w:World) (h1:w.cell? ⟨P,0,none⟩=some x) (h2:w.cell? ⟨Q,0,none⟩=some y) (f1:w.frozen? ⟨P,0,none⟩=false) (f2:w.frozen? ⟨Q,0,none⟩=false) (hne:P≠Q) :
  CallsD Tryz.prog 26 #[.pointer (some ⟨P,0,none⟩),.pointer (some ⟨Q,0,none⟩)] (.panicking ({ v:=.iface 79 (.pointer (some ⟨b,0,none⟩)),recovered:=false } :: older)) w fun e u' w'=>
   e = .returned (.tuple #[])∧u' = .panicking ({ v:=.iface 79 (.pointer (some ⟨b,0,none⟩)),recovered:=true } :: older)∧w'=(w.setCell ⟨P,0,none⟩ (.pointer none)).setCell ⟨Q,0,none⟩ (.iface 79 (.pointer (some ⟨b,0,none⟩))):=by
 have hn:=Qi2 79
 refine callsD_of_wpS Tryz.func26 rfl fun c₀ cs hu=>?_
 apply wpS_seq
 apply wpS_region
 simp [wpOpsS,go_sem,recoverD,hu,Tryz.ntmps26,Exit.thenS]
 apply wpS_seq
 apply wpS_region
 simp [wpOpsS,go_sem,Exit.thenS,hn]
 refine wpS_cond (t:=true) (by simp [Act.eval,Array.replicate]) ?_
 simp only [if_true]
 refine wpS_of_wp ?_
 go_wp2_with fail
 refine (QeB b w).mono ?_
 rintro e w2 ⟨rfl,rfl⟩
 go_wp2
 cases c₀
 simp_all [bodyPostS,results,Tryz.results26]
def Q6D (bs:List (Nat×Obj)) (B:Nat) (ds:List DefL):Prop:=∃ dsl ps v S P,(B,Obj.cells #[dsl,v,.map (some S),.map (some P)] 70)∈bs∧Q23 bs dsl ds ps∧Q7G bs v S P ds
def QdU (w:World) (ds:List DefL) (e:Ending) (w':World):Prop:=∃ B bs,e = .returned (.tuple #[.pointer (some ⟨B,0,none⟩),.nilIface])∧Qa [] w w'∧Q6D bs B ds∧(∀ p∈bs,w'.heap[p.1]? = some p.2)∧w.heap.size≤B
theorem Q23.slice {bs:List (Nat×Obj)} {sl:Value} {ds:List DefL} {ps:List Nat} (h:Q23 bs sl ds ps):∃ a b c,sl = .slice a b c:=by
 rcases h.row with ⟨e,_⟩ | ⟨g,cap,cur,e,_⟩<;>exact ⟨_,_,_,e⟩
theorem Q5S.slice {bs:List (Nat×Obj)} {v:Value} {c:List Qo} (h:Q5S bs v c):∃ a b d,v = .slice a b d:=by
 obtain ⟨cv,_,h2,_⟩:=h
 rcases h2 with ⟨e,_⟩ | ⟨g,cap,cur,e,_⟩<;>exact ⟨_,_,_,e⟩
def Q3j:Obj→Bool
 | .cells _ T _=>(T != 22) && (T != 24)
 | _=>true
theorem Q0j.good {bs bs':List (Nat×Obj)} (hb:∀ p∈bs,Q3j p.2=true→p∈bs') {e:TypeId} {v:Value} {n:Nat} {xs:List Value} (he:((e != 22) && (e != 24))=true) (h:Q0j bs e v n xs):Q0j bs' e v n xs:=by
 rcases h with h | ⟨g,cap,cur,h1,h2,h3,h4⟩
 ·exact Or.inl h
 ·exact Or.inr ⟨g,cap,cur,h1,h2,hb _ h3 he,h4⟩
theorem Q0d.good {bs bs':List (Nat×Obj)} (hb:∀ p∈bs,Q3j p.2=true→p∈bs') {b:Nat} {d:DefL} (hd:Q0d bs b d):Q0d bs' b d:=by
 have hc:∀ b m,Q5p bs b m→Q5p bs' b m:=fun b m hm=>hb _ hm rfl
 cases d with
 | const t a v=>exact hc _ _ hd
 | typedef d=>exact hb _ hd rfl
 | enum t a ms=>obtain ⟨sl,ps,h1,h2,h3,h4⟩:=hd;exact ⟨sl,ps,hb _ h1 rfl,h2,h3.good hb rfl,fun i h h'=>hc _ _ (h4 i h h')⟩
 | struct t a ms=>obtain ⟨sl,h1,h2⟩:=hd;exact ⟨sl,hb _ h1 rfl,h2.good hb rfl⟩
 | union t a sel arms=>obtain ⟨sl,cs,h1,h2,h3,h4⟩:=hd;exact ⟨sl,cs,hb _ h1 rfl,h2,h3.good hb rfl,fun i h h'=>(h4 i h h').good hb rfl⟩
 | prog t a vs num=>obtain ⟨sl,cs,h1,h2,h3,h4⟩:=hd;exact ⟨sl,cs,hb _ h1 rfl,h2,h3.good hb rfl,fun i h h'=>(h4 i h h').good hb rfl⟩
theorem Q23.good {bs bs':List (Nat×Obj)} (hb:∀ p∈bs,Q3j p.2=true→p∈bs') {sl:Value} {ds:List DefL} {ps:List Nat} (h:Q23 bs sl ds ps):Q23 bs' sl ds ps:=
 ⟨h.len,h.row.good hb rfl,fun i h1 h2=>(h.each i h1 h2).good hb⟩
theorem Q33.good {bs bs':List (Nat×Obj)} (hb:∀ p∈bs,Q3j p.2=true→p∈bs') {cs:List Value} {n:NumL} (h:Q33 bs cs n):Q33 bs' cs n:=by
 obtain ⟨m,h1,h2,h3⟩:=h
 refine ⟨m,h1,?_,h3⟩
 cases hm:n.mem with
 | none=>rw [hm] at h2;exact h2
 | some l=>rw [hm] at h2;exact ⟨h2.1,h2.2.good hb rfl⟩
theorem Q2y.good {bs bs':List (Nat×Obj)} (hb:∀ p∈bs,Q3j p.2=true→p∈bs') {v:Value} {x:Qo} (h:Q2y bs v x):Q2y bs' v x:=by
 cases x with
 | num n=>obtain ⟨cs,h1,h2⟩:=h;exact ⟨cs,h1,h2.good hb⟩
 | choice n ws o=>
  obtain ⟨cs,m,ov,h1,h2,h3,h4⟩:=h
  refine ⟨cs,m,ov,h1,h2.good hb,hb _ h3 rfl,?_⟩
  cases o with
  | none=>exact h4
  | some q=>obtain ⟨b,h5,h6⟩:=h4;exact ⟨b,h5,hb _ h6 rfl⟩
 | _=>exact h
theorem Q5S.good {bs bs':List (Nat×Obj)} (hb:∀ p∈bs,Q3j p.2=true→p∈bs') {v:Value} {c:List Qo} (h:Q5S bs v c):Q5S bs' v c:=by
 obtain ⟨cv,h1,h2,h3,h4⟩:=h
 refine ⟨cv,h1,?_,fun p hp=>(h3 p hp).good hb,h4⟩
 rcases h2 with h2 | ⟨g,cap,cur,e1,e2,e3,e4⟩
 ·exact Or.inl h2
 ·exact Or.inr ⟨g,cap,cur,e1,e2,hb _ e3 rfl,e4⟩
theorem Q4S.good {bs bs':List (Nat×Obj)} (hb:∀ p∈bs,Q3j p.2=true→p∈bs') {q:PrgB} (h:Q4S bs q):Q4S bs' q:=⟨hb _ h.1 rfl,fun p hp=>hb _ (h.2 p hp) rfl⟩
theorem Q7G.good {bs bs':List (Nat×Obj)} (hb:∀ p∈bs,Q3j p.2=true→p∈bs') {v:Value} {S P:Nat} {ds:List DefL} (h:Q7G bs v S P ds):Q7G bs' v S P ds:=by
 obtain ⟨lp,h1,h2,h3,h4⟩:=h.progs
 exact ⟨h.code.good hb,hb _ h.types rfl,h.nd,lp,hb _ h1 rfl,fun p hp=>(h2 p hp).good hb,h3,h4⟩
theorem Qi3 {text:ByteArray} {ds:List DefL} (ht:Q11 text = .ok ds) (hpg:∀ d∈ds,Q2F d) {w:World} (hg:Gl w):Calls Tryz.prog 11 #[.string text] w (QdU w ds):=by
 have hmf:∀ (fn:Fn) (first cap:Array Value) (w:World),(Instr.makeFunc fn first cap).run Tryz.prog w = .ok (.func fn first cap) w:=fun _ _ _ _=>rfl
 have hb0:Below w.heap.size w ((w.alloc (.cells #[.pointer none] 22)).alloc (.cells #[.nilIface] 24)):=((Below.refl _ _).alloc (Nat.le_refl _) _).alloc (by simp) _
 have VT:=Hid.mk (QbT text (hg.below hb0))
 have HTX:=Hid.mk ht
 have o2:((w.alloc (.cells #[.pointer none] 22)).alloc (.cells #[.nilIface] 24)).heap[w.heap.size]? = some (.cells #[.pointer none] 22):=(Below.heap_alloc _ _ _ (by simp)).trans (Qi rfl)
 have o3:((w.alloc (.cells #[.pointer none] 22)).alloc (.cells #[.nilIface] 24)).heap[w.heap.size + 1]? = some (.cells #[.nilIface] 24):=Qi (by simp)
 clear hg
 go_enter_defers Tryz.func11,Tryz.ntmps11
 go_wp2_with fail
 refine VT.out.mono ?_
 rintro e w1 (⟨ds1,sl1,ps1,bs1,hx,rfl,hk1,hdi,hh1⟩ | ⟨f,hx,_⟩)
 rotate_left
 ·exact absurd (HTX.out.symm.trans hx) (by simp)
 obtain rfl:ds=ds1:=by have:=HTX.out.symm.trans hx;injection this
 obtain ⟨sa,sb,sc,rfl⟩:=hdi.slice
 have VC:=Hid.mk (Qio hdi hh1 (Qdh HTX.out) hpg (by have:=Qgj HTX.out;omega))
 have K1:=Hid.mk hk1
 have HDI:=Hid.mk hdi
 have HH1:=Hid.mk hh1
 clear VT hx hdi hh1 hk1
 go_wp2_with fail
 refine VC.out.mono ?_
 rintro e w2 ⟨v,S,P,bs2,rfl,hk2,hci,hh2⟩
 obtain ⟨va,vb,vc,rfl⟩:=hci.code.slice
 have K2:=Hid.mk (K1.out.trans hk2)
 have HC:=Hid.mk hci
 have HH2:=Hid.mk hh2
 have KK2:=Hid.mk hk2
 have p2:=(K2.out.block _ (Qc o2) (by simp)).trans o2
 have p3:=(K2.out.block _ (Qc o3) (by simp)).trans o3
 have c2:=QD p2
 have c3:=QD p3
 have f2:∀ i,w2.frozen? ⟨w.heap.size,i,none⟩=false:=by intro i;simp [World.frozen?,p2]
 have f3:∀ i,w2.frozen? ⟨w.heap.size + 1,i,none⟩=false:=by intro i;simp [World.frozen?,p3]
 have l3:=Qc p3
 clear hk2 hci hh2 VC
 have hbf:Hid (∀ x y,Qa [] w (((w2.alloc (.cells #[.slice sa sb sc,.slice va vb vc,.map (some S),.map (some P)] 70)).setCell ⟨w.heap.size,0,none⟩ x).setCell ⟨w.heap.size + 1,0,none⟩ y)):=fun x y=>(((Qa.of_below [] hb0).trans K2.out |>.alloc _).setNew (p:=⟨w.heap.size,0,none⟩) (Nat.le_refl _) x).setNew (p:=⟨w.heap.size + 1,0,none⟩) (by simp) y
 clear hb0
 have o2':(w2.alloc (.cells #[.slice sa sb sc,.slice va vb vc,.map (some S),.map (some P)] 70)).heap[w.heap.size]? = some (.cells #[.pointer none] 22):=(Below.heap_alloc _ _ _ (by omega)).trans p2
 have c2':(w2.alloc (.cells #[.slice sa sb sc,.slice va vb vc,.map (some S),.map (some P)] 70)).cell? ⟨w.heap.size,0,none⟩=some (.pointer none):=QD o2'
 have f2':∀ i,(w2.alloc (.cells #[.slice sa sb sc,.slice va vb vc,.map (some S),.map (some P)] 70)).frozen? ⟨w.heap.size,i,none⟩=false:=by intro i;simp [World.frozen?,o2']
 have o3':∀ x,((w2.alloc (.cells #[.slice sa sb sc,.slice va vb vc,.map (some S),.map (some P)] 70)).setCell ⟨w.heap.size,0,none⟩ x).heap[w.heap.size + 1]? = some (.cells #[.nilIface] 24):=fun x=>(Below.heap_setCell _ _ _ _ (by simp)).trans ((Below.heap_alloc _ _ _ l3).trans p3)
 have c3':∀ x,((w2.alloc (.cells #[.slice sa sb sc,.slice va vb vc,.map (some S),.map (some P)] 70)).setCell ⟨w.heap.size,0,none⟩ x).cell? ⟨w.heap.size + 1,0,none⟩=some .nilIface:=fun x=>QD (o3' x)
 have f3':∀ x i,((w2.alloc (.cells #[.slice sa sb sc,.slice va vb vc,.map (some S),.map (some P)] 70)).setCell ⟨w.heap.size,0,none⟩ x).frozen? ⟨w.heap.size + 1,i,none⟩=false:=by intro x i;simp [World.frozen?,o3' x]
 have HF:Hid (Q6D ((w2.heap.size,.cells #[.slice sa sb sc,.slice va vb vc,.map (some S),.map (some P)] 70) :: ((bs1++bs2).filter fun p=>Q3j p.2)) w2.heap.size ds∧∀ x y,∀ p∈((w2.heap.size,.cells #[.slice sa sb sc,.slice va vb vc,.map (some S),.map (some P)] 70) :: ((bs1++bs2).filter fun p=>Q3j p.2):List (Nat×Obj)),(((w2.alloc (.cells #[.slice sa sb sc,.slice va vb vc,.map (some S),.map (some P)] 70)).setCell ⟨w.heap.size,0,none⟩ x).setCell ⟨w.heap.size + 1,0,none⟩ y).heap[p.1]? = some p.2):=by
  have g1:∀ p∈bs1,Q3j p.2=true→p∈((w2.heap.size,.cells #[.slice sa sb sc,.slice va vb vc,.map (some S),.map (some P)] 70) :: ((bs1++bs2).filter fun p=>Q3j p.2):List (Nat×Obj)):=fun p hp hg=>List.mem_cons_of_mem _ (List.mem_filter.2 ⟨List.mem_append_left _ hp,hg⟩)
  have g2:∀ p∈bs2,Q3j p.2=true→p∈((w2.heap.size,.cells #[.slice sa sb sc,.slice va vb vc,.map (some S),.map (some P)] 70) :: ((bs1++bs2).filter fun p=>Q3j p.2):List (Nat×Obj)):=fun p hp hg=>List.mem_cons_of_mem _ (List.mem_filter.2 ⟨List.mem_append_right _ hp,hg⟩)
  refine ⟨⟨_,ps1,_,S,P,List.mem_cons_self,HDI.out.good g1,HC.out.good g2⟩,?_⟩
  intro x y p hp
  rcases List.mem_cons.1 hp with rfl | hp
  ·exact (Below.heap_setCell _ _ _ _ (by simp only;omega)).trans ((Below.heap_setCell _ _ _ _ (by simp only;omega)).trans (Qi rfl))
  ·obtain ⟨hm,hgd⟩:=List.mem_filter.1 hp
   have hw2:w2.heap[p.1]? = some p.2:=by
    rcases List.mem_append.1 hm with hm | hm
    ·exact (KK2.out.block _ (Qc (HH1.out p hm)) (by simp)).trans (HH1.out p hm)
    ·exact HH2.out p hm
   have n2:p.1≠w.heap.size:=by
    intro e
    rw [e,p2] at hw2
    injection hw2 with hw2
    rw [← hw2] at hgd
    exact absurd hgd (by decide)
   have n3:p.1≠w.heap.size + 1:=by
    intro e
    rw [e,p3] at hw2
    injection hw2 with hw2
    rw [← hw2] at hgd
    exact absurd hgd (by decide)
   exact (Below.heap_setCell _ _ _ _ n3).trans ((Below.heap_setCell _ _ _ _ n2).trans ((Below.heap_alloc _ _ _ (Qc hw2)).trans hw2))
 have z2:(((w2.alloc (.cells #[.slice sa sb sc,.slice va vb vc,.map (some S),.map (some P)] 70)).setCell ⟨w.heap.size,0,none⟩ (.pointer (some ⟨w2.heap.size,0,none⟩))).setCell ⟨w.heap.size + 1,0,none⟩ .nilIface).cell? ⟨w.heap.size,0,none⟩=some (.pointer (some ⟨w2.heap.size,0,none⟩)):=
  QD ((Below.heap_setCell _ _ _ _ (by simp)).trans (QB (i:=0) o2' _))
 have z3:(((w2.alloc (.cells #[.slice sa sb sc,.slice va vb vc,.map (some S),.map (some P)] 70)).setCell ⟨w.heap.size,0,none⟩ (.pointer (some ⟨w2.heap.size,0,none⟩))).setCell ⟨w.heap.size + 1,0,none⟩ .nilIface).cell? ⟨w.heap.size + 1,0,none⟩=some .nilIface:=QD (QB (i:=0) (o3' _) _)
 have hle:w.heap.size≤w2.heap.size:=by omega
 go_wp2
 refine leaves_cons (f:=26) (args:=#[.pointer (some ⟨w.heap.size,0,none⟩),.pointer (some ⟨w.heap.size + 1,0,none⟩)]) (by simp) (by simp [go_sem]) ?_
 refine (Qf5 _ _ _).mono ?_
 rintro e u' w'' ⟨rfl,rfl,rfl⟩
 simp only [Leaves,settle]
 refine ⟨.tuple #[.pointer (some ⟨w2.heap.size,0,none⟩),.nilIface],by simp [results,Tryz.results11,go_sem,z2,z3],?_⟩
 exact ⟨w2.heap.size,_,rfl,hbf.out _ _,HF.out.1,HF.out.2 _ _,hle⟩
theorem Qf6 {text:ByteArray} {f:Mar.Fault} (ht:Q11 text = .error f) {w:World} (hg:Gl w):Calls Tryz.prog 11 #[.string text] w fun e w'=>Qa [] w w'∧∃ g,e = .returned (.tuple #[.pointer none,.iface 79 (.pointer (some ⟨g,0,none⟩))]):=by
 have hmf:∀ (fn:Fn) (first cap:Array Value) (w:World),(Instr.makeFunc fn first cap).run Tryz.prog w = .ok (.func fn first cap) w:=fun _ _ _ _=>rfl
 have hb0:Below w.heap.size w ((w.alloc (.cells #[.pointer none] 22)).alloc (.cells #[.nilIface] 24)):=((Below.refl _ _).alloc (Nat.le_refl _) _).alloc (by simp) _
 have VT:=Hid.mk (QbT text (hg.below hb0))
 have HTX:=Hid.mk ht
 have o2:((w.alloc (.cells #[.pointer none] 22)).alloc (.cells #[.nilIface] 24)).heap[w.heap.size]? = some (.cells #[.pointer none] 22):=(Below.heap_alloc _ _ _ (by simp)).trans (Qi rfl)
 have o3:((w.alloc (.cells #[.pointer none] 22)).alloc (.cells #[.nilIface] 24)).heap[w.heap.size + 1]? = some (.cells #[.nilIface] 24):=Qi (by simp)
 have HB0:=Hid.mk hb0
 clear hg hb0 ht
 go_enter_defers Tryz.func11,Tryz.ntmps11
 go_wp2_with fail
 refine VT.out.mono ?_
 rintro e w1 (⟨ds1,sl1,ps1,bs1,hx,_⟩ | ⟨f1,hx,hkE,b,hbb,rfl,hcell⟩)
 ·exact absurd (HTX.out.symm.trans hx) (by simp)
 have p2:=(hkE.block _ (Qc o2) (by simp)).trans o2
 have p3:=(hkE.block _ (Qc o3) (by simp)).trans o3
 have f2:w1.frozen? ⟨w.heap.size,0,none⟩=false:=by simp [World.frozen?,p2]
 have f3:w1.frozen? ⟨w.heap.size + 1,0,none⟩=false:=by simp [World.frozen?,p3]
 have hk:=(Qa.of_below [] HB0.out).trans hkE
 refine leaves_cons (f:=26) (args:=#[.pointer (some ⟨w.heap.size,0,none⟩),.pointer (some ⟨w.heap.size + 1,0,none⟩)]) (by simp) (by simp [go_sem]) ?_
 refine (Qc9 _ _ b _ _ [] w1 (QD p2) (QD p3) f2 f3 (by simp)).mono ?_
 rintro e u' w'' ⟨rfl,rfl,rfl⟩
 have r1:=QB (i:=0) p2 (.pointer none)
 have r2:(w1.setCell ⟨w.heap.size,0,none⟩ (.pointer none)).heap[w.heap.size + 1]? = _:=(Below.heap_setCell _ _ _ _ (by simp)).trans p3
 have z1:=QD ((Below.heap_setCell _ ⟨w.heap.size + 1,0,none⟩ (.iface 79 (.pointer (some ⟨b,0,none⟩))) _ (by simp)).trans r1)
 have z2:=QD (QB (i:=0) r2 (.iface 79 (.pointer (some ⟨b,0,none⟩))))
 simp only [Leaves,settle,List.dropWhile_nil]
 refine ⟨.tuple #[.pointer none,.iface 79 (.pointer (some ⟨b,0,none⟩))],by simp [results,Tryz.results11,go_sem,z1,z2],?_⟩
 exact ⟨(hk.setNew (p:=⟨w.heap.size,0,none⟩) (by simp) _).setNew (p:=⟨w.heap.size + 1,0,none⟩) (by simp) _,b,rfl⟩
end Go.Proofs.YtmbcibgknckenaaGreatDoor
namespace Go.Proofs.YtmbcibgknckenaaGreatDoor
open Go.RowKit
open Go.Sort Go.Lib
open Mar (joinW)
theorem Qca (d : DefL) (b k : Nat) (w : World) : (method (k + 1) (defT d) (.pointer (some ⟨b, 0, none⟩)) "marshal/tree.words").run Tryz.prog w = .ok (Q9g d, .pointer (some ⟨b, 0, none⟩)) w := by cases d <;> kernel_rfl
theorem QaU (d:DefL) (args:Array Value) (w:World):(callFunc (Q9g d) args).run Tryz.prog w = .ok (.enter (Q9g d) args) w:=by cases d<;>kernel_rfl
def Q9q (d:DefL):List UInt8:=joinW Q0E [] (Q4l d)++[10]
def Q0l (ds:List DefL):List UInt8:=ds.flatMap Q9q
theorem Qdq {ds:List DefL} {k:Nat} (hk:k < ds.length):Q0l (ds.take (k + 1))=Q0l (ds.take k)++Q9q ds[k]:=by
 unfold Q0l
 rw [List.take_succ_eq_append_getElem hk,List.flatMap_append]
 simp
def PrAt (w:World) (l:List UInt8) (u:World):Prop:=∃ v,BdAt w.heap.size w.heap.size l v u∧Qa [] w u
theorem PrAt.put {w:World} {l:List UInt8} {u:World} (h:PrAt w l u):Put w w.heap.size u.heap.size (l,[]) (u.alloc (.cells #[.string ⟨#[]⟩] 9)):=by
 obtain ⟨v,⟨⟨p,hp,hb⟩,hr,ho⟩,hk⟩:=h
 have ha:=(Qa.refl [] u).alloc (.cells #[.string ⟨#[]⟩] 9)
 exact ⟨v,⟨⟨p,hp,(ha.block _ (Qc hb) (by simp)).trans hb⟩,Qx hr ha (by simp),Nat.le_trans ho ha.size⟩,Qi rfl,hk.trans ha,Nat.le_refl _,hk.size⟩
theorem PrAt.line {w:World} {L:Nat} {st:PSt} {u:World} (h:Put w w.heap.size L st u):∃ v,BdAt w.heap.size w.heap.size st.1 v u∧∀ u' l' v',BdAt w.heap.size w.heap.size l' v' u'→Qa (w.heap.size :: v.ownBlock.toList) u u'→PrAt w l' u':=by
 obtain ⟨v,h⟩:=h
 refine ⟨v,h.bd,fun u' l' v' hb hk=>⟨v',hb,h.kp.young hk (fun q hq=>Or.inr ?_)⟩⟩
 rcases List.mem_cons.1 hq with hq | hq
 ·omega
 ·exact (Q2p h.bd.row (by simpa using hq)).1
theorem PrAt.is {w:World} {l:List UInt8} {u:World} (h:PrAt w l u):Lib.IsBuilder 92 5 w.heap.size w.heap.size (Lib.byteCells l) u:=by
 obtain ⟨v,hb,_⟩:=h
 have hne:v.ownBlock≠some w.heap.size:=fun e=>hb.own_ne (by rw [e];simp)
 obtain ⟨⟨p,hp,hc⟩,hr,_⟩:=hb
 have hr':u.ownsRow w.heap.size 5 1 v (Lib.byteCells l).length (Lib.byteCells l):=by simpa [Lib.byteCells] using hr
 rcases hp with rfl | rfl
 ·exact Or.inl ⟨Nat.le_refl _,v,hc,hr',hne⟩
 ·exact Or.inr ⟨Nat.le_refl _,v,hc,hr',hne⟩
theorem QaV {w:World} {bs:List (Nat×Obj)} {dsl:Value} {ds:List DefL} {ps:List Nat} (hd:Q23 bs dsl ds ps) (hB:∀ p∈bs,w.heap[p.1]? = some p.2) (hw:Pow w) (h64:∀ d∈ds,Qb3 d) (hcap:(Q0l ds).length≤CAP) :
  Calls Tryz.prog 30 #[dsl] w fun e w'=>e = .returned (.string ⟨(Q0l ds).toArray⟩)∧Qa [] w w':=by
 have H0:Hid (PrAt w [] (w.alloc (.cells #[.pointer none,.slice none 0 0] 92))):=
  ⟨_,⟨⟨_,Or.inl rfl,Qi rfl⟩,World.ownsRow_nil _ _ _ _,by simp⟩,(Qa.refl [] w).alloc _⟩
 have HB:=Hid.mk hB
 have HCap:=Hid.mk hcap
 have VS:=Hid.mk (fun u' (h:PrAt w (Q0l ds) u')=>Tryz.Builder_String_any w.heap.size w.heap.size (Q0l ds) u' h.is (by obtain ⟨v,hb,_⟩:=h;exact hb.old))
 obtain ⟨hlen,hrow,heach⟩:=hd
 have HE:=Hid.mk heach
 clear hB hcap heach
 rcases hrow with ⟨rfl,h0,_⟩ | ⟨g,cap,cur,rfl,⟨hcp,hms⟩,hg,htake⟩
 ·have hnil:ds=[]:=List.length_eq_zero_iff.1 h0
  subst hnil
  have VS:=Hid.mk (VS.out _ H0.out)
  have hal:Qa [] w (w.alloc (.cells #[.pointer none,.slice none 0 0] 92)):=(Qa.refl [] w).alloc _
  have HAl:=Hid.mk hal
  clear hal
  go_enter Tryz.func30,Tryz.ntmps30
  go_wp2_with fail
  go_loopw [9] (fun i ur=>i = .int .i64 0∧ur=w.alloc (.cells #[.pointer none,.slice none 0 0] 92)) (fun _ _=>0)
  case atStart=>exact ⟨rfl,rfl⟩
  case round=>
   obtain ⟨rfl,rfl⟩:=hrel
   go_wp2_with fail
   refine VS.out.mono ?_
   rintro e w2 ⟨rfl,hb2⟩
   have HK2:=Hid.mk (show Qa [] w w2 from ⟨hb2.os.trans HAl.out.os,hb2.tape.trans HAl.out.tape,hb2.output.trans HAl.out.output,Nat.le_trans HAl.out.size hb2.size,fun k hk hm=>(hb2.block k hk).trans (HAl.out.block k hk hm)⟩)
   clear hb2 VS
   go_wp2
   go_ret
   exact ⟨rfl,HK2.out⟩
 ·go_enter Tryz.func30,Tryz.ntmps30
  go_wp2_with fail
  go_loopw [9] (fun i ur=>∃ k:Nat,i = .int .i64 k∧k≤ds.length∧Hid (PrAt w (Q0l (ds.take k)) ur)) (fun i _=>ds.length - (RowKit.intOf i).toNat)
  case atStart=>exact ⟨0,rfl,by omega,H0⟩
  case round=>
   obtain ⟨k,rfl,hk,HP⟩:=hrel
   clear H0
   rcases Nat.lt_or_ge k ds.length with hlt | hge
   ·have hltp:k < ps.length:=by omega
    have hkw:Qa [] w wr:=by obtain ⟨v,_,hk⟩:=HP.out;exact hk
    have hgb:=(hkw.block g (Qc (HB.out _ hg)) (by simp)).trans (HB.out _ hg)
    have q0:wr.cell? ⟨g,k,none⟩=some (.iface (defT ds[k]) (.pointer (some ⟨ps[k],0,none⟩))):=Qn hgb htake (by
     have hz:k < (Q1E ds ps).length:=by simp;omega
     rw [List.getElem?_eq_getElem hz]
     simp)
    have i0:(0:Int)≤(k:Int):=by omega
    have i1:(k:Int) < (ds.length:Int):=by omega
    have HT:=Hid.mk (Qdq hlt)
    have hD:=HE.out k hlt hltp
    have h6:=h64 ds[k] (List.getElem_mem hlt)
    have HLk:Hid ((Q0l (ds.take (k + 1))).length≤CAP):=by
     have e:Q0l ds=Q0l (ds.take (k + 1))++Q0l (ds.drop (k + 1)):=by
      unfold Q0l
      rw [← List.flatMap_append,List.take_append_drop]
     have:=HCap.out
     rw [e,List.length_append] at this
     exact Nat.le_trans (Nat.le_add_right _ _) this
    clear hgb hkw
    generalize ds[k]=d at q0 HT hD h6
    generalize ps[k]=p at q0 hD
    have hnc:=Qca d p
    have hen:=QaU d
    have HT2:=Hid.mk (show Q0l (ds.take (k + 1))=(putS (Q0l (ds.take k),[]) (Q4l d)).1++[10] by rw [HT.out];simp [Q9q,putS])
    have hlw:(putS (Q0l (ds.take k),[]) (Q4l d)).1.length + 1≤CAP:=by
     have:=HLk.out
     rw [HT2.out] at this
     simpa using this
    have HLw:=Hid.mk hlw
    have VW:=Hid.mk (QfT HP.out.put hw HB.out d hD h6 (Nat.le_trans (Nat.le_succ _) hlw))
    clear hD h6 hlw
    go_wp2_with fail
    refine VW.out.mono ?_
    rintro e w2 ⟨rfl,hp2,hs2⟩
    obtain ⟨v2,hb2,hline⟩:=PrAt.line hp2
    have VB:=Hid.mk (Q79 hb2 10 HLw.out)
    have HLine:=Hid.mk hline
    clear hp2 hs2 VW hb2 hline
    go_wp2_with fail
    refine VB.out.mono ?_
    rintro e w3 ⟨⟨x3,rfl⟩,v3,hb3,hk3⟩
    have HP3:Hid (PrAt w (Q0l (ds.take (k + 1))) w3):=by
     show PrAt _ _ _
     rw [HT2.out]
     exact HLine.out _ _ _ hb3 hk3
    clear hb3 hk3 VB HLine
    go_wp2
    exact ⟨⟨k + 1,by go_num,by omega,HP3⟩,by simp [RowKit.intOf];omega⟩
   ·have hkk:k=ds.length:=by omega
    subst hkk
    have hge0:¬ ((ds.length:Int) < (ds.length:Int)):=by omega
    rw [List.take_length] at HP
    have VS:=Hid.mk (VS.out _ HP.out)
    have hkw:Qa [] w wr:=by obtain ⟨v,_,hk⟩:=HP.out;exact hk
    have HKw:=Hid.mk hkw
    clear hkw
    go_wp2_with fail
    refine VS.out.mono ?_
    rintro e w2 ⟨rfl,hb2⟩
    have HK2:=Hid.mk (show Qa [] w w2 from ⟨hb2.os.trans HKw.out.os,hb2.tape.trans HKw.out.tape,hb2.output.trans HKw.out.output,Nat.le_trans HKw.out.size hb2.size,fun k hk hm=>(hb2.block k hk).trans (HKw.out.block k hk hm)⟩)
    clear hb2 VS
    go_wp2
    go_ret
    exact ⟨rfl,HK2.out⟩
theorem Qgo {w:World} {bs:List (Nat×Obj)} {B:Nat} {ds:List DefL} (hS:Q6D bs B ds) (hB:∀ p∈bs,w.heap[p.1]? = some p.2) (hw:Pow w) (h64:∀ d∈ds,Qb3 d) (hcap:(Q0l ds).length≤CAP) :
  Calls Tryz.prog 12 #[.pointer (some ⟨B,0,none⟩)] w fun e w'=>e = .returned (.string ⟨(Q0l ds).toArray⟩)∧Qa [] w w':=by
 obtain ⟨dsl,ps,v,S,P,hb,hd,_⟩:=hS
 have c0:w.cell? ⟨B,0,none⟩=some dsl:=Qs (hB _ hb) rfl
 have VP:=Hid.mk (QaV hd hB hw h64 hcap)
 have hsv:∃ ad n cp,dsl = .slice ad n cp:=by
  rcases hd.row with ⟨e,_⟩ | ⟨_,_,_,e,_⟩
  ·exact ⟨_,_,_,e⟩
  ·exact ⟨_,_,_,e⟩
 obtain ⟨ad,n,cp,rfl⟩:=hsv
 clear hd hB hw h64 hcap hb
 go_enter Tryz.func12,Tryz.ntmps12
 go_wp2_with fail
 refine VP.out.mono ?_
 rintro e w2 ⟨rfl,hk2⟩
 have HK2:=Hid.mk hk2
 clear hk2 VP
 go_wp2
 go_ret
 exact ⟨rfl,HK2.out⟩
end Go.Proofs.YtmbcibgknckenaaGreatDoor
namespace Go.Proofs.YtmbcibgknckenaaGreatDoor
open Mar (WTok GoodTok Written Run)
theorem Qgp:∀ (l:List UInt8) (acc v:Nat),Mar.hexF acc l=some v→v < (acc + 1) * 16 ^ l.length:=by
 intro l
 induction l with
 | nil=>intro acc v h;simp only [Mar.hexF,Option.some.injEq] at h;simp;omega
 | cons c t ih=>
  intro acc v h
  unfold Mar.hexF at h
  split at h
  ·rename_i d hd
   have h1:=ih _ _ h
   have h2:=Mar.hexed_lt hd
   rw [List.length_cons,Nat.pow_succ]
   have h3:(acc * 16 + d + 1) * 16 ^ t.length≤((acc + 1) * 16) * 16 ^ t.length:=Nat.mul_le_mul_right _ (by omega)
   have h4:(acc + 1) * (16 ^ t.length * 16)=((acc + 1) * 16) * 16 ^ t.length:=by rw [Nat.mul_comm (16 ^ t.length) 16,Nat.mul_assoc]
   omega
  ·cases h
def Q1F (n:Int):Prop:=-2147483648≤n∧n≤4294967295
theorem Q5T {l:List UInt8} {n:Int} (h:Mar.number l=some n):Q1F n:=by
 unfold Mar.number at h
 split at h
 ·unfold Mar.hexadecimal at h
  split at h
  ·cases h
  ·rename_i hl
   split at h
   ·cases h
   ·cases hv:Mar.hexF 0 (l.drop 2) with
    | none=>rw [hv] at h;cases h
    | some v=>
     rw [hv] at h
     cases h
     have h1:=Qgp _ _ _ hv
     have h2:16 ^ (l.drop 2).length≤16 ^ 8:=Nat.pow_le_pow_right (by omega) (by omega)
     have h3:(16:Nat) ^ 8=4294967296:=by decide
     simp only [Nat.zero_add,Nat.one_mul] at h1
     have h4:Int.ofNat v=(v:Int):=rfl
     unfold Q1F
     rw [h4]
     exact ⟨by omega,by omega⟩
 ·unfold Mar.decimal at h
  split at h
  ·cases h
  ·split at h
   ·split at h
    ·rename_i hr;cases h;exact hr
    ·cases h
   ·cases h
def Q4G (x:Mar.Word):Prop:=(x.kind=1→GoodTok ⟨1,x.text,0⟩)∧(x.kind=3→Q1F x.n)
theorem Qip {c:UInt8} {t:List UInt8} {p:UInt8→Bool} (h:p c=true):Run p (Mar.run (c :: t)):=⟨c,t.takeWhile Mar.inWord,rfl,h,fun x hx=>List.all_eq_true.1 List.all_takeWhile x hx⟩
theorem Qf7 {l:List UInt8} {a:Nat} {x:Mar.Word} (h:Mar.first l a = .ok x):Q4G x:=by
 unfold Mar.first at h
 split at h
 ·cases h;exact ⟨fun h=>(by cases h),fun h=>by cases h⟩
 ·rename_i c t
  split at h
  ·rename_i hc
   unfold Mar.nameWord at h
   split at h
   ·cases h
   ·rename_i hl
    split at h
    ·cases h;exact ⟨fun h=>(by cases h),fun h=>by cases h⟩
    ·rename_i hk
     cases h
     exact ⟨fun _=>Or.inl ⟨rfl,Qip hc,by simp only;omega,by simpa using hk,rfl⟩,fun h=>by cases h⟩
  ·split at h
   ·unfold Mar.numberWord at h
    split at h
    ·rename_i n hn
     cases h
     exact ⟨fun h=>(by cases h),fun _=>Q5T hn⟩
    ·cases h
   ·split at h
    ·cases h;exact ⟨fun h=>(by cases h),fun h=>by cases h⟩
    ·cases h
theorem Qgq {l:List UInt8} {p q:Nat} {x:Mar.Word} (h:Q3C l p = .ok (x,q)):Q4G x:=by
 unfold Q3C at h
 split at h
 ·rename_i y hy;cases h;exact Qf7 hy
 ·cases h
def Q6T (x:Mar.Word):WTok:=⟨x.kind,x.text,x.n⟩
def Q9r:WTok:=⟨0,[],0⟩
def Q4H (l:List UInt8):Nat→List WTok→Prop
 | _,[]=>True
 | p,t :: ts=>∃ x q,Q3C l p = .ok (x,q)∧Q6T x=t∧Q4H l q ts
theorem Qcb {l:List UInt8}:∀ (ts:List WTok) (p:Nat),Written ts (l.drop p)→Q4H l p (ts++[Q9r]):=by
 intro ts
 induction ts with
 | nil=>
  intro p h
  have hs:Mar.spaceLen (l.drop p)=(l.drop p).length:=by
   have:=Mar.space_gap (s:=l.drop p) (l:=[]) h (fun c t h=>by cases h)
   rwa [List.append_nil] at this
  refine ⟨⟨0,[],0,p + Mar.spaceLen (l.drop p)⟩,p + Mar.spaceLen (l.drop p) + 0,?_,rfl,trivial⟩
  unfold Q3C
  have e:l.drop (p + Mar.spaceLen (l.drop p))=[]:=by
   rw [hs,List.length_drop,List.drop_eq_nil_iff]
   omega
  rw [e]
  rfl
 | cons t ts ih=>
  rintro p ⟨s,r,e,hs,ht,hr,hw⟩
  have hsp:Mar.spaceLen (l.drop p)=s.length:=by rw [e];exact Mar.space_gap hs (ht.head r).1
  have e2:l.drop (p + s.length)=t.text++r:=by rw [← List.drop_drop,e];simp
  refine ⟨⟨t.kind,t.text,t.n,p + s.length⟩,p + s.length + t.text.length,?_,rfl,ih _ ?_⟩
  ·unfold Q3C
   rw [hsp,e2,Mar.first_tok ht hr]
  ·rw [← List.drop_drop,e2]
   simpa using hw
def Toks (text:ByteArray) (σ:St) (ts:List WTok):Prop:=match σ.nx with
 | none=>Q4H text.data.toList σ.at' ts
 | some x=>match ts with
  | []=>True
  | t :: ts=>Q6T x=t∧Q4H text.data.toList σ.at' ts
theorem Qaf {text:ByteArray} {σ:St} {t:WTok} {ts:List WTok} (h:Toks text σ (t :: ts)):∃ x p,Q5Y text.data.toList σ.at' σ.nx = .ok (x,p)∧Q6T x=t∧Q4H text.data.toList p ts:=by
 unfold Toks at h
 cases hn:σ.nx with
 | none=>
  rw [hn] at h
  obtain ⟨x,q,h1,h2,h3⟩:=h
  exact ⟨x,q,h1,h2,h3⟩
 | some x=>
  rw [hn] at h
  exact ⟨x,σ.at',rfl,h.1,h.2⟩
structure Q06 (σ σ':St):Prop where
 types:σ'.types = σ.types
 consts:σ'.consts = σ.consts
 names:σ'.names = σ.names
 progs:σ'.progs = σ.progs
theorem Q06.refl (σ:St):Q06 σ σ:=⟨rfl,rfl,rfl,rfl⟩
theorem Q06.trans {σ σ1 σ2:St} (h:Q06 σ σ1) (k:Q06 σ1 σ2):Q06 σ σ2:=⟨k.1.trans h.1,k.2.trans h.2,k.3.trans h.3,k.4.trans h.4⟩
structure Inv (σ:St):Prop where
 nx:∀ x,σ.nx=some x→Q4G x
 cs:∀ k t a v,look σ.names k=some (some (.const t a v))→Q1F v
theorem Q6U {text:ByteArray} {σ:St} {x:Mar.Word} {p:Nat} (h:Q5Y text.data.toList σ.at' σ.nx = .ok (x,p)) (hi:Inv σ):Q4G x:=by
 cases hn:σ.nx with
 | none=>rw [hn] at h;exact Qgq h
 | some y=>rw [hn] at h;cases h;exact hi.nx _ hn
section
variable {text : ByteArray} {σ σ' : St} {x : Mar.Word}
theorem Q3z (h:next text σ = .ok (x,σ')) (hi:Inv σ):Q4G x∧Inv σ'∧Q06 σ σ':=by
 unfold next at h
 split at h
 ·rename_i y p hp
  cases h
  exact ⟨Q6U hp hi,⟨fun _ h=>(by cases h),hi.cs⟩,⟨rfl,rfl,rfl,rfl⟩⟩
 ·cases h
theorem Q6a (h:peek text σ = .ok (x,σ')) (hi:Inv σ):Q4G x∧Inv σ'∧Q06 σ σ':=by
 unfold peek at h
 split at h
 ·rename_i y p hp
  cases h
  exact ⟨Q6U hp hi,⟨fun _ h=>(by cases h;exact Q6U hp hi),hi.cs⟩,⟨rfl,rfl,rfl,rfl⟩⟩
 ·cases h
theorem Qz {α β:Type} {m:PM α} {k:α→PM β} {r:β×St} (h:bnd m k σ = .ok r):∃ a σ1,m σ = .ok (a,σ1)∧k a σ1 = .ok r:=by
 unfold bnd at h
 split at h
 ·rename_i a σ1 hm;exact ⟨a,σ1,hm,h⟩
 ·cases h
theorem Q05 {τ α β:Type} {m:PX τ α} {k:α→PX τ β} {t:τ} {r:β×τ×St} (h:bndx m k t σ = .ok r):∃ a t1 σ1,m t σ = .ok (a,t1,σ1)∧k a t1 σ1 = .ok r:=by
 unfold bndx at h
 split at h
 ·rename_i a t1 σ1 hm;exact ⟨a,t1,σ1,hm,h⟩
 ·cases h
theorem Q6V {τ α:Type} {m:PM α} {t t':τ} {a:α} (h:lift m t σ = .ok (a,t',σ')):m σ = .ok (a,σ')∧t'=t:=by
 unfold lift at h
 split at h
 ·rename_i b σ1 hm;cases h;exact ⟨hm,rfl⟩
 ·cases h
theorem Q55 {t:List UInt8} {y:Bool} (h:sees text t σ = .ok (y,σ')) (hi:Inv σ):Inv σ'∧Q06 σ σ':=by
 unfold sees at h
 split at h
 ·rename_i x' σ1 hp;cases h;exact (Q6a hp hi).2
 ·cases h
theorem Q0z {t:List UInt8} {y:Bool} (h:Q0B text t σ = .ok (y,σ')) (hi:Inv σ):Inv σ'∧Q06 σ σ':=by
 obtain ⟨z,σ1,h1,h2⟩:=Qz h
 obtain ⟨i1,q1⟩:=Q55 h1 hi
 split at h2
 ·obtain ⟨_,σ2,h3,h4⟩:=Qz h2
  cases h4
  obtain ⟨_,i2,q2⟩:=Q3z h3 i1
  exact ⟨i2,q1.trans q2⟩
 ·cases h2;exact ⟨i1,q1⟩
theorem QE {t:List UInt8} (h:QS text t σ = .ok (x,σ')) (hi:Inv σ):Inv σ'∧Q06 σ σ':=by
 obtain ⟨z,σ1,h1,h2⟩:=Qz h
 obtain ⟨_,i1,q1⟩:=Q3z h1 hi
 split at h2
 ·cases h2;exact ⟨i1,q1⟩
 ·cases h2
variable {t : WTok} {ts : List WTok}
theorem Q2B (h:Toks text σ (t :: ts)):∃ x σ',next text σ = .ok (x,σ')∧Q6T x=t∧Toks text σ' ts∧Q06 σ σ':=by
 obtain ⟨x,p,h1,h2,h3⟩:=Qaf h
 refine ⟨x,{ σ with at':=p,nx:=none },?_,h2,h3,⟨rfl,rfl,rfl,rfl⟩⟩
 unfold next
 rw [h1]
theorem Q56 (h:Toks text σ (t :: ts)):∃ x σ',peek text σ = .ok (x,σ')∧Q6T x=t∧Toks text σ' (t :: ts)∧Q06 σ σ':=by
 obtain ⟨x,p,h1,h2,h3⟩:=Qaf h
 refine ⟨x,{ σ with at':=p,nx:=some x },?_,h2,⟨h2,h3⟩,⟨rfl,rfl,rfl,rfl⟩⟩
 unfold peek
 rw [h1]
theorem Q2n {x:Mar.Word} {t:WTok} (h:Q6T x=t):x.text=t.text∧x.kind=t.kind∧x.n=t.n:=by subst h;exact ⟨rfl,rfl,rfl⟩
theorem Q1G (h:Toks text σ (t :: ts)) (l:List UInt8):∃ σ',sees text l σ = .ok (t.text == l,σ')∧Toks text σ' (t :: ts)∧Q06 σ σ':=by
 obtain ⟨x,σ',h1,h2,h3,h4⟩:=Q56 h
 refine ⟨σ',?_,h3,h4⟩
 unfold sees
 rw [h1,← (Q2n h2).1]
theorem Q1Q (h:Toks text σ (t :: ts)) {l:List UInt8} (hl:t.text=l):∃ σ',Q0B text l σ = .ok (true,σ')∧Toks text σ' ts∧Q06 σ σ':=by
 obtain ⟨σ1,h1,h2,h3⟩:=Q1G h l
 obtain ⟨x,σ2,h4,_,h5,h6⟩:=Q2B h2
 have hb:(t.text == l)=true:=by simpa using hl
 refine ⟨σ2,?_,h5,h3.trans h6⟩
 unfold Q0B
 rw [Qg h1,hb,if_pos rfl,Qg h4]
 rfl
theorem Q1h (h:Toks text σ (t :: ts)) {l:List UInt8} (hl:t.text≠l):∃ σ',Q0B text l σ = .ok (false,σ')∧Toks text σ' (t :: ts)∧Q06 σ σ':=by
 obtain ⟨σ1,h1,h2,h3⟩:=Q1G h l
 have hb:(t.text == l)=false:=by simpa using hl
 refine ⟨σ1,?_,h2,h3⟩
 unfold Q0B
 rw [Qg h1,hb,if_neg (by simp)]
 rfl
theorem QF (h:Toks text σ (t :: ts)) {l:List UInt8} (hl:t.text=l):∃ x σ',QS text l σ = .ok (x,σ')∧Q6T x=t∧Toks text σ' ts∧Q06 σ σ':=by
 obtain ⟨x,σ',h1,h2,h3,h4⟩:=Q2B h
 refine ⟨x,σ',?_,h2,h3,h4⟩
 unfold QS
 rw [Qg h1,if_pos (by rw [(Q2n h2).1];simpa using hl)]
 rfl
end
abbrev kw (l:List UInt8):WTok:=⟨2,l,0⟩
abbrev sg (c:UInt8):WTok:=⟨4,[c],0⟩
abbrev nm (l:List UInt8):WTok:=⟨1,l,0⟩
abbrev nu (n:Int):WTok:=⟨3,Lib.itoa n,n⟩
def Q0q:Ty→List WTok
 | .named t _=>[nm t]
 | .plain k=>if k=0 then [kw [105,110,116]] else if k=1 then [kw [117,110,115,105,103,110,101,100]] else if k=2 then [kw [104,121,112,101,114]] else if k=3 then [kw [117,110,115,105,103,110,101,100],kw [104,121,112,101,114]] else [kw [98,111,111,108]]
 | _=>[kw [118,111,105,100]]
def Q24 (n:Int) (f:Bool):List WTok:=if f then [sg 91,nu n,sg 93] else [sg 60,nu n,sg 62]
def Q07 (d:Qk):List WTok:=match d.ty with
 | .opaq n f=>kw [111,112,97,113,117,101] :: nm d.t :: Q24 n f
 | .str n f=>kw [115,116,114,105,110,103] :: nm d.t :: Q24 n f
 | .arr o n f=>Q0q o++nm d.t :: Q24 n f
 | .opt o=>Q0q o++[sg 42,nm d.t]
 | .void=>[kw [118,111,105,100]]
 | t=>Q0q t++[nm d.t]
theorem Q03 {c:UInt8} (h:Mar.isSign c=true):GoodTok (sg c):=Or.inr (Or.inr (Or.inr ⟨rfl,c,rfl,h,rfl⟩))
theorem Q47 {n:Int} (h:Q1F n):GoodTok (nu n):=Or.inr (Or.inr (Or.inl ⟨rfl,(Mar.number_itoa h.1 h.2).2,(Mar.number_itoa h.1 h.2).1,Mar.itoa_short h.1 h.2⟩))
theorem Q1l {l:List UInt8} {c:UInt8} {r:List UInt8} (h:l=c :: r) (h1:Mar.isLetter c=true) (h2:r.all Mar.inWord=true) (h3:l.length≤16) (h4:Mar.isKeyword l=true):GoodTok (kw l):=Or.inr (Or.inl ⟨rfl,⟨c,r,h,h1,List.all_eq_true.1 h2⟩,h3,h4,rfl⟩)
theorem Q5x {l k:List UInt8} (h:GoodTok (nm l)) (hk:Mar.isKeyword k=true):l≠k:=by
 intro e
 rcases h with ⟨_,_,_,h,_⟩ | ⟨h,_⟩ | ⟨h,_⟩ | ⟨h,_⟩
 ·simp only at h;rw [e,hk] at h;cases h
 ·cases h
 ·cases h
 ·cases h
theorem Q6b {l:List UInt8} {c:UInt8} (h:GoodTok (nm l)) (hk:Mar.isSign c=true):l≠[c]:=by
 intro e
 rcases h with ⟨_,⟨d,r,h1,h2,_⟩,_⟩ | ⟨h,_⟩ | ⟨h,_⟩ | ⟨h,_⟩
 ·simp only at h1;rw [e] at h1;cases h1;rw [(Mar.sign_not hk).1] at h2;cases h2
 ·cases h
 ·cases h
 ·cases h
def erT:Ty→Ty
 | .named t _=>.named t 0
 | .arr o n f=>.arr (erT o) n f
 | .opt o=>.opt (erT o)
 | t=>t
def erD (d:Qk):Qk:=⟨d.t,0,erT d.ty⟩
def erP (p:Q15):Q15:=⟨p.t,0,erT p.res,erT p.arg,p.num⟩
def erV (v:QN):QN:=⟨v.t,0,v.procs.map erP,v.num⟩
def er:DefL→DefL
 | .const t _ v=>.const t 0 v
 | .typedef d=>.typedef (erD d)
 | .enum t _ ms=>.enum t 0 (ms.map fun m=>(m.1,0,m.2.2))
 | .struct t _ ms=>.struct t 0 (ms.map erD)
 | .union t _ s arms=>.union t 0 (erD s) (arms.map fun a=>(a.1,erD a.2))
 | .prog t _ vs n=>.prog t 0 (vs.map erV) n
abbrev erN (l:List (List UInt8×Option DefL)):List (List UInt8×Option DefL):=l.map fun p=>(p.1,p.2.map er)
structure SR (σ1 σ2:St):Prop where
 types:σ2.types = σ1.types
 consts:σ2.consts = σ1.consts
 names:erN σ2.names=erN σ1.names
 progs:σ2.progs.map (·.1) = σ1.progs.map (·.1)
theorem SR.left {σ1 σ1' σ2:St} (h:SR σ1 σ2) (k:Q06 σ1 σ1'):SR σ1' σ2:=⟨by rw [k.types];exact h.types,by rw [k.consts];exact h.consts,by rw [k.names];exact h.names,by rw [k.progs];exact h.progs⟩
theorem SR.right {σ1 σ2 σ2':St} (h:SR σ1 σ2) (k:Q06 σ2 σ2'):SR σ1 σ2':=⟨by rw [k.types];exact h.types,by rw [k.consts];exact h.consts,by rw [k.names];exact h.names,by rw [k.progs];exact h.progs⟩
theorem QdV (l:List (List UInt8×Option DefL)) (k:List UInt8):look (erN l) k=(look l k).map (·.map er):=by
 unfold look
 induction l with
 | nil=>rfl
 | cons p l ih=>
  simp only [erN,List.map_cons,List.find?_cons]
  split
  ·rfl
  ·exact ih
theorem SR.look {σ1 σ2:St} (h:SR σ1 σ2) (k:List UInt8):(look σ2.names k).map (·.map er)=(look σ1.names k).map (·.map er):=by
 rw [← QdV,← QdV,h.names]
section
variable {t1 t2 : ByteArray} {σ σ1 σ1' σ2 : St} {ts : List WTok}
theorem Q5l {p:Int→Bool} {q:Int×Nat} (h:value t1 p σ = .ok (q,σ1')) (hi:Inv σ):Inv σ1'∧Q06 σ σ1'∧Q1F q.1∧p q.1=true:=by
 obtain ⟨x,σa,h1,h2⟩:=Qz h
 obtain ⟨g1,i1,e1⟩:=Q3z h1 hi
 obtain ⟨n,σb,h3,h4⟩:=Qz h2
 split at h4
 ·rename_i hp
  cases h4
  have:σ1' = σa∧Q1F n:=by
   unfold Q1i at h3
   split at h3
   ·rename_i hk;cases h3;exact ⟨rfl,g1.2 (by have:=eq_of_beq hk;omega)⟩
   ·split at h3
    ·unfold Q0v at h3
     split at h3
     ·rename_i hc;cases h3;exact ⟨rfl,i1.cs _ _ _ _ hc⟩
     ·cases h3
    ·split at h3
     ·cases h3;exact ⟨rfl,by decide,by decide⟩
     ·split at h3
      ·cases h3;exact ⟨rfl,by decide,by decide⟩
      ·cases h3
  rw [this.1]
  exact ⟨i1,e1,this.2,hp⟩
 ·cases h4
theorem Q5m {p:Int→Bool} {n:Int} (h:Toks t2 σ2 (nu n :: ts)) (hp:p n=true):∃ a σ',value t2 p σ2 = .ok ((n,a),σ')∧Toks t2 σ' ts∧Q06 σ2 σ':=by
 obtain ⟨x,σa,h1,h2,h3,h4⟩:=Q2B h
 obtain ⟨_,k2,k3⟩:=Q2n h2
 refine ⟨x.at',σa,?_,h3,h4⟩
 unfold value
 have hm:Q1i x σa = .ok (n,σa):=by
  unfold Q1i
  rw [if_pos (by rw [k2];rfl),k3]
  rfl
 rw [Qg h1,Qg hm,if_pos hp]
 rfl
def Q3e (t:Ty):Prop:=(∃ x a,t = .named x a∧GoodTok (nm x))∨∃ k,t = .plain k∧k≤4
def NoTy (ts:List WTok):Prop:=∃ t r,ts=t :: r∧t.text≠[104,121,112,101,114]∧t.text≠[105,110,116]
theorem Q7H {l:List UInt8} (h:GoodTok (nm l)) (ts:List WTok):NoTy (nm l :: ts):=⟨_,_,rfl,Q5x h (by decide),Q5x h (by decide)⟩
theorem QdW {c:UInt8} (ts:List WTok):NoTy (sg c :: ts):=⟨_,_,rfl,by simp,by simp⟩
theorem Q57 {a:Ty} (h:Q1b t1 σ = .ok (a,σ1')) (hi:Inv σ):Inv σ1'∧Q06 σ σ1'∧Q3e a:=by
 obtain ⟨x,σa,h1,h2⟩:=Qz h
 obtain ⟨g1,i1,e1⟩:=Q3z h1 hi
 unfold Q0k at h2
 split at h2
 ·rename_i hk;cases h2;exact ⟨i1,e1,Or.inl ⟨_,_,rfl,g1.1 (by have:=eq_of_beq hk;omega)⟩⟩
 split at h2
 ·cases h2;exact ⟨i1,e1,Or.inr ⟨0,rfl,by omega⟩⟩
 split at h2
 ·cases h2;exact ⟨i1,e1,Or.inr ⟨2,rfl,by omega⟩⟩
 split at h2
 ·cases h2;exact ⟨i1,e1,Or.inr ⟨4,rfl,by omega⟩⟩
 split at h2
 ·obtain ⟨y,σb,h3,h4⟩:=Qz h2
  obtain ⟨i2,e2⟩:=Q0z h3 i1
  split at h4
  ·cases h4;exact ⟨i2,e1.trans e2,Or.inr ⟨3,rfl,by omega⟩⟩
  ·obtain ⟨z,σc,h5,h6⟩:=Qz h4
   obtain ⟨i3,e3⟩:=Q0z h5 i2
   cases h6
   exact ⟨i3,(e1.trans e2).trans e3,Or.inr ⟨1,rfl,by omega⟩⟩
 ·cases h2
theorem Q7c {a:Ty} (ha:Q3e a) (h:Toks t2 σ2 (Q0q a++ts)) (hts:NoTy ts):∃ b σ',Q1b t2 σ2 = .ok (b,σ')∧erT b=erT a∧Toks t2 σ' ts∧Q06 σ2 σ':=by
 rcases ha with ⟨l,p,rfl,hg⟩ | ⟨k,rfl,hk⟩
 ·obtain ⟨x,σa,h1,h2,h3,h4⟩:=Q2B (t:=nm l) (ts:=ts) h
  obtain ⟨k1,k2,k3⟩:=Q2n h2
  refine ⟨.named x.text x.at',σa,?_,by rw [k1];rfl,h3,h4⟩
  unfold Q1b Q0k
  rw [Qg h1,if_pos (by rw [k2];rfl)]
  rfl
 ·have hx:∀ (l:List UInt8) (r:List WTok),Q0q (.plain k)++ts=kw l :: r→∃ x σa,next t2 σ2 = .ok (x,σa)∧x.text=l∧((x.kind:Int) == 1)=false∧Toks t2 σa r∧Q06 σ2 σa:=by
   intro l r e
   rw [e] at h
   obtain ⟨x,σa,h1,h2,h3,h4⟩:=Q2B h
   obtain ⟨k1,k2,k3⟩:=Q2n h2
   exact ⟨x,σa,h1,k1,by rw [k2];rfl,h3,h4⟩
  have hk':k=0∨k=1∨k=2∨k=3∨k=4:=by omega
  rcases hk' with rfl | rfl | rfl | rfl | rfl
  ·obtain ⟨x,σa,h1,h2,h3,h4,h5⟩:=hx _ _ rfl
   refine ⟨.plain 0,σa,?_,rfl,h4,h5⟩
   unfold Q1b Q0k
   rw [Qg h1,h2,h3]
   rfl
  ·obtain ⟨x,σa,h1,h2,h3,h4,h5⟩:=hx _ _ rfl
   obtain ⟨t,r,rfl,n1,n2⟩:=hts
   obtain ⟨σb,h6,h7,h8⟩:=Q1h h4 n1
   obtain ⟨σc,h9,h10,h11⟩:=Q1h h7 n2
   refine ⟨.plain 1,σc,?_,rfl,h10,(h5.trans h8).trans h11⟩
   unfold Q1b Q0k
   rw [Qg h1,h2,h3]
   show bnd _ _ σa=_
   rw [Qg h6]
   show bnd _ _ σb=_
   rw [Qg h9]
   rfl
  ·obtain ⟨x,σa,h1,h2,h3,h4,h5⟩:=hx _ _ rfl
   refine ⟨.plain 2,σa,?_,rfl,h4,h5⟩
   unfold Q1b Q0k
   rw [Qg h1,h2,h3]
   rfl
  ·obtain ⟨x,σa,h1,h2,h3,h4,h5⟩:=hx _ _ rfl
   obtain ⟨σb,h6,h7,h8⟩:=Q1Q (t:=kw [104,121,112,101,114]) (ts:=ts) h4 rfl
   refine ⟨.plain 3,σb,?_,rfl,h7,h5.trans h8⟩
   unfold Q1b Q0k
   rw [Qg h1,h2,h3]
   show bnd _ _ σa=_
   rw [Qg h6]
   rfl
  ·obtain ⟨x,σa,h1,h2,h3,h4,h5⟩:=hx _ _ rfl
   refine ⟨.plain 4,σa,?_,rfl,h4,h5⟩
   unfold Q1b Q0k
   rw [Qg h1,h2,h3]
   rfl
theorem Q3A {a:Ty} (ha:Q3e a∨a = .void):∀ t∈Q0q a,GoodTok t:=by
 rcases ha with (⟨l,p,rfl,hg⟩ | ⟨k,rfl,hk⟩) | rfl
 ·intro t ht
  simp only [Q0q,List.mem_singleton] at ht
  subst ht
  exact hg
 ·have hk':k=0∨k=1∨k=2∨k=3∨k=4:=by omega
  intro t ht
  rcases hk' with rfl | rfl | rfl | rfl | rfl<;>simp [Q0q] at ht
  ·subst ht;exact Q1l rfl (by decide) (by decide) (by decide) (by decide)
  ·subst ht;exact Q1l rfl (by decide) (by decide) (by decide) (by decide)
  ·subst ht;exact Q1l rfl (by decide) (by decide) (by decide) (by decide)
  ·rcases ht with ht | ht<;>subst ht<;>exact Q1l rfl (by decide) (by decide) (by decide) (by decide)
  ·subst ht;exact Q1l rfl (by decide) (by decide) (by decide) (by decide)
 ·intro t ht
  simp only [Q0q,List.mem_singleton] at ht
  subst ht
  exact Q1l rfl (by decide) (by decide) (by decide) (by decide)
theorem Q4p {a:Ty} (ha:Q3e a) {k:List UInt8} (hk:k∈[[111,112,97,113,117,101],[115,116,114,105,110,103],[118,111,105,100],[125],[91],[60]]):∃ t r,Q0q a=t :: r∧t.text≠k:=by
 rcases ha with ⟨l,p,rfl,hg⟩ | ⟨j,rfl,hj⟩
 ·refine ⟨nm l,[],rfl,?_⟩
  simp only [List.mem_cons,List.not_mem_nil,or_false] at hk
  rcases hk with rfl | rfl | rfl | rfl | rfl | rfl
  ·exact Q5x hg (by decide)
  ·exact Q5x hg (by decide)
  ·exact Q5x hg (by decide)
  ·exact Q6b hg (by decide)
  ·exact Q6b hg (by decide)
  ·exact Q6b hg (by decide)
 ·have hj':j=0∨j=1∨j=2∨j=3∨j=4:=by omega
  simp only [List.mem_cons,List.not_mem_nil,or_false] at hk
  rcases hj' with rfl | rfl | rfl | rfl | rfl<;>refine ⟨_,_,rfl,?_⟩<;>rcases hk with rfl | rfl | rfl | rfl | rfl | rfl<;>decide
theorem Qag {a:Ty} (h:side t1 σ = .ok (a,σ1')) (hi:Inv σ):Inv σ1'∧Q06 σ σ1'∧(Q3e a∨a = .void):=by
 obtain ⟨y,σa,h1,h2⟩:=Qz h
 obtain ⟨i1,e1⟩:=Q0z h1 hi
 split at h2
 ·cases h2;exact ⟨i1,e1,Or.inr rfl⟩
 ·obtain ⟨i2,e2,b2⟩:=Q57 h2 i1
  exact ⟨i2,e1.trans e2,Or.inl b2⟩
theorem Qah {a:Ty} (ha:Q3e a∨a = .void) (h:Toks t2 σ2 (Q0q a++ts)) (hts:NoTy ts):∃ b σ',side t2 σ2 = .ok (b,σ')∧erT b=erT a∧Toks t2 σ' ts∧Q06 σ2 σ':=by
 rcases ha with ha | rfl
 ·obtain ⟨t,r,e,hne⟩:=Q4p ha (k:=[118,111,105,100]) (by simp)
  have h':=h
  rw [e,List.cons_append] at h'
  obtain ⟨σa,h1,h2,h3⟩:=Q1h h' hne
  rw [← List.cons_append,← e] at h2
  obtain ⟨b,σb,h4,h5,h6,h7⟩:=Q7c ha h2 hts
  refine ⟨b,σb,?_,h5,h6,h3.trans h7⟩
  unfold side
  rw [Qg h1]
  exact h4
 ·obtain ⟨σa,h1,h2,h3⟩:=Q1Q (t:=kw [118,111,105,100]) (ts:=ts) h rfl
  refine ⟨.void,σa,?_,rfl,h2,h3⟩
  unfold side
  rw [Qg h1]
  rfl
def Q2e (n:Int) (f:Bool):Prop:=if f then 1≤n∧n≤1000 else 0≤n∧n≤4294967295
theorem Q2e.range {n:Int} {f:Bool} (h:Q2e n f):Q1F n:=by
 unfold Q2e at h
 unfold Q1F
 split at h<;>omega
theorem Qai {q:Int×Bool} (h:most t1 σ = .ok (q,σ1')) (hi:Inv σ):Inv σ1'∧Q06 σ σ1'∧q.2=false∧Q2e q.1 false:=by
 obtain ⟨_,σa,h1,h2⟩:=Qz h
 obtain ⟨i1,e1⟩:=QE h1 hi
 obtain ⟨y,σb,h3,h4⟩:=Qz h2
 obtain ⟨i2,e2⟩:=Q0z h3 i1
 split at h4
 ·cases h4;exact ⟨i2,e1.trans e2,rfl,by simp [Q2e]⟩
 ·obtain ⟨v,σc,h5,h6⟩:=Qz h4
  obtain ⟨i3,e3,r3,p3⟩:=Q5l h5 i2
  obtain ⟨_,σd,h7,h8⟩:=Qz h6
  obtain ⟨i4,e4⟩:=QE h7 i3
  cases h8
  refine ⟨i4,((e1.trans e2).trans e3).trans e4,rfl,?_⟩
  simpa [Q14,Q2e] using p3
theorem Qi4 (n:Int) {c:UInt8} (hr:Q1F n) (hc:Mar.isSign c=true):Lib.itoa n≠[c]:=by
 intro e
 obtain ⟨_,d,r,h1,h2,_⟩:=Mar.number_itoa hr.1 hr.2
 rw [e] at h1
 cases h1
 obtain ⟨_,q2,q3,_⟩:=Mar.sign_not hc
 simp only [q2,q3] at h2
 cases h2
theorem Qaj {n:Int} (hn:Q2e n false) (h:Toks t2 σ2 (Q24 n false++ts)):∃ σ',most t2 σ2 = .ok ((n,false),σ')∧Toks t2 σ' ts∧Q06 σ2 σ':=by
 obtain ⟨_,σa,h1,_,h2,h3⟩:=QF (t:=sg 60) (ts:=nu n :: sg 62 :: ts) h rfl
 obtain ⟨σb,h4,h5,h6⟩:=Q1h h2 (l:=[62]) (Qi4 n hn.range (by decide))
 obtain ⟨a,σc,h7,h8,h9⟩:=Q5m (p:=Q14 0 4294967295) h5 (by simpa [Q14,Q2e] using hn)
 obtain ⟨_,σd,h10,_,h11,h12⟩:=QF h8 rfl
 refine ⟨σd,?_,h11,((h3.trans h6).trans h9).trans h12⟩
 unfold most
 rw [Qg h1,Qg h4]
 show bnd _ _ σb=_
 rw [Qg h7,Qg h10]
 rfl
theorem Q9s {q:Int×Bool} (h:bound t1 σ = .ok (q,σ1')) (hi:Inv σ):Inv σ1'∧Q06 σ σ1'∧Q2e q.1 q.2:=by
 obtain ⟨y,σa,h1,h2⟩:=Qz h
 obtain ⟨i1,e1⟩:=Q0z h1 hi
 split at h2
 ·obtain ⟨v,σc,h5,h6⟩:=Qz h2
  obtain ⟨i3,e3,r3,p3⟩:=Q5l h5 i1
  obtain ⟨_,σd,h7,h8⟩:=Qz h6
  obtain ⟨i4,e4⟩:=QE h7 i3
  cases h8
  refine ⟨i4,(e1.trans e3).trans e4,?_⟩
  simpa [Q14,Q2e] using p3
 ·obtain ⟨i2,e2,b2,b3⟩:=Qai h2 i1
  refine ⟨i2,e1.trans e2,?_⟩
  rw [b2]
  exact b3
theorem Q9t {n:Int} {f:Bool} (hn:Q2e n f) (h:Toks t2 σ2 (Q24 n f++ts)):∃ σ',bound t2 σ2 = .ok ((n,f),σ')∧Toks t2 σ' ts∧Q06 σ2 σ':=by
 cases f with
 | true=>
  obtain ⟨σb,h4,h5,h6⟩:=Q1Q (t:=sg 91) (ts:=nu n :: sg 93 :: ts) h rfl
  obtain ⟨a,σc,h7,h8,h9⟩:=Q5m (p:=Q14 1 1000) h5 (by simpa [Q14,Q2e] using hn)
  obtain ⟨_,σd,h10,_,h11,h12⟩:=QF h8 rfl
  refine ⟨σd,?_,h11,(h6.trans h9).trans h12⟩
  unfold bound
  rw [Qg h4]
  show bnd _ _ σb=_
  rw [Qg h7,Qg h10]
  rfl
 | false=>
  obtain ⟨σb,h4,h5,h6⟩:=Q1h (t:=sg 60) (ts:=nu n :: sg 62 :: ts) h (l:=[91]) (by decide)
  obtain ⟨σc,h7,h8,h9⟩:=Qaj hn h5
  refine ⟨σc,?_,h8,h6.trans h9⟩
  unfold bound
  rw [Qg h4]
  exact h7
theorem Q6W {n:Int} {f:Bool} (hn:Q2e n f):∀ t∈Q24 n f,GoodTok t:=by
 intro t ht
 unfold Q24 at ht
 split at ht<;>simp only [List.mem_cons,List.not_mem_nil,or_false] at ht<;>rcases ht with rfl | rfl | rfl
 ·exact Q03 (by decide)
 ·exact Q47 hn.range
 ·exact Q03 (by decide)
 ·exact Q03 (by decide)
 ·exact Q47 hn.range
 ·exact Q03 (by decide)
end
theorem Q3K {text:ByteArray} {σ σ':St} {ts:List WTok} (h:Toks text σ ts) (h1:σ'.nx = σ.nx) (h2:σ'.at' = σ.at'):Toks text σ' ts:=by
 unfold Toks at h ⊢
 rw [h1,h2]
 exact h
structure CL {τ:Type} (C:Q0e τ):Prop where
 inv:∀ {x:Mar.Word} {s s':τ} {σ σ':St},C.run x s σ = .ok ((),s',σ')→Inv σ→Inv σ'
 step:∀ {x y:Mar.Word} {s s':τ} {σ1 σ1' σ2:St},C.run x s σ1 = .ok ((),s',σ1')→y.text=x.text→SR σ1 σ2→∃ σ2',C.run y s σ2 = .ok ((),s',σ2')∧SR σ1' σ2'∧σ2'.nx = σ2.nx∧σ2'.at' = σ2.at'
theorem Qgr {α:Type} (l:List (List UInt8×α)) (k t:List UInt8) (v:α):look (l++[(t,v)]) k=(look l k).or (if t == k then some v else none):=by
 unfold look
 rw [List.find?_append]
 cases l.find? (fun p=>p.1 == k) with
 | some p=>rfl
 | none=>
  simp only [Option.none_or,Option.map_none,List.find?_cons,List.find?_nil]
  cases t == k<;>rfl
theorem Qak (A:Ad):CL (Q0U A) where
 inv:=by
  intro x s s' σ σ' h hi
  obtain ⟨h1,_⟩:=Q6V h
  unfold Q18 at h1
  split at h1
  ·cases h1
   refine ⟨hi.nx,fun k t a v hk=>?_⟩
   simp only at hk
   rw [Qgr] at hk
   cases hl:look σ.names k with
   | some o=>rw [hl] at hk;simp only [Option.some_or] at hk;rw [hk] at hl;exact hi.cs k t a v hl
   | none=>rw [hl] at hk;simp only [Option.none_or] at hk;split at hk<;>cases hk
  ·cases h1
 step:=by
  intro x y s s' σ1 σ1' σ2 h hy hR
  obtain ⟨h1,rfl⟩:=Q6V h
  unfold Q18 at h1
  split at h1
  ·rename_i hl
   cases h1
   have hk:=hR.look x.text
   rw [hl] at hk
   have hk2:look σ2.names y.text=none:=by
    rw [hy]
    cases h2:look σ2.names x.text with
    | none=>rfl
    | some o=>rw [h2] at hk;cases hk
   refine ⟨{ σ2 with names:=σ2.names++[(y.text,none)] },?_,⟨hR.types,hR.consts,?_,hR.progs⟩,rfl,rfl⟩
   ·refine Qj ?_
    unfold Q18
    rw [hk2]
   ·simp only [erN,List.map_append,hR.names,hy]
  ·cases h1
theorem Q41 (q bx:Nat):CL (Qr q bx) where
 inv:=by
  intro x s s' σ σ' h hi
  have:σ' = σ:=by
   simp only [Qr,Q4b] at h
   split at h
   ·cases h;rfl
   ·cases h
  rw [this]
  exact hi
 step:=by
  intro x y s s' σ1 σ1' σ2 h hy hR
  simp only [Qr,Q4b] at h ⊢
  split at h
  ·rename_i t' ht
   cases h
   have:Q3l y s = .ok s':=by
    unfold Q3l at ht ⊢
    rw [hy]
    split at ht
    ·cases ht
    ·rename_i hc;rw [if_neg hc];exact ht
   rw [this]
   exact ⟨σ2,rfl,hR,rfl,rfl⟩
  ·cases h
theorem QL {τ α β:Type} {m:PM α} {k:α→PX τ β} {t:τ} {σ:St} {r:β×τ×St} (h:bndx (lift m) k t σ = .ok r):∃ a σ1,m σ = .ok (a,σ1)∧k a t σ1 = .ok r:=by
 obtain ⟨a,t1,σ1,h1,h2⟩:=Q05 h
 obtain ⟨h3,e⟩:=Q6V h1
 rw [e] at h2
 exact ⟨a,σ1,h3,h2⟩
section
variable {t1 t2 : ByteArray} {τ : Type} {C : Q0e τ} {s s' : τ} {σ1 σ1' : St}
theorem Qhm {q:List UInt8×Nat} (h:name t1 C s σ1 = .ok (q,s',σ1')) (hi:Inv σ1):∃ x σa,next t1 σ1 = .ok (x,σa)∧C.run x s σa = .ok ((),s',σ1')∧q=(x.text,x.at')∧GoodTok (nm x.text)∧Inv σa∧Q06 σ1 σa:=by
 obtain ⟨x,σa,h1,h2⟩:=QL h
 obtain ⟨g,i1,e1⟩:=Q3z h1 hi
 split at h2
 ·rename_i hk
  obtain ⟨u,s2,σb,h3,h4⟩:=Q05 h2
  cases h4
  exact ⟨x,σa,h1,h3,rfl,g.1 (by have:=eq_of_beq hk;omega),i1,e1⟩
 ·cases h2
theorem Q2P (hC:CL C) {q:List UInt8×Nat} (h:name t1 C s σ1 = .ok (q,s',σ1')) (hi:Inv σ1) :
  Inv σ1'∧GoodTok (nm q.1)∧∀ σ2 ts,SR σ1 σ2→Toks t2 σ2 (nm q.1 :: ts)→∃ b σ2',name t2 C s σ2 = .ok ((q.1,b),s',σ2')∧SR σ1' σ2'∧Toks t2 σ2' ts:=by
 obtain ⟨x,σa,h1,h2,rfl,h3,h4,h5⟩:=Qhm h hi
 refine ⟨hC.inv h2 h4,h3,fun σ2 ts hR hT=>?_⟩
 obtain ⟨y,σb,k1,k2,k3,k4⟩:=Q2B hT
 obtain ⟨y1,y2,_⟩:=Q2n k2
 obtain ⟨σc,c1,c2,c3,c4⟩:=hC.step (y:=y) h2 y1 ((hR.left h5).right k4)
 refine ⟨y.at',σc,?_,c2,Q3K k3 c3 c4⟩
 unfold name
 rw [Qh (Qj k1),if_pos (by rw [y2];rfl),Qh c1,y1]
 rfl
structure Qcc (d:Qk):Prop where
 good:∀ t∈Q07 d,GoodTok t
 first:∃ t r,Q07 d=t :: r∧t.text≠[118,111,105,100]∧t.text≠[125]
theorem Q0s {l m:List WTok} (h:∀ t∈l,GoodTok t) (k:∀ t∈m,GoodTok t):∀ t∈l++m,GoodTok t:=fun t ht=>by
 rcases List.mem_append.1 ht with h1 | h1
 ·exact h t h1
 ·exact k t h1
theorem Qp {x:WTok} {m:List WTok} (h:GoodTok x) (k:∀ t∈m,GoodTok t):∀ t∈x :: m,GoodTok t:=fun t ht=>by
 rcases List.mem_cons.1 ht with rfl | h1
 ·exact h
 ·exact k t h1
theorem Q0Q:∀ t∈([]:List WTok),GoodTok t:=fun t ht=>by cases ht
theorem Q4q {n:List UInt8} {a:Nat} {ty:Ty} (h:Q3e ty):Q07 ⟨n,a,ty⟩=Q0q ty++[nm n]:=by
 rcases h with ⟨l,p,rfl,_⟩ | ⟨k,rfl,_⟩<;>rfl
theorem Q4T {a:Ty} (ha:Q3e a) (m:List WTok):∃ t r,Q0q a++m=t :: r∧t.text≠[118,111,105,100]∧t.text≠[125]:=by
 obtain ⟨t,r,e,h1⟩:=Q4p ha (k:=[118,111,105,100]) (by simp)
 obtain ⟨t',r',e',h2⟩:=Q4p ha (k:=[125]) (by simp)
 rw [e] at e'
 cases e'
 exact ⟨t,r++m,by rw [e];rfl,h1,h2⟩
theorem Q7I (hC:CL C) {d:Qk} (h:decl t1 C s σ1 = .ok (d,s',σ1')) (hi:Inv σ1) :
  Inv σ1'∧Qcc d∧∀ σ2 ts,SR σ1 σ2→Toks t2 σ2 (Q07 d++sg 59 :: ts)→∃ e σ2',decl t2 C s σ2 = .ok (e,s',σ2')∧erD e=erD d∧SR σ1' σ2'∧Toks t2 σ2' (sg 59 :: ts):=by
 obtain ⟨y,σa,h1,h⟩:=QL h
 obtain ⟨i1,e1⟩:=Q0z h1 hi
 unfold Q3m at h
 split at h
 ·obtain ⟨n,s2,σb,h2,h⟩:=Q05 h
  obtain ⟨i2,g2,n2⟩:=Q2P (t2:=t2) hC h2 i1
  obtain ⟨q,σc,h3,h⟩:=QL h
  obtain ⟨i3,e3,b3⟩:=Q9s h3 i2
  cases h
  have hk:GoodTok (kw [111,112,97,113,117,101]):=Q1l rfl (by decide) (by decide) (by decide) (by decide)
  refine ⟨i3,⟨Qp hk (Qp g2 (Q6W b3)),_,_,rfl,by decide,by decide⟩,fun σ2 ts hR hT=>?_⟩
  obtain ⟨σA,a1,a2,a3⟩:=Q1Q (t:=kw [111,112,97,113,117,101]) (ts:=nm n.1 :: (Q24 q.1 q.2++sg 59 :: ts)) hT rfl
  obtain ⟨b,σB,c1,c2,c3⟩:=n2 σA _ ((hR.left e1).right a3) a2
  obtain ⟨σC,d1,d2,d3⟩:=Q9t b3 c3
  refine ⟨⟨n.1,b,.opaq q.1 q.2⟩,σC,?_,rfl,(c2.left e3).right d3,d2⟩
  unfold decl
  rw [Qh (Qj a1)]
  unfold Q3m
  rw [if_pos rfl,Qh c1,Qh (Qj d1)]
  rfl
 ·obtain ⟨z,σb,h2,h⟩:=QL h
  obtain ⟨i2,e2⟩:=Q0z h2 i1
  unfold Q3M at h
  split at h
  ·obtain ⟨n,s2,σc,h3,h⟩:=Q05 h
   obtain ⟨i3,g3,n3⟩:=Q2P (t2:=t2) hC h3 i2
   obtain ⟨q,σd,h4,h⟩:=QL h
   obtain ⟨i4,e4,f4,b4⟩:=Qai h4 i3
   cases h
   have hk:GoodTok (kw [115,116,114,105,110,103]):=Q1l rfl (by decide) (by decide) (by decide) (by decide)
   rw [f4]
   refine ⟨i4,⟨Qp hk (Qp g3 (Q6W b4)),_,_,rfl,by decide,by decide⟩,fun σ2 ts hR hT=>?_⟩
   obtain ⟨σA,a1,a2,a3⟩:=Q1h (t:=kw [115,116,114,105,110,103]) (ts:=nm n.1 :: (Q24 q.1 false++sg 59 :: ts)) hT (l:=[111,112,97,113,117,101]) (by decide)
   obtain ⟨σB,b1,b2,b3⟩:=Q1Q a2 rfl
   obtain ⟨b,σC,c1,c2,c3⟩:=n3 σB _ (((hR.left e1).left e2).right (a3.trans b3)) b2
   obtain ⟨σD,d1,d2,d3⟩:=Qaj b4 c3
   refine ⟨⟨n.1,b,.str q.1 false⟩,σD,?_,rfl,(c2.left e4).right d3,d2⟩
   unfold decl
   rw [Qh (Qj a1)]
   unfold Q3m
   rw [if_neg (by simp),Qh (Qj b1)]
   unfold Q3M
   rw [if_pos rfl,Qh c1,Qh (Qj d1)]
   rfl
  ·obtain ⟨ty,σc,h3,h⟩:=QL h
   obtain ⟨i3,e3,b3⟩:=Q57 h3 i2
   obtain ⟨w,σd,h4,h⟩:=QL h
   obtain ⟨i4,e4⟩:=Q0z h4 i3
   have e14:=((e1.trans e2).trans e3).trans e4
   /- the way to the type,over the words that are written -/
   have key:∀ σ2 us,NoTy us→Toks t2 σ2 (Q0q ty++us)→∃ ty2 σ',erT ty2=erT ty∧Toks t2 σ' us∧Q06 σ2 σ'∧decl t2 C s σ2=Q4c t2 C ty2 s σ':=by
    intro σ2 us hu hT
    obtain ⟨t,r,e,n1⟩:=Q4p b3 (k:=[111,112,97,113,117,101]) (by simp)
    obtain ⟨t',r',e',n2⟩:=Q4p b3 (k:=[115,116,114,105,110,103]) (by simp)
    rw [e] at e'
    cases e'
    have hT':=hT
    rw [e,List.cons_append] at hT'
    obtain ⟨σA,a1,a2,a3⟩:=Q1h hT' n1
    obtain ⟨σB,b1,b2,b4⟩:=Q1h a2 n2
    rw [← List.cons_append,← e] at b2
    obtain ⟨ty2,σC,c1,c2,c3,c4⟩:=Q7c b3 b2 hu
    refine ⟨ty2,σC,c2,c3,(a3.trans b4).trans c4,?_⟩
    unfold decl
    rw [Qh (Qj a1)]
    unfold Q3m
    rw [if_neg (by simp),Qh (Qj b1)]
    unfold Q3M
    rw [if_neg (by simp),Qh (Qj c1)]
   unfold Q4M at h
   split at h
   ·obtain ⟨n,s2,σe,h5,h⟩:=Q05 h
    obtain ⟨i5,g5,n5⟩:=Q2P (t2:=t2) hC h5 i4
    cases h
    refine ⟨i5,⟨Q0s (Q3A (Or.inl b3)) (Qp (Q03 (by decide)) (Qp g5 Q0Q)),Q4T b3 _⟩,fun σ2 ts hR hT=>?_⟩
    have hT':Toks t2 σ2 (Q0q ty++(sg 42 :: nm n.1 :: sg 59 :: ts)):=by simpa [Q07] using hT
    obtain ⟨ty2,σA,a1,a2,a3,a4⟩:=key σ2 _ (QdW _) hT'
    obtain ⟨σB,b1,b2,b4⟩:=Q1Q a2 (l:=[42]) rfl
    obtain ⟨b,σC,c1,c2,c3⟩:=n5 σB _ ((hR.left e14).right (a3.trans b4)) b2
    refine ⟨⟨n.1,b,.opt ty2⟩,σC,?_,by simp [erD,erT,a1],c2,c3⟩
    rw [a4]
    unfold Q4c
    rw [Qh (Qj b1)]
    unfold Q4M
    rw [if_pos rfl,Qh c1]
    rfl
   ·obtain ⟨n,s2,σe,h5,h⟩:=Q05 h
    obtain ⟨i5,g5,n5⟩:=Q2P (t2:=t2) hC h5 i4
    /- the way to the name -/
    have key2:∀ σ2 us,SR σ1 σ2→Toks t2 σ2 (Q0q ty++nm n.1 :: us)→∃ ty2 b σ',erT ty2=erT ty∧Toks t2 σ' us∧SR σe σ'∧decl t2 C s σ2=Q3L t2 ty2 (n.1,b) s2 σ':=by
     intro σ2 us hR hT
     obtain ⟨ty2,σA,a1,a2,a3,a4⟩:=key σ2 _ (Q7H g5 us) hT
     obtain ⟨σB,b1,b2,b4⟩:=Q1h a2 (l:=[42]) (Q6b g5 (by decide))
     obtain ⟨b,σC,c1,c2,c3⟩:=n5 σB _ ((hR.left e14).right (a3.trans b4)) b2
     refine ⟨ty2,b,σC,a1,c3,c2,?_⟩
     rw [a4]
     unfold Q4c
     rw [Qh (Qj b1)]
     unfold Q4M
     rw [if_neg (by simp),Qh c1]
    obtain ⟨v,σf,h6,h⟩:=QL h
    obtain ⟨i6,e6⟩:=Q55 h6 i5
    /- an array -/
    have arr:∀ {q:Int×Bool} {σg σh:St},Inv σg→Q06 σe σg→bound t1 σg = .ok (q,σh)→Inv σh∧Qcc ⟨n.1,n.2,.arr ty q.1 q.2⟩∧∀ σ2 ts,SR σ1 σ2→Toks t2 σ2 (Q07 ⟨n.1,n.2,.arr ty q.1 q.2⟩++sg 59 :: ts)→∃ e σ2',decl t2 C s σ2 = .ok (e,s2,σ2')∧erD e=erD ⟨n.1,n.2,.arr ty q.1 q.2⟩∧SR σh σ2'∧Toks t2 σ2' (sg 59 :: ts):=by
     intro q σg σh ig eg hb
     obtain ⟨i7,e7,b7⟩:=Q9s hb ig
     refine ⟨i7,⟨Q0s (Q3A (Or.inl b3)) (Qp g5 (Q6W b7)),Q4T b3 _⟩,fun σ2 ts hR hT=>?_⟩
     have hT':Toks t2 σ2 (Q0q ty++nm n.1 :: (Q24 q.1 q.2++sg 59 :: ts)):=by simpa [Q07] using hT
     obtain ⟨ty2,b,σA,a1,a2,a3,a4⟩:=key2 σ2 _ hR hT'
     have fin:∀ σB,Toks t2 σB (Q24 q.1 q.2++sg 59 :: ts)→Q06 σA σB→∃ σC,Q4L t2 (n.1,b) ty2 s2 σB = .ok (⟨n.1,b,.arr ty2 q.1 q.2⟩,s2,σC)∧SR σh σC∧Toks t2 σC (sg 59 :: ts):=by
      intro σB hB eB
      obtain ⟨σC,d1,d2,d3⟩:=Q9t b7 hB
      refine ⟨σC,?_,(((a3.left eg).left e7).right eB).right d3,d2⟩
      unfold Q4L
      rw [Qh (Qj d1)]
      rfl
     rw [a4]
     unfold Q3L
     cases hq:q.2 with
     | true=>
      rw [hq] at fin
      rw [hq] at a2
      obtain ⟨σB,b1,b2,b4⟩:=Q1G (t:=sg 91) (ts:=nu q.1 :: sg 93 :: sg 59 :: ts) a2 [91]
      obtain ⟨σC,c1,c2,c3⟩:=fin σB b2 b4
      refine ⟨⟨n.1,b,.arr ty2 q.1 true⟩,σC,?_,by simp [erD,erT,a1,hq],c2,c3⟩
      rw [Qh (Qj b1)]
      exact c1
     | false=>
      rw [hq] at fin
      rw [hq] at a2
      obtain ⟨σB,b1,b2,b4⟩:=Q1G (t:=sg 60) (ts:=nu q.1 :: sg 62 :: sg 59 :: ts) a2 [91]
      obtain ⟨σB',b1',b2',b4'⟩:=Q1G b2 [60]
      obtain ⟨σC,c1,c2,c3⟩:=fin σB' b2' (b4.trans b4')
      refine ⟨⟨n.1,b,.arr ty2 q.1 false⟩,σC,?_,by simp [erD,erT,a1,hq],c2,c3⟩
      rw [Qh (Qj b1)]
      show bndx _ _ s2 σB=_
      rw [Qh (Qj b1')]
      exact c1
    unfold Q4X at h
    split at h
    ·obtain ⟨q,σg,h7,h⟩:=QL h
     cases h
     exact arr i6 e6 h7
    ·obtain ⟨v2,σg,h7,h⟩:=QL h
     obtain ⟨i7,e7⟩:=Q55 h7 i6
     unfold Q4W at h
     split at h
     ·obtain ⟨q,σh,h8,h⟩:=QL h
      cases h
      exact arr i7 (e6.trans e7) h8
     ·cases h
      refine ⟨i7,⟨?_,?_⟩,fun σ2 ts hR hT=>?_⟩
      ·rw [Q4q b3];exact Q0s (Q3A (Or.inl b3)) (Qp g5 Q0Q)
      ·rw [Q4q b3];exact Q4T b3 _
      ·rw [Q4q b3,List.append_assoc] at hT
       obtain ⟨ty2,b,σA,a1,a2,a3,a4⟩:=key2 σ2 _ hR hT
       obtain ⟨σB,b1,b2,b4⟩:=Q1G a2 [91]
       obtain ⟨σB',b1',b2',b4'⟩:=Q1G b2 [60]
       refine ⟨⟨n.1,b,ty2⟩,σB',?_,by simp [erD,a1],((a3.left (e6.trans e7)).right b4).right b4',b2'⟩
       rw [a4]
       unfold Q3L
       rw [Qh (Qj b1)]
       show bndx _ _ s' σB=_
       rw [Qh (Qj b1')]
       rfl
theorem Qcd (hC:CL C) {d:Qk} (h:arm t1 C s σ1 = .ok (d,s',σ1')) (hi:Inv σ1) :
  Inv σ1'∧(∀ t∈Q07 d,GoodTok t)∧∀ σ2 ts,SR σ1 σ2→Toks t2 σ2 (Q07 d++sg 59 :: ts)→∃ e σ2',arm t2 C s σ2 = .ok (e,s',σ2')∧erD e=erD d∧SR σ1' σ2'∧Toks t2 σ2' ts:=by
 obtain ⟨d0,s0,σx,h0,h9⟩:=Q05 h
 obtain ⟨_,σy,hy,h9⟩:=QL h9
 cases h9
 obtain ⟨y,σa,h1,h2⟩:=QL h0
 obtain ⟨i1,e1⟩:=Q0z h1 hi
 unfold armK at h2
 split at h2
 ·cases h2
  obtain ⟨i2,e2⟩:=QE hy i1
  refine ⟨i2,Q3A (Or.inr rfl),fun σ2 ts hR hT=>?_⟩
  obtain ⟨σA,a1,a2,a3⟩:=Q1Q (t:=kw [118,111,105,100]) (ts:=sg 59 :: ts) hT rfl
  obtain ⟨_,σB,b1,_,b2,b3⟩:=QF a2 (l:=[59]) rfl
  refine ⟨⟨[],0,.void⟩,σB,?_,rfl,((hR.left e1).left e2).right (a3.trans b3),b2⟩
  unfold arm
  have e:bndx (lift (Q0B t2 [118,111,105,100])) (armK t2 C) s σ2 = .ok (⟨[],0,.void⟩,s,σA):=by
   rw [Qh (Qj a1)]
   rfl
  rw [Qh e,Qh (Qj b1)]
  rfl
 ·obtain ⟨i2,g2,n2⟩:=Q7I (t2:=t2) hC h2 i1
  obtain ⟨i3,e3⟩:=QE hy i2
  refine ⟨i3,g2.good,fun σ2 ts hR hT=>?_⟩
  obtain ⟨t,r,et,hv,_⟩:=g2.first
  have hT':=hT
  rw [et,List.cons_append] at hT'
  obtain ⟨σA,a1,a2,a3⟩:=Q1h hT' hv
  rw [← List.cons_append,← et] at a2
  obtain ⟨e,σB,b1,b2,b3,b4⟩:=n2 σA ts ((hR.left e1).right a3) a2
  obtain ⟨_,σC,c1,_,c2,c3⟩:=QF b4 (l:=[59]) rfl
  refine ⟨e,σC,?_,b2,(b3.left e3).right c3,c2⟩
  unfold arm
  have ee:bndx (lift (Q0B t2 [118,111,105,100])) (armK t2 C) s σ2 = .ok (e,s',σB):=by
   rw [Qh (Qj a1)]
   unfold armK
   rw [if_neg (by simp)]
   exact b1
  rw [Qh ee,Qh (Qj c1)]
  rfl
end
end Go.Proofs.YtmbcibgknckenaaGreatDoor
