import Derived.Test.YtmbcibgknckenaaGreatDoorT9
import Derived.Defers
import Derived.Recover
import Derived.Laws.Bits64b
set_option linter.all false
set_option maxRecDepth 100000
set_option maxHeartbeats 4000000
namespace Go.Proofs.YtmbcibgknckenaaGreatDoor
open Go.RowKit
open Go.MapKept
theorem Room.progs:∀ (l:List DefL) {q:CSt×List (Int×PrgL)} {n:Nat},(∀ d∈l,Q47 d)→Room q.1 (n + 256 * l.length)→Room (l.foldl Q0a q).1 n:=by
 intro l
 induction l with
 | nil=>intro q n _ h;exact h
 | cons d l ih=>
  intro q n hp h
  refine ih (fun x hx=>hp x (List.mem_cons_of_mem _ hx)) ?_
  have hd:=hp d (by simp)
  cases d with
  | prog t a vs num=>exact Room.vers vs (q:=(q.1,_)) hd.2.2 (h.less (by have:=hd.2.1;simp only [List.length_cons];omega))
  | _=>exact h.less (by simp only [List.length_cons];omega)
theorem Q4X.more {bs bs':List (Nat×Obj)} (hb:∀ p∈bs,p∈bs') {q:PrgB} (h:Q4X bs q):Q4X bs' q:=⟨hb _ h.1,fun p hp=>hb _ (h.2 p hp)⟩
theorem Qf3 (l:List (Int×PrgB)) (k:Int) (q:PrgB):Q9L (mput l k q)=mput (Q9L l) k (Qbb q):=Q8P Qbb l k q
theorem Qdn {d:DefL} (h:∀ t a vs n,d≠.prog t a vs n) (b:Nat) (W:World):(Instr.typeAssert (.iface (defT d) (.pointer (some ⟨b,0,none⟩))) 113 186 true).run Tryz.prog W = .ok (.tuple #[.pointer none,.bool false]) W:=by
 cases d with
 | prog t a vs n=>exact absurd rfl (h t a vs n)
 | _=>kernel_rfl
theorem Qb3 {d:DefL} (h:∀ t a vs n,d≠.prog t a vs n) (q:CSt×List (Int×PrgL)):Q0a q d=q:=by
 cases d with
 | prog t a vs n=>exact absurd rfl (h t a vs n)
 | _=>rfl
structure Qbc (w:World) (a:CAd) (Fr bs:List (Nat×Obj)) (B:Nat) (Q:CSt×List (Int×PrgL)) (lp:List (Int×PrgB)) (bk:List (Nat×Obj)) (sl ks:Value) (cv:List (Qj×Value)) (et:List (List UInt8×NumL×Value)) (ur:World):Prop where
 sub:∀ p∈bs,p∈bk
 pin:∀ p∈lp,Q4X bk p.2
 bare:Q9L lp=Q.2
 nd:(lp.map (·.1)).Nodup
 cp:Cp w a ((B,Q46 lp) :: Fr) bk Q.1 sl ks cv et ur
def Qk1 (w:World) (a:CAd) (Fr bs:List (Nat×Obj)) (ds:List DefL) (s:CSt) (e:Ending) (u':World):Prop:=∃ P lp bs',e = .returned (.map (some P))∧(∀ p∈bs,p∈bs')∧(P,Q46 lp)∈bs'∧(∀ p∈lp,Q4X bs' p.2)∧Q9L lp=(ds.foldl Q0a (s,[])).2∧(lp.map (·.1)).Nodup∧QC w a Fr bs' (ds.foldl Q0a (s,[])).1 u'
set_option maxHeartbeats 8000000 in
theorem Qf4 {w u:World} {a:CAd} {Fr bs:List (Nat×Obj)} {s:CSt} {sl ks:Value} {cv:List (Qj×Value)} {et:List (List UInt8×NumL×Value)} {bs0:List (Nat×Obj)} {dsl:Value} {ds:List DefL} {ps:List Nat} (hd:Q2t bs0 dsl ds ps) (hw:∀ p∈bs0,w.heap[p.1]? = some p.2) (hn:ds.length≤100) (hgd:∀ d∈ds,Q47 d) (h:Cp w a Fr bs s sl ks cv et u) (hr:Room s 27000) :
  Calls Tryz.prog 55 #[.pointer (some ⟨a.C,0,none⟩),dsl] u (Qk1 w a Fr bs ds s):=by
 have hmm:∀ (t:TypeId) (w:World),(Instr.makeMap t none).run Tryz.prog w = .ok (.map (some w.heap.size)) (w.alloc (.map #[] 0)):=fun _ _=>rfl
 have hcv:=Q8Z
 obtain ⟨hpl,hrow,hea⟩:=hd
 have HRM:=Hid.mk hr
 have HGD:=Hid.mk hgd
 have M0:Hid (Qbc w a Fr bs u.heap.size ((ds.take 0).foldl Q0a (s,[])) [] bs sl ks cv et (u.alloc (.map #[] 0))):=⟨fun _ hp=>hp,(by intro p hp;cases hp),rfl,by simp,h.alloc (.map #[] 0)⟩
 have hcell:∀ (v:World),Qb [] w v→∀ i (hi:i < ds.length) (hi':i < ps.length),∃ g cap,dsl = .slice (some ⟨g,0,none⟩) ds.length cap∧ds.length≤cap∧v.cell? ⟨g,i,none⟩=some (.iface (defT ds[i]) (.pointer (some ⟨ps[i],0,none⟩))):=by
  intro v hv i hi hi'
  rcases hrow with ⟨_,h0,_⟩ | ⟨g,cap,cur,e,⟨h1,_⟩,hg,htake⟩
  ·omega
  ·exact ⟨g,cap,e,h1,Qw ((hv.block _ (Qc (hw _ hg)) (by simp)).trans (hw _ hg)) htake (by unfold Q1D;rw [List.getElem?_map,List.getElem?_eq_getElem (by simp;omega)];simp)⟩
 obtain ⟨dad,dcap,rfl⟩:∃ ad cap,dsl = .slice ad ds.length cap:=by
  rcases hrow with ⟨e,h0,_⟩ | ⟨g,cap,cur,e,_⟩
  ·exact ⟨none,0,by rw [e,h0]⟩
  ·exact ⟨_,_,e⟩
 have HCL:=Hid.mk hcell
 have HEA:=Hid.mk hea
 have HW:=Hid.mk hw
 clear hcell hrow hea hw h hr hgd
 go_enter Tryz.func55,Tryz.ntmps55
 go_wp2
 go_loopw [12] (fun i ur=>∃ (k:Nat) (lp:List (Int×PrgB)) (bk:List (Nat×Obj)) (sl ks:Value) (cv:List (Qj×Value)) (et:List (List UInt8×NumL×Value)),i = .int .i64 k∧k≤ds.length∧Hid (Qbc w a Fr bs u.heap.size ((ds.take k).foldl Q0a (s,[])) lp bk sl ks cv et ur)) (fun i _=>ds.length - (intOf i).toNat)
 case atStart=>exact ⟨0,_,_,_,_,_,_,rfl,by omega,M0⟩
 case round=>
  obtain ⟨k,lp,bk,sl1,ks1,cv1,et1,rfl,hk,G⟩:=hrel
  clear M0
  rcases Nat.lt_or_ge k ds.length with hlt | hge
  ·have hlt':k < ps.length:=by omega
   have hrm:Room ((ds.take k).foldl Q0a (s,[])).1 400:=Room.progs (ds.take k) (fun d hd=>HGD.out d (List.mem_of_mem_take hd)) (HRM.out.less (by simp;omega))
   have HST:Hid ((ds.take (k + 1)).foldl Q0a (s,[])=Q0a ((ds.take k).foldl Q0a (s,[])) ds[k]):=by show _=_;rw [List.take_succ_eq_append_getElem hlt,List.foldl_append];rfl
   generalize hp:(ds.take k).foldl Q0a (s,[])=q at *
   obtain ⟨g,cap,hds,hcap,q0⟩:=HCL.out _ G.out.cp.own.kp k hlt hlt'
   cases hds
   have hk0:(0:Int)≤↑k:=by omega
   have hk1:(↑k:Int) < ↑ds.length:=by omega
   by_cases hpr:∃ t a vs n,ds[k] = .prog t a vs n
   ·obtain ⟨t,pa,vs,num,hdk⟩:=hpr
    have hdi:=HEA.out k hlt hlt'
    have hgk:=HGD.out ds[k] (List.getElem_mem hlt)
    rw [hdk] at hdi hgk q0
    have hta:∀ W,(Instr.typeAssert (.iface 186 (.pointer (some ⟨ps[k],0,none⟩))) 113 186 true).run Tryz.prog W = .ok (.tuple #[.pointer (some ⟨ps[k],0,none⟩),.bool true]) W:=fun W=>by kernel_rfl
    replace q0:wr.cell? ⟨g,k,none⟩=some (.iface 186 (.pointer (some ⟨ps[k],0,none⟩))):=q0
    have hbx:∀ (v:World),Qb [] w v→v.cell? ⟨ps[k],3,none⟩=some (.int .i64 num):=by
     intro v hv
     obtain ⟨vsl,cs,hb,_⟩:=hdi
     exact (Q8c ((hv.block _ (Qc (HW.out _ hb)) (by simp)).trans (HW.out _ hb))).2.2.2
    have f3:=hbx _ G.out.cp.own.kp
    have HBX:=Hid.mk hbx
    have VA:=Hid.mk (QgH hdi HW.out hgk (G.out.cp.below ((Below.refl _ _).drew)) hrm)
    clear hdi hgk hbx hrm
    go_wp2_with fail
    refine QE (fun w'=>w'.cell? ⟨ps[k],3,none⟩=some (.int .i64 num)) (L:=9) (by kernel_rfl) rfl (by kernel_rfl) (by kernel_rfl) ?_ (fun hHeld=>?_)
    ·go_keep
    refine tk (i:=0) (v:=?_) rfl (by kernel_rfl) (fun _ _ _ h=>h) (by rfl) (by assumption) ?_ ?_
    rotate_left
    ·intro w hSw;(try dsimp only at hSw);go_simp;(try with_reducible rfl)
    (try simp only [Qd,Qe,List.set])
    refine tk (i:=1) (v:=?_) rfl (by kernel_rfl) (fun _ _ _ h=>h) (by rfl) (by assumption) ?_ ?_
    rotate_left
    ·intro w hSw;(try dsimp only at hSw);go_simp;(try with_reducible rfl)
    (try simp only [Qd,Qe,List.set])
    refine tk (i:=2) (v:=?_) rfl (by kernel_rfl) (fun _ _ _ h=>h) (by rfl) (by assumption) ?_ ?_
    rotate_left
    ·intro w hSw;(try dsimp only at hSw);go_simp;(try with_reducible rfl)
    (try simp only [Qd,Qe,List.set])
    refine tk (i:=3) (v:=?_) rfl (by kernel_rfl) (fun _ _ _ h=>h) (by rfl) (by assumption) ?_ ?_
    rotate_left
    ·intro w hSw;(try dsimp only at hSw);go_simp;(try with_reducible rfl)
    (try simp only [Qd,Qe,List.set])
    refine tk (i:=4) (v:=?_) rfl (by kernel_rfl) (fun _ _ _ h=>h) (by rfl) (by assumption) ?_ ?_
    rotate_left
    ·intro w hSw;(try dsimp only at hSw);go_simp;(try with_reducible rfl)
    (try simp only [Qd,Qe,List.set])
    refine tk (i:=5) (v:=?_) rfl (by kernel_rfl) (fun _ _ _ h=>h) (by rfl) (by assumption) ?_ ?_
    rotate_left
    ·intro w hSw;(try dsimp only at hSw);go_simp;(try with_reducible rfl)
    (try simp only [Qd,Qe,List.set])
    refine tk (i:=6) (v:=?_) rfl (by kernel_rfl) (fun _ _ _ h=>h) (by rfl) (by assumption) ?_ ?_
    rotate_left
    ·intro w hSw;(try dsimp only at hSw);go_simp;(try with_reducible rfl)
    (try simp only [Qd,Qe,List.set])
    refine tk (i:=7) (v:=?_) rfl (by kernel_rfl) (fun _ _ _ h=>h) (by rfl) (by assumption) ?_ ?_
    rotate_left
    ·intro w hSw;(try dsimp only at hSw);go_simp;(try with_reducible rfl)
    (try simp only [Qd,Qe,List.set])
    refine wpAnyH_ready (rs:=[8]) (by kernel_rfl) (by simp) ?_
    refine AllReadyH.cons rfl (fun K hK=>?_) AllReadyH.nil
    (go_simp;go_at_call 102;refine VA.out.mono ?_;rintro e w7 ⟨pg,bs7,rfl,hb7,hin,hbare,sb8,sl7,ks7,cv7,et7,hb8,M7⟩;have f7:=HBX.out _ M7.own.kp;have hmap:=(M7.own.hf _ List.mem_cons_self).1;have pu:=QgF hmap G.out.nd (u32 num) pg;have M8:=M7.setFr (Q08 _ _ _) (Q1l (Qc hmap) (Q46 (mput lp (u32 num) pg)));obtain ⟨W,hW⟩:∃ W,W=putObj w7 u.heap.size (Q46 (mput lp (u32 num) pg)):=⟨_,rfl⟩;rw [← hW] at pu M8;have M8:=Hid.mk M8;clear M7 hmap hW)
    refine hK.out _ _ ?_ (fun hHeld=>?_)
    ·go_keep
    clear hK K
    (try simp only [Qd,Qe,List.set])
    refine wpAnyH_done (by kernel_rfl) ?_ _
    refine QK rfl (fun K hK=>?_)
    go_simp
    refine hK.out _ _ ?_
    clear hK K
    (try simp only [Qd,Qe,List.set])
    have hN:Hid (Qbc w a Fr bs u.heap.size ((ds.take (k + 1)).foldl Q0a (s,[])) (mput lp (u32 num) pg) sb8 sl7 ks7 cv7 et7 W):=by
     rw [HST.out,hdk]
     refine ⟨fun p hp=>hb8 p (hb7 p (G.out.sub p hp)),?_,?_,Q2v G.out.nd _ _,M8.out⟩
     ·intro p hp
      rcases Q8Q hp with hp | rfl
      ·exact (G.out.pin p hp).more fun x hx=>hb8 x (hb7 x hx)
      ·exact hin.more hb8
     ·rw [Qf3,G.out.bare,hbare]
      rfl
    clear M8 VA
    go_wp2
    exact ⟨⟨k + 1,_,_,_,_,_,_,by go_num,by omega,hN⟩,by simp [intOf];omega⟩
   ·have hnp:∀ t a vs n,ds[k]≠.prog t a vs n:=fun t a vs n e=>hpr ⟨t,a,vs,n,e⟩
    have hta:=Qdn hnp ps[k]
    have hN:Hid (Qbc w a Fr bs u.heap.size ((ds.take (k + 1)).foldl Q0a (s,[])) lp bk sl1 ks1 cv1 et1 wr):=by
     rw [HST.out,Qb3 hnp]
     exact G.out
    go_wp2
    exact ⟨⟨k + 1,_,_,_,_,_,_,by go_num,by omega,hN⟩,by simp [intOf];omega⟩
  ·have hkk:k=ds.length:=by omega
   subst hkk
   have G:=G.out
   rw [List.take_length] at G
   have G:=Hid.mk G
   go_wp2
   go_ret
   exact ⟨u.heap.size,lp,_,rfl,fun p hp=>List.mem_cons_of_mem _ (G.out.sub p hp),List.mem_cons_self,fun p hp=>(G.out.pin p hp).more fun x hx=>List.mem_cons_of_mem _ hx,G.out.bare,G.out.nd,G.out.cp.give.gives⟩
structure Q7S (bs:List (Nat×Obj)) (v:Value) (S P:Nat) (ds:List DefL):Prop where
 code:Q3V bs v (Q1o ds).1
 types:(S,Q0F (Q1o ds).2)∈bs
 nd:((Q1o ds).2.map (·.1)).Nodup
 progs:∃ lp,(P,Q46 lp)∈bs∧(∀ p∈lp,Q4X bs p.2)∧Q9L lp=(QdN ds).2∧(lp.map (·.1)).Nodup
def Qk2 (u:World) (ds:List DefL) (e:Ending) (u':World):Prop:=∃ v S P bs,e = .returned (.agg #[v,.map (some S),.map (some P)])∧Qb [] u u'∧Q7S bs v S P ds∧∀ p∈bs,u'.heap[p.1]? = some p.2
theorem Qi2 {ds:List DefL}:∀ k∈(ds.foldl Q0a ((ds.foldl QJ (QN ds,[])).1,[])).1.calls,k.1 < (ds.foldl Q0a ((ds.foldl QJ (QN ds,[])).1,[])).1.code.length:=by
 obtain ⟨c1,_⟩:=Q8V (fun _=>0) ds.length ds rfl
 obtain ⟨s1,_⟩:=Q9C (fun _=>0) (QN ds) c1 ds.length ds rfl
 exact (Qar (fun _=>0) ds _ s1).1.wf.lt
set_option maxHeartbeats 8000000 in
theorem QkJ {u:World} {bs0:List (Nat×Obj)} {dsl:Value} {ds:List DefL} {ps:List Nat} (hd:Q2t bs0 dsl ds ps) (hw:∀ p∈bs0,u.heap[p.1]? = some p.2) (hty:Q7K ds) (hgd:∀ d∈ds,Q47 d) (hn:ds.length≤100) :
  Calls Tryz.prog 29 #[dsl] u (Qk2 u ds):=by
 have hmm:∀ (t:TypeId) (w:World),(Instr.makeMap t none).run Tryz.prog w = .ok (.map (some w.heap.size)) (w.alloc (.map #[] 0)):=fun _ _=>rfl
 have HD:=Hid.mk hd
 have HGD:=Hid.mk hgd
 obtain ⟨hpl,hrow,hea⟩:=hd
 have hfew:∀ d∈ds,Q9J d:=by
  intro d hd
  obtain ⟨i,hi,rfl⟩:=List.getElem_of_mem hd
  exact QgB (hea i hi (by omega))
 have R0:Hid (Room st0C (28000 + 5000 + 300 + 4100 * ds.length)):=⟨by simp [st0C];omega,by simp [st0C]⟩
 have HFEW:=Hid.mk hfew
 have HTY:=Hid.mk hty
 have M0:=Hid.mk (QhZ u).gives
 have hcell:∀ (v:World),Qb [] u v→∀ i (hi:i < ds.length) (hi':i < ps.length),∃ g cap,dsl = .slice (some ⟨g,0,none⟩) ds.length cap∧ds.length≤cap∧v.cell? ⟨g,i,none⟩=some (.iface (defT ds[i]) (.pointer (some ⟨ps[i],0,none⟩))):=by
  intro v hv i hi hi'
  rcases hrow with ⟨_,h0,_⟩ | ⟨g,cap,cur,e,⟨h1,_⟩,hg,htake⟩
  ·omega
  ·exact ⟨g,cap,e,h1,Qw ((hv.block _ (Qc (hw _ hg)) (by simp)).trans (hw _ hg)) htake (by unfold Q1D;rw [List.getElem?_map,List.getElem?_eq_getElem (by simp;omega)];simp)⟩
 obtain ⟨dad,dcap,rfl⟩:∃ ad cap,dsl = .slice ad ds.length cap:=by
  rcases hrow with ⟨e,h0,_⟩ | ⟨g,cap,cur,e,_⟩
  ·exact ⟨none,0,by rw [e,h0]⟩
  ·exact ⟨_,_,e⟩
 have HCL:=Hid.mk hcell
 have HEA:=Hid.mk hea
 have HW:=Hid.mk hw
 clear hcell hrow hea hw hfew hty hgd
 go_enter Tryz.func29,Tryz.ntmps29
 go_wp2
 go_loopw [14] (fun i ur=>∃ k:Nat,i = .int .i64 k∧k≤ds.length∧Hid (QC u ⟨u.heap.size + 3,u.heap.size + 1,u.heap.size + 2⟩ [(u.heap.size,Q4R (.slice none 0 0) none none)] [] (QN (ds.take k)) ur)) (fun i _=>ds.length - (intOf i).toNat)
 case atStart=>exact ⟨0,rfl,by omega,M0⟩
 case round=>
  obtain ⟨k,rfl,hk,G⟩:=hrel
  clear M0
  rcases Nat.lt_or_ge k ds.length with hlt | hge
  ·have hlt':k < ps.length:=by omega
   have hrm:Room (QN (ds.take k)) 5000:=Room.defs (ds.take k) (fun d hd=>HTY.out d (List.mem_of_mem_take hd)) (fun d hd=>HFEW.out d (List.mem_of_mem_take hd)) (R0.out.less (by simp;omega))
   obtain ⟨bs1,sl1,ks1,cv1,et1,hb1,M1⟩:=G.out
   obtain ⟨g,cap,hds,hcap,q0⟩:=HCL.out _ M1.own.kp k hlt hlt'
   cases hds
   have VD:=Hid.mk (Qci (HEA.out k hlt hlt') HW.out (HTY.out ds[k] (List.getElem_mem hlt)) M1 hrm)
   have hk0:(0:Int)≤↑k:=by omega
   have hk1:(↑k:Int) < ↑ds.length:=by omega
   have HST:Hid (QN (ds.take (k + 1))=QO ds[k] (QN (ds.take k))):=by show _=_;rw [List.take_succ_eq_append_getElem hlt,Q3y]
   clear M1 hrm hb1 G
   go_wp2_with fail
   refine VD.out.mono ?_
   rintro e w2 ⟨rfl,M3⟩
   have G3:Hid (QC u ⟨u.heap.size + 3,u.heap.size + 1,u.heap.size + 2⟩ [(u.heap.size,Q4R (.slice none 0 0) none none)] [] (QN (ds.take (k + 1))) w2):=by
    rw [HST.out]
    exact QC.more (by intro p hp;cases hp) M3
   clear M3 VD
   go_wp2
   exact ⟨⟨k + 1,by go_num,by omega,G3⟩,by simp [intOf];omega⟩
  ·have hkk:k=ds.length:=by omega
   subst hkk
   have G:=G.out
   rw [List.take_length] at G
   have R1:Room (QN ds) 33000:=Room.defs ds HTY.out HFEW.out (R0.out.less (by omega))
   obtain ⟨bs1,sl1,ks1,cv1,et1,hb1,M1⟩:=G
   have R2:Hid (Room (ds.foldl QJ (QN ds,[])).1 32000):=Room.starts ds (p:=(QN ds,[])) (R1.less (by omega))
   have R3:Hid (Room (ds.foldl Q0a ((ds.foldl QJ (QN ds,[])).1,[])).1 100):=Room.progs ds (q:=((ds.foldl QJ (QN ds,[])).1,[])) HGD.out (R2.out.less (by omega))
   have VS:=Hid.mk (Qk0 HD.out HW.out hn M1 (R1.less (by omega)))
   clear M1 R0 R1
   go_wp2_with fail
   refine VS.out.mono ?_
   rintro e w2 ⟨S,bs2,rfl,hs2,hS,bs3,sl3,ks3,cv3,et3,hb3,M3⟩
   have VP:=Hid.mk (Qf4 HD.out HW.out hn HGD.out M3 (R2.out.less (by omega)))
   have HS:=Hid.mk (hb3 _ hS)
   clear M3 VS hS
   go_wp2_with fail
   refine VP.out.mono ?_
   rintro e w4 ⟨P,lp,bs4,rfl,hs4,hP,hpin,hbare,hlpn,bs5,sl5,ks5,cv5,et5,hb5,M5⟩
   have hwf:=Qi2 (ds:=ds)
   have hc9:=R3.out.code
   have hc8:=R3.out.calls
   have HLEN:Hid ((Q1o ds).1.length < 1000000):=by
    have:=(Qcj (ds.foldl Q0a ((ds.foldl QJ (QN ds,[])).1,[])).1.calls (ds.foldl Q0a ((ds.foldl QJ (QN ds,[])).1,[])).1).1
    exact Nat.lt_of_le_of_lt (Nat.le_of_eq this) (by omega)
   have VL:=Hid.mk (QkH M5 hwf (by omega) (by omega))
   have HBARE:=Hid.mk hbare
   have HPIN:=Hid.mk hpin
   clear M5 hwf VP hbare hpin
   go_wp2_with fail
   refine VL.out.mono ?_
   rintro e w7 ⟨rfl,cv7,M7⟩
   obtain ⟨sa,sc,rfl⟩:=M7.slice
   obtain ⟨c0,c1,c2,c3,hfz,hlt9⟩:=M7.cells
   have hR:=(M7.own.hf _ List.mem_cons_self).1
   obtain ⟨r0,r1,r2,rfr,rlt⟩:=Q4l hR
   obtain ⟨t0,t1,t2,_,_⟩:=Q4l (Q79 (x:=.slice sa (Q6i (ds.foldl Q0a ((ds.foldl QJ (QN ds,[])).1,[])).1).code.length sc) (y:=.map (some S)) (z:=.map (some P)) hR)
   have M9:=Hid.mk (M7.setFr (Qav (.slice sa (Q6i (ds.foldl Q0a ((ds.foldl QJ (QN ds,[])).1,[])).1).code.length sc) (.map (some S)) (.map (some P))) (Q79 hR))
   clear VL M7 hR
   go_wp2
   refine bodyPost_ret (v:=.agg #[.slice sa (Q6i (ds.foldl Q0a ((ds.foldl QJ (QN ds,[])).1,[])).1).code.length sc,.map (some S),.map (some P)]) (by simp [results,Tryz.results29,go_sem,t0,t1,t2]) rfl ?_
   obtain ⟨bs',h1,h2,h3⟩:=M9.out.codeIn HLEN.out
   exact ⟨_,S,P,bs',rfl,M9.out.own.kp,⟨h1,h2 _ (hb5 _ (hs4 _ HS.out)),Q7P _ (by simp),lp,h2 _ (hb5 _ hP),fun p hp=>(HPIN.out p hp).more fun x hx=>h2 _ (hb5 _ hx),HBARE.out,hlpn⟩,h3⟩
theorem Qk3 (T:TypeId) (x:Value) (w:World) (h:T=79):(binOp BinOp.neq 20 (.iface T x) .nilIface).run Tryz.prog w = .ok (.bool true) w:=by subst h;kernel_rfl
theorem Q8u (w:World):(binOp BinOp.neq 20 .nilIface .nilIface).run Tryz.prog w = .ok (.bool false) w:=by kernel_rfl
theorem Qf5 (p q:Addr) (w:World) :
  CallsD Tryz.prog 26 #[.pointer (some p),.pointer (some q)] .returning w fun e u' w'=>e = .returned (.tuple #[])∧u' = .returning∧w'=w:=by
 have hn:=Q8u
 refine callsD_of_wpS Tryz.func26 rfl fun c₀ cs hu=>?_
 apply wpS_seq
 apply wpS_region
 simp [wpOpsS,go_sem,recoverD,hu,Tryz.ntmps26,Exit.thenS]
 apply wpS_seq
 apply wpS_region
 simp [wpOpsS,go_sem,Exit.thenS,hn]
 refine wpS_cond (t:=false) (by simp [Act.eval,Array.replicate]) ?_
 simp only [Bool.false_eq_true,if_false]
 refine wpS_of_wp (wp_skip ?_)
 cases c₀
 simp_all [bodyPostS,results,Tryz.results26]
def Q3W (bs:List (Nat×Obj)) (B:Nat) (ds:List DefL):Prop:=∃ dsl ps v S P,(B,Obj.cells #[dsl,v,.map (some S),.map (some P)] 70)∈bs∧Q2t bs dsl ds ps∧Q7S bs v S P ds
def Qk4 (w:World) (ds:List DefL) (e:Ending) (w':World):Prop:=∃ B bs,e = .returned (.tuple #[.pointer (some ⟨B,0,none⟩),.nilIface])∧Qb [] w w'∧Q3W bs B ds∧(∀ p∈bs,w'.heap[p.1]? = some p.2)∧w.heap.size≤B
theorem Q2t.slice {bs:List (Nat×Obj)} {sl:Value} {ds:List DefL} {ps:List Nat} (h:Q2t bs sl ds ps):∃ a b c,sl = .slice a b c:=by
 rcases h.row with ⟨e,_⟩ | ⟨g,cap,cur,e,_⟩<;>exact ⟨_,_,_,e⟩
theorem Q3V.slice {bs:List (Nat×Obj)} {v:Value} {c:List Qj} (h:Q3V bs v c):∃ a b d,v = .slice a b d:=by
 obtain ⟨cv,_,h2,_⟩:=h
 rcases h2 with ⟨e,_⟩ | ⟨g,cap,cur,e,_⟩<;>exact ⟨_,_,_,e⟩
def Q3m:Obj→Bool
 | .cells _ T _=>(T != 22) && (T != 24)
 | _=>true
theorem Q0r.good {bs bs':List (Nat×Obj)} (hb:∀ p∈bs,Q3m p.2=true→p∈bs') {e:TypeId} {v:Value} {n:Nat} {xs:List Value} (he:((e != 22) && (e != 24))=true) (h:Q0r bs e v n xs):Q0r bs' e v n xs:=by
 rcases h with h | ⟨g,cap,cur,h1,h2,h3,h4⟩
 ·exact Or.inl h
 ·exact Or.inr ⟨g,cap,cur,h1,h2,hb _ h3 he,h4⟩
theorem Q0n.good {bs bs':List (Nat×Obj)} (hb:∀ p∈bs,Q3m p.2=true→p∈bs') {b:Nat} {d:DefL} (hd:Q0n bs b d):Q0n bs' b d:=by
 have hc:∀ b m,Q5o bs b m→Q5o bs' b m:=fun b m hm=>hb _ hm rfl
 cases d with
 | const t a v=>exact hc _ _ hd
 | typedef d=>exact hb _ hd rfl
 | enum t a ms=>obtain ⟨sl,ps,h1,h2,h3,h4⟩:=hd;exact ⟨sl,ps,hb _ h1 rfl,h2,h3.good hb rfl,fun i h h'=>hc _ _ (h4 i h h')⟩
 | struct t a ms=>obtain ⟨sl,h1,h2⟩:=hd;exact ⟨sl,hb _ h1 rfl,h2.good hb rfl⟩
 | union t a sel arms=>obtain ⟨sl,cs,h1,h2,h3,h4⟩:=hd;exact ⟨sl,cs,hb _ h1 rfl,h2,h3.good hb rfl,fun i h h'=>(h4 i h h').good hb rfl⟩
 | prog t a vs num=>obtain ⟨sl,cs,h1,h2,h3,h4⟩:=hd;exact ⟨sl,cs,hb _ h1 rfl,h2,h3.good hb rfl,fun i h h'=>(h4 i h h').good hb rfl⟩
theorem Q2t.good {bs bs':List (Nat×Obj)} (hb:∀ p∈bs,Q3m p.2=true→p∈bs') {sl:Value} {ds:List DefL} {ps:List Nat} (h:Q2t bs sl ds ps):Q2t bs' sl ds ps:=
 ⟨h.len,h.row.good hb rfl,fun i h1 h2=>(h.each i h1 h2).good hb⟩
theorem Q1u.good {bs bs':List (Nat×Obj)} (hb:∀ p∈bs,Q3m p.2=true→p∈bs') {cs:List Value} {n:NumL} (h:Q1u bs cs n):Q1u bs' cs n:=by
 obtain ⟨m,h1,h2,h3⟩:=h
 refine ⟨m,h1,?_,h3⟩
 cases hm:n.mem with
 | none=>rw [hm] at h2;exact h2
 | some l=>rw [hm] at h2;exact ⟨h2.1,h2.2.good hb rfl⟩
theorem Q1W.good {bs bs':List (Nat×Obj)} (hb:∀ p∈bs,Q3m p.2=true→p∈bs') {v:Value} {x:Qj} (h:Q1W bs v x):Q1W bs' v x:=by
 cases x with
 | num n=>obtain ⟨cs,h1,h2⟩:=h;exact ⟨cs,h1,h2.good hb⟩
 | choice n ws o=>
  obtain ⟨cs,m,ov,h1,h2,h3,h4⟩:=h
  refine ⟨cs,m,ov,h1,h2.good hb,hb _ h3 rfl,?_⟩
  cases o with
  | none=>exact h4
  | some q=>obtain ⟨b,h5,h6⟩:=h4;exact ⟨b,h5,hb _ h6 rfl⟩
 | _=>exact h
theorem Q3V.good {bs bs':List (Nat×Obj)} (hb:∀ p∈bs,Q3m p.2=true→p∈bs') {v:Value} {c:List Qj} (h:Q3V bs v c):Q3V bs' v c:=by
 obtain ⟨cv,h1,h2,h3,h4⟩:=h
 refine ⟨cv,h1,?_,fun p hp=>(h3 p hp).good hb,h4⟩
 rcases h2 with h2 | ⟨g,cap,cur,e1,e2,e3,e4⟩
 ·exact Or.inl h2
 ·exact Or.inr ⟨g,cap,cur,e1,e2,hb _ e3 rfl,e4⟩
theorem Q4X.good {bs bs':List (Nat×Obj)} (hb:∀ p∈bs,Q3m p.2=true→p∈bs') {q:PrgB} (h:Q4X bs q):Q4X bs' q:=⟨hb _ h.1 rfl,fun p hp=>hb _ (h.2 p hp) rfl⟩
theorem Q7S.good {bs bs':List (Nat×Obj)} (hb:∀ p∈bs,Q3m p.2=true→p∈bs') {v:Value} {S P:Nat} {ds:List DefL} (h:Q7S bs v S P ds):Q7S bs' v S P ds:=by
 obtain ⟨lp,h1,h2,h3,h4⟩:=h.progs
 exact ⟨h.code.good hb,hb _ h.types rfl,h.nd,lp,hb _ h1 rfl,fun p hp=>(h2 p hp).good hb,h3,h4⟩
theorem Qk5 {text:ByteArray} {ds:List DefL} (ht:Q1J text = .ok ds) (hpg:∀ d∈ds,Q47 d) {w:World} (hg:Gl w):Calls Tryz.prog 11 #[.string text] w (Qk4 w ds):=by
 have hmf:∀ (fn:Fn) (first cap:Array Value) (w:World),(Instr.makeFunc fn first cap).run Tryz.prog w = .ok (.func fn first cap) w:=fun _ _ _ _=>rfl
 have hb0:Below w.heap.size w ((w.alloc (.cells #[.pointer none] 22)).alloc (.cells #[.nilIface] 24)):=((Below.refl _ _).alloc (Nat.le_refl _) _).alloc (by simp) _
 have VT:=Hid.mk (QhB text (hg.below hb0))
 have HTX:=Hid.mk ht
 have o2:((w.alloc (.cells #[.pointer none] 22)).alloc (.cells #[.nilIface] 24)).heap[w.heap.size]? = some (.cells #[.pointer none] 22):=(Below.heap_alloc _ _ _ (by simp)).trans (Qg rfl)
 have o3:((w.alloc (.cells #[.pointer none] 22)).alloc (.cells #[.nilIface] 24)).heap[w.heap.size + 1]? = some (.cells #[.nilIface] 24):=Qg (by simp)
 clear hg
 go_enter_defers Tryz.func11,Tryz.ntmps11
 go_wp2_with fail
 refine VT.out.mono ?_
 rintro e w1 (⟨ds1,sl1,ps1,bs1,hx,rfl,hk1,hdi,hh1⟩ | ⟨f,hx,_⟩)
 rotate_left
 ·exact absurd (HTX.out.symm.trans hx) (by simp)
 obtain rfl:ds=ds1:=by have:=HTX.out.symm.trans hx;injection this
 obtain ⟨sa,sb,sc,rfl⟩:=hdi.slice
 have VC:=Hid.mk (QkJ hdi hh1 (Q8t HTX.out) hpg (by have:=QgD HTX.out;omega))
 have K1:=Hid.mk hk1
 have HDI:=Hid.mk hdi
 have HH1:=Hid.mk hh1
 clear VT hx hdi hh1 hk1
 go_wp2_with fail
 refine VC.out.mono ?_
 rintro e w2 ⟨v,S,P,bs2,rfl,hk2,hci,hh2⟩
 obtain ⟨va,vb,vc,rfl⟩:=hci.code.slice
 have K2:=Hid.mk (K1.out.trans hk2)
 have HC:=Hid.mk hci
 have HH2:=Hid.mk hh2
 have KK2:=Hid.mk hk2
 have p2:=(K2.out.block _ (Qc o2) (by simp)).trans o2
 have p3:=(K2.out.block _ (Qc o3) (by simp)).trans o3
 have c2:=Qv p2
 have c3:=Qv p3
 have f2:∀ i,w2.frozen? ⟨w.heap.size,i,none⟩=false:=by intro i;simp [World.frozen?,p2]
 have f3:∀ i,w2.frozen? ⟨w.heap.size + 1,i,none⟩=false:=by intro i;simp [World.frozen?,p3]
 have l3:=Qc p3
 clear hk2 hci hh2 VC
 have hbf:Hid (∀ x y,Qb [] w (((w2.alloc (.cells #[.slice sa sb sc,.slice va vb vc,.map (some S),.map (some P)] 70)).setCell ⟨w.heap.size,0,none⟩ x).setCell ⟨w.heap.size + 1,0,none⟩ y)):=fun x y=>(((Qb.of_below [] hb0).trans K2.out |>.alloc _).setNew (p:=⟨w.heap.size,0,none⟩) (Nat.le_refl _) x).setNew (p:=⟨w.heap.size + 1,0,none⟩) (by simp) y
 clear hb0
 have o2':(w2.alloc (.cells #[.slice sa sb sc,.slice va vb vc,.map (some S),.map (some P)] 70)).heap[w.heap.size]? = some (.cells #[.pointer none] 22):=(Below.heap_alloc _ _ _ (by omega)).trans p2
 have c2':(w2.alloc (.cells #[.slice sa sb sc,.slice va vb vc,.map (some S),.map (some P)] 70)).cell? ⟨w.heap.size,0,none⟩=some (.pointer none):=Qv o2'
 have f2':∀ i,(w2.alloc (.cells #[.slice sa sb sc,.slice va vb vc,.map (some S),.map (some P)] 70)).frozen? ⟨w.heap.size,i,none⟩=false:=by intro i;simp [World.frozen?,o2']
 have o3':∀ x,((w2.alloc (.cells #[.slice sa sb sc,.slice va vb vc,.map (some S),.map (some P)] 70)).setCell ⟨w.heap.size,0,none⟩ x).heap[w.heap.size + 1]? = some (.cells #[.nilIface] 24):=fun x=>(Below.heap_setCell _ _ _ _ (by simp)).trans ((Below.heap_alloc _ _ _ l3).trans p3)
 have c3':∀ x,((w2.alloc (.cells #[.slice sa sb sc,.slice va vb vc,.map (some S),.map (some P)] 70)).setCell ⟨w.heap.size,0,none⟩ x).cell? ⟨w.heap.size + 1,0,none⟩=some .nilIface:=fun x=>Qv (o3' x)
 have f3':∀ x i,((w2.alloc (.cells #[.slice sa sb sc,.slice va vb vc,.map (some S),.map (some P)] 70)).setCell ⟨w.heap.size,0,none⟩ x).frozen? ⟨w.heap.size + 1,i,none⟩=false:=by intro x i;simp [World.frozen?,o3' x]
 have HF:Hid (Q3W ((w2.heap.size,.cells #[.slice sa sb sc,.slice va vb vc,.map (some S),.map (some P)] 70) :: ((bs1++bs2).filter fun p=>Q3m p.2)) w2.heap.size ds∧∀ x y,∀ p∈((w2.heap.size,.cells #[.slice sa sb sc,.slice va vb vc,.map (some S),.map (some P)] 70) :: ((bs1++bs2).filter fun p=>Q3m p.2):List (Nat×Obj)),(((w2.alloc (.cells #[.slice sa sb sc,.slice va vb vc,.map (some S),.map (some P)] 70)).setCell ⟨w.heap.size,0,none⟩ x).setCell ⟨w.heap.size + 1,0,none⟩ y).heap[p.1]? = some p.2):=by
  have g1:∀ p∈bs1,Q3m p.2=true→p∈((w2.heap.size,.cells #[.slice sa sb sc,.slice va vb vc,.map (some S),.map (some P)] 70) :: ((bs1++bs2).filter fun p=>Q3m p.2):List (Nat×Obj)):=fun p hp hg=>List.mem_cons_of_mem _ (List.mem_filter.2 ⟨List.mem_append_left _ hp,hg⟩)
  have g2:∀ p∈bs2,Q3m p.2=true→p∈((w2.heap.size,.cells #[.slice sa sb sc,.slice va vb vc,.map (some S),.map (some P)] 70) :: ((bs1++bs2).filter fun p=>Q3m p.2):List (Nat×Obj)):=fun p hp hg=>List.mem_cons_of_mem _ (List.mem_filter.2 ⟨List.mem_append_right _ hp,hg⟩)
  refine ⟨⟨_,ps1,_,S,P,List.mem_cons_self,HDI.out.good g1,HC.out.good g2⟩,?_⟩
  intro x y p hp
  rcases List.mem_cons.1 hp with rfl | hp
  ·exact (Below.heap_setCell _ _ _ _ (by simp only;omega)).trans ((Below.heap_setCell _ _ _ _ (by simp only;omega)).trans (Qg rfl))
  ·obtain ⟨hm,hgd⟩:=List.mem_filter.1 hp
   have hw2:w2.heap[p.1]? = some p.2:=by
    rcases List.mem_append.1 hm with hm | hm
    ·exact (KK2.out.block _ (Qc (HH1.out p hm)) (by simp)).trans (HH1.out p hm)
    ·exact HH2.out p hm
   have n2:p.1≠w.heap.size:=by
    intro e
    rw [e,p2] at hw2
    injection hw2 with hw2
    rw [← hw2] at hgd
    exact absurd hgd (by decide)
   have n3:p.1≠w.heap.size + 1:=by
    intro e
    rw [e,p3] at hw2
    injection hw2 with hw2
    rw [← hw2] at hgd
    exact absurd hgd (by decide)
   exact (Below.heap_setCell _ _ _ _ n3).trans ((Below.heap_setCell _ _ _ _ n2).trans ((Below.heap_alloc _ _ _ (Qc hw2)).trans hw2))
 have z2:(((w2.alloc (.cells #[.slice sa sb sc,.slice va vb vc,.map (some S),.map (some P)] 70)).setCell ⟨w.heap.size,0,none⟩ (.pointer (some ⟨w2.heap.size,0,none⟩))).setCell ⟨w.heap.size + 1,0,none⟩ .nilIface).cell? ⟨w.heap.size,0,none⟩=some (.pointer (some ⟨w2.heap.size,0,none⟩)):=
  Qv ((Below.heap_setCell _ _ _ _ (by simp)).trans (Qy (i:=0) o2' _))
 have z3:(((w2.alloc (.cells #[.slice sa sb sc,.slice va vb vc,.map (some S),.map (some P)] 70)).setCell ⟨w.heap.size,0,none⟩ (.pointer (some ⟨w2.heap.size,0,none⟩))).setCell ⟨w.heap.size + 1,0,none⟩ .nilIface).cell? ⟨w.heap.size + 1,0,none⟩=some .nilIface:=Qv (Qy (i:=0) (o3' _) _)
 have hle:w.heap.size≤w2.heap.size:=by omega
 go_wp2
 refine leaves_cons (f:=26) (args:=#[.pointer (some ⟨w.heap.size,0,none⟩),.pointer (some ⟨w.heap.size + 1,0,none⟩)]) (by simp) (by simp [go_sem]) ?_
 refine (Qf5 _ _ _).mono ?_
 rintro e u' w'' ⟨rfl,rfl,rfl⟩
 simp only [Leaves,settle]
 refine ⟨.tuple #[.pointer (some ⟨w2.heap.size,0,none⟩),.nilIface],by simp [results,Tryz.results11,go_sem,z2,z3],?_⟩
 exact ⟨w2.heap.size,_,rfl,hbf.out _ _,HF.out.1,HF.out.2 _ _,hle⟩
abbrev Q22 (x:Q0N):List Value:=[.int .i64 x.kind,.int .i64 x.n,.string ⟨x.s.toArray⟩,.int .i64 x.at',.int .i64 x.len]
structure Q09 (w:World) (D:Nat) (Fr bs:List (Nat×Obj)) (b:List UInt8) (dep fuel size:Nat) (d:DSt) (nsl:Value) (u:World):Prop where
 own:Own w ([D]++(nsl.ownBlock.toList++[])) Fr bs u
 box:u.heap[D]? = some (.cells #[.string ⟨b.toArray⟩,.int .i64 d.pos,.int .i64 dep,.int .i64 fuel,.int .i64 size,nsl] 142)
 row:u.ownsRow w.heap.size 48 5 nsl d.nodes.length (d.nodes.flatMap Q22)
 pos:d.pos≤b.length
 len:b.length≤100000
 few:d.nodes.length≤10000
theorem Qaw (b:List UInt8) (p k:Nat):(⟨b.toArray⟩:ByteArray).extract p (p + k)=⟨((b.drop p).take k).toArray⟩:=by
 apply ByteArray.ext
 simp only [ByteArray.data_extract]
 apply Array.ext'
 simp [Array.toList_extract,List.extract]
def Q0M {α:Type} (w:World) (D:Nat) (Fr bs:List (Nat×Obj)) (b:List UInt8) (dep fuel size:Nat) (r:Except Mar.Fault (α×DSt)) (V:α→Value) (e:Ending) (u':World):Prop:=
 (∃ a d' nsl',r = .ok (a,d')∧e = .returned (V a)∧Q09 w D Fr bs b dep fuel size d' nsl' u')∨(∃ f,r = .error f∧Qb [] w u'∧Q0h w f.no f.at' e u')
section
variable {w u u' : World} {D : Nat} {Fr bs : List (Nat × Obj)} {b : List UInt8} {dep fuel size : Nat} {d : DSt} {nsl : Value}
theorem Q09.cells (h:Q09 w D Fr bs b dep fuel size d nsl u):u.cell? ⟨D,0,none⟩=some (.string ⟨b.toArray⟩)∧u.cell? ⟨D,1,none⟩=some (.int .i64 d.pos)∧u.cell? ⟨D,2,none⟩=some (.int .i64 dep)∧u.cell? ⟨D,3,none⟩=some (.int .i64 fuel)∧u.cell? ⟨D,4,none⟩=some (.int .i64 size)∧u.cell? ⟨D,5,none⟩=some nsl∧(∀ i,u.frozen? ⟨D,i,none⟩=false)∧D < u.heap.size:=by
 obtain ⟨h0,h1,h2,h3,h4,h5,h6,h7⟩:=Q2I h.box
 exact ⟨h0,h1,h2,h3,h4,h5,h6,h7⟩
theorem Q09.slice (h:Q09 w D Fr bs b dep fuel size d nsl u):∃ ad cap,nsl = .slice ad d.nodes.length cap:=by
 rcases h.row.2 with ⟨rfl,h0⟩ | ⟨g,cap,cur,rfl,_⟩
 ·exact ⟨none,0,by rw [h0]⟩
 ·exact ⟨_,_,rfl⟩
theorem Q09.beside {M:List Nat} {Fr' bs':List (Nat×Obj)} (h:Q09 w D Fr bs b dep fuel size d nsl u) (hk:Qb M u u') (hM:∀ m∈M,m ∉ [D]++(nsl.ownBlock.toList++[])) (ho:Own w ([D]++(nsl.ownBlock.toList++[])) Fr' bs' u'):Q09 w D Fr' bs' b dep fuel size d nsl u':=by
 refine ⟨ho,(hk.block _ (Qc h.box) (fun hm=>hM _ hm (by simp))).trans h.box,Qp h.row hk (fun g hg hm=>hM _ hm (by simp [hg])),h.pos,h.len,h.few⟩
theorem Q09.below (h:Q09 w D Fr bs b dep fuel size d nsl u) (hb:Below u.heap.size u u'):Q09 w D Fr bs b dep fuel size d nsl u':=h.beside (Qb.of_below [] hb) (by simp) (h.own.below hb)
theorem Q09.move (h:Q09 w D Fr bs b dep fuel size d nsl u) {p:Nat} (hp:p≤b.length):Q09 w D Fr bs b dep fuel size { d with pos:=p } nsl (u.setCell ⟨D,1,none⟩ (.int .i64 p)):=by
 have hk:Qb [D] u (u.setCell ⟨D,1,none⟩ (.int .i64 p)):=(Qb.refl [D] u).setIn (by simp) _
 have hn:=h.own.nd
 simp at hn
 refine ⟨h.own.turn hk (by simp),Qy (i:=1) h.box _,Qp h.row hk (fun g hg hm=>?_),hp,h.len,h.few⟩
 simp at hm
 subst hm
 exact hn.1 hg
end
theorem Q5Z {w u:World} {D:Nat} {Fr bs:List (Nat×Obj)} {b:List UInt8} {dep fuel size:Nat} {d:DSt} {nsl:Value} (h:Q09 w D Fr bs b dep fuel size d nsl u) :
  Calls Tryz.prog 64 #[.pointer (some ⟨D,0,none⟩)] u fun e u'=>e = .returned (.int .i64 d.pos)∧u'=u:=by
 obtain ⟨c0,c1,c2,c3,c4,c5,hfz,hlt⟩:=h.cells
 clear h
 go_enter Tryz.func64,Tryz.ntmps64
 go_wp2
 go_ret
 exact ⟨rfl,rfl⟩
theorem Qck {w u:World} {D:Nat} {Fr bs:List (Nat×Obj)} {b:List UInt8} {dep fuel size:Nat} {d:DSt} {nsl:Value} (h:Q09 w D Fr bs b dep fuel size d nsl u) :
  Calls Tryz.prog 63 #[.pointer (some ⟨D,0,none⟩)] u fun e u'=>e = .returned (.int .i64 ((b.length:Int) - d.pos))∧u'=u.drew:=by
 obtain ⟨c0,c1,c2,c3,c4,c5,hfz,hlt⟩:=h.cells
 have hp:=h.pos
 have hl:=h.len
 clear h
 go_enter Tryz.func63,Tryz.ntmps63
 go_wp2
 go_region
 go_wp2
 go_ret
 exact ⟨rfl,rfl⟩
theorem Q0M.throws {α:Type} {w u u':World} {D:Nat} {Fr bs:List (Nat×Obj)} {b:List UInt8} {dep fuel size:Nat} {r:Except Mar.Fault (α×DSt)} {V:α→Value} {f:Mar.Fault} {g:Nat} (hr:r = .error f) (hk:Qb [] w u) (hb:Qb [] u u') (hg:u.heap.size≤g) (hc:u'.heap[g]? = some (.cells #[.int .i64 f.no,.int .i64 f.at'] 83)) :
  Q0M w D Fr bs b dep fuel size r V (.panicked [{ v:=.iface 79 (.pointer (some ⟨g,0,none⟩)),recovered:=false }]) u':=
 Or.inr ⟨f,hr,hk.trans hb,g,Nat.le_trans hk.size hg,rfl,hc⟩
theorem Q90 {w u:World} {D:Nat} {Fr bs:List (Nat×Obj)} {b:List UInt8} {dep fuel size:Nat} {d:DSt} {nsl:Value} (k:Nat) (hk:k≤8589934592) (h:Q09 w D Fr bs b dep fuel size d nsl u) :
  Calls Tryz.prog 108 #[.pointer (some ⟨D,0,none⟩),.int .i64 k] u (Q0M w D Fr bs b dep fuel size (Q3l b k d) fun l=>.string ⟨l.toArray⟩):=by
 obtain ⟨c0,c1,c2,c3,c4,c5,hfz,hlt⟩:=h.cells
 have hp:=h.pos
 have hl:=h.len
 have VL:=Hid.mk (Qck h)
 have H:=Hid.mk h
 clear h
 by_cases hs:b.length < d.pos + k
 ·have E:Hid (Q3l b k d = .error ⟨16,d.pos⟩):=by show _=_;unfold Q3l;rw [if_pos hs]
  have hc:(b.length:Int) - d.pos < (k:Int):=by omega
  go_enter Tryz.func108,Tryz.ntmps108
  go_wp2_with fail
  refine VL.out.mono ?_
  rintro e w1 ⟨rfl,rfl⟩
  go_wp2_with (go_at_call 47;refine (Q0g _ _ _).mono ?_;rintro e w' ⟨rfl,rfl⟩)
  exact Qa (Q0M.throws (u:=u) (f:=⟨16,d.pos⟩) E.out H.out.own.kp (((Qb.refl [] u).drew).alloc _) (Nat.le_refl _) (Qg rfl))
 ·have E:Hid (Q3l b k d = .ok ((b.drop d.pos).take k,{ d with pos:=d.pos + k })):=by show _=_;unfold Q3l;rw [if_neg hs]
  have hc:(k:Int)≤(b.length:Int) - d.pos:=by omega
  have h1:(0:Int)≤d.pos:=by omega
  have h2:(d.pos:Int)≤(d.pos:Int) + k:=by omega
  have h3:(d.pos:Int) + k≤b.length:=by omega
  go_enter Tryz.func108,Tryz.ntmps108
  go_wp2_with fail
  refine VL.out.mono ?_
  rintro e w1 ⟨rfl,rfl⟩
  go_wp2
  go_region
  go_wp2
  go_ret
  refine Or.inl ⟨_,_,nsl,E.out,?_,?_⟩
  ·show Ending.returned (.string ((⟨b.toArray⟩:ByteArray).extract d.pos (d.pos + k)))=_
   rw [Qaw]
  ·have:=(H.out.below (Below.refl _ _).drew).below (Below.refl _ _).drew
   have e1:((d.pos:Int) + k)=((d.pos + k:Nat):Int):=by omega
   rw [e1]
   exact this.move (by omega)
theorem Qcl (l:List UInt8) (c:UInt8):bigL (l++[c])=bigL l * 256 + c.toNat:=by simp [bigL]
theorem QkK:∀ (k:Nat) (l:List UInt8),l.length=k→bigL l < 256 ^ k:=by
 intro k
 induction k with
 | zero=>
  intro l hl
  have:l=[]:=List.length_eq_zero_iff.1 hl
  subst this
  simp [bigL]
 | succ k ih=>
  intro l hl
  have hne:l≠[]:=by intro e;subst e;simp at hl
  obtain ⟨l',c,rfl⟩:∃ l' c,l=l'++[c]:=⟨l.dropLast,l.getLast hne,(List.dropLast_concat_getLast hne).symm⟩
  have h1:=ih l' (by simpa using hl)
  have h2:=c.toNat_lt
  rw [Qcl,Nat.pow_succ]
  omega
theorem Qk6 (n:Nat) (c:Nat) (hc:c < 256):(n * 256) ||| c=n * 256 + c:=by
 have:=Nat.shiftLeft_add_eq_or_of_lt (i:=8) (b:=c) (by omega) n
 rw [Nat.shiftLeft_eq] at this
 exact this.symm
theorem QdU (l:List UInt8) (hl:l.length≤8) (w:World):Calls Tryz.prog 107 #[.string ⟨l.toArray⟩] w fun e w'=>e = .returned (.int .u64 (bigL l))∧w'=w:=by
 go_enter Tryz.func107,Tryz.ntmps107
 go_wp2
 go_loopw [7,3] (fun i n ur=>∃ k:Nat,i = .int .i64 k∧k≤l.length∧n = .int .u64 (bigL (l.take k))∧ur=w) (fun i _ _=>l.length - (intOf i).toNat)
 case atStart=>exact ⟨0,rfl,by omega,by simp [bigL],rfl⟩
 case round=>
  obtain ⟨k,rfl,hk,rfl,rfl⟩:=hrel
  rcases Nat.lt_or_ge k l.length with hlt | hge
  ·have hk0:(0:Int)≤↑k:=by omega
   have hk1:(↑k:Int) < ↑l.length:=by omega
   have hb:bigL (l.take k) < 256 ^ 7:=by
    have h1:=QkK (l.take k).length (l.take k) rfl
    have h2:(l.take k).length≤7:=by simp;omega
    exact Nat.lt_of_lt_of_le h1 (Nat.pow_le_pow_right (by omega) h2)
   have hbits:∀ c:UInt8,bits BinOp.or IntKind.u64 ((bigL (l.take k):Int) * 256) (IntKind.u64.wrap c.toNat)=((bigL (l.take k) * 256 + c.toNat:Nat):Int):=by
    intro c
    have hc:=c.toNat_lt
    have hp:(256:Nat) ^ 7=72057594037927936:=by decide
    rw [hp] at hb
    have e1:IntKind.u64.wrap (c.toNat:Int)=(c.toNat:Int):=by simp [IntKind.wrap_u64];omega
    rw [e1,show ((bigL (l.take k):Int) * 256)=((bigL (l.take k) * 256:Nat):Int) by omega,bits_or_u64_nat _ _ (by omega) (by omega),Qk6 _ _ hc]
   have hnext:bigL (l.take (k + 1))=bigL (l.take k) * 256 + (l[k]).toNat:=by rw [List.take_succ_eq_append_getElem hlt,Qcl]
   go_wp2
   refine ⟨⟨k + 1,by go_num,hlt,?_,trivial⟩,by simp [intOf];omega⟩
   rw [hnext]
   have e2:(⟨l.toArray⟩:ByteArray)[k]=l[k]:=rfl
   rw [e2]
   simp
  ·have hkk:k=l.length:=by omega
   subst hkk
   go_wp2
   go_ret
   refine ⟨?_,rfl⟩
   simp
theorem Q91 {w u:World} {D:Nat} {Fr bs:List (Nat×Obj)} {b:List UInt8} {dep fuel size:Nat} {d:DSt} {nsl:Value} (h:Q09 w D Fr bs b dep fuel size d nsl u) :
  Calls Tryz.prog 76 #[.pointer (some ⟨D,0,none⟩)] u (Q0M w D Fr bs b dep fuel size (Q37 b d) fun v=>.int .u32 v):=by
 have VT:=Hid.mk (Q90 4 (by omega) h)
 go_enter Tryz.func76,Tryz.ntmps76
 go_wp2_with fail
 refine VT.out.mono ?_
 rintro e w1 (⟨l,d1,nsl1,hx,rfl,M1⟩ | ⟨f,hx,hk,g,hg,rfl,hc⟩)
 rotate_left
 ·exact Qa (Or.inr ⟨f,by unfold Q37;rw [hx];rfl,hk,g,hg,rfl,hc⟩)
 have hl:=(Q4f hx).2.2.2.2
 have hlt:=Q3L hl
 have E:Hid (Q37 b d = .ok (bigL l,d1)):=by show _=_;unfold Q37;rw [hx];rfl
 have M1:=Hid.mk M1
 clear hx VT
 go_wp2_with fail
 refine (QdU l (by omega) w1).mono ?_
 rintro e w2 ⟨rfl,rfl⟩
 go_wp2
 go_ret
 exact Or.inl ⟨bigL l,d1,nsl1,E.out,by simp [IntKind.wrap_u32],M1.out⟩
theorem Qi3 {w u:World} {D:Nat} {Fr bs:List (Nat×Obj)} {b:List UInt8} {dep fuel size:Nat} {d:DSt} {nsl:Value} (h:Q09 w D Fr bs b dep fuel size d nsl u) :
  Calls Tryz.prog 332 #[.pointer (some ⟨D,0,none⟩)] u (Q0M w D Fr bs b dep fuel size (thenE (Q3l b 8 d) fun p=>.ok (bigL p.1,p.2)) fun v=>.int .u64 v):=by
 have VT:=Hid.mk (Q90 8 (by omega) h)
 go_enter Tryz.func332,Tryz.ntmps332
 go_wp2_with fail
 refine VT.out.mono ?_
 rintro e w1 (⟨l,d1,nsl1,hx,rfl,M1⟩ | ⟨f,hx,hk,g,hg,rfl,hc⟩)
 rotate_left
 ·exact Qa (Or.inr ⟨f,by rw [hx];rfl,hk,g,hg,rfl,hc⟩)
 have hl:=(Q4f hx).2.2.2.2
 have E:Hid ((thenE (Q3l b 8 d) fun p=>.ok (bigL p.1,p.2)) = .ok (bigL l,d1)):=by show _=_;rw [hx];rfl
 have M1:=Hid.mk M1
 clear hx VT
 go_wp2_with fail
 refine (QdU l (by omega) w1).mono ?_
 rintro e w2 ⟨rfl,rfl⟩
 go_wp2
 go_ret
 exact Or.inl ⟨bigL l,d1,nsl1,E.out,rfl,M1.out⟩
theorem QgI (n:NumL) (x:Option Addr) (y z:Nat) (v:Nat) (hv:v < 4294967296) (w:World) :
  Calls Tryz.prog 328 #[.agg (numA n.low n.high x y z n.wide).toArray,.int .u32 v] w fun e w'=>e = .returned (.int .i64 (Q0L n v))∧Below w.heap.size w w':=by
 have hb:∀ o,Below w.heap.size w (w.alloc o):=fun o=>(Below.refl _ _).alloc (Nat.le_refl _) _
 by_cases hl:n.low < 0
 ·go_enter Tryz.func328,Tryz.ntmps328
  go_wp2
  go_ret
  refine ⟨?_,hb _⟩
  show Ending.returned (Value.int .i64 (wrap64 (wrap32 (v:Int))))=_
  congr 2
  unfold Q0L wrap32 wrap64
  rw [if_pos hl]
  split<;>omega
 ·go_enter Tryz.func328,Tryz.ntmps328
  go_wp2
  go_ret
  refine ⟨?_,hb _⟩
  show Ending.returned (Value.int .i64 (v:Int))=_
  unfold Q0L
  rw [if_neg (by omega)]
theorem Qf6 (n:Int) (f:Bool) (k:Nat) (w:World) :
  Calls Tryz.prog 288 #[.agg #[.int .i64 n,.bool f],.int .i64 k] w fun e w'=>e = .returned (.bool (if f then decide ((k:Int)=n) else decide ((k:Int)≤n)))∧Below w.heap.size w w':=by
 have hb:∀ o,Below w.heap.size w (w.alloc o):=fun o=>(Below.refl _ _).alloc (Nat.le_refl _) _
 have h0:(0:Int)≤k:=by omega
 cases f with
 | true=>
  go_enter Tryz.func288,Tryz.ntmps288
  go_wp2
  go_ret
  refine ⟨?_,hb _⟩
  show Ending.returned (Value.bool ((k:Int) == n))=_
  congr 2
 | false=>
  go_enter Tryz.func288,Tryz.ntmps288
  go_wp2
  go_ret
  refine ⟨?_,hb _⟩
  rfl
theorem QgJ {g cap:Nat} {l:List Int} (hn:l.length≤1000) (hc:l.length≤cap) (k:Int) (w:World) (hr:∀ i (h:i < l.length),w.cell? ⟨g,i,none⟩=some (.int .i64 l[i])) :
  Calls Tryz.prog 322 #[.slice (some ⟨g,0,none⟩) l.length cap,.int .i64 k] w fun e w'=>(∃ i:Int,e = .returned (.int .i64 i)∧decide (0≤i)=l.contains k)∧w'=w:=by
 have HR:=Hid.mk hr
 clear hr
 go_enter Tryz.func322,Tryz.ntmps322
 go_wp2
 go_loopw [8] (fun i ur=>∃ j:Nat,i = .int .i64 j∧j≤l.length∧Hid (∀ x∈l.take j,x≠k)∧ur=w) (fun i _=>l.length - (intOf i).toNat)
 case atStart=>exact ⟨0,rfl,by omega,(by intro x hx;simp at hx),rfl⟩
 case round=>
  obtain ⟨j,rfl,hj,HN,rfl⟩:=hrel
  rcases Nat.lt_or_ge j l.length with hlt | hge
  ·have q:=HR.out j hlt
   have hj0:(0:Int)≤↑j:=by omega
   have hj1:(↑j:Int) < ↑l.length:=by omega
   by_cases he:k=l[j]
   ·have hb:(k == l[j])=true:=by simp [he]
    have hin:Hid (l.contains k=true):=by show _=_;simp;rw [he];exact List.getElem_mem hlt
    clear he
    go_wp2
    go_ret
    exact ⟨⟨j,rfl,by rw [hin.out];simp⟩,rfl⟩
   ·have hb:(k == l[j])=false:=by simp [he]
    have HN2:Hid (∀ x∈l.take (j + 1),x≠k):=by
     intro x hx
     rw [List.take_succ_eq_append_getElem hlt] at hx
     rcases List.mem_append.1 hx with hx | hx
     ·exact HN.out x hx
     ·simp only [List.mem_singleton] at hx
      rw [hx]
      exact fun e=>he e.symm
    clear he
    go_wp2
    exact ⟨⟨j + 1,by go_num,by omega,HN2,trivial⟩,by simp [intOf];omega⟩
  ·have hjj:j=l.length:=by omega
   subst hjj
   have hno:Hid (l.contains k=false):=by
    show _=_
    have h1:=HN.out
    rw [List.take_length] at h1
    simp
    exact fun hk=>h1 k hk rfl
   clear HN
   go_wp2
   go_ret
   exact ⟨⟨-1,rfl,by rw [hno.out];simp⟩,rfl⟩
theorem Qcm {g cap:Nat} {l:List Int} (hn:l.length≤1000) (hc:l.length≤cap) (k:Int) (w:World) (hr:∀ i (h:i < l.length),w.cell? ⟨g,i,none⟩=some (.int .i64 l[i])) :
  Calls Tryz.prog 318 #[.slice (some ⟨g,0,none⟩) l.length cap,.int .i64 k] w fun e w'=>e = .returned (.bool (l.contains k))∧w'=w:=by
 have V:=Hid.mk (QgJ hn hc k w hr)
 go_enter Tryz.func318,Tryz.ntmps318
 go_wp2_with fail
 refine V.out.mono ?_
 rintro e w1 ⟨⟨i,rfl,hi⟩,rfl⟩
 have HI:=Hid.mk hi
 clear hi
 go_wp2
 go_ret
 refine ⟨?_,rfl⟩
 rw [← HI.out]
 rfl
theorem QgK {bs:List (Nat×Obj)} {v:Value} {l:List Int} {w:World} (h:Qb8 bs v (some l)) (hw:∀ p∈bs,w.heap[p.1]? = some p.2):∃ g cap,v = .slice (some ⟨g,0,none⟩) l.length cap∧l.length≤1000∧l.length≤cap∧∀ (w':World),Qb [] w w'→∀ i (hi:i < l.length),w'.cell? ⟨g,i,none⟩=some (.int .i64 l[i]):=by
 obtain ⟨hne,hs⟩:=h
 rcases hs with ⟨_,h0,_⟩ | ⟨g,cap,cur,e,⟨h1,h2⟩,h3,h4⟩
 ·exact absurd (List.length_eq_zero_iff.1 h0) hne
 ·exact ⟨g,cap,e,h2,h1,fun w' hk i hi=>Qw ((hk.block _ (Qc (hw _ h3)) (by simp)).trans (hw _ h3)) h4 (by simp [hi])⟩
theorem Q9M {bs:List (Nat×Obj)} {cs:List Value} {n:NumL} (hN:Q1u bs cs n) (k:Int) {w:World} (hw:∀ p∈bs,w.heap[p.1]? = some p.2) :
  Calls Tryz.prog 268 #[.agg cs.toArray,.int .i64 k] w fun e w'=>e = .returned (.bool (n.has k))∧Below w.heap.size w w':=by
 have hb:∀ o,Below w.heap.size w (w.alloc o):=fun o=>(Below.refl _ _).alloc (Nat.le_refl _) _
 have hs1:∀ W,(binOp BinOp.eql 198 (.slice none 0 0) (.slice none 0 0)).run Tryz.prog W = .ok (.bool true) W:=fun W=>by kernel_rfl
 have hs2:∀ (q:Addr) (i j:Nat) (W:World),(binOp BinOp.eql 198 (.slice (some q) i j) (.slice none 0 0)).run Tryz.prog W = .ok (.bool false) W:=fun q i j W=>by kernel_rfl
 obtain ⟨m,rfl,hm,x,y,z,rfl⟩:=hN
 by_cases h1:n.low≤k
 ·by_cases h2:k≤n.high
  ·cases hmem:n.mem with
   | none=>
    rw [hmem] at hm
    have hm':Value.slice x y z = .slice none 0 0:=hm
    cases hm'
    have E:Hid (n.has k=true):=by show _=_;simp [NumL.has,h1,h2,hmem]
    go_enter Tryz.func268,Tryz.ntmps268
    go_wp2
    go_ret
    refine ⟨?_,hb _⟩
    rw [E.out]
    rfl
   | some l=>
    rw [hmem] at hm
    obtain ⟨g,cap,he,hl1,hl2,hcl⟩:=QgK hm hw
    cases he
    have E:Hid (n.has k=l.contains k):=by show _=_;simp [NumL.has,h1,h2,hmem]
    have V:=fun o=>Qcm hl1 hl2 k (w.alloc o) (hcl _ ((Qb.refl [] w).alloc o))
    have V:=Hid.mk V
    clear hm hcl
    go_enter Tryz.func268,Tryz.ntmps268
    go_wp2_with (go_at_call 318;refine (V.out _).mono ?_;rintro e w1 ⟨rfl,rfl⟩)
    go_ret
    refine ⟨?_,hb _⟩
    rw [E.out]
    show Ending.returned (Value.bool (decide (k∈l)))=_
    simp
  ·have E:Hid (n.has k=false):=by show _=_;simp [NumL.has,h2]
   go_enter Tryz.func268,Tryz.ntmps268
   go_wp2
   go_ret
   refine ⟨?_,hb _⟩
   rw [E.out]
   rfl
 ·have E:Hid (n.has k=false):=by show _=_;simp [NumL.has,h1]
  go_enter Tryz.func268,Tryz.ntmps268
  go_wp2
  go_ret
  refine ⟨?_,hb _⟩
  rw [E.out]
  rfl
theorem QgL {w u:World} {D:Nat} {Fr bs:List (Nat×Obj)} {b:List UInt8} {dep fuel size:Nat} {d:DSt} {nsl:Value} (k:Nat) (hk:k < 1000000) (h:Q09 w D Fr bs b dep fuel size d nsl u) :
  Calls Tryz.prog 324 #[.pointer (some ⟨D,0,none⟩),.int .i64 k] u (Q0M w D Fr bs b dep fuel size (thenE ((decW b dep fuel).enter k d) fun d'=>.ok ((),d')) fun _=>.tuple #[]):=by
 obtain ⟨c0,c1,c2,c3,c4,c5,hfz,hlt⟩:=h.cells
 have VA:=Hid.mk (Q5Z h)
 have H:=Hid.mk h
 clear h
 by_cases hs:dep≤k
 ·have E:Hid ((thenE ((decW b dep fuel).enter k d) fun d'=>Except.ok ((),d')) = .error ⟨13,d.pos⟩):=by show _=_;simp [decW,hs,thenE]
  have hc:(dep:Int)≤(k:Int):=by omega
  go_enter Tryz.func324,Tryz.ntmps324
  go_wp2_with (first
   | (go_at_call 64;refine VA.out.mono ?_;rintro e w1 ⟨rfl,rfl⟩)
   | (go_at_call 47;refine (Q0g _ _ _).mono ?_;rintro e w' ⟨rfl,rfl⟩))
  exact Qa (Q0M.throws (f:=⟨13,d.pos⟩) E.out H.out.own.kp ((Qb.refl [] _).alloc _) (Nat.le_refl _) (Qg rfl))
 ·have E:Hid ((thenE ((decW b dep fuel).enter k d) fun d'=>Except.ok ((),d')) = .ok ((),d)):=by show _=_;simp [decW,hs,thenE]
  have hc:(k:Int) < (dep:Int):=by omega
  go_enter Tryz.func324,Tryz.ntmps324
  go_wp2
  go_end0
  exact Or.inl ⟨(),d,nsl,E.out,rfl,H.out⟩
theorem Q6k {w u:World} {D:Nat} {Fr bs:List (Nat×Obj)} {b:List UInt8} {dep fuel size:Nat} {d:DSt} {nsl:Value} (h:Q09 w D Fr bs b dep fuel size d nsl u) :
  Calls Tryz.prog 240 #[.pointer (some ⟨D,0,none⟩)] u (Q0M w D Fr bs b dep fuel size (thenE (Q0E fuel d) fun d'=>.ok ((),d')) fun _=>.tuple #[]):=by
 obtain ⟨c0,c1,c2,c3,c4,c5,hfz,hlt⟩:=h.cells
 obtain ⟨ad,cap,rfl⟩:=h.slice
 have VA:=Hid.mk (Q5Z (h.below (Below.refl _ _).drew))
 have H:=Hid.mk h
 clear h
 by_cases hs:fuel≤d.nodes.length
 ·have E:Hid ((thenE (Q0E fuel d) fun d'=>Except.ok ((),d')) = .error ⟨15,d.pos⟩):=by show _=_;simp [Q0E,hs,thenE]
  have hc:(fuel:Int)≤(d.nodes.length:Int):=by omega
  go_enter Tryz.func240,Tryz.ntmps240
  go_wp2
  go_region
  go_wp2_with (first
   | (go_at_call 64;refine VA.out.mono ?_;rintro e w1 ⟨rfl,rfl⟩)
   | (go_at_call 47;refine (Q0g _ _ _).mono ?_;rintro e w' ⟨rfl,rfl⟩))
  exact Qa (Q0M.throws (u:=u) (f:=⟨15,d.pos⟩) E.out H.out.own.kp (((Qb.refl [] _).drew).alloc _) (Nat.le_refl _) (Qg rfl))
 ·have E:Hid ((thenE (Q0E fuel d) fun d'=>Except.ok ((),d')) = .ok ((),d)):=by show _=_;simp [Q0E,hs,thenE]
  have hc:(d.nodes.length:Int) < (fuel:Int):=by omega
  go_enter Tryz.func240,Tryz.ntmps240
  go_wp2
  go_region
  go_wp2
  go_end0
  exact Or.inl ⟨(),d,_,E.out,rfl,H.out.below (Below.refl _ _).drew⟩
theorem Q92:(Tryz.prog.info? 48).map (fun i=>(i.zero,i.size,i.bytes))=some (some (.agg #[.int .i64 0,.int .i64 0,.string ⟨#[]⟩,.int .i64 0,.int .i64 0]),5,48):=by kernel_rfl
theorem Qi4 (x:Q0N):∀ u∈Q22 x,u.oneCell'=true:=by
 intro u hu
 simp at hu
 rcases hu with rfl | rfl | rfl | rfl | rfl<;>rfl
section
variable {w u : World} {D : Nat} {Fr bs : List (Nat × Obj)} {b : List UInt8} {dep fuel size : Nat} {d : DSt} {nsl : Value}
theorem Q09.put {u2 u3:World} {g cap:Nat} {x:Q0N} (h:Q09 w D Fr bs b dep fuel size d nsl u) (hb:Below u.heap.size u u2) (hfew:d.nodes.length < 10000)
  (hown:u3.ownsRow w.heap.size 48 5 (.slice (some ⟨g,0,none⟩) (d.nodes.length + 1) cap) (d.nodes.length + 1) (d.nodes.flatMap Q22++Q22 x))
  (hg:u2.grownBy u3 nsl.ownBlock) (hat:nsl.ownBlock=some g∨g=u2.heap.size) (hlt:g < u3.heap.size) :
  Q09 w D Fr bs b dep fuel size (putD x d) (.slice (some ⟨g,0,none⟩) (d.nodes.length + 1) cap) (u3.setCell ⟨D,5,none⟩ (.slice (some ⟨g,0,none⟩) (d.nodes.length + 1) cap)):=by
 obtain ⟨hwg,_⟩:=Q16 hown (g:=g) rfl
 have e2:=h.below hb
 have hkg:=Q05 hg
 have ho:=Own.grow (A:=[D]) (B:=[]) e2.own hg hat hlt hwg
 have hks:Qb [D] u3 (u3.setCell ⟨D,5,none⟩ (.slice (some ⟨g,0,none⟩) (d.nodes.length + 1) cap)):=(Qb.refl [D] u3).setIn (by simp) _
 have hn:=h.own.nd
 have hn2:=ho.nd
 simp at hn hn2
 have hd:D ∉ nsl.ownBlock.toList:=by
  intro hm
  exact hn.1 (by simpa using hm)
 refine ⟨ho.turn hks (by simp),Qy (i:=5) ((hkg.block _ (Qc e2.box) hd).trans e2.box) _,?_,h.pos,h.len,by simp [putD];omega⟩
 have:=Qp hown hks (by
  intro g' h'
  simp only [Value.ownBlock,Option.some.injEq] at h'
  subst h'
  simp
  omega)
 simpa [putD] using this
theorem Q09.boxAt {u2 u3:World} (h:Q09 w D Fr bs b dep fuel size d nsl u) (hb:Below u.heap.size u u2) (hg:u2.grownBy u3 nsl.ownBlock):u3.cell? ⟨D,5,none⟩=some nsl∧(∀ i,u3.frozen? ⟨D,i,none⟩=false)∧D < u3.heap.size:=by
 have hl:=Qc h.box
 have hn:=h.own.nd
 have hz:=hb.size
 simp at hn
 obtain ⟨_,_,_,_,_,h5,h6,h7⟩:=Q2I ((hg.block _ (by omega) (fun e=>hn.1 (by rw [← e]))).trans ((hb.block _ hl).trans h.box))
 exact ⟨h5,h6,h7⟩
theorem Q09.alloc (h:Q09 w D Fr bs b dep fuel size d nsl u) (o:Obj):Q09 w D ((u.heap.size,o) :: Fr) bs b dep fuel size d nsl (u.alloc o):=h.beside ((Qb.refl [] u).alloc o) (by simp) (h.own.alloc o)
theorem Q09.tail {p:Nat×Obj} (h:Q09 w D (p :: Fr) bs b dep fuel size d nsl u):Q09 w D Fr bs b dep fuel size d nsl u:=h.beside (Qb.refl [] u) (by simp) h.own.tail
end
theorem Q7a {w u:World} {D:Nat} {Fr bs:List (Nat×Obj)} {b:List UInt8} {dep fuel size:Nat} {d:DSt} {nsl:Value} (x:Q0N) (hfew:d.nodes.length < 10000) (h:Q09 w D Fr bs b dep fuel size d nsl u) :
  Calls Tryz.prog 329 #[.pointer (some ⟨D,0,none⟩),.agg (Q22 x).toArray] u fun e u'=>e = .returned (.tuple #[])∧∃ nsl',Q09 w D Fr bs b dep fuel size (putD x d) nsl' u':=by
 obtain ⟨c0,c1,c2,c3,c4,c5,hfz,hlt⟩:=h.cells
 obtain ⟨ad,cap,rfl⟩:=h.slice
 obtain ⟨i0,hi0,hz0,hz1,hz2⟩:=info_parts Q92
 have hl1:d.nodes.length + 1≤maxLen:=by unfold maxLen;omega
 have hl2:(d.nodes.length + 1) * 48≤140737488355328:=by omega
 have hz3:(Value.agg #[.int .i64 0,.int .i64 0,.string ⟨#[]⟩,.int .i64 0,.int .i64 0]).cells.size=5:=by decide
 have hwl:w.heap.size≤u.heap.size:=h.own.kp.size
 have H:=Hid.mk h
 clear h
 go_enter Tryz.func329,Tryz.ntmps329
 go_wp2_with fail
 refine QE (fun w'=>w'.cell? ⟨D,5,none⟩=some (.slice ad d.nodes.length cap)∧w'.cell? ⟨u.heap.size,0,none⟩=some (.int .i64 x.kind)∧w'.cell? ⟨u.heap.size,1,none⟩=some (.int .i64 x.n)∧w'.cell? ⟨u.heap.size,2,none⟩=some (.string ⟨x.s.toArray⟩)∧w'.cell? ⟨u.heap.size,3,none⟩=some (.int .i64 x.at')∧w'.cell? ⟨u.heap.size,4,none⟩=some (.int .i64 x.len)) (L:=10) (by kernel_rfl) rfl (by kernel_rfl) (by kernel_rfl) ?_ (fun hHeld=>?_)
 ·go_keep
 refine tk (i:=0) (v:=?_) rfl (by kernel_rfl) (fun _ _ _ h=>h) (by rfl) (by assumption) ?_ ?_
 rotate_left
 ·intro w hSw;(try dsimp only at hSw);go_simp;(try with_reducible rfl)
 (try simp only [Qd,Qe,List.set])
 refine tk (i:=1) (v:=?_) rfl (by kernel_rfl) (fun _ _ _ h=>h) (by rfl) (by assumption) ?_ ?_
 rotate_left
 ·intro w hSw;(try dsimp only at hSw);go_simp;(try with_reducible rfl)
 (try simp only [Qd,Qe,List.set])
 refine tk (i:=2) (v:=?_) rfl (by kernel_rfl) (fun _ _ _ h=>h) (by rfl) (by assumption) ?_ ?_
 rotate_left
 ·intro w hSw;(try dsimp only at hSw);go_simp;(try with_reducible rfl)
 (try simp only [Qd,Qe,List.set])
 refine tk (i:=3) (v:=?_) rfl (by kernel_rfl) (fun _ _ _ h=>h) (by rfl) (by assumption) ?_ ?_
 rotate_left
 ·intro w hSw;(try dsimp only at hSw);go_simp;(try with_reducible rfl)
 (try simp only [Qd,Qe,List.set])
 refine tk (i:=4) (v:=?_) rfl (by kernel_rfl) (fun _ _ _ h=>h) (by rfl) (by assumption) ?_ ?_
 rotate_left
 ·intro w hSw;(try dsimp only at hSw);go_simp;(try with_reducible rfl)
 (try simp only [Qd,Qe,List.set])
 refine tk (i:=5) (v:=?_) rfl (by kernel_rfl) (fun _ _ _ h=>h) (by rfl) (by assumption) ?_ ?_
 rotate_left
 ·intro w hSw;(try dsimp only at hSw);go_simp;(try with_reducible rfl)
 (try simp only [Qd,Qe,List.set])
 refine wpAnyH_ready (rs:=[6]) (by kernel_rfl) (by simp) ?_
 refine AllReadyH.cons rfl (fun K hK=>?_) AllReadyH.nil
 go_simp
 refine hK.out _ _ ?_ (fun hHeld=>?_)
 ·go_keep
 clear hK K
 (try simp only [Qd,Qe,List.set])
 refine wpAnyH_ready (rs:=[7]) (by kernel_rfl) (by simp) ?_
 refine AllReadyH.cons rfl (fun K hK=>?_) AllReadyH.nil
 (refine step_append_lies _ (by rfl) _ _ _ (by rfl) w.heap.size 48 i0 _ 5 48 Tryz.underlying29 hi0 hz0 hz1 hz2 hz3 (by omega) (.slice ad d.nodes.length cap) d.nodes.length (d.nodes.flatMap Q22) (by rfl) (Qp H.out.row ((((Qb.refl [] u).alloc _).alloc _).drew) (by simp)) ⟨u.heap.size + 1,0,none⟩ 1 1 (Q22 x) (by rfl) (by rfl) (World.news_of_block (cs:=(Q22 x).toArray) (t:=48) (fr:=(0,0)) (Qg (w:=u.alloc _) (by simp))) (Qi4 x) (by omega) hl1 hl2 (by simp;omega) (u.heap.size + 2) (by simp) ?_;intro g cap' w6 hown6 hgrow hat hlt6;have hbb:Below u.heap.size u ((u.alloc (.cells (Q22 x).toArray 48)).alloc (.cells (Q22 x).toArray 48)).drew:=(((Below.refl _ _).alloc (Nat.le_refl _) _).alloc (by simp) _).drew;obtain ⟨z5,zf,zl⟩:=H.out.boxAt hbb hgrow;have hx9:w6.heap[u.heap.size]? = some (.cells (Q22 x).toArray 48):=(hgrow.block _ (by simp;omega) (fun e=>by have:=H.out.own.lt u.heap.size (by simp [e.symm]);omega)).trans ((Below.heap_alloc _ _ _ (by simp)).trans (Qg rfl));have y0:w6.cell? ⟨u.heap.size,0,none⟩=some (.int .i64 x.kind):=(by simp [World.cell?,hx9]);have y1:w6.cell? ⟨u.heap.size,1,none⟩=some (.int .i64 x.n):=(by simp [World.cell?,hx9]);have y2:w6.cell? ⟨u.heap.size,2,none⟩=some (.string ⟨x.s.toArray⟩):=(by simp [World.cell?,hx9]);have y3:w6.cell? ⟨u.heap.size,3,none⟩=some (.int .i64 x.at'):=(by simp [World.cell?,hx9]);have y4:w6.cell? ⟨u.heap.size,4,none⟩=some (.int .i64 x.len):=(by simp [World.cell?,hx9]))
 refine hK.out _ _ ?_ (fun hHeld=>?_)
 ·go_keep
 clear hK K
 (try simp only [Qd,Qe,List.set])
 refine tk (i:=8) (v:=?_) rfl (by kernel_rfl) (fun _ _ _ h=>h) (by rfl) (by assumption) ?_ ?_
 rotate_left
 ·intro w hSw;(try dsimp only at hSw);go_simp;(try with_reducible rfl)
 (try simp only [Qd,Qe,List.set])
 refine tk (i:=9) (v:=?_) rfl (by kernel_rfl) (fun _ _ _ h=>h) (by rfl) (by assumption) ?_ ?_
 rotate_left
 ·intro w hSw;(try dsimp only at hSw);go_simp;(try with_reducible rfl)
 (try simp only [Qd,Qe,List.set])
 refine wpAnyH_done (by kernel_rfl) ?_ _
 refine QK rfl (fun K hK=>?_)
 go_simp
 refine hK.out _ _ ?_
 clear hK K
 (try simp only [Qd,Qe,List.set])
 have M6:=H.out.put hbb hfew hown6 hgrow (by simpa using hat) hlt6
 go_wp2
 go_end0
 exact ⟨rfl,_,M6⟩
theorem QgM {w u:World} {D:Nat} {Fr bs:List (Nat×Obj)} {b:List UInt8} {dep fuel size:Nat} {d:DSt} {nsl:Value} (n:NumL) (x:Option Addr) (y z:Nat) (h:Q09 w D Fr bs b dep fuel size d nsl u) :
  Calls Tryz.prog 331 #[.pointer (some ⟨D,0,none⟩),.agg (numA n.low n.high x y z n.wide).toArray] u (Q0M w D Fr bs b dep fuel size (Q1F b n d) fun v=>.int .i64 v):=by
 have hb:∀ o,Below u.heap.size u (u.alloc o):=fun o=>(Below.refl _ _).alloc (Nat.le_refl _) _
 have V1:=Hid.mk (fun o=>Qi3 (h.below (hb o)))
 have V2:=Hid.mk (Q91 ((h.alloc (.cells #[.int .i64 n.low,.int .i64 n.high,.slice x y z,.bool n.wide] 200)).below (Below.refl _ _).drew))
 have H:=Hid.mk h
 clear h
 cases hw:n.wide with
 | true=>
  go_enter Tryz.func331,Tryz.ntmps331
  go_wp2_with fail
  refine (V1.out _).mono ?_
  rintro e w1 (⟨v,d1,nsl1,hx,rfl,M1⟩ | ⟨f,hx,hk,g,hg,rfl,hc⟩)
  rotate_left
  ·refine Qa (Or.inr ⟨f,?_,hk,g,hg,rfl,hc⟩)
   unfold Q1F
   rw [hw]
   simp only [if_true]
   cases ht:Q3l b 8 d with
   | error f'=>rw [ht] at hx;simp only [thenE] at hx ⊢;cases hx;rfl
   | ok p=>rw [ht] at hx;simp only [thenE] at hx;cases hx
  have E:Hid (Q1F b n d = .ok (Q4E v,d1)∧v < 18446744073709551616):=by
   obtain ⟨p,h1,h2⟩:=Ql hx
   cases h2
   refine ⟨?_,Qa8 (Q4f h1).2.2.2.2⟩
   unfold Q1F
   rw [hw]
   simp only [if_true]
   rw [h1]
   rfl
  have hv:=E.out.2
  have M1:=Hid.mk M1
  clear hx V1 V2
  go_wp2
  go_ret
  refine Or.inl ⟨Q4E v,d1,nsl1,E.out.1,?_,M1.out⟩
  show Ending.returned (Value.int .i64 (wrap64 (v:Int)))=Ending.returned (Value.int .i64 (Q4E v))
  congr 2
  unfold Q4E wrap64
  split<;>omega
 | false=>
  go_enter Tryz.func331,Tryz.ntmps331
  rw [hw] at V2
  have E0:Hid (Q1F b n d=thenE (Q37 b d) fun p=>.ok (Q0L n p.1,p.2)):=by show _=_;unfold Q1F;rw [hw];rfl
  go_wp2_with fail
  refine QE (fun w'=>w'.cell? ⟨u.heap.size,0,none⟩=some (.int .i64 n.low)∧w'.cell? ⟨u.heap.size,1,none⟩=some (.int .i64 n.high)∧w'.cell? ⟨u.heap.size,2,none⟩=some (.slice x y z)∧w'.cell? ⟨u.heap.size,3,none⟩=some (.bool false)) (L:=6) (by kernel_rfl) rfl (by kernel_rfl) (by kernel_rfl) ?_ (fun hHeld=>?_)
  ·go_keep
  refine tk (i:=0) (v:=?_) rfl (by kernel_rfl) (fun _ _ _ h=>h) (by rfl) (by assumption) ?_ ?_
  rotate_left
  ·intro w hSw;(try dsimp only at hSw);go_simp;(try with_reducible rfl)
  (try simp only [Qd,Qe,List.set])
  refine tk (i:=1) (v:=?_) rfl (by kernel_rfl) (fun _ _ _ h=>h) (by rfl) (by assumption) ?_ ?_
  rotate_left
  ·intro w hSw;(try dsimp only at hSw);go_simp;(try with_reducible rfl)
  (try simp only [Qd,Qe,List.set])
  refine tk (i:=2) (v:=?_) rfl (by kernel_rfl) (fun _ _ _ h=>h) (by rfl) (by assumption) ?_ ?_
  rotate_left
  ·intro w hSw;(try dsimp only at hSw);go_simp;(try with_reducible rfl)
  (try simp only [Qd,Qe,List.set])
  refine tk (i:=3) (v:=?_) rfl (by kernel_rfl) (fun _ _ _ h=>h) (by rfl) (by assumption) ?_ ?_
  rotate_left
  ·intro w hSw;(try dsimp only at hSw);go_simp;(try with_reducible rfl)
  (try simp only [Qd,Qe,List.set])
  refine wpAnyH_ready (rs:=[4]) (by kernel_rfl) (by simp) ?_
  refine AllReadyH.cons rfl (fun K hK=>?_) AllReadyH.nil
  (go_simp;go_at_call 76;refine V2.out.mono ?_;rintro e w1 (⟨v,d1,nsl1,hx,rfl,M1⟩ | ⟨f,hx,hk,g,hg,rfl,hc⟩);rotate_left;exact Qa (Or.inr ⟨f,by rw [E0.out,hx];rfl,hk,g,hg,rfl,hc⟩);obtain ⟨q0,q1,q2,q3,qf⟩:=Q0q (M1.own.hf _ List.mem_cons_self).1;have hv:v < 4294967296:=(by rw [(Q1H hx).1];exact Q3L (Q1H hx).2.1);have E:Hid (Q1F b n d = .ok (Q0L n v,d1)):=(by show _=_;rw [E0.out,hx];rfl);have M1:=Hid.mk M1;clear hx)
  refine hK.out _ _ ?_ (fun hHeld=>?_)
  ·go_keep
  clear hK K
  (try simp only [Qd,Qe,List.set])
  refine wpAnyH_ready (rs:=[5]) (by kernel_rfl) (by simp) ?_
  refine AllReadyH.cons rfl (fun K hK=>?_) AllReadyH.nil
  (go_simp;go_at_call 328;have VO:=QgI n x y z v hv w1;rw [hw] at VO;refine VO.mono ?_;rintro e w2 ⟨rfl,hb2⟩;have M2:=M1.out.below hb2;obtain ⟨s0,s1,s2,s3,sf⟩:=Q0q (M2.own.hf _ List.mem_cons_self).1;have M2:=Hid.mk M2.tail;clear VO)
  refine hK.out _ _ ?_ (fun hHeld=>?_)
  ·go_keep
  clear hK K
  (try simp only [Qd,Qe,List.set])
  refine wpAnyH_done (by kernel_rfl) ?_ _
  refine QK rfl (fun K hK=>?_)
  go_simp
  refine hK.out _ _ ?_
  clear hK K
  (try simp only [Qd,Qe,List.set])
  go_wp2
  go_ret
  exact Or.inl ⟨_,d1,nsl1,E.out,rfl,M2.out⟩
theorem Qcn {w u:World} {D:Nat} {Fr bs:List (Nat×Obj)} {b:List UInt8} {dep fuel size:Nat} {d:DSt} {nsl:Value} (n:Int) (f:Bool) (hn:0≤n) (hn2:n≤4294967295) (h:Q09 w D Fr bs b dep fuel size d nsl u) :
  Calls Tryz.prog 330 #[.pointer (some ⟨D,0,none⟩),.agg #[.int .i64 n,.bool f]] u (Q0M w D Fr bs b dep fuel size (Q0Z b n f d) fun v=>.int .i64 v):=by
 have M0:=h.alloc (.cells #[.int .i64 n,.bool f] 304)
 have VA:=Hid.mk (Q5Z M0)
 have VW:=Hid.mk (Q91 M0)
 have H:=Hid.mk M0.tail
 clear h M0
 cases f with
 | true=>
  have E:Hid (Q0Z b n true d = .ok (n.toNat,d)):=rfl
  go_enter Tryz.func330,Tryz.ntmps330
  go_wp2
  go_ret
  refine Or.inl ⟨n.toNat,d,nsl,E.out,?_,H.out⟩
  show Ending.returned (Value.int .i64 n)=Ending.returned (Value.int .i64 (n.toNat:Int))
  rw [Int.toNat_of_nonneg hn]
 | false=>
  have E0:Hid (Q0Z b n false d=thenE (Q37 b d) fun p=>if (p.1:Int)≤n then .ok p else .error ⟨19,d.pos⟩):=rfl
  go_enter Tryz.func330,Tryz.ntmps330
  go_wp2_with fail
  refine VA.out.mono ?_
  rintro e w1 ⟨rfl,rfl⟩
  go_wp2_with fail
  refine VW.out.mono ?_
  rintro e w1 (⟨v,d1,nsl1,hx,rfl,M1⟩ | ⟨f,hx,hk,g,hg,rfl,hc⟩)
  rotate_left
  ·exact Qa (Or.inr ⟨f,by rw [E0.out,hx];rfl,hk,g,hg,rfl,hc⟩)
  obtain ⟨q0,q1,qf,ql⟩:=Q0V (M1.own.hf _ List.mem_cons_self).1
  have hv:v < 4294967296:=by rw [(Q1H hx).1];exact Q3L (Q1H hx).2.1
  have E1:Hid (Q0Z b n false d=if (v:Int)≤n then .ok (v,d1) else .error ⟨19,d.pos⟩):=by show _=_;rw [E0.out,hx];rfl
  have M1:=Hid.mk M1
  clear hx VA VW E0
  have VL:=Hid.mk (Qf6 n false v w1)
  go_wp2_with fail
  refine VL.out.mono ?_
  rintro e w2 ⟨rfl,hb2⟩
  have M2:=Hid.mk (M1.out.below hb2).tail
  have hk2:Hid (Qb [] w w2):=M2.out.own.kp
  clear VL
  simp only [Bool.false_eq_true,if_false]
  by_cases hle:(v:Int)≤n
  ·have E2:Hid (Q0Z b n false d = .ok (v,d1)):=by show _=_;rw [E1.out,if_pos hle]
   have hd:decide ((v:Int)≤n)=true:=by simp [hle]
   rw [hd]
   clear E1 hle hd
   go_wp2
   go_ret
   exact Or.inl ⟨v,d1,nsl1,E2.out,rfl,M2.out⟩
  ·have E2:Hid (Q0Z b n false d = .error ⟨19,d.pos⟩):=by show _=_;rw [E1.out,if_neg hle]
   have hd:decide ((v:Int)≤n)=false:=by simp;omega
   rw [hd]
   clear E1 hle hd
   go_wp2_with (go_at_call 47;refine (Q0g _ _ _).mono ?_;rintro e w' ⟨rfl,rfl⟩)
   exact Qa (Q0M.throws (f:=⟨19,d.pos⟩) E2.out hk2.out ((Qb.refl [] _).alloc _) (Nat.le_refl _) (Qg rfl))
theorem Qdo {n i:Nat} {l:List UInt8} (hi:i < l.length) (hz:Q1X n (l.drop n)=Q1X i (l.drop i)) (h0:l[i]=0):Q1X n (l.drop n)=Q1X (i + 1) (l.drop (i + 1)):=by
 rw [hz,List.drop_eq_getElem_cons hi]
 simp only [Q1X,h0,if_true]
theorem Qf7 {n i:Nat} {l:List UInt8} (hi:i < l.length) (hz:Q1X n (l.drop n)=Q1X i (l.drop i)) (h0:l[i]≠0):Q1X n (l.drop n)=some i:=by
 rw [hz,List.drop_eq_getElem_cons hi]
 simp only [Q1X,h0,if_false]
theorem QgN {w u:World} {D:Nat} {Fr bs:List (Nat×Obj)} {b:List UInt8} {dep fuel size:Nat} {d:DSt} {nsl:Value} (n:Nat) (hn2:n≤4294967295) (h:Q09 w D Fr bs b dep fuel size d nsl u) :
  Calls Tryz.prog 147 #[.pointer (some ⟨D,0,none⟩),.int .i64 n] u (Q0M w D Fr bs b dep fuel size (Q1G b n d) fun l=>.string ⟨l.toArray⟩):=by
 obtain ⟨c0,c1,c2,c3,c4,c5,hfz,hlt⟩:=h.cells
 have hpl:Q2f n≤n + 3:=by unfold Q2f;omega
 have hpn:n≤Q2f n:=by unfold Q2f;omega
 have VT:=Hid.mk (Q90 (Q2f n) (by omega) h)
 have e1:((n:Int) + 3) / 4 * 4=(Q2f n:Int):=by unfold Q2f;omega
 have hpos:=h.pos
 have hln:=h.len
 clear h
 go_enter Tryz.func147,Tryz.ntmps147
 go_wp2_with fail
 refine VT.out.mono ?_
 rintro e w1 (⟨l,d1,nsl1,hx,rfl,M1⟩ | ⟨f,hx,hk,g,hg,rfl,hc⟩)
 rotate_left
 ·exact Qa (Or.inr ⟨f,by unfold Q1G;rw [hx];rfl,hk,g,hg,rfl,hc⟩)
 have hl:l.length=Q2f n:=(Q4f hx).2.2.2.2
 have E0:Hid (Q1G b n d=match Q1X n (l.drop n) with | some i=>.error ⟨17,d.pos + i⟩ | none=>.ok (l.take n,d1)):=by show _=_;unfold Q1G;rw [hx];rfl
 have M1:=Hid.mk M1
 have hk1:Hid (Qb [] w w1):=M1.out.own.kp
 have hnl:n≤l.length:=by omega
 have hl9:l.length≤4294967300:=by omega
 clear hx VT hl hpl hpn e1
 go_wp2
 go_loopw [7] (fun i ur=>∃ j:Nat,i = .int .i64 j∧n≤j∧j≤l.length∧Hid (Q1X n (l.drop n)=Q1X j (l.drop j))∧ur=w1) (fun i _=>l.length - (intOf i).toNat)
 case atStart=>exact ⟨n,rfl,Nat.le_refl _,hnl,rfl,rfl⟩
 case round=>
  obtain ⟨j,rfl,hnj,hj,HB,rfl⟩:=hrel
  rcases Nat.lt_or_ge j l.length with hlt' | hge
  ·have hj0:(0:Int)≤↑j:=by omega
   have hj1:(↑j:Int) < ↑l.length:=by omega
   have hcx:(⟨l.toArray⟩:ByteArray)[j]'(by simp [ByteArray.size];exact hlt')=l[j]:=rfl
   by_cases hz:l[j]=0
   ·have HB2:=Hid.mk (Qdo hlt' HB.out hz)
    have hb:((l[j].toNat:Int) != 0)=false:=by rw [hz];rfl
    clear HB
    go_wp2
    exact ⟨⟨j + 1,by go_num,by omega,hlt',HB2,trivial⟩,by simp [intOf];omega⟩
   ·have E1:Hid (Q1G b n d = .error ⟨17,d.pos + j⟩):=by show _=_;rw [E0.out,Qf7 hlt' HB.out hz]
    have hb:((l[j].toNat:Int) != 0)=true:=by
     have:l[j].toNat≠0:=fun e=>hz (UInt8.toNat_inj.1 (by simpa using e))
     simp
     omega
    clear HB hz E0
    go_wp2_with (go_at_call 47;refine (Q0g _ _ _).mono ?_;rintro e w' ⟨rfl,rfl⟩)
    have ec:((d.pos:Int) + j)=((d.pos + j:Nat):Int):=by omega
    exact (show bodyPost Tryz.prog Tryz.f147 (Q0M w D Fr bs b dep fuel size (Q1G b n d) fun l=>.string ⟨l.toArray⟩) (Exit.panic _) _ _ from Qa (Q0M.throws (f:=⟨17,d.pos + j⟩) E1.out hk1.out ((Qb.refl [] _).alloc _) (Nat.le_refl _) (by rw [ec];exact Qg rfl)))
  ·have hjj:j=l.length:=by omega
   subst hjj
   have E1:Hid (Q1G b n d = .ok (l.take n,d1)):=by
    show _=_
    rw [E0.out,HB.out,List.drop_length]
    rfl
   clear HB E0
   have VC:=fun w=>Q63 ⟨(l.take n).toArray⟩ w (by simp [ByteArray.size];omega)
   have hn0:(0:Int)≤↑n:=by omega
   have hn1:(↑n:Int)≤↑l.length:=by omega
   go_wp2_with fail
   rw [Q4o]
   refine (VC _).mono ?_
   rintro e w2 ⟨rfl,hb2⟩
   have M2:=Hid.mk (M1.out.below hb2)
   go_wp2
   go_ret
   exact Or.inl ⟨l.take n,d1,nsl1,E1.out,rfl,M2.out⟩
abbrev Q5m (r:Except Mar.Fault DSt):Except Mar.Fault (Unit×DSt):=thenE r fun d=>.ok ((),d)
theorem Q24 (fuel:Nat) (d:DSt):(Q0E fuel d = .ok d∧d.nodes.length < fuel)∨Q0E fuel d = .error ⟨15,d.pos⟩:=by
 unfold Q0E
 by_cases h:fuel≤d.nodes.length
 ·exact Or.inr (if_pos h)
 ·exact Or.inl ⟨if_neg h,by omega⟩
theorem Qdp {w u:World} {D:Nat} {Fr bs:List (Nat×Obj)} {b:List UInt8} {dep fuel size:Nat} {d:DSt} {nsl:Value} {bsN:List (Nat×Obj)} {cs:List Value} {n:NumL} (hN:Q1u bsN cs n) (hw:∀ p∈bsN,w.heap[p.1]? = some p.2) (hfu:fuel≤10000) (h:Q09 w D Fr bs b dep fuel size d nsl u) :
  Calls Tryz.prog 326 #[.pointer (some ⟨D,0,none⟩),.agg cs.toArray] u (Q0M w D Fr bs b dep fuel size (Q5m ((decW b dep fuel).num n d)) fun _=>.tuple #[]):=by
 obtain ⟨m,rfl,hm,x,y,z,rfl⟩:=id hN
 have M0:=h.alloc (.cells #[.int .i64 n.low,.int .i64 n.high,.slice x y z,.bool n.wide] 200)
 have VB:=Hid.mk (Q6k M0)
 clear h M0
 go_enter Tryz.func326,Tryz.ntmps326
 go_wp2_with fail
 refine VB.out.mono ?_
 rintro e w1 (⟨_,d1,nsl1,hx,rfl,M1⟩ | ⟨f,hx,hk,g,hg,rfl,hc⟩)
 rotate_left
 ·refine Qa (Or.inr ⟨f,?_,hk,g,hg,rfl,hc⟩)
  rcases Q24 fuel d with ⟨hb,_⟩ | hb
  ·rw [hb] at hx;cases hx
  ·rw [hb] at hx
   cases hx
   show thenE (thenE (Q0E fuel d) _) _=_
   rw [hb]
   rfl
 obtain ⟨hb,hnl⟩:Q0E fuel d = .ok d∧d.nodes.length < fuel:=by
  rcases Q24 fuel d with hb | hb
  ·exact hb
  ·rw [hb] at hx;cases hx
 obtain rfl:d1=d:=by rw [hb] at hx;cases hx;rfl
 have E0:Hid (Q5m ((decW b dep fuel).num n d1)=thenE (Q1F b n d1) fun p=>if n.has p.1 then .ok ((),putD ⟨1,p.1,[],0,0⟩ p.2) else .error ⟨18,d1.pos⟩):=by
  show thenE (thenE (Q0E fuel d1) _) _=_
  rw [hb]
  simp only [thenE]
  cases Q1F b n d1 with
  | error f=>rfl
  | ok p=>
   cases hq:n.has p.1<;>simp [hq]
 have VA:=Hid.mk (Q5Z M1)
 have VN:=Hid.mk (QgM n x y z M1)
 obtain ⟨q0,q1,q2,q3,qf⟩:=Q0q (M1.own.hf _ List.mem_cons_self).1
 clear hx hb M1 VB
 go_wp2_with fail
 refine VA.out.mono ?_
 rintro e w2 ⟨rfl,rfl⟩
 go_wp2_with fail
 refine VN.out.mono ?_
 rintro e w3 (⟨v,d3,nsl3,hx,rfl,M3⟩ | ⟨f,hx,hk,g,hg,rfl,hc⟩)
 rotate_left
 ·exact Qa (Or.inr ⟨f,by rw [E0.out,hx];rfl,hk,g,hg,rfl,hc⟩)
 have hnd:d3.nodes.length < 10000:=by rw [(Q4g hx).2.2.2.1];omega
 have E1:Hid (Q5m ((decW b dep fuel).num n d1)=if n.has v then .ok ((),putD ⟨1,v,[],0,0⟩ d3) else .error ⟨18,d1.pos⟩):=by show _=_;rw [E0.out,hx];rfl
 obtain ⟨q0,q1,q2,q3,qf⟩:=Q0q (M3.own.hf _ List.mem_cons_self).1
 have VH:=Hid.mk (Q9M hN v (fun p hp=>(M3.own.kp.block _ (Qc (hw p hp)) (by simp)).trans (hw p hp)))
 have M3:=Hid.mk M3
 clear hx VA VN E0 hm
 go_wp2_with fail
 refine VH.out.mono ?_
 rintro e w4 ⟨rfl,hb4⟩
 have M4:=(M3.out.below hb4).tail
 have hk4:Hid (Qb [] w w4):=M4.own.kp
 cases hh:n.has v with
 | true=>
  have E2:Hid (Q5m ((decW b dep fuel).num n d1) = .ok ((),putD ⟨1,v,[],0,0⟩ d3)):=by show _=_;rw [E1.out,if_pos hh]
  have VP:=Hid.mk (Q7a ⟨1,v,[],0,0⟩ hnd M4)
  clear M4 E1 hh VH
  go_wp2_with fail
  refine VP.out.mono ?_
  rintro e w5 ⟨rfl,nsl5,M5⟩
  have M5:=Hid.mk M5
  go_wp2
  go_end0
  exact Or.inl ⟨(),_,nsl5,E2.out,rfl,M5.out⟩
 | false=>
  have E2:Hid (Q5m ((decW b dep fuel).num n d1) = .error ⟨18,d1.pos⟩):=by show _=_;rw [E1.out,if_neg (by rw [hh];simp)]
  clear M4 E1 hh VH
  go_wp2_with (go_at_call 47;refine (Q0g _ _ _).mono ?_;rintro e w' ⟨rfl,rfl⟩)
  exact Qa (Q0M.throws (f:=⟨18,d1.pos⟩) E2.out hk4.out ((Qb.refl [] _).alloc _) (Nat.le_refl _) (Qg rfl))
theorem QgO {w u:World} {D:Nat} {Fr bs:List (Nat×Obj)} {b:List UInt8} {dep fuel size:Nat} {d:DSt} {nsl:Value} (n:Int) (f:Bool) (hn:0≤n) (hn2:n≤4294967295) (hfu:fuel≤10000) (h:Q09 w D Fr bs b dep fuel size d nsl u) :
  Calls Tryz.prog 325 #[.pointer (some ⟨D,0,none⟩),.agg #[.int .i64 n,.bool f]] u (Q0M w D Fr bs b dep fuel size ((decW b dep fuel).list n f d) fun v=>.int .i64 v):=by
 have M0:=h.alloc (.cells #[.int .i64 n,.bool f] 304)
 have VB:=Hid.mk (Q6k M0)
 clear h M0
 go_enter Tryz.func325,Tryz.ntmps325
 go_wp2_with fail
 refine VB.out.mono ?_
 rintro e w1 (⟨_,d1,nsl1,hx,rfl,M1⟩ | ⟨f',hx,hk,g,hg,rfl,hc⟩)
 rotate_left
 ·refine Qa (Or.inr ⟨f',?_,hk,g,hg,rfl,hc⟩)
  rcases Q24 fuel d with ⟨hb,_⟩ | hb
  ·rw [hb] at hx;cases hx
  ·rw [hb] at hx
   cases hx
   show thenE (Q0E fuel d) _=_
   rw [hb]
   rfl
 obtain ⟨hb,hnl⟩:Q0E fuel d = .ok d∧d.nodes.length < fuel:=by
  rcases Q24 fuel d with hb | hb
  ·exact hb
  ·rw [hb] at hx;cases hx
 obtain rfl:d1=d:=by rw [hb] at hx;cases hx;rfl
 have E0:Hid ((decW b dep fuel).list n f d1=thenE (Q0Z b n f d1) fun p=>.ok (p.1,putD ⟨3,0,[],p.1,0⟩ p.2)):=by
  show thenE (Q0E fuel d1) _=_
  rw [hb]
  rfl
 obtain ⟨q0,q1,qf,ql⟩:=Q0V (M1.own.hf _ List.mem_cons_self).1
 have VC:=Hid.mk (Qcn n f hn hn2 M1.tail)
 clear hx hb M1 VB
 go_wp2_with fail
 refine VC.out.mono ?_
 rintro e w3 (⟨v,d3,nsl3,hx,rfl,M3⟩ | ⟨f',hx,hk,g,hg,rfl,hc⟩)
 rotate_left
 ·exact Qa (Or.inr ⟨f',by rw [E0.out,hx];rfl,hk,g,hg,rfl,hc⟩)
 have hnd:d3.nodes.length < 10000:=by rw [(Q1k hx).2.1];omega
 have E1:Hid ((decW b dep fuel).list n f d1 = .ok (v,putD ⟨3,0,[],v,0⟩ d3)):=by show _=_;rw [E0.out,hx];rfl
 have VP:=Hid.mk (Q7a ⟨3,0,[],v,0⟩ hnd M3)
 clear hx M3 VC E0
 go_wp2_with fail
 refine VP.out.mono ?_
 rintro e w5 ⟨rfl,nsl5,M5⟩
 have M5:=Hid.mk M5
 go_wp2
 go_ret
 exact Or.inl ⟨v,_,nsl5,E1.out,rfl,M5.out⟩
theorem Qdq {b:List UInt8} {n:Int} {f:Bool} {d d':DSt} {v:Nat} (hn:0≤n) (hn2:n≤4294967295) (h:Q0Z b n f d = .ok (v,d')):v≤4294967295:=by
 obtain ⟨_,_,_,h4⟩:=Q1k h
 cases f with
 | true=>simp only [if_true] at h4;omega
 | false=>
  simp only [Bool.false_eq_true,if_false] at h4
  have:=Q3L h4.2
  omega
theorem QgP {w u:World} {D:Nat} {Fr bs:List (Nat×Obj)} {b:List UInt8} {dep fuel size:Nat} {d:DSt} {nsl:Value} (n:Int) (f:Bool) (hn:0≤n) (hn2:n≤4294967295) (hfu:fuel≤10000) (h:Q09 w D Fr bs b dep fuel size d nsl u) :
  Calls Tryz.prog 327 #[.pointer (some ⟨D,0,none⟩),.agg #[.int .i64 n,.bool f]] u (Q0M w D Fr bs b dep fuel size (Q5m ((decW b dep fuel).text n f d)) fun _=>.tuple #[]):=by
 have M0:=h.alloc (.cells #[.int .i64 n,.bool f] 304)
 have VB:=Hid.mk (Q6k M0)
 clear h M0
 go_enter Tryz.func327,Tryz.ntmps327
 go_wp2_with fail
 refine VB.out.mono ?_
 rintro e w1 (⟨_,d1,nsl1,hx,rfl,M1⟩ | ⟨f',hx,hk,g,hg,rfl,hc⟩)
 rotate_left
 ·refine Qa (Or.inr ⟨f',?_,hk,g,hg,rfl,hc⟩)
  rcases Q24 fuel d with ⟨hb,_⟩ | hb
  ·rw [hb] at hx;cases hx
  ·rw [hb] at hx
   cases hx
   show thenE (thenE (Q0E fuel d) _) _=_
   rw [hb]
   rfl
 obtain ⟨hb,hnl⟩:Q0E fuel d = .ok d∧d.nodes.length < fuel:=by
  rcases Q24 fuel d with hb | hb
  ·exact hb
  ·rw [hb] at hx;cases hx
 obtain rfl:d1=d:=by rw [hb] at hx;cases hx;rfl
 have E0:Hid (Q5m ((decW b dep fuel).text n f d1)=thenE (Q0Z b n f d1) fun p=>thenE (Q1G b p.1 p.2) fun q=>.ok ((),putD ⟨2,0,q.1,0,p.2.pos⟩ q.2)):=by
  show thenE (thenE (Q0E fuel d1) _) _=_
  rw [hb]
  simp only [thenE]
  cases Q0Z b n f d1 with
  | error f=>rfl
  | ok p=>
   simp only
   cases Q1G b p.1 p.2<;>rfl
 obtain ⟨q0,q1,qf,ql⟩:=Q0V (M1.own.hf _ List.mem_cons_self).1
 have VC:=Hid.mk (Qcn n f hn hn2 M1.tail)
 clear hx hb M1 VB
 go_wp2_with fail
 refine VC.out.mono ?_
 rintro e w3 (⟨v,d3,nsl3,hx,rfl,M3⟩ | ⟨f',hx,hk,g,hg,rfl,hc⟩)
 rotate_left
 ·exact Qa (Or.inr ⟨f',by rw [E0.out,hx];rfl,hk,g,hg,rfl,hc⟩)
 have hnd:d3.nodes=d1.nodes:=(Q1k hx).2.1
 have hvs:=Qdq hn hn2 hx
 have E1:Hid (Q5m ((decW b dep fuel).text n f d1)=thenE (Q1G b v d3) fun q=>.ok ((),putD ⟨2,0,q.1,0,d3.pos⟩ q.2)):=by show _=_;rw [E0.out,hx];rfl
 have VA:=Hid.mk (Q5Z M3)
 have VP:=Hid.mk (QgN v hvs M3)
 clear hx M3 VC E0
 go_wp2_with fail
 refine VA.out.mono ?_
 rintro e w4 ⟨rfl,rfl⟩
 go_wp2_with fail
 refine VP.out.mono ?_
 rintro e w5 (⟨l,d5,nsl5,hx,rfl,M5⟩ | ⟨f',hx,hk,g,hg,rfl,hc⟩)
 rotate_left
 ·exact Qa (Or.inr ⟨f',by rw [E1.out,hx];rfl,hk,g,hg,rfl,hc⟩)
 have hnd5:d5.nodes.length < 10000:=by rw [(Q4h hx).2.2.2.1,hnd];omega
 have E2:Hid (Q5m ((decW b dep fuel).text n f d1) = .ok ((),putD ⟨2,0,l,0,d3.pos⟩ d5)):=by show _=_;rw [E1.out,hx];rfl
 have VU:=Hid.mk (Q7a ⟨2,0,l,0,d3.pos⟩ hnd5 M5)
 clear hx M5 VA VP E1
 go_wp2_with fail
 refine VU.out.mono ?_
 rintro e w6 ⟨rfl,nsl6,M6⟩
 have M6:=Hid.mk M6
 go_wp2
 go_end0
 exact Or.inl ⟨(),_,nsl6,E2.out,rfl,M6.out⟩
def Q60:Qj→Prop
 | .choice _ ws _=>(ws.map (·.1)).Nodup
 | _=>True
def QW (s:CSt):Prop:=∀ x∈s.code,Q60 x
theorem QW.put {s:CSt} (h:QW s) {x:Qj} (hx:Q60 x):QW (putM x s):=by
 intro y hy
 simp only [putM,List.mem_append,List.mem_singleton] at hy
 rcases hy with hy | rfl
 ·exact h y hy
 ·exact hx
theorem QW.set {s:CSt} (h:QW s) {i:Nat} {x:Qj} (hx:Q60 x):QW (setM i x s):=by
 intro y hy
 rcases List.mem_or_eq_of_mem_set hy with hy | rfl
 ·exact h y hy
 ·exact hx
theorem QW.call {s:CSt} (h:QW s) (n:List UInt8):QW (Q2k n s):=by
 intro y hy
 simp only [Q2k,List.mem_append,List.mem_singleton] at hy
 rcases hy with hy | rfl
 ·exact h y hy
 ·trivial
theorem QW.value (t:Ty):∀ {s:CSt},QW s→QW (QR t s):=by
 induction t with
 | named n a=>intro s h;exact h.call n
 | plain k=>intro s h;exact h.put (by trivial)
 | opaq n f=>intro s h;exact h.put (by trivial)
 | str n f=>intro s h;exact h.put (by trivial)
 | void=>intro s h;exact h
 | arr o n f ih=>intro s h;exact ((ih (h.put (by trivial))).put (by trivial)).set (by trivial)
 | opt o ih=>intro s h;exact (ih (h.put (by trivial))).set (by simp [Q60])
theorem QW.all (ts:List Ty):∀ {s:CSt},QW s→QW (ts.foldl (fun s t=>QR t s) s):=by
 induction ts with
 | nil=>intro s h;exact h
 | cons t ts ih=>intro s h;exact ih (h.value t)
theorem Qf8 (v:Nat×Nat):∀ (l:List Int) {ws:List (Int×Nat×Nat)},(ws.map (·.1)).Nodup→((l.foldl (fun l n=>mput l n v) ws).map (·.1)).Nodup:=by
 intro l
 induction l with
 | nil=>intro ws h;exact h
 | cons k l ih=>intro ws h;exact ih (Q2v h _ _)
theorem QW.arms:∀ (arms:List (List Int×Qr)) {q:USt},QW q.s→(q.ways.map (·.1)).Nodup→QW (arms.foldl uArm q).s∧((arms.foldl uArm q).ways.map (·.1)).Nodup:=by
 intro arms
 induction arms with
 | nil=>intro q h1 h2;exact ⟨h1,h2⟩
 | cons x arms ih=>intro q h1 h2;exact ih (QW.put (QW.value _ h1) (by trivial)) (Qf8 _ _ h2)
theorem QW.ends:∀ (l:List Nat) {s:CSt},QW s→QW (Q1Q l s):=by
 intro l
 induction l with
 | nil=>intro s h;exact h
 | cons i l ih=>intro s h;exact ih (h.set (by trivial))
theorem QW.def {s:CSt} (d:DefL) (h:QW s):QW (QO d s):=by
 cases d with
 | const t p v=>exact h
 | prog t p vs k=>exact h
 | typedef d=>exact QW.put (h.value d.ty) (by trivial)
 | enum t p ms=>
  have h1:QW { s with enums:=mput s.enums t (Q0o ms) }:=h
  exact QW.put (h1.put (by trivial)) (by trivial)
 | struct t p ms=>
  have e:=QW.all (ms.map (·.ty)) (h.put (x:=.struct ms.length true) (by trivial))
  rw [List.foldl_map] at e
  exact QW.put (s:=Q1K ms s) e (by trivial)
 | union t p sel arms=>
  obtain ⟨h1,h2⟩:=QW.arms arms (q:=⟨putM .hole s,[],none,[]⟩) (h.put (by trivial)) (by simp)
  exact QW.put (s:=Q3T sel arms s) (QW.ends _ (h1.set h2)) (by trivial)
theorem Qco (ds:List DefL):∀ x∈(Q1o ds).1,Q60 x:=by
 have h1:∀ (l:List DefL) {s:CSt},QW s→QW (l.foldl (fun s d=>QO d s) s):=by
  intro l
  induction l with
  | nil=>intro s h;exact h
  | cons d l ih=>intro s h;exact ih (h.def d)
 have h2:∀ (l:List DefL) {p:CSt×List (List UInt8×Nat)},QW p.1→QW (l.foldl QJ p).1:=by
  intro l
  induction l with
  | nil=>intro p h;exact h
  | cons d l ih=>
   intro p h
   refine ih ?_
   unfold QJ
   split
   ·exact QW.put (h.call _) (by trivial)
   ·exact h
 have h3:∀ (l:List (Nat×List UInt8)) {s:CSt},QW s→QW (lnk s l):=by
  intro l
  induction l with
  | nil=>intro s h;exact h
  | cons k l ih=>intro s h;exact ih (h.set (by trivial))
 have h4:∀ (t:Ty) {s:CSt},QW s→QW (startT t s):=fun t s h=>QW.put (h.value t) (by trivial)
 have h5:∀ (l:List Q1Y) {q:CSt×List (Int×Nat×Nat)},QW q.1→QW (l.foldl Q0R q).1:=by
  intro l
  induction l with
  | nil=>intro q h;exact h
  | cons p l ih=>intro q h;exact ih (h4 p.res (h4 p.arg h))
 have h6:∀ (l:List Q0b) {q:CSt×PrgL},QW q.1→QW (l.foldl Q1E q).1:=by
  intro l
  induction l with
  | nil=>intro q h;exact h
  | cons v l ih=>intro q h;exact ih (h5 v.procs (q:=(q.1,[])) h)
 have h7:∀ (l:List DefL) {q:CSt×List (Int×PrgL)},QW q.1→QW (l.foldl Q0a q).1:=by
  intro l
  induction l with
  | nil=>intro q h;exact h
  | cons d l ih=>
   intro q h
   refine ih ?_
   cases d with
   | prog t a vs num=>exact h6 vs (q:=(q.1,_)) h
   | _=>exact h
 exact h3 _ (h7 ds (q:=((ds.foldl QJ (ds.foldl (fun s d=>QO d s) st0C,[])).1,[])) (h2 ds (p:=(ds.foldl (fun s d=>QO d s) st0C,[])) (h1 ds (by intro x hx;cases hx))))
def wayV (n:NumL) (ws:List (Int×Nat×Nat)) (o:Option (Nat×Nat)) (k:Int):Value:=match wayL n ws o k with
 | some q=>.agg #[.int .i64 q.1,.int .i64 q.2]
 | none=>.agg #[.int .i64 0,.int .i64 0]
theorem QgQ {W:World} {m:Nat} {l:List (Int×Nat×Nat)} (hb:W.heap[m]? = some (Q12 l)) (nd:(l.map (·.1)).Nodup) (k:Int) :
  (Instr.lookup 318 (.map (some m)) (.int .i64 k) true).run Tryz.prog W = .ok (match QI l k with
   | some q=>.tuple #[.agg #[.int .i64 q.1,.int .i64 q.2],.bool true]
   | none=>.tuple #[.agg #[.int .i64 0,.int .i64 0],.bool false]) W:=by
 have hh:=Q3U (P:=Tryz.prog) (T:=318) (kt:=2) (et:=323) (d:=.int .i64) (by kernel_rfl) (by kernel_rfl) (fun k:Int=>.int .i64 k) (fun q:Nat×Nat=>.agg #[.int .i64 q.1,.int .i64 q.2]) (fun _=>rfl) QdO hb nd (z:=.agg #[.int .i64 0,.int .i64 0]) (by kernel_rfl) k true
 cases hm:QI l k with
 | none=>rw [hm] at hh;exact hh
 | some v=>rw [hm] at hh;exact hh
theorem Q6P {b:Nat} {k t k' t':Value} {T:TypeId} {fr:Nat×Nat} {w:World} (h:w.heap[b]? = some (.cells #[k,t] T fr)):((w.setCell ⟨b,0,none⟩ k').setCell ⟨b,1,none⟩ t').heap[b]? = some (.cells #[k',t'] T fr):=by
 have h1:=Qy (i:=0) h k'
 exact Qy (i:=1) h1 t'
theorem Qk7 {bs:List (Nat×Obj)} {cs:List Value} {n:NumL} {m:Nat} {ws:List (Int×Nat×Nat)} {ov:Value} {o:Option (Nat×Nat)} (hN:Q1u bs cs n) (hm:(m,Q12 ws)∈bs) (ho:Q3J bs ov o) (nd:(ws.map (·.1)).Nodup) (k:Int) {w:World} (hw:∀ p∈bs,w.heap[p.1]? = some p.2) :
  Calls Tryz.prog 314 #[.agg (cs++[.map (some m),ov]).toArray,.int .i64 k] w fun e w'=>e = .returned (.tuple #[wayV n ws o k,.bool (wayL n ws o k).isSome])∧Below w.heap.size w w':=by
 obtain ⟨mm,rfl,hmem,x,y,z,rfl⟩:=id hN
 obtain ⟨pa,rfl⟩:∃ pa,ov = .pointer pa:=by
  cases o with
  | none=>exact ⟨_,ho⟩
  | some q=>obtain ⟨b,h1,_⟩:=ho;exact ⟨_,h1⟩
 have hb2:∀ o1 o2,Below w.heap.size w ((w.alloc o1).alloc o2):=fun o1 o2=>((Below.refl _ _).alloc (Nat.le_refl _) _).alloc (by simp) _
 have VH:=Hid.mk (fun o1 o2=>Q9M hN k (w:=(w.alloc o1).alloc o2) (fun p hp=>((hb2 o1 o2).block _ (Qc (hw p hp))).trans (hw p hp)))
 go_enter Tryz.func314,Tryz.ntmps314
 go_wp2_with fail
 refine (VH.out _ _).mono ?_
 rintro e w1 ⟨rfl,hbw⟩
 have oB1:w1.heap[w.heap.size]? = some (.cells #[.int .i64 n.low,.int .i64 n.high,.slice x y z,.bool n.wide,.map (some m),.pointer pa] 321):=(hbw.block _ (by simp;omega)).trans ((Below.heap_alloc _ _ _ (by simp)).trans (Qg rfl))
 have oR1:w1.heap[w.heap.size + 1]? = some (.cells #[.int .i64 0,.int .i64 0] 323):=(hbw.block _ (by simp)).trans (Qg (by simp))
 have hbW:Below w.heap.size w w1:=(hb2 _ _).trans (hbw.mono (by simp;omega))
 have hmW:w1.heap[m]? = some (Q12 ws):=(hbW.block _ (Qc (hw _ hm))).trans (hw _ hm)
 have hlk:=QgQ hmW nd k
 have hsz1:=hbW.size
 have lR:=Qc oR1
 have HO:=Hid.mk ho
 have HW:=Hid.mk hw
 clear hbw hmem ho hw
 cases hh:n.has k with
 | false=>
  have E1:Hid (wayV n ws o k = .agg #[.int .i64 0,.int .i64 0]):=by show _=_;simp [wayV,wayL,hh]
  have E2:Hid ((wayL n ws o k).isSome=false):=by show _=_;simp [wayL,hh]
  have HBF:Hid (∀ a c,Below w.heap.size w ((w1.setCell ⟨w.heap.size + 1,0,none⟩ a).setCell ⟨w.heap.size + 1,1,none⟩ c)):=fun a c=>(hbW.setCell (p:=⟨w.heap.size + 1,0,none⟩) (by simp) a).setCell (p:=⟨w.heap.size + 1,1,none⟩) (by simp) c
  obtain ⟨r0,r1,rf,rl⟩:=Q0V oR1
  obtain ⟨z0,z1,_,_⟩:=Q0V (Q6P (k':=.int .i64 0) (t':=.int .i64 0) oR1)
  clear hbW hlk
  go_wp2
  exact bodyPost_ret (v:=.tuple #[.agg #[.int .i64 0,.int .i64 0],.bool false]) (by simp [results,Tryz.results314,go_sem,z0,z1]) rfl ⟨by rw [E1.out,E2.out],HBF.out _ _⟩
 | true=>
  obtain ⟨b0,b1,b2,b3,b4,b5,bf,bl⟩:=Q2I oB1
  cases hl:QI ws k with
  | some q=>
   rw [hl] at hlk
   have E1:Hid (wayV n ws o k = .agg #[.int .i64 q.1,.int .i64 q.2]):=by show _=_;simp [wayV,wayL,hh,hl]
   have E2:Hid ((wayL n ws o k).isSome=true):=by show _=_;simp [wayL,hh,hl]
   have oR:∀ (k' t':Value) ob,(((w1.setCell ⟨w.heap.size + 1,0,none⟩ k').setCell ⟨w.heap.size + 1,1,none⟩ t').alloc ob).heap[w.heap.size + 1]? = some (.cells #[k',t'] 323):=fun k' t' ob=>(Below.heap_alloc _ _ _ (Qc (Q6P oR1))).trans (Q6P oR1)
   have HBF:Hid (∀ ob a c,Below w.heap.size w (((w1.setCell ⟨w.heap.size + 1,0,none⟩ a).setCell ⟨w.heap.size + 1,1,none⟩ c).alloc ob)):=fun ob a c=>((hbW.setCell (p:=⟨w.heap.size + 1,0,none⟩) (by simp) a).setCell (p:=⟨w.heap.size + 1,1,none⟩) (by simp) c).alloc (by simp [World.setCell];omega) ob
   obtain ⟨r0,r1,rf,rl⟩:=Q0V oR1
   have zz:=fun ob=>Q0V (oR (.int .i64 (q.1:Int)) (.int .i64 (q.2:Int)) ob)
   have z0:=fun ob=>(zz ob).1
   have z1:=fun ob=>(zz ob).2.1
   clear hbW zz oR hh hl
   go_wp2
   exact bodyPost_ret (v:=.tuple #[.agg #[.int .i64 q.1,.int .i64 q.2],.bool true]) (by simp [results,Tryz.results314,go_sem,z0,z1]) rfl ⟨by rw [E1.out,E2.out],HBF.out _ _ _⟩
  | none=>
   rw [hl] at hlk
   have oR:∀ (k' t':Value) ob,(((w1.setCell ⟨w.heap.size + 1,0,none⟩ k').setCell ⟨w.heap.size + 1,1,none⟩ t').alloc ob).heap[w.heap.size + 1]? = some (.cells #[k',t'] 323):=fun k' t' ob=>(Below.heap_alloc _ _ _ (Qc (Q6P oR1))).trans (Q6P oR1)
   have HBF:Hid (∀ ob a c,Below w.heap.size w (((w1.setCell ⟨w.heap.size + 1,0,none⟩ a).setCell ⟨w.heap.size + 1,1,none⟩ c).alloc ob)):=fun ob a c=>((hbW.setCell (p:=⟨w.heap.size + 1,0,none⟩) (by simp) a).setCell (p:=⟨w.heap.size + 1,1,none⟩) (by simp) c).alloc (by simp [World.setCell];omega) ob
   obtain ⟨r0,r1,rf,rl⟩:=Q0V oR1
   cases o with
   | some q=>
    obtain ⟨b9,e9,h9⟩:=HO.out
    cases e9
    have h9':w1.heap[b9]? = some (.cells #[.int .i64 q.1,.int .i64 q.2] 323):=(hbW.block _ (Qc (HW.out _ h9))).trans (HW.out _ h9)
    obtain ⟨p0,p1,pf,pl⟩:=Q0V h9'
    have E1:Hid (wayV n ws (some q) k = .agg #[.int .i64 q.1,.int .i64 q.2]):=by show _=_;simp [wayV,wayL,hh,hl]
    have E2:Hid ((wayL n ws (some q) k).isSome=true):=by show _=_;simp [wayL,hh,hl]
    have zz:=fun ob=>Q0V (oR (.int .i64 (q.1:Int)) (.int .i64 (q.2:Int)) ob)
    have z0:=fun ob=>(zz ob).1
    have z1:=fun ob=>(zz ob).2.1
    clear hbW zz oR hh hl
    go_wp2
    exact bodyPost_ret (v:=.tuple #[.agg #[.int .i64 q.1,.int .i64 q.2],.bool true]) (by simp [results,Tryz.results314,go_sem,z0,z1]) rfl ⟨by rw [E1.out,E2.out],HBF.out _ _ _⟩
   | none=>
    have e9:Value.pointer pa = .pointer none:=HO.out
    cases e9
    have E1:Hid (wayV n ws none k = .agg #[.int .i64 0,.int .i64 0]):=by show _=_;simp [wayV,wayL,hh,hl]
    have E2:Hid ((wayL n ws none k).isSome=false):=by show _=_;simp [wayL,hh,hl]
    have zz:=fun ob=>Q0V (oR (.int .i64 0) (.int .i64 0) ob)
    have z0:=fun ob=>(zz ob).1
    have z1:=fun ob=>(zz ob).2.1
    clear hbW zz oR hh hl
    go_wp2
    exact bodyPost_ret (v:=.tuple #[.agg #[.int .i64 0,.int .i64 0],.bool false]) (by simp [results,Tryz.results314,go_sem,z0,z1]) rfl ⟨by rw [E1.out,E2.out],HBF.out _ _ _⟩
theorem Q09.setFr {w u:World} {D:Nat} {Fr bs:List (Nat×Obj)} {b:List UInt8} {dep fuel size:Nat} {d:DSt} {nsl:Value} {m:Nat} {o o':Obj} {u':World} (h:Q09 w D ((m,o) :: Fr) bs b dep fuel size d nsl u) (hk:Qb [m] u u') (ho:u'.heap[m]? = some o'):Q09 w D ((m,o') :: Fr) bs b dep fuel size d nsl u':=
 h.beside hk (by simpa using (h.own.hf (m,o) (by simp)).2) (h.own.setFr hk ho)
theorem Qi5 {w u:World} {D:Nat} {Fr bs:List (Nat×Obj)} {b:List UInt8} {dep fuel size:Nat} {d:DSt} {nsl:Value} {bsN:List (Nat×Obj)} {cs:List Value} {n:NumL} {m:Nat} {ws:List (Int×Nat×Nat)} {ov:Value} {o:Option (Nat×Nat)} (hN:Q1u bsN cs n) (hm:(m,Q12 ws)∈bsN) (ho:Q3J bsN ov o) (nd:(ws.map (·.1)).Nodup) (hw:∀ p∈bsN,w.heap[p.1]? = some p.2) (hfu:fuel≤10000) (h:Q09 w D Fr bs b dep fuel size d nsl u) :
  Calls Tryz.prog 323 #[.pointer (some ⟨D,0,none⟩),.agg (cs++[.map (some m),ov]).toArray] u (Q0M w D Fr bs b dep fuel size ((decW b dep fuel).arm n (fun k=>(wayL n ws o k).map (·.2)) d) (wayV n ws o)):=by
 obtain ⟨mm,rfl,hmem,x,y,z,rfl⟩:=id hN
 obtain ⟨pa,rfl⟩:∃ pa,ov = .pointer pa:=by
  cases o with
  | none=>exact ⟨_,ho⟩
  | some q=>obtain ⟨b,h1,_⟩:=ho;exact ⟨_,h1⟩
 have M0:=(h.alloc (.cells #[.int .i64 n.low,.int .i64 n.high,.slice x y z,.bool n.wide,.map (some m),.pointer pa] 321)).alloc (.cells #[.int .i64 0,.int .i64 0] 323)
 have hsz:(u.alloc (.cells #[.int .i64 n.low,.int .i64 n.high,.slice x y z,.bool n.wide,.map (some m),.pointer pa] 321)).heap.size=u.heap.size + 1:=by simp
 rw [hsz] at M0
 have VB:=Hid.mk (Q6k M0)
 clear h M0
 go_enter Tryz.func323,Tryz.ntmps323
 go_wp2_with fail
 refine VB.out.mono ?_
 rintro e w1 (⟨_,d1,nsl1,hx,rfl,M1⟩ | ⟨f',hx,hk,g,hg,rfl,hc⟩)
 rotate_left
 ·refine Qa (Or.inr ⟨f',?_,hk,g,hg,rfl,hc⟩)
  rcases Q24 fuel d with ⟨hb,_⟩ | hb
  ·rw [hb] at hx;cases hx
  ·rw [hb] at hx
   cases hx
   show thenE (Q0E fuel d) _=_
   rw [hb]
   rfl
 obtain ⟨hb,hnl⟩:Q0E fuel d = .ok d∧d.nodes.length < fuel:=by
  rcases Q24 fuel d with hb | hb
  ·exact hb
  ·rw [hb] at hx;cases hx
 obtain rfl:d1=d:=by rw [hb] at hx;cases hx;rfl
 have E0:Hid ((decW b dep fuel).arm n (fun k=>(wayL n ws o k).map (·.2)) d1=thenE (Q37 b d1) fun p=>match (wayL n ws o (Q0L n p.1)).map (·.2) with | none=>.error ⟨18,d1.pos⟩ | some k=>.ok (Q0L n p.1,putD ⟨4,Q0L n p.1,[],k,0⟩ p.2)):=by
  show thenE (Q0E fuel d1) _=_
  rw [hb]
  rfl
 have VA:=Hid.mk (Q5Z M1)
 have VW:=Hid.mk (Q91 (M1.below (Below.refl _ _).drew))
 obtain ⟨q0,q1,q2,q3,q4,q5,qf,ql⟩:=Q2I (M1.own.hf _ (List.mem_cons_of_mem _ List.mem_cons_self)).1
 clear hx hb M1 VB
 go_wp2_with fail
 refine VA.out.mono ?_
 rintro e w2 ⟨rfl,rfl⟩
 go_wp2_with fail
 refine QE (fun w'=>w'.cell? ⟨u.heap.size,0,none⟩=some (.int .i64 n.low)∧w'.cell? ⟨u.heap.size,1,none⟩=some (.int .i64 n.high)∧w'.cell? ⟨u.heap.size,2,none⟩=some (.slice x y z)∧w'.cell? ⟨u.heap.size,3,none⟩=some (.bool n.wide)) (L:=7) (by kernel_rfl) rfl (by kernel_rfl) (by kernel_rfl) ?_ (fun hHeld=>?_)
 ·go_keep
 refine tk (i:=0) (v:=?_) rfl (by kernel_rfl) (fun _ _ _ h=>h) (by rfl) (by assumption) ?_ ?_
 rotate_left
 ·intro w hSw;(try dsimp only at hSw);go_simp;(try with_reducible rfl)
 (try simp only [Qd,Qe,List.set])
 refine tk (i:=1) (v:=?_) rfl (by kernel_rfl) (fun _ _ _ h=>h) (by rfl) (by assumption) ?_ ?_
 rotate_left
 ·intro w hSw;(try dsimp only at hSw);go_simp;(try with_reducible rfl)
 (try simp only [Qd,Qe,List.set])
 refine tk (i:=2) (v:=?_) rfl (by kernel_rfl) (fun _ _ _ h=>h) (by rfl) (by assumption) ?_ ?_
 rotate_left
 ·intro w hSw;(try dsimp only at hSw);go_simp;(try with_reducible rfl)
 (try simp only [Qd,Qe,List.set])
 refine tk (i:=3) (v:=?_) rfl (by kernel_rfl) (fun _ _ _ h=>h) (by rfl) (by assumption) ?_ ?_
 rotate_left
 ·intro w hSw;(try dsimp only at hSw);go_simp;(try with_reducible rfl)
 (try simp only [Qd,Qe,List.set])
 refine tk (i:=4) (v:=?_) rfl (by kernel_rfl) (fun _ _ _ h=>h) (by rfl) (by assumption) ?_ ?_
 rotate_left
 ·intro w hSw;(try dsimp only at hSw);go_simp;(try with_reducible rfl)
 (try simp only [Qd,Qe,List.set])
 refine wpAnyH_ready (rs:=[5]) (by kernel_rfl) (by simp) ?_
 refine AllReadyH.cons rfl (fun K hK=>?_) AllReadyH.nil
 (go_simp;go_at_call 76;refine VW.out.mono ?_;rintro e w3 (⟨v,d3,nsl3,hx,rfl,M3⟩ | ⟨f,hx,hk,g,hg,rfl,hc⟩);rotate_left;exact Qa (Or.inr ⟨f,by rw [E0.out,hx];rfl,hk,g,hg,rfl,hc⟩);obtain ⟨r0,r1,r2,r3,r4,r5,rf,rl⟩:=Q2I (M3.own.hf _ (List.mem_cons_of_mem _ List.mem_cons_self)).1;have hv:v < 4294967296:=(by rw [(Q1H hx).1];exact Q3L (Q1H hx).2.1);have hnd:d3.nodes.length < 10000:=(by rw [(Q1H hx).2.2.2.1];omega);have E1:Hid ((decW b dep fuel).arm n (fun k=>(wayL n ws o k).map (·.2)) d1=match (wayL n ws o (Q0L n v)).map (·.2) with | none=>.error ⟨18,d1.pos⟩ | some k=>.ok (Q0L n v,putD ⟨4,Q0L n v,[],k,0⟩ d3)):=(by show _=_;rw [E0.out,hx];rfl);have M3:=Hid.mk M3;clear hx)
 refine hK.out _ _ ?_ (fun hHeld=>?_)
 ·go_keep
 clear hK K
 (try simp only [Qd,Qe,List.set])
 refine wpAnyH_ready (rs:=[6]) (by kernel_rfl) (by simp) ?_
 refine AllReadyH.cons rfl (fun K hK=>?_) AllReadyH.nil
 (go_simp;go_at_call 328;refine (QgI n x y z v hv w3).mono ?_;rintro e w4 ⟨rfl,hb4⟩;have M4:=M3.out.below hb4;obtain ⟨s0,s1,s2,s3,s4,s5,sf,sl⟩:=Q2I (M4.own.hf _ (List.mem_cons_of_mem _ List.mem_cons_self)).1;have M4:=Hid.mk M4;clear hb4)
 refine hK.out _ _ ?_ (fun hHeld=>?_)
 ·go_keep
 clear hK K
 (try simp only [Qd,Qe,List.set])
 refine wpAnyH_done (by kernel_rfl) ?_ _
 refine QK rfl (fun K hK=>?_)
 go_simp
 refine hK.out _ _ ?_
 clear hK K
 (try simp only [Qd,Qe,List.set])
 have VY:=Hid.mk (Qk7 hN hm ho nd (Q0L n v) (fun p hp=>(M4.out.own.kp.block _ (Qc (hw p hp)) (by simp)).trans (hw p hp)))
 clear VA VW E0
 go_wp2_with fail
 refine VY.out.mono ?_
 rintro e w5 ⟨rfl,hb5⟩
 have M5:=M4.out.below hb5
 have hk5:Hid (Qb [] w w5):=M5.own.kp
 cases hwl:wayL n ws o (Q0L n v) with
 | none=>
  have EV:wayV n ws o (Q0L n v) = .agg #[.int .i64 0,.int .i64 0]:=by simp [wayV,hwl]
  have E2:Hid ((decW b dep fuel).arm n (fun k=>(wayL n ws o k).map (·.2)) d1 = .error ⟨18,d1.pos⟩):=by show _=_;rw [E1.out,hwl];rfl
  rw [EV]
  simp only [Option.isSome_none]
  clear M5 E1 EV VY hwl
  go_wp2_with (go_at_call 47;refine (Q0g _ _ _).mono ?_;rintro e w' ⟨rfl,rfl⟩)
  exact Qa (Q0M.throws (u:=w5) (f:=⟨18,d1.pos⟩) E2.out hk5.out (((Qb.refl [] _).alloc _).alloc _) (by simp) (Qg (by simp)))
 | some q=>
  have EV:wayV n ws o (Q0L n v) = .agg #[.int .i64 q.1,.int .i64 q.2]:=by simp [wayV,hwl]
  have E2:Hid ((decW b dep fuel).arm n (fun k=>(wayL n ws o k).map (·.2)) d1 = .ok (Q0L n v,putD ⟨4,Q0L n v,[],q.2,0⟩ d3)):=by show _=_;rw [E1.out,hwl];rfl
  have HEV:=Hid.mk EV
  rw [EV]
  simp only [Option.isSome_some]
  have M6:=M5.alloc (.cells #[.int .i64 q.1,.int .i64 q.2] 323)
  have VP:=Hid.mk (Q7a ⟨4,Q0L n v,[],q.2,0⟩ hnd M6)
  clear M5 M6 E1 EV VY hwl
  go_wp2_with fail
  refine VP.out.mono ?_
  rintro e w7 ⟨rfl,nsl7,M7⟩
  obtain ⟨t0,t1,tf,tl⟩:=Q0V (M7.own.hf _ List.mem_cons_self).1
  have oR:=(M7.own.hf _ (List.mem_cons_of_mem _ List.mem_cons_self)).1
  obtain ⟨p0,p1,pf,pl⟩:=Q0V oR
  have z:=Q6P (k':=.int .i64 (q.1:Int)) (t':=.int .i64 (q.2:Int)) oR
  obtain ⟨z0,z1,_,_⟩:=Q0V z
  have M8:=Hid.mk (M7.tail.setFr (((Qb.refl [u.heap.size + 1] w7).setIn (p:=⟨u.heap.size + 1,0,none⟩) (by simp) (.int .i64 (q.1:Int))).setIn (p:=⟨u.heap.size + 1,1,none⟩) (by simp) (.int .i64 (q.2:Int))) z).tail.tail
  clear M7 oR z VP
  go_wp2
  exact bodyPost_ret (v:=.agg #[.int .i64 q.1,.int .i64 q.2]) (by simp [results,Tryz.results323,go_sem,z0,z1]) rfl (Or.inl ⟨Q0L n v,_,nsl7,E2.out,by rw [HEV.out],M8.out⟩)
def Q58 {τ α:Type} (w:World) (J:List (Nat×Obj)→τ→World→Prop) (Fr:List (Nat×Obj)) (r:Except Mar.Fault (α×τ)) (V:α→Value) (e:Ending) (u':World):Prop:=
 (∃ a d',r = .ok (a,d')∧e = .returned (V a)∧J Fr d' u')∨(∃ f,r = .error f∧Qb [] w u'∧Q0h w f.no f.at' e u')
def Q8d {τ:Type} (r:Except Mar.Fault τ):Except Mar.Fault (Unit×τ):=thenE r fun d=>.ok ((),d)
structure Wkr (τ:Type) (w:World) (bs:List (Nat×Obj)) where
 W:Wk τ
 T:TypeId
 D:Nat
 J:List (Nat×Obj)→τ→World→Prop
 base:∀ {Fr d u},J Fr d u→∃ own bz,Own w own Fr bz u∧∀ {Fr' u' M},Qb M u u'→(∀ m∈M,m ∉ own)→Own w own Fr' bz u'→J Fr' d u'
 fE:Nat
 fN:Nat
 fT:Nat
 fL:Nat
 fA:Nat
 mE : ∀ k (u : World), (method (k + 1) T (.pointer (some ⟨D, 0, none⟩)) "Enter").run Tryz.prog u = .ok (fE, .pointer (some ⟨D, 0, none⟩)) u
 mN : ∀ k (u : World), (method (k + 1) T (.pointer (some ⟨D, 0, none⟩)) "Number").run Tryz.prog u = .ok (fN, .pointer (some ⟨D, 0, none⟩)) u
 mT : ∀ k (u : World), (method (k + 1) T (.pointer (some ⟨D, 0, none⟩)) "Text").run Tryz.prog u = .ok (fT, .pointer (some ⟨D, 0, none⟩)) u
 mL : ∀ k (u : World), (method (k + 1) T (.pointer (some ⟨D, 0, none⟩)) "List").run Tryz.prog u = .ok (fL, .pointer (some ⟨D, 0, none⟩)) u
 mA : ∀ k (u : World), (method (k + 1) T (.pointer (some ⟨D, 0, none⟩)) "Arm").run Tryz.prog u = .ok (fA, .pointer (some ⟨D, 0, none⟩)) u
 eE:∀ (args:Array Value) (u:World),(callFunc fE args).run Tryz.prog u = .ok (.enter fE args) u
 eN:∀ (args:Array Value) (u:World),(callFunc fN args).run Tryz.prog u = .ok (.enter fN args) u
 eT:∀ (args:Array Value) (u:World),(callFunc fT args).run Tryz.prog u = .ok (.enter fT args) u
 eL:∀ (args:Array Value) (u:World),(callFunc fL args).run Tryz.prog u = .ok (.enter fL args) u
 eA:∀ (args:Array Value) (u:World),(callFunc fA args).run Tryz.prog u = .ok (.enter fA args) u
 cE:∀ {Fr d u} (k:Nat),k < 1000→J Fr d u→Calls Tryz.prog fE #[.pointer (some ⟨D,0,none⟩),.int .i64 k] u (Q58 w J Fr (Q8d (W.enter k d)) fun _=>.tuple #[])
 cN:∀ {Fr d u cs n},Q1u bs cs n→J Fr d u→Calls Tryz.prog fN #[.pointer (some ⟨D,0,none⟩),.agg cs.toArray] u (Q58 w J Fr (Q8d (W.num n d)) fun _=>.tuple #[])
 cT:∀ {Fr d u} (n:Int) (f:Bool),0≤n→n≤4294967295→J Fr d u→Calls Tryz.prog fT #[.pointer (some ⟨D,0,none⟩),.agg #[.int .i64 n,.bool f]] u (Q58 w J Fr (Q8d (W.text n f d)) fun _=>.tuple #[])
 cL:∀ {Fr d u} (n:Int) (f:Bool),0≤n→n≤4294967295→J Fr d u→Calls Tryz.prog fL #[.pointer (some ⟨D,0,none⟩),.agg #[.int .i64 n,.bool f]] u (Q58 w J Fr (W.list n f d) fun v=>.int .i64 v)
 cA:∀ {Fr d u cs n m ws ov o},Q1u bs cs n→(m,Q12 ws)∈bs→Q3J bs ov o→(ws.map (·.1)).Nodup→J Fr d u→Calls Tryz.prog fA #[.pointer (some ⟨D,0,none⟩),.agg (cs++[.map (some m),ov]).toArray] u (Q58 w J Fr (W.arm n (fun k=>(wayL n ws o k).map (·.2)) d) (wayV n ws o))
 small:∀ {n f d k d'},0≤n→n≤4294967295→W.list n f d = .ok (k,d')→k≤4294967295
section
variable {τ : Type} {w u u' : World} {bs : List (Nat × Obj)} (K : Wkr τ w bs) {Fr : List (Nat × Obj)} {d : τ}
theorem Wkr.kp (h:K.J Fr d u):Qb [] w u:=by
 obtain ⟨own,bz,ho,_⟩:=K.base h
 exact ho.kp
theorem Wkr.below (h:K.J Fr d u) (hb:Below u.heap.size u u'):K.J Fr d u':=by
 obtain ⟨own,bz,ho,hf⟩:=K.base h
 exact hf (Qb.of_below [] hb) (by simp) (ho.below hb)
theorem Wkr.alloc (h:K.J Fr d u) (o:Obj):K.J ((u.heap.size,o) :: Fr) d (u.alloc o):=by
 obtain ⟨own,bz,ho,hf⟩:=K.base h
 exact hf ((Qb.refl [] u).alloc o) (by simp) (ho.alloc o)
theorem Wkr.perm {Fr':List (Nat×Obj)} (h:K.J Fr d u) (hp:Fr.Perm Fr'):K.J Fr' d u:=by
 obtain ⟨own,bz,ho,hf⟩:=K.base h
 refine hf (Qb.refl [] u) (by simp) (ho.sub (fun q hq=>hp.mem_iff.2 hq) ?_)
 have:=ho.fnd
 rw [(hp.map _).nodup_iff] at this
 exact this
theorem Wkr.sub {Fr':List (Nat×Obj)} (h:K.J Fr d u) (hs:∀ p∈Fr',p∈Fr) (hn:(Fr'.map (·.1)).Nodup):K.J Fr' d u:=by
 obtain ⟨own,bz,ho,hf⟩:=K.base h
 exact hf (Qb.refl [] u) (by simp) (ho.sub hs hn)
theorem Wkr.nodup (h:K.J Fr d u):(Fr.map (·.1)).Nodup:=by
 obtain ⟨own,bz,ho,hf⟩:=K.base h
 exact ho.fnd
theorem Wkr.at (h:K.J Fr d u) {p:Nat×Obj} (hp:p∈Fr):u.heap[p.1]? = some p.2∧w.heap.size≤p.1:=by
 obtain ⟨own,bz,ho,hf⟩:=K.base h
 exact ⟨(ho.hf p hp).1,ho.fnew p hp⟩
theorem Wkr.setFr {m:Nat} {o o':Obj} (h:K.J ((m,o) :: Fr) d u) (hk:Qb [m] u u') (ho':u'.heap[m]? = some o'):K.J ((m,o') :: Fr) d u':=by
 obtain ⟨own,bz,ho,hf⟩:=K.base h
 exact hf hk (by simpa using (ho.hf (m,o) (by simp)).2) (ho.setFr hk ho')
theorem Wkr.turnAt {A B:List (Nat×Obj)} {m:Nat} {o o':Obj} (h:K.J (A++(m,o) :: B) d u) (hk:Qb [m] u u') (ho':u'.heap[m]? = some o'):K.J (A++(m,o') :: B) d u':=
 K.perm (K.setFr (K.perm h List.perm_middle) hk ho') List.perm_middle.symm
end
def Q3Z (E:List (Nat×Obj)) (t:TypeId) (sz:Nat) (v:Value) (n:Nat) (xs:List Value):Prop:=
 (E=[]∧v = .slice none 0 0∧n=0∧xs=[])∨∃ g cap cur,E=[(g,.cells cur t)]∧v = .slice (some ⟨g,0,none⟩) n cap∧n≤cap∧cap≤maxLen∧cur.size=cap * sz∧cur.toList.take (n * sz)=xs
section
variable {τ : Type} {w u : World} {bs : List (Nat × Obj)} (K : Wkr τ w bs) {Fr E : List (Nat × Obj)} {d : τ} {t : TypeId} {sz n : Nat} {v : Value} {xs : List Value}
theorem Q3Z.slice (h:Q3Z E t sz v n xs):∃ ad cap,v = .slice ad n cap:=by
 rcases h with ⟨_,rfl,rfl,_⟩ | ⟨g,cap,cur,_,rfl,_⟩
 ·exact ⟨none,0,rfl⟩
 ·exact ⟨_,_,rfl⟩
theorem Q3Z.owns (h:Q3Z E t sz v n xs) (hx:xs.length=n * sz) (hj:K.J (E++Fr) d u):u.ownsRow w.heap.size t sz v n xs:=by
 refine ⟨hx,?_⟩
 rcases h with ⟨_,rfl,rfl,rfl⟩ | ⟨g,cap,cur,rfl,rfl,h1,h2,h3,h4⟩
 ·exact Or.inl ⟨rfl,rfl⟩
 ·obtain ⟨a1,a2⟩:=K.at hj (p:=(g,.cells cur t)) (by simp)
  exact Or.inr ⟨g,cap,cur,rfl,a2,a1,h1,h2,h3,h4⟩
theorem Q3Z.grow {u2 u3:World} {g cap:Nat} {news:List Value} (h:Q3Z E t sz v n xs) (hj:K.J (E++Fr) d u) (hb:Below u.heap.size u u2)
  (hown:u3.ownsRow w.heap.size t sz (.slice (some ⟨g,0,none⟩) (n + 1) cap) (n + 1) (xs++news)) (hg:u2.grownBy u3 v.ownBlock) (hat:v.ownBlock=some g∨g=u2.heap.size) :
  ∃ E',Q3Z E' t sz (.slice (some ⟨g,0,none⟩) (n + 1) cap) (n + 1) (xs++news)∧K.J (E'++Fr) d u3:=by
 obtain ⟨hwg,hlt⟩:=Q16 hown (g:=g) rfl
 rcases hown.2 with ⟨h0,_⟩ | ⟨g',cap',cur,e,_,o2,o3,o4,o5,o6⟩
 ·cases h0
 cases e
 have j2:=K.below hj hb
 have hk:=Q05 hg
 refine ⟨[(g,.cells cur t)],Or.inr ⟨g,cap,cur,rfl,rfl,o3,o4,o5,o6⟩,?_⟩
 rcases h with ⟨rfl,rfl,rfl,rfl⟩ | ⟨g0,cap0,cur0,rfl,rfl,h1,h2,h3,h4⟩
 ·simp only [Value.ownBlock] at hat hk
  have hgs:g=u2.heap.size:=by
   rcases hat with h | h
   ·cases h
   ·exact h
  have hk0:Qb [] u2 u3:=hk.mono (by simp)
  obtain ⟨own,bz,ho,hf⟩:=K.base j2
  refine hf hk0 (by simp) ((ho.turn hk0 (by simp)).addFr o2 hwg ?_ ?_ ?_)
  ·intro hm;have:=ho.lt _ hm;omega
  ·intro p hp;have:=Qc (ho.hf p hp).1;omega
  ·intro p hp;have:=Qc (ho.hb p hp).1;omega
 ·simp only [Value.ownBlock,Option.some.injEq,Option.toList_some] at hat hk
  rcases hat with rfl | hgs
  ·exact K.setFr (o:=.cells cur0 t) j2 hk o2
  ·have hn:=K.nodup j2
   simp only [List.cons_append,List.nil_append,List.map_cons,List.nodup_cons] at hn
   obtain ⟨own,bz,ho,hf⟩:=K.base j2
   have hg0:=ho.hf _ List.mem_cons_self
   have t2:=ho.tail
   have o1:Own w own Fr bz u3:=t2.other hk (by
    intro x hx
    simp only [List.mem_singleton] at hx
    subst hx
    refine ⟨ho.fnew _ List.mem_cons_self,hg0.2,?_,?_⟩
    ·intro p hp e
     exact hn.1 (by rw [← e];exact List.mem_map_of_mem hp)
    ·intro p hp e
     exact ho.sep _ List.mem_cons_self p hp e.symm)
   refine hf hk (by simpa using hg0.2) (o1.addFr o2 hwg ?_ ?_ ?_)
   ·intro hm;have:=ho.lt _ hm;omega
   ·intro p hp;have:=Qc (t2.hf p hp).1;omega
   ·intro p hp;have:=Qc (ho.hb p hp).1;omega
theorem Q3Z.pop {ys zs:List Value} (h:Q3Z E t sz v (n + 1) (ys++zs)) (hy:ys.length=n * sz):∃ g cap cur,v = .slice (some ⟨g,0,none⟩) (n + 1) cap∧n + 1≤cap∧E=[(g,.cells cur t)]∧cur.toList.take ((n + 1) * sz)=ys++zs∧Q3Z E t sz (.slice (some ⟨g,0,none⟩) n cap) n ys:=by
 rcases h with ⟨_,_,h0,_⟩ | ⟨g,cap,cur,rfl,rfl,h1,h2,h3,h4⟩
 ·omega
 ·refine ⟨g,cap,cur,rfl,h1,rfl,h4,Or.inr ⟨g,cap,cur,rfl,rfl,by omega,h2,h3,?_⟩⟩
  have:cur.toList.take (n * sz)=(cur.toList.take ((n + 1) * sz)).take (n * sz):=by
   rw [List.take_take]
   congr 1
   rw [Nat.add_mul]
   omega
  rw [this,h4,← hy]
  simp
end
abbrev Q2y (p:Nat×Nat):List Value:=[.int .i64 p.1,.int .i64 p.2]
abbrev mObj {τ:Type} {w:World} {bs:List (Nat×Obj)} (K:Wkr τ w bs) (nx:Nat) (csl rsl:Value) (en:Bool):Obj:=.cells #[.iface K.T (.pointer (some ⟨K.D,0,none⟩)),.int .i64 nx,csl,rsl,.bool en] 237
structure McAt {τ:Type} {w:World} {bs:List (Nat×Obj)} (K:Wkr τ w bs) (Fr:List (Nat×Obj)) (M:Nat) (m:MSt) (en:Bool) (d:τ) (Ec Er:List (Nat×Obj)) (csl rsl:Value) (u:World):Prop where
 rc:Q3Z Ec 3 1 csl m.calls.length (m.calls.reverse.map Q4A)
 rr:Q3Z Er 413 2 rsl m.rounds.length (m.rounds.reverse.flatMap Q2y)
 j:K.J (Ec++(Er++(M,mObj K m.next csl rsl en) :: Fr)) d u
def Mc {τ:Type} {w:World} {bs:List (Nat×Obj)} (K:Wkr τ w bs) (Fr:List (Nat×Obj)) (M:Nat) (m:MSt) (en:Bool) (d:τ) (u:World):Prop:=∃ Ec Er csl rsl,McAt K Fr M m en d Ec Er csl rsl u
theorem Q6Q {b:Nat} {c0 c1 c2 c3 c4:Value} {T:TypeId} {w:World} (h:w.heap[b]? = some (.cells #[c0,c1,c2,c3,c4] T)) :
  w.cell? ⟨b,0,none⟩=some c0∧w.cell? ⟨b,1,none⟩=some c1∧w.cell? ⟨b,2,none⟩=some c2∧w.cell? ⟨b,3,none⟩=some c3∧w.cell? ⟨b,4,none⟩=some c4∧(∀ i,w.frozen? ⟨b,i,none⟩=false)∧b < w.heap.size:=by
 refine ⟨?_,?_,?_,?_,?_,?_,Qc h⟩<;>simp [World.cell?,World.frozen?,h]
section
variable {τ : Type} {w u u' : World} {bs : List (Nat × Obj)} {K : Wkr τ w bs} {Fr : List (Nat × Obj)} {M : Nat} {m : MSt} {en : Bool} {d : τ} {Ec Er : List (Nat × Obj)} {csl rsl : Value}
theorem McAt.box (h:McAt K Fr M m en d Ec Er csl rsl u):u.heap[M]? = some (mObj K m.next csl rsl en):=(K.at h.j (p:=(M,mObj K m.next csl rsl en)) (by simp)).1
theorem McAt.cells (h:McAt K Fr M m en d Ec Er csl rsl u):u.cell? ⟨M,0,none⟩=some (.iface K.T (.pointer (some ⟨K.D,0,none⟩)))∧u.cell? ⟨M,1,none⟩=some (.int .i64 m.next)∧u.cell? ⟨M,2,none⟩=some csl∧u.cell? ⟨M,3,none⟩=some rsl∧u.cell? ⟨M,4,none⟩=some (.bool en)∧(∀ i,u.frozen? ⟨M,i,none⟩=false)∧M < u.heap.size:=Q6Q h.box
theorem McAt.below (h:McAt K Fr M m en d Ec Er csl rsl u) (hb:Below u.heap.size u u'):McAt K Fr M m en d Ec Er csl rsl u':=⟨h.rc,h.rr,K.below h.j hb⟩
theorem Wkr.turn2 {A A' B:List (Nat×Obj)} {q:Nat} {o o':Obj} (h:K.J (A++(A'++(q,o) :: B)) d u) (hk:Qb [q] u u') (ho':u'.heap[q]? = some o'):K.J (A++(A'++(q,o') :: B)) d u':=by
 have:=K.turnAt (A:=A++A') (by simpa using h) hk ho'
 simpa using this
theorem McAt.goto (h:McAt K Fr M m en d Ec Er csl rsl u) (p:Nat):McAt K Fr M { m with next:=p } en d Ec Er csl rsl (u.setCell ⟨M,1,none⟩ (.int .i64 p)):=
 ⟨h.rc,h.rr,Wkr.turn2 h.j ((Qb.refl [M] u).setIn (p:=⟨M,1,none⟩) (by simp) _) (Qy (i:=1) h.box _)⟩
theorem McAt.ended (h:McAt K Fr M m en d Ec Er csl rsl u) (b:Bool):McAt K Fr M m b d Ec Er csl rsl (u.setCell ⟨M,4,none⟩ (.bool b)):=
 ⟨h.rc,h.rr,Wkr.turn2 h.j ((Qb.refl [M] u).setIn (p:=⟨M,4,none⟩) (by simp) _) (Qy (i:=4) h.box _)⟩
end
theorem Qk8 {τ:Type} {w u:World} {bs:List (Nat×Obj)} {K:Wkr τ w bs} {Fr:List (Nat×Obj)} {M:Nat} {m:MSt} {en:Bool} {d:τ} (h:Mc K Fr M m en d u) :
  Calls Tryz.prog 275 #[.pointer (some ⟨M,2,none⟩)] u fun e u'=>e = .returned (.int .i64 m.calls.length)∧u'=u:=by
 obtain ⟨Ec,Er,csl,rsl,h⟩:=h
 obtain ⟨ad,cap,rfl⟩:=h.rc.slice
 obtain ⟨c0,c1,c2,c3,c4,cf,cl⟩:=h.cells
 clear h
 go_enter Tryz.func275,Tryz.ntmps275
 go_wp2
 go_ret
 exact ⟨rfl,rfl⟩
theorem Qi6 {τ:Type} {w u:World} {bs:List (Nat×Obj)} {K:Wkr τ w bs} {Fr:List (Nat×Obj)} {M:Nat} {m:MSt} {en:Bool} {d:τ} (p:Nat) (hc:m.calls.length < 1000) (h:Mc K Fr M m en d u) :
  Calls Tryz.prog 276 #[.pointer (some ⟨M,2,none⟩),.int .i64 p] u fun e u'=>e = .returned (.tuple #[])∧Mc K Fr M { m with calls:=p :: m.calls } en d u':=by
 obtain ⟨Ec,Er,csl,rsl,h⟩:=h
 obtain ⟨ad,cap,rfl⟩:=h.rc.slice
 obtain ⟨c0,c1,c2,c3,c4,cf,cl⟩:=h.cells
 obtain ⟨i0,hi0,hz0,hz1,hz2⟩:=info_parts QdT
 have hown:=h.rc.owns K (by simp) h.j
 have hown5:∀ ob,(u.alloc ob).ownsRow w.heap.size 3 1 (.slice ad m.calls.length cap) m.calls.length (m.calls.reverse.map Q4A):=fun ob=>Qp hown ((Qb.refl [] u).alloc ob) (by simp)
 have hwl:w.heap.size≤u.heap.size:=(K.kp h.j).size
 have hl1:m.calls.length + 1≤maxLen:=by unfold maxLen;omega
 have hl2:(m.calls.length + 1) * 8≤140737488355328:=by omega
 have hz3:(Value.int .i64 0).cells.size=1:=rfl
 have H:=Hid.mk h
 clear h hown
 go_enter Tryz.func276,Tryz.ntmps276
 go_wp2_with (first
  | (at_builtin;refine wpList_append_lies _ (by rfl) _ _ _ (by rfl) w.heap.size 3 i0 _ 1 8 Tryz.underlying230 hi0 hz0 hz1 hz2 hz3 (by omega) (.slice ad m.calls.length cap) m.calls.length (m.calls.reverse.map Q4A) (by rfl) (hown5 _) ⟨u.heap.size,0,none⟩ 1 1 [.int .i64 p] (by rfl) (by rfl) (World.news_of_block (cs:=#[.int .i64 p]) (t:=3) (fr:=(0,0)) (heap_alloc_new u _)) (by simp [Value.oneCell']) (by omega) hl1 hl2 (by simp;omega) (u.heap.size + 1) (by simp) ?_;intro g cap' w8 hown8 hgrow hat hlt8;obtain ⟨E8,r8,j8⟩:=H.out.rc.grow K H.out.j ((Below.refl u.heap.size u).alloc (Nat.le_refl _) _) hown8 hgrow (by simpa using hat);have b8:=(K.at j8 (p:=(M,mObj K m.next (.slice ad m.calls.length cap) rsl en)) (by simp)).1;obtain ⟨y0,y1,y2,y3,y4,yf,yl⟩:=Q6Q b8;have j9:=Hid.mk (Wkr.turn2 j8 ((Qb.refl [M] w8).setIn (p:=⟨M,2,none⟩) (by simp) (.slice (some ⟨g,0,none⟩) (m.calls.length + 1) cap')) (Qy (i:=2) b8 _));have R8:=Hid.mk r8;clear j8 r8 hown8 hgrow hat hown5 b8))
 go_end0
 refine ⟨rfl,E8,Er,_,rsl,?_,H.out.rr,j9.out⟩
 have:=R8.out
 simpa using this
theorem Qk9 {τ:Type} {w u:World} {bs:List (Nat×Obj)} {K:Wkr τ w bs} {Fr:List (Nat×Obj)} {M:Nat} {m:MSt} {en:Bool} {d:τ} {p:Nat} {ks:List Nat} (hm:m.calls=p :: ks) (hc:m.calls.length≤1000) (h:Mc K Fr M m en d u) :
  Calls Tryz.prog 271 #[.pointer (some ⟨M,2,none⟩)] u fun e u'=>e = .returned (.int .i64 p)∧Mc K Fr M { m with calls:=ks } en d u':=by
 obtain ⟨Ec,Er,csl,rsl,h⟩:=h
 have hr:=h.rc
 rw [hm] at hr
 simp only [List.length_cons,List.reverse_cons,List.map_append,List.map_cons,List.map_nil] at hr
 obtain ⟨g,cap,cur,rfl,hcap,rfl,htk,hr2⟩:=hr.pop (by simp)
 obtain ⟨c0,c1,c2,c3,c4,cf,cl⟩:=h.cells
 have hg:=(K.at h.j (p:=(g,.cells cur 3)) (by simp)).1
 have hlast:u.cell? ⟨g,ks.length,none⟩=some (.int .i64 p):=Qw (xs:=ks.reverse.map Q4A++[Q4A p]) hg (by simpa using htk) (by rw [List.getElem?_append_right (by simp)];simp)
 have hks:ks.length < 1000:=by rw [hm] at hc;simp at hc;omega
 have j9:=Hid.mk (Wkr.turn2 h.j ((Qb.refl [M] u).setIn (p:=⟨M,2,none⟩) (by simp) (.slice (some ⟨g,0,none⟩) ks.length cap)) (Qy (i:=2) h.box _))
 have R8:=Hid.mk hr2
 have RR:=Hid.mk h.rr
 clear h hr hr2 hg htk hm hc
 go_enter Tryz.func271,Tryz.ntmps271
 go_wp2
 go_ret
 exact ⟨rfl,[(g,.cells cur 3)],Er,.slice (some ⟨g,0,none⟩) ks.length cap,rsl,R8.out,RR.out,j9.out⟩
end Go.Proofs.YtmbcibgknckenaaGreatDoor
