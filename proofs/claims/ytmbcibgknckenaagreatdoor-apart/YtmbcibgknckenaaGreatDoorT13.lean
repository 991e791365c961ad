import Derived.Test.YtmbcibgknckenaaGreatDoorT12
import Derived.Test.YtmbcibgknckenaaGreatDoorRows
import Derived.Test.YtmbcibgknckenaaGreatDoorTie
import Derived.Test.YtmbcibgknckenaaGreatDoorCards
import Derived.ProofKit
import Derived.LaidMore
import Derived.OpenShut
import Derived.Stop.Joined
import Derived.LaidHandle
import Derived.SevenTiedAt
import Derived.Shelf.Vars
import Derived.ShutString
import Derived.ChangeOld
import Derived.Lib.AppendStr
import Derived.Laws.IdiomStrings
set_option linter.all false
set_option maxRecDepth 100000
set_option maxHeartbeats 4000000
namespace Go.Proofs.YtmbcibgknckenaaGreatDoor
open Go.RowKit
open Go.MapKept
theorem neqF (p:Addr) (w:World):(binOp BinOp.neq 24 (.iface 79 (.pointer (some p))) .nilIface).run Tryz.prog w = .ok (.bool true) w:=by kernel_rfl
theorem eqlF (p:Addr) (w:World):(binOp BinOp.eql 24 (.iface 79 (.pointer (some p))) .nilIface).run Tryz.prog w = .ok (.bool false) w:=by kernel_rfl
theorem Q6M (w:World):(binOp BinOp.eql 24 .nilIface .nilIface).run Tryz.prog w = .ok (.bool true) w:=by kernel_rfl
theorem Q4o {w:World} {bs:List (Nat×Obj)} {B:Nat} (hS:Q1N bs B Q0e) (hw:∀ p∈bs,w.heap[p.1]? = some p.2) (c:Int) (b:List UInt8) (hb:b.length≤maxLen) :
  Calls Tryz.prog 17 #[.pointer (some ⟨B,0,none⟩),.string ⟨(Q1G c).toArray⟩,.string ⟨b.toArray⟩,.agg #[.int .i64 64,.int .i64 10000,.int .i64 100000]] w (QfT w (Q1G c) b 64 10000 100000):=
 Q9v hS hw c b hb 64 10000 100000 (by omega) (by omega) (by omega)
theorem QX {bs:List (Nat×Obj)} {w w':World} (h:∀ p∈bs,w.heap[p.1]? = some p.2) (hk:Qb [] w w'):∀ p∈bs,w'.heap[p.1]? = some p.2:=fun p hp=>(hk.block _ (Qc (h p hp)) (by simp)).trans (h p hp)
theorem Qho {c:Int} {a b:List UInt8} {u v:List Q0j} (ha:Q0z (Q0M Q0e) (Q1G c) a 64 10000 100000 = .ok u) (hb:Q0z (Q0M Q0e) (Q1G c) b 64 10000 100000 = .ok v) (hne:¬ a=b):decide ((u.map toG).map (Q0f false)=(v.map toG).map (Q0f false))=false:=by
 refine decide_eq_false fun h=>hne (QdB ha hb ((Qlw u v).1 h))
theorem Qja {w:World} (hg:Gl w) (c:Int) (h1:-9223372036854775808≤c) (h2:c≤9223372036854775807) (a b:List UInt8) :
  Calls Tryz.prog 6 #[.int .i64 c,.string ⟨a.toArray⟩,.string ⟨b.toArray⟩] w fun e w'=>e = .returned (.bool true)∧Qb [] w w':=by
 have VS:=Hid.mk (Q6I hg)
 have VK:=Hid.mk (Q5M c h1 h2)
 have VW:=Hid.mk Q6J
 have hn1:=neqF
 have hn2:=Q44
 have hn3:=eqlF
 have hn4:=Q6M
 clear hg h1 h2
 by_cases la:a.length≤4000
 ·by_cases lb:b.length≤4000
  ·have VD:=Hid.mk (fun (w:World) (bs:List (Nat×Obj)) (B:Nat) (hS:Q1N bs B Q0e) (hw:∀ p∈bs,w.heap[p.1]? = some p.2) (b:List UInt8) (hb:b.length≤maxLen)=>Q4o hS hw c b hb)
   have HA:Hid (a.length≤maxLen):=Nat.le_trans la (by decide)
   have HB:Hid (b.length≤maxLen):=Nat.le_trans lb (by decide)
   have AP:=Hid.mk (fun u v=>Qho (c:=c) (a:=a) (b:=b) (u:=u) (v:=v))
   generalize Q1G c=nm at VK VD AP
   go_enter Tryz.func6,Tryz.ntmps6
   go_wp2_with fail
   refine VS.out.mono ?_
   rintro e w1 ⟨B,bs,rfl,hk,hS,hh,hB⟩
   have HK1:=Hid.mk hk
   have HS:=Hid.mk hS
   have HH:=Hid.mk hh
   clear hk hS hh hB VS
   go_wp2_with fail
   refine (VK.out _).mono ?_
   rintro e w2 ⟨rfl,hb2⟩
   have HK2:=Hid.mk (HK1.out.trans (Qb.of_below [] hb2))
   have HH2:=Hid.mk (QX HH.out (Qb.of_below [] hb2))
   clear hb2 VK HK1 HH
   go_wp2_with fail
   refine (VW.out _).mono ?_
   rintro e w3 ⟨rfl,hb3⟩
   have HK3:=Hid.mk (HK2.out.trans (Qb.of_below [] hb3))
   have HH3:=Hid.mk (QX HH2.out (Qb.of_below [] hb3))
   clear hb3 VW HK2 HH2
   go_wp2_with fail
   refine (VD.out _ bs B HS.out (QX HH3.out ((Qb.refl [] _).alloc _)) a HA.out).mono ?_
   rintro e w4 ⟨u,er,rfl,hk4,hu⟩
   have HK4:=Hid.mk ((HK3.out.alloc _).trans hk4)
   have HH4:=Hid.mk (QX (QX HH3.out ((Qb.refl [] _).alloc _)) hk4)
   obtain ⟨l0,l1,l2,_,_⟩:=Q2f ((hk4.block w3.heap.size (by simp) (by simp)).trans (Qg rfl))
   clear hk4 HK3 HH3
   go_wp2_with fail
   refine (VD.out _ bs B HS.out HH4.out b HB.out).mono ?_
   rintro e w5 ⟨v,es,rfl,hk5,hv⟩
   have HK5:=Hid.mk (HK4.out.trans hk5)
   clear HK4 HH4 HB HA HS
   have hu2:(∃ ns,Q0z (Q0M Q0e) nm a 64 10000 100000 = .ok ns∧0 < ns.length∧ns.length≤10000∧er = .nilIface∧(∃ au cu,u = .slice au ns.length cu)∧Q5u w5 u (ns.map toG))∨(∃ g,u = .slice none 0 0∧er = .iface 79 (.pointer (some ⟨g,0,none⟩))):=by
    rcases hu with ⟨ns,e1,e2,e3,e4,e5⟩ | ⟨f,g,e1,e2,e3,e4⟩
    ·exact Or.inl ⟨ns,e1,e2,e3,e4,Q1F e5,Q6L (Qt e5 hk5 (by simp))⟩
    ·exact Or.inr ⟨g,e2,e3⟩
   have hv2:(∃ ns,Q0z (Q0M Q0e) nm b 64 10000 100000 = .ok ns∧0 < ns.length∧ns.length≤10000∧es = .nilIface∧(∃ au cu,v = .slice au ns.length cu)∧Q5u w5 v (ns.map toG))∨(∃ g,v = .slice none 0 0∧es = .iface 79 (.pointer (some ⟨g,0,none⟩))):=by
    rcases hv with ⟨ns,e1,e2,e3,e4,e5⟩ | ⟨f,g,e1,e2,e3,e4⟩
    ·exact Or.inl ⟨ns,e1,e2,e3,e4,Q1F e5,Q6L e5⟩
    ·exact Or.inr ⟨g,e2,e3⟩
   clear hu hv hk5 VD l0 l1 l2
   rcases hu2 with ⟨ns,e1,e2,e3,rfl,⟨au,cu,rfl⟩,e5⟩ | ⟨g,rfl,rfl⟩
   ·have HU:=Hid.mk e5
    have E1:=Hid.mk e1
    have p2:(0:Int) < ns.length:=by omega
    clear e1 e5
    rcases hv2 with ⟨ms,f1,f2,f3,rfl,⟨av,cv,rfl⟩,f5⟩ | ⟨g,rfl,rfl⟩
    ·have HV:=Hid.mk f5
     have F1:=Hid.mk f1
     have q2:(0:Int) < ms.length:=by omega
     clear f1 f5
     by_cases hab:a=b
     ·subst hab
      go_wp2
      go_ret
      exact ⟨rfl,HK5.out⟩
     ·have hs:(a == b)=false:=beq_eq_false_iff_ne.2 hab
      have HS:=Hid.mk (AP.out _ _ E1.out F1.out hab)
      go_wp2_with fail
      refine (Qa4 false HU.out HV.out (by simpa using e3)).mono ?_
      rintro e w6 ⟨rfl,hc6,hb6⟩
      have HK6:=Hid.mk (HK5.out.trans (Qb.of_below [] hb6))
      rw [HS.out]
      clear hc6 hb6 HU HV HK5
      go_wp2
      go_ret
      exact ⟨rfl,HK6.out⟩
    ·go_wp2
     go_ret
     exact ⟨rfl,HK5.out⟩
   ·rcases hv2 with ⟨ms,f1,f2,f3,rfl,⟨av,cv,rfl⟩,f5⟩ | ⟨g',rfl,rfl⟩
    ·have q2:(0:Int) < ms.length:=by omega
     clear f1 f5
     go_wp2
     go_ret
     exact ⟨rfl,HK5.out⟩
    ·go_wp2
     go_ret
     exact ⟨rfl,HK5.out⟩
  ·have lb':(4000:Int) < b.length:=by omega
   have la':(a.length:Int)≤4000:=by omega
   go_enter Tryz.func6,Tryz.ntmps6
   go_wp2_with fail
   refine VS.out.mono ?_
   rintro e w1 ⟨B,bs,rfl,hk,hS,hh,hB⟩
   have HK1:=Hid.mk hk
   clear hk hS hh hB VS VK VW
   go_wp2
   go_ret
   exact ⟨rfl,HK1.out⟩
 ·have la':(4000:Int) < a.length:=by omega
  go_enter Tryz.func6,Tryz.ntmps6
  go_wp2_with fail
  refine VS.out.mono ?_
  rintro e w1 ⟨B,bs,rfl,hk,hS,hh,hB⟩
  have HK1:=Hid.mk hk
  clear hk hS hh hB VS VK VW
  go_wp2
  go_ret
  exact ⟨rfl,HK1.out⟩
end Go.Proofs.YtmbcibgknckenaaGreatDoor
namespace Go.Proofs.YtmbcibgknckenaaGreatDoor
open Go.ChangeShapes Go.WideShapes Go.ChangeAt Go.RowKit
theorem Q6N:ownKnob Tryz.prog.godebug=none:=by kernel_rfl
theorem Qnn : Tryz.prog.globalNamed "strconv.ErrRange" = some 4 := by kernel_rfl
theorem QmY : Tryz.prog.globalNamed "strconv.ErrSyntax" = some 3 := by kernel_rfl
theorem Qno:(Tryz.prog.globals[4]?).map (·.type)=some 24:=by kernel_rfl
theorem QmZ:(Tryz.prog.globals[3]?).map (·.type)=some 24:=by kernel_rfl
theorem Q8P {W:World} {n:String} {g:Nat} {cs:Array Value} {name:String} {d:DataW Unit} {p:List MemPlace} {fuel:Nat} (hg:Tryz.prog.globalNamed n=some g) (hv:W.var? Tryz.prog n=some cs)
  (hd:DataW.trod (fun _=>()) Tryz.prog W 0 (fun _=>true) false fuel 24 cs.toList=some (.iface name d,p)):∃ te pe,W.cell? ⟨g,0,none⟩=some (.iface te pe):=by
 obtain ⟨_,u,v,hcs,_,_⟩:=iface_of_trod Tryz.underlying24 hd
 refine ⟨u,v,?_⟩
 have:=World.var?_cell hg hv 0
 obtain ⟨l⟩:=cs
 simp only at hcs
 subst hcs
 simpa using this
theorem Q5d {W:World} (h:laidMetH Tryz.prog Rows.apartRow.laid W) (hsh:W.ShapedOpen Tryz.prog):Gl W:=by
 rw [MakeChecks.laidMetH_plain _ _ _ (by kernel_rfl)] at h
 obtain ⟨ps,⟨g0,t0,cs0,f0,p0,q0,hg0,ht0,hv0,hd0,⟨g1,t1,cs1,f1,p1,q1,hg1,ht1,hv1,hd1,⟨g2,t2,cs2,f2,p2,q2,hg2,ht2,hv2,hd2,⟨g3,t3,cs3,f3,p3,q3,hg3,ht3,hv3,hd3,⟨g4,t4,cs4,f4,p4,q4,hg4,ht4,hv4,hd4,_,_⟩,_⟩,_⟩,_⟩,_⟩,_,_⟩:=h
 obtain rfl:=Option.some.inj (Qnn.symm.trans hg3)
 obtain rfl:=Option.some.inj (QmY.symm.trans hg4)
 obtain rfl:=Option.some.inj (Qno.symm.trans ht3)
 obtain rfl:=Option.some.inj (QmZ.symm.trans ht4)
 exact ⟨cell_of_shapedOpen_int (zero:=#[.int .i64 0]) (t:=3) hsh (of_decide_eq_true (by kernel_rfl)) (by kernel_rfl) rfl (by kernel_rfl) (by kernel_rfl) Tryz.underlying3,Q8P hg4 hv4 hd4,Q8P hg3 hv3 hd3⟩
theorem Q82 (os:Os) (args:Array Value):laidMetH Tryz.prog Rows.apartRow.laid ((World.doorLaid Tryz.prog 88 os).forCall (fun _ _=>0) ⟨#[],args,[]⟩).memory:=
 laidMetH_of_parts3 (fuel:=8) (laidMet_of_run' 8 (by kernel_rfl) (by kernel_rfl)) (by kernel_rfl) (by kernel_rfl)
section
variable {H : Type} {enc : TypeId × Value → H}
theorem Q5e {C:Checked} {os:Os} {f:FuncId} {fn:Func} {s:ChangeSpec} {X:World→Array Value→Prop}
  (hX:∀ (w w':World) (args:Array Value),w.heap=w'.heap→X w args→X w' args)
  (own:ownKnob C.prog.godebug=none) (started:os.Started) (noInit:C.prog.inits.idxOf? f=none) (hfn:C.prog.funcs[f]? = some fn)
  (witness:∃ (w:World) (tape:Tape) (i:Input),w.os=os∧(w.forCall tape i).Shaped C.prog∧i.vars=[]∧Input.okWide C.prog (w.forCall tape i) .any w.heap.size f i ∧
   ((s.pre enc C.prog fn [] false (w.forCall tape i).memory i.args∧X (w.forCall tape i).memory i.args)∧sizedMet enc C.prog fn (OpenSpec.ofChange s) false (w.forCall tape i).memory i.args)∧({}:Assume).holds C.prog (lone (Frame.enter C.prog f i.args .normal) [] (w.forCall tape i)))
  (contract:∀ (W:World) (base:Nat) (args:Array Value) (ds gs:List (DataW H)) (before:List MemPlace),
   (∀ (j:Nat) t v,fn.params[j]? = some t→args[j]? = some v→Value.okWide C.prog W .any base t v) →
   DataW.Whole enc C.prog fn.params.toList s.vars false W args.toList ds gs before→X W args→W.ShapedOpen C.prog →
   Calls C.prog f args W fun e W'=>∃ v,e = .returned v∧s.post enc C.prog fn false true false false W args v W') :
  ReturnsInHanded {} C os f .any (fun w args=>(s.pre enc C.prog fn [] false w args∧X w args)∧sizedMet enc C.prog fn (OpenSpec.ofChange s) false w args) (s.post enc C.prog fn false true false false):=by
 refine returnsInHanded_of_calls own started noInit witness ?_
 intro w tape i _ hsh _ hok hpre _
 obtain ⟨_,_,_,fn',hfn',_,_,_,_,hval⟩:=hok
 have e:fn'=fn:=Option.some.inj (hfn'.symm.trans hfn)
 subst e
 obtain ⟨⟨⟨ds,gs,before,hw,hc⟩,hx⟩,hz⟩:=hpre
 have hw':=DataW.Whole.of_heap (w':=w.forCall tape i) (by rfl) hw
 refine (contract (w.forCall tape i) w.heap.size i.args ds gs before hval hw' (hX _ _ _ (by rfl) hx) hsh).mono fun e W' ⟨v,he,hp⟩=>?_
 subst he
 exact ChangeSpec.post_blind hp
end
theorem Q3b {w w':World} (h:Qb [] w w'):Below w.heap.size w w':=⟨h.os,h.tape,h.output,h.size,fun k hk=>h.block k hk (by simp)⟩
end Go.Proofs.YtmbcibgknckenaaGreatDoor
namespace Go.Proofs.YtmbcibgknckenaaGreatDoor
open Go.RowKit
open Go.MapKept
def Q4t (c:UInt8):Value:=.int .u8 c.toNat
theorem Qed:(Tryz.prog.info? 5).map (fun i=>(i.zero,i.size,i.bytes))=some (some (.int .u8 0),1,1):=by kernel_rfl
section
variable {P : Program} (w : World)
theorem QaY (base:Nat) (t u ty e:TypeId) (i:TypeInfo) (ht:P.underlying t=some (.slice e)) (hu:P.underlying u=some .string) (hi:P.info? e=some i) (hz:i.zero=some (.int .u8 0))
  (hsize:i.size=1) (hby:i.bytes=1) (v:Value) (n:Nat) (xs:List Value) (hown:w.ownsRow base e 1 v n xs) (s:ByteArray) (hs:v = .slice none 0 0→0 < s.size)
  (h63:n + s.size≤maxLen) (hbytes:n + s.size≤140737488355328) (hbase:base≤w.heap.size) :
  ∃ g cap w',(Builtin.append_ #[t,u] ty #[v,.string s]).run P w = .ok (.slice (some ⟨g,0,none⟩) (n + s.size) cap) w'∧w'.ownsRow base e 1 (.slice (some ⟨g,0,none⟩) (n + s.size) cap) (n + s.size) (xs++Lib.strCells s)∧w.grownBy w' v.ownBlock∧(v.ownBlock=some g∨g=w.heap.size)∧g < w'.heap.size:=by
 obtain ⟨v',w',hr,h2,h3,_⟩:=Lib.run_append_own_string (P:=P) w base t u ty e i ht hu hi hz hsize hby v n xs hown s h63 hbytes hbase
 have key:∃ g cap,v' = .slice (some ⟨g,0,none⟩) (n + s.size) cap∧(v.ownBlock=some g∨g=w.heap.size):=by
  have hsmall:n + s.size≤9223372036854775807:=by simp only [maxLen] at h63;omega
  rcases hown.2 with ⟨rfl,rfl⟩ | ⟨g0,cap0,cur,rfl,_,hg,hnc,_,hcs,_⟩
  ·have hr2:=run_append_nil_string (P:=P) w t u ty e i (.int .u8 0) ht hu hi hz s (hs rfl) (by omega) (by rw [hby];omega)
   rw [hr2] at hr
   injection hr with hr _
   exact ⟨w.heap.size,grownCap w s.size 0 e,by rw [← hr,Nat.zero_add],Or.inr rfl⟩
  ·by_cases hroom:n + s.size≤cap0
   ·have hr2:=Lib.run_append_room_string (P:=P) w t u ty e i ht hu hi hsize g0 n cap0 cur hg s hroom (by simp at hcs;omega)
    rw [hr2] at hr
    injection hr with hr _
    exact ⟨_,_,hr.symm,Or.inl rfl⟩
   ·have hxl:xs.length=n:=by simpa using hown.1
    have hr2:=Lib.run_append_grow_string (P:=P) w t u ty e i (.int .u8 0) ht hu hi hz ⟨g0,0,none⟩ n cap0 xs (by rw [hsize];simpa using hxl) (hown.cells (g:=g0) rfl) s (by omega) (by omega) (by rw [hby];exact growslice_fits (by omega) (by omega))
    rw [hr2] at hr
    injection hr with hr _
    exact ⟨_,_,hr.symm,Or.inr rfl⟩
 obtain ⟨g,cap,rfl,hat⟩:=key
 exact ⟨g,cap,w',hr,h2,h3,hat,(Q1J h2 (g:=g) rfl).2⟩
theorem Q8Q {ops:Array Oper} {rest:List Oper} {o:Oper} {a:Act} {Q:Exit→Act→World→Prop} (hgd:o.guard=none) (sl x:Operand) (t u:TypeId)
  (ho:o.op = .call { callee:=.builtin .append,args:=#[sl,x],argTypes:=#[t,u] })
  (base:Nat) (e:TypeId) (i:TypeInfo) (ht:P.underlying t=some (.slice e)) (hu:P.underlying u=some .string) (hi:P.info? e=some i) (hz:i.zero=some (.int .u8 0))
  (hsize:i.size=1) (hby:i.bytes=1) (v:Value) (n:Nat) (xs:List Value) (hs:a.eval sl=v) (hown:w.ownsRow base e 1 v n xs) (s:ByteArray) (hx:a.eval x = .string s) (h0:v = .slice none 0 0→0 < s.size)
  (h63:n + s.size≤maxLen) (hbytes:n + s.size≤140737488355328) (hbase:base≤w.heap.size)
  (h:∀ g cap w',w'.ownsRow base e 1 (.slice (some ⟨g,0,none⟩) (n + s.size) cap) (n + s.size) (xs++Lib.strCells s)→w.grownBy w' v.ownBlock→(v.ownBlock=some g∨g=w.heap.size)→g < w'.heap.size→wpList P ops Q rest (a.put o.dst (.slice (some ⟨g,0,none⟩) (n + s.size) cap)) w'):wpList P ops Q (o :: rest) a w:=by
 refine wpList_plain hgd fun K hK=>?_
 obtain ⟨g,cap,w',hr,h2,h3,h4,h5⟩:=QaY (P:=P) w base t u o.type e i ht hu hi hz hsize hby v n xs hown s h0 h63 hbytes hbase
 unfold Oper.wp execOp
 simp only [ho,resolve,invoke,builtin,Sem.run_bind,Sem.run_pure,Result.andThen_ok,List.map_toArray,List.map_cons,List.map_nil,hs,hx,hr]
 exact hK _ _ (h g cap w' h2 h3 h4 h5)
end
theorem Qee (l:List UInt8):Lib.strCells ⟨l.toArray⟩=l.map Q4t:=by simp [Lib.strCells,Q4t]
def Qnp (base:Nat) (u:World) (v:Value) (n:Nat) (xs:List Value) (k:Nat) (news:List Value) (g cap:Nat) (u3:World):Prop:=∃ u2,Below u.heap.size u u2∧u3.ownsRow base 5 1 (.slice (some ⟨g,0,none⟩) (n + k) cap) (n + k) (xs++news)∧u2.grownBy u3 v.ownBlock∧(v.ownBlock=some g∨g=u2.heap.size)∧g < u3.heap.size
theorem Qhp (m:Nat) (hm:m < 4294967296):(Q34 m).map Q4t=[.int .u8 ((m:Int) / 16777216),.int .u8 ((m:Int) / 65536 % 256),.int .u8 ((m:Int) / 256 % 256),.int .u8 ((m:Int) % 256)]:=by
 have e:((m:Int) % 4294967296).toNat=m:=by omega
 simp only [Q34,e,List.map_cons,List.map_nil,Q4t,UInt8.toNat_ofNat']
 have e1:((m / 16777216 % 2 ^ 8:Nat):Int)=(m:Int) / 16777216:=by omega
 have e2:((m / 65536 % 2 ^ 8:Nat):Int)=(m:Int) / 65536 % 256:=by omega
 have e3:((m / 256 % 2 ^ 8:Nat):Int)=(m:Int) / 256 % 256:=by omega
 have e4:((m % 2 ^ 8:Nat):Int)=(m:Int) % 256:=by omega
 rw [e1,e2,e3,e4]
theorem Qbm {base n:Nat} {u:World} {v:Value} {xs:List Value} (m:Nat) (hm:m < 4294967296) (hown:u.ownsRow base 5 1 v n xs) (hb:base≤u.heap.size) (hn:n≤1000000) :
  Calls Tryz.prog 109 #[v,.int .u32 m] u fun e u3=>∃ g cap,e = .returned (.slice (some ⟨g,0,none⟩) (n + 4) cap)∧Qnp base u v n xs 4 ((Q34 m).map Q4t) g cap u3:=by
 obtain ⟨ad,cap,rfl⟩:=Q1F hown
 obtain ⟨i0,hi0,hz0,hz1,hz2⟩:=info_parts Qed
 have hz3:(Value.int .u8 0).cells.size=1:=rfl
 have hl1:n + 4≤maxLen:=by unfold maxLen;omega
 have hl2:(n + 4) * 1≤140737488355328:=by omega
 have hown5:Hid (∀ o,(u.alloc o).ownsRow base 5 1 (.slice ad n cap) n xs):=fun o=>Qt hown ((Qb.refl [] u).alloc o) (by simp)
 have W:=Hid.mk (Qhp m hm)
 clear hown
 go_enter Tryz.func109,Tryz.ntmps109
 go_wp2_with (at_builtin;refine wpList_append_lies _ (by rfl) _ _ _ (by rfl) base 5 i0 _ 1 1 Tryz.underlying90 hi0 hz0 hz1 hz2 hz3 (by omega) (.slice ad n cap) n xs (by rfl) (hown5.out _) ⟨u.heap.size,0,none⟩ 4 4 [.int .u8 ((m:Int) / 16777216),.int .u8 ((m:Int) / 65536 % 256),.int .u8 ((m:Int) / 256 % 256),.int .u8 ((m:Int) % 256)] (by rfl) (by rfl) (World.news_of_block (cs:=#[.int .u8 ((m:Int) / 16777216),.int .u8 ((m:Int) / 65536 % 256),.int .u8 ((m:Int) / 256 % 256),.int .u8 ((m:Int) % 256)]) (t:=5) (fr:=(0,0)) (heap_alloc_new u _)) (by simp [Value.oneCell']) (by omega) hl1 hl2 (by simp;omega) (u.heap.size + 1) (by simp) ?_;intro g cap' w8 hown8 hgrow hat hlt8)
 go_ret
 exact ⟨g,cap',rfl,_,(Below.refl _ _).alloc (Nat.le_refl _) _,by rw [W.out];exact hown8,hgrow,by simpa using hat,hlt8⟩
def Q9b (w:World) (g o:Nat) (x:QB):Prop:=w.cell? ⟨g,o,none⟩=some (.int .i64 x.kind)∧w.cell? ⟨g,o + 1,none⟩=some (.int .i64 x.n)∧w.cell? ⟨g,o + 2,none⟩=some (.string ⟨x.s.toArray⟩)∧w.cell? ⟨g,o + 3,none⟩=some (.int .i64 x.at')∧w.cell? ⟨g,o + 4,none⟩=some (.int .i64 x.len)
def Q23 (w:World) (nsl:Value) (v:List QB):Prop:=∃ ad cap,nsl = .slice ad v.length cap∧v.length≤cap∧cap≤maxLen∧∀ k x,v[k]? = some x→∃ g o,ad=some ⟨g,o,none⟩∧Q9b w g (o + k * 5) x
abbrev Q24 (x:QB):List Value:=[.int .i64 x.kind,.int .i64 x.n,.string ⟨x.s.toArray⟩,.int .i64 x.at',.int .i64 x.len]
structure Q04 (w:World) (D:Nat) (Fr:List (Nat×Obj)) (nsl:Value) (v:List QB) (dep fuel size:Nat) (e:ESt) (osl:Value) (u:World):Prop where
 own:Own w ([D]++(osl.ownBlock.toList++[])) Fr [] u
 box:u.heap[D]? = some (.cells #[nsl,.int .i64 e.next,.int .i64 dep,.int .i64 fuel,.int .i64 size,osl] 135)
 row:u.ownsRow w.heap.size 5 1 osl e.out.length (e.out.map Q4t)
 nodes:Q23 w nsl v
 few:e.next≤10000
 out:e.out.length≤100000
 lim:size≤100000∧fuel≤10000
def Q1A {α:Type} (w:World) (D:Nat) (Fr:List (Nat×Obj)) (nsl:Value) (v:List QB) (dep fuel size:Nat) (r:Except Mar.Fault (α×ESt)) (V:α→Value) (en:Ending) (u':World):Prop:=
 (∃ a e' osl',r = .ok (a,e')∧en = .returned (V a)∧Q04 w D Fr nsl v dep fuel size e' osl' u')∨(∃ f,r = .error f∧Qb [] w u'∧Q0l w f.no f.at' en u')
theorem Q1A.throws {α:Type} {w u u':World} {D:Nat} {Fr:List (Nat×Obj)} {nsl:Value} {v:List QB} {dep fuel size:Nat} {r:Except Mar.Fault (α×ESt)} {V:α→Value} {f:Mar.Fault} {g:Nat} (hr:r = .error f) (hk:Qb [] w u) (hb:Qb [] u u') (hg:u.heap.size≤g) (hc:u'.heap[g]? = some (.cells #[.int .i64 f.no,.int .i64 f.at'] 83)) :
  Q1A w D Fr nsl v dep fuel size r V (.panicked [{ v:=.iface 79 (.pointer (some ⟨g,0,none⟩)),recovered:=false }]) u':=
 Or.inr ⟨f,hr,hk.trans hb,g,Nat.le_trans hk.size hg,rfl,hc⟩
section
variable {w u u' : World} {D : Nat} {Fr : List (Nat × Obj)} {nsl : Value} {v : List QB} {dep fuel size : Nat} {e : ESt} {osl : Value}
theorem Q04.beside {M:List Nat} {Fr':List (Nat×Obj)} (h:Q04 w D Fr nsl v dep fuel size e osl u) (hk:Qb M u u') (hM:∀ m∈M,m ∉ [D]++(osl.ownBlock.toList++[])) (ho:Own w ([D]++(osl.ownBlock.toList++[])) Fr' [] u'):Q04 w D Fr' nsl v dep fuel size e osl u':=
 ⟨ho,(hk.block _ (Qc h.box) (fun hm=>hM _ hm (by simp))).trans h.box,Qt h.row hk (fun g hg hm=>hM _ hm (by simp [hg])),h.nodes,h.few,h.out,h.lim⟩
theorem Q04.below (h:Q04 w D Fr nsl v dep fuel size e osl u) (hb:Below u.heap.size u u'):Q04 w D Fr nsl v dep fuel size e osl u':=h.beside (Qb.of_below [] hb) (by simp) (h.own.below hb)
theorem Q04.alloc (h:Q04 w D Fr nsl v dep fuel size e osl u) (o:Obj):Q04 w D ((u.heap.size,o) :: Fr) nsl v dep fuel size e osl (u.alloc o):=h.beside ((Qb.refl [] u).alloc o) (by simp) (h.own.alloc o)
theorem Q04.tail {p:Nat×Obj} (h:Q04 w D (p :: Fr) nsl v dep fuel size e osl u):Q04 w D Fr nsl v dep fuel size e osl u:=h.beside (Qb.refl [] u) (by simp) h.own.tail
theorem Q04.setFr {m:Nat} {o o':Obj} (h:Q04 w D ((m,o) :: Fr) nsl v dep fuel size e osl u) (hk:Qb [m] u u') (ho:u'.heap[m]? = some o'):Q04 w D ((m,o') :: Fr) nsl v dep fuel size e osl u':=
 h.beside hk (by simpa using (h.own.hf (m,o) (by simp)).2) (h.own.setFr hk ho)
theorem Q04.sub {Fr':List (Nat×Obj)} (h:Q04 w D Fr nsl v dep fuel size e osl u) (hs:∀ p∈Fr',p∈Fr) (hn:(Fr'.map (·.1)).Nodup):Q04 w D Fr' nsl v dep fuel size e osl u:=h.beside (Qb.refl [] u) (by simp) (h.own.sub hs hn)
theorem Q04.slice (h:Q04 w D Fr nsl v dep fuel size e osl u):∃ ad cap,osl = .slice ad e.out.length cap:=Q1F h.row
theorem Q04.move (h:Q04 w D Fr nsl v dep fuel size e osl u) (hp:e.next + 1≤10000):Q04 w D Fr nsl v dep fuel size { e with next:=e.next + 1 } osl (u.setCell ⟨D,1,none⟩ (.int .i64 ((e.next:Int) + 1))):=by
 have hk:Qb [D] u (u.setCell ⟨D,1,none⟩ (.int .i64 ((e.next:Int) + 1))):=(Qb.refl [D] u).setIn (by simp) _
 have hn:=h.own.nd
 simp at hn
 refine ⟨h.own.turn hk (by simp),Qo (i:=1) h.box _,Qt h.row hk (fun g hg hm=>?_),h.nodes,hp,h.out,h.lim⟩
 simp at hm
 subst hm
 exact hn.1 hg
theorem Q04.grow {u2 u3:World} {g cap k:Nat} {l:List UInt8} (h:Q04 w D Fr nsl v dep fuel size e osl u) (hb:Below u.heap.size u u2) (hlen:e.out.length + k≤100000) (hk:l.length=k)
  (hown:u3.ownsRow w.heap.size 5 1 (.slice (some ⟨g,0,none⟩) (e.out.length + k) cap) (e.out.length + k) (e.out.map Q4t++l.map Q4t))
  (hg:u2.grownBy u3 osl.ownBlock) (hat:osl.ownBlock=some g∨g=u2.heap.size) (hlt:g < u3.heap.size) :
  Q04 w D Fr nsl v dep fuel size { e with out:=e.out++l } (.slice (some ⟨g,0,none⟩) (e.out.length + k) cap) (u3.setCell ⟨D,5,none⟩ (.slice (some ⟨g,0,none⟩) (e.out.length + k) cap)):=by
 obtain ⟨hwg,_⟩:=Q1J hown (g:=g) rfl
 have e2:=h.below hb
 have hkg:=Q0q hg
 have ho:=Own.grow (A:=[D]) (B:=[]) e2.own hg hat hlt hwg
 have hks:Qb [D] u3 (u3.setCell ⟨D,5,none⟩ (.slice (some ⟨g,0,none⟩) (e.out.length + k) cap)):=(Qb.refl [D] u3).setIn (by simp) _
 have hn:=h.own.nd
 have hn2:=ho.nd
 simp at hn hn2
 have hd:D ∉ osl.ownBlock.toList:=by
  intro hm
  exact hn.1 (by simpa using hm)
 refine ⟨ho.turn hks (by simp),Qo (i:=5) ((hkg.block _ (Qc e2.box) hd).trans e2.box) _,?_,h.nodes,h.few,by simp [hk];omega,h.lim⟩
 have:=Qt hown hks (by
  intro g' h'
  simp only [Value.ownBlock,Option.some.injEq] at h'
  subst h'
  simp
  omega)
 simpa [hk] using this
theorem Q04.boxAt {u2 u3:World} (h:Q04 w D Fr nsl v dep fuel size e osl u) (hb:Below u.heap.size u u2) (hg:u2.grownBy u3 osl.ownBlock):u3.cell? ⟨D,5,none⟩=some osl∧(∀ i,u3.frozen? ⟨D,i,none⟩=false)∧D < u3.heap.size:=by
 have hl:=Qc h.box
 have hn:=h.own.nd
 have hz:=hb.size
 simp at hn
 obtain ⟨_,_,_,_,_,h5,h6,h7⟩:=Q10 ((hg.block _ (by omega) (fun e=>hn.1 (by rw [← e]))).trans ((hb.block _ hl).trans h.box))
 exact ⟨h5,h6,h7⟩
end
theorem QbP {w u:World} {D:Nat} {Fr:List (Nat×Obj)} {nsl:Value} {v:List QB} {dep fuel size:Nat} {e:ESt} {osl:Value} (k:Nat) (hk:k≤4294967298) (h1:1≤e.next) (h:Q04 w D Fr nsl v dep fuel size e osl u) :
  Calls Tryz.prog 321 #[.pointer (some ⟨D,0,none⟩),.int .i64 k] u (Q1A w D Fr nsl v dep fuel size (thenE (Q2G size k e) fun e'=>.ok ((),e')) fun _=>.tuple #[]):=by
 obtain ⟨c0,c1,c2,c3,c4,c5,hfz,hlt⟩:=Q10 h.box
 obtain ⟨ad,cap,rfl⟩:=h.slice
 have hl:=h.out
 have hf:=h.few
 obtain ⟨hsz,hfu⟩:=h.lim
 have H:=Hid.mk h
 clear h
 by_cases hs:size < e.out.length + k
 ·have E:Hid ((thenE (Q2G size k e) fun e'=>Except.ok ((),e')) = .error ⟨14,e.next - 1⟩):=by show _=_;simp [Q2G,hs,thenE]
  have hc:(size:Int) - e.out.length < (k:Int):=by omega
  have hE:((e.next:Int) - 1)=((e.next - 1:Nat):Int):=by omega
  go_enter Tryz.func321,Tryz.ntmps321
  go_wp2
  go_region
  go_wp2_with (go_at_call 47;refine (Q09 _ _ _).mono ?_;rintro e w' ⟨rfl,rfl⟩)
  exact Qa (Q1A.throws (u:=u) (f:=⟨14,e.next - 1⟩) E.out H.out.own.kp (((Qb.refl [] u).drew).alloc _) (Nat.le_refl _) (Qg rfl))
 ·have E:Hid ((thenE (Q2G size k e) fun e'=>Except.ok ((),e')) = .ok ((),e)):=by show _=_;simp [Q2G,hs,thenE]
  have hc:(k:Int)≤(size:Int) - e.out.length:=by omega
  go_enter Tryz.func321,Tryz.ntmps321
  go_wp2
  go_region
  go_wp2
  go_end0
  exact Or.inl ⟨(),e,_,E.out,rfl,H.out.below (Below.refl _ _).drew⟩
theorem Qjc (n:Int):Q34 ((n % 4294967296).toNat:Int)=Q34 n:=by
 have h0:0≤n % 4294967296:=Int.emod_nonneg _ (by omega)
 unfold Q34
 rw [Int.toNat_of_nonneg h0,Int.emod_emod_of_dvd n (Int.dvd_refl _)]
theorem Qef {size k:Nat} {e e':ESt} {x:Unit} (h:(thenE (Q2G size k e) fun e'=>Except.ok ((),e')) = .ok (x,e')):e'=e∧Q2G size k e = .ok e∧e.out.length + k≤size:=by
 unfold Q2G at h ⊢
 split at h
 ·cases h
 ·rename_i hc
  cases h
  exact ⟨rfl,if_neg hc,by omega⟩
theorem QbQ {size k:Nat} {e:ESt} {f:Mar.Fault} (h:(thenE (Q2G size k e) fun e'=>Except.ok ((),e')) = .error f):Q2G size k e = .error f:=by
 unfold Q2G at h ⊢
 split at h
 ·rename_i hc
  cases h
  exact if_pos hc
 ·cases h
theorem Q4S {w u:World} {D:Nat} {Fr:List (Nat×Obj)} {nsl:Value} {v:List QB} {dep fuel size:Nat} {e:ESt} {osl:Value} (n:Int) (h1:1≤e.next) (h:Q04 w D Fr nsl v dep fuel size e osl u) :
  Calls Tryz.prog 315 #[.pointer (some ⟨D,0,none⟩),.int .i64 n] u (Q1A w D Fr nsl v dep fuel size (thenE (Q1k size n e) fun e'=>.ok ((),e')) fun _=>.tuple #[]):=by
 have VR:=Hid.mk (QbP 4 (by omega) h1 h)
 clear h
 go_enter Tryz.func315,Tryz.ntmps315
 go_wp2_with fail
 refine VR.out.mono ?_
 rintro en w1 (⟨_,e1,osl1,hx,rfl,M1⟩ | ⟨f,hx,hk,g,hg,rfl,hc⟩)
 rotate_left
 ·exact Qa (Or.inr ⟨f,by unfold Q1k;rw [QbQ hx];rfl,hk,g,hg,rfl,hc⟩)
 obtain ⟨rfl,hro,hlen⟩:=Qef hx
 obtain ⟨c0,c1,c2,c3,c4,c5,hfz,hlt⟩:=Q10 M1.box
 have hm0:0≤n % 4294967296:=Int.emod_nonneg _ (by omega)
 have hm1:n % 4294967296 < 4294967296:=Int.emod_lt_of_pos _ (by omega)
 have hl:=M1.out
 have hsz:=M1.lim.1
 have VA:=Qbm (n % 4294967296).toNat (by omega) M1.row M1.own.kp.size (by omega)
 rw [Qjc,Int.toNat_of_nonneg hm0] at VA
 have VA:=Hid.mk VA
 have E:Hid ((thenE (Q1k size n e1) fun e'=>Except.ok ((),e')) = .ok ((),{ e1 with out:=e1.out++Q34 n })):=by
  show _=_
  unfold Q1k
  rw [hro]
  rfl
 have M1:=Hid.mk M1
 clear hx VR hro hm0 hm1
 go_wp2_with fail
 refine VA.out.mono ?_
 rintro en w2 ⟨g,cap,rfl,u2,hb2,hown,hgrow,hat,hlt2⟩
 obtain ⟨z5,zf,zl⟩:=M1.out.boxAt hb2 hgrow
 have M2:=Hid.mk (M1.out.grow hb2 (by omega) (Q1d n) hown hgrow hat hlt2)
 clear hown hgrow hat hlt2 VA c5 hfz hlt
 go_wp2
 go_end0
 exact Or.inl ⟨(),_,_,E.out,rfl,M2.out⟩
theorem Q04.again {w u:World} {D:Nat} {Fr:List (Nat×Obj)} {nsl:Value} {v:List QB} {dep fuel size:Nat} {e:ESt} {osl:Value} (h:Q04 w D Fr nsl v dep fuel size e osl u):Q04 w D Fr nsl v dep fuel size e osl (u.setCell ⟨D,5,none⟩ osl):=by
 have hk:Qb [D] u (u.setCell ⟨D,5,none⟩ osl):=(Qb.refl [D] u).setIn (by simp) _
 have hn:=h.own.nd
 simp at hn
 refine ⟨h.own.turn hk (by simp),Qo (i:=5) h.box _,Qt h.row hk (fun g hg hm=>?_),h.nodes,h.few,h.out,h.lim⟩
 simp at hm
 subst hm
 exact hn.1 hg
def Q2n (e:ESt) (s:List UInt8) (k:Nat):ESt:={ e with out:=e.out++s++List.replicate k 0 }
theorem Qhq (e:ESt) (s:List UInt8):Q2n e s 0 = { e with out:=e.out++s }:=by simp [Q2n]
theorem Qhr (e:ESt) (s:List UInt8) (k:Nat):({ Q2n e s k with out:=(Q2n e s k).out++[0] }:ESt)=Q2n e s (k + 1):=by
 simp [Q2n,List.replicate_succ']
theorem Q9w {w u:World} {D:Nat} {Fr:List (Nat×Obj)} {nsl:Value} {v:List QB} {dep fuel size:Nat} {e:ESt} {osl:Value} (s:List UInt8) (hs:s.length≤4294967295) (h1:1≤e.next) (h:Q04 w D Fr nsl v dep fuel size e osl u) :
  Calls Tryz.prog 320 #[.pointer (some ⟨D,0,none⟩),.string ⟨s.toArray⟩] u (Q1A w D Fr nsl v dep fuel size (thenE (Q2J size s e) fun e'=>.ok ((),e')) fun _=>.tuple #[]):=by
 have hp:((Q0i s.length:Nat):Int)=((s.length:Int) + 3) / 4 * 4:=by unfold Q0i;omega
 have hp1:s.length≤Q0i s.length:=by unfold Q0i;omega
 have hp2:Q0i s.length < s.length + 4:=by unfold Q0i;omega
 have VR:=QbP (Q0i s.length) (by omega) h1 h
 rw [hp] at VR
 have VR:=Hid.mk VR
 obtain ⟨i0,hi0,hz0,hz1,hz2⟩:=info_parts Qed
 have hz3:(Value.int .u8 0).cells.size=1:=rfl
 clear h
 go_enter Tryz.func320,Tryz.ntmps320
 go_wp2_with fail
 refine VR.out.mono ?_
 rintro en w1 (⟨_,e1,osl1,hx,rfl,M1⟩ | ⟨f,hx,hk,g,hg,rfl,hc⟩)
 rotate_left
 ·exact Qa (Or.inr ⟨f,by unfold Q2J;rw [QbQ hx];rfl,hk,g,hg,rfl,hc⟩)
 obtain ⟨rfl,hro,hlen⟩:=Qef hx
 obtain ⟨c0,c1,c2,c3,c4,c5,hfz,hlt⟩:=Q10 M1.box
 have hl:=M1.out
 have hsz:=M1.lim.1
 have hbase:=M1.own.kp.size
 have hrow:=Hid.mk M1.row
 have E:Hid ((thenE (Q2J size s e1) fun e'=>Except.ok ((),e')) = .ok ((),Q2n e1 s (Q0i s.length - s.length))):=by
  show _=_
  unfold Q2J
  rw [hro]
  simp [thenE,Q2n,padB]
 have M1:=Hid.mk M1
 have L:∀ (wl:World) (osl2:Value),Q04 w D Fr nsl v dep fuel size (Q2n e1 s 0) osl2 wl→True:=fun _ _ _=>trivial
 clear hx VR hro L
 by_cases hnil:osl1 = .slice none 0 0∧s=[]
 ·obtain ⟨rfl,rfl⟩:=hnil
  have M2:=Hid.mk M1.out.again
  have hE:Q2n e1 [] (Q0i ([]:List UInt8).length - ([]:List UInt8).length)=e1:=by simp [Q2n,Q0i]
  rw [hE] at E
  clear hE hp hp1 hp2
  go_wp2
  go_loopw [26] (fun i ur=>i = .int .i64 0∧Hid (ur=w1.setCell ⟨D,5,none⟩ (.slice none 0 0))) (fun _ _=>0)
  case atStart=>exact ⟨rfl,Hid.mk rfl⟩
  case round=>
   obtain ⟨rfl,hur⟩:=hrel
   go_wp2
   go_end0
   exact Or.inl ⟨(),_,_,E.out,rfl,by rw [hur.out];exact M2.out⟩
 ·have hs0:osl1 = .slice none 0 0→0 < (⟨s.toArray⟩:ByteArray).size:=by
   intro h0
   have:s≠[]:=fun h=>hnil ⟨h0,h⟩
   exact List.length_pos_iff.2 this
  have hsi:(⟨s.toArray⟩:ByteArray).size=s.length:=rfl
  go_wp2_with (at_builtin;go_must (refine Q8Q _ (by rfl) _ _ _ _ (by rfl) w.heap.size 5 i0 Tryz.underlying90 Tryz.underlying9 hi0 hz0 hz1 hz2 osl1 e1.out.length (e1.out.map Q4t) (by rfl) hrow.out ⟨s.toArray⟩ (by rfl) hs0 (by unfold maxLen;rw [hsi];omega) (by rw [hsi];omega) hbase ?_;intro g cap w2 hown hgrow hat hlt2;obtain ⟨z5,zf,zl⟩:=M1.out.boxAt (Below.refl _ _) hgrow;rw [Qee,hsi] at hown;have M2:=M1.out.grow (Below.refl _ _) (by omega) rfl hown hgrow hat hlt2;rw [← Qhq] at M2;have M2:=Hid.mk M2;clear hown hgrow hat hlt2 c0 c1 c2 c3 c4 c5 hfz hlt))
  have hr:Hid ((Q0i s.length - s.length:Nat)=Q0i s.length - s.length):=rfl
  go_loopw [26] (fun i ur=>∃ (k:Nat) (osl2:Value),i = .int .i64 k∧k≤Q0i s.length - s.length∧Hid (Q04 w D Fr nsl v dep fuel size (Q2n e1 s k) osl2 ur)) (fun i _=>(Q0i s.length - s.length) - (intOf i).toNat)
  case atStart=>exact ⟨0,_,rfl,by omega,M2⟩
  case round=>
   obtain ⟨k,osl2,rfl,hk,M⟩:=hrel
   clear M2 z5 zf zl
   rcases Nat.lt_or_ge k (Q0i s.length - s.length) with hkl | hge
   ·have hk0:(k:Int) < ((s.length:Int) + 3) / 4 * 4 - s.length:=by omega
    obtain ⟨ad2,cap2,rfl⟩:=M.out.slice
    obtain ⟨c0,c1,c2,c3,c4,c5,hfz,hlt⟩:=Q10 M.out.box
    have hol:(Q2n e1 s k).out.length=e1.out.length + s.length + k:=by simp [Q2n];omega
    have hb9:=M.out.own.kp.size
    have hown5:Hid (∀ o,(wr.alloc o).ownsRow w.heap.size 5 1 (.slice ad2 (Q2n e1 s k).out.length cap2) (Q2n e1 s k).out.length ((Q2n e1 s k).out.map Q4t)):=fun o=>Qt M.out.row ((Qb.refl [] wr).alloc o) (by simp)
    generalize hq:(Q2n e1 s k).out.length=q at hown5 c5 hol M
    have hqb:q + 1≤100000:=by omega
    have HQ:=Hid.mk hq
    clear hol hq
    go_wp2_with (at_builtin;go_must (refine wpList_append_lies _ (by rfl) _ _ _ (by rfl) w.heap.size 5 i0 _ 1 1 Tryz.underlying90 hi0 hz0 hz1 hz2 hz3 (by omega) (.slice ad2 q cap2) q ((Q2n e1 s k).out.map Q4t) (by rfl) (hown5.out _) ⟨wr.heap.size,0,none⟩ 1 1 [.int .u8 0] (by rfl) (by rfl) (World.news_of_block (cs:=#[.int .u8 0]) (t:=5) (fr:=(0,0)) (heap_alloc_new wr _)) (by simp [Value.oneCell']) (by omega) (by unfold maxLen;omega) (by omega) (by simp;omega) (wr.heap.size + 1) (by simp) ?_;intro g cap' w8 hown8 hgrow hat hlt8;obtain ⟨z5,zf,zl⟩:=M.out.boxAt ((Below.refl _ _).alloc (Nat.le_refl _) _) hgrow;have hq:=HQ.out;subst hq;have M8:=M.out.grow (l:=[0]) ((Below.refl _ _).alloc (Nat.le_refl _) _) (by omega) rfl hown8 hgrow (by simpa using hat) hlt8;rw [Qhr] at M8;have M8:=Hid.mk M8;clear hown8 hgrow hat hlt8 c0 c1 c2 c3 c4 c5 hfz hlt))
    exact ⟨⟨k + 1,_,by go_num,by omega,M8⟩,by simp [intOf];omega⟩
   ·have hkk:k=Q0i s.length - s.length:=by omega
    have hk0:¬ ((k:Int) < ((s.length:Int) + 3) / 4 * 4 - s.length):=by omega
    rw [← hkk] at E
    clear hkk
    go_wp2
    go_end0
    exact Or.inl ⟨(),_,_,E.out,rfl,M.out⟩
structure FitC (w:World) (D:Nat) (Fr:List (Nat×Obj)) (nsl:Value) (v:List QB) (dep fuel size:Nat) (fit:QB→Bool) (Fr':QB→List (Nat×Obj)) (F:Nat) (post:Array Value):Prop where
 enters:∀ (args:Array Value) (u:World),(callFunc F args).run Tryz.prog u = .ok (.enter F args) u
 calls:∀ {ex:List (Nat×Obj)} {e:ESt} {osl:Value} {u:World} (x:QB),Q04 w D (ex++Fr) nsl v dep fuel size e osl u→Calls Tryz.prog F (#[.agg (Q24 x).toArray]++post) u fun en u'=>en = .returned (.bool (fit x))∧Q04 w D (ex++Fr' x) nsl v dep fuel size e osl u'
def Q5v (w:World) (D:Nat) (Fr':QB→List (Nat×Obj)) (nsl:Value) (v:List QB) (dep fuel size:Nat) (r:Except Mar.Fault (QB×ESt)) (en:Ending) (u':World):Prop:=
 (∃ x e' osl',r = .ok (x,e')∧en = .returned (.agg (Q24 x).toArray)∧Q04 w D (Fr' x) nsl v dep fuel size e' osl' u')∨(∃ f,r = .error f∧Qb [] w u'∧Q0l w f.no f.at' en u')
theorem Q5v.throws {w u u':World} {D:Nat} {Fr':QB→List (Nat×Obj)} {nsl:Value} {v:List QB} {dep fuel size:Nat} {r:Except Mar.Fault (QB×ESt)} {f:Mar.Fault} {g:Nat} (hr:r = .error f) (hk:Qb [] w u) (hb:Qb [] u u') (hg:u.heap.size≤g) (hc:u'.heap[g]? = some (.cells #[.int .i64 f.no,.int .i64 f.at'] 83)) :
  Q5v w D Fr' nsl v dep fuel size r (.panicked [{ v:=.iface 79 (.pointer (some ⟨g,0,none⟩)),recovered:=false }]) u':=
 Or.inr ⟨f,hr,hk.trans hb,g,Nat.le_trans hk.size hg,rfl,hc⟩
theorem Qn0 {b:Nat} {a0 a1 a2 a3 a4 b0 b1 b2 b3 b4:Value} {T:TypeId} {w:World} (h:w.heap[b]? = some (.cells #[a0,a1,a2,a3,a4] T)) :
  (((((w.setCell ⟨b,0,none⟩ b0).setCell ⟨b,1,none⟩ b1).setCell ⟨b,2,none⟩ b2).setCell ⟨b,3,none⟩ b3).setCell ⟨b,4,none⟩ b4).heap[b]? = some (.cells #[b0,b1,b2,b3,b4] T):=by
 have h1:=Qo (i:=0) h b0
 have h2:=Qo (i:=1) h1 b1
 have h3:=Qo (i:=2) h2 b2
 have h4:=Qo (i:=3) h3 b3
 have h5:=Qo (i:=4) h4 b4
 simpa using h5
theorem Q77 {w u:World} {D:Nat} {Fr:List (Nat×Obj)} {nsl:Value} {v:List QB} {dep fuel size:Nat} {e:ESt} {osl:Value} {fit:QB→Bool} {Fr':QB→List (Nat×Obj)} {F:Nat} {post:Array Value} (kind:Int) (hF:FitC w D Fr nsl v dep fuel size fit Fr' F post) (h:Q04 w D Fr nsl v dep fuel size e osl u) :
  Calls Tryz.prog 312 #[.pointer (some ⟨D,0,none⟩),.int .i64 kind,.func (.func F) #[] post] u (Q5v w D Fr' nsl v dep fuel size (Q1t v fuel kind fit e)):=by
 obtain ⟨c0,c1,c2,c3,c4,c5,hfz,hlt⟩:=Q10 h.box
 obtain ⟨ad,cap,rfl,hvc,hcm,hnodes⟩:=id h.nodes
 have hf:=h.few
 obtain ⟨hsz,hfu⟩:=h.lim
 have hkp:=Hid.mk h.own.kp
 by_cases hs:fuel≤e.next
 ·have E:Hid (Q1t v fuel kind fit e = .error ⟨15,e.next⟩):=by show _=_;simp [Q1t,hs]
  have hc:(fuel:Int)≤(e.next:Int):=by omega
  clear h hnodes hF
  go_enter Tryz.func312,Tryz.ntmps312
  go_wp2
  go_region
  go_wp2_with (go_at_call 47;refine (Q09 _ _ _).mono ?_;rintro e w' ⟨rfl,rfl⟩)
  exact Qa (Q5v.throws (u:=u) (f:=⟨15,e.next⟩) E.out hkp.out ((((Qb.refl [] u).alloc _).drew).alloc _) (by simp) (Qg (by simp)))
 ·have hc:(e.next:Int) < (fuel:Int):=by omega
  cases hv:v[e.next]? with
  | none=>
   have hl:v.length≤e.next:=by
    rcases Nat.lt_or_ge e.next v.length with h | h
    ·rw [List.getElem?_eq_getElem h] at hv;cases hv
    ·exact h
   have E:Hid (Q1t v fuel kind fit e = .error ⟨12,e.next⟩):=by show _=_;simp [Q1t,hs,hv]
   have hc2:(v.length:Int)≤(e.next:Int):=by omega
   clear h hnodes hF hv
   go_enter Tryz.func312,Tryz.ntmps312
   go_wp2
   go_region
   go_wp2
   go_region
   go_wp2_with (go_at_call 47;refine (Q09 _ _ _).mono ?_;rintro e w' ⟨rfl,rfl⟩)
   exact Qa (Q5v.throws (u:=u) (f:=⟨12,e.next⟩) E.out hkp.out (((((Qb.refl [] u).alloc _).drew).drew).alloc _) (by simp) (Qg (by simp)))
  | some x=>
   have hl:e.next < v.length:=by
    rcases Nat.lt_or_ge e.next v.length with h | h
    ·exact h
    ·rw [List.getElem?_eq_none h] at hv;cases hv
   have hc2:(e.next:Int) < (v.length:Int):=by omega
   have hc3:(0:Int)≤(e.next:Int):=by omega
   obtain ⟨g,o,rfl,hNx⟩:=hnodes e.next x hv
   have hgl:g < w.heap.size:=Q1e hNx.1
   obtain ⟨n0,n1,n2,n3,n4⟩:Q9b u g (o + e.next * 5) x:=by
    obtain ⟨n0,n1,n2,n3,n4⟩:=hNx
    have hb:∀ i,u.cell? ⟨g,i,none⟩=w.cell? ⟨g,i,none⟩:=fun i=>World.cell?_of_block (hkp.out.block g hgl (by simp))
    exact ⟨(hb _).trans n0,(hb _).trans n1,(hb _).trans n2,(hb _).trans n3,(hb _).trans n4⟩
   have hgu:g < u.heap.size:=Nat.lt_of_lt_of_le hgl hkp.out.size
   have M0:=(h.alloc (.cells #[.int .i64 0,.int .i64 0,.string ⟨#[]⟩,.int .i64 0,.int .i64 0] 48)).alloc (.cells (Q24 x).toArray 48)
   have hsz1:(u.alloc (.cells #[.int .i64 0,.int .i64 0,.string ⟨#[]⟩,.int .i64 0,.int .i64 0] 48)).heap.size=u.heap.size + 1:=by simp
   rw [hsz1] at M0
   have M0:=Hid.mk (M0.below (((Below.refl _ _).drew).drew).drew)
   clear hsz1
   clear h hnodes hNx
   go_enter Tryz.func312,Tryz.ntmps312
   go_wp2
   go_region
   go_wp2
   go_region
   go_wp2_with fail
   refine QD (fun w'=>w'.cell? ⟨D,0,none⟩=some (.slice (some ⟨g,o,none⟩) v.length cap)∧w'.cell? ⟨D,1,none⟩=some (.int .i64 e.next)∧w'.cell? ⟨g,o + e.next * 5,none⟩=some (.int .i64 x.kind)∧w'.cell? ⟨g,o + e.next * 5 + 1,none⟩=some (.int .i64 x.n)∧w'.cell? ⟨g,o + e.next * 5 + 2,none⟩=some (.string ⟨x.s.toArray⟩)∧w'.cell? ⟨g,o + e.next * 5 + 3,none⟩=some (.int .i64 x.at')∧w'.cell? ⟨g,o + e.next * 5 + 4,none⟩=some (.int .i64 x.len)) (L:=11) (by kernel_rfl) rfl (by kernel_rfl) (by kernel_rfl) ?_ (fun hHeld=>?_)
   ·go_keep
   refine tk (i:=0) (v:=?_) rfl (by kernel_rfl) (fun _ _ _ h=>h) (by rfl) (by assumption) ?_ ?_
   rotate_left
   ·intro w hSw;(try dsimp only at hSw);go_simp;(try with_reducible rfl)
   (try simp only [Qd,Qe,List.set])
   refine tk (i:=1) (v:=?_) rfl (by kernel_rfl) (fun _ _ _ h=>h) (by rfl) (by assumption) ?_ ?_
   rotate_left
   ·intro w hSw;(try dsimp only at hSw);go_simp;(try with_reducible rfl)
   (try simp only [Qd,Qe,List.set])
   refine tk (i:=2) (v:=?_) rfl (by kernel_rfl) (fun _ _ _ h=>h) (by rfl) (by assumption) ?_ ?_
   rotate_left
   ·intro w hSw;(try dsimp only at hSw);go_simp;(try with_reducible rfl)
   (try simp only [Qd,Qe,List.set])
   refine tk (i:=3) (v:=?_) rfl (by kernel_rfl) (fun _ _ _ h=>h) (by rfl) (by assumption) ?_ ?_
   rotate_left
   ·intro w hSw;(try dsimp only at hSw);go_simp;(try with_reducible rfl)
   (try simp only [Qd,Qe,List.set])
   refine tk (i:=4) (v:=?_) rfl (by kernel_rfl) (fun _ _ _ h=>h) (by rfl) (by assumption) ?_ ?_
   rotate_left
   ·intro w hSw;(try dsimp only at hSw);go_simp;(try with_reducible rfl)
   (try simp only [Qd,Qe,List.set])
   refine tk (i:=5) (v:=?_) rfl (by kernel_rfl) (fun _ _ _ h=>h) (by rfl) (by assumption) ?_ ?_
   rotate_left
   ·intro w hSw;(try dsimp only at hSw);go_simp;(try with_reducible rfl)
   (try simp only [Qd,Qe,List.set])
   refine tk (i:=6) (v:=?_) rfl (by kernel_rfl) (fun _ _ _ h=>h) (by rfl) (by assumption) ?_ ?_
   rotate_left
   ·intro w hSw;(try dsimp only at hSw);go_simp;(try with_reducible rfl)
   (try simp only [Qd,Qe,List.set])
   refine tk (i:=7) (v:=?_) rfl (by kernel_rfl) (fun _ _ _ h=>h) (by rfl) (by assumption) ?_ ?_
   rotate_left
   ·intro w hSw;(try dsimp only at hSw);go_simp;(try with_reducible rfl)
   (try simp only [Qd,Qe,List.set])
   refine tk (i:=8) (v:=?_) rfl (by kernel_rfl) (fun _ _ _ h=>h) (by rfl) (by assumption) ?_ ?_
   rotate_left
   ·intro w hSw;(try dsimp only at hSw);go_simp;(try with_reducible rfl)
   (try simp only [Qd,Qe,List.set])
   refine tk (i:=9) (v:=?_) rfl (by kernel_rfl) (fun _ _ _ h=>h) (by rfl) (by assumption) ?_ ?_
   rotate_left
   ·intro w hSw;(try dsimp only at hSw);go_simp;(try with_reducible rfl)
   (try simp only [Qd,Qe,List.set])
   refine wpAnyH_ready (rs:=[10]) (by kernel_rfl) (by simp) ?_
   refine AllReadyH.cons rfl (fun K hK=>?_) AllReadyH.nil
   go_simp
   refine hK.out _ _ ?_ (fun hHeld=>?_)
   ·go_keep
   clear hK K
   (try simp only [Qd,Qe,List.set])
   refine wpAnyH_done (by kernel_rfl) ?_ _
   refine QL rfl (fun K hK=>?_)
   go_simp
   refine hK.out _ _ ?_
   clear hK K
   (try simp only [Qd,Qe,List.set])
   by_cases hk:x.kind=kind
   ·subst hk
    have hent:=hF.enters
    go_wp2_with fail
    refine (hF.calls (ex:=[(u.heap.size + 1,_),(u.heap.size,_)]) x M0.out).mono ?_
    rintro en w1 ⟨rfl,M1⟩
    cases hfit:fit x with
    | false=>
     have E:Hid (Q1t v fuel x.kind fit e = .error ⟨12,e.next⟩):=by show _=_;simp [Q1t,hs,hv,hfit]
     have hk1:=Hid.mk M1.own.kp
     obtain ⟨k0,k1,_,_,_,_,_,_⟩:=Q10 M1.box
     clear hF hv M1 M0 hfit
     go_wp2_with (go_at_call 47;refine (Q09 _ _ _).mono ?_;rintro e w' ⟨rfl,rfl⟩)
     exact Qa (Q5v.throws (u:=w1) (f:=⟨12,e.next⟩) E.out hk1.out ((Qb.refl [] _).alloc _) (Nat.le_refl _) (Qg rfl))
    | true=>
     have E:Hid (Q1t v fuel x.kind fit e = .ok (x,{ e with next:=e.next + 1 })):=by show _=_;simp [Q1t,hs,hv,hfit]
     obtain ⟨k0,k1,k2,k3,k4,k5,kf,kl⟩:=Q10 M1.box
     have oN:=M1.own.hf (u.heap.size + 1,_) List.mem_cons_self
     have oR:=M1.own.hf (u.heap.size,_) (List.mem_cons_of_mem _ List.mem_cons_self)
     obtain ⟨t0,t1,t2,t3,t4,tf,tl⟩:=Q2a oN.1
     obtain ⟨p0,p1,p2,p3,p4,pf,pl⟩:=Q2a oR.1
     have hd1:D≠u.heap.size + 1:=fun e=>oN.2 (by simp [← e])
     have hd2:D≠u.heap.size:=fun e=>oR.2 (by simp [← e])
     have hd3:u.heap.size + 1≠D:=fun e=>hd1 e.symm
     have hd4:u.heap.size≠D:=fun e=>hd2 e.symm
     have M2:=M1.move (by omega)
     have oR2:=(M2.own.hf (u.heap.size,_) (List.mem_cons_of_mem _ List.mem_cons_self)).1
     have z:=Qn0 (b0:=.int .i64 x.kind) (b1:=.int .i64 x.n) (b2:=.string ⟨x.s.toArray⟩) (b3:=.int .i64 x.at') (b4:=.int .i64 x.len) oR2
     obtain ⟨z0,z1,z2,z3,z4,_,_⟩:=Q2a z
     have M3:=Hid.mk (M2.tail.setFr ((((((Qb.refl [u.heap.size] _).setIn (p:=⟨u.heap.size,0,none⟩) (by simp) (.int .i64 x.kind)).setIn (p:=⟨u.heap.size,1,none⟩) (by simp) (.int .i64 x.n)).setIn (p:=⟨u.heap.size,2,none⟩) (by simp) (.string ⟨x.s.toArray⟩)).setIn (p:=⟨u.heap.size,3,none⟩) (by simp) (.int .i64 x.at')).setIn (p:=⟨u.heap.size,4,none⟩) (by simp) (.int .i64 x.len)) z).tail
     clear hF hv M1 M0 M2 oN oR oR2 hfit z
     go_wp2
     exact bodyPost_ret (v:=.agg (Q24 x).toArray) (by simp [results,Tryz.results312,go_sem,z0,z1,z2,z3,z4]) rfl (Or.inl ⟨x,_,_,E.out,rfl,M3.out⟩)
   ·have hkn:(x.kind == kind)=false:=by simpa using hk
    have E:Hid (Q1t v fuel kind fit e = .error ⟨12,e.next⟩):=by show _=_;simp [Q1t,hs,hv,hk]
    clear hF hv
    go_wp2_with (go_at_call 47;refine (Q09 _ _ _).mono ?_;rintro e w' ⟨rfl,rfl⟩)
    exact Qa (Q5v.throws (u:=u) (f:=⟨12,e.next⟩) E.out hkp.out (((((((Qb.refl [] u).alloc _).alloc _).alloc _).drew).drew).drew) (by omega) (Qg (by simp)))
theorem Qjd {w:World} {D:Nat} {Fr:List (Nat×Obj)} {nsl:Value} {v:List QB} {dep fuel size:Nat} {bs:List (Nat×Obj)} {cs:List Value} {n:NumL} (hN:Q1g bs cs n) (hw:∀ p∈bs,w.heap[p.1]? = some p.2) (b:Nat) :
  FitC w D ((b,.cells cs.toArray 200) :: Fr) nsl v dep fuel size (fun x=>n.has x.n) (fun _=>(b,.cells cs.toArray 200) :: Fr) 317 #[.pointer (some ⟨b,0,none⟩)] where
 enters:=fun _ _=>by kernel_rfl
 calls:=by
  intro ex e osl u x h
  obtain ⟨mm,rfl,hmem,a1,a2,a3,rfl⟩:=id hN
  obtain ⟨q0,q1,q2,q3,qf,ql⟩:=Q95 (h.own.hf (b,_) (List.mem_append_right _ List.mem_cons_self)).1
  have hb:∀ o,Below u.heap.size u (u.alloc o):=fun o=>(Below.refl _ _).alloc (Nat.le_refl _) _
  have VH:=Hid.mk (fun o=>Q7W hN x.n (w:=u.alloc o) (fun p hp=>((hb o).block _ (by have:=Qc (hw p hp);have:=h.own.kp.size;omega)).trans ((h.own.kp.block _ (Qc (hw p hp)) (by simp)).trans (hw p hp))))
  have H:=Hid.mk h
  clear h hw hN
  show Calls Tryz.prog _ #[_,_] _ _
  go_enter Tryz.func317,Tryz.ntmps317
  go_wp2_with fail
  refine (VH.out _).mono ?_
  rintro en w1 ⟨rfl,hb1⟩
  have M1:=Hid.mk ((H.out.below (hb _)).below hb1)
  clear hb1 VH
  go_wp2
  go_ret
  exact ⟨rfl,M1.out⟩
theorem Q9x (n:Int) (f:Bool) (k:Int) (w:World):Calls Tryz.prog 288 #[.agg #[.int .i64 n,.bool f],.int .i64 k] w fun e w'=>e = .returned (.bool (Q0K n f k))∧Below w.heap.size w w':=by
 have hb:∀ o,Below w.heap.size w (w.alloc o):=fun o=>(Below.refl _ _).alloc (Nat.le_refl _) _
 cases f with
 | true=>
  by_cases h:k=n
  ·subst h
   have E:Hid (Q0K k true k=true):=by show _=_;simp [Q0K]
   go_enter Tryz.func288,Tryz.ntmps288
   go_wp2
   go_ret
   exact ⟨by rw [E.out];rfl,hb _⟩
  ·have E:Hid (Q0K n true k=false):=by show _=_;simp [Q0K,h]
   have h':(k == n)=false:=by simpa using h
   go_enter Tryz.func288,Tryz.ntmps288
   go_wp2
   go_ret
   exact ⟨by rw [E.out];rfl,hb _⟩
 | false=>
  by_cases h1:0≤k
  ·by_cases h2:k≤n
   ·have E:Hid (Q0K n false k=true):=by show _=_;simp [Q0K,h1,h2]
    go_enter Tryz.func288,Tryz.ntmps288
    go_wp2
    go_ret
    exact ⟨by rw [E.out];rfl,hb _⟩
   ·have E:Hid (Q0K n false k=false):=by show _=_;simp [Q0K,h2]
    go_enter Tryz.func288,Tryz.ntmps288
    go_wp2
    go_ret
    exact ⟨by rw [E.out];rfl,hb _⟩
  ·have E:Hid (Q0K n false k=false):=by show _=_;simp [Q0K,h1]
   go_enter Tryz.func288,Tryz.ntmps288
   go_wp2
   go_ret
   exact ⟨by rw [E.out];rfl,hb _⟩
theorem Qn1 {w:World} {D:Nat} {Fr:List (Nat×Obj)} {nsl:Value} {v:List QB} {dep fuel size:Nat} (n:Int) (f:Bool) (b:Nat) :
  FitC w D ((b,.cells #[.int .i64 n,.bool f] 304) :: Fr) nsl v dep fuel size (fun x=>Q0K n f x.s.length) (fun _=>(b,.cells #[.int .i64 n,.bool f] 304) :: Fr) 319 #[.pointer (some ⟨b,0,none⟩)] where
 enters:=fun _ _=>by kernel_rfl
 calls:=by
  intro ex e osl u x h
  obtain ⟨q0,q1,qf,ql⟩:=Q0o (h.own.hf (b,_) (List.mem_append_right _ List.mem_cons_self)).1
  have hb:∀ o,Below u.heap.size u (u.alloc o):=fun o=>(Below.refl _ _).alloc (Nat.le_refl _) _
  have VH:=Hid.mk (Q9x n f x.s.length)
  have H:=Hid.mk h
  clear h
  show Calls Tryz.prog _ #[_,_] _ _
  go_enter Tryz.func319,Tryz.ntmps319
  go_wp2_with fail
  refine (VH.out _).mono ?_
  rintro en w1 ⟨rfl,hb1⟩
  have M1:=Hid.mk ((H.out.below (hb _)).below hb1)
  clear hb1 VH
  go_wp2
  go_ret
  exact ⟨rfl,M1.out⟩
theorem Qn2 {w:World} {D:Nat} {Fr:List (Nat×Obj)} {nsl:Value} {v:List QB} {dep fuel size:Nat} (n:Int) (f:Bool) (b:Nat) :
  FitC w D ((b,.cells #[.int .i64 n,.bool f] 304) :: Fr) nsl v dep fuel size (fun x=>Q0K n f x.len) (fun _=>(b,.cells #[.int .i64 n,.bool f] 304) :: Fr) 316 #[.pointer (some ⟨b,0,none⟩)] where
 enters:=fun _ _=>by kernel_rfl
 calls:=by
  intro ex e osl u x h
  obtain ⟨q0,q1,qf,ql⟩:=Q0o (h.own.hf (b,_) (List.mem_append_right _ List.mem_cons_self)).1
  have hb:∀ o,Below u.heap.size u (u.alloc o):=fun o=>(Below.refl _ _).alloc (Nat.le_refl _) _
  have VH:=Hid.mk (Q9x n f x.len)
  have H:=Hid.mk h
  clear h
  show Calls Tryz.prog _ #[_,_] _ _
  go_enter Tryz.func316,Tryz.ntmps316
  go_wp2_with fail
  refine (VH.out _).mono ?_
  rintro en w1 ⟨rfl,hb1⟩
  have M1:=Hid.mk ((H.out.below (hb _)).below hb1)
  clear hb1 VH
  go_wp2
  go_ret
  exact ⟨rfl,M1.out⟩
theorem Q04.perm {w u:World} {D:Nat} {Fr Fr':List (Nat×Obj)} {nsl:Value} {v:List QB} {dep fuel size:Nat} {e:ESt} {osl:Value} (h:Q04 w D Fr nsl v dep fuel size e osl u) (hp:Fr.Perm Fr'):Q04 w D Fr' nsl v dep fuel size e osl u:=by
 refine h.sub (fun q hq=>hp.mem_iff.2 hq) ?_
 have:=h.own.fnd
 rw [(hp.map _).nodup_iff] at this
 exact this
theorem Q04.setMid {w u u':World} {D:Nat} {A B:List (Nat×Obj)} {nsl:Value} {v:List QB} {dep fuel size:Nat} {e:ESt} {osl:Value} {m:Nat} {o o':Obj} (h:Q04 w D (A++(m,o) :: B) nsl v dep fuel size e osl u) (hk:Qb [m] u u') (ho:u'.heap[m]? = some o'):Q04 w D (A++(m,o') :: B) nsl v dep fuel size e osl u':=
 ((h.perm List.perm_middle).setFr hk ho).perm List.perm_middle.symm
def wayC (n:NumL) (ws:List (Int×Nat×Nat)) (o:Option (Nat×Nat)) (k:Int):Array Value:=match wayL n ws o k with
 | some q=>#[.int .i64 q.1,.int .i64 q.2]
 | none=>#[.int .i64 0,.int .i64 0]
theorem Qnq {w:World} {D:Nat} {Fr:List (Nat×Obj)} {nsl:Value} {v:List QB} {dep fuel size:Nat} {bs:List (Nat×Obj)} {cs:List Value} {n:NumL} {m:Nat} {ws:List (Int×Nat×Nat)} {ov:Value} {o:Option (Nat×Nat)} (hN:Q1g bs cs n) (hm:(m,Q0Y ws)∈bs) (ho:Q38 bs ov o) (nd:(ws.map (·.1)).Nodup) (hw:∀ p∈bs,w.heap[p.1]? = some p.2) (b c:Nat) (P:Nat×Obj) :
  FitC w D ((c,.cells #[.int .i64 0,.int .i64 0] 323) :: P :: (b,.cells (cs++[.map (some m),ov]).toArray 321) :: Fr) nsl v dep fuel size (Q3a fun k=>(wayL n ws o k).map (·.2)) (fun x=>(c,.cells (wayC n ws o x.n) 323) :: P :: (b,.cells (cs++[.map (some m),ov]).toArray 321) :: Fr) 313 #[.pointer (some ⟨b,0,none⟩),.pointer (some ⟨c,0,none⟩)] where
 enters:=fun _ _=>by kernel_rfl
 calls:=by
  intro ex e osl u x h
  obtain ⟨mm,rfl,hmem,a1,a2,a3,rfl⟩:=id hN
  obtain ⟨pa,rfl⟩:∃ pa,ov = .pointer pa:=by
   cases o with
   | none=>exact ⟨_,ho⟩
   | some q=>obtain ⟨b,h1,_⟩:=ho;exact ⟨_,h1⟩
  obtain ⟨q0,q1,q2,q3,q4,q5,qf,ql⟩:=Q10 (h.own.hf (b,_) (List.mem_append_right _ (List.mem_cons_of_mem _ (List.mem_cons_of_mem _ List.mem_cons_self)))).1
  have hb:∀ o,Below u.heap.size u (u.alloc o):=fun o=>(Below.refl _ _).alloc (Nat.le_refl _) _
  have VY:=Hid.mk (fun oo=>QfN hN hm ho nd x.n (w:=u.alloc oo) (fun p hp=>((hb oo).block _ (by have:=Qc (hw p hp);have:=h.own.kp.size;omega)).trans ((h.own.kp.block _ (Qc (hw p hp)) (by simp)).trans (hw p hp))))
  have M0:=Hid.mk (h.alloc (.cells (Q24 x).toArray 48))
  clear h hw hN hm ho
  show Calls Tryz.prog _ #[_,_,_] _ _
  go_enter Tryz.func313,Tryz.ntmps313
  go_wp2_with fail
  refine (VY.out _).mono ?_
  rintro en w1 ⟨rfl,hb1⟩
  have M1:=M0.out.below hb1
  obtain ⟨n0,n1,n2,n3,n4,nf,nl⟩:=Q2a (M1.own.hf _ List.mem_cons_self).1
  have oC:=(M1.own.hf (c,_) (List.mem_cons_of_mem _ (List.mem_append_right _ List.mem_cons_self))).1
  obtain ⟨w0,w1',wf,wl⟩:=Q0o oC
  have hne:u.heap.size≠c:=by
   have:=M1.own.fnd
   simp only [List.map_cons,List.nodup_cons,List.map_append] at this
   exact fun e=>this.1 (by rw [e];simp)
  have hne':c≠u.heap.size:=fun e=>hne e.symm
  clear VY M0 hb1
  cases hwl:wayL n ws o x.n with
  | none=>
   have EV:wayV n ws o x.n = .agg #[.int .i64 0,.int .i64 0]:=by simp [wayV,hwl]
   have EC:wayC n ws o x.n = #[.int .i64 0,.int .i64 0]:=by simp [wayC,hwl]
   have EF:Hid (Q3a (fun k=>(wayL n ws o k).map (·.2)) x=false):=by show _=_;simp [Q3a,hwl]
   have z:=Q5b (k':=.int .i64 0) (t':=.int .i64 0) oC
   have M2:=(M1.tail.setMid (((Qb.refl [c] w1).setIn (p:=⟨c,0,none⟩) (by simp) (.int .i64 0)).setIn (p:=⟨c,1,none⟩) (by simp) (.int .i64 0)) z)
   rw [← EC] at M2
   have M2:=Hid.mk M2
   rw [EV]
   simp only [Option.isSome_none]
   clear M1 oC z EV EC hwl
   go_wp2
   go_ret
   exact ⟨by rw [EF.out];rfl,M2.out⟩
  | some q=>
   have EV:wayV n ws o x.n = .agg #[.int .i64 q.1,.int .i64 q.2]:=by simp [wayV,hwl]
   have EC:wayC n ws o x.n = #[.int .i64 q.1,.int .i64 q.2]:=by simp [wayC,hwl]
   have EF:Hid (Q3a (fun k=>(wayL n ws o k).map (·.2)) x=(x.len == (q.2:Int))):=by
    show _=_
    simp [Q3a,hwl]
    by_cases hq:x.len=(q.2:Int)<;>simp [hq]
   have z:=Q5b (k':=.int .i64 (q.1:Int)) (t':=.int .i64 (q.2:Int)) oC
   obtain ⟨y0,y1,_,_⟩:=Q0o z
   have M2:=(M1.tail.setMid (((Qb.refl [c] w1).setIn (p:=⟨c,0,none⟩) (by simp) (.int .i64 (q.1:Int))).setIn (p:=⟨c,1,none⟩) (by simp) (.int .i64 (q.2:Int))) z)
   rw [← EC] at M2
   have M2:=Hid.mk M2
   rw [EV]
   simp only [Option.isSome_some]
   clear M1 oC z EV EC hwl
   go_wp2
   go_ret
   exact ⟨by rw [EF.out];rfl,M2.out⟩
theorem Q2X {v:List QB} {fuel:Nat} {kind:Int} {fits:QB→Bool} {e:ESt} {p:QB×ESt} (h:Q1t v fuel kind fits e = .ok p):1≤p.2.next∧p.1.kind=kind∧fits p.1=true:=by
 unfold Q1t at h
 split at h
 ·cases h
 ·split at h
  ·cases h
  ·split at h
   ·rename_i hk
    cases h
    exact ⟨by simp,hk.1,hk.2⟩
   ·cases h
theorem QaZ {size:Nat} {n:Int} {e e':ESt} (h:Q1k size n e = .ok e'):e'.next=e.next:=by
 obtain ⟨e1,h1,h2⟩:=Qh h
 unfold Q2G at h1
 split at h1
 ·cases h1
 ·cases h1
  cases h2
  rfl
theorem Q9c {τ:Type} {r:Except Mar.Fault τ} {d:τ} {x:Unit} (h:(thenE r fun e'=>Except.ok ((),e')) = .ok (x,d)):r = .ok d:=by
 cases r with
 | error f=>cases h
 | ok e=>cases h;rfl
theorem Q83 {τ:Type} {r:Except Mar.Fault τ} {f:Mar.Fault} (h:(thenE r fun e'=>Except.ok ((),e')) = .error f):r = .error f:=by
 cases r with
 | error f=>cases h;rfl
 | ok e=>cases h
theorem Qhs {w u:World} {D:Nat} {Fr:List (Nat×Obj)} {nsl:Value} {v:List QB} {dep fuel size:Nat} {e:ESt} {osl:Value} (k:Nat) (hk:k < 1000000) (h:Q04 w D Fr nsl v dep fuel size e osl u) :
  Calls Tryz.prog 239 #[.pointer (some ⟨D,0,none⟩),.int .i64 k] u (Q1A w D Fr nsl v dep fuel size (thenE ((encW v dep fuel size).enter k e) fun e'=>.ok ((),e')) fun _=>.tuple #[]):=by
 obtain ⟨c0,c1,c2,c3,c4,c5,hfz,hlt⟩:=Q10 h.box
 have H:=Hid.mk h
 clear h
 by_cases hs:dep≤k
 ·have E:Hid ((thenE ((encW v dep fuel size).enter k e) fun e'=>Except.ok ((),e')) = .error ⟨13,e.next⟩):=by show _=_;simp [encW,hs,thenE]
  have hc:(dep:Int)≤(k:Int):=by omega
  go_enter Tryz.func239,Tryz.ntmps239
  go_wp2_with (go_at_call 47;refine (Q09 _ _ _).mono ?_;rintro e w' ⟨rfl,rfl⟩)
  exact Qa (Q1A.throws (u:=u) (f:=⟨13,e.next⟩) E.out H.out.own.kp ((Qb.refl [] _).alloc _) (Nat.le_refl _) (Qg rfl))
 ·have E:Hid ((thenE ((encW v dep fuel size).enter k e) fun e'=>Except.ok ((),e')) = .ok ((),e)):=by show _=_;simp [encW,hs,thenE]
  have hc:(k:Int) < (dep:Int):=by omega
  go_enter Tryz.func239,Tryz.ntmps239
  go_wp2
  go_end0
  exact Or.inl ⟨(),e,_,E.out,rfl,H.out⟩
theorem Qfj {w u:World} {D:Nat} {Fr:List (Nat×Obj)} {nsl:Value} {v:List QB} {dep fuel size:Nat} {e:ESt} {osl:Value} {bs:List (Nat×Obj)} {cs:List Value} {n:NumL} (hN:Q1g bs cs n) (hw:∀ p∈bs,w.heap[p.1]? = some p.2) (h:Q04 w D Fr nsl v dep fuel size e osl u) :
  Calls Tryz.prog 310 #[.pointer (some ⟨D,0,none⟩),.agg cs.toArray] u (Q1A w D Fr nsl v dep fuel size (thenE ((encW v dep fuel size).num n e) fun e'=>.ok ((),e')) fun _=>.tuple #[]):=by
 have hmf:∀ (fn:Fn) (first cap:Array Value) (w:World),(Instr.makeFunc fn first cap).run Tryz.prog w = .ok (.func fn first cap) w:=fun _ _ _ _=>rfl
 have VT:=Hid.mk (Q77 1 (Qjd hN hw u.heap.size (D:=D) (Fr:=Fr) (nsl:=nsl) (v:=v) (dep:=dep) (fuel:=fuel) (size:=size)) (h.alloc (.cells cs.toArray 200)))
 obtain ⟨mm,rfl,hmem,a1,a2,a3,rfl⟩:=id hN
 have E0:Hid ((encW v dep fuel size).num n e=thenE (Q1t v fuel 1 (fun x=>n.has x.n) e) fun p=>thenE (if n.wide then Q1k size (p.1.n / 4294967296) p.2 else .ok p.2) fun e=>Q1k size p.1.n e):=rfl
 clear h hw hN
 go_enter Tryz.func310,Tryz.ntmps310
 go_wp2_with fail
 refine VT.out.mono ?_
 rintro en w1 (⟨x,e1,osl1,hx,rfl,M1⟩ | ⟨f,hx,hk,g,hg,rfl,hc⟩)
 rotate_left
 ·exact Qa (Or.inr ⟨f,by rw [E0.out,hx];rfl,hk,g,hg,rfl,hc⟩)
 have hnx:=(Q2X hx).1
 have E1:Hid ((encW v dep fuel size).num n e=thenE (if n.wide then Q1k size (x.n / 4294967296) e1 else .ok e1) fun e=>Q1k size x.n e):=by show _=_;rw [E0.out,hx];rfl
 have M2:=M1.alloc (.cells (Q24 x).toArray 48)
 obtain ⟨q0,q1,q2,q3,qf,ql⟩:=Q95 (M2.own.hf _ (List.mem_cons_of_mem _ List.mem_cons_self)).1
 have M2:=Hid.mk M2
 clear hx VT E0 M1
 cases hwd:n.wide with
 | true=>
  rw [hwd] at q3
  have VW:=Hid.mk (Q4S (x.n / 4294967296) hnx M2.out)
  go_wp2_with fail
  refine VW.out.mono ?_
  rintro en w2 (⟨_,e2,osl2,hx,rfl,M3⟩ | ⟨f,hx,hk,g,hg,rfl,hc⟩)
  rotate_left
  ·refine Qa (Or.inr ⟨f,?_,hk,g,hg,rfl,hc⟩)
   rw [E1.out,hwd]
   simp only [if_true]
   rw [Q83 hx]
   rfl
  have hwe:=Q9c hx
  have E2:Hid ((encW v dep fuel size).num n e=Q1k size x.n e2):=by show _=_;rw [E1.out,hwd];simp only [if_true];rw [hwe];rfl
  have hn2:1≤e2.next:=by rw [QaZ hwe];exact hnx
  obtain ⟨t0,t1,t2,t3,t4,tf,tl⟩:=Q2a (M3.own.hf _ List.mem_cons_self).1
  have VX:=Hid.mk (Q4S x.n hn2 M3)
  clear hx hwe M3 VW E1 M2
  go_wp2_with fail
  refine VX.out.mono ?_
  rintro en w3 (⟨_,e3,osl3,hx,rfl,M4⟩ | ⟨f,hx,hk,g,hg,rfl,hc⟩)
  rotate_left
  ·exact Qa (Or.inr ⟨f,by rw [E2.out];exact hx,hk,g,hg,rfl,hc⟩)
  have R:Hid (Q1A w D Fr nsl v dep fuel size (thenE ((encW v dep fuel size).num n e) fun e'=>.ok ((),e')) (fun _=>.tuple #[]) (.returned (.tuple #[])) w3):=Or.inl ⟨(),e3,osl3,by rw [E2.out];exact hx,rfl,M4.tail.tail⟩
  clear hx M4 VX
  go_wp2
  go_end0
  exact R.out
 | false=>
  rw [hwd] at q3
  have E2:Hid ((encW v dep fuel size).num n e=Q1k size x.n e1):=by show _=_;rw [E1.out,hwd];rfl
  obtain ⟨t0,t1,t2,t3,t4,tf,tl⟩:=Q2a (M2.out.own.hf _ List.mem_cons_self).1
  have VX:=Hid.mk (Q4S x.n hnx M2.out)
  clear M2 E1
  go_wp2_with fail
  refine VX.out.mono ?_
  rintro en w3 (⟨_,e3,osl3,hx,rfl,M4⟩ | ⟨f,hx,hk,g,hg,rfl,hc⟩)
  rotate_left
  ·exact Qa (Or.inr ⟨f,by rw [E2.out];exact hx,hk,g,hg,rfl,hc⟩)
  have R:Hid (Q1A w D Fr nsl v dep fuel size (thenE ((encW v dep fuel size).num n e) fun e'=>.ok ((),e')) (fun _=>.tuple #[]) (.returned (.tuple #[])) w3):=Or.inl ⟨(),e3,osl3,by rw [E2.out];exact hx,rfl,M4.tail.tail⟩
  clear hx M4 VX
  go_wp2
  go_end0
  exact R.out
theorem QbR {n:Int} {f:Bool} {k:Int} (h2:n≤4294967295) (h:Q0K n f k=true):k≤4294967295:=by
 unfold Q0K at h
 cases f with
 | true=>simp at h;omega
 | false=>simp at h;omega
theorem Qcq {n:Int} {f:Bool} {k:Int} (h2:0≤n) (h:Q0K n f k=true):0≤k:=by
 unfold Q0K at h
 cases f with
 | true=>simp at h;omega
 | false=>simp at h;omega
theorem Qje {w u:World} {D:Nat} {Fr:List (Nat×Obj)} {nsl:Value} {v:List QB} {dep fuel size:Nat} {e:ESt} {osl:Value} (n:Int) (f:Bool) (h0:0≤n) (h1:n≤4294967295) (h:Q04 w D Fr nsl v dep fuel size e osl u) :
  Calls Tryz.prog 311 #[.pointer (some ⟨D,0,none⟩),.agg #[.int .i64 n,.bool f]] u (Q1A w D Fr nsl v dep fuel size (thenE ((encW v dep fuel size).text n f e) fun e'=>.ok ((),e')) fun _=>.tuple #[]):=by
 have hmf:∀ (fn:Fn) (first cap:Array Value) (w:World),(Instr.makeFunc fn first cap).run Tryz.prog w = .ok (.func fn first cap) w:=fun _ _ _ _=>rfl
 have VT:=Hid.mk (Q77 2 (Qn1 n f u.heap.size (w:=w) (D:=D) (Fr:=Fr) (nsl:=nsl) (v:=v) (dep:=dep) (fuel:=fuel) (size:=size)) (h.alloc (.cells #[.int .i64 n,.bool f] 304)))
 have E0:Hid ((encW v dep fuel size).text n f e=thenE (Q1t v fuel 2 (fun x=>Q0K n f x.s.length) e) fun p=>thenE (if f then .ok p.2 else Q1k size p.1.s.length p.2) fun e=>Q2J size p.1.s e):=rfl
 clear h
 go_enter Tryz.func311,Tryz.ntmps311
 go_wp2_with fail
 refine VT.out.mono ?_
 rintro en w1 (⟨x,e1,osl1,hx,rfl,M1⟩ | ⟨f',hx,hk,g,hg,rfl,hc⟩)
 rotate_left
 ·exact Qa (Or.inr ⟨f',by rw [E0.out,hx];rfl,hk,g,hg,rfl,hc⟩)
 have hnx:=(Q2X hx).1
 have hsl:x.s.length≤4294967295:=by have:=QbR h1 (Q2X hx).2.2;simp only at this;omega
 have E1:Hid ((encW v dep fuel size).text n f e=thenE (if f then .ok e1 else Q1k size x.s.length e1) fun e=>Q2J size x.s e):=by show _=_;rw [E0.out,hx];rfl
 have M2:=M1.alloc (.cells (Q24 x).toArray 48)
 obtain ⟨q0,q1,qf,ql⟩:=Q0o (M2.own.hf _ (List.mem_cons_of_mem _ List.mem_cons_self)).1
 have M2:=Hid.mk M2
 clear hx VT E0 M1
 cases f with
 | true=>
  have E2:Hid ((encW v dep fuel size).text n true e=Q2J size x.s e1):=by show _=_;rw [E1.out];rfl
  obtain ⟨t0,t1,t2,t3,t4,tf,tl⟩:=Q2a (M2.out.own.hf _ List.mem_cons_self).1
  have VX:=Hid.mk (Q9w x.s hsl hnx M2.out)
  clear M2 E1
  go_wp2_with fail
  refine VX.out.mono ?_
  rintro en w3 (⟨_,e3,osl3,hx,rfl,M4⟩ | ⟨f',hx,hk,g,hg,rfl,hc⟩)
  rotate_left
  ·exact Qa (Or.inr ⟨f',by rw [E2.out];exact hx,hk,g,hg,rfl,hc⟩)
  have R:Hid (Q1A w D Fr nsl v dep fuel size (thenE ((encW v dep fuel size).text n true e) fun e'=>.ok ((),e')) (fun _=>.tuple #[]) (.returned (.tuple #[])) w3):=Or.inl ⟨(),e3,osl3,by rw [E2.out];exact hx,rfl,M4.tail.tail⟩
  clear hx M4 VX
  go_wp2
  go_end0
  exact R.out
 | false=>
  have VW:=Hid.mk (Q4S x.s.length hnx M2.out)
  go_wp2_with fail
  refine VW.out.mono ?_
  rintro en w2 (⟨_,e2,osl2,hx,rfl,M3⟩ | ⟨f',hx,hk,g,hg,rfl,hc⟩)
  rotate_left
  ·refine Qa (Or.inr ⟨f',?_,hk,g,hg,rfl,hc⟩)
   rw [E1.out]
   simp only [Bool.false_eq_true,if_false]
   rw [Q83 hx]
   rfl
  have hwe:=Q9c hx
  have E2:Hid ((encW v dep fuel size).text n false e=Q2J size x.s e2):=by show _=_;rw [E1.out];simp only [Bool.false_eq_true,if_false];rw [hwe];rfl
  have hn2:1≤e2.next:=by rw [QaZ hwe];exact hnx
  obtain ⟨t0,t1,t2,t3,t4,tf,tl⟩:=Q2a (M3.own.hf _ List.mem_cons_self).1
  have VX:=Hid.mk (Q9w x.s hsl hn2 M3)
  clear hx hwe M3 VW E1 M2
  go_wp2_with fail
  refine VX.out.mono ?_
  rintro en w3 (⟨_,e3,osl3,hx,rfl,M4⟩ | ⟨f',hx,hk,g,hg,rfl,hc⟩)
  rotate_left
  ·exact Qa (Or.inr ⟨f',by rw [E2.out];exact hx,hk,g,hg,rfl,hc⟩)
  have R:Hid (Q1A w D Fr nsl v dep fuel size (thenE ((encW v dep fuel size).text n false e) fun e'=>.ok ((),e')) (fun _=>.tuple #[]) (.returned (.tuple #[])) w3):=Or.inl ⟨(),e3,osl3,by rw [E2.out];exact hx,rfl,M4.tail.tail⟩
  clear hx M4 VX
  go_wp2
  go_end0
  exact R.out
theorem Qjf {w u:World} {D:Nat} {Fr:List (Nat×Obj)} {nsl:Value} {v:List QB} {dep fuel size:Nat} {e:ESt} {osl:Value} (n:Int) (f:Bool) (h0:0≤n) (h1:n≤4294967295) (h:Q04 w D Fr nsl v dep fuel size e osl u) :
  Calls Tryz.prog 309 #[.pointer (some ⟨D,0,none⟩),.agg #[.int .i64 n,.bool f]] u (Q1A w D Fr nsl v dep fuel size ((encW v dep fuel size).list n f e) fun k=>.int .i64 k):=by
 have hmf:∀ (fn:Fn) (first cap:Array Value) (w:World),(Instr.makeFunc fn first cap).run Tryz.prog w = .ok (.func fn first cap) w:=fun _ _ _ _=>rfl
 have VT:=Hid.mk (Q77 3 (Qn2 n f u.heap.size (w:=w) (D:=D) (Fr:=Fr) (nsl:=nsl) (v:=v) (dep:=dep) (fuel:=fuel) (size:=size)) (h.alloc (.cells #[.int .i64 n,.bool f] 304)))
 have E0:Hid ((encW v dep fuel size).list n f e=thenE (Q1t v fuel 3 (fun x=>Q0K n f x.len) e) fun p=>thenE (if f then .ok p.2 else Q1k size p.1.len p.2) fun e=>.ok (p.1.len.toNat,e)):=rfl
 clear h
 go_enter Tryz.func309,Tryz.ntmps309
 go_wp2_with fail
 refine VT.out.mono ?_
 rintro en w1 (⟨x,e1,osl1,hx,rfl,M1⟩ | ⟨f',hx,hk,g,hg,rfl,hc⟩)
 rotate_left
 ·exact Qa (Or.inr ⟨f',by rw [E0.out,hx];rfl,hk,g,hg,rfl,hc⟩)
 have hnx:=(Q2X hx).1
 have hl0:0≤x.len:=Qcq h0 (Q2X hx).2.2
 have HL:Hid (((x.len.toNat:Nat):Int)=x.len):=Int.toNat_of_nonneg hl0
 have E1:Hid ((encW v dep fuel size).list n f e=thenE (if f then .ok e1 else Q1k size x.len e1) fun e=>.ok (x.len.toNat,e)):=by show _=_;rw [E0.out,hx];rfl
 have M2:=M1.alloc (.cells (Q24 x).toArray 48)
 obtain ⟨q0,q1,qf,ql⟩:=Q0o (M2.own.hf _ (List.mem_cons_of_mem _ List.mem_cons_self)).1
 have M2:=Hid.mk M2
 clear hx VT E0 M1
 cases f with
 | true=>
  have E2:Hid ((encW v dep fuel size).list n true e = .ok (x.len.toNat,e1)):=by show _=_;rw [E1.out];rfl
  obtain ⟨t0,t1,t2,t3,t4,tf,tl⟩:=Q2a (M2.out.own.hf _ List.mem_cons_self).1
  clear E1
  go_wp2
  go_ret
  refine Or.inl ⟨x.len.toNat,e1,osl1,E2.out,?_,M2.out.tail.tail⟩
  show _=Ending.returned (Value.int .i64 ((x.len.toNat:Nat):Int))
  rw [HL.out]
  rfl
 | false=>
  have VW:=Hid.mk (Q4S x.len hnx M2.out)
  go_wp2_with fail
  refine VW.out.mono ?_
  rintro en w2 (⟨_,e2,osl2,hx,rfl,M3⟩ | ⟨f',hx,hk,g,hg,rfl,hc⟩)
  rotate_left
  ·refine Qa (Or.inr ⟨f',?_,hk,g,hg,rfl,hc⟩)
   rw [E1.out]
   simp only [Bool.false_eq_true,if_false]
   rw [Q83 hx]
   rfl
  have hwe:=Q9c hx
  have E2:Hid ((encW v dep fuel size).list n false e = .ok (x.len.toNat,e2)):=by show _=_;rw [E1.out];simp only [Bool.false_eq_true,if_false];rw [hwe];rfl
  obtain ⟨t0,t1,t2,t3,t4,tf,tl⟩:=Q2a (M3.own.hf _ List.mem_cons_self).1
  have M3:=Hid.mk M3
  clear hx hwe VW E1 M2
  go_wp2
  go_ret
  refine Or.inl ⟨x.len.toNat,e2,osl2,E2.out,?_,M3.out.tail.tail⟩
  show _=Ending.returned (Value.int .i64 ((x.len.toNat:Nat):Int))
  rw [HL.out]
  rfl
theorem Qlx {w u:World} {D:Nat} {Fr:List (Nat×Obj)} {nsl:Value} {v:List QB} {dep fuel size:Nat} {e:ESt} {osl:Value} {bs:List (Nat×Obj)} {cs:List Value} {n:NumL} {m:Nat} {ws:List (Int×Nat×Nat)} {ov:Value} {o:Option (Nat×Nat)} (hN:Q1g bs cs n) (hm:(m,Q0Y ws)∈bs) (ho:Q38 bs ov o) (nd:(ws.map (·.1)).Nodup) (hw:∀ p∈bs,w.heap[p.1]? = some p.2) (h:Q04 w D Fr nsl v dep fuel size e osl u) :
  Calls Tryz.prog 308 #[.pointer (some ⟨D,0,none⟩),.agg (cs++[.map (some m),ov]).toArray] u (Q1A w D Fr nsl v dep fuel size ((encW v dep fuel size).arm n (fun k=>(wayL n ws o k).map (·.2)) e) (wayV n ws o)):=by
 have hmf:∀ (fn:Fn) (first cap:Array Value) (w:World),(Instr.makeFunc fn first cap).run Tryz.prog w = .ok (.func fn first cap) w:=fun _ _ _ _=>rfl
 have M0:=((h.alloc (.cells (cs++[.map (some m),ov]).toArray 321)).alloc (.cells #[.int .i64 0,.int .i64 0] 323)).alloc (.cells #[.int .i64 0,.int .i64 0] 323)
 have hs1:(u.alloc (.cells (cs++[.map (some m),ov]).toArray 321)).heap.size=u.heap.size + 1:=by simp
 have hs2:((u.alloc (.cells (cs++[.map (some m),ov]).toArray 321)).alloc (.cells #[.int .i64 0,.int .i64 0] 323)).heap.size=u.heap.size + 1 + 1:=by simp
 rw [hs2,hs1] at M0
 have VT:=Hid.mk (Q77 4 (Qnq hN hm ho nd hw u.heap.size (u.heap.size + 1 + 1) (u.heap.size + 1,.cells #[.int .i64 0,.int .i64 0] 323) (D:=D) (Fr:=Fr) (nsl:=nsl) (v:=v) (dep:=dep) (fuel:=fuel) (size:=size)) M0)
 obtain ⟨mm,rfl,hmem,a1,a2,a3,rfl⟩:=id hN
 obtain ⟨pa,rfl⟩:∃ pa,ov = .pointer pa:=by
  cases o with
  | none=>exact ⟨_,ho⟩
  | some q=>obtain ⟨b,h1,_⟩:=ho;exact ⟨_,h1⟩
 have E0:Hid ((encW v dep fuel size).arm n (fun k=>(wayL n ws o k).map (·.2)) e=thenE (Q1t v fuel 4 (Q3a fun k=>(wayL n ws o k).map (·.2)) e) fun p=>thenE (Q1k size p.1.n p.2) fun e=>.ok (p.1.n,e)):=rfl
 clear h hw hN hm ho M0 hs1 hs2
 go_enter Tryz.func308,Tryz.ntmps308
 go_wp2_with fail
 refine VT.out.mono ?_
 rintro en w1 (⟨x,e1,osl1,hx,rfl,M1⟩ | ⟨f',hx,hk,g,hg,rfl,hc⟩)
 rotate_left
 ·exact Qa (Or.inr ⟨f',by rw [E0.out,hx];rfl,hk,g,hg,rfl,hc⟩)
 have hnx:=(Q2X hx).1
 have hfit:=(Q2X hx).2.2
 obtain ⟨q,hq⟩:∃ q,wayL n ws o x.n=some q:=by
  simp only [Q3a] at hfit
  cases hwl:wayL n ws o x.n with
  | none=>simp [hwl] at hfit
  | some q=>exact ⟨q,rfl⟩
 have EV:Hid (wayV n ws o x.n = .agg #[.int .i64 q.1,.int .i64 q.2]):=by show _=_;simp [wayV,hq]
 have EC:wayC n ws o x.n = #[.int .i64 q.1,.int .i64 q.2]:=by simp [wayC,hq]
 dsimp only at M1
 rw [EC] at M1
 have E1:Hid ((encW v dep fuel size).arm n (fun k=>(wayL n ws o k).map (·.2)) e=thenE (Q1k size x.n e1) fun e=>.ok (x.n,e)):=by show _=_;rw [E0.out,hx];rfl
 have M2:=M1.alloc (.cells (Q24 x).toArray 48)
 have VW:=Hid.mk (Q4S x.n hnx M2)
 obtain ⟨t0,t1,t2,t3,t4,tf,tl⟩:=Q2a (M2.own.hf _ List.mem_cons_self).1
 clear hx VT E0 M1 hfit hq EC M2
 go_wp2_with fail
 refine VW.out.mono ?_
 rintro en w2 (⟨_,e2,osl2,hx,rfl,M3⟩ | ⟨f',hx,hk,g,hg,rfl,hc⟩)
 rotate_left
 ·exact Qa (Or.inr ⟨f',by rw [E1.out,Q83 hx];rfl,hk,g,hg,rfl,hc⟩)
 have E2:Hid ((encW v dep fuel size).arm n (fun k=>(wayL n ws o k).map (·.2)) e = .ok (x.n,e2)):=by show _=_;rw [E1.out,Q9c hx];rfl
 have oW:=(M3.own.hf _ (List.mem_cons_of_mem _ List.mem_cons_self)).1
 have oR:=(M3.own.hf _ (List.mem_cons_of_mem _ (List.mem_cons_of_mem _ List.mem_cons_self))).1
 obtain ⟨p0,p1,pf,pl⟩:=Q0o oW
 obtain ⟨r0,r1,rf,rl⟩:=Q0o oR
 have z:=Q5b (k':=.int .i64 (q.1:Int)) (t':=.int .i64 (q.2:Int)) oR
 obtain ⟨z0,z1,_,_⟩:=Q0o z
 have M4:=Hid.mk (M3.tail.tail.setFr (((Qb.refl [u.heap.size + 1] w2).setIn (p:=⟨u.heap.size + 1,0,none⟩) (by simp) (.int .i64 (q.1:Int))).setIn (p:=⟨u.heap.size + 1,1,none⟩) (by simp) (.int .i64 (q.2:Int))) z).tail.tail
 clear hx M3 oW oR z VW E1
 go_wp2
 exact bodyPost_ret (v:=.agg #[.int .i64 q.1,.int .i64 q.2]) (by simp [results,Tryz.results308,go_sem,z0,z1]) rfl (Or.inl ⟨x.n,e2,osl2,E2.out,by rw [EV.out],M4.out⟩)
theorem Qjg {v:List QB} {dep fuel size:Nat} {n:Int} {f:Bool} {d d':ESt} {k:Nat} (h0:0≤n) (h1:n≤4294967295) (h:(encW v dep fuel size).list n f d = .ok (k,d')):k≤4294967295:=by
 obtain ⟨p,h1',h⟩:=Qh h
 obtain ⟨e,_,h⟩:=Qh h
 cases h
 have:=QbR h1 (Q2X h1').2.2
 omega
theorem Qb0 {α:Type} {w:World} {D:Nat} {Fr:List (Nat×Obj)} {nsl:Value} {v:List QB} {dep fuel size:Nat} {r:Except Mar.Fault (α×ESt)} {V:α→Value} {en:Ending} {u':World} (h:Q1A w D Fr nsl v dep fuel size r V en u'):Q5c w (fun Fr e u=>∃ osl,Q04 w D Fr nsl v dep fuel size e osl u) Fr r V en u':=by
 rcases h with ⟨a,d',osl,h1,h2,h3⟩ | h
 ·exact Or.inl ⟨a,d',h1,h2,osl,h3⟩
 ·exact Or.inr h
def encZ {w:World} {bs:List (Nat×Obj)} (hw:∀ p∈bs,w.heap[p.1]? = some p.2) (D:Nat) (nsl:Value) (v:List QB) (dep fuel size:Nat):Wkr ESt w bs where
 W:=encW v dep fuel size
 T:=133
 D:=D
 J:=fun Fr e u=>∃ osl,Q04 w D Fr nsl v dep fuel size e osl u
 base:=by
  rintro Fr d u ⟨osl,h⟩
  exact ⟨_,_,h.own,fun hk hM ho=>⟨osl,h.beside hk hM ho⟩⟩
 fE:=239
 fN:=310
 fT:=311
 fL:=309
 fA:=308
 mE:=fun _ _=>by kernel_rfl
 mN:=fun _ _=>by kernel_rfl
 mT:=fun _ _=>by kernel_rfl
 mL:=fun _ _=>by kernel_rfl
 mA:=fun _ _=>by kernel_rfl
 eE:=fun _ _=>by kernel_rfl
 eN:=fun _ _=>by kernel_rfl
 eT:=fun _ _=>by kernel_rfl
 eL:=fun _ _=>by kernel_rfl
 eA:=fun _ _=>by kernel_rfl
 cE:=by
  rintro Fr d u k hk ⟨osl,h⟩
  exact (Qhs k (by omega) h).mono fun e u'=>Qb0
 cN:=by
  rintro Fr d u cs n hN ⟨osl,h⟩
  exact (Qfj hN hw h).mono fun e u'=>Qb0
 cT:=by
  rintro Fr d u n f h0 h1 ⟨osl,h⟩
  exact (Qje n f h0 h1 h).mono fun e u'=>Qb0
 cL:=by
  rintro Fr d u n f h0 h1 ⟨osl,h⟩
  exact (Qjf n f h0 h1 h).mono fun e u'=>Qb0
 cA:=by
  rintro Fr d u cs n m ws ov o hN hm ho nd ⟨osl,h⟩
  exact (Qlx hN hm ho nd hw h).mono fun e u'=>Qb0
 small:=Qjg
theorem Q04.fresh {w u:World} (hk:Qb [] w u) {nsl:Value} {v:List QB} (hn:Q23 w nsl v) {dep fuel size:Nat} (hl:size≤100000∧fuel≤10000):Q04 w u.heap.size [] nsl v dep fuel size ⟨0,[]⟩ (.slice none 0 0) (u.alloc (.cells #[nsl,.int .i64 0,.int .i64 dep,.int .i64 fuel,.int .i64 size,.slice none 0 0] 135)):=by
 refine ⟨⟨hk.alloc _,?_,?_,?_,?_,?_,?_,?_,?_⟩,Qg rfl,⟨rfl,Or.inl ⟨rfl,rfl⟩⟩,hn,by simp,by simp,hl⟩
 ·intro y hy
  simp [Value.ownBlock] at hy
  subst hy
  exact hk.size
 ·intro y hy
  simp [Value.ownBlock] at hy
  subst hy
  simp
 ·simp [Value.ownBlock]
 ·intro p hp;cases hp
 ·intro p hp;cases hp
 ·simp
 ·intro p hp;cases hp
 ·intro p hp;cases hp
theorem Qht {w u:World} {D:Nat} {Fr:List (Nat×Obj)} {nsl:Value} {v:List QB} {dep fuel size:Nat} {e:ESt} {osl:Value} (h:Q04 w D Fr nsl v dep fuel size e osl u) (u':World) (hk:Qb [] u u'):(convert 90 9 osl).run Tryz.prog u' = .ok (.string ⟨e.out.toArray⟩) u':=by
 have hrow:=Qt h.row hk (by simp)
 rcases hrow.2 with ⟨rfl,h0⟩ | ⟨g,cap,cur,rfl,h1,h2,h3,h4,h5,h6⟩
 ·have he:e.out=[]:=List.length_eq_zero_iff.1 h0
  rw [he,run_convert_bytes_string u' 90 9 5 none 0 0 Tryz.underlying90 Tryz.underlying5 Tryz.underlying9]
  simp [Conv.bytesToString]
  rfl
 ·refine run_convert_bytes_back u' 90 9 5 ⟨g,0,none⟩ cap e.out Tryz.underlying90 Tryz.underlying5 Tryz.underlying9 fun j hj=>?_
  have hadd:(⟨g,0,none⟩:Addr).add j=⟨g,j,none⟩:=by unfold Addr.add;split<;>simp_all
  rw [hadd]
  exact Qx h2 (xs:=e.out.map Q4t) (by simpa using h6) (by rw [List.getElem?_map,List.getElem?_eq_getElem hj];rfl)
def Q9d (w:World) (r:Except Mar.Fault (List UInt8)) (e:Ending) (u':World):Prop:=
 (∃ b,r = .ok b∧e = .returned (.string ⟨b.toArray⟩)∧Qb [] w u')∨(∃ f,r = .error f∧Qb [] w u'∧Q0l w f.no f.at' e u')
theorem Q9d.throws {w u u':World} {r:Except Mar.Fault (List UInt8)} {f:Mar.Fault} {g:Nat} (hr:r = .error f) (hk:Qb [] w u) (hb:Qb [] u u') (hg:u.heap.size≤g) (hc:u'.heap[g]? = some (.cells #[.int .i64 f.no,.int .i64 f.at'] 83)) :
  Q9d w r (.panicked [{ v:=.iface 79 (.pointer (some ⟨g,0,none⟩)),recovered:=false }]) u':=
 Or.inr ⟨f,hr,hk.trans hb,g,Nat.le_trans hk.size hg,rfl,hc⟩
theorem Qly {w:World} {bs:List (Nat×Obj)} {c:List Qk} {v nsl:Value} {l:List QB} {dep fuel size start N:Nat} {z:Except Mar.Fault ESt} (hc:Q3I bs v c) (hw:∀ p∈bs,w.heap[p.1]? = some p.2) (hg:∀ x∈c,Q2e x) (hfu:fuel≤10000) (hsz:size≤100000) (hn:Q23 w nsl l) (hr:runN (encW l dep fuel size) c N ⟨start,[],[]⟩ ⟨0,[]⟩=some z) :
  Calls Tryz.prog 33 #[v,.int .i64 start,nsl,.agg #[.int .i64 dep,.int .i64 fuel,.int .i64 size]] w (Q9d w (thenE z fun e=>if e.next < l.length then .error ⟨12,e.next⟩ else .ok e.out)):=by
 generalize hR:(thenE z fun e=>if e.next < l.length then Except.error ⟨12,e.next⟩ else .ok e.out)=R
 obtain ⟨ad,cap,rfl,hlc,hcm,_⟩:=id hn
 have HC:=Hid.mk hc
 have HW:=Hid.mk hw
 have HG:=Hid.mk hg
 have HR:=Hid.mk hr
 have hR':=Hid.mk hR
 have J0:Hid (∀ o1,(encZ HW.out (w.heap.size + 1) (.slice ad l.length cap) l dep fuel size).J [] ⟨0,[]⟩ ((w.alloc o1).alloc (.cells #[.slice ad l.length cap,.int .i64 0,.int .i64 dep,.int .i64 fuel,.int .i64 size,.slice none 0 0] 135))):=by
  intro o1
  have h:=Q04.fresh (u:=w.alloc o1) ((Qb.refl [] w).alloc o1) hn (dep:=dep) (fuel:=fuel) (size:=size) ⟨hsz,hfu⟩
  have e:(w.alloc o1).heap.size=w.heap.size + 1:=by simp
  rw [e] at h
  exact ⟨_,h⟩
 clear hc hw hg hr hR hn
 go_enter Tryz.func33,Tryz.ntmps33
 go_wp2_with fail
 refine (QfO (Z:=encZ HW.out (w.heap.size + 1) (.slice ad l.length cap) l dep fuel size) (Fr:=[]) (d:=⟨0,[]⟩) HC.out HW.out HG.out (J0.out _) HR.out).mono ?_
 rintro e w2 (⟨_,e2,hx,rfl,osl,M2⟩ | ⟨f,hx,hk,g,hg,rfl,hc⟩)
 rotate_left
 ·exact Qa (Or.inr ⟨f,by rw [← hR'.out,Q5L hx];rfl,hk,g,hg,rfl,hc⟩)
 have E0:Hid (R=if e2.next < l.length then Except.error ⟨12,e2.next⟩ else .ok e2.out):=by show _=_;rw [← hR'.out,Q6G hx];rfl
 obtain ⟨c0,c1,c2,c3,c4,c5,hfz,hlt⟩:=Q10 M2.box
 have hcv:=Qht M2 w2 (Qb.refl [] _)
 have hf2:=M2.few
 have H2:=Hid.mk M2.own.kp
 clear M2 hx J0 hR'
 by_cases ht:e2.next < l.length
 ·have E:Hid (R = .error ⟨12,e2.next⟩):=by show _=_;rw [E0.out,if_pos ht]
  have hti:(e2.next:Int) < (l.length:Int):=by omega
  clear E0
  go_wp2_with (go_at_call 47;refine (Q09 _ _ _).mono ?_;rintro e w' ⟨rfl,rfl⟩)
  exact Qa (Q9d.throws (f:=⟨12,e2.next⟩) E.out H2.out ((Qb.refl [] _).alloc _) (Nat.le_refl _) (Qg rfl))
 ·have E:Hid (R = .ok e2.out):=by show _=_;rw [E0.out,if_neg ht]
  have hti:(l.length:Int)≤(e2.next:Int):=by omega
  clear E0 ht
  go_wp2
  go_ret
  exact Or.inl ⟨_,E.out,rfl,H2.out⟩
theorem Q23.keeps {w w':World} {nsl:Value} {v:List QB} (h:Q23 w nsl v) (hk:Qb [] w w'):Q23 w' nsl v:=by
 obtain ⟨ad,cap,h1,h2,h3,h4⟩:=h
 refine ⟨ad,cap,h1,h2,h3,fun k x hx=>?_⟩
 obtain ⟨g,o,e1,⟨n0,n1,n2,n3,n4⟩⟩:=h4 k x hx
 have hb:∀ i,w'.cell? ⟨g,i,none⟩=w.cell? ⟨g,i,none⟩:=fun i=>World.cell?_of_block (hk.block g (Q1e n0) (by simp))
 exact ⟨g,o,e1,⟨(hb _).trans n0,(hb _).trans n1,(hb _).trans n2,(hb _).trans n3,(hb _).trans n4⟩⟩
theorem QbS (p q:Addr) (w:World) :
  CallsD Tryz.prog 31 #[.pointer (some p),.pointer (some q)] .returning w fun e u' w'=>e = .returned (.tuple #[])∧u' = .returning∧w'=w:=by
 have hn:=Q7g
 refine callsD_of_wpS Tryz.func31 rfl fun c₀ cs hu=>?_
 apply wpS_seq
 apply wpS_region
 simp [wpOpsS,go_sem,recoverD,hu,Tryz.ntmps31,Exit.thenS]
 apply wpS_seq
 apply wpS_region
 simp [wpOpsS,go_sem,Exit.thenS,hn]
 refine wpS_cond (t:=false) (by simp [Act.eval,Array.replicate]) ?_
 simp only [Bool.false_eq_true,if_false]
 refine wpS_of_wp (wp_skip ?_)
 cases c₀
 simp_all [bodyPostS,results,Tryz.results31]
theorem Qfk (P Q b:Nat) (x y:Value) (older:List PanicEntry) (w:World) (h1:w.cell? ⟨P,0,none⟩=some x) (h2:w.cell? ⟨Q,0,none⟩=some y) (f1:w.frozen? ⟨P,0,none⟩=false) (f2:w.frozen? ⟨Q,0,none⟩=false) (hne:P≠Q) :
  CallsD Tryz.prog 31 #[.pointer (some ⟨P,0,none⟩),.pointer (some ⟨Q,0,none⟩)] (.panicking ({ v:=.iface 79 (.pointer (some ⟨b,0,none⟩)),recovered:=false } :: older)) w fun e u' w'=>
   e = .returned (.tuple #[])∧u' = .panicking ({ v:=.iface 79 (.pointer (some ⟨b,0,none⟩)),recovered:=true } :: older)∧w'=(w.setCell ⟨P,0,none⟩ (.string ⟨#[]⟩)).setCell ⟨Q,0,none⟩ (.iface 79 (.pointer (some ⟨b,0,none⟩))):=by
 have hn:=QfL 79
 refine callsD_of_wpS Tryz.func31 rfl fun c₀ cs hu=>?_
 apply wpS_seq
 apply wpS_region
 simp [wpOpsS,go_sem,recoverD,hu,Tryz.ntmps31,Exit.thenS]
 apply wpS_seq
 apply wpS_region
 simp [wpOpsS,go_sem,Exit.thenS,hn]
 refine wpS_cond (t:=true) (by simp [Act.eval,Array.replicate]) ?_
 simp only [if_true]
 refine wpS_of_wp ?_
 go_wp2_with fail
 refine (Qaz b w).mono ?_
 rintro e w2 ⟨rfl,rfl⟩
 go_wp2
 cases c₀
 simp_all [bodyPostS,results,Tryz.results31]
def Q9e (w:World) (s:Except Nat Nat) (r:Except Mar.Fault (List UInt8)) (e:Ending) (u':World):Prop:=Qb [] w u' ∧
 ((∃ k,s = .error k∧e = .returned (.tuple #[.string ⟨#[]⟩,.iface 50 (.int .i64 k)])) ∨
  (∃ p b,s = .ok p∧r = .ok b∧e = .returned (.tuple #[.string ⟨b.toArray⟩,.nilIface])) ∨
  (∃ p f g,s = .ok p∧r = .error f∧e = .returned (.tuple #[.string ⟨#[]⟩,.iface 79 (.pointer (some ⟨g,0,none⟩))])∧w.heap.size≤g∧u'.heap[g]? = some (.cells #[.int .i64 f.no,.int .i64 f.at'] 83)))
theorem Qfl {w:World} {B S P:Nat} {dsl v:Value} {places:List (List UInt8×Nat)} (hB:w.heap[B]? = some (.cells #[dsl,v,.map (some S),.map (some P)] 70)) (hS:w.heap[S]? = some (Q0E places)) (nd:(places.map (·.1)).Nodup) (n:List UInt8) (nsl:Value) (dep fuel size:Int) {k:Nat} (hs:Q1m places n dep fuel size = .error k) (r:Except Mar.Fault (List UInt8)) :
  Calls Tryz.prog 16 #[.pointer (some ⟨B,0,none⟩),.string ⟨n.toArray⟩,nsl,.agg #[.int .i64 dep,.int .i64 fuel,.int .i64 size]] w (Q9e w (.error k) r):=by
 have hmf:∀ (fn:Fn) (first cap:Array Value) (w:World),(Instr.makeFunc fn first cap).run Tryz.prog w = .ok (.func fn first cap) w:=fun _ _ _ _=>rfl
 have hnq:=neqE
 have hb0:Below w.heap.size w (((w.alloc (.cells #[.int .i64 dep,.int .i64 fuel,.int .i64 size] 33)).alloc (.cells #[.string ⟨#[]⟩] 9)).alloc (.cells #[.nilIface] 24)):=(((Below.refl _ _).alloc (Nat.le_refl _) _).alloc (by simp) _).alloc (by simp;omega) _
 have VS:=Hid.mk (Q98 ((hb0.block _ (Qc hB)).trans hB) ((hb0.block _ (Qc hS)).trans hS) nd n dep fuel size)
 rw [hs] at VS
 have o1:(((w.alloc (.cells #[.int .i64 dep,.int .i64 fuel,.int .i64 size] 33)).alloc (.cells #[.string ⟨#[]⟩] 9)).alloc (.cells #[.nilIface] 24)).heap[w.heap.size + 1]? = some (.cells #[.string ⟨#[]⟩] 9):=(Below.heap_alloc _ _ _ (by simp)).trans (Qg (by simp))
 have o2:(((w.alloc (.cells #[.int .i64 dep,.int .i64 fuel,.int .i64 size] 33)).alloc (.cells #[.string ⟨#[]⟩] 9)).alloc (.cells #[.nilIface] 24)).heap[w.heap.size + 1 + 1]? = some (.cells #[.nilIface] 24):=Qg (by simp)
 clear hB hS hs
 go_enter_defers Tryz.func16,Tryz.ntmps16
 go_wp2_with fail
 refine VS.out.mono ?_
 rintro e w1 ⟨rfl,hb1⟩
 have p1:=(hb1.block _ (Qc o1)).trans o1
 have p2:=(hb1.block _ (Qc o2)).trans o2
 have c1:=Qq p1
 have c2:=Qq p2
 have f1:∀ i,w1.frozen? ⟨w.heap.size + 1,i,none⟩=false:=by intro i;simp [World.frozen?,p1]
 have f2:∀ i,w1.frozen? ⟨w.heap.size + 1 + 1,i,none⟩=false:=by intro i;simp [World.frozen?,p2]
 have l2:=Qc p2
 have K1:=Hid.mk (hb0.trans (hb1.mono hb0.size))
 clear hb1 VS o1 o2 hb0
 unfold Q8N
 go_wp2
 have q1:∀ x,(w1.setCell ⟨w.heap.size + 1 + 1,0,none⟩ x).heap[w.heap.size + 1]? = some (.cells #[.string ⟨#[]⟩] 9):=fun x=>(Below.heap_setCell _ _ _ _ (by simp)).trans p1
 have q2:∀ x,(w1.setCell ⟨w.heap.size + 1 + 1,0,none⟩ x).heap[w.heap.size + 1 + 1]? = some (.cells #[x] 24):=fun x=>Qo (i:=0) p2 x
 have r1:∀ x y,((w1.setCell ⟨w.heap.size + 1 + 1,0,none⟩ x).setCell ⟨w.heap.size + 1,0,none⟩ y).heap[w.heap.size + 1]? = some (.cells #[y] 9):=fun x y=>Qo (i:=0) (q1 x) y
 have r2:∀ x y,((w1.setCell ⟨w.heap.size + 1 + 1,0,none⟩ x).setCell ⟨w.heap.size + 1,0,none⟩ y).heap[w.heap.size + 1 + 1]? = some (.cells #[x] 24):=fun x y=>(Below.heap_setCell _ _ _ _ (by simp)).trans (q2 x)
 have c1':=fun x=>Qq (q1 x)
 have c2':=fun x=>Qq (q2 x)
 have c1'':=fun x y=>Qq (r1 x y)
 have c2'':=fun x y=>Qq (r2 x y)
 have f1':∀ x i,(w1.setCell ⟨w.heap.size + 1 + 1,0,none⟩ x).frozen? ⟨w.heap.size + 1,i,none⟩=false:=by intro x i;simp [World.frozen?,q1 x]
 have f2':∀ x y i,((w1.setCell ⟨w.heap.size + 1 + 1,0,none⟩ x).setCell ⟨w.heap.size + 1,0,none⟩ y).frozen? ⟨w.heap.size + 1 + 1,i,none⟩=false:=by intro x y i;simp [World.frozen?,r2 x y]
 have z1:∀ x y z,(((w1.setCell ⟨w.heap.size + 1 + 1,0,none⟩ x).setCell ⟨w.heap.size + 1,0,none⟩ y).setCell ⟨w.heap.size + 1 + 1,0,none⟩ z).cell? ⟨w.heap.size + 1,0,none⟩=some y:=fun x y z=>Qq ((Below.heap_setCell _ _ _ _ (by simp)).trans (r1 x y))
 have z2:∀ x y z,(((w1.setCell ⟨w.heap.size + 1 + 1,0,none⟩ x).setCell ⟨w.heap.size + 1,0,none⟩ y).setCell ⟨w.heap.size + 1 + 1,0,none⟩ z).cell? ⟨w.heap.size + 1 + 1,0,none⟩=some z:=fun x y z=>Qq (Qo (i:=0) (r2 x y) z)
 have HK:Hid (∀ x y z,Qb [] w (((w1.setCell ⟨w.heap.size + 1 + 1,0,none⟩ x).setCell ⟨w.heap.size + 1,0,none⟩ y).setCell ⟨w.heap.size + 1 + 1,0,none⟩ z).drew):=fun x y z=>((((Qb.of_below [] K1.out).setNew (p:=⟨w.heap.size + 1 + 1,0,none⟩) (by simp;omega) x).setNew (p:=⟨w.heap.size + 1,0,none⟩) (by simp) y).setNew (p:=⟨w.heap.size + 1 + 1,0,none⟩) (by simp;omega) z).drew
 have Z1:=Hid.mk z1
 have Z2:=Hid.mk z2
 clear p1 p2 q1 q2 r1 r2 z1 z2
 go_region
 go_wp2
 refine leaves_cons (f:=31) (args:=#[.pointer (some ⟨w.heap.size + 1,0,none⟩),.pointer (some ⟨w.heap.size + 1 + 1,0,none⟩)]) (by simp) (by simp [go_sem]) ?_
 refine (QbS _ _ _).mono ?_
 rintro e u' w'' ⟨rfl,rfl,rfl⟩
 simp only [Leaves,settle]
 refine ⟨.tuple #[.string ⟨#[]⟩,.iface 50 (.int .i64 k)],by simp [results,Tryz.results16,go_sem,Z1.out,Z2.out],?_⟩
 exact ⟨HK.out _ _ _,Or.inl ⟨k,rfl,rfl⟩⟩
theorem Q4T {R:Ending→World→Prop} {ch:List PanicEntry} {i:Nat} {v:Value} {a:Act} {w:World} (h8:i≠8) (h9:i≠9) (h:bodyPostD Tryz.prog Tryz.f16 R (.panic ch) (a.put (some i) v) w):bodyPostD Tryz.prog Tryz.f16 R (.panic ch) a w:=by
 have e:results Tryz.f16 (a.put (some i) v).tmps=results Tryz.f16 a.tmps:=by
  have g8:(a.put (some i) v).tmps[8]?.getD undef=a.tmps[8]?.getD undef:=by simp [Act.put,Array.getElem?_setIfInBounds,h8]
  have g9:(a.put (some i) v).tmps[9]?.getD undef=a.tmps[9]?.getD undef:=by simp [Act.put,Array.getElem?_setIfInBounds,h9]
  simp only [results,Tryz.results16]
  simp [g8,g9]
 exact Q9u e _ _ _ h
theorem Qhu {w w2:World} {r:Except Mar.Fault (List UInt8)} {p g:Nat} {f:Mar.Fault} {tm:Array Value} (hk:Qb [] w w2) (x1:w2.heap[w.heap.size + 1]? = some (.cells #[.string ⟨#[]⟩] 9)) (x2:w2.heap[w.heap.size + 1 + 1]? = some (.cells #[.nilIface] 24)) (t8:tm.getD 8 undef = .pointer (some ⟨w.heap.size + 1,0,none⟩)) (t9:tm.getD 9 undef = .pointer (some ⟨w.heap.size + 1 + 1,0,none⟩)) (hg:w.heap.size + 1 + 1 < g) (hc:w2.heap[g]? = some (.cells #[.int .i64 f.no,.int .i64 f.at'] 83)) (hr:r = .error f) :
  bodyPostD Tryz.prog Tryz.f16 (Q9e w (.ok p) r) (.panic [{ v:=.iface 79 (.pointer (some ⟨g,0,none⟩)),recovered:=false }]) { tmps:=tm,defers:=[{ target:=.fn (.func 31) #[.pointer (some ⟨w.heap.size + 1,0,none⟩),.pointer (some ⟨w.heap.size + 1 + 1,0,none⟩)],args:=#[] }] } w2:=by
 have f1:w2.frozen? ⟨w.heap.size + 1,0,none⟩=false:=by simp [World.frozen?,x1]
 have f2:w2.frozen? ⟨w.heap.size + 1 + 1,0,none⟩=false:=by simp [World.frozen?,x2]
 refine leaves_cons (f:=31) (args:=#[.pointer (some ⟨w.heap.size + 1,0,none⟩),.pointer (some ⟨w.heap.size + 1 + 1,0,none⟩)]) (by simp) (by simp [go_sem]) ?_
 refine (Qfk _ _ g _ _ [] w2 (Qq x1) (Qq x2) f1 f2 (by simp)).mono ?_
 rintro e u' w'' ⟨rfl,rfl,rfl⟩
 have r1:=Qo (i:=0) x1 (.string ⟨#[]⟩)
 have r2:(w2.setCell ⟨w.heap.size + 1,0,none⟩ (.string ⟨#[]⟩)).heap[w.heap.size + 1 + 1]? = _:=(Below.heap_setCell _ _ _ _ (by simp)).trans x2
 have z1:=Qq ((Below.heap_setCell _ ⟨w.heap.size + 1 + 1,0,none⟩ (.iface 79 (.pointer (some ⟨g,0,none⟩))) _ (by simp)).trans r1)
 have z2:=Qq (Qo (i:=0) r2 (.iface 79 (.pointer (some ⟨g,0,none⟩))))
 simp only [Leaves,settle,List.dropWhile_nil]
 rw [Array.getD_eq_getD_getElem?] at t8 t9
 refine ⟨.tuple #[.string ⟨#[]⟩,.iface 79 (.pointer (some ⟨g,0,none⟩))],by simp [results,Tryz.results16,go_sem,t8,t9,z1,z2],?_⟩
 refine ⟨(hk.setNew (p:=⟨w.heap.size + 1,0,none⟩) (by simp) _).setNew (p:=⟨w.heap.size + 1 + 1,0,none⟩) (by simp;omega) _,Or.inr (Or.inr ⟨p,f,g,rfl,hr,rfl,by omega,?_⟩)⟩
 exact (Below.heap_setCell _ _ _ _ (by simp;omega)).trans ((Below.heap_setCell _ _ _ _ (by simp;omega)).trans hc)
theorem Qfm {w:World} {bs:List (Nat×Obj)} {B S P:Nat} {dsl v:Value} {c:List Qk} {places:List (List UInt8×Nat)} (hB:(B,Obj.cells #[dsl,v,.map (some S),.map (some P)] 70)∈bs) (hS:(S,Q0E places)∈bs) (nd:(places.map (·.1)).Nodup) (hc:Q3I bs v c) (hw:∀ p∈bs,w.heap[p.1]? = some p.2) (hg:∀ x∈c,Q2e x) (n:List UInt8) {nsl:Value} {l:List QB} (hn:Q23 w nsl l) (dep fuel size p N:Nat) (hs:Q1m places n dep fuel size = .ok p) (hdp:dep≤64) (hfu:fuel≤10000) (hsz:size≤100000) {z:Except Mar.Fault ESt} (hr:runN (encW l dep fuel size) c N ⟨p,[],[]⟩ ⟨0,[]⟩=some z) :
  Calls Tryz.prog 16 #[.pointer (some ⟨B,0,none⟩),.string ⟨n.toArray⟩,nsl,.agg #[.int .i64 dep,.int .i64 fuel,.int .i64 size]] w (Q9e w (.ok p) (thenE z fun e=>if e.next < l.length then .error ⟨12,e.next⟩ else .ok e.out)):=by
 generalize hR:(thenE z fun e=>if e.next < l.length then Except.error ⟨12,e.next⟩ else .ok e.out)=R
 have hmf:∀ (fn:Fn) (first cap:Array Value) (w:World),(Instr.makeFunc fn first cap).run Tryz.prog w = .ok (.func fn first cap) w:=fun _ _ _ _=>rfl
 have hnq:=Q44
 obtain ⟨va,vb,vc,rfl⟩:=hc.slice
 have hb0:Below w.heap.size w (((w.alloc (.cells #[.int .i64 dep,.int .i64 fuel,.int .i64 size] 33)).alloc (.cells #[.string ⟨#[]⟩] 9)).alloc (.cells #[.nilIface] 24)):=(((Below.refl _ _).alloc (Nat.le_refl _) _).alloc (by simp) _).alloc (by simp;omega) _
 have VS:=Hid.mk (Q98 ((hb0.block _ (Qc (hw _ hB))).trans (hw _ hB)) ((hb0.block _ (Qc (hw _ hS))).trans (hw _ hS)) nd n dep fuel size)
 rw [hs] at VS
 have o0:(((w.alloc (.cells #[.int .i64 dep,.int .i64 fuel,.int .i64 size] 33)).alloc (.cells #[.string ⟨#[]⟩] 9)).alloc (.cells #[.nilIface] 24)).heap[w.heap.size]? = some (.cells #[.int .i64 dep,.int .i64 fuel,.int .i64 size] 33):=(Below.heap_alloc _ _ _ (by simp;omega)).trans ((Below.heap_alloc _ _ _ (by simp)).trans (Qg rfl))
 have o1:(((w.alloc (.cells #[.int .i64 dep,.int .i64 fuel,.int .i64 size] 33)).alloc (.cells #[.string ⟨#[]⟩] 9)).alloc (.cells #[.nilIface] 24)).heap[w.heap.size + 1]? = some (.cells #[.string ⟨#[]⟩] 9):=(Below.heap_alloc _ _ _ (by simp)).trans (Qg (by simp))
 have o2:(((w.alloc (.cells #[.int .i64 dep,.int .i64 fuel,.int .i64 size] 33)).alloc (.cells #[.string ⟨#[]⟩] 9)).alloc (.cells #[.nilIface] 24)).heap[w.heap.size + 1 + 1]? = some (.cells #[.nilIface] 24):=Qg (by simp)
 have HC:=Hid.mk hc
 have HW:=Hid.mk hw
 have HG:=Hid.mk hg
 have HR:=Hid.mk hr
 have ER:=Hid.mk hR
 have HBm:=Hid.mk hB
 have HN:=Hid.mk hn
 clear hS hs hc hw hg hr hR hB hn
 go_enter_defers Tryz.func16,Tryz.ntmps16
 go_wp2_with fail
 refine VS.out.mono ?_
 rintro e w1 ⟨rfl,hb1⟩
 have K1:=Hid.mk (hb0.trans (hb1.mono hb0.size))
 have p2:=(hb1.block _ (Qc o2)).trans o2
 have c2:=Qq p2
 have f2:∀ i,w1.frozen? ⟨w.heap.size + 1 + 1,i,none⟩=false:=by intro i;simp [World.frozen?,p2]
 have x0:(w1.setCell ⟨w.heap.size + 1 + 1,0,none⟩ .nilIface).heap[w.heap.size]? = _:=(Below.heap_setCell _ _ _ _ (by simp;omega)).trans ((hb1.block _ (Qc o0)).trans o0)
 have x1:(w1.setCell ⟨w.heap.size + 1 + 1,0,none⟩ .nilIface).heap[w.heap.size + 1]? = _:=(Below.heap_setCell _ _ _ _ (by simp)).trans ((hb1.block _ (Qc o1)).trans o1)
 have x2:(w1.setCell ⟨w.heap.size + 1 + 1,0,none⟩ .nilIface).heap[w.heap.size + 1 + 1]? = _:=Qo (i:=0) p2 .nilIface
 have KX:=Hid.mk ((hb0.trans (hb1.mono hb0.size)).setCell (p:=⟨w.heap.size + 1 + 1,0,none⟩) (by simp;omega) .nilIface)
 clear hb1 hb0 o0 o1 o2 p2 VS
 unfold Q8N
 generalize hX:w1.setCell ⟨w.heap.size + 1 + 1,0,none⟩ .nilIface=X at x0 x1 x2 KX
 obtain ⟨e0,e1,e2,ef,el⟩:=Q2f x0
 have y1:=Qq x1
 have y2:=Qq x2
 have g1:∀ i,X.frozen? ⟨w.heap.size + 1,i,none⟩=false:=by intro i;simp [World.frozen?,x1]
 have g2:∀ i,X.frozen? ⟨w.heap.size + 1 + 1,i,none⟩=false:=by intro i;simp [World.frozen?,x2]
 have xw:Hid (∀ p∈bs,X.drew.heap[p.1]? = some p.2):=fun p hp=>(KX.out.block _ (Qc (HW.out p hp))).trans (HW.out p hp)
 obtain ⟨d0,d1,d2,df,dl⟩:=Q4C ((KX.out.block _ (Qc (HW.out _ HBm.out))).trans (HW.out _ HBm.out))
 have VV:=Hid.mk (Qly HC.out xw.out HG.out hfu hsz (HN.out.keeps ((Qb.of_below [] KX.out).drew)) HR.out)
 rw [ER.out] at VV
 have hBl:=Qc (HW.out _ HBm.out)
 simp only at hBl
 have hBn:B≠w.heap.size + 1:=by omega
 have X0:=Hid.mk x0
 have X1:=Hid.mk x1
 have X2:=Hid.mk x2
 have XB:=Hid.mk (xw.out _ HBm.out)
 have hxs:=Qc x2
 clear x0 x1 x2
 go_wp2_with fail
 clear hX
 refine QD (fun w'=>w'.cell? ⟨B,1,none⟩=some (.slice va vb vc)∧w'.cell? ⟨w.heap.size,0,none⟩=some (.int .i64 dep)∧w'.cell? ⟨w.heap.size,1,none⟩=some (.int .i64 fuel)∧w'.cell? ⟨w.heap.size,2,none⟩=some (.int .i64 size)) (L:=10) (by kernel_rfl) rfl (by kernel_rfl) (by kernel_rfl) ?_ (fun hHeld=>?_)
 ·go_keep
 refine tk (i:=0) (v:=?_) rfl (by kernel_rfl) (fun _ _ _ h=>Q4T (by decide) (by decide) h) (by rfl) (by assumption) ?_ ?_
 rotate_left
 ·intro w hSw;(try dsimp only at hSw);go_simp;(try with_reducible rfl)
 (try simp only [Qd,Qe,List.set])
 refine tk (i:=1) (v:=?_) rfl (by kernel_rfl) (fun _ _ _ h=>Q4T (by decide) (by decide) h) (by rfl) (by assumption) ?_ ?_
 rotate_left
 ·intro w hSw;(try dsimp only at hSw);go_simp;(try with_reducible rfl)
 (try simp only [Qd,Qe,List.set])
 refine tk (i:=2) (v:=?_) rfl (by kernel_rfl) (fun _ _ _ h=>Q4T (by decide) (by decide) h) (by rfl) (by assumption) ?_ ?_
 rotate_left
 ·intro w hSw;(try dsimp only at hSw);go_simp;(try with_reducible rfl)
 (try simp only [Qd,Qe,List.set])
 refine tk (i:=3) (v:=?_) rfl (by kernel_rfl) (fun _ _ _ h=>Q4T (by decide) (by decide) h) (by rfl) (by assumption) ?_ ?_
 rotate_left
 ·intro w hSw;(try dsimp only at hSw);go_simp;(try with_reducible rfl)
 (try simp only [Qd,Qe,List.set])
 refine tk (i:=4) (v:=?_) rfl (by kernel_rfl) (fun _ _ _ h=>Q4T (by decide) (by decide) h) (by rfl) (by assumption) ?_ ?_
 rotate_left
 ·intro w hSw;(try dsimp only at hSw);go_simp;(try with_reducible rfl)
 (try simp only [Qd,Qe,List.set])
 refine tk (i:=5) (v:=?_) rfl (by kernel_rfl) (fun _ _ _ h=>Q4T (by decide) (by decide) h) (by rfl) (by assumption) ?_ ?_
 rotate_left
 ·intro w hSw;(try dsimp only at hSw);go_simp;(try with_reducible rfl)
 (try simp only [Qd,Qe,List.set])
 refine tk (i:=6) (v:=?_) rfl (by kernel_rfl) (fun _ _ _ h=>Q4T (by decide) (by decide) h) (by rfl) (by assumption) ?_ ?_
 rotate_left
 ·intro w hSw;(try dsimp only at hSw);go_simp;(try with_reducible rfl)
 (try simp only [Qd,Qe,List.set])
 refine tk (i:=7) (v:=?_) rfl (by kernel_rfl) (fun _ _ _ h=>Q4T (by decide) (by decide) h) (by rfl) (by assumption) ?_ ?_
 rotate_left
 ·intro w hSw;(try dsimp only at hSw);go_simp;(try with_reducible rfl)
 (try simp only [Qd,Qe,List.set])
 refine wpAnyH_ready (rs:=[8]) (by kernel_rfl) (by simp) ?_
 refine AllReadyH.cons rfl (fun K hK=>?_) AllReadyH.nil
 (go_simp;go_at_call 33;refine VV.out.mono ?_;rintro e w2 (⟨b,hx,rfl,hk⟩ | ⟨f,hx,hk,g,hg,rfl,hc⟩);rotate_left;exact Qhu ((Qb.of_below [] KX.out).drew.trans hk) ((hk.block _ (Qc X1.out) (by simp)).trans X1.out) ((hk.block _ (Qc X2.out) (by simp)).trans X2.out) rfl rfl (Nat.lt_of_lt_of_le hxs hg) hc hx;have n1:=(hk.block _ (Qc X1.out) (by simp)).trans X1.out;have n2:=(hk.block _ (Qc X2.out) (by simp)).trans X2.out;have n0:=(hk.block _ (Qc X0.out) (by simp)).trans X0.out;have nB:=(hk.block _ (Qc XB.out) (by simp)).trans XB.out;obtain ⟨e0,e1,e2,ef,el⟩:=Q2f n0;obtain ⟨d0,d1,d2,df,dl⟩:=Q4C nB;have y1:=Qq n1;have y2:=Qq n2;have g1:∀ i,w2.frozen? ⟨w.heap.size + 1,i,none⟩=false:=(by intro i;simp [World.frozen?,n1]);have g2:∀ i,w2.frozen? ⟨w.heap.size + 1 + 1,i,none⟩=false:=(by intro i;simp [World.frozen?,n2]);have N1:=Hid.mk n1;have N2:=Hid.mk n2;have HK:=Hid.mk ((Qb.of_below [] KX.out).drew.trans hk);have HX:=Hid.mk hx;have kB:∀ y,(w2.setCell ⟨w.heap.size + 1,0,none⟩ y).cell? ⟨B,1,none⟩=some (.slice va vb vc):=(fun y=>(Q4C ((Below.heap_setCell _ _ _ _ (by simp only;omega)).trans nB)).2.1);clear n0 n1 n2 nB hk hx)
 refine hK.out _ _ ?_ (fun hHeld=>?_)
 ·go_keep
 clear hK K
 (try simp only [Qd,Qe,List.set])
 refine wpAnyH_ready (rs:=[9]) (by kernel_rfl) (by simp) ?_
 refine AllReadyH.cons rfl (fun K hK=>?_) AllReadyH.nil
 go_simp
 refine hK.out _ _ ?_ (fun hHeld=>?_)
 ·go_keep
 clear hK K
 (try simp only [Qd,Qe,List.set])
 refine wpAnyH_done (by kernel_rfl) ?_ _
 refine QL rfl (fun K hK=>?_)
 go_simp
 refine hK.out _ _ ?_
 clear hK K
 (try simp only [Qd,Qe,List.set])
 have r1:=Qo (i:=0) N1.out (.string ⟨b.toArray⟩)
 have r2:(w2.setCell ⟨w.heap.size + 1,0,none⟩ (.string ⟨b.toArray⟩)).heap[w.heap.size + 1 + 1]? = _:=(Below.heap_setCell _ _ _ _ (by simp)).trans N2.out
 have z1:=Hid.mk (Qq ((Below.heap_setCell _ ⟨w.heap.size + 1 + 1,0,none⟩ .nilIface _ (by simp)).trans r1))
 have z2:=Hid.mk (Qq (Qo (i:=0) r2 .nilIface))
 clear r1 r2 hHeld
 go_wp2
 refine leaves_cons (f:=31) (args:=#[.pointer (some ⟨w.heap.size + 1,0,none⟩),.pointer (some ⟨w.heap.size + 1 + 1,0,none⟩)]) (by simp) (by simp [go_sem]) ?_
 refine (QbS _ _ _).mono ?_
 rintro e u' w'' ⟨rfl,rfl,rfl⟩
 simp only [Leaves,settle]
 refine ⟨.tuple #[.string ⟨b.toArray⟩,.nilIface],by simp [results,Tryz.results16,go_sem,z1.out,z2.out],?_⟩
 exact ⟨(HK.out.setNew (p:=⟨w.heap.size + 1,0,none⟩) (by simp) _).setNew (p:=⟨w.heap.size + 1 + 1,0,none⟩) (by simp;omega) _,Or.inr (Or.inl ⟨p,b,rfl,HX.out,rfl⟩)⟩
theorem Qjh (v:List QB) (dep fuel size:Nat):(encW v dep fuel size).Fair:=by
 intro n w d k d' h
 obtain ⟨p,h1,h⟩:=Qh h
 obtain ⟨e,_,h⟩:=Qh h
 cases h
 have:=(Q2X h1).2.2
 simp only [Q3a] at this
 cases hw:w p.1.n with
 | none=>simp [hw] at this
 | some q=>rfl
theorem Qji (v:List QB) {dep:Nat} (fuel size:Nat) (hd:dep≤64):∀ k e,64≤k→∃ f,(encW v dep fuel size).enter k e = .error f:=fun _ _ hk=>⟨_,if_pos (by omega)⟩
theorem Qlz {ds:List DefL} (hW:Whole ds) {n:List UInt8} {p:Nat} (hp:QK (Q14 ds).2 n=some p) (v:List QB) {dep:Nat} (fuel size:Nat) (hd:dep≤64):∃ N,runN (encW v dep fuel size) (Q14 ds).1 N ⟨p,[],[]⟩ ⟨0,[]⟩=some (Q0R (encW v dep fuel size) (Q0M ds) 64 0 n ⟨0,[]⟩):=by
 obtain ⟨B,ha,hs⟩:=Qdy hW
 have h:=hs n
 rw [hp] at h
 exact Qbz (Qjh v dep fuel size) (Qji v fuel size hd) ha h.1 h.2.1 h.2.2 _
theorem Qhv {w:World} {bs:List (Nat×Obj)} {B:Nat} {ds:List DefL} (hS:Q1N bs B ds) (hw:∀ p∈bs,w.heap[p.1]? = some p.2) (hW:Whole ds) (hg:∀ x∈(Q14 ds).1,Q2e x) (n:List UInt8) {nsl:Value} {v:List QB} (hn:Q23 w nsl v) (dep fuel size:Int) :
  Calls Tryz.prog 16 #[.pointer (some ⟨B,0,none⟩),.string ⟨n.toArray⟩,nsl,.agg #[.int .i64 dep,.int .i64 fuel,.int .i64 size]] w (Q9e w (Q1m (Q14 ds).2 n dep fuel size) (Q5r (Q0M ds) n v dep.toNat fuel.toNat size.toNat)):=by
 obtain ⟨dsl,ps,cv,S,P,hB,hD,hU⟩:=hS
 have hC:=hU.code
 have hSm:=hU.types
 have nd:=hU.nd
 cases hs:Q1m (Q14 ds).2 n dep fuel size with
 | error k=>exact Qfl (hw _ hB) (hw _ hSm) nd n nsl dep fuel size hs _
 | ok p=>
  obtain ⟨hm,d0,d1,f0,f1,s0,s1⟩:=QbL hs
  obtain ⟨dep,rfl⟩:=Int.eq_ofNat_of_zero_le d0
  obtain ⟨fuel,rfl⟩:=Int.eq_ofNat_of_zero_le f0
  obtain ⟨size,rfl⟩:=Int.eq_ofNat_of_zero_le s0
  obtain ⟨N,hN⟩:=Qlz hW hm v fuel size (dep:=dep) (by omega)
  exact Qfm hB hSm nd hC hw hg n hn dep fuel size p N hs (by omega) (by omega) (by omega) hN
def QfU (w:World) (n:List UInt8) (v:List QB) (dep fuel size:Nat) (e:Ending) (u':World):Prop:=∃ b er,e = .returned (.tuple #[.string ⟨b.toArray⟩,er])∧Qb [] w u' ∧
 ((Q5r (Q0M Q0e) n v dep fuel size = .ok b∧er = .nilIface) ∨
  (∃ f g,Q5r (Q0M Q0e) n v dep fuel size = .error f∧b=[]∧er = .iface 79 (.pointer (some ⟨g,0,none⟩))))
theorem Q9y {w:World} {bs:List (Nat×Obj)} {B:Nat} (hS:Q1N bs B Q0e) (hw:∀ p∈bs,w.heap[p.1]? = some p.2) (c:Int) {nsl:Value} {v:List QB} (hn:Q23 w nsl v) (dep fuel size:Nat) (h1:dep≤64) (h2:fuel≤10000) (h3:size≤100000) :
  Calls Tryz.prog 16 #[.pointer (some ⟨B,0,none⟩),.string ⟨(Q1G c).toArray⟩,nsl,.agg #[.int .i64 dep,.int .i64 fuel,.int .i64 size]] w (QfU w (Q1G c) v dep fuel size):=by
 obtain ⟨p,hp⟩:=QaW c (dep:=dep) (fuel:=fuel) (size:=size) (by omega) (by omega) (by omega) (by omega) (by omega) (by omega)
 refine (Qhv hS hw QaU QbN (Q1G c) hn dep fuel size).mono ?_
 rintro e u' ⟨hk,h⟩
 rw [hp] at h
 simp only [Int.toNat_natCast] at h
 rcases h with ⟨k,h,_⟩ | ⟨p',b,_,h2,rfl⟩ | ⟨p',f,g,_,h2,rfl,h4,h5⟩
 ·cases h
 ·exact ⟨b,.nilIface,rfl,hk,Or.inl ⟨h2,rfl⟩⟩
 ·exact ⟨[],_,rfl,hk,Or.inr ⟨f,g,h2,rfl,rfl⟩⟩
theorem QbT {w:World} {base:Nat} {T:TypeId} {v:Value} {ns:List Q0j} (h:w.ownsRow base T 5 v ns.length (ns.flatMap Q1Y)):Q23 w v (ns.map toG):=by
 obtain ⟨hl,h⟩:=h
 rcases h with ⟨rfl,h0⟩ | ⟨g,cap,cur,rfl,hb,hc,h1,h2,h3,h4⟩
 ·have hn:ns=[]:=by
   cases ns with
   | nil=>rfl
   | cons x xs=>simp at h0
  subst hn
  exact ⟨none,0,rfl,by simp,by simp,fun k x hx=>by simp at hx⟩
 ·refine ⟨some ⟨g,0,none⟩,cap,by simp,by simpa using h1,h2,fun k y hy=>?_⟩
  rw [List.getElem?_map] at hy
  cases hx:ns[k]? with
  | none=>rw [hx] at hy;cases hy
  | some x=>
   rw [hx] at hy
   cases hy
   refine ⟨g,0,rfl,?_⟩
   rw [← hl] at h4
   have key:∀ j,j < 5→∀ v,(Q1Y x)[j]? = some v→w.cell? ⟨g,0 + k * 5 + j,none⟩=some v:=fun j hj v hv=>by
    rw [Nat.zero_add]
    exact Qx hc h4 (by rw [QaX ns k x j hx hj,hv])
   exact ⟨key 0 (by omega) _ rfl,key 1 (by omega) _ rfl,key 2 (by omega) _ rfl,key 3 (by omega) _ rfl,key 4 (by omega) _ rfl⟩
theorem Q9z {w:World} {bs:List (Nat×Obj)} {B:Nat} (hS:Q1N bs B Q0e) (hw:∀ p∈bs,w.heap[p.1]? = some p.2) (c:Int) {nsl:Value} {v:List QB} (hn:Q23 w nsl v) :
  Calls Tryz.prog 16 #[.pointer (some ⟨B,0,none⟩),.string ⟨(Q1G c).toArray⟩,nsl,.agg #[.int .i64 64,.int .i64 10000,.int .i64 100000]] w (QfU w (Q1G c) v 64 10000 100000):=
 Q9y hS hw c hn 64 10000 100000 (by omega) (by omega) (by omega)
theorem Qjj {w:World} (hg:Gl w) (c:Int) (h1:-9223372036854775808≤c) (h2:c≤9223372036854775807) (b:List UInt8) :
  Calls Tryz.prog 5 #[.int .i64 c,.string ⟨b.toArray⟩] w fun e w'=>e = .returned (.bool true)∧Qb [] w w':=by
 have VS:=Hid.mk (Q6I hg)
 have VK:=Hid.mk (Q5M c h1 h2)
 have VW:=Hid.mk Q6J
 have hn1:=neqF
 have hn2:=Q44
 have hn3:=eqlF
 have hn4:=Q6M
 clear hg h1 h2
 by_cases lb:b.length≤4000
 ·have VD:=Hid.mk (fun (w:World) (bs:List (Nat×Obj)) (B:Nat) (hS:Q1N bs B Q0e) (hw:∀ p∈bs,w.heap[p.1]? = some p.2) (b:List UInt8) (hb:b.length≤maxLen)=>Q4o hS hw c b hb)
  have VE:=Hid.mk (fun (w:World) (bs:List (Nat×Obj)) (B:Nat) (hS:Q1N bs B Q0e) (hw:∀ p∈bs,w.heap[p.1]? = some p.2) (nsl:Value) (v:List QB) (hn:Q23 w nsl v)=>Q9z hS hw c hn)
  have HB:Hid (b.length≤maxLen):=Nat.le_trans lb (by decide)
  generalize Q1G c=nm at VK VD VE
  go_enter Tryz.func5,Tryz.ntmps5
  go_wp2_with fail
  refine VS.out.mono ?_
  rintro e w1 ⟨B,bs,rfl,hk,hS,hh,hB⟩
  have HK1:=Hid.mk hk
  have HS:=Hid.mk hS
  have HH:=Hid.mk hh
  clear hk hS hh hB VS
  go_wp2_with fail
  refine (VK.out _).mono ?_
  rintro e w2 ⟨rfl,hb2⟩
  have HK2:=Hid.mk (HK1.out.trans (Qb.of_below [] hb2))
  have HH2:=Hid.mk (QX HH.out (Qb.of_below [] hb2))
  clear hb2 VK HK1 HH
  go_wp2_with fail
  refine (VW.out _).mono ?_
  rintro e w3 ⟨rfl,hb3⟩
  have HK3:=Hid.mk (HK2.out.trans (Qb.of_below [] hb3))
  have HH3:=Hid.mk (QX HH2.out (Qb.of_below [] hb3))
  clear hb3 VW HK2 HH2
  go_wp2_with fail
  refine (VD.out _ bs B HS.out (QX HH3.out ((Qb.refl [] _).alloc _)) b HB.out).mono ?_
  rintro e w4 ⟨u,er,rfl,hk4,hu⟩
  have HK4:=Hid.mk ((HK3.out.alloc _).trans hk4)
  have HH4:=Hid.mk (QX (QX HH3.out ((Qb.refl [] _).alloc _)) hk4)
  obtain ⟨l0,l1,l2,_,_⟩:=Q2f ((hk4.block w3.heap.size (by simp) (by simp)).trans (Qg rfl))
  clear hk4 HK3 HH3 VD
  rcases hu with ⟨ns,e1,e2,e3,rfl,e5⟩ | ⟨f,g,e1,rfl,rfl,e4⟩
  ·obtain ⟨au,cu,rfl⟩:=Q1F e5
   have E:=Q8e Q81 e1
   have VE:=Hid.mk (VE.out _ bs B HS.out HH4.out _ _ (QbT e5))
   clear e1 e2 e3 e5 HH4 HS
   go_wp2_with fail
   refine VE.out.mono ?_
   rintro e w5 ⟨t,es,rfl,hk5,⟨ht,rfl⟩ | ⟨f,g,ht,_,_⟩⟩
   rotate_left
   ·rw [E] at ht;cases ht
   obtain rfl:b=t:=by rw [E] at ht;cases ht;rfl
   have HK5:=Hid.mk (HK4.out.trans hk5)
   clear ht E hk5 HK4 VE l0 l1 l2
   go_wp2
   go_ret
   exact ⟨rfl,HK5.out⟩
  ·clear e1 e4 l0 l1 l2
   go_wp2
   go_ret
   exact ⟨rfl,HK4.out⟩
 ·have lb':(4000:Int) < b.length:=by omega
  go_enter Tryz.func5,Tryz.ntmps5
  go_wp2_with fail
  refine VS.out.mono ?_
  rintro e w1 ⟨B,bs,rfl,hk,hS,hh,hB⟩
  have HK1:=Hid.mk hk
  clear hk hS hh hB VS VK VW
  go_wp2
  go_ret
  exact ⟨rfl,HK1.out⟩
end Go.Proofs.YtmbcibgknckenaaGreatDoor
