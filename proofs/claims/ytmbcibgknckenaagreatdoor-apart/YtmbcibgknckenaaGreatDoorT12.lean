import Derived.Test.YtmbcibgknckenaaGreatDoorT11
import Derived.Deep.RegionHeld2
import Derived.Test.YtmbcibgknckenaaGreatDoorProg
import Derived.KernelRfl
import Derived.Laws.Strings
set_option linter.all false
set_option maxRecDepth 100000
set_option maxHeartbeats 4000000
namespace Go.Proofs.YtmbcibgknckenaaGreatDoor
open Go.RowKit
open Go.MapKept
theorem neqE (x:Value) (w:World):(binOp BinOp.neq 24 (.iface 50 x) .nilIface).run Tryz.prog w = .ok (.bool true) w:=by kernel_rfl
theorem Q44 (w:World):(binOp BinOp.neq 24 .nilIface .nilIface).run Tryz.prog w = .ok (.bool false) w:=by kernel_rfl
theorem QbK (p q:Addr) (w:World) :
  CallsD Tryz.prog 34 #[.pointer (some p),.pointer (some q)] .returning w fun e u' w'=>e = .returned (.tuple #[])∧u' = .returning∧w'=w:=by
 have hn:=Q7g
 refine callsD_of_wpS Tryz.func34 rfl fun c₀ cs hu=>?_
 apply wpS_seq
 apply wpS_region
 simp [wpOpsS,go_sem,recoverD,hu,Tryz.ntmps34,Exit.thenS]
 apply wpS_seq
 apply wpS_region
 simp [wpOpsS,go_sem,Exit.thenS,hn]
 refine wpS_cond (t:=false) (by simp [Act.eval,Array.replicate]) ?_
 simp only [Bool.false_eq_true,if_false]
 refine wpS_of_wp (wp_skip ?_)
 cases c₀
 simp_all [bodyPostS,results,Tryz.results34]
theorem Qfa (P Q b:Nat) (x y:Value) (older:List PanicEntry) (w:World) (h1:w.cell? ⟨P,0,none⟩=some x) (h2:w.cell? ⟨Q,0,none⟩=some y) (f1:w.frozen? ⟨P,0,none⟩=false) (f2:w.frozen? ⟨Q,0,none⟩=false) (hne:P≠Q) :
  CallsD Tryz.prog 34 #[.pointer (some ⟨P,0,none⟩),.pointer (some ⟨Q,0,none⟩)] (.panicking ({ v:=.iface 79 (.pointer (some ⟨b,0,none⟩)),recovered:=false } :: older)) w fun e u' w'=>
   e = .returned (.tuple #[])∧u' = .panicking ({ v:=.iface 79 (.pointer (some ⟨b,0,none⟩)),recovered:=true } :: older)∧w'=(w.setCell ⟨P,0,none⟩ (.slice none 0 0)).setCell ⟨Q,0,none⟩ (.iface 79 (.pointer (some ⟨b,0,none⟩))):=by
 have hn:=QfL 79
 refine callsD_of_wpS Tryz.func34 rfl fun c₀ cs hu=>?_
 apply wpS_seq
 apply wpS_region
 simp [wpOpsS,go_sem,recoverD,hu,Tryz.ntmps34,Exit.thenS]
 apply wpS_seq
 apply wpS_region
 simp [wpOpsS,go_sem,Exit.thenS,hn]
 refine wpS_cond (t:=true) (by simp [Act.eval,Array.replicate]) ?_
 simp only [if_true]
 refine wpS_of_wp ?_
 go_wp2_with fail
 refine (Qaz b w).mono ?_
 rintro e w2 ⟨rfl,rfl⟩
 go_wp2
 cases c₀
 simp_all [bodyPostS,results,Tryz.results34]
theorem Qj2 {w:World} {b b':Nat} {t:TypeId} {sz n:Nat} {v:Value} {xs:List Value} (h:w.ownsRow b t sz v n xs) (hb:b'≤b):w.ownsRow b' t sz v n xs:=by
 refine ⟨h.1,?_⟩
 rcases h.2 with h | ⟨g,cap,cur,h1,h2,h3⟩
 ·exact Or.inl h
 ·exact Or.inr ⟨g,cap,cur,h1,Nat.le_trans hb h2,h3⟩
theorem Q1F {w:World} {b:Nat} {t:TypeId} {sz n:Nat} {v:Value} {xs:List Value} (h:w.ownsRow b t sz v n xs):∃ ad cap,v = .slice ad n cap:=by
 rcases h.2 with ⟨rfl,h0⟩ | ⟨g,cap,cur,rfl,_⟩
 ·exact ⟨none,0,by rw [h0]⟩
 ·exact ⟨_,_,rfl⟩
def Q99 (w:World) (s:Except Nat Nat) (r:Except Mar.Fault (List Q0j)) (e:Ending) (u':World):Prop:=Qb [] w u' ∧
 ((∃ k,s = .error k∧e = .returned (.tuple #[.slice none 0 0,.iface 50 (.int .i64 k)])) ∨
  (∃ p ns v,s = .ok p∧r = .ok ns∧e = .returned (.tuple #[v,.nilIface])∧u'.ownsRow w.heap.size 48 5 v ns.length (ns.flatMap Q1Y)) ∨
  (∃ p f g,s = .ok p∧r = .error f∧e = .returned (.tuple #[.slice none 0 0,.iface 79 (.pointer (some ⟨g,0,none⟩))])∧w.heap.size≤g∧u'.heap[g]? = some (.cells #[.int .i64 f.no,.int .i64 f.at'] 83)))
theorem Qfb {w:World} {B S P:Nat} {dsl v:Value} {places:List (List UInt8×Nat)} (hB:w.heap[B]? = some (.cells #[dsl,v,.map (some S),.map (some P)] 70)) (hS:w.heap[S]? = some (Q0E places)) (nd:(places.map (·.1)).Nodup) (n:List UInt8) (b:List UInt8) (dep fuel size:Int) {k:Nat} (hs:Q1m places n dep fuel size = .error k) (r:Except Mar.Fault (List Q0j)) :
  Calls Tryz.prog 17 #[.pointer (some ⟨B,0,none⟩),.string ⟨n.toArray⟩,.string ⟨b.toArray⟩,.agg #[.int .i64 dep,.int .i64 fuel,.int .i64 size]] w (Q99 w (.error k) r):=by
 have hmf:∀ (fn:Fn) (first cap:Array Value) (w:World),(Instr.makeFunc fn first cap).run Tryz.prog w = .ok (.func fn first cap) w:=fun _ _ _ _=>rfl
 have hnq:=neqE
 have hb0:Below w.heap.size w (((w.alloc (.cells #[.int .i64 dep,.int .i64 fuel,.int .i64 size] 33)).alloc (.cells #[.slice none 0 0] 29)).alloc (.cells #[.nilIface] 24)):=(((Below.refl _ _).alloc (Nat.le_refl _) _).alloc (by simp) _).alloc (by simp;omega) _
 have VS:=Hid.mk (Q98 ((hb0.block _ (Qc hB)).trans hB) ((hb0.block _ (Qc hS)).trans hS) nd n dep fuel size)
 rw [hs] at VS
 have o1:(((w.alloc (.cells #[.int .i64 dep,.int .i64 fuel,.int .i64 size] 33)).alloc (.cells #[.slice none 0 0] 29)).alloc (.cells #[.nilIface] 24)).heap[w.heap.size + 1]? = some (.cells #[.slice none 0 0] 29):=(Below.heap_alloc _ _ _ (by simp)).trans (Qg (by simp))
 have o2:(((w.alloc (.cells #[.int .i64 dep,.int .i64 fuel,.int .i64 size] 33)).alloc (.cells #[.slice none 0 0] 29)).alloc (.cells #[.nilIface] 24)).heap[w.heap.size + 1 + 1]? = some (.cells #[.nilIface] 24):=Qg (by simp)
 clear hB hS hs
 go_enter_defers Tryz.func17,Tryz.ntmps17
 go_wp2_with fail
 refine VS.out.mono ?_
 rintro e w1 ⟨rfl,hb1⟩
 have p1:=(hb1.block _ (Qc o1)).trans o1
 have p2:=(hb1.block _ (Qc o2)).trans o2
 have c1:=Qq p1
 have c2:=Qq p2
 have f1:∀ i,w1.frozen? ⟨w.heap.size + 1,i,none⟩=false:=by intro i;simp [World.frozen?,p1]
 have f2:∀ i,w1.frozen? ⟨w.heap.size + 1 + 1,i,none⟩=false:=by intro i;simp [World.frozen?,p2]
 have l2:=Qc p2
 have K1:=Hid.mk (hb0.trans (hb1.mono hb0.size))
 clear hb1 VS o1 o2 hb0
 unfold Q8N
 go_wp2
 have q1:∀ x,(w1.setCell ⟨w.heap.size + 1 + 1,0,none⟩ x).heap[w.heap.size + 1]? = some (.cells #[.slice none 0 0] 29):=fun x=>(Below.heap_setCell _ _ _ _ (by simp)).trans p1
 have q2:∀ x,(w1.setCell ⟨w.heap.size + 1 + 1,0,none⟩ x).heap[w.heap.size + 1 + 1]? = some (.cells #[x] 24):=fun x=>Qo (i:=0) p2 x
 have r1:∀ x y,((w1.setCell ⟨w.heap.size + 1 + 1,0,none⟩ x).setCell ⟨w.heap.size + 1,0,none⟩ y).heap[w.heap.size + 1]? = some (.cells #[y] 29):=fun x y=>Qo (i:=0) (q1 x) y
 have r2:∀ x y,((w1.setCell ⟨w.heap.size + 1 + 1,0,none⟩ x).setCell ⟨w.heap.size + 1,0,none⟩ y).heap[w.heap.size + 1 + 1]? = some (.cells #[x] 24):=fun x y=>(Below.heap_setCell _ _ _ _ (by simp)).trans (q2 x)
 have c1':=fun x=>Qq (q1 x)
 have c2':=fun x=>Qq (q2 x)
 have c1'':=fun x y=>Qq (r1 x y)
 have c2'':=fun x y=>Qq (r2 x y)
 have f1':∀ x i,(w1.setCell ⟨w.heap.size + 1 + 1,0,none⟩ x).frozen? ⟨w.heap.size + 1,i,none⟩=false:=by intro x i;simp [World.frozen?,q1 x]
 have f2':∀ x y i,((w1.setCell ⟨w.heap.size + 1 + 1,0,none⟩ x).setCell ⟨w.heap.size + 1,0,none⟩ y).frozen? ⟨w.heap.size + 1 + 1,i,none⟩=false:=by intro x y i;simp [World.frozen?,r2 x y]
 have z1:∀ x y z,(((w1.setCell ⟨w.heap.size + 1 + 1,0,none⟩ x).setCell ⟨w.heap.size + 1,0,none⟩ y).setCell ⟨w.heap.size + 1 + 1,0,none⟩ z).cell? ⟨w.heap.size + 1,0,none⟩=some y:=fun x y z=>Qq ((Below.heap_setCell _ _ _ _ (by simp)).trans (r1 x y))
 have z2:∀ x y z,(((w1.setCell ⟨w.heap.size + 1 + 1,0,none⟩ x).setCell ⟨w.heap.size + 1,0,none⟩ y).setCell ⟨w.heap.size + 1 + 1,0,none⟩ z).cell? ⟨w.heap.size + 1 + 1,0,none⟩=some z:=fun x y z=>Qq (Qo (i:=0) (r2 x y) z)
 have HK:Hid (∀ x y z,Qb [] w (((w1.setCell ⟨w.heap.size + 1 + 1,0,none⟩ x).setCell ⟨w.heap.size + 1,0,none⟩ y).setCell ⟨w.heap.size + 1 + 1,0,none⟩ z).drew):=fun x y z=>((((Qb.of_below [] K1.out).setNew (p:=⟨w.heap.size + 1 + 1,0,none⟩) (by simp;omega) x).setNew (p:=⟨w.heap.size + 1,0,none⟩) (by simp) y).setNew (p:=⟨w.heap.size + 1 + 1,0,none⟩) (by simp;omega) z).drew
 have Z1:=Hid.mk z1
 have Z2:=Hid.mk z2
 clear p1 p2 q1 q2 r1 r2 z1 z2
 go_region
 go_wp2
 refine leaves_cons (f:=34) (args:=#[.pointer (some ⟨w.heap.size + 1,0,none⟩),.pointer (some ⟨w.heap.size + 1 + 1,0,none⟩)]) (by simp) (by simp [go_sem]) ?_
 refine (QbK _ _ _).mono ?_
 rintro e u' w'' ⟨rfl,rfl,rfl⟩
 simp only [Leaves,settle]
 refine ⟨.tuple #[.slice none 0 0,.iface 50 (.int .i64 k)],by simp [results,Tryz.results17,go_sem,Z1.out,Z2.out],?_⟩
 exact ⟨HK.out _ _ _,Or.inl ⟨k,rfl,rfl⟩⟩
theorem Q9u {P:Program} {fn:Func} {R:Ending→World→Prop} {t1 t2:Array Value} (h:results fn t1=results fn t2):∀ (ds:List Deferred) (u:FrameMode) (w:World),Leaves P fn t1 R ds u w→Leaves P fn t2 R ds u w:=by
 intro ds
 induction ds with
 | nil=>
  intro u w hl
  cases u with
  | run=>exact hl
  | returning=>obtain ⟨v,h1,h2⟩:=hl;exact ⟨v,by rw [← h];exact h1,h2⟩
  | panicking c=>exact hl
 | cons d ds ih=>
  intro u w hl
  obtain ⟨hu,fv,cap,f,args,h1,h2,h3⟩:=hl
  refine ⟨hu,fv,cap,f,args,h1,h2,h3.mono ?_⟩
  intro e u' w' hq
  cases e with
  | returned v=>exact ih _ _ hq
  | panicked c=>exact ih _ _ hq
  | outgrown=>exact hq
theorem Q4Q {R:Ending→World→Prop} {ch:List PanicEntry} {i:Nat} {v:Value} {a:Act} {w:World} (h8:i≠8) (h9:i≠9) (h:bodyPostD Tryz.prog Tryz.f17 R (.panic ch) (a.put (some i) v) w):bodyPostD Tryz.prog Tryz.f17 R (.panic ch) a w:=by
 have e:results Tryz.f17 (a.put (some i) v).tmps=results Tryz.f17 a.tmps:=by
  have g8:(a.put (some i) v).tmps[8]?.getD undef=a.tmps[8]?.getD undef:=by simp [Act.put,Array.getElem?_setIfInBounds,h8]
  have g9:(a.put (some i) v).tmps[9]?.getD undef=a.tmps[9]?.getD undef:=by simp [Act.put,Array.getElem?_setIfInBounds,h9]
  simp only [results,Tryz.results17]
  simp [g8,g9]
 exact Q9u e _ _ _ h
theorem Qhb {w w2:World} {r:Except Mar.Fault (List Q0j)} {p g:Nat} {f:Mar.Fault} {tm:Array Value} (hk:Qb [] w w2) (x1:w2.heap[w.heap.size + 1]? = some (.cells #[.slice none 0 0] 29)) (x2:w2.heap[w.heap.size + 1 + 1]? = some (.cells #[.nilIface] 24)) (t8:tm.getD 8 undef = .pointer (some ⟨w.heap.size + 1,0,none⟩)) (t9:tm.getD 9 undef = .pointer (some ⟨w.heap.size + 1 + 1,0,none⟩)) (hg:w.heap.size + 1 + 1 < g) (hc:w2.heap[g]? = some (.cells #[.int .i64 f.no,.int .i64 f.at'] 83)) (hr:r = .error f) :
  bodyPostD Tryz.prog Tryz.f17 (Q99 w (.ok p) r) (.panic [{ v:=.iface 79 (.pointer (some ⟨g,0,none⟩)),recovered:=false }]) { tmps:=tm,defers:=[{ target:=.fn (.func 34) #[.pointer (some ⟨w.heap.size + 1,0,none⟩),.pointer (some ⟨w.heap.size + 1 + 1,0,none⟩)],args:=#[] }] } w2:=by
 have f1:w2.frozen? ⟨w.heap.size + 1,0,none⟩=false:=by simp [World.frozen?,x1]
 have f2:w2.frozen? ⟨w.heap.size + 1 + 1,0,none⟩=false:=by simp [World.frozen?,x2]
 refine leaves_cons (f:=34) (args:=#[.pointer (some ⟨w.heap.size + 1,0,none⟩),.pointer (some ⟨w.heap.size + 1 + 1,0,none⟩)]) (by simp) (by simp [go_sem]) ?_
 refine (Qfa _ _ g _ _ [] w2 (Qq x1) (Qq x2) f1 f2 (by simp)).mono ?_
 rintro e u' w'' ⟨rfl,rfl,rfl⟩
 have r1:=Qo (i:=0) x1 (.slice none 0 0)
 have r2:(w2.setCell ⟨w.heap.size + 1,0,none⟩ (.slice none 0 0)).heap[w.heap.size + 1 + 1]? = _:=(Below.heap_setCell _ _ _ _ (by simp)).trans x2
 have z1:=Qq ((Below.heap_setCell _ ⟨w.heap.size + 1 + 1,0,none⟩ (.iface 79 (.pointer (some ⟨g,0,none⟩))) _ (by simp)).trans r1)
 have z2:=Qq (Qo (i:=0) r2 (.iface 79 (.pointer (some ⟨g,0,none⟩))))
 simp only [Leaves,settle,List.dropWhile_nil]
 rw [Array.getD_eq_getD_getElem?] at t8 t9
 refine ⟨.tuple #[.slice none 0 0,.iface 79 (.pointer (some ⟨g,0,none⟩))],by simp [results,Tryz.results17,go_sem,t8,t9,z1,z2],?_⟩
 refine ⟨(hk.setNew (p:=⟨w.heap.size + 1,0,none⟩) (by simp) _).setNew (p:=⟨w.heap.size + 1 + 1,0,none⟩) (by simp;omega) _,Or.inr (Or.inr ⟨p,f,g,rfl,hr,rfl,by omega,?_⟩)⟩
 exact (Below.heap_setCell _ _ _ _ (by simp;omega)).trans ((Below.heap_setCell _ _ _ _ (by simp;omega)).trans hc)
theorem Qfc {w:World} {bs:List (Nat×Obj)} {B S P:Nat} {dsl v:Value} {c:List Qk} {places:List (List UInt8×Nat)} (hB:(B,Obj.cells #[dsl,v,.map (some S),.map (some P)] 70)∈bs) (hS:(S,Q0E places)∈bs) (nd:(places.map (·.1)).Nodup) (hc:Q3I bs v c) (hw:∀ p∈bs,w.heap[p.1]? = some p.2) (hg:∀ x∈c,Q2e x) (n:List UInt8) (b:List UInt8) (dep fuel size p N:Nat) (hs:Q1m places n dep fuel size = .ok p) (hdp:dep≤64) (hfu:fuel≤10000) (hsz:size≤100000) (hbl:b.length≤maxLen) {z:Except Mar.Fault DSt} (hr:runN (decW b dep fuel) c N ⟨p,[],[]⟩ ⟨0,[]⟩=some z) :
  Calls Tryz.prog 17 #[.pointer (some ⟨B,0,none⟩),.string ⟨n.toArray⟩,.string ⟨b.toArray⟩,.agg #[.int .i64 dep,.int .i64 fuel,.int .i64 size]] w (Q99 w (.ok p) (if size < b.length then .error ⟨14,0⟩ else thenE z fun d=>if d.pos < b.length then .error ⟨20,d.pos⟩ else .ok d.nodes)):=by
 generalize hR:(if size < b.length then Except.error ⟨14,0⟩ else thenE z fun d=>if d.pos < b.length then Except.error ⟨20,d.pos⟩ else .ok d.nodes)=R
 have hmf:∀ (fn:Fn) (first cap:Array Value) (w:World),(Instr.makeFunc fn first cap).run Tryz.prog w = .ok (.func fn first cap) w:=fun _ _ _ _=>rfl
 have hnq:=Q44
 obtain ⟨va,vb,vc,rfl⟩:=hc.slice
 have hb0:Below w.heap.size w (((w.alloc (.cells #[.int .i64 dep,.int .i64 fuel,.int .i64 size] 33)).alloc (.cells #[.slice none 0 0] 29)).alloc (.cells #[.nilIface] 24)):=(((Below.refl _ _).alloc (Nat.le_refl _) _).alloc (by simp) _).alloc (by simp;omega) _
 have VS:=Hid.mk (Q98 ((hb0.block _ (Qc (hw _ hB))).trans (hw _ hB)) ((hb0.block _ (Qc (hw _ hS))).trans (hw _ hS)) nd n dep fuel size)
 rw [hs] at VS
 have o0:(((w.alloc (.cells #[.int .i64 dep,.int .i64 fuel,.int .i64 size] 33)).alloc (.cells #[.slice none 0 0] 29)).alloc (.cells #[.nilIface] 24)).heap[w.heap.size]? = some (.cells #[.int .i64 dep,.int .i64 fuel,.int .i64 size] 33):=(Below.heap_alloc _ _ _ (by simp;omega)).trans ((Below.heap_alloc _ _ _ (by simp)).trans (Qg rfl))
 have o1:(((w.alloc (.cells #[.int .i64 dep,.int .i64 fuel,.int .i64 size] 33)).alloc (.cells #[.slice none 0 0] 29)).alloc (.cells #[.nilIface] 24)).heap[w.heap.size + 1]? = some (.cells #[.slice none 0 0] 29):=(Below.heap_alloc _ _ _ (by simp)).trans (Qg (by simp))
 have o2:(((w.alloc (.cells #[.int .i64 dep,.int .i64 fuel,.int .i64 size] 33)).alloc (.cells #[.slice none 0 0] 29)).alloc (.cells #[.nilIface] 24)).heap[w.heap.size + 1 + 1]? = some (.cells #[.nilIface] 24):=Qg (by simp)
 have HC:=Hid.mk hc
 have HW:=Hid.mk hw
 have HG:=Hid.mk hg
 have HR:=Hid.mk hr
 have ER:=Hid.mk hR
 have HBm:=Hid.mk hB
 clear hS hs hc hw hg hr hR hB
 go_enter_defers Tryz.func17,Tryz.ntmps17
 go_wp2_with fail
 refine VS.out.mono ?_
 rintro e w1 ⟨rfl,hb1⟩
 have K1:=Hid.mk (hb0.trans (hb1.mono hb0.size))
 have p2:=(hb1.block _ (Qc o2)).trans o2
 have c2:=Qq p2
 have f2:∀ i,w1.frozen? ⟨w.heap.size + 1 + 1,i,none⟩=false:=by intro i;simp [World.frozen?,p2]
 have x0:(w1.setCell ⟨w.heap.size + 1 + 1,0,none⟩ .nilIface).heap[w.heap.size]? = _:=(Below.heap_setCell _ _ _ _ (by simp;omega)).trans ((hb1.block _ (Qc o0)).trans o0)
 have x1:(w1.setCell ⟨w.heap.size + 1 + 1,0,none⟩ .nilIface).heap[w.heap.size + 1]? = _:=(Below.heap_setCell _ _ _ _ (by simp)).trans ((hb1.block _ (Qc o1)).trans o1)
 have x2:(w1.setCell ⟨w.heap.size + 1 + 1,0,none⟩ .nilIface).heap[w.heap.size + 1 + 1]? = _:=Qo (i:=0) p2 .nilIface
 have KX:=Hid.mk ((hb0.trans (hb1.mono hb0.size)).setCell (p:=⟨w.heap.size + 1 + 1,0,none⟩) (by simp;omega) .nilIface)
 clear hb1 hb0 o0 o1 o2 p2 VS
 unfold Q8N
 generalize hX:w1.setCell ⟨w.heap.size + 1 + 1,0,none⟩ .nilIface=X at x0 x1 x2 KX
 obtain ⟨e0,e1,e2,ef,el⟩:=Q2f x0
 have y1:=Qq x1
 have y2:=Qq x2
 have g1:∀ i,X.frozen? ⟨w.heap.size + 1,i,none⟩=false:=by intro i;simp [World.frozen?,x1]
 have g2:∀ i,X.frozen? ⟨w.heap.size + 1 + 1,i,none⟩=false:=by intro i;simp [World.frozen?,x2]
 have xw:Hid (∀ p∈bs,X.drew.heap[p.1]? = some p.2):=fun p hp=>(KX.out.block _ (Qc (HW.out p hp))).trans (HW.out p hp)
 obtain ⟨d0,d1,d2,df,dl⟩:=Q4C ((KX.out.block _ (Qc (HW.out _ HBm.out))).trans (HW.out _ HBm.out))
 have VV:=Hid.mk (QmI HC.out xw.out HG.out hfu hsz hdp hbl HR.out)
 rw [ER.out] at VV
 have hBl:=Qc (HW.out _ HBm.out)
 simp only at hBl
 have hBn:B≠w.heap.size + 1:=by omega
 have X0:=Hid.mk x0
 have X1:=Hid.mk x1
 have X2:=Hid.mk x2
 have XB:=Hid.mk (xw.out _ HBm.out)
 have hxs:=Qc x2
 clear x0 x1 x2
 go_wp2_with fail
 clear hX
 refine QD (fun w'=>w'.cell? ⟨B,1,none⟩=some (.slice va vb vc)∧w'.cell? ⟨w.heap.size,0,none⟩=some (.int .i64 dep)∧w'.cell? ⟨w.heap.size,1,none⟩=some (.int .i64 fuel)∧w'.cell? ⟨w.heap.size,2,none⟩=some (.int .i64 size)) (L:=10) (by kernel_rfl) rfl (by kernel_rfl) (by kernel_rfl) ?_ (fun hHeld=>?_)
 ·go_keep
 refine tk (i:=0) (v:=?_) rfl (by kernel_rfl) (fun _ _ _ h=>Q4Q (by decide) (by decide) h) (by rfl) (by assumption) ?_ ?_
 rotate_left
 ·intro w hSw;(try dsimp only at hSw);go_simp;(try with_reducible rfl)
 (try simp only [Qd,Qe,List.set])
 refine tk (i:=1) (v:=?_) rfl (by kernel_rfl) (fun _ _ _ h=>Q4Q (by decide) (by decide) h) (by rfl) (by assumption) ?_ ?_
 rotate_left
 ·intro w hSw;(try dsimp only at hSw);go_simp;(try with_reducible rfl)
 (try simp only [Qd,Qe,List.set])
 refine tk (i:=2) (v:=?_) rfl (by kernel_rfl) (fun _ _ _ h=>Q4Q (by decide) (by decide) h) (by rfl) (by assumption) ?_ ?_
 rotate_left
 ·intro w hSw;(try dsimp only at hSw);go_simp;(try with_reducible rfl)
 (try simp only [Qd,Qe,List.set])
 refine tk (i:=3) (v:=?_) rfl (by kernel_rfl) (fun _ _ _ h=>Q4Q (by decide) (by decide) h) (by rfl) (by assumption) ?_ ?_
 rotate_left
 ·intro w hSw;(try dsimp only at hSw);go_simp;(try with_reducible rfl)
 (try simp only [Qd,Qe,List.set])
 refine tk (i:=4) (v:=?_) rfl (by kernel_rfl) (fun _ _ _ h=>Q4Q (by decide) (by decide) h) (by rfl) (by assumption) ?_ ?_
 rotate_left
 ·intro w hSw;(try dsimp only at hSw);go_simp;(try with_reducible rfl)
 (try simp only [Qd,Qe,List.set])
 refine tk (i:=5) (v:=?_) rfl (by kernel_rfl) (fun _ _ _ h=>Q4Q (by decide) (by decide) h) (by rfl) (by assumption) ?_ ?_
 rotate_left
 ·intro w hSw;(try dsimp only at hSw);go_simp;(try with_reducible rfl)
 (try simp only [Qd,Qe,List.set])
 refine tk (i:=6) (v:=?_) rfl (by kernel_rfl) (fun _ _ _ h=>Q4Q (by decide) (by decide) h) (by rfl) (by assumption) ?_ ?_
 rotate_left
 ·intro w hSw;(try dsimp only at hSw);go_simp;(try with_reducible rfl)
 (try simp only [Qd,Qe,List.set])
 refine tk (i:=7) (v:=?_) rfl (by kernel_rfl) (fun _ _ _ h=>Q4Q (by decide) (by decide) h) (by rfl) (by assumption) ?_ ?_
 rotate_left
 ·intro w hSw;(try dsimp only at hSw);go_simp;(try with_reducible rfl)
 (try simp only [Qd,Qe,List.set])
 refine wpAnyH_ready (rs:=[8]) (by kernel_rfl) (by simp) ?_
 refine AllReadyH.cons rfl (fun K hK=>?_) AllReadyH.nil
 (go_simp;go_at_call 35;refine VV.out.mono ?_;rintro e w2 (⟨ns,rv,hx,rfl,hk,hrow⟩ | ⟨f,hx,hk,g,hg,rfl,hc⟩);rotate_left;exact Qhb ((Qb.of_below [] KX.out).drew.trans hk) ((hk.block _ (Qc X1.out) (by simp)).trans X1.out) ((hk.block _ (Qc X2.out) (by simp)).trans X2.out) rfl rfl (Nat.lt_of_lt_of_le hxs hg) hc hx;have n1:=(hk.block _ (Qc X1.out) (by simp)).trans X1.out;have n2:=(hk.block _ (Qc X2.out) (by simp)).trans X2.out;have n0:=(hk.block _ (Qc X0.out) (by simp)).trans X0.out;have nB:=(hk.block _ (Qc XB.out) (by simp)).trans XB.out;obtain ⟨e0,e1,e2,ef,el⟩:=Q2f n0;obtain ⟨d0,d1,d2,df,dl⟩:=Q4C nB;have y1:=Qq n1;have y2:=Qq n2;have g1:∀ i,w2.frozen? ⟨w.heap.size + 1,i,none⟩=false:=(by intro i;simp [World.frozen?,n1]);have g2:∀ i,w2.frozen? ⟨w.heap.size + 1 + 1,i,none⟩=false:=(by intro i;simp [World.frozen?,n2]);have N1:=Hid.mk n1;have N2:=Hid.mk n2;have HK:=Hid.mk ((Qb.of_below [] KX.out).drew.trans hk);have HROW:=Hid.mk hrow;have HX:=Hid.mk hx;have kB:∀ y,(w2.setCell ⟨w.heap.size + 1,0,none⟩ y).cell? ⟨B,1,none⟩=some (.slice va vb vc):=(fun y=>(Q4C ((Below.heap_setCell _ _ _ _ (by simp only;omega)).trans nB)).2.1);obtain ⟨ra,rc,rfl⟩:=Q1F hrow;clear n0 n1 n2 nB hk hrow hx)
 refine hK.out _ _ ?_ (fun hHeld=>?_)
 ·go_keep
 clear hK K
 (try simp only [Qd,Qe,List.set])
 refine wpAnyH_ready (rs:=[9]) (by kernel_rfl) (by simp) ?_
 refine AllReadyH.cons rfl (fun K hK=>?_) AllReadyH.nil
 go_simp
 refine hK.out _ _ ?_ (fun hHeld=>?_)
 ·go_keep
 clear hK K
 (try simp only [Qd,Qe,List.set])
 refine wpAnyH_done (by kernel_rfl) ?_ _
 refine QL rfl (fun K hK=>?_)
 go_simp
 refine hK.out _ _ ?_
 clear hK K
 (try simp only [Qd,Qe,List.set])
 have r1:=Qo (i:=0) N1.out (.slice ra ns.length rc)
 have r2:(w2.setCell ⟨w.heap.size + 1,0,none⟩ (.slice ra ns.length rc)).heap[w.heap.size + 1 + 1]? = _:=(Below.heap_setCell _ _ _ _ (by simp)).trans N2.out
 have z1:=Hid.mk (Qq ((Below.heap_setCell _ ⟨w.heap.size + 1 + 1,0,none⟩ .nilIface _ (by simp)).trans r1))
 have z2:=Hid.mk (Qq (Qo (i:=0) r2 .nilIface))
 clear r1 r2 hHeld
 go_wp2
 refine leaves_cons (f:=34) (args:=#[.pointer (some ⟨w.heap.size + 1,0,none⟩),.pointer (some ⟨w.heap.size + 1 + 1,0,none⟩)]) (by simp) (by simp [go_sem]) ?_
 refine (QbK _ _ _).mono ?_
 rintro e u' w'' ⟨rfl,rfl,rfl⟩
 simp only [Leaves,settle]
 refine ⟨.tuple #[.slice ra ns.length rc,.nilIface],by simp [results,Tryz.results17,go_sem,z1.out,z2.out],?_⟩
 refine ⟨(HK.out.setNew (p:=⟨w.heap.size + 1,0,none⟩) (by simp) _).setNew (p:=⟨w.heap.size + 1 + 1,0,none⟩) (by simp;omega) _,Or.inr (Or.inl ⟨p,ns,_,rfl,HX.out,rfl,?_⟩)⟩
 refine Qt (M:=[w.heap.size + 1,w.heap.size + 1 + 1]) (Qj2 HROW.out (by simp;omega)) (((Qb.refl [w.heap.size + 1,w.heap.size + 1 + 1] w2).setIn (p:=⟨w.heap.size + 1,0,none⟩) (by simp) _).setIn (p:=⟨w.heap.size + 1 + 1,0,none⟩) (by simp) _) ?_
 intro g hg hm
 have h1:=(Q1J HROW.out (g:=g) hg).1
 have h2:X.drew.heap.size=X.heap.size:=rfl
 simp only [List.mem_cons,List.not_mem_nil,or_false] at hm
 omega
theorem Qj3 (b:List UInt8) (dep fuel:Nat):(decW b dep fuel).Fair:=by
 intro n v d k d' h
 obtain ⟨d1,_,h⟩:=Qh h
 obtain ⟨p,_,h⟩:=Qh h
 split at h
 ·cases h
 ·rename_i q hq
  cases h
  simp [hq]
theorem Qj4 (b:List UInt8) {dep:Nat} (fuel:Nat) (hd:dep≤64):∀ k d,64≤k→∃ f,(decW b dep fuel).enter k d = .error f:=by
 intro k d hk
 exact ⟨_,if_pos (by omega)⟩
theorem Qkt {ds:List DefL} (hW:Whole ds) {n:List UInt8} {p:Nat} (hp:QK (Q14 ds).2 n=some p) (b:List UInt8) {dep:Nat} (fuel:Nat) (hd:dep≤64):∃ N,runN (decW b dep fuel) (Q14 ds).1 N ⟨p,[],[]⟩ ⟨0,[]⟩=some (Q0R (decW b dep fuel) (Q0M ds) 64 0 n ⟨0,[]⟩):=by
 obtain ⟨B,ha,hs⟩:=Qdy hW
 have h:=hs n
 rw [hp] at h
 exact Qbz (Qj3 b dep fuel) (Qj4 b fuel hd) ha h.1 h.2.1 h.2.2 _
theorem QbL {places:List (List UInt8×Nat)} {n:List UInt8} {dep fuel size:Int} {p:Nat} (h:Q1m places n dep fuel size = .ok p):QK places n=some p∧0≤dep∧dep≤64∧0≤fuel∧fuel≤10000∧0≤size∧size≤100000:=by
 unfold Q1m at h
 cases hm:QK places n with
 | none=>rw [hm] at h;cases h
 | some q=>
  rw [hm] at h
  simp only at h
  split at h
  ·rename_i hc
   cases h
   simp only [Q35,Bool.and_eq_true,decide_eq_true_eq] at hc
   exact ⟨rfl,hc.1.1.1,hc.1.1.2,hc.1.2.1,hc.1.2.2,hc.2.1,hc.2.2⟩
  ·cases h
theorem Qhc {w:World} {bs:List (Nat×Obj)} {B:Nat} {ds:List DefL} (hS:Q1N bs B ds) (hw:∀ p∈bs,w.heap[p.1]? = some p.2) (hW:Whole ds) (hg:∀ x∈(Q14 ds).1,Q2e x) (n b:List UInt8) (dep fuel size:Int) (hbl:b.length≤maxLen) :
  Calls Tryz.prog 17 #[.pointer (some ⟨B,0,none⟩),.string ⟨n.toArray⟩,.string ⟨b.toArray⟩,.agg #[.int .i64 dep,.int .i64 fuel,.int .i64 size]] w (Q99 w (Q1m (Q14 ds).2 n dep fuel size) (Q0z (Q0M ds) n b dep.toNat fuel.toNat size.toNat)):=by
 obtain ⟨dsl,ps,v,S,P,hB,hD,hU⟩:=hS
 have hC:=hU.code
 have hSm:=hU.types
 have nd:=hU.nd
 cases hs:Q1m (Q14 ds).2 n dep fuel size with
 | error k=>exact Qfb (hw _ hB) (hw _ hSm) nd n b dep fuel size hs _
 | ok p=>
  obtain ⟨hm,d0,d1,f0,f1,s0,s1⟩:=QbL hs
  obtain ⟨dep,rfl⟩:=Int.eq_ofNat_of_zero_le d0
  obtain ⟨fuel,rfl⟩:=Int.eq_ofNat_of_zero_le f0
  obtain ⟨size,rfl⟩:=Int.eq_ofNat_of_zero_le s0
  obtain ⟨N,hN⟩:=Qkt hW hm b fuel (dep:=dep) (by omega)
  exact Qfc hB hSm nd hC hw hg n b dep fuel size p N hs (by omega) (by omega) (by omega) hbl hN
end Go.Proofs.YtmbcibgknckenaaGreatDoor
namespace Go.Proofs.YtmbcibgknckenaaGreatDoor
open Go.RowKit
def Qj5:List UInt8:=[99,111,110,115,116,32,87,73,68,69,32,61,32,55,59,32,101,110,117,109,32,75,105,110,100,32,123,32,65,32,61,32,48,44,32,66,32,61,32,45,51,44,32,67,32,61,32,55,48,48,48,48,32,125,59,32,115,116,114,117,99,116,32,80,97,105,114,32,123,32,105,110,116,32,120,59,32,117,110,115,105,103,110,101,100,32,104,121,112,101,114,32,121,59,32,117,110,115,105,103,110,101,100,32,122,59,32,125,59,32,117,110,105,111,110,32,83,111,109,101,32,115,119,105,116,99,104,32,40,75,105,110,100,32,107,41,32,123,32,99,97,115,101,32,65,58,32,118,111,105,100,59,32,99,97,115,101,32,66,58,32,80,97,105,114,32,112,59,32,100,101,102,97,117,108,116,58,32,111,112,97,113,117,101,32,111,60,57,62,59,32,125,59,32,116,121,112,101,100,101,102,32,83,111,109,101,32,70,101,119,60,51,62,59,32,115,116,114,117,99,116,32,84,114,101,101,32,123,32,115,116,114,105,110,103,32,110,97,109,101,60,49,50,62,59,32,84,114,101,101,32,42,108,101,102,116,59,32,84,114,101,101,32,42,114,105,103,104,116,59,32,98,111,111,108,32,108,101,97,102,59,32,70,101,119,32,102,101,119,59,32,111,112,97,113,117,101,32,115,117,109,91,53,93,59,32,125,59,32,117,110,105,111,110,32,70,108,97,103,32,115,119,105,116,99,104,32,40,98,111,111,108,32,98,41,32,123,32,99,97,115,101,32,84,82,85,69,58,32,70,108,97,103,32,42,110,101,120,116,59,32,99,97,115,101,32,70,65,76,83,69,58,32,104,121,112,101,114,32,104,91,50,93,59,32,125,59,32,115,116,114,117,99,116,32,82,111,119,32,123,32,80,97,105,114,32,97,108,108,60,87,73,68,69,62,59,32,70,108,97,103,32,102,108,97,103,115,91,51,93,59,32,125,59,32,117,110,105,111,110,32,87,111,114,100,32,115,119,105,116,99,104,32,40,117,110,115,105,103,110,101,100,32,117,41,32,123,32,99,97,115,101,32,52,50,57,52,57,54,55,50,57,53,58,32,75,105,110,100,32,107,59,32,99,97,115,101,32,48,58,32,115,116,114,105,110,103,32,115,60,62,59,32,125,59,32,112,114,111,103,114,97,109,32,80,32,123,32,118,101,114,115,105,111,110,32,86,32,123,32,84,114,101,101,32,115,119,97,112,40,84,114,101,101,41,32,61,32,49,59,32,118,111,105,100,32,100,114,111,112,40,80,97,105,114,41,32,61,32,50,59,32,80,97,105,114,32,109,97,107,101,40,118,111,105,100,41,32,61,32,51,59,32,125,32,61,32,49,59,32,118,101,114,115,105,111,110,32,87,32,123,32,87,111,114,100,32,115,97,121,40,87,111,114,100,41,32,61,32,49,59,32,125,32,61,32,51,59,32,125,32,61,32,55,55,59]
def Q80:ByteArray:=⟨Qj5.toArray⟩
def Q0e:List DefL:=match Q1V Q80 with
 | .ok ds=>ds
 | .error _=>[]
def okB {α:Type}:Except Mar.Fault α→Bool
 | .ok _=>true
 | .error _=>false
theorem Qku:okB (Q1V Q80)=true:=by kernel_rfl
theorem QbM:Q1V Q80 = .ok Q0e:=by
 have h:=Qku
 unfold Q0e
 cases hx:Q1V Q80 with
 | ok ds=>rfl
 | error f=>rw [hx] at h;cases h
def Qhd:Qk→Bool
 | .text n _=>decide (0≤n) && decide (n≤4294967295)
 | .struct n _=>decide (0≤n) && decide (n≤4294967295)
 | .array n _ _=>decide (0≤n) && decide (n≤4294967295)
 | _=>true
theorem Qkv {x:Qk} (h:Qhd x=true) (h2:Q6F x):Q2e x:=by
 cases x<;>simp_all [Qhd,Q2e,Q6F]
theorem Qhe:(Q14 Q0e).1.all Qhd=true:=by kernel_rfl
theorem QbN:∀ x∈(Q14 Q0e).1,Q2e x:=fun x hx=>Qkv (List.all_eq_true.1 Qhe x hx) (QdY Q0e x hx)
def QaR:Ty→Bool
 | .arr (.arr _ _ _) _ _=>false
 | .arr (.opt _) _ _=>false
 | .opt (.arr _ _ _)=>false
 | .opt (.opt _)=>false
 | _=>true
theorem Qe0 {t:Ty} (h:QaR t=true):Q0T t:=by
 cases t with
 | arr o n f=>cases o<;>simp_all [QaR,Q0T,Flat]
 | opt o=>cases o<;>simp_all [QaR,Q0T,Flat]
 | _=>trivial
def Qhf:DefL→Bool
 | .prog _ _ vs _=>!vs.isEmpty && decide (vs.length≤4) && vs.all fun v=>decide (v.procs.length≤8) && v.procs.all fun p=>QaR p.res && QaR p.arg
 | _=>true
theorem Qkw {d:DefL} (h:Qhf d=true):Q4B d:=by
 cases d with
 | prog t a vs n=>
  simp only [Qhf,Bool.and_eq_true,List.all_eq_true,decide_eq_true_eq,Bool.not_eq_true'] at h
  refine ⟨by intro e;subst e;simp at h,h.1.2,fun v hv=>⟨(h.2 v hv).1,fun p hp=>⟨Qe0 ((h.2 v hv).2 p hp).1,Qe0 ((h.2 v hv).2 p hp).2⟩⟩⟩
 | _=>trivial
theorem Qhg:Q0e.all Qhf=true:=by kernel_rfl
theorem Qhh:∀ d∈Q0e,Q4B d:=fun d hd=>Qkw (List.all_eq_true.1 Qhg d hd)
end Go.Proofs.YtmbcibgknckenaaGreatDoor
namespace Go.Proofs.YtmbcibgknckenaaGreatDoor
def Q62:Ty→Bool
 | .opaq n _=>decide (0≤n) && decide (n≤4294967295)
 | .str n _=>decide (0≤n) && decide (n≤4294967295)
 | .arr o n _=>decide (0≤n) && decide (n≤4294967295) && Q62 o
 | .opt o=>Q62 o
 | _=>true
theorem Qbl:∀ {t:Ty},Q62 t=true→TyOk t:=by
 intro t
 induction t with
 | opaq n f=>intro h;simpa [Q62,TyOk,Q5Y] using h
 | str n f=>intro h;simpa [Q62,TyOk,Q5Y] using h
 | arr o n f ih=>
  intro h
  simp only [Q62,Bool.and_eq_true,decide_eq_true_eq] at h
  exact ⟨h.1,ih h.2⟩
 | opt o ih=>intro h;exact ih h
 | _=>intro _;trivial
def QaS:Ty→Bool
 | .plain k=>k == 0 || k == 1 || k == 4
 | _=>true
theorem QmJ {E:Env} {t:Ty} (h:QaS t=true):Q4r (selD E t)∧(selD E t).wide=false:=by
 have hz:Q4r Q4d∧Q4d.wide=false:=by simp [Q4r,Q4d]
 cases t with
 | named n p=>
  simp only [selD]
  split
  ·exact ⟨Q8c _,rfl⟩
  ·exact hz
 | plain k=>
  refine ⟨Q9s k,?_⟩
  simp only [QaS,Bool.or_eq_true,beq_iff_eq] at h
  rcases h with (h | h) | h<;>subst h<;>rfl
 | _=>exact hz
theorem Qkx {E:Env} {t:Ty} {arms:List (List Int×Qs)} (h:QaS t=true):Qcy (selD E t) (Q2I E t arms):=by
 obtain ⟨h1,h2⟩:=QmJ (E:=E) h
 intro k hk
 unfold Q2I at hk
 split at hk
 ·rename_i hh
  simp only [NumL.has,Bool.and_eq_true,decide_eq_true_eq] at hh
  unfold Q4r at h1
  rw [h2] at h1
  simp only [Bool.false_eq_true,if_false] at h1
  exact ⟨fun hl=>by have:=h1.1 hl;omega,fun hl=>by omega⟩
 ·cases hk
def QaT:DefL→Bool
 | .typedef t=>Q62 t.ty
 | .struct _ _ ms=>decide (ms.length≤4294967295) && ms.all fun m=>Q62 m.ty
 | .union _ _ s arms=>QaS s.ty && arms.all fun a=>Q62 a.2.ty
 | _=>true
theorem Qky {E:Env} {d:DefL} (h:QaT d=true):QgN E d:=by
 cases d with
 | typedef t=>exact Qbl h
 | struct a b ms=>
  simp only [QaT,Bool.and_eq_true,decide_eq_true_eq,List.all_eq_true] at h
  exact ⟨⟨by omega,by omega⟩,fun m hm=>Qbl (h.2 m hm)⟩
 | union a b s arms=>
  simp only [QaT,Bool.and_eq_true,List.all_eq_true] at h
  exact ⟨Qkx h.1,fun m hm=>Qbl (h.2 m hm)⟩
 | _=>trivial
theorem Qfd:Q0e.all QaT=true:=by kernel_rfl
theorem Qe1 {ds:List DefL} {n:List UInt8} {d:DefL} (h:Q0M ds n=some d):d∈ds:=by
 unfold Q0M at h
 exact List.mem_of_find?_eq_some h
theorem Q81:Qcz (Q0M Q0e):=fun _ _ h=>Qky (List.all_eq_true.1 Qfd _ (Qe1 h))
end Go.Proofs.YtmbcibgknckenaaGreatDoor
namespace Go.Proofs.YtmbcibgknckenaaGreatDoor
open Go.RowKit
def ndB:List DefL→Bool
 | []=>true
 | d :: ds=>(!Q0J d || ds.all fun e=>!Q0J e || !decide ((Qz e).1=(Qz d).1)) && ndB ds
theorem Qni:∀ {ds:List DefL},ndB ds=true→∀ az d bs,ds=az++d :: bs→Q0J d=true→∀ e∈bs,Q0J e=true→(Qz e).1≠(Qz d).1:=by
 intro ds h az
 induction az generalizing ds with
 | nil=>
  intro d bs hd ht e he hte hc
  subst hd
  simp only [List.nil_append,ndB,Bool.and_eq_true,ht,Bool.not_true,Bool.false_or] at h
  have:=List.all_eq_true.1 h.1 e he
  simp [hte,hc] at this
 | cons a az ih=>
  intro d bs hd
  subst hd
  simp only [List.cons_append,ndB,Bool.and_eq_true] at h
  exact ih h.2 d bs rfl
def Qe2 (ds:List DefL):Bool:=ds.all fun d=>(Q59 d).all fun t=>(QY t).all fun m=>(Q0M ds m.1).isSome
theorem Qj6 {ds:List DefL} (h:Qe2 ds=true):∀ d∈ds,Q0J d=true→Q9V (Q0M ds) d:=by
 intro d hd _ t ht m hm
 exact List.all_eq_true.1 (List.all_eq_true.1 (List.all_eq_true.1 h d hd) t ht) m hm
def Qhi:DefL→Option (List UInt8)
 | .union _ _ s _=>match s.ty with
  | .named n _=>some n
  | _=>none
 | _=>none
def Qe3:DefL→Option (List UInt8)
 | .enum n _ _=>some n
 | _=>none
def selB:List DefL→List DefL→Bool
 | _,[]=>true
 | pre,d :: ds=>(match Qhi d with | some n=>pre.any fun e=>decide (Qe3 e=some n) | none=>true) && selB (pre++[d]) ds
theorem QmK:∀ {ds pre:List DefL},selB pre ds=true→∀ az d bs n,ds=az++d :: bs→Qhi d=some n→∃ e∈pre++az,Qe3 e=some n:=by
 intro ds pre h az
 induction az generalizing ds pre with
 | nil=>
  intro d bs n hd hs
  subst hd
  simp only [List.nil_append,selB,hs,Bool.and_eq_true] at h
  obtain ⟨e,he,hx⟩:=List.any_eq_true.1 h.1
  exact ⟨e,by simp [he],by simpa using hx⟩
 | cons a az ih=>
  intro d bs n hd hs
  subst hd
  simp only [List.cons_append,selB,Bool.and_eq_true] at h
  obtain ⟨e,he,hx⟩:=ih h.2 d bs n rfl hs
  exact ⟨e,by simpa using he,hx⟩
theorem Qkz {ds:List DefL} (hT:Q8A ds) (h1:ndB ds=true) (h2:Qe2 ds=true) (h3:selB [] ds=true):Whole ds where
 nd:=Qni h1
 known:=Qj6 h2
 sel:=by
  intro az t a s arms bs n a' hd hs
  obtain ⟨e,he,hx⟩:=QmK h3 az _ bs n hd (by simp [Qhi,hs])
  simp only [List.nil_append] at he
  obtain ⟨as1,as2,rfl⟩:=List.append_of_mem he
  cases e with
  | enum m b ms=>
   simp only [Qe3,Option.some.injEq] at hx
   subst hx
   exact ⟨as1,b,ms,as2,rfl⟩
  | _=>cases hx
 sim:=by
  intro t a s arms hm
  exact (hT _ hm).1
 deep:=by
  intro d hd t ht
  have h:=hT d hd
  cases d with
  | typedef d=>
   simp only [Q59,List.mem_singleton] at ht
   subst ht
   exact Q22.deep h
  | struct a b ms=>
   obtain ⟨m,hm,rfl⟩:=List.mem_map.1 ht
   exact Q22.deep (h m hm)
  | union a b s arms=>
   obtain ⟨m,hm,rfl⟩:=List.mem_map.1 ht
   rcases h.2 m hm with h | h
   ·exact Q22.deep h
   ·rw [h];trivial
  | const a b c=>cases ht
  | enum a b c=>cases ht
  | prog a b c d=>cases ht
theorem QmL:ndB Q0e=true:=by kernel_rfl
theorem Qhj:Qe2 Q0e=true:=by kernel_rfl
theorem QkA:selB [] Q0e=true:=by kernel_rfl
theorem QaU:Whole Q0e:=Qkz (Q9r QbM) QmL Qhj QkA
end Go.Proofs.YtmbcibgknckenaaGreatDoor
namespace Go.Proofs.YtmbcibgknckenaaGreatDoor
open Go.RowKit
open Go.MapKept
def QfQ (w:World) (e:Ending) (w':World):Prop:=∃ B bs,e = .returned (.pointer (some ⟨B,0,none⟩))∧Qb [] w w'∧Q1N bs B Q0e∧(∀ p∈bs,w'.heap[p.1]? = some p.2)∧w.heap.size≤B
theorem Q6I {w:World} (hg:Gl w):Calls Tryz.prog 13 #[] w (QfQ w):=by
 have hnq:=Q44
 have VR:=Hid.mk (QmC QbM Qhh hg)
 clear hg
 go_enter Tryz.func13,Tryz.ntmps13
 go_wp2_with fail
 refine VR.out.mono ?_
 rintro e w1 ⟨B,bs,rfl,hk,hS,hh,hB⟩
 have H:Hid (QfQ w (.returned (.pointer (some ⟨B,0,none⟩))) w1):=⟨B,bs,rfl,hk,hS,hh,hB⟩
 clear hk hS hh hB VR
 go_wp2
 go_ret
 exact H.out
theorem Q6J (w:World):Calls Tryz.prog 15 #[] w fun e w'=>e = .returned (.agg #[.int .i64 64,.int .i64 10000,.int .i64 100000])∧Below w.heap.size w w':=by
 have hb:∀ o,Below w.heap.size w (w.alloc o):=fun o=>(Below.refl _ _).alloc (Nat.le_refl _) _
 go_enter Tryz.func15,Tryz.ntmps15
 go_wp2
 refine bodyPost_ret (v:=.agg #[.int .i64 64,.int .i64 10000,.int .i64 100000]) (by simp [results,Tryz.results15,go_sem]) rfl ⟨rfl,hb _⟩
def Q3P (c:Int) (n:Nat):Nat:=(if c < 0 then -(c + 1) else c).toNat % n
theorem Q6K (c:Int) (n:Nat) (h1:-9223372036854775808≤c) (h2:c≤9223372036854775807) (hn:0 < n) (hn2:n≤1000000) (w:World):Calls Tryz.prog 20 #[.int .i64 c,.int .i64 n] w fun e w'=>e = .returned (.int .i64 (Q3P c n))∧w'=w:=by
 have hn0:(n:Int)≠0:=by omega
 by_cases h0:c < 0
 ·have E:Hid ((Q3P c n:Int) = -(c + 1).tmod n):=by
   show _=_
   rw [← Int.neg_tmod]
   unfold Q3P
   rw [if_pos h0]
   obtain ⟨k,hk⟩:=Int.eq_ofNat_of_zero_le (show 0≤-(c + 1) by omega)
   rw [hk]
   rfl
  go_enter Tryz.func20,Tryz.ntmps20
  go_wp2
  go_ret
  exact ⟨by rw [E.out];rfl,rfl⟩
 ·have E:Hid ((Q3P c n:Int)=c % n):=by
   show _=_
   unfold Q3P
   rw [if_neg h0]
   obtain ⟨k,hk⟩:=Int.eq_ofNat_of_zero_le (show 0≤c by omega)
   rw [hk]
   rfl
  go_enter Tryz.func20,Tryz.ntmps20
  go_wp2
  go_ret
  exact ⟨by rw [E.out];rfl,rfl⟩
theorem Q5t (c:Int) {n:Nat} (hn:0 < n):Q3P c n < n:=Nat.mod_lt _ hn
def Q4R:List (List UInt8):=[[75,105,110,100],[80,97,105,114],[83,111,109,101],[70,101,119],[84,114,101,101],[70,108,97,103],[82,111,119],[87,111,114,100]]
def Q1G (c:Int):List UInt8:=Q4R.getD (Q3P c 8) []
theorem Q5M (c:Int) (h1:-9223372036854775808≤c) (h2:c≤9223372036854775807) (w:World):Calls Tryz.prog 14 #[.int .i64 c] w fun e w'=>e = .returned (.string ⟨(Q1G c).toArray⟩)∧Below w.heap.size w w':=by
 have hb:∀ o,Below w.heap.size w (w.alloc o):=fun o=>(Below.refl _ _).alloc (Nat.le_refl _) _
 have VP:=Hid.mk (fun w=>Q6K c 8 h1 h2 (by omega) (by omega) w)
 have hlt:=Q5t c (n:=8) (by omega)
 have KD:Hid (Q1G c=Q4R.getD (Q3P c 8) []):=rfl
 generalize Q3P c 8=k at VP hlt KD
 go_enter Tryz.func14,Tryz.ntmps14
 go_wp2_with fail
 refine (VP.out _).mono ?_
 rintro e w1 ⟨rfl,rfl⟩
 have hk:k=0∨k=1∨k=2∨k=3∨k=4∨k=5∨k=6∨k=7:=by omega
 rcases hk with rfl | rfl | rfl | rfl | rfl | rfl | rfl | rfl
 all_goals go_wp2
 all_goals go_ret
 all_goals exact ⟨by rw [KD.out];rfl,hb _⟩
end Go.Proofs.YtmbcibgknckenaaGreatDoor
namespace Go.Proofs.YtmbcibgknckenaaGreatDoor
section
variable {P : Program} {ops : Array Oper} {Q : Exit → Act → World → Prop} {S : World → Prop}
def Q3D (n i:Nat):Array Bool:=(List.replicate i true++List.replicate (n - i) false).toArray
def Q9a (ops:Array Oper) (base:Nat):Bool:=Region.noSelect ops && (Region.ready .any ops (Q3D ops.size ops.size)).isEmpty && (List.range ops.size).all fun i=>
 Region.free .any ops (Q3D ops.size i) i && (Region.ready .any ops (Q3D ops.size i)).contains i && (match ops[i]? with
  | some o=>decide (o.dst=some (base + i)) && (o.looksAt ops).all fun d=>decide (d < base + i)
  | none=>false)
theorem Qhk {n i:Nat} (h:i < n):(Q3D n i).setIfInBounds i true=Q3D n (i + 1):=by
 unfold Q3D
 rw [List.setIfInBounds_toArray]
 congr 1
 rw [List.set_append_right _ _ (by simp)]
 obtain ⟨m,rfl⟩:∃ m,n=i + (m + 1):=⟨n - i - 1,by omega⟩
 have e1:i + (m + 1) - i=m + 1:=by omega
 have e2:i + (m + 1) - (i + 1)=m:=by omega
 rw [e1,e2,List.length_replicate,Nat.sub_self,List.replicate_succ,List.set_cons_zero,List.replicate_succ',List.append_assoc]
 rfl
theorem Qfe (n:Nat):Array.replicate n false=Q3D n 0:=by
 unfold Q3D
 simp
def Q2L (l m vs:List Value) (i:Nat):Array Value:=(l++(vs.take i++m.drop i)).toArray
theorem Qj7 {l m vs:List Value} {i:Nat} {v:Value} (hm:m.length=vs.length) (hv:vs[i]? = some v):(Q2L l m vs i).setIfInBounds (l.length + i) v=Q2L l m vs (i + 1):=by
 have hi:i < vs.length:=by
  by_cases h:i < vs.length
  ·exact h
  ·rw [List.getElem?_eq_none (by omega)] at hv;cases hv
 unfold Q2L
 rw [List.setIfInBounds_toArray]
 congr 1
 rw [List.set_append_right _ _ (by omega),Nat.add_sub_cancel_left,List.set_append_right _ _ (by simp;omega)]
 have e1:(vs.take i).length=i:=by simp;omega
 rw [e1,Nat.sub_self,List.take_succ_eq_append_getElem hi]
 have e2:m.drop i=m[i]'(by omega) :: m.drop (i + 1):=(List.drop_eq_getElem_cons (by omega))
 rw [e2,List.set_cons_zero,List.append_assoc]
 have e3:vs[i]=v:=by
  rw [List.getElem?_eq_getElem hi] at hv
  injection hv
 rw [e3]
 rfl
theorem Qj8 {l m vs:List Value} {i d:Nat} (hm:m.length=vs.length) (hd:d < l.length + i) (hi:i≤vs.length):(Q2L l m vs i)[d]? = (l++vs).toArray[d]?:=by
 unfold Q2L
 simp only [List.getElem?_toArray]
 by_cases h:d < l.length
 ·rw [List.getElem?_append_left h,List.getElem?_append_left h]
 ·rw [List.getElem?_append_right (l₁:=l) (l₂:=vs) (by omega),List.getElem?_append_right (l₁:=l) (by omega),List.getElem?_append_left (by simp;omega),List.getElem?_take_of_lt (by omega)]
theorem Qj9 {o:Oper} (hs:∀ cs b,o.op≠.select cs b) {a a':Act} (h:∀ d∈o.looksAt ops,a.tmps[d]? = a'.tmps[d]?):execOp a.eval o=execOp a'.eval o:=by
 refine execOp_congr o hs fun x hx=>?_
 cases x with
 | tmp d=>
  have:=h d (List.mem_append_left _ (List.mem_filterMap.2 ⟨.tmp d,by simpa using hx,rfl⟩))
  simp only [Act.eval,Array.getD_eq_getD_getElem?,this]
 | _=>rfl
theorem Qff {o:Oper} {a a':Act} (h:∀ d∈o.looksAt ops,a.tmps[d]? = a'.tmps[d]?):Region.wanted o (yielded ops a.tmps)=Region.wanted o (yielded ops a'.tmps):=by
 unfold Region.wanted
 cases hg:o.guard with
 | none=>rfl
 | some gw=>
  obtain ⟨j,b⟩:=gw
  simp only
  unfold yielded
  cases hd:(ops[j]?).bind (·.dst) with
  | none=>rfl
  | some d=>
   simp only [Option.bind_some]
   rw [h d ?_]
   unfold Oper.looksAt
   refine List.mem_append_right _ ?_
   simp [hg,hd]
theorem QkB {base:Nat} (hc:Q9a ops base=true) {l m vs:List Value} (hl:l.length=base) (hn:vs.length=ops.size) (hm:m.length=vs.length) {df:List Deferred} {w:World} (hS:S w)
  (hQp:∀ (d:Nat) (v:Value) c a w,Q (.panic c) (a.put (some d) v) w→Q (.panic c) a w)
  (hy:∀ (i:Nat) (o:Oper) (v:Value),ops[i]? = some o→vs[i]? = some v→YieldsIf P ops S o v ⟨(l++vs).toArray,df⟩)
  (h:Q .normal ⟨(l++vs).toArray,df⟩ w):∀ k i,i + k=ops.size→wpAnyH P .any ops Q S k (Q3D ops.size i) ⟨Q2L l m vs i,df⟩ w:=by
 simp only [Q9a,Bool.and_eq_true,List.all_eq_true,List.mem_range] at hc
 obtain ⟨⟨hs,he⟩,hall⟩:=hc
 intro k
 induction k with
 | zero=>
  intro i hi
  have:i=ops.size:=by omega
  subst this
  refine wpAnyH_done (by simpa using he) ?_ 0
  unfold Q2L
  rw [← hn,List.take_length,← hm,List.drop_length,List.append_nil]
  exact h
 | succ k ih=>
  intro i hi
  have hlt:i < ops.size:=by omega
  obtain ⟨⟨hf,hr⟩,ho⟩:=hall i hlt
  have ho':ops[i]? = some ops[i]:=Array.getElem?_eq_getElem hlt
  rw [ho'] at ho
  simp only [Bool.and_eq_true,decide_eq_true_eq,List.all_eq_true] at ho
  obtain ⟨hd,hlk⟩:=ho
  have hv:vs[i]? = some (vs[i]'(by omega)):=List.getElem?_eq_getElem (by omega)
  have same:∀ d∈ops[i].looksAt ops,(Q2L l m vs i)[d]? = (l++vs).toArray[d]?:=fun d hd=>Qj8 hm (by rw [hl];exact hlk d hd) (by omega)
  refine wpAnyH_take (i:=i) (v:=vs[i]'(by omega)) ho' hs hf hr (fun c a w h=>hQp (base + i) _ c a w (by rw [← hd];exact h)) ?_ hS ?_
  ·exact (hy i _ _ ho' hv).of_same (Qj9 (ops:=ops) (fun cs b=>Region.noSelect_spec hs i _ cs b ho') same) (Qff (a:=⟨Q2L l m vs i,df⟩) (a':=⟨(l++vs).toArray,df⟩) same)
  ·rw [Qhk hlt,hd]
   have:(Act.put ⟨Q2L l m vs i,df⟩ (some (base + i)) (vs[i]'(by omega)))=⟨Q2L l m vs (i + 1),df⟩:=by
    unfold Act.put
    simp only
    rw [← hl,Qj7 hm hv]
   rw [this]
   exact ih (i + 1) (by omega)
theorem Qe4 (S:World→Prop) {base id:Nat} {a:Act} {w:World} {l m:List Value} (vs:List Value) (hp:P.follows .mixedOrders=true) (hc:Q9a ops base=true) (ha:a.tmps=(l++m).toArray) (hl:l.length=base) (hn:vs.length=ops.size) (hm:m.length=vs.length) (hS:S w.drew)
  (hQp:∀ (d:Nat) (v:Value) c a w,Q (.panic c) (a.put (some d) v) w→Q (.panic c) a w)
  (hy:∀ (i:Nat) (o:Oper) (v:Value),ops[i]? = some o→vs[i]? = some v→YieldsIf P ops S o v ⟨(l++vs).toArray,a.defers⟩)
  (h:Q .normal ⟨(l++vs).toArray,a.defers⟩ w.drew):(Code.region id ops true).wp P Q a w:=by
 refine wp_region_held_drew (S:=S) hp hS fun _=>?_
 rw [Qfe]
 have:=QkB hc hl hn hm hS hQp hy h ops.size 0 (by omega)
 unfold Q2L at this
 simp only [List.take_zero,List.nil_append,List.drop_zero] at this
 rw [← ha] at this
 exact this
end
def Qu:Code→Nat→Option (Array Oper)
 | .region id ops _,i=>if id=i then some ops else none
 | .seq a b,i=>(Qu a i).orElse fun _=>Qu b i
 | .cond _ a b,i=>(Qu a i).orElse fun _=>Qu b i
 | .block _ b,i=>Qu b i
 | .loop b,i=>Qu b i
 | _,_=>none
def gd (c:Bool) (v:Value):Value:=match c with
 | true=>undef
 | false=>v
theorem QmM:Q9a ((Tryz.f19.body.bind fun c=>Qu c 6).getD #[]) 19=true:=by kernel_rfl
section
variable {P : Program} {ops : Array Oper} {S : World → Prop} {A : Act} {o : Oper} {v : Value}
theorem Q1l (hg:o.guard=none) (h:∀ w,S w→(execOp A.eval o).run P w = .ok (.value v) w):YieldsIf P ops S o v A:=Or.inl ⟨by simp [Region.wanted,hg],h⟩
theorem Q1H {j:Nat} {want:Bool} {yb:Option Bool} (hg:o.guard=some (j,want)) (hy:yielded ops A.tmps j=yb) (h:yb=some want→∀ w,S w→(execOp A.eval o).run P w = .ok (.value v) w) (h2:yb≠some want→v=undef):YieldsIf P ops S o v A:=by
 by_cases hb:yb=some want
 ·exact Or.inl ⟨by simp [Region.wanted,hg,hy,hb],h hb⟩
 ·exact Or.inr ⟨by simp [Region.wanted,hg,hy,hb],h2 hb⟩
theorem Q0N {j:Nat} {c:Bool} {x:Value} (hg:o.guard=some (j,false)) (hy:yielded ops A.tmps j=some c) (h:c=false→∀ w,S w→(execOp A.eval o).run P w = .ok (.value x) w):YieldsIf P ops S o (gd c x) A:=by
 cases c with
 | true=>exact Q1H hg hy (fun h=>by cases h) (fun _=>rfl)
 | false=>exact Q1H hg hy (fun _=>h rfl) (fun h=>absurd rfl h)
theorem QA {j d:Nat} (h:(ops[j]?).bind (·.dst)=some d) {b:Bool} (hd:A.tmps[d]? = some (.bool b)):yielded ops A.tmps j=some b:=by
 unfold yielded
 rw [h]
 simp [hd]
theorem Q1r {j d:Nat} (h:(ops[j]?).bind (·.dst)=some d) (hd:A.tmps[d]? = some undef):yielded ops A.tmps j=none:=by
 unfold yielded
 rw [h]
 simp [hd,undef]
theorem Qp {i:Nat} {p:Op×Option (Nat×Bool)} (h:(ops[i]?).map (fun o=>(o.op,o.guard))=some p) (ho:ops[i]? = some o):o.op=p.1∧o.guard=p.2:=by
 rw [ho] at h
 simp only [Option.map_some,Option.some.injEq] at h
 rw [← h]
 exact ⟨rfl,rfl⟩
variable {ρ : Operand → Value} {w : World}
theorem Q0G {x:Operand} (h:o.op = .move x) (hv:ρ x=v):(execOp ρ o).run P w = .ok (.value v) w:=by
 simp only [execOp,h,hv]
 rfl
theorem Q7z {c a b:Operand} (h:o.op = .pick c a b) {d:Bool} (hc:ρ c = .bool d) (hv:(if d then ρ a else ρ b)=v):(execOp ρ o).run P w = .ok (.value v) w:=by
 simp only [execOp,h,hc,← hv]
 cases d<;>rfl
theorem Q76 {s:Sem Value} (h:s.run P w = .ok v w):(do pure (Next.value (← s)):Sem Next).run P w = .ok (.value v) w:=by
 simp [go_sem,h]
theorem Q31 {t:TypeId} {x ix:Operand} {xv iv:Value} (h:o.op = .indexAddr t x ix) (hx:ρ x=xv) (hi:ρ ix=iv) (hr:(Instr.indexAt t xv iv).run P w = .ok v w):(execOp ρ o).run P w = .ok (.value v) w:=by
 simp only [execOp,h,hx,hi]
 exact Q76 hr
theorem Q32 {t:TypeId} {x:Operand} {f:Nat} {xv:Value} (h:o.op = .fieldAddr t x f) (hx:ρ x=xv) (hr:(Instr.fieldAt t xv f).run P w = .ok v w):(execOp ρ o).run P w = .ok (.value v) w:=by
 simp only [execOp,h,hx]
 exact Q76 hr
theorem Q3M {t:TypeId} {x:Operand} {xv:Value} (h:o.op = .load t x) (hx:ρ x=xv) (hr:(Instr.loadAt t xv).run P w = .ok v w):(execOp ρ o).run P w = .ok (.value v) w:=by
 simp only [execOp,h,hx]
 exact Q76 hr
theorem Q8O {op:BinOp} {t t':TypeId} {x y:Operand} {xv yv:Value} (h:o.op = .binOp op t x y t') (hx:ρ x=xv) (hy:ρ y=yv) (hr:(do eqGuard op t x y xv yv;binOp op t xv yv:Sem Value).run P w = .ok v w):(execOp ρ o).run P w = .ok (.value v) w:=by
 simp only [execOp,h,hx,hy]
 exact Q76 hr
end
theorem Q3N {g k n c:Nat} (hk:k < n) (hn:n≤c) (w:World):(Instr.indexAt 29 (.slice (some ⟨g,0,none⟩) n c) (.int .i64 k)).run Tryz.prog w = .ok (.pointer (some ⟨g,k * 5,none⟩)) w:=by
 have h0:(0:Int)≤↑k:=by omega
 have h1:(↑k:Int) < ↑n:=by omega
 go_simp
theorem Qe5 (g j:Nat) (w:World):(Instr.fieldAt 48 (.pointer (some ⟨g,j,none⟩)) 0).run Tryz.prog w = .ok (.pointer (some ⟨g,j,none⟩)) w:=by go_simp
theorem Qe6 (g j:Nat) (w:World):(Instr.fieldAt 48 (.pointer (some ⟨g,j,none⟩)) 1).run Tryz.prog w = .ok (.pointer (some ⟨g,j + 1,none⟩)) w:=by go_simp
theorem Qe7 (g j:Nat) (w:World):(Instr.fieldAt 48 (.pointer (some ⟨g,j,none⟩)) 2).run Tryz.prog w = .ok (.pointer (some ⟨g,j + 2,none⟩)) w:=by go_simp
theorem Qe8 (g j:Nat) (w:World):(Instr.fieldAt 48 (.pointer (some ⟨g,j,none⟩)) 3).run Tryz.prog w = .ok (.pointer (some ⟨g,j + 3,none⟩)) w:=by go_simp
theorem Qe9 (g j:Nat) (w:World):(Instr.fieldAt 48 (.pointer (some ⟨g,j,none⟩)) 4).run Tryz.prog w = .ok (.pointer (some ⟨g,j + 4,none⟩)) w:=by go_simp
theorem Q6f {g j:Nat} {n:Int} {w:World} (h:w.cell? ⟨g,j,none⟩=some (.int .i64 n)):(Instr.loadAt 3 (.pointer (some ⟨g,j,none⟩))).run Tryz.prog w = .ok (.int .i64 n) w:=by go_simp
theorem QfR {g j:Nat} {n:Int} {w:World} (h:w.cell? ⟨g,j,none⟩=some (.int .i64 n)):(Instr.loadAt 2 (.pointer (some ⟨g,j,none⟩))).run Tryz.prog w = .ok (.int .i64 n) w:=by go_simp
theorem QfS {g j:Nat} {n:ByteArray} {w:World} (h:w.cell? ⟨g,j,none⟩=some (.string n)):(Instr.loadAt 9 (.pointer (some ⟨g,j,none⟩))).run Tryz.prog w = .ok (.string n) w:=by go_simp
theorem Qea (x y:Int) (p q:Operand) (w:World):(do eqGuard .neq 3 p q (.int .i64 x) (.int .i64 y);binOp .neq 3 (.int .i64 x) (.int .i64 y):Sem Value).run Tryz.prog w = .ok (.bool (decide (x≠y))) w:=by
 by_cases h:x=y
 ·go_simp
 ·go_simp
theorem Qnj (x y:Int) (p q:Operand) (w:World):(do eqGuard .neq 2 p q (.int .i64 x) (.int .i64 y);binOp .neq 2 (.int .i64 x) (.int .i64 y):Sem Value).run Tryz.prog w = .ok (.bool (decide (x≠y))) w:=by
 by_cases h:x=y
 ·go_simp
 ·go_simp
theorem Qnk (x y:ByteArray) (p q:Operand) (w:World):(do eqGuard .neq 9 p q (.string x) (.string y);binOp .neq 9 (.string x) (.string y):Sem Value).run Tryz.prog w = .ok (.bool (decide (x≠y))) w:=by
 have hb:(x.toList == y.toList)=decide (x=y):=by
  by_cases h:x=y
  ·subst h;simp
  ·rw [decide_eq_false h]
   refine beq_eq_false_iff_ne.2 fun e=>h ?_
   rw [ByteArray.toList_eq,ByteArray.toList_eq] at e
   exact ByteArray.ext (Array.toList_inj.mp e)
 have e:(binOp .neq 9 (.string x) (.string y):Sem Value)=Op.stringOp .neq x y:=rfl
 go_simp
 simp [Op.stringOp,go_sem,hb]
def Q7A (ga gb k n ca cb:Nat) (x0 x1:Int) (x2:ByteArray) (x3 x4 y0 y1:Int) (y2:ByteArray) (y3 y4:Int) (f e1 e2 e3 e4 e5:Bool):List Value:=
 [(.slice (some ⟨ga,0,none⟩) n ca),(.int .i64 k),(.pointer (some ⟨ga,k * 5,none⟩)),(.pointer (some ⟨ga,k * 5,none⟩)),(.int .i64 x0),(.slice (some ⟨gb,0,none⟩) n cb),(.int .i64 k),(.pointer (some ⟨gb,k * 5,none⟩)),(.pointer (some ⟨gb,k * 5,none⟩)),(.int .i64 y0),(.bool e1),(.bool e1),(gd e1 (.slice (some ⟨ga,0,none⟩) n ca)),(gd e1 (.int .i64 k)),(gd e1 (.pointer (some ⟨ga,k * 5,none⟩))),(gd e1 (.pointer (some ⟨ga,k * 5 + 1,none⟩))),(gd e1 (.int .i64 x1)),(gd e1 (.slice (some ⟨gb,0,none⟩) n cb)),(gd e1 (.int .i64 k)),(gd e1 (.pointer (some ⟨gb,k * 5,none⟩))),(gd e1 (.pointer (some ⟨gb,k * 5 + 1,none⟩))),(gd e1 (.int .i64 y1)),(gd e1 (.bool e2)),(.bool (e1 || e2)),(.bool (e1 || e2)),(gd (e1 || e2) (.slice (some ⟨ga,0,none⟩) n ca)),(gd (e1 || e2) (.int .i64 k)),(gd (e1 || e2) (.pointer (some ⟨ga,k * 5,none⟩))),(gd (e1 || e2) (.pointer (some ⟨ga,k * 5 + 2,none⟩))),(gd (e1 || e2) (.string x2)),(gd (e1 || e2) (.slice (some ⟨gb,0,none⟩) n cb)),(gd (e1 || e2) (.int .i64 k)),(gd (e1 || e2) (.pointer (some ⟨gb,k * 5,none⟩))),(gd (e1 || e2) (.pointer (some ⟨gb,k * 5 + 2,none⟩))),(gd (e1 || e2) (.string y2)),(gd (e1 || e2) (.bool e3)),(.bool (e1 || e2 || e3)),(.bool (e1 || e2 || e3)),(gd (e1 || e2 || e3) (.slice (some ⟨ga,0,none⟩) n ca)),(gd (e1 || e2 || e3) (.int .i64 k)),(gd (e1 || e2 || e3) (.pointer (some ⟨ga,k * 5,none⟩))),(gd (e1 || e2 || e3) (.pointer (some ⟨ga,k * 5 + 4,none⟩))),(gd (e1 || e2 || e3) (.int .i64 x4)),(gd (e1 || e2 || e3) (.slice (some ⟨gb,0,none⟩) n cb)),(gd (e1 || e2 || e3) (.int .i64 k)),(gd (e1 || e2 || e3) (.pointer (some ⟨gb,k * 5,none⟩))),(gd (e1 || e2 || e3) (.pointer (some ⟨gb,k * 5 + 4,none⟩))),(gd (e1 || e2 || e3) (.int .i64 y4)),(gd (e1 || e2 || e3) (.bool e4)),(.bool (e1 || e2 || e3 || e4)),(.bool (e1 || e2 || e3 || e4)),(gd (e1 || e2 || e3 || e4) (.bool f)),(gd (e1 || e2 || e3 || e4) (.bool f)),(gd (e1 || e2 || e3 || e4 || !f) (.slice (some ⟨ga,0,none⟩) n ca)),(gd (e1 || e2 || e3 || e4 || !f) (.int .i64 k)),(gd (e1 || e2 || e3 || e4 || !f) (.pointer (some ⟨ga,k * 5,none⟩))),(gd (e1 || e2 || e3 || e4 || !f) (.pointer (some ⟨ga,k * 5 + 3,none⟩))),(gd (e1 || e2 || e3 || e4 || !f) (.int .i64 x3)),(gd (e1 || e2 || e3 || e4 || !f) (.slice (some ⟨gb,0,none⟩) n cb)),(gd (e1 || e2 || e3 || e4 || !f) (.int .i64 k)),(gd (e1 || e2 || e3 || e4 || !f) (.pointer (some ⟨gb,k * 5,none⟩))),(gd (e1 || e2 || e3 || e4 || !f) (.pointer (some ⟨gb,k * 5 + 3,none⟩))),(gd (e1 || e2 || e3 || e4 || !f) (.int .i64 y3)),(gd (e1 || e2 || e3 || e4 || !f) (.bool e5)),(gd (e1 || e2 || e3 || e4) (.bool (f && e5))),(.bool (e1 || e2 || e3 || e4 || (f && e5)))]
section
variable {ga gb k n ca cb : Nat} {x0 x1 x3 x4 y0 y1 y3 y4 : Int} {x2 y2 : ByteArray} {f e1 e2 e3 e4 e5 : Bool} {l vs : List Value} {df : List Deferred}
theorem Q1Z {t:Nat} {v:Value} (h:l[t]? = some v):(Act.mk (l++vs).toArray df).eval (.tmp t)=v:=by
 have ht:t < l.length:=by
  by_cases ht:t < l.length
  ·exact ht
  ·rw [List.getElem?_eq_none (by omega)] at h;cases h
 simp only [Act.eval,Array.getD_eq_getD_getElem?,List.getElem?_toArray]
 rw [List.getElem?_append_left ht,h]
 rfl
theorem Q03 (hl:l.length=19) {j:Nat} {v:Value} (h:vs[j]? = some v):(Act.mk (l++vs).toArray df).tmps[19 + j]? = some v:=by
 simp only [List.getElem?_toArray]
 rw [List.getElem?_append_right (by omega),hl,Nat.add_sub_cancel_left,h]
theorem QH (hl:l.length=19) {j t:Nat} (ht:t=19 + j) {v:Value} (h:vs[j]? = some v):(Act.mk (l++vs).toArray df).eval (.tmp t)=v:=by
 subst ht
 have:=Q03 (df:=df) hl h
 simp only [Act.eval,Array.getD_eq_getD_getElem?,this]
 rfl
def QaV (ga gb k:Nat) (x0 x1:Int) (x2:ByteArray) (x3 x4 y0 y1:Int) (y2:ByteArray) (y3 y4:Int) (w:World):Prop:=
 w.cell? ⟨ga,k * 5,none⟩=some (.int .i64 x0)∧w.cell? ⟨ga,k * 5 + 1,none⟩=some (.int .i64 x1)∧w.cell? ⟨ga,k * 5 + 2,none⟩=some (.string x2)∧w.cell? ⟨ga,k * 5 + 3,none⟩=some (.int .i64 x3)∧w.cell? ⟨ga,k * 5 + 4,none⟩=some (.int .i64 x4) ∧
 w.cell? ⟨gb,k * 5,none⟩=some (.int .i64 y0)∧w.cell? ⟨gb,k * 5 + 1,none⟩=some (.int .i64 y1)∧w.cell? ⟨gb,k * 5 + 2,none⟩=some (.string y2)∧w.cell? ⟨gb,k * 5 + 3,none⟩=some (.int .i64 y3)∧w.cell? ⟨gb,k * 5 + 4,none⟩=some (.int .i64 y4)
theorem Q0s {c:Bool} {x:Value} (h:c=false):gd c x=x:=by rw [h];rfl
theorem Qv {Y:Nat→Prop} {n:Nat} (h:∀ i,i < n→Y i) (hn:Y n):∀ i,i < n + 1→Y i:=fun i hi=>by
 rcases Nat.lt_or_ge i n with h1 | h1
 ·exact h i h1
 ·rw [show i=n by omega];exact hn
def Qhl (ga gb k n ca cb:Nat) (x0 x1:Int) (x2:ByteArray) (x3 x4 y0 y1:Int) (y2:ByteArray) (y3 y4:Int) (f e1 e2 e3 e4 e5:Bool) (l:List Value) (df:List Deferred) (i:Nat):Prop:=∀ (o:Oper) (v:Value),((Tryz.f19.body.bind fun c=>Qu c 6).getD #[])[i]? = some o→(Q7A ga gb k n ca cb x0 x1 x2 x3 x4 y0 y1 y2 y3 y4 f e1 e2 e3 e4 e5)[i]? = some v→YieldsIf Tryz.prog ((Tryz.f19.body.bind fun c=>Qu c 6).getD #[]) (QaV ga gb k x0 x1 x2 x3 x4 y0 y1 y2 y3 y4) o v (Act.mk (l++(Q7A ga gb k n ca cb x0 x1 x2 x3 x4 y0 y1 y2 y3 y4 f e1 e2 e3 e4 e5)).toArray df)
def SY (i:Nat):Prop:=∀ {ga gb k n ca cb:Nat} {x0 x1 x3 x4 y0 y1 y3 y4:Int} {x2 y2:ByteArray} {f e1 e2 e3 e4 e5:Bool} {l:List Value} {df:List Deferred},l.length=19→l[0]? = some (.slice (some ⟨ga,0,none⟩) n ca)→l[1]? = some (.slice (some ⟨gb,0,none⟩) n cb)→l[2]? = some (.bool f)→l[7]? = some (.int .i64 k)→k < n→n≤ca→n≤cb→decide (x0≠y0)=e1→decide (x1≠y1)=e2→decide (x2≠y2)=e3→decide (x4≠y4)=e4→decide (x3≠y3)=e5→Qhl ga gb k n ca cb x0 x1 x2 x3 x4 y0 y1 y2 y3 y4 f e1 e2 e3 e4 e5 l df i
theorem QmN:SY 0:=by
 intro ga gb k n ca cb x0 x1 x3 x4 y0 y1 y3 y4 x2 y2 f e1 e2 e3 e4 e5 l df hl h0 h1 h2 h7 hk hna hnb b1 b2 b3 b4 b5 o v hi hv
 cases hv
 have ho:=Qp (ops:=((Tryz.f19.body.bind fun c=>Qu c 6).getD #[])) (i:=0) (p:=(.move (.tmp 0),none)) (by kernel_rfl) hi
 refine Q1l ho.2 fun w hS=>?_
 exact Q0G ho.1 (Q1Z h0)
theorem QmO:SY 1:=by
 intro ga gb k n ca cb x0 x1 x3 x4 y0 y1 y3 y4 x2 y2 f e1 e2 e3 e4 e5 l df hl h0 h1 h2 h7 hk hna hnb b1 b2 b3 b4 b5 o v hi hv
 cases hv
 have ho:=Qp (ops:=((Tryz.f19.body.bind fun c=>Qu c 6).getD #[])) (i:=1) (p:=(.move (.tmp 7),none)) (by kernel_rfl) hi
 refine Q1l ho.2 fun w hS=>?_
 exact Q0G ho.1 (Q1Z h7)
theorem QmP:SY 2:=by
 intro ga gb k n ca cb x0 x1 x3 x4 y0 y1 y3 y4 x2 y2 f e1 e2 e3 e4 e5 l df hl h0 h1 h2 h7 hk hna hnb b1 b2 b3 b4 b5 o v hi hv
 cases hv
 have ho:=Qp (ops:=((Tryz.f19.body.bind fun c=>Qu c 6).getD #[])) (i:=2) (p:=(.indexAddr 29 (.tmp 19) (.tmp 20),none)) (by kernel_rfl) hi
 refine Q1l ho.2 fun w hS=>?_
 exact Q31 ho.1 (QH (j:=0) hl rfl rfl) (QH (j:=1) hl rfl rfl) (Q3N hk hna w)
theorem QmQ:SY 3:=by
 intro ga gb k n ca cb x0 x1 x3 x4 y0 y1 y3 y4 x2 y2 f e1 e2 e3 e4 e5 l df hl h0 h1 h2 h7 hk hna hnb b1 b2 b3 b4 b5 o v hi hv
 cases hv
 have ho:=Qp (ops:=((Tryz.f19.body.bind fun c=>Qu c 6).getD #[])) (i:=3) (p:=(.fieldAddr 48 (.tmp 21) 0,none)) (by kernel_rfl) hi
 refine Q1l ho.2 fun w hS=>?_
 exact Q32 ho.1 (QH (j:=2) hl rfl rfl) (Qe5 ga (k * 5) w)
theorem QmR:SY 4:=by
 intro ga gb k n ca cb x0 x1 x3 x4 y0 y1 y3 y4 x2 y2 f e1 e2 e3 e4 e5 l df hl h0 h1 h2 h7 hk hna hnb b1 b2 b3 b4 b5 o v hi hv
 cases hv
 have ho:=Qp (ops:=((Tryz.f19.body.bind fun c=>Qu c 6).getD #[])) (i:=4) (p:=(.load 3 (.tmp 22),none)) (by kernel_rfl) hi
 refine Q1l ho.2 fun w hS=>?_
 exact Q3M ho.1 (QH (j:=3) hl rfl rfl) (Q6f hS.1)
theorem QmS:SY 5:=by
 intro ga gb k n ca cb x0 x1 x3 x4 y0 y1 y3 y4 x2 y2 f e1 e2 e3 e4 e5 l df hl h0 h1 h2 h7 hk hna hnb b1 b2 b3 b4 b5 o v hi hv
 cases hv
 have ho:=Qp (ops:=((Tryz.f19.body.bind fun c=>Qu c 6).getD #[])) (i:=5) (p:=(.move (.tmp 1),none)) (by kernel_rfl) hi
 refine Q1l ho.2 fun w hS=>?_
 exact Q0G ho.1 (Q1Z h1)
theorem QmT:SY 6:=by
 intro ga gb k n ca cb x0 x1 x3 x4 y0 y1 y3 y4 x2 y2 f e1 e2 e3 e4 e5 l df hl h0 h1 h2 h7 hk hna hnb b1 b2 b3 b4 b5 o v hi hv
 cases hv
 have ho:=Qp (ops:=((Tryz.f19.body.bind fun c=>Qu c 6).getD #[])) (i:=6) (p:=(.move (.tmp 7),none)) (by kernel_rfl) hi
 refine Q1l ho.2 fun w hS=>?_
 exact Q0G ho.1 (Q1Z h7)
theorem QmU:SY 7:=by
 intro ga gb k n ca cb x0 x1 x3 x4 y0 y1 y3 y4 x2 y2 f e1 e2 e3 e4 e5 l df hl h0 h1 h2 h7 hk hna hnb b1 b2 b3 b4 b5 o v hi hv
 cases hv
 have ho:=Qp (ops:=((Tryz.f19.body.bind fun c=>Qu c 6).getD #[])) (i:=7) (p:=(.indexAddr 29 (.tmp 24) (.tmp 25),none)) (by kernel_rfl) hi
 refine Q1l ho.2 fun w hS=>?_
 exact Q31 ho.1 (QH (j:=5) hl rfl rfl) (QH (j:=6) hl rfl rfl) (Q3N hk hnb w)
theorem QmV:SY 8:=by
 intro ga gb k n ca cb x0 x1 x3 x4 y0 y1 y3 y4 x2 y2 f e1 e2 e3 e4 e5 l df hl h0 h1 h2 h7 hk hna hnb b1 b2 b3 b4 b5 o v hi hv
 cases hv
 have ho:=Qp (ops:=((Tryz.f19.body.bind fun c=>Qu c 6).getD #[])) (i:=8) (p:=(.fieldAddr 48 (.tmp 26) 0,none)) (by kernel_rfl) hi
 refine Q1l ho.2 fun w hS=>?_
 exact Q32 ho.1 (QH (j:=7) hl rfl rfl) (Qe5 gb (k * 5) w)
theorem QmW:SY 9:=by
 intro ga gb k n ca cb x0 x1 x3 x4 y0 y1 y3 y4 x2 y2 f e1 e2 e3 e4 e5 l df hl h0 h1 h2 h7 hk hna hnb b1 b2 b3 b4 b5 o v hi hv
 cases hv
 have ho:=Qp (ops:=((Tryz.f19.body.bind fun c=>Qu c 6).getD #[])) (i:=9) (p:=(.load 3 (.tmp 27),none)) (by kernel_rfl) hi
 refine Q1l ho.2 fun w hS=>?_
 exact Q3M ho.1 (QH (j:=8) hl rfl rfl) (Q6f hS.2.2.2.2.2.1)
theorem QkC:SY 10:=by
 intro ga gb k n ca cb x0 x1 x3 x4 y0 y1 y3 y4 x2 y2 f e1 e2 e3 e4 e5 l df hl h0 h1 h2 h7 hk hna hnb b1 b2 b3 b4 b5 o v hi hv
 cases hv
 have ho:=Qp (ops:=((Tryz.f19.body.bind fun c=>Qu c 6).getD #[])) (i:=10) (p:=(.binOp .neq 3 (.tmp 23) (.tmp 28) 3,none)) (by kernel_rfl) hi
 refine Q1l ho.2 fun w hS=>?_
 exact Q8O ho.1 (QH (j:=4) hl rfl rfl) (QH (j:=9) hl rfl rfl) ((Qea _ _ _ _ w).trans (by rw [b1]<;>rfl))
theorem QkD:SY 11:=by
 intro ga gb k n ca cb x0 x1 x3 x4 y0 y1 y3 y4 x2 y2 f e1 e2 e3 e4 e5 l df hl h0 h1 h2 h7 hk hna hnb b1 b2 b3 b4 b5 o v hi hv
 cases hv
 have ho:=Qp (ops:=((Tryz.f19.body.bind fun c=>Qu c 6).getD #[])) (i:=11) (p:=(.move (.tmp 29),none)) (by kernel_rfl) hi
 refine Q1l ho.2 fun w hS=>?_
 exact Q0G ho.1 (QH (j:=10) hl rfl rfl)
theorem QkE:SY 12:=by
 intro ga gb k n ca cb x0 x1 x3 x4 y0 y1 y3 y4 x2 y2 f e1 e2 e3 e4 e5 l df hl h0 h1 h2 h7 hk hna hnb b1 b2 b3 b4 b5 o v hi hv
 cases hv
 have ho:=Qp (ops:=((Tryz.f19.body.bind fun c=>Qu c 6).getD #[])) (i:=12) (p:=(.move (.tmp 0),some (11,false))) (by kernel_rfl) hi
 refine Q0N ho.2 (QA (d:=30) (by kernel_rfl) (Q03 (j:=11) hl rfl)) fun hc w hS=>?_
 exact Q0G ho.1 (Q1Z h0)
theorem QkF:SY 13:=by
 intro ga gb k n ca cb x0 x1 x3 x4 y0 y1 y3 y4 x2 y2 f e1 e2 e3 e4 e5 l df hl h0 h1 h2 h7 hk hna hnb b1 b2 b3 b4 b5 o v hi hv
 cases hv
 have ho:=Qp (ops:=((Tryz.f19.body.bind fun c=>Qu c 6).getD #[])) (i:=13) (p:=(.move (.tmp 7),some (11,false))) (by kernel_rfl) hi
 refine Q0N ho.2 (QA (d:=30) (by kernel_rfl) (Q03 (j:=11) hl rfl)) fun hc w hS=>?_
 exact Q0G ho.1 (Q1Z h7)
theorem QkG:SY 14:=by
 intro ga gb k n ca cb x0 x1 x3 x4 y0 y1 y3 y4 x2 y2 f e1 e2 e3 e4 e5 l df hl h0 h1 h2 h7 hk hna hnb b1 b2 b3 b4 b5 o v hi hv
 cases hv
 have ho:=Qp (ops:=((Tryz.f19.body.bind fun c=>Qu c 6).getD #[])) (i:=14) (p:=(.indexAddr 29 (.tmp 31) (.tmp 32),some (11,false))) (by kernel_rfl) hi
 refine Q0N ho.2 (QA (d:=30) (by kernel_rfl) (Q03 (j:=11) hl rfl)) fun hc w hS=>?_
 exact Q31 ho.1 ((QH (j:=12) hl rfl rfl).trans (Q0s hc)) ((QH (j:=13) hl rfl rfl).trans (Q0s hc)) (Q3N hk hna w)
theorem QkH:SY 15:=by
 intro ga gb k n ca cb x0 x1 x3 x4 y0 y1 y3 y4 x2 y2 f e1 e2 e3 e4 e5 l df hl h0 h1 h2 h7 hk hna hnb b1 b2 b3 b4 b5 o v hi hv
 cases hv
 have ho:=Qp (ops:=((Tryz.f19.body.bind fun c=>Qu c 6).getD #[])) (i:=15) (p:=(.fieldAddr 48 (.tmp 33) 1,some (11,false))) (by kernel_rfl) hi
 refine Q0N ho.2 (QA (d:=30) (by kernel_rfl) (Q03 (j:=11) hl rfl)) fun hc w hS=>?_
 exact Q32 ho.1 ((QH (j:=14) hl rfl rfl).trans (Q0s hc)) (Qe6 ga (k * 5) w)
theorem QkI:SY 16:=by
 intro ga gb k n ca cb x0 x1 x3 x4 y0 y1 y3 y4 x2 y2 f e1 e2 e3 e4 e5 l df hl h0 h1 h2 h7 hk hna hnb b1 b2 b3 b4 b5 o v hi hv
 cases hv
 have ho:=Qp (ops:=((Tryz.f19.body.bind fun c=>Qu c 6).getD #[])) (i:=16) (p:=(.load 2 (.tmp 34),some (11,false))) (by kernel_rfl) hi
 refine Q0N ho.2 (QA (d:=30) (by kernel_rfl) (Q03 (j:=11) hl rfl)) fun hc w hS=>?_
 exact Q3M ho.1 ((QH (j:=15) hl rfl rfl).trans (Q0s hc)) (QfR hS.2.1)
theorem QkJ:SY 17:=by
 intro ga gb k n ca cb x0 x1 x3 x4 y0 y1 y3 y4 x2 y2 f e1 e2 e3 e4 e5 l df hl h0 h1 h2 h7 hk hna hnb b1 b2 b3 b4 b5 o v hi hv
 cases hv
 have ho:=Qp (ops:=((Tryz.f19.body.bind fun c=>Qu c 6).getD #[])) (i:=17) (p:=(.move (.tmp 1),some (11,false))) (by kernel_rfl) hi
 refine Q0N ho.2 (QA (d:=30) (by kernel_rfl) (Q03 (j:=11) hl rfl)) fun hc w hS=>?_
 exact Q0G ho.1 (Q1Z h1)
theorem QkK:SY 18:=by
 intro ga gb k n ca cb x0 x1 x3 x4 y0 y1 y3 y4 x2 y2 f e1 e2 e3 e4 e5 l df hl h0 h1 h2 h7 hk hna hnb b1 b2 b3 b4 b5 o v hi hv
 cases hv
 have ho:=Qp (ops:=((Tryz.f19.body.bind fun c=>Qu c 6).getD #[])) (i:=18) (p:=(.move (.tmp 7),some (11,false))) (by kernel_rfl) hi
 refine Q0N ho.2 (QA (d:=30) (by kernel_rfl) (Q03 (j:=11) hl rfl)) fun hc w hS=>?_
 exact Q0G ho.1 (Q1Z h7)
theorem QkL:SY 19:=by
 intro ga gb k n ca cb x0 x1 x3 x4 y0 y1 y3 y4 x2 y2 f e1 e2 e3 e4 e5 l df hl h0 h1 h2 h7 hk hna hnb b1 b2 b3 b4 b5 o v hi hv
 cases hv
 have ho:=Qp (ops:=((Tryz.f19.body.bind fun c=>Qu c 6).getD #[])) (i:=19) (p:=(.indexAddr 29 (.tmp 36) (.tmp 37),some (11,false))) (by kernel_rfl) hi
 refine Q0N ho.2 (QA (d:=30) (by kernel_rfl) (Q03 (j:=11) hl rfl)) fun hc w hS=>?_
 exact Q31 ho.1 ((QH (j:=17) hl rfl rfl).trans (Q0s hc)) ((QH (j:=18) hl rfl rfl).trans (Q0s hc)) (Q3N hk hnb w)
theorem QkM:SY 20:=by
 intro ga gb k n ca cb x0 x1 x3 x4 y0 y1 y3 y4 x2 y2 f e1 e2 e3 e4 e5 l df hl h0 h1 h2 h7 hk hna hnb b1 b2 b3 b4 b5 o v hi hv
 cases hv
 have ho:=Qp (ops:=((Tryz.f19.body.bind fun c=>Qu c 6).getD #[])) (i:=20) (p:=(.fieldAddr 48 (.tmp 38) 1,some (11,false))) (by kernel_rfl) hi
 refine Q0N ho.2 (QA (d:=30) (by kernel_rfl) (Q03 (j:=11) hl rfl)) fun hc w hS=>?_
 exact Q32 ho.1 ((QH (j:=19) hl rfl rfl).trans (Q0s hc)) (Qe6 gb (k * 5) w)
theorem QkN:SY 21:=by
 intro ga gb k n ca cb x0 x1 x3 x4 y0 y1 y3 y4 x2 y2 f e1 e2 e3 e4 e5 l df hl h0 h1 h2 h7 hk hna hnb b1 b2 b3 b4 b5 o v hi hv
 cases hv
 have ho:=Qp (ops:=((Tryz.f19.body.bind fun c=>Qu c 6).getD #[])) (i:=21) (p:=(.load 2 (.tmp 39),some (11,false))) (by kernel_rfl) hi
 refine Q0N ho.2 (QA (d:=30) (by kernel_rfl) (Q03 (j:=11) hl rfl)) fun hc w hS=>?_
 exact Q3M ho.1 ((QH (j:=20) hl rfl rfl).trans (Q0s hc)) (QfR hS.2.2.2.2.2.2.1)
theorem QkO:SY 22:=by
 intro ga gb k n ca cb x0 x1 x3 x4 y0 y1 y3 y4 x2 y2 f e1 e2 e3 e4 e5 l df hl h0 h1 h2 h7 hk hna hnb b1 b2 b3 b4 b5 o v hi hv
 cases hv
 have ho:=Qp (ops:=((Tryz.f19.body.bind fun c=>Qu c 6).getD #[])) (i:=22) (p:=(.binOp .neq 2 (.tmp 35) (.tmp 40) 2,some (11,false))) (by kernel_rfl) hi
 refine Q0N ho.2 (QA (d:=30) (by kernel_rfl) (Q03 (j:=11) hl rfl)) fun hc w hS=>?_
 exact Q8O ho.1 ((QH (j:=16) hl rfl rfl).trans (Q0s hc)) ((QH (j:=21) hl rfl rfl).trans (Q0s hc)) ((Qnj _ _ _ _ w).trans (by rw [b2]<;>rfl))
theorem QkP:SY 23:=by
 intro ga gb k n ca cb x0 x1 x3 x4 y0 y1 y3 y4 x2 y2 f e1 e2 e3 e4 e5 l df hl h0 h1 h2 h7 hk hna hnb b1 b2 b3 b4 b5 o v hi hv
 cases hv
 have ho:=Qp (ops:=((Tryz.f19.body.bind fun c=>Qu c 6).getD #[])) (i:=23) (p:=(.pick (.tmp 30) (.const (.bool true)) (.tmp 41),none)) (by kernel_rfl) hi
 refine Q1l ho.2 fun w hS=>?_
 refine Q7z ho.1 (d:=e1) (QH (j:=11) hl rfl rfl) ?_
 rw [QH (j:=22) hl rfl rfl]
 (cases e1<;>cases e2<;>cases e3<;>cases e4<;>cases f<;>cases e5<;>rfl)
theorem QkQ:SY 24:=by
 intro ga gb k n ca cb x0 x1 x3 x4 y0 y1 y3 y4 x2 y2 f e1 e2 e3 e4 e5 l df hl h0 h1 h2 h7 hk hna hnb b1 b2 b3 b4 b5 o v hi hv
 cases hv
 have ho:=Qp (ops:=((Tryz.f19.body.bind fun c=>Qu c 6).getD #[])) (i:=24) (p:=(.move (.tmp 42),none)) (by kernel_rfl) hi
 refine Q1l ho.2 fun w hS=>?_
 exact Q0G ho.1 (QH (j:=23) hl rfl rfl)
theorem QkR:SY 25:=by
 intro ga gb k n ca cb x0 x1 x3 x4 y0 y1 y3 y4 x2 y2 f e1 e2 e3 e4 e5 l df hl h0 h1 h2 h7 hk hna hnb b1 b2 b3 b4 b5 o v hi hv
 cases hv
 have ho:=Qp (ops:=((Tryz.f19.body.bind fun c=>Qu c 6).getD #[])) (i:=25) (p:=(.move (.tmp 0),some (24,false))) (by kernel_rfl) hi
 refine Q0N ho.2 (QA (d:=43) (by kernel_rfl) (Q03 (j:=24) hl rfl)) fun hc w hS=>?_
 exact Q0G ho.1 (Q1Z h0)
theorem QkS:SY 26:=by
 intro ga gb k n ca cb x0 x1 x3 x4 y0 y1 y3 y4 x2 y2 f e1 e2 e3 e4 e5 l df hl h0 h1 h2 h7 hk hna hnb b1 b2 b3 b4 b5 o v hi hv
 cases hv
 have ho:=Qp (ops:=((Tryz.f19.body.bind fun c=>Qu c 6).getD #[])) (i:=26) (p:=(.move (.tmp 7),some (24,false))) (by kernel_rfl) hi
 refine Q0N ho.2 (QA (d:=43) (by kernel_rfl) (Q03 (j:=24) hl rfl)) fun hc w hS=>?_
 exact Q0G ho.1 (Q1Z h7)
theorem QkT:SY 27:=by
 intro ga gb k n ca cb x0 x1 x3 x4 y0 y1 y3 y4 x2 y2 f e1 e2 e3 e4 e5 l df hl h0 h1 h2 h7 hk hna hnb b1 b2 b3 b4 b5 o v hi hv
 cases hv
 have ho:=Qp (ops:=((Tryz.f19.body.bind fun c=>Qu c 6).getD #[])) (i:=27) (p:=(.indexAddr 29 (.tmp 44) (.tmp 45),some (24,false))) (by kernel_rfl) hi
 refine Q0N ho.2 (QA (d:=43) (by kernel_rfl) (Q03 (j:=24) hl rfl)) fun hc w hS=>?_
 exact Q31 ho.1 ((QH (j:=25) hl rfl rfl).trans (Q0s hc)) ((QH (j:=26) hl rfl rfl).trans (Q0s hc)) (Q3N hk hna w)
theorem QkU:SY 28:=by
 intro ga gb k n ca cb x0 x1 x3 x4 y0 y1 y3 y4 x2 y2 f e1 e2 e3 e4 e5 l df hl h0 h1 h2 h7 hk hna hnb b1 b2 b3 b4 b5 o v hi hv
 cases hv
 have ho:=Qp (ops:=((Tryz.f19.body.bind fun c=>Qu c 6).getD #[])) (i:=28) (p:=(.fieldAddr 48 (.tmp 46) 2,some (24,false))) (by kernel_rfl) hi
 refine Q0N ho.2 (QA (d:=43) (by kernel_rfl) (Q03 (j:=24) hl rfl)) fun hc w hS=>?_
 exact Q32 ho.1 ((QH (j:=27) hl rfl rfl).trans (Q0s hc)) (Qe7 ga (k * 5) w)
theorem QkV:SY 29:=by
 intro ga gb k n ca cb x0 x1 x3 x4 y0 y1 y3 y4 x2 y2 f e1 e2 e3 e4 e5 l df hl h0 h1 h2 h7 hk hna hnb b1 b2 b3 b4 b5 o v hi hv
 cases hv
 have ho:=Qp (ops:=((Tryz.f19.body.bind fun c=>Qu c 6).getD #[])) (i:=29) (p:=(.load 9 (.tmp 47),some (24,false))) (by kernel_rfl) hi
 refine Q0N ho.2 (QA (d:=43) (by kernel_rfl) (Q03 (j:=24) hl rfl)) fun hc w hS=>?_
 exact Q3M ho.1 ((QH (j:=28) hl rfl rfl).trans (Q0s hc)) (QfS hS.2.2.1)
theorem QkW:SY 30:=by
 intro ga gb k n ca cb x0 x1 x3 x4 y0 y1 y3 y4 x2 y2 f e1 e2 e3 e4 e5 l df hl h0 h1 h2 h7 hk hna hnb b1 b2 b3 b4 b5 o v hi hv
 cases hv
 have ho:=Qp (ops:=((Tryz.f19.body.bind fun c=>Qu c 6).getD #[])) (i:=30) (p:=(.move (.tmp 1),some (24,false))) (by kernel_rfl) hi
 refine Q0N ho.2 (QA (d:=43) (by kernel_rfl) (Q03 (j:=24) hl rfl)) fun hc w hS=>?_
 exact Q0G ho.1 (Q1Z h1)
theorem QkX:SY 31:=by
 intro ga gb k n ca cb x0 x1 x3 x4 y0 y1 y3 y4 x2 y2 f e1 e2 e3 e4 e5 l df hl h0 h1 h2 h7 hk hna hnb b1 b2 b3 b4 b5 o v hi hv
 cases hv
 have ho:=Qp (ops:=((Tryz.f19.body.bind fun c=>Qu c 6).getD #[])) (i:=31) (p:=(.move (.tmp 7),some (24,false))) (by kernel_rfl) hi
 refine Q0N ho.2 (QA (d:=43) (by kernel_rfl) (Q03 (j:=24) hl rfl)) fun hc w hS=>?_
 exact Q0G ho.1 (Q1Z h7)
theorem QkY:SY 32:=by
 intro ga gb k n ca cb x0 x1 x3 x4 y0 y1 y3 y4 x2 y2 f e1 e2 e3 e4 e5 l df hl h0 h1 h2 h7 hk hna hnb b1 b2 b3 b4 b5 o v hi hv
 cases hv
 have ho:=Qp (ops:=((Tryz.f19.body.bind fun c=>Qu c 6).getD #[])) (i:=32) (p:=(.indexAddr 29 (.tmp 49) (.tmp 50),some (24,false))) (by kernel_rfl) hi
 refine Q0N ho.2 (QA (d:=43) (by kernel_rfl) (Q03 (j:=24) hl rfl)) fun hc w hS=>?_
 exact Q31 ho.1 ((QH (j:=30) hl rfl rfl).trans (Q0s hc)) ((QH (j:=31) hl rfl rfl).trans (Q0s hc)) (Q3N hk hnb w)
theorem QkZ:SY 33:=by
 intro ga gb k n ca cb x0 x1 x3 x4 y0 y1 y3 y4 x2 y2 f e1 e2 e3 e4 e5 l df hl h0 h1 h2 h7 hk hna hnb b1 b2 b3 b4 b5 o v hi hv
 cases hv
 have ho:=Qp (ops:=((Tryz.f19.body.bind fun c=>Qu c 6).getD #[])) (i:=33) (p:=(.fieldAddr 48 (.tmp 51) 2,some (24,false))) (by kernel_rfl) hi
 refine Q0N ho.2 (QA (d:=43) (by kernel_rfl) (Q03 (j:=24) hl rfl)) fun hc w hS=>?_
 exact Q32 ho.1 ((QH (j:=32) hl rfl rfl).trans (Q0s hc)) (Qe7 gb (k * 5) w)
theorem Ql0:SY 34:=by
 intro ga gb k n ca cb x0 x1 x3 x4 y0 y1 y3 y4 x2 y2 f e1 e2 e3 e4 e5 l df hl h0 h1 h2 h7 hk hna hnb b1 b2 b3 b4 b5 o v hi hv
 cases hv
 have ho:=Qp (ops:=((Tryz.f19.body.bind fun c=>Qu c 6).getD #[])) (i:=34) (p:=(.load 9 (.tmp 52),some (24,false))) (by kernel_rfl) hi
 refine Q0N ho.2 (QA (d:=43) (by kernel_rfl) (Q03 (j:=24) hl rfl)) fun hc w hS=>?_
 exact Q3M ho.1 ((QH (j:=33) hl rfl rfl).trans (Q0s hc)) (QfS hS.2.2.2.2.2.2.2.1)
theorem Ql1:SY 35:=by
 intro ga gb k n ca cb x0 x1 x3 x4 y0 y1 y3 y4 x2 y2 f e1 e2 e3 e4 e5 l df hl h0 h1 h2 h7 hk hna hnb b1 b2 b3 b4 b5 o v hi hv
 cases hv
 have ho:=Qp (ops:=((Tryz.f19.body.bind fun c=>Qu c 6).getD #[])) (i:=35) (p:=(.binOp .neq 9 (.tmp 48) (.tmp 53) 9,some (24,false))) (by kernel_rfl) hi
 refine Q0N ho.2 (QA (d:=43) (by kernel_rfl) (Q03 (j:=24) hl rfl)) fun hc w hS=>?_
 exact Q8O ho.1 ((QH (j:=29) hl rfl rfl).trans (Q0s hc)) ((QH (j:=34) hl rfl rfl).trans (Q0s hc)) ((Qnk _ _ _ _ w).trans (by rw [b3]<;>rfl))
theorem Ql2:SY 36:=by
 intro ga gb k n ca cb x0 x1 x3 x4 y0 y1 y3 y4 x2 y2 f e1 e2 e3 e4 e5 l df hl h0 h1 h2 h7 hk hna hnb b1 b2 b3 b4 b5 o v hi hv
 cases hv
 have ho:=Qp (ops:=((Tryz.f19.body.bind fun c=>Qu c 6).getD #[])) (i:=36) (p:=(.pick (.tmp 43) (.const (.bool true)) (.tmp 54),none)) (by kernel_rfl) hi
 refine Q1l ho.2 fun w hS=>?_
 refine Q7z ho.1 (d:=(e1 || e2)) (QH (j:=24) hl rfl rfl) ?_
 rw [QH (j:=35) hl rfl rfl]
 (cases e1<;>cases e2<;>cases e3<;>cases e4<;>cases f<;>cases e5<;>rfl)
theorem Ql3:SY 37:=by
 intro ga gb k n ca cb x0 x1 x3 x4 y0 y1 y3 y4 x2 y2 f e1 e2 e3 e4 e5 l df hl h0 h1 h2 h7 hk hna hnb b1 b2 b3 b4 b5 o v hi hv
 cases hv
 have ho:=Qp (ops:=((Tryz.f19.body.bind fun c=>Qu c 6).getD #[])) (i:=37) (p:=(.move (.tmp 55),none)) (by kernel_rfl) hi
 refine Q1l ho.2 fun w hS=>?_
 exact Q0G ho.1 (QH (j:=36) hl rfl rfl)
theorem Ql4:SY 38:=by
 intro ga gb k n ca cb x0 x1 x3 x4 y0 y1 y3 y4 x2 y2 f e1 e2 e3 e4 e5 l df hl h0 h1 h2 h7 hk hna hnb b1 b2 b3 b4 b5 o v hi hv
 cases hv
 have ho:=Qp (ops:=((Tryz.f19.body.bind fun c=>Qu c 6).getD #[])) (i:=38) (p:=(.move (.tmp 0),some (37,false))) (by kernel_rfl) hi
 refine Q0N ho.2 (QA (d:=56) (by kernel_rfl) (Q03 (j:=37) hl rfl)) fun hc w hS=>?_
 exact Q0G ho.1 (Q1Z h0)
theorem Ql5:SY 39:=by
 intro ga gb k n ca cb x0 x1 x3 x4 y0 y1 y3 y4 x2 y2 f e1 e2 e3 e4 e5 l df hl h0 h1 h2 h7 hk hna hnb b1 b2 b3 b4 b5 o v hi hv
 cases hv
 have ho:=Qp (ops:=((Tryz.f19.body.bind fun c=>Qu c 6).getD #[])) (i:=39) (p:=(.move (.tmp 7),some (37,false))) (by kernel_rfl) hi
 refine Q0N ho.2 (QA (d:=56) (by kernel_rfl) (Q03 (j:=37) hl rfl)) fun hc w hS=>?_
 exact Q0G ho.1 (Q1Z h7)
theorem Ql6:SY 40:=by
 intro ga gb k n ca cb x0 x1 x3 x4 y0 y1 y3 y4 x2 y2 f e1 e2 e3 e4 e5 l df hl h0 h1 h2 h7 hk hna hnb b1 b2 b3 b4 b5 o v hi hv
 cases hv
 have ho:=Qp (ops:=((Tryz.f19.body.bind fun c=>Qu c 6).getD #[])) (i:=40) (p:=(.indexAddr 29 (.tmp 57) (.tmp 58),some (37,false))) (by kernel_rfl) hi
 refine Q0N ho.2 (QA (d:=56) (by kernel_rfl) (Q03 (j:=37) hl rfl)) fun hc w hS=>?_
 exact Q31 ho.1 ((QH (j:=38) hl rfl rfl).trans (Q0s hc)) ((QH (j:=39) hl rfl rfl).trans (Q0s hc)) (Q3N hk hna w)
theorem Ql7:SY 41:=by
 intro ga gb k n ca cb x0 x1 x3 x4 y0 y1 y3 y4 x2 y2 f e1 e2 e3 e4 e5 l df hl h0 h1 h2 h7 hk hna hnb b1 b2 b3 b4 b5 o v hi hv
 cases hv
 have ho:=Qp (ops:=((Tryz.f19.body.bind fun c=>Qu c 6).getD #[])) (i:=41) (p:=(.fieldAddr 48 (.tmp 59) 4,some (37,false))) (by kernel_rfl) hi
 refine Q0N ho.2 (QA (d:=56) (by kernel_rfl) (Q03 (j:=37) hl rfl)) fun hc w hS=>?_
 exact Q32 ho.1 ((QH (j:=40) hl rfl rfl).trans (Q0s hc)) (Qe9 ga (k * 5) w)
theorem Ql8:SY 42:=by
 intro ga gb k n ca cb x0 x1 x3 x4 y0 y1 y3 y4 x2 y2 f e1 e2 e3 e4 e5 l df hl h0 h1 h2 h7 hk hna hnb b1 b2 b3 b4 b5 o v hi hv
 cases hv
 have ho:=Qp (ops:=((Tryz.f19.body.bind fun c=>Qu c 6).getD #[])) (i:=42) (p:=(.load 3 (.tmp 60),some (37,false))) (by kernel_rfl) hi
 refine Q0N ho.2 (QA (d:=56) (by kernel_rfl) (Q03 (j:=37) hl rfl)) fun hc w hS=>?_
 exact Q3M ho.1 ((QH (j:=41) hl rfl rfl).trans (Q0s hc)) (Q6f hS.2.2.2.2.1)
theorem Ql9:SY 43:=by
 intro ga gb k n ca cb x0 x1 x3 x4 y0 y1 y3 y4 x2 y2 f e1 e2 e3 e4 e5 l df hl h0 h1 h2 h7 hk hna hnb b1 b2 b3 b4 b5 o v hi hv
 cases hv
 have ho:=Qp (ops:=((Tryz.f19.body.bind fun c=>Qu c 6).getD #[])) (i:=43) (p:=(.move (.tmp 1),some (37,false))) (by kernel_rfl) hi
 refine Q0N ho.2 (QA (d:=56) (by kernel_rfl) (Q03 (j:=37) hl rfl)) fun hc w hS=>?_
 exact Q0G ho.1 (Q1Z h1)
theorem Qla:SY 44:=by
 intro ga gb k n ca cb x0 x1 x3 x4 y0 y1 y3 y4 x2 y2 f e1 e2 e3 e4 e5 l df hl h0 h1 h2 h7 hk hna hnb b1 b2 b3 b4 b5 o v hi hv
 cases hv
 have ho:=Qp (ops:=((Tryz.f19.body.bind fun c=>Qu c 6).getD #[])) (i:=44) (p:=(.move (.tmp 7),some (37,false))) (by kernel_rfl) hi
 refine Q0N ho.2 (QA (d:=56) (by kernel_rfl) (Q03 (j:=37) hl rfl)) fun hc w hS=>?_
 exact Q0G ho.1 (Q1Z h7)
theorem Qlb:SY 45:=by
 intro ga gb k n ca cb x0 x1 x3 x4 y0 y1 y3 y4 x2 y2 f e1 e2 e3 e4 e5 l df hl h0 h1 h2 h7 hk hna hnb b1 b2 b3 b4 b5 o v hi hv
 cases hv
 have ho:=Qp (ops:=((Tryz.f19.body.bind fun c=>Qu c 6).getD #[])) (i:=45) (p:=(.indexAddr 29 (.tmp 62) (.tmp 63),some (37,false))) (by kernel_rfl) hi
 refine Q0N ho.2 (QA (d:=56) (by kernel_rfl) (Q03 (j:=37) hl rfl)) fun hc w hS=>?_
 exact Q31 ho.1 ((QH (j:=43) hl rfl rfl).trans (Q0s hc)) ((QH (j:=44) hl rfl rfl).trans (Q0s hc)) (Q3N hk hnb w)
theorem Qlc:SY 46:=by
 intro ga gb k n ca cb x0 x1 x3 x4 y0 y1 y3 y4 x2 y2 f e1 e2 e3 e4 e5 l df hl h0 h1 h2 h7 hk hna hnb b1 b2 b3 b4 b5 o v hi hv
 cases hv
 have ho:=Qp (ops:=((Tryz.f19.body.bind fun c=>Qu c 6).getD #[])) (i:=46) (p:=(.fieldAddr 48 (.tmp 64) 4,some (37,false))) (by kernel_rfl) hi
 refine Q0N ho.2 (QA (d:=56) (by kernel_rfl) (Q03 (j:=37) hl rfl)) fun hc w hS=>?_
 exact Q32 ho.1 ((QH (j:=45) hl rfl rfl).trans (Q0s hc)) (Qe9 gb (k * 5) w)
theorem Qld:SY 47:=by
 intro ga gb k n ca cb x0 x1 x3 x4 y0 y1 y3 y4 x2 y2 f e1 e2 e3 e4 e5 l df hl h0 h1 h2 h7 hk hna hnb b1 b2 b3 b4 b5 o v hi hv
 cases hv
 have ho:=Qp (ops:=((Tryz.f19.body.bind fun c=>Qu c 6).getD #[])) (i:=47) (p:=(.load 3 (.tmp 65),some (37,false))) (by kernel_rfl) hi
 refine Q0N ho.2 (QA (d:=56) (by kernel_rfl) (Q03 (j:=37) hl rfl)) fun hc w hS=>?_
 exact Q3M ho.1 ((QH (j:=46) hl rfl rfl).trans (Q0s hc)) (Q6f hS.2.2.2.2.2.2.2.2.2)
theorem Qle:SY 48:=by
 intro ga gb k n ca cb x0 x1 x3 x4 y0 y1 y3 y4 x2 y2 f e1 e2 e3 e4 e5 l df hl h0 h1 h2 h7 hk hna hnb b1 b2 b3 b4 b5 o v hi hv
 cases hv
 have ho:=Qp (ops:=((Tryz.f19.body.bind fun c=>Qu c 6).getD #[])) (i:=48) (p:=(.binOp .neq 3 (.tmp 61) (.tmp 66) 3,some (37,false))) (by kernel_rfl) hi
 refine Q0N ho.2 (QA (d:=56) (by kernel_rfl) (Q03 (j:=37) hl rfl)) fun hc w hS=>?_
 exact Q8O ho.1 ((QH (j:=42) hl rfl rfl).trans (Q0s hc)) ((QH (j:=47) hl rfl rfl).trans (Q0s hc)) ((Qea _ _ _ _ w).trans (by rw [b4]<;>rfl))
theorem Qlf:SY 49:=by
 intro ga gb k n ca cb x0 x1 x3 x4 y0 y1 y3 y4 x2 y2 f e1 e2 e3 e4 e5 l df hl h0 h1 h2 h7 hk hna hnb b1 b2 b3 b4 b5 o v hi hv
 cases hv
 have ho:=Qp (ops:=((Tryz.f19.body.bind fun c=>Qu c 6).getD #[])) (i:=49) (p:=(.pick (.tmp 56) (.const (.bool true)) (.tmp 67),none)) (by kernel_rfl) hi
 refine Q1l ho.2 fun w hS=>?_
 refine Q7z ho.1 (d:=(e1 || e2 || e3)) (QH (j:=37) hl rfl rfl) ?_
 rw [QH (j:=48) hl rfl rfl]
 (cases e1<;>cases e2<;>cases e3<;>cases e4<;>cases f<;>cases e5<;>rfl)
theorem Qlg:SY 50:=by
 intro ga gb k n ca cb x0 x1 x3 x4 y0 y1 y3 y4 x2 y2 f e1 e2 e3 e4 e5 l df hl h0 h1 h2 h7 hk hna hnb b1 b2 b3 b4 b5 o v hi hv
 cases hv
 have ho:=Qp (ops:=((Tryz.f19.body.bind fun c=>Qu c 6).getD #[])) (i:=50) (p:=(.move (.tmp 68),none)) (by kernel_rfl) hi
 refine Q1l ho.2 fun w hS=>?_
 exact Q0G ho.1 (QH (j:=49) hl rfl rfl)
theorem Qlh:SY 51:=by
 intro ga gb k n ca cb x0 x1 x3 x4 y0 y1 y3 y4 x2 y2 f e1 e2 e3 e4 e5 l df hl h0 h1 h2 h7 hk hna hnb b1 b2 b3 b4 b5 o v hi hv
 cases hv
 have ho:=Qp (ops:=((Tryz.f19.body.bind fun c=>Qu c 6).getD #[])) (i:=51) (p:=(.move (.tmp 2),some (50,false))) (by kernel_rfl) hi
 refine Q0N ho.2 (QA (d:=69) (by kernel_rfl) (Q03 (j:=50) hl rfl)) fun hc w hS=>?_
 exact Q0G ho.1 (Q1Z h2)
theorem Qli:SY 52:=by
 intro ga gb k n ca cb x0 x1 x3 x4 y0 y1 y3 y4 x2 y2 f e1 e2 e3 e4 e5 l df hl h0 h1 h2 h7 hk hna hnb b1 b2 b3 b4 b5 o v hi hv
 cases hv
 have ho:=Qp (ops:=((Tryz.f19.body.bind fun c=>Qu c 6).getD #[])) (i:=52) (p:=(.move (.tmp 70),some (50,false))) (by kernel_rfl) hi
 refine Q0N ho.2 (QA (d:=69) (by kernel_rfl) (Q03 (j:=50) hl rfl)) fun hc w hS=>?_
 exact Q0G ho.1 ((QH (j:=51) hl rfl rfl).trans (Q0s hc))
theorem Qlj:SY 53:=by
 intro ga gb k n ca cb x0 x1 x3 x4 y0 y1 y3 y4 x2 y2 f e1 e2 e3 e4 e5 l df hl h0 h1 h2 h7 hk hna hnb b1 b2 b3 b4 b5 o v hi hv
 cases hv
 have ho:=Qp (ops:=((Tryz.f19.body.bind fun c=>Qu c 6).getD #[])) (i:=53) (p:=(.move (.tmp 0),some (52,true))) (by kernel_rfl) hi
 refine Q1H (yb:=if (e1 || e2 || e3 || e4) then none else some f) ho.2 ?_ ?_ ?_
 ·cases hc:(e1 || e2 || e3 || e4) with
  | true=>exact Q1r (d:=71) (by kernel_rfl) ((Q03 (j:=52) hl rfl).trans (by rw [hc];rfl))
  | false=>exact QA (d:=71) (by kernel_rfl) ((Q03 (j:=52) hl rfl).trans (by rw [hc];rfl))
 ·intro hc w hS
  have hc:(e1 || e2 || e3 || e4 || !f)=false:=by revert hc;cases (e1 || e2 || e3 || e4)<;>cases f<;>simp
  rw [hc]
  exact Q0G ho.1 (Q1Z h0)
 ·intro hc
  have hc:(e1 || e2 || e3 || e4 || !f)=true:=by revert hc;cases (e1 || e2 || e3 || e4)<;>cases f<;>simp
  rw [hc]
  rfl
theorem Qlk:SY 54:=by
 intro ga gb k n ca cb x0 x1 x3 x4 y0 y1 y3 y4 x2 y2 f e1 e2 e3 e4 e5 l df hl h0 h1 h2 h7 hk hna hnb b1 b2 b3 b4 b5 o v hi hv
 cases hv
 have ho:=Qp (ops:=((Tryz.f19.body.bind fun c=>Qu c 6).getD #[])) (i:=54) (p:=(.move (.tmp 7),some (52,true))) (by kernel_rfl) hi
 refine Q1H (yb:=if (e1 || e2 || e3 || e4) then none else some f) ho.2 ?_ ?_ ?_
 ·cases hc:(e1 || e2 || e3 || e4) with
  | true=>exact Q1r (d:=71) (by kernel_rfl) ((Q03 (j:=52) hl rfl).trans (by rw [hc];rfl))
  | false=>exact QA (d:=71) (by kernel_rfl) ((Q03 (j:=52) hl rfl).trans (by rw [hc];rfl))
 ·intro hc w hS
  have hc:(e1 || e2 || e3 || e4 || !f)=false:=by revert hc;cases (e1 || e2 || e3 || e4)<;>cases f<;>simp
  rw [hc]
  exact Q0G ho.1 (Q1Z h7)
 ·intro hc
  have hc:(e1 || e2 || e3 || e4 || !f)=true:=by revert hc;cases (e1 || e2 || e3 || e4)<;>cases f<;>simp
  rw [hc]
  rfl
theorem Qll:SY 55:=by
 intro ga gb k n ca cb x0 x1 x3 x4 y0 y1 y3 y4 x2 y2 f e1 e2 e3 e4 e5 l df hl h0 h1 h2 h7 hk hna hnb b1 b2 b3 b4 b5 o v hi hv
 cases hv
 have ho:=Qp (ops:=((Tryz.f19.body.bind fun c=>Qu c 6).getD #[])) (i:=55) (p:=(.indexAddr 29 (.tmp 72) (.tmp 73),some (52,true))) (by kernel_rfl) hi
 refine Q1H (yb:=if (e1 || e2 || e3 || e4) then none else some f) ho.2 ?_ ?_ ?_
 ·cases hc:(e1 || e2 || e3 || e4) with
  | true=>exact Q1r (d:=71) (by kernel_rfl) ((Q03 (j:=52) hl rfl).trans (by rw [hc];rfl))
  | false=>exact QA (d:=71) (by kernel_rfl) ((Q03 (j:=52) hl rfl).trans (by rw [hc];rfl))
 ·intro hc w hS
  have hc:(e1 || e2 || e3 || e4 || !f)=false:=by revert hc;cases (e1 || e2 || e3 || e4)<;>cases f<;>simp
  rw [hc]
  exact Q31 ho.1 ((QH (j:=53) hl rfl rfl).trans (Q0s hc)) ((QH (j:=54) hl rfl rfl).trans (Q0s hc)) (Q3N hk hna w)
 ·intro hc
  have hc:(e1 || e2 || e3 || e4 || !f)=true:=by revert hc;cases (e1 || e2 || e3 || e4)<;>cases f<;>simp
  rw [hc]
  rfl
theorem Qlm:SY 56:=by
 intro ga gb k n ca cb x0 x1 x3 x4 y0 y1 y3 y4 x2 y2 f e1 e2 e3 e4 e5 l df hl h0 h1 h2 h7 hk hna hnb b1 b2 b3 b4 b5 o v hi hv
 cases hv
 have ho:=Qp (ops:=((Tryz.f19.body.bind fun c=>Qu c 6).getD #[])) (i:=56) (p:=(.fieldAddr 48 (.tmp 74) 3,some (52,true))) (by kernel_rfl) hi
 refine Q1H (yb:=if (e1 || e2 || e3 || e4) then none else some f) ho.2 ?_ ?_ ?_
 ·cases hc:(e1 || e2 || e3 || e4) with
  | true=>exact Q1r (d:=71) (by kernel_rfl) ((Q03 (j:=52) hl rfl).trans (by rw [hc];rfl))
  | false=>exact QA (d:=71) (by kernel_rfl) ((Q03 (j:=52) hl rfl).trans (by rw [hc];rfl))
 ·intro hc w hS
  have hc:(e1 || e2 || e3 || e4 || !f)=false:=by revert hc;cases (e1 || e2 || e3 || e4)<;>cases f<;>simp
  rw [hc]
  exact Q32 ho.1 ((QH (j:=55) hl rfl rfl).trans (Q0s hc)) (Qe8 ga (k * 5) w)
 ·intro hc
  have hc:(e1 || e2 || e3 || e4 || !f)=true:=by revert hc;cases (e1 || e2 || e3 || e4)<;>cases f<;>simp
  rw [hc]
  rfl
theorem Qln:SY 57:=by
 intro ga gb k n ca cb x0 x1 x3 x4 y0 y1 y3 y4 x2 y2 f e1 e2 e3 e4 e5 l df hl h0 h1 h2 h7 hk hna hnb b1 b2 b3 b4 b5 o v hi hv
 cases hv
 have ho:=Qp (ops:=((Tryz.f19.body.bind fun c=>Qu c 6).getD #[])) (i:=57) (p:=(.load 3 (.tmp 75),some (52,true))) (by kernel_rfl) hi
 refine Q1H (yb:=if (e1 || e2 || e3 || e4) then none else some f) ho.2 ?_ ?_ ?_
 ·cases hc:(e1 || e2 || e3 || e4) with
  | true=>exact Q1r (d:=71) (by kernel_rfl) ((Q03 (j:=52) hl rfl).trans (by rw [hc];rfl))
  | false=>exact QA (d:=71) (by kernel_rfl) ((Q03 (j:=52) hl rfl).trans (by rw [hc];rfl))
 ·intro hc w hS
  have hc:(e1 || e2 || e3 || e4 || !f)=false:=by revert hc;cases (e1 || e2 || e3 || e4)<;>cases f<;>simp
  rw [hc]
  exact Q3M ho.1 ((QH (j:=56) hl rfl rfl).trans (Q0s hc)) (Q6f hS.2.2.2.1)
 ·intro hc
  have hc:(e1 || e2 || e3 || e4 || !f)=true:=by revert hc;cases (e1 || e2 || e3 || e4)<;>cases f<;>simp
  rw [hc]
  rfl
theorem Qlo:SY 58:=by
 intro ga gb k n ca cb x0 x1 x3 x4 y0 y1 y3 y4 x2 y2 f e1 e2 e3 e4 e5 l df hl h0 h1 h2 h7 hk hna hnb b1 b2 b3 b4 b5 o v hi hv
 cases hv
 have ho:=Qp (ops:=((Tryz.f19.body.bind fun c=>Qu c 6).getD #[])) (i:=58) (p:=(.move (.tmp 1),some (52,true))) (by kernel_rfl) hi
 refine Q1H (yb:=if (e1 || e2 || e3 || e4) then none else some f) ho.2 ?_ ?_ ?_
 ·cases hc:(e1 || e2 || e3 || e4) with
  | true=>exact Q1r (d:=71) (by kernel_rfl) ((Q03 (j:=52) hl rfl).trans (by rw [hc];rfl))
  | false=>exact QA (d:=71) (by kernel_rfl) ((Q03 (j:=52) hl rfl).trans (by rw [hc];rfl))
 ·intro hc w hS
  have hc:(e1 || e2 || e3 || e4 || !f)=false:=by revert hc;cases (e1 || e2 || e3 || e4)<;>cases f<;>simp
  rw [hc]
  exact Q0G ho.1 (Q1Z h1)
 ·intro hc
  have hc:(e1 || e2 || e3 || e4 || !f)=true:=by revert hc;cases (e1 || e2 || e3 || e4)<;>cases f<;>simp
  rw [hc]
  rfl
theorem Qlp:SY 59:=by
 intro ga gb k n ca cb x0 x1 x3 x4 y0 y1 y3 y4 x2 y2 f e1 e2 e3 e4 e5 l df hl h0 h1 h2 h7 hk hna hnb b1 b2 b3 b4 b5 o v hi hv
 cases hv
 have ho:=Qp (ops:=((Tryz.f19.body.bind fun c=>Qu c 6).getD #[])) (i:=59) (p:=(.move (.tmp 7),some (52,true))) (by kernel_rfl) hi
 refine Q1H (yb:=if (e1 || e2 || e3 || e4) then none else some f) ho.2 ?_ ?_ ?_
 ·cases hc:(e1 || e2 || e3 || e4) with
  | true=>exact Q1r (d:=71) (by kernel_rfl) ((Q03 (j:=52) hl rfl).trans (by rw [hc];rfl))
  | false=>exact QA (d:=71) (by kernel_rfl) ((Q03 (j:=52) hl rfl).trans (by rw [hc];rfl))
 ·intro hc w hS
  have hc:(e1 || e2 || e3 || e4 || !f)=false:=by revert hc;cases (e1 || e2 || e3 || e4)<;>cases f<;>simp
  rw [hc]
  exact Q0G ho.1 (Q1Z h7)
 ·intro hc
  have hc:(e1 || e2 || e3 || e4 || !f)=true:=by revert hc;cases (e1 || e2 || e3 || e4)<;>cases f<;>simp
  rw [hc]
  rfl
theorem Qlq:SY 60:=by
 intro ga gb k n ca cb x0 x1 x3 x4 y0 y1 y3 y4 x2 y2 f e1 e2 e3 e4 e5 l df hl h0 h1 h2 h7 hk hna hnb b1 b2 b3 b4 b5 o v hi hv
 cases hv
 have ho:=Qp (ops:=((Tryz.f19.body.bind fun c=>Qu c 6).getD #[])) (i:=60) (p:=(.indexAddr 29 (.tmp 77) (.tmp 78),some (52,true))) (by kernel_rfl) hi
 refine Q1H (yb:=if (e1 || e2 || e3 || e4) then none else some f) ho.2 ?_ ?_ ?_
 ·cases hc:(e1 || e2 || e3 || e4) with
  | true=>exact Q1r (d:=71) (by kernel_rfl) ((Q03 (j:=52) hl rfl).trans (by rw [hc];rfl))
  | false=>exact QA (d:=71) (by kernel_rfl) ((Q03 (j:=52) hl rfl).trans (by rw [hc];rfl))
 ·intro hc w hS
  have hc:(e1 || e2 || e3 || e4 || !f)=false:=by revert hc;cases (e1 || e2 || e3 || e4)<;>cases f<;>simp
  rw [hc]
  exact Q31 ho.1 ((QH (j:=58) hl rfl rfl).trans (Q0s hc)) ((QH (j:=59) hl rfl rfl).trans (Q0s hc)) (Q3N hk hnb w)
 ·intro hc
  have hc:(e1 || e2 || e3 || e4 || !f)=true:=by revert hc;cases (e1 || e2 || e3 || e4)<;>cases f<;>simp
  rw [hc]
  rfl
theorem Qlr:SY 61:=by
 intro ga gb k n ca cb x0 x1 x3 x4 y0 y1 y3 y4 x2 y2 f e1 e2 e3 e4 e5 l df hl h0 h1 h2 h7 hk hna hnb b1 b2 b3 b4 b5 o v hi hv
 cases hv
 have ho:=Qp (ops:=((Tryz.f19.body.bind fun c=>Qu c 6).getD #[])) (i:=61) (p:=(.fieldAddr 48 (.tmp 79) 3,some (52,true))) (by kernel_rfl) hi
 refine Q1H (yb:=if (e1 || e2 || e3 || e4) then none else some f) ho.2 ?_ ?_ ?_
 ·cases hc:(e1 || e2 || e3 || e4) with
  | true=>exact Q1r (d:=71) (by kernel_rfl) ((Q03 (j:=52) hl rfl).trans (by rw [hc];rfl))
  | false=>exact QA (d:=71) (by kernel_rfl) ((Q03 (j:=52) hl rfl).trans (by rw [hc];rfl))
 ·intro hc w hS
  have hc:(e1 || e2 || e3 || e4 || !f)=false:=by revert hc;cases (e1 || e2 || e3 || e4)<;>cases f<;>simp
  rw [hc]
  exact Q32 ho.1 ((QH (j:=60) hl rfl rfl).trans (Q0s hc)) (Qe8 gb (k * 5) w)
 ·intro hc
  have hc:(e1 || e2 || e3 || e4 || !f)=true:=by revert hc;cases (e1 || e2 || e3 || e4)<;>cases f<;>simp
  rw [hc]
  rfl
theorem Qls:SY 62:=by
 intro ga gb k n ca cb x0 x1 x3 x4 y0 y1 y3 y4 x2 y2 f e1 e2 e3 e4 e5 l df hl h0 h1 h2 h7 hk hna hnb b1 b2 b3 b4 b5 o v hi hv
 cases hv
 have ho:=Qp (ops:=((Tryz.f19.body.bind fun c=>Qu c 6).getD #[])) (i:=62) (p:=(.load 3 (.tmp 80),some (52,true))) (by kernel_rfl) hi
 refine Q1H (yb:=if (e1 || e2 || e3 || e4) then none else some f) ho.2 ?_ ?_ ?_
 ·cases hc:(e1 || e2 || e3 || e4) with
  | true=>exact Q1r (d:=71) (by kernel_rfl) ((Q03 (j:=52) hl rfl).trans (by rw [hc];rfl))
  | false=>exact QA (d:=71) (by kernel_rfl) ((Q03 (j:=52) hl rfl).trans (by rw [hc];rfl))
 ·intro hc w hS
  have hc:(e1 || e2 || e3 || e4 || !f)=false:=by revert hc;cases (e1 || e2 || e3 || e4)<;>cases f<;>simp
  rw [hc]
  exact Q3M ho.1 ((QH (j:=61) hl rfl rfl).trans (Q0s hc)) (Q6f hS.2.2.2.2.2.2.2.2.1)
 ·intro hc
  have hc:(e1 || e2 || e3 || e4 || !f)=true:=by revert hc;cases (e1 || e2 || e3 || e4)<;>cases f<;>simp
  rw [hc]
  rfl
theorem Qlt:SY 63:=by
 intro ga gb k n ca cb x0 x1 x3 x4 y0 y1 y3 y4 x2 y2 f e1 e2 e3 e4 e5 l df hl h0 h1 h2 h7 hk hna hnb b1 b2 b3 b4 b5 o v hi hv
 cases hv
 have ho:=Qp (ops:=((Tryz.f19.body.bind fun c=>Qu c 6).getD #[])) (i:=63) (p:=(.binOp .neq 3 (.tmp 76) (.tmp 81) 3,some (52,true))) (by kernel_rfl) hi
 refine Q1H (yb:=if (e1 || e2 || e3 || e4) then none else some f) ho.2 ?_ ?_ ?_
 ·cases hc:(e1 || e2 || e3 || e4) with
  | true=>exact Q1r (d:=71) (by kernel_rfl) ((Q03 (j:=52) hl rfl).trans (by rw [hc];rfl))
  | false=>exact QA (d:=71) (by kernel_rfl) ((Q03 (j:=52) hl rfl).trans (by rw [hc];rfl))
 ·intro hc w hS
  have hc:(e1 || e2 || e3 || e4 || !f)=false:=by revert hc;cases (e1 || e2 || e3 || e4)<;>cases f<;>simp
  rw [hc]
  exact Q8O ho.1 ((QH (j:=57) hl rfl rfl).trans (Q0s hc)) ((QH (j:=62) hl rfl rfl).trans (Q0s hc)) ((Qea _ _ _ _ w).trans (by rw [b5]<;>rfl))
 ·intro hc
  have hc:(e1 || e2 || e3 || e4 || !f)=true:=by revert hc;cases (e1 || e2 || e3 || e4)<;>cases f<;>simp
  rw [hc]
  rfl
theorem Qlu:SY 64:=by
 intro ga gb k n ca cb x0 x1 x3 x4 y0 y1 y3 y4 x2 y2 f e1 e2 e3 e4 e5 l df hl h0 h1 h2 h7 hk hna hnb b1 b2 b3 b4 b5 o v hi hv
 cases hv
 have ho:=Qp (ops:=((Tryz.f19.body.bind fun c=>Qu c 6).getD #[])) (i:=64) (p:=(.pick (.tmp 71) (.tmp 82) (.const (.bool false)),some (50,false))) (by kernel_rfl) hi
 refine Q1H (yb:=some (e1 || e2 || e3 || e4)) ho.2 (QA (d:=69) (by kernel_rfl) (Q03 (j:=50) hl rfl)) ?_ ?_
 ·intro hc w hS
  have hc:(e1 || e2 || e3 || e4)=false:=by injection hc
  refine Q7z ho.1 (d:=f) ((QH (j:=52) hl rfl rfl).trans (Q0s hc)) ?_
  rw [QH (j:=63) hl rfl rfl,hc]
  cases f
  ·rfl
  ·simp only [if_true,Bool.true_and,gd]
   cases e5<;>simp_all [gd]
 ·intro hc
  have hc:(e1 || e2 || e3 || e4)=true:=by
   cases hx:(e1 || e2 || e3 || e4) with
   | true=>rfl
   | false=>exact absurd (by rw [hx]) hc
  rw [hc]
  rfl
theorem Qlv:SY 65:=by
 intro ga gb k n ca cb x0 x1 x3 x4 y0 y1 y3 y4 x2 y2 f e1 e2 e3 e4 e5 l df hl h0 h1 h2 h7 hk hna hnb b1 b2 b3 b4 b5 o v hi hv
 cases hv
 have ho:=Qp (ops:=((Tryz.f19.body.bind fun c=>Qu c 6).getD #[])) (i:=65) (p:=(.pick (.tmp 69) (.const (.bool true)) (.tmp 83),none)) (by kernel_rfl) hi
 refine Q1l ho.2 fun w hS=>?_
 refine Q7z ho.1 (d:=(e1 || e2 || e3 || e4)) (QH (j:=50) hl rfl rfl) ?_
 rw [QH (j:=64) hl rfl rfl]
 (cases e1<;>cases e2<;>cases e3<;>cases e4<;>cases f<;>cases e5<;>rfl)
theorem QmX (hl:l.length=19) (h0:l[0]? = some (.slice (some ⟨ga,0,none⟩) n ca)) (h1:l[1]? = some (.slice (some ⟨gb,0,none⟩) n cb)) (h2:l[2]? = some (.bool f)) (h7:l[7]? = some (.int .i64 k)) (hk:k < n) (hna:n≤ca) (hnb:n≤cb) (b1:decide (x0≠y0)=e1) (b2:decide (x1≠y1)=e2) (b3:decide (x2≠y2)=e3) (b4:decide (x4≠y4)=e4) (b5:decide (x3≠y3)=e5):∀ i,i < 66→Qhl ga gb k n ca cb x0 x1 x2 x3 x4 y0 y1 y2 y3 y4 f e1 e2 e3 e4 e5 l df i:=by
 have a0:∀ i,i < 0→Qhl ga gb k n ca cb x0 x1 x2 x3 x4 y0 y1 y2 y3 y4 f e1 e2 e3 e4 e5 l df i:=fun i h=>absurd h (by omega)
 have a1:=Qv a0 (QmN hl h0 h1 h2 h7 hk hna hnb b1 b2 b3 b4 b5)
 have a2:=Qv a1 (QmO hl h0 h1 h2 h7 hk hna hnb b1 b2 b3 b4 b5)
 have a3:=Qv a2 (QmP hl h0 h1 h2 h7 hk hna hnb b1 b2 b3 b4 b5)
 have a4:=Qv a3 (QmQ hl h0 h1 h2 h7 hk hna hnb b1 b2 b3 b4 b5)
 have a5:=Qv a4 (QmR hl h0 h1 h2 h7 hk hna hnb b1 b2 b3 b4 b5)
 have a6:=Qv a5 (QmS hl h0 h1 h2 h7 hk hna hnb b1 b2 b3 b4 b5)
 have a7:=Qv a6 (QmT hl h0 h1 h2 h7 hk hna hnb b1 b2 b3 b4 b5)
 have a8:=Qv a7 (QmU hl h0 h1 h2 h7 hk hna hnb b1 b2 b3 b4 b5)
 have a9:=Qv a8 (QmV hl h0 h1 h2 h7 hk hna hnb b1 b2 b3 b4 b5)
 have a10:=Qv a9 (QmW hl h0 h1 h2 h7 hk hna hnb b1 b2 b3 b4 b5)
 have a11:=Qv a10 (QkC hl h0 h1 h2 h7 hk hna hnb b1 b2 b3 b4 b5)
 have a12:=Qv a11 (QkD hl h0 h1 h2 h7 hk hna hnb b1 b2 b3 b4 b5)
 have a13:=Qv a12 (QkE hl h0 h1 h2 h7 hk hna hnb b1 b2 b3 b4 b5)
 have a14:=Qv a13 (QkF hl h0 h1 h2 h7 hk hna hnb b1 b2 b3 b4 b5)
 have a15:=Qv a14 (QkG hl h0 h1 h2 h7 hk hna hnb b1 b2 b3 b4 b5)
 have a16:=Qv a15 (QkH hl h0 h1 h2 h7 hk hna hnb b1 b2 b3 b4 b5)
 have a17:=Qv a16 (QkI hl h0 h1 h2 h7 hk hna hnb b1 b2 b3 b4 b5)
 have a18:=Qv a17 (QkJ hl h0 h1 h2 h7 hk hna hnb b1 b2 b3 b4 b5)
 have a19:=Qv a18 (QkK hl h0 h1 h2 h7 hk hna hnb b1 b2 b3 b4 b5)
 have a20:=Qv a19 (QkL hl h0 h1 h2 h7 hk hna hnb b1 b2 b3 b4 b5)
 have a21:=Qv a20 (QkM hl h0 h1 h2 h7 hk hna hnb b1 b2 b3 b4 b5)
 have a22:=Qv a21 (QkN hl h0 h1 h2 h7 hk hna hnb b1 b2 b3 b4 b5)
 have a23:=Qv a22 (QkO hl h0 h1 h2 h7 hk hna hnb b1 b2 b3 b4 b5)
 have a24:=Qv a23 (QkP hl h0 h1 h2 h7 hk hna hnb b1 b2 b3 b4 b5)
 have a25:=Qv a24 (QkQ hl h0 h1 h2 h7 hk hna hnb b1 b2 b3 b4 b5)
 have a26:=Qv a25 (QkR hl h0 h1 h2 h7 hk hna hnb b1 b2 b3 b4 b5)
 have a27:=Qv a26 (QkS hl h0 h1 h2 h7 hk hna hnb b1 b2 b3 b4 b5)
 have a28:=Qv a27 (QkT hl h0 h1 h2 h7 hk hna hnb b1 b2 b3 b4 b5)
 have a29:=Qv a28 (QkU hl h0 h1 h2 h7 hk hna hnb b1 b2 b3 b4 b5)
 have a30:=Qv a29 (QkV hl h0 h1 h2 h7 hk hna hnb b1 b2 b3 b4 b5)
 have a31:=Qv a30 (QkW hl h0 h1 h2 h7 hk hna hnb b1 b2 b3 b4 b5)
 have a32:=Qv a31 (QkX hl h0 h1 h2 h7 hk hna hnb b1 b2 b3 b4 b5)
 have a33:=Qv a32 (QkY hl h0 h1 h2 h7 hk hna hnb b1 b2 b3 b4 b5)
 have a34:=Qv a33 (QkZ hl h0 h1 h2 h7 hk hna hnb b1 b2 b3 b4 b5)
 have a35:=Qv a34 (Ql0 hl h0 h1 h2 h7 hk hna hnb b1 b2 b3 b4 b5)
 have a36:=Qv a35 (Ql1 hl h0 h1 h2 h7 hk hna hnb b1 b2 b3 b4 b5)
 have a37:=Qv a36 (Ql2 hl h0 h1 h2 h7 hk hna hnb b1 b2 b3 b4 b5)
 have a38:=Qv a37 (Ql3 hl h0 h1 h2 h7 hk hna hnb b1 b2 b3 b4 b5)
 have a39:=Qv a38 (Ql4 hl h0 h1 h2 h7 hk hna hnb b1 b2 b3 b4 b5)
 have a40:=Qv a39 (Ql5 hl h0 h1 h2 h7 hk hna hnb b1 b2 b3 b4 b5)
 have a41:=Qv a40 (Ql6 hl h0 h1 h2 h7 hk hna hnb b1 b2 b3 b4 b5)
 have a42:=Qv a41 (Ql7 hl h0 h1 h2 h7 hk hna hnb b1 b2 b3 b4 b5)
 have a43:=Qv a42 (Ql8 hl h0 h1 h2 h7 hk hna hnb b1 b2 b3 b4 b5)
 have a44:=Qv a43 (Ql9 hl h0 h1 h2 h7 hk hna hnb b1 b2 b3 b4 b5)
 have a45:=Qv a44 (Qla hl h0 h1 h2 h7 hk hna hnb b1 b2 b3 b4 b5)
 have a46:=Qv a45 (Qlb hl h0 h1 h2 h7 hk hna hnb b1 b2 b3 b4 b5)
 have a47:=Qv a46 (Qlc hl h0 h1 h2 h7 hk hna hnb b1 b2 b3 b4 b5)
 have a48:=Qv a47 (Qld hl h0 h1 h2 h7 hk hna hnb b1 b2 b3 b4 b5)
 have a49:=Qv a48 (Qle hl h0 h1 h2 h7 hk hna hnb b1 b2 b3 b4 b5)
 have a50:=Qv a49 (Qlf hl h0 h1 h2 h7 hk hna hnb b1 b2 b3 b4 b5)
 have a51:=Qv a50 (Qlg hl h0 h1 h2 h7 hk hna hnb b1 b2 b3 b4 b5)
 have a52:=Qv a51 (Qlh hl h0 h1 h2 h7 hk hna hnb b1 b2 b3 b4 b5)
 have a53:=Qv a52 (Qli hl h0 h1 h2 h7 hk hna hnb b1 b2 b3 b4 b5)
 have a54:=Qv a53 (Qlj hl h0 h1 h2 h7 hk hna hnb b1 b2 b3 b4 b5)
 have a55:=Qv a54 (Qlk hl h0 h1 h2 h7 hk hna hnb b1 b2 b3 b4 b5)
 have a56:=Qv a55 (Qll hl h0 h1 h2 h7 hk hna hnb b1 b2 b3 b4 b5)
 have a57:=Qv a56 (Qlm hl h0 h1 h2 h7 hk hna hnb b1 b2 b3 b4 b5)
 have a58:=Qv a57 (Qln hl h0 h1 h2 h7 hk hna hnb b1 b2 b3 b4 b5)
 have a59:=Qv a58 (Qlo hl h0 h1 h2 h7 hk hna hnb b1 b2 b3 b4 b5)
 have a60:=Qv a59 (Qlp hl h0 h1 h2 h7 hk hna hnb b1 b2 b3 b4 b5)
 have a61:=Qv a60 (Qlq hl h0 h1 h2 h7 hk hna hnb b1 b2 b3 b4 b5)
 have a62:=Qv a61 (Qlr hl h0 h1 h2 h7 hk hna hnb b1 b2 b3 b4 b5)
 have a63:=Qv a62 (Qls hl h0 h1 h2 h7 hk hna hnb b1 b2 b3 b4 b5)
 have a64:=Qv a63 (Qlt hl h0 h1 h2 h7 hk hna hnb b1 b2 b3 b4 b5)
 have a65:=Qv a64 (Qlu hl h0 h1 h2 h7 hk hna hnb b1 b2 b3 b4 b5)
 have a66:=Qv a65 (Qlv hl h0 h1 h2 h7 hk hna hnb b1 b2 b3 b4 b5)
 exact a66
end
end Go.Proofs.YtmbcibgknckenaaGreatDoor
namespace Go.Proofs.YtmbcibgknckenaaGreatDoor
open Go.RowKit
open Go.MapKept
theorem Qfg {Q:Exit→Act→World→Prop} {a:Act} {l m:List Value} {w:World} {ops:Array Oper} {ga gb k n ca cb:Nat} {x0 x1 x3 x4 y0 y1 y3 y4:Int} {x2 y2:ByteArray} {f:Bool}
  (ho:ops=((Tryz.f19.body.bind fun c=>Qu c 6).getD #[])) (ha:a.tmps=(l++m).toArray) (hl:l.length=19) (hm:m.length=66) (h0:l[0]? = some (.slice (some ⟨ga,0,none⟩) n ca)) (h1:l[1]? = some (.slice (some ⟨gb,0,none⟩) n cb)) (h2:l[2]? = some (.bool f)) (h7:l[7]? = some (.int .i64 k)) (hk:k < n) (hna:n≤ca) (hnb:n≤cb)
  (hS:QaV ga gb k x0 x1 x2 x3 x4 y0 y1 y2 y3 y4 w) (hQp:∀ (d:Nat) (v:Value) c a w,Q (.panic c) (a.put (some d) v) w→Q (.panic c) a w)
  (h:Q .normal ⟨(l++Q7A ga gb k n ca cb x0 x1 x2 x3 x4 y0 y1 y2 y3 y4 f (decide (x0≠y0)) (decide (x1≠y1)) (decide (x2≠y2)) (decide (x4≠y4)) (decide (x3≠y3))).toArray,a.defers⟩ w.drew):(Code.region 6 ops true).wp Tryz.prog Q a w:=by
 subst ho
 refine Qe4 (QaV ga gb k x0 x1 x2 x3 x4 y0 y1 y2 y3 y4) (base:=19) (Q7A ga gb k n ca cb x0 x1 x2 x3 x4 y0 y1 y2 y3 y4 f (decide (x0≠y0)) (decide (x1≠y1)) (decide (x2≠y2)) (decide (x4≠y4)) (decide (x3≠y3))) (by kernel_rfl) QmM ha hl (by kernel_rfl) hm hS hQp ?_ h
 intro i o v hi hv
 have hlt:i < 66:=by
  rcases Nat.lt_or_ge i 66 with h | h
  ·exact h
  ·rw [List.getElem?_eq_none (show (Q7A ga gb k n ca cb x0 x1 x2 x3 x4 y0 y1 y2 y3 y4 f (decide (x0≠y0)) (decide (x1≠y1)) (decide (x2≠y2)) (decide (x4≠y4)) (decide (x3≠y3))).length≤i from h)] at hv
   cases hv
 exact QmX hl h0 h1 h2 h7 hk hna hnb rfl rfl rfl rfl rfl i hlt o v hi hv
def Qnl (w:World) (g k:Nat) (x:QB):Prop:=w.cell? ⟨g,k * 5,none⟩=some (.int .i64 x.kind)∧w.cell? ⟨g,k * 5 + 1,none⟩=some (.int .i64 x.n)∧w.cell? ⟨g,k * 5 + 2,none⟩=some (.string ⟨x.s.toArray⟩)∧w.cell? ⟨g,k * 5 + 3,none⟩=some (.int .i64 x.at')∧w.cell? ⟨g,k * 5 + 4,none⟩=some (.int .i64 x.len)
def Q5u (w:World) (v:Value) (ns:List QB):Prop:=∃ ad cap,v = .slice ad ns.length cap∧ns.length≤cap∧∀ k x,ns[k]? = some x→∃ g,ad=some ⟨g,0,none⟩∧Qnl w g k x
def Q0f (f:Bool) (x:QB):Int×Int×List UInt8×Int×Int:=(x.kind,x.n,x.s,x.len,if f then x.at' else 0)
theorem Qnm (f:Bool) (x y:QB):(decide ((x.kind:Int)≠y.kind) || decide ((x.n:Int)≠y.n) || decide ((⟨x.s.toArray⟩:ByteArray)≠⟨y.s.toArray⟩) || decide ((x.len:Int)≠y.len) || (f && decide ((x.at':Int)≠y.at')))=decide (Q0f f x≠Q0f f y):=by
 have hs:((⟨x.s.toArray⟩:ByteArray)=⟨y.s.toArray⟩)↔x.s=y.s:=by
  constructor
  ·intro h
   have:x.s.toArray=y.s.toArray:=by injection h
   simpa using this
  ·intro h;rw [h]
 unfold Q0f
 cases f<;>simp [hs]<;>by_cases c1:(x.kind:Int)=y.kind<;>by_cases c2:x.n=y.n<;>by_cases c3:x.s=y.s<;>by_cases c4:(x.len:Int)=y.len<;>by_cases c5:(x.at':Int)=y.at'<;>simp_all
theorem Qa4 (f:Bool) {w:World} {va vb:Value} {a b:List QB} (hA:Q5u w va a) (hB:Q5u w vb b) (hn:a.length≤10000) :
  Calls Tryz.prog 19 #[va,vb,.bool f] w fun e w'=>e = .returned (.bool (decide (a.map (Q0f f)=b.map (Q0f f))))∧(∀ c,w'.cell? c=w.cell? c)∧Below w.heap.size w w':=by
 obtain ⟨aa,ca,rfl,hca,hA⟩:=hA
 obtain ⟨ab,cb,rfl,hcb,hB⟩:=hB
 by_cases hl:a.length=b.length
 ·rw [← hl] at hcb ⊢
  have HA:=Hid.mk hA
  have HB:=Hid.mk hB
  have HL:=Hid.mk hl
  have E:=Hid.mk (show (a.take 0).map (Q0f f)=(b.take 0).map (Q0f f) by simp)
  clear hA hB hl
  go_enter Tryz.func19,Tryz.ntmps19
  go_wp2
  go_loopw [7] (fun i ur=>∃ k:Nat,i = .int .i64 k∧k≤a.length∧Hid ((a.take k).map (Q0f f)=(b.take k).map (Q0f f))∧Hid (∀ c,ur.cell? c=w.cell? c)∧Hid (Below w.heap.size w ur)) (fun i _=>a.length - (intOf i).toNat)
  case atStart=>exact ⟨0,rfl,by omega,E,Hid.mk fun _=>rfl,Hid.mk (Below.refl _ _)⟩
  case round=>
   obtain ⟨k,rfl,hk,hE,hcells,hbw⟩:=hrel
   clear E
   rcases Nat.lt_or_ge k a.length with hlt | hge
   ·have hltb:k < b.length:=by have:=HL.out;omega
    obtain ⟨ga,hga,hNa⟩:=HA.out k a[k] (List.getElem?_eq_getElem hlt)
    obtain ⟨gb,hgb,hNb⟩:=HB.out k b[k] (List.getElem?_eq_getElem hltb)
    cases hga
    cases hgb
    have HSS:Hid (QaV ga gb k a[k].kind a[k].n ⟨a[k].s.toArray⟩ a[k].at' a[k].len b[k].kind b[k].n ⟨b[k].s.toArray⟩ b[k].at' b[k].len wr):=by
     obtain ⟨p0,p1,p2,p3,p4⟩:=hNa
     obtain ⟨q0,q1,q2,q3,q4⟩:=hNb
     unfold QaV
     simp only [hcells.out]
     exact ⟨p0,p1,p2,p3,p4,q0,q1,q2,q3,q4⟩
    have hk0:(k:Int) < (a.length:Int):=by omega
    clear hNa hNb
    go_wp2_with fail
    refine Qfg (l:=[_,_,_,_,_,_,_,_,_,_,_,_,_,_,_,_,_,_,_]) (m:=[_,_,_,_,_,_,_,_,_,_,_,_,_,_,_,_,_,_,_,_,_,_,_,_,_,_,_,_,_,_,_,_,_,_,_,_,_,_,_,_,_,_,_,_,_,_,_,_,_,_,_,_,_,_,_,_,_,_,_,_,_,_,_,_,_,_]) (by kernel_rfl) rfl rfl rfl rfl rfl rfl rfl hlt hca hcb HSS.out (fun _ _ _ _ _ h=>h) ?_
    simp only [Q7A,Qnm,List.cons_append,List.nil_append]
    by_cases hne:Q0f f a[k]=Q0f f b[k]
    ·rw [decide_eq_false (show ¬ (Q0f f a[k]≠Q0f f b[k]) from fun h=>h hne)]
     have hE2:Hid ((a.take (k + 1)).map (Q0f f)=(b.take (k + 1)).map (Q0f f)):=by
      show _=_
      rw [List.take_succ_eq_append_getElem hlt,List.take_succ_eq_append_getElem hltb,List.map_append,List.map_append,hE.out,List.map_singleton,List.map_singleton,hne]
     have hc2:Hid (∀ c,wr.drew.cell? c=w.cell? c):=hcells.out
     have hb2:Hid (Below w.heap.size w wr.drew):=hbw.out.drew
     clear hE hcells hbw HSS hne
     go_wp2
     exact ⟨⟨k + 1,by go_num,by omega,hE2,hc2,hb2⟩,by simp [intOf];omega⟩
    ·rw [decide_eq_true (show Q0f f a[k]≠Q0f f b[k] from hne)]
     have NE:Hid (¬ a.map (Q0f f)=b.map (Q0f f)):=by
      intro he
      apply hne
      have h1:(a.map (Q0f f))[k]? = (b.map (Q0f f))[k]?:=by rw [he]
      rw [List.getElem?_map,List.getElem?_map,List.getElem?_eq_getElem hlt,List.getElem?_eq_getElem hltb] at h1
      simpa using h1
     have hc2:Hid (∀ c,wr.drew.cell? c=w.cell? c):=hcells.out
     have hb2:Hid (Below w.heap.size w wr.drew):=hbw.out.drew
     clear hE hcells hbw HSS hne
     go_wp2
     go_ret
     exact ⟨by rw [decide_eq_false NE.out];rfl,hc2.out,hb2.out⟩
   ·have hkk:k=a.length:=by omega
    subst hkk
    have hE:=hE.out
    have HEQ:Hid (a.map (Q0f f)=b.map (Q0f f)):=by
     show _=_
     rw [List.take_length,HL.out,List.take_length] at hE
     exact hE
    have hge0:¬ ((a.length:Int) < (a.length:Int)):=by omega
    clear hE
    go_wp2
    go_ret
    exact ⟨by rw [decide_eq_true HEQ.out];rfl,hcells.out,hbw.out⟩
 ·have NE:Hid (¬ a.map (Q0f f)=b.map (Q0f f)):=fun h=>hl (by simpa using congrArg List.length h)
  have hl':¬ ((a.length:Int)=(b.length:Int)):=by omega
  clear hA hB
  go_enter Tryz.func19,Tryz.ntmps19
  go_wp2
  go_ret
  exact ⟨by rw [decide_eq_false NE.out];rfl,fun _=>rfl,Below.refl _ _⟩
def okN {α:Type}:Except Nat α→Bool
 | .ok _=>true
 | .error _=>false
theorem QbO (c:Int):Q1G c∈Q4R:=by
 have h:=Q5t c (n:=8) (by omega)
 have hl:Q4R.length=8:=rfl
 unfold Q1G
 rw [List.getD_eq_getElem?_getD,List.getElem?_eq_getElem (by omega)]
 exact List.getElem_mem _
theorem Qfh:Q4R.all (fun n=>okN (Q1m (Q14 Q0e).2 n 0 0 0))=true:=by kernel_rfl
theorem Qhm {places:List (List UInt8×Nat)} {n:List UInt8} (h:okN (Q1m places n 0 0 0)=true) {dep fuel size:Int} (h1:0≤dep) (h2:dep≤64) (h3:0≤fuel) (h4:fuel≤10000) (h5:0≤size) (h6:size≤100000):∃ p,Q1m places n dep fuel size = .ok p:=by
 unfold Q1m at h ⊢
 cases hm:QK places n with
 | none=>rw [hm] at h;cases h
 | some p=>
  refine ⟨p,?_⟩
  simp only
  rw [if_pos]
  simp [Q35,h1,h2,h3,h4,h5,h6]
theorem QaW (c:Int) {dep fuel size:Int} (h1:0≤dep) (h2:dep≤64) (h3:0≤fuel) (h4:fuel≤10000) (h5:0≤size) (h6:size≤100000):∃ p,Q1m (Q14 Q0e).2 (Q1G c) dep fuel size = .ok p:=
 Qhm (List.all_eq_true.1 Qfh _ (QbO c)) h1 h2 h3 h4 h5 h6
def QlV:DefL→Bool
 | .typedef t=>!Q3G t.ty
 | _=>true
theorem Qhn:Q0e.all QlV=true:=by kernel_rfl
theorem Qfi:QdH (Q0M Q0e):=by
 intro n t h hv
 have:=List.all_eq_true.1 Qhn _ (Qe1 h)
 simp [QlV,hv,Q3G] at this
def QfT (w:World) (n b:List UInt8) (dep fuel size:Nat) (e:Ending) (u':World):Prop:=∃ v er,e = .returned (.tuple #[v,er])∧Qb [] w u' ∧
 ((∃ ns,Q0z (Q0M Q0e) n b dep fuel size = .ok ns∧0 < ns.length∧ns.length≤10000∧er = .nilIface∧u'.ownsRow w.heap.size 48 5 v ns.length (ns.flatMap Q1Y)) ∨
  (∃ f g,Q0z (Q0M Q0e) n b dep fuel size = .error f∧v = .slice none 0 0∧er = .iface 79 (.pointer (some ⟨g,0,none⟩))∧u'.heap[g]? = some (.cells #[.int .i64 f.no,.int .i64 f.at'] 83)))
theorem Q9v {w:World} {bs:List (Nat×Obj)} {B:Nat} (hS:Q1N bs B Q0e) (hw:∀ p∈bs,w.heap[p.1]? = some p.2) (c:Int) (b:List UInt8) (hb:b.length≤maxLen) (dep fuel size:Nat) (h1:dep≤64) (h2:fuel≤10000) (h3:size≤100000) :
  Calls Tryz.prog 17 #[.pointer (some ⟨B,0,none⟩),.string ⟨(Q1G c).toArray⟩,.string ⟨b.toArray⟩,.agg #[.int .i64 dep,.int .i64 fuel,.int .i64 size]] w (QfT w (Q1G c) b dep fuel size):=by
 obtain ⟨p,hp⟩:=QaW c (dep:=dep) (fuel:=fuel) (size:=size) (by omega) (by omega) (by omega) (by omega) (by omega) (by omega)
 refine (Qhc hS hw QaU QbN (Q1G c) b dep fuel size hb).mono ?_
 rintro e u' ⟨hk,h⟩
 rw [hp] at h
 simp only [Int.toNat_natCast] at h
 rcases h with ⟨k,h,_⟩ | ⟨p',ns,v,_,h2,rfl,h4⟩ | ⟨p',f,g,_,h2,rfl,h4,h5⟩
 ·cases h
 ·exact ⟨v,.nilIface,rfl,hk,Or.inl ⟨ns,h2,QeY Qfi h2,Nat.le_trans (QgP h2) (by omega),rfl,h4⟩⟩
 ·exact ⟨_,_,rfl,hk,Or.inr ⟨f,g,h2,rfl,rfl,h5⟩⟩
theorem QaX:∀ (ns:List Q0j) (k:Nat) (x:Q0j) (j:Nat),ns[k]? = some x→j < 5→(ns.flatMap Q1Y)[k * 5 + j]? = (Q1Y x)[j]?:=by
 intro ns
 induction ns with
 | nil=>intro k x j h _;simp at h
 | cons y ys ih=>
  intro k x j h hj
  rw [List.flatMap_cons]
  cases k with
  | zero=>
   simp only [List.getElem?_cons_zero,Option.some.injEq] at h
   subst h
   rw [List.getElem?_append_left (by simp;omega)]
   simp
  | succ k=>
   simp only [List.getElem?_cons_succ] at h
   rw [List.getElem?_append_right (by simp;omega)]
   have e:(k + 1) * 5 + j - (Q1Y y).length=k * 5 + j:=by simp;omega
   rw [e]
   exact ih k x j h hj
theorem Q6L {w:World} {base:Nat} {T:TypeId} {v:Value} {ns:List Q0j} (h:w.ownsRow base T 5 v ns.length (ns.flatMap Q1Y)):Q5u w v (ns.map toG):=by
 obtain ⟨hl,h⟩:=h
 rcases h with ⟨rfl,h0⟩ | ⟨g,cap,cur,rfl,hb,hc,h1,h2,h3,h4⟩
 ·have hn:ns=[]:=by
   cases ns with
   | nil=>rfl
   | cons x xs=>simp at h0
  subst hn
  exact ⟨none,0,rfl,by simp,fun k x hx=>by simp at hx⟩
 ·refine ⟨some ⟨g,0,none⟩,cap,by simp,by simpa using h1,fun k y hy=>?_⟩
  rw [List.getElem?_map] at hy
  cases hx:ns[k]? with
  | none=>rw [hx] at hy;cases hy
  | some x=>
   rw [hx] at hy
   cases hy
   refine ⟨g,rfl,?_⟩
   rw [← hl] at h4
   have key:∀ j,j < 5→∀ v,(Q1Y x)[j]? = some v→w.cell? ⟨g,k * 5 + j,none⟩=some v:=fun j hj v hv=>Qx hc h4 (by rw [QaX ns k x j hx hj,hv])
   exact ⟨key 0 (by omega) _ rfl,key 1 (by omega) _ rfl,key 2 (by omega) _ rfl,key 3 (by omega) _ rfl,key 4 (by omega) _ rfl⟩
theorem Qlw (u v:List Q0j):(u.map toG).map (Q0f false)=(v.map toG).map (Q0f false)↔u.map Q0j.said=v.map Q0j.said:=by
 have e:∀ l:List Q0j,(l.map toG).map (Q0f false)=(l.map Q0j.said).map fun p=>((p.1:Int),p.2.1,p.2.2.1,(p.2.2.2:Int),(0:Int)):=by
  intro l
  rw [List.map_map,List.map_map]
  rfl
 constructor
 ·intro h
  rw [e,e] at h
  refine List.map_inj_right (fun p q hpq=>?_) |>.1 h
  simp only [Prod.mk.injEq] at hpq
  obtain ⟨p1,p2,p3,p4⟩:=p
  obtain ⟨q1,q2,q3,q4⟩:=q
  simp only at hpq
  obtain ⟨a1,a2,a3,a4,_⟩:=hpq
  simp only [Prod.mk.injEq]
  exact ⟨by omega,a2,a3,by omega⟩
 ·intro h
  rw [e,e,h]
end Go.Proofs.YtmbcibgknckenaaGreatDoor
