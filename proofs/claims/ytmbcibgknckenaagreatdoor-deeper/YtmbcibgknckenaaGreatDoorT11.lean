import Derived.Test.YtmbcibgknckenaaGreatDoorT10
import Derived.Deep.LoopGhost
set_option linter.all false
set_option maxRecDepth 100000
set_option maxHeartbeats 4000000
namespace Go.Proofs.YtmbcibgknckenaaGreatDoor
open Go.RowKit
open Go.MapKept
theorem QiT {w u:World} {D:Nat} {Fr bs:List (Nat×Obj)} {b:List UInt8} {dep fuel size:Nat} {d:DSt} {nsl:Value} (n:Int) (f:Bool) (hn:0≤n) (hn2:n≤4294967295) (hfu:fuel≤10000) (h:Q0g w D Fr bs b dep fuel size d nsl u) :
  Calls Tryz.prog 325 #[.pointer (some ⟨D,0,none⟩),.agg #[.int .i64 n,.bool f]] u (Q0V w D Fr bs b dep fuel size ((decW b dep fuel).list n f d) fun v=>.int .i64 v):=by
 have M0:=h.alloc (.cells #[.int .i64 n,.bool f] 304)
 have VB:=Hid.mk (Q75 M0)
 clear h M0
 go_enter Tryz.func325,Tryz.ntmps325
 go_wp2_with fail
 refine VB.out.mono ?_
 rintro e w1 (⟨_,d1,nsl1,hx,rfl,M1⟩ | ⟨f',hx,hk,g,hg,rfl,hc⟩)
 rotate_left
 ·refine Qa (Or.inr ⟨f',?_,hk,g,hg,rfl,hc⟩)
  rcases Q2p fuel d with ⟨hb,_⟩ | hb
  ·rw [hb] at hx;cases hx
  ·rw [hb] at hx
   cases hx
   show thenE (Q0x fuel d) _=_
   rw [hb]
   rfl
 obtain ⟨hb,hnl⟩:Q0x fuel d = .ok d∧d.nodes.length < fuel:=by
  rcases Q2p fuel d with hb | hb
  ·exact hb
  ·rw [hb] at hx;cases hx
 obtain rfl:d1=d:=by rw [hb] at hx;cases hx;rfl
 have E0:Hid ((decW b dep fuel).list n f d1=thenE (Q0y b n f d1) fun p=>.ok (p.1,putD ⟨3,0,[],p.1,0⟩ p.2)):=by
  show thenE (Q0x fuel d1) _=_
  rw [hb]
  rfl
 obtain ⟨q0,q1,qf,ql⟩:=Q0o (M1.own.hf _ List.mem_cons_self).1
 have VC:=Hid.mk (QdX n f hn hn2 M1.tail)
 clear hx hb M1 VB
 go_wp2_with fail
 refine VC.out.mono ?_
 rintro e w3 (⟨v,d3,nsl3,hx,rfl,M3⟩ | ⟨f',hx,hk,g,hg,rfl,hc⟩)
 rotate_left
 ·exact Qa (Or.inr ⟨f',by rw [E0.out,hx];rfl,hk,g,hg,rfl,hc⟩)
 have hnd:d3.nodes.length < 10000:=by rw [(Q1o hx).2.1];omega
 have E1:Hid ((decW b dep fuel).list n f d1 = .ok (v,putD ⟨3,0,[],v,0⟩ d3)):=by show _=_;rw [E0.out,hx];rfl
 have VP:=Hid.mk (Q7X ⟨3,0,[],v,0⟩ hnd M3)
 clear hx M3 VC E0
 go_wp2_with fail
 refine VP.out.mono ?_
 rintro e w5 ⟨rfl,nsl5,M5⟩
 have M5:=Hid.mk M5
 go_wp2
 go_ret
 exact Or.inl ⟨v,_,nsl5,E1.out,rfl,M5.out⟩
theorem Qf8 {b:List UInt8} {n:Int} {f:Bool} {d d':DSt} {v:Nat} (hn:0≤n) (hn2:n≤4294967295) (h:Q0y b n f d = .ok (v,d')):v≤4294967295:=by
 obtain ⟨_,_,_,h4⟩:=Q1o h
 cases f with
 | true=>simp only [if_true] at h4;omega
 | false=>
  simp only [Bool.false_eq_true,if_false] at h4
  have:=Q28 h4.2
  omega
theorem QiU {w u:World} {D:Nat} {Fr bs:List (Nat×Obj)} {b:List UInt8} {dep fuel size:Nat} {d:DSt} {nsl:Value} (n:Int) (f:Bool) (hn:0≤n) (hn2:n≤4294967295) (hfu:fuel≤10000) (h:Q0g w D Fr bs b dep fuel size d nsl u) :
  Calls Tryz.prog 327 #[.pointer (some ⟨D,0,none⟩),.agg #[.int .i64 n,.bool f]] u (Q0V w D Fr bs b dep fuel size (Q61 ((decW b dep fuel).text n f d)) fun _=>.tuple #[]):=by
 have M0:=h.alloc (.cells #[.int .i64 n,.bool f] 304)
 have VB:=Hid.mk (Q75 M0)
 clear h M0
 go_enter Tryz.func327,Tryz.ntmps327
 go_wp2_with fail
 refine VB.out.mono ?_
 rintro e w1 (⟨_,d1,nsl1,hx,rfl,M1⟩ | ⟨f',hx,hk,g,hg,rfl,hc⟩)
 rotate_left
 ·refine Qa (Or.inr ⟨f',?_,hk,g,hg,rfl,hc⟩)
  rcases Q2p fuel d with ⟨hb,_⟩ | hb
  ·rw [hb] at hx;cases hx
  ·rw [hb] at hx
   cases hx
   show thenE (thenE (Q0x fuel d) _) _=_
   rw [hb]
   rfl
 obtain ⟨hb,hnl⟩:Q0x fuel d = .ok d∧d.nodes.length < fuel:=by
  rcases Q2p fuel d with hb | hb
  ·exact hb
  ·rw [hb] at hx;cases hx
 obtain rfl:d1=d:=by rw [hb] at hx;cases hx;rfl
 have E0:Hid (Q61 ((decW b dep fuel).text n f d1)=thenE (Q0y b n f d1) fun p=>thenE (Q1j b p.1 p.2) fun q=>.ok ((),putD ⟨2,0,q.1,0,p.2.pos⟩ q.2)):=by
  show thenE (thenE (Q0x fuel d1) _) _=_
  rw [hb]
  simp only [thenE]
  cases Q0y b n f d1 with
  | error f=>rfl
  | ok p=>
   simp only
   cases Q1j b p.1 p.2<;>rfl
 obtain ⟨q0,q1,qf,ql⟩:=Q0o (M1.own.hf _ List.mem_cons_self).1
 have VC:=Hid.mk (QdX n f hn hn2 M1.tail)
 clear hx hb M1 VB
 go_wp2_with fail
 refine VC.out.mono ?_
 rintro e w3 (⟨v,d3,nsl3,hx,rfl,M3⟩ | ⟨f',hx,hk,g,hg,rfl,hc⟩)
 rotate_left
 ·exact Qa (Or.inr ⟨f',by rw [E0.out,hx];rfl,hk,g,hg,rfl,hc⟩)
 have hnd:d3.nodes=d1.nodes:=(Q1o hx).2.1
 have hvs:=Qf8 hn hn2 hx
 have E1:Hid (Q61 ((decW b dep fuel).text n f d1)=thenE (Q1j b v d3) fun q=>.ok ((),putD ⟨2,0,q.1,0,d3.pos⟩ q.2)):=by show _=_;rw [E0.out,hx];rfl
 have VA:=Hid.mk (Q6E M3)
 have VP:=Hid.mk (QiS v hvs M3)
 clear hx M3 VC E0
 go_wp2_with fail
 refine VA.out.mono ?_
 rintro e w4 ⟨rfl,rfl⟩
 go_wp2_with fail
 refine VP.out.mono ?_
 rintro e w5 (⟨l,d5,nsl5,hx,rfl,M5⟩ | ⟨f',hx,hk,g,hg,rfl,hc⟩)
 rotate_left
 ·exact Qa (Or.inr ⟨f',by rw [E1.out,hx];rfl,hk,g,hg,rfl,hc⟩)
 have hnd5:d5.nodes.length < 10000:=by rw [(Q4L hx).2.2.2.1,hnd];omega
 have E2:Hid (Q61 ((decW b dep fuel).text n f d1) = .ok ((),putD ⟨2,0,l,0,d3.pos⟩ d5)):=by show _=_;rw [E1.out,hx];rfl
 have VU:=Hid.mk (Q7X ⟨2,0,l,0,d3.pos⟩ hnd5 M5)
 clear hx M5 VA VP E1
 go_wp2_with fail
 refine VU.out.mono ?_
 rintro e w6 ⟨rfl,nsl6,M6⟩
 have M6:=Hid.mk M6
 go_wp2
 go_end0
 exact Or.inl ⟨(),_,nsl6,E2.out,rfl,M6.out⟩
def Q6F:Qk→Prop
 | .choice _ ws _=>(ws.map (·.1)).Nodup
 | _=>True
def QZ (s:CSt):Prop:=∀ x∈s.code,Q6F x
theorem QZ.put {s:CSt} (h:QZ s) {x:Qk} (hx:Q6F x):QZ (putM x s):=by
 intro y hy
 simp only [putM,List.mem_append,List.mem_singleton] at hy
 rcases hy with hy | rfl
 ·exact h y hy
 ·exact hx
theorem QZ.set {s:CSt} (h:QZ s) {i:Nat} {x:Qk} (hx:Q6F x):QZ (setM i x s):=by
 intro y hy
 rcases List.mem_or_eq_of_mem_set hy with hy | rfl
 ·exact h y hy
 ·exact hx
theorem QZ.call {s:CSt} (h:QZ s) (n:List UInt8):QZ (Q2E n s):=by
 intro y hy
 simp only [Q2E,List.mem_append,List.mem_singleton] at hy
 rcases hy with hy | rfl
 ·exact h y hy
 ·trivial
theorem QZ.value (t:Ty):∀ {s:CSt},QZ s→QZ (QT t s):=by
 induction t with
 | named n a=>intro s h;exact h.call n
 | plain k=>intro s h;exact h.put (by trivial)
 | opaq n f=>intro s h;exact h.put (by trivial)
 | str n f=>intro s h;exact h.put (by trivial)
 | void=>intro s h;exact h
 | arr o n f ih=>intro s h;exact ((ih (h.put (by trivial))).put (by trivial)).set (by trivial)
 | opt o ih=>intro s h;exact (ih (h.put (by trivial))).set (by simp [Q6F])
theorem QZ.all (ts:List Ty):∀ {s:CSt},QZ s→QZ (ts.foldl (fun s t=>QT t s) s):=by
 induction ts with
 | nil=>intro s h;exact h
 | cons t ts ih=>intro s h;exact ih (h.value t)
theorem Qh4 (v:Nat×Nat):∀ (l:List Int) {ws:List (Int×Nat×Nat)},(ws.map (·.1)).Nodup→((l.foldl (fun l n=>mput l n v) ws).map (·.1)).Nodup:=by
 intro l
 induction l with
 | nil=>intro ws h;exact h
 | cons k l ih=>intro ws h;exact ih (Q2S h _ _)
theorem QZ.arms:∀ (arms:List (List Int×Qs)) {q:USt},QZ q.s→(q.ways.map (·.1)).Nodup→QZ (arms.foldl uArm q).s∧((arms.foldl uArm q).ways.map (·.1)).Nodup:=by
 intro arms
 induction arms with
 | nil=>intro q h1 h2;exact ⟨h1,h2⟩
 | cons x arms ih=>intro q h1 h2;exact ih (QZ.put (QZ.value _ h1) (by trivial)) (Qh4 _ _ h2)
theorem QZ.ends:∀ (l:List Nat) {s:CSt},QZ s→QZ (Q25 l s):=by
 intro l
 induction l with
 | nil=>intro s h;exact h
 | cons i l ih=>intro s h;exact ih (h.set (by trivial))
theorem QZ.def {s:CSt} (d:DefL) (h:QZ s):QZ (QQ d s):=by
 cases d with
 | const t p v=>exact h
 | prog t p vs k=>exact h
 | typedef d=>exact QZ.put (h.value d.ty) (by trivial)
 | enum t p ms=>
  have h1:QZ { s with enums:=mput s.enums t (Q0r ms) }:=h
  exact QZ.put (h1.put (by trivial)) (by trivial)
 | struct t p ms=>
  have e:=QZ.all (ms.map (·.ty)) (h.put (x:=.struct ms.length true) (by trivial))
  rw [List.foldl_map] at e
  exact QZ.put (s:=Q1W ms s) e (by trivial)
 | union t p sel arms=>
  obtain ⟨h1,h2⟩:=QZ.arms arms (q:=⟨putM .hole s,[],none,[]⟩) (h.put (by trivial)) (by simp)
  exact QZ.put (s:=Q4m sel arms s) (QZ.ends _ (h1.set h2)) (by trivial)
theorem QdY (ds:List DefL):∀ x∈(Q14 ds).1,Q6F x:=by
 have h1:∀ (l:List DefL) {s:CSt},QZ s→QZ (l.foldl (fun s d=>QQ d s) s):=by
  intro l
  induction l with
  | nil=>intro s h;exact h
  | cons d l ih=>intro s h;exact ih (h.def d)
 have h2:∀ (l:List DefL) {p:CSt×List (List UInt8×Nat)},QZ p.1→QZ (l.foldl QM p).1:=by
  intro l
  induction l with
  | nil=>intro p h;exact h
  | cons d l ih=>
   intro p h
   refine ih ?_
   unfold QM
   split
   ·exact QZ.put (h.call _) (by trivial)
   ·exact h
 have h3:∀ (l:List (Nat×List UInt8)) {s:CSt},QZ s→QZ (lnk s l):=by
  intro l
  induction l with
  | nil=>intro s h;exact h
  | cons k l ih=>intro s h;exact ih (h.set (by trivial))
 have h4:∀ (t:Ty) {s:CSt},QZ s→QZ (startT t s):=fun t s h=>QZ.put (h.value t) (by trivial)
 have h5:∀ (l:List Q2j) {q:CSt×List (Int×Nat×Nat)},QZ q.1→QZ (l.foldl Q12 q).1:=by
  intro l
  induction l with
  | nil=>intro q h;exact h
  | cons p l ih=>intro q h;exact ih (h4 p.res (h4 p.arg h))
 have h6:∀ (l:List Q0k) {q:CSt×PrgL},QZ q.1→QZ (l.foldl Q1R q).1:=by
  intro l
  induction l with
  | nil=>intro q h;exact h
  | cons v l ih=>intro q h;exact ih (h5 v.procs (q:=(q.1,[])) h)
 have h7:∀ (l:List DefL) {q:CSt×List (Int×PrgL)},QZ q.1→QZ (l.foldl Q0h q).1:=by
  intro l
  induction l with
  | nil=>intro q h;exact h
  | cons d l ih=>
   intro q h
   refine ih ?_
   cases d with
   | prog t a vs num=>exact h6 vs (q:=(q.1,_)) h
   | _=>exact h
 exact h3 _ (h7 ds (q:=((ds.foldl QM (ds.foldl (fun s d=>QQ d s) st0C,[])).1,[])) (h2 ds (p:=(ds.foldl (fun s d=>QQ d s) st0C,[])) (h1 ds (by intro x hx;cases hx))))
def wayV (n:NumL) (ws:List (Int×Nat×Nat)) (o:Option (Nat×Nat)) (k:Int):Value:=match wayL n ws o k with
 | some q=>.agg #[.int .i64 q.1,.int .i64 q.2]
 | none=>.agg #[.int .i64 0,.int .i64 0]
theorem QiV {W:World} {m:Nat} {l:List (Int×Nat×Nat)} (hb:W.heap[m]? = some (Q0Y l)) (nd:(l.map (·.1)).Nodup) (k:Int) :
  (Instr.lookup 318 (.map (some m)) (.int .i64 k) true).run Tryz.prog W = .ok (match QK l k with
   | some q=>.tuple #[.agg #[.int .i64 q.1,.int .i64 q.2],.bool true]
   | none=>.tuple #[.agg #[.int .i64 0,.int .i64 0],.bool false]) W:=by
 have hh:=Q4n (P:=Tryz.prog) (T:=318) (kt:=2) (et:=323) (d:=.int .i64) (by kernel_rfl) (by kernel_rfl) (fun k:Int=>.int .i64 k) (fun q:Nat×Nat=>.agg #[.int .i64 q.1,.int .i64 q.2]) (fun _=>rfl) QfG hb nd (z:=.agg #[.int .i64 0,.int .i64 0]) (by kernel_rfl) k true
 cases hm:QK l k with
 | none=>rw [hm] at hh;exact hh
 | some v=>rw [hm] at hh;exact hh
theorem Q5b {b:Nat} {k t k' t':Value} {T:TypeId} {fr:Nat×Nat} {w:World} (h:w.heap[b]? = some (.cells #[k,t] T fr)):((w.setCell ⟨b,0,none⟩ k').setCell ⟨b,1,none⟩ t').heap[b]? = some (.cells #[k',t'] T fr):=by
 have h1:=Qo (i:=0) h k'
 exact Qo (i:=1) h1 t'
theorem QfN {bs:List (Nat×Obj)} {cs:List Value} {n:NumL} {m:Nat} {ws:List (Int×Nat×Nat)} {ov:Value} {o:Option (Nat×Nat)} (hN:Q1g bs cs n) (hm:(m,Q0Y ws)∈bs) (ho:Q38 bs ov o) (nd:(ws.map (·.1)).Nodup) (k:Int) {w:World} (hw:∀ p∈bs,w.heap[p.1]? = some p.2) :
  Calls Tryz.prog 314 #[.agg (cs++[.map (some m),ov]).toArray,.int .i64 k] w fun e w'=>e = .returned (.tuple #[wayV n ws o k,.bool (wayL n ws o k).isSome])∧Below w.heap.size w w':=by
 obtain ⟨mm,rfl,hmem,x,y,z,rfl⟩:=id hN
 obtain ⟨pa,rfl⟩:∃ pa,ov = .pointer pa:=by
  cases o with
  | none=>exact ⟨_,ho⟩
  | some q=>obtain ⟨b,h1,_⟩:=ho;exact ⟨_,h1⟩
 have hb2:∀ o1 o2,Below w.heap.size w ((w.alloc o1).alloc o2):=fun o1 o2=>((Below.refl _ _).alloc (Nat.le_refl _) _).alloc (by simp) _
 have VH:=Hid.mk (fun o1 o2=>Q7W hN k (w:=(w.alloc o1).alloc o2) (fun p hp=>((hb2 o1 o2).block _ (Qc (hw p hp))).trans (hw p hp)))
 go_enter Tryz.func314,Tryz.ntmps314
 go_wp2_with fail
 refine (VH.out _ _).mono ?_
 rintro e w1 ⟨rfl,hbw⟩
 have oB1:w1.heap[w.heap.size]? = some (.cells #[.int .i64 n.low,.int .i64 n.high,.slice x y z,.bool n.wide,.map (some m),.pointer pa] 321):=(hbw.block _ (by simp;omega)).trans ((Below.heap_alloc _ _ _ (by simp)).trans (Qg rfl))
 have oR1:w1.heap[w.heap.size + 1]? = some (.cells #[.int .i64 0,.int .i64 0] 323):=(hbw.block _ (by simp)).trans (Qg (by simp))
 have hbW:Below w.heap.size w w1:=(hb2 _ _).trans (hbw.mono (by simp;omega))
 have hmW:w1.heap[m]? = some (Q0Y ws):=(hbW.block _ (Qc (hw _ hm))).trans (hw _ hm)
 have hlk:=QiV hmW nd k
 have hsz1:=hbW.size
 have lR:=Qc oR1
 have HO:=Hid.mk ho
 have HW:=Hid.mk hw
 clear hbw hmem ho hw
 cases hh:n.has k with
 | false=>
  have E1:Hid (wayV n ws o k = .agg #[.int .i64 0,.int .i64 0]):=by show _=_;simp [wayV,wayL,hh]
  have E2:Hid ((wayL n ws o k).isSome=false):=by show _=_;simp [wayL,hh]
  have HBF:Hid (∀ a c,Below w.heap.size w ((w1.setCell ⟨w.heap.size + 1,0,none⟩ a).setCell ⟨w.heap.size + 1,1,none⟩ c)):=fun a c=>(hbW.setCell (p:=⟨w.heap.size + 1,0,none⟩) (by simp) a).setCell (p:=⟨w.heap.size + 1,1,none⟩) (by simp) c
  obtain ⟨r0,r1,rf,rl⟩:=Q0o oR1
  obtain ⟨z0,z1,_,_⟩:=Q0o (Q5b (k':=.int .i64 0) (t':=.int .i64 0) oR1)
  clear hbW hlk
  go_wp2
  exact bodyPost_ret (v:=.tuple #[.agg #[.int .i64 0,.int .i64 0],.bool false]) (by simp [results,Tryz.results314,go_sem,z0,z1]) rfl ⟨by rw [E1.out,E2.out],HBF.out _ _⟩
 | true=>
  obtain ⟨b0,b1,b2,b3,b4,b5,bf,bl⟩:=Q10 oB1
  cases hl:QK ws k with
  | some q=>
   rw [hl] at hlk
   have E1:Hid (wayV n ws o k = .agg #[.int .i64 q.1,.int .i64 q.2]):=by show _=_;simp [wayV,wayL,hh,hl]
   have E2:Hid ((wayL n ws o k).isSome=true):=by show _=_;simp [wayL,hh,hl]
   have oR:∀ (k' t':Value) ob,(((w1.setCell ⟨w.heap.size + 1,0,none⟩ k').setCell ⟨w.heap.size + 1,1,none⟩ t').alloc ob).heap[w.heap.size + 1]? = some (.cells #[k',t'] 323):=fun k' t' ob=>(Below.heap_alloc _ _ _ (Qc (Q5b oR1))).trans (Q5b oR1)
   have HBF:Hid (∀ ob a c,Below w.heap.size w (((w1.setCell ⟨w.heap.size + 1,0,none⟩ a).setCell ⟨w.heap.size + 1,1,none⟩ c).alloc ob)):=fun ob a c=>((hbW.setCell (p:=⟨w.heap.size + 1,0,none⟩) (by simp) a).setCell (p:=⟨w.heap.size + 1,1,none⟩) (by simp) c).alloc (by simp [World.setCell];omega) ob
   obtain ⟨r0,r1,rf,rl⟩:=Q0o oR1
   have zz:=fun ob=>Q0o (oR (.int .i64 (q.1:Int)) (.int .i64 (q.2:Int)) ob)
   have z0:=fun ob=>(zz ob).1
   have z1:=fun ob=>(zz ob).2.1
   clear hbW zz oR hh hl
   go_wp2
   exact bodyPost_ret (v:=.tuple #[.agg #[.int .i64 q.1,.int .i64 q.2],.bool true]) (by simp [results,Tryz.results314,go_sem,z0,z1]) rfl ⟨by rw [E1.out,E2.out],HBF.out _ _ _⟩
  | none=>
   rw [hl] at hlk
   have oR:∀ (k' t':Value) ob,(((w1.setCell ⟨w.heap.size + 1,0,none⟩ k').setCell ⟨w.heap.size + 1,1,none⟩ t').alloc ob).heap[w.heap.size + 1]? = some (.cells #[k',t'] 323):=fun k' t' ob=>(Below.heap_alloc _ _ _ (Qc (Q5b oR1))).trans (Q5b oR1)
   have HBF:Hid (∀ ob a c,Below w.heap.size w (((w1.setCell ⟨w.heap.size + 1,0,none⟩ a).setCell ⟨w.heap.size + 1,1,none⟩ c).alloc ob)):=fun ob a c=>((hbW.setCell (p:=⟨w.heap.size + 1,0,none⟩) (by simp) a).setCell (p:=⟨w.heap.size + 1,1,none⟩) (by simp) c).alloc (by simp [World.setCell];omega) ob
   obtain ⟨r0,r1,rf,rl⟩:=Q0o oR1
   cases o with
   | some q=>
    obtain ⟨b9,e9,h9⟩:=HO.out
    cases e9
    have h9':w1.heap[b9]? = some (.cells #[.int .i64 q.1,.int .i64 q.2] 323):=(hbW.block _ (Qc (HW.out _ h9))).trans (HW.out _ h9)
    obtain ⟨p0,p1,pf,pl⟩:=Q0o h9'
    have E1:Hid (wayV n ws (some q) k = .agg #[.int .i64 q.1,.int .i64 q.2]):=by show _=_;simp [wayV,wayL,hh,hl]
    have E2:Hid ((wayL n ws (some q) k).isSome=true):=by show _=_;simp [wayL,hh,hl]
    have zz:=fun ob=>Q0o (oR (.int .i64 (q.1:Int)) (.int .i64 (q.2:Int)) ob)
    have z0:=fun ob=>(zz ob).1
    have z1:=fun ob=>(zz ob).2.1
    clear hbW zz oR hh hl
    go_wp2
    exact bodyPost_ret (v:=.tuple #[.agg #[.int .i64 q.1,.int .i64 q.2],.bool true]) (by simp [results,Tryz.results314,go_sem,z0,z1]) rfl ⟨by rw [E1.out,E2.out],HBF.out _ _ _⟩
   | none=>
    have e9:Value.pointer pa = .pointer none:=HO.out
    cases e9
    have E1:Hid (wayV n ws none k = .agg #[.int .i64 0,.int .i64 0]):=by show _=_;simp [wayV,wayL,hh,hl]
    have E2:Hid ((wayL n ws none k).isSome=false):=by show _=_;simp [wayL,hh,hl]
    have zz:=fun ob=>Q0o (oR (.int .i64 0) (.int .i64 0) ob)
    have z0:=fun ob=>(zz ob).1
    have z1:=fun ob=>(zz ob).2.1
    clear hbW zz oR hh hl
    go_wp2
    exact bodyPost_ret (v:=.tuple #[.agg #[.int .i64 0,.int .i64 0],.bool false]) (by simp [results,Tryz.results314,go_sem,z0,z1]) rfl ⟨by rw [E1.out,E2.out],HBF.out _ _ _⟩
theorem Q0g.setFr {w u:World} {D:Nat} {Fr bs:List (Nat×Obj)} {b:List UInt8} {dep fuel size:Nat} {d:DSt} {nsl:Value} {m:Nat} {o o':Obj} {u':World} (h:Q0g w D ((m,o) :: Fr) bs b dep fuel size d nsl u) (hk:Qb [m] u u') (ho:u'.heap[m]? = some o'):Q0g w D ((m,o') :: Fr) bs b dep fuel size d nsl u':=
 h.beside hk (by simpa using (h.own.hf (m,o) (by simp)).2) (h.own.setFr hk ho)
theorem Qkj {w u:World} {D:Nat} {Fr bs:List (Nat×Obj)} {b:List UInt8} {dep fuel size:Nat} {d:DSt} {nsl:Value} {bsN:List (Nat×Obj)} {cs:List Value} {n:NumL} {m:Nat} {ws:List (Int×Nat×Nat)} {ov:Value} {o:Option (Nat×Nat)} (hN:Q1g bsN cs n) (hm:(m,Q0Y ws)∈bsN) (ho:Q38 bsN ov o) (nd:(ws.map (·.1)).Nodup) (hw:∀ p∈bsN,w.heap[p.1]? = some p.2) (hfu:fuel≤10000) (h:Q0g w D Fr bs b dep fuel size d nsl u) :
  Calls Tryz.prog 323 #[.pointer (some ⟨D,0,none⟩),.agg (cs++[.map (some m),ov]).toArray] u (Q0V w D Fr bs b dep fuel size ((decW b dep fuel).arm n (fun k=>(wayL n ws o k).map (·.2)) d) (wayV n ws o)):=by
 obtain ⟨mm,rfl,hmem,x,y,z,rfl⟩:=id hN
 obtain ⟨pa,rfl⟩:∃ pa,ov = .pointer pa:=by
  cases o with
  | none=>exact ⟨_,ho⟩
  | some q=>obtain ⟨b,h1,_⟩:=ho;exact ⟨_,h1⟩
 have M0:=(h.alloc (.cells #[.int .i64 n.low,.int .i64 n.high,.slice x y z,.bool n.wide,.map (some m),.pointer pa] 321)).alloc (.cells #[.int .i64 0,.int .i64 0] 323)
 have hsz:(u.alloc (.cells #[.int .i64 n.low,.int .i64 n.high,.slice x y z,.bool n.wide,.map (some m),.pointer pa] 321)).heap.size=u.heap.size + 1:=by simp
 rw [hsz] at M0
 have VB:=Hid.mk (Q75 M0)
 clear h M0
 go_enter Tryz.func323,Tryz.ntmps323
 go_wp2_with fail
 refine VB.out.mono ?_
 rintro e w1 (⟨_,d1,nsl1,hx,rfl,M1⟩ | ⟨f',hx,hk,g,hg,rfl,hc⟩)
 rotate_left
 ·refine Qa (Or.inr ⟨f',?_,hk,g,hg,rfl,hc⟩)
  rcases Q2p fuel d with ⟨hb,_⟩ | hb
  ·rw [hb] at hx;cases hx
  ·rw [hb] at hx
   cases hx
   show thenE (Q0x fuel d) _=_
   rw [hb]
   rfl
 obtain ⟨hb,hnl⟩:Q0x fuel d = .ok d∧d.nodes.length < fuel:=by
  rcases Q2p fuel d with hb | hb
  ·exact hb
  ·rw [hb] at hx;cases hx
 obtain rfl:d1=d:=by rw [hb] at hx;cases hx;rfl
 have E0:Hid ((decW b dep fuel).arm n (fun k=>(wayL n ws o k).map (·.2)) d1=thenE (Q2F b d1) fun p=>match (wayL n ws o (Q0A n p.1)).map (·.2) with | none=>.error ⟨18,d1.pos⟩ | some k=>.ok (Q0A n p.1,putD ⟨4,Q0A n p.1,[],k,0⟩ p.2)):=by
  show thenE (Q0x fuel d1) _=_
  rw [hb]
  rfl
 have VA:=Hid.mk (Q6E M1)
 have VW:=Hid.mk (Qa2 (M1.below (Below.refl _ _).drew))
 obtain ⟨q0,q1,q2,q3,q4,q5,qf,ql⟩:=Q10 (M1.own.hf _ (List.mem_cons_of_mem _ List.mem_cons_self)).1
 clear hx hb M1 VB
 go_wp2_with fail
 refine VA.out.mono ?_
 rintro e w2 ⟨rfl,rfl⟩
 go_wp2_with fail
 refine QD (fun w'=>w'.cell? ⟨u.heap.size,0,none⟩=some (.int .i64 n.low)∧w'.cell? ⟨u.heap.size,1,none⟩=some (.int .i64 n.high)∧w'.cell? ⟨u.heap.size,2,none⟩=some (.slice x y z)∧w'.cell? ⟨u.heap.size,3,none⟩=some (.bool n.wide)) (L:=7) (by kernel_rfl) rfl (by kernel_rfl) (by kernel_rfl) ?_ (fun hHeld=>?_)
 ·go_keep
 refine tk (i:=0) (v:=?_) rfl (by kernel_rfl) (fun _ _ _ h=>h) (by rfl) (by assumption) ?_ ?_
 rotate_left
 ·intro w hSw;(try dsimp only at hSw);go_simp;(try with_reducible rfl)
 (try simp only [Qd,Qe,List.set])
 refine tk (i:=1) (v:=?_) rfl (by kernel_rfl) (fun _ _ _ h=>h) (by rfl) (by assumption) ?_ ?_
 rotate_left
 ·intro w hSw;(try dsimp only at hSw);go_simp;(try with_reducible rfl)
 (try simp only [Qd,Qe,List.set])
 refine tk (i:=2) (v:=?_) rfl (by kernel_rfl) (fun _ _ _ h=>h) (by rfl) (by assumption) ?_ ?_
 rotate_left
 ·intro w hSw;(try dsimp only at hSw);go_simp;(try with_reducible rfl)
 (try simp only [Qd,Qe,List.set])
 refine tk (i:=3) (v:=?_) rfl (by kernel_rfl) (fun _ _ _ h=>h) (by rfl) (by assumption) ?_ ?_
 rotate_left
 ·intro w hSw;(try dsimp only at hSw);go_simp;(try with_reducible rfl)
 (try simp only [Qd,Qe,List.set])
 refine tk (i:=4) (v:=?_) rfl (by kernel_rfl) (fun _ _ _ h=>h) (by rfl) (by assumption) ?_ ?_
 rotate_left
 ·intro w hSw;(try dsimp only at hSw);go_simp;(try with_reducible rfl)
 (try simp only [Qd,Qe,List.set])
 refine wpAnyH_ready (rs:=[5]) (by kernel_rfl) (by simp) ?_
 refine AllReadyH.cons rfl (fun K hK=>?_) AllReadyH.nil
 (go_simp;go_at_call 76;refine VW.out.mono ?_;rintro e w3 (⟨v,d3,nsl3,hx,rfl,M3⟩ | ⟨f,hx,hk,g,hg,rfl,hc⟩);rotate_left;exact Qa (Or.inr ⟨f,by rw [E0.out,hx];rfl,hk,g,hg,rfl,hc⟩);obtain ⟨r0,r1,r2,r3,r4,r5,rf,rl⟩:=Q10 (M3.own.hf _ (List.mem_cons_of_mem _ List.mem_cons_self)).1;have hv:v < 4294967296:=(by rw [(Q29 hx).1];exact Q28 (Q29 hx).2.1);have hnd:d3.nodes.length < 10000:=(by rw [(Q29 hx).2.2.2.1];omega);have E1:Hid ((decW b dep fuel).arm n (fun k=>(wayL n ws o k).map (·.2)) d1=match (wayL n ws o (Q0A n v)).map (·.2) with | none=>.error ⟨18,d1.pos⟩ | some k=>.ok (Q0A n v,putD ⟨4,Q0A n v,[],k,0⟩ d3)):=(by show _=_;rw [E0.out,hx];rfl);have M3:=Hid.mk M3;clear hx)
 refine hK.out _ _ ?_ (fun hHeld=>?_)
 ·go_keep
 clear hK K
 (try simp only [Qd,Qe,List.set])
 refine wpAnyH_ready (rs:=[6]) (by kernel_rfl) (by simp) ?_
 refine AllReadyH.cons rfl (fun K hK=>?_) AllReadyH.nil
 (go_simp;go_at_call 328;refine (QiN n x y z v hv w3).mono ?_;rintro e w4 ⟨rfl,hb4⟩;have M4:=M3.out.below hb4;obtain ⟨s0,s1,s2,s3,s4,s5,sf,sl⟩:=Q10 (M4.own.hf _ (List.mem_cons_of_mem _ List.mem_cons_self)).1;have M4:=Hid.mk M4;clear hb4)
 refine hK.out _ _ ?_ (fun hHeld=>?_)
 ·go_keep
 clear hK K
 (try simp only [Qd,Qe,List.set])
 refine wpAnyH_done (by kernel_rfl) ?_ _
 refine QL rfl (fun K hK=>?_)
 go_simp
 refine hK.out _ _ ?_
 clear hK K
 (try simp only [Qd,Qe,List.set])
 have VY:=Hid.mk (QfN hN hm ho nd (Q0A n v) (fun p hp=>(M4.out.own.kp.block _ (Qc (hw p hp)) (by simp)).trans (hw p hp)))
 clear VA VW E0
 go_wp2_with fail
 refine VY.out.mono ?_
 rintro e w5 ⟨rfl,hb5⟩
 have M5:=M4.out.below hb5
 have hk5:Hid (Qb [] w w5):=M5.own.kp
 cases hwl:wayL n ws o (Q0A n v) with
 | none=>
  have EV:wayV n ws o (Q0A n v) = .agg #[.int .i64 0,.int .i64 0]:=by simp [wayV,hwl]
  have E2:Hid ((decW b dep fuel).arm n (fun k=>(wayL n ws o k).map (·.2)) d1 = .error ⟨18,d1.pos⟩):=by show _=_;rw [E1.out,hwl];rfl
  rw [EV]
  simp only [Option.isSome_none]
  clear M5 E1 EV VY hwl
  go_wp2_with (go_at_call 47;refine (Q09 _ _ _).mono ?_;rintro e w' ⟨rfl,rfl⟩)
  exact Qa (Q0V.throws (u:=w5) (f:=⟨18,d1.pos⟩) E2.out hk5.out (((Qb.refl [] _).alloc _).alloc _) (by simp) (Qg (by simp)))
 | some q=>
  have EV:wayV n ws o (Q0A n v) = .agg #[.int .i64 q.1,.int .i64 q.2]:=by simp [wayV,hwl]
  have E2:Hid ((decW b dep fuel).arm n (fun k=>(wayL n ws o k).map (·.2)) d1 = .ok (Q0A n v,putD ⟨4,Q0A n v,[],q.2,0⟩ d3)):=by show _=_;rw [E1.out,hwl];rfl
  have HEV:=Hid.mk EV
  rw [EV]
  simp only [Option.isSome_some]
  have M6:=M5.alloc (.cells #[.int .i64 q.1,.int .i64 q.2] 323)
  have VP:=Hid.mk (Q7X ⟨4,Q0A n v,[],q.2,0⟩ hnd M6)
  clear M5 M6 E1 EV VY hwl
  go_wp2_with fail
  refine VP.out.mono ?_
  rintro e w7 ⟨rfl,nsl7,M7⟩
  obtain ⟨t0,t1,tf,tl⟩:=Q0o (M7.own.hf _ List.mem_cons_self).1
  have oR:=(M7.own.hf _ (List.mem_cons_of_mem _ List.mem_cons_self)).1
  obtain ⟨p0,p1,pf,pl⟩:=Q0o oR
  have z:=Q5b (k':=.int .i64 (q.1:Int)) (t':=.int .i64 (q.2:Int)) oR
  obtain ⟨z0,z1,_,_⟩:=Q0o z
  have M8:=Hid.mk (M7.tail.setFr (((Qb.refl [u.heap.size + 1] w7).setIn (p:=⟨u.heap.size + 1,0,none⟩) (by simp) (.int .i64 (q.1:Int))).setIn (p:=⟨u.heap.size + 1,1,none⟩) (by simp) (.int .i64 (q.2:Int))) z).tail.tail
  clear M7 oR z VP
  go_wp2
  exact bodyPost_ret (v:=.agg #[.int .i64 q.1,.int .i64 q.2]) (by simp [results,Tryz.results323,go_sem,z0,z1]) rfl (Or.inl ⟨Q0A n v,_,nsl7,E2.out,by rw [HEV.out],M8.out⟩)
def Q5c {τ α:Type} (w:World) (J:List (Nat×Obj)→τ→World→Prop) (Fr:List (Nat×Obj)) (r:Except Mar.Fault (α×τ)) (V:α→Value) (e:Ending) (u':World):Prop:=
 (∃ a d',r = .ok (a,d')∧e = .returned (V a)∧J Fr d' u')∨(∃ f,r = .error f∧Qb [] w u'∧Q0l w f.no f.at' e u')
def Q97 {τ:Type} (r:Except Mar.Fault τ):Except Mar.Fault (Unit×τ):=thenE r fun d=>.ok ((),d)
structure Wkr (τ:Type) (w:World) (bs:List (Nat×Obj)) where
 W:Wk τ
 T:TypeId
 D:Nat
 J:List (Nat×Obj)→τ→World→Prop
 base:∀ {Fr d u},J Fr d u→∃ own bz,Own w own Fr bz u∧∀ {Fr' u' M},Qb M u u'→(∀ m∈M,m ∉ own)→Own w own Fr' bz u'→J Fr' d u'
 fE:Nat
 fN:Nat
 fT:Nat
 fL:Nat
 fA:Nat
 mE : ∀ k (u : World), (method (k + 1) T (.pointer (some ⟨D, 0, none⟩)) "Enter").run Tryz.prog u = .ok (fE, .pointer (some ⟨D, 0, none⟩)) u
 mN : ∀ k (u : World), (method (k + 1) T (.pointer (some ⟨D, 0, none⟩)) "Number").run Tryz.prog u = .ok (fN, .pointer (some ⟨D, 0, none⟩)) u
 mT : ∀ k (u : World), (method (k + 1) T (.pointer (some ⟨D, 0, none⟩)) "Text").run Tryz.prog u = .ok (fT, .pointer (some ⟨D, 0, none⟩)) u
 mL : ∀ k (u : World), (method (k + 1) T (.pointer (some ⟨D, 0, none⟩)) "List").run Tryz.prog u = .ok (fL, .pointer (some ⟨D, 0, none⟩)) u
 mA : ∀ k (u : World), (method (k + 1) T (.pointer (some ⟨D, 0, none⟩)) "Arm").run Tryz.prog u = .ok (fA, .pointer (some ⟨D, 0, none⟩)) u
 eE:∀ (args:Array Value) (u:World),(callFunc fE args).run Tryz.prog u = .ok (.enter fE args) u
 eN:∀ (args:Array Value) (u:World),(callFunc fN args).run Tryz.prog u = .ok (.enter fN args) u
 eT:∀ (args:Array Value) (u:World),(callFunc fT args).run Tryz.prog u = .ok (.enter fT args) u
 eL:∀ (args:Array Value) (u:World),(callFunc fL args).run Tryz.prog u = .ok (.enter fL args) u
 eA:∀ (args:Array Value) (u:World),(callFunc fA args).run Tryz.prog u = .ok (.enter fA args) u
 cE:∀ {Fr d u} (k:Nat),k < 1000→J Fr d u→Calls Tryz.prog fE #[.pointer (some ⟨D,0,none⟩),.int .i64 k] u (Q5c w J Fr (Q97 (W.enter k d)) fun _=>.tuple #[])
 cN:∀ {Fr d u cs n},Q1g bs cs n→J Fr d u→Calls Tryz.prog fN #[.pointer (some ⟨D,0,none⟩),.agg cs.toArray] u (Q5c w J Fr (Q97 (W.num n d)) fun _=>.tuple #[])
 cT:∀ {Fr d u} (n:Int) (f:Bool),0≤n→n≤4294967295→J Fr d u→Calls Tryz.prog fT #[.pointer (some ⟨D,0,none⟩),.agg #[.int .i64 n,.bool f]] u (Q5c w J Fr (Q97 (W.text n f d)) fun _=>.tuple #[])
 cL:∀ {Fr d u} (n:Int) (f:Bool),0≤n→n≤4294967295→J Fr d u→Calls Tryz.prog fL #[.pointer (some ⟨D,0,none⟩),.agg #[.int .i64 n,.bool f]] u (Q5c w J Fr (W.list n f d) fun v=>.int .i64 v)
 cA:∀ {Fr d u cs n m ws ov o},Q1g bs cs n→(m,Q0Y ws)∈bs→Q38 bs ov o→(ws.map (·.1)).Nodup→J Fr d u→Calls Tryz.prog fA #[.pointer (some ⟨D,0,none⟩),.agg (cs++[.map (some m),ov]).toArray] u (Q5c w J Fr (W.arm n (fun k=>(wayL n ws o k).map (·.2)) d) (wayV n ws o))
 small:∀ {n f d k d'},0≤n→n≤4294967295→W.list n f d = .ok (k,d')→k≤4294967295
section
variable {τ : Type} {w u u' : World} {bs : List (Nat × Obj)} (K : Wkr τ w bs) {Fr : List (Nat × Obj)} {d : τ}
theorem Wkr.kp (h:K.J Fr d u):Qb [] w u:=by
 obtain ⟨own,bz,ho,_⟩:=K.base h
 exact ho.kp
theorem Wkr.below (h:K.J Fr d u) (hb:Below u.heap.size u u'):K.J Fr d u':=by
 obtain ⟨own,bz,ho,hf⟩:=K.base h
 exact hf (Qb.of_below [] hb) (by simp) (ho.below hb)
theorem Wkr.alloc (h:K.J Fr d u) (o:Obj):K.J ((u.heap.size,o) :: Fr) d (u.alloc o):=by
 obtain ⟨own,bz,ho,hf⟩:=K.base h
 exact hf ((Qb.refl [] u).alloc o) (by simp) (ho.alloc o)
theorem Wkr.perm {Fr':List (Nat×Obj)} (h:K.J Fr d u) (hp:Fr.Perm Fr'):K.J Fr' d u:=by
 obtain ⟨own,bz,ho,hf⟩:=K.base h
 refine hf (Qb.refl [] u) (by simp) (ho.sub (fun q hq=>hp.mem_iff.2 hq) ?_)
 have:=ho.fnd
 rw [(hp.map _).nodup_iff] at this
 exact this
theorem Wkr.sub {Fr':List (Nat×Obj)} (h:K.J Fr d u) (hs:∀ p∈Fr',p∈Fr) (hn:(Fr'.map (·.1)).Nodup):K.J Fr' d u:=by
 obtain ⟨own,bz,ho,hf⟩:=K.base h
 exact hf (Qb.refl [] u) (by simp) (ho.sub hs hn)
theorem Wkr.nodup (h:K.J Fr d u):(Fr.map (·.1)).Nodup:=by
 obtain ⟨own,bz,ho,hf⟩:=K.base h
 exact ho.fnd
theorem Wkr.at (h:K.J Fr d u) {p:Nat×Obj} (hp:p∈Fr):u.heap[p.1]? = some p.2∧w.heap.size≤p.1:=by
 obtain ⟨own,bz,ho,hf⟩:=K.base h
 exact ⟨(ho.hf p hp).1,ho.fnew p hp⟩
theorem Wkr.setFr {m:Nat} {o o':Obj} (h:K.J ((m,o) :: Fr) d u) (hk:Qb [m] u u') (ho':u'.heap[m]? = some o'):K.J ((m,o') :: Fr) d u':=by
 obtain ⟨own,bz,ho,hf⟩:=K.base h
 exact hf hk (by simpa using (ho.hf (m,o) (by simp)).2) (ho.setFr hk ho')
theorem Wkr.turnAt {A B:List (Nat×Obj)} {m:Nat} {o o':Obj} (h:K.J (A++(m,o) :: B) d u) (hk:Qb [m] u u') (ho':u'.heap[m]? = some o'):K.J (A++(m,o') :: B) d u':=
 K.perm (K.setFr (K.perm h List.perm_middle) hk ho') List.perm_middle.symm
end
def Q4s (E:List (Nat×Obj)) (t:TypeId) (sz:Nat) (v:Value) (n:Nat) (xs:List Value):Prop:=
 (E=[]∧v = .slice none 0 0∧n=0∧xs=[])∨∃ g cap cur,E=[(g,.cells cur t)]∧v = .slice (some ⟨g,0,none⟩) n cap∧n≤cap∧cap≤maxLen∧cur.size=cap * sz∧cur.toList.take (n * sz)=xs
section
variable {τ : Type} {w u : World} {bs : List (Nat × Obj)} (K : Wkr τ w bs) {Fr E : List (Nat × Obj)} {d : τ} {t : TypeId} {sz n : Nat} {v : Value} {xs : List Value}
theorem Q4s.slice (h:Q4s E t sz v n xs):∃ ad cap,v = .slice ad n cap:=by
 rcases h with ⟨_,rfl,rfl,_⟩ | ⟨g,cap,cur,_,rfl,_⟩
 ·exact ⟨none,0,rfl⟩
 ·exact ⟨_,_,rfl⟩
theorem Q4s.owns (h:Q4s E t sz v n xs) (hx:xs.length=n * sz) (hj:K.J (E++Fr) d u):u.ownsRow w.heap.size t sz v n xs:=by
 refine ⟨hx,?_⟩
 rcases h with ⟨_,rfl,rfl,rfl⟩ | ⟨g,cap,cur,rfl,rfl,h1,h2,h3,h4⟩
 ·exact Or.inl ⟨rfl,rfl⟩
 ·obtain ⟨a1,a2⟩:=K.at hj (p:=(g,.cells cur t)) (by simp)
  exact Or.inr ⟨g,cap,cur,rfl,a2,a1,h1,h2,h3,h4⟩
theorem Q4s.grow {u2 u3:World} {g cap:Nat} {news:List Value} (h:Q4s E t sz v n xs) (hj:K.J (E++Fr) d u) (hb:Below u.heap.size u u2)
  (hown:u3.ownsRow w.heap.size t sz (.slice (some ⟨g,0,none⟩) (n + 1) cap) (n + 1) (xs++news)) (hg:u2.grownBy u3 v.ownBlock) (hat:v.ownBlock=some g∨g=u2.heap.size) :
  ∃ E',Q4s E' t sz (.slice (some ⟨g,0,none⟩) (n + 1) cap) (n + 1) (xs++news)∧K.J (E'++Fr) d u3:=by
 obtain ⟨hwg,hlt⟩:=Q1J hown (g:=g) rfl
 rcases hown.2 with ⟨h0,_⟩ | ⟨g',cap',cur,e,_,o2,o3,o4,o5,o6⟩
 ·cases h0
 cases e
 have j2:=K.below hj hb
 have hk:=Q0q hg
 refine ⟨[(g,.cells cur t)],Or.inr ⟨g,cap,cur,rfl,rfl,o3,o4,o5,o6⟩,?_⟩
 rcases h with ⟨rfl,rfl,rfl,rfl⟩ | ⟨g0,cap0,cur0,rfl,rfl,h1,h2,h3,h4⟩
 ·simp only [Value.ownBlock] at hat hk
  have hgs:g=u2.heap.size:=by
   rcases hat with h | h
   ·cases h
   ·exact h
  have hk0:Qb [] u2 u3:=hk.mono (by simp)
  obtain ⟨own,bz,ho,hf⟩:=K.base j2
  refine hf hk0 (by simp) ((ho.turn hk0 (by simp)).addFr o2 hwg ?_ ?_ ?_)
  ·intro hm;have:=ho.lt _ hm;omega
  ·intro p hp;have:=Qc (ho.hf p hp).1;omega
  ·intro p hp;have:=Qc (ho.hb p hp).1;omega
 ·simp only [Value.ownBlock,Option.some.injEq,Option.toList_some] at hat hk
  rcases hat with rfl | hgs
  ·exact K.setFr (o:=.cells cur0 t) j2 hk o2
  ·have hn:=K.nodup j2
   simp only [List.cons_append,List.nil_append,List.map_cons,List.nodup_cons] at hn
   obtain ⟨own,bz,ho,hf⟩:=K.base j2
   have hg0:=ho.hf _ List.mem_cons_self
   have t2:=ho.tail
   have o1:Own w own Fr bz u3:=t2.other hk (by
    intro x hx
    simp only [List.mem_singleton] at hx
    subst hx
    refine ⟨ho.fnew _ List.mem_cons_self,hg0.2,?_,?_⟩
    ·intro p hp e
     exact hn.1 (by rw [← e];exact List.mem_map_of_mem hp)
    ·intro p hp e
     exact ho.sep _ List.mem_cons_self p hp e.symm)
   refine hf hk (by simpa using hg0.2) (o1.addFr o2 hwg ?_ ?_ ?_)
   ·intro hm;have:=ho.lt _ hm;omega
   ·intro p hp;have:=Qc (t2.hf p hp).1;omega
   ·intro p hp;have:=Qc (ho.hb p hp).1;omega
theorem Q4s.pop {ys zs:List Value} (h:Q4s E t sz v (n + 1) (ys++zs)) (hy:ys.length=n * sz):∃ g cap cur,v = .slice (some ⟨g,0,none⟩) (n + 1) cap∧n + 1≤cap∧E=[(g,.cells cur t)]∧cur.toList.take ((n + 1) * sz)=ys++zs∧Q4s E t sz (.slice (some ⟨g,0,none⟩) n cap) n ys:=by
 rcases h with ⟨_,_,h0,_⟩ | ⟨g,cap,cur,rfl,rfl,h1,h2,h3,h4⟩
 ·omega
 ·refine ⟨g,cap,cur,rfl,h1,rfl,h4,Or.inr ⟨g,cap,cur,rfl,rfl,by omega,h2,h3,?_⟩⟩
  have:cur.toList.take (n * sz)=(cur.toList.take ((n + 1) * sz)).take (n * sz):=by
   rw [List.take_take]
   congr 1
   rw [Nat.add_mul]
   omega
  rw [this,h4,← hy]
  simp
end
abbrev Q2W (p:Nat×Nat):List Value:=[.int .i64 p.1,.int .i64 p.2]
abbrev mObj {τ:Type} {w:World} {bs:List (Nat×Obj)} (K:Wkr τ w bs) (nx:Nat) (csl rsl:Value) (en:Bool):Obj:=.cells #[.iface K.T (.pointer (some ⟨K.D,0,none⟩)),.int .i64 nx,csl,rsl,.bool en] 237
structure McAt {τ:Type} {w:World} {bs:List (Nat×Obj)} (K:Wkr τ w bs) (Fr:List (Nat×Obj)) (M:Nat) (m:MSt) (en:Bool) (d:τ) (Ec Er:List (Nat×Obj)) (csl rsl:Value) (u:World):Prop where
 rc:Q4s Ec 3 1 csl m.calls.length (m.calls.reverse.map Q56)
 rr:Q4s Er 413 2 rsl m.rounds.length (m.rounds.reverse.flatMap Q2W)
 j:K.J (Ec++(Er++(M,mObj K m.next csl rsl en) :: Fr)) d u
def Mc {τ:Type} {w:World} {bs:List (Nat×Obj)} (K:Wkr τ w bs) (Fr:List (Nat×Obj)) (M:Nat) (m:MSt) (en:Bool) (d:τ) (u:World):Prop:=∃ Ec Er csl rsl,McAt K Fr M m en d Ec Er csl rsl u
theorem Q2a {b:Nat} {c0 c1 c2 c3 c4:Value} {T:TypeId} {w:World} (h:w.heap[b]? = some (.cells #[c0,c1,c2,c3,c4] T)) :
  w.cell? ⟨b,0,none⟩=some c0∧w.cell? ⟨b,1,none⟩=some c1∧w.cell? ⟨b,2,none⟩=some c2∧w.cell? ⟨b,3,none⟩=some c3∧w.cell? ⟨b,4,none⟩=some c4∧(∀ i,w.frozen? ⟨b,i,none⟩=false)∧b < w.heap.size:=by
 refine ⟨?_,?_,?_,?_,?_,?_,Qc h⟩<;>simp [World.cell?,World.frozen?,h]
section
variable {τ : Type} {w u u' : World} {bs : List (Nat × Obj)} {K : Wkr τ w bs} {Fr : List (Nat × Obj)} {M : Nat} {m : MSt} {en : Bool} {d : τ} {Ec Er : List (Nat × Obj)} {csl rsl : Value}
theorem McAt.box (h:McAt K Fr M m en d Ec Er csl rsl u):u.heap[M]? = some (mObj K m.next csl rsl en):=(K.at h.j (p:=(M,mObj K m.next csl rsl en)) (by simp)).1
theorem McAt.cells (h:McAt K Fr M m en d Ec Er csl rsl u):u.cell? ⟨M,0,none⟩=some (.iface K.T (.pointer (some ⟨K.D,0,none⟩)))∧u.cell? ⟨M,1,none⟩=some (.int .i64 m.next)∧u.cell? ⟨M,2,none⟩=some csl∧u.cell? ⟨M,3,none⟩=some rsl∧u.cell? ⟨M,4,none⟩=some (.bool en)∧(∀ i,u.frozen? ⟨M,i,none⟩=false)∧M < u.heap.size:=Q2a h.box
theorem McAt.below (h:McAt K Fr M m en d Ec Er csl rsl u) (hb:Below u.heap.size u u'):McAt K Fr M m en d Ec Er csl rsl u':=⟨h.rc,h.rr,K.below h.j hb⟩
theorem Wkr.turn2 {A A' B:List (Nat×Obj)} {q:Nat} {o o':Obj} (h:K.J (A++(A'++(q,o) :: B)) d u) (hk:Qb [q] u u') (ho':u'.heap[q]? = some o'):K.J (A++(A'++(q,o') :: B)) d u':=by
 have:=K.turnAt (A:=A++A') (by simpa using h) hk ho'
 simpa using this
theorem McAt.goto (h:McAt K Fr M m en d Ec Er csl rsl u) (p:Nat):McAt K Fr M { m with next:=p } en d Ec Er csl rsl (u.setCell ⟨M,1,none⟩ (.int .i64 p)):=
 ⟨h.rc,h.rr,Wkr.turn2 h.j ((Qb.refl [M] u).setIn (p:=⟨M,1,none⟩) (by simp) _) (Qo (i:=1) h.box _)⟩
theorem McAt.ended (h:McAt K Fr M m en d Ec Er csl rsl u) (b:Bool):McAt K Fr M m b d Ec Er csl rsl (u.setCell ⟨M,4,none⟩ (.bool b)):=
 ⟨h.rc,h.rr,Wkr.turn2 h.j ((Qb.refl [M] u).setIn (p:=⟨M,4,none⟩) (by simp) _) (Qo (i:=4) h.box _)⟩
end
theorem QmE {τ:Type} {w u:World} {bs:List (Nat×Obj)} {K:Wkr τ w bs} {Fr:List (Nat×Obj)} {M:Nat} {m:MSt} {en:Bool} {d:τ} (h:Mc K Fr M m en d u) :
  Calls Tryz.prog 275 #[.pointer (some ⟨M,2,none⟩)] u fun e u'=>e = .returned (.int .i64 m.calls.length)∧u'=u:=by
 obtain ⟨Ec,Er,csl,rsl,h⟩:=h
 obtain ⟨ad,cap,rfl⟩:=h.rc.slice
 obtain ⟨c0,c1,c2,c3,c4,cf,cl⟩:=h.cells
 clear h
 go_enter Tryz.func275,Tryz.ntmps275
 go_wp2
 go_ret
 exact ⟨rfl,rfl⟩
theorem Qkk {τ:Type} {w u:World} {bs:List (Nat×Obj)} {K:Wkr τ w bs} {Fr:List (Nat×Obj)} {M:Nat} {m:MSt} {en:Bool} {d:τ} (p:Nat) (hc:m.calls.length < 1000) (h:Mc K Fr M m en d u) :
  Calls Tryz.prog 276 #[.pointer (some ⟨M,2,none⟩),.int .i64 p] u fun e u'=>e = .returned (.tuple #[])∧Mc K Fr M { m with calls:=p :: m.calls } en d u':=by
 obtain ⟨Ec,Er,csl,rsl,h⟩:=h
 obtain ⟨ad,cap,rfl⟩:=h.rc.slice
 obtain ⟨c0,c1,c2,c3,c4,cf,cl⟩:=h.cells
 obtain ⟨i0,hi0,hz0,hz1,hz2⟩:=info_parts QfK
 have hown:=h.rc.owns K (by simp) h.j
 have hown5:∀ ob,(u.alloc ob).ownsRow w.heap.size 3 1 (.slice ad m.calls.length cap) m.calls.length (m.calls.reverse.map Q56):=fun ob=>Qt hown ((Qb.refl [] u).alloc ob) (by simp)
 have hwl:w.heap.size≤u.heap.size:=(K.kp h.j).size
 have hl1:m.calls.length + 1≤maxLen:=by unfold maxLen;omega
 have hl2:(m.calls.length + 1) * 8≤140737488355328:=by omega
 have hz3:(Value.int .i64 0).cells.size=1:=rfl
 have H:=Hid.mk h
 clear h hown
 go_enter Tryz.func276,Tryz.ntmps276
 go_wp2_with (first
  | (at_builtin;refine wpList_append_lies _ (by rfl) _ _ _ (by rfl) w.heap.size 3 i0 _ 1 8 Tryz.underlying230 hi0 hz0 hz1 hz2 hz3 (by omega) (.slice ad m.calls.length cap) m.calls.length (m.calls.reverse.map Q56) (by rfl) (hown5 _) ⟨u.heap.size,0,none⟩ 1 1 [.int .i64 p] (by rfl) (by rfl) (World.news_of_block (cs:=#[.int .i64 p]) (t:=3) (fr:=(0,0)) (heap_alloc_new u _)) (by simp [Value.oneCell']) (by omega) hl1 hl2 (by simp;omega) (u.heap.size + 1) (by simp) ?_;intro g cap' w8 hown8 hgrow hat hlt8;obtain ⟨E8,r8,j8⟩:=H.out.rc.grow K H.out.j ((Below.refl u.heap.size u).alloc (Nat.le_refl _) _) hown8 hgrow (by simpa using hat);have b8:=(K.at j8 (p:=(M,mObj K m.next (.slice ad m.calls.length cap) rsl en)) (by simp)).1;obtain ⟨y0,y1,y2,y3,y4,yf,yl⟩:=Q2a b8;have j9:=Hid.mk (Wkr.turn2 j8 ((Qb.refl [M] w8).setIn (p:=⟨M,2,none⟩) (by simp) (.slice (some ⟨g,0,none⟩) (m.calls.length + 1) cap')) (Qo (i:=2) b8 _));have R8:=Hid.mk r8;clear j8 r8 hown8 hgrow hat hown5 b8))
 go_end0
 refine ⟨rfl,E8,Er,_,rsl,?_,H.out.rr,j9.out⟩
 have:=R8.out
 simpa using this
theorem QmF {τ:Type} {w u:World} {bs:List (Nat×Obj)} {K:Wkr τ w bs} {Fr:List (Nat×Obj)} {M:Nat} {m:MSt} {en:Bool} {d:τ} {p:Nat} {ks:List Nat} (hm:m.calls=p :: ks) (hc:m.calls.length≤1000) (h:Mc K Fr M m en d u) :
  Calls Tryz.prog 271 #[.pointer (some ⟨M,2,none⟩)] u fun e u'=>e = .returned (.int .i64 p)∧Mc K Fr M { m with calls:=ks } en d u':=by
 obtain ⟨Ec,Er,csl,rsl,h⟩:=h
 have hr:=h.rc
 rw [hm] at hr
 simp only [List.length_cons,List.reverse_cons,List.map_append,List.map_cons,List.map_nil] at hr
 obtain ⟨g,cap,cur,rfl,hcap,rfl,htk,hr2⟩:=hr.pop (by simp)
 obtain ⟨c0,c1,c2,c3,c4,cf,cl⟩:=h.cells
 have hg:=(K.at h.j (p:=(g,.cells cur 3)) (by simp)).1
 have hlast:u.cell? ⟨g,ks.length,none⟩=some (.int .i64 p):=Qx (xs:=ks.reverse.map Q56++[Q56 p]) hg (by simpa using htk) (by rw [List.getElem?_append_right (by simp)];simp)
 have hks:ks.length < 1000:=by rw [hm] at hc;simp at hc;omega
 have j9:=Hid.mk (Wkr.turn2 h.j ((Qb.refl [M] u).setIn (p:=⟨M,2,none⟩) (by simp) (.slice (some ⟨g,0,none⟩) ks.length cap)) (Qo (i:=2) h.box _))
 have R8:=Hid.mk hr2
 have RR:=Hid.mk h.rr
 clear h hr hr2 hg htk hm hc
 go_enter Tryz.func271,Tryz.ntmps271
 go_wp2
 go_ret
 exact ⟨rfl,[(g,.cells cur 3)],Er,.slice (some ⟨g,0,none⟩) ks.length cap,rsl,R8.out,RR.out,j9.out⟩
theorem QiW:(Tryz.prog.info? 413).map (fun i=>(i.zero,i.size,i.bytes))=some (some (.agg #[.int .i64 0,.int .i64 0]),2,16):=by kernel_rfl
theorem QiX (k:Nat×Nat):∀ u∈Q2W k,u.oneCell'=true:=by
 intro u hu
 simp at hu
 rcases hu with rfl | rfl<;>rfl
theorem Q7Y (l:List (Nat×Nat)):(l.flatMap Q2W).length=l.length * 2:=by
 induction l with
 | nil=>rfl
 | cons a l ih=>simp only [List.flatMap_cons,List.length_append,ih,List.length_cons];simp;omega
theorem QbI {τ:Type} {w u:World} {bs:List (Nat×Obj)} {Z:Wkr τ w bs} {Fr:List (Nat×Obj)} {M:Nat} {m:MSt} {en:Bool} {d:τ} (p:Nat×Nat) (hc:m.rounds.length < 1000) (h:Mc Z Fr M m en d u) :
  Calls Tryz.prog 299 #[.pointer (some ⟨M,3,none⟩),.agg #[.int .i64 p.1,.int .i64 p.2]] u fun e u'=>e = .returned (.tuple #[])∧Mc Z Fr M { m with rounds:=p :: m.rounds } en d u':=by
 obtain ⟨Ec,Er,csl,rsl,h⟩:=h
 obtain ⟨ad,cap,rfl⟩:=h.rr.slice
 obtain ⟨c0,c1,c2,c3,c4,cf,cl⟩:=h.cells
 obtain ⟨i0,hi0,hz0,hz1,hz2⟩:=info_parts QiW
 have j1:Z.J (Er++(Ec++(M,mObj Z m.next csl (.slice ad m.rounds.length cap) en) :: Fr)) d u:=Z.perm h.j (List.perm_append_comm_assoc _ _ _)
 have hown:=h.rr.owns Z (by rw [Q7Y];simp) j1
 have hwl:w.heap.size≤u.heap.size:=(Z.kp h.j).size
 have hl1:m.rounds.length + 1≤maxLen:=by unfold maxLen;omega
 have hl2:(m.rounds.length + 1) * 16≤140737488355328:=by omega
 have hz3:(Value.agg #[.int .i64 0,.int .i64 0]).cells.size=2:=by decide
 have H:=Hid.mk h
 have J1:=Hid.mk j1
 have HOW:=Hid.mk hown
 clear h hown j1
 go_enter Tryz.func299,Tryz.ntmps299
 go_wp2_with fail
 refine QD (fun w'=>w'.cell? ⟨M,3,none⟩=some (.slice ad m.rounds.length cap)∧w'.cell? ⟨u.heap.size,0,none⟩=some (.int .i64 p.1)∧w'.cell? ⟨u.heap.size,1,none⟩=some (.int .i64 p.2)) (L:=10) (by kernel_rfl) rfl (by kernel_rfl) (by kernel_rfl) ?_ (fun hHeld=>?_)
 ·go_keep
 refine tk (i:=0) (v:=?_) rfl (by kernel_rfl) (fun _ _ _ h=>h) (by rfl) (by assumption) ?_ ?_
 rotate_left
 ·intro w hSw;(try dsimp only at hSw);go_simp;(try with_reducible rfl)
 (try simp only [Qd,Qe,List.set])
 refine tk (i:=1) (v:=?_) rfl (by kernel_rfl) (fun _ _ _ h=>h) (by rfl) (by assumption) ?_ ?_
 rotate_left
 ·intro w hSw;(try dsimp only at hSw);go_simp;(try with_reducible rfl)
 (try simp only [Qd,Qe,List.set])
 refine tk (i:=2) (v:=?_) rfl (by kernel_rfl) (fun _ _ _ h=>h) (by rfl) (by assumption) ?_ ?_
 rotate_left
 ·intro w hSw;(try dsimp only at hSw);go_simp;(try with_reducible rfl)
 (try simp only [Qd,Qe,List.set])
 refine tk (i:=3) (v:=?_) rfl (by kernel_rfl) (fun _ _ _ h=>h) (by rfl) (by assumption) ?_ ?_
 rotate_left
 ·intro w hSw;(try dsimp only at hSw);go_simp;(try with_reducible rfl)
 (try simp only [Qd,Qe,List.set])
 refine tk (i:=4) (v:=?_) rfl (by kernel_rfl) (fun _ _ _ h=>h) (by rfl) (by assumption) ?_ ?_
 rotate_left
 ·intro w hSw;(try dsimp only at hSw);go_simp;(try with_reducible rfl)
 (try simp only [Qd,Qe,List.set])
 refine tk (i:=5) (v:=?_) rfl (by kernel_rfl) (fun _ _ _ h=>h) (by rfl) (by assumption) ?_ ?_
 rotate_left
 ·intro w hSw;(try dsimp only at hSw);go_simp;(try with_reducible rfl)
 (try simp only [Qd,Qe,List.set])
 refine wpAnyH_ready (rs:=[6]) (by kernel_rfl) (by simp) ?_
 refine AllReadyH.cons rfl (fun K hK=>?_) AllReadyH.nil
 go_simp
 refine hK.out _ _ ?_ (fun hHeld=>?_)
 ·go_keep
 clear hK K
 (try simp only [Qd,Qe,List.set])
 refine wpAnyH_ready (rs:=[7]) (by kernel_rfl) (by simp) ?_
 refine AllReadyH.cons rfl (fun K hK=>?_) AllReadyH.nil
 (refine step_append_lies _ (by rfl) _ _ _ (by rfl) w.heap.size 413 i0 _ 2 16 Tryz.underlying233 hi0 hz0 hz1 hz2 hz3 (by omega) (.slice ad m.rounds.length cap) m.rounds.length (m.rounds.reverse.flatMap Q2W) (by rfl) (Qt HOW.out ((((Qb.refl [] u).alloc _).alloc _).drew) (by simp)) ⟨u.heap.size + 1,0,none⟩ 1 1 (Q2W p) (by rfl) (by rfl) (World.news_of_block (cs:=(Q2W p).toArray) (t:=413) (fr:=(0,0)) (Qg (w:=u.alloc _) (by simp))) (QiX p) (by omega) hl1 hl2 (by simp;omega) (u.heap.size + 2) (by simp) ?_;intro g cap' w6 hown6 hgrow hat hlt6;have hbb:Below u.heap.size u ((u.alloc (.cells (Q2W p).toArray 413)).alloc (.cells (Q2W p).toArray 413)).drew:=(((Below.refl _ _).alloc (Nat.le_refl _) _).alloc (by simp) _).drew;obtain ⟨E8,r8,j8⟩:=H.out.rr.grow Z J1.out hbb hown6 hgrow (by simpa using hat);have b8:=(Z.at j8 (p:=(M,mObj Z m.next csl (.slice ad m.rounds.length cap) en)) (by simp)).1;obtain ⟨y0,y1,y2,y3,y4,yf,yl⟩:=Q2a b8;have hx9:w6.heap[u.heap.size]? = some (.cells (Q2W p).toArray 413):=(hgrow.block _ (by simp;omega) (fun e=>by have h1:=HOW.out;have:=Q1J h1 (g:=u.heap.size) e.symm;omega)).trans ((Below.heap_alloc _ _ _ (by simp)).trans (Qg rfl));obtain ⟨x0,x1,xf,xl⟩:=Q0o hx9)
 refine hK.out _ _ ?_ (fun hHeld=>?_)
 ·go_keep
 clear hK K
 (try simp only [Qd,Qe,List.set])
 refine tk (i:=8) (v:=?_) rfl (by kernel_rfl) (fun _ _ _ h=>h) (by rfl) (by assumption) ?_ ?_
 rotate_left
 ·intro w hSw;(try dsimp only at hSw);go_simp;(try with_reducible rfl)
 (try simp only [Qd,Qe,List.set])
 refine tk (i:=9) (v:=?_) rfl (by kernel_rfl) (fun _ _ _ h=>h) (by rfl) (by assumption) ?_ ?_
 rotate_left
 ·intro w hSw;(try dsimp only at hSw);go_simp;(try with_reducible rfl)
 (try simp only [Qd,Qe,List.set])
 refine wpAnyH_done (by kernel_rfl) ?_ _
 refine QL rfl (fun K hK=>?_)
 go_simp
 refine hK.out _ _ ?_
 clear hK K
 (try simp only [Qd,Qe,List.set])
 have j9:=Wkr.turn2 j8 ((Qb.refl [M] w6).setIn (p:=⟨M,3,none⟩) (by simp) (.slice (some ⟨g,0,none⟩) (m.rounds.length + 1) cap')) (Qo (i:=3) b8 _)
 have j10:=Hid.mk (Z.perm j9 (List.perm_append_comm_assoc _ _ _))
 have R8:=Hid.mk r8
 clear j9 j8 r8
 go_wp2
 go_end0
 refine ⟨rfl,Ec,E8,csl,_,H.out.rc,?_,j10.out⟩
 have:=R8.out
 simpa using this
theorem QdZ {τ:Type} {w u:World} {bs:List (Nat×Obj)} {Z:Wkr τ w bs} {Fr:List (Nat×Obj)} {M:Nat} {m:MSt} {en:Bool} {d:τ} {p:Nat×Nat} {ks:List (Nat×Nat)} (hm:m.rounds=p :: ks) (hc:m.rounds.length≤1000) (h:Mc Z Fr M m en d u) :
  Calls Tryz.prog 301 #[.pointer (some ⟨M,3,none⟩)] u fun e u'=>e = .returned (.agg #[.int .i64 p.1,.int .i64 p.2])∧Mc Z Fr M { m with rounds:=ks } en d u':=by
 obtain ⟨Ec,Er,csl,rsl,h⟩:=h
 have hr:=h.rr
 rw [hm] at hr
 simp only [List.length_cons,List.reverse_cons,List.flatMap_append,List.flatMap_cons,List.flatMap_nil,List.append_nil] at hr
 obtain ⟨g,cap,cur,rfl,hcap,rfl,htk,hr2⟩:=hr.pop (by rw [Q7Y];simp)
 obtain ⟨c0,c1,c2,c3,c4,cf,cl⟩:=h.cells
 have hg:=(Z.at h.j (p:=(g,.cells cur 413)) (by simp)).1
 have hlen:(ks.reverse.flatMap Q2W).length=ks.length * 2:=by rw [Q7Y];simp
 have hl0:u.cell? ⟨g,ks.length * 2,none⟩=some (.int .i64 p.1):=Qx (xs:=ks.reverse.flatMap Q2W++Q2W p) hg (by rw [List.length_append,hlen];simpa [Nat.add_mul] using htk) (by rw [List.getElem?_append_right (by omega),hlen];simp)
 have hl1:u.cell? ⟨g,ks.length * 2 + 1,none⟩=some (.int .i64 p.2):=Qx (xs:=ks.reverse.flatMap Q2W++Q2W p) hg (by rw [List.length_append,hlen];simpa [Nat.add_mul] using htk) (by rw [List.getElem?_append_right (by omega),hlen];simp)
 have hks:ks.length < 1000:=by rw [hm] at hc;simp at hc;omega
 have J9:=Wkr.turn2 (K:=Z) (A:=Ec) (A':=[(g,.cells cur 413)]) h.j ((Qb.refl [M] u).setIn (p:=⟨M,3,none⟩) (by simp) (.slice (some ⟨g,0,none⟩) ks.length cap)) (Qo (i:=3) h.box _)
 have j9:=Hid.mk (fun o1 o2=>Z.below (Z.below J9 ((Below.refl _ _).alloc (Nat.le_refl _) o1)) ((Below.refl _ _).alloc (Nat.le_refl _) o2))
 have R8:=Hid.mk hr2
 have RC:=Hid.mk h.rc
 have hng:M≠u.heap.size:=by omega
 have hgl:=Qc hg
 have hgn:g≠u.heap.size:=by omega
 have hgn1:g≠u.heap.size + 1:=by omega
 have hng1:M≠u.heap.size + 1:=by omega
 clear h hr hr2 hg htk hm hc J9
 go_enter Tryz.func301,Tryz.ntmps301
 go_wp2
 refine bodyPost_ret (v:=.agg #[.int .i64 p.1,.int .i64 p.2]) (by simp [results,Tryz.results301,go_sem]) rfl ⟨rfl,?_⟩
 exact ⟨Ec,[(g,.cells cur 413)],csl,.slice (some ⟨g,0,none⟩) ks.length cap,RC.out,R8.out,j9.out _ _⟩
def Q2K {τ:Type} {w:World} {bs:List (Nat×Obj)} (Z:Wkr τ w bs) (Fr:List (Nat×Obj)) (M:Nat) (r:Except Mar.Fault (MSt×τ)) (e:Ending) (u':World):Prop:=
 (∃ m' d',r = .ok (m',d')∧e = .returned (.tuple #[])∧Mc Z Fr M m' false d' u')∨(∃ f,r = .error f∧Qb [] w u'∧Q0l w f.no f.at' e u')
theorem Mc.below {τ:Type} {w u u':World} {bs:List (Nat×Obj)} {Z:Wkr τ w bs} {Fr:List (Nat×Obj)} {M:Nat} {m:MSt} {en:Bool} {d:τ} (h:Mc Z Fr M m en d u) (hb:Below u.heap.size u u'):Mc Z Fr M m en d u':=by
 obtain ⟨a,b,c,e,h⟩:=h
 exact ⟨a,b,c,e,h.below hb⟩
theorem Mc.goto {τ:Type} {w u:World} {bs:List (Nat×Obj)} {Z:Wkr τ w bs} {Fr:List (Nat×Obj)} {M:Nat} {m:MSt} {en:Bool} {d:τ} (h:Mc Z Fr M m en d u) (p:Nat):Mc Z Fr M { m with next:=p } en d (u.setCell ⟨M,1,none⟩ (.int .i64 p)):=by
 obtain ⟨a,b,c,e,h⟩:=h
 exact ⟨a,b,c,e,h.goto p⟩
theorem Mc.cells {τ:Type} {w u:World} {bs:List (Nat×Obj)} {Z:Wkr τ w bs} {Fr:List (Nat×Obj)} {M:Nat} {m:MSt} {en:Bool} {d:τ} (h:Mc Z Fr M m en d u):∃ csl rsl,u.cell? ⟨M,0,none⟩=some (.iface Z.T (.pointer (some ⟨Z.D,0,none⟩)))∧u.cell? ⟨M,1,none⟩=some (.int .i64 m.next)∧u.cell? ⟨M,2,none⟩=some csl∧u.cell? ⟨M,3,none⟩=some rsl∧u.cell? ⟨M,4,none⟩=some (.bool en)∧(∀ i,u.frozen? ⟨M,i,none⟩=false)∧M < u.heap.size:=by
 obtain ⟨a,b,c,e,h⟩:=h
 exact ⟨_,_,h.cells⟩
theorem Q6G {τ:Type} {r:Except Mar.Fault τ} {x:Unit} {d:τ} (h:Q97 r = .ok (x,d)):r = .ok d:=by
 cases r with
 | error f=>cases h
 | ok a=>cases h;rfl
theorem Q5L {τ:Type} {r:Except Mar.Fault τ} {f:Mar.Fault} (h:Q97 r = .error f):r = .error f:=by
 cases r with
 | error f=>cases h;rfl
 | ok a=>cases h
theorem Mc.work {τ α:Type} {w u:World} {bs:List (Nat×Obj)} {Z:Wkr τ w bs} {Fr:List (Nat×Obj)} {M:Nat} {m:MSt} {en:Bool} {d:τ} {f:Nat} {args:Array Value} {r:Except Mar.Fault (α×τ)} {V:α→Value} (h:Mc Z Fr M m en d u)
  (hc:∀ Fr',Z.J Fr' d u→Calls Tryz.prog f args u (Q5c w Z.J Fr' r V)):Calls Tryz.prog f args u fun e u'=>(∃ a d',r = .ok (a,d')∧e = .returned (V a)∧Mc Z Fr M m en d' u')∨(∃ f,r = .error f∧Qb [] w u'∧Q0l w f.no f.at' e u'):=by
 obtain ⟨Ec,Er,csl,rsl,h⟩:=h
 refine (hc _ h.j).mono ?_
 rintro e u' (⟨a,d',h1,h2,h3⟩ | h1)
 ·exact Or.inl ⟨a,d',h1,h2,Ec,Er,csl,rsl,h.rc,h.rr,h3⟩
 ·exact Or.inr h1
theorem Qkl {τ:Type} {w u:World} {bs:List (Nat×Obj)} {Z:Wkr τ w bs} {Fr:List (Nat×Obj)} {M:Nat} {m:MSt} {d:τ} (p:Nat) (h:Mc Z Fr M m false d u) :
  Calls Tryz.prog 296 #[.agg #[.int .i64 p],.pointer (some ⟨M,0,none⟩)] u (Q2K Z Fr M (.ok ({ m with next:=p },d))):=by
 obtain ⟨csl,rsl,c0,c1,c2,c3,c4,cf,cl⟩:=h.cells
 have hng:M≠u.heap.size:=by omega
 have H:=Hid.mk (fun o=>(h.goto p).below ((Below.refl _ _).alloc (Nat.le_refl _) o))
 clear h
 go_enter Tryz.func296,Tryz.ntmps296
 go_wp2
 go_end0
 exact Or.inl ⟨_,d,rfl,rfl,H.out _⟩
theorem Qh5 {τ:Type} {w u:World} {bs:List (Nat×Obj)} {Z:Wkr τ w bs} {Fr:List (Nat×Obj)} {M:Nat} {m:MSt} {d:τ} {p:Nat} {ks:List Nat} (hm:m.calls=p :: ks) (hc:m.calls.length≤1000) (h:Mc Z Fr M m false d u) :
  Calls Tryz.prog 270 #[.agg #[],.pointer (some ⟨M,0,none⟩)] u (Q2K Z Fr M (.ok ({ m with next:=p,calls:=ks },d))):=by
 have VP:=Hid.mk (fun o=>QmF hm hc (h.below ((Below.refl _ _).alloc (Nat.le_refl _) o)))
 clear h
 go_enter Tryz.func270,Tryz.ntmps270
 go_wp2_with fail
 refine (VP.out _).mono ?_
 rintro e w2 ⟨rfl,M2⟩
 obtain ⟨csl,rsl,c0,c1,c2,c3,c4,cf,cl⟩:=M2.cells
 have H:=Hid.mk (M2.goto p)
 clear M2
 go_wp2
 go_end0
 exact Or.inl ⟨_,d,rfl,rfl,H.out⟩
theorem Qh6 {τ:Type} {w u:World} {bs:List (Nat×Obj)} {Z:Wkr τ w bs} {Fr:List (Nat×Obj)} {M:Nat} {m:MSt} {d:τ} {cs:List Value} {n:NumL} (hN:Q1g bs cs n) (h:Mc Z Fr M m false d u) :
  Calls Tryz.prog 269 #[.agg cs.toArray,.pointer (some ⟨M,0,none⟩)] u (Q2K Z Fr M (thenE (Z.W.num n d) fun d'=>.ok (m,d'))):=by
 obtain ⟨mm,rfl,hmem,x,y,z,rfl⟩:=id hN
 have hmn:=Z.mN
 have hen:=Z.eN
 have h0:=h.below ((Below.refl _ _).alloc (Nat.le_refl _) (.cells #[.int .i64 n.low,.int .i64 n.high,.slice x y z,.bool n.wide] 200))
 obtain ⟨csl,rsl,c0,c1,c2,c3,c4,cf,cl⟩:=h0.cells
 have VN:=Hid.mk ((h0.below (Below.refl _ _).drew).work fun Fr' hj=>Z.cN hN hj)
 clear h h0 hmem
 go_enter Tryz.func269,Tryz.ntmps269
 go_wp2_with fail
 refine QD (fun w'=>w'.cell? ⟨M,0,none⟩=some (.iface Z.T (.pointer (some ⟨Z.D,0,none⟩)))∧w'.cell? ⟨u.heap.size,0,none⟩=some (.int .i64 n.low)∧w'.cell? ⟨u.heap.size,1,none⟩=some (.int .i64 n.high)∧w'.cell? ⟨u.heap.size,2,none⟩=some (.slice x y z)∧w'.cell? ⟨u.heap.size,3,none⟩=some (.bool n.wide)) (L:=5) (by kernel_rfl) rfl (by kernel_rfl) (by kernel_rfl) ?_ (fun hHeld=>?_)
 ·go_keep
 refine tk (i:=0) (v:=?_) rfl (by kernel_rfl) (fun _ _ _ h=>h) (by rfl) (by assumption) ?_ ?_
 rotate_left
 ·intro w hSw;(try dsimp only at hSw);go_simp;(try with_reducible rfl)
 (try simp only [Qd,Qe,List.set])
 refine tk (i:=1) (v:=?_) rfl (by kernel_rfl) (fun _ _ _ h=>h) (by rfl) (by assumption) ?_ ?_
 rotate_left
 ·intro w hSw;(try dsimp only at hSw);go_simp;(try with_reducible rfl)
 (try simp only [Qd,Qe,List.set])
 refine tk (i:=2) (v:=?_) rfl (by kernel_rfl) (fun _ _ _ h=>h) (by rfl) (by assumption) ?_ ?_
 rotate_left
 ·intro w hSw;(try dsimp only at hSw);go_simp;(try with_reducible rfl)
 (try simp only [Qd,Qe,List.set])
 refine tk (i:=3) (v:=?_) rfl (by kernel_rfl) (fun _ _ _ h=>h) (by rfl) (by assumption) ?_ ?_
 rotate_left
 ·intro w hSw;(try dsimp only at hSw);go_simp;(try with_reducible rfl)
 (try simp only [Qd,Qe,List.set])
 refine tk (i:=4) (v:=?_) rfl (by kernel_rfl) (fun _ _ _ h=>h) (by rfl) (by assumption) ?_ ?_
 rotate_left
 ·intro w hSw;(try dsimp only at hSw);go_simp;(try with_reducible rfl)
 (try simp only [Qd,Qe,List.set])
 refine wpAnyH_done (by kernel_rfl) ?_ _
 refine QL rfl (fun K hK=>?_)
 (go_simp;refine VN.out.mono ?_;rintro e w2 (⟨_,d2,hx,rfl,M2⟩ | ⟨f,hx,hk,g,hg,rfl,hc⟩);rotate_left;exact Qa (Or.inr ⟨f,by rw [Q5L hx];rfl,hk,g,hg,rfl,hc⟩))
 refine hK.out _ _ ?_
 clear hK K
 (try simp only [Qd,Qe,List.set])
 have M2:=Hid.mk M2
 go_wp2
 go_end0
 exact Or.inl ⟨m,d2,by rw [Q6G hx];rfl,rfl,M2.out⟩
theorem Qkm {τ:Type} {w u:World} {bs:List (Nat×Obj)} {Z:Wkr τ w bs} {Fr:List (Nat×Obj)} {M:Nat} {m:MSt} {d:τ} (n:Int) (f:Bool) (hn:0≤n) (hn2:n≤4294967295) (h:Mc Z Fr M m false d u) :
  Calls Tryz.prog 289 #[.agg #[.int .i64 n,.bool f],.pointer (some ⟨M,0,none⟩)] u (Q2K Z Fr M (thenE (Z.W.text n f d) fun d'=>.ok (m,d'))):=by
 have hmn:=Z.mT
 have hen:=Z.eT
 have h0:=h.below ((Below.refl _ _).alloc (Nat.le_refl _) (.cells #[.int .i64 n,.bool f] 308))
 obtain ⟨csl,rsl,c0,c1,c2,c3,c4,cf,cl⟩:=h0.cells
 have VN:=Hid.mk ((h0.below (Below.refl _ _).drew).work fun Fr' hj=>Z.cT n f hn hn2 hj)
 clear h h0
 go_enter Tryz.func289,Tryz.ntmps289
 go_wp2_with fail
 refine QD (fun w'=>w'.cell? ⟨M,0,none⟩=some (.iface Z.T (.pointer (some ⟨Z.D,0,none⟩)))∧w'.cell? ⟨u.heap.size,0,none⟩=some (.int .i64 n)∧w'.cell? ⟨u.heap.size,1,none⟩=some (.bool f)) (L:=6) (by kernel_rfl) rfl (by kernel_rfl) (by kernel_rfl) ?_ (fun hHeld=>?_)
 ·go_keep
 refine tk (i:=0) (v:=?_) rfl (by kernel_rfl) (fun _ _ _ h=>h) (by rfl) (by assumption) ?_ ?_
 rotate_left
 ·intro w hSw;(try dsimp only at hSw);go_simp;(try with_reducible rfl)
 (try simp only [Qd,Qe,List.set])
 refine tk (i:=1) (v:=?_) rfl (by kernel_rfl) (fun _ _ _ h=>h) (by rfl) (by assumption) ?_ ?_
 rotate_left
 ·intro w hSw;(try dsimp only at hSw);go_simp;(try with_reducible rfl)
 (try simp only [Qd,Qe,List.set])
 refine tk (i:=2) (v:=?_) rfl (by kernel_rfl) (fun _ _ _ h=>h) (by rfl) (by assumption) ?_ ?_
 rotate_left
 ·intro w hSw;(try dsimp only at hSw);go_simp;(try with_reducible rfl)
 (try simp only [Qd,Qe,List.set])
 refine tk (i:=3) (v:=?_) rfl (by kernel_rfl) (fun _ _ _ h=>h) (by rfl) (by assumption) ?_ ?_
 rotate_left
 ·intro w hSw;(try dsimp only at hSw);go_simp;(try with_reducible rfl)
 (try simp only [Qd,Qe,List.set])
 refine tk (i:=4) (v:=?_) rfl (by kernel_rfl) (fun _ _ _ h=>h) (by rfl) (by assumption) ?_ ?_
 rotate_left
 ·intro w hSw;(try dsimp only at hSw);go_simp;(try with_reducible rfl)
 (try simp only [Qd,Qe,List.set])
 refine tk (i:=5) (v:=?_) rfl (by kernel_rfl) (fun _ _ _ h=>h) (by rfl) (by assumption) ?_ ?_
 rotate_left
 ·intro w hSw;(try dsimp only at hSw);go_simp;(try with_reducible rfl)
 (try simp only [Qd,Qe,List.set])
 refine wpAnyH_done (by kernel_rfl) ?_ _
 refine QL rfl (fun K hK=>?_)
 (go_simp;refine VN.out.mono ?_;rintro e w2 (⟨v2,d2,hx,rfl,M2⟩ | ⟨f',hx,hk,g,hg,rfl,hc⟩);rotate_left;exact Qa (Or.inr ⟨f',by rw [Q5L hx];rfl,hk,g,hg,rfl,hc⟩))
 refine hK.out _ _ ?_
 clear hK K
 (try simp only [Qd,Qe,List.set])
 have M2:=Hid.mk M2
 go_wp2
 go_end0
 exact Or.inl ⟨m,d2,by rw [Q6G hx];rfl,rfl,M2.out⟩
theorem Qh7 {τ:Type} {w u:World} {bs:List (Nat×Obj)} {Z:Wkr τ w bs} {Fr:List (Nat×Obj)} {M:Nat} {m:MSt} {d:τ} (n:Int) (f:Bool) (hn:0≤n) (hn2:n≤4294967295) (h:Mc Z Fr M m false d u) :
  Calls Tryz.prog 294 #[.agg #[.int .i64 n,.bool f],.pointer (some ⟨M,0,none⟩)] u (Q2K Z Fr M (thenE (Z.W.list n f d) fun p=>.ok (m,p.2))):=by
 have hmn:=Z.mL
 have hen:=Z.eL
 have h0:=h.below ((Below.refl _ _).alloc (Nat.le_refl _) (.cells #[.int .i64 n,.bool f] 316))
 obtain ⟨csl,rsl,c0,c1,c2,c3,c4,cf,cl⟩:=h0.cells
 have VN:=Hid.mk ((h0.below (Below.refl _ _).drew).work fun Fr' hj=>Z.cL n f hn hn2 hj)
 clear h h0
 go_enter Tryz.func294,Tryz.ntmps294
 go_wp2_with fail
 refine QD (fun w'=>w'.cell? ⟨M,0,none⟩=some (.iface Z.T (.pointer (some ⟨Z.D,0,none⟩)))∧w'.cell? ⟨u.heap.size,0,none⟩=some (.int .i64 n)∧w'.cell? ⟨u.heap.size,1,none⟩=some (.bool f)) (L:=6) (by kernel_rfl) rfl (by kernel_rfl) (by kernel_rfl) ?_ (fun hHeld=>?_)
 ·go_keep
 refine tk (i:=0) (v:=?_) rfl (by kernel_rfl) (fun _ _ _ h=>h) (by rfl) (by assumption) ?_ ?_
 rotate_left
 ·intro w hSw;(try dsimp only at hSw);go_simp;(try with_reducible rfl)
 (try simp only [Qd,Qe,List.set])
 refine tk (i:=1) (v:=?_) rfl (by kernel_rfl) (fun _ _ _ h=>h) (by rfl) (by assumption) ?_ ?_
 rotate_left
 ·intro w hSw;(try dsimp only at hSw);go_simp;(try with_reducible rfl)
 (try simp only [Qd,Qe,List.set])
 refine tk (i:=2) (v:=?_) rfl (by kernel_rfl) (fun _ _ _ h=>h) (by rfl) (by assumption) ?_ ?_
 rotate_left
 ·intro w hSw;(try dsimp only at hSw);go_simp;(try with_reducible rfl)
 (try simp only [Qd,Qe,List.set])
 refine tk (i:=3) (v:=?_) rfl (by kernel_rfl) (fun _ _ _ h=>h) (by rfl) (by assumption) ?_ ?_
 rotate_left
 ·intro w hSw;(try dsimp only at hSw);go_simp;(try with_reducible rfl)
 (try simp only [Qd,Qe,List.set])
 refine tk (i:=4) (v:=?_) rfl (by kernel_rfl) (fun _ _ _ h=>h) (by rfl) (by assumption) ?_ ?_
 rotate_left
 ·intro w hSw;(try dsimp only at hSw);go_simp;(try with_reducible rfl)
 (try simp only [Qd,Qe,List.set])
 refine tk (i:=5) (v:=?_) rfl (by kernel_rfl) (fun _ _ _ h=>h) (by rfl) (by assumption) ?_ ?_
 rotate_left
 ·intro w hSw;(try dsimp only at hSw);go_simp;(try with_reducible rfl)
 (try simp only [Qd,Qe,List.set])
 refine wpAnyH_done (by kernel_rfl) ?_ _
 refine QL rfl (fun K hK=>?_)
 (go_simp;refine VN.out.mono ?_;rintro e w2 (⟨v2,d2,hx,rfl,M2⟩ | ⟨f',hx,hk,g,hg,rfl,hc⟩);rotate_left;exact Qa (Or.inr ⟨f',by rw [hx];rfl,hk,g,hg,rfl,hc⟩))
 refine hK.out _ _ ?_
 clear hK K
 (try simp only [Qd,Qe,List.set])
 have M2:=Hid.mk M2
 go_wp2
 go_end0
 exact Or.inl ⟨m,d2,by rw [hx];rfl,rfl,M2.out⟩
theorem Mc.ended {τ:Type} {w u:World} {bs:List (Nat×Obj)} {Z:Wkr τ w bs} {Fr:List (Nat×Obj)} {M:Nat} {m:MSt} {en:Bool} {d:τ} (h:Mc Z Fr M m en d u) (b:Bool):Mc Z Fr M m b d (u.setCell ⟨M,4,none⟩ (.bool b)):=by
 obtain ⟨a,b,c,e,h⟩:=h
 exact ⟨a,b,c,e,h.ended _⟩
theorem QmG {τ:Type} {w u:World} {bs:List (Nat×Obj)} {Z:Wkr τ w bs} {Fr:List (Nat×Obj)} {M:Nat} {m:MSt} {d:τ} (h:Mc Z Fr M m false d u) :
  Calls Tryz.prog 297 #[.agg #[],.pointer (some ⟨M,0,none⟩)] u fun e u'=>e = .returned (.tuple #[])∧Mc Z Fr M m true d u':=by
 have h1:=fun o=>h.below (u':=u.alloc o) ((Below.refl _ _).alloc (Nat.le_refl _) o)
 obtain ⟨csl,rsl,c0,c1,c2,c3,c4,cf,cl⟩:=h.cells
 have hng:M≠u.heap.size:=by omega
 have H:=Hid.mk (fun o=>(h.ended true).below ((Below.refl _ _).alloc (Nat.le_refl _) o))
 clear h h1
 go_enter Tryz.func297,Tryz.ntmps297
 go_wp2
 go_end0
 exact ⟨rfl,H.out _⟩
theorem Qh8 {τ:Type} {w u:World} {bs:List (Nat×Obj)} {Z:Wkr τ w bs} {Fr:List (Nat×Obj)} {M:Nat} {m:MSt} {d:τ} {p1 p2:Nat} {ks:List (Nat×Nat)} (hm:m.rounds=(p1,p2 + 2) :: ks) (hc:m.rounds.length≤1000) (hp:p2 + 2≤4294967295) (h:Mc Z Fr M m false d u) :
  Calls Tryz.prog 300 #[.agg #[],.pointer (some ⟨M,0,none⟩)] u (Q2K Z Fr M (.ok ({ m with next:=p1,rounds:=(p1,p2 + 1) :: ks },d))):=by
 have VP:=Hid.mk (fun o=>QdZ hm hc (h.below ((Below.refl _ _).alloc (Nat.le_refl _) o)))
 have hks:ks.length < 1000:=by rw [hm] at hc;simp at hc;omega
 clear h hm hc
 go_enter Tryz.func300,Tryz.ntmps300
 go_wp2_with fail
 refine (VP.out _).mono ?_
 rintro e w2 ⟨rfl,M2⟩
 obtain ⟨csl,rsl,c0,c1,c2,c3,c4,cf,cl⟩:=M2.cells
 have hng:M≠w2.heap.size:=by omega
 have hsub:((p2:Int) + 2 - 1)=(p2:Int) + 1:=by omega
 have H:=Hid.mk (fun o=>QbI (p1,p2 + 1) hks ((M2.goto p1).below (((Below.refl _ _).alloc (Nat.le_refl _) o).drew)))
 clear M2
 go_wp2_with fail
 refine QD (fun w'=>w'.cell? ⟨w2.heap.size,0,none⟩=some (.int .i64 p1)∧w'.cell? ⟨w2.heap.size,1,none⟩=some (.int .i64 ((p2:Int) + 1))) (L:=4) (by kernel_rfl) rfl (by kernel_rfl) (by kernel_rfl) ?_ (fun hHeld=>?_)
 ·exact ⟨(Q0o (Qg (by simp))).1,(Q0o (Qg (by simp))).2.1⟩
 refine tk (i:=0) (v:=?_) rfl (by kernel_rfl) (fun _ _ _ h=>h) (by rfl) (by assumption) ?_ ?_
 rotate_left
 ·intro w hSw;(try dsimp only at hSw);go_simp;(try with_reducible rfl)
 (try simp only [Qd,Qe,List.set])
 refine tk (i:=1) (v:=?_) rfl (by kernel_rfl) (fun _ _ _ h=>h) (by rfl) (by assumption) ?_ ?_
 rotate_left
 ·intro w hSw;(try dsimp only at hSw);go_simp;(try with_reducible rfl)
 (try simp only [Qd,Qe,List.set])
 refine tk (i:=2) (v:=?_) rfl (by kernel_rfl) (fun _ _ _ h=>h) (by rfl) (by assumption) ?_ ?_
 rotate_left
 ·intro w hSw;(try dsimp only at hSw);go_simp;(try with_reducible rfl)
 (try simp only [Qd,Qe,List.set])
 refine tk (i:=3) (v:=?_) rfl (by kernel_rfl) (fun _ _ _ h=>h) (by rfl) (by assumption) ?_ ?_
 rotate_left
 ·intro w hSw;(try dsimp only at hSw);go_simp;(try with_reducible rfl)
 (try simp only [Qd,Qe,List.set])
 refine wpAnyH_done (by kernel_rfl) ?_ _
 refine QL rfl (fun K hK=>?_)
 (go_simp;refine (H.out _).mono ?_;rintro e w3 ⟨rfl,M3⟩)
 refine hK.out _ _ ?_
 clear hK K
 (try simp only [Qd,Qe,List.set])
 have M3:=Hid.mk M3
 go_wp2
 go_end0
 exact Or.inl ⟨_,d,rfl,rfl,M3.out⟩
theorem Qh9 {τ:Type} {w u:World} {bs:List (Nat×Obj)} {Z:Wkr τ w bs} {Fr:List (Nat×Obj)} {M:Nat} {m:MSt} {d:τ} {p1 p2:Nat} {ks:List (Nat×Nat)} (hm:m.rounds=(p1,p2) :: ks) (hc:m.rounds.length≤1000) (hp:p2≤1) (h:Mc Z Fr M m false d u) :
  Calls Tryz.prog 300 #[.agg #[],.pointer (some ⟨M,0,none⟩)] u (Q2K Z Fr M (.ok ({ m with rounds:=ks },d))):=by
 have VP:=Hid.mk (fun o=>QdZ hm hc (h.below ((Below.refl _ _).alloc (Nat.le_refl _) o)))
 clear h hm hc
 go_enter Tryz.func300,Tryz.ntmps300
 go_wp2_with fail
 refine (VP.out _).mono ?_
 rintro e w2 ⟨rfl,M2⟩
 obtain ⟨csl,rsl,c0,c1,c2,c3,c4,cf,cl⟩:=M2.cells
 have hng:M≠w2.heap.size:=by omega
 have H:=Hid.mk (fun o=>M2.below (u':=w2.alloc o) ((Below.refl _ _).alloc (Nat.le_refl _) o))
 clear M2
 go_wp2
 go_end0
 exact Or.inl ⟨_,d,rfl,rfl,H.out _⟩
theorem QiY {τ:Type} {w u:World} {bs:List (Nat×Obj)} {Z:Wkr τ w bs} {Fr:List (Nat×Obj)} {M:Nat} {m:MSt} {d:τ} {p:Nat×Nat} {ks:List (Nat×Nat)} (hm:m.rounds=p :: ks) (hc:m.rounds.length≤1000) (hp:p.2≤4294967295) (h:Mc Z Fr M m false d u) :
  Calls Tryz.prog 300 #[.agg #[],.pointer (some ⟨M,0,none⟩)] u (Q2K Z Fr M (.ok (if 1 < p.2 then { m with next:=p.1,rounds:=(p.1,p.2 - 1) :: ks } else { m with rounds:=ks },d))):=by
 obtain ⟨p1,p2⟩:=p
 by_cases h1:1 < p2
 ·obtain ⟨k,rfl⟩:∃ k,p2=k + 2:=⟨p2 - 2,by omega⟩
  rw [if_pos h1]
  exact Qh8 hm hc hp h
 ·rw [if_neg h1]
  exact Qh9 hm hc (by omega) h
section
variable {τ : Type} {w u u' : World} {bs : List (Nat × Obj)} {Z : Wkr τ w bs} {Fr : List (Nat × Obj)} {M : Nat} {m : MSt} {en : Bool} {d : τ}
theorem Mc.alloc (h:Mc Z Fr M m en d u) (o:Obj):Mc Z ((u.heap.size,o) :: Fr) M m en d (u.alloc o):=by
 obtain ⟨Ec,Er,csl,rsl,h⟩:=h
 refine ⟨Ec,Er,csl,rsl,h.rc,h.rr,Z.perm (Z.alloc h.j o) ?_⟩
 have h1:∀ (a b:Nat×Obj) (A B C:List (Nat×Obj)),(a :: (A++(B++b :: C))).Perm (A++(B++b :: a :: C)):=by
  intro a b A B C
  rw [← List.append_assoc,← List.append_assoc]
  refine (List.perm_middle (a:=a) (l₁:=A++B) (l₂:=b :: C)).symm.trans ?_
  exact List.Perm.append_left _ (List.Perm.swap _ _ _)
 exact h1 _ _ _ _ _
theorem Mc.tail {p:Nat×Obj} (h:Mc Z (p :: Fr) M m en d u):Mc Z Fr M m en d u:=by
 obtain ⟨Ec,Er,csl,rsl,h⟩:=h
 refine ⟨Ec,Er,csl,rsl,h.rc,h.rr,Z.sub h.j ?_ ?_⟩
 ·intro q hq
  simp only [List.mem_append,List.mem_cons] at hq ⊢
  rcases hq with h | h | h | h
  ·exact Or.inl h
  ·exact Or.inr (Or.inl h)
  ·exact Or.inr (Or.inr (Or.inl h))
  ·exact Or.inr (Or.inr (Or.inr (Or.inr h)))
 ·have:=Z.nodup h.j
  refine this.sublist (List.Sublist.map _ ?_)
  exact List.Sublist.append_left (List.Sublist.append_left (List.Sublist.cons_cons _ (List.sublist_cons_self _ _)) _) _
theorem Mc.at {p:Nat×Obj} (h:Mc Z Fr M m en d u) (hp:p∈Fr):u.heap[p.1]? = some p.2:=by
 obtain ⟨Ec,Er,csl,rsl,h⟩:=h
 exact (Z.at h.j (by simp [hp])).1
end
theorem QmH {b:Nat} {c0 c1 c2:Value} {T:TypeId} {w:World} (h:w.heap[b]? = some (.cells #[c0,c1,c2] T)) :
  w.cell? ⟨b,0,none⟩=some c0∧w.cell? ⟨b,1,none⟩=some c1∧w.cell? ⟨b,2,none⟩=some c2∧b < w.heap.size:=by
 refine ⟨?_,?_,?_,Qc h⟩<;>simp [World.cell?,h]
theorem Qkn {b:Nat} {c0:Value} {T:TypeId} {w:World} (h:w.heap[b]? = some (.cells #[c0] T)):w.cell? ⟨b,0,none⟩=some c0∧b < w.heap.size:=by
 refine ⟨?_,Qc h⟩;simp [World.cell?,h]
theorem Qko {τ:Type} {w u:World} {bs:List (Nat×Obj)} {Z:Wkr τ w bs} {Fr:List (Nat×Obj)} {M:Nat} {m:MSt} {d:τ} (p:Nat) (hc:m.calls.length < 1000) (h:Mc Z Fr M m false d u) :
  Calls Tryz.prog 274 #[.agg #[.int .i64 p],.pointer (some ⟨M,0,none⟩)] u (Q2K Z Fr M (thenE (Z.W.enter m.calls.length d) fun d'=>.ok ({ m with next:=p,calls:=m.next :: m.calls },d'))):=by
 have hmn:=Z.mE
 have hen:=Z.eE
 have h0:=h.alloc (.cells #[.int .i64 p] 224)
 have h1:=h0.below (Below.refl _ _).drew
 obtain ⟨csl,rsl,c0,c1,c2,c3,c4,cf,cl⟩:=h0.cells
 have VL:=Hid.mk (QmE h1)
 have VN:=Hid.mk (h1.work fun Fr' hj=>Z.cE m.calls.length hc hj)
 clear h h0 h1
 go_enter Tryz.func274,Tryz.ntmps274
 go_wp2_with fail
 refine QD (fun w'=>w'.cell? ⟨M,0,none⟩=some (.iface Z.T (.pointer (some ⟨Z.D,0,none⟩)))) (L:=10) (by kernel_rfl) rfl (by kernel_rfl) (by kernel_rfl) ?_ (fun hHeld=>?_)
 ·go_keep
 refine tk (i:=0) (v:=?_) rfl (by kernel_rfl) (fun _ _ _ h=>h) (by rfl) (by assumption) ?_ ?_
 rotate_left
 ·intro w hSw;(try dsimp only at hSw);go_simp;(try with_reducible rfl)
 (try simp only [Qd,Qe,List.set])
 refine tk (i:=1) (v:=?_) rfl (by kernel_rfl) (fun _ _ _ h=>h) (by rfl) (by assumption) ?_ ?_
 rotate_left
 ·intro w hSw;(try dsimp only at hSw);go_simp;(try with_reducible rfl)
 (try simp only [Qd,Qe,List.set])
 refine tk (i:=2) (v:=?_) rfl (by kernel_rfl) (fun _ _ _ h=>h) (by rfl) (by assumption) ?_ ?_
 rotate_left
 ·intro w hSw;(try dsimp only at hSw);go_simp;(try with_reducible rfl)
 (try simp only [Qd,Qe,List.set])
 refine tk (i:=3) (v:=?_) rfl (by kernel_rfl) (fun _ _ _ h=>h) (by rfl) (by assumption) ?_ ?_
 rotate_left
 ·intro w hSw;(try dsimp only at hSw);go_simp;(try with_reducible rfl)
 (try simp only [Qd,Qe,List.set])
 refine tk (i:=4) (v:=?_) rfl (by kernel_rfl) (fun _ _ _ h=>h) (by rfl) (by assumption) ?_ ?_
 rotate_left
 ·intro w hSw;(try dsimp only at hSw);go_simp;(try with_reducible rfl)
 (try simp only [Qd,Qe,List.set])
 refine tk (i:=5) (v:=?_) rfl (by kernel_rfl) (fun _ _ _ h=>h) (by rfl) (by assumption) ?_ ?_
 rotate_left
 ·intro w hSw;(try dsimp only at hSw);go_simp;(try with_reducible rfl)
 (try simp only [Qd,Qe,List.set])
 refine tk (i:=6) (v:=?_) rfl (by kernel_rfl) (fun _ _ _ h=>h) (by rfl) (by assumption) ?_ ?_
 rotate_left
 ·intro w hSw;(try dsimp only at hSw);go_simp;(try with_reducible rfl)
 (try simp only [Qd,Qe,List.set])
 refine tk (i:=8) (v:=?_) rfl (by kernel_rfl) (fun _ _ _ h=>h) (by rfl) (by assumption) ?_ ?_
 rotate_left
 ·intro w hSw;(try dsimp only at hSw);go_simp;(try with_reducible rfl)
 (try simp only [Qd,Qe,List.set])
 refine tk (i:=9) (v:=?_) rfl (by kernel_rfl) (fun _ _ _ h=>h) (by rfl) (by assumption) ?_ ?_
 rotate_left
 ·intro w hSw;(try dsimp only at hSw);go_simp;(try with_reducible rfl)
 (try simp only [Qd,Qe,List.set])
 refine wpAnyH_ready (rs:=[7]) (by kernel_rfl) (by simp) ?_
 refine AllReadyH.cons rfl (fun K hK=>?_) AllReadyH.nil
 (go_simp;go_at_call 275;refine VL.out.mono ?_;rintro e w2 ⟨rfl,rfl⟩)
 refine hK.out _ _ ?_ (fun hHeld=>?_)
 ·go_keep
 clear hK K
 (try simp only [Qd,Qe,List.set])
 refine wpAnyH_done (by kernel_rfl) ?_ _
 refine QL rfl (fun K hK=>?_)
 (go_simp;refine VN.out.mono ?_;rintro e w2 (⟨v2,d2,hx,rfl,M2⟩ | ⟨f',hx,hk,g,hg,rfl,hc⟩);rotate_left;exact Qa (Or.inr ⟨f',by rw [Q5L hx];rfl,hk,g,hg,rfl,hc⟩))
 refine hK.out _ _ ?_
 clear hK K
 (try simp only [Qd,Qe,List.set])
 obtain ⟨csl,rsl,c0,c1,c2,c3,c4,cf,cl⟩:=M2.cells
 have VP:=Hid.mk (Qkk m.next hc (M2.below (Below.refl _ _).drew))
 clear M2 VL VN
 go_wp2_with fail
 refine QD (fun w'=>w'.cell? ⟨M,1,none⟩=some (.int .i64 m.next)) (L:=7) (by kernel_rfl) rfl (by kernel_rfl) (by kernel_rfl) ?_ (fun hHeld=>?_)
 ·go_keep
 refine tk (i:=0) (v:=?_) rfl (by kernel_rfl) (fun _ _ _ h=>h) (by rfl) (by assumption) ?_ ?_
 rotate_left
 ·intro w hSw;(try dsimp only at hSw);go_simp;(try with_reducible rfl)
 (try simp only [Qd,Qe,List.set])
 refine tk (i:=1) (v:=?_) rfl (by kernel_rfl) (fun _ _ _ h=>h) (by rfl) (by assumption) ?_ ?_
 rotate_left
 ·intro w hSw;(try dsimp only at hSw);go_simp;(try with_reducible rfl)
 (try simp only [Qd,Qe,List.set])
 refine tk (i:=2) (v:=?_) rfl (by kernel_rfl) (fun _ _ _ h=>h) (by rfl) (by assumption) ?_ ?_
 rotate_left
 ·intro w hSw;(try dsimp only at hSw);go_simp;(try with_reducible rfl)
 (try simp only [Qd,Qe,List.set])
 refine tk (i:=3) (v:=?_) rfl (by kernel_rfl) (fun _ _ _ h=>h) (by rfl) (by assumption) ?_ ?_
 rotate_left
 ·intro w hSw;(try dsimp only at hSw);go_simp;(try with_reducible rfl)
 (try simp only [Qd,Qe,List.set])
 refine tk (i:=4) (v:=?_) rfl (by kernel_rfl) (fun _ _ _ h=>h) (by rfl) (by assumption) ?_ ?_
 rotate_left
 ·intro w hSw;(try dsimp only at hSw);go_simp;(try with_reducible rfl)
 (try simp only [Qd,Qe,List.set])
 refine tk (i:=5) (v:=?_) rfl (by kernel_rfl) (fun _ _ _ h=>h) (by rfl) (by assumption) ?_ ?_
 rotate_left
 ·intro w hSw;(try dsimp only at hSw);go_simp;(try with_reducible rfl)
 (try simp only [Qd,Qe,List.set])
 refine tk (i:=6) (v:=?_) rfl (by kernel_rfl) (fun _ _ _ h=>h) (by rfl) (by assumption) ?_ ?_
 rotate_left
 ·intro w hSw;(try dsimp only at hSw);go_simp;(try with_reducible rfl)
 (try simp only [Qd,Qe,List.set])
 refine wpAnyH_done (by kernel_rfl) ?_ _
 refine QL rfl (fun K hK=>?_)
 (go_simp;refine VP.out.mono ?_;rintro e w3 ⟨rfl,M3⟩)
 refine hK.out _ _ ?_
 clear hK K
 (try simp only [Qd,Qe,List.set])
 obtain ⟨csl,rsl,c0,c1,c2,c3,c4,cf,cl⟩:=M3.cells
 obtain ⟨s0,sl⟩:=Qkn (M3.at (p:=(u.heap.size,.cells #[.int .i64 p] 224)) (by simp))
 have H:=Hid.mk (M3.goto p).tail
 clear M3
 go_wp2
 go_end0
 exact Or.inl ⟨_,d2,by rw [Q6G hx];rfl,rfl,H.out⟩
theorem QiZ {τ:Type} {w u:World} {bs:List (Nat×Obj)} {Z:Wkr τ w bs} {Fr:List (Nat×Obj)} {M:Nat} {m:MSt} {d:τ} (n:Int) (f:Bool) (p:Nat) (hn:0≤n) (hn2:n≤4294967295) {r:Except Mar.Fault (MSt×τ)} (hr:Q0m Z.W (.array n f p) m d=some r) (h:Mc Z Fr M m false d u) :
  Calls Tryz.prog 298 #[.agg #[.int .i64 n,.bool f,.int .i64 p],.pointer (some ⟨M,0,none⟩)] u (Q2K Z Fr M r):=by
 obtain ⟨hc,hr⟩:m.rounds.length < 1000∧r=thenE (Z.W.list n f d) fun q=>.ok (if q.1=0 then { m with next:=p } else { m with rounds:=(m.next,q.1) :: m.rounds },q.2):=by
  simp only [Q0m] at hr
  split at hr
  ·cases hr
  ·refine ⟨by omega,?_⟩
   cases hx:Z.W.list n f d with
   | error e=>rw [hx] at hr;cases hr;rfl
   | ok q=>
    obtain ⟨k,d'⟩:=q
    rw [hx] at hr
    cases k with
    | zero=>cases hr;rfl
    | succ k=>cases hr;rfl
 subst hr
 have hmn:=Z.mL
 have hen:=Z.eL
 have h0:=h.alloc (.cells #[.int .i64 n,.bool f,.int .i64 p] 345)
 obtain ⟨csl,rsl,c0,c1,c2,c3,c4,cf,cl⟩:=h0.cells
 have VN:=Hid.mk ((h0.below (Below.refl _ _).drew).work fun Fr' hj=>Z.cL n f hn hn2 hj)
 clear h h0
 generalize hR:(thenE (Z.W.list n f d) fun q=>Except.ok (if q.1=0 then { m with next:=p } else { m with rounds:=(m.next,q.1) :: m.rounds },q.2))=R
 go_enter Tryz.func298,Tryz.ntmps298
 go_wp2_with fail
 refine QD (fun w'=>w'.cell? ⟨M,0,none⟩=some (.iface Z.T (.pointer (some ⟨Z.D,0,none⟩)))∧w'.cell? ⟨u.heap.size,0,none⟩=some (.int .i64 n)∧w'.cell? ⟨u.heap.size,1,none⟩=some (.bool f)∧w'.cell? ⟨u.heap.size,2,none⟩=some (.int .i64 p)) (L:=7) (by kernel_rfl) rfl (by kernel_rfl) (by kernel_rfl) ?_ (fun hHeld=>?_)
 ·go_keep
 refine tk (i:=0) (v:=?_) rfl (by kernel_rfl) (fun _ _ _ h=>h) (by rfl) (by assumption) ?_ ?_
 rotate_left
 ·intro w hSw;(try dsimp only at hSw);go_simp;(try with_reducible rfl)
 (try simp only [Qd,Qe,List.set])
 refine tk (i:=1) (v:=?_) rfl (by kernel_rfl) (fun _ _ _ h=>h) (by rfl) (by assumption) ?_ ?_
 rotate_left
 ·intro w hSw;(try dsimp only at hSw);go_simp;(try with_reducible rfl)
 (try simp only [Qd,Qe,List.set])
 refine tk (i:=2) (v:=?_) rfl (by kernel_rfl) (fun _ _ _ h=>h) (by rfl) (by assumption) ?_ ?_
 rotate_left
 ·intro w hSw;(try dsimp only at hSw);go_simp;(try with_reducible rfl)
 (try simp only [Qd,Qe,List.set])
 refine tk (i:=3) (v:=?_) rfl (by kernel_rfl) (fun _ _ _ h=>h) (by rfl) (by assumption) ?_ ?_
 rotate_left
 ·intro w hSw;(try dsimp only at hSw);go_simp;(try with_reducible rfl)
 (try simp only [Qd,Qe,List.set])
 refine tk (i:=4) (v:=?_) rfl (by kernel_rfl) (fun _ _ _ h=>h) (by rfl) (by assumption) ?_ ?_
 rotate_left
 ·intro w hSw;(try dsimp only at hSw);go_simp;(try with_reducible rfl)
 (try simp only [Qd,Qe,List.set])
 refine tk (i:=5) (v:=?_) rfl (by kernel_rfl) (fun _ _ _ h=>h) (by rfl) (by assumption) ?_ ?_
 rotate_left
 ·intro w hSw;(try dsimp only at hSw);go_simp;(try with_reducible rfl)
 (try simp only [Qd,Qe,List.set])
 refine wpAnyH_ready (rs:=[6]) (by kernel_rfl) (by simp) ?_
 refine AllReadyH.cons rfl (fun K hK=>?_) AllReadyH.nil
 (go_simp;refine VN.out.mono ?_;rintro e w2 (⟨v2,d2,hx,rfl,M2⟩ | ⟨f',hx,hk,g,hg,rfl,hc⟩);rotate_left;exact Qa (Or.inr ⟨f',by rw [← hR,hx];rfl,hk,g,hg,rfl,hc⟩);obtain ⟨csl,rsl,c0,c1,c2,c3,c4,cf,cl⟩:=M2.cells;obtain ⟨s0,s1,s2,sl⟩:=QmH (M2.at (p:=(u.heap.size,.cells #[.int .i64 n,.bool f,.int .i64 p] 345)) (by simp));have hv2:=Z.small hn hn2 hx;have M2:=Hid.mk M2;have HX:=Hid.mk hx;clear hx)
 refine hK.out _ _ ?_ (fun hHeld=>?_)
 ·go_keep
 clear hK K
 (try simp only [Qd,Qe,List.set])
 refine wpAnyH_done (by kernel_rfl) ?_ _
 refine QL rfl (fun K hK=>?_)
 go_simp
 refine hK.out _ _ ?_
 clear hK K
 (try simp only [Qd,Qe,List.set])
 cases v2 with
 | zero=>
  have E2:Hid (R = .ok ({ m with next:=p },d2)):=by show _=_;rw [← hR,HX.out];rfl
  have H:=Hid.mk (M2.out.goto p).tail
  clear hR VN HX M2
  go_wp2
  go_end0
  exact Or.inl ⟨_,d2,E2.out,rfl,H.out⟩
 | succ k=>
  have E2:Hid (R = .ok ({ m with rounds:=(m.next,k + 1) :: m.rounds },d2)):=by show _=_;rw [← hR,HX.out];rfl
  have H:=Hid.mk (QbI (m.next,k + 1) hc (M2.out.below (Below.refl _ _).drew))
  clear hR VN HX M2
  go_wp2_with fail
  refine QD (fun w'=>w'.cell? ⟨M,1,none⟩=some (.int .i64 m.next)) (L:=9) (by kernel_rfl) rfl (by kernel_rfl) (by kernel_rfl) ?_ (fun hHeld=>?_)
  ·go_keep
  refine tk (i:=0) (v:=?_) rfl (by kernel_rfl) (fun _ _ _ h=>h) (by rfl) (by assumption) ?_ ?_
  rotate_left
  ·intro w hSw;(try dsimp only at hSw);go_simp;(try with_reducible rfl)
  (try simp only [Qd,Qe,List.set])
  refine tk (i:=1) (v:=?_) rfl (by kernel_rfl) (fun _ _ _ h=>h) (by rfl) (by assumption) ?_ ?_
  rotate_left
  ·intro w hSw;(try dsimp only at hSw);go_simp;(try with_reducible rfl)
  (try simp only [Qd,Qe,List.set])
  refine tk (i:=2) (v:=?_) rfl (by kernel_rfl) (fun _ _ _ h=>h) (by rfl) (by assumption) ?_ ?_
  rotate_left
  ·intro w hSw;(try dsimp only at hSw);go_simp;(try with_reducible rfl)
  (try simp only [Qd,Qe,List.set])
  refine tk (i:=3) (v:=?_) rfl (by kernel_rfl) (fun _ _ _ h=>h) (by rfl) (by assumption) ?_ ?_
  rotate_left
  ·intro w hSw;(try dsimp only at hSw);go_simp;(try with_reducible rfl)
  (try simp only [Qd,Qe,List.set])
  refine tk (i:=4) (v:=?_) rfl (by kernel_rfl) (fun _ _ _ h=>h) (by rfl) (by assumption) ?_ ?_
  rotate_left
  ·intro w hSw;(try dsimp only at hSw);go_simp;(try with_reducible rfl)
  (try simp only [Qd,Qe,List.set])
  refine tk (i:=5) (v:=?_) rfl (by kernel_rfl) (fun _ _ _ h=>h) (by rfl) (by assumption) ?_ ?_
  rotate_left
  ·intro w hSw;(try dsimp only at hSw);go_simp;(try with_reducible rfl)
  (try simp only [Qd,Qe,List.set])
  refine tk (i:=6) (v:=?_) rfl (by kernel_rfl) (fun _ _ _ h=>h) (by rfl) (by assumption) ?_ ?_
  rotate_left
  ·intro w hSw;(try dsimp only at hSw);go_simp;(try with_reducible rfl)
  (try simp only [Qd,Qe,List.set])
  refine tk (i:=7) (v:=?_) rfl (by kernel_rfl) (fun _ _ _ h=>h) (by rfl) (by assumption) ?_ ?_
  rotate_left
  ·intro w hSw;(try dsimp only at hSw);go_simp;(try with_reducible rfl)
  (try simp only [Qd,Qe,List.set])
  refine tk (i:=8) (v:=?_) rfl (by kernel_rfl) (fun _ _ _ h=>h) (by rfl) (by assumption) ?_ ?_
  rotate_left
  ·intro w hSw;(try dsimp only at hSw);go_simp;(try with_reducible rfl)
  (try simp only [Qd,Qe,List.set])
  refine wpAnyH_done (by kernel_rfl) ?_ _
  refine QL rfl (fun K hK=>?_)
  (go_simp;refine H.out.mono ?_;rintro e w3 ⟨rfl,M3⟩)
  refine hK.out _ _ ?_
  clear hK K
  (try simp only [Qd,Qe,List.set])
  have M3:=Hid.mk M3.tail
  go_wp2
  go_end0
  exact Or.inl ⟨_,d2,E2.out,rfl,M3.out⟩
theorem Qha {τ:Type} {w u:World} {bs:List (Nat×Obj)} {Z:Wkr τ w bs} {Fr:List (Nat×Obj)} {M:Nat} {m:MSt} {d:τ} {cs:List Value} {n:NumL} {mp:Nat} {ws:List (Int×Nat×Nat)} {ov:Value} {o:Option (Nat×Nat)} (hN:Q1g bs cs n) (hm:(mp,Q0Y ws)∈bs) (ho:Q38 bs ov o) (nd:(ws.map (·.1)).Nodup) {r:Except Mar.Fault (MSt×τ)} (hr:Q0m Z.W (.choice n ws o) m d=some r) (h:Mc Z Fr M m false d u) :
  Calls Tryz.prog 295 #[.agg (cs++[.map (some mp),ov]).toArray,.pointer (some ⟨M,0,none⟩)] u (Q2K Z Fr M r):=by
 obtain ⟨mm,rfl,hmem,x,y,z,rfl⟩:=id hN
 obtain ⟨pa,rfl⟩:∃ pa,ov = .pointer pa:=by
  cases o with
  | none=>exact ⟨_,ho⟩
  | some q=>obtain ⟨b,h1,_⟩:=ho;exact ⟨_,h1⟩
 have hmn:=Z.mA
 have hfn:∀ (a b:Value) (W:World),(Instr.field 323 (.agg #[a,b]) 0).run Tryz.prog W = .ok a W:=fun _ _ _=>by kernel_rfl
 have hen:=Z.eA
 have h0:=h.alloc (.cells #[.int .i64 n.low,.int .i64 n.high,.slice x y z,.bool n.wide,.map (some mp),.pointer pa] 321)
 obtain ⟨csl,rsl,c0,c1,c2,c3,c4,cf,cl⟩:=h0.cells
 have VN:=Hid.mk ((h0.below (Below.refl _ _).drew).work fun Fr' hj=>Z.cA hN hm ho nd hj)
 have HR:=Hid.mk hr
 clear h h0 hmem hr ho
 go_enter Tryz.func295,Tryz.ntmps295
 go_wp2_with fail
 refine QD (fun w'=>w'.cell? ⟨M,0,none⟩=some (.iface Z.T (.pointer (some ⟨Z.D,0,none⟩)))∧w'.cell? ⟨u.heap.size,0,none⟩=some (.int .i64 n.low)∧w'.cell? ⟨u.heap.size,1,none⟩=some (.int .i64 n.high)∧w'.cell? ⟨u.heap.size,2,none⟩=some (.slice x y z)∧w'.cell? ⟨u.heap.size,3,none⟩=some (.bool n.wide)∧w'.cell? ⟨u.heap.size,4,none⟩=some (.map (some mp))∧w'.cell? ⟨u.heap.size,5,none⟩=some (.pointer pa)) (L:=10) (by kernel_rfl) rfl (by kernel_rfl) (by kernel_rfl) ?_ (fun hHeld=>?_)
 ·go_keep
 refine tk (i:=0) (v:=?_) rfl (by kernel_rfl) (fun _ _ _ h=>h) (by rfl) (by assumption) ?_ ?_
 rotate_left
 ·intro w hSw;(try dsimp only at hSw);go_simp;(try with_reducible rfl)
 (try simp only [Qd,Qe,List.set])
 refine tk (i:=1) (v:=?_) rfl (by kernel_rfl) (fun _ _ _ h=>h) (by rfl) (by assumption) ?_ ?_
 rotate_left
 ·intro w hSw;(try dsimp only at hSw);go_simp;(try with_reducible rfl)
 (try simp only [Qd,Qe,List.set])
 refine tk (i:=2) (v:=?_) rfl (by kernel_rfl) (fun _ _ _ h=>h) (by rfl) (by assumption) ?_ ?_
 rotate_left
 ·intro w hSw;(try dsimp only at hSw);go_simp;(try with_reducible rfl)
 (try simp only [Qd,Qe,List.set])
 refine tk (i:=3) (v:=?_) rfl (by kernel_rfl) (fun _ _ _ h=>h) (by rfl) (by assumption) ?_ ?_
 rotate_left
 ·intro w hSw;(try dsimp only at hSw);go_simp;(try with_reducible rfl)
 (try simp only [Qd,Qe,List.set])
 refine tk (i:=4) (v:=?_) rfl (by kernel_rfl) (fun _ _ _ h=>h) (by rfl) (by assumption) ?_ ?_
 rotate_left
 ·intro w hSw;(try dsimp only at hSw);go_simp;(try with_reducible rfl)
 (try simp only [Qd,Qe,List.set])
 refine tk (i:=5) (v:=?_) rfl (by kernel_rfl) (fun _ _ _ h=>h) (by rfl) (by assumption) ?_ ?_
 rotate_left
 ·intro w hSw;(try dsimp only at hSw);go_simp;(try with_reducible rfl)
 (try simp only [Qd,Qe,List.set])
 refine wpAnyH_ready (rs:=[6]) (by kernel_rfl) (by simp) ?_
 refine AllReadyH.cons rfl (fun K hK=>?_) AllReadyH.nil
 (go_simp;refine VN.out.mono ?_;rintro e w2 (⟨v2,d2,hx,rfl,M2⟩ | ⟨f',hx,hk,g,hg,rfl,hc⟩);rotate_left;exact Qa (Or.inr ⟨f',by have:=HR.out;simp only [Q0m,hx] at this;cases this;rfl,hk,g,hg,rfl,hc⟩);obtain ⟨q,hq⟩:∃ q,wayL n ws o v2=some q:=(by have:=HR.out;simp only [Q0m,hx] at this;cases hw:wayL n ws o v2 with | none=>rw [hw] at this;cases this | some q=>exact ⟨q,rfl⟩);have E2:Hid (r = .ok ({ m with next:=q.1 },d2)):=(by show _=_;have:=HR.out;simp only [Q0m,hx,hq] at this;cases this;rfl);have EV:wayV n ws o v2 = .agg #[.int .i64 q.1,.int .i64 q.2]:=(by simp [wayV,hq]);obtain ⟨csl,rsl,c0,c1,c2,c3,c4,cf,cl⟩:=M2.cells;obtain ⟨s0,s1,s2,s3,s4,s5,sf,sl⟩:=Q10 (M2.at (p:=(u.heap.size,.cells #[.int .i64 n.low,.int .i64 n.high,.slice x y z,.bool n.wide,.map (some mp),.pointer pa] 321)) (by simp));have H:=Hid.mk (M2.goto q.1).tail;clear M2 hx hq HR;rw [EV])
 refine hK.out _ _ ?_ (fun hHeld=>?_)
 ·go_keep
 clear hK K
 (try simp only [Qd,Qe,List.set])
 refine tk (i:=7) (v:=?_) rfl (by kernel_rfl) (fun _ _ _ h=>h) (by rfl) (by assumption) ?_ ?_
 rotate_left
 ·intro w hSw;(try dsimp only at hSw);go_simp;(try with_reducible rfl)
 (try simp only [Qd,Qe,List.set])
 refine tk (i:=8) (v:=?_) rfl (by kernel_rfl) (fun _ _ _ h=>h) (by rfl) (by assumption) ?_ ?_
 rotate_left
 ·intro w hSw;(try dsimp only at hSw);go_simp;(try with_reducible rfl)
 (try simp only [Qd,Qe,List.set])
 refine tk (i:=9) (v:=?_) rfl (by kernel_rfl) (fun _ _ _ h=>h) (by rfl) (by assumption) ?_ ?_
 rotate_left
 ·intro w hSw;(try dsimp only at hSw);go_simp;(try with_reducible rfl)
 (try simp only [Qd,Qe,List.set])
 refine wpAnyH_done (by kernel_rfl) ?_ _
 refine QL rfl (fun K hK=>?_)
 go_simp
 refine hK.out _ _ ?_
 clear hK K
 (try simp only [Qd,Qe,List.set])
 go_end0
 exact Or.inl ⟨_,d2,E2.out,rfl,H.out⟩
def Q2e:Qk→Prop
 | .text n _=>0≤n∧n≤4294967295
 | .struct n _=>0≤n∧n≤4294967295
 | .array n _ _=>0≤n∧n≤4294967295
 | .choice _ ws _=>(ws.map (·.1)).Nodup
 | _=>True
structure MOk (m:MSt):Prop where
 calls:m.calls.length≤1000
 rounds:m.rounds.length≤1000
 left:∀ p∈m.rounds,p.2≤4294967295
theorem MOk.goto {m:MSt} (h:MOk m) (p:Nat):MOk { m with next:=p }:=⟨h.calls,h.rounds,h.left⟩
theorem Qkp {τ:Type} {w:World} {bs:List (Nat×Obj)} {Z:Wkr τ w bs} {x:Qk} {m m':MSt} {d d':τ} (hg:Q2e x) (ho:MOk m) (hr:Q0m Z.W x m d=some (.ok (m',d'))):MOk m':=by
 cases x with
 | hole=>cases hr
 | fin=>cases hr
 | call dest=>
  simp only [Q0m] at hr
  split at hr
  ·cases hr
  ·rename_i hc
   cases he:Z.W.enter m.calls.length d with
   | error f=>rw [he] at hr;cases hr
   | ok e=>rw [he] at hr;cases hr;exact ⟨by simp;omega,ho.rounds,ho.left⟩
 | ret=>
  simp only [Q0m] at hr
  cases hm:m.calls with
  | nil=>rw [hm] at hr;cases hr
  | cons k ks=>
   rw [hm] at hr
   cases hr
   have:=ho.calls
   rw [hm] at this
   exact ⟨by simp at this ⊢;omega,ho.rounds,ho.left⟩
 | jump dest=>cases hr;exact ho.goto _
 | num n=>
  simp only [Q0m] at hr
  cases he:Z.W.num n d with
  | error f=>rw [he] at hr;cases hr
  | ok e=>rw [he] at hr;cases hr;exact ho
 | text n b=>
  simp only [Q0m] at hr
  cases he:Z.W.text n b d with
  | error f=>rw [he] at hr;cases hr
  | ok e=>rw [he] at hr;cases hr;exact ho
 | struct n b=>
  simp only [Q0m] at hr
  cases he:Z.W.list n b d with
  | error f=>rw [he] at hr;cases hr
  | ok e=>obtain ⟨k,e⟩:=e;rw [he] at hr;cases hr;exact ho
 | array n b dest=>
  simp only [Q0m] at hr
  split at hr
  ·cases hr
  ·rename_i hc
   cases he:Z.W.list n b d with
   | error f=>rw [he] at hr;cases hr
   | ok e=>
    obtain ⟨k,e⟩:=e
    have hk:=Z.small hg.1 hg.2 he
    rw [he] at hr
    cases k with
    | zero=>cases hr;exact ho.goto _
    | succ k=>
     cases hr
     refine ⟨ho.calls,by simp;omega,?_⟩
     intro p hp
     rcases List.mem_cons.1 hp with rfl | hp
     ·exact hk
     ·exact ho.left p hp
 | again=>
  simp only [Q0m] at hr
  cases hm:m.rounds with
  | nil=>rw [hm] at hr;cases hr
  | cons p ps=>
   obtain ⟨f,l⟩:=p
   rw [hm] at hr
   have h1:=ho.rounds
   have h2:=ho.left
   rw [hm] at h1 h2
   simp only [Option.some.injEq,Except.ok.injEq,Prod.mk.injEq] at hr
   obtain ⟨rfl,rfl⟩:=hr
   split
   ·refine ⟨ho.calls,by simpa using h1,?_⟩
    intro q hq
    rcases List.mem_cons.1 hq with rfl | hq
    ·have:=h2 (f,l) (by simp)
     simp only at this ⊢
     omega
    ·exact h2 q (List.mem_cons_of_mem _ hq)
   ·exact ⟨ho.calls,by simp at h1 ⊢;omega,fun q hq=>h2 q (List.mem_cons_of_mem _ hq)⟩
 | choice n ws o=>
  simp only [Q0m] at hr
  cases he:Z.W.arm n (fun k=>(wayL n ws o k).map (·.2)) d with
  | error f=>rw [he] at hr;cases hr
  | ok e=>
   obtain ⟨k,e⟩:=e
   rw [he] at hr
   simp only at hr
   cases hw:wayL n ws o k with
   | none=>rw [hw] at hr;cases hr
   | some q=>rw [hw] at hr;cases hr;exact ho.goto _
theorem Qa3 {τ:Type} {r:Except Mar.Fault τ} {m:MSt}:(match r with | .ok d'=>Except.ok (m,d') | .error f=>.error f)=thenE r fun d'=>.ok (m,d'):=by
 cases r<;>rfl
def Qkq {τ:Type} {w:World} {bs:List (Nat×Obj)} (Z:Wkr τ w bs) (Fr:List (Nat×Obj)) (M:Nat) (T:TypeId) (sv:Value) (f:Nat) (m:MSt) (d:τ) (r:Except Mar.Fault (MSt×τ)):Prop:=
 (∀ k (u : World), (method (k + 1) T sv "marshal/machine.run").run Tryz.prog u = .ok (f, sv) u) ∧ (∀ (args : Array Value) (u : World), (callFunc f args).run Tryz.prog u = .ok (.enter f args) u) ∧ ∀ u, Mc Z Fr M m false d u → Calls Tryz.prog f #[sv, .pointer (some ⟨M, 0, none⟩)] u (Q2K Z Fr M r)
theorem Qkr {τ:Type} {w:World} {bs:List (Nat×Obj)} (Z:Wkr τ w bs) (Fr:List (Nat×Obj)) (M:Nat) {x:Qk} {v:Value} {m:MSt} {d:τ} {r:Except Mar.Fault (MSt×τ)} (hx:Q2i bs v x) (hg:Q2e x) (ho:MOk m) (hr:Q0m Z.W x m d=some r):∃ T sv f,v = .iface T sv∧Qkq Z Fr M T sv f m d r:=by
 cases x with
 | hole=>cases hr
 | fin=>cases hr
 | call dest=>
  obtain rfl:=hx
  simp only [Q0m] at hr
  split at hr
  ·cases hr
  ·rename_i hc
   obtain rfl:=Option.some.inj hr
   refine ⟨_,_,274,rfl,fun _ _=>by kernel_rfl,fun _ _=>by kernel_rfl,fun u h=>?_⟩
   have:=Qko dest (by omega) h
   rw [← Qa3] at this
   exact this
 | ret=>
  obtain rfl:=hx
  simp only [Q0m] at hr
  cases hm:m.calls with
  | nil=>rw [hm] at hr;cases hr
  | cons k ks=>
   rw [hm] at hr
   obtain rfl:=Option.some.inj hr
   exact ⟨_,_,270,rfl,fun _ _=>by kernel_rfl,fun _ _=>by kernel_rfl,fun u h=>Qh5 hm ho.calls h⟩
 | jump dest=>
  obtain rfl:=hx
  obtain rfl:=Option.some.inj hr
  exact ⟨_,_,296,rfl,fun _ _=>by kernel_rfl,fun _ _=>by kernel_rfl,fun u h=>Qkl dest h⟩
 | num n=>
  obtain ⟨cs,rfl,hN⟩:=hx
  obtain rfl:=Option.some.inj hr
  refine ⟨_,_,269,rfl,fun _ _=>by kernel_rfl,fun _ _=>by kernel_rfl,fun u h=>?_⟩
  have:=Qh6 hN h
  rw [← Qa3] at this
  exact this
 | text n b=>
  obtain rfl:=hx
  obtain rfl:=Option.some.inj hr
  refine ⟨_,_,289,rfl,fun _ _=>by kernel_rfl,fun _ _=>by kernel_rfl,fun u h=>?_⟩
  have:=Qkm n b hg.1 hg.2 h
  rw [← Qa3] at this
  exact this
 | struct n b=>
  obtain rfl:=hx
  obtain rfl:=Option.some.inj hr
  refine ⟨_,_,294,rfl,fun _ _=>by kernel_rfl,fun _ _=>by kernel_rfl,fun u h=>?_⟩
  have:=Qh7 n b hg.1 hg.2 h
  have e:(match Z.W.list n b d with | .ok (_,d')=>Except.ok (m,d') | .error f=>.error f)=thenE (Z.W.list n b d) fun p=>.ok (m,p.2):=by cases Z.W.list n b d<;>rfl
  rw [← e] at this
  exact this
 | array n b dest=>
  obtain rfl:=hx
  exact ⟨_,_,298,rfl,fun _ _=>by kernel_rfl,fun _ _=>by kernel_rfl,fun u h=>QiZ n b dest hg.1 hg.2 hr h⟩
 | again=>
  obtain rfl:=hx
  simp only [Q0m] at hr
  cases hm:m.rounds with
  | nil=>rw [hm] at hr;cases hr
  | cons p ps=>
   rw [hm] at hr
   obtain ⟨p1,p2⟩:=p
   obtain rfl:=Option.some.inj hr
   exact ⟨_,_,300,rfl,fun _ _=>by kernel_rfl,fun _ _=>by kernel_rfl,fun u h=>QiY hm ho.rounds (ho.left (p1,p2) (by rw [hm];simp)) h⟩
 | choice n ws o=>
  obtain ⟨cs,mp,ov,rfl,hN,hm,hoo⟩:=hx
  exact ⟨_,_,295,rfl,fun _ _=>by kernel_rfl,fun _ _=>by kernel_rfl,fun u h=>Qha hN hm hoo hg hr h⟩
section
variable {τ : Type} {w u : World} {bs : List (Nat × Obj)} {Z : Wkr τ w bs} {Fr : List (Nat × Obj)} {M : Nat} {m : MSt} {en : Bool} {d : τ}
theorem Mc.start (h:Z.J Fr d u) (p:Nat):Mc Z Fr u.heap.size ⟨p,[],[]⟩ false d (u.alloc (mObj Z p (.slice none 0 0) (.slice none 0 0) false)):=
 ⟨[],[],.slice none 0 0,.slice none 0 0,Or.inl ⟨rfl,rfl,rfl,rfl⟩,Or.inl ⟨rfl,rfl,rfl,rfl⟩,Z.alloc h _⟩
theorem Mc.drop (h:Mc Z Fr M m en d u):Z.J Fr d u:=by
 obtain ⟨Ec,Er,csl,rsl,h⟩:=h
 refine Z.sub h.j (fun q hq=>by simp [hq]) ?_
 have hs:List.Sublist Fr (Ec++(Er++(M,mObj Z m.next csl rsl en) :: Fr)):=(List.sublist_cons_self _ _).trans ((List.sublist_append_right _ _).trans (List.sublist_append_right _ _))
 exact (Z.nodup h.j).sublist (hs.map _)
theorem Mc.kp (h:Mc Z Fr M m en d u):Qb [] w u:=Z.kp h.drop
end
def Qj0 {τ:Type} {w:World} {bs:List (Nat×Obj)} (Z:Wkr τ w bs) (Fr:List (Nat×Obj)) (M:Nat) (c:List Qk) (z:Except Mar.Fault τ) (k:Nat) (ur:World):Prop:=
 ∃ m d,(Mc Z Fr M m false d ur∧MOk m∧runN Z.W c k m d=some z)∨(z = .ok d∧Mc Z Fr M m true d ur)
theorem QbJ {τ:Type} {W:Wk τ} {c:List Qk} {k:Nat} {m:MSt} {d:τ} {z:Except Mar.Fault τ} (h:runN W c k m d=some z):∃ j x,k=j + 1∧c[m.next]? = some x∧((x = .fin∧z = .ok d)∨(x≠.fin∧∃ r,Q0m W x { m with next:=m.next + 1 } d=some r∧((∃ f,r = .error f∧z = .error f)∨∃ m' d',r = .ok (m',d')∧runN W c j m' d'=some z))):=by
 cases k with
 | zero=>cases h
 | succ j=>
  unfold runN at h
  cases hx:c[m.next]? with
  | none=>rw [hx] at h;cases h
  | some x=>
   rw [hx] at h
   refine ⟨j,x,rfl,rfl,?_⟩
   by_cases hf:x = .fin
   ·subst hf
    cases h
    exact Or.inl ⟨rfl,rfl⟩
   ·have h':(match Q0m W x { m with next:=m.next + 1 } d with
     | none=>none
     | some (.error f)=>some (.error f)
     | some (.ok (m',d'))=>runN W c j m' d')=some z:=by
     cases x<;>first | exact absurd rfl hf | exact h
    refine Or.inr ⟨hf,?_⟩
    cases hs:Q0m W x { m with next:=m.next + 1 } d with
    | none=>rw [hs] at h';cases h'
    | some r=>
     rw [hs] at h'
     refine ⟨r,rfl,?_⟩
     cases r with
     | error f=>cases h';exact Or.inl ⟨f,rfl,rfl⟩
     | ok p=>exact Or.inr ⟨p.1,p.2,rfl,h'⟩
theorem QfO {τ:Type} {w u:World} {bs:List (Nat×Obj)} {Z:Wkr τ w bs} {Fr:List (Nat×Obj)} {d:τ} {c:List Qk} {v:Value} {z:Except Mar.Fault τ} {start N:Nat} (hc:Q3I bs v c) (hw:∀ p∈bs,w.heap[p.1]? = some p.2) (hg:∀ x∈c,Q2e x) (hj:Z.J Fr d u) (hr:runN Z.W c N ⟨start,[],[]⟩ d=some z) :
  Calls Tryz.prog 61 #[v,.int .i64 start,.iface Z.T (.pointer (some ⟨Z.D,0,none⟩))] u (Q5c w Z.J Fr (Q97 z) fun _=>.tuple #[]):=by
 obtain ⟨cv,hcv,hlong,hst,hlen⟩:=hc
 obtain ⟨g,cap,rfl,hcap,hcell⟩:∃ g cap,v = .slice (some ⟨g,0,none⟩) c.length cap∧c.length≤cap∧∀ (ur:World),Qb [] w ur→∀ i x,c[i]? = some x→∃ sv,Q2i bs sv x∧ur.cell? ⟨g,i,none⟩=some sv∧g < ur.heap.size:=by
  rcases hlong with ⟨rfl,h0,_⟩ | ⟨g,cap,cur,rfl,hcap,hmem,htk⟩
  ·obtain ⟨j,x,_,hx,_⟩:=QbJ hr
   rw [List.getElem?_eq_none (by omega)] at hx
   cases hx
  ·refine ⟨g,cap,rfl,hcap,fun ur hk i x hx=>?_⟩
   have hgu:ur.heap[g]? = some (.cells cur 226):=(hk.block _ (Qc (hw _ hmem)) (by simp)).trans (hw _ hmem)
   rw [hcv,List.getElem?_map] at hx
   obtain ⟨p,hp,rfl⟩:=Option.map_eq_some_iff.1 hx
   have hlc:c.length=cv.length:=by rw [hcv];simp
   refine ⟨p.2,hst p (List.mem_of_getElem? hp),Qx (xs:=cv.map (·.2)) hgu (by simpa [hlc] using htk) (by rw [List.getElem?_map,hp];rfl),Qc hgu⟩
 have M0:Hid (Qj0 Z Fr u.heap.size c z N (u.alloc (mObj Z start (.slice none 0 0) (.slice none 0 0) false))):=⟨_,d,Or.inl ⟨Mc.start hj start,⟨by simp,by simp,by simp⟩,hr⟩⟩
 have HC:=Hid.mk hcell
 have HG:=Hid.mk hg
 clear hcell hj hr hg hst hcv hlong hw
 go_enter Tryz.func61,Tryz.ntmps61
 go_wp2
 go_loopg [] N (fun k ur=>Hid (Qj0 Z Fr u.heap.size c z k ur))
 case atStart=>exact M0
 case round=>
  obtain ⟨m,d1,⟨M1,ho,hr⟩ | ⟨rfl,M1⟩⟩:=hrel.out
  ·obtain ⟨csl,rsl,c0,c1,c2,c3,c4,cf,cl⟩:=M1.cells
   obtain ⟨j,x,rfl,hx,hcase⟩:=QbJ hr
   obtain ⟨sv,hsi,hsc,hgl⟩:=HC.out _ M1.kp _ _ hx
   have hlt:m.next < c.length:=by
    rcases Nat.lt_or_ge m.next c.length with h | h
    ·exact h
    ·rw [List.getElem?_eq_none h] at hx;cases hx
   have hgx:=HG.out x (List.mem_of_getElem? hx)
   rcases hcase with ⟨rfl,rfl⟩ | ⟨hf,r,hs,hz⟩
   ·obtain rfl:=hsi
    have hmn : ∀ k (u : World), (method (k + 1) 326 (.agg #[]) "marshal/machine.run").run Tryz.prog u = .ok (297, .agg #[]) u := fun _ _ => by kernel_rfl
    have VE:=Hid.mk (QmG (M1.goto (m.next + 1)))
    clear M1 hrel M0 hr hx
    go_wp2_with fail
    refine VE.out.mono ?_
    rintro e w2 ⟨rfl,M2⟩
    have M2:=Hid.mk M2
    go_wp2
    go_roundg j
    case measure=>omega
    case rel=>exact ⟨_,d1,Or.inr ⟨rfl,M2.out⟩⟩
   ·obtain ⟨T,sv,f,rfl,hmn,hen,hcalls⟩:=Qkr Z Fr u.heap.size hsi hgx (ho.goto (m.next + 1)) hs
    have VE:=Hid.mk (hcalls _ (M1.goto (m.next + 1)))
    have HS:=Hid.mk hs
    have HO:=Hid.mk (fun m' d'=>Qkp (Z:=Z) (m':=m') (d':=d') (d:=d1) hgx (ho.goto (m.next + 1)))
    have HZ:=Hid.mk hz
    clear M1 hrel M0 hr hx hcalls hz hs hf hsi hgx ho
    go_wp2_with fail
    refine VE.out.mono ?_
    rintro e w2 (⟨m',d',hx,rfl,M2⟩ | ⟨f',hx,hk,g',hg',rfl,hc'⟩)
    rotate_left
    ·refine Qa (Or.inr ⟨f',?_,hk,g',hg',rfl,hc'⟩)
     rcases HZ.out with ⟨f2,h1,rfl⟩ | ⟨m2,d2,h1,_⟩
     ·rw [hx] at h1;cases h1;rfl
     ·rw [hx] at h1;cases h1
    have M2:=Hid.mk M2
    have HX:=Hid.mk hx
    clear hx
    go_wp2
    go_roundg j
    case measure=>omega
    case rel=>
     rcases HZ.out with ⟨f2,h1,rfl⟩ | ⟨m2,d2,h1,h2⟩
     ·rw [HX.out] at h1;cases h1
     ·have h3:=HX.out
      rw [h3] at h1
      cases h1
      have h4:=HS.out
      rw [h3] at h4
      exact ⟨_,_,Or.inl ⟨M2.out,HO.out _ _ h4,h2⟩⟩
  ·obtain ⟨csl,rsl,c0,c1,c2,c3,c4,cf,cl⟩:=M1.cells
   have J1:=Hid.mk M1.drop
   clear M1 hrel M0
   go_wp2
   go_end0
   exact Or.inl ⟨(),d1,rfl,rfl,J1.out⟩
theorem Qj1 {b:List UInt8} {dep fuel:Nat} {n:Int} {f:Bool} {d d':DSt} {k:Nat} (h0:0≤n) (h1:n≤4294967295) (h:(decW b dep fuel).list n f d = .ok (k,d')):k≤4294967295:=by
 obtain ⟨d1,_,h⟩:=Qh h
 obtain ⟨p,hc,h⟩:=Qh h
 cases h
 unfold Q0y at hc
 split at hc
 ·cases hc
  simp only
  omega
 ·obtain ⟨q,_,hq⟩:=Qh hc
  split at hq
  ·cases hq
   omega
  ·cases hq
theorem QaQ {α:Type} {w:World} {D:Nat} {Fr:List (Nat×Obj)} {b:List UInt8} {dep fuel size:Nat} {r:Except Mar.Fault (α×DSt)} {V:α→Value} {e:Ending} {u':World} (h:Q0V w D Fr [] b dep fuel size r V e u'):Q5c w (fun Fr d u=>∃ nsl,Q0g w D Fr [] b dep fuel size d nsl u) Fr r V e u':=by
 rcases h with ⟨a,d',nsl,h1,h2,h3⟩ | h
 ·exact Or.inl ⟨a,d',h1,h2,nsl,h3⟩
 ·exact Or.inr h
def decZ {w:World} {bs:List (Nat×Obj)} (hw:∀ p∈bs,w.heap[p.1]? = some p.2) (D:Nat) (b:List UInt8) (dep fuel size:Nat) (hfu:fuel≤10000):Wkr DSt w bs where
 W:=decW b dep fuel
 T:=137
 D:=D
 J:=fun Fr d u=>∃ nsl,Q0g w D Fr [] b dep fuel size d nsl u
 base:=by
  rintro Fr d u ⟨nsl,h⟩
  exact ⟨_,_,h.own,fun hk hM ho=>⟨nsl,h.beside hk hM ho⟩⟩
 fE:=324
 fN:=326
 fT:=327
 fL:=325
 fA:=323
 mE:=fun _ _=>by kernel_rfl
 mN:=fun _ _=>by kernel_rfl
 mT:=fun _ _=>by kernel_rfl
 mL:=fun _ _=>by kernel_rfl
 mA:=fun _ _=>by kernel_rfl
 eE:=fun _ _=>by kernel_rfl
 eN:=fun _ _=>by kernel_rfl
 eT:=fun _ _=>by kernel_rfl
 eL:=fun _ _=>by kernel_rfl
 eA:=fun _ _=>by kernel_rfl
 cE:=by
  rintro Fr d u k hk ⟨nsl,h⟩
  exact (QiQ k (by omega) h).mono fun e u'=>QaQ
 cN:=by
  rintro Fr d u cs n hN ⟨nsl,h⟩
  exact (Qf7 hN hw hfu h).mono fun e u'=>QaQ
 cT:=by
  rintro Fr d u n f h0 h1 ⟨nsl,h⟩
  exact (QiU n f h0 h1 hfu h).mono fun e u'=>QaQ
 cL:=by
  rintro Fr d u n f h0 h1 ⟨nsl,h⟩
  exact (QiT n f h0 h1 hfu h).mono fun e u'=>QaQ
 cA:=by
  rintro Fr d u cs n m ws ov o hN hm ho nd ⟨nsl,h⟩
  exact (Qkj hN hm ho nd hw hfu h).mono fun e u'=>QaQ
 small:=Qj1
theorem Qks (b:ByteArray) (w:World):Calls Tryz.prog 62 #[.string b] w fun e w'=>e = .returned (.agg #[.string b,.int .i64 0])∧w'=w.alloc (.cells #[.string b,.int .i64 0] 139):=by
 go_enter Tryz.func62,Tryz.ntmps62
 go_wp2
 refine bodyPost_ret (v:=.agg #[.string b,.int .i64 0]) (by simp [results,Tryz.results62,go_sem]) rfl ⟨rfl,rfl⟩
theorem Q0g.fresh {w u:World} (hk:Qb [] w u) {b:List UInt8} {dep fuel size:Nat} (hl:b.length≤100000):Q0g w u.heap.size [] [] b dep fuel size ⟨0,[]⟩ (.slice none 0 0) (u.alloc (.cells #[.string ⟨b.toArray⟩,.int .i64 0,.int .i64 dep,.int .i64 fuel,.int .i64 size,.slice none 0 0] 142)):=by
 refine ⟨⟨hk.alloc _,?_,?_,?_,?_,?_,?_,?_,?_⟩,Qg rfl,⟨rfl,Or.inl ⟨rfl,rfl⟩⟩,by simp,hl,by simp⟩
 ·intro y hy
  simp [Value.ownBlock] at hy
  subst hy
  exact hk.size
 ·intro y hy
  simp [Value.ownBlock] at hy
  subst hy
  simp
 ·simp [Value.ownBlock]
 ·intro p hp;cases hp
 ·intro p hp;cases hp
 ·simp
 ·intro p hp;cases hp
 ·intro p hp;cases hp
def Q6H (w:World) (r:Except Mar.Fault (List Q0j)) (e:Ending) (u':World):Prop:=
 (∃ ns v,r = .ok ns∧e = .returned v∧Qb [] w u'∧u'.ownsRow w.heap.size 48 5 v ns.length (ns.flatMap Q1Y))∨(∃ f,r = .error f∧Qb [] w u'∧Q0l w f.no f.at' e u')
theorem Q6H.throws {w u u':World} {r:Except Mar.Fault (List Q0j)} {f:Mar.Fault} {g:Nat} (hr:r = .error f) (hk:Qb [] w u) (hb:Qb [] u u') (hg:u.heap.size≤g) (hc:u'.heap[g]? = some (.cells #[.int .i64 f.no,.int .i64 f.at'] 83)) :
  Q6H w r (.panicked [{ v:=.iface 79 (.pointer (some ⟨g,0,none⟩)),recovered:=false }]) u':=
 Or.inr ⟨f,hr,hk.young hb (by simp),g,Nat.le_trans hk.size hg,rfl,hc⟩
theorem QmI {w:World} {bs:List (Nat×Obj)} {c:List Qk} {v:Value} {b:List UInt8} {dep fuel size start N:Nat} {z:Except Mar.Fault DSt} (hc:Q3I bs v c) (hw:∀ p∈bs,w.heap[p.1]? = some p.2) (hg:∀ x∈c,Q2e x) (hfu:fuel≤10000) (hsz:size≤100000) (hdp:dep≤64) (hbl:b.length≤maxLen) (hr:runN (decW b dep fuel) c N ⟨start,[],[]⟩ ⟨0,[]⟩=some z) :
  Calls Tryz.prog 35 #[v,.int .i64 start,.string ⟨b.toArray⟩,.agg #[.int .i64 dep,.int .i64 fuel,.int .i64 size]] w (Q6H w (if size < b.length then .error ⟨14,0⟩ else thenE z fun d=>if d.pos < b.length then .error ⟨20,d.pos⟩ else .ok d.nodes)):=by
 have hmx:(b.length:Int)≤9223372036854775807:=by unfold maxLen at hbl;omega
 generalize hR:(if size < b.length then Except.error ⟨14,0⟩ else thenE z fun d=>if d.pos < b.length then Except.error ⟨20,d.pos⟩ else .ok d.nodes)=R
 have HC:=Hid.mk hc
 have HW:=Hid.mk hw
 have HG:=Hid.mk hg
 have HR:=Hid.mk hr
 clear hc hw hg hr
 by_cases hs:size < b.length
 ·have E:Hid (R = .error ⟨14,0⟩):=by show _=_;rw [← hR,if_pos hs]
  have hsi:(size:Int) < (b.length:Int):=by omega
  clear hR
  go_enter Tryz.func35,Tryz.ntmps35
  go_wp2_with (go_at_call 47;refine (Q09 _ _ _).mono ?_;rintro e w' ⟨rfl,rfl⟩)
  exact Qa (Q6H.throws (f:=⟨14,0⟩) E.out ((Qb.refl [] w).alloc _) ((Qb.refl [] _).alloc _) (by simp) (Qg (by simp)))
 ·have hR':Hid (R=thenE z fun d=>if d.pos < b.length then Except.error ⟨20,d.pos⟩ else .ok d.nodes):=by show _=_;rw [← hR,if_neg hs]
  have hsi:(b.length:Int)≤(size:Int):=by omega
  have J0:Hid (∀ o1 o2,(decZ HW.out (w.heap.size + 1 + 1) b dep fuel size hfu).J [] ⟨0,[]⟩ (((w.alloc o1).alloc o2).alloc (.cells #[.string ⟨b.toArray⟩,.int .i64 0,.int .i64 dep,.int .i64 fuel,.int .i64 size,.slice none 0 0] 142)).drew):=by
   intro o1 o2
   have h:=Q0g.fresh (u:=(w.alloc o1).alloc o2) (((Qb.refl [] w).alloc o1).alloc o2) (b:=b) (dep:=dep) (fuel:=fuel) (size:=size) (by omega)
   have e:((w.alloc o1).alloc o2).heap.size=w.heap.size + 1 + 1:=by simp
   rw [e] at h
   exact ⟨_,h.below (Below.refl _ _).drew⟩
  clear hR
  go_enter Tryz.func35,Tryz.ntmps35
  go_wp2_with fail
  refine QD (fun w'=>w'.cell? ⟨w.heap.size,0,none⟩=some (.int .i64 dep)∧w'.cell? ⟨w.heap.size,1,none⟩=some (.int .i64 fuel)∧w'.cell? ⟨w.heap.size,2,none⟩=some (.int .i64 size)) (L:=5) (by kernel_rfl) rfl (by kernel_rfl) (by kernel_rfl) ?_ (fun hHeld=>?_)
  ·go_keep
  refine tk (i:=0) (v:=?_) rfl (by kernel_rfl) (fun _ _ _ h=>h) (by rfl) (by assumption) ?_ ?_
  rotate_left
  ·intro w hSw;(try dsimp only at hSw);go_simp;(try with_reducible rfl)
  (try simp only [Qd,Qe,List.set])
  refine tk (i:=2) (v:=?_) rfl (by kernel_rfl) (fun _ _ _ h=>h) (by rfl) (by assumption) ?_ ?_
  rotate_left
  ·intro w hSw;(try dsimp only at hSw);go_simp;(try with_reducible rfl)
  (try simp only [Qd,Qe,List.set])
  refine wpAnyH_ready (rs:=[1]) (by kernel_rfl) (by simp) ?_
  refine AllReadyH.cons rfl (fun K hK=>?_) AllReadyH.nil
  (go_simp;go_at_call 62;refine (Qks _ _).mono ?_;rintro e w1 ⟨rfl,rfl⟩)
  refine hK.out _ _ ?_ (fun hHeld=>?_)
  ·go_keep
  clear hK K
  (try simp only [Qd,Qe,List.set])
  refine tk (i:=3) (v:=?_) rfl (by kernel_rfl) (fun _ _ _ h=>h) (by rfl) (by assumption) ?_ ?_
  rotate_left
  ·intro w hSw;(try dsimp only at hSw);go_simp;(try with_reducible rfl)
  (try simp only [Qd,Qe,List.set])
  refine wpAnyH_ready (rs:=[4]) (by kernel_rfl) (by simp) ?_
  refine AllReadyH.cons rfl (fun K hK=>?_) AllReadyH.nil
  go_simp
  refine hK.out _ _ ?_ (fun hHeld=>?_)
  ·go_keep
  clear hK K
  (try simp only [Qd,Qe,List.set])
  refine wpAnyH_done (by kernel_rfl) ?_ _
  refine QL rfl (fun K hK=>?_)
  go_simp
  refine hK.out _ _ ?_
  clear hK K
  (try simp only [Qd,Qe,List.set])
  go_wp2_with fail
  refine (QfO (Z:=decZ HW.out (w.heap.size + 1 + 1) b dep fuel size hfu) (Fr:=[]) (d:=⟨0,[]⟩) HC.out HW.out HG.out (J0.out _ _) HR.out).mono ?_
  rintro e w2 (⟨_,d2,hx,rfl,nsl,M2⟩ | ⟨f,hx,hk,g,hg,rfl,hc⟩)
  rotate_left
  ·exact Qa (Or.inr ⟨f,by rw [hR'.out,Q5L hx];rfl,hk,g,hg,rfl,hc⟩)
  have E0:Hid (R=if d2.pos < b.length then Except.error ⟨20,d2.pos⟩ else .ok d2.nodes):=by show _=_;rw [hR'.out,Q6G hx];rfl
  have VL:=Hid.mk (QdT M2)
  have VA:=Hid.mk (Q6E (M2.below (Below.refl _ _).drew))
  obtain ⟨c0,c1,c2,c3,c4,c5,hfz,hlt⟩:=M2.cells
  have hp:=M2.pos
  have H2:=Hid.mk M2
  clear M2 hx J0 hR'
  by_cases ht:d2.pos < b.length
  ·have E:Hid (R = .error ⟨20,d2.pos⟩):=by show _=_;rw [E0.out,if_pos ht]
   have hti:(d2.pos:Int) < (b.length:Int):=by omega
   clear E0
   go_wp2_with (first
    | (go_at_call 63;refine VL.out.mono ?_;rintro e w3 ⟨rfl,rfl⟩)
    | (go_at_call 64;refine VA.out.mono ?_;rintro e w3 ⟨rfl,rfl⟩)
    | (go_at_call 47;refine (Q09 _ _ _).mono ?_;rintro e w' ⟨rfl,rfl⟩))
   exact Qa (Q6H.throws (f:=⟨20,d2.pos⟩) E.out H2.out.own.kp ((Qb.refl [] _).drew.alloc _) (by simp) (Qg (by simp)))
  ·have E:Hid (R = .ok d2.nodes):=by show _=_;rw [E0.out,if_neg ht]
   have hti:(b.length:Int)=(d2.pos:Int):=by omega
   clear E0 ht
   go_wp2_with (go_at_call 63;refine VL.out.mono ?_;rintro e w3 ⟨rfl,rfl⟩)
   go_ret
   exact Or.inl ⟨_,_,E.out,rfl,H2.out.own.kp.drew,Qt H2.out.row (Qb.refl [] _).drew (by simp)⟩
def Q35 (n m:Int):Bool:=decide (0≤n) && decide (n≤m)
theorem Q7Z (n m:Int) (w:World):Calls Tryz.prog 71 #[.int .i64 n,.int .i64 m] w fun e w'=>e = .returned (.bool (Q35 n m))∧w'=w:=by
 by_cases h0:0≤n
 ·have E:Hid (Q35 n m=decide (n≤m)):=by show _=_;simp [Q35,h0]
  go_enter Tryz.func71,Tryz.ntmps71
  go_wp2
  go_ret
  exact ⟨by rw [E.out];rfl,rfl⟩
 ·have E:Hid (Q35 n m=false):=by show _=_;simp [Q35,h0]
  have h1:n < 0:=by omega
  go_enter Tryz.func71,Tryz.ntmps71
  go_wp2
  go_ret
  exact ⟨by rw [E.out];rfl,rfl⟩
def Q1m (places:List (List UInt8×Nat)) (n:List UInt8) (dep fuel size:Int):Except Nat Nat:=match QK places n with
 | none=>.error 10
 | some p=>if Q35 dep 64 && Q35 fuel 10000 && Q35 size 100000 then .ok p else .error 11
def Q8N:Except Nat Nat→Value
 | .ok p=>.tuple #[.int .i64 p,.nilIface]
 | .error k=>.tuple #[.int .i64 0,.iface 50 (.int .i64 k)]
theorem Qf9 {W:World} {m:Nat} {l:List (List UInt8×Nat)} (hb:W.heap[m]? = some (Q0E l)) (nd:(l.map (·.1)).Nodup) (k:List UInt8) :
  (Instr.lookup 64 (.map (some m)) (.string ⟨k.toArray⟩) true).run Tryz.prog W = .ok (match QK l k with
   | some q=>.tuple #[.int .i64 q,.bool true]
   | none=>.tuple #[.int .i64 0,.bool false]) W:=by
 have hh:=Q4n (P:=Tryz.prog) (T:=64) (kt:=9) (et:=3) (d:=.string) (by kernel_rfl) (by kernel_rfl) (fun k:List UInt8=>.string ⟨k.toArray⟩) (fun k:Nat=>.int .i64 k) (fun _=>trivial) Q3v hb nd (z:=.int .i64 0) (by kernel_rfl) k true
 cases hm:QK l k with
 | none=>rw [hm] at hh;exact hh
 | some v=>rw [hm] at hh;exact hh
theorem Q4C {b:Nat} {c0 c1 c2 c3:Value} {T:TypeId} {w:World} (h:w.heap[b]? = some (.cells #[c0,c1,c2,c3] T)) :
  w.cell? ⟨b,0,none⟩=some c0∧w.cell? ⟨b,1,none⟩=some c1∧w.cell? ⟨b,2,none⟩=some c2∧(∀ i,w.frozen? ⟨b,i,none⟩=false)∧b < w.heap.size:=by
 refine ⟨?_,?_,?_,?_,Qc h⟩<;>simp [World.cell?,World.frozen?,h]
theorem Q2f {b:Nat} {c0 c1 c2:Value} {T:TypeId} {w:World} (h:w.heap[b]? = some (.cells #[c0,c1,c2] T)) :
  w.cell? ⟨b,0,none⟩=some c0∧w.cell? ⟨b,1,none⟩=some c1∧w.cell? ⟨b,2,none⟩=some c2∧(∀ i,w.frozen? ⟨b,i,none⟩=false)∧b < w.heap.size:=by
 refine ⟨?_,?_,?_,?_,Qc h⟩<;>simp [World.cell?,World.frozen?,h]
def mayB (dep fuel size:Int):Bool:=Q35 dep 64 && Q35 fuel 10000 && Q35 size 100000
theorem QfP (dep fuel size:Int) (w:World):Calls Tryz.prog 60 #[.agg #[.int .i64 dep,.int .i64 fuel,.int .i64 size]] w fun e w'=>e = .returned (.bool (mayB dep fuel size))∧Below w.heap.size w w':=by
 have hb:∀ o,Below w.heap.size w (w.alloc o):=fun o=>(Below.refl _ _).alloc (Nat.le_refl _) _
 cases h1:Q35 dep 64 with
 | false=>
  have E:Hid (mayB dep fuel size=false):=by show _=_;simp [mayB,h1]
  go_enter Tryz.func60,Tryz.ntmps60
  go_wp2_with (go_at_call 71;refine (Q7Z _ _ _).mono ?_;rintro e w1 ⟨rfl,rfl⟩;simp only [h1])
  go_ret
  exact ⟨by rw [E.out];rfl,hb _⟩
 | true=>
  cases h2:Q35 fuel 10000 with
  | false=>
   have E:Hid (mayB dep fuel size=false):=by show _=_;simp [mayB,h1,h2]
   go_enter Tryz.func60,Tryz.ntmps60
   go_wp2_with (go_at_call 71;refine (Q7Z _ _ _).mono ?_;rintro e w1 ⟨rfl,rfl⟩;try simp only [h1,h2])
   go_ret
   exact ⟨by rw [E.out];rfl,hb _⟩
  | true=>
   cases h3:Q35 size 100000 with
   | false=>
    have E:Hid (mayB dep fuel size=false):=by show _=_;simp [mayB,h1,h2,h3]
    go_enter Tryz.func60,Tryz.ntmps60
    go_wp2_with (go_at_call 71;refine (Q7Z _ _ _).mono ?_;rintro e w1 ⟨rfl,rfl⟩;try simp only [h1,h2,h3])
    go_ret
    exact ⟨by rw [E.out];rfl,hb _⟩
   | true=>
    have E:Hid (mayB dep fuel size=true):=by show _=_;simp [mayB,h1,h2,h3]
    go_enter Tryz.func60,Tryz.ntmps60
    go_wp2_with (go_at_call 71;refine (Q7Z _ _ _).mono ?_;rintro e w1 ⟨rfl,rfl⟩;try simp only [h1,h2,h3])
    go_ret
    exact ⟨by rw [E.out];rfl,hb _⟩
theorem Q98 {w:World} {B S P:Nat} {dsl v:Value} {places:List (List UInt8×Nat)} (hB:w.heap[B]? = some (.cells #[dsl,v,.map (some S),.map (some P)] 70)) (hS:w.heap[S]? = some (Q0E places)) (nd:(places.map (·.1)).Nodup) (n:List UInt8) (dep fuel size:Int) :
  Calls Tryz.prog 32 #[.pointer (some ⟨B,0,none⟩),.string ⟨n.toArray⟩,.agg #[.int .i64 dep,.int .i64 fuel,.int .i64 size]] w fun e w'=>e = .returned (Q8N (Q1m places n dep fuel size))∧Below w.heap.size w w':=by
 obtain ⟨c0,c1,c2,cf,cl⟩:=Q4C hB
 have hb:∀ o,Below w.heap.size w (w.alloc o):=fun o=>(Below.refl _ _).alloc (Nat.le_refl _) _
 have hlk:∀ o,(Instr.lookup 64 (.map (some S)) (.string ⟨n.toArray⟩) true).run Tryz.prog (w.alloc o) = .ok (match QK places n with
   | some q=>.tuple #[.int .i64 q,.bool true]
   | none=>.tuple #[.int .i64 0,.bool false]) (w.alloc o):=fun o=>Qf9 (((hb o).block _ (Qc hS)).trans hS) nd n
 cases hm:QK places n with
 | none=>
  have E:Hid (Q1m places n dep fuel size = .error 10):=by show _=_;simp [Q1m,hm]
  simp only [hm] at hlk
  clear hB hS hm
  go_enter Tryz.func32,Tryz.ntmps32
  go_wp2
  exact bodyPost_ret (v:=.tuple #[.int .i64 0,.iface 50 (.int .i64 10)]) (by simp [results,Tryz.results32,go_sem]) rfl ⟨by rw [E.out];rfl,hb _⟩
 | some p=>
  have E:Hid (Q1m places n dep fuel size=if mayB dep fuel size then .ok p else .error 11):=by show _=_;simp [Q1m,mayB,hm]
  simp only [hm] at hlk
  clear hB hS hm
  cases h1:mayB dep fuel size with
  | false=>
   have E:Hid (Q1m places n dep fuel size = .error 11):=by show _=_;rw [E.out,h1];rfl
   go_enter Tryz.func32,Tryz.ntmps32
   go_wp2_with fail
   refine (QfP _ _ _ _).mono ?_
   rintro e w1 ⟨rfl,hb1⟩
   rw [h1]
   have hb2:=Hid.mk ((hb _).trans (hb1.mono (by simp)))
   clear hb1
   go_wp2
   exact bodyPost_ret (v:=.tuple #[.int .i64 0,.iface 50 (.int .i64 11)]) (by simp [results,Tryz.results32,go_sem]) rfl ⟨by rw [E.out];rfl,hb2.out⟩
  | true=>
   have E:Hid (Q1m places n dep fuel size = .ok p):=by show _=_;rw [E.out,h1];rfl
   go_enter Tryz.func32,Tryz.ntmps32
   go_wp2_with fail
   refine (QfP _ _ _ _).mono ?_
   rintro e w1 ⟨rfl,hb1⟩
   rw [h1]
   have hb2:=Hid.mk ((hb _).trans (hb1.mono (by simp)))
   clear hb1
   go_wp2
   exact bodyPost_ret (v:=.tuple #[.int .i64 p,.nilIface]) (by simp [results,Tryz.results32,go_sem]) rfl ⟨by rw [E.out];rfl,hb2.out⟩
end Go.Proofs.YtmbcibgknckenaaGreatDoor
