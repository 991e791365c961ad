import Derived.Test.YtmbcibgknckenaaGreatDoorT5
set_option linter.all false
set_option maxRecDepth 100000
set_option maxHeartbeats 4000000
namespace Go.Proofs.YtmbcibgknckenaaGreatDoor
open Go.RowKit
open Go.MapKept
theorem Q9R {P:Program} {w:World} {b o s n:Nat} {cs:Array Value} {e:TypeId} {fr:Nat×Nat} (hb:w.heap[b]? = some (.cells cs e fr)) (hs:P.cellsOf e=s) (h0:s≠0) (hc:byteOfCell P P.depth e (o % s)=some n) :
  (byteOf ⟨b,o,none⟩).run P w = .ok (o / s * P.bytesOf e + n) w:=by
 have hsh:w.shape? b=some (e,cs.size):=by simp [World.shape?,hb]
 have hv:(viewAt b).run P w = .ok none w:=by simp [viewAt,hsh]
 unfold byteOf
 simp [noView,shape,Sem.run,hv,hsh,hs,h0,hc]
theorem Q51 {P:Program} {fuel:Nat} {t st idx xt f o byo:Nat} {name:String} {b s n1 n2:Nat} {w:World} {cs:Array Value} {e:TypeId} {fr:Nat×Nat} (hb:w.heap[b]? = some (.cells cs e fr)) {i:TypeInfo} (hi:P.info? t=some i) {m:Method} (hm:i.methods.find? (fun m=>m.name == name)=some m) (hp:m.path = #[⟨st,idx,true⟩]) (hf:m.func=some (f,false))
  {fields:Array Field} (hu:P.underlying st=some (.struct fields)) {fd:Field} (hfd:fields[idx]? = some fd) (ht:fd.type=xt) (ho:fd.offset=o) (hby:fd.byteOffset=byo) {fs:Array Field} (hx:P.underlying xt=some (.struct fs)) {j:TypeInfo} (hj:P.info? xt=some j) (hz:j.size=0)
  (hs:P.cellsOf e=s) (h0:s≠0) (hc:byteOfCell P P.depth e (0 % s)=some n1) (hc2:byteOfCell P P.depth e (o % s)=some n2) :
  (method (fuel + 1) t (.pointer (some ⟨b,0,none⟩)) name).run P w = .ok (f,.agg #[]) w:=by
 have b1:=Q9R (P:=P) (o:=0) hb hs h0 hc
 have b2:=Q9R (P:=P) (o:=o) hb hs h0 hc2
 unfold method
 simp only [Sem.run_bind,run_typeInfo _ hi,Result.andThen_ok,hm,hp,hf,follow,run_underlying hu,hfd,Place.get,asAddr,fieldPlace,partAt,sizeOf,ht,run_typeInfo _ hj,Sem.run_pure,if_true,hz,ho,hby,b1,b2,Nat.zero_add,receiverAt,run_underlying hx,loadVar,isAgg]
 rfl
theorem Q5q {P:Program} {st idx:Nat} {t o y:Nat} (h:((P.underlying st).bind fun d=>match d with | .struct fs=>fs[idx]? | _=>none).map (fun f=>(f.type,f.offset,f.byteOffset))=some (t,o,y)) :
  ∃ fs fd,P.underlying st=some (.struct fs)∧fs[idx]? = some fd∧fd.type=t∧fd.offset=o∧fd.byteOffset=y:=by
 cases hu:P.underlying st with
 | none=>rw [hu] at h;cases h
 | some d=>
  rw [hu] at h
  simp only [Option.bind_some] at h
  cases d with
  | struct fs=>
   simp only at h
   cases hf:fs[idx]? with
   | none=>rw [hf] at h;cases h
   | some fd=>
    rw [hf] at h
    simp only [Option.map_some,Option.some.injEq,Prod.mk.injEq] at h
    exact ⟨fs,fd,rfl,hf,h.1,h.2.1,h.2.2⟩
  | _=>cases h
theorem Q4y:∃ fs,Tryz.prog.underlying 203=some (.struct fs):=by
 have h:(Tryz.prog.underlying 203).map (fun d=>match d with | .struct _=>true | _=>false)=some true:=by kernel_rfl
 cases hu:Tryz.prog.underlying 203 with
 | none=>rw [hu] at h;cases h
 | some d=>
  rw [hu] at h
  cases d with
  | struct fs=>exact ⟨fs,rfl⟩
  | _=>cases h
def Q1j:DefL→List (List UInt8×Nat)
 | .const ..=>[]
 | .typedef d=>QP d.ty
 | .enum ..=>[]
 | .struct _ _ ms=>ms.flatMap fun d=>QP d.ty
 | .union _ _ _ arms=>arms.flatMap fun d=>QP d.2.ty
 | .prog _ _ vs _=>vs.flatMap Q0x
def Q0E:DefL→List (List UInt8×Nat)
 | .const ..=>[]
 | .typedef d=>Q00 d.ty
 | .enum ..=>[]
 | .struct _ _ ms=>ms.flatMap fun d=>Q00 d.ty
 | .union _ _ _ arms=>arms.flatMap fun d=>Q00 d.2.ty
 | .prog ..=>[]
def Q6r:DefL→Nat
 | .typedef ..=>250
 | .struct ..=>258
 | .union ..=>261
 | .prog ..=>265
 | _=>245
theorem Q99 (d:DefL) (args:Array Value) (w:World):(callFunc (Q6r d) args).run Tryz.prog w = .ok (.enter (Q6r d) args) w:=by cases d<;>kernel_rfl
def Q6s:DefL→Nat
 | .typedef ..=>249
 | .struct ..=>257
 | .union ..=>260
 | .prog ..=>264
 | _=>244
theorem Q5Z (d:DefL) (args:Array Value) (w:World):(callFunc (Q6s d) args).run Tryz.prog w = .ok (.enter (Q6s d) args) w:=by cases d<;>kernel_rfl
def defR (b:Nat):DefL→Value
 | .const ..=>.agg #[]
 | .enum ..=>.agg #[]
 | _=>.pointer (some ⟨b,0,none⟩)
theorem Q9S {bs : List (Nat × Obj)} {b : Nat} {d : DefL} {w : World} (hd : Q0o bs b d) (hh : ∀ p ∈ bs, w.heap[p.1]? = some p.2) (k : Nat) : (method (k + 1) (defT d) (.pointer (some ⟨b, 0, none⟩)) "Names").run Tryz.prog w = .ok (Q6r d, defR b d) w := by
 cases d with
 | const t a v=>
  obtain ⟨i, m, r1, r2, r3, r4⟩ := Q4j (P := Tryz.prog) (t := 176) (name := "Names") (p := #[⟨272, 1, true⟩]) (f := some (245, false)) (by kernel_rfl)
  obtain ⟨fs,fd,s1,s2,s3,s4,s5⟩:=Q5q (P:=Tryz.prog) (st:=272) (idx:=1) (t:=203) (o:=2) (y:=24) (by kernel_rfl)
  obtain ⟨gs,g1⟩:=Q4y
  obtain ⟨j,j1,j2⟩:=Q35 (P:=Tryz.prog) (t:=203) (n:=0) (by kernel_rfl)
  exact Q51 (s:=3) (n1:=0) (n2:=24) (hh _ hd) r1 r2 r3 r4 s1 s2 s3 s4 s5 g1 j1 j2 (by kernel_rfl) (by omega) (by kernel_rfl) (by kernel_rfl)
 | enum t a ms=>
  obtain ⟨sl,ps,h1,_⟩:=hd
  obtain ⟨i, m, r1, r2, r3, r4⟩ := Q4j (P := Tryz.prog) (t := 180) (name := "Names") (p := #[⟨206, 1, true⟩]) (f := some (245, false)) (by kernel_rfl)
  obtain ⟨fs,fd,s1,s2,s3,s4,s5⟩:=Q5q (P:=Tryz.prog) (st:=206) (idx:=1) (t:=203) (o:=2) (y:=24) (by kernel_rfl)
  obtain ⟨gs,g1⟩:=Q4y
  obtain ⟨j,j1,j2⟩:=Q35 (P:=Tryz.prog) (t:=203) (n:=0) (by kernel_rfl)
  exact Q51 (s:=3) (n1:=0) (n2:=24) (hh _ h1) r1 r2 r3 r4 s1 s2 s3 s4 s5 g1 j1 j2 (by kernel_rfl) (by omega) (by kernel_rfl) (by kernel_rfl)
 | typedef d=>kernel_rfl
 | struct t a ms=>kernel_rfl
 | union t a s ar=>kernel_rfl
 | prog t a vs n=>kernel_rfl
theorem Q6t {bs : List (Nat × Obj)} {b : Nat} {d : DefL} {w : World} (hd : Q0o bs b d) (hh : ∀ p ∈ bs, w.heap[p.1]? = some p.2) (k : Nat) : (method (k + 1) (defT d) (.pointer (some ⟨b, 0, none⟩)) "Leads").run Tryz.prog w = .ok (Q6s d, defR b d) w := by
 cases d with
 | const t a v=>
  obtain ⟨i, m, r1, r2, r3, r4⟩ := Q4j (P := Tryz.prog) (t := 176) (name := "Leads") (p := #[⟨272, 1, true⟩]) (f := some (244, false)) (by kernel_rfl)
  obtain ⟨fs,fd,s1,s2,s3,s4,s5⟩:=Q5q (P:=Tryz.prog) (st:=272) (idx:=1) (t:=203) (o:=2) (y:=24) (by kernel_rfl)
  obtain ⟨gs,g1⟩:=Q4y
  obtain ⟨j,j1,j2⟩:=Q35 (P:=Tryz.prog) (t:=203) (n:=0) (by kernel_rfl)
  exact Q51 (s:=3) (n1:=0) (n2:=24) (hh _ hd) r1 r2 r3 r4 s1 s2 s3 s4 s5 g1 j1 j2 (by kernel_rfl) (by omega) (by kernel_rfl) (by kernel_rfl)
 | enum t a ms=>
  obtain ⟨sl,ps,h1,_⟩:=hd
  obtain ⟨i, m, r1, r2, r3, r4⟩ := Q4j (P := Tryz.prog) (t := 180) (name := "Leads") (p := #[⟨206, 1, true⟩]) (f := some (244, false)) (by kernel_rfl)
  obtain ⟨fs,fd,s1,s2,s3,s4,s5⟩:=Q5q (P:=Tryz.prog) (st:=206) (idx:=1) (t:=203) (o:=2) (y:=24) (by kernel_rfl)
  obtain ⟨gs,g1⟩:=Q4y
  obtain ⟨j,j1,j2⟩:=Q35 (P:=Tryz.prog) (t:=203) (n:=0) (by kernel_rfl)
  exact Q51 (s:=3) (n1:=0) (n2:=24) (hh _ h1) r1 r2 r3 r4 s1 s2 s3 s4 s5 g1 j1 j2 (by kernel_rfl) (by omega) (by kernel_rfl) (by kernel_rfl)
 | typedef d=>kernel_rfl
 | struct t a ms=>kernel_rfl
 | union t a s ar=>kernel_rfl
 | prog t a vs n=>kernel_rfl
theorem Qbg {τ:Type} {T:Tell τ} {t:τ} {w:World} (b:Nat) (h:T.J t w):Calls Tryz.prog 264 #[.pointer (some ⟨b,0,none⟩),T.v] w (Q0M T w (.ok t)):=by
 go_enter Tryz.func264,Tryz.ntmps264
 go_wp2
 go_end0
 exact Or.inl ⟨t,rfl,rfl,h,Qb.refl _ _⟩
theorem Qcg {τ:Type} {T:Tell τ} (hT:Q20 T) {bs:List (Nat×Obj)} {b:Nat} {d:DefL} (hok:∀ n∈Q1j d,T.ok n) (hd:Q0o bs b d) (hJ:∀ {t:τ} {u:World},T.J t u→∀ p∈bs,u.heap[p.1]? = some p.2) {t:τ} {w:World} (h:T.J t w) :
  Calls Tryz.prog (Q6r d) #[defR b d,T.v] w (Q0M T w (Qo T (Q1j d) t)):=by
 cases d with
 | const t a v=>exact Q28 hT h
 | enum t a ms=>exact Q28 hT h
 | typedef d=>exact Q97 hT hok hd hJ h
 | struct t a ms=>exact Q9P hT hok hd hJ h
 | union t a s ar=>exact Qaq hT hok hd hJ h
 | prog t a vs n=>exact Qbf hT hok hd hJ h
theorem Q82 {τ:Type} {T:Tell τ} (hT:Q20 T) {bs:List (Nat×Obj)} {b:Nat} {d:DefL} (hok:∀ n∈Q0E d,T.ok n) (hd:Q0o bs b d) (hJ:∀ {t:τ} {u:World},T.J t u→∀ p∈bs,u.heap[p.1]? = some p.2) {t:τ} {w:World} (h:T.J t w) :
  Calls Tryz.prog (Q6s d) #[defR b d,T.v] w (Q0M T w (Qo T (Q0E d) t)):=by
 cases d with
 | const t a v=>exact Q29 hT h
 | enum t a ms=>exact Q29 hT h
 | typedef d=>exact Q98 hT hok hd hJ h
 | struct t a ms=>exact Q9Q hT hok hd hJ h
 | union t a s ar=>exact Qar hT hok hd hJ h
 | prog t a vs n=>exact Qbg b h
def Q0A:DefL→Bool
 | .typedef ..=>true
 | .enum ..=>true
 | .struct ..=>true
 | .union ..=>true
 | _=>false
def Q5G:Option DefL→Bool
 | some d=>Q0A d
 | none=>false
theorem QeL {bs:List (Nat×Obj)} {v:Value} {o:Option DefL} (hv:Q1z bs v o) (w:World):Calls Tryz.prog 93 #[v] w fun e w'=>e = .returned (.bool (Q5G o))∧w'=w:=by
 cases o with
 | none=>
  have hv:v = .nilIface:=hv
  subst hv
  have t1:∀ W,(Instr.typeAssert .nilIface 113 178 true).run Tryz.prog W = .ok (.tuple #[.pointer none,.bool false]) W:=fun W=>by kernel_rfl
  have t2:∀ W,(Instr.typeAssert .nilIface 113 180 true).run Tryz.prog W = .ok (.tuple #[.pointer none,.bool false]) W:=fun W=>by kernel_rfl
  have t3:∀ W,(Instr.typeAssert .nilIface 113 182 true).run Tryz.prog W = .ok (.tuple #[.pointer none,.bool false]) W:=fun W=>by kernel_rfl
  have t4:∀ W,(Instr.typeAssert .nilIface 113 184 true).run Tryz.prog W = .ok (.tuple #[.pointer none,.bool false]) W:=fun W=>by kernel_rfl
  go_enter Tryz.func93,Tryz.ntmps93
  go_wp2
  go_ret
  exact ⟨rfl,rfl⟩
 | some d=>
  obtain ⟨b,rfl,_⟩:=hv
  cases d with
  | const t a v=>
   dsimp only [defT]
   have t1:∀ W,(Instr.typeAssert (.iface 176 (.pointer (some ⟨b,0,none⟩))) 113 178 true).run Tryz.prog W = .ok (.tuple #[.pointer none,.bool false]) W:=fun W=>by kernel_rfl
   have t2:∀ W,(Instr.typeAssert (.iface 176 (.pointer (some ⟨b,0,none⟩))) 113 180 true).run Tryz.prog W = .ok (.tuple #[.pointer none,.bool false]) W:=fun W=>by kernel_rfl
   have t3:∀ W,(Instr.typeAssert (.iface 176 (.pointer (some ⟨b,0,none⟩))) 113 182 true).run Tryz.prog W = .ok (.tuple #[.pointer none,.bool false]) W:=fun W=>by kernel_rfl
   have t4:∀ W,(Instr.typeAssert (.iface 176 (.pointer (some ⟨b,0,none⟩))) 113 184 true).run Tryz.prog W = .ok (.tuple #[.pointer none,.bool false]) W:=fun W=>by kernel_rfl
   go_enter Tryz.func93,Tryz.ntmps93
   go_wp2
   go_ret
   exact ⟨rfl,rfl⟩
  | typedef d=>
   dsimp only [defT]
   have t1:∀ W,(Instr.typeAssert (.iface 178 (.pointer (some ⟨b,0,none⟩))) 113 178 true).run Tryz.prog W = .ok (.tuple #[.pointer (some ⟨b,0,none⟩),.bool true]) W:=fun W=>by kernel_rfl
   have t2:∀ W,(Instr.typeAssert (.iface 178 (.pointer (some ⟨b,0,none⟩))) 113 180 true).run Tryz.prog W = .ok (.tuple #[.pointer none,.bool false]) W:=fun W=>by kernel_rfl
   have t3:∀ W,(Instr.typeAssert (.iface 178 (.pointer (some ⟨b,0,none⟩))) 113 182 true).run Tryz.prog W = .ok (.tuple #[.pointer none,.bool false]) W:=fun W=>by kernel_rfl
   have t4:∀ W,(Instr.typeAssert (.iface 178 (.pointer (some ⟨b,0,none⟩))) 113 184 true).run Tryz.prog W = .ok (.tuple #[.pointer none,.bool false]) W:=fun W=>by kernel_rfl
   go_enter Tryz.func93,Tryz.ntmps93
   go_wp2
   go_ret
   exact ⟨rfl,rfl⟩
  | enum t a ms=>
   dsimp only [defT]
   have t1:∀ W,(Instr.typeAssert (.iface 180 (.pointer (some ⟨b,0,none⟩))) 113 178 true).run Tryz.prog W = .ok (.tuple #[.pointer none,.bool false]) W:=fun W=>by kernel_rfl
   have t2:∀ W,(Instr.typeAssert (.iface 180 (.pointer (some ⟨b,0,none⟩))) 113 180 true).run Tryz.prog W = .ok (.tuple #[.pointer (some ⟨b,0,none⟩),.bool true]) W:=fun W=>by kernel_rfl
   have t3:∀ W,(Instr.typeAssert (.iface 180 (.pointer (some ⟨b,0,none⟩))) 113 182 true).run Tryz.prog W = .ok (.tuple #[.pointer none,.bool false]) W:=fun W=>by kernel_rfl
   have t4:∀ W,(Instr.typeAssert (.iface 180 (.pointer (some ⟨b,0,none⟩))) 113 184 true).run Tryz.prog W = .ok (.tuple #[.pointer none,.bool false]) W:=fun W=>by kernel_rfl
   go_enter Tryz.func93,Tryz.ntmps93
   go_wp2
   go_ret
   exact ⟨rfl,rfl⟩
  | struct t a ms=>
   dsimp only [defT]
   have t1:∀ W,(Instr.typeAssert (.iface 182 (.pointer (some ⟨b,0,none⟩))) 113 178 true).run Tryz.prog W = .ok (.tuple #[.pointer none,.bool false]) W:=fun W=>by kernel_rfl
   have t2:∀ W,(Instr.typeAssert (.iface 182 (.pointer (some ⟨b,0,none⟩))) 113 180 true).run Tryz.prog W = .ok (.tuple #[.pointer none,.bool false]) W:=fun W=>by kernel_rfl
   have t3:∀ W,(Instr.typeAssert (.iface 182 (.pointer (some ⟨b,0,none⟩))) 113 182 true).run Tryz.prog W = .ok (.tuple #[.pointer (some ⟨b,0,none⟩),.bool true]) W:=fun W=>by kernel_rfl
   have t4:∀ W,(Instr.typeAssert (.iface 182 (.pointer (some ⟨b,0,none⟩))) 113 184 true).run Tryz.prog W = .ok (.tuple #[.pointer none,.bool false]) W:=fun W=>by kernel_rfl
   go_enter Tryz.func93,Tryz.ntmps93
   go_wp2
   go_ret
   exact ⟨rfl,rfl⟩
  | union t a se ar=>
   dsimp only [defT]
   have t1:∀ W,(Instr.typeAssert (.iface 184 (.pointer (some ⟨b,0,none⟩))) 113 178 true).run Tryz.prog W = .ok (.tuple #[.pointer none,.bool false]) W:=fun W=>by kernel_rfl
   have t2:∀ W,(Instr.typeAssert (.iface 184 (.pointer (some ⟨b,0,none⟩))) 113 180 true).run Tryz.prog W = .ok (.tuple #[.pointer none,.bool false]) W:=fun W=>by kernel_rfl
   have t3:∀ W,(Instr.typeAssert (.iface 184 (.pointer (some ⟨b,0,none⟩))) 113 182 true).run Tryz.prog W = .ok (.tuple #[.pointer none,.bool false]) W:=fun W=>by kernel_rfl
   have t4:∀ W,(Instr.typeAssert (.iface 184 (.pointer (some ⟨b,0,none⟩))) 113 184 true).run Tryz.prog W = .ok (.tuple #[.pointer (some ⟨b,0,none⟩),.bool true]) W:=fun W=>by kernel_rfl
   go_enter Tryz.func93,Tryz.ntmps93
   go_wp2
   go_ret
   exact ⟨rfl,rfl⟩
  | prog t a vs n=>
   dsimp only [defT]
   have t1:∀ W,(Instr.typeAssert (.iface 186 (.pointer (some ⟨b,0,none⟩))) 113 178 true).run Tryz.prog W = .ok (.tuple #[.pointer none,.bool false]) W:=fun W=>by kernel_rfl
   have t2:∀ W,(Instr.typeAssert (.iface 186 (.pointer (some ⟨b,0,none⟩))) 113 180 true).run Tryz.prog W = .ok (.tuple #[.pointer none,.bool false]) W:=fun W=>by kernel_rfl
   have t3:∀ W,(Instr.typeAssert (.iface 186 (.pointer (some ⟨b,0,none⟩))) 113 182 true).run Tryz.prog W = .ok (.tuple #[.pointer none,.bool false]) W:=fun W=>by kernel_rfl
   have t4:∀ W,(Instr.typeAssert (.iface 186 (.pointer (some ⟨b,0,none⟩))) 113 184 true).run Tryz.prog W = .ok (.tuple #[.pointer none,.bool false]) W:=fun W=>by kernel_rfl
   go_enter Tryz.func93,Tryz.ntmps93
   go_wp2
   go_ret
   exact ⟨rfl,rfl⟩
def Q2h (σ:St) (n:List UInt8×Nat):Except Mar.Fault Unit:=match look σ.names n.1 with
 | some o=>if Q5G o then .ok () else .error ⟨7,n.2⟩
 | none=>.error ⟨7,n.2⟩
def Q0R (A:Ad) (text:ByteArray) (σ:St) (bs:List (Nat×Obj)) (rb:Nat):Tell Unit where
 f:=92
 pre:=#[]
 post:=#[.pointer (some ⟨rb,0,none⟩)]
 run:=fun n _=>Q2h σ n
 J:=fun _ u=>Rd A text σ u∧u.heap[rb]? = some (.cells #[.pointer (some ⟨A.R,0,none⟩)] 101)∧Held A.X bs u
 M:=[]
 ok:=fun _=>True
theorem Qdp {A:Ad} {text:ByteArray} {σ:St} {bs:List (Nat×Obj)} {rb:Nat} {W:World} (n:List UInt8×Nat) (h:(Q0R A text σ bs rb).J () W) :
  Calls Tryz.prog 92 #[Q1q n,.pointer (some ⟨rb,0,none⟩)] W (Q0M (Q0R A text σ bs rb) W (Q2h σ n)):=by
 obtain ⟨hr,hb,hh⟩:=h
 have hbl:=((Below.refl W.heap.size W).alloc (Nat.le_refl _) (.cells #[.string ⟨n.1.toArray⟩,.int .i64 n.2] 116)).drew
 have hr1:=hr.below hbl
 obtain ⟨c0,c1,c2,c3,c4,hfr⟩:=hr.cells
 have hlr:=hr.lt.1
 have hlb:=Qc hb
 have b0:=Qv hb
 have hv:=Qg (w:=W) (o:=.cells #[.string ⟨n.1.toArray⟩,.int .i64 n.2] 116) rfl
 obtain ⟨n0,n1,_⟩:=Q3g hv
 have key:∃ v o bs',(Instr.lookup 104 (.map (some A.N)) (.string ⟨n.1.toArray⟩) false).run Tryz.prog ((W.alloc (.cells #[.string ⟨n.1.toArray⟩,.int .i64 n.2] 116)).drew) = .ok v ((W.alloc (.cells #[.string ⟨n.1.toArray⟩,.int .i64 n.2] 116)).drew)∧Q1z bs' v o∧Q2h σ n=if Q5G o then .ok () else .error ⟨7,n.2⟩:=by
  rcases Q5j hr1.nm n.1 false with ⟨hl,hrun⟩ | ⟨o,v,bs',hl,_,hent,hrun⟩
  ·simp only [Bool.false_eq_true,if_false] at hrun
   exact ⟨.nilIface,none,[],hrun,rfl,by simp only [Q2h,hl,Q5G];rfl⟩
  ·simp only [Bool.false_eq_true,if_false] at hrun
   exact ⟨v,o,bs',hrun,hent,by simp only [Q2h,hl]⟩
 obtain ⟨v,o,bs',hrun,hent,hlk⟩:=key
 have HE:=Hid.mk hent
 have HL:=Hid.mk hlk
 have HJ:Hid ((Q0R A text σ bs rb).J () ((W.alloc (.cells #[.string ⟨n.1.toArray⟩,.int .i64 n.2] 116)).drew)):=⟨hr1,(hbl.block _ hlb).trans hb,hh.keeps (Qb.of_below [] hbl) (by simp)⟩
 have hne1:¬ A.R=W.heap.size:=by omega
 have hne2:¬ rb=W.heap.size:=by omega
 clear hr hb hh hbl hr1 hent hlk hv
 dsimp only [Q1q]
 go_enter Tryz.func92,Tryz.ntmps92
 go_wp2_with fail
 go_region_held2 (fun w'=>w'.cell? ⟨rb,0,none⟩=some (.pointer (some ⟨A.R,0,none⟩))∧w'.cell? ⟨A.R,1,none⟩=some (.map (some A.N))∧w'.cell? ⟨W.heap.size,0,none⟩=some (.string ⟨n.1.toArray⟩)) (go_keep)
  (first | (go_at_call 93;refine (QeL HE.out _).mono ?_;rintro e w' ⟨rfl,rfl⟩))
 all_goals
  cases ho:Q5G o with
  | true=>
   go_wp2
   go_end0
   exact Or.inl ⟨(),by rw [HL.out,ho];rfl,rfl,HJ.out,((Qb.refl _ W).alloc _).drew⟩
  | false=>
   go_wp2_with (go_at_call 47;refine (QY _ _ _).mono ?_;rintro e w' ⟨rfl,rfl⟩)
   exact Qa (Or.inr ⟨⟨7,n.2⟩,by rw [HL.out,ho];rfl,(((Qb.refl _ W).alloc _).drew).alloc _,W.heap.size + 1,by omega,rfl,Qg (by simp)⟩)
theorem Qgg (args:Array Value) (u:World):(callFunc 92 args).run Tryz.prog u = .ok (.enter 92 args) u:=by kernel_rfl
theorem Qjg (A:Ad) (text:ByteArray) (σ:St) (bs:List (Nat×Obj)) (rb:Nat):Q20 (Q0R A text σ bs rb) where
 enters:=Qgg
 old:=by intro t w _ m hm;cases hm
 stable:=by
  rintro t w w' ⟨h1,h2,h3⟩ hb
  exact ⟨h1.below hb,(hb.block _ (Qc h2)).trans h2,h3.keeps (Qb.of_below [] hb) (by simp)⟩
 call:=fun n _ h=>Qdp n h
abbrev Q1D (ds:List DefL) (ps:List Nat):List Value:=(ds.zip ps).map fun p=>Value.iface (defT p.1) (.pointer (some ⟨p.2,0,none⟩))
structure Q2v (bs:List (Nat×Obj)) (sl:Value) (ds:List DefL) (ps:List Nat):Prop where
 len:ps.length=ds.length
 row:Q0u bs 113 sl ds.length (Q1D ds ps)
 each:∀ i (h:i < ds.length) (h':i < ps.length),Q0o bs ps[i] ds[i]
def Q3K (σ:St) (ds:List DefL):Except Mar.Fault Unit:=Qo (Q0R ⟨0,0,0,0,[]⟩ ⟨#[]⟩ σ [] 0) (ds.flatMap Q1j) ()
theorem QeM (A:Ad) (text:ByteArray) (σ:St) (bs:List (Nat×Obj)) (rb:Nat):∀ (ns:List (List UInt8×Nat)) (u:Unit),Qo (Q0R A text σ bs rb) ns u=Qo (Q0R ⟨0,0,0,0,[]⟩ ⟨#[]⟩ σ [] 0) ns u:=by
 intro ns
 induction ns with
 | nil=>intro u;rfl
 | cons n ns ih=>
  intro u
  simp only [Qo]
  have e1:(Q0R A text σ bs rb).run n u=Q2h σ n:=rfl
  have e2:(Q0R ⟨0,0,0,0,[]⟩ ⟨#[]⟩ σ [] 0).run n u=Q2h σ n:=rfl
  rw [e1,e2]
  cases Q2h σ n with
  | ok t'=>exact ih t'
  | error f=>rfl
theorem Q9T {A:Ad} {text:ByteArray} {σ:St} {bs:List (Nat×Obj)} {sl:Value} {ds:List DefL} {ps:List Nat} {w:World} (h:Rd A text σ w) (hh:Held A.X bs w) (hds:Q2v bs sl ds ps) :
  Calls Tryz.prog 51 #[.pointer (some ⟨A.R,0,none⟩),sl] w fun e w'=>(Q3K σ ds = .ok ()∧e = .returned (.tuple #[])∧Qb [] w w')∨(∃ f,Q3K σ ds = .error f∧Qb [] w w'∧Q0c w f.no f.at' e w'):=by
 have hmf:∀ (fn:Fn) (first cap:Array Value) (w:World),(Instr.makeFunc fn first cap).run Tryz.prog w = .ok (.func fn first cap) w:=fun _ _ _ _=>rfl
 have hbl:=(Below.refl w.heap.size w).alloc (Nat.le_refl _) (.cells #[.pointer (some ⟨A.R,0,none⟩)] 101)
 have hT:=Qjg A text σ bs w.heap.size
 have hJ:∀ (u:World),(Q0R A text σ bs w.heap.size).J () u→∀ p∈bs,u.heap[p.1]? = some p.2:=fun u hu p hp=>(hu.2.2 p hp).1
 have J0:Hid ((Q0R A text σ bs w.heap.size).J () (w.alloc (.cells #[.pointer (some ⟨A.R,0,none⟩)] 101))):=⟨h.below hbl,Qg rfl,hh.keeps (Qb.of_below [] hbl) (by simp)⟩
 have hle:Q3K σ ds=Qo (Q0R A text σ bs w.heap.size) (ds.flatMap Q1j) ():=(QeM _ _ _ _ _ _ _).symm
 rw [hle]
 have HT:=Hid.mk hT
 have HJ:=Hid.mk hJ
 obtain ⟨hpl,hrow,hea⟩:=hds
 have HEA:=Hid.mk hea
 have HPL:=Hid.mk hpl
 clear h hh hbl hT hle hea hpl
 rcases hrow with ⟨rfl,h0,_⟩ | ⟨g,cap,cur,rfl,⟨hcap,hms⟩,hg,htake⟩
 ·have hnil:ds=[]:=List.length_eq_zero_iff.1 h0
  subst hnil
  clear hJ
  go_enter Tryz.func51,Tryz.ntmps51
  go_wp2
  go_loopw [8] (fun i ur=>i = .int .i64 0∧ur=w.alloc (.cells #[.pointer (some ⟨A.R,0,none⟩)] 101)) (fun _ _=>0)
  case atStart=>exact ⟨rfl,rfl⟩
  case round=>
   obtain ⟨rfl,rfl⟩:=hrel
   go_wp2
   go_end0
   exact Or.inl ⟨rfl,rfl,(Qb.refl _ w).alloc _⟩
 ·have hrw:∀ (u:World),(Q0R A text σ bs w.heap.size).J () u→∀ i (hi:i < ds.length) (hi':i < ps.length),u.cell? ⟨g,i,none⟩=some (.iface (defT ds[i]) (.pointer (some ⟨ps[i],0,none⟩))):=by
   intro u hu i hi hi'
   refine Qs (hJ _ hu _ hg) htake ?_
   have hz:i < (Q1D ds ps).length:=by simp;omega
   rw [List.getElem?_eq_getElem hz]
   simp
  have HR:=Hid.mk hrw
  clear hrw hJ
  go_enter Tryz.func51,Tryz.ntmps51
  go_wp2
  go_loopw [8] (fun i ur=>∃ (k:Nat),i = .int .i64 k∧k≤ds.length∧Hid ((Q0R A text σ bs w.heap.size).J () ur)∧Qb [] w ur∧Hid (Qo (Q0R A text σ bs w.heap.size) (ds.flatMap Q1j) ()=Qo (Q0R A text σ bs w.heap.size) ((ds.drop k).flatMap Q1j) ())) (fun i _=>ds.length - (intOf i).toNat)
  case atStart=>exact ⟨0,rfl,by omega,J0,(Qb.refl _ w).alloc _,rfl⟩
  case round=>
   obtain ⟨k,rfl,hk,J,hz,E⟩:=hrel
   clear J0
   rcases Nat.lt_or_ge k ds.length with hlt | hge
   ·have hlt':k < ps.length:=by have:=HPL.out;omega
    have q0:=HR.out _ J.out k hlt hlt'
    have hnc:=Q9S (HEA.out k hlt hlt') (HJ.out _ J.out)
    have hen:=Q99 ds[k]
    have hi0:(0:Int)≤↑k:=by omega
    have hi1:(↑k:Int) < ↑ds.length:=by omega
    have ED:Hid (Qo (Q0R A text σ bs w.heap.size) (ds.flatMap Q1j) ()=Qo (Q0R A text σ bs w.heap.size) (Q1j ds[k]++(ds.drop (k + 1)).flatMap Q1j) ()):=by
     refine E.out.trans ?_
     rw [List.drop_eq_getElem_cons hlt,List.flatMap_cons]
    have HN:=Hid.mk (Qcg HT.out (fun _ _=>trivial) (HEA.out k hlt hlt') (fun hu=>HJ.out _ hu) J.out)
    clear E
    go_wp2_with fail
    refine HN.out.mono ?_
    rintro e w2 (⟨t2,hx,rfl,hj,hz2⟩ | ⟨f,hx,hkE,b2,hbb,rfl,hcell⟩)
    rotate_left
    ·exact (show bodyPost Tryz.prog Tryz.f51 (fun e w'=>(Qo (Q0R A text σ bs w.heap.size) (ds.flatMap Q1j) () = .ok ()∧e = .returned (.tuple #[])∧Qb [] w w')∨(∃ f,Qo (Q0R A text σ bs w.heap.size) (ds.flatMap Q1j) () = .error f∧Qb [] w w'∧Q0c w f.no f.at' e w')) (Exit.panic _) _ w2 from Qa (Or.inr ⟨f,ED.out.trans (Q2G hx),hz.trans hkE,b2,by have:=hz.size;omega,rfl,hcell⟩))
    have J2:=Hid.mk hj
    have E2:Hid (Qo (Q0R A text σ bs w.heap.size) (ds.flatMap Q1j) ()=Qo (Q0R A text σ bs w.heap.size) ((ds.drop (k + 1)).flatMap Q1j) ()):=ED.out.trans (Q37 hx)
    have hz3:Qb [] w w2:=hz.trans hz2
    clear hj hx ED hz2
    go_wp2
    exact ⟨⟨k + 1,by go_num,by omega,J2,hz3,E2⟩,by simp [intOf];omega⟩
   ·have hkk:k=ds.length:=by omega
    subst hkk
    have hfin:Qo (Q0R A text σ bs w.heap.size) (ds.flatMap Q1j) () = .ok ():=by
     refine E.out.trans ?_
     rw [List.drop_length]
     rfl
    have HF:=Hid.mk hfin
    clear E hfin
    go_wp2
    go_end0
    exact Or.inl ⟨HF.out,rfl,hz⟩
def Q3Z (X:List Nat) (N:Nat) (l:List (List UInt8×Option DefL)) (bs:List (Nat×Obj)) (vs:List Value) (w:World):Prop:=
 (l.map (·.1)).Nodup∧Held X bs w∧vs.length=l.length∧w.heap[N]? = some (Q48 (l.zip vs |>.map fun p=>(p.1.1,p.2)))∧∀ i (h:i < l.length) (h':i < vs.length),Q1z bs vs[i] l[i].2
theorem Q3Z.keeps {X:List Nat} {N:Nat} {l:List (List UInt8×Option DefL)} {bs:List (Nat×Obj)} {vs:List Value} {w w':World} {M:List Nat} (h:Q3Z X N l bs vs w) (hk:Qb M w w') (hM:∀ m∈M,m∈X) (hN:N ∉ M):Q3Z X N l bs vs w':=by
 obtain ⟨nd,h1,h2,h3,h4⟩:=h
 exact ⟨nd,h1.keeps hk hM,h2,(hk.block _ (Qc h3) hN).trans h3,h4⟩
theorem Qdq {X:List Nat} {N:Nat} {l:List (List UInt8×Option DefL)} {bs:List (Nat×Obj)} {vs:List Value} {w:World} (h:Q3Z X N l bs vs w) (k:List UInt8) {o:Option DefL} (ho:look l k=some o) :
  ∃ v,Q1z bs v o∧(Instr.lookup 104 (.map (some N)) (.string ⟨k.toArray⟩) false).run Tryz.prog w = .ok v w:=by
 obtain ⟨nd,h1,h2,h3,h4⟩:=h
 have hk:IsKey .string (.string ⟨k.toArray⟩):=trivial
 have hes:=Q3F (l.zip vs |>.map fun p=>(p.1.1,p.2))
 have hz:(zeroValue 113).run Tryz.prog w = .ok .nilIface w:=by kernel_rfl
 rcases Q5Q (P:=Tryz.prog) (T:=104) (kt:=9) (et:=113) (d:=.string) (by kernel_rfl) (by kernel_rfl) hk h3 (by simpa using hes) hz false with ⟨g1,g2⟩ | ⟨j,e,g1,g2,g3⟩
 ·exfalso
  obtain ⟨p,hp,e,_⟩:=Q90 ho
  obtain ⟨i,hi,rfl⟩:=List.getElem_of_mem hp
  have hi':i < vs.length:=by omega
  have hm:(⟨.string ⟨l[i].1.toArray⟩,vs[i],i⟩:MapEntry)∈((l.zip vs |>.map fun p=>(p.1.1,p.2)).mapIdx fun i p=>(⟨.string ⟨p.1.toArray⟩,p.2,i⟩:MapEntry)).toArray.toList:=by
   simp only [List.toList_toArray]
   rw [List.mem_mapIdx]
   exact ⟨i,by simp;omega,by simp⟩
  exact g1 _ hm (by rw [e])
 ·simp only [List.toList_toArray,List.getElem?_mapIdx] at g1
  have hj:j < l.length:=by
   by_cases hj:j < l.length
   ·exact hj
   ·rw [List.getElem?_eq_none (by simp;omega)] at g1
    cases g1
  have hj':j < vs.length:=by omega
  rw [List.getElem?_eq_getElem (by simp;omega)] at g1
  simp at g1
  subst g1
  simp at g2 g3
  have e2:=Q7P nd (List.getElem_mem hj) g2
  rw [ho] at e2
  cases e2
  exact ⟨vs[j],h4 j hj hj',by simpa using g3⟩
def Q2T (σ:St) (t:List (List UInt8)):Nat:=σ.names.countP fun p=>!t.contains p.1
theorem Qdr {t:List (List UInt8)} {n:List UInt8} (hn:n ∉ t):∀ (l:List (List UInt8×Option DefL)),l.countP (fun p=>!(t++[n]).contains p.1)≤l.countP (fun p=>!t.contains p.1)∧((∃ p∈l,p.1=n)→l.countP (fun p=>!(t++[n]).contains p.1) < l.countP (fun p=>!t.contains p.1)):=by
 intro l
 induction l with
 | nil=>exact ⟨by simp,by rintro ⟨p,hp,_⟩;cases hp⟩
 | cons x l ih=>
  obtain ⟨i1,i2⟩:=ih
  by_cases hx:x.1=n
  ·have h1:(!(t++[n]).contains x.1)=false:=by simp [hx]
   have h2:(!t.contains x.1)=true:=by rw [hx];simpa using hn
   rw [List.countP_cons_of_neg (by show ¬ ((!(t++[n]).contains x.1)=true);rw [h1];simp),List.countP_cons_of_pos (by exact h2)]
   exact ⟨by omega,fun _=>by omega⟩
  ·have h1:(!(t++[n]).contains x.1)=(!t.contains x.1):=by simp [hx]
   rw [List.countP_cons,List.countP_cons,h1]
   refine ⟨by omega,?_⟩
   rintro ⟨p,hp,e⟩
   rcases List.mem_cons.1 hp with rfl | hp
   ·exact absurd e hx
   ·have:=i2 ⟨p,hp,e⟩
    omega
theorem Qas {σ:St} {t:List (List UInt8)} {n:List UInt8} {o:Option DefL} (hn:n ∉ t) (ho:look σ.names n=some o):Q2T σ (t++[n]) < Q2T σ t:=by
 obtain ⟨p,hp,e,_⟩:=Q90 ho
 exact (Qdr hn σ.names).2 ⟨p,hp,e⟩
def QdY (σ:St) (n:List UInt8):List (List UInt8×Nat):=match look σ.names n with
 | some (some d)=>Q0E d
 | _=>[]
def follow (σ:St):Nat→List UInt8→List (List UInt8)→List (List UInt8)
 | 0,_,t=>t
 | k + 1,n,t=>if t.contains n then t else (QdY σ n).foldl (fun t m=>follow σ k m.1 t) (t++[n])
theorem Qgh {σ:St} {k:Nat} {n:List UInt8} {t:List (List UInt8)} (h:n∈t):follow σ k n t=t:=by
 cases k with
 | zero=>rfl
 | succ k=>simp only [follow];rw [if_pos (by simpa using h)]
theorem QeN {σ:St} {k:Nat} {n:List UInt8} {t:List (List UInt8)} {d:DefL} (h:n ∉ t) (hd:look σ.names n=some (some d)):follow σ (k + 1) n t=(Q0E d).foldl (fun t m=>follow σ k m.1 t) (t++[n]):=by
 simp only [follow,QdY,hd]
 rw [if_neg (by simpa using h)]
structure FwAd where
 qb:Nat
 rb:Nat
 fb:Nat
 q:Nat
def FwAd.V (a:FwAd):Value:=.func (.func 139) #[] #[.pointer (some ⟨a.qb,0,none⟩),.pointer (some ⟨a.rb,0,none⟩),.pointer (some ⟨a.fb,0,none⟩)]
structure FwJ (A:Ad) (text:ByteArray) (σ:St) (bs:List (Nat×Obj)) (vs:List Value) (a:FwAd) (k:Nat) (t:List (List UInt8)) (u:World):Prop where
 rd:Rd A text σ u
 nw:Q3Z A.X A.N σ.names bs vs u
 vq:u.heap[a.qb]? = some (.cells #[.map (some a.q)] 64)
 vr:u.heap[a.rb]? = some (.cells #[.pointer (some ⟨A.R,0,none⟩)] 101)
 vf:u.heap[a.fb]? = some (.cells #[a.V] 190)
 set:Q0l a.q t u
 free:Free A a.q
 few:Q2T σ t≤k
theorem FwJ.apart {A:Ad} {text:ByteArray} {σ:St} {bs:List (Nat×Obj)} {vs:List Value} {a:FwAd} {k:Nat} {t:List (List UInt8)} {u:World} (h:FwJ A text σ bs vs a k t u):a.qb≠a.q∧a.rb≠a.q∧a.fb≠a.q:=by
 obtain ⟨_,vs',_,hm⟩:=h.set
 have v1:=h.vq
 have v2:=h.vr
 have v3:=h.vf
 unfold Q48 at hm
 refine ⟨?_,?_,?_⟩
 ·intro e;rw [e,hm] at v1;cases v1
 ·intro e;rw [e,hm] at v2;cases v2
 ·intro e;rw [e,hm] at v3;cases v3
theorem FwJ.turn {A:Ad} {text:ByteArray} {σ:St} {bs:List (Nat×Obj)} {vs:List Value} {a:FwAd} {k k':Nat} {t t':List (List UInt8)} {u u':World} (h:FwJ A text σ bs vs a k t u) (hk:Qb [a.q] u u') (hs:Q0l a.q t' u') (hf:Q2T σ t'≤k'):FwJ A text σ bs vs a k' t' u':=by
 obtain ⟨n1,n2,n3⟩:=h.apart
 obtain ⟨_,vs',_,hm⟩:=id h.set
 refine ⟨h.rd.turned hk h.free hm,h.nw.keeps hk (by simp;exact h.free.1) (by simp;exact fun e=>h.free.2.2.2.1 e.symm),(hk.block _ (Qc h.vq) (by simpa using n1)).trans h.vq,(hk.block _ (Qc h.vr) (by simpa using n2)).trans h.vr,(hk.block _ (Qc h.vf) (by simpa using n3)).trans h.vf,hs,h.free,hf⟩
theorem FwJ.below {A:Ad} {text:ByteArray} {σ:St} {bs:List (Nat×Obj)} {vs:List Value} {a:FwAd} {k:Nat} {t:List (List UInt8)} {u u':World} (h:FwJ A text σ bs vs a k t u) (hb:Below u.heap.size u u'):FwJ A text σ bs vs a k t u':=
 h.turn (Qb.of_below [a.q] hb) (h.set.keeps (Qb.of_below [] hb) (by simp)) h.few
def Q60 (A:Ad) (text:ByteArray) (σ:St) (bs:List (Nat×Obj)) (vs:List Value) (a:FwAd) (k:Nat):Tell (List (List UInt8)) where
 f:=139
 pre:=#[]
 post:=#[.pointer (some ⟨a.qb,0,none⟩),.pointer (some ⟨a.rb,0,none⟩),.pointer (some ⟨a.fb,0,none⟩)]
 run:=fun n t=>.ok (follow σ k n.1 t)
 J:=FwJ A text σ bs vs a k
 M:=[a.q]
 ok:=fun n=>∃ d,look σ.names n.1=some (some d)
theorem Q9U (A:Ad) (text:ByteArray) (σ:St) (bs:List (Nat×Obj)) (vs:List Value) (a:FwAd) (k:Nat):∀ (ns:List (List UInt8×Nat)) (t:List (List UInt8)),Qo (Q60 A text σ bs vs a k) ns t = .ok (ns.foldl (fun t m=>follow σ k m.1 t) t):=by
 intro ns
 induction ns with
 | nil=>intro t;rfl
 | cons n ns ih=>intro t;simp only [Qo,Q60,List.foldl_cons];exact ih _
theorem Qgi (args:Array Value) (u:World):(callFunc 139 args).run Tryz.prog u = .ok (.enter 139 args) u:=by kernel_rfl
theorem Qjh {A:Ad} {text:ByteArray} {σ:St} {bs:List (Nat×Obj)} {vs:List Value} {a:FwAd} {k:Nat} (HG:∀ n d,look σ.names n=some (some d)→∀ m∈Q0E d,∃ d',look σ.names m.1=some (some d'))
  (ih:∀ k',k' < k→Q20 (Q60 A text σ bs vs a k')) {t:List (List UInt8)} {W:World} (n:List UInt8×Nat) (hn:∃ d,look σ.names n.1=some (some d)) (h:FwJ A text σ bs vs a k t W) :
  Calls Tryz.prog 139 #[Q1q n,.pointer (some ⟨a.qb,0,none⟩),.pointer (some ⟨a.rb,0,none⟩),.pointer (some ⟨a.fb,0,none⟩)] W (Q0M (Q60 A text σ bs vs a k) W (.ok (follow σ k n.1 t))):=by
 obtain ⟨d,hd⟩:=hn
 have hbl:=(Below.refl W.heap.size W).alloc (Nat.le_refl _) (.cells #[.string ⟨n.1.toArray⟩,.int .i64 n.2] 116)
 have h1:=h.below hbl
 have hv:=Qg (w:=W) (o:=.cells #[.string ⟨n.1.toArray⟩,.int .i64 n.2] 116) rfl
 have lq:=h.set.lt
 obtain ⟨n0,n1,_⟩:=Q3g hv
 have c0:=Qv h1.vq
 rcases Q8X h1.set n.1 with ⟨hnot,hrun⟩ | ⟨v,hin,hrun⟩
 ·obtain ⟨ob,hput,hset⟩:=h1.set.put hnot (.int .i64 n.2)
  have hdr:=Qas hnot hd
  have hfew:=h.few
  obtain ⟨k',rfl⟩:∃ k',k=k' + 1:=⟨k - 1,by omega⟩
  have kq:=Q06 (W.alloc (.cells #[.string ⟨n.1.toArray⟩,.int .i64 n.2] 116)) a.q ob
  have h2:=h1.turn (k':=k') kq hset (by omega)
  have hv2:=(kq.block _ (Qc hv) (by simp;omega)).trans hv
  obtain ⟨m0,m1,_⟩:=Q3g hv2
  have b2:=Qv h2.vr
  have f2:=Qv h2.vf
  have R2:=h2.rd.cells.2.1
  have h3:=h2.below (Below.refl _ _).drew
  obtain ⟨v,hent,hlk⟩:=Qdq h3.nw n.1 hd
  obtain ⟨b,rfl,hdef⟩:=hent
  have hnc:=Q6t hdef (fun p hp=>(h3.nw.2.1 p hp).1)
  have hen:=Q5Z d
  have HN:=Hid.mk (Q82 (ih k' (by omega)) (HG n.1 d hd) hdef (fun {t u} hu p hp=>(hu.nw.2.1 p hp).1) h3)
  have HF:=Hid.mk (QeN (k:=k') hnot hd)
  have HKP:Hid (Qb [a.q] W ((Q04 (W.alloc (.cells #[.string ⟨n.1.toArray⟩,.int .i64 n.2] 116)) a.q ob).drew)):=(((Qb.refl _ W).alloc _).trans kq).drew
  have hap:=h2.apart
  have hE:∀ w5,Qb [a.q] ((Q04 (W.alloc (.cells #[.string ⟨n.1.toArray⟩,.int .i64 n.2] 116)) a.q ob).drew) w5→w5.cell? ⟨a.rb,0,none⟩=some (.pointer (some ⟨A.R,0,none⟩))∧w5.cell? ⟨A.R,1,none⟩=some (.map (some A.N))∧w5.cell? ⟨W.heap.size,0,none⟩=some (.string ⟨n.1.toArray⟩)∧w5.cell? ⟨a.fb,0,none⟩=some a.V:=by
   intro w5 hk5
   have hk5':=((Qb.refl _ (Q04 (W.alloc (.cells #[.string ⟨n.1.toArray⟩,.int .i64 n.2] 116)) a.q ob)).drew).trans hk5
   obtain ⟨_,vs',_,hm⟩:=id h2.set
   have hR:=(h2.rd.turned hk5' h2.free hm).cells.2.1
   obtain ⟨z0,_,_⟩:=Q3g ((hk5'.block _ (Qc hv2) (by simp;omega)).trans hv2)
   exact ⟨Qv ((hk5'.block _ (Qc h2.vr) (by simpa using hap.2.1)).trans h2.vr),hR,z0,Qv ((hk5'.block _ (Qc h2.vf) (by simpa using hap.2.2)).trans h2.vf)⟩
  have HE:=Hid.mk hE
  clear h1 h hbl hv h2 h3 hv2 kq hset hdr hfew ih HG hdef hE hap
  dsimp only [Q1q]
  go_enter Tryz.func139,Tryz.ntmps139
  go_wp2_with fail
  go_region_held2 (fun w'=>w'.cell? ⟨a.rb,0,none⟩=some (.pointer (some ⟨A.R,0,none⟩))∧w'.cell? ⟨A.R,1,none⟩=some (.map (some A.N))∧w'.cell? ⟨W.heap.size,0,none⟩=some (.string ⟨n.1.toArray⟩)∧w'.cell? ⟨a.fb,0,none⟩=some a.V) (go_keep)
   (first | (refine HN.out.mono ?_;rintro e w5 (⟨t5,hx5,rfl,hj5,hz5⟩ | ⟨f,hx5,_⟩);rotate_left;(rw [Q9U] at hx5;cases hx5);have HJ5:=Hid.mk hj5;have HZ5:=Hid.mk hz5;have HX5:=Hid.mk hx5;obtain ⟨e1,e2,e3,e4⟩:=HE.out w5 hz5;clear hj5 hz5 hx5))
  all_goals
   go_wp2
   go_end0
   have hx:=HX5.out
   rw [Q9U] at hx
   cases hx
   exact Or.inl ⟨_,by rw [HF.out],rfl,HJ5.out.turn (Qb.refl _ _) HJ5.out.set (by have:=HJ5.out.few;omega),HKP.out.trans HZ5.out⟩
 ·have HF:=Hid.mk (Qgh (σ:=σ) (k:=k) hin)
  have HJ:=Hid.mk h1
  clear h1 h hbl hv ih HG
  dsimp only [Q1q]
  go_enter Tryz.func139,Tryz.ntmps139
  go_wp2
  go_end0
  exact Or.inl ⟨t,by rw [HF.out],rfl,HJ.out,(Qb.refl _ W).alloc _⟩
theorem QhY {A:Ad} {text:ByteArray} {σ:St} {bs:List (Nat×Obj)} {vs:List Value} {a:FwAd} (HG:∀ n d,look σ.names n=some (some d)→∀ m∈Q0E d,∃ d',look σ.names m.1=some (some d')):∀ k,Q20 (Q60 A text σ bs vs a k):=by
 intro k
 induction k using Nat.strongRecOn with
 | ind k ih=>
  refine ⟨Qgi,?_,?_,?_⟩
  ·intro t w h m hm
   simp only [Q60,List.mem_singleton] at hm
   subst hm
   exact h.set.lt
  ·intro t w w' h hb
   exact FwJ.below h hb
  ·intro t W n hn h
   exact Qjh HG ih n hn h
theorem Q4z (K T:TypeId) (b k:Nat) (w:World)
  (h1 : ((Tryz.prog.info? T).bind fun i => i.methods.find? (fun m => m.name == "Title")).map (fun m => (m.path, m.func)) = some (#[⟨K, 0, true⟩], some (238, false)))
  (h2:((Tryz.prog.underlying K).bind fun d=>match d with | .struct fs=>fs[0]? | _=>none).map (fun f=>(f.type,f.offset))=some (116,0)) :
  (method (k + 1) T (.pointer (some ⟨b, 0, none⟩)) "Title").run Tryz.prog w = ((loadVar 116 ⟨b, 0, none⟩).run Tryz.prog w).andThen (fun x w' => .ok (238, x) w') := by
 obtain ⟨i,m,r1,r2,r3,r4⟩:=Q4j h1
 obtain ⟨fs,fd,s1,s2,s3,s4⟩:=Q3X h2
 obtain ⟨gs,gd,g1,_⟩:=Q3X (P:=Tryz.prog) (st:=116) (idx:=0) (t:=9) (o:=0) (by kernel_rfl)
 obtain ⟨j,j1,j2⟩:=Q35 (P:=Tryz.prog) (t:=116) (n:=2) (by kernel_rfl)
 exact QeE r1 r2 r3 r4 s1 s2 s3 s4 g1 j1 (by omega)
theorem Qbh (d : DefL) (b k : Nat) (w : World) : (method (k + 1) (defT d) (.pointer (some ⟨b, 0, none⟩)) "Title").run Tryz.prog w = ((loadVar 116 ⟨b, 0, none⟩).run Tryz.prog w).andThen (fun x w' => .ok (238, x) w') := by
 cases d with
 | const t a v=>exact Q4z 272 176 b k w (by kernel_rfl) (by kernel_rfl)
 | typedef d=>
  obtain ⟨i, m, r1, r2, r3, r4⟩ := Q4j (P := Tryz.prog) (t := 178) (name := "Title") (p := #[⟨197, 0, true⟩, ⟨195, 0, false⟩]) (f := some (238, false)) (by kernel_rfl)
  obtain ⟨fs,fd,s1,s2,s3,s4⟩:=Q3X (P:=Tryz.prog) (st:=197) (idx:=0) (t:=195) (o:=0) (by kernel_rfl)
  obtain ⟨fs',fd',s1',s2',s3',s4'⟩:=Q3X (P:=Tryz.prog) (st:=195) (idx:=0) (t:=116) (o:=0) (by kernel_rfl)
  obtain ⟨gs,gd,g1,_⟩:=Q3X (P:=Tryz.prog) (st:=116) (idx:=0) (t:=9) (o:=0) (by kernel_rfl)
  obtain ⟨j,j1,j2⟩:=Q35 (P:=Tryz.prog) (t:=116) (n:=2) (by kernel_rfl)
  obtain ⟨kk,k1,k2⟩:=Q35 (P:=Tryz.prog) (t:=195) (n:=3) (by kernel_rfl)
  exact Qde r1 r2 r3 r4 s1 s2 s3 s4 k1 (by omega) s1' s2' s3' s4' g1 j1 (by omega)
 | enum t a ms=>exact Q4z 206 180 b k w (by kernel_rfl) (by kernel_rfl)
 | struct t a ms=>exact Q4z 282 182 b k w (by kernel_rfl) (by kernel_rfl)
 | union t a s ar=>exact Q4z 287 184 b k w (by kernel_rfl) (by kernel_rfl)
 | prog t a vs n=>exact Q4z 220 186 b k w (by kernel_rfl) (by kernel_rfl)
theorem Q2U {X:List Nat} {bs:List (Nat×Obj)} {b:Nat} {d:DefL} {w:World} (hd:Q0o bs b d) (hh:Held X bs w) (k:Nat) :
  (method (k + 1) (defT d) (.pointer (some ⟨b, 0, none⟩)) "Title").run Tryz.prog w = .ok (238, .agg #[.string ⟨(Qw d).1.toArray⟩, .int .i64 (Qw d).2]) w := by
 obtain ⟨c0,c1⟩:=QhW hd hh
 have hl:(loadVar 116 ⟨b,0,none⟩).run Tryz.prog w = .ok (.agg #[.string ⟨(Qw d).1.toArray⟩,.int .i64 (Qw d).2]) w:=by go_simp
 rw [Qbh,hl]
 rfl
def Q4P (σ:St) (d:DefL):Bool:=((Q0E d).foldl (fun t m=>follow σ (Q2T σ []) m.1 t) []).contains (Qw d).1
theorem Qgj {q:Nat} {l:List (List UInt8)} {w:World} (h:Q0l q l w) (k:List UInt8):∃ v,(Instr.lookup 64 (.map (some q)) (.string ⟨k.toArray⟩) true).run Tryz.prog w = .ok (.tuple #[v,.bool (l.contains k)]) w:=by
 rcases Q8X h k with ⟨hn,hr⟩ | ⟨v,hn,hr⟩
 ·exact ⟨.int .i64 0,by rw [hr];simp [hn]⟩
 ·exact ⟨v,by rw [hr];simp [hn]⟩
theorem Qds {A:Ad} {text:ByteArray} {σ:St} {bs:List (Nat×Obj)} {vs:List Value} {b:Nat} {d:DefL} {w:World} (h:Rd A text σ w) (hw:Q3Z A.X A.N σ.names bs vs w) (hd:Q0o bs b d)
  (HG:∀ n d,look σ.names n=some (some d)→∀ m∈Q0E d,∃ d',look σ.names m.1=some (some d')) (hl:∀ m∈Q0E d,∃ d',look σ.names m.1=some (some d')) :
  Calls Tryz.prog 94 #[.pointer (some ⟨A.R,0,none⟩),.iface (defT d) (.pointer (some ⟨b,0,none⟩))] w fun e w'=>e = .returned (.bool (Q4P σ d))∧Qb [] w w':=by
 have hmf:∀ (fn:Fn) (first cap:Array Value) (w:World),(Instr.makeFunc fn first cap).run Tryz.prog w = .ok (.func fn first cap) w:=fun _ _ _ _=>rfl
 have hmm:∀ (t:TypeId) (w:World),(Instr.makeMap t none).run Tryz.prog w = .ok (.map (some w.heap.size)) (w.alloc (.map #[] 0)):=fun _ _=>rfl
 obtain ⟨l1,l2,l3,l4⟩:=h.lt
 obtain ⟨a,ha⟩:∃ a:FwAd,a=⟨w.heap.size + 2,w.heap.size,w.heap.size + 3,w.heap.size + 1⟩:=⟨_,rfl⟩
 obtain ⟨W4,hW4⟩:∃ W4,W4=(((w.alloc (.cells #[.pointer (some ⟨A.R,0,none⟩)] 101)).alloc (.map #[] 0)).alloc (.cells #[.map (some (w.heap.size + 1))] 64)).alloc (.cells #[a.V] 190):=⟨_,rfl⟩
 have s1:(w.alloc (.cells #[.pointer (some ⟨A.R,0,none⟩)] 101)).heap.size=w.heap.size + 1:=by simp
 have s2:((w.alloc (.cells #[.pointer (some ⟨A.R,0,none⟩)] 101)).alloc (.map #[] 0)).heap.size=w.heap.size + 2:=by simp
 have s3:(((w.alloc (.cells #[.pointer (some ⟨A.R,0,none⟩)] 101)).alloc (.map #[] 0)).alloc (.cells #[.map (some (w.heap.size + 1))] 64)).heap.size=w.heap.size + 3:=by simp
 have hr1:=h.below ((Below.refl w.heap.size w).alloc (Nat.le_refl _) (.cells #[.pointer (some ⟨A.R,0,none⟩)] 101))
 have hr2:=hr1.own (.map #[] 0)
 rw [s1] at hr2
 have kab:=((Qb.refl [] ((w.alloc (.cells #[.pointer (some ⟨A.R,0,none⟩)] 101)).alloc (.map #[] 0))).alloc (.cells #[.map (some (w.heap.size + 1))] 64)).alloc (.cells #[a.V] 190)
 have hb24:Below (w.heap.size + 2) ((w.alloc (.cells #[.pointer (some ⟨A.R,0,none⟩)] 101)).alloc (.map #[] 0)) W4:=by
  rw [hW4]
  exact ((Below.refl _ _).alloc (by omega) _).alloc (by omega) _
 rw [← s2] at hb24
 have hr4:=hr2.below hb24
 have k4:Qb [] w W4:=by rw [hW4];exact ((((Qb.refl [] w).alloc _).alloc _).alloc _).alloc _
 have J4:FwJ (A.add (w.heap.size + 1)) text σ bs vs a (Q2T σ []) [] W4:=by
  refine ⟨hr4,?_,?_,?_,?_,?_,?_,Nat.le_refl _⟩
  ·obtain ⟨nd,g1,g2,g3,g4⟩:=hw
   exact ⟨nd,(g1.add (by omega)).keeps k4 (by simp),g2,(k4.block _ (Qc g3) (by simp)).trans g3,g4⟩
  ·rw [ha,hW4]
   dsimp only
   exact (((Qb.refl [] _).alloc _).block _ (by rw [s3];omega) (by simp)).trans (Qg s2.symm)
  ·rw [ha,hW4]
   dsimp only
   exact ((((((Qb.refl [] _).alloc _).alloc _).alloc _)).block _ (by rw [s1];omega) (by simp)).trans (Qg rfl)
  ·rw [hW4,ha]
   dsimp only
   exact Qg s3.symm
  ·refine ⟨by simp,[],rfl,?_⟩
   rw [ha,hW4]
   dsimp only
   exact ((((Qb.refl [] _).alloc _).alloc _).block _ (by rw [s2];omega) (by simp)).trans (Qg s1.symm)
  ·rw [ha]
   dsimp only
   refine ⟨by simp [Ad.add],?_,?_,?_,?_⟩<;>simp only [Ad.add]<;>omega
 have f4:=Qv J4.vf
 have hT:=QhY (A:=A.add (w.heap.size + 1)) (text:=text) (bs:=bs) (vs:=vs) (a:=a) HG (Q2T σ [])
 have hnc:=Q6t hd (fun p hp=>(J4.nw.2.1 p hp).1)
 have hen:=Q5Z d
 have HN:=Hid.mk (Q82 hT hl hd (fun {t u} hu p hp=>(hu.nw.2.1 p hp).1) J4)
 have HK4:=Hid.mk k4
 clear J4 hT k4 hr4 hr1 hr2 hb24 kab hw h HG hl
 subst hW4
 subst ha
 dsimp only [FwAd.V] at f4 hnc
 go_enter Tryz.func94,Tryz.ntmps94
 go_wp2_with fail
 refine HN.out.mono ?_
 rintro e w5 (⟨t5,hx5,rfl,hj5,hz5⟩ | ⟨f,hx5,_⟩)
 rotate_left
 ·rw [Q9U] at hx5
  cases hx5
 rw [Q9U] at hx5
 cases hx5
 have q5:=Qv hj5.vq
 dsimp only at q5
 have lq5:=Qc hj5.vq
 dsimp only at lq5
 have j5d:=hj5.below (Below.refl _ _).drew
 have htr:=Q2U hd j5d.nw.2.1
 have htn:=Q1M
 have hfn:∀ (a b:Value) (W:World),(Instr.field 116 (.agg #[a,b]) 0).run Tryz.prog W = .ok a W:=fun _ _ _=>by kernel_rfl
 have HJ5:=Hid.mk hj5
 have HJ5d:=Hid.mk j5d
 have HZ5:=Hid.mk hz5
 clear hj5 hz5 j5d HN hnc f4 s1 s2 s3
 go_wp2_with fail
 go_region_held2 (fun w'=>w'.cell? ⟨w.heap.size + 2,0,none⟩=some (.map (some (w.heap.size + 1)))) (go_keep)
  (first | (go_at_call 238;refine (Q2R _ _ _).mono ?_;rintro e w6 ⟨rfl,hb6⟩;obtain ⟨v6,hlk6⟩:=Qgj (HJ5d.out.below hb6).set (Qw d).1;have q6:=Qv (HJ5d.out.below hb6).vq;dsimp only at q6 hlk6;have HB6:=Hid.mk hb6;clear hb6))
 all_goals
  go_wp2
  go_ret
  refine ⟨Q5N (a:=decide ((Qw d).1∈(Q0E d).foldl (fun (t:List (List UInt8)) (m:List UInt8×Nat)=>follow σ (Q2T σ []) m.1 t) [])) (b:=Q4P σ d) (by simp [Q4P]),?_⟩
  exact (HK4.out.young HZ5.out (by intro m hm;simp only [Q60,List.mem_singleton] at hm;subst hm;exact Or.inr (by omega))).trans (((Qb.refl [] w5).drew).trans (Qb.of_below [] HB6.out))
def Q2i (σ:St):List DefL→Except Mar.Fault Unit
 | []=>.ok ()
 | d :: ds=>if Q4P σ d then .error ⟨9,(Qw d).2⟩ else Q2i σ ds
theorem Rd.quiet {A:Ad} {text:ByteArray} {σ:St} {w w':World} (h:Rd A text σ w) (hk:Qb [] w w'):Rd A text σ w':=h.keeps hk (by simp) (by simp) (by simp) (by simp) (by simp) (by simp) (by simp) (by simp)
theorem Q9V {A:Ad} {text:ByteArray} {σ:St} {bs:List (Nat×Obj)} {vs:List Value} {sl:Value} {ds:List DefL} {ps:List Nat} {w:World} (h:Rd A text σ w) (hw:Q3Z A.X A.N σ.names bs vs w) (hds:Q2v bs sl ds ps)
  (HG:∀ n d,look σ.names n=some (some d)→∀ m∈Q0E d,∃ d',look σ.names m.1=some (some d')) (hl:∀ d∈ds,∀ m∈Q0E d,∃ d',look σ.names m.1=some (some d')) :
  Calls Tryz.prog 52 #[.pointer (some ⟨A.R,0,none⟩),sl] w fun e w'=>(Q2i σ ds = .ok ()∧e = .returned (.tuple #[])∧Qb [] w w')∨(∃ f,Q2i σ ds = .error f∧Qb [] w w'∧Q0c w f.no f.at' e w'):=by
 obtain ⟨hpl,hrow,hea⟩:=hds
 have HEA:=Hid.mk hea
 have HPL:=Hid.mk hpl
 have HHG:=Hid.mk HG
 have HHL:=Hid.mk hl
 have hfn:∀ (a b:Value) (W:World),(Instr.field 116 (.agg #[a,b]) 1).run Tryz.prog W = .ok b W:=fun _ _ _=>by kernel_rfl
 have htn:=Q1M
 clear hea hpl HG hl
 rcases hrow with ⟨rfl,h0,_⟩ | ⟨g,cap,cur,rfl,⟨hcap,hms⟩,hg,htake⟩
 ·have hnil:ds=[]:=List.length_eq_zero_iff.1 h0
  subst hnil
  clear hw h
  go_enter Tryz.func52,Tryz.ntmps52
  go_wp2
  go_loopw [8] (fun i ur=>i = .int .i64 0∧ur=w) (fun _ _=>0)
  case atStart=>exact ⟨rfl,rfl⟩
  case round=>
   obtain ⟨rfl,rfl⟩:=hrel
   go_wp2
   go_end0
   exact Or.inl ⟨rfl,rfl,Qb.refl _ _⟩
 ·have hrw:∀ (u:World),Q3Z A.X A.N σ.names bs vs u→∀ i (hi:i < ds.length) (hi':i < ps.length),u.cell? ⟨g,i,none⟩=some (.iface (defT ds[i]) (.pointer (some ⟨ps[i],0,none⟩))):=by
   intro u hu i hi hi'
   refine Qs (hu.2.1 _ hg).1 htake ?_
   have hz:i < (Q1D ds ps).length:=by simp;omega
   rw [List.getElem?_eq_getElem hz]
   simp
  have HR:=Hid.mk hrw
  have HRD:=Hid.mk h
  have HNW:=Hid.mk hw
  clear hrw h hw
  go_enter Tryz.func52,Tryz.ntmps52
  go_wp2
  go_loopw [8] (fun i ur=>∃ (k:Nat),i = .int .i64 k∧k≤ds.length∧Hid (Rd A text σ ur)∧Hid (Q3Z A.X A.N σ.names bs vs ur)∧Qb [] w ur∧Hid (Q2i σ ds=Q2i σ (ds.drop k))) (fun i _=>ds.length - (intOf i).toNat)
  case atStart=>exact ⟨0,rfl,by omega,HRD,HNW,Qb.refl _ w,rfl⟩
  case round=>
   obtain ⟨k,rfl,hk,R,N,hz,E⟩:=hrel
   clear HRD HNW
   rcases Nat.lt_or_ge k ds.length with hlt | hge
   ·have hlt':k < ps.length:=by have:=HPL.out;omega
    have q0:=HR.out _ N.out k hlt hlt'
    have hi0:(0:Int)≤↑k:=by omega
    have hi1:(↑k:Int) < ↑ds.length:=by omega
    have ED:Hid (Q2i σ ds=if Q4P σ ds[k] then .error ⟨9,(Qw ds[k]).2⟩ else Q2i σ (ds.drop (k + 1))):=by
     refine E.out.trans ?_
     rw [List.drop_eq_getElem_cons hlt]
     rfl
    have HN:=Hid.mk (Qds R.out N.out (HEA.out k hlt hlt') HHG.out (HHL.out _ (List.getElem_mem hlt)))
    clear E
    go_wp2_with fail
    refine HN.out.mono ?_
    rintro e w2 ⟨rfl,hz2⟩
    have N2:=Hid.mk (N.out.keeps hz2 (by simp) (by simp))
    have R2:=Hid.mk (R.out.quiet hz2)
    have hz3:Qb [] w w2:=hz.trans hz2
    clear hz2
    cases hr:Q4P σ ds[k] with
    | true=>
     have htr:=Q2U (HEA.out k hlt hlt') N2.out.2.1
     go_wp2_with (first
      | (go_at_call 238;refine (Q2R _ _ _).mono ?_;rintro e w6 ⟨rfl,hb6⟩)
      | (go_at_call 47;refine (QY _ _ _).mono ?_;rintro e w' ⟨rfl,rfl⟩))
     exact (show bodyPost Tryz.prog Tryz.f52 (fun e w'=>(Q2i σ ds = .ok ()∧e = .returned (.tuple #[])∧Qb [] w w')∨(∃ f,Q2i σ ds = .error f∧Qb [] w w'∧Q0c w f.no f.at' e w')) (Exit.panic _) _ _ from Qa (Or.inr ⟨⟨9,(Qw ds[k]).2⟩,ED.out.trans (by rw [hr];rfl),(by first | exact (hz3.trans (Qb.of_below [] hb6)).alloc _ | exact (hz3.drew.trans (Qb.of_below [] hb6)).alloc _),w6.heap.size,by have:=hz3.size;have:=hb6.size;omega,rfl,Qg rfl⟩))
    | false=>
     have E2:Hid (Q2i σ ds=Q2i σ (ds.drop (k + 1))):=ED.out.trans (by rw [hr];rfl)
     clear ED
     go_wp2
     exact ⟨⟨k + 1,by go_num,by omega,R2,N2,hz3,E2⟩,by simp [intOf];omega⟩
   ·have hkk:k=ds.length:=by omega
    subst hkk
    have hfin:Q2i σ ds = .ok ():=by
     refine E.out.trans ?_
     rw [List.drop_length]
     rfl
    have HF:=Hid.mk hfin
    clear E hfin
    go_wp2
    go_end0
    exact Or.inl ⟨HF.out,rfl,hz⟩
def OfN (k:List UInt8) {τ:Type} (m:PX τ Qq):Prop:=∀ t σ d t' σ',m t σ = .ok (d,t',σ')→d.t=k∧Kn σ.names σ'.names
def Q61 {τ:Type} (m:PX τ Qq):Prop:=∀ t σ d t' σ',m t σ = .ok (d,t',σ')→(look σ'.names d.t).isSome
theorem Le.kn {σ σ':St} (h:Le σ σ'):Kn σ.names σ'.names:=h.2.2.2.2.2
theorem Q71 {τ:Type} (d:Qq):OfN d.t (retx (τ:=τ) d):=by
 intro t σ d' t' σ' h
 simp only [retx] at h
 cases h
 exact ⟨rfl,Kn.refl _⟩
theorem Q62 {τ α:Type} {k:List UInt8} {m:PX τ α} {f:α→PX τ Qq} (hm:QN m) (hf:∀ a,OfN k (f a)):OfN k (bndx m f):=by
 intro t σ d t' σ' h
 cases hx:m t σ with
 | error e=>rw [Qm hx] at h;cases h
 | ok p=>
  obtain ⟨a,t1,σ1⟩:=p
  rw [Qi hx] at h
  obtain ⟨h1,h2⟩:=hf a _ _ _ _ _ h
  exact ⟨h1,(hm _ _ _ _ _ hx).kn.trans h2⟩
theorem QdZ {τ:Type} {k:List UInt8} {c:Bool} {a b:PX τ Qq} (ha:OfN k a) (hb:OfN k b):OfN k (if c then a else b):=by cases c<;>assumption
theorem Q5r {τ α:Type} {m:PX τ α} {f:α→PX τ Qq} (hf:∀ a,Q61 (f a)):Q61 (bndx m f):=by
 intro t σ d t' σ' h
 cases hx:m t σ with
 | error e=>rw [Qm hx] at h;cases h
 | ok p=>obtain ⟨a,t1,σ1⟩:=p;rw [Qi hx] at h;exact hf a _ _ _ _ _ h
theorem Q83 {τ:Type} {c:Bool} {a b:PX τ Qq} (ha:Q61 a) (hb:Q61 b):Q61 (if c then a else b):=by cases c<;>assumption
theorem Qch {x:Mar.Word} {σ σ':St} {u:Unit} (h:Q1s x σ = .ok (u,σ')):(look σ'.names x.text).isSome:=by
 unfold Q1s at h
 split at h<;>cases h
 rename_i hl
 dsimp only
 rw [Q93,hl]
 simp
theorem Q9W {A:Ad} {text:ByteArray} {u u':Unit} {σ σ':St} {n:List UInt8×Nat} (h:name text (Q12 A) u σ = .ok (n,u',σ')):(look σ'.names n.1).isSome:=by
 unfold name at h
 cases hx:next text σ with
 | error e=>rw [Qm (Qx hx)] at h;cases h
 | ok p=>
  obtain ⟨x,σ1⟩:=p
  rw [Qi (Ql hx)] at h
  cases hk:((x.kind:Int) == 1) with
  | false=>rw [hk] at h;simp only [Bool.false_eq_true,if_false,thrx] at h;cases h
  | true=>
   rw [hk] at h
   simp only [if_true] at h
   cases hd:Q1s x σ1 with
   | error e=>rw [Qm (show (Q12 A).run x u σ1 = .error e from Qx hd)] at h;cases h
   | ok p=>
    obtain ⟨v,σ2⟩:=p
    rw [Qi (show (Q12 A).run x u σ1 = .ok (v,u,σ2) from Ql hd)] at h
    simp only [retx] at h
    cases h
    exact Qch hd
theorem Q5s {A:Ad} {text:ByteArray} {f:List UInt8×Nat→PX Unit Qq} (hf:∀ n,OfN n.1 (f n)):Q61 (bndx (name text (Q12 A)) f):=by
 intro t σ d t' σ' h
 cases hx:name text (Q12 A) t σ with
 | error e=>rw [Qm hx] at h;cases h
 | ok p=>
  obtain ⟨n,t1,σ1⟩:=p
  rw [Qi hx] at h
  obtain ⟨h1,h2⟩:=hf n _ _ _ _ _ h
  rw [h1]
  exact h2.1 _ (Q9W hx)
theorem QaK {τ:Type} (text:ByteArray) (n:List UInt8×Nat) (ty:Ty):OfN n.1 (Q6l (τ:=τ) text n ty):=by
 unfold Q6l
 exact Q62 (QI (Q5n _)) fun _=>Q71 ⟨n.1,n.2,_⟩
theorem QeO {τ:Type} (text:ByteArray) (ty:Ty) (n:List UInt8×Nat):OfN n.1 (Q5R (τ:=τ) text ty n):=by
 unfold Q5R
 refine Q62 (QI (Q3s _ _)) fun y=>?_
 unfold Q6P
 refine QdZ (QaK _ _ _) (Q62 (QI (Q3s _ _)) fun z=>?_)
 unfold Q6O
 exact QdZ (QaK _ _ _) (Q71 ⟨n.1,n.2,ty⟩)
theorem QeP (A:Ad) (text:ByteArray):Q61 (decl text (Q12 A)):=by
 unfold decl
 refine Q5r fun y=>?_
 unfold Q6S
 refine Q83 (Q5s fun n=>Q62 (QI (Q5n _)) fun _=>Q71 ⟨n.1,n.2,_⟩) (Q5r fun y=>?_)
 unfold Q6R
 refine Q83 (Q5s fun n=>Q62 (QI (Q7W _)) fun _=>Q71 ⟨n.1,n.2,_⟩) (Q5r fun ty=>?_)
 unfold Q6Q
 refine Q5r fun y=>?_
 unfold Q8o
 exact Q83 (Q5s fun n=>Q71 ⟨n.1,n.2,_⟩) (Q5s fun n=>QeO _ _ _)
theorem Qbi {text:ByteArray} {σ σ':St} {d:Qq} (h:Q5B text σ = .ok (d,σ')):(look σ'.names d.t).isSome:=by
 unfold Q5B bare at h
 cases hx:decl text (Q12 noAd) () σ with
 | error e=>rw [hx] at h;cases h
 | ok p=>obtain ⟨a,t1,σ1⟩:=p;rw [hx] at h;cases h;exact QeP _ _ _ _ _ _ _ hx
theorem Qbj {text:ByteArray} {σ σ':St} {n:List UInt8×Nat} (h:Q1y text σ = .ok (n,σ')):(look σ'.names n.1).isSome:=by
 unfold Q1y bare at h
 cases hx:name text (Q12 noAd) () σ with
 | error e=>rw [hx] at h;cases h
 | ok p=>obtain ⟨a,t1,σ1⟩:=p;rw [hx] at h;cases h;exact Q9W hx
def Q6u {α:Type} (m:PM α):Prop:=∀ σ a σ',m σ = .ok (a,σ')→Kn σ.names σ'.names
theorem Mono.k {α:Type} {m:PM α} (h:Mono m):Q6u m:=fun σ a σ' hx=>(h σ a σ' hx).kn
def TOf (n:List UInt8×Nat) (m:PM DefL):Prop:=∀ σ d σ',m σ = .ok (d,σ')→Qw d=n∧Kn σ.names σ'.names
def Q52 (m:PM DefL):Prop:=∀ σ d σ',m σ = .ok (d,σ')→(look σ'.names (Qw d).1).isSome∧Kn σ.names σ'.names
theorem Q5H {n:List UInt8×Nat} {d:DefL} (h:Qw d=n):TOf n (ret d):=by
 intro σ d' σ' hx
 simp only [ret] at hx
 cases hx
 exact ⟨h,Kn.refl _⟩
theorem Q0T {α:Type} {n:List UInt8×Nat} {m:PM α} {f:α→PM DefL} (hm:Q6u m) (hf:∀ a,TOf n (f a)):TOf n (bnd m f):=by
 intro σ d σ' h
 cases hx:m σ with
 | error e=>rw [Qp hx] at h;cases h
 | ok p=>
  obtain ⟨a,σ1⟩:=p
  rw [Qh hx] at h
  obtain ⟨h1,h2⟩:=hf a _ _ _ h
  exact ⟨h1,(hm _ _ _ hx).trans h2⟩
theorem Qji {n:List UInt8×Nat} {c:Bool} {a b:PM DefL} (ha:TOf n a) (hb:TOf n b):TOf n (if c then a else b):=by cases c<;>assumption
theorem Q3u {α:Type} {m:PM α} {f:α→PM DefL} (hm:Q6u m) (hf:∀ a,Q52 (f a)):Q52 (bnd m f):=by
 intro σ d σ' h
 cases hx:m σ with
 | error e=>rw [Qp hx] at h;cases h
 | ok p=>
  obtain ⟨a,σ1⟩:=p
  rw [Qh hx] at h
  obtain ⟨h1,h2⟩:=hf a _ _ _ h
  exact ⟨h1,(hm _ _ _ hx).trans h2⟩
theorem Q4A {text:ByteArray} {f:List UInt8×Nat→PM DefL} (hf:∀ n,TOf n (f n)):Q52 (bnd (Q1y text) f):=by
 intro σ d σ' h
 cases hx:Q1y text σ with
 | error e=>rw [Qp hx] at h;cases h
 | ok p=>
  obtain ⟨n,σ1⟩:=p
  rw [Qh hx] at h
  obtain ⟨h1,h2⟩:=hf n _ _ _ h
  exact ⟨by rw [h1];exact h2.1 _ (Qbj hx),(Q2e _ _ _ _ hx).kn.trans h2⟩
theorem Qat (text:ByteArray) (k:Nat):Q52 (constant text k):=by
 unfold constant
 refine Q3u (Q7G _).k fun _=>Q4A fun n=>?_
 exact Q0T (QA _ _).k fun _=>Q0T (Q4v _ _).k fun _=>Q0T (QA _ _).k fun _=>Q5H rfl
theorem Qbk (text:ByteArray) (k:Nat):Q52 (typedef text k):=by
 unfold typedef
 refine Q3u (Q4u _).k fun _=>?_
 intro σ d σ' h
 cases hx:Q5B text σ with
 | error e=>rw [Qp hx] at h;cases h
 | ok p=>
  obtain ⟨c,σ1⟩:=p
  rw [Qh hx] at h
  obtain ⟨h1,h2⟩:=Q0T (n:=(c.t,c.at')) (QA _ _).k (fun _=>Q5H rfl) _ _ _ h
  exact ⟨by rw [h1];exact h2.1 _ (Qbi hx),(Q7Z _ _ _ _ hx).kn.trans h2⟩
theorem Qdt (text:ByteArray) (n:List UInt8×Nat):∀ (k:Nat) (ms:List (List UInt8×Nat×Int)) (l:List (Int×Int)),TOf n (Q1l text n k ms l):=by
 intro k
 induction k with
 | zero=>intro ms l σ d σ' h;simp only [Q1l,thr] at h;cases h
 | succ k ih=>
  intro ms l σ d σ' h
  cases hm:Q2s text ms.length l σ with
  | error f=>rw [Q3V hm] at h;cases h
  | ok p=>
   obtain ⟨m,l',σ1⟩:=p
   rw [Q3G hm] at h
   obtain ⟨h1,h2⟩:=Q0T (n:=n) (Q0S _ _).k (fun y=>Qji (ih _ _) (show TOf n (Q4e text n (ms++[m])) from Q0T (QA _ _).k fun _=>Q0T (QA _ _).k fun _=>Q5H rfl)) _ _ _ h
   exact ⟨h1,(Q8M _ _ _ _ _ _ _ hm).kn.trans h2⟩
theorem Q8E (text:ByteArray) (k:Nat):Q52 (enumeration text k):=by
 unfold enumeration
 exact Q3u (Q4u _).k fun _=>Q4A fun n=>Q0T (QA _ _).k fun _=>Qdt _ _ _ _ _
theorem Q9X (text:ByteArray) (k:Nat):Q52 (Q2t text k):=by
 unfold Q2t
 exact Q3u (Q4u _).k fun _=>Q4A fun n=>Q0T (Q5a (Q5p _ _ _ (Q5V _ _)) _).k fun _=>Q0T (QA _ _).k fun _=>Q5H rfl
theorem Qdu (text:ByteArray) (k:Nat):Q52 (Q0w text k):=by
 unfold Q0w
 refine Q3u (Q4u _).k fun _=>Q4A fun n=>?_
 unfold Q5F
 refine Q0T (QA _ _).k fun _=>Q0T (QA _ _).k fun _=>Q0T (Q7I _).k fun q=>?_
 unfold Q5E
 refine Q0T (Q6p (Q5o _ _ _) _).k fun m=>?_
 unfold Q6W
 refine Q0T (QA _ _).k fun _=>Q0T (QA _ _).k fun _=>Q0T (Q6p (Q9M _ _ _ _) _).k fun r=>?_
 unfold Q2L Q4b
 exact Q0T (QA _ _).k fun _=>Q0T (QA _ _).k fun _=>Q5H rfl
theorem Qbl (text:ByteArray) (p:Int→Bool):Q6u (Q3J text p):=by
 intro σ a σ' h
 cases hx:number text p σ.progs σ with
 | error e=>rw [Q50 hx] at h;cases h
 | ok q=>
  obtain ⟨m,l',σ1⟩:=q
  rw [Q7h hx] at h
  cases h
  exact (Q3Y _ _ _ _ _ _ _ hx).kn
theorem Q84 {α β:Type} {m:PM α} {f:α→PM β} (hm:Q6u m) (hf:∀ a,Q6u (f a)):Q6u (bnd m f):=by
 intro σ b σ' h
 cases hx:m σ with
 | error e=>rw [Qp hx] at h;cases h
 | ok p=>obtain ⟨a,σ1⟩:=p;rw [Qh hx] at h;exact (hm _ _ _ hx).trans (hf a _ _ _ h)
theorem Qbm (text:ByteArray):Q6u (Q4i text):=by
 unfold Q4i
 exact Q84 (QA _ _).k fun _=>Q84 (Qbl _ _) fun _=>Q84 (QA _ _).k fun _=>(Q1i _).k
theorem Qbn (text:ByteArray) (k:Nat):Q52 (Q2E text k):=by
 unfold Q2E
 refine Q3u ?_ fun _=>Q4A fun n=>?_
 ·intro σ a σ' h
  exact (Q7i _ _ _ _ _ _ h).kn
 ·unfold Q5U
  exact Q0T (Q5a (Q80 _) _).k fun _=>Q0T (Qbm _) fun _=>Q5H rfl
theorem Q63 (text:ByteArray):Q52 (definition text):=by
 unfold definition
 refine Q3u (Q2S _).k fun x=>?_
 intro σ d σ' h
 unfold defK at h
 split at h
 ·exact Qat _ _ _ _ _ h
 split at h
 ·exact Qbk _ _ _ _ _ h
 split at h
 ·exact Q8E _ _ _ _ _ h
 split at h
 ·exact Q9X _ _ _ _ _ h
 split at h
 ·exact Qdu _ _ _ _ _ h
 split at h
 ·exact Qbn _ _ _ _ _ h
 ·simp only [thr] at h;cases h
theorem Qci (text:ByteArray) (w:World):Calls Tryz.prog 48 #[.string text] w fun e w'=>e = .returned (.pointer (some ⟨w.heap.size,0,none⟩))∧w'=w.alloc (.cells #[.string text,.int .i64 0,.int .i64 0,.string ⟨#[]⟩,.int .i64 0,.int .i64 0,.bool false] 175):=by
 go_enter Tryz.func48,Tryz.ntmps48
 go_wp2
 go_ret
 exact ⟨rfl,rfl⟩
def st0:St:=⟨0,none,0,0,[],[]⟩
def laid (text:ByteArray) (w:World):World:=
 (((w.alloc (.cells #[.string text,.int .i64 0,.int .i64 0,.string ⟨#[]⟩,.int .i64 0,.int .i64 0,.bool false] 175)).alloc (.map #[] 0)).alloc (.map #[] 0)).alloc
  (.cells #[.pointer (some ⟨w.heap.size,0,none⟩),.map (some (w.heap.size + 1)),.int .i64 0,.int .i64 0,.map (some (w.heap.size + 2))] 107)
def ad0 (w:World):Ad:=⟨w.heap.size + 3,w.heap.size,w.heap.size + 1,w.heap.size + 2,[w.heap.size + 3,w.heap.size,w.heap.size + 1,w.heap.size + 2]⟩
theorem Qjj (text:ByteArray) {w:World} (hg:Gl w) (hs:text.size≤4000000000):Rd (ad0 w) text st0 (laid text w)∧Qb [] w (laid text w)∧(laid text w).heap.size=w.heap.size + 4:=by
 have s1:(w.alloc (.cells #[.string text,.int .i64 0,.int .i64 0,.string ⟨#[]⟩,.int .i64 0,.int .i64 0,.bool false] 175)).heap.size=w.heap.size + 1:=by simp
 have s2:((w.alloc (.cells #[.string text,.int .i64 0,.int .i64 0,.string ⟨#[]⟩,.int .i64 0,.int .i64 0,.bool false] 175)).alloc (.map #[] 0)).heap.size=w.heap.size + 2:=by simp
 have s3:(((w.alloc (.cells #[.string text,.int .i64 0,.int .i64 0,.string ⟨#[]⟩,.int .i64 0,.int .i64 0,.bool false] 175)).alloc (.map #[] 0)).alloc (.map #[] 0)).heap.size=w.heap.size + 3:=by simp
 have s4:(laid text w).heap.size=w.heap.size + 4:=by unfold laid;simp
 have hk:Qb [] w (laid text w):=((((Qb.refl [] w).alloc _).alloc _).alloc _).alloc _
 have bS:(laid text w).heap[w.heap.size]? = some (.cells #[.string text,.int .i64 0,.int .i64 0,.string ⟨#[]⟩,.int .i64 0,.int .i64 0,.bool false] 175):=
  ((((Qb.refl [] _).alloc _).alloc _).alloc _).block _ (by rw [s1];omega) (by simp) |>.trans (Qg rfl)
 have bN:(laid text w).heap[w.heap.size + 1]? = some (.map #[] 0):=(((Qb.refl [] _).alloc _).alloc _).block _ (by rw [s2];omega) (by simp) |>.trans (Qg s1.symm)
 have bP:(laid text w).heap[w.heap.size + 2]? = some (.map #[] 0):=((Qb.refl [] _).alloc _).block _ (by rw [s3];omega) (by simp) |>.trans (Qg s2.symm)
 have bR:(laid text w).heap[w.heap.size + 3]? = some (.cells #[.pointer (some ⟨w.heap.size,0,none⟩),.map (some (w.heap.size + 1)),.int .i64 0,.int .i64 0,.map (some (w.heap.size + 2))] 107):=Qg s3.symm
 refine ⟨⟨bR,⟨Nat.zero_le _,_,_,_,_,bS⟩,⟨by simp [st0],[],[],(by intro p hp;cases hp),rfl,bN,(by intro i h;cases h)⟩,?_,?_,bP,by simp [ad0],hg.keeps hk (by simp) (by simp) (by simp),hs,by simp [st0]⟩,hk,s4⟩
 ·simp [ad0]
 ·intro x hx
  simp [ad0] at hx
  rw [s4]
  omega
theorem Qjk:(Tryz.prog.info? 113).map (fun i=>(i.zero,i.size,i.bytes))=some (some .nilIface,1,16):=by kernel_rfl
def Qkc (d:DefL):PM Unit:=fun σ=>.ok ((),{ σ with names:=Q0N σ.names (Qw d).1 d })
def Q15 (text:ByteArray):Nat→List DefL→PM (List DefL)
 | 0,_=>thr 0 0
 | k + 1,ds=>bnd (peek text) fun x=>if ((x.kind:Int) == 0) then ret ds else bnd (definition text) fun d=>bnd (Qkc d) fun _=>Q15 text k (ds++[d])
def Q1H (text:ByteArray):Except Mar.Fault (List DefL):=
 if 1200 < text.size then .error ⟨1,0⟩ else match Q15 text 69 [] st0 with
 | .error f=>.error f
 | .ok (ds,σ)=>match Q3K σ ds with
  | .error f=>.error f
  | .ok _=>match Q2i σ ds with
   | .error f=>.error f
   | .ok _=>.ok ds
structure Q21 (A:Ad) (text:ByteArray) (w:World) (ds:List DefL) (ps:List Nat) (bs:List (Nat×Obj)) (Y:List Nat) (sl:Value) (σ:St) (u:World):Prop where
 kp:Qb [A.R,A.S,A.N,A.P] w u
 rd:Rd (A.plus Y) text σ u
 new:∀ y∈Y,w.heap.size≤y
 own:∀ g,sl.ownBlock=some g→g∈Y
 row:u.ownsRow w.heap.size 113 1 sl ds.length (Q1D ds ps)
 len:ps.length=ds.length
 held:Held (A.plus Y).X bs u
 each:∀ i (h:i < ds.length) (h':i < ps.length),Q0o bs ps[i] ds[i]
section
variable {A : Ad} {text : ByteArray} {w u u' : World} {ds : List DefL} {ps : List Nat} {bs : List (Nat × Obj)} {Y : List Nat} {sl : Value} {σ σ' σ0 : St}
theorem Q21.slice (m:Q21 A text w ds ps bs Y sl σ u):∃ ad cap,sl = .slice ad ds.length cap:=by
 rcases m.row.2 with ⟨rfl,h⟩ | ⟨g,cap,cur,rfl,_⟩
 ·exact ⟨none,0,by rw [h]⟩
 ·exact ⟨_,_,rfl⟩
theorem Q21.turn {M:List Nat} (h0:Rd A text σ0 w) (m:Q21 A text w ds ps bs Y sl σ u) (hk:Qb M u u') (hM:∀ x∈M,x∈[A.R,A.S,A.N,A.P]) (hr:Rd (A.plus Y) text σ' u'):Q21 A text w ds ps bs Y sl σ' u':=by
 obtain ⟨l1,l2,l3,l4⟩:=h0.lt
 have hX:∀ x∈M,x∈(A.plus Y).X:=by
  intro x hx
  have hx:=hM x hx
  simp at hx
  rcases hx with rfl | rfl | rfl | rfl
  ·exact hr.mine.1
  ·exact hr.mine.2.1
  ·exact hr.mine.2.2.1
  ·exact hr.mine.2.2.2
 refine ⟨m.kp.trans (hk.mono hM),hr,m.new,m.own,Qk m.row hk ?_,m.len,m.held.keeps hk hX,m.each⟩
 intro g hg hx
 have hx:=hM _ hx
 have:=m.new _ (m.own g hg)
 simp at hx
 omega
theorem Q21.below (h0:Rd A text σ0 w) (m:Q21 A text w ds ps bs Y sl σ u) (hb:Below u.heap.size u u'):Q21 A text w ds ps bs Y sl σ u':=m.turn h0 (Qb.of_below [] hb) (by simp) (m.rd.below hb)
theorem Q21.rowAt (m:Q21 A text w ds ps bs Y sl σ u) (o:Obj):(u.alloc o).ownsRow w.heap.size 113 1 sl ds.length (Q1D ds ps):=Qk m.row ((Qb.refl [] u).alloc o) (by simp)
theorem Q21.step {u2 u3:World} {g cap b:Nat} {d:DefL} {bs':List (Nat×Obj)} (h0:Rd A text σ0 w) (e:Q21 A text w ds ps bs Y sl σ u) (hd:Q0o bs' b d) (hh:Held (A.plus Y).X bs' u) (hb:Below u.heap.size u u2)
  (hown:u3.ownsRow w.heap.size 113 1 (.slice (some ⟨g,0,none⟩) (ds.length + 1) cap) (ds.length + 1) (Q1D ds ps++[.iface (defT d) (.pointer (some ⟨b,0,none⟩))]))
  (hg:u2.grownBy u3 sl.ownBlock) (hat:sl.ownBlock=some g∨g=u2.heap.size) (hlt:g < u3.heap.size) :
  Q21 A text w (ds++[d]) (ps++[b]) (bs++bs') (g :: Y) (.slice (some ⟨g,0,none⟩) (ds.length + 1) cap) σ u3:=by
 obtain ⟨hwg,_⟩:=Q0z hown (g:=g) rfl
 have e2:=e.below h0 hb
 have hh2:=hh.keeps (Qb.of_below [] hb) (by simp)
 have hrow:∀ b,sl.ownBlock=some b→w.heap.size≤b∧b∈(A.plus Y).X:=fun b hb=>⟨e.new _ (e.own b hb),List.mem_append_left _ (e.own b hb)⟩
 have hkg:=Q05 hg
 refine ⟨e2.kp.young hkg ?_,Rd.grow h0 (Same.plus A Y) e2.rd hg hrow hat hlt,?_,?_,?_,by simp [e.len],(e2.held.app hh2).grow hg (fun b hb=>(hrow b hb).2) hat,?_⟩
 ·intro m hm
  exact Or.inr (hrow m (by simpa using hm)).1
 ·intro y hy
  rcases List.mem_cons.1 hy with rfl | hy
  ·exact hwg
  ·exact e.new y hy
 ·intro g' h'
  simp only [Value.ownBlock,Option.some.injEq] at h'
  subst h'
  exact List.mem_cons_self
 ·have e1:Q1D (ds++[d]) (ps++[b])=Q1D ds ps++[.iface (defT d) (.pointer (some ⟨b,0,none⟩))]:=by
   unfold Q1D
   rw [List.zip_append e.len.symm,List.map_append]
   rfl
  rw [e1]
  simpa using hown
 ·intro i h1 h2
  by_cases hi:i < ds.length
  ·have hi':i < ps.length:=by rw [e.len];exact hi
   rw [List.getElem_append_left hi,List.getElem_append_left hi']
   exact (show Q1z (bs++bs') (.iface (defT ds[i]) (.pointer (some ⟨ps[i],0,none⟩))) (some ds[i]) from Q1z.mono (fun p hp=>List.mem_append_left _ hp) ⟨_,rfl,e.each i hi hi'⟩).elim (fun b' hb'=>by obtain ⟨e1,e2⟩:=hb';cases e1;exact e2)
  ·have hi':i=ds.length:=by simp at h1;omega
   have hl:=e.len
   rw [List.getElem_append_right (by omega),List.getElem_append_right (by omega)]
   have e1:i - ds.length=0:=by omega
   have e3:i - ps.length=0:=by omega
   simp only [e1,e3,List.getElem_cons_zero]
   exact (show Q1z (bs++bs') (.iface (defT d) (.pointer (some ⟨b,0,none⟩))) (some d) from Q1z.mono (fun p hp=>List.mem_append_right _ hp) ⟨_,rfl,hd⟩).elim (fun b' hb'=>by obtain ⟨e1,e2⟩:=hb';cases e1;exact e2)
theorem Q21.lies (h0:Rd A text σ0 w) (m:Q21 A text w ds ps bs Y sl σ u) (hle:ds.length≤1000):∃ bs',Q2v (bs++bs') sl ds ps∧Held A.X (bs++bs') u:=by
 have far:∀ b,w.heap.size≤b→b ∉ A.X:=fun b hb hm=>by have:=h0.old _ hm;omega
 have hsub:Held A.X bs u:=m.held.sub (fun x hx=>List.mem_append_right _ hx)
 have hmono:∀ bs' i (h:i < ds.length) (h':i < ps.length),Q0o (bs++bs') ps[i] ds[i]:=fun bs' i h h'=>
  (show Q1z (bs++bs') (.iface (defT ds[i]) (.pointer (some ⟨ps[i],0,none⟩))) (some ds[i]) from Q1z.mono (fun p hp=>List.mem_append_left _ hp) ⟨_,rfl,m.each i h h'⟩).elim (fun b' hb'=>by obtain ⟨e1,e2⟩:=hb';cases e1;exact e2)
 rcases m.row.2 with ⟨rfl,h⟩ | ⟨g,cap,cur,rfl,hg1,hg2,hg3,hg4,hg5,hg6⟩
 ·have hn:ds=[]:=List.length_eq_zero_iff.1 h
  refine ⟨[],⟨m.len,Or.inl ⟨rfl,h,?_⟩,hmono []⟩,by simpa using hsub⟩
  subst hn
  rfl
 ·refine ⟨[(g,.cells cur 113)],⟨m.len,Or.inr ⟨g,cap,cur,rfl,⟨hg3,hle⟩,by simp,?_⟩,hmono _⟩,?_⟩
  ·have e1:(Q1D ds ps).length=ds.length:=by simp [m.len]
   rw [Nat.mul_one] at hg6
   rw [e1]
   exact hg6
  ·refine hsub.app ?_
   intro p hp
   simp only [List.mem_singleton] at hp
   subst hp
   exact ⟨hg2,far _ hg1⟩
end
theorem Qgk {text:ByteArray} {k:Nat} {ds:List DefL} {σ σ1:St} {x:Mar.Word} (h:peek text σ = .ok (x,σ1)) (hk:((x.kind:Int) == 0)=true):Q15 text (k + 1) ds σ = .ok (ds,σ1):=by
 simp only [Q15]
 rw [Qh h,hk]
 rfl
theorem Qgl {text:ByteArray} {k:Nat} {ds:List DefL} {σ:St} {f:Mar.Fault} (h:peek text σ = .error f):Q15 text (k + 1) ds σ = .error f:=by
 simp only [Q15]
 exact Qp h
theorem Qgm {text:ByteArray} {k:Nat} {ds:List DefL} {σ σ1:St} {x:Mar.Word} (h:peek text σ = .ok (x,σ1)) (hk:((x.kind:Int) == 0)=false) {f:Mar.Fault} (hd:definition text σ1 = .error f):Q15 text (k + 1) ds σ = .error f:=by
 simp only [Q15]
 rw [Qh h,hk]
 exact Qp hd
theorem QhZ {text:ByteArray} {k:Nat} {ds:List DefL} {σ σ1 σ2:St} {x:Mar.Word} {d:DefL} (h:peek text σ = .ok (x,σ1)) (hk:((x.kind:Int) == 0)=false) (hd:definition text σ1 = .ok (d,σ2)) :
  Q15 text (k + 1) ds σ = Q15 text k (ds++[d]) { σ2 with names:=Q0N σ2.names (Qw d).1 d }:=by
 simp only [Q15]
 rw [Qh h,hk]
 exact Qh hd
structure Q5t (σ:St) (ds:List DefL):Prop where
 ty:σ.types≤24
 co:σ.consts≤40
 pr:σ.progs.length≤4
 few:ds.length≤σ.types + σ.consts + σ.progs.length
 nm:∀ n d,look σ.names n=some (some d)→d∈ds∨∃ t a v,d = .const t a v
theorem Q5t.le {σ σ':St} {ds:List DefL} (h:Q5t σ ds) (k:Le σ σ'):Q5t σ' ds:=by
 obtain ⟨k1,k2,k3,k4,k5,k6⟩:=k
 refine ⟨k4 h.ty,k5 h.co,by rw [k3];exact h.pr,by rw [k3];have:=h.few;omega,fun n d hd=>?_⟩
 rcases k6.2 n d hd with h' | h'
 ·exact h.nm n d h'
 ·exact Or.inr h'
theorem Q5t.step {text:ByteArray} {σ σ':St} {ds:List DefL} {d:DefL} (h:Q5t σ ds) (hd:definition text σ = .ok (d,σ')):Q5t { σ' with names:=Q0N σ'.names (Qw d).1 d } (ds++[d]):=by
 have hs:=Q9O hd
 have hk:=(Q63 text _ _ _ hd).2
 have hu:=hs.up
 have hf:=h.few
 refine ⟨hs.ty h.ty,hs.co h.co,hs.pr h.pr,by simp;omega,fun n e he=>?_⟩
 dsimp only at he
 rw [Q94] at he
 cases hl:look σ'.names n with
 | none=>rw [hl] at he;cases he
 | some o=>
  rw [hl] at he
  simp only [Option.map_some,Option.some.injEq] at he
  split at he
  ·cases he
   exact Or.inl (by simp)
  ·subst he
   rcases hk.2 n e hl with h' | h'
   ·rcases h.nm n e h' with h2 | h2
    ·exact Or.inl (List.mem_append_left _ h2)
    ·exact Or.inr h2
   ·exact Or.inr h'
theorem Q6G:∀ (ty:Ty) (m:List UInt8×Nat),m∈Q00 ty→m∈QP ty:=by
 intro ty
 induction ty with
 | named t a=>intro m h;exact h
 | arr o n f ih=>
  intro m h
  cases f with
  | true=>exact ih m (by simpa [Q00] using h)
  | false=>simp [Q00] at h
 | opt o ih=>intro m h;simp [Q00] at h
 | _=>intro m h;simp [Q00] at h
theorem Qi0 (d:DefL) (m:List UInt8×Nat) (h:m∈Q0E d):m∈Q1j d:=by
 cases d with
 | const t a v=>simp [Q0E] at h
 | typedef d=>exact Q6G _ _ h
 | enum t a ms=>simp [Q0E] at h
 | struct t a ms=>
  simp only [Q0E,List.mem_flatMap] at h
  obtain ⟨x,hx,hm⟩:=h
  exact List.mem_flatMap.2 ⟨x,hx,Q6G _ _ hm⟩
 | union t a s ar=>
  simp only [Q0E,List.mem_flatMap] at h
  obtain ⟨x,hx,hm⟩:=h
  exact List.mem_flatMap.2 ⟨x,hx,Q6G _ _ hm⟩
 | prog t a vs n=>simp [Q0E] at h
theorem Qgn {σ:St}:∀ (ns:List (List UInt8×Nat)) (u:Unit),Qo (Q0R ⟨0,0,0,0,[]⟩ ⟨#[]⟩ σ [] 0) ns u = .ok ()→∀ n∈ns,∃ d,look σ.names n.1=some (some d):=by
 intro ns
 induction ns with
 | nil=>intro u _ n hn;cases hn
 | cons m ns ih=>
  intro u h n hn
  simp only [Qo] at h
  have e1:(Q0R ⟨0,0,0,0,[]⟩ ⟨#[]⟩ σ [] 0).run m u=Q2h σ m:=rfl
  rw [e1] at h
  cases hl:Q2h σ m with
  | error f=>rw [hl] at h;cases h
  | ok v=>
   rw [hl] at h
   rcases List.mem_cons.1 hn with rfl | hn
   ·unfold Q2h at hl
    cases ho:look σ.names n.1 with
    | none=>rw [ho] at hl;cases hl
    | some o=>
     rw [ho] at hl
     cases o with
     | none=>simp [Q5G] at hl
     | some d=>exact ⟨d,rfl⟩
   ·exact ih _ h n hn
theorem Qcj {σ:St} {ds:List DefL} (h:Q3K σ ds = .ok ()):∀ d∈ds,∀ m∈Q0E d,∃ d',look σ.names m.1=some (some d'):=by
 intro d hd m hm
 exact Qgn _ _ h m (List.mem_flatMap.2 ⟨d,hd,Qi0 d m hm⟩)
theorem QeQ {σ:St} {ds:List DefL} (hi:Q5t σ ds) (h:Q3K σ ds = .ok ()):∀ n d,look σ.names n=some (some d)→∀ m∈Q0E d,∃ d',look σ.names m.1=some (some d'):=by
 intro n d hd m hm
 rcases hi.nm n d hd with h' | ⟨t,a,v,rfl⟩
 ·exact Qcj h d h' m hm
 ·simp [Q0E] at hm
theorem tx0:Q5t st0 []:=⟨by simp [st0],by simp [st0],by simp [st0],by simp,by intro n d h;simp [st0,look] at h⟩
theorem Qbo {A' A:Ad} (hA:Same A' A) {text:ByteArray} {σ:St} {w:World} (h:Rd A' text σ w) :
  Calls Tryz.prog 50 #[.pointer (some ⟨A.R,0,none⟩)] w (Q1m [A.R,A.S,A.N,A.P] A' text w (definition text σ)):=by
 have:=Qal h
 rw [hA.1,hA.2.1,hA.2.2.1,hA.2.2.2] at this
 exact this
def Q72 (text:ByteArray) (w:World) (e:Ending) (w':World):Prop:=
 (∃ ds sl ps bs,Q1H text = .ok ds∧e = .returned sl∧Qb [] w w'∧Q2v bs sl ds ps∧∀ p∈bs,w'.heap[p.1]? = some p.2)∨(∃ f,Q1H text = .error f∧Qb [] w w'∧Q0c w f.no f.at' e w')
theorem Qe0 {text:ByteArray} {f:Mar.Fault} (h:¬ 1200 < text.size) (hf:Q15 text 69 [] st0 = .error f):Q1H text = .error f:=by unfold Q1H;rw [if_neg h,hf]
theorem Qjl {text:ByteArray} {f:Mar.Fault} {ds:List DefL} {σ:St} (h:¬ 1200 < text.size) (hf:Q15 text 69 [] st0 = .ok (ds,σ)) (hl:Q3K σ ds = .error f):Q1H text = .error f:=by unfold Q1H;rw [if_neg h,hf];simp only [hl]
theorem Qjm {text:ByteArray} {f:Mar.Fault} {ds:List DefL} {σ:St} (h:¬ 1200 < text.size) (hf:Q15 text 69 [] st0 = .ok (ds,σ)) (hl:Q3K σ ds = .ok ()) (he:Q2i σ ds = .error f):Q1H text = .error f:=by unfold Q1H;rw [if_neg h,hf];simp only [hl,he]
theorem Qi1 {text:ByteArray} {ds:List DefL} {σ:St} (h:¬ 1200 < text.size) (hf:Q15 text 69 [] st0 = .ok (ds,σ)) (hl:Q3K σ ds = .ok ()) (he:Q2i σ ds = .ok ()):Q1H text = .ok ds:=by unfold Q1H;rw [if_neg h,hf];simp only [hl,he]
theorem Qi2 (text:ByteArray) {w:World} (hg:Gl w):Calls Tryz.prog 28 #[.string text] w (Q72 text w):=by
 have hmm:∀ (t:TypeId) (w:World),(Instr.makeMap t none).run Tryz.prog w = .ok (.map (some w.heap.size)) (w.alloc (.map #[] 0)):=fun _ _=>rfl
 have hft:=Qek
 have hfn:∀ (a b:Value) (W:World),(Instr.field 116 (.agg #[a,b]) 0).run Tryz.prog W = .ok a W:=fun _ _ _=>by kernel_rfl
 have htn:=Q1M
 obtain ⟨i0,hi0,hz0,hz1,hz2⟩:=info_parts Qjk
 by_cases hlong:1200 < text.size
 ·have HE:Hid (Q1H text = .error ⟨1,0⟩):=by show _=_;unfold Q1H;rw [if_pos hlong]
  have hlt:(1200:Int) < ↑text.size:=by omega
  go_enter Tryz.func28,Tryz.ntmps28
  go_wp2_with (go_at_call 47;refine (QY _ _ _).mono ?_;rintro e w' ⟨rfl,rfl⟩)
  exact Qa (Or.inr ⟨⟨1,0⟩,HE.out,(by first | exact (Qb.refl [] w).alloc _ | exact (Qb.refl [] w).drew.alloc _),w.heap.size,Nat.le_refl _,rfl,Qg rfl⟩)
 ·obtain ⟨hr0,hk0,hs0⟩:=Qjj text hg (by omega)
  have hnl:¬ (1200:Int) < ↑text.size:=by omega
  have HNL:=Hid.mk hlong
  have HR0:=Hid.mk hr0
  have HK0:=Hid.mk hk0
  have M0:Hid (Q21 (ad0 w) text (laid text w) [] [] [] [] (.slice none 0 0) st0 (laid text w)):=⟨Qb.refl _ _,hr0,by simp,(by intro g hg;cases hg),⟨rfl,Or.inl ⟨rfl,rfl⟩⟩,rfl,(by intro p hp;cases hp),(by intro i h;cases h)⟩
  clear hr0 hk0 hlong
  go_enter Tryz.func28,Tryz.ntmps28
  go_wp2_with (first | (go_at_call 48;refine (Qci _ _).mono ?_;rintro e w' ⟨rfl,rfl⟩))
  go_loopw [4] (fun sl ur=>∃ (ds:List DefL) (ps:List Nat) (bs:List (Nat×Obj)) (Y:List Nat) (σ':St),Hid (Q5t σ' ds)∧Hid (Q21 (ad0 w) text (laid text w) ds ps bs Y sl σ' ur)∧Hid (Q15 text 69 [] st0=Q15 text (69 - ds.length) ds σ')) (fun sl _=>69 - Qbr sl)
  case atStart=>exact ⟨[],[],[],[],st0,tx0,M0,rfl⟩
  case round=>
   obtain ⟨ds,ps,bs,Y,σ',I,M,E⟩:=hrel
   clear M0
   obtain ⟨ad,cap,rfl⟩:=M.out.slice
   have hlen:ds.length≤68:=by have h1:=I.out.few;have h2:=I.out.ty;have h3:=I.out.co;have h4:=I.out.pr;omega
   have EM:Hid (Q15 text 69 [] st0=Q15 text ((68 - ds.length) + 1) ds σ'):=by
    have h1:=E.out
    rw [show 69 - ds.length=(68 - ds.length) + 1 by omega] at h1
    exact h1
   have c0:wr.cell? ⟨w.heap.size + 3,0,none⟩=some (.pointer (some ⟨w.heap.size,0,none⟩)):=M.out.rd.cells.1
   clear E
   go_wp2_with fail
   refine (Qai (Same.plus (ad0 w) Y) M.out.rd).mono ?_
   rintro e w1 ⟨hk1,⟨x1,σ1,hx1,rfl,hr1⟩ | ⟨f,hx1,b,hbb,rfl,hcell⟩⟩
   rotate_left
   ·have hz:=M.out.kp.size
    exact (show bodyPost Tryz.prog Tryz.f28 (Q72 text w) (Exit.panic _) _ w1 from Qa (Or.inr ⟨f,Qe0 HNL.out (EM.out.trans (Qgl hx1)),(HK0.out.young M.out.kp (by intro m hm;simp [ad0] at hm;exact Or.inr (by omega))).young hk1 (by intro m hm;simp [ad0] at hm;exact Or.inr (by omega)),b,by omega,rfl,hcell⟩))
   have M1:=Hid.mk (M.out.turn HR0.out hk1 (by simp) hr1)
   have I1:=Hid.mk (I.out.le (Q6q _ _ _ _ hx1))
   clear hk1 hr1 M I
   dsimp only [QZ]
   cases hkind:((x1.kind:Int) == 0) with
   | true=>
    have hkn:((x1.kind:Int) != 0)=false:=by simp [bne,hkind]
    have hfin:=EM.out.trans (Qgk hx1 hkind)
    have HF:=Hid.mk hfin
    obtain ⟨bs',hdi,hhe⟩:=M1.out.lies HR0.out (by omega)
    have hrd:=Rd.dropAll HR0.out.mine M1.out.rd
    have HL:=Hid.mk (Q9T hrd hhe hdi)
    have HRD:=Hid.mk hrd
    have HHE:=Hid.mk hhe
    have HDI:=Hid.mk hdi
    clear hfin EM hrd hhe hdi
    go_wp2_with fail
    refine HL.out.mono ?_
    rintro e w2 (⟨hl2,rfl,hk2⟩ | ⟨f,hl2,hkE,b,hbb,rfl,hcell⟩)
    rotate_left
    ·have hz:=M1.out.kp.size
     exact (show bodyPost Tryz.prog Tryz.f28 (Q72 text w) (Exit.panic _) _ w2 from Qa (Or.inr ⟨f,Qjl HNL.out HF.out hl2,(HK0.out.young M1.out.kp (by intro m hm;simp [ad0] at hm;exact Or.inr (by omega))).trans hkE,b,by omega,rfl,hcell⟩))
    have hrd2:=HRD.out.quiet hk2
    obtain ⟨nd,bsn,vsn,g1,g2,g3,g4⟩:=hrd2.nm
    have hnw:Q3Z (ad0 w).X (ad0 w).N σ1.names ((bs++bs')++bsn) vsn w2:=⟨nd,(HHE.out.keeps hk2 (by simp)).app g1,g2,g3,fun i h h'=>Q1z.mono (fun p hp=>List.mem_append_right _ hp) (g4 i h h')⟩
    have hdi2:Q2v ((bs++bs')++bsn) (.slice ad ds.length cap) ds ps:=⟨HDI.out.len,HDI.out.row.mono (fun p hp=>List.mem_append_left _ hp),fun i h h'=>(show Q1z ((bs++bs')++bsn) (.iface (defT ds[i]) (.pointer (some ⟨ps[i],0,none⟩))) (some ds[i]) from Q1z.mono (fun p hp=>List.mem_append_left _ hp) ⟨_,rfl,HDI.out.each i h h'⟩).elim (fun b' hb'=>by obtain ⟨e1,e2⟩:=hb';cases e1;exact e2)⟩
    have HN:=Hid.mk (Q9V hrd2 hnw hdi2 (QeQ I1.out hl2) (Qcj hl2))
    have HE2:=Hid.mk (HHE.out.keeps hk2 (by simp))
    have HK2:=Hid.mk hk2
    have HL2:=Hid.mk hl2
    clear hrd2 nd g1 g2 g3 g4 hnw hdi2 hk2 hl2
    go_wp2_with fail
    refine HN.out.mono ?_
    rintro e w3 (⟨he3,rfl,hk3⟩ | ⟨f,he3,hkE,b,hbb,rfl,hcell⟩)
    rotate_left
    ·have hz:=M1.out.kp.size
     have hz2:=HK2.out.size
     exact (show bodyPost Tryz.prog Tryz.f28 (Q72 text w) (Exit.panic _) _ w3 from Qa (Or.inr ⟨f,Qjm HNL.out HF.out HL2.out he3,((HK0.out.young M1.out.kp (by intro m hm;simp [ad0] at hm;exact Or.inr (by omega))).trans HK2.out).trans hkE,b,by omega,rfl,hcell⟩))
    have HE3:=Hid.mk he3
    have HK3:=Hid.mk hk3
    clear he3 hk3
    go_wp2
    go_ret
    refine Or.inl ⟨ds,_,ps,bs++bs',Qi1 HNL.out HF.out HL2.out HE3.out,rfl,?_,HDI.out,fun p hp=>((HE2.out.keeps HK3.out (by simp)) p hp).1⟩
    exact ((HK0.out.young M1.out.kp (by intro m hm;simp [ad0] at hm;exact Or.inr (by omega))).trans HK2.out).trans HK3.out
   | false=>
    have hkn:((x1.kind:Int) != 0)=true:=by simp [bne,hkind]
    have hx0:=hx1
    go_wp2_with fail
    refine (Qbo (Same.plus (ad0 w) Y) M1.out.rd).mono ?_
    rintro e w2 ⟨hk2,⟨d,σ2,b2,bs2,hx2,rfl,hr2,hd2,hh2⟩ | ⟨f,hx2,b,hbb,rfl,hcell⟩⟩
    rotate_left
    ·have hz:=M1.out.kp.size
     exact (show bodyPost Tryz.prog Tryz.f28 (Q72 text w) (Exit.panic _) _ w2 from Qa (Or.inr ⟨f,Qe0 HNL.out (EM.out.trans (Qgm hx1 hkind hx2)),(HK0.out.young M1.out.kp (by intro m hm;simp [ad0] at hm;exact Or.inr (by omega))).young hk2 (by intro m hm;simp [ad0] at hm;exact Or.inr (by omega)),b,by omega,rfl,hcell⟩))
    have M2:=M1.out.turn HR0.out hk2 (by simp) hr2
    have I2:=Hid.mk (I1.out.step hx2)
    have E2:=Hid.mk (EM.out.trans (QhZ hx1 hkind hx2))
    obtain ⟨o2,ho2⟩:=Option.isSome_iff_exists.1 (Q63 text _ _ _ hx2).1
    have M3:=M2.below HR0.out (Below.refl _ _).drew
    have hh3:=hh2.keeps (Qb.of_below [] (Below.refl w2.heap.size w2).drew) (by simp)
    have htr:=Q2U hd2 hh3
    have c2:w2.cell? ⟨w.heap.size + 3,1,none⟩=some (.map (some (w.heap.size + 1))):=hr2.cells.2.1
    have HM3:=Hid.mk M3
    have HH3:=Hid.mk hh3
    have HD2:=Hid.mk hd2
    have lR:w.heap.size + 3 < w2.heap.size:=hr2.lt.1
    clear EM hk2 hr2 hh2 M1 I1 M2 M3 hh3 c0
    go_wp2_with fail
    refine Qu (fun w'=>w'.cell? ⟨w.heap.size + 3,1,none⟩=some (.map (some (w.heap.size + 1)))) (L:=8) (by kernel_rfl) rfl (by kernel_rfl) (by kernel_rfl) ?_ (fun hHeld=>?_)
    ·go_keep
    refine tk (i:=0) (v:=?_) rfl (by kernel_rfl) (fun _ _ _ h=>h) (by rfl) (by assumption) ?_ ?_
    rotate_left
    ·intro w hSw;(try dsimp only at hSw);go_simp;(try with_reducible rfl)
    (try simp only [Qd,Qe,List.set])
    refine tk (i:=1) (v:=?_) rfl (by kernel_rfl) (fun _ _ _ h=>h) (by rfl) (by assumption) ?_ ?_
    rotate_left
    ·intro w hSw;(try dsimp only at hSw);go_simp;(try with_reducible rfl)
    (try simp only [Qd,Qe,List.set])
    refine tk (i:=2) (v:=?_) rfl (by kernel_rfl) (fun _ _ _ h=>h) (by rfl) (by assumption) ?_ ?_
    rotate_left
    ·intro w hSw;(try dsimp only at hSw);go_simp;(try with_reducible rfl)
    (try simp only [Qd,Qe,List.set])
    refine tk (i:=3) (v:=?_) rfl (by kernel_rfl) (fun _ _ _ h=>h) (by rfl) (by assumption) ?_ ?_
    rotate_left
    ·intro w hSw;(try dsimp only at hSw);go_simp;(try with_reducible rfl)
    (try simp only [Qd,Qe,List.set])
    refine tk (i:=4) (v:=?_) rfl (by kernel_rfl) (fun _ _ _ h=>h) (by rfl) (by assumption) ?_ ?_
    rotate_left
    ·intro w hSw;(try dsimp only at hSw);go_simp;(try with_reducible rfl)
    (try simp only [Qd,Qe,List.set])
    refine tk (i:=7) (v:=?_) rfl (by kernel_rfl) (fun _ _ _ h=>h) (by rfl) (by assumption) ?_ ?_
    rotate_left
    ·intro w hSw;(try dsimp only at hSw);go_simp;(try with_reducible rfl)
    (try simp only [Qd,Qe,List.set])
    refine wpAnyH_ready (rs:=[5]) (by kernel_rfl) (by simp) ?_
    refine AllReadyH.cons rfl (fun K hK=>?_) AllReadyH.nil
    (go_simp;go_at_call 238;refine (Q2R _ _ _).mono ?_;rintro e w6 ⟨rfl,hb6⟩;have M6:=HM3.out.below HR0.out hb6;have c6:w6.cell? ⟨w.heap.size + 3,1,none⟩=some (.map (some (w.heap.size + 1))):=M6.rd.cells.2.1;have hh6:=HH3.out.keeps (Qb.of_below [] hb6) (by simp);obtain ⟨ob,hput,hnm⟩:=Q1p.set M6.rd.nm M6.rd.mine.2.2.1 ho2 HD2.out hh6;have hrp:=Rd.putNames M6.rd hnm;have M7:=Hid.mk (M6.turn HR0.out (Q06 _ _ _) (by intro x hx;simp only [List.mem_singleton] at hx;subst hx;simp [Ad.plus]) hrp);have HH7:=Hid.mk (hh6.keeps (Q06 w6 (w.heap.size + 1) ob) (by intro x hx;simp only [List.mem_singleton] at hx;subst hx;exact M6.rd.mine.2.2.1));dsimp only [Ad.plus,ad0] at hput;clear hb6 M6 hh6 hnm hrp)
    refine hK.out _ _ ?_ (fun hHeld=>?_)
    ·go_keep
    clear hK K
    (try simp only [Qd,Qe,List.set])
    refine tk (i:=6) (v:=?_) rfl (by kernel_rfl) (fun _ _ _ h=>h) (by rfl) (by assumption) ?_ ?_
    rotate_left
    ·intro w hSw;(try dsimp only at hSw);go_simp;(try with_reducible rfl)
    (try simp only [Qd,Qe,List.set])
    refine wpAnyH_done (by kernel_rfl) ?_ _
    refine QB rfl (fun K hK=>?_)
    go_simp
    refine hK.out _ _ ?_
    clear hK K
    (try simp only [Qd,Qe,List.set])
    obtain ⟨w7,hw7⟩:∃ w7,w7=Q04 w6 (w.heap.size + 1) ob:=⟨_,rfl⟩
    rw [← hw7]
    have M8:Hid (Q21 (ad0 w) text (laid text w) ds ps bs Y (.slice ad ds.length cap) { σ2 with names:=Q0N σ2.names (Qw d).1 d } w7):=by rw [hw7];exact M7
    have HH8:Hid (Held ((ad0 w).plus Y).X bs2 w7):=by rw [hw7];exact HH7
    clear M7 HH7 hput hw7 htr HM3 HH3
    have hown5:∀ ob,(w7.alloc ob).ownsRow (laid text w).heap.size 113 1 (.slice ad ds.length cap) ds.length (Q1D ds ps):=fun ob=>M8.out.rowAt ob
    have hwl:(laid text w).heap.size≤w7.heap.size:=M8.out.kp.size
    have hl1:ds.length + 1≤maxLen:=by unfold maxLen;omega
    have hl2:(ds.length + 1) * 16≤140737488355328:=by omega
    have hz3:Value.nilIface.cells.size=1:=rfl
    go_wp2_with (first
     | (at_builtin;refine wpList_append_lies _ (by rfl) _ _ _ (by rfl) (laid text w).heap.size 113 i0 _ 1 16 Tryz.underlying60 hi0 hz0 hz1 hz2 hz3 (by omega) (.slice ad ds.length cap) ds.length (Q1D ds ps) (by rfl) (hown5 _) ⟨w7.heap.size,0,none⟩ 1 1 [.iface (defT d) (.pointer (some ⟨b2,0,none⟩))] (by rfl) (by rfl) (World.news_of_block (cs:=#[.iface (defT d) (.pointer (some ⟨b2,0,none⟩))]) (t:=113) (fr:=(0,0)) (heap_alloc_new w7 _)) (by simp [Value.oneCell']) (by omega) hl1 hl2 (by simp;omega) (w7.heap.size + 1) (by simp) ?_;intro g cap' w8 hown8 hgrow hat hlt))
    have M9:=Hid.mk (Q21.step HR0.out M8.out HD2.out HH8.out ((Below.refl w7.heap.size w7).alloc (Nat.le_refl _) _) hown8 hgrow (by simpa using hat) hlt)
    have E9:Hid (Q15 text 69 [] st0=Q15 text (69 - (ds++[d]).length) (ds++[d]) { σ2 with names:=Q0N σ2.names (Qw d).1 d }):=by
     have h1:=E2.out
     rw [show 68 - ds.length=69 - (ds++[d]).length by simp] at h1
     exact h1
    exact ⟨⟨ds++[d],ps++[b2],bs++bs2,g :: Y,_,I2,M9,E9⟩,by simp [Qbr];omega⟩
end Go.Proofs.YtmbcibgknckenaaGreatDoor
namespace Go.Proofs.YtmbcibgknckenaaGreatDoor
open Go.RowKit Go.Shelf
theorem Qe1:(Tryz.prog.info? 92).map (·.size)=some 2:=by kernel_rfl
theorem Qjn:liesAt Tryz.prog Tryz.prog.depth 92 (2 / Tryz.prog.cellsOf 92) 0 92 1=true:=by kernel_rfl
theorem Qjo:(Tryz.prog.info? 5).map (fun i=>(i.zero,i.size,i.bytes))=some (some (Value.int .u8 0),1,1):=by kernel_rfl
theorem QeR (b:Nat) (w:World) (h0:w.cell? ⟨b,0,none⟩=some (.pointer (some ⟨b,0,none⟩))) :
  Calls Tryz.prog 83 #[.pointer (some ⟨b,0,none⟩)] w fun e w'=>e = .returned (.tuple #[])∧w'=w:=by
 obtain ⟨j,hj,_⟩:=Option.map_eq_some_iff.1 Qe1
 have hne:=fun u a=>Lib.run_neq_ptr_same (P:=Tryz.prog) u (tp:=89) a Tryz.underlying89 hj
 go_enter Tryz.func83,Tryz.ntmps83
 go_wp2
 go_end0
 exact ⟨rfl,rfl⟩
theorem Qdv (b:Nat) (w:World) (h0:w.cell? ⟨b,0,none⟩=some (.pointer none)) (hsh:w.shape? b=some (92,2)) (hfz:w.frozen? ⟨b,0,none⟩=false) :
  Calls Tryz.prog 83 #[.pointer (some ⟨b,0,none⟩)] w fun e w'=>e = .returned (.tuple #[])∧w'=w.setCell ⟨b,0,none⟩ (.pointer (some ⟨b,0,none⟩)):=by
 obtain ⟨j,hj,hjs⟩:=Option.map_eq_some_iff.1 Qe1
 go_enter Tryz.func83,Tryz.ntmps83
 go_wp2
 rw [Lib.run_to_unsafe w ⟨b,0,none⟩ Tryz.underlying89 Tryz.underlying145 hj (by rw [hjs];decide) hsh (Nat.zero_lt_succ 1)]
 simp only [Result.andThen]
 rw [Oper.upon_value]
 go_wp2
 rw [run_callFunc_extern Tryz.func115 (by kernel_rfl) (by kernel_rfl) (by kernel_rfl) (e:=Extern.AbiNoEscape.same) (by kernel_rfl)]
 rw [Lib.run_noEscape]
 simp only [Result.andThen]
 rw [Oper.upon_value]
 go_wp2
 rw [Lib.run_from_unsafe w ⟨b,0,none⟩ Tryz.underlying145 Tryz.underlying89 hj hsh Qjn]
 simp only [Result.andThen]
 rw [Oper.upon_value]
 go_wp2
 go_end0
 exact ⟨rfl,rfl⟩
structure BdAt (base b:Nat) (l:List UInt8) (v:Value) (u:World):Prop where
 box:∃ p,(p = .pointer none∨p = .pointer (some ⟨b,0,none⟩))∧u.heap[b]? = some (.cells #[p,v] 92)
 row:u.ownsRow base 5 1 v l.length (Lib.byteCells l)
 old:base≤u.heap.size
theorem BdAt.ne {base b:Nat} {l:List UInt8} {v:Value} {u:World} (h:BdAt base b l v u):∀ g,v.ownBlock=some g→∀ (cs:Array Value) (T:TypeId),u.heap[g]? = some (.cells cs T)→T=5:=by
 intro g hg cs T hc
 rcases h.row.2 with ⟨h0,_⟩ | ⟨g',cap,cur,h0,_,h2,_⟩
 ·rw [h0] at hg;cases hg
 ·rw [h0] at hg;cases hg;rw [h2] at hc;cases hc;rfl
theorem BdAt.own_ne {base b:Nat} {l:List UInt8} {v:Value} {u:World} (h:BdAt base b l v u):b ∉ v.ownBlock.toList:=by
 intro hm
 obtain ⟨p,_,hb⟩:=h.box
 have:=h.ne b (by simpa using hm) _ _ hb
 cases this
theorem Qgo {base b:Nat} {l:List UInt8} {v:Value} {u:World} (h:BdAt base b l v u) :
  Calls Tryz.prog 83 #[.pointer (some ⟨b,0,none⟩)] u fun e u'=>e = .returned (.tuple #[])∧u'.heap[b]? = some (.cells #[.pointer (some ⟨b,0,none⟩),v] 92)∧u'.ownsRow base 5 1 v l.length (Lib.byteCells l)∧Qb [b] u u'∧u'.heap.size=u.heap.size:=by
 obtain ⟨p,hp,hb⟩:=h.box
 have hb':=Qc hb
 rcases hp with rfl | rfl
 ·refine (Qdv b u (by simp [World.cell?,hb]) (by simp [World.shape?,hb]) (by simp [World.frozen?,hb])).mono ?_
  rintro e u' ⟨rfl,rfl⟩
  have hk:=(Qb.refl [b] u).setIn (p:=⟨b,0,none⟩) (by simp) (.pointer (some ⟨b,0,none⟩))
  refine ⟨rfl,?_,Qk h.row hk (fun g hg hm=>h.own_ne (by have e:g=b:=(by simpa using hm);rw [hg,← e];simp)),hk,by simp⟩
  have:=Qn (i:=0) hb (.pointer (some ⟨b,0,none⟩))
  simpa using this
 ·refine (QeR b u (by simp [World.cell?,hb])).mono ?_
  rintro e u' ⟨rfl,rfl⟩
  exact ⟨rfl,hb,h.row,Qb.refl _ _,rfl⟩
end Go.Proofs.YtmbcibgknckenaaGreatDoor
namespace Go.Proofs.YtmbcibgknckenaaGreatDoor
open Go.RowKit
open Go.MapKept
structure NumL where
 low:Int
 high:Int
 mem:Option (List Int)
 wide:Bool
inductive Qj where
 | hole
 | call (dest:Nat)
 | ret
 | fin
 | jump (dest:Nat)
 | num (n:NumL)
 | text (n:Int) (f:Bool)
 | struct (n:Int) (f:Bool)
 | array (n:Int) (f:Bool) (dest:Nat)
 | again
 | choice (n:NumL) (ways:List (Int×Nat×Nat)) (other:Option (Nat×Nat))
def mput {κ α:Type} [DecidableEq κ] (l:List (κ×α)) (k:κ) (v:α):List (κ×α):=if k∈l.map (·.1) then l.map fun p=>if p.1=k then (k,v) else p else l++[(k,v)]
theorem Qgp {κ α:Type} [DecidableEq κ] (l:List (κ×α)) (k:κ) (v:α):(mput l k v).map (·.1)=if k∈l.map (·.1) then l.map (·.1) else l.map (·.1)++[k]:=by
 unfold mput
 split
 ·rw [List.map_map]
  apply List.map_congr_left
  intro p _
  simp only [Function.comp]
  split
  ·rename_i h;exact h.symm
  ·rfl
 ·simp
theorem Q2x {κ α:Type} [DecidableEq κ] {l:List (κ×α)} (h:(l.map (·.1)).Nodup) (k:κ) (v:α):((mput l k v).map (·.1)).Nodup:=by
 rw [Qgp]
 split
 ·exact h
 ·rename_i hk
  rw [List.nodup_append]
  refine ⟨h,by simp,?_⟩
  intro a ha b hb e
  simp at hb
  subst hb
  subst e
  exact hk ha
structure CSt where
 code:List Qj
 bodies:List (List UInt8×Nat)
 enums:List (List UInt8×NumL)
 calls:List (Nat×List UInt8)
def putM (x:Qj) (s:CSt):CSt:={ s with code:=s.code++[x] }
def setM (i:Nat) (x:Qj) (s:CSt):CSt:={ s with code:=s.code.set i x }
def Q2m (n:List UInt8) (s:CSt):CSt:={ s with code:=s.code++[.call 0],calls:=s.calls++[(s.code.length,n)] }
def Q85 (n:List UInt8) (s:CSt):CSt:=putM .fin (Q2m n s)
def QJ (k:Nat):NumL:=if k=0 then ⟨-2147483648,2147483647,none,false⟩ else if k=1 then ⟨0,4294967295,none,false⟩ else if k=4 then ⟨0,1,none,false⟩ else ⟨-9223372036854775808,9223372036854775807,none,true⟩
def Flat:Ty→Prop
 | .arr _ _ _=>False
 | .opt _=>False
 | _=>True
def Q0I:Ty→Prop
 | .arr o _ _=>Flat o
 | .opt o=>Flat o
 | _=>True
def QL:Ty→CSt→CSt
 | .named t _,s=>Q2m t s
 | .plain k,s=>putM (.num (QJ k)) s
 | .opaq n f,s=>putM (.text n f) s
 | .str n f,s=>putM (.text n f) s
 | .arr o n f,s=>setM s.code.length (.array n f ((QL o (putM .hole s)).code.length + 1)) (putM .again (QL o (putM .hole s)))
 | .opt o,s=>setM s.code.length (.choice (QJ 4) [(0,(QL o (putM .hole s)).code.length,0),(1,s.code.length + 1,1)] none) (QL o (putM .hole s))
 | .void,s=>s
def Q5I:NumL:=⟨0,0,none,false⟩
def Q0n (s:CSt):Ty→NumL
 | .named t _=>(look s.enums t).getD Q5I
 | .plain k=>QJ k
 | _=>Q5I
def Q3v:Ty→Bool
 | .void=>true
 | _=>false
def wayM (d:Qq) (s:CSt):Nat×Nat:=(s.code.length,if Q3v d.ty then 0 else 1)
def armM (d:Qq) (s:CSt):CSt:=QL d.ty s
def Q0p (ms:List (List UInt8×Nat×Int)):NumL:=⟨-2147483648,2147483647,if ms=[] then none else some (ms.map (·.2.2)),false⟩
def Q1I (ms:List Qq) (s:CSt):CSt:=ms.foldl (fun s m=>QL m.ty s) (putM (.struct ms.length true) s)
structure USt where
 s:CSt
 ways:List (Int×Nat×Nat)
 other:Option (Nat×Nat)
 ends:List Nat
def uArm (q:USt) (a:List Int×Qq):USt:=
 { s:=putM (.jump 0) (armM a.2 q.s),ways:=a.1.foldl (fun l n=>mput l n (wayM a.2 q.s)) q.ways,other:=if a.1=[] then some (wayM a.2 q.s) else q.other,ends:=q.ends++[(armM a.2 q.s).code.length] }
def Q1Q (l:List Nat) (s:CSt):CSt:=l.foldl (fun s e=>setM e (.jump s.code.length) s) s
def Q40 (sel:Qq) (arms:List (List Int×Qq)) (s:CSt):CSt:=
 let q:=arms.foldl uArm ⟨putM .hole s,[],none,[]⟩
 Q1Q q.ends (setM s.code.length (.choice (Q0n s sel.ty) q.ways q.other) q.s)
def Q38 (n:List UInt8) (at':Nat) (s:CSt):CSt:={ putM .ret s with bodies:=mput s.bodies n at' }
def QH (d:DefL) (s:CSt):CSt:=match d with
 | .typedef d=>Q38 d.t s.code.length (QL d.ty s)
 | .enum t _ ms=>Q38 t s.code.length (putM (.num (Q0p ms)) { s with enums:=mput s.enums t (Q0p ms) })
 | .struct t _ ms=>Q38 t s.code.length (Q1I ms s)
 | .union t _ sel arms=>Q38 t s.code.length (Q40 sel arms s)
 | _=>s
def Q6v (s:CSt):CSt:=s.calls.foldl (fun s k=>setM k.1 (.call ((look s.bodies k.2).getD 0)) s) s
def st0C:CSt:=⟨[],[],[],[]⟩
def QD (p:CSt×List (List UInt8×Nat)) (d:DefL):CSt×List (List UInt8×Nat):=
 if (look p.1.bodies (Qw d).1).isSome then (Q85 (Qw d).1 p.1,mput p.2 (Qw d).1 p.1.code.length) else p
def startT (t:Ty) (s:CSt):CSt:=putM .fin (QL t s)
def u32 (n:Int):Int:=n % 4294967296
def Q0Q (q:CSt×List (Int×Nat×Nat)) (p:Q1Y):CSt×List (Int×Nat×Nat):=
 (startT p.res (startT p.arg q.1),mput q.2 (u32 p.num) (q.1.code.length,(startT p.arg q.1).code.length))
def Q3w (v:Q0d) (s:CSt):CSt×List (Int×Nat×Nat):=v.procs.foldl Q0Q (s,[])
structure PrgL where
 lo:Int
 hi:Int
 vs:List (Int×List (Int×Nat×Nat))
def Q1E (q:CSt×PrgL) (v:Q0d):CSt×PrgL:=
 ((Q3w v q.1).1,⟨min q.2.lo (u32 v.num),max q.2.hi (u32 v.num),mput q.2.vs (u32 v.num) (Q3w v q.1).2⟩)
def Q4c (vs:List Q0d) (s:CSt):CSt×PrgL:=
 vs.foldl Q1E (s,⟨(vs.head?.map fun v=>u32 v.num).getD 0,(vs.head?.map fun v=>u32 v.num).getD 0,[]⟩)
def Q08 (q:CSt×List (Int×PrgL)) (d:DefL):CSt×List (Int×PrgL):=match d with
 | .prog _ _ vs num=>((Q4c vs q.1).1,mput q.2 (u32 num) (Q4c vs q.1).2)
 | _=>q
def Qck (ds:List DefL):CSt×List (List UInt8×Nat):=ds.foldl QD (ds.foldl (fun s d=>QH d s) st0C,[])
def Q3k (ds:List DefL):CSt×List (Int×PrgL):=ds.foldl Q08 ((Qck ds).1,[])
def Q09 (ds:List DefL):List Qj×List (List UInt8×Nat):=((Q6v (Q3k ds).1).code,(Qck ds).2)
def Q3i (l:List (Value×Value)):Obj:=.map (l.mapIdx fun i p=>⟨p.1,p.2,i⟩).toArray l.length
abbrev Q4B (n:Nat):Value:=.int .i64 n
def Q0O (l:List (Int×Nat×Nat)):Obj:=Q3i (l.map fun p=>(.int .i64 p.1,.agg #[.int .i64 p.2.1,.int .i64 p.2.2]))
def Q1c (l:List (List UInt8×Nat)):Obj:=Q3i (l.map fun p=>(.string ⟨p.1.toArray⟩,.int .i64 p.2))
def Qbs (bs:List (Nat×Obj)) (v:Value):Option (List Int)→Prop
 | none=>v = .slice none 0 0
 | some l=>l≠[]∧Q0u bs 2 v l.length (l.map fun n=>Value.int .i64 n)
def Q16 (bs:List (Nat×Obj)) (cs:List Value) (n:NumL):Prop:=∃ m,cs=[.int .i64 n.low,.int .i64 n.high,m,.bool n.wide]∧Qbs bs m n.mem∧∃ a b c,m = .slice a b c
def Q2M (bs:List (Nat×Obj)) (v:Value):Option (Nat×Nat)→Prop
 | none=>v = .pointer none
 | some q=>∃ b,v = .pointer (some ⟨b,0,none⟩)∧(b,Obj.cells #[.int .i64 q.1,.int .i64 q.2] 323)∈bs
def Q1X (bs:List (Nat×Obj)) (v:Value):Qj→Prop
 | .hole=>∃ T x,v = .iface T x
 | .call dest=>v = .iface 224 (.agg #[.int .i64 dest])
 | .ret=>v = .iface 210 (.agg #[])
 | .fin=>v = .iface 326 (.agg #[])
 | .jump dest=>v = .iface 325 (.agg #[.int .i64 dest])
 | .num n=>∃ cs,v = .iface 200 (.agg cs.toArray)∧Q16 bs cs n
 | .text n f=>v = .iface 308 (.agg #[.int .i64 n,.bool f])
 | .struct n f=>v = .iface 316 (.agg #[.int .i64 n,.bool f])
 | .array n f dest=>v = .iface 345 (.agg #[.int .i64 n,.bool f,.int .i64 dest])
 | .again=>v = .iface 346 (.agg #[])
 | .choice n ws o=>∃ cs m ov,v = .iface 321 (.agg (cs++[.map (some m),ov]).toArray)∧Q16 bs cs n∧(m,Q0O ws)∈bs∧Q2M bs ov o
theorem Q0u.more {bs bs':List (Nat×Obj)} (hb:∀ p∈bs,p∈bs') {e:TypeId} {v:Value} {n:Nat} {xs:List Value} (h:Q0u bs e v n xs):Q0u bs' e v n xs:=by
 rcases h with h | ⟨g,cap,cur,h1,h2,h3,h4⟩
 ·exact Or.inl h
 ·exact Or.inr ⟨g,cap,cur,h1,h2,hb _ h3,h4⟩
theorem Q16.more {bs bs':List (Nat×Obj)} (hb:∀ p∈bs,p∈bs') {cs:List Value} {n:NumL} (h:Q16 bs cs n):Q16 bs' cs n:=by
 obtain ⟨m,h1,h2,h3⟩:=h
 refine ⟨m,h1,?_,h3⟩
 cases hm:n.mem with
 | none=>rw [hm] at h2;exact h2
 | some l=>rw [hm] at h2;exact ⟨h2.1,h2.2.more hb⟩
theorem Q1X.more {bs bs':List (Nat×Obj)} (hb:∀ p∈bs,p∈bs') {v:Value} {x:Qj} (h:Q1X bs v x):Q1X bs' v x:=by
 cases x with
 | num n=>obtain ⟨cs,h1,h2⟩:=h;exact ⟨cs,h1,h2.more hb⟩
 | choice n ws o=>
  obtain ⟨cs,m,ov,h1,h2,h3,h4⟩:=h
  refine ⟨cs,m,ov,h1,h2.more hb,hb _ h3,?_⟩
  cases o with
  | none=>exact h4
  | some q=>obtain ⟨b,h5,h6⟩:=h4;exact ⟨b,h5,hb _ h6⟩
 | _=>exact h
theorem Q1X.iface {bs:List (Nat×Obj)} {v:Value} {x:Qj} (h:Q1X bs v x):∃ T y,v = .iface T y:=by
 cases x with
 | hole=>exact h
 | num n=>obtain ⟨cs,h1,_⟩:=h;exact ⟨_,_,h1⟩
 | choice n ws o=>obtain ⟨cs,m,ov,h1,_⟩:=h;exact ⟨_,_,h1⟩
 | _=>exact ⟨_,_,h⟩
section
variable {P : Program} {w : World}
theorem Qi3 {T kt et:TypeId} {d:TypeDesc} (ht:P.underlying T=some (.map kt et)) (hd:P.underlying kt=some d) {k:Value} (hk:IsKey d k) (hst:Instr.keyThatStays k k=pure k) {N:Nat} {es:Array MapEntry} {clock:Nat}
  (hb:w.heap[N]? = some (.map es clock)) (hes:∀ x∈es.toList,IsKey d x.key) (hin:∃ x∈es.toList,x.key=k) (v:Value) :
  ∃ (j:Nat) (e:MapEntry),es.toList[j]? = some e∧e.key=k ∧
   (Instr.mapUpdate T (.map (some N)) k v).run P w = .ok () (Q04 w N (.map (es.modify j fun e=>{ e with key:=k,val:=v }) clock)):=by
 have hck:=fun b=>MapKept.run_checkKey (w:=w) hd hk b 9999
 rcases findNow_spec hk es.toList 0 hes with ⟨h1,h2⟩ | ⟨j,e,h1,h2,h3⟩
 ·obtain ⟨x,hx,hxk⟩:=hin
  exact absurd hxk (h2 x hx)
 ·refine ⟨j,e,h2,h3,?_⟩
  have hj:es[j]? = some e:=by simpa using h2
  simp [Instr.mapUpdate,Instr.findKey,run_underlying ht,run_underlying hd,MapKept.run_getObj_map hb,hck,h1,hj,h3,hst,MapKept.run_setObj_map _ hb,Result.andThen]
theorem Q64 (s:ByteArray):Instr.keyThatStays (.string s) (.string s)=pure (.string s):=by
 unfold Instr.keyThatStays
 rw [if_pos (by show (s == s)=true;exact (MapKept.bytes_beq s s).2 rfl)]
theorem Qgq (n:Int):Instr.keyThatStays (.int .i64 n) (.int .i64 n)=pure (.int .i64 n):=by
 unfold Instr.keyThatStays
 rw [if_pos (by show ((IntKind.i64 == IntKind.i64) && (n == n))=true;simp)]
theorem Q39 {κ α:Type} [DecidableEq κ] {T kt et:TypeId} {d:TypeDesc} (ht:P.underlying T=some (.map kt et)) (hd:P.underlying kt=some d) (K:κ→Value) (V:α→Value) (hK:∀ k,IsKey d (K k)) (hS:∀ k,Instr.keyThatStays (K k) (K k)=pure (K k)) (hI:∀ a b,K a=K b→a=b)
  {N:Nat} {l:List (κ×α)} (hb:w.heap[N]? = some (Q3i (l.map fun p=>(K p.1,V p.2)))) (nd:(l.map (·.1)).Nodup) (k:κ) (v:α) :
  (Instr.mapUpdate T (.map (some N)) (K k) (V v)).run P w = .ok () (Q04 w N (Q3i ((mput l k v).map fun p=>(K p.1,V p.2)))):=by
 have hes:∀ x∈((l.map fun p=>(K p.1,V p.2)).mapIdx fun i p=>(⟨p.1,p.2,i⟩:MapEntry)).toArray.toList,IsKey d x.key:=by
  intro x hx
  simp only [List.toList_toArray] at hx
  obtain ⟨i,hi,rfl⟩:=List.mem_mapIdx.1 hx
  simp only [List.getElem_map]
  exact hK _
 by_cases hin:k∈l.map (·.1)
 ·obtain ⟨p,hp,hpk⟩:=List.mem_map.1 hin
  obtain ⟨i,hi,rfl⟩:=List.getElem_of_mem hp
  obtain ⟨j,e,g1,g2,hrun⟩:=Qi3 ht hd (hK k) (hS k) hb hes ⟨⟨K l[i].1,V l[i].2,i⟩,by
    simp only [List.toList_toArray]
    rw [List.mem_mapIdx]
    exact ⟨i,by simpa using hi,by simp⟩,by simp [hpk]⟩ (V v)
  rw [hrun]
  simp only [List.toList_toArray,List.getElem?_mapIdx] at g1
  have hj:j < l.length:=by
   by_cases hj:j < l.length
   ·exact hj
   ·rw [List.getElem?_eq_none (by simp;omega)] at g1
    cases g1
  rw [List.getElem?_eq_getElem (by simpa using hj)] at g1
  simp at g1
  subst g1
  simp only at g2
  have hij:i=j:=by
   have hq:(l.map (·.1))[i]'(by simpa using hi)=(l.map (·.1))[j]'(by simpa using hj):=by simp [hpk,hI _ _ g2]
   exact Q57 nd _ _ _ _ hq
  subst hij
  refine congrArg (fun o=>Result.ok () (Q04 w N o)) ?_
  unfold Q3i mput
  rw [if_pos hin]
  simp only [List.length_map]
  refine congrArg (fun a=>Obj.map a _) ?_
  apply Array.ext'
  simp only [Array.toList_modify]
  apply List.ext_getElem
  ·simp
  ·intro m hm1 hm2
   have hm:m < l.length:=by simp at hm2;omega
   by_cases hmi:i=m
   ·subst hmi
    simp [List.getElem_modify,hpk]
   ·have hne:¬ l[m].1=k:=fun e=>hmi (Q57 nd i m (by simpa using hi) (by simpa using hm) (by simp [hpk,e]))
    simp [List.getElem_modify,hmi,hne]
 ·have hrun:=Q8l ht hd (hK k) hb hes (by
   intro x hx e
   simp only [List.toList_toArray] at hx
   obtain ⟨i,hi,rfl⟩:=List.mem_mapIdx.1 hx
   simp only [List.getElem_map] at e
   exact hin (List.mem_map.2 ⟨l[i]'(by simpa using hi),List.getElem_mem _,hI _ _ e⟩)) (V v)
  rw [hrun]
  refine congrArg (fun o=>Result.ok () (Q04 w N o)) ?_
  unfold Q3i mput
  rw [if_neg hin]
  simp [List.mapIdx_append]
def Qy {κ α:Type} [DecidableEq κ] (l:List (κ×α)) (k:κ):Option α:=(l.find? fun p=>p.1 == k).map (·.2)
theorem QeS {κ α:Type} [DecidableEq κ] {l:List (κ×α)} {k:κ} (h:∀ p∈l,p.1≠k):Qy l k=none:=by
 unfold Qy
 rw [List.find?_eq_none.2 (fun p hp=>by simp [h p hp])]
 rfl
theorem Q9Y {κ α:Type} [DecidableEq κ] {l:List (κ×α)} {k:κ} (hnd:(l.map (·.1)).Nodup) {p:κ×α} (hp:p∈l) (hk:p.1=k):Qy l k=some p.2:=by
 induction l with
 | nil=>cases hp
 | cons q t ih=>
  unfold Qy
  simp only [List.map_cons,List.nodup_cons] at hnd
  rcases List.mem_cons.1 hp with rfl | hp
  ·simp [hk]
  ·have hq:q.1≠k:=fun e=>hnd.1 (by rw [e,← hk];exact List.mem_map_of_mem hp)
   have:=ih hnd.2 hp
   unfold Qy at this
   simp only [List.find?_cons,beq_eq_false_iff_ne.2 hq]
   exact this
theorem Q4C {α:Type} (l:List (List UInt8×α)) (k:List UInt8):look l k=Qy l k:=by
 unfold look Qy
 refine congrArg (fun q=>Option.map _ (List.find? q l)) ?_
 funext p
 rw [Bool.eq_iff_iff]
 simp only [beq_iff_eq]
theorem Q2H {κ α:Type} [DecidableEq κ] {T kt et:TypeId} {d:TypeDesc} (ht:P.underlying T=some (.map kt et)) (hd:P.underlying kt=some d) (K:κ→Value) (V:α→Value) (hK:∀ k,IsKey d (K k)) (hI:∀ a b,K a=K b→a=b)
  {N:Nat} {l:List (κ×α)} (hb:w.heap[N]? = some (Q3i (l.map fun p=>(K p.1,V p.2)))) (nd:(l.map (·.1)).Nodup) {z:Value} (hz:(zeroValue et).run P w = .ok z w) (k:κ) (c:Bool) :
  (Instr.lookup T (.map (some N)) (K k) c).run P w = .ok (match Qy l k with
   | some v=>if c then .tuple #[V v,.bool true] else V v
   | none=>if c then .tuple #[z,.bool false] else z) w:=by
 have hes:∀ x∈((l.map fun p=>(K p.1,V p.2)).mapIdx fun i p=>(⟨p.1,p.2,i⟩:MapEntry)).toArray.toList,IsKey d x.key:=by
  intro x hx
  simp only [List.toList_toArray] at hx
  obtain ⟨i,hi,rfl⟩:=List.mem_mapIdx.1 hx
  simp only [List.getElem_map]
  exact hK _
 rcases Q5Q ht hd (hK k) hb hes hz c with ⟨g1,g2⟩ | ⟨j,e,g1,g2,g3⟩
 ·rw [QeS (fun p hp e=>?_),g2]
  obtain ⟨i,hi,rfl⟩:=List.getElem_of_mem hp
  refine g1 ⟨K l[i].1,V l[i].2,i⟩ ?_ (by simp [e])
  simp only [List.toList_toArray]
  rw [List.mem_mapIdx]
  exact ⟨i,by simpa using hi,by simp⟩
 ·simp only [List.toList_toArray,List.getElem?_mapIdx] at g1
  have hj:j < l.length:=by
   by_cases hj:j < l.length
   ·exact hj
   ·rw [List.getElem?_eq_none (by simp;omega)] at g1
    cases g1
  rw [List.getElem?_eq_getElem (by simpa using hj)] at g1
  simp at g1
  subst g1
  simp only at g2 g3
  rw [Q9Y nd (List.getElem_mem hj) (hI _ _ g2),g3]
end
theorem Q3L (a b:List UInt8) (h:(Value.string ⟨a.toArray⟩) = .string ⟨b.toArray⟩):a=b:=by
 simpa using h
theorem Qe2 (a b:Int) (h:(Value.int .i64 a) = .int .i64 b):a=b:=by
 simpa using h
structure Own (w:World) (own:List Nat) (Fr bs:List (Nat×Obj)) (u:World):Prop where
 kp:Qb [] w u
 new:∀ y∈own,w.heap.size≤y
 lt:∀ y∈own,y < u.heap.size
 nd:own.Nodup
 hf:Held own Fr u
 hb:Held own bs u
 fnd:(Fr.map (·.1)).Nodup
 fnew:∀ p∈Fr,w.heap.size≤p.1
 sep:∀ p∈Fr,∀ q∈bs,p.1≠q.1
section
variable {w u u' : World} {own : List Nat} {Fr bs : List (Nat × Obj)}
theorem Own.turn {M:List Nat} (h:Own w own Fr bs u) (hk:Qb M u u') (hM:∀ m∈M,m∈own):Own w own Fr bs u':=
 ⟨h.kp.young hk (fun m hm=>Or.inr (h.new m (hM m hm))),h.new,fun y hy=>Nat.lt_of_lt_of_le (h.lt y hy) hk.size,h.nd,h.hf.keeps hk hM,h.hb.keeps hk hM,h.fnd,h.fnew,h.sep⟩
theorem Own.below (h:Own w own Fr bs u) (hb:Below u.heap.size u u'):Own w own Fr bs u':=h.turn (Qb.of_below [] hb) (by simp)
theorem Own.grow {A B:List Nat} {r:Option Nat} {g:Nat} (h:Own w (A++(r.toList++B)) Fr bs u) (hg:u.grownBy u' r) (hat:r=some g∨g=u.heap.size) (hlt:g < u'.heap.size) (hw:w.heap.size≤g):Own w (A++([g]++B)) Fr bs u':=by
 have hk:=Q05 hg
 have h1:=h.turn hk (fun m hm=>List.mem_append_right _ (List.mem_append_left _ hm))
 have sub:∀ y∈A++([g]++B),y=g∨y∈A++(r.toList++B):=by
  intro y hy
  simp only [List.mem_append,List.mem_singleton] at hy ⊢
  rcases hy with hy | rfl | hy
  ·exact Or.inr (Or.inl hy)
  ·exact Or.inl rfl
  ·exact Or.inr (Or.inr (Or.inr hy))
 have hout:∀ fs:List (Nat×Obj),Held (A++(r.toList++B)) fs u→∀ p∈fs,p.1 ∉ A++([g]++B):=by
  intro fs hfs p hp hm
  rcases sub _ hm with e | hm
  ·rcases hat with hr | hr
   ·exact (hfs p hp).2 (by rw [e,hr];simp)
   ·have:=Qc (hfs p hp).1
    omega
  ·exact (hfs p hp).2 hm
 refine ⟨h1.kp,?_,?_,?_,fun p hp=>⟨(h1.hf p hp).1,hout _ h.hf p hp⟩,fun p hp=>⟨(h1.hb p hp).1,hout _ h.hb p hp⟩,h.fnd,h.fnew,h.sep⟩
 ·intro y hy
  rcases sub y hy with rfl | hy
  ·exact hw
  ·exact h.new y hy
 ·intro y hy
  rcases sub y hy with rfl | hy
  ·exact hlt
  ·exact h1.lt y hy
 ·rcases hat with rfl | rfl
  ·exact h.nd
  ·have hA:∀ y∈A,y < u.heap.size:=fun y hy=>h.lt y (List.mem_append_left _ hy)
   have hB:∀ y∈B,y < u.heap.size:=fun y hy=>h.lt y (List.mem_append_right _ (List.mem_append_right _ hy))
   have hn:=h.nd
   rw [List.nodup_append] at hn ⊢
   obtain ⟨n1,n2,n3⟩:=hn
   rw [List.nodup_append] at n2
   refine ⟨n1,?_,?_⟩
   ·rw [List.nodup_append]
    refine ⟨by simp,n2.2.1,?_⟩
    intro a ha b hb e
    simp at ha
    have:=hB b hb
    omega
   ·intro a ha b hb e
    rcases List.mem_append.1 hb with hb | hb
    ·simp at hb
     have:=hA a ha
     omega
    ·exact n3 a ha b (List.mem_append_right _ hb) e
theorem Own.alloc (h:Own w own Fr bs u) (o:Obj):Own w own ((u.heap.size,o) :: Fr) bs (u.alloc o):=by
 have h1:=h.turn ((Qb.refl [] u).alloc o) (by simp)
 refine ⟨h1.kp,h.new,h1.lt,h.nd,?_,h1.hb,?_,?_,?_⟩
 ·intro p hp
  rcases List.mem_cons.1 hp with rfl | hp
  ·exact ⟨Qg rfl,fun hm=>by have:=h.lt _ hm;simp at this⟩
  ·exact h1.hf p hp
 ·simp only [List.map_cons,List.nodup_cons]
  refine ⟨?_,h.fnd⟩
  intro hm
  obtain ⟨p,hp,e⟩:=List.mem_map.1 hm
  have:=Qc (h.hf p hp).1
  omega
 ·intro p hp
  rcases List.mem_cons.1 hp with rfl | hp
  ·exact h.kp.size
  ·exact h.fnew p hp
 ·intro p hp q hq
  rcases List.mem_cons.1 hp with rfl | hp
  ·have:=Qc (h.hb q hq).1
   simp only
   omega
  ·exact h.sep p hp q hq
theorem Own.setFr {m:Nat} {o o':Obj} (h:Own w own ((m,o) :: Fr) bs u) (hk:Qb [m] u u') (ho:u'.heap[m]? = some o'):Own w own ((m,o') :: Fr) bs u':=by
 have hm:w.heap.size≤m:=h.fnew (m,o) (by simp)
 have hn:=h.fnd
 simp only [List.map_cons,List.nodup_cons] at hn
 have hmo:m ∉ own:=(h.hf (m,o) (by simp)).2
 refine ⟨h.kp.young hk (by simpa using hm),h.new,fun y hy=>Nat.lt_of_lt_of_le (h.lt y hy) hk.size,h.nd,?_,?_,h.fnd,?_,?_⟩
 ·intro p hp
  rcases List.mem_cons.1 hp with rfl | hp
  ·exact ⟨ho,hmo⟩
  ·obtain ⟨h1,h2⟩:=h.hf p (List.mem_cons_of_mem _ hp)
   exact ⟨(hk.block _ (Qc h1) (by simp;exact fun e=>hn.1 (e ▸ List.mem_map_of_mem hp))).trans h1,h2⟩
 ·intro q hq
  obtain ⟨h1,h2⟩:=h.hb q hq
  exact ⟨(hk.block _ (Qc h1) (by simp;exact fun e=>h.sep (m,o) (by simp) q hq e.symm)).trans h1,h2⟩
 ·intro p hp
  rcases List.mem_cons.1 hp with rfl | hp
  ·exact hm
  ·exact h.fnew p (List.mem_cons_of_mem _ hp)
 ·intro p hp q hq
  rcases List.mem_cons.1 hp with rfl | hp
  ·exact h.sep (m,o) (by simp) q hq
  ·exact h.sep p (List.mem_cons_of_mem _ hp) q hq
theorem Own.give {m:Nat} {o:Obj} (h:Own w own ((m,o) :: Fr) bs u):Own w own Fr ((m,o) :: bs) u:=by
 have hn:=h.fnd
 simp only [List.map_cons,List.nodup_cons] at hn
 refine ⟨h.kp,h.new,h.lt,h.nd,fun p hp=>h.hf p (List.mem_cons_of_mem _ hp),?_,hn.2,fun p hp=>h.fnew p (List.mem_cons_of_mem _ hp),?_⟩
 ·intro p hp
  rcases List.mem_cons.1 hp with rfl | hp
  ·exact h.hf _ (by simp)
  ·exact h.hb p hp
 ·intro p hp q hq
  rcases List.mem_cons.1 hq with rfl | hq
  ·intro e
   simp only at e
   exact hn.1 (by rw [← e];exact List.mem_map_of_mem hp)
  ·exact h.sep p (List.mem_cons_of_mem _ hp) q hq
theorem Own.sub {Fr':List (Nat×Obj)} (h:Own w own Fr bs u) (hs:∀ p∈Fr',p∈Fr) (hn:(Fr'.map (·.1)).Nodup):Own w own Fr' bs u:=
 ⟨h.kp,h.new,h.lt,h.nd,fun p hp=>h.hf p (hs p hp),h.hb,hn,fun p hp=>h.fnew p (hs p hp),fun p hp=>h.sep p (hs p hp)⟩
theorem Own.tail {p:Nat×Obj} (h:Own w own (p :: Fr) bs u):Own w own Fr bs u:=h.sub (fun _ hq=>List.mem_cons_of_mem _ hq) (List.nodup_cons.1 h.fnd).2
end
end Go.Proofs.YtmbcibgknckenaaGreatDoor
