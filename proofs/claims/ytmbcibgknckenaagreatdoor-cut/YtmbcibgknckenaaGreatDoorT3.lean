import Derived.Test.YtmbcibgknckenaaGreatDoorT2
import Derived.Deep.AppendLies
import Derived.Deep.RegionLaw
import Derived.Deep.RegionHeld2
import Derived.Laws.EntriesVeiled
set_option linter.all false
set_option maxRecDepth 100000
set_option maxHeartbeats 4000000
namespace Go.Proofs.YtmbcibgknckenaaGreatDoor
open Go.RowKit
open Go.MapKept
theorem Q6T {τ:Type} {C:Q0h τ} {A' A:Ad} (hA:Same A' A) {text:ByteArray} {σ:St} {t:τ} {w:World} (hC:Q1W C A' text) (h:Rd A' text σ w) (hi:C.I t w) (hh:Held A'.X C.bs w) :
  Calls Tryz.prog 125 #[.pointer (some ⟨A.R,0,none⟩),.func (.func C.f) C.pre C.post] w (QO (A.S :: C.M) A' text w (decl text C t σ) Q2Z C.I):=by
 have:=Q6m hC h hi hh
 rw [hA.1,hA.2.1] at this
 exact this
def armK {τ:Type} (text:ByteArray) (C:Q0h τ) (y:Bool):PX τ Qq:=if y then retx ⟨[],0,.void⟩ else decl text C
def arm {τ:Type} (text:ByteArray) (C:Q0h τ):PX τ Qq:=bndx (bndx (lift (Q13 text [118,111,105,100])) (armK text C)) fun d=>bndx (lift (QX text [59])) fun _=>retx d
theorem Qja {b:Nat} {k t n k' t' n':Value} {T:TypeId} {fr:Nat×Nat} {w:World} (h:w.heap[b]? = some (.cells #[k,t,n] T fr)) :
  (((w.setCell ⟨b,0,none⟩ k').setCell ⟨b,1,none⟩ t').setCell ⟨b,2,none⟩ n').heap[b]? = some (.cells #[k',t',n'] T fr):=by
 have h1:=Qn (i:=0) h k'
 have h2:=Qn (i:=1) h1 t'
 have h3:=Qn (i:=2) h2 n'
 exact h3
theorem Mid.put3 {τ:Type} {C:Q0h τ} {A:Ad} {text:ByteArray} {w u:World} {a b c:Value} {T:TypeId} {t:τ} {σ0 σ:St} (m:Mid C A text w (.cells #[a,b,c] T) t σ u) (hC:Q1W C A text) (h0:Rd A text σ0 w) (v0 v1 v2:Value) :
  Mid C A text w (.cells #[v0,v1,v2] T) t σ (((u.setCell ⟨w.heap.size,0,none⟩ v0).setCell ⟨w.heap.size,1,none⟩ v1).setCell ⟨w.heap.size,2,none⟩ v2) where
 k:=((m.k.setNew (Nat.le_refl _) _).setNew (Nat.le_refl _) _).setNew (Nat.le_refl _) _
 r:=by
  have hs:=fun {u:World} (hu:Rd (A.add w.heap.size) text σ u) (i:Nat) (v:Value)=>Rd.setNew (A':=A.add w.heap.size) h0 ⟨rfl,rfl,rfl,rfl⟩ hu (p:=⟨w.heap.size,i,none⟩) (Nat.le_refl _) (by simp [Ad.add]) v
  exact hs (hs (hs m.r 0 _) 1 _) 2 _
 i:=Q1G hC (fun hm=>by have:=h0.old _ (hC.inX _ hm);omega) m.i _ _ _
 h:=m.h.keeps ((((Qb.refl [w.heap.size] u).setIn (p:=⟨w.heap.size,0,none⟩) (by simp) _).setIn (p:=⟨w.heap.size,1,none⟩) (by simp) _).setIn (p:=⟨w.heap.size,2,none⟩) (by simp) _) (by simp [Ad.add])
 d:=Qja m.d
theorem Qjb {τ:Type} {C:Q0h τ} {A:Ad} {text:ByteArray} {σ:St} {t:τ} {w:World} (hC:Q1W C A text) (h:Rd A text σ w) (hi:C.I t w) (hh:Held A.X C.bs w) :
  Calls Tryz.prog 134 #[.pointer (some ⟨A.R,0,none⟩),.func (.func C.f) C.pre C.post] w (QO (A.S :: C.M) A text w (arm text C t σ) Q2Z C.I):=by
 have hwM:w.heap.size ∉ C.M:=fun hm=>by have:=h.old _ (hC.inX _ hm);omega
 have hS:=h.lt.2.1
 have m0:=Mid.start hC h hi hh (.cells #[.string ⟨#[]⟩,.int .i64 0,.nilIface] 195)
 have hC1:=hC.add w.heap.size
 have n0:=Mid.start hC1 m0.r m0.i m0.h (.cells #[.string ⟨#[]⟩,.int .i64 0,.iface 340 (.agg #[])] 195)
 have k0:=m0.k
 have hD:(w.alloc (.cells #[.string ⟨#[]⟩,.int .i64 0,.nilIface] 195)).heap[w.heap.size]? = _:=m0.d
 have hr0:=m0.r
 clear m0
 go_enter Tryz.func134,Tryz.ntmps134
 go_wp2_with fail
 have hneD:w.heap.size ∉ A.S :: C.M:=by
  simp only [List.mem_cons,not_or]
  exact ⟨by omega,hwM⟩
 have hA2:Same ((A.add w.heap.size).add (w.alloc (.cells #[.string ⟨#[]⟩,.int .i64 0,.nilIface] 195)).heap.size) A:=⟨rfl,rfl,rfl,rfl⟩
 refine (Q2r hA2 _ n0.r).mono ?_
 rintro e w1 ⟨hk1,⟨y1,σ1,hx1,rfl,hr1⟩ | ⟨f,hx1,b,hbb,rfl,hcell⟩⟩
 rotate_left
 ·exact Qa (QO.throws ((k0.trans n0.k).trans (hk1.mono (by simp))) (k0.trans n0.k) (Qm (Qm (Qx hx1))) hbb hcell)
 have n1:=n0.scan hC1 hr0 hk1 hr1
 clear n0 hk1 hr1
 have hsz:(w.alloc (.cells #[.string ⟨#[]⟩,.int .i64 0,.nilIface] 195)).heap.size=w.heap.size + 1:=by simp
 cases y1 with
 | true=>
  have E1:Hid (bndx (lift (Q13 text [118,111,105,100])) (armK text C) t σ = retx ⟨[],0,.void⟩ t σ1):=Qi (Ql hx1)
  go_wp2_with fail
  refine (Q02 hA2 _ n1.r).mono ?_
  rintro e w2 ⟨hk2,⟨x2,σ2,hx2,rfl,hr2⟩ | ⟨f,hx2,b,hbb,rfl,hcell⟩⟩
  rotate_left
  ·exact Qa (QO.throws ((k0.trans n1.k).trans (hk2.mono (by simp))) (k0.trans n1.k) ((Qi (E1.out.trans rfl)).trans (Qm (Qx hx2))) hbb hcell)
  have n2:=n1.scan hC1 hr0 hk2 hr2
  clear n1 hk2 hr2
  have hD2:=(n2.k.block _ (Qc hD) hneD).trans hD
  obtain ⟨r0,r1,r2,hfrR⟩:=Q0i hD2
  obtain ⟨q0,q1,q2,_⟩:=Q0i n2.d
  rw [hsz] at q0 q1 q2
  have HN2:=Hid.mk n2
  clear n2
  go_wp2
  obtain ⟨f1,f2⟩:=fin3 h (k0.trans HN2.out.k) (Rd.drop hr0.mine HN2.out.r) (.string ⟨#[]⟩) (.int .i64 0) (.iface 340 (.agg #[]))
  refine bodyPost_ret (v:=.agg #[.string ⟨#[]⟩,.int .i64 0,.iface 340 (.agg #[])]) (by simp [results,Tryz.results134,go_sem,r0,r1,r2]) rfl (QO.ok (a:=⟨[],0,.void⟩) (t:=t) f1 ((Qi (E1.out.trans rfl)).trans (Qi (Ql hx2))) (rfl) f2 ?_)
  exact Q1G hC hwM HN2.out.i _ _ _
 | false=>
  go_wp2_with fail
  refine (Q6T hA2 (hC1.add _) n1.r n1.i n1.h).mono ?_
  rintro e w3 ⟨hk3,⟨d,t3,σ3,hx3,rfl,hr3,hi3⟩ | ⟨f,hx3,b,hbb,rfl,hcell⟩⟩
  rotate_left
  ·exact Qa (QO.throws ((k0.trans n1.k).trans hk3) (k0.trans n1.k) (Qm ((Qi (Ql hx1)).trans hx3)) hbb hcell)
  have E1:Hid (bndx (lift (Q13 text [118,111,105,100])) (armK text C) t σ = .ok (d,t3,σ3)):=(Qi (Ql hx1)).trans hx3
  have n3:=n1.claimed hC1 hr0 hk3 hr3 hi3
  clear n1 hk3 hr3 hi3
  obtain ⟨T,vt,Hvt⟩:∃ T vt,Hid (tyV d.ty = .iface T vt):=by cases d.ty<;>exact ⟨_,_,rfl⟩
  have n4:=n3.put3 hC1 hr0 (.string ⟨d.t.toArray⟩) (.int .i64 d.at') (.iface T vt)
  obtain ⟨q0,q1,q2,hfq⟩:=Q0i n3.d
  rw [hsz] at q0 q1 q2 hfq
  rw [hsz] at n4
  have HN4:=Hid.mk n4
  clear n3 n4
  dsimp only [Q2Z]
  rw [Hvt.out]
  go_wp2_with fail
  refine (Q02 hA2 _ HN4.out.r).mono ?_
  rintro e w2 ⟨hk2,⟨x2,σ2,hx2,rfl,hr2⟩ | ⟨f,hx2,b,hbb,rfl,hcell⟩⟩
  rotate_left
  ·exact Qa (QO.throws ((k0.trans HN4.out.k).trans (hk2.mono (by simp))) (k0.trans HN4.out.k) ((Qi E1.out).trans (Qm (Qx hx2))) hbb hcell)
  have n2:=HN4.out.scan hC1 hr0 hk2 hr2
  clear hk2 hr2 q0 q1 q2 hfq
  have hD2:=(n2.k.block _ (Qc hD) hneD).trans hD
  obtain ⟨r0,r1,r2,hfrR⟩:=Q0i hD2
  obtain ⟨q0,q1,q2,_⟩:=Q0i n2.d
  rw [hsz] at q0 q1 q2
  have HN2:=Hid.mk n2
  clear n2
  go_wp2
  obtain ⟨f1,f2⟩:=fin3 h (k0.trans HN2.out.k) (Rd.drop hr0.mine HN2.out.r) (.string ⟨d.t.toArray⟩) (.int .i64 d.at') (.iface T vt)
  refine bodyPost_ret (v:=.agg #[.string ⟨d.t.toArray⟩,.int .i64 d.at',.iface T vt]) (by simp [results,Tryz.results134,go_sem,r0,r1,r2]) rfl (QO.ok (a:=d) (t:=t3) f1 ((Qi E1.out).trans (Qi (Ql hx2))) (by simp only [Q2Z,Hvt.out]) f2 ?_)
  exact Q1G hC hwM HN2.out.i _ _ _
theorem Qjc {P:Program} {w:World} {T kt et:TypeId} {d:TypeDesc} (ht:P.underlying T=some (.map kt et)) (hd:P.underlying kt=some d) {s:ByteArray} (hk:IsKey d (.string s)) {N:Nat} {es:Array MapEntry} {clock:Nat}
  (hb:w.heap[N]? = some (.map es clock)) (hes:∀ x∈es.toList,IsKey d x.key) (hin:∃ x∈es.toList,x.key = .string s) (v:Value) :
  ∃ (j:Nat) (e:MapEntry),es.toList[j]? = some e∧e.key = .string s ∧
   (Instr.mapUpdate T (.map (some N)) (.string s) v).run P w = .ok () (Q04 w N (.map (es.modify j fun e=>{ e with key:=.string s,val:=v }) clock)):=by
 have hck:=fun b=>MapKept.run_checkKey (w:=w) hd hk b 9999
 rcases findNow_spec hk es.toList 0 hes with ⟨h1,h2⟩ | ⟨j,e,h1,h2,h3⟩
 ·obtain ⟨x,hx,hxk⟩:=hin
  exact absurd hxk (h2 x hx)
 ·refine ⟨j,e,h2,h3,?_⟩
  have hj:es[j]? = some e:=by simpa using h2
  have hst:Instr.keyThatStays (.string s) (.string s)=pure (.string s):=by
   unfold Instr.keyThatStays
   rw [if_pos (by show (s == s)=true;exact (MapKept.bytes_beq s s).2 rfl)]
  simp [Instr.mapUpdate,Instr.findKey,run_underlying ht,run_underlying hd,MapKept.run_getObj_map hb,hck,h1,hj,h3,hst,MapKept.run_setObj_map _ hb,Result.andThen]
def Q0N (l:List (List UInt8×Option DefL)) (k:List UInt8) (d:DefL):List (List UInt8×Option DefL):=l.map fun p=>if p.1 == k then (p.1,some d) else p
theorem QbK (l:List (List UInt8×Option DefL)) (k:List UInt8) (d:DefL):(Q0N l k d).map (·.1)=l.map (·.1):=by
 unfold Q0N
 rw [List.map_map]
 apply List.map_congr_left
 intro p _
 show (if p.1 == k then (p.1,some d) else p).1=p.1
 split<;>rfl
theorem Q90 {α:Type} {l:List (List UInt8×α)} {k:List UInt8} {o:α} (h:look l k=some o):∃ p∈l,p.1=k∧p.2=o:=by
 unfold look at h
 cases hf:l.find? (fun p=>p.1 == k) with
 | none=>rw [hf] at h;cases h
 | some p=>
  rw [hf] at h
  exact ⟨p,List.mem_of_find?_eq_some hf,by simpa using List.find?_some hf,by simpa using h⟩
theorem Q57 {α:Type} {l:List α} (h:l.Nodup) (i j:Nat) (hi:i < l.length) (hj:j < l.length) (e:l[i]=l[j]):i=j:=by
 have hp:=List.pairwise_iff_getElem.1 h
 rcases Nat.lt_trichotomy i j with hl | hl | hl
 ·exact absurd e (hp i j hi hj hl)
 ·exact hl
 ·exact absurd e.symm (hp j i hj hi hl)
theorem Q1z.mono {bs bs':List (Nat×Obj)} {v:Value} {o:Option DefL} (hb:∀ p∈bs,p∈bs') (h:Q1z bs v o):Q1z bs' v o:=by
 have hc:∀ b m,Q5z bs b m→Q5z bs' b m:=fun b m hm=>hb _ hm
 have hs:∀ e v n xs,Q0u bs e v n xs→Q0u bs' e v n xs:=by
  intro e v n xs hs
  rcases hs with hs | ⟨g,cap,cur,h1,h2,h3,h4⟩
  ·exact Or.inl hs
  ·exact Or.inr ⟨g,cap,cur,h1,h2,hb _ h3,h4⟩
 cases o with
 | none=>exact h
 | some d=>
  obtain ⟨b,hv,hd⟩:=h
  refine ⟨b,hv,?_⟩
  cases d with
  | const t a v=>exact hc _ _ hd
  | typedef d=>exact hb _ hd
  | enum t a ms=>obtain ⟨sl,ps,h1,h2,h3,h4⟩:=hd;exact ⟨sl,ps,hb _ h1,h2,hs _ _ _ _ h3,fun i h h'=>hc _ _ (h4 i h h')⟩
  | struct t a ms=>obtain ⟨sl,h1,h2⟩:=hd;exact ⟨sl,hb _ h1,hs _ _ _ _ h2⟩
  | union t a sel arms=>obtain ⟨sl,cs,h1,h2,h3,h4⟩:=hd;exact ⟨sl,cs,hb _ h1,h2,hs _ _ _ _ h3,fun i h h'=>hs _ _ _ _ (h4 i h h')⟩
  | prog t a vs num=>obtain ⟨sl,cs,h1,h2,h3,h4⟩:=hd;exact ⟨sl,cs,hb _ h1,h2,hs _ _ _ _ h3,fun i h h'=>hs _ _ _ _ (h4 i h h')⟩
theorem Q1p.set {X:List Nat} {N:Nat} {l:List (List UInt8×Option DefL)} {w:World} (h:Q1p X N l w) (hX:N∈X) {k:List UInt8} {o:Option DefL} (hn:look l k=some o)
  {d:DefL} {b:Nat} {bs':List (Nat×Obj)} (hd:Q0o bs' b d) (hh:Held X bs' w) :
  ∃ ob,(Instr.mapUpdate 104 (.map (some N)) (.string ⟨k.toArray⟩) (.iface (defT d) (.pointer (some ⟨b,0,none⟩)))).run Tryz.prog w = .ok () (Q04 w N ob)∧Q1p X N (Q0N l k d) (Q04 w N ob):=by
 obtain ⟨nd,bs,vs,h1,h2,h3,h4⟩:=h
 have hlt:=Qc h3
 obtain ⟨p,hp,hpk,_⟩:=Q90 hn
 obtain ⟨i,hi,rfl⟩:=List.getElem_of_mem hp
 have hi':i < vs.length:=by omega
 have hes:=Q3F (l.zip vs |>.map fun p=>(p.1.1,p.2))
 obtain ⟨j,e,g1,g2,hrun⟩:=Qjc (P:=Tryz.prog) (T:=104) (kt:=9) (et:=113) (d:=.string) (by kernel_rfl) (by kernel_rfl) (s:=⟨k.toArray⟩) trivial h3 (by simpa using hes)
  ⟨⟨.string ⟨l[i].1.toArray⟩,vs[i],i⟩,by
   simp only
   rw [List.mem_mapIdx]
   exact ⟨i,by simp;omega,by simp⟩,by simp [hpk]⟩ (.iface (defT d) (.pointer (some ⟨b,0,none⟩)))
 simp only [List.getElem?_mapIdx] at g1
 have hj:j < l.length:=by
  by_cases hj:j < l.length
  ·exact hj
  ·rw [List.getElem?_eq_none (by simp;omega)] at g1
   cases g1
 rw [List.getElem?_eq_getElem (by simp;omega)] at g1
 simp at g1
 subst g1
 simp at g2
 have hij:i=j:=by
  have hq:(l.map (·.1))[i]'(by simpa using hi)=(l.map (·.1))[j]'(by simpa using hj):=by simp [hpk,g2]
  exact Q57 nd _ _ _ _ hq
 subst hij
 refine ⟨_,hrun,?_,bs++bs',vs.set i (.iface (defT d) (.pointer (some ⟨b,0,none⟩))),?_,?_,?_,?_⟩
 ·rw [QbK];exact nd
 ·intro p hp
  rcases List.mem_append.1 hp with hp | hp
  ·exact (h1.keeps (Q06 _ _ _) (by simpa using hX)) p hp
  ·exact (hh.keeps (Q06 _ _ _) (by simpa using hX)) p hp
 ·simp [Q0N,h2]
 ·rw [Q1k hlt]
  unfold Q48
  have hlen:(List.map (fun p:(List UInt8×Option DefL)×Value=>(p.1.1,p.2)) ((Q0N l k d).zip (vs.set i (.iface (defT d) (.pointer (some ⟨b,0,none⟩)))))).length=(List.map (fun p:(List UInt8×Option DefL)×Value=>(p.1.1,p.2)) (l.zip vs)).length:=by simp [Q0N]
  rw [hlen]
  refine congrArg (fun a=>some (Obj.map a _)) ?_
  apply Array.ext'
  simp only [Array.toList_modify]
  apply List.ext_getElem
  ·simp [Q0N]
  ·intro m hm1 hm2
   have hm:m < l.length:=by simp at hm2;omega
   by_cases hmi:i=m
   ·subst hmi
    simp [Q0N,List.getElem_modify,hpk]
   ·have hne:¬ l[m].1=k:=fun e=>hmi (Q57 nd i m (by simpa using hi) (by simpa using hm) (by simp [hpk,e]))
    simp [Q0N,List.getElem_modify,hmi,List.getElem_set,hne]
 ·intro m hm hm'
  have hml:m < l.length:=by simp [Q0N] at hm;exact hm
  by_cases hmi:i=m
  ·subst hmi
   have e1:(Q0N l k d)[i].2=some d:=by simp [Q0N,hpk]
   rw [e1,List.getElem_set_self]
   exact Q1z.mono (fun p hp=>List.mem_append_right _ hp) (show Q1z bs' _ (some d) from ⟨b,rfl,hd⟩)
  ·have hne:¬ l[m].1=k:=fun e=>hmi (Q57 nd i m (by simpa using hi) (by simpa using hml) (by simp [hpk,e]))
   have e1:(Q0N l k d)[m].2=l[m].2:=by simp [Q0N,hne]
   rw [e1,List.getElem_set_ne hmi]
   exact Q1z.mono (fun p hp=>List.mem_append_left _ hp) (h4 m hml (by omega))
def Q0P {α:Type} (m:PM α):Prop:=∀ σ a σ',m σ = .ok (a,σ')→σ'.names = σ.names
theorem Q0P.bnd {α β:Type} {m:PM α} {k:α→PM β} (hm:Q0P m) (hk:∀ a,Q0P (k a)):Q0P (bnd m k):=by
 intro σ b σ' h
 cases hx:m σ with
 | error f=>rw [Qp hx] at h;cases h
 | ok p=>
  obtain ⟨a,σ1⟩:=p
  rw [Qh hx] at h
  rw [hk a _ _ _ h,hm _ _ _ hx]
theorem Q0P.ret {α:Type} (a:α):Q0P (ret a):=by
 intro σ b σ' h
 simp only [Go.Proofs.YtmbcibgknckenaaGreatDoor.ret,Except.ok.injEq,Prod.mk.injEq] at h
 rw [← h.2]
theorem Q0P.thr {α:Type} (no at':Nat):Q0P (thr (α:=α) no at'):=fun σ b σ' h=>by cases h
theorem Q0P.ite {α:Type} {c:Prop} [Decidable c] {m m':PM α} (h:Q0P m) (h':Q0P m'):Q0P (if c then m else m'):=by split<;>assumption
theorem Q9y (text:ByteArray):Q0P (next text):=by
 intro σ a σ' h
 unfold next at h
 split at h
 ·simp only [Except.ok.injEq,Prod.mk.injEq] at h;rw [← h.2]
 ·cases h
theorem QbL (text:ByteArray) (t:List UInt8):Q0P (QX text t):=(Q9y text).bnd fun x=>Q0P.ite (Q0P.ret _) (Q0P.thr _ _)
theorem Q91 (x:Mar.Word):Q0P (Q0B x):=by
 intro σ a σ' h
 unfold Q0B at h
 split at h
 ·simp only [Except.ok.injEq,Prod.mk.injEq] at h;rw [← h.2]
 ·cases h
theorem Qb5 (x:Mar.Word):Q0P (Q1B x):=
 Q0P.ite (Q0P.ret _) (Q0P.ite (Q91 x) (Q0P.ite (Q0P.ret _) (Q0P.ite (Q0P.ret _) (Q0P.thr _ _))))
theorem Qd4 (text:ByteArray) (p:Int→Bool):Q0P (value text p):=(Q9y text).bnd fun x=>(Qb5 x).bnd fun n=>Q0P.ite (Q0P.ret _) (Q0P.thr _ _)
theorem QbM {text:ByteArray} {p:Int→Bool} {l l':List (Int×Int)} {σ σ':St} {n:Int} (h:number text p l σ = .ok (n,l',σ')):σ'.names = σ.names:=by
 unfold number at h
 cases hx:value text p σ with
 | error f=>rw [Qm (Qx hx)] at h;cases h
 | ok q=>
  obtain ⟨q,σ1⟩:=q
  rw [Qi (Ql hx)] at h
  cases hc:Q3T q.1 q.2 l ⟨6,q.2⟩ with
  | error f=>rw [Qm (Q4M hc)] at h;cases h
  | ok l1=>
   rw [Qi (Q5A hc)] at h
   simp only [retx,Except.ok.injEq,Prod.mk.injEq] at h
   rw [← h.2.2]
   exact Qd4 text p _ _ _ hx
theorem QbN {text:ByteArray} {σ σ':St} {n:List UInt8×Nat} (h:Q1y text σ = .ok (n,σ')):look σ'.names n.1=some none:=by
 unfold Q1y bare name at h
 cases hx:next text σ with
 | error f=>rw [Qm (Qx hx)] at h;cases h
 | ok q=>
  obtain ⟨x,σ1⟩:=q
  rw [Qi (Ql hx)] at h
  by_cases hk:((x.kind:Int) == 1)=true
  ·rw [if_pos hk] at h
   cases hl:look σ1.names x.text with
   | none=>
    have hd:Q1s x σ1 = .ok ((),{ σ1 with names:=σ1.names++[(x.text,none)] }):=by simp only [Q1s,hl]
    rw [Qi (show (Q12 noAd).run x () σ1=_ from Ql hd)] at h
    simp only [retx,Except.ok.injEq,Prod.mk.injEq] at h
    obtain ⟨rfl,rfl⟩:=h
    unfold look at hl ⊢
    have hf:σ1.names.find? (fun p=>p.1 == x.text)=none:=by
     cases hh:σ1.names.find? (fun p=>p.1 == x.text) with
     | none=>rfl
     | some p=>rw [hh] at hl;cases hl
    simp [List.find?_append,hf]
   | some o=>
    have hd:Q1s x σ1 = .error ⟨6,x.at'⟩:=by simp only [Q1s,hl]
    rw [Qm (show (Q12 noAd).run x () σ1=_ from Qx hd)] at h
    cases h
  ·rw [if_neg hk] at h
   cases h
def Q1A (n most at':Nat):PM Unit:=fun σ=>if most≤n then .error ⟨5,at'⟩ else .ok ((),σ)
def Qep (k:List UInt8) (d:DefL):PM Unit:=fun σ=>.ok ((),{ σ with names:=Q0N σ.names k d })
def Q2s (text:ByteArray) (n:Nat):PX (List (Int×Int)) (List UInt8×Nat×Int):=
 bndx (lift (peek text)) fun x=>bndx (lift (Q1A n 12 x.at')) fun _=>bndx (lift (Q2X x.at')) fun _=>bndx (lift (Q1y text)) fun m=>bndx (lift (QX text [61])) fun _=>
  bndx (number text (Q1V (-2147483648) 2147483647)) fun v=>bndx (lift (Qep m.1 (.const m.1 m.2 v))) fun _=>retx (m.1,m.2,v)
def Q1C (m:List UInt8×Nat×Int):Obj:=.cells #[.string ⟨m.1.toArray⟩,.int .i64 m.2.1,.int .i64 m.2.2] 272
def Q3U (M:List Nat) (A:Ad) (text:ByteArray) (w:World) (q:Nat) (r:Except Mar.Fault ((List UInt8×Nat×Int)×List (Int×Int)×St)) (e:Ending) (w':World):Prop:=
 Qb M w w'∧((∃ m l' σ' b,r = .ok (m,l',σ')∧e = .returned (.pointer (some ⟨b,0,none⟩))∧Rd A text σ' w'∧QT q l' w'∧Held A.X [(b,Q1C m)] w')∨(∃ f,r = .error f∧Q0c w f.no f.at' e w'))
theorem Q3U.throws {M M':List Nat} {A:Ad} {text:ByteArray} {w w1 w':World} {q:Nat} {r:Except Mar.Fault ((List UInt8×Nat×Int)×List (Int×Int)×St)} {f:Mar.Fault} {b:Nat}
  (hk:Qb M w w') (hk1:Qb M' w w1) (hr:r = .error f) (hb:w1.heap.size≤b) (hc:w'.heap[b]? = some (.cells #[.int .i64 f.no,.int .i64 f.at'] 83)) :
  Q3U M A text w q r (.panicked [{ v:=.iface 79 (.pointer (some ⟨b,0,none⟩)),recovered:=false }]) w':=
 ⟨hk,Or.inr ⟨f,hr,b,Nat.le_trans hk1.size hb,rfl,hc⟩⟩
theorem Free.add {A:Ad} {q:Nat} (h:Free A q) (b:Nat):Free (A.add b) q:=⟨List.mem_cons_of_mem _ h.1,h.2⟩
theorem QaE {A' A:Ad} (hA:Same A' A) {text:ByteArray} {σ:St} {v:Value} {p:Int→Bool} {q:Nat} {l:List (Int×Int)} {w:World} (h:Rd A' text σ w) (hf:Fits A'.X v p w) (hq:Free A' q) (hn:QT q l w) :
  Calls Tryz.prog 163 #[.pointer (some ⟨A.R,0,none⟩),.map (some q),v] w (QO [A.S,q] A' text w (number text p l σ) intV (QT q)):=by
 obtain ⟨a1,a2,a3,a4⟩:=hA
 rw [← a1,← a2]
 exact Q8H h hf hq hn
theorem Qeq {A:Ad} {text:ByteArray} {σ:St} (n:Nat) {q:Nat} {l:List (Int×Int)} {w:World} (h:Rd A text σ w) (hq:Free A q) (hn:QT q l w) :
  Calls Tryz.prog 127 #[.pointer (some ⟨A.R,0,none⟩),.int .i64 n,.map (some q)] w (Q3U [A.R,A.S,A.N,q] A text w q (Q2s text n l σ)):=by
 have hmf:∀ (fn:Fn) (first cap:Array Value) (w:World),(Instr.makeFunc fn first cap).run Tryz.prog w = .ok (.func fn first cap) w:=fun _ _ _ _=>rfl
 obtain ⟨c0,c1,c2,c3,c4,hfr⟩:=h.cells
 have hft:=QbE
 have hqS:q ∉ [A.S]:=by simp;exact hq.2.2.1
 go_enter Tryz.func127,Tryz.ntmps127
 go_wp2_with fail
 refine (Q7b h).mono ?_
 rintro e w1 ⟨hk1,⟨x,σ1,hx1,rfl,hr1⟩ | ⟨f,hx1,b,hbb,rfl,hcell⟩⟩
 rotate_left
 ·exact Qa (Q3U.throws (hk1.mono (by simp)) (Qb.refl [] _) (Qm (Qx hx1)) hbb hcell)
 have hn1:=hn.keeps hk1 hqS
 have hK1:=hk1.mono (M':=[A.R,A.S,A.N,q]) (by simp)
 clear hk1
 dsimp only [QZ]
 go_wp2_with fail
 by_cases hfi:(12:Nat)≤n
 ·refine (Q3p _ _ _ _ (by omega)).mono ?_
  rintro e w2 ⟨⟨b,hbb,rfl,hcell⟩,hb⟩
  exact Qa (Q3U.throws (f:=⟨5,x.at'⟩) (hK1.trans (Qb.of_below _ hb)) hK1 ((Qi (Ql hx1)).trans (Qm (Qx (show Q1A n 12 x.at' σ1=_ from if_pos hfi)))) hbb hcell)
 have hx2:Q1A n 12 x.at' σ1 = .ok ((),σ1):=if_neg hfi
 refine (Q4L _ _ _ _ (by omega)).mono ?_
 rintro e w2 ⟨rfl,rfl⟩
 go_wp2_with fail
 refine (Q7O x.at' hr1).mono ?_
 rintro e w2 ⟨hk2,⟨u,σ2,hx3,rfl,hr2⟩ | ⟨f,hx3,b,hbb,rfl,hcell⟩⟩
 rotate_left
 ·exact Qa (Q3U.throws (hK1.trans (hk2.mono (by simp))) hK1 ((Qi (Ql hx1)).trans ((Qi (Ql hx2)).trans (Qm (Qx hx3)))) hbb hcell)
 have hn2:=hn1.keeps hk2 (by simp;exact hq.2.1)
 have hK2:=hK1.trans (hk2.mono (M':=[A.R,A.S,A.N,q]) (by simp))
 clear hk2 hK1 hn1
 go_wp2_with fail
 refine (Q3h hr2).mono ?_
 rintro e w3 ⟨hk3,⟨m,σ3,hx4,rfl,hr3⟩ | ⟨f,hx4,b,hbb,rfl,hcell⟩⟩
 rotate_left
 ·exact Qa (Q3U.throws (hK2.trans (hk3.mono (by simp))) hK2 ((Qi (Ql hx1)).trans ((Qi (Ql hx2)).trans ((Qi (Ql hx3)).trans (Qm (Qx hx4))))) hbb hcell)
 have hn3:=hn2.keeps hk3 (by simp;exact ⟨hq.2.2.1,hq.2.2.2.1⟩)
 have hK3:=hK2.trans (hk3.mono (M':=[A.R,A.S,A.N,q]) (by simp))
 clear hk3 hK2 hn2
 dsimp only [Q1q]
 have hX3:=hr3.old
 have hlS:=hr3.lt.2.1
 have hlq:=Qc hn3
 have hr4:=hr3.own (.cells #[.string ⟨m.1.toArray⟩,.int .i64 m.2,.int .i64 0] 272)
 have hv:=Qg (w:=w3) (o:=.cells #[.string ⟨m.1.toArray⟩,.int .i64 m.2,.int .i64 0] 272) rfl
 have hn4:QT q l (w3.alloc (.cells #[.string ⟨m.1.toArray⟩,.int .i64 m.2,.int .i64 0] 272)):=hn3.keeps ((Qb.refl [] w3).alloc _) (by simp)
 have hK4:=hK3.alloc (.cells #[.string ⟨m.1.toArray⟩,.int .i64 m.2,.int .i64 0] 272)
 have hne:w3.heap.size ∉ [A.S]:=by simp;omega
 have hne2:w3.heap.size ∉ [A.S,q]:=by simp;omega
 go_wp2_with fail
 refine (Q02 (Same.add A _) _ hr4).mono ?_
 rintro e w5 ⟨hk5,⟨x5,σ5,hx5,rfl,hr5⟩ | ⟨f,hx5,b,hbb,rfl,hcell⟩⟩
 rotate_left
 ·exact Qa (Q3U.throws (hK4.trans (hk5.mono (by simp))) hK4 ((Qi (Ql hx1)).trans ((Qi (Ql hx2)).trans ((Qi (Ql hx3)).trans ((Qi (Ql hx4)).trans (Qm (Qx hx5)))))) hbb hcell)
 have hv5:=(hk5.block _ (Qc hv) hne).trans hv
 have hn5:=hn4.keeps hk5 hqS
 have hK5:=hK4.trans (hk5.mono (M':=[A.R,A.S,A.N,q]) (by simp))
 clear hk5 hv hK4 hr4 hn4
 go_wp2_with fail
 refine (Q2Y _ _ _).mono ?_
 rintro e w6 ⟨v,rfl,hb6,hfit⟩
 have hf6:=hfit (A.add w3.heap.size).X hr5.old
 have hr6:=hr5.below hb6
 have hv6:=(hb6.block _ (Qc hv5)).trans hv5
 have hn6:QT q l w6:=(hb6.block _ (Qc hn5)).trans hn5
 have hK6:=hK5.trans (Qb.of_below _ hb6)
 clear hfit hb6 hv5 hK5 hr5 hn5
 go_wp2_with fail
 refine (QaE (Same.add A _) hr6 hf6 (hq.add _) hn6).mono ?_
 rintro e w7 ⟨hk7,⟨z,l7,σ7,hx7,rfl,hr7,hn7⟩ | ⟨f,hx7,b,hbb,rfl,hcell⟩⟩
 rotate_left
 ·exact Qa (Q3U.throws (hK6.trans (hk7.mono (by simp))) hK6 ((Qi (Ql hx1)).trans ((Qi (Ql hx2)).trans ((Qi (Ql hx3)).trans ((Qi (Ql hx4)).trans ((Qi (Ql hx5)).trans (Qm hx7)))))) hbb hcell)
 have hv7:=(hk7.block _ (Qc hv6) hne2).trans hv6
 have hK7:=hK6.trans (hk7.mono (M':=[A.R,A.S,A.N,q]) (by simp))
 clear hk7 hv6 hK6 hr6 hf6 hn6
 have hlk:look σ7.names m.1=some none:=by rw [QbM hx7,QbL _ _ _ _ _ hx5];exact QbN hx4
 obtain ⟨k0,k1,k2,hfrK⟩:=Q0i hv7
 dsimp only [intV]
 have hv8:=Qn (i:=2) hv7 (.int .i64 z)
 have hr8:=Rd.setNew (A':=A.add w3.heap.size) hr3 ⟨rfl,rfl,rfl,rfl⟩ hr7 (p:=⟨w3.heap.size,2,none⟩) (Nat.le_refl _) (by simp [Ad.add]) (.int .i64 z)
 have hn8:QT q l7 (w7.setCell ⟨w3.heap.size,2,none⟩ (.int .i64 z)):=hn7.keeps ((Qb.refl [w3.heap.size] w7).setIn (by simp) _) (by simp;omega)
 have hK8:=hK7.setNew (p:=⟨w3.heap.size,2,none⟩) (Nat.le_of_lt_succ (Nat.lt_succ_of_le hK3.size)) (.int .i64 z)
 go_wp2_with fail
 have hr9:=Rd.drop hr3.mine hr8
 generalize w7.setCell ⟨w3.heap.size,2,none⟩ (.int .i64 z)=W8 at *
 clear hr7 hr8 hv7 hK7 hn7 k0 k1 k2 hfrK
 have hh9:Held A.X [(w3.heap.size,Q1C (m.1,m.2,z))] W8:=by
  intro p hp
  simp only [List.mem_singleton] at hp
  subst hp
  exact ⟨hv8,fun hm=>by have:=hX3 _ hm;simp at this⟩
 have hbd:Below W8.heap.size W8 W8.drew:=(Below.refl _ _).drew
 obtain ⟨ob,hput,hnm⟩:=(hr9.nm.below hbd).set hr9.mine.2.2.1 hlk (d:=.const m.1 m.2 z) (b:=w3.heap.size) (bs':=[(w3.heap.size,Q1C (m.1,m.2,z))]) (by show _∈_;simp [Q1C]) (hh9.keeps (Qb.of_below [] hbd) (by simp))
 dsimp only [defT] at hput
 obtain ⟨d0,d1,d2,d3,d4,hfd⟩:=hr9.cells
 obtain ⟨e0,e1,e2,hfe⟩:=Q0i hv8
 have HK8:=Hid.mk hK8
 have HN8:=Hid.mk hn8
 have HR9:=Hid.mk hr9
 have HH9:=Hid.mk hh9
 have HNM:=Hid.mk hnm
 clear hK8 hn8 hr9 hh9 hnm hv8
 go_region
 go_wp2
 go_ret
 have hkd:Qb [A.N] W8 (Q04 W8.drew A.N ob):=(Qb.of_below _ hbd).trans (Q06 _ _ _)
 refine ⟨HK8.out.trans (hkd.mono (by simp)),Or.inl ⟨(m.1,m.2,z),l7,_,w3.heap.size,?_,rfl,Rd.putNames (HR9.out.below hbd) HNM.out,HN8.out.keeps hkd (by simp;exact hq.2.2.2.1),HH9.out.keeps hkd (by simpa using hr3.mine.2.2.1)⟩⟩
 exact (Qi (Ql hx1)).trans ((Qi (Ql hx2)).trans ((Qi (Ql hx3)).trans ((Qi (Ql hx4)).trans ((Qi (Ql hx5)).trans (Qi hx7)))))
def Ad.plus (A:Ad) (Y:List Nat):Ad:={ A with X:=Y++A.X }
theorem Same.plus (A:Ad) (Y:List Nat):Same (A.plus Y) A:=⟨rfl,rfl,rfl,rfl⟩
theorem Rd.dropAll {A:Ad} {Y:List Nat} {text:ByteArray} {σ:St} {w:World} (hm:A.R∈A.X∧A.S∈A.X∧A.N∈A.X∧A.P∈A.X) (h:Rd (A.plus Y) text σ w):Rd A text σ w:=
 ⟨h.me,h.sc,h.nm.sub (fun _ hx=>List.mem_append_right _ hx),hm,fun x hx=>h.old x (List.mem_append_right _ hx),h.pr,h.np,h.gl,h.small,h.few⟩
theorem Rd.young {A A':Ad} {text:ByteArray} {σ0 σ:St} {w u u':World} {M:List Nat} (h0:Rd A text σ0 w) (hA:Same A' A) (h:Rd A' text σ u) (hk:Qb M u u') (hM:∀ m∈M,w.heap.size≤m∧m∈A'.X):Rd A' text σ u':=by
 obtain ⟨l1,l2,l3,l4⟩:=h0.lt
 obtain ⟨⟨m,q1⟩,⟨_,_,q2⟩,⟨_,_,q3⟩⟩:=h0.gl
 have q1:=Q1g q1
 have q2:=Q1g q2
 have q3:=Q1g q3
 obtain ⟨a1,a2,a3,a4⟩:=hA
 refine h.keeps hk (fun m hm=>(hM m hm).2) ?_ ?_ ?_ ?_ ?_ ?_ ?_<;>(intro hm;have:=(hM _ hm).1;omega)
theorem Q05 {w w':World} {row:Option Nat} (h:w.grownBy w' row):Qb row.toList w w':=
 ⟨h.os,h.tape,h.output,h.size,fun k hk hm=>h.block k hk (fun e=>hm (by rw [← e];simp))⟩
theorem Rd.grow {A A':Ad} {text:ByteArray} {σ0 σ:St} {w u u':World} {row:Option Nat} {g:Nat} (h0:Rd A text σ0 w) (hA:Same A' A) (h:Rd A' text σ u) (hg:u.grownBy u' row)
  (hr:∀ b,row=some b→w.heap.size≤b∧b∈A'.X) (hat:row=some g∨g=u.heap.size) (hlt:g < u'.heap.size):Rd (A'.add g) text σ u':=by
 have hk:=Q05 hg
 have hM:∀ m∈row.toList,w.heap.size≤m∧m∈A'.X:=fun m hm=>hr m (by simpa using hm)
 have h1:=h0.young hA h hk hM
 obtain ⟨m1,m2,m3,m4⟩:=h1.mine
 refine ⟨h1.me,h1.sc,?_,⟨List.mem_cons_of_mem _ m1,List.mem_cons_of_mem _ m2,List.mem_cons_of_mem _ m3,List.mem_cons_of_mem _ m4⟩,?_,h1.pr,h1.np,h1.gl,h1.small,h1.few⟩
 ·rcases hat with e | e
  ·exact h1.nm.sub (fun x hx=>by
    rcases List.mem_cons.1 hx with rfl | hx
    ·exact (hr _ e).2
    ·exact hx)
  ·obtain ⟨l1,l2,l3,l4⟩:=h.lt
   refine (h.nm.add (b:=g) (by omega)).keeps hk (fun m hm=>List.mem_cons_of_mem _ (hM m hm).2) (fun hm=>?_)
   have:=(hM _ hm).1
   have:=h0.lt.2.2.1
   obtain ⟨a1,a2,a3,a4⟩:=hA
   omega
 ·intro x hx
  rcases List.mem_cons.1 hx with rfl | hx
  ·exact hlt
  ·exact h1.old x hx
theorem Held.grow {X:List Nat} {bs:List (Nat×Obj)} {u u':World} {row:Option Nat} {g:Nat} (h:Held X bs u) (hg:u.grownBy u' row) (hr:∀ b,row=some b→b∈X) (hat:row=some g∨g=u.heap.size):Held (g :: X) bs u':=by
 intro p hp
 obtain ⟨h1,h2⟩:=h p hp
 have hl:=Qc h1
 refine ⟨(hg.block _ hl (fun e=>h2 (hr _ e.symm))).trans h1,?_⟩
 intro hm
 rcases List.mem_cons.1 hm with e | hm
 ·rcases hat with e' | e'
  ·exact h2 (by rw [e];exact hr _ e')
  ·omega
 ·exact h2 hm
theorem Qk {w w':World} {base:Nat} {e:TypeId} {size n:Nat} {v:Value} {xs:List Value} {M:List Nat} (h:w.ownsRow base e size v n xs) (hk:Qb M w w') (hM:∀ g,v.ownBlock=some g→g ∉ M):w'.ownsRow base e size v n xs:=by
 refine ⟨h.1,?_⟩
 rcases h.2 with h | ⟨g,cap,cur,rfl,h2,h3,h4⟩
 ·exact Or.inl h
 ·exact Or.inr ⟨g,cap,cur,rfl,h2,(hk.block _ (Qc h3) (hM g rfl)).trans h3,h4⟩
theorem Q0z {w:World} {base:Nat} {e:TypeId} {size n g:Nat} {v:Value} {xs:List Value} (h:w.ownsRow base e size v n xs) (hg:v.ownBlock=some g):base≤g∧g < w.heap.size:=by
 rcases h.2 with ⟨rfl,_⟩ | ⟨g',cap,cur,rfl,h2,h3,h4⟩
 ·cases hg
 ·simp only [Value.ownBlock,Option.some.injEq] at hg
  subst hg
  exact ⟨h2,Qc h3⟩
theorem Qb.young {w u u':World} {M M':List Nat} (h:Qb M w u) (hk:Qb M' u u') (hM:∀ m∈M',m∈M∨w.heap.size≤m):Qb M w u':=
 ⟨hk.os.trans h.os,hk.tape.trans h.tape,hk.output.trans h.output,Nat.le_trans h.size hk.size,fun i hi hm=>(hk.block i (Nat.lt_of_lt_of_le hi h.size) (fun hh=>by
  rcases hM i hh with h1 | h1
  ·exact hm h1
  ·omega)).trans (h.block i hi hm)⟩
def Q4e (text:ByteArray) (n:List UInt8×Nat) (ms:List (List UInt8×Nat×Int)):PM DefL:=bnd (QX text [125]) fun _=>bnd (QX text [59]) fun _=>ret (.enum n.1 n.2 ms)
def Q1l (text:ByteArray) (n:List UInt8×Nat):Nat→List (List UInt8×Nat×Int)→List (Int×Int)→PM DefL
 | 0,_,_=>thr 0 0
 | k + 1,ms,l=>fun σ=>match Q2s text ms.length l σ with
  | .ok (m,l',σ')=>bnd (Q13 text [44]) (fun y=>if y then Q1l text n k (ms++[m]) l' else Q4e text n (ms++[m])) σ'
  | .error f=>.error f
theorem Q3G {text:ByteArray} {n:List UInt8×Nat} {k:Nat} {ms:List (List UInt8×Nat×Int)} {l l':List (Int×Int)} {σ σ':St} {m:List UInt8×Nat×Int} (h:Q2s text ms.length l σ = .ok (m,l',σ')) :
  Q1l text n (k + 1) ms l σ = bnd (Q13 text [44]) (fun y=>if y then Q1l text n k (ms++[m]) l' else Q4e text n (ms++[m])) σ':=by simp only [Q1l,h]
theorem Q3V {text:ByteArray} {n:List UInt8×Nat} {k:Nat} {ms:List (List UInt8×Nat×Int)} {l:List (Int×Int)} {σ:St} {f:Mar.Fault} (h:Q2s text ms.length l σ = .error f) :
  Q1l text n (k + 1) ms l σ = .error f:=by simp only [Q1l,h]
def enumeration (text:ByteArray) (at':Nat):PM DefL:=bnd (Q2o at') fun _=>bnd (Q1y text) fun n=>bnd (QX text [123]) fun _=>Q1l text n 13 [] []
structure Q30 (A:Ad) (text:ByteArray) (w:World) (D q:Nat) (n:List UInt8×Nat) (ms:List (List UInt8×Nat×Int)) (ps Y:List Nat) (l:List (Int×Int)) (sl:Value) (σ:St) (u:World):Prop where
 kp:Qb [A.R,A.S,A.N] w u
 rd:Rd (A.plus Y) text σ u
 mine:D∈Y∧q∈Y∧D≠q
 new:∀ y∈Y,w.heap.size≤y
 nums:QT q l u
 box:u.heap[D]? = some (.cells #[.string ⟨n.1.toArray⟩,.int .i64 n.2,sl] 206)
 row:u.ownsRow w.heap.size 176 1 sl ms.length (ps.map fun b=>Value.pointer (some ⟨b,0,none⟩))
 own:∀ g,sl.ownBlock=some g→g∈Y∧g≠D∧g≠q
 len:ps.length=ms.length
 held:Held (A.plus Y).X ((ps.zip ms).map fun p=>(p.1,Q1C p.2)) u
theorem Q30.free {A:Ad} {text:ByteArray} {w u:World} {D q:Nat} {n:List UInt8×Nat} {ms:List (List UInt8×Nat×Int)} {ps Y:List Nat} {l:List (Int×Int)} {sl:Value} {σ σ0:St} (h0:Rd A text σ0 w) (m:Q30 A text w D q n ms ps Y l sl σ u):Free (A.plus Y) q:=by
 obtain ⟨l1,l2,l3,l4⟩:=h0.lt
 have hq:=m.new _ m.mine.2.1
 refine ⟨List.mem_append_left _ m.mine.2.1,?_,?_,?_,?_⟩<;>simp only [Ad.plus]<;>omega
theorem Q30.step {A:Ad} {text:ByteArray} {w u u1 u2 u3:World} {D q b g cap:Nat} {n:List UInt8×Nat} {ms:List (List UInt8×Nat×Int)} {ps Y:List Nat} {l l':List (Int×Int)} {sl:Value} {σ σ' σ0:St} {m:List UInt8×Nat×Int} (h0:Rd A text σ0 w)
  (e:Q30 A text w D q n ms ps Y l sl σ u) (hk:Qb [A.R,A.S,A.N,q] u u1) (hr:Rd (A.plus Y) text σ' u1) (hn:QT q l' u1) (hh:Held (A.plus Y).X [(b,Q1C m)] u1) (hb:Below u1.heap.size u1 u2)
  (hown:u3.ownsRow w.heap.size 176 1 (.slice (some ⟨g,0,none⟩) (ms.length + 1) cap) (ms.length + 1) ((ps.map fun b=>Value.pointer (some ⟨b,0,none⟩))++[.pointer (some ⟨b,0,none⟩)]))
  (hg:u2.grownBy u3 sl.ownBlock) (hat:sl.ownBlock=some g∨g=u2.heap.size) (hlt:g < u3.heap.size) :
  Q30 A text w D q n (ms++[m]) (ps++[b]) (g :: Y) l' (.slice (some ⟨g,0,none⟩) (ms.length + 1) cap) σ' (u3.setCell ⟨D,2,none⟩ (.slice (some ⟨g,0,none⟩) (ms.length + 1) cap)):=by
 obtain ⟨mD,mq,nDq⟩:=e.mine
 obtain ⟨hwg,_⟩:=Q0z hown (g:=g) rfl
 have lD:=Qc e.box
 have lq:=Qc e.nums
 have wD:=e.new _ mD
 have wq:=e.new _ mq
 have k1:=hk.size
 have k2:=hb.size
 have k3:=hg.size
 have gD:g≠D:=by
  rcases hat with h | h
  ·exact (e.own g h).2.1
  ·omega
 have gq:g≠q:=by
  rcases hat with h | h
  ·exact (e.own g h).2.2
  ·omega
 have hrow:∀ b,sl.ownBlock=some b→w.heap.size≤b∧b∈(A.plus Y).X:=fun b hb=>⟨e.new _ (e.own b hb).1,List.mem_append_left _ (e.own b hb).1⟩
 have hkg:=Q05 hg
 have hks:Qb [D] u3 (u3.setCell ⟨D,2,none⟩ (.slice (some ⟨g,0,none⟩) (ms.length + 1) cap)):=(Qb.refl [D] u3).setIn (by simp) _
 have hkb:Qb [] u1 u2:=Qb.of_below _ hb
 obtain ⟨l1,l2,l3,l4⟩:=h0.lt
 have rD:D ∉ sl.ownBlock.toList:=by
  intro hm
  exact (e.own D (by simpa using hm)).2.1 rfl
 have rq:q ∉ sl.ownBlock.toList:=by
  intro hm
  exact (e.own q (by simpa using hm)).2.2 rfl
 have hq3:=(((hn.keeps hkb (by simp)).keeps hkg rq).keeps hks (by simp;omega))
 have hbox:u3.heap[D]? = some (.cells #[.string ⟨n.1.toArray⟩,.int .i64 n.2,sl] 206):=
  (hkg.block _ (by omega) rD).trans ((hkb.block _ (by omega) (by simp)).trans ((hk.block _ lD (by simp;omega)).trans e.box))
 refine ⟨?_,?_,⟨List.mem_cons_of_mem _ mD,List.mem_cons_of_mem _ mq,nDq⟩,?_,hq3,?_,?_,?_,?_,?_⟩
 ·refine (((e.kp.young hk ?_).young hkb (by simp)).young hkg ?_).young hks (by simp;omega)
  ·intro m hm
   simp at hm ⊢
   rcases hm with h | h | h | h
   ·exact Or.inl (Or.inl h)
   ·exact Or.inl (Or.inr (Or.inl h))
   ·exact Or.inl (Or.inr (Or.inr h))
   ·exact Or.inr (by omega)
  ·intro m hm
   exact Or.inr (hrow m (by simpa using hm)).1
 ·exact h0.young (Same.plus A (g :: Y)) (Rd.grow h0 (Same.plus A Y) (hr.below hb) hg hrow hat hlt) hks (by
   intro x hx
   simp only [List.mem_singleton] at hx
   subst hx
   exact ⟨wD,List.mem_append_left _ (List.mem_cons_of_mem _ mD)⟩)
 ·intro y hy
  rcases List.mem_cons.1 hy with rfl | hy
  ·exact hwg
  ·exact e.new y hy
 ·exact Qn (i:=2) hbox _
 ·have:=Qk hown hks (by
   intro g' h'
   simp only [Value.ownBlock,Option.some.injEq] at h'
   subst h'
   simp;exact gD)
  simpa using this
 ·intro g' h'
  simp only [Value.ownBlock,Option.some.injEq] at h'
  subst h'
  exact ⟨List.mem_cons_self,gD,gq⟩
 ·simp [e.len]
 ·rw [List.zip_append (by exact e.len),List.map_append]
  have hX:∀ m∈[A.R,A.S,A.N,q],m∈(A.plus Y).X:=by
   have:=hr.mine
   intro x hx
   simp at hx
   rcases hx with rfl | rfl | rfl | rfl
   ·exact this.1
   ·exact this.2.1
   ·exact this.2.2.1
   ·exact List.mem_append_left _ mq
  have hold:=e.held.keeps hk hX
  have hall:Held (A.plus Y).X (((ps.zip ms).map fun p=>(p.1,Q1C p.2))++[(b,Q1C m)]) u1:=by
   intro p hp
   rcases List.mem_append.1 hp with hp | hp
   ·exact hold p hp
   ·exact hh p hp
  exact ((hall.keeps hkb (by simp)).grow hg (fun b hb=>(hrow b hb).2) hat).keeps hks (by
   intro x hx
   simp only [List.mem_singleton] at hx
   subst hx
   exact List.mem_cons_of_mem _ (List.mem_append_left _ mD))
def Qer (w:World) (D:Nat):Nat:=match w.cell? ⟨D,2,none⟩ with
 | some (.slice _ n _)=>n
 | _=>0
theorem Qk9:(Tryz.prog.info? 176).map (fun i=>(i.zero,i.size,i.bytes))=some (some (.pointer none),1,8):=by kernel_rfl
theorem Q30.slice {A:Ad} {text:ByteArray} {w u:World} {D q:Nat} {n:List UInt8×Nat} {ms:List (List UInt8×Nat×Int)} {ps Y:List Nat} {l:List (Int×Int)} {sl:Value} {σ:St} (m:Q30 A text w D q n ms ps Y l sl σ u):∃ ad cap,sl = .slice ad ms.length cap:=by
 rcases m.row.2 with ⟨rfl,h⟩ | ⟨g,cap,cur,rfl,_⟩
 ·exact ⟨none,0,by rw [h]⟩
 ·exact ⟨_,_,rfl⟩
theorem Qg1 {A' A:Ad} (hA:Same A' A) {text:ByteArray} {σ:St} (n:Nat) {q:Nat} {l:List (Int×Int)} {w:World} (h:Rd A' text σ w) (hq:Free A' q) (hn:QT q l w) :
  Calls Tryz.prog 127 #[.pointer (some ⟨A.R,0,none⟩),.int .i64 n,.map (some q)] w (Q3U [A.R,A.S,A.N,q] A' text w q (Q2s text n l σ)):=by
 obtain ⟨a1,a2,a3,a4⟩:=hA
 rw [← a1,← a2,← a3]
 exact Qeq n h hq hn
theorem Qd5 {text:ByteArray} {n:Nat} {l l':List (Int×Int)} {σ σ':St} {m:List UInt8×Nat×Int} (h:Q2s text n l σ = .ok (m,l',σ')):n < 12:=by
 rcases Nat.lt_or_ge n 12 with hn | hn
 ·exact hn
 ·exfalso
  unfold Q2s at h
  cases hx:peek text σ with
  | error f=>rw [Qm (Qx hx)] at h;cases h
  | ok p=>
   obtain ⟨x,σ1⟩:=p
   rw [Qi (Ql hx),Qm (Qx (show Q1A n 12 x.at' σ1=_ from if_pos hn))] at h
   cases h
theorem QbO {u:World} {D k cap:Nat} {a b:Value} {ad:Option Addr} {T:TypeId} (h:u.heap[D]? = some (.cells #[a,b,.slice ad k cap] T)):Qer u D=k:=by
 obtain ⟨_,_,k2,_⟩:=Q0i h
 unfold Qer
 rw [k2]
theorem Q30.scan {A:Ad} {text:ByteArray} {w u u':World} {D q:Nat} {n:List UInt8×Nat} {ms:List (List UInt8×Nat×Int)} {ps Y:List Nat} {l:List (Int×Int)} {sl:Value} {σ σ' σ0:St} (h0:Rd A text σ0 w) (m:Q30 A text w D q n ms ps Y l sl σ u) (hk:Qb [A.S] u u') (hr:Rd (A.plus Y) text σ' u') :
  Q30 A text w D q n ms ps Y l sl σ' u':=by
 obtain ⟨l1,l2,l3,l4⟩:=h0.lt
 have wD:=m.new _ m.mine.1
 have wq:=m.new _ m.mine.2.1
 refine ⟨m.kp.trans (hk.mono (by simp)),hr,m.mine,m.new,m.nums.keeps hk (by simp;omega),(hk.block _ (Qc m.box) (by simp;omega)).trans m.box,Qk m.row hk ?_,m.own,m.len,m.held.keeps hk (by intro x hx;simp only [List.mem_singleton] at hx;subst hx;exact hr.mine.2.1)⟩
 intro g hg
 have:=m.new _ (m.own g hg).1
 simp;omega
theorem Q30.fin {A:Ad} {text:ByteArray} {w u:World} {D q:Nat} {n:List UInt8×Nat} {ms:List (List UInt8×Nat×Int)} {ps Y:List Nat} {l:List (Int×Int)} {sl:Value} {σ σ0:St} (h0:Rd A text σ0 w) (m:Q30 A text w D q n ms ps Y l sl σ u) (hle:ms.length≤12)
  {r:Except Mar.Fault (DefL×St)} (hr:r = .ok (.enum n.1 n.2 ms,σ)):QC [A.R,A.S,A.N] A text w r (.returned (.pointer (some ⟨D,0,none⟩))) u:=by
 have far:∀ b,w.heap.size≤b→b ∉ A.X:=fun b hb hm=>by have:=h0.old _ hm;omega
 have hsub:Held A.X ((ps.zip ms).map fun p=>(p.1,Q1C p.2)) u:=m.held.sub (fun x hx=>List.mem_append_right _ hx)
 have hD:u.heap[D]? = some (.cells #[.string ⟨n.1.toArray⟩,.int .i64 n.2,sl] 206)∧D ∉ A.X:=⟨m.box,far _ (m.new _ m.mine.1)⟩
 have hcs:∀ i (h:i < ms.length) (h':i < ps.length),(ps[i],Q1C ms[i])∈((ps.zip ms).map fun p=>(p.1,Q1C p.2)):=by
  intro i h h'
  rw [List.mem_map]
  exact ⟨(ps[i],ms[i]),by rw [List.mem_iff_getElem];exact ⟨i,by simp;omega,by simp⟩,rfl⟩
 refine ⟨m.kp,Or.inl ⟨.enum n.1 n.2 ms,σ,D,?_⟩⟩
 rcases m.row.2 with ⟨rfl,h⟩ | ⟨g,cap,cur,rfl,hg1,hg2,hg3,hg4,hg5,hg6⟩
 ·refine ⟨(D,.cells #[.string ⟨n.1.toArray⟩,.int .i64 n.2,.slice none 0 0] 206) :: ((ps.zip ms).map fun p=>(p.1,Q1C p.2)),hr,rfl,Rd.dropAll h0.mine m.rd,⟨.slice none 0 0,ps,List.mem_cons_self,m.len,Or.inl ⟨rfl,h,?_⟩,fun i h h'=>List.mem_cons_of_mem _ (hcs i h h')⟩,?_⟩
  ·have:ps=[]:=List.length_eq_zero_iff.1 (by rw [m.len,h])
   rw [this];rfl
  ·intro p hp
   rcases List.mem_cons.1 hp with rfl | hp
   ·exact hD
   ·exact hsub p hp
 ·refine ⟨(D,.cells #[.string ⟨n.1.toArray⟩,.int .i64 n.2,.slice (some ⟨g,0,none⟩) ms.length cap] 206) :: (g,.cells cur 176) :: ((ps.zip ms).map fun p=>(p.1,Q1C p.2)),hr,rfl,Rd.dropAll h0.mine m.rd,⟨_,ps,List.mem_cons_self,m.len,Or.inr ⟨g,cap,cur,rfl,⟨hg3,by omega⟩,by simp,?_⟩,fun i h h'=>List.mem_cons_of_mem _ (List.mem_cons_of_mem _ (hcs i h h'))⟩,?_⟩
  ·rw [Nat.mul_one] at hg6
   rw [List.length_map,m.len]
   exact hg6
  ·intro p hp
   rcases List.mem_cons.1 hp with rfl | hp
   ·exact hD
   ·rcases List.mem_cons.1 hp with rfl | hp
    ·exact ⟨hg2,far _ hg1⟩
    ·exact hsub p hp
theorem Q9z {A:Ad} {text:ByteArray} {σ:St} (at':Nat) {w:World} (h:Rd A text σ w) :
  Calls Tryz.prog 88 #[.pointer (some ⟨A.R,0,none⟩),.int .i64 at'] w (QC [A.R,A.S,A.N] A text w (enumeration text at' σ)):=by
 have hmf:∀ (fn:Fn) (first cap:Array Value) (w:World),(Instr.makeFunc fn first cap).run Tryz.prog w = .ok (.func fn first cap) w:=fun _ _ _ _=>rfl
 have hmm:∀ (t:TypeId) (w:World),(Instr.makeMap t none).run Tryz.prog w = .ok (.map (some w.heap.size)) (w.alloc (.map #[] 0)):=fun _ _=>rfl
 obtain ⟨i0,hi0,hz0,hz1,hz2⟩:=info_parts Qk9
 go_enter Tryz.func88,Tryz.ntmps88
 go_wp2_with fail
 refine (Q4Z at' h).mono ?_
 rintro e w1 ⟨hk1,⟨u,σ1,hx1,rfl,hr1⟩ | ⟨f,hx1,b,hbb,rfl,hcell⟩⟩
 rotate_left
 ·exact Qa (QC.throws (hk1.mono (by simp)) (Qb.refl [] _) (Qp hx1) hbb hcell)
 have hK1:=hk1.mono (M':=[A.R,A.S,A.N]) (by simp)
 clear hk1
 go_wp2_with fail
 refine (Q3h hr1).mono ?_
 rintro e w2 ⟨hk2,⟨n,σ2,hx2,rfl,hr2⟩ | ⟨f,hx2,b,hbb,rfl,hcell⟩⟩
 rotate_left
 ·exact Qa (QC.throws (hK1.trans (hk2.mono (by simp))) hK1 ((Qh hx1).trans (Qp hx2)) hbb hcell)
 have hK2:=hK1.trans (hk2.mono (M':=[A.R,A.S,A.N]) (by simp))
 clear hk2 hK1
 dsimp only [Q1q]
 have hX2:=hr2.old
 have hlS:=hr2.lt.2.1
 have hr3:=hr2.own (.cells #[.string ⟨n.1.toArray⟩,.int .i64 n.2,.slice none 0 0] 206)
 have hv:=Qg (w:=w2) (o:=.cells #[.string ⟨n.1.toArray⟩,.int .i64 n.2,.slice none 0 0] 206) rfl
 have hK3:=hK2.alloc (.cells #[.string ⟨n.1.toArray⟩,.int .i64 n.2,.slice none 0 0] 206)
 have hne:w2.heap.size ∉ [A.S]:=by simp;omega
 go_wp2_with fail
 refine (Q02 (Same.add A _) _ hr3).mono ?_
 rintro e w4 ⟨hk4,⟨x4,σ4,hx4,rfl,hr4⟩ | ⟨f,hx4,b,hbb,rfl,hcell⟩⟩
 rotate_left
 ·exact Qa (QC.throws (hK3.trans (hk4.mono (by simp))) hK3 ((Qh hx1).trans ((Qh hx2).trans (Qp hx4))) hbb hcell)
 have hv4:=(hk4.block _ (Qc hv) hne).trans hv
 have hl4:=Qc hv4
 have hK4:=hK3.trans (hk4.mono (M':=[A.R,A.S,A.N]) (by simp))
 have hE4:enumeration text at' σ = Q1l text n 13 [] [] σ4:=(Qh hx1).trans ((Qh hx2).trans (Qh hx4))
 have hm0:Q30 A text w w2.heap.size w4.heap.size n [] [] [w4.heap.size,w2.heap.size] [] (.slice none 0 0) σ4 (w4.alloc (.map #[] 0)):=by
  have hka:Qb [] w4 (w4.alloc (.map #[] 0)):=(Qb.refl [] w4).alloc _
  refine ⟨hK4.alloc _,hr4.own _,⟨by simp,by simp,by omega⟩,?_,Qg (w:=w4) rfl,(hka.block _ hl4 (by simp)).trans hv4,⟨rfl,Or.inl ⟨rfl,rfl⟩⟩,(by intro g hg;cases hg),rfl,(by intro p hp;cases hp)⟩
  intro y hy
  have s1:=hK2.size
  have s2:=hK4.size
  simp at hy
  rcases hy with rfl | rfl<;>omega
 have HM:=Hid.mk hm0
 have HE:=Hid.mk hE4
 have HX:=Hid.mk hX2
 clear hk4 hv hK3 hr3 hm0 hE4 hv4 hK4 hr4 hx1 hx2 hx4 hr1 hK2 hX2
 go_wp2
 go_loopw [7] (fun b u=>∃ (y:Bool) (ms:List (List UInt8×Nat×Int)) (ps Y:List Nat) (l:List (Int×Int)) (sl:Value) (σ':St),b = .bool y∧ms.length≤12∧Hid (Q30 A text w w2.heap.size w4.heap.size n ms ps Y l sl σ' u) ∧
   Hid (enumeration text at' σ = (if y then Q1l text n (13 - ms.length) ms l else Q4e text n ms) σ')) (fun _ u=>13 - Qer u w2.heap.size)
 case atStart=>exact ⟨true,[],[],_,[],_,σ4,rfl,by simp,HM,HE⟩
 case round=>
  obtain ⟨y,ms,ps,Y,l,sl,σ',rfl,hlen,M,E⟩:=hrel
  clear HM HE
  cases y with
  | false=>
   go_wp2_with fail
   refine (Q02 (Same.plus A Y) _ M.out.rd).mono ?_
   rintro e w5 ⟨hk5,⟨x5,σ5,hx5,rfl,hr5⟩ | ⟨f,hx5,b,hbb,rfl,hcell⟩⟩
   rotate_left
   ·exact Qa (QC.throws (M.out.kp.trans (hk5.mono (by simp))) M.out.kp (E.out.trans (Qp hx5)) hbb hcell)
   have M5:=Hid.mk (M.out.scan h hk5 hr5)
   clear hk5 hr5
   go_wp2_with fail
   refine (Q02 (Same.plus A Y) _ M5.out.rd).mono ?_
   rintro e w6 ⟨hk6,⟨x6,σ6,hx6,rfl,hr6⟩ | ⟨f,hx6,b,hbb,rfl,hcell⟩⟩
   rotate_left
   ·exact Qa (QC.throws (M5.out.kp.trans (hk6.mono (by simp))) M5.out.kp (E.out.trans ((Qh hx5).trans (Qp hx6))) hbb hcell)
   have M6:=Hid.mk (M5.out.scan h hk6 hr6)
   clear hk6 hr6
   go_wp2
   go_ret
   exact M6.out.fin h hlen (E.out.trans ((Qh hx5).trans (Qh hx6)))
  | true=>
   obtain ⟨ad,cap,rfl⟩:=M.out.slice
   obtain ⟨k0,k1,k2,hfrK⟩:=Q0i M.out.box
   have hbd:Below wr.heap.size wr wr.drew:=(Below.refl _ _).drew
   have HC:=Hid.mk (Qg1 (Same.plus A Y) ms.length (M.out.rd.below hbd) (M.out.free h) ((hbd.block _ (Qc M.out.nums)).trans M.out.nums))
   have HQ:Hid (13 - ms.length=(12 - ms.length) + 1):=by show _=_;omega
   have EM:Hid (enumeration text at' σ = Q1l text n ((12 - ms.length) + 1) ms l σ'):=by
    have h1:=E.out
    rw [HQ.out] at h1
    exact h1
   clear E
   have herr:∀ (f:Mar.Fault) (b:Nat) (u':World),Q2s text ms.length l σ' = .error f→wr.heap.size≤b→Qb [A.R,A.S,A.N,w4.heap.size] wr.drew u'→u'.heap[b]? = some (.cells #[.int .i64 f.no,.int .i64 f.at'] 83) →
     QC [A.R,A.S,A.N] A text w (enumeration text at' σ) (.panicked [{ v:=.iface 79 (.pointer (some ⟨b,0,none⟩)),recovered:=false }]) u':=by
    intro f b u' hf hb hk hc
    have hwq:=M.out.new _ M.out.mine.2.1
    refine QC.throws (M.out.kp.young (((Qb.refl _ wr).drew).trans hk) ?_) M.out.kp (EM.out.trans (Q3V hf)) hb hc
    intro m hm
    simp at hm ⊢
    rcases hm with h | h | h | h
    ·exact Or.inl (Or.inl h)
    ·exact Or.inl (Or.inr (Or.inl h))
    ·exact Or.inl (Or.inr (Or.inr h))
    ·exact Or.inr (by omega)
   have HERR:=Hid.mk herr
   have hrM:∀ g,(Value.slice ad ms.length cap).ownBlock=some g→g ∉ [A.R,A.S,A.N,w4.heap.size]:=by
    intro g hg
    have h1:=M.out.own g hg
    have h2:=M.out.new _ h1.1
    obtain ⟨l1,l2,l3,l4⟩:=h.lt
    simp;omega
   have hat5:∀ w5,Qb [A.R,A.S,A.N,w4.heap.size] wr.drew w5→(∀ o,(w5.alloc o).ownsRow w.heap.size 176 1 (.slice ad ms.length cap) ms.length (ps.map fun b=>Value.pointer (some ⟨b,0,none⟩))) ∧
     w5.heap[w2.heap.size]? = some (.cells #[.string ⟨n.1.toArray⟩,.int .i64 n.2,.slice ad ms.length cap] 206)∧w.heap.size≤w5.heap.size:=by
    intro w5 hk5
    have hk5':=((Qb.refl _ wr).drew).trans hk5
    have h1:=M.out.new _ M.out.mine.1
    obtain ⟨l1,l2,l3,l4⟩:=h.lt
    have h2:=M.out.mine.2.2
    refine ⟨fun o=>Qk (Qk M.out.row hk5' hrM) ((Qb.refl [] w5).alloc o) (by simp),(hk5'.block _ (Qc M.out.box) (by simp;omega)).trans M.out.box,Nat.le_trans M.out.kp.size hk5'.size⟩
   have H5:=Hid.mk hat5
   have hat6:∀ w5 o w6,Qb [A.R,A.S,A.N,w4.heap.size] wr.drew w5→(w5.alloc o).grownBy w6 (Value.slice ad ms.length cap).ownBlock→w6.heap[w2.heap.size]? = some (.cells #[.string ⟨n.1.toArray⟩,.int .i64 n.2,.slice ad ms.length cap] 206):=by
    intro w5 o w6 hk5 hg
    obtain ⟨_,h5,_⟩:=hat5 w5 hk5
    have hl:=Qc h5
    exact (hg.block _ (by simp;omega) (fun e=>(M.out.own _ e.symm).2.1 rfl)).trans ((((Qb.refl [] w5).alloc o).block _ hl (by simp)).trans h5)
   have H6:=Hid.mk hat6
   have hz3:(Value.pointer none).cells.size=1:=rfl
   have hl1:ms.length + 1≤maxLen:=by unfold maxLen;omega
   have hl2:(ms.length + 1) * 8≤140737488355328:=by omega
   clear herr hat5 hat6
   go_wp2_with fail
   go_region_law (first
    | (go_simp;go_at_call 127;refine HC.out.mono ?_;rintro e w5 ⟨hk5,⟨m,l5,σ5,b,hx5,rfl,hr5,hn5,hh5⟩ | ⟨f,hx5,b,hbb,rfl,hcell⟩⟩;rotate_left;exact (show bodyPost Tryz.prog Tryz.f88 (QC [A.R,A.S,A.N] A text w (enumeration text at' σ)) (Exit.panic _) _ w5 from Qa (HERR.out f b w5 hx5 hbb hk5 hcell));dsimp only;obtain ⟨hown5,hbox5,hwl⟩:=H5.out w5 hk5;obtain ⟨y0,y1,y2,hfy⟩:=Q0i hbox5;have hlt5:=Qc hbox5;have hne5:=Nat.ne_of_lt hlt5)
    | (refine step_append_lies _ (by rfl) _ _ _ (by rfl) w.heap.size 176 i0 _ 1 8 Tryz.underlying204 hi0 hz0 hz1 hz2 hz3 (by omega) (.slice ad ms.length cap) ms.length (ps.map fun b=>Value.pointer (some ⟨b,0,none⟩)) (by rfl) (hown5 _) ⟨w5.heap.size,0,none⟩ 1 1 [.pointer (some ⟨b,0,none⟩)] (by rfl) (by rfl) (World.news_of_block (cs:=#[.pointer (some ⟨b,0,none⟩)]) (t:=176) (fr:=(0,0)) (heap_alloc_new w5 _)) (by simp [Value.oneCell']) (by omega) hl1 hl2 (by simp;omega) (w5.heap.size + 1) (by simp) ?_;intro g cap' w6 hown6 hgrow hat hlt;have hbox6:=H6.out w5 _ w6 hk5 hgrow;obtain ⟨z0,z1,z2,hfz⟩:=Q0i hbox6))
   all_goals
    have h12:=Qd5 hx5
    have M6:=Hid.mk (Q30.step h M.out (((Qb.refl _ wr).drew).trans hk5) hr5 hn5 hh5 ((Below.refl w5.heap.size w5).alloc (Nat.le_refl _) _) hown6 hgrow (by simpa using hat) hlt)
    clear hk5 hr5 hn5 hh5 hown6 hgrow hat hlt hbox6 z0 z1 z2 hfz hbox5 y0 y1 y2 hfy hown5
    go_wp2_with fail
    refine (Q2r (Same.plus A (g :: Y)) _ M6.out.rd).mono ?_
    rintro e w7 ⟨hk7,⟨y7,σ7,hx7,rfl,hr7⟩ | ⟨f,hx7,b7,hbb,rfl,hcell⟩⟩
    rotate_left
    ·exact (show bodyPost Tryz.prog Tryz.f88 (QC [A.R,A.S,A.N] A text w (enumeration text at' σ)) (Exit.panic _) _ w7 from Qa (QC.throws (M6.out.kp.trans (hk7.mono (by simp))) M6.out.kp (EM.out.trans ((Q3G hx5).trans (Qp hx7))) hbb hcell))
    have M7:=Hid.mk (M6.out.scan h hk7 hr7)
    have E7:Hid (enumeration text at' σ = (if y7=true then Q1l text n (13 - (ms++[m]).length) (ms++[m]) l5 else Q4e text n (ms++[m])) σ7):=by
     refine EM.out.trans ((Q3G hx5).trans ((Qh hx7).trans ?_))
     have:13 - (ms++[m]).length=12 - ms.length:=by simp
     rw [this]
    have L1:=QbO M.out.box
    have L2:=QbO M7.out.box
    clear hk7 hr7
    go_wp2
    refine ⟨⟨y7,ms++[m],ps++[b],g :: Y,l5,_,σ7,rfl,by simp;omega,M7,E7⟩,?_⟩
    rw [L1,L2]
    omega
def Q0Y {τ:Type} (A:Ad) (w:World) (J:List Nat→τ→St→World→Prop) (r:Except Mar.Fault (Unit×τ×St)) (e:Ending) (u':World):Prop:=
 (∃ Y' t' σ',r = .ok ((),t',σ')∧e = .returned (.tuple #[])∧J Y' t' σ' u')∨(∃ f,r = .error f∧Qb [A.R,A.S,A.N] w u'∧Q0c w f.no f.at' e u')
theorem Q0Y.throws {τ:Type} {M':List Nat} {A:Ad} {w w1 u':World} {J:List Nat→τ→St→World→Prop} {r:Except Mar.Fault (Unit×τ×St)} {f:Mar.Fault} {b:Nat}
  (hk:Qb [A.R,A.S,A.N] w u') (hk1:Qb M' w w1) (hr:r = .error f) (hb:w1.heap.size≤b) (hc:u'.heap[b]? = some (.cells #[.int .i64 f.no,.int .i64 f.at'] 83)) :
  Q0Y A w J r (.panicked [{ v:=.iface 79 (.pointer (some ⟨b,0,none⟩)),recovered:=false }]) u':=
 Or.inr ⟨f,hr,hk,b,Nat.le_trans hk1.size hb,rfl,hc⟩
structure One (τ:Type) (A:Ad) (text:ByteArray) (w:World) (most:Nat) where
 f:Nat
 cap:Array Value
 run:PX τ Unit
 J:Nat→List Nat→τ→St→World→Prop
 enters:∀ (args:Array Value) (u:World),(callFunc f args).run Tryz.prog u = .ok (.enter f args) u
 rd:∀ {n Y t σ u},J n Y t σ u→Rd (A.plus Y) text σ u
 kp:∀ {n Y t σ u},J n Y t σ u→Qb [A.R,A.S,A.N] w u
 scan:∀ {n Y t σ σ' u u'},J n Y t σ u→Qb [A.S] u u'→Rd (A.plus Y) text σ' u'→J n Y t σ' u'
 call:∀ {n Y t σ u},n < most→J n Y t σ u→Calls Tryz.prog f cap u (Q0Y A w (J (n + 1)) (run t σ))
def Q2b {τ:Type} (text:ByteArray) (most:Nat) (run:PX τ Unit):Nat→Nat→PX τ Unit
 | 0,_=>lift (thr 0 0)
 | k + 1,n=>bndx (if n=0 then retx false else lift (Q13 text [125])) fun y=>if y then retx () else
   bndx (lift (peek text)) fun x=>bndx (lift (Q1A n most x.at')) fun _=>bndx run fun _=>Q2b text most run k (n + 1)
def block {τ:Type} (text:ByteArray) (most:Nat) (run:PX τ Unit):PX τ Unit:=bndx (lift (QX text [123])) fun _=>Q2b text most run (most + 2) 0
theorem Qai {A' A:Ad} (hA:Same A' A) {text:ByteArray} {σ:St} {w:World} (h:Rd A' text σ w) :
  Calls Tryz.prog 49 #[.pointer (some ⟨A.S,0,none⟩)] w (Qt [A.S] A' text w (peek text σ) QZ):=by
 obtain ⟨a1,a2,a3,a4⟩:=hA
 rw [← a2]
 exact Q7b h
def Qg2 {τ:Type} (text:ByteArray) (most:Nat) (run:PX τ Unit) (k n:Nat):PX τ Unit:=
 bndx (lift (peek text)) fun x=>bndx (lift (Q1A n most x.at')) fun _=>bndx run fun _=>Q2b text most run k (n + 1)
theorem Q7S {τ:Type} {A:Ad} {text:ByteArray} {w:World} (most:Nat) (O:One τ A text w most) {Y:List Nat} {t:τ} {σ:St} {u:World} (hmost:most≤1000) (h:O.J 0 Y t σ u) :
  Calls Tryz.prog 129 #[.pointer (some ⟨A.R,0,none⟩),.int .i64 most,.func (.func O.f) #[] O.cap] u (Q0Y A w (fun Y t σ u=>∃ n≤most,O.J n Y t σ u) (block text most O.run t σ)):=by
 have hen:=O.enters
 have hft:=QbE
 go_enter Tryz.func129,Tryz.ntmps129
 go_wp2_with fail
 refine (Q02 (Same.plus A Y) _ (O.rd h)).mono ?_
 rintro e w1 ⟨hk1,⟨x1,σ1,hx1,rfl,hr1⟩ | ⟨f,hx1,b,hbb,rfl,hcell⟩⟩
 rotate_left
 ·exact Qa (Q0Y.throws ((O.kp h).trans (hk1.mono (by simp))) (O.kp h) (Qm (Qx hx1)) hbb hcell)
 have J1:=Hid.mk (O.scan h hk1 hr1)
 have E1:Hid (block text most O.run t σ = Q2b text most O.run (most + 2) 0 t σ1):=Qi (Ql hx1)
 clear hk1 hr1 hx1
 dsimp only [QZ]
 go_wp2
 go_loopw [6] (fun i ur=>∃ (n:Nat) (Y':List Nat) (t':τ) (σ':St),i = .int .i64 n∧n≤most∧Hid (O.J n Y' t' σ' ur)∧Hid (block text most O.run t σ = Q2b text most O.run (most + 2 - n) n t' σ')) (fun i _=>most + 1 - (intOf i).toNat)
 case atStart=>exact ⟨0,_,_,_,rfl,by omega,J1,E1⟩
 case round=>
  obtain ⟨n,Y',t',σ',rfl,hn,J,E⟩:=hrel
  clear J1 E1
  have E0:Hid (block text most O.run t σ = Q2b text most O.run ((most + 1 - n) + 1) n t' σ'):=by
   have h1:=E.out
   rw [show most + 2 - n=(most + 1 - n) + 1 by omega] at h1
   exact h1
  clear E
  by_cases h0:n=0
  ·have c0:wr.cell? ⟨A.R,0,none⟩=some (.pointer (some ⟨A.S,0,none⟩)):=(O.rd J.out).cells.1
   have EA:Hid (block text most O.run t σ = Qg2 text most O.run (most + 1 - n) n t' σ'):=by
    refine E0.out.trans ?_
    simp only [Q2b,if_pos h0]
    rfl
   have JA:=J
   clear E0 J
   have h0':((n:Int) == 0)=true:=by simp [h0]
   go_wp2_with fail
   refine (Qai (Same.plus A Y') (O.rd JA.out)).mono ?_
   rintro e w5 ⟨hk5,⟨x5,σ5,hx5,rfl,hr5⟩ | ⟨f,hx5,b,hbb,rfl,hcell⟩⟩
   rotate_left
   ·exact (show bodyPost Tryz.prog Tryz.f129 (Q0Y A w (fun Y t σ u=>∃ n≤most,O.J n Y t σ u) (block text most O.run t σ)) (Exit.panic _) _ w5 from Qa (Q0Y.throws ((O.kp JA.out).trans (hk5.mono (by simp))) (O.kp JA.out) (EA.out.trans (Qm (Qx hx5))) hbb hcell))
   have J5:=Hid.mk (O.scan JA.out hk5 hr5)
   clear hk5 hr5
   dsimp only [QZ]
   go_wp2_with fail
   by_cases hfi:most≤n
   ·refine (Q3p _ _ _ _ (by omega)).mono ?_
    rintro e w6 ⟨⟨b,hbb,rfl,hcell⟩,hb⟩
    exact (show bodyPost Tryz.prog Tryz.f129 (Q0Y A w (fun Y t σ u=>∃ n≤most,O.J n Y t σ u) (block text most O.run t σ)) (Exit.panic _) _ w6 from Qa (Q0Y.throws (f:=⟨5,x5.at'⟩) ((O.kp J5.out).trans (Qb.of_below _ hb)) (O.kp J5.out) (EA.out.trans ((Qi (Ql hx5)).trans (Qm (Qx (show Q1A n most x5.at' σ5=_ from if_pos hfi))))) hbb hcell))
   have hx6:Q1A n most x5.at' σ5 = .ok ((),σ5):=if_neg hfi
   refine (Q4L _ _ _ _ (by omega)).mono ?_
   rintro e w6 ⟨rfl,rfl⟩
   go_wp2_with fail
   refine (O.call (by omega) J5.out).mono ?_
   rintro e w7 (⟨Y7,t7,σ7,hx7,rfl,hJ7⟩ | ⟨f,hx7,hk7,b,hbb,rfl,hcell⟩)
   rotate_left
   ·exact (show bodyPost Tryz.prog Tryz.f129 (Q0Y A w (fun Y t σ u=>∃ n≤most,O.J n Y t σ u) (block text most O.run t σ)) (Exit.panic _) _ w7 from Qa (Or.inr ⟨f,EA.out.trans ((Qi (Ql hx5)).trans ((Qi (Ql hx6)).trans (Qm hx7))),hk7,b,hbb,rfl,hcell⟩))
   have J7:=Hid.mk hJ7
   have E7:Hid (block text most O.run t σ = Q2b text most O.run (most + 2 - (n + 1)) (n + 1) t7 σ7):=by
    refine EA.out.trans ((Qi (Ql hx5)).trans ((Qi (Ql hx6)).trans ((Qi hx7).trans ?_)))
    rw [show most + 2 - (n + 1)=most + 1 - n by omega]
   clear hJ7
   go_wp2
   exact ⟨⟨n + 1,Y7,t7,σ7,by simp [h0],by omega,J7,E7⟩,by simp [intOf,h0];try omega⟩
  ·have h0':((n:Int) == 0)=false:=by simp;omega
   go_wp2_with fail
   refine (Q2r (Same.plus A Y') _ (O.rd J.out)).mono ?_
   rintro e w3 ⟨hk3,⟨y3,σ3,hx3,rfl,hr3⟩ | ⟨f,hx3,b,hbb,rfl,hcell⟩⟩
   rotate_left
   ·refine (show bodyPost Tryz.prog Tryz.f129 (Q0Y A w (fun Y t σ u=>∃ n≤most,O.J n Y t σ u) (block text most O.run t σ)) (Exit.panic _) _ w3 from Qa (Q0Y.throws ((O.kp J.out).trans (hk3.mono (by simp))) (O.kp J.out) (E0.out.trans ?_) hbb hcell))
    simp only [Q2b,if_neg h0]
    exact Qm (Qx hx3)
   have JB:=Hid.mk (O.scan J.out hk3 hr3)
   have EB:Hid (block text most O.run t σ = (if y3=true then retx () else Qg2 text most O.run (most + 1 - n) n) t' σ3):=by
    refine E0.out.trans ?_
    simp only [Q2b,if_neg h0]
    exact Qi (Ql hx3)
   have c0:w3.cell? ⟨A.R,0,none⟩=some (.pointer (some ⟨A.S,0,none⟩)):=(O.rd JB.out).cells.1
   clear hk3 hr3 J E0
   cases y3 with
   | true=>
    go_wp2
    go_end0
    exact Or.inl ⟨_,t',σ3,EB.out,rfl,n,hn,JB.out⟩
   | false=>
    go_wp2_with fail
    refine (Qai (Same.plus A Y') (O.rd JB.out)).mono ?_
    rintro e w5 ⟨hk5,⟨x5,σ5,hx5,rfl,hr5⟩ | ⟨f,hx5,b,hbb,rfl,hcell⟩⟩
    rotate_left
    ·exact (show bodyPost Tryz.prog Tryz.f129 (Q0Y A w (fun Y t σ u=>∃ n≤most,O.J n Y t σ u) (block text most O.run t σ)) (Exit.panic _) _ w5 from Qa (Q0Y.throws ((O.kp JB.out).trans (hk5.mono (by simp))) (O.kp JB.out) (EB.out.trans (Qm (Qx hx5))) hbb hcell))
    have J5:=Hid.mk (O.scan JB.out hk5 hr5)
    clear hk5 hr5
    dsimp only [QZ]
    go_wp2_with fail
    by_cases hfi:most≤n
    ·refine (Q3p _ _ _ _ (by omega)).mono ?_
     rintro e w6 ⟨⟨b,hbb,rfl,hcell⟩,hb⟩
     exact (show bodyPost Tryz.prog Tryz.f129 (Q0Y A w (fun Y t σ u=>∃ n≤most,O.J n Y t σ u) (block text most O.run t σ)) (Exit.panic _) _ w6 from Qa (Q0Y.throws (f:=⟨5,x5.at'⟩) ((O.kp J5.out).trans (Qb.of_below _ hb)) (O.kp J5.out) (EB.out.trans ((Qi (Ql hx5)).trans (Qm (Qx (show Q1A n most x5.at' σ5=_ from if_pos hfi))))) hbb hcell))
    have hx6:Q1A n most x5.at' σ5 = .ok ((),σ5):=if_neg hfi
    refine (Q4L _ _ _ _ (by omega)).mono ?_
    rintro e w6 ⟨rfl,rfl⟩
    go_wp2_with fail
    refine (O.call (by omega) J5.out).mono ?_
    rintro e w7 (⟨Y7,t7,σ7,hx7,rfl,hJ7⟩ | ⟨f,hx7,hk7,b,hbb,rfl,hcell⟩)
    rotate_left
    ·exact (show bodyPost Tryz.prog Tryz.f129 (Q0Y A w (fun Y t σ u=>∃ n≤most,O.J n Y t σ u) (block text most O.run t σ)) (Exit.panic _) _ w7 from Qa (Or.inr ⟨f,EB.out.trans ((Qi (Ql hx5)).trans ((Qi (Ql hx6)).trans (Qm hx7))),hk7,b,hbb,rfl,hcell⟩))
    have J7:=Hid.mk hJ7
    have E7:Hid (block text most O.run t σ = Q2b text most O.run (most + 2 - (n + 1)) (n + 1) t7 σ7):=by
     refine EB.out.trans ((Qi (Ql hx5)).trans ((Qi (Ql hx6)).trans ((Qi hx7).trans ?_)))
     rw [show most + 2 - (n + 1)=most + 1 - n by omega]
    clear hJ7
    go_wp2
    exact ⟨⟨n + 1,Y7,t7,σ7,by go_num,by omega,J7,E7⟩,by simp [intOf];omega⟩
theorem Q6n (w:World):Calls Tryz.prog 128 #[] w fun e w'=>∃ q bx,e = .returned (Qr q bx).v∧w.heap.size≤q∧w.heap.size≤bx∧q≠bx∧(Qr q bx).I [] w'∧Below w.heap.size w w'∧w'.heap[bx]? = some (.cells #[.map (some q)] 64):=by
 have hmm:∀ (t:TypeId) (w:World),(Instr.makeMap t none).run Tryz.prog w = .ok (.map (some w.heap.size)) (w.alloc (.map #[] 0)):=fun _ _=>rfl
 have hmf:∀ (fn:Fn) (first cap:Array Value) (w:World),(Instr.makeFunc fn first cap).run Tryz.prog w = .ok (.func fn first cap) w:=fun _ _ _ _=>rfl
 go_enter Tryz.func128,Tryz.ntmps128
 go_wp2
 go_ret
 have h1:(w.alloc (.map #[] 0)).heap.size=w.heap.size + 1:=by simp
 refine ⟨w.heap.size,w.heap.size + 1,rfl,by omega,by omega,by omega,?_,((Below.refl w.heap.size w).alloc (Nat.le_refl _) _).alloc (by omega) _,?_⟩
 ·have hq:((w.alloc (.map #[] 0)).alloc (.cells #[.map (some w.heap.size)] 64)).heap[w.heap.size]? = some (.map #[] 0):=
   (((Qb.refl [] (w.alloc (.map #[] 0))).alloc _).block _ (by omega) (by simp)).trans (Qg (w:=w) rfl)
  exact ⟨by simp,[],rfl,hq⟩
 ·rw [← h1]
  exact Qg (w:=w.alloc (.map #[] 0)) rfl
structure StAd where
 D:Nat
 rb:Nat
 db:Nat
 cb:Nat
 q:Nat
 bx:Nat
def StAd.list (a:StAd):List Nat:=[a.D,a.rb,a.db,a.cb,a.q]
structure Q31 (A:Ad) (text:ByteArray) (w:World) (a:StAd) (n:List UInt8×Nat) (ds:List Qq) (Y:List Nat) (t:List (List UInt8)) (sl:Value) (σ:St) (u:World):Prop where
 kp:Qb [A.R,A.S,A.N] w u
 rd:Rd (A.plus Y) text σ u
 mine:∀ b∈a.list,b∈Y
 nd:a.list.Nodup
 new:∀ y∈Y,w.heap.size≤y
 own:∀ g,sl.ownBlock=some g→g∈Y∧g ∉ a.list
 set:Q0l a.q t u
 cl:Held (A.plus Y).X (Qr a.q a.bx).bs u
 box:u.heap[a.D]? = some (.cells #[.string ⟨n.1.toArray⟩,.int .i64 n.2,sl] 282)
 vr:u.heap[a.rb]? = some (.cells #[.pointer (some ⟨A.R,0,none⟩)] 101)
 vd:u.heap[a.db]? = some (.cells #[.pointer (some ⟨a.D,0,none⟩)] 182)
 vc:u.heap[a.cb]? = some (.cells #[(Qr a.q a.bx).v] 270)
 row:u.ownsRow w.heap.size 195 3 sl ds.length (ds.flatMap Q1Z)
theorem Q31.scan {A:Ad} {text:ByteArray} {w u u':World} {a:StAd} {n:List UInt8×Nat} {ds:List Qq} {Y:List Nat} {t:List (List UInt8)} {sl:Value} {σ σ' σ0:St} (h0:Rd A text σ0 w) (m:Q31 A text w a n ds Y t sl σ u) (hk:Qb [A.S] u u') (hr:Rd (A.plus Y) text σ' u') :
  Q31 A text w a n ds Y t sl σ' u':=by
 obtain ⟨l1,l2,l3,l4⟩:=h0.lt
 have far:∀ b∈a.list,b ∉ [A.S]:=fun b hb=>by have:=m.new _ (m.mine b hb);simp;omega
 refine ⟨m.kp.trans (hk.mono (by simp)),hr,m.mine,m.nd,m.new,m.own,m.set.keeps hk (far _ (by simp [StAd.list])),m.cl.keeps hk (by intro x hx;simp only [List.mem_singleton] at hx;subst hx;exact hr.mine.2.1),(hk.block _ (Qc m.box) (far _ (by simp [StAd.list]))).trans m.box,
  (hk.block _ (Qc m.vr) (far _ (by simp [StAd.list]))).trans m.vr,(hk.block _ (Qc m.vd) (far _ (by simp [StAd.list]))).trans m.vd,(hk.block _ (Qc m.vc) (far _ (by simp [StAd.list]))).trans m.vc,Qk m.row hk ?_⟩
 intro g hg
 have:=m.new _ (m.own g hg).1
 simp;omega
theorem Q31.step {A:Ad} {text:ByteArray} {w u u1 u2 u3:World} {a:StAd} {g cap:Nat} {n:List UInt8×Nat} {ds:List Qq} {Y:List Nat} {t t':List (List UInt8)} {sl:Value} {σ σ' σ0:St} {d:Qq} (h0:Rd A text σ0 w)
  (e:Q31 A text w a n ds Y t sl σ u) (hk:Qb [A.S,a.q] u u1) (hr:Rd (A.plus Y) text σ' u1) (hn:Q0l a.q t' u1) (hb:Below u1.heap.size u1 u2)
  (hown:u3.ownsRow w.heap.size 195 3 (.slice (some ⟨g,0,none⟩) (ds.length + 1) cap) (ds.length + 1) (ds.flatMap Q1Z++Q1Z d))
  (hg:u2.grownBy u3 sl.ownBlock) (hat:sl.ownBlock=some g∨g=u2.heap.size) (hlt:g < u3.heap.size) :
  Q31 A text w a n (ds++[d]) (g :: Y) t' (.slice (some ⟨g,0,none⟩) (ds.length + 1) cap) σ' (u3.setCell ⟨a.D,2,none⟩ (.slice (some ⟨g,0,none⟩) (ds.length + 1) cap)):=by
 obtain ⟨hwg,_⟩:=Q0z hown (g:=g) rfl
 have iD:a.D∈a.list:=by simp [StAd.list]
 have ir:a.rb∈a.list:=by simp [StAd.list]
 have id':a.db∈a.list:=by simp [StAd.list]
 have ic:a.cb∈a.list:=by simp [StAd.list]
 have iq:a.q∈a.list:=by simp [StAd.list]
 have hnd:=e.nd
 simp only [StAd.list,List.nodup_cons,List.mem_cons,List.not_mem_nil,or_false,not_or] at hnd
 have wnew:∀ b∈a.list,w.heap.size≤b:=fun b hb=>e.new _ (e.mine b hb)
 have hlen:∀ b∈a.list,b < u.heap.size:=fun b hb=>by
  have:=e.rd.old b (List.mem_append_left _ (e.mine b hb))
  exact this
 have k1:=hk.size
 have k2:=hb.size
 have k3:=hg.size
 have gl:g ∉ a.list:=by
  rcases hat with h | h
  ·exact (e.own g h).2
  ·intro hm
   have:=hlen g hm
   omega
 have hrow:∀ b,sl.ownBlock=some b→w.heap.size≤b∧b∈(A.plus Y).X:=fun b hb=>⟨e.new _ (e.own b hb).1,List.mem_append_left _ (e.own b hb).1⟩
 have hkg:=Q05 hg
 have hks:Qb [a.D] u3 (u3.setCell ⟨a.D,2,none⟩ (.slice (some ⟨g,0,none⟩) (ds.length + 1) cap)):=(Qb.refl [a.D] u3).setIn (by simp) _
 have hkb:Qb [] u1 u2:=Qb.of_below _ hb
 obtain ⟨l1,l2,l3,l4⟩:=h0.lt
 have rl:∀ b∈a.list,b ∉ sl.ownBlock.toList:=by
  intro b hb hm
  exact (e.own b (by simpa using hm)).2 hb
 have to3:∀ b∈a.list,b≠a.q→u3.heap[b]? = u.heap[b]?:=by
  intro b hb hq
  have h1:=hlen b hb
  have h2:=wnew b hb
  exact (hkg.block _ (by omega) (rl b hb)).trans ((hkb.block _ (by omega) (by simp)).trans (hk.block _ h1 (by simp;omega)))
 have to4:∀ b∈a.list,b≠a.q→b≠a.D→(u3.setCell ⟨a.D,2,none⟩ (.slice (some ⟨g,0,none⟩) (ds.length + 1) cap)).heap[b]? = u.heap[b]?:=by
  intro b hb hq hD
  have h1:=hlen b hb
  exact (hks.block _ (by omega) (by simpa using hD)).trans (to3 b hb hq)
 have hX:∀ m∈[A.S,a.q],m∈(A.plus Y).X:=by
  intro x hx
  simp at hx
  rcases hx with rfl | rfl
  ·exact hr.mine.2.1
  ·exact List.mem_append_left _ (e.mine _ iq)
 refine ⟨?_,?_,fun b hb=>List.mem_cons_of_mem _ (e.mine b hb),e.nd,?_,?_,?_,?_,?_,?_,?_,?_,?_⟩
 ·refine (((e.kp.young hk ?_).young hkb (by simp)).young hkg ?_).young hks ?_
  ·intro m hm
   simp at hm ⊢
   rcases hm with h | h
   ·exact Or.inl (Or.inr (Or.inl h))
   ·exact Or.inr (by have:=wnew _ iq;omega)
  ·intro m hm
   exact Or.inr (hrow m (by simpa using hm)).1
  ·intro m hm
   simp only [List.mem_singleton] at hm
   subst hm
   exact Or.inr (wnew _ iD)
 ·exact h0.young (Same.plus A (g :: Y)) (Rd.grow h0 (Same.plus A Y) (hr.below hb) hg hrow hat hlt) hks (by
   intro x hx
   simp only [List.mem_singleton] at hx
   subst hx
   exact ⟨wnew _ iD,List.mem_append_left _ (List.mem_cons_of_mem _ (e.mine _ iD))⟩)
 ·intro y hy
  rcases List.mem_cons.1 hy with rfl | hy
  ·exact hwg
  ·exact e.new y hy
 ·intro g' h'
  simp only [Value.ownBlock,Option.some.injEq] at h'
  subst h'
  exact ⟨List.mem_cons_self,gl⟩
 ·exact ((hn.keeps hkb (by simp)).keeps hkg (rl _ iq)).keeps hks (by simp;omega)
 ·exact (((e.cl.keeps hk hX).keeps hkb (by simp)).grow hg (fun b hb=>(hrow b hb).2) hat).keeps hks (by
   intro x hx
   simp only [List.mem_singleton] at hx
   subst hx
   exact List.mem_cons_of_mem _ (List.mem_append_left _ (e.mine _ iD)))
 ·exact Qn (i:=2) ((to3 _ iD (by omega)).trans e.box) _
 ·exact (to4 _ ir (by omega) (by omega)).trans e.vr
 ·exact (to4 _ id' (by omega) (by omega)).trans e.vd
 ·exact (to4 _ ic (by omega) (by omega)).trans e.vc
 ·have:=Qk hown hks (by
   intro g' h'
   simp only [Value.ownBlock,Option.some.injEq] at h'
   subst h'
   intro hm
   simp only [List.mem_singleton] at hm
   exact gl (hm ▸ iD))
  simpa using this
end Go.Proofs.YtmbcibgknckenaaGreatDoor
namespace Go.Proofs.YtmbcibgknckenaaGreatDoor
section
variable {P : Program} {ops : Array Oper} {Q : Exit → Act → World → Prop} {md : Region.Mode} {S : World → Prop}
abbrev ahead (P:Program) (ops:Array Oper) (Q:Exit→Act→World→Prop) (L:Nat):Exit→Act→World→Prop:=fun e a w=>match e with
 | .normal=>wpOp P ops Q L (fun a' w'=>Q .normal a' w') a w
 | .exit i=>Q (.exit i) a w
 | .goto l=>Q (.goto l) a w
 | .ret=>Q .ret a w
 | .panic c=>Q (.panic c) a w
 | .outgrown=>Q .outgrown a w
theorem Qb6 {L:Nat} (h:LetsOut (ahead P ops Q L)):LetsOut Q:=h
theorem QbP {L:Nat} {o:Oper} {a:Act} {w:World} {K:Act→World→Prop} (h:o.wp P a w K (ahead P ops Q L)):o.wp P a w K Q:=by
 unfold Oper.wp at *
 generalize (execOp a.eval o).run P w=r at *
 cases r with
 | ok n w'=>cases n<;>simp only [Oper.upon] at h ⊢<;>exact h
 | halt x w'=>cases x<;>simp only [Oper.upon] at h ⊢<;>exact h
theorem Qes {L i:Nat} {a:Act} {w:World} {K:Act→World→Prop} (h:wpOp P ops (ahead P ops Q L) i K a w):wpOp P ops Q i K a w:=by
 unfold wpOp at *
 split
 ·rename_i ho
  simp only [ho] at h
  exact h
 ·rename_i o ho
  simp only [ho] at h
  split
  ·rename_i hw
   simp only [hw,if_true] at h
   rcases h with h | ⟨h1,h2⟩
   ·exact Or.inl (QbP h)
   ·exact Or.inr ⟨h1,Qb6 h2⟩
  ·rename_i hw
   simp only [hw] at h
   exact h
def Q49 (md:Region.Mode) (ops:Array Oper):Bool:=(List.range ops.size).all fun j=>match ops[j]? with
 | some o=>o.after.all fun e=>!Region.binds md e || decide (e.on < j)
 | none=>true
def Q5C (md:Region.Mode) (ops:Array Oper) (L:Nat):Bool:=(List.range L).all fun j=>(List.range ops.size).any fun k=>match ops[k]? with
 | some o=>o.after.any fun e=>Region.binds md e && e.on == j
 | none=>false
theorem Q7F (h:Q49 md ops=true) {j:Nat} {o:Oper} (ho:ops[j]? = some o) {e:_} (he:e∈o.after) (hb:Region.binds md e=true):e.on < j:=by
 simp only [Q49,List.all_eq_true,List.mem_range] at h
 have h1:=h j (Array.getElem?_eq_some_iff.1 ho).1
 simp only [ho,Array.all_eq_true_iff_forall_mem] at h1
 have h2:=h1 e he
 simpa [hb] using h2
theorem QbQ {L:Nat} (h:Q5C md ops L=true) {j:Nat} (hj:j < L):∃ k:Nat,∃ o:Oper,ops[k]? = some o∧∃ e∈o.after,Region.binds md e=true∧e.on=j:=by
 simp only [Q5C,List.all_eq_true,List.mem_range] at h
 have h1:=h j hj
 rw [List.any_eq_true] at h1
 obtain ⟨k,_,h2⟩:=h1
 cases ho:ops[k]? with
 | none=>simp [ho] at h2
 | some o=>
  simp only [ho] at h2
  obtain ⟨e,he,hb⟩:=Array.any_eq_true'.1 h2
  simp only [Bool.and_eq_true,beq_iff_eq] at hb
  exact ⟨k,o,ho,e,he,hb.1,hb.2⟩
def Q6U (md:Region.Mode) (ops:Array Oper) (listed:Array Bool):Prop:=
 ∀ j o,ops[j]? = some o→listed.getD j false=true→∀ e∈o.after,Region.binds md e=true→listed.getD e.on false=true
theorem Q6U.step {listed:Array Bool} {i:Nat} (h:Q6U md ops listed) (hi:i∈Region.ready md ops listed):Q6U md ops (listed.setIfInBounds i true):=by
 intro j o ho hl e he hb
 refine getD_set_true ?_
 by_cases hij:i=j
 ·subst hij
  obtain ⟨_,o',ho',hall⟩:=mem_ready.1 hi
  rw [ho] at ho'
  cases ho'
  exact hall e he hb
 ·rw [getD_set_ne false hij] at hl
  exact h j o ho hl e he hb
theorem QaF {listed:Array Bool} {j:Nat} (hj:j < listed.size):listed.getD j false=listed.getD j true:=by
 simp [hj]
theorem Q9A (hbk:Q49 md ops=true) {listed:Array Bool} (hs:listed.size=ops.size):∀ j,j < ops.size→listed.getD j true=false→Region.ready md ops listed≠[]:=by
 intro j
 induction j using Nat.strongRecOn with
 | ind j ih=>
  intro hj hl hr
  by_cases hall:∀ o,ops[j]? = some o→∀ e∈o.after,Region.binds md e=true→listed.getD e.on false=true
  ·have:j∈Region.ready md ops listed:=mem_ready.2 ⟨hl,ops[j],by simp [hj],hall _ (by simp [hj])⟩
   rw [hr] at this
   cases this
  ·simp only [Classical.not_forall] at hall
   obtain ⟨o,ho,e,he,hb,hne⟩:=hall
   have hlt:=Q7F hbk ho he hb
   refine ih e.on hlt (by omega) ?_ hr
   rw [← QaF (by omega)]
   simpa using hne
theorem Qet (hbk:Q49 md ops=true) {L:Nat} (hL:ops.size=L + 1) (hcv:Q5C md ops L=true) {listed:Array Bool} (hs:listed.size=ops.size) (hc:Q6U md ops listed) (hr:L∈Region.ready md ops listed) :
  ∀ n j,L - j=n→j < L→listed.getD j false=true:=by
 intro n
 induction n using Nat.strongRecOn with
 | ind n ih=>
  intro j hn hj
  obtain ⟨k,o,ho,e,he,hb,hej⟩:=QbQ hcv hj
  have hjk:=Q7F hbk ho he hb
  have hk:=(Array.getElem?_eq_some_iff.1 ho).1
  rw [hej] at hjk
  by_cases hkL:k=L
  ·subst hkL
   obtain ⟨_,o',ho',hall⟩:=mem_ready.1 hr
   rw [ho] at ho'
   cases ho'
   rw [← hej]
   exact hall e he hb
  ·have:=ih (L - k) (by omega) k rfl (by omega)
   rw [← hej]
   exact hc k o ho this e he hb
theorem QaG (hbk:Q49 md ops=true) {L:Nat} (hL:ops.size=L + 1) (hcv:Q5C md ops L=true) {listed:Array Bool} (hs:listed.size=ops.size) (hc:Q6U md ops listed) (hr:L∈Region.ready md ops listed) :
  Region.ready md ops (listed.setIfInBounds L true)=[]:=by
 cases h:Region.ready md ops (listed.setIfInBounds L true) with
 | nil=>rfl
 | cons j rest=>
  exfalso
  have hj:j∈Region.ready md ops (listed.setIfInBounds L true):=by rw [h];exact List.mem_cons_self
  obtain ⟨h0,o,ho,_⟩:=mem_ready.1 hj
  have hlt:=(Array.getElem?_eq_some_iff.1 ho).1
  by_cases hjL:L=j
  ·subst hjL
   simp [hs,hlt] at h0
  ·rw [getD_set_ne true hjL] at h0
   have:=Qet hbk hL hcv hs hc hr (L - j) j rfl (by omega)
   rw [QaF (by omega)] at this
   rw [this] at h0
   cases h0
theorem Qeu (hbk:Q49 md ops=true) {L:Nat} (hL:ops.size=L + 1) (hcv:Q5C md ops L=true):∀ (fuel:Nat) (listed:Array Bool) (a:Act) (w:World),
  listed.size=ops.size→Q6U md ops listed→listed.getD L true=false→wpAnyH P md ops (ahead P ops Q L) S fuel (listed.setIfInBounds L true) a w→wpAny P md ops Q (fuel + 1) listed a w:=by
 intro fuel
 induction fuel with
 | zero=>
  intro listed a w hs hc hun H
  refine ⟨fun h=>absurd h (Q9A hbk hs L (by omega) hun),fun i hi=>?_⟩
  by_cases hiL:i=L
  ·subst hiL
   exact wpOp_mono (fun a' w' h=>⟨QaG hbk hL hcv hs hc hi,h⟩) H.2
  ·have:=ready_mono hi hiL
   rw [H.1] at this
   cases this
 | succ fuel ih=>
  intro listed a w hs hc hun H
  refine ⟨fun h=>absurd h (Q9A hbk hs L (by omega) hun),fun i hi=>?_⟩
  by_cases hiL:i=L
  ·subst hiL
   have hn:=QaG hbk hL hcv hs hc hi
   refine wpOp_mono (fun a' w' h=>⟨fun _=>h,?_⟩) (H.1 hn)
   rw [hn]
   intro j hj
   cases hj
  ·refine wpOp_mono (fun a' w' h=>?_) (Qes (H.2 i (ready_mono hi hiL)))
   refine ih (listed.setIfInBounds i true) a' w' (by simp [hs]) (hc.step hi) (by rw [getD_set_ne true hiL];exact hun) ?_
   rw [Array.setIfInBounds_comm _ _ hiL]
   exact h.2
theorem Qu (S:World→Prop) {id L:Nat} {a:Act} {w:World} (hm:P.follows .mixedOrders=true) (hL:ops.size=L + 1) (hbk:Q49 .any ops=true) (hcv:Q5C .any ops L=true) (hS:S w.drew)
  (h:S w.drew→wpAnyH P .any ops (ahead P ops Q L) S L ((Array.replicate (L + 1) false).setIfInBounds L true) a w.drew):(Code.region id ops true).wp P Q a w:=by
 refine wp_region_any hm ?_
 have h1:=h hS
 rw [hL]
 refine Qeu hbk hL hcv L _ a _ (by simp [hL]) ?_ (by simp) h1
 intro j o _ hl
 exfalso
 rcases Nat.lt_or_ge j (L + 1) with hj | hj
 ·simp [hj] at hl
 ·simp [hj] at hl
theorem QB {L:Nat} {o:Oper} {a:Act} {w:World} (ho:ops[L]? = some o)
  (h:∀ K':Act→World→Prop,Shut (∀ a w,Q .normal a w→K' a w)→if Region.wanted o (yielded ops a.tmps)=true then Oper.wp P o a w K' Q else K' (a.put o.dst undef) w) :
  ahead P ops Q L .normal a w:=wpOp_step ho (fun K' hK=>h K' (fun a w hq=>hK a w hq))
theorem tk {i:Nat} {oi:Oper} {v:Value} {fuel:Nat} {listed:Array Bool} {a:Act} {w:World} (hi:ops[i]? = some oi) (hc:(Region.noSelect ops && Region.free md ops listed i && (Region.ready md ops listed).contains i)=true)
  (hQ:∀ c a w,Q (.panic c) (a.put oi.dst v) w→Q (.panic c) a w) (hw:Region.wanted oi (yielded ops a.tmps)=true) (hS:S w) (hy:∀ u,S u→(execOp a.eval oi).run P u = .ok (.value v) u)
  (h:wpAnyH P md ops Q S fuel (listed.setIfInBounds i true) (a.put oi.dst v) w):wpAnyH P md ops Q S (fuel + 1) listed a w:=by
 simp only [Bool.and_eq_true] at hc
 exact wpAnyH_take hi hc.1.1 hc.1.2 hc.2 hQ (Or.inl ⟨hw,hy⟩) hS h
theorem Qd (l:List Value) (d:List Deferred) (k:Nat) (v:Value):Act.put ⟨l.toArray,d⟩ (some k) v=⟨(l.set k v).toArray,d⟩:=by simp [Act.put]
theorem Qe (a:Act) (v:Value):Act.put a none v=a:=rfl
end
end Go.Proofs.YtmbcibgknckenaaGreatDoor
namespace Go.Proofs.YtmbcibgknckenaaGreatDoor
open Go.RowKit
open Go.MapKept
theorem QhO:(Tryz.prog.info? 195).map (fun i=>(i.zero,i.size,i.bytes))=some (some (.agg #[.string ⟨#[]⟩,.int .i64 0,.nilIface]),3,40):=by kernel_rfl
def Q4f (text:ByteArray) (a:StAd):PX (List Qq×List (List UInt8)) Unit:=fun p σ=>match decl text (Qr a.q a.bx) p.2 σ with
 | .ok (d,t',σ')=>bndx (lift (QX text [59])) (fun _=>retx ()) (p.1++[d],t') σ'
 | .error f=>.error f
theorem Q5l {text:ByteArray} {a:StAd} {ds:List Qq} {t t':List (List UInt8)} {σ σ':St} {d:Qq} (h:decl text (Qr a.q a.bx) t σ = .ok (d,t',σ')) :
  Q4f text a (ds,t) σ = bndx (lift (QX text [59])) (fun _=>retx ()) (ds++[d],t') σ':=by simp only [Q4f,h]
theorem Q6D {text:ByteArray} {a:StAd} {ds:List Qq} {t:List (List UInt8)} {σ:St} {f:Mar.Fault} (h:decl text (Qr a.q a.bx) t σ = .error f):Q4f text a (ds,t) σ = .error f:=by simp only [Q4f,h]
def stJ (A:Ad) (text:ByteArray) (w:World) (a:StAd) (n:List UInt8×Nat) (k:Nat) (Y:List Nat) (p:List Qq×List (List UInt8)) (σ:St) (u:World):Prop:=p.1.length=k∧∃ sl,Q31 A text w a n p.1 Y p.2 sl σ u
theorem Q31.slice {A:Ad} {text:ByteArray} {w u:World} {a:StAd} {n:List UInt8×Nat} {ds:List Qq} {Y:List Nat} {t:List (List UInt8)} {sl:Value} {σ:St} (m:Q31 A text w a n ds Y t sl σ u):∃ ad cap,sl = .slice ad ds.length cap:=by
 rcases m.row.2 with ⟨rfl,h⟩ | ⟨g,cap,cur,rfl,_⟩
 ·exact ⟨none,0,by rw [h]⟩
 ·exact ⟨_,_,rfl⟩
theorem Q31.free {A:Ad} {text:ByteArray} {w u:World} {a:StAd} {n:List UInt8×Nat} {ds:List Qq} {Y:List Nat} {t:List (List UInt8)} {sl:Value} {σ σ0:St} (h0:Rd A text σ0 w) (m:Q31 A text w a n ds Y t sl σ u):Free (A.plus Y) a.q:=by
 obtain ⟨l1,l2,l3,l4⟩:=h0.lt
 have iq:=m.mine a.q (by simp [StAd.list])
 have hq:=m.new _ iq
 refine ⟨List.mem_append_left _ iq,?_,?_,?_,?_⟩<;>simp only [Ad.plus]<;>omega
theorem Qv {b:Nat} {k:Value} {T:TypeId} {w:World} (h:w.heap[b]? = some (.cells #[k] T)):w.cell? ⟨b,0,none⟩=some k:=by simp [World.cell?,h]
theorem QbR (d:Qq):∀ u∈Q1Z d,u.oneCell'=true:=by
 intro u hu
 simp only [List.mem_cons,List.not_mem_nil,or_false] at hu
 rcases hu with rfl | rfl | rfl
 ·rfl
 ·rfl
 ·cases d.ty<;>rfl
theorem Qaj {A:Ad} {text:ByteArray} {w u:World} {a:StAd} {n:List UInt8×Nat} {k:Nat} {Y:List Nat} {ds:List Qq} {t:List (List UInt8)} {σ σ0:St} (h0:Rd A text σ0 w) (hk:k < 1000) (h:stJ A text w a n k Y (ds,t) σ u) :
  Calls Tryz.prog 130 #[.pointer (some ⟨a.db,0,none⟩),.pointer (some ⟨a.rb,0,none⟩),.pointer (some ⟨a.cb,0,none⟩)] u (Q0Y A w (stJ A text w a n (k + 1)) (Q4f text a (ds,t) σ)):=by
 obtain ⟨hlen,sl,hm⟩:=h
 dsimp only at hlen hm
 have HL:=Hid.mk hlen
 have hds:ds.length < 1000:=by omega
 clear hlen
 obtain ⟨ad,cap,rfl⟩:=hm.slice
 obtain ⟨i0,hi0,hz0,hz1,hz2⟩:=info_parts QhO
 have M:=Hid.mk hm
 obtain ⟨k0,k1,k2,hfrK⟩:=Q0i hm.box
 have vr:=Qv hm.vr
 have vd:=Qv hm.vd
 have vc:=Qv hm.vc
 have hbd:Below u.heap.size u u.drew:=(Below.refl _ _).drew
 have HC:=Hid.mk (Q6T (Same.plus A Y) (Q5S (hm.free h0)) (hm.rd.below hbd) (show (Qr a.q a.bx).I t u.drew from hm.set.keeps (Qb.of_below [] hbd) (by simp)) (hm.cl.keeps (Qb.of_below [] hbd) (by simp)))
 have hnd:=hm.nd
 simp only [StAd.list,List.nodup_cons,List.mem_cons,List.not_mem_nil,or_false,not_or] at hnd
 have nr:a.rb≠a.D:=by omega
 have nd:a.db≠a.D:=by omega
 have nc:a.cb≠a.D:=by omega
 have hat5:∀ w5,Qb [A.S,a.q] u.drew w5→(∀ o,(w5.alloc o).ownsRow w.heap.size 195 3 (.slice ad ds.length cap) ds.length (ds.flatMap Q1Z)) ∧
   w5.heap[a.D]? = some (.cells #[.string ⟨n.1.toArray⟩,.int .i64 n.2,.slice ad ds.length cap] 282)∧w.heap.size≤w5.heap.size ∧
   w5.heap[a.rb]? = some (.cells #[.pointer (some ⟨A.R,0,none⟩)] 101)∧w5.heap[a.db]? = some (.cells #[.pointer (some ⟨a.D,0,none⟩)] 182)∧w5.heap[a.cb]? = some (.cells #[(Qr a.q a.bx).v] 270):=by
  intro w5 hk5
  have hk5':=((Qb.refl _ u).drew).trans hk5
  obtain ⟨l1,l2,l3,l4⟩:=h0.lt
  have far:∀ b∈a.list,b≠a.q→b ∉ [A.S,a.q]:=fun b hb hq=>by have:=hm.new _ (hm.mine b hb);simp;omega
  refine ⟨fun o=>Qk (Qk hm.row hk5' ?_) ((Qb.refl [] w5).alloc o) (by simp),(hk5'.block _ (Qc hm.box) (far _ (by simp [StAd.list]) (by omega))).trans hm.box,Nat.le_trans hm.kp.size hk5'.size,
   (hk5'.block _ (Qc hm.vr) (far _ (by simp [StAd.list]) (by omega))).trans hm.vr,(hk5'.block _ (Qc hm.vd) (far _ (by simp [StAd.list]) (by omega))).trans hm.vd,(hk5'.block _ (Qc hm.vc) (far _ (by simp [StAd.list]) (by omega))).trans hm.vc⟩
  intro g hg
  have h1:=hm.own g hg
  have h2:=hm.new _ h1.1
  have h3:g≠a.q:=fun e=>h1.2 (by rw [e];simp [StAd.list])
  simp;omega
 have H5:=Hid.mk hat5
 have hat6:∀ w5 o w6,Qb [A.S,a.q] u.drew w5→(w5.alloc o).grownBy w6 (Value.slice ad ds.length cap).ownBlock→w6.heap[a.D]? = some (.cells #[.string ⟨n.1.toArray⟩,.int .i64 n.2,.slice ad ds.length cap] 282) ∧
   w6.heap[a.rb]? = some (.cells #[.pointer (some ⟨A.R,0,none⟩)] 101)∧w6.heap[a.db]? = some (.cells #[.pointer (some ⟨a.D,0,none⟩)] 182)∧w6.heap[a.cb]? = some (.cells #[(Qr a.q a.bx).v] 270):=by
  intro w5 o w6 hk5 hg
  obtain ⟨_,h5,_,h6,h7,h8⟩:=hat5 w5 hk5
  have one:∀ b∈a.list,∀ ob,w5.heap[b]? = some ob→w6.heap[b]? = some ob:=fun b hb ob h=>by
   have hl:=Qc h
   exact (hg.block _ (by simp;omega) (fun e=>(hm.own _ e.symm).2 hb)).trans ((((Qb.refl [] w5).alloc o).block _ hl (by simp)).trans h)
  exact ⟨one _ (by simp [StAd.list]) _ h5,one _ (by simp [StAd.list]) _ h6,one _ (by simp [StAd.list]) _ h7,one _ (by simp [StAd.list]) _ h8⟩
 have H6:=Hid.mk hat6
 have hl1:ds.length + 1≤maxLen:=by unfold maxLen;omega
 have hl2:(ds.length + 1) * 40≤140737488355328:=by omega
 have hz3:(Value.agg #[.string ⟨#[]⟩,.int .i64 0,.nilIface]).cells.size=3:=by decide
 clear hm hat5 hat6
 dsimp only [Q0h.v,Qr] at vc
 go_enter Tryz.func130,Tryz.ntmps130
 go_wp2_with fail
 refine Qu (fun w'=>w'.cell? ⟨a.db,0,none⟩=some (.pointer (some ⟨a.D,0,none⟩))∧w'.cell? ⟨a.rb,0,none⟩=some (.pointer (some ⟨A.R,0,none⟩))∧w'.cell? ⟨a.cb,0,none⟩=some (.func (.func 164) #[] #[.pointer (some ⟨a.bx,0,none⟩)])∧w'.cell? ⟨a.D,2,none⟩=some (.slice ad ds.length cap)) (L:=12) (by kernel_rfl) rfl (by kernel_rfl) (by kernel_rfl) ?_ (fun hHeld=>?_)
 ·go_keep
 refine tk (i:=0) (v:=?_) rfl (by kernel_rfl) (fun _ _ _ h=>h) (by rfl) (by assumption) ?_ ?_
 rotate_left
 ·intro w hSw;(try dsimp only at hSw);go_simp;(try with_reducible rfl)
 (try simp only [Qd,Qe,List.set])
 refine tk (i:=1) (v:=?_) rfl (by kernel_rfl) (fun _ _ _ h=>h) (by rfl) (by assumption) ?_ ?_
 rotate_left
 ·intro w hSw;(try dsimp only at hSw);go_simp;(try with_reducible rfl)
 (try simp only [Qd,Qe,List.set])
 refine tk (i:=2) (v:=?_) rfl (by kernel_rfl) (fun _ _ _ h=>h) (by rfl) (by assumption) ?_ ?_
 rotate_left
 ·intro w hSw;(try dsimp only at hSw);go_simp;(try with_reducible rfl)
 (try simp only [Qd,Qe,List.set])
 refine tk (i:=3) (v:=?_) rfl (by kernel_rfl) (fun _ _ _ h=>h) (by rfl) (by assumption) ?_ ?_
 rotate_left
 ·intro w hSw;(try dsimp only at hSw);go_simp;(try with_reducible rfl)
 (try simp only [Qd,Qe,List.set])
 refine tk (i:=4) (v:=?_) rfl (by kernel_rfl) (fun _ _ _ h=>h) (by rfl) (by assumption) ?_ ?_
 rotate_left
 ·intro w hSw;(try dsimp only at hSw);go_simp;(try with_reducible rfl)
 (try simp only [Qd,Qe,List.set])
 refine tk (i:=5) (v:=?_) rfl (by kernel_rfl) (fun _ _ _ h=>h) (by rfl) (by assumption) ?_ ?_
 rotate_left
 ·intro w hSw;(try dsimp only at hSw);go_simp;(try with_reducible rfl)
 (try simp only [Qd,Qe,List.set])
 refine tk (i:=6) (v:=?_) rfl (by kernel_rfl) (fun _ _ _ h=>h) (by rfl) (by assumption) ?_ ?_
 rotate_left
 ·intro w hSw;(try dsimp only at hSw);go_simp;(try with_reducible rfl)
 (try simp only [Qd,Qe,List.set])
 refine wpAnyH_ready (rs:=[7]) (by kernel_rfl) (by simp) ?_
 refine AllReadyH.cons rfl (fun K hK=>?_) AllReadyH.nil
 (go_simp;go_at_call 125;refine HC.out.mono ?_;rintro e w5 ⟨hk5,⟨d,t5,σ5,hx5,rfl,hr5,hn5⟩ | ⟨f,hx5,b,hbb,rfl,hcell⟩⟩;rotate_left;exact Qa (Q0Y.throws ((M.out.kp.young (((Qb.refl _ u).drew).trans hk5) (by intro m hm;simp [Qr] at hm ⊢;rcases hm with h | h;exact Or.inl (Or.inr (Or.inl h));exact Or.inr (by have:=M.out.new _ (M.out.mine a.q (by simp [StAd.list]));omega)))) M.out.kp (Q6D hx5) hbb hcell);obtain ⟨hown5,hbox5,hwl,br5,bd5,bc5⟩:=H5.out w5 hk5;obtain ⟨y0,y1,y2,hfy⟩:=Q0i hbox5;have hlt5:=Qc hbox5;have hne5:=Nat.ne_of_lt hlt5;have r5:=Qv br5;have d5:=Qv bd5;have c5:=Qv bc5;dsimp only [Q0h.v,Qr] at c5;have lr5:=Qc br5;have ld5:=Qc bd5;have lc5:=Qc bc5;dsimp only [Q2Z])
 refine hK.out _ _ ?_ (fun hHeld=>?_)
 ·go_keep
 clear hK K
 (try simp only [Qd,Qe,List.set])
 refine wpAnyH_ready (rs:=[8]) (by kernel_rfl) (by simp) ?_
 refine AllReadyH.cons rfl (fun K hK=>?_) AllReadyH.nil
 go_simp
 refine hK.out _ _ ?_ (fun hHeld=>?_)
 ·go_keep
 clear hK K
 (try simp only [Qd,Qe,List.set])
 refine wpAnyH_ready (rs:=[9]) (by kernel_rfl) (by simp) ?_
 refine AllReadyH.cons rfl (fun K hK=>?_) AllReadyH.nil
 (refine step_append_lies _ (by rfl) _ _ _ (by rfl) w.heap.size 195 i0 _ 3 40 Tryz.underlying280 hi0 hz0 hz1 hz2 hz3 (by omega) (.slice ad ds.length cap) ds.length (ds.flatMap Q1Z) (by rfl) (hown5 _) ⟨w5.heap.size,0,none⟩ 1 1 (Q1Z d) (by rfl) (by rfl) (World.news_of_block (cs:=(Q1Z d).toArray) (t:=195) (fr:=(0,0)) (heap_alloc_new w5 _)) (QbR d) (by omega) hl1 hl2 (by simp;omega) (w5.heap.size + 1) (by simp) ?_;intro g cap' w6 hown6 hgrow hat hlt;obtain ⟨hbox6,br6,bd6,bc6⟩:=H6.out w5 _ w6 hk5 hgrow;obtain ⟨z0,z1,z2,hfz⟩:=Q0i hbox6;have r6:=Qv br6;have d6:=Qv bd6;have c6:=Qv bc6;dsimp only [Q0h.v,Qr] at c6)
 refine hK.out _ _ ?_ (fun hHeld=>?_)
 ·go_keep
 clear hK K
 (try simp only [Qd,Qe,List.set])
 refine tk (i:=10) (v:=?_) rfl (by kernel_rfl) (fun _ _ _ h=>h) (by rfl) (by assumption) ?_ ?_
 rotate_left
 ·intro w hSw;(try dsimp only at hSw);go_simp;(try with_reducible rfl)
 (try simp only [Qd,Qe,List.set])
 refine tk (i:=11) (v:=?_) rfl (by kernel_rfl) (fun _ _ _ h=>h) (by rfl) (by assumption) ?_ ?_
 rotate_left
 ·intro w hSw;(try dsimp only at hSw);go_simp;(try with_reducible rfl)
 (try simp only [Qd,Qe,List.set])
 refine wpAnyH_done (by kernel_rfl) ?_ _
 refine QB rfl (fun K hK=>?_)
 go_simp
 refine hK.out _ _ ?_
 clear hK K
 (try simp only [Qd,Qe,List.set])
 have M6:=Hid.mk (Q31.step h0 M.out (((Qb.refl _ u).drew).trans hk5) hr5 hn5 ((Below.refl w5.heap.size w5).alloc (Nat.le_refl _) _) hown6 hgrow (by simpa using hat) hlt)
 have v6:=Qv M6.out.vr
 clear hk5 hr5 hn5 hown6 hgrow hat hlt hbox6 br6 bd6 bc6 z0 z1 z2 hfz r6 d6 c6 hbox5 br5 bd5 bc5 y0 y1 y2 hfy hown5 r5 d5 c5
 go_wp2_with fail
 refine (Q02 (Same.plus A (g :: Y)) _ M6.out.rd).mono ?_
 rintro e w7 ⟨hk7,⟨x7,σ7,hx7,rfl,hr7⟩ | ⟨f,hx7,b7,hbb,rfl,hcell⟩⟩
 rotate_left
 ·exact Qa (Q0Y.throws (M6.out.kp.trans (hk7.mono (by simp))) M6.out.kp ((Q5l hx5).trans (Qm (Qx hx7))) hbb hcell)
 have M7:=Hid.mk (M6.out.scan h0 hk7 hr7)
 clear hk7 hr7
 go_wp2
 go_end0
 exact Or.inl ⟨g :: Y,(ds++[d],t5),σ7,(Q5l hx5).trans (Qi (Ql hx7)),rfl,by simp [HL.out],_,M7.out⟩
theorem Qg3:∀ ds:List Qq,(ds.flatMap Q1Z).length=ds.length * 3:=by
 intro ds
 induction ds with
 | nil=>rfl
 | cons d ds ih=>simp only [List.flatMap_cons,List.length_append,List.length_cons,ih];simp;omega
theorem Q31.fin {A:Ad} {text:ByteArray} {w u:World} {a:StAd} {n:List UInt8×Nat} {ds:List Qq} {Y:List Nat} {t:List (List UInt8)} {sl:Value} {σ σ0:St} (h0:Rd A text σ0 w) (m:Q31 A text w a n ds Y t sl σ u) (hle:ds.length≤12)
  {r:Except Mar.Fault (DefL×St)} (hr:r = .ok (.struct n.1 n.2 ds,σ)):QC [A.R,A.S,A.N] A text w r (.returned (.pointer (some ⟨a.D,0,none⟩))) u:=by
 have far:∀ b,w.heap.size≤b→b ∉ A.X:=fun b hb hm=>by have:=h0.old _ hm;omega
 have hD:u.heap[a.D]? = some (.cells #[.string ⟨n.1.toArray⟩,.int .i64 n.2,sl] 282)∧a.D ∉ A.X:=⟨m.box,far _ (m.new _ (m.mine _ (by simp [StAd.list])))⟩
 refine ⟨m.kp,Or.inl ⟨.struct n.1 n.2 ds,σ,a.D,?_⟩⟩
 rcases m.row.2 with ⟨rfl,h⟩ | ⟨g,cap,cur,rfl,hg1,hg2,hg3,hg4,hg5,hg6⟩
 ·have:ds=[]:=List.length_eq_zero_iff.1 h
  subst this
  refine ⟨[(a.D,.cells #[.string ⟨n.1.toArray⟩,.int .i64 n.2,.slice none 0 0] 282)],hr,rfl,Rd.dropAll h0.mine m.rd,⟨.slice none 0 0,List.mem_cons_self,Or.inl ⟨rfl,rfl,rfl⟩⟩,?_⟩
  intro p hp
  simp only [List.mem_singleton] at hp
  subst hp
  exact hD
 ·refine ⟨[(a.D,.cells #[.string ⟨n.1.toArray⟩,.int .i64 n.2,.slice (some ⟨g,0,none⟩) ds.length cap] 282),(g,.cells cur 195)],hr,rfl,Rd.dropAll h0.mine m.rd,⟨_,List.mem_cons_self,Or.inr ⟨g,cap,cur,rfl,⟨hg3,by omega⟩,by simp,?_⟩⟩,?_⟩
  ·rw [Qg3]
   exact hg6
  ·intro p hp
   rcases List.mem_cons.1 hp with rfl | hp
   ·exact hD
   ·simp only [List.mem_singleton] at hp
    subst hp
    exact ⟨hg2,far _ hg1⟩
theorem Q8D (args:Array Value) (u:World):(callFunc 130 args).run Tryz.prog u = .ok (.enter 130 args) u:=by
 kernel_rfl
def Qkq {A:Ad} {text:ByteArray} {σ0:St} {w:World} (h0:Rd A text σ0 w) (a:StAd) (n:List UInt8×Nat):One (List Qq×List (List UInt8)) A text w 12 where
 f:=130
 cap:=#[.pointer (some ⟨a.db,0,none⟩),.pointer (some ⟨a.rb,0,none⟩),.pointer (some ⟨a.cb,0,none⟩)]
 run:=Q4f text a
 J:=stJ A text w a n
 enters:=Q8D
 rd:=by rintro _ _ _ _ _ ⟨_,_,m⟩;exact m.rd
 kp:=by rintro _ _ _ _ _ ⟨_,_,m⟩;exact m.kp
 scan:=by rintro _ _ _ _ _ _ _ ⟨h,sl,m⟩ hk hr;exact ⟨h,sl,m.scan h0 hk hr⟩
 call:=by
  intro k Y t σ u hk h
  exact Qaj h0 (by omega) h
def runx {τ:Type} (m:PX τ Unit) (t:τ):PM τ:=fun σ=>match m t σ with
 | .ok (_,t',σ')=>.ok (t',σ')
 | .error f=>.error f
theorem Q4g {τ:Type} {m:PX τ Unit} {t t':τ} {σ σ':St} (h:m t σ = .ok ((),t',σ')):runx m t σ = .ok (t',σ'):=by simp only [runx,h]
theorem Q5T {τ:Type} {m:PX τ Unit} {t:τ} {σ:St} {f:Mar.Fault} (h:m t σ = .error f):runx m t σ = .error f:=by simp only [runx,h]
def Q2t (text:ByteArray) (at':Nat):PM DefL:=bnd (Q2o at') fun _=>bnd (Q1y text) fun n=>bnd (runx (block text 12 (Q4f text ⟨0,0,0,0,0,0⟩)) ([],[])) fun p=>bnd (QX text [59]) fun _=>ret (.struct n.1 n.2 p.1)
theorem Qev {A' A:Ad} (hA:Same A' A) {text:ByteArray} {σ:St} (at':Nat) {w:World} (h:Rd A' text σ w) :
  Calls Tryz.prog 124 #[.pointer (some ⟨A.R,0,none⟩),.int .i64 at'] w (Qt [A.R] A' text w (Q2o at' σ) Q6k):=by
 have:=Q4Z at' h
 rw [hA.1] at this
 exact this
theorem Q9B {A' A:Ad} (hA:Same A' A) {text:ByteArray} {σ:St} {w:World} (h:Rd A' text σ w) :
  Calls Tryz.prog 119 #[.pointer (some ⟨A.R,0,none⟩),.func (.func 120) #[.pointer (some ⟨A.R,0,none⟩)] #[]] w (Qt [A.S,A.N] A' text w (Q1y text σ) Q1q):=by
 have:=Q3h h
 rw [hA.1,hA.2.1,hA.2.2.1] at this
 exact this
theorem Rd.take {A:Ad} {text:ByteArray} {σ:St} {w w':World} {q:Nat} (h:Rd A text σ w) (hb:Below w.heap.size w w') (hq:w.heap.size≤q) (hl:q < w'.heap.size):Rd (A.add q) text σ w':=by
 have h1:=h.below hb
 obtain ⟨m1,m2,m3,m4⟩:=h1.mine
 refine ⟨h1.me,h1.sc,(h.nm.add hq).below hb,⟨List.mem_cons_of_mem _ m1,List.mem_cons_of_mem _ m2,List.mem_cons_of_mem _ m3,List.mem_cons_of_mem _ m4⟩,?_,h1.pr,h1.np,h1.gl,h1.small,h1.few⟩
 intro x hx
 rcases List.mem_cons.1 hx with rfl | hx
 ·exact hl
 ·exact h1.old x hx
theorem Qb7 {A:Ad} {text:ByteArray} {σ:St} (at':Nat) {w:World} (h:Rd A text σ w) :
  Calls Tryz.prog 89 #[.pointer (some ⟨A.R,0,none⟩),.int .i64 at'] w (QC [A.R,A.S,A.N] A text w (Q2t text at' σ)):=by
 have hmf:∀ (fn:Fn) (first cap:Array Value) (w:World),(Instr.makeFunc fn first cap).run Tryz.prog w = .ok (.func fn first cap) w:=fun _ _ _ _=>rfl
 have hr0:=h.own (.cells #[.pointer (some ⟨A.R,0,none⟩)] 101)
 have hv0:=Qg (w:=w) (o:=.cells #[.pointer (some ⟨A.R,0,none⟩)] 101) rfl
 obtain ⟨l1,l2,l3,l4⟩:=h.lt
 have c0:=Qv hv0
 go_enter Tryz.func89,Tryz.ntmps89
 go_wp2_with fail
 refine (Qev (Same.add A _) at' hr0).mono ?_
 rintro e w1 ⟨hk1,⟨u,σ1,hx1,rfl,hr1⟩ | ⟨f,hx1,b,hbb,rfl,hcell⟩⟩
 rotate_left
 ·exact Qa (QC.throws (((Qb.refl _ w).alloc _).trans (hk1.mono (by simp))) ((Qb.refl [] w).alloc _) (Qp hx1) hbb hcell)
 have hK1:Qb [A.R,A.S,A.N] w w1:=((Qb.refl _ w).alloc _).trans (hk1.mono (by simp))
 have hv1:=(hk1.block _ (Qc hv0) (by simp;omega)).trans hv0
 have c1:=Qv hv1
 clear hk1 hr0 hv0 c0
 go_wp2_with fail
 refine (Q9B (Same.add A _) hr1).mono ?_
 rintro e w2 ⟨hk2,⟨n,σ2,hx2,rfl,hr2⟩ | ⟨f,hx2,b,hbb,rfl,hcell⟩⟩
 rotate_left
 ·exact Qa (QC.throws (hK1.trans (hk2.mono (by simp))) hK1 ((Qh hx1).trans (Qp hx2)) hbb hcell)
 have hK2:=hK1.trans (hk2.mono (M':=[A.R,A.S,A.N]) (by simp))
 have hv2:=(hk2.block _ (Qc hv1) (by simp;omega)).trans hv1
 have hlt2:=Qc hv2
 clear hk2 hK1 hr1 hv1 c1
 dsimp only [Q1q]
 go_wp2_with fail
 obtain ⟨W3,hW3⟩:∃ W3,W3=(w2.alloc (.cells #[.string ⟨n.1.toArray⟩,.int .i64 n.2,.slice none 0 0] 282)).alloc (.cells #[.pointer (some ⟨w2.heap.size,0,none⟩)] 182):=⟨_,rfl⟩
 rw [← hW3]
 have hs1:(w2.alloc (.cells #[.string ⟨n.1.toArray⟩,.int .i64 n.2,.slice none 0 0] 282)).heap.size=w2.heap.size + 1:=by simp
 have hr3:=(hr2.own (.cells #[.string ⟨n.1.toArray⟩,.int .i64 n.2,.slice none 0 0] 282)).own (.cells #[.pointer (some ⟨w2.heap.size,0,none⟩)] 182)
 rw [hs1,← hW3] at hr3
 have hs3:W3.heap.size=w2.heap.size + 2:=by rw [hW3];simp
 have hk3:Qb [] w2 W3:=by rw [hW3];exact ((Qb.refl [] w2).alloc _).alloc _
 have hD3:W3.heap[w2.heap.size]? = some (.cells #[.string ⟨n.1.toArray⟩,.int .i64 n.2,.slice none 0 0] 282):=by
  rw [hW3]
  exact (((Qb.refl [] _).alloc _).block _ (by rw [hs1];omega) (by simp)).trans (Qg rfl)
 have hd3:W3.heap[w2.heap.size + 1]? = some (.cells #[.pointer (some ⟨w2.heap.size,0,none⟩)] 182):=by
  rw [hW3]
  exact Qg hs1.symm
 have hv3:=(hk3.block _ hlt2 (by simp)).trans hv2
 have hK3:=hK2.trans (hk3.mono (M':=[A.R,A.S,A.N]) (by simp))
 refine (Q6n _).mono ?_
 rintro e w4 ⟨q,bx,rfl,hq,hbx,hqb,hI,hb4,hx4⟩
 have hlq:q < w4.heap.size:=by
  obtain ⟨_,_,_,hm⟩:=id hI
  exact Qc hm
 have hlx:=Qc hx4
 have hr4:=hr3.take hb4 hq hlq
 have hk4:Qb [] W3 w4:=Qb.of_below [] hb4
 have hz:=hk4.size
 have hv4:=(hk4.block _ (Qc hv3) (by simp)).trans hv3
 have hD4:=(hk4.block _ (Qc hD3) (by simp)).trans hD3
 have hd4:=(hk4.block _ (Qc hd3) (by simp)).trans hd3
 have hK4:=hK3.trans (hk4.mono (M':=[A.R,A.S,A.N]) (by simp))
 have ca:=(Qb.refl [] w4).alloc (.cells #[(Qr q bx).v] 270)
 have hw2:=hK2.size
 have hM:Q31 A text w ⟨w2.heap.size,w.heap.size,w2.heap.size + 1,w4.heap.size,q,bx⟩ n [] [w4.heap.size,q,w2.heap.size + 1,w2.heap.size,w.heap.size] [] (.slice none 0 0) σ2 (w4.alloc (.cells #[(Qr q bx).v] 270)):=by
  have hv5:=(ca.block _ (Qc hv4) (by simp)).trans hv4
  have hD5:=(ca.block _ (Qc hD4) (by simp)).trans hD4
  have hd5:=(ca.block _ (Qc hd4) (by simp)).trans hd4
  refine ⟨hK4.alloc _,hr4.own _,?_,?_,?_,?_,?_,?_,hD5,hv5,hd5,Qg rfl,⟨rfl,Or.inl ⟨rfl,rfl⟩⟩⟩
  ·intro b hb
   simp [StAd.list] at hb ⊢
   omega
  ·simp [StAd.list]
   omega
  ·intro y hy
   simp at hy
   omega
  ·intro g hg
   cases hg
  ·have hI':Q0l q [] w4:=hI
   exact hI'.keeps ca (by simp)
  ·intro p hp
   simp only [Qr,List.mem_singleton] at hp
   subst hp
   refine ⟨(ca.block _ hlx (by simp)).trans hx4,?_⟩
   simp [Ad.plus]
   refine ⟨by omega,by omega,by omega,by omega,by omega,?_⟩
   intro hm
   have:=h.old _ hm
   omega
 have c5:=Qv hM.vr
 have d5:=Qv hM.vd
 have HM:=Hid.mk hM
 clear hM hr4 hv4 hD4 hd4 hK4 ca hr3 hW3 hk3 hD3 hd3 hv3 hK3 hI hx4 hk4 hb4 hr2 hv2
 dsimp only [Q0h.v,Qr] at c5 d5 ⊢
 go_wp2_with fail
 have HJ:stJ A text w ⟨w2.heap.size,w.heap.size,w2.heap.size + 1,w4.heap.size,q,bx⟩ n 0 [w4.heap.size,q,w2.heap.size + 1,w2.heap.size,w.heap.size] ([],[]) σ2 (w4.alloc (.cells #[(Qr q bx).v] 270)):=⟨rfl,_,HM.out⟩
 refine (Q7S 12 (Qkq h ⟨w2.heap.size,w.heap.size,w2.heap.size + 1,w4.heap.size,q,bx⟩ n) (by omega) HJ).mono ?_
 rintro e w6 (⟨Y6,⟨ds,t6⟩,σ6,hx6,rfl,k6,hk6,hlen,sl,hM6⟩ | ⟨f,hx6,hk6,b,hbb,rfl,hcell⟩)
 rotate_left
 ·exact Qa ⟨hk6,Or.inr ⟨f,(Qh hx1).trans ((Qh hx2).trans (Qp (Q5T hx6))),b,hbb,rfl,hcell⟩⟩
 have c6:=Qv hM6.vr
 have M6:=Hid.mk hM6
 clear hM6 c5 d5 HM
 dsimp only at c6
 go_wp2_with fail
 refine (Q02 (Same.plus A Y6) _ M6.out.rd).mono ?_
 rintro e w7 ⟨hk7,⟨x7,σ7,hx7,rfl,hr7⟩ | ⟨f,hx7,b,hbb,rfl,hcell⟩⟩
 rotate_left
 ·exact Qa (QC.throws (M6.out.kp.trans (hk7.mono (by simp))) M6.out.kp ((Qh hx1).trans ((Qh hx2).trans ((Qh (Q4g hx6)).trans (Qp hx7)))) hbb hcell)
 have hM7:=M6.out.scan h hk7 hr7
 have d7:=Qv hM7.vd
 have M7:=Hid.mk hM7
 clear hM7 hk7 hr7
 dsimp only at d7
 go_wp2
 go_ret
 exact M7.out.fin h (by have:ds.length=k6:=hlen;omega) ((Qh hx1).trans ((Qh hx2).trans ((Qh (Q4g hx6)).trans (Qh hx7))))
def Q14 (x:Mar.Word):PM (List (List UInt8×Nat×Int)):=fun σ=>
 match look σ.names x.text with
 | some (some (.enum _ _ ms))=>.ok (ms,σ)
 | _=>.error ⟨7,x.at'⟩
theorem Q8I (w:World):(Instr.typeAssert .nilIface 113 180 true).run Tryz.prog w = .ok (.tuple #[.pointer none,.bool false]) w:=by kernel_rfl
theorem Qd6 (p:Value) (w:World):(Instr.typeAssert (.iface 180 p) 113 180 true).run Tryz.prog w = .ok (.tuple #[p,.bool true]) w:=by kernel_rfl
theorem Qew (d:DefL) (p:Value) (w:World) (hd:∀ t a v,d≠.enum t a v):(Instr.typeAssert (.iface (defT d) p) 113 180 true).run Tryz.prog w = .ok (.tuple #[.pointer none,.bool false]) w:=by
 cases d with
 | enum t a v=>exact absurd rfl (hd t a v)
 | typedef d=>kernel_rfl
 | const t a ms=>kernel_rfl
 | struct t a ms=>kernel_rfl
 | union t a s ar=>kernel_rfl
 | prog t a vs n=>kernel_rfl
def Qka (A:Ad) (text:ByteArray) (w:World) (σ:St) (r:Except Mar.Fault (List (List UInt8×Nat×Int)×St)) (e:Ending) (w':World):Prop:=
 Below w.heap.size w w'∧((∃ t a ms b bs,r = .ok (ms,σ)∧e = .returned (.pointer (some ⟨b,0,none⟩))∧Rd A text σ w'∧Q0o bs b (.enum t a ms)∧Held A.X bs w')∨(∃ f,r = .error f∧Q0c w f.no f.at' e w'))
theorem QhP {A:Ad} {text:ByteArray} {σ:St} (x:Mar.Word) {w:World} (h:Rd A text σ w) :
  Calls Tryz.prog 166 #[.pointer (some ⟨A.R,0,none⟩),QZ x] w (Qka A text w σ (Q14 x σ)):=by
 have hb0:=((Below.refl w.heap.size w).alloc (Nat.le_refl _) (.cells #[.int .i64 x.kind,.string ⟨x.text.toArray⟩,.int .i64 x.n,.int .i64 x.at'] 110)).drew
 obtain ⟨c0,c1,c2,c3,c4,hfr⟩:=h.cells
 have hlt:=h.lt.1
 have hb:=h.below hb0
 have key:(∃ v,(Instr.lookup 104 (.map (some A.N)) (.string ⟨x.text.toArray⟩) false).run Tryz.prog ((w.alloc (.cells #[.int .i64 x.kind,.string ⟨x.text.toArray⟩,.int .i64 x.n,.int .i64 x.at'] 110)).drew) = .ok v ((w.alloc (.cells #[.int .i64 x.kind,.string ⟨x.text.toArray⟩,.int .i64 x.n,.int .i64 x.at'] 110)).drew) ∧
    (∀ W,(Instr.typeAssert v 113 180 true).run Tryz.prog W = .ok (.tuple #[.pointer none,.bool false]) W)∧Q14 x σ = .error ⟨7,x.at'⟩) ∨
   (∃ (b:Nat) (t:List UInt8) (a:Nat) (ms:List (List UInt8×Nat×Int)) (bs:List (Nat×Obj)),(Instr.lookup 104 (.map (some A.N)) (.string ⟨x.text.toArray⟩) false).run Tryz.prog ((w.alloc (.cells #[.int .i64 x.kind,.string ⟨x.text.toArray⟩,.int .i64 x.n,.int .i64 x.at'] 110)).drew) = .ok (.iface 180 (.pointer (some ⟨b,0,none⟩))) ((w.alloc (.cells #[.int .i64 x.kind,.string ⟨x.text.toArray⟩,.int .i64 x.n,.int .i64 x.at'] 110)).drew) ∧
    Held A.X bs ((w.alloc (.cells #[.int .i64 x.kind,.string ⟨x.text.toArray⟩,.int .i64 x.n,.int .i64 x.at'] 110)).drew)∧Q0o bs b (.enum t a ms)∧Q14 x σ = .ok (ms,σ)):=by
  rcases Q5j hb.nm x.text false with ⟨hl,hrun⟩ | ⟨o,v,bs,hl,hh,hent,hrun⟩
  ·simp only [Bool.false_eq_true,if_false] at hrun
   exact Or.inl ⟨_,hrun,Q8I,by simp only [Q14,hl]⟩
  ·simp only [Bool.false_eq_true,if_false] at hrun
   cases o with
   | none=>
    have hv:v = .nilIface:=hent
    subst hv
    exact Or.inl ⟨_,hrun,Q8I,by simp only [Q14,hl]⟩
   | some d=>
    obtain ⟨b,rfl,hd⟩:=hent
    by_cases hc:∃ t a n,d = .enum t a n
    ·obtain ⟨t,a,n,rfl⟩:=hc
     exact Or.inr ⟨b,t,a,n,bs,hrun,hh,hd,by simp only [Q14,hl]⟩
    ·refine Or.inl ⟨_,hrun,fun W=>Qew d _ W (fun t a n e=>hc ⟨t,a,n,e⟩),?_⟩
     cases d with
     | enum t a n=>exact absurd ⟨t,a,n,rfl⟩ hc
     | typedef d=>simp only [Q14,hl]
     | const t a ms=>simp only [Q14,hl]
     | struct t a ms=>simp only [Q14,hl]
     | union t a sl ar=>simp only [Q14,hl]
     | prog t a vs n=>simp only [Q14,hl]
 rcases key with ⟨v,hrun,hta,e1⟩ | ⟨b,t,a,ms,bs,hrun,hheld,hdef,e1⟩
 ·have HE:=Hid.mk e1
  have HB:=Hid.mk hb0
  clear e1 hb hb0
  dsimp only [QZ]
  go_enter Tryz.func166,Tryz.ntmps166
  go_wp2
  go_region
  go_wp2_with (go_at_call 47;refine (QY _ _ _).mono ?_;rintro e w' ⟨rfl,rfl⟩)
  refine Qa ⟨?_,Or.inr ⟨⟨7,x.at'⟩,HE.out,w.heap.size + 1,by omega,rfl,Qg (w:=w.alloc _) (by simp)⟩⟩
  exact (((Below.refl w.heap.size w).alloc (Nat.le_refl _) _).alloc (by simp) _).drew
 ·have HE:=Hid.mk e1
  have hta:=fun p=>Qd6 p
  have HB:=Hid.mk hb
  have HB0:=Hid.mk hb0
  have HH:=Hid.mk hheld
  have HD:=Hid.mk hdef
  clear e1 hb hb0 hheld hdef
  dsimp only [QZ]
  go_enter Tryz.func166,Tryz.ntmps166
  go_wp2
  go_region
  go_wp2
  go_ret
  exact ⟨HB0.out,Or.inl ⟨t,a,ms,b,bs,HE.out,rfl,HB.out,HD.out,HH.out⟩⟩
def Q58 (ms:List (List UInt8×Nat×Int)) (n:Int):Bool:=ms.any fun m=>m.2.2 == n
theorem Qg4 {ms:List (List UInt8×Nat×Int)} {n:Int} {i:Nat} (h:i < ms.length) (he:ms[i].2.2=n):Q58 ms n=true:=by
 unfold Q58
 rw [List.any_eq_true]
 exact ⟨ms[i],List.getElem_mem h,by simp [he]⟩
theorem Qex {ms:List (List UInt8×Nat×Int)} {n:Int} (h:∀ i (hi:i < ms.length),ms[i].2.2≠n):Q58 ms n=false:=by
 unfold Q58
 rw [List.any_eq_false]
 intro m hm
 obtain ⟨i,hi,rfl⟩:=List.getElem_of_mem hm
 simp
 exact h i hi
theorem QbS {w:World} {g:Nat} {cur:Array Value} {T:TypeId} {xs:List Value} (hg:w.heap[g]? = some (.cells cur T)) (ht:cur.toList.take xs.length=xs) {i:Nat} (hi:i < xs.length):w.cell? ⟨g,i,none⟩=some xs[i]:=by
 have h1:cur.toList[i]? = some xs[i]:=by
  have h2:(cur.toList.take xs.length)[i]? = some xs[i]:=by rw [ht];simp [hi]
  rw [List.getElem?_take_of_lt hi] at h2
  exact h2
 have h2:cur[i]? = some xs[i]:=by simpa using h1
 simp [World.cell?,hg,h2]
theorem Qjd {X:List Nat} {bs:List (Nat×Obj)} {b a:Nat} {t:List UInt8} {ms:List (List UInt8×Nat×Int)} (n:Int) {w:World} (hd:Q0o bs b (.enum t a ms)) (hh:Held X bs w) :
  Calls Tryz.prog 167 #[.pointer (some ⟨b,0,none⟩),.int .i64 n] w fun e w'=>e = .returned (.bool (Q58 ms n))∧w'=w:=by
 obtain ⟨sl,ps,hb,hlen,hsl,hc⟩:=hd
 obtain ⟨k0,k1,k2,_⟩:=Q0i (hh _ hb).1
 rcases hsl with ⟨rfl,h0,_⟩ | ⟨g,cap,cur,rfl,⟨hcap,hms⟩,hg,htake⟩
 ·have hnil:ms=[]:=List.length_eq_zero_iff.1 h0
  subst hnil
  go_enter Tryz.func167,Tryz.ntmps167
  go_wp2
  go_loopw [12] (fun i ur=>i = .int .i64 0∧ur=w) (fun _ _=>0)
  case atStart=>exact ⟨rfl,rfl⟩
  case round=>
   obtain ⟨rfl,rfl⟩:=hrel
   go_wp2
   go_ret
   exact ⟨rfl,rfl⟩
 ·have hgb:=(hh _ hg).1
  have hrow:∀ i (hi:i < ms.length),∃ q:Nat,w.cell? ⟨g,i,none⟩=some (.pointer (some ⟨q,0,none⟩))∧w.cell? ⟨q,2,none⟩=some (.int .i64 ms[i].2.2):=by
   intro i hi
   have hi':i < ps.length:=by omega
   have h1:=QbS hgb htake (i:=i) (by simpa using hi')
   rw [List.getElem_map] at h1
   have h2:=(hh _ (hc i hi hi')).1
   obtain ⟨_,_,z2,_⟩:=Q0i h2
   exact ⟨ps[i],h1,z2⟩
  have HR:=Hid.mk hrow
  clear hrow
  go_enter Tryz.func167,Tryz.ntmps167
  go_wp2
  go_loopw [12,6] (fun i m ur=>∃ k:Nat,i = .int .i64 k∧ur=w∧k≤ms.length∧∀ j (hj:j < ms.length),j < k→ms[j].2.2≠n) (fun i _ _=>ms.length - (intOf i).toNat)
  case atStart=>exact ⟨0,rfl,rfl,by omega,by intro j hj h;omega⟩
  case round=>
   obtain ⟨k,rfl,rfl,hk,hno⟩:=hrel
   rcases Nat.lt_or_ge k ms.length with hlt | hge
   ·obtain ⟨q,hq1,hq2⟩:=HR.out k hlt
    have hi0:(0:Int)≤↑k:=by omega
    have hi1:(↑k:Int) < ↑ms.length:=by omega
    have HN:=Hid.mk hno
    clear hno
    by_cases he:ms[k].2.2=n
    ·have he':(ms[k].2.2 == n)=true:=by simp [he]
     have HT:=Hid.mk (Qg4 hlt he)
     go_wp2
     go_ret
     exact ⟨by rw [HT.out];rfl,rfl⟩
    ·have he':(ms[k].2.2 == n)=false:=by simpa using he
     go_wp2
     refine ⟨⟨k + 1,by go_num,trivial,by omega,?_⟩,by simp [intOf];omega⟩
     intro j hj hjk
     rcases Nat.lt_or_ge j k with h | h
     ·exact HN.out j hj h
     ·have:j=k:=by omega
      subst this
      exact he
   ·have hkk:k=ms.length:=by omega
    subst hkk
    have HF:=Hid.mk (Qex fun i hi=>hno i hi hi)
    clear hno
    go_wp2
    go_ret
    exact ⟨by rw [HF.out];rfl,rfl⟩
def selK (text:ByteArray) (x:Mar.Word):PM (Ty×(Int→Bool)):=
 if ((x.kind:Int) == 1) then bnd (Q14 x) fun ms=>ret (.named x.text x.at',Q58 ms)
 else if x.text == [105,110,116] then ret (.plain 0,Q1V (-2147483648) 2147483647)
 else if x.text == [117,110,115,105,103,110,101,100] then bnd (Q13 text [105,110,116]) fun _=>ret (.plain 1,Q1V 0 4294967295)
 else if x.text == [98,111,111,108] then ret (.plain 4,Q1V 0 1)
 else thr 3 x.at'
def Q4a (text:ByteArray):PM (Ty×(Int→Bool)):=bnd (next text) (selK text)
theorem sk1 {text:ByteArray} {x:Mar.Word} (h1:((x.kind:Int) == 1)=true):selK text x=bnd (Q14 x) fun ms=>ret (.named x.text x.at',Q58 ms):=by unfold selK;rw [if_pos h1]
theorem sk2 {text:ByteArray} {x:Mar.Word} (h1:((x.kind:Int) == 1)=false) (h2:(x.text == [105,110,116])=true):selK text x=ret (.plain 0,Q1V (-2147483648) 2147483647):=by unfold selK;simp only [h1,h2,Bool.false_eq_true,if_false,if_true]
theorem sk3 {text:ByteArray} {x:Mar.Word} (h1:((x.kind:Int) == 1)=false) (h2:(x.text == [105,110,116])=false) (h3:(x.text == [117,110,115,105,103,110,101,100])=true) :
  selK text x=bnd (Q13 text [105,110,116]) fun _=>ret (.plain 1,Q1V 0 4294967295):=by unfold selK;simp only [h1,h2,h3,Bool.false_eq_true,if_false,if_true]
theorem sk4 {text:ByteArray} {x:Mar.Word} (h1:((x.kind:Int) == 1)=false) (h2:(x.text == [105,110,116])=false) (h3:(x.text == [117,110,115,105,103,110,101,100])=false) (h4:(x.text == [98,111,111,108])=true) :
  selK text x=ret (.plain 4,Q1V 0 1):=by unfold selK;simp only [h1,h2,h3,h4,Bool.false_eq_true,if_false,if_true]
theorem sk5 {text:ByteArray} {x:Mar.Word} (h1:((x.kind:Int) == 1)=false) (h2:(x.text == [105,110,116])=false) (h3:(x.text == [117,110,115,105,103,110,101,100])=false) (h4:(x.text == [98,111,111,108])=false) :
  selK text x=thr 3 x.at':=by unfold selK;simp only [h1,h2,h3,h4,Bool.false_eq_true,if_false]
def Q2u (A:Ad) (text:ByteArray) (w:World) (r:Except Mar.Fault ((Ty×(Int→Bool))×St)) (e:Ending) (w':World):Prop:=
 Qb [A.S] w w'∧((∃ q σ' v,r = .ok (q,σ')∧e = .returned (.tuple #[tyV q.1,v])∧Rd A text σ' w'∧Fits A.X v q.2 w')∨(∃ f,r = .error f∧Q0c w f.no f.at' e w'))
theorem Q2u.ok {A:Ad} {text:ByteArray} {w w':World} {r:Except Mar.Fault ((Ty×(Int→Bool))×St)} {ty:Ty} {p:Int→Bool} {σ':St} {v:Value}
  (hk:Qb [A.S] w w') (hr:r = .ok ((ty,p),σ')) (h:Rd A text σ' w') (hf:Fits A.X v p w'):Q2u A text w r (.returned (.tuple #[tyV ty,v])) w':=⟨hk,Or.inl ⟨(ty,p),σ',v,hr,rfl,h,hf⟩⟩
theorem Q2u.throws {A:Ad} {M':List Nat} {text:ByteArray} {w w1 w':World} {r:Except Mar.Fault ((Ty×(Int→Bool))×St)} {f:Mar.Fault} {b:Nat}
  (hk:Qb [A.S] w w') (hk1:Qb M' w w1) (hr:r = .error f) (hb:w1.heap.size≤b) (hc:w'.heap[b]? = some (.cells #[.int .i64 f.no,.int .i64 f.at'] 83)) :
  Q2u A text w r (.panicked [{ v:=.iface 79 (.pointer (some ⟨b,0,none⟩)),recovered:=false }]) w':=⟨hk,Or.inr ⟨f,hr,b,Nat.le_trans hk1.size hb,rfl,hc⟩⟩
theorem Qey (args:Array Value) (u:World):(callFunc 167 args).run Tryz.prog u = .ok (.enter 167 args) u:=by kernel_rfl
theorem Qg5 {X:List Nat} {bs:List (Nat×Obj)} {b a:Nat} {t:List UInt8} {ms:List (List UInt8×Nat×Int)} {w:World} (hd:Q0o bs b (.enum t a ms)) (hh:Held X bs w) :
  Fits X (.func (.func 167) #[.pointer (some ⟨b,0,none⟩)] #[]) (Q58 ms) w:=by
 refine ⟨bs,_,_,_,rfl,hh,Qey,fun W hW n=>?_⟩
 refine (Qjd n hd hW).mono ?_
 rintro e w' ⟨rfl,rfl⟩
 exact ⟨rfl,Below.refl _ _⟩
theorem Q2K {b:Nat} {k t a c:Value} {T:TypeId} {w:World} (h:w.heap[b]? = some (.cells #[k,t,a,c] T)) :
  w.cell? ⟨b,0,none⟩=some k∧w.cell? ⟨b,1,none⟩=some t∧w.cell? ⟨b,2,none⟩=some a∧w.cell? ⟨b,3,none⟩=some c:=by
 refine ⟨?_,?_,?_,?_⟩<;>simp [World.cell?,h]
theorem QbT {A:Ad} {text:ByteArray} {σ:St} {w:World} (h:Rd A text σ w) :
  Calls Tryz.prog 131 #[.pointer (some ⟨A.R,0,none⟩)] w (Q2u A text w (Q4a text σ)):=by
 have hmf:∀ (fn:Fn) (first cap:Array Value) (w:World),(Instr.makeFunc fn first cap).run Tryz.prog w = .ok (.func fn first cap) w:=fun _ _ _ _=>rfl
 obtain ⟨c0,c1,c2,c3,c4,hfr⟩:=h.cells
 have HC:=Hid.mk (Q2W h)
 go_enter Tryz.func131,Tryz.ntmps131
 go_wp2_with fail
 refine HC.out.mono ?_
 rintro e w1 ⟨hk,⟨x,σ',hx,rfl,hr⟩ | ⟨f,hx,b,hbb,rfl,hcell⟩⟩
 rotate_left
 ·exact Qa (Q2u.throws hk (Qb.refl [] _) (Qp hx) hbb hcell)
 have HK:=Hid.mk hk
 have Hx:=Hid.mk hx
 have HR:=Hid.mk (hr.below ((Below.refl _ _).alloc (Nat.le_refl _) (.cells #[.int .i64 x.kind,.string ⟨x.text.toArray⟩,.int .i64 x.n,.int .i64 x.at'] 110)))
 have hv:=Qg (w:=w1) (o:=.cells #[.int .i64 x.kind,.string ⟨x.text.toArray⟩,.int .i64 x.n,.int .i64 x.at'] 110) rfl
 have HV:=Hid.mk hv
 have HO:=Hid.mk hr.old
 clear hk hx hr hv HC
 dsimp only [QZ]
 go_wp2_with (first
  | (go_at_call 47;refine (QY _ _ _).mono ?_;rintro e w' ⟨rfl,rfl⟩)
  | (go_at_call 123;refine (Q2Y _ _ _).mono ?_;rintro e w3 ⟨v3,rfl,hb3,hf3⟩)
  | (go_at_call 126;refine (Q4r _ HR.out).mono ?_;rintro e w2 ⟨hk2,⟨y2,σ2,hx2,rfl,hr2⟩ | ⟨f,hx2,b,hbb,rfl,hcell⟩⟩))
 ·have h1:((x.kind:Int) == 1)=true:=‹_›
  obtain ⟨z0,z1,z2,z3⟩:=Q2K HV.out
  have hlv:=Qc HV.out
  go_region_held2 (fun w'=>w'.cell? ⟨w1.heap.size,0,none⟩=some (.int .i64 x.kind)∧w'.cell? ⟨w1.heap.size,1,none⟩=some (.string ⟨x.text.toArray⟩)∧w'.cell? ⟨w1.heap.size,2,none⟩=some (.int .i64 x.n)∧w'.cell? ⟨w1.heap.size,3,none⟩=some (.int .i64 x.at')) (go_keep)
   (first
    | (go_at_call 156;refine (Q7c x _).mono ?_;rintro e w2 ⟨rfl,hb2⟩;have hv2:=(hb2.block _ hlv).trans HV.out;obtain ⟨y0,y1,y2,y3⟩:=Q2K hv2;have hl2:=Qc hv2;have HR2:=Hid.mk ((HR.out.below (Below.refl _ _).drew).below hb2);have HK2:=Hid.mk ((HK.out.alloc _).drew.trans (Qb.of_below _ hb2));clear hb2)
    | (go_at_call 166;refine (QhP x HR2.out).mono ?_;rintro e w3 ⟨hb3,⟨t3,a3,ms,b3,bs,hx3,rfl,hr3,hd3,hh3⟩ | ⟨f,hx3,b,hbb,rfl,hcell⟩⟩;rotate_left;exact Qa (Q2u.throws (HK2.out.trans (Qb.of_below _ hb3)) HK2.out ((Qh Hx.out).trans (by rw [sk1 h1];exact Qp hx3)) hbb hcell);have hv3:=(hb3.block _ hl2).trans hv2;obtain ⟨q0,q1,q2,q3⟩:=Q2K hv3;have HK3:=Hid.mk (HK2.out.trans (Qb.of_below _ hb3));have HR3:=Hid.mk hr3;clear hb3 hr3))
  all_goals
   go_wp2
   go_ret2
   exact Q2u.ok (ty:=.named x.text x.at') HK3.out ((Qh Hx.out).trans (by rw [sk1 h1];exact Qh hx3)) HR3.out (Qg5 hd3 hh3)
 ·go_ret2
  exact Q2u.ok (ty:=.plain 0) ((HK.out.alloc _).trans (Qb.of_below _ hb3)) ((Qh Hx.out).trans (by rw [sk2 ‹_› ‹_›];rfl)) (HR.out.below hb3) (hf3 _ HR.out.old)
 ·go_ret2
  exact Q2u.ok (ty:=.plain 1) (((HK.out.alloc _).trans hk2).trans (Qb.of_below _ hb3)) ((Qh Hx.out).trans (by rw [sk3 ‹_› ‹_› ‹_›];exact Qh hx2)) (hr2.below hb3) (hf3 _ hr2.old)
 ·exact Qa (Q2u.throws ((HK.out.alloc _).trans hk2) (HK.out.alloc _) ((Qh Hx.out).trans (by rw [sk3 ‹_› ‹_› ‹_›];exact Qp hx2)) hbb hcell)
 ·go_ret2
  exact Q2u.ok (ty:=.plain 4) ((HK.out.alloc _).trans (Qb.of_below _ hb3)) ((Qh Hx.out).trans (by rw [sk4 ‹_› ‹_› ‹_› ‹_›];rfl)) (HR.out.below hb3) (hf3 _ HR.out.old)
 ·exact Qa (Q2u.throws (M':=[A.S]) (w1:=w1) (f:=⟨3,x.at'⟩) ((HK.out.alloc _).alloc _) HK.out ((Qh Hx.out).trans (by rw [sk5 ‹_› ‹_› ‹_› ‹_›];rfl)) (by omega) (Qg (by simp)))
end Go.Proofs.YtmbcibgknckenaaGreatDoor
