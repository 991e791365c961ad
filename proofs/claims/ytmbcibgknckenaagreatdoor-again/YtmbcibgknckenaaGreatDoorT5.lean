import Derived.Test.YtmbcibgknckenaaGreatDoorT4
import Derived.ChangeKeysEq
set_option linter.all false
set_option maxRecDepth 100000
set_option maxHeartbeats 4000000
namespace Go.Proofs.YtmbcibgknckenaaGreatDoor
open Go.RowKit
open Go.MapKept
structure QMid (A:Ad) (text:ByteArray) (w:World) (q bx nq:Nat) (B:List (Nat×Obj)) (Y:List Nat) (t:List (List UInt8)) (l:List (Int×Int)) (σ:St) (u:World):Prop where
 kp:Qa [A.R,A.S,A.N,q,nq] w u
 rd:Rd (A.plus Y) text σ u
 new:∀ y∈Y,w.heap.size≤y
 set:Q0m q t u
 cl:Held (A.plus Y).X (Qr q bx).bs u
 nums:QV nq l u
 box:∀ p∈B,u.heap[p.1]? = some p.2∧p.1∈Y
section
variable {A : Ad} {text : ByteArray} {w u u' : World} {q bx nq : Nat} {B B' : List (Nat × Obj)} {Y : List Nat} {t t' : List (List UInt8)} {l l' : List (Int × Int)} {σ σ' σ0 : St}
theorem Free.plus {b:Nat} (h:Free A b) (Y:List Nat):Free (A.plus Y) b:=⟨List.mem_append_right _ h.1,h.2.1,h.2.2.1,h.2.2.2.1,h.2.2.2.2⟩
theorem QMid.turn {M:List Nat} (h0:Rd A text σ0 w) (hq:Free A q) (hn:Free A nq) (m:QMid A text w q bx nq B Y t l σ u) (hk:Qa M u u') (hM:∀ x∈M,x∈[A.R,A.S,A.N,q,nq]) (hr:Rd (A.plus Y) text σ' u') (hs:Q0m q t' u') (hl:QV nq l' u') :
  QMid A text w q bx nq B Y t' l' σ' u':=by
 obtain ⟨l1,l2,l3,l4⟩:=h0.lt
 have lq:=h0.old _ hq.1
 have ln:=h0.old _ hn.1
 have hX:∀ x∈M,x∈(A.plus Y).X:=by
  intro x hx
  have hx:=hM x hx
  simp at hx
  rcases hx with rfl | rfl | rfl | rfl | rfl
  ·exact hr.mine.1
  ·exact hr.mine.2.1
  ·exact hr.mine.2.2.1
  ·exact List.mem_append_right _ hq.1
  ·exact List.mem_append_right _ hn.1
 refine ⟨m.kp.trans (hk.mono hM),hr,m.new,hs,m.cl.keeps hk hX,hl,?_⟩
 intro p hp
 obtain ⟨h1,h2⟩:=m.box p hp
 refine ⟨(hk.block _ (Qc h1) ?_).trans h1,h2⟩
 intro hx
 have hx:=hM _ hx
 have:=m.new _ h2
 simp at hx
 omega
theorem QMid.scan (h0:Rd A text σ0 w) (hq:Free A q) (hn:Free A nq) (m:QMid A text w q bx nq B Y t l σ u) (hk:Qa [A.S] u u') (hr:Rd (A.plus Y) text σ' u'):QMid A text w q bx nq B Y t l σ' u':=
 m.turn h0 hq hn hk (by simp) hr (m.set.keeps hk (by simp;exact hq.2.2.1)) (m.nums.keeps hk (by simp;exact hn.2.2.1))
theorem QMid.claimed (h0:Rd A text σ0 w) (hq:Free A q) (hn:Free A nq) (hne:q≠nq) (m:QMid A text w q bx nq B Y t l σ u) (hk:Qa [A.S,q] u u') (hr:Rd (A.plus Y) text σ' u') (hs:Q0m q t' u'):QMid A text w q bx nq B Y t' l σ' u':=
 m.turn h0 hq hn hk (by simp) hr hs (m.nums.keeps hk (by simp;exact ⟨hn.2.2.1,fun e=>hne e.symm⟩))
theorem QMid.ended (h0:Rd A text σ0 w) (hq:Free A q) (hn:Free A nq) (hne:q≠nq) (m:QMid A text w q bx nq B Y t l σ u) (hk:Qa [A.S,nq] u u') (hr:Rd (A.plus Y) text σ' u') (hl:QV nq l' u'):QMid A text w q bx nq B Y t l' σ' u':=
 m.turn h0 hq hn hk (by simp) hr (m.set.keeps hk (by simp;exact ⟨hq.2.2.1,hne⟩)) hl
theorem QMid.alloc (m:QMid A text w q bx nq B Y t l σ u) (o:Obj):QMid A text w q bx nq ((u.heap.size,o) :: B) (u.heap.size :: Y) t l σ (u.alloc o):=by
 have hka:Qa [] u (u.alloc o):=(Qa.refl [] u).alloc _
 refine ⟨m.kp.alloc _,m.rd.own _,?_,m.set.keeps hka (by simp),(m.cl.add (Nat.le_refl _)).keeps hka (by simp),m.nums.keeps hka (by simp),?_⟩
 ·intro y hy
  rcases List.mem_cons.1 hy with rfl | hy
  ·exact m.kp.size
  ·exact m.new y hy
 ·intro p hp
  rcases List.mem_cons.1 hp with rfl | hp
  ·exact ⟨Qi rfl,List.mem_cons_self⟩
  ·obtain ⟨h1,h2⟩:=m.box p hp
   exact ⟨(hka.block _ (Qc h1) (by simp)).trans h1,List.mem_cons_of_mem _ h2⟩
theorem QMid.put {M:List Nat} (h0:Rd A text σ0 w) (hq:Free A q) (hn:Free A nq) (m:QMid A text w q bx nq B Y t l σ u) (hk:Qa M u u') (hM:∀ x∈M,x∈Y) (hB:∀ p∈B',u'.heap[p.1]? = some p.2∧p.1∈Y):QMid A text w q bx nq B' Y t l σ u':=by
 have lq:=h0.old _ hq.1
 have ln:=h0.old _ hn.1
 have hX:∀ x∈M,x∈(A.plus Y).X:=fun x hx=>List.mem_append_left _ (hM x hx)
 refine ⟨m.kp.young hk (fun x hx=>Or.inr (m.new _ (hM x hx))),h0.young (Same.plus A Y) m.rd hk (fun x hx=>⟨m.new _ (hM x hx),hX x hx⟩),m.new,m.set.keeps hk ?_,m.cl.keeps hk hX,m.nums.keeps hk ?_,hB⟩
 ·intro hx
  have:=m.new _ (hM _ hx)
  omega
 ·intro hx
  have:=m.new _ (hM _ hx)
  omega
end
def Q3T (text:ByteArray):PX UnSt Q15:=bndx (lift (side text)) fun res=>bndx (onL (name text (Qr 0 0))) fun n=>bndx (lift (QS text [40])) fun _=>bndx (lift (side text)) fun arg=>bndx (lift (QS text [41])) fun _=>
 bndx (onR (Q3b text)) fun k=>retx ⟨n.1,n.2,res,arg,k⟩
abbrev Q3U (q:Q15):List Value:=Q3D q.t q.at'++[tyV q.res,tyV q.arg,.int .i64 q.num]
def Q3P {α:Type} (A:Ad) (text:ByteArray) (w:World) (q nq:Nat) (r:Except Mar.Fault (α×UnSt×St)) (V:α→Value) (e:Ending) (w':World):Prop:=
 Qa [A.R,A.S,A.N,q,nq] w w'∧((∃ a t l σ',r = .ok (a,(t,l),σ')∧e = .returned (V a)∧Rd A text σ' w'∧Q0m q t w'∧QV nq l w')∨(∃ f,r = .error f∧Q0A w f.no f.at' e w'))
theorem Q3P.throws {α:Type} {A:Ad} {M':List Nat} {text:ByteArray} {w w1 w':World} {q nq:Nat} {r:Except Mar.Fault (α×UnSt×St)} {V:α→Value} {f:Mar.Fault} {b:Nat}
  (hk:Qa [A.R,A.S,A.N,q,nq] w w') (hk1:Qa M' w w1) (hr:r = .error f) (hb:w1.heap.size≤b) (hc:w'.heap[b]? = some (.cells #[.int .i64 f.no,.int .i64 f.at'] 83)) :
  Q3P A text w q nq r V (.panicked [{ v:=.iface 79 (.pointer (some ⟨b,0,none⟩)),recovered:=false }]) w':=⟨hk,Or.inr ⟨f,hr,b,Nat.le_trans hk1.size hb,rfl,hc⟩⟩
theorem QdK {A' A:Ad} (hA:Same A' A) {text:ByteArray} {σ:St} {w:World} (h:Rd A' text σ w) :
  Calls Tryz.prog 179 #[.pointer (some ⟨A.R,0,none⟩)] w (Qt [A.S] A' text w (side text σ) tyV):=by
 have:=QgH h
 rw [hA.1,hA.2.1] at this
 exact this
theorem Qa5 {A' A:Ad} (hA:Same A' A) {text:ByteArray} {σ:St} {q:Nat} {l:List (Int×Int)} {w:World} (h:Rd A' text σ w) (hq:Free A' q) (hn:QV q l w) :
  Calls Tryz.prog 138 #[.pointer (some ⟨A.R,0,none⟩),.map (some q)] w (QP [A.S,q] A' text w (Q3b text l σ) intV (QV q)):=by
 have:=Qe9 h hq hn
 rw [hA.1,hA.2.1] at this
 exact this
theorem QG (ty:Ty):∃ T v,tyV ty = .iface T v:=by cases ty<;>exact ⟨_,_,rfl⟩
theorem Q8W {b:Nat} {k t a c d:Value} {T:TypeId} {w:World} (h:w.heap[b]? = some (.cells #[k,t,a,c,d] T)) :
  w.cell? ⟨b,0,none⟩=some k∧w.cell? ⟨b,1,none⟩=some t∧w.cell? ⟨b,2,none⟩=some a∧w.cell? ⟨b,3,none⟩=some c∧w.cell? ⟨b,4,none⟩=some d∧∀ i,w.frozen? ⟨b,i,none⟩=false:=by
 refine ⟨?_,?_,?_,?_,?_,?_⟩<;>simp [World.cell?,World.frozen?,h]
theorem Qaz {A:Ad} {text:ByteArray} {σ:St} {q bx nq:Nat} {t:List (List UInt8)} {l:List (Int×Int)} {w:World} (h:Rd A text σ w) (hq:Free A q) (hn:Free A nq) (hne:q≠nq) (hs:Q0m q t w) (hcl:Held A.X (Qr q bx).bs w) (hl:QV nq l w) :
  Calls Tryz.prog 169 #[.pointer (some ⟨A.R,0,none⟩),(Qr q bx).v,.map (some nq)] w (Q3P A text w q nq (Q3T text (t,l) σ) fun p=>.agg (Q3U p).toArray):=by
 have Q0:QMid A text w q bx nq [] [] t l σ w:=⟨Qa.refl _ _,h,by simp,hs,hcl,hl,by simp⟩
 have Q1:=Hid.mk (Q0.alloc (.cells #[.string ⟨#[]⟩,.int .i64 0,.nilIface,.nilIface,.int .i64 0] 342))
 clear Q0
 go_enter Tryz.func169,Tryz.ntmps169
 go_wp2_with fail
 refine (QdK (Same.plus A _) Q1.out.rd).mono ?_
 rintro e w2 ⟨hk2,⟨res,σ2,hx2,rfl,hr2⟩ | ⟨f,hx2,b,hbb,rfl,hcell⟩⟩
 rotate_left
 ·exact Qb (Q3P.throws (Q1.out.kp.trans (hk2.mono (by simp))) Q1.out.kp (Ql (Qv hx2)) hbb hcell)
 have Q2:=Hid.mk (Q1.out.scan h hq hn hk2 hr2)
 clear hk2 hr2 Q1
 obtain ⟨T1,v1,hT1⟩:=QG res
 rw [hT1]
 go_wp2_with fail
 refine (Q8s (bx:=bx) (Same.plus A _) (hq.plus _) Q2.out.rd Q2.out.set Q2.out.cl).mono ?_
 rintro e w3 ⟨hk3,⟨n,t3,σ3,hx3,rfl,hr3,hs3⟩ | ⟨f,hx3,b,hbb,rfl,hcell⟩⟩
 rotate_left
 ·exact Qb (Q3P.throws (Q2.out.kp.trans (hk3.mono (by simp))) Q2.out.kp ((Qh (Qj hx2)).trans (Ql (Q5r hx3))) hbb hcell)
 have hw3:w.heap.size < w3.heap.size:=Qc ((Q2.out.claimed h hq hn hne hk3 hr3 hs3).box (w.heap.size,.cells #[.string ⟨#[]⟩,.int .i64 0,.nilIface,.nilIface,.int .i64 0] 342) List.mem_cons_self).1
 have Q4:=Hid.mk ((Q2.out.claimed h hq hn hne hk3 hr3 hs3).alloc (.cells #[.string ⟨n.1.toArray⟩,.int .i64 n.2,.iface T1 v1,.nilIface,.int .i64 0] 342))
 have E4:Hid (Q3T text (t,l) σ = bndx (lift (QS text [40])) (fun _=>bndx (lift (side text)) fun arg=>bndx (lift (QS text [41])) fun _=>bndx (onR (Q3b text)) fun k=>retx ⟨n.1,n.2,res,arg,k⟩) (t3,l) σ3):=(Qh (Qj hx2)).trans (Qh (Q6s hx3))
 clear hk3 hr3 hs3 Q2
 dsimp only [Q1x]
 go_wp2_with fail
 refine (Q08 (Same.plus A _) _ Q4.out.rd).mono ?_
 rintro e w5 ⟨hk5,⟨x5,σ5,hx5,rfl,hr5⟩ | ⟨f,hx5,b,hbb,rfl,hcell⟩⟩
 rotate_left
 ·exact Qb (Q3P.throws (Q4.out.kp.trans (hk5.mono (by simp))) Q4.out.kp (E4.out.trans (Ql (Qv hx5))) hbb hcell)
 have Q5:=Hid.mk (Q4.out.scan h hq hn hk5 hr5)
 clear hk5 hr5 Q4
 go_wp2_with fail
 refine (QdK (Same.plus A _) Q5.out.rd).mono ?_
 rintro e w6 ⟨hk6,⟨arg,σ6,hx6,rfl,hr6⟩ | ⟨f,hx6,b,hbb,rfl,hcell⟩⟩
 rotate_left
 ·exact Qb (Q3P.throws (Q5.out.kp.trans (hk6.mono (by simp))) Q5.out.kp (E4.out.trans ((Qh (Qj hx5)).trans (Ql (Qv hx6)))) hbb hcell)
 have Q6:=Q5.out.scan h hq hn hk6 hr6
 clear hk6 hr6 Q5
 obtain ⟨T2,v2,hT2⟩:=QG arg
 rw [hT2]
 obtain ⟨p0,p1,p2,p3,p4,hfp⟩:=Q8W (Q6.box (w3.heap.size,_) List.mem_cons_self).1
 have Q7:=Hid.mk (Q6.put (B':=[(w3.heap.size,.cells #[.string ⟨n.1.toArray⟩,.int .i64 n.2,.iface T1 v1,.iface T2 v2,.int .i64 0] 342),(w.heap.size,.cells #[.string ⟨#[]⟩,.int .i64 0,.nilIface,.nilIface,.int .i64 0] 342)]) h hq hn ((Qa.refl [w3.heap.size] w6).setIn (p:=⟨w3.heap.size,3,none⟩) (by simp) (.iface T2 v2)) (by simp) (by
  intro p hp
  simp only [List.mem_cons,List.not_mem_nil,or_false] at hp
  rcases hp with rfl | rfl
  ·exact ⟨QB (i:=3) (Q6.box (w3.heap.size,_) List.mem_cons_self).1 _,by simp⟩
  ·have hb:=(Q6.box (w.heap.size,.cells #[.string ⟨#[]⟩,.int .i64 0,.nilIface,.nilIface,.int .i64 0] 342) (List.mem_cons_of_mem _ List.mem_cons_self)).1
   exact ⟨(((Qa.refl [w3.heap.size] w6).setIn (p:=⟨w3.heap.size,3,none⟩) (by simp) (.iface T2 v2)).block _ (Qc hb) (by simp;omega)).trans hb,by simp⟩))
 clear Q6
 go_wp2_with fail
 refine (Q08 (Same.plus A _) _ Q7.out.rd).mono ?_
 rintro e w8 ⟨hk8,⟨x8,σ8,hx8,rfl,hr8⟩ | ⟨f,hx8,b,hbb,rfl,hcell⟩⟩
 rotate_left
 ·exact Qb (Q3P.throws (Q7.out.kp.trans (hk8.mono (by simp))) Q7.out.kp (E4.out.trans ((Qh (Qj hx5)).trans ((Qh (Qj hx6)).trans (Ql (Qv hx8))))) hbb hcell)
 have Q8:=Hid.mk (Q7.out.scan h hq hn hk8 hr8)
 clear hk8 hr8 Q7 p0 p1 p2 p3 p4 hfp
 go_wp2_with fail
 refine (Qa5 (Same.plus A _) Q8.out.rd (hn.plus _) Q8.out.nums).mono ?_
 rintro e w9 ⟨hk9,⟨k,l9,σ9,hx9,rfl,hr9,hl9⟩ | ⟨f,hx9,b,hbb,rfl,hcell⟩⟩
 rotate_left
 ·exact Qb (Q3P.throws (Q8.out.kp.trans (hk9.mono (by simp))) Q8.out.kp (E4.out.trans ((Qh (Qj hx5)).trans ((Qh (Qj hx6)).trans ((Qh (Qj hx8)).trans (Ql (Q7V hx9)))))) hbb hcell)
 have Q9:=Q8.out.ended h hq hn hne hk9 hr9 hl9
 have E9:Hid (Q3T text (t,l) σ = .ok (⟨n.1,n.2,res,arg,k⟩,(t3,l9),σ9)):=E4.out.trans ((Qh (Qj hx5)).trans ((Qh (Qj hx6)).trans ((Qh (Qj hx8)).trans ((Qh (Q8U hx9)).trans rfl))))
 clear hk9 hr9 hl9 Q8 E4
 have hb3:=(Q9.box (w3.heap.size,_) List.mem_cons_self).1
 have hb0:=(Q9.box (w.heap.size,.cells #[.string ⟨#[]⟩,.int .i64 0,.nilIface,.nilIface,.int .i64 0] 342) (List.mem_cons_of_mem _ List.mem_cons_self)).1
 obtain ⟨p0,p1,p2,p3,p4,hfp⟩:=Q8W hb3
 obtain ⟨r0,r1,r2,r3,r4,hfr⟩:=Q8W hb0
 have hn3:¬ w3.heap.size=w.heap.size:=by omega
 have hn3':¬ w.heap.size=w3.heap.size:=by omega
 have HQ:=Hid.mk Q9
 clear Q9 hb3 hb0
 dsimp only [intV]
 go_wp2
 have kfin:=(((((Qa.refl [w3.heap.size,w.heap.size] w9).setIn (p:=⟨w3.heap.size,4,none⟩) (by simp) (.int .i64 k)).setIn (p:=⟨w.heap.size,0,none⟩) (by simp) (.string ⟨n.1.toArray⟩)).setIn (p:=⟨w.heap.size,1,none⟩) (by simp) (.int .i64 n.2)).setIn (p:=⟨w.heap.size,2,none⟩) (by simp) (.iface T1 v1)).setIn (p:=⟨w.heap.size,3,none⟩) (by simp) (.iface T2 v2) |>.setIn (p:=⟨w.heap.size,4,none⟩) (by simp) (.int .i64 k)
 have Qf:=HQ.out.put (B':=[]) h hq hn kfin (by simp) (by simp)
 refine bodyPost_ret (v:=.agg #[.string ⟨n.1.toArray⟩,.int .i64 n.2,.iface T1 v1,.iface T2 v2,.int .i64 k]) (by simp [results,Tryz.results169,go_sem,r0,r1,r2,r3,r4,p0,p1,p2,p3,p4]) rfl ⟨Qf.kp,Or.inl ⟨⟨n.1,n.2,res,arg,k⟩,t3,l9,σ9,E9.out,?_,Rd.dropAll h.mine Qf.rd,Qf.set,Qf.nums⟩⟩
 rw [← hT1,← hT2]
structure BMid (A:Ad) (text:ByteArray) (w:World) (TD TE:TypeId) (sz D q nq:Nat) (E:List (Nat×Obj)) (n:List UInt8×Nat) (cnt:Nat) (cells:List Value) (bs:List (Nat×Obj)) (Y:List Nat) (t:List (List UInt8)) (l:List (Int×Int)) (sl:Value) (σ:St) (u:World):Prop where
 kp:Qa [A.R,A.S,A.N] w u
 rd:Rd (A.plus Y) text σ u
 mine:∀ b∈D :: q :: nq :: E.map (·.1),b∈Y
 nd:(D :: q :: nq :: E.map (·.1)).Nodup
 new:∀ y∈Y,w.heap.size≤y
 own:∀ g,sl.ownBlock=some g→g∈Y∧g ∉ D :: q :: nq :: E.map (·.1)
 set:Q0m q t u
 nums:QV nq l u
 box:u.heap[D]? = some (.cells #[.string ⟨n.1.toArray⟩,.int .i64 n.2,sl,.int .i64 0] TD)
 fix:∀ p∈E,u.heap[p.1]? = some p.2
 row:u.ownsRow w.heap.size TE sz sl cnt cells
 held:Held (A.plus Y).X bs u
section
variable {A : Ad} {text : ByteArray} {w u u' : World} {TD TE : TypeId} {sz D q nq : Nat} {E : List (Nat × Obj)} {n : List UInt8 × Nat} {cnt : Nat} {cells : List Value} {bs : List (Nat × Obj)} {Y : List Nat} {t t' : List (List UInt8)} {l l' : List (Int × Int)} {sl : Value} {σ σ' σ0 : St}
theorem BMid.slice (m:BMid A text w TD TE sz D q nq E n cnt cells bs Y t l sl σ u):∃ ad cap,sl = .slice ad cnt cap:=by
 rcases m.row.2 with ⟨rfl,h⟩ | ⟨g,cap,cur,rfl,_⟩
 ·exact ⟨none,0,by rw [h]⟩
 ·exact ⟨_,_,rfl⟩
theorem BMid.free (h0:Rd A text σ0 w) (m:BMid A text w TD TE sz D q nq E n cnt cells bs Y t l sl σ u) {b:Nat} (hb:b∈Y):Free (A.plus Y) b:=by
 obtain ⟨l1,l2,l3,l4⟩:=h0.lt
 have hq:=m.new _ hb
 refine ⟨List.mem_append_left _ hb,?_,?_,?_,?_⟩<;>simp only [Ad.plus]<;>omega
theorem BMid.apart (m:BMid A text w TD TE sz D q nq E n cnt cells bs Y t l sl σ u):D≠q∧D≠nq∧q≠nq∧(∀ p∈E,p.1≠D∧p.1≠q∧p.1≠nq):=by
 have:=m.nd
 simp only [List.nodup_cons,List.mem_cons,not_or] at this
 obtain ⟨⟨h1,h2,h3⟩,⟨h4,h5⟩,h6,_⟩:=this
 refine ⟨h1,h2,h4,fun p hp=>?_⟩
 have hm:p.1∈E.map (·.1):=List.mem_map.2 ⟨p,hp,rfl⟩
 exact ⟨fun e=>h3 (e ▸ hm),fun e=>h5 (e ▸ hm),fun e=>h6 (e ▸ hm)⟩
theorem BMid.turn {M:List Nat} (h0:Rd A text σ0 w) (m:BMid A text w TD TE sz D q nq E n cnt cells bs Y t l sl σ u) (hk:Qa M u u') (hM:∀ x∈M,x∈[A.R,A.S,A.N,q,nq]) (hr:Rd (A.plus Y) text σ' u') (hs:Q0m q t' u') (hn:QV nq l' u') :
  BMid A text w TD TE sz D q nq E n cnt cells bs Y t' l' sl σ' u':=by
 obtain ⟨l1,l2,l3,l4⟩:=h0.lt
 obtain ⟨d1,d2,d3,d4⟩:=m.apart
 have wD:=m.new _ (m.mine D (by simp))
 have wq:=m.new _ (m.mine q (by simp))
 have wn:=m.new _ (m.mine nq (by simp))
 have hX:∀ x∈M,x∈(A.plus Y).X:=by
  intro x hx
  have hx:=hM x hx
  simp at hx
  rcases hx with rfl | rfl | rfl | rfl | rfl
  ·exact hr.mine.1
  ·exact hr.mine.2.1
  ·exact hr.mine.2.2.1
  ·exact List.mem_append_left _ (m.mine _ (by simp))
  ·exact List.mem_append_left _ (m.mine _ (by simp))
 refine ⟨m.kp.young hk ?_,hr,m.mine,m.nd,m.new,m.own,hs,hn,(hk.block _ (Qc m.box) ?_).trans m.box,?_,Qx m.row hk ?_,m.held.keeps hk hX⟩
 ·intro x hx
  have hx:=hM x hx
  simp at hx ⊢
  omega
 ·intro hx
  have hx:=hM _ hx
  simp at hx
  omega
 ·intro p hp
  have h1:=m.fix p hp
  refine (hk.block _ (Qc h1) ?_).trans h1
  intro hx
  have hx:=hM _ hx
  have h2:=m.new _ (m.mine p.1 (by simp;exact Or.inr (Or.inr (Or.inr ⟨_,hp⟩))))
  have h3:=d4 p hp
  simp at hx
  omega
 ·intro g hg hx
  have hx:=hM _ hx
  have h1:=m.own g hg
  have h2:=m.new _ h1.1
  simp at hx h1
  omega
theorem BMid.scan (h0:Rd A text σ0 w) (m:BMid A text w TD TE sz D q nq E n cnt cells bs Y t l sl σ u) (hk:Qa [A.S] u u') (hr:Rd (A.plus Y) text σ' u'):BMid A text w TD TE sz D q nq E n cnt cells bs Y t l sl σ' u':=by
 have l2:=h0.lt.2.1
 have wq:=m.new _ (m.mine q (by simp))
 have wn:=m.new _ (m.mine nq (by simp))
 exact m.turn h0 hk (by simp) hr (m.set.keeps hk (by simp;omega)) (m.nums.keeps hk (by simp;omega))
theorem BMid.below (h0:Rd A text σ0 w) (m:BMid A text w TD TE sz D q nq E n cnt cells bs Y t l sl σ u) (hb:Below u.heap.size u u'):BMid A text w TD TE sz D q nq E n cnt cells bs Y t l sl σ u':=
 m.turn h0 (Qa.of_below [] hb) (by simp) (m.rd.below hb) (m.set.keeps (Qa.of_below [] hb) (by simp)) (m.nums.keeps (Qa.of_below [] hb) (by simp))
theorem BMid.rowAt (m:BMid A text w TD TE sz D q nq E n cnt cells bs Y t l sl σ u) (o:Obj):(u.alloc o).ownsRow w.heap.size TE sz sl cnt cells:=Qx m.row ((Qa.refl [] u).alloc o) (by simp)
theorem BMid.boxAt {u2:World} {o:Obj} (m:BMid A text w TD TE sz D q nq E n cnt cells bs Y t l sl σ u) (hg:(u.alloc o).grownBy u2 sl.ownBlock):u2.heap[D]? = some (.cells #[.string ⟨n.1.toArray⟩,.int .i64 n.2,sl,.int .i64 0] TD):=by
 have hl:=Qc m.box
 exact (hg.block _ (by simp;omega) (fun e=>(m.own _ e.symm).2 (by simp))).trans ((((Qa.refl [] u).alloc o).block _ hl (by simp)).trans m.box)
theorem BMid.fixAt {u2:World} {o:Obj} (m:BMid A text w TD TE sz D q nq E n cnt cells bs Y t l sl σ u) (hg:(u.alloc o).grownBy u2 sl.ownBlock) {p:Nat×Obj} (hp:p∈E):u2.heap[p.1]? = some p.2:=by
 have h1:=m.fix p hp
 have hl:=Qc h1
 exact (hg.block _ (by simp;omega) (fun e=>(m.own _ e.symm).2 (by simp;exact Or.inr (Or.inr (Or.inr ⟨_,hp⟩))))).trans ((((Qa.refl [] u).alloc o).block _ hl (by simp)).trans h1)
theorem BMid.step {u2 u3:World} {g cap:Nat} {news:List Value} {bs':List (Nat×Obj)} (h0:Rd A text σ0 w) (e:BMid A text w TD TE sz D q nq E n cnt cells bs Y t l sl σ u) (hh:Held (A.plus Y).X bs' u) (hb:Below u.heap.size u u2)
  (hown:u3.ownsRow w.heap.size TE sz (.slice (some ⟨g,0,none⟩) (cnt + 1) cap) (cnt + 1) (cells++news))
  (hg:u2.grownBy u3 sl.ownBlock) (hat:sl.ownBlock=some g∨g=u2.heap.size) (hlt:g < u3.heap.size) :
  BMid A text w TD TE sz D q nq E n (cnt + 1) (cells++news) (bs++bs') (g :: Y) t l (.slice (some ⟨g,0,none⟩) (cnt + 1) cap) σ (u3.setCell ⟨D,2,none⟩ (.slice (some ⟨g,0,none⟩) (cnt + 1) cap)):=by
 obtain ⟨hwg,_⟩:=Q2p hown (g:=g) rfl
 have e2:=e.below h0 hb
 have hh2:=hh.keeps (Qa.of_below [] hb) (by simp)
 clear hh
 obtain ⟨d1,d2,d3,d4⟩:=e.apart
 have iD:D∈D :: q :: nq :: E.map (·.1):=by simp
 have iq:q∈D :: q :: nq :: E.map (·.1):=by simp
 have in':nq∈D :: q :: nq :: E.map (·.1):=by simp
 have wnew:∀ b∈D :: q :: nq :: E.map (·.1),w.heap.size≤b:=fun b hb=>e.new _ (e.mine b hb)
 have hlen:∀ b∈D :: q :: nq :: E.map (·.1),b < u2.heap.size:=fun b hb=>e2.rd.old b (List.mem_append_left _ (e.mine b hb))
 have k3:=hg.size
 have gl:g ∉ D :: q :: nq :: E.map (·.1):=by
  rcases hat with h | h
  ·exact (e.own g h).2
  ·intro hm
   have:=hlen g hm
   omega
 have hrow:∀ b,sl.ownBlock=some b→w.heap.size≤b∧b∈(A.plus Y).X:=fun b hb=>⟨e.new _ (e.own b hb).1,List.mem_append_left _ (e.own b hb).1⟩
 have hkg:=Q0t hg
 have hks:Qa [D] u3 (u3.setCell ⟨D,2,none⟩ (.slice (some ⟨g,0,none⟩) (cnt + 1) cap)):=(Qa.refl [D] u3).setIn (by simp) _
 have rl:∀ b∈D :: q :: nq :: E.map (·.1),b ∉ sl.ownBlock.toList:=by
  intro b hb hm
  exact (e.own b (by simpa using hm)).2 hb
 have hgX:∀ b,sl.ownBlock=some b→b∈(A.plus Y).X:=fun b hb=>(hrow b hb).2
 have hDX:∀ x∈[D],x∈(A.plus (g :: Y)).X:=by
  intro x hx
  simp only [List.mem_singleton] at hx
  subst hx
  exact List.mem_append_left _ (List.mem_cons_of_mem _ (e.mine _ iD))
 refine ⟨?_,?_,fun b hb=>List.mem_cons_of_mem _ (e.mine b hb),e.nd,?_,?_,?_,?_,?_,?_,?_,?_⟩
 ·refine (e2.kp.young hkg ?_).young hks ?_
  ·intro m hm
   exact Or.inr (hrow m (by simpa using hm)).1
  ·intro m hm
   simp only [List.mem_singleton] at hm
   subst hm
   exact Or.inr (wnew _ iD)
 ·exact h0.young (Same.plus A (g :: Y)) (Rd.grow h0 (Same.plus A Y) e2.rd hg hrow hat hlt) hks (by
   intro x hx
   exact ⟨by simp only [List.mem_singleton] at hx;subst hx;exact wnew _ iD,hDX x hx⟩)
 ·intro y hy
  rcases List.mem_cons.1 hy with rfl | hy
  ·exact hwg
  ·exact e.new y hy
 ·intro g' h'
  simp only [Value.ownBlock,Option.some.injEq] at h'
  subst h'
  exact ⟨List.mem_cons_self,gl⟩
 ·exact (e2.set.keeps hkg (rl _ iq)).keeps hks (by simp;omega)
 ·exact (e2.nums.keeps hkg (rl _ in')).keeps hks (by simp;omega)
 ·exact QB (i:=2) ((hkg.block _ (hlen _ iD) (rl _ iD)).trans e2.box) _
 ·intro p hp
  have hm:p.1∈D :: q :: nq :: E.map (·.1):=by simp;exact Or.inr (Or.inr (Or.inr ⟨_,hp⟩))
  have hl:=hlen _ hm
  exact (hks.block _ (by omega) (by simp;exact (d4 p hp).1)).trans ((hkg.block _ hl (rl _ hm)).trans (e2.fix p hp))
 ·exact Qx hown hks (by
   intro g' h'
   simp only [Value.ownBlock,Option.some.injEq] at h'
   subst h'
   intro hm
   simp only [List.mem_singleton] at hm
   exact gl (hm ▸ iD))
 ·exact ((e2.held.app hh2).grow hg hgX hat).keeps hks hDX
theorem BMid.lies (m:BMid A text w TD TE sz D q nq E n cnt cells bs Y t l sl σ u) (hle:cnt≤1000) (hc:cells.length=cnt * sz) (hz:cnt=0→cells=[]):∃ bs',Q0j bs' TE sl cnt cells∧∀ p∈bs',u.heap[p.1]? = some p.2∧w.heap.size≤p.1∧p.1≠D:=by
 rcases m.row.2 with ⟨rfl,h⟩ | ⟨g,cap,cur,rfl,hg1,hg2,hg3,hg4,hg5,hg6⟩
 ·exact ⟨[],Or.inl ⟨rfl,h,hz h⟩,by simp⟩
 ·refine ⟨[(g,.cells cur TE)],Or.inr ⟨g,cap,cur,rfl,⟨hg3,hle⟩,by simp,?_⟩,?_⟩
  ·rw [hc]
   exact hg6
  ·intro p hp
   simp only [List.mem_singleton] at hp
   subst hp
   exact ⟨hg2,hg1,fun e=>(m.own g rfl).2 (by simp only at e;rw [e];simp)⟩
end
theorem QgN:(Tryz.prog.info? 342).map (fun i=>(i.zero,i.size,i.bytes))=some (some (.agg #[.string ⟨#[]⟩,.int .i64 0,.nilIface,.nilIface,.int .i64 0]),5,64):=by kernel_rfl
def Q2a (text:ByteArray):PX (List Q15×UnSt) Unit:=fun p σ=>match Q3T text p.2 σ with
 | .ok (d,s',σ')=>.ok ((),(p.1++[d],s'),σ')
 | .error f=>.error f
theorem Q8X {text:ByteArray} {ps:List Q15} {s s':UnSt} {σ σ':St} {d:Q15} (h:Q3T text s σ = .ok (d,s',σ')):Q2a text (ps,s) σ = .ok ((),(ps++[d],s'),σ'):=by simp only [Q2a,h]
theorem Q8d {text:ByteArray} {ps:List Q15} {s:UnSt} {σ:St} {f:Mar.Fault} (h:Q3T text s σ = .error f):Q2a text (ps,s) σ = .error f:=by simp only [Q2a,h]
structure VsAd where
 VB:Nat
 rb:Nat
 cb:Nat
 nb:Nat
 q:Nat
 nq:Nat
 bx:Nat
abbrev VsAd.E (a:VsAd):List (Nat×Obj):=[(a.cb,.cells #[(Qr a.q a.bx).v] 270),(a.nb,.cells #[.map (some a.nq)] 105)]
def vsJ (A:Ad) (text:ByteArray) (w:World) (a:VsAd) (n:List UInt8×Nat) (k:Nat) (Y:List Nat) (p:List Q15×UnSt) (σ:St) (u:World):Prop:=p.1.length=k ∧
 ∃ sl,BMid A text w 296 342 5 a.VB a.q a.nq a.E n p.1.length (p.1.flatMap Q3U) (Qr a.q a.bx).bs Y p.2.1 p.2.2 sl σ u
theorem Qbv {A' A:Ad} (hA:Same A' A) {text:ByteArray} {σ:St} {q bx nq:Nat} {t:List (List UInt8)} {l:List (Int×Int)} {w:World} (h:Rd A' text σ w) (hq:Free A' q) (hn:Free A' nq) (hne:q≠nq) (hs:Q0m q t w) (hcl:Held A'.X (Qr q bx).bs w) (hl:QV nq l w) :
  Calls Tryz.prog 169 #[.pointer (some ⟨A.R,0,none⟩),(Qr q bx).v,.map (some nq)] w (Q3P A' text w q nq (Q3T text (t,l) σ) fun p=>.agg (Q3U p).toArray):=by
 have:=Qaz h hq hn hne hs hcl hl
 rw [hA.1] at this
 exact this
theorem QgO (d:Q15):∀ u∈Q3U d,u.oneCell'=true:=by
 intro u hu
 simp at hu
 rcases hu with rfl | rfl | rfl | rfl | rfl
 ·rfl
 ·rfl
 ·obtain ⟨T,v,h⟩:=QG d.res;rw [h];rfl
 ·obtain ⟨T,v,h⟩:=QG d.arg;rw [h];rfl
 ·rfl
theorem Q6u {b:Nat} {k t a c:Value} {T:TypeId} {w:World} (h:w.heap[b]? = some (.cells #[k,t,a,c] T)):∀ i,w.frozen? ⟨b,i,none⟩=false:=by
 intro i
 simp [World.frozen?,h]
theorem Qbw {A:Ad} {text:ByteArray} {w u:World} {a:VsAd} {n:List UInt8×Nat} {k:Nat} {Y:List Nat} {ps:List Q15} {s:UnSt} {σ σ0:St} (h0:Rd A text σ0 w) (hrb:w.heap[a.rb]? = some (.cells #[.pointer (some ⟨A.R,0,none⟩)] 101)) (hrf:a.rb ∉ [A.R,A.S,A.N]) (hk:k < 1000) (h:vsJ A text w a n k Y (ps,s) σ u) :
  Calls Tryz.prog 168 #[.pointer (some ⟨a.VB,0,none⟩),.pointer (some ⟨a.rb,0,none⟩),.pointer (some ⟨a.cb,0,none⟩),.pointer (some ⟨a.nb,0,none⟩)] u (Q10 A w (vsJ A text w a n (k + 1)) (Q2a text (ps,s) σ)):=by
 obtain ⟨hlen,sl,hm⟩:=h
 obtain ⟨t,l⟩:=s
 dsimp only at hlen hm
 have HL:=Hid.mk hlen
 have hds:ps.length < 1000:=by omega
 clear hlen
 obtain ⟨ad,cap,rfl⟩:=hm.slice
 obtain ⟨i0,hi0,hz0,hz1,hz2⟩:=info_parts QgN
 have hlr:=Qc hrb
 have hvr:=fun (v:World) (hk:Qa [A.R,A.S,A.N] w v)=>QD ((hk.block _ hlr hrf).trans hrb)
 have HV:=Hid.mk hvr
 obtain ⟨x0,x1,x2,x3⟩:=Q2I hm.box
 have r0:=hvr _ hm.kp
 have c0:=QD (hm.fix (a.cb,.cells #[(Qr a.q a.bx).v] 270) (by simp [VsAd.E]))
 have n0:=QD (hm.fix (a.nb,.cells #[.map (some a.nq)] 105) (by simp [VsAd.E]))
 have hbd:Below u.heap.size u u.drew:=(Below.refl _ _).drew
 have MD:=Hid.mk (hm.below h0 hbd)
 have HC:=Hid.mk (Qbv (bx:=a.bx) (Same.plus A Y) MD.out.rd (MD.out.free h0 (MD.out.mine a.q (by simp))) (MD.out.free h0 (MD.out.mine a.nq (by simp))) MD.out.apart.2.2.1 MD.out.set MD.out.held MD.out.nums)
 have hl1:ps.length + 1≤maxLen:=by unfold maxLen;omega
 have hl2:(ps.length + 1) * 64≤140737488355328:=by omega
 have hz3:(Value.agg #[.string ⟨#[]⟩,.int .i64 0,.nilIface,.nilIface,.int .i64 0]).cells.size=5:=by decide
 clear hm hvr
 go_enter Tryz.func168,Tryz.ntmps168
 go_wp2_with fail
 refine QH (fun w'=>w'.cell? ⟨a.VB,2,none⟩=some (.slice ad ps.length cap)∧w'.cell? ⟨a.rb,0,none⟩=some (.pointer (some ⟨A.R,0,none⟩))∧w'.cell? ⟨a.cb,0,none⟩=some (Qr a.q a.bx).v∧w'.cell? ⟨a.nb,0,none⟩=some (.map (some a.nq))) (L:=9) (by kernel_rfl) rfl (by kernel_rfl) (by kernel_rfl) ?_ (fun hHeld=>?_)
 ·go_keep
 refine tk (i:=0) (v:=?_) rfl (by kernel_rfl) (fun _ _ _ h=>h) (by rfl) (by assumption) ?_ ?_
 rotate_left
 ·intro w hSw;(try dsimp only at hSw);go_simp;(try with_reducible rfl)
 (try simp only [Qd,Qe,List.set])
 refine tk (i:=1) (v:=?_) rfl (by kernel_rfl) (fun _ _ _ h=>h) (by rfl) (by assumption) ?_ ?_
 rotate_left
 ·intro w hSw;(try dsimp only at hSw);go_simp;(try with_reducible rfl)
 (try simp only [Qd,Qe,List.set])
 refine tk (i:=2) (v:=?_) rfl (by kernel_rfl) (fun _ _ _ h=>h) (by rfl) (by assumption) ?_ ?_
 rotate_left
 ·intro w hSw;(try dsimp only at hSw);go_simp;(try with_reducible rfl)
 (try simp only [Qd,Qe,List.set])
 refine tk (i:=3) (v:=?_) rfl (by kernel_rfl) (fun _ _ _ h=>h) (by rfl) (by assumption) ?_ ?_
 rotate_left
 ·intro w hSw;(try dsimp only at hSw);go_simp;(try with_reducible rfl)
 (try simp only [Qd,Qe,List.set])
 refine tk (i:=4) (v:=?_) rfl (by kernel_rfl) (fun _ _ _ h=>h) (by rfl) (by assumption) ?_ ?_
 rotate_left
 ·intro w hSw;(try dsimp only at hSw);go_simp;(try with_reducible rfl)
 (try simp only [Qd,Qe,List.set])
 refine wpAnyH_ready (rs:=[5]) (by kernel_rfl) (by simp) ?_
 refine AllReadyH.cons rfl (fun K hK=>?_) AllReadyH.nil
 (go_simp;go_at_call 169;refine HC.out.mono ?_;rintro e w5 ⟨hk5,⟨d,t5,l5,σ5,hx5,rfl,hr5,hs5,hn5⟩ | ⟨f,hx5,b,hbb,rfl,hcell⟩⟩;rotate_left;exact Qb (Q10.throws (MD.out.kp.young hk5 (by intro x hx;have:=MD.out.new _ (MD.out.mine a.q (by simp));have:=MD.out.new _ (MD.out.mine a.nq (by simp));simp [Ad.plus] at hx ⊢;omega)) MD.out.kp (Q8d hx5) hbb hcell);have M5:=Hid.mk (MD.out.turn h0 hk5 (by intro x hx;simpa [Ad.plus] using hx) hr5 hs5 hn5);obtain ⟨y0,y1,y2,y3⟩:=Q2I M5.out.box;have r5:=HV.out _ M5.out.kp;have c5:=QD (M5.out.fix (a.cb,.cells #[(Qr a.q a.bx).v] 270) (by simp [VsAd.E]));have n5:=QD (M5.out.fix (a.nb,.cells #[.map (some a.nq)] 105) (by simp [VsAd.E]));have lb5:=Qc M5.out.box;have lr5:=Nat.lt_of_lt_of_le hlr M5.out.kp.size;have lc5:=Qc (M5.out.fix (a.cb,.cells #[(Qr a.q a.bx).v] 270) (by simp [VsAd.E]));have ln5:=Qc (M5.out.fix (a.nb,.cells #[.map (some a.nq)] 105) (by simp [VsAd.E]));have hwl:=M5.out.kp.size;dsimp only [Q3U,Q3D,List.append_toArray,List.cons_append,List.nil_append])
 refine hK.out _ _ ?_ (fun hHeld=>?_)
 ·go_keep
 clear hK K
 (try simp only [Qd,Qe,List.set])
 refine wpAnyH_ready (rs:=[6]) (by kernel_rfl) (by simp) ?_
 refine AllReadyH.cons rfl (fun K hK=>?_) AllReadyH.nil
 go_simp
 refine hK.out _ _ ?_ (fun hHeld=>?_)
 ·go_keep
 clear hK K
 (try simp only [Qd,Qe,List.set])
 refine wpAnyH_ready (rs:=[7]) (by kernel_rfl) (by simp) ?_
 refine AllReadyH.cons rfl (fun K hK=>?_) AllReadyH.nil
 (refine step_append_lies _ (by rfl) _ _ _ (by rfl) w.heap.size 342 i0 _ 5 64 Tryz.underlying294 hi0 hz0 hz1 hz2 hz3 (by omega) (.slice ad ps.length cap) ps.length (ps.flatMap Q3U) (by rfl) (M5.out.rowAt _) ⟨w5.heap.size,0,none⟩ 1 1 (Q3U d) (by rfl) (by rfl) (World.news_of_block (cs:=(Q3U d).toArray) (t:=342) (fr:=(0,0)) (heap_alloc_new w5 _)) (QgO d) (by omega) hl1 hl2 (by simp;omega) (w5.heap.size + 1) (by simp) ?_;intro g cap' w6 hown6 hgrow hat hlt;obtain ⟨z0,z1,z2,z3⟩:=Q2I (M5.out.boxAt hgrow);have hfz:=Q6u (M5.out.boxAt hgrow);have c6:=QD (M5.out.fixAt hgrow (p:=(a.cb,.cells #[(Qr a.q a.bx).v] 270)) (by simp [VsAd.E]));have n6:=QD (M5.out.fixAt hgrow (p:=(a.nb,.cells #[.map (some a.nq)] 105)) (by simp [VsAd.E]));have r6:w6.cell? ⟨a.rb,0,none⟩=some (.pointer (some ⟨A.R,0,none⟩)):=HV.out _ (((M5.out.kp.alloc _)).young (Q0t hgrow) (by intro x hx;have h1:=M5.out.own x (by simpa using hx);exact Or.inr (M5.out.new _ h1.1))))
 refine hK.out _ _ ?_ (fun hHeld=>?_)
 ·go_keep
 clear hK K
 (try simp only [Qd,Qe,List.set])
 refine tk (i:=8) (v:=?_) rfl (by kernel_rfl) (fun _ _ _ h=>h) (by rfl) (by assumption) ?_ ?_
 rotate_left
 ·intro w hSw;(try dsimp only at hSw);go_simp;(try with_reducible rfl)
 (try simp only [Qd,Qe,List.set])
 refine wpAnyH_done (by kernel_rfl) ?_ _
 refine Q02 rfl (fun K hK=>?_)
 go_simp
 refine hK.out _ _ ?_
 clear hK K
 (try simp only [Qd,Qe,List.set])
 have M6:=BMid.step (bs':=[]) h0 M5.out (by intro p hp;cases hp) ((Below.refl w5.heap.size w5).alloc (Nat.le_refl _) _) hown6 hgrow (by simpa using hat) hlt
 go_wp2
 go_end0
 refine Or.inl ⟨g :: Y,(ps++[d],(t5,l5)),σ5,Q8X hx5,rfl,by simp [HL.out],.slice (some ⟨g,0,none⟩) (ps.length + 1) cap',?_⟩
 simpa using M6
theorem Q8Y (args:Array Value) (u:World):(callFunc 168 args).run Tryz.prog u = .ok (.enter 168 args) u:=by kernel_rfl
def Qix {A:Ad} {text:ByteArray} {σ0:St} {w:World} (h0:Rd A text σ0 w) (a:VsAd) (hrb:w.heap[a.rb]? = some (.cells #[.pointer (some ⟨A.R,0,none⟩)] 101)) (hrf:a.rb ∉ [A.R,A.S,A.N]) (n:List UInt8×Nat):One (List Q15×UnSt) A text w 8 where
 f:=168
 cap:=#[.pointer (some ⟨a.VB,0,none⟩),.pointer (some ⟨a.rb,0,none⟩),.pointer (some ⟨a.cb,0,none⟩),.pointer (some ⟨a.nb,0,none⟩)]
 run:=Q2a text
 J:=vsJ A text w a n
 enters:=Q8Y
 rd:=by rintro _ _ _ _ _ ⟨_,_,m⟩;exact m.rd
 kp:=by rintro _ _ _ _ _ ⟨_,_,m⟩;exact m.kp
 scan:=by rintro _ _ _ _ _ _ _ ⟨h,sl,m⟩ hk hr;exact ⟨h,sl,m.scan h0 hk hr⟩
 call:=by
  intro k Y t σ u hk h
  exact Qbw h0 hrb hrf (by omega) h
def Q5E (text:ByteArray) (n:List UInt8×Nat):PX UnSt QN:=bndx (lift (runx (block text 8 (Q2a text)) ([],([],[])))) fun p=>bndx (onR (Q3b text)) fun k=>retx ⟨n.1,n.2,p.1,k⟩
def Q20 (text:ByteArray):PX UnSt QN:=bndx (lift (QS text [118,101,114,115,105,111,110])) fun _=>bndx (onL (name text (Qr 0 0))) (Q5E text)
def Q4Z (A:Ad) (text:ByteArray) (w:World) (q nq:Nat) (r:Except Mar.Fault (QN×UnSt×St)) (e:Ending) (w':World):Prop:=
 Qa [A.R,A.S,A.N,q,nq] w w'∧((∃ v t l σ' sl bs,r = .ok (v,(t,l),σ')∧e = .returned (.agg #[.string ⟨v.t.toArray⟩,.int .i64 v.at',sl,.int .i64 v.num])∧Rd A text σ' w'∧Q0m q t w'∧QV nq l w'∧Q0j bs 342 sl v.procs.length (v.procs.flatMap Q3U)∧Held A.X bs w')∨(∃ f,r = .error f∧Q0A w f.no f.at' e w'))
theorem Q4Z.throws {A:Ad} {M':List Nat} {text:ByteArray} {w w1 w':World} {q nq:Nat} {r:Except Mar.Fault (QN×UnSt×St)} {f:Mar.Fault} {b:Nat}
  (hk:Qa [A.R,A.S,A.N,q,nq] w w') (hk1:Qa M' w w1) (hr:r = .error f) (hb:w1.heap.size≤b) (hc:w'.heap[b]? = some (.cells #[.int .i64 f.no,.int .i64 f.at'] 83)) :
  Q4Z A text w q nq r (.panicked [{ v:=.iface 79 (.pointer (some ⟨b,0,none⟩)),recovered:=false }]) w':=⟨hk,Or.inr ⟨f,hr,b,Nat.le_trans hk1.size hb,rfl,hc⟩⟩
theorem QfB:∀ ps:List Q15,(ps.flatMap Q3U).length=ps.length * 5:=by
 intro ps
 induction ps with
 | nil=>rfl
 | cons d ds ih=>simp only [List.flatMap_cons,List.length_append,List.length_cons,ih];simp;omega
theorem QcL {A:Ad} {text:ByteArray} {σ:St} {q bx nq:Nat} {t:List (List UInt8)} {l:List (Int×Int)} {w:World} (h:Rd A text σ w) (hq:Free A q) (hn:Free A nq) (hne:q≠nq) (hs:Q0m q t w) (hcl:Held A.X (Qr q bx).bs w) (hl:QV nq l w) :
  Calls Tryz.prog 137 #[.pointer (some ⟨A.R,0,none⟩),(Qr q bx).v,.map (some nq)] w (Q4Z A text w q nq (Q20 text (t,l) σ)):=by
 have hmf:∀ (fn:Fn) (first cap:Array Value) (w:World),(Instr.makeFunc fn first cap).run Tryz.prog w = .ok (.func fn first cap) w:=fun _ _ _ _=>rfl
 have hmm:∀ (t:TypeId) (w:World),(Instr.makeMap t none).run Tryz.prog w = .ok (.map (some w.heap.size)) (w.alloc (.map #[] 0)):=fun _ _=>rfl
 have Q0:QMid A text w q bx nq [] [] t l σ w:=⟨Qa.refl _ _,h,by simp,hs,hcl,hl,by simp⟩
 have hs1:(w.alloc (.cells #[.pointer (some ⟨A.R,0,none⟩)] 101)).heap.size=w.heap.size + 1:=by simp
 have Q1':=(Q0.alloc (.cells #[.pointer (some ⟨A.R,0,none⟩)] 101)).alloc (.cells #[.string ⟨#[]⟩,.int .i64 0,.slice none 0 0,.int .i64 0] 296)
 rw [hs1] at Q1'
 have Q1:=Hid.mk Q1'
 have rb1:=QD (Q1'.box (w.heap.size,.cells #[.pointer (some ⟨A.R,0,none⟩)] 101) (by simp)).1
 clear Q0 Q1' hs1
 go_enter Tryz.func137,Tryz.ntmps137
 go_wp2_with fail
 refine (Q08 (Same.plus A _) _ Q1.out.rd).mono ?_
 rintro e w2 ⟨hk2,⟨x2,σ2,hx2,rfl,hr2⟩ | ⟨f,hx2,b,hbb,rfl,hcell⟩⟩
 rotate_left
 ·exact Qb (Q4Z.throws (Q1.out.kp.trans (hk2.mono (by simp))) Q1.out.kp (Ql (Qv hx2)) hbb hcell)
 have Q2:=Hid.mk (Q1.out.scan h hq hn hk2 hr2)
 have rb2:=QD (Q2.out.box (w.heap.size,.cells #[.pointer (some ⟨A.R,0,none⟩)] 101) (by simp)).1
 clear hk2 hr2 Q1 rb1
 go_wp2_with fail
 refine (Q8s (bx:=bx) (Same.plus A _) (hq.plus _) Q2.out.rd Q2.out.set Q2.out.cl).mono ?_
 rintro e w3 ⟨hk3,⟨n,t3,σ3,hx3,rfl,hr3,hs3⟩ | ⟨f,hx3,b,hbb,rfl,hcell⟩⟩
 rotate_left
 ·exact Qb (Q4Z.throws (Q2.out.kp.trans (hk3.mono (by simp))) Q2.out.kp ((Qh (Qj hx2)).trans (Ql (Q5r hx3))) hbb hcell)
 have Q3:=Hid.mk (Q2.out.claimed h hq hn hne hk3 hr3 hs3)
 have E3:Hid (Q20 text (t,l) σ = Q5E text n (t3,l) σ3):=(Qh (Qj hx2)).trans (Qh (Q6s hx3))
 have hrb3:=(Q3.out.box (w.heap.size,.cells #[.pointer (some ⟨A.R,0,none⟩)] 101) (by simp)).1
 clear hk3 hr3 hs3 Q2 rb2 hx2 hx3
 dsimp only [Q1x]
 go_wp2_with fail
 refine (Q61 _).mono ?_
 rintro e w5 ⟨q',bx',rfl,hq',hbx',hqb',hI',hb5,hx5⟩
 dsimp only [Q0e.v,Qr]
 have hs4:(w3.alloc (.cells #[.string ⟨n.1.toArray⟩,.int .i64 n.2,.slice none 0 0,.int .i64 0] 296)).heap.size=w3.heap.size + 1:=by simp
 have l3:=Qc hrb3
 have hlq:q' < w5.heap.size:=by
  obtain ⟨_,_,_,hm⟩:=id hI'
  exact Qc hm
 have hlx:=Qc hx5
 have hz5:=hb5.size
 have hk5:=Qa.of_below [] hb5
 have hv5:=(hk5.block _ (by omega) (by simp)).trans (Qi (w:=w3) (o:=.cells #[.string ⟨n.1.toArray⟩,.int .i64 n.2,.slice none 0 0,.int .i64 0] 296) rfl)
 have hr5:=(Q3.out.rd.own (.cells #[.string ⟨n.1.toArray⟩,.int .i64 n.2,.slice none 0 0,.int .i64 0] 296)).take hb5 hq' hlq
 obtain ⟨W6,hW6⟩:∃ W6,W6=((w5.alloc (.map #[] 0)).alloc (.cells #[(Qr q' bx').v] 270)).alloc (.cells #[.map (some w5.heap.size)] 105):=⟨_,rfl⟩
 have hs5:(w5.alloc (.map #[] 0)).heap.size=w5.heap.size + 1:=by simp
 have hs6:((w5.alloc (.map #[] 0)).alloc (.cells #[(Qr q' bx').v] 270)).heap.size=w5.heap.size + 2:=by simp
 have hr6:=((hr5.own (.map #[] 0)).own (.cells #[(Qr q' bx').v] 270)).own (.cells #[.map (some w5.heap.size)] 105)
 rw [hs5,hs6,← hW6] at hr6
 have k56:Qa [] w5 W6:=by rw [hW6];exact (((Qa.refl [] w5).alloc _).alloc _).alloc _
 have hm6:W6.heap[w5.heap.size]? = some (.map #[] 0):=by
  rw [hW6]
  exact ((((Qa.refl [] _).alloc _).alloc _).block _ (by rw [hs5];omega) (by simp)).trans (Qi rfl)
 have hc6:W6.heap[w5.heap.size + 1]? = some (.cells #[(Qr q' bx').v] 270):=by
  rw [hW6]
  exact (((Qa.refl [] _).alloc _).block _ (by rw [hs6];omega) (by simp)).trans (Qi hs5.symm)
 have hn6:W6.heap[w5.heap.size + 2]? = some (.cells #[.map (some w5.heap.size)] 105):=by
  rw [hW6]
  exact Qi hs6.symm
 have kb6:Qa [] w3 W6:=(((Qa.refl [] w3).alloc _).trans hk5).trans k56
 have hrf:w.heap.size ∉ [A.R,A.S,A.N]:=by obtain ⟨l1,l2,l3,l4⟩:=h.lt;simp;omega
 have M6:Hid (BMid (A.plus [w.heap.size + 1,w.heap.size]) text w3 296 342 5 w3.heap.size q' w5.heap.size [(w5.heap.size + 1,.cells #[(Qr q' bx').v] 270),(w5.heap.size + 2,.cells #[.map (some w5.heap.size)] 105)] n 0 [] (Qr q' bx').bs [w5.heap.size + 2,w5.heap.size + 1,w5.heap.size,q',w3.heap.size] [] [] (.slice none 0 0) σ3 W6):=by
  refine ⟨kb6.mono (by simp),hr6,?_,?_,?_,(by intro g hg;cases hg),?_,hm6,(k56.block _ (Qc hv5) (by simp)).trans hv5,?_,⟨rfl,Or.inl ⟨rfl,rfl⟩⟩,?_⟩
  ·intro b hb
   simp at hb ⊢
   omega
  ·simp
   omega
  ·intro y hy
   simp at hy
   omega
  ·have hI2:Q0m q' [] w5:=hI'
   exact hI2.keeps k56 (by simp)
  ·intro p hp
   simp only [List.mem_cons,List.not_mem_nil,or_false] at hp
   rcases hp with rfl | rfl
   ·exact hc6
   ·exact hn6
  ·intro p hp
   simp only [Qr,List.mem_singleton] at hp
   subst hp
   refine ⟨(k56.block _ hlx (by simp)).trans hx5,?_⟩
   have h1:=Q3.out.kp.size
   have h2:w.heap.size + 1 < w3.heap.size:=Qc (Q3.out.box (w.heap.size + 1,.cells #[.string ⟨#[]⟩,.int .i64 0,.slice none 0 0,.int .i64 0] 296) (by simp)).1
   simp [Ad.plus]
   refine ⟨by omega,by omega,by omega,by omega,by omega,by omega,by omega,?_⟩
   intro hm
   have:=h.old _ hm
   omega
 have rb6:=QD ((kb6.block _ l3 (by simp)).trans hrb3)
 rw [hW6] at rb6
 clear hr6 hr5 hm6 hc6 hn6 hv5 hI' hx5 hb5 hk5 k56 hlq hlx hq' hbx' hqb'
 dsimp only [Q0e.v,Qr] at rb6
 go_wp2_with fail
 rw [show ((w5.alloc (.map #[] 0)).alloc (.cells #[.func (.func 164) #[] #[.pointer (some ⟨bx',0,none⟩)]] 270)).alloc (.cells #[.map (some w5.heap.size)] 105)=W6 from hW6.symm]
 have HJ:vsJ (A.plus [w.heap.size + 1,w.heap.size]) text w3 ⟨w3.heap.size,w.heap.size,w5.heap.size + 1,w5.heap.size + 2,q',w5.heap.size,bx'⟩ n 0 [w5.heap.size + 2,w5.heap.size + 1,w5.heap.size,q',w3.heap.size] ([],([],[])) σ3 W6:=⟨rfl,_,M6.out⟩
 refine (Q7l 8 (Qix Q3.out.rd ⟨w3.heap.size,w.heap.size,w5.heap.size + 1,w5.heap.size + 2,q',w5.heap.size,bx'⟩ hrb3 hrf n) (by omega) HJ).mono ?_
 rintro e w6 (⟨Y6,⟨ps,t6,l6⟩,σ6,hx6,rfl,k6,hk6,hlen,sl,hM6⟩ | ⟨f,hx6,hk6,b,hbb,rfl,hcell⟩)
 rotate_left
 ·exact Qb (Q4Z.throws (Q3.out.kp.trans (hk6.mono (by simp [Ad.plus]))) Q3.out.kp (E3.out.trans (Ql (Qv (Q5D hx6)))) hbb hcell)
 dsimp only at hlen hM6
 have hps:ps.length≤8:=by omega
 clear hlen hk6
 have hA6:Same ((A.plus [w.heap.size + 1,w.heap.size]).plus Y6) A:=⟨rfl,rfl,rfl,rfl⟩
 have hK6:Qa [A.R,A.S,A.N] w3 w6:=hM6.kp
 have rb7:=QD ((hK6.block _ l3 hrf).trans hrb3)
 have hnq:nq ∉ [A.R,A.S,A.N]:=by simp;exact ⟨hn.2.1,hn.2.2.1,hn.2.2.2.1⟩
 have hqq:q ∉ [A.R,A.S,A.N]:=by simp;exact ⟨hq.2.1,hq.2.2.1,hq.2.2.2.1⟩
 have hnu6:=Q3.out.nums.keeps hK6 hnq
 have hfq:Free ((A.plus [w.heap.size + 1,w.heap.size]).plus Y6) nq:=(hn.plus _).plus _
 have HM6:=Hid.mk hM6
 clear M6 HJ rb6 hW6 kb6 hs4 hs5 hs6
 go_wp2_with fail
 refine (Qa5 hA6 HM6.out.rd hfq hnu6).mono ?_
 rintro e w7 ⟨hk7,⟨k,l7,σ7,hx7,rfl,hr7,hl7⟩ | ⟨f,hx7,b,hbb,rfl,hcell⟩⟩
 rotate_left
 ·exact Qb (Q4Z.throws ((Q3.out.kp.trans (hK6.mono (by simp))).trans (hk7.mono (by simp))) (Q3.out.kp.trans (hK6.mono (M':=[A.R,A.S,A.N,q,nq]) (by simp))) (E3.out.trans ((Qh (Qj (Q42 hx6))).trans (Ql (Q7V hx7)))) hbb hcell)
 have hlS:=h.lt.2.1
 have hln:=h.old _ hn.1
 have hlq:=h.old _ hq.1
 have hRB3:=(Q3.out.box (w.heap.size + 1,.cells #[.string ⟨#[]⟩,.int .i64 0,.slice none 0 0,.int .i64 0] 296) (by simp)).1
 have lRB:=Qc hRB3
 have hRf:w.heap.size + 1 ∉ [A.R,A.S,A.N]:=by obtain ⟨l1,l2,l3,l4⟩:=h.lt;simp;omega
 have hRB6:=(hK6.block _ lRB hRf).trans hRB3
 have hRB7:=(hk7.block _ (Qc hRB6) (by simp;omega)).trans hRB6
 have hVB7:=(hk7.block _ (Qc HM6.out.box) (by simp;omega)).trans HM6.out.box
 obtain ⟨r0,r1,r2,r3⟩:=Q2I hRB7
 have hfr:=Q6u hRB7
 obtain ⟨v0,v1,v2,v3⟩:=Q2I hVB7
 have hfv:=Q6u hVB7
 obtain ⟨ad,cap,rfl⟩:=HM6.out.slice
 have E7:Hid (Q20 text (t,l) σ = .ok (⟨n.1,n.2,ps,k⟩,(t3,l7),σ7)):=E3.out.trans ((Qh (Qj (Q42 hx6))).trans ((Qh (Q8U hx7)).trans rfl))
 have hne1:¬ w3.heap.size=w.heap.size + 1:=by omega
 have hne2:¬ w.heap.size + 1=w3.heap.size:=by omega
 have HK7:=Hid.mk hk7
 have HR7:=Hid.mk hr7
 have HL7:=Hid.mk hl7
 clear hk7 hr7 hl7 E3 hRB3 hRB6 hnu6 rb7 hRB7 hVB7
 dsimp only [intV]
 go_wp2
 have kf:=((((Qa.refl [w3.heap.size,w.heap.size + 1] w7).setIn (p:=⟨w3.heap.size,3,none⟩) (by simp) (.int .i64 k)).setIn (p:=⟨w.heap.size + 1,0,none⟩) (by simp) (.string ⟨n.1.toArray⟩)).setIn (p:=⟨w.heap.size + 1,1,none⟩) (by simp) (.int .i64 n.2)).setIn (p:=⟨w.heap.size + 1,2,none⟩) (by simp) (.slice ad ps.length cap) |>.setIn (p:=⟨w.heap.size + 1,3,none⟩) (by simp) (.int .i64 k)
 obtain ⟨bs,hsl,hbs⟩:=HM6.out.lies (by omega) (QfB ps) (by intro h;rw [List.length_eq_zero_iff.1 h];rfl)
 have hrf7:=h.young hA6 HR7.out kf (by
  intro x hx
  simp only [List.mem_cons,List.not_mem_nil,or_false] at hx
  rcases hx with rfl | rfl
  ·exact ⟨by omega,List.mem_append_left _ (HM6.out.mine _ (by simp))⟩
  ·exact ⟨by omega,List.mem_append_right _ (by simp [Ad.plus])⟩)
 have hrA:=Rd.dropAll h.mine (Rd.dropAll Q3.out.rd.mine hrf7)
 refine bodyPost_ret (v:=.agg #[.string ⟨n.1.toArray⟩,.int .i64 n.2,.slice ad ps.length cap,.int .i64 k]) (by simp [results,Tryz.results137,go_sem,r0,r1,r2,r3,v0,v1,v2,v3]) rfl ⟨?_,Or.inl ⟨⟨n.1,n.2,ps,k⟩,t3,l7,σ7,.slice ad ps.length cap,bs,E7.out,rfl,hrA,?_,?_,hsl,?_⟩⟩
 ·refine (((Q3.out.kp.trans (hK6.mono (by simp))).trans (HK7.out.mono (by simp))).young kf ?_)
  intro x hx
  simp only [List.mem_cons,List.not_mem_nil,or_false] at hx
  exact Or.inr (by omega)
 ·exact ((Q3.out.set.keeps hK6 hqq).keeps HK7.out (by simp;exact ⟨hq.2.2.1,hne⟩)).keeps kf (by simp;omega)
 ·exact HL7.out.keeps kf (by simp;omega)
 ·intro p hp
  obtain ⟨g1,g2,g3⟩:=hbs p hp
  have lg:=Qc g1
  refine ⟨(kf.block _ (Nat.lt_of_lt_of_le lg HK7.out.size) (by simp;omega)).trans ((HK7.out.block _ lg (by simp;omega)).trans g1),?_⟩
  intro hm
  have:=h.old _ hm
  omega
theorem Rd.withProgs {A:Ad} {text:ByteArray} {σ:St} {w w':World} {l:List (Int×Int)} (h:Rd A text σ w) (hk:Qa [A.P] w w') (hn:QV A.P l w'):Rd A text { σ with progs:=l } w':=by
 obtain ⟨l1,l2,l3,l4⟩:=h.lt
 obtain ⟨a1,a2,a3,a4,a5,a6⟩:=h.apart
 have hp:w.heap[A.P]? = some (.map (σ.progs.mapIdx fun i p=>(⟨.int .i64 p.1,.int .i64 p.2,i⟩:MapEntry)).toArray σ.progs.length):=h.pr
 have far:∀ b v,w.cell? ⟨b,0,none⟩=some v→b≠A.P:=by
  intro b v hc e
  subst e
  unfold World.cell? at hc
  rw [hp] at hc
  cases hc
 obtain ⟨⟨m,g1⟩,⟨_,_,g2⟩,⟨_,_,g3⟩⟩:=id h.gl
 refine ⟨(hk.block _ l1 (by simp;exact a3)).trans h.me,?_,h.nm.keeps hk (by simp;exact h.mine.2.2.2) (by simp;exact a6),h.mine,fun x hx=>Nat.lt_of_lt_of_le (h.old x hx) hk.size,hn,h.np,h.gl.keeps hk (by simp [far _ _ g1]) (by simp [far _ _ g2]) (by simp [far _ _ g3]),h.small,h.few⟩
 obtain ⟨ha,hs⟩:=h.sc
 refine ⟨ha,?_⟩
 have hb:=hk.block _ l2 (by simp;exact a5)
 show match σ.nx with | some x=>_ | none=>_
 cases hn:σ.nx with
 | some x=>rw [hn] at hs;exact hb.trans hs
 | none=>rw [hn] at hs;obtain ⟨k,t,n,a,hs⟩:=hs;exact ⟨k,t,n,a,hb.trans hs⟩
def Q2s (text:ByteArray) (p:Int→Bool):PM Int:=fun σ=>match number text p σ.progs σ with
 | .ok (n,l',σ')=>.ok (n,{ σ' with progs:=l' })
 | .error f=>.error f
theorem Q6K {text:ByteArray} {p:Int→Bool} {σ σ':St} {n:Int} {l':List (Int×Int)} (h:number text p σ.progs σ = .ok (n,l',σ')):Q2s text p σ = .ok (n,{ σ' with progs:=l' }):=by simp only [Q2s,h]
theorem Q4N {text:ByteArray} {p:Int→Bool} {σ:St} {f:Mar.Fault} (h:number text p σ.progs σ = .error f):Q2s text p σ = .error f:=by simp only [Q2s,h]
theorem QcM {A:Ad} {text:ByteArray} {σ:St} {v:Value} {p:Int→Bool} {w:World} (h:Rd A text σ w) (hf:Fits A.X v p w) :
  Calls Tryz.prog 163 #[.pointer (some ⟨A.R,0,none⟩),.map (some A.P),v] w (Qt [A.S,A.P] A text w (Q2s text p σ) intV):=by
 have HC:=Hid.mk (Qbh h hf)
 have hn:QV A.P σ.progs w:=h.pr
 have hqS:A.P ∉ [A.S]:=by simp;exact fun e=>h.apart.2.2.2.2.1 e.symm
 go_enter Tryz.func163,Tryz.ntmps163
 go_wp2_with fail
 refine HC.out.mono ?_
 rintro e w1 ⟨hk1,⟨r,σ1,hx1,rfl,hr1⟩ | ⟨f,hx1,b,hbb,rfl,hcell⟩⟩
 rotate_left
 ·exact Qb (Qt.throws (hk1.mono (by simp)) (Qa.refl [] _) (Q4N (Ql (Qv hx1))) hbb hcell)
 have hn1:=hn.keeps hk1 hqS
 have HK1:=Hid.mk (hk1.mono (M':=[A.S,A.P]) (by simp))
 clear hk1 hn
 go_wp2_with fail
 refine (Q8a _ _ hn1).mono ?_
 rintro e w2 ⟨hk2,⟨l',o,hx2,rfl,rfl,hn2⟩ | ⟨f,hx2,b,hbb,rfl,hcell⟩⟩
 rotate_left
 ·exact Qb (Qt.throws (HK1.out.trans (hk2.mono (by simp))) HK1.out (Q4N ((Qh (Qj hx1)).trans (Ql (Q4v hx2)))) hbb hcell)
 have HR2:=Hid.mk (hr1.withProgs hk2 hn2)
 have HK2:=Hid.mk (HK1.out.trans (hk2.mono (M':=[A.S,A.P]) (by simp)))
 clear hn1 hk2 hn2
 go_wp2
 go_ret
 exact Qt.ok (a:=r.1) HK2.out (Q6K ((Qh (Qj hx1)).trans (Qh (Q4u hx2)))) rfl HR2.out
def Q2J (text:ByteArray):PM Int:=bnd (QS text [61]) fun _=>bnd (Q2s text (Q14 0 4294967295)) fun n=>bnd (QS text [59]) fun _=>ret n
theorem QcN {A:Ad} {text:ByteArray} {σ:St} {w:World} (h:Rd A text σ w) :
  Calls Tryz.prog 138 #[.pointer (some ⟨A.R,0,none⟩),.map (some A.P)] w (Qt [A.S,A.P] A text w (Q2J text σ) intV):=by
 go_enter Tryz.func138,Tryz.ntmps138
 go_wp2_with fail
 refine (Q3E _ h).mono ?_
 rintro e w1 ⟨hk1,⟨x1,σ1,hx1,rfl,hr1⟩ | ⟨f,hx1,b,hbb,rfl,hcell⟩⟩
 rotate_left
 ·exact Qb (Qt.throws (hk1.mono (by simp)) (Qa.refl [] _) (Qq hx1) hbb hcell)
 have hK1:=hk1.mono (M':=[A.S,A.P]) (by simp)
 clear hk1
 go_wp2_with fail
 refine (Q2R _ _ _).mono ?_
 rintro e w2 ⟨v,rfl,hb2,hfit⟩
 have hf2:=hfit A.X hr1.old
 have hr2:=hr1.below hb2
 have hK2:=hK1.trans (Qa.of_below _ hb2)
 clear hfit hb2 hK1
 go_wp2_with fail
 refine (QcM hr2 hf2).mono ?_
 rintro e w3 ⟨hk3,⟨n,σ3,hx3,rfl,hr3⟩ | ⟨f,hx3,b,hbb,rfl,hcell⟩⟩
 rotate_left
 ·exact Qb (Qt.throws (hK2.trans hk3) hK2 ((Qg hx1).trans (Qq hx3)) hbb hcell)
 have hK3:=hK2.trans hk3
 clear hf2 hK2 hk3
 dsimp only [intV]
 go_wp2_with fail
 refine (Q3E _ hr3).mono ?_
 rintro e w4 ⟨hk4,⟨x4,σ4,hx4,rfl,hr4⟩ | ⟨f,hx4,b,hbb,rfl,hcell⟩⟩
 rotate_left
 ·exact Qb (Qt.throws (hK3.trans (hk4.mono (by simp))) hK3 ((Qg hx1).trans ((Qg hx3).trans (Qq hx4))) hbb hcell)
 go_wp2
 go_ret
 exact Qt.ok (a:=n) (hK3.trans (hk4.mono (by simp))) ((Qg hx1).trans ((Qg hx3).trans (Qg hx4))) rfl hr4
theorem Qek {A' A:Ad} (hA:Same A' A) {text:ByteArray} {σ:St} {w:World} (h:Rd A' text σ w) :
  Calls Tryz.prog 138 #[.pointer (some ⟨A.R,0,none⟩),.map (some A.P)] w (Qt [A.S,A.P] A' text w (Q2J text σ) intV):=by
 have:=QcN h
 rw [hA.1,hA.2.1,hA.2.2.2] at this
 exact this
theorem QcO:(Tryz.prog.info? 296).map (fun i=>(i.zero,i.size,i.bytes))=some (some (.agg #[.string ⟨#[]⟩,.int .i64 0,.slice none 0 0,.int .i64 0]),4,56):=by kernel_rfl
def Q1V (text:ByteArray):PX (List QN×UnSt) Unit:=fun p σ=>match Q20 text p.2 σ with
 | .ok (d,s',σ')=>.ok ((),(p.1++[d],s'),σ')
 | .error f=>.error f
theorem Q8Z {text:ByteArray} {ps:List QN} {s s':UnSt} {σ σ':St} {d:QN} (h:Q20 text s σ = .ok (d,s',σ')):Q1V text (ps,s) σ = .ok ((),(ps++[d],s'),σ'):=by simp only [Q1V,h]
theorem Q8e {text:ByteArray} {ps:List QN} {s:UnSt} {σ:St} {f:Mar.Fault} (h:Q20 text s σ = .error f):Q1V text (ps,s) σ = .error f:=by simp only [Q1V,h]
structure PgAd where
 D:Nat
 db:Nat
 rb:Nat
 cb:Nat
 nb:Nat
 q:Nat
 nq:Nat
 bx:Nat
abbrev PgAd.E (a:PgAd):List (Nat×Obj):=[(a.db,.cells #[.pointer (some ⟨a.D,0,none⟩)] 186),(a.cb,.cells #[(Qr a.q a.bx).v] 270),(a.nb,.cells #[.map (some a.nq)] 105)]
abbrev verC (p:QN×Value):List Value:=Q3D p.1.t p.1.at'++[p.2,.int .i64 p.1.num]
def pgJ (A:Ad) (text:ByteArray) (w:World) (a:PgAd) (n:List UInt8×Nat) (k:Nat) (Y:List Nat) (p:List QN×UnSt) (σ:St) (u:World):Prop:=p.1.length=k ∧
 ∃ (sl:Value) (css:List Value) (bs:List (Nat×Obj)),BMid A text w 220 296 4 a.D a.q a.nq a.E n p.1.length ((p.1.zip css).flatMap verC) ((Qr a.q a.bx).bs++bs) Y p.2.1 p.2.2 sl σ u∧css.length=p.1.length ∧
  ∀ i (h:i < p.1.length) (h':i < css.length),Q0j bs 342 css[i] p.1[i].procs.length (p.1[i].procs.flatMap Q3U)
theorem Qel {A' A:Ad} (hA:Same A' A) {text:ByteArray} {σ:St} {q bx nq:Nat} {t:List (List UInt8)} {l:List (Int×Int)} {w:World} (h:Rd A' text σ w) (hq:Free A' q) (hn:Free A' nq) (hne:q≠nq) (hs:Q0m q t w) (hcl:Held A'.X (Qr q bx).bs w) (hl:QV nq l w) :
  Calls Tryz.prog 137 #[.pointer (some ⟨A.R,0,none⟩),(Qr q bx).v,.map (some nq)] w (Q4Z A' text w q nq (Q20 text (t,l) σ)):=by
 have:=QcL h hq hn hne hs hcl hl
 rw [hA.1] at this
 exact this
theorem QhH (d:QN) (a:Option Addr) (b c:Nat):∀ u∈verC (d,.slice a b c),u.oneCell'=true:=by
 intro u hu
 simp at hu
 rcases hu with rfl | rfl | rfl | rfl<;>rfl
theorem Qbx {A:Ad} {text:ByteArray} {w u:World} {a:PgAd} {n:List UInt8×Nat} {k:Nat} {Y:List Nat} {ps:List QN} {s:UnSt} {σ σ0:St} (h0:Rd A text σ0 w) (hrb:w.heap[a.rb]? = some (.cells #[.pointer (some ⟨A.R,0,none⟩)] 101)) (hrf:a.rb ∉ [A.R,A.S,A.N]) (hk:k < 1000) (h:pgJ A text w a n k Y (ps,s) σ u) :
  Calls Tryz.prog 136 #[.pointer (some ⟨a.db,0,none⟩),.pointer (some ⟨a.rb,0,none⟩),.pointer (some ⟨a.cb,0,none⟩),.pointer (some ⟨a.nb,0,none⟩)] u (Q10 A w (pgJ A text w a n (k + 1)) (Q1V text (ps,s) σ)):=by
 obtain ⟨hlen,sl,css,bs,hm,hcl,hea⟩:=h
 obtain ⟨t,l⟩:=s
 dsimp only at hlen hm hcl hea
 have HL:=Hid.mk hlen
 have HCL:=Hid.mk hcl
 have HEA:=Hid.mk hea
 have hds:ps.length < 1000:=by omega
 clear hlen hcl hea
 obtain ⟨ad,cap,rfl⟩:=hm.slice
 obtain ⟨i0,hi0,hz0,hz1,hz2⟩:=info_parts QcO
 have hlr:=Qc hrb
 have hvr:=fun (v:World) (hk:Qa [A.R,A.S,A.N] w v)=>QD ((hk.block _ hlr hrf).trans hrb)
 have HV:=Hid.mk hvr
 obtain ⟨x0,x1,x2,x3⟩:=Q2I hm.box
 have r0:=hvr _ hm.kp
 have d0:=QD (hm.fix (a.db,.cells #[.pointer (some ⟨a.D,0,none⟩)] 186) (by simp [PgAd.E]))
 have c0:=QD (hm.fix (a.cb,.cells #[(Qr a.q a.bx).v] 270) (by simp [PgAd.E]))
 have n0:=QD (hm.fix (a.nb,.cells #[.map (some a.nq)] 105) (by simp [PgAd.E]))
 have hbd:Below u.heap.size u u.drew:=(Below.refl _ _).drew
 have MD:=Hid.mk (hm.below h0 hbd)
 have HC:=Hid.mk (Qel (bx:=a.bx) (Same.plus A Y) MD.out.rd (MD.out.free h0 (MD.out.mine a.q (by simp))) (MD.out.free h0 (MD.out.mine a.nq (by simp))) MD.out.apart.2.2.1 MD.out.set (fun p hp=>MD.out.held p (List.mem_append_left _ hp)) MD.out.nums)
 have hl1:ps.length + 1≤maxLen:=by unfold maxLen;omega
 have hl2:(ps.length + 1) * 56≤140737488355328:=by omega
 have hz3:(Value.agg #[.string ⟨#[]⟩,.int .i64 0,.slice none 0 0,.int .i64 0]).cells.size=4:=by decide
 clear hm hvr
 go_enter Tryz.func136,Tryz.ntmps136
 go_wp2_with fail
 refine QH (fun w'=>w'.cell? ⟨a.D,2,none⟩=some (.slice ad ps.length cap)∧w'.cell? ⟨a.db,0,none⟩=some (.pointer (some ⟨a.D,0,none⟩))∧w'.cell? ⟨a.rb,0,none⟩=some (.pointer (some ⟨A.R,0,none⟩))∧w'.cell? ⟨a.cb,0,none⟩=some (Qr a.q a.bx).v∧w'.cell? ⟨a.nb,0,none⟩=some (.map (some a.nq))) (L:=13) (by kernel_rfl) rfl (by kernel_rfl) (by kernel_rfl) ?_ (fun hHeld=>?_)
 ·go_keep
 refine tk (i:=0) (v:=?_) rfl (by kernel_rfl) (fun _ _ _ h=>h) (by rfl) (by assumption) ?_ ?_
 rotate_left
 ·intro w hSw;(try dsimp only at hSw);go_simp;(try with_reducible rfl)
 (try simp only [Qd,Qe,List.set])
 refine tk (i:=1) (v:=?_) rfl (by kernel_rfl) (fun _ _ _ h=>h) (by rfl) (by assumption) ?_ ?_
 rotate_left
 ·intro w hSw;(try dsimp only at hSw);go_simp;(try with_reducible rfl)
 (try simp only [Qd,Qe,List.set])
 refine tk (i:=2) (v:=?_) rfl (by kernel_rfl) (fun _ _ _ h=>h) (by rfl) (by assumption) ?_ ?_
 rotate_left
 ·intro w hSw;(try dsimp only at hSw);go_simp;(try with_reducible rfl)
 (try simp only [Qd,Qe,List.set])
 refine tk (i:=3) (v:=?_) rfl (by kernel_rfl) (fun _ _ _ h=>h) (by rfl) (by assumption) ?_ ?_
 rotate_left
 ·intro w hSw;(try dsimp only at hSw);go_simp;(try with_reducible rfl)
 (try simp only [Qd,Qe,List.set])
 refine tk (i:=4) (v:=?_) rfl (by kernel_rfl) (fun _ _ _ h=>h) (by rfl) (by assumption) ?_ ?_
 rotate_left
 ·intro w hSw;(try dsimp only at hSw);go_simp;(try with_reducible rfl)
 (try simp only [Qd,Qe,List.set])
 refine tk (i:=5) (v:=?_) rfl (by kernel_rfl) (fun _ _ _ h=>h) (by rfl) (by assumption) ?_ ?_
 rotate_left
 ·intro w hSw;(try dsimp only at hSw);go_simp;(try with_reducible rfl)
 (try simp only [Qd,Qe,List.set])
 refine tk (i:=6) (v:=?_) rfl (by kernel_rfl) (fun _ _ _ h=>h) (by rfl) (by assumption) ?_ ?_
 rotate_left
 ·intro w hSw;(try dsimp only at hSw);go_simp;(try with_reducible rfl)
 (try simp only [Qd,Qe,List.set])
 refine tk (i:=7) (v:=?_) rfl (by kernel_rfl) (fun _ _ _ h=>h) (by rfl) (by assumption) ?_ ?_
 rotate_left
 ·intro w hSw;(try dsimp only at hSw);go_simp;(try with_reducible rfl)
 (try simp only [Qd,Qe,List.set])
 refine wpAnyH_ready (rs:=[8]) (by kernel_rfl) (by simp) ?_
 refine AllReadyH.cons rfl (fun K hK=>?_) AllReadyH.nil
 (go_simp;go_at_call 137;refine HC.out.mono ?_;rintro e w5 ⟨hk5,⟨d,t5,l5,σ5,cv,bs5,hx5,rfl,hr5,hs5,hn5,hsl5,hh5⟩ | ⟨f,hx5,b,hbb,rfl,hcell⟩⟩;rotate_left;exact Qb (Q10.throws (MD.out.kp.young hk5 (by intro x hx;have:=MD.out.new _ (MD.out.mine a.q (by simp));have:=MD.out.new _ (MD.out.mine a.nq (by simp));simp [Ad.plus] at hx ⊢;omega)) MD.out.kp (Q8e hx5) hbb hcell);have M5:=Hid.mk (MD.out.turn h0 hk5 (by intro x hx;simpa [Ad.plus] using hx) hr5 hs5 hn5);obtain ⟨ca,cn,cc,rfl⟩:∃ a b c,cv = .slice a b c:=(by rcases hsl5 with ⟨rfl,_⟩ | ⟨g,cap,cur,rfl,_⟩<;>exact ⟨_,_,_,rfl⟩);have HH5:=Hid.mk hh5;have HS5:=Hid.mk hsl5;clear hh5 hsl5;obtain ⟨y0,y1,y2,y3⟩:=Q2I M5.out.box;have r5:=HV.out _ M5.out.kp;have hd5:=M5.out.fix (a.db,.cells #[.pointer (some ⟨a.D,0,none⟩)] 186) (by simp [PgAd.E]);have hc5:=M5.out.fix (a.cb,.cells #[(Qr a.q a.bx).v] 270) (by simp [PgAd.E]);have hn5':=M5.out.fix (a.nb,.cells #[.map (some a.nq)] 105) (by simp [PgAd.E]);have d5:=QD hd5;have c5:=QD hc5;have n5:=QD hn5';have lb5:=Qc M5.out.box;have lr5:=Nat.lt_of_lt_of_le hlr M5.out.kp.size;have ld5:=Qc hd5;have lc5:=Qc hc5;have ln5:=Qc hn5';have hwl:=M5.out.kp.size;clear hd5 hc5 hn5')
 refine hK.out _ _ ?_ (fun hHeld=>?_)
 ·go_keep
 clear hK K
 (try simp only [Qd,Qe,List.set])
 refine wpAnyH_ready (rs:=[9]) (by kernel_rfl) (by simp) ?_
 refine AllReadyH.cons rfl (fun K hK=>?_) AllReadyH.nil
 go_simp
 refine hK.out _ _ ?_ (fun hHeld=>?_)
 ·go_keep
 clear hK K
 (try simp only [Qd,Qe,List.set])
 refine wpAnyH_ready (rs:=[10]) (by kernel_rfl) (by simp) ?_
 refine AllReadyH.cons rfl (fun K hK=>?_) AllReadyH.nil
 (refine step_append_lies _ (by rfl) _ _ _ (by rfl) w.heap.size 296 i0 _ 4 56 Tryz.underlying218 hi0 hz0 hz1 hz2 hz3 (by omega) (.slice ad ps.length cap) ps.length ((ps.zip css).flatMap verC) (by rfl) (M5.out.rowAt _) ⟨w5.heap.size,0,none⟩ 1 1 (verC (d,.slice ca cn cc)) (by rfl) (by rfl) (World.news_of_block (cs:=(verC (d,.slice ca cn cc)).toArray) (t:=296) (fr:=(0,0)) (heap_alloc_new w5 _)) (QhH d ca cn cc) (by omega) hl1 hl2 (by simp;omega) (w5.heap.size + 1) (by simp) ?_;intro g cap' w6 hown6 hgrow hat hlt;obtain ⟨z0,z1,z2,z3⟩:=Q2I (M5.out.boxAt hgrow);have hfz:=Q6u (M5.out.boxAt hgrow);have d6:=QD (M5.out.fixAt hgrow (p:=(a.db,.cells #[.pointer (some ⟨a.D,0,none⟩)] 186)) (by simp [PgAd.E]));have c6:=QD (M5.out.fixAt hgrow (p:=(a.cb,.cells #[(Qr a.q a.bx).v] 270)) (by simp [PgAd.E]));have n6:=QD (M5.out.fixAt hgrow (p:=(a.nb,.cells #[.map (some a.nq)] 105)) (by simp [PgAd.E]));have r6:w6.cell? ⟨a.rb,0,none⟩=some (.pointer (some ⟨A.R,0,none⟩)):=HV.out _ (((M5.out.kp.alloc _)).young (Q0t hgrow) (by intro x hx;have h1:=M5.out.own x (by simpa using hx);exact Or.inr (M5.out.new _ h1.1))))
 refine hK.out _ _ ?_ (fun hHeld=>?_)
 ·go_keep
 clear hK K
 (try simp only [Qd,Qe,List.set])
 refine tk (i:=11) (v:=?_) rfl (by kernel_rfl) (fun _ _ _ h=>h) (by rfl) (by assumption) ?_ ?_
 rotate_left
 ·intro w hSw;(try dsimp only at hSw);go_simp;(try with_reducible rfl)
 (try simp only [Qd,Qe,List.set])
 refine tk (i:=12) (v:=?_) rfl (by kernel_rfl) (fun _ _ _ h=>h) (by rfl) (by assumption) ?_ ?_
 rotate_left
 ·intro w hSw;(try dsimp only at hSw);go_simp;(try with_reducible rfl)
 (try simp only [Qd,Qe,List.set])
 refine wpAnyH_done (by kernel_rfl) ?_ _
 refine Q02 rfl (fun K hK=>?_)
 go_simp
 refine hK.out _ _ ?_
 clear hK K
 (try simp only [Qd,Qe,List.set])
 have M6:=BMid.step (bs':=bs5) h0 M5.out HH5.out ((Below.refl w5.heap.size w5).alloc (Nat.le_refl _) _) hown6 hgrow (by simpa using hat) hlt
 go_wp2
 go_end0
 have hcl:=HCL.out
 refine Or.inl ⟨g :: Y,(ps++[d],(t5,l5)),σ5,Q8Z hx5,rfl,by simp [HL.out],.slice (some ⟨g,0,none⟩) (ps.length + 1) cap',css++[.slice ca cn cc],bs++bs5,?_,by simp [hcl],?_⟩
 ·have e1:((ps++[d]).zip (css++[.slice ca cn cc])).flatMap verC=(ps.zip css).flatMap verC++verC (d,.slice ca cn cc):=by
   rw [List.zip_append hcl.symm,List.flatMap_append]
   simp
  have e2:(ps++[d]).length=ps.length + 1:=by simp
  rw [List.append_assoc (Qr a.q a.bx).bs bs bs5] at M6
  dsimp only
  rw [e1,e2]
  exact M6
 ·intro i h1 h2
  dsimp only at h1 ⊢
  by_cases hi:i < ps.length
  ·have hi':i < css.length:=by omega
   rw [List.getElem_append_left hi',List.getElem_append_left hi]
   exact (HEA.out i hi hi').mono (fun p hp=>List.mem_append_left _ hp)
  ·have hi':i=ps.length:=by simp at h1;omega
   rw [List.getElem_append_right (by omega),List.getElem_append_right (by omega)]
   have e1:i - ps.length=0:=by omega
   have e3:i - css.length=0:=by omega
   simp only [e1,e3,List.getElem_cons_zero]
   exact HS5.out.mono (fun p hp=>List.mem_append_right _ hp)
theorem Q90 (args:Array Value) (u:World):(callFunc 136 args).run Tryz.prog u = .ok (.enter 136 args) u:=by kernel_rfl
def Qiy {A:Ad} {text:ByteArray} {σ0:St} {w:World} (h0:Rd A text σ0 w) (a:PgAd) (hrb:w.heap[a.rb]? = some (.cells #[.pointer (some ⟨A.R,0,none⟩)] 101)) (hrf:a.rb ∉ [A.R,A.S,A.N]) (n:List UInt8×Nat):One (List QN×UnSt) A text w 4 where
 f:=136
 cap:=#[.pointer (some ⟨a.db,0,none⟩),.pointer (some ⟨a.rb,0,none⟩),.pointer (some ⟨a.cb,0,none⟩),.pointer (some ⟨a.nb,0,none⟩)]
 run:=Q1V text
 J:=pgJ A text w a n
 enters:=Q90
 rd:=by rintro _ _ _ _ _ ⟨_,_,_,_,m,_⟩;exact m.rd
 kp:=by rintro _ _ _ _ _ ⟨_,_,_,_,m,_⟩;exact m.kp
 scan:=by rintro _ _ _ _ _ _ _ ⟨h,sl,css,bs,m,h2,h3⟩ hk hr;exact ⟨h,sl,css,bs,m.scan h0 hk hr,h2,h3⟩
 call:=by
  intro k Y t σ u hk h
  exact Qbx h0 hrb hrf (by omega) h
def Q4A (text:ByteArray) (n:List UInt8×Nat):PM DefL:=bnd (runx (block text 4 (Q1V text)) ([],([],[]))) fun p=>bnd (Q2J text) fun k=>ret (.prog n.1 n.2 p.1 k)
def Q1C (text:ByteArray) (at':Nat):PM DefL:=bnd (fun σ=>Q0P σ.progs.length 4 at' σ) fun _=>bnd (Q1j text) (Q4A text)
theorem QgP:∀ ps:List (QN×Value),(ps.flatMap verC).length=ps.length * 4:=by
 intro ps
 induction ps with
 | nil=>rfl
 | cons d ds ih=>simp only [List.flatMap_cons,List.length_append,List.length_cons,ih];simp;omega
theorem QcP {A:Ad} {text:ByteArray} {σ:St} (at':Nat) {w:World} (h:Rd A text σ w) :
  Calls Tryz.prog 91 #[.pointer (some ⟨A.R,0,none⟩),.int .i64 at'] w (QC [A.R,A.S,A.N,A.P] A text w (Q1C text at' σ)):=by
 have hmf:∀ (fn:Fn) (first cap:Array Value) (w:World),(Instr.makeFunc fn first cap).run Tryz.prog w = .ok (.func fn first cap) w:=fun _ _ _ _=>rfl
 have hmm:∀ (t:TypeId) (w:World),(Instr.makeMap t none).run Tryz.prog w = .ok (.map (some w.heap.size)) (w.alloc (.map #[] 0)):=fun _ _=>rfl
 have hr0:=h.own (.cells #[.pointer (some ⟨A.R,0,none⟩)] 101)
 have hv0:=Qi (w:=w) (o:=.cells #[.pointer (some ⟨A.R,0,none⟩)] 101) rfl
 obtain ⟨l1,l2,l3,l4⟩:=h.lt
 have c0:=QD hv0
 have hc4:(w.alloc (.cells #[.pointer (some ⟨A.R,0,none⟩)] 101)).cell? ⟨A.R,4,none⟩=some (.map (some A.P)):=hr0.cells.2.2.2.2.1
 have hnl:=Qbu (show QV A.P σ.progs (w.alloc (.cells #[.pointer (some ⟨A.R,0,none⟩)] 101)) from hr0.pr)
 go_enter Tryz.func91,Tryz.ntmps91
 go_wp2_with fail
 by_cases hfi:4≤σ.progs.length
 ·refine (Q3k _ _ _ _ (by omega)).mono ?_
  rintro e w1 ⟨⟨b,hbb,rfl,hcell⟩,hb⟩
  exact Qb (QC.throws (f:=⟨5,at'⟩) (((Qa.refl _ w).alloc _).trans (Qa.of_below _ hb)) ((Qa.refl [] w).alloc _) (Qq (show Q0P σ.progs.length 4 at' σ = _ from if_pos hfi)) hbb hcell)
 have hx1:(fun σ:St=>Q0P σ.progs.length 4 at' σ) σ = .ok ((),σ):=if_neg hfi
 refine (Q4t _ _ _ _ (by omega)).mono ?_
 rintro e w1 ⟨rfl,rfl⟩
 go_wp2_with fail
 refine (Q8T (Same.add A _) hr0).mono ?_
 rintro e w2 ⟨hk2,⟨n,σ2,hx2,rfl,hr2⟩ | ⟨f,hx2,b,hbb,rfl,hcell⟩⟩
 rotate_left
 ·exact Qb (QC.throws (((Qa.refl _ w).alloc _).trans (hk2.mono (by simp))) ((Qa.refl [] w).alloc _) ((Qg hx1).trans (Qq hx2)) hbb hcell)
 have hK2:Qa [A.R,A.S,A.N] w w2:=((Qa.refl _ w).alloc _).trans (hk2.mono (by simp))
 have hrb2:=(hk2.block _ (Qc hv0) (by simp;omega)).trans hv0
 have lrb:=Qc hrb2
 have E2:Hid (Q1C text at' σ = Q4A text n σ2):=(Qg hx1).trans (Qg hx2)
 have hrf:w.heap.size ∉ [A.R,A.S,A.N]:=by simp;omega
 clear hk2 hv0 c0 hc4 hnl hx1 hx2 hfi hr0
 dsimp only [Q1x]
 go_wp2_with fail
 obtain ⟨W3,hW3⟩:∃ W3,W3=(w2.alloc (.cells #[.string ⟨n.1.toArray⟩,.int .i64 n.2,.slice none 0 0,.int .i64 0] 220)).alloc (.cells #[.pointer (some ⟨w2.heap.size,0,none⟩)] 186):=⟨_,rfl⟩
 rw [← hW3]
 have hs1:(w2.alloc (.cells #[.string ⟨n.1.toArray⟩,.int .i64 n.2,.slice none 0 0,.int .i64 0] 220)).heap.size=w2.heap.size + 1:=by simp
 have hr3:=(hr2.own (.cells #[.string ⟨n.1.toArray⟩,.int .i64 n.2,.slice none 0 0,.int .i64 0] 220)).own (.cells #[.pointer (some ⟨w2.heap.size,0,none⟩)] 186)
 rw [hs1,← hW3] at hr3
 have hs3:W3.heap.size=w2.heap.size + 2:=by rw [hW3];simp
 have hk3:Qa [] w2 W3:=by rw [hW3];exact ((Qa.refl [] w2).alloc _).alloc _
 have hD3:W3.heap[w2.heap.size]? = some (.cells #[.string ⟨n.1.toArray⟩,.int .i64 n.2,.slice none 0 0,.int .i64 0] 220):=by
  rw [hW3]
  exact (((Qa.refl [] _).alloc _).block _ (by rw [hs1];omega) (by simp)).trans (Qi rfl)
 have hd3:W3.heap[w2.heap.size + 1]? = some (.cells #[.pointer (some ⟨w2.heap.size,0,none⟩)] 186):=by
  rw [hW3]
  exact Qi hs1.symm
 clear hW3 hs1
 refine (Q61 _).mono ?_
 rintro e w5 ⟨q,bx,rfl,hq,hbx,hqb,hI,hb5,hx5⟩
 dsimp only [Q0e.v,Qr]
 have hlq:q < w5.heap.size:=by
  obtain ⟨_,_,_,hm⟩:=id hI
  exact Qc hm
 have hlx:=Qc hx5
 have hz5:=hb5.size
 have hk5:=Qa.of_below [] hb5
 have hr5:=hr3.take hb5 hq hlq
 have hD5:=(hk5.block _ (Qc hD3) (by simp)).trans hD3
 have hd5:=(hk5.block _ (Qc hd3) (by simp)).trans hd3
 obtain ⟨W6,hW6⟩:∃ W6,W6=((w5.alloc (.map #[] 0)).alloc (.cells #[(Qr q bx).v] 270)).alloc (.cells #[.map (some w5.heap.size)] 105):=⟨_,rfl⟩
 have hs5:(w5.alloc (.map #[] 0)).heap.size=w5.heap.size + 1:=by simp
 have hs6:((w5.alloc (.map #[] 0)).alloc (.cells #[(Qr q bx).v] 270)).heap.size=w5.heap.size + 2:=by simp
 have hr6:=((hr5.own (.map #[] 0)).own (.cells #[(Qr q bx).v] 270)).own (.cells #[.map (some w5.heap.size)] 105)
 rw [hs5,hs6,← hW6] at hr6
 have k56:Qa [] w5 W6:=by rw [hW6];exact (((Qa.refl [] w5).alloc _).alloc _).alloc _
 have hm6:W6.heap[w5.heap.size]? = some (.map #[] 0):=by
  rw [hW6]
  exact ((((Qa.refl [] _).alloc _).alloc _).block _ (by rw [hs5];omega) (by simp)).trans (Qi rfl)
 have hc6:W6.heap[w5.heap.size + 1]? = some (.cells #[(Qr q bx).v] 270):=by
  rw [hW6]
  exact (((Qa.refl [] _).alloc _).block _ (by rw [hs6];omega) (by simp)).trans (Qi hs5.symm)
 have hn6:W6.heap[w5.heap.size + 2]? = some (.cells #[.map (some w5.heap.size)] 105):=by
  rw [hW6]
  exact Qi hs6.symm
 have kb6:Qa [] w2 W6:=(hk3.trans hk5).trans k56
 have M6:Hid (BMid (A.plus [w.heap.size]) text w2 220 296 4 w2.heap.size q w5.heap.size [(w2.heap.size + 1,.cells #[.pointer (some ⟨w2.heap.size,0,none⟩)] 186),(w5.heap.size + 1,.cells #[(Qr q bx).v] 270),(w5.heap.size + 2,.cells #[.map (some w5.heap.size)] 105)] n 0 [] ((Qr q bx).bs++[]) [w5.heap.size + 2,w5.heap.size + 1,w5.heap.size,q,w2.heap.size + 1,w2.heap.size] [] [] (.slice none 0 0) σ2 W6):=by
  refine ⟨kb6.mono (by simp),hr6,?_,?_,?_,(by intro g hg;cases hg),?_,hm6,(k56.block _ (Qc hD5) (by simp)).trans hD5,?_,⟨rfl,Or.inl ⟨rfl,rfl⟩⟩,?_⟩
  ·intro b hb
   simp at hb ⊢
   omega
  ·simp
   omega
  ·intro y hy
   simp at hy
   omega
  ·have hI2:Q0m q [] w5:=hI
   exact hI2.keeps k56 (by simp)
  ·intro p hp
   simp only [List.mem_cons,List.not_mem_nil,or_false] at hp
   rcases hp with rfl | rfl | rfl
   ·exact (k56.block _ (Qc hd5) (by simp)).trans hd5
   ·exact hc6
   ·exact hn6
  ·intro p hp
   simp only [Qr,List.append_nil,List.mem_singleton] at hp
   subst hp
   refine ⟨(k56.block _ hlx (by simp)).trans hx5,?_⟩
   simp [Ad.plus]
   refine ⟨by omega,by omega,by omega,by omega,by omega,by omega,by omega,?_⟩
   intro hm
   have:=h.old _ hm
   omega
 have rb6:=QD ((kb6.block _ lrb (by simp)).trans hrb2)
 rw [hW6] at rb6
 clear hr6 hr5 hm6 hc6 hn6 hI hx5 hb5 hk5 k56 hlq hlx hq hbx hqb hD3 hd3 hD5 hd5 hr3 hk3
 dsimp only [Q0e.v,Qr] at rb6
 go_wp2_with fail
 rw [show ((w5.alloc (.map #[] 0)).alloc (.cells #[.func (.func 164) #[] #[.pointer (some ⟨bx,0,none⟩)]] 270)).alloc (.cells #[.map (some w5.heap.size)] 105)=W6 from hW6.symm]
 have HJ:pgJ (A.plus [w.heap.size]) text w2 ⟨w2.heap.size,w2.heap.size + 1,w.heap.size,w5.heap.size + 1,w5.heap.size + 2,q,w5.heap.size,bx⟩ n 0 [w5.heap.size + 2,w5.heap.size + 1,w5.heap.size,q,w2.heap.size + 1,w2.heap.size] ([],([],[])) σ2 W6:=⟨rfl,_,[],[],M6.out,rfl,by intro i h;cases h⟩
 refine (Q7l 4 (Qiy (A:=A.plus [w.heap.size]) hr2 ⟨w2.heap.size,w2.heap.size + 1,w.heap.size,w5.heap.size + 1,w5.heap.size + 2,q,w5.heap.size,bx⟩ hrb2 hrf n) (by omega) HJ).mono ?_
 rintro e w6 (⟨Y6,⟨ps,t6,l6⟩,σ6,hx6,rfl,k6,hk6,hlen,sl,css,bs,hM6,hcl6,hea6⟩ | ⟨f,hx6,hk6,b,hbb,rfl,hcell⟩)
 rotate_left
 ·exact Qb (QC.throws ((hK2.mono (by simp)).trans (hk6.mono (by simp [Ad.plus]))) hK2 (E2.out.trans (Qq (Q5D hx6))) hbb hcell)
 dsimp only at hlen hM6 hcl6 hea6
 have hps:ps.length≤4:=by omega
 clear hlen hk6
 have hA6:Same ((A.plus [w.heap.size]).plus Y6) A:=⟨rfl,rfl,rfl,rfl⟩
 have hK6:Qa [A.R,A.S,A.N] w2 w6:=hM6.kp
 have rb7:=QD ((hK6.block _ lrb hrf).trans hrb2)
 have db7:=QD (hM6.fix (w2.heap.size + 1,.cells #[.pointer (some ⟨w2.heap.size,0,none⟩)] 186) (by simp [PgAd.E]))
 have R7:w6.cell? ⟨A.R,4,none⟩=some (.map (some A.P)):=hM6.rd.cells.2.2.2.2.1
 have HM6:=Hid.mk hM6
 have HCL:=Hid.mk hcl6
 have HEA:=Hid.mk hea6
 have hbd:Below w6.heap.size w6 w6.drew:=(Below.refl _ _).drew
 have HC:=Hid.mk (Qek hA6 (hM6.rd.below hbd))
 clear M6 HJ rb6 hW6 kb6 hs5 hs6 hcl6 hea6
 go_wp2_with fail
 have hne1:¬ w2.heap.size=A.R:=by have:=hK2.size;omega
 have hne2:¬ w2.heap.size=w.heap.size:=by omega
 have hne3:¬ w2.heap.size=w2.heap.size + 1:=by omega
 have hat7:∀ w7,Qa [A.S,A.P] w6.drew w7→w7.cell? ⟨w2.heap.size + 1,0,none⟩=some (.pointer (some ⟨w2.heap.size,0,none⟩))∧w7.cell? ⟨w.heap.size,0,none⟩=some (.pointer (some ⟨A.R,0,none⟩)) ∧
   w7.heap[w2.heap.size]? = some (.cells #[.string ⟨n.1.toArray⟩,.int .i64 n.2,sl,.int .i64 0] 220):=by
  intro w7 hk7
  have hk7':=((Qa.refl _ w6).drew).trans hk7
  have b1:=hM6.fix (w2.heap.size + 1,.cells #[.pointer (some ⟨w2.heap.size,0,none⟩)] 186) (by simp [PgAd.E])
  have b2:=(hK6.block _ lrb hrf).trans hrb2
  exact ⟨QD ((hk7'.block _ (Qc b1) (by simp;omega)).trans b1),QD ((hk7'.block _ (Qc b2) (by simp;omega)).trans b2),(hk7'.block _ (Qc hM6.box) (by simp;omega)).trans hM6.box⟩
 have H7:=Hid.mk hat7
 clear hat7 hM6
 go_region_held2 (fun w'=>w'.cell? ⟨w2.heap.size + 1,0,none⟩=some (.pointer (some ⟨w2.heap.size,0,none⟩))∧w'.cell? ⟨w.heap.size,0,none⟩=some (.pointer (some ⟨A.R,0,none⟩))∧w'.cell? ⟨A.R,4,none⟩=some (.map (some A.P))) (go_keep)
  (first
   | (go_at_call 138;refine HC.out.mono ?_;rintro e w7 ⟨hk7,⟨k,σ7,hx7,rfl,hr7⟩ | ⟨f,hx7,b,hbb,rfl,hcell⟩⟩;rotate_left;exact Qb (QC.throws (((hK2.mono (by simp)).trans (hK6.mono (by simp))).trans (((Qa.refl _ w6).drew).trans (hk7.mono (by simp)))) (hK2.trans hK6) (E2.out.trans ((Qg (Q42 hx6)).trans (Qq hx7))) hbb hcell);obtain ⟨d7,b7,box7⟩:=H7.out w7 hk7;have R8:w7.cell? ⟨A.R,4,none⟩=some (.map (some A.P)):=hr7.cells.2.2.2.2.1;obtain ⟨v0,v1,v2,v3⟩:=Q2I box7;have hfv:=Q6u box7;have HK7:=Hid.mk (((Qa.refl [A.S,A.P] w6).drew).trans hk7);have HR7:=Hid.mk hr7;have HB7:=Hid.mk box7;clear hk7 hr7 box7;dsimp only [intV]))
 all_goals
  go_wp2
  go_ret
  have kf:=(Qa.refl [w2.heap.size] w7).setIn (p:=⟨w2.heap.size,3,none⟩) (by simp) (.int .i64 k)
  obtain ⟨bs',hsl,hbs⟩:=HM6.out.lies (by omega) (by rw [QgP,List.length_zip,HCL.out,Nat.min_self]) (by intro h;rw [List.length_eq_zero_iff.1 h];rfl)
  have hA3:w2.heap.size∈((A.plus [w.heap.size]).plus Y6).X:=List.mem_append_left _ (HM6.out.mine _ (by simp))
  have hrf7:=h.young hA6 HR7.out kf (by
   intro x hx
   simp only [List.mem_singleton] at hx
   subst hx
   exact ⟨by omega,hA3⟩)
  have hrA:=Rd.dropAll h.mine (Rd.dropAll (A:=A.plus [w.heap.size]) hr2.mine hrf7)
  have hbox:=QB (i:=3) HB7.out (.int .i64 k)
  have far:∀ b,w.heap.size≤b→b ∉ A.X:=fun b hb hm=>by have:=h.old _ hm;omega
  refine ⟨?_,Or.inl ⟨.prog n.1 n.2 ps k,σ7,w2.heap.size,(w2.heap.size,.cells #[.string ⟨n.1.toArray⟩,.int .i64 n.2,sl,.int .i64 k] 220) :: (bs'++bs),E2.out.trans ((Qg (Q42 hx6)).trans ((Qg hx7).trans rfl)),rfl,hrA,⟨sl,css,List.mem_cons_self,HCL.out,?_,?_⟩,?_⟩⟩
  ·refine (((hK2.mono (by simp)).trans (hK6.mono (by simp))).trans (HK7.out.mono (by simp))).young kf ?_
   intro x hx
   simp only [List.mem_singleton] at hx
   subst hx
   exact Or.inr (by omega)
  ·exact hsl.mono (fun p hp=>List.mem_cons_of_mem _ (List.mem_append_left _ hp))
  ·intro i h1 h2
   exact (HEA.out i h1 h2).mono (fun p hp=>List.mem_cons_of_mem _ (List.mem_append_right _ hp))
  ·intro p hp
   rcases List.mem_cons.1 hp with rfl | hp
   ·exact ⟨hbox,far _ (by dsimp only;omega)⟩
   ·rcases List.mem_append.1 hp with hp | hp
    ·obtain ⟨g1,g2,g3⟩:=hbs p hp
     have lg:=Qc g1
     exact ⟨(kf.block _ (Nat.lt_of_lt_of_le lg HK7.out.size) (by simp;exact g3)).trans ((HK7.out.block _ lg (by simp;omega)).trans g1),far _ (by omega)⟩
    ·obtain ⟨g1,g2⟩:=HM6.out.held p (List.mem_append_right _ hp)
     have lg:=Qc g1
     have hm:=HM6.out.rd.mine
     have n1:p.1≠A.S:=fun e=>g2 (e ▸ hm.2.1)
     have n2:p.1≠A.P:=fun e=>g2 (e ▸ hm.2.2.2)
     have n3:p.1≠w2.heap.size:=fun e=>g2 (e ▸ hA3)
     exact ⟨(kf.block _ (Nat.lt_of_lt_of_le lg HK7.out.size) (by simp;exact n3)).trans ((HK7.out.block _ lg (by simp;exact ⟨n1,n2⟩)).trans g1),fun hx=>g2 (List.mem_append_right _ (List.mem_append_right _ hx))⟩
theorem Q04 {α:Type} {T:TypeId} {m:PM α} {f:α→PM DefL} {σ σ':St} {b:DefL} (h:bnd m f σ = .ok (b,σ')) (hf:∀ a σ1,f a σ1 = .ok (b,σ')→defT b=T):defT b=T:=by
 cases hm:m σ with
 | error e=>rw [Qq hm] at h;cases h
 | ok p=>
  obtain ⟨a,σ1⟩:=p
  rw [Qg hm] at h
  exact hf a σ1 h
theorem Q4B {T:TypeId} {c b:DefL} {σ σ':St} (h:ret c σ = .ok (b,σ')) (hc:defT c=T):defT b=T:=by
 simp only [ret] at h
 cases h
 exact hc
theorem Qem {text:ByteArray} {at':Nat} {σ σ':St} {d:DefL} (h:constant text at' σ = .ok (d,σ')):defT d=176:=
 Q04 h fun _ _ h=>Q04 h fun _ _ h=>Q04 h fun _ _ h=>Q04 h fun _ _ h=>Q04 h fun _ _ h=>Q4B h rfl
theorem Qby {text:ByteArray} {at':Nat} {σ σ':St} {d:DefL} (h:typedef text at' σ = .ok (d,σ')):defT d=178:=
 Q04 h fun _ _ h=>Q04 h fun _ _ h=>Q04 h fun _ _ h=>Q4B h rfl
theorem Qbz {text:ByteArray} {n:List UInt8×Nat}:∀ (k:Nat) (ms:List (List UInt8×Nat×Int)) (l:List (Int×Int)) (σ σ':St) (d:DefL),Q0N text n k ms l σ = .ok (d,σ')→defT d=180:=by
 intro k
 induction k with
 | zero=>intro ms l σ σ' d h;simp only [Q0N,thr] at h;cases h
 | succ k ih=>
  intro ms l σ σ' d h
  cases hm:Q1R text ms.length l σ with
  | error f=>rw [Q3O hm] at h;cases h
  | ok p=>
   obtain ⟨m,l',σ1⟩:=p
   rw [Q3H hm] at h
   refine Q04 h fun y σ2 h=>?_
   cases y with
   | true=>exact ih _ _ _ _ _ h
   | false=>exact Q04 h fun _ _ h=>Q04 h fun _ _ h=>Q4B h rfl
theorem QfC {text:ByteArray} {at':Nat} {σ σ':St} {d:DefL} (h:enumeration text at' σ = .ok (d,σ')):defT d=180:=
 Q04 h fun _ _ h=>Q04 h fun _ _ h=>Q04 h fun _ _ h=>Qbz _ _ _ _ _ _ h
theorem QcQ {text:ByteArray} {at':Nat} {σ σ':St} {d:DefL} (h:Q1o text at' σ = .ok (d,σ')):defT d=182:=
 Q04 h fun _ _ h=>Q04 h fun _ _ h=>Q04 h fun _ _ h=>Q04 h fun _ _ h=>Q4B h rfl
theorem Qen {text:ByteArray} {at':Nat} {σ σ':St} {d:DefL} (h:Q0n text at' σ = .ok (d,σ')):defT d=184:=
 Q04 h fun _ _ h=>Q04 h fun _ _ h=>Q04 h fun _ _ h=>Q04 h fun _ _ h=>Q04 h fun _ _ h=>Q04 h fun _ _ h=>Q04 h fun _ _ h=>Q04 h fun _ _ h=>Q04 h fun _ _ h=>Q04 h fun _ _ h=>Q04 h fun _ _ h=>Q4B h rfl
theorem QfD {text:ByteArray} {at':Nat} {σ σ':St} {d:DefL} (h:Q1C text at' σ = .ok (d,σ')):defT d=186:=
 Q04 h fun _ _ h=>Q04 h fun _ _ h=>Q04 h fun _ _ h=>Q04 h fun _ _ h=>Q4B h rfl
def defK (text:ByteArray) (x:Mar.Word):PM DefL:=
 if x.text == [99,111,110,115,116] then constant text x.at'
 else if x.text == [116,121,112,101,100,101,102] then typedef text x.at'
 else if x.text == [101,110,117,109] then enumeration text x.at'
 else if x.text == [115,116,114,117,99,116] then Q1o text x.at'
 else if x.text == [117,110,105,111,110] then Q0n text x.at'
 else if x.text == [112,114,111,103,114,97,109] then Q1C text x.at'
 else thr 3 x.at'
def definition (text:ByteArray):PM DefL:=bnd (next text) (defK text)
theorem dk0 {text:ByteArray} {x:Mar.Word} (h0:(x.text == [99,111,110,115,116])=true):defK text x=constant text x.at':=by unfold defK;simp only [h0,if_true]
theorem dk1 {text:ByteArray} {x:Mar.Word} (h0:(x.text == [99,111,110,115,116])=false) (h1:(x.text == [116,121,112,101,100,101,102])=true):defK text x=typedef text x.at':=by unfold defK;simp only [h0,h1,Bool.false_eq_true,if_false,if_true]
theorem dk2 {text:ByteArray} {x:Mar.Word} (h0:(x.text == [99,111,110,115,116])=false) (h1:(x.text == [116,121,112,101,100,101,102])=false) (h2:(x.text == [101,110,117,109])=true):defK text x=enumeration text x.at':=by unfold defK;simp only [h0,h1,h2,Bool.false_eq_true,if_false,if_true]
theorem dk3 {text:ByteArray} {x:Mar.Word} (h0:(x.text == [99,111,110,115,116])=false) (h1:(x.text == [116,121,112,101,100,101,102])=false) (h2:(x.text == [101,110,117,109])=false) (h3:(x.text == [115,116,114,117,99,116])=true):defK text x=Q1o text x.at':=by unfold defK;simp only [h0,h1,h2,h3,Bool.false_eq_true,if_false,if_true]
theorem dk4 {text:ByteArray} {x:Mar.Word} (h0:(x.text == [99,111,110,115,116])=false) (h1:(x.text == [116,121,112,101,100,101,102])=false) (h2:(x.text == [101,110,117,109])=false) (h3:(x.text == [115,116,114,117,99,116])=false) (h4:(x.text == [117,110,105,111,110])=true):defK text x=Q0n text x.at':=by unfold defK;simp only [h0,h1,h2,h3,h4,Bool.false_eq_true,if_false,if_true]
theorem dk5 {text:ByteArray} {x:Mar.Word} (h0:(x.text == [99,111,110,115,116])=false) (h1:(x.text == [116,121,112,101,100,101,102])=false) (h2:(x.text == [101,110,117,109])=false) (h3:(x.text == [115,116,114,117,99,116])=false) (h4:(x.text == [117,110,105,111,110])=false) (h5:(x.text == [112,114,111,103,114,97,109])=true):defK text x=Q1C text x.at':=by unfold defK;simp only [h0,h1,h2,h3,h4,h5,Bool.false_eq_true,if_false,if_true]
theorem dk6 {text:ByteArray} {x:Mar.Word} (h0:(x.text == [99,111,110,115,116])=false) (h1:(x.text == [116,121,112,101,100,101,102])=false) (h2:(x.text == [101,110,117,109])=false) (h3:(x.text == [115,116,114,117,99,116])=false) (h4:(x.text == [117,110,105,111,110])=false) (h5:(x.text == [112,114,111,103,114,97,109])=false):defK text x=thr 3 x.at':=by unfold defK;simp only [h0,h1,h2,h3,h4,h5,Bool.false_eq_true,if_false]
def Q1u (M:List Nat) (A:Ad) (text:ByteArray) (w:World) (r:Except Mar.Fault (DefL×St)) (e:Ending) (w':World):Prop:=
 Qa M w w'∧((∃ d σ' b bs,r = .ok (d,σ')∧e = .returned (.iface (defT d) (.pointer (some ⟨b,0,none⟩)))∧Rd A text σ' w'∧Q0d bs b d∧Held A.X bs w')∨(∃ f,r = .error f∧Q0A w f.no f.at' e w'))
theorem Q1u.throws {M M':List Nat} {A:Ad} {text:ByteArray} {w w1 w':World} {r:Except Mar.Fault (DefL×St)} {f:Mar.Fault} {b:Nat}
  (hk:Qa M w w') (hk1:Qa M' w w1) (hr:r = .error f) (hb:w1.heap.size≤b) (hc:w'.heap[b]? = some (.cells #[.int .i64 f.no,.int .i64 f.at'] 83)) :
  Q1u M A text w r (.panicked [{ v:=.iface 79 (.pointer (some ⟨b,0,none⟩)),recovered:=false }]) w':=⟨hk,Or.inr ⟨f,hr,b,Nat.le_trans hk1.size hb,rfl,hc⟩⟩
theorem Q1u.ok {M:List Nat} {A:Ad} {text:ByteArray} {w w':World} {r:Except Mar.Fault (DefL×St)} {d:DefL} {σ':St} {b:Nat} {bs:List (Nat×Obj)} {T:TypeId}
  (hk:Qa M w w') (hr:r = .ok (d,σ')) (hT:defT d=T) (h:Rd A text σ' w') (hd:Q0d bs b d) (hh:Held A.X bs w'):Q1u M A text w r (.returned (.iface T (.pointer (some ⟨b,0,none⟩)))) w':=
 ⟨hk,Or.inl ⟨d,σ',b,bs,hr,by rw [hT],h,hd,hh⟩⟩
theorem Q9G {A:Ad} {text:ByteArray} {σ:St} {w:World} (h:Rd A text σ w) :
  Calls Tryz.prog 50 #[.pointer (some ⟨A.R,0,none⟩)] w (Q1u [A.R,A.S,A.N,A.P] A text w (definition text σ)):=by
 obtain ⟨c0,c1,c2,c3,c4,hfr⟩:=h.cells
 have HC:=Hid.mk (Q2Q h)
 go_enter Tryz.func50,Tryz.ntmps50
 go_wp2_with fail
 refine HC.out.mono ?_
 rintro e w1 ⟨hk,⟨x,σ',hx,rfl,hr⟩ | ⟨f,hx,b,hbb,rfl,hcell⟩⟩
 rotate_left
 ·exact Qb (Q1u.throws (hk.mono (by simp)) (Qa.refl [] _) (Qq hx) hbb hcell)
 have HK:=Hid.mk ((hk.alloc (.cells #[.int .i64 x.kind,.string ⟨x.text.toArray⟩,.int .i64 x.n,.int .i64 x.at'] 110)).mono (M':=[A.R,A.S,A.N,A.P]) (by simp))
 have Hx:=Hid.mk hx
 have HR:=Hid.mk (hr.below ((Below.refl _ _).alloc (Nat.le_refl _) (.cells #[.int .i64 x.kind,.string ⟨x.text.toArray⟩,.int .i64 x.n,.int .i64 x.at'] 110)))
 clear hk hx hr HC
 dsimp only [Q00]
 go_wp2_with (first
  | (go_at_call 47;refine (Q0T _ _ _).mono ?_;rintro e w' ⟨rfl,rfl⟩)
  | (go_at_call 86;refine (Qbi _ HR.out).mono ?_;rintro e w2 ⟨hk2,⟨d,σ2,b2,bs,hx2,rfl,hr2,hd2,hh2⟩ | ⟨f,hx2,b,hbb,rfl,hcell⟩⟩)
  | (go_at_call 87;refine (QcG _ HR.out).mono ?_;rintro e w2 ⟨hk2,⟨d,σ2,b2,bs,hx2,rfl,hr2,hd2,hh2⟩ | ⟨f,hx2,b,hbb,rfl,hcell⟩⟩)
  | (go_at_call 88;refine (Q8R _ HR.out).mono ?_;rintro e w2 ⟨hk2,⟨d,σ2,b2,bs,hx2,rfl,hr2,hd2,hh2⟩ | ⟨f,hx2,b,hbb,rfl,hcell⟩⟩)
  | (go_at_call 89;refine (Qay _ HR.out).mono ?_;rintro e w2 ⟨hk2,⟨d,σ2,b2,bs,hx2,rfl,hr2,hd2,hh2⟩ | ⟨f,hx2,b,hbb,rfl,hcell⟩⟩)
  | (go_at_call 90;refine (QfA _ HR.out).mono ?_;rintro e w2 ⟨hk2,⟨d,σ2,b2,bs,hx2,rfl,hr2,hd2,hh2⟩ | ⟨f,hx2,b,hbb,rfl,hcell⟩⟩)
  | (go_at_call 91;refine (QcP _ HR.out).mono ?_;rintro e w2 ⟨hk2,⟨d,σ2,b2,bs,hx2,rfl,hr2,hd2,hh2⟩ | ⟨f,hx2,b,hbb,rfl,hcell⟩⟩))
 ·go_ret
  exact Q1u.ok (HK.out.trans (hk2.mono (by simp))) ((Qg Hx.out).trans (by rw [dk0 ‹_›];exact hx2)) (Qem hx2) hr2 hd2 hh2
 ·exact Qb (Q1u.throws (HK.out.trans (hk2.mono (by simp))) HK.out ((Qg Hx.out).trans (by rw [dk0 ‹_›];exact hx2)) hbb hcell)
 ·go_ret
  exact Q1u.ok (HK.out.trans (hk2.mono (by simp))) ((Qg Hx.out).trans (by rw [dk1 ‹_› ‹_›];exact hx2)) (Qby hx2) hr2 hd2 hh2
 ·exact Qb (Q1u.throws (HK.out.trans (hk2.mono (by simp))) HK.out ((Qg Hx.out).trans (by rw [dk1 ‹_› ‹_›];exact hx2)) hbb hcell)
 ·go_ret
  exact Q1u.ok (HK.out.trans (hk2.mono (by simp))) ((Qg Hx.out).trans (by rw [dk2 ‹_› ‹_› ‹_›];exact hx2)) (QfC hx2) hr2 hd2 hh2
 ·exact Qb (Q1u.throws (HK.out.trans (hk2.mono (by simp))) HK.out ((Qg Hx.out).trans (by rw [dk2 ‹_› ‹_› ‹_›];exact hx2)) hbb hcell)
 ·go_ret
  exact Q1u.ok (HK.out.trans (hk2.mono (by simp))) ((Qg Hx.out).trans (by rw [dk3 ‹_› ‹_› ‹_› ‹_›];exact hx2)) (QcQ hx2) hr2 hd2 hh2
 ·exact Qb (Q1u.throws (HK.out.trans (hk2.mono (by simp))) HK.out ((Qg Hx.out).trans (by rw [dk3 ‹_› ‹_› ‹_› ‹_›];exact hx2)) hbb hcell)
 ·go_ret
  exact Q1u.ok (HK.out.trans (hk2.mono (by simp))) ((Qg Hx.out).trans (by rw [dk4 ‹_› ‹_› ‹_› ‹_› ‹_›];exact hx2)) (Qen hx2) hr2 hd2 hh2
 ·exact Qb (Q1u.throws (HK.out.trans (hk2.mono (by simp))) HK.out ((Qg Hx.out).trans (by rw [dk4 ‹_› ‹_› ‹_› ‹_› ‹_›];exact hx2)) hbb hcell)
 ·go_ret
  exact Q1u.ok (HK.out.trans hk2) ((Qg Hx.out).trans (by rw [dk5 ‹_› ‹_› ‹_› ‹_› ‹_› ‹_›];exact hx2)) (QfD hx2) hr2 hd2 hh2
 ·exact Qb (Q1u.throws (HK.out.trans hk2) HK.out ((Qg Hx.out).trans (by rw [dk5 ‹_› ‹_› ‹_› ‹_› ‹_› ‹_›];exact hx2)) hbb hcell)
 ·exact Qb (Q1u.throws (M':=[A.R,A.S,A.N,A.P]) (w1:=w1.alloc (.cells #[.int .i64 x.kind,.string ⟨x.text.toArray⟩,.int .i64 x.n,.int .i64 x.at'] 110)) (f:=⟨3,x.at'⟩) (HK.out.alloc _) HK.out ((Qg Hx.out).trans (by rw [dk6 ‹_› ‹_› ‹_› ‹_› ‹_› ‹_›];rfl)) (by simp) (Qi (by simp)))
theorem Qeo {P:Program} {fuel:Nat} {t st idx xt f:Nat} {name:String} {b:Nat} {w:World} {i:TypeInfo} (hi:P.info? t=some i) {m:Method} (hm:i.methods.find? (fun m=>m.name == name)=some m) (hp:m.path = #[⟨st,idx,true⟩]) (hf:m.func=some (f,false))
  {fields:Array Field} (hu:P.underlying st=some (.struct fields)) {fd:Field} (hfd:fields[idx]? = some fd) (ht:fd.type=xt) (ho:fd.offset=0) {fs:Array Field} (hx:P.underlying xt=some (.struct fs)) {j:TypeInfo} (hj:P.info? xt=some j) (hs:j.size≠0) :
  (method (fuel + 1) t (.pointer (some ⟨b,0,none⟩)) name).run P w=((loadVar xt ⟨b,0,none⟩).run P w).andThen (fun x w'=>.ok (f,x) w'):=by
 unfold method
 simp only [Sem.run_bind,run_typeInfo _ hi,Result.andThen_ok,hm,hp,hf,follow,run_underlying hu,hfd,Place.get,asAddr,fieldPlace,sizeOf,ht,run_typeInfo _ hj,Sem.run_pure,if_true,hs,if_false,ho,receiverAt,run_underlying hx,Addr.add]
theorem QcR {P:Program} {fuel:Nat} {t st idx st2 idx2 yt xt f:Nat} {name:String} {b:Nat} {w:World} {i:TypeInfo} (hi:P.info? t=some i) {m:Method} (hm:i.methods.find? (fun m=>m.name == name)=some m) (hp:m.path = #[⟨st,idx,true⟩,⟨st2,idx2,false⟩]) (hf:m.func=some (f,false))
  {fields:Array Field} (hu:P.underlying st=some (.struct fields)) {fd:Field} (hfd:fields[idx]? = some fd) (ht:fd.type=yt) (ho:fd.offset=0) {k:TypeInfo} (hk:P.info? yt=some k) (hks:k.size≠0)
  {fields2:Array Field} (hu2:P.underlying st2=some (.struct fields2)) {fd2:Field} (hfd2:fields2[idx2]? = some fd2) (ht2:fd2.type=xt) (ho2:fd2.offset=0) {fs:Array Field} (hx:P.underlying xt=some (.struct fs)) {j:TypeInfo} (hj:P.info? xt=some j) (hs:j.size≠0) :
  (method (fuel + 1) t (.pointer (some ⟨b,0,none⟩)) name).run P w=((loadVar xt ⟨b,0,none⟩).run P w).andThen (fun x w'=>.ok (f,x) w'):=by
 unfold method
 simp only [Sem.run_bind,run_typeInfo _ hi,Result.andThen_ok,hm,hp,hf,follow,run_underlying hu,hfd,Place.get,asAddr,fieldPlace,sizeOf,ht,run_typeInfo _ hk,hks,Sem.run_pure,if_true,if_false,ho,run_underlying hu2,hfd2,ht2,ho2,run_typeInfo _ hj,hs,receiverAt,run_underlying hx,Addr.add,Bool.false_eq_true]
theorem Q44 {P:Program} {t:TypeId} {name:String} {p:Array FieldStep} {f:Option (FuncId×Bool)} (h:((P.info? t).bind fun i=>i.methods.find? (fun m=>m.name == name)).map (fun m=>(m.path,m.func))=some (p,f)) :
  ∃ i m,P.info? t=some i∧i.methods.find? (fun m=>m.name == name)=some m∧m.path=p∧m.func=f:=by
 cases hi:P.info? t with
 | none=>rw [hi] at h;cases h
 | some i=>
  rw [hi] at h
  simp only [Option.bind_some] at h
  cases hm:i.methods.find? (fun m=>m.name == name) with
  | none=>rw [hm] at h;cases h
  | some m=>
   rw [hm] at h
   simp only [Option.map_some,Option.some.injEq,Prod.mk.injEq] at h
   exact ⟨i,m,rfl,hm,h.1,h.2⟩
theorem Q3Q {P:Program} {st idx:Nat} {t o:Nat} (h:((P.underlying st).bind fun d=>match d with | .struct fs=>fs[idx]? | _=>none).map (fun f=>(f.type,f.offset))=some (t,o)) :
  ∃ fs fd,P.underlying st=some (.struct fs)∧fs[idx]? = some fd∧fd.type=t∧fd.offset=o:=by
 cases hu:P.underlying st with
 | none=>rw [hu] at h;cases h
 | some d=>
  rw [hu] at h
  simp only [Option.bind_some] at h
  cases d with
  | struct fs=>
   simp only at h
   cases hf:fs[idx]? with
   | none=>rw [hf] at h;cases h
   | some fd=>
    rw [hf] at h
    simp only [Option.map_some,Option.some.injEq,Prod.mk.injEq] at h
    exact ⟨fs,fd,rfl,hf,h.1,h.2⟩
  | _=>cases h
theorem Q2X {P:Program} {t n:Nat} (h:(P.info? t).map (·.size)=some n):∃ i,P.info? t=some i∧i.size=n:=by
 cases hi:P.info? t with
 | none=>rw [hi] at h;cases h
 | some i=>rw [hi] at h;exact ⟨i,rfl,by simpa using h⟩
def Qw:DefL→List UInt8×Nat
 | .const t a _=>(t,a)
 | .typedef d=>(d.t,d.at')
 | .enum t a _=>(t,a)
 | .struct t a _=>(t,a)
 | .union t a _ _=>(t,a)
 | .prog t a _ _=>(t,a)
theorem Q1S (args:Array Value) (u:World):(callFunc 238 args).run Tryz.prog u = .ok (.enter 238 args) u:=by kernel_rfl
theorem QgQ {X:List Nat} {bs:List (Nat×Obj)} {b:Nat} {d:DefL} {w:World} (hd:Q0d bs b d) (hh:Held X bs w):w.cell? ⟨b,0,none⟩=some (.string ⟨(Qw d).1.toArray⟩)∧w.cell? ⟨b,1,none⟩=some (.int .i64 (Qw d).2):=by
 cases d with
 | const t a v=>have:=(hh _ hd).1;exact ⟨by simp [World.cell?,this,Qw],by simp [World.cell?,this,Qw]⟩
 | typedef d=>have:=(hh _ hd).1;exact ⟨by simp [World.cell?,this,Qw],by simp [World.cell?,this,Qw]⟩
 | enum t a ms=>obtain ⟨sl,ps,h1,_⟩:=hd;have:=(hh _ h1).1;exact ⟨by simp [World.cell?,this,Qw],by simp [World.cell?,this,Qw]⟩
 | struct t a ms=>obtain ⟨sl,h1,_⟩:=hd;have:=(hh _ h1).1;exact ⟨by simp [World.cell?,this,Qw],by simp [World.cell?,this,Qw]⟩
 | union t a s ar=>obtain ⟨sl,ps,h1,_⟩:=hd;have:=(hh _ h1).1;exact ⟨by simp [World.cell?,this,Qw],by simp [World.cell?,this,Qw]⟩
 | prog t a vs n=>obtain ⟨sl,ps,h1,_⟩:=hd;have:=(hh _ h1).1;exact ⟨by simp [World.cell?,this,Qw],by simp [World.cell?,this,Qw]⟩
theorem Q2M (s:ByteArray) (a:Int) (w:World) :
  Calls Tryz.prog 238 #[.agg #[.string s,.int .i64 a]] w fun e w'=>e = .returned (.agg #[.string s,.int .i64 a])∧Below w.heap.size w w':=by
 go_enter Tryz.func238,Tryz.ntmps238
 go_wp2
 exact bodyPost_ret (v:=.agg #[.string s,.int .i64 a]) (by simp [results,Tryz.results238,go_sem]) rfl ⟨rfl,((Below.refl _ _).alloc (Nat.le_refl _) _).alloc (by simp) _⟩
end Go.Proofs.YtmbcibgknckenaaGreatDoor
