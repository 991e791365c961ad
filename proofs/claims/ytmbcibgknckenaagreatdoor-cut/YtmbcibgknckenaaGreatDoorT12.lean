import Derived.Test.YtmbcibgknckenaaGreatDoorT11
import Derived.Laws.IdiomStrings
set_option linter.all false
set_option maxRecDepth 100000
set_option maxHeartbeats 4000000
namespace Go.Proofs.YtmbcibgknckenaaGreatDoor
open Go.RowKit
open Go.MapKept
theorem QW.perm {w u:World} {D:Nat} {Fr Fr':List (Nat×Obj)} {nsl:Value} {v:List QQ} {dep fuel size:Nat} {e:ESt} {osl:Value} (h:QW w D Fr nsl v dep fuel size e osl u) (hp:Fr.Perm Fr'):QW w D Fr' nsl v dep fuel size e osl u:=by
 refine h.sub (fun q hq=>hp.mem_iff.2 hq) ?_
 have:=h.own.fnd
 rw [(hp.map _).nodup_iff] at this
 exact this
theorem QW.setMid {w u u':World} {D:Nat} {A B:List (Nat×Obj)} {nsl:Value} {v:List QQ} {dep fuel size:Nat} {e:ESt} {osl:Value} {m:Nat} {o o':Obj} (h:QW w D (A++(m,o) :: B) nsl v dep fuel size e osl u) (hk:Qb [m] u u') (ho:u'.heap[m]? = some o'):QW w D (A++(m,o') :: B) nsl v dep fuel size e osl u':=
 ((h.perm List.perm_middle).setFr hk ho).perm List.perm_middle.symm
def wayC (n:NumL) (ws:List (Int×Nat×Nat)) (o:Option (Nat×Nat)) (k:Int):Array Value:=match wayL n ws o k with
 | some q=>#[.int .i64 q.1,.int .i64 q.2]
 | none=>#[.int .i64 0,.int .i64 0]
theorem Qkk {w:World} {D:Nat} {Fr:List (Nat×Obj)} {nsl:Value} {v:List QQ} {dep fuel size:Nat} {bs:List (Nat×Obj)} {cs:List Value} {n:NumL} {m:Nat} {ws:List (Int×Nat×Nat)} {ov:Value} {o:Option (Nat×Nat)} (hN:Q16 bs cs n) (hm:(m,Q0O ws)∈bs) (ho:Q2M bs ov o) (nd:(ws.map (·.1)).Nodup) (hw:∀ p∈bs,w.heap[p.1]? = some p.2) (b c:Nat) (P:Nat×Obj) :
  FitC w D ((c,.cells #[.int .i64 0,.int .i64 0] 323) :: P :: (b,.cells (cs++[.map (some m),ov]).toArray 321) :: Fr) nsl v dep fuel size (Q3P fun k=>(wayL n ws o k).map (·.2)) (fun x=>(c,.cells (wayC n ws o x.n) 323) :: P :: (b,.cells (cs++[.map (some m),ov]).toArray 321) :: Fr) 313 #[.pointer (some ⟨b,0,none⟩),.pointer (some ⟨c,0,none⟩)] where
 enters:=fun _ _=>by kernel_rfl
 calls:=by
  intro ex e osl u x h
  obtain ⟨mm,rfl,hmem,a1,a2,a3,rfl⟩:=id hN
  obtain ⟨pa,rfl⟩:∃ pa,ov = .pointer pa:=by
   cases o with
   | none=>exact ⟨_,ho⟩
   | some q=>obtain ⟨b,h1,_⟩:=ho;exact ⟨_,h1⟩
  obtain ⟨q0,q1,q2,q3,q4,q5,qf,ql⟩:=Q0j (h.own.hf (b,_) (List.mem_append_right _ (List.mem_cons_of_mem _ (List.mem_cons_of_mem _ List.mem_cons_self)))).1
  have hb:∀ o,Below u.heap.size u (u.alloc o):=fun o=>(Below.refl _ _).alloc (Nat.le_refl _) _
  have VY:=Hid.mk (fun oo=>Qe6 hN hm ho nd x.n (w:=u.alloc oo) (fun p hp=>((hb oo).block _ (by have:=Qc (hw p hp);have:=h.own.kp.size;omega)).trans ((h.own.kp.block _ (Qc (hw p hp)) (by simp)).trans (hw p hp))))
  have M0:=Hid.mk (h.alloc (.cells (Q4K x).toArray 48))
  clear h hw hN hm ho
  show Calls Tryz.prog _ #[_,_,_] _ _
  go_enter Tryz.func313,Tryz.ntmps313
  go_wp2_with fail
  refine (VY.out _).mono ?_
  rintro en w1 ⟨rfl,hb1⟩
  have M1:=M0.out.below hb1
  obtain ⟨n0,n1,n2,n3,n4,nf,nl⟩:=Q1S (M1.own.hf _ List.mem_cons_self).1
  have oC:=(M1.own.hf (c,_) (List.mem_cons_of_mem _ (List.mem_append_right _ List.mem_cons_self))).1
  obtain ⟨w0,w1',wf,wl⟩:=Q0k oC
  have hne:u.heap.size≠c:=by
   have:=M1.own.fnd
   simp only [List.map_cons,List.nodup_cons,List.map_append] at this
   exact fun e=>this.1 (by rw [e];simp)
  have hne':c≠u.heap.size:=fun e=>hne e.symm
  clear VY M0 hb1
  cases hwl:wayL n ws o x.n with
  | none=>
   have EV:wayV n ws o x.n = .agg #[.int .i64 0,.int .i64 0]:=by simp [wayV,hwl]
   have EC:wayC n ws o x.n = #[.int .i64 0,.int .i64 0]:=by simp [wayC,hwl]
   have EF:Hid (Q3P (fun k=>(wayL n ws o k).map (·.2)) x=false):=by show _=_;simp [Q3P,hwl]
   have z:=Q4I (k':=.int .i64 0) (t':=.int .i64 0) oC
   have M2:=(M1.tail.setMid (((Qb.refl [c] w1).setIn (p:=⟨c,0,none⟩) (by simp) (.int .i64 0)).setIn (p:=⟨c,1,none⟩) (by simp) (.int .i64 0)) z)
   rw [← EC] at M2
   have M2:=Hid.mk M2
   rw [EV]
   simp only [Option.isSome_none]
   clear M1 oC z EV EC hwl
   go_wp2
   go_ret
   exact ⟨by rw [EF.out];rfl,M2.out⟩
  | some q=>
   have EV:wayV n ws o x.n = .agg #[.int .i64 q.1,.int .i64 q.2]:=by simp [wayV,hwl]
   have EC:wayC n ws o x.n = #[.int .i64 q.1,.int .i64 q.2]:=by simp [wayC,hwl]
   have EF:Hid (Q3P (fun k=>(wayL n ws o k).map (·.2)) x=(x.len == (q.2:Int))):=by
    show _=_
    simp [Q3P,hwl]
    by_cases hq:x.len=(q.2:Int)<;>simp [hq]
   have z:=Q4I (k':=.int .i64 (q.1:Int)) (t':=.int .i64 (q.2:Int)) oC
   obtain ⟨y0,y1,_,_⟩:=Q0k z
   have M2:=(M1.tail.setMid (((Qb.refl [c] w1).setIn (p:=⟨c,0,none⟩) (by simp) (.int .i64 (q.1:Int))).setIn (p:=⟨c,1,none⟩) (by simp) (.int .i64 (q.2:Int))) z)
   rw [← EC] at M2
   have M2:=Hid.mk M2
   rw [EV]
   simp only [Option.isSome_some]
   clear M1 oC z EV EC hwl
   go_wp2
   go_ret
   exact ⟨by rw [EF.out];rfl,M2.out⟩
theorem Q2C {v:List QQ} {fuel:Nat} {kind:Int} {fits:QQ→Bool} {e:ESt} {p:QQ×ESt} (h:Q1u v fuel kind fits e = .ok p):1≤p.2.next∧p.1.kind=kind∧fits p.1=true:=by
 unfold Q1u at h
 split at h
 ·cases h
 ·split at h
  ·cases h
  ·split at h
   ·rename_i hk
    cases h
    exact ⟨by simp,hk.1,hk.2⟩
   ·cases h
theorem Qab {size:Nat} {n:Int} {e e':ESt} (h:Q1v size n e = .ok e'):e'.next=e.next:=by
 obtain ⟨e1,h1,h2⟩:=QV h
 unfold Q2J at h1
 split at h1
 ·cases h1
 ·cases h1
  cases h2
  rfl
theorem Q8z {τ:Type} {r:Except Mar.Fault τ} {d:τ} {x:Unit} (h:(thenE r fun e'=>Except.ok ((),e')) = .ok (x,d)):r = .ok d:=by
 cases r with
 | error f=>cases h
 | ok e=>cases h;rfl
theorem Q7y {τ:Type} {r:Except Mar.Fault τ} {f:Mar.Fault} (h:(thenE r fun e'=>Except.ok ((),e')) = .error f):r = .error f:=by
 cases r with
 | error f=>cases h;rfl
 | ok e=>cases h
theorem Qfz {w u:World} {D:Nat} {Fr:List (Nat×Obj)} {nsl:Value} {v:List QQ} {dep fuel size:Nat} {e:ESt} {osl:Value} (k:Nat) (hk:k < 1000000) (h:QW w D Fr nsl v dep fuel size e osl u) :
  Calls Tryz.prog 239 #[.pointer (some ⟨D,0,none⟩),.int .i64 k] u (Q1o w D Fr nsl v dep fuel size (thenE ((encW v dep fuel size).enter k e) fun e'=>.ok ((),e')) fun _=>.tuple #[]):=by
 obtain ⟨c0,c1,c2,c3,c4,c5,hfz,hlt⟩:=Q0j h.box
 have H:=Hid.mk h
 clear h
 by_cases hs:dep≤k
 ·have E:Hid ((thenE ((encW v dep fuel size).enter k e) fun e'=>Except.ok ((),e')) = .error ⟨13,e.next⟩):=by show _=_;simp [encW,hs,thenE]
  have hc:(dep:Int)≤(k:Int):=by omega
  go_enter Tryz.func239,Tryz.ntmps239
  go_wp2_with (go_at_call 47;refine (QY _ _ _).mono ?_;rintro e w' ⟨rfl,rfl⟩)
  exact Qa (Q1o.throws (u:=u) (f:=⟨13,e.next⟩) E.out H.out.own.kp ((Qb.refl [] _).alloc _) (Nat.le_refl _) (Qg rfl))
 ·have E:Hid ((thenE ((encW v dep fuel size).enter k e) fun e'=>Except.ok ((),e')) = .ok ((),e)):=by show _=_;simp [encW,hs,thenE]
  have hc:(k:Int) < (dep:Int):=by omega
  go_enter Tryz.func239,Tryz.ntmps239
  go_wp2
  go_end0
  exact Or.inl ⟨(),e,_,E.out,rfl,H.out⟩
theorem QdK {w u:World} {D:Nat} {Fr:List (Nat×Obj)} {nsl:Value} {v:List QQ} {dep fuel size:Nat} {e:ESt} {osl:Value} {bs:List (Nat×Obj)} {cs:List Value} {n:NumL} (hN:Q16 bs cs n) (hw:∀ p∈bs,w.heap[p.1]? = some p.2) (h:QW w D Fr nsl v dep fuel size e osl u) :
  Calls Tryz.prog 310 #[.pointer (some ⟨D,0,none⟩),.agg cs.toArray] u (Q1o w D Fr nsl v dep fuel size (thenE ((encW v dep fuel size).num n e) fun e'=>.ok ((),e')) fun _=>.tuple #[]):=by
 have hmf:∀ (fn:Fn) (first cap:Array Value) (w:World),(Instr.makeFunc fn first cap).run Tryz.prog w = .ok (.func fn first cap) w:=fun _ _ _ _=>rfl
 have VT:=Hid.mk (Q6A 1 (Qhm hN hw u.heap.size (D:=D) (Fr:=Fr) (nsl:=nsl) (v:=v) (dep:=dep) (fuel:=fuel) (size:=size)) (h.alloc (.cells cs.toArray 200)))
 obtain ⟨mm,rfl,hmem,a1,a2,a3,rfl⟩:=id hN
 have E0:Hid ((encW v dep fuel size).num n e=thenE (Q1u v fuel 1 (fun x=>n.has x.n) e) fun p=>thenE (if n.wide then Q1v size (p.1.n / 4294967296) p.2 else .ok p.2) fun e=>Q1v size p.1.n e):=rfl
 clear h hw hN
 go_enter Tryz.func310,Tryz.ntmps310
 go_wp2_with fail
 refine VT.out.mono ?_
 rintro en w1 (⟨x,e1,osl1,hx,rfl,M1⟩ | ⟨f,hx,hk,g,hg,rfl,hc⟩)
 rotate_left
 ·exact Qa (Or.inr ⟨f,by rw [E0.out,hx];rfl,hk,g,hg,rfl,hc⟩)
 have hnx:=(Q2C hx).1
 have E1:Hid ((encW v dep fuel size).num n e=thenE (if n.wide then Q1v size (x.n / 4294967296) e1 else .ok e1) fun e=>Q1v size x.n e):=by show _=_;rw [E0.out,hx];rfl
 have M2:=M1.alloc (.cells (Q4K x).toArray 48)
 obtain ⟨q0,q1,q2,q3,qf,ql⟩:=Q8v (M2.own.hf _ (List.mem_cons_of_mem _ List.mem_cons_self)).1
 have M2:=Hid.mk M2
 clear hx VT E0 M1
 cases hwd:n.wide with
 | true=>
  rw [hwd] at q3
  have VW:=Hid.mk (Q4o (x.n / 4294967296) hnx M2.out)
  go_wp2_with fail
  refine VW.out.mono ?_
  rintro en w2 (⟨_,e2,osl2,hx,rfl,M3⟩ | ⟨f,hx,hk,g,hg,rfl,hc⟩)
  rotate_left
  ·refine Qa (Or.inr ⟨f,?_,hk,g,hg,rfl,hc⟩)
   rw [E1.out,hwd]
   simp only [if_true]
   rw [Q7y hx]
   rfl
  have hwe:=Q8z hx
  have E2:Hid ((encW v dep fuel size).num n e=Q1v size x.n e2):=by show _=_;rw [E1.out,hwd];simp only [if_true];rw [hwe];rfl
  have hn2:1≤e2.next:=by rw [Qab hwe];exact hnx
  obtain ⟨t0,t1,t2,t3,t4,tf,tl⟩:=Q1S (M3.own.hf _ List.mem_cons_self).1
  have VX:=Hid.mk (Q4o x.n hn2 M3)
  clear hx hwe M3 VW E1 M2
  go_wp2_with fail
  refine VX.out.mono ?_
  rintro en w3 (⟨_,e3,osl3,hx,rfl,M4⟩ | ⟨f,hx,hk,g,hg,rfl,hc⟩)
  rotate_left
  ·exact Qa (Or.inr ⟨f,by rw [E2.out];exact hx,hk,g,hg,rfl,hc⟩)
  have R:Hid (Q1o w D Fr nsl v dep fuel size (thenE ((encW v dep fuel size).num n e) fun e'=>.ok ((),e')) (fun _=>.tuple #[]) (.returned (.tuple #[])) w3):=Or.inl ⟨(),e3,osl3,by rw [E2.out];exact hx,rfl,M4.tail.tail⟩
  clear hx M4 VX
  go_wp2
  go_end0
  exact R.out
 | false=>
  rw [hwd] at q3
  have E2:Hid ((encW v dep fuel size).num n e=Q1v size x.n e1):=by show _=_;rw [E1.out,hwd];rfl
  obtain ⟨t0,t1,t2,t3,t4,tf,tl⟩:=Q1S (M2.out.own.hf _ List.mem_cons_self).1
  have VX:=Hid.mk (Q4o x.n hnx M2.out)
  clear M2 E1
  go_wp2_with fail
  refine VX.out.mono ?_
  rintro en w3 (⟨_,e3,osl3,hx,rfl,M4⟩ | ⟨f,hx,hk,g,hg,rfl,hc⟩)
  rotate_left
  ·exact Qa (Or.inr ⟨f,by rw [E2.out];exact hx,hk,g,hg,rfl,hc⟩)
  have R:Hid (Q1o w D Fr nsl v dep fuel size (thenE ((encW v dep fuel size).num n e) fun e'=>.ok ((),e')) (fun _=>.tuple #[]) (.returned (.tuple #[])) w3):=Or.inl ⟨(),e3,osl3,by rw [E2.out];exact hx,rfl,M4.tail.tail⟩
  clear hx M4 VX
  go_wp2
  go_end0
  exact R.out
theorem QaU {n:Int} {f:Bool} {k:Int} (h2:n≤4294967295) (h:Q0V n f k=true):k≤4294967295:=by
 unfold Q0V at h
 cases f with
 | true=>simp at h;omega
 | false=>simp at h;omega
theorem Qbq {n:Int} {f:Bool} {k:Int} (h2:0≤n) (h:Q0V n f k=true):0≤k:=by
 unfold Q0V at h
 cases f with
 | true=>simp at h;omega
 | false=>simp at h;omega
theorem Qhn {w u:World} {D:Nat} {Fr:List (Nat×Obj)} {nsl:Value} {v:List QQ} {dep fuel size:Nat} {e:ESt} {osl:Value} (n:Int) (f:Bool) (h0:0≤n) (h1:n≤4294967295) (h:QW w D Fr nsl v dep fuel size e osl u) :
  Calls Tryz.prog 311 #[.pointer (some ⟨D,0,none⟩),.agg #[.int .i64 n,.bool f]] u (Q1o w D Fr nsl v dep fuel size (thenE ((encW v dep fuel size).text n f e) fun e'=>.ok ((),e')) fun _=>.tuple #[]):=by
 have hmf:∀ (fn:Fn) (first cap:Array Value) (w:World),(Instr.makeFunc fn first cap).run Tryz.prog w = .ok (.func fn first cap) w:=fun _ _ _ _=>rfl
 have VT:=Hid.mk (Q6A 2 (QjQ n f u.heap.size (w:=w) (D:=D) (Fr:=Fr) (nsl:=nsl) (v:=v) (dep:=dep) (fuel:=fuel) (size:=size)) (h.alloc (.cells #[.int .i64 n,.bool f] 304)))
 have E0:Hid ((encW v dep fuel size).text n f e=thenE (Q1u v fuel 2 (fun x=>Q0V n f x.s.length) e) fun p=>thenE (if f then .ok p.2 else Q1v size p.1.s.length p.2) fun e=>Q3m size p.1.s e):=rfl
 clear h
 go_enter Tryz.func311,Tryz.ntmps311
 go_wp2_with fail
 refine VT.out.mono ?_
 rintro en w1 (⟨x,e1,osl1,hx,rfl,M1⟩ | ⟨f',hx,hk,g,hg,rfl,hc⟩)
 rotate_left
 ·exact Qa (Or.inr ⟨f',by rw [E0.out,hx];rfl,hk,g,hg,rfl,hc⟩)
 have hnx:=(Q2C hx).1
 have hsl:x.s.length≤4294967295:=by have:=QaU h1 (Q2C hx).2.2;simp only at this;omega
 have E1:Hid ((encW v dep fuel size).text n f e=thenE (if f then .ok e1 else Q1v size x.s.length e1) fun e=>Q3m size x.s e):=by show _=_;rw [E0.out,hx];rfl
 have M2:=M1.alloc (.cells (Q4K x).toArray 48)
 obtain ⟨q0,q1,qf,ql⟩:=Q0k (M2.own.hf _ (List.mem_cons_of_mem _ List.mem_cons_self)).1
 have M2:=Hid.mk M2
 clear hx VT E0 M1
 cases f with
 | true=>
  have E2:Hid ((encW v dep fuel size).text n true e=Q3m size x.s e1):=by show _=_;rw [E1.out];rfl
  obtain ⟨t0,t1,t2,t3,t4,tf,tl⟩:=Q1S (M2.out.own.hf _ List.mem_cons_self).1
  have VX:=Hid.mk (Q8Q x.s hsl hnx M2.out)
  clear M2 E1
  go_wp2_with fail
  refine VX.out.mono ?_
  rintro en w3 (⟨_,e3,osl3,hx,rfl,M4⟩ | ⟨f',hx,hk,g,hg,rfl,hc⟩)
  rotate_left
  ·exact Qa (Or.inr ⟨f',by rw [E2.out];exact hx,hk,g,hg,rfl,hc⟩)
  have R:Hid (Q1o w D Fr nsl v dep fuel size (thenE ((encW v dep fuel size).text n true e) fun e'=>.ok ((),e')) (fun _=>.tuple #[]) (.returned (.tuple #[])) w3):=Or.inl ⟨(),e3,osl3,by rw [E2.out];exact hx,rfl,M4.tail.tail⟩
  clear hx M4 VX
  go_wp2
  go_end0
  exact R.out
 | false=>
  have VW:=Hid.mk (Q4o x.s.length hnx M2.out)
  go_wp2_with fail
  refine VW.out.mono ?_
  rintro en w2 (⟨_,e2,osl2,hx,rfl,M3⟩ | ⟨f',hx,hk,g,hg,rfl,hc⟩)
  rotate_left
  ·refine Qa (Or.inr ⟨f',?_,hk,g,hg,rfl,hc⟩)
   rw [E1.out]
   simp only [Bool.false_eq_true,if_false]
   rw [Q7y hx]
   rfl
  have hwe:=Q8z hx
  have E2:Hid ((encW v dep fuel size).text n false e=Q3m size x.s e2):=by show _=_;rw [E1.out];simp only [Bool.false_eq_true,if_false];rw [hwe];rfl
  have hn2:1≤e2.next:=by rw [Qab hwe];exact hnx
  obtain ⟨t0,t1,t2,t3,t4,tf,tl⟩:=Q1S (M3.own.hf _ List.mem_cons_self).1
  have VX:=Hid.mk (Q8Q x.s hsl hn2 M3)
  clear hx hwe M3 VW E1 M2
  go_wp2_with fail
  refine VX.out.mono ?_
  rintro en w3 (⟨_,e3,osl3,hx,rfl,M4⟩ | ⟨f',hx,hk,g,hg,rfl,hc⟩)
  rotate_left
  ·exact Qa (Or.inr ⟨f',by rw [E2.out];exact hx,hk,g,hg,rfl,hc⟩)
  have R:Hid (Q1o w D Fr nsl v dep fuel size (thenE ((encW v dep fuel size).text n false e) fun e'=>.ok ((),e')) (fun _=>.tuple #[]) (.returned (.tuple #[])) w3):=Or.inl ⟨(),e3,osl3,by rw [E2.out];exact hx,rfl,M4.tail.tail⟩
  clear hx M4 VX
  go_wp2
  go_end0
  exact R.out
theorem Qho {w u:World} {D:Nat} {Fr:List (Nat×Obj)} {nsl:Value} {v:List QQ} {dep fuel size:Nat} {e:ESt} {osl:Value} (n:Int) (f:Bool) (h0:0≤n) (h1:n≤4294967295) (h:QW w D Fr nsl v dep fuel size e osl u) :
  Calls Tryz.prog 309 #[.pointer (some ⟨D,0,none⟩),.agg #[.int .i64 n,.bool f]] u (Q1o w D Fr nsl v dep fuel size ((encW v dep fuel size).list n f e) fun k=>.int .i64 k):=by
 have hmf:∀ (fn:Fn) (first cap:Array Value) (w:World),(Instr.makeFunc fn first cap).run Tryz.prog w = .ok (.func fn first cap) w:=fun _ _ _ _=>rfl
 have VT:=Hid.mk (Q6A 3 (QjR n f u.heap.size (w:=w) (D:=D) (Fr:=Fr) (nsl:=nsl) (v:=v) (dep:=dep) (fuel:=fuel) (size:=size)) (h.alloc (.cells #[.int .i64 n,.bool f] 304)))
 have E0:Hid ((encW v dep fuel size).list n f e=thenE (Q1u v fuel 3 (fun x=>Q0V n f x.len) e) fun p=>thenE (if f then .ok p.2 else Q1v size p.1.len p.2) fun e=>.ok (p.1.len.toNat,e)):=rfl
 clear h
 go_enter Tryz.func309,Tryz.ntmps309
 go_wp2_with fail
 refine VT.out.mono ?_
 rintro en w1 (⟨x,e1,osl1,hx,rfl,M1⟩ | ⟨f',hx,hk,g,hg,rfl,hc⟩)
 rotate_left
 ·exact Qa (Or.inr ⟨f',by rw [E0.out,hx];rfl,hk,g,hg,rfl,hc⟩)
 have hnx:=(Q2C hx).1
 have hl0:0≤x.len:=Qbq h0 (Q2C hx).2.2
 have HL:Hid (((x.len.toNat:Nat):Int)=x.len):=Int.toNat_of_nonneg hl0
 have E1:Hid ((encW v dep fuel size).list n f e=thenE (if f then .ok e1 else Q1v size x.len e1) fun e=>.ok (x.len.toNat,e)):=by show _=_;rw [E0.out,hx];rfl
 have M2:=M1.alloc (.cells (Q4K x).toArray 48)
 obtain ⟨q0,q1,qf,ql⟩:=Q0k (M2.own.hf _ (List.mem_cons_of_mem _ List.mem_cons_self)).1
 have M2:=Hid.mk M2
 clear hx VT E0 M1
 cases f with
 | true=>
  have E2:Hid ((encW v dep fuel size).list n true e = .ok (x.len.toNat,e1)):=by show _=_;rw [E1.out];rfl
  obtain ⟨t0,t1,t2,t3,t4,tf,tl⟩:=Q1S (M2.out.own.hf _ List.mem_cons_self).1
  clear E1
  go_wp2
  go_ret
  refine Or.inl ⟨x.len.toNat,e1,osl1,E2.out,?_,M2.out.tail.tail⟩
  show _=Ending.returned (Value.int .i64 ((x.len.toNat:Nat):Int))
  rw [HL.out]
  rfl
 | false=>
  have VW:=Hid.mk (Q4o x.len hnx M2.out)
  go_wp2_with fail
  refine VW.out.mono ?_
  rintro en w2 (⟨_,e2,osl2,hx,rfl,M3⟩ | ⟨f',hx,hk,g,hg,rfl,hc⟩)
  rotate_left
  ·refine Qa (Or.inr ⟨f',?_,hk,g,hg,rfl,hc⟩)
   rw [E1.out]
   simp only [Bool.false_eq_true,if_false]
   rw [Q7y hx]
   rfl
  have hwe:=Q8z hx
  have E2:Hid ((encW v dep fuel size).list n false e = .ok (x.len.toNat,e2)):=by show _=_;rw [E1.out];simp only [Bool.false_eq_true,if_false];rw [hwe];rfl
  obtain ⟨t0,t1,t2,t3,t4,tf,tl⟩:=Q1S (M3.own.hf _ List.mem_cons_self).1
  have M3:=Hid.mk M3
  clear hx hwe VW E1 M2
  go_wp2
  go_ret
  refine Or.inl ⟨x.len.toNat,e2,osl2,E2.out,?_,M3.out.tail.tail⟩
  show _=Ending.returned (Value.int .i64 ((x.len.toNat:Nat):Int))
  rw [HL.out]
  rfl
theorem QiO {w u:World} {D:Nat} {Fr:List (Nat×Obj)} {nsl:Value} {v:List QQ} {dep fuel size:Nat} {e:ESt} {osl:Value} {bs:List (Nat×Obj)} {cs:List Value} {n:NumL} {m:Nat} {ws:List (Int×Nat×Nat)} {ov:Value} {o:Option (Nat×Nat)} (hN:Q16 bs cs n) (hm:(m,Q0O ws)∈bs) (ho:Q2M bs ov o) (nd:(ws.map (·.1)).Nodup) (hw:∀ p∈bs,w.heap[p.1]? = some p.2) (h:QW w D Fr nsl v dep fuel size e osl u) :
  Calls Tryz.prog 308 #[.pointer (some ⟨D,0,none⟩),.agg (cs++[.map (some m),ov]).toArray] u (Q1o w D Fr nsl v dep fuel size ((encW v dep fuel size).arm n (fun k=>(wayL n ws o k).map (·.2)) e) (wayV n ws o)):=by
 have hmf:∀ (fn:Fn) (first cap:Array Value) (w:World),(Instr.makeFunc fn first cap).run Tryz.prog w = .ok (.func fn first cap) w:=fun _ _ _ _=>rfl
 have M0:=((h.alloc (.cells (cs++[.map (some m),ov]).toArray 321)).alloc (.cells #[.int .i64 0,.int .i64 0] 323)).alloc (.cells #[.int .i64 0,.int .i64 0] 323)
 have hs1:(u.alloc (.cells (cs++[.map (some m),ov]).toArray 321)).heap.size=u.heap.size + 1:=by simp
 have hs2:((u.alloc (.cells (cs++[.map (some m),ov]).toArray 321)).alloc (.cells #[.int .i64 0,.int .i64 0] 323)).heap.size=u.heap.size + 1 + 1:=by simp
 rw [hs2,hs1] at M0
 have VT:=Hid.mk (Q6A 4 (Qkk hN hm ho nd hw u.heap.size (u.heap.size + 1 + 1) (u.heap.size + 1,.cells #[.int .i64 0,.int .i64 0] 323) (D:=D) (Fr:=Fr) (nsl:=nsl) (v:=v) (dep:=dep) (fuel:=fuel) (size:=size)) M0)
 obtain ⟨mm,rfl,hmem,a1,a2,a3,rfl⟩:=id hN
 obtain ⟨pa,rfl⟩:∃ pa,ov = .pointer pa:=by
  cases o with
  | none=>exact ⟨_,ho⟩
  | some q=>obtain ⟨b,h1,_⟩:=ho;exact ⟨_,h1⟩
 have E0:Hid ((encW v dep fuel size).arm n (fun k=>(wayL n ws o k).map (·.2)) e=thenE (Q1u v fuel 4 (Q3P fun k=>(wayL n ws o k).map (·.2)) e) fun p=>thenE (Q1v size p.1.n p.2) fun e=>.ok (p.1.n,e)):=rfl
 clear h hw hN hm ho M0 hs1 hs2
 go_enter Tryz.func308,Tryz.ntmps308
 go_wp2_with fail
 refine VT.out.mono ?_
 rintro en w1 (⟨x,e1,osl1,hx,rfl,M1⟩ | ⟨f',hx,hk,g,hg,rfl,hc⟩)
 rotate_left
 ·exact Qa (Or.inr ⟨f',by rw [E0.out,hx];rfl,hk,g,hg,rfl,hc⟩)
 have hnx:=(Q2C hx).1
 have hfit:=(Q2C hx).2.2
 obtain ⟨q,hq⟩:∃ q,wayL n ws o x.n=some q:=by
  simp only [Q3P] at hfit
  cases hwl:wayL n ws o x.n with
  | none=>simp [hwl] at hfit
  | some q=>exact ⟨q,rfl⟩
 have EV:Hid (wayV n ws o x.n = .agg #[.int .i64 q.1,.int .i64 q.2]):=by show _=_;simp [wayV,hq]
 have EC:wayC n ws o x.n = #[.int .i64 q.1,.int .i64 q.2]:=by simp [wayC,hq]
 dsimp only at M1
 rw [EC] at M1
 have E1:Hid ((encW v dep fuel size).arm n (fun k=>(wayL n ws o k).map (·.2)) e=thenE (Q1v size x.n e1) fun e=>.ok (x.n,e)):=by show _=_;rw [E0.out,hx];rfl
 have M2:=M1.alloc (.cells (Q4K x).toArray 48)
 have VW:=Hid.mk (Q4o x.n hnx M2)
 obtain ⟨t0,t1,t2,t3,t4,tf,tl⟩:=Q1S (M2.own.hf _ List.mem_cons_self).1
 clear hx VT E0 M1 hfit hq EC M2
 go_wp2_with fail
 refine VW.out.mono ?_
 rintro en w2 (⟨_,e2,osl2,hx,rfl,M3⟩ | ⟨f',hx,hk,g,hg,rfl,hc⟩)
 rotate_left
 ·exact Qa (Or.inr ⟨f',by rw [E1.out,Q7y hx];rfl,hk,g,hg,rfl,hc⟩)
 have E2:Hid ((encW v dep fuel size).arm n (fun k=>(wayL n ws o k).map (·.2)) e = .ok (x.n,e2)):=by show _=_;rw [E1.out,Q8z hx];rfl
 have oW:=(M3.own.hf _ (List.mem_cons_of_mem _ List.mem_cons_self)).1
 have oR:=(M3.own.hf _ (List.mem_cons_of_mem _ (List.mem_cons_of_mem _ List.mem_cons_self))).1
 obtain ⟨p0,p1,pf,pl⟩:=Q0k oW
 obtain ⟨r0,r1,rf,rl⟩:=Q0k oR
 have z:=Q4I (k':=.int .i64 (q.1:Int)) (t':=.int .i64 (q.2:Int)) oR
 obtain ⟨z0,z1,_,_⟩:=Q0k z
 have M4:=Hid.mk (M3.tail.tail.setFr (((Qb.refl [u.heap.size + 1] w2).setIn (p:=⟨u.heap.size + 1,0,none⟩) (by simp) (.int .i64 (q.1:Int))).setIn (p:=⟨u.heap.size + 1,1,none⟩) (by simp) (.int .i64 (q.2:Int))) z).tail.tail
 clear hx M3 oW oR z VW E1
 go_wp2
 exact bodyPost_ret (v:=.agg #[.int .i64 q.1,.int .i64 q.2]) (by simp [results,Tryz.results308,go_sem,z0,z1]) rfl (Or.inl ⟨x.n,e2,osl2,E2.out,by rw [EV.out],M4.out⟩)
theorem Qhp {v:List QQ} {dep fuel size:Nat} {n:Int} {f:Bool} {d d':ESt} {k:Nat} (h0:0≤n) (h1:n≤4294967295) (h:(encW v dep fuel size).list n f d = .ok (k,d')):k≤4294967295:=by
 obtain ⟨p,h1',h⟩:=QV h
 obtain ⟨e,_,h⟩:=QV h
 cases h
 have:=QaU h1 (Q2C h1').2.2
 omega
theorem Qac {α:Type} {w:World} {D:Nat} {Fr:List (Nat×Obj)} {nsl:Value} {v:List QQ} {dep fuel size:Nat} {r:Except Mar.Fault (α×ESt)} {V:α→Value} {en:Ending} {u':World} (h:Q1o w D Fr nsl v dep fuel size r V en u'):Q4J w (fun Fr e u=>∃ osl,QW w D Fr nsl v dep fuel size e osl u) Fr r V en u':=by
 rcases h with ⟨a,d',osl,h1,h2,h3⟩ | h
 ·exact Or.inl ⟨a,d',h1,h2,osl,h3⟩
 ·exact Or.inr h
def encZ {w:World} {bs:List (Nat×Obj)} (hw:∀ p∈bs,w.heap[p.1]? = some p.2) (D:Nat) (nsl:Value) (v:List QQ) (dep fuel size:Nat):Wkr ESt w bs where
 W:=encW v dep fuel size
 T:=133
 D:=D
 J:=fun Fr e u=>∃ osl,QW w D Fr nsl v dep fuel size e osl u
 base:=by
  rintro Fr d u ⟨osl,h⟩
  exact ⟨_,_,h.own,fun hk hM ho=>⟨osl,h.beside hk hM ho⟩⟩
 fE:=239
 fN:=310
 fT:=311
 fL:=309
 fA:=308
 mE:=fun _ _=>by kernel_rfl
 mN:=fun _ _=>by kernel_rfl
 mT:=fun _ _=>by kernel_rfl
 mL:=fun _ _=>by kernel_rfl
 mA:=fun _ _=>by kernel_rfl
 eE:=fun _ _=>by kernel_rfl
 eN:=fun _ _=>by kernel_rfl
 eT:=fun _ _=>by kernel_rfl
 eL:=fun _ _=>by kernel_rfl
 eA:=fun _ _=>by kernel_rfl
 cE:=by
  rintro Fr d u k hk ⟨osl,h⟩
  exact (Qfz k (by omega) h).mono fun e u'=>Qac
 cN:=by
  rintro Fr d u cs n hN ⟨osl,h⟩
  exact (QdK hN hw h).mono fun e u'=>Qac
 cT:=by
  rintro Fr d u n f h0 h1 ⟨osl,h⟩
  exact (Qhn n f h0 h1 h).mono fun e u'=>Qac
 cL:=by
  rintro Fr d u n f h0 h1 ⟨osl,h⟩
  exact (Qho n f h0 h1 h).mono fun e u'=>Qac
 cA:=by
  rintro Fr d u cs n m ws ov o hN hm ho nd ⟨osl,h⟩
  exact (QiO hN hm ho nd hw h).mono fun e u'=>Qac
 small:=Qhp
theorem QW.fresh {w u:World} (hk:Qb [] w u) {nsl:Value} {v:List QQ} (hn:Q2P w nsl v) {dep fuel size:Nat} (hl:size≤100000∧fuel≤10000):QW w u.heap.size [] nsl v dep fuel size ⟨0,[]⟩ (.slice none 0 0) (u.alloc (.cells #[nsl,.int .i64 0,.int .i64 dep,.int .i64 fuel,.int .i64 size,.slice none 0 0] 135)):=by
 refine ⟨⟨hk.alloc _,?_,?_,?_,?_,?_,?_,?_,?_⟩,Qg rfl,⟨rfl,Or.inl ⟨rfl,rfl⟩⟩,hn,by simp,by simp,hl⟩
 ·intro y hy
  simp [Value.ownBlock] at hy
  subst hy
  exact hk.size
 ·intro y hy
  simp [Value.ownBlock] at hy
  subst hy
  simp
 ·simp [Value.ownBlock]
 ·intro p hp;cases hp
 ·intro p hp;cases hp
 ·simp
 ·intro p hp;cases hp
 ·intro p hp;cases hp
theorem QfA {w u:World} {D:Nat} {Fr:List (Nat×Obj)} {nsl:Value} {v:List QQ} {dep fuel size:Nat} {e:ESt} {osl:Value} (h:QW w D Fr nsl v dep fuel size e osl u) (u':World) (hk:Qb [] u u'):(convert 90 9 osl).run Tryz.prog u' = .ok (.string ⟨e.out.toArray⟩) u':=by
 have hrow:=Qk h.row hk (by simp)
 rcases hrow.2 with ⟨rfl,h0⟩ | ⟨g,cap,cur,rfl,h1,h2,h3,h4,h5,h6⟩
 ·have he:e.out=[]:=List.length_eq_zero_iff.1 h0
  rw [he,run_convert_bytes_string u' 90 9 5 none 0 0 Tryz.underlying90 Tryz.underlying5 Tryz.underlying9]
  simp [Conv.bytesToString]
  rfl
 ·refine run_convert_bytes_back u' 90 9 5 ⟨g,0,none⟩ cap e.out Tryz.underlying90 Tryz.underlying5 Tryz.underlying9 fun j hj=>?_
  have hadd:(⟨g,0,none⟩:Addr).add j=⟨g,j,none⟩:=by unfold Addr.add;split<;>simp_all
  rw [hadd]
  exact Qs h2 (xs:=e.out.map Q1d) (by simpa using h6) (by rw [List.getElem?_map,List.getElem?_eq_getElem hj];rfl)
def Q8A (w:World) (r:Except Mar.Fault (List UInt8)) (e:Ending) (u':World):Prop:=
 (∃ b,r = .ok b∧e = .returned (.string ⟨b.toArray⟩)∧Qb [] w u')∨(∃ f,r = .error f∧Qb [] w u'∧Q0c w f.no f.at' e u')
theorem Q8A.throws {w u u':World} {r:Except Mar.Fault (List UInt8)} {f:Mar.Fault} {g:Nat} (hr:r = .error f) (hk:Qb [] w u) (hb:Qb [] u u') (hg:u.heap.size≤g) (hc:u'.heap[g]? = some (.cells #[.int .i64 f.no,.int .i64 f.at'] 83)) :
  Q8A w r (.panicked [{ v:=.iface 79 (.pointer (some ⟨g,0,none⟩)),recovered:=false }]) u':=
 Or.inr ⟨f,hr,hk.trans hb,g,Nat.le_trans hk.size hg,rfl,hc⟩
theorem QiP {w:World} {bs:List (Nat×Obj)} {c:List Qj} {v nsl:Value} {l:List QQ} {dep fuel size start N:Nat} {z:Except Mar.Fault ESt} (hc:Q2N bs v c) (hw:∀ p∈bs,w.heap[p.1]? = some p.2) (hg:∀ x∈c,Q1w x) (hfu:fuel≤10000) (hsz:size≤100000) (hn:Q2P w nsl l) (hr:runN (encW l dep fuel size) c N ⟨start,[],[]⟩ ⟨0,[]⟩=some z) :
  Calls Tryz.prog 33 #[v,.int .i64 start,nsl,.agg #[.int .i64 dep,.int .i64 fuel,.int .i64 size]] w (Q8A w (thenE z fun e=>if e.next < l.length then .error ⟨12,e.next⟩ else .ok e.out)):=by
 generalize hR:(thenE z fun e=>if e.next < l.length then Except.error ⟨12,e.next⟩ else .ok e.out)=R
 obtain ⟨ad,cap,rfl,hlc,hcm,_⟩:=id hn
 have HC:=Hid.mk hc
 have HW:=Hid.mk hw
 have HG:=Hid.mk hg
 have HR:=Hid.mk hr
 have hR':=Hid.mk hR
 have J0:Hid (∀ o1,(encZ HW.out (w.heap.size + 1) (.slice ad l.length cap) l dep fuel size).J [] ⟨0,[]⟩ ((w.alloc o1).alloc (.cells #[.slice ad l.length cap,.int .i64 0,.int .i64 dep,.int .i64 fuel,.int .i64 size,.slice none 0 0] 135))):=by
  intro o1
  have h:=QW.fresh (u:=w.alloc o1) ((Qb.refl [] w).alloc o1) hn (dep:=dep) (fuel:=fuel) (size:=size) ⟨hsz,hfu⟩
  have e:(w.alloc o1).heap.size=w.heap.size + 1:=by simp
  rw [e] at h
  exact ⟨_,h⟩
 clear hc hw hg hr hR hn
 go_enter Tryz.func33,Tryz.ntmps33
 go_wp2_with fail
 refine (Qe7 (Z:=encZ HW.out (w.heap.size + 1) (.slice ad l.length cap) l dep fuel size) (Fr:=[]) (d:=⟨0,[]⟩) HC.out HW.out HG.out (J0.out _) HR.out).mono ?_
 rintro e w2 (⟨_,e2,hx,rfl,osl,M2⟩ | ⟨f,hx,hk,g,hg,rfl,hc⟩)
 rotate_left
 ·exact Qa (Or.inr ⟨f,by rw [← hR'.out,Q5f hx];rfl,hk,g,hg,rfl,hc⟩)
 have E0:Hid (R=if e2.next < l.length then Except.error ⟨12,e2.next⟩ else .ok e2.out):=by show _=_;rw [← hR'.out,Q6b hx];rfl
 obtain ⟨c0,c1,c2,c3,c4,c5,hfz,hlt⟩:=Q0j M2.box
 have hcv:=QfA M2 w2 (Qb.refl [] _)
 have hf2:=M2.few
 have H2:=Hid.mk M2.own.kp
 clear M2 hx J0 hR'
 by_cases ht:e2.next < l.length
 ·have E:Hid (R = .error ⟨12,e2.next⟩):=by show _=_;rw [E0.out,if_pos ht]
  have hti:(e2.next:Int) < (l.length:Int):=by omega
  clear E0
  go_wp2_with (go_at_call 47;refine (QY _ _ _).mono ?_;rintro e w' ⟨rfl,rfl⟩)
  exact Qa (Q8A.throws (f:=⟨12,e2.next⟩) E.out H2.out ((Qb.refl [] _).alloc _) (Nat.le_refl _) (Qg rfl))
 ·have E:Hid (R = .ok e2.out):=by show _=_;rw [E0.out,if_neg ht]
  have hti:(l.length:Int)≤(e2.next:Int):=by omega
  clear E0 ht
  go_wp2
  go_ret
  exact Or.inl ⟨_,E.out,rfl,H2.out⟩
theorem Q2P.keeps {w w':World} {nsl:Value} {v:List QQ} (h:Q2P w nsl v) (hk:Qb [] w w'):Q2P w' nsl v:=by
 obtain ⟨ad,cap,h1,h2,h3,h4⟩:=h
 refine ⟨ad,cap,h1,h2,h3,fun k x hx=>?_⟩
 obtain ⟨g,o,e1,⟨n0,n1,n2,n3,n4⟩⟩:=h4 k x hx
 have hb:∀ i,w'.cell? ⟨g,i,none⟩=w.cell? ⟨g,i,none⟩:=fun i=>World.cell?_of_block (hk.block g (Q1g n0) (by simp))
 exact ⟨g,o,e1,⟨(hb _).trans n0,(hb _).trans n1,(hb _).trans n2,(hb _).trans n3,(hb _).trans n4⟩⟩
theorem Qhq (v:List QQ) (dep fuel size:Nat):(encW v dep fuel size).Fair:=by
 intro n w d k d' h
 obtain ⟨p,h1,h⟩:=QV h
 obtain ⟨e,_,h⟩:=QV h
 cases h
 have:=(Q2C h1).2.2
 simp only [Q3P] at this
 cases hw:w p.1.n with
 | none=>simp [hw] at this
 | some q=>rfl
theorem Qhr (v:List QQ) {dep:Nat} (fuel size:Nat) (hd:dep≤64):∀ k e,64≤k→∃ f,(encW v dep fuel size).enter k e = .error f:=fun _ _ hk=>⟨_,if_pos (by omega)⟩
theorem Qhs {w:World} {base:Nat} {T:TypeId} {v:Value} {ns:List Q2n} (h:w.ownsRow base T 5 v ns.length (ns.flatMap Q2A)):Q2P w v (ns.map toG):=by
 obtain ⟨hl,h⟩:=h
 rcases h with ⟨rfl,h0⟩ | ⟨g,cap,cur,rfl,hb,hc,h1,h2,h3,h4⟩
 ·have hn:ns=[]:=by
   cases ns with
   | nil=>rfl
   | cons x xs=>simp at h0
  subst hn
  exact ⟨none,0,rfl,by simp,by simp,fun k x hx=>by simp at hx⟩
 ·refine ⟨some ⟨g,0,none⟩,cap,by simp,by simpa using h1,h2,fun k y hy=>?_⟩
  rw [List.getElem?_map] at hy
  cases hx:ns[k]? with
  | none=>rw [hx] at hy;cases hy
  | some x=>
   rw [hx] at hy
   cases hy
   refine ⟨g,0,rfl,?_⟩
   rw [← hl] at h4
   have key:∀ j,j < 5→∀ v,(Q2A x)[j]? = some v→w.cell? ⟨g,0 + k * 5 + j,none⟩=some v:=fun j hj v hv=>by
    rw [Nat.zero_add]
    exact Qs hc h4 (by rw [Qfv ns k x j hx hj,hv])
   exact ⟨key 0 (by omega) _ rfl,key 1 (by omega) _ rfl,key 2 (by omega) _ rfl,key 3 (by omega) _ rfl,key 4 (by omega) _ rfl⟩
end Go.Proofs.YtmbcibgknckenaaGreatDoor
namespace Go.Proofs.YtmbcibgknckenaaGreatDoor
theorem QaV {κ α β:Type} [DecidableEq κ] (f:α→β) (l:List (κ×α)) (k:κ):Qy (l.map fun p=>(p.1,f p.2)) k=(Qy l k).map f:=by
 unfold Qy
 induction l with
 | nil=>rfl
 | cons x l ih=>
  simp only [List.map_cons,List.find?_cons]
  cases x.1 == k with
  | true=>rfl
  | false=>exact ih
structure Q77 (ds:List DefL) (dep fuel size p:Nat):Prop where
 dec:∀ b,∃ N,runN (decW b dep fuel) (Q09 ds).1 N ⟨p,[],[]⟩ ⟨0,[]⟩=some (Q53 ds (decW b dep fuel) p ⟨0,[]⟩)
 enc:∀ l,∃ N,runN (encW l dep fuel size) (Q09 ds).1 N ⟨p,[],[]⟩ ⟨0,[]⟩=some (Q53 ds (encW l dep fuel size) p ⟨0,[]⟩)
def Qad (c:List Qj) (starts:List (List UInt8×Nat)) (p:Nat):Bool:=match c[p]? with
 | some .fin=>true
 | some (.call k)=>(match c[p + 1]? with | some .fin=>true | _=>false) && starts.any (Qa4 c k)
 | _=>false
theorem QcO {τ:Type} {W:Wk τ} (hf:W.Fair) (hE:∀ k d,64≤k→∃ f,W.enter k d = .error f) {ds:List DefL} (hW:Whole ds) (nd:((Q09 ds).2.map (·.1)).Nodup) {p:Nat} (h:Qad (Q09 ds).1 (Q09 ds).2 p=true) (d:τ):∃ N,runN W (Q09 ds).1 N ⟨p,[],[]⟩ d=some (Q53 ds W p d):=by
 unfold Qad at h
 split at h
 ·rename_i hc
  refine ⟨1,?_⟩
  have e:Q53 ds W p d = .ok d:=by unfold Q53;simp only [hc]
  rw [e]
  show runN _ _ (0 + 1) _ _=_
  unfold runN
  simp only [hc]
 ·rename_i k hc
  obtain ⟨B,ha,hs⟩:=Qib hW
  rw [Bool.and_eq_true,List.any_eq_true] at h
  obtain ⟨h1,s0,hs0,h2⟩:=h
  have h3:(Q09 ds).1[p + 1]? = some .fin:=by
   split at h1
   ·assumption
   ·cases h1
  cases hfi:(Q09 ds).2.find? (Qa4 (Q09 ds).1 k) with
  | none=>
   have:=List.find?_eq_none.1 hfi s0 hs0
   exact absurd h2 this
  | some s=>
   have e:Q53 ds W p d=Q5v W (Q22 ds) 64 0 s.1 d:=by unfold Q53;simp only [hc,hfi]
   rw [e]
   have hb:=List.find?_some hfi
   have hs1:=List.mem_of_find?_eq_some hfi
   have hn:=hs s.1
   rw [Q9Y nd hs1 rfl] at hn
   have h4:k=B s.1:=by
    simp only [Qa4,hn.2.1,beq_iff_eq] at hb
    exact hb.symm
   rw [h4] at hc
   exact Qgu hf hE ha hn.1 hc h3 d
 ·cases h
theorem QaW {ds:List DefL} (hW:Whole ds) (nd:((Q09 ds).2.map (·.1)).Nodup) {p:Nat} (h:Qad (Q09 ds).1 (Q09 ds).2 p=true) {dep:Nat} (fuel size:Nat) (hd:dep≤64):Q77 ds dep fuel size p:=
 ⟨fun b=>QcO (Qhf b dep fuel) (Qhg b fuel hd) hW nd h _,fun l=>QcO (Qhq l dep fuel size) (Qhr l fuel size hd) hW nd h _⟩
structure Q8B (ds:List DefL) (dep fuel size:Nat):Prop where
 vers:∀ a g,Qy (Q3k ds).2 a=some g→(g.vs.map (·.1)).Nodup
 procs:∀ a g b v,Qy (Q3k ds).2 a=some g→Qy g.vs b=some v→(v.map (·.1)).Nodup
 range:∀ a g,Qy (Q3k ds).2 a=some g→0≤g.lo∧g.lo < 4294967296∧0≤g.hi∧g.hi < 4294967296
 ends:∀ a g b v c p,Qy (Q3k ds).2 a=some g→Qy g.vs b=some v→Qy v c=some p→Q77 ds dep fuel size p.1∧Q77 ds dep fuel size p.2
theorem QfB:((Q3k Q0g).2.all fun g=>decide (g.2.vs.map (·.1)).Nodup && (decide (0≤g.2.lo) && decide (g.2.lo < 4294967296) && decide (0≤g.2.hi) && decide (g.2.hi < 4294967296)) && g.2.vs.all fun v=>decide (v.2.map (·.1)).Nodup && v.2.all fun q=>Qad (Q09 Q0g).1 (Q09 Q0g).2 q.2.1 && Qad (Q09 Q0g).1 (Q09 Q0g).2 q.2.2)=true:=by kernel_rfl
theorem QfC (nd:((Q09 Q0g).2.map (·.1)).Nodup) {dep:Nat} (fuel size:Nat) (hd:dep≤64):Q8B Q0g dep fuel size:=by
 have key:=fun q1 m1=>List.all_eq_true.1 QfB q1 m1
 simp only [Bool.and_eq_true,decide_eq_true_eq,List.all_eq_true] at key
 refine ⟨?_,?_,?_,?_⟩
 ·intro a g h1
  obtain ⟨q1,m1,_,rfl⟩:=Q25 h1
  exact (key q1 m1).1.1
 ·intro a g b v h1 h2
  obtain ⟨q1,m1,_,rfl⟩:=Q25 h1
  obtain ⟨q2,m2,_,rfl⟩:=Q25 h2
  exact ((key q1 m1).2 q2 m2).1
 ·intro a g h1
  obtain ⟨q1,m1,_,rfl⟩:=Q25 h1
  obtain ⟨⟨⟨x1,x2⟩,x3⟩,x4⟩:=(key q1 m1).1.2
  exact ⟨x1,x2,x3,x4⟩
 ·intro a g b v c p h1 h2 h3
  obtain ⟨q1,m1,_,rfl⟩:=Q25 h1
  obtain ⟨q2,m2,_,rfl⟩:=Q25 h2
  obtain ⟨q3,m3,_,rfl⟩:=Q25 h3
  have h:=((key q1 m1).2 q2 m2).2 q3 m3
  exact ⟨QaW Qaa nd h.1 fuel size hd,QaW Qaa nd h.2 fuel size hd⟩
end Go.Proofs.YtmbcibgknckenaaGreatDoor
namespace Go.Proofs.YtmbcibgknckenaaGreatDoor
open Go.RowKit
open Go.MapKept
theorem Q0L {α β:Type} {r:Except Mar.Fault α} {x:α} (h:r = .ok x) (f:α→Except Mar.Fault β):thenE r f=f x:=by rw [h];rfl
theorem Q4p {α β:Type} {r:Except Mar.Fault α} {e:Mar.Fault} (h:r = .error e) (f:α→Except Mar.Fault β):thenE r f = .error e:=by rw [h];rfl
structure Q1T (C:Nat) (b:List UInt8) (p:Nat) (u:World):Prop where
 box:u.heap[C]? = some (.cells #[.string ⟨b.toArray⟩,.int .i64 p] 139)
 pos:p≤b.length
 len:b.length≤100000
def Q2Q {α:Type} (C:Nat) (b:List UInt8) (u:World) (r:Except Mar.Fault (α×DSt)) (V:α→Value) (e:Ending) (u':World):Prop:=
 (∃ a d',r = .ok (a,d')∧d'.nodes=[]∧e = .returned (V a)∧Q1T C b d'.pos u'∧Qb [C] u u')∨(∃ f,r = .error f∧Qb [C] u u'∧Q0c u f.no f.at' e u')
theorem Q1T.cells {C:Nat} {b:List UInt8} {p:Nat} {u:World} (h:Q1T C b p u):u.cell? ⟨C,0,none⟩=some (.string ⟨b.toArray⟩)∧u.cell? ⟨C,1,none⟩=some (.int .i64 p)∧(∀ i,u.frozen? ⟨C,i,none⟩=false)∧C < u.heap.size:=by
 refine ⟨?_,?_,?_,Qc h.box⟩<;>simp [World.cell?,World.frozen?,h.box]
theorem Q1T.keep {C:Nat} {b:List UInt8} {p:Nat} {M:List Nat} {u u':World} (h:Q1T C b p u) (hk:Qb M u u') (hm:C ∉ M):Q1T C b p u':=⟨(hk.block _ (Qc h.box) hm).trans h.box,h.pos,h.len⟩
theorem Q1T.move {C:Nat} {b:List UInt8} {p:Nat} {u:World} (h:Q1T C b p u) {q:Nat} (hq:q≤b.length):Q1T C b q (u.setCell ⟨C,1,none⟩ (.int .i64 q)):=⟨Qn (i:=1) h.box _,hq,h.len⟩
theorem Q2Q.throws {α:Type} {C:Nat} {b:List UInt8} {u u':World} {r:Except Mar.Fault (α×DSt)} {V:α→Value} {f:Mar.Fault} {g:Nat} (hr:r = .error f) (hb:Qb [C] u u') (hg:u.heap.size≤g) (hc:u'.heap[g]? = some (.cells #[.int .i64 f.no,.int .i64 f.at'] 83)) :
  Q2Q C b u r V (.panicked [{ v:=.iface 79 (.pointer (some ⟨g,0,none⟩)),recovered:=false }]) u':=
 Or.inr ⟨f,hr,hb,g,hg,rfl,hc⟩
theorem Qkv {C:Nat} {b:List UInt8} {p:Nat} {u:World} (h:Q1T C b p u) :
  Calls Tryz.prog 64 #[.pointer (some ⟨C,0,none⟩)] u fun e u'=>e = .returned (.int .i64 p)∧u'=u:=by
 obtain ⟨c0,c1,hfz,hlt⟩:=h.cells
 clear h
 go_enter Tryz.func64,Tryz.ntmps64
 go_wp2
 go_ret
 exact ⟨rfl,rfl⟩
theorem QjS {C:Nat} {b:List UInt8} {p:Nat} {u:World} (h:Q1T C b p u) :
  Calls Tryz.prog 63 #[.pointer (some ⟨C,0,none⟩)] u fun e u'=>e = .returned (.int .i64 ((b.length:Int) - p))∧u'=u.drew:=by
 obtain ⟨c0,c1,hfz,hlt⟩:=h.cells
 have hp:=h.pos
 have hl:=h.len
 clear h
 go_enter Tryz.func63,Tryz.ntmps63
 go_wp2
 go_region
 go_wp2
 go_ret
 exact ⟨rfl,rfl⟩
theorem Q7z (b:List UInt8) (p:Nat):(⟨b.toArray⟩:ByteArray).extract p b.length=⟨(b.drop p).toArray⟩:=by
 apply ByteArray.ext
 simp only [ByteArray.data_extract]
 apply Array.ext'
 simp [Array.toList_extract,List.extract]
 exact List.take_of_length_le (by simp)
theorem QjT {C:Nat} {b:List UInt8} {p:Nat} {u:World} (h:Q1T C b p u) :
  Calls Tryz.prog 82 #[.pointer (some ⟨C,0,none⟩)] u fun e u'=>e = .returned (.string ⟨(b.drop p).toArray⟩)∧Qb [] u u':=by
 obtain ⟨c0,c1,hfz,hlt⟩:=h.cells
 have hp:=h.pos
 have hl:=h.len
 have h1:(0:Int)≤p:=by omega
 have h2:(p:Int)≤b.length:=by omega
 clear h
 go_enter Tryz.func82,Tryz.ntmps82
 go_wp2
 go_region
 go_wp2
 go_ret
 refine ⟨?_,(Qb.refl [] u).drew⟩
 show Ending.returned (.string ((⟨b.toArray⟩:ByteArray).extract p b.length))=_
 rw [Q7z]
theorem Qea {C:Nat} {b:List UInt8} {p:Nat} {u:World} (k:Nat) (hk:k≤8589934592) (h:Q1T C b p u) :
  Calls Tryz.prog 108 #[.pointer (some ⟨C,0,none⟩),.int .i64 k] u (Q2Q C b u (Q23 b k ⟨p,[]⟩) fun l=>.string ⟨l.toArray⟩):=by
 obtain ⟨c0,c1,hfz,hlt⟩:=h.cells
 have hp:=h.pos
 have hl:=h.len
 have VL:=Hid.mk (QjS h)
 have H:=Hid.mk h
 clear h
 by_cases hs:b.length < p + k
 ·have E:Hid (Q23 b k ⟨p,[]⟩ = .error ⟨16,p⟩):=by show _=_;unfold Q23;rw [if_pos hs]
  have hc:(b.length:Int) - p < (k:Int):=by omega
  go_enter Tryz.func108,Tryz.ntmps108
  go_wp2_with fail
  refine VL.out.mono ?_
  rintro e w1 ⟨rfl,rfl⟩
  go_wp2_with (go_at_call 47;refine (QY _ _ _).mono ?_;rintro e w' ⟨rfl,rfl⟩)
  exact Qa (Q2Q.throws (f:=⟨16,p⟩) E.out (((Qb.refl [C] u).drew).alloc _) (Nat.le_refl _) (Qg rfl))
 ·have E:Hid (Q23 b k ⟨p,[]⟩ = .ok ((b.drop p).take k,⟨p + k,[]⟩)):=by show _=_;unfold Q23;rw [if_neg hs]
  have hc:(k:Int)≤(b.length:Int) - p:=by omega
  have h1:(0:Int)≤p:=by omega
  have h2:(p:Int)≤(p:Int) + k:=by omega
  have h3:(p:Int) + k≤b.length:=by omega
  go_enter Tryz.func108,Tryz.ntmps108
  go_wp2_with fail
  refine VL.out.mono ?_
  rintro e w1 ⟨rfl,rfl⟩
  go_wp2
  go_region
  go_wp2
  go_ret
  refine Or.inl ⟨_,_,E.out,rfl,?_,?_,?_⟩
  ·show Ending.returned (.string ((⟨b.toArray⟩:ByteArray).extract p (p + k)))=_
   rw [Q8e]
  ·have:=(H.out.keep ((Qb.refl [] _).drew) (by simp)).keep ((Qb.refl [] _).drew) (by simp)
   have e1:((p:Int) + k)=((p + k:Nat):Int):=by omega
   rw [e1]
   exact this.move (by show p + k≤_;omega)
  ·exact (((Qb.refl [C] u).drew).drew).setIn (p:=⟨C,1,none⟩) (by simp) _
theorem Q3Q {C:Nat} {b:List UInt8} {p:Nat} {u:World} (h:Q1T C b p u) :
  Calls Tryz.prog 76 #[.pointer (some ⟨C,0,none⟩)] u (Q2Q C b u (Q1r b ⟨p,[]⟩) fun v=>.int .u32 v):=by
 have VT:=Hid.mk (Qea 4 (by omega) h)
 go_enter Tryz.func76,Tryz.ntmps76
 go_wp2_with fail
 refine VT.out.mono ?_
 rintro e w1 (⟨l,d1,hx,hn1,rfl,M1,hk1⟩ | ⟨f,hx,hk,g,hg,rfl,hc⟩)
 rotate_left
 ·exact Qa (Or.inr ⟨f,by unfold Q1r;rw [hx];rfl,hk,g,hg,rfl,hc⟩)
 have hl:=(Q3l hx).2.2.2.2
 have hlt:=Q4l hl
 have E:Hid (Q1r b ⟨p,[]⟩ = .ok (bigL l,d1)):=by show _=_;unfold Q1r;rw [hx];rfl
 have M1:=Hid.mk M1
 have K1:=Hid.mk hk1
 have N1:=Hid.mk hn1
 clear hx VT hk1 hn1
 go_wp2_with fail
 refine (Qay l (by omega) w1).mono ?_
 rintro e w2 ⟨rfl,rfl⟩
 go_wp2
 go_ret
 exact Or.inl ⟨bigL l,d1,E.out,N1.out,by simp [IntKind.wrap_u32],M1.out,K1.out⟩
theorem Qht {C:Nat} {b:List UInt8} {p:Nat} {u:World} (n:Nat) (hn2:n≤4294967295) (h:Q1T C b p u) :
  Calls Tryz.prog 147 #[.pointer (some ⟨C,0,none⟩),.int .i64 n] u (Q2Q C b u (Q0U b n ⟨p,[]⟩) fun l=>.string ⟨l.toArray⟩):=by
 obtain ⟨c0,c1,hfz,hlt⟩:=h.cells
 have hpl:Q0a n≤n + 3:=by unfold Q0a;omega
 have hpn:n≤Q0a n:=by unfold Q0a;omega
 have VT:=Hid.mk (Qea (Q0a n) (by omega) h)
 have e1:((n:Int) + 3) / 4 * 4=(Q0a n:Int):=by unfold Q0a;omega
 have hpos:=h.pos
 have hln:=h.len
 clear h
 go_enter Tryz.func147,Tryz.ntmps147
 go_wp2_with fail
 refine VT.out.mono ?_
 rintro e w1 (⟨l,d1,hx,hn1,rfl,M1,hk1⟩ | ⟨f,hx,hk,g,hg,rfl,hc⟩)
 rotate_left
 ·exact Qa (Or.inr ⟨f,by unfold Q0U;rw [hx];rfl,hk,g,hg,rfl,hc⟩)
 have hl:l.length=Q0a n:=(Q3l hx).2.2.2.2
 have E0:Hid (Q0U b n ⟨p,[]⟩=match Q1t n (l.drop n) with | some i=>.error ⟨17,p + i⟩ | none=>.ok (l.take n,d1)):=by show _=_;unfold Q0U;rw [hx];rfl
 have M1:=Hid.mk M1
 have hk1:Hid (Qb [C] u w1):=hk1
 have hn1:=Hid.mk hn1
 have hnl:n≤l.length:=by omega
 have hl9:l.length≤4294967300:=by omega
 clear hx VT hl hpl hpn e1
 go_wp2
 go_loopw [7] (fun i ur=>∃ j:Nat,i = .int .i64 j∧n≤j∧j≤l.length∧Hid (Q1t n (l.drop n)=Q1t j (l.drop j))∧ur=w1) (fun i _=>l.length - (intOf i).toNat)
 case atStart=>exact ⟨n,rfl,Nat.le_refl _,hnl,rfl,rfl⟩
 case round=>
  obtain ⟨j,rfl,hnj,hj,HB,rfl⟩:=hrel
  rcases Nat.lt_or_ge j l.length with hlt' | hge
  ·have hj0:(0:Int)≤↑j:=by omega
   have hj1:(↑j:Int) < ↑l.length:=by omega
   have hcx:(⟨l.toArray⟩:ByteArray)[j]'(by simp [ByteArray.size];exact hlt')=l[j]:=rfl
   by_cases hz:l[j]=0
   ·have HB2:=Hid.mk (Q8P hlt' HB.out hz)
    have hb:((l[j].toNat:Int) != 0)=false:=by rw [hz];rfl
    clear HB
    go_wp2
    exact ⟨⟨j + 1,by go_num,by omega,hlt',HB2,trivial⟩,by simp [intOf];omega⟩
   ·have E1:Hid (Q0U b n ⟨p,[]⟩ = .error ⟨17,p + j⟩):=by show _=_;rw [E0.out,Qa7 hlt' HB.out hz]
    have hb:((l[j].toNat:Int) != 0)=true:=by
     have:l[j].toNat≠0:=fun e=>hz (UInt8.toNat_inj.1 (by simpa using e))
     simp
     omega
    clear HB hz E0
    go_wp2_with (go_at_call 47;refine (QY _ _ _).mono ?_;rintro e w' ⟨rfl,rfl⟩)
    have ec:((p:Int) + j)=((p + j:Nat):Int):=by omega
    exact (show bodyPost Tryz.prog Tryz.f147 (Q2Q C b u (Q0U b n ⟨p,[]⟩) fun l=>.string ⟨l.toArray⟩) (Exit.panic _) _ _ from Qa (Q2Q.throws (f:=⟨17,p + j⟩) E1.out (hk1.out.alloc _) hk1.out.size (by rw [ec];exact Qg rfl)))
  ·have hjj:j=l.length:=by omega
   subst hjj
   have E1:Hid (Q0U b n ⟨p,[]⟩ = .ok (l.take n,d1)):=by
    show _=_
    rw [E0.out,HB.out,List.drop_length]
    rfl
   clear HB E0
   have VC:=fun w=>Q56 ⟨(l.take n).toArray⟩ w (by simp [ByteArray.size];omega)
   have hn0:(0:Int)≤↑n:=by omega
   have hn1':(↑n:Int)≤↑l.length:=by omega
   go_wp2_with fail
   rw [Q1L]
   refine (VC _).mono ?_
   rintro e w2 ⟨rfl,hb2⟩
   have M2:=Hid.mk (M1.out.keep (Qb.of_below [] hb2) (by simp))
   have K2:=Hid.mk (hk1.out.trans (Qb.of_below [C] hb2))
   go_wp2
   go_ret
   exact Or.inl ⟨l.take n,d1,E1.out,hn1.out,rfl,M2.out,K2.out⟩
theorem Q8S {C:Nat} {b:List UInt8} {p:Nat} {u:World} (h:Q1T C b p u) :
  Calls Tryz.prog 111 #[.pointer (some ⟨C,0,none⟩)] u (Q2Q C b u (Q7q b ⟨p,[]⟩) fun _=>.tuple #[]):=by
 have VT:=Hid.mk (Q3Q h)
 clear h
 go_enter Tryz.func111,Tryz.ntmps111
 go_wp2_with fail
 refine VT.out.mono ?_
 rintro e w1 (⟨l,d1,hx,hn1,rfl,M1,hk1⟩ | ⟨f,hx,hk,g,hg,rfl,hc⟩)
 rotate_left
 ·exact Qa (Or.inr ⟨f,by unfold Q7q;rw [hx];rfl,hk,g,hg,rfl,hc⟩)
 obtain ⟨q1,n1⟩:=d1
 simp only at hn1 M1
 subst hn1
 have VA:=Hid.mk (Qkv M1)
 have VW:=Hid.mk (Q3Q M1)
 have E1:=Hid.mk hx
 have K1:=Hid.mk hk1
 clear hx VT hk1 M1
 go_wp2_with fail
 refine VA.out.mono ?_
 rintro e w2 ⟨rfl,rfl⟩
 go_wp2_with fail
 refine VW.out.mono ?_
 rintro e w2 (⟨k,d2,hx,hn2,rfl,M2,hk2⟩ | ⟨f,hx,hk,g,hg,rfl,hc⟩)
 rotate_left
 ·exact Qa (Or.inr ⟨f,(Q0L E1.out _).trans (Q4p hx _),K1.out.trans hk,g,Nat.le_trans K1.out.size hg,rfl,hc⟩)
 obtain ⟨q2,n2⟩:=d2
 simp only at hn2 M2
 subst hn2
 have hk4:=(Qa5 hx).2.2.2
 have K2:=Hid.mk (K1.out.trans hk2)
 by_cases h4:400 < k
 ·have E:Hid (Q7q b ⟨p,[]⟩ = .error ⟨19,q1⟩):=by
   exact (Q0L E1.out _).trans ((Q0L hx _).trans (if_pos h4))
  have hc:(400:Int) < (k:Int):=by omega
  clear hx hk2 VA VW E1 M2
  go_wp2_with (go_at_call 47;refine (QY _ _ _).mono ?_;rintro e w' ⟨rfl,rfl⟩)
  exact Qa (Q2Q.throws (f:=⟨19,q1⟩) E.out (K2.out.alloc _) K2.out.size (Qg rfl))
 ·have VP:=Hid.mk (Qht k (by omega) M2)
  have E2:Hid (Q7q b ⟨p,[]⟩=thenE (Q0U b k ⟨q2,[]⟩) fun r=>.ok ((),r.2)):=by
   exact (Q0L E1.out _).trans ((Q0L hx _).trans (if_neg h4))
  have hc:(k:Int)≤400:=by omega
  clear hx hk2 VA VW E1 M2 h4
  go_wp2_with fail
  refine VP.out.mono ?_
  rintro e w3 (⟨l3,d3,hx,hn3,rfl,M3,hk3⟩ | ⟨f,hx,hk,g,hg,rfl,hc⟩)
  rotate_left
  ·exact Qa (Or.inr ⟨f,by rw [E2.out,hx];rfl,K2.out.trans hk,g,Nat.le_trans K2.out.size hg,rfl,hc⟩)
  have E3:Hid (Q7q b ⟨p,[]⟩ = .ok ((),d3)):=by show _=_;rw [E2.out,hx];rfl
  have K3:=Hid.mk (K2.out.trans hk3)
  have M3:=Hid.mk M3
  have N3:=Hid.mk hn3
  clear hx hk3 hn3 VP E2
  go_wp2
  go_end0
  exact Or.inl ⟨(),d3,E3.out,N3.out,rfl,M3.out,K3.out⟩
theorem QiQ (m:Nat) (hm:m < 4294967296):bits .andNot .u32 (m:Int) 2147483648=((m % 2147483648:Nat):Int):=by
 show IntKind.u32.wrap ((BitVec.ofInt 32 (m:Int) &&& ~~~BitVec.ofInt 32 ((2147483648:Nat):Int)).toNat:Int)=_
 have h1:(BitVec.ofInt 32 (m:Int)).toNat=m:=by rw [BitVec.ofInt_natCast,BitVec.toNat_ofNat];exact Nat.mod_eq_of_lt (by omega)
 have h2:(~~~BitVec.ofInt 32 ((2147483648:Nat):Int)).toNat=2 ^ 31 - 1:=by decide
 rw [BitVec.toNat_and,h1,h2,Nat.and_two_pow_sub_one_eq_mod,IntKind.wrap_u32]
 omega
theorem QiR (m:Nat) (hm:m < 4294967296):bits .and .u32 (m:Int) 2147483648=if 2147483648≤m then 2147483648 else 0:=by
 show IntKind.u32.wrap ((BitVec.ofInt 32 (m:Int) &&& BitVec.ofInt 32 ((2147483648:Nat):Int)).toNat:Int)=_
 have h1:(BitVec.ofInt 32 (m:Int)).toNat=m:=by rw [BitVec.ofInt_natCast,BitVec.toNat_ofNat];exact Nat.mod_eq_of_lt (by omega)
 have h2:(BitVec.ofInt 32 ((2147483648:Nat):Int)).toNat=2 ^ 31:=by decide
 rw [BitVec.toNat_and,h1,h2,IntKind.wrap_u32]
 have h3:m &&& 2 ^ 31=if 2147483648≤m then 2147483648 else 0:=by
  apply Nat.eq_of_testBit_eq
  intro i
  rw [Nat.testBit_and,Nat.testBit_two_pow]
  by_cases hi:31=i
  ·subst hi
   have hb:m.testBit 31=decide (2147483648≤m):=by
    rw [Nat.testBit_eq_decide_div_mod_eq]
    congr 1
    apply propext
    constructor<;>intro h<;>omega
   rw [hb]
   split
   ·rename_i h;simp [h];decide
   ·rename_i h;simp [h]
  ·simp only [hi,decide_false,Bool.and_false]
   split
   ·exact (by rw [show (2147483648:Nat)=2 ^ 31 from rfl,Nat.testBit_two_pow];simp [hi])
   ·simp
 rw [h3]
 split<;>rfl
theorem QjU (n:Nat) (hn:n < 2147483648):bits .or .u32 2147483648 (n:Int)=2147483648 + (n:Int):=by
 show IntKind.u32.wrap ((BitVec.ofInt 32 ((2147483648:Nat):Int) ||| BitVec.ofInt 32 (n:Int)).toNat:Int)=_
 have h1:(BitVec.ofInt 32 (n:Int)).toNat=n:=by rw [BitVec.ofInt_natCast,BitVec.toNat_ofNat];exact Nat.mod_eq_of_lt (by omega)
 have h2:(BitVec.ofInt 32 ((2147483648:Nat):Int)).toNat=1 <<< 31:=by decide
 rw [BitVec.toNat_or,h1,h2,← Nat.shiftLeft_add_eq_or_of_lt (by omega) 1,IntKind.wrap_u32]
 omega
theorem Q7A {base:Nat} {v:Value} {l:List UInt8} {u:World} (hrow:u.ownsRow base 5 1 v l.length (l.map Q1d)):(convert 90 9 v).run Tryz.prog u = .ok (.string ⟨l.toArray⟩) u:=by
 rcases hrow.2 with ⟨rfl,h0⟩ | ⟨g,cap,cur,rfl,h1,h2,h3,h4,h5,h6⟩
 ·have he:l=[]:=List.length_eq_zero_iff.1 h0
  rw [he,run_convert_bytes_string u 90 9 5 none 0 0 Tryz.underlying90 Tryz.underlying5 Tryz.underlying9]
  simp [Conv.bytesToString]
  rfl
 ·refine run_convert_bytes_back u 90 9 5 ⟨g,0,none⟩ cap l Tryz.underlying90 Tryz.underlying5 Tryz.underlying9 fun j hj=>?_
  have hadd:(⟨g,0,none⟩:Addr).add j=⟨g,j,none⟩:=by unfold Addr.add;split<;>simp_all
  rw [hadd]
  exact Qs h2 (xs:=l.map Q1d) (by simpa using h6) (by rw [List.getElem?_map,List.getElem?_eq_getElem hj];rfl)
abbrev Q11 (s:SSt) (hv rv:Value):Obj:=.cells #[.int .i64 s.most,hv,.int .i64 s.left,.bool s.ending,rv,.bool s.closed] 165
abbrev foot (hv rv:Value):List Nat:=hv.ownBlock.toList++rv.ownBlock.toList
structure Q1K (lo S:Nat) (s:SSt) (hv rv:Value) (u:World):Prop where
 box:u.heap[S]? = some (Q11 s hv rv)
 head:u.ownsRow lo 5 1 hv s.head.length (s.head.map Q1d)
 recd:u.ownsRow lo 5 1 rv s.record.length (s.record.map Q1d)
 nd:∀ g,hv.ownBlock=some g→rv.ownBlock≠some g
 lo:lo≤u.heap.size
 most:s.most≤100000
 few:s.record.length + s.left≤100000
 four:s.head.length≤4
theorem Q1K.cells {lo S:Nat} {s:SSt} {hv rv:Value} {u:World} (h:Q1K lo S s hv rv u):u.cell? ⟨S,0,none⟩=some (.int .i64 s.most)∧u.cell? ⟨S,1,none⟩=some hv∧u.cell? ⟨S,2,none⟩=some (.int .i64 s.left)∧u.cell? ⟨S,3,none⟩=some (.bool s.ending)∧u.cell? ⟨S,4,none⟩=some rv∧u.cell? ⟨S,5,none⟩=some (.bool s.closed)∧(∀ i,u.frozen? ⟨S,i,none⟩=false)∧S < u.heap.size:=by
 obtain ⟨h0,h1,h2,h3,h4,h5,h6,h7⟩:=Q0j h.box
 exact ⟨h0,h1,h2,h3,h4,h5,h6,h7⟩
theorem Q42 {lo S n:Nat} {xs:List Value} {s:SSt} {hv rv v:Value} {u:World} (h:u.heap[S]? = some (Q11 s hv rv)) (hr:u.ownsRow lo 5 1 v n xs):v.ownBlock≠some S:=by
 intro e
 rcases hr.2 with ⟨h0,_⟩ | ⟨g',cap,cur,h0,_,h2,_⟩
 ·rw [h0] at e;cases e
 ·rw [h0] at e;cases e;rw [h] at h2;cases h2
theorem Q1K.keep {lo S:Nat} {s:SSt} {hv rv:Value} {M:List Nat} {u u':World} (h:Q1K lo S s hv rv u) (hk:Qb M u u') (hS:S ∉ M) (hm:∀ g∈foot hv rv,g ∉ M):Q1K lo S s hv rv u':=
 ⟨(hk.block _ (Qc h.box) hS).trans h.box,Qk h.head hk (fun g hg=>hm g (by simp [foot,hg])),Qk h.recd hk (fun g hg=>hm g (by simp [foot,hg])),h.nd,Nat.le_trans h.lo hk.size,h.most,h.few,h.four⟩
def Q3R (lo S:Nat) (s:SSt) (F:List Nat) (u u':World):Prop:=∃ hv rv,Q1K lo S s hv rv u'∧Qb (S :: F) u u'∧∀ g∈foot hv rv,g∈F∨u.heap.size≤g
theorem Qkl (k:Nat) (u:World):Calls Tryz.prog 72 #[.int .i64 k] u fun e u'=>e = .returned (.pointer (some ⟨u.heap.size,0,none⟩))∧u'=u.alloc (Q11 ⟨k,[],0,false,[],false⟩ (.slice none 0 0) (.slice none 0 0)):=by
 go_enter Tryz.func72,Tryz.ntmps72
 go_wp2
 go_ret
 exact ⟨rfl,rfl⟩
theorem Qhu {lo S:Nat} {s:SSt} {hv rv:Value} {u:World} (h:u.heap[S]? = some (Q11 s hv rv)):Calls Tryz.prog 46 #[.pointer (some ⟨S,0,none⟩)] u fun e u'=>e = .returned (.bool s.closed)∧u'=u:=by
 obtain ⟨c0,c1,c2,c3,c4,c5,hfz,hlt⟩:=Q0j h
 clear h
 go_enter Tryz.func46,Tryz.ntmps46
 go_wp2
 go_ret
 exact ⟨rfl,rfl⟩
theorem Qhv {lo S:Nat} {s:SSt} {hv rv:Value} {u:World} (h:Q1K lo S s hv rv u) :
  Calls Tryz.prog 75 #[.pointer (some ⟨S,0,none⟩)] u fun e u'=>e = .returned (.string ⟨s.record.toArray⟩)∧Q3R lo S { s with record:=[],ending:=false } (foot hv rv) u u':=by
 obtain ⟨c0,c1,c2,c3,c4,c5,hfz,hlt⟩:=h.cells
 have hcv:=Q7A h.recd
 have H:=Hid.mk h
 obtain ⟨ra,rc,rfl⟩:=Q19 h.recd
 obtain ⟨ha,hc,rfl⟩:=Q19 h.head
 clear h
 go_enter Tryz.func75,Tryz.ntmps75
 go_wp2
 go_ret
 have hk:=(((Qb.refl [S] u).setIn (p:=⟨S,4,none⟩) (by simp) (.slice none 0 0)).setIn (p:=⟨S,3,none⟩) (by simp) (.bool false))
 refine ⟨rfl,.slice ha s.head.length hc,.slice none 0 0,⟨?_,?_,?_,?_,?_,?_,?_,?_⟩,?_,?_⟩
 ·exact Qn (i:=3) (Qn (i:=4) H.out.box (.slice none 0 0)) (.bool false)
 ·exact Qk H.out.head hk (fun g hg hm=>Q42 H.out.box H.out.head (by simp only [List.mem_singleton] at hm;rw [← hm];exact hg))
 ·exact World.ownsRow_nil _ _ _ _
 ·intro g _ e;cases e
 ·exact Nat.le_trans H.out.lo hk.size
 ·exact H.out.most
 ·have:=H.out.few;simp;omega
 ·exact H.out.four
 ·exact hk.mono (by simp)
 ·intro g hg
  exact Or.inl (by simp only [foot,List.mem_append,Option.mem_toList] at hg ⊢;rcases hg with hg | hg;exact Or.inl hg;cases hg)
theorem QcP {base:Nat} {u u3:World} {v:Value} {n:Nat} {xs:List Value} {k:Nat} {news:List Value} {g cap:Nat} (h:Qhk base u v n xs k news g cap u3):Qb v.ownBlock.toList u u3:=by
 obtain ⟨u2,hb,_,hg,_⟩:=h
 exact (Qb.of_below v.ownBlock.toList hb).trans (Q05 hg)
theorem QaX {g cap:Nat} {ws:List Int} {u:World} (hb:u.heap[g]? = some (.cells (ws.map (Value.int .u32)).toArray 161)) (hr:∀ x∈ws,0≤x∧x < 4294967296) (hl:ws.length≤10) (hc:ws.length≤cap) :
  Calls Tryz.prog 77 #[.slice (some ⟨g,0,none⟩) ws.length cap] u fun e u'=>e = .returned (.string ⟨(Q0b ws).toArray⟩)∧Qb [] u u':=by
 have HB:Hid (∀ ur,Qb [] u ur→∀ i (hi:i < ws.length),ur.cell? ⟨g,i,none⟩=some (.int .u32 ws[i])):=by
  intro ur hk i hi
  have:=(hk.block _ (Qc hb) (by simp)).trans hb
  simp [World.cell?,this,hi]
 have HR:=Hid.mk hr
 clear hb hr
 go_enter Tryz.func77,Tryz.ntmps77
 go_wp2
 go_loopw [8,3] (fun i o ur=>∃ k:Nat,i = .int .i64 k∧k≤ws.length∧Hid (ur.ownsRow u.heap.size 5 1 o (Q0b (ws.take k)).length ((Q0b (ws.take k)).map Q1d))∧Hid (Qb [] u ur)) (fun i _ _=>ws.length - (intOf i).toNat)
 case atStart=>exact ⟨0,rfl,by omega,⟨rfl,Or.inl ⟨rfl,rfl⟩⟩,Qb.refl _ _⟩
 case round=>
  obtain ⟨k,rfl,hk,HO,HK⟩:=hrel
  rcases Nat.lt_or_ge k ws.length with hlt | hge
  ·have hk0:(0:Int)≤↑k:=by omega
   have hk1:(↑k:Int) < ↑ws.length:=by omega
   have hcell:=HB.out _ HK.out k hlt
   obtain ⟨x0,x1⟩:=HR.out ws[k] (List.getElem_mem hlt)
   obtain ⟨m,hm⟩:=Int.eq_ofNat_of_zero_le x0
   have hlen:(Q0b (ws.take k)).length≤40:=by rw [Q0H,List.length_take];omega
   obtain ⟨oa,oc,rfl⟩:=Q19 HO.out
   have VA:=Hid.mk (Q76 m (by omega) HO.out HK.out.size (by omega))
   have EW:Hid (Q0b (ws.take (k + 1))=Q0b (ws.take k)++Q3O m):=by
    show _=_
    rw [List.take_succ_eq_append_getElem hlt]
    unfold Q0b
    rw [List.flatMap_append,hm]
    simp
   rw [hm] at hcell
   have HOW:=Hid.mk (fun gg (h:(Value.slice oa (Q0b (ws.take k)).length oc).ownBlock=some gg)=>(Q0z HO.out h).1)
   clear HO hm x0 x1
   go_wp2_with fail
   refine VA.out.mono ?_
   rintro e w2 ⟨g2,cap2,rfl,hG⟩
   have HK2:Hid (Qb [] u w2):=HK.out.young (QcP hG) (fun q hq=>Or.inr (HOW.out q (by simpa using hq)))
   obtain ⟨u2,_,hown,_⟩:=hG
   have HO2:Hid (w2.ownsRow u.heap.size 5 1 (.slice (some ⟨g2,0,none⟩) ((Q0b (ws.take k)).length + 4) cap2) (Q0b (ws.take (k + 1))).length ((Q0b (ws.take (k + 1))).map Q1d)):=by
    show World.ownsRow _ _ _ _ _ _ _
    rw [EW.out,List.length_append,Q7p,List.map_append]
    exact hown
   clear hown VA EW HOW
   go_wp2
   exact ⟨⟨k + 1,by go_num,hlt,HO2,HK2⟩,by simp [intOf];omega⟩
  ·have hkk:k=ws.length:=by omega
   subst hkk
   have hcv:=Q7A HO.out
   obtain ⟨oa,oc,rfl⟩:=Q19 HO.out
   rw [List.take_length] at hcv
   go_wp2
   go_ret
   exact ⟨rfl,HK.out⟩
theorem QfD (ws:List Int) (hr:∀ x∈ws,0≤x∧x < 4294967296) (hl:ws.length≤10) (u:World) (g n cap:Nat) (cs:Array Value) (hg:g=u.heap.size) (hn:n=ws.length) (hcap:n≤cap) (hcs:cs=(ws.map (Value.int .u32)).toArray) :
  Calls Tryz.prog 77 #[.slice (some ⟨g,0,none⟩) n cap] (u.alloc (.cells cs 161)) fun e u'=>e = .returned (.string ⟨(Q0b ws).toArray⟩)∧Qb [] u u':=by
 subst hg hn hcs
 refine (QaX (Qg rfl) hr hl hcap).mono ?_
 rintro e u' ⟨rfl,hk⟩
 exact ⟨rfl,((Qb.refl [] u).alloc _).trans hk⟩
theorem Q5h (a b:List UInt8):(⟨a.toArray⟩:ByteArray)++(⟨b.toArray⟩:ByteArray)=⟨(a++b).toArray⟩:=by
 apply ByteArray.ext
 simp [ByteArray.data_append]
theorem QcQ (r:List UInt8) (hl:r.length≤1000000) (u:World) :
  Calls Tryz.prog 44 #[.string ⟨r.toArray⟩] u fun e u'=>e = .returned (.string ⟨(Q4G r).toArray⟩)∧Qb [] u u':=by
 have VW:=Hid.mk (QfD [2147483648 + (r.length:Int)] (by intro x hx;simp at hx;subst hx;omega) (by simp))
 have hon:=QjU r.length (by omega)
 have hw:IntKind.u32.wrap (r.length:Int)=(r.length:Int):=by rw [IntKind.wrap_u32];omega
 have hfl:((Q0b [2147483648 + (r.length:Int)]).length:Nat)=4:=by rw [Q0H];rfl
 go_enter Tryz.func44,Tryz.ntmps44
 go_wp2_with fail
 refine (VW.out _ _ _ _ _ rfl rfl (by simp) (by simp [hon])).mono ?_
 rintro e w1 ⟨rfl,hk⟩
 have HK:=Hid.mk hk
 clear VW hk
 go_wp2
 go_ret
 exact ⟨by unfold Q4G;rw [Q5h];rfl,HK.out⟩
def Loud (x:Value):Prop:=∃ T v,x = .iface T v∧∀ w,(binOp BinOp.neq 20 (.iface T v) .nilIface).run Tryz.prog w = .ok (.bool true) w
theorem Q7B (v:Value):Loud (.iface 79 v):=⟨_,_,rfl,fun w=>by kernel_rfl⟩
theorem QfE (v:Value):Loud (.iface 50 v):=⟨_,_,rfl,fun w=>by kernel_rfl⟩
theorem QdL (v:Value):Loud (.iface 9 v):=⟨_,_,rfl,fun w=>by kernel_rfl⟩
theorem Qhw (p:Addr) (w:World) :
  CallsD Tryz.prog 110 #[.pointer (some p)] .returning w fun e u' w'=>e = .returned (.tuple #[])∧u' = .returning∧w'=w:=by
 have hn:∀ w,(binOp BinOp.neq 20 .nilIface .nilIface).run Tryz.prog w = .ok (.bool false) w:=fun w=>by kernel_rfl
 refine callsD_of_wpS Tryz.func110 rfl fun c₀ cs hu=>?_
 apply wpS_seq
 apply wpS_region
 simp [wpOpsS,go_sem,recoverD,hu,Tryz.ntmps110,Exit.thenS,hn]
 refine wpS_cond (t:=false) (by simp [Act.eval,Array.replicate]) ?_
 simp only [Bool.false_eq_true,if_false]
 refine wpS_of_wp (wp_skip ?_)
 cases c₀
 simp_all [bodyPostS,results,Tryz.results110]
theorem QdM (P:Nat) (x y:Value) (hx:Loud x) (older:List PanicEntry) (w:World) (h1:w.cell? ⟨P,0,none⟩=some y) (f1:w.frozen? ⟨P,0,none⟩=false) :
  CallsD Tryz.prog 110 #[.pointer (some ⟨P,0,none⟩)] (.panicking ({ v:=x,recovered:=false } :: older)) w fun e u' w'=>
   e = .returned (.tuple #[])∧u' = .panicking ({ v:=x,recovered:=true } :: older)∧w'=w.setCell ⟨P,0,none⟩ (.bool false):=by
 obtain ⟨T,xv,rfl,hn⟩:=hx
 refine callsD_of_wpS Tryz.func110 rfl fun c₀ cs hu=>?_
 apply wpS_seq
 apply wpS_region
 simp [wpOpsS,go_sem,recoverD,hu,Tryz.ntmps110,Exit.thenS,hn]
 refine wpS_cond (t:=true) (by simp [Act.eval,Array.replicate]) ?_
 simp only [if_true]
 refine wpS_of_wp ?_
 go_wp2
 cases c₀
 simp_all [bodyPostS,results,Tryz.results110]
def Qbw (k:Nat) (OK BAD:World→Prop) (e:Ending) (u:World):Prop:=u.heap[k]? = some (.cells #[.bool false] 4)∧((e = .returned (.tuple #[])∧OK u)∨(∃ x,e = .panicked [{ v:=x,recovered:=false }]∧Loud x∧BAD u))
def Qkw (k:Nat) (OK BAD:World→Prop) (e:Ending) (u':World):Prop:=∃ u,((e = .returned (.bool true)∧OK u∧u'=u.setCell ⟨k,0,none⟩ (.bool true))∨(e = .returned (.bool false)∧BAD u∧u'=u.setCell ⟨k,0,none⟩ (.bool false)))
theorem Q6f {f:Nat} {cap:Array Value} {w:World} {OK BAD:World→Prop} (hen:∀ (args:Array Value) (w:World),(callFunc f args).run Tryz.prog w = .ok (.enter f args) w) (h:Calls Tryz.prog f cap (w.alloc (.cells #[.bool false] 4)) (Qbw w.heap.size OK BAD)) :
  Calls Tryz.prog 78 #[.func (.func f) #[] cap] w (Qkw w.heap.size OK BAD):=by
 have hmf:∀ (fn:Fn) (first cap:Array Value) (w:World),(Instr.makeFunc fn first cap).run Tryz.prog w = .ok (.func fn first cap) w:=fun _ _ _ _=>rfl
 have V:=Hid.mk h
 clear h
 go_enter_defers Tryz.func78,Tryz.ntmps78
 go_wp2_with fail
 refine V.out.mono ?_
 rintro e w1 ⟨hb,⟨rfl,hok⟩ | ⟨x,rfl,hl,hbad⟩⟩
 ·have c1:=Qv hb
  have f1:∀ i,w1.frozen? ⟨w.heap.size,i,none⟩=false:=by intro i;simp [World.frozen?,hb]
  have z1:=Hid.mk (Qv (Qn (i:=0) hb (.bool true)))
  have HO:=Hid.mk hok
  clear V hok hb
  go_wp2
  refine leaves_cons (f:=110) (args:=#[.pointer (some ⟨w.heap.size,0,none⟩)]) (by simp) (by simp [go_sem]) ?_
  refine (Qhw _ _).mono ?_
  rintro e u' w'' ⟨rfl,rfl,rfl⟩
  simp only [Leaves,settle]
  refine ⟨.bool true,by simp [results,Tryz.results78,go_sem,z1.out],?_⟩
  exact ⟨w1,Or.inl ⟨rfl,HO.out,rfl⟩⟩
 ·have c1:=Qv hb
  have f1:w1.frozen? ⟨w.heap.size,0,none⟩=false:=by simp [World.frozen?,hb]
  have z1:=Hid.mk (Qv (Qn (i:=0) hb (.bool false)))
  refine leaves_cons (f:=110) (args:=#[.pointer (some ⟨w.heap.size,0,none⟩)]) (by simp) (by simp [go_sem]) ?_
  refine (QdM _ x _ hl [] w1 c1 f1).mono ?_
  rintro e u' w'' ⟨rfl,rfl,rfl⟩
  simp only [Leaves,settle,List.dropWhile_nil]
  refine ⟨.bool false,by simp [results,Tryz.results78,go_sem,z1.out],?_⟩
  exact ⟨w1,Or.inr ⟨rfl,hbad,rfl⟩⟩
theorem Q1x {w:World} {b i:Nat} {cs:Array Value} {T:TypeId} {v:Value} (h:w.heap[b]? = some (.cells cs T)) (hv:cs[i]? = some v):w.cell? ⟨b,i,none⟩=some v:=by
 simp [World.cell?,h,hv]
def QjV (u:World) (r:Option (List QQ)) (e:Ending) (u':World):Prop:=Qb [] u u'∧((∃ ad m cap x,e = .returned (.tuple #[.slice ad m cap,x])∧((∃ v,r=some v∧x = .nilIface∧Q2P u' (.slice ad m cap) v)∨(r=none∧∃ k,x = .iface 50 (.int .i64 k)))) ∨
 (r=none∧∃ x,e = .panicked [{ v:=x,recovered:=false }]∧Loud x))
theorem QdN {u:World} {K n:Nat} (hK:u.heap[K]? = some (.cells #[.int .i64 n] 3)) (hn:n≤1000000) (call nsl:Value) {arg:List Q2n} (ha:Q2P u nsl (arg.map toG)) {a b c:Value} (hcall:call = .agg #[a,b,c]) :
  Calls Tryz.prog 73 #[call,nsl,.pointer (some ⟨K,0,none⟩)] u (QjV u (Q4m n arg)):=by
 subst hcall
 have hKl:=Qc hK
 have HC:Hid (∀ o,(u.alloc o).heap[K]? = some (.cells #[.int .i64 n] 3)):=fun o=>(Below.heap_alloc _ _ _ hKl).trans hK
 have c1:=fun o=>Qv (HC.out o)
 have HA:=Hid.mk ha
 obtain ⟨ad,cap,rfl,_⟩:=id ha
 clear hK ha
 by_cases h0:n=0
 ·subst h0
  have E:Hid (Q4m 0 arg=some (arg.map toG)):=rfl
  go_enter Tryz.func73,Tryz.ntmps73
  go_wp2
  go_ret2
  exact ⟨(Qb.refl [] u).alloc _,Or.inl ⟨_,_,_,_,rfl,Or.inl ⟨_,E.out,rfl,HA.out.keeps ((Qb.refl [] u).alloc _)⟩⟩⟩
 ·by_cases h1:n=1
  ·subst h1
   have E:Hid (Q4m 1 arg=some []):=rfl
   go_enter Tryz.func73,Tryz.ntmps73
   go_wp2
   go_ret2
   exact ⟨(Qb.refl [] u).alloc _,Or.inl ⟨_,_,_,_,rfl,Or.inl ⟨_,E.out,rfl,none,0,rfl,Nat.le_refl _,by unfold maxLen;omega,fun k x h=>by simp at h⟩⟩⟩
  ·by_cases h2:n=2
   ·subst h2
    have E:Hid (Q4m 2 arg=none):=rfl
    go_enter Tryz.func73,Tryz.ntmps73
    go_wp2
    go_ret2
    exact ⟨(Qb.refl [] u).alloc _,Or.inl ⟨_,_,_,_,rfl,Or.inr ⟨E.out,_,rfl⟩⟩⟩
   ·by_cases h3:n=3
    ·subst h3
     have E:Hid (Q4m 3 arg=none):=rfl
     go_enter Tryz.func73,Tryz.ntmps73
     go_wp2
     exact Qa ⟨(Qb.refl [] u).alloc _,Or.inr ⟨E.out,_,rfl,QdL _⟩⟩
    ·have E:Hid (Q4m n arg=some [⟨1,n,[],0,0⟩]):=by show _=_;unfold Q4m;rw [if_neg h0,if_neg h1,if_neg h2,if_neg h3]
     have g0:((n:Int) == 0)=false:=by simp;omega
     have g1:((n:Int) == 1)=false:=by simp;omega
     have g2:((n:Int) == 2)=false:=by simp;omega
     have g3:((n:Int) == 3)=false:=by simp;omega
     clear h0 h1 h2 h3
     go_enter Tryz.func73,Tryz.ntmps73
     go_wp2
     go_ret2
     refine ⟨((Qb.refl [] u).alloc _).alloc _,Or.inl ⟨_,_,_,_,rfl,Or.inl ⟨_,E.out,rfl,_,_,rfl,by simp,by unfold maxLen;omega,?_⟩⟩⟩
     intro k x h
     match k,h with
     | 0,h=>
      cases h
      refine ⟨_,_,rfl,?_⟩
      have hb:((u.alloc (.cells #[a,b,c] 163)).alloc (.cells #[.int .i64 1,.int .i64 n,.string ⟨#[]⟩,.int .i64 0,.int .i64 0] 48)).heap[u.heap.size + 1]? = some (.cells #[.int .i64 1,.int .i64 n,.string ⟨#[]⟩,.int .i64 0,.int .i64 0] 48):=Qg (by simp)
      exact ⟨Q1x hb rfl,Q1x hb rfl,Q1x hb rfl,Q1x hb rfl,Q1x hb rfl⟩
     | k + 1,h=>simp at h
abbrev Q5M (v:Value) (S P dep fuel size K:Nat):Obj:=.cells #[v,.map (some S),.map (some P),.int .i64 dep,.int .i64 fuel,.int .i64 size,.func (.func 73) #[] #[.pointer (some ⟨K,0,none⟩)]] 159
structure Q78 (bs:List (Nat×Obj)) (D:Nat) (v:Value) (S P dep fuel size K n:Nat) (ds:List DefL):Prop where
 unit:Q41 bs v S P ds
 desk:(D,Q5M v S P dep fuel size K)∈bs
 cell:(K,Obj.cells #[.int .i64 n] 3)∈bs
 lims:dep≤64∧fuel≤10000∧size≤100000∧n≤1000000
theorem Q4Y {b:Nat} {c0 c1 c2 c3 c4 c5 c6:Value} {T:TypeId} {w:World} (h:w.heap[b]? = some (.cells #[c0,c1,c2,c3,c4,c5,c6] T)) :
  w.cell? ⟨b,0,none⟩=some c0∧w.cell? ⟨b,1,none⟩=some c1∧w.cell? ⟨b,2,none⟩=some c2∧w.cell? ⟨b,3,none⟩=some c3∧w.cell? ⟨b,4,none⟩=some c4∧w.cell? ⟨b,5,none⟩=some c5∧w.cell? ⟨b,6,none⟩=some c6∧(∀ i,w.frozen? ⟨b,i,none⟩=false)∧b < w.heap.size:=by
 refine ⟨?_,?_,?_,?_,?_,?_,?_,?_,Qc h⟩<;>simp [World.cell?,World.frozen?,h]
def QjW (u:World) (r:Option (List UInt8)) (e:Ending) (u':World):Prop:=Qb [] u u'∧((∃ out,r=some out∧e = .returned (.string ⟨out.toArray⟩))∨(r=none∧∃ x,e = .panicked [{ v:=x,recovered:=false }]∧Loud x))
theorem Qkm (x:Value) (w:World):(binOp BinOp.neq 24 (.iface 50 x) .nilIface).run Tryz.prog w = .ok (.bool true) w:=by kernel_rfl
theorem Q0q {bs:List (Nat×Obj)} {u u':World} (hw:∀ p∈bs,u.heap[p.1]? = some p.2) (hk:Qb [] u u'):∀ p∈bs,u'.heap[p.1]? = some p.2:=fun p hp=>(hk.block _ (Qc (hw p hp)) (by simp)).trans (hw p hp)
theorem QfF {u:World} {bs:List (Nat×Obj)} {D:Nat} {v:Value} {S P dep fuel size K n:Nat} {ds:List DefL} (hD:Q78 bs D v S P dep fuel size K n ds) (hw:∀ p∈bs,u.heap[p.1]? = some p.2) (hg:∀ x∈(Q09 ds).1,Q1w x) (a b c:Value) (p q:Nat) (hend:Q77 ds dep fuel size q) {nsl:Value} {arg:List Q2n} (ha:Q2P u nsl (arg.map toG)) :
  Calls Tryz.prog 114 #[.pointer (some ⟨D,0,none⟩),.agg #[a,b,c],.agg #[.int .i64 p,.int .i64 q],nsl] u (QjW u (Q2a ds n q arg dep fuel size)):=by
 have hnq:=Qkm
 have hnn:=Q9r
 obtain ⟨va,vb,vc,rfl⟩:=hD.unit.code.slice
 obtain ⟨na,nc,hnsl,_⟩:=id ha
 rw [List.length_map] at hnsl
 subst hnsl
 have hk0:=((Qb.refl [] u).alloc (.cells #[a,b,c] 163)).alloc (.cells #[.int .i64 p,.int .i64 q] 263)
 have hw0:=Q0q hw hk0
 have d0:=hw0 _ hD.desk
 obtain ⟨x0,x1,x2,x3,x4,x5,x6,xf,xl⟩:=Q4Y d0
 have g0:((u.alloc (.cells #[a,b,c] 163)).alloc (.cells #[.int .i64 p,.int .i64 q] 263)).heap[u.heap.size]? = some (.cells #[a,b,c] 163):=(Below.heap_alloc _ _ _ (by simp)).trans (Qg rfl)
 have g1:((u.alloc (.cells #[a,b,c] 163)).alloc (.cells #[.int .i64 p,.int .i64 q] 263)).heap[u.heap.size + 1]? = some (.cells #[.int .i64 p,.int .i64 q] 263):=Qg (by simp)
 obtain ⟨y0,y1,y2⟩:((u.alloc (.cells #[a,b,c] 163)).alloc (.cells #[.int .i64 p,.int .i64 q] 263)).cell? ⟨u.heap.size,0,none⟩=some a∧((u.alloc (.cells #[a,b,c] 163)).alloc (.cells #[.int .i64 p,.int .i64 q] 263)).cell? ⟨u.heap.size,1,none⟩=some b∧((u.alloc (.cells #[a,b,c] 163)).alloc (.cells #[.int .i64 p,.int .i64 q] 263)).cell? ⟨u.heap.size,2,none⟩=some c:=by
  refine ⟨?_,?_,?_⟩<;>simp [World.cell?,g0]
 have VA:=Hid.mk (fun (w':World) (hk:Qb [] u w')=>QdN (Q0q hw hk _ hD.cell) hD.lims.2.2.2 (.agg #[a,b,c]) (.slice na arg.length nc) (ha.keeps hk) (a:=a) (b:=b) (c:=c) rfl)
 have VE:=Hid.mk (fun (w':World) (hk:Qb [] u w') (nsl':Value) (l:List QQ) (hn:Q2P w' nsl' l) (N:Nat) z (hr:runN (encW l dep fuel size) (Q09 ds).1 N ⟨q,[],[]⟩ ⟨0,[]⟩=some z)=>QiP hD.unit.code (Q0q hw hk) hg hD.lims.2.1 hD.lims.2.2.1 hn hr)
 have HE:=Hid.mk hend.enc
 have HK0:=Hid.mk hk0
 have HW:=Hid.mk hw
 have HD:=Hid.mk hD.desk
 have G1:=Hid.mk g1
 have G0:=Hid.mk g0
 clear hD hw hg hend ha hk0 hw0 d0 g0 g1
 go_enter Tryz.func114,Tryz.ntmps114
 go_wp2_with fail
 refine Qu (fun w'=>w'.cell? ⟨D,6,none⟩=some (.func (.func 73) #[] #[.pointer (some ⟨K,0,none⟩)])∧w'.cell? ⟨u.heap.size,0,none⟩=some a∧w'.cell? ⟨u.heap.size,1,none⟩=some b∧w'.cell? ⟨u.heap.size,2,none⟩=some c) (L:=11) (by kernel_rfl) rfl (by kernel_rfl) (by kernel_rfl) ?_ (fun hHeld=>?_)
 ·go_keep
 refine tk (i:=0) (v:=?_) rfl (by kernel_rfl) (fun _ _ _ h=>h) (by rfl) (by assumption) ?_ ?_
 rotate_left
 ·intro w hSw;(try dsimp only at hSw);go_simp;(try with_reducible rfl)
 (try simp only [Qd,Qe,List.set])
 refine tk (i:=1) (v:=?_) rfl (by kernel_rfl) (fun _ _ _ h=>h) (by rfl) (by assumption) ?_ ?_
 rotate_left
 ·intro w hSw;(try dsimp only at hSw);go_simp;(try with_reducible rfl)
 (try simp only [Qd,Qe,List.set])
 refine tk (i:=2) (v:=?_) rfl (by kernel_rfl) (fun _ _ _ h=>h) (by rfl) (by assumption) ?_ ?_
 rotate_left
 ·intro w hSw;(try dsimp only at hSw);go_simp;(try with_reducible rfl)
 (try simp only [Qd,Qe,List.set])
 refine tk (i:=3) (v:=?_) rfl (by kernel_rfl) (fun _ _ _ h=>h) (by rfl) (by assumption) ?_ ?_
 rotate_left
 ·intro w hSw;(try dsimp only at hSw);go_simp;(try with_reducible rfl)
 (try simp only [Qd,Qe,List.set])
 refine tk (i:=4) (v:=?_) rfl (by kernel_rfl) (fun _ _ _ h=>h) (by rfl) (by assumption) ?_ ?_
 rotate_left
 ·intro w hSw;(try dsimp only at hSw);go_simp;(try with_reducible rfl)
 (try simp only [Qd,Qe,List.set])
 refine tk (i:=5) (v:=?_) rfl (by kernel_rfl) (fun _ _ _ h=>h) (by rfl) (by assumption) ?_ ?_
 rotate_left
 ·intro w hSw;(try dsimp only at hSw);go_simp;(try with_reducible rfl)
 (try simp only [Qd,Qe,List.set])
 refine wpAnyH_ready (rs:=[6]) (by kernel_rfl) (by simp) ?_
 refine AllReadyH.cons rfl (fun K hK=>?_) AllReadyH.nil
 (go_simp;go_at_call 73;refine (VA.out _ HK0.out.drew).mono ?_;rintro e w1 ⟨hk1,⟨ad,m,cap,x,rfl,hx⟩ | ⟨hr,x,rfl,hl⟩⟩;rotate_left;exact Qa ⟨HK0.out.drew.trans hk1,Or.inr ⟨by unfold Q2a;simp only [hr],x,rfl,hl⟩⟩;have HX:=Hid.mk hx;have HK1:=Hid.mk (HK0.out.drew.trans hk1);have n0:=Q0q HW.out HK1.out _ HD.out;have N0:=Hid.mk n0;have n1:w1.heap[u.heap.size]? = _:=(hk1.block _ (Qc G0.out) (by simp)).trans G0.out;have n2:w1.heap[u.heap.size + 1]? = _:=(hk1.block _ (Qc G1.out) (by simp)).trans G1.out;obtain ⟨z0,z1,z2,z3,z4,z5,z6,zf,zl⟩:=Q4Y n0;obtain ⟨k0,k1,k2,kf,kl⟩:=Q0y n1;have N2:=Hid.mk n2;clear hx hk1 n0 n1 n2)
 refine hK.out _ _ ?_ (fun hHeld=>?_)
 ·go_keep
 clear hK K
 (try simp only [Qd,Qe,List.set])
 refine wpAnyH_ready (rs:=[7]) (by kernel_rfl) (by simp) ?_
 refine AllReadyH.cons rfl (fun K hK=>?_) AllReadyH.nil
 go_simp
 refine hK.out _ _ ?_ (fun hHeld=>?_)
 ·go_keep
 clear hK K
 (try simp only [Qd,Qe,List.set])
 refine tk (i:=8) (v:=?_) rfl (by kernel_rfl) (fun _ _ _ h=>h) (by rfl) (by assumption) ?_ ?_
 rotate_left
 ·intro w hSw;(try dsimp only at hSw);go_simp;(try with_reducible rfl)
 (try simp only [Qd,Qe,List.set])
 refine tk (i:=9) (v:=?_) rfl (by kernel_rfl) (fun _ _ _ h=>h) (by rfl) (by assumption) ?_ ?_
 rotate_left
 ·intro w hSw;(try dsimp only at hSw);go_simp;(try with_reducible rfl)
 (try simp only [Qd,Qe,List.set])
 refine tk (i:=10) (v:=?_) rfl (by kernel_rfl) (fun _ _ _ h=>h) (by rfl) (by assumption) ?_ ?_
 rotate_left
 ·intro w hSw;(try dsimp only at hSw);go_simp;(try with_reducible rfl)
 (try simp only [Qd,Qe,List.set])
 refine wpAnyH_done (by kernel_rfl) ?_ _
 refine QB rfl (fun K hK=>?_)
 go_simp
 refine hK.out _ _ ?_
 clear hK K
 (try simp only [Qd,Qe,List.set])
 obtain ⟨j0,j1⟩:w1.cell? ⟨u.heap.size + 1,0,none⟩=some (.int .i64 p)∧w1.cell? ⟨u.heap.size + 1,1,none⟩=some (.int .i64 q):=⟨Q1x N2.out rfl,Q1x N2.out rfl⟩
 clear x0 x1 x2 x3 x4 x5 x6 xf xl y0 y1 y2 hHeld VA k0 k1 k2 kf kl
 rcases HX.out with ⟨l,hr,rfl,hn⟩ | ⟨hr,k,rfl⟩
 ·obtain ⟨N,hN⟩:=HE.out l
  have VE2:=Hid.mk (VE.out w1.drew HK1.out.drew _ l (hn.keeps (Qb.refl [] w1).drew) N _ hN)
  have ER:Hid (Q2a ds n q arg dep fuel size=match Q8t ds q l dep fuel size with | .error _=>none | .ok out=>some out):=by show _=_;unfold Q2a;simp only [hr];cases Q8t ds q l dep fuel size<;>rfl
  clear HX VE hn hN hr
  go_wp2_with fail
  refine Qu (fun w'=>w'.cell? ⟨D,0,none⟩=some (.slice va vb vc)∧w'.cell? ⟨D,3,none⟩=some (.int .i64 dep)∧w'.cell? ⟨D,4,none⟩=some (.int .i64 fuel)∧w'.cell? ⟨D,5,none⟩=some (.int .i64 size)∧w'.cell? ⟨u.heap.size + 1,1,none⟩=some (.int .i64 q)) (L:=13) (by kernel_rfl) rfl (by kernel_rfl) (by kernel_rfl) ?_ (fun hHeld=>?_)
  ·go_keep
  refine tk (i:=0) (v:=?_) rfl (by kernel_rfl) (fun _ _ _ h=>h) (by rfl) (by assumption) ?_ ?_
  rotate_left
  ·intro w hSw;(try dsimp only at hSw);go_simp;(try with_reducible rfl)
  (try simp only [Qd,Qe,List.set])
  refine tk (i:=1) (v:=?_) rfl (by kernel_rfl) (fun _ _ _ h=>h) (by rfl) (by assumption) ?_ ?_
  rotate_left
  ·intro w hSw;(try dsimp only at hSw);go_simp;(try with_reducible rfl)
  (try simp only [Qd,Qe,List.set])
  refine tk (i:=2) (v:=?_) rfl (by kernel_rfl) (fun _ _ _ h=>h) (by rfl) (by assumption) ?_ ?_
  rotate_left
  ·intro w hSw;(try dsimp only at hSw);go_simp;(try with_reducible rfl)
  (try simp only [Qd,Qe,List.set])
  refine tk (i:=3) (v:=?_) rfl (by kernel_rfl) (fun _ _ _ h=>h) (by rfl) (by assumption) ?_ ?_
  rotate_left
  ·intro w hSw;(try dsimp only at hSw);go_simp;(try with_reducible rfl)
  (try simp only [Qd,Qe,List.set])
  refine tk (i:=4) (v:=?_) rfl (by kernel_rfl) (fun _ _ _ h=>h) (by rfl) (by assumption) ?_ ?_
  rotate_left
  ·intro w hSw;(try dsimp only at hSw);go_simp;(try with_reducible rfl)
  (try simp only [Qd,Qe,List.set])
  refine tk (i:=5) (v:=?_) rfl (by kernel_rfl) (fun _ _ _ h=>h) (by rfl) (by assumption) ?_ ?_
  rotate_left
  ·intro w hSw;(try dsimp only at hSw);go_simp;(try with_reducible rfl)
  (try simp only [Qd,Qe,List.set])
  refine tk (i:=6) (v:=?_) rfl (by kernel_rfl) (fun _ _ _ h=>h) (by rfl) (by assumption) ?_ ?_
  rotate_left
  ·intro w hSw;(try dsimp only at hSw);go_simp;(try with_reducible rfl)
  (try simp only [Qd,Qe,List.set])
  refine tk (i:=7) (v:=?_) rfl (by kernel_rfl) (fun _ _ _ h=>h) (by rfl) (by assumption) ?_ ?_
  rotate_left
  ·intro w hSw;(try dsimp only at hSw);go_simp;(try with_reducible rfl)
  (try simp only [Qd,Qe,List.set])
  refine tk (i:=8) (v:=?_) rfl (by kernel_rfl) (fun _ _ _ h=>h) (by rfl) (by assumption) ?_ ?_
  rotate_left
  ·intro w hSw;(try dsimp only at hSw);go_simp;(try with_reducible rfl)
  (try simp only [Qd,Qe,List.set])
  refine tk (i:=9) (v:=?_) rfl (by kernel_rfl) (fun _ _ _ h=>h) (by rfl) (by assumption) ?_ ?_
  rotate_left
  ·intro w hSw;(try dsimp only at hSw);go_simp;(try with_reducible rfl)
  (try simp only [Qd,Qe,List.set])
  refine tk (i:=10) (v:=?_) rfl (by kernel_rfl) (fun _ _ _ h=>h) (by rfl) (by assumption) ?_ ?_
  rotate_left
  ·intro w hSw;(try dsimp only at hSw);go_simp;(try with_reducible rfl)
  (try simp only [Qd,Qe,List.set])
  refine tk (i:=11) (v:=?_) rfl (by kernel_rfl) (fun _ _ _ h=>h) (by rfl) (by assumption) ?_ ?_
  rotate_left
  ·intro w hSw;(try dsimp only at hSw);go_simp;(try with_reducible rfl)
  (try simp only [Qd,Qe,List.set])
  refine wpAnyH_ready (rs:=[12]) (by kernel_rfl) (by simp) ?_
  refine AllReadyH.cons rfl (fun K hK=>?_) AllReadyH.nil
  (go_simp;go_at_call 33;refine VE2.out.mono ?_;rintro e w2 (⟨out,hx,rfl,hk2⟩ | ⟨f,hx,hk2,g,hg,rfl,hc⟩);rotate_left;exact Qa ⟨HK1.out.drew.trans hk2,Or.inr ⟨ER.out.trans (by rw [show Q8t ds q l dep fuel size = .error f from hx]),_,rfl,Q7B _⟩⟩;have HK2:=Hid.mk (HK1.out.drew.trans hk2);have n0:=Q0q HW.out HK2.out _ HD.out;have n2:w2.heap[u.heap.size + 1]? = _:=(hk2.block _ (Qc N2.out) (by simp)).trans N2.out;obtain ⟨z0,z1,z2,z3,z4,z5,z6,zf,zl⟩:=Q4Y n0;have j1':=Q1x (i:=1) n2 rfl;have EX:Hid (Q2a ds n q arg dep fuel size=some out):=ER.out.trans (by rw [show Q8t ds q l dep fuel size = .ok out from hx]);clear n0 n2 hk2 hx)
  refine hK.out _ _ ?_ (fun hHeld=>?_)
  ·go_keep
  clear hK K
  (try simp only [Qd,Qe,List.set])
  refine wpAnyH_done (by kernel_rfl) ?_ _
  refine QB rfl (fun K hK=>?_)
  go_simp
  refine hK.out _ _ ?_
  clear hK K
  (try simp only [Qd,Qe,List.set])
  go_wp2
  go_ret
  exact ⟨HK2.out,Or.inl ⟨out,EX.out,rfl⟩⟩
 ·have ER:Hid (Q2a ds n q arg dep fuel size=none):=by show _=_;unfold Q2a;simp only [hr]
  clear HX hr VE
  go_wp2
  exact Qa ⟨HK1.out,Or.inr ⟨ER.out,_,rfl,QfE _⟩⟩
theorem Q6B (w:World):w.drew.heap=w.heap:=rfl
theorem Qkn {b:Nat} {c0 c1 c2 c3 c4 c5 d0 d1 d2 d3 d4 d5:Value} {T:TypeId} {w:World} (h:w.heap[b]? = some (.cells #[c0,c1,c2,c3,c4,c5] T)):((((((w.setCell ⟨b,0,none⟩ d0).setCell ⟨b,1,none⟩ d1).setCell ⟨b,2,none⟩ d2).setCell ⟨b,3,none⟩ d3).setCell ⟨b,4,none⟩ d4).setCell ⟨b,5,none⟩ d5).heap[b]? = some (.cells #[d0,d1,d2,d3,d4,d5] T):=by
 have h0:(w.setCell ⟨b,0,none⟩ d0).heap[b]? = some (.cells #[d0,c1,c2,c3,c4,c5] T):=Qn (i:=0) h d0
 have h1:((w.setCell ⟨b,0,none⟩ d0).setCell ⟨b,1,none⟩ d1).heap[b]? = some (.cells #[d0,d1,c2,c3,c4,c5] T):=Qn (i:=1) h0 d1
 have h2:(((w.setCell ⟨b,0,none⟩ d0).setCell ⟨b,1,none⟩ d1).setCell ⟨b,2,none⟩ d2).heap[b]? = some (.cells #[d0,d1,d2,c3,c4,c5] T):=Qn (i:=2) h1 d2
 have h3:((((w.setCell ⟨b,0,none⟩ d0).setCell ⟨b,1,none⟩ d1).setCell ⟨b,2,none⟩ d2).setCell ⟨b,3,none⟩ d3).heap[b]? = some (.cells #[d0,d1,d2,d3,c4,c5] T):=Qn (i:=3) h2 d3
 have h4:(((((w.setCell ⟨b,0,none⟩ d0).setCell ⟨b,1,none⟩ d1).setCell ⟨b,2,none⟩ d2).setCell ⟨b,3,none⟩ d3).setCell ⟨b,4,none⟩ d4).heap[b]? = some (.cells #[d0,d1,d2,d3,d4,c5] T):=Qn (i:=4) h3 d4
 have h5:((((((w.setCell ⟨b,0,none⟩ d0).setCell ⟨b,1,none⟩ d1).setCell ⟨b,2,none⟩ d2).setCell ⟨b,3,none⟩ d3).setCell ⟨b,4,none⟩ d4).setCell ⟨b,5,none⟩ d5).heap[b]? = some (.cells #[d0,d1,d2,d3,d4,d5] T):=Qn (i:=5) h4 d5
 exact h5
theorem setMid {b:Nat} {c0 c1 c2 c3 c4 c5 d1 d2 d3:Value} {T:TypeId} {w:World} (h:w.heap[b]? = some (.cells #[c0,c1,c2,c3,c4,c5] T)):(((w.setCell ⟨b,1,none⟩ d1).setCell ⟨b,2,none⟩ d2).setCell ⟨b,3,none⟩ d3).heap[b]? = some (.cells #[c0,d1,d2,d3,c4,c5] T):=by
 have h1:(w.setCell ⟨b,1,none⟩ d1).heap[b]? = some (.cells #[c0,d1,c2,c3,c4,c5] T):=Qn (i:=1) h d1
 have h2:((w.setCell ⟨b,1,none⟩ d1).setCell ⟨b,2,none⟩ d2).heap[b]? = some (.cells #[c0,d1,d2,c3,c4,c5] T):=Qn (i:=2) h1 d2
 exact Qn (i:=3) h2 d3
theorem Q8T {u X:World} {S:Nat} {F:List Nat} (h:Qb [u.heap.size + 1,S] u X):Qb (S :: F) u X:=by
 refine (Qb.refl (S :: F) u).young h (fun m hm=>?_)
 simp only [List.mem_cons,List.not_mem_nil,or_false] at hm
 rcases hm with hm | hm
 ·exact Or.inr (by omega)
 ·exact Or.inl (by simp [hm])
theorem QiS {lo S:Nat} {s:SSt} {hv rv:Value} {u:World} (h:Q1K lo S s hv rv u) (h4:s.head.length=4) (h0:s.closed=false) :
  Calls Tryz.prog 106 #[.pointer (some ⟨S,0,none⟩)] u fun e u'=>e = .returned (.tuple #[])∧Q3R lo S (Q1P s) (foot hv rv) u u':=by
 obtain ⟨c0,c1,c2,c3,c4,c5,hfz,hlt⟩:=h.cells
 have hcv:=Q7A h.head
 have H:=Hid.mk h
 have hw0:Q1r s.head ⟨0,[]⟩ = .ok (bigL s.head,⟨4,[]⟩):=by
  rw [Q7r (by simp;omega)]
  simp [Q2z]
  rw [List.take_of_length_le (by omega)]
 have hbl:=Q4l h4
 have hmost:=h.most
 have hfew:=h.few
 obtain ⟨ra,rc,rfl⟩:=Q19 h.recd
 obtain ⟨ha,hc,rfl⟩:=Q19 h.head
 have W0:=Hid.mk hw0
 have H4:=Hid.mk h4
 clear h hw0 h4
 go_enter Tryz.func106,Tryz.ntmps106
 go_wp2_with (go_at_call 62;refine (Q9q _ _).mono ?_;rintro e w' ⟨rfl,rfl⟩)
 refine (Q3Q (C:=u.heap.size + 1) (b:=s.head) (p:=0) ⟨Qg (by simp),by omega,by have:=H4.out;omega⟩).mono ?_
 rw [W0.out]
 rintro e w1 (⟨a,d1,hx,hn1,rfl,M1,hk1⟩ | ⟨f,hx,_⟩)
 rotate_left
 ·cases hx
 cases hx
 have hka:=(((Qb.refl [] u).alloc (.cells #[.string ⟨s.head.toArray⟩,.int .i64 0] 139)).alloc (.cells #[.string ⟨s.head.toArray⟩,.int .i64 0] 139))
 have KA:Hid (Qb [u.heap.size + 1] u w1):=(hka.mono (by simp)).trans hk1
 have hS1:=(KA.out.block _ hlt (by simp;omega)).trans H.out.box
 obtain ⟨e0,e1,e2,e3,e4,e5,efz,elt⟩:=Q0j hS1
 have HS1:=Hid.mk hS1
 have hoff:=QiQ (bigL s.head) hbl
 obtain ⟨tp,htop,hne⟩:∃ tp:Int,bits .and .u32 (bigL s.head:Int) 2147483648=tp∧(tp != 0)=decide (2147483648≤bigL s.head):=by
  refine ⟨_,QiR (bigL s.head) hbl,?_⟩
  split
  ·rename_i h;simp [h]
  ·rename_i h;simp [h]
 have hlf:bigL s.head % 2147483648 < 2147483648:=Nat.mod_lt _ (by omega)
 have E0:Hid (Q1P s=if s.most < s.record.length + bigL s.head % 2147483648 then Q8s else { s with head:=[],left:=bigL s.head % 2147483648,ending:=decide (2147483648≤bigL s.head) }):=rfl
 generalize bigL s.head % 2147483648=lf at hoff hlf E0
 generalize decide (2147483648≤bigL s.head)=eb at hne E0
 generalize bigL s.head=bm at hoff htop hbl
 have x0:=setMid (d1:=.slice none 0 0) (d2:=.int .i64 lf) (d3:=.bool eb) HS1.out
 have KX:Hid (Qb [u.heap.size + 1,S] u (((w1.setCell ⟨S,1,none⟩ (.slice none 0 0)).setCell ⟨S,2,none⟩ (.int .i64 lf)).setCell ⟨S,3,none⟩ (.bool eb))):=(((KA.out.mono (by simp)).setIn (p:=⟨S,1,none⟩) (by simp) _).setIn (p:=⟨S,2,none⟩) (by simp) _).setIn (p:=⟨S,3,none⟩) (by simp) _
 have X0:=Hid.mk x0
 clear x0
 clear hk1 M1 hka hS1 c0 c1 c2 c3 c4 c5 hcv hfz
 go_wp2_with fail
 generalize ((w1.setCell ⟨S,1,none⟩ (.slice none 0 0)).setCell ⟨S,2,none⟩ (.int .i64 lf)).setCell ⟨S,3,none⟩ (.bool eb)=X at X0 KX
 obtain ⟨f0,f1,f2,f3,f4,f5,ffz,flt⟩:=Q0j X0.out
 by_cases hlong:s.most < s.record.length + lf
 ·have hc:(s.most:Int) - s.record.length < (lf:Int):=by omega
  have E:Hid (Q1P s=Q8s):=by show _=_;rw [E0.out,if_pos hlong]
  clear hlong E0
  go_region
  go_wp2
  go_end0
  rw [E.out]
  have hk2:=(((((((KX.out.setIn (p:=⟨S,0,none⟩) (by simp) (.int .i64 0)).setIn (p:=⟨S,1,none⟩) (by simp) (.slice none 0 0)).setIn (p:=⟨S,2,none⟩) (by simp) (.int .i64 0)).setIn (p:=⟨S,3,none⟩) (by simp) (.bool false)).setIn (p:=⟨S,4,none⟩) (by simp) (.slice none 0 0)).setIn (p:=⟨S,5,none⟩) (by simp) (.bool true))).drew
  refine ⟨rfl,.slice none 0 0,.slice none 0 0,⟨?_,World.ownsRow_nil _ _ _ _,World.ownsRow_nil _ _ _ _,(fun g _ e=>by cases e),Nat.le_trans H.out.lo hk2.size,by simp [Q8s],by simp [Q8s],by simp [Q8s]⟩,Q8T hk2,?_⟩
  ·rw [Q6B]
   exact Qkn X0.out
  ·intro g hg
   simp [foot,Value.ownBlock] at hg
 ·have hc:(lf:Int)≤(s.most:Int) - s.record.length:=by omega
  have E:Hid (Q1P s = { s with head:=[],left:=lf,ending:=eb }):=by show _=_;rw [E0.out,if_neg hlong]
  clear E0
  go_region
  go_wp2
  go_end0
  rw [E.out]
  have hk2:=KX.out.drew
  refine ⟨rfl,.slice none 0 0,.slice ra s.record.length rc,⟨X0.out,World.ownsRow_nil _ _ _ _,?_,(fun g e _=>by cases e),Nat.le_trans H.out.lo hk2.size,hmost,by show s.record.length + lf≤_;omega,by simp⟩,Q8T hk2,?_⟩
  ·refine Qk H.out.recd hk2 (fun g hg hm=>?_)
   simp only [List.mem_cons,List.not_mem_nil,or_false] at hm
   rcases hm with hm | hm
   ·have:=(Q0z H.out.recd hg).2;omega
   ·exact Q42 H.out.box H.out.recd (by rw [← hm];exact hg)
  ·intro g hg
   refine Or.inl ?_
   simp only [foot,List.mem_append,Option.mem_toList] at hg ⊢
   rcases hg with hg | hg
   ·cases hg
   ·exact Or.inr hg
section
variable {P : Program} (w : World)
theorem Q6g {ops:Array Oper} {E:Prop} {o:Oper} {a:Act} {K:Act→World→Prop} {Q:Exit→Act→World→Prop} (hgd:o.guard=none) (sl x:Operand) (t u:TypeId)
  (ho:o.op = .call { callee:=.builtin .append,args:=#[sl,x],argTypes:=#[t,u] })
  (base:Nat) (e:TypeId) (i:TypeInfo) (ht:P.underlying t=some (.slice e)) (hu:P.underlying u=some .string) (hi:P.info? e=some i) (hz:i.zero=some (.int .u8 0))
  (hsize:i.size=1) (hby:i.bytes=1) (v:Value) (n:Nat) (xs:List Value) (hs:a.eval sl=v) (hown:w.ownsRow base e 1 v n xs) (s:ByteArray) (hx:a.eval x = .string s) (h0:v = .slice none 0 0→0 < s.size)
  (h63:n + s.size≤maxLen) (hbytes:n + s.size≤140737488355328) (hbase:base≤w.heap.size)
  (h:∀ g cap w',w'.ownsRow base e 1 (.slice (some ⟨g,0,none⟩) (n + s.size) cap) (n + s.size) (xs++Lib.strCells s)→w.grownBy w' v.ownBlock→(v.ownBlock=some g∨g=w.heap.size)→g < w'.heap.size→K (a.put o.dst (.slice (some ⟨g,0,none⟩) (n + s.size) cap)) w'):if Region.wanted o (yielded ops a.tmps)=true then Oper.wp P o a w K Q else E:=by
 have hw:Region.wanted o (yielded ops a.tmps)=true:=by simp [Region.wanted,hgd]
 rw [if_pos hw]
 obtain ⟨g,cap,w',hr,h2,h3,h4,h5⟩:=Q6z (P:=P) w base t u o.type e i ht hu hi hz hsize hby v n xs hown s h0 h63 hbytes hbase
 unfold Oper.wp execOp
 simp only [ho,resolve,invoke,builtin,Sem.run_bind,Sem.run_pure,Result.andThen_ok,List.map_toArray,List.map_cons,List.map_nil,hs,hx,hr]
 exact h g cap w' h2 h3 h4 h5
end
theorem Q1K.grow_rec {lo S:Nat} {s s':SSt} {hv rv v':Value} {u w2 Z:World} (h:Q1K lo S s hv rv u) (hk:Qb rv.ownBlock.toList u w2) (hown:w2.ownsRow lo 5 1 v' s'.record.length (s'.record.map Q1d)) (hat:∀ g,v'.ownBlock=some g→rv.ownBlock=some g∨u.heap.size≤g) (hz:Qb [S] w2 Z) (hbox:Z.heap[S]? = some (Q11 s' hv v')) (hh:s'.head=s.head) (hm:s'.most≤100000) (hf:s'.record.length + s'.left≤100000):Q3R lo S s' (foot hv rv) u Z:=by
 have hS2:w2.heap[S]? = some (Q11 s hv rv):=(hk.block S (Qc h.box) (fun hm=>Q42 h.box h.recd (by simpa using hm))).trans h.box
 have hh2:=Qk h.head hk (fun g hg hm=>h.nd g hg (by simpa using hm))
 have kall:Qb (S :: foot hv rv) u Z:=(hk.mono (fun m hm=>by simp at hm;simp [foot,hm])).trans (hz.mono (by simp))
 refine ⟨hv,v',⟨hbox,?_,?_,?_,Nat.le_trans h.lo kall.size,hm,hf,by rw [hh];exact h.four⟩,kall,?_⟩
 ·rw [hh]
  exact Qk hh2 hz (fun g hg hm=>Q42 hS2 hh2 (by simp only [List.mem_singleton] at hm;rw [← hm];exact hg))
 ·exact Qk hown hz (fun g hg hm=>Q42 hS2 hown (by simp only [List.mem_singleton] at hm;rw [← hm];exact hg))
 ·intro g hg e
  rcases hat g e with h1 | h1
  ·exact h.nd g hg h1
  ·have:=(Q0z h.head hg).2;omega
 ·intro g hg
  simp only [foot,List.mem_append,Option.mem_toList] at hg ⊢
  rcases hg with hg | hg
  ·exact Or.inl (Or.inl hg)
  ·rcases hat g hg with h1 | h1
   ·exact Or.inl (Or.inr h1)
   ·exact Or.inr h1
theorem Q1K.grow_head {lo S:Nat} {s s':SSt} {hv rv v':Value} {u w2 Z:World} (h:Q1K lo S s hv rv u) (hk:Qb hv.ownBlock.toList u w2) (hown:w2.ownsRow lo 5 1 v' s'.head.length (s'.head.map Q1d)) (hat:∀ g,v'.ownBlock=some g→hv.ownBlock=some g∨u.heap.size≤g) (hz:Qb [S] w2 Z) (hbox:Z.heap[S]? = some (Q11 s' v' rv)) (hh:s'.record=s.record) (hm:s'.most≤100000) (hf:s'.record.length + s'.left≤100000) (h4:s'.head.length≤4):Q1K lo S s' v' rv Z∧Qb (S :: foot hv rv) u Z∧∀ g∈foot v' rv,g∈foot hv rv∨u.heap.size≤g:=by
 have hS2:w2.heap[S]? = some (Q11 s hv rv):=(hk.block S (Qc h.box) (fun hm=>Q42 h.box h.head (by simpa using hm))).trans h.box
 have hh2:=Qk h.recd hk (fun g hg hm=>h.nd g (by simpa using hm) hg)
 have kall:Qb (S :: foot hv rv) u Z:=(hk.mono (fun m hm=>by simp at hm;simp [foot,hm])).trans (hz.mono (by simp))
 refine ⟨⟨hbox,?_,?_,?_,Nat.le_trans h.lo kall.size,hm,hf,h4⟩,kall,?_⟩
 ·exact Qk hown hz (fun g hg hm=>Q42 hS2 hown (by simp only [List.mem_singleton] at hm;rw [← hm];exact hg))
 ·rw [hh]
  exact Qk hh2 hz (fun g hg hm=>Q42 hS2 hh2 (by simp only [List.mem_singleton] at hm;rw [← hm];exact hg))
 ·intro g e hg
  rcases hat g e with h1 | h1
  ·exact h.nd g h1 hg
  ·have:=(Q0z h.recd hg).2;omega
 ·intro g hg
  simp only [foot,List.mem_append,Option.mem_toList] at hg ⊢
  rcases hg with hg | hg
  ·rcases hat g hg with h1 | h1
   ·exact Or.inl (Or.inl h1)
   ·exact Or.inr h1
  ·exact Or.inl (Or.inr hg)
theorem Qhx {g n cap:Nat} {u:World} {v:Value} (h:v.ownBlock=some g∨g=u.heap.size):∀ k,(Value.slice (some ⟨g,0,none⟩) n cap).ownBlock=some k→v.ownBlock=some k∨u.heap.size≤k:=by
 intro k hk
 cases hk
 rcases h with h | h
 ·exact Or.inl h
 ·exact Or.inr (by show u.heap.size≤g;omega)
theorem QfG {lo S:Nat} {s:SSt} {hv rv:Value} {u:World} (h:Q1K lo S s hv rv u) (c:List UInt8) (hne:c≠[]) (hcl:c.length≤1000000) (h0:0 < s.left) :
  Calls Tryz.prog 74 #[.pointer (some ⟨S,0,none⟩),.string ⟨c.toArray⟩] u fun e u'=>e = .returned (.int .i64 (Q0f s c).1)∧Q3R lo S (Q0f s c).2 (foot hv rv) u u':=by
 obtain ⟨c0,c1,c2,c3,c4,c5,hfz,hlt⟩:=h.cells
 have E:Hid (Q0f s c=(min s.left c.length,{ s with record:=s.record++c.take (min s.left c.length),left:=s.left - min s.left c.length })):=by show _=_;unfold Q0f;rw [if_pos h0]
 have hl:0 < c.length:=List.length_pos_iff.2 hne
 have hmin:min (s.left:Int) (c.length:Int)=((min s.left c.length:Nat):Int):=by omega
 have hp0:0 < min s.left c.length:=by omega
 have hp1:min s.left c.length≤c.length:=by omega
 have hp2:min s.left c.length≤s.left:=by omega
 have hfew:=h.few
 have hmost:=h.most
 generalize min s.left c.length=pn at E hmin hp0 hp1 hp2
 have hi0:(0:Int) < (s.left:Int):=by omega
 have hq0:(0:Int)≤(pn:Int):=by omega
 have hq1:(pn:Int)≤(c.length:Int):=by omega
 have hsz:((⟨(c.take pn).toArray⟩:ByteArray).size)=pn:=by simp [ByteArray.size];omega
 obtain ⟨i0,hi,hz0,hz1,hz2⟩:=info_parts infoByte
 have hex:=Q1L ⟨c.toArray⟩ pn
 have H:=Hid.mk h
 obtain ⟨ra,rc,rfl⟩:=Q19 h.recd
 obtain ⟨ha,hc,rfl⟩:=Q19 h.head
 have hrow:u.drew.ownsRow lo 5 1 (.slice ra s.record.length rc) s.record.length (s.record.map Q1d):=Qk h.recd ((Qb.refl [] u).drew) (by simp)
 have HROW:=Hid.mk hrow
 have hlo:=h.lo
 clear h h0 hrow
 go_enter Tryz.func74,Tryz.ntmps74
 go_wp2_with fail
 refine Qu (fun w'=>w'.cell? ⟨S,4,none⟩=some (.slice ra s.record.length rc)) (L:=11) (by kernel_rfl) rfl (by kernel_rfl) (by kernel_rfl) ?_ (fun hHeld=>?_)
 ·go_keep
 refine tk (i:=0) (v:=?_) rfl (by kernel_rfl) (fun _ _ _ h=>h) (by rfl) (by assumption) ?_ ?_
 rotate_left
 ·intro w hSw;(try dsimp only at hSw);go_simp;(try with_reducible rfl)
 (try simp only [Qd,Qe,List.set])
 refine tk (i:=1) (v:=?_) rfl (by kernel_rfl) (fun _ _ _ h=>h) (by rfl) (by assumption) ?_ ?_
 rotate_left
 ·intro w hSw;(try dsimp only at hSw);go_simp;(try with_reducible rfl)
 (try simp only [Qd,Qe,List.set])
 refine tk (i:=2) (v:=?_) rfl (by kernel_rfl) (fun _ _ _ h=>h) (by rfl) (by assumption) ?_ ?_
 rotate_left
 ·intro w hSw;(try dsimp only at hSw);go_simp;(try with_reducible rfl)
 (try simp only [Qd,Qe,List.set])
 refine tk (i:=3) (v:=?_) rfl (by kernel_rfl) (fun _ _ _ h=>h) (by rfl) (by assumption) ?_ ?_
 rotate_left
 ·intro w hSw;(try dsimp only at hSw);go_simp;(try with_reducible rfl)
 (try simp only [Qd,Qe,List.set])
 refine tk (i:=4) (v:=?_) rfl (by kernel_rfl) (fun _ _ _ h=>h) (by rfl) (by assumption) ?_ ?_
 rotate_left
 ·intro w hSw;(try dsimp only at hSw);go_simp;(try with_reducible rfl)
 (try simp only [Qd,Qe,List.set])
 refine tk (i:=5) (v:=?_) rfl (by kernel_rfl) (fun _ _ _ h=>h) (by rfl) (by assumption) ?_ ?_
 rotate_left
 ·intro w hSw;(try dsimp only at hSw);go_simp;(try with_reducible rfl)
 (try simp only [Qd,Qe,List.set])
 refine tk (i:=6) (v:=?_) rfl (by kernel_rfl) (fun _ _ _ h=>h) (by rfl) (by assumption) ?_ ?_
 rotate_left
 ·intro w hSw;(try dsimp only at hSw);go_simp;(try with_reducible rfl)
 (try simp only [Qd,Qe,List.set])
 refine tk (i:=7) (v:=?_) rfl (by kernel_rfl) (fun _ _ _ h=>h) (by rfl) (by assumption) ?_ ?_
 rotate_left
 ·intro w hSw;(try dsimp only at hSw);go_simp;(try with_reducible rfl)
 (try simp only [Qd,Qe,List.set])
 refine wpAnyH_ready (rs:=[8]) (by kernel_rfl) (by simp) ?_
 refine AllReadyH.cons rfl (fun K hK=>?_) AllReadyH.nil
 (refine Q6g _ (by rfl) _ _ _ _ (by rfl) lo 5 i0 Tryz.underlying90 Tryz.underlying9 hi hz0 hz1 hz2 (.slice ra s.record.length rc) s.record.length (s.record.map Q1d) (by kernel_rfl) HROW.out ⟨(c.take pn).toArray⟩ (by kernel_rfl) (fun _=>by rw [hsz];exact hp0) (by rw [hsz];unfold maxLen;omega) (by rw [hsz];omega) hlo ?_;intro g cap w2 hown hgrow hat hg2;rw [hsz] at hown ⊢;have hS2:w2.heap[S]? = some (Q11 s (.slice ha s.head.length hc) (.slice ra s.record.length rc)):=(hgrow.block S hlt (Q42 H.out.box H.out.recd).symm).trans H.out.box;obtain ⟨e0,e1,e2,e3,e4,e5,efz,elt⟩:=Q0j hS2;have HS2:=Hid.mk hS2;have HO:=Hid.mk hown;have HG:=Hid.mk (Q05 hgrow);have HAT:=Hid.mk hat;clear hown hgrow hat hS2)
 refine hK.out _ _ ?_ (fun hHeld=>?_)
 ·go_keep
 clear hK K
 (try simp only [Qd,Qe,List.set])
 refine tk (i:=9) (v:=?_) rfl (by kernel_rfl) (fun _ _ _ h=>h) (by rfl) (by assumption) ?_ ?_
 rotate_left
 ·intro w hSw;(try dsimp only at hSw);go_simp;(try with_reducible rfl)
 (try simp only [Qd,Qe,List.set])
 refine tk (i:=10) (v:=?_) rfl (by kernel_rfl) (fun _ _ _ h=>h) (by rfl) (by assumption) ?_ ?_
 rotate_left
 ·intro w hSw;(try dsimp only at hSw);go_simp;(try with_reducible rfl)
 (try simp only [Qd,Qe,List.set])
 refine wpAnyH_done (by kernel_rfl) ?_ _
 refine QB rfl (fun K hK=>?_)
 go_simp
 refine hK.out _ _ ?_
 clear hK K
 (try simp only [Qd,Qe,List.set])
 have y0:(w2.setCell ⟨S,4,none⟩ (.slice (some ⟨g,0,none⟩) (s.record.length + pn) cap)).heap[S]? = some (.cells #[.int .i64 s.most,.slice ha s.head.length hc,.int .i64 s.left,.bool s.ending,.slice (some ⟨g,0,none⟩) (s.record.length + pn) cap,.bool s.closed] 165):=Qn (i:=4) HS2.out _
 have KY:Hid (Qb [S] w2 (w2.setCell ⟨S,4,none⟩ (.slice (some ⟨g,0,none⟩) (s.record.length + pn) cap))):=(Qb.refl [S] w2).setIn (p:=⟨S,4,none⟩) (by simp) _
 have Y0:=Hid.mk y0
 generalize w2.setCell ⟨S,4,none⟩ (.slice (some ⟨g,0,none⟩) (s.record.length + pn) cap)=Y at Y0 KY
 obtain ⟨f0,f1,f2,f3,f4,f5,ffz,flt⟩:=Q0j Y0.out
 have hsub:IntKind.i64.wrap ((s.left:Int) - (pn:Int))=((s.left - pn:Nat):Int):=by rw [IntKind.wrap_i64];omega
 clear y0 e0 e1 e2 e3 e4 e5 efz c0 c1 c2 c3 c4 c5 hfz hHeld
 go_wp2
 go_ret
 rw [E.out]
 refine ⟨rfl,H.out.grow_rec (w2:=w2) (v':=.slice (some ⟨g,0,none⟩) (s.record.length + pn) cap) (((Qb.refl _ u).drew).trans HG.out) ?_ (Qhx HAT.out) (KY.out.setIn (p:=⟨S,2,none⟩) (by simp) _) (Qn (i:=2) Y0.out _) rfl hmost ?_⟩
 ·have:=HO.out
  rw [Q6e,← List.map_append] at this
  have e:(s.record++c.take pn).length=s.record.length + pn:=by rw [List.length_append,List.length_take];omega
  show w2.ownsRow lo 5 1 _ (s.record++c.take pn).length ((s.record++c.take pn).map Q1d)
  rw [e]
  exact this
 ·show (s.record++c.take pn).length + (s.left - pn)≤_
  rw [List.length_append,List.length_take]
  omega
theorem QfH {lo S:Nat} {s:SSt} {hv rv:Value} {u:World} (h:Q1K lo S s hv rv u) (hi4:s.head.length < 4) (c:List UInt8) (hne:c≠[]) (hcl:c.length≤1000000) (h0:s.left=0) (hcd:s.closed=false) :
  Calls Tryz.prog 74 #[.pointer (some ⟨S,0,none⟩),.string ⟨c.toArray⟩] u fun e u'=>e = .returned (.int .i64 (Q0f s c).1)∧Q3R lo S (Q0f s c).2 (foot hv rv) u u':=by
 obtain ⟨c0,c1,c2,c3,c4,c5,hfz,hlt⟩:=h.cells
 have E:Hid (Q0f s c=(min (4 - s.head.length) c.length,if (s.head++c.take (min (4 - s.head.length) c.length)).length=4 then Q1P { s with head:=s.head++c.take (min (4 - s.head.length) c.length) } else { s with head:=s.head++c.take (min (4 - s.head.length) c.length) })):=by show _=_;unfold Q0f;rw [if_neg (by omega)]
 have hl:0 < c.length:=List.length_pos_iff.2 hne
 have hmin:min ((4:Int) - (s.head.length:Int)) (c.length:Int)=((min (4 - s.head.length) c.length:Nat):Int):=by omega
 have hp0:0 < min (4 - s.head.length) c.length:=by omega
 have hp1:min (4 - s.head.length) c.length≤c.length:=by omega
 have hp2:s.head.length + min (4 - s.head.length) c.length≤4:=by omega
 have hfew:=h.few
 have hmost:=h.most
 generalize min (4 - s.head.length) c.length=pn at E hmin hp0 hp1 hp2
 have hq0:(0:Int)≤(pn:Int):=by omega
 have hq1:(pn:Int)≤(c.length:Int):=by omega
 have hsz:((⟨(c.take pn).toArray⟩:ByteArray).size)=pn:=by simp [ByteArray.size];omega
 obtain ⟨i0,hi,hz0,hz1,hz2⟩:=info_parts infoByte
 have hex:=Q1L ⟨c.toArray⟩ pn
 have H:=Hid.mk h
 obtain ⟨ra,rc,rfl⟩:=Q19 h.recd
 obtain ⟨ha,hc,rfl⟩:=Q19 h.head
 have hrow:u.drew.ownsRow lo 5 1 (.slice ha s.head.length hc) s.head.length (s.head.map Q1d):=Qk h.head ((Qb.refl [] u).drew) (by simp)
 have HROW:=Hid.mk hrow
 have hlo:=h.lo
 have h0i:(s.left:Int)=0:=by omega
 rw [h0i] at c2
 have HCD:=Hid.mk hcd
 have H0:=Hid.mk h0
 clear h h0 hrow h0i hcd
 go_enter Tryz.func74,Tryz.ntmps74
 go_wp2_with fail
 refine Qu (fun w'=>w'.cell? ⟨S,1,none⟩=some (.slice ha s.head.length hc)) (L:=11) (by kernel_rfl) rfl (by kernel_rfl) (by kernel_rfl) ?_ (fun hHeld=>?_)
 ·go_keep
 refine tk (i:=0) (v:=?_) rfl (by kernel_rfl) (fun _ _ _ h=>h) (by rfl) (by assumption) ?_ ?_
 rotate_left
 ·intro w hSw;(try dsimp only at hSw);go_simp;(try with_reducible rfl)
 (try simp only [Qd,Qe,List.set])
 refine tk (i:=1) (v:=?_) rfl (by kernel_rfl) (fun _ _ _ h=>h) (by rfl) (by assumption) ?_ ?_
 rotate_left
 ·intro w hSw;(try dsimp only at hSw);go_simp;(try with_reducible rfl)
 (try simp only [Qd,Qe,List.set])
 refine tk (i:=2) (v:=?_) rfl (by kernel_rfl) (fun _ _ _ h=>h) (by rfl) (by assumption) ?_ ?_
 rotate_left
 ·intro w hSw;(try dsimp only at hSw);go_simp;(try with_reducible rfl)
 (try simp only [Qd,Qe,List.set])
 refine tk (i:=3) (v:=?_) rfl (by kernel_rfl) (fun _ _ _ h=>h) (by rfl) (by assumption) ?_ ?_
 rotate_left
 ·intro w hSw;(try dsimp only at hSw);go_simp;(try with_reducible rfl)
 (try simp only [Qd,Qe,List.set])
 refine tk (i:=4) (v:=?_) rfl (by kernel_rfl) (fun _ _ _ h=>h) (by rfl) (by assumption) ?_ ?_
 rotate_left
 ·intro w hSw;(try dsimp only at hSw);go_simp;(try with_reducible rfl)
 (try simp only [Qd,Qe,List.set])
 refine tk (i:=5) (v:=?_) rfl (by kernel_rfl) (fun _ _ _ h=>h) (by rfl) (by assumption) ?_ ?_
 rotate_left
 ·intro w hSw;(try dsimp only at hSw);go_simp;(try with_reducible rfl)
 (try simp only [Qd,Qe,List.set])
 refine tk (i:=6) (v:=?_) rfl (by kernel_rfl) (fun _ _ _ h=>h) (by rfl) (by assumption) ?_ ?_
 rotate_left
 ·intro w hSw;(try dsimp only at hSw);go_simp;(try with_reducible rfl)
 (try simp only [Qd,Qe,List.set])
 refine tk (i:=7) (v:=?_) rfl (by kernel_rfl) (fun _ _ _ h=>h) (by rfl) (by assumption) ?_ ?_
 rotate_left
 ·intro w hSw;(try dsimp only at hSw);go_simp;(try with_reducible rfl)
 (try simp only [Qd,Qe,List.set])
 refine wpAnyH_ready (rs:=[8]) (by kernel_rfl) (by simp) ?_
 refine AllReadyH.cons rfl (fun K hK=>?_) AllReadyH.nil
 (refine Q6g _ (by rfl) _ _ _ _ (by rfl) lo 5 i0 Tryz.underlying90 Tryz.underlying9 hi hz0 hz1 hz2 (.slice ha s.head.length hc) s.head.length (s.head.map Q1d) (by kernel_rfl) HROW.out ⟨(c.take pn).toArray⟩ (by kernel_rfl) (fun _=>by rw [hsz];exact hp0) (by rw [hsz];unfold maxLen;omega) (by rw [hsz];omega) hlo ?_;intro g cap w2 hown hgrow hat hg2;rw [hsz] at hown ⊢;have hS2:w2.heap[S]? = some (Q11 s (.slice ha s.head.length hc) (.slice ra s.record.length rc)):=(hgrow.block S hlt (Q42 H.out.box H.out.head).symm).trans H.out.box;obtain ⟨e0,e1,e2,e3,e4,e5,efz,elt⟩:=Q0j hS2;have HS2:=Hid.mk hS2;have HO:=Hid.mk hown;have HG:=Hid.mk (Q05 hgrow);have HAT:=Hid.mk hat;clear hown hgrow hat hS2)
 refine hK.out _ _ ?_ (fun hHeld=>?_)
 ·go_keep
 clear hK K
 (try simp only [Qd,Qe,List.set])
 refine tk (i:=9) (v:=?_) rfl (by kernel_rfl) (fun _ _ _ h=>h) (by rfl) (by assumption) ?_ ?_
 rotate_left
 ·intro w hSw;(try dsimp only at hSw);go_simp;(try with_reducible rfl)
 (try simp only [Qd,Qe,List.set])
 refine tk (i:=10) (v:=?_) rfl (by kernel_rfl) (fun _ _ _ h=>h) (by rfl) (by assumption) ?_ ?_
 rotate_left
 ·intro w hSw;(try dsimp only at hSw);go_simp;(try with_reducible rfl)
 (try simp only [Qd,Qe,List.set])
 refine wpAnyH_done (by kernel_rfl) ?_ _
 refine QB rfl (fun K hK=>?_)
 go_simp
 refine hK.out _ _ ?_
 clear hK K
 (try simp only [Qd,Qe,List.set])
 have y0:(w2.setCell ⟨S,1,none⟩ (.slice (some ⟨g,0,none⟩) (s.head.length + pn) cap)).heap[S]? = some (Q11 { s with head:=s.head++c.take pn } (.slice (some ⟨g,0,none⟩) (s.head.length + pn) cap) (.slice ra s.record.length rc)):=Qn (i:=1) HS2.out _
 have ky:Qb [S] w2 (w2.setCell ⟨S,1,none⟩ (.slice (some ⟨g,0,none⟩) (s.head.length + pn) cap)):=(Qb.refl [S] w2).setIn (p:=⟨S,1,none⟩) (by simp) _
 have el:(s.head++c.take pn).length=s.head.length + pn:=by rw [List.length_append,List.length_take];omega
 have hG:=H.out.grow_head (s':={ s with head:=s.head++c.take pn }) (w2:=w2) (v':=.slice (some ⟨g,0,none⟩) (s.head.length + pn) cap) (((Qb.refl _ u).drew).trans HG.out) (by
  have:=HO.out
  rw [Q6e,← List.map_append] at this
  show w2.ownsRow lo 5 1 _ (s.head++c.take pn).length ((s.head++c.take pn).map Q1d)
  rw [el]
  exact this) (Qhx HAT.out) ky y0 rfl hmost hfew (by show (s.head++c.take pn).length≤4;omega)
 have HGG:=Hid.mk hG
 have Y0:=Hid.mk y0
 have EL:=Hid.mk el
 clear hG y0 ky el
 generalize w2.setCell ⟨S,1,none⟩ (.slice (some ⟨g,0,none⟩) (s.head.length + pn) cap)=Y at Y0 HGG
 obtain ⟨f0,f1,f2,f3,f4,f5,ffz,flt⟩:=Q0j Y0.out
 clear e0 e1 e2 e3 e4 e5 efz c0 c1 c2 c3 c4 c5 hfz hHeld HROW
 by_cases h4:s.head.length + pn=4
 ·have E2:Hid (Q0f s c=(pn,Q1P { s with head:=s.head++c.take pn })):=by show _=_;rw [E.out,if_pos (by rw [EL.out];exact h4)]
  have VB:=Hid.mk (QiS HGG.out.1 (by show (s.head++c.take pn).length=4;rw [EL.out];exact h4) HCD.out)
  have h4i:((s.head.length:Int) + (pn:Int) == 4)=true:=by simp;omega
  clear h4 E
  go_wp2_with fail
  refine VB.out.mono ?_
  rintro e w3 ⟨rfl,hv3,rv3,h3,k3,g3⟩
  have H3:=Hid.mk (And.intro h3 (And.intro k3 g3))
  clear h3 k3 g3 VB
  go_wp2
  go_ret
  rw [E2.out]
  obtain ⟨h3,k3,g3⟩:=H3.out
  obtain ⟨q1,q2,q3⟩:=HGG.out
  refine ⟨rfl,hv3,rv3,h3,q2.young k3 ?_,?_⟩
  ·intro m hm
   rcases List.mem_cons.1 hm with hm | hm
   ·exact Or.inl (by simp [hm])
   ·rcases q3 m hm with hm | hm
    ·exact Or.inl (List.mem_cons_of_mem _ hm)
    ·exact Or.inr hm
  ·intro g hg
   rcases g3 g hg with hm | hm
   ·exact q3 g hm
   ·exact Or.inr (Nat.le_trans q2.size hm)
 ·have E2:Hid (Q0f s c=(pn,{ s with head:=s.head++c.take pn })):=by show _=_;rw [E.out,if_neg (by rw [EL.out];exact h4)]
  have h4i:((s.head.length:Int) + (pn:Int) == 4)=false:=by simp;omega
  clear h4 E
  go_wp2
  go_ret
  rw [E2.out]
  obtain ⟨q1,q2,q3⟩:=HGG.out
  exact ⟨rfl,_,_,q1,q2,q3⟩
theorem Qhy {lo S:Nat} {s:SSt} {hv rv:Value} {u:World} (h:Q1K lo S s hv rv u) (hi:SInv s) (c:List UInt8) (hne:c≠[]) (hcl:c.length≤1000000) (hcd:s.closed=false) :
  Calls Tryz.prog 74 #[.pointer (some ⟨S,0,none⟩),.string ⟨c.toArray⟩] u fun e u'=>e = .returned (.int .i64 (Q0f s c).1)∧Q3R lo S (Q0f s c).2 (foot hv rv) u u':=by
 by_cases h0:0 < s.left
 ·exact QfG h c hne hcl h0
 ·exact QfH h hi.head c hne hcl (by omega) hcd
theorem Q9s {base b:Nat} {l:List UInt8} {v:Value} {u:World} (h:BdAt base b l v u) (s:List UInt8) (hl:l.length + s.length≤140737488355328) (hne:s≠[]) :
  Calls Tryz.prog 43 #[.pointer (some ⟨b,0,none⟩),.string ⟨s.toArray⟩] u fun e u'=>(∃ x,e = .returned x)∧∃ v',BdAt base b (l++s) v' u'∧Qb (b :: v.ownBlock.toList) u u'∧∀ g,v'.ownBlock=some g→v.ownBlock=some g∨u.heap.size≤g:=by
 obtain ⟨i0,hi,hz0,hz1,hz2⟩:=info_parts Qjo
 have VC:=Hid.mk (Qgo h)
 have HO:=Hid.mk h.old
 have HN:=Hid.mk h.own_ne
 clear h
 go_enter Tryz.func43,Tryz.ntmps43
 go_wp2_with fail
 refine VC.out.mono ?_
 rintro e w1 ⟨rfl,hb1,hr1,hk1,hs1⟩
 have c0:w1.cell? ⟨b,0,none⟩=some (.pointer (some ⟨b,0,none⟩)):=by simp [World.cell?,hb1]
 have c1:w1.cell? ⟨b,1,none⟩=some v:=by simp [World.cell?,hb1]
 have hbl:=Qc hb1
 have HS1:=Hid.mk hs1
 clear hs1
 go_wp2_with (at_builtin;refine Q5g _ rfl _ _ 90 9 rfl base 5 i0 Tryz.underlying90 Tryz.underlying9 hi hz0 hz1 hz2 _ _ _ rfl hr1 ⟨s.toArray⟩ rfl ?c2 ?c3 ?c4 ?c5 ?_)
 case c2=>intro _;show 0 < s.length;exact List.length_pos_iff.2 hne
 case c3=>unfold maxLen;show l.length + s.length≤_;omega
 case c4=>show l.length + s.length≤_;omega
 case c5=>have:=HO.out;have:=HS1.out;omega
 intro g2 cap2 w2 hown' hgrow hat _
 have HAT:=Hid.mk hat
 clear hat
 have hb2:w2.heap[b]? = some (.cells #[.pointer (some ⟨b,0,none⟩),v] 92):=by
  rw [hgrow.block b hbl (fun e=>HN.out (by rw [← e];simp))]
  exact hb1
 have d0:w2.cell? ⟨b,0,none⟩=some (.pointer (some ⟨b,0,none⟩)):=by simp [World.cell?,hb2]
 have d1:w2.cell? ⟨b,1,none⟩=some v:=by simp [World.cell?,hb2]
 have f1:w2.frozen? ⟨b,1,none⟩=false:=by simp [World.frozen?,hb2]
 have HB2:=Hid.mk hb2
 have HO':=Hid.mk hown'
 have HG:=Hid.mk (Q05 hgrow)
 clear hb1 hr1 hown' hgrow hb2
 go_wp2
 go_ret2
 have hrow:w2.ownsRow base 5 1 (.slice (some ⟨g2,0,none⟩) (l.length + s.length) cap2) (l++s).length (Lib.byteCells (l++s)):=by
  have:=HO'.out
  have e1:Lib.byteCells l++Lib.strCells ⟨s.toArray⟩=Lib.byteCells (l++s):=by simp [Lib.byteCells,Lib.strCells]
  rw [e1] at this
  simpa [ByteArray.size] using this
 have hset:(w2.setCell ⟨b,1,none⟩ (.slice (some ⟨g2,0,none⟩) (l.length + s.length) cap2)).heap[b]? = some (.cells #[.pointer (some ⟨b,0,none⟩),.slice (some ⟨g2,0,none⟩) (l.length + s.length) cap2] 92):=by
  have:=Qn (i:=1) HB2.out (.slice (some ⟨g2,0,none⟩) (l.length + s.length) cap2)
  simpa using this
 have hkk:Qb (b :: v.ownBlock.toList) u (w2.setCell ⟨b,1,none⟩ (.slice (some ⟨g2,0,none⟩) (l.length + s.length) cap2)):=((hk1.mono (by simp)).trans (HG.out.mono (fun x hx=>List.mem_cons_of_mem _ hx))).setIn (p:=⟨b,1,none⟩) (by simp) _
 refine ⟨⟨_,rfl⟩,.slice (some ⟨g2,0,none⟩) (l.length + s.length) cap2,⟨⟨_,Or.inr rfl,hset⟩,?_,Nat.le_trans HO.out hkk.size⟩,hkk,?_⟩
 rotate_left
 ·intro g hg
  cases hg
  rcases HAT.out with h | h
  ·exact Or.inl h
  ·right;rw [h,HS1.out];exact Nat.le_refl _
 refine Qk hrow ((Qb.refl [b] w2).setIn (p:=⟨b,1,none⟩) (by simp) _) (fun g hg hm=>?_)
 have hgb:g=b:=by simpa using hm
 subst hgb
 rcases hrow.2 with ⟨h0,_⟩ | ⟨g',cap',cur,h0,_,h2,_⟩
 ·rw [h0] at hg;cases hg
 ·rw [h0] at hg;cases hg;rw [HB2.out] at h2;cases h2
theorem BdAt.keep {base b:Nat} {l:List UInt8} {v:Value} {M:List Nat} {u u':World} (h:BdAt base b l v u) (hk:Qb M u u') (hb:b ∉ M) (hv:∀ g,v.ownBlock=some g→g ∉ M):BdAt base b l v u':=by
 obtain ⟨⟨p,hp,hx⟩,hr,ho⟩:=h
 exact ⟨⟨p,hp,(hk.block _ (Qc hx) hb).trans hx⟩,Qk hr hk hv,Nat.le_trans ho hk.size⟩
structure Q3S (w0:World) (lo S b:Nat) (F0:List Nat) (s:SSt) (out:List UInt8) (hv rv v:Value) (u:World):Prop where
 st:Q1K lo S s hv rv u
 bd:BdAt w0.heap.size b out v u
 apart:∀ g∈foot hv rv,g≠b∧v.ownBlock≠some g
 kp:Qb (S :: F0) w0 u
 fresh:∀ g∈foot hv rv,g∈F0∨w0.heap.size≤g
 old:w0.heap.size≤b
section
variable {w0 u u' : World} {lo S b : Nat} {F0 : List Nat} {s s' : SSt} {out : List UInt8} {hv rv v v' : Value}
theorem Q3S.sb (h:Q3S w0 lo S b F0 s out hv rv v u):b≠S:=by
 intro e
 obtain ⟨p,_,hx⟩:=h.bd.box
 have:=h.st.box
 rw [e] at hx
 rw [hx] at this
 cases this
theorem Q3S.sv (h:Q3S w0 lo S b F0 s out hv rv v u):v.ownBlock≠some S:=by
 intro e
 have:=h.bd.ne S e _ _ h.st.box
 cases this
theorem Q79 {g:Nat} (h:Q1K lo S s hv rv u) (hg:g∈foot hv rv):lo≤g∧g < u.heap.size:=by
 simp only [foot,List.mem_append,Option.mem_toList] at hg
 rcases hg with hg | hg
 ·exact Q0z h.head hg
 ·exact Q0z h.recd hg
theorem Q3S.piece (h:Q3S w0 lo S b F0 s out hv rv v u) (hg:Q3R lo S s' (foot hv rv) u u'):∃ hv' rv',Q3S w0 lo S b F0 s' out hv' rv' v u':=by
 obtain ⟨hv',rv',hs,hk,hf⟩:=hg
 obtain ⟨p,hp,hx⟩:=h.bd.box
 refine ⟨hv',rv',hs,h.bd.keep hk ?_ ?_,?_,h.kp.young hk ?_,?_,h.old⟩
 ·intro hm
  rcases List.mem_cons.1 hm with hm | hm
  ·exact h.sb hm
  ·exact (h.apart _ hm).1 rfl
 ·intro g hg hm
  rcases List.mem_cons.1 hm with hm | hm
  ·exact h.sv (by rw [← hm];exact hg)
  ·exact (h.apart _ hm).2 hg
 ·intro g hg
  rcases hf g hg with hf | hf
  ·exact h.apart g hf
  ·refine ⟨fun e=>?_,fun e=>?_⟩
   ·have:=Qc hx;omega
   ·have:=(Q0z h.bd.row e).2;omega
 ·intro m hm
  rcases List.mem_cons.1 hm with hm | hm
  ·exact Or.inl (by rw [hm];simp)
  ·rcases h.fresh m hm with hf | hf
   ·exact Or.inl (List.mem_cons_of_mem _ hf)
   ·exact Or.inr hf
 ·intro g hg
  rcases hf g hg with hf | hf
  ·exact h.fresh g hf
  ·exact Or.inr (Nat.le_trans h.kp.size hf)
theorem Q3S.tell {out':List UInt8} (h:Q3S w0 lo S b F0 s out hv rv v u) (hb:BdAt w0.heap.size b out' v' u') (hk:Qb (b :: v.ownBlock.toList) u u') (hf:∀ g,v'.ownBlock=some g→v.ownBlock=some g∨u.heap.size≤g):Q3S w0 lo S b F0 s out' hv rv v' u':=by
 refine ⟨h.st.keep hk ?_ ?_,hb,?_,h.kp.young hk ?_,h.fresh,h.old⟩
 ·intro hm
  rcases List.mem_cons.1 hm with hm | hm
  ·exact h.sb hm.symm
  ·exact h.sv (by simpa using hm)
 ·intro g hg hm
  rcases List.mem_cons.1 hm with hm | hm
  ·exact (h.apart g hg).1 hm
  ·exact (h.apart g hg).2 (by simpa using hm)
 ·intro g hg
  refine ⟨(h.apart g hg).1,fun e=>?_⟩
  rcases hf g e with e | e
  ·exact (h.apart g hg).2 e
  ·have:=(Q79 h.st hg).2;omega
 ·intro m hm
  rcases List.mem_cons.1 hm with hm | hm
  ·exact Or.inr (by rw [hm];exact h.old)
  ·exact Or.inr (Q0z h.bd.row (by simpa using hm)).1
end
def Qhz (w0:World) (S b X:Nat) (F0:List Nat) (says:List UInt8→List UInt8):Prop:=∀ (u:World) (out r:List UInt8) (v:Value),BdAt w0.heap.size b out v u→Qb (S :: F0) w0 u→r.length≤100000→out.length≤1000000000000 →
 Calls Tryz.prog 41 #[.string ⟨r.toArray⟩,.pointer (some ⟨X,0,none⟩),.pointer (some ⟨b,0,none⟩)] u fun e u'=>e = .returned (.tuple #[])∧∃ v',BdAt w0.heap.size b (out++says r) v' u'∧Qb (b :: v.ownBlock.toList) u u'∧∀ g,v'.ownBlock=some g→v.ownBlock=some g∨u.heap.size≤g
def QcR:Value→Nat
 | .string b=>b.size
 | _=>0
def Qbx (w0:World) (lo S b:Nat) (F0:List Nat) (says:List UInt8→List UInt8) (s0:SSt) (c0:List UInt8) (c:List UInt8) (ur:World):Prop:=∃ s out hv rv v,Q3S w0 lo S b F0 s out hv rv v ur∧SInv s∧(QE s c).1=(QE s0 c0).1∧out++(QE s c).2.flatMap says=(QE s0 c0).2.flatMap says∧out.length + 200000 * c.length≤200000 * c0.length
end Go.Proofs.YtmbcibgknckenaaGreatDoor
