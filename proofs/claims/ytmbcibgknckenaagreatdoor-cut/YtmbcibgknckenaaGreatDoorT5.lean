import Derived.Test.YtmbcibgknckenaaGreatDoorT4
import Derived.ChangeKeysEq
set_option linter.all false
set_option maxRecDepth 100000
set_option maxHeartbeats 4000000
namespace Go.Proofs.YtmbcibgknckenaaGreatDoor
open Go.RowKit
open Go.MapKept
theorem Rd.withProgs {A:Ad} {text:ByteArray} {σ:St} {w w':World} {l:List (Int×Int)} (h:Rd A text σ w) (hk:Qb [A.P] w w') (hn:QT A.P l w'):Rd A text { σ with progs:=l } w':=by
 obtain ⟨l1,l2,l3,l4⟩:=h.lt
 obtain ⟨a1,a2,a3,a4,a5,a6⟩:=h.apart
 have hp:w.heap[A.P]? = some (.map (σ.progs.mapIdx fun i p=>(⟨.int .i64 p.1,.int .i64 p.2,i⟩:MapEntry)).toArray σ.progs.length):=h.pr
 have far:∀ b v,w.cell? ⟨b,0,none⟩=some v→b≠A.P:=by
  intro b v hc e
  subst e
  unfold World.cell? at hc
  rw [hp] at hc
  cases hc
 obtain ⟨⟨m,g1⟩,⟨_,_,g2⟩,⟨_,_,g3⟩⟩:=id h.gl
 refine ⟨(hk.block _ l1 (by simp;exact a3)).trans h.me,?_,h.nm.keeps hk (by simp;exact h.mine.2.2.2) (by simp;exact a6),h.mine,fun x hx=>Nat.lt_of_lt_of_le (h.old x hx) hk.size,hn,h.np,h.gl.keeps hk (by simp [far _ _ g1]) (by simp [far _ _ g2]) (by simp [far _ _ g3]),h.small,h.few⟩
 obtain ⟨ha,hs⟩:=h.sc
 refine ⟨ha,?_⟩
 have hb:=hk.block _ l2 (by simp;exact a5)
 show match σ.nx with | some x=>_ | none=>_
 cases hn:σ.nx with
 | some x=>rw [hn] at hs;exact hb.trans hs
 | none=>rw [hn] at hs;obtain ⟨k,t,n,a,hs⟩:=hs;exact ⟨k,t,n,a,hb.trans hs⟩
def Q3J (text:ByteArray) (p:Int→Bool):PM Int:=fun σ=>match number text p σ.progs σ with
 | .ok (n,l',σ')=>.ok (n,{ σ' with progs:=l' })
 | .error f=>.error f
theorem Q7h {text:ByteArray} {p:Int→Bool} {σ σ':St} {n:Int} {l':List (Int×Int)} (h:number text p σ.progs σ = .ok (n,l',σ')):Q3J text p σ = .ok (n,{ σ' with progs:=l' }):=by simp only [Q3J,h]
theorem Q50 {text:ByteArray} {p:Int→Bool} {σ:St} {f:Mar.Fault} (h:number text p σ.progs σ = .error f):Q3J text p σ = .error f:=by simp only [Q3J,h]
theorem Qd9 {A:Ad} {text:ByteArray} {σ:St} {v:Value} {p:Int→Bool} {w:World} (h:Rd A text σ w) (hf:Fits A.X v p w) :
  Calls Tryz.prog 163 #[.pointer (some ⟨A.R,0,none⟩),.map (some A.P),v] w (Qt [A.S,A.P] A text w (Q3J text p σ) intV):=by
 have HC:=Hid.mk (QbI h hf)
 have hn:QT A.P σ.progs w:=h.pr
 have hqS:A.P ∉ [A.S]:=by simp;exact fun e=>h.apart.2.2.2.2.1 e.symm
 go_enter Tryz.func163,Tryz.ntmps163
 go_wp2_with fail
 refine HC.out.mono ?_
 rintro e w1 ⟨hk1,⟨r,σ1,hx1,rfl,hr1⟩ | ⟨f,hx1,b,hbb,rfl,hcell⟩⟩
 rotate_left
 ·exact Qa (Qt.throws (hk1.mono (by simp)) (Qb.refl [] _) (Q50 (Qm (Qx hx1))) hbb hcell)
 have hn1:=hn.keeps hk1 hqS
 have HK1:=Hid.mk (hk1.mono (M':=[A.S,A.P]) (by simp))
 clear hk1 hn
 go_wp2_with fail
 refine (Q8G _ _ hn1).mono ?_
 rintro e w2 ⟨hk2,⟨l',o,hx2,rfl,rfl,hn2⟩ | ⟨f,hx2,b,hbb,rfl,hcell⟩⟩
 rotate_left
 ·exact Qa (Qt.throws (HK1.out.trans (hk2.mono (by simp))) HK1.out (Q50 ((Qi (Ql hx1)).trans (Qm (Q4M hx2)))) hbb hcell)
 have HR2:=Hid.mk (hr1.withProgs hk2 hn2)
 have HK2:=Hid.mk (HK1.out.trans (hk2.mono (M':=[A.S,A.P]) (by simp)))
 clear hn1 hk2 hn2
 go_wp2
 go_ret
 exact Qt.ok (a:=r.1) HK2.out (Q7h ((Qi (Ql hx1)).trans (Qi (Q5A hx2)))) rfl HR2.out
def Q4i (text:ByteArray):PM Int:=bnd (QX text [61]) fun _=>bnd (Q3J text (Q1V 0 4294967295)) fun n=>bnd (QX text [59]) fun _=>ret n
theorem Qda {A:Ad} {text:ByteArray} {σ:St} {w:World} (h:Rd A text σ w) :
  Calls Tryz.prog 138 #[.pointer (some ⟨A.R,0,none⟩),.map (some A.P)] w (Qt [A.S,A.P] A text w (Q4i text σ) intV):=by
 go_enter Tryz.func138,Tryz.ntmps138
 go_wp2_with fail
 refine (Q3E _ h).mono ?_
 rintro e w1 ⟨hk1,⟨x1,σ1,hx1,rfl,hr1⟩ | ⟨f,hx1,b,hbb,rfl,hcell⟩⟩
 rotate_left
 ·exact Qa (Qt.throws (hk1.mono (by simp)) (Qb.refl [] _) (Qp hx1) hbb hcell)
 have hK1:=hk1.mono (M':=[A.S,A.P]) (by simp)
 clear hk1
 go_wp2_with fail
 refine (Q2Y _ _ _).mono ?_
 rintro e w2 ⟨v,rfl,hb2,hfit⟩
 have hf2:=hfit A.X hr1.old
 have hr2:=hr1.below hb2
 have hK2:=hK1.trans (Qb.of_below _ hb2)
 clear hfit hb2 hK1
 go_wp2_with fail
 refine (Qd9 hr2 hf2).mono ?_
 rintro e w3 ⟨hk3,⟨n,σ3,hx3,rfl,hr3⟩ | ⟨f,hx3,b,hbb,rfl,hcell⟩⟩
 rotate_left
 ·exact Qa (Qt.throws (hK2.trans hk3) hK2 ((Qh hx1).trans (Qp hx3)) hbb hcell)
 have hK3:=hK2.trans hk3
 clear hf2 hK2 hk3
 dsimp only [intV]
 go_wp2_with fail
 refine (Q3E _ hr3).mono ?_
 rintro e w4 ⟨hk4,⟨x4,σ4,hx4,rfl,hr4⟩ | ⟨f,hx4,b,hbb,rfl,hcell⟩⟩
 rotate_left
 ·exact Qa (Qt.throws (hK3.trans (hk4.mono (by simp))) hK3 ((Qh hx1).trans ((Qh hx3).trans (Qp hx4))) hbb hcell)
 go_wp2
 go_ret
 exact Qt.ok (a:=n) (hK3.trans (hk4.mono (by simp))) ((Qh hx1).trans ((Qh hx3).trans (Qh hx4))) rfl hr4
theorem QeA {A' A:Ad} (hA:Same A' A) {text:ByteArray} {σ:St} {w:World} (h:Rd A' text σ w) :
  Calls Tryz.prog 138 #[.pointer (some ⟨A.R,0,none⟩),.map (some A.P)] w (Qt [A.S,A.P] A' text w (Q4i text σ) intV):=by
 have:=Qda h
 rw [hA.1,hA.2.1,hA.2.2.2] at this
 exact this
theorem Qdb:(Tryz.prog.info? 296).map (fun i=>(i.zero,i.size,i.bytes))=some (some (.agg #[.string ⟨#[]⟩,.int .i64 0,.slice none 0 0,.int .i64 0]),4,56):=by kernel_rfl
def Q3j (text:ByteArray):PX (List Q0d×UnSt) Unit:=fun p σ=>match Q34 text p.2 σ with
 | .ok (d,s',σ')=>.ok ((),(p.1++[d],s'),σ')
 | .error f=>.error f
theorem Q9H {text:ByteArray} {ps:List Q0d} {s s':UnSt} {σ σ':St} {d:Q0d} (h:Q34 text s σ = .ok (d,s',σ')):Q3j text (ps,s) σ = .ok ((),(ps++[d],s'),σ'):=by simp only [Q3j,h]
theorem Q8K {text:ByteArray} {ps:List Q0d} {s:UnSt} {σ:St} {f:Mar.Fault} (h:Q34 text s σ = .error f):Q3j text (ps,s) σ = .error f:=by simp only [Q3j,h]
structure PgAd where
 D:Nat
 db:Nat
 rb:Nat
 cb:Nat
 nb:Nat
 q:Nat
 nq:Nat
 bx:Nat
abbrev PgAd.E (a:PgAd):List (Nat×Obj):=[(a.db,.cells #[.pointer (some ⟨a.D,0,none⟩)] 186),(a.cb,.cells #[(Qr a.q a.bx).v] 270),(a.nb,.cells #[.map (some a.nq)] 105)]
abbrev verC (p:Q0d×Value):List Value:=Q4q p.1.t p.1.at'++[p.2,.int .i64 p.1.num]
def pgJ (A:Ad) (text:ByteArray) (w:World) (a:PgAd) (n:List UInt8×Nat) (k:Nat) (Y:List Nat) (p:List Q0d×UnSt) (σ:St) (u:World):Prop:=p.1.length=k ∧
 ∃ (sl:Value) (css:List Value) (bs:List (Nat×Obj)),BMid A text w 220 296 4 a.D a.q a.nq a.E n p.1.length ((p.1.zip css).flatMap verC) ((Qr a.q a.bx).bs++bs) Y p.2.1 p.2.2 sl σ u∧css.length=p.1.length ∧
  ∀ i (h:i < p.1.length) (h':i < css.length),Q0u bs 342 css[i] p.1[i].procs.length (p.1[i].procs.flatMap Q43)
theorem QeB {A' A:Ad} (hA:Same A' A) {text:ByteArray} {σ:St} {q bx nq:Nat} {t:List (List UInt8)} {l:List (Int×Int)} {w:World} (h:Rd A' text σ w) (hq:Free A' q) (hn:Free A' nq) (hne:q≠nq) (hs:Q0l q t w) (hcl:Held A'.X (Qr q bx).bs w) (hl:QT nq l w) :
  Calls Tryz.prog 137 #[.pointer (some ⟨A.R,0,none⟩),(Qr q bx).v,.map (some nq)] w (Q59 A' text w q nq (Q34 text (t,l) σ)):=by
 have:=Qd8 h hq hn hne hs hcl hl
 rw [hA.1] at this
 exact this
theorem Qjf (d:Q0d) (a:Option Addr) (b c:Nat):∀ u∈verC (d,.slice a b c),u.oneCell'=true:=by
 intro u hu
 simp at hu
 rcases hu with rfl | rfl | rfl | rfl<;>rfl
theorem QbY {A:Ad} {text:ByteArray} {w u:World} {a:PgAd} {n:List UInt8×Nat} {k:Nat} {Y:List Nat} {ps:List Q0d} {s:UnSt} {σ σ0:St} (h0:Rd A text σ0 w) (hrb:w.heap[a.rb]? = some (.cells #[.pointer (some ⟨A.R,0,none⟩)] 101)) (hrf:a.rb ∉ [A.R,A.S,A.N]) (hk:k < 1000) (h:pgJ A text w a n k Y (ps,s) σ u) :
  Calls Tryz.prog 136 #[.pointer (some ⟨a.db,0,none⟩),.pointer (some ⟨a.rb,0,none⟩),.pointer (some ⟨a.cb,0,none⟩),.pointer (some ⟨a.nb,0,none⟩)] u (Q0Y A w (pgJ A text w a n (k + 1)) (Q3j text (ps,s) σ)):=by
 obtain ⟨hlen,sl,css,bs,hm,hcl,hea⟩:=h
 obtain ⟨t,l⟩:=s
 dsimp only at hlen hm hcl hea
 have HL:=Hid.mk hlen
 have HCL:=Hid.mk hcl
 have HEA:=Hid.mk hea
 have hds:ps.length < 1000:=by omega
 clear hlen hcl hea
 obtain ⟨ad,cap,rfl⟩:=hm.slice
 obtain ⟨i0,hi0,hz0,hz1,hz2⟩:=info_parts Qdb
 have hlr:=Qc hrb
 have hvr:=fun (v:World) (hk:Qb [A.R,A.S,A.N] w v)=>Qv ((hk.block _ hlr hrf).trans hrb)
 have HV:=Hid.mk hvr
 obtain ⟨x0,x1,x2,x3⟩:=Q2K hm.box
 have r0:=hvr _ hm.kp
 have d0:=Qv (hm.fix (a.db,.cells #[.pointer (some ⟨a.D,0,none⟩)] 186) (by simp [PgAd.E]))
 have c0:=Qv (hm.fix (a.cb,.cells #[(Qr a.q a.bx).v] 270) (by simp [PgAd.E]))
 have n0:=Qv (hm.fix (a.nb,.cells #[.map (some a.nq)] 105) (by simp [PgAd.E]))
 have hbd:Below u.heap.size u u.drew:=(Below.refl _ _).drew
 have MD:=Hid.mk (hm.below h0 hbd)
 have HC:=Hid.mk (QeB (bx:=a.bx) (Same.plus A Y) MD.out.rd (MD.out.free h0 (MD.out.mine a.q (by simp))) (MD.out.free h0 (MD.out.mine a.nq (by simp))) MD.out.apart.2.2.1 MD.out.set (fun p hp=>MD.out.held p (List.mem_append_left _ hp)) MD.out.nums)
 have hl1:ps.length + 1≤maxLen:=by unfold maxLen;omega
 have hl2:(ps.length + 1) * 56≤140737488355328:=by omega
 have hz3:(Value.agg #[.string ⟨#[]⟩,.int .i64 0,.slice none 0 0,.int .i64 0]).cells.size=4:=by decide
 clear hm hvr
 go_enter Tryz.func136,Tryz.ntmps136
 go_wp2_with fail
 refine Qu (fun w'=>w'.cell? ⟨a.D,2,none⟩=some (.slice ad ps.length cap)∧w'.cell? ⟨a.db,0,none⟩=some (.pointer (some ⟨a.D,0,none⟩))∧w'.cell? ⟨a.rb,0,none⟩=some (.pointer (some ⟨A.R,0,none⟩))∧w'.cell? ⟨a.cb,0,none⟩=some (Qr a.q a.bx).v∧w'.cell? ⟨a.nb,0,none⟩=some (.map (some a.nq))) (L:=13) (by kernel_rfl) rfl (by kernel_rfl) (by kernel_rfl) ?_ (fun hHeld=>?_)
 ·go_keep
 refine tk (i:=0) (v:=?_) rfl (by kernel_rfl) (fun _ _ _ h=>h) (by rfl) (by assumption) ?_ ?_
 rotate_left
 ·intro w hSw;(try dsimp only at hSw);go_simp;(try with_reducible rfl)
 (try simp only [Qd,Qe,List.set])
 refine tk (i:=1) (v:=?_) rfl (by kernel_rfl) (fun _ _ _ h=>h) (by rfl) (by assumption) ?_ ?_
 rotate_left
 ·intro w hSw;(try dsimp only at hSw);go_simp;(try with_reducible rfl)
 (try simp only [Qd,Qe,List.set])
 refine tk (i:=2) (v:=?_) rfl (by kernel_rfl) (fun _ _ _ h=>h) (by rfl) (by assumption) ?_ ?_
 rotate_left
 ·intro w hSw;(try dsimp only at hSw);go_simp;(try with_reducible rfl)
 (try simp only [Qd,Qe,List.set])
 refine tk (i:=3) (v:=?_) rfl (by kernel_rfl) (fun _ _ _ h=>h) (by rfl) (by assumption) ?_ ?_
 rotate_left
 ·intro w hSw;(try dsimp only at hSw);go_simp;(try with_reducible rfl)
 (try simp only [Qd,Qe,List.set])
 refine tk (i:=4) (v:=?_) rfl (by kernel_rfl) (fun _ _ _ h=>h) (by rfl) (by assumption) ?_ ?_
 rotate_left
 ·intro w hSw;(try dsimp only at hSw);go_simp;(try with_reducible rfl)
 (try simp only [Qd,Qe,List.set])
 refine tk (i:=5) (v:=?_) rfl (by kernel_rfl) (fun _ _ _ h=>h) (by rfl) (by assumption) ?_ ?_
 rotate_left
 ·intro w hSw;(try dsimp only at hSw);go_simp;(try with_reducible rfl)
 (try simp only [Qd,Qe,List.set])
 refine tk (i:=6) (v:=?_) rfl (by kernel_rfl) (fun _ _ _ h=>h) (by rfl) (by assumption) ?_ ?_
 rotate_left
 ·intro w hSw;(try dsimp only at hSw);go_simp;(try with_reducible rfl)
 (try simp only [Qd,Qe,List.set])
 refine tk (i:=7) (v:=?_) rfl (by kernel_rfl) (fun _ _ _ h=>h) (by rfl) (by assumption) ?_ ?_
 rotate_left
 ·intro w hSw;(try dsimp only at hSw);go_simp;(try with_reducible rfl)
 (try simp only [Qd,Qe,List.set])
 refine wpAnyH_ready (rs:=[8]) (by kernel_rfl) (by simp) ?_
 refine AllReadyH.cons rfl (fun K hK=>?_) AllReadyH.nil
 (go_simp;go_at_call 137;refine HC.out.mono ?_;rintro e w5 ⟨hk5,⟨d,t5,l5,σ5,cv,bs5,hx5,rfl,hr5,hs5,hn5,hsl5,hh5⟩ | ⟨f,hx5,b,hbb,rfl,hcell⟩⟩;rotate_left;exact Qa (Q0Y.throws (MD.out.kp.young hk5 (by intro x hx;have:=MD.out.new _ (MD.out.mine a.q (by simp));have:=MD.out.new _ (MD.out.mine a.nq (by simp));simp [Ad.plus] at hx ⊢;omega)) MD.out.kp (Q8K hx5) hbb hcell);have M5:=Hid.mk (MD.out.turn h0 hk5 (by intro x hx;simpa [Ad.plus] using hx) hr5 hs5 hn5);obtain ⟨ca,cn,cc,rfl⟩:∃ a b c,cv = .slice a b c:=(by rcases hsl5 with ⟨rfl,_⟩ | ⟨g,cap,cur,rfl,_⟩<;>exact ⟨_,_,_,rfl⟩);have HH5:=Hid.mk hh5;have HS5:=Hid.mk hsl5;clear hh5 hsl5;obtain ⟨y0,y1,y2,y3⟩:=Q2K M5.out.box;have r5:=HV.out _ M5.out.kp;have hd5:=M5.out.fix (a.db,.cells #[.pointer (some ⟨a.D,0,none⟩)] 186) (by simp [PgAd.E]);have hc5:=M5.out.fix (a.cb,.cells #[(Qr a.q a.bx).v] 270) (by simp [PgAd.E]);have hn5':=M5.out.fix (a.nb,.cells #[.map (some a.nq)] 105) (by simp [PgAd.E]);have d5:=Qv hd5;have c5:=Qv hc5;have n5:=Qv hn5';have lb5:=Qc M5.out.box;have lr5:=Nat.lt_of_lt_of_le hlr M5.out.kp.size;have ld5:=Qc hd5;have lc5:=Qc hc5;have ln5:=Qc hn5';have hwl:=M5.out.kp.size;clear hd5 hc5 hn5')
 refine hK.out _ _ ?_ (fun hHeld=>?_)
 ·go_keep
 clear hK K
 (try simp only [Qd,Qe,List.set])
 refine wpAnyH_ready (rs:=[9]) (by kernel_rfl) (by simp) ?_
 refine AllReadyH.cons rfl (fun K hK=>?_) AllReadyH.nil
 go_simp
 refine hK.out _ _ ?_ (fun hHeld=>?_)
 ·go_keep
 clear hK K
 (try simp only [Qd,Qe,List.set])
 refine wpAnyH_ready (rs:=[10]) (by kernel_rfl) (by simp) ?_
 refine AllReadyH.cons rfl (fun K hK=>?_) AllReadyH.nil
 (refine step_append_lies _ (by rfl) _ _ _ (by rfl) w.heap.size 296 i0 _ 4 56 Tryz.underlying218 hi0 hz0 hz1 hz2 hz3 (by omega) (.slice ad ps.length cap) ps.length ((ps.zip css).flatMap verC) (by rfl) (M5.out.rowAt _) ⟨w5.heap.size,0,none⟩ 1 1 (verC (d,.slice ca cn cc)) (by rfl) (by rfl) (World.news_of_block (cs:=(verC (d,.slice ca cn cc)).toArray) (t:=296) (fr:=(0,0)) (heap_alloc_new w5 _)) (Qjf d ca cn cc) (by omega) hl1 hl2 (by simp;omega) (w5.heap.size + 1) (by simp) ?_;intro g cap' w6 hown6 hgrow hat hlt;obtain ⟨z0,z1,z2,z3⟩:=Q2K (M5.out.boxAt hgrow);have hfz:=Q6Y (M5.out.boxAt hgrow);have d6:=Qv (M5.out.fixAt hgrow (p:=(a.db,.cells #[.pointer (some ⟨a.D,0,none⟩)] 186)) (by simp [PgAd.E]));have c6:=Qv (M5.out.fixAt hgrow (p:=(a.cb,.cells #[(Qr a.q a.bx).v] 270)) (by simp [PgAd.E]));have n6:=Qv (M5.out.fixAt hgrow (p:=(a.nb,.cells #[.map (some a.nq)] 105)) (by simp [PgAd.E]));have r6:w6.cell? ⟨a.rb,0,none⟩=some (.pointer (some ⟨A.R,0,none⟩)):=HV.out _ (((M5.out.kp.alloc _)).young (Q05 hgrow) (by intro x hx;have h1:=M5.out.own x (by simpa using hx);exact Or.inr (M5.out.new _ h1.1))))
 refine hK.out _ _ ?_ (fun hHeld=>?_)
 ·go_keep
 clear hK K
 (try simp only [Qd,Qe,List.set])
 refine tk (i:=11) (v:=?_) rfl (by kernel_rfl) (fun _ _ _ h=>h) (by rfl) (by assumption) ?_ ?_
 rotate_left
 ·intro w hSw;(try dsimp only at hSw);go_simp;(try with_reducible rfl)
 (try simp only [Qd,Qe,List.set])
 refine tk (i:=12) (v:=?_) rfl (by kernel_rfl) (fun _ _ _ h=>h) (by rfl) (by assumption) ?_ ?_
 rotate_left
 ·intro w hSw;(try dsimp only at hSw);go_simp;(try with_reducible rfl)
 (try simp only [Qd,Qe,List.set])
 refine wpAnyH_done (by kernel_rfl) ?_ _
 refine QB rfl (fun K hK=>?_)
 go_simp
 refine hK.out _ _ ?_
 clear hK K
 (try simp only [Qd,Qe,List.set])
 have M6:=BMid.step (bs':=bs5) h0 M5.out HH5.out ((Below.refl w5.heap.size w5).alloc (Nat.le_refl _) _) hown6 hgrow (by simpa using hat) hlt
 go_wp2
 go_end0
 have hcl:=HCL.out
 refine Or.inl ⟨g :: Y,(ps++[d],(t5,l5)),σ5,Q9H hx5,rfl,by simp [HL.out],.slice (some ⟨g,0,none⟩) (ps.length + 1) cap',css++[.slice ca cn cc],bs++bs5,?_,by simp [hcl],?_⟩
 ·have e1:((ps++[d]).zip (css++[.slice ca cn cc])).flatMap verC=(ps.zip css).flatMap verC++verC (d,.slice ca cn cc):=by
   rw [List.zip_append hcl.symm,List.flatMap_append]
   simp
  have e2:(ps++[d]).length=ps.length + 1:=by simp
  rw [List.append_assoc (Qr a.q a.bx).bs bs bs5] at M6
  dsimp only
  rw [e1,e2]
  exact M6
 ·intro i h1 h2
  dsimp only at h1 ⊢
  by_cases hi:i < ps.length
  ·have hi':i < css.length:=by omega
   rw [List.getElem_append_left hi',List.getElem_append_left hi]
   exact (HEA.out i hi hi').mono (fun p hp=>List.mem_append_left _ hp)
  ·have hi':i=ps.length:=by simp at h1;omega
   rw [List.getElem_append_right (by omega),List.getElem_append_right (by omega)]
   have e1:i - ps.length=0:=by omega
   have e3:i - css.length=0:=by omega
   simp only [e1,e3,List.getElem_cons_zero]
   exact HS5.out.mono (fun p hp=>List.mem_append_right _ hp)
theorem Q9I (args:Array Value) (u:World):(callFunc 136 args).run Tryz.prog u = .ok (.enter 136 args) u:=by kernel_rfl
def Qks {A:Ad} {text:ByteArray} {σ0:St} {w:World} (h0:Rd A text σ0 w) (a:PgAd) (hrb:w.heap[a.rb]? = some (.cells #[.pointer (some ⟨A.R,0,none⟩)] 101)) (hrf:a.rb ∉ [A.R,A.S,A.N]) (n:List UInt8×Nat):One (List Q0d×UnSt) A text w 4 where
 f:=136
 cap:=#[.pointer (some ⟨a.db,0,none⟩),.pointer (some ⟨a.rb,0,none⟩),.pointer (some ⟨a.cb,0,none⟩),.pointer (some ⟨a.nb,0,none⟩)]
 run:=Q3j text
 J:=pgJ A text w a n
 enters:=Q9I
 rd:=by rintro _ _ _ _ _ ⟨_,_,_,_,m,_⟩;exact m.rd
 kp:=by rintro _ _ _ _ _ ⟨_,_,_,_,m,_⟩;exact m.kp
 scan:=by rintro _ _ _ _ _ _ _ ⟨h,sl,css,bs,m,h2,h3⟩ hk hr;exact ⟨h,sl,css,bs,m.scan h0 hk hr,h2,h3⟩
 call:=by
  intro k Y t σ u hk h
  exact QbY h0 hrb hrf (by omega) h
def Q5U (text:ByteArray) (n:List UInt8×Nat):PM DefL:=bnd (runx (block text 4 (Q3j text)) ([],([],[]))) fun p=>bnd (Q4i text) fun k=>ret (.prog n.1 n.2 p.1 k)
def Q2E (text:ByteArray) (at':Nat):PM DefL:=bnd (fun σ=>Q1A σ.progs.length 4 at' σ) fun _=>bnd (Q1y text) (Q5U text)
theorem QhV:∀ ps:List (Q0d×Value),(ps.flatMap verC).length=ps.length * 4:=by
 intro ps
 induction ps with
 | nil=>rfl
 | cons d ds ih=>simp only [List.flatMap_cons,List.length_append,List.length_cons,ih];simp;omega
theorem Qdc {A:Ad} {text:ByteArray} {σ:St} (at':Nat) {w:World} (h:Rd A text σ w) :
  Calls Tryz.prog 91 #[.pointer (some ⟨A.R,0,none⟩),.int .i64 at'] w (QC [A.R,A.S,A.N,A.P] A text w (Q2E text at' σ)):=by
 have hmf:∀ (fn:Fn) (first cap:Array Value) (w:World),(Instr.makeFunc fn first cap).run Tryz.prog w = .ok (.func fn first cap) w:=fun _ _ _ _=>rfl
 have hmm:∀ (t:TypeId) (w:World),(Instr.makeMap t none).run Tryz.prog w = .ok (.map (some w.heap.size)) (w.alloc (.map #[] 0)):=fun _ _=>rfl
 have hr0:=h.own (.cells #[.pointer (some ⟨A.R,0,none⟩)] 101)
 have hv0:=Qg (w:=w) (o:=.cells #[.pointer (some ⟨A.R,0,none⟩)] 101) rfl
 obtain ⟨l1,l2,l3,l4⟩:=h.lt
 have c0:=Qv hv0
 have hc4:(w.alloc (.cells #[.pointer (some ⟨A.R,0,none⟩)] 101)).cell? ⟨A.R,4,none⟩=some (.map (some A.P)):=hr0.cells.2.2.2.2.1
 have hnl:=QbV (show QT A.P σ.progs (w.alloc (.cells #[.pointer (some ⟨A.R,0,none⟩)] 101)) from hr0.pr)
 go_enter Tryz.func91,Tryz.ntmps91
 go_wp2_with fail
 by_cases hfi:4≤σ.progs.length
 ·refine (Q3p _ _ _ _ (by omega)).mono ?_
  rintro e w1 ⟨⟨b,hbb,rfl,hcell⟩,hb⟩
  exact Qa (QC.throws (f:=⟨5,at'⟩) (((Qb.refl _ w).alloc _).trans (Qb.of_below _ hb)) ((Qb.refl [] w).alloc _) (Qp (show Q1A σ.progs.length 4 at' σ = _ from if_pos hfi)) hbb hcell)
 have hx1:(fun σ:St=>Q1A σ.progs.length 4 at' σ) σ = .ok ((),σ):=if_neg hfi
 refine (Q4L _ _ _ _ (by omega)).mono ?_
 rintro e w1 ⟨rfl,rfl⟩
 go_wp2_with fail
 refine (Q9B (Same.add A _) hr0).mono ?_
 rintro e w2 ⟨hk2,⟨n,σ2,hx2,rfl,hr2⟩ | ⟨f,hx2,b,hbb,rfl,hcell⟩⟩
 rotate_left
 ·exact Qa (QC.throws (((Qb.refl _ w).alloc _).trans (hk2.mono (by simp))) ((Qb.refl [] w).alloc _) ((Qh hx1).trans (Qp hx2)) hbb hcell)
 have hK2:Qb [A.R,A.S,A.N] w w2:=((Qb.refl _ w).alloc _).trans (hk2.mono (by simp))
 have hrb2:=(hk2.block _ (Qc hv0) (by simp;omega)).trans hv0
 have lrb:=Qc hrb2
 have E2:Hid (Q2E text at' σ = Q5U text n σ2):=(Qh hx1).trans (Qh hx2)
 have hrf:w.heap.size ∉ [A.R,A.S,A.N]:=by simp;omega
 clear hk2 hv0 c0 hc4 hnl hx1 hx2 hfi hr0
 dsimp only [Q1q]
 go_wp2_with fail
 obtain ⟨W3,hW3⟩:∃ W3,W3=(w2.alloc (.cells #[.string ⟨n.1.toArray⟩,.int .i64 n.2,.slice none 0 0,.int .i64 0] 220)).alloc (.cells #[.pointer (some ⟨w2.heap.size,0,none⟩)] 186):=⟨_,rfl⟩
 rw [← hW3]
 have hs1:(w2.alloc (.cells #[.string ⟨n.1.toArray⟩,.int .i64 n.2,.slice none 0 0,.int .i64 0] 220)).heap.size=w2.heap.size + 1:=by simp
 have hr3:=(hr2.own (.cells #[.string ⟨n.1.toArray⟩,.int .i64 n.2,.slice none 0 0,.int .i64 0] 220)).own (.cells #[.pointer (some ⟨w2.heap.size,0,none⟩)] 186)
 rw [hs1,← hW3] at hr3
 have hs3:W3.heap.size=w2.heap.size + 2:=by rw [hW3];simp
 have hk3:Qb [] w2 W3:=by rw [hW3];exact ((Qb.refl [] w2).alloc _).alloc _
 have hD3:W3.heap[w2.heap.size]? = some (.cells #[.string ⟨n.1.toArray⟩,.int .i64 n.2,.slice none 0 0,.int .i64 0] 220):=by
  rw [hW3]
  exact (((Qb.refl [] _).alloc _).block _ (by rw [hs1];omega) (by simp)).trans (Qg rfl)
 have hd3:W3.heap[w2.heap.size + 1]? = some (.cells #[.pointer (some ⟨w2.heap.size,0,none⟩)] 186):=by
  rw [hW3]
  exact Qg hs1.symm
 clear hW3 hs1
 refine (Q6n _).mono ?_
 rintro e w5 ⟨q,bx,rfl,hq,hbx,hqb,hI,hb5,hx5⟩
 dsimp only [Q0h.v,Qr]
 have hlq:q < w5.heap.size:=by
  obtain ⟨_,_,_,hm⟩:=id hI
  exact Qc hm
 have hlx:=Qc hx5
 have hz5:=hb5.size
 have hk5:=Qb.of_below [] hb5
 have hr5:=hr3.take hb5 hq hlq
 have hD5:=(hk5.block _ (Qc hD3) (by simp)).trans hD3
 have hd5:=(hk5.block _ (Qc hd3) (by simp)).trans hd3
 obtain ⟨W6,hW6⟩:∃ W6,W6=((w5.alloc (.map #[] 0)).alloc (.cells #[(Qr q bx).v] 270)).alloc (.cells #[.map (some w5.heap.size)] 105):=⟨_,rfl⟩
 have hs5:(w5.alloc (.map #[] 0)).heap.size=w5.heap.size + 1:=by simp
 have hs6:((w5.alloc (.map #[] 0)).alloc (.cells #[(Qr q bx).v] 270)).heap.size=w5.heap.size + 2:=by simp
 have hr6:=((hr5.own (.map #[] 0)).own (.cells #[(Qr q bx).v] 270)).own (.cells #[.map (some w5.heap.size)] 105)
 rw [hs5,hs6,← hW6] at hr6
 have k56:Qb [] w5 W6:=by rw [hW6];exact (((Qb.refl [] w5).alloc _).alloc _).alloc _
 have hm6:W6.heap[w5.heap.size]? = some (.map #[] 0):=by
  rw [hW6]
  exact ((((Qb.refl [] _).alloc _).alloc _).block _ (by rw [hs5];omega) (by simp)).trans (Qg rfl)
 have hc6:W6.heap[w5.heap.size + 1]? = some (.cells #[(Qr q bx).v] 270):=by
  rw [hW6]
  exact (((Qb.refl [] _).alloc _).block _ (by rw [hs6];omega) (by simp)).trans (Qg hs5.symm)
 have hn6:W6.heap[w5.heap.size + 2]? = some (.cells #[.map (some w5.heap.size)] 105):=by
  rw [hW6]
  exact Qg hs6.symm
 have kb6:Qb [] w2 W6:=(hk3.trans hk5).trans k56
 have M6:Hid (BMid (A.plus [w.heap.size]) text w2 220 296 4 w2.heap.size q w5.heap.size [(w2.heap.size + 1,.cells #[.pointer (some ⟨w2.heap.size,0,none⟩)] 186),(w5.heap.size + 1,.cells #[(Qr q bx).v] 270),(w5.heap.size + 2,.cells #[.map (some w5.heap.size)] 105)] n 0 [] ((Qr q bx).bs++[]) [w5.heap.size + 2,w5.heap.size + 1,w5.heap.size,q,w2.heap.size + 1,w2.heap.size] [] [] (.slice none 0 0) σ2 W6):=by
  refine ⟨kb6.mono (by simp),hr6,?_,?_,?_,(by intro g hg;cases hg),?_,hm6,(k56.block _ (Qc hD5) (by simp)).trans hD5,?_,⟨rfl,Or.inl ⟨rfl,rfl⟩⟩,?_⟩
  ·intro b hb
   simp at hb ⊢
   omega
  ·simp
   omega
  ·intro y hy
   simp at hy
   omega
  ·have hI2:Q0l q [] w5:=hI
   exact hI2.keeps k56 (by simp)
  ·intro p hp
   simp only [List.mem_cons,List.not_mem_nil,or_false] at hp
   rcases hp with rfl | rfl | rfl
   ·exact (k56.block _ (Qc hd5) (by simp)).trans hd5
   ·exact hc6
   ·exact hn6
  ·intro p hp
   simp only [Qr,List.append_nil,List.mem_singleton] at hp
   subst hp
   refine ⟨(k56.block _ hlx (by simp)).trans hx5,?_⟩
   simp [Ad.plus]
   refine ⟨by omega,by omega,by omega,by omega,by omega,by omega,by omega,?_⟩
   intro hm
   have:=h.old _ hm
   omega
 have rb6:=Qv ((kb6.block _ lrb (by simp)).trans hrb2)
 rw [hW6] at rb6
 clear hr6 hr5 hm6 hc6 hn6 hI hx5 hb5 hk5 k56 hlq hlx hq hbx hqb hD3 hd3 hD5 hd5 hr3 hk3
 dsimp only [Q0h.v,Qr] at rb6
 go_wp2_with fail
 rw [show ((w5.alloc (.map #[] 0)).alloc (.cells #[.func (.func 164) #[] #[.pointer (some ⟨bx,0,none⟩)]] 270)).alloc (.cells #[.map (some w5.heap.size)] 105)=W6 from hW6.symm]
 have HJ:pgJ (A.plus [w.heap.size]) text w2 ⟨w2.heap.size,w2.heap.size + 1,w.heap.size,w5.heap.size + 1,w5.heap.size + 2,q,w5.heap.size,bx⟩ n 0 [w5.heap.size + 2,w5.heap.size + 1,w5.heap.size,q,w2.heap.size + 1,w2.heap.size] ([],([],[])) σ2 W6:=⟨rfl,_,[],[],M6.out,rfl,by intro i h;cases h⟩
 refine (Q7S 4 (Qks (A:=A.plus [w.heap.size]) hr2 ⟨w2.heap.size,w2.heap.size + 1,w.heap.size,w5.heap.size + 1,w5.heap.size + 2,q,w5.heap.size,bx⟩ hrb2 hrf n) (by omega) HJ).mono ?_
 rintro e w6 (⟨Y6,⟨ps,t6,l6⟩,σ6,hx6,rfl,k6,hk6,hlen,sl,css,bs,hM6,hcl6,hea6⟩ | ⟨f,hx6,hk6,b,hbb,rfl,hcell⟩)
 rotate_left
 ·exact Qa (QC.throws ((hK2.mono (by simp)).trans (hk6.mono (by simp [Ad.plus]))) hK2 (E2.out.trans (Qp (Q5T hx6))) hbb hcell)
 dsimp only at hlen hM6 hcl6 hea6
 have hps:ps.length≤4:=by omega
 clear hlen hk6
 have hA6:Same ((A.plus [w.heap.size]).plus Y6) A:=⟨rfl,rfl,rfl,rfl⟩
 have hK6:Qb [A.R,A.S,A.N] w2 w6:=hM6.kp
 have rb7:=Qv ((hK6.block _ lrb hrf).trans hrb2)
 have db7:=Qv (hM6.fix (w2.heap.size + 1,.cells #[.pointer (some ⟨w2.heap.size,0,none⟩)] 186) (by simp [PgAd.E]))
 have R7:w6.cell? ⟨A.R,4,none⟩=some (.map (some A.P)):=hM6.rd.cells.2.2.2.2.1
 have HM6:=Hid.mk hM6
 have HCL:=Hid.mk hcl6
 have HEA:=Hid.mk hea6
 have hbd:Below w6.heap.size w6 w6.drew:=(Below.refl _ _).drew
 have HC:=Hid.mk (QeA hA6 (hM6.rd.below hbd))
 clear M6 HJ rb6 hW6 kb6 hs5 hs6 hcl6 hea6
 go_wp2_with fail
 have hne1:¬ w2.heap.size=A.R:=by have:=hK2.size;omega
 have hne2:¬ w2.heap.size=w.heap.size:=by omega
 have hne3:¬ w2.heap.size=w2.heap.size + 1:=by omega
 have hat7:∀ w7,Qb [A.S,A.P] w6.drew w7→w7.cell? ⟨w2.heap.size + 1,0,none⟩=some (.pointer (some ⟨w2.heap.size,0,none⟩))∧w7.cell? ⟨w.heap.size,0,none⟩=some (.pointer (some ⟨A.R,0,none⟩)) ∧
   w7.heap[w2.heap.size]? = some (.cells #[.string ⟨n.1.toArray⟩,.int .i64 n.2,sl,.int .i64 0] 220):=by
  intro w7 hk7
  have hk7':=((Qb.refl _ w6).drew).trans hk7
  have b1:=hM6.fix (w2.heap.size + 1,.cells #[.pointer (some ⟨w2.heap.size,0,none⟩)] 186) (by simp [PgAd.E])
  have b2:=(hK6.block _ lrb hrf).trans hrb2
  exact ⟨Qv ((hk7'.block _ (Qc b1) (by simp;omega)).trans b1),Qv ((hk7'.block _ (Qc b2) (by simp;omega)).trans b2),(hk7'.block _ (Qc hM6.box) (by simp;omega)).trans hM6.box⟩
 have H7:=Hid.mk hat7
 clear hat7 hM6
 go_region_held2 (fun w'=>w'.cell? ⟨w2.heap.size + 1,0,none⟩=some (.pointer (some ⟨w2.heap.size,0,none⟩))∧w'.cell? ⟨w.heap.size,0,none⟩=some (.pointer (some ⟨A.R,0,none⟩))∧w'.cell? ⟨A.R,4,none⟩=some (.map (some A.P))) (go_keep)
  (first
   | (go_at_call 138;refine HC.out.mono ?_;rintro e w7 ⟨hk7,⟨k,σ7,hx7,rfl,hr7⟩ | ⟨f,hx7,b,hbb,rfl,hcell⟩⟩;rotate_left;exact Qa (QC.throws (((hK2.mono (by simp)).trans (hK6.mono (by simp))).trans (((Qb.refl _ w6).drew).trans (hk7.mono (by simp)))) (hK2.trans hK6) (E2.out.trans ((Qh (Q4g hx6)).trans (Qp hx7))) hbb hcell);obtain ⟨d7,b7,box7⟩:=H7.out w7 hk7;have R8:w7.cell? ⟨A.R,4,none⟩=some (.map (some A.P)):=hr7.cells.2.2.2.2.1;obtain ⟨v0,v1,v2,v3⟩:=Q2K box7;have hfv:=Q6Y box7;have HK7:=Hid.mk (((Qb.refl [A.S,A.P] w6).drew).trans hk7);have HR7:=Hid.mk hr7;have HB7:=Hid.mk box7;clear hk7 hr7 box7;dsimp only [intV]))
 all_goals
  go_wp2
  go_ret
  have kf:=(Qb.refl [w2.heap.size] w7).setIn (p:=⟨w2.heap.size,3,none⟩) (by simp) (.int .i64 k)
  obtain ⟨bs',hsl,hbs⟩:=HM6.out.lies (by omega) (by rw [QhV,List.length_zip,HCL.out,Nat.min_self]) (by intro h;rw [List.length_eq_zero_iff.1 h];rfl)
  have hA3:w2.heap.size∈((A.plus [w.heap.size]).plus Y6).X:=List.mem_append_left _ (HM6.out.mine _ (by simp))
  have hrf7:=h.young hA6 HR7.out kf (by
   intro x hx
   simp only [List.mem_singleton] at hx
   subst hx
   exact ⟨by omega,hA3⟩)
  have hrA:=Rd.dropAll h.mine (Rd.dropAll (A:=A.plus [w.heap.size]) hr2.mine hrf7)
  have hbox:=Qn (i:=3) HB7.out (.int .i64 k)
  have far:∀ b,w.heap.size≤b→b ∉ A.X:=fun b hb hm=>by have:=h.old _ hm;omega
  refine ⟨?_,Or.inl ⟨.prog n.1 n.2 ps k,σ7,w2.heap.size,(w2.heap.size,.cells #[.string ⟨n.1.toArray⟩,.int .i64 n.2,sl,.int .i64 k] 220) :: (bs'++bs),E2.out.trans ((Qh (Q4g hx6)).trans ((Qh hx7).trans rfl)),rfl,hrA,⟨sl,css,List.mem_cons_self,HCL.out,?_,?_⟩,?_⟩⟩
  ·refine (((hK2.mono (by simp)).trans (hK6.mono (by simp))).trans (HK7.out.mono (by simp))).young kf ?_
   intro x hx
   simp only [List.mem_singleton] at hx
   subst hx
   exact Or.inr (by omega)
  ·exact hsl.mono (fun p hp=>List.mem_cons_of_mem _ (List.mem_append_left _ hp))
  ·intro i h1 h2
   exact (HEA.out i h1 h2).mono (fun p hp=>List.mem_cons_of_mem _ (List.mem_append_right _ hp))
  ·intro p hp
   rcases List.mem_cons.1 hp with rfl | hp
   ·exact ⟨hbox,far _ (by dsimp only;omega)⟩
   ·rcases List.mem_append.1 hp with hp | hp
    ·obtain ⟨g1,g2,g3⟩:=hbs p hp
     have lg:=Qc g1
     exact ⟨(kf.block _ (Nat.lt_of_lt_of_le lg HK7.out.size) (by simp;exact g3)).trans ((HK7.out.block _ lg (by simp;omega)).trans g1),far _ (by omega)⟩
    ·obtain ⟨g1,g2⟩:=HM6.out.held p (List.mem_append_right _ hp)
     have lg:=Qc g1
     have hm:=HM6.out.rd.mine
     have n1:p.1≠A.S:=fun e=>g2 (e ▸ hm.2.1)
     have n2:p.1≠A.P:=fun e=>g2 (e ▸ hm.2.2.2)
     have n3:p.1≠w2.heap.size:=fun e=>g2 (e ▸ hA3)
     exact ⟨(kf.block _ (Nat.lt_of_lt_of_le lg HK7.out.size) (by simp;exact n3)).trans ((HK7.out.block _ lg (by simp;exact ⟨n1,n2⟩)).trans g1),fun hx=>g2 (List.mem_append_right _ (List.mem_append_right _ hx))⟩
theorem Q01 {α:Type} {T:TypeId} {m:PM α} {f:α→PM DefL} {σ σ':St} {b:DefL} (h:bnd m f σ = .ok (b,σ')) (hf:∀ a σ1,f a σ1 = .ok (b,σ')→defT b=T):defT b=T:=by
 cases hm:m σ with
 | error e=>rw [Qp hm] at h;cases h
 | ok p=>
  obtain ⟨a,σ1⟩:=p
  rw [Qh hm] at h
  exact hf a σ1 h
theorem Q4O {T:TypeId} {c b:DefL} {σ σ':St} (h:ret c σ = .ok (b,σ')) (hc:defT c=T):defT b=T:=by
 simp only [ret] at h
 cases h
 exact hc
theorem QeC {text:ByteArray} {at':Nat} {σ σ':St} {d:DefL} (h:constant text at' σ = .ok (d,σ')):defT d=176:=
 Q01 h fun _ _ h=>Q01 h fun _ _ h=>Q01 h fun _ _ h=>Q01 h fun _ _ h=>Q01 h fun _ _ h=>Q4O h rfl
theorem QbZ {text:ByteArray} {at':Nat} {σ σ':St} {d:DefL} (h:typedef text at' σ = .ok (d,σ')):defT d=178:=
 Q01 h fun _ _ h=>Q01 h fun _ _ h=>Q01 h fun _ _ h=>Q4O h rfl
theorem Qc0 {text:ByteArray} {n:List UInt8×Nat}:∀ (k:Nat) (ms:List (List UInt8×Nat×Int)) (l:List (Int×Int)) (σ σ':St) (d:DefL),Q1l text n k ms l σ = .ok (d,σ')→defT d=180:=by
 intro k
 induction k with
 | zero=>intro ms l σ σ' d h;simp only [Q1l,thr] at h;cases h
 | succ k ih=>
  intro ms l σ σ' d h
  cases hm:Q2s text ms.length l σ with
  | error f=>rw [Q3V hm] at h;cases h
  | ok p=>
   obtain ⟨m,l',σ1⟩:=p
   rw [Q3G hm] at h
   refine Q01 h fun y σ2 h=>?_
   cases y with
   | true=>exact ih _ _ _ _ _ h
   | false=>exact Q01 h fun _ _ h=>Q01 h fun _ _ h=>Q4O h rfl
theorem Qgb {text:ByteArray} {at':Nat} {σ σ':St} {d:DefL} (h:enumeration text at' σ = .ok (d,σ')):defT d=180:=
 Q01 h fun _ _ h=>Q01 h fun _ _ h=>Q01 h fun _ _ h=>Qc0 _ _ _ _ _ _ h
theorem Qdd {text:ByteArray} {at':Nat} {σ σ':St} {d:DefL} (h:Q2t text at' σ = .ok (d,σ')):defT d=182:=
 Q01 h fun _ _ h=>Q01 h fun _ _ h=>Q01 h fun _ _ h=>Q01 h fun _ _ h=>Q4O h rfl
theorem QeD {text:ByteArray} {at':Nat} {σ σ':St} {d:DefL} (h:Q0w text at' σ = .ok (d,σ')):defT d=184:=
 Q01 h fun _ _ h=>Q01 h fun _ _ h=>Q01 h fun _ _ h=>Q01 h fun _ _ h=>Q01 h fun _ _ h=>Q01 h fun _ _ h=>Q01 h fun _ _ h=>Q01 h fun _ _ h=>Q01 h fun _ _ h=>Q01 h fun _ _ h=>Q01 h fun _ _ h=>Q4O h rfl
theorem Qgc {text:ByteArray} {at':Nat} {σ σ':St} {d:DefL} (h:Q2E text at' σ = .ok (d,σ')):defT d=186:=
 Q01 h fun _ _ h=>Q01 h fun _ _ h=>Q01 h fun _ _ h=>Q01 h fun _ _ h=>Q4O h rfl
def defK (text:ByteArray) (x:Mar.Word):PM DefL:=
 if x.text == [99,111,110,115,116] then constant text x.at'
 else if x.text == [116,121,112,101,100,101,102] then typedef text x.at'
 else if x.text == [101,110,117,109] then enumeration text x.at'
 else if x.text == [115,116,114,117,99,116] then Q2t text x.at'
 else if x.text == [117,110,105,111,110] then Q0w text x.at'
 else if x.text == [112,114,111,103,114,97,109] then Q2E text x.at'
 else thr 3 x.at'
def definition (text:ByteArray):PM DefL:=bnd (next text) (defK text)
theorem dk0 {text:ByteArray} {x:Mar.Word} (h0:(x.text == [99,111,110,115,116])=true):defK text x=constant text x.at':=by unfold defK;simp only [h0,if_true]
theorem dk1 {text:ByteArray} {x:Mar.Word} (h0:(x.text == [99,111,110,115,116])=false) (h1:(x.text == [116,121,112,101,100,101,102])=true):defK text x=typedef text x.at':=by unfold defK;simp only [h0,h1,Bool.false_eq_true,if_false,if_true]
theorem dk2 {text:ByteArray} {x:Mar.Word} (h0:(x.text == [99,111,110,115,116])=false) (h1:(x.text == [116,121,112,101,100,101,102])=false) (h2:(x.text == [101,110,117,109])=true):defK text x=enumeration text x.at':=by unfold defK;simp only [h0,h1,h2,Bool.false_eq_true,if_false,if_true]
theorem dk3 {text:ByteArray} {x:Mar.Word} (h0:(x.text == [99,111,110,115,116])=false) (h1:(x.text == [116,121,112,101,100,101,102])=false) (h2:(x.text == [101,110,117,109])=false) (h3:(x.text == [115,116,114,117,99,116])=true):defK text x=Q2t text x.at':=by unfold defK;simp only [h0,h1,h2,h3,Bool.false_eq_true,if_false,if_true]
theorem dk4 {text:ByteArray} {x:Mar.Word} (h0:(x.text == [99,111,110,115,116])=false) (h1:(x.text == [116,121,112,101,100,101,102])=false) (h2:(x.text == [101,110,117,109])=false) (h3:(x.text == [115,116,114,117,99,116])=false) (h4:(x.text == [117,110,105,111,110])=true):defK text x=Q0w text x.at':=by unfold defK;simp only [h0,h1,h2,h3,h4,Bool.false_eq_true,if_false,if_true]
theorem dk5 {text:ByteArray} {x:Mar.Word} (h0:(x.text == [99,111,110,115,116])=false) (h1:(x.text == [116,121,112,101,100,101,102])=false) (h2:(x.text == [101,110,117,109])=false) (h3:(x.text == [115,116,114,117,99,116])=false) (h4:(x.text == [117,110,105,111,110])=false) (h5:(x.text == [112,114,111,103,114,97,109])=true):defK text x=Q2E text x.at':=by unfold defK;simp only [h0,h1,h2,h3,h4,h5,Bool.false_eq_true,if_false,if_true]
theorem dk6 {text:ByteArray} {x:Mar.Word} (h0:(x.text == [99,111,110,115,116])=false) (h1:(x.text == [116,121,112,101,100,101,102])=false) (h2:(x.text == [101,110,117,109])=false) (h3:(x.text == [115,116,114,117,99,116])=false) (h4:(x.text == [117,110,105,111,110])=false) (h5:(x.text == [112,114,111,103,114,97,109])=false):defK text x=thr 3 x.at':=by unfold defK;simp only [h0,h1,h2,h3,h4,h5,Bool.false_eq_true,if_false]
def Q1m (M:List Nat) (A:Ad) (text:ByteArray) (w:World) (r:Except Mar.Fault (DefL×St)) (e:Ending) (w':World):Prop:=
 Qb M w w'∧((∃ d σ' b bs,r = .ok (d,σ')∧e = .returned (.iface (defT d) (.pointer (some ⟨b,0,none⟩)))∧Rd A text σ' w'∧Q0o bs b d∧Held A.X bs w')∨(∃ f,r = .error f∧Q0c w f.no f.at' e w'))
theorem Q1m.throws {M M':List Nat} {A:Ad} {text:ByteArray} {w w1 w':World} {r:Except Mar.Fault (DefL×St)} {f:Mar.Fault} {b:Nat}
  (hk:Qb M w w') (hk1:Qb M' w w1) (hr:r = .error f) (hb:w1.heap.size≤b) (hc:w'.heap[b]? = some (.cells #[.int .i64 f.no,.int .i64 f.at'] 83)) :
  Q1m M A text w r (.panicked [{ v:=.iface 79 (.pointer (some ⟨b,0,none⟩)),recovered:=false }]) w':=⟨hk,Or.inr ⟨f,hr,b,Nat.le_trans hk1.size hb,rfl,hc⟩⟩
theorem Q1m.ok {M:List Nat} {A:Ad} {text:ByteArray} {w w':World} {r:Except Mar.Fault (DefL×St)} {d:DefL} {σ':St} {b:Nat} {bs:List (Nat×Obj)} {T:TypeId}
  (hk:Qb M w w') (hr:r = .ok (d,σ')) (hT:defT d=T) (h:Rd A text σ' w') (hd:Q0o bs b d) (hh:Held A.X bs w'):Q1m M A text w r (.returned (.iface T (.pointer (some ⟨b,0,none⟩)))) w':=
 ⟨hk,Or.inl ⟨d,σ',b,bs,hr,by rw [hT],h,hd,hh⟩⟩
theorem Qal {A:Ad} {text:ByteArray} {σ:St} {w:World} (h:Rd A text σ w) :
  Calls Tryz.prog 50 #[.pointer (some ⟨A.R,0,none⟩)] w (Q1m [A.R,A.S,A.N,A.P] A text w (definition text σ)):=by
 obtain ⟨c0,c1,c2,c3,c4,hfr⟩:=h.cells
 have HC:=Hid.mk (Q2W h)
 go_enter Tryz.func50,Tryz.ntmps50
 go_wp2_with fail
 refine HC.out.mono ?_
 rintro e w1 ⟨hk,⟨x,σ',hx,rfl,hr⟩ | ⟨f,hx,b,hbb,rfl,hcell⟩⟩
 rotate_left
 ·exact Qa (Q1m.throws (hk.mono (by simp)) (Qb.refl [] _) (Qp hx) hbb hcell)
 have HK:=Hid.mk ((hk.alloc (.cells #[.int .i64 x.kind,.string ⟨x.text.toArray⟩,.int .i64 x.n,.int .i64 x.at'] 110)).mono (M':=[A.R,A.S,A.N,A.P]) (by simp))
 have Hx:=Hid.mk hx
 have HR:=Hid.mk (hr.below ((Below.refl _ _).alloc (Nat.le_refl _) (.cells #[.int .i64 x.kind,.string ⟨x.text.toArray⟩,.int .i64 x.n,.int .i64 x.at'] 110)))
 clear hk hx hr HC
 dsimp only [QZ]
 go_wp2_with (first
  | (go_at_call 47;refine (QY _ _ _).mono ?_;rintro e w' ⟨rfl,rfl⟩)
  | (go_at_call 86;refine (QbJ _ HR.out).mono ?_;rintro e w2 ⟨hk2,⟨d,σ2,b2,bs,hx2,rfl,hr2,hd2,hh2⟩ | ⟨f,hx2,b,hbb,rfl,hcell⟩⟩)
  | (go_at_call 87;refine (Qd3 _ HR.out).mono ?_;rintro e w2 ⟨hk2,⟨d,σ2,b2,bs,hx2,rfl,hr2,hd2,hh2⟩ | ⟨f,hx2,b,hbb,rfl,hcell⟩⟩)
  | (go_at_call 88;refine (Q9z _ HR.out).mono ?_;rintro e w2 ⟨hk2,⟨d,σ2,b2,bs,hx2,rfl,hr2,hd2,hh2⟩ | ⟨f,hx2,b,hbb,rfl,hcell⟩⟩)
  | (go_at_call 89;refine (Qb7 _ HR.out).mono ?_;rintro e w2 ⟨hk2,⟨d,σ2,b2,bs,hx2,rfl,hr2,hd2,hh2⟩ | ⟨f,hx2,b,hbb,rfl,hcell⟩⟩)
  | (go_at_call 90;refine (Qg9 _ HR.out).mono ?_;rintro e w2 ⟨hk2,⟨d,σ2,b2,bs,hx2,rfl,hr2,hd2,hh2⟩ | ⟨f,hx2,b,hbb,rfl,hcell⟩⟩)
  | (go_at_call 91;refine (Qdc _ HR.out).mono ?_;rintro e w2 ⟨hk2,⟨d,σ2,b2,bs,hx2,rfl,hr2,hd2,hh2⟩ | ⟨f,hx2,b,hbb,rfl,hcell⟩⟩))
 ·go_ret
  exact Q1m.ok (HK.out.trans (hk2.mono (by simp))) ((Qh Hx.out).trans (by rw [dk0 ‹_›];exact hx2)) (QeC hx2) hr2 hd2 hh2
 ·exact Qa (Q1m.throws (HK.out.trans (hk2.mono (by simp))) HK.out ((Qh Hx.out).trans (by rw [dk0 ‹_›];exact hx2)) hbb hcell)
 ·go_ret
  exact Q1m.ok (HK.out.trans (hk2.mono (by simp))) ((Qh Hx.out).trans (by rw [dk1 ‹_› ‹_›];exact hx2)) (QbZ hx2) hr2 hd2 hh2
 ·exact Qa (Q1m.throws (HK.out.trans (hk2.mono (by simp))) HK.out ((Qh Hx.out).trans (by rw [dk1 ‹_› ‹_›];exact hx2)) hbb hcell)
 ·go_ret
  exact Q1m.ok (HK.out.trans (hk2.mono (by simp))) ((Qh Hx.out).trans (by rw [dk2 ‹_› ‹_› ‹_›];exact hx2)) (Qgb hx2) hr2 hd2 hh2
 ·exact Qa (Q1m.throws (HK.out.trans (hk2.mono (by simp))) HK.out ((Qh Hx.out).trans (by rw [dk2 ‹_› ‹_› ‹_›];exact hx2)) hbb hcell)
 ·go_ret
  exact Q1m.ok (HK.out.trans (hk2.mono (by simp))) ((Qh Hx.out).trans (by rw [dk3 ‹_› ‹_› ‹_› ‹_›];exact hx2)) (Qdd hx2) hr2 hd2 hh2
 ·exact Qa (Q1m.throws (HK.out.trans (hk2.mono (by simp))) HK.out ((Qh Hx.out).trans (by rw [dk3 ‹_› ‹_› ‹_› ‹_›];exact hx2)) hbb hcell)
 ·go_ret
  exact Q1m.ok (HK.out.trans (hk2.mono (by simp))) ((Qh Hx.out).trans (by rw [dk4 ‹_› ‹_› ‹_› ‹_› ‹_›];exact hx2)) (QeD hx2) hr2 hd2 hh2
 ·exact Qa (Q1m.throws (HK.out.trans (hk2.mono (by simp))) HK.out ((Qh Hx.out).trans (by rw [dk4 ‹_› ‹_› ‹_› ‹_› ‹_›];exact hx2)) hbb hcell)
 ·go_ret
  exact Q1m.ok (HK.out.trans hk2) ((Qh Hx.out).trans (by rw [dk5 ‹_› ‹_› ‹_› ‹_› ‹_› ‹_›];exact hx2)) (Qgc hx2) hr2 hd2 hh2
 ·exact Qa (Q1m.throws (HK.out.trans hk2) HK.out ((Qh Hx.out).trans (by rw [dk5 ‹_› ‹_› ‹_› ‹_› ‹_› ‹_›];exact hx2)) hbb hcell)
 ·exact Qa (Q1m.throws (M':=[A.R,A.S,A.N,A.P]) (w1:=w1.alloc (.cells #[.int .i64 x.kind,.string ⟨x.text.toArray⟩,.int .i64 x.n,.int .i64 x.at'] 110)) (f:=⟨3,x.at'⟩) (HK.out.alloc _) HK.out ((Qh Hx.out).trans (by rw [dk6 ‹_› ‹_› ‹_› ‹_› ‹_› ‹_›];rfl)) (by simp) (Qg (by simp)))
theorem QeE {P:Program} {fuel:Nat} {t st idx xt f:Nat} {name:String} {b:Nat} {w:World} {i:TypeInfo} (hi:P.info? t=some i) {m:Method} (hm:i.methods.find? (fun m=>m.name == name)=some m) (hp:m.path = #[⟨st,idx,true⟩]) (hf:m.func=some (f,false))
  {fields:Array Field} (hu:P.underlying st=some (.struct fields)) {fd:Field} (hfd:fields[idx]? = some fd) (ht:fd.type=xt) (ho:fd.offset=0) {fs:Array Field} (hx:P.underlying xt=some (.struct fs)) {j:TypeInfo} (hj:P.info? xt=some j) (hs:j.size≠0) :
  (method (fuel + 1) t (.pointer (some ⟨b,0,none⟩)) name).run P w=((loadVar xt ⟨b,0,none⟩).run P w).andThen (fun x w'=>.ok (f,x) w'):=by
 unfold method
 simp only [Sem.run_bind,run_typeInfo _ hi,Result.andThen_ok,hm,hp,hf,follow,run_underlying hu,hfd,Place.get,asAddr,fieldPlace,sizeOf,ht,run_typeInfo _ hj,Sem.run_pure,if_true,hs,if_false,ho,receiverAt,run_underlying hx,Addr.add]
theorem Qde {P:Program} {fuel:Nat} {t st idx st2 idx2 yt xt f:Nat} {name:String} {b:Nat} {w:World} {i:TypeInfo} (hi:P.info? t=some i) {m:Method} (hm:i.methods.find? (fun m=>m.name == name)=some m) (hp:m.path = #[⟨st,idx,true⟩,⟨st2,idx2,false⟩]) (hf:m.func=some (f,false))
  {fields:Array Field} (hu:P.underlying st=some (.struct fields)) {fd:Field} (hfd:fields[idx]? = some fd) (ht:fd.type=yt) (ho:fd.offset=0) {k:TypeInfo} (hk:P.info? yt=some k) (hks:k.size≠0)
  {fields2:Array Field} (hu2:P.underlying st2=some (.struct fields2)) {fd2:Field} (hfd2:fields2[idx2]? = some fd2) (ht2:fd2.type=xt) (ho2:fd2.offset=0) {fs:Array Field} (hx:P.underlying xt=some (.struct fs)) {j:TypeInfo} (hj:P.info? xt=some j) (hs:j.size≠0) :
  (method (fuel + 1) t (.pointer (some ⟨b,0,none⟩)) name).run P w=((loadVar xt ⟨b,0,none⟩).run P w).andThen (fun x w'=>.ok (f,x) w'):=by
 unfold method
 simp only [Sem.run_bind,run_typeInfo _ hi,Result.andThen_ok,hm,hp,hf,follow,run_underlying hu,hfd,Place.get,asAddr,fieldPlace,sizeOf,ht,run_typeInfo _ hk,hks,Sem.run_pure,if_true,if_false,ho,run_underlying hu2,hfd2,ht2,ho2,run_typeInfo _ hj,hs,receiverAt,run_underlying hx,Addr.add,Bool.false_eq_true]
theorem Q4j {P:Program} {t:TypeId} {name:String} {p:Array FieldStep} {f:Option (FuncId×Bool)} (h:((P.info? t).bind fun i=>i.methods.find? (fun m=>m.name == name)).map (fun m=>(m.path,m.func))=some (p,f)) :
  ∃ i m,P.info? t=some i∧i.methods.find? (fun m=>m.name == name)=some m∧m.path=p∧m.func=f:=by
 cases hi:P.info? t with
 | none=>rw [hi] at h;cases h
 | some i=>
  rw [hi] at h
  simp only [Option.bind_some] at h
  cases hm:i.methods.find? (fun m=>m.name == name) with
  | none=>rw [hm] at h;cases h
  | some m=>
   rw [hm] at h
   simp only [Option.map_some,Option.some.injEq,Prod.mk.injEq] at h
   exact ⟨i,m,rfl,hm,h.1,h.2⟩
theorem Q3X {P:Program} {st idx:Nat} {t o:Nat} (h:((P.underlying st).bind fun d=>match d with | .struct fs=>fs[idx]? | _=>none).map (fun f=>(f.type,f.offset))=some (t,o)) :
  ∃ fs fd,P.underlying st=some (.struct fs)∧fs[idx]? = some fd∧fd.type=t∧fd.offset=o:=by
 cases hu:P.underlying st with
 | none=>rw [hu] at h;cases h
 | some d=>
  rw [hu] at h
  simp only [Option.bind_some] at h
  cases d with
  | struct fs=>
   simp only at h
   cases hf:fs[idx]? with
   | none=>rw [hf] at h;cases h
   | some fd=>
    rw [hf] at h
    simp only [Option.map_some,Option.some.injEq,Prod.mk.injEq] at h
    exact ⟨fs,fd,rfl,hf,h.1,h.2⟩
  | _=>cases h
theorem Q35 {P:Program} {t n:Nat} (h:(P.info? t).map (·.size)=some n):∃ i,P.info? t=some i∧i.size=n:=by
 cases hi:P.info? t with
 | none=>rw [hi] at h;cases h
 | some i=>rw [hi] at h;exact ⟨i,rfl,by simpa using h⟩
def Qw:DefL→List UInt8×Nat
 | .const t a _=>(t,a)
 | .typedef d=>(d.t,d.at')
 | .enum t a _=>(t,a)
 | .struct t a _=>(t,a)
 | .union t a _ _=>(t,a)
 | .prog t a _ _=>(t,a)
theorem Q1M (args:Array Value) (u:World):(callFunc 238 args).run Tryz.prog u = .ok (.enter 238 args) u:=by kernel_rfl
theorem QhW {X:List Nat} {bs:List (Nat×Obj)} {b:Nat} {d:DefL} {w:World} (hd:Q0o bs b d) (hh:Held X bs w):w.cell? ⟨b,0,none⟩=some (.string ⟨(Qw d).1.toArray⟩)∧w.cell? ⟨b,1,none⟩=some (.int .i64 (Qw d).2):=by
 cases d with
 | const t a v=>have:=(hh _ hd).1;exact ⟨by simp [World.cell?,this,Qw],by simp [World.cell?,this,Qw]⟩
 | typedef d=>have:=(hh _ hd).1;exact ⟨by simp [World.cell?,this,Qw],by simp [World.cell?,this,Qw]⟩
 | enum t a ms=>obtain ⟨sl,ps,h1,_⟩:=hd;have:=(hh _ h1).1;exact ⟨by simp [World.cell?,this,Qw],by simp [World.cell?,this,Qw]⟩
 | struct t a ms=>obtain ⟨sl,h1,_⟩:=hd;have:=(hh _ h1).1;exact ⟨by simp [World.cell?,this,Qw],by simp [World.cell?,this,Qw]⟩
 | union t a s ar=>obtain ⟨sl,ps,h1,_⟩:=hd;have:=(hh _ h1).1;exact ⟨by simp [World.cell?,this,Qw],by simp [World.cell?,this,Qw]⟩
 | prog t a vs n=>obtain ⟨sl,ps,h1,_⟩:=hd;have:=(hh _ h1).1;exact ⟨by simp [World.cell?,this,Qw],by simp [World.cell?,this,Qw]⟩
theorem Q2R (s:ByteArray) (a:Int) (w:World) :
  Calls Tryz.prog 238 #[.agg #[.string s,.int .i64 a]] w fun e w'=>e = .returned (.agg #[.string s,.int .i64 a])∧Below w.heap.size w w':=by
 go_enter Tryz.func238,Tryz.ntmps238
 go_wp2
 exact bodyPost_ret (v:=.agg #[.string s,.int .i64 a]) (by simp [results,Tryz.results238,go_sem]) rfl ⟨rfl,((Below.refl _ _).alloc (Nat.le_refl _) _).alloc (by simp) _⟩
def Kn (l l':List (List UInt8×Option DefL)):Prop:=(∀ k,(look l k).isSome→(look l' k).isSome)∧∀ k d,look l' k=some (some d)→look l k=some (some d)∨∃ t a v,d = .const t a v
theorem Kn.refl (l:List (List UInt8×Option DefL)):Kn l l:=⟨fun _ h=>h,fun _ _ h=>Or.inl h⟩
theorem Kn.trans {a b c:List (List UInt8×Option DefL)} (h:Kn a b) (k:Kn b c):Kn a c:=⟨fun x hx=>k.1 x (h.1 x hx),fun x d hx=>by
 rcases k.2 x d hx with h' | h'
 ·exact h.2 x d h'
 ·exact Or.inr h'⟩
theorem Q93 {l:List (List UInt8×Option DefL)} {p:List UInt8×Option DefL} (k:List UInt8):look (l++[p]) k=match look l k with | some o=>some o | none=>if p.1 == k then some p.2 else none:=by
 unfold look
 rw [List.find?_append]
 cases hf:l.find? (fun p=>p.1 == k) with
 | some q=>rfl
 | none=>
  simp only [Option.none_or,List.find?_cons,List.find?_nil]
  cases p.1 == k<;>rfl
theorem Q94 {k:List UInt8} {d:DefL} (j:List UInt8):∀ (l:List (List UInt8×Option DefL)),look (Q0N l k d) j=(look l j).map (fun o=>if j == k then some d else o):=by
 intro l
 unfold look Q0N
 induction l with
 | nil=>rfl
 | cons p l ih=>
  rw [List.map_cons,List.find?_cons,List.find?_cons]
  have e:(if p.1 == k then (p.1,some d) else p).1=p.1:=by cases p.1 == k<;>rfl
  rw [e]
  by_cases hj:p.1=j
  ·subst hj
   simp
   by_cases hk:p.1=k<;>simp [hk]
  ·have:(p.1 == j)=false:=by simpa using hj
   rw [this]
   exact ih
def Le (σ σ':St):Prop:=σ.types≤σ'.types∧σ.consts≤σ'.consts∧σ'.progs = σ.progs∧(σ.types≤24→σ'.types≤24)∧(σ.consts≤40→σ'.consts≤40)∧Kn σ.names σ'.names
theorem Le.refl (σ:St):Le σ σ:=⟨Nat.le_refl _,Nat.le_refl _,rfl,id,id,Kn.refl _⟩
theorem Le.trans {a b c:St} (h:Le a b) (k:Le b c):Le a c:=⟨Nat.le_trans h.1 k.1,Nat.le_trans h.2.1 k.2.1,k.2.2.1.trans h.2.2.1,fun x=>k.2.2.2.1 (h.2.2.2.1 x),fun x=>k.2.2.2.2.1 (h.2.2.2.2.1 x),h.2.2.2.2.2.trans k.2.2.2.2.2⟩
def Mono {α:Type} (m:PM α):Prop:=∀ σ a σ',m σ = .ok (a,σ')→Le σ σ'
def QN {τ α:Type} (m:PX τ α):Prop:=∀ t σ a t' σ',m t σ = .ok (a,t',σ')→Le σ σ'
theorem Q0D {α β:Type} {m:PM α} {f:α→PM β} (hm:Mono m) (hf:∀ a,Mono (f a)):Mono (bnd m f):=by
 intro σ b σ' h
 cases hx:m σ with
 | error e=>rw [Qp hx] at h;cases h
 | ok p=>obtain ⟨a,σ1⟩:=p;rw [Qh hx] at h;exact (hm _ _ _ hx).trans (hf a _ _ _ h)
theorem Q1i {α:Type} (a:α):Mono (ret a):=by intro σ b σ' h;simp only [ret] at h;cases h;exact Le.refl _
theorem Q36 {α:Type} (n k:Nat):Mono (thr (α:=α) n k):=by intro σ b σ' h;simp only [thr] at h;cases h
theorem Q2F {α:Type} {c:Bool} {a b:PM α} (ha:Mono a) (hb:Mono b):Mono (if c then a else b):=by cases c<;>assumption
theorem QU {τ α β:Type} {m:PX τ α} {f:α→PX τ β} (hm:QN m) (hf:∀ a,QN (f a)):QN (bndx m f):=by
 intro t σ b t' σ' h
 cases hx:m t σ with
 | error e=>rw [Qm hx] at h;cases h
 | ok p=>obtain ⟨a,t1,σ1⟩:=p;rw [Qi hx] at h;exact (hm _ _ _ _ _ hx).trans (hf a _ _ _ _ _ h)
theorem QI {τ α:Type} {m:PM α} (hm:Mono m):QN (lift (τ:=τ) m):=by
 intro t σ b t' σ' h
 cases hx:m σ with
 | error e=>rw [Qx hx] at h;cases h
 | ok p=>obtain ⟨a,σ1⟩:=p;rw [Ql hx] at h;cases h;exact hm _ _ _ hx
theorem Q0s {τ α:Type} (a:α):QN (retx (τ:=τ) a):=by intro t σ b t' σ' h;simp only [retx] at h;cases h;exact Le.refl _
theorem QeF {τ α:Type} (n k:Nat):QN (thrx (τ:=τ) (α:=α) n k):=by intro t σ b t' σ' h;simp only [thrx] at h;cases h
theorem Q1N {τ α:Type} {c:Bool} {a b:PX τ α} (ha:QN a) (hb:QN b):QN (if c then a else b):=by cases c<;>assumption
theorem Q9J {τ:Type} (c:τ→Except Mar.Fault τ):QN (Q7d c):=by
 intro t σ b t' σ' h
 cases hx:c t with
 | error e=>rw [Q4M hx] at h;cases h
 | ok p=>rw [Q5A hx] at h;cases h;exact Le.refl _
theorem Q6o {τ ρ α:Type} {m:PX τ α} (hm:QN m):QN (onL (ρ:=ρ) m):=by
 rintro ⟨t,l⟩ σ b t' σ' h
 cases hx:m t σ with
 | error e=>rw [Q5D hx] at h;cases h
 | ok p=>obtain ⟨a,t1,σ1⟩:=p;rw [Q6V hx] at h;cases h;exact hm _ _ _ _ _ hx
theorem Q7V {τ ρ α:Type} {m:PX ρ α} (hm:QN m):QN (onR (τ:=τ) m):=by
 rintro ⟨t,l⟩ σ b t' σ' h
 cases hx:m l σ with
 | error e=>rw [Q8q hx] at h;cases h
 | ok p=>obtain ⟨a,t1,σ1⟩:=p;rw [Q9C hx] at h;cases h;exact hm _ _ _ _ _ hx
theorem Q5a {τ:Type} {m:PX τ Unit} (hm:QN m) (t:τ):Mono (runx m t):=by
 intro σ b σ' h
 cases hx:m t σ with
 | error e=>rw [Q5T hx] at h;cases h
 | ok p=>obtain ⟨a,t1,σ1⟩:=p;rw [Q4g hx] at h;cases h;exact hm _ _ _ _ _ hx
theorem Q6p {τ α:Type} {m:PX τ α} (hm:QN m) (t:τ):Mono (runy m t):=by
 intro σ b σ' h
 cases hx:m t σ with
 | error e=>rw [Q32 hx] at h;cases h
 | ok p=>obtain ⟨a,t1,σ1⟩:=p;rw [Q4N hx] at h;cases h;exact hm _ _ _ _ _ hx
theorem QaI {α:Type} {m:PX Unit α} (hm:QN m):Mono (bare m):=by
 intro σ b σ' h
 cases hx:m () σ with
 | error e=>simp only [bare,hx] at h;cases h
 | ok p=>obtain ⟨a,t1,σ1⟩:=p;simp only [bare,hx] at h;cases h;exact hm _ _ _ _ _ hx
theorem Q6q (text:ByteArray):Mono (peek text):=by
 intro σ b σ' h
 unfold peek at h
 split at h<;>cases h
 exact ⟨Nat.le_refl _,Nat.le_refl _,rfl,id,id,Kn.refl _⟩
theorem Q2S (text:ByteArray):Mono (next text):=by
 intro σ b σ' h
 unfold next at h
 split at h<;>cases h
 exact ⟨Nat.le_refl _,Nat.le_refl _,rfl,id,id,Kn.refl _⟩
theorem Q3s (text:ByteArray) (t:List UInt8):Mono (sees text t):=by
 intro σ b σ' h
 unfold sees at h
 cases hx:peek text σ with
 | error e=>simp only [hx] at h;cases h
 | ok p=>obtain ⟨x,σ1⟩:=p;simp only [hx] at h;cases h;exact Q6q _ _ _ _ hx
theorem Q4u (k:Nat):Mono (Q2o k):=by
 intro σ b σ' h
 unfold Q2o at h
 split at h<;>cases h
 exact ⟨Nat.le_succ _,Nat.le_refl _,rfl,fun _=>by dsimp only;omega,id,Kn.refl _⟩
theorem Q7G (k:Nat):Mono (Q2X k):=by
 intro σ b σ' h
 unfold Q2X at h
 split at h<;>cases h
 exact ⟨Nat.le_refl _,Nat.le_succ _,rfl,id,fun _=>by dsimp only;omega,Kn.refl _⟩
theorem Q7i (a b c:Nat):Mono (Q1A a b c):=by
 intro σ x σ' h
 unfold Q1A at h
 split at h<;>cases h
 exact Le.refl _
theorem QeG (k:List UInt8) (t:List UInt8) (a:Nat) (v:Int):Mono (Qep k (.const t a v)):=by
 intro σ x σ' h
 simp only [Qep] at h
 cases h
 refine ⟨Nat.le_refl _,Nat.le_refl _,rfl,id,id,?_,?_⟩
 ·intro j hj
  dsimp only
  rw [Q94]
  simpa using hj
 ·intro j d hd
  dsimp only at hd
  rw [Q94] at hd
  cases hl:look σ.names j with
  | none=>rw [hl] at hd;cases hd
  | some o=>
   rw [hl] at hd
   simp only [Option.map_some,Option.some.injEq] at hd
   split at hd
   ·cases hd;exact Or.inr ⟨t,a,v,rfl⟩
   ·subst hd;exact Or.inl rfl
theorem Q9K (x:Mar.Word):Mono (Q0B x):=by
 intro σ a σ' h
 unfold Q0B at h
 split at h<;>cases h
 exact Le.refl _
theorem Qam (x:Mar.Word):Mono (Q14 x):=by
 intro σ a σ' h
 unfold Q14 at h
 split at h<;>cases h
 exact Le.refl _
theorem Qdf (x:Mar.Word):Mono (Q1s x):=by
 intro σ a σ' h
 unfold Q1s at h
 split at h<;>cases h
 refine ⟨Nat.le_refl _,Nat.le_refl _,rfl,id,id,?_,?_⟩
 ·intro j hj
  dsimp only
  rw [Q93]
  cases hl:look σ.names j with
  | none=>rw [hl] at hj;cases hj
  | some o=>rfl
 ·intro j d hd
  dsimp only at hd
  rw [Q93] at hd
  cases hl:look σ.names j with
  | none=>
   rw [hl] at hd
   simp only at hd
   split at hd<;>cases hd
  | some o=>rw [hl] at hd;exact Or.inl hd
theorem Q0S (text:ByteArray) (t:List UInt8):Mono (Q13 text t):=by
 unfold Q13
 repeat' (first | assumption | exact Q1i _ | exact Q2S _ | exact Q3s _ _ | refine Q0D ?_ ?_ | refine Q2F ?_ ?_ | (intro _))
theorem QA (text:ByteArray) (t:List UInt8):Mono (QX text t):=by
 unfold QX
 repeat' (first | assumption | exact Q1i _ | exact Q36 _ _ | exact Q2S _ | refine Q0D ?_ ?_ | refine Q2F ?_ ?_ | (intro _))
theorem Qan (text:ByteArray) (x:Mar.Word):Mono (Q0X text x):=by
 unfold Q0X
 repeat' (first | assumption | exact Q1i _ | exact Q36 _ _ | exact Q0S _ _ | refine Q0D ?_ ?_ | refine Q2F ?_ ?_ | (intro _))
theorem Q7H (text:ByteArray):Mono (Q3q text):=by
 unfold Q3q
 repeat' (first | assumption | exact Q2S _ | exact Qan _ _ | refine Q0D ?_ ?_ | (intro _))
theorem Qc1 (x:Mar.Word):Mono (Q1B x):=by
 unfold Q1B
 repeat' (first | assumption | exact Q1i _ | exact Q36 _ _ | exact Q9K _ | refine Q2F ?_ ?_ | (intro _))
theorem Q4v (text:ByteArray) (p:Int→Bool):Mono (value text p):=by
 unfold value
 repeat' (first | assumption | exact Q1i _ | exact Q36 _ _ | exact Q2S _ | exact Qc1 _ | refine Q0D ?_ ?_ | refine Q2F ?_ ?_ | (intro _))
theorem Q7W (text:ByteArray):Mono (most text):=by
 unfold most
 repeat' (first | assumption | exact Q1i _ | exact Q0S _ _ | exact QA _ _ | exact Q4v _ _ | refine Q0D ?_ ?_ | refine Q2F ?_ ?_ | (intro _))
theorem Q5n (text:ByteArray):Mono (bound text):=by
 unfold bound
 repeat' (first | assumption | exact Q1i _ | exact Q0S _ _ | exact QA _ _ | exact Q4v _ _ | exact Q7W _ | refine Q0D ?_ ?_ | refine Q2F ?_ ?_ | (intro _))
theorem Qgd (text:ByteArray):Mono (side text):=by
 unfold side
 repeat' (first | assumption | exact Q1i _ | exact Q0S _ _ | exact Q7H _ | refine Q0D ?_ ?_ | refine Q2F ?_ ?_ | (intro _))
theorem Q3Y (text:ByteArray) (p:Int→Bool):QN (number text p):=by
 unfold number
 repeat' (first | assumption | exact Q0s _ | exact Q9J _ | exact Q4v _ _ | refine QU ?_ ?_ | refine QI ?_ | (intro _))
theorem Q8L (text:ByteArray):QN (ending text):=by
 unfold ending
 repeat' (first | assumption | exact Q0s _ | exact QA _ _ | exact Q3Y _ _ | refine QU ?_ ?_ | refine QI ?_ | (intro _))
theorem Q5b {τ:Type} (text:ByteArray) (C:Q0h τ) (hC:∀ x,QN (C.run x)):QN (name text C):=by
 unfold name
 repeat' (first | exact hC _ | assumption | exact Q0s _ | exact QeF _ _ | exact Q2S _ | refine QU ?_ ?_ | refine QI ?_ | refine Q1N ?_ ?_ | (intro _))
theorem Q6F (x:Mar.Word) (a b:Nat):QN ((Qr a b).run x):=Q9J _
theorem Q7X (A:Ad) (x:Mar.Word):QN ((Q12 A).run x):=QI (Qdf x)
theorem Q9L {τ:Type} (text:ByteArray) (n:List UInt8×Nat) (ty:Ty):QN (Q6l (τ:=τ) text n ty):=by
 unfold Q6l
 repeat' (first | assumption | exact Q0s _ | exact Q5n _ | refine QU ?_ ?_ | refine QI ?_ | (intro _))
theorem Qdg {τ:Type} (text:ByteArray) (n:List UInt8×Nat) (ty:Ty) (y:Bool):QN (Q6O (τ:=τ) text n ty y):=by
 unfold Q6O
 repeat' (first | assumption | exact Q0s _ | exact Q9L _ _ _ | refine Q1N ?_ ?_ | (intro _))
theorem Qdh {τ:Type} (text:ByteArray) (n:List UInt8×Nat) (ty:Ty) (y:Bool):QN (Q6P (τ:=τ) text n ty y):=by
 unfold Q6P
 repeat' (first | assumption | exact Q3s _ _ | exact Q9L _ _ _ | exact Qdg _ _ _ _ | refine QU ?_ ?_ | refine QI ?_ | refine Q1N ?_ ?_ | (intro _))
theorem Qdi {τ:Type} (text:ByteArray) (ty:Ty) (n:List UInt8×Nat):QN (Q5R (τ:=τ) text ty n):=by
 unfold Q5R
 repeat' (first | assumption | exact Q3s _ _ | exact Qdh _ _ _ _ | refine QU ?_ ?_ | refine QI ?_ | (intro _))
theorem QeH {τ:Type} (text:ByteArray) (C:Q0h τ) (hC:∀ x,QN (C.run x)) (ty:Ty) (y:Bool):QN (Q8o text C ty y):=by
 unfold Q8o
 repeat' (first | exact Q5b _ _ hC | exact hC _ | assumption | exact Q0s _ | exact Qdi _ _ _ | refine QU ?_ ?_ | refine Q1N ?_ ?_ | (intro _))
theorem Qdj {τ:Type} (text:ByteArray) (C:Q0h τ) (hC:∀ x,QN (C.run x)) (ty:Ty):QN (Q6Q text C ty):=by
 unfold Q6Q
 repeat' (first | exact hC _ | assumption | exact Q0S _ _ | exact QeH _ _ hC _ _ | refine QU ?_ ?_ | refine QI ?_ | (intro _))
theorem Qdk {τ:Type} (text:ByteArray) (C:Q0h τ) (hC:∀ x,QN (C.run x)) (y:Bool):QN (Q6R text C y):=by
 unfold Q6R
 repeat' (first | exact Q5b _ _ hC | exact hC _ | assumption | exact Q0s _ | exact Q7H _ | exact Q7W _ | exact Qdj _ _ hC _ | refine QU ?_ ?_ | refine QI ?_ | refine Q1N ?_ ?_ | (intro _))
theorem Qdl {τ:Type} (text:ByteArray) (C:Q0h τ) (hC:∀ x,QN (C.run x)) (y:Bool):QN (Q6S text C y):=by
 unfold Q6S
 repeat' (first | exact Q5b _ _ hC | exact hC _ | assumption | exact Q0s _ | exact Q0S _ _ | exact Q5n _ | exact Qdk _ _ hC _ | refine QU ?_ ?_ | refine QI ?_ | refine Q1N ?_ ?_ | (intro _))
theorem Q7Y {τ:Type} (text:ByteArray) (C:Q0h τ) (hC:∀ x,QN (C.run x)) :QN (decl text C ):=by
 unfold decl
 repeat' (first | exact hC _ | assumption | exact Q0S _ _ | exact Qdl _ _ hC _ | refine QU ?_ ?_ | refine QI ?_ | (intro _))
theorem Qge {τ:Type} (text:ByteArray) (C:Q0h τ) (hC:∀ x,QN (C.run x)) (y:Bool):QN (armK text C y):=by
 unfold armK
 repeat' (first | assumption | exact Q0s _ | exact Q7Y _ _ hC | refine Q1N ?_ ?_ | (intro _))
theorem QhX {τ:Type} (text:ByteArray) (C:Q0h τ) (hC:∀ x,QN (C.run x)):QN (arm text C):=by
 unfold arm
 repeat' (first | assumption | exact Q0s _ | exact Q0S _ _ | exact QA _ _ | exact Qge _ _ hC _ | refine QU ?_ ?_ | refine QI ?_ | (intro _))
theorem Q2e (text:ByteArray):Mono (Q1y text):=QaI (Q5b _ _ (Q7X _))
theorem Q7Z (text:ByteArray):Mono (Q5B text):=QaI (Q7Y _ _ (Q7X _))
theorem Q5o (text:ByteArray) (a b:Nat):QN (name text (Qr a b)):=Q5b _ _ (fun x=>Q6F x a b)
theorem QeI (text:ByteArray) (a b:Nat):QN (decl text (Qr a b)):=Q7Y _ _ (fun x=>Q6F x a b)
theorem QaJ (text:ByteArray) (a b:Nat):QN (arm text (Qr a b)):=QhX _ _ (fun x=>Q6F x a b)
theorem Q8M (text:ByteArray) (n:Nat):QN (Q2s text n):=by
 unfold Q2s
 repeat' (first | assumption | exact Q0s _ | exact Q6q _ | exact Q7G _ | exact Q7i _ _ _ | exact QeG _ _ _ _ | exact QA _ _ | exact Q3Y _ _ | exact Q2e _ | refine QU ?_ ?_ | refine QI ?_ | (intro _))
theorem Qc2 (text:ByteArray) (n:List UInt8×Nat) (ms:List (List UInt8×Nat×Int)):Mono (Q4e text n ms):=by
 unfold Q4e
 repeat' (first | assumption | exact Q1i _ | exact QA _ _ | refine Q0D ?_ ?_ | (intro _))
theorem Qc3 (text:ByteArray) (n:List UInt8×Nat):∀ (k:Nat) (ms:List (List UInt8×Nat×Int)) (l:List (Int×Int)),Mono (Q1l text n k ms l):=by
 intro k
 induction k with
 | zero=>intro ms l;exact Q36 _ _
 | succ k ih=>
  intro ms l σ d σ' h
  cases hm:Q2s text ms.length l σ with
  | error f=>rw [Q3V hm] at h;cases h
  | ok p=>
   obtain ⟨m,l',σ1⟩:=p
   rw [Q3G hm] at h
   refine (Q8M _ _ _ _ _ _ _ hm).trans (Q0D (Q0S _ _) (fun y=>?_) _ _ _ h)
   exact Q2F (ih _ _) (Qc2 _ _ _)
theorem Q5V (text:ByteArray) (a:StAd):QN (Q4f text a):=by
 rintro ⟨ds,t⟩ σ b t' σ' h
 cases hm:decl text (Qr a.q a.bx) t σ with
 | error f=>rw [Q6D hm] at h;cases h
 | ok p=>
  obtain ⟨d,t1,σ1⟩:=p
  rw [Q5l hm] at h
  exact (QeI _ _ _ _ _ _ _ _ hm).trans (QU (QI (QA _ _)) (fun _=>Q0s _) _ _ _ _ _ h)
theorem Q6Z {τ α:Type} {run:PX τ α} {piece:PX (List α×τ) Unit} (hr:QN run) (hok:∀ {ps s s' σ σ' d},run s σ = .ok (d,s',σ')→piece (ps,s) σ = .ok ((),(ps++[d],s'),σ')) (herr:∀ {ps s σ f},run s σ = .error f→piece (ps,s) σ = .error f):QN piece:=by
 rintro ⟨ds,t⟩ σ b t' σ' h
 cases hm:run t σ with
 | error f=>rw [herr hm] at h;cases h
 | ok p=>
  obtain ⟨d,t1,σ1⟩:=p
  rw [hok hm] at h
  cases h
  exact hr _ _ _ _ _ hm
theorem Qdm {τ:Type} (text:ByteArray) (most:Nat) (run:PX τ Unit) (hr:QN run):∀ k n,QN (Q2b text most run k n):=by
 intro k
 induction k with
 | zero=>intro n;exact QI (Q36 _ _)
 | succ k ih=>
  intro n
  unfold Q2b
  refine QU ?_ fun y=>?_
  ·by_cases h:n=0
   ·rw [if_pos h];exact Q0s _
   ·rw [if_neg h];exact QI (Q0S _ _)
  ·exact Q1N (Q0s _) (QU (QI (Q6q _)) fun _=>QU (QI (Q7i _ _ _)) fun _=>QU hr fun _=>ih _)
theorem Q5p {τ:Type} (text:ByteArray) (most:Nat) (run:PX τ Unit) (hr:QN run):QN (block text most run):=QU (QI (QA _ _)) fun _=>Qdm _ _ _ hr _ _
theorem Qdn (text:ByteArray) (p:Int→Bool):∀ (k:Nat) (cs:List Int),QN (Q2c text p k cs):=by
 intro k
 induction k with
 | zero=>intro cs;exact QI (Q36 _ _)
 | succ k ih=>
  intro cs l σ b l' σ' h
  cases h1:QX text [99,97,115,101] σ with
  | error f=>rw [Q7e h1] at h;cases h
  | ok x=>
   obtain ⟨x,σ1⟩:=x
   by_cases hl:12≤l.length
   ·rw [Q6E h1 hl] at h;cases h
   ·rw [Q7T h1 hl] at h
    refine (QA _ _ _ _ _ h1).trans (?_:Le σ1 σ')
    exact QU (Q3Y _ _) (fun _=>QU (QI (QA _ _)) fun _=>QU (QI (Q3s _ _)) fun _=>Q1N (ih _) (Q0s _)) _ _ _ _ _ h
theorem QeJ (text:ByteArray) (p:Int→Bool):QN (cases text p):=Qdn _ _ _ _
theorem Qc4 (text:ByteArray) (rs:Arms):QN (Q3H text rs):=by
 unfold Q3H
 repeat' (first | assumption | exact Q0s _ | exact Q0S _ _ | exact QA _ _ | exact QaJ _ _ _ | refine QU ?_ ?_ | refine QI ?_ | refine Q1N ?_ ?_ | refine Q6o ?_ | (intro _))
theorem Q9M (text:ByteArray) (p:Int→Bool):∀ (k:Nat) (rs:Arms),QN (Q2I text p k rs):=by
 intro k
 induction k with
 | zero=>intro rs;exact QI (Q36 _ _)
 | succ k ih=>
  intro rs
  unfold Q2I
  exact QU (Q7V (QeJ _ _)) fun _=>QU (Q6o (QaJ _ _ _)) fun _=>QU (QI (Q3s _ _)) fun _=>Q1N (ih _) (Qc4 _ _)
theorem Qgf (text:ByteArray) (x:Mar.Word):Mono (selK text x):=by
 unfold selK
 repeat' (first | assumption | exact Q1i _ | exact Q36 _ _ | exact Qam _ | exact Q0S _ _ | refine Q0D ?_ ?_ | refine Q2F ?_ ?_ | (intro _))
theorem Q7I (text:ByteArray):Mono (Q4a text):=by
 unfold Q4a
 repeat' (first | assumption | exact Q2S _ | exact Qgf _ _ | refine Q0D ?_ ?_ | (intro _))
theorem Qb9 (text:ByteArray) (n:List UInt8×Nat) (sel:Qq) (rs:Arms):Mono (Q4b text n sel rs):=by
 unfold Q4b
 repeat' (first | assumption | exact Q1i _ | exact QA _ _ | refine Q0D ?_ ?_ | (intro _))
theorem Qc5 (text:ByteArray) (n:List UInt8×Nat) (q:Ty×(Int→Bool)) (m:(List UInt8×Nat)×List (List UInt8)):Mono (Q6W text n q m):=by
 unfold Q6W
 repeat' (first | assumption | exact QA _ _ | exact Q9M _ _ _ _ | exact Qb9 _ _ _ _ | refine Q0D ?_ ?_ | refine Q6p ?_ _ | (intro _))
theorem Qc6 (text:ByteArray) (n:List UInt8×Nat) (q:Ty×(Int→Bool)):Mono (Q5E text n q):=by
 unfold Q5E
 repeat' (first | assumption | exact Q5o _ _ _ | exact Qc5 _ _ _ _ | refine Q0D ?_ ?_ | refine Q6p ?_ _ | (intro _))
theorem Qc7 (text:ByteArray) (n:List UInt8×Nat):Mono (Q5F text n):=by
 unfold Q5F
 repeat' (first | assumption | exact QA _ _ | exact Q7I _ | exact Qc6 _ _ _ | refine Q0D ?_ ?_ | (intro _))
theorem QeK (text:ByteArray):QN (Q5m text):=by
 unfold Q5m
 repeat' (first | assumption | exact Q0s _ | exact QA _ _ | exact Qgd _ | exact Q8L _ | exact Q5o _ _ _ | refine QU ?_ ?_ | refine QI ?_ | refine Q6o ?_ | refine Q7V ?_ | (intro _))
theorem Qc8 (text:ByteArray):QN (Q3I text):=Q6Z (QeK text) Q9F Q8J
theorem Qc9 (text:ByteArray):QN (block text 8 (Q3I text)):=Q5p _ _ _ (Qc8 _)
theorem Qba (text:ByteArray) (n:List UInt8×Nat):QN (Q7g text n):=by
 unfold Q7g
 repeat' (first | assumption | exact Q0s _ | exact Q8L _ | exact Qc9 _ | refine QU ?_ ?_ | refine QI ?_ | refine Q7V ?_ | refine Q5a ?_ _ | (intro _))
theorem Qbb (text:ByteArray):QN (Q34 text):=by
 unfold Q34
 repeat' (first | assumption | exact QA _ _ | exact Q5o _ _ _ | exact Qba _ _ | refine QU ?_ ?_ | refine QI ?_ | refine Q6o ?_ | (intro _))
theorem Qca (text:ByteArray):QN (Q3j text):=Q6Z (Qbb text) Q9H Q8K
theorem Q80 (text:ByteArray):QN (block text 4 (Q3j text)):=Q5p _ _ _ (Qca _)
structure Step (σ σ':St):Prop where
 up:σ.types + σ.consts + σ.progs.length < σ'.types + σ'.consts + σ'.progs.length
 ty:σ.types≤24→σ'.types≤24
 co:σ.consts≤40→σ'.consts≤40
 pr:σ.progs.length≤4→σ'.progs.length≤4
theorem Step.then {a b c:St} (h:Step a b) (k:Le b c):Step a c:=by
 obtain ⟨k1,k2,k3,k4,k5,_⟩:=k
 exact ⟨by rw [k3];have:=h.up;omega,fun x=>k4 (h.ty x),fun x=>k5 (h.co x),fun x=>by rw [k3];exact h.pr x⟩
theorem Q4w {k:Nat} {σ σ':St} {u:Unit} (h:Q2o k σ = .ok (u,σ')):Step σ σ':=by
 unfold Q2o at h
 split at h<;>cases h
 exact ⟨by dsimp only;omega,fun _=>by dsimp only;omega,id,id⟩
theorem Qbc {k:Nat} {σ σ':St} {u:Unit} (h:Q2X k σ = .ok (u,σ')):Step σ σ':=by
 unfold Q2X at h
 split at h<;>cases h
 exact ⟨by dsimp only;omega,id,fun _=>by dsimp only;omega,id⟩
theorem Q5W {α β:Type} {m:PM α} {f:α→PM β} {σ σ':St} {b:β} (hm:∀ {a σ1},m σ = .ok (a,σ1)→Step σ σ1) (hf:∀ a,Mono (f a)) (h:bnd m f σ = .ok (b,σ')):Step σ σ':=by
 cases hx:m σ with
 | error e=>rw [Qp hx] at h;cases h
 | ok p=>obtain ⟨a,σ1⟩:=p;rw [Qh hx] at h;exact (hm hx).then (hf a _ _ _ h)
theorem Qbd {text:ByteArray} {k:Nat} {σ σ':St} {d:DefL} (h:constant text k σ = .ok (d,σ')):Step σ σ':=by
 refine Q5W Qbc (fun _=>?_) h
 repeat' (first | assumption | exact Q1i _ | exact QA _ _ | exact Q4v _ _ | exact Q2e _ | refine Q0D ?_ ?_ | (intro _))
theorem Qcb {text:ByteArray} {k:Nat} {σ σ':St} {d:DefL} (h:typedef text k σ = .ok (d,σ')):Step σ σ':=by
 refine Q5W Q4w (fun _=>?_) h
 repeat' (first | assumption | exact Q1i _ | exact QA _ _ | exact Q7Z _ | refine Q0D ?_ ?_ | (intro _))
theorem Q95 {text:ByteArray} {k:Nat} {σ σ':St} {d:DefL} (h:enumeration text k σ = .ok (d,σ')):Step σ σ':=by
 refine Q5W Q4w (fun _=>?_) h
 repeat' (first | assumption | exact QA _ _ | exact Q2e _ | exact Qc3 _ _ _ _ _ | refine Q0D ?_ ?_ | (intro _))
theorem Q9N {text:ByteArray} {k:Nat} {σ σ':St} {d:DefL} (h:Q2t text k σ = .ok (d,σ')):Step σ σ':=by
 refine Q5W Q4w (fun _=>?_) h
 repeat' (first | assumption | exact Q1i _ | exact QA _ _ | exact Q2e _ | exact Q5V _ _ | exact Q5p _ _ _ (Q5V _ _) | refine Q0D ?_ ?_ | refine Q5a ?_ _ | (intro _))
theorem Qdo {text:ByteArray} {k:Nat} {σ σ':St} {d:DefL} (h:Q0w text k σ = .ok (d,σ')):Step σ σ':=by
 refine Q5W Q4w (fun _=>?_) h
 repeat' (first | assumption | exact Q2e _ | exact Qc7 _ _ | refine Q0D ?_ ?_ | (intro _))
theorem Qcc {text:ByteArray} {p:Int→Bool} {σ σ':St} {n:Int} (h:Q3J text p σ = .ok (n,σ')):σ.types≤σ'.types∧σ.consts≤σ'.consts∧σ'.progs.length = σ.progs.length + 1∧(σ.types≤24→σ'.types≤24)∧(σ.consts≤40→σ'.consts≤40):=by
 cases hx:number text p σ.progs σ with
 | error e=>rw [Q50 hx] at h;cases h
 | ok q=>
  obtain ⟨m,l',σ1⟩:=q
  rw [Q7h hx] at h
  cases h
  obtain ⟨k1,k2,k3,k4,k5,_⟩:=Q3Y _ _ _ _ _ _ _ hx
  exact ⟨k1,k2,Q7f hx,k4,k5⟩
theorem Qcd {text:ByteArray} {σ σ':St} {n:Int} (h:Q4i text σ = .ok (n,σ')):σ.types≤σ'.types∧σ.consts≤σ'.consts∧σ'.progs.length = σ.progs.length + 1∧(σ.types≤24→σ'.types≤24)∧(σ.consts≤40→σ'.consts≤40):=by
 unfold Q4i at h
 cases h1:QX text [61] σ with
 | error e=>rw [Qp h1] at h;cases h
 | ok q=>
  obtain ⟨x,σ1⟩:=q
  rw [Qh h1] at h
  obtain ⟨a1,a2,a3,a4,a5,_⟩:=QA _ _ _ _ _ h1
  cases h2:Q3J text (Q1V 0 4294967295) σ1 with
  | error e=>rw [Qp h2] at h;cases h
  | ok q=>
   obtain ⟨m,σ2⟩:=q
   rw [Qh h2] at h
   obtain ⟨b1,b2,b3,b4,b5⟩:=Qcc h2
   cases h3:QX text [59] σ2 with
   | error e=>rw [Qp h3] at h;cases h
   | ok q=>
    obtain ⟨y,σ3⟩:=q
    rw [Qh h3] at h
    simp only [ret] at h
    cases h
    obtain ⟨c1,c2,c3,c4,c5,_⟩:=QA _ _ _ _ _ h3
    exact ⟨by omega,by omega,by rw [c3,b3,a3],fun x=>c4 (b4 (a4 x)),fun x=>c5 (b5 (a5 x))⟩
theorem Qbe {text:ByteArray} {k:Nat} {σ σ':St} {d:DefL} (h:Q2E text k σ = .ok (d,σ')):Step σ σ':=by
 unfold Q2E at h
 by_cases hr:4≤σ.progs.length
 ·rw [Qp (m:=fun σ:St=>Q1A σ.progs.length 4 k σ) (show Q1A σ.progs.length 4 k σ = .error ⟨5,k⟩ from if_pos hr)] at h;cases h
 rw [Qh (m:=fun σ:St=>Q1A σ.progs.length 4 k σ) (show Q1A σ.progs.length 4 k σ = .ok ((),σ) from if_neg hr)] at h
 cases h1:Q1y text σ with
 | error e=>rw [Qp h1] at h;cases h
 | ok q=>
  obtain ⟨n,σ1⟩:=q
  rw [Qh h1] at h
  unfold Q5U at h
  obtain ⟨a1,a2,a3,a4,a5,_⟩:=Q2e _ _ _ _ h1
  cases h2:runx (block text 4 (Q3j text)) ([],([],[])) σ1 with
  | error e=>rw [Qp h2] at h;cases h
  | ok q=>
   obtain ⟨m,σ2⟩:=q
   rw [Qh h2] at h
   obtain ⟨b1,b2,b3,b4,b5,_⟩:=Q5a (Q80 text) _ _ _ _ h2
   cases h3:Q4i text σ2 with
   | error e=>rw [Qp h3] at h;cases h
   | ok q=>
    obtain ⟨y,σ3⟩:=q
    rw [Qh h3] at h
    simp only [ret] at h
    cases h
    obtain ⟨c1,c2,c3,c4,c5⟩:=Qcd h3
    have hp:σ'.progs.length = σ.progs.length + 1:=by rw [c3,b3,a3]
    exact ⟨by omega,fun x=>c4 (b4 (a4 x)),fun x=>c5 (b5 (a5 x)),fun _=>by omega⟩
theorem Q9O {text:ByteArray} {σ σ':St} {d:DefL} (h:definition text σ = .ok (d,σ')):Step σ σ':=by
 unfold definition at h
 cases hx:next text σ with
 | error e=>rw [Qp hx] at h;cases h
 | ok q=>
  obtain ⟨x,σ1⟩:=q
  rw [Qh hx] at h
  obtain ⟨a1,a2,a3,a4,a5,_⟩:=Q2S _ _ _ _ hx
  have hs:Step σ1 σ':=by
   unfold defK at h
   split at h
   ·exact Qbd h
   split at h
   ·exact Qcb h
   split at h
   ·exact Q95 h
   split at h
   ·exact Q9N h
   split at h
   ·exact Qdo h
   split at h
   ·exact Qbe h
   ·simp only [thr] at h;cases h
  have:=hs.up
  exact ⟨by rw [a3] at this;omega,fun x=>hs.ty (a4 x),fun x=>hs.co (a5 x),fun x=>hs.pr (by rw [a3];exact x)⟩
structure Tell (τ:Type) where
 f:Nat
 pre:Array Value
 post:Array Value
 run:List UInt8×Nat→τ→Except Mar.Fault τ
 J:τ→World→Prop
 M:List Nat
 ok:List UInt8×Nat→Prop
def Tell.v {τ:Type} (T:Tell τ):Value:=.func (.func T.f) T.pre T.post
def Q0M {τ:Type} (T:Tell τ) (w:World) (r:Except Mar.Fault τ) (e:Ending) (w':World):Prop:=
 (∃ t',r = .ok t'∧e = .returned (.tuple #[])∧T.J t' w'∧Qb T.M w w')∨(∃ f,r = .error f∧Qb T.M w w'∧Q0c w f.no f.at' e w')
structure Q20 {τ:Type} (T:Tell τ):Prop where
 enters:∀ args W,(callFunc T.f args).run Tryz.prog W = .ok (.enter T.f args) W
 old:∀ {t w},T.J t w→∀ m∈T.M,m < w.heap.size
 stable:∀ {t w w'},T.J t w→Below w.heap.size w w'→T.J t w'
 call:∀ {t W} (n:List UInt8×Nat),T.ok n→T.J t W→Calls Tryz.prog T.f (T.pre.push (Q1q n)++T.post) W (Q0M T W (T.run n t))
def Qo {τ:Type} (T:Tell τ):List (List UInt8×Nat)→τ→Except Mar.Fault τ
 | [],t=>.ok t
 | n :: ns,t=>match T.run n t with
  | .ok t'=>Qo T ns t'
  | .error f=>.error f
def QP:Ty→List (List UInt8×Nat)
 | .named t a=>[(t,a)]
 | .arr o _ _=>QP o
 | .opt o=>QP o
 | _=>[]
def Q00:Ty→List (List UInt8×Nat)
 | .named t a=>[(t,a)]
 | .arr o _ f=>if f then Q00 o else []
 | _=>[]
def Q70:Ty→Nat
 | .named ..=>273
 | .arr ..=>291
 | .opt ..=>293
 | _=>245
def Q81:Ty→Nat
 | .named ..=>272
 | .arr ..=>290
 | .opt ..=>292
 | _=>244
def Q5X:Ty→Value
 | .named t a=>.agg #[.string ⟨t.toArray⟩,.int .i64 a]
 | .arr o n f=>.agg #[tyV o,.int .i64 n,.bool f]
 | .opt o=>.agg #[tyV o]
 | _=>.agg #[]
theorem Q2f (ty : Ty) {T1 : TypeId} {v1 : Value} (h : tyV ty = .iface T1 v1) (k : Nat) (w : World) : (method (k + 1) T1 v1 "Names").run Tryz.prog w = .ok (Q70 ty, Q5X ty) w := by
 cases ty<;>cases h<;>kernel_rfl
theorem Q4x (ty : Ty) {T1 : TypeId} {v1 : Value} (h : tyV ty = .iface T1 v1) (k : Nat) (w : World) : (method (k + 1) T1 v1 "Leads").run Tryz.prog w = .ok (Q81 ty, Q5X ty) w := by
 cases ty<;>cases h<;>kernel_rfl
theorem Q1U (ty:Ty) (args:Array Value) (w:World):(callFunc (Q70 ty) args).run Tryz.prog w = .ok (.enter (Q70 ty) args) w:=by cases ty<;>kernel_rfl
theorem Q44 (ty:Ty) (args:Array Value) (w:World):(callFunc (Q81 ty) args).run Tryz.prog w = .ok (.enter (Q81 ty) args) w:=by cases ty<;>kernel_rfl
theorem Q28 {τ:Type} {T:Tell τ} (hT:Q20 T) {t:τ} {w:World} (h:T.J t w):Calls Tryz.prog 245 #[.agg #[],T.v] w (Q0M T w (.ok t)):=by
 have hs:=hT.stable h ((Below.refl w.heap.size w).alloc (Nat.le_refl _) (.cells #[] 203))
 go_enter Tryz.func245,Tryz.ntmps245
 go_wp2
 go_end0
 exact Or.inl ⟨t,rfl,rfl,hs,(Qb.refl _ w).alloc _⟩
theorem Q29 {τ:Type} {T:Tell τ} (hT:Q20 T) {t:τ} {w:World} (h:T.J t w):Calls Tryz.prog 244 #[.agg #[],T.v] w (Q0M T w (.ok t)):=by
 have hs:=hT.stable h ((Below.refl w.heap.size w).alloc (Nat.le_refl _) (.cells #[] 203))
 go_enter Tryz.func244,Tryz.ntmps244
 go_wp2
 go_end0
 exact Or.inl ⟨t,rfl,rfl,hs,(Qb.refl _ w).alloc _⟩
theorem Qce {τ:Type} {T:Tell τ} (hT:Q20 T) {t:τ} {w:World} (o:Ty) (h:T.J t w):Calls Tryz.prog 292 #[.agg #[tyV o],T.v] w (Q0M T w (.ok t)):=by
 obtain ⟨T1,v1,h1⟩:=Q03 o
 rw [h1]
 have hs:=hT.stable h ((Below.refl w.heap.size w).alloc (Nat.le_refl _) (.cells #[.iface T1 v1] 314))
 go_enter Tryz.func292,Tryz.ntmps292
 go_wp2
 go_end0
 exact Or.inl ⟨t,rfl,rfl,hs,(Qb.refl _ w).alloc _⟩
theorem Qcf {τ:Type} {T:Tell τ} (n:List UInt8×Nat) (t:τ):Qo T [n] t=T.run n t:=by
 simp only [Qo]
 cases T.run n t<;>rfl
theorem Qao {τ:Type} {T:Tell τ} (hT:Q20 T) {t:τ} {w:World} (n:List UInt8) (a:Nat) (hn:T.ok (n,a)) (h:T.J t w):Calls Tryz.prog 273 #[.agg #[.string ⟨n.toArray⟩,.int .i64 a],T.v] w (Q0M T w (T.run (n,a) t)):=by
 have hs:=hT.stable h ((Below.refl w.heap.size w).alloc (Nat.le_refl _) (.cells #[.string ⟨n.toArray⟩,.int .i64 a] 213))
 have hent:=hT.enters
 show Calls Tryz.prog 273 #[.agg #[.string ⟨n.toArray⟩,.int .i64 a],.func (.func T.f) T.pre T.post] w _
 go_enter Tryz.func273,Tryz.ntmps273
 go_wp2_with fail
 refine (hT.call (n,a) hn hs).mono ?_
 rintro e w2 (⟨t2,hx,rfl,hj,hz⟩ | ⟨f,hx,hkE,b,hbb,rfl,hcell⟩)
 rotate_left
 ·exact Qa (Or.inr ⟨f,hx,((Qb.refl _ w).alloc _).trans hkE,b,by simp at hbb;omega,rfl,hcell⟩)
 go_wp2
 go_end0
 exact Or.inl ⟨t2,hx,rfl,hj,((Qb.refl _ w).alloc _).trans hz⟩
theorem Qap {τ:Type} {T:Tell τ} (hT:Q20 T) {t:τ} {w:World} (n:List UInt8) (a:Nat) (hn:T.ok (n,a)) (h:T.J t w):Calls Tryz.prog 272 #[.agg #[.string ⟨n.toArray⟩,.int .i64 a],T.v] w (Q0M T w (T.run (n,a) t)):=by
 have hs:=hT.stable h ((Below.refl w.heap.size w).alloc (Nat.le_refl _) (.cells #[.string ⟨n.toArray⟩,.int .i64 a] 213))
 have hent:=hT.enters
 show Calls Tryz.prog 272 #[.agg #[.string ⟨n.toArray⟩,.int .i64 a],.func (.func T.f) T.pre T.post] w _
 go_enter Tryz.func272,Tryz.ntmps272
 go_wp2_with fail
 refine (hT.call (n,a) hn hs).mono ?_
 rintro e w2 (⟨t2,hx,rfl,hj,hz⟩ | ⟨f,hx,hkE,b,hbb,rfl,hcell⟩)
 rotate_left
 ·exact Qa (Or.inr ⟨f,hx,((Qb.refl _ w).alloc _).trans hkE,b,by simp at hbb;omega,rfl,hcell⟩)
 go_wp2
 go_end0
 exact Or.inl ⟨t2,hx,rfl,hj,((Qb.refl _ w).alloc _).trans hz⟩
theorem Q5Y {τ:Type} {T:Tell τ} (hT:Q20 T):∀ (ty:Ty) {t:τ} {w:World},(∀ n∈QP ty,T.ok n)→T.J t w→Calls Tryz.prog (Q70 ty) #[Q5X ty,T.v] w (Q0M T w (Qo T (QP ty) t)):=by
 intro ty
 induction ty with
 | plain k=>intro t w _ h;exact Q28 hT h
 | opaq n f=>intro t w _ h;exact Q28 hT h
 | str n f=>intro t w _ h;exact Q28 hT h
 | void=>intro t w _ h;exact Q28 hT h
 | named n a=>intro t w hok h;simp only [QP,Qcf];exact Qao hT n a (hok _ (by simp [QP])) h
 | arr o n f ih=>
  intro t w hok h
  obtain ⟨T1,v1,h1⟩:=Q03 o
  have hnc:=Q2f o h1
  have hen:=Q1U o
  have hs:=hT.stable h ((Below.refl w.heap.size w).alloc (Nat.le_refl _) (.cells #[.iface T1 v1,.int .i64 n,.bool f] 311))
  have HI:=Hid.mk (ih hok hs)
  simp only [Q70,Q5X,QP]
  rw [h1]
  clear ih hok
  go_enter Tryz.func291,Tryz.ntmps291
  go_wp2_with fail
  refine HI.out.mono ?_
  rintro e w2 (⟨t2,hx,rfl,hj,hz⟩ | ⟨f,hx,hkE,b,hbb,rfl,hcell⟩)
  rotate_left
  ·exact Qa (Or.inr ⟨f,hx,((Qb.refl _ w).alloc _).trans hkE,b,by simp at hbb;omega,rfl,hcell⟩)
  go_wp2
  go_end0
  exact Or.inl ⟨t2,hx,rfl,hj,((Qb.refl _ w).alloc _).trans hz⟩
 | opt o ih=>
  intro t w hok h
  obtain ⟨T1,v1,h1⟩:=Q03 o
  have hnc:=Q2f o h1
  have hen:=Q1U o
  have hs:=hT.stable h ((Below.refl w.heap.size w).alloc (Nat.le_refl _) (.cells #[.iface T1 v1] 314))
  have HI:=Hid.mk (ih hok hs)
  simp only [Q70,Q5X,QP]
  rw [h1]
  clear ih hok
  go_enter Tryz.func293,Tryz.ntmps293
  go_wp2_with fail
  refine HI.out.mono ?_
  rintro e w2 (⟨t2,hx,rfl,hj,hz⟩ | ⟨f,hx,hkE,b,hbb,rfl,hcell⟩)
  rotate_left
  ·exact Qa (Or.inr ⟨f,hx,((Qb.refl _ w).alloc _).trans hkE,b,by simp at hbb;omega,rfl,hcell⟩)
  go_wp2
  go_end0
  exact Or.inl ⟨t2,hx,rfl,hj,((Qb.refl _ w).alloc _).trans hz⟩
theorem Q96 {τ:Type} {T:Tell τ} (hT:Q20 T):∀ (ty:Ty) {t:τ} {w:World},(∀ n∈Q00 ty,T.ok n)→T.J t w→Calls Tryz.prog (Q81 ty) #[Q5X ty,T.v] w (Q0M T w (Qo T (Q00 ty) t)):=by
 intro ty
 induction ty with
 | plain k=>intro t w _ h;exact Q29 hT h
 | opaq n f=>intro t w _ h;exact Q29 hT h
 | str n f=>intro t w _ h;exact Q29 hT h
 | void=>intro t w _ h;exact Q29 hT h
 | named n a=>intro t w hok h;simp only [Q00,Qcf];exact Qap hT n a (hok _ (by simp [Q00])) h
 | opt o ih=>intro t w _ h;exact Qce hT o h
 | arr o n f ih=>
  intro t w hok h
  obtain ⟨T1,v1,h1⟩:=Q03 o
  have hnc:=Q4x o h1
  have hen:=Q44 o
  have hs:=hT.stable h ((Below.refl w.heap.size w).alloc (Nat.le_refl _) (.cells #[.iface T1 v1,.int .i64 n,.bool f] 311))
  simp only [Q81,Q5X,Q00]
  rw [h1]
  cases f with
  | false=>
   clear ih hok
   go_enter Tryz.func290,Tryz.ntmps290
   go_wp2
   go_end0
   exact Or.inl ⟨t,rfl,rfl,hs,(Qb.refl _ w).alloc _⟩
  | true=>
   have HI:=Hid.mk (ih (by simpa [Q00] using hok) hs)
   clear ih hok
   go_enter Tryz.func290,Tryz.ntmps290
   go_wp2_with fail
   refine HI.out.mono ?_
   rintro e w2 (⟨t2,hx,rfl,hj,hz⟩ | ⟨f,hx,hkE,b,hbb,rfl,hcell⟩)
   rotate_left
   ·exact Qa (Or.inr ⟨f,hx,((Qb.refl _ w).alloc _).trans hkE,b,by simp at hbb;omega,rfl,hcell⟩)
   go_wp2
   go_end0
   exact Or.inl ⟨t2,rfl,rfl,hj,((Qb.refl _ w).alloc _).trans hz⟩
theorem Q8N {τ:Type} {T:Tell τ}:∀ (xs ys:List (List UInt8×Nat)) (t:τ),Qo T (xs++ys) t=match Qo T xs t with | .ok t'=>Qo T ys t' | .error f=>.error f:=by
 intro xs
 induction xs with
 | nil=>intro ys t;rfl
 | cons x xs ih=>
  intro ys t
  simp only [List.cons_append,Qo]
  cases T.run x t with
  | ok t'=>exact ih ys t'
  | error f=>rfl
theorem Q37 {τ:Type} {T:Tell τ} {xs ys:List (List UInt8×Nat)} {t t':τ} (h:Qo T xs t = .ok t'):Qo T (xs++ys) t=Qo T ys t':=by rw [Q8N,h]
theorem Q2G {τ:Type} {T:Tell τ} {xs ys:List (List UInt8×Nat)} {t:τ} {f:Mar.Fault} (h:Qo T xs t = .error f):Qo T (xs++ys) t = .error f:=by rw [Q8N,h]
theorem Q2g {α:Type} {c:α→List Value} {n:Nat} (hc:∀ x,(c x).length=n):∀ (xs:List α) (k j:Nat) (hk:k < xs.length) (_:j < n),(xs.flatMap c)[k * n + j]? = (c xs[k])[j]?:=by
 intro xs
 induction xs with
 | nil=>intro k j hk;cases hk
 | cons x xs ih=>
  intro k j hk hj
  rw [List.flatMap_cons]
  cases k with
  | zero=>
   rw [List.getElem?_append_left (by rw [hc];omega)]
   simp
  | succ k=>
   rw [List.getElem?_append_right (by rw [hc,Nat.succ_mul];omega)]
   have e:(k + 1) * n + j - (c x).length=k * n + j:=by rw [hc,Nat.succ_mul];omega
   rw [e,ih k j (by simpa using hk) hj]
   simp
theorem Qs {w:World} {g:Nat} {cur:Array Value} {T:TypeId} {xs:List Value} (hg:w.heap[g]? = some (.cells cur T)) (ht:cur.toList.take xs.length=xs) {i:Nat} {v:Value} (hi:xs[i]? = some v):w.cell? ⟨g,i,none⟩=some v:=by
 have hl:i < xs.length:=by
  rcases Nat.lt_or_ge i xs.length with h | h
  ·exact h
  ·rw [List.getElem?_eq_none h] at hi;cases hi
 have:=QbS hg ht hl
 rw [this]
 rw [List.getElem?_eq_getElem hl] at hi
 exact hi
theorem Q9P {τ:Type} {T:Tell τ} (hT:Q20 T) {bs:List (Nat×Obj)} {b a:Nat} {n:List UInt8} {ms:List Qq} (hok:∀ n∈ms.flatMap fun d=>QP d.ty,T.ok n) (hd:Q0o bs b (.struct n a ms)) (hJ:∀ {t:τ} {u:World},T.J t u→∀ p∈bs,u.heap[p.1]? = some p.2) {t:τ} {w:World} (h:T.J t w) :
  Calls Tryz.prog 258 #[.pointer (some ⟨b,0,none⟩),T.v] w (Q0M T w (Qo T (ms.flatMap fun d=>QP d.ty) t)):=by
 have HO:=Hid.mk hok
 clear hok
 obtain ⟨sl,hb,hsl⟩:=hd
 obtain ⟨k0,k1,k2,_⟩:=Q0i (hJ h _ hb)
 rcases hsl with ⟨rfl,h0,_⟩ | ⟨g,cap,cur,rfl,⟨hcap,hms⟩,hg,htake⟩
 ·have hnil:ms=[]:=List.length_eq_zero_iff.1 h0
  subst hnil
  have HJ0:=Hid.mk h
  clear h
  go_enter Tryz.func258,Tryz.ntmps258
  go_wp2
  go_loopw [11] (fun i ur=>i = .int .i64 0∧ur=w) (fun _ _=>0)
  case atStart=>exact ⟨rfl,rfl⟩
  case round=>
   obtain ⟨rfl,rfl⟩:=hrel
   go_wp2
   go_end0
   exact Or.inl ⟨t,rfl,rfl,HJ0.out,Qb.refl _ _⟩
 ·have hrow:∀ (u:World) (t':τ),T.J t' u→∀ i (hi:i < ms.length),u.cell? ⟨g,i * 3,none⟩=some (.string ⟨ms[i].t.toArray⟩)∧u.cell? ⟨g,i * 3 + 1,none⟩=some (.int .i64 ms[i].at')∧u.cell? ⟨g,i * 3 + 2,none⟩=some (tyV ms[i].ty):=by
   intro u t' hu i hi
   have hgb:=hJ hu _ hg
   have hf:=Q2g (c:=Q1Z) (n:=3) (fun _=>rfl) ms i
   exact ⟨Qs hgb htake (by have:=hf 0 hi (by omega);simpa using this),Qs hgb htake (by have:=hf 1 hi (by omega);simpa using this),Qs hgb htake (by have:=hf 2 hi (by omega);simpa using this)⟩
  have HR:=Hid.mk hrow
  have HJ0:=Hid.mk h
  clear hrow h
  go_enter Tryz.func258,Tryz.ntmps258
  go_wp2
  go_loopw [11] (fun i ur=>∃ (k:Nat) (t':τ),i = .int .i64 k∧k≤ms.length∧Hid (T.J t' ur)∧Qb T.M w ur∧Hid (Qo T (ms.flatMap fun d=>QP d.ty) t=Qo T ((ms.drop k).flatMap fun d=>QP d.ty) t')) (fun i _=>ms.length - (intOf i).toNat)
  case atStart=>exact ⟨0,t,rfl,by omega,HJ0,Qb.refl _ _,rfl⟩
  case round=>
   obtain ⟨k,t',rfl,hk,J,hz,E⟩:=hrel
   clear HJ0
   rcases Nat.lt_or_ge k ms.length with hlt | hge
   ·obtain ⟨q0,q1,q2⟩:=HR.out _ _ J.out k hlt
    obtain ⟨T1,v1,h1⟩:=Q03 ms[k].ty
    have hnc:=Q2f ms[k].ty h1
    have hen:=Q1U ms[k].ty
    rw [h1] at q2
    have hi0:(0:Int)≤↑k:=by omega
    have hi1:(↑k:Int) < ↑ms.length:=by omega
    have ED:Hid (Qo T (ms.flatMap fun d=>QP d.ty) t=Qo T (QP ms[k].ty++(ms.drop (k + 1)).flatMap fun d=>QP d.ty) t'):=by
     refine E.out.trans ?_
     rw [List.drop_eq_getElem_cons hlt,List.flatMap_cons]
    have HN:=Hid.mk (Q5Y hT ms[k].ty (fun n hn=>HO.out n (List.mem_flatMap.2 ⟨ms[k],List.getElem_mem hlt,hn⟩)) (hT.stable J.out ((Below.refl _ _).alloc (Nat.le_refl _) (.cells #[.string ⟨ms[k].t.toArray⟩,.int .i64 ms[k].at',.iface T1 v1] 195))))
    clear E
    go_wp2_with fail
    refine HN.out.mono ?_
    rintro e w2 (⟨t2,hx,rfl,hj,hz2⟩ | ⟨f,hx,hkE,b2,hbb,rfl,hcell⟩)
    rotate_left
    ·exact (show bodyPost Tryz.prog Tryz.f258 (Q0M T w (Qo T (ms.flatMap fun d=>QP d.ty) t)) (Exit.panic _) _ w2 from Qa (Or.inr ⟨f,ED.out.trans (Q2G hx),(hz.alloc _).trans hkE,b2,by have:=hz.size;simp at hbb;omega,rfl,hcell⟩))
    have J2:=Hid.mk hj
    have E2:Hid (Qo T (ms.flatMap fun d=>QP d.ty) t=Qo T ((ms.drop (k + 1)).flatMap fun d=>QP d.ty) t2):=ED.out.trans (Q37 hx)
    have hz3:Qb T.M w w2:=(hz.alloc _).trans hz2
    clear hj hx ED hz2
    go_wp2
    exact ⟨⟨k + 1,t2,by go_num,by omega,J2,hz3,E2⟩,by simp [intOf];omega⟩
   ·have hkk:k=ms.length:=by omega
    subst hkk
    have hfin:Qo T (ms.flatMap fun d=>QP d.ty) t = .ok t':=by
     refine E.out.trans ?_
     rw [List.drop_length]
     rfl
    have HF:=Hid.mk hfin
    clear E hfin
    go_wp2
    go_end0
    exact Or.inl ⟨t',HF.out,rfl,J.out,hz⟩
theorem Q9Q {τ:Type} {T:Tell τ} (hT:Q20 T) {bs:List (Nat×Obj)} {b a:Nat} {n:List UInt8} {ms:List Qq} (hok:∀ n∈ms.flatMap fun d=>Q00 d.ty,T.ok n) (hd:Q0o bs b (.struct n a ms)) (hJ:∀ {t:τ} {u:World},T.J t u→∀ p∈bs,u.heap[p.1]? = some p.2) {t:τ} {w:World} (h:T.J t w) :
  Calls Tryz.prog 257 #[.pointer (some ⟨b,0,none⟩),T.v] w (Q0M T w (Qo T (ms.flatMap fun d=>Q00 d.ty) t)):=by
 have HO:=Hid.mk hok
 clear hok
 obtain ⟨sl,hb,hsl⟩:=hd
 obtain ⟨k0,k1,k2,_⟩:=Q0i (hJ h _ hb)
 rcases hsl with ⟨rfl,h0,_⟩ | ⟨g,cap,cur,rfl,⟨hcap,hms⟩,hg,htake⟩
 ·have hnil:ms=[]:=List.length_eq_zero_iff.1 h0
  subst hnil
  have HJ0:=Hid.mk h
  clear h
  go_enter Tryz.func257,Tryz.ntmps257
  go_wp2
  go_loopw [11] (fun i ur=>i = .int .i64 0∧ur=w) (fun _ _=>0)
  case atStart=>exact ⟨rfl,rfl⟩
  case round=>
   obtain ⟨rfl,rfl⟩:=hrel
   go_wp2
   go_end0
   exact Or.inl ⟨t,rfl,rfl,HJ0.out,Qb.refl _ _⟩
 ·have hrow:∀ (u:World) (t':τ),T.J t' u→∀ i (hi:i < ms.length),u.cell? ⟨g,i * 3,none⟩=some (.string ⟨ms[i].t.toArray⟩)∧u.cell? ⟨g,i * 3 + 1,none⟩=some (.int .i64 ms[i].at')∧u.cell? ⟨g,i * 3 + 2,none⟩=some (tyV ms[i].ty):=by
   intro u t' hu i hi
   have hgb:=hJ hu _ hg
   have hf:=Q2g (c:=Q1Z) (n:=3) (fun _=>rfl) ms i
   exact ⟨Qs hgb htake (by have:=hf 0 hi (by omega);simpa using this),Qs hgb htake (by have:=hf 1 hi (by omega);simpa using this),Qs hgb htake (by have:=hf 2 hi (by omega);simpa using this)⟩
  have HR:=Hid.mk hrow
  have HJ0:=Hid.mk h
  clear hrow h
  go_enter Tryz.func257,Tryz.ntmps257
  go_wp2
  go_loopw [11] (fun i ur=>∃ (k:Nat) (t':τ),i = .int .i64 k∧k≤ms.length∧Hid (T.J t' ur)∧Qb T.M w ur∧Hid (Qo T (ms.flatMap fun d=>Q00 d.ty) t=Qo T ((ms.drop k).flatMap fun d=>Q00 d.ty) t')) (fun i _=>ms.length - (intOf i).toNat)
  case atStart=>exact ⟨0,t,rfl,by omega,HJ0,Qb.refl _ _,rfl⟩
  case round=>
   obtain ⟨k,t',rfl,hk,J,hz,E⟩:=hrel
   clear HJ0
   rcases Nat.lt_or_ge k ms.length with hlt | hge
   ·obtain ⟨q0,q1,q2⟩:=HR.out _ _ J.out k hlt
    obtain ⟨T1,v1,h1⟩:=Q03 ms[k].ty
    have hnc:=Q4x ms[k].ty h1
    have hen:=Q44 ms[k].ty
    rw [h1] at q2
    have hi0:(0:Int)≤↑k:=by omega
    have hi1:(↑k:Int) < ↑ms.length:=by omega
    have ED:Hid (Qo T (ms.flatMap fun d=>Q00 d.ty) t=Qo T (Q00 ms[k].ty++(ms.drop (k + 1)).flatMap fun d=>Q00 d.ty) t'):=by
     refine E.out.trans ?_
     rw [List.drop_eq_getElem_cons hlt,List.flatMap_cons]
    have HN:=Hid.mk (Q96 hT ms[k].ty (fun n hn=>HO.out n (List.mem_flatMap.2 ⟨ms[k],List.getElem_mem hlt,hn⟩)) (hT.stable J.out ((Below.refl _ _).alloc (Nat.le_refl _) (.cells #[.string ⟨ms[k].t.toArray⟩,.int .i64 ms[k].at',.iface T1 v1] 195))))
    clear E
    go_wp2_with fail
    refine HN.out.mono ?_
    rintro e w2 (⟨t2,hx,rfl,hj,hz2⟩ | ⟨f,hx,hkE,b2,hbb,rfl,hcell⟩)
    rotate_left
    ·exact (show bodyPost Tryz.prog Tryz.f257 (Q0M T w (Qo T (ms.flatMap fun d=>Q00 d.ty) t)) (Exit.panic _) _ w2 from Qa (Or.inr ⟨f,ED.out.trans (Q2G hx),(hz.alloc _).trans hkE,b2,by have:=hz.size;simp at hbb;omega,rfl,hcell⟩))
    have J2:=Hid.mk hj
    have E2:Hid (Qo T (ms.flatMap fun d=>Q00 d.ty) t=Qo T ((ms.drop (k + 1)).flatMap fun d=>Q00 d.ty) t2):=ED.out.trans (Q37 hx)
    have hz3:Qb T.M w w2:=(hz.alloc _).trans hz2
    clear hj hx ED hz2
    go_wp2
    exact ⟨⟨k + 1,t2,by go_num,by omega,J2,hz3,E2⟩,by simp [intOf];omega⟩
   ·have hkk:k=ms.length:=by omega
    subst hkk
    have hfin:Qo T (ms.flatMap fun d=>Q00 d.ty) t = .ok t':=by
     refine E.out.trans ?_
     rw [List.drop_length]
     rfl
    have HF:=Hid.mk hfin
    clear E hfin
    go_wp2
    go_end0
    exact Or.inl ⟨t',HF.out,rfl,J.out,hz⟩
theorem Q97 {τ:Type} {T:Tell τ} (hT:Q20 T) {bs:List (Nat×Obj)} {b:Nat} {d:Qq} (hok:∀ n∈QP d.ty,T.ok n) (hd:Q0o bs b (.typedef d)) (hJ:∀ {t:τ} {u:World},T.J t u→∀ p∈bs,u.heap[p.1]? = some p.2) {t:τ} {w:World} (h:T.J t w) :
  Calls Tryz.prog 250 #[.pointer (some ⟨b,0,none⟩),T.v] w (Q0M T w (Qo T (QP d.ty) t)):=by
 obtain ⟨k0,k1,k2,_⟩:=Q0i (hJ h _ hd)
 obtain ⟨T1,v1,h1⟩:=Q03 d.ty
 have hnc:=Q2f d.ty h1
 have hen:=Q1U d.ty
 rw [h1] at k2
 have HN:=Hid.mk (Q5Y hT d.ty hok h)
 clear h hok
 go_enter Tryz.func250,Tryz.ntmps250
 go_wp2_with fail
 refine HN.out.mono ?_
 rintro e w2 (⟨t2,hx,rfl,hj,hz2⟩ | ⟨f,hx,hkE,b2,hbb,rfl,hcell⟩)
 rotate_left
 ·exact Qa (Or.inr ⟨f,hx,hkE,b2,hbb,rfl,hcell⟩)
 have HX:=Hid.mk hx
 clear hx
 go_wp2
 go_end0
 exact Or.inl ⟨t2,HX.out,rfl,hj,hz2⟩
theorem Qaq {τ:Type} {T:Tell τ} (hT:Q20 T) {bs:List (Nat×Obj)} {b a:Nat} {n:List UInt8} {sel:Qq} {arms:Arms} (hok:∀ n∈arms.flatMap fun d=>QP d.2.ty,T.ok n) (hd:Q0o bs b (.union n a sel arms)) (hJ:∀ {t:τ} {u:World},T.J t u→∀ p∈bs,u.heap[p.1]? = some p.2) {t:τ} {w:World} (h:T.J t w) :
  Calls Tryz.prog 261 #[.pointer (some ⟨b,0,none⟩),T.v] w (Q0M T w (Qo T (arms.flatMap fun d=>QP d.2.ty) t)):=by
 have HO:=Hid.mk hok
 clear hok
 obtain ⟨sl,css,hb,hcl,hsl,hea⟩:=hd
 obtain ⟨_,k5,_⟩:=Q4h (hJ h _ hb)
 rcases hsl with ⟨rfl,h0,_⟩ | ⟨g,cap,cur,rfl,⟨hcap,hms⟩,hg,htake⟩
 ·have hnil:arms=[]:=List.length_eq_zero_iff.1 h0
  subst hnil
  have HJ0:=Hid.mk h
  clear h hea
  go_enter Tryz.func261,Tryz.ntmps261
  go_wp2
  go_loopw [11] (fun i ur=>i = .int .i64 0∧ur=w) (fun _ _=>0)
  case atStart=>exact ⟨rfl,rfl⟩
  case round=>
   obtain ⟨rfl,rfl⟩:=hrel
   go_wp2
   go_end0
   exact Or.inl ⟨t,rfl,rfl,HJ0.out,Qb.refl _ _⟩
 ·have hrow:∀ (u:World) (t':τ),T.J t' u→∀ i (hi:i < arms.length),∃ ca cn cc,u.cell? ⟨g,i * 4,none⟩=some (.slice ca cn cc)∧u.cell? ⟨g,i * 4 + 1,none⟩=some (.string ⟨arms[i].2.t.toArray⟩)∧u.cell? ⟨g,i * 4 + 2,none⟩=some (.int .i64 arms[i].2.at')∧u.cell? ⟨g,i * 4 + 3,none⟩=some (tyV arms[i].2.ty):=by
   intro u t' hu i hi
   have hgb:=hJ hu _ hg
   have hi':i < css.length:=by omega
   have hf:=Q2g (c:=armC) (n:=4) (fun _=>rfl) (arms.zip css) i
   have hz:i < (arms.zip css).length:=by simp;omega
   obtain ⟨ca,cn,cc,hcv⟩:∃ a b c,css[i]=Value.slice a b c:=by rcases hea i hi hi' with ⟨e,_⟩ | ⟨g,cap,cur,e,_⟩<;>exact ⟨_,_,_,e⟩
   refine ⟨ca,cn,cc,Qs hgb htake ?_,Qs hgb htake ?_,Qs hgb htake ?_,Qs hgb htake ?_⟩
   ·have:=hf 0 hz (by omega);simpa [hcv] using this
   ·have:=hf 1 hz (by omega);simpa using this
   ·have:=hf 2 hz (by omega);simpa using this
   ·have:=hf 3 hz (by omega);simpa using this
  have HR:=Hid.mk hrow
  have HJ0:=Hid.mk h
  clear hrow h hea
  go_enter Tryz.func261,Tryz.ntmps261
  go_wp2
  go_loopw [11] (fun i ur=>∃ (k:Nat) (t':τ),i = .int .i64 k∧k≤arms.length∧Hid (T.J t' ur)∧Qb T.M w ur∧Hid (Qo T (arms.flatMap fun d=>QP d.2.ty) t=Qo T ((arms.drop k).flatMap fun d=>QP d.2.ty) t')) (fun i _=>arms.length - (intOf i).toNat)
  case atStart=>exact ⟨0,t,rfl,by omega,HJ0,Qb.refl _ _,rfl⟩
  case round=>
   obtain ⟨k,t',rfl,hk,J,hz,E⟩:=hrel
   clear HJ0
   rcases Nat.lt_or_ge k arms.length with hlt | hge
   ·obtain ⟨ca,cn,cc,q0,q1,q2,q3⟩:=HR.out _ _ J.out k hlt
    obtain ⟨T1,v1,h1⟩:=Q03 arms[k].2.ty
    have hnc:=Q2f arms[k].2.ty h1
    have hen:=Q1U arms[k].2.ty
    rw [h1] at q3
    have hi0:(0:Int)≤↑k:=by omega
    have hi1:(↑k:Int) < ↑arms.length:=by omega
    have ED:Hid (Qo T (arms.flatMap fun d=>QP d.2.ty) t=Qo T (QP arms[k].2.ty++(arms.drop (k + 1)).flatMap fun d=>QP d.2.ty) t'):=by
     refine E.out.trans ?_
     rw [List.drop_eq_getElem_cons hlt,List.flatMap_cons]
    have HN:=Hid.mk (Q5Y hT arms[k].2.ty (fun n hn=>HO.out n (List.mem_flatMap.2 ⟨arms[k],List.getElem_mem hlt,hn⟩)) (hT.stable J.out ((Below.refl _ _).alloc (Nat.le_refl _) (.cells #[.slice ca cn cc,.string ⟨arms[k].2.t.toArray⟩,.int .i64 arms[k].2.at',.iface T1 v1] 292))))
    clear E
    go_wp2_with fail
    refine HN.out.mono ?_
    rintro e w2 (⟨t2,hx,rfl,hj,hz2⟩ | ⟨f,hx,hkE,b2,hbb,rfl,hcell⟩)
    rotate_left
    ·exact (show bodyPost Tryz.prog Tryz.f261 (Q0M T w (Qo T (arms.flatMap fun d=>QP d.2.ty) t)) (Exit.panic _) _ w2 from Qa (Or.inr ⟨f,ED.out.trans (Q2G hx),(hz.alloc _).trans hkE,b2,by have:=hz.size;simp at hbb;omega,rfl,hcell⟩))
    have J2:=Hid.mk hj
    have E2:Hid (Qo T (arms.flatMap fun d=>QP d.2.ty) t=Qo T ((arms.drop (k + 1)).flatMap fun d=>QP d.2.ty) t2):=ED.out.trans (Q37 hx)
    have hz3:Qb T.M w w2:=(hz.alloc _).trans hz2
    clear hj hx ED hz2
    go_wp2
    exact ⟨⟨k + 1,t2,by go_num,by omega,J2,hz3,E2⟩,by simp [intOf];omega⟩
   ·have hkk:k=arms.length:=by omega
    subst hkk
    have hfin:Qo T (arms.flatMap fun d=>QP d.2.ty) t = .ok t':=by
     refine E.out.trans ?_
     rw [List.drop_length]
     rfl
    have HF:=Hid.mk hfin
    clear E hfin
    go_wp2
    go_end0
    exact Or.inl ⟨t',HF.out,rfl,J.out,hz⟩
theorem Q98 {τ:Type} {T:Tell τ} (hT:Q20 T) {bs:List (Nat×Obj)} {b:Nat} {d:Qq} (hok:∀ n∈Q00 d.ty,T.ok n) (hd:Q0o bs b (.typedef d)) (hJ:∀ {t:τ} {u:World},T.J t u→∀ p∈bs,u.heap[p.1]? = some p.2) {t:τ} {w:World} (h:T.J t w) :
  Calls Tryz.prog 249 #[.pointer (some ⟨b,0,none⟩),T.v] w (Q0M T w (Qo T (Q00 d.ty) t)):=by
 obtain ⟨k0,k1,k2,_⟩:=Q0i (hJ h _ hd)
 obtain ⟨T1,v1,h1⟩:=Q03 d.ty
 have hnc:=Q4x d.ty h1
 have hen:=Q44 d.ty
 rw [h1] at k2
 have HN:=Hid.mk (Q96 hT d.ty hok h)
 clear h hok
 go_enter Tryz.func249,Tryz.ntmps249
 go_wp2_with fail
 refine HN.out.mono ?_
 rintro e w2 (⟨t2,hx,rfl,hj,hz2⟩ | ⟨f,hx,hkE,b2,hbb,rfl,hcell⟩)
 rotate_left
 ·exact Qa (Or.inr ⟨f,hx,hkE,b2,hbb,rfl,hcell⟩)
 have HX:=Hid.mk hx
 clear hx
 go_wp2
 go_end0
 exact Or.inl ⟨t2,HX.out,rfl,hj,hz2⟩
theorem Qar {τ:Type} {T:Tell τ} (hT:Q20 T) {bs:List (Nat×Obj)} {b a:Nat} {n:List UInt8} {sel:Qq} {arms:Arms} (hok:∀ n∈arms.flatMap fun d=>Q00 d.2.ty,T.ok n) (hd:Q0o bs b (.union n a sel arms)) (hJ:∀ {t:τ} {u:World},T.J t u→∀ p∈bs,u.heap[p.1]? = some p.2) {t:τ} {w:World} (h:T.J t w) :
  Calls Tryz.prog 260 #[.pointer (some ⟨b,0,none⟩),T.v] w (Q0M T w (Qo T (arms.flatMap fun d=>Q00 d.2.ty) t)):=by
 have HO:=Hid.mk hok
 clear hok
 obtain ⟨sl,css,hb,hcl,hsl,hea⟩:=hd
 obtain ⟨_,k5,_⟩:=Q4h (hJ h _ hb)
 rcases hsl with ⟨rfl,h0,_⟩ | ⟨g,cap,cur,rfl,⟨hcap,hms⟩,hg,htake⟩
 ·have hnil:arms=[]:=List.length_eq_zero_iff.1 h0
  subst hnil
  have HJ0:=Hid.mk h
  clear h hea
  go_enter Tryz.func260,Tryz.ntmps260
  go_wp2
  go_loopw [11] (fun i ur=>i = .int .i64 0∧ur=w) (fun _ _=>0)
  case atStart=>exact ⟨rfl,rfl⟩
  case round=>
   obtain ⟨rfl,rfl⟩:=hrel
   go_wp2
   go_end0
   exact Or.inl ⟨t,rfl,rfl,HJ0.out,Qb.refl _ _⟩
 ·have hrow:∀ (u:World) (t':τ),T.J t' u→∀ i (hi:i < arms.length),∃ ca cn cc,u.cell? ⟨g,i * 4,none⟩=some (.slice ca cn cc)∧u.cell? ⟨g,i * 4 + 1,none⟩=some (.string ⟨arms[i].2.t.toArray⟩)∧u.cell? ⟨g,i * 4 + 2,none⟩=some (.int .i64 arms[i].2.at')∧u.cell? ⟨g,i * 4 + 3,none⟩=some (tyV arms[i].2.ty):=by
   intro u t' hu i hi
   have hgb:=hJ hu _ hg
   have hi':i < css.length:=by omega
   have hf:=Q2g (c:=armC) (n:=4) (fun _=>rfl) (arms.zip css) i
   have hz:i < (arms.zip css).length:=by simp;omega
   obtain ⟨ca,cn,cc,hcv⟩:∃ a b c,css[i]=Value.slice a b c:=by rcases hea i hi hi' with ⟨e,_⟩ | ⟨g,cap,cur,e,_⟩<;>exact ⟨_,_,_,e⟩
   refine ⟨ca,cn,cc,Qs hgb htake ?_,Qs hgb htake ?_,Qs hgb htake ?_,Qs hgb htake ?_⟩
   ·have:=hf 0 hz (by omega);simpa [hcv] using this
   ·have:=hf 1 hz (by omega);simpa using this
   ·have:=hf 2 hz (by omega);simpa using this
   ·have:=hf 3 hz (by omega);simpa using this
  have HR:=Hid.mk hrow
  have HJ0:=Hid.mk h
  clear hrow h hea
  go_enter Tryz.func260,Tryz.ntmps260
  go_wp2
  go_loopw [11] (fun i ur=>∃ (k:Nat) (t':τ),i = .int .i64 k∧k≤arms.length∧Hid (T.J t' ur)∧Qb T.M w ur∧Hid (Qo T (arms.flatMap fun d=>Q00 d.2.ty) t=Qo T ((arms.drop k).flatMap fun d=>Q00 d.2.ty) t')) (fun i _=>arms.length - (intOf i).toNat)
  case atStart=>exact ⟨0,t,rfl,by omega,HJ0,Qb.refl _ _,rfl⟩
  case round=>
   obtain ⟨k,t',rfl,hk,J,hz,E⟩:=hrel
   clear HJ0
   rcases Nat.lt_or_ge k arms.length with hlt | hge
   ·obtain ⟨ca,cn,cc,q0,q1,q2,q3⟩:=HR.out _ _ J.out k hlt
    obtain ⟨T1,v1,h1⟩:=Q03 arms[k].2.ty
    have hnc:=Q4x arms[k].2.ty h1
    have hen:=Q44 arms[k].2.ty
    rw [h1] at q3
    have hi0:(0:Int)≤↑k:=by omega
    have hi1:(↑k:Int) < ↑arms.length:=by omega
    have ED:Hid (Qo T (arms.flatMap fun d=>Q00 d.2.ty) t=Qo T (Q00 arms[k].2.ty++(arms.drop (k + 1)).flatMap fun d=>Q00 d.2.ty) t'):=by
     refine E.out.trans ?_
     rw [List.drop_eq_getElem_cons hlt,List.flatMap_cons]
    have HN:=Hid.mk (Q96 hT arms[k].2.ty (fun n hn=>HO.out n (List.mem_flatMap.2 ⟨arms[k],List.getElem_mem hlt,hn⟩)) (hT.stable J.out ((Below.refl _ _).alloc (Nat.le_refl _) (.cells #[.slice ca cn cc,.string ⟨arms[k].2.t.toArray⟩,.int .i64 arms[k].2.at',.iface T1 v1] 292))))
    clear E
    go_wp2_with fail
    refine HN.out.mono ?_
    rintro e w2 (⟨t2,hx,rfl,hj,hz2⟩ | ⟨f,hx,hkE,b2,hbb,rfl,hcell⟩)
    rotate_left
    ·exact (show bodyPost Tryz.prog Tryz.f260 (Q0M T w (Qo T (arms.flatMap fun d=>Q00 d.2.ty) t)) (Exit.panic _) _ w2 from Qa (Or.inr ⟨f,ED.out.trans (Q2G hx),(hz.alloc _).trans hkE,b2,by have:=hz.size;simp at hbb;omega,rfl,hcell⟩))
    have J2:=Hid.mk hj
    have E2:Hid (Qo T (arms.flatMap fun d=>Q00 d.2.ty) t=Qo T ((arms.drop (k + 1)).flatMap fun d=>Q00 d.2.ty) t2):=ED.out.trans (Q37 hx)
    have hz3:Qb T.M w w2:=(hz.alloc _).trans hz2
    clear hj hx ED hz2
    go_wp2
    exact ⟨⟨k + 1,t2,by go_num,by omega,J2,hz3,E2⟩,by simp [intOf];omega⟩
   ·have hkk:k=arms.length:=by omega
    subst hkk
    have hfin:Qo T (arms.flatMap fun d=>Q00 d.2.ty) t = .ok t':=by
     refine E.out.trans ?_
     rw [List.drop_length]
     rfl
    have HF:=Hid.mk hfin
    clear E hfin
    go_wp2
    go_end0
    exact Or.inl ⟨t',HF.out,rfl,J.out,hz⟩
def Q3t (p:Q1Y):List (List UInt8×Nat):=QP p.res++QP p.arg
def Q0x (v:Q0d):List (List UInt8×Nat):=v.procs.flatMap Q3t
theorem Qbf {τ:Type} {T:Tell τ} (hT:Q20 T) {bs:List (Nat×Obj)} {b a:Nat} {n:List UInt8} {vs:List Q0d} {num:Int} (hok:∀ n∈vs.flatMap Q0x,T.ok n) (hd:Q0o bs b (.prog n a vs num)) (hJ:∀ {t:τ} {u:World},T.J t u→∀ p∈bs,u.heap[p.1]? = some p.2) {t:τ} {w:World} (h:T.J t w) :
  Calls Tryz.prog 265 #[.pointer (some ⟨b,0,none⟩),T.v] w (Q0M T w (Qo T (vs.flatMap Q0x) t)):=by
 have HO:=Hid.mk hok
 clear hok
 obtain ⟨sl,css,hb,hcl,hsl,hea⟩:=hd
 obtain ⟨_,_,k2,_⟩:=Q2K (hJ h _ hb)
 rcases hsl with ⟨rfl,h0,_⟩ | ⟨g,cap,cur,rfl,⟨hcap,hms⟩,hg,htake⟩
 ·have hnil:vs=[]:=List.length_eq_zero_iff.1 h0
  subst hnil
  have HJ0:=Hid.mk h
  clear h hea
  go_enter Tryz.func265,Tryz.ntmps265
  go_wp2
  go_loopw [13] (fun i ur=>i = .int .i64 0∧ur=w) (fun _ _=>0)
  case atStart=>exact ⟨rfl,rfl⟩
  case round=>
   obtain ⟨rfl,rfl⟩:=hrel
   go_wp2
   go_end0
   exact Or.inl ⟨t,rfl,rfl,HJ0.out,Qb.refl _ _⟩
 ·have hrow:∀ (u:World) (t':τ),T.J t' u→∀ i (hi:i < vs.length) (hi':i < css.length),u.cell? ⟨g,i * 4,none⟩=some (.string ⟨vs[i].t.toArray⟩)∧u.cell? ⟨g,i * 4 + 1,none⟩=some (.int .i64 vs[i].at')∧u.cell? ⟨g,i * 4 + 2,none⟩=some css[i]∧u.cell? ⟨g,i * 4 + 3,none⟩=some (.int .i64 vs[i].num):=by
   intro u t' hu i hi hi'
   have hgb:=hJ hu _ hg
   have hf:=Q2g (c:=verC) (n:=4) (fun _=>rfl) (vs.zip css) i
   have hz:i < (vs.zip css).length:=by simp;omega
   refine ⟨Qs hgb htake ?_,Qs hgb htake ?_,Qs hgb htake ?_,Qs hgb htake ?_⟩
   ·exact (hf 0 hz (by omega)).trans (by simp)
   ·exact (hf 1 hz (by omega)).trans (by simp)
   ·exact (hf 2 hz (by omega)).trans (by simp)
   ·exact (hf 3 hz (by omega)).trans (by simp)
  have HR:=Hid.mk hrow
  have HEA:=Hid.mk hea
  have HCL:=Hid.mk hcl
  have HJ0:=Hid.mk h
  clear hrow h hea hcl
  go_enter Tryz.func265,Tryz.ntmps265
  go_wp2
  go_loopw [13] (fun i ur=>∃ (k:Nat) (t':τ),i = .int .i64 k∧k≤vs.length∧Hid (T.J t' ur)∧Qb T.M w ur∧Hid (Qo T (vs.flatMap Q0x) t=Qo T ((vs.drop k).flatMap Q0x) t')) (fun i _=>vs.length - (intOf i).toNat)
  case atStart=>exact ⟨0,t,rfl,by omega,HJ0,Qb.refl _ _,rfl⟩
  case round=>
   obtain ⟨k,t',rfl,hk,J,hz,E⟩:=hrel
   clear HJ0
   rcases Nat.lt_or_ge k vs.length with hlt | hge
   ·have hlt':k < css.length:=by have:=HCL.out;omega
    obtain ⟨q0,q1,q2,q3⟩:=HR.out _ _ J.out k hlt hlt'
    have hi0:(0:Int)≤↑k:=by omega
    have hi1:(↑k:Int) < ↑vs.length:=by omega
    have ED:Hid (Qo T (vs.flatMap Q0x) t=Qo T ((vs[k].procs.drop 0).flatMap Q3t++(vs.drop (k + 1)).flatMap Q0x) t'):=by
     refine E.out.trans ?_
     rw [List.drop_eq_getElem_cons hlt,List.flatMap_cons,List.drop_zero]
     rfl
    clear E
    have hsk:=HEA.out k hlt hlt'
    rcases hsk with ⟨e1,h00,_⟩ | ⟨g2,cap2,cur2,e1,⟨hcap2,hms2⟩,hg2,htake2⟩
    ·rw [e1] at q2
     have hnil:vs[k].procs=[]:=List.length_eq_zero_iff.1 h00
     have J1:=Hid.mk (hT.stable J.out ((Below.refl _ _).alloc (Nat.le_refl _) (.cells #[.string ⟨vs[k].t.toArray⟩,.int .i64 vs[k].at',.slice none 0 0,.int .i64 vs[k].num] 296)))
     have hz1:=hz.alloc (.cells #[.string ⟨vs[k].t.toArray⟩,.int .i64 vs[k].at',.slice none 0 0,.int .i64 vs[k].num] 296)
     have E1:Hid (Qo T (vs.flatMap Q0x) t=Qo T ((vs.drop (k + 1)).flatMap Q0x) t'):=by
      refine ED.out.trans ?_
      rw [hnil]
      rfl
     clear ED e1 hnil h00
     go_wp2
     go_loopw [20] (fun i ur=>i = .int .i64 0∧ur=wr.alloc (.cells #[.string ⟨vs[k].t.toArray⟩,.int .i64 vs[k].at',.slice none 0 0,.int .i64 vs[k].num] 296)) (fun _ _=>0)
     case atStart=>exact ⟨rfl,rfl⟩
     case round=>
      obtain ⟨rfl,rfl⟩:=hrel
      go_wp2
      exact ⟨⟨k + 1,t',by go_num,by omega,J1,hz1,E1⟩,by simp [intOf];omega⟩
    ·rw [e1] at q2
     have hrow2:∀ (u:World) (t':τ),T.J t' u→∀ j (hj:j < vs[k].procs.length),u.cell? ⟨g2,j * 5,none⟩=some (.string ⟨vs[k].procs[j].t.toArray⟩)∧u.cell? ⟨g2,j * 5 + 1,none⟩=some (.int .i64 vs[k].procs[j].at')∧u.cell? ⟨g2,j * 5 + 2,none⟩=some (tyV vs[k].procs[j].res)∧u.cell? ⟨g2,j * 5 + 3,none⟩=some (tyV vs[k].procs[j].arg)∧u.cell? ⟨g2,j * 5 + 4,none⟩=some (.int .i64 vs[k].procs[j].num):=by
      intro u t' hu j hj
      have hgb:=hJ hu _ hg2
      have hf:=Q2g (c:=Q43) (n:=5) (fun _=>rfl) vs[k].procs j
      exact ⟨Qs hgb htake2 ((hf 0 hj (by omega)).trans (by simp)),Qs hgb htake2 ((hf 1 hj (by omega)).trans (by simp)),Qs hgb htake2 ((hf 2 hj (by omega)).trans (by simp)),Qs hgb htake2 ((hf 3 hj (by omega)).trans (by simp)),Qs hgb htake2 ((hf 4 hj (by omega)).trans (by simp))⟩
     have HR2:=Hid.mk hrow2
     have J1:=Hid.mk (hT.stable J.out ((Below.refl _ _).alloc (Nat.le_refl _) (.cells #[.string ⟨vs[k].t.toArray⟩,.int .i64 vs[k].at',.slice (some ⟨g2,0,none⟩) vs[k].procs.length cap2,.int .i64 vs[k].num] 296)))
     have hz1:=hz.alloc (.cells #[.string ⟨vs[k].t.toArray⟩,.int .i64 vs[k].at',.slice (some ⟨g2,0,none⟩) vs[k].procs.length cap2,.int .i64 vs[k].num] 296)
     clear hrow2 e1 hz
     go_wp2
     go_loopw [20] (fun i u2=>∃ (j:Nat) (t2:τ),i = .int .i64 j∧j≤vs[k].procs.length∧Hid (T.J t2 u2)∧Qb T.M w u2∧Hid (Qo T (vs.flatMap Q0x) t=Qo T ((vs[k].procs.drop j).flatMap Q3t++(vs.drop (k + 1)).flatMap Q0x) t2)) (fun i _=>vs[k].procs.length - (intOf i).toNat)
     case atStart=>exact ⟨0,t',rfl,by omega,J1,hz1,ED⟩
     case round=>
      obtain ⟨j,t2,rfl,hj,Jj,hzj,Ej⟩:=hrel
      clear J1 hz1 ED
      rcases Nat.lt_or_ge j vs[k].procs.length with hlj | hgj
      ·obtain ⟨p0,p1,p2,p3,p4⟩:=HR2.out _ _ Jj.out j hlj
       obtain ⟨T1,v1,h1⟩:=Q03 vs[k].procs[j].res
       obtain ⟨T2,v2,h2⟩:=Q03 vs[k].procs[j].arg
       have hnc:=Q2f vs[k].procs[j].res h1
       have hen:=Q1U vs[k].procs[j].res
       have hnc2:=Q2f vs[k].procs[j].arg h2
       have hen2:=Q1U vs[k].procs[j].arg
       rw [h1] at p2
       rw [h2] at p3
       have hj0:(0:Int)≤↑j:=by omega
       have hj1:(↑j:Int) < ↑vs[k].procs.length:=by omega
       have EJ:Hid (Qo T (vs.flatMap Q0x) t=Qo T (QP vs[k].procs[j].res++(QP vs[k].procs[j].arg++((vs[k].procs.drop (j + 1)).flatMap Q3t++(vs.drop (k + 1)).flatMap Q0x))) t2):=by
        refine Ej.out.trans ?_
        rw [List.drop_eq_getElem_cons hlj,List.flatMap_cons]
        simp only [Q3t,List.append_assoc]
       have HN:=Hid.mk (Q5Y hT vs[k].procs[j].res (fun n hn=>HO.out n (List.mem_flatMap.2 ⟨vs[k],List.getElem_mem hlt,List.mem_flatMap.2 ⟨vs[k].procs[j],List.getElem_mem hlj,List.mem_append_left _ hn⟩⟩)) (hT.stable Jj.out ((Below.refl _ _).alloc (Nat.le_refl _) (.cells #[.string ⟨vs[k].procs[j].t.toArray⟩,.int .i64 vs[k].procs[j].at',.iface T1 v1,.iface T2 v2,.int .i64 vs[k].procs[j].num] 342))))
       have hold:=hT.old Jj.out
       have hzp:=hzj.alloc (.cells #[.string ⟨vs[k].procs[j].t.toArray⟩,.int .i64 vs[k].procs[j].at',.iface T1 v1,.iface T2 v2,.int .i64 vs[k].procs[j].num] 342)
       clear Ej
       go_wp2_with fail
       refine HN.out.mono ?_
       rintro e w2 (⟨t3,hx,rfl,hj3,hz2⟩ | ⟨f,hx,hkE,b2,hbb,rfl,hcell⟩)
       rotate_left
       ·exact (show bodyPost Tryz.prog Tryz.f265 (Q0M T w (Qo T (vs.flatMap Q0x) t)) (Exit.panic _) _ w2 from Qa (Or.inr ⟨f,EJ.out.trans (Q2G hx),hzp.trans hkE,b2,by have:=hzp.size;omega,rfl,hcell⟩))
       have hb2:=(hz2.block _ (by simp) (fun hm=>by have:=hold _ hm;omega)).trans (Qg rfl)
       obtain ⟨_,_,_,s3,_,_⟩:=Q9E hb2
       have E3:Hid (Qo T (vs.flatMap Q0x) t=Qo T (QP vs[k].procs[j].arg++((vs[k].procs.drop (j + 1)).flatMap Q3t++(vs.drop (k + 1)).flatMap Q0x)) t3):=EJ.out.trans (Q37 hx)
       have HN2:=Hid.mk (Q5Y hT vs[k].procs[j].arg (fun n hn=>HO.out n (List.mem_flatMap.2 ⟨vs[k],List.getElem_mem hlt,List.mem_flatMap.2 ⟨vs[k].procs[j],List.getElem_mem hlj,List.mem_append_right _ hn⟩⟩)) hj3)
       have hz3:=hzp.trans hz2
       clear hx EJ hb2 hz2 hj3 HN hzp
       go_wp2_with fail
       refine HN2.out.mono ?_
       rintro e w4 (⟨t4,hx4,rfl,hj4,hz4⟩ | ⟨f,hx4,hkE,b2,hbb,rfl,hcell⟩)
       rotate_left
       ·exact (show bodyPost Tryz.prog Tryz.f265 (Q0M T w (Qo T (vs.flatMap Q0x) t)) (Exit.panic _) _ w4 from Qa (Or.inr ⟨f,E3.out.trans (Q2G hx4),hz3.trans hkE,b2,by have:=hz3.size;omega,rfl,hcell⟩))
       have J4:=Hid.mk hj4
       have E4:Hid (Qo T (vs.flatMap Q0x) t=Qo T ((vs[k].procs.drop (j + 1)).flatMap Q3t++(vs.drop (k + 1)).flatMap Q0x) t4):=E3.out.trans (Q37 hx4)
       have hz5:=hz3.trans hz4
       clear hj4 hx4 E3 hz4 hz3
       go_wp2
       exact ⟨⟨j + 1,t4,by go_num,by omega,J4,hz5,E4⟩,by simp [intOf];omega⟩
      ·have hjj:j=vs[k].procs.length:=by omega
       subst hjj
       have E1:Hid (Qo T (vs.flatMap Q0x) t=Qo T ((vs.drop (k + 1)).flatMap Q0x) t2):=by
        refine Ej.out.trans ?_
        rw [List.drop_length]
        rfl
       clear Ej
       go_wp2
       exact ⟨⟨k + 1,t2,by go_num,by omega,Jj,hzj,E1⟩,by simp [intOf];omega⟩
   ·have hkk:k=vs.length:=by omega
    subst hkk
    have hfin:Qo T (vs.flatMap Q0x) t = .ok t':=by
     refine E.out.trans ?_
     rw [List.drop_length]
     rfl
    have HF:=Hid.mk hfin
    clear E hfin
    go_wp2
    go_end0
    exact Or.inl ⟨t',HF.out,rfl,J.out,hz⟩
end Go.Proofs.YtmbcibgknckenaaGreatDoor
