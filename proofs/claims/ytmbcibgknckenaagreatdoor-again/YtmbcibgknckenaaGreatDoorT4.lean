import Derived.Test.YtmbcibgknckenaaGreatDoorT3
import Derived.Laws.EntriesVeiled
set_option linter.all false
set_option maxRecDepth 100000
set_option maxHeartbeats 4000000
namespace Go.Proofs.YtmbcibgknckenaaGreatDoor
open Go.RowKit
open Go.MapKept
theorem QgI:(Tryz.prog.info? 195).map (fun i=>(i.zero,i.size,i.bytes))=some (some (.agg #[.string ⟨#[]⟩,.int .i64 0,.nilIface]),3,40):=by kernel_rfl
def Q2q (text:ByteArray) (a:StAd):PX (List Qk×List (List UInt8)) Unit:=fun p σ=>match decl text (Qr a.q a.bx) p.2 σ with
 | .ok (d,t',σ')=>bndx (lift (QS text [59])) (fun _=>retx ()) (p.1++[d],t') σ'
 | .error f=>.error f
theorem Q5a {text:ByteArray} {a:StAd} {ds:List Qk} {t t':List (List UInt8)} {σ σ':St} {d:Qk} (h:decl text (Qr a.q a.bx) t σ = .ok (d,t',σ')) :
  Q2q text a (ds,t) σ = bndx (lift (QS text [59])) (fun _=>retx ()) (ds++[d],t') σ':=by simp only [Q2q,h]
theorem Q6f {text:ByteArray} {a:StAd} {ds:List Qk} {t:List (List UInt8)} {σ:St} {f:Mar.Fault} (h:decl text (Qr a.q a.bx) t σ = .error f):Q2q text a (ds,t) σ = .error f:=by simp only [Q2q,h]
def stJ (A:Ad) (text:ByteArray) (w:World) (a:StAd) (n:List UInt8×Nat) (k:Nat) (Y:List Nat) (p:List Qk×List (List UInt8)) (σ:St) (u:World):Prop:=p.1.length=k∧∃ sl,Q2U A text w a n p.1 Y p.2 sl σ u
theorem Q2U.slice {A:Ad} {text:ByteArray} {w u:World} {a:StAd} {n:List UInt8×Nat} {ds:List Qk} {Y:List Nat} {t:List (List UInt8)} {sl:Value} {σ:St} (m:Q2U A text w a n ds Y t sl σ u):∃ ad cap,sl = .slice ad ds.length cap:=by
 rcases m.row.2 with ⟨rfl,h⟩ | ⟨g,cap,cur,rfl,_⟩
 ·exact ⟨none,0,by rw [h]⟩
 ·exact ⟨_,_,rfl⟩
theorem Q2U.free {A:Ad} {text:ByteArray} {w u:World} {a:StAd} {n:List UInt8×Nat} {ds:List Qk} {Y:List Nat} {t:List (List UInt8)} {sl:Value} {σ σ0:St} (h0:Rd A text σ0 w) (m:Q2U A text w a n ds Y t sl σ u):Free (A.plus Y) a.q:=by
 obtain ⟨l1,l2,l3,l4⟩:=h0.lt
 have iq:=m.mine a.q (by simp [StAd.list])
 have hq:=m.new _ iq
 refine ⟨List.mem_append_left _ iq,?_,?_,?_,?_⟩<;>simp only [Ad.plus]<;>omega
theorem QD {b:Nat} {k:Value} {T:TypeId} {w:World} (h:w.heap[b]? = some (.cells #[k] T)):w.cell? ⟨b,0,none⟩=some k:=by simp [World.cell?,h]
theorem Qbq (d:Qk):∀ u∈Q0C d,u.oneCell'=true:=by
 intro u hu
 simp only [List.mem_cons,List.not_mem_nil,or_false] at hu
 rcases hu with rfl | rfl | rfl
 ·rfl
 ·rfl
 ·cases d.ty<;>rfl
theorem Q9E {A:Ad} {text:ByteArray} {w u:World} {a:StAd} {n:List UInt8×Nat} {k:Nat} {Y:List Nat} {ds:List Qk} {t:List (List UInt8)} {σ σ0:St} (h0:Rd A text σ0 w) (hk:k < 1000) (h:stJ A text w a n k Y (ds,t) σ u) :
  Calls Tryz.prog 130 #[.pointer (some ⟨a.db,0,none⟩),.pointer (some ⟨a.rb,0,none⟩),.pointer (some ⟨a.cb,0,none⟩)] u (Q10 A w (stJ A text w a n (k + 1)) (Q2q text a (ds,t) σ)):=by
 obtain ⟨hlen,sl,hm⟩:=h
 dsimp only at hlen hm
 have HL:=Hid.mk hlen
 have hds:ds.length < 1000:=by omega
 clear hlen
 obtain ⟨ad,cap,rfl⟩:=hm.slice
 obtain ⟨i0,hi0,hz0,hz1,hz2⟩:=info_parts QgI
 have M:=Hid.mk hm
 obtain ⟨k0,k1,k2,hfrK⟩:=Q0h hm.box
 have vr:=QD hm.vr
 have vd:=QD hm.vd
 have vc:=QD hm.vc
 have hbd:Below u.heap.size u u.drew:=(Below.refl _ _).drew
 have HC:=Hid.mk (Q6q (Same.plus A Y) (Q5C (hm.free h0)) (hm.rd.below hbd) (show (Qr a.q a.bx).I t u.drew from hm.set.keeps (Qa.of_below [] hbd) (by simp)) (hm.cl.keeps (Qa.of_below [] hbd) (by simp)))
 have hnd:=hm.nd
 simp only [StAd.list,List.nodup_cons,List.mem_cons,List.not_mem_nil,or_false,not_or] at hnd
 have nr:a.rb≠a.D:=by omega
 have nd:a.db≠a.D:=by omega
 have nc:a.cb≠a.D:=by omega
 have hat5:∀ w5,Qa [A.S,a.q] u.drew w5→(∀ o,(w5.alloc o).ownsRow w.heap.size 195 3 (.slice ad ds.length cap) ds.length (ds.flatMap Q0C)) ∧
   w5.heap[a.D]? = some (.cells #[.string ⟨n.1.toArray⟩,.int .i64 n.2,.slice ad ds.length cap] 282)∧w.heap.size≤w5.heap.size ∧
   w5.heap[a.rb]? = some (.cells #[.pointer (some ⟨A.R,0,none⟩)] 101)∧w5.heap[a.db]? = some (.cells #[.pointer (some ⟨a.D,0,none⟩)] 182)∧w5.heap[a.cb]? = some (.cells #[(Qr a.q a.bx).v] 270):=by
  intro w5 hk5
  have hk5':=((Qa.refl _ u).drew).trans hk5
  obtain ⟨l1,l2,l3,l4⟩:=h0.lt
  have far:∀ b∈a.list,b≠a.q→b ∉ [A.S,a.q]:=fun b hb hq=>by have:=hm.new _ (hm.mine b hb);simp;omega
  refine ⟨fun o=>Qx (Qx hm.row hk5' ?_) ((Qa.refl [] w5).alloc o) (by simp),(hk5'.block _ (Qc hm.box) (far _ (by simp [StAd.list]) (by omega))).trans hm.box,Nat.le_trans hm.kp.size hk5'.size,
   (hk5'.block _ (Qc hm.vr) (far _ (by simp [StAd.list]) (by omega))).trans hm.vr,(hk5'.block _ (Qc hm.vd) (far _ (by simp [StAd.list]) (by omega))).trans hm.vd,(hk5'.block _ (Qc hm.vc) (far _ (by simp [StAd.list]) (by omega))).trans hm.vc⟩
  intro g hg
  have h1:=hm.own g hg
  have h2:=hm.new _ h1.1
  have h3:g≠a.q:=fun e=>h1.2 (by rw [e];simp [StAd.list])
  simp;omega
 have H5:=Hid.mk hat5
 have hat6:∀ w5 o w6,Qa [A.S,a.q] u.drew w5→(w5.alloc o).grownBy w6 (Value.slice ad ds.length cap).ownBlock→w6.heap[a.D]? = some (.cells #[.string ⟨n.1.toArray⟩,.int .i64 n.2,.slice ad ds.length cap] 282) ∧
   w6.heap[a.rb]? = some (.cells #[.pointer (some ⟨A.R,0,none⟩)] 101)∧w6.heap[a.db]? = some (.cells #[.pointer (some ⟨a.D,0,none⟩)] 182)∧w6.heap[a.cb]? = some (.cells #[(Qr a.q a.bx).v] 270):=by
  intro w5 o w6 hk5 hg
  obtain ⟨_,h5,_,h6,h7,h8⟩:=hat5 w5 hk5
  have one:∀ b∈a.list,∀ ob,w5.heap[b]? = some ob→w6.heap[b]? = some ob:=fun b hb ob h=>by
   have hl:=Qc h
   exact (hg.block _ (by simp;omega) (fun e=>(hm.own _ e.symm).2 hb)).trans ((((Qa.refl [] w5).alloc o).block _ hl (by simp)).trans h)
  exact ⟨one _ (by simp [StAd.list]) _ h5,one _ (by simp [StAd.list]) _ h6,one _ (by simp [StAd.list]) _ h7,one _ (by simp [StAd.list]) _ h8⟩
 have H6:=Hid.mk hat6
 have hl1:ds.length + 1≤maxLen:=by unfold maxLen;omega
 have hl2:(ds.length + 1) * 40≤140737488355328:=by omega
 have hz3:(Value.agg #[.string ⟨#[]⟩,.int .i64 0,.nilIface]).cells.size=3:=by decide
 clear hm hat5 hat6
 dsimp only [Q0e.v,Qr] at vc
 go_enter Tryz.func130,Tryz.ntmps130
 go_wp2_with fail
 refine QH (fun w'=>w'.cell? ⟨a.db,0,none⟩=some (.pointer (some ⟨a.D,0,none⟩))∧w'.cell? ⟨a.rb,0,none⟩=some (.pointer (some ⟨A.R,0,none⟩))∧w'.cell? ⟨a.cb,0,none⟩=some (.func (.func 164) #[] #[.pointer (some ⟨a.bx,0,none⟩)])∧w'.cell? ⟨a.D,2,none⟩=some (.slice ad ds.length cap)) (L:=12) (by kernel_rfl) rfl (by kernel_rfl) (by kernel_rfl) ?_ (fun hHeld=>?_)
 ·go_keep
 refine tk (i:=0) (v:=?_) rfl (by kernel_rfl) (fun _ _ _ h=>h) (by rfl) (by assumption) ?_ ?_
 rotate_left
 ·intro w hSw;(try dsimp only at hSw);go_simp;(try with_reducible rfl)
 (try simp only [Qd,Qe,List.set])
 refine tk (i:=1) (v:=?_) rfl (by kernel_rfl) (fun _ _ _ h=>h) (by rfl) (by assumption) ?_ ?_
 rotate_left
 ·intro w hSw;(try dsimp only at hSw);go_simp;(try with_reducible rfl)
 (try simp only [Qd,Qe,List.set])
 refine tk (i:=2) (v:=?_) rfl (by kernel_rfl) (fun _ _ _ h=>h) (by rfl) (by assumption) ?_ ?_
 rotate_left
 ·intro w hSw;(try dsimp only at hSw);go_simp;(try with_reducible rfl)
 (try simp only [Qd,Qe,List.set])
 refine tk (i:=3) (v:=?_) rfl (by kernel_rfl) (fun _ _ _ h=>h) (by rfl) (by assumption) ?_ ?_
 rotate_left
 ·intro w hSw;(try dsimp only at hSw);go_simp;(try with_reducible rfl)
 (try simp only [Qd,Qe,List.set])
 refine tk (i:=4) (v:=?_) rfl (by kernel_rfl) (fun _ _ _ h=>h) (by rfl) (by assumption) ?_ ?_
 rotate_left
 ·intro w hSw;(try dsimp only at hSw);go_simp;(try with_reducible rfl)
 (try simp only [Qd,Qe,List.set])
 refine tk (i:=5) (v:=?_) rfl (by kernel_rfl) (fun _ _ _ h=>h) (by rfl) (by assumption) ?_ ?_
 rotate_left
 ·intro w hSw;(try dsimp only at hSw);go_simp;(try with_reducible rfl)
 (try simp only [Qd,Qe,List.set])
 refine tk (i:=6) (v:=?_) rfl (by kernel_rfl) (fun _ _ _ h=>h) (by rfl) (by assumption) ?_ ?_
 rotate_left
 ·intro w hSw;(try dsimp only at hSw);go_simp;(try with_reducible rfl)
 (try simp only [Qd,Qe,List.set])
 refine wpAnyH_ready (rs:=[7]) (by kernel_rfl) (by simp) ?_
 refine AllReadyH.cons rfl (fun K hK=>?_) AllReadyH.nil
 (go_simp;go_at_call 125;refine HC.out.mono ?_;rintro e w5 ⟨hk5,⟨d,t5,σ5,hx5,rfl,hr5,hn5⟩ | ⟨f,hx5,b,hbb,rfl,hcell⟩⟩;rotate_left;exact Qb (Q10.throws ((M.out.kp.young (((Qa.refl _ u).drew).trans hk5) (by intro m hm;simp [Qr] at hm ⊢;rcases hm with h | h;exact Or.inl (Or.inr (Or.inl h));exact Or.inr (by have:=M.out.new _ (M.out.mine a.q (by simp [StAd.list]));omega)))) M.out.kp (Q6f hx5) hbb hcell);obtain ⟨hown5,hbox5,hwl,br5,bd5,bc5⟩:=H5.out w5 hk5;obtain ⟨y0,y1,y2,hfy⟩:=Q0h hbox5;have hlt5:=Qc hbox5;have hne5:=Nat.ne_of_lt hlt5;have r5:=QD br5;have d5:=QD bd5;have c5:=QD bc5;dsimp only [Q0e.v,Qr] at c5;have lr5:=Qc br5;have ld5:=Qc bd5;have lc5:=Qc bc5;dsimp only [Q2S])
 refine hK.out _ _ ?_ (fun hHeld=>?_)
 ·go_keep
 clear hK K
 (try simp only [Qd,Qe,List.set])
 refine wpAnyH_ready (rs:=[8]) (by kernel_rfl) (by simp) ?_
 refine AllReadyH.cons rfl (fun K hK=>?_) AllReadyH.nil
 go_simp
 refine hK.out _ _ ?_ (fun hHeld=>?_)
 ·go_keep
 clear hK K
 (try simp only [Qd,Qe,List.set])
 refine wpAnyH_ready (rs:=[9]) (by kernel_rfl) (by simp) ?_
 refine AllReadyH.cons rfl (fun K hK=>?_) AllReadyH.nil
 (refine step_append_lies _ (by rfl) _ _ _ (by rfl) w.heap.size 195 i0 _ 3 40 Tryz.underlying280 hi0 hz0 hz1 hz2 hz3 (by omega) (.slice ad ds.length cap) ds.length (ds.flatMap Q0C) (by rfl) (hown5 _) ⟨w5.heap.size,0,none⟩ 1 1 (Q0C d) (by rfl) (by rfl) (World.news_of_block (cs:=(Q0C d).toArray) (t:=195) (fr:=(0,0)) (heap_alloc_new w5 _)) (Qbq d) (by omega) hl1 hl2 (by simp;omega) (w5.heap.size + 1) (by simp) ?_;intro g cap' w6 hown6 hgrow hat hlt;obtain ⟨hbox6,br6,bd6,bc6⟩:=H6.out w5 _ w6 hk5 hgrow;obtain ⟨z0,z1,z2,hfz⟩:=Q0h hbox6;have r6:=QD br6;have d6:=QD bd6;have c6:=QD bc6;dsimp only [Q0e.v,Qr] at c6)
 refine hK.out _ _ ?_ (fun hHeld=>?_)
 ·go_keep
 clear hK K
 (try simp only [Qd,Qe,List.set])
 refine tk (i:=10) (v:=?_) rfl (by kernel_rfl) (fun _ _ _ h=>h) (by rfl) (by assumption) ?_ ?_
 rotate_left
 ·intro w hSw;(try dsimp only at hSw);go_simp;(try with_reducible rfl)
 (try simp only [Qd,Qe,List.set])
 refine tk (i:=11) (v:=?_) rfl (by kernel_rfl) (fun _ _ _ h=>h) (by rfl) (by assumption) ?_ ?_
 rotate_left
 ·intro w hSw;(try dsimp only at hSw);go_simp;(try with_reducible rfl)
 (try simp only [Qd,Qe,List.set])
 refine wpAnyH_done (by kernel_rfl) ?_ _
 refine Q02 rfl (fun K hK=>?_)
 go_simp
 refine hK.out _ _ ?_
 clear hK K
 (try simp only [Qd,Qe,List.set])
 have M6:=Hid.mk (Q2U.step h0 M.out (((Qa.refl _ u).drew).trans hk5) hr5 hn5 ((Below.refl w5.heap.size w5).alloc (Nat.le_refl _) _) hown6 hgrow (by simpa using hat) hlt)
 have v6:=QD M6.out.vr
 clear hk5 hr5 hn5 hown6 hgrow hat hlt hbox6 br6 bd6 bc6 z0 z1 z2 hfz r6 d6 c6 hbox5 br5 bd5 bc5 y0 y1 y2 hfy hown5 r5 d5 c5
 go_wp2_with fail
 refine (Q08 (Same.plus A (g :: Y)) _ M6.out.rd).mono ?_
 rintro e w7 ⟨hk7,⟨x7,σ7,hx7,rfl,hr7⟩ | ⟨f,hx7,b7,hbb,rfl,hcell⟩⟩
 rotate_left
 ·exact Qb (Q10.throws (M6.out.kp.trans (hk7.mono (by simp))) M6.out.kp ((Q5a hx5).trans (Ql (Qv hx7))) hbb hcell)
 have M7:=Hid.mk (M6.out.scan h0 hk7 hr7)
 clear hk7 hr7
 go_wp2
 go_end0
 exact Or.inl ⟨g :: Y,(ds++[d],t5),σ7,(Q5a hx5).trans (Qh (Qj hx7)),rfl,by simp [HL.out],_,M7.out⟩
theorem Qfu:∀ ds:List Qk,(ds.flatMap Q0C).length=ds.length * 3:=by
 intro ds
 induction ds with
 | nil=>rfl
 | cons d ds ih=>simp only [List.flatMap_cons,List.length_append,List.length_cons,ih];simp;omega
theorem Q2U.fin {A:Ad} {text:ByteArray} {w u:World} {a:StAd} {n:List UInt8×Nat} {ds:List Qk} {Y:List Nat} {t:List (List UInt8)} {sl:Value} {σ σ0:St} (h0:Rd A text σ0 w) (m:Q2U A text w a n ds Y t sl σ u) (hle:ds.length≤12)
  {r:Except Mar.Fault (DefL×St)} (hr:r = .ok (.struct n.1 n.2 ds,σ)):QC [A.R,A.S,A.N] A text w r (.returned (.pointer (some ⟨a.D,0,none⟩))) u:=by
 have far:∀ b,w.heap.size≤b→b ∉ A.X:=fun b hb hm=>by have:=h0.old _ hm;omega
 have hD:u.heap[a.D]? = some (.cells #[.string ⟨n.1.toArray⟩,.int .i64 n.2,sl] 282)∧a.D ∉ A.X:=⟨m.box,far _ (m.new _ (m.mine _ (by simp [StAd.list])))⟩
 refine ⟨m.kp,Or.inl ⟨.struct n.1 n.2 ds,σ,a.D,?_⟩⟩
 rcases m.row.2 with ⟨rfl,h⟩ | ⟨g,cap,cur,rfl,hg1,hg2,hg3,hg4,hg5,hg6⟩
 ·have:ds=[]:=List.length_eq_zero_iff.1 h
  subst this
  refine ⟨[(a.D,.cells #[.string ⟨n.1.toArray⟩,.int .i64 n.2,.slice none 0 0] 282)],hr,rfl,Rd.dropAll h0.mine m.rd,⟨.slice none 0 0,List.mem_cons_self,Or.inl ⟨rfl,rfl,rfl⟩⟩,?_⟩
  intro p hp
  simp only [List.mem_singleton] at hp
  subst hp
  exact hD
 ·refine ⟨[(a.D,.cells #[.string ⟨n.1.toArray⟩,.int .i64 n.2,.slice (some ⟨g,0,none⟩) ds.length cap] 282),(g,.cells cur 195)],hr,rfl,Rd.dropAll h0.mine m.rd,⟨_,List.mem_cons_self,Or.inr ⟨g,cap,cur,rfl,⟨hg3,by omega⟩,by simp,?_⟩⟩,?_⟩
  ·rw [Qfu]
   exact hg6
  ·intro p hp
   rcases List.mem_cons.1 hp with rfl | hp
   ·exact hD
   ·simp only [List.mem_singleton] at hp
    subst hp
    exact ⟨hg2,far _ hg1⟩
theorem Q87 (args:Array Value) (u:World):(callFunc 130 args).run Tryz.prog u = .ok (.enter 130 args) u:=by
 kernel_rfl
def Qiw {A:Ad} {text:ByteArray} {σ0:St} {w:World} (h0:Rd A text σ0 w) (a:StAd) (n:List UInt8×Nat):One (List Qk×List (List UInt8)) A text w 12 where
 f:=130
 cap:=#[.pointer (some ⟨a.db,0,none⟩),.pointer (some ⟨a.rb,0,none⟩),.pointer (some ⟨a.cb,0,none⟩)]
 run:=Q2q text a
 J:=stJ A text w a n
 enters:=Q87
 rd:=by rintro _ _ _ _ _ ⟨_,_,m⟩;exact m.rd
 kp:=by rintro _ _ _ _ _ ⟨_,_,m⟩;exact m.kp
 scan:=by rintro _ _ _ _ _ _ _ ⟨h,sl,m⟩ hk hr;exact ⟨h,sl,m.scan h0 hk hr⟩
 call:=by
  intro k Y t σ u hk h
  exact Q9E h0 (by omega) h
def runx {τ:Type} (m:PX τ Unit) (t:τ):PM τ:=fun σ=>match m t σ with
 | .ok (_,t',σ')=>.ok (t',σ')
 | .error f=>.error f
theorem Q42 {τ:Type} {m:PX τ Unit} {t t':τ} {σ σ':St} (h:m t σ = .ok ((),t',σ')):runx m t σ = .ok (t',σ'):=by simp only [runx,h]
theorem Q5D {τ:Type} {m:PX τ Unit} {t:τ} {σ:St} {f:Mar.Fault} (h:m t σ = .error f):runx m t σ = .error f:=by simp only [runx,h]
def Q1o (text:ByteArray) (at':Nat):PM DefL:=bnd (Q1s at') fun _=>bnd (Q1j text) fun n=>bnd (runx (block text 12 (Q2q text ⟨0,0,0,0,0,0⟩)) ([],[])) fun p=>bnd (QS text [59]) fun _=>ret (.struct n.1 n.2 p.1)
theorem Qef {A' A:Ad} (hA:Same A' A) {text:ByteArray} {σ:St} (at':Nat) {w:World} (h:Rd A' text σ w) :
  Calls Tryz.prog 124 #[.pointer (some ⟨A.R,0,none⟩),.int .i64 at'] w (Qt [A.R] A' text w (Q1s at' σ) Q5Z):=by
 have:=Q4K at' h
 rw [hA.1] at this
 exact this
theorem Q8T {A' A:Ad} (hA:Same A' A) {text:ByteArray} {σ:St} {w:World} (h:Rd A' text σ w) :
  Calls Tryz.prog 119 #[.pointer (some ⟨A.R,0,none⟩),.func (.func 120) #[.pointer (some ⟨A.R,0,none⟩)] #[]] w (Qt [A.S,A.N] A' text w (Q1j text σ) Q1x):=by
 have:=Q3c h
 rw [hA.1,hA.2.1,hA.2.2.1] at this
 exact this
theorem Rd.take {A:Ad} {text:ByteArray} {σ:St} {w w':World} {q:Nat} (h:Rd A text σ w) (hb:Below w.heap.size w w') (hq:w.heap.size≤q) (hl:q < w'.heap.size):Rd (A.add q) text σ w':=by
 have h1:=h.below hb
 obtain ⟨m1,m2,m3,m4⟩:=h1.mine
 refine ⟨h1.me,h1.sc,(h.nm.add hq).below hb,⟨List.mem_cons_of_mem _ m1,List.mem_cons_of_mem _ m2,List.mem_cons_of_mem _ m3,List.mem_cons_of_mem _ m4⟩,?_,h1.pr,h1.np,h1.gl,h1.small,h1.few⟩
 intro x hx
 rcases List.mem_cons.1 hx with rfl | hx
 ·exact hl
 ·exact h1.old x hx
theorem Qay {A:Ad} {text:ByteArray} {σ:St} (at':Nat) {w:World} (h:Rd A text σ w) :
  Calls Tryz.prog 89 #[.pointer (some ⟨A.R,0,none⟩),.int .i64 at'] w (QC [A.R,A.S,A.N] A text w (Q1o text at' σ)):=by
 have hmf:∀ (fn:Fn) (first cap:Array Value) (w:World),(Instr.makeFunc fn first cap).run Tryz.prog w = .ok (.func fn first cap) w:=fun _ _ _ _=>rfl
 have hr0:=h.own (.cells #[.pointer (some ⟨A.R,0,none⟩)] 101)
 have hv0:=Qi (w:=w) (o:=.cells #[.pointer (some ⟨A.R,0,none⟩)] 101) rfl
 obtain ⟨l1,l2,l3,l4⟩:=h.lt
 have c0:=QD hv0
 go_enter Tryz.func89,Tryz.ntmps89
 go_wp2_with fail
 refine (Qef (Same.add A _) at' hr0).mono ?_
 rintro e w1 ⟨hk1,⟨u,σ1,hx1,rfl,hr1⟩ | ⟨f,hx1,b,hbb,rfl,hcell⟩⟩
 rotate_left
 ·exact Qb (QC.throws (((Qa.refl _ w).alloc _).trans (hk1.mono (by simp))) ((Qa.refl [] w).alloc _) (Qq hx1) hbb hcell)
 have hK1:Qa [A.R,A.S,A.N] w w1:=((Qa.refl _ w).alloc _).trans (hk1.mono (by simp))
 have hv1:=(hk1.block _ (Qc hv0) (by simp;omega)).trans hv0
 have c1:=QD hv1
 clear hk1 hr0 hv0 c0
 go_wp2_with fail
 refine (Q8T (Same.add A _) hr1).mono ?_
 rintro e w2 ⟨hk2,⟨n,σ2,hx2,rfl,hr2⟩ | ⟨f,hx2,b,hbb,rfl,hcell⟩⟩
 rotate_left
 ·exact Qb (QC.throws (hK1.trans (hk2.mono (by simp))) hK1 ((Qg hx1).trans (Qq hx2)) hbb hcell)
 have hK2:=hK1.trans (hk2.mono (M':=[A.R,A.S,A.N]) (by simp))
 have hv2:=(hk2.block _ (Qc hv1) (by simp;omega)).trans hv1
 have hlt2:=Qc hv2
 clear hk2 hK1 hr1 hv1 c1
 dsimp only [Q1x]
 go_wp2_with fail
 obtain ⟨W3,hW3⟩:∃ W3,W3=(w2.alloc (.cells #[.string ⟨n.1.toArray⟩,.int .i64 n.2,.slice none 0 0] 282)).alloc (.cells #[.pointer (some ⟨w2.heap.size,0,none⟩)] 182):=⟨_,rfl⟩
 rw [← hW3]
 have hs1:(w2.alloc (.cells #[.string ⟨n.1.toArray⟩,.int .i64 n.2,.slice none 0 0] 282)).heap.size=w2.heap.size + 1:=by simp
 have hr3:=(hr2.own (.cells #[.string ⟨n.1.toArray⟩,.int .i64 n.2,.slice none 0 0] 282)).own (.cells #[.pointer (some ⟨w2.heap.size,0,none⟩)] 182)
 rw [hs1,← hW3] at hr3
 have hs3:W3.heap.size=w2.heap.size + 2:=by rw [hW3];simp
 have hk3:Qa [] w2 W3:=by rw [hW3];exact ((Qa.refl [] w2).alloc _).alloc _
 have hD3:W3.heap[w2.heap.size]? = some (.cells #[.string ⟨n.1.toArray⟩,.int .i64 n.2,.slice none 0 0] 282):=by
  rw [hW3]
  exact (((Qa.refl [] _).alloc _).block _ (by rw [hs1];omega) (by simp)).trans (Qi rfl)
 have hd3:W3.heap[w2.heap.size + 1]? = some (.cells #[.pointer (some ⟨w2.heap.size,0,none⟩)] 182):=by
  rw [hW3]
  exact Qi hs1.symm
 have hv3:=(hk3.block _ hlt2 (by simp)).trans hv2
 have hK3:=hK2.trans (hk3.mono (M':=[A.R,A.S,A.N]) (by simp))
 refine (Q61 _).mono ?_
 rintro e w4 ⟨q,bx,rfl,hq,hbx,hqb,hI,hb4,hx4⟩
 have hlq:q < w4.heap.size:=by
  obtain ⟨_,_,_,hm⟩:=id hI
  exact Qc hm
 have hlx:=Qc hx4
 have hr4:=hr3.take hb4 hq hlq
 have hk4:Qa [] W3 w4:=Qa.of_below [] hb4
 have hz:=hk4.size
 have hv4:=(hk4.block _ (Qc hv3) (by simp)).trans hv3
 have hD4:=(hk4.block _ (Qc hD3) (by simp)).trans hD3
 have hd4:=(hk4.block _ (Qc hd3) (by simp)).trans hd3
 have hK4:=hK3.trans (hk4.mono (M':=[A.R,A.S,A.N]) (by simp))
 have ca:=(Qa.refl [] w4).alloc (.cells #[(Qr q bx).v] 270)
 have hw2:=hK2.size
 have hM:Q2U A text w ⟨w2.heap.size,w.heap.size,w2.heap.size + 1,w4.heap.size,q,bx⟩ n [] [w4.heap.size,q,w2.heap.size + 1,w2.heap.size,w.heap.size] [] (.slice none 0 0) σ2 (w4.alloc (.cells #[(Qr q bx).v] 270)):=by
  have hv5:=(ca.block _ (Qc hv4) (by simp)).trans hv4
  have hD5:=(ca.block _ (Qc hD4) (by simp)).trans hD4
  have hd5:=(ca.block _ (Qc hd4) (by simp)).trans hd4
  refine ⟨hK4.alloc _,hr4.own _,?_,?_,?_,?_,?_,?_,hD5,hv5,hd5,Qi rfl,⟨rfl,Or.inl ⟨rfl,rfl⟩⟩⟩
  ·intro b hb
   simp [StAd.list] at hb ⊢
   omega
  ·simp [StAd.list]
   omega
  ·intro y hy
   simp at hy
   omega
  ·intro g hg
   cases hg
  ·have hI':Q0m q [] w4:=hI
   exact hI'.keeps ca (by simp)
  ·intro p hp
   simp only [Qr,List.mem_singleton] at hp
   subst hp
   refine ⟨(ca.block _ hlx (by simp)).trans hx4,?_⟩
   simp [Ad.plus]
   refine ⟨by omega,by omega,by omega,by omega,by omega,?_⟩
   intro hm
   have:=h.old _ hm
   omega
 have c5:=QD hM.vr
 have d5:=QD hM.vd
 have HM:=Hid.mk hM
 clear hM hr4 hv4 hD4 hd4 hK4 ca hr3 hW3 hk3 hD3 hd3 hv3 hK3 hI hx4 hk4 hb4 hr2 hv2
 dsimp only [Q0e.v,Qr] at c5 d5 ⊢
 go_wp2_with fail
 have HJ:stJ A text w ⟨w2.heap.size,w.heap.size,w2.heap.size + 1,w4.heap.size,q,bx⟩ n 0 [w4.heap.size,q,w2.heap.size + 1,w2.heap.size,w.heap.size] ([],[]) σ2 (w4.alloc (.cells #[(Qr q bx).v] 270)):=⟨rfl,_,HM.out⟩
 refine (Q7l 12 (Qiw h ⟨w2.heap.size,w.heap.size,w2.heap.size + 1,w4.heap.size,q,bx⟩ n) (by omega) HJ).mono ?_
 rintro e w6 (⟨Y6,⟨ds,t6⟩,σ6,hx6,rfl,k6,hk6,hlen,sl,hM6⟩ | ⟨f,hx6,hk6,b,hbb,rfl,hcell⟩)
 rotate_left
 ·exact Qb ⟨hk6,Or.inr ⟨f,(Qg hx1).trans ((Qg hx2).trans (Qq (Q5D hx6))),b,hbb,rfl,hcell⟩⟩
 have c6:=QD hM6.vr
 have M6:=Hid.mk hM6
 clear hM6 c5 d5 HM
 dsimp only at c6
 go_wp2_with fail
 refine (Q08 (Same.plus A Y6) _ M6.out.rd).mono ?_
 rintro e w7 ⟨hk7,⟨x7,σ7,hx7,rfl,hr7⟩ | ⟨f,hx7,b,hbb,rfl,hcell⟩⟩
 rotate_left
 ·exact Qb (QC.throws (M6.out.kp.trans (hk7.mono (by simp))) M6.out.kp ((Qg hx1).trans ((Qg hx2).trans ((Qg (Q42 hx6)).trans (Qq hx7)))) hbb hcell)
 have hM7:=M6.out.scan h hk7 hr7
 have d7:=QD hM7.vd
 have M7:=Hid.mk hM7
 clear hM7 hk7 hr7
 dsimp only at d7
 go_wp2
 go_ret
 exact M7.out.fin h (by have:ds.length=k6:=hlen;omega) ((Qg hx1).trans ((Qg hx2).trans ((Qg (Q42 hx6)).trans (Qg hx7))))
def Q0I (x:Mar.Word):PM (List (List UInt8×Nat×Int)):=fun σ=>
 match look σ.names x.text with
 | some (some (.enum _ _ ms))=>.ok (ms,σ)
 | _=>.error ⟨7,x.at'⟩
theorem Q8c (w:World):(Instr.typeAssert .nilIface 113 180 true).run Tryz.prog w = .ok (.tuple #[.pointer none,.bool false]) w:=by kernel_rfl
theorem QcJ (p:Value) (w:World):(Instr.typeAssert (.iface 180 p) 113 180 true).run Tryz.prog w = .ok (.tuple #[p,.bool true]) w:=by kernel_rfl
theorem Qeg (d:DefL) (p:Value) (w:World) (hd:∀ t a v,d≠.enum t a v):(Instr.typeAssert (.iface (defT d) p) 113 180 true).run Tryz.prog w = .ok (.tuple #[.pointer none,.bool false]) w:=by
 cases d with
 | enum t a v=>exact absurd rfl (hd t a v)
 | typedef d=>kernel_rfl
 | const t a ms=>kernel_rfl
 | struct t a ms=>kernel_rfl
 | union t a s ar=>kernel_rfl
 | prog t a vs n=>kernel_rfl
def Qii (A:Ad) (text:ByteArray) (w:World) (σ:St) (r:Except Mar.Fault (List (List UInt8×Nat×Int)×St)) (e:Ending) (w':World):Prop:=
 Below w.heap.size w w'∧((∃ t a ms b bs,r = .ok (ms,σ)∧e = .returned (.pointer (some ⟨b,0,none⟩))∧Rd A text σ w'∧Q0d bs b (.enum t a ms)∧Held A.X bs w')∨(∃ f,r = .error f∧Q0A w f.no f.at' e w'))
theorem QgJ {A:Ad} {text:ByteArray} {σ:St} (x:Mar.Word) {w:World} (h:Rd A text σ w) :
  Calls Tryz.prog 166 #[.pointer (some ⟨A.R,0,none⟩),Q00 x] w (Qii A text w σ (Q0I x σ)):=by
 have hb0:=((Below.refl w.heap.size w).alloc (Nat.le_refl _) (.cells #[.int .i64 x.kind,.string ⟨x.text.toArray⟩,.int .i64 x.n,.int .i64 x.at'] 110)).drew
 obtain ⟨c0,c1,c2,c3,c4,hfr⟩:=h.cells
 have hlt:=h.lt.1
 have hb:=h.below hb0
 have key:(∃ v,(Instr.lookup 104 (.map (some A.N)) (.string ⟨x.text.toArray⟩) false).run Tryz.prog ((w.alloc (.cells #[.int .i64 x.kind,.string ⟨x.text.toArray⟩,.int .i64 x.n,.int .i64 x.at'] 110)).drew) = .ok v ((w.alloc (.cells #[.int .i64 x.kind,.string ⟨x.text.toArray⟩,.int .i64 x.n,.int .i64 x.at'] 110)).drew) ∧
    (∀ W,(Instr.typeAssert v 113 180 true).run Tryz.prog W = .ok (.tuple #[.pointer none,.bool false]) W)∧Q0I x σ = .error ⟨7,x.at'⟩) ∨
   (∃ (b:Nat) (t:List UInt8) (a:Nat) (ms:List (List UInt8×Nat×Int)) (bs:List (Nat×Obj)),(Instr.lookup 104 (.map (some A.N)) (.string ⟨x.text.toArray⟩) false).run Tryz.prog ((w.alloc (.cells #[.int .i64 x.kind,.string ⟨x.text.toArray⟩,.int .i64 x.n,.int .i64 x.at'] 110)).drew) = .ok (.iface 180 (.pointer (some ⟨b,0,none⟩))) ((w.alloc (.cells #[.int .i64 x.kind,.string ⟨x.text.toArray⟩,.int .i64 x.n,.int .i64 x.at'] 110)).drew) ∧
    Held A.X bs ((w.alloc (.cells #[.int .i64 x.kind,.string ⟨x.text.toArray⟩,.int .i64 x.n,.int .i64 x.at'] 110)).drew)∧Q0d bs b (.enum t a ms)∧Q0I x σ = .ok (ms,σ)):=by
  rcases Q59 hb.nm x.text false with ⟨hl,hrun⟩ | ⟨o,v,bs,hl,hh,hent,hrun⟩
  ·simp only [Bool.false_eq_true,if_false] at hrun
   exact Or.inl ⟨_,hrun,Q8c,by simp only [Q0I,hl]⟩
  ·simp only [Bool.false_eq_true,if_false] at hrun
   cases o with
   | none=>
    have hv:v = .nilIface:=hent
    subst hv
    exact Or.inl ⟨_,hrun,Q8c,by simp only [Q0I,hl]⟩
   | some d=>
    obtain ⟨b,rfl,hd⟩:=hent
    by_cases hc:∃ t a n,d = .enum t a n
    ·obtain ⟨t,a,n,rfl⟩:=hc
     exact Or.inr ⟨b,t,a,n,bs,hrun,hh,hd,by simp only [Q0I,hl]⟩
    ·refine Or.inl ⟨_,hrun,fun W=>Qeg d _ W (fun t a n e=>hc ⟨t,a,n,e⟩),?_⟩
     cases d with
     | enum t a n=>exact absurd ⟨t,a,n,rfl⟩ hc
     | typedef d=>simp only [Q0I,hl]
     | const t a ms=>simp only [Q0I,hl]
     | struct t a ms=>simp only [Q0I,hl]
     | union t a sl ar=>simp only [Q0I,hl]
     | prog t a vs n=>simp only [Q0I,hl]
 rcases key with ⟨v,hrun,hta,e1⟩ | ⟨b,t,a,ms,bs,hrun,hheld,hdef,e1⟩
 ·have HE:=Hid.mk e1
  have HB:=Hid.mk hb0
  clear e1 hb hb0
  dsimp only [Q00]
  go_enter Tryz.func166,Tryz.ntmps166
  go_wp2
  go_region
  go_wp2_with (go_at_call 47;refine (Q0T _ _ _).mono ?_;rintro e w' ⟨rfl,rfl⟩)
  refine Qb ⟨?_,Or.inr ⟨⟨7,x.at'⟩,HE.out,w.heap.size + 1,by omega,rfl,Qi (w:=w.alloc _) (by simp)⟩⟩
  exact (((Below.refl w.heap.size w).alloc (Nat.le_refl _) _).alloc (by simp) _).drew
 ·have HE:=Hid.mk e1
  have hta:=fun p=>QcJ p
  have HB:=Hid.mk hb
  have HB0:=Hid.mk hb0
  have HH:=Hid.mk hheld
  have HD:=Hid.mk hdef
  clear e1 hb hb0 hheld hdef
  dsimp only [Q00]
  go_enter Tryz.func166,Tryz.ntmps166
  go_wp2
  go_region
  go_wp2
  go_ret
  exact ⟨HB0.out,Or.inl ⟨t,a,ms,b,bs,HE.out,rfl,HB.out,HD.out,HH.out⟩⟩
def Q3n (ms:List (List UInt8×Nat×Int)) (n:Int):Bool:=ms.any fun m=>m.2.2 == n
theorem Qfv {ms:List (List UInt8×Nat×Int)} {n:Int} {i:Nat} (h:i < ms.length) (he:ms[i].2.2=n):Q3n ms n=true:=by
 unfold Q3n
 rw [List.any_eq_true]
 exact ⟨ms[i],List.getElem_mem h,by simp [he]⟩
theorem Qeh {ms:List (List UInt8×Nat×Int)} {n:Int} (h:∀ i (hi:i < ms.length),ms[i].2.2≠n):Q3n ms n=false:=by
 unfold Q3n
 rw [List.any_eq_false]
 intro m hm
 obtain ⟨i,hi,rfl⟩:=List.getElem_of_mem hm
 simp
 exact h i hi
theorem Qbr {w:World} {g:Nat} {cur:Array Value} {T:TypeId} {xs:List Value} (hg:w.heap[g]? = some (.cells cur T)) (ht:cur.toList.take xs.length=xs) {i:Nat} (hi:i < xs.length):w.cell? ⟨g,i,none⟩=some xs[i]:=by
 have h1:cur.toList[i]? = some xs[i]:=by
  have h2:(cur.toList.take xs.length)[i]? = some xs[i]:=by rw [ht];simp [hi]
  rw [List.getElem?_take_of_lt hi] at h2
  exact h2
 have h2:cur[i]? = some xs[i]:=by simpa using h1
 simp [World.cell?,hg,h2]
theorem QhF {X:List Nat} {bs:List (Nat×Obj)} {b a:Nat} {t:List UInt8} {ms:List (List UInt8×Nat×Int)} (n:Int) {w:World} (hd:Q0d bs b (.enum t a ms)) (hh:Held X bs w) :
  Calls Tryz.prog 167 #[.pointer (some ⟨b,0,none⟩),.int .i64 n] w fun e w'=>e = .returned (.bool (Q3n ms n))∧w'=w:=by
 obtain ⟨sl,ps,hb,hlen,hsl,hc⟩:=hd
 obtain ⟨k0,k1,k2,_⟩:=Q0h (hh _ hb).1
 rcases hsl with ⟨rfl,h0,_⟩ | ⟨g,cap,cur,rfl,⟨hcap,hms⟩,hg,htake⟩
 ·have hnil:ms=[]:=List.length_eq_zero_iff.1 h0
  subst hnil
  go_enter Tryz.func167,Tryz.ntmps167
  go_wp2
  go_loopw [12] (fun i ur=>i = .int .i64 0∧ur=w) (fun _ _=>0)
  case atStart=>exact ⟨rfl,rfl⟩
  case round=>
   obtain ⟨rfl,rfl⟩:=hrel
   go_wp2
   go_ret
   exact ⟨rfl,rfl⟩
 ·have hgb:=(hh _ hg).1
  have hrow:∀ i (hi:i < ms.length),∃ q:Nat,w.cell? ⟨g,i,none⟩=some (.pointer (some ⟨q,0,none⟩))∧w.cell? ⟨q,2,none⟩=some (.int .i64 ms[i].2.2):=by
   intro i hi
   have hi':i < ps.length:=by omega
   have h1:=Qbr hgb htake (i:=i) (by simpa using hi')
   rw [List.getElem_map] at h1
   have h2:=(hh _ (hc i hi hi')).1
   obtain ⟨_,_,z2,_⟩:=Q0h h2
   exact ⟨ps[i],h1,z2⟩
  have HR:=Hid.mk hrow
  clear hrow
  go_enter Tryz.func167,Tryz.ntmps167
  go_wp2
  go_loopw [12,6] (fun i m ur=>∃ k:Nat,i = .int .i64 k∧ur=w∧k≤ms.length∧∀ j (hj:j < ms.length),j < k→ms[j].2.2≠n) (fun i _ _=>ms.length - (intOf i).toNat)
  case atStart=>exact ⟨0,rfl,rfl,by omega,by intro j hj h;omega⟩
  case round=>
   obtain ⟨k,rfl,rfl,hk,hno⟩:=hrel
   rcases Nat.lt_or_ge k ms.length with hlt | hge
   ·obtain ⟨q,hq1,hq2⟩:=HR.out k hlt
    have hi0:(0:Int)≤↑k:=by omega
    have hi1:(↑k:Int) < ↑ms.length:=by omega
    have HN:=Hid.mk hno
    clear hno
    by_cases he:ms[k].2.2=n
    ·have he':(ms[k].2.2 == n)=true:=by simp [he]
     have HT:=Hid.mk (Qfv hlt he)
     go_wp2
     go_ret
     exact ⟨by rw [HT.out];rfl,rfl⟩
    ·have he':(ms[k].2.2 == n)=false:=by simpa using he
     go_wp2
     refine ⟨⟨k + 1,by go_num,trivial,by omega,?_⟩,by simp [intOf];omega⟩
     intro j hj hjk
     rcases Nat.lt_or_ge j k with h | h
     ·exact HN.out j hj h
     ·have:j=k:=by omega
      subst this
      exact he
   ·have hkk:k=ms.length:=by omega
    subst hkk
    have HF:=Hid.mk (Qeh fun i hi=>hno i hi hi)
    clear hno
    go_wp2
    go_ret
    exact ⟨by rw [HF.out];rfl,rfl⟩
def selK (text:ByteArray) (x:Mar.Word):PM (Ty×(Int→Bool)):=
 if ((x.kind:Int) == 1) then bnd (Q0I x) fun ms=>ret (.named x.text x.at',Q3n ms)
 else if x.text == [105,110,116] then ret (.plain 0,Q14 (-2147483648) 2147483647)
 else if x.text == [117,110,115,105,103,110,101,100] then bnd (Q0B text [105,110,116]) fun _=>ret (.plain 1,Q14 0 4294967295)
 else if x.text == [98,111,111,108] then ret (.plain 4,Q14 0 1)
 else thr 3 x.at'
def Q1Z (text:ByteArray):PM (Ty×(Int→Bool)):=bnd (next text) (selK text)
theorem sk1 {text:ByteArray} {x:Mar.Word} (h1:((x.kind:Int) == 1)=true):selK text x=bnd (Q0I x) fun ms=>ret (.named x.text x.at',Q3n ms):=by unfold selK;rw [if_pos h1]
theorem sk2 {text:ByteArray} {x:Mar.Word} (h1:((x.kind:Int) == 1)=false) (h2:(x.text == [105,110,116])=true):selK text x=ret (.plain 0,Q14 (-2147483648) 2147483647):=by unfold selK;simp only [h1,h2,Bool.false_eq_true,if_false,if_true]
theorem sk3 {text:ByteArray} {x:Mar.Word} (h1:((x.kind:Int) == 1)=false) (h2:(x.text == [105,110,116])=false) (h3:(x.text == [117,110,115,105,103,110,101,100])=true) :
  selK text x=bnd (Q0B text [105,110,116]) fun _=>ret (.plain 1,Q14 0 4294967295):=by unfold selK;simp only [h1,h2,h3,Bool.false_eq_true,if_false,if_true]
theorem sk4 {text:ByteArray} {x:Mar.Word} (h1:((x.kind:Int) == 1)=false) (h2:(x.text == [105,110,116])=false) (h3:(x.text == [117,110,115,105,103,110,101,100])=false) (h4:(x.text == [98,111,111,108])=true) :
  selK text x=ret (.plain 4,Q14 0 1):=by unfold selK;simp only [h1,h2,h3,h4,Bool.false_eq_true,if_false,if_true]
theorem sk5 {text:ByteArray} {x:Mar.Word} (h1:((x.kind:Int) == 1)=false) (h2:(x.text == [105,110,116])=false) (h3:(x.text == [117,110,115,105,103,110,101,100])=false) (h4:(x.text == [98,111,111,108])=false) :
  selK text x=thr 3 x.at':=by unfold selK;simp only [h1,h2,h3,h4,Bool.false_eq_true,if_false]
def Q2w (A:Ad) (text:ByteArray) (w:World) (r:Except Mar.Fault ((Ty×(Int→Bool))×St)) (e:Ending) (w':World):Prop:=
 Qa [A.S] w w'∧((∃ q σ' v,r = .ok (q,σ')∧e = .returned (.tuple #[tyV q.1,v])∧Rd A text σ' w'∧Fits A.X v q.2 w')∨(∃ f,r = .error f∧Q0A w f.no f.at' e w'))
theorem Q2w.ok {A:Ad} {text:ByteArray} {w w':World} {r:Except Mar.Fault ((Ty×(Int→Bool))×St)} {ty:Ty} {p:Int→Bool} {σ':St} {v:Value}
  (hk:Qa [A.S] w w') (hr:r = .ok ((ty,p),σ')) (h:Rd A text σ' w') (hf:Fits A.X v p w'):Q2w A text w r (.returned (.tuple #[tyV ty,v])) w':=⟨hk,Or.inl ⟨(ty,p),σ',v,hr,rfl,h,hf⟩⟩
theorem Q2w.throws {A:Ad} {M':List Nat} {text:ByteArray} {w w1 w':World} {r:Except Mar.Fault ((Ty×(Int→Bool))×St)} {f:Mar.Fault} {b:Nat}
  (hk:Qa [A.S] w w') (hk1:Qa M' w w1) (hr:r = .error f) (hb:w1.heap.size≤b) (hc:w'.heap[b]? = some (.cells #[.int .i64 f.no,.int .i64 f.at'] 83)) :
  Q2w A text w r (.panicked [{ v:=.iface 79 (.pointer (some ⟨b,0,none⟩)),recovered:=false }]) w':=⟨hk,Or.inr ⟨f,hr,b,Nat.le_trans hk1.size hb,rfl,hc⟩⟩
theorem Qei (args:Array Value) (u:World):(callFunc 167 args).run Tryz.prog u = .ok (.enter 167 args) u:=by kernel_rfl
theorem Qfw {X:List Nat} {bs:List (Nat×Obj)} {b a:Nat} {t:List UInt8} {ms:List (List UInt8×Nat×Int)} {w:World} (hd:Q0d bs b (.enum t a ms)) (hh:Held X bs w) :
  Fits X (.func (.func 167) #[.pointer (some ⟨b,0,none⟩)] #[]) (Q3n ms) w:=by
 refine ⟨bs,_,_,_,rfl,hh,Qei,fun W hW n=>?_⟩
 refine (QhF n hd hW).mono ?_
 rintro e w' ⟨rfl,rfl⟩
 exact ⟨rfl,Below.refl _ _⟩
theorem Q2I {b:Nat} {k t a c:Value} {T:TypeId} {w:World} (h:w.heap[b]? = some (.cells #[k,t,a,c] T)) :
  w.cell? ⟨b,0,none⟩=some k∧w.cell? ⟨b,1,none⟩=some t∧w.cell? ⟨b,2,none⟩=some a∧w.cell? ⟨b,3,none⟩=some c:=by
 refine ⟨?_,?_,?_,?_⟩<;>simp [World.cell?,h]
theorem Qbs {A:Ad} {text:ByteArray} {σ:St} {w:World} (h:Rd A text σ w) :
  Calls Tryz.prog 131 #[.pointer (some ⟨A.R,0,none⟩)] w (Q2w A text w (Q1Z text σ)):=by
 have hmf:∀ (fn:Fn) (first cap:Array Value) (w:World),(Instr.makeFunc fn first cap).run Tryz.prog w = .ok (.func fn first cap) w:=fun _ _ _ _=>rfl
 obtain ⟨c0,c1,c2,c3,c4,hfr⟩:=h.cells
 have HC:=Hid.mk (Q2Q h)
 go_enter Tryz.func131,Tryz.ntmps131
 go_wp2_with fail
 refine HC.out.mono ?_
 rintro e w1 ⟨hk,⟨x,σ',hx,rfl,hr⟩ | ⟨f,hx,b,hbb,rfl,hcell⟩⟩
 rotate_left
 ·exact Qb (Q2w.throws hk (Qa.refl [] _) (Qq hx) hbb hcell)
 have HK:=Hid.mk hk
 have Hx:=Hid.mk hx
 have HR:=Hid.mk (hr.below ((Below.refl _ _).alloc (Nat.le_refl _) (.cells #[.int .i64 x.kind,.string ⟨x.text.toArray⟩,.int .i64 x.n,.int .i64 x.at'] 110)))
 have hv:=Qi (w:=w1) (o:=.cells #[.int .i64 x.kind,.string ⟨x.text.toArray⟩,.int .i64 x.n,.int .i64 x.at'] 110) rfl
 have HV:=Hid.mk hv
 have HO:=Hid.mk hr.old
 clear hk hx hr hv HC
 dsimp only [Q00]
 go_wp2_with (first
  | (go_at_call 47;refine (Q0T _ _ _).mono ?_;rintro e w' ⟨rfl,rfl⟩)
  | (go_at_call 123;refine (Q2R _ _ _).mono ?_;rintro e w3 ⟨v3,rfl,hb3,hf3⟩)
  | (go_at_call 126;refine (Q49 _ HR.out).mono ?_;rintro e w2 ⟨hk2,⟨y2,σ2,hx2,rfl,hr2⟩ | ⟨f,hx2,b,hbb,rfl,hcell⟩⟩))
 ·have h1:((x.kind:Int) == 1)=true:=‹_›
  obtain ⟨z0,z1,z2,z3⟩:=Q2I HV.out
  have hlv:=Qc HV.out
  go_region_held2 (fun w'=>w'.cell? ⟨w1.heap.size,0,none⟩=some (.int .i64 x.kind)∧w'.cell? ⟨w1.heap.size,1,none⟩=some (.string ⟨x.text.toArray⟩)∧w'.cell? ⟨w1.heap.size,2,none⟩=some (.int .i64 x.n)∧w'.cell? ⟨w1.heap.size,3,none⟩=some (.int .i64 x.at')) (go_keep)
   (first
    | (go_at_call 156;refine (Q6H x _).mono ?_;rintro e w2 ⟨rfl,hb2⟩;have hv2:=(hb2.block _ hlv).trans HV.out;obtain ⟨y0,y1,y2,y3⟩:=Q2I hv2;have hl2:=Qc hv2;have HR2:=Hid.mk ((HR.out.below (Below.refl _ _).drew).below hb2);have HK2:=Hid.mk ((HK.out.alloc _).drew.trans (Qa.of_below _ hb2));clear hb2)
    | (go_at_call 166;refine (QgJ x HR2.out).mono ?_;rintro e w3 ⟨hb3,⟨t3,a3,ms,b3,bs,hx3,rfl,hr3,hd3,hh3⟩ | ⟨f,hx3,b,hbb,rfl,hcell⟩⟩;rotate_left;exact Qb (Q2w.throws (HK2.out.trans (Qa.of_below _ hb3)) HK2.out ((Qg Hx.out).trans (by rw [sk1 h1];exact Qq hx3)) hbb hcell);have hv3:=(hb3.block _ hl2).trans hv2;obtain ⟨q0,q1,q2,q3⟩:=Q2I hv3;have HK3:=Hid.mk (HK2.out.trans (Qa.of_below _ hb3));have HR3:=Hid.mk hr3;clear hb3 hr3))
  all_goals
   go_wp2
   go_ret2
   exact Q2w.ok (ty:=.named x.text x.at') HK3.out ((Qg Hx.out).trans (by rw [sk1 h1];exact Qg hx3)) HR3.out (Qfw hd3 hh3)
 ·go_ret2
  exact Q2w.ok (ty:=.plain 0) ((HK.out.alloc _).trans (Qa.of_below _ hb3)) ((Qg Hx.out).trans (by rw [sk2 ‹_› ‹_›];rfl)) (HR.out.below hb3) (hf3 _ HR.out.old)
 ·go_ret2
  exact Q2w.ok (ty:=.plain 1) (((HK.out.alloc _).trans hk2).trans (Qa.of_below _ hb3)) ((Qg Hx.out).trans (by rw [sk3 ‹_› ‹_› ‹_›];exact Qg hx2)) (hr2.below hb3) (hf3 _ hr2.old)
 ·exact Qb (Q2w.throws ((HK.out.alloc _).trans hk2) (HK.out.alloc _) ((Qg Hx.out).trans (by rw [sk3 ‹_› ‹_› ‹_›];exact Qq hx2)) hbb hcell)
 ·go_ret2
  exact Q2w.ok (ty:=.plain 4) ((HK.out.alloc _).trans (Qa.of_below _ hb3)) ((Qg Hx.out).trans (by rw [sk4 ‹_› ‹_› ‹_› ‹_›];rfl)) (HR.out.below hb3) (hf3 _ HR.out.old)
 ·exact Qb (Q2w.throws (M':=[A.S]) (w1:=w1) (f:=⟨3,x.at'⟩) ((HK.out.alloc _).alloc _) HK.out ((Qg Hx.out).trans (by rw [sk5 ‹_› ‹_› ‹_› ‹_›];rfl)) (by omega) (Qi (by simp)))
theorem QdI:(Tryz.prog.info? 2).map (fun i=>(i.zero,i.size,i.bytes))=some (some (.int .i64 0),1,8):=by kernel_rfl
def Q1m (text:ByteArray) (p:Int→Bool):Nat→List Int→PX (List (Int×Int)) (List Int)
 | 0,_=>lift (thr 0 0)
 | k + 1,cs=>bndx (lift (QS text [99,97,115,101])) fun x l=>bndx (lift (Q0P l.length 12 x.at')) (fun _=>bndx (number text p) fun n=>bndx (lift (QS text [58])) fun _=>
   bndx (lift (sees text [99,97,115,101])) fun y=>if y then Q1m text p k (cs++[n]) else retx (cs++[n])) l
def cases (text:ByteArray) (p:Int→Bool):PX (List (Int×Int)) (List Int):=Q1m text p 13 []
theorem Fits.grow {X:List Nat} {v:Value} {p:Int→Bool} {u u':World} {row:Option Nat} {g:Nat} (h:Fits X v p u) (hg:u.grownBy u' row) (hr:∀ b,row=some b→b∈X) (hat:row=some g∨g=u.heap.size):Fits (g :: X) v p u':=by
 obtain ⟨bs,f,pre,post,h1,h2,h3,h4⟩:=h
 exact ⟨bs,f,pre,post,h1,h2.grow hg hr hat,h3,fun W hW=>h4 W (hW.sub fun _ hx=>List.mem_cons_of_mem _ hx)⟩
structure Q2o (A:Ad) (text:ByteArray) (w:World) (q:Nat) (v:Value) (p:Int→Bool) (cs:List Int) (Y:List Nat) (l:List (Int×Int)) (sl:Value) (σ:St) (u:World):Prop where
 kp:Qa [A.S,q] w u
 rd:Rd (A.plus Y) text σ u
 new:∀ y∈Y,w.heap.size≤y
 own:∀ g,sl.ownBlock=some g→g∈Y
 nums:QV q l u
 fit:Fits (A.plus Y).X v p u
 row:u.ownsRow w.heap.size 2 1 sl cs.length (cs.map fun n=>Value.int .i64 n)
theorem Q2o.slice {A:Ad} {text:ByteArray} {w u:World} {q:Nat} {v:Value} {p:Int→Bool} {cs:List Int} {Y:List Nat} {l:List (Int×Int)} {sl:Value} {σ:St} (m:Q2o A text w q v p cs Y l sl σ u):∃ ad cap,sl = .slice ad cs.length cap:=by
 rcases m.row.2 with ⟨rfl,h⟩ | ⟨g,cap,cur,rfl,_⟩
 ·exact ⟨none,0,by rw [h]⟩
 ·exact ⟨_,_,rfl⟩
theorem Q2o.free {A:Ad} {text:ByteArray} {w u:World} {q:Nat} {v:Value} {p:Int→Bool} {cs:List Int} {Y:List Nat} {l:List (Int×Int)} {sl:Value} {σ:St} (hq:Free A q) (_m:Q2o A text w q v p cs Y l sl σ u):Free (A.plus Y) q:=
 ⟨List.mem_append_right _ hq.1,hq.2.1,hq.2.2.1,hq.2.2.2.1,hq.2.2.2.2⟩
theorem Q2o.scan {A:Ad} {text:ByteArray} {w u u':World} {q:Nat} {v:Value} {p:Int→Bool} {cs:List Int} {Y:List Nat} {l:List (Int×Int)} {sl:Value} {σ σ' σ0:St} (h0:Rd A text σ0 w) (hq:Free A q) (m:Q2o A text w q v p cs Y l sl σ u) (hk:Qa [A.S] u u') (hr:Rd (A.plus Y) text σ' u') :
  Q2o A text w q v p cs Y l sl σ' u':=by
 obtain ⟨l1,l2,l3,l4⟩:=h0.lt
 refine ⟨m.kp.trans (hk.mono (by simp)),hr,m.new,m.own,m.nums.keeps hk (by simp;exact hq.2.2.1),m.fit.keeps hk (by intro x hx;simp only [List.mem_singleton] at hx;subst hx;exact hr.mine.2.1),Qx m.row hk ?_⟩
 intro g hg
 have:=m.new _ (m.own g hg)
 simp;omega
theorem Q2o.below {A:Ad} {text:ByteArray} {w u u':World} {q:Nat} {v:Value} {p:Int→Bool} {cs:List Int} {Y:List Nat} {l:List (Int×Int)} {sl:Value} {σ:St} (m:Q2o A text w q v p cs Y l sl σ u) (hb:Below u.heap.size u u'):Q2o A text w q v p cs Y l sl σ u':=by
 have hk:=Qa.of_below [] hb
 exact ⟨m.kp.trans (hk.mono (by simp)),m.rd.below hb,m.new,m.own,m.nums.keeps hk (by simp),m.fit.keeps hk (by simp),Qx m.row hk (by simp)⟩
theorem Q2o.step {A:Ad} {text:ByteArray} {w u u1 u2 u3:World} {q g cap:Nat} {v:Value} {p:Int→Bool} {cs:List Int} {Y:List Nat} {l l':List (Int×Int)} {sl:Value} {σ σ' σ0:St} {n:Int} (h0:Rd A text σ0 w) (hq:Free A q)
  (e:Q2o A text w q v p cs Y l sl σ u) (hk:Qa [A.S,q] u u1) (hr:Rd (A.plus Y) text σ' u1) (hn:QV q l' u1) (hb:Below u1.heap.size u1 u2)
  (hown:u3.ownsRow w.heap.size 2 1 (.slice (some ⟨g,0,none⟩) (cs.length + 1) cap) (cs.length + 1) ((cs.map fun n=>Value.int .i64 n)++[.int .i64 n]))
  (hg:u2.grownBy u3 sl.ownBlock) (hat:sl.ownBlock=some g∨g=u2.heap.size) (hlt:g < u3.heap.size) :
  Q2o A text w q v p (cs++[n]) (g :: Y) l' (.slice (some ⟨g,0,none⟩) (cs.length + 1) cap) σ' u3:=by
 obtain ⟨hwg,_⟩:=Q2p hown (g:=g) rfl
 have hrow:∀ b,sl.ownBlock=some b→w.heap.size≤b∧b∈(A.plus Y).X:=fun b hb=>⟨e.new _ (e.own b hb),List.mem_append_left _ (e.own b hb)⟩
 have hkg:=Q0t hg
 have hkb:Qa [] u1 u2:=Qa.of_below _ hb
 have lq:=h0.old _ hq.1
 have hX:∀ m∈[A.S,q],m∈(A.plus Y).X:=by
  intro x hx
  simp at hx
  rcases hx with rfl | rfl
  ·exact hr.mine.2.1
  ·exact List.mem_append_right _ hq.1
 refine ⟨?_,Rd.grow h0 (Same.plus A Y) (hr.below hb) hg hrow hat hlt,?_,?_,?_,?_,?_⟩
 ·refine ((e.kp.trans hk).young hkb (by simp)).young hkg ?_
  intro m hm
  exact Or.inr (hrow m (by simpa using hm)).1
 ·intro y hy
  rcases List.mem_cons.1 hy with rfl | hy
  ·exact hwg
  ·exact e.new y hy
 ·intro g' h'
  simp only [Value.ownBlock,Option.some.injEq] at h'
  subst h'
  exact List.mem_cons_self
 ·refine (hn.keeps hkb (by simp)).keeps hkg ?_
  intro hm
  have:=(hrow q (by simpa using hm)).1
  omega
 ·exact ((e.fit.keeps hk hX).keeps hkb (by simp)).grow hg (fun b hb=>(hrow b hb).2) hat
 ·simpa using hown
def Q2g (A:Ad) (text:ByteArray) (w:World) (q:Nat) (r:Except Mar.Fault (List Int×List (Int×Int)×St)) (e:Ending) (w':World):Prop:=
 Qa [A.S,q] w w'∧((∃ cs l' σ' sl bs,r = .ok (cs,l',σ')∧e = .returned sl∧Rd A text σ' w'∧QV q l' w'∧Q0j bs 2 sl cs.length (cs.map fun n=>Value.int .i64 n)∧Held A.X bs w')∨(∃ f,r = .error f∧Q0A w f.no f.at' e w'))
theorem Q2g.throws {A:Ad} {M':List Nat} {text:ByteArray} {w w1 w':World} {q:Nat} {r:Except Mar.Fault (List Int×List (Int×Int)×St)} {f:Mar.Fault} {b:Nat}
  (hk:Qa [A.S,q] w w') (hk1:Qa M' w w1) (hr:r = .error f) (hb:w1.heap.size≤b) (hc:w'.heap[b]? = some (.cells #[.int .i64 f.no,.int .i64 f.at'] 83)) :
  Q2g A text w q r (.panicked [{ v:=.iface 79 (.pointer (some ⟨b,0,none⟩)),recovered:=false }]) w':=⟨hk,Or.inr ⟨f,hr,b,Nat.le_trans hk1.size hb,rfl,hc⟩⟩
theorem Q2o.fin {A:Ad} {text:ByteArray} {w u:World} {q:Nat} {v:Value} {p:Int→Bool} {cs:List Int} {Y:List Nat} {l:List (Int×Int)} {sl:Value} {σ σ0:St} (h0:Rd A text σ0 w) (m:Q2o A text w q v p cs Y l sl σ u) (hle:cs.length≤12)
  {r:Except Mar.Fault (List Int×List (Int×Int)×St)} (hr:r = .ok (cs,l,σ)):Q2g A text w q r (.returned sl) u:=by
 have far:∀ b,w.heap.size≤b→b ∉ A.X:=fun b hb hm=>by have:=h0.old _ hm;omega
 refine ⟨m.kp,Or.inl ⟨cs,l,σ,sl,?_⟩⟩
 rcases m.row.2 with ⟨rfl,h⟩ | ⟨g,cap,cur,rfl,hg1,hg2,hg3,hg4,hg5,hg6⟩
 ·have:cs=[]:=List.length_eq_zero_iff.1 h
  subst this
  exact ⟨[],hr,rfl,Rd.dropAll h0.mine m.rd,m.nums,Or.inl ⟨rfl,rfl,rfl⟩,by intro p hp;cases hp⟩
 ·refine ⟨[(g,.cells cur 2)],hr,rfl,Rd.dropAll h0.mine m.rd,m.nums,Or.inr ⟨g,cap,cur,rfl,⟨hg3,by omega⟩,by simp,?_⟩,?_⟩
  ·rw [Nat.mul_one] at hg6
   rw [List.length_map]
   exact hg6
  ·intro p hp
   simp only [List.mem_singleton] at hp
   subst hp
   exact ⟨hg2,far _ hg1⟩
def Qb0:Value→Nat
 | .slice _ n _=>n
 | _=>0
def Qbt (text:ByteArray) (p:Int→Bool) (k:Nat) (cs:List Int):PX (List (Int×Int)) (List Int):=bndx (number text p) fun n=>bndx (lift (QS text [58])) fun _=>
   bndx (lift (sees text [99,97,115,101])) fun y=>if y then Q1m text p k (cs++[n]) else retx (cs++[n])
theorem Q6I {text:ByteArray} {p:Int→Bool} {k:Nat} {cs:List Int} {l:List (Int×Int)} {σ:St} {f:Mar.Fault} (h:QS text [99,97,115,101] σ = .error f):Q1m text p (k + 1) cs l σ = .error f:=by
 simp only [Q1m]
 exact Ql (Qv h)
theorem Q6g {text:ByteArray} {p:Int→Bool} {k:Nat} {cs:List Int} {l:List (Int×Int)} {σ σ1:St} {x:Mar.Word} (h:QS text [99,97,115,101] σ = .ok (x,σ1)) (hl:12≤l.length):Q1m text p (k + 1) cs l σ = .error ⟨5,x.at'⟩:=by
 simp only [Q1m]
 exact (Qh (Qj h)).trans (Ql (Qv (show Q0P l.length 12 x.at' σ1=_ from if_pos hl)))
theorem Q7m {text:ByteArray} {p:Int→Bool} {k:Nat} {cs:List Int} {l:List (Int×Int)} {σ σ1:St} {x:Mar.Word} (h:QS text [99,97,115,101] σ = .ok (x,σ1)) (hl:¬ 12≤l.length):Q1m text p (k + 1) cs l σ = Qbt text p k cs l σ1:=by
 simp only [Q1m]
 exact (Qh (Qj h)).trans (Qh (Qj (show Q0P l.length 12 x.at' σ1=_ from if_neg hl)))
theorem Q6J {text:ByteArray} {p:Int→Bool} {l l':List (Int×Int)} {σ σ':St} {n:Int} (h:number text p l σ = .ok (n,l',σ')):l'.length=l.length + 1:=by
 unfold number at h
 cases hv:value text p σ with
 | error f=>rw [Ql (Qv hv)] at h;cases h
 | ok q=>
  obtain ⟨q,σ1⟩:=q
  rw [Qh (Qj hv)] at h
  cases hc:Q2f q.1 q.2 l ⟨6,q.2⟩ with
  | error f=>rw [Ql (Q4v hc)] at h;cases h
  | ok l2=>
   rw [Qh (Q4u hc)] at h
   simp only [retx] at h
   cases h
   unfold Q2f at hc
   split at hc<;>cases hc
   simp
theorem Qbu {q:Nat} {l:List (Int×Int)} {w:World} (h:QV q l w) (ty:TypeId):(Builtin.len_ #[105] ty #[.map (some q)]).run Tryz.prog w = .ok (.int .i64 l.length) w:=by
 have h':w.heap[q]? = some (.map (l.mapIdx fun i p=>(⟨.int .i64 p.1,.int .i64 p.2,i⟩:MapEntry)).toArray l.length):=h
 have:=run_len_map (P:=Tryz.prog) w 105 ty q _ _ (by kernel_rfl) h'
 rw [this]
 simp [goInt]
theorem Qfx {A:Ad} {text:ByteArray} {σ:St} {v:Value} {p:Int→Bool} {q:Nat} {l0:List (Int×Int)} {w:World} (h:Rd A text σ w) (hf:Fits A.X v p w) (hq:Free A q) (hn:QV q l0 w) :
  Calls Tryz.prog 133 #[.pointer (some ⟨A.R,0,none⟩),.map (some q),v] w (Q2g A text w q (cases text p l0 σ)):=by
 obtain ⟨i0,hi0,hz0,hz1,hz2⟩:=info_parts QdI
 have M0:Hid (Q2o A text w q v p [] [] l0 (.slice none 0 0) σ w):=⟨Qa.refl _ _,h,by simp,(by intro g hg;cases hg),hn,hf,⟨rfl,Or.inl ⟨rfl,rfl⟩⟩⟩
 go_enter Tryz.func133,Tryz.ntmps133
 go_wp2
 go_loopw [7,8] (fun sl b u=>∃ (y:Bool) (cs:List Int) (Y:List Nat) (l:List (Int×Int)) (σ':St),b = .bool y∧cs.length≤12∧cs.length≤l.length∧Hid (Q2o A text w q v p cs Y l sl σ' u) ∧
   Hid (cases text p l0 σ = (if y then Q1m text p (13 - cs.length) cs else retx cs) l σ')) (fun sl _ _=>13 - Qb0 sl)
 case atStart=>exact ⟨true,[],[],l0,σ,rfl,by simp,by simp,M0,rfl⟩
 case round=>
  obtain ⟨y,cs,Y,l,σ',rfl,hlen,hll,M,E⟩:=hrel
  obtain ⟨ad,cap,rfl⟩:=M.out.slice
  clear M0
  cases y with
  | false=>
   go_wp2
   go_ret
   exact M.out.fin h hlen E.out
  | true=>
   have EM:Hid (cases text p l0 σ = Q1m text p ((12 - cs.length) + 1) cs l σ'):=by
    have h1:=E.out
    rw [show 13 - cs.length=(12 - cs.length) + 1 by omega] at h1
    exact h1
   clear E
   go_wp2_with fail
   refine (Q08 (Same.plus A Y) _ M.out.rd).mono ?_
   rintro e w5 ⟨hk5,⟨x5,σ5,hx5,rfl,hr5⟩ | ⟨f,hx5,b,hbb,rfl,hcell⟩⟩
   rotate_left
   ·exact (show bodyPost Tryz.prog Tryz.f133 (Q2g A text w q (cases text p l0 σ)) (Exit.panic _) _ w5 from Qb (Q2g.throws (M.out.kp.trans (hk5.mono (by simp))) M.out.kp (EM.out.trans (Q6I hx5)) hbb hcell))
   have M5:=Hid.mk ((M.out.scan h hq hk5 hr5).below ((Below.refl _ _).alloc (Nat.le_refl _) (.cells #[.int .i64 x5.kind,.string ⟨x5.text.toArray⟩,.int .i64 x5.n,.int .i64 x5.at'] 110)))
   have hnl:=Qbu M5.out.nums
   clear hk5 hr5 M
   dsimp only [Q00]
   go_wp2_with fail
   by_cases hfi:12≤l.length
   ·refine (Q3k _ _ _ _ (by omega)).mono ?_
    rintro e w6 ⟨⟨b,hbb,rfl,hcell⟩,hb⟩
    exact (show bodyPost Tryz.prog Tryz.f133 (Q2g A text w q (cases text p l0 σ)) (Exit.panic _) _ w6 from Qb (Q2g.throws (f:=⟨5,x5.at'⟩) (M5.out.kp.trans (Qa.of_below _ hb)) M5.out.kp (EM.out.trans (Q6g hx5 hfi)) hbb hcell))
   refine (Q4t _ _ _ _ (by omega)).mono ?_
   rintro e w6 ⟨rfl,rfl⟩
   have ER:Hid (cases text p l0 σ = Qbt text p (12 - cs.length) cs l σ5):=EM.out.trans (Q7m hx5 hfi)
   clear EM hnl
   go_wp2_with fail
   refine (Qa2 (Same.plus A Y) M5.out.rd M5.out.fit (M5.out.free hq) M5.out.nums).mono ?_
   rintro e w7 ⟨hk7,⟨n,l7,σ7,hx7,rfl,hr7,hn7⟩ | ⟨f,hx7,b,hbb,rfl,hcell⟩⟩
   rotate_left
   ·exact (show bodyPost Tryz.prog Tryz.f133 (Q2g A text w q (cases text p l0 σ)) (Exit.panic _) _ w7 from Qb (Q2g.throws (M5.out.kp.trans hk7) M5.out.kp (ER.out.trans (Ql hx7)) hbb hcell))
   dsimp only [intV]
   have hown5:∀ o,(w7.alloc o).ownsRow w.heap.size 2 1 (.slice ad cs.length cap) cs.length (cs.map fun n=>Value.int .i64 n):=by
    intro o
    refine Qx (Qx M5.out.row hk7 ?_) ((Qa.refl [] w7).alloc o) (by simp)
    intro g hg
    have h1:=M5.out.new _ (M5.out.own g hg)
    have h2:=h.old _ hq.1
    have h3:=h.lt.2.1
    simp;omega
   have hwl:w.heap.size≤w7.heap.size:=Nat.le_trans M5.out.kp.size hk7.size
   have hl1:cs.length + 1≤maxLen:=by unfold maxLen;omega
   have hl2:(cs.length + 1) * 8≤140737488355328:=by omega
   have hz3:(Value.int .i64 0).cells.size=1:=rfl
   have hl7:=Q6J hx7
   have hL:=Hid.mk hll
   clear hll
   go_wp2_with (first
    | (at_builtin;refine wpList_append_lies _ (by rfl) _ _ _ (by rfl) w.heap.size 2 i0 _ 1 8 Tryz.underlying198 hi0 hz0 hz1 hz2 hz3 (by omega) (.slice ad cs.length cap) cs.length (cs.map fun n=>Value.int .i64 n) (by rfl) (hown5 _) ⟨w7.heap.size,0,none⟩ 1 1 [.int .i64 n] (by rfl) (by rfl) (World.news_of_block (cs:=#[.int .i64 n]) (t:=2) (fr:=(0,0)) (heap_alloc_new w7 _)) (by simp [Value.oneCell']) (by omega) hl1 hl2 (by simp;omega) (w7.heap.size + 1) (by simp) ?_;intro g cap' w8 hown8 hgrow hat hlt))
   have M8:=Hid.mk (Q2o.step h hq M5.out hk7 hr7 hn7 ((Below.refl w7.heap.size w7).alloc (Nat.le_refl _) _) hown8 hgrow (by simpa using hat) hlt)
   clear hk7 hr7 hn7 hown8 hgrow hat hlt hown5 M5
   refine (Q08 (Same.plus A (g :: Y)) _ M8.out.rd).mono ?_
   rintro e w9 ⟨hk9,⟨x9,σ9,hx9,rfl,hr9⟩ | ⟨f,hx9,b,hbb,rfl,hcell⟩⟩
   rotate_left
   ·exact (show bodyPost Tryz.prog Tryz.f133 (Q2g A text w q (cases text p l0 σ)) (Exit.panic _) _ w9 from Qb (Q2g.throws (M8.out.kp.trans (hk9.mono (by simp))) M8.out.kp (ER.out.trans ((Qh hx7).trans (Ql (Qv hx9)))) hbb hcell))
   have M9:=Hid.mk (M8.out.scan h hq hk9 hr9)
   clear hk9 hr9 M8
   dsimp only [Q00]
   go_wp2_with fail
   refine (Q7T (Same.plus A (g :: Y)) _ M9.out.rd).mono ?_
   rintro e w10 ⟨hk10,⟨y10,σ10,hx10,rfl,hr10⟩ | ⟨f,hx10,b,hbb,rfl,hcell⟩⟩
   rotate_left
   ·exact (show bodyPost Tryz.prog Tryz.f133 (Q2g A text w q (cases text p l0 σ)) (Exit.panic _) _ w10 from Qb (Q2g.throws (M9.out.kp.trans (hk10.mono (by simp))) M9.out.kp (ER.out.trans ((Qh hx7).trans ((Qh (Qj hx9)).trans (Ql (Qv hx10))))) hbb hcell))
   have M10:=Hid.mk (M9.out.scan h hq hk10 hr10)
   have hll:=hL.out
   have E10:Hid (cases text p l0 σ = (if y10=true then Q1m text p (13 - (cs++[n]).length) (cs++[n]) else retx (cs++[n])) l7 σ10):=by
    refine ER.out.trans ((Qh hx7).trans ((Qh (Qj hx9)).trans ((Qh (Qj hx10)).trans ?_)))
    have:13 - (cs++[n]).length=12 - cs.length:=by simp
    rw [this]
   clear hk10 hr10 M9
   go_wp2
   exact ⟨⟨y10,cs++[n],g :: Y,l7,σ10,rfl,by simp;omega,by simp;omega,M10,E10⟩,by simp [Qb0];omega⟩
theorem QhG:(Tryz.prog.info? 292).map (fun i=>(i.zero,i.size,i.bytes))=some (some (.agg #[.slice none 0 0,.string ⟨#[]⟩,.int .i64 0,.nilIface]),4,64):=by kernel_rfl
def onL {τ ρ α:Type} (m:PX τ α):PX (τ×ρ) α:=fun s σ=>match m s.1 σ with
 | .ok (a,t',σ')=>.ok (a,(t',s.2),σ')
 | .error f=>.error f
def onR {τ ρ α:Type} (m:PX ρ α):PX (τ×ρ) α:=fun s σ=>match m s.2 σ with
 | .ok (a,t',σ')=>.ok (a,(s.1,t'),σ')
 | .error f=>.error f
theorem Q6s {τ ρ α:Type} {m:PX τ α} {t t':τ} {l:ρ} {σ σ':St} {a:α} (h:m t σ = .ok (a,t',σ')):onL m (t,l) σ = .ok (a,(t',l),σ'):=by simp only [onL,h]
theorem Q5r {τ ρ α:Type} {m:PX τ α} {t:τ} {l:ρ} {σ:St} {f:Mar.Fault} (h:m t σ = .error f):onL m (t,l) σ = .error f:=by simp only [onL,h]
theorem Q8U {τ ρ α:Type} {m:PX ρ α} {t:τ} {l l':ρ} {σ σ':St} {a:α} (h:m l σ = .ok (a,l',σ')):onR m (t,l) σ = .ok (a,(t,l'),σ'):=by simp only [onR,h]
theorem Q7V {τ ρ α:Type} {m:PX ρ α} {t:τ} {l:ρ} {σ:St} {f:Mar.Fault} (h:m l σ = .error f):onR m (t,l) σ = .error f:=by simp only [onR,h]
abbrev UnSt:=List (List UInt8)×List (Int×Int)
abbrev Arms:=List (List Int×Qk)
def Q1L (text:ByteArray) (rs:Arms):PX UnSt Arms:=bndx (lift (Q0B text [100,101,102,97,117,108,116])) fun y=>if y then
  bndx (lift (QS text [58])) fun _=>bndx (onL (arm text (Qr 0 0))) fun d=>retx (rs++[([],d)]) else retx rs
def Q1y (text:ByteArray) (p:Int→Bool):Nat→Arms→PX UnSt Arms
 | 0,_=>lift (thr 0 0)
 | k + 1,rs=>bndx (onR (cases text p)) fun cs=>bndx (onL (arm text (Qr 0 0))) fun d=>bndx (lift (sees text [99,97,115,101])) fun y=>if y then Q1y text p k (rs++[(cs,d)]) else Q1L text (rs++[(cs,d)])
def runy {τ α:Type} (m:PX τ α) (t:τ):PM (α×τ):=fun σ=>match m t σ with
 | .ok (a,t',σ')=>.ok ((a,t'),σ')
 | .error f=>.error f
theorem Q4x {τ α:Type} {m:PX τ α} {t t':τ} {σ σ':St} {a:α} (h:m t σ = .ok (a,t',σ')):runy m t σ = .ok ((a,t'),σ'):=by simp only [runy,h]
theorem Q2V {τ α:Type} {m:PX τ α} {t:τ} {σ:St} {f:Mar.Fault} (h:m t σ = .error f):runy m t σ = .error f:=by simp only [runy,h]
def Q3o (text:ByteArray) (n:List UInt8×Nat) (sel:Qk) (rs:Arms):PM DefL:=bnd (QS text [125]) fun _=>bnd (QS text [59]) fun _=>ret (.union n.1 n.2 sel rs)
def Q2r (text:ByteArray) (n:List UInt8×Nat) (sel:Qk) (r:Arms×UnSt):PM DefL:=Q3o text n sel r.1
def Q5s (text:ByteArray) (n:List UInt8×Nat) (q:Ty×(Int→Bool)) (m:(List UInt8×Nat)×List (List UInt8)):PM DefL:=
 bnd (QS text [41]) fun _=>bnd (QS text [123]) fun _=>bnd (runy (Q1y text q.2 13 []) (m.2,[])) (Q2r text n ⟨m.1.1,m.1.2,q.1⟩)
def Q4y (text:ByteArray) (n:List UInt8×Nat) (q:Ty×(Int→Bool)):PM DefL:=bnd (runy (name text (Qr 0 0)) []) (Q5s text n q)
def Q4z (text:ByteArray) (n:List UInt8×Nat):PM DefL:=bnd (QS text [115,119,105,116,99,104]) fun _=>bnd (QS text [40]) fun _=>bnd (Q1Z text) (Q4y text n)
def Q0n (text:ByteArray) (at':Nat):PM DefL:=bnd (Q1s at') fun _=>bnd (Q1j text) (Q4z text)
theorem Qej {text:ByteArray} {p:Int→Bool}:∀ (k:Nat) (cs0:List Int) (l:List (Int×Int)) (σ:St) (cs:List Int) (l':List (Int×Int)) (σ':St),Q1m text p k cs0 l σ = .ok (cs,l',σ')→l.length < l'.length∧l'.length≤12:=by
 intro k
 induction k with
 | zero=>intro cs0 l σ cs l' σ' h;simp only [Q1m] at h;cases h
 | succ k ih=>
  intro cs0 l σ cs l' σ' h
  cases h1:QS text [99,97,115,101] σ with
  | error f=>rw [Q6I h1] at h;cases h
  | ok x=>
   obtain ⟨x,σ1⟩:=x
   by_cases hl:12≤l.length
   ·rw [Q6g h1 hl] at h;cases h
   ·rw [Q7m h1 hl] at h
    unfold Qbt at h
    cases h2:number text p l σ1 with
    | error f=>rw [Ql h2] at h;cases h
    | ok y=>
     obtain ⟨n,l2,σ2⟩:=y
     rw [Qh h2] at h
     have hn:=Q6J h2
     cases h3:QS text [58] σ2 with
     | error f=>rw [Ql (Qv h3)] at h;cases h
     | ok z=>
      obtain ⟨z,σ3⟩:=z
      rw [Qh (Qj h3)] at h
      cases h4:sees text [99,97,115,101] σ3 with
      | error f=>rw [Ql (Qv h4)] at h;cases h
      | ok y=>
       obtain ⟨y,σ4⟩:=y
       rw [Qh (Qj h4)] at h
       cases y with
       | true=>
        have:=ih _ _ _ _ _ _ h
        omega
       | false=>
        simp only [Bool.false_eq_true,if_false,retx] at h
        cases h
        omega
theorem Q0j.mono {bs bs':List (Nat×Obj)} {e:TypeId} {v:Value} {n:Nat} {xs:List Value} (hb:∀ p∈bs,p∈bs') (h:Q0j bs e v n xs):Q0j bs' e v n xs:=by
 rcases h with h | ⟨g,cap,cur,h1,h2,h3,h4⟩
 ·exact Or.inl h
 ·exact Or.inr ⟨g,cap,cur,h1,h2,hb _ h3,h4⟩
theorem Held.app {X:List Nat} {bs bs':List (Nat×Obj)} {w:World} (h:Held X bs w) (h':Held X bs' w):Held X (bs++bs') w:=by
 intro p hp
 rcases List.mem_append.1 hp with hp | hp
 ·exact h p hp
 ·exact h' p hp
abbrev armC (p:(List Int×Qk)×Value):List Value:=p.2 :: Q0C p.1.2
structure Q1e (A:Ad) (text:ByteArray) (w:World) (D q bx nq:Nat) (v:Value) (p:Int→Bool) (n:List UInt8×Nat) (sel:Qk) (arms:Arms) (css:List Value) (bs:List (Nat×Obj)) (Y:List Nat) (t:List (List UInt8)) (l:List (Int×Int)) (sl:Value) (σ:St) (u:World):Prop where
 kp:Qa [A.R,A.S,A.N] w u
 rd:Rd (A.plus Y) text σ u
 mine:∀ b∈[D,q,nq],b∈Y
 nd:D≠q∧D≠nq∧q≠nq
 new:∀ y∈Y,w.heap.size≤y
 own:∀ g,sl.ownBlock=some g→g∈Y∧g ∉ [D,q,nq]
 set:Q0m q t u
 cl:Held (A.plus Y).X (Qr q bx).bs u
 nums:QV nq l u
 fit:Fits (A.plus Y).X v p u
 box:u.heap[D]? = some (.cells #[.string ⟨n.1.toArray⟩,.int .i64 n.2,.string ⟨sel.t.toArray⟩,.int .i64 sel.at',tyV sel.ty,sl] 287)
 row:u.ownsRow w.heap.size 292 4 sl arms.length ((arms.zip css).flatMap armC)
 len:css.length=arms.length
 held:Held (A.plus Y).X bs u
 each:∀ i (h:i < arms.length) (h':i < css.length),Q0j bs 2 css[i] arms[i].1.length (arms[i].1.map fun n=>Value.int .i64 n)
section
variable {A : Ad} {text : ByteArray} {w u u' : World} {D q bx nq : Nat} {v : Value} {p : Int → Bool} {n : List UInt8 × Nat} {sel : Qk} {arms : Arms} {css : List Value} {bs : List (Nat × Obj)} {Y : List Nat} {t t' : List (List UInt8)} {l l' : List (Int × Int)} {sl : Value} {σ σ' σ0 : St}
theorem Q1e.slice (m:Q1e A text w D q bx nq v p n sel arms css bs Y t l sl σ u):∃ ad cap,sl = .slice ad arms.length cap:=by
 rcases m.row.2 with ⟨rfl,h⟩ | ⟨g,cap,cur,rfl,_⟩
 ·exact ⟨none,0,by rw [h]⟩
 ·exact ⟨_,_,rfl⟩
theorem Q1e.free (h0:Rd A text σ0 w) (m:Q1e A text w D q bx nq v p n sel arms css bs Y t l sl σ u) {b:Nat} (hb:b∈[D,q,nq]):Free (A.plus Y) b:=by
 obtain ⟨l1,l2,l3,l4⟩:=h0.lt
 have hq:=m.new _ (m.mine b hb)
 refine ⟨List.mem_append_left _ (m.mine b hb),?_,?_,?_,?_⟩<;>simp only [Ad.plus]<;>omega
theorem Q1e.turn {M:List Nat} (h0:Rd A text σ0 w) (m:Q1e A text w D q bx nq v p n sel arms css bs Y t l sl σ u) (hk:Qa M u u') (hM:∀ x∈M,x=A.S∨x=q∨x=nq) (hr:Rd (A.plus Y) text σ' u') (hs:Q0m q t' u') (hn:QV nq l' u') :
  Q1e A text w D q bx nq v p n sel arms css bs Y t' l' sl σ' u':=by
 obtain ⟨l1,l2,l3,l4⟩:=h0.lt
 obtain ⟨d1,d2,d3⟩:=m.nd
 have wD:=m.new _ (m.mine D (by simp))
 have hX:∀ x∈M,x∈(A.plus Y).X:=by
  intro x hx
  rcases hM x hx with rfl | rfl | rfl
  ·exact hr.mine.2.1
  ·exact List.mem_append_left _ (m.mine _ (by simp))
  ·exact List.mem_append_left _ (m.mine _ (by simp))
 refine ⟨m.kp.young hk ?_,hr,m.mine,m.nd,m.new,m.own,hs,m.cl.keeps hk hX,hn,m.fit.keeps hk hX,(hk.block _ (Qc m.box) ?_).trans m.box,Qx m.row hk ?_,m.len,m.held.keeps hk hX,m.each⟩
 ·intro x hx
  rcases hM x hx with rfl | rfl | rfl
  ·exact Or.inl (by simp)
  ·exact Or.inr (m.new _ (m.mine _ (by simp)))
  ·exact Or.inr (m.new _ (m.mine _ (by simp)))
 ·intro hx
  rcases hM _ hx with h | h | h<;>omega
 ·intro g hg hx
  have h1:=m.own g hg
  have h2:=m.new _ h1.1
  rcases hM _ hx with h | h | h
  ·omega
  ·exact h1.2 (by rw [h];simp)
  ·exact h1.2 (by rw [h];simp)
theorem Q1e.scan (h0:Rd A text σ0 w) (m:Q1e A text w D q bx nq v p n sel arms css bs Y t l sl σ u) (hk:Qa [A.S] u u') (hr:Rd (A.plus Y) text σ' u'):Q1e A text w D q bx nq v p n sel arms css bs Y t l sl σ' u':=by
 have l2:=h0.lt.2.1
 have wq:=m.new _ (m.mine q (by simp))
 have wn:=m.new _ (m.mine nq (by simp))
 exact m.turn h0 hk (by simp) hr (m.set.keeps hk (by simp;omega)) (m.nums.keeps hk (by simp;omega))
theorem Q1e.below (h0:Rd A text σ0 w) (m:Q1e A text w D q bx nq v p n sel arms css bs Y t l sl σ u) (hb:Below u.heap.size u u'):Q1e A text w D q bx nq v p n sel arms css bs Y t l sl σ u':=
 m.turn h0 (Qa.of_below [] hb) (by simp) (m.rd.below hb) (m.set.keeps (Qa.of_below [] hb) (by simp)) (m.nums.keeps (Qa.of_below [] hb) (by simp))
theorem Q1e.step {u2 u3:World} {g cap:Nat} {cv:Value} {cs:List Int} {d:Qk} {bs':List (Nat×Obj)} (h0:Rd A text σ0 w) (e:Q1e A text w D q bx nq v p n sel arms css bs Y t l sl σ u) (hh:Held (A.plus Y).X bs' u) (hcv:Q0j bs' 2 cv cs.length (cs.map fun n=>Value.int .i64 n)) (hb:Below u.heap.size u u2)
  (hown:u3.ownsRow w.heap.size 292 4 (.slice (some ⟨g,0,none⟩) (arms.length + 1) cap) (arms.length + 1) ((arms.zip css).flatMap armC++armC ((cs,d),cv)))
  (hg:u2.grownBy u3 sl.ownBlock) (hat:sl.ownBlock=some g∨g=u2.heap.size) (hlt:g < u3.heap.size) :
  Q1e A text w D q bx nq v p n sel (arms++[(cs,d)]) (css++[cv]) (bs++bs') (g :: Y) t l (.slice (some ⟨g,0,none⟩) (arms.length + 1) cap) σ (u3.setCell ⟨D,5,none⟩ (.slice (some ⟨g,0,none⟩) (arms.length + 1) cap)):=by
 obtain ⟨hwg,_⟩:=Q2p hown (g:=g) rfl
 have e2:=e.below h0 hb
 have hh2:=hh.keeps (Qa.of_below [] hb) (by simp)
 clear hh
 have iD:D∈[D,q,nq]:=by simp
 have iq:q∈[D,q,nq]:=by simp
 have in':nq∈[D,q,nq]:=by simp
 obtain ⟨d1,d2,d3⟩:=e.nd
 have wnew:∀ b∈[D,q,nq],w.heap.size≤b:=fun b hb=>e.new _ (e.mine b hb)
 have hlen:∀ b∈[D,q,nq],b < u2.heap.size:=fun b hb=>e2.rd.old b (List.mem_append_left _ (e.mine b hb))
 have k3:=hg.size
 have gl:g ∉ [D,q,nq]:=by
  rcases hat with h | h
  ·exact (e.own g h).2
  ·intro hm
   have:=hlen g hm
   omega
 have hrow:∀ b,sl.ownBlock=some b→w.heap.size≤b∧b∈(A.plus Y).X:=fun b hb=>⟨e.new _ (e.own b hb).1,List.mem_append_left _ (e.own b hb).1⟩
 have hkg:=Q0t hg
 have hks:Qa [D] u3 (u3.setCell ⟨D,5,none⟩ (.slice (some ⟨g,0,none⟩) (arms.length + 1) cap)):=(Qa.refl [D] u3).setIn (by simp) _
 have rl:∀ b∈[D,q,nq],b ∉ sl.ownBlock.toList:=by
  intro b hb hm
  exact (e.own b (by simpa using hm)).2 hb
 have hgX:∀ b,sl.ownBlock=some b→b∈(A.plus Y).X:=fun b hb=>(hrow b hb).2
 have hDX:∀ x∈[D],x∈(A.plus (g :: Y)).X:=by
  intro x hx
  simp only [List.mem_singleton] at hx
  subst hx
  exact List.mem_append_left _ (List.mem_cons_of_mem _ (e.mine _ iD))
 refine ⟨?_,?_,fun b hb=>List.mem_cons_of_mem _ (e.mine b hb),e.nd,?_,?_,?_,?_,?_,?_,?_,?_,by simp [e.len],?_,?_⟩
 ·refine (e2.kp.young hkg ?_).young hks ?_
  ·intro m hm
   exact Or.inr (hrow m (by simpa using hm)).1
  ·intro m hm
   simp only [List.mem_singleton] at hm
   subst hm
   exact Or.inr (wnew _ iD)
 ·exact h0.young (Same.plus A (g :: Y)) (Rd.grow h0 (Same.plus A Y) e2.rd hg hrow hat hlt) hks (by
   intro x hx
   exact ⟨by simp only [List.mem_singleton] at hx;subst hx;exact wnew _ iD,hDX x hx⟩)
 ·intro y hy
  rcases List.mem_cons.1 hy with rfl | hy
  ·exact hwg
  ·exact e.new y hy
 ·intro g' h'
  simp only [Value.ownBlock,Option.some.injEq] at h'
  subst h'
  exact ⟨List.mem_cons_self,gl⟩
 ·exact (e2.set.keeps hkg (rl _ iq)).keeps hks (by simp;omega)
 ·exact (e2.cl.grow hg hgX hat).keeps hks hDX
 ·exact (e2.nums.keeps hkg (rl _ in')).keeps hks (by simp;omega)
 ·exact (e2.fit.grow hg hgX hat).keeps hks hDX
 ·exact QB (i:=5) ((hkg.block _ (hlen _ iD) (rl _ iD)).trans e2.box) _
 ·have:=Qx hown hks (by
   intro g' h'
   simp only [Value.ownBlock,Option.some.injEq] at h'
   subst h'
   intro hm
   simp only [List.mem_singleton] at hm
   exact gl (hm ▸ iD))
  rw [List.zip_append (by exact e.len.symm),List.flatMap_append]
  simpa using this
 ·exact ((e2.held.app hh2).grow hg hgX hat).keeps hks hDX
 ·intro i h1 h2
  by_cases hi:i < arms.length
  ·have hi':i < css.length:=by rw [e.len];exact hi
   rw [List.getElem_append_left hi,List.getElem_append_left hi']
   exact (e.each i hi hi').mono (fun p hp=>List.mem_append_left _ hp)
  ·have hi':i=arms.length:=by simp at h1;omega
   have hi2:¬ i < css.length:=by rw [e.len];exact hi
   rw [List.getElem_append_right (by omega),List.getElem_append_right (by omega)]
   have e1:i - arms.length=0:=by omega
   have e3:i - css.length=0:=by rw [e.len];omega
   simp only [e1,e3,List.getElem_cons_zero]
   exact hcv.mono (fun p hp=>List.mem_append_right _ hp)
theorem QgK:∀ (ps:List ((List Int×Qk)×Value)),(ps.flatMap armC).length=ps.length * 4:=by
 intro ps
 induction ps with
 | nil=>rfl
 | cons d ds ih=>simp only [List.flatMap_cons,List.length_append,List.length_cons,ih];simp;omega
theorem Q1e.fin (h0:Rd A text σ0 w) (m:Q1e A text w D q bx nq v p n sel arms css bs Y t l sl σ u) (hle:arms.length≤1000) {r:Except Mar.Fault (DefL×St)} (hr:r = .ok (.union n.1 n.2 sel arms,σ)):QC [A.R,A.S,A.N] A text w r (.returned (.pointer (some ⟨D,0,none⟩))) u:=by
 have far:∀ b,w.heap.size≤b→b ∉ A.X:=fun b hb hm=>by have:=h0.old _ hm;omega
 have hsub:Held A.X bs u:=m.held.sub (fun x hx=>List.mem_append_right _ hx)
 have hD:=And.intro m.box (far _ (m.new _ (m.mine D (by simp))))
 refine ⟨m.kp,Or.inl ⟨.union n.1 n.2 sel arms,σ,D,?_⟩⟩
 rcases m.row.2 with ⟨rfl,h⟩ | ⟨g,cap,cur,rfl,hg1,hg2,hg3,hg4,hg5,hg6⟩
 ·have:arms=[]:=List.length_eq_zero_iff.1 h
  subst this
  refine ⟨_ :: bs,hr,rfl,Rd.dropAll h0.mine m.rd,⟨.slice none 0 0,css,List.mem_cons_self,m.len,Or.inl ⟨rfl,rfl,rfl⟩,fun i h h'=>(m.each i h h').mono (fun p hp=>List.mem_cons_of_mem _ hp)⟩,?_⟩
  intro p hp
  rcases List.mem_cons.1 hp with rfl | hp
  ·exact hD
  ·exact hsub p hp
 ·refine ⟨_ :: (g,.cells cur 292) :: bs,hr,rfl,Rd.dropAll h0.mine m.rd,⟨_,css,List.mem_cons_self,m.len,Or.inr ⟨g,cap,cur,rfl,⟨hg3,hle⟩,by simp,?_⟩,fun i h h'=>(m.each i h h').mono (fun p hp=>List.mem_cons_of_mem _ (List.mem_cons_of_mem _ hp))⟩,?_⟩
  ·have e1:((arms.zip css).flatMap fun p=>p.2 :: Q0C p.1.2).length=arms.length * 4:=by
    have:=QgK (arms.zip css)
    rw [List.length_zip,m.len,Nat.min_self] at this
    exact this
   rw [e1]
   exact hg6
  ·intro p hp
   rcases List.mem_cons.1 hp with rfl | hp
   ·exact hD
   ·rcases List.mem_cons.1 hp with rfl | hp
    ·exact ⟨hg2,far _ hg1⟩
    ·exact hsub p hp
end
theorem QcK {A' A:Ad} (hA:Same A' A) {text:ByteArray} {σ:St} {w:World} (h:Rd A' text σ w) :
  Calls Tryz.prog 131 #[.pointer (some ⟨A.R,0,none⟩)] w (Q2w A' text w (Q1Z text σ)):=by
 have:=Qbs h
 rw [hA.1] at this
 exact this
theorem QgL {A' A:Ad} (hA:Same A' A) {text:ByteArray} {σ:St} {v:Value} {p:Int→Bool} {q:Nat} {l0:List (Int×Int)} {w:World} (h:Rd A' text σ w) (hf:Fits A'.X v p w) (hq:Free A' q) (hn:QV q l0 w) :
  Calls Tryz.prog 133 #[.pointer (some ⟨A.R,0,none⟩),.map (some q),v] w (Q2g A' text w q (cases text p l0 σ)):=by
 have:=Qfx h hf hq hn
 rw [hA.1] at this
 exact this
theorem Q8s {A' A:Ad} (hA:Same A' A) {text:ByteArray} {σ:St} {q bx:Nat} {t:List (List UInt8)} {w:World} (hq:Free A' q) (h:Rd A' text σ w) (hi:Q0m q t w) (hh:Held A'.X (Qr q bx).bs w) :
  Calls Tryz.prog 119 #[.pointer (some ⟨A.R,0,none⟩),(Qr q bx).v] w (QP [A.S,q] A' text w (name text (Qr 0 0) t σ) Q1x (Q0m q)):=by
 have:=Q7k (Q5C (bx:=bx) hq) h hi hh
 rw [hA.1,hA.2.1] at this
 exact this
theorem Qfy {A' A:Ad} (hA:Same A' A) {text:ByteArray} {σ:St} {q bx:Nat} {t:List (List UInt8)} {w:World} (hq:Free A' q) (h:Rd A' text σ w) (hi:Q0m q t w) (hh:Held A'.X (Qr q bx).bs w) :
  Calls Tryz.prog 134 #[.pointer (some ⟨A.R,0,none⟩),(Qr q bx).v] w (QP [A.S,q] A' text w (arm text (Qr 0 0) t σ) Q2S (Q0m q)):=by
 have:=QhD (Q5C (bx:=bx) hq) h hi hh
 rw [hA.1,hA.2.1] at this
 exact this
def Q9F (u:World) (nq:Nat):Nat:=match u.heap[nq]? with
 | some (.map es _)=>es.size
 | _=>0
theorem Q8V {u:World} {nq:Nat} {l:List (Int×Int)} (h:QV nq l u):Q9F u nq=l.length:=by
 have h':u.heap[nq]? = some (.map (l.mapIdx fun i p=>(⟨.int .i64 p.1,.int .i64 p.2,i⟩:MapEntry)).toArray l.length):=h
 unfold Q9F
 rw [h']
 simp
structure Q2W (A:Ad) (text:ByteArray) (w:World) (D q bx:Nat) (v:Value) (p:Int→Bool) (cells:Array Value) (Y:List Nat) (t:List (List UInt8)) (σ:St) (u:World):Prop where
 kp:Qa [A.R,A.S,A.N] w u
 rd:Rd (A.plus Y) text σ u
 mine:D∈Y∧q∈Y∧D≠q
 new:∀ y∈Y,w.heap.size≤y
 set:Q0m q t u
 cl:Held (A.plus Y).X (Qr q bx).bs u
 fit:Fits (A.plus Y).X v p u
 box:u.heap[D]? = some (.cells cells 287)
theorem Q2W.turn {A:Ad} {text:ByteArray} {w u u':World} {D q bx:Nat} {v:Value} {p:Int→Bool} {cells:Array Value} {Y:List Nat} {t t':List (List UInt8)} {σ σ' σ0:St} {M:List Nat} (h0:Rd A text σ0 w) (m:Q2W A text w D q bx v p cells Y t σ u) (hk:Qa M u u') (hM:∀ x∈M,x=A.S∨x=q) (hr:Rd (A.plus Y) text σ' u') (hs:Q0m q t' u') :
  Q2W A text w D q bx v p cells Y t' σ' u':=by
 have l2:=h0.lt.2.1
 have wD:=m.new _ m.mine.1
 have hX:∀ x∈M,x∈(A.plus Y).X:=by
  intro x hx
  rcases hM x hx with rfl | rfl
  ·exact hr.mine.2.1
  ·exact List.mem_append_left _ m.mine.2.1
 refine ⟨m.kp.young hk ?_,hr,m.mine,m.new,hs,m.cl.keeps hk hX,m.fit.keeps hk hX,(hk.block _ (Qc m.box) ?_).trans m.box⟩
 ·intro x hx
  rcases hM x hx with rfl | rfl
  ·exact Or.inl (by simp)
  ·exact Or.inr (m.new _ m.mine.2.1)
 ·intro hx
  have:=m.mine.2.2
  rcases hM _ hx with h | h<;>omega
theorem Q2W.scan {A:Ad} {text:ByteArray} {w u u':World} {D q bx:Nat} {v:Value} {p:Int→Bool} {cells:Array Value} {Y:List Nat} {t:List (List UInt8)} {σ σ' σ0:St} (h0:Rd A text σ0 w) (m:Q2W A text w D q bx v p cells Y t σ u) (hk:Qa [A.S] u u') (hr:Rd (A.plus Y) text σ' u') :
  Q2W A text w D q bx v p cells Y t σ' u':=by
 have l2:=h0.lt.2.1
 have wq:=m.new _ m.mine.2.1
 exact m.turn h0 hk (by simp) hr (m.set.keeps hk (by simp;omega))
theorem Q2W.free {A:Ad} {text:ByteArray} {w u:World} {D q bx:Nat} {v:Value} {p:Int→Bool} {cells:Array Value} {Y:List Nat} {t:List (List UInt8)} {σ σ0:St} (h0:Rd A text σ0 w) (m:Q2W A text w D q bx v p cells Y t σ u):Free (A.plus Y) q:=by
 obtain ⟨l1,l2,l3,l4⟩:=h0.lt
 have hq:=m.new _ m.mine.2.1
 refine ⟨List.mem_append_left _ m.mine.2.1,?_,?_,?_,?_⟩<;>simp only [Ad.plus]<;>omega
theorem Qij {b:Nat} {k t a c d e:Value} {T:TypeId} {w:World} (h:w.heap[b]? = some (.cells #[k,t,a,c,d,e] T)) :
  w.cell? ⟨b,2,none⟩=some a∧w.cell? ⟨b,3,none⟩=some c∧w.cell? ⟨b,4,none⟩=some d∧∀ i,w.frozen? ⟨b,i,none⟩=false:=by
 refine ⟨?_,?_,?_,?_⟩<;>simp [World.cell?,World.frozen?,h]
theorem Q2W.put {A:Ad} {text:ByteArray} {w u:World} {D q bx:Nat} {v a b c d e f:Value} {p:Int→Bool} {Y:List Nat} {t:List (List UInt8)} {σ σ0:St} (h0:Rd A text σ0 w) (m:Q2W A text w D q bx v p #[a,b,c,d,e,f] Y t σ u) (x y z:Value) :
  Q2W A text w D q bx v p #[a,b,x,y,z,f] Y t σ (((u.setCell ⟨D,2,none⟩ x).setCell ⟨D,3,none⟩ y).setCell ⟨D,4,none⟩ z):=by
 have hk:Qa [D] u (((u.setCell ⟨D,2,none⟩ x).setCell ⟨D,3,none⟩ y).setCell ⟨D,4,none⟩ z):=(((Qa.refl [D] u).setIn (p:=⟨D,2,none⟩) (by simp) _).setIn (p:=⟨D,3,none⟩) (by simp) _).setIn (p:=⟨D,4,none⟩) (by simp) _
 have wD:=m.new _ m.mine.1
 have hDX:∀ x∈[D],x∈(A.plus Y).X:=by
  intro x hx
  simp only [List.mem_singleton] at hx
  subst hx
  exact List.mem_append_left _ m.mine.1
 refine ⟨m.kp.young hk (by simp;omega),h0.young (Same.plus A Y) m.rd hk (fun x hx=>⟨by simp only [List.mem_singleton] at hx;omega,hDX x hx⟩),m.mine,m.new,m.set.keeps hk (by have:=m.mine.2.2;simp;omega),m.cl.keeps hk hDX,m.fit.keeps hk hDX,?_⟩
 have h1:=QB (i:=2) m.box x
 have h2:=QB (i:=3) h1 y
 exact QB (i:=4) h2 z
theorem Q1e.rowAt {A:Ad} {text:ByteArray} {w u:World} {D q bx nq:Nat} {v:Value} {p:Int→Bool} {n:List UInt8×Nat} {sel:Qk} {arms:Arms} {css:List Value} {bs:List (Nat×Obj)} {Y:List Nat} {t:List (List UInt8)} {l:List (Int×Int)} {sl:Value} {σ:St} (m:Q1e A text w D q bx nq v p n sel arms css bs Y t l sl σ u) (o:Obj) :
  (u.alloc o).ownsRow w.heap.size 292 4 sl arms.length ((arms.zip css).flatMap armC):=Qx m.row ((Qa.refl [] u).alloc o) (by simp)
theorem Q1e.boxAt {A:Ad} {text:ByteArray} {w u u2:World} {D q bx nq:Nat} {v:Value} {p:Int→Bool} {n:List UInt8×Nat} {sel:Qk} {arms:Arms} {css:List Value} {bs:List (Nat×Obj)} {Y:List Nat} {t:List (List UInt8)} {l:List (Int×Int)} {sl:Value} {σ:St} {o:Obj} (m:Q1e A text w D q bx nq v p n sel arms css bs Y t l sl σ u) (hg:(u.alloc o).grownBy u2 sl.ownBlock) :
  u2.heap[D]? = some (.cells #[.string ⟨n.1.toArray⟩,.int .i64 n.2,.string ⟨sel.t.toArray⟩,.int .i64 sel.at',tyV sel.ty,sl] 287):=by
 have hl:=Qc m.box
 exact (hg.block _ (by simp;omega) (fun e=>(m.own _ e.symm).2 (by simp))).trans ((((Qa.refl [] u).alloc o).block _ hl (by simp)).trans m.box)
theorem Q2W.start {A:Ad} {text:ByteArray} {w u:World} {D q bx:Nat} {v:Value} {p:Int→Bool} {n:List UInt8×Nat} {sel:Qk} {Y:List Nat} {t:List (List UInt8)} {σ σ0:St} (h0:Rd A text σ0 w) (m:Q2W A text w D q bx v p #[.string ⟨n.1.toArray⟩,.int .i64 n.2,.string ⟨sel.t.toArray⟩,.int .i64 sel.at',tyV sel.ty,.slice none 0 0] Y t σ u) :
  Q1e A text w D q bx u.heap.size v p n sel [] [] [] (u.heap.size :: Y) t [] (.slice none 0 0) σ (u.alloc (.map #[] 0)):=by
 have hka:Qa [] u (u.alloc (.map #[] 0)):=(Qa.refl [] u).alloc _
 have lD:=Qc m.box
 have lq:q < u.heap.size:=m.rd.old _ (List.mem_append_left _ m.mine.2.1)
 have s1:=m.kp.size
 have hX:∀ bs,Held (A.plus Y).X bs u→Held (A.plus (u.heap.size :: Y)).X bs (u.alloc (.map #[] 0)):=fun bs hb=>(hb.add (Nat.le_refl _)).keeps hka (by simp)
 refine ⟨m.kp.alloc _,m.rd.own _,?_,⟨m.mine.2.2,by omega,by omega⟩,?_,(by intro g hg;cases hg),m.set.keeps hka (by simp),hX _ m.cl,Qi rfl,?_,(hka.block _ lD (by simp)).trans m.box,⟨rfl,Or.inl ⟨rfl,rfl⟩⟩,rfl,(by intro p hp;cases hp),(by intro i h;cases h)⟩
 ·intro b hb
  simp at hb
  rcases hb with rfl | rfl | rfl
  ·exact List.mem_cons_of_mem _ m.mine.1
  ·exact List.mem_cons_of_mem _ m.mine.2.1
  ·exact List.mem_cons_self
 ·intro y hy
  rcases List.mem_cons.1 hy with rfl | hy
  ·exact s1
  ·exact m.new y hy
 ·obtain ⟨bs,f,pre,post,h1,h2,h3,h4⟩:=m.fit
  exact ⟨bs,f,pre,post,h1,hX bs h2,h3,fun W hW=>h4 W (hW.sub fun _ hx=>List.mem_cons_of_mem _ hx)⟩
theorem Q43 {b:Nat} {k t a c d e:Value} {T:TypeId} {w:World} (h:w.heap[b]? = some (.cells #[k,t,a,c,d,e] T)) :
  w.cell? ⟨b,2,none⟩=some a∧w.cell? ⟨b,5,none⟩=some e∧∀ i,w.frozen? ⟨b,i,none⟩=false:=by
 refine ⟨?_,?_,?_⟩<;>simp [World.cell?,World.frozen?,h]
def Qhu (text:ByteArray) (p:Int→Bool) (k:Nat) (rs:Arms) (cs:List Int):PX UnSt Arms:=bndx (onL (arm text (Qr 0 0))) fun d=>bndx (lift (sees text [99,97,115,101])) fun y=>if y then Q1y text p k (rs++[(cs,d)]) else Q1L text (rs++[(cs,d)])
theorem Q6t {τ α:Type} {m m':PX τ α} {s s':τ} {σ σ':St} (h:m s σ = m' s' σ'):runy m s σ = runy m' s' σ':=by simp only [runy,h]
theorem Q7n {α β:Type} {m m':PM α} {f:α→PM β} {σ σ':St} (h:m σ = m' σ'):bnd m f σ = bnd m' f σ':=by simp only [bnd,h]
theorem QgM {text:ByteArray} {p:Int→Bool} {k:Nat} {rs:Arms} {cs:List Int} {t:List (List UInt8)} {l l':List (Int×Int)} {σ σ':St} {β:Type} {f:Arms×UnSt→PM β} (h:cases text p l σ = .ok (cs,l',σ')) :
  bnd (runy (Q1y text p (k + 1) rs) (t,l)) f σ = bnd (runy (Qhu text p k rs cs) (t,l')) f σ':=by
 refine Q7n (Q6t ?_)
 simp only [Q1y]
 exact Qh (Q8U h)
theorem Qfz {text:ByteArray} {p:Int→Bool} {k:Nat} {rs:Arms} {t:List (List UInt8)} {l:List (Int×Int)} {σ:St} {g:Mar.Fault} {β:Type} {f:Arms×UnSt→PM β} (h:cases text p l σ = .error g) :
  bnd (runy (Q1y text p (k + 1) rs) (t,l)) f σ = .error g:=by
 refine Qq (Q2V ?_)
 simp only [Q1y]
 exact Ql (Q7V h)
theorem QdJ (cs:List Int) (d:Qk) (a:Option Addr) (b c:Nat):∀ u∈armC ((cs,d),.slice a b c),u.oneCell'=true:=by
 intro u hu
 rcases List.mem_cons.1 hu with rfl | hu
 ·rfl
 ·exact Qbq d u hu
theorem QfA {A:Ad} {text:ByteArray} {σ:St} (at':Nat) {w:World} (h:Rd A text σ w) :
  Calls Tryz.prog 90 #[.pointer (some ⟨A.R,0,none⟩),.int .i64 at'] w (QC [A.R,A.S,A.N] A text w (Q0n text at' σ)):=by
 have hmf:∀ (fn:Fn) (first cap:Array Value) (w:World),(Instr.makeFunc fn first cap).run Tryz.prog w = .ok (.func fn first cap) w:=fun _ _ _ _=>rfl
 have hmm:∀ (t:TypeId) (w:World),(Instr.makeMap t none).run Tryz.prog w = .ok (.map (some w.heap.size)) (w.alloc (.map #[] 0)):=fun _ _=>rfl
 obtain ⟨i0,hi0,hz0,hz1,hz2⟩:=info_parts QhG
 obtain ⟨l1,l2,l3,l4⟩:=h.lt
 go_enter Tryz.func90,Tryz.ntmps90
 go_wp2_with fail
 refine (Q4K at' h).mono ?_
 rintro e w1 ⟨hk1,⟨u,σ1,hx1,rfl,hr1⟩ | ⟨f,hx1,b,hbb,rfl,hcell⟩⟩
 rotate_left
 ·exact Qb (QC.throws (hk1.mono (by simp)) (Qa.refl [] _) (Qq hx1) hbb hcell)
 have hK1:=hk1.mono (M':=[A.R,A.S,A.N]) (by simp)
 clear hk1
 go_wp2_with fail
 refine (Q3c hr1).mono ?_
 rintro e w2 ⟨hk2,⟨n,σ2,hx2,rfl,hr2⟩ | ⟨f,hx2,b,hbb,rfl,hcell⟩⟩
 rotate_left
 ·exact Qb (QC.throws (hK1.trans (hk2.mono (by simp))) hK1 ((Qg hx1).trans (Qq hx2)) hbb hcell)
 have hK2:=hK1.trans (hk2.mono (M':=[A.R,A.S,A.N]) (by simp))
 clear hk2 hK1
 have E2:Hid (Q0n text at' σ = Q4z text n σ2):=(Qg hx1).trans (Qg hx2)
 dsimp only [Q1x]
 have hs2:=hK2.size
 have hr3:=hr2.own (.cells #[.string ⟨n.1.toArray⟩,.int .i64 n.2,.string ⟨#[]⟩,.int .i64 0,.nilIface,.slice none 0 0] 287)
 have hv3:=Qi (w:=w2) (o:=.cells #[.string ⟨n.1.toArray⟩,.int .i64 n.2,.string ⟨#[]⟩,.int .i64 0,.nilIface,.slice none 0 0] 287) rfl
 have hK3:=hK2.alloc (.cells #[.string ⟨n.1.toArray⟩,.int .i64 n.2,.string ⟨#[]⟩,.int .i64 0,.nilIface,.slice none 0 0] 287)
 have hne:w2.heap.size ∉ [A.S]:=by simp;omega
 clear hr1 hr2 hx1 hx2
 go_wp2_with fail
 refine (Q08 (Same.add A _) _ hr3).mono ?_
 rintro e w4 ⟨hk4,⟨x4,σ4,hx4,rfl,hr4⟩ | ⟨f,hx4,b,hbb,rfl,hcell⟩⟩
 rotate_left
 ·exact Qb (QC.throws (hK3.trans (hk4.mono (by simp))) hK3 (E2.out.trans (Qq hx4)) hbb hcell)
 have hv4:=(hk4.block _ (Qc hv3) hne).trans hv3
 have hK4:=hK3.trans (hk4.mono (M':=[A.R,A.S,A.N]) (by simp))
 clear hk4 hv3 hK3 hr3
 go_wp2_with fail
 refine (Q08 (Same.add A _) _ hr4).mono ?_
 rintro e w5 ⟨hk5,⟨x5,σ5,hx5,rfl,hr5⟩ | ⟨f,hx5,b,hbb,rfl,hcell⟩⟩
 rotate_left
 ·exact Qb (QC.throws (hK4.trans (hk5.mono (by simp))) hK4 (E2.out.trans ((Qg hx4).trans (Qq hx5))) hbb hcell)
 have hv5:=(hk5.block _ (Qc hv4) hne).trans hv4
 have hK5:=hK4.trans (hk5.mono (M':=[A.R,A.S,A.N]) (by simp))
 clear hk5 hv4 hK4 hr4
 go_wp2_with fail
 refine (QcK (Same.add A _) hr5).mono ?_
 rintro e w6 ⟨hk6,⟨⟨ty,p⟩,σ6,v,hx6,rfl,hr6,hf6⟩ | ⟨f,hx6,b,hbb,rfl,hcell⟩⟩
 rotate_left
 ·exact Qb (QC.throws (hK5.trans (hk6.mono (by simp [Ad.add]))) hK5 (E2.out.trans ((Qg hx4).trans ((Qg hx5).trans (Qq hx6)))) hbb hcell)
 have hv6:=(hk6.block _ (Qc hv5) hne).trans hv5
 have hK6:=hK5.trans (hk6.mono (M':=[A.R,A.S,A.N]) (by simp [Ad.add]))
 have E6:Hid (Q0n text at' σ = Q4y text n (ty,p) σ6):=E2.out.trans ((Qg hx4).trans ((Qg hx5).trans (Qg hx6)))
 have hlt6:=Qc hv6
 clear hk6 hv5 hK5 hr5 E2 hx4 hx5 hx6
 dsimp only at hf6 ⊢
 obtain ⟨T,vt,hT⟩:∃ T vt,tyV ty = .iface T vt:=by cases ty<;>exact ⟨_,_,rfl⟩
 rw [hT]
 go_wp2_with fail
 refine (Q61 _).mono ?_
 rintro e w7 ⟨q,bx,rfl,hq,hbx,hqb,hI,hb7,hx7⟩
 have hlq:q < w7.heap.size:=by
  obtain ⟨_,_,_,hm⟩:=id hI
  exact Qc hm
 have P7:Hid (Q2W A text w w2.heap.size q bx v p #[.string ⟨n.1.toArray⟩,.int .i64 n.2,.string ⟨#[]⟩,.int .i64 0,.nilIface,.slice none 0 0] [q,w2.heap.size] [] σ6 w7):=by
  have hk7:Qa [] w6 w7:=Qa.of_below [] hb7
  have hX:∀ bs,Held (A.add w2.heap.size).X bs w6→Held (A.plus [q,w2.heap.size]).X bs w7:=fun bs hb=>(hb.add hq).keeps hk7 (by simp)
  refine ⟨hK6.trans (hk7.mono (by simp)),hr6.take hb7 hq hlq,⟨by simp,by simp,by omega⟩,?_,hI,?_,?_,(hk7.block _ hlt6 (by simp)).trans hv6⟩
  ·intro y hy
   simp at hy
   have:=hK6.size
   omega
  ·intro b hb
   simp only [Qr,List.mem_singleton] at hb
   subst hb
   refine ⟨hx7,?_⟩
   simp [Ad.plus]
   refine ⟨by omega,by omega,?_⟩
   intro hm
   have:=h.old _ hm
   omega
  ·obtain ⟨bs,f,pre,post,g1,g2,g3,g4⟩:=hf6
   exact ⟨bs,f,pre,post,g1,hX bs g2,g3,fun W hW=>g4 W (hW.sub fun _ hx=>List.mem_cons_of_mem _ hx)⟩
 clear hb7 hI hx7 hr6 hf6 hv6 hK6 hlt6
 go_wp2_with fail
 refine (Q8s (bx:=bx) (Same.plus A _) (P7.out.free h) P7.out.rd P7.out.set P7.out.cl).mono ?_
 rintro e w8 ⟨hk8,⟨m,t8,σ8,hx8,rfl,hr8,hi8⟩ | ⟨f,hx8,b,hbb,rfl,hcell⟩⟩
 rotate_left
 ·refine Qb (QC.throws (P7.out.kp.young hk8 ?_) P7.out.kp (E6.out.trans (Qq (Q2V hx8))) hbb hcell)
  intro x hx
  simp at hx ⊢
  rcases hx with hx | hx
  ·exact Or.inl (Or.inr (Or.inl hx))
  ·exact Or.inr (by have:=P7.out.new _ P7.out.mine.2.1;omega)
 have P8:=Hid.mk ((P7.out.turn h hk8 (by simp) hr8 hi8).put h (.string ⟨m.1.toArray⟩) (.int .i64 m.2) (.iface T vt))
 obtain ⟨b2,b3,b4,hfb⟩:=Qij (P7.out.turn h hk8 (by simp) hr8 hi8).box
 clear hk8 hr8 hi8 P7
 dsimp only [Q1x]
 go_wp2_with fail
 refine (Q08 (Same.plus A _) _ P8.out.rd).mono ?_
 rintro e w9 ⟨hk9,⟨x9,σ9,hx9,rfl,hr9⟩ | ⟨f,hx9,b,hbb,rfl,hcell⟩⟩
 rotate_left
 ·exact Qb (QC.throws (P8.out.kp.trans (hk9.mono (by simp))) P8.out.kp (E6.out.trans ((Qg (Q4x hx8)).trans (Qq hx9))) hbb hcell)
 have P9:=Hid.mk (P8.out.scan h hk9 hr9)
 clear hk9 hr9 P8 b2 b3 b4 hfb
 go_wp2_with fail
 refine (Q08 (Same.plus A _) _ P9.out.rd).mono ?_
 rintro e w10 ⟨hk10,⟨x10,σ10,hx10,rfl,hr10⟩ | ⟨f,hx10,b,hbb,rfl,hcell⟩⟩
 rotate_left
 ·exact Qb (QC.throws (P9.out.kp.trans (hk10.mono (by simp))) P9.out.kp (E6.out.trans ((Qg (Q4x hx8)).trans ((Qg hx9).trans (Qq hx10)))) hbb hcell)
 have P10:=P9.out.scan h hk10 hr10
 rw [← hT] at P10
 have M0:=Hid.mk (Q2W.start (n:=n) (sel:=⟨m.1,m.2,ty⟩) h P10)
 have E10:Hid (Q0n text at' σ = bnd (runy (Q1y text p 13 []) (t8,[])) (Q2r text n ⟨m.1,m.2,ty⟩) σ10):=E6.out.trans ((Qg (Q4x hx8)).trans ((Qg hx9).trans (Qg hx10)))
 clear hk10 hr10 P9 P10 E6 hx8 hx9 hx10 hne hq hbx hqb hlq hs2 hK2
 go_wp2
 go_loopw [10] (fun b ur=>∃ (y:Bool) (rs:Arms) (css:List Value) (bs:List (Nat×Obj)) (Y:List Nat) (t:List (List UInt8)) (l:List (Int×Int)) (sl:Value) (σ':St),b = .bool y∧rs.length≤l.length∧l.length≤12∧Hid (Q1e A text w w2.heap.size q bx w10.heap.size v p n ⟨m.1,m.2,ty⟩ rs css bs Y t l sl σ' ur) ∧
   Hid (Q0n text at' σ = bnd (runy (if y then Q1y text p (13 - rs.length) rs else Q1L text rs) (t,l)) (Q2r text n ⟨m.1,m.2,ty⟩) σ')) (fun _ ur=>13 - Q9F ur w10.heap.size)
 case atStart=>exact ⟨true,[],[],[],_,t8,[],_,σ10,rfl,by simp,by simp,M0,E10⟩
 case round=>
  obtain ⟨y,rs,css,bs,Y,t,l,sl,σ',rfl,hrl,hl12,M,E⟩:=hrel
  clear M0 E10
  obtain ⟨ad,cap,rfl⟩:=M.out.slice
  cases y with
  | false=>
   go_wp2_with fail
   refine (Q2v (Same.plus A Y) _ M.out.rd).mono ?_
   rintro e w5 ⟨hk5,⟨y5,σ5,hx5,rfl,hr5⟩ | ⟨f,hx5,b,hbb,rfl,hcell⟩⟩
   rotate_left
   ·exact (show bodyPost Tryz.prog Tryz.f90 (QC [A.R,A.S,A.N] A text w (Q0n text at' σ)) (Exit.panic _) _ w5 from Qb (QC.throws (M.out.kp.trans (hk5.mono (by simp))) M.out.kp (E.out.trans (Qq (Q2V (Ql (Qv hx5))))) hbb hcell))
   have M5:=Hid.mk (M.out.scan h hk5 hr5)
   clear hk5 hr5 M
   cases y5 with
   | false=>
    have E5:Hid (Q0n text at' σ = Q3o text n ⟨m.1,m.2,ty⟩ rs σ5):=E.out.trans (Qg (Q4x ((Qh (Qj hx5)).trans rfl)))
    clear E
    go_wp2_with fail
    refine (Q08 (Same.plus A _) _ M5.out.rd).mono ?_
    rintro e wa ⟨hka,⟨xa,σa,hxa,rfl,hra⟩ | ⟨f,hxa,b,hbb,rfl,hcell⟩⟩
    rotate_left
    ·exact (show bodyPost Tryz.prog Tryz.f90 (QC [A.R,A.S,A.N] A text w (Q0n text at' σ)) (Exit.panic _) _ wa from Qb (QC.throws (M5.out.kp.trans (hka.mono (by simp))) M5.out.kp (E5.out.trans (Qq hxa)) hbb hcell))
    have Ma:=Hid.mk (M5.out.scan h hka hra)
    clear hka hra
    go_wp2_with fail
    refine (Q08 (Same.plus A _) _ Ma.out.rd).mono ?_
    rintro e wb ⟨hkb,⟨xb,σb,hxb,rfl,hrb⟩ | ⟨f,hxb,b,hbb,rfl,hcell⟩⟩
    rotate_left
    ·exact (show bodyPost Tryz.prog Tryz.f90 (QC [A.R,A.S,A.N] A text w (Q0n text at' σ)) (Exit.panic _) _ wb from Qb (QC.throws (Ma.out.kp.trans (hkb.mono (by simp))) Ma.out.kp (E5.out.trans ((Qg hxa).trans (Qq hxb))) hbb hcell))
    have Mb:=Hid.mk (Ma.out.scan h hkb hrb)
    clear hkb hrb Ma
    go_wp2
    go_ret
    exact Mb.out.fin h (by omega) (E5.out.trans ((Qg hxa).trans (Qg hxb)))
   | true=>
    have E5:Hid (Q0n text at' σ = bnd (runy (bndx (lift (QS text [58])) fun _=>bndx (onL (arm text (Qr 0 0))) fun d=>retx (rs++[([],d)])) (t,l)) (Q2r text n ⟨m.1,m.2,ty⟩) σ5):=E.out.trans (Q7n (Q6t (Qh (Qj hx5))))
    clear E
    go_wp2_with fail
    refine (Q08 (Same.plus A Y) _ M5.out.rd).mono ?_
    rintro e w8 ⟨hk8,⟨x8,σ8,hx8,rfl,hr8⟩ | ⟨f,hx8,b,hbb,rfl,hcell⟩⟩
    rotate_left
    ·exact (show bodyPost Tryz.prog Tryz.f90 (QC [A.R,A.S,A.N] A text w (Q0n text at' σ)) (Exit.panic _) _ w8 from Qb (QC.throws (M5.out.kp.trans (hk8.mono (by simp))) M5.out.kp (E5.out.trans (Qq (Q2V (Ql (Qv hx8))))) hbb hcell))
    have M8:=Hid.mk (M5.out.scan h hk8 hr8)
    clear hk8 hr8 M5
    have E8:Hid (Q0n text at' σ = bnd (runy (bndx (onL (arm text (Qr 0 0))) fun d=>retx (rs++[([],d)])) (t,l)) (Q2r text n ⟨m.1,m.2,ty⟩) σ8):=E5.out.trans (Q7n (Q6t (Qh (Qj hx8))))
    clear E5
    have hbd:Below w8.heap.size w8 w8.drew:=(Below.refl _ _).drew
    obtain ⟨k2,k5,hfD⟩:=Q43 M8.out.box
    have MD:=Hid.mk (M8.out.below h hbd)
    have HC:=Hid.mk (Qfy (bx:=bx) (Same.plus A Y) (MD.out.free h (by simp)) MD.out.rd MD.out.set MD.out.cl)
    have hz3:(Value.agg #[.slice none 0 0,.string ⟨#[]⟩,.int .i64 0,.nilIface]).cells.size=4:=by decide
    have hl1:rs.length + 1≤maxLen:=by unfold maxLen;omega
    have hl2:(rs.length + 1) * 64≤140737488355328:=by omega
    clear M8
    go_wp2_with fail
    refine QH (fun w'=>w'.cell? ⟨w2.heap.size,5,none⟩=some (.slice ad rs.length cap)) (L:=13) (by kernel_rfl) rfl (by kernel_rfl) (by kernel_rfl) ?_ (fun hHeld=>?_)
    ·go_keep
    refine tk (i:=0) (v:=?_) rfl (by kernel_rfl) (fun _ _ _ h=>h) (by rfl) (by assumption) ?_ ?_
    rotate_left
    ·intro w hSw;(try dsimp only at hSw);go_simp;(try with_reducible rfl)
    (try simp only [Qd,Qe,List.set])
    refine tk (i:=1) (v:=?_) rfl (by kernel_rfl) (fun _ _ _ h=>h) (by rfl) (by assumption) ?_ ?_
    rotate_left
    ·intro w hSw;(try dsimp only at hSw);go_simp;(try with_reducible rfl)
    (try simp only [Qd,Qe,List.set])
    refine tk (i:=2) (v:=?_) rfl (by kernel_rfl) (fun _ _ _ h=>h) (by rfl) (by assumption) ?_ ?_
    rotate_left
    ·intro w hSw;(try dsimp only at hSw);go_simp;(try with_reducible rfl)
    (try simp only [Qd,Qe,List.set])
    refine tk (i:=3) (v:=?_) rfl (by kernel_rfl) (fun _ _ _ h=>h) (by rfl) (by assumption) ?_ ?_
    rotate_left
    ·intro w hSw;(try dsimp only at hSw);go_simp;(try with_reducible rfl)
    (try simp only [Qd,Qe,List.set])
    refine tk (i:=4) (v:=?_) rfl (by kernel_rfl) (fun _ _ _ h=>h) (by rfl) (by assumption) ?_ ?_
    rotate_left
    ·intro w hSw;(try dsimp only at hSw);go_simp;(try with_reducible rfl)
    (try simp only [Qd,Qe,List.set])
    refine tk (i:=5) (v:=?_) rfl (by kernel_rfl) (fun _ _ _ h=>h) (by rfl) (by assumption) ?_ ?_
    rotate_left
    ·intro w hSw;(try dsimp only at hSw);go_simp;(try with_reducible rfl)
    (try simp only [Qd,Qe,List.set])
    refine tk (i:=6) (v:=?_) rfl (by kernel_rfl) (fun _ _ _ h=>h) (by rfl) (by assumption) ?_ ?_
    rotate_left
    ·intro w hSw;(try dsimp only at hSw);go_simp;(try with_reducible rfl)
    (try simp only [Qd,Qe,List.set])
    refine wpAnyH_ready (rs:=[7]) (by kernel_rfl) (by simp) ?_
    refine AllReadyH.cons rfl (fun K hK=>?_) AllReadyH.nil
    (go_simp;go_at_call 134;refine HC.out.mono ?_;rintro e w6 ⟨hk6,⟨d,t6,σ6,hx6,rfl,hr6,hi6⟩ | ⟨f,hx6,b,hbb,rfl,hcell⟩⟩;rotate_left;exact (show bodyPost Tryz.prog Tryz.f90 (QC [A.R,A.S,A.N] A text w (Q0n text at' σ)) (Exit.panic _) _ w6 from Qb (QC.throws (MD.out.kp.young hk6 (by intro x hx;simp at hx ⊢;rcases hx with hx | hx;exact Or.inl (Or.inr (Or.inl hx));exact Or.inr (by have:=MD.out.new _ (MD.out.mine q (by simp));omega))) MD.out.kp (E8.out.trans (Qq (Q2V (Ql (Q5r hx6))))) hbb hcell));have M6:=Hid.mk (MD.out.turn h hk6 (by intro x hx;simp at hx;rcases hx with rfl | rfl;exact Or.inl rfl;exact Or.inr (Or.inl rfl)) hr6 hi6 (MD.out.nums.keeps hk6 (by have:=MD.out.nd.2.2;have:=MD.out.new _ (MD.out.mine w10.heap.size (by simp));simp [Ad.plus];omega)));obtain ⟨z2,z5,hfz⟩:=Q43 M6.out.box;have hl6:=Qc M6.out.box;have hne6:=Nat.ne_of_lt hl6;have hwl:=M6.out.kp.size;dsimp only [Q2S])
    refine hK.out _ _ ?_ (fun hHeld=>?_)
    ·go_keep
    clear hK K
    (try simp only [Qd,Qe,List.set])
    refine tk (i:=8) (v:=?_) rfl (by kernel_rfl) (fun _ _ _ h=>h) (by rfl) (by assumption) ?_ ?_
    rotate_left
    ·intro w hSw;(try dsimp only at hSw);go_simp;(try with_reducible rfl)
    (try simp only [Qd,Qe,List.set])
    refine wpAnyH_ready (rs:=[9]) (by kernel_rfl) (by simp) ?_
    refine AllReadyH.cons rfl (fun K hK=>?_) AllReadyH.nil
    go_simp
    refine hK.out _ _ ?_ (fun hHeld=>?_)
    ·go_keep
    clear hK K
    (try simp only [Qd,Qe,List.set])
    refine wpAnyH_ready (rs:=[10]) (by kernel_rfl) (by simp) ?_
    refine AllReadyH.cons rfl (fun K hK=>?_) AllReadyH.nil
    (refine step_append_lies _ (by rfl) _ _ _ (by rfl) w.heap.size 292 i0 _ 4 64 Tryz.underlying285 hi0 hz0 hz1 hz2 hz3 (by omega) (.slice ad rs.length cap) rs.length ((rs.zip css).flatMap armC) (by rfl) (M6.out.rowAt _) ⟨w6.heap.size,0,none⟩ 1 1 (armC (([],d),.slice none 0 0)) (by rfl) (by rfl) (World.news_of_block (cs:=(armC (([],d),.slice none 0 0)).toArray) (t:=292) (fr:=(0,0)) (heap_alloc_new w6 _)) (QdJ [] d none 0 0) (by omega) hl1 hl2 (by simp;omega) (w6.heap.size + 1) (by simp) ?_;intro g cap' w7 hown7 hgrow hat hlt;obtain ⟨y2,y5,hfy⟩:=Q43 (M6.out.boxAt hgrow))
    refine hK.out _ _ ?_ (fun hHeld=>?_)
    ·go_keep
    clear hK K
    (try simp only [Qd,Qe,List.set])
    refine tk (i:=11) (v:=?_) rfl (by kernel_rfl) (fun _ _ _ h=>h) (by rfl) (by assumption) ?_ ?_
    rotate_left
    ·intro w hSw;(try dsimp only at hSw);go_simp;(try with_reducible rfl)
    (try simp only [Qd,Qe,List.set])
    refine tk (i:=12) (v:=?_) rfl (by kernel_rfl) (fun _ _ _ h=>h) (by rfl) (by assumption) ?_ ?_
    rotate_left
    ·intro w hSw;(try dsimp only at hSw);go_simp;(try with_reducible rfl)
    (try simp only [Qd,Qe,List.set])
    refine wpAnyH_done (by kernel_rfl) ?_ _
    refine Q02 rfl (fun K hK=>?_)
    go_simp
    refine hK.out _ _ ?_
    clear hK K
    (try simp only [Qd,Qe,List.set])
    have M7:=Hid.mk (Q1e.step (bs':=[]) (cs:=[]) (cv:=.slice none 0 0) (d:=d) h M6.out (by intro p hp;cases hp) (Or.inl ⟨rfl,rfl,rfl⟩) ((Below.refl w6.heap.size w6).alloc (Nat.le_refl _) _) hown7 hgrow (by simpa using hat) hlt)
    clear hk6 hr6 hi6 hown7 hgrow hat hlt y2 y5 hfy z2 z5 hfz M6 HC MD
    have E9:Hid (Q0n text at' σ = Q3o text n ⟨m.1,m.2,ty⟩ (rs++[([],d)]) σ6):=E8.out.trans (Qg (Q4x ((Qh (Q6s hx6)).trans rfl)))
    clear E8
    go_wp2_with fail
    refine (Q08 (Same.plus A _) _ M7.out.rd).mono ?_
    rintro e wa ⟨hka,⟨xa,σa,hxa,rfl,hra⟩ | ⟨f,hxa,b,hbb,rfl,hcell⟩⟩
    rotate_left
    ·exact (show bodyPost Tryz.prog Tryz.f90 (QC [A.R,A.S,A.N] A text w (Q0n text at' σ)) (Exit.panic _) _ wa from Qb (QC.throws (M7.out.kp.trans (hka.mono (by simp))) M7.out.kp (E9.out.trans (Qq hxa)) hbb hcell))
    have Ma:=Hid.mk (M7.out.scan h hka hra)
    clear hka hra
    go_wp2_with fail
    refine (Q08 (Same.plus A _) _ Ma.out.rd).mono ?_
    rintro e wb ⟨hkb,⟨xb,σb,hxb,rfl,hrb⟩ | ⟨f,hxb,b,hbb,rfl,hcell⟩⟩
    rotate_left
    ·exact (show bodyPost Tryz.prog Tryz.f90 (QC [A.R,A.S,A.N] A text w (Q0n text at' σ)) (Exit.panic _) _ wb from Qb (QC.throws (Ma.out.kp.trans (hkb.mono (by simp))) Ma.out.kp (E9.out.trans ((Qg hxa).trans (Qq hxb))) hbb hcell))
    have Mb:=Hid.mk (Ma.out.scan h hkb hrb)
    clear hkb hrb Ma
    go_wp2
    go_ret
    exact Mb.out.fin h (by simp;omega) (E9.out.trans ((Qg hxa).trans (Qg hxb)))
  | true=>
   have EM:Hid (Q0n text at' σ = bnd (runy (Q1y text p ((12 - rs.length) + 1) rs) (t,l)) (Q2r text n ⟨m.1,m.2,ty⟩) σ'):=by
    have h1:=E.out
    rw [show 13 - rs.length=(12 - rs.length) + 1 by omega] at h1
    exact h1
   clear E
   go_wp2_with fail
   refine (QgL (Same.plus A Y) M.out.rd M.out.fit (M.out.free h (by simp)) M.out.nums).mono ?_
   rintro e w5 ⟨hk5,⟨cs,l5,σ5,cv,bs5,hx5,rfl,hr5,hn5,hsl5,hh5⟩ | ⟨f,hx5,b,hbb,rfl,hcell⟩⟩
   rotate_left
   ·exact (show bodyPost Tryz.prog Tryz.f90 (QC [A.R,A.S,A.N] A text w (Q0n text at' σ)) (Exit.panic _) _ w5 from Qb (QC.throws (M.out.kp.young hk5 (by intro x hx;simp at hx ⊢;rcases hx with hx | hx;exact Or.inl (Or.inr (Or.inl hx));exact Or.inr (by have:=M.out.new _ (M.out.mine w10.heap.size (by simp));omega))) M.out.kp (EM.out.trans (Qfz hx5)) hbb hcell))
   have hc5:=Qej _ _ _ _ _ _ _ hx5
   have M5:=Hid.mk (M.out.turn h hk5 (by intro x hx;simp at hx;rcases hx with rfl | rfl;exact Or.inl rfl;exact Or.inr (Or.inr rfl)) hr5 (M.out.set.keeps hk5 (by have:=M.out.nd.2.2;have:=M.out.new _ (M.out.mine q (by simp));simp [Ad.plus];omega)) hn5)
   have L1:=Q8V M.out.nums
   have E5:Hid (Q0n text at' σ = bnd (runy (Qhu text p (12 - rs.length) rs cs) (t,l5)) (Q2r text n ⟨m.1,m.2,ty⟩) σ5):=EM.out.trans (QgM hx5)
   obtain ⟨ca,cn,cc,rfl⟩:∃ a b c,cv = .slice a b c:=by rcases hsl5 with ⟨rfl,_⟩ | ⟨g,cap,cur,rfl,_⟩<;>exact ⟨_,_,_,rfl⟩
   clear EM hk5 hr5 hn5 M
   have hbd:Below w5.heap.size w5 w5.drew:=(Below.refl _ _).drew
   obtain ⟨k2,k5,hfD⟩:=Q43 M5.out.box
   have MD:=Hid.mk (M5.out.below h hbd)
   have HC:=Hid.mk (Qfy (bx:=bx) (Same.plus A Y) (MD.out.free h (by simp)) MD.out.rd MD.out.set MD.out.cl)
   have hz3:(Value.agg #[.slice none 0 0,.string ⟨#[]⟩,.int .i64 0,.nilIface]).cells.size=4:=by decide
   have hl1:rs.length + 1≤maxLen:=by unfold maxLen;omega
   have hl2:(rs.length + 1) * 64≤140737488355328:=by omega
   have hh6:∀ w6,Qa [A.S,q] w5.drew w6→Held (A.plus Y).X bs5 w6:=fun w6 hk6=>(hh5.keeps (Qa.of_below [] hbd) (by simp)).keeps hk6 (by intro x hx;simp at hx;rcases hx with rfl | rfl;exact MD.out.rd.mine.2.1;exact List.mem_append_left _ (MD.out.mine _ (by simp)))
   have HH:=Hid.mk hh6
   have HS:=Hid.mk hsl5
   clear M5 hh6 hh5 hsl5
   go_wp2_with fail
   refine QH (fun w'=>w'.cell? ⟨w2.heap.size,5,none⟩=some (.slice ad rs.length cap)) (L:=14) (by kernel_rfl) rfl (by kernel_rfl) (by kernel_rfl) ?_ (fun hHeld=>?_)
   ·go_keep
   refine tk (i:=0) (v:=?_) rfl (by kernel_rfl) (fun _ _ _ h=>h) (by rfl) (by assumption) ?_ ?_
   rotate_left
   ·intro w hSw;(try dsimp only at hSw);go_simp;(try with_reducible rfl)
   (try simp only [Qd,Qe,List.set])
   refine tk (i:=1) (v:=?_) rfl (by kernel_rfl) (fun _ _ _ h=>h) (by rfl) (by assumption) ?_ ?_
   rotate_left
   ·intro w hSw;(try dsimp only at hSw);go_simp;(try with_reducible rfl)
   (try simp only [Qd,Qe,List.set])
   refine tk (i:=2) (v:=?_) rfl (by kernel_rfl) (fun _ _ _ h=>h) (by rfl) (by assumption) ?_ ?_
   rotate_left
   ·intro w hSw;(try dsimp only at hSw);go_simp;(try with_reducible rfl)
   (try simp only [Qd,Qe,List.set])
   refine tk (i:=3) (v:=?_) rfl (by kernel_rfl) (fun _ _ _ h=>h) (by rfl) (by assumption) ?_ ?_
   rotate_left
   ·intro w hSw;(try dsimp only at hSw);go_simp;(try with_reducible rfl)
   (try simp only [Qd,Qe,List.set])
   refine tk (i:=4) (v:=?_) rfl (by kernel_rfl) (fun _ _ _ h=>h) (by rfl) (by assumption) ?_ ?_
   rotate_left
   ·intro w hSw;(try dsimp only at hSw);go_simp;(try with_reducible rfl)
   (try simp only [Qd,Qe,List.set])
   refine tk (i:=5) (v:=?_) rfl (by kernel_rfl) (fun _ _ _ h=>h) (by rfl) (by assumption) ?_ ?_
   rotate_left
   ·intro w hSw;(try dsimp only at hSw);go_simp;(try with_reducible rfl)
   (try simp only [Qd,Qe,List.set])
   refine tk (i:=6) (v:=?_) rfl (by kernel_rfl) (fun _ _ _ h=>h) (by rfl) (by assumption) ?_ ?_
   rotate_left
   ·intro w hSw;(try dsimp only at hSw);go_simp;(try with_reducible rfl)
   (try simp only [Qd,Qe,List.set])
   refine tk (i:=7) (v:=?_) rfl (by kernel_rfl) (fun _ _ _ h=>h) (by rfl) (by assumption) ?_ ?_
   rotate_left
   ·intro w hSw;(try dsimp only at hSw);go_simp;(try with_reducible rfl)
   (try simp only [Qd,Qe,List.set])
   refine wpAnyH_ready (rs:=[8]) (by kernel_rfl) (by simp) ?_
   refine AllReadyH.cons rfl (fun K hK=>?_) AllReadyH.nil
   (go_simp;go_at_call 134;refine HC.out.mono ?_;rintro e w6 ⟨hk6,⟨d,t6,σ6,hx6,rfl,hr6,hi6⟩ | ⟨f,hx6,b,hbb,rfl,hcell⟩⟩;rotate_left;exact (show bodyPost Tryz.prog Tryz.f90 (QC [A.R,A.S,A.N] A text w (Q0n text at' σ)) (Exit.panic _) _ w6 from Qb (QC.throws (MD.out.kp.young hk6 (by intro x hx;simp at hx ⊢;rcases hx with hx | hx;exact Or.inl (Or.inr (Or.inl hx));exact Or.inr (by have:=MD.out.new _ (MD.out.mine q (by simp));omega))) MD.out.kp (E5.out.trans (Qq (Q2V (Ql (Q5r hx6))))) hbb hcell));have M6:=Hid.mk (MD.out.turn h hk6 (by intro x hx;simp at hx;rcases hx with rfl | rfl;exact Or.inl rfl;exact Or.inr (Or.inl rfl)) hr6 hi6 (MD.out.nums.keeps hk6 (by have:=MD.out.nd.2.2;have:=MD.out.new _ (MD.out.mine w10.heap.size (by simp));simp [Ad.plus];omega)));obtain ⟨z2,z5,hfz⟩:=Q43 M6.out.box;have hl6:=Qc M6.out.box;have hne6:=Nat.ne_of_lt hl6;have hwl:=M6.out.kp.size;dsimp only [Q2S])
   refine hK.out _ _ ?_ (fun hHeld=>?_)
   ·go_keep
   clear hK K
   (try simp only [Qd,Qe,List.set])
   refine tk (i:=9) (v:=?_) rfl (by kernel_rfl) (fun _ _ _ h=>h) (by rfl) (by assumption) ?_ ?_
   rotate_left
   ·intro w hSw;(try dsimp only at hSw);go_simp;(try with_reducible rfl)
   (try simp only [Qd,Qe,List.set])
   refine wpAnyH_ready (rs:=[10]) (by kernel_rfl) (by simp) ?_
   refine AllReadyH.cons rfl (fun K hK=>?_) AllReadyH.nil
   go_simp
   refine hK.out _ _ ?_ (fun hHeld=>?_)
   ·go_keep
   clear hK K
   (try simp only [Qd,Qe,List.set])
   refine wpAnyH_ready (rs:=[11]) (by kernel_rfl) (by simp) ?_
   refine AllReadyH.cons rfl (fun K hK=>?_) AllReadyH.nil
   (refine step_append_lies _ (by rfl) _ _ _ (by rfl) w.heap.size 292 i0 _ 4 64 Tryz.underlying285 hi0 hz0 hz1 hz2 hz3 (by omega) (.slice ad rs.length cap) rs.length ((rs.zip css).flatMap armC) (by rfl) (M6.out.rowAt _) ⟨w6.heap.size,0,none⟩ 1 1 (armC ((cs,d),.slice ca cn cc)) (by rfl) (by rfl) (World.news_of_block (cs:=(armC ((cs,d),.slice ca cn cc)).toArray) (t:=292) (fr:=(0,0)) (heap_alloc_new w6 _)) (QdJ cs d ca cn cc) (by omega) hl1 hl2 (by simp;omega) (w6.heap.size + 1) (by simp) ?_;intro g cap' w7 hown7 hgrow hat hlt;obtain ⟨y2,y5,hfy⟩:=Q43 (M6.out.boxAt hgrow))
   refine hK.out _ _ ?_ (fun hHeld=>?_)
   ·go_keep
   clear hK K
   (try simp only [Qd,Qe,List.set])
   refine tk (i:=12) (v:=?_) rfl (by kernel_rfl) (fun _ _ _ h=>h) (by rfl) (by assumption) ?_ ?_
   rotate_left
   ·intro w hSw;(try dsimp only at hSw);go_simp;(try with_reducible rfl)
   (try simp only [Qd,Qe,List.set])
   refine tk (i:=13) (v:=?_) rfl (by kernel_rfl) (fun _ _ _ h=>h) (by rfl) (by assumption) ?_ ?_
   rotate_left
   ·intro w hSw;(try dsimp only at hSw);go_simp;(try with_reducible rfl)
   (try simp only [Qd,Qe,List.set])
   refine wpAnyH_done (by kernel_rfl) ?_ _
   refine Q02 rfl (fun K hK=>?_)
   go_simp
   refine hK.out _ _ ?_
   clear hK K
   (try simp only [Qd,Qe,List.set])
   have M7:=Hid.mk (Q1e.step (cs:=cs) (cv:=.slice ca cn cc) (d:=d) h M6.out (HH.out w6 hk6) (HS.out) ((Below.refl w6.heap.size w6).alloc (Nat.le_refl _) _) hown7 hgrow (by simpa using hat) hlt)
   clear hk6 hr6 hi6 hown7 hgrow hat hlt y2 y5 hfy z2 z5 hfz M6 HC MD
   have E7:Hid (Q0n text at' σ = bnd (runy (bndx (lift (sees text [99,97,115,101])) fun y=>if y then Q1y text p (12 - rs.length) (rs++[(cs,d)]) else Q1L text (rs++[(cs,d)])) (t6,l5)) (Q2r text n ⟨m.1,m.2,ty⟩) σ6):=E5.out.trans (Q7n (Q6t (Qh (Q6s hx6))))
   clear E5
   go_wp2_with fail
   refine (Q7T (Same.plus A (g :: Y)) _ M7.out.rd).mono ?_
   rintro e w8 ⟨hk8,⟨y8,σ8,hx8,rfl,hr8⟩ | ⟨f,hx8,b,hbb,rfl,hcell⟩⟩
   rotate_left
   ·exact (show bodyPost Tryz.prog Tryz.f90 (QC [A.R,A.S,A.N] A text w (Q0n text at' σ)) (Exit.panic _) _ w8 from Qb (QC.throws (M7.out.kp.trans (hk8.mono (by simp))) M7.out.kp (E7.out.trans (Qq (Q2V (Ql (Qv hx8))))) hbb hcell))
   have M8:=Hid.mk (M7.out.scan h hk8 hr8)
   clear hk8 hr8 M7
   have E8:Hid (Q0n text at' σ = bnd (runy (if y8=true then Q1y text p (13 - (rs++[(cs,d)]).length) (rs++[(cs,d)]) else Q1L text (rs++[(cs,d)])) (t6,l5)) (Q2r text n ⟨m.1,m.2,ty⟩) σ8):=by
    refine E7.out.trans (Q7n (Q6t ((Qh (Qj hx8)).trans ?_)))
    have:13 - (rs++[(cs,d)]).length=12 - rs.length:=by simp
    rw [this]
   have L2:=Q8V M8.out.nums
   clear E7
   go_wp2
   refine ⟨⟨y8,rs++[(cs,d)],_,_,g :: Y,t6,l5,_,σ8,rfl,by simp;omega,by omega,M8,E8⟩,?_⟩
   rw [L1,L2]
   omega
end Go.Proofs.YtmbcibgknckenaaGreatDoor
