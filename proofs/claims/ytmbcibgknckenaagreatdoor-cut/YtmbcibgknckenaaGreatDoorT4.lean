import Derived.Test.YtmbcibgknckenaaGreatDoorT3
set_option linter.all false
set_option maxRecDepth 100000
set_option maxHeartbeats 4000000
namespace Go.Proofs.YtmbcibgknckenaaGreatDoor
open Go.RowKit
open Go.MapKept
theorem QdV:(Tryz.prog.info? 2).map (fun i=>(i.zero,i.size,i.bytes))=some (some (.int .i64 0),1,8):=by kernel_rfl
def Q2c (text:ByteArray) (p:Int→Bool):Nat→List Int→PX (List (Int×Int)) (List Int)
 | 0,_=>lift (thr 0 0)
 | k + 1,cs=>bndx (lift (QX text [99,97,115,101])) fun x l=>bndx (lift (Q1A l.length 12 x.at')) (fun _=>bndx (number text p) fun n=>bndx (lift (QX text [58])) fun _=>
   bndx (lift (sees text [99,97,115,101])) fun y=>if y then Q2c text p k (cs++[n]) else retx (cs++[n])) l
def cases (text:ByteArray) (p:Int→Bool):PX (List (Int×Int)) (List Int):=Q2c text p 13 []
theorem Fits.grow {X:List Nat} {v:Value} {p:Int→Bool} {u u':World} {row:Option Nat} {g:Nat} (h:Fits X v p u) (hg:u.grownBy u' row) (hr:∀ b,row=some b→b∈X) (hat:row=some g∨g=u.heap.size):Fits (g :: X) v p u':=by
 obtain ⟨bs,f,pre,post,h1,h2,h3,h4⟩:=h
 exact ⟨bs,f,pre,post,h1,h2.grow hg hr hat,h3,fun W hW=>h4 W (hW.sub fun _ hx=>List.mem_cons_of_mem _ hx)⟩
structure Q2l (A:Ad) (text:ByteArray) (w:World) (q:Nat) (v:Value) (p:Int→Bool) (cs:List Int) (Y:List Nat) (l:List (Int×Int)) (sl:Value) (σ:St) (u:World):Prop where
 kp:Qb [A.S,q] w u
 rd:Rd (A.plus Y) text σ u
 new:∀ y∈Y,w.heap.size≤y
 own:∀ g,sl.ownBlock=some g→g∈Y
 nums:QT q l u
 fit:Fits (A.plus Y).X v p u
 row:u.ownsRow w.heap.size 2 1 sl cs.length (cs.map fun n=>Value.int .i64 n)
theorem Q2l.slice {A:Ad} {text:ByteArray} {w u:World} {q:Nat} {v:Value} {p:Int→Bool} {cs:List Int} {Y:List Nat} {l:List (Int×Int)} {sl:Value} {σ:St} (m:Q2l A text w q v p cs Y l sl σ u):∃ ad cap,sl = .slice ad cs.length cap:=by
 rcases m.row.2 with ⟨rfl,h⟩ | ⟨g,cap,cur,rfl,_⟩
 ·exact ⟨none,0,by rw [h]⟩
 ·exact ⟨_,_,rfl⟩
theorem Q2l.free {A:Ad} {text:ByteArray} {w u:World} {q:Nat} {v:Value} {p:Int→Bool} {cs:List Int} {Y:List Nat} {l:List (Int×Int)} {sl:Value} {σ:St} (hq:Free A q) (_m:Q2l A text w q v p cs Y l sl σ u):Free (A.plus Y) q:=
 ⟨List.mem_append_right _ hq.1,hq.2.1,hq.2.2.1,hq.2.2.2.1,hq.2.2.2.2⟩
theorem Q2l.scan {A:Ad} {text:ByteArray} {w u u':World} {q:Nat} {v:Value} {p:Int→Bool} {cs:List Int} {Y:List Nat} {l:List (Int×Int)} {sl:Value} {σ σ' σ0:St} (h0:Rd A text σ0 w) (hq:Free A q) (m:Q2l A text w q v p cs Y l sl σ u) (hk:Qb [A.S] u u') (hr:Rd (A.plus Y) text σ' u') :
  Q2l A text w q v p cs Y l sl σ' u':=by
 obtain ⟨l1,l2,l3,l4⟩:=h0.lt
 refine ⟨m.kp.trans (hk.mono (by simp)),hr,m.new,m.own,m.nums.keeps hk (by simp;exact hq.2.2.1),m.fit.keeps hk (by intro x hx;simp only [List.mem_singleton] at hx;subst hx;exact hr.mine.2.1),Qk m.row hk ?_⟩
 intro g hg
 have:=m.new _ (m.own g hg)
 simp;omega
theorem Q2l.below {A:Ad} {text:ByteArray} {w u u':World} {q:Nat} {v:Value} {p:Int→Bool} {cs:List Int} {Y:List Nat} {l:List (Int×Int)} {sl:Value} {σ:St} (m:Q2l A text w q v p cs Y l sl σ u) (hb:Below u.heap.size u u'):Q2l A text w q v p cs Y l sl σ u':=by
 have hk:=Qb.of_below [] hb
 exact ⟨m.kp.trans (hk.mono (by simp)),m.rd.below hb,m.new,m.own,m.nums.keeps hk (by simp),m.fit.keeps hk (by simp),Qk m.row hk (by simp)⟩
theorem Q2l.step {A:Ad} {text:ByteArray} {w u u1 u2 u3:World} {q g cap:Nat} {v:Value} {p:Int→Bool} {cs:List Int} {Y:List Nat} {l l':List (Int×Int)} {sl:Value} {σ σ' σ0:St} {n:Int} (h0:Rd A text σ0 w) (hq:Free A q)
  (e:Q2l A text w q v p cs Y l sl σ u) (hk:Qb [A.S,q] u u1) (hr:Rd (A.plus Y) text σ' u1) (hn:QT q l' u1) (hb:Below u1.heap.size u1 u2)
  (hown:u3.ownsRow w.heap.size 2 1 (.slice (some ⟨g,0,none⟩) (cs.length + 1) cap) (cs.length + 1) ((cs.map fun n=>Value.int .i64 n)++[.int .i64 n]))
  (hg:u2.grownBy u3 sl.ownBlock) (hat:sl.ownBlock=some g∨g=u2.heap.size) (hlt:g < u3.heap.size) :
  Q2l A text w q v p (cs++[n]) (g :: Y) l' (.slice (some ⟨g,0,none⟩) (cs.length + 1) cap) σ' u3:=by
 obtain ⟨hwg,_⟩:=Q0z hown (g:=g) rfl
 have hrow:∀ b,sl.ownBlock=some b→w.heap.size≤b∧b∈(A.plus Y).X:=fun b hb=>⟨e.new _ (e.own b hb),List.mem_append_left _ (e.own b hb)⟩
 have hkg:=Q05 hg
 have hkb:Qb [] u1 u2:=Qb.of_below _ hb
 have lq:=h0.old _ hq.1
 have hX:∀ m∈[A.S,q],m∈(A.plus Y).X:=by
  intro x hx
  simp at hx
  rcases hx with rfl | rfl
  ·exact hr.mine.2.1
  ·exact List.mem_append_right _ hq.1
 refine ⟨?_,Rd.grow h0 (Same.plus A Y) (hr.below hb) hg hrow hat hlt,?_,?_,?_,?_,?_⟩
 ·refine ((e.kp.trans hk).young hkb (by simp)).young hkg ?_
  intro m hm
  exact Or.inr (hrow m (by simpa using hm)).1
 ·intro y hy
  rcases List.mem_cons.1 hy with rfl | hy
  ·exact hwg
  ·exact e.new y hy
 ·intro g' h'
  simp only [Value.ownBlock,Option.some.injEq] at h'
  subst h'
  exact List.mem_cons_self
 ·refine (hn.keeps hkb (by simp)).keeps hkg ?_
  intro hm
  have:=(hrow q (by simpa using hm)).1
  omega
 ·exact ((e.fit.keeps hk hX).keeps hkb (by simp)).grow hg (fun b hb=>(hrow b hb).2) hat
 ·simpa using hown
def Q2d (A:Ad) (text:ByteArray) (w:World) (q:Nat) (r:Except Mar.Fault (List Int×List (Int×Int)×St)) (e:Ending) (w':World):Prop:=
 Qb [A.S,q] w w'∧((∃ cs l' σ' sl bs,r = .ok (cs,l',σ')∧e = .returned sl∧Rd A text σ' w'∧QT q l' w'∧Q0u bs 2 sl cs.length (cs.map fun n=>Value.int .i64 n)∧Held A.X bs w')∨(∃ f,r = .error f∧Q0c w f.no f.at' e w'))
theorem Q2d.throws {A:Ad} {M':List Nat} {text:ByteArray} {w w1 w':World} {q:Nat} {r:Except Mar.Fault (List Int×List (Int×Int)×St)} {f:Mar.Fault} {b:Nat}
  (hk:Qb [A.S,q] w w') (hk1:Qb M' w w1) (hr:r = .error f) (hb:w1.heap.size≤b) (hc:w'.heap[b]? = some (.cells #[.int .i64 f.no,.int .i64 f.at'] 83)) :
  Q2d A text w q r (.panicked [{ v:=.iface 79 (.pointer (some ⟨b,0,none⟩)),recovered:=false }]) w':=⟨hk,Or.inr ⟨f,hr,b,Nat.le_trans hk1.size hb,rfl,hc⟩⟩
theorem Q2l.fin {A:Ad} {text:ByteArray} {w u:World} {q:Nat} {v:Value} {p:Int→Bool} {cs:List Int} {Y:List Nat} {l:List (Int×Int)} {sl:Value} {σ σ0:St} (h0:Rd A text σ0 w) (m:Q2l A text w q v p cs Y l sl σ u) (hle:cs.length≤12)
  {r:Except Mar.Fault (List Int×List (Int×Int)×St)} (hr:r = .ok (cs,l,σ)):Q2d A text w q r (.returned sl) u:=by
 have far:∀ b,w.heap.size≤b→b ∉ A.X:=fun b hb hm=>by have:=h0.old _ hm;omega
 refine ⟨m.kp,Or.inl ⟨cs,l,σ,sl,?_⟩⟩
 rcases m.row.2 with ⟨rfl,h⟩ | ⟨g,cap,cur,rfl,hg1,hg2,hg3,hg4,hg5,hg6⟩
 ·have:cs=[]:=List.length_eq_zero_iff.1 h
  subst this
  exact ⟨[],hr,rfl,Rd.dropAll h0.mine m.rd,m.nums,Or.inl ⟨rfl,rfl,rfl⟩,by intro p hp;cases hp⟩
 ·refine ⟨[(g,.cells cur 2)],hr,rfl,Rd.dropAll h0.mine m.rd,m.nums,Or.inr ⟨g,cap,cur,rfl,⟨hg3,by omega⟩,by simp,?_⟩,?_⟩
  ·rw [Nat.mul_one] at hg6
   rw [List.length_map]
   exact hg6
  ·intro p hp
   simp only [List.mem_singleton] at hp
   subst hp
   exact ⟨hg2,far _ hg1⟩
def Qbr:Value→Nat
 | .slice _ n _=>n
 | _=>0
def QbU (text:ByteArray) (p:Int→Bool) (k:Nat) (cs:List Int):PX (List (Int×Int)) (List Int):=bndx (number text p) fun n=>bndx (lift (QX text [58])) fun _=>
   bndx (lift (sees text [99,97,115,101])) fun y=>if y then Q2c text p k (cs++[n]) else retx (cs++[n])
theorem Q7e {text:ByteArray} {p:Int→Bool} {k:Nat} {cs:List Int} {l:List (Int×Int)} {σ:St} {f:Mar.Fault} (h:QX text [99,97,115,101] σ = .error f):Q2c text p (k + 1) cs l σ = .error f:=by
 simp only [Q2c]
 exact Qm (Qx h)
theorem Q6E {text:ByteArray} {p:Int→Bool} {k:Nat} {cs:List Int} {l:List (Int×Int)} {σ σ1:St} {x:Mar.Word} (h:QX text [99,97,115,101] σ = .ok (x,σ1)) (hl:12≤l.length):Q2c text p (k + 1) cs l σ = .error ⟨5,x.at'⟩:=by
 simp only [Q2c]
 exact (Qi (Ql h)).trans (Qm (Qx (show Q1A l.length 12 x.at' σ1=_ from if_pos hl)))
theorem Q7T {text:ByteArray} {p:Int→Bool} {k:Nat} {cs:List Int} {l:List (Int×Int)} {σ σ1:St} {x:Mar.Word} (h:QX text [99,97,115,101] σ = .ok (x,σ1)) (hl:¬ 12≤l.length):Q2c text p (k + 1) cs l σ = QbU text p k cs l σ1:=by
 simp only [Q2c]
 exact (Qi (Ql h)).trans (Qi (Ql (show Q1A l.length 12 x.at' σ1=_ from if_neg hl)))
theorem Q7f {text:ByteArray} {p:Int→Bool} {l l':List (Int×Int)} {σ σ':St} {n:Int} (h:number text p l σ = .ok (n,l',σ')):l'.length=l.length + 1:=by
 unfold number at h
 cases hv:value text p σ with
 | error f=>rw [Qm (Qx hv)] at h;cases h
 | ok q=>
  obtain ⟨q,σ1⟩:=q
  rw [Qi (Ql hv)] at h
  cases hc:Q3T q.1 q.2 l ⟨6,q.2⟩ with
  | error f=>rw [Qm (Q4M hc)] at h;cases h
  | ok l2=>
   rw [Qi (Q5A hc)] at h
   simp only [retx] at h
   cases h
   unfold Q3T at hc
   split at hc<;>cases hc
   simp
theorem QbV {q:Nat} {l:List (Int×Int)} {w:World} (h:QT q l w) (ty:TypeId):(Builtin.len_ #[105] ty #[.map (some q)]).run Tryz.prog w = .ok (.int .i64 l.length) w:=by
 have h':w.heap[q]? = some (.map (l.mapIdx fun i p=>(⟨.int .i64 p.1,.int .i64 p.2,i⟩:MapEntry)).toArray l.length):=h
 have:=run_len_map (P:=Tryz.prog) w 105 ty q _ _ (by kernel_rfl) h'
 rw [this]
 simp [goInt]
theorem Qg6 {A:Ad} {text:ByteArray} {σ:St} {v:Value} {p:Int→Bool} {q:Nat} {l0:List (Int×Int)} {w:World} (h:Rd A text σ w) (hf:Fits A.X v p w) (hq:Free A q) (hn:QT q l0 w) :
  Calls Tryz.prog 133 #[.pointer (some ⟨A.R,0,none⟩),.map (some q),v] w (Q2d A text w q (cases text p l0 σ)):=by
 obtain ⟨i0,hi0,hz0,hz1,hz2⟩:=info_parts QdV
 have M0:Hid (Q2l A text w q v p [] [] l0 (.slice none 0 0) σ w):=⟨Qb.refl _ _,h,by simp,(by intro g hg;cases hg),hn,hf,⟨rfl,Or.inl ⟨rfl,rfl⟩⟩⟩
 go_enter Tryz.func133,Tryz.ntmps133
 go_wp2
 go_loopw [7,8] (fun sl b u=>∃ (y:Bool) (cs:List Int) (Y:List Nat) (l:List (Int×Int)) (σ':St),b = .bool y∧cs.length≤12∧cs.length≤l.length∧Hid (Q2l A text w q v p cs Y l sl σ' u) ∧
   Hid (cases text p l0 σ = (if y then Q2c text p (13 - cs.length) cs else retx cs) l σ')) (fun sl _ _=>13 - Qbr sl)
 case atStart=>exact ⟨true,[],[],l0,σ,rfl,by simp,by simp,M0,rfl⟩
 case round=>
  obtain ⟨y,cs,Y,l,σ',rfl,hlen,hll,M,E⟩:=hrel
  obtain ⟨ad,cap,rfl⟩:=M.out.slice
  clear M0
  cases y with
  | false=>
   go_wp2
   go_ret
   exact M.out.fin h hlen E.out
  | true=>
   have EM:Hid (cases text p l0 σ = Q2c text p ((12 - cs.length) + 1) cs l σ'):=by
    have h1:=E.out
    rw [show 13 - cs.length=(12 - cs.length) + 1 by omega] at h1
    exact h1
   clear E
   go_wp2_with fail
   refine (Q02 (Same.plus A Y) _ M.out.rd).mono ?_
   rintro e w5 ⟨hk5,⟨x5,σ5,hx5,rfl,hr5⟩ | ⟨f,hx5,b,hbb,rfl,hcell⟩⟩
   rotate_left
   ·exact (show bodyPost Tryz.prog Tryz.f133 (Q2d A text w q (cases text p l0 σ)) (Exit.panic _) _ w5 from Qa (Q2d.throws (M.out.kp.trans (hk5.mono (by simp))) M.out.kp (EM.out.trans (Q7e hx5)) hbb hcell))
   have M5:=Hid.mk ((M.out.scan h hq hk5 hr5).below ((Below.refl _ _).alloc (Nat.le_refl _) (.cells #[.int .i64 x5.kind,.string ⟨x5.text.toArray⟩,.int .i64 x5.n,.int .i64 x5.at'] 110)))
   have hnl:=QbV M5.out.nums
   clear hk5 hr5 M
   dsimp only [QZ]
   go_wp2_with fail
   by_cases hfi:12≤l.length
   ·refine (Q3p _ _ _ _ (by omega)).mono ?_
    rintro e w6 ⟨⟨b,hbb,rfl,hcell⟩,hb⟩
    exact (show bodyPost Tryz.prog Tryz.f133 (Q2d A text w q (cases text p l0 σ)) (Exit.panic _) _ w6 from Qa (Q2d.throws (f:=⟨5,x5.at'⟩) (M5.out.kp.trans (Qb.of_below _ hb)) M5.out.kp (EM.out.trans (Q6E hx5 hfi)) hbb hcell))
   refine (Q4L _ _ _ _ (by omega)).mono ?_
   rintro e w6 ⟨rfl,rfl⟩
   have ER:Hid (cases text p l0 σ = QbU text p (12 - cs.length) cs l σ5):=EM.out.trans (Q7T hx5 hfi)
   clear EM hnl
   go_wp2_with fail
   refine (QaE (Same.plus A Y) M5.out.rd M5.out.fit (M5.out.free hq) M5.out.nums).mono ?_
   rintro e w7 ⟨hk7,⟨n,l7,σ7,hx7,rfl,hr7,hn7⟩ | ⟨f,hx7,b,hbb,rfl,hcell⟩⟩
   rotate_left
   ·exact (show bodyPost Tryz.prog Tryz.f133 (Q2d A text w q (cases text p l0 σ)) (Exit.panic _) _ w7 from Qa (Q2d.throws (M5.out.kp.trans hk7) M5.out.kp (ER.out.trans (Qm hx7)) hbb hcell))
   dsimp only [intV]
   have hown5:∀ o,(w7.alloc o).ownsRow w.heap.size 2 1 (.slice ad cs.length cap) cs.length (cs.map fun n=>Value.int .i64 n):=by
    intro o
    refine Qk (Qk M5.out.row hk7 ?_) ((Qb.refl [] w7).alloc o) (by simp)
    intro g hg
    have h1:=M5.out.new _ (M5.out.own g hg)
    have h2:=h.old _ hq.1
    have h3:=h.lt.2.1
    simp;omega
   have hwl:w.heap.size≤w7.heap.size:=Nat.le_trans M5.out.kp.size hk7.size
   have hl1:cs.length + 1≤maxLen:=by unfold maxLen;omega
   have hl2:(cs.length + 1) * 8≤140737488355328:=by omega
   have hz3:(Value.int .i64 0).cells.size=1:=rfl
   have hl7:=Q7f hx7
   have hL:=Hid.mk hll
   clear hll
   go_wp2_with (first
    | (at_builtin;refine wpList_append_lies _ (by rfl) _ _ _ (by rfl) w.heap.size 2 i0 _ 1 8 Tryz.underlying198 hi0 hz0 hz1 hz2 hz3 (by omega) (.slice ad cs.length cap) cs.length (cs.map fun n=>Value.int .i64 n) (by rfl) (hown5 _) ⟨w7.heap.size,0,none⟩ 1 1 [.int .i64 n] (by rfl) (by rfl) (World.news_of_block (cs:=#[.int .i64 n]) (t:=2) (fr:=(0,0)) (heap_alloc_new w7 _)) (by simp [Value.oneCell']) (by omega) hl1 hl2 (by simp;omega) (w7.heap.size + 1) (by simp) ?_;intro g cap' w8 hown8 hgrow hat hlt))
   have M8:=Hid.mk (Q2l.step h hq M5.out hk7 hr7 hn7 ((Below.refl w7.heap.size w7).alloc (Nat.le_refl _) _) hown8 hgrow (by simpa using hat) hlt)
   clear hk7 hr7 hn7 hown8 hgrow hat hlt hown5 M5
   refine (Q02 (Same.plus A (g :: Y)) _ M8.out.rd).mono ?_
   rintro e w9 ⟨hk9,⟨x9,σ9,hx9,rfl,hr9⟩ | ⟨f,hx9,b,hbb,rfl,hcell⟩⟩
   rotate_left
   ·exact (show bodyPost Tryz.prog Tryz.f133 (Q2d A text w q (cases text p l0 σ)) (Exit.panic _) _ w9 from Qa (Q2d.throws (M8.out.kp.trans (hk9.mono (by simp))) M8.out.kp (ER.out.trans ((Qi hx7).trans (Qm (Qx hx9)))) hbb hcell))
   have M9:=Hid.mk (M8.out.scan h hq hk9 hr9)
   clear hk9 hr9 M8
   dsimp only [QZ]
   go_wp2_with fail
   refine (Q8n (Same.plus A (g :: Y)) _ M9.out.rd).mono ?_
   rintro e w10 ⟨hk10,⟨y10,σ10,hx10,rfl,hr10⟩ | ⟨f,hx10,b,hbb,rfl,hcell⟩⟩
   rotate_left
   ·exact (show bodyPost Tryz.prog Tryz.f133 (Q2d A text w q (cases text p l0 σ)) (Exit.panic _) _ w10 from Qa (Q2d.throws (M9.out.kp.trans (hk10.mono (by simp))) M9.out.kp (ER.out.trans ((Qi hx7).trans ((Qi (Ql hx9)).trans (Qm (Qx hx10))))) hbb hcell))
   have M10:=Hid.mk (M9.out.scan h hq hk10 hr10)
   have hll:=hL.out
   have E10:Hid (cases text p l0 σ = (if y10=true then Q2c text p (13 - (cs++[n]).length) (cs++[n]) else retx (cs++[n])) l7 σ10):=by
    refine ER.out.trans ((Qi hx7).trans ((Qi (Ql hx9)).trans ((Qi (Ql hx10)).trans ?_)))
    have:13 - (cs++[n]).length=12 - cs.length:=by simp
    rw [this]
   clear hk10 hr10 M9
   go_wp2
   exact ⟨⟨y10,cs++[n],g :: Y,l7,σ10,rfl,by simp;omega,by simp;omega,M10,E10⟩,by simp [Qbr];omega⟩
theorem Qje:(Tryz.prog.info? 292).map (fun i=>(i.zero,i.size,i.bytes))=some (some (.agg #[.slice none 0 0,.string ⟨#[]⟩,.int .i64 0,.nilIface]),4,64):=by kernel_rfl
def onL {τ ρ α:Type} (m:PX τ α):PX (τ×ρ) α:=fun s σ=>match m s.1 σ with
 | .ok (a,t',σ')=>.ok (a,(t',s.2),σ')
 | .error f=>.error f
def onR {τ ρ α:Type} (m:PX ρ α):PX (τ×ρ) α:=fun s σ=>match m s.2 σ with
 | .ok (a,t',σ')=>.ok (a,(s.1,t'),σ')
 | .error f=>.error f
theorem Q6V {τ ρ α:Type} {m:PX τ α} {t t':τ} {l:ρ} {σ σ':St} {a:α} (h:m t σ = .ok (a,t',σ')):onL m (t,l) σ = .ok (a,(t',l),σ'):=by simp only [onL,h]
theorem Q5D {τ ρ α:Type} {m:PX τ α} {t:τ} {l:ρ} {σ:St} {f:Mar.Fault} (h:m t σ = .error f):onL m (t,l) σ = .error f:=by simp only [onL,h]
theorem Q9C {τ ρ α:Type} {m:PX ρ α} {t:τ} {l l':ρ} {σ σ':St} {a:α} (h:m l σ = .ok (a,l',σ')):onR m (t,l) σ = .ok (a,(t,l'),σ'):=by simp only [onR,h]
theorem Q8q {τ ρ α:Type} {m:PX ρ α} {t:τ} {l:ρ} {σ:St} {f:Mar.Fault} (h:m l σ = .error f):onR m (t,l) σ = .error f:=by simp only [onR,h]
abbrev UnSt:=List (List UInt8)×List (Int×Int)
abbrev Arms:=List (List Int×Qq)
def Q3H (text:ByteArray) (rs:Arms):PX UnSt Arms:=bndx (lift (Q13 text [100,101,102,97,117,108,116])) fun y=>if y then
  bndx (lift (QX text [58])) fun _=>bndx (onL (arm text (Qr 0 0))) fun d=>retx (rs++[([],d)]) else retx rs
def Q2I (text:ByteArray) (p:Int→Bool):Nat→Arms→PX UnSt Arms
 | 0,_=>lift (thr 0 0)
 | k + 1,rs=>bndx (onR (cases text p)) fun cs=>bndx (onL (arm text (Qr 0 0))) fun d=>bndx (lift (sees text [99,97,115,101])) fun y=>if y then Q2I text p k (rs++[(cs,d)]) else Q3H text (rs++[(cs,d)])
def runy {τ α:Type} (m:PX τ α) (t:τ):PM (α×τ):=fun σ=>match m t σ with
 | .ok (a,t',σ')=>.ok ((a,t'),σ')
 | .error f=>.error f
theorem Q4N {τ α:Type} {m:PX τ α} {t t':τ} {σ σ':St} {a:α} (h:m t σ = .ok (a,t',σ')):runy m t σ = .ok ((a,t'),σ'):=by simp only [runy,h]
theorem Q32 {τ α:Type} {m:PX τ α} {t:τ} {σ:St} {f:Mar.Fault} (h:m t σ = .error f):runy m t σ = .error f:=by simp only [runy,h]
def Q4b (text:ByteArray) (n:List UInt8×Nat) (sel:Qq) (rs:Arms):PM DefL:=bnd (QX text [125]) fun _=>bnd (QX text [59]) fun _=>ret (.union n.1 n.2 sel rs)
def Q2L (text:ByteArray) (n:List UInt8×Nat) (sel:Qq) (r:Arms×UnSt):PM DefL:=Q4b text n sel r.1
def Q6W (text:ByteArray) (n:List UInt8×Nat) (q:Ty×(Int→Bool)) (m:(List UInt8×Nat)×List (List UInt8)):PM DefL:=
 bnd (QX text [41]) fun _=>bnd (QX text [123]) fun _=>bnd (runy (Q2I text q.2 13 []) (m.2,[])) (Q2L text n ⟨m.1.1,m.1.2,q.1⟩)
def Q5E (text:ByteArray) (n:List UInt8×Nat) (q:Ty×(Int→Bool)):PM DefL:=bnd (runy (name text (Qr 0 0)) []) (Q6W text n q)
def Q5F (text:ByteArray) (n:List UInt8×Nat):PM DefL:=bnd (QX text [115,119,105,116,99,104]) fun _=>bnd (QX text [40]) fun _=>bnd (Q4a text) (Q5E text n)
def Q0w (text:ByteArray) (at':Nat):PM DefL:=bnd (Q2o at') fun _=>bnd (Q1y text) (Q5F text)
theorem Qez {text:ByteArray} {p:Int→Bool}:∀ (k:Nat) (cs0:List Int) (l:List (Int×Int)) (σ:St) (cs:List Int) (l':List (Int×Int)) (σ':St),Q2c text p k cs0 l σ = .ok (cs,l',σ')→l.length < l'.length∧l'.length≤12:=by
 intro k
 induction k with
 | zero=>intro cs0 l σ cs l' σ' h;simp only [Q2c] at h;cases h
 | succ k ih=>
  intro cs0 l σ cs l' σ' h
  cases h1:QX text [99,97,115,101] σ with
  | error f=>rw [Q7e h1] at h;cases h
  | ok x=>
   obtain ⟨x,σ1⟩:=x
   by_cases hl:12≤l.length
   ·rw [Q6E h1 hl] at h;cases h
   ·rw [Q7T h1 hl] at h
    unfold QbU at h
    cases h2:number text p l σ1 with
    | error f=>rw [Qm h2] at h;cases h
    | ok y=>
     obtain ⟨n,l2,σ2⟩:=y
     rw [Qi h2] at h
     have hn:=Q7f h2
     cases h3:QX text [58] σ2 with
     | error f=>rw [Qm (Qx h3)] at h;cases h
     | ok z=>
      obtain ⟨z,σ3⟩:=z
      rw [Qi (Ql h3)] at h
      cases h4:sees text [99,97,115,101] σ3 with
      | error f=>rw [Qm (Qx h4)] at h;cases h
      | ok y=>
       obtain ⟨y,σ4⟩:=y
       rw [Qi (Ql h4)] at h
       cases y with
       | true=>
        have:=ih _ _ _ _ _ _ h
        omega
       | false=>
        simp only [Bool.false_eq_true,if_false,retx] at h
        cases h
        omega
theorem Q0u.mono {bs bs':List (Nat×Obj)} {e:TypeId} {v:Value} {n:Nat} {xs:List Value} (hb:∀ p∈bs,p∈bs') (h:Q0u bs e v n xs):Q0u bs' e v n xs:=by
 rcases h with h | ⟨g,cap,cur,h1,h2,h3,h4⟩
 ·exact Or.inl h
 ·exact Or.inr ⟨g,cap,cur,h1,h2,hb _ h3,h4⟩
theorem Held.app {X:List Nat} {bs bs':List (Nat×Obj)} {w:World} (h:Held X bs w) (h':Held X bs' w):Held X (bs++bs') w:=by
 intro p hp
 rcases List.mem_append.1 hp with hp | hp
 ·exact h p hp
 ·exact h' p hp
abbrev armC (p:(List Int×Qq)×Value):List Value:=p.2 :: Q1Z p.1.2
structure Q1b (A:Ad) (text:ByteArray) (w:World) (D q bx nq:Nat) (v:Value) (p:Int→Bool) (n:List UInt8×Nat) (sel:Qq) (arms:Arms) (css:List Value) (bs:List (Nat×Obj)) (Y:List Nat) (t:List (List UInt8)) (l:List (Int×Int)) (sl:Value) (σ:St) (u:World):Prop where
 kp:Qb [A.R,A.S,A.N] w u
 rd:Rd (A.plus Y) text σ u
 mine:∀ b∈[D,q,nq],b∈Y
 nd:D≠q∧D≠nq∧q≠nq
 new:∀ y∈Y,w.heap.size≤y
 own:∀ g,sl.ownBlock=some g→g∈Y∧g ∉ [D,q,nq]
 set:Q0l q t u
 cl:Held (A.plus Y).X (Qr q bx).bs u
 nums:QT nq l u
 fit:Fits (A.plus Y).X v p u
 box:u.heap[D]? = some (.cells #[.string ⟨n.1.toArray⟩,.int .i64 n.2,.string ⟨sel.t.toArray⟩,.int .i64 sel.at',tyV sel.ty,sl] 287)
 row:u.ownsRow w.heap.size 292 4 sl arms.length ((arms.zip css).flatMap armC)
 len:css.length=arms.length
 held:Held (A.plus Y).X bs u
 each:∀ i (h:i < arms.length) (h':i < css.length),Q0u bs 2 css[i] arms[i].1.length (arms[i].1.map fun n=>Value.int .i64 n)
section
variable {A : Ad} {text : ByteArray} {w u u' : World} {D q bx nq : Nat} {v : Value} {p : Int → Bool} {n : List UInt8 × Nat} {sel : Qq} {arms : Arms} {css : List Value} {bs : List (Nat × Obj)} {Y : List Nat} {t t' : List (List UInt8)} {l l' : List (Int × Int)} {sl : Value} {σ σ' σ0 : St}
theorem Q1b.slice (m:Q1b A text w D q bx nq v p n sel arms css bs Y t l sl σ u):∃ ad cap,sl = .slice ad arms.length cap:=by
 rcases m.row.2 with ⟨rfl,h⟩ | ⟨g,cap,cur,rfl,_⟩
 ·exact ⟨none,0,by rw [h]⟩
 ·exact ⟨_,_,rfl⟩
theorem Q1b.free (h0:Rd A text σ0 w) (m:Q1b A text w D q bx nq v p n sel arms css bs Y t l sl σ u) {b:Nat} (hb:b∈[D,q,nq]):Free (A.plus Y) b:=by
 obtain ⟨l1,l2,l3,l4⟩:=h0.lt
 have hq:=m.new _ (m.mine b hb)
 refine ⟨List.mem_append_left _ (m.mine b hb),?_,?_,?_,?_⟩<;>simp only [Ad.plus]<;>omega
theorem Q1b.turn {M:List Nat} (h0:Rd A text σ0 w) (m:Q1b A text w D q bx nq v p n sel arms css bs Y t l sl σ u) (hk:Qb M u u') (hM:∀ x∈M,x=A.S∨x=q∨x=nq) (hr:Rd (A.plus Y) text σ' u') (hs:Q0l q t' u') (hn:QT nq l' u') :
  Q1b A text w D q bx nq v p n sel arms css bs Y t' l' sl σ' u':=by
 obtain ⟨l1,l2,l3,l4⟩:=h0.lt
 obtain ⟨d1,d2,d3⟩:=m.nd
 have wD:=m.new _ (m.mine D (by simp))
 have hX:∀ x∈M,x∈(A.plus Y).X:=by
  intro x hx
  rcases hM x hx with rfl | rfl | rfl
  ·exact hr.mine.2.1
  ·exact List.mem_append_left _ (m.mine _ (by simp))
  ·exact List.mem_append_left _ (m.mine _ (by simp))
 refine ⟨m.kp.young hk ?_,hr,m.mine,m.nd,m.new,m.own,hs,m.cl.keeps hk hX,hn,m.fit.keeps hk hX,(hk.block _ (Qc m.box) ?_).trans m.box,Qk m.row hk ?_,m.len,m.held.keeps hk hX,m.each⟩
 ·intro x hx
  rcases hM x hx with rfl | rfl | rfl
  ·exact Or.inl (by simp)
  ·exact Or.inr (m.new _ (m.mine _ (by simp)))
  ·exact Or.inr (m.new _ (m.mine _ (by simp)))
 ·intro hx
  rcases hM _ hx with h | h | h<;>omega
 ·intro g hg hx
  have h1:=m.own g hg
  have h2:=m.new _ h1.1
  rcases hM _ hx with h | h | h
  ·omega
  ·exact h1.2 (by rw [h];simp)
  ·exact h1.2 (by rw [h];simp)
theorem Q1b.scan (h0:Rd A text σ0 w) (m:Q1b A text w D q bx nq v p n sel arms css bs Y t l sl σ u) (hk:Qb [A.S] u u') (hr:Rd (A.plus Y) text σ' u'):Q1b A text w D q bx nq v p n sel arms css bs Y t l sl σ' u':=by
 have l2:=h0.lt.2.1
 have wq:=m.new _ (m.mine q (by simp))
 have wn:=m.new _ (m.mine nq (by simp))
 exact m.turn h0 hk (by simp) hr (m.set.keeps hk (by simp;omega)) (m.nums.keeps hk (by simp;omega))
theorem Q1b.below (h0:Rd A text σ0 w) (m:Q1b A text w D q bx nq v p n sel arms css bs Y t l sl σ u) (hb:Below u.heap.size u u'):Q1b A text w D q bx nq v p n sel arms css bs Y t l sl σ u':=
 m.turn h0 (Qb.of_below [] hb) (by simp) (m.rd.below hb) (m.set.keeps (Qb.of_below [] hb) (by simp)) (m.nums.keeps (Qb.of_below [] hb) (by simp))
theorem Q1b.step {u2 u3:World} {g cap:Nat} {cv:Value} {cs:List Int} {d:Qq} {bs':List (Nat×Obj)} (h0:Rd A text σ0 w) (e:Q1b A text w D q bx nq v p n sel arms css bs Y t l sl σ u) (hh:Held (A.plus Y).X bs' u) (hcv:Q0u bs' 2 cv cs.length (cs.map fun n=>Value.int .i64 n)) (hb:Below u.heap.size u u2)
  (hown:u3.ownsRow w.heap.size 292 4 (.slice (some ⟨g,0,none⟩) (arms.length + 1) cap) (arms.length + 1) ((arms.zip css).flatMap armC++armC ((cs,d),cv)))
  (hg:u2.grownBy u3 sl.ownBlock) (hat:sl.ownBlock=some g∨g=u2.heap.size) (hlt:g < u3.heap.size) :
  Q1b A text w D q bx nq v p n sel (arms++[(cs,d)]) (css++[cv]) (bs++bs') (g :: Y) t l (.slice (some ⟨g,0,none⟩) (arms.length + 1) cap) σ (u3.setCell ⟨D,5,none⟩ (.slice (some ⟨g,0,none⟩) (arms.length + 1) cap)):=by
 obtain ⟨hwg,_⟩:=Q0z hown (g:=g) rfl
 have e2:=e.below h0 hb
 have hh2:=hh.keeps (Qb.of_below [] hb) (by simp)
 clear hh
 have iD:D∈[D,q,nq]:=by simp
 have iq:q∈[D,q,nq]:=by simp
 have in':nq∈[D,q,nq]:=by simp
 obtain ⟨d1,d2,d3⟩:=e.nd
 have wnew:∀ b∈[D,q,nq],w.heap.size≤b:=fun b hb=>e.new _ (e.mine b hb)
 have hlen:∀ b∈[D,q,nq],b < u2.heap.size:=fun b hb=>e2.rd.old b (List.mem_append_left _ (e.mine b hb))
 have k3:=hg.size
 have gl:g ∉ [D,q,nq]:=by
  rcases hat with h | h
  ·exact (e.own g h).2
  ·intro hm
   have:=hlen g hm
   omega
 have hrow:∀ b,sl.ownBlock=some b→w.heap.size≤b∧b∈(A.plus Y).X:=fun b hb=>⟨e.new _ (e.own b hb).1,List.mem_append_left _ (e.own b hb).1⟩
 have hkg:=Q05 hg
 have hks:Qb [D] u3 (u3.setCell ⟨D,5,none⟩ (.slice (some ⟨g,0,none⟩) (arms.length + 1) cap)):=(Qb.refl [D] u3).setIn (by simp) _
 have rl:∀ b∈[D,q,nq],b ∉ sl.ownBlock.toList:=by
  intro b hb hm
  exact (e.own b (by simpa using hm)).2 hb
 have hgX:∀ b,sl.ownBlock=some b→b∈(A.plus Y).X:=fun b hb=>(hrow b hb).2
 have hDX:∀ x∈[D],x∈(A.plus (g :: Y)).X:=by
  intro x hx
  simp only [List.mem_singleton] at hx
  subst hx
  exact List.mem_append_left _ (List.mem_cons_of_mem _ (e.mine _ iD))
 refine ⟨?_,?_,fun b hb=>List.mem_cons_of_mem _ (e.mine b hb),e.nd,?_,?_,?_,?_,?_,?_,?_,?_,by simp [e.len],?_,?_⟩
 ·refine (e2.kp.young hkg ?_).young hks ?_
  ·intro m hm
   exact Or.inr (hrow m (by simpa using hm)).1
  ·intro m hm
   simp only [List.mem_singleton] at hm
   subst hm
   exact Or.inr (wnew _ iD)
 ·exact h0.young (Same.plus A (g :: Y)) (Rd.grow h0 (Same.plus A Y) e2.rd hg hrow hat hlt) hks (by
   intro x hx
   exact ⟨by simp only [List.mem_singleton] at hx;subst hx;exact wnew _ iD,hDX x hx⟩)
 ·intro y hy
  rcases List.mem_cons.1 hy with rfl | hy
  ·exact hwg
  ·exact e.new y hy
 ·intro g' h'
  simp only [Value.ownBlock,Option.some.injEq] at h'
  subst h'
  exact ⟨List.mem_cons_self,gl⟩
 ·exact (e2.set.keeps hkg (rl _ iq)).keeps hks (by simp;omega)
 ·exact (e2.cl.grow hg hgX hat).keeps hks hDX
 ·exact (e2.nums.keeps hkg (rl _ in')).keeps hks (by simp;omega)
 ·exact (e2.fit.grow hg hgX hat).keeps hks hDX
 ·exact Qn (i:=5) ((hkg.block _ (hlen _ iD) (rl _ iD)).trans e2.box) _
 ·have:=Qk hown hks (by
   intro g' h'
   simp only [Value.ownBlock,Option.some.injEq] at h'
   subst h'
   intro hm
   simp only [List.mem_singleton] at hm
   exact gl (hm ▸ iD))
  rw [List.zip_append (by exact e.len.symm),List.flatMap_append]
  simpa using this
 ·exact ((e2.held.app hh2).grow hg hgX hat).keeps hks hDX
 ·intro i h1 h2
  by_cases hi:i < arms.length
  ·have hi':i < css.length:=by rw [e.len];exact hi
   rw [List.getElem_append_left hi,List.getElem_append_left hi']
   exact (e.each i hi hi').mono (fun p hp=>List.mem_append_left _ hp)
  ·have hi':i=arms.length:=by simp at h1;omega
   have hi2:¬ i < css.length:=by rw [e.len];exact hi
   rw [List.getElem_append_right (by omega),List.getElem_append_right (by omega)]
   have e1:i - arms.length=0:=by omega
   have e3:i - css.length=0:=by rw [e.len];omega
   simp only [e1,e3,List.getElem_cons_zero]
   exact hcv.mono (fun p hp=>List.mem_append_right _ hp)
theorem QhQ:∀ (ps:List ((List Int×Qq)×Value)),(ps.flatMap armC).length=ps.length * 4:=by
 intro ps
 induction ps with
 | nil=>rfl
 | cons d ds ih=>simp only [List.flatMap_cons,List.length_append,List.length_cons,ih];simp;omega
theorem Q1b.fin (h0:Rd A text σ0 w) (m:Q1b A text w D q bx nq v p n sel arms css bs Y t l sl σ u) (hle:arms.length≤1000) {r:Except Mar.Fault (DefL×St)} (hr:r = .ok (.union n.1 n.2 sel arms,σ)):QC [A.R,A.S,A.N] A text w r (.returned (.pointer (some ⟨D,0,none⟩))) u:=by
 have far:∀ b,w.heap.size≤b→b ∉ A.X:=fun b hb hm=>by have:=h0.old _ hm;omega
 have hsub:Held A.X bs u:=m.held.sub (fun x hx=>List.mem_append_right _ hx)
 have hD:=And.intro m.box (far _ (m.new _ (m.mine D (by simp))))
 refine ⟨m.kp,Or.inl ⟨.union n.1 n.2 sel arms,σ,D,?_⟩⟩
 rcases m.row.2 with ⟨rfl,h⟩ | ⟨g,cap,cur,rfl,hg1,hg2,hg3,hg4,hg5,hg6⟩
 ·have:arms=[]:=List.length_eq_zero_iff.1 h
  subst this
  refine ⟨_ :: bs,hr,rfl,Rd.dropAll h0.mine m.rd,⟨.slice none 0 0,css,List.mem_cons_self,m.len,Or.inl ⟨rfl,rfl,rfl⟩,fun i h h'=>(m.each i h h').mono (fun p hp=>List.mem_cons_of_mem _ hp)⟩,?_⟩
  intro p hp
  rcases List.mem_cons.1 hp with rfl | hp
  ·exact hD
  ·exact hsub p hp
 ·refine ⟨_ :: (g,.cells cur 292) :: bs,hr,rfl,Rd.dropAll h0.mine m.rd,⟨_,css,List.mem_cons_self,m.len,Or.inr ⟨g,cap,cur,rfl,⟨hg3,hle⟩,by simp,?_⟩,fun i h h'=>(m.each i h h').mono (fun p hp=>List.mem_cons_of_mem _ (List.mem_cons_of_mem _ hp))⟩,?_⟩
  ·have e1:((arms.zip css).flatMap fun p=>p.2 :: Q1Z p.1.2).length=arms.length * 4:=by
    have:=QhQ (arms.zip css)
    rw [List.length_zip,m.len,Nat.min_self] at this
    exact this
   rw [e1]
   exact hg6
  ·intro p hp
   rcases List.mem_cons.1 hp with rfl | hp
   ·exact hD
   ·rcases List.mem_cons.1 hp with rfl | hp
    ·exact ⟨hg2,far _ hg1⟩
    ·exact hsub p hp
end
theorem Qd7 {A' A:Ad} (hA:Same A' A) {text:ByteArray} {σ:St} {w:World} (h:Rd A' text σ w) :
  Calls Tryz.prog 131 #[.pointer (some ⟨A.R,0,none⟩)] w (Q2u A' text w (Q4a text σ)):=by
 have:=QbT h
 rw [hA.1] at this
 exact this
theorem QhR {A' A:Ad} (hA:Same A' A) {text:ByteArray} {σ:St} {v:Value} {p:Int→Bool} {q:Nat} {l0:List (Int×Int)} {w:World} (h:Rd A' text σ w) (hf:Fits A'.X v p w) (hq:Free A' q) (hn:QT q l0 w) :
  Calls Tryz.prog 133 #[.pointer (some ⟨A.R,0,none⟩),.map (some q),v] w (Q2d A' text w q (cases text p l0 σ)):=by
 have:=Qg6 h hf hq hn
 rw [hA.1] at this
 exact this
theorem Q92 {A' A:Ad} (hA:Same A' A) {text:ByteArray} {σ:St} {q bx:Nat} {t:List (List UInt8)} {w:World} (hq:Free A' q) (h:Rd A' text σ w) (hi:Q0l q t w) (hh:Held A'.X (Qr q bx).bs w) :
  Calls Tryz.prog 119 #[.pointer (some ⟨A.R,0,none⟩),(Qr q bx).v] w (QO [A.S,q] A' text w (name text (Qr 0 0) t σ) Q1q (Q0l q)):=by
 have:=Q7R (Q5S (bx:=bx) hq) h hi hh
 rw [hA.1,hA.2.1] at this
 exact this
theorem Qg7 {A' A:Ad} (hA:Same A' A) {text:ByteArray} {σ:St} {q bx:Nat} {t:List (List UInt8)} {w:World} (hq:Free A' q) (h:Rd A' text σ w) (hi:Q0l q t w) (hh:Held A'.X (Qr q bx).bs w) :
  Calls Tryz.prog 134 #[.pointer (some ⟨A.R,0,none⟩),(Qr q bx).v] w (QO [A.S,q] A' text w (arm text (Qr 0 0) t σ) Q2Z (Q0l q)):=by
 have:=Qjb (Q5S (bx:=bx) hq) h hi hh
 rw [hA.1,hA.2.1] at this
 exact this
def Qak (u:World) (nq:Nat):Nat:=match u.heap[nq]? with
 | some (.map es _)=>es.size
 | _=>0
theorem Q9D {u:World} {nq:Nat} {l:List (Int×Int)} (h:QT nq l u):Qak u nq=l.length:=by
 have h':u.heap[nq]? = some (.map (l.mapIdx fun i p=>(⟨.int .i64 p.1,.int .i64 p.2,i⟩:MapEntry)).toArray l.length):=h
 unfold Qak
 rw [h']
 simp
structure Q33 (A:Ad) (text:ByteArray) (w:World) (D q bx:Nat) (v:Value) (p:Int→Bool) (cells:Array Value) (Y:List Nat) (t:List (List UInt8)) (σ:St) (u:World):Prop where
 kp:Qb [A.R,A.S,A.N] w u
 rd:Rd (A.plus Y) text σ u
 mine:D∈Y∧q∈Y∧D≠q
 new:∀ y∈Y,w.heap.size≤y
 set:Q0l q t u
 cl:Held (A.plus Y).X (Qr q bx).bs u
 fit:Fits (A.plus Y).X v p u
 box:u.heap[D]? = some (.cells cells 287)
theorem Q33.turn {A:Ad} {text:ByteArray} {w u u':World} {D q bx:Nat} {v:Value} {p:Int→Bool} {cells:Array Value} {Y:List Nat} {t t':List (List UInt8)} {σ σ' σ0:St} {M:List Nat} (h0:Rd A text σ0 w) (m:Q33 A text w D q bx v p cells Y t σ u) (hk:Qb M u u') (hM:∀ x∈M,x=A.S∨x=q) (hr:Rd (A.plus Y) text σ' u') (hs:Q0l q t' u') :
  Q33 A text w D q bx v p cells Y t' σ' u':=by
 have l2:=h0.lt.2.1
 have wD:=m.new _ m.mine.1
 have hX:∀ x∈M,x∈(A.plus Y).X:=by
  intro x hx
  rcases hM x hx with rfl | rfl
  ·exact hr.mine.2.1
  ·exact List.mem_append_left _ m.mine.2.1
 refine ⟨m.kp.young hk ?_,hr,m.mine,m.new,hs,m.cl.keeps hk hX,m.fit.keeps hk hX,(hk.block _ (Qc m.box) ?_).trans m.box⟩
 ·intro x hx
  rcases hM x hx with rfl | rfl
  ·exact Or.inl (by simp)
  ·exact Or.inr (m.new _ m.mine.2.1)
 ·intro hx
  have:=m.mine.2.2
  rcases hM _ hx with h | h<;>omega
theorem Q33.scan {A:Ad} {text:ByteArray} {w u u':World} {D q bx:Nat} {v:Value} {p:Int→Bool} {cells:Array Value} {Y:List Nat} {t:List (List UInt8)} {σ σ' σ0:St} (h0:Rd A text σ0 w) (m:Q33 A text w D q bx v p cells Y t σ u) (hk:Qb [A.S] u u') (hr:Rd (A.plus Y) text σ' u') :
  Q33 A text w D q bx v p cells Y t σ' u':=by
 have l2:=h0.lt.2.1
 have wq:=m.new _ m.mine.2.1
 exact m.turn h0 hk (by simp) hr (m.set.keeps hk (by simp;omega))
theorem Q33.free {A:Ad} {text:ByteArray} {w u:World} {D q bx:Nat} {v:Value} {p:Int→Bool} {cells:Array Value} {Y:List Nat} {t:List (List UInt8)} {σ σ0:St} (h0:Rd A text σ0 w) (m:Q33 A text w D q bx v p cells Y t σ u):Free (A.plus Y) q:=by
 obtain ⟨l1,l2,l3,l4⟩:=h0.lt
 have hq:=m.new _ m.mine.2.1
 refine ⟨List.mem_append_left _ m.mine.2.1,?_,?_,?_,?_⟩<;>simp only [Ad.plus]<;>omega
theorem Qkb {b:Nat} {k t a c d e:Value} {T:TypeId} {w:World} (h:w.heap[b]? = some (.cells #[k,t,a,c,d,e] T)) :
  w.cell? ⟨b,2,none⟩=some a∧w.cell? ⟨b,3,none⟩=some c∧w.cell? ⟨b,4,none⟩=some d∧∀ i,w.frozen? ⟨b,i,none⟩=false:=by
 refine ⟨?_,?_,?_,?_⟩<;>simp [World.cell?,World.frozen?,h]
theorem Q33.put {A:Ad} {text:ByteArray} {w u:World} {D q bx:Nat} {v a b c d e f:Value} {p:Int→Bool} {Y:List Nat} {t:List (List UInt8)} {σ σ0:St} (h0:Rd A text σ0 w) (m:Q33 A text w D q bx v p #[a,b,c,d,e,f] Y t σ u) (x y z:Value) :
  Q33 A text w D q bx v p #[a,b,x,y,z,f] Y t σ (((u.setCell ⟨D,2,none⟩ x).setCell ⟨D,3,none⟩ y).setCell ⟨D,4,none⟩ z):=by
 have hk:Qb [D] u (((u.setCell ⟨D,2,none⟩ x).setCell ⟨D,3,none⟩ y).setCell ⟨D,4,none⟩ z):=(((Qb.refl [D] u).setIn (p:=⟨D,2,none⟩) (by simp) _).setIn (p:=⟨D,3,none⟩) (by simp) _).setIn (p:=⟨D,4,none⟩) (by simp) _
 have wD:=m.new _ m.mine.1
 have hDX:∀ x∈[D],x∈(A.plus Y).X:=by
  intro x hx
  simp only [List.mem_singleton] at hx
  subst hx
  exact List.mem_append_left _ m.mine.1
 refine ⟨m.kp.young hk (by simp;omega),h0.young (Same.plus A Y) m.rd hk (fun x hx=>⟨by simp only [List.mem_singleton] at hx;omega,hDX x hx⟩),m.mine,m.new,m.set.keeps hk (by have:=m.mine.2.2;simp;omega),m.cl.keeps hk hDX,m.fit.keeps hk hDX,?_⟩
 have h1:=Qn (i:=2) m.box x
 have h2:=Qn (i:=3) h1 y
 exact Qn (i:=4) h2 z
theorem Q1b.rowAt {A:Ad} {text:ByteArray} {w u:World} {D q bx nq:Nat} {v:Value} {p:Int→Bool} {n:List UInt8×Nat} {sel:Qq} {arms:Arms} {css:List Value} {bs:List (Nat×Obj)} {Y:List Nat} {t:List (List UInt8)} {l:List (Int×Int)} {sl:Value} {σ:St} (m:Q1b A text w D q bx nq v p n sel arms css bs Y t l sl σ u) (o:Obj) :
  (u.alloc o).ownsRow w.heap.size 292 4 sl arms.length ((arms.zip css).flatMap armC):=Qk m.row ((Qb.refl [] u).alloc o) (by simp)
theorem Q1b.boxAt {A:Ad} {text:ByteArray} {w u u2:World} {D q bx nq:Nat} {v:Value} {p:Int→Bool} {n:List UInt8×Nat} {sel:Qq} {arms:Arms} {css:List Value} {bs:List (Nat×Obj)} {Y:List Nat} {t:List (List UInt8)} {l:List (Int×Int)} {sl:Value} {σ:St} {o:Obj} (m:Q1b A text w D q bx nq v p n sel arms css bs Y t l sl σ u) (hg:(u.alloc o).grownBy u2 sl.ownBlock) :
  u2.heap[D]? = some (.cells #[.string ⟨n.1.toArray⟩,.int .i64 n.2,.string ⟨sel.t.toArray⟩,.int .i64 sel.at',tyV sel.ty,sl] 287):=by
 have hl:=Qc m.box
 exact (hg.block _ (by simp;omega) (fun e=>(m.own _ e.symm).2 (by simp))).trans ((((Qb.refl [] u).alloc o).block _ hl (by simp)).trans m.box)
theorem Q33.start {A:Ad} {text:ByteArray} {w u:World} {D q bx:Nat} {v:Value} {p:Int→Bool} {n:List UInt8×Nat} {sel:Qq} {Y:List Nat} {t:List (List UInt8)} {σ σ0:St} (h0:Rd A text σ0 w) (m:Q33 A text w D q bx v p #[.string ⟨n.1.toArray⟩,.int .i64 n.2,.string ⟨sel.t.toArray⟩,.int .i64 sel.at',tyV sel.ty,.slice none 0 0] Y t σ u) :
  Q1b A text w D q bx u.heap.size v p n sel [] [] [] (u.heap.size :: Y) t [] (.slice none 0 0) σ (u.alloc (.map #[] 0)):=by
 have hka:Qb [] u (u.alloc (.map #[] 0)):=(Qb.refl [] u).alloc _
 have lD:=Qc m.box
 have lq:q < u.heap.size:=m.rd.old _ (List.mem_append_left _ m.mine.2.1)
 have s1:=m.kp.size
 have hX:∀ bs,Held (A.plus Y).X bs u→Held (A.plus (u.heap.size :: Y)).X bs (u.alloc (.map #[] 0)):=fun bs hb=>(hb.add (Nat.le_refl _)).keeps hka (by simp)
 refine ⟨m.kp.alloc _,m.rd.own _,?_,⟨m.mine.2.2,by omega,by omega⟩,?_,(by intro g hg;cases hg),m.set.keeps hka (by simp),hX _ m.cl,Qg rfl,?_,(hka.block _ lD (by simp)).trans m.box,⟨rfl,Or.inl ⟨rfl,rfl⟩⟩,rfl,(by intro p hp;cases hp),(by intro i h;cases h)⟩
 ·intro b hb
  simp at hb
  rcases hb with rfl | rfl | rfl
  ·exact List.mem_cons_of_mem _ m.mine.1
  ·exact List.mem_cons_of_mem _ m.mine.2.1
  ·exact List.mem_cons_self
 ·intro y hy
  rcases List.mem_cons.1 hy with rfl | hy
  ·exact s1
  ·exact m.new y hy
 ·obtain ⟨bs,f,pre,post,h1,h2,h3,h4⟩:=m.fit
  exact ⟨bs,f,pre,post,h1,hX bs h2,h3,fun W hW=>h4 W (hW.sub fun _ hx=>List.mem_cons_of_mem _ hx)⟩
theorem Q4h {b:Nat} {k t a c d e:Value} {T:TypeId} {w:World} (h:w.heap[b]? = some (.cells #[k,t,a,c,d,e] T)) :
  w.cell? ⟨b,2,none⟩=some a∧w.cell? ⟨b,5,none⟩=some e∧∀ i,w.frozen? ⟨b,i,none⟩=false:=by
 refine ⟨?_,?_,?_⟩<;>simp [World.cell?,World.frozen?,h]
def Qj2 (text:ByteArray) (p:Int→Bool) (k:Nat) (rs:Arms) (cs:List Int):PX UnSt Arms:=bndx (onL (arm text (Qr 0 0))) fun d=>bndx (lift (sees text [99,97,115,101])) fun y=>if y then Q2I text p k (rs++[(cs,d)]) else Q3H text (rs++[(cs,d)])
theorem Q6X {τ α:Type} {m m':PX τ α} {s s':τ} {σ σ':St} (h:m s σ = m' s' σ'):runy m s σ = runy m' s' σ':=by simp only [runy,h]
theorem Q7U {α β:Type} {m m':PM α} {f:α→PM β} {σ σ':St} (h:m σ = m' σ'):bnd m f σ = bnd m' f σ':=by simp only [bnd,h]
theorem QhS {text:ByteArray} {p:Int→Bool} {k:Nat} {rs:Arms} {cs:List Int} {t:List (List UInt8)} {l l':List (Int×Int)} {σ σ':St} {β:Type} {f:Arms×UnSt→PM β} (h:cases text p l σ = .ok (cs,l',σ')) :
  bnd (runy (Q2I text p (k + 1) rs) (t,l)) f σ = bnd (runy (Qj2 text p k rs cs) (t,l')) f σ':=by
 refine Q7U (Q6X ?_)
 simp only [Q2I]
 exact Qi (Q9C h)
theorem Qg8 {text:ByteArray} {p:Int→Bool} {k:Nat} {rs:Arms} {t:List (List UInt8)} {l:List (Int×Int)} {σ:St} {g:Mar.Fault} {β:Type} {f:Arms×UnSt→PM β} (h:cases text p l σ = .error g) :
  bnd (runy (Q2I text p (k + 1) rs) (t,l)) f σ = .error g:=by
 refine Qp (Q32 ?_)
 simp only [Q2I]
 exact Qm (Q8q h)
theorem QdW (cs:List Int) (d:Qq) (a:Option Addr) (b c:Nat):∀ u∈armC ((cs,d),.slice a b c),u.oneCell'=true:=by
 intro u hu
 rcases List.mem_cons.1 hu with rfl | hu
 ·rfl
 ·exact QbR d u hu
theorem Qg9 {A:Ad} {text:ByteArray} {σ:St} (at':Nat) {w:World} (h:Rd A text σ w) :
  Calls Tryz.prog 90 #[.pointer (some ⟨A.R,0,none⟩),.int .i64 at'] w (QC [A.R,A.S,A.N] A text w (Q0w text at' σ)):=by
 have hmf:∀ (fn:Fn) (first cap:Array Value) (w:World),(Instr.makeFunc fn first cap).run Tryz.prog w = .ok (.func fn first cap) w:=fun _ _ _ _=>rfl
 have hmm:∀ (t:TypeId) (w:World),(Instr.makeMap t none).run Tryz.prog w = .ok (.map (some w.heap.size)) (w.alloc (.map #[] 0)):=fun _ _=>rfl
 obtain ⟨i0,hi0,hz0,hz1,hz2⟩:=info_parts Qje
 obtain ⟨l1,l2,l3,l4⟩:=h.lt
 go_enter Tryz.func90,Tryz.ntmps90
 go_wp2_with fail
 refine (Q4Z at' h).mono ?_
 rintro e w1 ⟨hk1,⟨u,σ1,hx1,rfl,hr1⟩ | ⟨f,hx1,b,hbb,rfl,hcell⟩⟩
 rotate_left
 ·exact Qa (QC.throws (hk1.mono (by simp)) (Qb.refl [] _) (Qp hx1) hbb hcell)
 have hK1:=hk1.mono (M':=[A.R,A.S,A.N]) (by simp)
 clear hk1
 go_wp2_with fail
 refine (Q3h hr1).mono ?_
 rintro e w2 ⟨hk2,⟨n,σ2,hx2,rfl,hr2⟩ | ⟨f,hx2,b,hbb,rfl,hcell⟩⟩
 rotate_left
 ·exact Qa (QC.throws (hK1.trans (hk2.mono (by simp))) hK1 ((Qh hx1).trans (Qp hx2)) hbb hcell)
 have hK2:=hK1.trans (hk2.mono (M':=[A.R,A.S,A.N]) (by simp))
 clear hk2 hK1
 have E2:Hid (Q0w text at' σ = Q5F text n σ2):=(Qh hx1).trans (Qh hx2)
 dsimp only [Q1q]
 have hs2:=hK2.size
 have hr3:=hr2.own (.cells #[.string ⟨n.1.toArray⟩,.int .i64 n.2,.string ⟨#[]⟩,.int .i64 0,.nilIface,.slice none 0 0] 287)
 have hv3:=Qg (w:=w2) (o:=.cells #[.string ⟨n.1.toArray⟩,.int .i64 n.2,.string ⟨#[]⟩,.int .i64 0,.nilIface,.slice none 0 0] 287) rfl
 have hK3:=hK2.alloc (.cells #[.string ⟨n.1.toArray⟩,.int .i64 n.2,.string ⟨#[]⟩,.int .i64 0,.nilIface,.slice none 0 0] 287)
 have hne:w2.heap.size ∉ [A.S]:=by simp;omega
 clear hr1 hr2 hx1 hx2
 go_wp2_with fail
 refine (Q02 (Same.add A _) _ hr3).mono ?_
 rintro e w4 ⟨hk4,⟨x4,σ4,hx4,rfl,hr4⟩ | ⟨f,hx4,b,hbb,rfl,hcell⟩⟩
 rotate_left
 ·exact Qa (QC.throws (hK3.trans (hk4.mono (by simp))) hK3 (E2.out.trans (Qp hx4)) hbb hcell)
 have hv4:=(hk4.block _ (Qc hv3) hne).trans hv3
 have hK4:=hK3.trans (hk4.mono (M':=[A.R,A.S,A.N]) (by simp))
 clear hk4 hv3 hK3 hr3
 go_wp2_with fail
 refine (Q02 (Same.add A _) _ hr4).mono ?_
 rintro e w5 ⟨hk5,⟨x5,σ5,hx5,rfl,hr5⟩ | ⟨f,hx5,b,hbb,rfl,hcell⟩⟩
 rotate_left
 ·exact Qa (QC.throws (hK4.trans (hk5.mono (by simp))) hK4 (E2.out.trans ((Qh hx4).trans (Qp hx5))) hbb hcell)
 have hv5:=(hk5.block _ (Qc hv4) hne).trans hv4
 have hK5:=hK4.trans (hk5.mono (M':=[A.R,A.S,A.N]) (by simp))
 clear hk5 hv4 hK4 hr4
 go_wp2_with fail
 refine (Qd7 (Same.add A _) hr5).mono ?_
 rintro e w6 ⟨hk6,⟨⟨ty,p⟩,σ6,v,hx6,rfl,hr6,hf6⟩ | ⟨f,hx6,b,hbb,rfl,hcell⟩⟩
 rotate_left
 ·exact Qa (QC.throws (hK5.trans (hk6.mono (by simp [Ad.add]))) hK5 (E2.out.trans ((Qh hx4).trans ((Qh hx5).trans (Qp hx6)))) hbb hcell)
 have hv6:=(hk6.block _ (Qc hv5) hne).trans hv5
 have hK6:=hK5.trans (hk6.mono (M':=[A.R,A.S,A.N]) (by simp [Ad.add]))
 have E6:Hid (Q0w text at' σ = Q5E text n (ty,p) σ6):=E2.out.trans ((Qh hx4).trans ((Qh hx5).trans (Qh hx6)))
 have hlt6:=Qc hv6
 clear hk6 hv5 hK5 hr5 E2 hx4 hx5 hx6
 dsimp only at hf6 ⊢
 obtain ⟨T,vt,hT⟩:∃ T vt,tyV ty = .iface T vt:=by cases ty<;>exact ⟨_,_,rfl⟩
 rw [hT]
 go_wp2_with fail
 refine (Q6n _).mono ?_
 rintro e w7 ⟨q,bx,rfl,hq,hbx,hqb,hI,hb7,hx7⟩
 have hlq:q < w7.heap.size:=by
  obtain ⟨_,_,_,hm⟩:=id hI
  exact Qc hm
 have P7:Hid (Q33 A text w w2.heap.size q bx v p #[.string ⟨n.1.toArray⟩,.int .i64 n.2,.string ⟨#[]⟩,.int .i64 0,.nilIface,.slice none 0 0] [q,w2.heap.size] [] σ6 w7):=by
  have hk7:Qb [] w6 w7:=Qb.of_below [] hb7
  have hX:∀ bs,Held (A.add w2.heap.size).X bs w6→Held (A.plus [q,w2.heap.size]).X bs w7:=fun bs hb=>(hb.add hq).keeps hk7 (by simp)
  refine ⟨hK6.trans (hk7.mono (by simp)),hr6.take hb7 hq hlq,⟨by simp,by simp,by omega⟩,?_,hI,?_,?_,(hk7.block _ hlt6 (by simp)).trans hv6⟩
  ·intro y hy
   simp at hy
   have:=hK6.size
   omega
  ·intro b hb
   simp only [Qr,List.mem_singleton] at hb
   subst hb
   refine ⟨hx7,?_⟩
   simp [Ad.plus]
   refine ⟨by omega,by omega,?_⟩
   intro hm
   have:=h.old _ hm
   omega
  ·obtain ⟨bs,f,pre,post,g1,g2,g3,g4⟩:=hf6
   exact ⟨bs,f,pre,post,g1,hX bs g2,g3,fun W hW=>g4 W (hW.sub fun _ hx=>List.mem_cons_of_mem _ hx)⟩
 clear hb7 hI hx7 hr6 hf6 hv6 hK6 hlt6
 go_wp2_with fail
 refine (Q92 (bx:=bx) (Same.plus A _) (P7.out.free h) P7.out.rd P7.out.set P7.out.cl).mono ?_
 rintro e w8 ⟨hk8,⟨m,t8,σ8,hx8,rfl,hr8,hi8⟩ | ⟨f,hx8,b,hbb,rfl,hcell⟩⟩
 rotate_left
 ·refine Qa (QC.throws (P7.out.kp.young hk8 ?_) P7.out.kp (E6.out.trans (Qp (Q32 hx8))) hbb hcell)
  intro x hx
  simp at hx ⊢
  rcases hx with hx | hx
  ·exact Or.inl (Or.inr (Or.inl hx))
  ·exact Or.inr (by have:=P7.out.new _ P7.out.mine.2.1;omega)
 have P8:=Hid.mk ((P7.out.turn h hk8 (by simp) hr8 hi8).put h (.string ⟨m.1.toArray⟩) (.int .i64 m.2) (.iface T vt))
 obtain ⟨b2,b3,b4,hfb⟩:=Qkb (P7.out.turn h hk8 (by simp) hr8 hi8).box
 clear hk8 hr8 hi8 P7
 dsimp only [Q1q]
 go_wp2_with fail
 refine (Q02 (Same.plus A _) _ P8.out.rd).mono ?_
 rintro e w9 ⟨hk9,⟨x9,σ9,hx9,rfl,hr9⟩ | ⟨f,hx9,b,hbb,rfl,hcell⟩⟩
 rotate_left
 ·exact Qa (QC.throws (P8.out.kp.trans (hk9.mono (by simp))) P8.out.kp (E6.out.trans ((Qh (Q4N hx8)).trans (Qp hx9))) hbb hcell)
 have P9:=Hid.mk (P8.out.scan h hk9 hr9)
 clear hk9 hr9 P8 b2 b3 b4 hfb
 go_wp2_with fail
 refine (Q02 (Same.plus A _) _ P9.out.rd).mono ?_
 rintro e w10 ⟨hk10,⟨x10,σ10,hx10,rfl,hr10⟩ | ⟨f,hx10,b,hbb,rfl,hcell⟩⟩
 rotate_left
 ·exact Qa (QC.throws (P9.out.kp.trans (hk10.mono (by simp))) P9.out.kp (E6.out.trans ((Qh (Q4N hx8)).trans ((Qh hx9).trans (Qp hx10)))) hbb hcell)
 have P10:=P9.out.scan h hk10 hr10
 rw [← hT] at P10
 have M0:=Hid.mk (Q33.start (n:=n) (sel:=⟨m.1,m.2,ty⟩) h P10)
 have E10:Hid (Q0w text at' σ = bnd (runy (Q2I text p 13 []) (t8,[])) (Q2L text n ⟨m.1,m.2,ty⟩) σ10):=E6.out.trans ((Qh (Q4N hx8)).trans ((Qh hx9).trans (Qh hx10)))
 clear hk10 hr10 P9 P10 E6 hx8 hx9 hx10 hne hq hbx hqb hlq hs2 hK2
 go_wp2
 go_loopw [10] (fun b ur=>∃ (y:Bool) (rs:Arms) (css:List Value) (bs:List (Nat×Obj)) (Y:List Nat) (t:List (List UInt8)) (l:List (Int×Int)) (sl:Value) (σ':St),b = .bool y∧rs.length≤l.length∧l.length≤12∧Hid (Q1b A text w w2.heap.size q bx w10.heap.size v p n ⟨m.1,m.2,ty⟩ rs css bs Y t l sl σ' ur) ∧
   Hid (Q0w text at' σ = bnd (runy (if y then Q2I text p (13 - rs.length) rs else Q3H text rs) (t,l)) (Q2L text n ⟨m.1,m.2,ty⟩) σ')) (fun _ ur=>13 - Qak ur w10.heap.size)
 case atStart=>exact ⟨true,[],[],[],_,t8,[],_,σ10,rfl,by simp,by simp,M0,E10⟩
 case round=>
  obtain ⟨y,rs,css,bs,Y,t,l,sl,σ',rfl,hrl,hl12,M,E⟩:=hrel
  clear M0 E10
  obtain ⟨ad,cap,rfl⟩:=M.out.slice
  cases y with
  | false=>
   go_wp2_with fail
   refine (Q2r (Same.plus A Y) _ M.out.rd).mono ?_
   rintro e w5 ⟨hk5,⟨y5,σ5,hx5,rfl,hr5⟩ | ⟨f,hx5,b,hbb,rfl,hcell⟩⟩
   rotate_left
   ·exact (show bodyPost Tryz.prog Tryz.f90 (QC [A.R,A.S,A.N] A text w (Q0w text at' σ)) (Exit.panic _) _ w5 from Qa (QC.throws (M.out.kp.trans (hk5.mono (by simp))) M.out.kp (E.out.trans (Qp (Q32 (Qm (Qx hx5))))) hbb hcell))
   have M5:=Hid.mk (M.out.scan h hk5 hr5)
   clear hk5 hr5 M
   cases y5 with
   | false=>
    have E5:Hid (Q0w text at' σ = Q4b text n ⟨m.1,m.2,ty⟩ rs σ5):=E.out.trans (Qh (Q4N ((Qi (Ql hx5)).trans rfl)))
    clear E
    go_wp2_with fail
    refine (Q02 (Same.plus A _) _ M5.out.rd).mono ?_
    rintro e wa ⟨hka,⟨xa,σa,hxa,rfl,hra⟩ | ⟨f,hxa,b,hbb,rfl,hcell⟩⟩
    rotate_left
    ·exact (show bodyPost Tryz.prog Tryz.f90 (QC [A.R,A.S,A.N] A text w (Q0w text at' σ)) (Exit.panic _) _ wa from Qa (QC.throws (M5.out.kp.trans (hka.mono (by simp))) M5.out.kp (E5.out.trans (Qp hxa)) hbb hcell))
    have Ma:=Hid.mk (M5.out.scan h hka hra)
    clear hka hra
    go_wp2_with fail
    refine (Q02 (Same.plus A _) _ Ma.out.rd).mono ?_
    rintro e wb ⟨hkb,⟨xb,σb,hxb,rfl,hrb⟩ | ⟨f,hxb,b,hbb,rfl,hcell⟩⟩
    rotate_left
    ·exact (show bodyPost Tryz.prog Tryz.f90 (QC [A.R,A.S,A.N] A text w (Q0w text at' σ)) (Exit.panic _) _ wb from Qa (QC.throws (Ma.out.kp.trans (hkb.mono (by simp))) Ma.out.kp (E5.out.trans ((Qh hxa).trans (Qp hxb))) hbb hcell))
    have Mb:=Hid.mk (Ma.out.scan h hkb hrb)
    clear hkb hrb Ma
    go_wp2
    go_ret
    exact Mb.out.fin h (by omega) (E5.out.trans ((Qh hxa).trans (Qh hxb)))
   | true=>
    have E5:Hid (Q0w text at' σ = bnd (runy (bndx (lift (QX text [58])) fun _=>bndx (onL (arm text (Qr 0 0))) fun d=>retx (rs++[([],d)])) (t,l)) (Q2L text n ⟨m.1,m.2,ty⟩) σ5):=E.out.trans (Q7U (Q6X (Qi (Ql hx5))))
    clear E
    go_wp2_with fail
    refine (Q02 (Same.plus A Y) _ M5.out.rd).mono ?_
    rintro e w8 ⟨hk8,⟨x8,σ8,hx8,rfl,hr8⟩ | ⟨f,hx8,b,hbb,rfl,hcell⟩⟩
    rotate_left
    ·exact (show bodyPost Tryz.prog Tryz.f90 (QC [A.R,A.S,A.N] A text w (Q0w text at' σ)) (Exit.panic _) _ w8 from Qa (QC.throws (M5.out.kp.trans (hk8.mono (by simp))) M5.out.kp (E5.out.trans (Qp (Q32 (Qm (Qx hx8))))) hbb hcell))
    have M8:=Hid.mk (M5.out.scan h hk8 hr8)
    clear hk8 hr8 M5
    have E8:Hid (Q0w text at' σ = bnd (runy (bndx (onL (arm text (Qr 0 0))) fun d=>retx (rs++[([],d)])) (t,l)) (Q2L text n ⟨m.1,m.2,ty⟩) σ8):=E5.out.trans (Q7U (Q6X (Qi (Ql hx8))))
    clear E5
    have hbd:Below w8.heap.size w8 w8.drew:=(Below.refl _ _).drew
    obtain ⟨k2,k5,hfD⟩:=Q4h M8.out.box
    have MD:=Hid.mk (M8.out.below h hbd)
    have HC:=Hid.mk (Qg7 (bx:=bx) (Same.plus A Y) (MD.out.free h (by simp)) MD.out.rd MD.out.set MD.out.cl)
    have hz3:(Value.agg #[.slice none 0 0,.string ⟨#[]⟩,.int .i64 0,.nilIface]).cells.size=4:=by decide
    have hl1:rs.length + 1≤maxLen:=by unfold maxLen;omega
    have hl2:(rs.length + 1) * 64≤140737488355328:=by omega
    clear M8
    go_wp2_with fail
    refine Qu (fun w'=>w'.cell? ⟨w2.heap.size,5,none⟩=some (.slice ad rs.length cap)) (L:=13) (by kernel_rfl) rfl (by kernel_rfl) (by kernel_rfl) ?_ (fun hHeld=>?_)
    ·go_keep
    refine tk (i:=0) (v:=?_) rfl (by kernel_rfl) (fun _ _ _ h=>h) (by rfl) (by assumption) ?_ ?_
    rotate_left
    ·intro w hSw;(try dsimp only at hSw);go_simp;(try with_reducible rfl)
    (try simp only [Qd,Qe,List.set])
    refine tk (i:=1) (v:=?_) rfl (by kernel_rfl) (fun _ _ _ h=>h) (by rfl) (by assumption) ?_ ?_
    rotate_left
    ·intro w hSw;(try dsimp only at hSw);go_simp;(try with_reducible rfl)
    (try simp only [Qd,Qe,List.set])
    refine tk (i:=2) (v:=?_) rfl (by kernel_rfl) (fun _ _ _ h=>h) (by rfl) (by assumption) ?_ ?_
    rotate_left
    ·intro w hSw;(try dsimp only at hSw);go_simp;(try with_reducible rfl)
    (try simp only [Qd,Qe,List.set])
    refine tk (i:=3) (v:=?_) rfl (by kernel_rfl) (fun _ _ _ h=>h) (by rfl) (by assumption) ?_ ?_
    rotate_left
    ·intro w hSw;(try dsimp only at hSw);go_simp;(try with_reducible rfl)
    (try simp only [Qd,Qe,List.set])
    refine tk (i:=4) (v:=?_) rfl (by kernel_rfl) (fun _ _ _ h=>h) (by rfl) (by assumption) ?_ ?_
    rotate_left
    ·intro w hSw;(try dsimp only at hSw);go_simp;(try with_reducible rfl)
    (try simp only [Qd,Qe,List.set])
    refine tk (i:=5) (v:=?_) rfl (by kernel_rfl) (fun _ _ _ h=>h) (by rfl) (by assumption) ?_ ?_
    rotate_left
    ·intro w hSw;(try dsimp only at hSw);go_simp;(try with_reducible rfl)
    (try simp only [Qd,Qe,List.set])
    refine tk (i:=6) (v:=?_) rfl (by kernel_rfl) (fun _ _ _ h=>h) (by rfl) (by assumption) ?_ ?_
    rotate_left
    ·intro w hSw;(try dsimp only at hSw);go_simp;(try with_reducible rfl)
    (try simp only [Qd,Qe,List.set])
    refine wpAnyH_ready (rs:=[7]) (by kernel_rfl) (by simp) ?_
    refine AllReadyH.cons rfl (fun K hK=>?_) AllReadyH.nil
    (go_simp;go_at_call 134;refine HC.out.mono ?_;rintro e w6 ⟨hk6,⟨d,t6,σ6,hx6,rfl,hr6,hi6⟩ | ⟨f,hx6,b,hbb,rfl,hcell⟩⟩;rotate_left;exact (show bodyPost Tryz.prog Tryz.f90 (QC [A.R,A.S,A.N] A text w (Q0w text at' σ)) (Exit.panic _) _ w6 from Qa (QC.throws (MD.out.kp.young hk6 (by intro x hx;simp at hx ⊢;rcases hx with hx | hx;exact Or.inl (Or.inr (Or.inl hx));exact Or.inr (by have:=MD.out.new _ (MD.out.mine q (by simp));omega))) MD.out.kp (E8.out.trans (Qp (Q32 (Qm (Q5D hx6))))) hbb hcell));have M6:=Hid.mk (MD.out.turn h hk6 (by intro x hx;simp at hx;rcases hx with rfl | rfl;exact Or.inl rfl;exact Or.inr (Or.inl rfl)) hr6 hi6 (MD.out.nums.keeps hk6 (by have:=MD.out.nd.2.2;have:=MD.out.new _ (MD.out.mine w10.heap.size (by simp));simp [Ad.plus];omega)));obtain ⟨z2,z5,hfz⟩:=Q4h M6.out.box;have hl6:=Qc M6.out.box;have hne6:=Nat.ne_of_lt hl6;have hwl:=M6.out.kp.size;dsimp only [Q2Z])
    refine hK.out _ _ ?_ (fun hHeld=>?_)
    ·go_keep
    clear hK K
    (try simp only [Qd,Qe,List.set])
    refine tk (i:=8) (v:=?_) rfl (by kernel_rfl) (fun _ _ _ h=>h) (by rfl) (by assumption) ?_ ?_
    rotate_left
    ·intro w hSw;(try dsimp only at hSw);go_simp;(try with_reducible rfl)
    (try simp only [Qd,Qe,List.set])
    refine wpAnyH_ready (rs:=[9]) (by kernel_rfl) (by simp) ?_
    refine AllReadyH.cons rfl (fun K hK=>?_) AllReadyH.nil
    go_simp
    refine hK.out _ _ ?_ (fun hHeld=>?_)
    ·go_keep
    clear hK K
    (try simp only [Qd,Qe,List.set])
    refine wpAnyH_ready (rs:=[10]) (by kernel_rfl) (by simp) ?_
    refine AllReadyH.cons rfl (fun K hK=>?_) AllReadyH.nil
    (refine step_append_lies _ (by rfl) _ _ _ (by rfl) w.heap.size 292 i0 _ 4 64 Tryz.underlying285 hi0 hz0 hz1 hz2 hz3 (by omega) (.slice ad rs.length cap) rs.length ((rs.zip css).flatMap armC) (by rfl) (M6.out.rowAt _) ⟨w6.heap.size,0,none⟩ 1 1 (armC (([],d),.slice none 0 0)) (by rfl) (by rfl) (World.news_of_block (cs:=(armC (([],d),.slice none 0 0)).toArray) (t:=292) (fr:=(0,0)) (heap_alloc_new w6 _)) (QdW [] d none 0 0) (by omega) hl1 hl2 (by simp;omega) (w6.heap.size + 1) (by simp) ?_;intro g cap' w7 hown7 hgrow hat hlt;obtain ⟨y2,y5,hfy⟩:=Q4h (M6.out.boxAt hgrow))
    refine hK.out _ _ ?_ (fun hHeld=>?_)
    ·go_keep
    clear hK K
    (try simp only [Qd,Qe,List.set])
    refine tk (i:=11) (v:=?_) rfl (by kernel_rfl) (fun _ _ _ h=>h) (by rfl) (by assumption) ?_ ?_
    rotate_left
    ·intro w hSw;(try dsimp only at hSw);go_simp;(try with_reducible rfl)
    (try simp only [Qd,Qe,List.set])
    refine tk (i:=12) (v:=?_) rfl (by kernel_rfl) (fun _ _ _ h=>h) (by rfl) (by assumption) ?_ ?_
    rotate_left
    ·intro w hSw;(try dsimp only at hSw);go_simp;(try with_reducible rfl)
    (try simp only [Qd,Qe,List.set])
    refine wpAnyH_done (by kernel_rfl) ?_ _
    refine QB rfl (fun K hK=>?_)
    go_simp
    refine hK.out _ _ ?_
    clear hK K
    (try simp only [Qd,Qe,List.set])
    have M7:=Hid.mk (Q1b.step (bs':=[]) (cs:=[]) (cv:=.slice none 0 0) (d:=d) h M6.out (by intro p hp;cases hp) (Or.inl ⟨rfl,rfl,rfl⟩) ((Below.refl w6.heap.size w6).alloc (Nat.le_refl _) _) hown7 hgrow (by simpa using hat) hlt)
    clear hk6 hr6 hi6 hown7 hgrow hat hlt y2 y5 hfy z2 z5 hfz M6 HC MD
    have E9:Hid (Q0w text at' σ = Q4b text n ⟨m.1,m.2,ty⟩ (rs++[([],d)]) σ6):=E8.out.trans (Qh (Q4N ((Qi (Q6V hx6)).trans rfl)))
    clear E8
    go_wp2_with fail
    refine (Q02 (Same.plus A _) _ M7.out.rd).mono ?_
    rintro e wa ⟨hka,⟨xa,σa,hxa,rfl,hra⟩ | ⟨f,hxa,b,hbb,rfl,hcell⟩⟩
    rotate_left
    ·exact (show bodyPost Tryz.prog Tryz.f90 (QC [A.R,A.S,A.N] A text w (Q0w text at' σ)) (Exit.panic _) _ wa from Qa (QC.throws (M7.out.kp.trans (hka.mono (by simp))) M7.out.kp (E9.out.trans (Qp hxa)) hbb hcell))
    have Ma:=Hid.mk (M7.out.scan h hka hra)
    clear hka hra
    go_wp2_with fail
    refine (Q02 (Same.plus A _) _ Ma.out.rd).mono ?_
    rintro e wb ⟨hkb,⟨xb,σb,hxb,rfl,hrb⟩ | ⟨f,hxb,b,hbb,rfl,hcell⟩⟩
    rotate_left
    ·exact (show bodyPost Tryz.prog Tryz.f90 (QC [A.R,A.S,A.N] A text w (Q0w text at' σ)) (Exit.panic _) _ wb from Qa (QC.throws (Ma.out.kp.trans (hkb.mono (by simp))) Ma.out.kp (E9.out.trans ((Qh hxa).trans (Qp hxb))) hbb hcell))
    have Mb:=Hid.mk (Ma.out.scan h hkb hrb)
    clear hkb hrb Ma
    go_wp2
    go_ret
    exact Mb.out.fin h (by simp;omega) (E9.out.trans ((Qh hxa).trans (Qh hxb)))
  | true=>
   have EM:Hid (Q0w text at' σ = bnd (runy (Q2I text p ((12 - rs.length) + 1) rs) (t,l)) (Q2L text n ⟨m.1,m.2,ty⟩) σ'):=by
    have h1:=E.out
    rw [show 13 - rs.length=(12 - rs.length) + 1 by omega] at h1
    exact h1
   clear E
   go_wp2_with fail
   refine (QhR (Same.plus A Y) M.out.rd M.out.fit (M.out.free h (by simp)) M.out.nums).mono ?_
   rintro e w5 ⟨hk5,⟨cs,l5,σ5,cv,bs5,hx5,rfl,hr5,hn5,hsl5,hh5⟩ | ⟨f,hx5,b,hbb,rfl,hcell⟩⟩
   rotate_left
   ·exact (show bodyPost Tryz.prog Tryz.f90 (QC [A.R,A.S,A.N] A text w (Q0w text at' σ)) (Exit.panic _) _ w5 from Qa (QC.throws (M.out.kp.young hk5 (by intro x hx;simp at hx ⊢;rcases hx with hx | hx;exact Or.inl (Or.inr (Or.inl hx));exact Or.inr (by have:=M.out.new _ (M.out.mine w10.heap.size (by simp));omega))) M.out.kp (EM.out.trans (Qg8 hx5)) hbb hcell))
   have hc5:=Qez _ _ _ _ _ _ _ hx5
   have M5:=Hid.mk (M.out.turn h hk5 (by intro x hx;simp at hx;rcases hx with rfl | rfl;exact Or.inl rfl;exact Or.inr (Or.inr rfl)) hr5 (M.out.set.keeps hk5 (by have:=M.out.nd.2.2;have:=M.out.new _ (M.out.mine q (by simp));simp [Ad.plus];omega)) hn5)
   have L1:=Q9D M.out.nums
   have E5:Hid (Q0w text at' σ = bnd (runy (Qj2 text p (12 - rs.length) rs cs) (t,l5)) (Q2L text n ⟨m.1,m.2,ty⟩) σ5):=EM.out.trans (QhS hx5)
   obtain ⟨ca,cn,cc,rfl⟩:∃ a b c,cv = .slice a b c:=by rcases hsl5 with ⟨rfl,_⟩ | ⟨g,cap,cur,rfl,_⟩<;>exact ⟨_,_,_,rfl⟩
   clear EM hk5 hr5 hn5 M
   have hbd:Below w5.heap.size w5 w5.drew:=(Below.refl _ _).drew
   obtain ⟨k2,k5,hfD⟩:=Q4h M5.out.box
   have MD:=Hid.mk (M5.out.below h hbd)
   have HC:=Hid.mk (Qg7 (bx:=bx) (Same.plus A Y) (MD.out.free h (by simp)) MD.out.rd MD.out.set MD.out.cl)
   have hz3:(Value.agg #[.slice none 0 0,.string ⟨#[]⟩,.int .i64 0,.nilIface]).cells.size=4:=by decide
   have hl1:rs.length + 1≤maxLen:=by unfold maxLen;omega
   have hl2:(rs.length + 1) * 64≤140737488355328:=by omega
   have hh6:∀ w6,Qb [A.S,q] w5.drew w6→Held (A.plus Y).X bs5 w6:=fun w6 hk6=>(hh5.keeps (Qb.of_below [] hbd) (by simp)).keeps hk6 (by intro x hx;simp at hx;rcases hx with rfl | rfl;exact MD.out.rd.mine.2.1;exact List.mem_append_left _ (MD.out.mine _ (by simp)))
   have HH:=Hid.mk hh6
   have HS:=Hid.mk hsl5
   clear M5 hh6 hh5 hsl5
   go_wp2_with fail
   refine Qu (fun w'=>w'.cell? ⟨w2.heap.size,5,none⟩=some (.slice ad rs.length cap)) (L:=14) (by kernel_rfl) rfl (by kernel_rfl) (by kernel_rfl) ?_ (fun hHeld=>?_)
   ·go_keep
   refine tk (i:=0) (v:=?_) rfl (by kernel_rfl) (fun _ _ _ h=>h) (by rfl) (by assumption) ?_ ?_
   rotate_left
   ·intro w hSw;(try dsimp only at hSw);go_simp;(try with_reducible rfl)
   (try simp only [Qd,Qe,List.set])
   refine tk (i:=1) (v:=?_) rfl (by kernel_rfl) (fun _ _ _ h=>h) (by rfl) (by assumption) ?_ ?_
   rotate_left
   ·intro w hSw;(try dsimp only at hSw);go_simp;(try with_reducible rfl)
   (try simp only [Qd,Qe,List.set])
   refine tk (i:=2) (v:=?_) rfl (by kernel_rfl) (fun _ _ _ h=>h) (by rfl) (by assumption) ?_ ?_
   rotate_left
   ·intro w hSw;(try dsimp only at hSw);go_simp;(try with_reducible rfl)
   (try simp only [Qd,Qe,List.set])
   refine tk (i:=3) (v:=?_) rfl (by kernel_rfl) (fun _ _ _ h=>h) (by rfl) (by assumption) ?_ ?_
   rotate_left
   ·intro w hSw;(try dsimp only at hSw);go_simp;(try with_reducible rfl)
   (try simp only [Qd,Qe,List.set])
   refine tk (i:=4) (v:=?_) rfl (by kernel_rfl) (fun _ _ _ h=>h) (by rfl) (by assumption) ?_ ?_
   rotate_left
   ·intro w hSw;(try dsimp only at hSw);go_simp;(try with_reducible rfl)
   (try simp only [Qd,Qe,List.set])
   refine tk (i:=5) (v:=?_) rfl (by kernel_rfl) (fun _ _ _ h=>h) (by rfl) (by assumption) ?_ ?_
   rotate_left
   ·intro w hSw;(try dsimp only at hSw);go_simp;(try with_reducible rfl)
   (try simp only [Qd,Qe,List.set])
   refine tk (i:=6) (v:=?_) rfl (by kernel_rfl) (fun _ _ _ h=>h) (by rfl) (by assumption) ?_ ?_
   rotate_left
   ·intro w hSw;(try dsimp only at hSw);go_simp;(try with_reducible rfl)
   (try simp only [Qd,Qe,List.set])
   refine tk (i:=7) (v:=?_) rfl (by kernel_rfl) (fun _ _ _ h=>h) (by rfl) (by assumption) ?_ ?_
   rotate_left
   ·intro w hSw;(try dsimp only at hSw);go_simp;(try with_reducible rfl)
   (try simp only [Qd,Qe,List.set])
   refine wpAnyH_ready (rs:=[8]) (by kernel_rfl) (by simp) ?_
   refine AllReadyH.cons rfl (fun K hK=>?_) AllReadyH.nil
   (go_simp;go_at_call 134;refine HC.out.mono ?_;rintro e w6 ⟨hk6,⟨d,t6,σ6,hx6,rfl,hr6,hi6⟩ | ⟨f,hx6,b,hbb,rfl,hcell⟩⟩;rotate_left;exact (show bodyPost Tryz.prog Tryz.f90 (QC [A.R,A.S,A.N] A text w (Q0w text at' σ)) (Exit.panic _) _ w6 from Qa (QC.throws (MD.out.kp.young hk6 (by intro x hx;simp at hx ⊢;rcases hx with hx | hx;exact Or.inl (Or.inr (Or.inl hx));exact Or.inr (by have:=MD.out.new _ (MD.out.mine q (by simp));omega))) MD.out.kp (E5.out.trans (Qp (Q32 (Qm (Q5D hx6))))) hbb hcell));have M6:=Hid.mk (MD.out.turn h hk6 (by intro x hx;simp at hx;rcases hx with rfl | rfl;exact Or.inl rfl;exact Or.inr (Or.inl rfl)) hr6 hi6 (MD.out.nums.keeps hk6 (by have:=MD.out.nd.2.2;have:=MD.out.new _ (MD.out.mine w10.heap.size (by simp));simp [Ad.plus];omega)));obtain ⟨z2,z5,hfz⟩:=Q4h M6.out.box;have hl6:=Qc M6.out.box;have hne6:=Nat.ne_of_lt hl6;have hwl:=M6.out.kp.size;dsimp only [Q2Z])
   refine hK.out _ _ ?_ (fun hHeld=>?_)
   ·go_keep
   clear hK K
   (try simp only [Qd,Qe,List.set])
   refine tk (i:=9) (v:=?_) rfl (by kernel_rfl) (fun _ _ _ h=>h) (by rfl) (by assumption) ?_ ?_
   rotate_left
   ·intro w hSw;(try dsimp only at hSw);go_simp;(try with_reducible rfl)
   (try simp only [Qd,Qe,List.set])
   refine wpAnyH_ready (rs:=[10]) (by kernel_rfl) (by simp) ?_
   refine AllReadyH.cons rfl (fun K hK=>?_) AllReadyH.nil
   go_simp
   refine hK.out _ _ ?_ (fun hHeld=>?_)
   ·go_keep
   clear hK K
   (try simp only [Qd,Qe,List.set])
   refine wpAnyH_ready (rs:=[11]) (by kernel_rfl) (by simp) ?_
   refine AllReadyH.cons rfl (fun K hK=>?_) AllReadyH.nil
   (refine step_append_lies _ (by rfl) _ _ _ (by rfl) w.heap.size 292 i0 _ 4 64 Tryz.underlying285 hi0 hz0 hz1 hz2 hz3 (by omega) (.slice ad rs.length cap) rs.length ((rs.zip css).flatMap armC) (by rfl) (M6.out.rowAt _) ⟨w6.heap.size,0,none⟩ 1 1 (armC ((cs,d),.slice ca cn cc)) (by rfl) (by rfl) (World.news_of_block (cs:=(armC ((cs,d),.slice ca cn cc)).toArray) (t:=292) (fr:=(0,0)) (heap_alloc_new w6 _)) (QdW cs d ca cn cc) (by omega) hl1 hl2 (by simp;omega) (w6.heap.size + 1) (by simp) ?_;intro g cap' w7 hown7 hgrow hat hlt;obtain ⟨y2,y5,hfy⟩:=Q4h (M6.out.boxAt hgrow))
   refine hK.out _ _ ?_ (fun hHeld=>?_)
   ·go_keep
   clear hK K
   (try simp only [Qd,Qe,List.set])
   refine tk (i:=12) (v:=?_) rfl (by kernel_rfl) (fun _ _ _ h=>h) (by rfl) (by assumption) ?_ ?_
   rotate_left
   ·intro w hSw;(try dsimp only at hSw);go_simp;(try with_reducible rfl)
   (try simp only [Qd,Qe,List.set])
   refine tk (i:=13) (v:=?_) rfl (by kernel_rfl) (fun _ _ _ h=>h) (by rfl) (by assumption) ?_ ?_
   rotate_left
   ·intro w hSw;(try dsimp only at hSw);go_simp;(try with_reducible rfl)
   (try simp only [Qd,Qe,List.set])
   refine wpAnyH_done (by kernel_rfl) ?_ _
   refine QB rfl (fun K hK=>?_)
   go_simp
   refine hK.out _ _ ?_
   clear hK K
   (try simp only [Qd,Qe,List.set])
   have M7:=Hid.mk (Q1b.step (cs:=cs) (cv:=.slice ca cn cc) (d:=d) h M6.out (HH.out w6 hk6) (HS.out) ((Below.refl w6.heap.size w6).alloc (Nat.le_refl _) _) hown7 hgrow (by simpa using hat) hlt)
   clear hk6 hr6 hi6 hown7 hgrow hat hlt y2 y5 hfy z2 z5 hfz M6 HC MD
   have E7:Hid (Q0w text at' σ = bnd (runy (bndx (lift (sees text [99,97,115,101])) fun y=>if y then Q2I text p (12 - rs.length) (rs++[(cs,d)]) else Q3H text (rs++[(cs,d)])) (t6,l5)) (Q2L text n ⟨m.1,m.2,ty⟩) σ6):=E5.out.trans (Q7U (Q6X (Qi (Q6V hx6))))
   clear E5
   go_wp2_with fail
   refine (Q8n (Same.plus A (g :: Y)) _ M7.out.rd).mono ?_
   rintro e w8 ⟨hk8,⟨y8,σ8,hx8,rfl,hr8⟩ | ⟨f,hx8,b,hbb,rfl,hcell⟩⟩
   rotate_left
   ·exact (show bodyPost Tryz.prog Tryz.f90 (QC [A.R,A.S,A.N] A text w (Q0w text at' σ)) (Exit.panic _) _ w8 from Qa (QC.throws (M7.out.kp.trans (hk8.mono (by simp))) M7.out.kp (E7.out.trans (Qp (Q32 (Qm (Qx hx8))))) hbb hcell))
   have M8:=Hid.mk (M7.out.scan h hk8 hr8)
   clear hk8 hr8 M7
   have E8:Hid (Q0w text at' σ = bnd (runy (if y8=true then Q2I text p (13 - (rs++[(cs,d)]).length) (rs++[(cs,d)]) else Q3H text (rs++[(cs,d)])) (t6,l5)) (Q2L text n ⟨m.1,m.2,ty⟩) σ8):=by
    refine E7.out.trans (Q7U (Q6X ((Qi (Ql hx8)).trans ?_)))
    have:13 - (rs++[(cs,d)]).length=12 - rs.length:=by simp
    rw [this]
   have L2:=Q9D M8.out.nums
   clear E7
   go_wp2
   refine ⟨⟨y8,rs++[(cs,d)],_,_,g :: Y,t6,l5,_,σ8,rfl,by simp;omega,by omega,M8,E8⟩,?_⟩
   rw [L1,L2]
   omega
structure QMid (A:Ad) (text:ByteArray) (w:World) (q bx nq:Nat) (B:List (Nat×Obj)) (Y:List Nat) (t:List (List UInt8)) (l:List (Int×Int)) (σ:St) (u:World):Prop where
 kp:Qb [A.R,A.S,A.N,q,nq] w u
 rd:Rd (A.plus Y) text σ u
 new:∀ y∈Y,w.heap.size≤y
 set:Q0l q t u
 cl:Held (A.plus Y).X (Qr q bx).bs u
 nums:QT nq l u
 box:∀ p∈B,u.heap[p.1]? = some p.2∧p.1∈Y
section
variable {A : Ad} {text : ByteArray} {w u u' : World} {q bx nq : Nat} {B B' : List (Nat × Obj)} {Y : List Nat} {t t' : List (List UInt8)} {l l' : List (Int × Int)} {σ σ' σ0 : St}
theorem Free.plus {b:Nat} (h:Free A b) (Y:List Nat):Free (A.plus Y) b:=⟨List.mem_append_right _ h.1,h.2.1,h.2.2.1,h.2.2.2.1,h.2.2.2.2⟩
theorem QMid.turn {M:List Nat} (h0:Rd A text σ0 w) (hq:Free A q) (hn:Free A nq) (m:QMid A text w q bx nq B Y t l σ u) (hk:Qb M u u') (hM:∀ x∈M,x∈[A.R,A.S,A.N,q,nq]) (hr:Rd (A.plus Y) text σ' u') (hs:Q0l q t' u') (hl:QT nq l' u') :
  QMid A text w q bx nq B Y t' l' σ' u':=by
 obtain ⟨l1,l2,l3,l4⟩:=h0.lt
 have lq:=h0.old _ hq.1
 have ln:=h0.old _ hn.1
 have hX:∀ x∈M,x∈(A.plus Y).X:=by
  intro x hx
  have hx:=hM x hx
  simp at hx
  rcases hx with rfl | rfl | rfl | rfl | rfl
  ·exact hr.mine.1
  ·exact hr.mine.2.1
  ·exact hr.mine.2.2.1
  ·exact List.mem_append_right _ hq.1
  ·exact List.mem_append_right _ hn.1
 refine ⟨m.kp.trans (hk.mono hM),hr,m.new,hs,m.cl.keeps hk hX,hl,?_⟩
 intro p hp
 obtain ⟨h1,h2⟩:=m.box p hp
 refine ⟨(hk.block _ (Qc h1) ?_).trans h1,h2⟩
 intro hx
 have hx:=hM _ hx
 have:=m.new _ h2
 simp at hx
 omega
theorem QMid.scan (h0:Rd A text σ0 w) (hq:Free A q) (hn:Free A nq) (m:QMid A text w q bx nq B Y t l σ u) (hk:Qb [A.S] u u') (hr:Rd (A.plus Y) text σ' u'):QMid A text w q bx nq B Y t l σ' u':=
 m.turn h0 hq hn hk (by simp) hr (m.set.keeps hk (by simp;exact hq.2.2.1)) (m.nums.keeps hk (by simp;exact hn.2.2.1))
theorem QMid.claimed (h0:Rd A text σ0 w) (hq:Free A q) (hn:Free A nq) (hne:q≠nq) (m:QMid A text w q bx nq B Y t l σ u) (hk:Qb [A.S,q] u u') (hr:Rd (A.plus Y) text σ' u') (hs:Q0l q t' u'):QMid A text w q bx nq B Y t' l σ' u':=
 m.turn h0 hq hn hk (by simp) hr hs (m.nums.keeps hk (by simp;exact ⟨hn.2.2.1,fun e=>hne e.symm⟩))
theorem QMid.ended (h0:Rd A text σ0 w) (hq:Free A q) (hn:Free A nq) (hne:q≠nq) (m:QMid A text w q bx nq B Y t l σ u) (hk:Qb [A.S,nq] u u') (hr:Rd (A.plus Y) text σ' u') (hl:QT nq l' u'):QMid A text w q bx nq B Y t l' σ' u':=
 m.turn h0 hq hn hk (by simp) hr (m.set.keeps hk (by simp;exact ⟨hq.2.2.1,hne⟩)) hl
theorem QMid.alloc (m:QMid A text w q bx nq B Y t l σ u) (o:Obj):QMid A text w q bx nq ((u.heap.size,o) :: B) (u.heap.size :: Y) t l σ (u.alloc o):=by
 have hka:Qb [] u (u.alloc o):=(Qb.refl [] u).alloc _
 refine ⟨m.kp.alloc _,m.rd.own _,?_,m.set.keeps hka (by simp),(m.cl.add (Nat.le_refl _)).keeps hka (by simp),m.nums.keeps hka (by simp),?_⟩
 ·intro y hy
  rcases List.mem_cons.1 hy with rfl | hy
  ·exact m.kp.size
  ·exact m.new y hy
 ·intro p hp
  rcases List.mem_cons.1 hp with rfl | hp
  ·exact ⟨Qg rfl,List.mem_cons_self⟩
  ·obtain ⟨h1,h2⟩:=m.box p hp
   exact ⟨(hka.block _ (Qc h1) (by simp)).trans h1,List.mem_cons_of_mem _ h2⟩
theorem QMid.put {M:List Nat} (h0:Rd A text σ0 w) (hq:Free A q) (hn:Free A nq) (m:QMid A text w q bx nq B Y t l σ u) (hk:Qb M u u') (hM:∀ x∈M,x∈Y) (hB:∀ p∈B',u'.heap[p.1]? = some p.2∧p.1∈Y):QMid A text w q bx nq B' Y t l σ u':=by
 have lq:=h0.old _ hq.1
 have ln:=h0.old _ hn.1
 have hX:∀ x∈M,x∈(A.plus Y).X:=fun x hx=>List.mem_append_left _ (hM x hx)
 refine ⟨m.kp.young hk (fun x hx=>Or.inr (m.new _ (hM x hx))),h0.young (Same.plus A Y) m.rd hk (fun x hx=>⟨m.new _ (hM x hx),hX x hx⟩),m.new,m.set.keeps hk ?_,m.cl.keeps hk hX,m.nums.keeps hk ?_,hB⟩
 ·intro hx
  have:=m.new _ (hM _ hx)
  omega
 ·intro hx
  have:=m.new _ (hM _ hx)
  omega
end
def Q5m (text:ByteArray):PX UnSt Q1Y:=bndx (lift (side text)) fun res=>bndx (onL (name text (Qr 0 0))) fun n=>bndx (lift (QX text [40])) fun _=>bndx (lift (side text)) fun arg=>bndx (lift (QX text [41])) fun _=>
 bndx (onR (ending text)) fun k=>retx ⟨n.1,n.2,res,arg,k⟩
abbrev Q43 (q:Q1Y):List Value:=Q4q q.t q.at'++[tyV q.res,tyV q.arg,.int .i64 q.num]
def Q3W {α:Type} (A:Ad) (text:ByteArray) (w:World) (q nq:Nat) (r:Except Mar.Fault (α×UnSt×St)) (V:α→Value) (e:Ending) (w':World):Prop:=
 Qb [A.R,A.S,A.N,q,nq] w w'∧((∃ a t l σ',r = .ok (a,(t,l),σ')∧e = .returned (V a)∧Rd A text σ' w'∧Q0l q t w'∧QT nq l w')∨(∃ f,r = .error f∧Q0c w f.no f.at' e w'))
theorem Q3W.throws {α:Type} {A:Ad} {M':List Nat} {text:ByteArray} {w w1 w':World} {q nq:Nat} {r:Except Mar.Fault (α×UnSt×St)} {V:α→Value} {f:Mar.Fault} {b:Nat}
  (hk:Qb [A.R,A.S,A.N,q,nq] w w') (hk1:Qb M' w w1) (hr:r = .error f) (hb:w1.heap.size≤b) (hc:w'.heap[b]? = some (.cells #[.int .i64 f.no,.int .i64 f.at'] 83)) :
  Q3W A text w q nq r V (.panicked [{ v:=.iface 79 (.pointer (some ⟨b,0,none⟩)),recovered:=false }]) w':=⟨hk,Or.inr ⟨f,hr,b,Nat.le_trans hk1.size hb,rfl,hc⟩⟩
theorem QdX {A' A:Ad} (hA:Same A' A) {text:ByteArray} {σ:St} {w:World} (h:Rd A' text σ w) :
  Calls Tryz.prog 179 #[.pointer (some ⟨A.R,0,none⟩)] w (Qt [A.S] A' text w (side text σ) tyV):=by
 have:=QhN h
 rw [hA.1,hA.2.1] at this
 exact this
theorem QaH {A' A:Ad} (hA:Same A' A) {text:ByteArray} {σ:St} {q:Nat} {l:List (Int×Int)} {w:World} (h:Rd A' text σ w) (hq:Free A' q) (hn:QT q l w) :
  Calls Tryz.prog 138 #[.pointer (some ⟨A.R,0,none⟩),.map (some q)] w (QO [A.S,q] A' text w (ending text l σ) intV (QT q)):=by
 have:=Qeo h hq hn
 rw [hA.1,hA.2.1] at this
 exact this
theorem Q03 (ty:Ty):∃ T v,tyV ty = .iface T v:=by cases ty<;>exact ⟨_,_,rfl⟩
theorem Q9E {b:Nat} {k t a c d:Value} {T:TypeId} {w:World} (h:w.heap[b]? = some (.cells #[k,t,a,c,d] T)) :
  w.cell? ⟨b,0,none⟩=some k∧w.cell? ⟨b,1,none⟩=some t∧w.cell? ⟨b,2,none⟩=some a∧w.cell? ⟨b,3,none⟩=some c∧w.cell? ⟨b,4,none⟩=some d∧∀ i,w.frozen? ⟨b,i,none⟩=false:=by
 refine ⟨?_,?_,?_,?_,?_,?_⟩<;>simp [World.cell?,World.frozen?,h]
theorem Qb8 {A:Ad} {text:ByteArray} {σ:St} {q bx nq:Nat} {t:List (List UInt8)} {l:List (Int×Int)} {w:World} (h:Rd A text σ w) (hq:Free A q) (hn:Free A nq) (hne:q≠nq) (hs:Q0l q t w) (hcl:Held A.X (Qr q bx).bs w) (hl:QT nq l w) :
  Calls Tryz.prog 169 #[.pointer (some ⟨A.R,0,none⟩),(Qr q bx).v,.map (some nq)] w (Q3W A text w q nq (Q5m text (t,l) σ) fun p=>.agg (Q43 p).toArray):=by
 have Q0:QMid A text w q bx nq [] [] t l σ w:=⟨Qb.refl _ _,h,by simp,hs,hcl,hl,by simp⟩
 have Q1:=Hid.mk (Q0.alloc (.cells #[.string ⟨#[]⟩,.int .i64 0,.nilIface,.nilIface,.int .i64 0] 342))
 clear Q0
 go_enter Tryz.func169,Tryz.ntmps169
 go_wp2_with fail
 refine (QdX (Same.plus A _) Q1.out.rd).mono ?_
 rintro e w2 ⟨hk2,⟨res,σ2,hx2,rfl,hr2⟩ | ⟨f,hx2,b,hbb,rfl,hcell⟩⟩
 rotate_left
 ·exact Qa (Q3W.throws (Q1.out.kp.trans (hk2.mono (by simp))) Q1.out.kp (Qm (Qx hx2)) hbb hcell)
 have Q2:=Hid.mk (Q1.out.scan h hq hn hk2 hr2)
 clear hk2 hr2 Q1
 obtain ⟨T1,v1,hT1⟩:=Q03 res
 rw [hT1]
 go_wp2_with fail
 refine (Q92 (bx:=bx) (Same.plus A _) (hq.plus _) Q2.out.rd Q2.out.set Q2.out.cl).mono ?_
 rintro e w3 ⟨hk3,⟨n,t3,σ3,hx3,rfl,hr3,hs3⟩ | ⟨f,hx3,b,hbb,rfl,hcell⟩⟩
 rotate_left
 ·exact Qa (Q3W.throws (Q2.out.kp.trans (hk3.mono (by simp))) Q2.out.kp ((Qi (Ql hx2)).trans (Qm (Q5D hx3))) hbb hcell)
 have hw3:w.heap.size < w3.heap.size:=Qc ((Q2.out.claimed h hq hn hne hk3 hr3 hs3).box (w.heap.size,.cells #[.string ⟨#[]⟩,.int .i64 0,.nilIface,.nilIface,.int .i64 0] 342) List.mem_cons_self).1
 have Q4:=Hid.mk ((Q2.out.claimed h hq hn hne hk3 hr3 hs3).alloc (.cells #[.string ⟨n.1.toArray⟩,.int .i64 n.2,.iface T1 v1,.nilIface,.int .i64 0] 342))
 have E4:Hid (Q5m text (t,l) σ = bndx (lift (QX text [40])) (fun _=>bndx (lift (side text)) fun arg=>bndx (lift (QX text [41])) fun _=>bndx (onR (ending text)) fun k=>retx ⟨n.1,n.2,res,arg,k⟩) (t3,l) σ3):=(Qi (Ql hx2)).trans (Qi (Q6V hx3))
 clear hk3 hr3 hs3 Q2
 dsimp only [Q1q]
 go_wp2_with fail
 refine (Q02 (Same.plus A _) _ Q4.out.rd).mono ?_
 rintro e w5 ⟨hk5,⟨x5,σ5,hx5,rfl,hr5⟩ | ⟨f,hx5,b,hbb,rfl,hcell⟩⟩
 rotate_left
 ·exact Qa (Q3W.throws (Q4.out.kp.trans (hk5.mono (by simp))) Q4.out.kp (E4.out.trans (Qm (Qx hx5))) hbb hcell)
 have Q5:=Hid.mk (Q4.out.scan h hq hn hk5 hr5)
 clear hk5 hr5 Q4
 go_wp2_with fail
 refine (QdX (Same.plus A _) Q5.out.rd).mono ?_
 rintro e w6 ⟨hk6,⟨arg,σ6,hx6,rfl,hr6⟩ | ⟨f,hx6,b,hbb,rfl,hcell⟩⟩
 rotate_left
 ·exact Qa (Q3W.throws (Q5.out.kp.trans (hk6.mono (by simp))) Q5.out.kp (E4.out.trans ((Qi (Ql hx5)).trans (Qm (Qx hx6)))) hbb hcell)
 have Q6:=Q5.out.scan h hq hn hk6 hr6
 clear hk6 hr6 Q5
 obtain ⟨T2,v2,hT2⟩:=Q03 arg
 rw [hT2]
 obtain ⟨p0,p1,p2,p3,p4,hfp⟩:=Q9E (Q6.box (w3.heap.size,_) List.mem_cons_self).1
 have Q7:=Hid.mk (Q6.put (B':=[(w3.heap.size,.cells #[.string ⟨n.1.toArray⟩,.int .i64 n.2,.iface T1 v1,.iface T2 v2,.int .i64 0] 342),(w.heap.size,.cells #[.string ⟨#[]⟩,.int .i64 0,.nilIface,.nilIface,.int .i64 0] 342)]) h hq hn ((Qb.refl [w3.heap.size] w6).setIn (p:=⟨w3.heap.size,3,none⟩) (by simp) (.iface T2 v2)) (by simp) (by
  intro p hp
  simp only [List.mem_cons,List.not_mem_nil,or_false] at hp
  rcases hp with rfl | rfl
  ·exact ⟨Qn (i:=3) (Q6.box (w3.heap.size,_) List.mem_cons_self).1 _,by simp⟩
  ·have hb:=(Q6.box (w.heap.size,.cells #[.string ⟨#[]⟩,.int .i64 0,.nilIface,.nilIface,.int .i64 0] 342) (List.mem_cons_of_mem _ List.mem_cons_self)).1
   exact ⟨(((Qb.refl [w3.heap.size] w6).setIn (p:=⟨w3.heap.size,3,none⟩) (by simp) (.iface T2 v2)).block _ (Qc hb) (by simp;omega)).trans hb,by simp⟩))
 clear Q6
 go_wp2_with fail
 refine (Q02 (Same.plus A _) _ Q7.out.rd).mono ?_
 rintro e w8 ⟨hk8,⟨x8,σ8,hx8,rfl,hr8⟩ | ⟨f,hx8,b,hbb,rfl,hcell⟩⟩
 rotate_left
 ·exact Qa (Q3W.throws (Q7.out.kp.trans (hk8.mono (by simp))) Q7.out.kp (E4.out.trans ((Qi (Ql hx5)).trans ((Qi (Ql hx6)).trans (Qm (Qx hx8))))) hbb hcell)
 have Q8:=Hid.mk (Q7.out.scan h hq hn hk8 hr8)
 clear hk8 hr8 Q7 p0 p1 p2 p3 p4 hfp
 go_wp2_with fail
 refine (QaH (Same.plus A _) Q8.out.rd (hn.plus _) Q8.out.nums).mono ?_
 rintro e w9 ⟨hk9,⟨k,l9,σ9,hx9,rfl,hr9,hl9⟩ | ⟨f,hx9,b,hbb,rfl,hcell⟩⟩
 rotate_left
 ·exact Qa (Q3W.throws (Q8.out.kp.trans (hk9.mono (by simp))) Q8.out.kp (E4.out.trans ((Qi (Ql hx5)).trans ((Qi (Ql hx6)).trans ((Qi (Ql hx8)).trans (Qm (Q8q hx9)))))) hbb hcell)
 have Q9:=Q8.out.ended h hq hn hne hk9 hr9 hl9
 have E9:Hid (Q5m text (t,l) σ = .ok (⟨n.1,n.2,res,arg,k⟩,(t3,l9),σ9)):=E4.out.trans ((Qi (Ql hx5)).trans ((Qi (Ql hx6)).trans ((Qi (Ql hx8)).trans ((Qi (Q9C hx9)).trans rfl))))
 clear hk9 hr9 hl9 Q8 E4
 have hb3:=(Q9.box (w3.heap.size,_) List.mem_cons_self).1
 have hb0:=(Q9.box (w.heap.size,.cells #[.string ⟨#[]⟩,.int .i64 0,.nilIface,.nilIface,.int .i64 0] 342) (List.mem_cons_of_mem _ List.mem_cons_self)).1
 obtain ⟨p0,p1,p2,p3,p4,hfp⟩:=Q9E hb3
 obtain ⟨r0,r1,r2,r3,r4,hfr⟩:=Q9E hb0
 have hn3:¬ w3.heap.size=w.heap.size:=by omega
 have hn3':¬ w.heap.size=w3.heap.size:=by omega
 have HQ:=Hid.mk Q9
 clear Q9 hb3 hb0
 dsimp only [intV]
 go_wp2
 have kfin:=(((((Qb.refl [w3.heap.size,w.heap.size] w9).setIn (p:=⟨w3.heap.size,4,none⟩) (by simp) (.int .i64 k)).setIn (p:=⟨w.heap.size,0,none⟩) (by simp) (.string ⟨n.1.toArray⟩)).setIn (p:=⟨w.heap.size,1,none⟩) (by simp) (.int .i64 n.2)).setIn (p:=⟨w.heap.size,2,none⟩) (by simp) (.iface T1 v1)).setIn (p:=⟨w.heap.size,3,none⟩) (by simp) (.iface T2 v2) |>.setIn (p:=⟨w.heap.size,4,none⟩) (by simp) (.int .i64 k)
 have Qf:=HQ.out.put (B':=[]) h hq hn kfin (by simp) (by simp)
 refine bodyPost_ret (v:=.agg #[.string ⟨n.1.toArray⟩,.int .i64 n.2,.iface T1 v1,.iface T2 v2,.int .i64 k]) (by simp [results,Tryz.results169,go_sem,r0,r1,r2,r3,r4,p0,p1,p2,p3,p4]) rfl ⟨Qf.kp,Or.inl ⟨⟨n.1,n.2,res,arg,k⟩,t3,l9,σ9,E9.out,?_,Rd.dropAll h.mine Qf.rd,Qf.set,Qf.nums⟩⟩
 rw [← hT1,← hT2]
structure BMid (A:Ad) (text:ByteArray) (w:World) (TD TE:TypeId) (sz D q nq:Nat) (E:List (Nat×Obj)) (n:List UInt8×Nat) (cnt:Nat) (cells:List Value) (bs:List (Nat×Obj)) (Y:List Nat) (t:List (List UInt8)) (l:List (Int×Int)) (sl:Value) (σ:St) (u:World):Prop where
 kp:Qb [A.R,A.S,A.N] w u
 rd:Rd (A.plus Y) text σ u
 mine:∀ b∈D :: q :: nq :: E.map (·.1),b∈Y
 nd:(D :: q :: nq :: E.map (·.1)).Nodup
 new:∀ y∈Y,w.heap.size≤y
 own:∀ g,sl.ownBlock=some g→g∈Y∧g ∉ D :: q :: nq :: E.map (·.1)
 set:Q0l q t u
 nums:QT nq l u
 box:u.heap[D]? = some (.cells #[.string ⟨n.1.toArray⟩,.int .i64 n.2,sl,.int .i64 0] TD)
 fix:∀ p∈E,u.heap[p.1]? = some p.2
 row:u.ownsRow w.heap.size TE sz sl cnt cells
 held:Held (A.plus Y).X bs u
section
variable {A : Ad} {text : ByteArray} {w u u' : World} {TD TE : TypeId} {sz D q nq : Nat} {E : List (Nat × Obj)} {n : List UInt8 × Nat} {cnt : Nat} {cells : List Value} {bs : List (Nat × Obj)} {Y : List Nat} {t t' : List (List UInt8)} {l l' : List (Int × Int)} {sl : Value} {σ σ' σ0 : St}
theorem BMid.slice (m:BMid A text w TD TE sz D q nq E n cnt cells bs Y t l sl σ u):∃ ad cap,sl = .slice ad cnt cap:=by
 rcases m.row.2 with ⟨rfl,h⟩ | ⟨g,cap,cur,rfl,_⟩
 ·exact ⟨none,0,by rw [h]⟩
 ·exact ⟨_,_,rfl⟩
theorem BMid.free (h0:Rd A text σ0 w) (m:BMid A text w TD TE sz D q nq E n cnt cells bs Y t l sl σ u) {b:Nat} (hb:b∈Y):Free (A.plus Y) b:=by
 obtain ⟨l1,l2,l3,l4⟩:=h0.lt
 have hq:=m.new _ hb
 refine ⟨List.mem_append_left _ hb,?_,?_,?_,?_⟩<;>simp only [Ad.plus]<;>omega
theorem BMid.apart (m:BMid A text w TD TE sz D q nq E n cnt cells bs Y t l sl σ u):D≠q∧D≠nq∧q≠nq∧(∀ p∈E,p.1≠D∧p.1≠q∧p.1≠nq):=by
 have:=m.nd
 simp only [List.nodup_cons,List.mem_cons,not_or] at this
 obtain ⟨⟨h1,h2,h3⟩,⟨h4,h5⟩,h6,_⟩:=this
 refine ⟨h1,h2,h4,fun p hp=>?_⟩
 have hm:p.1∈E.map (·.1):=List.mem_map.2 ⟨p,hp,rfl⟩
 exact ⟨fun e=>h3 (e ▸ hm),fun e=>h5 (e ▸ hm),fun e=>h6 (e ▸ hm)⟩
theorem BMid.turn {M:List Nat} (h0:Rd A text σ0 w) (m:BMid A text w TD TE sz D q nq E n cnt cells bs Y t l sl σ u) (hk:Qb M u u') (hM:∀ x∈M,x∈[A.R,A.S,A.N,q,nq]) (hr:Rd (A.plus Y) text σ' u') (hs:Q0l q t' u') (hn:QT nq l' u') :
  BMid A text w TD TE sz D q nq E n cnt cells bs Y t' l' sl σ' u':=by
 obtain ⟨l1,l2,l3,l4⟩:=h0.lt
 obtain ⟨d1,d2,d3,d4⟩:=m.apart
 have wD:=m.new _ (m.mine D (by simp))
 have wq:=m.new _ (m.mine q (by simp))
 have wn:=m.new _ (m.mine nq (by simp))
 have hX:∀ x∈M,x∈(A.plus Y).X:=by
  intro x hx
  have hx:=hM x hx
  simp at hx
  rcases hx with rfl | rfl | rfl | rfl | rfl
  ·exact hr.mine.1
  ·exact hr.mine.2.1
  ·exact hr.mine.2.2.1
  ·exact List.mem_append_left _ (m.mine _ (by simp))
  ·exact List.mem_append_left _ (m.mine _ (by simp))
 refine ⟨m.kp.young hk ?_,hr,m.mine,m.nd,m.new,m.own,hs,hn,(hk.block _ (Qc m.box) ?_).trans m.box,?_,Qk m.row hk ?_,m.held.keeps hk hX⟩
 ·intro x hx
  have hx:=hM x hx
  simp at hx ⊢
  omega
 ·intro hx
  have hx:=hM _ hx
  simp at hx
  omega
 ·intro p hp
  have h1:=m.fix p hp
  refine (hk.block _ (Qc h1) ?_).trans h1
  intro hx
  have hx:=hM _ hx
  have h2:=m.new _ (m.mine p.1 (by simp;exact Or.inr (Or.inr (Or.inr ⟨_,hp⟩))))
  have h3:=d4 p hp
  simp at hx
  omega
 ·intro g hg hx
  have hx:=hM _ hx
  have h1:=m.own g hg
  have h2:=m.new _ h1.1
  simp at hx h1
  omega
theorem BMid.scan (h0:Rd A text σ0 w) (m:BMid A text w TD TE sz D q nq E n cnt cells bs Y t l sl σ u) (hk:Qb [A.S] u u') (hr:Rd (A.plus Y) text σ' u'):BMid A text w TD TE sz D q nq E n cnt cells bs Y t l sl σ' u':=by
 have l2:=h0.lt.2.1
 have wq:=m.new _ (m.mine q (by simp))
 have wn:=m.new _ (m.mine nq (by simp))
 exact m.turn h0 hk (by simp) hr (m.set.keeps hk (by simp;omega)) (m.nums.keeps hk (by simp;omega))
theorem BMid.below (h0:Rd A text σ0 w) (m:BMid A text w TD TE sz D q nq E n cnt cells bs Y t l sl σ u) (hb:Below u.heap.size u u'):BMid A text w TD TE sz D q nq E n cnt cells bs Y t l sl σ u':=
 m.turn h0 (Qb.of_below [] hb) (by simp) (m.rd.below hb) (m.set.keeps (Qb.of_below [] hb) (by simp)) (m.nums.keeps (Qb.of_below [] hb) (by simp))
theorem BMid.rowAt (m:BMid A text w TD TE sz D q nq E n cnt cells bs Y t l sl σ u) (o:Obj):(u.alloc o).ownsRow w.heap.size TE sz sl cnt cells:=Qk m.row ((Qb.refl [] u).alloc o) (by simp)
theorem BMid.boxAt {u2:World} {o:Obj} (m:BMid A text w TD TE sz D q nq E n cnt cells bs Y t l sl σ u) (hg:(u.alloc o).grownBy u2 sl.ownBlock):u2.heap[D]? = some (.cells #[.string ⟨n.1.toArray⟩,.int .i64 n.2,sl,.int .i64 0] TD):=by
 have hl:=Qc m.box
 exact (hg.block _ (by simp;omega) (fun e=>(m.own _ e.symm).2 (by simp))).trans ((((Qb.refl [] u).alloc o).block _ hl (by simp)).trans m.box)
theorem BMid.fixAt {u2:World} {o:Obj} (m:BMid A text w TD TE sz D q nq E n cnt cells bs Y t l sl σ u) (hg:(u.alloc o).grownBy u2 sl.ownBlock) {p:Nat×Obj} (hp:p∈E):u2.heap[p.1]? = some p.2:=by
 have h1:=m.fix p hp
 have hl:=Qc h1
 exact (hg.block _ (by simp;omega) (fun e=>(m.own _ e.symm).2 (by simp;exact Or.inr (Or.inr (Or.inr ⟨_,hp⟩))))).trans ((((Qb.refl [] u).alloc o).block _ hl (by simp)).trans h1)
theorem BMid.step {u2 u3:World} {g cap:Nat} {news:List Value} {bs':List (Nat×Obj)} (h0:Rd A text σ0 w) (e:BMid A text w TD TE sz D q nq E n cnt cells bs Y t l sl σ u) (hh:Held (A.plus Y).X bs' u) (hb:Below u.heap.size u u2)
  (hown:u3.ownsRow w.heap.size TE sz (.slice (some ⟨g,0,none⟩) (cnt + 1) cap) (cnt + 1) (cells++news))
  (hg:u2.grownBy u3 sl.ownBlock) (hat:sl.ownBlock=some g∨g=u2.heap.size) (hlt:g < u3.heap.size) :
  BMid A text w TD TE sz D q nq E n (cnt + 1) (cells++news) (bs++bs') (g :: Y) t l (.slice (some ⟨g,0,none⟩) (cnt + 1) cap) σ (u3.setCell ⟨D,2,none⟩ (.slice (some ⟨g,0,none⟩) (cnt + 1) cap)):=by
 obtain ⟨hwg,_⟩:=Q0z hown (g:=g) rfl
 have e2:=e.below h0 hb
 have hh2:=hh.keeps (Qb.of_below [] hb) (by simp)
 clear hh
 obtain ⟨d1,d2,d3,d4⟩:=e.apart
 have iD:D∈D :: q :: nq :: E.map (·.1):=by simp
 have iq:q∈D :: q :: nq :: E.map (·.1):=by simp
 have in':nq∈D :: q :: nq :: E.map (·.1):=by simp
 have wnew:∀ b∈D :: q :: nq :: E.map (·.1),w.heap.size≤b:=fun b hb=>e.new _ (e.mine b hb)
 have hlen:∀ b∈D :: q :: nq :: E.map (·.1),b < u2.heap.size:=fun b hb=>e2.rd.old b (List.mem_append_left _ (e.mine b hb))
 have k3:=hg.size
 have gl:g ∉ D :: q :: nq :: E.map (·.1):=by
  rcases hat with h | h
  ·exact (e.own g h).2
  ·intro hm
   have:=hlen g hm
   omega
 have hrow:∀ b,sl.ownBlock=some b→w.heap.size≤b∧b∈(A.plus Y).X:=fun b hb=>⟨e.new _ (e.own b hb).1,List.mem_append_left _ (e.own b hb).1⟩
 have hkg:=Q05 hg
 have hks:Qb [D] u3 (u3.setCell ⟨D,2,none⟩ (.slice (some ⟨g,0,none⟩) (cnt + 1) cap)):=(Qb.refl [D] u3).setIn (by simp) _
 have rl:∀ b∈D :: q :: nq :: E.map (·.1),b ∉ sl.ownBlock.toList:=by
  intro b hb hm
  exact (e.own b (by simpa using hm)).2 hb
 have hgX:∀ b,sl.ownBlock=some b→b∈(A.plus Y).X:=fun b hb=>(hrow b hb).2
 have hDX:∀ x∈[D],x∈(A.plus (g :: Y)).X:=by
  intro x hx
  simp only [List.mem_singleton] at hx
  subst hx
  exact List.mem_append_left _ (List.mem_cons_of_mem _ (e.mine _ iD))
 refine ⟨?_,?_,fun b hb=>List.mem_cons_of_mem _ (e.mine b hb),e.nd,?_,?_,?_,?_,?_,?_,?_,?_⟩
 ·refine (e2.kp.young hkg ?_).young hks ?_
  ·intro m hm
   exact Or.inr (hrow m (by simpa using hm)).1
  ·intro m hm
   simp only [List.mem_singleton] at hm
   subst hm
   exact Or.inr (wnew _ iD)
 ·exact h0.young (Same.plus A (g :: Y)) (Rd.grow h0 (Same.plus A Y) e2.rd hg hrow hat hlt) hks (by
   intro x hx
   exact ⟨by simp only [List.mem_singleton] at hx;subst hx;exact wnew _ iD,hDX x hx⟩)
 ·intro y hy
  rcases List.mem_cons.1 hy with rfl | hy
  ·exact hwg
  ·exact e.new y hy
 ·intro g' h'
  simp only [Value.ownBlock,Option.some.injEq] at h'
  subst h'
  exact ⟨List.mem_cons_self,gl⟩
 ·exact (e2.set.keeps hkg (rl _ iq)).keeps hks (by simp;omega)
 ·exact (e2.nums.keeps hkg (rl _ in')).keeps hks (by simp;omega)
 ·exact Qn (i:=2) ((hkg.block _ (hlen _ iD) (rl _ iD)).trans e2.box) _
 ·intro p hp
  have hm:p.1∈D :: q :: nq :: E.map (·.1):=by simp;exact Or.inr (Or.inr (Or.inr ⟨_,hp⟩))
  have hl:=hlen _ hm
  exact (hks.block _ (by omega) (by simp;exact (d4 p hp).1)).trans ((hkg.block _ hl (rl _ hm)).trans (e2.fix p hp))
 ·exact Qk hown hks (by
   intro g' h'
   simp only [Value.ownBlock,Option.some.injEq] at h'
   subst h'
   intro hm
   simp only [List.mem_singleton] at hm
   exact gl (hm ▸ iD))
 ·exact ((e2.held.app hh2).grow hg hgX hat).keeps hks hDX
theorem BMid.lies (m:BMid A text w TD TE sz D q nq E n cnt cells bs Y t l sl σ u) (hle:cnt≤1000) (hc:cells.length=cnt * sz) (hz:cnt=0→cells=[]):∃ bs',Q0u bs' TE sl cnt cells∧∀ p∈bs',u.heap[p.1]? = some p.2∧w.heap.size≤p.1∧p.1≠D:=by
 rcases m.row.2 with ⟨rfl,h⟩ | ⟨g,cap,cur,rfl,hg1,hg2,hg3,hg4,hg5,hg6⟩
 ·exact ⟨[],Or.inl ⟨rfl,h,hz h⟩,by simp⟩
 ·refine ⟨[(g,.cells cur TE)],Or.inr ⟨g,cap,cur,rfl,⟨hg3,hle⟩,by simp,?_⟩,?_⟩
  ·rw [hc]
   exact hg6
  ·intro p hp
   simp only [List.mem_singleton] at hp
   subst hp
   exact ⟨hg2,hg1,fun e=>(m.own g rfl).2 (by simp only at e;rw [e];simp)⟩
end
theorem QhT:(Tryz.prog.info? 342).map (fun i=>(i.zero,i.size,i.bytes))=some (some (.agg #[.string ⟨#[]⟩,.int .i64 0,.nilIface,.nilIface,.int .i64 0]),5,64):=by kernel_rfl
def Q3I (text:ByteArray):PX (List Q1Y×UnSt) Unit:=fun p σ=>match Q5m text p.2 σ with
 | .ok (d,s',σ')=>.ok ((),(p.1++[d],s'),σ')
 | .error f=>.error f
theorem Q9F {text:ByteArray} {ps:List Q1Y} {s s':UnSt} {σ σ':St} {d:Q1Y} (h:Q5m text s σ = .ok (d,s',σ')):Q3I text (ps,s) σ = .ok ((),(ps++[d],s'),σ'):=by simp only [Q3I,h]
theorem Q8J {text:ByteArray} {ps:List Q1Y} {s:UnSt} {σ:St} {f:Mar.Fault} (h:Q5m text s σ = .error f):Q3I text (ps,s) σ = .error f:=by simp only [Q3I,h]
structure VsAd where
 VB:Nat
 rb:Nat
 cb:Nat
 nb:Nat
 q:Nat
 nq:Nat
 bx:Nat
abbrev VsAd.E (a:VsAd):List (Nat×Obj):=[(a.cb,.cells #[(Qr a.q a.bx).v] 270),(a.nb,.cells #[.map (some a.nq)] 105)]
def vsJ (A:Ad) (text:ByteArray) (w:World) (a:VsAd) (n:List UInt8×Nat) (k:Nat) (Y:List Nat) (p:List Q1Y×UnSt) (σ:St) (u:World):Prop:=p.1.length=k ∧
 ∃ sl,BMid A text w 296 342 5 a.VB a.q a.nq a.E n p.1.length (p.1.flatMap Q43) (Qr a.q a.bx).bs Y p.2.1 p.2.2 sl σ u
theorem QbW {A' A:Ad} (hA:Same A' A) {text:ByteArray} {σ:St} {q bx nq:Nat} {t:List (List UInt8)} {l:List (Int×Int)} {w:World} (h:Rd A' text σ w) (hq:Free A' q) (hn:Free A' nq) (hne:q≠nq) (hs:Q0l q t w) (hcl:Held A'.X (Qr q bx).bs w) (hl:QT nq l w) :
  Calls Tryz.prog 169 #[.pointer (some ⟨A.R,0,none⟩),(Qr q bx).v,.map (some nq)] w (Q3W A' text w q nq (Q5m text (t,l) σ) fun p=>.agg (Q43 p).toArray):=by
 have:=Qb8 h hq hn hne hs hcl hl
 rw [hA.1] at this
 exact this
theorem QhU (d:Q1Y):∀ u∈Q43 d,u.oneCell'=true:=by
 intro u hu
 simp at hu
 rcases hu with rfl | rfl | rfl | rfl | rfl
 ·rfl
 ·rfl
 ·obtain ⟨T,v,h⟩:=Q03 d.res;rw [h];rfl
 ·obtain ⟨T,v,h⟩:=Q03 d.arg;rw [h];rfl
 ·rfl
theorem Q6Y {b:Nat} {k t a c:Value} {T:TypeId} {w:World} (h:w.heap[b]? = some (.cells #[k,t,a,c] T)):∀ i,w.frozen? ⟨b,i,none⟩=false:=by
 intro i
 simp [World.frozen?,h]
theorem QbX {A:Ad} {text:ByteArray} {w u:World} {a:VsAd} {n:List UInt8×Nat} {k:Nat} {Y:List Nat} {ps:List Q1Y} {s:UnSt} {σ σ0:St} (h0:Rd A text σ0 w) (hrb:w.heap[a.rb]? = some (.cells #[.pointer (some ⟨A.R,0,none⟩)] 101)) (hrf:a.rb ∉ [A.R,A.S,A.N]) (hk:k < 1000) (h:vsJ A text w a n k Y (ps,s) σ u) :
  Calls Tryz.prog 168 #[.pointer (some ⟨a.VB,0,none⟩),.pointer (some ⟨a.rb,0,none⟩),.pointer (some ⟨a.cb,0,none⟩),.pointer (some ⟨a.nb,0,none⟩)] u (Q0Y A w (vsJ A text w a n (k + 1)) (Q3I text (ps,s) σ)):=by
 obtain ⟨hlen,sl,hm⟩:=h
 obtain ⟨t,l⟩:=s
 dsimp only at hlen hm
 have HL:=Hid.mk hlen
 have hds:ps.length < 1000:=by omega
 clear hlen
 obtain ⟨ad,cap,rfl⟩:=hm.slice
 obtain ⟨i0,hi0,hz0,hz1,hz2⟩:=info_parts QhT
 have hlr:=Qc hrb
 have hvr:=fun (v:World) (hk:Qb [A.R,A.S,A.N] w v)=>Qv ((hk.block _ hlr hrf).trans hrb)
 have HV:=Hid.mk hvr
 obtain ⟨x0,x1,x2,x3⟩:=Q2K hm.box
 have r0:=hvr _ hm.kp
 have c0:=Qv (hm.fix (a.cb,.cells #[(Qr a.q a.bx).v] 270) (by simp [VsAd.E]))
 have n0:=Qv (hm.fix (a.nb,.cells #[.map (some a.nq)] 105) (by simp [VsAd.E]))
 have hbd:Below u.heap.size u u.drew:=(Below.refl _ _).drew
 have MD:=Hid.mk (hm.below h0 hbd)
 have HC:=Hid.mk (QbW (bx:=a.bx) (Same.plus A Y) MD.out.rd (MD.out.free h0 (MD.out.mine a.q (by simp))) (MD.out.free h0 (MD.out.mine a.nq (by simp))) MD.out.apart.2.2.1 MD.out.set MD.out.held MD.out.nums)
 have hl1:ps.length + 1≤maxLen:=by unfold maxLen;omega
 have hl2:(ps.length + 1) * 64≤140737488355328:=by omega
 have hz3:(Value.agg #[.string ⟨#[]⟩,.int .i64 0,.nilIface,.nilIface,.int .i64 0]).cells.size=5:=by decide
 clear hm hvr
 go_enter Tryz.func168,Tryz.ntmps168
 go_wp2_with fail
 refine Qu (fun w'=>w'.cell? ⟨a.VB,2,none⟩=some (.slice ad ps.length cap)∧w'.cell? ⟨a.rb,0,none⟩=some (.pointer (some ⟨A.R,0,none⟩))∧w'.cell? ⟨a.cb,0,none⟩=some (Qr a.q a.bx).v∧w'.cell? ⟨a.nb,0,none⟩=some (.map (some a.nq))) (L:=9) (by kernel_rfl) rfl (by kernel_rfl) (by kernel_rfl) ?_ (fun hHeld=>?_)
 ·go_keep
 refine tk (i:=0) (v:=?_) rfl (by kernel_rfl) (fun _ _ _ h=>h) (by rfl) (by assumption) ?_ ?_
 rotate_left
 ·intro w hSw;(try dsimp only at hSw);go_simp;(try with_reducible rfl)
 (try simp only [Qd,Qe,List.set])
 refine tk (i:=1) (v:=?_) rfl (by kernel_rfl) (fun _ _ _ h=>h) (by rfl) (by assumption) ?_ ?_
 rotate_left
 ·intro w hSw;(try dsimp only at hSw);go_simp;(try with_reducible rfl)
 (try simp only [Qd,Qe,List.set])
 refine tk (i:=2) (v:=?_) rfl (by kernel_rfl) (fun _ _ _ h=>h) (by rfl) (by assumption) ?_ ?_
 rotate_left
 ·intro w hSw;(try dsimp only at hSw);go_simp;(try with_reducible rfl)
 (try simp only [Qd,Qe,List.set])
 refine tk (i:=3) (v:=?_) rfl (by kernel_rfl) (fun _ _ _ h=>h) (by rfl) (by assumption) ?_ ?_
 rotate_left
 ·intro w hSw;(try dsimp only at hSw);go_simp;(try with_reducible rfl)
 (try simp only [Qd,Qe,List.set])
 refine tk (i:=4) (v:=?_) rfl (by kernel_rfl) (fun _ _ _ h=>h) (by rfl) (by assumption) ?_ ?_
 rotate_left
 ·intro w hSw;(try dsimp only at hSw);go_simp;(try with_reducible rfl)
 (try simp only [Qd,Qe,List.set])
 refine wpAnyH_ready (rs:=[5]) (by kernel_rfl) (by simp) ?_
 refine AllReadyH.cons rfl (fun K hK=>?_) AllReadyH.nil
 (go_simp;go_at_call 169;refine HC.out.mono ?_;rintro e w5 ⟨hk5,⟨d,t5,l5,σ5,hx5,rfl,hr5,hs5,hn5⟩ | ⟨f,hx5,b,hbb,rfl,hcell⟩⟩;rotate_left;exact Qa (Q0Y.throws (MD.out.kp.young hk5 (by intro x hx;have:=MD.out.new _ (MD.out.mine a.q (by simp));have:=MD.out.new _ (MD.out.mine a.nq (by simp));simp [Ad.plus] at hx ⊢;omega)) MD.out.kp (Q8J hx5) hbb hcell);have M5:=Hid.mk (MD.out.turn h0 hk5 (by intro x hx;simpa [Ad.plus] using hx) hr5 hs5 hn5);obtain ⟨y0,y1,y2,y3⟩:=Q2K M5.out.box;have r5:=HV.out _ M5.out.kp;have c5:=Qv (M5.out.fix (a.cb,.cells #[(Qr a.q a.bx).v] 270) (by simp [VsAd.E]));have n5:=Qv (M5.out.fix (a.nb,.cells #[.map (some a.nq)] 105) (by simp [VsAd.E]));have lb5:=Qc M5.out.box;have lr5:=Nat.lt_of_lt_of_le hlr M5.out.kp.size;have lc5:=Qc (M5.out.fix (a.cb,.cells #[(Qr a.q a.bx).v] 270) (by simp [VsAd.E]));have ln5:=Qc (M5.out.fix (a.nb,.cells #[.map (some a.nq)] 105) (by simp [VsAd.E]));have hwl:=M5.out.kp.size;dsimp only [Q43,Q4q,List.append_toArray,List.cons_append,List.nil_append])
 refine hK.out _ _ ?_ (fun hHeld=>?_)
 ·go_keep
 clear hK K
 (try simp only [Qd,Qe,List.set])
 refine wpAnyH_ready (rs:=[6]) (by kernel_rfl) (by simp) ?_
 refine AllReadyH.cons rfl (fun K hK=>?_) AllReadyH.nil
 go_simp
 refine hK.out _ _ ?_ (fun hHeld=>?_)
 ·go_keep
 clear hK K
 (try simp only [Qd,Qe,List.set])
 refine wpAnyH_ready (rs:=[7]) (by kernel_rfl) (by simp) ?_
 refine AllReadyH.cons rfl (fun K hK=>?_) AllReadyH.nil
 (refine step_append_lies _ (by rfl) _ _ _ (by rfl) w.heap.size 342 i0 _ 5 64 Tryz.underlying294 hi0 hz0 hz1 hz2 hz3 (by omega) (.slice ad ps.length cap) ps.length (ps.flatMap Q43) (by rfl) (M5.out.rowAt _) ⟨w5.heap.size,0,none⟩ 1 1 (Q43 d) (by rfl) (by rfl) (World.news_of_block (cs:=(Q43 d).toArray) (t:=342) (fr:=(0,0)) (heap_alloc_new w5 _)) (QhU d) (by omega) hl1 hl2 (by simp;omega) (w5.heap.size + 1) (by simp) ?_;intro g cap' w6 hown6 hgrow hat hlt;obtain ⟨z0,z1,z2,z3⟩:=Q2K (M5.out.boxAt hgrow);have hfz:=Q6Y (M5.out.boxAt hgrow);have c6:=Qv (M5.out.fixAt hgrow (p:=(a.cb,.cells #[(Qr a.q a.bx).v] 270)) (by simp [VsAd.E]));have n6:=Qv (M5.out.fixAt hgrow (p:=(a.nb,.cells #[.map (some a.nq)] 105)) (by simp [VsAd.E]));have r6:w6.cell? ⟨a.rb,0,none⟩=some (.pointer (some ⟨A.R,0,none⟩)):=HV.out _ (((M5.out.kp.alloc _)).young (Q05 hgrow) (by intro x hx;have h1:=M5.out.own x (by simpa using hx);exact Or.inr (M5.out.new _ h1.1))))
 refine hK.out _ _ ?_ (fun hHeld=>?_)
 ·go_keep
 clear hK K
 (try simp only [Qd,Qe,List.set])
 refine tk (i:=8) (v:=?_) rfl (by kernel_rfl) (fun _ _ _ h=>h) (by rfl) (by assumption) ?_ ?_
 rotate_left
 ·intro w hSw;(try dsimp only at hSw);go_simp;(try with_reducible rfl)
 (try simp only [Qd,Qe,List.set])
 refine wpAnyH_done (by kernel_rfl) ?_ _
 refine QB rfl (fun K hK=>?_)
 go_simp
 refine hK.out _ _ ?_
 clear hK K
 (try simp only [Qd,Qe,List.set])
 have M6:=BMid.step (bs':=[]) h0 M5.out (by intro p hp;cases hp) ((Below.refl w5.heap.size w5).alloc (Nat.le_refl _) _) hown6 hgrow (by simpa using hat) hlt
 go_wp2
 go_end0
 refine Or.inl ⟨g :: Y,(ps++[d],(t5,l5)),σ5,Q9F hx5,rfl,by simp [HL.out],.slice (some ⟨g,0,none⟩) (ps.length + 1) cap',?_⟩
 simpa using M6
theorem Q9G (args:Array Value) (u:World):(callFunc 168 args).run Tryz.prog u = .ok (.enter 168 args) u:=by kernel_rfl
def Qkr {A:Ad} {text:ByteArray} {σ0:St} {w:World} (h0:Rd A text σ0 w) (a:VsAd) (hrb:w.heap[a.rb]? = some (.cells #[.pointer (some ⟨A.R,0,none⟩)] 101)) (hrf:a.rb ∉ [A.R,A.S,A.N]) (n:List UInt8×Nat):One (List Q1Y×UnSt) A text w 8 where
 f:=168
 cap:=#[.pointer (some ⟨a.VB,0,none⟩),.pointer (some ⟨a.rb,0,none⟩),.pointer (some ⟨a.cb,0,none⟩),.pointer (some ⟨a.nb,0,none⟩)]
 run:=Q3I text
 J:=vsJ A text w a n
 enters:=Q9G
 rd:=by rintro _ _ _ _ _ ⟨_,_,m⟩;exact m.rd
 kp:=by rintro _ _ _ _ _ ⟨_,_,m⟩;exact m.kp
 scan:=by rintro _ _ _ _ _ _ _ ⟨h,sl,m⟩ hk hr;exact ⟨h,sl,m.scan h0 hk hr⟩
 call:=by
  intro k Y t σ u hk h
  exact QbX h0 hrb hrf (by omega) h
def Q7g (text:ByteArray) (n:List UInt8×Nat):PX UnSt Q0d:=bndx (lift (runx (block text 8 (Q3I text)) ([],([],[])))) fun p=>bndx (onR (ending text)) fun k=>retx ⟨n.1,n.2,p.1,k⟩
def Q34 (text:ByteArray):PX UnSt Q0d:=bndx (lift (QX text [118,101,114,115,105,111,110])) fun _=>bndx (onL (name text (Qr 0 0))) (Q7g text)
def Q59 (A:Ad) (text:ByteArray) (w:World) (q nq:Nat) (r:Except Mar.Fault (Q0d×UnSt×St)) (e:Ending) (w':World):Prop:=
 Qb [A.R,A.S,A.N,q,nq] w w'∧((∃ v t l σ' sl bs,r = .ok (v,(t,l),σ')∧e = .returned (.agg #[.string ⟨v.t.toArray⟩,.int .i64 v.at',sl,.int .i64 v.num])∧Rd A text σ' w'∧Q0l q t w'∧QT nq l w'∧Q0u bs 342 sl v.procs.length (v.procs.flatMap Q43)∧Held A.X bs w')∨(∃ f,r = .error f∧Q0c w f.no f.at' e w'))
theorem Q59.throws {A:Ad} {M':List Nat} {text:ByteArray} {w w1 w':World} {q nq:Nat} {r:Except Mar.Fault (Q0d×UnSt×St)} {f:Mar.Fault} {b:Nat}
  (hk:Qb [A.R,A.S,A.N,q,nq] w w') (hk1:Qb M' w w1) (hr:r = .error f) (hb:w1.heap.size≤b) (hc:w'.heap[b]? = some (.cells #[.int .i64 f.no,.int .i64 f.at'] 83)) :
  Q59 A text w q nq r (.panicked [{ v:=.iface 79 (.pointer (some ⟨b,0,none⟩)),recovered:=false }]) w':=⟨hk,Or.inr ⟨f,hr,b,Nat.le_trans hk1.size hb,rfl,hc⟩⟩
theorem Qga:∀ ps:List Q1Y,(ps.flatMap Q43).length=ps.length * 5:=by
 intro ps
 induction ps with
 | nil=>rfl
 | cons d ds ih=>simp only [List.flatMap_cons,List.length_append,List.length_cons,ih];simp;omega
theorem Qd8 {A:Ad} {text:ByteArray} {σ:St} {q bx nq:Nat} {t:List (List UInt8)} {l:List (Int×Int)} {w:World} (h:Rd A text σ w) (hq:Free A q) (hn:Free A nq) (hne:q≠nq) (hs:Q0l q t w) (hcl:Held A.X (Qr q bx).bs w) (hl:QT nq l w) :
  Calls Tryz.prog 137 #[.pointer (some ⟨A.R,0,none⟩),(Qr q bx).v,.map (some nq)] w (Q59 A text w q nq (Q34 text (t,l) σ)):=by
 have hmf:∀ (fn:Fn) (first cap:Array Value) (w:World),(Instr.makeFunc fn first cap).run Tryz.prog w = .ok (.func fn first cap) w:=fun _ _ _ _=>rfl
 have hmm:∀ (t:TypeId) (w:World),(Instr.makeMap t none).run Tryz.prog w = .ok (.map (some w.heap.size)) (w.alloc (.map #[] 0)):=fun _ _=>rfl
 have Q0:QMid A text w q bx nq [] [] t l σ w:=⟨Qb.refl _ _,h,by simp,hs,hcl,hl,by simp⟩
 have hs1:(w.alloc (.cells #[.pointer (some ⟨A.R,0,none⟩)] 101)).heap.size=w.heap.size + 1:=by simp
 have Q1':=(Q0.alloc (.cells #[.pointer (some ⟨A.R,0,none⟩)] 101)).alloc (.cells #[.string ⟨#[]⟩,.int .i64 0,.slice none 0 0,.int .i64 0] 296)
 rw [hs1] at Q1'
 have Q1:=Hid.mk Q1'
 have rb1:=Qv (Q1'.box (w.heap.size,.cells #[.pointer (some ⟨A.R,0,none⟩)] 101) (by simp)).1
 clear Q0 Q1' hs1
 go_enter Tryz.func137,Tryz.ntmps137
 go_wp2_with fail
 refine (Q02 (Same.plus A _) _ Q1.out.rd).mono ?_
 rintro e w2 ⟨hk2,⟨x2,σ2,hx2,rfl,hr2⟩ | ⟨f,hx2,b,hbb,rfl,hcell⟩⟩
 rotate_left
 ·exact Qa (Q59.throws (Q1.out.kp.trans (hk2.mono (by simp))) Q1.out.kp (Qm (Qx hx2)) hbb hcell)
 have Q2:=Hid.mk (Q1.out.scan h hq hn hk2 hr2)
 have rb2:=Qv (Q2.out.box (w.heap.size,.cells #[.pointer (some ⟨A.R,0,none⟩)] 101) (by simp)).1
 clear hk2 hr2 Q1 rb1
 go_wp2_with fail
 refine (Q92 (bx:=bx) (Same.plus A _) (hq.plus _) Q2.out.rd Q2.out.set Q2.out.cl).mono ?_
 rintro e w3 ⟨hk3,⟨n,t3,σ3,hx3,rfl,hr3,hs3⟩ | ⟨f,hx3,b,hbb,rfl,hcell⟩⟩
 rotate_left
 ·exact Qa (Q59.throws (Q2.out.kp.trans (hk3.mono (by simp))) Q2.out.kp ((Qi (Ql hx2)).trans (Qm (Q5D hx3))) hbb hcell)
 have Q3:=Hid.mk (Q2.out.claimed h hq hn hne hk3 hr3 hs3)
 have E3:Hid (Q34 text (t,l) σ = Q7g text n (t3,l) σ3):=(Qi (Ql hx2)).trans (Qi (Q6V hx3))
 have hrb3:=(Q3.out.box (w.heap.size,.cells #[.pointer (some ⟨A.R,0,none⟩)] 101) (by simp)).1
 clear hk3 hr3 hs3 Q2 rb2 hx2 hx3
 dsimp only [Q1q]
 go_wp2_with fail
 refine (Q6n _).mono ?_
 rintro e w5 ⟨q',bx',rfl,hq',hbx',hqb',hI',hb5,hx5⟩
 dsimp only [Q0h.v,Qr]
 have hs4:(w3.alloc (.cells #[.string ⟨n.1.toArray⟩,.int .i64 n.2,.slice none 0 0,.int .i64 0] 296)).heap.size=w3.heap.size + 1:=by simp
 have l3:=Qc hrb3
 have hlq:q' < w5.heap.size:=by
  obtain ⟨_,_,_,hm⟩:=id hI'
  exact Qc hm
 have hlx:=Qc hx5
 have hz5:=hb5.size
 have hk5:=Qb.of_below [] hb5
 have hv5:=(hk5.block _ (by omega) (by simp)).trans (Qg (w:=w3) (o:=.cells #[.string ⟨n.1.toArray⟩,.int .i64 n.2,.slice none 0 0,.int .i64 0] 296) rfl)
 have hr5:=(Q3.out.rd.own (.cells #[.string ⟨n.1.toArray⟩,.int .i64 n.2,.slice none 0 0,.int .i64 0] 296)).take hb5 hq' hlq
 obtain ⟨W6,hW6⟩:∃ W6,W6=((w5.alloc (.map #[] 0)).alloc (.cells #[(Qr q' bx').v] 270)).alloc (.cells #[.map (some w5.heap.size)] 105):=⟨_,rfl⟩
 have hs5:(w5.alloc (.map #[] 0)).heap.size=w5.heap.size + 1:=by simp
 have hs6:((w5.alloc (.map #[] 0)).alloc (.cells #[(Qr q' bx').v] 270)).heap.size=w5.heap.size + 2:=by simp
 have hr6:=((hr5.own (.map #[] 0)).own (.cells #[(Qr q' bx').v] 270)).own (.cells #[.map (some w5.heap.size)] 105)
 rw [hs5,hs6,← hW6] at hr6
 have k56:Qb [] w5 W6:=by rw [hW6];exact (((Qb.refl [] w5).alloc _).alloc _).alloc _
 have hm6:W6.heap[w5.heap.size]? = some (.map #[] 0):=by
  rw [hW6]
  exact ((((Qb.refl [] _).alloc _).alloc _).block _ (by rw [hs5];omega) (by simp)).trans (Qg rfl)
 have hc6:W6.heap[w5.heap.size + 1]? = some (.cells #[(Qr q' bx').v] 270):=by
  rw [hW6]
  exact (((Qb.refl [] _).alloc _).block _ (by rw [hs6];omega) (by simp)).trans (Qg hs5.symm)
 have hn6:W6.heap[w5.heap.size + 2]? = some (.cells #[.map (some w5.heap.size)] 105):=by
  rw [hW6]
  exact Qg hs6.symm
 have kb6:Qb [] w3 W6:=(((Qb.refl [] w3).alloc _).trans hk5).trans k56
 have hrf:w.heap.size ∉ [A.R,A.S,A.N]:=by obtain ⟨l1,l2,l3,l4⟩:=h.lt;simp;omega
 have M6:Hid (BMid (A.plus [w.heap.size + 1,w.heap.size]) text w3 296 342 5 w3.heap.size q' w5.heap.size [(w5.heap.size + 1,.cells #[(Qr q' bx').v] 270),(w5.heap.size + 2,.cells #[.map (some w5.heap.size)] 105)] n 0 [] (Qr q' bx').bs [w5.heap.size + 2,w5.heap.size + 1,w5.heap.size,q',w3.heap.size] [] [] (.slice none 0 0) σ3 W6):=by
  refine ⟨kb6.mono (by simp),hr6,?_,?_,?_,(by intro g hg;cases hg),?_,hm6,(k56.block _ (Qc hv5) (by simp)).trans hv5,?_,⟨rfl,Or.inl ⟨rfl,rfl⟩⟩,?_⟩
  ·intro b hb
   simp at hb ⊢
   omega
  ·simp
   omega
  ·intro y hy
   simp at hy
   omega
  ·have hI2:Q0l q' [] w5:=hI'
   exact hI2.keeps k56 (by simp)
  ·intro p hp
   simp only [List.mem_cons,List.not_mem_nil,or_false] at hp
   rcases hp with rfl | rfl
   ·exact hc6
   ·exact hn6
  ·intro p hp
   simp only [Qr,List.mem_singleton] at hp
   subst hp
   refine ⟨(k56.block _ hlx (by simp)).trans hx5,?_⟩
   have h1:=Q3.out.kp.size
   have h2:w.heap.size + 1 < w3.heap.size:=Qc (Q3.out.box (w.heap.size + 1,.cells #[.string ⟨#[]⟩,.int .i64 0,.slice none 0 0,.int .i64 0] 296) (by simp)).1
   simp [Ad.plus]
   refine ⟨by omega,by omega,by omega,by omega,by omega,by omega,by omega,?_⟩
   intro hm
   have:=h.old _ hm
   omega
 have rb6:=Qv ((kb6.block _ l3 (by simp)).trans hrb3)
 rw [hW6] at rb6
 clear hr6 hr5 hm6 hc6 hn6 hv5 hI' hx5 hb5 hk5 k56 hlq hlx hq' hbx' hqb'
 dsimp only [Q0h.v,Qr] at rb6
 go_wp2_with fail
 rw [show ((w5.alloc (.map #[] 0)).alloc (.cells #[.func (.func 164) #[] #[.pointer (some ⟨bx',0,none⟩)]] 270)).alloc (.cells #[.map (some w5.heap.size)] 105)=W6 from hW6.symm]
 have HJ:vsJ (A.plus [w.heap.size + 1,w.heap.size]) text w3 ⟨w3.heap.size,w.heap.size,w5.heap.size + 1,w5.heap.size + 2,q',w5.heap.size,bx'⟩ n 0 [w5.heap.size + 2,w5.heap.size + 1,w5.heap.size,q',w3.heap.size] ([],([],[])) σ3 W6:=⟨rfl,_,M6.out⟩
 refine (Q7S 8 (Qkr Q3.out.rd ⟨w3.heap.size,w.heap.size,w5.heap.size + 1,w5.heap.size + 2,q',w5.heap.size,bx'⟩ hrb3 hrf n) (by omega) HJ).mono ?_
 rintro e w6 (⟨Y6,⟨ps,t6,l6⟩,σ6,hx6,rfl,k6,hk6,hlen,sl,hM6⟩ | ⟨f,hx6,hk6,b,hbb,rfl,hcell⟩)
 rotate_left
 ·exact Qa (Q59.throws (Q3.out.kp.trans (hk6.mono (by simp [Ad.plus]))) Q3.out.kp (E3.out.trans (Qm (Qx (Q5T hx6)))) hbb hcell)
 dsimp only at hlen hM6
 have hps:ps.length≤8:=by omega
 clear hlen hk6
 have hA6:Same ((A.plus [w.heap.size + 1,w.heap.size]).plus Y6) A:=⟨rfl,rfl,rfl,rfl⟩
 have hK6:Qb [A.R,A.S,A.N] w3 w6:=hM6.kp
 have rb7:=Qv ((hK6.block _ l3 hrf).trans hrb3)
 have hnq:nq ∉ [A.R,A.S,A.N]:=by simp;exact ⟨hn.2.1,hn.2.2.1,hn.2.2.2.1⟩
 have hqq:q ∉ [A.R,A.S,A.N]:=by simp;exact ⟨hq.2.1,hq.2.2.1,hq.2.2.2.1⟩
 have hnu6:=Q3.out.nums.keeps hK6 hnq
 have hfq:Free ((A.plus [w.heap.size + 1,w.heap.size]).plus Y6) nq:=(hn.plus _).plus _
 have HM6:=Hid.mk hM6
 clear M6 HJ rb6 hW6 kb6 hs4 hs5 hs6
 go_wp2_with fail
 refine (QaH hA6 HM6.out.rd hfq hnu6).mono ?_
 rintro e w7 ⟨hk7,⟨k,l7,σ7,hx7,rfl,hr7,hl7⟩ | ⟨f,hx7,b,hbb,rfl,hcell⟩⟩
 rotate_left
 ·exact Qa (Q59.throws ((Q3.out.kp.trans (hK6.mono (by simp))).trans (hk7.mono (by simp))) (Q3.out.kp.trans (hK6.mono (M':=[A.R,A.S,A.N,q,nq]) (by simp))) (E3.out.trans ((Qi (Ql (Q4g hx6))).trans (Qm (Q8q hx7)))) hbb hcell)
 have hlS:=h.lt.2.1
 have hln:=h.old _ hn.1
 have hlq:=h.old _ hq.1
 have hRB3:=(Q3.out.box (w.heap.size + 1,.cells #[.string ⟨#[]⟩,.int .i64 0,.slice none 0 0,.int .i64 0] 296) (by simp)).1
 have lRB:=Qc hRB3
 have hRf:w.heap.size + 1 ∉ [A.R,A.S,A.N]:=by obtain ⟨l1,l2,l3,l4⟩:=h.lt;simp;omega
 have hRB6:=(hK6.block _ lRB hRf).trans hRB3
 have hRB7:=(hk7.block _ (Qc hRB6) (by simp;omega)).trans hRB6
 have hVB7:=(hk7.block _ (Qc HM6.out.box) (by simp;omega)).trans HM6.out.box
 obtain ⟨r0,r1,r2,r3⟩:=Q2K hRB7
 have hfr:=Q6Y hRB7
 obtain ⟨v0,v1,v2,v3⟩:=Q2K hVB7
 have hfv:=Q6Y hVB7
 obtain ⟨ad,cap,rfl⟩:=HM6.out.slice
 have E7:Hid (Q34 text (t,l) σ = .ok (⟨n.1,n.2,ps,k⟩,(t3,l7),σ7)):=E3.out.trans ((Qi (Ql (Q4g hx6))).trans ((Qi (Q9C hx7)).trans rfl))
 have hne1:¬ w3.heap.size=w.heap.size + 1:=by omega
 have hne2:¬ w.heap.size + 1=w3.heap.size:=by omega
 have HK7:=Hid.mk hk7
 have HR7:=Hid.mk hr7
 have HL7:=Hid.mk hl7
 clear hk7 hr7 hl7 E3 hRB3 hRB6 hnu6 rb7 hRB7 hVB7
 dsimp only [intV]
 go_wp2
 have kf:=((((Qb.refl [w3.heap.size,w.heap.size + 1] w7).setIn (p:=⟨w3.heap.size,3,none⟩) (by simp) (.int .i64 k)).setIn (p:=⟨w.heap.size + 1,0,none⟩) (by simp) (.string ⟨n.1.toArray⟩)).setIn (p:=⟨w.heap.size + 1,1,none⟩) (by simp) (.int .i64 n.2)).setIn (p:=⟨w.heap.size + 1,2,none⟩) (by simp) (.slice ad ps.length cap) |>.setIn (p:=⟨w.heap.size + 1,3,none⟩) (by simp) (.int .i64 k)
 obtain ⟨bs,hsl,hbs⟩:=HM6.out.lies (by omega) (Qga ps) (by intro h;rw [List.length_eq_zero_iff.1 h];rfl)
 have hrf7:=h.young hA6 HR7.out kf (by
  intro x hx
  simp only [List.mem_cons,List.not_mem_nil,or_false] at hx
  rcases hx with rfl | rfl
  ·exact ⟨by omega,List.mem_append_left _ (HM6.out.mine _ (by simp))⟩
  ·exact ⟨by omega,List.mem_append_right _ (by simp [Ad.plus])⟩)
 have hrA:=Rd.dropAll h.mine (Rd.dropAll Q3.out.rd.mine hrf7)
 refine bodyPost_ret (v:=.agg #[.string ⟨n.1.toArray⟩,.int .i64 n.2,.slice ad ps.length cap,.int .i64 k]) (by simp [results,Tryz.results137,go_sem,r0,r1,r2,r3,v0,v1,v2,v3]) rfl ⟨?_,Or.inl ⟨⟨n.1,n.2,ps,k⟩,t3,l7,σ7,.slice ad ps.length cap,bs,E7.out,rfl,hrA,?_,?_,hsl,?_⟩⟩
 ·refine (((Q3.out.kp.trans (hK6.mono (by simp))).trans (HK7.out.mono (by simp))).young kf ?_)
  intro x hx
  simp only [List.mem_cons,List.not_mem_nil,or_false] at hx
  exact Or.inr (by omega)
 ·exact ((Q3.out.set.keeps hK6 hqq).keeps HK7.out (by simp;exact ⟨hq.2.2.1,hne⟩)).keeps kf (by simp;omega)
 ·exact HL7.out.keeps kf (by simp;omega)
 ·intro p hp
  obtain ⟨g1,g2,g3⟩:=hbs p hp
  have lg:=Qc g1
  refine ⟨(kf.block _ (Nat.lt_of_lt_of_le lg HK7.out.size) (by simp;omega)).trans ((HK7.out.block _ lg (by simp;omega)).trans g1),?_⟩
  intro hm
  have:=h.old _ hm
  omega
end Go.Proofs.YtmbcibgknckenaaGreatDoor
