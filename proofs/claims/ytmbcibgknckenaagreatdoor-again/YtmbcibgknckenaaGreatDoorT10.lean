import Derived.Test.YtmbcibgknckenaaGreatDoorT9
set_option linter.all false
set_option maxRecDepth 100000
set_option maxHeartbeats 4000000
namespace Go.Proofs.YtmbcibgknckenaaGreatDoor
open Go.RowKit
open Go.MapKept
abbrev Q6B (sl:Value):Obj:=.cells #[.int .i64 (-2147483648),.int .i64 2147483647,sl,.bool false] 200
abbrev Q5w:Obj:=.cells #[.int .i64 0,.int .i64 0,.slice none 0 0,.bool false] 200
structure Q4R (u:World) (k:Nat) (ns:List Int) (sl:Value) (v:World):Prop where
 own:Own u ([u.heap.size + 1]++(sl.ownBlock.toList++[])) [(u.heap.size,Q5w)] [] v
 box:v.heap[u.heap.size + 1]? = some (Q6B sl)
 row:v.ownsRow u.heap.size 2 1 sl k (ns.map fun n=>Value.int .i64 n)
 nn:k=0→sl = .slice none 0 0
theorem Q4R.step {u v v2 v3:World} {k g cap:Nat} {ns:List Int} {sl:Value} {n:Int} (m:Q4R u k ns sl v) (hb:Below v.heap.size v v2)
  (hown:v3.ownsRow u.heap.size 2 1 (.slice (some ⟨g,0,none⟩) (k + 1) cap) (k + 1) ((ns.map fun n=>Value.int .i64 n)++[.int .i64 n])) (hg:v2.grownBy v3 sl.ownBlock) (hat:sl.ownBlock=some g∨g=v2.heap.size) (hlt:g < v3.heap.size) :
  Q4R u (k + 1) (ns++[n]) (.slice (some ⟨g,0,none⟩) (k + 1) cap) (v3.setCell ⟨u.heap.size + 1,2,none⟩ (.slice (some ⟨g,0,none⟩) (k + 1) cap)):=by
 obtain ⟨hwg,_⟩:=Q2p hown (g:=g) rfl
 have e2:=m.own.below hb
 have hkg:=Q0t hg
 have ho:=Own.grow (A:=[u.heap.size + 1]) (B:=[]) e2 hg hat hlt hwg
 have hks:Qa [u.heap.size + 1] v3 (v3.setCell ⟨u.heap.size + 1,2,none⟩ (.slice (some ⟨g,0,none⟩) (k + 1) cap)):=(Qa.refl [u.heap.size + 1] v3).setIn (by simp) _
 have hn:=m.own.nd
 have hn2:=ho.nd
 simp at hn hn2
 have hd:u.heap.size + 1 ∉ sl.ownBlock.toList:=by
  intro hm
  exact hn.1 (by simpa using hm)
 have box2:v2.heap[u.heap.size + 1]? = some (Q6B sl):=(hb.block _ (Qc m.box)).trans m.box
 refine ⟨ho.turn hks (by simp),QB (i:=2) ((hkg.block _ (Qc box2) hd).trans box2) _,?_,by omega⟩
 have:=Qx hown hks (by
  intro g' h'
  simp only [Value.ownBlock,Option.some.injEq] at h'
  subst h'
  simp
  omega)
 simpa using this
theorem Q4R.slice {u v:World} {k:Nat} {ns:List Int} {sl:Value} (m:Q4R u k ns sl v):∃ ad cap,sl = .slice ad k cap:=by
 rcases m.row.2 with ⟨rfl,h0⟩ | ⟨g,cap,cur,rfl,_⟩
 ·exact ⟨none,0,by rw [h0]⟩
 ·exact ⟨_,_,rfl⟩
theorem Q4R.boxAt {u v v2 v3:World} {k:Nat} {ns:List Int} {sl:Value} (m:Q4R u k ns sl v) (hb:Below v.heap.size v v2) (hg:v2.grownBy v3 sl.ownBlock):v3.heap[u.heap.size + 1]? = some (Q6B sl):=by
 have hl:=Qc m.box
 have hn:=m.own.nd
 have hz:=hb.size
 simp at hn
 exact (hg.block _ (by omega) (fun e=>hn.1 (by rw [← e]))).trans ((hb.block _ hl).trans m.box)
theorem Qc5 (u:World):Q4R u 0 [] (.slice none 0 0) ((u.alloc Q5w).alloc (Q6B (.slice none 0 0))):=by
 have e1:(u.alloc Q5w).heap.size=u.heap.size + 1:=by simp
 refine ⟨⟨((Qa.refl [] u).alloc _).alloc _,?_,?_,by simp [Value.ownBlock],?_,?_,by simp,by simp,by simp⟩,Qi e1.symm,⟨by simp,Or.inl ⟨rfl,rfl⟩⟩,fun _=>rfl⟩
 ·intro y hy
  simp [Value.ownBlock] at hy
  omega
 ·intro y hy
  simp [Value.ownBlock] at hy
  simp
  omega
 ·intro p hp
  simp only [List.mem_singleton] at hp
  subst hp
  refine ⟨(Below.heap_alloc _ _ _ (by simp)).trans (Qi rfl),by simp [Value.ownBlock]⟩
 ·intro p hp
  cases hp
def QhT (u:World) (ms:List (List UInt8×Nat×Int)) (e:Ending) (u':World):Prop:=∃ lo hi x y z wd bs',e = .returned (.agg (numA lo hi x y z wd).toArray)∧Q33 bs' (numA lo hi x y z wd) (Q0H ms)∧Below u.heap.size u u'∧∀ p∈bs',u'.heap[p.1]? = some p.2∧u.heap.size≤p.1
theorem Qge {u:World} {bs0:List (Nat×Obj)} {b at':Nat} {t:List UInt8} {ms:List (List UInt8×Nat×Int)} (hd:Q0d bs0 b (.enum t at' ms)) (hw:∀ p∈bs0,u.heap[p.1]? = some p.2) :
  Calls Tryz.prog 97 #[.pointer (some ⟨b,0,none⟩)] u (QhT u ms):=by
 obtain ⟨msl,ps,hb,hpl,hsl,hea⟩:=hd
 have hbox:=hw _ hb
 obtain ⟨k0,k1,k2,_⟩:=Q0h hbox
 obtain ⟨i0,hi0,hz0,hz1,hz2⟩:=info_parts QdI
 have M0:=Hid.mk (Qc5 u)
 have hlb:=Qc hbox
 have fin:∀ (sl:Value) (v:World),Q4R u ms.length (ms.map (·.2.2)) sl v→ms.length≤1000→∃ x y z bs',sl = .slice x y z∧Q33 bs' (numA (-2147483648) 2147483647 x y z false) (Q0H ms)∧(∀ p∈bs',p.1≠u.heap.size∧v.heap[p.1]? = some p.2∧u.heap.size≤p.1):=by
  intro sl v m hle
  rcases m.row.2 with ⟨rfl,h0⟩ | ⟨g,cap,cur,rfl,hg1,hg2,hg3,hg4,hg5,hg6⟩
  ·have hnil:ms=[]:=List.length_eq_zero_iff.1 h0
   subst hnil
   exact ⟨none,0,0,[],rfl,⟨_,rfl,by simp [Q0H,QeK],_,_,_,rfl⟩,by intro p hp;cases hp⟩
  ·refine ⟨_,_,_,[(g,.cells cur 2)],rfl,⟨_,rfl,?_,_,_,_,rfl⟩,?_⟩
   ·simp only [Q0H]
    by_cases hnil:ms=[]
    ·have:=m.nn (by simp [hnil])
     cases this
    ·rw [if_neg hnil]
     refine ⟨by simpa using hnil,Or.inr ⟨g,cap,cur,by simp,⟨by simpa using hg3,by simpa using hle⟩,by simp,?_⟩⟩
     simpa using hg6
   ·intro p hp
    simp only [List.mem_singleton] at hp
    subst hp
    have:=m.own.hf (u.heap.size,Q5w) (by simp)
    refine ⟨fun e=>this.2 ?_,hg2,hg1⟩
    simp only at e
    simp [Value.ownBlock,e]
 have HF:=Hid.mk fin
 clear fin
 have e1:((u.alloc Q5w).alloc (Q6B (.slice none 0 0))).cell? ⟨b,2,none⟩=some msl:=by
  rw [World.cell?_of_block (w:=u) (((Qc5 u).own.kp.block _ hlb (by simp)))]
  exact k2
 rcases hsl with ⟨rfl,h0,_⟩ | ⟨g,cap,cur,rfl,⟨hcap,hms⟩,hg,htake⟩
 ·have hnil:ms=[]:=List.length_eq_zero_iff.1 h0
  subst hnil
  go_enter Tryz.func97,Tryz.ntmps97
  go_wp2
  go_loopw [12] (fun i ur=>i = .int .i64 0∧ur=(u.alloc Q5w).alloc (Q6B (.slice none 0 0))) (fun _ _=>0)
  case atStart=>exact ⟨rfl,rfl⟩
  case round=>
   obtain ⟨rfl,rfl⟩:=hrel
   go_wp2
   refine bodyPost_ret (v:=.agg #[.int .i64 (-2147483648),.int .i64 2147483647,.slice none 0 0,.bool false]) (by simp [results,Tryz.results97,go_sem]) rfl ⟨-2147483648,2147483647,none,0,0,false,[],rfl,⟨_,rfl,by simp [Q0H,QeK],_,_,_,rfl⟩,?_,by intro p hp;cases hp⟩
   exact ((Below.refl _ _).alloc (Nat.le_refl _) _).alloc (by simp) _
 ·have hrow:∀ (v:World),Qa [] u v→∀ i (hi:i < ms.length) (hi':i < ps.length),v.cell? ⟨g,i,none⟩=some (.pointer (some ⟨ps[i],0,none⟩))∧v.cell? ⟨ps[i],2,none⟩=some (.int .i64 ms[i].2.2)∧ps[i] < u.heap.size∧u.cell? ⟨ps[i],2,none⟩=some (.int .i64 ms[i].2.2):=by
   intro v hv i hi hi'
   have hgb:=(hv.block _ (Qc (hw _ hg)) (by simp)).trans (hw _ hg)
   have hc:=hw _ (hea i hi hi')
   have hcb:=(hv.block _ (Qc hc) (by simp)).trans hc
   exact ⟨Qn hgb htake (by simp [hi']),(Q0h hcb).2.2.1,Qc hc,(Q0h hc).2.2.1⟩
  have HR:=Hid.mk hrow
  clear hrow
  go_enter Tryz.func97,Tryz.ntmps97
  go_wp2
  go_loopw [12] (fun i ur=>∃ (k:Nat) (sl:Value),i = .int .i64 k∧k≤ms.length∧Hid (Q4R u k ((ms.take k).map (·.2.2)) sl ur)) (fun i _=>ms.length - (intOf i).toNat)
  case atStart=>exact ⟨0,_,rfl,by omega,M0⟩
  case round=>
   obtain ⟨k,sl,rfl,hk,M⟩:=hrel
   clear M0
   rcases Nat.lt_or_ge k ms.length with hlt | hge
   ·obtain ⟨q0,q1,q2,q5⟩:=HR.out _ M.out.own.kp k hlt (by omega)
    obtain ⟨ad,cap',rfl⟩:=M.out.slice
    obtain ⟨d0,d1,d2,d3,dfr⟩:=Q0Y M.out.box
    have hk0:(0:Int)≤↑k:=by omega
    have hk1:(↑k:Int) < ↑ms.length:=by omega
    have hl1:k + 1≤maxLen:=by unfold maxLen;omega
    have hl2:(k + 1) * 8≤140737488355328:=by omega
    have hz3:(Value.int .i64 0).cells.size=1:=rfl
    have hwl:u.heap.size≤wr.heap.size:=M.out.own.kp.size
    have hdl:u.heap.size + 1 < wr.heap.size:=Qc M.out.box
    go_wp2_with fail
    refine QH (fun w'=>w'.cell? ⟨u.heap.size + 1,2,none⟩=some (.slice ad k cap')∧w'.cell? ⟨ps[k],2,none⟩=some (.int .i64 ms[k].2.2)) (L:=9) (by kernel_rfl) rfl (by kernel_rfl) (by kernel_rfl) ?_ (fun hHeld=>?_)
    ·go_keep
    refine tk (i:=0) (v:=?_) rfl (by kernel_rfl) (fun _ _ _ h=>h) (by rfl) (by assumption) ?_ ?_
    rotate_left
    ·intro w hSw;(try dsimp only at hSw);go_simp;(try with_reducible rfl)
    (try simp only [Qd,Qe,List.set])
    refine tk (i:=1) (v:=?_) rfl (by kernel_rfl) (fun _ _ _ h=>h) (by rfl) (by assumption) ?_ ?_
    rotate_left
    ·intro w hSw;(try dsimp only at hSw);go_simp;(try with_reducible rfl)
    (try simp only [Qd,Qe,List.set])
    refine tk (i:=2) (v:=?_) rfl (by kernel_rfl) (fun _ _ _ h=>h) (by rfl) (by assumption) ?_ ?_
    rotate_left
    ·intro w hSw;(try dsimp only at hSw);go_simp;(try with_reducible rfl)
    (try simp only [Qd,Qe,List.set])
    refine tk (i:=3) (v:=?_) rfl (by kernel_rfl) (fun _ _ _ h=>h) (by rfl) (by assumption) ?_ ?_
    rotate_left
    ·intro w hSw;(try dsimp only at hSw);go_simp;(try with_reducible rfl)
    (try simp only [Qd,Qe,List.set])
    refine tk (i:=4) (v:=?_) rfl (by kernel_rfl) (fun _ _ _ h=>h) (by rfl) (by assumption) ?_ ?_
    rotate_left
    ·intro w hSw;(try dsimp only at hSw);go_simp;(try with_reducible rfl)
    (try simp only [Qd,Qe,List.set])
    refine tk (i:=5) (v:=?_) rfl (by kernel_rfl) (fun _ _ _ h=>h) (by rfl) (by assumption) ?_ ?_
    rotate_left
    ·intro w hSw;(try dsimp only at hSw);go_simp;(try with_reducible rfl)
    (try simp only [Qd,Qe,List.set])
    refine wpAnyH_ready (rs:=[6]) (by kernel_rfl) (by simp) ?_
    refine AllReadyH.cons rfl (fun K hK=>?_) AllReadyH.nil
    go_simp
    refine hK.out _ _ ?_ (fun hHeld=>?_)
    ·go_keep
    clear hK K
    (try simp only [Qd,Qe,List.set])
    refine wpAnyH_ready (rs:=[7]) (by kernel_rfl) (by simp) ?_
    refine AllReadyH.cons rfl (fun K hK=>?_) AllReadyH.nil
    (refine step_append_lies _ (by rfl) _ _ _ (by rfl) u.heap.size 2 i0 _ 1 8 Tryz.underlying198 hi0 hz0 hz1 hz2 hz3 (by omega) (.slice ad k cap') k (((ms.take k).map (·.2.2)).map fun n=>Value.int .i64 n) (by rfl) (Qx (M.out.row) (((Qa.refl [] wr).alloc _).drew) (by simp)) ⟨wr.heap.size,0,none⟩ 1 1 [.int .i64 ms[k].2.2] (by rfl) (by rfl) (World.news_of_block (cs:=#[.int .i64 ms[k].2.2]) (t:=2) (fr:=(0,0)) (heap_alloc_new wr _)) (by simp [Value.oneCell']) (by omega) hl1 hl2 (by simp;omega) (wr.heap.size + 1) (by simp) ?_;intro g' cap2 w6 hown6 hgrow hat hlt6;have hbb:Below wr.heap.size wr (wr.alloc (.cells #[.int .i64 ms[k].2.2] 2)).drew:=((Below.refl _ _).alloc (Nat.le_refl _) _).drew;obtain ⟨z0,z1,z2,z3,zfr⟩:=Q0Y (M.out.boxAt hbb hgrow);have zlt:=Qc (M.out.boxAt hbb hgrow);have z5:w6.cell? ⟨ps[k],2,none⟩=some (.int .i64 ms[k].2.2):=by rw [World.cell?_of_block (w:=u) (((M.out.own.below hbb).kp.young (Q0t hgrow) (by intro x hx;exact Or.inr (M.out.own.new _ (by simp at hx ⊢;exact Or.inr hx)))).block _ q2 (by simp))];exact q5)
    refine hK.out _ _ ?_ (fun hHeld=>?_)
    ·go_keep
    clear hK K
    (try simp only [Qd,Qe,List.set])
    refine tk (i:=8) (v:=?_) rfl (by kernel_rfl) (fun _ _ _ h=>h) (by rfl) (by assumption) ?_ ?_
    rotate_left
    ·intro w hSw;(try dsimp only at hSw);go_simp;(try with_reducible rfl)
    (try simp only [Qd,Qe,List.set])
    refine wpAnyH_done (by kernel_rfl) ?_ _
    refine Q02 rfl (fun K hK=>?_)
    go_simp
    refine hK.out _ _ ?_
    clear hK K
    (try simp only [Qd,Qe,List.set])
    have M6:=Hid.mk (M.out.step (n:=ms[k].2.2) hbb hown6 hgrow (by simpa using hat) hlt6)
    go_wp2
    refine ⟨⟨k + 1,.slice (some ⟨g',0,none⟩) (k + 1) cap2,by go_num,by omega,?_⟩,by simp [intOf];omega⟩
    have e9:(ms.take (k + 1)).map (·.2.2)=(ms.take k).map (·.2.2)++[ms[k].2.2]:=by rw [List.take_succ_eq_append_getElem hlt,List.map_append];rfl
    rw [e9]
    exact M6
   ·have hkk:k=ms.length:=by omega
    subst hkk
    have m:=M.out
    rw [List.take_length] at m
    obtain ⟨x,y,z,bs',rfl,hN,hbs⟩:=HF.out _ _ m hms
    obtain ⟨d0,d1,d2,d3,dfr⟩:=Q0Y m.box
    have hR:=(m.own.hf _ List.mem_cons_self).1
    obtain ⟨r0,r1,r2,r3,rfr⟩:=Q0Y hR
    have hRl:=Qc hR
    obtain ⟨p0,p1,p2,p3,_⟩:=Q0Y (Q9A (k':=.int .i64 (-2147483648)) (t':=.int .i64 2147483647) (n':=.slice x y z) (a':=.bool false) hR)
    have kp:=Hid.mk m.own.kp
    have HN:=Hid.mk hN
    have HB:=Hid.mk hbs
    clear m M hN hbs hR
    go_wp2
    refine bodyPost_ret (v:=.agg #[.int .i64 (-2147483648),.int .i64 2147483647,.slice x y z,.bool false]) (by simp [results,Tryz.results97,go_sem,p0,p1,p2,p3]) rfl ⟨-2147483648,2147483647,x,y,z,false,bs',rfl,HN.out,?_,?_⟩
    ·have hb0:Below u.heap.size u wr:=⟨kp.out.os,kp.out.tape,kp.out.output,kp.out.size,fun k hk=>kp.out.block k hk (by simp)⟩
     exact (((hb0.setCell (p:=⟨u.heap.size,0,none⟩) (Nat.le_refl _) _).setCell (p:=⟨u.heap.size,1,none⟩) (Nat.le_refl _) _).setCell (p:=⟨u.heap.size,2,none⟩) (Nat.le_refl _) _).setCell (p:=⟨u.heap.size,3,none⟩) (Nat.le_refl _) _
    ·intro p hp
     obtain ⟨h1,h2,h3⟩:=HB.out p hp
     refine ⟨?_,h3⟩
     have hk:Qa [u.heap.size] wr ((((wr.setCell ⟨u.heap.size,0,none⟩ (.int .i64 (-2147483648))).setCell ⟨u.heap.size,1,none⟩ (.int .i64 2147483647)).setCell ⟨u.heap.size,2,none⟩ (.slice x y z)).setCell ⟨u.heap.size,3,none⟩ (.bool false)):=
      ((((Qa.refl [u.heap.size] wr).setIn (p:=⟨u.heap.size,0,none⟩) (by simp) _).setIn (p:=⟨u.heap.size,1,none⟩) (by simp) _).setIn (p:=⟨u.heap.size,2,none⟩) (by simp) _).setIn (p:=⟨u.heap.size,3,none⟩) (by simp) _
     exact (hk.block _ (Qc h2) (by simpa using h1)).trans h2
section
variable {w u u' : World} {own : List Nat} {Fr bs : List (Nat × Obj)}
theorem Own.other {M:List Nat} (h:Own w own Fr bs u) (hk:Qa M u u') (hM:∀ m∈M,w.heap.size≤m∧m ∉ own∧(∀ p∈Fr,p.1≠m)∧(∀ p∈bs,p.1≠m)):Own w own Fr bs u':=by
 refine ⟨h.kp.young hk (fun m hm=>Or.inr (hM m hm).1),h.new,fun y hy=>Nat.lt_of_lt_of_le (h.lt y hy) hk.size,h.nd,?_,?_,h.fnd,h.fnew,h.sep⟩
 ·intro p hp
  obtain ⟨h1,h2⟩:=h.hf p hp
  exact ⟨(hk.block _ (Qc h1) (fun hm=>(hM _ hm).2.2.1 p hp rfl)).trans h1,h2⟩
 ·intro p hp
  obtain ⟨h1,h2⟩:=h.hb p hp
  exact ⟨(hk.block _ (Qc h1) (fun hm=>(hM _ hm).2.2.2 p hp rfl)).trans h1,h2⟩
theorem Own.addFr (h:Own w own Fr bs u) {g:Nat} {o:Obj} (hg:u.heap[g]? = some o) (hw:w.heap.size≤g) (ho:g ∉ own) (hf:∀ p∈Fr,p.1≠g) (hb:∀ p∈bs,p.1≠g):Own w own ((g,o) :: Fr) bs u:=by
 refine ⟨h.kp,h.new,h.lt,h.nd,?_,h.hb,?_,?_,?_⟩
 ·intro p hp
  rcases List.mem_cons.1 hp with rfl | hp
  ·exact ⟨hg,ho⟩
  ·exact h.hf p hp
 ·simp only [List.map_cons,List.nodup_cons]
  refine ⟨?_,h.fnd⟩
  intro hm
  obtain ⟨p,hp,e⟩:=List.mem_map.1 hm
  exact hf p hp e
 ·intro p hp
  rcases List.mem_cons.1 hp with rfl | hp
  ·exact hw
  ·exact h.fnew p hp
 ·intro p hp q hq
  rcases List.mem_cons.1 hp with rfl | hp
  ·exact fun e=>hb q hq e.symm
  ·exact h.sep p hp q hq
theorem Own.addBs {bs':List (Nat×Obj)} (h:Own w own Fr bs u) (hk:Below u.heap.size u u') (hb:∀ p∈bs',u'.heap[p.1]? = some p.2∧u.heap.size≤p.1):Own w own Fr (bs'++bs) u':=by
 have h1:=h.below hk
 refine ⟨h1.kp,h1.new,h1.lt,h1.nd,h1.hf,?_,h1.fnd,h1.fnew,?_⟩
 ·intro p hp
  rcases List.mem_append.1 hp with hp | hp
  ·refine ⟨(hb p hp).1,fun hm=>?_⟩
   have:=h.lt _ hm
   have:=(hb p hp).2
   omega
  ·exact h1.hb p hp
 ·intro p hp q hq
  rcases List.mem_append.1 hq with hq | hq
  ·have:=Qc (h.hf p hp).1
   have:=(hb q hq).2
   omega
  ·exact h1.sep p hp q hq
end
section
variable {w u u' : World} {a : CAd} {Fr bs : List (Nat × Obj)} {s : CSt} {sl ks : Value} {cv : List (Qo × Value)} {et : List (List UInt8 × NumL × Value)}
theorem Cp.addBs {bs':List (Nat×Obj)} (h:Cp w a Fr bs s sl ks cv et u) (hk:Below u.heap.size u u') (hb:∀ p∈bs',u'.heap[p.1]? = some p.2∧u.heap.size≤p.1):Cp w a Fr (bs'++bs) s sl ks cv et u':=
 h.beside (Qa.of_below [] hk) (by simp) (fun _ hp=>List.mem_append_right _ hp) (h.own.addBs hk hb)
def Q53 (E:List (Nat×Obj)) (esl:Value) (l:List Nat):Prop:=
 (E=[]∧esl = .slice none 0 0∧l=[])∨∃ g cap cur,E=[(g,.cells cur 3)]∧esl = .slice (some ⟨g,0,none⟩) l.length cap∧l.length≤cap∧cap≤maxLen∧cur.size=cap∧cur.toList.take l.length=l.map Q7X
theorem Q53.slice {E:List (Nat×Obj)} {esl:Value} {l:List Nat} (h:Q53 E esl l):∃ ad cap,esl = .slice ad l.length cap:=by
 rcases h with ⟨_,rfl,rfl⟩ | ⟨g,cap,cur,_,rfl,_⟩
 ·exact ⟨none,0,rfl⟩
 ·exact ⟨_,_,rfl⟩
theorem Q53.owns {E:List (Nat×Obj)} {esl:Value} {l:List Nat} (h:Q53 E esl l) (m:Cp w a (E++Fr) bs s sl ks cv et u):u.ownsRow w.heap.size 3 1 esl l.length (l.map Q7X):=by
 refine ⟨by simp,?_⟩
 rcases h with ⟨_,rfl,rfl⟩ | ⟨g,cap,cur,rfl,rfl,h1,h2,h3,h4⟩
 ·exact Or.inl ⟨rfl,rfl⟩
 ·exact Or.inr ⟨g,cap,cur,rfl,m.own.fnew _ List.mem_cons_self,(m.own.hf _ List.mem_cons_self).1,h1,h2,by simpa using h3,by simpa using h4⟩
theorem Q53.grow {E:List (Nat×Obj)} {esl:Value} {l:List Nat} {u2 u3:World} {g cap n:Nat} (h:Q53 E esl l) (m:Cp w a (E++Fr) bs s sl ks cv et u) (hb:Below u.heap.size u u2)
  (hown:u3.ownsRow w.heap.size 3 1 (.slice (some ⟨g,0,none⟩) (l.length + 1) cap) (l.length + 1) ((l.map Q7X)++[.int .i64 n])) (hg:u2.grownBy u3 esl.ownBlock) (hat:esl.ownBlock=some g∨g=u2.heap.size) :
  ∃ E',Q53 E' (.slice (some ⟨g,0,none⟩) (l.length + 1) cap) (l++[n])∧Cp w a (E'++Fr) bs s sl ks cv et u3:=by
 obtain ⟨hwg,hlt⟩:=Q2p hown (g:=g) rfl
 rcases hown.2 with ⟨h0,_⟩ | ⟨g',cap',cur,e,_,o2,o3,o4,o5,o6⟩
 ·cases h0
 cases e
 have m2:=m.below hb
 have hk:=Q0t hg
 refine ⟨[(g,.cells cur 3)],Or.inr ⟨g,cap,cur,rfl,by simp,by simpa using o3,o4,by simpa using o5,by simpa using o6⟩,?_⟩
 rcases h with ⟨rfl,rfl,rfl⟩ | ⟨g0,cap0,cur0,rfl,rfl,h1,h2,h3,h4⟩
 ·simp only [Value.ownBlock] at hat hk
  have hgs:g=u2.heap.size:=by
   rcases hat with h | h
   ·cases h
   ·exact h
  have hk0:Qa [] u2 u3:=hk.mono (by simp)
  have o1:Own w (ownC a sl ks) Fr bs u3:=m2.own.turn hk0 (by simp)
  refine m2.beside hk0 (by simp) (fun _ hp=>hp) (o1.addFr o2 hwg ?_ ?_ ?_)
  ·intro hm;have:=m2.own.lt _ hm;omega
  ·intro p hp;have:=Qc (m2.own.hf p hp).1;omega
  ·intro p hp;have:=Qc (m2.own.hb p hp).1;omega
 ·simp only [Value.ownBlock,Option.some.injEq,Option.toList_some] at hat hk
  rcases hat with rfl | hgs
  ·exact Cp.setFr (o:=.cells cur0 3) m2 hk o2
  ·have hn:=m2.own.fnd
   simp only [List.cons_append,List.nil_append,List.map_cons,List.nodup_cons] at hn
   have hg0:=m2.own.hf _ List.mem_cons_self
   have t2:=m2.tail
   have o1:Own w (ownC a sl ks) Fr bs u3:=t2.own.other hk (by
    intro x hx
    simp only [List.mem_singleton] at hx
    subst hx
    refine ⟨m2.own.fnew _ List.mem_cons_self,hg0.2,?_,?_⟩
    ·intro p hp e
     exact hn.1 (by rw [← e];exact List.mem_map_of_mem hp)
    ·intro p hp e
     exact m2.own.sep _ List.mem_cons_self p hp e.symm)
   refine t2.beside hk (by simpa using hg0.2) (fun _ hp=>hp) (o1.addFr o2 hwg ?_ ?_ ?_)
   ·intro hm;have:=m2.own.lt _ hm;omega
   ·intro p hp;have:=Qc (t2.own.hf p hp).1;omega
   ·intro p hp;have:=Qc (t2.own.hb p hp).1;omega
end
theorem Cp.front {w u:World} {a:CAd} {A B bs:List (Nat×Obj)} {p:Nat×Obj} {s:CSt} {sl ks:Value} {cv:List (Qo×Value)} {et:List (List UInt8×NumL×Value)} (h:Cp w a (A++p :: B) bs s sl ks cv et u):Cp w a (p :: (A++B)) bs s sl ks cv et u:=by
 refine h.sub (fun q hq=>List.perm_middle.mem_iff.2 hq) ?_
 have:=h.own.fnd
 rw [(List.perm_middle.map _).nodup_iff] at this
 exact this
theorem Cp.back {w u:World} {a:CAd} {A B bs:List (Nat×Obj)} {p:Nat×Obj} {s:CSt} {sl ks:Value} {cv:List (Qo×Value)} {et:List (List UInt8×NumL×Value)} (h:Cp w a (p :: (A++B)) bs s sl ks cv et u):Cp w a (A++p :: B) bs s sl ks cv et u:=by
 refine h.sub (fun q hq=>List.perm_middle.mem_iff.1 hq) ?_
 have:=h.own.fnd
 rw [(List.perm_middle.map _).nodup_iff]
 exact this
theorem Cp.perm {w u:World} {a:CAd} {A B bs:List (Nat×Obj)} {s:CSt} {sl ks:Value} {cv:List (Qo×Value)} {et:List (List UInt8×NumL×Value)} (h:Cp w a A bs s sl ks cv et u) (hp:A.Perm B):Cp w a B bs s sl ks cv et u:=by
 refine h.sub (fun q hq=>hp.mem_iff.2 hq) ?_
 have:=h.own.fnd
 rw [(hp.map _).nodup_iff] at this
 exact this
theorem Cp.back2 {w u:World} {a:CAd} {A B bs:List (Nat×Obj)} {p p':Nat×Obj} {s:CSt} {sl ks:Value} {cv:List (Qo×Value)} {et:List (List UInt8×NumL×Value)} (h:Cp w a (p :: p' :: (A++B)) bs s sl ks cv et u):Cp w a (A++p :: p' :: B) bs s sl ks cv et u:=
 h.perm (List.perm_middle.trans (List.perm_middle.cons p)).symm
theorem Cp.turnAt {w u u':World} {a:CAd} {A B bs:List (Nat×Obj)} {m:Nat} {o o':Obj} {s:CSt} {sl ks:Value} {cv:List (Qo×Value)} {et:List (List UInt8×NumL×Value)} (h:Cp w a (A++(m,o) :: B) bs s sl ks cv et u) (hk:Qa [m] u u') (ho:u'.heap[m]? = some o'):Cp w a (A++(m,o') :: B) bs s sl ks cv et u':=(h.front.setFr hk ho).back
theorem Cp.turn3 {w u u':World} {a:CAd} {A B bs:List (Nat×Obj)} {p1 p2:Nat×Obj} {m:Nat} {o o':Obj} {s:CSt} {sl ks:Value} {cv:List (Qo×Value)} {et:List (List UInt8×NumL×Value)} (h:Cp w a (A++p1 :: p2 :: (m,o) :: B) bs s sl ks cv et u) (hk:Qa [m] u u') (ho:u'.heap[m]? = some o'):Cp w a (A++p1 :: p2 :: (m,o') :: B) bs s sl ks cv et u':=by
 have:=Cp.turnAt (A:=A++[p1,p2]) (B:=B) (by simpa using h) hk ho
 simpa using this
theorem Cp.turn4 {w u u':World} {a:CAd} {A B bs:List (Nat×Obj)} {p1 p2 p3:Nat×Obj} {m:Nat} {o o':Obj} {s:CSt} {sl ks:Value} {cv:List (Qo×Value)} {et:List (List UInt8×NumL×Value)} (h:Cp w a (A++p1 :: p2 :: p3 :: (m,o) :: B) bs s sl ks cv et u) (hk:Qa [m] u u') (ho:u'.heap[m]? = some o'):Cp w a (A++p1 :: p2 :: p3 :: (m,o') :: B) bs s sl ks cv et u':=by
 have:=Cp.turnAt (A:=A++[p1,p2,p3]) (B:=B) (by simpa using h) hk ho
 simpa using this
theorem Cp.gave {w u:World} {a:CAd} {A B bs:List (Nat×Obj)} {p p':Nat×Obj} {s:CSt} {sl ks:Value} {cv:List (Qo×Value)} {et:List (List UInt8×NumL×Value)} (h:Cp w a (A++p :: p' :: B) bs s sl ks cv et u):Cp w a (A++B) (p :: bs) s sl ks cv et u:=
 (Cp.give (h.perm (List.perm_middle.trans (List.perm_middle.cons p)))).tail
abbrev Q3g (lo hi:Int) (x:Option Addr) (y z:Nat) (wd:Bool) (m:Nat) (ov:Value):Array Value:=#[.int .i64 lo,.int .i64 hi,.slice x y z,.bool wd,.map (some m),ov]
structure Qb4 (w:World) (a:CAd) (Fr bs:List (Nat×Obj)) (C:Value→Array Value) (S m:Nat) (q:USt) (esl:Value) (ur:World):Prop where
 nd:(q.ways.map (·.1)).Nodup
 ex:∃ bs' ov E sl ks cv et,(∀ p∈bs,p∈bs')∧Q6A bs' ov q.other∧(∃ pa,ov = .pointer pa)∧Q53 E esl q.ends∧Cp w a (E++((m,Q1X q.ways) :: (S,.cells (C ov) 321) :: Fr)) bs' q.s sl ks cv et ur
theorem Q7Z {b:Nat} {c0 c1 c2 c3 c4 c5:Value} {T:TypeId} {w:World} (h:w.heap[b]? = some (.cells #[c0,c1,c2,c3,c4,c5] T)) :
  w.cell? ⟨b,0,none⟩=some c0∧w.cell? ⟨b,1,none⟩=some c1∧w.cell? ⟨b,2,none⟩=some c2∧w.cell? ⟨b,3,none⟩=some c3∧w.cell? ⟨b,4,none⟩=some c4∧w.cell? ⟨b,5,none⟩=some c5∧(∀ i,w.frozen? ⟨b,i,none⟩=false)∧b < w.heap.size:=by
 refine ⟨?_,?_,?_,?_,?_,?_,?_,Qc h⟩<;>simp [World.cell?,World.frozen?,h]
theorem Q80 {b:Nat} {c0 c1:Value} {T:TypeId} {w:World} (h:w.heap[b]? = some (.cells #[c0,c1] T)) :
  w.cell? ⟨b,0,none⟩=some c0∧w.cell? ⟨b,1,none⟩=some c1∧(∀ i,w.frozen? ⟨b,i,none⟩=false)∧b < w.heap.size:=by
 refine ⟨?_,?_,?_,Qc h⟩<;>simp [World.cell?,World.frozen?,h]
theorem QdT {b:Nat} {c0 c1 c2 c3:Value} {T:TypeId} {w:World} (h:w.heap[b]? = some (.cells #[c0,c1,c2,c3] T)) :
  w.cell? ⟨b,0,none⟩=some c0∧w.cell? ⟨b,1,none⟩=some c1∧w.cell? ⟨b,2,none⟩=some c2∧w.cell? ⟨b,3,none⟩=some c3∧(∀ i,w.frozen? ⟨b,i,none⟩=false)∧b < w.heap.size:=by
 refine ⟨?_,?_,?_,?_,?_,Qc h⟩<;>simp [World.cell?,World.frozen?,h]
theorem Q6A.more {bs bs':List (Nat×Obj)} (hb:∀ p∈bs,p∈bs') {v:Value} {o:Option (Nat×Nat)} (h:Q6A bs v o):Q6A bs' v o:=by
 cases o with
 | none=>exact h
 | some q=>obtain ⟨b,h1,h2⟩:=h;exact ⟨b,h1,hb _ h2⟩
theorem Qhd {q:USt} {n:Nat} {x:List Int×Qk} (hx:Q6N x.2.ty) (h:Room q.s (n + 4)):Room (uArm q x).s n:=by
 have hc:=Q4E hx.deep
 exact Room.put (Room.value _ (h.less (by omega))) _
theorem Q7C:∀ (arms:List (List Int×Qk)) {q:USt} {n:Nat},Q3v arms→Room q.s (n + 4 * arms.length)→Room (arms.foldl uArm q).s n:=by
 intro arms
 induction arms with
 | nil=>intro q n _ h;exact h
 | cons x arms ih=>
  intro q n hty h
  exact ih (fun y hy=>hty y (List.mem_cons_of_mem _ hy)) (Qhd (hty x (by simp)) (h.less (by simp only [List.length_cons];omega)))
theorem Qc6:∀ (arms:List (List Int×Qk)) (q:USt),(arms.foldl uArm q).ends.length=q.ends.length + arms.length:=by
 intro arms
 induction arms with
 | nil=>intro q;rfl
 | cons x arms ih=>intro q;simp only [List.foldl_cons];rw [ih];simp [uArm];omega
theorem Qhe:∀ (arms:List (List Int×Qk)) (q:USt),q.s.code.length≤(arms.foldl uArm q).s.code.length:=by
 intro arms
 induction arms with
 | nil=>intro q;exact Nat.le_refl _
 | cons x arms ih=>
  intro q
  simp only [List.foldl_cons]
  refine Nat.le_trans ?_ (ih (uArm q x))
  simp only [uArm,Q5R,armM,Q1P]
  omega
theorem QhU:∀ (arms:List (List Int×Qk)) (q:USt),(∀ e∈q.ends,e < q.s.code.length)→∀ e∈(arms.foldl uArm q).ends,e < (arms.foldl uArm q).s.code.length:=by
 intro arms
 induction arms with
 | nil=>intro q h;exact h
 | cons x arms ih=>
  intro q h
  simp only [List.foldl_cons]
  refine ih (uArm q x) ?_
  intro e he
  simp only [uArm,List.mem_append,List.mem_singleton] at he ⊢
  simp only [Q5R,armM,Q1P] at he ⊢
  rcases he with he | rfl
  ·have:=h e he
   omega
  ·omega
theorem Q54 (l:List Nat):∀ s:CSt,(Q28 l s).code.length=s.code.length:=by
 induction l with
 | nil=>intro s;rfl
 | cons i l ih=>
  intro s
  have:=ih (setM i (.jump s.code.length) s)
  simp only [setM,List.length_set] at this
  exact this
theorem QeY (l:List Nat) (i:Nat) (s:CSt):Q28 (l++[i]) s=setM i (.jump s.code.length) (Q28 l s):=by
 have:=Q54 l s
 simp only [Q28,List.foldl_append,List.foldl_cons,List.foldl_nil] at this ⊢
 rw [this]
theorem QhV:(Tryz.prog.info? 3).map (fun i=>(i.zero,i.size,i.bytes))=some (some (.int .i64 0),1,8):=by kernel_rfl
set_option maxHeartbeats 8000000 in
theorem QhW {w u:World} {a:CAd} {Fr bs:List (Nat×Obj)} {s:CSt} {sl ks:Value} {cv:List (Qo×Value)} {et:List (List UInt8×NumL×Value)} {bs0:List (Nat×Obj)} {b at':Nat} {t:List UInt8} {sel:Qk} {arms:List (List Int×Qk)} (hd:Q0d bs0 b (.union t at' sel arms)) (hw:∀ p∈bs0,w.heap[p.1]? = some p.2) (hsel:Q0R sel.ty) (hty:Q3v arms) (h:Cp w a Fr bs s sl ks cv et u) (hr:Room s (8 + 4 * arms.length)) :
  Calls Tryz.prog 100 #[.pointer (some ⟨a.C,0,none⟩),.pointer (some ⟨b,0,none⟩)] u fun e u'=>e = .returned (.tuple #[])∧Qy w a Fr bs (Q4m sel arms s) u':=by
 have hmm:∀ (t:TypeId) (w:World),(Instr.makeMap t none).run Tryz.prog w = .ok (.map (some w.heap.size)) (w.alloc (.map #[] 0)):=fun _ _=>rfl
 obtain ⟨asl,css,hb,hcl,hsl,hea⟩:=hd
 have hbox:=hw _ hb
 have HBOX:=Hid.mk (fun (v:World) (hv:Qa [] w v)=>Q7Z ((hv.block _ (Qc hbox) (by simp)).trans hbox))
 obtain ⟨k0,k1,k2,k3,k4,k5,_,_⟩:=HBOX.out _ h.own.kp
 obtain ⟨i0,hi0,hz0,hz1,hz2⟩:=info_parts QhV
 obtain ⟨T,x0,hT⟩:=QG sel.ty
 have VS:=QeX hsel h
 rw [hT] at k4 VS
 have hr0:=hr.code
 have VS:=Hid.mk VS
 have H:=Hid.mk h
 have HRM:Hid (Room (putM .hole s) (7 + 4 * arms.length)):=Room.put (hr.less (by omega)) _
 have HTY:=Hid.mk hty
 clear h hty hr hT
 go_enter Tryz.func100,Tryz.ntmps100
 go_wp2_with fail
 refine VS.out.mono ?_
 rintro e w1 ⟨lo,hi,x,y,z,wd,rfl,hN,hbl⟩
 have M1:=((H.out.below hbl).alloc (.map #[] 0)).alloc (.cells (Q3g lo hi x y z wd w1.heap.size (.pointer none)) 321)
 have hsz:(w1.alloc (.map #[] 0)).heap.size=w1.heap.size + 1:=by simp
 rw [hsz] at M1
 have HP:=Hid.mk (Q1v (v:=.iface 321 (.agg (Q3g lo hi x y z wd w1.heap.size (.pointer none)))) (x:=.hole) M1 ⟨_,_,rfl⟩ (by omega))
 have HN:=Hid.mk hN
 clear M1 hN hbl VS
 go_wp2_with fail
 refine HP.out.mono ?_
 rintro e w2 ⟨rfl,sl2,M2⟩
 have M3:Cp w a ((w1.heap.size,.map #[] 0) :: (w1.heap.size + 1,.cells (Q3g lo hi x y z wd w1.heap.size (.pointer none)) 321) :: Fr) bs (putM .hole s) sl2 ks _ et w2:=Cp.back (A:=[_]) M2
 have U0:Hid (Qb4 w a Fr bs (Q3g lo hi x y z wd w1.heap.size) (w1.heap.size + 1) w1.heap.size ⟨putM .hole s,[],none,[]⟩ (.slice none 0 0) w2):=⟨by simp,bs,.pointer none,[],_,_,_,_,fun _ hp=>hp,rfl,⟨_,rfl⟩,Or.inl ⟨rfl,rfl,rfl⟩,M3⟩
 obtain ⟨k0,k1,k2,k3,k4,k5,_,_⟩:=HBOX.out _ M2.own.kp
 have hle:arms.length≤1000:=by rcases hsl with ⟨_,h0,_⟩ | ⟨_,_,_,_,⟨_,h1⟩,_⟩<;>omega
 have hrow:∀ (v:World),Qa [] w v→∀ i (hi:i < arms.length),∃ g cap,asl = .slice (some ⟨g,0,none⟩) arms.length cap∧arms.length≤cap∧∃ ca cc,v.cell? ⟨g,i * 4,none⟩=some (.slice ca arms[i].1.length cc)∧v.cell? ⟨g,i * 4 + 1,none⟩=some (.string ⟨arms[i].2.t.toArray⟩)∧v.cell? ⟨g,i * 4 + 2,none⟩=some (.int .i64 arms[i].2.at')∧v.cell? ⟨g,i * 4 + 3,none⟩=some (tyV arms[i].2.ty) ∧
   arms[i].1.length≤1000∧∀ (v':World),Qa [] w v'→∀ j (hj:j < arms[i].1.length),∃ g',ca=some ⟨g',0,none⟩∧arms[i].1.length≤cc∧v'.cell? ⟨g',j,none⟩=some (.int .i64 arms[i].1[j]):=by
  intro v hv i hi
  have hi':i < css.length:=by omega
  rcases hsl with ⟨_,h0,_⟩ | ⟨g,cap,cur,hs,⟨hcap,hms⟩,hg,htake⟩
  ·omega
  ·have hgb:=(hv.block _ (Qc (hw _ hg)) (by simp)).trans (hw _ hg)
   have hf:=Q1q (c:=armC) (n:=4) (fun _=>rfl) (arms.zip css) i
   have hz:i < (arms.zip css).length:=by simp;omega
   have hcase:∃ ca cc,css[i]=Value.slice ca arms[i].1.length cc∧arms[i].1.length≤1000∧∀ (v':World),Qa [] w v'→∀ j (hj:j < arms[i].1.length),∃ g',ca=some ⟨g',0,none⟩∧arms[i].1.length≤cc∧v'.cell? ⟨g',j,none⟩=some (.int .i64 arms[i].1[j]):=by
    rcases hea i hi hi' with ⟨e,e0,_⟩ | ⟨g2,cap2,cur2,e,⟨e1,e2⟩,e3,e4⟩
    ·exact ⟨none,0,by rw [e,e0],by omega,fun v' _ j hj=>by omega⟩
    ·refine ⟨_,_,e,e2,fun v' hv' j hj=>⟨g2,rfl,e1,?_⟩⟩
     exact Qn ((hv'.block _ (Qc (hw _ e3)) (by simp)).trans (hw _ e3)) e4 (by simp [hj])
   obtain ⟨ca,cc,hcv,hc1,hc2⟩:=hcase
   refine ⟨g,cap,hs,hcap,ca,cc,Qn hgb htake ?_,Qn hgb htake ?_,Qn hgb htake ?_,Qn hgb htake ?_,hc1,hc2⟩
   ·have:=hf 0 hz (by omega);simpa [hcv] using this
   ·have:=hf 1 hz (by omega);simpa using this
   ·have:=hf 2 hz (by omega);simpa using this
   ·have:=hf 3 hz (by omega);simpa using this
 obtain ⟨aad,acap,hasl⟩:∃ ad cap,asl = .slice ad arms.length cap:=by
  rcases hsl with ⟨e,h0,_⟩ | ⟨g,cap,cur,e,_⟩
  ·exact ⟨none,0,by rw [e,h0]⟩
  ·exact ⟨_,_,e⟩
 subst hasl
 have HR:=Hid.mk hrow
 have kp2:=Hid.mk M2.own.kp
 clear hrow M2 M3 hea hsl HP
 generalize hB1:w1.heap.size=mB at *
 go_wp2_with fail
 go_loopw [32,6] (fun i esl ur=>∃ k:Nat,i = .int .i64 k∧k≤arms.length∧Hid (Qb4 w a Fr bs (Q3g lo hi x y z wd mB) (mB + 1) mB ((arms.take k).foldl uArm ⟨putM .hole s,[],none,[]⟩) esl ur)) (fun i _ _=>arms.length - (intOf i).toNat)
 case atStart=>exact ⟨0,rfl,by omega,U0⟩
 case round=>
  rename World=>wo
  obtain ⟨k,rfl,hk,U⟩:=hrel
  clear U0
  rcases Nat.lt_or_ge k arms.length with hlt | hge
  ·have hrm:Room ((arms.take k).foldl uArm ⟨putM .hole s,[],none,[]⟩).s 7:=Q7C (arms.take k) (q:=⟨putM .hole s,[],none,[]⟩) (fun x hx=>HTY.out x (List.mem_of_mem_take hx)) (HRM.out.less (by simp;omega))
   have hel:((arms.take k).foldl uArm ⟨putM .hole s,[],none,[]⟩).ends.length=k:=by rw [Qc6];simp;omega
   obtain ⟨nd,bs1,ov,E,sl1,ks1,cv1,et1,hb1,hov,⟨pa,rfl⟩,hE,M⟩:=U.out
   have hq1:(arms.take (k + 1)).foldl uArm ⟨putM .hole s,[],none,[]⟩=uArm ((arms.take k).foldl uArm ⟨putM .hole s,[],none,[]⟩) arms[k]:=by rw [List.take_succ_eq_append_getElem hlt,List.foldl_append];rfl
   have HQ:=Hid.mk hq1
   clear hq1 U
   generalize hq:(arms.take k).foldl uArm ⟨putM .hole s,[],none,[]⟩=q at *
   obtain ⟨g,cap,hasl,hcap,ca,cc,q0,q1,q2,q3,hc1,hc2⟩:=HR.out _ M.own.kp k hlt
   cases hasl
   obtain ⟨T1,v1,h1⟩:=QG arms[k].2.ty
   have HT:=Hid.mk h1
   have hi0':(0:Int)≤↑k:=by omega
   have hi1':(↑k:Int) < ↑arms.length:=by omega
   have M1:=M.alloc (.cells #[.slice ca arms[k].1.length cc,.string ⟨arms[k].2.t.toArray⟩,.int .i64 arms[k].2.at',tyV arms[k].2.ty] 292)
   have VA:=QiC (ca:=ca) (cn:=arms[k].1.length) (cc:=cc) (HTY.out arms[k] (List.getElem_mem hlt)).deep M1 (hrm.less (by omega))
   rw [h1] at q3 VA M1
   have VA:=Hid.mk VA
   have HOV:=Hid.mk hov
   have HE:=Hid.mk hE
   have HB1:=Hid.mk hb1
   have HND:=Hid.mk nd
   have HC2:=Hid.mk hc2
   obtain ⟨ead,ecap,rfl⟩:=hE.slice
   clear M M1 hov hE hb1 nd hc2 h1
   go_wp2_with fail
   refine VA.out.mono ?_
   rintro e w3 ⟨rfl,bs3,sl3,ks3,cv3,et3,hb3,M3⟩
   have M4:=M3.alloc (.cells #[.int .i64 (wayM arms[k].2 q.s).1,.int .i64 (wayM arms[k].2 q.s).2] 323)
   have hrm2:Room (armM arms[k].2 q.s) 1:=Room.value _ (hrm.less (by have:=Q4E (HTY.out arms[k] (List.getElem_mem hlt)).deep;omega))
   have HP:=Hid.mk (Q1v (v:=.iface 325 (.agg #[.int .i64 0])) (x:=.jump 0) M4 rfl (by have:=hrm2.code;omega))
   have HB3:=Hid.mk hb3
   clear M3 M4 VA hb3
   go_wp2_with fail
   refine HP.out.mono ?_
   rintro e w4 ⟨rfl,sl4,M4⟩
   have M5:=M4.back2
   have hown5:∀ ob,(w4.alloc ob).ownsRow w.heap.size 3 1 (.slice ead k ecap) k (q.ends.map Q7X):=by
    intro ob
    have:=HE.out.owns M5
    rw [hel] at this
    exact Qx this ((Qa.refl [] w4).alloc ob) (by simp)
   have hwl:w.heap.size≤w4.heap.size:=M5.own.kp.size
   have hl1:k + 1≤maxLen:=by unfold maxLen;omega
   have hl2:(k + 1) * 8≤140737488355328:=by omega
   have hz3:(Value.int .i64 0).cells.size=1:=rfl
   have M5:=Hid.mk M5
   clear M4 HP
   go_wp2_with (first
    | (at_builtin;refine wpList_append_lies _ (by rfl) _ _ _ (by rfl) w.heap.size 3 i0 _ 1 8 Tryz.underlying230 hi0 hz0 hz1 hz2 hz3 (by omega) (.slice ead k ecap) k (q.ends.map Q7X) (by rfl) (hown5 _) ⟨w4.heap.size,0,none⟩ 1 1 [.int .i64 (armM arms[k].2 q.s).code.length] (by rfl) (by rfl) (World.news_of_block (cs:=#[.int .i64 (armM arms[k].2 q.s).code.length]) (t:=3) (fr:=(0,0)) (heap_alloc_new w4 _)) (by simp [Value.oneCell']) (by omega) hl1 hl2 (by simp;omega) (w4.heap.size + 1) (by simp) ?_;intro g5 cap5 w5 hown6 hgrow hat hlt5;obtain ⟨E5,hE5,M6⟩:=HE.out.grow M5.out ((Below.refl w4.heap.size w4).alloc (Nat.le_refl _) _) (by rw [hel];exact hown6) (by rw [hel];exact hgrow) (by rw [hel];simpa using hat);obtain ⟨r0,r1,r2,r3,rfr,rlt⟩:=QdT (M6.own.hf _ (List.mem_append_right _ (List.mem_cons_of_mem _ List.mem_cons_self))).1;have M6:=Hid.mk M6;have HE5:=Hid.mk hE5;clear hE5 M5 hown5 hown6 hgrow hat hlt5)
    | fail)
   go_loopw [49] (fun i ur=>∃ j:Nat,i = .int .i64 j∧j≤arms[k].1.length∧Hid ((((arms[k].1.take j).foldl (fun l n=>mput l n (wayM arms[k].2 q.s)) q.ways).map (·.1)).Nodup∧∃ sl6 cv6,Cp w a (E5++((w3.heap.size,.cells #[.int .i64 (wayM arms[k].2 q.s).1,.int .i64 (wayM arms[k].2 q.s).2] 323) :: (wo.heap.size,.cells #[.slice ca arms[k].1.length cc,.string ⟨arms[k].2.t.toArray⟩,.int .i64 arms[k].2.at',.iface T1 v1] 292) :: (mB,Q1X ((arms[k].1.take j).foldl (fun l n=>mput l n (wayM arms[k].2 q.s)) q.ways)) :: (mB + 1,.cells (Q3g lo hi x y z wd mB (.pointer pa)) 321) :: Fr)) bs3 (putM (.jump 0) (armM arms[k].2 q.s)) sl6 ks3 cv6 et3 ur)) (fun i _=>arms[k].1.length - (intOf i).toNat)
   case atStart=>exact ⟨0,rfl,by omega,HND.out,_,_,M6.out⟩
   case round=>
    obtain ⟨j,rfl,hj,N⟩:=hrel
    clear M6
    rcases Nat.lt_or_ge j arms[k].1.length with hjl | hjg
    ·obtain ⟨nd6,sl6,cv6,N6⟩:=N.out
     obtain ⟨g',hca,hcc,hcell⟩:=HC2.out _ N6.own.kp j hjl
     obtain ⟨p0,p1,_,_⟩:=Q80 (N6.own.hf _ (List.mem_append_right _ List.mem_cons_self)).1
     obtain ⟨_,_,_,_,s4,_,_,_⟩:=Q7Z (N6.own.hf _ (List.mem_append_right _ (List.mem_cons_of_mem _ (List.mem_cons_of_mem _ (List.mem_cons_of_mem _ List.mem_cons_self))))).1
     have hmap:=(N6.own.hf _ (List.mem_append_right _ (List.mem_cons_of_mem _ (List.mem_cons_of_mem _ List.mem_cons_self)))).1
     have pu:=Q8F hmap nd6 arms[k].1[j] (wayM arms[k].2 q.s).1 (wayM arms[k].2 q.s).2
     have hfold:(arms[k].1.take (j + 1)).foldl (fun l n=>mput l n (wayM arms[k].2 q.s)) q.ways=mput ((arms[k].1.take j).foldl (fun l n=>mput l n (wayM arms[k].2 q.s)) q.ways) arms[k].1[j] (wayM arms[k].2 q.s):=by rw [List.take_succ_eq_append_getElem hjl,List.foldl_append];rfl
     have hnew:Hid ((((arms[k].1.take (j + 1)).foldl (fun l n=>mput l n (wayM arms[k].2 q.s)) q.ways).map (·.1)).Nodup∧∃ sl6 cv6,Cp w a (E5++((w3.heap.size,.cells #[.int .i64 (wayM arms[k].2 q.s).1,.int .i64 (wayM arms[k].2 q.s).2] 323) :: (wo.heap.size,.cells #[.slice ca arms[k].1.length cc,.string ⟨arms[k].2.t.toArray⟩,.int .i64 arms[k].2.at',.iface T1 v1] 292) :: (mB,Q1X ((arms[k].1.take (j + 1)).foldl (fun l n=>mput l n (wayM arms[k].2 q.s)) q.ways)) :: (mB + 1,.cells (Q3g lo hi x y z wd mB (.pointer pa)) 321) :: Fr)) bs3 (putM (.jump 0) (armM arms[k].2 q.s)) sl6 ks3 cv6 et3 (Q09 wr mB (Q1X (mput ((arms[k].1.take j).foldl (fun l n=>mput l n (wayM arms[k].2 q.s)) q.ways) arms[k].1[j] ((wayM arms[k].2 q.s).1,(wayM arms[k].2 q.s).2))))):=by
      rw [hfold]
      exact ⟨Q31 nd6 _ _,sl6,cv6,N6.turn3 (Q0a _ _ _) (Q1t (Qc hmap) _)⟩
     have hj0:(0:Int)≤↑j:=by omega
     have hj1:(↑j:Int) < ↑arms[k].1.length:=by omega
     obtain ⟨W,hW⟩:∃ W,W=Q09 wr mB (Q1X (mput ((arms[k].1.take j).foldl (fun l n=>mput l n (wayM arms[k].2 q.s)) q.ways) arms[k].1[j] ((wayM arms[k].2 q.s).1,(wayM arms[k].2 q.s).2))):=⟨_,rfl⟩
     rw [← hW] at pu hnew
     clear hW N N6 hmap hfold nd6
     subst hca
     go_wp2
     exact ⟨⟨j + 1,by go_num,by omega,hnew⟩,by simp [intOf];omega⟩
    ·have hjj:j=arms[k].1.length:=by omega
     subst hjj
     obtain ⟨nd6,sl6,cv6,N6⟩:=N.out
     rw [List.take_length] at nd6 N6
     obtain ⟨r0,r1,r2,r3,rfr,rlt⟩:=QdT (N6.own.hf _ (List.mem_append_right _ (List.mem_cons_of_mem _ List.mem_cons_self))).1
     have hS:=(N6.own.hf _ (List.mem_append_right _ (List.mem_cons_of_mem _ (List.mem_cons_of_mem _ (List.mem_cons_of_mem _ List.mem_cons_self))))).1
     obtain ⟨_,_,_,_,s4,s5,sfr,slt⟩:=Q7Z hS
     have HS:=Hid.mk hS
     have N6:=Hid.mk N6
     have HND6:=Hid.mk nd6
     have el1:(q.ends.length + 1:Nat)=k + 1:=by omega
     clear N nd6 hS
     by_cases hnil:arms[k].1=[]
     ·have hlen0:arms[k].1.length=0:=by rw [hnil];rfl
      have hc0:((arms[k].1.length:Int) == 0)=true:=by rw [hlen0];rfl
      have N7:=Hid.mk (N6.out.turn4 ((Qa.refl [mB + 1] wr).setIn (p:=⟨mB + 1,5,none⟩) (by simp) (.pointer (some ⟨w3.heap.size,0,none⟩))) (QB (i:=5) HS.out (.pointer (some ⟨w3.heap.size,0,none⟩)))).gave
      have HNIL:=Hid.mk hnil
      clear N6 HS hnil hlen0
      go_wp2
      refine ⟨⟨k + 1,by go_num,by omega,?_⟩,by simp [intOf];omega⟩
      show Qb4 w a Fr bs (Q3g lo hi x y z wd mB) (mB + 1) mB _ _ _
      rw [HQ.out]
      refine ⟨HND6.out,_,.pointer (some ⟨w3.heap.size,0,none⟩),E5,sl6,ks3,cv6,et3,fun p hp=>List.mem_cons_of_mem _ (HB3.out p (HB1.out p hp)),?_,⟨_,rfl⟩,?_,N7.out⟩
      ·simp only [uArm,HNIL.out,if_true]
       exact ⟨_,rfl,List.mem_cons_self⟩
      ·have:=HE5.out
       rw [el1] at this
       exact this
     ·have hc0:((arms[k].1.length:Int) == 0)=false:=by
       have:arms[k].1.length≠0:=fun e=>hnil (List.length_eq_zero_iff.1 e)
       simp
       omega
      have N7:=Hid.mk N6.out.gave
      have HNIL:=Hid.mk hnil
      clear N6 HS hnil
      go_wp2
      refine ⟨⟨k + 1,by go_num,by omega,?_⟩,by simp [intOf];omega⟩
      show Qb4 w a Fr bs (Q3g lo hi x y z wd mB) (mB + 1) mB _ _ _
      rw [HQ.out]
      refine ⟨HND6.out,_,.pointer pa,E5,sl6,ks3,cv6,et3,fun p hp=>List.mem_cons_of_mem _ (HB3.out p (HB1.out p hp)),?_,⟨_,rfl⟩,?_,N7.out⟩
      ·simp only [uArm,HNIL.out,if_false]
       exact HOV.out.more (fun p hp=>List.mem_cons_of_mem _ (HB3.out p hp))
      ·have:=HE5.out
       rw [el1] at this
       exact this
  ·have hkk:k=arms.length:=by omega
   subst hkk
   have hql:=Qhe arms ⟨putM .hole s,[],none,[]⟩
   have hqe:=QhU arms ⟨putM .hole s,[],none,[]⟩ (by intro e he;cases he)
   have hel:(arms.foldl uArm ⟨putM .hole s,[],none,[]⟩).ends.length=arms.length:=by rw [Qc6];simp
   obtain ⟨nd,bs1,ov,E,sl1,ks1,cv1,et1,hb1,hov,⟨pa,rfl⟩,hE,M⟩:=U.out
   rw [List.take_length] at nd hov hE M
   have HU:Hid (Q4m sel arms s=Q28 (arms.foldl uArm ⟨putM .hole s,[],none,[]⟩).ends (setM s.code.length (.choice (Q0x s sel.ty) (arms.foldl uArm ⟨putM .hole s,[],none,[]⟩).ways (arms.foldl uArm ⟨putM .hole s,[],none,[]⟩).other) (arms.foldl uArm ⟨putM .hole s,[],none,[]⟩).s)):=rfl
   clear U
   generalize hq:arms.foldl uArm ⟨putM .hole s,[],none,[]⟩=q at *
   rw [Q5R] at hql
   obtain ⟨c0,c1,c2,c3,hfz,hlt⟩:=M.cells
   obtain ⟨s0,s1,s2,s3,s4,s5,sfr,slt⟩:=Q7Z (M.own.hf _ (List.mem_append_right _ (List.mem_cons_of_mem _ List.mem_cons_self))).1
   obtain ⟨g,cap,hsl1,hcap,hfr,⟨y0,hy⟩,hg,M4⟩:=Cp.setCode (i:=s.code.length) (x:=.choice (Q0x s sel.ty) q.ways q.other) (v:=.iface 321 (.agg (Q3g lo hi x y z wd mB (.pointer pa)))) (M.gave.below (Below.refl _ _).drew) ⟨numA lo hi x y z wd,mB,.pointer pa,rfl,HN.out.more (fun p hp=>List.mem_cons_of_mem _ (hb1 p hp)),List.mem_cons_self,hov.more (fun p hp=>List.mem_cons_of_mem _ hp)⟩ (by omega)
   have hidx:(s.code.length:Int) < (q.s.code.length:Int):=by omega
   obtain ⟨ead,ecap,rfl⟩:=hE.slice
   have HE:=Hid.mk hE
   have HB1:=Hid.mk hb1
   have M4:=Hid.mk M4
   cases hsl1
   clear M hE hb1 hov nd
   have hnr:∀ (j:Nat),j < q.ends.length→∃ e:Nat,q.ends[j]? = some e∧e < q.s.code.length:=fun j hj=>⟨q.ends[j],by simp [hj],hqe _ (List.getElem_mem hj)⟩
   have hcells:∀ (v:World) (st:CSt) (bs9:List (Nat×Obj)) (sl9 ks9:Value) (cv9:List (Qo×Value)) (et9:List (List UInt8×NumL×Value)),Cp w a (E++Fr) bs9 st sl9 ks9 cv9 et9 v→∀ (j:Nat) (hj:j < q.ends.length),∃ g',ead=some ⟨g',0,none⟩∧q.ends.length≤ecap∧v.cell? ⟨g',j,none⟩=some (.int .i64 q.ends[j]):=by
    intro v st bs9 sl9 ks9 cv9 et9 m j hj
    rcases HE.out with ⟨_,_,e0⟩ | ⟨g9,cap9,cur9,rfl,e1,e2,e3,e4,e5⟩
    ·rw [e0] at hj;simp at hj
    ·cases e1
     exact ⟨g9,rfl,e2,Qn (xs:=q.ends.map Q7X) (m.own.hf _ List.mem_cons_self).1 (by simpa using e5) (by simp [hj])⟩
   have HCL:=Hid.mk hcells
   have HQE:=Hid.mk hqe
   clear hcells hnr hqe
   go_wp2
   go_region
   go_wp2
   go_loopw [74] (fun i ur=>∃ j:Nat,i = .int .i64 j∧j≤q.ends.length∧Hid (∃ cv9,Cp w a (E++Fr) ((mB,Q1X q.ways) :: bs1) (Q28 (q.ends.take j) (setM s.code.length (.choice (Q0x s sel.ty) q.ways q.other) q.s)) (.slice (some ⟨g,0,none⟩) q.s.code.length cap) ks1 cv9 et1 ur)) (fun i _=>q.ends.length - (intOf i).toNat)
   case atStart=>exact ⟨0,rfl,by omega,_,M4.out⟩
   case round=>
    obtain ⟨j,rfl,hj,N⟩:=hrel
    clear M4
    rcases Nat.lt_or_ge j q.ends.length with hjl | hjg
    ·obtain ⟨cv9,N6⟩:=N.out
     obtain ⟨g',head,hec,hcell⟩:=HCL.out _ _ _ _ _ _ _ N6 j hjl
     have hL:(Q28 (q.ends.take j) (setM s.code.length (.choice (Q0x s sel.ty) q.ways q.other) q.s)).code.length=q.s.code.length:=by rw [Q54];simp [setM]
     have hst:Q28 (q.ends.take (j + 1)) (setM s.code.length (.choice (Q0x s sel.ty) q.ways q.other) q.s)=setM q.ends[j] (.jump q.s.code.length) (Q28 (q.ends.take j) (setM s.code.length (.choice (Q0x s sel.ty) q.ways q.other) q.s)):=by
      rw [List.take_succ_eq_append_getElem hjl,QeY]
      simp [setM]
     have hej:=HQE.out _ (List.getElem_mem hjl)
     obtain ⟨c0,c1,c2,c3,hfz,hlt⟩:=N6.cells
     obtain ⟨g9,cap9,hsl9,hcap9,hfr9,⟨y9,hy9⟩,hg9,N7⟩:=Cp.setCode (i:=q.ends[j]) (x:=.jump q.s.code.length) (v:=.iface 325 (.agg #[.int .i64 q.s.code.length])) (N6.below (Below.refl _ _).drew) rfl (by rw [hL];exact hej)
     have HH:=Q2l (N6.below (Below.refl _ _).drew)
     rw [hL] at HH hsl9 hcap9
     cases hsl9
     have hN:Hid (∃ cv9,Cp w a (E++Fr) ((mB,Q1X q.ways) :: bs1) (Q28 (q.ends.take (j + 1)) (setM s.code.length (.choice (Q0x s sel.ty) q.ways q.other) q.s)) (.slice (some ⟨g,0,none⟩) q.s.code.length cap) ks1 cv9 et1 (wr.drew.setCell ⟨g,q.ends[j],none⟩ (.iface 325 (.agg #[.int .i64 q.s.code.length])))):=by
      rw [hst]
      exact ⟨_,N7⟩
     have HH:=Hid.mk HH
     have hj0:(0:Int)≤↑j:=by omega
     have hj1:(↑j:Int) < ↑q.ends.length:=by omega
     have hj2:(↑j:Int) < ↑arms.length:=by omega
     have hje:(↑(q.ends[j]):Int) < ↑q.s.code.length:=by omega
     subst head
     clear N N6 N7 hst hL
     generalize hej':q.ends[j]=ej at *
     go_wp2_with fail
     refine QH (fun w'=>w'.cell? ⟨a.C,0,none⟩=some (.slice (some ⟨g,0,none⟩) q.s.code.length cap)) (L:=10) (by kernel_rfl) rfl (by kernel_rfl) (by kernel_rfl) ?_ (fun hHeld=>?_)
     ·go_keep
     refine tk (i:=0) (v:=?_) rfl (by kernel_rfl) (fun _ _ _ h=>h) (by rfl) (by assumption) ?_ ?_
     rotate_left
     ·intro w hSw;(try dsimp only at hSw);go_simp;(try with_reducible rfl)
     (try simp only [Qd,Qe,List.set])
     refine tk (i:=1) (v:=?_) rfl (by kernel_rfl) (fun _ _ _ h=>h) (by rfl) (by assumption) ?_ ?_
     rotate_left
     ·intro w hSw;(try dsimp only at hSw);go_simp;(try with_reducible rfl)
     (try simp only [Qd,Qe,List.set])
     refine tk (i:=2) (v:=?_) rfl (by kernel_rfl) (fun _ _ _ h=>h) (by rfl) (by assumption) ?_ ?_
     rotate_left
     ·intro w hSw;(try dsimp only at hSw);go_simp;(try with_reducible rfl)
     (try simp only [Qd,Qe,List.set])
     refine tk (i:=3) (v:=?_) rfl (by kernel_rfl) (fun _ _ _ h=>h) (by rfl) (by assumption) ?_ ?_
     rotate_left
     ·intro w hSw;(try dsimp only at hSw);go_simp;(try with_reducible rfl)
     (try simp only [Qd,Qe,List.set])
     refine tk (i:=4) (v:=?_) rfl (by kernel_rfl) (fun _ _ _ h=>h) (by rfl) (by assumption) ?_ ?_
     rotate_left
     ·intro w hSw;(try dsimp only at hSw);go_simp;(try with_reducible rfl)
     (try simp only [Qd,Qe,List.set])
     refine tk (i:=5) (v:=?_) rfl (by kernel_rfl) (fun _ _ _ h=>h) (by rfl) (by assumption) ?_ ?_
     rotate_left
     ·intro w hSw;(try dsimp only at hSw);go_simp;(try with_reducible rfl)
     (try simp only [Qd,Qe,List.set])
     refine wpAnyH_ready (rs:=[6]) (by kernel_rfl) (by simp) ?_
     refine AllReadyH.cons rfl (fun K hK=>?_) AllReadyH.nil
     (go_simp;go_at_call 95;refine HH.out.mono ?_;rintro e w9 ⟨rfl,rfl⟩)
     refine hK.out _ _ ?_ (fun hHeld=>?_)
     ·go_keep
     clear hK K
     (try simp only [Qd,Qe,List.set])
     refine tk (i:=7) (v:=?_) rfl (by kernel_rfl) (fun _ _ _ h=>h) (by rfl) (by assumption) ?_ ?_
     rotate_left
     ·intro w hSw;(try dsimp only at hSw);go_simp;(try with_reducible rfl)
     (try simp only [Qd,Qe,List.set])
     refine tk (i:=8) (v:=?_) rfl (by kernel_rfl) (fun _ _ _ h=>h) (by rfl) (by assumption) ?_ ?_
     rotate_left
     ·intro w hSw;(try dsimp only at hSw);go_simp;(try with_reducible rfl)
     (try simp only [Qd,Qe,List.set])
     refine tk (i:=9) (v:=?_) rfl (by kernel_rfl) (fun _ _ _ h=>h) (by rfl) (by assumption) ?_ ?_
     rotate_left
     ·intro w hSw;(try dsimp only at hSw);go_simp;(try with_reducible rfl)
     (try simp only [Qd,Qe,List.set])
     refine wpAnyH_done (by kernel_rfl) ?_ _
     refine Q02 rfl (fun K hK=>?_)
     go_simp
     refine hK.out _ _ ?_
     clear hK K
     (try simp only [Qd,Qe,List.set])
     go_wp2
     exact ⟨⟨j + 1,by go_num,by omega,hN⟩,by simp [intOf];omega⟩
    ·have hjj:j=q.ends.length:=by omega
     subst hjj
     obtain ⟨cv9,N6⟩:=N.out
     rw [List.take_length] at N6
     have G:=Hid.mk (N6.sub (Fr':=Fr) (fun p hp=>List.mem_append_right _ hp) (by have:=N6.own.fnd;rw [List.map_append,List.nodup_append] at this;exact this.2.1)).gives
     clear N N6
     go_wp2
     go_end0
     refine ⟨rfl,?_⟩
     rw [HU.out]
     exact Qy.more (fun p hp=>List.mem_cons_of_mem _ (HB1.out p hp)) G.out
theorem Qdm {w u:World} {a:CAd} {Fr bs:List (Nat×Obj)} {s:CSt} {sl ks:Value} {cv:List (Qo×Value)} {et:List (List UInt8×NumL×Value)} {bs0:List (Nat×Obj)} {b:Nat} {d:Qk} (hd:Q0d bs0 b (.typedef d)) (hw:∀ p∈bs0,w.heap[p.1]? = some p.2) (hty:Q2z d.ty) (h:Cp w a Fr bs s sl ks cv et u) (hr:Room s 5000) :
  Calls Tryz.prog 53 #[.pointer (some ⟨a.C,0,none⟩),.iface 178 (.pointer (some ⟨b,0,none⟩))] u fun e u'=>e = .returned (.tuple #[])∧Qy w a Fr bs (QX (.typedef d) s) u':=by
 have t0:∀ W,(Instr.typeAssert (.iface 178 (.pointer (some ⟨b,0,none⟩))) 113 178 true).run Tryz.prog W = .ok (.tuple #[.pointer (some ⟨b,0,none⟩),.bool true]) W:=fun W=>by kernel_rfl
 have HD:=Hid.mk hd
 have hr0:=hr.code
 have HH:=Hid.mk (Q2l h)
 obtain ⟨k0,k1,k2,_⟩:=Q0h (h.heap (hw _ hd))
 obtain ⟨T,x,hT⟩:=QG d.ty
 have V:=Q5k hty.deep h (hr.less (by omega))
 rw [hT] at k2 V
 have V:=Hid.mk V
 have hc:=Q4E hty.deep
 have hvl:=Q1P d.ty s
 clear h hd hT
 go_enter Tryz.func53,Tryz.ntmps53
 go_wp2_with fail
 refine HH.out.mono ?_
 rintro e w1 ⟨rfl,rfl⟩
 go_wp2_with fail
 refine V.out.mono ?_
 rintro e w2 ⟨rfl,bs2,sl2,ks2,cv2,et2,hb2,M2⟩
 go_wp2_with fail
 refine (Q1v (v:=.iface 210 (.agg #[])) (x:=.ret) M2 rfl (by rw [hvl];omega)).mono ?_
 rintro e w3 ⟨rfl,sl3,M3⟩
 have hh3:Held [] bs0 w3.drew:=fun p hp=>⟨M3.heap (hw p hp),by simp⟩
 have htr:=Q2O (d:=.typedef d) HD.out hh3
 have hen:=Q1S
 have hfn:∀ (a b:Value) (W:World),(Instr.field 116 (.agg #[a,b]) 0).run Tryz.prog W = .ok a W:=fun _ _ _=>by kernel_rfl
 dsimp only [defT,Qw] at htr
 obtain ⟨c0,c1,c2,c3,hfz,hlt⟩:=M3.cells
 have M3:=Hid.mk M3
 have HB2:=Hid.mk hb2
 clear M2 hb2 hh3
 go_wp2_with fail
 refine QH (fun w'=>w'.cell? ⟨a.C,1,none⟩=some (.map (some a.B))) (L:=8) (by kernel_rfl) rfl (by kernel_rfl) (by kernel_rfl) ?_ (fun hHeld=>?_)
 ·go_keep
 refine tk (i:=0) (v:=?_) rfl (by kernel_rfl) (fun _ _ _ h=>h) (by rfl) (by assumption) ?_ ?_
 rotate_left
 ·intro w hSw;(try dsimp only at hSw);go_simp;(try with_reducible rfl)
 (try simp only [Qd,Qe,List.set])
 refine tk (i:=1) (v:=?_) rfl (by kernel_rfl) (fun _ _ _ h=>h) (by rfl) (by assumption) ?_ ?_
 rotate_left
 ·intro w hSw;(try dsimp only at hSw);go_simp;(try with_reducible rfl)
 (try simp only [Qd,Qe,List.set])
 refine tk (i:=2) (v:=?_) rfl (by kernel_rfl) (fun _ _ _ h=>h) (by rfl) (by assumption) ?_ ?_
 rotate_left
 ·intro w hSw;(try dsimp only at hSw);go_simp;(try with_reducible rfl)
 (try simp only [Qd,Qe,List.set])
 refine tk (i:=3) (v:=?_) rfl (by kernel_rfl) (fun _ _ _ h=>h) (by rfl) (by assumption) ?_ ?_
 rotate_left
 ·intro w hSw;(try dsimp only at hSw);go_simp;(try with_reducible rfl)
 (try simp only [Qd,Qe,List.set])
 refine tk (i:=4) (v:=?_) rfl (by kernel_rfl) (fun _ _ _ h=>h) (by rfl) (by assumption) ?_ ?_
 rotate_left
 ·intro w hSw;(try dsimp only at hSw);go_simp;(try with_reducible rfl)
 (try simp only [Qd,Qe,List.set])
 refine tk (i:=7) (v:=?_) rfl (by kernel_rfl) (fun _ _ _ h=>h) (by rfl) (by assumption) ?_ ?_
 rotate_left
 ·intro w hSw;(try dsimp only at hSw);go_simp;(try with_reducible rfl)
 (try simp only [Qd,Qe,List.set])
 refine wpAnyH_ready (rs:=[5]) (by kernel_rfl) (by simp) ?_
 refine AllReadyH.cons rfl (fun K hK=>?_) AllReadyH.nil
 (go_simp;go_at_call 238;refine (Q2M _ _ _).mono ?_;rintro e w6 ⟨rfl,hb6⟩;have M6:=(M3.out.below (Below.refl _ _).drew).below hb6;have c6:=M6.cells.2.1;obtain ⟨hput,M7⟩:=M6.putBody d.t s.code.length;have M7:=Hid.mk M7;clear M6 hb6)
 refine hK.out _ _ ?_ (fun hHeld=>?_)
 ·go_keep
 clear hK K
 (try simp only [Qd,Qe,List.set])
 refine tk (i:=6) (v:=?_) rfl (by kernel_rfl) (fun _ _ _ h=>h) (by rfl) (by assumption) ?_ ?_
 rotate_left
 ·intro w hSw;(try dsimp only at hSw);go_simp;(try with_reducible rfl)
 (try simp only [Qd,Qe,List.set])
 refine wpAnyH_done (by kernel_rfl) ?_ _
 refine Q02 rfl (fun K hK=>?_)
 go_simp
 refine hK.out _ _ ?_
 clear hK K
 (try simp only [Qd,Qe,List.set])
 go_wp2
 go_end0
 exact ⟨rfl,Qy.more HB2.out M7.out.gives⟩
theorem QeZ {w u:World} {a:CAd} {Fr bs:List (Nat×Obj)} {s:CSt} {sl ks:Value} {cv:List (Qo×Value)} {et:List (List UInt8×NumL×Value)} {bs0:List (Nat×Obj)} {b:Nat} {at':Nat} {t:List UInt8} {ms:List Qk} (hd:Q0d bs0 b (.struct t at' ms)) (hw:∀ p∈bs0,w.heap[p.1]? = some p.2) (hty:∀ m∈ms,Q2z m.ty) (hn:ms.length≤1000) (h:Cp w a Fr bs s sl ks cv et u) (hr:Room s 5000) :
  Calls Tryz.prog 53 #[.pointer (some ⟨a.C,0,none⟩),.iface 182 (.pointer (some ⟨b,0,none⟩))] u fun e u'=>e = .returned (.tuple #[])∧Qy w a Fr bs (QX (.struct t at' ms) s) u':=by
 have t0:∀ W,(Instr.typeAssert (.iface 182 (.pointer (some ⟨b,0,none⟩))) 113 178 true).run Tryz.prog W = .ok (.tuple #[.pointer none,.bool false]) W:=fun W=>by kernel_rfl
 have t1:∀ W,(Instr.typeAssert (.iface 182 (.pointer (some ⟨b,0,none⟩))) 113 180 true).run Tryz.prog W = .ok (.tuple #[.pointer none,.bool false]) W:=fun W=>by kernel_rfl
 have t2:∀ W,(Instr.typeAssert (.iface 182 (.pointer (some ⟨b,0,none⟩))) 113 182 true).run Tryz.prog W = .ok (.tuple #[.pointer (some ⟨b,0,none⟩),.bool true]) W:=fun W=>by kernel_rfl
 have HD:=Hid.mk hd
 have hr0:=hr.code
 have HH:=Hid.mk (Q2l h)
 have V:=Hid.mk (Qdl hd hw (fun m hm=>(hty m hm).deep) h (hr.less (by omega)))
 have hrm:Room (Q27 ms s) 1:=by
  have e:=Q8G (ms.map (·.ty)) (s:=putM (.struct ms.length true) s) (n:=1) (by intro t ht;obtain ⟨m,hm,rfl⟩:=List.mem_map.1 ht;exact (hty m hm).deep) (Room.put (hr.less (by simp;omega)) _)
  rw [List.foldl_map] at e
  exact e
 have hrc:=hrm.code
 clear h hd hty hrm
 go_enter Tryz.func53,Tryz.ntmps53
 go_wp2_with fail
 refine HH.out.mono ?_
 rintro e w1 ⟨rfl,rfl⟩
 go_wp2_with fail
 refine V.out.mono ?_
 rintro e w2 ⟨rfl,bs2,sl2,ks2,cv2,et2,hb2,M2⟩
 go_wp2_with fail
 refine (Q1v (v:=.iface 210 (.agg #[])) (x:=.ret) M2 rfl (by omega)).mono ?_
 rintro e w3 ⟨rfl,sl3,M3⟩
 have hh3:Held [] bs0 w3.drew:=fun p hp=>⟨M3.heap (hw p hp),by simp⟩
 have htr:=Q2O (d:=.struct t at' ms) HD.out hh3
 have hen:=Q1S
 have hfn:∀ (a b:Value) (W:World),(Instr.field 116 (.agg #[a,b]) 0).run Tryz.prog W = .ok a W:=fun _ _ _=>by kernel_rfl
 dsimp only [defT,Qw] at htr
 obtain ⟨c0,c1,c2,c3,hfz,hlt⟩:=M3.cells
 have M3:=Hid.mk M3
 have HB2:=Hid.mk hb2
 clear M2 hb2 hh3
 go_wp2_with fail
 refine QH (fun w'=>w'.cell? ⟨a.C,1,none⟩=some (.map (some a.B))) (L:=8) (by kernel_rfl) rfl (by kernel_rfl) (by kernel_rfl) ?_ (fun hHeld=>?_)
 ·go_keep
 refine tk (i:=0) (v:=?_) rfl (by kernel_rfl) (fun _ _ _ h=>h) (by rfl) (by assumption) ?_ ?_
 rotate_left
 ·intro w hSw;(try dsimp only at hSw);go_simp;(try with_reducible rfl)
 (try simp only [Qd,Qe,List.set])
 refine tk (i:=1) (v:=?_) rfl (by kernel_rfl) (fun _ _ _ h=>h) (by rfl) (by assumption) ?_ ?_
 rotate_left
 ·intro w hSw;(try dsimp only at hSw);go_simp;(try with_reducible rfl)
 (try simp only [Qd,Qe,List.set])
 refine tk (i:=2) (v:=?_) rfl (by kernel_rfl) (fun _ _ _ h=>h) (by rfl) (by assumption) ?_ ?_
 rotate_left
 ·intro w hSw;(try dsimp only at hSw);go_simp;(try with_reducible rfl)
 (try simp only [Qd,Qe,List.set])
 refine tk (i:=3) (v:=?_) rfl (by kernel_rfl) (fun _ _ _ h=>h) (by rfl) (by assumption) ?_ ?_
 rotate_left
 ·intro w hSw;(try dsimp only at hSw);go_simp;(try with_reducible rfl)
 (try simp only [Qd,Qe,List.set])
 refine tk (i:=4) (v:=?_) rfl (by kernel_rfl) (fun _ _ _ h=>h) (by rfl) (by assumption) ?_ ?_
 rotate_left
 ·intro w hSw;(try dsimp only at hSw);go_simp;(try with_reducible rfl)
 (try simp only [Qd,Qe,List.set])
 refine tk (i:=7) (v:=?_) rfl (by kernel_rfl) (fun _ _ _ h=>h) (by rfl) (by assumption) ?_ ?_
 rotate_left
 ·intro w hSw;(try dsimp only at hSw);go_simp;(try with_reducible rfl)
 (try simp only [Qd,Qe,List.set])
 refine wpAnyH_ready (rs:=[5]) (by kernel_rfl) (by simp) ?_
 refine AllReadyH.cons rfl (fun K hK=>?_) AllReadyH.nil
 (go_simp;go_at_call 238;refine (Q2M _ _ _).mono ?_;rintro e w6 ⟨rfl,hb6⟩;have M6:=(M3.out.below (Below.refl _ _).drew).below hb6;have c6:=M6.cells.2.1;obtain ⟨hput,M7⟩:=M6.putBody t s.code.length;have M7:=Hid.mk M7;clear M6 hb6)
 refine hK.out _ _ ?_ (fun hHeld=>?_)
 ·go_keep
 clear hK K
 (try simp only [Qd,Qe,List.set])
 refine tk (i:=6) (v:=?_) rfl (by kernel_rfl) (fun _ _ _ h=>h) (by rfl) (by assumption) ?_ ?_
 rotate_left
 ·intro w hSw;(try dsimp only at hSw);go_simp;(try with_reducible rfl)
 (try simp only [Qd,Qe,List.set])
 refine wpAnyH_done (by kernel_rfl) ?_ _
 refine Q02 rfl (fun K hK=>?_)
 go_simp
 refine hK.out _ _ ?_
 clear hK K
 (try simp only [Qd,Qe,List.set])
 go_wp2
 go_end0
 exact ⟨rfl,Qy.more HB2.out M7.out.gives⟩
theorem Qgf {w u:World} {a:CAd} {Fr bs:List (Nat×Obj)} {s:CSt} {sl ks:Value} {cv:List (Qo×Value)} {et:List (List UInt8×NumL×Value)} {bs0:List (Nat×Obj)} {b:Nat} {at':Nat} {t:List UInt8} {sel:Qk} {arms:List (List Int×Qk)} (hd:Q0d bs0 b (.union t at' sel arms)) (hw:∀ p∈bs0,w.heap[p.1]? = some p.2) (hsel:Q0R sel.ty) (hty:Q3v arms) (hn:arms.length≤1000) (h:Cp w a Fr bs s sl ks cv et u) (hr:Room s 5000) :
  Calls Tryz.prog 53 #[.pointer (some ⟨a.C,0,none⟩),.iface 184 (.pointer (some ⟨b,0,none⟩))] u fun e u'=>e = .returned (.tuple #[])∧Qy w a Fr bs (QX (.union t at' sel arms) s) u':=by
 have t0:∀ W,(Instr.typeAssert (.iface 184 (.pointer (some ⟨b,0,none⟩))) 113 178 true).run Tryz.prog W = .ok (.tuple #[.pointer none,.bool false]) W:=fun W=>by kernel_rfl
 have t1:∀ W,(Instr.typeAssert (.iface 184 (.pointer (some ⟨b,0,none⟩))) 113 180 true).run Tryz.prog W = .ok (.tuple #[.pointer none,.bool false]) W:=fun W=>by kernel_rfl
 have t2:∀ W,(Instr.typeAssert (.iface 184 (.pointer (some ⟨b,0,none⟩))) 113 182 true).run Tryz.prog W = .ok (.tuple #[.pointer none,.bool false]) W:=fun W=>by kernel_rfl
 have t3:∀ W,(Instr.typeAssert (.iface 184 (.pointer (some ⟨b,0,none⟩))) 113 184 true).run Tryz.prog W = .ok (.tuple #[.pointer (some ⟨b,0,none⟩),.bool true]) W:=fun W=>by kernel_rfl
 have HD:=Hid.mk hd
 have hr0:=hr.code
 have HH:=Hid.mk (Q2l h)
 have V:=Hid.mk (QhW hd hw hsel hty h (hr.less (by omega)))
 have hrm:(Q4m sel arms s).code.length < 1000000:=by
  have e:=(Q7C arms (q:=⟨putM .hole s,[],none,[]⟩) (n:=1) hty (Room.put (hr.less (by omega)) _)).code
  simp only [Q4m]
  rw [Q54]
  simp only [setM,List.length_set]
  omega
 clear h hd hty
 go_enter Tryz.func53,Tryz.ntmps53
 go_wp2_with fail
 refine HH.out.mono ?_
 rintro e w1 ⟨rfl,rfl⟩
 go_wp2_with fail
 refine V.out.mono ?_
 rintro e w2 ⟨rfl,bs2,sl2,ks2,cv2,et2,hb2,M2⟩
 go_wp2_with fail
 refine (Q1v (v:=.iface 210 (.agg #[])) (x:=.ret) M2 rfl (by omega)).mono ?_
 rintro e w3 ⟨rfl,sl3,M3⟩
 have hh3:Held [] bs0 w3.drew:=fun p hp=>⟨M3.heap (hw p hp),by simp⟩
 have htr:=Q2O (d:=.union t at' sel arms) HD.out hh3
 have hen:=Q1S
 have hfn:∀ (a b:Value) (W:World),(Instr.field 116 (.agg #[a,b]) 0).run Tryz.prog W = .ok a W:=fun _ _ _=>by kernel_rfl
 dsimp only [defT,Qw] at htr
 obtain ⟨c0,c1,c2,c3,hfz,hlt⟩:=M3.cells
 have M3:=Hid.mk M3
 have HB2:=Hid.mk hb2
 clear M2 hb2 hh3
 go_wp2_with fail
 refine QH (fun w'=>w'.cell? ⟨a.C,1,none⟩=some (.map (some a.B))) (L:=8) (by kernel_rfl) rfl (by kernel_rfl) (by kernel_rfl) ?_ (fun hHeld=>?_)
 ·go_keep
 refine tk (i:=0) (v:=?_) rfl (by kernel_rfl) (fun _ _ _ h=>h) (by rfl) (by assumption) ?_ ?_
 rotate_left
 ·intro w hSw;(try dsimp only at hSw);go_simp;(try with_reducible rfl)
 (try simp only [Qd,Qe,List.set])
 refine tk (i:=1) (v:=?_) rfl (by kernel_rfl) (fun _ _ _ h=>h) (by rfl) (by assumption) ?_ ?_
 rotate_left
 ·intro w hSw;(try dsimp only at hSw);go_simp;(try with_reducible rfl)
 (try simp only [Qd,Qe,List.set])
 refine tk (i:=2) (v:=?_) rfl (by kernel_rfl) (fun _ _ _ h=>h) (by rfl) (by assumption) ?_ ?_
 rotate_left
 ·intro w hSw;(try dsimp only at hSw);go_simp;(try with_reducible rfl)
 (try simp only [Qd,Qe,List.set])
 refine tk (i:=3) (v:=?_) rfl (by kernel_rfl) (fun _ _ _ h=>h) (by rfl) (by assumption) ?_ ?_
 rotate_left
 ·intro w hSw;(try dsimp only at hSw);go_simp;(try with_reducible rfl)
 (try simp only [Qd,Qe,List.set])
 refine tk (i:=4) (v:=?_) rfl (by kernel_rfl) (fun _ _ _ h=>h) (by rfl) (by assumption) ?_ ?_
 rotate_left
 ·intro w hSw;(try dsimp only at hSw);go_simp;(try with_reducible rfl)
 (try simp only [Qd,Qe,List.set])
 refine tk (i:=7) (v:=?_) rfl (by kernel_rfl) (fun _ _ _ h=>h) (by rfl) (by assumption) ?_ ?_
 rotate_left
 ·intro w hSw;(try dsimp only at hSw);go_simp;(try with_reducible rfl)
 (try simp only [Qd,Qe,List.set])
 refine wpAnyH_ready (rs:=[5]) (by kernel_rfl) (by simp) ?_
 refine AllReadyH.cons rfl (fun K hK=>?_) AllReadyH.nil
 (go_simp;go_at_call 238;refine (Q2M _ _ _).mono ?_;rintro e w6 ⟨rfl,hb6⟩;have M6:=(M3.out.below (Below.refl _ _).drew).below hb6;have c6:=M6.cells.2.1;obtain ⟨hput,M7⟩:=M6.putBody t s.code.length;have M7:=Hid.mk M7;clear M6 hb6)
 refine hK.out _ _ ?_ (fun hHeld=>?_)
 ·go_keep
 clear hK K
 (try simp only [Qd,Qe,List.set])
 refine tk (i:=6) (v:=?_) rfl (by kernel_rfl) (fun _ _ _ h=>h) (by rfl) (by assumption) ?_ ?_
 rotate_left
 ·intro w hSw;(try dsimp only at hSw);go_simp;(try with_reducible rfl)
 (try simp only [Qd,Qe,List.set])
 refine wpAnyH_done (by kernel_rfl) ?_ _
 refine Q02 rfl (fun K hK=>?_)
 go_simp
 refine hK.out _ _ ?_
 clear hK K
 (try simp only [Qd,Qe,List.set])
 go_wp2
 go_end0
 exact ⟨rfl,Qy.more HB2.out M7.out.gives⟩
theorem Cp.lookSame {w u:World} {a:CAd} {Fr bs:List (Nat×Obj)} {s:CSt} {sl ks:Value} {cv:List (Qo×Value)} {et:List (List UInt8×NumL×Value)} {n:List UInt8} {x:NumL} {v:Value} (h:Cp w a Fr bs s sl ks cv (mput et n (x,v)) u):(Instr.lookup 120 (.map (some a.E)) (.string ⟨n.toArray⟩) false).run Tryz.prog u = .ok v u:=by
 have hrun:=Q6k (P:=Tryz.prog) (w:=u) (T:=120) (kt:=9) (et:=200) (d:=.string) (by kernel_rfl) (by kernel_rfl) (fun k:List UInt8=>.string ⟨k.toArray⟩) (fun k:NumL×Value=>k.2) (fun _=>trivial) Q3I h.enu h.enp (z:=.agg #[.int .i64 0,.int .i64 0,.slice none 0 0,.bool false]) (by kernel_rfl) n false
 rw [Q36,if_pos rfl] at hrun
 exact hrun
theorem Qhf {w u:World} {a:CAd} {Fr bs:List (Nat×Obj)} {s:CSt} {sl ks:Value} {cv:List (Qo×Value)} {et:List (List UInt8×NumL×Value)} {bs0:List (Nat×Obj)} {b:Nat} {at':Nat} {t:List UInt8} {ms:List (List UInt8×Nat×Int)} (hd:Q0d bs0 b (.enum t at' ms)) (hw:∀ p∈bs0,w.heap[p.1]? = some p.2) (h:Cp w a Fr bs s sl ks cv et u) (hr:Room s 5000) :
  Calls Tryz.prog 53 #[.pointer (some ⟨a.C,0,none⟩),.iface 180 (.pointer (some ⟨b,0,none⟩))] u fun e u'=>e = .returned (.tuple #[])∧Qy w a Fr bs (QX (.enum t at' ms) s) u':=by
 have t0:∀ W,(Instr.typeAssert (.iface 180 (.pointer (some ⟨b,0,none⟩))) 113 178 true).run Tryz.prog W = .ok (.tuple #[.pointer none,.bool false]) W:=fun W=>by kernel_rfl
 have t1:∀ W,(Instr.typeAssert (.iface 180 (.pointer (some ⟨b,0,none⟩))) 113 180 true).run Tryz.prog W = .ok (.tuple #[.pointer (some ⟨b,0,none⟩),.bool true]) W:=fun W=>by kernel_rfl
 have HD:=Hid.mk hd
 have hr0:=hr.code
 have HH:=Hid.mk (Q2l h)
 have hbb:∃ msl,w.heap[b]? = some (.cells #[.string ⟨t.toArray⟩,.int .i64 at',msl] 206):=by obtain ⟨msl,ps,h1,_⟩:=hd;exact ⟨msl,hw _ h1⟩
 obtain ⟨msl,hbox⟩:=hbb
 have HBX:=Hid.mk (fun (v:World) (hv:Qa [] w v)=>(Q0h ((hv.block _ (Qc hbox) (by simp)).trans hbox)).1)
 have k0:=HBX.out _ h.own.kp
 obtain ⟨c0,c1,c2,c3,hfz,hlt⟩:=h.cells
 have VM:=Hid.mk (Qge (u:=u.drew) hd (fun p hp=>h.heap (hw p hp)))
 have H:=Hid.mk h
 clear h hd hbox
 go_enter Tryz.func53,Tryz.ntmps53
 go_wp2_with fail
 refine HH.out.mono ?_
 rintro e w1 ⟨rfl,rfl⟩
 go_wp2_with fail
 refine QH (fun w'=>w'.cell? ⟨a.C,2,none⟩=some (.map (some a.E))∧w'.cell? ⟨b,0,none⟩=some (.string ⟨t.toArray⟩)) (L:=11) (by kernel_rfl) rfl (by kernel_rfl) (by kernel_rfl) ?_ (fun hHeld=>?_)
 ·go_keep
 refine tk (i:=0) (v:=?_) rfl (by kernel_rfl) (fun _ _ _ h=>h) (by rfl) (by assumption) ?_ ?_
 rotate_left
 ·intro w hSw;(try dsimp only at hSw);go_simp;(try with_reducible rfl)
 (try simp only [Qd,Qe,List.set])
 refine tk (i:=1) (v:=?_) rfl (by kernel_rfl) (fun _ _ _ h=>h) (by rfl) (by assumption) ?_ ?_
 rotate_left
 ·intro w hSw;(try dsimp only at hSw);go_simp;(try with_reducible rfl)
 (try simp only [Qd,Qe,List.set])
 refine tk (i:=2) (v:=?_) rfl (by kernel_rfl) (fun _ _ _ h=>h) (by rfl) (by assumption) ?_ ?_
 rotate_left
 ·intro w hSw;(try dsimp only at hSw);go_simp;(try with_reducible rfl)
 (try simp only [Qd,Qe,List.set])
 refine tk (i:=3) (v:=?_) rfl (by kernel_rfl) (fun _ _ _ h=>h) (by rfl) (by assumption) ?_ ?_
 rotate_left
 ·intro w hSw;(try dsimp only at hSw);go_simp;(try with_reducible rfl)
 (try simp only [Qd,Qe,List.set])
 refine tk (i:=4) (v:=?_) rfl (by kernel_rfl) (fun _ _ _ h=>h) (by rfl) (by assumption) ?_ ?_
 rotate_left
 ·intro w hSw;(try dsimp only at hSw);go_simp;(try with_reducible rfl)
 (try simp only [Qd,Qe,List.set])
 refine tk (i:=5) (v:=?_) rfl (by kernel_rfl) (fun _ _ _ h=>h) (by rfl) (by assumption) ?_ ?_
 rotate_left
 ·intro w hSw;(try dsimp only at hSw);go_simp;(try with_reducible rfl)
 (try simp only [Qd,Qe,List.set])
 refine tk (i:=6) (v:=?_) rfl (by kernel_rfl) (fun _ _ _ h=>h) (by rfl) (by assumption) ?_ ?_
 rotate_left
 ·intro w hSw;(try dsimp only at hSw);go_simp;(try with_reducible rfl)
 (try simp only [Qd,Qe,List.set])
 refine tk (i:=7) (v:=?_) rfl (by kernel_rfl) (fun _ _ _ h=>h) (by rfl) (by assumption) ?_ ?_
 rotate_left
 ·intro w hSw;(try dsimp only at hSw);go_simp;(try with_reducible rfl)
 (try simp only [Qd,Qe,List.set])
 refine tk (i:=8) (v:=?_) rfl (by kernel_rfl) (fun _ _ _ h=>h) (by rfl) (by assumption) ?_ ?_
 rotate_left
 ·intro w hSw;(try dsimp only at hSw);go_simp;(try with_reducible rfl)
 (try simp only [Qd,Qe,List.set])
 refine tk (i:=9) (v:=?_) rfl (by kernel_rfl) (fun _ _ _ h=>h) (by rfl) (by assumption) ?_ ?_
 rotate_left
 ·intro w hSw;(try dsimp only at hSw);go_simp;(try with_reducible rfl)
 (try simp only [Qd,Qe,List.set])
 refine wpAnyH_ready (rs:=[10]) (by kernel_rfl) (by simp) ?_
 refine AllReadyH.cons rfl (fun K hK=>?_) AllReadyH.nil
 (go_simp;go_at_call 97;refine VM.out.mono ?_;rintro e w5 ⟨lo,hi,x,y,z,wd,bs5,rfl,hN,hb5,hbs5⟩;have M5:=Cp.addBs (H.out.below (Below.refl _ _).drew) hb5 hbs5;have q2:=M5.cells.2.2.1;have q0:=HBX.out _ M5.own.kp;obtain ⟨o,hput,M6⟩:=M5.putEnum (v:=.agg (numA lo hi x y z wd).toArray) (x:=Q0H ms) ⟨_,rfl,hN.more (fun p hp=>List.mem_append_left _ hp)⟩ t;have M6:=Hid.mk M6;have HN:=Hid.mk hN;clear M5 hb5 hbs5 hN)
 refine hK.out _ _ ?_ (fun hHeld=>?_)
 ·go_keep
 clear hK K
 (try simp only [Qd,Qe,List.set])
 refine wpAnyH_done (by kernel_rfl) ?_ _
 refine Q02 rfl (fun K hK=>?_)
 go_simp
 refine hK.out _ _ ?_
 clear hK K
 (try simp only [Qd,Qe,List.set])
 obtain ⟨w6,hw6⟩:∃ w6,w6=Q09 w5 a.E o:=⟨_,rfl⟩
 rw [← hw6] at M6 ⊢
 clear hput hw6
 have hlk:=(M6.out.below (Below.refl _ _).drew).lookSame
 obtain ⟨d0,d1,d2,d3,dfz,dlt⟩:=M6.out.cells
 have kk0:=HBX.out _ M6.out.own.kp
 have HP:=Hid.mk (Q1v (v:=.iface 200 (.agg (numA lo hi x y z wd).toArray)) (x:=.num (Q0H ms)) (M6.out.below (Below.refl _ _).drew) ⟨_,rfl,HN.out.more (fun p hp=>List.mem_append_left _ hp)⟩ (by show s.code.length < 1000000;omega))
 have hl5:(putM (.num (Q0H ms)) { s with enums:=mput s.enums t (Q0H ms) }).code.length < 1000000:=by rw [Q5R];show s.code.length + 1 < 1000000;omega
 clear M6 HN
 go_wp2_with fail
 refine QH (fun w'=>w'.cell? ⟨a.C,2,none⟩=some (.map (some a.E))∧w'.cell? ⟨b,0,none⟩=some (.string ⟨t.toArray⟩)∧(Instr.lookup 120 (.map (some a.E)) (.string ⟨t.toArray⟩) false).run Tryz.prog w' = .ok (.agg (numA lo hi x y z wd).toArray) w') (L:=12) (by kernel_rfl) rfl (by kernel_rfl) (by kernel_rfl) ?_ (fun hHeld=>?_)
 ·go_keep
 refine tk (i:=0) (v:=?_) rfl (by kernel_rfl) (fun _ _ _ h=>h) (by rfl) (by assumption) ?_ ?_
 rotate_left
 ·intro w hSw;(try dsimp only at hSw);go_simp;(try with_reducible rfl)
 (try simp only [Qd,Qe,List.set])
 refine tk (i:=1) (v:=?_) rfl (by kernel_rfl) (fun _ _ _ h=>h) (by rfl) (by assumption) ?_ ?_
 rotate_left
 ·intro w hSw;(try dsimp only at hSw);go_simp;(try with_reducible rfl)
 (try simp only [Qd,Qe,List.set])
 refine tk (i:=2) (v:=?_) rfl (by kernel_rfl) (fun _ _ _ h=>h) (by rfl) (by assumption) ?_ ?_
 rotate_left
 ·intro w hSw;(try dsimp only at hSw);go_simp;(try with_reducible rfl)
 (try simp only [Qd,Qe,List.set])
 refine tk (i:=3) (v:=?_) rfl (by kernel_rfl) (fun _ _ _ h=>h) (by rfl) (by assumption) ?_ ?_
 rotate_left
 ·intro w hSw;(try dsimp only at hSw);go_simp;(try with_reducible rfl)
 (try simp only [Qd,Qe,List.set])
 refine tk (i:=4) (v:=?_) rfl (by kernel_rfl) (fun _ _ _ h=>h) (by rfl) (by assumption) ?_ ?_
 rotate_left
 ·intro w hSw;(try dsimp only at hSw);go_simp;(try with_reducible rfl)
 (try simp only [Qd,Qe,List.set])
 refine tk (i:=5) (v:=?_) rfl (by kernel_rfl) (fun _ _ _ h=>h) (by rfl) (by assumption) ?_ ?_
 rotate_left
 ·intro w hSw;(try dsimp only at hSw);go_simp;(try with_reducible rfl)
 (try simp only [Qd,Qe,List.set])
 refine tk (i:=6) (v:=?_) rfl (by kernel_rfl) (fun _ _ _ h=>h) (by rfl) (by assumption) ?_ ?_
 rotate_left
 ·intro w hSw;(try dsimp only at hSw);go_simp;(try with_reducible rfl)
 (try simp only [Qd,Qe,List.set])
 refine tk (i:=7) (v:=?_) rfl (by kernel_rfl) (fun _ _ _ h=>h) (by rfl) (by assumption) ?_ ?_
 rotate_left
 ·intro w hSw;(try dsimp only at hSw);go_simp;(try with_reducible rfl)
 (try simp only [Qd,Qe,List.set])
 refine tk (i:=8) (v:=?_) rfl (by kernel_rfl) (fun _ _ _ h=>h) (by rfl) (by assumption) ?_ ?_
 rotate_left
 ·intro w hSw;(try dsimp only at hSw);go_simp;(try with_reducible rfl)
 (try simp only [Qd,Qe,List.set])
 refine tk (i:=9) (v:=?_) rfl (by kernel_rfl) (fun _ _ _ h=>h) (by rfl) (by assumption) ?_ ?_
 rotate_left
 ·intro w hSw;(try dsimp only at hSw);go_simp;(try with_reducible rfl)
 (try simp only [Qd,Qe,List.set])
 refine tk (i:=10) (v:=?_) rfl (by kernel_rfl) (fun _ _ _ h=>h) (by rfl) (by assumption) ?_ ?_
 rotate_left
 ·intro w hSw;(try dsimp only at hSw);go_simp;(try with_reducible rfl)
 (try simp only [Qd,Qe,List.set])
 refine tk (i:=11) (v:=?_) rfl (by kernel_rfl) (fun _ _ _ h=>h) (by rfl) (by assumption) ?_ ?_
 rotate_left
 ·intro w hSw;(try dsimp only at hSw);go_simp;(try with_reducible rfl)
 (try simp only [Qd,Qe,List.set])
 refine wpAnyH_done (by kernel_rfl) ?_ _
 refine Q02 rfl (fun K hK=>?_)
 (go_simp;go_at_call 98;refine HP.out.mono ?_;rintro e w2 ⟨rfl,sl2,M2⟩)
 refine hK.out _ _ ?_
 clear hK K
 (try simp only [Qd,Qe,List.set])
 have hb2:∀ p∈bs,p∈bs5++bs:=fun p hp=>List.mem_append_right _ hp
 clear HP hlk
 go_wp2_with fail
 refine (Q1v (v:=.iface 210 (.agg #[])) (x:=.ret) M2 rfl (by exact hl5)).mono ?_
 rintro e w3 ⟨rfl,sl3,M3⟩
 have hh3:Held [] bs0 w3.drew:=fun p hp=>⟨M3.heap (hw p hp),by simp⟩
 have htr:=Q2O (d:=.enum t at' ms) HD.out hh3
 have hen:=Q1S
 have hfn:∀ (a b:Value) (W:World),(Instr.field 116 (.agg #[a,b]) 0).run Tryz.prog W = .ok a W:=fun _ _ _=>by kernel_rfl
 dsimp only [defT,Qw] at htr
 obtain ⟨c0,c1,c2,c3,hfz,hlt⟩:=M3.cells
 have M3:=Hid.mk M3
 have HB2:=Hid.mk hb2
 clear M2 hb2 hh3
 go_wp2_with fail
 refine QH (fun w'=>w'.cell? ⟨a.C,1,none⟩=some (.map (some a.B))) (L:=8) (by kernel_rfl) rfl (by kernel_rfl) (by kernel_rfl) ?_ (fun hHeld=>?_)
 ·go_keep
 refine tk (i:=0) (v:=?_) rfl (by kernel_rfl) (fun _ _ _ h=>h) (by rfl) (by assumption) ?_ ?_
 rotate_left
 ·intro w hSw;(try dsimp only at hSw);go_simp;(try with_reducible rfl)
 (try simp only [Qd,Qe,List.set])
 refine tk (i:=1) (v:=?_) rfl (by kernel_rfl) (fun _ _ _ h=>h) (by rfl) (by assumption) ?_ ?_
 rotate_left
 ·intro w hSw;(try dsimp only at hSw);go_simp;(try with_reducible rfl)
 (try simp only [Qd,Qe,List.set])
 refine tk (i:=2) (v:=?_) rfl (by kernel_rfl) (fun _ _ _ h=>h) (by rfl) (by assumption) ?_ ?_
 rotate_left
 ·intro w hSw;(try dsimp only at hSw);go_simp;(try with_reducible rfl)
 (try simp only [Qd,Qe,List.set])
 refine tk (i:=3) (v:=?_) rfl (by kernel_rfl) (fun _ _ _ h=>h) (by rfl) (by assumption) ?_ ?_
 rotate_left
 ·intro w hSw;(try dsimp only at hSw);go_simp;(try with_reducible rfl)
 (try simp only [Qd,Qe,List.set])
 refine tk (i:=4) (v:=?_) rfl (by kernel_rfl) (fun _ _ _ h=>h) (by rfl) (by assumption) ?_ ?_
 rotate_left
 ·intro w hSw;(try dsimp only at hSw);go_simp;(try with_reducible rfl)
 (try simp only [Qd,Qe,List.set])
 refine tk (i:=7) (v:=?_) rfl (by kernel_rfl) (fun _ _ _ h=>h) (by rfl) (by assumption) ?_ ?_
 rotate_left
 ·intro w hSw;(try dsimp only at hSw);go_simp;(try with_reducible rfl)
 (try simp only [Qd,Qe,List.set])
 refine wpAnyH_ready (rs:=[5]) (by kernel_rfl) (by simp) ?_
 refine AllReadyH.cons rfl (fun K hK=>?_) AllReadyH.nil
 (go_simp;go_at_call 238;refine (Q2M _ _ _).mono ?_;rintro e w6 ⟨rfl,hb6⟩;have M6:=(M3.out.below (Below.refl _ _).drew).below hb6;have c6:=M6.cells.2.1;obtain ⟨hput,M7⟩:=M6.putBody t s.code.length;have M7:=Hid.mk M7;clear M6 hb6)
 refine hK.out _ _ ?_ (fun hHeld=>?_)
 ·go_keep
 clear hK K
 (try simp only [Qd,Qe,List.set])
 refine tk (i:=6) (v:=?_) rfl (by kernel_rfl) (fun _ _ _ h=>h) (by rfl) (by assumption) ?_ ?_
 rotate_left
 ·intro w hSw;(try dsimp only at hSw);go_simp;(try with_reducible rfl)
 (try simp only [Qd,Qe,List.set])
 refine wpAnyH_done (by kernel_rfl) ?_ _
 refine Q02 rfl (fun K hK=>?_)
 go_simp
 refine hK.out _ _ ?_
 clear hK K
 (try simp only [Qd,Qe,List.set])
 go_wp2
 go_end0
 exact ⟨rfl,Qy.more HB2.out M7.out.gives⟩
theorem Qgg {w u:World} {a:CAd} {Fr bs:List (Nat×Obj)} {s:CSt} {sl ks:Value} {cv:List (Qo×Value)} {et:List (List UInt8×NumL×Value)} {b:Nat} (h:Cp w a Fr bs s sl ks cv et u) :
  Calls Tryz.prog 53 #[.pointer (some ⟨a.C,0,none⟩),.iface 176 (.pointer (some ⟨b,0,none⟩))] u fun e u'=>e = .returned (.tuple #[])∧Qy w a Fr bs s u':=by
 have t0:∀ W,(Instr.typeAssert (.iface 176 (.pointer (some ⟨b,0,none⟩))) 113 178 true).run Tryz.prog W = .ok (.tuple #[.pointer none,.bool false]) W:=fun W=>by kernel_rfl
 have t1:∀ W,(Instr.typeAssert (.iface 176 (.pointer (some ⟨b,0,none⟩))) 113 180 true).run Tryz.prog W = .ok (.tuple #[.pointer none,.bool false]) W:=fun W=>by kernel_rfl
 have t2:∀ W,(Instr.typeAssert (.iface 176 (.pointer (some ⟨b,0,none⟩))) 113 182 true).run Tryz.prog W = .ok (.tuple #[.pointer none,.bool false]) W:=fun W=>by kernel_rfl
 have t3:∀ W,(Instr.typeAssert (.iface 176 (.pointer (some ⟨b,0,none⟩))) 113 184 true).run Tryz.prog W = .ok (.tuple #[.pointer none,.bool false]) W:=fun W=>by kernel_rfl
 have HH:=Hid.mk (Q2l h)
 have H:=Hid.mk h.gives
 clear h
 go_enter Tryz.func53,Tryz.ntmps53
 go_wp2_with fail
 refine HH.out.mono ?_
 rintro e w1 ⟨rfl,rfl⟩
 go_wp2
 first
  | (go_end0;exact ⟨rfl,H.out⟩)
  | exact bodyPost_ret (v:=.tuple #[]) (by simp [results,Tryz.results53,go_sem]) rfl ⟨rfl,H.out⟩
theorem Qhg {w u:World} {a:CAd} {Fr bs:List (Nat×Obj)} {s:CSt} {sl ks:Value} {cv:List (Qo×Value)} {et:List (List UInt8×NumL×Value)} {b:Nat} (h:Cp w a Fr bs s sl ks cv et u) :
  Calls Tryz.prog 53 #[.pointer (some ⟨a.C,0,none⟩),.iface 186 (.pointer (some ⟨b,0,none⟩))] u fun e u'=>e = .returned (.tuple #[])∧Qy w a Fr bs s u':=by
 have t0:∀ W,(Instr.typeAssert (.iface 186 (.pointer (some ⟨b,0,none⟩))) 113 178 true).run Tryz.prog W = .ok (.tuple #[.pointer none,.bool false]) W:=fun W=>by kernel_rfl
 have t1:∀ W,(Instr.typeAssert (.iface 186 (.pointer (some ⟨b,0,none⟩))) 113 180 true).run Tryz.prog W = .ok (.tuple #[.pointer none,.bool false]) W:=fun W=>by kernel_rfl
 have t2:∀ W,(Instr.typeAssert (.iface 186 (.pointer (some ⟨b,0,none⟩))) 113 182 true).run Tryz.prog W = .ok (.tuple #[.pointer none,.bool false]) W:=fun W=>by kernel_rfl
 have t3:∀ W,(Instr.typeAssert (.iface 186 (.pointer (some ⟨b,0,none⟩))) 113 184 true).run Tryz.prog W = .ok (.tuple #[.pointer none,.bool false]) W:=fun W=>by kernel_rfl
 have HH:=Hid.mk (Q2l h)
 have H:=Hid.mk h.gives
 clear h
 go_enter Tryz.func53,Tryz.ntmps53
 go_wp2_with fail
 refine HH.out.mono ?_
 rintro e w1 ⟨rfl,rfl⟩
 go_wp2
 first
  | (go_end0;exact ⟨rfl,H.out⟩)
  | exact bodyPost_ret (v:=.tuple #[]) (by simp [results,Tryz.results53,go_sem]) rfl ⟨rfl,H.out⟩
theorem Qc7 {w u:World} {a:CAd} {Fr bs:List (Nat×Obj)} {s:CSt} {sl ks:Value} {cv:List (Qo×Value)} {et:List (List UInt8×NumL×Value)} {bs0:List (Nat×Obj)} {b:Nat} {d:DefL} (hd:Q0d bs0 b d) (hw:∀ p∈bs0,w.heap[p.1]? = some p.2) (hty:Q6O d) (h:Cp w a Fr bs s sl ks cv et u) (hr:Room s 5000) :
  Calls Tryz.prog 53 #[.pointer (some ⟨a.C,0,none⟩),.iface (defT d) (.pointer (some ⟨b,0,none⟩))] u fun e u'=>e = .returned (.tuple #[])∧Qy w a Fr bs (QX d s) u':=by
 cases d with
 | const t p v=>exact Qgg h
 | prog t p vs n=>exact Qhg h
 | typedef d=>exact Qdm hd hw hty h hr
 | enum t p ms=>exact Qhf hd hw h hr
 | struct t p ms=>
  have hn:ms.length≤1000:=by
   obtain ⟨_,_,h1⟩:=hd
   rcases h1 with ⟨_,h0,_⟩ | ⟨_,_,_,_,⟨_,h1⟩,_⟩<;>omega
  exact QeZ hd hw hty hn h hr
 | union t p sel arms=>
  have hn:arms.length≤1000:=by
   obtain ⟨_,_,_,_,h1,_⟩:=hd
   rcases h1 with ⟨_,h0,_⟩ | ⟨_,_,_,_,⟨_,h1⟩,_⟩<;>omega
  exact Qgf hd hw hty.1 hty.2 hn h hr
abbrev lnk (s:CSt) (l:List (Nat×List UInt8)):CSt:=l.foldl (fun s k=>setM k.1 (.call ((look s.bodies k.2).getD 0)) s) s
theorem Qc8:∀ (l:List (Nat×List UInt8)) (s:CSt),(lnk s l).code.length=s.code.length∧(lnk s l).bodies=s.bodies∧(lnk s l).calls=s.calls:=by
 intro l
 induction l with
 | nil=>intro s;exact ⟨rfl,rfl,rfl⟩
 | cons k l ih=>
  intro s
  obtain ⟨h1,h2,h3⟩:=ih (setM k.1 (.call ((look s.bodies k.2).getD 0)) s)
  exact ⟨h1.trans (by simp [setM]),h2,h3⟩
theorem Qhh (l:List (Nat×List UInt8)) (k:Nat×List UInt8) (s:CSt):lnk s (l++[k])=setM k.1 (.call ((look (lnk s l).bodies k.2).getD 0)) (lnk s l):=by
 unfold lnk
 rw [List.foldl_append]
 rfl
theorem Qim {w u:World} {a:CAd} {Fr bs:List (Nat×Obj)} {s:CSt} {sl ks:Value} {cv:List (Qo×Value)} {et:List (List UInt8×NumL×Value)} (h:Cp w a Fr bs s sl ks cv et u) (hc:∀ k∈s.calls,k.1 < s.code.length) (hs:s.code.length < 1000000) (hs2:s.calls.length < 1000000) :
  Calls Tryz.prog 56 #[.pointer (some ⟨a.C,0,none⟩)] u fun e u'=>e = .returned (.tuple #[])∧∃ cv',Cp w a Fr bs (Q7W s) sl ks cv' et u':=by
 obtain ⟨c0,c1,c2,c3,hfz,hlt⟩:=h.cells
 have HU:Hid (Q7W s=lnk s s.calls):=rfl
 have hcells:∀ (v:World) (st:CSt) (cv9:List (Qo×Value)),st.calls=s.calls→Cp w a Fr bs st sl ks cv9 et v→∀ (j:Nat) (hj:j < s.calls.length),∃ g cap,ks = .slice (some ⟨g,0,none⟩) s.calls.length cap∧s.calls.length≤cap∧v.cell? ⟨g,j * 2,none⟩=some (.int .i64 s.calls[j].1)∧v.cell? ⟨g,j * 2 + 1,none⟩=some (.string ⟨s.calls[j].2.toArray⟩):=by
  intro v st cv9 hst m j hj
  have hk:=m.kro
  rw [hst] at hk
  rcases hk.2 with ⟨_,h0⟩ | ⟨g,cap,cur,e,_,h3,h4,h5,h6,h7⟩
  ·omega
  ·have hf:=Q1q (c:=Q4n) (n:=2) (fun _=>rfl) s.calls j
   have hl:(s.calls.flatMap Q4n).length=s.calls.length * 2:=hk.1
   have htk:cur.toList.take (s.calls.flatMap Q4n).length=s.calls.flatMap Q4n:=by rw [hl];exact h7
   refine ⟨g,cap,e,h4,Qn h3 htk ?_,Qn h3 htk ?_⟩
   ·have:=hf 0 hj (by omega);simpa using this
   ·have:=hf 1 hj (by omega);simpa using this
 have HCL:=Hid.mk hcells
 have HC:=Hid.mk hc
 obtain ⟨kad,kcap,rfl⟩:=h.kslice
 have M0:Hid (∃ cv9,Cp w a Fr bs (lnk s (s.calls.take 0)) sl (.slice kad s.calls.length kcap) cv9 et u):=⟨cv,h⟩
 clear h hcells hc
 go_enter Tryz.func56,Tryz.ntmps56
 go_wp2
 go_loopw [9] (fun i ur=>∃ j:Nat,i = .int .i64 j∧j≤s.calls.length∧Hid (∃ cv9,Cp w a Fr bs (lnk s (s.calls.take j)) sl (.slice kad s.calls.length kcap) cv9 et ur)) (fun i _=>s.calls.length - (intOf i).toNat)
 case atStart=>exact ⟨0,rfl,by omega,M0⟩
 case round=>
  obtain ⟨j,rfl,hj,N⟩:=hrel
  clear M0
  obtain ⟨e1,e2,e3⟩:=Qc8 (s.calls.take j) s
  rcases Nat.lt_or_ge j s.calls.length with hjl | hjg
  ·obtain ⟨cv9,N6⟩:=N.out
   obtain ⟨g',cap',hks,hcap',q0,q1⟩:=HCL.out _ _ _ e3 N6 j hjl
   cases hks
   have hej:=HC.out _ (List.getElem_mem hjl)
   obtain ⟨vb,hvb⟩:∃ vb,vb=(look s.bodies s.calls[j].2).getD 0:=⟨_,rfl⟩
   have hj9:j + 1≤s.calls.length:=hjl
   have hst:lnk s (s.calls.take (j + 1))=setM s.calls[j].1 (.call vb) (lnk s (s.calls.take j)):=by
    rw [List.take_succ_eq_append_getElem hjl,Qhh,e2,hvb]
   obtain ⟨d0,d1,d2,d3,dfz,dlt⟩:=N6.cells
   generalize s.calls[j].1=ca at *
   generalize s.calls[j].2=cn at *
   have N7:=(N6.below ((Below.refl wr.heap.size wr).alloc (Nat.le_refl _) (.cells #[.int .i64 ca,.string ⟨cn.toArray⟩] 222))).below (Below.refl _ _).drew
   have hlk:=N7.lookBody cn false
   rw [e2] at hlk
   have hlk2:(Instr.lookup 64 (.map (some a.B)) (.string ⟨cn.toArray⟩) false).run Tryz.prog (wr.alloc (.cells #[.int .i64 ca,.string ⟨cn.toArray⟩] 222)).drew = .ok (.int .i64 vb) (wr.alloc (.cells #[.int .i64 ca,.string ⟨cn.toArray⟩] 222)).drew:=by
    rw [hlk,hvb]
    cases look s.bodies cn<;>rfl
   obtain ⟨g9,cap9,hsl9,hcap9,hfr9,⟨y9,hy9⟩,hg9,N8⟩:=Cp.setCode (i:=ca) (x:=.call vb) (v:=.iface 224 (.agg #[.int .i64 vb])) N7 rfl (by rw [e1];exact hej)
   rw [e1] at hsl9 hcap9
   have hN:Hid (∃ cv9,Cp w a Fr bs (lnk s (s.calls.take (j + 1))) sl (.slice (some ⟨g',0,none⟩) s.calls.length kcap) cv9 et ((wr.alloc (.cells #[.int .i64 ca,.string ⟨cn.toArray⟩] 222)).drew.setCell ⟨g9,ca,none⟩ (.iface 224 (.agg #[.int .i64 vb])))):=by
    rw [hst]
    exact ⟨_,N8⟩
   have hj0:(0:Int)≤↑j:=by omega
   have hj1:(↑j:Int) < ↑s.calls.length:=by omega
   have hje:(↑ca:Int) < ↑s.code.length:=by omega
   subst hsl9
   clear N N6 N7 N8 hst hlk e1 e2 e3 hvb HCL HC
   go_wp2_with fail
   refine QH (fun w'=>w'.cell? ⟨a.C,0,none⟩=some (.slice (some ⟨g9,0,none⟩) s.code.length cap9)∧w'.cell? ⟨a.C,1,none⟩=some (.map (some a.B))∧w'.cell? ⟨wr.heap.size,0,none⟩=some (.int .i64 ca)∧w'.cell? ⟨wr.heap.size,1,none⟩=some (.string ⟨cn.toArray⟩)∧(Instr.lookup 64 (.map (some a.B)) (.string ⟨cn.toArray⟩) false).run Tryz.prog w' = .ok (.int .i64 vb) w') (L:=16) (by kernel_rfl) rfl (by kernel_rfl) (by kernel_rfl) ?_ (fun hHeld=>?_)
   ·go_keep
   refine tk (i:=0) (v:=?_) rfl (by kernel_rfl) (fun _ _ _ h=>h) (by rfl) (by assumption) ?_ ?_
   rotate_left
   ·intro w hSw;(try dsimp only at hSw);go_simp;(try with_reducible rfl)
   (try simp only [Qd,Qe,List.set])
   refine tk (i:=1) (v:=?_) rfl (by kernel_rfl) (fun _ _ _ h=>h) (by rfl) (by assumption) ?_ ?_
   rotate_left
   ·intro w hSw;(try dsimp only at hSw);go_simp;(try with_reducible rfl)
   (try simp only [Qd,Qe,List.set])
   refine tk (i:=2) (v:=?_) rfl (by kernel_rfl) (fun _ _ _ h=>h) (by rfl) (by assumption) ?_ ?_
   rotate_left
   ·intro w hSw;(try dsimp only at hSw);go_simp;(try with_reducible rfl)
   (try simp only [Qd,Qe,List.set])
   refine tk (i:=3) (v:=?_) rfl (by kernel_rfl) (fun _ _ _ h=>h) (by rfl) (by assumption) ?_ ?_
   rotate_left
   ·intro w hSw;(try dsimp only at hSw);go_simp;(try with_reducible rfl)
   (try simp only [Qd,Qe,List.set])
   refine tk (i:=4) (v:=?_) rfl (by kernel_rfl) (fun _ _ _ h=>h) (by rfl) (by assumption) ?_ ?_
   rotate_left
   ·intro w hSw;(try dsimp only at hSw);go_simp;(try with_reducible rfl)
   (try simp only [Qd,Qe,List.set])
   refine tk (i:=5) (v:=?_) rfl (by kernel_rfl) (fun _ _ _ h=>h) (by rfl) (by assumption) ?_ ?_
   rotate_left
   ·intro w hSw;(try dsimp only at hSw);go_simp;(try with_reducible rfl)
   (try simp only [Qd,Qe,List.set])
   refine tk (i:=6) (v:=?_) rfl (by kernel_rfl) (fun _ _ _ h=>h) (by rfl) (by assumption) ?_ ?_
   rotate_left
   ·intro w hSw;(try dsimp only at hSw);go_simp;(try with_reducible rfl)
   (try simp only [Qd,Qe,List.set])
   refine tk (i:=7) (v:=?_) rfl (by kernel_rfl) (fun _ _ _ h=>h) (by rfl) (by assumption) ?_ ?_
   rotate_left
   ·intro w hSw;(try dsimp only at hSw);go_simp;(try with_reducible rfl)
   (try simp only [Qd,Qe,List.set])
   refine tk (i:=8) (v:=?_) rfl (by kernel_rfl) (fun _ _ _ h=>h) (by rfl) (by assumption) ?_ ?_
   rotate_left
   ·intro w hSw;(try dsimp only at hSw);go_simp;(try with_reducible rfl)
   (try simp only [Qd,Qe,List.set])
   refine tk (i:=9) (v:=?_) rfl (by kernel_rfl) (fun _ _ _ h=>h) (by rfl) (by assumption) ?_ ?_
   rotate_left
   ·intro w hSw;(try dsimp only at hSw);go_simp;(try with_reducible rfl)
   (try simp only [Qd,Qe,List.set])
   refine tk (i:=10) (v:=?_) rfl (by kernel_rfl) (fun _ _ _ h=>h) (by rfl) (by assumption) ?_ ?_
   rotate_left
   ·intro w hSw;(try dsimp only at hSw);go_simp;(try with_reducible rfl)
   (try simp only [Qd,Qe,List.set])
   refine tk (i:=11) (v:=?_) rfl (by kernel_rfl) (fun _ _ _ h=>h) (by rfl) (by assumption) ?_ ?_
   rotate_left
   ·intro w hSw;(try dsimp only at hSw);go_simp;(try with_reducible rfl)
   (try simp only [Qd,Qe,List.set])
   refine tk (i:=12) (v:=?_) rfl (by kernel_rfl) (fun _ _ _ h=>h) (by rfl) (by assumption) ?_ ?_
   rotate_left
   ·intro w hSw;(try dsimp only at hSw);go_simp;(try with_reducible rfl)
   (try simp only [Qd,Qe,List.set])
   refine tk (i:=13) (v:=?_) rfl (by kernel_rfl) (fun _ _ _ h=>h) (by rfl) (by assumption) ?_ ?_
   rotate_left
   ·intro w hSw;(try dsimp only at hSw);go_simp;(try with_reducible rfl)
   (try simp only [Qd,Qe,List.set])
   refine tk (i:=14) (v:=?_) rfl (by kernel_rfl) (fun _ _ _ h=>h) (by rfl) (by assumption) ?_ ?_
   rotate_left
   ·intro w hSw;(try dsimp only at hSw);go_simp;(try with_reducible rfl)
   (try simp only [Qd,Qe,List.set])
   refine tk (i:=15) (v:=?_) rfl (by kernel_rfl) (fun _ _ _ h=>h) (by rfl) (by assumption) ?_ ?_
   rotate_left
   ·intro w hSw;(try dsimp only at hSw);go_simp;(try with_reducible rfl)
   (try simp only [Qd,Qe,List.set])
   refine wpAnyH_done (by kernel_rfl) ?_ _
   refine Q02 rfl (fun K hK=>?_)
   go_simp
   refine hK.out _ _ ?_
   clear hK K
   (try simp only [Qd,Qe,List.set])
   go_wp2
   exact ⟨⟨j + 1,by go_num,hj9,hN⟩,by simp [intOf];omega⟩
  ·have hjj:j=s.calls.length:=by omega
   subst hjj
   have G:=N.out
   rw [List.take_length] at G
   have G:=Hid.mk G
   clear N
   go_wp2
   go_end0
   rw [HU.out]
   exact ⟨rfl,G.out⟩
def Q9n:DefL→Prop
 | .struct _ _ ms=>ms.length≤1000
 | .union _ _ _ arms=>arms.length≤1000
 | _=>True
theorem Qgh {bs:List (Nat×Obj)} {b:Nat} {d:DefL} (h:Q0d bs b d):Q9n d:=by
 cases d with
 | struct t p ms=>
  obtain ⟨_,_,h1⟩:=h
  show ms.length≤1000
  rcases h1 with ⟨_,h0,_⟩ | ⟨_,_,_,_,⟨_,h1⟩,_⟩<;>omega
 | union t p sel arms=>
  obtain ⟨_,_,_,_,h1,_⟩:=h
  show arms.length≤1000
  rcases h1 with ⟨_,h0,_⟩ | ⟨_,_,_,_,⟨_,h1⟩,_⟩<;>omega
 | _=>trivial
theorem Room.body {s:CSt} {n:Nat} (h:Room s (n + 1)) (t:List UInt8) (p:Nat):Room (Q32 t p s) n:=⟨(h.put .ret).code,(h.put .ret).calls⟩
theorem Room.ends {s:CSt} {n:Nat} (h:Room s n) (l:List Nat):Room (Q28 l s) n:=by
 refine ⟨by rw [Q54];exact h.code,?_⟩
 rw [Q54]
 have:(Q28 l s).calls=s.calls:=(Qg2 l s).2.1
 rw [this]
 exact h.calls
theorem Room.def {s:CSt} {n:Nat} {d:DefL} (hty:Q6O d) (hf:Q9n d) (h:Room s (n + 4100)):Room (QX d s) n:=by
 cases d with
 | const t p v=>exact h.less (by omega)
 | prog t p vs k=>exact h.less (by omega)
 | typedef d=>exact Room.body (Room.value _ (h.less (by have:=Q4E (Q2z.deep hty);omega))) _ _
 | enum t p ms=>
  have h1:Room { s with enums:=mput s.enums t (Q0H ms) } (n + 2):=⟨by have:=h.code;show s.code.length + (n + 2) < 1000000;omega,h.calls⟩
  exact Room.body (Room.put h1 _) _ _
 | struct t p ms=>
  have hl:ms.length≤1000:=hf
  refine Room.body ?_ _ _
  have e:=Q8G (ms.map (·.ty)) (s:=putM (.struct ms.length true) s) (n:=n + 1) (by intro t ht;obtain ⟨m,hm,rfl⟩:=List.mem_map.1 ht;exact (hty m hm).deep) (Room.put (h.less (by simp;omega)) _)
  rw [List.foldl_map] at e
  exact e
 | union t p sel arms=>
  have hl:arms.length≤1000:=hf
  refine Room.body ?_ _ _
  exact Room.ends (Room.set (Q7C arms (q:=⟨putM .hole s,[],none,[]⟩) (n:=n + 1) hty.2 (Room.put (h.less (by omega)) _)) _ _) _
theorem Room.defs:∀ (ds:List DefL) {s:CSt} {n:Nat},(∀ d∈ds,Q6O d)→(∀ d∈ds,Q9n d)→Room s (n + 4100 * ds.length)→Room (ds.foldl (fun s d=>QX d s) s) n:=by
 intro ds
 induction ds with
 | nil=>intro s n _ _ h;exact h
 | cons d ds ih=>
  intro s n h1 h2 h
  exact ih (fun e he=>h1 e (List.mem_cons_of_mem _ he)) (fun e he=>h2 e (List.mem_cons_of_mem _ he)) (Room.def (h1 d (by simp)) (h2 d (by simp)) (h.less (by simp only [List.length_cons];omega)))
theorem Room.start {s:CSt} {n:Nat} (h:Room s (n + 2)) (t:List UInt8):Room (Q7A t s) n:=Room.put (Room.call h t) _
theorem Room.starts:∀ (ds:List DefL) {p:CSt×List (List UInt8×Nat)} {n:Nat},Room p.1 (n + 2 * ds.length)→Room (ds.foldl QU p).1 n:=by
 intro ds
 induction ds with
 | nil=>intro p n h;exact h
 | cons d ds ih=>
  intro p n h
  refine ih ?_
  unfold QU
  split
  ·exact Room.start (h.less (by simp only [List.length_cons];omega)) _
  ·exact h.less (by simp only [List.length_cons];omega)
theorem Q7D:∀ (ds:List DefL) {p:CSt×List (List UInt8×Nat)},(p.2.map (·.1)).Nodup→((ds.foldl QU p).2.map (·.1)).Nodup:=by
 intro ds
 induction ds with
 | nil=>intro p h;exact h
 | cons d ds ih=>
  intro p h
  refine ih ?_
  unfold QU
  split
  ·exact Q31 h _ _
  ·exact h
theorem Qgi (text:ByteArray):∀ (k:Nat) {ds:List DefL},Yld (fun l=>l.length≤ds.length + k) (Q0L text k ds):=by
 intro k
 induction k with
 | zero=>intro ds;exact Q4C _ _
 | succ k ih=>
  intro ds
  unfold Q0L
  refine QK fun x=>Q16 (Q1k (by omega)) (QK fun d=>QK fun _=>?_)
  intro σ l σ' h
  have:=ih (ds:=ds++[d]) _ _ _ h
  simp at this
  omega
theorem Qgj {text:ByteArray} {ds:List DefL} (h:Q11 text = .ok ds):ds.length≤69:=by
 unfold Q11 at h
 split at h
 ·cases h
 ·cases hf:Q0L text 69 [] st0 with
  | error f=>rw [hf] at h;cases h
  | ok p=>
   obtain ⟨ds',σ⟩:=p
   rw [hf] at h
   simp only at h
   have hd:=Qgi text 69 (ds:=[]) _ _ _ hf
   split at h
   ·cases h
   ·split at h
    ·cases h
    ·cases h
     simpa using hd
abbrev Q4F (v:Value) (s p:Option Nat):Obj:=.cells #[v,.map s,.map p] 67
theorem Qhi (u:World):Cp u ⟨u.heap.size + 3,u.heap.size + 1,u.heap.size + 2⟩ [(u.heap.size,Q4F (.slice none 0 0) none none)] [] st0C (.slice none 0 0) (.slice none 0 0) [] []
  ((((u.alloc (Q4F (.slice none 0 0) none none)).alloc (.map #[] 0)).alloc (.map #[] 0)).alloc (.cells #[.slice none 0 0,.map (some (u.heap.size + 1)),.map (some (u.heap.size + 2)),.slice none 0 0] 123)):=by
 have z1:(u.alloc (Q4F (.slice none 0 0) none none)).heap.size=u.heap.size + 1:=by simp
 have z2:((u.alloc (Q4F (.slice none 0 0) none none)).alloc (.map #[] 0)).heap.size=u.heap.size + 2:=by simp
 have z3:(((u.alloc (Q4F (.slice none 0 0) none none)).alloc (.map #[] 0)).alloc (.map #[] 0)).heap.size=u.heap.size + 3:=by simp
 refine ⟨⟨((((Qa.refl [] u).alloc _).alloc _).alloc _).alloc _,?_,?_,?_,?_,(by intro p hp;cases hp),by simp,?_,(by intro p _ q hq;cases hq)⟩,?_,?_,by simp [st0C],?_,by simp,by simp [st0C],(by intro p hp;cases hp),⟨by simp [st0C],Or.inl ⟨rfl,rfl⟩⟩,rfl,(by intro p hp;cases hp),⟨by simp [st0C],Or.inl ⟨rfl,rfl⟩⟩⟩
 ·intro y hy
  simp [ownC,Value.ownBlock] at hy
  omega
 ·intro y hy
  simp [ownC,Value.ownBlock] at hy
  simp
  omega
 ·simp [ownC,Value.ownBlock]
 ·intro p hp
  simp only [List.mem_singleton] at hp
  subst hp
  refine ⟨(Below.heap_alloc _ _ _ (by simp;omega)).trans ((Below.heap_alloc _ _ _ (by simp;omega)).trans ((Below.heap_alloc _ _ _ (by simp)).trans (Qi rfl))),?_⟩
  simp [ownC,Value.ownBlock]
 ·intro p hp
  simp only [List.mem_singleton] at hp
  subst hp
  simp
 ·exact Qi z3.symm
 ·exact (Below.heap_alloc _ _ _ (by simp)).trans ((Below.heap_alloc _ _ _ (by simp)).trans (Qi z1.symm))
 ·exact (Below.heap_alloc _ _ _ (by simp)).trans (Qi z2.symm)
def Qin (bs:List (Nat×Obj)) (e:TypeId) (v:Value) (n:Nat) (xs:List Value):Prop:=
 (v = .slice none 0 0∧n=0∧xs=[])∨∃ g cap cur,v = .slice (some ⟨g,0,none⟩) n cap∧n≤cap∧(g,Obj.cells cur e)∈bs∧cur.toList.take n=xs
def Q5S (bs:List (Nat×Obj)) (v:Value) (c:List Qo):Prop:=∃ cv:List (Qo×Value),c=cv.map (·.1)∧Qin bs 226 v c.length (cv.map (·.2))∧(∀ p∈cv,Q2y bs p.2 p.1)∧c.length < 1000000
abbrev prcC (q:Q15):List Value:=Q3D q.t q.at'++[tyV q.res,tyV q.arg,.int .i64 q.num]
def Q2m (l:List (Int×Nat×Nat)):Obj:=Q3d (l.map fun p=>(.int .u32 p.1,.agg #[.int .i64 p.2.1,.int .i64 p.2.2]))
def Q3h (l:List (Int×Nat×List (Int×Nat×Nat))):Obj:=Q3d (l.map fun p=>(.int .u32 p.1,.map (some p.2.1)))
structure PrgB where
 lo:Int
 hi:Int
 m:Nat
 vs:List (Int×Nat×List (Int×Nat×Nat))
def Q40 (l:List (Int×PrgB)):Obj:=Q3d (l.map fun p=>(.int .u32 p.1,.agg #[.int .u32 p.2.lo,.int .u32 p.2.hi,.map (some p.2.m)]))
def Q7E (bs:List (Nat×Obj)) (l:List (Int×Nat×List (Int×Nat×Nat))):Prop:=∀ p∈l,(p.2.1,Q2m p.2.2)∈bs
def Q4S (bs:List (Nat×Obj)) (q:PrgB):Prop:=(q.m,Q3h q.vs)∈bs∧Q7E bs q.vs
def Q9o (l:List (Int×Nat×List (Int×Nat×Nat))):List (Int×List (Int×Nat×Nat)):=l.map fun p=>(p.1,p.2.2)
def Qb5 (q:PrgB):PrgL:=⟨q.lo,q.hi,Q9o q.vs⟩
def Q9p (l:List (Int×PrgB)):List (Int×PrgL):=l.map fun p=>(p.1,Qb5 p.2)
def Q6C (v:QN):Prop:=v.procs.length≤8∧∀ p∈v.procs,Q13 p.res∧Q13 p.arg
def Q2F:DefL→Prop
 | .prog _ _ vs _=>vs≠[]∧vs.length≤4∧∀ v∈vs,Q6C v
 | _=>True
theorem Q7F (n:Int):Instr.keyThatStays (.int .u32 n) (.int .u32 n)=pure (.int .u32 n):=by
 unfold Instr.keyThatStays
 rw [if_pos (by show ((IntKind.u32 == IntKind.u32) && (n == n))=true;simp)]
theorem Q9S (a b:Int) (h:(Value.int .u32 a) = .int .u32 b):a=b:=by simpa using h
theorem Q8H (n:Int) (w:World):(convert 2 161 (.int .i64 n)).run Tryz.prog w = .ok (.int .u32 (u32 n)) w:=by kernel_rfl
theorem Qgk {W:World} {m:Nat} {l:List (Int×Nat×Nat)} (hb:W.heap[m]? = some (Q2m l)) (nd:(l.map (·.1)).Nodup) (k:Int) (p q:Nat) :
  (Instr.mapUpdate 260 (.map (some m)) (.int .u32 k) (.agg #[.int .i64 p,.int .i64 q])).run Tryz.prog W = .ok () (Q09 W m (Q2m (mput l k (p,q)))):=
 Q34 (P:=Tryz.prog) (T:=260) (kt:=161) (et:=263) (d:=.int .u32) (by kernel_rfl) (by kernel_rfl) (fun k:Int=>.int .u32 k) (fun q:Nat×Nat=>.agg #[.int .i64 q.1,.int .i64 q.2]) (fun _=>rfl) (fun _=>Q7F _) Q9S hb nd k (p,q)
theorem Qhj {W:World} {m:Nat} {l:List (Int×Nat×List (Int×Nat×Nat))} (hb:W.heap[m]? = some (Q3h l)) (nd:(l.map (·.1)).Nodup) (k:Int) (v:Nat) (x:List (Int×Nat×Nat)) :
  (Instr.mapUpdate 214 (.map (some m)) (.int .u32 k) (.map (some v))).run Tryz.prog W = .ok () (Q09 W m (Q3h (mput l k (v,x)))):=
 Q34 (P:=Tryz.prog) (T:=214) (kt:=161) (et:=260) (d:=.int .u32) (by kernel_rfl) (by kernel_rfl) (fun k:Int=>.int .u32 k) (fun q:Nat×List (Int×Nat×Nat)=>.map (some q.1)) (fun _=>rfl) (fun _=>Q7F _) Q9S hb nd k (v,x)
theorem Qgl {W:World} {m:Nat} {l:List (Int×PrgB)} (hb:W.heap[m]? = some (Q40 l)) (nd:(l.map (·.1)).Nodup) (k:Int) (q:PrgB) :
  (Instr.mapUpdate 65 (.map (some m)) (.int .u32 k) (.agg #[.int .u32 q.lo,.int .u32 q.hi,.map (some q.m)])).run Tryz.prog W = .ok () (Q09 W m (Q40 (mput l k q))):=
 Q34 (P:=Tryz.prog) (T:=65) (kt:=161) (et:=216) (d:=.int .u32) (by kernel_rfl) (by kernel_rfl) (fun k:Int=>.int .u32 k) (fun q:PrgB=>.agg #[.int .u32 q.lo,.int .u32 q.hi,.map (some q.m)]) (fun _=>rfl) (fun _=>Q7F _) Q9S hb nd k q
theorem Room.startT {s:CSt} {n:Nat} {t:Ty} (hf:Q13 t) (h:Room s (n + 4)):Room (startT t s) n:=Room.put (Room.value t (h.less (by have:=Q4E hf;omega))) _
theorem Room.procs:∀ (l:List Q15) {q:CSt×List (Int×Nat×Nat)} {n:Nat},(∀ p∈l,Q13 p.res∧Q13 p.arg)→Room q.1 (n + 8 * l.length)→Room (l.foldl Q0Z q).1 n:=by
 intro l
 induction l with
 | nil=>intro q n _ h;exact h
 | cons p l ih=>
  intro q n hp h
  refine ih (fun x hx=>hp x (List.mem_cons_of_mem _ hx)) ?_
  exact Room.startT (hp p (by simp)).1 (Room.startT (hp p (by simp)).2 (h.less (by simp only [List.length_cons];omega)))
theorem Qdn:∀ (l:List Q15) {q:CSt×List (Int×Nat×Nat)},(q.2.map (·.1)).Nodup→((l.foldl Q0Z q).2.map (·.1)).Nodup:=by
 intro l
 induction l with
 | nil=>intro q h;exact h
 | cons p l ih=>intro q h;exact ih (Q31 h _ _)
theorem Q9T {b:Nat} {c0 c1 c2 c3 c4:Value} {T:TypeId} {w:World} (h:w.heap[b]? = some (.cells #[c0,c1,c2,c3,c4] T)) :
  w.cell? ⟨b,2,none⟩=some c2∧w.cell? ⟨b,3,none⟩=some c3∧w.cell? ⟨b,4,none⟩=some c4:=by
 refine ⟨?_,?_,?_⟩<;>simp [World.cell?,h]
def QhX (w:World) (a:CAd) (Fr bs:List (Nat×Obj)) (v:QN) (s:CSt) (e:Ending) (u':World):Prop:=∃ V bs',e = .returned (.map (some V))∧(∀ p∈bs,p∈bs')∧(V,Q2m (Q3t v s).2)∈bs'∧Qy w a Fr bs' (Q3t v s).1 u'
theorem Qgm {w u:World} {a:CAd} {Fr bs:List (Nat×Obj)} {s:CSt} {sl ks:Value} {cv:List (Qo×Value)} {et:List (List UInt8×NumL×Value)} {bs0:List (Nat×Obj)} {csl:Value} {v:QN} (hsl:Q0j bs0 342 csl v.procs.length (v.procs.flatMap prcC)) (hw:∀ p∈bs0,w.heap[p.1]? = some p.2) (hty:Q6C v) (h:Cp w a Fr bs s sl ks cv et u) (hr:Room s 80) :
  Calls Tryz.prog 146 #[.pointer (some ⟨a.C,0,none⟩),.agg #[.string ⟨v.t.toArray⟩,.int .i64 v.at',csl,.int .i64 v.num]] u (QhX w a Fr bs v s):=by
 have hmm:∀ (t:TypeId) (w:World),(Instr.makeMap t none).run Tryz.prog w = .ok (.map (some w.heap.size)) (w.alloc (.map #[] 0)):=fun _ _=>rfl
 have hcv:=Q8H
 have HTY:=Hid.mk hty
 have h8:=hty.1
 have HRM:=Hid.mk hr
 have hul:w.heap.size≤u.heap.size:=h.own.kp.size
 have M0:Hid (Qy w a ((u.heap.size + 1,Q2m ((v.procs.take 0).foldl Q0Z (s,[])).2) :: Fr) bs ((v.procs.take 0).foldl Q0Z (s,[])).1 ((u.alloc (.cells #[.string ⟨v.t.toArray⟩,.int .i64 v.at',csl,.int .i64 v.num] 296)).alloc (.map #[] 0))):=by
  have h1:=(h.below ((Below.refl u.heap.size u).alloc (Nat.le_refl _) (.cells #[.string ⟨v.t.toArray⟩,.int .i64 v.at',csl,.int .i64 v.num] 296))).alloc (.map #[] 0)
  have e:(u.alloc (.cells #[.string ⟨v.t.toArray⟩,.int .i64 v.at',csl,.int .i64 v.num] 296)).heap.size=u.heap.size + 1:=by simp
  rw [e] at h1
  exact h1.gives
 have hcell:∀ (W:World),Qa [] w W→∀ i (hi:i < v.procs.length),∃ g cap,csl = .slice (some ⟨g,0,none⟩) v.procs.length cap∧v.procs.length≤cap∧W.cell? ⟨g,i * 5,none⟩=some (.string ⟨v.procs[i].t.toArray⟩)∧W.cell? ⟨g,i * 5 + 1,none⟩=some (.int .i64 v.procs[i].at')∧W.cell? ⟨g,i * 5 + 2,none⟩=some (tyV v.procs[i].res)∧W.cell? ⟨g,i * 5 + 3,none⟩=some (tyV v.procs[i].arg)∧W.cell? ⟨g,i * 5 + 4,none⟩=some (.int .i64 v.procs[i].num):=by
  intro W hW i hi
  rcases hsl with ⟨_,h0,_⟩ | ⟨g,cap,cur,e,⟨h1,_⟩,hg,htake⟩
  ·omega
  ·have hgb:=(hW.block _ (Qc (hw _ hg)) (by simp)).trans (hw _ hg)
   have hf:=Q1q (c:=prcC) (n:=5) (fun _=>rfl) v.procs i
   refine ⟨g,cap,e,h1,Qn hgb htake ?_,Qn hgb htake ?_,Qn hgb htake ?_,Qn hgb htake ?_,Qn hgb htake ?_⟩
   ·have:=hf 0 hi (by omega);simpa using this
   ·have:=hf 1 hi (by omega);simpa using this
   ·have:=hf 2 hi (by omega);simpa using this
   ·have:=hf 3 hi (by omega);simpa using this
   ·have:=hf 4 hi (by omega);simpa using this
 obtain ⟨dad,dcap,rfl⟩:∃ ad cap,csl = .slice ad v.procs.length cap:=by
  rcases hsl with ⟨e,h0,_⟩ | ⟨g,cap,cur,e,_⟩
  ·exact ⟨none,0,by rw [e,h0]⟩
  ·exact ⟨_,_,e⟩
 have HCL:=Hid.mk hcell
 clear hcell hsl hty hr h hw
 go_enter Tryz.func146,Tryz.ntmps146
 go_wp2
 go_loopw [12] (fun i ur=>∃ k:Nat,i = .int .i64 k∧k≤v.procs.length∧Hid (Qy w a ((u.heap.size + 1,Q2m ((v.procs.take k).foldl Q0Z (s,[])).2) :: Fr) bs ((v.procs.take k).foldl Q0Z (s,[])).1 ur)) (fun i _=>v.procs.length - (intOf i).toNat)
 case atStart=>exact ⟨0,rfl,by omega,M0⟩
 case round=>
  obtain ⟨k,rfl,hk,G⟩:=hrel
  clear M0
  rcases Nat.lt_or_ge k v.procs.length with hlt | hge
  ·have hrm:Room ((v.procs.take k).foldl Q0Z (s,[])).1 16:=Room.procs (v.procs.take k) (fun p hp=>HTY.out.2 p (List.mem_of_mem_take hp)) (HRM.out.less (by have:=HTY.out.1;simp;omega))
   have hnd:(((v.procs.take k).foldl Q0Z (s,[])).2.map (·.1)).Nodup:=Qdn _ (by simp)
   have HST:Hid ((v.procs.take (k + 1)).foldl Q0Z (s,[])=Q0Z ((v.procs.take k).foldl Q0Z (s,[])) v.procs[k]):=by show _=_;rw [List.take_succ_eq_append_getElem hlt,List.foldl_append];rfl
   obtain ⟨bs1,sl1,ks1,cv1,et1,hb1,M1⟩:=G.out
   generalize hq:(v.procs.take k).foldl Q0Z (s,[])=q at *
   obtain ⟨g,cap,hds,hcap,p0,p1,p2,p3,p4⟩:=HCL.out _ M1.own.kp k hlt
   cases hds
   have hko:=HTY.out.2 v.procs[k] (List.getElem_mem hlt)
   obtain ⟨T2,v2,h2⟩:=QG v.procs[k].res
   obtain ⟨T3,v3,h3⟩:=QG v.procs[k].arg
   rw [h2] at p2
   rw [h3] at p3
   have hk0:(0:Int)≤↑k:=by omega
   have hk1:(↑k:Int) < ↑v.procs.length:=by omega
   have MA:=Hid.mk ((M1.alloc (.cells #[.string ⟨v.procs[k].t.toArray⟩,.int .i64 v.procs[k].at',.iface T2 v2,.iface T3 v3,.int .i64 v.procs[k].num] 342)).below ((Below.refl _ _).drew))
   have hV:u.heap.size + 1≠wr.heap.size:=by
    have:=Qc (M1.own.hf _ List.mem_cons_self).1
    simp only at this
    omega
   have VA:=Q6R hko.2 MA.out (hrm.less (by omega))
   rw [h3] at VA
   have VA:=Hid.mk VA
   have VB:=fun (W:World) (bs:List (Nat×Obj)) sl ks cv et (M:Cp w a ((wr.heap.size,.cells #[.string ⟨v.procs[k].t.toArray⟩,.int .i64 v.procs[k].at',.iface T2 v2,.iface T3 v3,.int .i64 v.procs[k].num] 342) :: (u.heap.size + 1,Q2m q.2) :: Fr) bs (startT v.procs[k].arg q.1) sl ks cv et W)=>Q6R hko.1 M (Room.startT hko.2 (hrm.less (by omega)))
   rw [h2] at VB
   have VB:=Hid.mk VB
   have HB1:=Hid.mk hb1
   clear M1 G hrm hb1 MA
   go_wp2_with fail
   refine QH (fun w'=>w'.cell? ⟨wr.heap.size,2,none⟩=some (.iface T2 v2)∧w'.cell? ⟨wr.heap.size,3,none⟩=some (.iface T3 v3)∧w'.cell? ⟨wr.heap.size,4,none⟩=some (.int .i64 v.procs[k].num)) (L:=13) (by kernel_rfl) rfl (by kernel_rfl) (by kernel_rfl) ?_ (fun hHeld=>?_)
   ·exact Q9T (Qi rfl)
   refine tk (i:=0) (v:=?_) rfl (by kernel_rfl) (fun _ _ _ h=>h) (by rfl) (by assumption) ?_ ?_
   rotate_left
   ·intro w hSw;(try dsimp only at hSw);go_simp;(try with_reducible rfl)
   (try simp only [Qd,Qe,List.set])
   refine tk (i:=1) (v:=?_) rfl (by kernel_rfl) (fun _ _ _ h=>h) (by rfl) (by assumption) ?_ ?_
   rotate_left
   ·intro w hSw;(try dsimp only at hSw);go_simp;(try with_reducible rfl)
   (try simp only [Qd,Qe,List.set])
   refine tk (i:=2) (v:=?_) rfl (by kernel_rfl) (fun _ _ _ h=>h) (by rfl) (by assumption) ?_ ?_
   rotate_left
   ·intro w hSw;(try dsimp only at hSw);go_simp;(try with_reducible rfl)
   (try simp only [Qd,Qe,List.set])
   refine tk (i:=3) (v:=?_) rfl (by kernel_rfl) (fun _ _ _ h=>h) (by rfl) (by assumption) ?_ ?_
   rotate_left
   ·intro w hSw;(try dsimp only at hSw);go_simp;(try with_reducible rfl)
   (try simp only [Qd,Qe,List.set])
   refine tk (i:=4) (v:=?_) rfl (by kernel_rfl) (fun _ _ _ h=>h) (by rfl) (by assumption) ?_ ?_
   rotate_left
   ·intro w hSw;(try dsimp only at hSw);go_simp;(try with_reducible rfl)
   (try simp only [Qd,Qe,List.set])
   refine tk (i:=5) (v:=?_) rfl (by kernel_rfl) (fun _ _ _ h=>h) (by rfl) (by assumption) ?_ ?_
   rotate_left
   ·intro w hSw;(try dsimp only at hSw);go_simp;(try with_reducible rfl)
   (try simp only [Qd,Qe,List.set])
   refine tk (i:=6) (v:=?_) rfl (by kernel_rfl) (fun _ _ _ h=>h) (by rfl) (by assumption) ?_ ?_
   rotate_left
   ·intro w hSw;(try dsimp only at hSw);go_simp;(try with_reducible rfl)
   (try simp only [Qd,Qe,List.set])
   refine tk (i:=8) (v:=?_) rfl (by kernel_rfl) (fun _ _ _ h=>h) (by rfl) (by assumption) ?_ ?_
   rotate_left
   ·intro w hSw;(try dsimp only at hSw);go_simp;(try with_reducible rfl)
   (try simp only [Qd,Qe,List.set])
   refine tk (i:=9) (v:=?_) rfl (by kernel_rfl) (fun _ _ _ h=>h) (by rfl) (by assumption) ?_ ?_
   rotate_left
   ·intro w hSw;(try dsimp only at hSw);go_simp;(try with_reducible rfl)
   (try simp only [Qd,Qe,List.set])
   refine tk (i:=10) (v:=?_) rfl (by kernel_rfl) (fun _ _ _ h=>h) (by rfl) (by assumption) ?_ ?_
   rotate_left
   ·intro w hSw;(try dsimp only at hSw);go_simp;(try with_reducible rfl)
   (try simp only [Qd,Qe,List.set])
   refine wpAnyH_ready (rs:=[7]) (by kernel_rfl) (by simp) ?_
   refine AllReadyH.cons rfl (fun K hK=>?_) AllReadyH.nil
   (go_simp;go_at_call 101;refine VA.out.mono ?_;rintro e w5 ⟨rfl,bs5,sl5,ks5,cv5,et5,hb5,M5⟩;have M5:=Hid.mk M5;have VB:=Hid.mk (VB.out _ _ _ _ _ _ M5.out);obtain ⟨x2,x3,x4⟩:=Q9T (M5.out.own.hf _ List.mem_cons_self).1)
   refine hK.out _ _ ?_ (fun hHeld=>?_)
   ·go_keep
   clear hK K
   (try simp only [Qd,Qe,List.set])
   clear M5
   refine wpAnyH_ready (rs:=[11]) (by kernel_rfl) (by simp) ?_
   refine AllReadyH.cons rfl (fun K hK=>?_) AllReadyH.nil
   (go_simp;go_at_call 101;refine VB.out.mono ?_;rintro e w6 ⟨rfl,bs6,sl6,ks6,cv6,et6,hb6,M6⟩;have M6:=Hid.mk M6;obtain ⟨x2,x3,x4⟩:=Q9T (M6.out.own.hf _ List.mem_cons_self).1;have hmap:=(M6.out.tail.own.hf _ List.mem_cons_self).1;have pu:=Qgk hmap hnd (u32 v.procs[k].num) q.1.code.length (startT v.procs[k].arg q.1).code.length;have M8:=M6.out.tail.setFr (Q0a _ _ _) (Q1t (Qc hmap) (Q2m (mput q.2 (u32 v.procs[k].num) (q.1.code.length,(startT v.procs[k].arg q.1).code.length))));obtain ⟨W,hW⟩:∃ W,W=Q09 w6 (u.heap.size + 1) (Q2m (mput q.2 (u32 v.procs[k].num) (q.1.code.length,(startT v.procs[k].arg q.1).code.length))):=⟨_,rfl⟩;rw [← hW] at pu M8;have M8:=Hid.mk M8;clear M6 hmap hW)
   refine hK.out _ _ ?_ (fun hHeld=>?_)
   ·go_keep
   clear hK K
   (try simp only [Qd,Qe,List.set])
   refine tk (i:=12) (v:=?_) rfl (by kernel_rfl) (fun _ _ _ h=>h) (by rfl) (by assumption) ?_ ?_
   rotate_left
   ·intro w hSw;(try dsimp only at hSw);go_simp;(try with_reducible rfl)
   (try simp only [Qd,Qe,List.set])
   refine wpAnyH_done (by kernel_rfl) ?_ _
   refine Q02 rfl (fun K hK=>?_)
   go_simp
   refine hK.out _ _ ?_
   clear hK K
   (try simp only [Qd,Qe,List.set])
   have hN:Hid (Qy w a ((u.heap.size + 1,Q2m ((v.procs.take (k + 1)).foldl Q0Z (s,[])).2) :: Fr) bs ((v.procs.take (k + 1)).foldl Q0Z (s,[])).1 W):=by
    rw [HST.out]
    exact ⟨bs6,_,_,_,_,fun p hp=>hb6 p (hb5 p (HB1.out p hp)),M8.out⟩
   clear M8 VA VB
   go_wp2
   exact ⟨⟨k + 1,by go_num,by omega,hN⟩,by simp [intOf];omega⟩
  ·have hkk:k=v.procs.length:=by omega
   subst hkk
   have G:=G.out
   rw [List.take_length] at G
   obtain ⟨bs1,sl1,ks1,cv1,et1,hb1,M1⟩:=G
   have M1:=Hid.mk M1
   go_wp2
   go_ret
   exact ⟨u.heap.size + 1,_,rfl,fun p hp=>List.mem_cons_of_mem _ (hb1 p hp),List.mem_cons_self,M1.out.give.gives⟩
end Go.Proofs.YtmbcibgknckenaaGreatDoor
