import Derived.Test.YtmbcibgknckenaaGreatDoorT7
set_option linter.all false
set_option maxRecDepth 100000
set_option maxHeartbeats 4000000
namespace Go.Proofs.YtmbcibgknckenaaGreatDoor
open Go.RowKit
open Go.Sort Go.Lib
open Mar (joinW)
theorem Put.held {w0:World} {b L:Nat} {st:PSt} {u:World} (h:Put w0 b L st u) {bs:List (Nat×Obj)} (hB:∀ p∈bs,w0.heap[p.1]? = some p.2):∀ p∈bs,u.heap[p.1]? = some p.2:=by
 obtain ⟨v,h⟩:=h
 intro p hp
 exact (h.kp.block _ (Qc (hB p hp)) (by simp)).trans (hB p hp)
def QbU (t:List UInt8) (v:Int):List (List UInt8):=[[99,111,110,115,116],t,[61],itoa v,[59]]
def memW (m:List UInt8×Nat×Int):List (List UInt8):=[m.1,[61],itoa m.2.2]
def Q1z:List (List UInt8×Nat×Int)→List (List UInt8)
 | []=>[]
 | m :: ms=>memW m++ms.flatMap fun m=>[44] :: memW m
theorem QeF {ms:List (List UInt8×Nat×Int)} {k:Nat} (hk:k < ms.length):Q1z (ms.take (k + 1))=Q1z (ms.take k)++((if k=0 then [] else [[44]])++memW ms[k]):=by
 cases ms with
 | nil=>simp at hk
 | cons m ms=>
  cases k with
  | zero=>simp [Q1z]
  | succ k=>
   simp only [List.length_cons,Nat.add_lt_add_iff_right] at hk
   rw [List.take_succ_cons,List.take_succ_cons,Q1z,Q1z,List.take_succ_eq_append_getElem hk,List.flatMap_append,List.append_assoc]
   simp
theorem Q1c {st:PSt} {a c:List (List UInt8)} (d:List (List UInt8)) (h:c=a++d):(putS st a).1.length≤(putS st c).1.length:=by
 rw [h]
 exact Q2d st a d
abbrev CAP:Nat:=140737488355328
theorem Qd9 {w0:World} {b L:Nat} {st:PSt} {u:World} (h:Put w0 b L st u) (hw:Pow w0) {bs:List (Nat×Obj)} (hB:∀ p∈bs,w0.heap[p.1]? = some p.2) {B a:Nat} {t:List UInt8} {v:Int} (hd:Q0d bs B (.const t a v)) (h64:I64 v) (hl:(putS st (QbU t v)).1.length≤CAP) :
  Calls Tryz.prog 246 #[.pointer (some ⟨B,0,none⟩),putV b L] u (Q1M w0 b L (putS st (QbU t v)) u):=by
 have hb:=h.held hB _ hd
 have c0:=Qs (i:=0) hb rfl
 have c2:=Qs (i:=2) hb rfl
 have VD:=Hid.mk (fun u' (hk:Qa [] u u')=>Q1U v h64.1 h64.2 ((h.keeps hk).pow hw))
 have H:=Hid.mk h
 have HL:=Hid.mk hl
 have HB:=Hid.mk hb
 clear h hl h64 hb hd hB
 go_enter Tryz.func246,Tryz.ntmps246
 go_wp2_with fail
 refine QH (fun w'=>w'.cell? ⟨B,0,none⟩=some (.string ⟨t.toArray⟩)∧w'.cell? ⟨B,2,none⟩=some (.int .i64 v)) (L:=12) (by kernel_rfl) rfl (by kernel_rfl) (by kernel_rfl) ?_ (fun hHeld=>?_)
 ·exact ⟨c0,c2⟩
 refine tk (i:=0) (v:=?_) rfl (by kernel_rfl) (fun _ _ _ h=>h) (by rfl) (by assumption) ?_ ?_
 rotate_left
 ·intro w hSw;(try dsimp only at hSw);go_simp;(try with_reducible rfl)
 (try simp only [Qd,Qe,List.set])
 refine tk (i:=1) (v:=?_) rfl (by kernel_rfl) (fun _ _ _ h=>h) (by rfl) (by assumption) ?_ ?_
 rotate_left
 ·intro w hSw;(try dsimp only at hSw);go_simp;(try with_reducible rfl)
 (try simp only [Qd,Qe,List.set])
 refine tk (i:=2) (v:=?_) rfl (by kernel_rfl) (fun _ _ _ h=>h) (by rfl) (by assumption) ?_ ?_
 rotate_left
 ·intro w hSw;(try dsimp only at hSw);go_simp;(try with_reducible rfl)
 (try simp only [Qd,Qe,List.set])
 refine tk (i:=3) (v:=?_) rfl (by kernel_rfl) (fun _ _ _ h=>h) (by rfl) (by assumption) ?_ ?_
 rotate_left
 ·intro w hSw;(try dsimp only at hSw);go_simp;(try with_reducible rfl)
 (try simp only [Qd,Qe,List.set])
 refine tk (i:=4) (v:=?_) rfl (by kernel_rfl) (fun _ _ _ h=>h) (by rfl) (by assumption) ?_ ?_
 rotate_left
 ·intro w hSw;(try dsimp only at hSw);go_simp;(try with_reducible rfl)
 (try simp only [Qd,Qe,List.set])
 refine tk (i:=5) (v:=?_) rfl (by kernel_rfl) (fun _ _ _ h=>h) (by rfl) (by assumption) ?_ ?_
 rotate_left
 ·intro w hSw;(try dsimp only at hSw);go_simp;(try with_reducible rfl)
 (try simp only [Qd,Qe,List.set])
 refine tk (i:=6) (v:=?_) rfl (by kernel_rfl) (fun _ _ _ h=>h) (by rfl) (by assumption) ?_ ?_
 rotate_left
 ·intro w hSw;(try dsimp only at hSw);go_simp;(try with_reducible rfl)
 (try simp only [Qd,Qe,List.set])
 refine tk (i:=7) (v:=?_) rfl (by kernel_rfl) (fun _ _ _ h=>h) (by rfl) (by assumption) ?_ ?_
 rotate_left
 ·intro w hSw;(try dsimp only at hSw);go_simp;(try with_reducible rfl)
 (try simp only [Qd,Qe,List.set])
 refine tk (i:=8) (v:=?_) rfl (by kernel_rfl) (fun _ _ _ h=>h) (by rfl) (by assumption) ?_ ?_
 rotate_left
 ·intro w hSw;(try dsimp only at hSw);go_simp;(try with_reducible rfl)
 (try simp only [Qd,Qe,List.set])
 refine tk (i:=9) (v:=?_) rfl (by kernel_rfl) (fun _ _ _ h=>h) (by rfl) (by assumption) ?_ ?_
 rotate_left
 ·intro w hSw;(try dsimp only at hSw);go_simp;(try with_reducible rfl)
 (try simp only [Qd,Qe,List.set])
 refine wpAnyH_ready (rs:=[10]) (by kernel_rfl) (by simp) ?_
 refine AllReadyH.cons rfl (fun K hK=>?_) AllReadyH.nil
 (go_simp;go_at_call 247;refine (VD.out _ (Qa.refl [] _).drew).mono ?_;rintro e w1 ⟨rfl,hk1⟩;have hk1:=(Qa.refl [] _).drew.trans hk1;have x0:=Qs (i:=0) ((hk1.block B (Qc HB.out) (by simp)).trans HB.out) rfl;have x2:=Qs (i:=2) ((hk1.block B (Qc HB.out) (by simp)).trans HB.out) rfl;have HK1:=Hid.mk hk1;clear hk1)
 refine hK.out _ _ ?_ (fun hHeld=>?_)
 ·go_keep
 clear hK K
 (try simp only [Qd,Qe,List.set])
 refine wpAnyH_ready (rs:=[11]) (by kernel_rfl) (by simp) ?_
 refine AllReadyH.cons rfl (fun K hK=>?_) AllReadyH.nil
 go_simp
 refine hK.out _ _ ?_ (fun hHeld=>?_)
 ·go_keep
 clear hK K
 (try simp only [Qd,Qe,List.set])
 refine wpAnyH_done (by kernel_rfl) ?_ _
 have VP:=Hid.mk (QZ (H.out.keeps HK1.out) [[99,111,110,115,116],t,[61],itoa v,[59]] HL.out)
 refine Q02 rfl (fun K hK=>?_)
 (go_simp;refine (VP.out _ _ _ (by simp) rfl rfl (by simp)).mono ?_;rintro e w2 ⟨rfl,hp2,hs2⟩;have HS:=Hid.mk ((QT.of_keeps HK1.out).trans hs2);have HP:=Hid.mk hp2;clear hp2 hs2)
 refine hK.out _ _ ?_
 clear hK K
 (try simp only [Qd,Qe,List.set])
 clear VP VD H HB HK1
 go_wp2
 go_end0
 exact ⟨rfl,HP.out,HS.out⟩
theorem QaQ {w0:World} {b L:Nat} {st:PSt} {u:World} (h:Put w0 b L st u) (hw:Pow w0) {bs:List (Nat×Obj)} (hB:∀ p∈bs,w0.heap[p.1]? = some p.2) {B:Nat} {d:Qk} (hd:Q0d bs B (.typedef d)) (h64:ty64 d.ty) (hl:(putS st ([[116,121,112,101,100,101,102]]++(Q0S d++[[59]]))).1.length≤CAP) :
  Calls Tryz.prog 251 #[.pointer (some ⟨B,0,none⟩),putV b L] u (Q1M w0 b L (putS st ([[116,121,112,101,100,101,102]]++(Q0S d++[[59]]))) u):=by
 have VP:=Hid.mk (QZ h [[116,121,112,101,100,101,102]] (Nat.le_trans (Q2d st [[116,121,112,101,100,101,102]] (Q0S d++[[59]])) hl))
 have HB:=Hid.mk (fun u' (st':PSt) (h:Put w0 b L st' u')=>h.held hB _ hd)
 have HL:=Hid.mk hl
 obtain ⟨T1,v1,h1⟩:=QG d.ty
 clear h hl hd hB
 go_enter Tryz.func251,Tryz.ntmps251
 go_wp2_with fail
 refine (VP.out _ _ _ (by simp) rfl rfl (by simp)).mono ?_
 rintro e w1 ⟨rfl,hp1,hs1⟩
 have hb:=HB.out _ _ hp1
 have c0:w1.cell? ⟨B,0,none⟩=some (.string ⟨d.t.toArray⟩):=Qs hb rfl
 have c1:w1.cell? ⟨B,1,none⟩=some (.int .i64 d.at'):=Qs hb rfl
 have c2:w1.cell? ⟨B,2,none⟩=some (tyV d.ty):=Qs hb rfl
 have VD:=Q5j hp1 hw d h64 (by rw [Qu];exact Nat.le_trans (Q2d st ([[116,121,112,101,100,101,102]]++Q0S d) [[59]]) (by rw [List.append_assoc];exact HL.out))
 dsimp only [Q0C] at VD
 rw [h1] at VD c2
 have VD:=Hid.mk VD
 have HS1:=Hid.mk hs1
 clear hp1 hs1 VP HB hb
 go_wp2_with fail
 refine VD.out.mono ?_
 rintro e w2 ⟨rfl,hp2,hs2⟩
 rw [Qu] at hp2
 have VP:=Hid.mk (QZ hp2 [[59]] (by rw [Qu,List.append_assoc];exact HL.out))
 have HS2:=Hid.mk (HS1.out.trans hs2)
 clear hp2 hs2 VD HS1
 go_wp2_with fail
 refine (VP.out _ _ _ (by simp) rfl rfl (by simp)).mono ?_
 rintro e w3 ⟨rfl,hp3,hs3⟩
 rw [Qu,List.append_assoc] at hp3
 have HS3:=Hid.mk (HS2.out.trans hs3)
 have HP3:=Hid.mk hp3
 clear hp3 hs3 VP
 go_wp2
 go_end0
 exact ⟨rfl,HP3.out,HS3.out⟩
theorem QeG {w0:World} {b L:Nat} {st:PSt} {u:World} (h:Put w0 b L st u) (hw:Pow w0) {bs:List (Nat×Obj)} (hB:∀ p∈bs,w0.heap[p.1]? = some p.2) {B a:Nat} {t:List UInt8} {ms:List (List UInt8×Nat×Int)} (hd:Q0d bs B (.enum t a ms)) (h64:∀ m∈ms,I64 m.2.2)
  (hl:(putS st (([[101,110,117,109],t,[123]]++Q1z ms)++[[125],[59]])).1.length≤CAP) :
  Calls Tryz.prog 256 #[.pointer (some ⟨B,0,none⟩),putV b L] u (Q1M w0 b L (putS st (([[101,110,117,109],t,[123]]++Q1z ms)++[[125],[59]])) u):=by
 obtain ⟨sl,ps,hb,hpl,hsl,hcs⟩:=hd
 have k0:u.cell? ⟨B,0,none⟩=some (.string ⟨t.toArray⟩):=Qs (h.held hB _ hb) rfl
 have hle:=Nat.le_trans (Q2d st ([[101,110,117,109],t,[123]]++Q1z ms) [[125],[59]]) hl
 have VP:=Hid.mk (QZ h [[101,110,117,109],t,[123]] (Nat.le_trans (Q2d st _ (Q1z ms)) hle))
 have HL:=Hid.mk hl
 have HLe:=Hid.mk hle
 have HB:=Hid.mk (fun u' (st':PSt) (h:Put w0 b L st' u')=>h.held hB)
 clear hl hle h hB
 rcases hsl with ⟨rfl,h0,_⟩ | ⟨g,cap,cur,rfl,⟨hcap,hms⟩,hg,htake⟩
 ·have hnil:ms=[]:=List.length_eq_zero_iff.1 h0
  subst hnil
  go_enter Tryz.func256,Tryz.ntmps256
  go_wp2_with fail
  refine (VP.out _ _ _ (by simp) rfl rfl (by simp)).mono ?_
  rintro e w1 ⟨rfl,hp1,hs1⟩
  have c2:w1.cell? ⟨B,2,none⟩=some (.slice none 0 0):=Qs (HB.out _ _ hp1 _ hb) rfl
  have VP:=Hid.mk (QZ hp1 [[125],[59]] (by rw [Qu];exact HL.out))
  have HS1:=Hid.mk hs1
  clear hp1 hs1 k0
  go_wp2_with fail
  go_loopw [19] (fun i ur=>i = .int .i64 0∧ur=w1) (fun _ _=>0)
  case atStart=>exact ⟨rfl,rfl⟩
  case round=>
   obtain ⟨rfl,rfl⟩:=hrel
   go_wp2_with fail
   refine (VP.out _ _ _ (by simp) rfl rfl (by simp)).mono ?_
   rintro e w2 ⟨rfl,hp2,hs2⟩
   rw [Qu] at hp2
   have HS2:=Hid.mk (HS1.out.trans hs2)
   have HP2:=Hid.mk hp2
   clear hp2 hs2 VP
   go_wp2
   go_end0
   exact ⟨rfl,HP2.out,HS2.out⟩
 ·go_enter Tryz.func256,Tryz.ntmps256
  go_wp2_with fail
  refine (VP.out _ _ _ (by simp) rfl rfl (by simp)).mono ?_
  rintro e w1 ⟨rfl,hp1,hs1⟩
  have c2:w1.cell? ⟨B,2,none⟩=some (.slice (some ⟨g,0,none⟩) ms.length cap):=Qs (HB.out _ _ hp1 _ hb) rfl
  have HS1:=Hid.mk hs1
  have HP1:Hid (Put w0 b L (putS st ([[101,110,117,109],t,[123]]++Q1z (ms.take 0))) w1):=by
   show Put _ _ _ _ _
   simpa [Q1z] using hp1
  clear hp1 hs1 k0 VP
  go_wp2_with fail
  go_loopw [19] (fun i ur=>∃ k:Nat,i = .int .i64 k∧k≤ms.length∧Hid (Put w0 b L (putS st ([[101,110,117,109],t,[123]]++Q1z (ms.take k))) ur)∧Hid (QT b L u ur)) (fun i _=>ms.length - (RowKit.intOf i).toNat)
  case atStart=>exact ⟨0,rfl,by omega,HP1,HS1⟩
  case round=>
   obtain ⟨k,rfl,hk,HP,HS⟩:=hrel
   clear HP1 HS1
   rcases Nat.lt_or_ge k ms.length with hlt | hge
   ·have hltp:k < ps.length:=by omega
    have hcell:wr.cell? ⟨g,k,none⟩=some (.pointer (some ⟨ps[k],0,none⟩)):=Qn (HB.out _ _ HP.out _ hg) htake (by rw [List.getElem?_map,List.getElem?_eq_getElem hltp];rfl)
    have i0:(0:Int)≤(k:Int):=by omega
    have i1:(k:Int) < (ms.length:Int):=by omega
    have hC:=hcs k hlt hltp
    have HT:=Hid.mk (QeF hlt)
    have H6:=Hid.mk (h64 ms[k] (List.getElem_mem hlt))
    have HLk:Hid ((putS st ([[101,110,117,109],t,[123]]++Q1z (ms.take (k + 1)))).1.length≤CAP):=by
     refine Nat.le_trans ?_ HLe.out
     have e:Q1z ms=Q1z (ms.take (k + 1))++(ms.drop (k + 1)).flatMap fun m=>[44] :: memW m:=by
      cases ms with
      | nil=>simp at hlt
      | cons m ms=>rw [List.take_succ_cons,List.drop_succ_cons,Q1z,Q1z,List.append_assoc,← List.flatMap_append,List.take_append_drop]
     rw [e,← List.append_assoc]
     exact Q2d _ _ _
    generalize ps[k]=p at hcell hC
    generalize hmk:ms[k]=m at HT H6 hC
    by_cases hk0:k=0
    ·have g0:¬ ((0:Int) < (k:Int)):=by omega
     have hT:=HT.out
     rw [if_pos hk0,List.nil_append] at hT
     have HT:=Hid.mk hT
     clear hT hk0
     have hcp:=HB.out _ _ HP.out _ hC
     have x0:wr.cell? ⟨p,0,none⟩=some (.string ⟨m.1.toArray⟩):=Qs hcp rfl
     have x2:wr.cell? ⟨p,2,none⟩=some (.int .i64 m.2.2):=Qs hcp rfl
     have VD:=Hid.mk (fun u' (hk:Qa [] wr u')=>Q1U m.2.2 H6.out.1 H6.out.2 ((HP.out.keeps hk).pow hw))
     have HC:=Hid.mk hcp
     clear hcp
     go_wp2_with fail
     refine QH (fun w'=>w'.cell? ⟨p,0,none⟩=some (.string ⟨m.1.toArray⟩)∧w'.cell? ⟨p,2,none⟩=some (.int .i64 m.2.2)) (L:=12) (by kernel_rfl) rfl (by kernel_rfl) (by kernel_rfl) ?_ (fun hHeld=>?_)
     ·exact ⟨x0,x2⟩
     refine tk (i:=0) (v:=?_) rfl (by kernel_rfl) (fun _ _ _ h=>h) (by rfl) (by assumption) ?_ ?_
     rotate_left
     ·intro w hSw;(try dsimp only at hSw);go_simp;(try with_reducible rfl)
     (try simp only [Qd,Qe,List.set])
     refine tk (i:=1) (v:=?_) rfl (by kernel_rfl) (fun _ _ _ h=>h) (by rfl) (by assumption) ?_ ?_
     rotate_left
     ·intro w hSw;(try dsimp only at hSw);go_simp;(try with_reducible rfl)
     (try simp only [Qd,Qe,List.set])
     refine tk (i:=2) (v:=?_) rfl (by kernel_rfl) (fun _ _ _ h=>h) (by rfl) (by assumption) ?_ ?_
     rotate_left
     ·intro w hSw;(try dsimp only at hSw);go_simp;(try with_reducible rfl)
     (try simp only [Qd,Qe,List.set])
     refine tk (i:=3) (v:=?_) rfl (by kernel_rfl) (fun _ _ _ h=>h) (by rfl) (by assumption) ?_ ?_
     rotate_left
     ·intro w hSw;(try dsimp only at hSw);go_simp;(try with_reducible rfl)
     (try simp only [Qd,Qe,List.set])
     refine tk (i:=4) (v:=?_) rfl (by kernel_rfl) (fun _ _ _ h=>h) (by rfl) (by assumption) ?_ ?_
     rotate_left
     ·intro w hSw;(try dsimp only at hSw);go_simp;(try with_reducible rfl)
     (try simp only [Qd,Qe,List.set])
     refine tk (i:=5) (v:=?_) rfl (by kernel_rfl) (fun _ _ _ h=>h) (by rfl) (by assumption) ?_ ?_
     rotate_left
     ·intro w hSw;(try dsimp only at hSw);go_simp;(try with_reducible rfl)
     (try simp only [Qd,Qe,List.set])
     refine tk (i:=6) (v:=?_) rfl (by kernel_rfl) (fun _ _ _ h=>h) (by rfl) (by assumption) ?_ ?_
     rotate_left
     ·intro w hSw;(try dsimp only at hSw);go_simp;(try with_reducible rfl)
     (try simp only [Qd,Qe,List.set])
     refine tk (i:=7) (v:=?_) rfl (by kernel_rfl) (fun _ _ _ h=>h) (by rfl) (by assumption) ?_ ?_
     rotate_left
     ·intro w hSw;(try dsimp only at hSw);go_simp;(try with_reducible rfl)
     (try simp only [Qd,Qe,List.set])
     refine tk (i:=8) (v:=?_) rfl (by kernel_rfl) (fun _ _ _ h=>h) (by rfl) (by assumption) ?_ ?_
     rotate_left
     ·intro w hSw;(try dsimp only at hSw);go_simp;(try with_reducible rfl)
     (try simp only [Qd,Qe,List.set])
     refine tk (i:=9) (v:=?_) rfl (by kernel_rfl) (fun _ _ _ h=>h) (by rfl) (by assumption) ?_ ?_
     rotate_left
     ·intro w hSw;(try dsimp only at hSw);go_simp;(try with_reducible rfl)
     (try simp only [Qd,Qe,List.set])
     refine wpAnyH_ready (rs:=[10]) (by kernel_rfl) (by simp) ?_
     refine AllReadyH.cons rfl (fun K hK=>?_) AllReadyH.nil
     (go_simp;go_at_call 247;refine (VD.out _ (Qa.refl [] _).drew).mono ?_;rintro e w3 ⟨rfl,hk3⟩;have hk3:=(Qa.refl [] _).drew.trans hk3;have y0:w3.cell? ⟨p,0,none⟩=some (.string ⟨m.1.toArray⟩):=Qs ((hk3.block p (Qc HC.out) (by simp)).trans HC.out) rfl;have y2:w3.cell? ⟨p,2,none⟩=some (.int .i64 m.2.2):=Qs ((hk3.block p (Qc HC.out) (by simp)).trans HC.out) rfl;have HK3:=Hid.mk hk3;clear hk3)
     refine hK.out _ _ ?_ (fun hHeld=>?_)
     ·go_keep
     clear hK K
     (try simp only [Qd,Qe,List.set])
     refine wpAnyH_ready (rs:=[11]) (by kernel_rfl) (by simp) ?_
     refine AllReadyH.cons rfl (fun K hK=>?_) AllReadyH.nil
     go_simp
     refine hK.out _ _ ?_ (fun hHeld=>?_)
     ·go_keep
     clear hK K
     (try simp only [Qd,Qe,List.set])
     refine wpAnyH_done (by kernel_rfl) ?_ _
     have VP:=Hid.mk (QZ (HP.out.keeps HK3.out) [m.1,[61],itoa m.2.2] (by rw [Qu,List.append_assoc];have:=HLk.out;rw [HT.out] at this;exact this))
     refine Q02 rfl (fun K hK=>?_)
     (go_simp;refine (VP.out _ _ _ (by simp) rfl rfl (by simp)).mono ?_;rintro e w4 ⟨rfl,hp4,hs4⟩;have HS4:=Hid.mk ((HS.out.trans (QT.of_keeps HK3.out)).trans hs4);have HP4:Hid (Put w0 b L (putS st ([[101,110,117,109],t,[123]]++Q1z (ms.take (k + 1)))) w4):=(by have h5:=hp4;rw [Qu,List.append_assoc] at h5;show Put _ _ _ _ _;rw [HT.out];exact h5);clear hp4 hs4)
     refine hK.out _ _ ?_
     clear hK K
     (try simp only [Qd,Qe,List.set])
     clear VP VD HC HK3 x0 x2
     go_wp2
     exact ⟨⟨k + 1,by go_num,by omega,HP4,HS4⟩,by simp [RowKit.intOf];omega⟩
    ·have g0:(0:Int) < (k:Int):=by omega
     have hT:=HT.out
     rw [if_neg hk0] at hT
     have HT:=Hid.mk hT
     have VC:=Hid.mk (QZ HP.out [[44]] (by
      rw [Qu]
      refine Nat.le_trans ?_ HLk.out
      rw [hT,← List.append_assoc,← List.append_assoc]
      exact Q2d _ _ _))
     clear hT hk0
     go_wp2_with fail
     refine (VC.out _ _ _ (by simp) rfl rfl (by simp)).mono ?_
     rintro e w2 ⟨rfl,hp2,hs2⟩
     have HP2:=Hid.mk hp2
     have HS2:=Hid.mk (HS.out.trans hs2)
     clear hp2 hs2 VC
     have hcp:=HB.out _ _ HP2.out _ hC
     have x0:w2.cell? ⟨p,0,none⟩=some (.string ⟨m.1.toArray⟩):=Qs hcp rfl
     have x2:w2.cell? ⟨p,2,none⟩=some (.int .i64 m.2.2):=Qs hcp rfl
     have VD:=Hid.mk (fun u' (hk:Qa [] w2 u')=>Q1U m.2.2 H6.out.1 H6.out.2 ((HP2.out.keeps hk).pow hw))
     have HC:=Hid.mk hcp
     clear hcp
     go_wp2_with fail
     refine QH (fun w'=>w'.cell? ⟨p,0,none⟩=some (.string ⟨m.1.toArray⟩)∧w'.cell? ⟨p,2,none⟩=some (.int .i64 m.2.2)) (L:=12) (by kernel_rfl) rfl (by kernel_rfl) (by kernel_rfl) ?_ (fun hHeld=>?_)
     ·exact ⟨x0,x2⟩
     refine tk (i:=0) (v:=?_) rfl (by kernel_rfl) (fun _ _ _ h=>h) (by rfl) (by assumption) ?_ ?_
     rotate_left
     ·intro w hSw;(try dsimp only at hSw);go_simp;(try with_reducible rfl)
     (try simp only [Qd,Qe,List.set])
     refine tk (i:=1) (v:=?_) rfl (by kernel_rfl) (fun _ _ _ h=>h) (by rfl) (by assumption) ?_ ?_
     rotate_left
     ·intro w hSw;(try dsimp only at hSw);go_simp;(try with_reducible rfl)
     (try simp only [Qd,Qe,List.set])
     refine tk (i:=2) (v:=?_) rfl (by kernel_rfl) (fun _ _ _ h=>h) (by rfl) (by assumption) ?_ ?_
     rotate_left
     ·intro w hSw;(try dsimp only at hSw);go_simp;(try with_reducible rfl)
     (try simp only [Qd,Qe,List.set])
     refine tk (i:=3) (v:=?_) rfl (by kernel_rfl) (fun _ _ _ h=>h) (by rfl) (by assumption) ?_ ?_
     rotate_left
     ·intro w hSw;(try dsimp only at hSw);go_simp;(try with_reducible rfl)
     (try simp only [Qd,Qe,List.set])
     refine tk (i:=4) (v:=?_) rfl (by kernel_rfl) (fun _ _ _ h=>h) (by rfl) (by assumption) ?_ ?_
     rotate_left
     ·intro w hSw;(try dsimp only at hSw);go_simp;(try with_reducible rfl)
     (try simp only [Qd,Qe,List.set])
     refine tk (i:=5) (v:=?_) rfl (by kernel_rfl) (fun _ _ _ h=>h) (by rfl) (by assumption) ?_ ?_
     rotate_left
     ·intro w hSw;(try dsimp only at hSw);go_simp;(try with_reducible rfl)
     (try simp only [Qd,Qe,List.set])
     refine tk (i:=6) (v:=?_) rfl (by kernel_rfl) (fun _ _ _ h=>h) (by rfl) (by assumption) ?_ ?_
     rotate_left
     ·intro w hSw;(try dsimp only at hSw);go_simp;(try with_reducible rfl)
     (try simp only [Qd,Qe,List.set])
     refine tk (i:=7) (v:=?_) rfl (by kernel_rfl) (fun _ _ _ h=>h) (by rfl) (by assumption) ?_ ?_
     rotate_left
     ·intro w hSw;(try dsimp only at hSw);go_simp;(try with_reducible rfl)
     (try simp only [Qd,Qe,List.set])
     refine tk (i:=8) (v:=?_) rfl (by kernel_rfl) (fun _ _ _ h=>h) (by rfl) (by assumption) ?_ ?_
     rotate_left
     ·intro w hSw;(try dsimp only at hSw);go_simp;(try with_reducible rfl)
     (try simp only [Qd,Qe,List.set])
     refine tk (i:=9) (v:=?_) rfl (by kernel_rfl) (fun _ _ _ h=>h) (by rfl) (by assumption) ?_ ?_
     rotate_left
     ·intro w hSw;(try dsimp only at hSw);go_simp;(try with_reducible rfl)
     (try simp only [Qd,Qe,List.set])
     refine wpAnyH_ready (rs:=[10]) (by kernel_rfl) (by simp) ?_
     refine AllReadyH.cons rfl (fun K hK=>?_) AllReadyH.nil
     (go_simp;go_at_call 247;refine (VD.out _ (Qa.refl [] _).drew).mono ?_;rintro e w3 ⟨rfl,hk3⟩;have hk3:=(Qa.refl [] _).drew.trans hk3;have y0:w3.cell? ⟨p,0,none⟩=some (.string ⟨m.1.toArray⟩):=Qs ((hk3.block p (Qc HC.out) (by simp)).trans HC.out) rfl;have y2:w3.cell? ⟨p,2,none⟩=some (.int .i64 m.2.2):=Qs ((hk3.block p (Qc HC.out) (by simp)).trans HC.out) rfl;have HK3:=Hid.mk hk3;clear hk3)
     refine hK.out _ _ ?_ (fun hHeld=>?_)
     ·go_keep
     clear hK K
     (try simp only [Qd,Qe,List.set])
     refine wpAnyH_ready (rs:=[11]) (by kernel_rfl) (by simp) ?_
     refine AllReadyH.cons rfl (fun K hK=>?_) AllReadyH.nil
     go_simp
     refine hK.out _ _ ?_ (fun hHeld=>?_)
     ·go_keep
     clear hK K
     (try simp only [Qd,Qe,List.set])
     refine wpAnyH_done (by kernel_rfl) ?_ _
     have VP:=Hid.mk (QZ (HP2.out.keeps HK3.out) [m.1,[61],itoa m.2.2] (by rw [Qu,Qu,List.append_assoc];have:=HLk.out;rw [HT.out] at this;exact this))
     refine Q02 rfl (fun K hK=>?_)
     (go_simp;refine (VP.out _ _ _ (by simp) rfl rfl (by simp)).mono ?_;rintro e w4 ⟨rfl,hp4,hs4⟩;have HS4:=Hid.mk ((HS2.out.trans (QT.of_keeps HK3.out)).trans hs4);have HP4:Hid (Put w0 b L (putS st ([[101,110,117,109],t,[123]]++Q1z (ms.take (k + 1)))) w4):=(by have h5:=hp4;rw [Qu,Qu,List.append_assoc] at h5;show Put _ _ _ _ _;rw [HT.out];exact h5);clear hp4 hs4)
     refine hK.out _ _ ?_
     clear hK K
     (try simp only [Qd,Qe,List.set])
     clear VP VD HC HK3 x0 x2
     go_wp2
     exact ⟨⟨k + 1,by go_num,by omega,HP4,HS4⟩,by simp [RowKit.intOf];omega⟩
   ·have hkk:k=ms.length:=by omega
    subst hkk
    have hge0:¬ ((ms.length:Int) < (ms.length:Int)):=by omega
    rw [List.take_length] at HP
    have VP:=Hid.mk (QZ HP.out [[125],[59]] (by rw [Qu];exact HL.out))
    go_wp2_with fail
    refine (VP.out _ _ _ (by simp) rfl rfl (by simp)).mono ?_
    rintro e w2 ⟨rfl,hp2,hs2⟩
    rw [Qu] at hp2
    have HS2:=Hid.mk (HS.out.trans hs2)
    have HP2:=Hid.mk hp2
    clear hp2 hs2 VP
    go_wp2
    go_end0
    exact ⟨rfl,HP2.out,HS2.out⟩
def Q12 (ms:List Qk):List (List UInt8):=ms.flatMap fun d=>Q0S d++[[59]]
theorem Qda {ms:List Qk} {k:Nat} (hk:k < ms.length):Q12 (ms.take (k + 1))=Q12 (ms.take k)++(Q0S ms[k]++[[59]]):=by
 unfold Q12
 rw [List.take_succ_eq_append_getElem hk,List.flatMap_append]
 simp
theorem QbV {w0:World} {b L:Nat} {st:PSt} {u:World} (h:Put w0 b L st u) (hw:Pow w0) {bs:List (Nat×Obj)} (hB:∀ p∈bs,w0.heap[p.1]? = some p.2) {B a:Nat} {t:List UInt8} {ms:List Qk} (hd:Q0d bs B (.struct t a ms)) (h64:∀ m∈ms,ty64 m.ty)
  (hl:(putS st (([[115,116,114,117,99,116],t,[123]]++Q12 ms)++[[125],[59]])).1.length≤CAP) :
  Calls Tryz.prog 259 #[.pointer (some ⟨B,0,none⟩),putV b L] u (Q1M w0 b L (putS st (([[115,116,114,117,99,116],t,[123]]++Q12 ms)++[[125],[59]])) u):=by
 obtain ⟨sl,hb,hsl⟩:=hd
 have k0:u.cell? ⟨B,0,none⟩=some (.string ⟨t.toArray⟩):=Qs (h.held hB _ hb) rfl
 have hle:=Nat.le_trans (Q2d st ([[115,116,114,117,99,116],t,[123]]++Q12 ms) [[125],[59]]) hl
 have VP:=Hid.mk (QZ h [[115,116,114,117,99,116],t,[123]] (Nat.le_trans (Q2d st _ (Q12 ms)) hle))
 have HL:=Hid.mk hl
 have HLe:=Hid.mk hle
 have HB:=Hid.mk (fun u' (st':PSt) (h:Put w0 b L st' u')=>h.held hB)
 have hbl:=h.lt
 have HBl:=Hid.mk hbl
 clear hl hle h hB hbl
 rcases hsl with ⟨rfl,h0,_⟩ | ⟨g,cap,cur,rfl,⟨hcap,hms⟩,hg,htake⟩
 ·have hnil:ms=[]:=List.length_eq_zero_iff.1 h0
  subst hnil
  go_enter Tryz.func259,Tryz.ntmps259
  go_wp2_with fail
  refine (VP.out _ _ _ (by simp) rfl rfl (by simp)).mono ?_
  rintro e w1 ⟨rfl,hp1,hs1⟩
  have c2:w1.cell? ⟨B,2,none⟩=some (.slice none 0 0):=Qs (HB.out _ _ hp1 _ hb) rfl
  have VP:=Hid.mk (QZ hp1 [[125],[59]] (by rw [Qu];exact HL.out))
  have HS1:=Hid.mk hs1
  clear hp1 hs1 k0
  go_wp2_with fail
  go_loopw [19] (fun i ur=>i = .int .i64 0∧ur=w1) (fun _ _=>0)
  case atStart=>exact ⟨rfl,rfl⟩
  case round=>
   obtain ⟨rfl,rfl⟩:=hrel
   go_wp2_with fail
   refine (VP.out _ _ _ (by simp) rfl rfl (by simp)).mono ?_
   rintro e w2 ⟨rfl,hp2,hs2⟩
   rw [Qu] at hp2
   have HS2:=Hid.mk (HS1.out.trans hs2)
   have HP2:=Hid.mk hp2
   clear hp2 hs2 VP
   go_wp2
   go_end0
   exact ⟨rfl,HP2.out,HS2.out⟩
 ·go_enter Tryz.func259,Tryz.ntmps259
  go_wp2_with fail
  refine (VP.out _ _ _ (by simp) rfl rfl (by simp)).mono ?_
  rintro e w1 ⟨rfl,hp1,hs1⟩
  have c2:w1.cell? ⟨B,2,none⟩=some (.slice (some ⟨g,0,none⟩) ms.length cap):=Qs (HB.out _ _ hp1 _ hb) rfl
  have HS1:=Hid.mk hs1
  have HP1:Hid (Put w0 b L (putS st ([[115,116,114,117,99,116],t,[123]]++Q12 (ms.take 0))) w1):=by
   show Put _ _ _ _ _
   simpa [Q12] using hp1
  clear hp1 hs1 k0 VP
  go_wp2_with fail
  go_loopw [19] (fun i ur=>∃ k:Nat,i = .int .i64 k∧k≤ms.length∧Hid (Put w0 b L (putS st ([[115,116,114,117,99,116],t,[123]]++Q12 (ms.take k))) ur)∧Hid (QT b L u ur)) (fun i _=>ms.length - (RowKit.intOf i).toNat)
  case atStart=>exact ⟨0,rfl,by omega,HP1,HS1⟩
  case round=>
   obtain ⟨k,rfl,hk,HP,HS⟩:=hrel
   clear HP1 HS1
   rcases Nat.lt_or_ge k ms.length with hlt | hge
   ·have hgb:=HB.out _ _ HP.out _ hg
    have hf:=Q1q (c:=Q0C) (n:=3) (fun _=>rfl) ms k
    have q0:wr.cell? ⟨g,k * 3,none⟩=some (.string ⟨ms[k].t.toArray⟩):=Qn hgb htake (by have:=hf 0 hlt (by omega);simpa using this)
    have q1:wr.cell? ⟨g,k * 3 + 1,none⟩=some (.int .i64 ms[k].at'):=Qn hgb htake (by have:=hf 1 hlt (by omega);simpa using this)
    have q2:wr.cell? ⟨g,k * 3 + 2,none⟩=some (tyV ms[k].ty):=Qn hgb htake (by have:=hf 2 hlt (by omega);simpa using this)
    have i0:(0:Int)≤(k:Int):=by omega
    have i1:(k:Int) < (ms.length:Int):=by omega
    have HT:=Hid.mk (Qda hlt)
    have H6:=Hid.mk (h64 ms[k] (List.getElem_mem hlt))
    have HLk:Hid ((putS st ([[115,116,114,117,99,116],t,[123]]++Q12 (ms.take (k + 1)))).1.length≤CAP):=by
     have e:Q12 ms=Q12 (ms.take (k + 1))++Q12 (ms.drop (k + 1)):=by
      unfold Q12
      rw [← List.flatMap_append,List.take_append_drop]
     exact Nat.le_trans (Q1c (Q12 (ms.drop (k + 1))) (by rw [List.append_assoc,← e])) HLe.out
    clear hgb hf
    generalize ms[k]=m at q0 q1 q2 HT H6
    obtain ⟨T1,v1,h1⟩:=QG m.ty
    have hk1:=(Qa.refl [] wr).alloc (.cells #[.string ⟨m.t.toArray⟩,.int .i64 m.at',.iface T1 v1] 195)
    have VD:=Q5j (HP.out.keeps hk1) hw m H6.out (by
     rw [Qu,List.append_assoc]
     exact Nat.le_trans (Q1c [[59]] (by rw [HT.out];simp only [List.append_assoc])) HLk.out)
    dsimp only [Q0C] at VD
    rw [h1] at VD q2
    have VD:=Hid.mk VD
    have HK1:=Hid.mk hk1
    clear hk1
    go_wp2_with fail
    refine VD.out.mono ?_
    rintro e w2 ⟨rfl,hp2,hs2⟩
    rw [Qu,List.append_assoc] at hp2
    have VP:=Hid.mk (QZ hp2 [[59]] (by
     rw [Qu,show ([[115,116,114,117,99,116],t,[123]]++(Q12 (ms.take k)++Q0S m))++[[59]]=[[115,116,114,117,99,116],t,[123]]++Q12 (ms.take (k + 1)) by rw [HT.out];simp only [List.append_assoc]]
     exact HLk.out))
    have HS2:=Hid.mk ((HS.out.trans (QT.of_keeps HK1.out)).trans hs2)
    clear hp2 hs2 VD q0 q1 q2
    go_wp2_with fail
    refine (VP.out _ _ _ (by simp) rfl rfl (by simp)).mono ?_
    rintro e w3 ⟨rfl,hp3,hs3⟩
    have HS3:=Hid.mk (HS2.out.trans hs3)
    have HP3:Hid (Put w0 b L (putS st ([[115,116,114,117,99,116],t,[123]]++Q12 (ms.take (k + 1)))) w3):=by
     show Put _ _ _ _ _
     rw [Qu,show ([[115,116,114,117,99,116],t,[123]]++(Q12 (ms.take k)++Q0S m))++[[59]]=[[115,116,114,117,99,116],t,[123]]++Q12 (ms.take (k + 1)) by rw [HT.out];simp only [List.append_assoc]] at hp3
     exact hp3
    clear hp3 hs3 VP
    go_wp2
    exact ⟨⟨k + 1,by go_num,by omega,HP3,HS3⟩,by simp [RowKit.intOf];omega⟩
   ·have hkk:k=ms.length:=by omega
    subst hkk
    have hge0:¬ ((ms.length:Int) < (ms.length:Int)):=by omega
    rw [List.take_length] at HP
    have VP:=Hid.mk (QZ HP.out [[125],[59]] (by rw [Qu];exact HL.out))
    go_wp2_with fail
    refine (VP.out _ _ _ (by simp) rfl rfl (by simp)).mono ?_
    rintro e w2 ⟨rfl,hp2,hs2⟩
    rw [Qu] at hp2
    have HS2:=Hid.mk (HS.out.trans hs2)
    have HP2:=Hid.mk hp2
    clear hp2 hs2 VP
    go_wp2
    go_end0
    exact ⟨rfl,HP2.out,HS2.out⟩
def Q2K (cs:List Int):List (List UInt8):=cs.flatMap fun n=>[[99,97,115,101],itoa n,[58]]
theorem Qdb {cs:List Int} {k:Nat} (hk:k < cs.length):Q2K (cs.take (k + 1))=Q2K (cs.take k)++[[99,97,115,101],itoa cs[k],[58]]:=by
 unfold Q2K
 rw [List.take_succ_eq_append_getElem hk,List.flatMap_append]
 simp
def Q4k (cs:List Int):List (List UInt8):=if cs=[] then [[100,101,102,97,117,108,116],[58]] else Q2K cs
def armW (a:List Int×Qk):List (List UInt8):=Q4k a.1++(Q0S a.2++[[59]])
theorem QfS {w0:World} {b L:Nat} {st:PSt} {u:World} (h:Put w0 b L st u) (hw:Pow w0) {bs:List (Nat×Obj)} (hB:∀ p∈bs,w0.heap[p.1]? = some p.2) {cs:List Int} {d:Qk} {sl:Value} (hsl:Q0j bs 2 sl cs.length (cs.map fun n=>Value.int .i64 n)) (hc64:∀ n∈cs,I64 n) (h64:ty64 d.ty)
  (hl:(putS st (armW (cs,d))).1.length≤CAP) :
  Calls Tryz.prog 263 #[.agg (sl :: Q0C d).toArray,putV b L] u (Q1M w0 b L (putS st (armW (cs,d))) u):=by
 obtain ⟨T1,v1,h1⟩:=QG d.ty
 have HB:=Hid.mk (fun u' (st':PSt) (h:Put w0 b L st' u')=>h.held hB)
 have hk:=(Qa.refl [] u).alloc (.cells #[sl,.string ⟨d.t.toArray⟩,.int .i64 d.at',.iface T1 v1] 292)
 have hbx:=Qi (w:=u) (o:=.cells #[sl,.string ⟨d.t.toArray⟩,.int .i64 d.at',.iface T1 v1] 292) rfl
 have hlt:=h.lt
 have hp0:=h.keeps hk
 have HSb:=Hid.mk (fun u' (hs:QT b L (u.alloc (.cells #[sl,.string ⟨d.t.toArray⟩,.int .i64 d.at',.iface T1 v1] 292)) u')=>Q7z hs hbx hlt.1 hlt.2 (by decide))
 /- what stands behind the cases -/
 have VD:=Hid.mk (fun (u':World) (hp:Put w0 b L (putS st (Q4k cs)) u')=>Q5j hp hw d h64 (by rw [Qu];exact Nat.le_trans (Q1c [[59]] (by simp [armW])) hl))
 have VE:=Hid.mk (fun (u':World) (hp:Put w0 b L (putS (putS st (Q4k cs)) (Q0S d)) u')=>QZ hp [[59]] (by rw [Qu,Qu];exact hl))
 have HF:=Hid.mk (show putS (putS (putS st (Q4k cs)) (Q0S d)) [[59]]=putS st (armW (cs,d)) by rw [Qu,Qu];rfl)
 have HLc:=Hid.mk (Nat.le_trans (Q1c (st:=st) (Q0S d++[[59]]) (show armW (cs,d)=Q4k cs++(Q0S d++[[59]]) from rfl)) hl)
 have HK:=Hid.mk hk
 dsimp only [Q0C] at VD ⊢
 rw [h1] at VD ⊢
 clear h hk hB hl hlt hbx
 rcases hsl with ⟨rfl,h0,_⟩ | ⟨g,cap,cur,rfl,⟨hcap,hms⟩,hg,htake⟩
 ·have hnil:cs=[]:=List.length_eq_zero_iff.1 h0
  subst hnil
  have HP0:=Hid.mk hp0
  have VP:=Hid.mk (QZ hp0 [[100,101,102,97,117,108,116],[58]] HLc.out)
  clear hp0
  go_enter Tryz.func263,Tryz.ntmps263
  go_wp2_with fail
  go_loopw [9] (fun i ur=>i = .int .i64 0∧ur=u.alloc (.cells #[.slice none 0 0,.string ⟨d.t.toArray⟩,.int .i64 d.at',.iface T1 v1] 292)) (fun _ _=>0)
  case atStart=>exact ⟨rfl,rfl⟩
  case round=>
   obtain ⟨rfl,rfl⟩:=hrel
   go_wp2_with fail
   refine (VP.out _ _ _ (by simp) rfl rfl (by simp)).mono ?_
   rintro e w2 ⟨rfl,hp2,hs2⟩
   have hb2:=HSb.out _ hs2
   have c1:=Qs (i:=1) hb2 rfl
   have c2:=Qs (i:=2) hb2 rfl
   have c3:=Qs (i:=3) hb2 rfl
   have VD:=Hid.mk (VD.out _ hp2)
   have HS2:=Hid.mk ((QT.of_keeps HK.out).trans hs2)
   clear hp2 hs2 VP hb2
   go_wp2_with fail
   refine VD.out.mono ?_
   rintro e w3 ⟨rfl,hp3,hs3⟩
   have VE:=Hid.mk (VE.out _ hp3)
   have HS3:=Hid.mk (HS2.out.trans hs3)
   clear hp3 hs3 VD c1 c2 c3
   go_wp2_with fail
   refine (VE.out _ _ _ (by simp) rfl rfl (by simp)).mono ?_
   rintro e w4 ⟨rfl,hp4,hs4⟩
   rw [HF.out] at hp4
   have HS4:=Hid.mk (HS3.out.trans hs4)
   have HP4:=Hid.mk hp4
   clear hp4 hs4 VE
   go_wp2
   go_end0
   exact ⟨rfl,HP4.out,HS4.out⟩
 ·have HP0:Hid (Put w0 b L (putS st (Q2K (cs.take 0))) (u.alloc (.cells #[.slice (some ⟨g,0,none⟩) cs.length cap,.string ⟨d.t.toArray⟩,.int .i64 d.at',.iface T1 v1] 292))):=by
   show Put _ _ _ _ _
   rw [List.take_zero,Q2K,List.flatMap_nil,Q8A]
   exact hp0
  clear hp0
  go_enter Tryz.func263,Tryz.ntmps263
  go_wp2_with fail
  go_loopw [9] (fun i ur=>∃ k:Nat,i = .int .i64 k∧k≤cs.length∧Hid (Put w0 b L (putS st (Q2K (cs.take k))) ur)∧Hid (QT b L (u.alloc (.cells #[.slice (some ⟨g,0,none⟩) cs.length cap,.string ⟨d.t.toArray⟩,.int .i64 d.at',.iface T1 v1] 292)) ur)) (fun i _=>cs.length - (RowKit.intOf i).toNat)
  case atStart=>exact ⟨0,rfl,by omega,HP0,QT.refl _ _ _⟩
  case round=>
   obtain ⟨k,rfl,hk,HP,HS⟩:=hrel
   clear HP0
   rcases Nat.lt_or_ge k cs.length with hlt | hge
   ·have hne:cs≠[]:=by intro e;rw [e] at hlt;simp at hlt
    have hcell:wr.cell? ⟨g,k,none⟩=some (.int .i64 cs[k]):=Qn (HB.out _ _ HP.out _ hg) htake (by rw [List.getElem?_map,List.getElem?_eq_getElem hlt];rfl)
    have i0:(0:Int)≤(k:Int):=by omega
    have i1:(k:Int) < (cs.length:Int):=by omega
    have HT:=Hid.mk (Qdb hlt)
    have H6:=hc64 cs[k] (List.getElem_mem hlt)
    have HLk:Hid ((putS st (Q2K (cs.take (k + 1)))).1.length≤CAP):=by
     have e:Q4k cs=Q2K (cs.take (k + 1))++Q2K (cs.drop (k + 1)):=by
      rw [Q4k,if_neg hne]
      unfold Q2K
      rw [← List.flatMap_append,List.take_append_drop]
     exact Nat.le_trans (Q1c _ e) HLc.out
    generalize cs[k]=n at hcell HT H6
    have VN:=Hid.mk (Q1U n H6.1 H6.2 (HP.out.pow hw))
    go_wp2_with fail
    refine VN.out.mono ?_
    rintro e w2 ⟨rfl,hk2⟩
    have VP:=Hid.mk (QZ (HP.out.keeps hk2) [[99,97,115,101],itoa n,[58]] (by rw [Qu,← HT.out];exact HLk.out))
    have HS2:=Hid.mk (HS.out.trans (QT.of_keeps hk2))
    clear hk2 VN
    go_wp2_with fail
    refine (VP.out _ _ _ (by simp) rfl rfl (by simp)).mono ?_
    rintro e w3 ⟨rfl,hp3,hs3⟩
    rw [Qu,← HT.out] at hp3
    have HS3:=Hid.mk (HS2.out.trans hs3)
    have HP3:=Hid.mk hp3
    clear hp3 hs3 VP
    go_wp2
    exact ⟨⟨k + 1,by go_num,by omega,HP3,HS3⟩,by simp [RowKit.intOf];omega⟩
   ·have hkk:k=cs.length:=by omega
    subst hkk
    have hge0:¬ ((cs.length:Int) < (cs.length:Int)):=by omega
    have hb2:=HSb.out _ HS.out
    have c0:=Qs (i:=0) hb2 rfl
    have c1:=Qs (i:=1) hb2 rfl
    have c2:=Qs (i:=2) hb2 rfl
    have c3:=Qs (i:=3) hb2 rfl
    by_cases hz:cs=[]
    ·subst hz
     have hP:=HP.out
     rw [List.take_length] at hP
     have VP:=Hid.mk (QZ (show Put w0 b L st wr by simpa [Q2K,Q8A] using hP) [[100,101,102,97,117,108,116],[58]] HLc.out)
     have HSc:=Hid.mk (fun u' (hs:QT b L wr u')=>HSb.out _ (HS.out.trans hs))
     clear hP hb2
     go_wp2_with fail
     refine (VP.out _ _ _ (by simp) rfl rfl (by simp)).mono ?_
     rintro e w2 ⟨rfl,hp2,hs2⟩
     have hb2:=HSc.out _ hs2
     have d1:=Qs (i:=1) hb2 rfl
     have d2:=Qs (i:=2) hb2 rfl
     have d3:=Qs (i:=3) hb2 rfl
     have VD:=Hid.mk (VD.out _ hp2)
     have HS2:=Hid.mk (((QT.of_keeps HK.out).trans HS.out).trans hs2)
     clear hp2 hs2 VP hb2 c0 c1 c2 c3
     go_wp2_with fail
     refine VD.out.mono ?_
     rintro e w3 ⟨rfl,hp3,hs3⟩
     have VE:=Hid.mk (VE.out _ hp3)
     have HS3:=Hid.mk (HS2.out.trans hs3)
     clear hp3 hs3 VD d1 d2 d3
     go_wp2_with fail
     refine (VE.out _ _ _ (by simp) rfl rfl (by simp)).mono ?_
     rintro e w4 ⟨rfl,hp4,hs4⟩
     rw [HF.out] at hp4
     have HS4:=Hid.mk (HS3.out.trans hs4)
     have HP4:=Hid.mk hp4
     clear hp4 hs4 VE
     go_wp2
     go_end0
     exact ⟨rfl,HP4.out,HS4.out⟩
    ·have hpos:0 < cs.length:=List.length_pos_iff.2 hz
     have z1:((cs.length:Int) == 0)=false:=by simp;omega
     have z2:¬ (cs.length:Int)=0:=by omega
     have hP:=HP.out
     rw [List.take_length,show Q2K cs=Q4k cs by rw [Q4k,if_neg hz]] at hP
     have VD:=Hid.mk (VD.out _ hP)
     have HS2:=Hid.mk ((QT.of_keeps HK.out).trans HS.out)
     clear hP hb2
     go_wp2_with fail
     refine VD.out.mono ?_
     rintro e w3 ⟨rfl,hp3,hs3⟩
     have VE:=Hid.mk (VE.out _ hp3)
     have HS3:=Hid.mk (HS2.out.trans hs3)
     clear hp3 hs3 VD c0 c1 c2 c3
     go_wp2_with fail
     refine (VE.out _ _ _ (by simp) rfl rfl (by simp)).mono ?_
     rintro e w4 ⟨rfl,hp4,hs4⟩
     rw [HF.out] at hp4
     have HS4:=Hid.mk (HS3.out.trans hs4)
     have HP4:=Hid.mk hp4
     clear hp4 hs4 VE
     go_wp2
     go_end0
     exact ⟨rfl,HP4.out,HS4.out⟩
def Q1A (ar:List (List Int×Qk)):List (List UInt8):=ar.flatMap armW
theorem QeH {ar:List (List Int×Qk)} {k:Nat} (hk:k < ar.length):Q1A (ar.take (k + 1))=Q1A (ar.take k)++armW ar[k]:=by
 unfold Q1A
 rw [List.take_succ_eq_append_getElem hk,List.flatMap_append]
 simp
def Q2k (t:List UInt8) (s:Qk):List (List UInt8):=[[117,110,105,111,110],t,[115,119,105,116,99,104],[40]]++(Q0S s++[[41],[123]])
theorem Qdc {w0:World} {b L:Nat} {st:PSt} {u:World} (h:Put w0 b L st u) (hw:Pow w0) {bs:List (Nat×Obj)} (hB:∀ p∈bs,w0.heap[p.1]? = some p.2) {B a:Nat} {t:List UInt8} {s:Qk} {arms:List (List Int×Qk)} (hd:Q0d bs B (.union t a s arms)) (hs64:ty64 s.ty) (h64:∀ m∈arms,ty64 m.2.ty∧∀ n∈m.1,I64 n)
  (hl:(putS st ((Q2k t s++Q1A arms)++[[125],[59]])).1.length≤CAP) :
  Calls Tryz.prog 262 #[.pointer (some ⟨B,0,none⟩),putV b L] u (Q1M w0 b L (putS st ((Q2k t s++Q1A arms)++[[125],[59]])) u):=by
 obtain ⟨sl,cs,hb,hcl,hsl,hcs⟩:=hd
 have k0:u.cell? ⟨B,0,none⟩=some (.string ⟨t.toArray⟩):=Qs (h.held hB _ hb) rfl
 have hle:=Nat.le_trans (Q1c (st:=st) [[125],[59]] (show (Q2k t s++Q1A arms)++[[125],[59]]=(Q2k t s++Q1A arms)++[[125],[59]] from rfl)) hl
 have hlh:=Nat.le_trans (Q1c (st:=st) (Q1A arms) (show Q2k t s++Q1A arms=Q2k t s++Q1A arms from rfl)) hle
 have VP:=Hid.mk (QZ h [[117,110,105,111,110],t,[115,119,105,116,99,104],[40]] (Nat.le_trans (Q1c (st:=st) (Q0S s++[[41],[123]]) (show Q2k t s=[[117,110,105,111,110],t,[115,119,105,116,99,104],[40]]++(Q0S s++[[41],[123]]) from rfl)) hlh))
 obtain ⟨T1,v1,h1⟩:=QG s.ty
 have VD:=Hid.mk (fun (u':World) (hp:Put w0 b L (putS st [[117,110,105,111,110],t,[115,119,105,116,99,104],[40]]) u')=>Q5j hp hw s hs64 (by rw [Qu];exact Nat.le_trans (Q1c [[41],[123]] (by simp [Q2k])) hlh))
 have VE:=Hid.mk (fun (u':World) (hp:Put w0 b L (putS (putS st [[117,110,105,111,110],t,[115,119,105,116,99,104],[40]]) (Q0S s)) u')=>QZ hp [[41],[123]] (by rw [Qu,Qu];exact hlh))
 have HF:=Hid.mk (show putS (putS (putS st [[117,110,105,111,110],t,[115,119,105,116,99,104],[40]]) (Q0S s)) [[41],[123]]=putS st (Q2k t s) by rw [Qu,Qu];rfl)
 dsimp only [Q0C] at VD
 rw [h1] at VD
 have HL:=Hid.mk hl
 have HLe:=Hid.mk hle
 have hB2:=hB
 have HB:=Hid.mk (fun u' (st':PSt) (h:Put w0 b L st' u')=>h.held hB2)
 have HW:=Hid.mk hB
 clear hl hle hlh h hB hB2
 go_enter Tryz.func262,Tryz.ntmps262
 go_wp2_with fail
 refine (VP.out _ _ _ (by simp) rfl rfl (by simp)).mono ?_
 rintro e w1 ⟨rfl,hp1,hs1⟩
 have hb1:=HB.out _ _ hp1 _ hb
 have c2:w1.cell? ⟨B,2,none⟩=some (.string ⟨s.t.toArray⟩):=Qs hb1 rfl
 have c3:w1.cell? ⟨B,3,none⟩=some (.int .i64 s.at'):=Qs hb1 rfl
 have c4:w1.cell? ⟨B,4,none⟩=some (.iface T1 v1):=Qs hb1 (by rw [← h1];rfl)
 have VD:=Hid.mk (VD.out _ hp1)
 have HS1:=Hid.mk hs1
 clear hp1 hs1 VP hb1 k0
 go_wp2_with fail
 refine VD.out.mono ?_
 rintro e w2 ⟨rfl,hp2,hs2⟩
 have VE:=Hid.mk (VE.out _ hp2)
 have HS2:=Hid.mk (HS1.out.trans hs2)
 clear hp2 hs2 VD c2 c3 c4 HS1
 go_wp2_with fail
 refine (VE.out _ _ _ (by simp) rfl rfl (by simp)).mono ?_
 rintro e w3 ⟨rfl,hp3,hs3⟩
 rw [HF.out] at hp3
 have HS3:=Hid.mk (HS2.out.trans hs3)
 have c5:w3.cell? ⟨B,5,none⟩=some sl:=Qs (HB.out _ _ hp3 _ hb) rfl
 rcases hsl with ⟨rfl,h0,_⟩ | ⟨g,cap,cur,rfl,⟨hcap,hms⟩,hg,htake⟩
 ·have hnil:arms=[]:=List.length_eq_zero_iff.1 h0
  subst hnil
  have VP:=Hid.mk (QZ hp3 [[125],[59]] (by rw [Qu];have:=HL.out;simpa [Q1A] using this))
  clear hp3 hs3 VE HS2
  go_wp2_with fail
  go_loopw [28] (fun i ur=>i = .int .i64 0∧ur=w3) (fun _ _=>0)
  case atStart=>exact ⟨rfl,rfl⟩
  case round=>
   obtain ⟨rfl,rfl⟩:=hrel
   go_wp2_with fail
   refine (VP.out _ _ _ (by simp) rfl rfl (by simp)).mono ?_
   rintro e w4 ⟨rfl,hp4,hs4⟩
   rw [Qu] at hp4
   have HS4:=Hid.mk (HS3.out.trans hs4)
   have HP4:Hid (Put w0 b L (putS st ((Q2k t s++Q1A [])++[[125],[59]])) w4):=by
    show Put _ _ _ _ _
    simpa [Q1A] using hp4
   clear hp4 hs4 VP
   go_wp2
   go_end0
   exact ⟨rfl,HP4.out,HS4.out⟩
 ·have HP3:Hid (Put w0 b L (putS st (Q2k t s++Q1A (arms.take 0))) w3):=by
   show Put _ _ _ _ _
   rw [List.take_zero,Q1A,List.flatMap_nil,List.append_nil]
   exact hp3
  clear hp3 hs3 VE HS2
  go_wp2_with fail
  go_loopw [28] (fun i ur=>∃ k:Nat,i = .int .i64 k∧k≤arms.length∧Hid (Put w0 b L (putS st (Q2k t s++Q1A (arms.take k))) ur)∧Hid (QT b L u ur)) (fun i _=>arms.length - (RowKit.intOf i).toNat)
  case atStart=>exact ⟨0,rfl,by omega,HP3,HS3⟩
  case round=>
   obtain ⟨k,rfl,hk,HP,HS⟩:=hrel
   clear HP3 HS3
   rcases Nat.lt_or_ge k arms.length with hlt | hge
   ·have hltc:k < cs.length:=by omega
    have hltz:k < (arms.zip cs).length:=by simp;omega
    have hgb:=HB.out _ _ HP.out _ hg
    have hf:=Q1q (c:=fun p:(List Int×Qk)×Value=>p.2 :: Q0C p.1.2) (n:=4) (fun _=>rfl) (arms.zip cs) k
    have hz:(arms.zip cs)[k]=(arms[k],cs[k]):=List.getElem_zip
    have q0:wr.cell? ⟨g,k * 4,none⟩=some cs[k]:=Qn hgb htake (by have:=hf 0 hltz (by omega);rw [hz] at this;simpa using this)
    have q1:wr.cell? ⟨g,k * 4 + 1,none⟩=some (.string ⟨arms[k].2.t.toArray⟩):=Qn hgb htake (by have:=hf 1 hltz (by omega);rw [hz] at this;simpa using this)
    have q2:wr.cell? ⟨g,k * 4 + 2,none⟩=some (.int .i64 arms[k].2.at'):=Qn hgb htake (by have:=hf 2 hltz (by omega);rw [hz] at this;simpa using this)
    have q3:wr.cell? ⟨g,k * 4 + 3,none⟩=some (tyV arms[k].2.ty):=Qn hgb htake (by have:=hf 3 hltz (by omega);rw [hz] at this;simpa using this)
    have i0:(0:Int)≤(k:Int):=by omega
    have i1:(k:Int) < (arms.length:Int):=by omega
    have HT:=Hid.mk (QeH hlt)
    have h6:=h64 arms[k] (List.getElem_mem hlt)
    have hcs':=hcs k hlt hltc
    have HLk:Hid ((putS st (Q2k t s++Q1A (arms.take (k + 1)))).1.length≤CAP):=by
     have e:Q1A arms=Q1A (arms.take (k + 1))++Q1A (arms.drop (k + 1)):=by
      unfold Q1A
      rw [← List.flatMap_append,List.take_append_drop]
     exact Nat.le_trans (Q1c (Q1A (arms.drop (k + 1))) (by rw [List.append_assoc,← e])) HLe.out
    clear hgb hf hz
    generalize arms[k]=m at q1 q2 q3 HT h6 hcs'
    generalize cs[k]=csl at q0 hcs'
    obtain ⟨md1,md2⟩:=m
    obtain ⟨T2,v2,h2⟩:=QG md2.ty
    have hsv:∃ ad n cp,csl = .slice ad n cp:=by
     rcases hcs' with ⟨e,_⟩ | ⟨_,_,_,e,_⟩
     ·exact ⟨_,_,_,e⟩
     ·exact ⟨_,_,_,e⟩
    obtain ⟨ad,nn,cp,rfl⟩:=hsv
    have hk1:=(Qa.refl [] wr).alloc (.cells #[.slice ad nn cp,.string ⟨md2.t.toArray⟩,.int .i64 md2.at',.iface T2 v2] 292)
    have VA:=QfS (HP.out.keeps hk1) hw HW.out hcs' h6.2 h6.1 (by rw [Qu,List.append_assoc,← HT.out];exact HLk.out)
    dsimp only [Q0C] at VA
    rw [h2] at VA
    simp only at q1 q2 q3
    rw [h2] at q3
    have VA:=Hid.mk VA
    have HK1:=Hid.mk hk1
    clear hk1 hcs' h6
    go_wp2_with fail
    refine VA.out.mono ?_
    rintro e w4 ⟨rfl,hp4,hs4⟩
    rw [Qu,List.append_assoc,← HT.out] at hp4
    have HS4:=Hid.mk ((HS.out.trans (QT.of_keeps HK1.out)).trans hs4)
    have HP4:=Hid.mk hp4
    clear hp4 hs4 VA
    go_wp2
    exact ⟨⟨k + 1,by go_num,by omega,HP4,HS4⟩,by simp [RowKit.intOf];omega⟩
   ·have hkk:k=arms.length:=by omega
    subst hkk
    have hge0:¬ ((arms.length:Int) < (arms.length:Int)):=by omega
    rw [List.take_length] at HP
    have VP:=Hid.mk (QZ HP.out [[125],[59]] (by rw [Qu];exact HL.out))
    go_wp2_with fail
    refine (VP.out _ _ _ (by simp) rfl rfl (by simp)).mono ?_
    rintro e w4 ⟨rfl,hp4,hs4⟩
    rw [Qu] at hp4
    have HS4:=Hid.mk (HS.out.trans hs4)
    have HP4:=Hid.mk hp4
    clear hp4 hs4 VP
    go_wp2
    go_end0
    exact ⟨rfl,HP4.out,HS4.out⟩
def Qb2 (p:Q15):List (List UInt8):=[Q1I p.res,p.t,[40],Q1I p.arg,[41],[61],itoa p.num,[59]]
def Q1a (ps:List Q15):List (List UInt8):=ps.flatMap Qb2
theorem Qdd {ps:List Q15} {k:Nat} (hk:k < ps.length):Q1a (ps.take (k + 1))=Q1a (ps.take k)++Qb2 ps[k]:=by
 unfold Q1a
 rw [List.take_succ_eq_append_getElem hk,List.flatMap_append]
 simp
def verW (v:QN):List (List UInt8):=([[118,101,114,115,105,111,110],v.t,[123]]++Q1a v.procs)++[[125],[61],itoa v.num,[59]]
def QeI (v:QN):Prop:=I64 v.num∧∀ p∈v.procs,I64 p.num
abbrev pvC (q:Q15):List Value:=Q3D q.t q.at'++[tyV q.res,tyV q.arg,.int .i64 q.num]
theorem QaR {w0:World} {b L:Nat} {st:PSt} {u:World} (h:Put w0 b L st u) (hw:Pow w0) {bs:List (Nat×Obj)} (hB:∀ p∈bs,w0.heap[p.1]? = some p.2) {v:QN} {sl:Value} (hsl:Q0j bs 342 sl v.procs.length (v.procs.flatMap pvC)) (h64:QeI v)
  (hl:(putS st (verW v)).1.length≤CAP) :
  Calls Tryz.prog 267 #[.agg #[.string ⟨v.t.toArray⟩,.int .i64 v.at',sl,.int .i64 v.num],putV b L] u (Q1M w0 b L (putS st (verW v)) u):=by
 obtain ⟨t,at',procs,num⟩:=v
 simp only at hsl ⊢
 have HB:=Hid.mk (fun u' (st':PSt) (h:Put w0 b L st' u')=>h.held hB)
 have hk:=(Qa.refl [] u).alloc (.cells #[.string ⟨t.toArray⟩,.int .i64 at',sl,.int .i64 num] 296)
 have hbx:=Qi (w:=u) (o:=.cells #[.string ⟨t.toArray⟩,.int .i64 at',sl,.int .i64 num] 296) rfl
 have hlt:=h.lt
 have hp0:=h.keeps hk
 have HSb:=Hid.mk (fun u' (hs:QT b L (u.alloc (.cells #[.string ⟨t.toArray⟩,.int .i64 at',sl,.int .i64 num] 296)) u')=>Q7z hs hbx hlt.1 hlt.2 (by decide))
 have hle:=Nat.le_trans (Q1c (st:=st) [[125],[61],itoa num,[59]] (show verW ⟨t,at',procs,num⟩=([[118,101,114,115,105,111,110],t,[123]]++Q1a procs)++[[125],[61],itoa num,[59]] from rfl)) hl
 have VP:=Hid.mk (QZ hp0 [[118,101,114,115,105,111,110],t,[123]] (Nat.le_trans (Q1c (Q1a procs) rfl) hle))
 /- the end -/
 have VN:=Hid.mk (fun (u':World) (hp:Put w0 b L (putS st ([[118,101,114,115,105,111,110],t,[123]]++Q1a procs)) u')=>Q1U num h64.1.1 h64.1.2 (hp.pow hw))
 have VE:=Hid.mk (fun (u':World) (hp:Put w0 b L (putS st ([[118,101,114,115,105,111,110],t,[123]]++Q1a procs)) u')=>QZ hp [[125],[61],itoa num,[59]] (by rw [Qu];exact hl))
 have HF:=Hid.mk (show putS (putS st ([[118,101,114,115,105,111,110],t,[123]]++Q1a procs)) [[125],[61],itoa num,[59]]=putS st (verW ⟨t,at',procs,num⟩) by rw [Qu];rfl)
 have HLe:=Hid.mk hle
 have HK:=Hid.mk hk
 have h6p:=h64.2
 simp only at h6p
 have HBl:=Hid.mk hlt
 clear h hk hB hl hle hlt hbx hp0 h64
 rcases hsl with ⟨rfl,h0,_⟩ | ⟨g,cap,cur,rfl,⟨hcap,hms⟩,hg,htake⟩
 ·have hnil:procs=[]:=List.length_eq_zero_iff.1 h0
  subst hnil
  go_enter Tryz.func267,Tryz.ntmps267
  go_wp2_with fail
  refine (VP.out _ _ _ (by simp) rfl rfl (by simp)).mono ?_
  rintro e w1 ⟨rfl,hp1,hs1⟩
  have hb1:=HSb.out _ hs1
  have c2:=Qs (i:=2) hb1 rfl
  have c3:=Qs (i:=3) hb1 rfl
  have hp1':Put w0 b L (putS st ([[118,101,114,115,105,111,110],t,[123]]++Q1a [])) w1:=by simpa [Q1a] using hp1
  have VN:=Hid.mk (VN.out _ hp1')
  have HP1:=Hid.mk hp1'
  have HS1:=Hid.mk ((QT.of_keeps HK.out).trans hs1)
  clear hp1 hp1' hs1 VP hb1
  go_wp2_with fail
  go_loopw [15] (fun i ur=>i = .int .i64 0∧ur=w1) (fun _ _=>0)
  case atStart=>exact ⟨rfl,rfl⟩
  case round=>
   obtain ⟨rfl,rfl⟩:=hrel
   go_wp2_with fail
   refine VN.out.mono ?_
   rintro e w2 ⟨rfl,hk2⟩
   have VE:=Hid.mk (VE.out _ (HP1.out.keeps hk2))
   have HS2:=Hid.mk (HS1.out.trans (QT.of_keeps hk2))
   clear hk2 VN
   go_wp2_with fail
   refine (VE.out _ _ _ (by simp) rfl rfl (by simp)).mono ?_
   rintro e w3 ⟨rfl,hp3,hs3⟩
   rw [HF.out] at hp3
   have HS3:=Hid.mk (HS2.out.trans hs3)
   have HP3:=Hid.mk hp3
   clear hp3 hs3 VE
   go_wp2
   go_end0
   exact ⟨rfl,HP3.out,HS3.out⟩
 ·go_enter Tryz.func267,Tryz.ntmps267
  go_wp2_with fail
  refine (VP.out _ _ _ (by simp) rfl rfl (by simp)).mono ?_
  rintro e w1 ⟨rfl,hp1,hs1⟩
  have hb1:=HSb.out _ hs1
  have c2:=Qs (i:=2) hb1 rfl
  have HP1:Hid (Put w0 b L (putS st ([[118,101,114,115,105,111,110],t,[123]]++Q1a (procs.take 0))) w1):=by
   show Put _ _ _ _ _
   rw [List.take_zero,Q1a,List.flatMap_nil,List.append_nil]
   exact hp1
  have HS1:=Hid.mk hs1
  clear hp1 hs1 VP hb1
  go_wp2_with fail
  go_loopw [15] (fun i ur=>∃ k:Nat,i = .int .i64 k∧k≤procs.length∧Hid (Put w0 b L (putS st ([[118,101,114,115,105,111,110],t,[123]]++Q1a (procs.take k))) ur)∧Hid (QT b L (u.alloc (.cells #[.string ⟨t.toArray⟩,.int .i64 at',.slice (some ⟨g,0,none⟩) procs.length cap,.int .i64 num] 296)) ur)) (fun i _=>procs.length - (RowKit.intOf i).toNat)
  case atStart=>exact ⟨0,rfl,by omega,HP1,HS1⟩
  case round=>
   obtain ⟨k,rfl,hk,HP,HS⟩:=hrel
   clear HP1 HS1 c2
   rcases Nat.lt_or_ge k procs.length with hlt | hge
   ·have hgb:=HB.out _ _ HP.out _ hg
    have hf:=Q1q (c:=pvC) (n:=5) (fun _=>rfl) procs k
    have q0:wr.cell? ⟨g,k * 5,none⟩=some (.string ⟨procs[k].t.toArray⟩):=Qn hgb htake (by have:=hf 0 hlt (by omega);simpa using this)
    have q1:wr.cell? ⟨g,k * 5 + 1,none⟩=some (.int .i64 procs[k].at'):=Qn hgb htake (by have:=hf 1 hlt (by omega);simpa using this)
    have q2:wr.cell? ⟨g,k * 5 + 2,none⟩=some (tyV procs[k].res):=Qn hgb htake (by have:=hf 2 hlt (by omega);simpa using this)
    have q3:wr.cell? ⟨g,k * 5 + 3,none⟩=some (tyV procs[k].arg):=Qn hgb htake (by have:=hf 3 hlt (by omega);simpa using this)
    have q4:wr.cell? ⟨g,k * 5 + 4,none⟩=some (.int .i64 procs[k].num):=Qn hgb htake (by have:=hf 4 hlt (by omega);simpa using this)
    have i0:(0:Int)≤(k:Int):=by omega
    have i1:(k:Int) < (procs.length:Int):=by omega
    have HT:=Hid.mk (Qdd hlt)
    have h6:=h6p procs[k] (List.getElem_mem hlt)
    have HLk:Hid ((putS st ([[118,101,114,115,105,111,110],t,[123]]++Q1a (procs.take (k + 1)))).1.length≤CAP):=by
     have e:Q1a procs=Q1a (procs.take (k + 1))++Q1a (procs.drop (k + 1)):=by
      unfold Q1a
      rw [← List.flatMap_append,List.take_append_drop]
     exact Nat.le_trans (Q1c (Q1a (procs.drop (k + 1))) (by rw [List.append_assoc,← e])) HLe.out
    clear hgb hf
    generalize procs[k]=m at q0 q1 q2 q3 q4 HT h6
    obtain ⟨pt,pat,pres,parg,pnum⟩:=m
    simp only at q0 q1 q2 q3 q4 h6
    obtain ⟨T1,v1,h1⟩:=QG pres
    obtain ⟨T2,v2,h2⟩:=QG parg
    have VR:=fun w=>Q2j pres w
    have VA:=fun w=>Q2j parg w
    simp only [h1] at VR
    simp only [h2] at VA
    rw [h1] at q2
    rw [h2] at q3
    have VR:=Hid.mk VR
    have VA:=Hid.mk VA
    have hk1:=(Qa.refl [] wr).alloc (.cells #[.string ⟨pt.toArray⟩,.int .i64 pat,.iface T1 v1,.iface T2 v2,.int .i64 pnum] 342)
    have g1:=Qi (w:=wr) (o:=.cells #[.string ⟨pt.toArray⟩,.int .i64 pat,.iface T1 v1,.iface T2 v2,.int .i64 pnum] 342) rfl
    have VD:=Hid.mk (fun u' (hk:Qa [] (wr.alloc (.cells #[.string ⟨pt.toArray⟩,.int .i64 pat,.iface T1 v1,.iface T2 v2,.int .i64 pnum] 342)) u')=>Q1U pnum h6.1 h6.2 ((HP.out.keeps (hk1.trans hk)).pow hw))
    have HC:=Hid.mk (fun (u':World) (hk:Qa [] (wr.alloc (.cells #[.string ⟨pt.toArray⟩,.int .i64 pat,.iface T1 v1,.iface T2 v2,.int .i64 pnum] 342)) u')=>(hk.block wr.heap.size (Qc g1) (by simp)).trans g1)
    have HK1:=Hid.mk hk1
    have HG1:=Hid.mk g1
    clear hk1 g1 h6
    go_wp2_with fail
    refine QH (fun w'=>w'.cell? ⟨wr.heap.size,0,none⟩=some (.string ⟨pt.toArray⟩)∧w'.cell? ⟨wr.heap.size,2,none⟩=some (.iface T1 v1)∧w'.cell? ⟨wr.heap.size,3,none⟩=some (.iface T2 v2)∧w'.cell? ⟨wr.heap.size,4,none⟩=some (.int .i64 pnum)) (L:=14) (by kernel_rfl) rfl (by kernel_rfl) (by kernel_rfl) ?_ (fun hHeld=>?_)
    ·exact ⟨Qs HG1.out rfl,Qs HG1.out rfl,Qs HG1.out rfl,Qs HG1.out rfl⟩
    refine tk (i:=0) (v:=?_) rfl (by kernel_rfl) (fun _ _ _ h=>h) (by rfl) (by assumption) ?_ ?_
    rotate_left
    ·intro w hSw;(try dsimp only at hSw);go_simp;(try with_reducible rfl)
    (try simp only [Qd,Qe,List.set])
    refine tk (i:=1) (v:=?_) rfl (by kernel_rfl) (fun _ _ _ h=>h) (by rfl) (by assumption) ?_ ?_
    rotate_left
    ·intro w hSw;(try dsimp only at hSw);go_simp;(try with_reducible rfl)
    (try simp only [Qd,Qe,List.set])
    refine tk (i:=2) (v:=?_) rfl (by kernel_rfl) (fun _ _ _ h=>h) (by rfl) (by assumption) ?_ ?_
    rotate_left
    ·intro w hSw;(try dsimp only at hSw);go_simp;(try with_reducible rfl)
    (try simp only [Qd,Qe,List.set])
    refine tk (i:=4) (v:=?_) rfl (by kernel_rfl) (fun _ _ _ h=>h) (by rfl) (by assumption) ?_ ?_
    rotate_left
    ·intro w hSw;(try dsimp only at hSw);go_simp;(try with_reducible rfl)
    (try simp only [Qd,Qe,List.set])
    refine tk (i:=5) (v:=?_) rfl (by kernel_rfl) (fun _ _ _ h=>h) (by rfl) (by assumption) ?_ ?_
    rotate_left
    ·intro w hSw;(try dsimp only at hSw);go_simp;(try with_reducible rfl)
    (try simp only [Qd,Qe,List.set])
    refine tk (i:=6) (v:=?_) rfl (by kernel_rfl) (fun _ _ _ h=>h) (by rfl) (by assumption) ?_ ?_
    rotate_left
    ·intro w hSw;(try dsimp only at hSw);go_simp;(try with_reducible rfl)
    (try simp only [Qd,Qe,List.set])
    refine tk (i:=7) (v:=?_) rfl (by kernel_rfl) (fun _ _ _ h=>h) (by rfl) (by assumption) ?_ ?_
    rotate_left
    ·intro w hSw;(try dsimp only at hSw);go_simp;(try with_reducible rfl)
    (try simp only [Qd,Qe,List.set])
    refine tk (i:=8) (v:=?_) rfl (by kernel_rfl) (fun _ _ _ h=>h) (by rfl) (by assumption) ?_ ?_
    rotate_left
    ·intro w hSw;(try dsimp only at hSw);go_simp;(try with_reducible rfl)
    (try simp only [Qd,Qe,List.set])
    refine tk (i:=10) (v:=?_) rfl (by kernel_rfl) (fun _ _ _ h=>h) (by rfl) (by assumption) ?_ ?_
    rotate_left
    ·intro w hSw;(try dsimp only at hSw);go_simp;(try with_reducible rfl)
    (try simp only [Qd,Qe,List.set])
    refine tk (i:=11) (v:=?_) rfl (by kernel_rfl) (fun _ _ _ h=>h) (by rfl) (by assumption) ?_ ?_
    rotate_left
    ·intro w hSw;(try dsimp only at hSw);go_simp;(try with_reducible rfl)
    (try simp only [Qd,Qe,List.set])
    refine wpAnyH_ready (rs:=[3]) (by kernel_rfl) (by simp) ?_
    refine AllReadyH.cons rfl (fun K hK=>?_) AllReadyH.nil
    (go_simp;go_at_call 254;refine (VR.out _).mono ?_;rintro e w3 ⟨rfl,hb3⟩;have hk3:=(Qa.refl [] _).drew.trans (Qa.of_below [] hb3);have hc3:=HC.out _ hk3;have y0:=Qs (i:=0) hc3 rfl;have y2:=Qs (i:=2) hc3 rfl;have y3:=Qs (i:=3) hc3 rfl;have y4:=Qs (i:=4) hc3 rfl;have HK3:=Hid.mk hk3;clear hb3 hk3 hc3)
    refine hK.out _ _ ?_ (fun hHeld=>?_)
    ·go_keep
    clear hK K
    (try simp only [Qd,Qe,List.set])
    refine wpAnyH_ready (rs:=[9]) (by kernel_rfl) (by simp) ?_
    refine AllReadyH.cons rfl (fun K hK=>?_) AllReadyH.nil
    (go_simp;go_at_call 254;refine (VA.out _).mono ?_;rintro e w4 ⟨rfl,hb4⟩;have hk4:=HK3.out.trans (Qa.of_below [] hb4);have hc4:=HC.out _ hk4;have y0:=Qs (i:=0) hc4 rfl;have y2:=Qs (i:=2) hc4 rfl;have y3:=Qs (i:=3) hc4 rfl;have y4:=Qs (i:=4) hc4 rfl;have HK4:=Hid.mk hk4;clear hb4 hk4 hc4)
    refine hK.out _ _ ?_ (fun hHeld=>?_)
    ·go_keep
    clear hK K
    (try simp only [Qd,Qe,List.set])
    refine wpAnyH_ready (rs:=[12]) (by kernel_rfl) (by simp) ?_
    refine AllReadyH.cons rfl (fun K hK=>?_) AllReadyH.nil
    (go_simp;go_at_call 247;refine (VD.out _ HK4.out).mono ?_;rintro e w5 ⟨rfl,hk5⟩;have hk5:=HK4.out.trans hk5;have hc5:=HC.out _ hk5;have y0:=Qs (i:=0) hc5 rfl;have y2:=Qs (i:=2) hc5 rfl;have y3:=Qs (i:=3) hc5 rfl;have y4:=Qs (i:=4) hc5 rfl;have HK5:=Hid.mk hk5;clear hk5 hc5)
    refine hK.out _ _ ?_ (fun hHeld=>?_)
    ·go_keep
    clear hK K
    (try simp only [Qd,Qe,List.set])
    refine wpAnyH_ready (rs:=[13]) (by kernel_rfl) (by simp) ?_
    refine AllReadyH.cons rfl (fun K hK=>?_) AllReadyH.nil
    go_simp
    refine hK.out _ _ ?_ (fun hHeld=>?_)
    ·go_keep
    clear hK K
    (try simp only [Qd,Qe,List.set])
    refine wpAnyH_done (by kernel_rfl) ?_ _
    have VQ:=Hid.mk (QZ (HP.out.keeps (HK1.out.trans HK5.out)) [Q1I pres,pt,[40],Q1I parg,[41],[61],itoa pnum,[59]] (by rw [Qu,List.append_assoc];have:=HLk.out;rw [HT.out] at this;exact this))
    refine Q02 rfl (fun K hK=>?_)
    (go_simp;refine (VQ.out _ _ _ (by simp) rfl rfl (by simp)).mono ?_;rintro e w6 ⟨rfl,hp6,hs6⟩;have HS6:=Hid.mk ((HS.out.trans (QT.of_keeps (HK1.out.trans HK5.out))).trans hs6);have HP6:Hid (Put w0 b L (putS st ([[118,101,114,115,105,111,110],t,[123]]++Q1a (procs.take (k + 1)))) w6):=(by have h5:=hp6;rw [Qu,List.append_assoc] at h5;show Put _ _ _ _ _;rw [HT.out];exact h5);clear hp6 hs6)
    refine hK.out _ _ ?_
    clear hK K
    (try simp only [Qd,Qe,List.set])
    clear VQ VR VA VD HC HK1 HG1 HK3 HK4 HK5 q0 q1 q2 q3 q4
    go_wp2
    exact ⟨⟨k + 1,by go_num,by omega,HP6,HS6⟩,by simp [RowKit.intOf];omega⟩
   ·have hkk:k=procs.length:=by omega
    subst hkk
    have hge0:¬ ((procs.length:Int) < (procs.length:Int)):=by omega
    rw [List.take_length] at HP
    have hb2:=HSb.out _ HS.out
    have c3:=Qs (i:=3) hb2 rfl
    have VN:=Hid.mk (VN.out _ HP.out)
    have HS1:=Hid.mk ((QT.of_keeps HK.out).trans HS.out)
    clear hb2
    go_wp2_with fail
    refine VN.out.mono ?_
    rintro e w2 ⟨rfl,hk2⟩
    have VE:=Hid.mk (VE.out _ (HP.out.keeps hk2))
    have HS2:=Hid.mk (HS1.out.trans (QT.of_keeps hk2))
    clear hk2 VN
    go_wp2_with fail
    refine (VE.out _ _ _ (by simp) rfl rfl (by simp)).mono ?_
    rintro e w3 ⟨rfl,hp3,hs3⟩
    rw [HF.out] at hp3
    have HS3:=Hid.mk (HS2.out.trans hs3)
    have HP3:=Hid.mk hp3
    clear hp3 hs3 VE
    go_wp2
    go_end0
    exact ⟨rfl,HP3.out,HS3.out⟩
def Q1D (vs:List QN):List (List UInt8):=vs.flatMap verW
theorem QeJ {vs:List QN} {k:Nat} (hk:k < vs.length):Q1D (vs.take (k + 1))=Q1D (vs.take k)++verW vs[k]:=by
 unfold Q1D
 rw [List.take_succ_eq_append_getElem hk,List.flatMap_append]
 simp
theorem QaS {w0:World} {b L:Nat} {st:PSt} {u:World} (h:Put w0 b L st u) (hw:Pow w0) {bs:List (Nat×Obj)} (hB:∀ p∈bs,w0.heap[p.1]? = some p.2) {B a:Nat} {t:List UInt8} {vs:List QN} {num:Int} (hd:Q0d bs B (.prog t a vs num)) (hn64:I64 num) (h64:∀ m∈vs,QeI m)
  (hl:(putS st (([[112,114,111,103,114,97,109],t,[123]]++Q1D vs)++[[125],[61],itoa num,[59]])).1.length≤CAP) :
  Calls Tryz.prog 266 #[.pointer (some ⟨B,0,none⟩),putV b L] u (Q1M w0 b L (putS st (([[112,114,111,103,114,97,109],t,[123]]++Q1D vs)++[[125],[61],itoa num,[59]])) u):=by
 obtain ⟨sl,cs,hb,hcl,hsl,hcs⟩:=hd
 have k0:u.cell? ⟨B,0,none⟩=some (.string ⟨t.toArray⟩):=Qs (h.held hB _ hb) rfl
 have hle:=Nat.le_trans (Q1c (st:=st) [[125],[61],itoa num,[59]] (show ([[112,114,111,103,114,97,109],t,[123]]++Q1D vs)++[[125],[61],itoa num,[59]]=([[112,114,111,103,114,97,109],t,[123]]++Q1D vs)++[[125],[61],itoa num,[59]] from rfl)) hl
 have VP:=Hid.mk (QZ h [[112,114,111,103,114,97,109],t,[123]] (Nat.le_trans (Q1c (Q1D vs) rfl) hle))
 have VN:=Hid.mk (fun (u':World) (hp:Put w0 b L (putS st ([[112,114,111,103,114,97,109],t,[123]]++Q1D vs)) u')=>Q1U num hn64.1 hn64.2 (hp.pow hw))
 have VE:=Hid.mk (fun (u':World) (hp:Put w0 b L (putS st ([[112,114,111,103,114,97,109],t,[123]]++Q1D vs)) u')=>QZ hp [[125],[61],itoa num,[59]] (by rw [Qu];exact hl))
 have HLe:=Hid.mk hle
 have hB2:=hB
 have HB:=Hid.mk (fun u' (st':PSt) (h:Put w0 b L st' u')=>h.held hB2)
 have HW:=Hid.mk hB
 clear hl hle h hB hB2
 go_enter Tryz.func266,Tryz.ntmps266
 go_wp2_with fail
 refine (VP.out _ _ _ (by simp) rfl rfl (by simp)).mono ?_
 rintro e w3 ⟨rfl,hp3,hs3⟩
 have HS3:=Hid.mk hs3
 have c2:w3.cell? ⟨B,2,none⟩=some sl:=Qs (HB.out _ _ hp3 _ hb) rfl
 rcases hsl with ⟨rfl,h0,_⟩ | ⟨g,cap,cur,rfl,⟨hcap,hms⟩,hg,htake⟩
 ·have hnil:vs=[]:=List.length_eq_zero_iff.1 h0
  subst hnil
  have hp4:Put w0 b L (putS st ([[112,114,111,103,114,97,109],t,[123]]++Q1D [])) w3:=by simpa [Q1D] using hp3
  have c3:w3.cell? ⟨B,3,none⟩=some (.int .i64 num):=Qs (HB.out _ _ hp3 _ hb) rfl
  have VN:=Hid.mk (VN.out _ hp4)
  have HP4:=Hid.mk hp4
  clear hp3 hs3 VP k0 hp4
  go_wp2_with fail
  go_loopw [19] (fun i ur=>i = .int .i64 0∧ur=w3) (fun _ _=>0)
  case atStart=>exact ⟨rfl,rfl⟩
  case round=>
   obtain ⟨rfl,rfl⟩:=hrel
   go_wp2_with fail
   refine VN.out.mono ?_
   rintro e w4 ⟨rfl,hk4⟩
   have VE:=Hid.mk (VE.out _ (HP4.out.keeps hk4))
   have HS4:=Hid.mk (HS3.out.trans (QT.of_keeps hk4))
   clear hk4 VN
   go_wp2_with fail
   refine (VE.out _ _ _ (by simp) rfl rfl (by simp)).mono ?_
   rintro e w5 ⟨rfl,hp5,hs5⟩
   rw [Qu] at hp5
   have HS5:=Hid.mk (HS4.out.trans hs5)
   have HP5:=Hid.mk hp5
   clear hp5 hs5 VE
   go_wp2
   go_end0
   exact ⟨rfl,HP5.out,HS5.out⟩
 ·have HP3:Hid (Put w0 b L (putS st ([[112,114,111,103,114,97,109],t,[123]]++Q1D (vs.take 0))) w3):=by
   show Put _ _ _ _ _
   rw [List.take_zero,Q1D,List.flatMap_nil,List.append_nil]
   exact hp3
  clear hp3 hs3 VP k0
  go_wp2_with fail
  go_loopw [19] (fun i ur=>∃ k:Nat,i = .int .i64 k∧k≤vs.length∧Hid (Put w0 b L (putS st ([[112,114,111,103,114,97,109],t,[123]]++Q1D (vs.take k))) ur)∧Hid (QT b L u ur)) (fun i _=>vs.length - (RowKit.intOf i).toNat)
  case atStart=>exact ⟨0,rfl,by omega,HP3,HS3⟩
  case round=>
   obtain ⟨k,rfl,hk,HP,HS⟩:=hrel
   clear HP3 HS3
   rcases Nat.lt_or_ge k vs.length with hlt | hge
   ·have hltc:k < cs.length:=by omega
    have hltz:k < (vs.zip cs).length:=by simp;omega
    have hgb:=HB.out _ _ HP.out _ hg
    have hf:=Q1q (c:=fun p:QN×Value=>Q3D p.1.t p.1.at'++[p.2,.int .i64 p.1.num]) (n:=4) (fun _=>rfl) (vs.zip cs) k
    have hz:(vs.zip cs)[k]=(vs[k],cs[k]):=List.getElem_zip
    have q0:wr.cell? ⟨g,k * 4,none⟩=some (.string ⟨vs[k].t.toArray⟩):=Qn hgb htake (by have:=hf 0 hltz (by omega);rw [hz] at this;simpa using this)
    have q1:wr.cell? ⟨g,k * 4 + 1,none⟩=some (.int .i64 vs[k].at'):=Qn hgb htake (by have:=hf 1 hltz (by omega);rw [hz] at this;simpa using this)
    have q2:wr.cell? ⟨g,k * 4 + 2,none⟩=some cs[k]:=Qn hgb htake (by have:=hf 2 hltz (by omega);rw [hz] at this;simpa using this)
    have q3:wr.cell? ⟨g,k * 4 + 3,none⟩=some (.int .i64 vs[k].num):=Qn hgb htake (by have:=hf 3 hltz (by omega);rw [hz] at this;simpa using this)
    have i0:(0:Int)≤(k:Int):=by omega
    have i1:(k:Int) < (vs.length:Int):=by omega
    have HT:=Hid.mk (QeJ hlt)
    have h6:=h64 vs[k] (List.getElem_mem hlt)
    have hcs':=hcs k hlt hltc
    have HLk:Hid ((putS st ([[112,114,111,103,114,97,109],t,[123]]++Q1D (vs.take (k + 1)))).1.length≤CAP):=by
     have e:Q1D vs=Q1D (vs.take (k + 1))++Q1D (vs.drop (k + 1)):=by
      unfold Q1D
      rw [← List.flatMap_append,List.take_append_drop]
     exact Nat.le_trans (Q1c (Q1D (vs.drop (k + 1))) (by rw [List.append_assoc,← e])) HLe.out
    clear hgb hf hz
    generalize vs[k]=m at q0 q1 q3 HT h6 hcs'
    generalize cs[k]=csl at q2 hcs'
    have hsv:∃ ad n cp,csl = .slice ad n cp:=by
     rcases hcs' with ⟨e,_⟩ | ⟨_,_,_,e,_⟩
     ·exact ⟨_,_,_,e⟩
     ·exact ⟨_,_,_,e⟩
    obtain ⟨ad,nn,cp,rfl⟩:=hsv
    have hk1:=(Qa.refl [] wr).alloc (.cells #[.string ⟨m.t.toArray⟩,.int .i64 m.at',.slice ad nn cp,.int .i64 m.num] 296)
    have VA:=Hid.mk (QaR (HP.out.keeps hk1) hw HW.out hcs' h6 (by rw [Qu,List.append_assoc,← HT.out];exact HLk.out))
    have HK1:=Hid.mk hk1
    clear hk1 hcs' h6
    go_wp2_with fail
    refine VA.out.mono ?_
    rintro e w4 ⟨rfl,hp4,hs4⟩
    rw [Qu,List.append_assoc,← HT.out] at hp4
    have HS4:=Hid.mk ((HS.out.trans (QT.of_keeps HK1.out)).trans hs4)
    have HP4:=Hid.mk hp4
    clear hp4 hs4 VA
    go_wp2
    exact ⟨⟨k + 1,by go_num,by omega,HP4,HS4⟩,by simp [RowKit.intOf];omega⟩
   ·have hkk:k=vs.length:=by omega
    subst hkk
    have hge0:¬ ((vs.length:Int) < (vs.length:Int)):=by omega
    rw [List.take_length] at HP
    have c3:wr.cell? ⟨B,3,none⟩=some (.int .i64 num):=Qs (HB.out _ _ HP.out _ hb) rfl
    have VN:=Hid.mk (VN.out _ HP.out)
    go_wp2_with fail
    refine VN.out.mono ?_
    rintro e w4 ⟨rfl,hk4⟩
    have VE:=Hid.mk (VE.out _ (HP.out.keeps hk4))
    have HS4:=Hid.mk (HS.out.trans (QT.of_keeps hk4))
    clear hk4 VN
    go_wp2_with fail
    refine (VE.out _ _ _ (by simp) rfl rfl (by simp)).mono ?_
    rintro e w5 ⟨rfl,hp5,hs5⟩
    rw [Qu] at hp5
    have HS5:=Hid.mk (HS4.out.trans hs5)
    have HP5:=Hid.mk hp5
    clear hp5 hs5 VE
    go_wp2
    go_end0
    exact ⟨rfl,HP5.out,HS5.out⟩
def Q4l:DefL→List (List UInt8)
 | .const t _ v=>QbU t v
 | .typedef d=>[[116,121,112,101,100,101,102]]++(Q0S d++[[59]])
 | .enum t _ ms=>([[101,110,117,109],t,[123]]++Q1z ms)++[[125],[59]]
 | .struct t _ ms=>([[115,116,114,117,99,116],t,[123]]++Q12 ms)++[[125],[59]]
 | .union t _ s arms=>(Q2k t s++Q1A arms)++[[125],[59]]
 | .prog t _ vs num=>([[112,114,111,103,114,97,109],t,[123]]++Q1D vs)++[[125],[61],itoa num,[59]]
def Qb3:DefL→Prop
 | .const _ _ v=>I64 v
 | .typedef d=>ty64 d.ty
 | .enum _ _ ms=>∀ m∈ms,I64 m.2.2
 | .struct _ _ ms=>∀ m∈ms,ty64 m.ty
 | .union _ _ s arms=>ty64 s.ty∧∀ m∈arms,ty64 m.2.ty∧∀ n∈m.1,I64 n
 | .prog _ _ vs num=>I64 num∧∀ m∈vs,QeI m
def Q9g:DefL→Nat
 | .const ..=>246
 | .typedef ..=>251
 | .enum ..=>256
 | .struct ..=>259
 | .union ..=>262
 | .prog ..=>266
theorem QfT {w0:World} {b L:Nat} {st:PSt} {u:World} (h:Put w0 b L st u) (hw:Pow w0) {bs:List (Nat×Obj)} (hB:∀ p∈bs,w0.heap[p.1]? = some p.2) {B:Nat} (d:DefL) (hd:Q0d bs B d) (h64:Qb3 d) (hl:(putS st (Q4l d)).1.length≤CAP) :
  Calls Tryz.prog (Q9g d) #[.pointer (some ⟨B,0,none⟩),putV b L] u (Q1M w0 b L (putS st (Q4l d)) u):=by
 cases d with
 | const t a v=>exact Qd9 h hw hB hd h64 hl
 | typedef d=>exact QaQ h hw hB hd h64 hl
 | enum t a ms=>exact QeG h hw hB hd h64 hl
 | struct t a ms=>exact QbV h hw hB hd h64 hl
 | union t a s arms=>exact Qdc h hw hB hd h64.1 h64.2 hl
 | prog t a vs n=>exact QaS h hw hB hd h64.1 h64.2 hl
end Go.Proofs.YtmbcibgknckenaaGreatDoor
namespace Go.Proofs.YtmbcibgknckenaaGreatDoor
open Go.RowKit
open Go.MapKept
structure NumL where
 low:Int
 high:Int
 mem:Option (List Int)
 wide:Bool
inductive Qo where
 | hole
 | call (dest:Nat)
 | ret
 | fin
 | jump (dest:Nat)
 | num (n:NumL)
 | text (n:Int) (f:Bool)
 | struct (n:Int) (f:Bool)
 | array (n:Int) (f:Bool) (dest:Nat)
 | again
 | choice (n:NumL) (ways:List (Int×Nat×Nat)) (other:Option (Nat×Nat))
def mput {κ α:Type} [DecidableEq κ] (l:List (κ×α)) (k:κ) (v:α):List (κ×α):=if k∈l.map (·.1) then l.map fun p=>if p.1=k then (k,v) else p else l++[(k,v)]
theorem QfU {κ α:Type} [DecidableEq κ] (l:List (κ×α)) (k:κ) (v:α):(mput l k v).map (·.1)=if k∈l.map (·.1) then l.map (·.1) else l.map (·.1)++[k]:=by
 unfold mput
 split
 ·rw [List.map_map]
  apply List.map_congr_left
  intro p _
  simp only [Function.comp]
  split
  ·rename_i h;exact h.symm
  ·rfl
 ·simp
theorem Q31 {κ α:Type} [DecidableEq κ] {l:List (κ×α)} (h:(l.map (·.1)).Nodup) (k:κ) (v:α):((mput l k v).map (·.1)).Nodup:=by
 rw [QfU]
 split
 ·exact h
 ·rename_i hk
  rw [List.nodup_append]
  refine ⟨h,by simp,?_⟩
  intro a ha b hb e
  simp at hb
  subst hb
  subst e
  exact hk ha
structure CSt where
 code:List Qo
 bodies:List (List UInt8×Nat)
 enums:List (List UInt8×NumL)
 calls:List (Nat×List UInt8)
def putM (x:Qo) (s:CSt):CSt:={ s with code:=s.code++[x] }
def setM (i:Nat) (x:Qo) (s:CSt):CSt:={ s with code:=s.code.set i x }
def Q2G (n:List UInt8) (s:CSt):CSt:={ s with code:=s.code++[.call 0],calls:=s.calls++[(s.code.length,n)] }
def Q7A (n:List UInt8) (s:CSt):CSt:=putM .fin (Q2G n s)
def QY (k:Nat):NumL:=if k=0 then ⟨-2147483648,2147483647,none,false⟩ else if k=1 then ⟨0,4294967295,none,false⟩ else if k=4 then ⟨0,1,none,false⟩ else ⟨-9223372036854775808,9223372036854775807,none,true⟩
def Flat:Ty→Prop
 | .arr _ _ _=>False
 | .opt _=>False
 | _=>True
def Q13:Ty→Prop
 | .arr o _ _=>Flat o
 | .opt o=>Flat o
 | _=>True
def QQ:Ty→CSt→CSt
 | .named t _,s=>Q2G t s
 | .plain k,s=>putM (.num (QY k)) s
 | .opaq n f,s=>putM (.text n f) s
 | .str n f,s=>putM (.text n f) s
 | .arr o n f,s=>setM s.code.length (.array n f ((QQ o (putM .hole s)).code.length + 1)) (putM .again (QQ o (putM .hole s)))
 | .opt o,s=>setM s.code.length (.choice (QY 4) [(0,(QQ o (putM .hole s)).code.length,0),(1,s.code.length + 1,1)] none) (QQ o (putM .hole s))
 | .void,s=>s
def Q5u:NumL:=⟨0,0,none,false⟩
def Q0x (s:CSt):Ty→NumL
 | .named t _=>(look s.enums t).getD Q5u
 | .plain k=>QY k
 | _=>Q5u
def Q3s:Ty→Bool
 | .void=>true
 | _=>false
def wayM (d:Qk) (s:CSt):Nat×Nat:=(s.code.length,if Q3s d.ty then 0 else 1)
def armM (d:Qk) (s:CSt):CSt:=QQ d.ty s
def Q0H (ms:List (List UInt8×Nat×Int)):NumL:=⟨-2147483648,2147483647,if ms=[] then none else some (ms.map (·.2.2)),false⟩
def Q27 (ms:List Qk) (s:CSt):CSt:=ms.foldl (fun s m=>QQ m.ty s) (putM (.struct ms.length true) s)
structure USt where
 s:CSt
 ways:List (Int×Nat×Nat)
 other:Option (Nat×Nat)
 ends:List Nat
def uArm (q:USt) (a:List Int×Qk):USt:=
 { s:=putM (.jump 0) (armM a.2 q.s),ways:=a.1.foldl (fun l n=>mput l n (wayM a.2 q.s)) q.ways,other:=if a.1=[] then some (wayM a.2 q.s) else q.other,ends:=q.ends++[(armM a.2 q.s).code.length] }
def Q28 (l:List Nat) (s:CSt):CSt:=l.foldl (fun s e=>setM e (.jump s.code.length) s) s
def Q4m (sel:Qk) (arms:List (List Int×Qk)) (s:CSt):CSt:=
 let q:=arms.foldl uArm ⟨putM .hole s,[],none,[]⟩
 Q28 q.ends (setM s.code.length (.choice (Q0x s sel.ty) q.ways q.other) q.s)
def Q32 (n:List UInt8) (at':Nat) (s:CSt):CSt:={ putM .ret s with bodies:=mput s.bodies n at' }
def QX (d:DefL) (s:CSt):CSt:=match d with
 | .typedef d=>Q32 d.t s.code.length (QQ d.ty s)
 | .enum t _ ms=>Q32 t s.code.length (putM (.num (Q0H ms)) { s with enums:=mput s.enums t (Q0H ms) })
 | .struct t _ ms=>Q32 t s.code.length (Q27 ms s)
 | .union t _ sel arms=>Q32 t s.code.length (Q4m sel arms s)
 | _=>s
def Q7W (s:CSt):CSt:=s.calls.foldl (fun s k=>setM k.1 (.call ((look s.bodies k.2).getD 0)) s) s
def st0C:CSt:=⟨[],[],[],[]⟩
def QU (p:CSt×List (List UInt8×Nat)) (d:DefL):CSt×List (List UInt8×Nat):=
 if (look p.1.bodies (Qw d).1).isSome then (Q7A (Qw d).1 p.1,mput p.2 (Qw d).1 p.1.code.length) else p
def startT (t:Ty) (s:CSt):CSt:=putM .fin (QQ t s)
def u32 (n:Int):Int:=n % 4294967296
def Q0Z (q:CSt×List (Int×Nat×Nat)) (p:Q15):CSt×List (Int×Nat×Nat):=
 (startT p.res (startT p.arg q.1),mput q.2 (u32 p.num) (q.1.code.length,(startT p.arg q.1).code.length))
def Q3t (v:QN) (s:CSt):CSt×List (Int×Nat×Nat):=v.procs.foldl Q0Z (s,[])
structure PrgL where
 lo:Int
 hi:Int
 vs:List (Int×List (Int×Nat×Nat))
def Q1W (q:CSt×PrgL) (v:QN):CSt×PrgL:=
 ((Q3t v q.1).1,⟨min q.2.lo (u32 v.num),max q.2.hi (u32 v.num),mput q.2.vs (u32 v.num) (Q3t v q.1).2⟩)
def Q3Z (vs:List QN) (s:CSt):CSt×PrgL:=
 vs.foldl Q1W (s,⟨(vs.head?.map fun v=>u32 v.num).getD 0,(vs.head?.map fun v=>u32 v.num).getD 0,[]⟩)
def Q0g (q:CSt×List (Int×PrgL)) (d:DefL):CSt×List (Int×PrgL):=match d with
 | .prog _ _ vs num=>((Q3Z vs q.1).1,mput q.2 (u32 num) (Q3Z vs q.1).2)
 | _=>q
def QbW (ds:List DefL):CSt×List (List UInt8×Nat):=ds.foldl QU (ds.foldl (fun s d=>QX d s) st0C,[])
def QdQ (ds:List DefL):CSt×List (Int×PrgL):=ds.foldl Q0g ((QbW ds).1,[])
def Q9h (ds:List DefL):List Qo×List (List UInt8×Nat):=((Q7W (QdQ ds).1).code,(QbW ds).2)
def Q3d (l:List (Value×Value)):Obj:=.map (l.mapIdx fun i p=>⟨p.1,p.2,i⟩).toArray l.length
abbrev Q7X (n:Nat):Value:=.int .i64 n
def Q1X (l:List (Int×Nat×Nat)):Obj:=Q3d (l.map fun p=>(.int .i64 p.1,.agg #[.int .i64 p.2.1,.int .i64 p.2.2]))
def Q1g (l:List (List UInt8×Nat)):Obj:=Q3d (l.map fun p=>(.string ⟨p.1.toArray⟩,.int .i64 p.2))
def QeK (bs:List (Nat×Obj)) (v:Value):Option (List Int)→Prop
 | none=>v = .slice none 0 0
 | some l=>l≠[]∧Q0j bs 2 v l.length (l.map fun n=>Value.int .i64 n)
def Q33 (bs:List (Nat×Obj)) (cs:List Value) (n:NumL):Prop:=∃ m,cs=[.int .i64 n.low,.int .i64 n.high,m,.bool n.wide]∧QeK bs m n.mem∧∃ a b c,m = .slice a b c
def Q6A (bs:List (Nat×Obj)) (v:Value):Option (Nat×Nat)→Prop
 | none=>v = .pointer none
 | some q=>∃ b,v = .pointer (some ⟨b,0,none⟩)∧(b,Obj.cells #[.int .i64 q.1,.int .i64 q.2] 323)∈bs
def Q2y (bs:List (Nat×Obj)) (v:Value):Qo→Prop
 | .hole=>∃ T x,v = .iface T x
 | .call dest=>v = .iface 224 (.agg #[.int .i64 dest])
 | .ret=>v = .iface 210 (.agg #[])
 | .fin=>v = .iface 326 (.agg #[])
 | .jump dest=>v = .iface 325 (.agg #[.int .i64 dest])
 | .num n=>∃ cs,v = .iface 200 (.agg cs.toArray)∧Q33 bs cs n
 | .text n f=>v = .iface 308 (.agg #[.int .i64 n,.bool f])
 | .struct n f=>v = .iface 316 (.agg #[.int .i64 n,.bool f])
 | .array n f dest=>v = .iface 345 (.agg #[.int .i64 n,.bool f,.int .i64 dest])
 | .again=>v = .iface 346 (.agg #[])
 | .choice n ws o=>∃ cs m ov,v = .iface 321 (.agg (cs++[.map (some m),ov]).toArray)∧Q33 bs cs n∧(m,Q1X ws)∈bs∧Q6A bs ov o
theorem Q0j.more {bs bs':List (Nat×Obj)} (hb:∀ p∈bs,p∈bs') {e:TypeId} {v:Value} {n:Nat} {xs:List Value} (h:Q0j bs e v n xs):Q0j bs' e v n xs:=by
 rcases h with h | ⟨g,cap,cur,h1,h2,h3,h4⟩
 ·exact Or.inl h
 ·exact Or.inr ⟨g,cap,cur,h1,h2,hb _ h3,h4⟩
theorem Q33.more {bs bs':List (Nat×Obj)} (hb:∀ p∈bs,p∈bs') {cs:List Value} {n:NumL} (h:Q33 bs cs n):Q33 bs' cs n:=by
 obtain ⟨m,h1,h2,h3⟩:=h
 refine ⟨m,h1,?_,h3⟩
 cases hm:n.mem with
 | none=>rw [hm] at h2;exact h2
 | some l=>rw [hm] at h2;exact ⟨h2.1,h2.2.more hb⟩
theorem Q2y.more {bs bs':List (Nat×Obj)} (hb:∀ p∈bs,p∈bs') {v:Value} {x:Qo} (h:Q2y bs v x):Q2y bs' v x:=by
 cases x with
 | num n=>obtain ⟨cs,h1,h2⟩:=h;exact ⟨cs,h1,h2.more hb⟩
 | choice n ws o=>
  obtain ⟨cs,m,ov,h1,h2,h3,h4⟩:=h
  refine ⟨cs,m,ov,h1,h2.more hb,hb _ h3,?_⟩
  cases o with
  | none=>exact h4
  | some q=>obtain ⟨b,h5,h6⟩:=h4;exact ⟨b,h5,hb _ h6⟩
 | _=>exact h
theorem Q2y.iface {bs:List (Nat×Obj)} {v:Value} {x:Qo} (h:Q2y bs v x):∃ T y,v = .iface T y:=by
 cases x with
 | hole=>exact h
 | num n=>obtain ⟨cs,h1,_⟩:=h;exact ⟨_,_,h1⟩
 | choice n ws o=>obtain ⟨cs,m,ov,h1,_⟩:=h;exact ⟨_,_,h1⟩
 | _=>exact ⟨_,_,h⟩
section
variable {P : Program} {w : World}
theorem QgY {T kt et:TypeId} {d:TypeDesc} (ht:P.underlying T=some (.map kt et)) (hd:P.underlying kt=some d) {k:Value} (hk:IsKey d k) (hst:Instr.keyThatStays k k=pure k) {N:Nat} {es:Array MapEntry} {clock:Nat}
  (hb:w.heap[N]? = some (.map es clock)) (hes:∀ x∈es.toList,IsKey d x.key) (hin:∃ x∈es.toList,x.key=k) (v:Value) :
  ∃ (j:Nat) (e:MapEntry),es.toList[j]? = some e∧e.key=k ∧
   (Instr.mapUpdate T (.map (some N)) k v).run P w = .ok () (Q09 w N (.map (es.modify j fun e=>{ e with key:=k,val:=v }) clock)):=by
 have hck:=fun b=>MapKept.run_checkKey (w:=w) hd hk b 9999
 rcases findNow_spec hk es.toList 0 hes with ⟨h1,h2⟩ | ⟨j,e,h1,h2,h3⟩
 ·obtain ⟨x,hx,hxk⟩:=hin
  exact absurd hxk (h2 x hx)
 ·refine ⟨j,e,h2,h3,?_⟩
  have hj:es[j]? = some e:=by simpa using h2
  simp [Instr.mapUpdate,Instr.findKey,run_underlying ht,run_underlying hd,MapKept.run_getObj_map hb,hck,h1,hj,h3,hst,MapKept.run_setObj_map _ hb,Result.andThen]
theorem Q5O (s:ByteArray):Instr.keyThatStays (.string s) (.string s)=pure (.string s):=by
 unfold Instr.keyThatStays
 rw [if_pos (by show (s == s)=true;exact (MapKept.bytes_beq s s).2 rfl)]
theorem QfV (n:Int):Instr.keyThatStays (.int .i64 n) (.int .i64 n)=pure (.int .i64 n):=by
 unfold Instr.keyThatStays
 rw [if_pos (by show ((IntKind.i64 == IntKind.i64) && (n == n))=true;simp)]
theorem Q34 {κ α:Type} [DecidableEq κ] {T kt et:TypeId} {d:TypeDesc} (ht:P.underlying T=some (.map kt et)) (hd:P.underlying kt=some d) (K:κ→Value) (V:α→Value) (hK:∀ k,IsKey d (K k)) (hS:∀ k,Instr.keyThatStays (K k) (K k)=pure (K k)) (hI:∀ a b,K a=K b→a=b)
  {N:Nat} {l:List (κ×α)} (hb:w.heap[N]? = some (Q3d (l.map fun p=>(K p.1,V p.2)))) (nd:(l.map (·.1)).Nodup) (k:κ) (v:α) :
  (Instr.mapUpdate T (.map (some N)) (K k) (V v)).run P w = .ok () (Q09 w N (Q3d ((mput l k v).map fun p=>(K p.1,V p.2)))):=by
 have hes:∀ x∈((l.map fun p=>(K p.1,V p.2)).mapIdx fun i p=>(⟨p.1,p.2,i⟩:MapEntry)).toArray.toList,IsKey d x.key:=by
  intro x hx
  simp only [List.toList_toArray] at hx
  obtain ⟨i,hi,rfl⟩:=List.mem_mapIdx.1 hx
  simp only [List.getElem_map]
  exact hK _
 by_cases hin:k∈l.map (·.1)
 ·obtain ⟨p,hp,hpk⟩:=List.mem_map.1 hin
  obtain ⟨i,hi,rfl⟩:=List.getElem_of_mem hp
  obtain ⟨j,e,g1,g2,hrun⟩:=QgY ht hd (hK k) (hS k) hb hes ⟨⟨K l[i].1,V l[i].2,i⟩,by
    simp only [List.toList_toArray]
    rw [List.mem_mapIdx]
    exact ⟨i,by simpa using hi,by simp⟩,by simp [hpk]⟩ (V v)
  rw [hrun]
  simp only [List.toList_toArray,List.getElem?_mapIdx] at g1
  have hj:j < l.length:=by
   by_cases hj:j < l.length
   ·exact hj
   ·rw [List.getElem?_eq_none (by simp;omega)] at g1
    cases g1
  rw [List.getElem?_eq_getElem (by simpa using hj)] at g1
  simp at g1
  subst g1
  simp only at g2
  have hij:i=j:=by
   have hq:(l.map (·.1))[i]'(by simpa using hi)=(l.map (·.1))[j]'(by simpa using hj):=by simp [hpk,hI _ _ g2]
   exact Q4Y nd _ _ _ _ hq
  subst hij
  refine congrArg (fun o=>Result.ok () (Q09 w N o)) ?_
  unfold Q3d mput
  rw [if_pos hin]
  simp only [List.length_map]
  refine congrArg (fun a=>Obj.map a _) ?_
  apply Array.ext'
  simp only [Array.toList_modify]
  apply List.ext_getElem
  ·simp
  ·intro m hm1 hm2
   have hm:m < l.length:=by simp at hm2;omega
   by_cases hmi:i=m
   ·subst hmi
    simp [List.getElem_modify,hpk]
   ·have hne:¬ l[m].1=k:=fun e=>hmi (Q4Y nd i m (by simpa using hi) (by simpa using hm) (by simp [hpk,e]))
    simp [List.getElem_modify,hmi,hne]
 ·have hrun:=Q7R ht hd (hK k) hb hes (by
   intro x hx e
   simp only [List.toList_toArray] at hx
   obtain ⟨i,hi,rfl⟩:=List.mem_mapIdx.1 hx
   simp only [List.getElem_map] at e
   exact hin (List.mem_map.2 ⟨l[i]'(by simpa using hi),List.getElem_mem _,hI _ _ e⟩)) (V v)
  rw [hrun]
  refine congrArg (fun o=>Result.ok () (Q09 w N o)) ?_
  unfold Q3d mput
  rw [if_neg hin]
  simp [List.mapIdx_append]
def Q0f {κ α:Type} [DecidableEq κ] (l:List (κ×α)) (k:κ):Option α:=(l.find? fun p=>p.1 == k).map (·.2)
theorem QeL {κ α:Type} [DecidableEq κ] {l:List (κ×α)} {k:κ} (h:∀ p∈l,p.1≠k):Q0f l k=none:=by
 unfold Q0f
 rw [List.find?_eq_none.2 (fun p hp=>by simp [h p hp])]
 rfl
theorem QeM {κ α:Type} [DecidableEq κ] {l:List (κ×α)} {k:κ} (hnd:(l.map (·.1)).Nodup) {p:κ×α} (hp:p∈l) (hk:p.1=k):Q0f l k=some p.2:=by
 induction l with
 | nil=>cases hp
 | cons q t ih=>
  unfold Q0f
  simp only [List.map_cons,List.nodup_cons] at hnd
  rcases List.mem_cons.1 hp with rfl | hp
  ·simp [hk]
  ·have hq:q.1≠k:=fun e=>hnd.1 (by rw [e,← hk];exact List.mem_map_of_mem hp)
   have:=ih hnd.2 hp
   unfold Q0f at this
   simp only [List.find?_cons,beq_eq_false_iff_ne.2 hq]
   exact this
theorem Q6M {α:Type} (l:List (List UInt8×α)) (k:List UInt8):look l k=Q0f l k:=by
 unfold look Q0f
 refine congrArg (fun q=>Option.map _ (List.find? q l)) ?_
 funext p
 rw [Bool.eq_iff_iff]
 simp only [beq_iff_eq]
theorem Q6k {κ α:Type} [DecidableEq κ] {T kt et:TypeId} {d:TypeDesc} (ht:P.underlying T=some (.map kt et)) (hd:P.underlying kt=some d) (K:κ→Value) (V:α→Value) (hK:∀ k,IsKey d (K k)) (hI:∀ a b,K a=K b→a=b)
  {N:Nat} {l:List (κ×α)} (hb:w.heap[N]? = some (Q3d (l.map fun p=>(K p.1,V p.2)))) (nd:(l.map (·.1)).Nodup) {z:Value} (hz:(zeroValue et).run P w = .ok z w) (k:κ) (c:Bool) :
  (Instr.lookup T (.map (some N)) (K k) c).run P w = .ok (match Q0f l k with
   | some v=>if c then .tuple #[V v,.bool true] else V v
   | none=>if c then .tuple #[z,.bool false] else z) w:=by
 have hes:∀ x∈((l.map fun p=>(K p.1,V p.2)).mapIdx fun i p=>(⟨p.1,p.2,i⟩:MapEntry)).toArray.toList,IsKey d x.key:=by
  intro x hx
  simp only [List.toList_toArray] at hx
  obtain ⟨i,hi,rfl⟩:=List.mem_mapIdx.1 hx
  simp only [List.getElem_map]
  exact hK _
 rcases Q5B ht hd (hK k) hb hes hz c with ⟨g1,g2⟩ | ⟨j,e,g1,g2,g3⟩
 ·rw [QeL (fun p hp e=>?_),g2]
  obtain ⟨i,hi,rfl⟩:=List.getElem_of_mem hp
  refine g1 ⟨K l[i].1,V l[i].2,i⟩ ?_ (by simp [e])
  simp only [List.toList_toArray]
  rw [List.mem_mapIdx]
  exact ⟨i,by simpa using hi,by simp⟩
 ·simp only [List.toList_toArray,List.getElem?_mapIdx] at g1
  have hj:j < l.length:=by
   by_cases hj:j < l.length
   ·exact hj
   ·rw [List.getElem?_eq_none (by simp;omega)] at g1
    cases g1
  rw [List.getElem?_eq_getElem (by simpa using hj)] at g1
  simp at g1
  subst g1
  simp only at g2 g3
  rw [QeM nd (List.getElem_mem hj) (hI _ _ g2),g3]
end
theorem Q3I (a b:List UInt8) (h:(Value.string ⟨a.toArray⟩) = .string ⟨b.toArray⟩):a=b:=by
 simpa using h
theorem QhQ (a b:Int) (h:(Value.int .i64 a) = .int .i64 b):a=b:=by
 simpa using h
structure Own (w:World) (own:List Nat) (Fr bs:List (Nat×Obj)) (u:World):Prop where
 kp:Qa [] w u
 new:∀ y∈own,w.heap.size≤y
 lt:∀ y∈own,y < u.heap.size
 nd:own.Nodup
 hf:Held own Fr u
 hb:Held own bs u
 fnd:(Fr.map (·.1)).Nodup
 fnew:∀ p∈Fr,w.heap.size≤p.1
 sep:∀ p∈Fr,∀ q∈bs,p.1≠q.1
section
variable {w u u' : World} {own : List Nat} {Fr bs : List (Nat × Obj)}
theorem Own.turn {M:List Nat} (h:Own w own Fr bs u) (hk:Qa M u u') (hM:∀ m∈M,m∈own):Own w own Fr bs u':=
 ⟨h.kp.young hk (fun m hm=>Or.inr (h.new m (hM m hm))),h.new,fun y hy=>Nat.lt_of_lt_of_le (h.lt y hy) hk.size,h.nd,h.hf.keeps hk hM,h.hb.keeps hk hM,h.fnd,h.fnew,h.sep⟩
theorem Own.below (h:Own w own Fr bs u) (hb:Below u.heap.size u u'):Own w own Fr bs u':=h.turn (Qa.of_below [] hb) (by simp)
theorem Own.grow {A B:List Nat} {r:Option Nat} {g:Nat} (h:Own w (A++(r.toList++B)) Fr bs u) (hg:u.grownBy u' r) (hat:r=some g∨g=u.heap.size) (hlt:g < u'.heap.size) (hw:w.heap.size≤g):Own w (A++([g]++B)) Fr bs u':=by
 have hk:=Q0t hg
 have h1:=h.turn hk (fun m hm=>List.mem_append_right _ (List.mem_append_left _ hm))
 have sub:∀ y∈A++([g]++B),y=g∨y∈A++(r.toList++B):=by
  intro y hy
  simp only [List.mem_append,List.mem_singleton] at hy ⊢
  rcases hy with hy | rfl | hy
  ·exact Or.inr (Or.inl hy)
  ·exact Or.inl rfl
  ·exact Or.inr (Or.inr (Or.inr hy))
 have hout:∀ fs:List (Nat×Obj),Held (A++(r.toList++B)) fs u→∀ p∈fs,p.1 ∉ A++([g]++B):=by
  intro fs hfs p hp hm
  rcases sub _ hm with e | hm
  ·rcases hat with hr | hr
   ·exact (hfs p hp).2 (by rw [e,hr];simp)
   ·have:=Qc (hfs p hp).1
    omega
  ·exact (hfs p hp).2 hm
 refine ⟨h1.kp,?_,?_,?_,fun p hp=>⟨(h1.hf p hp).1,hout _ h.hf p hp⟩,fun p hp=>⟨(h1.hb p hp).1,hout _ h.hb p hp⟩,h.fnd,h.fnew,h.sep⟩
 ·intro y hy
  rcases sub y hy with rfl | hy
  ·exact hw
  ·exact h.new y hy
 ·intro y hy
  rcases sub y hy with rfl | hy
  ·exact hlt
  ·exact h1.lt y hy
 ·rcases hat with rfl | rfl
  ·exact h.nd
  ·have hA:∀ y∈A,y < u.heap.size:=fun y hy=>h.lt y (List.mem_append_left _ hy)
   have hB:∀ y∈B,y < u.heap.size:=fun y hy=>h.lt y (List.mem_append_right _ (List.mem_append_right _ hy))
   have hn:=h.nd
   rw [List.nodup_append] at hn ⊢
   obtain ⟨n1,n2,n3⟩:=hn
   rw [List.nodup_append] at n2
   refine ⟨n1,?_,?_⟩
   ·rw [List.nodup_append]
    refine ⟨by simp,n2.2.1,?_⟩
    intro a ha b hb e
    simp at ha
    have:=hB b hb
    omega
   ·intro a ha b hb e
    rcases List.mem_append.1 hb with hb | hb
    ·simp at hb
     have:=hA a ha
     omega
    ·exact n3 a ha b (List.mem_append_right _ hb) e
theorem Own.alloc (h:Own w own Fr bs u) (o:Obj):Own w own ((u.heap.size,o) :: Fr) bs (u.alloc o):=by
 have h1:=h.turn ((Qa.refl [] u).alloc o) (by simp)
 refine ⟨h1.kp,h.new,h1.lt,h.nd,?_,h1.hb,?_,?_,?_⟩
 ·intro p hp
  rcases List.mem_cons.1 hp with rfl | hp
  ·exact ⟨Qi rfl,fun hm=>by have:=h.lt _ hm;simp at this⟩
  ·exact h1.hf p hp
 ·simp only [List.map_cons,List.nodup_cons]
  refine ⟨?_,h.fnd⟩
  intro hm
  obtain ⟨p,hp,e⟩:=List.mem_map.1 hm
  have:=Qc (h.hf p hp).1
  omega
 ·intro p hp
  rcases List.mem_cons.1 hp with rfl | hp
  ·exact h.kp.size
  ·exact h.fnew p hp
 ·intro p hp q hq
  rcases List.mem_cons.1 hp with rfl | hp
  ·have:=Qc (h.hb q hq).1
   simp only
   omega
  ·exact h.sep p hp q hq
theorem Own.setFr {m:Nat} {o o':Obj} (h:Own w own ((m,o) :: Fr) bs u) (hk:Qa [m] u u') (ho:u'.heap[m]? = some o'):Own w own ((m,o') :: Fr) bs u':=by
 have hm:w.heap.size≤m:=h.fnew (m,o) (by simp)
 have hn:=h.fnd
 simp only [List.map_cons,List.nodup_cons] at hn
 have hmo:m ∉ own:=(h.hf (m,o) (by simp)).2
 refine ⟨h.kp.young hk (by simpa using hm),h.new,fun y hy=>Nat.lt_of_lt_of_le (h.lt y hy) hk.size,h.nd,?_,?_,h.fnd,?_,?_⟩
 ·intro p hp
  rcases List.mem_cons.1 hp with rfl | hp
  ·exact ⟨ho,hmo⟩
  ·obtain ⟨h1,h2⟩:=h.hf p (List.mem_cons_of_mem _ hp)
   exact ⟨(hk.block _ (Qc h1) (by simp;exact fun e=>hn.1 (e ▸ List.mem_map_of_mem hp))).trans h1,h2⟩
 ·intro q hq
  obtain ⟨h1,h2⟩:=h.hb q hq
  exact ⟨(hk.block _ (Qc h1) (by simp;exact fun e=>h.sep (m,o) (by simp) q hq e.symm)).trans h1,h2⟩
 ·intro p hp
  rcases List.mem_cons.1 hp with rfl | hp
  ·exact hm
  ·exact h.fnew p (List.mem_cons_of_mem _ hp)
 ·intro p hp q hq
  rcases List.mem_cons.1 hp with rfl | hp
  ·exact h.sep (m,o) (by simp) q hq
  ·exact h.sep p (List.mem_cons_of_mem _ hp) q hq
theorem Own.give {m:Nat} {o:Obj} (h:Own w own ((m,o) :: Fr) bs u):Own w own Fr ((m,o) :: bs) u:=by
 have hn:=h.fnd
 simp only [List.map_cons,List.nodup_cons] at hn
 refine ⟨h.kp,h.new,h.lt,h.nd,fun p hp=>h.hf p (List.mem_cons_of_mem _ hp),?_,hn.2,fun p hp=>h.fnew p (List.mem_cons_of_mem _ hp),?_⟩
 ·intro p hp
  rcases List.mem_cons.1 hp with rfl | hp
  ·exact h.hf _ (by simp)
  ·exact h.hb p hp
 ·intro p hp q hq
  rcases List.mem_cons.1 hq with rfl | hq
  ·intro e
   simp only at e
   exact hn.1 (by rw [← e];exact List.mem_map_of_mem hp)
  ·exact h.sep p (List.mem_cons_of_mem _ hp) q hq
theorem Own.sub {Fr':List (Nat×Obj)} (h:Own w own Fr bs u) (hs:∀ p∈Fr',p∈Fr) (hn:(Fr'.map (·.1)).Nodup):Own w own Fr' bs u:=
 ⟨h.kp,h.new,h.lt,h.nd,fun p hp=>h.hf p (hs p hp),h.hb,hn,fun p hp=>h.fnew p (hs p hp),fun p hp=>h.sep p (hs p hp)⟩
theorem Own.tail {p:Nat×Obj} (h:Own w own (p :: Fr) bs u):Own w own Fr bs u:=h.sub (fun _ hq=>List.mem_cons_of_mem _ hq) (List.nodup_cons.1 h.fnd).2
end
theorem Q8B {κ α β:Type} [DecidableEq κ] (f:α→β) (l:List (κ×α)) (k:κ) (v:α):(mput l k v).map (fun p=>(p.1,f p.2))=mput (l.map fun p=>(p.1,f p.2)) k (f v):=by
 have e1:(l.map fun p=>(p.1,f p.2)).map (·.1)=l.map (·.1):=by rw [List.map_map];rfl
 unfold mput
 rw [e1]
 split
 ·rw [List.map_map,List.map_map]
  apply List.map_congr_left
  intro p _
  simp only [Function.comp]
  split<;>rfl
 ·simp
theorem Q8C {κ α:Type} [DecidableEq κ] {l:List (κ×α)} {k:κ} {v:α} {p:κ×α} (h:p∈mput l k v):p∈l∨p=(k,v):=by
 unfold mput at h
 split at h
 ·obtain ⟨q,hq,rfl⟩:=List.mem_map.1 h
  split
  ·exact Or.inr rfl
  ·exact Or.inl hq
 ·rcases List.mem_append.1 h with h | h
  ·exact Or.inl h
  ·exact Or.inr (by simpa using h)
theorem QfW {κ α:Type} [DecidableEq κ] {l:List (κ×α)} {k:κ} {v:α} (h:Q0f l k=some v):∃ p∈l,p.1=k∧p.2=v:=by
 unfold Q0f at h
 rw [Option.map_eq_some_iff] at h
 obtain ⟨p,hp,rfl⟩:=h
 exact ⟨p,List.mem_of_find?_eq_some hp,by simpa using List.find?_some hp,rfl⟩
structure CAd where
 C:Nat
 B:Nat
 E:Nat
def ownC (a:CAd) (sl ks:Value):List Nat:=[a.C,a.B,a.E]++(sl.ownBlock.toList++ks.ownBlock.toList)
abbrev Q4n (k:Nat×List UInt8):List Value:=[.int .i64 k.1,.string ⟨k.2.toArray⟩]
def NumV (bs:List (Nat×Obj)) (v:Value) (n:NumL):Prop:=∃ cs,v = .agg cs.toArray∧Q33 bs cs n
structure Cp (w:World) (a:CAd) (Fr bs:List (Nat×Obj)) (s:CSt) (sl ks:Value) (cv:List (Qo×Value)) (et:List (List UInt8×NumL×Value)) (u:World):Prop where
 own:Own w (ownC a sl ks) Fr bs u
 box:u.heap[a.C]? = some (.cells #[sl,.map (some a.B),.map (some a.E),ks] 123)
 bod:u.heap[a.B]? = some (Q1g s.bodies)
 bnp:(s.bodies.map (·.1)).Nodup
 enu:u.heap[a.E]? = some (Q3d (et.map fun p=>(.string ⟨p.1.toArray⟩,p.2.2)))
 enp:(et.map (·.1)).Nodup
 enl:s.enums=et.map fun p=>(p.1,p.2.1)
 ens:∀ p∈et,NumV bs p.2.2 p.2.1
 row:u.ownsRow w.heap.size 226 1 sl s.code.length (cv.map (·.2))
 cod:s.code=cv.map (·.1)
 steps:∀ p∈cv,Q2y bs p.2 p.1
 kro:u.ownsRow w.heap.size 222 2 ks s.calls.length (s.calls.flatMap Q4n)
def Qy (w:World) (a:CAd) (Fr bs:List (Nat×Obj)) (s:CSt) (u:World):Prop:=∃ bs' sl ks cv et,(∀ p∈bs,p∈bs')∧Cp w a Fr bs' s sl ks cv et u
section
variable {w u u' : World} {a : CAd} {Fr bs : List (Nat × Obj)} {s : CSt} {sl ks : Value} {cv : List (Qo × Value)} {et : List (List UInt8 × NumL × Value)}
theorem Cp.gives (h:Cp w a Fr bs s sl ks cv et u):Qy w a Fr bs s u:=⟨bs,sl,ks,cv,et,fun _ hp=>hp,h⟩
theorem QgZ (a:CAd) (sl ks:Value):a.C∈ownC a sl ks∧a.B∈ownC a sl ks∧a.E∈ownC a sl ks∧(∀ g,sl.ownBlock=some g→g∈ownC a sl ks)∧(∀ g,ks.ownBlock=some g→g∈ownC a sl ks):=by
 unfold ownC
 refine ⟨by simp,by simp,by simp,?_,?_⟩<;>(intro g hg;simp [hg])
theorem Cp.distinct (h:Cp w a Fr bs s sl ks cv et u):a.C≠a.B∧a.C≠a.E∧a.B≠a.E∧(∀ g,sl.ownBlock=some g→g≠a.C∧g≠a.B∧g≠a.E)∧(∀ g,ks.ownBlock=some g→g≠a.C∧g≠a.B∧g≠a.E∧sl.ownBlock≠some g):=by
 have hn:=h.own.nd
 unfold ownC at hn
 rw [List.nodup_append,List.nodup_append] at hn
 obtain ⟨n1,⟨n2,n3,n4⟩,n5⟩:=hn
 simp only [List.nodup_cons,List.mem_cons,List.not_mem_nil,not_or,or_false] at n1
 refine ⟨n1.1.1,n1.1.2,n1.2.1,?_,?_⟩
 ·intro g hg
  refine ⟨fun e=>n5 a.C (by simp) g (by simp [hg]) e.symm,fun e=>n5 a.B (by simp) g (by simp [hg]) e.symm,fun e=>n5 a.E (by simp) g (by simp [hg]) e.symm⟩
 ·intro g hg
  refine ⟨fun e=>n5 a.C (by simp) g (by simp [hg]) e.symm,fun e=>n5 a.B (by simp) g (by simp [hg]) e.symm,fun e=>n5 a.E (by simp) g (by simp [hg]) e.symm,fun e=>n4 g (by simp [e]) g (by simp [hg]) rfl⟩
theorem Cp.beside {M:List Nat} {Fr' bs':List (Nat×Obj)} (h:Cp w a Fr bs s sl ks cv et u) (hk:Qa M u u') (hM:∀ m∈M,m ∉ ownC a sl ks) (hb:∀ p∈bs,p∈bs') (ho:Own w (ownC a sl ks) Fr' bs' u'):Cp w a Fr' bs' s sl ks cv et u':=by
 obtain ⟨o1,o2,o3,o4,o5⟩:=QgZ a sl ks
 refine ⟨ho,(hk.block _ (Qc h.box) (fun hm=>hM _ hm o1)).trans h.box,(hk.block _ (Qc h.bod) (fun hm=>hM _ hm o2)).trans h.bod,h.bnp,(hk.block _ (Qc h.enu) (fun hm=>hM _ hm o3)).trans h.enu,h.enp,h.enl,
  fun p hp=>?_,Qx h.row hk (fun g hg hm=>hM _ hm (o4 g hg)),h.cod,fun p hp=>(h.steps p hp).more hb,Qx h.kro hk (fun g hg hm=>hM _ hm (o5 g hg))⟩
 obtain ⟨cs,h1,h2⟩:=h.ens p hp
 exact ⟨cs,h1,h2.more hb⟩
theorem Cp.below (h:Cp w a Fr bs s sl ks cv et u) (hb:Below u.heap.size u u'):Cp w a Fr bs s sl ks cv et u':=h.beside (Qa.of_below [] hb) (by simp) (fun _ hp=>hp) (h.own.below hb)
theorem Cp.alloc (h:Cp w a Fr bs s sl ks cv et u) (o:Obj):Cp w a ((u.heap.size,o) :: Fr) bs s sl ks cv et (u.alloc o):=h.beside ((Qa.refl [] u).alloc o) (by simp) (fun _ hp=>hp) (h.own.alloc o)
theorem Cp.setFr {m:Nat} {o o':Obj} (h:Cp w a ((m,o) :: Fr) bs s sl ks cv et u) (hk:Qa [m] u u') (ho:u'.heap[m]? = some o'):Cp w a ((m,o') :: Fr) bs s sl ks cv et u':=
 h.beside hk (by simpa using (h.own.hf (m,o) (by simp)).2) (fun _ hp=>hp) (h.own.setFr hk ho)
theorem Cp.give {m:Nat} {o:Obj} (h:Cp w a ((m,o) :: Fr) bs s sl ks cv et u):Cp w a Fr ((m,o) :: bs) s sl ks cv et u:=h.beside (Qa.refl [] u) (by simp) (fun _ hp=>List.mem_cons_of_mem _ hp) h.own.give
theorem Cp.tail {p:Nat×Obj} (h:Cp w a (p :: Fr) bs s sl ks cv et u):Cp w a Fr bs s sl ks cv et u:=h.beside (Qa.refl [] u) (by simp) (fun _ hp=>hp) h.own.tail
theorem Cp.sub {Fr':List (Nat×Obj)} (h:Cp w a Fr bs s sl ks cv et u) (hs:∀ p∈Fr',p∈Fr) (hn:(Fr'.map (·.1)).Nodup):Cp w a Fr' bs s sl ks cv et u:=h.beside (Qa.refl [] u) (by simp) (fun _ hp=>hp) (h.own.sub hs hn)
theorem Cp.slice (h:Cp w a Fr bs s sl ks cv et u):∃ ad cap,sl = .slice ad s.code.length cap:=by
 rcases h.row.2 with ⟨rfl,h0⟩ | ⟨g,cap,cur,rfl,_⟩
 ·exact ⟨none,0,by rw [h0]⟩
 ·exact ⟨_,_,rfl⟩
theorem Cp.kslice (h:Cp w a Fr bs s sl ks cv et u):∃ ad cap,ks = .slice ad s.calls.length cap:=by
 rcases h.kro.2 with ⟨rfl,h0⟩ | ⟨g,cap,cur,rfl,_⟩
 ·exact ⟨none,0,by rw [h0]⟩
 ·exact ⟨_,_,rfl⟩
theorem Cp.cells (h:Cp w a Fr bs s sl ks cv et u):u.cell? ⟨a.C,0,none⟩=some sl∧u.cell? ⟨a.C,1,none⟩=some (.map (some a.B))∧u.cell? ⟨a.C,2,none⟩=some (.map (some a.E))∧u.cell? ⟨a.C,3,none⟩=some ks∧(∀ i,u.frozen? ⟨a.C,i,none⟩=false)∧a.C < u.heap.size:=by
 refine ⟨?_,?_,?_,?_,?_,Qc h.box⟩<;>simp [World.cell?,World.frozen?,h.box]
theorem Cp.putCode {u2 u3:World} {g cap:Nat} {x:Qo} {v:Value} (h:Cp w a Fr bs s sl ks cv et u) (hx:Q2y bs v x) (hb:Below u.heap.size u u2)
  (hown:u3.ownsRow w.heap.size 226 1 (.slice (some ⟨g,0,none⟩) (s.code.length + 1) cap) (s.code.length + 1) (cv.map (·.2)++[v]))
  (hg:u2.grownBy u3 sl.ownBlock) (hat:sl.ownBlock=some g∨g=u2.heap.size) (hlt:g < u3.heap.size) :
  Cp w a Fr bs (putM x s) (.slice (some ⟨g,0,none⟩) (s.code.length + 1) cap) ks (cv++[(x,v)]) et (u3.setCell ⟨a.C,0,none⟩ (.slice (some ⟨g,0,none⟩) (s.code.length + 1) cap)):=by
 obtain ⟨hwg,_⟩:=Q2p hown (g:=g) rfl
 have e2:=h.below hb
 obtain ⟨d1,d2,d3,d4,d5⟩:=h.distinct
 have ho:Own w (ownC a (.slice (some ⟨g,0,none⟩) (s.code.length + 1) cap) ks) Fr bs u3:=Own.grow (A:=[a.C,a.B,a.E]) (B:=ks.ownBlock.toList) e2.own hg hat hlt hwg
 have hks:Qa [a.C] u3 (u3.setCell ⟨a.C,0,none⟩ (.slice (some ⟨g,0,none⟩) (s.code.length + 1) cap)):=(Qa.refl [a.C] u3).setIn (by simp) _
 have hkg:=Q0t hg
 have rl:∀ b,b=a.C∨b=a.B∨b=a.E→b ∉ sl.ownBlock.toList:=by
  intro b hb hm
  have:=d4 b (by simpa using hm)
  omega
 have rk:∀ b,ks.ownBlock=some b→b ∉ sl.ownBlock.toList:=by
  intro b hb hm
  exact (d5 b hb).2.2.2 (by simpa using hm)
 have ng:g≠a.C:=by
  have:=ho.nd
  simp [ownC,Value.ownBlock] at this
  omega
 refine ⟨ho.turn hks (by simp [ownC]),QB (i:=0) ((hkg.block _ (Qc e2.box) (rl _ (Or.inl rfl))).trans e2.box) _,?_,h.bnp,?_,h.enp,h.enl,h.ens,?_,?_,?_,?_⟩
 ·exact (hks.block _ (by have:=Qc e2.bod;have:=hg.size;omega) (by simp;omega)).trans ((hkg.block _ (Qc e2.bod) (rl _ (Or.inr (Or.inl rfl)))).trans e2.bod)
 ·exact (hks.block _ (by have:=Qc e2.enu;have:=hg.size;omega) (by simp;omega)).trans ((hkg.block _ (Qc e2.enu) (rl _ (Or.inr (Or.inr rfl)))).trans e2.enu)
 ·have:=Qx hown hks (by
   intro g' h'
   simp only [Value.ownBlock,Option.some.injEq] at h'
   subst h'
   simpa using ng)
  simpa [putM] using this
 ·simp [putM,h.cod]
 ·intro p hp
  rcases List.mem_append.1 hp with hp | hp
  ·exact h.steps p hp
  ·simp only [List.mem_singleton] at hp
   subst hp
   exact hx
 ·exact Qx (Qx e2.kro hkg rk) hks (fun g' h'=>by simpa using (d5 g' h').1)
theorem Cp.putCall {u2 u3:World} {g cap:Nat} {k:Nat×List UInt8} (h:Cp w a Fr bs s sl ks cv et u) (hb:Below u.heap.size u u2)
  (hown:u3.ownsRow w.heap.size 222 2 (.slice (some ⟨g,0,none⟩) (s.calls.length + 1) cap) (s.calls.length + 1) (s.calls.flatMap Q4n++Q4n k))
  (hg:u2.grownBy u3 ks.ownBlock) (hat:ks.ownBlock=some g∨g=u2.heap.size) (hlt:g < u3.heap.size) :
  Cp w a Fr bs { s with calls:=s.calls++[k] } sl (.slice (some ⟨g,0,none⟩) (s.calls.length + 1) cap) cv et (u3.setCell ⟨a.C,3,none⟩ (.slice (some ⟨g,0,none⟩) (s.calls.length + 1) cap)):=by
 obtain ⟨hwg,_⟩:=Q2p hown (g:=g) rfl
 have e2:=h.below hb
 obtain ⟨d1,d2,d3,d4,d5⟩:=h.distinct
 have ho:Own w (ownC a sl (.slice (some ⟨g,0,none⟩) (s.calls.length + 1) cap)) Fr bs u3:=by
  have h1:=Own.grow (A:=[a.C,a.B,a.E]++sl.ownBlock.toList) (B:=[]) (r:=ks.ownBlock) (by simpa [ownC,List.append_assoc] using e2.own) hg hat hlt hwg
  simpa [ownC,Value.ownBlock,List.append_assoc] using h1
 have hks:Qa [a.C] u3 (u3.setCell ⟨a.C,3,none⟩ (.slice (some ⟨g,0,none⟩) (s.calls.length + 1) cap)):=(Qa.refl [a.C] u3).setIn (by simp) _
 have hkg:=Q0t hg
 have rl:∀ b,b=a.C∨b=a.B∨b=a.E→b ∉ ks.ownBlock.toList:=by
  intro b hb hm
  have:=d5 b (by simpa using hm)
  omega
 have rk:∀ b,sl.ownBlock=some b→b ∉ ks.ownBlock.toList:=by
  intro b hb hm
  exact (d5 b (by simpa using hm)).2.2.2 hb
 have ng:g≠a.C:=by
  rcases hat with hr | hr
  ·exact (d5 g hr).1
  ·have:=Qc e2.box
   omega
 refine ⟨ho.turn hks (by simp [ownC]),QB (i:=3) ((hkg.block _ (Qc e2.box) (rl _ (Or.inl rfl))).trans e2.box) _,?_,h.bnp,?_,h.enp,h.enl,h.ens,?_,h.cod,h.steps,?_⟩
 ·exact (hks.block _ (by have:=Qc e2.bod;have:=hg.size;omega) (by simp;omega)).trans ((hkg.block _ (Qc e2.bod) (rl _ (Or.inr (Or.inl rfl)))).trans e2.bod)
 ·exact (hks.block _ (by have:=Qc e2.enu;have:=hg.size;omega) (by simp;omega)).trans ((hkg.block _ (Qc e2.enu) (rl _ (Or.inr (Or.inr rfl)))).trans e2.enu)
 ·exact Qx (Qx e2.row hkg rk) hks (fun g' h'=>by simpa using (d4 g' h').1)
 ·have:=Qx hown hks (by
   intro g' h'
   simp only [Value.ownBlock,Option.some.injEq] at h'
   subst h'
   simpa using ng)
  simpa using this
theorem Cp.setCode {i:Nat} {x:Qo} {v:Value} (h:Cp w a Fr bs s sl ks cv et u) (hx:Q2y bs v x) (hi:i < s.code.length) :
  ∃ g cap,sl = .slice (some ⟨g,0,none⟩) s.code.length cap∧s.code.length≤cap∧u.frozen? ⟨g,i,none⟩=false∧(∃ y,u.cell? ⟨g,i,none⟩=some y)∧g < u.heap.size∧Cp w a Fr bs (setM i x s) sl ks (cv.set i (x,v)) et (u.setCell ⟨g,i,none⟩ v):=by
 obtain ⟨d1,d2,d3,d4,d5⟩:=h.distinct
 rcases h.row.2 with ⟨rfl,h0⟩ | ⟨g,cap,cur,rfl,h2,h3,h4,h5,h6,h7⟩
 ·omega
 ·have hm:g∈ownC a (.slice (some ⟨g,0,none⟩) s.code.length cap) ks:=by simp [ownC,Value.ownBlock]
  have hks:Qa [g] u (u.setCell ⟨g,i,none⟩ v):=(Qa.refl [g] u).setIn (by simp) _
  obtain ⟨e1,e2,e3⟩:=d4 g rfl
  refine ⟨g,cap,rfl,h4,by simp [World.frozen?,h3],⟨cur[i]'(by omega),?_⟩,Qc h3,h.own.turn hks (by simpa using hm),?_,?_,h.bnp,?_,h.enp,h.enl,h.ens,⟨?_,Or.inr ⟨g,cap,cur.setIfInBounds i v,?_,h2,QB h3 v,?_,h5,?_,?_⟩⟩,?_,?_,?_⟩
  ·simp [World.cell?,h3]
  ·exact (hks.block _ (Qc h.box) (by simp;omega)).trans h.box
  ·exact (hks.block _ (Qc h.bod) (by simp;omega)).trans h.bod
  ·exact (hks.block _ (Qc h.enu) (by simp;omega)).trans h.enu
  ·have:=h.row.1
   simpa [setM] using this
  ·simp [setM]
  ·simpa [setM] using h4
  ·simpa using h6
  ·simp only [setM,List.length_set,Array.toList_setIfInBounds]
   rw [List.take_set,h7]
   simp [List.map_set]
  ·simp [setM,h.cod,List.map_set]
  ·intro p hp
   rcases List.mem_or_eq_of_mem_set hp with hp | rfl
   ·exact h.steps p hp
   ·exact hx
  ·exact Qx h.kro hks (fun g' h'=>by
    have:=(d5 g' h').2.2.2
    intro hm
    simp at hm
    subst hm
    exact this rfl)
theorem Cp.putBody (h:Cp w a Fr bs s sl ks cv et u) (n:List UInt8) (at':Nat) :
  (Instr.mapUpdate 64 (.map (some a.B)) (.string ⟨n.toArray⟩) (.int .i64 at')).run Tryz.prog u = .ok () (Q09 u a.B (Q1g (mput s.bodies n at'))) ∧
  Cp w a Fr bs { s with bodies:=mput s.bodies n at' } sl ks cv et (Q09 u a.B (Q1g (mput s.bodies n at'))):=by
 obtain ⟨d1,d2,d3,d4,d5⟩:=h.distinct
 have hks:=Q0a u a.B (Q1g (mput s.bodies n at'))
 refine ⟨Q34 (P:=Tryz.prog) (T:=64) (kt:=9) (et:=3) (d:=.string) (by kernel_rfl) (by kernel_rfl) (fun k:List UInt8=>.string ⟨k.toArray⟩) (fun k:Nat=>.int .i64 k) (fun _=>trivial) (fun _=>Q5O _) Q3I h.bod h.bnp n at',?_⟩
 refine ⟨h.own.turn hks (by simp [ownC]),?_,Q1t (Qc h.bod) _,Q31 h.bnp _ _,?_,h.enp,h.enl,h.ens,Qx h.row hks ?_,h.cod,h.steps,Qx h.kro hks ?_⟩
 ·exact (hks.block _ (Qc h.box) (by simp;omega)).trans h.box
 ·exact (hks.block _ (Qc h.enu) (by simp;omega)).trans h.enu
 ·intro g hg
  simpa using (d4 g hg).2.1
 ·intro g hg
  simpa using (d5 g hg).2.1
theorem Cp.lookBody (h:Cp w a Fr bs s sl ks cv et u) (n:List UInt8) (c:Bool) :
  (Instr.lookup 64 (.map (some a.B)) (.string ⟨n.toArray⟩) c).run Tryz.prog u = .ok (match look s.bodies n with
   | some v=>if c then .tuple #[.int .i64 v,.bool true] else .int .i64 v
   | none=>if c then .tuple #[.int .i64 0,.bool false] else .int .i64 0) u:=by
 rw [Q6M]
 have hh:=Q6k (P:=Tryz.prog) (T:=64) (kt:=9) (et:=3) (d:=.string) (by kernel_rfl) (by kernel_rfl) (fun k:List UInt8=>.string ⟨k.toArray⟩) (fun k:Nat=>.int .i64 k) (fun _=>trivial) Q3I h.bod h.bnp (z:=.int .i64 0) (by kernel_rfl) n c
 cases hm:Q0f s.bodies n with
 | none=>rw [hm] at hh;exact hh
 | some v=>rw [hm] at hh;exact hh
theorem Cp.putEnum {v:Value} {x:NumL} (h:Cp w a Fr bs s sl ks cv et u) (hx:NumV bs v x) (n:List UInt8) :
  ∃ o,(Instr.mapUpdate 120 (.map (some a.E)) (.string ⟨n.toArray⟩) v).run Tryz.prog u = .ok () (Q09 u a.E o) ∧
  Cp w a Fr bs { s with enums:=mput s.enums n x } sl ks cv (mput et n (x,v)) (Q09 u a.E o):=by
 obtain ⟨d1,d2,d3,d4,d5⟩:=h.distinct
 have hrun:=Q34 (P:=Tryz.prog) (T:=120) (kt:=9) (et:=200) (d:=.string) (by kernel_rfl) (by kernel_rfl) (fun k:List UInt8=>.string ⟨k.toArray⟩) (fun k:NumL×Value=>k.2) (fun _=>trivial) (fun _=>Q5O _) Q3I h.enu h.enp n (x,v)
 refine ⟨_,hrun,?_⟩
 have hks:=Q0a u a.E (Q3d ((mput et n (x,v)).map fun p=>(.string ⟨p.1.toArray⟩,p.2.2)))
 refine ⟨h.own.turn hks (by simp [ownC]),?_,?_,h.bnp,Q1t (Qc h.enu) _,Q31 h.enp _ _,?_,?_,Qx h.row hks ?_,h.cod,h.steps,Qx h.kro hks ?_⟩
 ·exact (hks.block _ (Qc h.box) (by simp;omega)).trans h.box
 ·exact (hks.block _ (Qc h.bod) (by simp;omega)).trans h.bod
 ·show mput s.enums n x=_
  rw [h.enl]
  exact (Q8B (fun q:NumL×Value=>q.1) et n (x,v)).symm
 ·intro p hp
  rcases Q8C hp with hp | rfl
  ·exact h.ens p hp
  ·exact hx
 ·intro g hg
  simpa using (d4 g hg).2.2
 ·intro g hg
  simpa using (d5 g hg).2.2.1
theorem Cp.lookEnum (h:Cp w a Fr bs s sl ks cv et u) (n:List UInt8):∃ v,(Instr.lookup 120 (.map (some a.E)) (.string ⟨n.toArray⟩) false).run Tryz.prog u = .ok v u∧NumV bs v ((look s.enums n).getD Q5u):=by
 have hrun:=Q6k (P:=Tryz.prog) (w:=u) (T:=120) (kt:=9) (et:=200) (d:=.string) (by kernel_rfl) (by kernel_rfl) (fun k:List UInt8=>.string ⟨k.toArray⟩) (fun k:NumL×Value=>k.2) (fun _=>trivial) Q3I h.enu h.enp (z:=.agg #[.int .i64 0,.int .i64 0,.slice none 0 0,.bool false]) (by kernel_rfl) n false
 refine ⟨_,hrun,?_⟩
 have hzero:NumV bs (.agg #[.int .i64 0,.int .i64 0,.slice none 0 0,.bool false]) Q5u:=⟨[.int .i64 0,.int .i64 0,.slice none 0 0,.bool false],rfl,_,rfl,rfl,_,_,_,rfl⟩
 have hl:look s.enums n=(Q0f et n).map (·.1):=by
  rw [Q6M,h.enl]
  unfold Q0f
  rw [List.find?_map]
  simp only [Option.map_map]
  rfl
 rw [hl]
 cases hm:Q0f et n with
 | none=>simpa using hzero
 | some q=>
  obtain ⟨p,hp,_,rfl⟩:=QfW hm
  simpa using h.ens p hp
end
end Go.Proofs.YtmbcibgknckenaaGreatDoor
