import Derived.Test.YtmbcibgknckenaaGreatDoorT7
set_option linter.all false
set_option maxRecDepth 100000
set_option maxHeartbeats 4000000
namespace Go.Proofs.YtmbcibgknckenaaGreatDoor
def Qa4 (c:List Qj) (k:Nat) (s:List UInt8×Nat):Bool:=match c[s.2]? with | some (.call j)=>j == k | _=>false
def Q53 {τ:Type} (ds:List DefL) (W:Wk τ) (p:Nat) (d:τ):Except Mar.Fault τ:=match (Q09 ds).1[p]? with
 | some (.call k)=>(match (Q09 ds).2.find? (Qa4 (Q09 ds).1 k) with
  | some s=>Q5v W (Q22 ds) 64 0 s.1 d
  | none=>.ok d)
 | _=>.ok d
def Q0b (l:List Int):List UInt8:=l.flatMap Q3O
def Q7q (b:List UInt8) (d:DSt):Except Mar.Fault (Unit×DSt):=
 thenE (Q1r b d) fun p=>thenE (Q1r b p.2) fun q=>if 400 < q.1 then .error ⟨19,p.2.pos⟩ else thenE (Q0U b q.1 q.2) fun r=>.ok ((),r.2)
def Q4U (b:List UInt8) (d:DSt):Except Mar.Fault ((Nat×Nat×Nat)×DSt):=
 thenE (Q1r b d) fun p=>thenE (Q1r b p.2) fun q=>thenE (Q1r b q.2) fun r=>thenE (Q7q b r.2) fun s=>thenE (Q7q b s.2) fun t=>.ok ((p.1,q.1,r.1),t.2)
def Q4m (n:Nat) (arg:List Q2n):Option (List QQ):=
 if n=0 then some (arg.map toG) else if n=1 then some [] else if n=2 then none else if n=3 then none else some [⟨1,n,[],0,0⟩]
def Qf4 (ds:List DefL) (p:Nat) (b:List UInt8) (dep fuel size:Nat):Except Mar.Fault (List Q2n):=
 if size < b.length then .error ⟨14,0⟩ else thenE (Q53 ds (decW b dep fuel) p ⟨0,[]⟩) fun d=>if d.pos < b.length then .error ⟨20,d.pos⟩ else .ok d.nodes
def Q8t (ds:List DefL) (p:Nat) (v:List QQ) (dep fuel size:Nat):Except Mar.Fault (List UInt8):=
 thenE (Q53 ds (encW v dep fuel size) p ⟨0,[]⟩) fun e=>if e.next < v.length then .error ⟨12,e.next⟩ else .ok e.out
def Q2a (ds:List DefL) (n:Nat) (p:Nat) (arg:List Q2n) (dep fuel size:Nat):Option (List UInt8):=match Q4m n arg with
 | none=>none
 | some v=>match Q8t ds p v dep fuel size with
  | .error _=>none
  | .ok out=>some out
def Q8u (ds:List DefL) (n:Nat) (p:Nat×Nat) (rest:List UInt8) (dep fuel size:Nat):List UInt8:=match Qf4 ds p.1 rest dep fuel size with
 | .error _=>Q0b [4]
 | .ok arg=>match Q2a ds n p.2 arg dep fuel size with
  | none=>Q0b [5]
  | some out=>Q0b [0]++out
def Q0F (ds:List DefL) (n:Nat) (call:Nat×Nat×Nat) (rest:List UInt8) (dep fuel size:Nat):List UInt8:=match Qy (Q3k ds).2 (call.1:Int) with
 | none=>Q0b [1]
 | some g=>match Qy g.vs (call.2.1:Int) with
  | none=>Q0b [2,g.lo,g.hi]
  | some v=>match Qy v (call.2.2:Int) with
   | none=>Q0b [3]
   | some p=>Q8u ds n p rest dep fuel size
def Q2z (b:List UInt8) (p:Nat):Nat:=bigL ((b.drop p).take 4)
def Q1f (ds:List DefL) (n:Nat) (dep fuel size:Nat) (b:List UInt8):List UInt8:=
 if b.length < 12 then [] else if Q2z b 4≠0 then [] else if Q2z b 8≠2 then Q0b [Q2z b 0,1,1,0,2,2] else match Q4U b ⟨12,[]⟩ with
  | .error _=>[]
  | .ok r=>Q0b [Q2z b 0,1,0,0,0]++Q0F ds n r.1 (b.drop r.2.pos) dep fuel size
def Q4G (r:List UInt8):List UInt8:=Q0b [2147483648 + r.length]++r
def Q5w (ds:List DefL) (n dep fuel size:Nat) (b:List UInt8):List UInt8:=if Q1f ds n dep fuel size b=[] then [] else Q4G (Q1f ds n dep fuel size b)
def allR (ds:List DefL) (n dep fuel size:Nat) (l:List (List UInt8)):List UInt8:=l.flatMap (Q5w ds n dep fuel size)
theorem Q7r {b:List UInt8} {d:DSt} (h:d.pos + 4≤b.length):Q1r b d = .ok (Q2z b d.pos,{ d with pos:=d.pos + 4 }):=by
 unfold Q1r Q23
 rw [if_neg (by omega)]
 rfl
theorem Qa5 {b:List UInt8} {d d':DSt} {k:Nat} (h:Q1r b d = .ok (k,d')):d'.nodes=d.nodes∧d'.pos=d.pos + 4∧d'.pos≤b.length∧k < 4294967296:=by
 obtain ⟨p,hp,h⟩:=QV h
 obtain ⟨_,h1,h2,h3,h4⟩:=Q3l (l:=p.1) (d':=p.2) hp
 cases h
 refine ⟨h2,h1,h3,?_⟩
 exact Q4l h4
theorem Q0H (l:List Int):(Q0b l).length=4 * l.length:=by
 induction l with
 | nil=>rfl
 | cons x l ih=>
  show (Q3O x++Q0b l).length=_
  rw [List.length_append,ih,Q7p,List.length_cons]
  omega
theorem Qif {ds:List DefL} {p:Nat} {v:List QQ} {dep fuel size:Nat} {out:List UInt8} (h:Q8t ds p v dep fuel size = .ok out):out.length≤size:=by
 obtain ⟨e,h1,h2⟩:=QV h
 have key:e.out.length≤size:=by
  unfold Q53 at h1
  split at h1
  ·split at h1
   ·exact Qid (QgL v dep fuel size) 64 0 _ _ _ (by simp) h1
   ·cases h1;simp
  ·cases h1;simp
 split at h2
 ·cases h2
 ·cases h2;exact key
theorem Qig (ds:List DefL) (n:Nat) (p:Nat×Nat) (rest:List UInt8) (dep fuel size:Nat):(Q8u ds n p rest dep fuel size).length≤size + 12:=by
 unfold Q8u
 split
 ·rw [Q0H];simp
 ·split
  ·rw [Q0H];simp
  ·rename_i out ho
   unfold Q2a at ho
   split at ho
   ·cases ho
   ·split at ho
    ·cases ho
    ·cases ho
     rename_i hs
     have:=Qif hs
     rw [List.length_append,Q0H]
     simp
     omega
theorem Q6I (ds:List DefL) (n:Nat) (call:Nat×Nat×Nat) (rest:List UInt8) (dep fuel size:Nat):(Q0F ds n call rest dep fuel size).length≤size + 12:=by
 unfold Q0F
 split
 ·rw [Q0H];simp
 ·split
  ·rw [Q0H];simp
  ·split
   ·rw [Q0H];simp
   ·exact Qig _ _ _ _ _ _ _
theorem QaO (ds:List DefL) (n dep fuel size:Nat) (b:List UInt8):(Q1f ds n dep fuel size b).length≤size + 32:=by
 unfold Q1f
 split
 ·simp
 ·split
  ·simp
  ·split
   ·rw [Q0H];simp
   ·split
    ·simp
    ·rw [List.length_append,Q0H]
     have:=Q6I ds n
     rename_i r _
     have:=this r.1 (b.drop r.2.pos) dep fuel size
     simp
     omega
theorem Qcu (ds:List DefL) (n dep fuel size:Nat) (b:List UInt8):(Q5w ds n dep fuel size b).length≤size + 36:=by
 unfold Q5w
 split
 ·simp
 ·have:=QaO ds n dep fuel size b
  unfold Q4G
  rw [List.length_append,Q0H]
  simp
  omega
end Go.Proofs.YtmbcibgknckenaaGreatDoor
namespace Go.Proofs.YtmbcibgknckenaaGreatDoor
open Go.RowKit
open Go.MapKept
theorem Qih:(Tryz.prog.info? 226).map (fun i=>(i.zero,i.size,i.bytes))=some (some .nilIface,1,16):=by kernel_rfl
theorem Qii:(Tryz.prog.info? 222).map (fun i=>(i.zero,i.size,i.bytes))=some (some (.agg #[.int .i64 0,.string ⟨#[]⟩]),2,24):=by kernel_rfl
theorem Q1n {w u:World} {a:CAd} {Fr bs:List (Nat×Obj)} {s:CSt} {sl ks:Value} {cv:List (Qj×Value)} {et:List (List UInt8×NumL×Value)} {v:Value} {x:Qj} (h:Cp w a Fr bs s sl ks cv et u) (hx:Q1X bs v x) (hs:s.code.length < 1000000) :
  Calls Tryz.prog 98 #[.pointer (some ⟨a.C,0,none⟩),v] u fun e u'=>e = .returned (.int .i64 s.code.length)∧∃ sl',Cp w a Fr bs (putM x s) sl' ks (cv++[(x,v)]) et u':=by
 obtain ⟨T,y,rfl⟩:=hx.iface
 obtain ⟨ad,cap,rfl⟩:=h.slice
 obtain ⟨c0,c1,c2,c3,hfz,hlt⟩:=h.cells
 obtain ⟨i0,hi0,hz0,hz1,hz2⟩:=info_parts Qih
 have H:=Hid.mk h
 have HX:=Hid.mk hx
 have hwl:w.heap.size≤u.heap.size:=h.own.kp.size
 have hown5:∀ ob,(u.alloc ob).ownsRow w.heap.size 226 1 (.slice ad s.code.length cap) s.code.length (cv.map (·.2)):=fun ob=>Qk h.row ((Qb.refl [] u).alloc ob) (by simp)
 have hl1:s.code.length + 1≤maxLen:=by unfold maxLen;omega
 have hl2:(s.code.length + 1) * 16≤140737488355328:=by omega
 have hz3:Value.nilIface.cells.size=1:=rfl
 have hbox6:∀ ob u3,(u.alloc ob).grownBy u3 (Value.slice ad s.code.length cap).ownBlock→u3.cell? ⟨a.C,0,none⟩=some (.slice ad s.code.length cap)∧(∀ i,u3.frozen? ⟨a.C,i,none⟩=false)∧a.C < u3.heap.size:=by
  intro ob u3 hg
  have hb:u3.heap[a.C]? = some (.cells #[.slice ad s.code.length cap,.map (some a.B),.map (some a.E),ks] 123):=
   (hg.block _ (by simp;omega) (fun e=>(H.out.distinct.2.2.2.1 _ e.symm).1 rfl)).trans ((((Qb.refl [] u).alloc ob).block _ hlt (by simp)).trans H.out.box)
  refine ⟨?_,?_,Qc hb⟩<;>simp [World.cell?,World.frozen?,hb]
 have H6:=Hid.mk hbox6
 clear h hx hbox6
 go_enter Tryz.func98,Tryz.ntmps98
 go_wp2_with (first
  | (at_builtin;refine wpList_append_lies _ (by rfl) _ _ _ (by rfl) w.heap.size 226 i0 _ 1 16 Tryz.underlying63 hi0 hz0 hz1 hz2 hz3 (by omega) (.slice ad s.code.length cap) s.code.length (cv.map (·.2)) (by rfl) (hown5 _) ⟨u.heap.size,0,none⟩ 1 1 [.iface T y] (by rfl) (by rfl) (World.news_of_block (cs:=#[.iface T y]) (t:=226) (fr:=(0,0)) (heap_alloc_new u _)) (by simp [Value.oneCell']) (by omega) hl1 hl2 (by simp;omega) (u.heap.size + 1) (by simp) ?_;intro g cap' w8 hown8 hgrow hat hlt8;obtain ⟨q0,q1,q2⟩:=H6.out _ _ hgrow))
 go_ret
 have M:=Cp.putCode H.out HX.out ((Below.refl u.heap.size u).alloc (Nat.le_refl _) _) hown8 hgrow (by simpa using hat) hlt8
 exact ⟨by simp,_,M⟩
theorem Q2k {w u:World} {a:CAd} {Fr bs:List (Nat×Obj)} {s:CSt} {sl ks:Value} {cv:List (Qj×Value)} {et:List (List UInt8×NumL×Value)} (h:Cp w a Fr bs s sl ks cv et u) :
  Calls Tryz.prog 95 #[.pointer (some ⟨a.C,0,none⟩)] u fun e u'=>e = .returned (.int .i64 s.code.length)∧u'=u:=by
 obtain ⟨ad,cap,rfl⟩:=h.slice
 obtain ⟨c0,c1,c2,c3,hfz,hlt⟩:=h.cells
 clear h
 go_enter Tryz.func95,Tryz.ntmps95
 go_wp2
 go_ret
 exact ⟨rfl,rfl⟩
abbrev Qj3 (n:NumL) (m:Value):Array Value:=#[.int .i64 n.low,.int .i64 n.high,m,.bool n.wide]
theorem Q6J (k:Nat):(QJ k).mem=none:=by
 unfold QJ
 split
 ·rfl
 ·split
  ·rfl
  ·split<;>rfl
theorem Q6K (k:Nat) (w:World):Calls Tryz.prog 141 #[.int .i64 k] w fun e w'=>e = .returned (.agg (Qj3 (QJ k) (.slice none 0 0)))∧Below w.heap.size w w':=by
 have hb:∀ o,Below w.heap.size w (w.alloc o):=fun o=>(Below.refl _ _).alloc (Nat.le_refl _) _
 by_cases h0:k=0
 ·have e0:((k:Int) == 0)=true:=by simp [h0]
  have E:Hid (QJ k=⟨-2147483648,2147483647,none,false⟩):=by show _=_;simp [QJ,h0]
  clear h0
  go_enter Tryz.func141,Tryz.ntmps141
  go_wp2
  exact bodyPost_ret (v:=.agg #[.int .i64 (-2147483648),.int .i64 2147483647,.slice none 0 0,.bool false]) (by simp [results,Tryz.results141,go_sem]) rfl ⟨by rw [E.out],hb _⟩
 ·have e0:((k:Int) == 0)=false:=by simp;omega
  by_cases h1:k=1
  ·have e1:((k:Int) == 1)=true:=by simp [h1]
   have E:Hid (QJ k=⟨0,4294967295,none,false⟩):=by show _=_;simp [QJ,h1]
   clear h0 h1
   go_enter Tryz.func141,Tryz.ntmps141
   go_wp2
   exact bodyPost_ret (v:=.agg #[.int .i64 0,.int .i64 4294967295,.slice none 0 0,.bool false]) (by simp [results,Tryz.results141,go_sem]) rfl ⟨by rw [E.out],hb _⟩
  ·have e1:((k:Int) == 1)=false:=by simp;omega
   by_cases h4:k=4
   ·have e4:((k:Int) == 4)=true:=by simp [h4]
    have E:Hid (QJ k=⟨0,1,none,false⟩):=by show _=_;simp [QJ,h4]
    clear h0 h1 h4
    go_enter Tryz.func141,Tryz.ntmps141
    go_wp2
    exact bodyPost_ret (v:=.agg #[.int .i64 0,.int .i64 1,.slice none 0 0,.bool false]) (by simp [results,Tryz.results141,go_sem]) rfl ⟨by rw [E.out],hb _⟩
   ·have e4:((k:Int) == 4)=false:=by simp;omega
    have E:Hid (QJ k=⟨-9223372036854775808,9223372036854775807,none,true⟩):=by show _=_;simp [QJ,h0,h1,h4]
    clear h0 h1 h4
    go_enter Tryz.func141,Tryz.ntmps141
    go_wp2
    exact bodyPost_ret (v:=.agg #[.int .i64 (-9223372036854775808),.int .i64 9223372036854775807,.slice none 0 0,.bool true]) (by simp [results,Tryz.results141,go_sem]) rfl ⟨by rw [E.out],hb _⟩
theorem Qij (k:Nat×List UInt8):∀ u∈Q4D k,u.oneCell'=true:=by
 intro u hu
 simp at hu
 rcases hu with rfl | rfl<;>rfl
theorem Cp.kbox {w u u3:World} {a:CAd} {Fr bs:List (Nat×Obj)} {s:CSt} {sl ks:Value} {cv:List (Qj×Value)} {et:List (List UInt8×NumL×Value)} {ob:Obj} (h:Cp w a Fr bs s sl ks cv et u) (hg:(u.alloc ob).grownBy u3 ks.ownBlock) :
  u3.cell? ⟨a.C,3,none⟩=some ks∧(∀ i,u3.frozen? ⟨a.C,i,none⟩=false)∧a.C < u3.heap.size:=by
 have hlt:=Qc h.box
 have hb:u3.heap[a.C]? = some (.cells #[sl,.map (some a.B),.map (some a.E),ks] 123):=
  (hg.block _ (by simp;omega) (fun e=>(h.distinct.2.2.2.2 _ e.symm).1 rfl)).trans ((((Qb.refl [] u).alloc ob).block _ hlt (by simp)).trans h.box)
 refine ⟨?_,?_,Qc hb⟩<;>simp [World.cell?,World.frozen?,hb]
theorem Qik {w u:World} {a:CAd} {Fr bs:List (Nat×Obj)} {s:CSt} {sl ks:Value} {cv:List (Qj×Value)} {et:List (List UInt8×NumL×Value)} (n:List UInt8) (h:Cp w a Fr bs s sl ks cv et u) (hs:s.code.length < 1000000) (hc:s.calls.length < 1000000) :
  Calls Tryz.prog 140 #[.pointer (some ⟨a.C,0,none⟩),.string ⟨n.toArray⟩] u fun e u'=>e = .returned (.tuple #[])∧Qz w a Fr bs (Q2m n s) u':=by
 obtain ⟨ad,cap,rfl⟩:=h.kslice
 obtain ⟨c0,c1,c2,c3,hfz,hlt⟩:=h.cells
 obtain ⟨i0,hi0,hz0,hz1,hz2⟩:=info_parts Qii
 have hbd:Below u.heap.size u u.drew:=(Below.refl _ _).drew
 have HC:=Hid.mk (Q1n (v:=.iface 224 (.agg #[.int .i64 0])) (x:=.call 0) (h.below hbd) rfl hs)
 have hl1:s.calls.length + 1≤maxLen:=by unfold maxLen;omega
 have hl2:(s.calls.length + 1) * 24≤140737488355328:=by omega
 have hz3:(Value.agg #[.int .i64 0,.string ⟨#[]⟩]).cells.size=2:=by decide
 clear h hbd
 go_enter Tryz.func140,Tryz.ntmps140
 go_wp2_with fail
 refine Qu (fun w'=>w'.cell? ⟨a.C,3,none⟩=some (.slice ad s.calls.length cap)) (L:=15) (by kernel_rfl) rfl (by kernel_rfl) (by kernel_rfl) ?_ (fun hHeld=>?_)
 ·go_keep
 refine tk (i:=0) (v:=?_) rfl (by kernel_rfl) (fun _ _ _ h=>h) (by rfl) (by assumption) ?_ ?_
 rotate_left
 ·intro w hSw;(try dsimp only at hSw);go_simp;(try with_reducible rfl)
 (try simp only [Qd,Qe,List.set])
 refine tk (i:=1) (v:=?_) rfl (by kernel_rfl) (fun _ _ _ h=>h) (by rfl) (by assumption) ?_ ?_
 rotate_left
 ·intro w hSw;(try dsimp only at hSw);go_simp;(try with_reducible rfl)
 (try simp only [Qd,Qe,List.set])
 refine tk (i:=2) (v:=?_) rfl (by kernel_rfl) (fun _ _ _ h=>h) (by rfl) (by assumption) ?_ ?_
 rotate_left
 ·intro w hSw;(try dsimp only at hSw);go_simp;(try with_reducible rfl)
 (try simp only [Qd,Qe,List.set])
 refine tk (i:=3) (v:=?_) rfl (by kernel_rfl) (fun _ _ _ h=>h) (by rfl) (by assumption) ?_ ?_
 rotate_left
 ·intro w hSw;(try dsimp only at hSw);go_simp;(try with_reducible rfl)
 (try simp only [Qd,Qe,List.set])
 refine tk (i:=4) (v:=?_) rfl (by kernel_rfl) (fun _ _ _ h=>h) (by rfl) (by assumption) ?_ ?_
 rotate_left
 ·intro w hSw;(try dsimp only at hSw);go_simp;(try with_reducible rfl)
 (try simp only [Qd,Qe,List.set])
 refine tk (i:=5) (v:=?_) rfl (by kernel_rfl) (fun _ _ _ h=>h) (by rfl) (by assumption) ?_ ?_
 rotate_left
 ·intro w hSw;(try dsimp only at hSw);go_simp;(try with_reducible rfl)
 (try simp only [Qd,Qe,List.set])
 refine tk (i:=6) (v:=?_) rfl (by kernel_rfl) (fun _ _ _ h=>h) (by rfl) (by assumption) ?_ ?_
 rotate_left
 ·intro w hSw;(try dsimp only at hSw);go_simp;(try with_reducible rfl)
 (try simp only [Qd,Qe,List.set])
 refine tk (i:=7) (v:=?_) rfl (by kernel_rfl) (fun _ _ _ h=>h) (by rfl) (by assumption) ?_ ?_
 rotate_left
 ·intro w hSw;(try dsimp only at hSw);go_simp;(try with_reducible rfl)
 (try simp only [Qd,Qe,List.set])
 refine tk (i:=9) (v:=?_) rfl (by kernel_rfl) (fun _ _ _ h=>h) (by rfl) (by assumption) ?_ ?_
 rotate_left
 ·intro w hSw;(try dsimp only at hSw);go_simp;(try with_reducible rfl)
 (try simp only [Qd,Qe,List.set])
 refine wpAnyH_ready (rs:=[8]) (by kernel_rfl) (by simp) ?_
 refine AllReadyH.cons rfl (fun K hK=>?_) AllReadyH.nil
 (go_simp;go_at_call 98;refine HC.out.mono ?_;rintro e w5 ⟨rfl,sl5,M5⟩;have M5:=Hid.mk M5;have hc5:w5.cell? ⟨a.C,3,none⟩=some (.slice ad s.calls.length cap):=M5.out.cells.2.2.2.1;have hwl:w.heap.size≤w5.heap.size:=M5.out.own.kp.size;have hlt5:a.C < w5.heap.size:=M5.out.cells.2.2.2.2.2)
 refine hK.out _ _ ?_ (fun hHeld=>?_)
 ·go_keep
 clear hK K
 (try simp only [Qd,Qe,List.set])
 refine tk (i:=10) (v:=?_) rfl (by kernel_rfl) (fun _ _ _ h=>h) (by rfl) (by assumption) ?_ ?_
 rotate_left
 ·intro w hSw;(try dsimp only at hSw);go_simp;(try with_reducible rfl)
 (try simp only [Qd,Qe,List.set])
 refine wpAnyH_ready (rs:=[11]) (by kernel_rfl) (by simp) ?_
 refine AllReadyH.cons rfl (fun K hK=>?_) AllReadyH.nil
 go_simp
 refine hK.out _ _ ?_ (fun hHeld=>?_)
 ·go_keep
 clear hK K
 (try simp only [Qd,Qe,List.set])
 refine wpAnyH_ready (rs:=[12]) (by kernel_rfl) (by simp) ?_
 refine AllReadyH.cons rfl (fun K hK=>?_) AllReadyH.nil
 (refine step_append_lies _ (by rfl) _ _ _ (by rfl) w.heap.size 222 i0 _ 2 24 Tryz.underlying121 hi0 hz0 hz1 hz2 hz3 (by omega) (.slice ad s.calls.length cap) s.calls.length (s.calls.flatMap Q4D) (by rfl) (Qk M5.out.kro ((Qb.refl [] w5).alloc _) (by simp)) ⟨w5.heap.size,0,none⟩ 1 1 (Q4D (s.code.length,n)) (by rfl) (by rfl) (World.news_of_block (cs:=(Q4D (s.code.length,n)).toArray) (t:=222) (fr:=(0,0)) (heap_alloc_new w5 _)) (Qij _) (by omega) hl1 hl2 (by simp;omega) (w5.heap.size + 1) (by simp) ?_;intro g cap' w6 hown6 hgrow hat hlt;obtain ⟨q0,q1,q2⟩:=M5.out.kbox hgrow)
 refine hK.out _ _ ?_ (fun hHeld=>?_)
 ·go_keep
 clear hK K
 (try simp only [Qd,Qe,List.set])
 refine tk (i:=13) (v:=?_) rfl (by kernel_rfl) (fun _ _ _ h=>h) (by rfl) (by assumption) ?_ ?_
 rotate_left
 ·intro w hSw;(try dsimp only at hSw);go_simp;(try with_reducible rfl)
 (try simp only [Qd,Qe,List.set])
 refine tk (i:=14) (v:=?_) rfl (by kernel_rfl) (fun _ _ _ h=>h) (by rfl) (by assumption) ?_ ?_
 rotate_left
 ·intro w hSw;(try dsimp only at hSw);go_simp;(try with_reducible rfl)
 (try simp only [Qd,Qe,List.set])
 refine wpAnyH_done (by kernel_rfl) ?_ _
 refine QB rfl (fun K hK=>?_)
 go_simp
 refine hK.out _ _ ?_
 clear hK K
 (try simp only [Qd,Qe,List.set])
 have M6:=Cp.putCall (k:=(s.code.length,n)) M5.out ((Below.refl w5.heap.size w5).alloc (Nat.le_refl _) _) hown6 hgrow (by simpa using hat) hlt
 go_wp2
 go_end0
 exact ⟨rfl,M6.gives⟩
theorem Q6L (bs:List (Nat×Obj)) {n:NumL} (h:n.mem=none):Q16 bs [.int .i64 n.low,.int .i64 n.high,.slice none 0 0,.bool n.wide] n:=⟨.slice none 0 0,rfl,by rw [h];rfl,_,_,_,rfl⟩
structure Room (s:CSt) (n:Nat):Prop where
 code:s.code.length + n < 1000000
 calls:s.calls.length≤s.code.length
theorem Room.put {s:CSt} {n:Nat} (h:Room s (n + 1)) (x:Qj):Room (putM x s) n:=⟨by simp [putM];have:=h.code;omega,by simp [putM];have:=h.calls;omega⟩
theorem Room.call {s:CSt} {n:Nat} (h:Room s (n + 1)) (t:List UInt8):Room (Q2m t s) n:=⟨by simp [Q2m];have:=h.code;omega,by simp [Q2m];have:=h.calls;omega⟩
theorem Room.less {s:CSt} {n m:Nat} (h:Room s n) (hm:m≤n):Room s m:=⟨by have:=h.code;omega,h.calls⟩
theorem Room.set {s:CSt} {n:Nat} (h:Room s n) (i:Nat) (x:Qj):Room (setM i x s) n:=⟨by simpa [setM] using h.code,by simpa [setM] using h.calls⟩
theorem Room.value (t:Ty):∀ {s:CSt} {n:Nat},Room s (n + QM t)→Room (QL t s) n:=by
 induction t with
 | named t a=>intro s n h;exact h.call t
 | plain k=>intro s n h;exact h.put _
 | opaq k f=>intro s n h;exact h.put _
 | str k f=>intro s n h;exact h.put _
 | void=>intro s n h;exact h
 | arr o k f ih=>intro s n h;exact (Room.put (ih (Room.put (Room.less h (by simp only [QM];omega)) _)) _).set _ _
 | opt o ih=>intro s n h;exact (ih (Room.put (Room.less h (by simp only [QM];omega)) _)).set _ _
theorem QdB {w u:World} {a:CAd} {Fr bs:List (Nat×Obj)} {s:CSt} {sl ks:Value} {cv:List (Qj×Value)} {et:List (List UInt8×NumL×Value)} (t:List UInt8) (p:Nat) (h:Cp w a Fr bs s sl ks cv et u) (hr:Room s 1) :
  Calls Tryz.prog 96 #[.pointer (some ⟨a.C,0,none⟩),.iface 213 (.agg #[.string ⟨t.toArray⟩,.int .i64 p])] u fun e u'=>e = .returned (.tuple #[])∧Qz w a Fr bs (Q2m t s) u':=by
 have t0:∀ W,(Instr.typeAssert (.iface 213 (.agg #[.string ⟨t.toArray⟩,.int .i64 p])) 193 213 true).run Tryz.prog W = .ok (.tuple #[.agg #[.string ⟨t.toArray⟩,.int .i64 p],.bool true]) W:=fun W=>by kernel_rfl
 have hr1:=hr.code
 have hr2:=hr.calls
 have hb:∀ o,Below u.heap.size u (u.alloc o):=fun o=>(Below.refl _ _).alloc (Nat.le_refl _) _
 have H:=Hid.mk h
 clear h
 go_enter Tryz.func96,Tryz.ntmps96
 go_wp2_with fail
 refine (Qik t (H.out.below (hb _)) (by omega) (by omega)).mono ?_
 rintro e w2 ⟨rfl,M2⟩
 go_wp2
 go_end0
 exact ⟨rfl,M2⟩
theorem QdC {w u:World} {a:CAd} {Fr bs:List (Nat×Obj)} {s:CSt} {sl ks:Value} {cv:List (Qj×Value)} {et:List (List UInt8×NumL×Value)} (k:Nat) (h:Cp w a Fr bs s sl ks cv et u) (hr:Room s 1) :
  Calls Tryz.prog 96 #[.pointer (some ⟨a.C,0,none⟩),.iface 301 (.agg #[.int .i64 k])] u fun e u'=>e = .returned (.tuple #[])∧Qz w a Fr bs (putM (.num (QJ k)) s) u':=by
 have t0:∀ W,(Instr.typeAssert (.iface 301 (.agg #[.int .i64 k])) 193 213 true).run Tryz.prog W = .ok (.tuple #[.agg #[.string ⟨#[]⟩,.int .i64 0],.bool false]) W:=fun W=>by kernel_rfl
 have t1:∀ W,(Instr.typeAssert (.iface 301 (.agg #[.int .i64 k])) 193 301 true).run Tryz.prog W = .ok (.tuple #[.agg #[.int .i64 k],.bool true]) W:=fun W=>by kernel_rfl
 have hr1:=hr.code
 have hr2:=hr.calls
 have hb:∀ o,Below u.heap.size u (u.alloc o):=fun o=>(Below.refl _ _).alloc (Nat.le_refl _) _
 have H:=Hid.mk h
 clear h
 go_enter Tryz.func96,Tryz.ntmps96
 go_wp2_with fail
 refine (Q6K k _).mono ?_
 rintro e w2 ⟨rfl,hb2⟩
 have M2:=(H.out.below (hb _)).below hb2
 go_wp2_with fail
 refine (Q1n (v:=.iface 200 (.agg (Qj3 (QJ k) (.slice none 0 0)))) (x:=.num (QJ k)) M2 ⟨[.int .i64 (QJ k).low,.int .i64 (QJ k).high,.slice none 0 0,.bool (QJ k).wide],rfl,Q6L _ (Q6J k)⟩ (by omega)).mono ?_
 rintro e w3 ⟨rfl,sl3,M3⟩
 go_wp2
 go_end0
 exact ⟨rfl,M3.gives⟩
theorem Qf5 {w u:World} {a:CAd} {Fr bs:List (Nat×Obj)} {s:CSt} {sl ks:Value} {cv:List (Qj×Value)} {et:List (List UInt8×NumL×Value)} (n:Int) (f:Bool) (h:Cp w a Fr bs s sl ks cv et u) (hr:Room s 1) :
  Calls Tryz.prog 96 #[.pointer (some ⟨a.C,0,none⟩),.iface 306 (.agg #[.int .i64 n,.bool f])] u fun e u'=>e = .returned (.tuple #[])∧Qz w a Fr bs (putM (.text n f) s) u':=by
 have t0:∀ W,(Instr.typeAssert (.iface 306 (.agg #[.int .i64 n,.bool f])) 193 213 true).run Tryz.prog W = .ok (.tuple #[.agg #[.string ⟨#[]⟩,.int .i64 0],.bool false]) W:=fun W=>by kernel_rfl
 have t1:∀ W,(Instr.typeAssert (.iface 306 (.agg #[.int .i64 n,.bool f])) 193 301 true).run Tryz.prog W = .ok (.tuple #[.agg #[.int .i64 0],.bool false]) W:=fun W=>by kernel_rfl
 have t2:∀ W,(Instr.typeAssert (.iface 306 (.agg #[.int .i64 n,.bool f])) 193 306 true).run Tryz.prog W = .ok (.tuple #[.agg #[.int .i64 n,.bool f],.bool true]) W:=fun W=>by kernel_rfl
 have hr1:=hr.code
 have hr2:=hr.calls
 have hb:∀ o,Below u.heap.size u (u.alloc o):=fun o=>(Below.refl _ _).alloc (Nat.le_refl _) _
 have H:=Hid.mk h
 clear h
 go_enter Tryz.func96,Tryz.ntmps96
 go_wp2_with fail
 refine (Q1n (x:=.text n f) (H.out.below (hb _)) rfl (by omega)).mono ?_
 rintro e w3 ⟨rfl,sl3,M3⟩
 go_wp2
 go_end0
 exact ⟨rfl,M3.gives⟩
theorem QgM {w u:World} {a:CAd} {Fr bs:List (Nat×Obj)} {s:CSt} {sl ks:Value} {cv:List (Qj×Value)} {et:List (List UInt8×NumL×Value)} (n:Int) (f:Bool) (h:Cp w a Fr bs s sl ks cv et u) (hr:Room s 1) :
  Calls Tryz.prog 96 #[.pointer (some ⟨a.C,0,none⟩),.iface 309 (.agg #[.int .i64 n,.bool f])] u fun e u'=>e = .returned (.tuple #[])∧Qz w a Fr bs (putM (.text n f) s) u':=by
 have t0:∀ W,(Instr.typeAssert (.iface 309 (.agg #[.int .i64 n,.bool f])) 193 213 true).run Tryz.prog W = .ok (.tuple #[.agg #[.string ⟨#[]⟩,.int .i64 0],.bool false]) W:=fun W=>by kernel_rfl
 have t1:∀ W,(Instr.typeAssert (.iface 309 (.agg #[.int .i64 n,.bool f])) 193 301 true).run Tryz.prog W = .ok (.tuple #[.agg #[.int .i64 0],.bool false]) W:=fun W=>by kernel_rfl
 have t2:∀ W,(Instr.typeAssert (.iface 309 (.agg #[.int .i64 n,.bool f])) 193 306 true).run Tryz.prog W = .ok (.tuple #[.agg #[.int .i64 0,.bool false],.bool false]) W:=fun W=>by kernel_rfl
 have t3:∀ W,(Instr.typeAssert (.iface 309 (.agg #[.int .i64 n,.bool f])) 193 309 true).run Tryz.prog W = .ok (.tuple #[.agg #[.int .i64 n,.bool f],.bool true]) W:=fun W=>by kernel_rfl
 have hr1:=hr.code
 have hr2:=hr.calls
 have hb:∀ o,Below u.heap.size u (u.alloc o):=fun o=>(Below.refl _ _).alloc (Nat.le_refl _) _
 have H:=Hid.mk h
 clear h
 go_enter Tryz.func96,Tryz.ntmps96
 go_wp2_with fail
 refine (Q1n (x:=.text n f) (H.out.below (hb _)) rfl (by omega)).mono ?_
 rintro e w3 ⟨rfl,sl3,M3⟩
 go_wp2
 go_end0
 exact ⟨rfl,M3.gives⟩
theorem Qf6 {w u:World} {a:CAd} {Fr bs:List (Nat×Obj)} {s:CSt} {sl ks:Value} {cv:List (Qj×Value)} {et:List (List UInt8×NumL×Value)}  (h:Cp w a Fr bs s sl ks cv et u) (hr:Room s 1) :
  Calls Tryz.prog 96 #[.pointer (some ⟨a.C,0,none⟩),.iface 340 (.agg #[])] u fun e u'=>e = .returned (.tuple #[])∧Qz w a Fr bs (s) u':=by
 have t0:∀ W,(Instr.typeAssert (.iface 340 (.agg #[])) 193 213 true).run Tryz.prog W = .ok (.tuple #[.agg #[.string ⟨#[]⟩,.int .i64 0],.bool false]) W:=fun W=>by kernel_rfl
 have t1:∀ W,(Instr.typeAssert (.iface 340 (.agg #[])) 193 301 true).run Tryz.prog W = .ok (.tuple #[.agg #[.int .i64 0],.bool false]) W:=fun W=>by kernel_rfl
 have t2:∀ W,(Instr.typeAssert (.iface 340 (.agg #[])) 193 306 true).run Tryz.prog W = .ok (.tuple #[.agg #[.int .i64 0,.bool false],.bool false]) W:=fun W=>by kernel_rfl
 have t3:∀ W,(Instr.typeAssert (.iface 340 (.agg #[])) 193 309 true).run Tryz.prog W = .ok (.tuple #[.agg #[.int .i64 0,.bool false],.bool false]) W:=fun W=>by kernel_rfl
 have t4:∀ W,(Instr.typeAssert (.iface 340 (.agg #[])) 193 311 true).run Tryz.prog W = .ok (.tuple #[.agg #[.nilIface,.int .i64 0,.bool false],.bool false]) W:=fun W=>by kernel_rfl
 have t5:∀ W,(Instr.typeAssert (.iface 340 (.agg #[])) 193 314 true).run Tryz.prog W = .ok (.tuple #[.agg #[.nilIface],.bool false]) W:=fun W=>by kernel_rfl
 have hr1:=hr.code
 have hr2:=hr.calls
 have H:=Hid.mk h
 clear h
 go_enter Tryz.func96,Tryz.ntmps96
 go_wp2
 go_end0
 exact ⟨rfl,H.out.gives⟩
theorem Q3e {w u:World} {a:CAd} {Fr bs:List (Nat×Obj)} {s:CSt} {sl ks:Value} {cv:List (Qj×Value)} {et:List (List UInt8×NumL×Value)} {t:Ty} (hf:Flat t) (h:Cp w a Fr bs s sl ks cv et u) (hr:Room s 1) :
  Calls Tryz.prog 96 #[.pointer (some ⟨a.C,0,none⟩),tyV t] u fun e u'=>e = .returned (.tuple #[])∧Qz w a Fr bs (QL t s) u':=by
 cases t with
 | named t p=>exact QdB t p h hr
 | plain k=>exact QdC k h hr
 | opaq n f=>exact Qf5 n f h hr
 | str n f=>exact QgM n f h hr
 | void=>exact Qf6 h hr
 | arr o n f=>exact absurd hf (by simp [Flat])
 | opt o=>exact absurd hf (by simp [Flat])
theorem Q68 (x:Qj) (s:CSt):(putM x s).code.length=s.code.length + 1:=by simp [putM]
theorem Qz.more {w u:World} {a:CAd} {Fr bs bs':List (Nat×Obj)} {s:CSt} (hb:∀ p∈bs,p∈bs') (h:Qz w a Fr bs' s u):Qz w a Fr bs s u:=by
 obtain ⟨b,sl,ks,cv,et,h1,h2⟩:=h
 exact ⟨b,sl,ks,cv,et,fun p hp=>h1 p (hb p hp),h2⟩
theorem Qz.tail {w u:World} {a:CAd} {p:Nat×Obj} {Fr bs:List (Nat×Obj)} {s:CSt} (h:Qz w a (p :: Fr) bs s u):Qz w a Fr bs s u:=by
 obtain ⟨b,sl,ks,cv,et,h1,h2⟩:=h
 exact ⟨b,sl,ks,cv,et,h1,h2.tail⟩
theorem QgN {w u:World} {a:CAd} {Fr bs:List (Nat×Obj)} {s:CSt} {sl ks:Value} {cv:List (Qj×Value)} {et:List (List UInt8×NumL×Value)} {o:Ty} (n:Int) (f:Bool) (hf:Flat o) (h:Cp w a Fr bs s sl ks cv et u) (hr:Room s 3) :
  Calls Tryz.prog 142 #[.pointer (some ⟨a.C,0,none⟩),.agg #[tyV o,.int .i64 n,.bool f]] u fun e u'=>e = .returned (.tuple #[])∧Qz w a Fr bs (QL (.arr o n f) s) u':=by
 have M0:=h.alloc (.cells #[tyV o,.int .i64 n,.bool f] 311)
 have hr0:=hr.code
 have hr1:Room (putM .hole s) 2:=hr.put _
 have hc:QM o≤1:=by cases o<;>simp [Flat,QM] at *
 have hvl:=Q1J o (putM .hole s)
 have hpl:(putM .hole s).code.length=s.code.length + 1:=by simp [putM]
 obtain ⟨T,x,hT⟩:=Q03 o
 have HT:=Hid.mk hT
 rw [hT] at M0 ⊢
 clear h
 go_enter Tryz.func142,Tryz.ntmps142
 go_wp2_with fail
 refine (Q1n (v:=.iface 345 (.agg #[.int .i64 0,.bool false,.int .i64 0])) (x:=.hole) M0 ⟨_,_,rfl⟩ (by omega)).mono ?_
 rintro e w1 ⟨rfl,sl1,M1⟩
 obtain ⟨b0,b1,b2,bf⟩:=Q0i (M1.own.hf _ List.mem_cons_self).1
 go_wp2_with fail
 have V:=Q3e hf M1 (hr1.less (by omega))
 rw [HT.out] at V
 refine V.mono ?_
 rintro e w2 ⟨rfl,bs2,sl2,ks2,cv2,et2,hb2,M2⟩
 clear V M1 b0 b1 b2 bf
 go_wp2_with fail
 refine (Q1n (v:=.iface 346 (.agg #[])) (x:=.again) M2 rfl (by rw [hvl,hpl];omega)).mono ?_
 rintro e w3 ⟨rfl,sl3,M3⟩
 clear M2
 obtain ⟨b0,b1,b2,bf⟩:=Q0i (M3.own.hf _ List.mem_cons_self).1
 have hlen:(putM .again (QL o (putM .hole s))).code.length=s.code.length + QM o + 2:=by rw [Q68,hvl,hpl];omega
 obtain ⟨c0,c1,c2,c3,hfz,hlt⟩:=M3.cells
 obtain ⟨g,cap,rfl,hcap,hfr,⟨y,hy⟩,hg,M4⟩:=Cp.setCode (i:=s.code.length) (x:=.array n f ((QL o (putM .hole s)).code.length + 1)) (v:=.iface 345 (.agg #[.int .i64 n,.bool f,.int .i64 ((putM .again (QL o (putM .hole s))).code.length:Int)])) (M3.below (Below.refl _ _).drew) (by simp [Q1X,putM]) (by rw [hlen];omega)
 have M4:=Hid.mk M4
 have HH:=Hid.mk (Q2k (M3.below (Below.refl _ _).drew))
 have hidx:(s.code.length:Int) < ((putM .again (QL o (putM .hole s))).code.length:Int):=by rw [hlen];omega
 have HB2:=Hid.mk hb2
 clear M3 hb2 hlen hvl hpl
 generalize hL:(putM .again (QL o (putM .hole s))).code.length=L at *
 clear hL
 go_wp2_with fail
 refine Qu (fun w'=>w'.cell? ⟨a.C,0,none⟩=some (.slice (some ⟨g,0,none⟩) L cap)∧w'.cell? ⟨u.heap.size,1,none⟩=some (.int .i64 n)∧w'.cell? ⟨u.heap.size,2,none⟩=some (.bool f)) (L:=12) (by kernel_rfl) rfl (by kernel_rfl) (by kernel_rfl) ?_ (fun hHeld=>?_)
 ·go_keep
 refine tk (i:=0) (v:=?_) rfl (by kernel_rfl) (fun _ _ _ h=>h) (by rfl) (by assumption) ?_ ?_
 rotate_left
 ·intro w hSw;(try dsimp only at hSw);go_simp;(try with_reducible rfl)
 (try simp only [Qd,Qe,List.set])
 refine tk (i:=1) (v:=?_) rfl (by kernel_rfl) (fun _ _ _ h=>h) (by rfl) (by assumption) ?_ ?_
 rotate_left
 ·intro w hSw;(try dsimp only at hSw);go_simp;(try with_reducible rfl)
 (try simp only [Qd,Qe,List.set])
 refine tk (i:=2) (v:=?_) rfl (by kernel_rfl) (fun _ _ _ h=>h) (by rfl) (by assumption) ?_ ?_
 rotate_left
 ·intro w hSw;(try dsimp only at hSw);go_simp;(try with_reducible rfl)
 (try simp only [Qd,Qe,List.set])
 refine tk (i:=3) (v:=?_) rfl (by kernel_rfl) (fun _ _ _ h=>h) (by rfl) (by assumption) ?_ ?_
 rotate_left
 ·intro w hSw;(try dsimp only at hSw);go_simp;(try with_reducible rfl)
 (try simp only [Qd,Qe,List.set])
 refine tk (i:=4) (v:=?_) rfl (by kernel_rfl) (fun _ _ _ h=>h) (by rfl) (by assumption) ?_ ?_
 rotate_left
 ·intro w hSw;(try dsimp only at hSw);go_simp;(try with_reducible rfl)
 (try simp only [Qd,Qe,List.set])
 refine tk (i:=5) (v:=?_) rfl (by kernel_rfl) (fun _ _ _ h=>h) (by rfl) (by assumption) ?_ ?_
 rotate_left
 ·intro w hSw;(try dsimp only at hSw);go_simp;(try with_reducible rfl)
 (try simp only [Qd,Qe,List.set])
 refine tk (i:=6) (v:=?_) rfl (by kernel_rfl) (fun _ _ _ h=>h) (by rfl) (by assumption) ?_ ?_
 rotate_left
 ·intro w hSw;(try dsimp only at hSw);go_simp;(try with_reducible rfl)
 (try simp only [Qd,Qe,List.set])
 refine tk (i:=7) (v:=?_) rfl (by kernel_rfl) (fun _ _ _ h=>h) (by rfl) (by assumption) ?_ ?_
 rotate_left
 ·intro w hSw;(try dsimp only at hSw);go_simp;(try with_reducible rfl)
 (try simp only [Qd,Qe,List.set])
 refine wpAnyH_ready (rs:=[8]) (by kernel_rfl) (by simp) ?_
 refine AllReadyH.cons rfl (fun K hK=>?_) AllReadyH.nil
 (go_simp;go_at_call 95;refine HH.out.mono ?_;rintro e w5 ⟨rfl,rfl⟩)
 refine hK.out _ _ ?_ (fun hHeld=>?_)
 ·go_keep
 clear hK K
 (try simp only [Qd,Qe,List.set])
 refine tk (i:=9) (v:=?_) rfl (by kernel_rfl) (fun _ _ _ h=>h) (by rfl) (by assumption) ?_ ?_
 rotate_left
 ·intro w hSw;(try dsimp only at hSw);go_simp;(try with_reducible rfl)
 (try simp only [Qd,Qe,List.set])
 refine tk (i:=10) (v:=?_) rfl (by kernel_rfl) (fun _ _ _ h=>h) (by rfl) (by assumption) ?_ ?_
 rotate_left
 ·intro w hSw;(try dsimp only at hSw);go_simp;(try with_reducible rfl)
 (try simp only [Qd,Qe,List.set])
 refine tk (i:=11) (v:=?_) rfl (by kernel_rfl) (fun _ _ _ h=>h) (by rfl) (by assumption) ?_ ?_
 rotate_left
 ·intro w hSw;(try dsimp only at hSw);go_simp;(try with_reducible rfl)
 (try simp only [Qd,Qe,List.set])
 refine wpAnyH_done (by kernel_rfl) ?_ _
 refine QB rfl (fun K hK=>?_)
 go_simp
 refine hK.out _ _ ?_
 clear hK K
 (try simp only [Qd,Qe,List.set])
 go_wp2
 go_end0
 exact ⟨rfl,(Qz.more HB2.out M4.out.gives).tail⟩
theorem Q9k {W:World} {m:Nat} {l:List (Int×Nat×Nat)} (hb:W.heap[m]? = some (Q0O l)) (nd:(l.map (·.1)).Nodup) (k:Int) (p q:Nat) :
  (Instr.mapUpdate 318 (.map (some m)) (.int .i64 k) (.agg #[.int .i64 p,.int .i64 q])).run Tryz.prog W = .ok () (Q04 W m (Q0O (mput l k (p,q)))):=
 Q39 (P:=Tryz.prog) (T:=318) (kt:=2) (et:=323) (d:=.int .i64) (by kernel_rfl) (by kernel_rfl) (fun k:Int=>.int .i64 k) (fun q:Nat×Nat=>.agg #[.int .i64 q.1,.int .i64 q.2]) (fun _=>rfl) (fun _=>Qgq _) Qe2 hb nd k (p,q)
theorem Qcv (w:World):Calls Tryz.prog 141 #[.int .i64 4] w fun e w'=>e = .returned (.agg #[.int .i64 0,.int .i64 1,.slice none 0 0,.bool false])∧Below w.heap.size w w':=Q6K 4 w
theorem Qil (w:World) (o:Obj):w.heap.size < (w.alloc o).heap.size:=by simp
theorem Qcw {w u:World} {a:CAd} {Fr bs:List (Nat×Obj)} {s:CSt} {sl ks:Value} {cv:List (Qj×Value)} {et:List (List UInt8×NumL×Value)} {o:Ty} (hf:Flat o) (h:Cp w a Fr bs s sl ks cv et u) (hr:Room s 2) :
  Calls Tryz.prog 143 #[.pointer (some ⟨a.C,0,none⟩),.agg #[tyV o]] u fun e u'=>e = .returned (.tuple #[])∧Qz w a Fr bs (QL (.opt o) s) u':=by
 have hmm:∀ (t:TypeId) (w:World),(Instr.makeMap t none).run Tryz.prog w = .ok (.map (some w.heap.size)) (w.alloc (.map #[] 0)):=fun _ _=>rfl
 have M0:=h.alloc (.cells #[tyV o] 314)
 have hr0:=hr.code
 have hr1:Room (putM .hole s) 1:=hr.put _
 have hc:QM o≤1:=by cases o<;>simp [Flat,QM] at *
 have hvl:=Q1J o (putM .hole s)
 have hpl:(putM .hole s).code.length=s.code.length + 1:=by simp [putM]
 obtain ⟨T,x,hT⟩:=Q03 o
 have HT:=Hid.mk hT
 rw [hT] at M0 ⊢
 clear h
 go_enter Tryz.func143,Tryz.ntmps143
 go_wp2_with fail
 refine (Q1n (v:=.iface 321 (.agg #[.int .i64 0,.int .i64 0,.slice none 0 0,.bool false,.map none,.pointer none])) (x:=.hole) M0 ⟨_,_,rfl⟩ (by omega)).mono ?_
 rintro e w1 ⟨rfl,sl1,M1⟩
 have b0:=Qv (M1.own.hf _ List.mem_cons_self).1
 go_wp2_with fail
 have V:=Q3e hf M1 (hr1.less (by omega))
 rw [HT.out] at V
 refine V.mono ?_
 rintro e w2 ⟨rfl,bs2,sl2,ks2,cv2,et2,hb2,M2⟩
 clear V M1 b0
 have hlen:(QL o (putM .hole s)).code.length=s.code.length + 1 + QM o:=by rw [hvl,hpl]
 have N0:=M2.alloc (.map #[] 0)
 have p1:=Q9k (W:=w2.alloc (.map #[] 0)) (m:=w2.heap.size) (l:=[]) (Qg rfl) (by simp) 0 (QL o (putM .hole s)).code.length 0
 obtain ⟨W1,hW1⟩:∃ W1,W1=Q04 (w2.alloc (.map #[] 0)) w2.heap.size (Q0O (mput [] 0 ((QL o (putM .hole s)).code.length,0))):=⟨_,rfl⟩
 have k1:Qb [w2.heap.size] (w2.alloc (.map #[] 0)) W1:=by rw [hW1];exact Q06 _ _ _
 have q1:W1.heap[w2.heap.size]? = some (Q0O [(0,(QL o (putM .hole s)).code.length,0)]):=by rw [hW1];exact Q1k (Qil _ _) _
 have N1:=N0.setFr k1 q1
 rw [← hW1,show (((0:Nat)):Int)=0 from rfl] at p1
 have p2:=Q9k (W:=W1) (m:=w2.heap.size) q1 (by simp) 1 (s.code.length + 1) 1
 obtain ⟨W2,hW2⟩:∃ W2,W2=Q04 W1 w2.heap.size (Q0O (mput [(0,(QL o (putM .hole s)).code.length,0)] 1 (s.code.length + 1,1))):=⟨_,rfl⟩
 have k2:Qb [w2.heap.size] W1 W2:=by rw [hW2];exact Q06 _ _ _
 have q2:W2.heap[w2.heap.size]? = some (Q0O [(0,(QL o (putM .hole s)).code.length,0),(1,s.code.length + 1,1)]):=by rw [hW2];exact Q1k (Qc q1) _
 have N2:=(N1.setFr k2 q2).give
 rw [← hW2,show (((1:Nat)):Int)=1 from rfl] at p2
 rw [show (((s.code.length + 1:Nat)):Int)=(s.code.length:Int) + 1 by omega] at p2
 have HH:=Hid.mk (Q2k N0)
 obtain ⟨c0,c1,c2,c3,hfz,hlt⟩:=N2.cells
 obtain ⟨ad,cap,rfl⟩:=N2.slice
 have hidx:(s.code.length:Int) < ((QL o (putM .hole s)).code.length:Int):=by rw [hlen];omega
 have hidn:s.code.length < (QL o (putM .hole s)).code.length:=by omega
 have N2:=Hid.mk N2
 have HB2:=Hid.mk hb2
 have hs63:s.code.length < 1000000:=by omega
 clear N0 N1 M2 hb2 q1 q2 k1 k2 hW1 hW2 hlen hvl hpl
 generalize hL:(QL o (putM .hole s)).code.length=L at *
 go_wp2_with fail
 refine HH.out.mono ?_
 rintro e w5 ⟨rfl,rfl⟩
 go_wp2_with fail
 refine Qu (fun w'=>w'.cell? ⟨a.C,0,none⟩=some (.slice ad L cap)) (L:=10) (by kernel_rfl) rfl (by kernel_rfl) (by kernel_rfl) ?_ (fun hHeld=>?_)
 ·go_keep
 refine tk (i:=0) (v:=?_) rfl (by kernel_rfl) (fun _ _ _ h=>h) (by rfl) (by assumption) ?_ ?_
 rotate_left
 ·intro w hSw;(try dsimp only at hSw);go_simp;(try with_reducible rfl)
 (try simp only [Qd,Qe,List.set])
 refine tk (i:=1) (v:=?_) rfl (by kernel_rfl) (fun _ _ _ h=>h) (by rfl) (by assumption) ?_ ?_
 rotate_left
 ·intro w hSw;(try dsimp only at hSw);go_simp;(try with_reducible rfl)
 (try simp only [Qd,Qe,List.set])
 refine tk (i:=2) (v:=?_) rfl (by kernel_rfl) (fun _ _ _ h=>h) (by rfl) (by assumption) ?_ ?_
 rotate_left
 ·intro w hSw;(try dsimp only at hSw);go_simp;(try with_reducible rfl)
 (try simp only [Qd,Qe,List.set])
 refine tk (i:=3) (v:=?_) rfl (by kernel_rfl) (fun _ _ _ h=>h) (by rfl) (by assumption) ?_ ?_
 rotate_left
 ·intro w hSw;(try dsimp only at hSw);go_simp;(try with_reducible rfl)
 (try simp only [Qd,Qe,List.set])
 refine tk (i:=4) (v:=?_) rfl (by kernel_rfl) (fun _ _ _ h=>h) (by rfl) (by assumption) ?_ ?_
 rotate_left
 ·intro w hSw;(try dsimp only at hSw);go_simp;(try with_reducible rfl)
 (try simp only [Qd,Qe,List.set])
 refine tk (i:=6) (v:=?_) rfl (by kernel_rfl) (fun _ _ _ h=>h) (by rfl) (by assumption) ?_ ?_
 rotate_left
 ·intro w hSw;(try dsimp only at hSw);go_simp;(try with_reducible rfl)
 (try simp only [Qd,Qe,List.set])
 refine wpAnyH_ready (rs:=[5]) (by kernel_rfl) (by simp) ?_
 refine AllReadyH.cons rfl (fun K hK=>?_) AllReadyH.nil
 (go_simp;go_at_call 141;refine (Qcv _).mono ?_;rintro e w6 ⟨rfl,hb6⟩;have N3:=(N2.out.below (Below.refl _ _).drew).below hb6;have hc6:=N3.cells.1;obtain ⟨g,cap',hsl,hcap,hfr,⟨y,hy⟩,hg,N4⟩:=Cp.setCode (i:=s.code.length) (x:=.choice (QJ 4) [(0,L,0),(1,s.code.length + 1,1)] none) (v:=.iface 321 (.agg #[.int .i64 0,.int .i64 1,.slice none 0 0,.bool false,.map (some w2.heap.size),.pointer none])) N3 ⟨[.int .i64 0,.int .i64 1,.slice none 0 0,.bool false],w2.heap.size,.pointer none,rfl,Q6L (n:=QJ 4) _ (Q6J 4),by simp,rfl⟩ (by rw [hL];exact hidn);have N4:=Hid.mk N4;clear N3;cases hsl)
 refine hK.out _ _ ?_ (fun hHeld=>?_)
 ·go_keep
 clear hK K
 (try simp only [Qd,Qe,List.set])
 refine tk (i:=7) (v:=?_) rfl (by kernel_rfl) (fun _ _ _ h=>h) (by rfl) (by assumption) ?_ ?_
 rotate_left
 ·intro w hSw;(try dsimp only at hSw);go_simp;(try with_reducible rfl)
 (try simp only [Qd,Qe,List.set])
 refine tk (i:=8) (v:=?_) rfl (by kernel_rfl) (fun _ _ _ h=>h) (by rfl) (by assumption) ?_ ?_
 rotate_left
 ·intro w hSw;(try dsimp only at hSw);go_simp;(try with_reducible rfl)
 (try simp only [Qd,Qe,List.set])
 refine tk (i:=9) (v:=?_) rfl (by kernel_rfl) (fun _ _ _ h=>h) (by rfl) (by assumption) ?_ ?_
 rotate_left
 ·intro w hSw;(try dsimp only at hSw);go_simp;(try with_reducible rfl)
 (try simp only [Qd,Qe,List.set])
 refine wpAnyH_done (by kernel_rfl) ?_ _
 refine QB rfl (fun K hK=>?_)
 go_simp
 refine hK.out _ _ ?_
 clear hK K
 (try simp only [Qd,Qe,List.set])
 go_wp2
 go_end0
 exact ⟨rfl,(Qz.more (fun p hp=>List.mem_cons_of_mem _ (HB2.out p hp)) N4.out.gives).tail⟩
theorem QgO {w u:World} {a:CAd} {Fr bs:List (Nat×Obj)} {s:CSt} {sl ks:Value} {cv:List (Qj×Value)} {et:List (List UInt8×NumL×Value)} {o:Ty} (n:Int) (f:Bool) (hf:Flat o) (h:Cp w a Fr bs s sl ks cv et u) (hr:Room s 3) :
  Calls Tryz.prog 96 #[.pointer (some ⟨a.C,0,none⟩),.iface 311 (.agg #[tyV o,.int .i64 n,.bool f])] u fun e u'=>e = .returned (.tuple #[])∧Qz w a Fr bs (QL (.arr o n f) s) u':=by
 obtain ⟨T,x,hT⟩:=Q03 o
 have HT:=Hid.mk hT
 rw [hT]
 have t0:∀ W,(Instr.typeAssert (.iface 311 (.agg #[.iface T x,.int .i64 n,.bool f])) 193 213 true).run Tryz.prog W = .ok (.tuple #[.agg #[.string ⟨#[]⟩,.int .i64 0],.bool false]) W:=fun W=>by kernel_rfl
 have t1:∀ W,(Instr.typeAssert (.iface 311 (.agg #[.iface T x,.int .i64 n,.bool f])) 193 301 true).run Tryz.prog W = .ok (.tuple #[.agg #[.int .i64 0],.bool false]) W:=fun W=>by kernel_rfl
 have t2:∀ W,(Instr.typeAssert (.iface 311 (.agg #[.iface T x,.int .i64 n,.bool f])) 193 306 true).run Tryz.prog W = .ok (.tuple #[.agg #[.int .i64 0,.bool false],.bool false]) W:=fun W=>by kernel_rfl
 have t3:∀ W,(Instr.typeAssert (.iface 311 (.agg #[.iface T x,.int .i64 n,.bool f])) 193 309 true).run Tryz.prog W = .ok (.tuple #[.agg #[.int .i64 0,.bool false],.bool false]) W:=fun W=>by kernel_rfl
 have t4:∀ W,(Instr.typeAssert (.iface 311 (.agg #[.iface T x,.int .i64 n,.bool f])) 193 311 true).run Tryz.prog W = .ok (.tuple #[.agg #[.iface T x,.int .i64 n,.bool f],.bool true]) W:=fun W=>by kernel_rfl
 have hb:∀ o,Below u.heap.size u (u.alloc o):=fun o=>(Below.refl _ _).alloc (Nat.le_refl _) _
 have V:=fun ob=>QgN n f hf (h.below (hb ob)) hr
 rw [HT.out] at V
 have V:=Hid.mk V
 clear h hT
 go_enter Tryz.func96,Tryz.ntmps96
 go_wp2_with fail
 refine (V.out _).mono ?_
 rintro e w2 ⟨rfl,M2⟩
 go_wp2
 go_end0
 exact ⟨rfl,M2⟩
theorem QgP {w u:World} {a:CAd} {Fr bs:List (Nat×Obj)} {s:CSt} {sl ks:Value} {cv:List (Qj×Value)} {et:List (List UInt8×NumL×Value)} {o:Ty} (hf:Flat o) (h:Cp w a Fr bs s sl ks cv et u) (hr:Room s 2) :
  Calls Tryz.prog 96 #[.pointer (some ⟨a.C,0,none⟩),.iface 314 (.agg #[tyV o])] u fun e u'=>e = .returned (.tuple #[])∧Qz w a Fr bs (QL (.opt o) s) u':=by
 obtain ⟨T,x,hT⟩:=Q03 o
 have HT:=Hid.mk hT
 rw [hT]
 have t0:∀ W,(Instr.typeAssert (.iface 314 (.agg #[.iface T x])) 193 213 true).run Tryz.prog W = .ok (.tuple #[.agg #[.string ⟨#[]⟩,.int .i64 0],.bool false]) W:=fun W=>by kernel_rfl
 have t1:∀ W,(Instr.typeAssert (.iface 314 (.agg #[.iface T x])) 193 301 true).run Tryz.prog W = .ok (.tuple #[.agg #[.int .i64 0],.bool false]) W:=fun W=>by kernel_rfl
 have t2:∀ W,(Instr.typeAssert (.iface 314 (.agg #[.iface T x])) 193 306 true).run Tryz.prog W = .ok (.tuple #[.agg #[.int .i64 0,.bool false],.bool false]) W:=fun W=>by kernel_rfl
 have t3:∀ W,(Instr.typeAssert (.iface 314 (.agg #[.iface T x])) 193 309 true).run Tryz.prog W = .ok (.tuple #[.agg #[.int .i64 0,.bool false],.bool false]) W:=fun W=>by kernel_rfl
 have t4:∀ W,(Instr.typeAssert (.iface 314 (.agg #[.iface T x])) 193 311 true).run Tryz.prog W = .ok (.tuple #[.agg #[.nilIface,.int .i64 0,.bool false],.bool false]) W:=fun W=>by kernel_rfl
 have t5:∀ W,(Instr.typeAssert (.iface 314 (.agg #[.iface T x])) 193 314 true).run Tryz.prog W = .ok (.tuple #[.agg #[.iface T x],.bool true]) W:=fun W=>by kernel_rfl
 have hb:∀ o,Below u.heap.size u (u.alloc o):=fun o=>(Below.refl _ _).alloc (Nat.le_refl _) _
 have V:=fun ob=>Qcw hf (h.below (hb ob)) hr
 rw [HT.out] at V
 have V:=Hid.mk V
 clear h hT
 go_enter Tryz.func96,Tryz.ntmps96
 go_wp2_with fail
 refine (V.out _).mono ?_
 rintro e w2 ⟨rfl,M2⟩
 go_wp2
 go_end0
 exact ⟨rfl,M2⟩
theorem Q5x {w u:World} {a:CAd} {Fr bs:List (Nat×Obj)} {s:CSt} {sl ks:Value} {cv:List (Qj×Value)} {et:List (List UInt8×NumL×Value)} {t:Ty} (hf:Q0I t) (h:Cp w a Fr bs s sl ks cv et u) (hr:Room s 3) :
  Calls Tryz.prog 96 #[.pointer (some ⟨a.C,0,none⟩),tyV t] u fun e u'=>e = .returned (.tuple #[])∧Qz w a Fr bs (QL t s) u':=by
 cases t with
 | arr o n f=>exact QgO n f hf h hr
 | opt o=>exact QgP hf h (hr.less (by omega))
 | named t p=>exact Q3e (t:=.named t p) trivial h (hr.less (by omega))
 | plain k=>exact Q3e (t:=.plain k) trivial h (hr.less (by omega))
 | opaq n f=>exact Q3e (t:=.opaq n f) trivial h (hr.less (by omega))
 | str n f=>exact Q3e (t:=.str n f) trivial h (hr.less (by omega))
 | void=>exact Q3e (t:=.void) trivial h (hr.less (by omega))
theorem Q7s {w u:World} {a:CAd} {Fr bs:List (Nat×Obj)} {s:CSt} {sl ks:Value} {cv:List (Qj×Value)} {et:List (List UInt8×NumL×Value)} {t:Ty} (hf:Q0I t) (h:Cp w a Fr bs s sl ks cv et u) (hr:Room s 4) :
  Calls Tryz.prog 101 #[.pointer (some ⟨a.C,0,none⟩),tyV t] u fun e u'=>e = .returned (.int .i64 s.code.length)∧Qz w a Fr bs (startT t s) u':=by
 have hl:(QL t s).code.length < 1000000:=by
  have h1:=Q1J t s
  have h2:=Q4S hf
  have h3:=hr.code
  omega
 have V:=Hid.mk (Q5x hf h (hr.less (by omega)))
 obtain ⟨T,x,hT⟩:=Q03 t
 rw [hT] at V ⊢
 go_enter Tryz.func101,Tryz.ntmps101
 go_wp2_with fail
 refine (Q2k h).mono ?_
 rintro e w1 ⟨rfl,rfl⟩
 go_wp2_with fail
 refine V.out.mono ?_
 rintro e w2 ⟨rfl,bs2,sl2,ks2,cv2,et2,hb2,M2⟩
 go_wp2_with fail
 refine (Q1n (v:=.iface 326 (.agg #[])) (x:=.fin) M2 rfl hl).mono ?_
 rintro e w3 ⟨rfl,sl3,M3⟩
 go_wp2
 go_ret
 exact ⟨rfl,bs2,_,_,_,_,hb2,M3⟩
theorem Qz.heap {w u:World} {a:CAd} {Fr bs:List (Nat×Obj)} {s:CSt} (h:Qz w a Fr bs s u) {b:Nat} {o:Obj} (hb:w.heap[b]? = some o):u.heap[b]? = some o:=by
 obtain ⟨_,_,_,_,_,_,m⟩:=h
 exact (m.own.kp.block _ (Qc hb) (by simp)).trans hb
theorem Cp.heap {w u:World} {a:CAd} {Fr bs:List (Nat×Obj)} {s:CSt} {sl ks:Value} {cv:List (Qj×Value)} {et:List (List UInt8×NumL×Value)} (h:Cp w a Fr bs s sl ks cv et u) {b:Nat} {o:Obj} (hb:w.heap[b]? = some o):u.heap[b]? = some o:=h.gives.heap hb
theorem Q9l (ts:List Ty):∀ {s:CSt} {n:Nat},(∀ t∈ts,Q0I t)→Room s (n + 3 * ts.length)→Room (ts.foldl (fun s t=>QL t s) s) n:=by
 induction ts with
 | nil=>intro s n _ h;exact h
 | cons t ts ih=>
  intro s n hty h
  have hc:=Q4S (hty t (by simp))
  exact ih (fun t ht=>hty t (List.mem_cons_of_mem _ ht)) (Room.value t (h.less (by simp only [List.length_cons];omega)))
theorem QdD {w u:World} {a:CAd} {Fr bs:List (Nat×Obj)} {s:CSt} {sl ks:Value} {cv:List (Qj×Value)} {et:List (List UInt8×NumL×Value)} {bs0:List (Nat×Obj)} {b at':Nat} {t:List UInt8} {ms:List Qq} (hd:Q0o bs0 b (.struct t at' ms)) (hw:∀ p∈bs0,w.heap[p.1]? = some p.2) (hty:∀ m∈ms,Q0I m.ty) (h:Cp w a Fr bs s sl ks cv et u) (hr:Room s (4 + 3 * ms.length)) :
  Calls Tryz.prog 99 #[.pointer (some ⟨a.C,0,none⟩),.pointer (some ⟨b,0,none⟩)] u fun e u'=>e = .returned (.tuple #[])∧Qz w a Fr bs (Q1I ms s) u':=by
 obtain ⟨msl,hb,hsl⟩:=hd
 have hbox:=hw _ hb
 obtain ⟨k0,k1,k2,_⟩:=Q0i (h.heap hbox)
 have HB:=Hid.mk (fun (v:World) (g:Qz w a Fr bs (putM (.struct ms.length true) s) v)=>Q0i (g.heap hbox))
 have hr0:=hr.code
 have hr1:Room (putM (.struct ms.length true) s) (3 + 3 * ms.length):=Room.put (hr.less (by omega)) _
 have HRM:=Hid.mk hr1
 have HTY:=Hid.mk hty
 have H:=Hid.mk h
 clear h hty hr1 hr
 rcases hsl with ⟨rfl,h0,_⟩ | ⟨g,cap,cur,rfl,⟨hcap,hms⟩,hg,htake⟩
 ·have hnil:ms=[]:=List.length_eq_zero_iff.1 h0
  subst hnil
  go_enter Tryz.func99,Tryz.ntmps99
  go_wp2_with fail
  refine (Q1n (x:=.struct 0 true) H.out rfl (by omega)).mono ?_
  rintro e w1 ⟨rfl,sl1,M1⟩
  obtain ⟨q0,q1,q2,_⟩:=HB.out _ M1.gives
  have G1:=Hid.mk M1.gives
  clear M1
  go_wp2
  go_loopw [21] (fun i ur=>i = .int .i64 0∧ur=w1) (fun _ _=>0)
  case atStart=>exact ⟨rfl,rfl⟩
  case round=>
   obtain ⟨rfl,rfl⟩:=hrel
   go_wp2
   go_end0
   exact ⟨rfl,G1.out⟩
 ·have hgw:=hw _ hg
  have hrow:∀ (v:World) (s':CSt),Qz w a Fr bs s' v→∀ i (hi:i < ms.length),v.cell? ⟨g,i * 3,none⟩=some (.string ⟨ms[i].t.toArray⟩)∧v.cell? ⟨g,i * 3 + 1,none⟩=some (.int .i64 ms[i].at')∧v.cell? ⟨g,i * 3 + 2,none⟩=some (tyV ms[i].ty):=by
   intro v s' gv i hi
   have hgb:=gv.heap hgw
   have hf:=Q2g (c:=Q1Z) (n:=3) (fun _=>rfl) ms i
   refine ⟨Qs hgb htake ?_,Qs hgb htake ?_,Qs hgb htake ?_⟩
   ·have:=hf 0 hi (by omega);simpa using this
   ·have:=hf 1 hi (by omega);simpa using this
   ·have:=hf 2 hi (by omega);simpa using this
  have HR:=Hid.mk hrow
  clear hrow
  go_enter Tryz.func99,Tryz.ntmps99
  go_wp2_with fail
  refine (Q1n (x:=.struct ms.length true) H.out rfl (by omega)).mono ?_
  rintro e w1 ⟨rfl,sl1,M1⟩
  obtain ⟨q0,q1,q2,_⟩:=HB.out _ M1.gives
  have G1:=Hid.mk M1.gives
  clear M1
  go_wp2
  go_loopw [21] (fun i ur=>∃ (k:Nat),i = .int .i64 k∧k≤ms.length∧Hid (Qz w a Fr bs ((ms.take k).foldl (fun s m=>QL m.ty s) (putM (.struct ms.length true) s)) ur)) (fun i _=>ms.length - (intOf i).toNat)
  case atStart=>exact ⟨0,rfl,by omega,G1⟩
  case round=>
   obtain ⟨k,rfl,hk,G⟩:=hrel
   clear G1
   rcases Nat.lt_or_ge k ms.length with hlt | hge
   ·obtain ⟨p0,p1,p2⟩:=HR.out _ _ G.out k hlt
    obtain ⟨T1,v1,h1⟩:=Q03 ms[k].ty
    have HT:=Hid.mk h1
    rw [h1] at p2
    have hi0:(0:Int)≤↑k:=by omega
    have hi1:(↑k:Int) < ↑ms.length:=by omega
    obtain ⟨bs2,sl2,ks2,cv2,et2,hb2,M2⟩:=G.out
    have hrm:Room ((ms.take k).foldl (fun s m=>QL m.ty s) (putM (.struct ms.length true) s)) 3:=by
     have e:=Q9l ((ms.take k).map (·.ty)) (s:=putM (.struct ms.length true) s) (n:=3) (by intro t ht;obtain ⟨m,hm,rfl⟩:=List.mem_map.1 ht;exact HTY.out m (List.mem_of_mem_take hm)) (HRM.out.less (by simp;omega))
     rw [List.foldl_map] at e
     exact e
    have V:=fun ob=>Q5x (HTY.out ms[k] (List.getElem_mem hlt)) (M2.below ((Below.refl wr.heap.size wr).alloc (Nat.le_refl _) ob)) hrm
    rw [HT.out] at V
    have V:=Hid.mk V
    have HB2:=Hid.mk hb2
    clear M2 hb2 h1 hrm
    go_wp2_with fail
    refine (V.out _).mono ?_
    rintro e w2 ⟨rfl,M3⟩
    have G3:Hid (Qz w a Fr bs ((ms.take (k + 1)).foldl (fun s m=>QL m.ty s) (putM (.struct ms.length true) s)) w2):=by
     rw [List.take_succ_eq_append_getElem hlt,List.foldl_append]
     exact Qz.more HB2.out M3
    clear M3
    go_wp2
    exact ⟨⟨k + 1,by go_num,by omega,G3⟩,by simp [intOf];omega⟩
   ·have hkk:k=ms.length:=by omega
    subst hkk
    go_wp2
    go_end0
    refine ⟨rfl,?_⟩
    have:=G.out
    rw [List.take_length] at this
    exact this
abbrev numA (lo hi:Int) (a:Option Addr) (b c:Nat) (wd:Bool):List Value:=[.int .i64 lo,.int .i64 hi,.slice a b c,.bool wd]
theorem Q16.parts {bs:List (Nat×Obj)} {cs:List Value} {n:NumL} (h:Q16 bs cs n):∃ lo hi a b c wd,cs=numA lo hi a b c wd:=by
 obtain ⟨m,h1,_,x,y,z,rfl⟩:=h
 exact ⟨_,_,_,_,_,_,h1⟩
theorem Qf7 {w u:World} {a:CAd} {Fr bs:List (Nat×Obj)} {s:CSt} {sl ks:Value} {cv:List (Qj×Value)} {et:List (List UInt8×NumL×Value)} {t:Ty} (ht:Q0J t) (h:Cp w a Fr bs s sl ks cv et u) :
  Calls Tryz.prog 144 #[.pointer (some ⟨a.C,0,none⟩),tyV t] u fun e u'=>∃ lo hi x y z wd,e = .returned (.agg (numA lo hi x y z wd).toArray)∧Q16 bs (numA lo hi x y z wd) (Q0n s t)∧Below u.heap.size u u':=by
 have hb1:∀ o,Below u.heap.size u (u.alloc o):=fun o=>(Below.refl _ _).alloc (Nat.le_refl _) _
 have hb2:∀ o o',Below u.heap.size u ((u.alloc o).alloc o'):=fun o o'=>(hb1 o).alloc (by simp) _
 cases t with
 | named n p=>
  have t0:∀ W,(Instr.typeAssert (.iface 213 (.agg #[.string ⟨n.toArray⟩,.int .i64 p])) 193 213 true).run Tryz.prog W = .ok (.tuple #[.agg #[.string ⟨n.toArray⟩,.int .i64 p],.bool true]) W:=fun W=>by kernel_rfl
  have hM:=(h.below (hb2 (.cells #[.int .i64 0,.int .i64 0,.slice none 0 0,.bool false] 200) (.cells #[.string ⟨n.toArray⟩,.int .i64 p] 213))).below (Below.refl _ _).drew
  obtain ⟨v,hlk,cs,rfl,hN⟩:=hM.lookEnum n
  obtain ⟨lo,hi,x,y,z,wd,rfl⟩:=hN.parts
  obtain ⟨c0,c1,c2,c3,hfz,hlt⟩:=h.cells
  have HN:=Hid.mk hN
  clear h hM hN
  dsimp only [tyV]
  go_enter Tryz.func144,Tryz.ntmps144
  go_wp2
  go_region
  go_wp2
  refine bodyPost_ret (v:=.agg #[.int .i64 lo,.int .i64 hi,.slice x y z,.bool wd]) (by simp [results,Tryz.results144,go_sem]) rfl ⟨lo,hi,x,y,z,wd,rfl,HN.out,?_⟩
  exact (hb2 _ _).drew
 | plain k=>
  have t0:∀ W,(Instr.typeAssert (.iface 301 (.agg #[.int .i64 k])) 193 213 true).run Tryz.prog W = .ok (.tuple #[.agg #[.string ⟨#[]⟩,.int .i64 0],.bool false]) W:=fun W=>by kernel_rfl
  have t1:∀ W,(Instr.typeAssert (.iface 301 (.agg #[.int .i64 k])) 193 301 true).run Tryz.prog W = .ok (.tuple #[.agg #[.int .i64 k],.bool true]) W:=fun W=>by kernel_rfl
  clear h
  dsimp only [tyV]
  go_enter Tryz.func144,Tryz.ntmps144
  go_wp2_with fail
  refine (Q6K k _).mono ?_
  rintro e w2 ⟨rfl,hbw⟩
  have hR:w2.heap[u.heap.size]? = some (.cells #[.int .i64 0,.int .i64 0,.slice none 0 0,.bool false] 200):=
   (hbw.block _ (by simp;omega)).trans ((Below.heap_alloc _ _ _ (by simp)).trans (Qg rfl))
  obtain ⟨r0,r1,r2,r3,hfr⟩:=Q0t hR
  have hlt:=Qc hR
  obtain ⟨q0,q1,q2,q3,_⟩:=Q0t (Qaf (k':=.int .i64 (QJ k).low) (t':=.int .i64 (QJ k).high) (n':=.slice none 0 0) (a':=.bool (QJ k).wide) hR)
  have HF:=Hid.mk (((((hb2 _ _).trans (hbw.mono (by simp;omega))).setCell (p:=⟨u.heap.size,0,none⟩) (Nat.le_refl _) (.int .i64 (QJ k).low)).setCell (p:=⟨u.heap.size,1,none⟩) (Nat.le_refl _) (.int .i64 (QJ k).high)).setCell (p:=⟨u.heap.size,2,none⟩) (Nat.le_refl _) (.slice none 0 0) |>.setCell (p:=⟨u.heap.size,3,none⟩) (Nat.le_refl _) (.bool (QJ k).wide))
  clear hbw hR hb1 hb2
  go_wp2
  exact bodyPost_ret (v:=.agg #[.int .i64 (QJ k).low,.int .i64 (QJ k).high,.slice none 0 0,.bool (QJ k).wide]) (by simp [results,Tryz.results144,go_sem,q0,q1,q2,q3]) rfl ⟨(QJ k).low,(QJ k).high,none,0,0,(QJ k).wide,rfl,Q6L _ (Q6J k),HF.out⟩
 | _=>simp [Q0J] at ht
theorem Qku {w u:World} {a:CAd} {Fr bs:List (Nat×Obj)} {s:CSt} {sl ks:Value} {cv:List (Qj×Value)} {et:List (List UInt8×NumL×Value)} {d:Qq} {ca:Option Addr} {cn cc:Nat} (hty:Q0I d.ty) (h:Cp w a Fr bs s sl ks cv et u) (hr:Room s 3) :
  Calls Tryz.prog 145 #[.pointer (some ⟨a.C,0,none⟩),.agg #[.slice ca cn cc,.string ⟨d.t.toArray⟩,.int .i64 d.at',tyV d.ty]] u fun e u'=>e = .returned (.agg #[.int .i64 (wayM d s).1,.int .i64 (wayM d s).2])∧Qz w a Fr bs (armM d s) u':=by
 have M0:=(h.alloc (.cells #[.slice ca cn cc,.string ⟨d.t.toArray⟩,.int .i64 d.at',tyV d.ty] 292)).alloc (.cells #[.int .i64 0,.int .i64 0] 323)
 have HH:=Hid.mk (Q2k M0)
 have M1:=M0.alloc (.cells #[.int .i64 s.code.length,.int .i64 1] 323)
 cases hv:Q3v d.ty with
 | true=>
  have hvoid:d.ty = .void:=by cases hd:d.ty<;>rw [hd] at hv<;>simp [Q3v] at hv
  have hta:∀ W,(Instr.typeAssert (.iface 340 (.agg #[])) 193 340 true).run Tryz.prog W = .ok (.tuple #[.agg #[],.bool true]) W:=fun W=>by kernel_rfl
  have E1:Hid (wayM d s=(s.code.length,0)):=by show _=_;simp [wayM,hvoid,Q3v]
  have E2:Hid (armM d s=s):=by show _=_;simp [armM,hvoid,QL]
  rw [hvoid] at M0 M1 HH ⊢
  dsimp only [tyV] at M0 M1 HH ⊢
  have H:=Hid.mk h
  clear h M0 M1 hvoid hv hty
  go_enter Tryz.func145,Tryz.ntmps145
  go_wp2_with fail
  refine HH.out.mono ?_
  rintro e w2 ⟨rfl,rfl⟩
  go_wp2
  refine bodyPost_ret (v:=.agg #[.int .i64 s.code.length,.int .i64 0]) (by simp [results,Tryz.results145,go_sem]) rfl ⟨by rw [E1.out];rfl,?_⟩
  rw [E2.out]
  exact ((((H.out.alloc _).alloc _).alloc _).tail.tail.tail).gives
 | false=>
  have hta:∀ W,(Instr.typeAssert (tyV d.ty) 193 340 true).run Tryz.prog W = .ok (.tuple #[.agg #[],.bool false]) W:=by
   intro W
   cases hd:d.ty with
   | void=>rw [hd] at hv;simp [Q3v] at hv
   | _=>kernel_rfl
  have E1:Hid (wayM d s=(s.code.length,1)):=by show _=_;simp [wayM,hv]
  obtain ⟨T,x,hT⟩:=Q03 d.ty
  have V:=Q5x hty M1 hr
  rw [hT] at M0 M1 HH hta V ⊢
  have V:=Hid.mk V
  clear h M0 M1 hv hty hT
  go_enter Tryz.func145,Tryz.ntmps145
  go_wp2_with fail
  refine HH.out.mono ?_
  rintro e w2 ⟨rfl,rfl⟩
  go_wp2_with fail
  refine V.out.mono ?_
  rintro e w3 ⟨rfl,bs3,sl3,ks3,cv3,et3,hb3,M3⟩
  have o5:=(M3.own.hf _ List.mem_cons_self).1
  have oR:=(M3.own.hf _ (List.mem_cons_of_mem _ List.mem_cons_self)).1
  have M4:=M3.tail
  simp only [World.size_alloc,Nat.add_assoc] at o5 oR M4
  clear M3
  have c5:w3.cell? ⟨u.heap.size + 2,0,none⟩=some (.int .i64 s.code.length)∧w3.cell? ⟨u.heap.size + 2,1,none⟩=some (.int .i64 1):=by constructor<;>simp [World.cell?,o5]
  have cR:w3.cell? ⟨u.heap.size + 1,0,none⟩=some (.int .i64 0)∧w3.cell? ⟨u.heap.size + 1,1,none⟩=some (.int .i64 0)∧∀ i,w3.frozen? ⟨u.heap.size + 1,i,none⟩=false:=by refine ⟨?_,?_,?_⟩<;>simp [World.cell?,World.frozen?,oR]
  obtain ⟨c50,c51⟩:=c5
  obtain ⟨cR0,cR1,cRf⟩:=cR
  have oR1:=Qn (i:=1) (Qn (i:=0) oR (.int .i64 s.code.length)) (.int .i64 1)
  have cQ:((w3.setCell ⟨u.heap.size + 1,0,none⟩ (.int .i64 s.code.length)).setCell ⟨u.heap.size + 1,1,none⟩ (.int .i64 1)).cell? ⟨u.heap.size + 1,0,none⟩=some (.int .i64 s.code.length)∧((w3.setCell ⟨u.heap.size + 1,0,none⟩ (.int .i64 s.code.length)).setCell ⟨u.heap.size + 1,1,none⟩ (.int .i64 1)).cell? ⟨u.heap.size + 1,1,none⟩=some (.int .i64 1):=by constructor<;>simp [World.cell?,oR1]
  obtain ⟨cQ0,cQ1⟩:=cQ
  have M5:=M4.setFr (((Qb.refl [u.heap.size + 1] w3).setIn (p:=⟨u.heap.size + 1,0,none⟩) (by simp) (.int .i64 s.code.length)).setIn (p:=⟨u.heap.size + 1,1,none⟩) (by simp) (.int .i64 1)) oR1
  have M5:=Hid.mk M5
  have hltR:=Qc oR
  have HB:=Hid.mk hb3
  clear M4 o5 oR oR1 hb3
  go_wp2
  refine bodyPost_ret (v:=.agg #[.int .i64 s.code.length,.int .i64 1]) (by simp [results,Tryz.results145,go_sem,cQ0,cQ1]) rfl ⟨by rw [E1.out];rfl,?_⟩
  exact Qz.more HB.out M5.out.tail.tail.gives
abbrev Q75 (sl:Value):Obj:=.cells #[.int .i64 (-2147483648),.int .i64 2147483647,sl,.bool false] 200
abbrev Q5K:Obj:=.cells #[.int .i64 0,.int .i64 0,.slice none 0 0,.bool false] 200
structure Q54 (u:World) (k:Nat) (ns:List Int) (sl:Value) (v:World):Prop where
 own:Own u ([u.heap.size + 1]++(sl.ownBlock.toList++[])) [(u.heap.size,Q5K)] [] v
 box:v.heap[u.heap.size + 1]? = some (Q75 sl)
 row:v.ownsRow u.heap.size 2 1 sl k (ns.map fun n=>Value.int .i64 n)
 nn:k=0→sl = .slice none 0 0
theorem Q54.step {u v v2 v3:World} {k g cap:Nat} {ns:List Int} {sl:Value} {n:Int} (m:Q54 u k ns sl v) (hb:Below v.heap.size v v2)
  (hown:v3.ownsRow u.heap.size 2 1 (.slice (some ⟨g,0,none⟩) (k + 1) cap) (k + 1) ((ns.map fun n=>Value.int .i64 n)++[.int .i64 n])) (hg:v2.grownBy v3 sl.ownBlock) (hat:sl.ownBlock=some g∨g=v2.heap.size) (hlt:g < v3.heap.size) :
  Q54 u (k + 1) (ns++[n]) (.slice (some ⟨g,0,none⟩) (k + 1) cap) (v3.setCell ⟨u.heap.size + 1,2,none⟩ (.slice (some ⟨g,0,none⟩) (k + 1) cap)):=by
 obtain ⟨hwg,_⟩:=Q0z hown (g:=g) rfl
 have e2:=m.own.below hb
 have hkg:=Q05 hg
 have ho:=Own.grow (A:=[u.heap.size + 1]) (B:=[]) e2 hg hat hlt hwg
 have hks:Qb [u.heap.size + 1] v3 (v3.setCell ⟨u.heap.size + 1,2,none⟩ (.slice (some ⟨g,0,none⟩) (k + 1) cap)):=(Qb.refl [u.heap.size + 1] v3).setIn (by simp) _
 have hn:=m.own.nd
 have hn2:=ho.nd
 simp at hn hn2
 have hd:u.heap.size + 1 ∉ sl.ownBlock.toList:=by
  intro hm
  exact hn.1 (by simpa using hm)
 have box2:v2.heap[u.heap.size + 1]? = some (Q75 sl):=(hb.block _ (Qc m.box)).trans m.box
 refine ⟨ho.turn hks (by simp),Qn (i:=2) ((hkg.block _ (Qc box2) hd).trans box2) _,?_,by omega⟩
 have:=Qk hown hks (by
  intro g' h'
  simp only [Value.ownBlock,Option.some.injEq] at h'
  subst h'
  simp
  omega)
 simpa using this
theorem Q54.slice {u v:World} {k:Nat} {ns:List Int} {sl:Value} (m:Q54 u k ns sl v):∃ ad cap,sl = .slice ad k cap:=by
 rcases m.row.2 with ⟨rfl,h0⟩ | ⟨g,cap,cur,rfl,_⟩
 ·exact ⟨none,0,by rw [h0]⟩
 ·exact ⟨_,_,rfl⟩
theorem Q54.boxAt {u v v2 v3:World} {k:Nat} {ns:List Int} {sl:Value} (m:Q54 u k ns sl v) (hb:Below v.heap.size v v2) (hg:v2.grownBy v3 sl.ownBlock):v3.heap[u.heap.size + 1]? = some (Q75 sl):=by
 have hl:=Qc m.box
 have hn:=m.own.nd
 have hz:=hb.size
 simp at hn
 exact (hg.block _ (by omega) (fun e=>hn.1 (by rw [← e]))).trans ((hb.block _ hl).trans m.box)
theorem Qcx (u:World):Q54 u 0 [] (.slice none 0 0) ((u.alloc Q5K).alloc (Q75 (.slice none 0 0))):=by
 have e1:(u.alloc Q5K).heap.size=u.heap.size + 1:=by simp
 refine ⟨⟨((Qb.refl [] u).alloc _).alloc _,?_,?_,by simp [Value.ownBlock],?_,?_,by simp,by simp,by simp⟩,Qg e1.symm,⟨by simp,Or.inl ⟨rfl,rfl⟩⟩,fun _=>rfl⟩
 ·intro y hy
  simp [Value.ownBlock] at hy
  omega
 ·intro y hy
  simp [Value.ownBlock] at hy
  simp
  omega
 ·intro p hp
  simp only [List.mem_singleton] at hp
  subst hp
  refine ⟨(Below.heap_alloc _ _ _ (by simp)).trans (Qg rfl),by simp [Value.ownBlock]⟩
 ·intro p hp
  cases hp
def Qjw (u:World) (ms:List (List UInt8×Nat×Int)) (e:Ending) (u':World):Prop:=∃ lo hi x y z wd bs',e = .returned (.agg (numA lo hi x y z wd).toArray)∧Q16 bs' (numA lo hi x y z wd) (Q0p ms)∧Below u.heap.size u u'∧∀ p∈bs',u'.heap[p.1]? = some p.2∧u.heap.size≤p.1
theorem QgQ {u:World} {bs0:List (Nat×Obj)} {b at':Nat} {t:List UInt8} {ms:List (List UInt8×Nat×Int)} (hd:Q0o bs0 b (.enum t at' ms)) (hw:∀ p∈bs0,u.heap[p.1]? = some p.2) :
  Calls Tryz.prog 97 #[.pointer (some ⟨b,0,none⟩)] u (Qjw u ms):=by
 obtain ⟨msl,ps,hb,hpl,hsl,hea⟩:=hd
 have hbox:=hw _ hb
 obtain ⟨k0,k1,k2,_⟩:=Q0i hbox
 obtain ⟨i0,hi0,hz0,hz1,hz2⟩:=info_parts QdV
 have M0:=Hid.mk (Qcx u)
 have hlb:=Qc hbox
 have fin:∀ (sl:Value) (v:World),Q54 u ms.length (ms.map (·.2.2)) sl v→ms.length≤1000→∃ x y z bs',sl = .slice x y z∧Q16 bs' (numA (-2147483648) 2147483647 x y z false) (Q0p ms)∧(∀ p∈bs',p.1≠u.heap.size∧v.heap[p.1]? = some p.2∧u.heap.size≤p.1):=by
  intro sl v m hle
  rcases m.row.2 with ⟨rfl,h0⟩ | ⟨g,cap,cur,rfl,hg1,hg2,hg3,hg4,hg5,hg6⟩
  ·have hnil:ms=[]:=List.length_eq_zero_iff.1 h0
   subst hnil
   exact ⟨none,0,0,[],rfl,⟨_,rfl,by simp [Q0p,Qbs],_,_,_,rfl⟩,by intro p hp;cases hp⟩
  ·refine ⟨_,_,_,[(g,.cells cur 2)],rfl,⟨_,rfl,?_,_,_,_,rfl⟩,?_⟩
   ·simp only [Q0p]
    by_cases hnil:ms=[]
    ·have:=m.nn (by simp [hnil])
     cases this
    ·rw [if_neg hnil]
     refine ⟨by simpa using hnil,Or.inr ⟨g,cap,cur,by simp,⟨by simpa using hg3,by simpa using hle⟩,by simp,?_⟩⟩
     simpa using hg6
   ·intro p hp
    simp only [List.mem_singleton] at hp
    subst hp
    have:=m.own.hf (u.heap.size,Q5K) (by simp)
    refine ⟨fun e=>this.2 ?_,hg2,hg1⟩
    simp only at e
    simp [Value.ownBlock,e]
 have HF:=Hid.mk fin
 clear fin
 have e1:((u.alloc Q5K).alloc (Q75 (.slice none 0 0))).cell? ⟨b,2,none⟩=some msl:=by
  rw [World.cell?_of_block (w:=u) (((Qcx u).own.kp.block _ hlb (by simp)))]
  exact k2
 rcases hsl with ⟨rfl,h0,_⟩ | ⟨g,cap,cur,rfl,⟨hcap,hms⟩,hg,htake⟩
 ·have hnil:ms=[]:=List.length_eq_zero_iff.1 h0
  subst hnil
  go_enter Tryz.func97,Tryz.ntmps97
  go_wp2
  go_loopw [12] (fun i ur=>i = .int .i64 0∧ur=(u.alloc Q5K).alloc (Q75 (.slice none 0 0))) (fun _ _=>0)
  case atStart=>exact ⟨rfl,rfl⟩
  case round=>
   obtain ⟨rfl,rfl⟩:=hrel
   go_wp2
   refine bodyPost_ret (v:=.agg #[.int .i64 (-2147483648),.int .i64 2147483647,.slice none 0 0,.bool false]) (by simp [results,Tryz.results97,go_sem]) rfl ⟨-2147483648,2147483647,none,0,0,false,[],rfl,⟨_,rfl,by simp [Q0p,Qbs],_,_,_,rfl⟩,?_,by intro p hp;cases hp⟩
   exact ((Below.refl _ _).alloc (Nat.le_refl _) _).alloc (by simp) _
 ·have hrow:∀ (v:World),Qb [] u v→∀ i (hi:i < ms.length) (hi':i < ps.length),v.cell? ⟨g,i,none⟩=some (.pointer (some ⟨ps[i],0,none⟩))∧v.cell? ⟨ps[i],2,none⟩=some (.int .i64 ms[i].2.2)∧ps[i] < u.heap.size∧u.cell? ⟨ps[i],2,none⟩=some (.int .i64 ms[i].2.2):=by
   intro v hv i hi hi'
   have hgb:=(hv.block _ (Qc (hw _ hg)) (by simp)).trans (hw _ hg)
   have hc:=hw _ (hea i hi hi')
   have hcb:=(hv.block _ (Qc hc) (by simp)).trans hc
   exact ⟨Qs hgb htake (by simp [hi']),(Q0i hcb).2.2.1,Qc hc,(Q0i hc).2.2.1⟩
  have HR:=Hid.mk hrow
  clear hrow
  go_enter Tryz.func97,Tryz.ntmps97
  go_wp2
  go_loopw [12] (fun i ur=>∃ (k:Nat) (sl:Value),i = .int .i64 k∧k≤ms.length∧Hid (Q54 u k ((ms.take k).map (·.2.2)) sl ur)) (fun i _=>ms.length - (intOf i).toNat)
  case atStart=>exact ⟨0,_,rfl,by omega,M0⟩
  case round=>
   obtain ⟨k,sl,rfl,hk,M⟩:=hrel
   clear M0
   rcases Nat.lt_or_ge k ms.length with hlt | hge
   ·obtain ⟨q0,q1,q2,q5⟩:=HR.out _ M.out.own.kp k hlt (by omega)
    obtain ⟨ad,cap',rfl⟩:=M.out.slice
    obtain ⟨d0,d1,d2,d3,dfr⟩:=Q0t M.out.box
    have hk0:(0:Int)≤↑k:=by omega
    have hk1:(↑k:Int) < ↑ms.length:=by omega
    have hl1:k + 1≤maxLen:=by unfold maxLen;omega
    have hl2:(k + 1) * 8≤140737488355328:=by omega
    have hz3:(Value.int .i64 0).cells.size=1:=rfl
    have hwl:u.heap.size≤wr.heap.size:=M.out.own.kp.size
    have hdl:u.heap.size + 1 < wr.heap.size:=Qc M.out.box
    go_wp2_with fail
    refine Qu (fun w'=>w'.cell? ⟨u.heap.size + 1,2,none⟩=some (.slice ad k cap')∧w'.cell? ⟨ps[k],2,none⟩=some (.int .i64 ms[k].2.2)) (L:=9) (by kernel_rfl) rfl (by kernel_rfl) (by kernel_rfl) ?_ (fun hHeld=>?_)
    ·go_keep
    refine tk (i:=0) (v:=?_) rfl (by kernel_rfl) (fun _ _ _ h=>h) (by rfl) (by assumption) ?_ ?_
    rotate_left
    ·intro w hSw;(try dsimp only at hSw);go_simp;(try with_reducible rfl)
    (try simp only [Qd,Qe,List.set])
    refine tk (i:=1) (v:=?_) rfl (by kernel_rfl) (fun _ _ _ h=>h) (by rfl) (by assumption) ?_ ?_
    rotate_left
    ·intro w hSw;(try dsimp only at hSw);go_simp;(try with_reducible rfl)
    (try simp only [Qd,Qe,List.set])
    refine tk (i:=2) (v:=?_) rfl (by kernel_rfl) (fun _ _ _ h=>h) (by rfl) (by assumption) ?_ ?_
    rotate_left
    ·intro w hSw;(try dsimp only at hSw);go_simp;(try with_reducible rfl)
    (try simp only [Qd,Qe,List.set])
    refine tk (i:=3) (v:=?_) rfl (by kernel_rfl) (fun _ _ _ h=>h) (by rfl) (by assumption) ?_ ?_
    rotate_left
    ·intro w hSw;(try dsimp only at hSw);go_simp;(try with_reducible rfl)
    (try simp only [Qd,Qe,List.set])
    refine tk (i:=4) (v:=?_) rfl (by kernel_rfl) (fun _ _ _ h=>h) (by rfl) (by assumption) ?_ ?_
    rotate_left
    ·intro w hSw;(try dsimp only at hSw);go_simp;(try with_reducible rfl)
    (try simp only [Qd,Qe,List.set])
    refine tk (i:=5) (v:=?_) rfl (by kernel_rfl) (fun _ _ _ h=>h) (by rfl) (by assumption) ?_ ?_
    rotate_left
    ·intro w hSw;(try dsimp only at hSw);go_simp;(try with_reducible rfl)
    (try simp only [Qd,Qe,List.set])
    refine wpAnyH_ready (rs:=[6]) (by kernel_rfl) (by simp) ?_
    refine AllReadyH.cons rfl (fun K hK=>?_) AllReadyH.nil
    go_simp
    refine hK.out _ _ ?_ (fun hHeld=>?_)
    ·go_keep
    clear hK K
    (try simp only [Qd,Qe,List.set])
    refine wpAnyH_ready (rs:=[7]) (by kernel_rfl) (by simp) ?_
    refine AllReadyH.cons rfl (fun K hK=>?_) AllReadyH.nil
    (refine step_append_lies _ (by rfl) _ _ _ (by rfl) u.heap.size 2 i0 _ 1 8 Tryz.underlying198 hi0 hz0 hz1 hz2 hz3 (by omega) (.slice ad k cap') k (((ms.take k).map (·.2.2)).map fun n=>Value.int .i64 n) (by rfl) (Qk (M.out.row) (((Qb.refl [] wr).alloc _).drew) (by simp)) ⟨wr.heap.size,0,none⟩ 1 1 [.int .i64 ms[k].2.2] (by rfl) (by rfl) (World.news_of_block (cs:=#[.int .i64 ms[k].2.2]) (t:=2) (fr:=(0,0)) (heap_alloc_new wr _)) (by simp [Value.oneCell']) (by omega) hl1 hl2 (by simp;omega) (wr.heap.size + 1) (by simp) ?_;intro g' cap2 w6 hown6 hgrow hat hlt6;have hbb:Below wr.heap.size wr (wr.alloc (.cells #[.int .i64 ms[k].2.2] 2)).drew:=((Below.refl _ _).alloc (Nat.le_refl _) _).drew;obtain ⟨z0,z1,z2,z3,zfr⟩:=Q0t (M.out.boxAt hbb hgrow);have zlt:=Qc (M.out.boxAt hbb hgrow);have z5:w6.cell? ⟨ps[k],2,none⟩=some (.int .i64 ms[k].2.2):=by rw [World.cell?_of_block (w:=u) (((M.out.own.below hbb).kp.young (Q05 hgrow) (by intro x hx;exact Or.inr (M.out.own.new _ (by simp at hx ⊢;exact Or.inr hx)))).block _ q2 (by simp))];exact q5)
    refine hK.out _ _ ?_ (fun hHeld=>?_)
    ·go_keep
    clear hK K
    (try simp only [Qd,Qe,List.set])
    refine tk (i:=8) (v:=?_) rfl (by kernel_rfl) (fun _ _ _ h=>h) (by rfl) (by assumption) ?_ ?_
    rotate_left
    ·intro w hSw;(try dsimp only at hSw);go_simp;(try with_reducible rfl)
    (try simp only [Qd,Qe,List.set])
    refine wpAnyH_done (by kernel_rfl) ?_ _
    refine QB rfl (fun K hK=>?_)
    go_simp
    refine hK.out _ _ ?_
    clear hK K
    (try simp only [Qd,Qe,List.set])
    have M6:=Hid.mk (M.out.step (n:=ms[k].2.2) hbb hown6 hgrow (by simpa using hat) hlt6)
    go_wp2
    refine ⟨⟨k + 1,.slice (some ⟨g',0,none⟩) (k + 1) cap2,by go_num,by omega,?_⟩,by simp [intOf];omega⟩
    have e9:(ms.take (k + 1)).map (·.2.2)=(ms.take k).map (·.2.2)++[ms[k].2.2]:=by rw [List.take_succ_eq_append_getElem hlt,List.map_append];rfl
    rw [e9]
    exact M6
   ·have hkk:k=ms.length:=by omega
    subst hkk
    have m:=M.out
    rw [List.take_length] at m
    obtain ⟨x,y,z,bs',rfl,hN,hbs⟩:=HF.out _ _ m hms
    obtain ⟨d0,d1,d2,d3,dfr⟩:=Q0t m.box
    have hR:=(m.own.hf _ List.mem_cons_self).1
    obtain ⟨r0,r1,r2,r3,rfr⟩:=Q0t hR
    have hRl:=Qc hR
    obtain ⟨p0,p1,p2,p3,_⟩:=Q0t (Qaf (k':=.int .i64 (-2147483648)) (t':=.int .i64 2147483647) (n':=.slice x y z) (a':=.bool false) hR)
    have kp:=Hid.mk m.own.kp
    have HN:=Hid.mk hN
    have HB:=Hid.mk hbs
    clear m M hN hbs hR
    go_wp2
    refine bodyPost_ret (v:=.agg #[.int .i64 (-2147483648),.int .i64 2147483647,.slice x y z,.bool false]) (by simp [results,Tryz.results97,go_sem,p0,p1,p2,p3]) rfl ⟨-2147483648,2147483647,x,y,z,false,bs',rfl,HN.out,?_,?_⟩
    ·have hb0:Below u.heap.size u wr:=⟨kp.out.os,kp.out.tape,kp.out.output,kp.out.size,fun k hk=>kp.out.block k hk (by simp)⟩
     exact (((hb0.setCell (p:=⟨u.heap.size,0,none⟩) (Nat.le_refl _) _).setCell (p:=⟨u.heap.size,1,none⟩) (Nat.le_refl _) _).setCell (p:=⟨u.heap.size,2,none⟩) (Nat.le_refl _) _).setCell (p:=⟨u.heap.size,3,none⟩) (Nat.le_refl _) _
    ·intro p hp
     obtain ⟨h1,h2,h3⟩:=HB.out p hp
     refine ⟨?_,h3⟩
     have hk:Qb [u.heap.size] wr ((((wr.setCell ⟨u.heap.size,0,none⟩ (.int .i64 (-2147483648))).setCell ⟨u.heap.size,1,none⟩ (.int .i64 2147483647)).setCell ⟨u.heap.size,2,none⟩ (.slice x y z)).setCell ⟨u.heap.size,3,none⟩ (.bool false)):=
      ((((Qb.refl [u.heap.size] wr).setIn (p:=⟨u.heap.size,0,none⟩) (by simp) _).setIn (p:=⟨u.heap.size,1,none⟩) (by simp) _).setIn (p:=⟨u.heap.size,2,none⟩) (by simp) _).setIn (p:=⟨u.heap.size,3,none⟩) (by simp) _
     exact (hk.block _ (Qc h2) (by simpa using h1)).trans h2
section
variable {w u u' : World} {own : List Nat} {Fr bs : List (Nat × Obj)}
theorem Own.other {M:List Nat} (h:Own w own Fr bs u) (hk:Qb M u u') (hM:∀ m∈M,w.heap.size≤m∧m ∉ own∧(∀ p∈Fr,p.1≠m)∧(∀ p∈bs,p.1≠m)):Own w own Fr bs u':=by
 refine ⟨h.kp.young hk (fun m hm=>Or.inr (hM m hm).1),h.new,fun y hy=>Nat.lt_of_lt_of_le (h.lt y hy) hk.size,h.nd,?_,?_,h.fnd,h.fnew,h.sep⟩
 ·intro p hp
  obtain ⟨h1,h2⟩:=h.hf p hp
  exact ⟨(hk.block _ (Qc h1) (fun hm=>(hM _ hm).2.2.1 p hp rfl)).trans h1,h2⟩
 ·intro p hp
  obtain ⟨h1,h2⟩:=h.hb p hp
  exact ⟨(hk.block _ (Qc h1) (fun hm=>(hM _ hm).2.2.2 p hp rfl)).trans h1,h2⟩
theorem Own.addFr (h:Own w own Fr bs u) {g:Nat} {o:Obj} (hg:u.heap[g]? = some o) (hw:w.heap.size≤g) (ho:g ∉ own) (hf:∀ p∈Fr,p.1≠g) (hb:∀ p∈bs,p.1≠g):Own w own ((g,o) :: Fr) bs u:=by
 refine ⟨h.kp,h.new,h.lt,h.nd,?_,h.hb,?_,?_,?_⟩
 ·intro p hp
  rcases List.mem_cons.1 hp with rfl | hp
  ·exact ⟨hg,ho⟩
  ·exact h.hf p hp
 ·simp only [List.map_cons,List.nodup_cons]
  refine ⟨?_,h.fnd⟩
  intro hm
  obtain ⟨p,hp,e⟩:=List.mem_map.1 hm
  exact hf p hp e
 ·intro p hp
  rcases List.mem_cons.1 hp with rfl | hp
  ·exact hw
  ·exact h.fnew p hp
 ·intro p hp q hq
  rcases List.mem_cons.1 hp with rfl | hp
  ·exact fun e=>hb q hq e.symm
  ·exact h.sep p hp q hq
theorem Own.addBs {bs':List (Nat×Obj)} (h:Own w own Fr bs u) (hk:Below u.heap.size u u') (hb:∀ p∈bs',u'.heap[p.1]? = some p.2∧u.heap.size≤p.1):Own w own Fr (bs'++bs) u':=by
 have h1:=h.below hk
 refine ⟨h1.kp,h1.new,h1.lt,h1.nd,h1.hf,?_,h1.fnd,h1.fnew,?_⟩
 ·intro p hp
  rcases List.mem_append.1 hp with hp | hp
  ·refine ⟨(hb p hp).1,fun hm=>?_⟩
   have:=h.lt _ hm
   have:=(hb p hp).2
   omega
  ·exact h1.hb p hp
 ·intro p hp q hq
  rcases List.mem_append.1 hq with hq | hq
  ·have:=Qc (h.hf p hp).1
   have:=(hb q hq).2
   omega
  ·exact h1.sep p hp q hq
end
section
variable {w u u' : World} {a : CAd} {Fr bs : List (Nat × Obj)} {s : CSt} {sl ks : Value} {cv : List (Qj × Value)} {et : List (List UInt8 × NumL × Value)}
theorem Cp.addBs {bs':List (Nat×Obj)} (h:Cp w a Fr bs s sl ks cv et u) (hk:Below u.heap.size u u') (hb:∀ p∈bs',u'.heap[p.1]? = some p.2∧u.heap.size≤p.1):Cp w a Fr (bs'++bs) s sl ks cv et u':=
 h.beside (Qb.of_below [] hk) (by simp) (fun _ hp=>List.mem_append_right _ hp) (h.own.addBs hk hb)
def Q5d (E:List (Nat×Obj)) (esl:Value) (l:List Nat):Prop:=
 (E=[]∧esl = .slice none 0 0∧l=[])∨∃ g cap cur,E=[(g,.cells cur 3)]∧esl = .slice (some ⟨g,0,none⟩) l.length cap∧l.length≤cap∧cap≤maxLen∧cur.size=cap∧cur.toList.take l.length=l.map Q4B
theorem Q5d.slice {E:List (Nat×Obj)} {esl:Value} {l:List Nat} (h:Q5d E esl l):∃ ad cap,esl = .slice ad l.length cap:=by
 rcases h with ⟨_,rfl,rfl⟩ | ⟨g,cap,cur,_,rfl,_⟩
 ·exact ⟨none,0,rfl⟩
 ·exact ⟨_,_,rfl⟩
theorem Q5d.owns {E:List (Nat×Obj)} {esl:Value} {l:List Nat} (h:Q5d E esl l) (m:Cp w a (E++Fr) bs s sl ks cv et u):u.ownsRow w.heap.size 3 1 esl l.length (l.map Q4B):=by
 refine ⟨by simp,?_⟩
 rcases h with ⟨_,rfl,rfl⟩ | ⟨g,cap,cur,rfl,rfl,h1,h2,h3,h4⟩
 ·exact Or.inl ⟨rfl,rfl⟩
 ·exact Or.inr ⟨g,cap,cur,rfl,m.own.fnew _ List.mem_cons_self,(m.own.hf _ List.mem_cons_self).1,h1,h2,by simpa using h3,by simpa using h4⟩
theorem Q5d.grow {E:List (Nat×Obj)} {esl:Value} {l:List Nat} {u2 u3:World} {g cap n:Nat} (h:Q5d E esl l) (m:Cp w a (E++Fr) bs s sl ks cv et u) (hb:Below u.heap.size u u2)
  (hown:u3.ownsRow w.heap.size 3 1 (.slice (some ⟨g,0,none⟩) (l.length + 1) cap) (l.length + 1) ((l.map Q4B)++[.int .i64 n])) (hg:u2.grownBy u3 esl.ownBlock) (hat:esl.ownBlock=some g∨g=u2.heap.size) :
  ∃ E',Q5d E' (.slice (some ⟨g,0,none⟩) (l.length + 1) cap) (l++[n])∧Cp w a (E'++Fr) bs s sl ks cv et u3:=by
 obtain ⟨hwg,hlt⟩:=Q0z hown (g:=g) rfl
 rcases hown.2 with ⟨h0,_⟩ | ⟨g',cap',cur,e,_,o2,o3,o4,o5,o6⟩
 ·cases h0
 cases e
 have m2:=m.below hb
 have hk:=Q05 hg
 refine ⟨[(g,.cells cur 3)],Or.inr ⟨g,cap,cur,rfl,by simp,by simpa using o3,o4,by simpa using o5,by simpa using o6⟩,?_⟩
 rcases h with ⟨rfl,rfl,rfl⟩ | ⟨g0,cap0,cur0,rfl,rfl,h1,h2,h3,h4⟩
 ·simp only [Value.ownBlock] at hat hk
  have hgs:g=u2.heap.size:=by
   rcases hat with h | h
   ·cases h
   ·exact h
  have hk0:Qb [] u2 u3:=hk.mono (by simp)
  have o1:Own w (ownC a sl ks) Fr bs u3:=m2.own.turn hk0 (by simp)
  refine m2.beside hk0 (by simp) (fun _ hp=>hp) (o1.addFr o2 hwg ?_ ?_ ?_)
  ·intro hm;have:=m2.own.lt _ hm;omega
  ·intro p hp;have:=Qc (m2.own.hf p hp).1;omega
  ·intro p hp;have:=Qc (m2.own.hb p hp).1;omega
 ·simp only [Value.ownBlock,Option.some.injEq,Option.toList_some] at hat hk
  rcases hat with rfl | hgs
  ·exact Cp.setFr (o:=.cells cur0 3) m2 hk o2
  ·have hn:=m2.own.fnd
   simp only [List.cons_append,List.nil_append,List.map_cons,List.nodup_cons] at hn
   have hg0:=m2.own.hf _ List.mem_cons_self
   have t2:=m2.tail
   have o1:Own w (ownC a sl ks) Fr bs u3:=t2.own.other hk (by
    intro x hx
    simp only [List.mem_singleton] at hx
    subst hx
    refine ⟨m2.own.fnew _ List.mem_cons_self,hg0.2,?_,?_⟩
    ·intro p hp e
     exact hn.1 (by rw [← e];exact List.mem_map_of_mem hp)
    ·intro p hp e
     exact m2.own.sep _ List.mem_cons_self p hp e.symm)
   refine t2.beside hk (by simpa using hg0.2) (fun _ hp=>hp) (o1.addFr o2 hwg ?_ ?_ ?_)
   ·intro hm;have:=m2.own.lt _ hm;omega
   ·intro p hp;have:=Qc (t2.own.hf p hp).1;omega
   ·intro p hp;have:=Qc (t2.own.hb p hp).1;omega
end
theorem Cp.front {w u:World} {a:CAd} {A B bs:List (Nat×Obj)} {p:Nat×Obj} {s:CSt} {sl ks:Value} {cv:List (Qj×Value)} {et:List (List UInt8×NumL×Value)} (h:Cp w a (A++p :: B) bs s sl ks cv et u):Cp w a (p :: (A++B)) bs s sl ks cv et u:=by
 refine h.sub (fun q hq=>List.perm_middle.mem_iff.2 hq) ?_
 have:=h.own.fnd
 rw [(List.perm_middle.map _).nodup_iff] at this
 exact this
theorem Cp.back {w u:World} {a:CAd} {A B bs:List (Nat×Obj)} {p:Nat×Obj} {s:CSt} {sl ks:Value} {cv:List (Qj×Value)} {et:List (List UInt8×NumL×Value)} (h:Cp w a (p :: (A++B)) bs s sl ks cv et u):Cp w a (A++p :: B) bs s sl ks cv et u:=by
 refine h.sub (fun q hq=>List.perm_middle.mem_iff.1 hq) ?_
 have:=h.own.fnd
 rw [(List.perm_middle.map _).nodup_iff]
 exact this
theorem Cp.perm {w u:World} {a:CAd} {A B bs:List (Nat×Obj)} {s:CSt} {sl ks:Value} {cv:List (Qj×Value)} {et:List (List UInt8×NumL×Value)} (h:Cp w a A bs s sl ks cv et u) (hp:A.Perm B):Cp w a B bs s sl ks cv et u:=by
 refine h.sub (fun q hq=>hp.mem_iff.2 hq) ?_
 have:=h.own.fnd
 rw [(hp.map _).nodup_iff] at this
 exact this
theorem Cp.back2 {w u:World} {a:CAd} {A B bs:List (Nat×Obj)} {p p':Nat×Obj} {s:CSt} {sl ks:Value} {cv:List (Qj×Value)} {et:List (List UInt8×NumL×Value)} (h:Cp w a (p :: p' :: (A++B)) bs s sl ks cv et u):Cp w a (A++p :: p' :: B) bs s sl ks cv et u:=
 h.perm (List.perm_middle.trans (List.perm_middle.cons p)).symm
theorem Cp.turnAt {w u u':World} {a:CAd} {A B bs:List (Nat×Obj)} {m:Nat} {o o':Obj} {s:CSt} {sl ks:Value} {cv:List (Qj×Value)} {et:List (List UInt8×NumL×Value)} (h:Cp w a (A++(m,o) :: B) bs s sl ks cv et u) (hk:Qb [m] u u') (ho:u'.heap[m]? = some o'):Cp w a (A++(m,o') :: B) bs s sl ks cv et u':=(h.front.setFr hk ho).back
theorem Cp.turn3 {w u u':World} {a:CAd} {A B bs:List (Nat×Obj)} {p1 p2:Nat×Obj} {m:Nat} {o o':Obj} {s:CSt} {sl ks:Value} {cv:List (Qj×Value)} {et:List (List UInt8×NumL×Value)} (h:Cp w a (A++p1 :: p2 :: (m,o) :: B) bs s sl ks cv et u) (hk:Qb [m] u u') (ho:u'.heap[m]? = some o'):Cp w a (A++p1 :: p2 :: (m,o') :: B) bs s sl ks cv et u':=by
 have:=Cp.turnAt (A:=A++[p1,p2]) (B:=B) (by simpa using h) hk ho
 simpa using this
theorem Cp.turn4 {w u u':World} {a:CAd} {A B bs:List (Nat×Obj)} {p1 p2 p3:Nat×Obj} {m:Nat} {o o':Obj} {s:CSt} {sl ks:Value} {cv:List (Qj×Value)} {et:List (List UInt8×NumL×Value)} (h:Cp w a (A++p1 :: p2 :: p3 :: (m,o) :: B) bs s sl ks cv et u) (hk:Qb [m] u u') (ho:u'.heap[m]? = some o'):Cp w a (A++p1 :: p2 :: p3 :: (m,o') :: B) bs s sl ks cv et u':=by
 have:=Cp.turnAt (A:=A++[p1,p2,p3]) (B:=B) (by simpa using h) hk ho
 simpa using this
theorem Cp.gave {w u:World} {a:CAd} {A B bs:List (Nat×Obj)} {p p':Nat×Obj} {s:CSt} {sl ks:Value} {cv:List (Qj×Value)} {et:List (List UInt8×NumL×Value)} (h:Cp w a (A++p :: p' :: B) bs s sl ks cv et u):Cp w a (A++B) (p :: bs) s sl ks cv et u:=
 (Cp.give (h.perm (List.perm_middle.trans (List.perm_middle.cons p)))).tail
abbrev Q3n (lo hi:Int) (x:Option Addr) (y z:Nat) (wd:Bool) (m:Nat) (ov:Value):Array Value:=#[.int .i64 lo,.int .i64 hi,.slice x y z,.bool wd,.map (some m),ov]
structure Qbu (w:World) (a:CAd) (Fr bs:List (Nat×Obj)) (C:Value→Array Value) (S m:Nat) (q:USt) (esl:Value) (ur:World):Prop where
 nd:(q.ways.map (·.1)).Nodup
 ex:∃ bs' ov E sl ks cv et,(∀ p∈bs,p∈bs')∧Q2M bs' ov q.other∧(∃ pa,ov = .pointer pa)∧Q5d E esl q.ends∧Cp w a (E++((m,Q0O q.ways) :: (S,.cells (C ov) 321) :: Fr)) bs' q.s sl ks cv et ur
theorem Q0j {b:Nat} {c0 c1 c2 c3 c4 c5:Value} {T:TypeId} {w:World} (h:w.heap[b]? = some (.cells #[c0,c1,c2,c3,c4,c5] T)) :
  w.cell? ⟨b,0,none⟩=some c0∧w.cell? ⟨b,1,none⟩=some c1∧w.cell? ⟨b,2,none⟩=some c2∧w.cell? ⟨b,3,none⟩=some c3∧w.cell? ⟨b,4,none⟩=some c4∧w.cell? ⟨b,5,none⟩=some c5∧(∀ i,w.frozen? ⟨b,i,none⟩=false)∧b < w.heap.size:=by
 refine ⟨?_,?_,?_,?_,?_,?_,?_,Qc h⟩<;>simp [World.cell?,World.frozen?,h]
theorem Q0k {b:Nat} {c0 c1:Value} {T:TypeId} {w:World} (h:w.heap[b]? = some (.cells #[c0,c1] T)) :
  w.cell? ⟨b,0,none⟩=some c0∧w.cell? ⟨b,1,none⟩=some c1∧(∀ i,w.frozen? ⟨b,i,none⟩=false)∧b < w.heap.size:=by
 refine ⟨?_,?_,?_,Qc h⟩<;>simp [World.cell?,World.frozen?,h]
theorem Q8v {b:Nat} {c0 c1 c2 c3:Value} {T:TypeId} {w:World} (h:w.heap[b]? = some (.cells #[c0,c1,c2,c3] T)) :
  w.cell? ⟨b,0,none⟩=some c0∧w.cell? ⟨b,1,none⟩=some c1∧w.cell? ⟨b,2,none⟩=some c2∧w.cell? ⟨b,3,none⟩=some c3∧(∀ i,w.frozen? ⟨b,i,none⟩=false)∧b < w.heap.size:=by
 refine ⟨?_,?_,?_,?_,?_,Qc h⟩<;>simp [World.cell?,World.frozen?,h]
theorem Q2M.more {bs bs':List (Nat×Obj)} (hb:∀ p∈bs,p∈bs') {v:Value} {o:Option (Nat×Nat)} (h:Q2M bs v o):Q2M bs' v o:=by
 cases o with
 | none=>exact h
 | some q=>obtain ⟨b,h1,h2⟩:=h;exact ⟨b,h1,hb _ h2⟩
theorem Qim {q:USt} {n:Nat} {x:List Int×Qq} (hx:Q7j x.2.ty) (h:Room q.s (n + 4)):Room (uArm q x).s n:=by
 have hc:=Q4S hx.deep
 exact Room.put (Room.value _ (h.less (by omega))) _
theorem Q8a:∀ (arms:List (List Int×Qq)) {q:USt} {n:Nat},Q3y arms→Room q.s (n + 4 * arms.length)→Room (arms.foldl uArm q).s n:=by
 intro arms
 induction arms with
 | nil=>intro q n _ h;exact h
 | cons x arms ih=>
  intro q n hty h
  exact ih (fun y hy=>hty y (List.mem_cons_of_mem _ hy)) (Qim (hty x (by simp)) (h.less (by simp only [List.length_cons];omega)))
theorem Qcy:∀ (arms:List (List Int×Qq)) (q:USt),(arms.foldl uArm q).ends.length=q.ends.length + arms.length:=by
 intro arms
 induction arms with
 | nil=>intro q;rfl
 | cons x arms ih=>intro q;simp only [List.foldl_cons];rw [ih];simp [uArm];omega
theorem Qin:∀ (arms:List (List Int×Qq)) (q:USt),q.s.code.length≤(arms.foldl uArm q).s.code.length:=by
 intro arms
 induction arms with
 | nil=>intro q;exact Nat.le_refl _
 | cons x arms ih=>
  intro q
  simp only [List.foldl_cons]
  refine Nat.le_trans ?_ (ih (uArm q x))
  simp only [uArm,Q68,armM,Q1J]
  omega
theorem Qjx:∀ (arms:List (List Int×Qq)) (q:USt),(∀ e∈q.ends,e < q.s.code.length)→∀ e∈(arms.foldl uArm q).ends,e < (arms.foldl uArm q).s.code.length:=by
 intro arms
 induction arms with
 | nil=>intro q h;exact h
 | cons x arms ih=>
  intro q h
  simp only [List.foldl_cons]
  refine ih (uArm q x) ?_
  intro e he
  simp only [uArm,List.mem_append,List.mem_singleton] at he ⊢
  simp only [Q68,armM,Q1J] at he ⊢
  rcases he with he | rfl
  ·have:=h e he
   omega
  ·omega
theorem Q5e (l:List Nat):∀ s:CSt,(Q1Q l s).code.length=s.code.length:=by
 induction l with
 | nil=>intro s;rfl
 | cons i l ih=>
  intro s
  have:=ih (setM i (.jump s.code.length) s)
  simp only [setM,List.length_set] at this
  exact this
theorem Qf8 (l:List Nat) (i:Nat) (s:CSt):Q1Q (l++[i]) s=setM i (.jump s.code.length) (Q1Q l s):=by
 have:=Q5e l s
 simp only [Q1Q,List.foldl_append,List.foldl_cons,List.foldl_nil] at this ⊢
 rw [this]
theorem Qe5:(Tryz.prog.info? 3).map (fun i=>(i.zero,i.size,i.bytes))=some (some (.int .i64 0),1,8):=by kernel_rfl
set_option maxHeartbeats 8000000 in
theorem Qjy {w u:World} {a:CAd} {Fr bs:List (Nat×Obj)} {s:CSt} {sl ks:Value} {cv:List (Qj×Value)} {et:List (List UInt8×NumL×Value)} {bs0:List (Nat×Obj)} {b at':Nat} {t:List UInt8} {sel:Qq} {arms:List (List Int×Qq)} (hd:Q0o bs0 b (.union t at' sel arms)) (hw:∀ p∈bs0,w.heap[p.1]? = some p.2) (hsel:Q0J sel.ty) (hty:Q3y arms) (h:Cp w a Fr bs s sl ks cv et u) (hr:Room s (8 + 4 * arms.length)) :
  Calls Tryz.prog 100 #[.pointer (some ⟨a.C,0,none⟩),.pointer (some ⟨b,0,none⟩)] u fun e u'=>e = .returned (.tuple #[])∧Qz w a Fr bs (Q40 sel arms s) u':=by
 have hmm:∀ (t:TypeId) (w:World),(Instr.makeMap t none).run Tryz.prog w = .ok (.map (some w.heap.size)) (w.alloc (.map #[] 0)):=fun _ _=>rfl
 obtain ⟨asl,css,hb,hcl,hsl,hea⟩:=hd
 have hbox:=hw _ hb
 have HBOX:=Hid.mk (fun (v:World) (hv:Qb [] w v)=>Q0j ((hv.block _ (Qc hbox) (by simp)).trans hbox))
 obtain ⟨k0,k1,k2,k3,k4,k5,_,_⟩:=HBOX.out _ h.own.kp
 obtain ⟨i0,hi0,hz0,hz1,hz2⟩:=info_parts Qe5
 obtain ⟨T,x0,hT⟩:=Q03 sel.ty
 have VS:=Qf7 hsel h
 rw [hT] at k4 VS
 have hr0:=hr.code
 have VS:=Hid.mk VS
 have H:=Hid.mk h
 have HRM:Hid (Room (putM .hole s) (7 + 4 * arms.length)):=Room.put (hr.less (by omega)) _
 have HTY:=Hid.mk hty
 clear h hty hr hT
 go_enter Tryz.func100,Tryz.ntmps100
 go_wp2_with fail
 refine VS.out.mono ?_
 rintro e w1 ⟨lo,hi,x,y,z,wd,rfl,hN,hbl⟩
 have M1:=((H.out.below hbl).alloc (.map #[] 0)).alloc (.cells (Q3n lo hi x y z wd w1.heap.size (.pointer none)) 321)
 have hsz:(w1.alloc (.map #[] 0)).heap.size=w1.heap.size + 1:=by simp
 rw [hsz] at M1
 have HP:=Hid.mk (Q1n (v:=.iface 321 (.agg (Q3n lo hi x y z wd w1.heap.size (.pointer none)))) (x:=.hole) M1 ⟨_,_,rfl⟩ (by omega))
 have HN:=Hid.mk hN
 clear M1 hN hbl VS
 go_wp2_with fail
 refine HP.out.mono ?_
 rintro e w2 ⟨rfl,sl2,M2⟩
 have M3:Cp w a ((w1.heap.size,.map #[] 0) :: (w1.heap.size + 1,.cells (Q3n lo hi x y z wd w1.heap.size (.pointer none)) 321) :: Fr) bs (putM .hole s) sl2 ks _ et w2:=Cp.back (A:=[_]) M2
 have U0:Hid (Qbu w a Fr bs (Q3n lo hi x y z wd w1.heap.size) (w1.heap.size + 1) w1.heap.size ⟨putM .hole s,[],none,[]⟩ (.slice none 0 0) w2):=⟨by simp,bs,.pointer none,[],_,_,_,_,fun _ hp=>hp,rfl,⟨_,rfl⟩,Or.inl ⟨rfl,rfl,rfl⟩,M3⟩
 obtain ⟨k0,k1,k2,k3,k4,k5,_,_⟩:=HBOX.out _ M2.own.kp
 have hle:arms.length≤1000:=by rcases hsl with ⟨_,h0,_⟩ | ⟨_,_,_,_,⟨_,h1⟩,_⟩<;>omega
 have hrow:∀ (v:World),Qb [] w v→∀ i (hi:i < arms.length),∃ g cap,asl = .slice (some ⟨g,0,none⟩) arms.length cap∧arms.length≤cap∧∃ ca cc,v.cell? ⟨g,i * 4,none⟩=some (.slice ca arms[i].1.length cc)∧v.cell? ⟨g,i * 4 + 1,none⟩=some (.string ⟨arms[i].2.t.toArray⟩)∧v.cell? ⟨g,i * 4 + 2,none⟩=some (.int .i64 arms[i].2.at')∧v.cell? ⟨g,i * 4 + 3,none⟩=some (tyV arms[i].2.ty) ∧
   arms[i].1.length≤1000∧∀ (v':World),Qb [] w v'→∀ j (hj:j < arms[i].1.length),∃ g',ca=some ⟨g',0,none⟩∧arms[i].1.length≤cc∧v'.cell? ⟨g',j,none⟩=some (.int .i64 arms[i].1[j]):=by
  intro v hv i hi
  have hi':i < css.length:=by omega
  rcases hsl with ⟨_,h0,_⟩ | ⟨g,cap,cur,hs,⟨hcap,hms⟩,hg,htake⟩
  ·omega
  ·have hgb:=(hv.block _ (Qc (hw _ hg)) (by simp)).trans (hw _ hg)
   have hf:=Q2g (c:=armC) (n:=4) (fun _=>rfl) (arms.zip css) i
   have hz:i < (arms.zip css).length:=by simp;omega
   have hcase:∃ ca cc,css[i]=Value.slice ca arms[i].1.length cc∧arms[i].1.length≤1000∧∀ (v':World),Qb [] w v'→∀ j (hj:j < arms[i].1.length),∃ g',ca=some ⟨g',0,none⟩∧arms[i].1.length≤cc∧v'.cell? ⟨g',j,none⟩=some (.int .i64 arms[i].1[j]):=by
    rcases hea i hi hi' with ⟨e,e0,_⟩ | ⟨g2,cap2,cur2,e,⟨e1,e2⟩,e3,e4⟩
    ·exact ⟨none,0,by rw [e,e0],by omega,fun v' _ j hj=>by omega⟩
    ·refine ⟨_,_,e,e2,fun v' hv' j hj=>⟨g2,rfl,e1,?_⟩⟩
     exact Qs ((hv'.block _ (Qc (hw _ e3)) (by simp)).trans (hw _ e3)) e4 (by simp [hj])
   obtain ⟨ca,cc,hcv,hc1,hc2⟩:=hcase
   refine ⟨g,cap,hs,hcap,ca,cc,Qs hgb htake ?_,Qs hgb htake ?_,Qs hgb htake ?_,Qs hgb htake ?_,hc1,hc2⟩
   ·have:=hf 0 hz (by omega);simpa [hcv] using this
   ·have:=hf 1 hz (by omega);simpa using this
   ·have:=hf 2 hz (by omega);simpa using this
   ·have:=hf 3 hz (by omega);simpa using this
 obtain ⟨aad,acap,hasl⟩:∃ ad cap,asl = .slice ad arms.length cap:=by
  rcases hsl with ⟨e,h0,_⟩ | ⟨g,cap,cur,e,_⟩
  ·exact ⟨none,0,by rw [e,h0]⟩
  ·exact ⟨_,_,e⟩
 subst hasl
 have HR:=Hid.mk hrow
 have kp2:=Hid.mk M2.own.kp
 clear hrow M2 M3 hea hsl HP
 generalize hB1:w1.heap.size=mB at *
 go_wp2_with fail
 go_loopw [32,6] (fun i esl ur=>∃ k:Nat,i = .int .i64 k∧k≤arms.length∧Hid (Qbu w a Fr bs (Q3n lo hi x y z wd mB) (mB + 1) mB ((arms.take k).foldl uArm ⟨putM .hole s,[],none,[]⟩) esl ur)) (fun i _ _=>arms.length - (intOf i).toNat)
 case atStart=>exact ⟨0,rfl,by omega,U0⟩
 case round=>
  rename World=>wo
  obtain ⟨k,rfl,hk,U⟩:=hrel
  clear U0
  rcases Nat.lt_or_ge k arms.length with hlt | hge
  ·have hrm:Room ((arms.take k).foldl uArm ⟨putM .hole s,[],none,[]⟩).s 7:=Q8a (arms.take k) (q:=⟨putM .hole s,[],none,[]⟩) (fun x hx=>HTY.out x (List.mem_of_mem_take hx)) (HRM.out.less (by simp;omega))
   have hel:((arms.take k).foldl uArm ⟨putM .hole s,[],none,[]⟩).ends.length=k:=by rw [Qcy];simp;omega
   obtain ⟨nd,bs1,ov,E,sl1,ks1,cv1,et1,hb1,hov,⟨pa,rfl⟩,hE,M⟩:=U.out
   have hq1:(arms.take (k + 1)).foldl uArm ⟨putM .hole s,[],none,[]⟩=uArm ((arms.take k).foldl uArm ⟨putM .hole s,[],none,[]⟩) arms[k]:=by rw [List.take_succ_eq_append_getElem hlt,List.foldl_append];rfl
   have HQ:=Hid.mk hq1
   clear hq1 U
   generalize hq:(arms.take k).foldl uArm ⟨putM .hole s,[],none,[]⟩=q at *
   obtain ⟨g,cap,hasl,hcap,ca,cc,q0,q1,q2,q3,hc1,hc2⟩:=HR.out _ M.own.kp k hlt
   cases hasl
   obtain ⟨T1,v1,h1⟩:=Q03 arms[k].2.ty
   have HT:=Hid.mk h1
   have hi0':(0:Int)≤↑k:=by omega
   have hi1':(↑k:Int) < ↑arms.length:=by omega
   have M1:=M.alloc (.cells #[.slice ca arms[k].1.length cc,.string ⟨arms[k].2.t.toArray⟩,.int .i64 arms[k].2.at',tyV arms[k].2.ty] 292)
   have VA:=Qku (ca:=ca) (cn:=arms[k].1.length) (cc:=cc) (HTY.out arms[k] (List.getElem_mem hlt)).deep M1 (hrm.less (by omega))
   rw [h1] at q3 VA M1
   have VA:=Hid.mk VA
   have HOV:=Hid.mk hov
   have HE:=Hid.mk hE
   have HB1:=Hid.mk hb1
   have HND:=Hid.mk nd
   have HC2:=Hid.mk hc2
   obtain ⟨ead,ecap,rfl⟩:=hE.slice
   clear M M1 hov hE hb1 nd hc2 h1
   go_wp2_with fail
   refine VA.out.mono ?_
   rintro e w3 ⟨rfl,bs3,sl3,ks3,cv3,et3,hb3,M3⟩
   have M4:=M3.alloc (.cells #[.int .i64 (wayM arms[k].2 q.s).1,.int .i64 (wayM arms[k].2 q.s).2] 323)
   have hrm2:Room (armM arms[k].2 q.s) 1:=Room.value _ (hrm.less (by have:=Q4S (HTY.out arms[k] (List.getElem_mem hlt)).deep;omega))
   have HP:=Hid.mk (Q1n (v:=.iface 325 (.agg #[.int .i64 0])) (x:=.jump 0) M4 rfl (by have:=hrm2.code;omega))
   have HB3:=Hid.mk hb3
   clear M3 M4 VA hb3
   go_wp2_with fail
   refine HP.out.mono ?_
   rintro e w4 ⟨rfl,sl4,M4⟩
   have M5:=M4.back2
   have hown5:∀ ob,(w4.alloc ob).ownsRow w.heap.size 3 1 (.slice ead k ecap) k (q.ends.map Q4B):=by
    intro ob
    have:=HE.out.owns M5
    rw [hel] at this
    exact Qk this ((Qb.refl [] w4).alloc ob) (by simp)
   have hwl:w.heap.size≤w4.heap.size:=M5.own.kp.size
   have hl1:k + 1≤maxLen:=by unfold maxLen;omega
   have hl2:(k + 1) * 8≤140737488355328:=by omega
   have hz3:(Value.int .i64 0).cells.size=1:=rfl
   have M5:=Hid.mk M5
   clear M4 HP
   go_wp2_with (first
    | (at_builtin;refine wpList_append_lies _ (by rfl) _ _ _ (by rfl) w.heap.size 3 i0 _ 1 8 Tryz.underlying230 hi0 hz0 hz1 hz2 hz3 (by omega) (.slice ead k ecap) k (q.ends.map Q4B) (by rfl) (hown5 _) ⟨w4.heap.size,0,none⟩ 1 1 [.int .i64 (armM arms[k].2 q.s).code.length] (by rfl) (by rfl) (World.news_of_block (cs:=#[.int .i64 (armM arms[k].2 q.s).code.length]) (t:=3) (fr:=(0,0)) (heap_alloc_new w4 _)) (by simp [Value.oneCell']) (by omega) hl1 hl2 (by simp;omega) (w4.heap.size + 1) (by simp) ?_;intro g5 cap5 w5 hown6 hgrow hat hlt5;obtain ⟨E5,hE5,M6⟩:=HE.out.grow M5.out ((Below.refl w4.heap.size w4).alloc (Nat.le_refl _) _) (by rw [hel];exact hown6) (by rw [hel];exact hgrow) (by rw [hel];simpa using hat);obtain ⟨r0,r1,r2,r3,rfr,rlt⟩:=Q8v (M6.own.hf _ (List.mem_append_right _ (List.mem_cons_of_mem _ List.mem_cons_self))).1;have M6:=Hid.mk M6;have HE5:=Hid.mk hE5;clear hE5 M5 hown5 hown6 hgrow hat hlt5)
    | fail)
   go_loopw [49] (fun i ur=>∃ j:Nat,i = .int .i64 j∧j≤arms[k].1.length∧Hid ((((arms[k].1.take j).foldl (fun l n=>mput l n (wayM arms[k].2 q.s)) q.ways).map (·.1)).Nodup∧∃ sl6 cv6,Cp w a (E5++((w3.heap.size,.cells #[.int .i64 (wayM arms[k].2 q.s).1,.int .i64 (wayM arms[k].2 q.s).2] 323) :: (wo.heap.size,.cells #[.slice ca arms[k].1.length cc,.string ⟨arms[k].2.t.toArray⟩,.int .i64 arms[k].2.at',.iface T1 v1] 292) :: (mB,Q0O ((arms[k].1.take j).foldl (fun l n=>mput l n (wayM arms[k].2 q.s)) q.ways)) :: (mB + 1,.cells (Q3n lo hi x y z wd mB (.pointer pa)) 321) :: Fr)) bs3 (putM (.jump 0) (armM arms[k].2 q.s)) sl6 ks3 cv6 et3 ur)) (fun i _=>arms[k].1.length - (intOf i).toNat)
   case atStart=>exact ⟨0,rfl,by omega,HND.out,_,_,M6.out⟩
   case round=>
    obtain ⟨j,rfl,hj,N⟩:=hrel
    clear M6
    rcases Nat.lt_or_ge j arms[k].1.length with hjl | hjg
    ·obtain ⟨nd6,sl6,cv6,N6⟩:=N.out
     obtain ⟨g',hca,hcc,hcell⟩:=HC2.out _ N6.own.kp j hjl
     obtain ⟨p0,p1,_,_⟩:=Q0k (N6.own.hf _ (List.mem_append_right _ List.mem_cons_self)).1
     obtain ⟨_,_,_,_,s4,_,_,_⟩:=Q0j (N6.own.hf _ (List.mem_append_right _ (List.mem_cons_of_mem _ (List.mem_cons_of_mem _ (List.mem_cons_of_mem _ List.mem_cons_self))))).1
     have hmap:=(N6.own.hf _ (List.mem_append_right _ (List.mem_cons_of_mem _ (List.mem_cons_of_mem _ List.mem_cons_self)))).1
     have pu:=Q9k hmap nd6 arms[k].1[j] (wayM arms[k].2 q.s).1 (wayM arms[k].2 q.s).2
     have hfold:(arms[k].1.take (j + 1)).foldl (fun l n=>mput l n (wayM arms[k].2 q.s)) q.ways=mput ((arms[k].1.take j).foldl (fun l n=>mput l n (wayM arms[k].2 q.s)) q.ways) arms[k].1[j] (wayM arms[k].2 q.s):=by rw [List.take_succ_eq_append_getElem hjl,List.foldl_append];rfl
     have hnew:Hid ((((arms[k].1.take (j + 1)).foldl (fun l n=>mput l n (wayM arms[k].2 q.s)) q.ways).map (·.1)).Nodup∧∃ sl6 cv6,Cp w a (E5++((w3.heap.size,.cells #[.int .i64 (wayM arms[k].2 q.s).1,.int .i64 (wayM arms[k].2 q.s).2] 323) :: (wo.heap.size,.cells #[.slice ca arms[k].1.length cc,.string ⟨arms[k].2.t.toArray⟩,.int .i64 arms[k].2.at',.iface T1 v1] 292) :: (mB,Q0O ((arms[k].1.take (j + 1)).foldl (fun l n=>mput l n (wayM arms[k].2 q.s)) q.ways)) :: (mB + 1,.cells (Q3n lo hi x y z wd mB (.pointer pa)) 321) :: Fr)) bs3 (putM (.jump 0) (armM arms[k].2 q.s)) sl6 ks3 cv6 et3 (Q04 wr mB (Q0O (mput ((arms[k].1.take j).foldl (fun l n=>mput l n (wayM arms[k].2 q.s)) q.ways) arms[k].1[j] ((wayM arms[k].2 q.s).1,(wayM arms[k].2 q.s).2))))):=by
      rw [hfold]
      exact ⟨Q2x nd6 _ _,sl6,cv6,N6.turn3 (Q06 _ _ _) (Q1k (Qc hmap) _)⟩
     have hj0:(0:Int)≤↑j:=by omega
     have hj1:(↑j:Int) < ↑arms[k].1.length:=by omega
     obtain ⟨W,hW⟩:∃ W,W=Q04 wr mB (Q0O (mput ((arms[k].1.take j).foldl (fun l n=>mput l n (wayM arms[k].2 q.s)) q.ways) arms[k].1[j] ((wayM arms[k].2 q.s).1,(wayM arms[k].2 q.s).2))):=⟨_,rfl⟩
     rw [← hW] at pu hnew
     clear hW N N6 hmap hfold nd6
     subst hca
     go_wp2
     exact ⟨⟨j + 1,by go_num,by omega,hnew⟩,by simp [intOf];omega⟩
    ·have hjj:j=arms[k].1.length:=by omega
     subst hjj
     obtain ⟨nd6,sl6,cv6,N6⟩:=N.out
     rw [List.take_length] at nd6 N6
     obtain ⟨r0,r1,r2,r3,rfr,rlt⟩:=Q8v (N6.own.hf _ (List.mem_append_right _ (List.mem_cons_of_mem _ List.mem_cons_self))).1
     have hS:=(N6.own.hf _ (List.mem_append_right _ (List.mem_cons_of_mem _ (List.mem_cons_of_mem _ (List.mem_cons_of_mem _ List.mem_cons_self))))).1
     obtain ⟨_,_,_,_,s4,s5,sfr,slt⟩:=Q0j hS
     have HS:=Hid.mk hS
     have N6:=Hid.mk N6
     have HND6:=Hid.mk nd6
     have el1:(q.ends.length + 1:Nat)=k + 1:=by omega
     clear N nd6 hS
     by_cases hnil:arms[k].1=[]
     ·have hlen0:arms[k].1.length=0:=by rw [hnil];rfl
      have hc0:((arms[k].1.length:Int) == 0)=true:=by rw [hlen0];rfl
      have N7:=Hid.mk (N6.out.turn4 ((Qb.refl [mB + 1] wr).setIn (p:=⟨mB + 1,5,none⟩) (by simp) (.pointer (some ⟨w3.heap.size,0,none⟩))) (Qn (i:=5) HS.out (.pointer (some ⟨w3.heap.size,0,none⟩)))).gave
      have HNIL:=Hid.mk hnil
      clear N6 HS hnil hlen0
      go_wp2
      refine ⟨⟨k + 1,by go_num,by omega,?_⟩,by simp [intOf];omega⟩
      show Qbu w a Fr bs (Q3n lo hi x y z wd mB) (mB + 1) mB _ _ _
      rw [HQ.out]
      refine ⟨HND6.out,_,.pointer (some ⟨w3.heap.size,0,none⟩),E5,sl6,ks3,cv6,et3,fun p hp=>List.mem_cons_of_mem _ (HB3.out p (HB1.out p hp)),?_,⟨_,rfl⟩,?_,N7.out⟩
      ·simp only [uArm,HNIL.out,if_true]
       exact ⟨_,rfl,List.mem_cons_self⟩
      ·have:=HE5.out
       rw [el1] at this
       exact this
     ·have hc0:((arms[k].1.length:Int) == 0)=false:=by
       have:arms[k].1.length≠0:=fun e=>hnil (List.length_eq_zero_iff.1 e)
       simp
       omega
      have N7:=Hid.mk N6.out.gave
      have HNIL:=Hid.mk hnil
      clear N6 HS hnil
      go_wp2
      refine ⟨⟨k + 1,by go_num,by omega,?_⟩,by simp [intOf];omega⟩
      show Qbu w a Fr bs (Q3n lo hi x y z wd mB) (mB + 1) mB _ _ _
      rw [HQ.out]
      refine ⟨HND6.out,_,.pointer pa,E5,sl6,ks3,cv6,et3,fun p hp=>List.mem_cons_of_mem _ (HB3.out p (HB1.out p hp)),?_,⟨_,rfl⟩,?_,N7.out⟩
      ·simp only [uArm,HNIL.out,if_false]
       exact HOV.out.more (fun p hp=>List.mem_cons_of_mem _ (HB3.out p hp))
      ·have:=HE5.out
       rw [el1] at this
       exact this
  ·have hkk:k=arms.length:=by omega
   subst hkk
   have hql:=Qin arms ⟨putM .hole s,[],none,[]⟩
   have hqe:=Qjx arms ⟨putM .hole s,[],none,[]⟩ (by intro e he;cases he)
   have hel:(arms.foldl uArm ⟨putM .hole s,[],none,[]⟩).ends.length=arms.length:=by rw [Qcy];simp
   obtain ⟨nd,bs1,ov,E,sl1,ks1,cv1,et1,hb1,hov,⟨pa,rfl⟩,hE,M⟩:=U.out
   rw [List.take_length] at nd hov hE M
   have HU:Hid (Q40 sel arms s=Q1Q (arms.foldl uArm ⟨putM .hole s,[],none,[]⟩).ends (setM s.code.length (.choice (Q0n s sel.ty) (arms.foldl uArm ⟨putM .hole s,[],none,[]⟩).ways (arms.foldl uArm ⟨putM .hole s,[],none,[]⟩).other) (arms.foldl uArm ⟨putM .hole s,[],none,[]⟩).s)):=rfl
   clear U
   generalize hq:arms.foldl uArm ⟨putM .hole s,[],none,[]⟩=q at *
   rw [Q68] at hql
   obtain ⟨c0,c1,c2,c3,hfz,hlt⟩:=M.cells
   obtain ⟨s0,s1,s2,s3,s4,s5,sfr,slt⟩:=Q0j (M.own.hf _ (List.mem_append_right _ (List.mem_cons_of_mem _ List.mem_cons_self))).1
   obtain ⟨g,cap,hsl1,hcap,hfr,⟨y0,hy⟩,hg,M4⟩:=Cp.setCode (i:=s.code.length) (x:=.choice (Q0n s sel.ty) q.ways q.other) (v:=.iface 321 (.agg (Q3n lo hi x y z wd mB (.pointer pa)))) (M.gave.below (Below.refl _ _).drew) ⟨numA lo hi x y z wd,mB,.pointer pa,rfl,HN.out.more (fun p hp=>List.mem_cons_of_mem _ (hb1 p hp)),List.mem_cons_self,hov.more (fun p hp=>List.mem_cons_of_mem _ hp)⟩ (by omega)
   have hidx:(s.code.length:Int) < (q.s.code.length:Int):=by omega
   obtain ⟨ead,ecap,rfl⟩:=hE.slice
   have HE:=Hid.mk hE
   have HB1:=Hid.mk hb1
   have M4:=Hid.mk M4
   cases hsl1
   clear M hE hb1 hov nd
   have hnr:∀ (j:Nat),j < q.ends.length→∃ e:Nat,q.ends[j]? = some e∧e < q.s.code.length:=fun j hj=>⟨q.ends[j],by simp [hj],hqe _ (List.getElem_mem hj)⟩
   have hcells:∀ (v:World) (st:CSt) (bs9:List (Nat×Obj)) (sl9 ks9:Value) (cv9:List (Qj×Value)) (et9:List (List UInt8×NumL×Value)),Cp w a (E++Fr) bs9 st sl9 ks9 cv9 et9 v→∀ (j:Nat) (hj:j < q.ends.length),∃ g',ead=some ⟨g',0,none⟩∧q.ends.length≤ecap∧v.cell? ⟨g',j,none⟩=some (.int .i64 q.ends[j]):=by
    intro v st bs9 sl9 ks9 cv9 et9 m j hj
    rcases HE.out with ⟨_,_,e0⟩ | ⟨g9,cap9,cur9,rfl,e1,e2,e3,e4,e5⟩
    ·rw [e0] at hj;simp at hj
    ·cases e1
     exact ⟨g9,rfl,e2,Qs (xs:=q.ends.map Q4B) (m.own.hf _ List.mem_cons_self).1 (by simpa using e5) (by simp [hj])⟩
   have HCL:=Hid.mk hcells
   have HQE:=Hid.mk hqe
   clear hcells hnr hqe
   go_wp2
   go_region
   go_wp2
   go_loopw [74] (fun i ur=>∃ j:Nat,i = .int .i64 j∧j≤q.ends.length∧Hid (∃ cv9,Cp w a (E++Fr) ((mB,Q0O q.ways) :: bs1) (Q1Q (q.ends.take j) (setM s.code.length (.choice (Q0n s sel.ty) q.ways q.other) q.s)) (.slice (some ⟨g,0,none⟩) q.s.code.length cap) ks1 cv9 et1 ur)) (fun i _=>q.ends.length - (intOf i).toNat)
   case atStart=>exact ⟨0,rfl,by omega,_,M4.out⟩
   case round=>
    obtain ⟨j,rfl,hj,N⟩:=hrel
    clear M4
    rcases Nat.lt_or_ge j q.ends.length with hjl | hjg
    ·obtain ⟨cv9,N6⟩:=N.out
     obtain ⟨g',head,hec,hcell⟩:=HCL.out _ _ _ _ _ _ _ N6 j hjl
     have hL:(Q1Q (q.ends.take j) (setM s.code.length (.choice (Q0n s sel.ty) q.ways q.other) q.s)).code.length=q.s.code.length:=by rw [Q5e];simp [setM]
     have hst:Q1Q (q.ends.take (j + 1)) (setM s.code.length (.choice (Q0n s sel.ty) q.ways q.other) q.s)=setM q.ends[j] (.jump q.s.code.length) (Q1Q (q.ends.take j) (setM s.code.length (.choice (Q0n s sel.ty) q.ways q.other) q.s)):=by
      rw [List.take_succ_eq_append_getElem hjl,Qf8]
      simp [setM]
     have hej:=HQE.out _ (List.getElem_mem hjl)
     obtain ⟨c0,c1,c2,c3,hfz,hlt⟩:=N6.cells
     obtain ⟨g9,cap9,hsl9,hcap9,hfr9,⟨y9,hy9⟩,hg9,N7⟩:=Cp.setCode (i:=q.ends[j]) (x:=.jump q.s.code.length) (v:=.iface 325 (.agg #[.int .i64 q.s.code.length])) (N6.below (Below.refl _ _).drew) rfl (by rw [hL];exact hej)
     have HH:=Q2k (N6.below (Below.refl _ _).drew)
     rw [hL] at HH hsl9 hcap9
     cases hsl9
     have hN:Hid (∃ cv9,Cp w a (E++Fr) ((mB,Q0O q.ways) :: bs1) (Q1Q (q.ends.take (j + 1)) (setM s.code.length (.choice (Q0n s sel.ty) q.ways q.other) q.s)) (.slice (some ⟨g,0,none⟩) q.s.code.length cap) ks1 cv9 et1 (wr.drew.setCell ⟨g,q.ends[j],none⟩ (.iface 325 (.agg #[.int .i64 q.s.code.length])))):=by
      rw [hst]
      exact ⟨_,N7⟩
     have HH:=Hid.mk HH
     have hj0:(0:Int)≤↑j:=by omega
     have hj1:(↑j:Int) < ↑q.ends.length:=by omega
     have hj2:(↑j:Int) < ↑arms.length:=by omega
     have hje:(↑(q.ends[j]):Int) < ↑q.s.code.length:=by omega
     subst head
     clear N N6 N7 hst hL
     generalize hej':q.ends[j]=ej at *
     go_wp2_with fail
     refine Qu (fun w'=>w'.cell? ⟨a.C,0,none⟩=some (.slice (some ⟨g,0,none⟩) q.s.code.length cap)) (L:=10) (by kernel_rfl) rfl (by kernel_rfl) (by kernel_rfl) ?_ (fun hHeld=>?_)
     ·go_keep
     refine tk (i:=0) (v:=?_) rfl (by kernel_rfl) (fun _ _ _ h=>h) (by rfl) (by assumption) ?_ ?_
     rotate_left
     ·intro w hSw;(try dsimp only at hSw);go_simp;(try with_reducible rfl)
     (try simp only [Qd,Qe,List.set])
     refine tk (i:=1) (v:=?_) rfl (by kernel_rfl) (fun _ _ _ h=>h) (by rfl) (by assumption) ?_ ?_
     rotate_left
     ·intro w hSw;(try dsimp only at hSw);go_simp;(try with_reducible rfl)
     (try simp only [Qd,Qe,List.set])
     refine tk (i:=2) (v:=?_) rfl (by kernel_rfl) (fun _ _ _ h=>h) (by rfl) (by assumption) ?_ ?_
     rotate_left
     ·intro w hSw;(try dsimp only at hSw);go_simp;(try with_reducible rfl)
     (try simp only [Qd,Qe,List.set])
     refine tk (i:=3) (v:=?_) rfl (by kernel_rfl) (fun _ _ _ h=>h) (by rfl) (by assumption) ?_ ?_
     rotate_left
     ·intro w hSw;(try dsimp only at hSw);go_simp;(try with_reducible rfl)
     (try simp only [Qd,Qe,List.set])
     refine tk (i:=4) (v:=?_) rfl (by kernel_rfl) (fun _ _ _ h=>h) (by rfl) (by assumption) ?_ ?_
     rotate_left
     ·intro w hSw;(try dsimp only at hSw);go_simp;(try with_reducible rfl)
     (try simp only [Qd,Qe,List.set])
     refine tk (i:=5) (v:=?_) rfl (by kernel_rfl) (fun _ _ _ h=>h) (by rfl) (by assumption) ?_ ?_
     rotate_left
     ·intro w hSw;(try dsimp only at hSw);go_simp;(try with_reducible rfl)
     (try simp only [Qd,Qe,List.set])
     refine wpAnyH_ready (rs:=[6]) (by kernel_rfl) (by simp) ?_
     refine AllReadyH.cons rfl (fun K hK=>?_) AllReadyH.nil
     (go_simp;go_at_call 95;refine HH.out.mono ?_;rintro e w9 ⟨rfl,rfl⟩)
     refine hK.out _ _ ?_ (fun hHeld=>?_)
     ·go_keep
     clear hK K
     (try simp only [Qd,Qe,List.set])
     refine tk (i:=7) (v:=?_) rfl (by kernel_rfl) (fun _ _ _ h=>h) (by rfl) (by assumption) ?_ ?_
     rotate_left
     ·intro w hSw;(try dsimp only at hSw);go_simp;(try with_reducible rfl)
     (try simp only [Qd,Qe,List.set])
     refine tk (i:=8) (v:=?_) rfl (by kernel_rfl) (fun _ _ _ h=>h) (by rfl) (by assumption) ?_ ?_
     rotate_left
     ·intro w hSw;(try dsimp only at hSw);go_simp;(try with_reducible rfl)
     (try simp only [Qd,Qe,List.set])
     refine tk (i:=9) (v:=?_) rfl (by kernel_rfl) (fun _ _ _ h=>h) (by rfl) (by assumption) ?_ ?_
     rotate_left
     ·intro w hSw;(try dsimp only at hSw);go_simp;(try with_reducible rfl)
     (try simp only [Qd,Qe,List.set])
     refine wpAnyH_done (by kernel_rfl) ?_ _
     refine QB rfl (fun K hK=>?_)
     go_simp
     refine hK.out _ _ ?_
     clear hK K
     (try simp only [Qd,Qe,List.set])
     go_wp2
     exact ⟨⟨j + 1,by go_num,by omega,hN⟩,by simp [intOf];omega⟩
    ·have hjj:j=q.ends.length:=by omega
     subst hjj
     obtain ⟨cv9,N6⟩:=N.out
     rw [List.take_length] at N6
     have G:=Hid.mk (N6.sub (Fr':=Fr) (fun p hp=>List.mem_append_right _ hp) (by have:=N6.own.fnd;rw [List.map_append,List.nodup_append] at this;exact this.2.1)).gives
     clear N N6
     go_wp2
     go_end0
     refine ⟨rfl,?_⟩
     rw [HU.out]
     exact Qz.more (fun p hp=>List.mem_cons_of_mem _ (HB1.out p hp)) G.out
end Go.Proofs.YtmbcibgknckenaaGreatDoor
