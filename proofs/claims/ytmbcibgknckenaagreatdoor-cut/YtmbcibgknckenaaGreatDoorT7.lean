import Derived.Test.YtmbcibgknckenaaGreatDoorT6
set_option linter.all false
set_option maxRecDepth 100000
set_option maxHeartbeats 4000000
namespace Go.Proofs.YtmbcibgknckenaaGreatDoor
open Go.RowKit
open Go.MapKept
theorem Q9a {κ α β:Type} [DecidableEq κ] (f:α→β) (l:List (κ×α)) (k:κ) (v:α):(mput l k v).map (fun p=>(p.1,f p.2))=mput (l.map fun p=>(p.1,f p.2)) k (f v):=by
 have e1:(l.map fun p=>(p.1,f p.2)).map (·.1)=l.map (·.1):=by rw [List.map_map];rfl
 unfold mput
 rw [e1]
 split
 ·rw [List.map_map,List.map_map]
  apply List.map_congr_left
  intro p _
  simp only [Function.comp]
  split<;>rfl
 ·simp
theorem Q9b {κ α:Type} [DecidableEq κ] {l:List (κ×α)} {k:κ} {v:α} {p:κ×α} (h:p∈mput l k v):p∈l∨p=(k,v):=by
 unfold mput at h
 split at h
 ·obtain ⟨q,hq,rfl⟩:=List.mem_map.1 h
  split
  ·exact Or.inr rfl
  ·exact Or.inl hq
 ·rcases List.mem_append.1 h with h | h
  ·exact Or.inl h
  ·exact Or.inr (by simpa using h)
theorem Q25 {κ α:Type} [DecidableEq κ] {l:List (κ×α)} {k:κ} {v:α} (h:Qy l k=some v):∃ p∈l,p.1=k∧p.2=v:=by
 unfold Qy at h
 rw [Option.map_eq_some_iff] at h
 obtain ⟨p,hp,rfl⟩:=h
 exact ⟨p,List.mem_of_find?_eq_some hp,by simpa using List.find?_some hp,rfl⟩
structure CAd where
 C:Nat
 B:Nat
 E:Nat
def ownC (a:CAd) (sl ks:Value):List Nat:=[a.C,a.B,a.E]++(sl.ownBlock.toList++ks.ownBlock.toList)
abbrev Q4D (k:Nat×List UInt8):List Value:=[.int .i64 k.1,.string ⟨k.2.toArray⟩]
def NumV (bs:List (Nat×Obj)) (v:Value) (n:NumL):Prop:=∃ cs,v = .agg cs.toArray∧Q16 bs cs n
structure Cp (w:World) (a:CAd) (Fr bs:List (Nat×Obj)) (s:CSt) (sl ks:Value) (cv:List (Qj×Value)) (et:List (List UInt8×NumL×Value)) (u:World):Prop where
 own:Own w (ownC a sl ks) Fr bs u
 box:u.heap[a.C]? = some (.cells #[sl,.map (some a.B),.map (some a.E),ks] 123)
 bod:u.heap[a.B]? = some (Q1c s.bodies)
 bnp:(s.bodies.map (·.1)).Nodup
 enu:u.heap[a.E]? = some (Q3i (et.map fun p=>(.string ⟨p.1.toArray⟩,p.2.2)))
 enp:(et.map (·.1)).Nodup
 enl:s.enums=et.map fun p=>(p.1,p.2.1)
 ens:∀ p∈et,NumV bs p.2.2 p.2.1
 row:u.ownsRow w.heap.size 226 1 sl s.code.length (cv.map (·.2))
 cod:s.code=cv.map (·.1)
 steps:∀ p∈cv,Q1X bs p.2 p.1
 kro:u.ownsRow w.heap.size 222 2 ks s.calls.length (s.calls.flatMap Q4D)
def Qz (w:World) (a:CAd) (Fr bs:List (Nat×Obj)) (s:CSt) (u:World):Prop:=∃ bs' sl ks cv et,(∀ p∈bs,p∈bs')∧Cp w a Fr bs' s sl ks cv et u
section
variable {w u u' : World} {a : CAd} {Fr bs : List (Nat × Obj)} {s : CSt} {sl ks : Value} {cv : List (Qj × Value)} {et : List (List UInt8 × NumL × Value)}
theorem Cp.gives (h:Cp w a Fr bs s sl ks cv et u):Qz w a Fr bs s u:=⟨bs,sl,ks,cv,et,fun _ hp=>hp,h⟩
theorem Qi4 (a:CAd) (sl ks:Value):a.C∈ownC a sl ks∧a.B∈ownC a sl ks∧a.E∈ownC a sl ks∧(∀ g,sl.ownBlock=some g→g∈ownC a sl ks)∧(∀ g,ks.ownBlock=some g→g∈ownC a sl ks):=by
 unfold ownC
 refine ⟨by simp,by simp,by simp,?_,?_⟩<;>(intro g hg;simp [hg])
theorem Cp.distinct (h:Cp w a Fr bs s sl ks cv et u):a.C≠a.B∧a.C≠a.E∧a.B≠a.E∧(∀ g,sl.ownBlock=some g→g≠a.C∧g≠a.B∧g≠a.E)∧(∀ g,ks.ownBlock=some g→g≠a.C∧g≠a.B∧g≠a.E∧sl.ownBlock≠some g):=by
 have hn:=h.own.nd
 unfold ownC at hn
 rw [List.nodup_append,List.nodup_append] at hn
 obtain ⟨n1,⟨n2,n3,n4⟩,n5⟩:=hn
 simp only [List.nodup_cons,List.mem_cons,List.not_mem_nil,not_or,or_false] at n1
 refine ⟨n1.1.1,n1.1.2,n1.2.1,?_,?_⟩
 ·intro g hg
  refine ⟨fun e=>n5 a.C (by simp) g (by simp [hg]) e.symm,fun e=>n5 a.B (by simp) g (by simp [hg]) e.symm,fun e=>n5 a.E (by simp) g (by simp [hg]) e.symm⟩
 ·intro g hg
  refine ⟨fun e=>n5 a.C (by simp) g (by simp [hg]) e.symm,fun e=>n5 a.B (by simp) g (by simp [hg]) e.symm,fun e=>n5 a.E (by simp) g (by simp [hg]) e.symm,fun e=>n4 g (by simp [e]) g (by simp [hg]) rfl⟩
theorem Cp.beside {M:List Nat} {Fr' bs':List (Nat×Obj)} (h:Cp w a Fr bs s sl ks cv et u) (hk:Qb M u u') (hM:∀ m∈M,m ∉ ownC a sl ks) (hb:∀ p∈bs,p∈bs') (ho:Own w (ownC a sl ks) Fr' bs' u'):Cp w a Fr' bs' s sl ks cv et u':=by
 obtain ⟨o1,o2,o3,o4,o5⟩:=Qi4 a sl ks
 refine ⟨ho,(hk.block _ (Qc h.box) (fun hm=>hM _ hm o1)).trans h.box,(hk.block _ (Qc h.bod) (fun hm=>hM _ hm o2)).trans h.bod,h.bnp,(hk.block _ (Qc h.enu) (fun hm=>hM _ hm o3)).trans h.enu,h.enp,h.enl,
  fun p hp=>?_,Qk h.row hk (fun g hg hm=>hM _ hm (o4 g hg)),h.cod,fun p hp=>(h.steps p hp).more hb,Qk h.kro hk (fun g hg hm=>hM _ hm (o5 g hg))⟩
 obtain ⟨cs,h1,h2⟩:=h.ens p hp
 exact ⟨cs,h1,h2.more hb⟩
theorem Cp.below (h:Cp w a Fr bs s sl ks cv et u) (hb:Below u.heap.size u u'):Cp w a Fr bs s sl ks cv et u':=h.beside (Qb.of_below [] hb) (by simp) (fun _ hp=>hp) (h.own.below hb)
theorem Cp.alloc (h:Cp w a Fr bs s sl ks cv et u) (o:Obj):Cp w a ((u.heap.size,o) :: Fr) bs s sl ks cv et (u.alloc o):=h.beside ((Qb.refl [] u).alloc o) (by simp) (fun _ hp=>hp) (h.own.alloc o)
theorem Cp.setFr {m:Nat} {o o':Obj} (h:Cp w a ((m,o) :: Fr) bs s sl ks cv et u) (hk:Qb [m] u u') (ho:u'.heap[m]? = some o'):Cp w a ((m,o') :: Fr) bs s sl ks cv et u':=
 h.beside hk (by simpa using (h.own.hf (m,o) (by simp)).2) (fun _ hp=>hp) (h.own.setFr hk ho)
theorem Cp.give {m:Nat} {o:Obj} (h:Cp w a ((m,o) :: Fr) bs s sl ks cv et u):Cp w a Fr ((m,o) :: bs) s sl ks cv et u:=h.beside (Qb.refl [] u) (by simp) (fun _ hp=>List.mem_cons_of_mem _ hp) h.own.give
theorem Cp.tail {p:Nat×Obj} (h:Cp w a (p :: Fr) bs s sl ks cv et u):Cp w a Fr bs s sl ks cv et u:=h.beside (Qb.refl [] u) (by simp) (fun _ hp=>hp) h.own.tail
theorem Cp.sub {Fr':List (Nat×Obj)} (h:Cp w a Fr bs s sl ks cv et u) (hs:∀ p∈Fr',p∈Fr) (hn:(Fr'.map (·.1)).Nodup):Cp w a Fr' bs s sl ks cv et u:=h.beside (Qb.refl [] u) (by simp) (fun _ hp=>hp) (h.own.sub hs hn)
theorem Cp.slice (h:Cp w a Fr bs s sl ks cv et u):∃ ad cap,sl = .slice ad s.code.length cap:=by
 rcases h.row.2 with ⟨rfl,h0⟩ | ⟨g,cap,cur,rfl,_⟩
 ·exact ⟨none,0,by rw [h0]⟩
 ·exact ⟨_,_,rfl⟩
theorem Cp.kslice (h:Cp w a Fr bs s sl ks cv et u):∃ ad cap,ks = .slice ad s.calls.length cap:=by
 rcases h.kro.2 with ⟨rfl,h0⟩ | ⟨g,cap,cur,rfl,_⟩
 ·exact ⟨none,0,by rw [h0]⟩
 ·exact ⟨_,_,rfl⟩
theorem Cp.cells (h:Cp w a Fr bs s sl ks cv et u):u.cell? ⟨a.C,0,none⟩=some sl∧u.cell? ⟨a.C,1,none⟩=some (.map (some a.B))∧u.cell? ⟨a.C,2,none⟩=some (.map (some a.E))∧u.cell? ⟨a.C,3,none⟩=some ks∧(∀ i,u.frozen? ⟨a.C,i,none⟩=false)∧a.C < u.heap.size:=by
 refine ⟨?_,?_,?_,?_,?_,Qc h.box⟩<;>simp [World.cell?,World.frozen?,h.box]
theorem Cp.putCode {u2 u3:World} {g cap:Nat} {x:Qj} {v:Value} (h:Cp w a Fr bs s sl ks cv et u) (hx:Q1X bs v x) (hb:Below u.heap.size u u2)
  (hown:u3.ownsRow w.heap.size 226 1 (.slice (some ⟨g,0,none⟩) (s.code.length + 1) cap) (s.code.length + 1) (cv.map (·.2)++[v]))
  (hg:u2.grownBy u3 sl.ownBlock) (hat:sl.ownBlock=some g∨g=u2.heap.size) (hlt:g < u3.heap.size) :
  Cp w a Fr bs (putM x s) (.slice (some ⟨g,0,none⟩) (s.code.length + 1) cap) ks (cv++[(x,v)]) et (u3.setCell ⟨a.C,0,none⟩ (.slice (some ⟨g,0,none⟩) (s.code.length + 1) cap)):=by
 obtain ⟨hwg,_⟩:=Q0z hown (g:=g) rfl
 have e2:=h.below hb
 obtain ⟨d1,d2,d3,d4,d5⟩:=h.distinct
 have ho:Own w (ownC a (.slice (some ⟨g,0,none⟩) (s.code.length + 1) cap) ks) Fr bs u3:=Own.grow (A:=[a.C,a.B,a.E]) (B:=ks.ownBlock.toList) e2.own hg hat hlt hwg
 have hks:Qb [a.C] u3 (u3.setCell ⟨a.C,0,none⟩ (.slice (some ⟨g,0,none⟩) (s.code.length + 1) cap)):=(Qb.refl [a.C] u3).setIn (by simp) _
 have hkg:=Q05 hg
 have rl:∀ b,b=a.C∨b=a.B∨b=a.E→b ∉ sl.ownBlock.toList:=by
  intro b hb hm
  have:=d4 b (by simpa using hm)
  omega
 have rk:∀ b,ks.ownBlock=some b→b ∉ sl.ownBlock.toList:=by
  intro b hb hm
  exact (d5 b hb).2.2.2 (by simpa using hm)
 have ng:g≠a.C:=by
  have:=ho.nd
  simp [ownC,Value.ownBlock] at this
  omega
 refine ⟨ho.turn hks (by simp [ownC]),Qn (i:=0) ((hkg.block _ (Qc e2.box) (rl _ (Or.inl rfl))).trans e2.box) _,?_,h.bnp,?_,h.enp,h.enl,h.ens,?_,?_,?_,?_⟩
 ·exact (hks.block _ (by have:=Qc e2.bod;have:=hg.size;omega) (by simp;omega)).trans ((hkg.block _ (Qc e2.bod) (rl _ (Or.inr (Or.inl rfl)))).trans e2.bod)
 ·exact (hks.block _ (by have:=Qc e2.enu;have:=hg.size;omega) (by simp;omega)).trans ((hkg.block _ (Qc e2.enu) (rl _ (Or.inr (Or.inr rfl)))).trans e2.enu)
 ·have:=Qk hown hks (by
   intro g' h'
   simp only [Value.ownBlock,Option.some.injEq] at h'
   subst h'
   simpa using ng)
  simpa [putM] using this
 ·simp [putM,h.cod]
 ·intro p hp
  rcases List.mem_append.1 hp with hp | hp
  ·exact h.steps p hp
  ·simp only [List.mem_singleton] at hp
   subst hp
   exact hx
 ·exact Qk (Qk e2.kro hkg rk) hks (fun g' h'=>by simpa using (d5 g' h').1)
theorem Cp.putCall {u2 u3:World} {g cap:Nat} {k:Nat×List UInt8} (h:Cp w a Fr bs s sl ks cv et u) (hb:Below u.heap.size u u2)
  (hown:u3.ownsRow w.heap.size 222 2 (.slice (some ⟨g,0,none⟩) (s.calls.length + 1) cap) (s.calls.length + 1) (s.calls.flatMap Q4D++Q4D k))
  (hg:u2.grownBy u3 ks.ownBlock) (hat:ks.ownBlock=some g∨g=u2.heap.size) (hlt:g < u3.heap.size) :
  Cp w a Fr bs { s with calls:=s.calls++[k] } sl (.slice (some ⟨g,0,none⟩) (s.calls.length + 1) cap) cv et (u3.setCell ⟨a.C,3,none⟩ (.slice (some ⟨g,0,none⟩) (s.calls.length + 1) cap)):=by
 obtain ⟨hwg,_⟩:=Q0z hown (g:=g) rfl
 have e2:=h.below hb
 obtain ⟨d1,d2,d3,d4,d5⟩:=h.distinct
 have ho:Own w (ownC a sl (.slice (some ⟨g,0,none⟩) (s.calls.length + 1) cap)) Fr bs u3:=by
  have h1:=Own.grow (A:=[a.C,a.B,a.E]++sl.ownBlock.toList) (B:=[]) (r:=ks.ownBlock) (by simpa [ownC,List.append_assoc] using e2.own) hg hat hlt hwg
  simpa [ownC,Value.ownBlock,List.append_assoc] using h1
 have hks:Qb [a.C] u3 (u3.setCell ⟨a.C,3,none⟩ (.slice (some ⟨g,0,none⟩) (s.calls.length + 1) cap)):=(Qb.refl [a.C] u3).setIn (by simp) _
 have hkg:=Q05 hg
 have rl:∀ b,b=a.C∨b=a.B∨b=a.E→b ∉ ks.ownBlock.toList:=by
  intro b hb hm
  have:=d5 b (by simpa using hm)
  omega
 have rk:∀ b,sl.ownBlock=some b→b ∉ ks.ownBlock.toList:=by
  intro b hb hm
  exact (d5 b (by simpa using hm)).2.2.2 hb
 have ng:g≠a.C:=by
  rcases hat with hr | hr
  ·exact (d5 g hr).1
  ·have:=Qc e2.box
   omega
 refine ⟨ho.turn hks (by simp [ownC]),Qn (i:=3) ((hkg.block _ (Qc e2.box) (rl _ (Or.inl rfl))).trans e2.box) _,?_,h.bnp,?_,h.enp,h.enl,h.ens,?_,h.cod,h.steps,?_⟩
 ·exact (hks.block _ (by have:=Qc e2.bod;have:=hg.size;omega) (by simp;omega)).trans ((hkg.block _ (Qc e2.bod) (rl _ (Or.inr (Or.inl rfl)))).trans e2.bod)
 ·exact (hks.block _ (by have:=Qc e2.enu;have:=hg.size;omega) (by simp;omega)).trans ((hkg.block _ (Qc e2.enu) (rl _ (Or.inr (Or.inr rfl)))).trans e2.enu)
 ·exact Qk (Qk e2.row hkg rk) hks (fun g' h'=>by simpa using (d4 g' h').1)
 ·have:=Qk hown hks (by
   intro g' h'
   simp only [Value.ownBlock,Option.some.injEq] at h'
   subst h'
   simpa using ng)
  simpa using this
theorem Cp.setCode {i:Nat} {x:Qj} {v:Value} (h:Cp w a Fr bs s sl ks cv et u) (hx:Q1X bs v x) (hi:i < s.code.length) :
  ∃ g cap,sl = .slice (some ⟨g,0,none⟩) s.code.length cap∧s.code.length≤cap∧u.frozen? ⟨g,i,none⟩=false∧(∃ y,u.cell? ⟨g,i,none⟩=some y)∧g < u.heap.size∧Cp w a Fr bs (setM i x s) sl ks (cv.set i (x,v)) et (u.setCell ⟨g,i,none⟩ v):=by
 obtain ⟨d1,d2,d3,d4,d5⟩:=h.distinct
 rcases h.row.2 with ⟨rfl,h0⟩ | ⟨g,cap,cur,rfl,h2,h3,h4,h5,h6,h7⟩
 ·omega
 ·have hm:g∈ownC a (.slice (some ⟨g,0,none⟩) s.code.length cap) ks:=by simp [ownC,Value.ownBlock]
  have hks:Qb [g] u (u.setCell ⟨g,i,none⟩ v):=(Qb.refl [g] u).setIn (by simp) _
  obtain ⟨e1,e2,e3⟩:=d4 g rfl
  refine ⟨g,cap,rfl,h4,by simp [World.frozen?,h3],⟨cur[i]'(by omega),?_⟩,Qc h3,h.own.turn hks (by simpa using hm),?_,?_,h.bnp,?_,h.enp,h.enl,h.ens,⟨?_,Or.inr ⟨g,cap,cur.setIfInBounds i v,?_,h2,Qn h3 v,?_,h5,?_,?_⟩⟩,?_,?_,?_⟩
  ·simp [World.cell?,h3]
  ·exact (hks.block _ (Qc h.box) (by simp;omega)).trans h.box
  ·exact (hks.block _ (Qc h.bod) (by simp;omega)).trans h.bod
  ·exact (hks.block _ (Qc h.enu) (by simp;omega)).trans h.enu
  ·have:=h.row.1
   simpa [setM] using this
  ·simp [setM]
  ·simpa [setM] using h4
  ·simpa using h6
  ·simp only [setM,List.length_set,Array.toList_setIfInBounds]
   rw [List.take_set,h7]
   simp [List.map_set]
  ·simp [setM,h.cod,List.map_set]
  ·intro p hp
   rcases List.mem_or_eq_of_mem_set hp with hp | rfl
   ·exact h.steps p hp
   ·exact hx
  ·exact Qk h.kro hks (fun g' h'=>by
    have:=(d5 g' h').2.2.2
    intro hm
    simp at hm
    subst hm
    exact this rfl)
theorem Cp.putBody (h:Cp w a Fr bs s sl ks cv et u) (n:List UInt8) (at':Nat) :
  (Instr.mapUpdate 64 (.map (some a.B)) (.string ⟨n.toArray⟩) (.int .i64 at')).run Tryz.prog u = .ok () (Q04 u a.B (Q1c (mput s.bodies n at'))) ∧
  Cp w a Fr bs { s with bodies:=mput s.bodies n at' } sl ks cv et (Q04 u a.B (Q1c (mput s.bodies n at'))):=by
 obtain ⟨d1,d2,d3,d4,d5⟩:=h.distinct
 have hks:=Q06 u a.B (Q1c (mput s.bodies n at'))
 refine ⟨Q39 (P:=Tryz.prog) (T:=64) (kt:=9) (et:=3) (d:=.string) (by kernel_rfl) (by kernel_rfl) (fun k:List UInt8=>.string ⟨k.toArray⟩) (fun k:Nat=>.int .i64 k) (fun _=>trivial) (fun _=>Q64 _) Q3L h.bod h.bnp n at',?_⟩
 refine ⟨h.own.turn hks (by simp [ownC]),?_,Q1k (Qc h.bod) _,Q2x h.bnp _ _,?_,h.enp,h.enl,h.ens,Qk h.row hks ?_,h.cod,h.steps,Qk h.kro hks ?_⟩
 ·exact (hks.block _ (Qc h.box) (by simp;omega)).trans h.box
 ·exact (hks.block _ (Qc h.enu) (by simp;omega)).trans h.enu
 ·intro g hg
  simpa using (d4 g hg).2.1
 ·intro g hg
  simpa using (d5 g hg).2.1
theorem Cp.lookBody (h:Cp w a Fr bs s sl ks cv et u) (n:List UInt8) (c:Bool) :
  (Instr.lookup 64 (.map (some a.B)) (.string ⟨n.toArray⟩) c).run Tryz.prog u = .ok (match look s.bodies n with
   | some v=>if c then .tuple #[.int .i64 v,.bool true] else .int .i64 v
   | none=>if c then .tuple #[.int .i64 0,.bool false] else .int .i64 0) u:=by
 rw [Q4C]
 have hh:=Q2H (P:=Tryz.prog) (T:=64) (kt:=9) (et:=3) (d:=.string) (by kernel_rfl) (by kernel_rfl) (fun k:List UInt8=>.string ⟨k.toArray⟩) (fun k:Nat=>.int .i64 k) (fun _=>trivial) Q3L h.bod h.bnp (z:=.int .i64 0) (by kernel_rfl) n c
 cases hm:Qy s.bodies n with
 | none=>rw [hm] at hh;exact hh
 | some v=>rw [hm] at hh;exact hh
theorem Cp.putEnum {v:Value} {x:NumL} (h:Cp w a Fr bs s sl ks cv et u) (hx:NumV bs v x) (n:List UInt8) :
  ∃ o,(Instr.mapUpdate 120 (.map (some a.E)) (.string ⟨n.toArray⟩) v).run Tryz.prog u = .ok () (Q04 u a.E o) ∧
  Cp w a Fr bs { s with enums:=mput s.enums n x } sl ks cv (mput et n (x,v)) (Q04 u a.E o):=by
 obtain ⟨d1,d2,d3,d4,d5⟩:=h.distinct
 have hrun:=Q39 (P:=Tryz.prog) (T:=120) (kt:=9) (et:=200) (d:=.string) (by kernel_rfl) (by kernel_rfl) (fun k:List UInt8=>.string ⟨k.toArray⟩) (fun k:NumL×Value=>k.2) (fun _=>trivial) (fun _=>Q64 _) Q3L h.enu h.enp n (x,v)
 refine ⟨_,hrun,?_⟩
 have hks:=Q06 u a.E (Q3i ((mput et n (x,v)).map fun p=>(.string ⟨p.1.toArray⟩,p.2.2)))
 refine ⟨h.own.turn hks (by simp [ownC]),?_,?_,h.bnp,Q1k (Qc h.enu) _,Q2x h.enp _ _,?_,?_,Qk h.row hks ?_,h.cod,h.steps,Qk h.kro hks ?_⟩
 ·exact (hks.block _ (Qc h.box) (by simp;omega)).trans h.box
 ·exact (hks.block _ (Qc h.bod) (by simp;omega)).trans h.bod
 ·show mput s.enums n x=_
  rw [h.enl]
  exact (Q9a (fun q:NumL×Value=>q.1) et n (x,v)).symm
 ·intro p hp
  rcases Q9b hp with hp | rfl
  ·exact h.ens p hp
  ·exact hx
 ·intro g hg
  simpa using (d4 g hg).2.2
 ·intro g hg
  simpa using (d5 g hg).2.2.1
theorem Cp.lookEnum (h:Cp w a Fr bs s sl ks cv et u) (n:List UInt8):∃ v,(Instr.lookup 120 (.map (some a.E)) (.string ⟨n.toArray⟩) false).run Tryz.prog u = .ok v u∧NumV bs v ((look s.enums n).getD Q5I):=by
 have hrun:=Q2H (P:=Tryz.prog) (w:=u) (T:=120) (kt:=9) (et:=200) (d:=.string) (by kernel_rfl) (by kernel_rfl) (fun k:List UInt8=>.string ⟨k.toArray⟩) (fun k:NumL×Value=>k.2) (fun _=>trivial) Q3L h.enu h.enp (z:=.agg #[.int .i64 0,.int .i64 0,.slice none 0 0,.bool false]) (by kernel_rfl) n false
 refine ⟨_,hrun,?_⟩
 have hzero:NumV bs (.agg #[.int .i64 0,.int .i64 0,.slice none 0 0,.bool false]) Q5I:=⟨[.int .i64 0,.int .i64 0,.slice none 0 0,.bool false],rfl,_,rfl,rfl,_,_,_,rfl⟩
 have hl:look s.enums n=(Qy et n).map (·.1):=by
  rw [Q4C,h.enl]
  unfold Qy
  rw [List.find?_map]
  simp only [Option.map_map]
  rfl
 rw [hl]
 cases hm:Qy et n with
 | none=>simpa using hzero
 | some q=>
  obtain ⟨p,hp,_,rfl⟩:=Q25 hm
  simpa using h.ens p hp
end
def Yld {α:Type} (Q:α→Prop) (m:PM α):Prop:=∀ σ a σ',m σ = .ok (a,σ')→Q a
def YldX {τ α:Type} (Q:α→Prop) (m:PX τ α):Prop:=∀ t σ a t' σ',m t σ = .ok (a,t',σ')→Q a
def InvX {τ α:Type} (I:τ→Prop) (m:PX τ α):Prop:=∀ t σ a t' σ',I t→m t σ = .ok (a,t',σ')→I t'
theorem Q1e {α:Type} {Q:α→Prop} {a:α} (h:Q a):Yld Q (ret a):=by
 intro σ b σ' hx
 simp only [ret] at hx
 cases hx
 exact h
theorem Q4Q {α:Type} {Q:α→Prop} (n k:Nat):Yld Q (thr n k):=by
 intro σ b σ' hx
 simp only [thr] at hx
 cases hx
theorem Q5J {α β:Type} {Q:β→Prop} {R:α→Prop} {m:PM α} {f:α→PM β} (hm:Yld R m) (hf:∀ a,R a→Yld Q (f a)):Yld Q (bnd m f):=by
 intro σ b σ' h
 cases hx:m σ with
 | error e=>rw [Qp hx] at h;cases h
 | ok p=>obtain ⟨a,σ1⟩:=p;rw [Qh hx] at h;exact hf a (hm _ _ _ hx) _ _ _ h
theorem Qjp {α:Type} (m:PM α):Yld (fun _=>True) m:=fun _ _ _ _=>trivial
theorem QK {α β:Type} {Q:β→Prop} {m:PM α} {f:α→PM β} (hf:∀ a,Yld Q (f a)):Yld Q (bnd m f):=Q5J (Qjp m) fun a _=>hf a
theorem Q17 {α:Type} {Q:α→Prop} {c:Bool} {a b:PM α} (ha:Yld Q a) (hb:Yld Q b):Yld Q (if c then a else b):=by cases c<;>assumption
theorem Q3a {τ α:Type} {Q:α→Prop} {a:α} (h:Q a):YldX Q (retx (τ:=τ) a):=by
 intro t σ b t' σ' hx
 simp only [retx] at hx
 cases hx
 exact h
theorem QaL {τ α:Type} {Q:α→Prop} {m:PM α} (h:Yld Q m):YldX Q (lift (τ:=τ) m):=by
 intro t σ b t' σ' hx
 cases hm:m σ with
 | error e=>rw [Qx hm] at hx;cases hx
 | ok p=>obtain ⟨a,σ1⟩:=p;rw [Ql hm] at hx;cases hx;exact h _ _ _ hm
theorem Q65 {τ α β:Type} {Q:β→Prop} {R:α→Prop} {m:PX τ α} {f:α→PX τ β} (hm:YldX R m) (hf:∀ a,R a→YldX Q (f a)):YldX Q (bndx m f):=by
 intro t σ b t' σ' h
 cases hx:m t σ with
 | error e=>rw [Qm hx] at h;cases h
 | ok p=>obtain ⟨a,t1,σ1⟩:=p;rw [Qi hx] at h;exact hf a (hm _ _ _ _ _ hx) _ _ _ _ _ h
theorem Qi5 {τ α:Type} (m:PX τ α):YldX (fun _=>True) m:=fun _ _ _ _ _ _=>trivial
theorem Q0G {τ α β:Type} {Q:β→Prop} {m:PX τ α} {f:α→PX τ β} (hf:∀ a,YldX Q (f a)):YldX Q (bndx m f):=Q65 (Qi5 m) fun a _=>hf a
theorem Q3x {τ α:Type} {Q:α→Prop} {c:Bool} {a b:PX τ α} (ha:YldX Q a) (hb:YldX Q b):YldX Q (if c then a else b):=by cases c<;>assumption
theorem Qcl {τ ρ α:Type} {Q:α→Prop} {m:PX τ α} (h:YldX Q m):YldX Q (onL (ρ:=ρ) m):=by
 rintro ⟨t,r⟩ σ a t' σ' hx
 cases hm:m t σ with
 | error e=>rw [Q5D hm] at hx;cases hx
 | ok p=>obtain ⟨b,t1,σ1⟩:=p;rw [Q6V hm] at hx;cases hx;exact h _ _ _ _ _ hm
theorem Q4R {τ α β:Type} {I:τ→Prop} {m:PX τ α} {f:α→PX τ β} (hm:InvX I m) (hf:∀ a,InvX I (f a)):InvX I (bndx m f):=by
 intro t σ b t' σ' hi h
 cases hx:m t σ with
 | error e=>rw [Qm hx] at h;cases h
 | ok p=>obtain ⟨a,t1,σ1⟩:=p;rw [Qi hx] at h;exact hf a _ _ _ _ _ (hm _ _ _ _ _ hi hx) h
theorem Q4k {τ α:Type} {I:τ→Prop} (m:PM α):InvX I (lift (τ:=τ) m):=by
 intro t σ b t' σ' hi hx
 cases hm:m σ with
 | error e=>rw [Qx hm] at hx;cases hx
 | ok p=>obtain ⟨a,σ1⟩:=p;rw [Ql hm] at hx;cases hx;exact hi
theorem Q9c {τ α:Type} {I:τ→Prop} (a:α):InvX I (retx (τ:=τ) a):=by
 intro t σ b t' σ' hi hx
 simp only [retx] at hx
 cases hx
 exact hi
theorem Qdw {τ:Type} {I:τ→Prop} (text:ByteArray) (most:Nat) {run:PX τ Unit} (h:InvX I run):∀ (k n:Nat),InvX I (Q2b text most run k n):=by
 intro k
 induction k with
 | zero=>intro n;exact Q4k _
 | succ k ih=>
  intro n
  unfold Q2b
  refine Q4R ?_ fun y=>?_
  ·split
   ·exact Q9c _
   ·exact Q4k _
  ·cases y
   ·exact Q4R (Q4k _) fun x=>Q4R (Q4k _) fun _=>Q4R h fun _=>ih _
   ·exact Q9c _
theorem QeT {τ:Type} {I:τ→Prop} (text:ByteArray) (most:Nat) {run:PX τ Unit} (h:InvX I run):InvX I (block text most run):=by
 unfold block
 exact Q4R (Q4k _) fun _=>Qdw text most h _ _
theorem Qi6 {τ:Type} {I:τ→Prop} {m:PX τ Unit} (h:InvX I m) {t:τ} (ht:I t):Yld I (runx m t):=by
 intro σ a σ' hx
 cases hm:m t σ with
 | error e=>rw [Q5T hm] at hx;cases hx
 | ok p=>obtain ⟨b,t1,σ1⟩:=p;rw [Q4g hm] at hx;cases hx;exact h _ _ _ _ _ ht hm
theorem Qi7 {τ α:Type} {Q:α→Prop} {m:PX τ α} (h:YldX Q m) (t:τ):Yld (fun p=>Q p.1) (runy m t):=by
 intro σ a σ' hx
 cases hm:m t σ with
 | error e=>rw [Q32 hm] at hx;cases hx
 | ok p=>obtain ⟨b,t1,σ1⟩:=p;rw [Q4N hm] at hx;cases hx;exact h _ _ _ _ _ hm
theorem Qi8 {α:Type} {Q:α→Prop} {m:PX Unit α} (h:YldX Q m):Yld Q (bare m):=by
 intro σ a σ' hx
 cases hm:m () σ with
 | error e=>rw [Q8Z hm] at hx;cases hx
 | ok p=>obtain ⟨b,t1,σ1⟩:=p;rw [Qah hm] at hx;cases hx;exact h _ _ _ _ _ hm
def Q0J:Ty→Prop
 | .plain k=>k≤4
 | .named _ _=>True
 | _=>False
def Q1O:Ty→Prop
 | .plain k=>k≤4
 | .named _ _=>True
 | .opaq _ _=>True
 | .str _ _=>True
 | .arr o _ _=>Q0J o
 | .opt o=>Q0J o
 | .void=>False
def Q7j (t:Ty):Prop:=Q1O t∨t = .void
theorem Q0J.flat {t:Ty} (h:Q0J t):Flat t:=by cases t<;>simp [Q0J,Flat] at *
theorem Q0J.decl {t:Ty} (h:Q0J t):Q1O t:=by cases t<;>simp [Q0J,Q1O] at *<;>exact h
theorem Q1O.deep {t:Ty} (h:Q1O t):Q0I t:=by
 cases t with
 | arr o n f=>exact Q0J.flat h
 | opt o=>exact Q0J.flat h
 | _=>trivial
theorem Q7j.deep {t:Ty} (h:Q7j t):Q0I t:=by
 rcases h with h | rfl
 ·exact h.deep
 ·trivial
theorem Qcm (text:ByteArray):Yld Q0J (Q3q text):=by
 unfold Q3q
 refine QK fun x=>?_
 unfold Q0X
 refine Q17 (Q1e trivial) (Q17 (Q1e (by simp [Q0J])) (Q17 (Q1e (by simp [Q0J])) (Q17 (Q1e (by simp [Q0J])) (Q17 ?_ (Q4Q _ _)))))
 exact QK fun y=>Q17 (Q1e (by simp [Q0J])) (QK fun _=>Q1e (by simp [Q0J]))
theorem Qcn (text:ByteArray):Yld (fun q:Ty×(Int→Bool)=>Q0J q.1) (Q4a text):=by
 unfold Q4a
 refine QK fun x=>?_
 unfold selK
 exact Q17 (QK fun _=>Q1e trivial) (Q17 (Q1e (by simp [Q0J])) (Q17 (QK fun _=>Q1e (by simp [Q0J])) (Q17 (Q1e (by simp [Q0J])) (Q4Q _ _))))
theorem Q9d {τ:Type} (text:ByteArray) (C:Q0h τ):YldX (fun d=>Q1O d.ty) (decl text C):=by
 unfold decl
 refine Q0G fun y=>?_
 unfold Q6S
 refine Q3x (Q0G fun n=>Q0G fun q=>Q3a trivial) (Q0G fun y=>?_)
 unfold Q6R
 refine Q3x (Q0G fun n=>Q0G fun q=>Q3a trivial) (Q65 (QaL (Qcm text)) fun ty hty=>?_)
 unfold Q6Q
 refine Q0G fun y=>?_
 unfold Q8o
 refine Q3x (Q0G fun n=>Q3a hty) (Q0G fun n=>?_)
 unfold Q5R
 refine Q0G fun y=>?_
 unfold Q6P
 have hD:YldX (τ:=τ) (fun d=>Q1O d.ty) (Q6l text n ty):=by
  unfold Q6l
  exact Q0G fun q=>Q3a hty
 refine Q3x hD (Q0G fun z=>?_)
 unfold Q6O
 exact Q3x hD (Q3a hty.decl)
theorem Qe3 {τ:Type} (text:ByteArray) (C:Q0h τ):YldX (fun d=>Q7j d.ty) (arm text C):=by
 unfold arm
 refine Q65 (R:=fun d=>Q7j d.ty) (Q0G fun y=>?_) fun d hd=>Q0G fun _=>Q3a hd
 unfold armK
 refine Q3x (Q3a (Or.inr rfl)) ?_
 intro t σ a t' σ' h
 exact Or.inl (Q9d text C t σ a t' σ' h)
def Q3y (rs:Arms):Prop:=∀ a∈rs,Q7j a.2.ty
theorem Q3y.snoc {rs:Arms} (h:Q3y rs) {cs:List Int} {d:Qq} (hd:Q7j d.ty):Q3y (rs++[(cs,d)]):=by
 intro a ha
 rcases List.mem_append.1 ha with ha | ha
 ·exact h a ha
 ·simp only [List.mem_singleton] at ha
  subst ha
  exact hd
theorem Qdx (text:ByteArray) {rs:Arms} (h:Q3y rs):YldX Q3y (Q3H text rs):=by
 unfold Q3H
 exact Q0G fun y=>Q3x (Q0G fun _=>Q65 (Qcl (Qe3 _ _)) fun d hd=>Q3a (h.snoc hd)) (Q3a h)
theorem Qgr (text:ByteArray) (p:Int→Bool):∀ (k:Nat) {rs:Arms},Q3y rs→YldX Q3y (Q2I text p k rs):=by
 intro k
 induction k with
 | zero=>intro rs _;exact QaL (Q4Q _ _)
 | succ k ih=>
  intro rs h
  unfold Q2I
  exact Q0G fun cs=>Q65 (Qcl (Qe3 _ _)) fun d hd=>Q0G fun y=>Q3x (ih (h.snoc hd)) (Qdx text (h.snoc hd))
def Q7k:DefL→Prop
 | .typedef d=>Q1O d.ty
 | .struct _ _ ms=>∀ m∈ms,Q1O m.ty
 | .union _ _ sel arms=>Q0J sel.ty∧Q3y arms
 | _=>True
theorem Qdy (text:ByteArray) (n:List UInt8×Nat):∀ (k:Nat) (ms:List (List UInt8×Nat×Int)) (l:List (Int×Int)),Yld Q7k (Q1l text n k ms l):=by
 intro k
 induction k with
 | zero=>intro ms l;exact Q4Q _ _
 | succ k ih=>
  intro ms l σ d σ' h
  cases hm:Q2s text ms.length l σ with
  | error f=>rw [Q3V hm] at h;cases h
  | ok p=>
   obtain ⟨m,l',σ1⟩:=p
   rw [Q3G hm] at h
   refine QK (Q:=Q7k) (fun y=>Q17 (ih _ _) ?_) _ _ _ h
   unfold Q4e
   exact QK fun _=>QK fun _=>Q1e trivial
theorem Qau (text:ByteArray):Yld Q7k (definition text):=by
 unfold definition
 refine QK fun x=>?_
 unfold defK
 refine Q17 ?_ (Q17 ?_ (Q17 ?_ (Q17 ?_ (Q17 ?_ (Q17 ?_ (Q4Q _ _))))))
 ·unfold constant
  exact QK fun _=>QK fun n=>QK fun _=>QK fun _=>QK fun _=>Q1e trivial
 ·unfold typedef
  exact QK fun _=>Q5J (Qi8 (Q9d _ _)) fun d hd=>QK fun _=>Q1e hd
 ·unfold enumeration
  exact QK fun _=>QK fun n=>QK fun _=>Qdy _ _ _ _ _
 ·unfold Q2t
  refine QK fun _=>QK fun n=>Q5J (Qi6 (I:=fun p:List Qq×List (List UInt8)=>∀ m∈p.1,Q1O m.ty) (QeT _ _ ?_) (by simp)) fun p hp=>QK fun _=>Q1e hp
  rintro ⟨ds,t⟩ σ a t' σ' hi h
  cases hd:decl text (Qr 0 0) t σ with
  | error f=>rw [Q6D hd] at h;cases h
  | ok q=>
   obtain ⟨d,t1,σ1⟩:=q
   rw [Q5l hd] at h
   refine Q4R (I:=fun p:List Qq×List (List UInt8)=>∀ m∈p.1,Q1O m.ty) (Q4k _) (fun _=>Q9c ()) _ _ _ _ _ ?_ h
   intro m hm
   rcases List.mem_append.1 hm with hm | hm
   ·exact hi m hm
   ·simp only [List.mem_singleton] at hm
    subst hm
    exact Q9d _ _ _ _ _ _ _ hd
 ·unfold Q0w
  refine QK fun _=>QK fun n=>?_
  unfold Q5F
  refine QK fun _=>QK fun _=>Q5J (Qcn text) fun q hq=>?_
  unfold Q5E
  refine QK fun m=>?_
  unfold Q6W
  refine QK fun _=>QK fun _=>Q5J (Qi7 (Qgr text q.2 13 (rs:=[]) (by intro a ha;cases ha)) _) fun r hr=>?_
  unfold Q2L Q4b
  exact QK fun _=>QK fun _=>Q1e ⟨hq,hr⟩
 ·unfold Q2E
  refine QK fun _=>QK fun n=>?_
  unfold Q5U
  exact QK fun _=>QK fun _=>Q1e trivial
def Q86 (ds:List DefL):Prop:=∀ d∈ds,Q7k d
theorem Qgs (text:ByteArray):∀ (k:Nat) {ds:List DefL},Q86 ds→Yld Q86 (Q15 text k ds):=by
 intro k
 induction k with
 | zero=>intro ds _;exact Q4Q _ _
 | succ k ih=>
  intro ds h
  unfold Q15
  refine QK fun x=>Q17 (Q1e h) (Q5J (Qau text) fun d hd=>QK fun _=>ih ?_)
  intro e he
  rcases List.mem_append.1 he with he | he
  ·exact h e he
  ·simp only [List.mem_singleton] at he
   subst he
   exact hd
theorem Q8O {text:ByteArray} {ds:List DefL} (h:Q1H text = .ok ds):Q86 ds:=by
 unfold Q1H at h
 split at h
 ·cases h
 ·cases hf:Q15 text 69 [] st0 with
  | error f=>rw [hf] at h;cases h
  | ok p=>
   obtain ⟨ds',σ⟩:=p
   rw [hf] at h
   simp only at h
   have hd:=Qgs text 69 (ds:=[]) (by intro d hd;cases hd) _ _ _ hf
   split at h
   ·cases h
   ·split at h
    ·cases h
    ·cases h
     exact hd
def QM:Ty→Nat
 | .arr o _ _=>QM o + 2
 | .opt o=>QM o + 1
 | .void=>0
 | _=>1
theorem Q1J (t:Ty):∀ s,(QL t s).code.length=s.code.length + QM t:=by
 induction t with
 | arr o n f ih=>intro s;simp [QL,setM,putM,QM,ih];omega
 | opt o ih=>intro s;simp [QL,setM,putM,QM,ih];omega
 | _=>intro s;simp [QL,putM,Q2m,QM]
theorem Q4S {t:Ty} (h:Q0I t):QM t≤3:=by
 cases t with
 | arr o n f=>cases o<;>simp [Q0I,Flat,QM] at *
 | opt o=>cases o<;>simp [Q0I,Flat,QM] at *
 | _=>simp [QM]
end Go.Proofs.YtmbcibgknckenaaGreatDoor
namespace Go.Proofs.YtmbcibgknckenaaGreatDoor
structure Wk (τ:Type) where
 enter:Nat→τ→Except Mar.Fault τ
 num:NumL→τ→Except Mar.Fault τ
 text:Int→Bool→τ→Except Mar.Fault τ
 list:Int→Bool→τ→Except Mar.Fault (Nat×τ)
 arm:NumL→(Int→Option Nat)→τ→Except Mar.Fault (Int×τ)
def NumL.has (n:NumL) (k:Int):Bool:=decide (n.low≤k) && decide (k≤n.high) && (match n.mem with | none=>true | some l=>l.contains k)
def wayL (n:NumL) (ws:List (Int×Nat×Nat)) (o:Option (Nat×Nat)) (k:Int):Option (Nat×Nat):=if n.has k then (match Qy ws k with | some q=>some q | none=>o) else none
structure MSt where
 next:Nat
 calls:List Nat
 rounds:List (Nat×Nat)
section
variable {τ : Type}
def Q0e (W:Wk τ) (x:Qj) (m:MSt) (d:τ):Option (Except Mar.Fault (MSt×τ)):=
 match x with
 | .hole=>none
 | .fin=>none
 | .call dest=>if 1000≤m.calls.length then none else some (match W.enter m.calls.length d with
  | .ok d'=>.ok ({ m with next:=dest,calls:=m.next :: m.calls },d')
  | .error f=>.error f)
 | .ret=>match m.calls with
  | []=>none
  | k :: ks=>some (.ok ({ m with next:=k,calls:=ks },d))
 | .jump dest=>some (.ok ({ m with next:=dest },d))
 | .num n=>some (match W.num n d with
  | .ok d'=>.ok (m,d')
  | .error f=>.error f)
 | .text n b=>some (match W.text n b d with
  | .ok d'=>.ok (m,d')
  | .error f=>.error f)
 | .struct n b=>some (match W.list n b d with
  | .ok (_,d')=>.ok (m,d')
  | .error f=>.error f)
 | .array n b dest=>if 1000≤m.rounds.length then none else some (match W.list n b d with
  | .ok (0,d')=>.ok ({ m with next:=dest },d')
  | .ok (k + 1,d')=>.ok ({ m with rounds:=(m.next,k + 1) :: m.rounds },d')
  | .error f=>.error f)
 | .again=>match m.rounds with
  | []=>none
  | (from',left) :: rs=>some (.ok (if 1 < left then { m with next:=from',rounds:=(from',left - 1) :: rs } else { m with rounds:=rs },d))
 | .choice n ws o=>match W.arm n (fun k=>(wayL n ws o k).map (·.2)) d with
  | .ok (k,d')=>match wayL n ws o k with
   | some q=>some (.ok ({ m with next:=q.1 },d'))
   | none=>none
  | .error f=>some (.error f)
def runN (W:Wk τ) (c:List Qj):Nat→MSt→τ→Option (Except Mar.Fault τ)
 | 0,_,_=>none
 | n + 1,m,d=>match c[m.next]? with
  | none=>none
  | some .fin=>some (.ok d)
  | some x=>match Q0e W x { m with next:=m.next + 1 } d with
   | none=>none
   | some (.error f)=>some (.error f)
   | some (.ok (m',d'))=>runN W c n m' d'
def QS (W:Wk τ) (c:List Qj) (m:MSt) (d:τ) (r:Except Mar.Fault (MSt×τ)):Prop:=
 ∃ n,∀ k z,(match r with | .ok (m',d')=>runN W c k m' d' | .error f=>some (.error f))=some z→runN W c (k + n) m d=some z
theorem QS.refl (W:Wk τ) (c:List Qj) (m:MSt) (d:τ):QS W c m d (.ok (m,d)):=⟨0,fun _ _ h=>h⟩
theorem QS.trans {W:Wk τ} {c:List Qj} {m m1:MSt} {d d1:τ} {r:Except Mar.Fault (MSt×τ)} (h:QS W c m d (.ok (m1,d1))) (h1:QS W c m1 d1 r):QS W c m d r:=by
 obtain ⟨n,hn⟩:=h
 obtain ⟨k,hk⟩:=h1
 exact ⟨k + n,fun j z hz=>by rw [← Nat.add_assoc];exact hn _ _ (hk j z hz)⟩
theorem QS.step {W:Wk τ} {c:List Qj} {m:MSt} {d:τ} {x:Qj} {r:Except Mar.Fault (MSt×τ)} (hx:c[m.next]? = some x) (hf:x≠.fin) (hs:Q0e W x { m with next:=m.next + 1 } d=some r):QS W c m d r:=by
 refine ⟨1,fun k z hz=>?_⟩
 unfold runN
 rw [hx]
 cases x with
 | fin=>exact absurd rfl hf
 | _=>
  simp only [hs]
  cases r with
  | error f=>exact hz
  | ok p=>exact hz
def thenE {α β:Type} (r:Except Mar.Fault α) (f:α→Except Mar.Fault β):Except Mar.Fault β:=match r with
 | .ok a=>f a
 | .error e=>.error e
abbrev Den (τ:Type):=τ→Except Mar.Fault τ
def rep (f:Den τ):Nat→Den τ
 | 0,d=>.ok d
 | n + 1,d=>thenE (f d) (rep f n)
def Q66 (n:Int):Option Nat:=if n=0 then some 0 else if n=1 then some 1 else none
def tyD (W:Wk τ) (nm:List UInt8→Den τ):Ty→Den τ
 | .named n _,d=>nm n d
 | .plain k,d=>W.num (QJ k) d
 | .opaq n f,d=>W.text n f d
 | .str n f,d=>W.text n f d
 | .arr o n f,d=>thenE (W.list n f d) fun p=>rep (tyD W nm o) p.1 p.2
 | .opt o,d=>thenE (W.arm (QJ 4) Q66 d) fun p=>if p.1=1 then tyD W nm o p.2 else .ok p.2
 | .void,d=>.ok d
def allD (W:Wk τ) (nm:List UInt8→Den τ):List Ty→Den τ
 | [],d=>.ok d
 | t :: ts,d=>thenE (tyD W nm t d) (allD W nm ts)
def Q5u (arms:List (List Int×Qq)) (n:Int):Option Ty:=
 match arms.reverse.find? (fun a=>a.1.contains n) with
 | some a=>some a.2.ty
 | none=>(arms.reverse.find? (fun a=>a.1.isEmpty)).map (·.2.ty)
abbrev Env:=List UInt8→Option DefL
def selD (E:Env):Ty→NumL
 | .named t _=>match E t with
  | some (.enum _ _ ms)=>Q0p ms
  | _=>Q5I
 | .plain k=>QJ k
 | _=>Q5I
def Q73 (E:Env) (sel:Ty) (arms:List (List Int×Qq)) (n:Int):Option Nat:=if (selD E sel).has n then (Q5u arms n).map fun t=>if Q3v t then 0 else 1 else none
def defD (W:Wk τ) (E:Env) (nm:List UInt8→Den τ):DefL→Den τ
 | .typedef a,d=>tyD W nm a.ty d
 | .enum _ _ ms,d=>W.num (Q0p ms) d
 | .struct _ _ ms,d=>thenE (W.list ms.length true d) fun p=>allD W nm (ms.map (·.ty)) p.2
 | .union _ _ sel arms,d=>thenE (W.arm (selD E sel.ty) (Q73 E sel.ty arms) d) fun p=>match Q5u arms p.1 with
  | some t=>tyD W nm t p.2
  | none=>.error ⟨0,0⟩
 | _,_=>.error ⟨0,0⟩
def Q5v (W:Wk τ) (E:Env):Nat→Nat→List UInt8→Den τ
 | 0,k,_,d=>thenE (W.enter k d) fun _=>.error ⟨0,0⟩
 | g + 1,k,n,d=>thenE (W.enter k d) fun d1=>match E n with
  | some df=>defD W E (Q5v W E g (k + 1)) df d1
  | none=>.error ⟨0,0⟩
def AtTy (c:List Qj) (B:List UInt8→Nat) (E:Env):Nat→Ty→Prop
 | p,.named n _=>c[p]? = some (.call (B n))∧(E n).isSome
 | p,.plain k=>c[p]? = some (.num (QJ k))
 | p,.opaq n f=>c[p]? = some (.text n f)
 | p,.str n f=>c[p]? = some (.text n f)
 | p,.arr o n f=>c[p]? = some (.array n f (p + QM o + 2))∧AtTy c B E (p + 1) o∧c[p + 1 + QM o]? = some .again
 | p,.opt o=>c[p]? = some (.choice (QJ 4) [(0,p + 1 + QM o,0),(1,p + 1,1)] none)∧AtTy c B E (p + 1) o
 | _,.void=>True
def Qbt (c:List Qj) (B:List UInt8→Nat) (E:Env):Nat→List Ty→Prop
 | _,[]=>True
 | p,t :: ts=>AtTy c B E p t∧Qbt c B E (p + QM t) ts
def Q4T (ts:List Ty):Nat:=(ts.map QM).sum
def QeU (c:List Qj) (B:List UInt8→Nat) (E:Env) (p:Nat):DefL→Prop
 | .typedef a=>AtTy c B E p a.ty∧c[p + QM a.ty]? = some .ret
 | .enum _ _ ms=>c[p]? = some (.num (Q0p ms))∧c[p + 1]? = some .ret
 | .struct _ _ ms=>c[p]? = some (.struct ms.length true)∧Qbt c B E (p + 1) (ms.map (·.ty))∧c[p + 1 + Q4T (ms.map (·.ty))]? = some .ret
 | .union _ _ sel arms=>∃ ws o e,c[p]? = some (.choice (selD E sel.ty) ws o)∧c[e]? = some .ret ∧
   ∀ n,match Q5u arms n with
    | none=>Qy ws n=none∧o=none
    | some t=>∃ q,(match Qy ws n with | some q=>some q | none=>o)=some q∧q.2=(if Q3v t then 0 else 1)∧AtTy c B E q.1 t∧c[q.1 + QM t]? = some (.jump e)
 | _=>True
def Q1R (m:MSt) (r:Except Mar.Fault τ):Except Mar.Fault (MSt×τ):=match r with
 | .ok d=>.ok (m,d)
 | .error f=>.error f
theorem QS.thenE {W:Wk τ} {c:List Qj} {m m1 m2:MSt} {d:τ} {r:Except Mar.Fault τ} {f:Den τ} (h:QS W c m d (Q1R m1 r)) (hf:∀ d1,r = .ok d1→QS W c m1 d1 (Q1R m2 (f d1))):QS W c m d (Q1R m2 (Go.Proofs.YtmbcibgknckenaaGreatDoor.thenE r f)):=by
 cases r with
 | error e=>exact h
 | ok d1=>exact h.trans (hf d1 rfl)
theorem Qi9 (n:Int):(QJ 4).has n=decide (n=0∨n=1):=by
 simp only [NumL.has,QJ]
 rw [Bool.eq_iff_iff]
 simp
 omega
theorem Q9e (a b:Nat) (n:Int):wayL (QJ 4) [(0,a,0),(1,b,1)] none n=if n=0 then some (a,0) else if n=1 then some (b,1) else none:=by
 unfold wayL
 rw [Qi9]
 by_cases h0:n=0
 ·subst h0;simp [Qy]
 ·by_cases h1:n=1
  ·subst h1;simp [Qy]
  ·simp [h0,h1]
theorem Q87 (a b:Nat):(fun k=>(wayL (QJ 4) [(0,a,0),(1,b,1)] none k).map (·.2))=Q66:=by
 funext n
 rw [Q9e]
 unfold Q66
 split
 ·rfl
 ·split<;>rfl
def Wk.Fair (W:Wk τ):Prop:=∀ n v d k d',W.arm n v d = .ok (k,d')→(v k).isSome
theorem Q3z {W:Wk τ} {c:List Qj} {B:List UInt8→Nat} {E:Env} {K:List Nat} {nm:List UInt8→Den τ}
  (hn:∀ n p R d,R.length≤K.length→(E n).isSome→c[p]? = some (.call (B n))→QS W c ⟨p,K,R⟩ d (Q1R ⟨p + 1,K,R⟩ (nm n d))) :
  ∀ (t:Ty) (p:Nat) (R:List (Nat×Nat)) (d:τ),Flat t→R.length≤K.length→AtTy c B E p t→QS W c ⟨p,K,R⟩ d (Q1R ⟨p + QM t,K,R⟩ (tyD W nm t d)):=by
 intro t p R d hf hR h
 cases t with
 | named n a=>exact hn n p R d hR h.2 h.1
 | plain k=>
  refine QS.step h (by simp) ?_
  simp only [Q0e,tyD,QM]
  cases W.num (QJ k) d<;>rfl
 | opaq n f=>
  refine QS.step h (by simp) ?_
  simp only [Q0e,tyD,QM]
  cases W.text n f d<;>rfl
 | str n f=>
  refine QS.step h (by simp) ?_
  simp only [Q0e,tyD,QM]
  cases W.text n f d<;>rfl
 | void=>exact QS.refl W c _ d
 | arr o n f=>exact absurd hf (by simp [Flat])
 | opt o=>exact absurd hf (by simp [Flat])
theorem Qco {W:Wk τ} (hW:W.Fair) {c:List Qj} {B:List UInt8→Nat} {E:Env} {K:List Nat} (hK:K.length≤100) {nm:List UInt8→Den τ}
  (hn:∀ n p R d,R.length≤K.length→(E n).isSome→c[p]? = some (.call (B n))→QS W c ⟨p,K,R⟩ d (Q1R ⟨p + 1,K,R⟩ (nm n d))) :
  ∀ (t:Ty) (p:Nat) (R:List (Nat×Nat)) (d:τ),Q0I t→R.length < K.length→AtTy c B E p t→QS W c ⟨p,K,R⟩ d (Q1R ⟨p + QM t,K,R⟩ (tyD W nm t d)):=by
 intro t p R d hd hR h
 cases t with
 | named n a=>exact Q3z hn (.named n a) p R d trivial (by omega) h
 | plain k=>exact Q3z hn (.plain k) p R d trivial (by omega) h
 | opaq n f=>exact Q3z hn (.opaq n f) p R d trivial (by omega) h
 | str n f=>exact Q3z hn (.str n f) p R d trivial (by omega) h
 | void=>exact Q3z hn .void p R d trivial (by omega) h
 | arr o n f=>
  obtain ⟨h1,h2,h3⟩:=h
  have hg:¬ 1000≤R.length:=by omega
  simp only [tyD,QM]
  cases hl:W.list n f d with
  | error e=>
   refine QS.step h1 (by simp) ?_
   simp only [Q0e,hl,if_neg hg]
   rfl
  | ok q=>
   obtain ⟨cnt,d1⟩:=q
   cases cnt with
   | zero=>
    refine QS.step h1 (by simp) ?_
    simp only [Q0e,hl,if_neg hg]
    rfl
   | succ cnt=>
    have hs:QS W c ⟨p,K,R⟩ d (.ok (⟨p + 1,K,(p + 1,cnt + 1) :: R⟩,d1)):=by
     refine QS.step h1 (by simp) ?_
     simp only [Q0e,hl,if_neg hg]
    refine hs.trans ?_
    clear hs hl
    simp only [thenE]
    have key:∀ (j:Nat) (d:τ),QS W c ⟨p + 1,K,(p + 1,j + 1) :: R⟩ d (Q1R ⟨p + (QM o + 2),K,R⟩ (rep (tyD W nm o) (j + 1) d)):=by
     intro j
     induction j with
     | zero=>
      intro d
      unfold rep
      refine QS.thenE (Q3z hn o (p + 1) _ d hd (by simp;omega) h2) fun d2 _=>?_
      refine QS.step h3 (by simp) ?_
      simp only [Q0e]
      simp [Q1R,rep]
      omega
     | succ j ihj=>
      intro d
      unfold rep
      refine QS.thenE (Q3z hn o (p + 1) _ d hd (by simp;omega) h2) fun d2 _=>?_
      refine QS.trans (QS.step h3 (by simp) ?_) (ihj d2)
      simp only [Q0e]
      simp
    exact key cnt d1
 | opt o=>
  obtain ⟨h1,h2⟩:=h
  simp only [tyD,QM]
  cases hl:W.arm (QJ 4) Q66 d with
  | error e=>
   refine QS.step h1 (by simp) ?_
   simp only [Q0e,Q87,hl]
   rfl
  | ok q=>
   obtain ⟨k,d1⟩:=q
   have hk:=hW _ _ _ _ _ hl
   by_cases h0:k=0
   ·subst h0
    refine QS.step h1 (by simp) ?_
    simp only [Q0e,Q87,hl]
    rw [Q9e,show p + (QM o + 1)=p + 1 + QM o by omega]
    simp [thenE,Q1R]
   ·by_cases hk1:k=1
    ·subst hk1
     have hs:QS W c ⟨p,K,R⟩ d (.ok (⟨p + 1,K,R⟩,d1)):=by
      refine QS.step h1 (by simp) ?_
      simp only [Q0e,Q87,hl]
      rw [Q9e]
      rfl
     refine hs.trans ?_
     have:=Q3z hn o (p + 1) R d1 hd (by omega) h2
     rw [show p + (QM o + 1)=p + 1 + QM o by omega]
     simpa [thenE] using this
    ·simp [Q66,h0,hk1] at hk
theorem Qjq {W:Wk τ} (hW:W.Fair) {c:List Qj} {B:List UInt8→Nat} {E:Env} {K:List Nat} (hK:K.length≤100) {nm:List UInt8→Den τ}
  (hn:∀ n p R d,R.length≤K.length→(E n).isSome→c[p]? = some (.call (B n))→QS W c ⟨p,K,R⟩ d (Q1R ⟨p + 1,K,R⟩ (nm n d))) :
  ∀ (ts:List Ty) (p:Nat) (R:List (Nat×Nat)) (d:τ),(∀ t∈ts,Q0I t)→R.length < K.length→Qbt c B E p ts→QS W c ⟨p,K,R⟩ d (Q1R ⟨p + Q4T ts,K,R⟩ (allD W nm ts d)):=by
 intro ts
 induction ts with
 | nil=>intro p R d _ _ _;exact QS.refl W c _ d
 | cons t ts ih=>
  intro p R d hd hR ⟨h1,h2⟩
  unfold allD
  refine QS.thenE (Qco hW hK hn t p R d (hd t (by simp)) hR h1) fun d1 _=>?_
  have:=ih (p + QM t) R d1 (fun t ht=>hd t (List.mem_cons_of_mem _ ht)) hR h2
  rw [show p + Q4T (t :: ts)=p + QM t + Q4T ts by simp [Q4T];omega]
  exact this
def Q4E:DefL→List Ty
 | .typedef d=>[d.ty]
 | .struct _ _ ms=>ms.map (·.ty)
 | .union _ _ _ arms=>arms.map (·.2.ty)
 | _=>[]
theorem Qgt {arms:List (List Int×Qq)} {n:Int} {t:Ty} (h:Q5u arms n=some t):t∈arms.map (·.2.ty):=by
 unfold Q5u at h
 cases hf:arms.reverse.find? (fun a=>a.1.contains n) with
 | some a=>
  rw [hf] at h
  cases h
  exact List.mem_map.2 ⟨a,List.mem_reverse.1 (List.mem_of_find?_eq_some hf),rfl⟩
 | none=>
  rw [hf] at h
  simp only [Option.map_eq_some_iff] at h
  obtain ⟨a,ha,rfl⟩:=h
  exact List.mem_map.2 ⟨a,List.mem_reverse.1 (List.mem_of_find?_eq_some ha),rfl⟩
theorem Qjr {W:Wk τ} (hW:W.Fair) {c:List Qj} {B:List UInt8→Nat} {E:Env} {K:List Nat} (hK:K.length + 1≤100) {r:Nat} {nm:List UInt8→Den τ}
  (hn:∀ n p R d,R.length≤K.length + 1→(E n).isSome→c[p]? = some (.call (B n))→QS W c ⟨p,r :: K,R⟩ d (Q1R ⟨p + 1,r :: K,R⟩ (nm n d)))
  (df:DefL) (hty:∀ t a v,df≠.const t a v) (hpg:∀ t a v n,df≠.prog t a v n) (hdp:∀ t∈Q4E df,Q0I t) (p:Nat) (R:List (Nat×Nat)) (hR:R.length≤K.length) (d:τ) (h:QeU c B E p df):QS W c ⟨p,r :: K,R⟩ d (Q1R ⟨r,K,R⟩ (defD W E nm df d)):=by
 have hK':(r :: K).length≤100:=by simp;omega
 have hR':R.length < (r :: K).length:=by simp;omega
 have hn':∀ n p R d,R.length≤(r :: K).length→(E n).isSome→c[p]? = some (.call (B n))→QS W c ⟨p,r :: K,R⟩ d (Q1R ⟨p + 1,r :: K,R⟩ (nm n d)):=fun n p R d hr=>hn n p R d (by simpa using hr)
 have back:∀ (q:Nat) (d1:τ),c[q]? = some .ret→QS W c ⟨q,r :: K,R⟩ d1 (.ok (⟨r,K,R⟩,d1)):=by
  intro q d1 hq
  refine QS.step hq (by simp) ?_
  simp only [Q0e]
 have after:∀ (q:Nat) (x:Except Mar.Fault τ),c[q]? = some .ret→QS W c ⟨p,r :: K,R⟩ d (Q1R ⟨q,r :: K,R⟩ x)→QS W c ⟨p,r :: K,R⟩ d (Q1R ⟨r,K,R⟩ x):=by
  intro q x hq hx
  cases x with
  | error f=>exact hx
  | ok d1=>exact QS.trans hx (back q d1 hq)
 cases df with
 | const t a v=>exact absurd rfl (hty t a v)
 | prog t a v n=>exact absurd rfl (hpg t a v n)
 | typedef a=>exact after _ _ h.2 (Qco hW hK' hn' a.ty p R d (hdp _ (by simp [Q4E])) hR' h.1)
 | enum t a ms=>
  refine after _ _ h.2 (QS.step h.1 (by simp) ?_)
  simp only [Q0e,defD]
  cases W.num (Q0p ms) d<;>rfl
 | struct t a ms=>
  refine after _ _ h.2.2 ?_
  simp only [defD]
  cases hl:W.list ms.length true d with
  | error e=>
   refine QS.step h.1 (by simp) ?_
   simp only [Q0e,hl]
   rfl
  | ok q=>
   obtain ⟨cnt,d1⟩:=q
   have hs:QS W c ⟨p,r :: K,R⟩ d (.ok (⟨p + 1,r :: K,R⟩,d1)):=by
    refine QS.step h.1 (by simp) ?_
    simp only [Q0e,hl]
   exact hs.trans (Qjq hW hK' hn' _ (p + 1) R d1 hdp hR' h.2.1)
 | union t a sel arms=>
  obtain ⟨ws,o,e,h1,h2,h3⟩:=h
  have hv:(fun k=>(wayL (selD E sel.ty) ws o k).map (·.2))=Q73 E sel.ty arms:=by
   funext k
   unfold wayL Q73
   have hk:=h3 k
   split
   ·cases hm:Q5u arms k with
    | none=>rw [hm] at hk;rw [hk.1,hk.2];rfl
    | some ty=>
     rw [hm] at hk
     obtain ⟨q,hq,hq2,_⟩:=hk
     rw [hq]
     simp [hq2]
   ·rfl
  refine after e _ h2 ?_
  simp only [defD]
  cases hl:W.arm (selD E sel.ty) (Q73 E sel.ty arms) d with
  | error f=>
   refine QS.step h1 (by simp) ?_
   simp only [Q0e,hv,hl]
   rfl
  | ok p1=>
   obtain ⟨k,d1⟩:=p1
   have hk:=hW _ _ _ _ _ hl
   have hh:=h3 k
   unfold Q73 at hk
   split at hk
   ·rename_i hhas
    cases hm:Q5u arms k with
    | none=>rw [hm] at hk;cases hk
    | some ty=>
     rw [hm] at hh
     obtain ⟨q,hq,hq2,hq3,hq4⟩:=hh
     have hwy:wayL (selD E sel.ty) ws o k=some q:=by
      unfold wayL
      rw [if_pos hhas]
      exact hq
     have hs:QS W c ⟨p,r :: K,R⟩ d (.ok (⟨q.1,r :: K,R⟩,d1)):=by
      refine QS.step h1 (by simp) ?_
      simp only [Q0e,hv,hl,hwy]
     refine hs.trans ?_
     simp only [thenE,hm]
     have hty:=Qco hW hK' hn' ty q.1 R d1 (hdp ty (Qgt hm)) hR' hq3
     cases hx:tyD W nm ty d1 with
     | error f=>rw [hx] at hty;exact hty
     | ok d2=>
      rw [hx] at hty
      refine QS.trans hty (QS.step hq4 (by simp) ?_)
      simp only [Q0e]
      rfl
   ·cases hk
def QeV (c:List Qj) (B:List UInt8→Nat) (E:Env):Prop:=∀ n df,E n=some df→(∀ t a v,df≠.const t a v)∧(∀ t a v n,df≠.prog t a v n)∧(∀ t∈Q4E df,Q0I t)∧QeU c B E (B n) df
theorem Qia {W:Wk τ} (hW:W.Fair) (hE:∀ k d,64≤k→∃ f,W.enter k d = .error f) {c:List Qj} {B:List UInt8→Nat} {E:Env} (ha:QeV c B E) :
  ∀ (g:Nat) (K:List Nat) (n:List UInt8) (p:Nat) (R:List (Nat×Nat)) (d:τ),64≤g + K.length→K.length≤70→g + K.length≤70→R.length≤K.length→(E n).isSome→c[p]? = some (.call (B n))→QS W c ⟨p,K,R⟩ d (Q1R ⟨p + 1,K,R⟩ (Q5v W E g K.length n d)):=by
 intro g
 induction g with
 | zero=>
  intro K n p R d hg hk1 hk2 hR _ hp
  obtain ⟨f,hf⟩:=hE K.length d (by omega)
  refine QS.step hp (by simp) ?_
  simp only [Q0e,Q5v,hf,thenE,if_neg (show ¬ 1000≤K.length by omega)]
  rfl
 | succ g ih=>
  intro K n p R d hg hk1 hk2 hR hen hp
  have hgd:¬ 1000≤K.length:=by omega
  simp only [Q5v]
  cases he:W.enter K.length d with
  | error f=>
   refine QS.step hp (by simp) ?_
   simp only [Q0e,he,if_neg hgd]
   rfl
  | ok d1=>
   have hs:QS W c ⟨p,K,R⟩ d (.ok (⟨B n,(p + 1) :: K,R⟩,d1)):=by
    refine QS.step hp (by simp) ?_
    simp only [Q0e,he,if_neg hgd]
   refine hs.trans ?_
   obtain ⟨df,hd⟩:=Option.isSome_iff_exists.1 hen
   obtain ⟨h1,h2,h4,h3⟩:=ha n df hd
   simp only [thenE,hd]
   refine Qjr hW (by omega) ?_ df h1 h2 h4 (B n) R hR d1 h3
   intro n' p' R' d' hR' hen' hp'
   have:=ih ((p + 1) :: K) n' p' R' d' (by simp;omega) (by simp;omega) (by simp;omega) (by simpa using hR') hen' hp'
   simpa using this
theorem Qgu {W:Wk τ} (hW:W.Fair) (hE:∀ k d,64≤k→∃ f,W.enter k d = .error f) {c:List Qj} {B:List UInt8→Nat} {E:Env} (ha:QeV c B E) {n:List UInt8} {p:Nat} (h0:(E n).isSome) (h1:c[p]? = some (.call (B n))) (h2:c[p + 1]? = some .fin) (d:τ) :
  ∃ k,runN W c k ⟨p,[],[]⟩ d=some (Q5v W E 64 0 n d):=by
 obtain ⟨k,hk⟩:=Qia hW hE ha 64 [] n p [] d (by simp) (by simp) (by simp) (by simp) h0 h1
 cases hx:Q5v W E 64 0 n d with
 | error f=>
  refine ⟨0 + k,hk 0 _ ?_⟩
  simp only [List.length_nil,hx,Q1R]
 | ok d1=>
  refine ⟨1 + k,hk 1 _ ?_⟩
  simp only [List.length_nil,hx,Q1R,runN,h2]
end
def QF (B:List UInt8→Nat) (s:CSt):List Qj:=s.calls.foldl (fun c k=>c.set k.1 (.call (B k.2))) s.code
def Wf (s:CSt):Prop:=∀ k∈s.calls,s.code[k.1]? = some (.call 0)
theorem Q7J {α:Type} (f:Nat×List UInt8→α):∀ (l:List (Nat×List UInt8)) (c:List α),(l.foldl (fun c k=>c.set k.1 (f k)) c).length=c.length:=by
 intro l
 induction l with
 | nil=>intro c;rfl
 | cons k l ih=>intro c;simp [ih]
theorem Q7K {α:Type} (f:Nat×List UInt8→α):∀ (l:List (Nat×List UInt8)) (c d:List α),(∀ k∈l,k.1 < c.length)→l.foldl (fun c k=>c.set k.1 (f k)) (c++d)=l.foldl (fun c k=>c.set k.1 (f k)) c++d:=by
 intro l
 induction l with
 | nil=>intro c d _;rfl
 | cons k l ih=>
  intro c d h
  simp only [List.foldl_cons]
  rw [List.set_append_left _ _ (h k (by simp))]
  exact ih _ _ (fun q hq=>by simpa using h q (List.mem_cons_of_mem _ hq))
theorem Qav {α:Type} (f:Nat×List UInt8→α) (i:Nat) (x:α):∀ (l:List (Nat×List UInt8)) (c:List α),(∀ k∈l,k.1≠i)→l.foldl (fun c k=>c.set k.1 (f k)) (c.set i x)=(l.foldl (fun c k=>c.set k.1 (f k)) c).set i x:=by
 intro l
 induction l with
 | nil=>intro c _;rfl
 | cons k l ih=>
  intro c h
  simp only [List.foldl_cons]
  rw [List.set_comm _ _ (fun e=>h k (by simp) e.symm)]
  exact ih _ (fun q hq=>h q (List.mem_cons_of_mem _ hq))
section
variable {B : List UInt8 → Nat} {s : CSt}
theorem Wf.lt (h:Wf s):∀ k∈s.calls,k.1 < s.code.length:=by
 intro k hk
 have:=h k hk
 by_cases hl:k.1 < s.code.length
 ·exact hl
 ·rw [List.getElem?_eq_none (by omega)] at this
  cases this
theorem Q3b:(QF B s).length=s.code.length:=Q7J _ _ _
theorem Wf.put (h:Wf s) (x:Qj):Wf (putM x s):=by
 intro k hk
 have:=h k hk
 simp only [putM]
 rw [List.getElem?_append_left (h.lt k hk)]
 exact this
theorem Q1a (h:Wf s) (x:Qj):QF B (putM x s)=QF B s++[x]:=Q7K _ _ _ _ h.lt
theorem Wf.call (h:Wf s) (n:List UInt8):Wf (Q2m n s):=by
 intro k hk
 simp only [Q2m,List.mem_append,List.mem_singleton] at hk ⊢
 rcases hk with hk | rfl
 ·rw [List.getElem?_append_left (h.lt k hk)]
  exact h k hk
 ·simp
theorem QaM (h:Wf s) (n:List UInt8):QF B (Q2m n s)=QF B s++[.call (B n)]:=by
 simp only [QF,Q2m,List.foldl_append,List.foldl_cons,List.foldl_nil]
 rw [Q7K _ _ _ _ h.lt]
 have e:=Q7J (fun k=>Qj.call (B k.2)) s.calls s.code
 rw [← e,List.set_append_right _ _ (Nat.le_refl _)]
 simp
def Open (s:CSt) (i:Nat):Prop:=∀ k∈s.calls,k.1≠i
theorem Qe4 {i:Nat} {x:Qj} (h:Wf s) (hx:s.code[i]? = some x) (hn:x≠.call 0):Open s i:=by
 intro k hk e
 have:=h k hk
 rw [e,hx] at this
 cases this
 exact hn rfl
theorem Wf.set {i:Nat} (h:Wf s) (ho:Open s i) (x:Qj):Wf (setM i x s):=by
 intro k hk
 simp only [setM]
 rw [List.getElem?_set_ne (fun e=>ho k hk e.symm)]
 exact h k hk
theorem Q7l {i:Nat} (ho:Open s i) (x:Qj):QF B (setM i x s)=(QF B s).set i x:=Qav _ i x _ _ ho
def Q18 (B:List UInt8→Nat):Nat→Ty→List Qj
 | _,.named n _=>[.call (B n)]
 | _,.plain k=>[.num (QJ k)]
 | _,.opaq n f=>[.text n f]
 | _,.str n f=>[.text n f]
 | p,.arr o n f=>.array n f (p + QM o + 2) :: (Q18 B (p + 1) o++[.again])
 | p,.opt o=>.choice (QJ 4) [(0,p + 1 + QM o,0),(1,p + 1,1)] none :: Q18 B (p + 1) o
 | _,.void=>[]
theorem Q26 (B:List UInt8→Nat) (t:Ty):∀ p,(Q18 B p t).length=QM t:=by
 induction t with
 | arr o n f ih=>intro p;simp [Q18,QM,ih]
 | opt o ih=>intro p;simp [Q18,QM,ih]
 | _=>intro p;simp [Q18,QM]
structure Ext (s s':CSt):Prop where
 wf:Wf s'
 bo:s'.bodies=s.bodies
 en:s'.enums=s.enums
 len:s.code.length≤s'.code.length
 op:∀ i,i < s.code.length→Open s i→Open s' i
 old:∀ i,i < s.code.length→s'.code[i]? = s.code[i]?
theorem Ext.put (h:Wf s) (x:Qj):Ext s (putM x s):=⟨h.put x,rfl,rfl,by simp [putM],fun i _ ho=>ho,fun i hi=>by simp only [putM];rw [List.getElem?_append_left hi]⟩
theorem Ext.call (h:Wf s) (n:List UInt8):Ext s (Q2m n s):=by
 refine ⟨h.call n,rfl,rfl,by simp [Q2m],?_,fun i hi=>by simp only [Q2m];rw [List.getElem?_append_left hi]⟩
 intro i hi ho k hk
 simp only [Q2m,List.mem_append,List.mem_singleton] at hk
 rcases hk with hk | rfl
 ·exact ho k hk
 ·simp only
  omega
theorem Ext.trans {s1 s2:CSt} (h:Ext s s1) (k:Ext s1 s2):Ext s s2:=
 ⟨k.wf,k.bo.trans h.bo,k.en.trans h.en,Nat.le_trans h.len k.len,fun i hi ho=>k.op i (Nat.lt_of_lt_of_le hi h.len) (h.op i hi ho),fun i hi=>(k.old i (Nat.lt_of_lt_of_le hi h.len)).trans (h.old i hi)⟩
theorem Ext.set {s1:CSt} {i:Nat} (h:Ext s s1) (hi:s.code.length≤i) (ho:Open s1 i) (x:Qj):Ext s (setM i x s1):=
 ⟨h.wf.set ho x,h.bo,h.en,by simpa [setM] using h.len,h.op,fun j hj=>by simp only [setM];rw [List.getElem?_set_ne (by omega)];exact h.old j hj⟩
theorem Q88 (h:Wf s):Open (putM .hole s) s.code.length:=Qe4 (h.put _) (x:=.hole) (by simp [putM]) (by simp)
theorem Q3M (B:List UInt8→Nat) (t:Ty):∀ (s:CSt),Wf s→QF B (QL t s)=QF B s++Q18 B s.code.length t∧Ext s (QL t s):=by
 induction t with
 | named n a=>intro s h;exact ⟨QaM h n,Ext.call h n⟩
 | plain k=>intro s h;exact ⟨Q1a h _,Ext.put h _⟩
 | opaq n f=>intro s h;exact ⟨Q1a h _,Ext.put h _⟩
 | str n f=>intro s h;exact ⟨Q1a h _,Ext.put h _⟩
 | void=>intro s h;exact ⟨by simp [QL,Q18],h,rfl,rfl,Nat.le_refl _,fun _ _ ho=>ho,fun _ _=>rfl⟩
 | arr o n f ih=>
  intro s h
  have h1:=h.put .hole
  obtain ⟨i1,i2⟩:=ih (putM .hole s) h1
  have e1:(putM .hole s).code.length=s.code.length + 1:=by simp [putM]
  have op1:Open (QL o (putM .hole s)) s.code.length:=i2.op _ (by rw [e1];omega) (Q88 h)
  have ex:=(Ext.put h .hole).trans (i2.trans (Ext.put i2.wf .again))
  have op2:Open (putM .again (QL o (putM .hole s))) s.code.length:=op1
  refine ⟨?_,ex.set (Nat.le_refl _) op2 _⟩
  simp only [QL]
  rw [Q7l op2,Q1a i2.wf,i1,Q1a h,Q1J,e1]
  have hl:s.code.length=(QF B s).length:=Q3b.symm
  rw [show QF B s++[Qj.hole]++Q18 B (s.code.length + 1) o++[Qj.again]=QF B s++(Qj.hole :: (Q18 B (s.code.length + 1) o++[Qj.again])) by simp]
  rw [List.set_append_right _ _ (by omega)]
  simp only [Q18,hl,Nat.sub_self,List.set_cons_zero]
  congr 3
  omega
 | opt o ih=>
  intro s h
  have h1:=h.put .hole
  obtain ⟨i1,i2⟩:=ih (putM .hole s) h1
  have e1:(putM .hole s).code.length=s.code.length + 1:=by simp [putM]
  have op1:Open (QL o (putM .hole s)) s.code.length:=i2.op _ (by rw [e1];omega) (Q88 h)
  have ex:=(Ext.put h .hole).trans i2
  refine ⟨?_,ex.set (Nat.le_refl _) op1 _⟩
  simp only [QL]
  rw [Q7l op1,i1,Q1a h,Q1J,e1]
  have hl:s.code.length=(QF B s).length:=Q3b.symm
  rw [show QF B s++[Qj.hole]++Q18 B (s.code.length + 1) o=QF B s++(Qj.hole :: Q18 B (s.code.length + 1) o) by simp]
  rw [List.set_append_right _ _ (by omega)]
  simp only [Q18,hl,Nat.sub_self,List.set_cons_zero]
end
def Sub (c:List Qj) (p:Nat) (seg:List Qj):Prop:=∀ i x,seg[i]? = some x→c[p + i]? = some x
theorem Sub.app {c:List Qj} {p:Nat} {a b:List Qj} (h:Sub c p (a++b)):Sub c p a∧Sub c (p + a.length) b:=by
 refine ⟨fun i x hx=>h i x ?_,fun i x hx=>?_⟩
 ·have hi:i < a.length:=by
   by_cases hl:i < a.length
   ·exact hl
   ·rw [List.getElem?_eq_none (by omega)] at hx;cases hx
  rw [List.getElem?_append_left hi]
  exact hx
 ·rw [Nat.add_assoc]
  refine h (a.length + i) x ?_
  rw [List.getElem?_append_right (by omega)]
  simpa using hx
theorem Sub.cons {c:List Qj} {p:Nat} {x:Qj} {b:List Qj} (h:Sub c p (x :: b)):c[p]? = some x∧Sub c (p + 1) b:=by
 have h':Sub c p ([x]++b):=h
 obtain ⟨h1,h2⟩:=h'.app
 exact ⟨by simpa using h1 0 x (by simp),by simpa using h2⟩
theorem Sub.at {c pre seg post:List Qj} (h:c=pre++seg++post):Sub c pre.length seg:=by
 intro i x hx
 have hi:i < seg.length:=by
  by_cases hl:i < seg.length
  ·exact hl
  ·rw [List.getElem?_eq_none (by omega)] at hx;cases hx
 rw [h,List.append_assoc,List.getElem?_append_right (by omega)]
 rw [Nat.add_sub_cancel_left,List.getElem?_append_left hi]
 exact hx
def Q8r (E:Env) (t:Ty):Prop:=∀ m∈QP t,(E m.1).isSome
theorem QeW {c:List Qj} {B:List UInt8→Nat} {E:Env} (t:Ty):∀ (p:Nat),Q8r E t→Sub c p (Q18 B p t)→AtTy c B E p t:=by
 induction t with
 | named n a=>intro p hk h;exact ⟨h.cons.1,hk (n,a) (by simp [QP])⟩
 | plain k=>intro p _ h;exact h.cons.1
 | opaq n f=>intro p _ h;exact h.cons.1
 | str n f=>intro p _ h;exact h.cons.1
 | void=>intro p _ _;trivial
 | arr o n f ih=>
  intro p hk h
  obtain ⟨h1,h2⟩:=h.cons
  obtain ⟨h3,h4⟩:=h2.app
  rw [Q26] at h4
  exact ⟨h1,ih _ hk h3,h4.cons.1⟩
 | opt o ih=>
  intro p hk h
  obtain ⟨h1,h2⟩:=h.cons
  exact ⟨h1,ih _ hk h2⟩
def Q5c (B:List UInt8→Nat):Nat→List Ty→List Qj
 | _,[]=>[]
 | p,t :: ts=>Q18 B p t++Q5c B (p + QM t) ts
theorem QeX (B:List UInt8→Nat):∀ (ts:List Ty) (p:Nat),(Q5c B p ts).length=Q4T ts:=by
 intro ts
 induction ts with
 | nil=>intro p;rfl
 | cons t ts ih=>intro p;simp [Q5c,Q4T,Q26,ih]
theorem Qkd {c:List Qj} {B:List UInt8→Nat} {E:Env}:∀ (ts:List Ty) (p:Nat),(∀ t∈ts,Q8r E t)→Sub c p (Q5c B p ts)→Qbt c B E p ts:=by
 intro ts
 induction ts with
 | nil=>intro p _ _;trivial
 | cons t ts ih=>
  intro p hk h
  obtain ⟨h1,h2⟩:=h.app
  rw [Q26] at h2
  exact ⟨QeW t p (hk t (by simp)) h1,ih _ (fun t ht=>hk t (List.mem_cons_of_mem _ ht)) h2⟩
theorem Qcp (B:List UInt8→Nat):∀ (ts:List Ty) (s:CSt),Wf s→QF B (ts.foldl (fun s t=>QL t s) s)=QF B s++Q5c B s.code.length ts∧Ext s (ts.foldl (fun s t=>QL t s) s):=by
 intro ts
 induction ts with
 | nil=>intro s h;exact ⟨by simp [Q5c],h,rfl,rfl,Nat.le_refl _,fun _ _ ho=>ho,fun _ _=>rfl⟩
 | cons t ts ih=>
  intro s h
  obtain ⟨h1,h2⟩:=Q3M B t s h
  obtain ⟨h3,h4⟩:=ih _ h2.wf
  refine ⟨?_,h2.trans h4⟩
  simp only [List.foldl_cons]
  rw [h3,h1,Q1J]
  simp [Q5c]
abbrev Q2y (a:List Int×Qq):Nat:=QM a.2.ty + 1
def Q0m (az:List (List Int×Qq)):Nat:=(az.map Q2y).sum
def Q0v (B:List UInt8→Nat) (e:Nat):Nat→List (List Int×Qq)→List Qj
 | _,[]=>[]
 | p,a :: az=>Q18 B p a.2.ty++(.jump e :: Q0v B e (p + Q2y a) az)
def Q3A:Nat→List (List Int×Qq)→List Nat
 | _,[]=>[]
 | p,a :: az=>(p + QM a.2.ty) :: Q3A (p + Q2y a) az
theorem Q6H (B:List UInt8→Nat) (e:Nat):∀ (az:List (List Int×Qq)) (p:Nat),(Q0v B e p az).length=Q0m az:=by
 intro az
 induction az with
 | nil=>intro p;rfl
 | cons a az ih=>intro p;have:=ih (p + Q2y a);simp only [Q0v,Q0m,List.length_append,Q26,List.length_cons,List.map_cons,List.sum_cons] at this ⊢;rw [this];simp only [Q2y];omega
theorem Qcq (B:List UInt8→Nat) (e:Nat) (a:List Int×Qq):∀ (az:List (List Int×Qq)) (p:Nat),Q0v B e p (az++[a])=Q0v B e p az++(Q18 B (p + Q0m az) a.2.ty++[.jump e]):=by
 intro az
 induction az with
 | nil=>intro p;simp [Q0v,Q0m]
 | cons b az ih=>
  intro p
  simp only [List.cons_append,Q0v,ih,List.append_assoc]
  rw [show p + Q2y b + Q0m az=p + Q0m (b :: az) by simp [Q0m];omega]
theorem Qdz (a:List Int×Qq):∀ (az:List (List Int×Qq)) (p:Nat),Q3A p (az++[a])=Q3A p az++[p + Q0m az + QM a.2.ty]:=by
 intro az
 induction az with
 | nil=>intro p;simp [Q3A,Q0m]
 | cons b az ih=>
  intro p
  simp only [List.cons_append,Q3A,ih]
  rw [show p + Q2y b + Q0m az=p + Q0m (b :: az) by simp [Q0m];omega]
theorem Qke {c:List Qj} {B:List UInt8→Nat} {e:Nat} {a:List Int×Qq}:∀ (as1 as2:List (List Int×Qq)) (p:Nat),Sub c p (Q0v B e p (as1++a :: as2))→Sub c (p + Q0m as1) (Q18 B (p + Q0m as1) a.2.ty)∧c[p + Q0m as1 + QM a.2.ty]? = some (.jump e):=by
 intro as1
 induction as1 with
 | nil=>
  intro as2 p h
  simp only [List.nil_append,Q0v] at h
  obtain ⟨h1,h2⟩:=h.app
  rw [Q26] at h2
  exact ⟨by simpa [Q0m] using h1,by simpa [Q0m] using h2.cons.1⟩
 | cons b as1 ih=>
  intro as2 p h
  simp only [List.cons_append,Q0v] at h
  have h2:=h.app.2.cons.2
  rw [Q26] at h2
  have:=ih as2 (p + Q2y b) (by simpa [Nat.add_assoc] using h2)
  rw [show p + Q2y b + Q0m as1=p + Q0m (b :: as1) by simp [Q0m];omega] at this
  exact this
theorem Q3c {κ α:Type} [DecidableEq κ] (v:α) (n k:κ) (ws:List (κ×α)):Qy (mput ws k v) n=if n=k then some v else Qy ws n:=by
 unfold mput
 split
 ·rename_i hin
  induction ws with
  | nil=>simp at hin
  | cons q ws ih=>
   by_cases hq:q.1=k
   ·by_cases hn:n=k
    ·subst hn;simp [Qy,hq]
    ·have hrest:Qy (ws.map fun p=>if p.1=k then (k,v) else p) n=Qy ws n:=by
      clear ih hin
      induction ws with
      | nil=>rfl
      | cons r ws ih2=>
       unfold Qy at ih2 ⊢
       simp only [List.map_cons,List.find?_cons]
       by_cases hr:r.1=k
       ·have h1:(k == n)=false:=by simpa using fun e=>hn e.symm
        have h2:(r.1 == n)=false:=by rw [hr];exact h1
        simp only [hr,if_true,h1]
        exact ih2
       ·simp only [hr,if_false]
        split
        ·rfl
        ·exact ih2
     have h1:(k == n)=false:=by simpa using fun e=>hn e.symm
     have h2:(q.1 == n)=false:=by rw [hq];exact h1
     unfold Qy at hrest ⊢
     simp only [List.map_cons,List.find?_cons,hq,if_true,h1,if_neg hn]
     exact hrest
   ·have hin':k∈ws.map (·.1):=by
     simp only [List.map_cons,List.mem_cons] at hin
     rcases hin with h | h
     ·exact absurd h.symm hq
     ·exact h
    have:=ih hin'
    unfold Qy at this ⊢
    simp only [List.map_cons,List.find?_cons,hq,if_false]
    by_cases hqn:q.1=n
    ·have:n≠k:=fun e=>hq (hqn.trans e)
     simp [hqn,this]
    ·have h2:(q.1 == n)=false:=by simpa using hqn
     simp only [h2]
     exact this
 ·rename_i hin
  by_cases hn:n=k
  ·subst hn
   have:ws.find? (fun p=>p.1 == n)=none:=List.find?_eq_none.2 (fun p hp=>by simp;exact fun e=>hin (e ▸ List.mem_map_of_mem hp))
   simp [Qy,List.find?_append,this]
  ·have h1:(k == n)=false:=by simpa using fun e=>hn e.symm
   simp [Qy,List.find?_append,h1,hn]
theorem Qgv {n:Int} (v:Nat×Nat):∀ (l:List Int) (ws:List (Int×Nat×Nat)),Qy (l.foldl (fun l k=>mput l k v) ws) n=if l.contains n then some v else Qy ws n:=by
 intro l
 induction l with
 | nil=>intro ws;simp
 | cons k l ih=>
  intro ws
  simp only [List.foldl_cons]
  rw [ih,Q3c]
  by_cases hl:l.contains n=true
  ·have:(k :: l).contains n=true:=by simp at hl ⊢;exact Or.inr hl
   rw [if_pos hl,if_pos this]
  ·rw [if_neg hl]
   by_cases hk:n=k
   ·have:(k :: l).contains n=true:=by simp [hk]
    rw [if_pos hk,if_pos this]
   ·have:¬ (k :: l).contains n=true:=by simp at hl ⊢;exact ⟨hk,hl⟩
    rw [if_neg hk,if_neg this]
def Q3d (p:Nat) (az:List (List Int×Qq)) (f:List Int×Qq→Bool) (w:Option (Nat×Nat)):Prop:=
 match az.reverse.find? f with
 | none=>w=none
 | some a=>∃ as1 as2,az=as1++a :: as2∧w=some (p + Q0m as1,if Q3v a.2.ty then 0 else 1)
theorem Q9Z {p:Nat} {az:List (List Int×Qq)} {f:List Int×Qq→Bool} {w:Option (Nat×Nat)} (h:Q3d p az f w) (a:List Int×Qq):Q3d p (az++[a]) f (if f a then some (p + Q0m az,if Q3v a.2.ty then 0 else 1) else w):=by
 unfold Q3d at h ⊢
 rw [List.reverse_append,List.reverse_singleton,List.singleton_append,List.find?_cons]
 cases hf:f a with
 | true=>exact ⟨az,[],rfl,rfl⟩
 | false=>
  simp only [Bool.false_eq_true,if_false]
  cases hg:az.reverse.find? f with
  | none=>rw [hg] at h;exact h
  | some b=>
   rw [hg] at h
   obtain ⟨as1,as2,h1,h2⟩:=h
   exact ⟨as1,as2++[a],by rw [h1];simp,h2⟩
theorem Qgw (B:List UInt8→Nat) (q0:USt) (h0:Wf q0.s) (hw:q0.ways=[]) (ho:q0.other=none) (he:q0.ends=[]):∀ (n:Nat) (az:List (List Int×Qq)),az.length=n →
  QF B (az.foldl uArm q0).s=QF B q0.s++Q0v B 0 q0.s.code.length az∧Ext q0.s (az.foldl uArm q0).s∧(az.foldl uArm q0).ends=Q3A q0.s.code.length az ∧
  (∀ n,Q3d q0.s.code.length az (fun a=>a.1.contains n) (Qy (az.foldl uArm q0).ways n))∧Q3d q0.s.code.length az (fun a=>a.1.isEmpty) (az.foldl uArm q0).other:=by
 intro n
 induction n with
 | zero=>
  intro az hl
  have:az=[]:=List.length_eq_zero_iff.1 hl
  subst this
  exact ⟨by simp [Q0v],⟨h0,rfl,rfl,Nat.le_refl _,fun _ _ ho=>ho,fun _ _=>rfl⟩,by simp [Q3A,he],fun n=>by simp [Q3d,hw,Qy],by simp [Q3d,ho]⟩
 | succ n ih=>
  intro az hl
  have hne:az≠[]:=by intro e;subst e;simp at hl
  obtain ⟨az',a,rfl⟩:∃ az' a,az=az'++[a]:=⟨az.dropLast,az.getLast hne,(List.dropLast_concat_getLast hne).symm⟩
  obtain ⟨h1,h2,h3,h4,h5⟩:=ih az' (by simpa using hl)
  have hlen:(az'.foldl uArm q0).s.code.length=q0.s.code.length + Q0m az':=by
   have:=congrArg List.length h1
   rw [Q3b,List.length_append,Q3b,Q6H] at this
   exact this
  obtain ⟨v1,v2⟩:=Q3M B a.2.ty (az'.foldl uArm q0).s h2.wf
  have vl:=Q1J a.2.ty (az'.foldl uArm q0).s
  simp only [List.foldl_append,List.foldl_cons,List.foldl_nil]
  refine ⟨?_,?_,?_,?_,?_⟩
  ·simp only [uArm,armM]
   rw [Q1a v2.wf,v1,h1,Qcq,hlen]
   simp
  ·exact h2.trans (v2.trans (Ext.put v2.wf _))
  ·simp only [uArm,armM]
   rw [h3,Qdz,vl,hlen]
  ·intro k
   simp only [uArm]
   rw [Qgv]
   have:=Q9Z (h4 k) a
   simp only [wayM,hlen]
   exact this
  ·simp only [uArm]
   have:=Q9Z h5 a
   simp only [wayM,hlen]
   by_cases hc:a.1=[]
   ·simpa [hc] using this
   ·have hb:a.1.isEmpty=false:=by simpa using hc
    simpa [hc,hb] using this
theorem Qgx (B:List UInt8→Nat) (e:Nat):∀ (az:List (List Int×Qq)) (pre post:List Qj) ,(Q3A pre.length az).foldl (fun c i=>c.set i (.jump e)) (pre++(Q0v B 0 pre.length az++post))=pre++(Q0v B e pre.length az++post):=by
 intro az
 induction az with
 | nil=>intro pre post;rfl
 | cons a az ih=>
  intro pre post
  simp only [Q3A,Q0v,List.foldl_cons]
  have e1:(pre++(Q18 B pre.length a.2.ty++Qj.jump 0 :: Q0v B 0 (pre.length + Q2y a) az++post)).set (pre.length + QM a.2.ty) (.jump e)=(pre++Q18 B pre.length a.2.ty++[Qj.jump e])++(Q0v B 0 (pre.length + Q2y a) az++post):=by
   rw [show pre++(Q18 B pre.length a.2.ty++Qj.jump 0 :: Q0v B 0 (pre.length + Q2y a) az++post)=(pre++Q18 B pre.length a.2.ty)++(Qj.jump 0 :: (Q0v B 0 (pre.length + Q2y a) az++post)) by simp]
   rw [List.set_append_right _ _ (by simp [Q26])]
   simp [Q26]
  rw [e1]
  have hl:(pre++Q18 B pre.length a.2.ty++[Qj.jump e]).length=pre.length + Q2y a:=by simp [Q26,Nat.add_assoc]
  have:=ih (pre++Q18 B pre.length a.2.ty++[Qj.jump e]) post
  rw [hl] at this
  rw [this]
  simp
theorem Qgy (l:List Nat):∀ (s:CSt),(Q1Q l s).code=l.foldl (fun c i=>c.set i (.jump s.code.length)) s.code∧(Q1Q l s).calls=s.calls∧(Q1Q l s).bodies=s.bodies∧(Q1Q l s).enums=s.enums:=by
 induction l with
 | nil=>intro s;exact ⟨rfl,rfl,rfl,rfl⟩
 | cons i l ih=>
  intro s
  obtain ⟨h1,h2,h3,h4⟩:=ih (setM i (.jump s.code.length) s)
  have e:(setM i (.jump s.code.length) s).code.length=s.code.length:=by simp [setM]
  rw [e] at h1
  exact ⟨h1,h2,h3,h4⟩
theorem QeY (B:List UInt8→Nat) (l:List Nat):∀ (s:CSt),(∀ i∈l,Open s i)→QF B (Q1Q l s)=l.foldl (fun c i=>c.set i (.jump s.code.length)) (QF B s):=by
 induction l with
 | nil=>intro s _;rfl
 | cons i l ih=>
  intro s h
  have e:(setM i (.jump s.code.length) s).code.length=s.code.length:=by simp [setM]
  have:=ih (setM i (.jump s.code.length) s) (fun j hj=>h j (List.mem_cons_of_mem _ hj))
  rw [e,Q7l (h i (by simp))] at this
  exact this
theorem Qgz (l:List Nat):∀ (s0 s:CSt),Ext s0 s→(∀ i∈l,s0.code.length≤i)→(∀ i∈l,Open s i)→Ext s0 (Q1Q l s):=by
 induction l with
 | nil=>intro s0 s h _ _;exact h
 | cons i l ih=>
  intro s0 s h h1 h2
  exact ih s0 _ (h.set (h1 i (by simp)) (h2 i (by simp)) _) (fun j hj=>h1 j (List.mem_cons_of_mem _ hj)) (fun j hj=>h2 j (List.mem_cons_of_mem _ hj))
theorem QgA:∀ (az:List (List Int×Qq)) (p:Nat),∀ i∈Q3A p az,p≤i:=by
 intro az
 induction az with
 | nil=>intro p i hi;cases hi
 | cons a az ih=>
  intro p i hi
  simp only [Q3A,List.mem_cons] at hi
  rcases hi with rfl | hi
  ·omega
  ·have:=ih _ i hi
   omega
theorem QgB (q0:USt) (h0:Wf q0.s) (he:q0.ends=[]):∀ (n:Nat) (az:List (List Int×Qq)),az.length=n→Wf (az.foldl uArm q0).s∧∀ i∈(az.foldl uArm q0).ends,(az.foldl uArm q0).s.code[i]? = some (.jump 0):=by
 intro n
 induction n with
 | zero=>
  intro az hl
  have:az=[]:=List.length_eq_zero_iff.1 hl
  subst this
  exact ⟨h0,by intro i hi;simp [he] at hi⟩
 | succ n ih=>
  intro az hl
  have hne:az≠[]:=by intro e;subst e;simp at hl
  obtain ⟨az',a,rfl⟩:∃ az' a,az=az'++[a]:=⟨az.dropLast,az.getLast hne,(List.dropLast_concat_getLast hne).symm⟩
  obtain ⟨h1,h2⟩:=ih az' (by simpa using hl)
  obtain ⟨_,v2⟩:=Q3M (fun _=>0) a.2.ty (az'.foldl uArm q0).s h1
  simp only [List.foldl_append,List.foldl_cons,List.foldl_nil]
  refine ⟨v2.wf.put _,?_⟩
  intro i hi
  simp only [uArm,List.mem_append,List.mem_singleton] at hi ⊢
  rcases hi with hi | rfl
  ·have hl:i < (az'.foldl uArm q0).s.code.length:=by
    by_cases hl:i < (az'.foldl uArm q0).s.code.length
    ·exact hl
    ·have:=h2 i hi
     rw [List.getElem?_eq_none (by omega)] at this
     cases this
   simp only [putM,armM]
   rw [List.getElem?_append_left (Nat.lt_of_lt_of_le hl v2.len),v2.old i hl]
   exact h2 i hi
  ·simp [putM,armM]
theorem Qa0 (B:List UInt8→Nat) (sel:Qq) (arms:List (List Int×Qq)) (s:CSt) (h:Wf s) :
  ∃ ws o,QF B (Q40 sel arms s)=QF B s++(.choice (Q0n s sel.ty) ws o :: Q0v B (s.code.length + 1 + Q0m arms) (s.code.length + 1) arms)∧Ext s (Q40 sel arms s) ∧
   (∀ n,Q3d (s.code.length + 1) arms (fun a=>a.1.contains n) (Qy ws n))∧Q3d (s.code.length + 1) arms (fun a=>a.1.isEmpty) o:=by
 have h1:=h.put .hole
 have e1:(putM .hole s).code.length=s.code.length + 1:=by simp [putM]
 obtain ⟨a1,a2,a3,a4,a5⟩:=Qgw B ⟨putM .hole s,[],none,[]⟩ h1 rfl rfl rfl arms.length arms rfl
 obtain ⟨_,b2⟩:=QgB ⟨putM .hole s,[],none,[]⟩ h1 rfl arms.length arms rfl
 simp only [e1] at a1 a2 a3 a4 a5
 have op1:Open (arms.foldl uArm ⟨putM .hole s,[],none,[]⟩).s s.code.length:=a2.op _ (by rw [e1];omega) (Q88 h)
 have hq:(arms.foldl uArm ⟨putM .hole s,[],none,[]⟩).s.code.length=s.code.length + 1 + Q0m arms:=by
  have:=congrArg List.length a1
  rw [Q3b,List.length_append,Q3b,Q6H,e1] at this
  exact this
 have hge:∀ i∈(arms.foldl uArm ⟨putM .hole s,[],none,[]⟩).ends,s.code.length + 1≤i:=by
  intro i hi
  rw [a3] at hi
  exact QgA _ _ i hi
 have exs:=((Ext.put h .hole).trans a2).set (Nat.le_refl _) op1 (.choice (Q0n s sel.ty) (arms.foldl uArm ⟨putM .hole s,[],none,[]⟩).ways (arms.foldl uArm ⟨putM .hole s,[],none,[]⟩).other)
 have hop:∀ i∈(arms.foldl uArm ⟨putM .hole s,[],none,[]⟩).ends,Open (setM s.code.length (.choice (Q0n s sel.ty) (arms.foldl uArm ⟨putM .hole s,[],none,[]⟩).ways (arms.foldl uArm ⟨putM .hole s,[],none,[]⟩).other) (arms.foldl uArm ⟨putM .hole s,[],none,[]⟩).s) i:=by
  intro i hi
  have h':Open (arms.foldl uArm ⟨putM .hole s,[],none,[]⟩).s i:=Qe4 a2.wf (b2 i hi) (by simp)
  exact h'
 refine ⟨_,_,?_,Qgz _ _ _ exs (fun i hi=>by have:=hge i hi;omega) hop,a4,a5⟩
 simp only [Q40]
 rw [QeY B _ _ hop,Q7l op1,a1,Q1a h,a3]
 have hs:(setM s.code.length (.choice (Q0n s sel.ty) (arms.foldl uArm ⟨putM .hole s,[],none,[]⟩).ways (arms.foldl uArm ⟨putM .hole s,[],none,[]⟩).other) (arms.foldl uArm ⟨putM .hole s,[],none,[]⟩).s).code.length=s.code.length + 1 + Q0m arms:=by simp [setM,hq]
 rw [hs]
 have hl:s.code.length=(QF B s).length:=Q3b.symm
 have e2:(QF B s++[Qj.hole]++Q0v B 0 (s.code.length + 1) arms).set s.code.length (.choice (Q0n s sel.ty) (arms.foldl uArm ⟨putM .hole s,[],none,[]⟩).ways (arms.foldl uArm ⟨putM .hole s,[],none,[]⟩).other)=(QF B s++[Qj.choice (Q0n s sel.ty) (arms.foldl uArm ⟨putM .hole s,[],none,[]⟩).ways (arms.foldl uArm ⟨putM .hole s,[],none,[]⟩).other])++(Q0v B 0 (s.code.length + 1) arms++[]):=by
  rw [show QF B s++[Qj.hole]++Q0v B 0 (s.code.length + 1) arms=QF B s++(Qj.hole :: Q0v B 0 (s.code.length + 1) arms) by simp]
  rw [List.set_append_right _ _ (by omega)]
  simp [hl]
 rw [e2]
 have hl2:(QF B s++[Qj.choice (Q0n s sel.ty) (arms.foldl uArm ⟨putM .hole s,[],none,[]⟩).ways (arms.foldl uArm ⟨putM .hole s,[],none,[]⟩).other]).length=s.code.length + 1:=by simp [hl]
 have:=Qgx B (s.code.length + 1 + Q0m arms) arms (QF B s++[Qj.choice (Q0n s sel.ty) (arms.foldl uArm ⟨putM .hole s,[],none,[]⟩).ways (arms.foldl uArm ⟨putM .hole s,[],none,[]⟩).other]) []
 rw [hl2] at this
 rw [this]
 simp
def Q9f (E:Env) (d:DefL):Prop:=∀ t∈Q4E d,Q8r E t
def Qkt (E:Env) (s:CSt):DefL→Prop
 | .union _ _ sel _=>Q0n s sel.ty=selD E sel.ty
 | _=>True
theorem QgC {arms:List (List Int×Qq)} {p:Nat} {ws:List (Int×Nat×Nat)} {o:Option (Nat×Nat)} {c:List Qj} {B:List UInt8→Nat} {E:Env} {e:Nat}
  (h1:∀ n,Q3d p arms (fun a=>a.1.contains n) (Qy ws n)) (h2:Q3d p arms (fun a=>a.1.isEmpty) o) (hs:Sub c p (Q0v B e p arms)) (hk:∀ a∈arms,Q8r E a.2.ty) (n:Int) :
  match Q5u arms n with
    | none=>Qy ws n=none∧o=none
    | some t=>∃ q,(match Qy ws n with | some q=>some q | none=>o)=some q∧q.2=(if Q3v t then 0 else 1)∧AtTy c B E q.1 t∧c[q.1 + QM t]? = some (.jump e):=by
 have h3:=h1 n
 have key:∀ (f:List Int×Qq→Bool) (w:Option (Nat×Nat)) (a:List Int×Qq),arms.reverse.find? f=some a→Q3d p arms f w→∃ q,w=some q∧q.2=(if Q3v a.2.ty then 0 else 1)∧AtTy c B E q.1 a.2.ty∧c[q.1 + QM a.2.ty]? = some (.jump e):=by
  intro f w a hf hw
  unfold Q3d at hw
  rw [hf] at hw
  obtain ⟨as1,as2,ha,hq⟩:=hw
  refine ⟨_,hq,rfl,?_⟩
  rw [ha] at hs
  obtain ⟨g1,g2⟩:=Qke as1 as2 p hs
  exact ⟨QeW _ _ (hk a (by rw [ha];simp)) g1,g2⟩
 unfold Q5u
 cases hf:arms.reverse.find? (fun a=>a.1.contains n) with
 | some a=>
  obtain ⟨q,g1,g2⟩:=key _ _ a hf h3
  exact ⟨q,by rw [g1],g2⟩
 | none=>
  unfold Q3d at h3
  rw [hf] at h3
  simp only [h3]
  cases hg:arms.reverse.find? (fun a=>a.1.isEmpty) with
  | none=>
   unfold Q3d at h2
   rw [hg] at h2
   exact ⟨trivial,h2⟩
  | some a=>
   obtain ⟨q,g1,g2⟩:=key _ _ a hg h2
   exact ⟨q,g1,g2⟩
theorem Qcr (B:List UInt8→Nat) (d:DefL) (s:CSt) (h:Wf s) (ht:Q0A d=true) :
  ∃ seg,QF B (QH d s)=QF B s++seg∧Wf (QH d s)∧(QH d s).bodies=mput s.bodies (Qw d).1 s.code.length ∧
   (∀ (c:List Qj) (E:Env),Sub c s.code.length seg→Q9f E d→Qkt E s d→QeU c B E s.code.length d):=by
 cases d with
 | const t a v=>simp [Q0A] at ht
 | prog t a v n=>simp [Q0A] at ht
 | typedef d=>
  obtain ⟨h1,h2⟩:=Q3M B d.ty s h
  refine ⟨Q18 B s.code.length d.ty++[.ret],?_,h2.wf.put _,?_,?_⟩
  ·have:=Q1a (B:=B) h2.wf .ret
   simp only [QH,Q38]
   show QF B (putM .ret (QL d.ty s))=_
   rw [this,h1]
   simp
  ·simp only [QH,Q38,h2.bo]
   rfl
  ·intro c E hs hk _
   obtain ⟨g1,g2⟩:=hs.app
   rw [Q26] at g2
   exact ⟨QeW _ _ (hk d.ty (by simp [Q4E])) g1,g2.cons.1⟩
 | enum t a ms=>
  have h1:Wf { s with enums:=mput s.enums t (Q0p ms) }:=h
  refine ⟨[.num (Q0p ms),.ret],?_,(h1.put _).put _,rfl,?_⟩
  ·simp only [QH,Q38]
   show QF B (putM .ret (putM (.num (Q0p ms)) { s with enums:=mput s.enums t (Q0p ms) }))=_
   rw [Q1a (h1.put _),Q1a h1]
   show QF B s++[_]++[_]=_
   simp
  ·intro c E hs _ _
   exact ⟨hs.cons.1,hs.cons.2.cons.1⟩
 | struct t a ms=>
  have e1:(putM (.struct ms.length true) s).code.length=s.code.length + 1:=by simp [putM]
  obtain ⟨h1,h2⟩:=Qcp B (ms.map (·.ty)) (putM (.struct ms.length true) s) (h.put _)
  have ef:Q1I ms s=(ms.map (·.ty)).foldl (fun s t=>QL t s) (putM (.struct ms.length true) s):=by
   simp only [Q1I,List.foldl_map]
  rw [e1] at h1
  have ex:=(Ext.put h (.struct ms.length true)).trans h2
  refine ⟨.struct ms.length true :: (Q5c B (s.code.length + 1) (ms.map (·.ty))++[.ret]),?_,?_,?_,?_⟩
  ·simp only [QH,Q38]
   show QF B (putM .ret (Q1I ms s))=_
   rw [ef,Q1a h2.wf,h1,Q1a h]
   simp
  ·show Wf (putM .ret (Q1I ms s))
   rw [ef]
   exact h2.wf.put _
  ·simp only [QH,Q38]
   rw [ef,ex.bo]
   rfl
  ·intro c E hs hk _
   obtain ⟨g1,g2⟩:=hs.cons
   obtain ⟨g3,g4⟩:=g2.app
   rw [QeX] at g4
   exact ⟨g1,Qkd _ _ hk g3,g4.cons.1⟩
 | union t a sel arms=>
  obtain ⟨ws,o,h1,h2,h3,h4⟩:=Qa0 B sel arms s h
  refine ⟨.choice (Q0n s sel.ty) ws o :: (Q0v B (s.code.length + 1 + Q0m arms) (s.code.length + 1) arms++[.ret]),?_,?_,?_,?_⟩
  ·simp only [QH,Q38]
   show QF B (putM .ret (Q40 sel arms s))=_
   rw [Q1a h2.wf,h1]
   simp
  ·exact h2.wf.put _
  ·simp only [QH,Q38,h2.bo]
   rfl
  ·intro c E hs hk hsel
   obtain ⟨g1,g2⟩:=hs.cons
   obtain ⟨g3,g4⟩:=g2.app
   rw [Q6H] at g4
   have hsel':Q0n s sel.ty=selD E sel.ty:=hsel
   rw [hsel'] at g1
   exact ⟨ws,o,s.code.length + 1 + Q0m arms,g1,g4.cons.1,QgC h3 h4 g3 (fun a ha=>hk _ (by simp [Q4E];exact ⟨_,_,ha,rfl⟩))⟩
theorem QgD (d:DefL) (s:CSt) (h:Wf s) (n:List UInt8):Qy (QH d s).enums n=match d with
  | .enum t _ ms=>if n=t then some (Q0p ms) else Qy s.enums n
  | _=>Qy s.enums n:=by
 cases d with
 | enum t a ms=>exact Q3c _ _ _ _
 | const t a v=>rfl
 | prog t a v n=>rfl
 | typedef d=>simp only [QH,Q38,putM,(Q3M (fun _=>0) d.ty s h).2.en]
 | struct t a ms=>
  have ef:Q1I ms s=(ms.map (·.ty)).foldl (fun s t=>QL t s) (putM (.struct ms.length true) s):=by simp only [Q1I,List.foldl_map]
  simp only [QH,Q38,putM,ef]
  have:=((Ext.put h (.struct ms.length true)).trans (Qcp (fun _=>0) (ms.map (·.ty)) (putM (.struct ms.length true) s) (h.put _)).2).en
  simp only [putM] at this
  rw [this]
 | union t a sel arms=>
  obtain ⟨ws,o,_,h2,_⟩:=Qa0 (fun _=>0) sel arms s h
  simp only [QH,Q38,putM,h2.en]
def QG (ds:List DefL):CSt:=ds.foldl (fun s d=>QH d s) st0C
theorem Q3B (ds:List DefL) (d:DefL):QG (ds++[d])=QH d (QG ds):=by simp [QG]
theorem Q67 {d:DefL} (h:Q0A d=false) (s:CSt):QH d s=s:=by cases d<;>simp [Q0A] at h<;>rfl
theorem Q9g (B:List UInt8→Nat):∀ (k:Nat) (ds:List DefL),ds.length=k →
  Wf (QG ds)∧(∀ n,(∀ d∈ds,Q0A d=true→(Qw d).1≠n)→Qy (QG ds).bodies n=none) ∧
  (∀ az d bs,ds=az++d :: bs→Q0A d=true→(∀ e∈bs,Q0A e=true→(Qw e).1≠(Qw d).1)→Qy (QG ds).bodies (Qw d).1=some (QG az).code.length) ∧
  (∀ az bs,ds=az++bs→∃ post,QF B (QG ds)=QF B (QG az)++post) ∧
  (∀ az t a ms bs,ds=az++DefL.enum t a ms :: bs→(∀ e∈bs,Q0A e=true→(Qw e).1≠t)→Qy (QG ds).enums t=some (Q0p ms)):=by
 intro k
 induction k with
 | zero=>
  intro ds hl
  have:ds=[]:=List.length_eq_zero_iff.1 hl
  subst this
  refine ⟨(by intro k hk;cases hk),fun n _=>rfl,?_,?_,?_⟩
  ·intro az d bs h;simp at h
  ·intro az bs h
   have:az=[]:=by simp at h;exact h.1
   subst this
   exact ⟨[],by simp⟩
  ·intro az t a ms bs h;simp at h
 | succ k ih=>
  intro ds hl
  have hne:ds≠[]:=by intro e;subst e;simp at hl
  obtain ⟨ds',z,rfl⟩:∃ ds' z,ds=ds'++[z]:=⟨ds.dropLast,ds.getLast hne,(List.dropLast_concat_getLast hne).symm⟩
  obtain ⟨h1,h2,h3,h4,h5⟩:=ih ds' (by simpa using hl)
  rw [Q3B]
  have split:∀ (az:List DefL) (d:DefL) (bs:List DefL),ds'++[z]=az++d :: bs→(bs=[]∧d=z∧az=ds')∨∃ bs',bs=bs'++[z]∧ds'=az++d :: bs':=by
   intro az d bs h
   by_cases hb:bs=[]
   ·subst hb
    obtain ⟨e1,e2⟩:=List.append_inj' h rfl
    simp at e2
    exact Or.inl ⟨rfl,e2.symm,e1.symm⟩
   ·obtain ⟨bs',y,rfl⟩:∃ bs' y,bs=bs'++[y]:=⟨bs.dropLast,bs.getLast hb,(List.dropLast_concat_getLast hb).symm⟩
    have h':ds'++[z]=(az++d :: bs')++[y]:=by rw [h];simp
    obtain ⟨e1,e2⟩:=List.append_inj' h' rfl
    simp at e2
    exact Or.inr ⟨bs',by rw [e2],e1⟩
  cases hz:Q0A z with
  | false=>
   rw [Q67 hz]
   refine ⟨h1,?_,?_,?_,?_⟩
   ·intro n hn
    exact h2 n (fun d hd=>hn d (List.mem_append_left _ hd))
   ·intro az d bs h ht hb
    rcases split az d bs h with ⟨_,rfl,_⟩ | ⟨bs',rfl,h'⟩
    ·rw [hz] at ht;cases ht
    ·exact h3 az d bs' h' ht (fun e he=>hb e (List.mem_append_left _ he))
   ·intro az bs h
    by_cases hb:bs=[]
    ·subst hb
     refine ⟨[],?_⟩
     simp at h
     rw [← h,Q3B,Q67 hz]
     simp
    ·obtain ⟨bs',y,rfl⟩:∃ bs' y,bs=bs'++[y]:=⟨bs.dropLast,bs.getLast hb,(List.dropLast_concat_getLast hb).symm⟩
     have h':ds'++[z]=(az++bs')++[y]:=by rw [h];simp
     obtain ⟨e1,_⟩:=List.append_inj' h' rfl
     exact h4 az bs' e1
   ·intro az t a ms bs h hb
    rcases split az _ bs h with ⟨_,rfl,_⟩ | ⟨bs',rfl,h'⟩
    ·simp [Q0A] at hz
    ·exact h5 az t a ms bs' h' (fun e he=>hb e (List.mem_append_left _ he))
  | true=>
   obtain ⟨seg,g1,g2,g3,g4⟩:=Qcr B z (QG ds') h1 hz
   refine ⟨g2,?_,?_,?_,?_⟩
   ·intro n hn
    rw [g3,Q3c,if_neg (fun e=>hn z (by simp) hz e.symm)]
    exact h2 n (fun d hd=>hn d (List.mem_append_left _ hd))
   ·intro az d bs h ht hb
    rw [g3,Q3c]
    rcases split az d bs h with ⟨_,rfl,rfl⟩ | ⟨bs',rfl,h'⟩
    ·rw [if_pos rfl]
    ·rw [if_neg (fun e=>hb z (by simp) hz e.symm)]
     exact h3 az d bs' h' ht (fun e he=>hb e (List.mem_append_left _ he))
   ·intro az bs h
    by_cases hb:bs=[]
    ·subst hb
     refine ⟨[],?_⟩
     simp at h
     rw [← h,Q3B]
     simp
    ·obtain ⟨bs',y,rfl⟩:∃ bs' y,bs=bs'++[y]:=⟨bs.dropLast,bs.getLast hb,(List.dropLast_concat_getLast hb).symm⟩
     have h':ds'++[z]=(az++bs')++[y]:=by rw [h];simp
     obtain ⟨e1,_⟩:=List.append_inj' h' rfl
     obtain ⟨post,hp⟩:=h4 az bs' e1
     exact ⟨post++seg,by rw [g1,hp];simp⟩
   ·intro az t a ms bs h hb
    rw [QgD z _ h1]
    rcases split az _ bs h with ⟨_,rfl,rfl⟩ | ⟨bs',rfl,h'⟩
    ·simp
    ·have ho:=h5 az t a ms bs' h' (fun e he=>hb e (List.mem_append_left _ he))
     have hne:=hb z (by simp) hz
     cases z with
     | enum t' a' ms'=>
      simp only
      rw [if_neg (fun e=>hne (by rw [e];rfl))]
      exact ho
     | _=>exact ho
theorem QeZ (s:CSt):(Q6v s).code=QF (fun n=>(Qy s.bodies n).getD 0) s:=by
 have key:∀ (l:List (Nat×List UInt8)) (s':CSt),s'.bodies=s.bodies→(l.foldl (fun s k=>setM k.1 (.call ((look s.bodies k.2).getD 0)) s) s').code=l.foldl (fun c k=>c.set k.1 (.call ((Qy s.bodies k.2).getD 0))) s'.code:=by
  intro l
  induction l with
  | nil=>intro s' _;rfl
  | cons k l ih=>
   intro s' h
   simp only [List.foldl_cons]
   rw [ih (setM k.1 (.call ((look s'.bodies k.2).getD 0)) s') h,h,Q4C]
   rfl
 exact key s.calls s rfl
theorem Qa1 (B:List UInt8→Nat) (s0:CSt) (h0:Wf s0):∀ (k:Nat) (az:List DefL),az.length=k →
  Wf (az.foldl QD (s0,[])).1∧(az.foldl QD (s0,[])).1.bodies=s0.bodies∧(∃ post,QF B (az.foldl QD (s0,[])).1=QF B s0++post) ∧
  (∀ n q,Qy (az.foldl QD (s0,[])).2 n=some q→(QF B (az.foldl QD (s0,[])).1)[q]? = some (.call (B n))∧(QF B (az.foldl QD (s0,[])).1)[q + 1]? = some .fin∧(Qy s0.bodies n).isSome) ∧
  (∀ d∈az,(Qy s0.bodies (Qw d).1).isSome→(Qy (az.foldl QD (s0,[])).2 (Qw d).1).isSome):=by
 intro k
 induction k with
 | zero=>
  intro az hl
  have:az=[]:=List.length_eq_zero_iff.1 hl
  subst this
  exact ⟨h0,rfl,⟨[],by simp⟩,(by intro n q h;cases h),by intro d hd;cases hd⟩
 | succ k ih=>
  intro az hl
  have hne:az≠[]:=by intro e;subst e;simp at hl
  obtain ⟨az',z,rfl⟩:∃ az' z,az=az'++[z]:=⟨az.dropLast,az.getLast hne,(List.dropLast_concat_getLast hne).symm⟩
  obtain ⟨h1,h2,⟨post,h3⟩,h4,h5⟩:=ih az' (by simpa using hl)
  rw [List.foldl_append]
  simp only [List.foldl_cons,List.foldl_nil]
  generalize az'.foldl QD (s0,[])=p at h1 h2 h3 h4 h5 ⊢
  unfold QD
  rw [Q4C,h2]
  cases hb:(Qy s0.bodies (Qw z).1).isSome with
  | false=>
   simp only [Bool.false_eq_true,if_false]
   refine ⟨h1,h2,⟨post,h3⟩,h4,?_⟩
   intro d hd hs
   rcases List.mem_append.1 hd with hd | hd
   ·exact h5 d hd hs
   ·simp only [List.mem_singleton] at hd
    subst hd
    rw [hb] at hs
    cases hs
  | true=>
   simp only [if_true]
   have w1:=h1.call (Qw z).1
   have e1:QF B (Q85 (Qw z).1 p.1)=QF B p.1++[.call (B (Qw z).1),.fin]:=by
    unfold Q85
    rw [Q1a w1,QaM h1]
    simp
   have hl:(QF B p.1).length=p.1.code.length:=Q3b
   refine ⟨w1.put _,h2,⟨post++[.call (B (Qw z).1),.fin],by rw [e1,h3];simp⟩,?_,?_⟩
   ·intro n q hq
    rw [Q3c] at hq
    rw [e1]
    split at hq
    ·rename_i hn
     subst hn
     cases hq
     refine ⟨?_,?_,hb⟩
     ·rw [List.getElem?_append_right (by omega),hl]
      simp
     ·rw [List.getElem?_append_right (by omega),hl]
      simp
    ·obtain ⟨g1,g2,g3⟩:=h4 n q hq
     have lt:∀ (j:Nat) (x:Qj),(QF B p.1)[j]? = some x→j < (QF B p.1).length:=by
      intro j x hx
      by_cases hj:j < (QF B p.1).length
      ·exact hj
      ·rw [List.getElem?_eq_none (by omega)] at hx;cases hx
     rw [List.getElem?_append_left (lt _ _ g1),List.getElem?_append_left (lt _ _ g2)]
     exact ⟨g1,g2,g3⟩
   ·intro d hd hs
    rw [Q3c]
    split
    ·rfl
    ·rename_i hn
     rcases List.mem_append.1 hd with hd | hd
     ·exact h5 d hd hs
     ·simp only [List.mem_singleton] at hd
      exact absurd (by rw [hd]) hn
theorem Ext.refl {s:CSt} (h:Wf s):Ext s s:=⟨h,rfl,rfl,Nat.le_refl _,fun _ _ ho=>ho,fun _ _=>rfl⟩
theorem Qa2 (B:List UInt8→Nat) (t:Ty) (s:CSt) (h:Wf s):Ext s (startT t s)∧QF B (startT t s)=QF B s++(Q18 B s.code.length t++[.fin]):=by
 obtain ⟨h1,h2⟩:=Q3M B t s h
 refine ⟨h2.trans (Ext.put h2.wf _),?_⟩
 unfold startT
 rw [Q1a h2.wf,h1]
 simp
theorem Q7m {α β:Type} (B:List UInt8→Nat) (f:CSt×α→β→CSt×α) (hf:∀ q b,Wf q.1→Ext q.1 (f q b).1∧∃ post,QF B (f q b).1=QF B q.1++post):∀ (l:List β) (q:CSt×α),Wf q.1→Ext q.1 (l.foldl f q).1∧∃ post,QF B (l.foldl f q).1=QF B q.1++post:=by
 intro l
 induction l with
 | nil=>intro q h;exact ⟨Ext.refl h,[],by simp⟩
 | cons b l ih=>
  intro q h
  obtain ⟨h1,p1,e1⟩:=hf q b h
  obtain ⟨h2,p2,e2⟩:=ih (f q b) h1.wf
  exact ⟨h1.trans h2,p1++p2,by rw [List.foldl_cons,e2,e1];simp⟩
theorem Qf0 (B:List UInt8→Nat) (q:CSt×List (Int×Nat×Nat)) (p:Q1Y) (h:Wf q.1):Ext q.1 (Q0Q q p).1∧∃ post,QF B (Q0Q q p).1=QF B q.1++post:=by
 obtain ⟨h1,e1⟩:=Qa2 B p.arg q.1 h
 obtain ⟨h2,e2⟩:=Qa2 B p.res _ h1.wf
 exact ⟨h1.trans h2,_,by show QF B (startT p.res (startT p.arg q.1))=_;rw [e2,e1,List.append_assoc]⟩
theorem QgE (B:List UInt8→Nat) (q:CSt×PrgL) (v:Q0d) (h:Wf q.1):Ext q.1 (Q1E q v).1∧∃ post,QF B (Q1E q v).1=QF B q.1++post:=Q7m B Q0Q (Qf0 B) v.procs (q.1,[]) h
theorem Qf1 (B:List UInt8→Nat) (q:CSt×List (Int×PrgL)) (d:DefL) (h:Wf q.1):Ext q.1 (Q08 q d).1∧∃ post,QF B (Q08 q d).1=QF B q.1++post:=by
 cases d with
 | prog t a vs num=>exact Q7m B Q1E (QgE B) vs (q.1,_) h
 | _=>exact ⟨Ext.refl h,[],by simp [Q08]⟩
theorem QaN (B:List UInt8→Nat) (ds:List DefL) (s0:CSt) (h0:Wf s0):Ext s0 (ds.foldl Q08 (s0,[])).1∧∃ post,QF B (ds.foldl Q08 (s0,[])).1=QF B s0++post:=Q7m B Q08 (Qf1 B) ds (s0,[]) h0
def Q22 (ds:List DefL):Env:=fun n=>ds.find? fun d=>Q0A d && decide ((Qw d).1=n)
theorem Qa3 {ds:List DefL} {n:List UInt8} {d:DefL} (h:Q22 ds n=some d):Q0A d=true∧(Qw d).1=n∧∃ az bs,ds=az++d :: bs:=by
 unfold Q22 at h
 have h1:=List.find?_some h
 simp only [Bool.and_eq_true,decide_eq_true_eq] at h1
 exact ⟨h1.1,h1.2,List.append_of_mem (List.mem_of_find?_eq_some h)⟩
theorem Qf2 {ds:List DefL} {n:List UInt8} (h:Q22 ds n=none):∀ d∈ds,Q0A d=true→(Qw d).1≠n:=by
 intro d hd ht e
 unfold Q22 at h
 have:=List.find?_eq_none.1 h d hd
 simp [ht,e] at this
structure Whole (ds:List DefL):Prop where
 nd:∀ az d bs,ds=az++d :: bs→Q0A d=true→∀ e∈bs,Q0A e=true→(Qw e).1≠(Qw d).1
 known:∀ d∈ds,Q0A d=true→Q9f (Q22 ds) d
 sel:∀ az t a s arms bs n a',ds=az++DefL.union t a s arms :: bs→s.ty = .named n a'→∃ as1 a2 ms as2,az=as1++DefL.enum n a2 ms :: as2
 sim:∀ t a s arms,DefL.union t a s arms∈ds→Q0J s.ty
 deep:∀ d∈ds,∀ t∈Q4E d,Q0I t
theorem Whole.env {ds:List DefL} (h:Whole ds) {az bs:List DefL} {d:DefL} (hd:ds=az++d :: bs) (ht:Q0A d=true):Q22 ds (Qw d).1=some d:=by
 unfold Q22
 rw [hd,List.find?_append]
 have:az.find? (fun e=>Q0A e && decide ((Qw e).1=(Qw d).1))=none:=by
  rw [List.find?_eq_none]
  intro e he hc
  simp only [Bool.and_eq_true,decide_eq_true_eq] at hc
  obtain ⟨a1,a2,rfl⟩:=List.append_of_mem he
  have:=h.nd a1 e (a2++d :: bs) (by rw [hd];simp) hc.1 d (by simp) ht
  exact this hc.2.symm
 rw [this]
 simp [ht]
theorem Q89 {α:Type} {l m:List α} {i:Nat} {x:α} (h:l[i]? = some x):(l++m)[i]? = some x:=by
 have hi:i < l.length:=by
  by_cases hi:i < l.length
  ·exact hi
  ·rw [List.getElem?_eq_none (by omega)] at h;cases h
 rw [List.getElem?_append_left hi,h]
theorem Qib {ds:List DefL} (h:Whole ds):∃ B,QeV (Q09 ds).1 B (Q22 ds)∧∀ n,match Qy (Q09 ds).2 n with
  | none=>Q22 ds n=none
  | some p=>(Q22 ds n).isSome∧(Q09 ds).1[p]? = some (.call (B n))∧(Q09 ds).1[p + 1]? = some .fin:=by
 refine ⟨fun n=>(Qy (QG ds).bodies n).getD 0,?_⟩
 obtain ⟨c1,c2,c3,c4,_⟩:=Q9g (fun n=>(Qy (QG ds).bodies n).getD 0) ds.length ds rfl
 obtain ⟨s1,s2,⟨post,s3⟩,s4,s5⟩:=Qa1 (fun n=>(Qy (QG ds).bodies n).getD 0) (QG ds) c1 ds.length ds rfl
 obtain ⟨g1,postp,gp⟩:=QaN (fun n=>(Qy (QG ds).bodies n).getD 0) ds (ds.foldl QD (QG ds,[])).1 s1
 have hc:(Q09 ds).1=QF (fun n=>(Qy (QG ds).bodies n).getD 0) (ds.foldl QD (QG ds,[])).1++postp:=by
  show (Q6v (ds.foldl Q08 ((ds.foldl QD (QG ds,[])).1,[])).1).code=_
  rw [QeZ,g1.bo,s2,gp]
 have hst:(Q09 ds).2=(ds.foldl QD (QG ds,[])).2:=rfl
 rw [hc,hst]
 generalize hB:(fun n=>(Qy (QG ds).bodies n).getD 0)=B at *
 refine ⟨?_,?_⟩
 ·intro n df hE
  obtain ⟨ht,hn,az,bs,hd⟩:=Qa3 hE
  refine ⟨?_,?_,h.deep df (by rw [hd];simp),?_⟩
  ·intro t a v e;subst e;simp [Q0A] at ht
  ·intro t a v n e;subst e;simp [Q0A] at ht
  ·have hpl:=c3 az df bs hd ht (h.nd az df bs hd ht)
   have hBn:B n=(QG az).code.length:=by
    rw [← hB]
    simp only
    rw [← hn,hpl]
    rfl
   rw [hBn]
   obtain ⟨w1,_,_,_,w5⟩:=Q9g B az.length az rfl
   obtain ⟨seg,g1,g2,g3,g4⟩:=Qcr B df (QG az) w1 ht
   obtain ⟨p2,hp2⟩:=c4 (az++[df]) bs (by rw [hd];simp)
   refine g4 _ _ ?_ (h.known df (by rw [hd];simp) ht) ?_
   ·have:(QF B (QG az)).length=(QG az).code.length:=Q3b
    rw [← this]
    refine Sub.at (post:=p2++post++postp) ?_
    rw [s3,hp2,Q3B,g1]
    simp
   ·cases df with
    | union t a sel arms=>
     show Q0n (QG az) sel.ty=selD (Q22 ds) sel.ty
     have hsim:=h.sim t a sel arms (by rw [hd];simp)
     cases hty:sel.ty with
     | named m a'=>
      obtain ⟨as1,a2,ms,as2,has⟩:=h.sel az t a sel arms bs m a' hd hty
      have hd':ds=as1++DefL.enum m a2 ms :: (as2++DefL.union t a sel arms :: bs):=by rw [hd,has];simp
      have e1:Q22 ds m=some (.enum m a2 ms):=h.env hd' rfl
      have e2:Qy (QG az).enums m=some (Q0p ms):=w5 as1 m a2 ms as2 has (fun e he ht'=>h.nd as1 _ _ hd' rfl e (List.mem_append_left _ he) ht')
      simp only [Q0n,selD,e1,Q4C,e2,Option.getD_some]
     | plain k=>rfl
     | _=>rw [hty] at hsim;simp [Q0J] at hsim
    | _=>trivial
 ·intro n
  cases hm:Qy (ds.foldl QD (QG ds,[])).2 n with
  | some p=>
   obtain ⟨g1,g2,g3⟩:=s4 n p hm
   have hBn:B n=(Qy (QG ds).bodies n).getD 0:=by rw [← hB]
   refine ⟨?_,by rw [hBn];exact Q89 g1,Q89 g2⟩
   cases he:Q22 ds n with
   | some d=>rfl
   | none=>
    rw [c2 n (Qf2 he)] at g3
    cases g3
  | none=>
   show Q22 ds n=none
   cases he:Q22 ds n with
   | none=>rfl
   | some d=>
    obtain ⟨ht,hn,az,bs,hd⟩:=Qa3 he
    have hpl:=c3 az d bs hd ht (h.nd az d bs hd ht)
    have:=s5 d (by rw [hd];simp) (by rw [hpl];rfl)
    rw [hn,hm] at this
    cases this
structure Q2n where
 kind:Nat
 n:Int
 s:List UInt8
 len:Nat
 at':Nat
structure DSt where
 pos:Nat
 nodes:List Q2n
def bigL (l:List UInt8):Nat:=l.foldl (fun n c=>n * 256 + c.toNat) 0
def Q0Z (n:NumL) (v:Nat):Int:=if n.low < 0 then (if v < 2147483648 then (v:Int) else (v:Int) - 4294967296) else v
def Q74 (v:Nat):Int:=if v < 9223372036854775808 then (v:Int) else (v:Int) - 18446744073709551616
def Q0a (n:Nat):Nat:=(n + 3) / 4 * 4
section
variable (b : List UInt8)
def Q23 (k:Nat) (d:DSt):Except Mar.Fault (List UInt8×DSt):=if b.length < d.pos + k then .error ⟨16,d.pos⟩ else .ok ((b.drop d.pos).take k,{ d with pos:=d.pos + k })
def Q1r (d:DSt):Except Mar.Fault (Nat×DSt):=thenE (Q23 b 4 d) fun p=>.ok (bigL p.1,p.2)
def Q2p (n:NumL) (d:DSt):Except Mar.Fault (Int×DSt):=
 if n.wide then thenE (Q23 b 8 d) fun p=>.ok (Q74 (bigL p.1),p.2) else thenE (Q1r b d) fun p=>.ok (Q0Z n p.1,p.2)
def Q2j (n:Int) (f:Bool) (d:DSt):Except Mar.Fault (Nat×DSt):=
 if f then .ok (n.toNat,d) else thenE (Q1r b d) fun p=>if (p.1:Int)≤n then .ok p else .error ⟨19,d.pos⟩
def Q1t:Nat→List UInt8→Option Nat
 | _,[]=>none
 | i,c :: t=>if c=0 then Q1t (i + 1) t else some i
def Q0U (n:Nat) (d:DSt):Except Mar.Fault (List UInt8×DSt):=thenE (Q23 b (Q0a n) d) fun p=>match Q1t n (p.1.drop n) with
 | some i=>.error ⟨17,d.pos + i⟩
 | none=>.ok (p.1.take n,p.2)
def putD (x:Q2n) (d:DSt):DSt:={ d with nodes:=d.nodes++[x] }
variable (depth fuel : Nat)
def Q10 (d:DSt):Except Mar.Fault DSt:=if fuel≤d.nodes.length then .error ⟨15,d.pos⟩ else .ok d
def decW:Wk DSt where
 enter k d:=if depth≤k then .error ⟨13,d.pos⟩ else .ok d
 num n d:=thenE (Q10 fuel d) fun d=>thenE (Q2p b n d) fun p=>if n.has p.1 then .ok (putD ⟨1,p.1,[],0,0⟩ p.2) else .error ⟨18,d.pos⟩
 text n f d:=thenE (Q10 fuel d) fun d=>thenE (Q2j b n f d) fun p=>thenE (Q0U b p.1 p.2) fun q=>.ok (putD ⟨2,0,q.1,0,p.2.pos⟩ q.2)
 list n f d:=thenE (Q10 fuel d) fun d=>thenE (Q2j b n f d) fun p=>.ok (p.1,putD ⟨3,0,[],p.1,0⟩ p.2)
 arm n v d:=thenE (Q10 fuel d) fun d=>thenE (Q1r b d) fun p=>match v (Q0Z n p.1) with
  | none=>.error ⟨18,d.pos⟩
  | some k=>.ok (Q0Z n p.1,putD ⟨4,Q0Z n p.1,[],k,0⟩ p.2)
end
theorem QV {α β:Type} {r:Except Mar.Fault α} {f:α→Except Mar.Fault β} {x:β} (h:thenE r f = .ok x):∃ a,r = .ok a∧f a = .ok x:=by
 cases r with
 | error e=>cases h
 | ok a=>exact ⟨a,rfl,h⟩
def seg (a:List UInt8) (p q:Nat):List UInt8:=(a.drop p).take (q - p)
theorem Q3l {a:List UInt8} {k:Nat} {d d':DSt} {l:List UInt8} (h:Q23 a k d = .ok (l,d')):l=seg a d.pos d'.pos∧d'.pos=d.pos + k∧d'.nodes=d.nodes∧d'.pos≤a.length∧l.length=k:=by
 unfold Q23 at h
 split at h
 ·cases h
 ·cases h
  refine ⟨by unfold seg;simp,rfl,rfl,by simp only;omega,?_⟩
  simp
  omega
theorem Q4l {l:List UInt8} (h1:l.length=4):bigL l < 4294967296:=by
 match l,h1 with
 | [a,b,c,d],_=>
  simp only [bigL,List.foldl_cons,List.foldl_nil]
  have:=a.toNat_lt;have:=b.toNat_lt;have:=c.toNat_lt;have:=d.toNat_lt
  omega
theorem Qjs {l:List UInt8} (h1:l.length=8):bigL l < 18446744073709551616:=by
 match l,h1 with
 | [a,b,c,d,e,f,g,i],_=>
  simp only [bigL,List.foldl_cons,List.foldl_nil]
  have:=a.toNat_lt;have:=b.toNat_lt;have:=c.toNat_lt;have:=d.toNat_lt
  have:=e.toNat_lt;have:=f.toNat_lt;have:=g.toNat_lt;have:=i.toNat_lt
  omega
theorem Q3N {a:List UInt8} {d d':DSt} {v:Nat} (h:Q1r a d = .ok (v,d')):v=bigL (seg a d.pos d'.pos)∧(seg a d.pos d'.pos).length=4∧d'.pos=d.pos + 4∧d'.nodes=d.nodes∧d'.pos≤a.length:=by
 obtain ⟨⟨l,d1⟩,h1,h2⟩:=QV h
 cases h2
 obtain ⟨e1,e2,e3,e4,e5⟩:=Q3l h1
 simp only
 exact ⟨by rw [e1],by rw [← e1];exact e5,e2,e3,e4⟩
theorem QgF {a:List UInt8} {n:NumL} {d d':DSt} {v:Int} (h:Q2p a n d = .ok (v,d')):v=(if n.wide then Q74 (bigL (seg a d.pos d'.pos)) else Q0Z n (bigL (seg a d.pos d'.pos)))∧(seg a d.pos d'.pos).length=(if n.wide then 8 else 4)∧d.pos≤d'.pos∧d'.nodes=d.nodes∧d'.pos≤a.length:=by
 unfold Q2p at h
 cases hw:n.wide with
 | true=>
  rw [hw] at h
  simp only [if_true] at h ⊢
  obtain ⟨⟨l,d1⟩,h1,h2⟩:=QV h
  cases h2
  obtain ⟨e1,e2,e3,e4,e5⟩:=Q3l h1
  simp only
  exact ⟨by rw [e1],by rw [← e1];exact e5,by omega,e3,e4⟩
 | false=>
  rw [hw] at h
  simp only [Bool.false_eq_true,if_false] at h ⊢
  obtain ⟨⟨l,d1⟩,h1,h2⟩:=QV h
  cases h2
  obtain ⟨e1,e2,e3,e4,e5⟩:=Q3N h1
  exact ⟨by rw [e1],e2,by simp only at e3 ⊢;omega,e4,e5⟩
theorem Q9h {a:List UInt8} {n:Int} {f:Bool} {d d':DSt} {v:Nat} (h:Q2j a n f d = .ok (v,d')):d.pos≤d'.pos∧d'.nodes=d.nodes∧(d.pos≤a.length→d'.pos≤a.length) ∧
  (if f then v=n.toNat∧d'=d else v=bigL (seg a d.pos d'.pos)∧(seg a d.pos d'.pos).length=4):=by
 unfold Q2j at h
 cases f with
 | true=>
  simp only [if_true] at h
  cases h
  exact ⟨Nat.le_refl _,rfl,id,rfl,rfl⟩
 | false=>
  simp only [Bool.false_eq_true,if_false] at h ⊢
  obtain ⟨⟨l,d1⟩,h1,h2⟩:=QV h
  split at h2
  ·cases h2
   obtain ⟨e1,e2,e3,e4,e5⟩:=Q3N h1
   exact ⟨by omega,e4,fun _=>e5,e1,e2⟩
  ·cases h2
theorem QdA:∀ (l:List UInt8) (i:Nat),Q1t i l=none→l=List.replicate l.length 0:=by
 intro l
 induction l with
 | nil=>intro i _;rfl
 | cons c t ih=>
  intro i h
  unfold Q1t at h
  split at h
  ·rename_i hc
   simp only [List.length_cons,List.replicate_succ,hc]
   rw [← ih _ h]
  ·cases h
theorem QgG {a:List UInt8} {n:Nat} {d d':DSt} {l:List UInt8} (h:Q0U a n d = .ok (l,d')):seg a d.pos d'.pos=l++List.replicate (Q0a n - n) 0∧l.length=n∧d.pos≤d'.pos∧d'.nodes=d.nodes∧d'.pos≤a.length:=by
 obtain ⟨⟨w,d1⟩,h1,h2⟩:=QV h
 obtain ⟨e1,e2,e3,e4,e5⟩:=Q3l h1
 simp only at h2
 split at h2
 ·cases h2
 ·rename_i hb
  cases h2
  have hn:n≤Q0a n:=by unfold Q0a;omega
  have hr:=QdA _ _ hb
  refine ⟨?_,by simp [e5];omega,by omega,e3,e4⟩
  rw [← e1]
  conv=>lhs;rw [← List.take_append_drop n w]
  rw [hr]
  simp [e5]
structure SSt where
 most:Nat
 head:List UInt8
 left:Nat
 ending:Bool
 record:List UInt8
 closed:Bool
def Q8s:SSt:=⟨0,[],0,false,[],true⟩
def Q1P (s:SSt):SSt:=
 if s.most < s.record.length + bigL s.head % 2147483648 then Q8s else { s with head:=[],left:=bigL s.head % 2147483648,ending:=decide (2147483648≤bigL s.head) }
def finS (s:SSt):SSt×List (List UInt8):=if s.ending=true∧s.left=0 then ({ s with record:=[],ending:=false },[s.record]) else (s,[])
def Q0f (s:SSt) (c:List UInt8):Nat×SSt:=
 if 0 < s.left then (min s.left c.length,{ s with record:=s.record++c.take (min s.left c.length),left:=s.left - min s.left c.length })
 else
  let h:=s.head++c.take (min (4 - s.head.length) c.length)
  (min (4 - s.head.length) c.length,if h.length=4 then Q1P { s with head:=h } else { s with head:=h })
def Q4F (s:SSt) (c:UInt8):SSt×List (List UInt8):=if s.closed=true then (s,[]) else finS (Q0f s [c]).2
def QE:SSt→List UInt8→SSt×List (List UInt8)
 | s,[]=>(s,[])
 | s,c :: cs=>let p:=Q4F s c;let r:=QE p.1 cs;(r.1,p.2++r.2)
theorem Q9i:∀ (a b:List UInt8) (s:SSt),QE s (a++b)=((QE (QE s a).1 b).1,(QE s a).2++(QE (QE s a).1 b).2):=by
 intro a
 induction a with
 | nil=>intro b s;rfl
 | cons c a ih=>intro b s;simp only [List.cons_append,QE,ih,List.append_assoc]
theorem QgH:∀ (c:List UInt8) (s:SSt),s.closed=true→QE s c=(s,[]):=by
 intro c
 induction c with
 | nil=>intro s _;rfl
 | cons x c ih=>intro s h;simp only [QE,Q4F,h,if_true,ih s h,List.append_nil]
structure SInv (s:SSt):Prop where
 head:s.head.length < 4
 apart:0 < s.left→s.head=[]
 told:¬ (s.ending=true∧s.left=0)
theorem QgI (s:SSt):(finS (Q1P s)).1.head.length < 4∧(finS (Q1P s)).1.head=[]∧SInv (finS (Q1P s)).1:=by
 have key:(Q1P s).head=[]:=by unfold Q1P;split<;>rfl
 have kf:(finS (Q1P s)).1.head=[]:=by
  unfold finS
  split
  ·exact key
  ·exact key
 refine ⟨by rw [kf];simp,kf,by rw [kf];simp,fun _=>kf,?_⟩
 unfold finS
 split
 ·simp
 ·rename_i h;exact h
theorem Qic (s:SSt):¬ ((finS s).1.ending=true∧(finS s).1.left=0):=by
 unfold finS
 split
 ·simp
 ·rename_i h;exact h
theorem Q7n {s:SSt} (h:¬ (s.ending=true∧s.left=0)):finS s=(s,[]):=by
 unfold finS
 rw [if_neg h]
theorem QgJ:∀ (l:List UInt8) (s:SSt),s.closed=false→l≠[]→l.length≤s.left→QE s l=finS { s with record:=s.record++l,left:=s.left - l.length }:=by
 intro l
 induction l with
 | nil=>intro s _ h;exact absurd rfl h
 | cons x l ih=>
  intro s hc _ hl
  simp only [List.length_cons] at hl
  have hp:(Q0f s [x]).2 = { s with record:=s.record++[x],left:=s.left - 1 }:=by
   unfold Q0f
   rw [if_pos (by omega)]
   have:min s.left [x].length=1:=by simp;omega
   simp only [this,List.take_succ_cons,List.take_zero]
  have hb:Q4F s x=finS { s with record:=s.record++[x],left:=s.left - 1 }:=by
   unfold Q4F
   rw [if_neg (by rw [hc];simp),hp]
  cases l with
  | nil=>
   simp only [QE,hb,List.append_nil,List.length_cons,List.length_nil,Nat.zero_add]
  | cons y l=>
   simp only [List.length_cons] at hl ih
   have hf:finS { s with record:=s.record++[x],left:=s.left - 1 } = ({ s with record:=s.record++[x],left:=s.left - 1 },[]):=Q7n (by simp;omega)
   have h2:=ih { s with record:=s.record++[x],left:=s.left - 1 } hc (by simp) (by simp only;omega)
   rw [QE,hb,hf]
   simp only [h2,List.nil_append,List.append_assoc,List.cons_append,List.length_cons]
   have e:s.left - 1 - (l.length + 1)=s.left - (l.length + 1 + 1):=by omega
   rw [e]
theorem QgK:∀ (l:List UInt8) (s:SSt),s.closed=false→s.left=0→¬ (s.ending=true∧s.left=0)→l≠[]→s.head.length + l.length≤4→QE s l=finS (if (s.head++l).length=4 then Q1P { s with head:=s.head++l } else { s with head:=s.head++l }):=by
 intro l
 induction l with
 | nil=>intro s _ _ _ h;exact absurd rfl h
 | cons x l ih=>
  intro s hc h0 ht _ hl
  simp only [List.length_cons] at hl
  have hp:(Q0f s [x]).2=if (s.head++[x]).length=4 then Q1P { s with head:=s.head++[x] } else { s with head:=s.head++[x] }:=by
   unfold Q0f
   rw [if_neg (by omega)]
   have:min (4 - s.head.length) [x].length=1:=by simp;omega
   simp only [this,List.take_succ_cons,List.take_zero]
  have hb:Q4F s x=finS (if (s.head++[x]).length=4 then Q1P { s with head:=s.head++[x] } else { s with head:=s.head++[x] }):=by
   unfold Q4F
   rw [if_neg (by rw [hc];simp),hp]
  cases l with
  | nil=>simp only [QE,hb,List.append_nil]
  | cons y l=>
   simp only [List.length_cons] at hl ih
   have hn:¬ (s.head++[x]).length=4:=by simp;omega
   rw [if_neg hn] at hb
   have hf:finS { s with head:=s.head++[x] } = ({ s with head:=s.head++[x] },[]):=Q7n ht
   have h2:=ih { s with head:=s.head++[x] } hc h0 ht (by simp) (by simp;omega)
   rw [QE,hb,hf]
   simp only [h2,List.nil_append,List.append_assoc,List.cons_append]
theorem Q7o {s:SSt} (hi:SInv s) (hc:s.closed=false) {c:List UInt8} (hne:c≠[]):1≤(Q0f s c).1∧(Q0f s c).1≤c.length∧QE s (c.take (Q0f s c).1)=finS (Q0f s c).2∧SInv (finS (Q0f s c).2).1:=by
 have hl:0 < c.length:=List.length_pos_iff.2 hne
 by_cases h0:0 < s.left
 ·have e:Q0f s c=(min s.left c.length,{ s with record:=s.record++c.take (min s.left c.length),left:=s.left - min s.left c.length }):=by unfold Q0f;rw [if_pos h0]
  rw [e]
  have hlen:(c.take (min s.left c.length)).length=min s.left c.length:=by rw [List.length_take];omega
  refine ⟨by simp only;omega,by simp only;omega,?_,?_⟩
  ·have:=QgJ (c.take (min s.left c.length)) s hc (by intro h;rw [h] at hlen;simp at hlen;omega) (by rw [hlen];omega)
   rw [hlen] at this
   exact this
  ·have hh:∀ r,(finS { s with record:=s.record++c.take (min s.left c.length),left:=r }).1.head=[]:=by
    intro r
    unfold finS
    split<;>exact hi.apart h0
   exact ⟨by rw [hh];simp,fun _=>hh _,Qic _⟩
 ·have e:Q0f s c=(min (4 - s.head.length) c.length,if (s.head++c.take (min (4 - s.head.length) c.length)).length=4 then Q1P { s with head:=s.head++c.take (min (4 - s.head.length) c.length) } else { s with head:=s.head++c.take (min (4 - s.head.length) c.length) }):=by unfold Q0f;rw [if_neg h0]
  rw [e]
  have hh:=hi.head
  have hlen:(c.take (min (4 - s.head.length) c.length)).length=min (4 - s.head.length) c.length:=by rw [List.length_take];omega
  refine ⟨by simp only;omega,by simp only;omega,?_,?_⟩
  ·exact QgK _ s hc (by omega) hi.told (by intro h;rw [h] at hlen;simp at hlen;omega) (by rw [hlen];omega)
  ·simp only
   split
   ·exact (QgI _).2.2
   ·rename_i hn
    rw [Q7n (s:={ s with head:=s.head++c.take (min (4 - s.head.length) c.length) }) hi.told]
    refine ⟨?_,fun h=>absurd h h0,hi.told⟩
    simp only [List.length_append,hlen] at hn ⊢
    omega
theorem Qcs:∀ (c:List UInt8) (s:SSt),SInv s→SInv (QE s c).1:=by
 intro c
 induction c with
 | nil=>intro s h;exact h
 | cons x c ih=>
  intro s h
  have hb:SInv (Q4F s x).1:=by
   unfold Q4F
   split
   ·exact h
   ·rename_i hc
    exact (Q7o h (by simpa using hc) (c:=[x]) (by simp)).2.2.2
  exact ih _ hb
structure WInv {τ:Type} (W:Wk τ) (P:τ→Prop):Prop where
 enter:∀ k d d',P d→W.enter k d = .ok d'→P d'
 num:∀ n d d',P d→W.num n d = .ok d'→P d'
 text:∀ n f d d',P d→W.text n f d = .ok d'→P d'
 list:∀ n f d p,P d→W.list n f d = .ok p→P p.2
 arm:∀ n v d p,P d→W.arm n v d = .ok p→P p.2
section
variable {τ : Type} {W : Wk τ} {P : τ → Prop} {nm : List UInt8 → Den τ}
theorem Qjt {f:Den τ} (hf:∀ d d',P d→f d = .ok d'→P d'):∀ k d d',P d→rep f k d = .ok d'→P d':=by
 intro k
 induction k with
 | zero=>intro d d' hd hx;cases hx;exact hd
 | succ k ih=>
  intro d d' hd hx
  obtain ⟨d1,h1,h2⟩:=QV hx
  exact ih _ _ (hf _ _ hd h1) h2
theorem Qct (h:WInv W P) (hn:∀ n d d',P d→nm n d = .ok d'→P d') (t:Ty):∀ d d',P d→tyD W nm t d = .ok d'→P d':=by
 induction t with
 | named n p=>exact hn n
 | plain k=>exact h.num _
 | opaq n f=>exact h.text _ _
 | str n f=>exact h.text _ _
 | void=>intro d d' hd hx;cases hx;exact hd
 | arr o n f ih=>
  intro d d' hd hx
  obtain ⟨p,h1,h2⟩:=QV hx
  exact Qjt ih _ _ _ (h.list _ _ _ _ hd h1) h2
 | opt o ih=>
  intro d d' hd hx
  obtain ⟨p,h1,h2⟩:=QV hx
  have hp:=h.arm _ _ _ _ hd h1
  split at h2
  ·exact ih _ _ hp h2
  ·cases h2;exact hp
theorem Qju (h:WInv W P) (hn:∀ n d d',P d→nm n d = .ok d'→P d'):∀ (ts:List Ty) d d',P d→allD W nm ts d = .ok d'→P d':=by
 intro ts
 induction ts with
 | nil=>intro d d' hd hx;cases hx;exact hd
 | cons t ts ih=>
  intro d d' hd hx
  obtain ⟨p,h1,h2⟩:=QV hx
  exact ih _ _ (Qct h hn t _ _ hd h1) h2
theorem Qjv (h:WInv W P) {E:Env} (hn:∀ n d d',P d→nm n d = .ok d'→P d') (df:DefL):∀ d d',P d→defD W E nm df d = .ok d'→P d':=by
 cases df with
 | const t p v=>intro d x _ hx;cases hx
 | prog t p v n=>intro d x _ hx;cases hx
 | typedef t=>exact Qct h hn t.ty
 | enum t p ms=>exact h.num _
 | struct t p ms=>
  intro d d' hd hx
  obtain ⟨p,h1,h2⟩:=QV hx
  exact Qju h hn _ _ _ (h.list _ _ _ _ hd h1) h2
 | union t p s arms=>
  intro d d' hd hx
  obtain ⟨p,h1,h2⟩:=QV hx
  have hp:=h.arm _ _ _ _ hd h1
  split at h2
  ·exact Qct h hn _ _ _ hp h2
  ·cases h2
theorem Qid (h:WInv W P) {E:Env}:∀ (g k:Nat) (n:List UInt8) d d',P d→Q5v W E g k n d = .ok d'→P d':=by
 intro g
 induction g with
 | zero=>
  intro k n d x _ hx
  obtain ⟨_,_,h2⟩:=QV hx
  cases h2
 | succ g ih=>
  intro k n d d' hd hx
  obtain ⟨d1,h1,h2⟩:=QV hx
  have hp:=h.enter _ _ _ hd h1
  split at h2
  ·exact Qjv h (fun m=>ih (k + 1) m) _ _ _ hp h2
  ·cases h2
end
structure QQ where
 kind:Int
 n:Int
 s:List UInt8
 at':Int
 len:Int
def toG (x:Q2n):QQ:=⟨x.kind,x.n,x.s,x.at',x.len⟩
structure ESt where
 next:Nat
 out:List UInt8
def Q3O (n:Int):List UInt8:=[UInt8.ofNat ((n % 4294967296).toNat / 16777216),UInt8.ofNat ((n % 4294967296).toNat / 65536),UInt8.ofNat ((n % 4294967296).toNat / 256),UInt8.ofNat (n % 4294967296).toNat]
def Q0V (n:Int) (f:Bool) (k:Int):Bool:=if f then decide (k=n) else decide (0≤k) && decide (k≤n)
section
variable (v : List QQ) (depth fuel size : Nat)
def Q1u (kind:Int) (fits:QQ→Bool) (e:ESt):Except Mar.Fault (QQ×ESt):=
 if fuel≤e.next then .error ⟨15,e.next⟩ else match v[e.next]? with
  | none=>.error ⟨12,e.next⟩
  | some x=>if x.kind=kind∧fits x=true then .ok (x,{ e with next:=e.next + 1 }) else .error ⟨12,e.next⟩
def Q2J (k:Nat) (e:ESt):Except Mar.Fault ESt:=if size < e.out.length + k then .error ⟨14,e.next - 1⟩ else .ok e
def Q1v (n:Int) (e:ESt):Except Mar.Fault ESt:=thenE (Q2J size 4 e) fun e=>.ok { e with out:=e.out++Q3O n }
def padB (s:List UInt8):List UInt8:=s++List.replicate (Q0a s.length - s.length) 0
def Q3m (s:List UInt8) (e:ESt):Except Mar.Fault ESt:=thenE (Q2J size (Q0a s.length) e) fun e=>.ok { e with out:=e.out++padB s }
def Q3P (w:Int→Option Nat) (x:QQ):Bool:=match w x.n with
 | some k=>decide (x.len=k)
 | none=>false
def encW:Wk ESt where
 enter k e:=if depth≤k then .error ⟨13,e.next⟩ else .ok e
 num n e:=thenE (Q1u v fuel 1 (fun x=>n.has x.n) e) fun p=>thenE (if n.wide then Q1v size (p.1.n / 4294967296) p.2 else .ok p.2) fun e=>Q1v size p.1.n e
 text n f e:=thenE (Q1u v fuel 2 (fun x=>Q0V n f x.s.length) e) fun p=>thenE (if f then .ok p.2 else Q1v size p.1.s.length p.2) fun e=>Q3m size p.1.s e
 list n f e:=thenE (Q1u v fuel 3 (fun x=>Q0V n f x.len) e) fun p=>thenE (if f then .ok p.2 else Q1v size p.1.len p.2) fun e=>.ok (p.1.len.toNat,e)
 arm n w e:=thenE (Q1u v fuel 4 (Q3P w) e) fun p=>thenE (Q1v size p.1.n p.2) fun e=>.ok (p.1.n,e)
end
theorem Q7p (n:Int):(Q3O n).length=4:=rfl
theorem Qie {v:List QQ} {fuel:Nat} {kind:Int} {fits:QQ→Bool} {e:ESt} {p:QQ×ESt} (h:Q1u v fuel kind fits e = .ok p):e.next < fuel∧v[e.next]? = some p.1∧p.1.kind=kind∧fits p.1=true∧p.2 = { e with next:=e.next + 1 }:=by
 unfold Q1u at h
 split at h
 ·cases h
 ·rename_i hf
  split at h
  ·cases h
  ·rename_i x hx
   split at h
   ·rename_i hk
    cases h
    exact ⟨by omega,hx,hk.1,hk.2,rfl⟩
   ·cases h
theorem Q9j {size:Nat} {n:Int} {e e':ESt} (h:Q1v size n e = .ok e'):e' = { e with out:=e.out++Q3O n }∧e'.out.length≤size:=by
 obtain ⟨e1,h1,h2⟩:=QV h
 unfold Q2J at h1
 split at h1
 ·cases h1
 ·cases h1
  cases h2
  refine ⟨rfl,?_⟩
  simp only [List.length_append,Q7p]
  omega
theorem Qf3 {size:Nat} {s:List UInt8} {e e':ESt} (h:Q3m size s e = .ok e'):e' = { e with out:=e.out++padB s }∧e'.out.length≤size:=by
 obtain ⟨e1,h1,h2⟩:=QV h
 unfold Q2J at h1
 split at h1
 ·cases h1
 ·cases h1
  cases h2
  have h3:(padB s).length=Q0a s.length:=by unfold padB Q0a;simp;omega
  refine ⟨rfl,?_⟩
  simp only [List.length_append,h3]
  omega
theorem QgL (v:List QQ) (dep fuel size:Nat):WInv (encW v dep fuel size) fun e=>e.out.length≤size where
 enter k e e' he h:=by
  simp only [encW] at h
  split at h
  ·cases h
  ·cases h;exact he
 num n e e' he h:=by
  obtain ⟨p,e1,h⟩:=QV h
  obtain ⟨e2,h2,h3⟩:=QV h
  exact (Q9j h3).2
 text n f e e' he h:=by
  obtain ⟨p,e1,h⟩:=QV h
  obtain ⟨e2,h2,h3⟩:=QV h
  exact (Qf3 h3).2
 list n f e p' he h:=by
  obtain ⟨p,e1,h⟩:=QV h
  obtain ⟨_,_,_,_,hp⟩:=Qie e1
  obtain ⟨e2,h2,h3⟩:=QV h
  cases h3
  split at h2
  ·cases h2
   rw [hp]
   exact he
  ·exact (Q9j h2).2
 arm n w e p' he h:=by
  obtain ⟨p,e1,h⟩:=QV h
  obtain ⟨e2,h2,h3⟩:=QV h
  cases h3
  exact (Q9j h2).2
end Go.Proofs.YtmbcibgknckenaaGreatDoor
