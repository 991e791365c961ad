import Derived.Test.YtmbcibgknckenaaGreatDoorT6
set_option linter.all false
set_option maxRecDepth 100000
set_option maxHeartbeats 4000000
namespace Go.Proofs.YtmbcibgknckenaaGreatDoor
open Go.RowKit
open Go.MapKept
theorem Q8P {κ α β:Type} [DecidableEq κ] (f:α→β) (l:List (κ×α)) (k:κ) (v:α):(mput l k v).map (fun p=>(p.1,f p.2))=mput (l.map fun p=>(p.1,f p.2)) k (f v):=by
 have e1:(l.map fun p=>(p.1,f p.2)).map (·.1)=l.map (·.1):=by rw [List.map_map];rfl
 unfold mput
 rw [e1]
 split
 ·rw [List.map_map,List.map_map]
  apply List.map_congr_left
  intro p _
  simp only [Function.comp]
  split<;>rfl
 ·simp
theorem Q8Q {κ α:Type} [DecidableEq κ] {l:List (κ×α)} {k:κ} {v:α} {p:κ×α} (h:p∈mput l k v):p∈l∨p=(k,v):=by
 unfold mput at h
 split at h
 ·obtain ⟨q,hq,rfl⟩:=List.mem_map.1 h
  split
  ·exact Or.inr rfl
  ·exact Or.inl hq
 ·rcases List.mem_append.1 h with h | h
  ·exact Or.inl h
  ·exact Or.inr (by simpa using h)
theorem Qgd {κ α:Type} [DecidableEq κ] {l:List (κ×α)} {k:κ} {v:α} (h:QI l k=some v):∃ p∈l,p.1=k∧p.2=v:=by
 unfold QI at h
 rw [Option.map_eq_some_iff] at h
 obtain ⟨p,hp,rfl⟩:=h
 exact ⟨p,List.mem_of_find?_eq_some hp,by simpa using List.find?_some hp,rfl⟩
structure CAd where
 C:Nat
 B:Nat
 E:Nat
def ownC (a:CAd) (sl ks:Value):List Nat:=[a.C,a.B,a.E]++(sl.ownBlock.toList++ks.ownBlock.toList)
abbrev Q4C (k:Nat×List UInt8):List Value:=[.int .i64 k.1,.string ⟨k.2.toArray⟩]
def NumV (bs:List (Nat×Obj)) (v:Value) (n:NumL):Prop:=∃ cs,v = .agg cs.toArray∧Q1u bs cs n
structure Cp (w:World) (a:CAd) (Fr bs:List (Nat×Obj)) (s:CSt) (sl ks:Value) (cv:List (Qj×Value)) (et:List (List UInt8×NumL×Value)) (u:World):Prop where
 own:Own w (ownC a sl ks) Fr bs u
 box:u.heap[a.C]? = some (.cells #[sl,.map (some a.B),.map (some a.E),ks] 123)
 bod:u.heap[a.B]? = some (Q0F s.bodies)
 bnp:(s.bodies.map (·.1)).Nodup
 enu:u.heap[a.E]? = some (Q3e (et.map fun p=>(.string ⟨p.1.toArray⟩,p.2.2)))
 enp:(et.map (·.1)).Nodup
 enl:s.enums=et.map fun p=>(p.1,p.2.1)
 ens:∀ p∈et,NumV bs p.2.2 p.2.1
 row:u.ownsRow w.heap.size 226 1 sl s.code.length (cv.map (·.2))
 cod:s.code=cv.map (·.1)
 steps:∀ p∈cv,Q1W bs p.2 p.1
 kro:u.ownsRow w.heap.size 222 2 ks s.calls.length (s.calls.flatMap Q4C)
def QC (w:World) (a:CAd) (Fr bs:List (Nat×Obj)) (s:CSt) (u:World):Prop:=∃ bs' sl ks cv et,(∀ p∈bs,p∈bs')∧Cp w a Fr bs' s sl ks cv et u
section
variable {w u u' : World} {a : CAd} {Fr bs : List (Nat × Obj)} {s : CSt} {sl ks : Value} {cv : List (Qj × Value)} {et : List (List UInt8 × NumL × Value)}
theorem Cp.gives (h:Cp w a Fr bs s sl ks cv et u):QC w a Fr bs s u:=⟨bs,sl,ks,cv,et,fun _ hp=>hp,h⟩
theorem QhD (a:CAd) (sl ks:Value):a.C∈ownC a sl ks∧a.B∈ownC a sl ks∧a.E∈ownC a sl ks∧(∀ g,sl.ownBlock=some g→g∈ownC a sl ks)∧(∀ g,ks.ownBlock=some g→g∈ownC a sl ks):=by
 unfold ownC
 refine ⟨by simp,by simp,by simp,?_,?_⟩<;>(intro g hg;simp [hg])
theorem Cp.distinct (h:Cp w a Fr bs s sl ks cv et u):a.C≠a.B∧a.C≠a.E∧a.B≠a.E∧(∀ g,sl.ownBlock=some g→g≠a.C∧g≠a.B∧g≠a.E)∧(∀ g,ks.ownBlock=some g→g≠a.C∧g≠a.B∧g≠a.E∧sl.ownBlock≠some g):=by
 have hn:=h.own.nd
 unfold ownC at hn
 rw [List.nodup_append,List.nodup_append] at hn
 obtain ⟨n1,⟨n2,n3,n4⟩,n5⟩:=hn
 simp only [List.nodup_cons,List.mem_cons,List.not_mem_nil,not_or,or_false] at n1
 refine ⟨n1.1.1,n1.1.2,n1.2.1,?_,?_⟩
 ·intro g hg
  refine ⟨fun e=>n5 a.C (by simp) g (by simp [hg]) e.symm,fun e=>n5 a.B (by simp) g (by simp [hg]) e.symm,fun e=>n5 a.E (by simp) g (by simp [hg]) e.symm⟩
 ·intro g hg
  refine ⟨fun e=>n5 a.C (by simp) g (by simp [hg]) e.symm,fun e=>n5 a.B (by simp) g (by simp [hg]) e.symm,fun e=>n5 a.E (by simp) g (by simp [hg]) e.symm,fun e=>n4 g (by simp [e]) g (by simp [hg]) rfl⟩
theorem Cp.beside {M:List Nat} {Fr' bs':List (Nat×Obj)} (h:Cp w a Fr bs s sl ks cv et u) (hk:Qb M u u') (hM:∀ m∈M,m ∉ ownC a sl ks) (hb:∀ p∈bs,p∈bs') (ho:Own w (ownC a sl ks) Fr' bs' u'):Cp w a Fr' bs' s sl ks cv et u':=by
 obtain ⟨o1,o2,o3,o4,o5⟩:=QhD a sl ks
 refine ⟨ho,(hk.block _ (Qc h.box) (fun hm=>hM _ hm o1)).trans h.box,(hk.block _ (Qc h.bod) (fun hm=>hM _ hm o2)).trans h.bod,h.bnp,(hk.block _ (Qc h.enu) (fun hm=>hM _ hm o3)).trans h.enu,h.enp,h.enl,
  fun p hp=>?_,Qp h.row hk (fun g hg hm=>hM _ hm (o4 g hg)),h.cod,fun p hp=>(h.steps p hp).more hb,Qp h.kro hk (fun g hg hm=>hM _ hm (o5 g hg))⟩
 obtain ⟨cs,h1,h2⟩:=h.ens p hp
 exact ⟨cs,h1,h2.more hb⟩
theorem Cp.below (h:Cp w a Fr bs s sl ks cv et u) (hb:Below u.heap.size u u'):Cp w a Fr bs s sl ks cv et u':=h.beside (Qb.of_below [] hb) (by simp) (fun _ hp=>hp) (h.own.below hb)
theorem Cp.alloc (h:Cp w a Fr bs s sl ks cv et u) (o:Obj):Cp w a ((u.heap.size,o) :: Fr) bs s sl ks cv et (u.alloc o):=h.beside ((Qb.refl [] u).alloc o) (by simp) (fun _ hp=>hp) (h.own.alloc o)
theorem Cp.setFr {m:Nat} {o o':Obj} (h:Cp w a ((m,o) :: Fr) bs s sl ks cv et u) (hk:Qb [m] u u') (ho:u'.heap[m]? = some o'):Cp w a ((m,o') :: Fr) bs s sl ks cv et u':=
 h.beside hk (by simpa using (h.own.hf (m,o) (by simp)).2) (fun _ hp=>hp) (h.own.setFr hk ho)
theorem Cp.give {m:Nat} {o:Obj} (h:Cp w a ((m,o) :: Fr) bs s sl ks cv et u):Cp w a Fr ((m,o) :: bs) s sl ks cv et u:=h.beside (Qb.refl [] u) (by simp) (fun _ hp=>List.mem_cons_of_mem _ hp) h.own.give
theorem Cp.tail {p:Nat×Obj} (h:Cp w a (p :: Fr) bs s sl ks cv et u):Cp w a Fr bs s sl ks cv et u:=h.beside (Qb.refl [] u) (by simp) (fun _ hp=>hp) h.own.tail
theorem Cp.sub {Fr':List (Nat×Obj)} (h:Cp w a Fr bs s sl ks cv et u) (hs:∀ p∈Fr',p∈Fr) (hn:(Fr'.map (·.1)).Nodup):Cp w a Fr' bs s sl ks cv et u:=h.beside (Qb.refl [] u) (by simp) (fun _ hp=>hp) (h.own.sub hs hn)
theorem Cp.slice (h:Cp w a Fr bs s sl ks cv et u):∃ ad cap,sl = .slice ad s.code.length cap:=by
 rcases h.row.2 with ⟨rfl,h0⟩ | ⟨g,cap,cur,rfl,_⟩
 ·exact ⟨none,0,by rw [h0]⟩
 ·exact ⟨_,_,rfl⟩
theorem Cp.kslice (h:Cp w a Fr bs s sl ks cv et u):∃ ad cap,ks = .slice ad s.calls.length cap:=by
 rcases h.kro.2 with ⟨rfl,h0⟩ | ⟨g,cap,cur,rfl,_⟩
 ·exact ⟨none,0,by rw [h0]⟩
 ·exact ⟨_,_,rfl⟩
theorem Cp.cells (h:Cp w a Fr bs s sl ks cv et u):u.cell? ⟨a.C,0,none⟩=some sl∧u.cell? ⟨a.C,1,none⟩=some (.map (some a.B))∧u.cell? ⟨a.C,2,none⟩=some (.map (some a.E))∧u.cell? ⟨a.C,3,none⟩=some ks∧(∀ i,u.frozen? ⟨a.C,i,none⟩=false)∧a.C < u.heap.size:=by
 refine ⟨?_,?_,?_,?_,?_,Qc h.box⟩<;>simp [World.cell?,World.frozen?,h.box]
theorem Cp.putCode {u2 u3:World} {g cap:Nat} {x:Qj} {v:Value} (h:Cp w a Fr bs s sl ks cv et u) (hx:Q1W bs v x) (hb:Below u.heap.size u u2)
  (hown:u3.ownsRow w.heap.size 226 1 (.slice (some ⟨g,0,none⟩) (s.code.length + 1) cap) (s.code.length + 1) (cv.map (·.2)++[v]))
  (hg:u2.grownBy u3 sl.ownBlock) (hat:sl.ownBlock=some g∨g=u2.heap.size) (hlt:g < u3.heap.size) :
  Cp w a Fr bs (putM x s) (.slice (some ⟨g,0,none⟩) (s.code.length + 1) cap) ks (cv++[(x,v)]) et (u3.setCell ⟨a.C,0,none⟩ (.slice (some ⟨g,0,none⟩) (s.code.length + 1) cap)):=by
 obtain ⟨hwg,_⟩:=Q16 hown (g:=g) rfl
 have e2:=h.below hb
 obtain ⟨d1,d2,d3,d4,d5⟩:=h.distinct
 have ho:Own w (ownC a (.slice (some ⟨g,0,none⟩) (s.code.length + 1) cap) ks) Fr bs u3:=Own.grow (A:=[a.C,a.B,a.E]) (B:=ks.ownBlock.toList) e2.own hg hat hlt hwg
 have hks:Qb [a.C] u3 (u3.setCell ⟨a.C,0,none⟩ (.slice (some ⟨g,0,none⟩) (s.code.length + 1) cap)):=(Qb.refl [a.C] u3).setIn (by simp) _
 have hkg:=Q05 hg
 have rl:∀ b,b=a.C∨b=a.B∨b=a.E→b ∉ sl.ownBlock.toList:=by
  intro b hb hm
  have:=d4 b (by simpa using hm)
  omega
 have rk:∀ b,ks.ownBlock=some b→b ∉ sl.ownBlock.toList:=by
  intro b hb hm
  exact (d5 b hb).2.2.2 (by simpa using hm)
 have ng:g≠a.C:=by
  have:=ho.nd
  simp [ownC,Value.ownBlock] at this
  omega
 refine ⟨ho.turn hks (by simp [ownC]),Qy (i:=0) ((hkg.block _ (Qc e2.box) (rl _ (Or.inl rfl))).trans e2.box) _,?_,h.bnp,?_,h.enp,h.enl,h.ens,?_,?_,?_,?_⟩
 ·exact (hks.block _ (by have:=Qc e2.bod;have:=hg.size;omega) (by simp;omega)).trans ((hkg.block _ (Qc e2.bod) (rl _ (Or.inr (Or.inl rfl)))).trans e2.bod)
 ·exact (hks.block _ (by have:=Qc e2.enu;have:=hg.size;omega) (by simp;omega)).trans ((hkg.block _ (Qc e2.enu) (rl _ (Or.inr (Or.inr rfl)))).trans e2.enu)
 ·have:=Qp hown hks (by
   intro g' h'
   simp only [Value.ownBlock,Option.some.injEq] at h'
   subst h'
   simpa using ng)
  simpa [putM] using this
 ·simp [putM,h.cod]
 ·intro p hp
  rcases List.mem_append.1 hp with hp | hp
  ·exact h.steps p hp
  ·simp only [List.mem_singleton] at hp
   subst hp
   exact hx
 ·exact Qp (Qp e2.kro hkg rk) hks (fun g' h'=>by simpa using (d5 g' h').1)
theorem Cp.putCall {u2 u3:World} {g cap:Nat} {k:Nat×List UInt8} (h:Cp w a Fr bs s sl ks cv et u) (hb:Below u.heap.size u u2)
  (hown:u3.ownsRow w.heap.size 222 2 (.slice (some ⟨g,0,none⟩) (s.calls.length + 1) cap) (s.calls.length + 1) (s.calls.flatMap Q4C++Q4C k))
  (hg:u2.grownBy u3 ks.ownBlock) (hat:ks.ownBlock=some g∨g=u2.heap.size) (hlt:g < u3.heap.size) :
  Cp w a Fr bs { s with calls:=s.calls++[k] } sl (.slice (some ⟨g,0,none⟩) (s.calls.length + 1) cap) cv et (u3.setCell ⟨a.C,3,none⟩ (.slice (some ⟨g,0,none⟩) (s.calls.length + 1) cap)):=by
 obtain ⟨hwg,_⟩:=Q16 hown (g:=g) rfl
 have e2:=h.below hb
 obtain ⟨d1,d2,d3,d4,d5⟩:=h.distinct
 have ho:Own w (ownC a sl (.slice (some ⟨g,0,none⟩) (s.calls.length + 1) cap)) Fr bs u3:=by
  have h1:=Own.grow (A:=[a.C,a.B,a.E]++sl.ownBlock.toList) (B:=[]) (r:=ks.ownBlock) (by simpa [ownC,List.append_assoc] using e2.own) hg hat hlt hwg
  simpa [ownC,Value.ownBlock,List.append_assoc] using h1
 have hks:Qb [a.C] u3 (u3.setCell ⟨a.C,3,none⟩ (.slice (some ⟨g,0,none⟩) (s.calls.length + 1) cap)):=(Qb.refl [a.C] u3).setIn (by simp) _
 have hkg:=Q05 hg
 have rl:∀ b,b=a.C∨b=a.B∨b=a.E→b ∉ ks.ownBlock.toList:=by
  intro b hb hm
  have:=d5 b (by simpa using hm)
  omega
 have rk:∀ b,sl.ownBlock=some b→b ∉ ks.ownBlock.toList:=by
  intro b hb hm
  exact (d5 b (by simpa using hm)).2.2.2 hb
 have ng:g≠a.C:=by
  rcases hat with hr | hr
  ·exact (d5 g hr).1
  ·have:=Qc e2.box
   omega
 refine ⟨ho.turn hks (by simp [ownC]),Qy (i:=3) ((hkg.block _ (Qc e2.box) (rl _ (Or.inl rfl))).trans e2.box) _,?_,h.bnp,?_,h.enp,h.enl,h.ens,?_,h.cod,h.steps,?_⟩
 ·exact (hks.block _ (by have:=Qc e2.bod;have:=hg.size;omega) (by simp;omega)).trans ((hkg.block _ (Qc e2.bod) (rl _ (Or.inr (Or.inl rfl)))).trans e2.bod)
 ·exact (hks.block _ (by have:=Qc e2.enu;have:=hg.size;omega) (by simp;omega)).trans ((hkg.block _ (Qc e2.enu) (rl _ (Or.inr (Or.inr rfl)))).trans e2.enu)
 ·exact Qp (Qp e2.row hkg rk) hks (fun g' h'=>by simpa using (d4 g' h').1)
 ·have:=Qp hown hks (by
   intro g' h'
   simp only [Value.ownBlock,Option.some.injEq] at h'
   subst h'
   simpa using ng)
  simpa using this
theorem Cp.setCode {i:Nat} {x:Qj} {v:Value} (h:Cp w a Fr bs s sl ks cv et u) (hx:Q1W bs v x) (hi:i < s.code.length) :
  ∃ g cap,sl = .slice (some ⟨g,0,none⟩) s.code.length cap∧s.code.length≤cap∧u.frozen? ⟨g,i,none⟩=false∧(∃ y,u.cell? ⟨g,i,none⟩=some y)∧g < u.heap.size∧Cp w a Fr bs (setM i x s) sl ks (cv.set i (x,v)) et (u.setCell ⟨g,i,none⟩ v):=by
 obtain ⟨d1,d2,d3,d4,d5⟩:=h.distinct
 rcases h.row.2 with ⟨rfl,h0⟩ | ⟨g,cap,cur,rfl,h2,h3,h4,h5,h6,h7⟩
 ·omega
 ·have hm:g∈ownC a (.slice (some ⟨g,0,none⟩) s.code.length cap) ks:=by simp [ownC,Value.ownBlock]
  have hks:Qb [g] u (u.setCell ⟨g,i,none⟩ v):=(Qb.refl [g] u).setIn (by simp) _
  obtain ⟨e1,e2,e3⟩:=d4 g rfl
  refine ⟨g,cap,rfl,h4,by simp [World.frozen?,h3],⟨cur[i]'(by omega),?_⟩,Qc h3,h.own.turn hks (by simpa using hm),?_,?_,h.bnp,?_,h.enp,h.enl,h.ens,⟨?_,Or.inr ⟨g,cap,cur.setIfInBounds i v,?_,h2,Qy h3 v,?_,h5,?_,?_⟩⟩,?_,?_,?_⟩
  ·simp [World.cell?,h3]
  ·exact (hks.block _ (Qc h.box) (by simp;omega)).trans h.box
  ·exact (hks.block _ (Qc h.bod) (by simp;omega)).trans h.bod
  ·exact (hks.block _ (Qc h.enu) (by simp;omega)).trans h.enu
  ·have:=h.row.1
   simpa [setM] using this
  ·simp [setM]
  ·simpa [setM] using h4
  ·simpa using h6
  ·simp only [setM,List.length_set,Array.toList_setIfInBounds]
   rw [List.take_set,h7]
   simp [List.map_set]
  ·simp [setM,h.cod,List.map_set]
  ·intro p hp
   rcases List.mem_or_eq_of_mem_set hp with hp | rfl
   ·exact h.steps p hp
   ·exact hx
  ·exact Qp h.kro hks (fun g' h'=>by
    have:=(d5 g' h').2.2.2
    intro hm
    simp at hm
    subst hm
    exact this rfl)
theorem Cp.putBody (h:Cp w a Fr bs s sl ks cv et u) (n:List UInt8) (at':Nat) :
  (Instr.mapUpdate 64 (.map (some a.B)) (.string ⟨n.toArray⟩) (.int .i64 at')).run Tryz.prog u = .ok () (putObj u a.B (Q0F (mput s.bodies n at'))) ∧
  Cp w a Fr bs { s with bodies:=mput s.bodies n at' } sl ks cv et (putObj u a.B (Q0F (mput s.bodies n at'))):=by
 obtain ⟨d1,d2,d3,d4,d5⟩:=h.distinct
 have hks:=Q08 u a.B (Q0F (mput s.bodies n at'))
 refine ⟨Q31 (P:=Tryz.prog) (T:=64) (kt:=9) (et:=3) (d:=.string) (by kernel_rfl) (by kernel_rfl) (fun k:List UInt8=>.string ⟨k.toArray⟩) (fun k:Nat=>.int .i64 k) (fun _=>trivial) (fun _=>Q5U _) Q32 h.bod h.bnp n at',?_⟩
 refine ⟨h.own.turn hks (by simp [ownC]),?_,Q1l (Qc h.bod) _,Q2v h.bnp _ _,?_,h.enp,h.enl,h.ens,Qp h.row hks ?_,h.cod,h.steps,Qp h.kro hks ?_⟩
 ·exact (hks.block _ (Qc h.box) (by simp;omega)).trans h.box
 ·exact (hks.block _ (Qc h.enu) (by simp;omega)).trans h.enu
 ·intro g hg
  simpa using (d4 g hg).2.1
 ·intro g hg
  simpa using (d5 g hg).2.1
theorem Cp.lookBody (h:Cp w a Fr bs s sl ks cv et u) (n:List UInt8) (c:Bool) :
  (Instr.lookup 64 (.map (some a.B)) (.string ⟨n.toArray⟩) c).run Tryz.prog u = .ok (match look s.bodies n with
   | some v=>if c then .tuple #[.int .i64 v,.bool true] else .int .i64 v
   | none=>if c then .tuple #[.int .i64 0,.bool false] else .int .i64 0) u:=by
 rw [Q4B]
 have hh:=Q3U (P:=Tryz.prog) (T:=64) (kt:=9) (et:=3) (d:=.string) (by kernel_rfl) (by kernel_rfl) (fun k:List UInt8=>.string ⟨k.toArray⟩) (fun k:Nat=>.int .i64 k) (fun _=>trivial) Q32 h.bod h.bnp (z:=.int .i64 0) (by kernel_rfl) n c
 cases hm:QI s.bodies n with
 | none=>rw [hm] at hh;exact hh
 | some v=>rw [hm] at hh;exact hh
theorem Cp.putEnum {v:Value} {x:NumL} (h:Cp w a Fr bs s sl ks cv et u) (hx:NumV bs v x) (n:List UInt8) :
  ∃ o,(Instr.mapUpdate 120 (.map (some a.E)) (.string ⟨n.toArray⟩) v).run Tryz.prog u = .ok () (putObj u a.E o) ∧
  Cp w a Fr bs { s with enums:=mput s.enums n x } sl ks cv (mput et n (x,v)) (putObj u a.E o):=by
 obtain ⟨d1,d2,d3,d4,d5⟩:=h.distinct
 have hrun:=Q31 (P:=Tryz.prog) (T:=120) (kt:=9) (et:=200) (d:=.string) (by kernel_rfl) (by kernel_rfl) (fun k:List UInt8=>.string ⟨k.toArray⟩) (fun k:NumL×Value=>k.2) (fun _=>trivial) (fun _=>Q5U _) Q32 h.enu h.enp n (x,v)
 refine ⟨_,hrun,?_⟩
 have hks:=Q08 u a.E (Q3e ((mput et n (x,v)).map fun p=>(.string ⟨p.1.toArray⟩,p.2.2)))
 refine ⟨h.own.turn hks (by simp [ownC]),?_,?_,h.bnp,Q1l (Qc h.enu) _,Q2v h.enp _ _,?_,?_,Qp h.row hks ?_,h.cod,h.steps,Qp h.kro hks ?_⟩
 ·exact (hks.block _ (Qc h.box) (by simp;omega)).trans h.box
 ·exact (hks.block _ (Qc h.bod) (by simp;omega)).trans h.bod
 ·show mput s.enums n x=_
  rw [h.enl]
  exact (Q8P (fun q:NumL×Value=>q.1) et n (x,v)).symm
 ·intro p hp
  rcases Q8Q hp with hp | rfl
  ·exact h.ens p hp
  ·exact hx
 ·intro g hg
  simpa using (d4 g hg).2.2
 ·intro g hg
  simpa using (d5 g hg).2.2.1
theorem Cp.lookEnum (h:Cp w a Fr bs s sl ks cv et u) (n:List UInt8):∃ v,(Instr.lookup 120 (.map (some a.E)) (.string ⟨n.toArray⟩) false).run Tryz.prog u = .ok v u∧NumV bs v ((look s.enums n).getD Q5x):=by
 have hrun:=Q3U (P:=Tryz.prog) (w:=u) (T:=120) (kt:=9) (et:=200) (d:=.string) (by kernel_rfl) (by kernel_rfl) (fun k:List UInt8=>.string ⟨k.toArray⟩) (fun k:NumL×Value=>k.2) (fun _=>trivial) Q32 h.enu h.enp (z:=.agg #[.int .i64 0,.int .i64 0,.slice none 0 0,.bool false]) (by kernel_rfl) n false
 refine ⟨_,hrun,?_⟩
 have hzero:NumV bs (.agg #[.int .i64 0,.int .i64 0,.slice none 0 0,.bool false]) Q5x:=⟨[.int .i64 0,.int .i64 0,.slice none 0 0,.bool false],rfl,_,rfl,rfl,_,_,_,rfl⟩
 have hl:look s.enums n=(QI et n).map (·.1):=by
  rw [Q4B,h.enl]
  unfold QI
  rw [List.find?_map]
  simp only [Option.map_map]
  rfl
 rw [hl]
 cases hm:QI et n with
 | none=>simpa using hzero
 | some q=>
  obtain ⟨p,hp,_,rfl⟩:=Qgd hm
  simpa using h.ens p hp
end
def Yld {α:Type} (Q:α→Prop) (m:PM α):Prop:=∀ σ a σ',m σ = .ok (a,σ')→Q a
def YldX {τ α:Type} (Q:α→Prop) (m:PX τ α):Prop:=∀ t σ a t' σ',m t σ = .ok (a,t',σ')→Q a
def InvX {τ α:Type} (I:τ→Prop) (m:PX τ α):Prop:=∀ t σ a t' σ',I t→m t σ = .ok (a,t',σ')→I t'
theorem Q1e {α:Type} {Q:α→Prop} {a:α} (h:Q a):Yld Q (ret a):=by
 intro σ b σ' hx
 simp only [ret] at hx
 cases hx
 exact h
theorem Q4K {α:Type} {Q:α→Prop} (n k:Nat):Yld Q (thr n k):=by
 intro σ b σ' hx
 simp only [thr] at hx
 cases hx
theorem Q5y {α β:Type} {Q:β→Prop} {R:α→Prop} {m:PM α} {f:α→PM β} (hm:Yld R m) (hf:∀ a,R a→Yld Q (f a)):Yld Q (bnd m f):=by
 intro σ b σ' h
 cases hx:m σ with
 | error e=>rw [Qq hx] at h;cases h
 | ok p=>obtain ⟨a,σ1⟩:=p;rw [Qh hx] at h;exact hf a (hm _ _ _ hx) _ _ _ h
theorem QjP {α:Type} (m:PM α):Yld (fun _=>True) m:=fun _ _ _ _=>trivial
theorem QQ {α β:Type} {Q:β→Prop} {m:PM α} {f:α→PM β} (hf:∀ a,Yld Q (f a)):Yld Q (bnd m f):=Q5y (QjP m) fun a _=>hf a
theorem Q18 {α:Type} {Q:α→Prop} {c:Bool} {a b:PM α} (ha:Yld Q a) (hb:Yld Q b):Yld Q (if c then a else b):=by cases c<;>assumption
theorem Q33 {τ α:Type} {Q:α→Prop} {a:α} (h:Q a):YldX Q (retx (τ:=τ) a):=by
 intro t σ b t' σ' hx
 simp only [retx] at hx
 cases hx
 exact h
theorem Qao {τ α:Type} {Q:α→Prop} {m:PM α} (h:Yld Q m):YldX Q (lift (τ:=τ) m):=by
 intro t σ b t' σ' hx
 cases hm:m σ with
 | error e=>rw [QB hm] at hx;cases hx
 | ok p=>obtain ⟨a,σ1⟩:=p;rw [Qk hm] at hx;cases hx;exact h _ _ _ hm
theorem Q5V {τ α β:Type} {Q:β→Prop} {R:α→Prop} {m:PX τ α} {f:α→PX τ β} (hm:YldX R m) (hf:∀ a,R a→YldX Q (f a)):YldX Q (bndx m f):=by
 intro t σ b t' σ' h
 cases hx:m t σ with
 | error e=>rw [Qm hx] at h;cases h
 | ok p=>obtain ⟨a,t1,σ1⟩:=p;rw [Qi hx] at h;exact hf a (hm _ _ _ _ _ hx) _ _ _ _ _ h
theorem QhE {τ α:Type} (m:PX τ α):YldX (fun _=>True) m:=fun _ _ _ _ _ _=>trivial
theorem Q0G {τ α β:Type} {Q:β→Prop} {m:PX τ α} {f:α→PX τ β} (hf:∀ a,YldX Q (f a)):YldX Q (bndx m f):=Q5V (QhE m) fun a _=>hf a
theorem Q3u {τ α:Type} {Q:α→Prop} {c:Bool} {a b:PX τ α} (ha:YldX Q a) (hb:YldX Q b):YldX Q (if c then a else b):=by cases c<;>assumption
theorem Qc1 {τ ρ α:Type} {Q:α→Prop} {m:PX τ α} (h:YldX Q m):YldX Q (onL (ρ:=ρ) m):=by
 rintro ⟨t,r⟩ σ a t' σ' hx
 cases hm:m t σ with
 | error e=>rw [Q5s hm] at hx;cases hx
 | ok p=>obtain ⟨b,t1,σ1⟩:=p;rw [Q6G hm] at hx;cases hx;exact h _ _ _ _ _ hm
theorem Q4L {τ α β:Type} {I:τ→Prop} {m:PX τ α} {f:α→PX τ β} (hm:InvX I m) (hf:∀ a,InvX I (f a)):InvX I (bndx m f):=by
 intro t σ b t' σ' hi h
 cases hx:m t σ with
 | error e=>rw [Qm hx] at h;cases h
 | ok p=>obtain ⟨a,t1,σ1⟩:=p;rw [Qi hx] at h;exact hf a _ _ _ _ _ (hm _ _ _ _ _ hi hx) h
theorem Q4e {τ α:Type} {I:τ→Prop} (m:PM α):InvX I (lift (τ:=τ) m):=by
 intro t σ b t' σ' hi hx
 cases hm:m σ with
 | error e=>rw [QB hm] at hx;cases hx
 | ok p=>obtain ⟨a,σ1⟩:=p;rw [Qk hm] at hx;cases hx;exact hi
theorem Q8R {τ α:Type} {I:τ→Prop} (a:α):InvX I (retx (τ:=τ) a):=by
 intro t σ b t' σ' hi hx
 simp only [retx] at hx
 cases hx
 exact hi
theorem Qdc {τ:Type} {I:τ→Prop} (text:ByteArray) (most:Nat) {run:PX τ Unit} (h:InvX I run):∀ (k n:Nat),InvX I (Q27 text most run k n):=by
 intro k
 induction k with
 | zero=>intro n;exact Q4e _
 | succ k ih=>
  intro n
  unfold Q27
  refine Q4L ?_ fun y=>?_
  ·split
   ·exact Q8R _
   ·exact Q4e _
  ·cases y
   ·exact Q4L (Q4e _) fun x=>Q4L (Q4e _) fun _=>Q4L h fun _=>ih _
   ·exact Q8R _
theorem QeJ {τ:Type} {I:τ→Prop} (text:ByteArray) (most:Nat) {run:PX τ Unit} (h:InvX I run):InvX I (block text most run):=by
 unfold block
 exact Q4L (Q4e _) fun _=>Qdc text most h _ _
theorem QhF {τ:Type} {I:τ→Prop} {m:PX τ Unit} (h:InvX I m) {t:τ} (ht:I t):Yld I (runx m t):=by
 intro σ a σ' hx
 cases hm:m t σ with
 | error e=>rw [Q5J hm] at hx;cases hx
 | ok p=>obtain ⟨b,t1,σ1⟩:=p;rw [Q4a hm] at hx;cases hx;exact h _ _ _ _ _ ht hm
theorem QhG {τ α:Type} {Q:α→Prop} {m:PX τ α} (h:YldX Q m) (t:τ):Yld (fun p=>Q p.1) (runy m t):=by
 intro σ a σ' hx
 cases hm:m t σ with
 | error e=>rw [Q2U hm] at hx;cases hx
 | ok p=>obtain ⟨b,t1,σ1⟩:=p;rw [Q4H hm] at hx;cases hx;exact h _ _ _ _ _ hm
theorem QhH {α:Type} {Q:α→Prop} {m:PX Unit α} (h:YldX Q m):Yld Q (bare m):=by
 intro σ a σ' hx
 cases hm:m () σ with
 | error e=>rw [Q8E hm] at hx;cases hx
 | ok p=>obtain ⟨b,t1,σ1⟩:=p;rw [Q9T hm] at hx;cases hx;exact h _ _ _ _ _ hm
def Q0K:Ty→Prop
 | .plain k=>k≤4
 | .named _ _=>True
 | _=>False
def Q1P:Ty→Prop
 | .plain k=>k≤4
 | .named _ _=>True
 | .opaq _ _=>True
 | .str _ _=>True
 | .arr o _ _=>Q0K o
 | .opt o=>Q0K o
 | .void=>False
def Q74 (t:Ty):Prop:=Q1P t∨t = .void
theorem Q0K.flat {t:Ty} (h:Q0K t):Flat t:=by cases t<;>simp [Q0K,Flat] at *
theorem Q0K.decl {t:Ty} (h:Q0K t):Q1P t:=by cases t<;>simp [Q0K,Q1P] at *<;>exact h
theorem Q1P.deep {t:Ty} (h:Q1P t):Q0J t:=by
 cases t with
 | arr o n f=>exact Q0K.flat h
 | opt o=>exact Q0K.flat h
 | _=>trivial
theorem Q74.deep {t:Ty} (h:Q74 t):Q0J t:=by
 rcases h with h | rfl
 ·exact h.deep
 ·trivial
theorem Qc2 (text:ByteArray):Yld Q0K (Q3o text):=by
 unfold Q3o
 refine QQ fun x=>?_
 unfold Q0X
 refine Q18 (Q1e trivial) (Q18 (Q1e (by simp [Q0K])) (Q18 (Q1e (by simp [Q0K])) (Q18 (Q1e (by simp [Q0K])) (Q18 ?_ (Q4K _ _)))))
 exact QQ fun y=>Q18 (Q1e (by simp [Q0K])) (QQ fun _=>Q1e (by simp [Q0K]))
theorem Qc3 (text:ByteArray):Yld (fun q:Ty×(Int→Bool)=>Q0K q.1) (Q42 text):=by
 unfold Q42
 refine QQ fun x=>?_
 unfold selK
 exact Q18 (QQ fun _=>Q1e trivial) (Q18 (Q1e (by simp [Q0K])) (Q18 (QQ fun _=>Q1e (by simp [Q0K])) (Q18 (Q1e (by simp [Q0K])) (Q4K _ _))))
theorem Q8S {τ:Type} (text:ByteArray) (C:Q0e τ):YldX (fun d=>Q1P d.ty) (decl text C):=by
 unfold decl
 refine Q0G fun y=>?_
 unfold Q6D
 refine Q3u (Q0G fun n=>Q0G fun q=>Q33 trivial) (Q0G fun y=>?_)
 unfold Q6C
 refine Q3u (Q0G fun n=>Q0G fun q=>Q33 trivial) (Q5V (Qao (Qc2 text)) fun ty hty=>?_)
 unfold Q6B
 refine Q0G fun y=>?_
 unfold Q87
 refine Q3u (Q0G fun n=>Q33 hty) (Q0G fun n=>?_)
 unfold Q5H
 refine Q0G fun y=>?_
 unfold Q6A
 have hD:YldX (τ:=τ) (fun d=>Q1P d.ty) (Q68 text n ty):=by
  unfold Q68
  exact Q0G fun q=>Q33 hty
 refine Q3u hD (Q0G fun z=>?_)
 unfold Q6z
 exact Q3u hD (Q33 hty.decl)
theorem QdP {τ:Type} (text:ByteArray) (C:Q0e τ):YldX (fun d=>Q74 d.ty) (arm text C):=by
 unfold arm
 refine Q5V (R:=fun d=>Q74 d.ty) (Q0G fun y=>?_) fun d hd=>Q0G fun _=>Q33 hd
 unfold armK
 refine Q3u (Q33 (Or.inr rfl)) ?_
 intro t σ a t' σ' h
 exact Or.inl (Q8S text C t σ a t' σ' h)
def Q3v (rs:Arms):Prop:=∀ a∈rs,Q74 a.2.ty
theorem Q3v.snoc {rs:Arms} (h:Q3v rs) {cs:List Int} {d:Qr} (hd:Q74 d.ty):Q3v (rs++[(cs,d)]):=by
 intro a ha
 rcases List.mem_append.1 ha with ha | ha
 ·exact h a ha
 ·simp only [List.mem_singleton] at ha
  subst ha
  exact hd
theorem Qdd (text:ByteArray) {rs:Arms} (h:Q3v rs):YldX Q3v (Q3F text rs):=by
 unfold Q3F
 exact Q0G fun y=>Q3u (Q0G fun _=>Q5V (Qc1 (QdP _ _)) fun d hd=>Q33 (h.snoc hd)) (Q33 h)
theorem Qge (text:ByteArray) (p:Int→Bool):∀ (k:Nat) {rs:Arms},Q3v rs→YldX Q3v (Q2E text p k rs):=by
 intro k
 induction k with
 | zero=>intro rs _;exact Qao (Q4K _ _)
 | succ k ih=>
  intro rs h
  unfold Q2E
  exact Q0G fun cs=>Q5V (Qc1 (QdP _ _)) fun d hd=>Q0G fun y=>Q3u (ih (h.snoc hd)) (Qdd text (h.snoc hd))
def Q75:DefL→Prop
 | .typedef d=>Q1P d.ty
 | .struct _ _ ms=>∀ m∈ms,Q1P m.ty
 | .union _ _ sel arms=>Q0K sel.ty∧Q3v arms
 | _=>True
theorem Qde (text:ByteArray) (n:List UInt8×Nat):∀ (k:Nat) (ms:List (List UInt8×Nat×Int)) (l:List (Int×Int)),Yld Q75 (Q1m text n k ms l):=by
 intro k
 induction k with
 | zero=>intro ms l;exact Q4K _ _
 | succ k ih=>
  intro ms l σ d σ' h
  cases hm:Q2q text ms.length l σ with
  | error f=>rw [Q3O hm] at h;cases h
  | ok p=>
   obtain ⟨m,l',σ1⟩:=p
   rw [Q3E hm] at h
   refine QQ (Q:=Q75) (fun y=>Q18 (ih _ _) ?_) _ _ _ h
   unfold Q48
   exact QQ fun _=>QQ fun _=>Q1e trivial
theorem Qa6 (text:ByteArray):Yld Q75 (definition text):=by
 unfold definition
 refine QQ fun x=>?_
 unfold defK
 refine Q18 ?_ (Q18 ?_ (Q18 ?_ (Q18 ?_ (Q18 ?_ (Q18 ?_ (Q4K _ _))))))
 ·unfold constant
  exact QQ fun _=>QQ fun n=>QQ fun _=>QQ fun _=>QQ fun _=>Q1e trivial
 ·unfold typedef
  exact QQ fun _=>Q5y (QhH (Q8S _ _)) fun d hd=>QQ fun _=>Q1e hd
 ·unfold enumeration
  exact QQ fun _=>QQ fun n=>QQ fun _=>Qde _ _ _ _ _
 ·unfold Q2r
  refine QQ fun _=>QQ fun n=>Q5y (QhF (I:=fun p:List Qr×List (List UInt8)=>∀ m∈p.1,Q1P m.ty) (QeJ _ _ ?_) (by simp)) fun p hp=>QQ fun _=>Q1e hp
  rintro ⟨ds,t⟩ σ a t' σ' hi h
  cases hd:decl text (Qu 0 0) t σ with
  | error f=>rw [Q6o hd] at h;cases h
  | ok q=>
   obtain ⟨d,t1,σ1⟩:=q
   rw [Q5c hd] at h
   refine Q4L (I:=fun p:List Qr×List (List UInt8)=>∀ m∈p.1,Q1P m.ty) (Q4e _) (fun _=>Q8R ()) _ _ _ _ _ ?_ h
   intro m hm
   rcases List.mem_append.1 hm with hm | hm
   ·exact hi m hm
   ·simp only [List.mem_singleton] at hm
    subst hm
    exact Q8S _ _ _ _ _ _ _ hd
 ·unfold Q0u
  refine QQ fun _=>QQ fun n=>?_
  unfold Q5u
  refine QQ fun _=>QQ fun _=>Q5y (Qc3 text) fun q hq=>?_
  unfold Q5t
  refine QQ fun m=>?_
  unfold Q6H
  refine QQ fun _=>QQ fun _=>Q5y (QhG (Qge text q.2 13 (rs:=[]) (by intro a ha;cases ha)) _) fun r hr=>?_
  unfold Q2H Q43
  exact QQ fun _=>QQ fun _=>Q1e ⟨hq,hr⟩
 ·unfold Q2z
  refine QQ fun _=>QQ fun n=>?_
  unfold Q5K
  exact QQ fun _=>QQ fun _=>Q1e trivial
def Q7K (ds:List DefL):Prop:=∀ d∈ds,Q75 d
theorem Qgf (text:ByteArray):∀ (k:Nat) {ds:List DefL},Q7K ds→Yld Q7K (Q17 text k ds):=by
 intro k
 induction k with
 | zero=>intro ds _;exact Q4K _ _
 | succ k ih=>
  intro ds h
  unfold Q17
  refine QQ fun x=>Q18 (Q1e h) (Q5y (Qa6 text) fun d hd=>QQ fun _=>ih ?_)
  intro e he
  rcases List.mem_append.1 he with he | he
  ·exact h e he
  ·simp only [List.mem_singleton] at he
   subst he
   exact hd
theorem Q8t {text:ByteArray} {ds:List DefL} (h:Q1J text = .ok ds):Q7K ds:=by
 unfold Q1J at h
 split at h
 ·cases h
 ·cases hf:Q17 text 69 [] st0 with
  | error f=>rw [hf] at h;cases h
  | ok p=>
   obtain ⟨ds',σ⟩:=p
   rw [hf] at h
   simp only at h
   have hd:=Qgf text 69 (ds:=[]) (by intro d hd;cases hd) _ _ _ hf
   split at h
   ·cases h
   ·split at h
    ·cases h
    ·cases h
     exact hd
def QS:Ty→Nat
 | .arr o _ _=>QS o + 2
 | .opt o=>QS o + 1
 | .void=>0
 | _=>1
theorem Q1L (t:Ty):∀ s,(QR t s).code.length=s.code.length + QS t:=by
 induction t with
 | arr o n f ih=>intro s;simp [QR,setM,putM,QS,ih];omega
 | opt o ih=>intro s;simp [QR,setM,putM,QS,ih];omega
 | _=>intro s;simp [QR,putM,Q2k,QS]
theorem Q4M {t:Ty} (h:Q0J t):QS t≤3:=by
 cases t with
 | arr o n f=>cases o<;>simp [Q0J,Flat,QS] at *
 | opt o=>cases o<;>simp [Q0J,Flat,QS] at *
 | _=>simp [QS]
end Go.Proofs.YtmbcibgknckenaaGreatDoor
namespace Go.Proofs.YtmbcibgknckenaaGreatDoor
structure Wk (τ:Type) where
 enter:Nat→τ→Except Mar.Fault τ
 num:NumL→τ→Except Mar.Fault τ
 text:Int→Bool→τ→Except Mar.Fault τ
 list:Int→Bool→τ→Except Mar.Fault (Nat×τ)
 arm:NumL→(Int→Option Nat)→τ→Except Mar.Fault (Int×τ)
def NumL.has (n:NumL) (k:Int):Bool:=decide (n.low≤k) && decide (k≤n.high) && (match n.mem with | none=>true | some l=>l.contains k)
def wayL (n:NumL) (ws:List (Int×Nat×Nat)) (o:Option (Nat×Nat)) (k:Int):Option (Nat×Nat):=if n.has k then (match QI ws k with | some q=>some q | none=>o) else none
structure MSt where
 next:Nat
 calls:List Nat
 rounds:List (Nat×Nat)
section
variable {τ : Type}
def Q0d (W:Wk τ) (x:Qj) (m:MSt) (d:τ):Option (Except Mar.Fault (MSt×τ)):=
 match x with
 | .hole=>none
 | .fin=>none
 | .call dest=>if 1000≤m.calls.length then none else some (match W.enter m.calls.length d with
  | .ok d'=>.ok ({ m with next:=dest,calls:=m.next :: m.calls },d')
  | .error f=>.error f)
 | .ret=>match m.calls with
  | []=>none
  | k :: ks=>some (.ok ({ m with next:=k,calls:=ks },d))
 | .jump dest=>some (.ok ({ m with next:=dest },d))
 | .num n=>some (match W.num n d with
  | .ok d'=>.ok (m,d')
  | .error f=>.error f)
 | .text n b=>some (match W.text n b d with
  | .ok d'=>.ok (m,d')
  | .error f=>.error f)
 | .struct n b=>some (match W.list n b d with
  | .ok (_,d')=>.ok (m,d')
  | .error f=>.error f)
 | .array n b dest=>if 1000≤m.rounds.length then none else some (match W.list n b d with
  | .ok (0,d')=>.ok ({ m with next:=dest },d')
  | .ok (k + 1,d')=>.ok ({ m with rounds:=(m.next,k + 1) :: m.rounds },d')
  | .error f=>.error f)
 | .again=>match m.rounds with
  | []=>none
  | (from',left) :: rs=>some (.ok (if 1 < left then { m with next:=from',rounds:=(from',left - 1) :: rs } else { m with rounds:=rs },d))
 | .choice n ws o=>match W.arm n (fun k=>(wayL n ws o k).map (·.2)) d with
  | .ok (k,d')=>match wayL n ws o k with
   | some q=>some (.ok ({ m with next:=q.1 },d'))
   | none=>none
  | .error f=>some (.error f)
def runN (W:Wk τ) (c:List Qj):Nat→MSt→τ→Option (Except Mar.Fault τ)
 | 0,_,_=>none
 | n + 1,m,d=>match c[m.next]? with
  | none=>none
  | some .fin=>some (.ok d)
  | some x=>match Q0d W x { m with next:=m.next + 1 } d with
   | none=>none
   | some (.error f)=>some (.error f)
   | some (.ok (m',d'))=>runN W c n m' d'
def QX (W:Wk τ) (c:List Qj) (m:MSt) (d:τ) (r:Except Mar.Fault (MSt×τ)):Prop:=
 ∃ n,∀ k z,(match r with | .ok (m',d')=>runN W c k m' d' | .error f=>some (.error f))=some z→runN W c (k + n) m d=some z
theorem QX.refl (W:Wk τ) (c:List Qj) (m:MSt) (d:τ):QX W c m d (.ok (m,d)):=⟨0,fun _ _ h=>h⟩
theorem QX.trans {W:Wk τ} {c:List Qj} {m m1:MSt} {d d1:τ} {r:Except Mar.Fault (MSt×τ)} (h:QX W c m d (.ok (m1,d1))) (h1:QX W c m1 d1 r):QX W c m d r:=by
 obtain ⟨n,hn⟩:=h
 obtain ⟨k,hk⟩:=h1
 exact ⟨k + n,fun j z hz=>by rw [← Nat.add_assoc];exact hn _ _ (hk j z hz)⟩
theorem QX.step {W:Wk τ} {c:List Qj} {m:MSt} {d:τ} {x:Qj} {r:Except Mar.Fault (MSt×τ)} (hx:c[m.next]? = some x) (hf:x≠.fin) (hs:Q0d W x { m with next:=m.next + 1 } d=some r):QX W c m d r:=by
 refine ⟨1,fun k z hz=>?_⟩
 unfold runN
 rw [hx]
 cases x with
 | fin=>exact absurd rfl hf
 | _=>
  simp only [hs]
  cases r with
  | error f=>exact hz
  | ok p=>exact hz
def thenE {α β:Type} (r:Except Mar.Fault α) (f:α→Except Mar.Fault β):Except Mar.Fault β:=match r with
 | .ok a=>f a
 | .error e=>.error e
abbrev Den (τ:Type):=τ→Except Mar.Fault τ
def rep (f:Den τ):Nat→Den τ
 | 0,d=>.ok d
 | n + 1,d=>thenE (f d) (rep f n)
def Q45 (n:Int):Option Nat:=if n=0 then some 0 else if n=1 then some 1 else none
def tyD (W:Wk τ) (nm:List UInt8→Den τ):Ty→Den τ
 | .named n _,d=>nm n d
 | .plain k,d=>W.num (QL k) d
 | .opaq n f,d=>W.text n f d
 | .str n f,d=>W.text n f d
 | .arr o n f,d=>thenE (W.list n f d) fun p=>rep (tyD W nm o) p.1 p.2
 | .opt o,d=>thenE (W.arm (QL 4) Q45 d) fun p=>if p.1=1 then tyD W nm o p.2 else .ok p.2
 | .void,d=>.ok d
def allD (W:Wk τ) (nm:List UInt8→Den τ):List Ty→Den τ
 | [],d=>.ok d
 | t :: ts,d=>thenE (tyD W nm t d) (allD W nm ts)
def Q2l (arms:List (List Int×Qr)) (n:Int):Option Ty:=
 match arms.reverse.find? (fun a=>a.1.contains n) with
 | some a=>some a.2.ty
 | none=>(arms.reverse.find? (fun a=>a.1.isEmpty)).map (·.2.ty)
abbrev Env:=List UInt8→Option DefL
def selD (E:Env):Ty→NumL
 | .named t _=>match E t with
  | some (.enum _ _ ms)=>Q0o ms
  | _=>Q5x
 | .plain k=>QL k
 | _=>Q5x
def Q4N (E:Env) (sel:Ty) (arms:List (List Int×Qr)) (n:Int):Option Nat:=if (selD E sel).has n then (Q2l arms n).map fun t=>if Q3d t then 0 else 1 else none
def defD (W:Wk τ) (E:Env) (nm:List UInt8→Den τ):DefL→Den τ
 | .typedef a,d=>tyD W nm a.ty d
 | .enum _ _ ms,d=>W.num (Q0o ms) d
 | .struct _ _ ms,d=>thenE (W.list ms.length true d) fun p=>allD W nm (ms.map (·.ty)) p.2
 | .union _ _ sel arms,d=>thenE (W.arm (selD E sel.ty) (Q4N E sel.ty arms) d) fun p=>match Q2l arms p.1 with
  | some t=>tyD W nm t p.2
  | none=>.error ⟨0,0⟩
 | _,_=>.error ⟨0,0⟩
def Q1s (W:Wk τ) (E:Env):Nat→Nat→List UInt8→Den τ
 | 0,k,_,d=>thenE (W.enter k d) fun _=>.error ⟨0,0⟩
 | g + 1,k,n,d=>thenE (W.enter k d) fun d1=>match E n with
  | some df=>defD W E (Q1s W E g (k + 1)) df d1
  | none=>.error ⟨0,0⟩
def AtTy (c:List Qj) (B:List UInt8→Nat) (E:Env):Nat→Ty→Prop
 | p,.named n _=>c[p]? = some (.call (B n))∧(E n).isSome
 | p,.plain k=>c[p]? = some (.num (QL k))
 | p,.opaq n f=>c[p]? = some (.text n f)
 | p,.str n f=>c[p]? = some (.text n f)
 | p,.arr o n f=>c[p]? = some (.array n f (p + QS o + 2))∧AtTy c B E (p + 1) o∧c[p + 1 + QS o]? = some .again
 | p,.opt o=>c[p]? = some (.choice (QL 4) [(0,p + 1 + QS o,0),(1,p + 1,1)] none)∧AtTy c B E (p + 1) o
 | _,.void=>True
def Qb9 (c:List Qj) (B:List UInt8→Nat) (E:Env):Nat→List Ty→Prop
 | _,[]=>True
 | p,t :: ts=>AtTy c B E p t∧Qb9 c B E (p + QS t) ts
def Q4O (ts:List Ty):Nat:=(ts.map QS).sum
def QeK (c:List Qj) (B:List UInt8→Nat) (E:Env) (p:Nat):DefL→Prop
 | .typedef a=>AtTy c B E p a.ty∧c[p + QS a.ty]? = some .ret
 | .enum _ _ ms=>c[p]? = some (.num (Q0o ms))∧c[p + 1]? = some .ret
 | .struct _ _ ms=>c[p]? = some (.struct ms.length true)∧Qb9 c B E (p + 1) (ms.map (·.ty))∧c[p + 1 + Q4O (ms.map (·.ty))]? = some .ret
 | .union _ _ sel arms=>∃ ws o e,c[p]? = some (.choice (selD E sel.ty) ws o)∧c[e]? = some .ret ∧
   ∀ n,match Q2l arms n with
    | none=>QI ws n=none∧o=none
    | some t=>∃ q,(match QI ws n with | some q=>some q | none=>o)=some q∧q.2=(if Q3d t then 0 else 1)∧AtTy c B E q.1 t∧c[q.1 + QS t]? = some (.jump e)
 | _=>True
def Q1R (m:MSt) (r:Except Mar.Fault τ):Except Mar.Fault (MSt×τ):=match r with
 | .ok d=>.ok (m,d)
 | .error f=>.error f
theorem QX.thenE {W:Wk τ} {c:List Qj} {m m1 m2:MSt} {d:τ} {r:Except Mar.Fault τ} {f:Den τ} (h:QX W c m d (Q1R m1 r)) (hf:∀ d1,r = .ok d1→QX W c m1 d1 (Q1R m2 (f d1))):QX W c m d (Q1R m2 (Go.Proofs.YtmbcibgknckenaaGreatDoor.thenE r f)):=by
 cases r with
 | error e=>exact h
 | ok d1=>exact h.trans (hf d1 rfl)
theorem QhI (n:Int):(QL 4).has n=decide (n=0∨n=1):=by
 simp only [NumL.has,QL]
 rw [Bool.eq_iff_iff]
 simp
 omega
theorem Q8T (a b:Nat) (n:Int):wayL (QL 4) [(0,a,0),(1,b,1)] none n=if n=0 then some (a,0) else if n=1 then some (b,1) else none:=by
 unfold wayL
 rw [QhI]
 by_cases h0:n=0
 ·subst h0;simp [QI]
 ·by_cases h1:n=1
  ·subst h1;simp [QI]
  ·simp [h0,h1]
theorem Q7L (a b:Nat):(fun k=>(wayL (QL 4) [(0,a,0),(1,b,1)] none k).map (·.2))=Q45:=by
 funext n
 rw [Q8T]
 unfold Q45
 split
 ·rfl
 ·split<;>rfl
def Wk.Fair (W:Wk τ):Prop:=∀ n v d k d',W.arm n v d = .ok (k,d')→(v k).isSome
theorem Q3w {W:Wk τ} {c:List Qj} {B:List UInt8→Nat} {E:Env} {K:List Nat} {nm:List UInt8→Den τ}
  (hn:∀ n p R d,R.length≤K.length→(E n).isSome→c[p]? = some (.call (B n))→QX W c ⟨p,K,R⟩ d (Q1R ⟨p + 1,K,R⟩ (nm n d))) :
  ∀ (t:Ty) (p:Nat) (R:List (Nat×Nat)) (d:τ),Flat t→R.length≤K.length→AtTy c B E p t→QX W c ⟨p,K,R⟩ d (Q1R ⟨p + QS t,K,R⟩ (tyD W nm t d)):=by
 intro t p R d hf hR h
 cases t with
 | named n a=>exact hn n p R d hR h.2 h.1
 | plain k=>
  refine QX.step h (by simp) ?_
  simp only [Q0d,tyD,QS]
  cases W.num (QL k) d<;>rfl
 | opaq n f=>
  refine QX.step h (by simp) ?_
  simp only [Q0d,tyD,QS]
  cases W.text n f d<;>rfl
 | str n f=>
  refine QX.step h (by simp) ?_
  simp only [Q0d,tyD,QS]
  cases W.text n f d<;>rfl
 | void=>exact QX.refl W c _ d
 | arr o n f=>exact absurd hf (by simp [Flat])
 | opt o=>exact absurd hf (by simp [Flat])
theorem Qc4 {W:Wk τ} (hW:W.Fair) {c:List Qj} {B:List UInt8→Nat} {E:Env} {K:List Nat} (hK:K.length≤100) {nm:List UInt8→Den τ}
  (hn:∀ n p R d,R.length≤K.length→(E n).isSome→c[p]? = some (.call (B n))→QX W c ⟨p,K,R⟩ d (Q1R ⟨p + 1,K,R⟩ (nm n d))) :
  ∀ (t:Ty) (p:Nat) (R:List (Nat×Nat)) (d:τ),Q0J t→R.length < K.length→AtTy c B E p t→QX W c ⟨p,K,R⟩ d (Q1R ⟨p + QS t,K,R⟩ (tyD W nm t d)):=by
 intro t p R d hd hR h
 cases t with
 | named n a=>exact Q3w hn (.named n a) p R d trivial (by omega) h
 | plain k=>exact Q3w hn (.plain k) p R d trivial (by omega) h
 | opaq n f=>exact Q3w hn (.opaq n f) p R d trivial (by omega) h
 | str n f=>exact Q3w hn (.str n f) p R d trivial (by omega) h
 | void=>exact Q3w hn .void p R d trivial (by omega) h
 | arr o n f=>
  obtain ⟨h1,h2,h3⟩:=h
  have hg:¬ 1000≤R.length:=by omega
  simp only [tyD,QS]
  cases hl:W.list n f d with
  | error e=>
   refine QX.step h1 (by simp) ?_
   simp only [Q0d,hl,if_neg hg]
   rfl
  | ok q=>
   obtain ⟨cnt,d1⟩:=q
   cases cnt with
   | zero=>
    refine QX.step h1 (by simp) ?_
    simp only [Q0d,hl,if_neg hg]
    rfl
   | succ cnt=>
    have hs:QX W c ⟨p,K,R⟩ d (.ok (⟨p + 1,K,(p + 1,cnt + 1) :: R⟩,d1)):=by
     refine QX.step h1 (by simp) ?_
     simp only [Q0d,hl,if_neg hg]
    refine hs.trans ?_
    clear hs hl
    simp only [thenE]
    have key:∀ (j:Nat) (d:τ),QX W c ⟨p + 1,K,(p + 1,j + 1) :: R⟩ d (Q1R ⟨p + (QS o + 2),K,R⟩ (rep (tyD W nm o) (j + 1) d)):=by
     intro j
     induction j with
     | zero=>
      intro d
      unfold rep
      refine QX.thenE (Q3w hn o (p + 1) _ d hd (by simp;omega) h2) fun d2 _=>?_
      refine QX.step h3 (by simp) ?_
      simp only [Q0d]
      simp [Q1R,rep]
      omega
     | succ j ihj=>
      intro d
      unfold rep
      refine QX.thenE (Q3w hn o (p + 1) _ d hd (by simp;omega) h2) fun d2 _=>?_
      refine QX.trans (QX.step h3 (by simp) ?_) (ihj d2)
      simp only [Q0d]
      simp
    exact key cnt d1
 | opt o=>
  obtain ⟨h1,h2⟩:=h
  simp only [tyD,QS]
  cases hl:W.arm (QL 4) Q45 d with
  | error e=>
   refine QX.step h1 (by simp) ?_
   simp only [Q0d,Q7L,hl]
   rfl
  | ok q=>
   obtain ⟨k,d1⟩:=q
   have hk:=hW _ _ _ _ _ hl
   by_cases h0:k=0
   ·subst h0
    refine QX.step h1 (by simp) ?_
    simp only [Q0d,Q7L,hl]
    rw [Q8T,show p + (QS o + 1)=p + 1 + QS o by omega]
    simp [thenE,Q1R]
   ·by_cases hk1:k=1
    ·subst hk1
     have hs:QX W c ⟨p,K,R⟩ d (.ok (⟨p + 1,K,R⟩,d1)):=by
      refine QX.step h1 (by simp) ?_
      simp only [Q0d,Q7L,hl]
      rw [Q8T]
      rfl
     refine hs.trans ?_
     have:=Q3w hn o (p + 1) R d1 hd (by omega) h2
     rw [show p + (QS o + 1)=p + 1 + QS o by omega]
     simpa [thenE] using this
    ·simp [Q45,h0,hk1] at hk
theorem QjQ {W:Wk τ} (hW:W.Fair) {c:List Qj} {B:List UInt8→Nat} {E:Env} {K:List Nat} (hK:K.length≤100) {nm:List UInt8→Den τ}
  (hn:∀ n p R d,R.length≤K.length→(E n).isSome→c[p]? = some (.call (B n))→QX W c ⟨p,K,R⟩ d (Q1R ⟨p + 1,K,R⟩ (nm n d))) :
  ∀ (ts:List Ty) (p:Nat) (R:List (Nat×Nat)) (d:τ),(∀ t∈ts,Q0J t)→R.length < K.length→Qb9 c B E p ts→QX W c ⟨p,K,R⟩ d (Q1R ⟨p + Q4O ts,K,R⟩ (allD W nm ts d)):=by
 intro ts
 induction ts with
 | nil=>intro p R d _ _ _;exact QX.refl W c _ d
 | cons t ts ih=>
  intro p R d hd hR ⟨h1,h2⟩
  unfold allD
  refine QX.thenE (Qc4 hW hK hn t p R d (hd t (by simp)) hR h1) fun d1 _=>?_
  have:=ih (p + QS t) R d1 (fun t ht=>hd t (List.mem_cons_of_mem _ ht)) hR h2
  rw [show p + Q4O (t :: ts)=p + QS t + Q4O ts by simp [Q4O];omega]
  exact this
def Q4D:DefL→List Ty
 | .typedef d=>[d.ty]
 | .struct _ _ ms=>ms.map (·.ty)
 | .union _ _ _ arms=>arms.map (·.2.ty)
 | _=>[]
theorem Qap {arms:List (List Int×Qr)} {n:Int} {t:Ty} (h:Q2l arms n=some t):t∈arms.map (·.2.ty):=by
 unfold Q2l at h
 cases hf:arms.reverse.find? (fun a=>a.1.contains n) with
 | some a=>
  rw [hf] at h
  cases h
  exact List.mem_map.2 ⟨a,List.mem_reverse.1 (List.mem_of_find?_eq_some hf),rfl⟩
 | none=>
  rw [hf] at h
  simp only [Option.map_eq_some_iff] at h
  obtain ⟨a,ha,rfl⟩:=h
  exact List.mem_map.2 ⟨a,List.mem_reverse.1 (List.mem_of_find?_eq_some ha),rfl⟩
theorem QjR {W:Wk τ} (hW:W.Fair) {c:List Qj} {B:List UInt8→Nat} {E:Env} {K:List Nat} (hK:K.length + 1≤100) {r:Nat} {nm:List UInt8→Den τ}
  (hn:∀ n p R d,R.length≤K.length + 1→(E n).isSome→c[p]? = some (.call (B n))→QX W c ⟨p,r :: K,R⟩ d (Q1R ⟨p + 1,r :: K,R⟩ (nm n d)))
  (df:DefL) (hty:∀ t a v,df≠.const t a v) (hpg:∀ t a v n,df≠.prog t a v n) (hdp:∀ t∈Q4D df,Q0J t) (p:Nat) (R:List (Nat×Nat)) (hR:R.length≤K.length) (d:τ) (h:QeK c B E p df):QX W c ⟨p,r :: K,R⟩ d (Q1R ⟨r,K,R⟩ (defD W E nm df d)):=by
 have hK':(r :: K).length≤100:=by simp;omega
 have hR':R.length < (r :: K).length:=by simp;omega
 have hn':∀ n p R d,R.length≤(r :: K).length→(E n).isSome→c[p]? = some (.call (B n))→QX W c ⟨p,r :: K,R⟩ d (Q1R ⟨p + 1,r :: K,R⟩ (nm n d)):=fun n p R d hr=>hn n p R d (by simpa using hr)
 have back:∀ (q:Nat) (d1:τ),c[q]? = some .ret→QX W c ⟨q,r :: K,R⟩ d1 (.ok (⟨r,K,R⟩,d1)):=by
  intro q d1 hq
  refine QX.step hq (by simp) ?_
  simp only [Q0d]
 have after:∀ (q:Nat) (x:Except Mar.Fault τ),c[q]? = some .ret→QX W c ⟨p,r :: K,R⟩ d (Q1R ⟨q,r :: K,R⟩ x)→QX W c ⟨p,r :: K,R⟩ d (Q1R ⟨r,K,R⟩ x):=by
  intro q x hq hx
  cases x with
  | error f=>exact hx
  | ok d1=>exact QX.trans hx (back q d1 hq)
 cases df with
 | const t a v=>exact absurd rfl (hty t a v)
 | prog t a v n=>exact absurd rfl (hpg t a v n)
 | typedef a=>exact after _ _ h.2 (Qc4 hW hK' hn' a.ty p R d (hdp _ (by simp [Q4D])) hR' h.1)
 | enum t a ms=>
  refine after _ _ h.2 (QX.step h.1 (by simp) ?_)
  simp only [Q0d,defD]
  cases W.num (Q0o ms) d<;>rfl
 | struct t a ms=>
  refine after _ _ h.2.2 ?_
  simp only [defD]
  cases hl:W.list ms.length true d with
  | error e=>
   refine QX.step h.1 (by simp) ?_
   simp only [Q0d,hl]
   rfl
  | ok q=>
   obtain ⟨cnt,d1⟩:=q
   have hs:QX W c ⟨p,r :: K,R⟩ d (.ok (⟨p + 1,r :: K,R⟩,d1)):=by
    refine QX.step h.1 (by simp) ?_
    simp only [Q0d,hl]
   exact hs.trans (QjQ hW hK' hn' _ (p + 1) R d1 hdp hR' h.2.1)
 | union t a sel arms=>
  obtain ⟨ws,o,e,h1,h2,h3⟩:=h
  have hv:(fun k=>(wayL (selD E sel.ty) ws o k).map (·.2))=Q4N E sel.ty arms:=by
   funext k
   unfold wayL Q4N
   have hk:=h3 k
   split
   ·cases hm:Q2l arms k with
    | none=>rw [hm] at hk;rw [hk.1,hk.2];rfl
    | some ty=>
     rw [hm] at hk
     obtain ⟨q,hq,hq2,_⟩:=hk
     rw [hq]
     simp [hq2]
   ·rfl
  refine after e _ h2 ?_
  simp only [defD]
  cases hl:W.arm (selD E sel.ty) (Q4N E sel.ty arms) d with
  | error f=>
   refine QX.step h1 (by simp) ?_
   simp only [Q0d,hv,hl]
   rfl
  | ok p1=>
   obtain ⟨k,d1⟩:=p1
   have hk:=hW _ _ _ _ _ hl
   have hh:=h3 k
   unfold Q4N at hk
   split at hk
   ·rename_i hhas
    cases hm:Q2l arms k with
    | none=>rw [hm] at hk;cases hk
    | some ty=>
     rw [hm] at hh
     obtain ⟨q,hq,hq2,hq3,hq4⟩:=hh
     have hwy:wayL (selD E sel.ty) ws o k=some q:=by
      unfold wayL
      rw [if_pos hhas]
      exact hq
     have hs:QX W c ⟨p,r :: K,R⟩ d (.ok (⟨q.1,r :: K,R⟩,d1)):=by
      refine QX.step h1 (by simp) ?_
      simp only [Q0d,hv,hl,hwy]
     refine hs.trans ?_
     simp only [thenE,hm]
     have hty:=Qc4 hW hK' hn' ty q.1 R d1 (hdp ty (Qap hm)) hR' hq3
     cases hx:tyD W nm ty d1 with
     | error f=>rw [hx] at hty;exact hty
     | ok d2=>
      rw [hx] at hty
      refine QX.trans hty (QX.step hq4 (by simp) ?_)
      simp only [Q0d]
      rfl
   ·cases hk
def QeL (c:List Qj) (B:List UInt8→Nat) (E:Env):Prop:=∀ n df,E n=some df→(∀ t a v,df≠.const t a v)∧(∀ t a v n,df≠.prog t a v n)∧(∀ t∈Q4D df,Q0J t)∧QeK c B E (B n) df
theorem QhJ {W:Wk τ} (hW:W.Fair) (hE:∀ k d,64≤k→∃ f,W.enter k d = .error f) {c:List Qj} {B:List UInt8→Nat} {E:Env} (ha:QeL c B E) :
  ∀ (g:Nat) (K:List Nat) (n:List UInt8) (p:Nat) (R:List (Nat×Nat)) (d:τ),64≤g + K.length→K.length≤70→g + K.length≤70→R.length≤K.length→(E n).isSome→c[p]? = some (.call (B n))→QX W c ⟨p,K,R⟩ d (Q1R ⟨p + 1,K,R⟩ (Q1s W E g K.length n d)):=by
 intro g
 induction g with
 | zero=>
  intro K n p R d hg hk1 hk2 hR _ hp
  obtain ⟨f,hf⟩:=hE K.length d (by omega)
  refine QX.step hp (by simp) ?_
  simp only [Q0d,Q1s,hf,thenE,if_neg (show ¬ 1000≤K.length by omega)]
  rfl
 | succ g ih=>
  intro K n p R d hg hk1 hk2 hR hen hp
  have hgd:¬ 1000≤K.length:=by omega
  simp only [Q1s]
  cases he:W.enter K.length d with
  | error f=>
   refine QX.step hp (by simp) ?_
   simp only [Q0d,he,if_neg hgd]
   rfl
  | ok d1=>
   have hs:QX W c ⟨p,K,R⟩ d (.ok (⟨B n,(p + 1) :: K,R⟩,d1)):=by
    refine QX.step hp (by simp) ?_
    simp only [Q0d,he,if_neg hgd]
   refine hs.trans ?_
   obtain ⟨df,hd⟩:=Option.isSome_iff_exists.1 hen
   obtain ⟨h1,h2,h4,h3⟩:=ha n df hd
   simp only [thenE,hd]
   refine QjR hW (by omega) ?_ df h1 h2 h4 (B n) R hR d1 h3
   intro n' p' R' d' hR' hen' hp'
   have:=ih ((p + 1) :: K) n' p' R' d' (by simp;omega) (by simp;omega) (by simp;omega) (by simpa using hR') hen' hp'
   simpa using this
theorem Qgg {W:Wk τ} (hW:W.Fair) (hE:∀ k d,64≤k→∃ f,W.enter k d = .error f) {c:List Qj} {B:List UInt8→Nat} {E:Env} (ha:QeL c B E) {n:List UInt8} {p:Nat} (h0:(E n).isSome) (h1:c[p]? = some (.call (B n))) (h2:c[p + 1]? = some .fin) (d:τ) :
  ∃ k,runN W c k ⟨p,[],[]⟩ d=some (Q1s W E 64 0 n d):=by
 obtain ⟨k,hk⟩:=QhJ hW hE ha 64 [] n p [] d (by simp) (by simp) (by simp) (by simp) h0 h1
 cases hx:Q1s W E 64 0 n d with
 | error f=>
  refine ⟨0 + k,hk 0 _ ?_⟩
  simp only [List.length_nil,hx,Q1R]
 | ok d1=>
  refine ⟨1 + k,hk 1 _ ?_⟩
  simp only [List.length_nil,hx,Q1R,runN,h2]
end
def QM (B:List UInt8→Nat) (s:CSt):List Qj:=s.calls.foldl (fun c k=>c.set k.1 (.call (B k.2))) s.code
def Wf (s:CSt):Prop:=∀ k∈s.calls,s.code[k.1]? = some (.call 0)
theorem Q7n {α:Type} (f:Nat×List UInt8→α):∀ (l:List (Nat×List UInt8)) (c:List α),(l.foldl (fun c k=>c.set k.1 (f k)) c).length=c.length:=by
 intro l
 induction l with
 | nil=>intro c;rfl
 | cons k l ih=>intro c;simp [ih]
theorem Q7o {α:Type} (f:Nat×List UInt8→α):∀ (l:List (Nat×List UInt8)) (c d:List α),(∀ k∈l,k.1 < c.length)→l.foldl (fun c k=>c.set k.1 (f k)) (c++d)=l.foldl (fun c k=>c.set k.1 (f k)) c++d:=by
 intro l
 induction l with
 | nil=>intro c d _;rfl
 | cons k l ih=>
  intro c d h
  simp only [List.foldl_cons]
  rw [List.set_append_left _ _ (h k (by simp))]
  exact ih _ _ (fun q hq=>by simpa using h q (List.mem_cons_of_mem _ hq))
theorem Qa7 {α:Type} (f:Nat×List UInt8→α) (i:Nat) (x:α):∀ (l:List (Nat×List UInt8)) (c:List α),(∀ k∈l,k.1≠i)→l.foldl (fun c k=>c.set k.1 (f k)) (c.set i x)=(l.foldl (fun c k=>c.set k.1 (f k)) c).set i x:=by
 intro l
 induction l with
 | nil=>intro c _;rfl
 | cons k l ih=>
  intro c h
  simp only [List.foldl_cons]
  rw [List.set_comm _ _ (fun e=>h k (by simp) e.symm)]
  exact ih _ (fun q hq=>h q (List.mem_cons_of_mem _ hq))
section
variable {B : List UInt8 → Nat} {s : CSt}
theorem Wf.lt (h:Wf s):∀ k∈s.calls,k.1 < s.code.length:=by
 intro k hk
 have:=h k hk
 by_cases hl:k.1 < s.code.length
 ·exact hl
 ·rw [List.getElem?_eq_none (by omega)] at this
  cases this
theorem Q34:(QM B s).length=s.code.length:=Q7n _ _ _
theorem Wf.put (h:Wf s) (x:Qj):Wf (putM x s):=by
 intro k hk
 have:=h k hk
 simp only [putM]
 rw [List.getElem?_append_left (h.lt k hk)]
 exact this
theorem Q1b (h:Wf s) (x:Qj):QM B (putM x s)=QM B s++[x]:=Q7o _ _ _ _ h.lt
theorem Wf.call (h:Wf s) (n:List UInt8):Wf (Q2k n s):=by
 intro k hk
 simp only [Q2k,List.mem_append,List.mem_singleton] at hk ⊢
 rcases hk with hk | rfl
 ·rw [List.getElem?_append_left (h.lt k hk)]
  exact h k hk
 ·simp
theorem Qaq (h:Wf s) (n:List UInt8):QM B (Q2k n s)=QM B s++[.call (B n)]:=by
 simp only [QM,Q2k,List.foldl_append,List.foldl_cons,List.foldl_nil]
 rw [Q7o _ _ _ _ h.lt]
 have e:=Q7n (fun k=>Qj.call (B k.2)) s.calls s.code
 rw [← e,List.set_append_right _ _ (Nat.le_refl _)]
 simp
def Open (s:CSt) (i:Nat):Prop:=∀ k∈s.calls,k.1≠i
theorem QdQ {i:Nat} {x:Qj} (h:Wf s) (hx:s.code[i]? = some x) (hn:x≠.call 0):Open s i:=by
 intro k hk e
 have:=h k hk
 rw [e,hx] at this
 cases this
 exact hn rfl
theorem Wf.set {i:Nat} (h:Wf s) (ho:Open s i) (x:Qj):Wf (setM i x s):=by
 intro k hk
 simp only [setM]
 rw [List.getElem?_set_ne (fun e=>ho k hk e.symm)]
 exact h k hk
theorem Q76 {i:Nat} (ho:Open s i) (x:Qj):QM B (setM i x s)=(QM B s).set i x:=Qa7 _ i x _ _ ho
def Q19 (B:List UInt8→Nat):Nat→Ty→List Qj
 | _,.named n _=>[.call (B n)]
 | _,.plain k=>[.num (QL k)]
 | _,.opaq n f=>[.text n f]
 | _,.str n f=>[.text n f]
 | p,.arr o n f=>.array n f (p + QS o + 2) :: (Q19 B (p + 1) o++[.again])
 | p,.opt o=>.choice (QL 4) [(0,p + 1 + QS o,0),(1,p + 1,1)] none :: Q19 B (p + 1) o
 | _,.void=>[]
theorem Q23 (B:List UInt8→Nat) (t:Ty):∀ p,(Q19 B p t).length=QS t:=by
 induction t with
 | arr o n f ih=>intro p;simp [Q19,QS,ih]
 | opt o ih=>intro p;simp [Q19,QS,ih]
 | _=>intro p;simp [Q19,QS]
structure Ext (s s':CSt):Prop where
 wf:Wf s'
 bo:s'.bodies=s.bodies
 en:s'.enums=s.enums
 len:s.code.length≤s'.code.length
 op:∀ i,i < s.code.length→Open s i→Open s' i
 old:∀ i,i < s.code.length→s'.code[i]? = s.code[i]?
theorem Ext.put (h:Wf s) (x:Qj):Ext s (putM x s):=⟨h.put x,rfl,rfl,by simp [putM],fun i _ ho=>ho,fun i hi=>by simp only [putM];rw [List.getElem?_append_left hi]⟩
theorem Ext.call (h:Wf s) (n:List UInt8):Ext s (Q2k n s):=by
 refine ⟨h.call n,rfl,rfl,by simp [Q2k],?_,fun i hi=>by simp only [Q2k];rw [List.getElem?_append_left hi]⟩
 intro i hi ho k hk
 simp only [Q2k,List.mem_append,List.mem_singleton] at hk
 rcases hk with hk | rfl
 ·exact ho k hk
 ·simp only
  omega
theorem Ext.trans {s1 s2:CSt} (h:Ext s s1) (k:Ext s1 s2):Ext s s2:=
 ⟨k.wf,k.bo.trans h.bo,k.en.trans h.en,Nat.le_trans h.len k.len,fun i hi ho=>k.op i (Nat.lt_of_lt_of_le hi h.len) (h.op i hi ho),fun i hi=>(k.old i (Nat.lt_of_lt_of_le hi h.len)).trans (h.old i hi)⟩
theorem Ext.set {s1:CSt} {i:Nat} (h:Ext s s1) (hi:s.code.length≤i) (ho:Open s1 i) (x:Qj):Ext s (setM i x s1):=
 ⟨h.wf.set ho x,h.bo,h.en,by simpa [setM] using h.len,h.op,fun j hj=>by simp only [setM];rw [List.getElem?_set_ne (by omega)];exact h.old j hj⟩
theorem Q7M (h:Wf s):Open (putM .hole s) s.code.length:=QdQ (h.put _) (x:=.hole) (by simp [putM]) (by simp)
theorem Q3K (B:List UInt8→Nat) (t:Ty):∀ (s:CSt),Wf s→QM B (QR t s)=QM B s++Q19 B s.code.length t∧Ext s (QR t s):=by
 induction t with
 | named n a=>intro s h;exact ⟨Qaq h n,Ext.call h n⟩
 | plain k=>intro s h;exact ⟨Q1b h _,Ext.put h _⟩
 | opaq n f=>intro s h;exact ⟨Q1b h _,Ext.put h _⟩
 | str n f=>intro s h;exact ⟨Q1b h _,Ext.put h _⟩
 | void=>intro s h;exact ⟨by simp [QR,Q19],h,rfl,rfl,Nat.le_refl _,fun _ _ ho=>ho,fun _ _=>rfl⟩
 | arr o n f ih=>
  intro s h
  have h1:=h.put .hole
  obtain ⟨i1,i2⟩:=ih (putM .hole s) h1
  have e1:(putM .hole s).code.length=s.code.length + 1:=by simp [putM]
  have op1:Open (QR o (putM .hole s)) s.code.length:=i2.op _ (by rw [e1];omega) (Q7M h)
  have ex:=(Ext.put h .hole).trans (i2.trans (Ext.put i2.wf .again))
  have op2:Open (putM .again (QR o (putM .hole s))) s.code.length:=op1
  refine ⟨?_,ex.set (Nat.le_refl _) op2 _⟩
  simp only [QR]
  rw [Q76 op2,Q1b i2.wf,i1,Q1b h,Q1L,e1]
  have hl:s.code.length=(QM B s).length:=Q34.symm
  rw [show QM B s++[Qj.hole]++Q19 B (s.code.length + 1) o++[Qj.again]=QM B s++(Qj.hole :: (Q19 B (s.code.length + 1) o++[Qj.again])) by simp]
  rw [List.set_append_right _ _ (by omega)]
  simp only [Q19,hl,Nat.sub_self,List.set_cons_zero]
  congr 3
  omega
 | opt o ih=>
  intro s h
  have h1:=h.put .hole
  obtain ⟨i1,i2⟩:=ih (putM .hole s) h1
  have e1:(putM .hole s).code.length=s.code.length + 1:=by simp [putM]
  have op1:Open (QR o (putM .hole s)) s.code.length:=i2.op _ (by rw [e1];omega) (Q7M h)
  have ex:=(Ext.put h .hole).trans i2
  refine ⟨?_,ex.set (Nat.le_refl _) op1 _⟩
  simp only [QR]
  rw [Q76 op1,i1,Q1b h,Q1L,e1]
  have hl:s.code.length=(QM B s).length:=Q34.symm
  rw [show QM B s++[Qj.hole]++Q19 B (s.code.length + 1) o=QM B s++(Qj.hole :: Q19 B (s.code.length + 1) o) by simp]
  rw [List.set_append_right _ _ (by omega)]
  simp only [Q19,hl,Nat.sub_self,List.set_cons_zero]
end
def Sub (c:List Qj) (p:Nat) (seg:List Qj):Prop:=∀ i x,seg[i]? = some x→c[p + i]? = some x
theorem Sub.app {c:List Qj} {p:Nat} {a b:List Qj} (h:Sub c p (a++b)):Sub c p a∧Sub c (p + a.length) b:=by
 refine ⟨fun i x hx=>h i x ?_,fun i x hx=>?_⟩
 ·have hi:i < a.length:=by
   by_cases hl:i < a.length
   ·exact hl
   ·rw [List.getElem?_eq_none (by omega)] at hx;cases hx
  rw [List.getElem?_append_left hi]
  exact hx
 ·rw [Nat.add_assoc]
  refine h (a.length + i) x ?_
  rw [List.getElem?_append_right (by omega)]
  simpa using hx
theorem Sub.cons {c:List Qj} {p:Nat} {x:Qj} {b:List Qj} (h:Sub c p (x :: b)):c[p]? = some x∧Sub c (p + 1) b:=by
 have h':Sub c p ([x]++b):=h
 obtain ⟨h1,h2⟩:=h'.app
 exact ⟨by simpa using h1 0 x (by simp),by simpa using h2⟩
theorem Sub.at {c pre seg post:List Qj} (h:c=pre++seg++post):Sub c pre.length seg:=by
 intro i x hx
 have hi:i < seg.length:=by
  by_cases hl:i < seg.length
  ·exact hl
  ·rw [List.getElem?_eq_none (by omega)] at hx;cases hx
 rw [h,List.append_assoc,List.getElem?_append_right (by omega)]
 rw [Nat.add_sub_cancel_left,List.getElem?_append_left hi]
 exact hx
def Q8a (E:Env) (t:Ty):Prop:=∀ m∈QV t,(E m.1).isSome
theorem QeM {c:List Qj} {B:List UInt8→Nat} {E:Env} (t:Ty):∀ (p:Nat),Q8a E t→Sub c p (Q19 B p t)→AtTy c B E p t:=by
 induction t with
 | named n a=>intro p hk h;exact ⟨h.cons.1,hk (n,a) (by simp [QV])⟩
 | plain k=>intro p _ h;exact h.cons.1
 | opaq n f=>intro p _ h;exact h.cons.1
 | str n f=>intro p _ h;exact h.cons.1
 | void=>intro p _ _;trivial
 | arr o n f ih=>
  intro p hk h
  obtain ⟨h1,h2⟩:=h.cons
  obtain ⟨h3,h4⟩:=h2.app
  rw [Q23] at h4
  exact ⟨h1,ih _ hk h3,h4.cons.1⟩
 | opt o ih=>
  intro p hk h
  obtain ⟨h1,h2⟩:=h.cons
  exact ⟨h1,ih _ hk h2⟩
def Q54 (B:List UInt8→Nat):Nat→List Ty→List Qj
 | _,[]=>[]
 | p,t :: ts=>Q19 B p t++Q54 B (p + QS t) ts
theorem QeN (B:List UInt8→Nat):∀ (ts:List Ty) (p:Nat),(Q54 B p ts).length=Q4O ts:=by
 intro ts
 induction ts with
 | nil=>intro p;rfl
 | cons t ts ih=>intro p;simp [Q54,Q4O,Q23,ih]
theorem QkF {c:List Qj} {B:List UInt8→Nat} {E:Env}:∀ (ts:List Ty) (p:Nat),(∀ t∈ts,Q8a E t)→Sub c p (Q54 B p ts)→Qb9 c B E p ts:=by
 intro ts
 induction ts with
 | nil=>intro p _ _;trivial
 | cons t ts ih=>
  intro p hk h
  obtain ⟨h1,h2⟩:=h.app
  rw [Q23] at h2
  exact ⟨QeM t p (hk t (by simp)) h1,ih _ (fun t ht=>hk t (List.mem_cons_of_mem _ ht)) h2⟩
theorem Qc5 (B:List UInt8→Nat):∀ (ts:List Ty) (s:CSt),Wf s→QM B (ts.foldl (fun s t=>QR t s) s)=QM B s++Q54 B s.code.length ts∧Ext s (ts.foldl (fun s t=>QR t s) s):=by
 intro ts
 induction ts with
 | nil=>intro s h;exact ⟨by simp [Q54],h,rfl,rfl,Nat.le_refl _,fun _ _ ho=>ho,fun _ _=>rfl⟩
 | cons t ts ih=>
  intro s h
  obtain ⟨h1,h2⟩:=Q3K B t s h
  obtain ⟨h3,h4⟩:=ih _ h2.wf
  refine ⟨?_,h2.trans h4⟩
  simp only [List.foldl_cons]
  rw [h3,h1,Q1L]
  simp [Q54]
abbrev Q2w (a:List Int×Qr):Nat:=QS a.2.ty + 1
def Q0k (az:List (List Int×Qr)):Nat:=(az.map Q2w).sum
def Q0s (B:List UInt8→Nat) (e:Nat):Nat→List (List Int×Qr)→List Qj
 | _,[]=>[]
 | p,a :: az=>Q19 B p a.2.ty++(.jump e :: Q0s B e (p + Q2w a) az)
def Q3x:Nat→List (List Int×Qr)→List Nat
 | _,[]=>[]
 | p,a :: az=>(p + QS a.2.ty) :: Q3x (p + Q2w a) az
theorem Q6s (B:List UInt8→Nat) (e:Nat):∀ (az:List (List Int×Qr)) (p:Nat),(Q0s B e p az).length=Q0k az:=by
 intro az
 induction az with
 | nil=>intro p;rfl
 | cons a az ih=>intro p;have:=ih (p + Q2w a);simp only [Q0s,Q0k,List.length_append,Q23,List.length_cons,List.map_cons,List.sum_cons] at this ⊢;rw [this];simp only [Q2w];omega
theorem Qc6 (B:List UInt8→Nat) (e:Nat) (a:List Int×Qr):∀ (az:List (List Int×Qr)) (p:Nat),Q0s B e p (az++[a])=Q0s B e p az++(Q19 B (p + Q0k az) a.2.ty++[.jump e]):=by
 intro az
 induction az with
 | nil=>intro p;simp [Q0s,Q0k]
 | cons b az ih=>
  intro p
  simp only [List.cons_append,Q0s,ih,List.append_assoc]
  rw [show p + Q2w b + Q0k az=p + Q0k (b :: az) by simp [Q0k];omega]
theorem Qdf (a:List Int×Qr):∀ (az:List (List Int×Qr)) (p:Nat),Q3x p (az++[a])=Q3x p az++[p + Q0k az + QS a.2.ty]:=by
 intro az
 induction az with
 | nil=>intro p;simp [Q3x,Q0k]
 | cons b az ih=>
  intro p
  simp only [List.cons_append,Q3x,ih]
  rw [show p + Q2w b + Q0k az=p + Q0k (b :: az) by simp [Q0k];omega]
theorem QkG {c:List Qj} {B:List UInt8→Nat} {e:Nat} {a:List Int×Qr}:∀ (as1 as2:List (List Int×Qr)) (p:Nat),Sub c p (Q0s B e p (as1++a :: as2))→Sub c (p + Q0k as1) (Q19 B (p + Q0k as1) a.2.ty)∧c[p + Q0k as1 + QS a.2.ty]? = some (.jump e):=by
 intro as1
 induction as1 with
 | nil=>
  intro as2 p h
  simp only [List.nil_append,Q0s] at h
  obtain ⟨h1,h2⟩:=h.app
  rw [Q23] at h2
  exact ⟨by simpa [Q0k] using h1,by simpa [Q0k] using h2.cons.1⟩
 | cons b as1 ih=>
  intro as2 p h
  simp only [List.cons_append,Q0s] at h
  have h2:=h.app.2.cons.2
  rw [Q23] at h2
  have:=ih as2 (p + Q2w b) (by simpa [Nat.add_assoc] using h2)
  rw [show p + Q2w b + Q0k as1=p + Q0k (b :: as1) by simp [Q0k];omega] at this
  exact this
theorem Q35 {κ α:Type} [DecidableEq κ] (v:α) (n k:κ) (ws:List (κ×α)):QI (mput ws k v) n=if n=k then some v else QI ws n:=by
 unfold mput
 split
 ·rename_i hin
  induction ws with
  | nil=>simp at hin
  | cons q ws ih=>
   by_cases hq:q.1=k
   ·by_cases hn:n=k
    ·subst hn;simp [QI,hq]
    ·have hrest:QI (ws.map fun p=>if p.1=k then (k,v) else p) n=QI ws n:=by
      clear ih hin
      induction ws with
      | nil=>rfl
      | cons r ws ih2=>
       unfold QI at ih2 ⊢
       simp only [List.map_cons,List.find?_cons]
       by_cases hr:r.1=k
       ·have h1:(k == n)=false:=by simpa using fun e=>hn e.symm
        have h2:(r.1 == n)=false:=by rw [hr];exact h1
        simp only [hr,if_true,h1]
        exact ih2
       ·simp only [hr,if_false]
        split
        ·rfl
        ·exact ih2
     have h1:(k == n)=false:=by simpa using fun e=>hn e.symm
     have h2:(q.1 == n)=false:=by rw [hq];exact h1
     unfold QI at hrest ⊢
     simp only [List.map_cons,List.find?_cons,hq,if_true,h1,if_neg hn]
     exact hrest
   ·have hin':k∈ws.map (·.1):=by
     simp only [List.map_cons,List.mem_cons] at hin
     rcases hin with h | h
     ·exact absurd h.symm hq
     ·exact h
    have:=ih hin'
    unfold QI at this ⊢
    simp only [List.map_cons,List.find?_cons,hq,if_false]
    by_cases hqn:q.1=n
    ·have:n≠k:=fun e=>hq (hqn.trans e)
     simp [hqn,this]
    ·have h2:(q.1 == n)=false:=by simpa using hqn
     simp only [h2]
     exact this
 ·rename_i hin
  by_cases hn:n=k
  ·subst hn
   have:ws.find? (fun p=>p.1 == n)=none:=List.find?_eq_none.2 (fun p hp=>by simp;exact fun e=>hin (e ▸ List.mem_map_of_mem hp))
   simp [QI,List.find?_append,this]
  ·have h1:(k == n)=false:=by simpa using fun e=>hn e.symm
   simp [QI,List.find?_append,h1,hn]
theorem Qgh {n:Int} (v:Nat×Nat):∀ (l:List Int) (ws:List (Int×Nat×Nat)),QI (l.foldl (fun l k=>mput l k v) ws) n=if l.contains n then some v else QI ws n:=by
 intro l
 induction l with
 | nil=>intro ws;simp
 | cons k l ih=>
  intro ws
  simp only [List.foldl_cons]
  rw [ih,Q35]
  by_cases hl:l.contains n=true
  ·have:(k :: l).contains n=true:=by simp at hl ⊢;exact Or.inr hl
   rw [if_pos hl,if_pos this]
  ·rw [if_neg hl]
   by_cases hk:n=k
   ·have:(k :: l).contains n=true:=by simp [hk]
    rw [if_pos hk,if_pos this]
   ·have:¬ (k :: l).contains n=true:=by simp at hl ⊢;exact ⟨hk,hl⟩
    rw [if_neg hk,if_neg this]
def Q36 (p:Nat) (az:List (List Int×Qr)) (f:List Int×Qr→Bool) (w:Option (Nat×Nat)):Prop:=
 match az.reverse.find? f with
 | none=>w=none
 | some a=>∃ as1 as2,az=as1++a :: as2∧w=some (p + Q0k as1,if Q3d a.2.ty then 0 else 1)
theorem Q9A {p:Nat} {az:List (List Int×Qr)} {f:List Int×Qr→Bool} {w:Option (Nat×Nat)} (h:Q36 p az f w) (a:List Int×Qr):Q36 p (az++[a]) f (if f a then some (p + Q0k az,if Q3d a.2.ty then 0 else 1) else w):=by
 unfold Q36 at h ⊢
 rw [List.reverse_append,List.reverse_singleton,List.singleton_append,List.find?_cons]
 cases hf:f a with
 | true=>exact ⟨az,[],rfl,rfl⟩
 | false=>
  simp only [Bool.false_eq_true,if_false]
  cases hg:az.reverse.find? f with
  | none=>rw [hg] at h;exact h
  | some b=>
   rw [hg] at h
   obtain ⟨as1,as2,h1,h2⟩:=h
   exact ⟨as1,as2++[a],by rw [h1];simp,h2⟩
theorem Qgi (B:List UInt8→Nat) (q0:USt) (h0:Wf q0.s) (hw:q0.ways=[]) (ho:q0.other=none) (he:q0.ends=[]):∀ (n:Nat) (az:List (List Int×Qr)),az.length=n →
  QM B (az.foldl uArm q0).s=QM B q0.s++Q0s B 0 q0.s.code.length az∧Ext q0.s (az.foldl uArm q0).s∧(az.foldl uArm q0).ends=Q3x q0.s.code.length az ∧
  (∀ n,Q36 q0.s.code.length az (fun a=>a.1.contains n) (QI (az.foldl uArm q0).ways n))∧Q36 q0.s.code.length az (fun a=>a.1.isEmpty) (az.foldl uArm q0).other:=by
 intro n
 induction n with
 | zero=>
  intro az hl
  have:az=[]:=List.length_eq_zero_iff.1 hl
  subst this
  exact ⟨by simp [Q0s],⟨h0,rfl,rfl,Nat.le_refl _,fun _ _ ho=>ho,fun _ _=>rfl⟩,by simp [Q3x,he],fun n=>by simp [Q36,hw,QI],by simp [Q36,ho]⟩
 | succ n ih=>
  intro az hl
  have hne:az≠[]:=by intro e;subst e;simp at hl
  obtain ⟨az',a,rfl⟩:∃ az' a,az=az'++[a]:=⟨az.dropLast,az.getLast hne,(List.dropLast_concat_getLast hne).symm⟩
  obtain ⟨h1,h2,h3,h4,h5⟩:=ih az' (by simpa using hl)
  have hlen:(az'.foldl uArm q0).s.code.length=q0.s.code.length + Q0k az':=by
   have:=congrArg List.length h1
   rw [Q34,List.length_append,Q34,Q6s] at this
   exact this
  obtain ⟨v1,v2⟩:=Q3K B a.2.ty (az'.foldl uArm q0).s h2.wf
  have vl:=Q1L a.2.ty (az'.foldl uArm q0).s
  simp only [List.foldl_append,List.foldl_cons,List.foldl_nil]
  refine ⟨?_,?_,?_,?_,?_⟩
  ·simp only [uArm,armM]
   rw [Q1b v2.wf,v1,h1,Qc6,hlen]
   simp
  ·exact h2.trans (v2.trans (Ext.put v2.wf _))
  ·simp only [uArm,armM]
   rw [h3,Qdf,vl,hlen]
  ·intro k
   simp only [uArm]
   rw [Qgh]
   have:=Q9A (h4 k) a
   simp only [wayM,hlen]
   exact this
  ·simp only [uArm]
   have:=Q9A h5 a
   simp only [wayM,hlen]
   by_cases hc:a.1=[]
   ·simpa [hc] using this
   ·have hb:a.1.isEmpty=false:=by simpa using hc
    simpa [hc,hb] using this
theorem Qgj (B:List UInt8→Nat) (e:Nat):∀ (az:List (List Int×Qr)) (pre post:List Qj) ,(Q3x pre.length az).foldl (fun c i=>c.set i (.jump e)) (pre++(Q0s B 0 pre.length az++post))=pre++(Q0s B e pre.length az++post):=by
 intro az
 induction az with
 | nil=>intro pre post;rfl
 | cons a az ih=>
  intro pre post
  simp only [Q3x,Q0s,List.foldl_cons]
  have e1:(pre++(Q19 B pre.length a.2.ty++Qj.jump 0 :: Q0s B 0 (pre.length + Q2w a) az++post)).set (pre.length + QS a.2.ty) (.jump e)=(pre++Q19 B pre.length a.2.ty++[Qj.jump e])++(Q0s B 0 (pre.length + Q2w a) az++post):=by
   rw [show pre++(Q19 B pre.length a.2.ty++Qj.jump 0 :: Q0s B 0 (pre.length + Q2w a) az++post)=(pre++Q19 B pre.length a.2.ty)++(Qj.jump 0 :: (Q0s B 0 (pre.length + Q2w a) az++post)) by simp]
   rw [List.set_append_right _ _ (by simp [Q23])]
   simp [Q23]
  rw [e1]
  have hl:(pre++Q19 B pre.length a.2.ty++[Qj.jump e]).length=pre.length + Q2w a:=by simp [Q23,Nat.add_assoc]
  have:=ih (pre++Q19 B pre.length a.2.ty++[Qj.jump e]) post
  rw [hl] at this
  rw [this]
  simp
theorem Qgk (l:List Nat):∀ (s:CSt),(Q1Q l s).code=l.foldl (fun c i=>c.set i (.jump s.code.length)) s.code∧(Q1Q l s).calls=s.calls∧(Q1Q l s).bodies=s.bodies∧(Q1Q l s).enums=s.enums:=by
 induction l with
 | nil=>intro s;exact ⟨rfl,rfl,rfl,rfl⟩
 | cons i l ih=>
  intro s
  obtain ⟨h1,h2,h3,h4⟩:=ih (setM i (.jump s.code.length) s)
  have e:(setM i (.jump s.code.length) s).code.length=s.code.length:=by simp [setM]
  rw [e] at h1
  exact ⟨h1,h2,h3,h4⟩
theorem QeO (B:List UInt8→Nat) (l:List Nat):∀ (s:CSt),(∀ i∈l,Open s i)→QM B (Q1Q l s)=l.foldl (fun c i=>c.set i (.jump s.code.length)) (QM B s):=by
 induction l with
 | nil=>intro s _;rfl
 | cons i l ih=>
  intro s h
  have e:(setM i (.jump s.code.length) s).code.length=s.code.length:=by simp [setM]
  have:=ih (setM i (.jump s.code.length) s) (fun j hj=>h j (List.mem_cons_of_mem _ hj))
  rw [e,Q76 (h i (by simp))] at this
  exact this
theorem Qgl (l:List Nat):∀ (s0 s:CSt),Ext s0 s→(∀ i∈l,s0.code.length≤i)→(∀ i∈l,Open s i)→Ext s0 (Q1Q l s):=by
 induction l with
 | nil=>intro s0 s h _ _;exact h
 | cons i l ih=>
  intro s0 s h h1 h2
  exact ih s0 _ (h.set (h1 i (by simp)) (h2 i (by simp)) _) (fun j hj=>h1 j (List.mem_cons_of_mem _ hj)) (fun j hj=>h2 j (List.mem_cons_of_mem _ hj))
theorem Qgm:∀ (az:List (List Int×Qr)) (p:Nat),∀ i∈Q3x p az,p≤i:=by
 intro az
 induction az with
 | nil=>intro p i hi;cases hi
 | cons a az ih=>
  intro p i hi
  simp only [Q3x,List.mem_cons] at hi
  rcases hi with rfl | hi
  ·omega
  ·have:=ih _ i hi
   omega
theorem Qgn (q0:USt) (h0:Wf q0.s) (he:q0.ends=[]):∀ (n:Nat) (az:List (List Int×Qr)),az.length=n→Wf (az.foldl uArm q0).s∧∀ i∈(az.foldl uArm q0).ends,(az.foldl uArm q0).s.code[i]? = some (.jump 0):=by
 intro n
 induction n with
 | zero=>
  intro az hl
  have:az=[]:=List.length_eq_zero_iff.1 hl
  subst this
  exact ⟨h0,by intro i hi;simp [he] at hi⟩
 | succ n ih=>
  intro az hl
  have hne:az≠[]:=by intro e;subst e;simp at hl
  obtain ⟨az',a,rfl⟩:∃ az' a,az=az'++[a]:=⟨az.dropLast,az.getLast hne,(List.dropLast_concat_getLast hne).symm⟩
  obtain ⟨h1,h2⟩:=ih az' (by simpa using hl)
  obtain ⟨_,v2⟩:=Q3K (fun _=>0) a.2.ty (az'.foldl uArm q0).s h1
  simp only [List.foldl_append,List.foldl_cons,List.foldl_nil]
  refine ⟨v2.wf.put _,?_⟩
  intro i hi
  simp only [uArm,List.mem_append,List.mem_singleton] at hi ⊢
  rcases hi with hi | rfl
  ·have hl:i < (az'.foldl uArm q0).s.code.length:=by
    by_cases hl:i < (az'.foldl uArm q0).s.code.length
    ·exact hl
    ·have:=h2 i hi
     rw [List.getElem?_eq_none (by omega)] at this
     cases this
   simp only [putM,armM]
   rw [List.getElem?_append_left (Nat.lt_of_lt_of_le hl v2.len),v2.old i hl]
   exact h2 i hi
  ·simp [putM,armM]
theorem Q9B (B:List UInt8→Nat) (sel:Qr) (arms:List (List Int×Qr)) (s:CSt) (h:Wf s) :
  ∃ ws o,QM B (Q3T sel arms s)=QM B s++(.choice (Q0m s sel.ty) ws o :: Q0s B (s.code.length + 1 + Q0k arms) (s.code.length + 1) arms)∧Ext s (Q3T sel arms s) ∧
   (∀ n,Q36 (s.code.length + 1) arms (fun a=>a.1.contains n) (QI ws n))∧Q36 (s.code.length + 1) arms (fun a=>a.1.isEmpty) o:=by
 have h1:=h.put .hole
 have e1:(putM .hole s).code.length=s.code.length + 1:=by simp [putM]
 obtain ⟨a1,a2,a3,a4,a5⟩:=Qgi B ⟨putM .hole s,[],none,[]⟩ h1 rfl rfl rfl arms.length arms rfl
 obtain ⟨_,b2⟩:=Qgn ⟨putM .hole s,[],none,[]⟩ h1 rfl arms.length arms rfl
 simp only [e1] at a1 a2 a3 a4 a5
 have op1:Open (arms.foldl uArm ⟨putM .hole s,[],none,[]⟩).s s.code.length:=a2.op _ (by rw [e1];omega) (Q7M h)
 have hq:(arms.foldl uArm ⟨putM .hole s,[],none,[]⟩).s.code.length=s.code.length + 1 + Q0k arms:=by
  have:=congrArg List.length a1
  rw [Q34,List.length_append,Q34,Q6s,e1] at this
  exact this
 have hge:∀ i∈(arms.foldl uArm ⟨putM .hole s,[],none,[]⟩).ends,s.code.length + 1≤i:=by
  intro i hi
  rw [a3] at hi
  exact Qgm _ _ i hi
 have exs:=((Ext.put h .hole).trans a2).set (Nat.le_refl _) op1 (.choice (Q0m s sel.ty) (arms.foldl uArm ⟨putM .hole s,[],none,[]⟩).ways (arms.foldl uArm ⟨putM .hole s,[],none,[]⟩).other)
 have hop:∀ i∈(arms.foldl uArm ⟨putM .hole s,[],none,[]⟩).ends,Open (setM s.code.length (.choice (Q0m s sel.ty) (arms.foldl uArm ⟨putM .hole s,[],none,[]⟩).ways (arms.foldl uArm ⟨putM .hole s,[],none,[]⟩).other) (arms.foldl uArm ⟨putM .hole s,[],none,[]⟩).s) i:=by
  intro i hi
  have h':Open (arms.foldl uArm ⟨putM .hole s,[],none,[]⟩).s i:=QdQ a2.wf (b2 i hi) (by simp)
  exact h'
 refine ⟨_,_,?_,Qgl _ _ _ exs (fun i hi=>by have:=hge i hi;omega) hop,a4,a5⟩
 simp only [Q3T]
 rw [QeO B _ _ hop,Q76 op1,a1,Q1b h,a3]
 have hs:(setM s.code.length (.choice (Q0m s sel.ty) (arms.foldl uArm ⟨putM .hole s,[],none,[]⟩).ways (arms.foldl uArm ⟨putM .hole s,[],none,[]⟩).other) (arms.foldl uArm ⟨putM .hole s,[],none,[]⟩).s).code.length=s.code.length + 1 + Q0k arms:=by simp [setM,hq]
 rw [hs]
 have hl:s.code.length=(QM B s).length:=Q34.symm
 have e2:(QM B s++[Qj.hole]++Q0s B 0 (s.code.length + 1) arms).set s.code.length (.choice (Q0m s sel.ty) (arms.foldl uArm ⟨putM .hole s,[],none,[]⟩).ways (arms.foldl uArm ⟨putM .hole s,[],none,[]⟩).other)=(QM B s++[Qj.choice (Q0m s sel.ty) (arms.foldl uArm ⟨putM .hole s,[],none,[]⟩).ways (arms.foldl uArm ⟨putM .hole s,[],none,[]⟩).other])++(Q0s B 0 (s.code.length + 1) arms++[]):=by
  rw [show QM B s++[Qj.hole]++Q0s B 0 (s.code.length + 1) arms=QM B s++(Qj.hole :: Q0s B 0 (s.code.length + 1) arms) by simp]
  rw [List.set_append_right _ _ (by omega)]
  simp [hl]
 rw [e2]
 have hl2:(QM B s++[Qj.choice (Q0m s sel.ty) (arms.foldl uArm ⟨putM .hole s,[],none,[]⟩).ways (arms.foldl uArm ⟨putM .hole s,[],none,[]⟩).other]).length=s.code.length + 1:=by simp [hl]
 have:=Qgj B (s.code.length + 1 + Q0k arms) arms (QM B s++[Qj.choice (Q0m s sel.ty) (arms.foldl uArm ⟨putM .hole s,[],none,[]⟩).ways (arms.foldl uArm ⟨putM .hole s,[],none,[]⟩).other]) []
 rw [hl2] at this
 rw [this]
 simp
def Q8U (E:Env) (d:DefL):Prop:=∀ t∈Q4D d,Q8a E t
def QkW (E:Env) (s:CSt):DefL→Prop
 | .union _ _ sel _=>Q0m s sel.ty=selD E sel.ty
 | _=>True
theorem Qgo {arms:List (List Int×Qr)} {p:Nat} {ws:List (Int×Nat×Nat)} {o:Option (Nat×Nat)} {c:List Qj} {B:List UInt8→Nat} {E:Env} {e:Nat}
  (h1:∀ n,Q36 p arms (fun a=>a.1.contains n) (QI ws n)) (h2:Q36 p arms (fun a=>a.1.isEmpty) o) (hs:Sub c p (Q0s B e p arms)) (hk:∀ a∈arms,Q8a E a.2.ty) (n:Int) :
  match Q2l arms n with
    | none=>QI ws n=none∧o=none
    | some t=>∃ q,(match QI ws n with | some q=>some q | none=>o)=some q∧q.2=(if Q3d t then 0 else 1)∧AtTy c B E q.1 t∧c[q.1 + QS t]? = some (.jump e):=by
 have h3:=h1 n
 have key:∀ (f:List Int×Qr→Bool) (w:Option (Nat×Nat)) (a:List Int×Qr),arms.reverse.find? f=some a→Q36 p arms f w→∃ q,w=some q∧q.2=(if Q3d a.2.ty then 0 else 1)∧AtTy c B E q.1 a.2.ty∧c[q.1 + QS a.2.ty]? = some (.jump e):=by
  intro f w a hf hw
  unfold Q36 at hw
  rw [hf] at hw
  obtain ⟨as1,as2,ha,hq⟩:=hw
  refine ⟨_,hq,rfl,?_⟩
  rw [ha] at hs
  obtain ⟨g1,g2⟩:=QkG as1 as2 p hs
  exact ⟨QeM _ _ (hk a (by rw [ha];simp)) g1,g2⟩
 unfold Q2l
 cases hf:arms.reverse.find? (fun a=>a.1.contains n) with
 | some a=>
  obtain ⟨q,g1,g2⟩:=key _ _ a hf h3
  exact ⟨q,by rw [g1],g2⟩
 | none=>
  unfold Q36 at h3
  rw [hf] at h3
  simp only [h3]
  cases hg:arms.reverse.find? (fun a=>a.1.isEmpty) with
  | none=>
   unfold Q36 at h2
   rw [hg] at h2
   exact ⟨trivial,h2⟩
  | some a=>
   obtain ⟨q,g1,g2⟩:=key _ _ a hg h2
   exact ⟨q,g1,g2⟩
theorem Qc7 (B:List UInt8→Nat) (d:DefL) (s:CSt) (h:Wf s) (ht:Q0w d=true) :
  ∃ seg,QM B (QO d s)=QM B s++seg∧Wf (QO d s)∧(QO d s).bodies=mput s.bodies (Qz d).1 s.code.length ∧
   (∀ (c:List Qj) (E:Env),Sub c s.code.length seg→Q8U E d→QkW E s d→QeK c B E s.code.length d):=by
 cases d with
 | const t a v=>simp [Q0w] at ht
 | prog t a v n=>simp [Q0w] at ht
 | typedef d=>
  obtain ⟨h1,h2⟩:=Q3K B d.ty s h
  refine ⟨Q19 B s.code.length d.ty++[.ret],?_,h2.wf.put _,?_,?_⟩
  ·have:=Q1b (B:=B) h2.wf .ret
   simp only [QO,Q30]
   show QM B (putM .ret (QR d.ty s))=_
   rw [this,h1]
   simp
  ·simp only [QO,Q30,h2.bo]
   rfl
  ·intro c E hs hk _
   obtain ⟨g1,g2⟩:=hs.app
   rw [Q23] at g2
   exact ⟨QeM _ _ (hk d.ty (by simp [Q4D])) g1,g2.cons.1⟩
 | enum t a ms=>
  have h1:Wf { s with enums:=mput s.enums t (Q0o ms) }:=h
  refine ⟨[.num (Q0o ms),.ret],?_,(h1.put _).put _,rfl,?_⟩
  ·simp only [QO,Q30]
   show QM B (putM .ret (putM (.num (Q0o ms)) { s with enums:=mput s.enums t (Q0o ms) }))=_
   rw [Q1b (h1.put _),Q1b h1]
   show QM B s++[_]++[_]=_
   simp
  ·intro c E hs _ _
   exact ⟨hs.cons.1,hs.cons.2.cons.1⟩
 | struct t a ms=>
  have e1:(putM (.struct ms.length true) s).code.length=s.code.length + 1:=by simp [putM]
  obtain ⟨h1,h2⟩:=Qc5 B (ms.map (·.ty)) (putM (.struct ms.length true) s) (h.put _)
  have ef:Q1K ms s=(ms.map (·.ty)).foldl (fun s t=>QR t s) (putM (.struct ms.length true) s):=by
   simp only [Q1K,List.foldl_map]
  rw [e1] at h1
  have ex:=(Ext.put h (.struct ms.length true)).trans h2
  refine ⟨.struct ms.length true :: (Q54 B (s.code.length + 1) (ms.map (·.ty))++[.ret]),?_,?_,?_,?_⟩
  ·simp only [QO,Q30]
   show QM B (putM .ret (Q1K ms s))=_
   rw [ef,Q1b h2.wf,h1,Q1b h]
   simp
  ·show Wf (putM .ret (Q1K ms s))
   rw [ef]
   exact h2.wf.put _
  ·simp only [QO,Q30]
   rw [ef,ex.bo]
   rfl
  ·intro c E hs hk _
   obtain ⟨g1,g2⟩:=hs.cons
   obtain ⟨g3,g4⟩:=g2.app
   rw [QeN] at g4
   exact ⟨g1,QkF _ _ hk g3,g4.cons.1⟩
 | union t a sel arms=>
  obtain ⟨ws,o,h1,h2,h3,h4⟩:=Q9B B sel arms s h
  refine ⟨.choice (Q0m s sel.ty) ws o :: (Q0s B (s.code.length + 1 + Q0k arms) (s.code.length + 1) arms++[.ret]),?_,?_,?_,?_⟩
  ·simp only [QO,Q30]
   show QM B (putM .ret (Q3T sel arms s))=_
   rw [Q1b h2.wf,h1]
   simp
  ·exact h2.wf.put _
  ·simp only [QO,Q30,h2.bo]
   rfl
  ·intro c E hs hk hsel
   obtain ⟨g1,g2⟩:=hs.cons
   obtain ⟨g3,g4⟩:=g2.app
   rw [Q6s] at g4
   have hsel':Q0m s sel.ty=selD E sel.ty:=hsel
   rw [hsel'] at g1
   exact ⟨ws,o,s.code.length + 1 + Q0k arms,g1,g4.cons.1,Qgo h3 h4 g3 (fun a ha=>hk _ (by simp [Q4D];exact ⟨_,_,ha,rfl⟩))⟩
theorem Qgp (d:DefL) (s:CSt) (h:Wf s) (n:List UInt8):QI (QO d s).enums n=match d with
  | .enum t _ ms=>if n=t then some (Q0o ms) else QI s.enums n
  | _=>QI s.enums n:=by
 cases d with
 | enum t a ms=>exact Q35 _ _ _ _
 | const t a v=>rfl
 | prog t a v n=>rfl
 | typedef d=>simp only [QO,Q30,putM,(Q3K (fun _=>0) d.ty s h).2.en]
 | struct t a ms=>
  have ef:Q1K ms s=(ms.map (·.ty)).foldl (fun s t=>QR t s) (putM (.struct ms.length true) s):=by simp only [Q1K,List.foldl_map]
  simp only [QO,Q30,putM,ef]
  have:=((Ext.put h (.struct ms.length true)).trans (Qc5 (fun _=>0) (ms.map (·.ty)) (putM (.struct ms.length true) s) (h.put _)).2).en
  simp only [putM] at this
  rw [this]
 | union t a sel arms=>
  obtain ⟨ws,o,_,h2,_⟩:=Q9B (fun _=>0) sel arms s h
  simp only [QO,Q30,putM,h2.en]
def QN (ds:List DefL):CSt:=ds.foldl (fun s d=>QO d s) st0C
theorem Q3y (ds:List DefL) (d:DefL):QN (ds++[d])=QO d (QN ds):=by simp [QN]
theorem Q5W {d:DefL} (h:Q0w d=false) (s:CSt):QO d s=s:=by cases d<;>simp [Q0w] at h<;>rfl
theorem Q8V (B:List UInt8→Nat):∀ (k:Nat) (ds:List DefL),ds.length=k →
  Wf (QN ds)∧(∀ n,(∀ d∈ds,Q0w d=true→(Qz d).1≠n)→QI (QN ds).bodies n=none) ∧
  (∀ az d bs,ds=az++d :: bs→Q0w d=true→(∀ e∈bs,Q0w e=true→(Qz e).1≠(Qz d).1)→QI (QN ds).bodies (Qz d).1=some (QN az).code.length) ∧
  (∀ az bs,ds=az++bs→∃ post,QM B (QN ds)=QM B (QN az)++post) ∧
  (∀ az t a ms bs,ds=az++DefL.enum t a ms :: bs→(∀ e∈bs,Q0w e=true→(Qz e).1≠t)→QI (QN ds).enums t=some (Q0o ms)):=by
 intro k
 induction k with
 | zero=>
  intro ds hl
  have:ds=[]:=List.length_eq_zero_iff.1 hl
  subst this
  refine ⟨(by intro k hk;cases hk),fun n _=>rfl,?_,?_,?_⟩
  ·intro az d bs h;simp at h
  ·intro az bs h
   have:az=[]:=by simp at h;exact h.1
   subst this
   exact ⟨[],by simp⟩
  ·intro az t a ms bs h;simp at h
 | succ k ih=>
  intro ds hl
  have hne:ds≠[]:=by intro e;subst e;simp at hl
  obtain ⟨ds',z,rfl⟩:∃ ds' z,ds=ds'++[z]:=⟨ds.dropLast,ds.getLast hne,(List.dropLast_concat_getLast hne).symm⟩
  obtain ⟨h1,h2,h3,h4,h5⟩:=ih ds' (by simpa using hl)
  rw [Q3y]
  have split:∀ (az:List DefL) (d:DefL) (bs:List DefL),ds'++[z]=az++d :: bs→(bs=[]∧d=z∧az=ds')∨∃ bs',bs=bs'++[z]∧ds'=az++d :: bs':=by
   intro az d bs h
   by_cases hb:bs=[]
   ·subst hb
    obtain ⟨e1,e2⟩:=List.append_inj' h rfl
    simp at e2
    exact Or.inl ⟨rfl,e2.symm,e1.symm⟩
   ·obtain ⟨bs',y,rfl⟩:∃ bs' y,bs=bs'++[y]:=⟨bs.dropLast,bs.getLast hb,(List.dropLast_concat_getLast hb).symm⟩
    have h':ds'++[z]=(az++d :: bs')++[y]:=by rw [h];simp
    obtain ⟨e1,e2⟩:=List.append_inj' h' rfl
    simp at e2
    exact Or.inr ⟨bs',by rw [e2],e1⟩
  cases hz:Q0w z with
  | false=>
   rw [Q5W hz]
   refine ⟨h1,?_,?_,?_,?_⟩
   ·intro n hn
    exact h2 n (fun d hd=>hn d (List.mem_append_left _ hd))
   ·intro az d bs h ht hb
    rcases split az d bs h with ⟨_,rfl,_⟩ | ⟨bs',rfl,h'⟩
    ·rw [hz] at ht;cases ht
    ·exact h3 az d bs' h' ht (fun e he=>hb e (List.mem_append_left _ he))
   ·intro az bs h
    by_cases hb:bs=[]
    ·subst hb
     refine ⟨[],?_⟩
     simp at h
     rw [← h,Q3y,Q5W hz]
     simp
    ·obtain ⟨bs',y,rfl⟩:∃ bs' y,bs=bs'++[y]:=⟨bs.dropLast,bs.getLast hb,(List.dropLast_concat_getLast hb).symm⟩
     have h':ds'++[z]=(az++bs')++[y]:=by rw [h];simp
     obtain ⟨e1,_⟩:=List.append_inj' h' rfl
     exact h4 az bs' e1
   ·intro az t a ms bs h hb
    rcases split az _ bs h with ⟨_,rfl,_⟩ | ⟨bs',rfl,h'⟩
    ·simp [Q0w] at hz
    ·exact h5 az t a ms bs' h' (fun e he=>hb e (List.mem_append_left _ he))
  | true=>
   obtain ⟨seg,g1,g2,g3,g4⟩:=Qc7 B z (QN ds') h1 hz
   refine ⟨g2,?_,?_,?_,?_⟩
   ·intro n hn
    rw [g3,Q35,if_neg (fun e=>hn z (by simp) hz e.symm)]
    exact h2 n (fun d hd=>hn d (List.mem_append_left _ hd))
   ·intro az d bs h ht hb
    rw [g3,Q35]
    rcases split az d bs h with ⟨_,rfl,rfl⟩ | ⟨bs',rfl,h'⟩
    ·rw [if_pos rfl]
    ·rw [if_neg (fun e=>hb z (by simp) hz e.symm)]
     exact h3 az d bs' h' ht (fun e he=>hb e (List.mem_append_left _ he))
   ·intro az bs h
    by_cases hb:bs=[]
    ·subst hb
     refine ⟨[],?_⟩
     simp at h
     rw [← h,Q3y]
     simp
    ·obtain ⟨bs',y,rfl⟩:∃ bs' y,bs=bs'++[y]:=⟨bs.dropLast,bs.getLast hb,(List.dropLast_concat_getLast hb).symm⟩
     have h':ds'++[z]=(az++bs')++[y]:=by rw [h];simp
     obtain ⟨e1,_⟩:=List.append_inj' h' rfl
     obtain ⟨post,hp⟩:=h4 az bs' e1
     exact ⟨post++seg,by rw [g1,hp];simp⟩
   ·intro az t a ms bs h hb
    rw [Qgp z _ h1]
    rcases split az _ bs h with ⟨_,rfl,rfl⟩ | ⟨bs',rfl,h'⟩
    ·simp
    ·have ho:=h5 az t a ms bs' h' (fun e he=>hb e (List.mem_append_left _ he))
     have hne:=hb z (by simp) hz
     cases z with
     | enum t' a' ms'=>
      simp only
      rw [if_neg (fun e=>hne (by rw [e];rfl))]
      exact ho
     | _=>exact ho
theorem QeP (s:CSt):(Q6i s).code=QM (fun n=>(QI s.bodies n).getD 0) s:=by
 have key:∀ (l:List (Nat×List UInt8)) (s':CSt),s'.bodies=s.bodies→(l.foldl (fun s k=>setM k.1 (.call ((look s.bodies k.2).getD 0)) s) s').code=l.foldl (fun c k=>c.set k.1 (.call ((QI s.bodies k.2).getD 0))) s'.code:=by
  intro l
  induction l with
  | nil=>intro s' _;rfl
  | cons k l ih=>
   intro s' h
   simp only [List.foldl_cons]
   rw [ih (setM k.1 (.call ((look s'.bodies k.2).getD 0)) s') h,h,Q4B]
   rfl
 exact key s.calls s rfl
theorem Q9C (B:List UInt8→Nat) (s0:CSt) (h0:Wf s0):∀ (k:Nat) (az:List DefL),az.length=k →
  Wf (az.foldl QJ (s0,[])).1∧(az.foldl QJ (s0,[])).1.bodies=s0.bodies∧(∃ post,QM B (az.foldl QJ (s0,[])).1=QM B s0++post) ∧
  (∀ n q,QI (az.foldl QJ (s0,[])).2 n=some q→(QM B (az.foldl QJ (s0,[])).1)[q]? = some (.call (B n))∧(QM B (az.foldl QJ (s0,[])).1)[q + 1]? = some .fin∧(QI s0.bodies n).isSome) ∧
  (∀ d∈az,(QI s0.bodies (Qz d).1).isSome→(QI (az.foldl QJ (s0,[])).2 (Qz d).1).isSome):=by
 intro k
 induction k with
 | zero=>
  intro az hl
  have:az=[]:=List.length_eq_zero_iff.1 hl
  subst this
  exact ⟨h0,rfl,⟨[],by simp⟩,(by intro n q h;cases h),by intro d hd;cases hd⟩
 | succ k ih=>
  intro az hl
  have hne:az≠[]:=by intro e;subst e;simp at hl
  obtain ⟨az',z,rfl⟩:∃ az' z,az=az'++[z]:=⟨az.dropLast,az.getLast hne,(List.dropLast_concat_getLast hne).symm⟩
  obtain ⟨h1,h2,⟨post,h3⟩,h4,h5⟩:=ih az' (by simpa using hl)
  rw [List.foldl_append]
  simp only [List.foldl_cons,List.foldl_nil]
  generalize az'.foldl QJ (s0,[])=p at h1 h2 h3 h4 h5 ⊢
  unfold QJ
  rw [Q4B,h2]
  cases hb:(QI s0.bodies (Qz z).1).isSome with
  | false=>
   simp only [Bool.false_eq_true,if_false]
   refine ⟨h1,h2,⟨post,h3⟩,h4,?_⟩
   intro d hd hs
   rcases List.mem_append.1 hd with hd | hd
   ·exact h5 d hd hs
   ·simp only [List.mem_singleton] at hd
    subst hd
    rw [hb] at hs
    cases hs
  | true=>
   simp only [if_true]
   have w1:=h1.call (Qz z).1
   have e1:QM B (Q7J (Qz z).1 p.1)=QM B p.1++[.call (B (Qz z).1),.fin]:=by
    unfold Q7J
    rw [Q1b w1,Qaq h1]
    simp
   have hl:(QM B p.1).length=p.1.code.length:=Q34
   refine ⟨w1.put _,h2,⟨post++[.call (B (Qz z).1),.fin],by rw [e1,h3];simp⟩,?_,?_⟩
   ·intro n q hq
    rw [Q35] at hq
    rw [e1]
    split at hq
    ·rename_i hn
     subst hn
     cases hq
     refine ⟨?_,?_,hb⟩
     ·rw [List.getElem?_append_right (by omega),hl]
      simp
     ·rw [List.getElem?_append_right (by omega),hl]
      simp
    ·obtain ⟨g1,g2,g3⟩:=h4 n q hq
     have lt:∀ (j:Nat) (x:Qj),(QM B p.1)[j]? = some x→j < (QM B p.1).length:=by
      intro j x hx
      by_cases hj:j < (QM B p.1).length
      ·exact hj
      ·rw [List.getElem?_eq_none (by omega)] at hx;cases hx
     rw [List.getElem?_append_left (lt _ _ g1),List.getElem?_append_left (lt _ _ g2)]
     exact ⟨g1,g2,g3⟩
   ·intro d hd hs
    rw [Q35]
    split
    ·rfl
    ·rename_i hn
     rcases List.mem_append.1 hd with hd | hd
     ·exact h5 d hd hs
     ·simp only [List.mem_singleton] at hd
      exact absurd (by rw [hd]) hn
theorem Ext.refl {s:CSt} (h:Wf s):Ext s s:=⟨h,rfl,rfl,Nat.le_refl _,fun _ _ ho=>ho,fun _ _=>rfl⟩
theorem Q9D (B:List UInt8→Nat) (t:Ty) (s:CSt) (h:Wf s):Ext s (startT t s)∧QM B (startT t s)=QM B s++(Q19 B s.code.length t++[.fin]):=by
 obtain ⟨h1,h2⟩:=Q3K B t s h
 refine ⟨h2.trans (Ext.put h2.wf _),?_⟩
 unfold startT
 rw [Q1b h2.wf,h1]
 simp
theorem Q77 {α β:Type} (B:List UInt8→Nat) (f:CSt×α→β→CSt×α) (hf:∀ q b,Wf q.1→Ext q.1 (f q b).1∧∃ post,QM B (f q b).1=QM B q.1++post):∀ (l:List β) (q:CSt×α),Wf q.1→Ext q.1 (l.foldl f q).1∧∃ post,QM B (l.foldl f q).1=QM B q.1++post:=by
 intro l
 induction l with
 | nil=>intro q h;exact ⟨Ext.refl h,[],by simp⟩
 | cons b l ih=>
  intro q h
  obtain ⟨h1,p1,e1⟩:=hf q b h
  obtain ⟨h2,p2,e2⟩:=ih (f q b) h1.wf
  exact ⟨h1.trans h2,p1++p2,by rw [List.foldl_cons,e2,e1];simp⟩
theorem QeQ (B:List UInt8→Nat) (q:CSt×List (Int×Nat×Nat)) (p:Q1Y) (h:Wf q.1):Ext q.1 (Q0R q p).1∧∃ post,QM B (Q0R q p).1=QM B q.1++post:=by
 obtain ⟨h1,e1⟩:=Q9D B p.arg q.1 h
 obtain ⟨h2,e2⟩:=Q9D B p.res _ h1.wf
 exact ⟨h1.trans h2,_,by show QM B (startT p.res (startT p.arg q.1))=_;rw [e2,e1,List.append_assoc]⟩
theorem Qgq (B:List UInt8→Nat) (q:CSt×PrgL) (v:Q0b) (h:Wf q.1):Ext q.1 (Q1E q v).1∧∃ post,QM B (Q1E q v).1=QM B q.1++post:=Q77 B Q0R (QeQ B) v.procs (q.1,[]) h
theorem QeR (B:List UInt8→Nat) (q:CSt×List (Int×PrgL)) (d:DefL) (h:Wf q.1):Ext q.1 (Q0a q d).1∧∃ post,QM B (Q0a q d).1=QM B q.1++post:=by
 cases d with
 | prog t a vs num=>exact Q77 B Q1E (Qgq B) vs (q.1,_) h
 | _=>exact ⟨Ext.refl h,[],by simp [Q0a]⟩
theorem Qar (B:List UInt8→Nat) (ds:List DefL) (s0:CSt) (h0:Wf s0):Ext s0 (ds.foldl Q0a (s0,[])).1∧∃ post,QM B (ds.foldl Q0a (s0,[])).1=QM B s0++post:=Q77 B Q0a (QeR B) ds (s0,[]) h0
def Q13 (ds:List DefL):Env:=fun n=>ds.find? fun d=>Q0w d && decide ((Qz d).1=n)
theorem Q9E {ds:List DefL} {n:List UInt8} {d:DefL} (h:Q13 ds n=some d):Q0w d=true∧(Qz d).1=n∧∃ az bs,ds=az++d :: bs:=by
 unfold Q13 at h
 have h1:=List.find?_some h
 simp only [Bool.and_eq_true,decide_eq_true_eq] at h1
 exact ⟨h1.1,h1.2,List.append_of_mem (List.mem_of_find?_eq_some h)⟩
theorem QeS {ds:List DefL} {n:List UInt8} (h:Q13 ds n=none):∀ d∈ds,Q0w d=true→(Qz d).1≠n:=by
 intro d hd ht e
 unfold Q13 at h
 have:=List.find?_eq_none.1 h d hd
 simp [ht,e] at this
structure Whole (ds:List DefL):Prop where
 nd:∀ az d bs,ds=az++d :: bs→Q0w d=true→∀ e∈bs,Q0w e=true→(Qz e).1≠(Qz d).1
 known:∀ d∈ds,Q0w d=true→Q8U (Q13 ds) d
 sel:∀ az t a s arms bs n a',ds=az++DefL.union t a s arms :: bs→s.ty = .named n a'→∃ as1 a2 ms as2,az=as1++DefL.enum n a2 ms :: as2
 sim:∀ t a s arms,DefL.union t a s arms∈ds→Q0K s.ty
 deep:∀ d∈ds,∀ t∈Q4D d,Q0J t
theorem Whole.env {ds:List DefL} (h:Whole ds) {az bs:List DefL} {d:DefL} (hd:ds=az++d :: bs) (ht:Q0w d=true):Q13 ds (Qz d).1=some d:=by
 unfold Q13
 rw [hd,List.find?_append]
 have:az.find? (fun e=>Q0w e && decide ((Qz e).1=(Qz d).1))=none:=by
  rw [List.find?_eq_none]
  intro e he hc
  simp only [Bool.and_eq_true,decide_eq_true_eq] at hc
  obtain ⟨a1,a2,rfl⟩:=List.append_of_mem he
  have:=h.nd a1 e (a2++d :: bs) (by rw [hd];simp) hc.1 d (by simp) ht
  exact this hc.2.symm
 rw [this]
 simp [ht]
theorem Q7N {α:Type} {l m:List α} {i:Nat} {x:α} (h:l[i]? = some x):(l++m)[i]? = some x:=by
 have hi:i < l.length:=by
  by_cases hi:i < l.length
  ·exact hi
  ·rw [List.getElem?_eq_none (by omega)] at h;cases h
 rw [List.getElem?_append_left hi,h]
theorem QhK {ds:List DefL} (h:Whole ds):∃ B,QeL (Q1o ds).1 B (Q13 ds)∧∀ n,match QI (Q1o ds).2 n with
  | none=>Q13 ds n=none
  | some p=>(Q13 ds n).isSome∧(Q1o ds).1[p]? = some (.call (B n))∧(Q1o ds).1[p + 1]? = some .fin:=by
 refine ⟨fun n=>(QI (QN ds).bodies n).getD 0,?_⟩
 obtain ⟨c1,c2,c3,c4,_⟩:=Q8V (fun n=>(QI (QN ds).bodies n).getD 0) ds.length ds rfl
 obtain ⟨s1,s2,⟨post,s3⟩,s4,s5⟩:=Q9C (fun n=>(QI (QN ds).bodies n).getD 0) (QN ds) c1 ds.length ds rfl
 obtain ⟨g1,postp,gp⟩:=Qar (fun n=>(QI (QN ds).bodies n).getD 0) ds (ds.foldl QJ (QN ds,[])).1 s1
 have hc:(Q1o ds).1=QM (fun n=>(QI (QN ds).bodies n).getD 0) (ds.foldl QJ (QN ds,[])).1++postp:=by
  show (Q6i (ds.foldl Q0a ((ds.foldl QJ (QN ds,[])).1,[])).1).code=_
  rw [QeP,g1.bo,s2,gp]
 have hst:(Q1o ds).2=(ds.foldl QJ (QN ds,[])).2:=rfl
 rw [hc,hst]
 generalize hB:(fun n=>(QI (QN ds).bodies n).getD 0)=B at *
 refine ⟨?_,?_⟩
 ·intro n df hE
  obtain ⟨ht,hn,az,bs,hd⟩:=Q9E hE
  refine ⟨?_,?_,h.deep df (by rw [hd];simp),?_⟩
  ·intro t a v e;subst e;simp [Q0w] at ht
  ·intro t a v n e;subst e;simp [Q0w] at ht
  ·have hpl:=c3 az df bs hd ht (h.nd az df bs hd ht)
   have hBn:B n=(QN az).code.length:=by
    rw [← hB]
    simp only
    rw [← hn,hpl]
    rfl
   rw [hBn]
   obtain ⟨w1,_,_,_,w5⟩:=Q8V B az.length az rfl
   obtain ⟨seg,g1,g2,g3,g4⟩:=Qc7 B df (QN az) w1 ht
   obtain ⟨p2,hp2⟩:=c4 (az++[df]) bs (by rw [hd];simp)
   refine g4 _ _ ?_ (h.known df (by rw [hd];simp) ht) ?_
   ·have:(QM B (QN az)).length=(QN az).code.length:=Q34
    rw [← this]
    refine Sub.at (post:=p2++post++postp) ?_
    rw [s3,hp2,Q3y,g1]
    simp
   ·cases df with
    | union t a sel arms=>
     show Q0m (QN az) sel.ty=selD (Q13 ds) sel.ty
     have hsim:=h.sim t a sel arms (by rw [hd];simp)
     cases hty:sel.ty with
     | named m a'=>
      obtain ⟨as1,a2,ms,as2,has⟩:=h.sel az t a sel arms bs m a' hd hty
      have hd':ds=as1++DefL.enum m a2 ms :: (as2++DefL.union t a sel arms :: bs):=by rw [hd,has];simp
      have e1:Q13 ds m=some (.enum m a2 ms):=h.env hd' rfl
      have e2:QI (QN az).enums m=some (Q0o ms):=w5 as1 m a2 ms as2 has (fun e he ht'=>h.nd as1 _ _ hd' rfl e (List.mem_append_left _ he) ht')
      simp only [Q0m,selD,e1,Q4B,e2,Option.getD_some]
     | plain k=>rfl
     | _=>rw [hty] at hsim;simp [Q0K] at hsim
    | _=>trivial
 ·intro n
  cases hm:QI (ds.foldl QJ (QN ds,[])).2 n with
  | some p=>
   obtain ⟨g1,g2,g3⟩:=s4 n p hm
   have hBn:B n=(QI (QN ds).bodies n).getD 0:=by rw [← hB]
   refine ⟨?_,by rw [hBn];exact Q7N g1,Q7N g2⟩
   cases he:Q13 ds n with
   | some d=>rfl
   | none=>
    rw [c2 n (QeS he)] at g3
    cases g3
  | none=>
   show Q13 ds n=none
   cases he:Q13 ds n with
   | none=>rfl
   | some d=>
    obtain ⟨ht,hn,az,bs,hd⟩:=Q9E he
    have hpl:=c3 az d bs hd ht (h.nd az d bs hd ht)
    have:=s5 d (by rw [hd];simp) (by rw [hpl];rfl)
    rw [hn,hm] at this
    cases this
end Go.Proofs.YtmbcibgknckenaaGreatDoor
