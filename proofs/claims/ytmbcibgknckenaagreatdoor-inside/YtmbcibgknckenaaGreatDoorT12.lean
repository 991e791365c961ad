import Derived.Test.YtmbcibgknckenaaGreatDoorT11
import Derived.Deep.RegionHeld2
import Derived.Test.YtmbcibgknckenaaGreatDoorProg
import Derived.KernelRfl
import Derived.Laws.Strings
import Derived.Test.YtmbcibgknckenaaGreatDoorRows
import Derived.Test.YtmbcibgknckenaaGreatDoorTie
import Derived.Test.YtmbcibgknckenaaGreatDoorCards
import Derived.ProofKit
import Derived.LaidMore
import Derived.OpenShut
import Derived.Stop.Joined
import Derived.LaidHandle
import Derived.SevenTiedAt
import Derived.Shelf.Vars
import Derived.ShutString
import Derived.ChangeOld
import Derived.WalkKit
import Derived.LaidEql
import Derived.Stop.Asserts
import Derived.RowKitTokens
import Derived.RangeFuncNested
import Derived.RangeFuncBound
import Derived.RangeFuncCalls
import Derived.RangeFuncLeaves
import Derived.Shelf.Abstract
import Derived.Shelf.RegionOpen
import Derived.OwnWalkIn
import Derived.TacticsInMore
import Derived.LoopNIn
import Derived.LoopIn
import Derived.Maps.AppendAt
set_option linter.all false
set_option maxRecDepth 100000
set_option maxHeartbeats 4000000
namespace Go.Proofs.YtmbcibgknckenaaGreatDoor
section
variable {P : Program} {ops : Array Oper} {Q : Exit → Act → World → Prop} {S : World → Prop}
def Q3a (n i:Nat):Array Bool:=(List.replicate i true++List.replicate (n - i) false).toArray
def Q8f (ops:Array Oper) (base:Nat):Bool:=Region.noSelect ops && (Region.ready .any ops (Q3a ops.size ops.size)).isEmpty && (List.range ops.size).all fun i=>
 Region.free .any ops (Q3a ops.size i) i && (Region.ready .any ops (Q3a ops.size i)).contains i && (match ops[i]? with
  | some o=>decide (o.dst=some (base + i)) && (o.looksAt ops).all fun d=>decide (d < base + i)
  | none=>false)
theorem Qfp {n i:Nat} (h:i < n):(Q3a n i).setIfInBounds i true=Q3a n (i + 1):=by
 unfold Q3a
 rw [List.setIfInBounds_toArray]
 congr 1
 rw [List.set_append_right _ _ (by simp)]
 obtain ⟨m,rfl⟩:∃ m,n=i + (m + 1):=⟨n - i - 1,by omega⟩
 have e1:i + (m + 1) - i=m + 1:=by omega
 have e2:i + (m + 1) - (i + 1)=m:=by omega
 rw [e1,e2,List.length_replicate,Nat.sub_self,List.replicate_succ,List.set_cons_zero,List.replicate_succ',List.append_assoc]
 rfl
theorem Qdw (n:Nat):Array.replicate n false=Q3a n 0:=by
 unfold Q3a
 simp
def Q2o (l m vs:List Value) (i:Nat):Array Value:=(l++(vs.take i++m.drop i)).toArray
theorem Qh5 {l m vs:List Value} {i:Nat} {v:Value} (hm:m.length=vs.length) (hv:vs[i]? = some v):(Q2o l m vs i).setIfInBounds (l.length + i) v=Q2o l m vs (i + 1):=by
 have hi:i < vs.length:=by
  by_cases h:i < vs.length
  ·exact h
  ·rw [List.getElem?_eq_none (by omega)] at hv;cases hv
 unfold Q2o
 rw [List.setIfInBounds_toArray]
 congr 1
 rw [List.set_append_right _ _ (by omega),Nat.add_sub_cancel_left,List.set_append_right _ _ (by simp;omega)]
 have e1:(vs.take i).length=i:=by simp;omega
 rw [e1,Nat.sub_self,List.take_succ_eq_append_getElem hi]
 have e2:m.drop i=m[i]'(by omega) :: m.drop (i + 1):=(List.drop_eq_getElem_cons (by omega))
 rw [e2,List.set_cons_zero,List.append_assoc]
 have e3:vs[i]=v:=by
  rw [List.getElem?_eq_getElem hi] at hv
  injection hv
 rw [e3]
 rfl
theorem Qh6 {l m vs:List Value} {i d:Nat} (hm:m.length=vs.length) (hd:d < l.length + i) (hi:i≤vs.length):(Q2o l m vs i)[d]? = (l++vs).toArray[d]?:=by
 unfold Q2o
 simp only [List.getElem?_toArray]
 by_cases h:d < l.length
 ·rw [List.getElem?_append_left h,List.getElem?_append_left h]
 ·rw [List.getElem?_append_right (l₁:=l) (l₂:=vs) (by omega),List.getElem?_append_right (l₁:=l) (by omega),List.getElem?_append_left (by simp;omega),List.getElem?_take_of_lt (by omega)]
theorem Qh7 {o:Oper} (hs:∀ cs b,o.op≠.select cs b) {a a':Act} (h:∀ d∈o.looksAt ops,a.tmps[d]? = a'.tmps[d]?):execOp a.eval o=execOp a'.eval o:=by
 refine execOp_congr o hs fun x hx=>?_
 cases x with
 | tmp d=>
  have:=h d (List.mem_append_left _ (List.mem_filterMap.2 ⟨.tmp d,by simpa using hx,rfl⟩))
  simp only [Act.eval,Array.getD_eq_getD_getElem?,this]
 | _=>rfl
theorem Qdx {o:Oper} {a a':Act} (h:∀ d∈o.looksAt ops,a.tmps[d]? = a'.tmps[d]?):Region.wanted o (yielded ops a.tmps)=Region.wanted o (yielded ops a'.tmps):=by
 unfold Region.wanted
 cases hg:o.guard with
 | none=>rfl
 | some gw=>
  obtain ⟨j,b⟩:=gw
  simp only
  unfold yielded
  cases hd:(ops[j]?).bind (·.dst) with
  | none=>rfl
  | some d=>
   simp only [Option.bind_some]
   rw [h d ?_]
   unfold Oper.looksAt
   refine List.mem_append_right _ ?_
   simp [hg,hd]
theorem Qin {base:Nat} (hc:Q8f ops base=true) {l m vs:List Value} (hl:l.length=base) (hn:vs.length=ops.size) (hm:m.length=vs.length) {df:List Deferred} {w:World} (hS:S w)
  (hQp:∀ (d:Nat) (v:Value) c a w,Q (.panic c) (a.put (some d) v) w→Q (.panic c) a w)
  (hy:∀ (i:Nat) (o:Oper) (v:Value),ops[i]? = some o→vs[i]? = some v→YieldsIf P ops S o v ⟨(l++vs).toArray,df⟩)
  (h:Q .normal ⟨(l++vs).toArray,df⟩ w):∀ k i,i + k=ops.size→wpAnyH P .any ops Q S k (Q3a ops.size i) ⟨Q2o l m vs i,df⟩ w:=by
 simp only [Q8f,Bool.and_eq_true,List.all_eq_true,List.mem_range] at hc
 obtain ⟨⟨hs,he⟩,hall⟩:=hc
 intro k
 induction k with
 | zero=>
  intro i hi
  have:i=ops.size:=by omega
  subst this
  refine wpAnyH_done (by simpa using he) ?_ 0
  unfold Q2o
  rw [← hn,List.take_length,← hm,List.drop_length,List.append_nil]
  exact h
 | succ k ih=>
  intro i hi
  have hlt:i < ops.size:=by omega
  obtain ⟨⟨hf,hr⟩,ho⟩:=hall i hlt
  have ho':ops[i]? = some ops[i]:=Array.getElem?_eq_getElem hlt
  rw [ho'] at ho
  simp only [Bool.and_eq_true,decide_eq_true_eq,List.all_eq_true] at ho
  obtain ⟨hd,hlk⟩:=ho
  have hv:vs[i]? = some (vs[i]'(by omega)):=List.getElem?_eq_getElem (by omega)
  have same:∀ d∈ops[i].looksAt ops,(Q2o l m vs i)[d]? = (l++vs).toArray[d]?:=fun d hd=>Qh6 hm (by rw [hl];exact hlk d hd) (by omega)
  refine wpAnyH_take (i:=i) (v:=vs[i]'(by omega)) ho' hs hf hr (fun c a w h=>hQp (base + i) _ c a w (by rw [← hd];exact h)) ?_ hS ?_
  ·exact (hy i _ _ ho' hv).of_same (Qh7 (ops:=ops) (fun cs b=>Region.noSelect_spec hs i _ cs b ho') same) (Qdx (a:=⟨Q2o l m vs i,df⟩) (a':=⟨(l++vs).toArray,df⟩) same)
  ·rw [Qfp hlt,hd]
   have:(Act.put ⟨Q2o l m vs i,df⟩ (some (base + i)) (vs[i]'(by omega)))=⟨Q2o l m vs (i + 1),df⟩:=by
    unfold Act.put
    simp only
    rw [← hl,Qh5 hm hv]
   rw [this]
   exact ih (i + 1) (by omega)
theorem Qcw (S:World→Prop) {base id:Nat} {a:Act} {w:World} {l m:List Value} (vs:List Value) (hp:P.follows .mixedOrders=true) (hc:Q8f ops base=true) (ha:a.tmps=(l++m).toArray) (hl:l.length=base) (hn:vs.length=ops.size) (hm:m.length=vs.length) (hS:S w.drew)
  (hQp:∀ (d:Nat) (v:Value) c a w,Q (.panic c) (a.put (some d) v) w→Q (.panic c) a w)
  (hy:∀ (i:Nat) (o:Oper) (v:Value),ops[i]? = some o→vs[i]? = some v→YieldsIf P ops S o v ⟨(l++vs).toArray,a.defers⟩)
  (h:Q .normal ⟨(l++vs).toArray,a.defers⟩ w.drew):(Code.region id ops true).wp P Q a w:=by
 refine wp_region_held_drew (S:=S) hp hS fun _=>?_
 rw [Qdw]
 have:=Qin hc hl hn hm hS hQp hy h ops.size 0 (by omega)
 unfold Q2o at this
 simp only [List.take_zero,List.nil_append,List.drop_zero] at this
 rw [← ha] at this
 exact this
end
def Qs:Code→Nat→Option (Array Oper)
 | .region id ops _,i=>if id=i then some ops else none
 | .seq a b,i=>(Qs a i).orElse fun _=>Qs b i
 | .cond _ a b,i=>(Qs a i).orElse fun _=>Qs b i
 | .block _ b,i=>Qs b i
 | .loop b,i=>Qs b i
 | _,_=>none
def gd (c:Bool) (v:Value):Value:=match c with
 | true=>undef
 | false=>v
theorem Qkg:Q8f ((Tryz.f19.body.bind fun c=>Qs c 6).getD #[]) 19=true:=by kernel_rfl
section
variable {P : Program} {ops : Array Oper} {S : World → Prop} {A : Act} {o : Oper} {v : Value}
theorem Q1a (hg:o.guard=none) (h:∀ w,S w→(execOp A.eval o).run P w = .ok (.value v) w):YieldsIf P ops S o v A:=Or.inl ⟨by simp [Region.wanted,hg],h⟩
theorem Q1v {j:Nat} {want:Bool} {yb:Option Bool} (hg:o.guard=some (j,want)) (hy:yielded ops A.tmps j=yb) (h:yb=some want→∀ w,S w→(execOp A.eval o).run P w = .ok (.value v) w) (h2:yb≠some want→v=undef):YieldsIf P ops S o v A:=by
 by_cases hb:yb=some want
 ·exact Or.inl ⟨by simp [Region.wanted,hg,hy,hb],h hb⟩
 ·exact Or.inr ⟨by simp [Region.wanted,hg,hy,hb],h2 hb⟩
theorem Q0A {j:Nat} {c:Bool} {x:Value} (hg:o.guard=some (j,false)) (hy:yielded ops A.tmps j=some c) (h:c=false→∀ w,S w→(execOp A.eval o).run P w = .ok (.value x) w):YieldsIf P ops S o (gd c x) A:=by
 cases c with
 | true=>exact Q1v hg hy (fun h=>by cases h) (fun _=>rfl)
 | false=>exact Q1v hg hy (fun _=>h rfl) (fun h=>absurd rfl h)
theorem QA {j d:Nat} (h:(ops[j]?).bind (·.dst)=some d) {b:Bool} (hd:A.tmps[d]? = some (.bool b)):yielded ops A.tmps j=some b:=by
 unfold yielded
 rw [h]
 simp [hd]
theorem Q1g {j d:Nat} (h:(ops[j]?).bind (·.dst)=some d) (hd:A.tmps[d]? = some undef):yielded ops A.tmps j=none:=by
 unfold yielded
 rw [h]
 simp [hd,undef]
theorem Qo {i:Nat} {p:Op×Option (Nat×Bool)} (h:(ops[i]?).map (fun o=>(o.op,o.guard))=some p) (ho:ops[i]? = some o):o.op=p.1∧o.guard=p.2:=by
 rw [ho] at h
 simp only [Option.map_some,Option.some.injEq] at h
 rw [← h]
 exact ⟨rfl,rfl⟩
variable {ρ : Operand → Value} {w : World}
theorem Q0t {x:Operand} (h:o.op = .move x) (hv:ρ x=v):(execOp ρ o).run P w = .ok (.value v) w:=by
 simp only [execOp,h,hv]
 rfl
theorem Q6R {c a b:Operand} (h:o.op = .pick c a b) {d:Bool} (hc:ρ c = .bool d) (hv:(if d then ρ a else ρ b)=v):(execOp ρ o).run P w = .ok (.value v) w:=by
 simp only [execOp,h,hc,← hv]
 cases d<;>rfl
theorem Q6m {s:Sem Value} (h:s.run P w = .ok v w):(do pure (Next.value (← s)):Sem Next).run P w = .ok (.value v) w:=by
 simp [go_sem,h]
theorem Q2C {t:TypeId} {x ix:Operand} {xv iv:Value} (h:o.op = .indexAddr t x ix) (hx:ρ x=xv) (hi:ρ ix=iv) (hr:(Instr.indexAt t xv iv).run P w = .ok v w):(execOp ρ o).run P w = .ok (.value v) w:=by
 simp only [execOp,h,hx,hi]
 exact Q6m hr
theorem Q2D {t:TypeId} {x:Operand} {f:Nat} {xv:Value} (h:o.op = .fieldAddr t x f) (hx:ρ x=xv) (hr:(Instr.fieldAt t xv f).run P w = .ok v w):(execOp ρ o).run P w = .ok (.value v) w:=by
 simp only [execOp,h,hx]
 exact Q6m hr
theorem Q3j {t:TypeId} {x:Operand} {xv:Value} (h:o.op = .load t x) (hx:ρ x=xv) (hr:(Instr.loadAt t xv).run P w = .ok v w):(execOp ρ o).run P w = .ok (.value v) w:=by
 simp only [execOp,h,hx]
 exact Q6m hr
theorem Q7T {op:BinOp} {t t':TypeId} {x y:Operand} {xv yv:Value} (h:o.op = .binOp op t x y t') (hx:ρ x=xv) (hy:ρ y=yv) (hr:(do eqGuard op t x y xv yv;binOp op t xv yv:Sem Value).run P w = .ok v w):(execOp ρ o).run P w = .ok (.value v) w:=by
 simp only [execOp,h,hx,hy]
 exact Q6m hr
end
theorem Q3k {g k n c:Nat} (hk:k < n) (hn:n≤c) (w:World):(Instr.indexAt 29 (.slice (some ⟨g,0,none⟩) n c) (.int .i64 k)).run Tryz.prog w = .ok (.pointer (some ⟨g,k * 5,none⟩)) w:=by
 have h0:(0:Int)≤↑k:=by omega
 have h1:(↑k:Int) < ↑n:=by omega
 go_simp
theorem Qcx (g j:Nat) (w:World):(Instr.fieldAt 48 (.pointer (some ⟨g,j,none⟩)) 0).run Tryz.prog w = .ok (.pointer (some ⟨g,j,none⟩)) w:=by go_simp
theorem Qcy (g j:Nat) (w:World):(Instr.fieldAt 48 (.pointer (some ⟨g,j,none⟩)) 1).run Tryz.prog w = .ok (.pointer (some ⟨g,j + 1,none⟩)) w:=by go_simp
theorem Qcz (g j:Nat) (w:World):(Instr.fieldAt 48 (.pointer (some ⟨g,j,none⟩)) 2).run Tryz.prog w = .ok (.pointer (some ⟨g,j + 2,none⟩)) w:=by go_simp
theorem QcA (g j:Nat) (w:World):(Instr.fieldAt 48 (.pointer (some ⟨g,j,none⟩)) 3).run Tryz.prog w = .ok (.pointer (some ⟨g,j + 3,none⟩)) w:=by go_simp
theorem QcB (g j:Nat) (w:World):(Instr.fieldAt 48 (.pointer (some ⟨g,j,none⟩)) 4).run Tryz.prog w = .ok (.pointer (some ⟨g,j + 4,none⟩)) w:=by go_simp
theorem Q5B {g j:Nat} {n:Int} {w:World} (h:w.cell? ⟨g,j,none⟩=some (.int .i64 n)):(Instr.loadAt 3 (.pointer (some ⟨g,j,none⟩))).run Tryz.prog w = .ok (.int .i64 n) w:=by go_simp
theorem QdY {g j:Nat} {n:Int} {w:World} (h:w.cell? ⟨g,j,none⟩=some (.int .i64 n)):(Instr.loadAt 2 (.pointer (some ⟨g,j,none⟩))).run Tryz.prog w = .ok (.int .i64 n) w:=by go_simp
theorem QdZ {g j:Nat} {n:ByteArray} {w:World} (h:w.cell? ⟨g,j,none⟩=some (.string n)):(Instr.loadAt 9 (.pointer (some ⟨g,j,none⟩))).run Tryz.prog w = .ok (.string n) w:=by go_simp
theorem QcC (x y:Int) (p q:Operand) (w:World):(do eqGuard .neq 3 p q (.int .i64 x) (.int .i64 y);binOp .neq 3 (.int .i64 x) (.int .i64 y):Sem Value).run Tryz.prog w = .ok (.bool (decide (x≠y))) w:=by
 by_cases h:x=y
 ·go_simp
 ·go_simp
theorem QkM (x y:Int) (p q:Operand) (w:World):(do eqGuard .neq 2 p q (.int .i64 x) (.int .i64 y);binOp .neq 2 (.int .i64 x) (.int .i64 y):Sem Value).run Tryz.prog w = .ok (.bool (decide (x≠y))) w:=by
 by_cases h:x=y
 ·go_simp
 ·go_simp
theorem QkN (x y:ByteArray) (p q:Operand) (w:World):(do eqGuard .neq 9 p q (.string x) (.string y);binOp .neq 9 (.string x) (.string y):Sem Value).run Tryz.prog w = .ok (.bool (decide (x≠y))) w:=by
 have hb:(x.toList == y.toList)=decide (x=y):=by
  by_cases h:x=y
  ·subst h;simp
  ·rw [decide_eq_false h]
   refine beq_eq_false_iff_ne.2 fun e=>h ?_
   rw [ByteArray.toList_eq,ByteArray.toList_eq] at e
   exact ByteArray.ext (Array.toList_inj.mp e)
 have e:(binOp .neq 9 (.string x) (.string y):Sem Value)=Op.stringOp .neq x y:=rfl
 go_simp
 simp [Op.stringOp,go_sem,hb]
def Q6S (ga gb k n ca cb:Nat) (x0 x1:Int) (x2:ByteArray) (x3 x4 y0 y1:Int) (y2:ByteArray) (y3 y4:Int) (f e1 e2 e3 e4 e5:Bool):List Value:=
 [(.slice (some ⟨ga,0,none⟩) n ca),(.int .i64 k),(.pointer (some ⟨ga,k * 5,none⟩)),(.pointer (some ⟨ga,k * 5,none⟩)),(.int .i64 x0),(.slice (some ⟨gb,0,none⟩) n cb),(.int .i64 k),(.pointer (some ⟨gb,k * 5,none⟩)),(.pointer (some ⟨gb,k * 5,none⟩)),(.int .i64 y0),(.bool e1),(.bool e1),(gd e1 (.slice (some ⟨ga,0,none⟩) n ca)),(gd e1 (.int .i64 k)),(gd e1 (.pointer (some ⟨ga,k * 5,none⟩))),(gd e1 (.pointer (some ⟨ga,k * 5 + 1,none⟩))),(gd e1 (.int .i64 x1)),(gd e1 (.slice (some ⟨gb,0,none⟩) n cb)),(gd e1 (.int .i64 k)),(gd e1 (.pointer (some ⟨gb,k * 5,none⟩))),(gd e1 (.pointer (some ⟨gb,k * 5 + 1,none⟩))),(gd e1 (.int .i64 y1)),(gd e1 (.bool e2)),(.bool (e1 || e2)),(.bool (e1 || e2)),(gd (e1 || e2) (.slice (some ⟨ga,0,none⟩) n ca)),(gd (e1 || e2) (.int .i64 k)),(gd (e1 || e2) (.pointer (some ⟨ga,k * 5,none⟩))),(gd (e1 || e2) (.pointer (some ⟨ga,k * 5 + 2,none⟩))),(gd (e1 || e2) (.string x2)),(gd (e1 || e2) (.slice (some ⟨gb,0,none⟩) n cb)),(gd (e1 || e2) (.int .i64 k)),(gd (e1 || e2) (.pointer (some ⟨gb,k * 5,none⟩))),(gd (e1 || e2) (.pointer (some ⟨gb,k * 5 + 2,none⟩))),(gd (e1 || e2) (.string y2)),(gd (e1 || e2) (.bool e3)),(.bool (e1 || e2 || e3)),(.bool (e1 || e2 || e3)),(gd (e1 || e2 || e3) (.slice (some ⟨ga,0,none⟩) n ca)),(gd (e1 || e2 || e3) (.int .i64 k)),(gd (e1 || e2 || e3) (.pointer (some ⟨ga,k * 5,none⟩))),(gd (e1 || e2 || e3) (.pointer (some ⟨ga,k * 5 + 4,none⟩))),(gd (e1 || e2 || e3) (.int .i64 x4)),(gd (e1 || e2 || e3) (.slice (some ⟨gb,0,none⟩) n cb)),(gd (e1 || e2 || e3) (.int .i64 k)),(gd (e1 || e2 || e3) (.pointer (some ⟨gb,k * 5,none⟩))),(gd (e1 || e2 || e3) (.pointer (some ⟨gb,k * 5 + 4,none⟩))),(gd (e1 || e2 || e3) (.int .i64 y4)),(gd (e1 || e2 || e3) (.bool e4)),(.bool (e1 || e2 || e3 || e4)),(.bool (e1 || e2 || e3 || e4)),(gd (e1 || e2 || e3 || e4) (.bool f)),(gd (e1 || e2 || e3 || e4) (.bool f)),(gd (e1 || e2 || e3 || e4 || !f) (.slice (some ⟨ga,0,none⟩) n ca)),(gd (e1 || e2 || e3 || e4 || !f) (.int .i64 k)),(gd (e1 || e2 || e3 || e4 || !f) (.pointer (some ⟨ga,k * 5,none⟩))),(gd (e1 || e2 || e3 || e4 || !f) (.pointer (some ⟨ga,k * 5 + 3,none⟩))),(gd (e1 || e2 || e3 || e4 || !f) (.int .i64 x3)),(gd (e1 || e2 || e3 || e4 || !f) (.slice (some ⟨gb,0,none⟩) n cb)),(gd (e1 || e2 || e3 || e4 || !f) (.int .i64 k)),(gd (e1 || e2 || e3 || e4 || !f) (.pointer (some ⟨gb,k * 5,none⟩))),(gd (e1 || e2 || e3 || e4 || !f) (.pointer (some ⟨gb,k * 5 + 3,none⟩))),(gd (e1 || e2 || e3 || e4 || !f) (.int .i64 y3)),(gd (e1 || e2 || e3 || e4 || !f) (.bool e5)),(gd (e1 || e2 || e3 || e4) (.bool (f && e5))),(.bool (e1 || e2 || e3 || e4 || (f && e5)))]
section
variable {ga gb k n ca cb : Nat} {x0 x1 x3 x4 y0 y1 y3 y4 : Int} {x2 y2 : ByteArray} {f e1 e2 e3 e4 e5 : Bool} {l vs : List Value} {df : List Deferred}
theorem Q1M {t:Nat} {v:Value} (h:l[t]? = some v):(Act.mk (l++vs).toArray df).eval (.tmp t)=v:=by
 have ht:t < l.length:=by
  by_cases ht:t < l.length
  ·exact ht
  ·rw [List.getElem?_eq_none (by omega)] at h;cases h
 simp only [Act.eval,Array.getD_eq_getD_getElem?,List.getElem?_toArray]
 rw [List.getElem?_append_left ht,h]
 rfl
theorem Q00 (hl:l.length=19) {j:Nat} {v:Value} (h:vs[j]? = some v):(Act.mk (l++vs).toArray df).tmps[19 + j]? = some v:=by
 simp only [List.getElem?_toArray]
 rw [List.getElem?_append_right (by omega),hl,Nat.add_sub_cancel_left,h]
theorem QG (hl:l.length=19) {j t:Nat} (ht:t=19 + j) {v:Value} (h:vs[j]? = some v):(Act.mk (l++vs).toArray df).eval (.tmp t)=v:=by
 subst ht
 have:=Q00 (df:=df) hl h
 simp only [Act.eval,Array.getD_eq_getD_getElem?,this]
 rfl
def Q9P (ga gb k:Nat) (x0 x1:Int) (x2:ByteArray) (x3 x4 y0 y1:Int) (y2:ByteArray) (y3 y4:Int) (w:World):Prop:=
 w.cell? ⟨ga,k * 5,none⟩=some (.int .i64 x0)∧w.cell? ⟨ga,k * 5 + 1,none⟩=some (.int .i64 x1)∧w.cell? ⟨ga,k * 5 + 2,none⟩=some (.string x2)∧w.cell? ⟨ga,k * 5 + 3,none⟩=some (.int .i64 x3)∧w.cell? ⟨ga,k * 5 + 4,none⟩=some (.int .i64 x4) ∧
 w.cell? ⟨gb,k * 5,none⟩=some (.int .i64 y0)∧w.cell? ⟨gb,k * 5 + 1,none⟩=some (.int .i64 y1)∧w.cell? ⟨gb,k * 5 + 2,none⟩=some (.string y2)∧w.cell? ⟨gb,k * 5 + 3,none⟩=some (.int .i64 y3)∧w.cell? ⟨gb,k * 5 + 4,none⟩=some (.int .i64 y4)
theorem Q0i {c:Bool} {x:Value} (h:c=false):gd c x=x:=by rw [h];rfl
theorem Qt {Y:Nat→Prop} {n:Nat} (h:∀ i,i < n→Y i) (hn:Y n):∀ i,i < n + 1→Y i:=fun i hi=>by
 rcases Nat.lt_or_ge i n with h1 | h1
 ·exact h i h1
 ·rw [show i=n by omega];exact hn
def Qfq (ga gb k n ca cb:Nat) (x0 x1:Int) (x2:ByteArray) (x3 x4 y0 y1:Int) (y2:ByteArray) (y3 y4:Int) (f e1 e2 e3 e4 e5:Bool) (l:List Value) (df:List Deferred) (i:Nat):Prop:=∀ (o:Oper) (v:Value),((Tryz.f19.body.bind fun c=>Qs c 6).getD #[])[i]? = some o→(Q6S ga gb k n ca cb x0 x1 x2 x3 x4 y0 y1 y2 y3 y4 f e1 e2 e3 e4 e5)[i]? = some v→YieldsIf Tryz.prog ((Tryz.f19.body.bind fun c=>Qs c 6).getD #[]) (Q9P ga gb k x0 x1 x2 x3 x4 y0 y1 y2 y3 y4) o v (Act.mk (l++(Q6S ga gb k n ca cb x0 x1 x2 x3 x4 y0 y1 y2 y3 y4 f e1 e2 e3 e4 e5)).toArray df)
def SY (i:Nat):Prop:=∀ {ga gb k n ca cb:Nat} {x0 x1 x3 x4 y0 y1 y3 y4:Int} {x2 y2:ByteArray} {f e1 e2 e3 e4 e5:Bool} {l:List Value} {df:List Deferred},l.length=19→l[0]? = some (.slice (some ⟨ga,0,none⟩) n ca)→l[1]? = some (.slice (some ⟨gb,0,none⟩) n cb)→l[2]? = some (.bool f)→l[7]? = some (.int .i64 k)→k < n→n≤ca→n≤cb→decide (x0≠y0)=e1→decide (x1≠y1)=e2→decide (x2≠y2)=e3→decide (x4≠y4)=e4→decide (x3≠y3)=e5→Qfq ga gb k n ca cb x0 x1 x2 x3 x4 y0 y1 y2 y3 y4 f e1 e2 e3 e4 e5 l df i
theorem Qkh:SY 0:=by
 intro ga gb k n ca cb x0 x1 x3 x4 y0 y1 y3 y4 x2 y2 f e1 e2 e3 e4 e5 l df hl h0 h1 h2 h7 hk hna hnb b1 b2 b3 b4 b5 o v hi hv
 cases hv
 have ho:=Qo (ops:=((Tryz.f19.body.bind fun c=>Qs c 6).getD #[])) (i:=0) (p:=(.move (.tmp 0),none)) (by kernel_rfl) hi
 refine Q1a ho.2 fun w hS=>?_
 exact Q0t ho.1 (Q1M h0)
theorem Qki:SY 1:=by
 intro ga gb k n ca cb x0 x1 x3 x4 y0 y1 y3 y4 x2 y2 f e1 e2 e3 e4 e5 l df hl h0 h1 h2 h7 hk hna hnb b1 b2 b3 b4 b5 o v hi hv
 cases hv
 have ho:=Qo (ops:=((Tryz.f19.body.bind fun c=>Qs c 6).getD #[])) (i:=1) (p:=(.move (.tmp 7),none)) (by kernel_rfl) hi
 refine Q1a ho.2 fun w hS=>?_
 exact Q0t ho.1 (Q1M h7)
theorem Qkj:SY 2:=by
 intro ga gb k n ca cb x0 x1 x3 x4 y0 y1 y3 y4 x2 y2 f e1 e2 e3 e4 e5 l df hl h0 h1 h2 h7 hk hna hnb b1 b2 b3 b4 b5 o v hi hv
 cases hv
 have ho:=Qo (ops:=((Tryz.f19.body.bind fun c=>Qs c 6).getD #[])) (i:=2) (p:=(.indexAddr 29 (.tmp 19) (.tmp 20),none)) (by kernel_rfl) hi
 refine Q1a ho.2 fun w hS=>?_
 exact Q2C ho.1 (QG (j:=0) hl rfl rfl) (QG (j:=1) hl rfl rfl) (Q3k hk hna w)
theorem Qkk:SY 3:=by
 intro ga gb k n ca cb x0 x1 x3 x4 y0 y1 y3 y4 x2 y2 f e1 e2 e3 e4 e5 l df hl h0 h1 h2 h7 hk hna hnb b1 b2 b3 b4 b5 o v hi hv
 cases hv
 have ho:=Qo (ops:=((Tryz.f19.body.bind fun c=>Qs c 6).getD #[])) (i:=3) (p:=(.fieldAddr 48 (.tmp 21) 0,none)) (by kernel_rfl) hi
 refine Q1a ho.2 fun w hS=>?_
 exact Q2D ho.1 (QG (j:=2) hl rfl rfl) (Qcx ga (k * 5) w)
theorem Qkl:SY 4:=by
 intro ga gb k n ca cb x0 x1 x3 x4 y0 y1 y3 y4 x2 y2 f e1 e2 e3 e4 e5 l df hl h0 h1 h2 h7 hk hna hnb b1 b2 b3 b4 b5 o v hi hv
 cases hv
 have ho:=Qo (ops:=((Tryz.f19.body.bind fun c=>Qs c 6).getD #[])) (i:=4) (p:=(.load 3 (.tmp 22),none)) (by kernel_rfl) hi
 refine Q1a ho.2 fun w hS=>?_
 exact Q3j ho.1 (QG (j:=3) hl rfl rfl) (Q5B hS.1)
theorem Qkm:SY 5:=by
 intro ga gb k n ca cb x0 x1 x3 x4 y0 y1 y3 y4 x2 y2 f e1 e2 e3 e4 e5 l df hl h0 h1 h2 h7 hk hna hnb b1 b2 b3 b4 b5 o v hi hv
 cases hv
 have ho:=Qo (ops:=((Tryz.f19.body.bind fun c=>Qs c 6).getD #[])) (i:=5) (p:=(.move (.tmp 1),none)) (by kernel_rfl) hi
 refine Q1a ho.2 fun w hS=>?_
 exact Q0t ho.1 (Q1M h1)
theorem Qkn:SY 6:=by
 intro ga gb k n ca cb x0 x1 x3 x4 y0 y1 y3 y4 x2 y2 f e1 e2 e3 e4 e5 l df hl h0 h1 h2 h7 hk hna hnb b1 b2 b3 b4 b5 o v hi hv
 cases hv
 have ho:=Qo (ops:=((Tryz.f19.body.bind fun c=>Qs c 6).getD #[])) (i:=6) (p:=(.move (.tmp 7),none)) (by kernel_rfl) hi
 refine Q1a ho.2 fun w hS=>?_
 exact Q0t ho.1 (Q1M h7)
theorem Qko:SY 7:=by
 intro ga gb k n ca cb x0 x1 x3 x4 y0 y1 y3 y4 x2 y2 f e1 e2 e3 e4 e5 l df hl h0 h1 h2 h7 hk hna hnb b1 b2 b3 b4 b5 o v hi hv
 cases hv
 have ho:=Qo (ops:=((Tryz.f19.body.bind fun c=>Qs c 6).getD #[])) (i:=7) (p:=(.indexAddr 29 (.tmp 24) (.tmp 25),none)) (by kernel_rfl) hi
 refine Q1a ho.2 fun w hS=>?_
 exact Q2C ho.1 (QG (j:=5) hl rfl rfl) (QG (j:=6) hl rfl rfl) (Q3k hk hnb w)
theorem Qkp:SY 8:=by
 intro ga gb k n ca cb x0 x1 x3 x4 y0 y1 y3 y4 x2 y2 f e1 e2 e3 e4 e5 l df hl h0 h1 h2 h7 hk hna hnb b1 b2 b3 b4 b5 o v hi hv
 cases hv
 have ho:=Qo (ops:=((Tryz.f19.body.bind fun c=>Qs c 6).getD #[])) (i:=8) (p:=(.fieldAddr 48 (.tmp 26) 0,none)) (by kernel_rfl) hi
 refine Q1a ho.2 fun w hS=>?_
 exact Q2D ho.1 (QG (j:=7) hl rfl rfl) (Qcx gb (k * 5) w)
theorem Qkq:SY 9:=by
 intro ga gb k n ca cb x0 x1 x3 x4 y0 y1 y3 y4 x2 y2 f e1 e2 e3 e4 e5 l df hl h0 h1 h2 h7 hk hna hnb b1 b2 b3 b4 b5 o v hi hv
 cases hv
 have ho:=Qo (ops:=((Tryz.f19.body.bind fun c=>Qs c 6).getD #[])) (i:=9) (p:=(.load 3 (.tmp 27),none)) (by kernel_rfl) hi
 refine Q1a ho.2 fun w hS=>?_
 exact Q3j ho.1 (QG (j:=8) hl rfl rfl) (Q5B hS.2.2.2.2.2.1)
theorem Qio:SY 10:=by
 intro ga gb k n ca cb x0 x1 x3 x4 y0 y1 y3 y4 x2 y2 f e1 e2 e3 e4 e5 l df hl h0 h1 h2 h7 hk hna hnb b1 b2 b3 b4 b5 o v hi hv
 cases hv
 have ho:=Qo (ops:=((Tryz.f19.body.bind fun c=>Qs c 6).getD #[])) (i:=10) (p:=(.binOp .neq 3 (.tmp 23) (.tmp 28) 3,none)) (by kernel_rfl) hi
 refine Q1a ho.2 fun w hS=>?_
 exact Q7T ho.1 (QG (j:=4) hl rfl rfl) (QG (j:=9) hl rfl rfl) ((QcC _ _ _ _ w).trans (by rw [b1]<;>rfl))
theorem Qip:SY 11:=by
 intro ga gb k n ca cb x0 x1 x3 x4 y0 y1 y3 y4 x2 y2 f e1 e2 e3 e4 e5 l df hl h0 h1 h2 h7 hk hna hnb b1 b2 b3 b4 b5 o v hi hv
 cases hv
 have ho:=Qo (ops:=((Tryz.f19.body.bind fun c=>Qs c 6).getD #[])) (i:=11) (p:=(.move (.tmp 29),none)) (by kernel_rfl) hi
 refine Q1a ho.2 fun w hS=>?_
 exact Q0t ho.1 (QG (j:=10) hl rfl rfl)
theorem Qiq:SY 12:=by
 intro ga gb k n ca cb x0 x1 x3 x4 y0 y1 y3 y4 x2 y2 f e1 e2 e3 e4 e5 l df hl h0 h1 h2 h7 hk hna hnb b1 b2 b3 b4 b5 o v hi hv
 cases hv
 have ho:=Qo (ops:=((Tryz.f19.body.bind fun c=>Qs c 6).getD #[])) (i:=12) (p:=(.move (.tmp 0),some (11,false))) (by kernel_rfl) hi
 refine Q0A ho.2 (QA (d:=30) (by kernel_rfl) (Q00 (j:=11) hl rfl)) fun hc w hS=>?_
 exact Q0t ho.1 (Q1M h0)
theorem Qir:SY 13:=by
 intro ga gb k n ca cb x0 x1 x3 x4 y0 y1 y3 y4 x2 y2 f e1 e2 e3 e4 e5 l df hl h0 h1 h2 h7 hk hna hnb b1 b2 b3 b4 b5 o v hi hv
 cases hv
 have ho:=Qo (ops:=((Tryz.f19.body.bind fun c=>Qs c 6).getD #[])) (i:=13) (p:=(.move (.tmp 7),some (11,false))) (by kernel_rfl) hi
 refine Q0A ho.2 (QA (d:=30) (by kernel_rfl) (Q00 (j:=11) hl rfl)) fun hc w hS=>?_
 exact Q0t ho.1 (Q1M h7)
theorem Qis:SY 14:=by
 intro ga gb k n ca cb x0 x1 x3 x4 y0 y1 y3 y4 x2 y2 f e1 e2 e3 e4 e5 l df hl h0 h1 h2 h7 hk hna hnb b1 b2 b3 b4 b5 o v hi hv
 cases hv
 have ho:=Qo (ops:=((Tryz.f19.body.bind fun c=>Qs c 6).getD #[])) (i:=14) (p:=(.indexAddr 29 (.tmp 31) (.tmp 32),some (11,false))) (by kernel_rfl) hi
 refine Q0A ho.2 (QA (d:=30) (by kernel_rfl) (Q00 (j:=11) hl rfl)) fun hc w hS=>?_
 exact Q2C ho.1 ((QG (j:=12) hl rfl rfl).trans (Q0i hc)) ((QG (j:=13) hl rfl rfl).trans (Q0i hc)) (Q3k hk hna w)
theorem Qit:SY 15:=by
 intro ga gb k n ca cb x0 x1 x3 x4 y0 y1 y3 y4 x2 y2 f e1 e2 e3 e4 e5 l df hl h0 h1 h2 h7 hk hna hnb b1 b2 b3 b4 b5 o v hi hv
 cases hv
 have ho:=Qo (ops:=((Tryz.f19.body.bind fun c=>Qs c 6).getD #[])) (i:=15) (p:=(.fieldAddr 48 (.tmp 33) 1,some (11,false))) (by kernel_rfl) hi
 refine Q0A ho.2 (QA (d:=30) (by kernel_rfl) (Q00 (j:=11) hl rfl)) fun hc w hS=>?_
 exact Q2D ho.1 ((QG (j:=14) hl rfl rfl).trans (Q0i hc)) (Qcy ga (k * 5) w)
theorem Qiu:SY 16:=by
 intro ga gb k n ca cb x0 x1 x3 x4 y0 y1 y3 y4 x2 y2 f e1 e2 e3 e4 e5 l df hl h0 h1 h2 h7 hk hna hnb b1 b2 b3 b4 b5 o v hi hv
 cases hv
 have ho:=Qo (ops:=((Tryz.f19.body.bind fun c=>Qs c 6).getD #[])) (i:=16) (p:=(.load 2 (.tmp 34),some (11,false))) (by kernel_rfl) hi
 refine Q0A ho.2 (QA (d:=30) (by kernel_rfl) (Q00 (j:=11) hl rfl)) fun hc w hS=>?_
 exact Q3j ho.1 ((QG (j:=15) hl rfl rfl).trans (Q0i hc)) (QdY hS.2.1)
theorem Qiv:SY 17:=by
 intro ga gb k n ca cb x0 x1 x3 x4 y0 y1 y3 y4 x2 y2 f e1 e2 e3 e4 e5 l df hl h0 h1 h2 h7 hk hna hnb b1 b2 b3 b4 b5 o v hi hv
 cases hv
 have ho:=Qo (ops:=((Tryz.f19.body.bind fun c=>Qs c 6).getD #[])) (i:=17) (p:=(.move (.tmp 1),some (11,false))) (by kernel_rfl) hi
 refine Q0A ho.2 (QA (d:=30) (by kernel_rfl) (Q00 (j:=11) hl rfl)) fun hc w hS=>?_
 exact Q0t ho.1 (Q1M h1)
theorem Qiw:SY 18:=by
 intro ga gb k n ca cb x0 x1 x3 x4 y0 y1 y3 y4 x2 y2 f e1 e2 e3 e4 e5 l df hl h0 h1 h2 h7 hk hna hnb b1 b2 b3 b4 b5 o v hi hv
 cases hv
 have ho:=Qo (ops:=((Tryz.f19.body.bind fun c=>Qs c 6).getD #[])) (i:=18) (p:=(.move (.tmp 7),some (11,false))) (by kernel_rfl) hi
 refine Q0A ho.2 (QA (d:=30) (by kernel_rfl) (Q00 (j:=11) hl rfl)) fun hc w hS=>?_
 exact Q0t ho.1 (Q1M h7)
theorem Qix:SY 19:=by
 intro ga gb k n ca cb x0 x1 x3 x4 y0 y1 y3 y4 x2 y2 f e1 e2 e3 e4 e5 l df hl h0 h1 h2 h7 hk hna hnb b1 b2 b3 b4 b5 o v hi hv
 cases hv
 have ho:=Qo (ops:=((Tryz.f19.body.bind fun c=>Qs c 6).getD #[])) (i:=19) (p:=(.indexAddr 29 (.tmp 36) (.tmp 37),some (11,false))) (by kernel_rfl) hi
 refine Q0A ho.2 (QA (d:=30) (by kernel_rfl) (Q00 (j:=11) hl rfl)) fun hc w hS=>?_
 exact Q2C ho.1 ((QG (j:=17) hl rfl rfl).trans (Q0i hc)) ((QG (j:=18) hl rfl rfl).trans (Q0i hc)) (Q3k hk hnb w)
theorem Qiy:SY 20:=by
 intro ga gb k n ca cb x0 x1 x3 x4 y0 y1 y3 y4 x2 y2 f e1 e2 e3 e4 e5 l df hl h0 h1 h2 h7 hk hna hnb b1 b2 b3 b4 b5 o v hi hv
 cases hv
 have ho:=Qo (ops:=((Tryz.f19.body.bind fun c=>Qs c 6).getD #[])) (i:=20) (p:=(.fieldAddr 48 (.tmp 38) 1,some (11,false))) (by kernel_rfl) hi
 refine Q0A ho.2 (QA (d:=30) (by kernel_rfl) (Q00 (j:=11) hl rfl)) fun hc w hS=>?_
 exact Q2D ho.1 ((QG (j:=19) hl rfl rfl).trans (Q0i hc)) (Qcy gb (k * 5) w)
theorem Qiz:SY 21:=by
 intro ga gb k n ca cb x0 x1 x3 x4 y0 y1 y3 y4 x2 y2 f e1 e2 e3 e4 e5 l df hl h0 h1 h2 h7 hk hna hnb b1 b2 b3 b4 b5 o v hi hv
 cases hv
 have ho:=Qo (ops:=((Tryz.f19.body.bind fun c=>Qs c 6).getD #[])) (i:=21) (p:=(.load 2 (.tmp 39),some (11,false))) (by kernel_rfl) hi
 refine Q0A ho.2 (QA (d:=30) (by kernel_rfl) (Q00 (j:=11) hl rfl)) fun hc w hS=>?_
 exact Q3j ho.1 ((QG (j:=20) hl rfl rfl).trans (Q0i hc)) (QdY hS.2.2.2.2.2.2.1)
theorem QiA:SY 22:=by
 intro ga gb k n ca cb x0 x1 x3 x4 y0 y1 y3 y4 x2 y2 f e1 e2 e3 e4 e5 l df hl h0 h1 h2 h7 hk hna hnb b1 b2 b3 b4 b5 o v hi hv
 cases hv
 have ho:=Qo (ops:=((Tryz.f19.body.bind fun c=>Qs c 6).getD #[])) (i:=22) (p:=(.binOp .neq 2 (.tmp 35) (.tmp 40) 2,some (11,false))) (by kernel_rfl) hi
 refine Q0A ho.2 (QA (d:=30) (by kernel_rfl) (Q00 (j:=11) hl rfl)) fun hc w hS=>?_
 exact Q7T ho.1 ((QG (j:=16) hl rfl rfl).trans (Q0i hc)) ((QG (j:=21) hl rfl rfl).trans (Q0i hc)) ((QkM _ _ _ _ w).trans (by rw [b2]<;>rfl))
theorem QiB:SY 23:=by
 intro ga gb k n ca cb x0 x1 x3 x4 y0 y1 y3 y4 x2 y2 f e1 e2 e3 e4 e5 l df hl h0 h1 h2 h7 hk hna hnb b1 b2 b3 b4 b5 o v hi hv
 cases hv
 have ho:=Qo (ops:=((Tryz.f19.body.bind fun c=>Qs c 6).getD #[])) (i:=23) (p:=(.pick (.tmp 30) (.const (.bool true)) (.tmp 41),none)) (by kernel_rfl) hi
 refine Q1a ho.2 fun w hS=>?_
 refine Q6R ho.1 (d:=e1) (QG (j:=11) hl rfl rfl) ?_
 rw [QG (j:=22) hl rfl rfl]
 (cases e1<;>cases e2<;>cases e3<;>cases e4<;>cases f<;>cases e5<;>rfl)
theorem QiC:SY 24:=by
 intro ga gb k n ca cb x0 x1 x3 x4 y0 y1 y3 y4 x2 y2 f e1 e2 e3 e4 e5 l df hl h0 h1 h2 h7 hk hna hnb b1 b2 b3 b4 b5 o v hi hv
 cases hv
 have ho:=Qo (ops:=((Tryz.f19.body.bind fun c=>Qs c 6).getD #[])) (i:=24) (p:=(.move (.tmp 42),none)) (by kernel_rfl) hi
 refine Q1a ho.2 fun w hS=>?_
 exact Q0t ho.1 (QG (j:=23) hl rfl rfl)
theorem QiD:SY 25:=by
 intro ga gb k n ca cb x0 x1 x3 x4 y0 y1 y3 y4 x2 y2 f e1 e2 e3 e4 e5 l df hl h0 h1 h2 h7 hk hna hnb b1 b2 b3 b4 b5 o v hi hv
 cases hv
 have ho:=Qo (ops:=((Tryz.f19.body.bind fun c=>Qs c 6).getD #[])) (i:=25) (p:=(.move (.tmp 0),some (24,false))) (by kernel_rfl) hi
 refine Q0A ho.2 (QA (d:=43) (by kernel_rfl) (Q00 (j:=24) hl rfl)) fun hc w hS=>?_
 exact Q0t ho.1 (Q1M h0)
theorem QiE:SY 26:=by
 intro ga gb k n ca cb x0 x1 x3 x4 y0 y1 y3 y4 x2 y2 f e1 e2 e3 e4 e5 l df hl h0 h1 h2 h7 hk hna hnb b1 b2 b3 b4 b5 o v hi hv
 cases hv
 have ho:=Qo (ops:=((Tryz.f19.body.bind fun c=>Qs c 6).getD #[])) (i:=26) (p:=(.move (.tmp 7),some (24,false))) (by kernel_rfl) hi
 refine Q0A ho.2 (QA (d:=43) (by kernel_rfl) (Q00 (j:=24) hl rfl)) fun hc w hS=>?_
 exact Q0t ho.1 (Q1M h7)
theorem QiF:SY 27:=by
 intro ga gb k n ca cb x0 x1 x3 x4 y0 y1 y3 y4 x2 y2 f e1 e2 e3 e4 e5 l df hl h0 h1 h2 h7 hk hna hnb b1 b2 b3 b4 b5 o v hi hv
 cases hv
 have ho:=Qo (ops:=((Tryz.f19.body.bind fun c=>Qs c 6).getD #[])) (i:=27) (p:=(.indexAddr 29 (.tmp 44) (.tmp 45),some (24,false))) (by kernel_rfl) hi
 refine Q0A ho.2 (QA (d:=43) (by kernel_rfl) (Q00 (j:=24) hl rfl)) fun hc w hS=>?_
 exact Q2C ho.1 ((QG (j:=25) hl rfl rfl).trans (Q0i hc)) ((QG (j:=26) hl rfl rfl).trans (Q0i hc)) (Q3k hk hna w)
theorem QiG:SY 28:=by
 intro ga gb k n ca cb x0 x1 x3 x4 y0 y1 y3 y4 x2 y2 f e1 e2 e3 e4 e5 l df hl h0 h1 h2 h7 hk hna hnb b1 b2 b3 b4 b5 o v hi hv
 cases hv
 have ho:=Qo (ops:=((Tryz.f19.body.bind fun c=>Qs c 6).getD #[])) (i:=28) (p:=(.fieldAddr 48 (.tmp 46) 2,some (24,false))) (by kernel_rfl) hi
 refine Q0A ho.2 (QA (d:=43) (by kernel_rfl) (Q00 (j:=24) hl rfl)) fun hc w hS=>?_
 exact Q2D ho.1 ((QG (j:=27) hl rfl rfl).trans (Q0i hc)) (Qcz ga (k * 5) w)
theorem QiH:SY 29:=by
 intro ga gb k n ca cb x0 x1 x3 x4 y0 y1 y3 y4 x2 y2 f e1 e2 e3 e4 e5 l df hl h0 h1 h2 h7 hk hna hnb b1 b2 b3 b4 b5 o v hi hv
 cases hv
 have ho:=Qo (ops:=((Tryz.f19.body.bind fun c=>Qs c 6).getD #[])) (i:=29) (p:=(.load 9 (.tmp 47),some (24,false))) (by kernel_rfl) hi
 refine Q0A ho.2 (QA (d:=43) (by kernel_rfl) (Q00 (j:=24) hl rfl)) fun hc w hS=>?_
 exact Q3j ho.1 ((QG (j:=28) hl rfl rfl).trans (Q0i hc)) (QdZ hS.2.2.1)
theorem QiI:SY 30:=by
 intro ga gb k n ca cb x0 x1 x3 x4 y0 y1 y3 y4 x2 y2 f e1 e2 e3 e4 e5 l df hl h0 h1 h2 h7 hk hna hnb b1 b2 b3 b4 b5 o v hi hv
 cases hv
 have ho:=Qo (ops:=((Tryz.f19.body.bind fun c=>Qs c 6).getD #[])) (i:=30) (p:=(.move (.tmp 1),some (24,false))) (by kernel_rfl) hi
 refine Q0A ho.2 (QA (d:=43) (by kernel_rfl) (Q00 (j:=24) hl rfl)) fun hc w hS=>?_
 exact Q0t ho.1 (Q1M h1)
theorem QiJ:SY 31:=by
 intro ga gb k n ca cb x0 x1 x3 x4 y0 y1 y3 y4 x2 y2 f e1 e2 e3 e4 e5 l df hl h0 h1 h2 h7 hk hna hnb b1 b2 b3 b4 b5 o v hi hv
 cases hv
 have ho:=Qo (ops:=((Tryz.f19.body.bind fun c=>Qs c 6).getD #[])) (i:=31) (p:=(.move (.tmp 7),some (24,false))) (by kernel_rfl) hi
 refine Q0A ho.2 (QA (d:=43) (by kernel_rfl) (Q00 (j:=24) hl rfl)) fun hc w hS=>?_
 exact Q0t ho.1 (Q1M h7)
theorem QiK:SY 32:=by
 intro ga gb k n ca cb x0 x1 x3 x4 y0 y1 y3 y4 x2 y2 f e1 e2 e3 e4 e5 l df hl h0 h1 h2 h7 hk hna hnb b1 b2 b3 b4 b5 o v hi hv
 cases hv
 have ho:=Qo (ops:=((Tryz.f19.body.bind fun c=>Qs c 6).getD #[])) (i:=32) (p:=(.indexAddr 29 (.tmp 49) (.tmp 50),some (24,false))) (by kernel_rfl) hi
 refine Q0A ho.2 (QA (d:=43) (by kernel_rfl) (Q00 (j:=24) hl rfl)) fun hc w hS=>?_
 exact Q2C ho.1 ((QG (j:=30) hl rfl rfl).trans (Q0i hc)) ((QG (j:=31) hl rfl rfl).trans (Q0i hc)) (Q3k hk hnb w)
theorem QiL:SY 33:=by
 intro ga gb k n ca cb x0 x1 x3 x4 y0 y1 y3 y4 x2 y2 f e1 e2 e3 e4 e5 l df hl h0 h1 h2 h7 hk hna hnb b1 b2 b3 b4 b5 o v hi hv
 cases hv
 have ho:=Qo (ops:=((Tryz.f19.body.bind fun c=>Qs c 6).getD #[])) (i:=33) (p:=(.fieldAddr 48 (.tmp 51) 2,some (24,false))) (by kernel_rfl) hi
 refine Q0A ho.2 (QA (d:=43) (by kernel_rfl) (Q00 (j:=24) hl rfl)) fun hc w hS=>?_
 exact Q2D ho.1 ((QG (j:=32) hl rfl rfl).trans (Q0i hc)) (Qcz gb (k * 5) w)
theorem QiM:SY 34:=by
 intro ga gb k n ca cb x0 x1 x3 x4 y0 y1 y3 y4 x2 y2 f e1 e2 e3 e4 e5 l df hl h0 h1 h2 h7 hk hna hnb b1 b2 b3 b4 b5 o v hi hv
 cases hv
 have ho:=Qo (ops:=((Tryz.f19.body.bind fun c=>Qs c 6).getD #[])) (i:=34) (p:=(.load 9 (.tmp 52),some (24,false))) (by kernel_rfl) hi
 refine Q0A ho.2 (QA (d:=43) (by kernel_rfl) (Q00 (j:=24) hl rfl)) fun hc w hS=>?_
 exact Q3j ho.1 ((QG (j:=33) hl rfl rfl).trans (Q0i hc)) (QdZ hS.2.2.2.2.2.2.2.1)
theorem QiN:SY 35:=by
 intro ga gb k n ca cb x0 x1 x3 x4 y0 y1 y3 y4 x2 y2 f e1 e2 e3 e4 e5 l df hl h0 h1 h2 h7 hk hna hnb b1 b2 b3 b4 b5 o v hi hv
 cases hv
 have ho:=Qo (ops:=((Tryz.f19.body.bind fun c=>Qs c 6).getD #[])) (i:=35) (p:=(.binOp .neq 9 (.tmp 48) (.tmp 53) 9,some (24,false))) (by kernel_rfl) hi
 refine Q0A ho.2 (QA (d:=43) (by kernel_rfl) (Q00 (j:=24) hl rfl)) fun hc w hS=>?_
 exact Q7T ho.1 ((QG (j:=29) hl rfl rfl).trans (Q0i hc)) ((QG (j:=34) hl rfl rfl).trans (Q0i hc)) ((QkN _ _ _ _ w).trans (by rw [b3]<;>rfl))
theorem QiO:SY 36:=by
 intro ga gb k n ca cb x0 x1 x3 x4 y0 y1 y3 y4 x2 y2 f e1 e2 e3 e4 e5 l df hl h0 h1 h2 h7 hk hna hnb b1 b2 b3 b4 b5 o v hi hv
 cases hv
 have ho:=Qo (ops:=((Tryz.f19.body.bind fun c=>Qs c 6).getD #[])) (i:=36) (p:=(.pick (.tmp 43) (.const (.bool true)) (.tmp 54),none)) (by kernel_rfl) hi
 refine Q1a ho.2 fun w hS=>?_
 refine Q6R ho.1 (d:=(e1 || e2)) (QG (j:=24) hl rfl rfl) ?_
 rw [QG (j:=35) hl rfl rfl]
 (cases e1<;>cases e2<;>cases e3<;>cases e4<;>cases f<;>cases e5<;>rfl)
theorem QiP:SY 37:=by
 intro ga gb k n ca cb x0 x1 x3 x4 y0 y1 y3 y4 x2 y2 f e1 e2 e3 e4 e5 l df hl h0 h1 h2 h7 hk hna hnb b1 b2 b3 b4 b5 o v hi hv
 cases hv
 have ho:=Qo (ops:=((Tryz.f19.body.bind fun c=>Qs c 6).getD #[])) (i:=37) (p:=(.move (.tmp 55),none)) (by kernel_rfl) hi
 refine Q1a ho.2 fun w hS=>?_
 exact Q0t ho.1 (QG (j:=36) hl rfl rfl)
theorem QiQ:SY 38:=by
 intro ga gb k n ca cb x0 x1 x3 x4 y0 y1 y3 y4 x2 y2 f e1 e2 e3 e4 e5 l df hl h0 h1 h2 h7 hk hna hnb b1 b2 b3 b4 b5 o v hi hv
 cases hv
 have ho:=Qo (ops:=((Tryz.f19.body.bind fun c=>Qs c 6).getD #[])) (i:=38) (p:=(.move (.tmp 0),some (37,false))) (by kernel_rfl) hi
 refine Q0A ho.2 (QA (d:=56) (by kernel_rfl) (Q00 (j:=37) hl rfl)) fun hc w hS=>?_
 exact Q0t ho.1 (Q1M h0)
theorem QiR:SY 39:=by
 intro ga gb k n ca cb x0 x1 x3 x4 y0 y1 y3 y4 x2 y2 f e1 e2 e3 e4 e5 l df hl h0 h1 h2 h7 hk hna hnb b1 b2 b3 b4 b5 o v hi hv
 cases hv
 have ho:=Qo (ops:=((Tryz.f19.body.bind fun c=>Qs c 6).getD #[])) (i:=39) (p:=(.move (.tmp 7),some (37,false))) (by kernel_rfl) hi
 refine Q0A ho.2 (QA (d:=56) (by kernel_rfl) (Q00 (j:=37) hl rfl)) fun hc w hS=>?_
 exact Q0t ho.1 (Q1M h7)
theorem QiS:SY 40:=by
 intro ga gb k n ca cb x0 x1 x3 x4 y0 y1 y3 y4 x2 y2 f e1 e2 e3 e4 e5 l df hl h0 h1 h2 h7 hk hna hnb b1 b2 b3 b4 b5 o v hi hv
 cases hv
 have ho:=Qo (ops:=((Tryz.f19.body.bind fun c=>Qs c 6).getD #[])) (i:=40) (p:=(.indexAddr 29 (.tmp 57) (.tmp 58),some (37,false))) (by kernel_rfl) hi
 refine Q0A ho.2 (QA (d:=56) (by kernel_rfl) (Q00 (j:=37) hl rfl)) fun hc w hS=>?_
 exact Q2C ho.1 ((QG (j:=38) hl rfl rfl).trans (Q0i hc)) ((QG (j:=39) hl rfl rfl).trans (Q0i hc)) (Q3k hk hna w)
theorem QiT:SY 41:=by
 intro ga gb k n ca cb x0 x1 x3 x4 y0 y1 y3 y4 x2 y2 f e1 e2 e3 e4 e5 l df hl h0 h1 h2 h7 hk hna hnb b1 b2 b3 b4 b5 o v hi hv
 cases hv
 have ho:=Qo (ops:=((Tryz.f19.body.bind fun c=>Qs c 6).getD #[])) (i:=41) (p:=(.fieldAddr 48 (.tmp 59) 4,some (37,false))) (by kernel_rfl) hi
 refine Q0A ho.2 (QA (d:=56) (by kernel_rfl) (Q00 (j:=37) hl rfl)) fun hc w hS=>?_
 exact Q2D ho.1 ((QG (j:=40) hl rfl rfl).trans (Q0i hc)) (QcB ga (k * 5) w)
theorem QiU:SY 42:=by
 intro ga gb k n ca cb x0 x1 x3 x4 y0 y1 y3 y4 x2 y2 f e1 e2 e3 e4 e5 l df hl h0 h1 h2 h7 hk hna hnb b1 b2 b3 b4 b5 o v hi hv
 cases hv
 have ho:=Qo (ops:=((Tryz.f19.body.bind fun c=>Qs c 6).getD #[])) (i:=42) (p:=(.load 3 (.tmp 60),some (37,false))) (by kernel_rfl) hi
 refine Q0A ho.2 (QA (d:=56) (by kernel_rfl) (Q00 (j:=37) hl rfl)) fun hc w hS=>?_
 exact Q3j ho.1 ((QG (j:=41) hl rfl rfl).trans (Q0i hc)) (Q5B hS.2.2.2.2.1)
theorem QiV:SY 43:=by
 intro ga gb k n ca cb x0 x1 x3 x4 y0 y1 y3 y4 x2 y2 f e1 e2 e3 e4 e5 l df hl h0 h1 h2 h7 hk hna hnb b1 b2 b3 b4 b5 o v hi hv
 cases hv
 have ho:=Qo (ops:=((Tryz.f19.body.bind fun c=>Qs c 6).getD #[])) (i:=43) (p:=(.move (.tmp 1),some (37,false))) (by kernel_rfl) hi
 refine Q0A ho.2 (QA (d:=56) (by kernel_rfl) (Q00 (j:=37) hl rfl)) fun hc w hS=>?_
 exact Q0t ho.1 (Q1M h1)
theorem QiW:SY 44:=by
 intro ga gb k n ca cb x0 x1 x3 x4 y0 y1 y3 y4 x2 y2 f e1 e2 e3 e4 e5 l df hl h0 h1 h2 h7 hk hna hnb b1 b2 b3 b4 b5 o v hi hv
 cases hv
 have ho:=Qo (ops:=((Tryz.f19.body.bind fun c=>Qs c 6).getD #[])) (i:=44) (p:=(.move (.tmp 7),some (37,false))) (by kernel_rfl) hi
 refine Q0A ho.2 (QA (d:=56) (by kernel_rfl) (Q00 (j:=37) hl rfl)) fun hc w hS=>?_
 exact Q0t ho.1 (Q1M h7)
theorem QiX:SY 45:=by
 intro ga gb k n ca cb x0 x1 x3 x4 y0 y1 y3 y4 x2 y2 f e1 e2 e3 e4 e5 l df hl h0 h1 h2 h7 hk hna hnb b1 b2 b3 b4 b5 o v hi hv
 cases hv
 have ho:=Qo (ops:=((Tryz.f19.body.bind fun c=>Qs c 6).getD #[])) (i:=45) (p:=(.indexAddr 29 (.tmp 62) (.tmp 63),some (37,false))) (by kernel_rfl) hi
 refine Q0A ho.2 (QA (d:=56) (by kernel_rfl) (Q00 (j:=37) hl rfl)) fun hc w hS=>?_
 exact Q2C ho.1 ((QG (j:=43) hl rfl rfl).trans (Q0i hc)) ((QG (j:=44) hl rfl rfl).trans (Q0i hc)) (Q3k hk hnb w)
theorem QiY:SY 46:=by
 intro ga gb k n ca cb x0 x1 x3 x4 y0 y1 y3 y4 x2 y2 f e1 e2 e3 e4 e5 l df hl h0 h1 h2 h7 hk hna hnb b1 b2 b3 b4 b5 o v hi hv
 cases hv
 have ho:=Qo (ops:=((Tryz.f19.body.bind fun c=>Qs c 6).getD #[])) (i:=46) (p:=(.fieldAddr 48 (.tmp 64) 4,some (37,false))) (by kernel_rfl) hi
 refine Q0A ho.2 (QA (d:=56) (by kernel_rfl) (Q00 (j:=37) hl rfl)) fun hc w hS=>?_
 exact Q2D ho.1 ((QG (j:=45) hl rfl rfl).trans (Q0i hc)) (QcB gb (k * 5) w)
theorem QiZ:SY 47:=by
 intro ga gb k n ca cb x0 x1 x3 x4 y0 y1 y3 y4 x2 y2 f e1 e2 e3 e4 e5 l df hl h0 h1 h2 h7 hk hna hnb b1 b2 b3 b4 b5 o v hi hv
 cases hv
 have ho:=Qo (ops:=((Tryz.f19.body.bind fun c=>Qs c 6).getD #[])) (i:=47) (p:=(.load 3 (.tmp 65),some (37,false))) (by kernel_rfl) hi
 refine Q0A ho.2 (QA (d:=56) (by kernel_rfl) (Q00 (j:=37) hl rfl)) fun hc w hS=>?_
 exact Q3j ho.1 ((QG (j:=46) hl rfl rfl).trans (Q0i hc)) (Q5B hS.2.2.2.2.2.2.2.2.2)
theorem Qj0:SY 48:=by
 intro ga gb k n ca cb x0 x1 x3 x4 y0 y1 y3 y4 x2 y2 f e1 e2 e3 e4 e5 l df hl h0 h1 h2 h7 hk hna hnb b1 b2 b3 b4 b5 o v hi hv
 cases hv
 have ho:=Qo (ops:=((Tryz.f19.body.bind fun c=>Qs c 6).getD #[])) (i:=48) (p:=(.binOp .neq 3 (.tmp 61) (.tmp 66) 3,some (37,false))) (by kernel_rfl) hi
 refine Q0A ho.2 (QA (d:=56) (by kernel_rfl) (Q00 (j:=37) hl rfl)) fun hc w hS=>?_
 exact Q7T ho.1 ((QG (j:=42) hl rfl rfl).trans (Q0i hc)) ((QG (j:=47) hl rfl rfl).trans (Q0i hc)) ((QcC _ _ _ _ w).trans (by rw [b4]<;>rfl))
theorem Qj1:SY 49:=by
 intro ga gb k n ca cb x0 x1 x3 x4 y0 y1 y3 y4 x2 y2 f e1 e2 e3 e4 e5 l df hl h0 h1 h2 h7 hk hna hnb b1 b2 b3 b4 b5 o v hi hv
 cases hv
 have ho:=Qo (ops:=((Tryz.f19.body.bind fun c=>Qs c 6).getD #[])) (i:=49) (p:=(.pick (.tmp 56) (.const (.bool true)) (.tmp 67),none)) (by kernel_rfl) hi
 refine Q1a ho.2 fun w hS=>?_
 refine Q6R ho.1 (d:=(e1 || e2 || e3)) (QG (j:=37) hl rfl rfl) ?_
 rw [QG (j:=48) hl rfl rfl]
 (cases e1<;>cases e2<;>cases e3<;>cases e4<;>cases f<;>cases e5<;>rfl)
theorem Qj2:SY 50:=by
 intro ga gb k n ca cb x0 x1 x3 x4 y0 y1 y3 y4 x2 y2 f e1 e2 e3 e4 e5 l df hl h0 h1 h2 h7 hk hna hnb b1 b2 b3 b4 b5 o v hi hv
 cases hv
 have ho:=Qo (ops:=((Tryz.f19.body.bind fun c=>Qs c 6).getD #[])) (i:=50) (p:=(.move (.tmp 68),none)) (by kernel_rfl) hi
 refine Q1a ho.2 fun w hS=>?_
 exact Q0t ho.1 (QG (j:=49) hl rfl rfl)
theorem Qj3:SY 51:=by
 intro ga gb k n ca cb x0 x1 x3 x4 y0 y1 y3 y4 x2 y2 f e1 e2 e3 e4 e5 l df hl h0 h1 h2 h7 hk hna hnb b1 b2 b3 b4 b5 o v hi hv
 cases hv
 have ho:=Qo (ops:=((Tryz.f19.body.bind fun c=>Qs c 6).getD #[])) (i:=51) (p:=(.move (.tmp 2),some (50,false))) (by kernel_rfl) hi
 refine Q0A ho.2 (QA (d:=69) (by kernel_rfl) (Q00 (j:=50) hl rfl)) fun hc w hS=>?_
 exact Q0t ho.1 (Q1M h2)
theorem Qj4:SY 52:=by
 intro ga gb k n ca cb x0 x1 x3 x4 y0 y1 y3 y4 x2 y2 f e1 e2 e3 e4 e5 l df hl h0 h1 h2 h7 hk hna hnb b1 b2 b3 b4 b5 o v hi hv
 cases hv
 have ho:=Qo (ops:=((Tryz.f19.body.bind fun c=>Qs c 6).getD #[])) (i:=52) (p:=(.move (.tmp 70),some (50,false))) (by kernel_rfl) hi
 refine Q0A ho.2 (QA (d:=69) (by kernel_rfl) (Q00 (j:=50) hl rfl)) fun hc w hS=>?_
 exact Q0t ho.1 ((QG (j:=51) hl rfl rfl).trans (Q0i hc))
theorem Qj5:SY 53:=by
 intro ga gb k n ca cb x0 x1 x3 x4 y0 y1 y3 y4 x2 y2 f e1 e2 e3 e4 e5 l df hl h0 h1 h2 h7 hk hna hnb b1 b2 b3 b4 b5 o v hi hv
 cases hv
 have ho:=Qo (ops:=((Tryz.f19.body.bind fun c=>Qs c 6).getD #[])) (i:=53) (p:=(.move (.tmp 0),some (52,true))) (by kernel_rfl) hi
 refine Q1v (yb:=if (e1 || e2 || e3 || e4) then none else some f) ho.2 ?_ ?_ ?_
 ·cases hc:(e1 || e2 || e3 || e4) with
  | true=>exact Q1g (d:=71) (by kernel_rfl) ((Q00 (j:=52) hl rfl).trans (by rw [hc];rfl))
  | false=>exact QA (d:=71) (by kernel_rfl) ((Q00 (j:=52) hl rfl).trans (by rw [hc];rfl))
 ·intro hc w hS
  have hc:(e1 || e2 || e3 || e4 || !f)=false:=by revert hc;cases (e1 || e2 || e3 || e4)<;>cases f<;>simp
  rw [hc]
  exact Q0t ho.1 (Q1M h0)
 ·intro hc
  have hc:(e1 || e2 || e3 || e4 || !f)=true:=by revert hc;cases (e1 || e2 || e3 || e4)<;>cases f<;>simp
  rw [hc]
  rfl
theorem Qj6:SY 54:=by
 intro ga gb k n ca cb x0 x1 x3 x4 y0 y1 y3 y4 x2 y2 f e1 e2 e3 e4 e5 l df hl h0 h1 h2 h7 hk hna hnb b1 b2 b3 b4 b5 o v hi hv
 cases hv
 have ho:=Qo (ops:=((Tryz.f19.body.bind fun c=>Qs c 6).getD #[])) (i:=54) (p:=(.move (.tmp 7),some (52,true))) (by kernel_rfl) hi
 refine Q1v (yb:=if (e1 || e2 || e3 || e4) then none else some f) ho.2 ?_ ?_ ?_
 ·cases hc:(e1 || e2 || e3 || e4) with
  | true=>exact Q1g (d:=71) (by kernel_rfl) ((Q00 (j:=52) hl rfl).trans (by rw [hc];rfl))
  | false=>exact QA (d:=71) (by kernel_rfl) ((Q00 (j:=52) hl rfl).trans (by rw [hc];rfl))
 ·intro hc w hS
  have hc:(e1 || e2 || e3 || e4 || !f)=false:=by revert hc;cases (e1 || e2 || e3 || e4)<;>cases f<;>simp
  rw [hc]
  exact Q0t ho.1 (Q1M h7)
 ·intro hc
  have hc:(e1 || e2 || e3 || e4 || !f)=true:=by revert hc;cases (e1 || e2 || e3 || e4)<;>cases f<;>simp
  rw [hc]
  rfl
theorem Qj7:SY 55:=by
 intro ga gb k n ca cb x0 x1 x3 x4 y0 y1 y3 y4 x2 y2 f e1 e2 e3 e4 e5 l df hl h0 h1 h2 h7 hk hna hnb b1 b2 b3 b4 b5 o v hi hv
 cases hv
 have ho:=Qo (ops:=((Tryz.f19.body.bind fun c=>Qs c 6).getD #[])) (i:=55) (p:=(.indexAddr 29 (.tmp 72) (.tmp 73),some (52,true))) (by kernel_rfl) hi
 refine Q1v (yb:=if (e1 || e2 || e3 || e4) then none else some f) ho.2 ?_ ?_ ?_
 ·cases hc:(e1 || e2 || e3 || e4) with
  | true=>exact Q1g (d:=71) (by kernel_rfl) ((Q00 (j:=52) hl rfl).trans (by rw [hc];rfl))
  | false=>exact QA (d:=71) (by kernel_rfl) ((Q00 (j:=52) hl rfl).trans (by rw [hc];rfl))
 ·intro hc w hS
  have hc:(e1 || e2 || e3 || e4 || !f)=false:=by revert hc;cases (e1 || e2 || e3 || e4)<;>cases f<;>simp
  rw [hc]
  exact Q2C ho.1 ((QG (j:=53) hl rfl rfl).trans (Q0i hc)) ((QG (j:=54) hl rfl rfl).trans (Q0i hc)) (Q3k hk hna w)
 ·intro hc
  have hc:(e1 || e2 || e3 || e4 || !f)=true:=by revert hc;cases (e1 || e2 || e3 || e4)<;>cases f<;>simp
  rw [hc]
  rfl
theorem Qj8:SY 56:=by
 intro ga gb k n ca cb x0 x1 x3 x4 y0 y1 y3 y4 x2 y2 f e1 e2 e3 e4 e5 l df hl h0 h1 h2 h7 hk hna hnb b1 b2 b3 b4 b5 o v hi hv
 cases hv
 have ho:=Qo (ops:=((Tryz.f19.body.bind fun c=>Qs c 6).getD #[])) (i:=56) (p:=(.fieldAddr 48 (.tmp 74) 3,some (52,true))) (by kernel_rfl) hi
 refine Q1v (yb:=if (e1 || e2 || e3 || e4) then none else some f) ho.2 ?_ ?_ ?_
 ·cases hc:(e1 || e2 || e3 || e4) with
  | true=>exact Q1g (d:=71) (by kernel_rfl) ((Q00 (j:=52) hl rfl).trans (by rw [hc];rfl))
  | false=>exact QA (d:=71) (by kernel_rfl) ((Q00 (j:=52) hl rfl).trans (by rw [hc];rfl))
 ·intro hc w hS
  have hc:(e1 || e2 || e3 || e4 || !f)=false:=by revert hc;cases (e1 || e2 || e3 || e4)<;>cases f<;>simp
  rw [hc]
  exact Q2D ho.1 ((QG (j:=55) hl rfl rfl).trans (Q0i hc)) (QcA ga (k * 5) w)
 ·intro hc
  have hc:(e1 || e2 || e3 || e4 || !f)=true:=by revert hc;cases (e1 || e2 || e3 || e4)<;>cases f<;>simp
  rw [hc]
  rfl
theorem Qj9:SY 57:=by
 intro ga gb k n ca cb x0 x1 x3 x4 y0 y1 y3 y4 x2 y2 f e1 e2 e3 e4 e5 l df hl h0 h1 h2 h7 hk hna hnb b1 b2 b3 b4 b5 o v hi hv
 cases hv
 have ho:=Qo (ops:=((Tryz.f19.body.bind fun c=>Qs c 6).getD #[])) (i:=57) (p:=(.load 3 (.tmp 75),some (52,true))) (by kernel_rfl) hi
 refine Q1v (yb:=if (e1 || e2 || e3 || e4) then none else some f) ho.2 ?_ ?_ ?_
 ·cases hc:(e1 || e2 || e3 || e4) with
  | true=>exact Q1g (d:=71) (by kernel_rfl) ((Q00 (j:=52) hl rfl).trans (by rw [hc];rfl))
  | false=>exact QA (d:=71) (by kernel_rfl) ((Q00 (j:=52) hl rfl).trans (by rw [hc];rfl))
 ·intro hc w hS
  have hc:(e1 || e2 || e3 || e4 || !f)=false:=by revert hc;cases (e1 || e2 || e3 || e4)<;>cases f<;>simp
  rw [hc]
  exact Q3j ho.1 ((QG (j:=56) hl rfl rfl).trans (Q0i hc)) (Q5B hS.2.2.2.1)
 ·intro hc
  have hc:(e1 || e2 || e3 || e4 || !f)=true:=by revert hc;cases (e1 || e2 || e3 || e4)<;>cases f<;>simp
  rw [hc]
  rfl
theorem Qja:SY 58:=by
 intro ga gb k n ca cb x0 x1 x3 x4 y0 y1 y3 y4 x2 y2 f e1 e2 e3 e4 e5 l df hl h0 h1 h2 h7 hk hna hnb b1 b2 b3 b4 b5 o v hi hv
 cases hv
 have ho:=Qo (ops:=((Tryz.f19.body.bind fun c=>Qs c 6).getD #[])) (i:=58) (p:=(.move (.tmp 1),some (52,true))) (by kernel_rfl) hi
 refine Q1v (yb:=if (e1 || e2 || e3 || e4) then none else some f) ho.2 ?_ ?_ ?_
 ·cases hc:(e1 || e2 || e3 || e4) with
  | true=>exact Q1g (d:=71) (by kernel_rfl) ((Q00 (j:=52) hl rfl).trans (by rw [hc];rfl))
  | false=>exact QA (d:=71) (by kernel_rfl) ((Q00 (j:=52) hl rfl).trans (by rw [hc];rfl))
 ·intro hc w hS
  have hc:(e1 || e2 || e3 || e4 || !f)=false:=by revert hc;cases (e1 || e2 || e3 || e4)<;>cases f<;>simp
  rw [hc]
  exact Q0t ho.1 (Q1M h1)
 ·intro hc
  have hc:(e1 || e2 || e3 || e4 || !f)=true:=by revert hc;cases (e1 || e2 || e3 || e4)<;>cases f<;>simp
  rw [hc]
  rfl
theorem Qjb:SY 59:=by
 intro ga gb k n ca cb x0 x1 x3 x4 y0 y1 y3 y4 x2 y2 f e1 e2 e3 e4 e5 l df hl h0 h1 h2 h7 hk hna hnb b1 b2 b3 b4 b5 o v hi hv
 cases hv
 have ho:=Qo (ops:=((Tryz.f19.body.bind fun c=>Qs c 6).getD #[])) (i:=59) (p:=(.move (.tmp 7),some (52,true))) (by kernel_rfl) hi
 refine Q1v (yb:=if (e1 || e2 || e3 || e4) then none else some f) ho.2 ?_ ?_ ?_
 ·cases hc:(e1 || e2 || e3 || e4) with
  | true=>exact Q1g (d:=71) (by kernel_rfl) ((Q00 (j:=52) hl rfl).trans (by rw [hc];rfl))
  | false=>exact QA (d:=71) (by kernel_rfl) ((Q00 (j:=52) hl rfl).trans (by rw [hc];rfl))
 ·intro hc w hS
  have hc:(e1 || e2 || e3 || e4 || !f)=false:=by revert hc;cases (e1 || e2 || e3 || e4)<;>cases f<;>simp
  rw [hc]
  exact Q0t ho.1 (Q1M h7)
 ·intro hc
  have hc:(e1 || e2 || e3 || e4 || !f)=true:=by revert hc;cases (e1 || e2 || e3 || e4)<;>cases f<;>simp
  rw [hc]
  rfl
theorem Qjc:SY 60:=by
 intro ga gb k n ca cb x0 x1 x3 x4 y0 y1 y3 y4 x2 y2 f e1 e2 e3 e4 e5 l df hl h0 h1 h2 h7 hk hna hnb b1 b2 b3 b4 b5 o v hi hv
 cases hv
 have ho:=Qo (ops:=((Tryz.f19.body.bind fun c=>Qs c 6).getD #[])) (i:=60) (p:=(.indexAddr 29 (.tmp 77) (.tmp 78),some (52,true))) (by kernel_rfl) hi
 refine Q1v (yb:=if (e1 || e2 || e3 || e4) then none else some f) ho.2 ?_ ?_ ?_
 ·cases hc:(e1 || e2 || e3 || e4) with
  | true=>exact Q1g (d:=71) (by kernel_rfl) ((Q00 (j:=52) hl rfl).trans (by rw [hc];rfl))
  | false=>exact QA (d:=71) (by kernel_rfl) ((Q00 (j:=52) hl rfl).trans (by rw [hc];rfl))
 ·intro hc w hS
  have hc:(e1 || e2 || e3 || e4 || !f)=false:=by revert hc;cases (e1 || e2 || e3 || e4)<;>cases f<;>simp
  rw [hc]
  exact Q2C ho.1 ((QG (j:=58) hl rfl rfl).trans (Q0i hc)) ((QG (j:=59) hl rfl rfl).trans (Q0i hc)) (Q3k hk hnb w)
 ·intro hc
  have hc:(e1 || e2 || e3 || e4 || !f)=true:=by revert hc;cases (e1 || e2 || e3 || e4)<;>cases f<;>simp
  rw [hc]
  rfl
theorem Qjd:SY 61:=by
 intro ga gb k n ca cb x0 x1 x3 x4 y0 y1 y3 y4 x2 y2 f e1 e2 e3 e4 e5 l df hl h0 h1 h2 h7 hk hna hnb b1 b2 b3 b4 b5 o v hi hv
 cases hv
 have ho:=Qo (ops:=((Tryz.f19.body.bind fun c=>Qs c 6).getD #[])) (i:=61) (p:=(.fieldAddr 48 (.tmp 79) 3,some (52,true))) (by kernel_rfl) hi
 refine Q1v (yb:=if (e1 || e2 || e3 || e4) then none else some f) ho.2 ?_ ?_ ?_
 ·cases hc:(e1 || e2 || e3 || e4) with
  | true=>exact Q1g (d:=71) (by kernel_rfl) ((Q00 (j:=52) hl rfl).trans (by rw [hc];rfl))
  | false=>exact QA (d:=71) (by kernel_rfl) ((Q00 (j:=52) hl rfl).trans (by rw [hc];rfl))
 ·intro hc w hS
  have hc:(e1 || e2 || e3 || e4 || !f)=false:=by revert hc;cases (e1 || e2 || e3 || e4)<;>cases f<;>simp
  rw [hc]
  exact Q2D ho.1 ((QG (j:=60) hl rfl rfl).trans (Q0i hc)) (QcA gb (k * 5) w)
 ·intro hc
  have hc:(e1 || e2 || e3 || e4 || !f)=true:=by revert hc;cases (e1 || e2 || e3 || e4)<;>cases f<;>simp
  rw [hc]
  rfl
theorem Qje:SY 62:=by
 intro ga gb k n ca cb x0 x1 x3 x4 y0 y1 y3 y4 x2 y2 f e1 e2 e3 e4 e5 l df hl h0 h1 h2 h7 hk hna hnb b1 b2 b3 b4 b5 o v hi hv
 cases hv
 have ho:=Qo (ops:=((Tryz.f19.body.bind fun c=>Qs c 6).getD #[])) (i:=62) (p:=(.load 3 (.tmp 80),some (52,true))) (by kernel_rfl) hi
 refine Q1v (yb:=if (e1 || e2 || e3 || e4) then none else some f) ho.2 ?_ ?_ ?_
 ·cases hc:(e1 || e2 || e3 || e4) with
  | true=>exact Q1g (d:=71) (by kernel_rfl) ((Q00 (j:=52) hl rfl).trans (by rw [hc];rfl))
  | false=>exact QA (d:=71) (by kernel_rfl) ((Q00 (j:=52) hl rfl).trans (by rw [hc];rfl))
 ·intro hc w hS
  have hc:(e1 || e2 || e3 || e4 || !f)=false:=by revert hc;cases (e1 || e2 || e3 || e4)<;>cases f<;>simp
  rw [hc]
  exact Q3j ho.1 ((QG (j:=61) hl rfl rfl).trans (Q0i hc)) (Q5B hS.2.2.2.2.2.2.2.2.1)
 ·intro hc
  have hc:(e1 || e2 || e3 || e4 || !f)=true:=by revert hc;cases (e1 || e2 || e3 || e4)<;>cases f<;>simp
  rw [hc]
  rfl
theorem Qjf:SY 63:=by
 intro ga gb k n ca cb x0 x1 x3 x4 y0 y1 y3 y4 x2 y2 f e1 e2 e3 e4 e5 l df hl h0 h1 h2 h7 hk hna hnb b1 b2 b3 b4 b5 o v hi hv
 cases hv
 have ho:=Qo (ops:=((Tryz.f19.body.bind fun c=>Qs c 6).getD #[])) (i:=63) (p:=(.binOp .neq 3 (.tmp 76) (.tmp 81) 3,some (52,true))) (by kernel_rfl) hi
 refine Q1v (yb:=if (e1 || e2 || e3 || e4) then none else some f) ho.2 ?_ ?_ ?_
 ·cases hc:(e1 || e2 || e3 || e4) with
  | true=>exact Q1g (d:=71) (by kernel_rfl) ((Q00 (j:=52) hl rfl).trans (by rw [hc];rfl))
  | false=>exact QA (d:=71) (by kernel_rfl) ((Q00 (j:=52) hl rfl).trans (by rw [hc];rfl))
 ·intro hc w hS
  have hc:(e1 || e2 || e3 || e4 || !f)=false:=by revert hc;cases (e1 || e2 || e3 || e4)<;>cases f<;>simp
  rw [hc]
  exact Q7T ho.1 ((QG (j:=57) hl rfl rfl).trans (Q0i hc)) ((QG (j:=62) hl rfl rfl).trans (Q0i hc)) ((QcC _ _ _ _ w).trans (by rw [b5]<;>rfl))
 ·intro hc
  have hc:(e1 || e2 || e3 || e4 || !f)=true:=by revert hc;cases (e1 || e2 || e3 || e4)<;>cases f<;>simp
  rw [hc]
  rfl
theorem Qjg:SY 64:=by
 intro ga gb k n ca cb x0 x1 x3 x4 y0 y1 y3 y4 x2 y2 f e1 e2 e3 e4 e5 l df hl h0 h1 h2 h7 hk hna hnb b1 b2 b3 b4 b5 o v hi hv
 cases hv
 have ho:=Qo (ops:=((Tryz.f19.body.bind fun c=>Qs c 6).getD #[])) (i:=64) (p:=(.pick (.tmp 71) (.tmp 82) (.const (.bool false)),some (50,false))) (by kernel_rfl) hi
 refine Q1v (yb:=some (e1 || e2 || e3 || e4)) ho.2 (QA (d:=69) (by kernel_rfl) (Q00 (j:=50) hl rfl)) ?_ ?_
 ·intro hc w hS
  have hc:(e1 || e2 || e3 || e4)=false:=by injection hc
  refine Q6R ho.1 (d:=f) ((QG (j:=52) hl rfl rfl).trans (Q0i hc)) ?_
  rw [QG (j:=63) hl rfl rfl,hc]
  cases f
  ·rfl
  ·simp only [if_true,Bool.true_and,gd]
   cases e5<;>simp_all [gd]
 ·intro hc
  have hc:(e1 || e2 || e3 || e4)=true:=by
   cases hx:(e1 || e2 || e3 || e4) with
   | true=>rfl
   | false=>exact absurd (by rw [hx]) hc
  rw [hc]
  rfl
theorem Qjh:SY 65:=by
 intro ga gb k n ca cb x0 x1 x3 x4 y0 y1 y3 y4 x2 y2 f e1 e2 e3 e4 e5 l df hl h0 h1 h2 h7 hk hna hnb b1 b2 b3 b4 b5 o v hi hv
 cases hv
 have ho:=Qo (ops:=((Tryz.f19.body.bind fun c=>Qs c 6).getD #[])) (i:=65) (p:=(.pick (.tmp 69) (.const (.bool true)) (.tmp 83),none)) (by kernel_rfl) hi
 refine Q1a ho.2 fun w hS=>?_
 refine Q6R ho.1 (d:=(e1 || e2 || e3 || e4)) (QG (j:=50) hl rfl rfl) ?_
 rw [QG (j:=64) hl rfl rfl]
 (cases e1<;>cases e2<;>cases e3<;>cases e4<;>cases f<;>cases e5<;>rfl)
theorem Qkr (hl:l.length=19) (h0:l[0]? = some (.slice (some ⟨ga,0,none⟩) n ca)) (h1:l[1]? = some (.slice (some ⟨gb,0,none⟩) n cb)) (h2:l[2]? = some (.bool f)) (h7:l[7]? = some (.int .i64 k)) (hk:k < n) (hna:n≤ca) (hnb:n≤cb) (b1:decide (x0≠y0)=e1) (b2:decide (x1≠y1)=e2) (b3:decide (x2≠y2)=e3) (b4:decide (x4≠y4)=e4) (b5:decide (x3≠y3)=e5):∀ i,i < 66→Qfq ga gb k n ca cb x0 x1 x2 x3 x4 y0 y1 y2 y3 y4 f e1 e2 e3 e4 e5 l df i:=by
 have a0:∀ i,i < 0→Qfq ga gb k n ca cb x0 x1 x2 x3 x4 y0 y1 y2 y3 y4 f e1 e2 e3 e4 e5 l df i:=fun i h=>absurd h (by omega)
 have a1:=Qt a0 (Qkh hl h0 h1 h2 h7 hk hna hnb b1 b2 b3 b4 b5)
 have a2:=Qt a1 (Qki hl h0 h1 h2 h7 hk hna hnb b1 b2 b3 b4 b5)
 have a3:=Qt a2 (Qkj hl h0 h1 h2 h7 hk hna hnb b1 b2 b3 b4 b5)
 have a4:=Qt a3 (Qkk hl h0 h1 h2 h7 hk hna hnb b1 b2 b3 b4 b5)
 have a5:=Qt a4 (Qkl hl h0 h1 h2 h7 hk hna hnb b1 b2 b3 b4 b5)
 have a6:=Qt a5 (Qkm hl h0 h1 h2 h7 hk hna hnb b1 b2 b3 b4 b5)
 have a7:=Qt a6 (Qkn hl h0 h1 h2 h7 hk hna hnb b1 b2 b3 b4 b5)
 have a8:=Qt a7 (Qko hl h0 h1 h2 h7 hk hna hnb b1 b2 b3 b4 b5)
 have a9:=Qt a8 (Qkp hl h0 h1 h2 h7 hk hna hnb b1 b2 b3 b4 b5)
 have a10:=Qt a9 (Qkq hl h0 h1 h2 h7 hk hna hnb b1 b2 b3 b4 b5)
 have a11:=Qt a10 (Qio hl h0 h1 h2 h7 hk hna hnb b1 b2 b3 b4 b5)
 have a12:=Qt a11 (Qip hl h0 h1 h2 h7 hk hna hnb b1 b2 b3 b4 b5)
 have a13:=Qt a12 (Qiq hl h0 h1 h2 h7 hk hna hnb b1 b2 b3 b4 b5)
 have a14:=Qt a13 (Qir hl h0 h1 h2 h7 hk hna hnb b1 b2 b3 b4 b5)
 have a15:=Qt a14 (Qis hl h0 h1 h2 h7 hk hna hnb b1 b2 b3 b4 b5)
 have a16:=Qt a15 (Qit hl h0 h1 h2 h7 hk hna hnb b1 b2 b3 b4 b5)
 have a17:=Qt a16 (Qiu hl h0 h1 h2 h7 hk hna hnb b1 b2 b3 b4 b5)
 have a18:=Qt a17 (Qiv hl h0 h1 h2 h7 hk hna hnb b1 b2 b3 b4 b5)
 have a19:=Qt a18 (Qiw hl h0 h1 h2 h7 hk hna hnb b1 b2 b3 b4 b5)
 have a20:=Qt a19 (Qix hl h0 h1 h2 h7 hk hna hnb b1 b2 b3 b4 b5)
 have a21:=Qt a20 (Qiy hl h0 h1 h2 h7 hk hna hnb b1 b2 b3 b4 b5)
 have a22:=Qt a21 (Qiz hl h0 h1 h2 h7 hk hna hnb b1 b2 b3 b4 b5)
 have a23:=Qt a22 (QiA hl h0 h1 h2 h7 hk hna hnb b1 b2 b3 b4 b5)
 have a24:=Qt a23 (QiB hl h0 h1 h2 h7 hk hna hnb b1 b2 b3 b4 b5)
 have a25:=Qt a24 (QiC hl h0 h1 h2 h7 hk hna hnb b1 b2 b3 b4 b5)
 have a26:=Qt a25 (QiD hl h0 h1 h2 h7 hk hna hnb b1 b2 b3 b4 b5)
 have a27:=Qt a26 (QiE hl h0 h1 h2 h7 hk hna hnb b1 b2 b3 b4 b5)
 have a28:=Qt a27 (QiF hl h0 h1 h2 h7 hk hna hnb b1 b2 b3 b4 b5)
 have a29:=Qt a28 (QiG hl h0 h1 h2 h7 hk hna hnb b1 b2 b3 b4 b5)
 have a30:=Qt a29 (QiH hl h0 h1 h2 h7 hk hna hnb b1 b2 b3 b4 b5)
 have a31:=Qt a30 (QiI hl h0 h1 h2 h7 hk hna hnb b1 b2 b3 b4 b5)
 have a32:=Qt a31 (QiJ hl h0 h1 h2 h7 hk hna hnb b1 b2 b3 b4 b5)
 have a33:=Qt a32 (QiK hl h0 h1 h2 h7 hk hna hnb b1 b2 b3 b4 b5)
 have a34:=Qt a33 (QiL hl h0 h1 h2 h7 hk hna hnb b1 b2 b3 b4 b5)
 have a35:=Qt a34 (QiM hl h0 h1 h2 h7 hk hna hnb b1 b2 b3 b4 b5)
 have a36:=Qt a35 (QiN hl h0 h1 h2 h7 hk hna hnb b1 b2 b3 b4 b5)
 have a37:=Qt a36 (QiO hl h0 h1 h2 h7 hk hna hnb b1 b2 b3 b4 b5)
 have a38:=Qt a37 (QiP hl h0 h1 h2 h7 hk hna hnb b1 b2 b3 b4 b5)
 have a39:=Qt a38 (QiQ hl h0 h1 h2 h7 hk hna hnb b1 b2 b3 b4 b5)
 have a40:=Qt a39 (QiR hl h0 h1 h2 h7 hk hna hnb b1 b2 b3 b4 b5)
 have a41:=Qt a40 (QiS hl h0 h1 h2 h7 hk hna hnb b1 b2 b3 b4 b5)
 have a42:=Qt a41 (QiT hl h0 h1 h2 h7 hk hna hnb b1 b2 b3 b4 b5)
 have a43:=Qt a42 (QiU hl h0 h1 h2 h7 hk hna hnb b1 b2 b3 b4 b5)
 have a44:=Qt a43 (QiV hl h0 h1 h2 h7 hk hna hnb b1 b2 b3 b4 b5)
 have a45:=Qt a44 (QiW hl h0 h1 h2 h7 hk hna hnb b1 b2 b3 b4 b5)
 have a46:=Qt a45 (QiX hl h0 h1 h2 h7 hk hna hnb b1 b2 b3 b4 b5)
 have a47:=Qt a46 (QiY hl h0 h1 h2 h7 hk hna hnb b1 b2 b3 b4 b5)
 have a48:=Qt a47 (QiZ hl h0 h1 h2 h7 hk hna hnb b1 b2 b3 b4 b5)
 have a49:=Qt a48 (Qj0 hl h0 h1 h2 h7 hk hna hnb b1 b2 b3 b4 b5)
 have a50:=Qt a49 (Qj1 hl h0 h1 h2 h7 hk hna hnb b1 b2 b3 b4 b5)
 have a51:=Qt a50 (Qj2 hl h0 h1 h2 h7 hk hna hnb b1 b2 b3 b4 b5)
 have a52:=Qt a51 (Qj3 hl h0 h1 h2 h7 hk hna hnb b1 b2 b3 b4 b5)
 have a53:=Qt a52 (Qj4 hl h0 h1 h2 h7 hk hna hnb b1 b2 b3 b4 b5)
 have a54:=Qt a53 (Qj5 hl h0 h1 h2 h7 hk hna hnb b1 b2 b3 b4 b5)
 have a55:=Qt a54 (Qj6 hl h0 h1 h2 h7 hk hna hnb b1 b2 b3 b4 b5)
 have a56:=Qt a55 (Qj7 hl h0 h1 h2 h7 hk hna hnb b1 b2 b3 b4 b5)
 have a57:=Qt a56 (Qj8 hl h0 h1 h2 h7 hk hna hnb b1 b2 b3 b4 b5)
 have a58:=Qt a57 (Qj9 hl h0 h1 h2 h7 hk hna hnb b1 b2 b3 b4 b5)
 have a59:=Qt a58 (Qja hl h0 h1 h2 h7 hk hna hnb b1 b2 b3 b4 b5)
 have a60:=Qt a59 (Qjb hl h0 h1 h2 h7 hk hna hnb b1 b2 b3 b4 b5)
 have a61:=Qt a60 (Qjc hl h0 h1 h2 h7 hk hna hnb b1 b2 b3 b4 b5)
 have a62:=Qt a61 (Qjd hl h0 h1 h2 h7 hk hna hnb b1 b2 b3 b4 b5)
 have a63:=Qt a62 (Qje hl h0 h1 h2 h7 hk hna hnb b1 b2 b3 b4 b5)
 have a64:=Qt a63 (Qjf hl h0 h1 h2 h7 hk hna hnb b1 b2 b3 b4 b5)
 have a65:=Qt a64 (Qjg hl h0 h1 h2 h7 hk hna hnb b1 b2 b3 b4 b5)
 have a66:=Qt a65 (Qjh hl h0 h1 h2 h7 hk hna hnb b1 b2 b3 b4 b5)
 exact a66
end
end Go.Proofs.YtmbcibgknckenaaGreatDoor
namespace Go.Proofs.YtmbcibgknckenaaGreatDoor
open Go.RowKit
open Go.MapKept
theorem Qdy {Q:Exit→Act→World→Prop} {a:Act} {l m:List Value} {w:World} {ops:Array Oper} {ga gb k n ca cb:Nat} {x0 x1 x3 x4 y0 y1 y3 y4:Int} {x2 y2:ByteArray} {f:Bool}
  (ho:ops=((Tryz.f19.body.bind fun c=>Qs c 6).getD #[])) (ha:a.tmps=(l++m).toArray) (hl:l.length=19) (hm:m.length=66) (h0:l[0]? = some (.slice (some ⟨ga,0,none⟩) n ca)) (h1:l[1]? = some (.slice (some ⟨gb,0,none⟩) n cb)) (h2:l[2]? = some (.bool f)) (h7:l[7]? = some (.int .i64 k)) (hk:k < n) (hna:n≤ca) (hnb:n≤cb)
  (hS:Q9P ga gb k x0 x1 x2 x3 x4 y0 y1 y2 y3 y4 w) (hQp:∀ (d:Nat) (v:Value) c a w,Q (.panic c) (a.put (some d) v) w→Q (.panic c) a w)
  (h:Q .normal ⟨(l++Q6S ga gb k n ca cb x0 x1 x2 x3 x4 y0 y1 y2 y3 y4 f (decide (x0≠y0)) (decide (x1≠y1)) (decide (x2≠y2)) (decide (x4≠y4)) (decide (x3≠y3))).toArray,a.defers⟩ w.drew):(Code.region 6 ops true).wp Tryz.prog Q a w:=by
 subst ho
 refine Qcw (Q9P ga gb k x0 x1 x2 x3 x4 y0 y1 y2 y3 y4) (base:=19) (Q6S ga gb k n ca cb x0 x1 x2 x3 x4 y0 y1 y2 y3 y4 f (decide (x0≠y0)) (decide (x1≠y1)) (decide (x2≠y2)) (decide (x4≠y4)) (decide (x3≠y3))) (by kernel_rfl) Qkg ha hl (by kernel_rfl) hm hS hQp ?_ h
 intro i o v hi hv
 have hlt:i < 66:=by
  rcases Nat.lt_or_ge i 66 with h | h
  ·exact h
  ·rw [List.getElem?_eq_none (show (Q6S ga gb k n ca cb x0 x1 x2 x3 x4 y0 y1 y2 y3 y4 f (decide (x0≠y0)) (decide (x1≠y1)) (decide (x2≠y2)) (decide (x4≠y4)) (decide (x3≠y3))).length≤i from h)] at hv
   cases hv
 exact Qkr hl h0 h1 h2 h7 hk hna hnb rfl rfl rfl rfl rfl i hlt o v hi hv
def QkO (w:World) (g k:Nat) (x:Q0I):Prop:=w.cell? ⟨g,k * 5,none⟩=some (.int .i64 x.kind)∧w.cell? ⟨g,k * 5 + 1,none⟩=some (.int .i64 x.n)∧w.cell? ⟨g,k * 5 + 2,none⟩=some (.string ⟨x.s.toArray⟩)∧w.cell? ⟨g,k * 5 + 3,none⟩=some (.int .i64 x.at')∧w.cell? ⟨g,k * 5 + 4,none⟩=some (.int .i64 x.len)
def Q4n (w:World) (v:Value) (ns:List Q0I):Prop:=∃ ad cap,v = .slice ad ns.length cap∧ns.length≤cap∧∀ k x,ns[k]? = some x→∃ g,ad=some ⟨g,0,none⟩∧QkO w g k x
def Q0x (f:Bool) (x:Q0I):Int×Int×List UInt8×Int×Int:=(x.kind,x.n,x.s,x.len,if f then x.at' else 0)
theorem QkP (f:Bool) (x y:Q0I):(decide ((x.kind:Int)≠y.kind) || decide ((x.n:Int)≠y.n) || decide ((⟨x.s.toArray⟩:ByteArray)≠⟨y.s.toArray⟩) || decide ((x.len:Int)≠y.len) || (f && decide ((x.at':Int)≠y.at')))=decide (Q0x f x≠Q0x f y):=by
 have hs:((⟨x.s.toArray⟩:ByteArray)=⟨y.s.toArray⟩)↔x.s=y.s:=by
  constructor
  ·intro h
   have:x.s.toArray=y.s.toArray:=by injection h
   simpa using this
  ·intro h;rw [h]
 unfold Q0x
 cases f<;>simp [hs]<;>by_cases c1:(x.kind:Int)=y.kind<;>by_cases c2:x.n=y.n<;>by_cases c3:x.s=y.s<;>by_cases c4:(x.len:Int)=y.len<;>by_cases c5:(x.at':Int)=y.at'<;>simp_all
theorem QcD (f:Bool) {w:World} {va vb:Value} {a b:List Q0I} (hA:Q4n w va a) (hB:Q4n w vb b) (hn:a.length≤10000) :
  Calls Tryz.prog 19 #[va,vb,.bool f] w fun e w'=>e = .returned (.bool (decide (a.map (Q0x f)=b.map (Q0x f))))∧(∀ c,w'.cell? c=w.cell? c)∧Below w.heap.size w w':=by
 obtain ⟨aa,ca,rfl,hca,hA⟩:=hA
 obtain ⟨ab,cb,rfl,hcb,hB⟩:=hB
 by_cases hl:a.length=b.length
 ·rw [← hl] at hcb ⊢
  have HA:=Hid.mk hA
  have HB:=Hid.mk hB
  have HL:=Hid.mk hl
  have E:=Hid.mk (show (a.take 0).map (Q0x f)=(b.take 0).map (Q0x f) by simp)
  clear hA hB hl
  go_enter Tryz.func19,Tryz.ntmps19
  go_wp2
  go_loopw [7] (fun i ur=>∃ k:Nat,i = .int .i64 k∧k≤a.length∧Hid ((a.take k).map (Q0x f)=(b.take k).map (Q0x f))∧Hid (∀ c,ur.cell? c=w.cell? c)∧Hid (Below w.heap.size w ur)) (fun i _=>a.length - (intOf i).toNat)
  case atStart=>exact ⟨0,rfl,by omega,E,Hid.mk fun _=>rfl,Hid.mk (Below.refl _ _)⟩
  case round=>
   obtain ⟨k,rfl,hk,hE,hcells,hbw⟩:=hrel
   clear E
   rcases Nat.lt_or_ge k a.length with hlt | hge
   ·have hltb:k < b.length:=by have:=HL.out;omega
    obtain ⟨ga,hga,hNa⟩:=HA.out k a[k] (List.getElem?_eq_getElem hlt)
    obtain ⟨gb,hgb,hNb⟩:=HB.out k b[k] (List.getElem?_eq_getElem hltb)
    cases hga
    cases hgb
    have HSS:Hid (Q9P ga gb k a[k].kind a[k].n ⟨a[k].s.toArray⟩ a[k].at' a[k].len b[k].kind b[k].n ⟨b[k].s.toArray⟩ b[k].at' b[k].len wr):=by
     obtain ⟨p0,p1,p2,p3,p4⟩:=hNa
     obtain ⟨q0,q1,q2,q3,q4⟩:=hNb
     unfold Q9P
     simp only [hcells.out]
     exact ⟨p0,p1,p2,p3,p4,q0,q1,q2,q3,q4⟩
    have hk0:(k:Int) < (a.length:Int):=by omega
    clear hNa hNb
    go_wp2_with fail
    refine Qdy (l:=[_,_,_,_,_,_,_,_,_,_,_,_,_,_,_,_,_,_,_]) (m:=[_,_,_,_,_,_,_,_,_,_,_,_,_,_,_,_,_,_,_,_,_,_,_,_,_,_,_,_,_,_,_,_,_,_,_,_,_,_,_,_,_,_,_,_,_,_,_,_,_,_,_,_,_,_,_,_,_,_,_,_,_,_,_,_,_,_]) (by kernel_rfl) rfl rfl rfl rfl rfl rfl rfl hlt hca hcb HSS.out (fun _ _ _ _ _ h=>h) ?_
    simp only [Q6S,QkP,List.cons_append,List.nil_append]
    by_cases hne:Q0x f a[k]=Q0x f b[k]
    ·rw [decide_eq_false (show ¬ (Q0x f a[k]≠Q0x f b[k]) from fun h=>h hne)]
     have hE2:Hid ((a.take (k + 1)).map (Q0x f)=(b.take (k + 1)).map (Q0x f)):=by
      show _=_
      rw [List.take_succ_eq_append_getElem hlt,List.take_succ_eq_append_getElem hltb,List.map_append,List.map_append,hE.out,List.map_singleton,List.map_singleton,hne]
     have hc2:Hid (∀ c,wr.drew.cell? c=w.cell? c):=hcells.out
     have hb2:Hid (Below w.heap.size w wr.drew):=hbw.out.drew
     clear hE hcells hbw HSS hne
     go_wp2
     exact ⟨⟨k + 1,by go_num,by omega,hE2,hc2,hb2⟩,by simp [intOf];omega⟩
    ·rw [decide_eq_true (show Q0x f a[k]≠Q0x f b[k] from hne)]
     have NE:Hid (¬ a.map (Q0x f)=b.map (Q0x f)):=by
      intro he
      apply hne
      have h1:(a.map (Q0x f))[k]? = (b.map (Q0x f))[k]?:=by rw [he]
      rw [List.getElem?_map,List.getElem?_map,List.getElem?_eq_getElem hlt,List.getElem?_eq_getElem hltb] at h1
      simpa using h1
     have hc2:Hid (∀ c,wr.drew.cell? c=w.cell? c):=hcells.out
     have hb2:Hid (Below w.heap.size w wr.drew):=hbw.out.drew
     clear hE hcells hbw HSS hne
     go_wp2
     go_ret
     exact ⟨by rw [decide_eq_false NE.out];rfl,hc2.out,hb2.out⟩
   ·have hkk:k=a.length:=by omega
    subst hkk
    have hE:=hE.out
    have HEQ:Hid (a.map (Q0x f)=b.map (Q0x f)):=by
     show _=_
     rw [List.take_length,HL.out,List.take_length] at hE
     exact hE
    have hge0:¬ ((a.length:Int) < (a.length:Int)):=by omega
    clear hE
    go_wp2
    go_ret
    exact ⟨by rw [decide_eq_true HEQ.out];rfl,hcells.out,hbw.out⟩
 ·have NE:Hid (¬ a.map (Q0x f)=b.map (Q0x f)):=fun h=>hl (by simpa using congrArg List.length h)
  have hl':¬ ((a.length:Int)=(b.length:Int)):=by omega
  clear hA hB
  go_enter Tryz.func19,Tryz.ntmps19
  go_wp2
  go_ret
  exact ⟨by rw [decide_eq_false NE.out];rfl,fun _=>rfl,Below.refl _ _⟩
def okN {α:Type}:Except Nat α→Bool
 | .ok _=>true
 | .error _=>false
theorem Qh8 (c:Int):Q1d c∈Q59:=by
 have h:=Q95 c (n:=8) (by omega)
 have hl:Q59.length=8:=rfl
 unfold Q1d
 rw [List.getD_eq_getElem?_getD,List.getElem?_eq_getElem (by omega)]
 exact List.getElem_mem _
theorem Qdz:Q59.all (fun n=>okN (Q1A (Q1o Q0z).2 n 0 0 0))=true:=by kernel_rfl
theorem Qfr {places:List (List UInt8×Nat)} {n:List UInt8} (h:okN (Q1A places n 0 0 0)=true) {dep fuel size:Int} (h1:0≤dep) (h2:dep≤64) (h3:0≤fuel) (h4:fuel≤10000) (h5:0≤size) (h6:size≤100000):∃ p,Q1A places n dep fuel size = .ok p:=by
 unfold Q1A at h ⊢
 cases hm:QI places n with
 | none=>rw [hm] at h;cases h
 | some p=>
  refine ⟨p,?_⟩
  simp only
  rw [if_pos]
  simp [Q2F,h1,h2,h3,h4,h5,h6]
theorem Qfs (c:Int) {dep fuel size:Int} (h1:0≤dep) (h2:dep≤64) (h3:0≤fuel) (h4:fuel≤10000) (h5:0≤size) (h6:size≤100000):∃ p,Q1A (Q1o Q0z).2 (Q1d c) dep fuel size = .ok p:=
 Qfr (List.all_eq_true.1 Qdz _ (Qh8 c)) h1 h2 h3 h4 h5 h6
def Qjv:DefL→Bool
 | .typedef t=>!Q3d t.ty
 | _=>true
theorem Qft:Q0z.all Qjv=true:=by kernel_rfl
theorem QdA:Qca (Q13 Q0z):=by
 intro n t h hv
 have:=List.all_eq_true.1 Qft _ (Qcs h)
 simp [Qjv,hv,Q3d] at this
def Qe0 (w:World) (n b:List UInt8) (dep fuel size:Nat) (e:Ending) (u':World):Prop:=∃ v er,e = .returned (.tuple #[v,er])∧Qb [] w u' ∧
 ((∃ ns,Q3g (Q13 Q0z) n b dep fuel size = .ok ns∧0 < ns.length∧ns.length≤10000∧er = .nilIface∧u'.ownsRow w.heap.size 48 5 v ns.length (ns.flatMap Q22)) ∨
  (∃ f g,Q3g (Q13 Q0z) n b dep fuel size = .error f∧v = .slice none 0 0∧er = .iface 79 (.pointer (some ⟨g,0,none⟩))∧u'.heap[g]? = some (.cells #[.int .i64 f.no,.int .i64 f.at'] 83)))
theorem QdB {w:World} {bs:List (Nat×Obj)} {B:Nat} (hS:Q3W bs B Q0z) (hw:∀ p∈bs,w.heap[p.1]? = some p.2) (c:Int) (b:List UInt8) (hb:b.length≤maxLen) (dep fuel size:Nat) (h1:dep≤64) (h2:fuel≤10000) (h3:size≤100000) :
  Calls Tryz.prog 17 #[.pointer (some ⟨B,0,none⟩),.string ⟨(Q1d c).toArray⟩,.string ⟨b.toArray⟩,.agg #[.int .i64 dep,.int .i64 fuel,.int .i64 size]] w (Qe0 w (Q1d c) b dep fuel size):=by
 obtain ⟨p,hp⟩:=Qfs c (dep:=dep) (fuel:=fuel) (size:=size) (by omega) (by omega) (by omega) (by omega) (by omega) (by omega)
 refine (Qfg hS hw Qfo Qh2 (Q1d c) b dep fuel size hb).mono ?_
 rintro e u' ⟨hk,h⟩
 rw [hp] at h
 simp only [Int.toNat_natCast] at h
 rcases h with ⟨k,h,_⟩ | ⟨p',ns,v,_,h2,rfl,h4⟩ | ⟨p',f,g,_,h2,rfl,h4,h5⟩
 ·cases h
 ·exact ⟨v,.nilIface,rfl,hk,Or.inl ⟨ns,h2,Qdh QdA h2,Nat.le_trans (QeU h2) (by omega),rfl,h4⟩⟩
 ·exact ⟨_,_,rfl,hk,Or.inr ⟨f,g,h2,rfl,rfl,h5⟩⟩
theorem Qfu:∀ (ns:List Q0N) (k:Nat) (x:Q0N) (j:Nat),ns[k]? = some x→j < 5→(ns.flatMap Q22)[k * 5 + j]? = (Q22 x)[j]?:=by
 intro ns
 induction ns with
 | nil=>intro k x j h _;simp at h
 | cons y ys ih=>
  intro k x j h hj
  rw [List.flatMap_cons]
  cases k with
  | zero=>
   simp only [List.getElem?_cons_zero,Option.some.injEq] at h
   subst h
   rw [List.getElem?_append_left (by simp;omega)]
   simp
  | succ k=>
   simp only [List.getElem?_cons_succ] at h
   rw [List.getElem?_append_right (by simp;omega)]
   have e:(k + 1) * 5 + j - (Q22 y).length=k * 5 + j:=by simp;omega
   rw [e]
   exact ih k x j h hj
theorem neqF (p:Addr) (w:World):(binOp BinOp.neq 24 (.iface 79 (.pointer (some p))) .nilIface).run Tryz.prog w = .ok (.bool true) w:=by kernel_rfl
theorem eqlF (p:Addr) (w:World):(binOp BinOp.eql 24 (.iface 79 (.pointer (some p))) .nilIface).run Tryz.prog w = .ok (.bool false) w:=by kernel_rfl
theorem Qji (w:World):(binOp BinOp.eql 24 .nilIface .nilIface).run Tryz.prog w = .ok (.bool true) w:=by kernel_rfl
theorem Q8v {w:World} {bs:List (Nat×Obj)} {B:Nat} (hS:Q3W bs B Q0z) (hw:∀ p∈bs,w.heap[p.1]? = some p.2) (c:Int) (b:List UInt8) (hb:b.length≤maxLen) :
  Calls Tryz.prog 17 #[.pointer (some ⟨B,0,none⟩),.string ⟨(Q1d c).toArray⟩,.string ⟨b.toArray⟩,.agg #[.int .i64 64,.int .i64 10000,.int .i64 100000]] w (Qe0 w (Q1d c) b 64 10000 100000):=
 QdB hS hw c b hb 64 10000 100000 (by omega) (by omega) (by omega)
theorem Q1w {bs:List (Nat×Obj)} {w w':World} (h:∀ p∈bs,w.heap[p.1]? = some p.2) (hk:Qb [] w w'):∀ p∈bs,w'.heap[p.1]? = some p.2:=fun p hp=>(hk.block _ (Qc (h p hp)) (by simp)).trans (h p hp)
end Go.Proofs.YtmbcibgknckenaaGreatDoor
namespace Go.Proofs.YtmbcibgknckenaaGreatDoor
open Go.ChangeShapes Go.WideShapes Go.ChangeAt Go.RowKit
theorem Qjj:ownKnob Tryz.prog.godebug=none:=by kernel_rfl
theorem QkQ : Tryz.prog.globalNamed "strconv.ErrRange" = some 4 := by kernel_rfl
theorem Qks : Tryz.prog.globalNamed "strconv.ErrSyntax" = some 3 := by kernel_rfl
theorem QkR:(Tryz.prog.globals[4]?).map (·.type)=some 24:=by kernel_rfl
theorem Qkt:(Tryz.prog.globals[3]?).map (·.type)=some 24:=by kernel_rfl
theorem Q7U {W:World} {n:String} {g:Nat} {cs:Array Value} {name:String} {d:DataW Unit} {p:List MemPlace} {fuel:Nat} (hg:Tryz.prog.globalNamed n=some g) (hv:W.var? Tryz.prog n=some cs)
  (hd:DataW.trod (fun _=>()) Tryz.prog W 0 (fun _=>true) false fuel 24 cs.toList=some (.iface name d,p)):∃ te pe,W.cell? ⟨g,0,none⟩=some (.iface te pe):=by
 obtain ⟨_,u,v,hcs,_,_⟩:=iface_of_trod Tryz.underlying24 hd
 refine ⟨u,v,?_⟩
 have:=World.var?_cell hg hv 0
 obtain ⟨l⟩:=cs
 simp only at hcs
 subst hcs
 simpa using this
theorem Qfv {W:World} (h:laidMetH Tryz.prog Rows.apartRow.laid W) (hsh:W.ShapedOpen Tryz.prog):Gl W:=by
 rw [MakeChecks.laidMetH_plain _ _ _ (by kernel_rfl)] at h
 obtain ⟨ps,⟨g0,t0,cs0,f0,p0,q0,hg0,ht0,hv0,hd0,⟨g1,t1,cs1,f1,p1,q1,hg1,ht1,hv1,hd1,⟨g2,t2,cs2,f2,p2,q2,hg2,ht2,hv2,hd2,⟨g3,t3,cs3,f3,p3,q3,hg3,ht3,hv3,hd3,⟨g4,t4,cs4,f4,p4,q4,hg4,ht4,hv4,hd4,_,_⟩,_⟩,_⟩,_⟩,_⟩,_,_⟩:=h
 obtain rfl:=Option.some.inj (QkQ.symm.trans hg3)
 obtain rfl:=Option.some.inj (Qks.symm.trans hg4)
 obtain rfl:=Option.some.inj (QkR.symm.trans ht3)
 obtain rfl:=Option.some.inj (Qkt.symm.trans ht4)
 exact ⟨cell_of_shapedOpen_int (zero:=#[.int .i64 0]) (t:=3) hsh (of_decide_eq_true (by kernel_rfl)) (by kernel_rfl) rfl (by kernel_rfl) (by kernel_rfl) Tryz.underlying3,Q7U hg4 hv4 hd4,Q7U hg3 hv3 hd3⟩
theorem Qjk (os:Os) (args:Array Value):laidMetH Tryz.prog Rows.apartRow.laid ((World.doorLaid Tryz.prog 88 os).forCall (fun _ _=>0) ⟨#[],args,[]⟩).memory:=
 laidMetH_of_parts3 (fuel:=8) (laidMet_of_run' 8 (by kernel_rfl) (by kernel_rfl)) (by kernel_rfl) (by kernel_rfl)
section
variable {H : Type} {enc : TypeId × Value → H}
theorem Qfw {C:Checked} {os:Os} {f:FuncId} {fn:Func} {s:ChangeSpec} {X:World→Array Value→Prop}
  (hX:∀ (w w':World) (args:Array Value),w.heap=w'.heap→X w args→X w' args)
  (own:ownKnob C.prog.godebug=none) (started:os.Started) (noInit:C.prog.inits.idxOf? f=none) (hfn:C.prog.funcs[f]? = some fn)
  (witness:∃ (w:World) (tape:Tape) (i:Input),w.os=os∧(w.forCall tape i).Shaped C.prog∧i.vars=[]∧Input.okWide C.prog (w.forCall tape i) .any w.heap.size f i ∧
   ((s.pre enc C.prog fn [] false (w.forCall tape i).memory i.args∧X (w.forCall tape i).memory i.args)∧sizedMet enc C.prog fn (OpenSpec.ofChange s) false (w.forCall tape i).memory i.args)∧({}:Assume).holds C.prog (lone (Frame.enter C.prog f i.args .normal) [] (w.forCall tape i)))
  (contract:∀ (W:World) (base:Nat) (args:Array Value) (ds gs:List (DataW H)) (before:List MemPlace),
   (∀ (j:Nat) t v,fn.params[j]? = some t→args[j]? = some v→Value.okWide C.prog W .any base t v) →
   DataW.Whole enc C.prog fn.params.toList s.vars false W args.toList ds gs before→X W args→W.ShapedOpen C.prog →
   Calls C.prog f args W fun e W'=>∃ v,e = .returned v∧s.post enc C.prog fn false true false false W args v W') :
  ReturnsInHanded {} C os f .any (fun w args=>(s.pre enc C.prog fn [] false w args∧X w args)∧sizedMet enc C.prog fn (OpenSpec.ofChange s) false w args) (s.post enc C.prog fn false true false false):=by
 refine returnsInHanded_of_calls own started noInit witness ?_
 intro w tape i _ hsh _ hok hpre _
 obtain ⟨_,_,_,fn',hfn',_,_,_,_,hval⟩:=hok
 have e:fn'=fn:=Option.some.inj (hfn'.symm.trans hfn)
 subst e
 obtain ⟨⟨⟨ds,gs,before,hw,hc⟩,hx⟩,hz⟩:=hpre
 have hw':=DataW.Whole.of_heap (w':=w.forCall tape i) (by rfl) hw
 refine (contract (w.forCall tape i) w.heap.size i.args ds gs before hval hw' (hX _ _ _ (by rfl) hx) hsh).mono fun e W' ⟨v,he,hp⟩=>?_
 subst he
 exact ChangeSpec.post_blind hp
end
theorem Qac {w w':World} (h:Qb [] w w'):Below w.heap.size w w':=⟨h.os,h.tape,h.output,h.size,fun k hk=>h.block k hk (by simp)⟩
end Go.Proofs.YtmbcibgknckenaaGreatDoor
namespace Go.Proofs.YtmbcibgknckenaaGreatDoor
open Go.RowKit
open Go.MapKept
def Q6T (w:World) (g o:Nat) (x:Q0I):Prop:=w.cell? ⟨g,o,none⟩=some (.int .i64 x.kind)∧w.cell? ⟨g,o + 1,none⟩=some (.int .i64 x.n)∧w.cell? ⟨g,o + 2,none⟩=some (.string ⟨x.s.toArray⟩)∧w.cell? ⟨g,o + 3,none⟩=some (.int .i64 x.at')∧w.cell? ⟨g,o + 4,none⟩=some (.int .i64 x.len)
def Q7V (w:World) (nsl:Value) (v:List Q0I):Prop:=∃ ad cap,nsl = .slice ad v.length cap∧v.length≤cap∧cap≤maxLen∧∀ k x,v[k]? = some x→∃ g o,ad=some ⟨g,o,none⟩∧Q6T w g (o + k * 5) x
abbrev Q0l (x:Q0I):List Value:=[.int .i64 x.kind,.int .i64 x.n,.string ⟨x.s.toArray⟩,.int .i64 x.at',.int .i64 x.len]
theorem Q7W {w:World} {base:Nat} {T:TypeId} {v:Value} {ns:List Q0N} (h:w.ownsRow base T 5 v ns.length (ns.flatMap Q22)):Q7V w v (ns.map toG):=by
 obtain ⟨hl,h⟩:=h
 rcases h with ⟨rfl,h0⟩ | ⟨g,cap,cur,rfl,hb,hc,h1,h2,h3,h4⟩
 ·have hn:ns=[]:=by
   cases ns with
   | nil=>rfl
   | cons x xs=>simp at h0
  subst hn
  exact ⟨none,0,rfl,by simp,by simp,fun k x hx=>by simp at hx⟩
 ·refine ⟨some ⟨g,0,none⟩,cap,by simp,by simpa using h1,h2,fun k y hy=>?_⟩
  rw [List.getElem?_map] at hy
  cases hx:ns[k]? with
  | none=>rw [hx] at hy;cases hy
  | some x=>
   rw [hx] at hy
   cases hy
   refine ⟨g,0,rfl,?_⟩
   rw [← hl] at h4
   have key:∀ j,j < 5→∀ v,(Q22 x)[j]? = some v→w.cell? ⟨g,0 + k * 5 + j,none⟩=some v:=fun j hj v hv=>by
    rw [Nat.zero_add]
    exact Qw hc h4 (by rw [Qfu ns k x j hx hj,hv])
   exact ⟨key 0 (by omega) _ rfl,key 1 (by omega) _ rfl,key 2 (by omega) _ rfl,key 3 (by omega) _ rfl,key 4 (by omega) _ rfl⟩
end Go.Proofs.YtmbcibgknckenaaGreatDoor
namespace Go.Proofs.YtmbcibgknckenaaGreatDoor
open Go.RowKit Go.Extern.Stop Go.Stop Go.Extern
abbrev hdl (t:Nat):Value:=.pointer (some ⟨8,t,none⟩)
end Go.Proofs.YtmbcibgknckenaaGreatDoor
namespace Go.Proofs.YtmbcibgknckenaaGreatDoor
open Go.RowKit
open Go.MapKept
def Q0c (l:List Q0I):List Q0I:=l.filter fun x=>x.kind == 2
theorem Q6w {l:List Q0I} {k:Nat} (hk:k < l.length):Q0c (l.take (k + 1))=Q0c (l.take k)++if l[k].kind=2 then [l[k]] else []:=by
 unfold Q0c
 rw [List.take_succ_eq_append_getElem hk,List.filter_append]
 congr 1
 by_cases h:l[k].kind=2<;>simp [h]
theorem QaB (x:Q0I):∀ u∈Q0l x,u.oneCell'=true:=by
 intro u hu
 simp only [Q0l,List.mem_cons,List.not_mem_nil,or_false] at hu
 rcases hu with rfl | rfl | rfl | rfl | rfl<;>rfl
theorem Q7X (l:List Q0I):(Q0c l).length≤l.length:=List.length_filter_le _ _
theorem Qh9 {w:World} {nsl:Value} {l:List Q0I} (hn:Q7V w nsl l) (hl:l.length≤10000) :
  Calls Tryz.prog 65 #[nsl] w fun e w'=>∃ v,e = .returned v∧Qb [] w w'∧w'.ownsRow w.heap.size 48 5 v (Q0c l).length ((Q0c l).flatMap Q0l):=by
 obtain ⟨ad,cap,rfl,hvc,hcm,hnodes⟩:=hn
 obtain ⟨i0,hi0,hz0,hz1,hz2⟩:=info_parts Q92
 have HN:=Hid.mk hnodes
 clear hnodes
 go_enter Tryz.func65,Tryz.ntmps65
 go_wp2_with fail
 have hz3:(Value.agg #[.int .i64 0,.int .i64 0,.string ⟨#[]⟩,.int .i64 0,.int .i64 0]).cells.size=5:=by decide
 go_loopw [3,8] (fun osl i ur=>∃ (k:Nat),i = .int .i64 k∧k≤l.length∧Hid (Qb [] w ur)∧Hid (ur.ownsRow w.heap.size 48 5 osl (Q0c (l.take k)).length ((Q0c (l.take k)).flatMap Q0l))) (fun _ i _=>l.length - (intOf i).toNat)
 case atStart=>exact ⟨0,rfl,by omega,Qb.refl [] _,by show World.ownsRow _ _ _ _ _ _ _;simpa [Q0c] using World.ownsRow_nil _ _ _ _⟩
 case round=>
  obtain ⟨k,rfl,hk,HK,HO⟩:=hrel
  rcases Nat.lt_or_ge k l.length with hlt | hge
  ·obtain ⟨g,o,rfl,hN⟩:=HN.out k l[k] (List.getElem?_eq_getElem hlt)
   have hgl:g < w.heap.size:=Q0H hN.1
   obtain ⟨n0,n1,n2,n3,n4⟩:Q6T wr g (o + k * 5) l[k]:=by
    obtain ⟨n0,n1,n2,n3,n4⟩:=hN
    have hb:∀ i,wr.cell? ⟨g,i,none⟩=w.cell? ⟨g,i,none⟩:=fun i=>World.cell?_of_block (HK.out.block g hgl (by simp))
    exact ⟨(hb _).trans n0,(hb _).trans n1,(hb _).trans n2,(hb _).trans n3,(hb _).trans n4⟩
   have hk0:(0:Int)≤(k:Int):=by omega
   have hk1:(k:Int) < (l.length:Int):=by omega
   have hgr:g < wr.heap.size:=Nat.lt_of_lt_of_le hgl HK.out.size
   obtain ⟨ad2,cap2,rfl⟩:=Q10 HO.out
   clear hN
   generalize hx:l[k]=x at n0 n1 n2 n3 n4
   by_cases c2:x.kind=2
   ·have hS:=Q6w hlt
    rw [hx,if_pos c2] at hS
    have hq:(Q0c (l.take k)).length≤10000:=Nat.le_trans (Q7X _) (by rw [List.length_take];omega)
    have hwl:=HK.out.size
    have HOY:=Hid.mk (fun m hm=>(Q16 HO.out (g:=m) hm).1)
    have HO2:=Hid.mk (fun o1 o2=>Qp HO.out (((Qb.refl [] wr).alloc o1).alloc o2) (by simp))
    have HX:Hid (Q0l x=[.int .i64 2,.int .i64 x.n,.string ⟨x.s.toArray⟩,.int .i64 x.at',.int .i64 x.len]):=by show _=_;rw [Q0l,c2]
    have HE:Hid ((Q0c (l.take k)).length + 1=(Q0c (l.take (k + 1))).length∧(Q0c (l.take k)).flatMap Q0l++Q0l x=(Q0c (l.take (k + 1))).flatMap Q0l):=by
     show _∧_
     rw [hS]
     simp
    rw [c2] at n0
    generalize hxs:(Q0c (l.take k)).flatMap Q0l=xs at HO2 HE
    generalize hn:(Q0c (l.take k)).length=n at HO2 HE hq HOY ⊢
    clear hS HO hx c2 hxs hn
    go_wp2_with (at_builtin;go_must (refine wpList_append_lies _ (by rfl) _ _ _ (by rfl) w.heap.size 48 i0 _ 5 48 Tryz.underlying29 hi0 hz0 hz1 hz2 hz3 (by omega) (.slice ad2 n cap2) n xs (by rfl) (HO2.out _ _) ⟨wr.heap.size + 1,0,none⟩ 1 1 (Q0l x) (by rfl) (by rfl) (by rw [HX.out];exact World.news_of_block (cs:=#[.int .i64 2,.int .i64 x.n,.string ⟨x.s.toArray⟩,.int .i64 x.at',.int .i64 x.len]) (t:=48) (fr:=(0,0)) (Qg (w:=wr.alloc _) (by simp))) (QaB x) (by omega) (by unfold maxLen;omega) (by omega) (by simp;omega) (wr.heap.size + 2) (by simp) ?_;intro g8 cap8 w8 hown8 hgrow hat hlt8;rw [HE.out.1,HE.out.2] at hown8;have HO8:=Hid.mk hown8;have HK8:=Hid.mk (Qb.young ((HK.out.alloc _).alloc _) (Q05 hgrow) (fun m hm=>Or.inr (HOY.out m (by simpa using hm))));clear hown8 hgrow hat hlt8))
    exact ⟨⟨k + 1,by go_num,by omega,HK8,by rw [HE.out.1] ;exact HO8⟩,by simp [intOf];omega⟩
   ·have b2:(x.kind == 2)=false:=by simpa using c2
    have hS:=Q6w hlt
    rw [hx,if_neg c2,List.append_nil] at hS
    have HS:=Hid.mk hS
    clear hS hx c2
    go_wp2
    exact ⟨⟨k + 1,by go_num,by omega,HK.out.alloc _,by show World.ownsRow _ _ _ _ _ _ _;rw [HS.out];exact Qp HO.out ((Qb.refl [] wr).alloc _) (by simp)⟩,by simp [intOf];omega⟩
  ·have hkk:k=l.length:=by omega
   subst hkk
   have hge0:¬ ((l.length:Int) < (l.length:Int)):=by omega
   rw [List.take_length] at HO
   go_wp2
   go_ret
   exact ⟨_,rfl,HK.out,HO.out⟩
theorem Q8w:∀ (ns:List Q0I) (k:Nat) (x:Q0I) (j:Nat),ns[k]? = some x→j < 5→(ns.flatMap Q0l)[k * 5 + j]? = (Q0l x)[j]?:=by
 intro ns
 induction ns with
 | nil=>intro k x j h;simp at h
 | cons y ys ih=>
  intro k x j h hj
  rw [List.flatMap_cons]
  cases k with
  | zero=>
   simp at h
   subst h
   rw [List.getElem?_append_left (by simp;omega)]
   simp
  | succ k=>
   rw [List.getElem?_append_right (by simp;omega)]
   have:=ih k x j (by simpa using h) hj
   rw [← this]
   congr 1
   simp
   omega
theorem Q7g {w:World} {base:Nat} {T:TypeId} {v:Value} {ns:List Q0I} (h:w.ownsRow base T 5 v ns.length (ns.flatMap Q0l)):Q7V w v ns:=by
 obtain ⟨hl,h⟩:=h
 rcases h with ⟨rfl,h0⟩ | ⟨g,cap,cur,rfl,hb,hc,h1,h2,h3,h4⟩
 ·have hn:ns=[]:=List.length_eq_zero_iff.1 h0
  subst hn
  exact ⟨none,0,rfl,by simp,by simp,fun k x hx=>by simp at hx⟩
 ·refine ⟨some ⟨g,0,none⟩,cap,rfl,h1,h2,fun k x hx=>⟨g,0,rfl,?_⟩⟩
  rw [← hl] at h4
  have key:∀ j,j < 5→∀ v,(Q0l x)[j]? = some v→w.cell? ⟨g,0 + k * 5 + j,none⟩=some v:=fun j hj v hv=>by
   rw [Nat.zero_add]
   exact Qw hc h4 (by rw [Q8w ns k x j hx hj,hv])
  exact ⟨key 0 (by omega) _ rfl,key 1 (by omega) _ rfl,key 2 (by omega) _ rfl,key 3 (by omega) _ rfl,key 4 (by omega) _ rfl⟩
def Q1f (n b:List UInt8):List Q0I:=match Q3g (Q13 Q0z) n b 64 10000 100000 with
 | .ok u=>Q0c (u.map toG)
 | .error _=>[]
theorem Qfx {w:World} {bs:List (Nat×Obj)} {B:Nat} (hS:Q3W bs B Q0z) (hw:∀ p∈bs,w.heap[p.1]? = some p.2) (c:Int) (b:List UInt8) (hb:b.length≤maxLen) :
  Calls Tryz.prog 36 #[.pointer (some ⟨B,0,none⟩),.string ⟨(Q1d c).toArray⟩,.string ⟨b.toArray⟩,.agg #[.int .i64 64,.int .i64 10000,.int .i64 100000]] w fun e w'=>∃ K v,e = .returned (.func (.func 66) #[] #[.pointer (some ⟨K,0,none⟩)])∧Qb [] w w' ∧
   w.heap.size≤K∧w'.heap[K]? = some (.cells #[v] 29)∧w'.ownsRow w.heap.size 48 5 v (Q1f (Q1d c) b).length ((Q1f (Q1d c) b).flatMap Q0l):=by
 have VD:=Hid.mk (fun o=>Q8v hS (Q1w hw ((Qb.refl [] w).alloc o)) c b hb)
 clear hS hw hb
 generalize Q1d c=nm at VD ⊢
 go_enter Tryz.func36,Tryz.ntmps36
 go_wp2_with fail
 refine (VD.out _).mono ?_
 rintro e w1 ⟨u,er,rfl,hk1,hu⟩
 have HK1:=Hid.mk (((Qb.refl [] w).alloc _).trans hk1)
 clear hk1 VD
 have H2:∃ l,Q7V w1 u l∧l.length≤10000∧Q0c l=Q1f nm b:=by
  unfold Q1f
  rcases hu with ⟨ns,e1,_,e3,_,e5⟩ | ⟨f,g,e1,rfl,_,_⟩
  ·rw [e1]
   exact ⟨ns.map toG,Q7W e5,by simpa using e3,rfl⟩
  ·rw [e1]
   exact ⟨[],⟨none,0,rfl,Nat.le_refl _,Nat.zero_le _,fun k x hk=>by simp at hk⟩,Nat.zero_le _,rfl⟩
 obtain ⟨l,hl1,hl2,hl3⟩:=H2
 have VT:=Qh9 hl1 hl2
 rw [hl3] at VT
 have VT:=Hid.mk VT
 clear hl1 hl2 hl3 hu
 go_wp2_with fail
 refine VT.out.mono ?_
 rintro e w2 ⟨v,rfl,hk2,ho2⟩
 have HK2:=Hid.mk (HK1.out.trans hk2)
 have hl1:=HK2.out.size
 have hl2:=HK1.out.size
 have HO:=Hid.mk ho2
 obtain ⟨ad,cp,rfl⟩:=Q10 ho2
 clear ho2 hk2 VT
 go_wp2
 go_ret
 refine ⟨w2.heap.size,_,rfl,HK2.out.alloc _,hl1,Qg rfl,?_⟩
 have h:=Qp HO.out ((Qb.refl [] w2).alloc (.cells #[.slice ad (Q1f nm b).length cp] 29)) (by simp)
 obtain ⟨q1,q2⟩:=h
 refine ⟨q1,?_⟩
 rcases q2 with q2 | ⟨g,cap,cur,q2,q3,q4⟩
 ·exact Or.inl q2
 ·exact Or.inr ⟨g,cap,cur,q2,Nat.le_trans hl2 q3,q4⟩
end Go.Proofs.YtmbcibgknckenaaGreatDoor
namespace Go.Proofs.YtmbcibgknckenaaGreatDoor
open Go.RowKit Go.Shelf
attribute [local go_sem] Oper.semAt_some
structure KpB (n₀ O:Nat) (A B:World):Prop where
 size:A.heap.size≤B.heap.size
 block:∀ k,k < n₀→k≠O→B.heap[k]? = A.heap[k]?
theorem KpB.refl (n₀ O:Nat) (A:World):KpB n₀ O A A:=⟨Nat.le_refl _,fun _ _ _=>rfl⟩
theorem KpB.trans {n₀ O:Nat} {A B C:World} (h:KpB n₀ O A B) (k:KpB n₀ O B C):KpB n₀ O A C:=⟨Nat.le_trans h.size k.size,fun j h1 h2=>(k.block j h1 h2).trans (h.block j h1 h2)⟩
theorem KpB.alloc {n₀ O:Nat} {A B:World} (h:KpB n₀ O A B) (hn:n₀≤A.heap.size) (o:Obj):KpB n₀ O A (B.alloc o):=
 ⟨Nat.le_trans h.size (by simp),fun j h1 h2=>(Below.heap_alloc _ _ _ (Nat.lt_of_lt_of_le h1 (Nat.le_trans hn h.size))).trans (h.block j h1 h2)⟩
theorem KpB.cell {n₀ O:Nat} {A B:World} (h:KpB n₀ O A B) {g i:Nat} (hg:g < n₀) (hO:g≠O):B.cell? ⟨g,i,none⟩=A.cell? ⟨g,i,none⟩:=World.cell?_of_block (h.block g hg hO)
theorem KpB.put {n₀ O:Nat} (W:World) (l:Nat) (o':Obj) (hl:n₀≤l):KpB n₀ O W (W.putObj l o'):=by
 refine ⟨by simp [World.putObj],fun k h1 _=>?_⟩
 have hne:l≠k:=by omega
 simp [World.putObj,hne]
theorem Qfy (l Bs n₀ O:Nat) (ad:Option Addr) (cap:Nat) (zs:List Q0I) (hreach:zs.length≤10000) (J Jx:List Q0I→World→Prop) (W:World) (hJa:AbidesFrom W.heap.size J)
  (hY:∀ pre x W,J pre W→pre.length < zs.length→YieldAt Fence.wide 2 Tryz.prog l #[.agg (Q0l x).toArray] W fun e W'=>
   (e = .returned (.bool true)∧J (pre++[x]) W'∧KpB n₀ O W W')∨(e = .returned (.bool false)∧Jx (pre++[x]) W'))
  (hn₀:n₀≤W.heap.size) (hBs:W.cell? ⟨Bs,0,none⟩=some (.slice ad zs.length cap)) (hc:∀ k x,zs[k]? = some x→∃ g o,ad=some ⟨g,o,none⟩∧g < n₀∧g≠O∧Q6T W g (o + k * 5) x) (h0:J [] W) :
  CallsIn Fence.wide 3 Tryz.prog 66 #[.func (.yield l) #[] #[],.pointer (some ⟨Bs,0,none⟩)] W fun e W'=>(∃ v,e = .returned v) ∧
   ((∃ ys,ys=zs∧J ys W')∨(∃ pre,pre <+: zs∧Jx pre W')):=by
 refine callsIn_of_wp Tryz.func66 rfl trivial ?_ rfl
 simp only [Tryz.ntmps66,List.size_toArray,List.length_cons,List.length_nil,Nat.reduceAdd,Nat.reduceSub,Array.replicate_succ,Array.replicate_zero,List.push_toArray,List.append_toArray,List.nil_append,List.cons_append]
 gi_wp2
 gi_loopw [7] (fun i wr=>∃ k:Nat,k≤zs.length∧i = .int .i64 k∧J (zs.take k) wr∧KpB n₀ O W wr) (fun i _=>zs.length - (intOf i).toNat)
 case atStart=>exact ⟨0,Nat.zero_le _,rfl,h0,KpB.refl _ _ _⟩
 case round=>
  obtain ⟨k,hk,rfl,hJs,hnx⟩:=hrel
  by_cases hlt:k < zs.length
  ·obtain ⟨g,o,rfl,hg,hO,hN⟩:=hc k zs[k] (List.getElem?_eq_getElem hlt)
   obtain ⟨n0,n1,n2,n3,n4⟩:Q6T wr g (o + k * 5) zs[k]:=by
    obtain ⟨n0,n1,n2,n3,n4⟩:=hN
    exact ⟨(hnx.cell hg hO).trans n0,(hnx.cell hg hO).trans n1,(hnx.cell hg hO).trans n2,(hnx.cell hg hO).trans n3,(hnx.cell hg hO).trans n4⟩
   have hsz:=hnx.size
   have hk0:(0:Int)≤(k:Int):=by omega
   have hk1:(k:Int) < (zs.length:Int):=by omega
   have hJ2:∀ o,J (zs.take k) (wr.alloc o):=fun o=>hJa _ _ _ none hJs (World.grownBy_alloc _ _ _) (fun r e=>by cases e)
   obtain ⟨fn,tmps,assign,body,hy,hR⟩:=hY _ zs[k] (wr.alloc (.cells (Q0l zs[k]).toArray 48)) (hJ2 _) (by rw [List.length_take];omega)
   have ht:zs.take k++[zs[k]]=zs.take (k + 1):=(List.take_succ_eq_append_getElem hlt).symm
   rw [ht] at hR
   have HR:=Hid.mk hR
   clear hR ht hJ2 hN
   generalize hx:zs[k]=x at n0 n1 n2 n3 n4 hy HR
   clear hx
   dsimp only [Q0l] at hy
   gi_wp2
   refine HR.out.mono ?_
   rintro e W3 (⟨rfl,hJ3,hk3⟩ | ⟨rfl,hJx3⟩)
   ·gi_wp2
    go_roundw
    case rel=>exact ⟨k + 1,by omega,by simp,hJ3,(hnx.alloc hn₀ _).trans hk3⟩
    case measure=>simp [intOf];omega
   ·gi_wp2
    refine bodyPost_ret (results_none rfl _ _ _) rfl ?_
    exact ⟨⟨_,rfl⟩,.inr ⟨_,List.take_prefix _ _,hJx3⟩⟩
  ·have hkk:k=zs.length:=by omega
   subst hkk
   have hge0:¬ ((zs.length:Int) < (zs.length:Int)):=by omega
   gi_wp2
   go_end0
   exact ⟨⟨_,rfl⟩,.inl (by rw [List.take_length] at hJs;first | exact hJs | exact ⟨_,rfl,hJs⟩)⟩
theorem Q7Y {Bs:Nat} {sv:Value} {zs:List Q0I} {w:World} (hreach:zs.length≤10000) (hBs:w.heap[Bs]? = some (.cells #[sv] 29)) (hN:Q7V w sv zs) {O:Nat} (hO:∀ g,sv.ownBlock=some g→g≠O) :
  SeqStopsK Fence.wide 3 Tryz.prog 66 #[.pointer (some ⟨Bs,0,none⟩)] (fun x:Q0I=>#[Value.agg (Q0l x).toArray]) (KpB w.heap.size O) (fun ys=>ys=zs) (fun pre=>pre <+: zs) zs.length w:=fun l J Jx W hW hJ _ hY h0=>by
 obtain ⟨ad,cap,rfl,_,_,hn⟩:=hN
 have hb:=Qc hBs
 have hc':=(hW.cell (p:=⟨Bs,0,none⟩) hb).trans (Qv hBs)
 refine Qfy l Bs w.heap.size O ad cap zs hreach J Jx W hJ hY hW.size hc' (fun k x hk=>?_) h0
 obtain ⟨g,o,h1,n0,n1,n2,n3,n4⟩:=hn k x hk
 have hg:g < w.heap.size:=Q0H n0
 exact ⟨g,o,h1,hg,hO g (by rw [h1];rfl),(hW.cell (p:=⟨g,_,none⟩) hg).trans n0,(hW.cell (p:=⟨g,_,none⟩) hg).trans n1,(hW.cell (p:=⟨g,_,none⟩) hg).trans n2,(hW.cell (p:=⟨g,_,none⟩) hg).trans n3,(hW.cell (p:=⟨g,_,none⟩) hg).trans n4⟩
attribute [local go_sem] Oper.semAt_some
theorem Qjl {b:Nat} {c0:Value} {T:TypeId} {w:World} (h:w.heap[b]? = some (.cells #[c0] T)):w.cell? ⟨b,0,none⟩=some c0∧∀ i,w.frozen? ⟨b,i,none⟩=false:=by
 constructor<;>simp [World.cell?,World.frozen?,h]
theorem Q8g {W:World} {base:Nat} {T:TypeId} {sz n:Nat} {v:Value} {xs:List Value} (h:W.ownsRow base T sz v n xs) {row:Option Nat} {B:Nat} (hr:∀ r,row=some r→B≤r∧∃ o:Obj,W.heap[r]? = some o∧o.isCells=false):∀ g,v.ownBlock=some g→g ∉ row.toList:=by
 intro g hg hm
 obtain ⟨_,o,ho,hc⟩:=hr g (by simpa using hm)
 rcases h.2 with ⟨h0,_⟩ | ⟨g',cap,cur,h0,_,h2,_⟩
 ·rw [h0] at hg;cases hg
 ·rw [h0] at hg;cases hg;rw [h2] at ho;cases ho;cases hc
theorem Q6n {w W:World} (h:Qb [] w W) {D:Nat} (hD:w.heap.size≤D) {o:Obj}:Qb [] w (W.putObj D o):=
 h.young (M':=[D]) ⟨rfl,rfl,rfl,by simp [World.putObj],fun k _ h2=>by have hne:D≠k:=fun e=>h2 (by simp [e]);simp [World.putObj,hne]⟩ (fun q hq=>Or.inr (by simp at hq;omega))
theorem Q5n {W:World} {b b':Nat} {T:TypeId} {sz n:Nat} {v:Value} {xs:List Value} (h:W.ownsRow b T sz v n xs) (hb:b'≤b):W.ownsRow b' T sz v n xs:=by
 obtain ⟨q1,q2⟩:=h
 refine ⟨q1,?_⟩
 rcases q2 with q2 | ⟨g,cap,cur,q2,q3,q4⟩
 ·exact Or.inl q2
 ·exact Or.inr ⟨g,cap,cur,q2,Nat.le_trans hb q3,q4⟩
theorem Qha {w:World} {bs:List (Nat×Obj)} {B:Nat} (hS:Q3W bs B Q0z) (hw:∀ p∈bs,w.heap[p.1]? = some p.2) (c:Int) (b:List UInt8) (hb:b.length≤maxLen) (m:Nat) (hm:m≤4000) (hfew:(Q1f (Q1d c) b).length≤10000) :
  Calls Tryz.prog 21 #[.pointer (some ⟨B,0,none⟩),.string ⟨(Q1d c).toArray⟩,.string ⟨b.toArray⟩,.agg #[.int .i64 64,.int .i64 10000,.int .i64 100000],.int .i64 m] w fun e w'=>∃ v,e = .returned v∧Qb [] w w' ∧
   w'.ownsRow w.heap.size 48 5 v ((Q1f (Q1d c) b).take m).length (((Q1f (Q1d c) b).take m).flatMap Q0l):=by
 have VL:=Hid.mk (fun o1 o2 o3=>(callsIn_wide (n:=3)).2 (Qfx hS (Q1w hw ((((Qb.refl [] w).alloc o1).alloc o2).alloc o3)) c b hb))
 clear hS hw hb
 generalize Q1d c=nm at VL hfew ⊢
 refine (callsIn_wide (n:=4)).1 ?_
 refine callsIn_of_wp_marks Tryz.func21 rfl trivial ?_ rfl
 simp only [Tryz.ntmps21,List.size_toArray,List.length_cons,List.length_nil,Nat.reduceAdd,Nat.reduceSub,Array.replicate_succ,Array.replicate_zero,List.push_toArray,List.append_toArray,List.nil_append,List.cons_append]
 by_cases hpos:m=0
 ·have hm1:(m:Int) < 1:=by omega
  have HP:=Hid.mk hpos
  clear hpos
  gi_wp2_with fail
  refine ⟨trivial,?_⟩
  refine (VL.out _ _ _).mono ?_
  rintro e w4 ⟨K,v,rfl,hk4,hK4,hc4,ho4⟩
  have o4:w4.heap[w.heap.size + 1 + 1]? = some (.cells #[.slice none 0 0] 29):=(hk4.block _ (by simp) (by simp)).trans (Qg (by simp))
  have m4:w4.heap[w.heap.size + 1]? = some (.cells #[.int .i64 0] 3):=(hk4.block _ (by simp) (by simp)).trans ((Below.heap_alloc _ _ _ (by simp)).trans (Qg (by simp)))
  have hK4':w.heap.size + 3≤K:=by simpa using hK4
  have ST:=Q7Y (O:=w.heap.size + 1 + 1) hfew hc4 (Q7g ho4) (fun g hg=>by have:=(Q16 ho4 hg).1;simp at this;omega)
  have hk5:Qb [] w w4:=((((Qb.refl [] w).alloc _).alloc _).alloc _).trans hk4
  have hs4:w.heap.size + 3≤w4.heap.size:=by simpa using hk4.size
  clear hk4 hK4 hc4 ho4 VL
  gi_wp2_with fail
  refine wpIn_rangeFunc_ownH (w0:=w4) rfl (by omega) (gf:=66) (lb:=#[.pointer (some ⟨K,0,none⟩)]) rfl trivial (enters_of Tryz.func66 (by kernel_rfl) rfl)
   ST (fun h k=>h.trans k) (fun W l _ o' hl _ _ _=>KpB.put W l o' hl) (Below.refl _ _) (fun _=>rfl)
   (fun pre W=>∃ v,W.heap[w.heap.size + 1 + 1]? = some (.cells #[v] 29)∧W.heap[w.heap.size + 1]? = some (.cells #[.int .i64 0] 3)∧pre.length≤m∧W.ownsRow w4.heap.size 48 5 v pre.length (pre.flatMap Q0l)∧w4.heap.size≤W.heap.size∧Qb [] w W)
   (fun c pre W=>c = .exit 0∧∃ q x v,pre=q++[x]∧q.length=m∧W.heap[w.heap.size + 1 + 1]? = some (.cells #[v] 29)∧W.ownsRow w4.heap.size 48 5 v q.length (q.flatMap Q0l)∧Qb [] w W)
   ?hI ?hIx ?h0 (fun x a' W=>∃ Bx,w4.heap.size≤Bx∧W.heap[Bx]? = some (.cells (Q0l x).toArray 48)∧a' = { tmps:=#[.pointer (some ⟨B,0,none⟩),.string ⟨nm.toArray⟩,.string ⟨b.toArray⟩,.agg #[.int .i64 64,.int .i64 10000,.int .i64 100000],.int .i64 m,undef,undef,undef,.pointer (some ⟨w.heap.size,0,none⟩),.pointer (some ⟨w.heap.size + 1,0,none⟩),.slice none 0 0,.pointer (some ⟨w.heap.size + 1 + 1,0,none⟩),.pointer (some ⟨Bx,0,none⟩),.int .i64 m,.bool true,.pointer (some ⟨B,0,none⟩),.string ⟨nm.toArray⟩,.string ⟨b.toArray⟩,.agg #[.int .i64 64,.int .i64 10000,.int .i64 100000],.func (.func 66) #[] #[.pointer (some ⟨K,0,none⟩)],.agg (Q0l x).toArray,undef,undef,undef,undef,undef,undef,undef,undef,undef],defers:=[] }) ?hAx ?assign ?body ?done ?stop
  case hI=>
   rintro pre A A' row ⟨v,hv,hm',hle,hrow,hsz,hkk⟩ hg hr
   have hk1:=Q05 hg
   exact ⟨v,(hk1.block _ (Qc hv) (fun h=>by have:=(hr _ (by simpa using h)).1;omega)).trans hv,(hk1.block _ (Qc hm') (fun h=>by have:=(hr _ (by simpa using h)).1;omega)).trans hm',hle,Qp hrow hk1 (Q8g hrow hr),Nat.le_trans hsz hk1.size,hkk.young hk1 (fun q hq=>Or.inr (by have:=(hr q (by simpa using hq)).1;omega))⟩
  case hIx=>
   rintro c pre A A' row ⟨hc,q,x,v,h1,h2,hv,hrow,hkk⟩ hg hr
   have hk1:=Q05 hg
   exact ⟨hc,q,x,v,h1,h2,(hk1.block _ (Qc hv) (fun h=>by have:=(hr _ (by simpa using h)).1;omega)).trans hv,Qp hrow hk1 (Q8g hrow hr),hkk.young hk1 (fun q hq=>Or.inr (by have:=(hr q (by simpa using hq)).1;omega))⟩
  case hAx=>
   rintro x a' _ A A' row ⟨Bx,h1,hx,h2⟩ hg hr
   exact ⟨Bx,h1,(hg.block _ (Qc hx) (fun e=>by obtain ⟨_,o,ho,hc⟩:=hr _ e.symm;rw [hx] at ho;cases ho;cases hc)).trans hx,h2⟩
  case h0=>exact ⟨_,o4,m4,Nat.zero_le _,World.ownsRow_nil _ _ _ _,Nat.le_refl _,hk5⟩
  case stop=>
   rintro D c pre W hD hpre ⟨rfl,q,x,v,rfl,hq,hv,hrow,hkk⟩ hK
   obtain ⟨ad,cp,rfl⟩:=Q10 hrow
   have c1:=Qv hv
   have hqz:(Q1f nm b).take m=q:=by
    obtain ⟨r,hr⟩:=hpre
    rw [← hr,← hq]
    simp
   subst hq
   gi_wp2
   refine ⟨by simp,.inl ⟨_,_,rfl,run_takeDeferred hK,?_⟩⟩
   refine ⟨_,results_tmp rfl _ _ _,?_⟩
   rw [hqz]
   exact ⟨_,rfl,Q6n (D:=D) hkk (by omega),Q5n (b:=w4.heap.size) (ownsRow_putObj hrow _ hK rfl) (by omega)⟩
  case done=>
   rintro D ys W hD rfl ⟨v,hv,hm',hle,hrow,hsz,hkk⟩ hK
   obtain ⟨ad,cp,rfl⟩:=Q10 hrow
   have c1:=Qv hv
   gi_wp2
   refine ⟨by simp,.inl ⟨_,_,rfl,run_takeDeferred hK,?_⟩⟩
   refine ⟨_,results_tmp rfl _ _ _,?_⟩
   rw [List.take_of_length_le hle]
   exact ⟨_,rfl,Q6n (D:=D) hkk (by omega),Q5n (b:=w4.heap.size) (ownsRow_putObj hrow _ hK rfl) (by omega)⟩
  case assign=>
   rintro l pre x W K ⟨v,hv,hm',hle,hrow,hsz,hkk⟩ hK
   gi_wp2
   exact hK _ _ ((KeepsOthers.alloc _ _).from _) ((KpB.refl _ _ _).alloc hsz _) ⟨v,(Below.heap_alloc _ _ _ (Qc hv)).trans hv,(Below.heap_alloc _ _ _ (Qc hm')).trans hm',hle,Qp hrow ((Qb.refl [] W).alloc _) (by simp),by simp;omega,hkk.alloc _⟩ ⟨W.heap.size,hsz,Qg rfl,rfl⟩
  case body=>
   rintro l pre x a' W hl ⟨r,hr⟩ ⟨v,hv,hm',hle,hrow,hsz,hkk⟩ ⟨Bx,hBx,hx,rfl⟩ hlt
   obtain ⟨ad,cp,rfl⟩:=Q10 hrow
   have c1:=Qv hv
   have c2:=Qv hm'
   have hxx:W.heap[Bx]? = some (.cells #[.int .i64 x.kind,.int .i64 x.n,.string ⟨x.s.toArray⟩,.int .i64 x.at',.int .i64 x.len] 48):=hx
   obtain ⟨x0,x1,x2,x3,x4,xf,xl⟩:=Q6Q hxx
   have hpm:pre.length=m:=by have:=HP.out;omega
   have hp0:(pre.length:Int)=0:=by have:=HP.out;omega
   gi_wp2
   exact ⟨(KeepsOthers.refl _).from _,rfl,_,_,_,rfl,hpm,hv,hrow,hkk⟩
 ·have hm1:¬ ((m:Int) < 1):=by omega
  gi_wp2_with fail
  refine ⟨trivial,?_⟩
  refine (VL.out _ _ _).mono ?_
  rintro e w4 ⟨K,v,rfl,hk4,hK4,hc4,ho4⟩
  have o4:w4.heap[w.heap.size + 1 + 1]? = some (.cells #[.slice none 0 0] 29):=(hk4.block _ (by simp) (by simp)).trans (Qg (by simp))
  have m4:w4.heap[w.heap.size + 1]? = some (.cells #[.int .i64 m] 3):=(hk4.block _ (by simp) (by simp)).trans ((Below.heap_alloc _ _ _ (by simp)).trans (Qg (by simp)))
  have hK4':w.heap.size + 3≤K:=by simpa using hK4
  have ST:=Q7Y (O:=w.heap.size + 1 + 1) hfew hc4 (Q7g ho4) (fun g hg=>by have:=(Q16 ho4 hg).1;simp at this;omega)
  have hk5:Qb [] w w4:=((((Qb.refl [] w).alloc _).alloc _).alloc _).trans hk4
  have hs4:w.heap.size + 3≤w4.heap.size:=by simpa using hk4.size
  clear hk4 hK4 hc4 ho4 VL
  gi_wp2_with fail
  refine wpIn_rangeFunc_ownH (w0:=w4) rfl (by omega) (gf:=66) (lb:=#[.pointer (some ⟨K,0,none⟩)]) rfl trivial (enters_of Tryz.func66 (by kernel_rfl) rfl)
   ST (fun h k=>h.trans k) (fun W l _ o' hl _ _ _=>KpB.put W l o' hl) (Below.refl _ _) (fun _=>rfl)
   (fun pre W=>∃ v,W.heap[w.heap.size + 1 + 1]? = some (.cells #[v] 29)∧W.heap[w.heap.size + 1]? = some (.cells #[.int .i64 m] 3)∧pre.length≤m∧W.ownsRow w4.heap.size 48 5 v pre.length (pre.flatMap Q0l)∧w4.heap.size≤W.heap.size∧Qb [] w W)
   (fun c pre W=>c = .exit 0∧∃ q x v,pre=q++[x]∧q.length=m∧W.heap[w.heap.size + 1 + 1]? = some (.cells #[v] 29)∧W.ownsRow w4.heap.size 48 5 v q.length (q.flatMap Q0l)∧Qb [] w W)
   ?hI ?hIx ?h0 (fun x a' W=>∃ Bx,w4.heap.size≤Bx∧W.heap[Bx]? = some (.cells (Q0l x).toArray 48)∧a' = { tmps:=#[.pointer (some ⟨B,0,none⟩),.string ⟨nm.toArray⟩,.string ⟨b.toArray⟩,.agg #[.int .i64 64,.int .i64 10000,.int .i64 100000],.int .i64 m,undef,undef,undef,.pointer (some ⟨w.heap.size,0,none⟩),.pointer (some ⟨w.heap.size + 1,0,none⟩),.slice none 0 0,.pointer (some ⟨w.heap.size + 1 + 1,0,none⟩),.pointer (some ⟨Bx,0,none⟩),.int .i64 m,.bool false,.pointer (some ⟨B,0,none⟩),.string ⟨nm.toArray⟩,.string ⟨b.toArray⟩,.agg #[.int .i64 64,.int .i64 10000,.int .i64 100000],.func (.func 66) #[] #[.pointer (some ⟨K,0,none⟩)],.agg (Q0l x).toArray,undef,undef,undef,undef,undef,undef,undef,undef,undef],defers:=[] }) ?hAx ?assign ?body ?done ?stop
  case hI=>
   rintro pre A A' row ⟨v,hv,hm',hle,hrow,hsz,hkk⟩ hg hr
   have hk1:=Q05 hg
   exact ⟨v,(hk1.block _ (Qc hv) (fun h=>by have:=(hr _ (by simpa using h)).1;omega)).trans hv,(hk1.block _ (Qc hm') (fun h=>by have:=(hr _ (by simpa using h)).1;omega)).trans hm',hle,Qp hrow hk1 (Q8g hrow hr),Nat.le_trans hsz hk1.size,hkk.young hk1 (fun q hq=>Or.inr (by have:=(hr q (by simpa using hq)).1;omega))⟩
  case hIx=>
   rintro c pre A A' row ⟨hc,q,x,v,h1,h2,hv,hrow,hkk⟩ hg hr
   have hk1:=Q05 hg
   exact ⟨hc,q,x,v,h1,h2,(hk1.block _ (Qc hv) (fun h=>by have:=(hr _ (by simpa using h)).1;omega)).trans hv,Qp hrow hk1 (Q8g hrow hr),hkk.young hk1 (fun q hq=>Or.inr (by have:=(hr q (by simpa using hq)).1;omega))⟩
  case hAx=>
   rintro x a' _ A A' row ⟨Bx,h1,hx,h2⟩ hg hr
   exact ⟨Bx,h1,(hg.block _ (Qc hx) (fun e=>by obtain ⟨_,o,ho,hc⟩:=hr _ e.symm;rw [hx] at ho;cases ho;cases hc)).trans hx,h2⟩
  case h0=>exact ⟨_,o4,m4,Nat.zero_le _,World.ownsRow_nil _ _ _ _,Nat.le_refl _,hk5⟩
  case stop=>
   rintro D c pre W hD hpre ⟨rfl,q,x,v,rfl,hq,hv,hrow,hkk⟩ hK
   obtain ⟨ad,cp,rfl⟩:=Q10 hrow
   have c1:=Qv hv
   have hqz:(Q1f nm b).take m=q:=by
    obtain ⟨r,hr⟩:=hpre
    rw [← hr,← hq]
    simp
   subst hq
   gi_wp2
   refine ⟨by simp,.inl ⟨_,_,rfl,run_takeDeferred hK,?_⟩⟩
   refine ⟨_,results_tmp rfl _ _ _,?_⟩
   rw [hqz]
   exact ⟨_,rfl,Q6n (D:=D) hkk (by omega),Q5n (b:=w4.heap.size) (ownsRow_putObj hrow _ hK rfl) (by omega)⟩
  case done=>
   rintro D ys W hD rfl ⟨v,hv,hm',hle,hrow,hsz,hkk⟩ hK
   obtain ⟨ad,cp,rfl⟩:=Q10 hrow
   have c1:=Qv hv
   gi_wp2
   refine ⟨by simp,.inl ⟨_,_,rfl,run_takeDeferred hK,?_⟩⟩
   refine ⟨_,results_tmp rfl _ _ _,?_⟩
   rw [List.take_of_length_le hle]
   exact ⟨_,rfl,Q6n (D:=D) hkk (by omega),Q5n (b:=w4.heap.size) (ownsRow_putObj hrow _ hK rfl) (by omega)⟩
  case assign=>
   rintro l pre x W K ⟨v,hv,hm',hle,hrow,hsz,hkk⟩ hK
   gi_wp2
   exact hK _ _ ((KeepsOthers.alloc _ _).from _) ((KpB.refl _ _ _).alloc hsz _) ⟨v,(Below.heap_alloc _ _ _ (Qc hv)).trans hv,(Below.heap_alloc _ _ _ (Qc hm')).trans hm',hle,Qp hrow ((Qb.refl [] W).alloc _) (by simp),by simp;omega,hkk.alloc _⟩ ⟨W.heap.size,hsz,Qg rfl,rfl⟩
  case body=>
   rintro l pre x a' W hl ⟨r,hr⟩ ⟨v,hv,hm',hle,hrow,hsz,hkk⟩ ⟨Bx,hBx,hx,rfl⟩ hlt
   obtain ⟨ad,cp,rfl⟩:=Q10 hrow
   have c1:=Qv hv
   have c2:=Qv hm'
   have hxx:W.heap[Bx]? = some (.cells #[.int .i64 x.kind,.int .i64 x.n,.string ⟨x.s.toArray⟩,.int .i64 x.at',.int .i64 x.len] 48):=hx
   obtain ⟨x0,x1,x2,x3,x4,xf,xl⟩:=Q6Q hxx
   by_cases hpm:pre.length=m
   ·have hpm':(pre.length:Int)=(m:Int):=by omega
    gi_wp2
    exact ⟨(KeepsOthers.refl _).from _,rfl,_,_,_,rfl,hpm,hv,hrow,hkk⟩
   ·have hpm':((pre.length:Int) == (m:Int))=false:=by simp;omega
    have hpm2:¬ (pre.length:Int)=(m:Int):=by omega
    obtain ⟨i0,hi0,hz0,hz1,hz2⟩:=info_parts Q92
    have hz3:(Value.agg #[.int .i64 0,.int .i64 0,.string ⟨#[]⟩,.int .i64 0,.int .i64 0]).cells.size=5:=by decide
    have hlt2:pre.length + 1≤4000:=by omega
    have hoy:∀ g,(Value.slice ad pre.length cp).ownBlock=some g→w4.heap.size≤g:=fun g hg=>(Q16 hrow hg).1
    gi_wp2_with (gi_at_builtin;refine wpListIn_append_own _ rfl _ _ 29 rfl w4.heap.size 48 i0 _ 5 48 Tryz.underlying29 hi0 hz0 hz1 hz2 hz3 (by decide) (.slice ad pre.length cp) pre.length _ rfl (Qp hrow ((Qb.refl [] W).alloc _) (by simp)) ⟨W.heap.size,0,none⟩ 1 1 (Q0l x) rfl rfl (World.news_of_block (cs:=(Q0l x).toArray) (t:=48) (fr:=(0,0)) (Qg rfl)) (QaB x) (by unfold maxLen;omega) (by omega) (by simp;omega) ?_;intro v' w1 hown' hgrow _;obtain ⟨ad',cp',rfl⟩:=Q10 hown';have hv1:w1.heap[w.heap.size + 1 + 1]? = some (.cells #[.slice ad pre.length cp] 29):=(hgrow.block _ (by simp;omega) (fun e=>by have:=hoy _ e.symm;omega)).trans ((Below.heap_alloc _ _ _ (Qc hv)).trans hv);obtain ⟨y1,yf⟩:=Qjl hv1)
    have hk1:Qb (Value.slice ad pre.length cp).ownBlock.toList W w1:=(((Qb.refl [] W).alloc _).mono (by simp)).trans (Q05 hgrow)
    have hv2:=Qy (i:=0) hv1 (.slice ad' (pre.length + 1) cp')
    refine ⟨?kf,⟨?ks,?kb⟩,.slice ad' (pre.length + 1) cp',by simpa using hv2,?km,by simp;omega,?kr,?kz,?kk⟩
    case kf=>exact (((KeepsOthers.alloc _ _).trans (KeepsOthers.of_grownBy hgrow (fun j o hj ho=>by
      have:=Qp hrow ((Qb.refl [] W).alloc (.cells (Q0l x).toArray 48)) (by simp)
      rcases this.2 with ⟨h0,_⟩ | ⟨g,cap,cur,h0,_,h2,_⟩
      ·rw [h0] at hj;cases hj
      ·rw [h0] at hj;cases hj;rw [h2] at ho;cases ho;rfl))).trans (KeepsOthers.setCell _ _ _)).from _
    case ks=>have:=hk1.size;simpa using this
    case kb=>intro k h1 h2;exact (Below.heap_setCell _ _ _ _ (by simpa using h2)).trans (hk1.block k (by omega) (fun hk=>by have:=hoy k (by simpa using hk);omega))
    case km=>exact (Below.heap_setCell _ _ _ _ (by simp)).trans ((hk1.block _ (Qc hm') (fun hk=>by have:=hoy _ (by simpa using hk);omega)).trans hm')
    case kz=>have:=hk1.size;simp;omega
    case kr=>
     have h5:=Qp hown' ((Qb.refl [w.heap.size + 1 + 1] w1).setIn (p:=⟨w.heap.size + 1 + 1,0,none⟩) (by simp) (.slice ad' (pre.length + 1) cp')) (fun g hg=>by have:=(Q16 hown' hg).1;simp;omega)
     simpa using h5
    case kk=>exact (hkk.young hk1 (fun q hq=>Or.inr (by have:=hoy q (by simpa using hq);omega))).setNew (by simp;omega) _
end Go.Proofs.YtmbcibgknckenaaGreatDoor
