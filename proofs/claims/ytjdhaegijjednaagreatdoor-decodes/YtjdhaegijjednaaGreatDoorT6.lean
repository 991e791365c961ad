import Derived.Test.YtjdhaegijjednaaGreatDoorT5
import Derived.Laws.IdiomStrings
import Derived.Test.YtjdhaegijjednaaGreatDoorRows
import Derived.Test.YtjdhaegijjednaaGreatDoorTie
import Derived.Test.YtjdhaegijjednaaGreatDoorCards
import Derived.ProofKit
import Derived.LaidMore
import Derived.OpenShut
import Derived.Stop.Joined
import Derived.LaidHandle
import Derived.SevenTiedAt
import Derived.Shelf.Vars
import Derived.ShutString
import Derived.ChangeOld
import Derived.Deep.Slices
set_option linter.all false
set_option maxRecDepth 100000
set_option maxHeartbeats 4000000
namespace Go.Proofs.YtjdhaegijjednaaGreatDoor
open Go.ChangeShapes Go.WideShapes Go.ChangeAt Go.RowKit
open Go.Proofs.Tryz
section
variable {a:Zw}
def abz:ownKnob prog.godebug=none:=Zk
def VN : Tryz.prog.globalNamed "strconv.ErrRange" = some 4 := by kernel_rfl
def VO : Tryz.prog.globalNamed "strconv.ErrSyntax" = some 3 := by kernel_rfl
def afx:(prog.globals[4]?).map (·.type)=some 55:=Zk
def afz:(prog.globals[3]?).map (·.type)=some 55:=Zk
def JV{e:String}{c b name f}{k:List MemPlace}{g}(i:prog.globalNamed e=some c)(j:a.var? prog e=some b)
  (h:DataW.trod (λ_=>()) prog a 0 (λ_=>true) false g 55 b.toList=some (.iface name f,k)):∃m l,a.cell? (Zd c 0)=some (.iface m l):=by
 obtain⟨_,n,v,d,_,_⟩:=iface_of_trod underlying55 h
 refine⟨n,v,?_⟩;have:=World.var?_cell i j 0;obtain⟨o⟩:=b;simp only at d;subst d;simpa using this
def VM : Tryz.prog.globalNamed "errors.errorType" = some 1 := by kernel_rfl
def afy : (Tryz.prog.cutTypes.find? (·.1 == "internal/reflectlite.rtype")).map (·.2) = some 407 := by kernel_rfl
def afw:((List.range prog.types.size).filter λa=>prog.rowNamed a [101,114,114,111,114])=[55]:=Zk
abbrev abZ : List (String × DataW Unit) := [("math/bits.deBruijn32tab", Rows.laid_math_bits_deBruijn32tab), ("math/bits.deBruijn64tab", Rows.laid_math_bits_deBruijn64tab), ("internal/strconv.uint64pow10", Rows.laid_internal_strconv_uint64pow10), ("strconv.ErrRange", Rows.laid_strconv_ErrRange), ("strconv.ErrSyntax", Rows.laid_strconv_ErrSyntax), ("marshal/fault.errInner", Rows.laid_marshal_fault_errInner)]
def Na  (b : laidMetH Tryz.prog Rows.readsRow.laid a) : laidMet Tryz.prog abZ a ∧ handlesMet Tryz.prog [("errors.errorType", Rows.laid_errors_errorType)] a := b
def VU(e:laidMetH prog Rows.readsRow.laid a)(h:a.ShapedOpen prog):Gl a:=by
 have d:=(Na e).1;obtain⟨a0,⟨w,a6,m,q,N,a1,E,H,K,B,⟨x,a7,n,r,O,a2,F,I,L,C,⟨y,a8,o,s,P,a3,G,J,M,D,⟨z,a9,p,u,R,a4,b,i,k,f,⟨A,b0,yO,v,S,a5,c,j,l,g,_,_⟩,_⟩,_⟩,_⟩,_⟩,_,_⟩:=d;obtain rfl:=YQ (VN.symm.trans b);obtain rfl:=YQ (VO.symm.trans c);obtain rfl:=YQ (afx.symm.trans i);obtain rfl:=YQ (afz.symm.trans j);exact⟨cell_of_shapedOpen_int (zero:=#[Y 0]) (t:=3) h (of_decide_eq_true Zk) Zk rfl Zk Zk underlying3,JV c l g,JV b k f⟩
def UT(i:laidMetH prog Rows.readsRow.laid a):a.cell? (Zd 1 0)=some (eM 55):=by
 obtain⟨name,m,l,d,e,f,g,b⟩:=(Na i).2 _ (Yc.2 rfl);have h:name=[101,114,114,111,114]:=(YQ d).symm;subst h;obtain rfl:=YQ (afy.symm.trans e);have c:l∈(List.range prog.types.size).filter λk=>prog.rowNamed k [101,114,114,111,114]:=List.mem_filter.2 ⟨List.mem_range.2 f,g⟩;rw[afw]at c;obtain rfl:=Yc.1 c;have j:typeHandle prog 55=mz 55:=Zk;rw[j]at b;simpa using World.var?_cell VM b 0
def Um(a:Os)(args:Array Zv):laidMetH prog Rows.readsRow.laid ((World.doorLaid prog 88 a).forCall (λ_ _=>0) ⟨#[],args,[]⟩).memory:=
 laidMetH_of_parts3 (fuel:=8) (laidMet_of_run' 8 Zk Zk) Zk Zk
section
variable {c : Type} {b : TypeId × Zv -> c}
def Xo{C:Checked}{n:Os}{i:FuncId}{f}{h:ChangeSpec}{X:Zw->Array Zv->Prop}
  (y:∀(d w':Zw) (args:Array Zv),d.heap=w'.heap->X d args->X w' args)
  (R:ownKnob C.prog.godebug=none) (S:n.Started) (P:C.prog.inits.idxOf? i=none) (B:C.prog.funcs[i]?=some f)
  (a0:∃(d:Zw) (g:Tape) (e:Input),d.os=n/\(d.forCall g e).Shaped C.prog/\e.vars=[]/\Input.okWide C.prog (d.forCall g e) .any d.heap.size i e/\
   ((h.pre b C.prog f [] false (d.forCall g e).memory e.args/\X (d.forCall g e).memory e.args)/\sizedMet b C.prog f (OpenSpec.ofChange h) false (d.forCall g e).memory e.args)/\({}:Assume).holds C.prog (lone (Frame.enter C.prog i e.args .normal) [] (d.forCall g e)))
  (t:∀(a:Zw) (r:Nat) (args:Array Zv) (l m:List (DataW c)) (k:List MemPlace),
   (∀(p:Nat) q v,f.params[p]?=some q->args[p]?=some v->Value.okWide C.prog a .any r q v)->
   DataW.Whole b C.prog f.params.toList h.vars false a args.toList l m k->X a args->sizedMet b C.prog f (OpenSpec.ofChange h) false a args->a.ShapedOpen C.prog->
   Calls C.prog i args a λj o=>∃v,j=.returned v/\h.post b C.prog f false true false false a args v o) :
  ReturnsInHanded {} C n i .any (λd args=>(h.pre b C.prog f [] false d args/\X d args)/\sizedMet b C.prog f (OpenSpec.ofChange h) false d args) (h.post b C.prog f false true false false):=by
 refine returnsInHanded_of_calls R S P a0 ?_;intro d g e _ I _ E H _;obtain⟨_,_,_,w,D,_,_,_,_,J⟩:=E;have j:w=f:=YQ (D.symm.trans B);subst j;obtain⟨⟨⟨l,m,k,K,a1⟩,N⟩,O⟩:=H;have L:=DataW.Whole.of_heap (w':=d.forCall g e) Zr K;obtain⟨G,u,x,s,M,z⟩:=O;refine(t (d.forCall g e) d.heap.size e.args l m k J L (y _ _ _ Zr N) ⟨G,u,x,s,DataW.Whole.of_heap (w':=d.forCall g e) Zr M,z⟩ I).mono λj o ⟨v,A,F⟩=>?_;subst A;exact ChangeSpec.post_blind F
end
def Si{b c}(a:ap [] b c):Below b.heap.size b c:=⟨a.os,a.dt,a.ds,a.aX,λe d=>a.al e d Zq⟩
end
end Go.Proofs.YtjdhaegijjednaaGreatDoor
namespace Go.Proofs.YtjdhaegijjednaaGreatDoor
open Go.ChangeShapes Go.WideShapes
open Go.Proofs.Tryz
def Xm:laidOutB prog=true:=Zk
instance:Inhabited dK:=⟨⟨0,0,0,0,0,[]⟩⟩
def YZ{c:Type}{e g:Nat}{d:DataW c}:∀{b:List (DataW c)},d∈b->g∈DataW.weights prog e d->g∈DataW.weightsAll prog e b:=by
 intro b;induction b with
 |nil=>intro a;cases a
 |cons i b h=>
  intro a f;simp only[DataW.weightsAll,Yn];rcases Yg.1 a with rfl|a
  .exact Y8 f
  .exact Ya (h a f)
def abt{I:Type}{b0:TypeId×Zv->I}{i:Zw}{v:Zv}{u:DataW I}{d9:List MemPlace}
  {a7:Nat} (c7:Value.okWide prog i .any a7 22 v) (b7:DataW.Trod b0 prog i 0 (λ_=>true) true 22 v u d9) (p:∀m∈DataW.weights prog 22 u,m<=reachBytes):∃A,qL i v A/\(∀q∈A,kW q)/\∀q∈A,q.s.length<=1000000000000000000:=by
 obtain⟨g3,a3⟩:=b7;obtain⟨J,e,r,rfl⟩:=okWide_slice underlying22 c7;rw[show (Value.slice J e r).cells.toList=[.slice J e r]from rfl]at a3;rcases Go.Deep.open_slice underlying22 a3 with⟨o,_⟩|⟨c,g2,f9,a4,m,n,f2,o,_,a2,c0,c5,c9,g⟩
 .simp only[List.cons.injEq,Value.slice.injEq,and_true]at o;obtain⟨rfl,rfl,rfl⟩:=o;exact⟨[],⟨none,0,rfl,Y4 _,YV _,λb a f=>by simp at f⟩,Zq,Zq⟩
 .simp only[List.cons.injEq,Value.slice.injEq,and_true]at o;obtain⟨rfl,rfl,rfl⟩:=o;have g1:e<=a4:=by rw[c5];simpa using a2
  have c2:u=.slice ((List.range e).map n) ((List.range (a4-e)).map λl=>n (e+l)):=Yo Prod.fst c9;have c8:∀d,d<e->∀m∈DataW.weights prog 27 (n d),m<=reachBytes:=by
   intro d w m c6;refine p m ?_;rw[c2];simp only[DataW.weights,underlying22];exact Y5 _ (Yf _ (YZ (YE.2 ⟨d,List.mem_range.2 w,rfl⟩) c6))
  have K:prog.cellsOf 27=6:=Zk;have a9:∀d,d<e->∃a:dK,c.spot=none/\yq i c.block (c.off+d*6) a/\kW a/\a.s.length<=1000000000000000000:=by
   intro d w;obtain⟨a8,a0,b8⟩:=g d Zm;rw[K]at a0;obtain⟨_,c3,j⟩:=World.cells?_some a0;obtain⟨e5,b,f,d1,_,d0,k⟩:=DataW.trod_struct underlying27 b8;match e5,d0,a8,c3 with
   |[e6,e7,e8,e9,f0,f1],_,[r,f4,f5,f6,f7,f8],_=>
    have b1:=k 0 _ rfl;have b2:=k 1 _ rfl;have b3:=k 2 _ rfl;have b4:=k 3 _ rfl;have b5:=k 4 _ rfl;have b6:=k 5 _ rfl;obtain⟨d4,L,_,g4⟩:=DataW.trod_int underlying3 b1;obtain⟨d5,M,_,e1⟩:=DataW.trod_int underlying3 b2;obtain⟨d6,N,_,e2⟩:=DataW.trod_int underlying3 b3;obtain⟨d7,O,_,e3⟩:=DataW.trod_int underlying3 b4;obtain⟨d8,P,_,e4⟩:=DataW.trod_int underlying3 b5;obtain⟨B,R,e0,g5⟩:=DataW.trod_string underlying9 b6;have d2:prog.cellsOf 3=1:=Zk;have d3:prog.cellsOf 9=1:=Zk;simp[d2,d3]at L M N O P R;subst L M N O P R;have C:=j 0 Zm;have D:=j 1 Zm;have E:=j 2 Zm;have F:=j 3 Zm;have G:=j 4 Zm;have H:=j 5 Zm;rw[Go.Deep.add_add]at C D E F G H;simp only[List.getElem?_cons_zero,List.getElem?_cons_succ]at C D E F G H;have z:c.spot=none:=by
     obtain⟨f3,a1,_⟩:=g 0 Zm;rw[K]at a1;obtain⟨_,g0,c1⟩:=World.cells?_some a1;have p:=c1 0 Zm;rw[Go.Deep.add_add]at p;rw[Yd Zm]at p;exact World.cell?_spot (a:=c) (by simpa[Addr.add]using p)
    have h:∀l a,i.cell? (c.add l)=some a->i.cell? ⟨c.block,c.off+l,none⟩=some a:=by
     intro l a x;obtain⟨a6,q,g6⟩:=c;simp only at z;subst z;unfold Addr.add at x;by_cases S:l=0
     .subst S;simpa using x
     .simpa[S]using x
    refine⟨⟨d4,d5,d6,d7,d8,B.data.toList⟩,z,⟨h _ _ C,h _ _ D,h _ _ E,h _ _ F,h _ _ G,h _ _ H⟩,⟨bounds_i64 e1,bounds_i64 e2,bounds_i64 e3,bounds_i64 e4⟩,?_⟩;have b9:n d=.agg [e6.1,e7.1,e8.1,e9.1,f0.1,f1.1]:=Yo Prod.fst d1;have c4:B.data.toList.length∈DataW.weights prog 27 (n d):=by
     rw[b9,e0];simp only[DataW.weights,underlying27];simp[DataW.weightsEach,DataW.weights]
    have:=c8 d w _ c4;unfold reachBytes at this;show B.data.toList.length<=_;omega
  obtain⟨t,s⟩:=Go.Deep.choose_lt a9;have a5:∀a∈(List.range e).map t,∃b,b<e/\t b=a:=λa g=>by
   obtain⟨b,f,rfl⟩:=YE.1 g;exact⟨b,List.mem_range.1 f,rfl⟩
  refine⟨(List.range e).map t,⟨some c,r,Zq,by simpa using a2,c0,?_⟩,?_,?_⟩
  .intro b a f;have y:b<e:=by have:=(YB.1 f).1;simpa using this
   obtain rfl:t b=a:=by simpa[y]using f
   refine⟨c.block,c.off,?_,(s b y).2.1⟩;obtain⟨a6,q,h⟩:=c;have:=(s b y).1;simp only at this;subst this;rfl
  .intro a g;obtain⟨b,f,rfl⟩:=a5 a g;exact(s b f).2.2.1
  .intro a g;obtain⟨b,f,rfl⟩:=a5 a g;exact(s b f).2.2.2
end Go.Proofs.YtjdhaegijjednaaGreatDoor
namespace Go.Proofs.YtjdhaegijjednaaGreatDoor
open Go.RowKit Go.MapKept Go.Proofs.Tryz
def TT:joinedFacts Tryz.pinned.checked.prog 6 Tryz.f6 Rows.decodesSpec Rows.decodesRow=true:=by
 unfold joinedFacts;simp only[Bool.and_eq_true];repeat' apply Yp
 all_goals (as_aux_lemma=>kernel_rfl)
def Ub:Rows.decodesRow.wfByText (OpenSpec.ofChange Rows.decodesSpec)=true:=Zk
def TY:Tryz.pinned.checked.prog.mainIs=some (Rows.decodesCard.stood.harness.1,Rows.decodesCard.stood.harness.2.toList):=Zk
def TU:Tryz.pinned.checked.prog.funcNamed Rows.decodesRow.func=some 6:=Zk
def TX:true=Tryz.pinned.checked.prog.looks []:=Zk
def Ua:Tryz.pinned.checked.prog.wantsStandIn 22=false:=Zk
def TV:false=Rows.decodesRow.goesBy Tryz.pinned.checked.prog:=Zk
end Go.Proofs.YtjdhaegijjednaaGreatDoor
namespace Go.Proofs.YtjdhaegijjednaaGreatDoor
open Go.ChangeShapes Go.WideShapes Go.ChangeAt Go.RowKit
open Go.ChangeMaps (open_string shut_string)
open Go.Proofs.Tryz
def TW(os:Os)(a4:os.Started)(r:Type)(enc:TypeId×Zv->r):ReturnsInHanded {} Tryz.checked os 6 .any (λa args=>(Rows.decodesSpec.pre enc prog Tryz.f6 [] false a args/\laidMetH prog Rows.decodesRow.laid a)/\sizedMet enc prog Tryz.f6 (OpenSpec.ofChange Rows.decodesSpec) false a args)
   (Rows.decodesSpec.post enc prog Tryz.f6 false true false false):=by
 refine Xo (C:=Tryz.checked) (X:=λa _=>laidMetH prog Rows.decodesRow.laid a) (λ_ _ _ H d=>d.of_heap H) abz a4 Zk func6
  (ChangeSpec.witness_shaped (enc:=enc) (C:=Tryz.checked) (os:=os) (X:=λa _=>laidMetH prog Rows.decodesRow.laid a) false (World.doorLaid prog 88 os) #[.slice none 0 0] 8 rfl (World.shaped_of_RefB Zk Zk) Zk Zk Zk (Um os _)) ?_
 intro b s args u b4 a9 n k j E N;have m:∀(o:Nat) q v,Tryz.f6.params[o]?=some q->args[o]?=some v->Value.okWide prog b .any s q v:=n;have D:=k;obtain⟨S,c1,h,B,rfl,b7,b8⟩:=k;have g:DataW.TrodAll enc prog b 0 (λ_=>true) true Tryz.f6.params.toList args.toList u S:=h;rw[params6]at g m;obtain⟨c,c5,b0,b1,a0,c2,b6,rfl,rfl,x,a2⟩:=trodAll_cons g;obtain⟨rfl,rfl,rfl⟩:=trodAll_nil a2;obtain rfl:args=#[c]:=by cases args;simp_all
 obtain⟨rfl,rfl⟩:=trodVars_none B;have p:=x;have P:∀a6∈a0,a6.block<b.heap.size:=by obtain⟨R,K⟩:=p;exact DataW.trod_lt R _ _ _ K
 obtain⟨_,w,b5,a8,⟨a1,c3,A,_⟩,l⟩:=E;have i:DataW.TrodAll enc prog b 0 (λ_=>true) true Tryz.f6.params.toList [c] w a1:=A;rw[params6]at i;obtain⟨a5,c6,t,b2,c0,c4,F,rfl,rfl,y,a3⟩:=trodAll_cons i;obtain⟨rfl,rfl,rfl⟩:=trodAll_nil a3;obtain rfl:c=a5:=by simpa using F
 rw[params6]at l;have O:∀e∈DataW.weights prog 22 t,e<=reachBytes:=λe L=>by
  have:=List.all_eq_true.1 l e (by simp only[YX,YT,DataW.weightsEach];exact Yf _ L);simpa using this
 obtain⟨b9,J,z,M⟩:=abt (m 0 22 c rfl rfl) y O;clear h n;refine(Ql J z M (VU j N) (UT j)).mono λb3 a7 ⟨G,I⟩=>?_;subst G;have f:=Si I;exact⟨_,rfl,_,_,_,[],_,[],D,trodAll_mk1 (shut_bool underlying4 _),(trodAll_cons_mk (Below.trod Xm Zk (of_decide_eq_true Zk) p f P) trodAll_mk0),rfl,f.frame _,λd=>by cases d⟩
def TZ:Rows.DecodesSaid:=
 OpenClaim.holds_of_wide 6 Tryz.f6 rfl rfl rfl rfl rfl rfl rfl ⟨rfl,rfl,rfl,rfl,rfl⟩ rfl rfl rfl rfl rfl Zk func6 TT
  (of_decide_eq_true Zk) (by unfold Func.isWrapper;rw[Y2 (of_decide_eq_false Zk)];exact⟨rfl,rfl⟩)
  (λc d a b _=>TW c d a b)
theorem decodes_card:Rows.DecodesCardSaid:=
 Claim7.holds_tied_plain_at .later [] Rows.decodesCard.laidKinds true Rows.decodesCard.stood.harness true
  TZ (λ_ a=>by cases a) Ub (λ_ a=>by cases a) decodes_row_tie rfl ⟨rfl,rfl⟩ TY rfl
  (λc d e f=>by
   obtain rfl:c=6:=YQ (TU.symm.trans e) |>.symm;obtain rfl:d=Tryz.f6:=(YQ (func6.symm.trans f)).symm;exact⟨TX,λi h b=>by
    rw[params6]at b;have g:h∈[22]:=by simpa using Array.mem_of_getElem? b
    rw[Yc.1 g];exact Ua⟩)
  TV
end Go.Proofs.YtjdhaegijjednaaGreatDoor
