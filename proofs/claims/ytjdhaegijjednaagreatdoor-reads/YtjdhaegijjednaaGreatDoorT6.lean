import Derived.Test.YtjdhaegijjednaaGreatDoorT5
import Derived.Test.YtjdhaegijjednaaGreatDoorRows
import Derived.Test.YtjdhaegijjednaaGreatDoorTie
import Derived.Test.YtjdhaegijjednaaGreatDoorCards
import Derived.ProofKit
import Derived.LaidMore
import Derived.OpenShut
import Derived.Stop.Joined
import Derived.LaidHandle
import Derived.SevenTiedAt
import Derived.Shelf.Vars
import Derived.ShutString
import Derived.ChangeOld
import Derived.Deep.Slices
set_option linter.all false
set_option maxRecDepth 100000
set_option maxHeartbeats 4000000
namespace Go.Proofs.YtjdhaegijjednaaGreatDoor
open Go.RowKit
open Go.Proofs.Tryz
section
variable {d c : World} {b : Nat} {s k : eQ} {g h f e : Value} {R : List Th}
def Jg:(prog.info? 37).map (λa=>(a.zero,a.size,a.bytes))=some (some (.pointer none),1,8):=by kernel_rfl
def PW(B:aR (wL b s g h f e R) c d)(k:cV)(u:it k)(q:pj s)(A:k.H=9){b0:List ao}(a4:eo (ap (eF s k.a))=.ok b0)(P:Gl c):Calls prog 13 #[.pointer (some ⟨b,0,none⟩),.agg (cA k)] d λy d0=>y=.returned (.bool true)/\∃S m p c9,aR (wL b { s with b5:=s.b5++[S] } m p c9 e R) c d0:=by
 obtain⟨gT,o,rfl⟩:=bY (B.b9 (i:=3) (a:=oL 37 f s.b5) rfl);have x:=Z (tG (B.aD (.cells (cA k) 27)) k u q);rw[Cz A]at x;have H:=Z (λ(C:World) m p (a7:aR (wL b s m p (.slice gT s.b5.length o) e (R++[.obj d.heap.size (.cells (cA k) 27)])) c C)=>qv (s:=s) (a7.b8 (i:=0) (R:=b) rfl) (a7.b9 (i:=1) (a:=bE m s.a0) rfl) k.a u.2.1.1 u.2.1.2 (by have:=q.a0;omega));have F:=Z (λ(C:World) (c1:ai [] c C)=>Ns a4 (P.O c1 (by simp) (by simp) (by simp)));have a1:s.b5.length+1<=maxLen:=by have:=q.b5;unfold maxLen;omega
 have b5:(s.b5.length+1)*8<=140737488355328:=by have:=q.b5;omega
 obtain⟨c0,b3,b6,b7,b8⟩:=info_parts Jg;have b9:(Value.pointer none).cells.size=1:=rfl;generalize eF s k.a=tx at *
 have d5:(k.H==9)=true:=by rw[A];rfl
 clear B u q a4 P A;go_in;go_wp2_with fail;refine x.j.mono ?_;rintro y d1 ⟨rfl,m,p,z⟩;have v:=Z z;have I:=Z (H.j d1 m p z);clear z x H;obtain⟨c2,c3,c4,c5,c6,c7,of,c8⟩:=dY v.j.j8;generalize d.heap.size=a9 at *
 go_wp2_with fail;refine I.j.mono ?_;rintro d4 d2 ⟨rfl,a5⟩;have w:=Z (v.j.O a5);have G:=Z (F.j d2 w.j.fr);clear v I F a5 c2 c3 c4 c5 c6 c7 of c8;go_wp2_with fail;refine G.j.mono ?_;rintro y n ⟨a6,S,rfl,b1,b2⟩;have r:=Z (w.j.O a6);clear w G a6 b1 b2;have l:=r.j.b8 (i:=0) (R:=b) rfl;have J:n.cell? ⟨b,6,none⟩=some (.slice gT s.b5.length o):=aS l rfl;have K:=cG l;have L:=aj l;clear l;have a2:U (∀D,(n.alloc D).ownsRow 0 37 1 (.slice gT s.b5.length o) s.b5.length (s.b5.map nA)):=Z (λD=>aY (r.j.b9 (i:=3) (a:=oL 37 (.slice gT s.b5.length o) s.b5) rfl) ((ah [] n).G D) (by simp));go_wp2_with (at_builtin;(refine wpList_append_lies _ (by rfl) _ _ _ (by rfl) 0 37 c0 _ 1 8 underlying32 b3 b6 b7 b8 b9 (by omega) (.slice gT s.b5.length o) s.b5.length (s.b5.map nA) (by rfl) (a2.j _) ⟨n.heap.size,0,none⟩ 1 1 [nA S] (by rfl) (by rfl) (World.news_of_block (cs:=#[nA S]) (t:=37) (fr:=(0,0)) (heap_alloc_new n _)) (by simp[Value.oneCell']) (by omega) a1 b5 (by simp) (n.heap.size+1) (by simp) ?_;intro N M d3 a3 a0 O b4;have E:=Z (r.j.bZ (i:=3) rfl ((ah [] n).G _) a3 a0 O (by simp));clear a3 a0 O b4 a2 a1 J K L r;have l:=E.j.b8 (i:=0) (R:=b) rfl;have J:d3.cell? ⟨b,6,none⟩=some (.slice gT s.b5.length o):=aS l rfl;have K:=cG l;have L:=aj l;clear l));go_wp2;go_ret;have a8:=E.j.bQ (i:=0) (j:=6) rfl (.slice (some ⟨N,0,none⟩) (s.b5.length+1) M);refine⟨rfl,S,m,p,.slice (some ⟨N,0,none⟩) (s.b5.length+1) M,aR.ks (a:=.obj a9 (.cells (cA k) 27)) ?_⟩;simpa[wL,oL]using a8
end
section
variable {c f : World} {b : Nat} {s j : eQ} {g h e d : Value} {R : List Th}
def Cy{a:cV}(b:a.H<=0):lx s a=none:=by
 unfold lx mD;rw[Y2 (by omega),Y2 (by omega),Y2 (by omega),Y2 (by omega),Y2 (by omega),Y2 (by omega),Y2 (by omega),Y2 (by omega)]
def PQ(u:aR (wL b s g h e d R) f c)(j:cV)(x:it j)(y:pj s)(z:j.H<=0)(w:s.b5=[]):Calls prog 13 #[.pointer (some ⟨b,0,none⟩),.agg (cA j)] c λt B=>t=.returned (.bool true)/\∃m o,aR (wL b s m o e d R) f B:=by
 obtain⟨gT,r,rfl⟩:=bY (u.b9 (i:=3) (a:=oL 37 e s.b5) rfl);have q:=Z (tG (u.aD (.cells (cA j) 27)) j x y);rw[Cy z]at q;have I:(j.H==9)=false:=by simp;omega
 have H:¬(14:Int)<j.H:=by omega
 have A:s.b5.length=0:=by rw[w];rfl
 have v:U (∀n:World,n.cell? ⟨b,6,none⟩=some (.slice gT s.b5.length r)->n.cell? ⟨b,6,none⟩=some (.slice gT 0 r)):=Z (λn k=>by rw[A]at k;exact k);go_in;go_wp2_with fail;refine q.j.mono ?_;rintro t C ⟨rfl,m,o,k⟩;have l:=Z k;obtain⟨J,K,L,M,N,O,of,P⟩:=dY l.j.j8;have p:=l.j.b8 (i:=0) (R:=b) rfl;have D:=v.j C (aS p rfl);have E:=cG p;have G:=aj p;generalize c.heap.size=F at *
 go_wp2;go_ret;exact⟨rfl,m,o,l.j.ks⟩
def CH{f:TypeId}{v:Value}{a:List Nat}{d:Nat}(g:c.ownsRow 0 f 1 v a.length (a.map nA))(j:d<a.length):∃b e,v=.slice (some ⟨b,0,none⟩) a.length e/\c.cell? ⟨b,d,none⟩=some (nA (a.getD d 0))/\b<c.heap.size:=by
 obtain⟨b,e,l,h,_,k⟩:=kf g (i:=d) (x:=nA (a.getD d 0)) (by simp[j]);exact⟨b,e,l,h,k⟩
def PR(J:aR (wL b s g h e d R) f c)(j:cV)(p:it j)(z:pj s)(a3:j.H<=0)(a1:s.b5≠[]):Calls prog 13 #[.pointer (some ⟨b,0,none⟩),.agg (cA j)] c λu q=>u=.returned (.bool true)/\∃k l,aR (wL b s k l e d R) f q:=by
 have G:0<s.b5.length:=YM.2 a1;have F:eM j.x s.b5.length<s.b5.length:=qh j.x G;obtain⟨m,o,rfl,-,-⟩:=CH (J.b9 (i:=3) (a:=oL 37 e s.b5) rfl) F;have E:=Z (tG (J.aD (.cells (cA j) 27)) j p z);rw[Cy a3]at E;have O:=Z (λ(A:World) k l (t:aR (wL b s k l (.slice (some ⟨m,0,none⟩) s.b5.length o) d (R++[.obj c.heap.size (.cells (cA j) 27)])) f A)=>qv (s:=s) (t.b8 (i:=0) (R:=b) rfl) (t.b9 (i:=1) (a:=bE k s.a0) rfl) j.a p.2.1.1 p.2.1.2 (by have:=z.a0;omega));have N:=Z (vJ j.x s.b5.length p.1.1 p.1.2 G (by have:=z.b5;omega));have M:=Z (λ(A:World) k l (t:aR (wL b s k l (.slice (some ⟨m,0,none⟩) s.b5.length o) d (R++[.obj c.heap.size (.cells (cA j) 27)])) f A)=>CH (t.b9 (i:=3) (a:=oL 37 (.slice (some ⟨m,0,none⟩) s.b5.length o) s.b5) rfl) F);have c4:(j.H==9)=false:=by simp;omega
 have b8:(j.H==10)=false:=by simp;omega
 have b9:(j.H==11)=false:=by simp;omega
 have c0:(j.H==12)=false:=by simp;omega
 have c1:(j.H==13)=false:=by simp;omega
 have c3:(j.H==14)=false:=by simp;omega
 have c2:¬(14:Int)<j.H:=by omega
 have c9:((s.b5.length:Int)==0)=false:=by simp;omega
 have c7:(0:Int)<=↑(eM j.x s.b5.length):=by omega
 have c8:(↑(eM j.x s.b5.length):Int) < ↑s.b5.length:=by omega
 generalize eM j.x s.b5.length=I at *
 generalize s.b5.getD I 0=S at *
 generalize eF s j.a=tx at *
 go_in;go_wp2_with fail;refine E.j.mono ?_;rintro u B ⟨rfl,k,l,n⟩;have r:=Z n;obtain⟨c5,b6,H,b5,c6⟩:=M.j B k l n;simp only[Value.slice.injEq,Yu,Addr.mk.injEq,and_true,true_and]at H;obtain⟨rfl,rfl⟩:=H;obtain⟨a5,a6,a7,a8,a9,b0,of,b1⟩:=dY r.j.j8;have C:=r.j.b8 (i:=0) (R:=b) rfl;have b2:B.cell? ⟨b,6,none⟩=some (.slice (some ⟨m,0,none⟩) s.b5.length o):=aS C rfl;have b3:=cG C;have b4:=aj C;have P:=Z (O.j B.drew k l r.j.a9);generalize c.heap.size=a0 at *
 go_wp2;refine cS (λq=>q.cell? ⟨b,6,none⟩=some (.slice (some ⟨m,0,none⟩) s.b5.length o)/\q.cell? ⟨a0,1,none⟩=some (.int .i64 j.x)/\q.cell? ⟨m,I,none⟩=some (nA S)) (L:=14) (by kernel_rfl) rfl (by kernel_rfl) (by kernel_rfl) ?_ (λa2=>?_)
 .go_keep
 refine bI [0,1,2,3,4,5,6,7,8,9,10] ?_;iterate 11 (refine bP (v:=?_) rfl (by kernel_rfl) (λ_ _ _ n=>n) (by kernel_rfl) (by assumption) ?_ ?_;rotate_left;focus (intro c y;(try dsimp only at y);go_simp;(try with_reducible rfl));(try simp only[aL,aM,List.set]))
 refine bJ ?_;refine ck 11 (by kernel_rfl) rfl λK w=>?_;(go_simp;refine(N.j _).mono ?_;rintro u d1 ⟨rfl,rfl⟩);refine w.out _ _ ?_ (λa2=>?_)
 .go_keep
 (try simp only[aL,aM,List.set]);refine bI [12,13] ?_;iterate 2 (refine bP (v:=?_) rfl (by kernel_rfl) (λ_ _ _ n=>n) (by kernel_rfl) (by assumption) ?_ ?_;rotate_left;focus (intro c y;(try dsimp only at y);go_simp;(try with_reducible rfl));(try simp only[aL,aM,List.set]))
 refine bJ ?_;refine cQ (by kernel_rfl) rfl λK w=>?_;go_simp;refine w.out _ _ ?_;(try simp only[aL,aM,List.set]);go_wp2_with fail;refine P.j.mono ?_;rintro b7 d0 ⟨rfl,a4⟩;have D:=Z (r.j.a9.O a4);obtain⟨a5,a6,a7,a8,a9,b0,of,b1⟩:=dY D.j.j8;go_wp2;go_ret;exact⟨rfl,k,l,D.j.ks⟩
end
section
variable {b i : World} {j c : Nat} {s d : eQ} {g h f e : Value} {k : List Th} {o : cV}
structure iq(c:Nat)(s:eQ):Prop where
 a0:s.a0.length<=c
 dX:∀x∈s.a0,x.length<=100000
 a7:s.a7.length<=50000+c
 b5:s.b5.length<=c
 f4:s.f4.length<=c
def iq.b0(a:iq c s)(e:c<=16384):pj s:=
 ⟨by have:=a.a0;omega,λd b=>by have:=a.dX d b;omega,by have:=a.a7;omega,by have:=a.b5;omega,by have:=a.f4;omega⟩
def iq.up(a:iq c s):iq (c+1) s:=
 ⟨by have:=a.a0;omega,a.dX,by have:=a.a7;omega,by have:=a.b5;omega,by have:=a.f4;omega⟩
def iq.text(b:iq c s)(a:Int):(eF s a).length<=100000:=by
 unfold eF;split
 .simp
 .rename_i d;have e:=qh a (YM.2 d);exact b.dX _ (by simp[e])
def iq.a4(b:iq c s){d:List UInt8}(e:d.length<=100000):iq (c+1) { s with a0:=s.a0++[d] }:=
 ⟨by have:=b.a0;simp;omega,λf a=>by
  rcases Yn.1 a with a|a
  .exact b.dX f a
  .simp at a;rw[a];exact e,b.up.a7,b.up.b5,b.up.f4⟩
def Rt(a:List UInt8)(b c:Int):(oN a b c).length=a.length:=by
 unfold oN;split
 .rename_i d;rw[d]
 .simp
def iq.p1(e:iq c s)(g:o.s.length<=16384)(b:lx s o=some d):iq (c+1) d/\d.b5=s.b5/\d.f4=s.f4:=by
 have a:=e.up;unfold lx at b;split at b
 .cases b
  exact⟨⟨a.a0,a.dX,by have:=e.a7;simp;omega,a.b5,a.f4⟩,rfl,rfl⟩
 split at b
 .cases b
  refine⟨⟨a.a0,a.dX,?_,a.b5,a.f4⟩,rfl,rfl⟩;show (if s.a7=[]then s.a7 else og s.a7 o).length<=_
  split
  .exact a.a7
  .unfold og;rw[YF];exact a.a7
 split at b
 .cases b
  exact⟨⟨a.a0,a.dX,by simp,a.b5,a.f4⟩,rfl,rfl⟩
 split at b
 .cases b
  exact⟨⟨a.a0,a.dX,a.a7,a.b5,a.f4⟩,rfl,rfl⟩
 split at b
 .cases b
  exact⟨⟨a.a0,a.dX,a.a7,a.b5,a.f4⟩,rfl,rfl⟩
 unfold mD at b;split at b
 .cases b
  exact⟨e.a4 (by omega),rfl,rfl⟩
 split at b
 .cases b
  exact⟨e.a4 (by rw[Rt];exact e.text _),rfl,rfl⟩
 split at b
 .cases b
  unfold uT;split
  .exact⟨a,rfl,rfl⟩
  .rename_i f;exact⟨e.a4 (by rw[Yq];omega),rfl,rfl⟩
 .cases b
def Mz(b:1<=o.H)(c:o.H<=8):∃d,lx s o=some d:=by
 have:o.H=1\/o.H=2\/o.H=3\/o.H=4\/o.H=5\/o.H=6\/o.H=7\/o.H=8:=by omega
 unfold lx mD;rcases this with a|a|a|a|a|a|a|a<;>simp[a]
def PY(v:aR (wL j s g h f e k) i b)(n:iq c s)(G:c<=16384)(o:cV)(t:it o)(E:o.s.length<=16384)(J:o.H<=9)(z:Gl i)(F:i.cell? ⟨1,0,none⟩=some (jb 55)) :
  Calls prog 13 #[.pointer (some ⟨j,0,none⟩),.agg (cA o)] b λq r=>q=.returned (.bool true)/\∃d l m w D,aR (wL j d l m w D k) i r/\iq (c+1) d:=by
 have u:=n.b0 G;by_cases y:o.H=9
 .cases B:eo (ap (eF s o.a))with
  |error I=>
   refine(Qc v o t u y B z F).mono ?_;rintro q r ⟨rfl,l,m,p⟩;exact⟨rfl,s,l,m,f,e,p,n.up⟩
  |ok H=>
   refine(PW v o t u y B z).mono ?_;rintro q r ⟨rfl,S,l,m,w,p⟩;exact⟨rfl,_,l,m,w,e,p,n.up.a0,n.up.dX,n.up.a7,by have:=n.b5;simp;omega,n.up.f4⟩
 by_cases x:o.H<=0
 .by_cases C:s.b5=[]
  .refine(PQ v o t u x C).mono ?_;rintro q r ⟨rfl,l,m,p⟩;exact⟨rfl,s,l,m,f,e,p,n.up⟩
  .refine(PR v o t u x C).mono ?_;rintro q r ⟨rfl,l,m,p⟩;exact⟨rfl,s,l,m,f,e,p,n.up⟩
 .obtain⟨d,A⟩:=Mz (s:=s) (o:=o) (by omega) (by omega);refine(PT v o t u A).mono ?_;rintro q r ⟨rfl,l,m,p⟩;exact⟨rfl,d,l,m,f,e,p,(n.p1 E A).1⟩
def Ss(b:World):aR (wL b.heap.size ⟨[],[],[],0,0,0,[],[]⟩ (.slice none 0 0) (.slice none 0 0) (.slice none 0 0) (.slice none 0 0) []) b (b.alloc zu):=by
 have a:∀(d:TypeId) (e:Nat) (c:List Th),aR c b b->aR (.row d e (.slice none 0 0) 0 []::c) b b:=λd e c g=>g.cons (ah [] b) ⟨by simp,Y8 ⟨rfl,rfl⟩⟩ (λh f=>by simp[Th.ch,Value.ownBlock]at f);exact(a 9 1 _ (a 52 5 _ (a 37 1 _ (a 48 1 _ (zT b))))).G zu
def Fp{v:Value}{j:List cV}(n:lS b v j)(C:∀o∈j,it o)(R:∀o∈j,o.s.length<=1000000000000000000)(L:Gl b)(J:b.cell? ⟨1,0,none⟩=some (jb 55)) :
  Calls prog 3 #[v] b λw a4=>w=.returned (.bool true)/\ai [] b a4:=by
 have i:ai [] b (b.alloc (.cells #[.int .i64 9] 3)):=(ah [] b).G _;have I:(b.alloc (.cells #[.int .i64 9] 3)).heap[b.heap.size]? = some (.cells #[.int .i64 9] 3):=aK rfl;have u:=Z (MI (kv:=.slice (some ⟨b.heap.size,0,none⟩) 1 1) (ks:=[9]) (n.O i) R ⟨_,_,rfl,λS p=>⟨b.heap.size,rfl,by
  have:S=0:=by simp at p;exact p
  subst this;exact aS I rfl⟩⟩ (by simp) (λl a9 a7 N G O H=>by
   have q:=i.u N;have M:=L.O q (by simp) (by simp) (by simp);have K:=oi J q;refine RR (λc m=>∃s g h f e,aR (wL l.heap.size s g h f e []) l m/\iq c s) G O ⟨_,_,_,_,_,Ss l,by simp,by simp,by simp,by simp,by simp⟩ (λc m a=>?_) (λc m o a a6 P=>?_)
   .obtain⟨s,g,h,f,e,k,_⟩:=a;exact k.fr
   .obtain⟨s,g,h,f,e,k,F⟩:=a;obtain⟨z,A,B⟩:=H o P;refine(PY k F (by omega) o (C o z) B (by simp at A;omega) M K).mono ?_;rintro x a8 ⟨rfl,d,a2,a3,a1,y,D,E⟩;exact⟨rfl,d,a2,a3,a1,y,D,E⟩))
 have t:=Z i;obtain⟨ad,a5,rfl,-⟩:=n;go_in;go_wp2_with fail;refine u.j.mono ?_;rintro x b0 ⟨rfl,a0⟩;have r:=Z (t.j.u a0);go_wp2;go_ret;exact⟨rfl,r.j⟩
end
end Go.Proofs.YtjdhaegijjednaaGreatDoor
namespace Go.Proofs.YtjdhaegijjednaaGreatDoor
open Go.ChangeShapes Go.WideShapes Go.ChangeAt Go.RowKit
open Go.Proofs.Tryz
section
variable {a:World}
def Ms:ownKnob prog.godebug=none:=by kernel_rfl
def Iv : Tryz.prog.globalNamed "strconv.ErrRange" = some 4 := by kernel_rfl
def Iw : Tryz.prog.globalNamed "strconv.ErrSyntax" = some 3 := by kernel_rfl
def QF:(prog.globals[4]?).map (·.type)=some 55:=by kernel_rfl
def QH:(prog.globals[3]?).map (·.type)=some 55:=by kernel_rfl
def Ah{e:String}{c:Nat}{b:Array Value}{name:String}{f:DataW Unit}{k:List MemPlace}{g:Nat}(i:prog.globalNamed e=some c)(j:a.var? prog e=some b)
  (h:DataW.trod (λ_=>()) prog a 0 (λ_=>true) false g 55 b.toList=some (.iface name f,k)):∃m l,a.cell? ⟨c,0,none⟩=some (.iface m l):=by
 obtain⟨_,n,v,d,_,_⟩:=iface_of_trod underlying55 h
 refine⟨n,v,?_⟩;have:=World.var?_cell i j 0;obtain⟨o⟩:=b;simp only at d;subst d;simpa using this
def Iu : Tryz.prog.globalNamed "errors.errorType" = some 1 := by kernel_rfl
def QG : (Tryz.prog.cutTypes.find? (·.1 == "internal/reflectlite.rtype")).map (·.2) = some 407 := by kernel_rfl
def QE:((List.range prog.types.size).filter λa=>prog.rowNamed a [101,114,114,111,114])=[55]:=by kernel_rfl
abbrev MH : List (String × DataW Unit) := [("math/bits.deBruijn32tab", Rows.laid_math_bits_deBruijn32tab), ("math/bits.deBruijn64tab", Rows.laid_math_bits_deBruijn64tab), ("internal/strconv.uint64pow10", Rows.laid_internal_strconv_uint64pow10), ("strconv.ErrRange", Rows.laid_strconv_ErrRange), ("strconv.ErrSyntax", Rows.laid_strconv_ErrSyntax), ("marshal/fault.errInner", Rows.laid_marshal_fault_errInner)]
def CC  (b : laidMetH Tryz.prog Rows.readsRow.laid a) : laidMet Tryz.prog MH a ∧ handlesMet Tryz.prog [("errors.errorType", Rows.laid_errors_errorType)] a := b
def Iz(e:laidMetH prog Rows.readsRow.laid a)(h:a.ShapedOpen prog):Gl a:=by
 have d:=(CC e).1;obtain⟨a0,⟨w,a6,m,q,N,a1,E,H,K,B,⟨x,a7,n,r,O,a2,F,I,L,C,⟨y,a8,o,s,P,a3,G,J,M,D,⟨z,a9,p,u,R,a4,b,i,k,f,⟨A,b0,sP,v,S,a5,c,j,l,g,_,_⟩,_⟩,_⟩,_⟩,_⟩,_,_⟩:=d;obtain rfl:=YQ (Iv.symm.trans b);obtain rfl:=YQ (Iw.symm.trans c);obtain rfl:=YQ (QF.symm.trans i);obtain rfl:=YQ (QH.symm.trans j);exact⟨cell_of_shapedOpen_int (zero:=#[.int .i64 0]) (t:=3) h (of_decide_eq_true (by kernel_rfl)) (by kernel_rfl) rfl (by kernel_rfl) (by kernel_rfl) underlying3,Ah c l g,Ah b k f⟩
def HL(i:laidMetH prog Rows.readsRow.laid a):a.cell? ⟨1,0,none⟩=some (jb 55):=by
 obtain⟨name,m,l,d,e,f,g,b⟩:=(CC i).2 _ (Yc.2 rfl);have h:name=[101,114,114,111,114]:=(YQ d).symm;subst h;obtain rfl:=YQ (QG.symm.trans e);have c:l∈(List.range prog.types.size).filter λk=>prog.rowNamed k [101,114,114,111,114]:=List.mem_filter.2 ⟨List.mem_range.2 f,g⟩;rw[QE]at c;obtain rfl:=Yc.1 c;have j:typeHandle prog 55=nk 55:=by kernel_rfl
 rw[j]at b;simpa using World.var?_cell Iu b 0
def Hw(a:Os)(args:Array Value):laidMetH prog Rows.readsRow.laid ((World.doorLaid prog 88 a).forCall (λ_ _=>0) ⟨#[],args,[]⟩).memory:=
 laidMetH_of_parts3 (fuel:=8) (laidMet_of_run' 8 (by kernel_rfl) (by kernel_rfl)) (by kernel_rfl) (by kernel_rfl)
section
variable {c : Type} {b : TypeId × Value -> c}
def JJ{C:Checked}{n:Os}{i:FuncId}{f:Func}{h:ChangeSpec}{X:World->Array Value->Prop}
  (y:∀(d w':World) (args:Array Value),d.heap=w'.heap->X d args->X w' args)
  (R:ownKnob C.prog.godebug=none) (S:n.Started) (P:C.prog.inits.idxOf? i=none) (B:C.prog.funcs[i]? = some f)
  (a0:∃(d:World) (g:Tape) (e:Input),d.os=n/\(d.forCall g e).Shaped C.prog/\e.vars=[]/\Input.okWide C.prog (d.forCall g e) .any d.heap.size i e/\
   ((h.pre b C.prog f [] false (d.forCall g e).memory e.args/\X (d.forCall g e).memory e.args)/\sizedMet b C.prog f (OpenSpec.ofChange h) false (d.forCall g e).memory e.args)/\({}:Assume).holds C.prog (lone (Frame.enter C.prog i e.args .normal) [] (d.forCall g e)))
  (t:∀(a:World) (r:Nat) (args:Array Value) (l m:List (DataW c)) (k:List MemPlace),
   (∀(p:Nat) q v,f.params[p]? = some q->args[p]? = some v->Value.okWide C.prog a .any r q v)->
   DataW.Whole b C.prog f.params.toList h.vars false a args.toList l m k->X a args->sizedMet b C.prog f (OpenSpec.ofChange h) false a args->a.ShapedOpen C.prog->
   Calls C.prog i args a λj o=>∃v,j=.returned v/\h.post b C.prog f false true false false a args v o) :
  ReturnsInHanded {} C n i .any (λd args=>(h.pre b C.prog f [] false d args/\X d args)/\sizedMet b C.prog f (OpenSpec.ofChange h) false d args) (h.post b C.prog f false true false false):=by
 refine returnsInHanded_of_calls R S P a0 ?_;intro d g e _ I _ E H _;obtain⟨_,_,_,w,D,_,_,_,_,J⟩:=E;have j:w=f:=YQ (D.symm.trans B);subst j;obtain⟨⟨⟨l,m,k,K,a1⟩,N⟩,O⟩:=H;have L:=DataW.Whole.of_heap (w':=d.forCall g e) (by rfl) K;obtain⟨G,u,x,s,M,z⟩:=O;refine(t (d.forCall g e) d.heap.size e.args l m k J L (y _ _ _ (by rfl) N) ⟨G,u,x,s,DataW.Whole.of_heap (w':=d.forCall g e) (by rfl) M,z⟩ I).mono λj o ⟨v,A,F⟩=>?_;subst A;exact ChangeSpec.post_blind F
end
def FX{b c:World}(a:ai [] b c):Below b.heap.size b c:=⟨a.os,a.d9,a.d8,a.a2,λe d=>a.K e d (by simp)⟩
end
end Go.Proofs.YtjdhaegijjednaaGreatDoor
namespace Go.Proofs.YtjdhaegijjednaaGreatDoor
open Go.ChangeShapes Go.WideShapes
open Go.Proofs.Tryz
def JG:laidOutB prog=true:=by kernel_rfl
instance:Inhabited cV:=⟨⟨0,0,0,0,0,[]⟩⟩
def Kr{c:Type}{e g:Nat}{d:DataW c}:∀{b:List (DataW c)},d∈b->g∈DataW.weights prog e d->g∈DataW.weightsAll prog e b:=by
 intro b;induction b with
 |nil=>intro a;cases a
 |cons i b h=>
  intro a f;simp only[DataW.weightsAll,Yn];rcases Yg.1 a with rfl|a
  .exact Y8 f
  .exact Ya (h a f)
def Mm{I:Type}{b0:TypeId×Value->I}{i:World}{v:Value}{u:DataW I}{d9:List MemPlace}
  {a7:Nat} (c7:Value.okWide prog i .any a7 22 v) (b7:DataW.Trod b0 prog i 0 (λ_=>true) true 22 v u d9) (p:∀m∈DataW.weights prog 22 u,m<=reachBytes):∃A,lS i v A/\(∀q∈A,it q)/\∀q∈A,q.s.length<=1000000000000000000:=by
 obtain⟨g3,a3⟩:=b7;obtain⟨J,e,r,rfl⟩:=okWide_slice underlying22 c7;rw[show (Value.slice J e r).cells.toList=[.slice J e r]from rfl]at a3;rcases Go.Deep.open_slice underlying22 a3 with⟨o,_⟩|⟨c,g2,f9,a4,m,n,f2,o,_,a2,c0,c5,c9,g⟩
 .simp only[List.cons.injEq,Value.slice.injEq,and_true]at o;obtain⟨rfl,rfl,rfl⟩:=o;exact⟨[],⟨none,0,rfl,Y4 _,YV _,λb a f=>by simp at f⟩,by simp,by simp⟩
 .simp only[List.cons.injEq,Value.slice.injEq,and_true]at o;obtain⟨rfl,rfl,rfl⟩:=o;have g1:e<=a4:=by rw[c5];simpa using a2
  have c2:u=.slice ((List.range e).map n) ((List.range (a4-e)).map λl=>n (e+l)):=Yo Prod.fst c9;have c8:∀d,d<e->∀m∈DataW.weights prog 27 (n d),m<=reachBytes:=by
   intro d w m c6;refine p m ?_;rw[c2];simp only[DataW.weights,underlying22];exact Y5 _ (Yf _ (Kr (YE.2 ⟨d,List.mem_range.2 w,rfl⟩) c6))
  have K:prog.cellsOf 27=6:=by kernel_rfl
  have a9:∀d,d<e->∃a:cV,c.spot=none/\sw i c.block (c.off+d*6) a/\it a/\a.s.length<=1000000000000000000:=by
   intro d w;obtain⟨a8,a0,b8⟩:=g d (by omega);rw[K]at a0;obtain⟨_,c3,j⟩:=World.cells?_some a0;obtain⟨e5,b,f,d1,_,d0,k⟩:=DataW.trod_struct underlying27 b8;match e5,d0,a8,c3 with
   |[e6,e7,e8,e9,f0,f1],_,[r,f4,f5,f6,f7,f8],_=>
    have b1:=k 0 _ rfl;have b2:=k 1 _ rfl;have b3:=k 2 _ rfl;have b4:=k 3 _ rfl;have b5:=k 4 _ rfl;have b6:=k 5 _ rfl;obtain⟨d4,L,_,g4⟩:=DataW.trod_int underlying3 b1;obtain⟨d5,M,_,e1⟩:=DataW.trod_int underlying3 b2;obtain⟨d6,N,_,e2⟩:=DataW.trod_int underlying3 b3;obtain⟨d7,O,_,e3⟩:=DataW.trod_int underlying3 b4;obtain⟨d8,P,_,e4⟩:=DataW.trod_int underlying3 b5;obtain⟨B,R,e0,g5⟩:=DataW.trod_string underlying9 b6;have d2:prog.cellsOf 3=1:=by kernel_rfl
    have d3:prog.cellsOf 9=1:=by kernel_rfl
    simp[d2,d3]at L M N O P R;subst L M N O P R;have C:=j 0 (by omega);have D:=j 1 (by omega);have E:=j 2 (by omega);have F:=j 3 (by omega);have G:=j 4 (by omega);have H:=j 5 (by omega);rw[Go.Deep.add_add]at C D E F G H;simp only[List.getElem?_cons_zero,List.getElem?_cons_succ]at C D E F G H;have z:c.spot=none:=by
     obtain⟨f3,a1,_⟩:=g 0 (by omega);rw[K]at a1;obtain⟨_,g0,c1⟩:=World.cells?_some a1;have p:=c1 0 (by omega);rw[Go.Deep.add_add]at p;rw[Yd (by omega)]at p;exact World.cell?_spot (a:=c) (by simpa[Addr.add]using p)
    have h:∀l a,i.cell? (c.add l)=some a->i.cell? ⟨c.block,c.off+l,none⟩=some a:=by
     intro l a x;obtain⟨a6,q,g6⟩:=c;simp only at z;subst z;unfold Addr.add at x;by_cases S:l=0
     .subst S;simpa using x
     .simpa[S]using x
    refine⟨⟨d4,d5,d6,d7,d8,B.data.toList⟩,z,⟨h _ _ C,h _ _ D,h _ _ E,h _ _ F,h _ _ G,h _ _ H⟩,⟨bounds_i64 e1,bounds_i64 e2,bounds_i64 e3,bounds_i64 e4⟩,?_⟩;have b9:n d=.agg [e6.1,e7.1,e8.1,e9.1,f0.1,f1.1]:=Yo Prod.fst d1;have c4:B.data.toList.length∈DataW.weights prog 27 (n d):=by
     rw[b9,e0];simp only[DataW.weights,underlying27];simp[DataW.weightsEach,DataW.weights]
    have:=c8 d w _ c4;unfold reachBytes at this;show B.data.toList.length<=_;omega
  obtain⟨t,s⟩:=Go.Deep.choose_lt a9;have a5:∀a∈(List.range e).map t,∃b,b<e/\t b=a:=λa g=>by
   obtain⟨b,f,rfl⟩:=YE.1 g;exact⟨b,List.mem_range.1 f,rfl⟩
  refine⟨(List.range e).map t,⟨some c,r,by simp,by simpa using a2,c0,?_⟩,?_,?_⟩
  .intro b a f;have y:b<e:=by have:=(YB.1 f).1;simpa using this
   obtain rfl:t b=a:=by simpa[y]using f
   refine⟨c.block,c.off,?_,(s b y).2.1⟩;obtain⟨a6,q,h⟩:=c;have:=(s b y).1;simp only at this;subst this;rfl
  .intro a g;obtain⟨b,f,rfl⟩:=a5 a g;exact(s b f).2.2.1
  .intro a g;obtain⟨b,f,rfl⟩:=a5 a g;exact(s b f).2.2.2
end Go.Proofs.YtjdhaegijjednaaGreatDoor
namespace Go.Proofs.YtjdhaegijjednaaGreatDoor
open Go.Proofs.Tryz
def Nu:joinedFacts Tryz.pinned.checked.prog 3 Tryz.f3 Rows.readsSpec Rows.readsRow=true:=by
 unfold joinedFacts;simp only[Bool.and_eq_true];repeat' apply Yp
 all_goals (as_aux_lemma=>kernel_rfl)
def ND:Rows.readsRow.wfByText (OpenSpec.ofChange Rows.readsSpec)=true:=by kernel_rfl
def NA:Tryz.pinned.checked.prog.mainIs=some (Rows.readsCard.stood.harness.1,Rows.readsCard.stood.harness.2.toList):=by kernel_rfl
def Nv:Tryz.pinned.checked.prog.funcNamed Rows.readsRow.func=some 3:=by kernel_rfl
def Nz:true=Tryz.pinned.checked.prog.looks []:=by kernel_rfl
def NC:Tryz.pinned.checked.prog.wantsStandIn 22=false:=by kernel_rfl
def Nx:false=Rows.readsRow.goesBy Tryz.pinned.checked.prog:=by kernel_rfl
end Go.Proofs.YtjdhaegijjednaaGreatDoor
namespace Go.Proofs.YtjdhaegijjednaaGreatDoor
open Go.ChangeShapes Go.WideShapes Go.ChangeAt Go.RowKit
open Go.ChangeMaps (open_string shut_string)
open Go.Proofs.Tryz
def Ny(os:Os)(a4:os.Started)(r:Type)(enc:TypeId×Value->r) :
  ReturnsInHanded {} Tryz.checked os 3 .any (λa args=>(Rows.readsSpec.pre enc prog Tryz.f3 [] false a args/\laidMetH prog Rows.readsRow.laid a)/\sizedMet enc prog Tryz.f3 (OpenSpec.ofChange Rows.readsSpec) false a args)
   (Rows.readsSpec.post enc prog Tryz.f3 false true false false):=by
 refine JJ (C:=Tryz.checked) (X:=λa _=>laidMetH prog Rows.readsRow.laid a) (λ_ _ _ H d=>d.of_heap H) Ms a4 (by kernel_rfl) func3
  (ChangeSpec.witness_shaped (enc:=enc) (C:=Tryz.checked) (os:=os) (X:=λa _=>laidMetH prog Rows.readsRow.laid a) false (World.doorLaid prog 88 os) #[.slice none 0 0] 8 rfl (World.shaped_of_RefB (by kernel_rfl) (by kernel_rfl)) (by kernel_rfl) (by kernel_rfl) (by kernel_rfl) (Hw os _)) ?_
 intro b s args u b4 a9 n k j E N;have m:∀(o:Nat) q v,Tryz.f3.params[o]? = some q->args[o]? = some v->Value.okWide prog b .any s q v:=n;have D:=k;obtain⟨S,c1,h,B,rfl,b7,b8⟩:=k;have g:DataW.TrodAll enc prog b 0 (λ_=>true) true Tryz.f3.params.toList args.toList u S:=h;rw[params3]at g m;obtain⟨c,c5,b0,b1,a0,c2,b6,rfl,rfl,x,a2⟩:=trodAll_cons g;obtain⟨rfl,rfl,rfl⟩:=trodAll_nil a2;obtain rfl:args=#[c]:=by cases args;simp_all
 obtain⟨rfl,rfl⟩:=trodVars_none B;have p:=x;have P:∀a6∈a0,a6.block<b.heap.size:=by obtain⟨R,K⟩:=p;exact DataW.trod_lt R _ _ _ K
 obtain⟨_,w,b5,a8,⟨a1,c3,A,_⟩,l⟩:=E;have i:DataW.TrodAll enc prog b 0 (λ_=>true) true Tryz.f3.params.toList [c] w a1:=A;rw[params3]at i;obtain⟨a5,c6,t,b2,c0,c4,F,rfl,rfl,y,a3⟩:=trodAll_cons i;obtain⟨rfl,rfl,rfl⟩:=trodAll_nil a3;obtain rfl:c=a5:=by simpa using F
 rw[params3]at l;have O:∀e∈DataW.weights prog 22 t,e<=reachBytes:=λe L=>by
  have:=List.all_eq_true.1 l e (by simp only[YX,YT,DataW.weightsEach];exact Yf _ L);simpa using this
 obtain⟨b9,J,z,M⟩:=Mm (m 0 22 c rfl rfl) y O;clear h n;refine(Fp J z M (Iz j N) (HL j)).mono λb3 a7 ⟨G,I⟩=>?_;subst G;have f:=FX I;exact⟨_,rfl,_,_,_,[],_,[],D,trodAll_mk1 (shut_bool underlying4 _),(trodAll_cons_mk (Below.trod JG (by kernel_rfl) (of_decide_eq_true (by kernel_rfl)) p f P) trodAll_mk0),rfl,f.frame _,λd=>by cases d⟩
def NB:Rows.ReadsSaid:=
 OpenClaim.holds_of_wide 3 Tryz.f3 rfl rfl rfl rfl rfl rfl rfl ⟨rfl,rfl,rfl,rfl,rfl⟩ rfl rfl rfl rfl rfl (by kernel_rfl) func3 Nu
  (of_decide_eq_true (by kernel_rfl)) (by unfold Func.isWrapper;rw[Y2 (of_decide_eq_false (by kernel_rfl))];exact⟨rfl,rfl⟩)
  (λc d a b _=>Ny c d a b)
theorem reads_card:Rows.ReadsCardSaid:=
 Claim7.holds_tied_plain_at .later [] Rows.readsCard.laidKinds true Rows.readsCard.stood.harness true
  NB (λ_ a=>by cases a) ND (λ_ a=>by cases a) reads_row_tie rfl ⟨rfl,rfl⟩ NA rfl
  (λc d e f=>by
   obtain rfl:c=3:=YQ (Nv.symm.trans e) |>.symm;obtain rfl:d=Tryz.f3:=(YQ (func3.symm.trans f)).symm;exact⟨Nz,λi h b=>by
    rw[params3]at b;have g:h∈[22]:=by simpa using Array.mem_of_getElem? b
    rw[Yc.1 g];exact NC⟩)
  Nx
end Go.Proofs.YtjdhaegijjednaaGreatDoor
