import Derived.Test.YtjdhaegijjednaaGreatDoorT1
import Derived.ChangeKeysEq
import Derived.Deep.AppendLies
import Derived.Deep.CutBlock
import Derived.Deep.DeepCutAuto
set_option linter.all false
set_option maxRecDepth 100000
set_option maxHeartbeats 4000000
namespace Go.Proofs.YtjdhaegijjednaaGreatDoor
open Go.RowKit
open Go.MapKept
open Go.Proofs.Tryz
def jV(a:Mar.aT):PM (List (Zb×Nat×Int)):=λb=>
 match aL b.A a.text with
 |some (some (.enum _ _ c))=>.ok (c,b)
 |_=>.error ⟨7,a.m⟩
theorem Dh(a:Zw):(Instr.typeAssert .nilIface 157 227 true).run prog a=.ok (.tuple #[.pointer none,.bool false]) a:=by kernel_rfl
def QO(a:Zv)(b:Zw):(Instr.typeAssert (.iface 227 a) 157 227 true).run prog b=.ok (.tuple #[a,.bool true]) b:=by kernel_rfl
theorem QN(c:aB)(f:Zv)(d:Zw)(h:∀b a v,c≠.enum b a v):(Instr.typeAssert (.iface (cA c) f) 157 227 true).run prog d=.ok (.tuple #[.pointer none,.bool false]) d:=by
 cases c with
 |enum b a v=>simp_all
 |typedef c=>kernel_rfl
 |const b a e=>kernel_rfl
 |struct b a e=>kernel_rfl
 |union b a j g=>kernel_rfl
 |prog b a k i=>kernel_rfl
def Eo(d:Ad)(m:Za)(c:Zw)(j:St)(i:Except Mar.aw (List (Zb×Nat×Int)×St))(g:Ending)(a:Zw):Prop:=
 Below c.heap.size c a/\((∃l k h e f,i=.ok (h,j)/\g=.returned (Zp e)/\Rd d m j a/\dg f e (.enum l k h)/\bv d.X f a)\/(∃b,i=.error b/\fa c b.no b.m g a))
def Hy{d:Ad}{x:Za}{g:St}(a:Mar.aT){w:Zw}(n:Rd d x g w) :
  Calls prog 253 #[Zp d.R,cL a] w (Eo d x w g (jV a g)):=by
 have i:=((Below.refl w.heap.size w).alloc (Y4 _) (.cells #[U a.C,Zs a.text,U a.n,U a.m] 154)).drew;obtain⟨I,J,K,L,M,P⟩:=n.al;have S:=n.lt.1;have k:=n.au i;have key:(∃v,(Instr.lookup 148 (.map (some d.N)) (Zs a.text) false).run prog ((w.alloc (.cells #[U a.C,Zs a.text,U a.n,U a.m] 154)).drew)=.ok v ((w.alloc (.cells #[U a.C,Zs a.text,U a.n,U a.m] 154)).drew)/\
    (∀q,(Instr.typeAssert v 157 227 true).run prog q=.ok (.tuple #[.pointer none,.bool false]) q)/\jV a g=.error ⟨7,a.m⟩)\/
   (∃(e:Nat) (c:Zb) (b:Nat) (l:List (Zb×Nat×Int)) (f:Zo),(Instr.lookup 148 (.map (some d.N)) (Zs a.text) false).run prog ((w.alloc (.cells #[U a.C,Zs a.text,U a.n,U a.m] 154)).drew)=.ok (.iface 227 (Zp e)) ((w.alloc (.cells #[U a.C,Zs a.text,U a.n,U a.m] 154)).drew)/\
    bv d.X f ((w.alloc (.cells #[U a.C,Zs a.text,U a.n,U a.m] 154)).drew)/\dg f e (.enum c b l)/\jV a g=.ok (l,g)):=by
  rcases uL k.nm a.text false with⟨u,j⟩|⟨G,v,f,u,E,s,j⟩
  .simp_all[Dh,jV]
  .simp only[Ye,if_false]at j
   cases G with
   |none=>
    have a0:v=.nilIface:=s;grind [Dh,jV]
   |some B=>
    obtain⟨e,rfl,D⟩:=s;by_cases C:∃c b o,B=.enum c b o
    .obtain⟨c,b,o,rfl⟩:=C;exact Ya ⟨e,c,b,o,f,j,E,D,by simp only[jV,u]⟩
    simp_all[QN,jV]
 rcases key with⟨v,j,F,h⟩|⟨e,c,b,l,f,j,t,r,h⟩
 .have m:=Z h;have p:=Z i;clear h k i;dsimp only[cL];go_in;go_wp2;go_region;go_wp2_with (go_at_call 70;refine(gR _ _ _).mono ?_;rintro O a1 ⟨rfl,rfl⟩);refine aC ⟨?_,Ya ⟨⟨7,a.m⟩,m.j,w.heap.size+1,by omega,rfl,aS (w:=w.alloc _) (by simp)⟩⟩;exact(((Below.refl w.heap.size w).alloc (Y4 _) _).alloc (by simp) _).drew
 .have m:=Z h;have F:=λH=>QO H;have p:=Z k;have y:=Z i;have A:=Z t;have z:=Z r;clear h k i t r;dsimp only[cL];go_in;go_wp2;go_region;go_wp2;go_ret;exact⟨y.j,Y8 ⟨c,b,l,e,f,m.j,rfl,p.j,z.j,A.j⟩⟩
section
variable {i:Nat}{a:List (Zb×Nat×Int)}{b:Int}{c:Zw}
def jq(a:List (Zb×Nat×Int))(b:Int):Bool:=a.any λc=>c.2.2==b
def IF(c:i<a.length)(d:a[i].2.2=b):jq a b=true:=by
 grind [jq]
def IG(c:∀i (d:i<a.length),a[i].2.2≠b):jq a b=false:=by
 grind [jq,List.getElem_of_mem]
theorem Cl{d:Nat}{b:Array Zv}{e:TypeId}{a:Zl}(g:c.heap[d]? = some (.cells b e))(j:b.toList.take a.length=a)(h:i<a.length):c.cell? (Zd d i)=some a[i]:=by
 have f:b.toList[i]? = some a[i]:=by
  grind
 grind [World.cell?]
def Ev{u:List Nat}{l:Zo}{k v:Nat}{P:Zb}(b:Int)(D:dg l k (.enum P v a))(g:bv u l c) :
  Calls prog 254 #[Zp k,U b] c λw R=>w=.returned (.bool (jq a b))/\R=c:=by
 obtain⟨b5,O,B,a7,M,C⟩:=D;obtain⟨b1,b2,b3,_⟩:=dJ (g _ B).1;rcases M with⟨rfl,y,_⟩|⟨x,S,a0,rfl,⟨a1,a8⟩,G,N⟩
 .have K:a=[]:=Yv.1 y;subst K;go_in;go_wp2;go_loopw [12] (λi j=>i=U 0/\j=c) (λ_ _=>0)
  case atStart=>simp
  case round=>
   obtain⟨rfl,rfl⟩:=hrel;go_wp2;go_ret;exact⟨rfl,rfl⟩
 .have H:=(g _ G).1;have L:∀i (f:i<a.length),∃h:Nat,c.cell? (Zd x i)=some (Zp h)/\c.cell? (Zd h 2)=some (U a[i].2.2):=by
   intro i f;have I:i<O.length:=by omega
   have z:=Cl H N (i:=i) (by simp_all);rw[List.getElem_map]at z;have A:=(g _ (C i f I)).1;obtain⟨_,_,b6,_⟩:=dJ A;simp_all
  have s:=Z L;go_in;go_wp2;go_loopw [12,6] (λi b4 j=>∃d:Nat,i=U d/\j=c/\d<=a.length/\∀e (n:e<a.length),e<d->a[e].2.2≠b) (λi _ _=>a.length-(intOf i).toNat)
  case atStart=>grind
  case round=>
   obtain⟨d,rfl,rfl,a6,p⟩:=hrel;rcases Yj d a.length with o|a2
   .obtain⟨h,a9,b0⟩:=s.j d o;have a3:(0:Int)<=↑d:=by omega
    have a4:(↑d:Int) < ↑a.length:=by omega
    have r:=Z p;by_cases E:a[d].2.2=b
    .have F:(a[d].2.2==b)=true:=by grind
     have t:=Z (IF o E);go_wp2;go_ret;exact⟨by rw[t.j];rfl,rfl⟩
    .have F:(a[d].2.2==b)=false:=by simp_all
     go_wp2;refine⟨⟨d+1,by rfl,trivial,by omega,?_⟩,by simp[intOf];omega⟩;intro e n a5;rcases Yj e d with m|m
     .exact r.j e n m
     grind
   .have J:d=a.length:=by omega
    subst J;have q:=Z (IG λi f=>p i f f);go_wp2;go_ret;exact⟨by rw[q.j];rfl,rfl⟩
end
section
variable {c:Ad}{d:Nat}{e:Except Mar.aw ((Ty×(Int->Bool))×St)}{w b:Zw}{a:Mar.aT}
def iW(c:Za)(a:Mar.aT):PM (Ty×(Int->Bool)):=
 if((a.C:Int)==1)then aF (jV a) λb=>ret (.named a.text a.m,jq b)
 else if a.text==[105,110,116]then ret (.plain 0,df (-2147483648) 2147483647)
 else if a.text==[117,110,115,105,103,110,101,100]then aF (cZ c [105,110,116]) λ_=>ret (.plain 1,df 0 4294967295)
 else if a.text==[98,111,111,108]then ret (.plain 4,df 0 1)
 else fi 3 a.m
def nz(a:Za):PM (Ty×(Int->Bool)):=aF (next a) (iW a)
def CJ{c:Za}(d:((a.C:Int)==1)=true):iW c a=aF (jV a) λb=>ret (.named a.text a.m,jq b):=by unfold iW;simp_all
def Pw{b:Za}(c:((a.C:Int)==1)=false)(d:(a.text==[105,110,116])=true):iW b a=ret (.plain 0,df (-2147483648) 2147483647):=by simp_all[iW]
theorem CK{b:Za}(c:((a.C:Int)==1)=false)(d:(a.text==[105,110,116])=false)(e:(a.text==[117,110,115,105,103,110,101,100])=true) :
  iW b a=aF (cZ b [105,110,116]) λ_=>ret (.plain 1,df 0 4294967295):=by simp_all[iW]
def Px{b:Za}(c:((a.C:Int)==1)=false)(d:(a.text==[105,110,116])=false)(e:(a.text==[117,110,115,105,103,110,101,100])=false)(f:(a.text==[98,111,111,108])=true) :
  iW b a=ret (.plain 4,df 0 1):=by simp_all[iW]
def Py{b:Za}(c:((a.C:Int)==1)=false)(d:(a.text==[105,110,116])=false)(e:(a.text==[117,110,115,105,103,110,101,100])=false)(f:(a.text==[98,111,111,108])=false) :
  iW b a=fi 3 a.m:=by simp_all[iW]
def tw(c:Ad)(h:Za)(w:Zw)(e:Except Mar.aw ((Ty×(Int->Bool))×St))(f:Ending)(b:Zw):Prop:=
 am [c.S] w b/\((∃d g v,e=.ok (d,g)/\f=.returned (.tuple #[bj d.1,v])/\Rd c h g b/\gD c.X v d.2 b)\/(∃a,e=.error a/\fa w a.no a.m f b))
theorem tz{f:Za}{ty:Ty}{a:Int->Bool}{d:St}{v:Zv}
  (i:am [c.S] w b) (j:e=.ok ((ty,a),d)) (g:Rd c f d b) (h:gD c.X v a b):tw c f w e (.returned (.tuple #[bj ty,v])) b:=⟨i,Y8 ⟨(ty,a),d,v,j,rfl,g,h⟩⟩
def tA{M':List Nat}{k:Za}{w1:Zw}{f:Mar.aw}
  (h:am [c.S] w b) (i:am M' w w1) (j:e=.error f) (a:w1.heap.size<=d) (g:b.heap[d]? = some (.cells #[U f.no,U f.m] 179)) :
  tw c k w e (.panicked [{ v:=.iface 143 (Zp d),recovered:=false }]) b:=⟨h,Ya ⟨f,j,d,Yz i.ar a,rfl,g⟩⟩
def Ex(args:Array Zv)(a:Zw):(callFunc 254 args).run prog a=.ok (.enter 254 args) a:=by kernel_rfl
def Ie{b:List Nat}{a:Zo}{e:Nat}{j:Zb}{c:List (Zb×Nat×Int)}(g:dg a d (.enum j e c))(h:bv b a w) :
  gD b (.func (.func 254) #[Zp d] #[]) (jq c) w:=by
 refine⟨a,_,_,_,rfl,h,Ex,λk f i=>?_⟩;refine(Ev i g f).mono ?_;simp_all[Below.refl]
def jS{c e a b:Zv}{f:TypeId}(g:w.heap[d]? = some (.cells #[c,e,a,b] f)) :
  w.cell? (Zd d 0)=some c/\w.cell? (Zd d 1)=some e/\w.cell? (Zd d 2)=some a/\w.cell? (Zd d 3)=some b:=by
 simp_all[World.cell?]
def ON{x:Za}{G:St}(y:Rd c x G w) :
  Calls prog 197 #[Zp c.R] w (tw c x w (nz x G)):=by
 have b4:=iT;obtain⟨a8,a9,b0,b1,b2,b3⟩:=y.al;have H:=Z (pG y);go_in;go_wp2_with fail;refine H.j.mono ?_;rintro j h ⟨A,⟨a,c9,u,rfl,C⟩|⟨r,u,d,k,rfl,l⟩⟩;rotate_left
 .exact aC (tA A (ak [] _) (bl u) k l)
 have f:=Z A;have g:=Z u;have i:=Z (C.au ((Below.refl _ _).alloc (Y4 _) (.cells #[U a.C,Zs a.text,U a.n,U a.m] 154)));have P:=aS (w:=h) (o:=.cells #[U a.C,Zs a.text,U a.n,U a.m] 154) rfl;have q:=Z P;have a4:=Z C.aY;dsimp only[cL];go_wp2_with (first
  |(go_at_call 70;refine(gR _ _ _).mono ?_;rintro j b ⟨rfl,rfl⟩)
  |(go_at_call 189;refine(pZ _ _ _).mono ?_;rintro j a2 ⟨c1,rfl,e,s⟩)
  |(go_at_call 192;refine(rV _ i.j).mono ?_;rintro j a1 ⟨B,⟨a3,d0,F,rfl,D⟩|⟨r,F,d,k,rfl,l⟩⟩))
 .have z:((a.C:Int)==1)=true:=‹_›;obtain⟨c5,c6,c7,c8⟩:=jS q.j;have O:=ap q.j;go_region_held2 (λb=>b.cell? (Zd h.heap.size 0)=some (U a.C)/\b.cell? (Zd h.heap.size 1)=some (Zs a.text)/\b.cell? (Zd h.heap.size 2)=some (U a.n)/\b.cell? (Zd h.heap.size 3)=some (U a.m)) (go_keep)
   (first
    |(go_at_call 243;refine(yA a _).mono ?_;rintro j a1 ⟨rfl,m⟩;have t:=(m.block _ O).trans q.j;obtain⟨c2,c3,a3,c4⟩:=jS t;have N:=ap t;have J:=Z ((i.j.au (Below.refl _ _).drew).au m);have p:=Z ((f.j.B _).aq.u (bh _ m));clear m)
    |(go_at_call 253;refine(Hy a J.j).mono ?_;rintro j a2 ⟨e,⟨c0,a5,b5,a6,a7,v,rfl,E,L,M⟩|⟨r,v,d,k,rfl,l⟩⟩;rotate_left;exact aC (tA (p.j.u (bh _ e)) p.j ((aE g.j).trans (by rw[CJ z];exact bl v)) k l);have a0:=(e.block _ N).trans t;obtain⟨b6,b7,b8,b9⟩:=jS a0;have I:=Z (p.j.u (bh _ e));have K:=Z E;clear e E))
  all_goals
   go_wp2
   go_ret2
   exact tz (ty:=.named a.text a.m) I.j ((aE g.j).trans (by rw[CJ z];exact aE v)) K.j (Ie L M)
 .go_ret2;exact tz (ty:=.plain 0) ((f.j.B _).u (bh _ e)) ((aE g.j).trans (by rw[Pw ‹_› ‹_›];rfl)) (i.j.au e) (s _ i.j.aY)
 .go_ret2;exact tz (ty:=.plain 1) (((f.j.B _).u B).u (bh _ e)) ((aE g.j).trans (by rw[CK ‹_› ‹_› ‹_›];exact aE F)) (D.au e) (s _ D.aY)
 .exact aC (tA ((f.j.B _).u B) (f.j.B _) ((aE g.j).trans (by simp_all[CK,bl])) k l)
 .go_ret2;exact tz (ty:=.plain 4) ((f.j.B _).u (bh _ e)) ((aE g.j).trans (by rw[Px ‹_› ‹_› ‹_› ‹_›];rfl)) (i.j.au e) (s _ i.j.aY)
 .exact aC (tA (M':=[c.S]) (w1:=h) (f:=⟨3,a.m⟩) ((f.j.B _).B _) f.j ((aE g.j).trans (by rw[Py ‹_› ‹_› ‹_› ‹_›];rfl)) (by omega) (aS (by simp)))
end
section
variable {a:Ad}{d:List Nat}{cs:List Int}{g c:Nat}{l:List (Int×Int)}{p:Int->Bool}{e:Zv}{u i b:Zw}{h j o:St}
def AA:(prog.info? 2).map (λa=>(a.zero,a.size,a.bytes))=some (some (U 0),1,8):=by kernel_rfl
def gI(a:Za)(p:Int->Bool):Nat->List Int->PX (List (Int×Int)) (List Int)
 |0,_=>lift (fi 0 0)
 |k+1,cs=>aG (lift (bY a [99,97,115,101])) λc l=>aG (lift (dS l.length 12 c.m)) (λ_=>aG (fM a p) λb=>aG (lift (bY a [58])) λ_=>
   aG (lift (fQ a [99,97,115,101])) λd=>if d then gI a p k (cs++[b])else cX (cs++[b])) l
def cases(a:Za)(p:Int->Bool):PX (List (Int×Int)) (List Int):=gI a p 13 []
def gD.bo{a:List Nat}{v:Zv}{b:Option Nat}(h:gD a v p u)(q:u.grownBy i b)(r:∀c,b=some c->c∈a)(o:b=some g\/g=u.heap.size):gD (g::a) v p i:=by
 obtain⟨e,f,w,t,j,k,l,m⟩:=h;exact⟨e,f,w,t,j,k.bo q r o,l,λd n=>m d (n.b9 λ_ s=>Y5 _ s)⟩
structure ii(a:Ad)(text:Za)(b:Zw)(c:Nat)(v:Zv)(p:Int->Bool)(cs:List Int)(d:List Nat)(l:List (Int×Int))(e:Zv)(h:St)(u:Zw):Prop where
 kp:am [a.S,c] b u
 rd:Rd (a.ab d) text h u
 ao:∀y∈d,b.heap.size<=y
 a6:∀g,e.ownBlock=some g->g∈d
 bD:cQ c l u
 f2:gD (a.ab d).X v p u
 row:u.ownsRow b.heap.size 2 1 e cs.length (cs.map λn=>U n)
def ii.fe{j:Za}{v:Zv}(i:ii a j b c v p cs d l e h u):∃ad f,e=.slice ad cs.length f:=by
 rcases i.row.2 with⟨rfl,m⟩|⟨g,f,k,rfl,_⟩;all_goals simp_all
def ii.bB{g:Za}{v:Zv}(f:cT a c)(_m:ii a g b c v p cs d l e h u):cT (a.ab d) c:=
 ⟨Ym _ f.1,f.2.1,f.2.2.1,f.2.2.2.1,f.2.2.2.2⟩
def ii.b5{m:Za}{v:Zv}(r:Rd a m o b)(t:cT a c)(f:ii a m b c v p cs d l e h u)(k:am [a.S] u i)(n:Rd (a.ab d) m j i) :
  ii a m b c v p cs d l e j i:=by
 obtain⟨w,x,y,z⟩:=r.lt;refine⟨f.kp.u (k.K (by simp)),n,f.ao,f.a6,f.bD.F k (by simp;exact t.2.2.1),f.f2.F k (by intro A q;simp only[Yc]at q;subst q;exact n.aj.2.1),bi f.row k ?_⟩;intro g s;have:=f.ao _ (f.a6 g s);grind
def ii.au{j:Za}{v:Zv}(m:ii a j b c v p cs d l e h u)(g:Below u.heap.size u i):ii a j b c v p cs d l e h i:=by
 have f:=bh [] g;exact⟨m.kp.u (f.K (by simp)),m.rd.au g,m.ao,m.a6,m.bD.F f (by simp),m.f2.F f (by simp),bi m.row f (by simp)⟩
def Ec{q:Za}{m r s:Zw}{y:Nat}{v:Zv}{H:List (Int×Int)}{n:Int}(z:Rd a q o b)(D:cT a c)
  (k:ii a q b c v p cs d l e h u) (B:am [a.S,c] u m) (E:Rd (a.ab d) q j m) (K:cQ c H m) (i:Below m.heap.size m r)
  (L:s.ownsRow b.heap.size 2 1 (.slice (some ⟨g,0,none⟩) (cs.length+1) y) (cs.length+1) ((cs.map λn=>U n)++[U n]))
  (t:r.grownBy s e.ownBlock) (A:e.ownBlock=some g\/g=r.heap.size) (J:g<s.heap.size) :
  ii a q b c v p (cs++[n]) (g::d) H (.slice (some ⟨g,0,none⟩) (cs.length+1) y) j s:=by
 obtain⟨O,_⟩:=hn L (g:=g) rfl;have F:∀f,e.ownBlock=some f->b.heap.size<=f/\f∈(a.ab d).X:=λf i=>⟨k.ao _ (k.a6 f i),Yf _ (k.a6 f i)⟩;have C:=fs t;have w:am [] m r:=bh _ i;have P:=z.aY _ D.1;have I:∀M∈[a.S,c],M∈(a.ab d).X:=by
  intro R G;simp at G;rcases G with rfl|rfl
  .exact E.aj.2.1
  .exact Ym _ D.1
 refine⟨?_,qp z (cJ a d) (E.au i) t F A J,?_,?_,?_,?_,?_⟩
 .refine((k.kp.u B).b4 w (by simp)).b4 C ?_;simp_all
 .intro N x;rcases Yg.1 x with rfl|x
  .omega
  .exact k.ao N x
 .grind [Value.ownBlock]
 .refine(K.F w (by simp)).F C ?_;grind
 .exact((k.f2.F B I).F w (by simp)).bo t (λf i=>(F f i).2) A
 simp_all
def mH(a:Ad)(m:Za)(b:Zw)(c:Nat)(k:Except Mar.aw (List Int×List (Int×Int)×St))(h:Ending)(d:Zw):Prop:=
 am [a.S,c] b d/\((∃cs i j e g,k=.ok (cs,i,j)/\h=.returned e/\Rd a m j d/\cQ c i d/\gG g 2 e cs.length (cs.map λl=>U l)/\bv a.X g d)\/(∃f,k=.error f/\fa b f.no f.m h d))
def rI{M':List Nat}{m:Za}{w1 e:Zw}{g:Except Mar.aw (List Int×List (Int×Int)×St)}{f:Mar.aw}{d:Nat}
  (j:am [a.S,c] b e) (k:am M' b w1) (l:g=.error f) (h:w1.heap.size<=d) (i:e.heap[d]? = some (.cells #[U f.no,U f.m] 179)) :
  mH a m b c g (.panicked [{ v:=.iface 143 (Zp d),recovered:=false }]) e:=⟨j,Ya ⟨f,l,d,Yz k.ar h,rfl,i⟩⟩
theorem ii.fin{k:Za}{v:Zv}(j:Rd a k o b)(f:ii a k b c v p cs d l e h u)(F:cs.length<=12)
  {q:Except Mar.aw (List Int×List (Int×Int)×St)} (n:q=.ok (cs,l,h)):mH a k b c q (.returned e) u:=by
 have y:∀i,b.heap.size<=i->i ∉ a.X:=λi z w=>by have:=j.aY _ w;omega
 refine⟨f.kp,Y8 ⟨cs,l,h,e,?_⟩⟩;rcases f.row.2 with⟨rfl,s⟩|⟨g,r,m,rfl,A,B,t,C,D,E⟩
 .have:cs=[]:=Yv.1 s;subst this;exact⟨[],n,rfl,jj j.aj f.rd,f.bD,Y8 ⟨rfl,rfl,rfl⟩,by intro p x;grind⟩
 .refine⟨[(g,.cells m 2)],n,rfl,jj j.aj f.rd,f.bD,Ya ⟨g,r,m,rfl,⟨t,by omega⟩,by simp,?_⟩,?_⟩
  .simp_all
  .intro p x;simp_all
end
section
variable {cs:List Int}{b:List (Int×Int)}{a:Int->Bool}{c:Nat}{d:Zw}{g:Mar.aT}{e f:St}
def ur:Zv->Nat
 |.slice _ a _=>a
 |_=>0
def wC(b:Za)(a:Int->Bool)(d:Nat)(cs:List Int):PX (List (Int×Int)) (List Int):=aG (fM b a) λc=>aG (lift (bY b [58])) λ_=>
   aG (lift (fQ b [99,97,115,101])) λe=>if e then gI b a d (cs++[c])else cX (cs++[c])
theorem wy{d:Za}{f:Nat}{c:Mar.aw}(g:bY d [99,97,115,101] e=.error c):gI d a (f+1) cs b e=.error c:=by
 simp_all[gI,bm,cB]
def wz{c:Za}{i:Nat}(d:bY c [99,97,115,101] e=.ok (g,f))(h:12<=b.length):gI c a (i+1) cs b e=.error ⟨5,g.m⟩:=by
 simp only[gI];exact(aQ (bf d)).trans (bm (cB (show dS b.length 12 g.m f=_ from Y9 h)))
def wA{c:Za}{d:Nat}(h:bY c [99,97,115,101] e=.ok (g,f))(i:¬12<=b.length):gI c a (d+1) cs b e=wC c a d cs b f:=by
 simp only[gI];exact(aQ (bf h)).trans (aQ (bf (show dS b.length 12 g.m f=_ from Y2 i)))
theorem xK{h:Za}{g:List (Int×Int)}{m:St}{l:Int}(d:fM h a b e=.ok (l,g,m)):g.length=b.length+1:=by
 unfold fM at d;cases k:hd h a e with
 |error i=>simp_all[bm,cB]
 |ok c=>
  obtain⟨c,f⟩:=c;rw[aQ (bf k)]at d;cases j:kF c.1 c.2 b ⟨6,c.2⟩with
  |error i=>simp_all[bm,rh]
  |ok n=>
   rw[aQ (rj j)]at d;grind [cX,kF]
def BL(f:cQ c b d)(e:TypeId):(Builtin.len_ #[149] e #[.map (some c)]).run prog d=.ok (U b.length) d:=by
 have g:d.heap[c]? = some (.map (b.mapIdx λh a=>(⟨U a.1,U a.2,h⟩:MapEntry)).toArray b.length):=f;have:=run_len_map (P:=prog) d 149 e c _ _ (by kernel_rfl) g;rw[this];simp[goInt]
def FP{g:Ad}{f:Za}{v:Zv}{i:List (Int×Int)}(n:Rd g f e d)(b1:gD g.X v a d)(s:cT g c)(b8:cQ c i d) :
  Calls prog 199 #[Zp g.R,.map (some c),v] d (mH g f d c (cases f a i e)):=by
 obtain⟨d0,b3,c6,c7,c8⟩:=info_parts AA;have a7:ac (ii g f d c v a [] [] i (.slice none 0 0) e d):=⟨ak _ _,n,by simp,(by intro r I;cases I),b8,b1,⟨rfl,Y8 ⟨rfl,rfl⟩⟩⟩;go_in;go_wp2;go_loopw [7,8] (λL q d1=>∃(F:Bool) (cs:List Int) (o:List Nat) (b:List (Int×Int)) (G:St),q=.bool F/\cs.length<=12/\cs.length<=b.length/\ac (ii g f d c v a cs o b L G d1)/\
   ac (cases f a i e=(if F then gI f a (13-cs.length) cs else cX cs) b G)) (λL _ _=>13-ur L)
 case atStart=>exact⟨true,[],[],i,e,rfl,by simp,by simp,a7,rfl⟩
 case round=>
  obtain⟨F,cs,o,b,G,rfl,b6,a0,p,a5⟩:=hrel;obtain⟨ad,M,rfl⟩:=p.j.fe;cases F with
  |false=>
   go_wp2;go_ret;exact p.j.fin n b6 a5.j
  |true=>
   have H:ac (cases f a i e=gI f a ((12-cs.length)+1) cs b G):=by
    grind
   go_wp2_with fail;refine(ff (cJ g o) _ p.j.rd).mono ?_;rintro w d3 ⟨P,⟨x,d5,D,rfl,c3⟩|⟨B,D,q,k,rfl,l⟩⟩;rotate_left
   .exact(show bodyPost prog Tryz.f199 (mH g f d c (cases f a i e)) (Exit.panic _) _ d3 from aC (rI (p.j.kp.u (P.K (by simp))) p.j.kp (H.j.trans (wy D)) k l))
   have h:=Z ((p.j.b5 n s P c3).au ((Below.refl _ _).alloc (Y4 _) (.cells #[U x.C,Zs x.text,U x.n,U x.m] 154)));have e2:=BL h.j.bD;dsimp only[cL];go_wp2_with fail;by_cases N:12<=b.length
   .refine(pJ _ _ _ _ (by omega)).mono ?_;rintro w a2 ⟨⟨q,k,rfl,l⟩,b0⟩;exact(show bodyPost prog Tryz.f199 (mH g f d c (cases f a i e)) (Exit.panic _) _ a2 from aC (rI (f:=⟨5,x.m⟩) (h.j.kp.u (bh _ b0)) h.j.kp (H.j.trans (wz D N)) k l))
   refine(pK _ _ _ _ (by omega)).mono ?_;rintro w a2 ⟨rfl,rfl⟩;have y:ac (cases f a i e=wC f a (12-cs.length) cs b d5):=H.j.trans (wA D N);go_wp2_with fail;refine(BH (cJ g o) h.j.rd h.j.f2 (h.j.bB s) h.j.bD).mono ?_;rintro w m ⟨C,⟨j,a1,e6,u,rfl,c4,b9⟩|⟨B,u,q,k,rfl,l⟩⟩;rotate_left
   .exact(show bodyPost prog Tryz.f199 (mH g f d c (cases f a i e)) (Exit.panic _) _ m from aC (rI (h.j.kp.u C) h.j.kp (y.j.trans (bm u)) k l))
   dsimp only[hY];have c0:∀K,(m.alloc K).ownsRow d.heap.size 2 1 (.slice ad cs.length M) cs.length (cs.map λj=>U j):=by
    intro K;refine bi (bi h.j.row C ?_) ((ak [] m).B K) (by simp);intro r I;have d7:=h.j.ao _ (h.j.a6 r I);have d8:=n.aY _ s.1;have d9:=n.lt.2.1;simp;omega
   have e3:d.heap.size<=m.heap.size:=Yz h.j.kp.ar C.ar;have b4:cs.length+1<=maxLen:=by unfold maxLen;omega
   have b5:(cs.length+1)*8<=140737488355328:=by omega
   have c9:(U 0).cells.size=1:=rfl;have e1:=xK u;have a9:=Z a0;go_wp2_with (first
    |(at_builtin;refine wpList_append_lies _ (by rfl) _ _ _ (by rfl) d.heap.size 2 d0 _ 1 8 underlying245 b3 c6 c7 c8 c9 (by omega) (.slice ad cs.length M) cs.length (cs.map λj=>Value.int .i64 j) (by rfl) (c0 _) ⟨m.heap.size,0,none⟩ 1 1 [.int .i64 j] (by rfl) (by rfl) (World.news_of_block (cs:=#[.int .i64 j]) (t:=2) (fr:=(0,0)) (heap_alloc_new m _)) (by simp[Value.oneCell']) (by omega) b4 b5 (by simp;omega) (m.heap.size+1) (by simp) ?_;intro r d6 e4 c1 b2 e0 b7))
   have z:=Z (Ec n s h.j C c4 b9 ((Below.refl m.heap.size m).alloc (Y4 _) _) c1 b2 (by simp_all) b7);refine(ff (cJ g (r::o)) _ z.j.rd).mono ?_;rintro w d4 ⟨S,⟨e5,e7,E,rfl,c5⟩|⟨B,E,q,k,rfl,l⟩⟩;rotate_left
   .exact(show bodyPost prog Tryz.f199 (mH g f d c (cases f a i e)) (Exit.panic _) _ d4 from aC (rI (z.j.kp.u (S.K (by simp))) z.j.kp (y.j.trans ((aQ u).trans (bm (cB E)))) k l))
   have A:=Z (z.j.b5 n s S c5);dsimp only[cL];go_wp2_with fail;refine(vw (cJ g (r::o)) _ A.j.rd).mono ?_;rintro w d2 ⟨O,⟨a3,a4,J,rfl,c2⟩|⟨B,J,q,k,rfl,l⟩⟩;rotate_left
   .exact(show bodyPost prog Tryz.f199 (mH g f d c (cases f a i e)) (Exit.panic _) _ d2 from aC (rI (A.j.kp.u (O.K (by simp))) A.j.kp (y.j.trans ((aQ u).trans ((aQ (bf E)).trans (bm (cB J))))) k l))
   have a8:=Z (A.j.b5 n s O c2);have a0:=a9.j;have a6:ac (cases f a i e=(if a3=true then gI f a (13-(cs++[j]).length) (cs++[j])else cX (cs++[j])) a1 a4):=by
    refine y.j.trans ((aQ u).trans ((aQ (bf E)).trans ((aQ (bf J)).trans ?_)));simp
   go_wp2;exact⟨⟨a3,cs++[j],r::o,a1,a4,rfl,by grind,by simp_all,a8,a6⟩,by simp[ur];omega⟩
end
section
variable {B:Mar.aw}{C ρ τ:Type}
def IU:(prog.info? 363).map (λa=>(a.zero,a.size,a.bytes))=some (some (.agg #[.slice none 0 0,.string ⟨#[]⟩,U 0,.nilIface]),4,64):=by kernel_rfl
def ha(c:PX τ C):PX (τ×ρ) C:=λa e=>match c a.1 e with
 |.ok (b,D,w)=>.ok (b,(D,a.2),w)
 |.error B=>.error B
def jt(c:PX ρ C):PX (τ×ρ) C:=λa e=>match c a.2 e with
 |.ok (b,D,w)=>.ok (b,(a.1,D),w)
 |.error B=>.error B
def sN{b:PX τ C}{t D:τ}{l:ρ}{e w:St}{a:C}(c:b t e=.ok (a,D,w)):ha b (t,l) e=.ok (a,(D,l),w):=by simp only[ha,c]
theorem sM{a:PX τ C}{t:τ}{l:ρ}{e:St}(b:a t e=.error B):ha a (t,l) e=.error B:=by simp only[ha,b]
def uX{b:PX ρ C}{t:τ}{l F:ρ}{e w:St}{a:C}(c:b l e=.ok (a,F,w)):jt b (t,l) e=.ok (a,(t,F),w):=by simp only[jt,c]
theorem uW{a:PX ρ C}{t:τ}{l:ρ}{e:St}(b:a l e=.error B):jt a (t,l) e=.error B:=by simp only[jt,b]
abbrev eS:=Zc×List (Int×Int)
abbrev gQ:=List (List Int×aO)
def lZ(a:Za)(b:gQ):PX eS gQ:=aG (lift (cZ a [100,101,102,97,117,108,116])) λd=>if d then
  aG (lift (bY a [58])) λ_=>aG (ha (ir a (bb 0 0))) λc=>cX (b++[([],c)])else cX b
def hz(a:Za)(p:Int->Bool):Nat->gQ->PX eS gQ
 |0,_=>lift (fi 0 0)
 |k+1,d=>aG (jt (cases a p)) λb=>aG (ha (ir a (bb 0 0))) λc=>aG (lift (fQ a [99,97,115,101])) λe=>if e then hz a p k (d++[(b,c)])else lZ a (d++[(b,c)])
def fu(b:PX τ C)(t:τ):PM (C×τ):=λe=>match b t e with
 |.ok (a,D,w)=>.ok ((a,D),w)
 |.error B=>.error B
def rc{b:PX τ C}{t D:τ}{e w:St}{a:C}(c:b t e=.ok (a,D,w)):fu b t e=.ok ((a,D),w):=by simp only[fu,c]
theorem oB{a:PX τ C}{t:τ}{e:St}(b:a t e=.error B):fu a t e=.error B:=by simp only[fu,b]
def pT(a:Za)(n:Zb×Nat)(z:aO)(b:gQ):PM aB:=aF (bY a [125]) λ_=>aF (bY a [59]) λ_=>ret (.union n.1 n.2 z b)
def lK(a:Za)(n:Zb×Nat)(z:aO)(b:gQ×eS):PM aB:=pT a n z b.1
def tj(a:Za)(n:Zb×Nat)(j:Ty×(Int->Bool))(b:(Zb×Nat)×Zc):PM aB:=
 aF (bY a [41]) λ_=>aF (bY a [123]) λ_=>aF (fu (hz a j.2 13 []) (b.2,[])) (lK a n ⟨b.1.1,b.1.2,j.1⟩)
def rz(a:Za)(n:Zb×Nat)(j:Ty×(Int->Bool)):PM aB:=aF (fu (name a (bb 0 0)) []) (tj a n j)
def pV(a:Za)(n:Zb×Nat):PM aB:=aF (bY a [115,119,105,116,99,104]) λ_=>aF (bY a [40]) λ_=>aF (nz a) (rz a n)
def dT(a:Za)(b:Nat):PM aB:=aF (hK b) λ_=>aF (gf a) (pV a)
def FL{a:Za}{p:Int->Bool}:∀(d:Nat) (g:List Int) (l:List (Int×Int)) (e:St) (f:List Int) (F:List (Int×Int)) (w:St),gI a p d g l e=.ok (f,F,w)->l.length<F.length/\F.length<=12:=by
 intro d;induction d with
 |zero=>intro g l e f F w b;simp only[gI]at b;cases b
 |succ d v=>
  intro g l e f F w b;cases i:bY a [99,97,115,101] e with
  |error B=>simp_all[wy]
  |ok k=>
   obtain⟨k,r⟩:=k;by_cases j:12<=l.length
   .rw[wz i j]at b;cases b
   .rw[wA i j]at b;unfold wC at b;cases h:fM a p l r with
    |error B=>rw[bm h]at b;cases b
    |ok c=>
     obtain⟨n,x,s⟩:=c;rw[aQ h]at b;have u:=xK h;cases o:bY a [58] s with
     |error B=>simp_all[bm,cB]
     |ok m=>
      obtain⟨m,t⟩:=m;rw[aQ (bf o)]at b;cases q:fQ a [99,97,115,101] t with
      |error B=>simp_all[bm,cB]
      |ok c=>
       obtain⟨c,y⟩:=c;rw[aQ (bf q)]at b;cases c with
       |true=>
        grind
       |false=>
        simp only[Ye,if_false,cX]at b
        grind
theorem gG.K{s b:Zo}{c:TypeId}{v:Zv}{n:Nat}{d:Zl}(l:∀p∈s,p∈b)(a:gG s c v n d):gG b c v n d:=by
 rcases a with a|⟨g,e,f,h,i,j,k⟩
 .exact Y8 a
 .exact Ya ⟨g,e,f,h,i,l _ j,k⟩
theorem bv.ca{b:List Nat}{s c:Zo}{q:Zw}(d:bv b s q)(e:bv b c q):bv b (s++c) q:=by
 intro p a;rcases Yn.1 a with a|a
 .exact d p a
 .exact e p a
abbrev jl(p:(List Int×aO)×Zv):Zl:=p.2::ek p.1.2
structure gc(c:Ad)(a:Za)(q:Zw)(f j E nq:Nat)(v:Zv)(p:Int->Bool)(n:Zb×Nat)(z:aO)(o:gQ)(x:Zl)(s:Zo)(r:List Nat)(t:Zc)(l:List (Int×Int))(A:Zv)(e:St)(u:Zw):Prop where
 kp:am [c.R,c.S,c.N] q u
 rd:Rd (c.ab r) a e u
 aj:∀b∈[f,j,nq],b∈r
 nd:f≠j/\f≠nq/\j≠nq
 ao:∀y∈r,q.heap.size<=y
 a6:∀g,A.ownBlock=some g->g∈r/\g ∉ [f,j,nq]
 a9:dp j t u
 cl:bv (c.ab r).X (bb j E).bs u
 bD:cQ nq l u
 f2:gD (c.ab r).X v p u
 ai:u.heap[f]? = some (.cells #[.string ⟨n.1.toArray⟩,U n.2,Zs z.t,U z.m,bj z.H,A] 358)
 row:u.ownsRow q.heap.size 363 4 A o.length ((o.zip x).flatMap jl)
 a2:x.length=o.length
 cI:bv (c.ab r).X s u
 dl:∀i (h:i<o.length) (h':i<x.length),gG s 2 x[i] o[i].1.length (o[i].1.map λn=>U n)
section
variable {c : Ad} {a : Za} {q u G : Zw} {f j E nq : Nat} {v : Zv} {p : Int -> Bool} {n : Zb × Nat} {z : aO} {o : gQ} {x : Zl} {s : List (Nat × Obj)} {r : List Nat} {t D : Zc} {l F : List (Int × Int)} {A : Zv} {e w H : St}
def gc.fe(d:gc c a q f j E nq v p n z o x s r t l A e u):∃ad b,A=.slice ad o.length b:=by
 rcases d.row.2 with⟨rfl,i⟩|⟨h,b,g,rfl,_⟩;all_goals simp_all
def gc.bB(h:Rd c a H q)(d:gc c a q f j E nq v p n z o x s r t l A e u){b:Nat}(g:b∈[f,j,nq]):cT (c.ab r) b:=by
 obtain⟨k,m,w,y⟩:=h.lt;have i:=d.ao _ (d.aj b g);refine⟨Yf _ (d.aj b g),?_,?_,?_,?_⟩<;>simp only[Ad.ab]<;>omega
def gc.bR{i:List Nat}(C:Rd c a H q)(b:gc c a q f j E nq v p n z o x s r t l A e u)(g:am i u G)(m:∀d∈i,d=c.S\/d=j\/d=nq)(y:Rd (c.ab r) a w G)(L:dp j D G)(K:cQ nq F G) :
  gc c a q f j E nq v p n z o x s r D F A w G:=by
 obtain⟨R,a0,a1,a2⟩:=C.lt;obtain⟨M,N,O⟩:=b.nd;have a3:=b.ao _ (b.aj f (by simp));have k:∀d∈i,d∈(c.ab r).X:=by
  intro d h;rcases m d h with rfl|rfl|rfl
  .exact y.aj.2.1
  .exact Yf _ (b.aj _ (by simp))
  .exact Yf _ (b.aj _ (by simp))
 refine⟨b.kp.b4 g ?_,y,b.aj,b.nd,b.ao,b.a6,L,b.cl.F g k,K,b.f2.F g k,(g.G _ (ap b.ai) ?_).trans b.ai,bi b.row g ?_,b.a2,b.cI.F g k,b.dl⟩
 .intro d h;rcases m d h with rfl|rfl|rfl
  .simp
  .exact Ya (b.ao _ (b.aj _ (by simp)))
  .exact Ya (b.ao _ (b.aj _ (by simp)))
 .grind
 .intro B J h;have I:=b.a6 B J;have P:=b.ao _ I.1;grind
def gc.b5(g:Rd c a H q)(b:gc c a q f j E nq v p n z o x s r t l A e u)(d:am [c.S] u G)(h:Rd (c.ab r) a w G):gc c a q f j E nq v p n z o x s r t l A w G:=by
 have i:=g.lt.2.1;have m:=b.ao _ (b.aj j (by simp));have k:=b.ao _ (b.aj nq (by simp));exact b.bR g d (by simp) h (b.a9.F d (by grind)) (b.bD.F d (by grind))
def gc.au(d:Rd c a H q)(m:gc c a q f j E nq v p n z o x s r t l A e u)(b:Below u.heap.size u G):gc c a q f j E nq v p n z o x s r t l A e G:=
 m.bR d (bh [] b) (by simp) (m.rd.au b) (m.a9.F (bh [] b) (by simp)) (m.bD.F (bh [] b) (by simp))
def zm{G y:Zw}{g D:Nat}{cv:Zv}{cs:List Int}{d:aO}{bs':Zo}(I:Rd c a H q)(h:gc c a q f j E nq v p n z o x s r t l A e u)(a7:bv (c.ab r).X bs' u)(a6:gG bs' 2 cv cs.length (cs.map λn=>U n))(i:Below u.heap.size u G)
  (a0:y.ownsRow q.heap.size 363 4 (.slice (some ⟨g,0,none⟩) (o.length+1) D) (o.length+1) ((o.zip x).flatMap jl++jl ((cs,d),cv)))
  (B:G.grownBy y A.ownBlock) (C:A.ownBlock=some g\/g=G.heap.size) (b0:g<y.heap.size) :
  gc c a q f j E nq v p n z (o++[(cs,d)]) (x++[cv]) (s++bs') (g::r) t l (.slice (some ⟨g,0,none⟩) (o.length+1) D) e (y.setCell ⟨f,5,none⟩ (.slice (some ⟨g,0,none⟩) (o.length+1) D)):=by
 obtain⟨c2,_⟩:=hn a0 (g:=g) rfl;have k:=h.au I i;have a8:=a7.F (bh [] i) (by simp);have O:f∈[f,j,nq]:=by simp
 have b2:j∈[f,j,nq]:=by simp
 have b1:nq∈[f,j,nq]:=by simp
 obtain⟨b4,b5,b6⟩:=h.nd;have c4:∀b∈[f,j,nq],q.heap.size<=b:=λb i=>h.ao _ (h.aj b i);have a9:∀b∈[f,j,nq],b<G.heap.size:=λb i=>k.rd.aY b (Yf _ (h.aj b i));have c3:=B.size;have b7:g ∉ [f,j,nq]:=by
  rcases C with R|R
  .exact(h.a6 g R).2
  grind
 have a1:∀b,A.ownBlock=some b->q.heap.size<=b/\b∈(c.ab r).X:=λb i=>⟨h.ao _ (h.a6 b i).1,Yf _ (h.a6 b i).1⟩;have F:=fs B;have m:am [f] y (y.setCell ⟨f,5,none⟩ (.slice (some ⟨g,0,none⟩) (o.length+1) D)):=(ak [f] y).ay (by simp) _;have P:∀b∈[f,j,nq],b ∉ A.ownBlock.toList:=by
  intro b i c1;exact(h.a6 b (by simp_all)).2 i
 have K:∀b,A.ownBlock=some b->b∈(c.ab r).X:=λb i=>(a1 b i).2;have J:∀a3∈[f],a3∈(c.ab (g::r)).X:=by
  intro a3 a2;simp only[Yc]at a2;subst a2;exact Yf _ (Y5 _ (h.aj _ O))
 refine⟨?_,?_,λb i=>Y5 _ (h.aj b i),h.nd,?_,?_,?_,?_,?_,?_,?_,?_,by simp[h.a2],?_,?_⟩
 .refine(k.kp.b4 F ?_).b4 m ?_;all_goals grind
 .exact I.b4 (cJ c (g::r)) (qp I (cJ c r) k.rd B a1 C b0) m (by
   simp_all)
 .intro b3 N;rcases Yg.1 N with rfl|N
  .omega
  .exact h.ao b3 N
 .grind [Value.ownBlock]
 .exact(k.a9.F F (P _ b2)).F m (by grind)
 .exact(k.cl.bo B K C).F m J
 .exact(k.bD.F F (P _ b1)).F m (by grind)
 .exact(k.f2.bo B K C).F m J
 .exact bu (i:=5) ((F.G _ (a9 _ O) (P _ O)).trans k.ai) _
 .have:=bi a0 m (by
   grind [Value.ownBlock])
  rw[List.zip_append (by exact h.a2.symm),YK];simp_all
 .exact((k.cI.ca a8).bo B K C).F m J
 .intro w b8 b9;by_cases S:w<o.length
  .have L:w<x.length:=by rw[h.a2];omega
   rw[List.getElem_append_left S,List.getElem_append_left L];exact(h.dl w S L).K (λp M=>Yf _ M)
  .have L:w=o.length:=by grind
   have c0:¬w<x.length:=by rw[h.a2];omega
   rw[List.getElem_append_right (by omega),List.getElem_append_right (by omega)];have a4:w-o.length=0:=by omega
   have a5:w-x.length=0:=by grind
   simp only[a4,a5,List.getElem_cons_zero];exact a6.K (λp M=>Ym _ M)
theorem gc.fin(k:Rd c a H q)(d:gc c a q f j E nq v p n z o x s r t l A e u)(J:o.length<=1000){D:Except Mar.aw (aB×St)}(B:D=.ok (.union n.1 n.2 z o,e)):ga [c.R,c.S,c.N] c a q D (.returned (Zp f)) u:=by
 have G:∀h,q.heap.size<=h->h ∉ c.X:=λh O K=>by have:=k.aY _ K;omega
 have C:bv c.X s u:=d.cI.b9 (λa4 L=>Ym _ L);have M:=Yp d.ai (G _ (d.ao _ (d.aj f (by simp))));refine⟨d.kp,Y8 ⟨.union n.1 n.2 z o,e,f,?_⟩⟩;rcases d.row.2 with⟨rfl,g⟩|⟨y,F,w,rfl,P,a0,I,a1,a2,a3⟩
 .have:o=[]:=Yv.1 g;subst this;refine⟨_::s,B,rfl,jj k.aj d.rd,⟨.slice none 0 0,x,Yb,d.a2,Y8 ⟨rfl,rfl,rfl⟩,λm g i=>(d.dl m g i).K (λp b=>Y5 _ b)⟩,?_⟩;intro p b;rcases Yg.1 b with rfl|b
  .grind
  .exact C p b
 .refine⟨_::(y,.cells w 363)::s,B,rfl,jj k.aj d.rd,⟨_,x,Yb,d.a2,Ya ⟨y,F,w,rfl,⟨I,J⟩,by simp,?_⟩,λm g i=>(d.dl m g i).K (λp b=>Y5 _ (Y5 _ b))⟩,?_⟩
  .grind
  .intro p b;rcases Yg.1 b with rfl|b
   .grind
   .rcases Yg.1 b with rfl|b
    .simp_all
    .exact C p b
end
end
section
variable {c l:Ad}{g m bx nq f:Nat}{T:TypeId}{j:List Nat}{a t d w:Zv}{A u:gQ}{r:Zo}{B:Zl}{o:List (Int×Int)}{n:Zb×Nat}{p:Int->Bool}{k:Zc}{e s b:Zw}{C D:Type}{h q z:St}
def OO(e:ew l c){a:Za}(d:Rd l a h b) :
  Calls prog 197 #[Zp c.R] b (tw l a b (nz a h)):=by
 have:=ON d;rw[e.1]at this;exact this
def FQ(g:ew l c){a:Za}{v:Zv}{d:List (Int×Int)}(e:Rd l a h b)(i:gD l.X v p b)(k:cT l f)(j:cQ f d b) :
  Calls prog 199 #[Zp c.R,.map (some f),v] b (mH l a b f (cases a p d h)):=by
 have:=FP e i k j;rw[g.1]at this;exact this
def wD(d:ew l c){a:Za}(j:cT l f)(e:Rd l a h b)(i:dp f k b)(g:bv l.X (bb f bx).bs b) :
  Calls prog 185 #[Zp c.R,(bb f bx).v] b (jc [c.S,f] l a b (name a (bb 0 0) k h) fY (dp f)):=by
 have:=xE (wE (bx:=bx) j) e i g;rw[d.1,d.2.1]at this;exact this
def zt(d:ew l c){a:Za}(j:cT l f)(e:Rd l a h b)(i:dp f k b)(g:bv l.X (bb f bx).bs b) :
  Calls prog 200 #[Zp c.R,(bb f bx).v] b (jc [c.S,f] l a b (ir a (bb 0 0) k h) iR (dp f)):=by
 have:=Fq (wE (bx:=bx) j) e i g;rw[d.1,d.2.1]at this;exact this
def xN(e:Zw)(nq:Nat):Nat:=match e.heap[nq]? with
 |some (.map a _)=>a.size
 |_=>0
def BJ(a:cQ nq o e):xN e nq=o.length:=by
 have c:e.heap[nq]? = some (.map (o.mapIdx λb p=>(⟨U p.1,U p.2,b⟩:MapEntry)).toArray o.length):=a;grind [xN]
structure jJ(c:Ad)(text:Za)(b:Zw)(g f bx:Nat)(v:Zv)(p:Int->Bool)(cells:Array Zv)(j:List Nat)(k:Zc)(h:St)(e:Zw):Prop where
 kp:am [c.R,c.S,c.N] b e
 rd:Rd (c.ab j) text h e
 aj:g∈j/\f∈j/\g≠f
 ao:∀y∈j,b.heap.size<=y
 a9:dp f k e
 cl:bv (c.ab j).X (bb f bx).bs e
 f2:gD (c.ab j).X v p e
 ai:e.heap[g]? = some (.cells cells 358)
def jJ.bR{m:Za}{v:Zv}{o:Array Zv}{w:Zc}{n:List Nat}(x:Rd c m z b)(a:jJ c m b g f bx v p o j k h e)(i:am n e s)(r:∀d∈n,d=c.S\/d=f)(u:Rd (c.ab j) m q s)(y:dp f w s) :
  jJ c m b g f bx v p o j w q s:=by
 have A:=x.lt.2.1;have B:=a.ao _ a.aj.1;have t:∀d∈n,d∈(c.ab j).X:=by
  intro d l;rcases r d l with rfl|rfl
  .exact u.aj.2.1
  .exact Yf _ a.aj.2.1
 refine⟨a.kp.b4 i ?_,u,a.aj,a.ao,y,a.cl.F i t,a.f2.F i t,(i.G _ (ap a.ai) ?_).trans a.ai⟩
 .intro d l;rcases r d l with rfl|rfl
  .simp
  .exact Ya (a.ao _ a.aj.2.1)
 .intro l;have:=a.aj.2.2;grind
def jJ.b5{d:Za}{v:Zv}{i:Array Zv}(l:Rd c d z b)(a:jJ c d b g f bx v p i j k h e)(m:am [c.S] e s)(n:Rd (c.ab j) d q s) :
  jJ c d b g f bx v p i j k q s:=by
 have o:=l.lt.2.1;have r:=a.ao _ a.aj.2.1;exact a.bR l m (by simp) n (a.a9.F m (by grind))
def jJ.bB{d:Za}{v:Zv}{i:Array Zv}(l:Rd c d z b)(a:jJ c d b g f bx v p i j k h e):cT (c.ab j) f:=by
 obtain⟨n,o,q,r⟩:=l.lt;have m:=a.ao _ a.aj.2.1;refine⟨Yf _ a.aj.2.1,?_,?_,?_,?_⟩<;>simp only[Ad.ab]<;>omega
def FI{f k c:Zv}(g:b.heap[m]? = some (.cells #[f,k,a,t,d,c] T)) :
  b.cell? (Zd m 2)=some a/\b.cell? (Zd m 3)=some t/\b.cell? (Zd m 4)=some d/\∀e,b.frozen? ⟨m,e,none⟩=false:=by
 simp_all[World.cell?,World.frozen?]
def jJ.cE{s:Za}{v m w u:Zv}(A:Rd c s z b)(l:jJ c s b g f bx v p #[a,m,t,d,w,u] j k h e)(x y q:Zv) :
  jJ c s b g f bx v p #[a,m,x,y,q,u] j k h (((e.setCell ⟨g,2,none⟩ x).setCell ⟨g,3,none⟩ y).setCell ⟨g,4,none⟩ q):=by
 have n:am [g] e (((e.setCell ⟨g,2,none⟩ x).setCell ⟨g,3,none⟩ y).setCell ⟨g,4,none⟩ q):=(((ak [g] e).ay (p:=⟨g,2,none⟩) (by simp) _).ay (p:=⟨g,3,none⟩) (by simp) _).ay (p:=⟨g,4,none⟩) (by simp) _;have D:=l.ao _ l.aj.1;have r:∀x∈[g],x∈(c.ab j).X:=by
  intro x o;simp only[Yc]at o;subst o;exact Yf _ l.aj.1
 refine⟨l.kp.b4 n (by simp_all),A.b4 (cJ c j) l.rd n (λx o=>⟨by simp_all,r x o⟩),l.aj,l.ao,l.a9.F n (by have:=l.aj.2.2;grind),l.cl.F n r,l.f2.F n r,?_⟩;have B:=bu (i:=2) l.ai x;have C:=bu (i:=3) B y;exact bu (i:=4) C q
theorem gc.h1{l:Za}{v:Zv}{i:aO}(d:gc c l b g f bx nq v p n i A B r j k o w h e)(a:Obj) :
  (e.alloc a).ownsRow b.heap.size 363 4 w A.length ((A.zip B).flatMap jl):=bi d.row ((ak [] e).B a) (by simp)
def gc.hx{t:Za}{l:Zw}{v:Zv}{a:aO}{i:Obj}(d:gc c t b g f bx nq v p n a A B r j k o w h e)(q:(e.alloc i).grownBy l w.ownBlock) :
  l.heap[g]? = some (.cells #[.string ⟨n.1.toArray⟩,U n.2,Zs a.t,U a.m,bj a.H,w] 358):=by
 have s:=ap d.ai;exact(q.block _ (by simp;omega) (λm=>(d.a6 _ m.symm).2 (by simp))).trans ((((ak [] e).B i).G _ s (by simp)).trans d.ai)
theorem EY{o:Za}{v:Zv}{sel:aO}(I:Rd c o z b)(a:jJ c o b g f bx v p #[.string ⟨n.1.toArray⟩,U n.2,Zs sel.t,U sel.m,bj sel.H,.slice none 0 0] j k h e) :
  gc c o b g f bx e.heap.size v p n sel [] [] [] (e.heap.size::j) k [] (.slice none 0 0) h (e.alloc (.map #[] 0)):=by
 have i:am [] e (e.alloc (.map #[] 0)):=(ak [] e).B _;have D:=ap a.ai;have K:f<e.heap.size:=a.rd.aY _ (Yf _ a.aj.2.1);have L:=a.kp.ar;have q:∀r,bv (c.ab j).X r e->bv (c.ab (e.heap.size::j)).X r (e.alloc (.map #[] 0)):=λr d=>(d.aI (Y4 _)).F i (by simp);refine⟨a.kp.B _,a.rd.a6 _,?_,⟨a.aj.2.2,by omega,by omega⟩,?_,(by intro H B;cases B),a.a9.F i (by simp),q _ a.cl,aS rfl,?_,(i.G _ D (by simp)).trans a.ai,⟨rfl,Y8 ⟨rfl,rfl⟩⟩,rfl,(by intro p J;grind),(by simp)⟩
 .intro m d;simp at d;rcases d with rfl|rfl|rfl
  .exact Y5 _ a.aj.1
  .exact Y5 _ a.aj.2.1
  simp
 .intro G l;rcases Yg.1 l with rfl|l
  .omega
  .exact a.ao G l
 .obtain⟨r,t,F,E,u,w,x,y⟩:=a.f2;exact⟨r,t,F,E,u,q r w,x,λs A=>y s (A.b9 λ_ C=>Y5 _ C)⟩
def nZ{f k c:Zv}(g:b.heap[m]? = some (.cells #[f,k,a,t,d,c] T)) :
  b.cell? (Zd m 2)=some a/\b.cell? (Zd m 5)=some c/\∀e,b.frozen? ⟨m,e,none⟩=false:=by
 simp_all[World.cell?,World.frozen?]
def zv(a:Za)(p:Int->Bool)(c:Nat)(u:gQ)(b:List Int):PX eS gQ:=aG (ha (ir a (bb 0 0))) λd=>aG (lift (fQ a [99,97,115,101])) λe=>if e then hz a p c (u++[(b,d)])else lZ a (u++[(b,d)])
def sX{e:Type}{a b:PX e C}{c d:e}(f:a c h=b d q):fu a c h=fu b d q:=by simp only[fu,f]
def rX{b c:PM C}{a:C->PM D}(d:b h=c q):aF b a h=aF c a q:=by simp only[aF,d]
def Fw{a:Za}{d:Nat}{b:List Int}{e:List (Int×Int)}{c:gQ×eS->PM D}(f:cases a p o h=.ok (b,e,q)) :
  aF (fu (hz a p (d+1) u) (k,o)) c h=aF (fu (zv a p d u b) (k,e)) c q:=by
 refine rX (sX ?_);simp only[hz];exact aQ (uX f)
def Fv{b:Za}{d:Nat}{a:Mar.aw}{c:gQ×eS->PM D}(e:cases b p o h=.error a) :
  aF (fu (hz b p (d+1) u) (k,o)) c h=.error a:=by
 refine bl (oB ?_);simp_all[hz,bm,uW]
def BQ(c:List Int)(d:aO)(a:Option Addr)(m t:Nat):∀e∈jl ((c,d),.slice a m t),e.oneCell'=true:=by
 intro e b;rcases Yg.1 b with rfl|b
 .rfl
 .exact BR d e b
end
def RP{a:Ad}{b:Za}{l:St}(k:Nat){w:Zw}(c:Rd a b l w) :
  Calls prog 123 #[Zp a.R,U k] w (ga [a.R,a.S,a.N] a b w (dT b k l)):=by
 have q2:=iT;have q3:=jr;obtain⟨j9,i4,j6,j7,j8⟩:=info_parts IU;obtain⟨q7,q8,q9,r0⟩:=c.lt;go_in;go_wp2_with fail;refine(uN k c).mono ?_;rintro t r2 ⟨i6,⟨r1,s0,e0,rfl,n1⟩|⟨s,e0,n,d,rfl,e⟩⟩;rotate_left
 .exact aC (dr (i6.K (by simp)) (ak [] _) (bl e0) d e)
 have f1:=i6.K (M':=[a.R,a.S,a.N]) (by simp);go_wp2_with fail;refine(sH n1).mono ?_;rintro t a4 ⟨i8,⟨m,o9,g8,rfl,n3⟩|⟨s,g8,n,d,rfl,e⟩⟩;rotate_left
 .exact aC (dr (f1.u (i8.K (by simp))) f1 ((aE e0).trans (bl g8)) d e)
 have i0:=f1.u (i8.K (M':=[a.R,a.S,a.N]) (by simp));have c8:ac (dT b k l=pV b m o9):=(aE e0).trans (aE g8);dsimp only[fY];have q6:=i0.ar;have n4:=n3.a6 (.cells #[.string ⟨m.1.toArray⟩,U m.2,.string ⟨#[]⟩,U 0,.nilIface,.slice none 0 0] 358);have j2:=aS (w:=a4) (o:=.cells #[.string ⟨m.1.toArray⟩,U m.2,.string ⟨#[]⟩,U 0,.nilIface,.slice none 0 0] 358) rfl;have f2:=i0.B (.cells #[.string ⟨m.1.toArray⟩,U m.2,.string ⟨#[]⟩,U 0,.nilIface,.slice none 0 0] 358);have g3:a4.heap.size ∉ [a.S]:=by simp;omega
 go_wp2_with fail;refine(ff (ex a _) _ n4).mono ?_;rintro t r3 ⟨f6,⟨r6,s1,c3,rfl,n5⟩|⟨s,c3,n,d,rfl,e⟩⟩;rotate_left
 .exact aC (dr (f2.u (f6.K (by simp))) f2 (c8.j.trans (bl c3)) d e)
 have j3:=(f6.G _ (ap j2) g3).trans j2;have f3:=f2.u (f6.K (M':=[a.R,a.S,a.N]) (by simp));go_wp2_with fail;refine(ff (ex a _) _ n5).mono ?_;rintro t a7 ⟨I,⟨r7,c6,A,rfl,c1⟩|⟨s,A,n,d,rfl,e⟩⟩;rotate_left
 .exact aC (dr (f3.u (I.K (by simp))) f3 (c8.j.trans ((aE c3).trans (bl A))) d e)
 have j4:=(I.G _ (ap j3) g3).trans j3;have f4:=f3.u (I.K (M':=[a.R,a.S,a.N]) (by simp));go_wp2_with fail;refine(OO (ex a _) c1).mono ?_;rintro t q ⟨z,⟨⟨y,J⟩,b5,v,F,rfl,c2,i3⟩|⟨s,F,n,d,rfl,e⟩⟩;rotate_left
 .exact aC (dr (f4.u (z.K (by simp[Ad.aI]))) f4 (c8.j.trans ((aE c3).trans ((aE A).trans (bl F)))) d e)
 have j5:=(z.G _ (ap j4) g3).trans j4;have l7:=f4.u (z.K (M':=[a.R,a.S,a.N]) (by simp[Ad.aI]));have c9:ac (dT b k l=rz b m (y,J) b5):=c8.j.trans ((aE c3).trans ((aE A).trans (aE F)));have m7:=ap j5;dsimp only at i3 ⊢;obtain⟨e9,h1,i1⟩:∃e9 h1,bj y=.iface e9 h1:=by cases y<;>exact⟨_,_,rfl⟩
 rw[i1];go_wp2_with fail;refine(tQ _).mono ?_;rintro t b4 ⟨a2,a5,rfl,j0,p8,q4,h9,i2,n8⟩;have m6:a2<b4.heap.size:=by
  obtain⟨_,_,_,g2⟩:=id h9;exact ap g2
 have G:ac (jJ a b w a4.heap.size a2 a5 v J #[.string ⟨m.1.toArray⟩,U m.2,.string ⟨#[]⟩,U 0,.nilIface,.slice none 0 0] [a2,a4.heap.size] [] b5 b4):=by
  have f7:am [] q b4:=bh [] i2;have l9:∀P,bv (a.aI a4.heap.size).X P q->bv (a.ab [a2,a4.heap.size]).X P b4:=λP d8=>(d8.aI j0).F f7 (by simp);refine⟨l7.u (f7.K (by simp)),c2.i9 i2 j0 m6,⟨by simp,by simp,by omega⟩,?_,h9,?_,?_,(f7.G _ m7 (by simp)).trans j5⟩
  .intro b2 n9;simp at n9;omega
  .intro n d8;simp only[bb,Yc]at d8;subst d8;refine⟨n8,?_⟩;simp[Ad.ab];refine⟨by omega,by omega,?_⟩;intro g2;have:=c.aY _ g2;omega
  .obtain⟨P,s,o3,o2,l3,l4,l5,l6⟩:=i3;exact⟨P,s,o3,o2,l3,l9 P l4,l5,λk8 l8=>l6 k8 (l8.b9 λ_ g=>Y5 _ g)⟩
 go_wp2_with fail;refine(wD (bx:=a5) (cJ a _) (G.j.bB c) G.j.rd G.j.a9 G.j.cl).mono ?_;rintro t b1 ⟨a0,⟨j,k1,c7,C,rfl,b3,i5⟩|⟨s,C,n,d,rfl,e⟩⟩;rotate_left
 .refine aC (dr (G.j.kp.b4 a0 ?_) G.j.kp (c9.j.trans (bl (oB C))) d e);intro c5 g;simp at g ⊢;rcases g with g|g
  .omega
  .exact Ya (by have:=G.j.ao _ G.j.aj.2.1;omega)
 have d1:=Z ((G.j.bR c a0 (by simp) b3 i5).cE c (.string ⟨j.1.toArray⟩) (U j.2) (.iface e9 h1))
 obtain⟨p4,p5,p6,q0⟩:=FI (G.j.bR c a0 (by simp) b3 i5).ai;dsimp only[fY];go_wp2_with fail;refine(ff (cJ a _) _ d1.j.rd).mono ?_;rintro t r4 ⟨i9,⟨r9,s2,e1,rfl,n6⟩|⟨s,e1,n,d,rfl,e⟩⟩;rotate_left
 .exact aC (dr (d1.j.kp.u (i9.K (by simp))) d1.j.kp (c9.j.trans ((aE (rc C)).trans (bl e1))) d e)
 have d2:=Z (d1.j.b5 c i9 n6);go_wp2_with fail;refine(ff (cJ a _) _ d2.j.rd).mono ?_;rintro t c4 ⟨i7,⟨r5,k3,g7,rfl,n2⟩|⟨s,g7,n,d,rfl,e⟩⟩;rotate_left
 .exact aC (dr (d2.j.kp.u (i7.K (by simp))) d2.j.kp (c9.j.trans ((aE (rc C)).trans ((aE e1).trans (bl g7)))) d e)
 have h8:=d2.j.b5 c i7 n2;rw[<-i1]at h8;have k7:=Z (EY (n:=m) (sel:=⟨j.1,j.2,y⟩) c h8);have k4:ac (dT b k l=aF (fu (hz b J 13 []) (k1,[])) (lK b m ⟨j.1,j.2,y⟩) k3):=c9.j.trans ((aE (rc C)).trans ((aE e1).trans (aE g7)));go_wp2;go_loopw [10] (λn h0=>∃(b2:Bool) (f:gQ) (d6:Zl) (P:Zo) (H:List Nat) (a3:Zc) (a6:List (Int×Int)) (k0:Zv) (e4:St),n=.bool b2/\f.length<=a6.length/\a6.length<=12/\ac (gc a b w a4.heap.size a2 a5 c4.heap.size v J m ⟨j.1,j.2,y⟩ f d6 P H a3 a6 k0 e4 h0)/\
   ac (dT b k l=aF (fu (if b2 then hz b J (13-f.length) f else lZ b f) (a3,a6)) (lK b m ⟨j.1,j.2,y⟩) e4)) (λ_ h0=>13-xN h0 c4.heap.size)
 case atStart=>exact⟨true,[],[],[],_,k1,[],_,k3,rfl,by simp,by simp,k7,k4⟩
 case round=>
  obtain⟨b2,f,d6,P,H,a3,a6,k0,e4,rfl,q5,q1,r,e5⟩:=hrel;obtain⟨ad,b7,rfl⟩:=r.j.fe;cases b2 with
  |false=>
   go_wp2_with fail;refine(mN (cJ a H) _ r.j.rd).mono ?_;rintro t a7 ⟨I,⟨h5,c6,A,rfl,c1⟩|⟨s,A,n,d,rfl,e⟩⟩;rotate_left
   .exact(show bodyPost prog Tryz.f123 (ga [a.R,a.S,a.N] a b w (dT b k l)) (Exit.panic _) _ a7 from aC (dr (r.j.kp.u (I.K (by simp))) r.j.kp (e5.j.trans (bl (oB (bm (cB A))))) d e))
   have D:=Z (r.j.b5 c I c1);cases h5 with
   |false=>
    have K:ac (dT b k l=pT b m ⟨j.1,j.2,y⟩ f c6):=e5.j.trans (aE (rc ((aQ (bf A)).trans rfl)));go_wp2_with fail;refine(ff (cJ a _) _ D.j.rd).mono ?_;rintro t h3 ⟨b9,⟨o4,p0,a1,rfl,g5⟩|⟨s,a1,n,d,rfl,e⟩⟩;rotate_left
    .exact(show bodyPost prog Tryz.f123 (ga [a.R,a.S,a.N] a b w (dT b k l)) (Exit.panic _) _ h3 from aC (dr (D.j.kp.u (b9.K (by simp))) D.j.kp (K.j.trans (bl a1)) d e))
    have O:=Z (D.j.b5 c b9 g5);go_wp2_with fail;refine(ff (cJ a _) _ O.j.rd).mono ?_;rintro t h4 ⟨c0,⟨o5,p1,b0,rfl,g6⟩|⟨s,b0,n,d,rfl,e⟩⟩;rotate_left
    .exact(show bodyPost prog Tryz.f123 (ga [a.R,a.S,a.N] a b w (dT b k l)) (Exit.panic _) _ h4 from aC (dr (O.j.kp.u (c0.K (by simp))) O.j.kp (K.j.trans ((aE a1).trans (bl b0))) d e))
    have e8:=Z (O.j.b5 c c0 g6);go_wp2;go_ret;exact e8.j.fin c (by omega) (K.j.trans ((aE a1).trans (aE b0)))
   |true=>
    have K:ac (dT b k l=aF (fu (aG (lift (bY b [58])) λ_=>aG (ha (ir b (bb 0 0))) λp=>cX (f++[([],p)])) (a3,a6)) (lK b m ⟨j.1,j.2,y⟩) c6):=e5.j.trans (rX (sX (aQ (bf A))));go_wp2_with fail;refine(ff (cJ a H) _ D.j.rd).mono ?_;rintro t b1 ⟨a0,⟨r8,c7,C,rfl,b3⟩|⟨s,C,n,d,rfl,e⟩⟩;rotate_left
    .exact(show bodyPost prog Tryz.f123 (ga [a.R,a.S,a.N] a b w (dT b k l)) (Exit.panic _) _ b1 from aC (dr (D.j.kp.u (a0.K (by simp))) D.j.kp (K.j.trans (bl (oB (bm (cB C))))) d e))
    have b6:=Z (D.j.b5 c a0 b3);have d0:ac (dT b k l=aF (fu (aG (ha (ir b (bb 0 0))) λp=>cX (f++[([],p)])) (a3,a6)) (lK b m ⟨j.1,j.2,y⟩) c7):=K.j.trans (rX (sX (aQ (bf C))));have d9:Below b1.heap.size b1 b1.drew:=(Below.refl _ _).drew;obtain⟨o0,o1,m1⟩:=nZ b6.j.ai;have h:=Z (b6.j.au c d9);have e7:=Z (zt (bx:=a5) (cJ a H) (h.j.bB c (by simp)) h.j.rd h.j.a9 h.j.cl);have g9:(Value.agg #[.slice none 0 0,.string ⟨#[]⟩,U 0,.nilIface]).cells.size=4:=by rfl
    have f8:f.length+1<=maxLen:=by unfold maxLen;omega
    have f9:(f.length+1)*64<=140737488355328:=by omega
    go_wp2_with fail;refine cx (λh2=>h2.cell? (Zd a4.heap.size 5)=some (.slice ad f.length b7)) (L:=13) (by kernel_rfl) rfl (by kernel_rfl) (by kernel_rfl) ?_ (λa9=>?_)
    .go_keep
    refine bH [0,1,2,3,4,5,6] ?_;iterate 7 (refine bK (v:=?_) rfl (by kernel_rfl) (λ_ _ _ c=>c) (by rfl) (by assumption) ?_ ?_;rotate_left;focus (intro w E;(try dsimp only at E);go_simp;(try with_reducible rfl));(try simp only[aJ,aK,List.set]))
    refine bI ?_;refine bF 7 (by kernel_rfl) rfl λa8 x=>?_;(go_simp;go_at_call 200;refine e7.j.mono ?_;rintro t q ⟨z,⟨p,e3,b5,F,rfl,c2,f5⟩|⟨s,F,n,d,rfl,e⟩⟩;rotate_left;exact(show bodyPost prog Tryz.f123 (ga [a.R,a.S,a.N] a b w (dT b k l)) (Exit.panic _) _ q from aC (dr (h.j.kp.b4 z (by intro c5 g;simp at g ⊢;rcases g with g|g;exact Y8 (Ya (Y8 g));exact Ya (by have:=h.j.ao _ (h.j.aj a2 (by simp));omega))) h.j.kp (d0.j.trans (bl (oB (bm (sM F))))) d e));have B:=Z (h.j.bR c z (by simp) c2 f5 (h.j.bD.F z (by have:=h.j.nd.2.2;have:=h.j.ao _ (h.j.aj c4.heap.size (by simp));simp[Ad.ab];omega)));obtain⟨o7,o8,m3⟩:=nZ B.j.ai;have g0:=ap B.j.ai;have m9:=Nat.ne_of_lt g0;have n7:=B.j.kp.ar;dsimp only[iR]);refine x.out _ _ ?_ (λa9=>?_)
    .go_keep
    (try simp only[aJ,aK,List.set]);refine tk (i:=8) (v:=?_) rfl (by kernel_rfl) (λ_ _ _ c=>c) (by rfl) (by assumption) ?_ ?_;rotate_left
    .intro w E;(try dsimp only at E);go_simp;(try with_reducible rfl)
    (try simp only[aJ,aK,List.set]);refine bF 9 (by kernel_rfl) rfl λa8 x=>?_;go_simp;refine x.out _ _ ?_ (λa9=>?_)
    .go_keep
    (try simp only[aJ,aK,List.set]);refine bF 10 (by kernel_rfl) rfl λa8 x=>?_;(refine step_append_lies _ (by rfl) _ _ _ (by rfl) w.heap.size 363 j9 _ 4 64 underlying356 i4 j6 j7 j8 g9 (by omega) (.slice ad f.length b7) f.length ((f.zip d6).flatMap jl) (by rfl) (B.j.h1 _) ⟨q.heap.size,0,none⟩ 1 1 (jl (([],p),.slice none 0 0)) (by rfl) (by rfl) (World.news_of_block (cs:=(jl (([],p),.slice none 0 0)).toArray) (t:=363) (fr:=(0,0)) (heap_alloc_new q _)) (BQ [] p none 0 0) (by omega) f8 f9 (by simp;omega) (q.heap.size+1) (by simp) ?_;intro d7 l2 b4 g4 b8 m0 g1;obtain⟨o6,h5,m2⟩:=nZ (B.j.hx b8));refine x.out _ _ ?_ (λa9=>?_)
    .go_keep
    (try simp only[aJ,aK,List.set]);refine bH [11,12] ?_;iterate 2 (refine bK (v:=?_) rfl (by kernel_rfl) (λ_ _ _ c=>c) (by rfl) (by assumption) ?_ ?_;rotate_left;focus (intro w E;(try dsimp only at E);go_simp;(try with_reducible rfl));(try simp only[aJ,aK,List.set]))
    refine bI ?_;refine cR (by kernel_rfl) rfl λa8 x=>?_;go_simp;refine x.out _ _ ?_;(try simp only[aJ,aK,List.set]);have M:=Z (zm (bs':=[]) (cs:=[]) (cv:=.slice none 0 0) (d:=p) c B.j (by intro J n0;cases n0) (Y8 ⟨rfl,rfl,rfl⟩) ((Below.refl q.heap.size q).alloc (Y4 _) _) g4 b8 (by simp_all) g1);have e6:ac (dT b k l=pT b m ⟨j.1,j.2,y⟩ (f++[([],p)]) b5):=d0.j.trans (aE (rc ((aQ (sN F)).trans rfl)));go_wp2_with fail;refine(ff (cJ a _) _ M.j.rd).mono ?_;rintro t h3 ⟨b9,⟨o4,p0,a1,rfl,g5⟩|⟨s,a1,n,d,rfl,e⟩⟩;rotate_left
    .exact(show bodyPost prog Tryz.f123 (ga [a.R,a.S,a.N] a b w (dT b k l)) (Exit.panic _) _ h3 from aC (dr (M.j.kp.u (b9.K (by simp))) M.j.kp (e6.j.trans (bl a1)) d e))
    have O:=Z (M.j.b5 c b9 g5);go_wp2_with fail;refine(ff (cJ a _) _ O.j.rd).mono ?_;rintro t h4 ⟨c0,⟨o5,p1,b0,rfl,g6⟩|⟨s,b0,n,d,rfl,e⟩⟩;rotate_left
    .exact(show bodyPost prog Tryz.f123 (ga [a.R,a.S,a.N] a b w (dT b k l)) (Exit.panic _) _ h4 from aC (dr (O.j.kp.u (c0.K (by simp))) O.j.kp (e6.j.trans ((aE a1).trans (bl b0))) d e))
    have e8:=Z (O.j.b5 c c0 g6);go_wp2;go_ret;exact e8.j.fin c (by simp;omega) (e6.j.trans ((aE a1).trans (aE b0)))
  |true=>
   have h7:ac (dT b k l=aF (fu (hz b J ((12-f.length)+1) f) (a3,a6)) (lK b m ⟨j.1,j.2,y⟩) e4):=by
    grind
   go_wp2_with fail;refine(FQ (cJ a H) r.j.rd r.j.f2 (r.j.bB c (by simp)) r.j.bD).mono ?_;rintro t a7 ⟨I,⟨u,e2,c6,f0,l0,A,rfl,c1,m8,j1,m4⟩|⟨s,A,n,d,rfl,e⟩⟩;rotate_left
   .exact(show bodyPost prog Tryz.f123 (ga [a.R,a.S,a.N] a b w (dT b k l)) (Exit.panic _) _ a7 from aC (dr (r.j.kp.b4 I (by intro c5 g;simp at g ⊢;rcases g with g|g;exact Y8 (Ya (Y8 g));exact Ya (by have:=r.j.ao _ (r.j.aj c4.heap.size (by simp));omega))) r.j.kp (h7.j.trans (Fv A)) d e))
   have p9:=FL _ _ _ _ _ _ _ A;have D:=Z (r.j.bR c I (by intro c5 g;simp at g;rcases g with rfl|rfl;exact Y8 rfl;omega) c1 (r.j.a9.F I (by have:=r.j.nd.2.2;have:=r.j.ao _ (r.j.aj a2 (by simp));simp[Ad.ab];omega)) m8);have p2:=BJ r.j.bD;have K:ac (dT b k l=aF (fu (zv b J (12-f.length) f u) (a3,e2)) (lK b m ⟨j.1,j.2,y⟩) c6):=h7.j.trans (Fw A);obtain⟨d3,d5,d4,rfl⟩:∃k9 n l1,f0=.slice k9 n l1:=by rcases j1 with⟨rfl,_⟩|⟨d7,b7,p7,rfl,_⟩<;>exact⟨_,_,_,rfl⟩
   have d9:Below a7.heap.size a7 a7.drew:=(Below.refl _ _).drew;obtain⟨o0,o1,m1⟩:=nZ D.j.ai;have h:=Z (D.j.au c d9);have e7:=Z (zt (bx:=a5) (cJ a H) (h.j.bB c (by simp)) h.j.rd h.j.a9 h.j.cl);have g9:(Value.agg #[.slice none 0 0,.string ⟨#[]⟩,U 0,.nilIface]).cells.size=4:=by rfl
   have f8:f.length+1<=maxLen:=by unfold maxLen;omega
   have f9:(f.length+1)*64<=140737488355328:=by omega
   have m5:∀q,am [a.S,a2] a7.drew q->bv (a.ab H).X l0 q:=λq z=>(m4.F (bh [] d9) (by simp)).F z (by intro c5 g;simp at g;rcases g with rfl|rfl;exact h.j.rd.aj.2.1;exact Yf _ (h.j.aj _ (by simp)));have k5:=Z m5;have k6:=Z j1;go_wp2_with fail;refine cx (λh2=>h2.cell? (Zd a4.heap.size 5)=some (.slice ad f.length b7)) (L:=14) (by kernel_rfl) rfl (by kernel_rfl) (by kernel_rfl) ?_ (λa9=>?_)
   .go_keep
   refine bH [0,1,2,3,4,5,6,7] ?_;iterate 8 (refine bK (v:=?_) rfl (by kernel_rfl) (λ_ _ _ c=>c) (by rfl) (by assumption) ?_ ?_;rotate_left;focus (intro w E;(try dsimp only at E);go_simp;(try with_reducible rfl));(try simp only[aJ,aK,List.set]))
   refine bI ?_;refine bF 8 (by kernel_rfl) rfl λa8 x=>?_;(go_simp;go_at_call 200;refine e7.j.mono ?_;rintro t q ⟨z,⟨p,e3,b5,F,rfl,c2,f5⟩|⟨s,F,n,d,rfl,e⟩⟩;rotate_left;exact(show bodyPost prog Tryz.f123 (ga [a.R,a.S,a.N] a b w (dT b k l)) (Exit.panic _) _ q from aC (dr (h.j.kp.b4 z (by intro c5 g;simp at g ⊢;rcases g with g|g;exact Y8 (Ya (Y8 g));exact Ya (by have:=h.j.ao _ (h.j.aj a2 (by simp));omega))) h.j.kp (K.j.trans (bl (oB (bm (sM F))))) d e));have B:=Z (h.j.bR c z (by simp) c2 f5 (h.j.bD.F z (by have:=h.j.nd.2.2;have:=h.j.ao _ (h.j.aj c4.heap.size (by simp));simp[Ad.ab];omega)));obtain⟨o7,o8,m3⟩:=nZ B.j.ai;have g0:=ap B.j.ai;have m9:=Nat.ne_of_lt g0;have n7:=B.j.kp.ar;dsimp only[iR]);refine x.out _ _ ?_ (λa9=>?_)
   .go_keep
   (try simp only[aJ,aK,List.set]);refine tk (i:=9) (v:=?_) rfl (by kernel_rfl) (λ_ _ _ c=>c) (by rfl) (by assumption) ?_ ?_;rotate_left
   .intro w E;(try dsimp only at E);go_simp;(try with_reducible rfl)
   (try simp only[aJ,aK,List.set]);refine bF 10 (by kernel_rfl) rfl λa8 x=>?_;go_simp;refine x.out _ _ ?_ (λa9=>?_)
   .go_keep
   (try simp only[aJ,aK,List.set]);refine bF 11 (by kernel_rfl) rfl λa8 x=>?_;(refine step_append_lies _ (by rfl) _ _ _ (by rfl) w.heap.size 363 j9 _ 4 64 underlying356 i4 j6 j7 j8 g9 (by omega) (.slice ad f.length b7) f.length ((f.zip d6).flatMap jl) (by rfl) (B.j.h1 _) ⟨q.heap.size,0,none⟩ 1 1 (jl ((u,p),.slice d3 d5 d4)) (by rfl) (by rfl) (World.news_of_block (cs:=(jl ((u,p),.slice d3 d5 d4)).toArray) (t:=363) (fr:=(0,0)) (heap_alloc_new q _)) (BQ u p d3 d5 d4) (by omega) f8 f9 (by simp;omega) (q.heap.size+1) (by simp) ?_;intro d7 l2 b4 g4 b8 m0 g1;obtain⟨o6,h5,m2⟩:=nZ (B.j.hx b8));refine x.out _ _ ?_ (λa9=>?_)
   .go_keep
   (try simp only[aJ,aK,List.set]);refine bH [12,13] ?_;iterate 2 (refine bK (v:=?_) rfl (by kernel_rfl) (λ_ _ _ c=>c) (by rfl) (by assumption) ?_ ?_;rotate_left;focus (intro w E;(try dsimp only at E);go_simp;(try with_reducible rfl));(try simp only[aJ,aK,List.set]))
   refine bI ?_;refine cR (by kernel_rfl) rfl λa8 x=>?_;go_simp;refine x.out _ _ ?_;(try simp only[aJ,aK,List.set]);have M:=Z (zm (cs:=u) (cv:=.slice d3 d5 d4) (d:=p) c B.j (k5.j q z) (k6.j) ((Below.refl q.heap.size q).alloc (Y4 _) _) g4 b8 (by simp_all) g1);have h6:ac (dT b k l=aF (fu (aG (lift (fQ b [99,97,115,101])) λb2=>if b2 then hz b J (12-f.length) (f++[(u,p)])else lZ b (f++[(u,p)])) (e3,e2)) (lK b m ⟨j.1,j.2,y⟩) b5):=K.j.trans (rX (sX (aQ (sN F))))
   go_wp2_with fail;refine(vw (cJ a (d7::H)) _ M.j.rd).mono ?_;rintro t b1 ⟨a0,⟨k2,c7,C,rfl,b3⟩|⟨s,C,n,d,rfl,e⟩⟩;rotate_left
   .exact(show bodyPost prog Tryz.f123 (ga [a.R,a.S,a.N] a b w (dT b k l)) (Exit.panic _) _ b1 from aC (dr (M.j.kp.u (a0.K (by simp))) M.j.kp (h6.j.trans (bl (oB (bm (cB C))))) d e))
   have b6:=Z (M.j.b5 c a0 b3);have d0:ac (dT b k l=aF (fu (if k2=true then hz b J (13-(f++[(u,p)]).length) (f++[(u,p)])else lZ b (f++[(u,p)])) (e3,e2)) (lK b m ⟨j.1,j.2,y⟩) c7):=by
    refine h6.j.trans (rX (sX ((aQ (bf C)).trans ?_)));simp
   have p3:=BJ b6.j.bD;go_wp2;refine⟨⟨k2,f++[(u,p)],_,_,d7::H,e3,e2,_,c7,rfl,by grind,by omega,b6,d0⟩,?_⟩;omega
section
structure gS(a:Ad)(d:Za)(b:Zw)(c bx nq:Nat)(l:Zo)(e:List Nat)(t:Zc)(g:List (Int×Int))(j:St)(h:Zw):Prop where
 kp:am [a.R,a.S,a.N,c,nq] b h
 rd:Rd (a.ab e) d j h
 ao:∀y∈e,b.heap.size<=y
 a9:dp c t h
 cl:bv (a.ab e).X (bb c bx).bs h
 bD:cQ nq g h
 ai:∀p∈l,h.heap[p.1]? = some p.2/\p.1∈e
section
variable {a : Ad} {d : Za} {b h k : Zw} {c bx nq : Nat} {l B' : List (Nat × Obj)} {e : List Nat} {t q : Zc} {g o : List (Int × Int)} {j m n : St}
theorem cT.ab{c:Nat}(b:cT a c)(e:List Nat):cT (a.ab e) c:=⟨Ym _ b.1,b.2.1,b.2.2.1,b.2.2.2.1,b.2.2.2.2⟩
def gS.bR{s:List Nat}(u:Rd a d n b)(A:cT a c)(z:cT a nq)(i:gS a d b c bx nq l e t g j h)(w:am s h k)(v:∀p∈s,p∈[a.R,a.S,a.N,c,nq])(r:Rd (a.ab e) d m k)(E:dp c q k)(C:cQ nq o k) :
  gS a d b c bx nq l e q o m k:=by
 obtain⟨G,H,I,J⟩:=u.lt;have L:=u.aY _ A.1;have K:=u.aY _ z.1;have B:∀p∈s,p∈(a.ab e).X:=by
  intro p f;have f:=v p f;simp at f;rcases f with rfl|rfl|rfl|rfl|rfl
  .exact r.aj.1
  .exact r.aj.2.1
  .exact r.aj.2.2.1
  .exact Ym _ A.1
  .exact Ym _ z.1
 refine⟨i.kp.u (w.K v),r,i.ao,E,i.cl.F w B,C,?_⟩;intro F D;obtain⟨x,y⟩:=i.ai F D;refine⟨(w.G _ (ap x) ?_).trans x,y⟩;intro f;have f:=v _ f;have:=i.ao _ y;grind
def gS.b5(q:Rd a d n b)(p:cT a c)(o:cT a nq)(i:gS a d b c bx nq l e t g j h)(f:am [a.S] h k)(r:Rd (a.ab e) d m k):gS a d b c bx nq l e t g m k:=
 i.bR q p o f (by simp) r (i.a9.F f (by simp;exact p.2.2.1)) (i.bD.F f (by simp;exact o.2.2.1))
def gS.g3(r:Rd a d n b)(u:cT a c)(i:cT a nq)(s:c≠nq)(o:gS a d b c bx nq l e t g j h)(f:am [a.S,c] h k)(v:Rd (a.ab e) d m k)(w:dp c q k):gS a d b c bx nq l e q g m k:=
 o.bR r u i f (by simp) v w (o.bD.F f (by simp;exact⟨i.2.2.1,λp=>s p.symm⟩))
def gS.l3(q:Rd a d n b)(i:cT a c)(s:cT a nq)(u:c≠nq)(p:gS a d b c bx nq l e t g j h)(f:am [a.S,nq] h k)(v:Rd (a.ab e) d m k)(r:cQ nq o k):gS a d b c bx nq l e t o m k:=
 p.bR q i s f (by simp) v (p.a9.F f (by simp;exact⟨i.2.2.1,u⟩)) r
def gS.B(f:gS a d b c bx nq l e t g j h)(n:Obj):gS a d b c bx nq ((h.heap.size,n)::l) (h.heap.size::e) t g j (h.alloc n):=by
 have i:am [] h (h.alloc n):=(ak [] h).B _;refine⟨f.kp.B _,f.rd.a6 _,?_,f.a9.F i (by simp),(f.cl.aI (Y4 _)).F i (by simp),f.bD.F i (by simp),?_⟩
 .intro r m;rcases Yg.1 m with rfl|m
  .exact f.kp.ar
  .exact f.ao r m
 .intro q k;rcases Yg.1 k with rfl|k
  .exact⟨aS rfl,Yb⟩
  .obtain⟨o,p⟩:=f.ai q k;exact⟨(i.G _ (ap o) (by simp)).trans o,Y5 _ p⟩
def gS.cE{q:List Nat}(r:Rd a d n b)(x:cT a c)(w:cT a nq)(i:gS a d b c bx nq l e t g j h)(p:am q h k)(o:∀m∈q,m∈e)(v:∀s∈B',k.heap[s.1]? = some s.2/\s.1∈e):gS a d b c bx nq B' e t g j k:=by
 have z:=r.aY _ x.1;have y:=r.aY _ w.1;have u:∀m∈q,m∈(a.ab e).X:=λm f=>Yf _ (o m f);refine⟨i.kp.b4 p (λm f=>Ya (i.ao _ (o m f))),r.b4 (cJ a e) i.rd p (λm f=>⟨i.ao _ (o m f),u m f⟩),i.ao,i.a9.F p ?_,i.cl.F p u,i.bD.F p ?_,v⟩
 .intro f;have:=i.ao _ (o _ f);omega
 .intro f;have:=i.ao _ (o _ f);omega
end
def kc(d:Za):PX eS dN:=aG (lift (lG d)) λe=>aG (ha (name d (bb 0 0))) λa=>aG (lift (bY d [40])) λ_=>aG (lift (lG d)) λb=>aG (lift (bY d [41])) λ_=>
 aG (jt (kI d)) λc=>cX ⟨a.1,a.2,e,b,c⟩
abbrev kT(c:dN):Zl:=jY c.t c.m++[bj c.c2,bj c.cF,U c.num]
def wf{k:Type}(a:Ad)(d:Za)(b:Zw)(c nq:Nat)(j:Except Mar.aw (k×eS×St))(l:k->Zv)(i:Ending)(e:Zw):Prop:=
 am [a.R,a.S,a.N,c,nq] b e/\((∃h t g m,j=.ok (h,(t,g),m)/\i=.returned (l h)/\Rd a d m e/\dp c t e/\cQ nq g e)\/(∃f,j=.error f/\fa b f.no f.m i e))
def qi{i:Type}{a:Ad}{M':List Nat}{d:Za}{b w1 g:Zw}{c nq:Nat}{h:Except Mar.aw (i×eS×St)}{j:i->Zv}{f:Mar.aw}{e:Nat}
  (m:am [a.R,a.S,a.N,c,nq] b g) (n:am M' b w1) (o:h=.error f) (k:w1.heap.size<=e) (l:g.heap[e]? = some (.cells #[U f.no,U f.m] 179)) :
  wf a d b c nq h j (.panicked [{ v:=.iface 143 (Zp e),recovered:=false }]) g:=⟨m,Ya ⟨f,o,e,Yz n.ar k,rfl,l⟩⟩
def Cy{c a:Ad}(e:ew c a){d:Za}{j:St}{b:Zw}(f:Rd c d j b) :
  Calls prog 269 #[Zp a.R] b (dx [a.S] c d b (lG d j) bj):=by
 have:=OV f;rw[e.1,e.2.1]at this;exact this
def Aa{e a:Ad}(f:ew e a){d:Za}{j:St}{c:Nat}{g:List (Int×Int)}{b:Zw}(h:Rd e d j b)(k:cT e c)(i:cQ c g b) :
  Calls prog 204 #[Zp a.R,.map (some c)] b (jc [a.S,c] e d b (kI d g j) hY (cQ c)):=by
 have:=Hs h k i;rw[f.1,f.2.1]at this;exact this
def dG(a:Ty):∃b v,bj a=.iface b v:=by cases a<;>exact⟨_,_,rfl⟩
def tT{a:Nat}{f t c d e:Zv}{g:TypeId}{b:Zw}(i:b.heap[a]? = some (.cells #[f,t,c,d,e] g)) :
  b.cell? (Zd a 0)=some f/\b.cell? (Zd a 1)=some t/\b.cell? (Zd a 2)=some c/\b.cell? (Zd a 3)=some d/\b.cell? (Zd a 4)=some e/\∀h,b.frozen? ⟨a,h,none⟩=false:=by
 simp_all[World.cell?,World.frozen?]
def MX{a:Ad}{d:Za}{j:St}{c bx nq:Nat}{t:Zc}{g:List (Int×Int)}{b:Zw}(h:Rd a d j b)(n:cT a c)(m:cT a nq)(S:c≠nq)(d6:dp c t b)(c7:bv a.X (bb c bx).bs b)(c9:cQ nq g b) :
  Calls prog 256 #[Zp a.R,(bb c bx).v,.map (some nq)] b (wf a d b c nq (kc d (t,g) j) λp=>.agg (kT p).toArray):=by
 have c2:gS a d b c bx nq [] [] t g j b:=⟨ak _ _,h,by simp,d6,c7,c9,by simp⟩;have D:=Z (c2.B (.cells #[.string ⟨#[]⟩,U 0,.nilIface,.nilIface,U 0] 446));go_in;go_wp2_with fail;refine(Cy (cJ a _) D.j.rd).mono ?_;rintro z e9 ⟨a4,⟨M,f4,K,rfl,d1⟩|⟨A,K,y,k,rfl,l⟩⟩;rotate_left
 .exact aC (qi (D.j.kp.u (a4.K (by simp))) D.j.kp (bm (cB K)) k l)
 have o:=Z (D.j.b5 h n m a4 d1);obtain⟨J,N,c3⟩:=dG M;rw[c3];go_wp2_with fail;refine(wD (bx:=bx) (cJ a _) (n.ab _) o.j.rd o.j.a9 o.j.cl).mono ?_;rintro z f ⟨P,⟨e,a2,e4,a0,rfl,b0,b1⟩|⟨A,a0,y,k,rfl,l⟩⟩;rotate_left
 .exact aC (qi (o.j.kp.u (P.K (by simp))) o.j.kp ((aQ (bf K)).trans (bm (sM a0))) k l)
 have e8:b.heap.size<f.heap.size:=ap ((o.j.g3 h n m S P b0 b1).ai (b.heap.size,.cells #[.string ⟨#[]⟩,U 0,.nilIface,.nilIface,U 0] 446) Yb).1;have E:=Z ((o.j.g3 h n m S P b0 b1).B (.cells #[.string ⟨e.1.toArray⟩,U e.2,.iface J N,.nilIface,U 0] 446))
 have s:ac (kc d (t,g) j=aG (lift (bY d [40])) (λ_=>aG (lift (lG d)) λx=>aG (lift (bY d [41])) λ_=>aG (jt (kI d)) λq=>cX ⟨e.1,e.2,M,x,q⟩) (a2,g) e4):=(aQ (bf K)).trans (aQ (sN a0));dsimp only[fY];go_wp2_with fail;refine(ff (cJ a _) _ E.j.rd).mono ?_;rintro z f0 ⟨a5,⟨f2,f5,r,rfl,d2⟩|⟨A,r,y,k,rfl,l⟩⟩;rotate_left
 .exact aC (qi (E.j.kp.u (a5.K (by simp))) E.j.kp (s.j.trans (bm (cB r))) k l)
 have F:=Z (E.j.b5 h n m a5 d2);go_wp2_with fail;refine(Cy (cJ a _) F.j.rd).mono ?_;rintro z b8 ⟨a6,⟨x,f6,B,rfl,d3⟩|⟨A,B,y,k,rfl,l⟩⟩;rotate_left
 .exact aC (qi (F.j.kp.u (a6.K (by simp))) F.j.kp (s.j.trans ((aQ (bf r)).trans (bm (cB B)))) k l)
 have G:=F.j.b5 h n m a6 d3;obtain⟨w,C,c4⟩:=dG x;rw[c4];obtain⟨b3,b4,b5,b6,b7,c8⟩:=tT (G.ai (f.heap.size,_) Yb).1;have H:=Z (G.cE (B':=[(f.heap.size,.cells #[.string ⟨e.1.toArray⟩,U e.2,.iface J N,.iface w C,U 0] 446),(b.heap.size,.cells #[.string ⟨#[]⟩,U 0,.nilIface,.nilIface,U 0] 446)]) h n m ((ak [f.heap.size] b8).ay (p:=⟨f.heap.size,3,none⟩) (by simp) (.iface w C)) (by simp) (by
  intro p a9;simp only[Yg,List.not_mem_nil,or_false]at a9;rcases a9 with rfl|rfl
  .exact⟨bu (i:=3) (G.ai (f.heap.size,_) Yb).1 _,by simp⟩
  .have a3:=(G.ai (b.heap.size,.cells #[.string ⟨#[]⟩,U 0,.nilIface,.nilIface,U 0] 446) (Y5 _ Yb)).1;exact⟨(((ak [f.heap.size] b8).ay (p:=⟨f.heap.size,3,none⟩) (by simp) (.iface w C)).G _ (ap a3) (by grind)).trans a3,by simp⟩))
 go_wp2_with fail;refine(ff (cJ a _) _ H.j.rd).mono ?_;rintro z f1 ⟨a7,⟨f3,f7,L,rfl,d4⟩|⟨A,L,y,k,rfl,l⟩⟩;rotate_left
 .exact aC (qi (H.j.kp.u (a7.K (by simp))) H.j.kp (s.j.trans ((aQ (bf r)).trans ((aQ (bf B)).trans (bm (cB L))))) k l)
 have u:=Z (H.j.b5 h n m a7 d4);go_wp2_with fail;refine(Aa (cJ a _) u.j.rd (m.ab _) u.j.bD).mono ?_;rintro z e3 ⟨a8,⟨q,b2,b9,a1,rfl,d5,d0⟩|⟨A,a1,y,k,rfl,l⟩⟩;rotate_left
 .exact aC (qi (u.j.kp.u (a8.K (by simp))) u.j.kp (s.j.trans ((aQ (bf r)).trans ((aQ (bf B)).trans ((aQ (bf L)).trans (bm (uW a1)))))) k l)
 have O:=u.j.l3 h n m S a8 d5 d0;have c0:ac (kc d (t,g) j=.ok (⟨e.1,e.2,M,x,q⟩,(a2,b2),b9)):=s.j.trans ((aQ (bf r)).trans ((aQ (bf B)).trans ((aQ (bf L)).trans ((aQ (uX a1)).trans rfl))));have c6:=(O.ai (f.heap.size,_) Yb).1;have c5:=(O.ai (b.heap.size,.cells #[.string ⟨#[]⟩,U 0,.nilIface,.nilIface,U 0] 446) (Y5 _ Yb)).1;obtain⟨b3,b4,b5,b6,b7,c8⟩:=tT c6;obtain⟨d8,d9,e0,e1,e2,e5⟩:=tT c5;have e6:¬f.heap.size=b.heap.size:=by omega
 have e7:¬b.heap.size=f.heap.size:=by omega
 have c1:=Z O;dsimp only[hY];go_wp2;have d7:=(((((ak [f.heap.size,b.heap.size] e3).ay (p:=⟨f.heap.size,4,none⟩) (by simp) (U q)).ay (p:=⟨b.heap.size,0,none⟩) (by simp) (.string ⟨e.1.toArray⟩)).ay (p:=⟨b.heap.size,1,none⟩) (by simp) (U e.2)).ay (p:=⟨b.heap.size,2,none⟩) (by simp) (.iface J N)).ay (p:=⟨b.heap.size,3,none⟩) (by simp) (.iface w C) |>.ay (p:=⟨b.heap.size,4,none⟩) (by simp) (U q)
 have I:=c1.j.cE (B':=[]) h n m d7 (by simp) (by simp);refine bodyPost_ret (v:=.agg #[.string ⟨e.1.toArray⟩,U e.2,.iface J N,.iface w C,U q]) (by simp[results,results256,go_sem,d8,d9,e0,e1,e2,b3,b4,b5,b6,b7]) rfl ⟨I.kp,Y8 ⟨⟨e.1,e.2,M,x,q⟩,a2,b2,b9,c0.j,?_,jj h.aj I.rd,I.a9,I.bD⟩⟩
 simp_all
end
section
structure eQ(a:Ad)(k:Za)(j:Zw)(s o:TypeId)(r c d nq:Nat)(f:Zo)(q:Zb×Nat)(iO:Nat)(n:Zl)(v:Zo)(e:List Nat)(t:Zc)(l:List (Int×Int))(h:Zv)(w:St)(u:Zw):Prop where
 kp:am [a.R,a.S,a.N] j u
 rd:Rd (a.ab e) k w u
 aj:∀b∈c::d::nq::f.map (·.1),b∈e
 nd:(c::d::nq::f.map (·.1)).Nodup
 ao:∀y∈e,j.heap.size<=y
 a6:∀g,h.ownBlock=some g->g∈e/\g ∉ c::d::nq::f.map (·.1)
 a9:dp d t u
 bD:cQ nq l u
 ai:u.heap[c]? = some (.cells #[.string ⟨q.1.toArray⟩,U q.2,h,U 0] s)
 ez:∀p∈f,u.heap[p.1]? = some p.2
 row:u.ownsRow j.heap.size o r h iO n
 cI:bv (a.ab e).X v u
section
variable {a : Ad} {k : Za} {j u x : Zw} {s o : TypeId} {r c d nq : Nat} {f : List (Nat × Obj)} {q : Zb × Nat} {iO : Nat} {n : Zl} {v : List (Nat × Obj)} {e : List Nat} {t C : Zc} {l B : List (Int × Int)} {h : Zv} {w A z : St}
def eQ.fe(g:eQ a k j s o r c d nq f q iO n v e t l h w u):∃ad b,h=.slice ad iO b:=by
 rcases g.row.2 with⟨rfl,p⟩|⟨m,b,i,rfl,_⟩;all_goals simp_all
def eQ.bB(i:Rd a k z j)(m:eQ a k j s o r c d nq f q iO n v e t l h w u){b:Nat}(g:b∈e):cT (a.ab e) b:=by
 obtain⟨x,y,A,B⟩:=i.lt;have p:=m.ao _ g;refine⟨Yf _ g,?_,?_,?_,?_⟩<;>simp only[Ad.ab]<;>omega
def eQ.b7(g:eQ a k j s o r c d nq f q iO n v e t l h w u):c≠d/\c≠nq/\d≠nq/\(∀b∈f,b.1≠c/\b.1≠d/\b.1≠nq):=by
 have:=g.nd;grind
def eQ.bR{D:List Nat}(H:Rd a k z j)(b:eQ a k j s o r c d nq f q iO n v e t l h w u)(i:am D u x)(E:∀m∈D,m∈[a.R,a.S,a.N,d,nq])(y:Rd (a.ab e) k A x)(O:dp d C x)(L:cQ nq B x) :
  eQ a k j s o r c d nq f q iO n v e C B h A x:=by
 obtain⟨a3,a4,a5,a6⟩:=H.lt;obtain⟨P,a0,a1,a2⟩:=b.b7;have a7:=b.ao _ (b.aj c (by simp));have a9:=b.ao _ (b.aj d (by simp));have a8:=b.ao _ (b.aj nq (by simp));have J:∀m∈D,m∈(a.ab e).X:=by
  intro m g;have g:=E m g;simp at g;rcases g with rfl|rfl|rfl|rfl|rfl
  .exact y.aj.1
  .exact y.aj.2.1
  .exact y.aj.2.2.1
  .exact Yf _ (b.aj _ (by simp))
  .exact Yf _ (b.aj _ (by simp))
 refine⟨b.kp.b4 i ?_,y,b.aj,b.nd,b.ao,b.a6,O,L,(i.G _ (ap b.ai) ?_).trans b.ai,?_,bi b.row i ?_,b.cI.F i J⟩
 .grind
 .grind
 .intro F M;have p:=b.ez F M;refine(i.G _ (ap p) ?_).trans p;intro g;have g:=E _ g;have I:=b.ao _ (b.aj F.1 (by grind));grind
 .intro G K g;have g:=E _ g;have p:=b.a6 G K;have I:=b.ao _ p.1;grind
def eQ.b5(i:Rd a k z j)(b:eQ a k j s o r c d nq f q iO n v e t l h w u)(g:am [a.S] u x)(m:Rd (a.ab e) k A x):eQ a k j s o r c d nq f q iO n v e t l h A x:=by
 have p:=i.lt.2.1;have B:=b.ao _ (b.aj d (by simp));have y:=b.ao _ (b.aj nq (by simp));exact b.bR i g (by simp) m (b.a9.F g (by grind)) (b.bD.F g (by grind))
def eQ.au(g:Rd a k z j)(m:eQ a k j s o r c d nq f q iO n v e t l h w u)(b:Below u.heap.size u x):eQ a k j s o r c d nq f q iO n v e t l h w x:=
 m.bR g (bh [] b) (by simp) (m.rd.au b) (m.a9.F (bh [] b) (by simp)) (m.bD.F (bh [] b) (by simp))
theorem eQ.h1(g:eQ a k j s o r c d nq f q iO n v e t l h w u)(b:Obj):(u.alloc b).ownsRow j.heap.size o r h iO n:=bi g.row ((ak [] u).B b) (by simp)
def eQ.hx{i:Zw}{g:Obj}(b:eQ a k j s o r c d nq f q iO n v e t l h w u)(p:(u.alloc g).grownBy i h.ownBlock):i.heap[c]? = some (.cells #[.string ⟨q.1.toArray⟩,U q.2,h,U 0] s):=by
 have x:=ap b.ai;exact(p.block _ (by simp;omega) (λm=>(b.a6 _ m.symm).2 (by simp))).trans ((((ak [] u).B g).G _ x (by simp)).trans b.ai)
def eQ.id{m:Zw}{i:Obj}(g:eQ a k j s o r c d nq f q iO n v e t l h w u)(y:(u.alloc i).grownBy m h.ownBlock){p:Nat×Obj}(A:p∈f):m.heap[p.1]? = some p.2:=by
 have b:=g.ez p A;have z:=ap b;exact(y.block _ (by simp;omega) (λx=>(g.a6 _ x.symm).2 (by grind))).trans ((((ak [] u).B i).G _ z (by simp)).trans b)
def yU{F A:Zw}{g C:Nat}{R:Zl}{bs':Zo}(G:Rd a k z j)(p:eQ a k j s o r c d nq f q iO n v e t l h w u)(a3:bv (a.ab e).X bs' u)(m:Below u.heap.size u F)
  (N:A.ownsRow j.heap.size o r (.slice (some ⟨g,0,none⟩) (iO+1) C) (iO+1) (n++R))
  (D:F.grownBy A h.ownBlock) (H:h.ownBlock=some g\/g=F.heap.size) (a6:g<A.heap.size) :
  eQ a k j s o r c d nq f q (iO+1) (n++R) (v++bs') (g::e) t l (.slice (some ⟨g,0,none⟩) (iO+1) C) w (A.setCell ⟨c,2,none⟩ (.slice (some ⟨g,0,none⟩) (iO+1) C)):=by
 obtain⟨b6,_⟩:=hn N (g:=g) rfl;have x:=p.au G m;have a4:=a3.F (bh [] m) (by simp);obtain⟨b1,b2,b3,b4⟩:=p.b7;have K:c∈c::d::nq::f.map (·.1):=by simp
 have a9:d∈c::d::nq::f.map (·.1):=by simp
 have a8:nq∈c::d::nq::f.map (·.1):=by simp
 have b8:∀b∈c::d::nq::f.map (·.1),j.heap.size<=b:=λb m=>p.ao _ (p.aj b m);have M:∀b∈c::d::nq::f.map (·.1),b<F.heap.size:=λb m=>x.rd.aY b (Yf _ (p.aj b m));have b7:=D.size;have b5:g ∉ c::d::nq::f.map (·.1):=by
  rcases H with L|L
  .exact(p.a6 g L).2
  grind
 have O:∀b,h.ownBlock=some b->j.heap.size<=b/\b∈(a.ab e).X:=λb m=>⟨p.ao _ (p.a6 b m).1,Yf _ (p.a6 b m).1⟩;have B:=fs D;have y:am [c] A (A.setCell ⟨c,2,none⟩ (.slice (some ⟨g,0,none⟩) (iO+1) C)):=(ak [c] A).ay (by simp) _;have E:∀b∈c::d::nq::f.map (·.1),b ∉ h.ownBlock.toList:=by
  intro b m I;exact(p.a6 b (by grind)).2 m
 have a2:∀b,h.ownBlock=some b->b∈(a.ab e).X:=λb m=>(O b m).2;have a1:∀a0∈[c],a0∈(a.ab (g::e)).X:=by
  intro a0 P;simp only[Yc]at P;subst P;exact Yf _ (Y5 _ (p.aj _ K))
 refine⟨?_,?_,λb m=>Y5 _ (p.aj b m),p.nd,?_,?_,?_,?_,?_,?_,?_,?_⟩
 .refine(x.kp.b4 B ?_).b4 y ?_
  .grind
  grind
 .exact G.b4 (cJ a (g::e)) (qp G (cJ a e) x.rd D O H a6) y (by
   grind)
 .intro b0 J;rcases Yg.1 J with rfl|J
  .omega
  .exact p.ao b0 J
 .grind [Value.ownBlock]
 .exact(x.a9.F B (E _ a9)).F y (by grind)
 .exact(x.bD.F B (E _ a8)).F y (by grind)
 .exact bu (i:=2) ((B.G _ (M _ K) (E _ K)).trans x.ai) _
 .intro S a7;have I:S.1∈c::d::nq::f.map (·.1):=by grind
  have a5:=M _ I;exact(y.G _ (by omega) (by grind)).trans ((B.G _ a5 (E _ I)).trans (x.ez S a7))
 .exact bi N y (by
   grind [Value.ownBlock])
 .exact((x.cI.ca a4).bo D a2 H).F y a1
def eQ.i6(y:eQ a k j s o r c d nq f q iO n v e t l h w u)(D:iO<=1000)(G:n.length=iO*r)(E:iO=0->n=[]):∃i,gG i o h iO n/\∀b∈i,u.heap[b.1]? = some b.2/\j.heap.size<=b.1/\b.1≠c:=by
 rcases y.row.2 with⟨rfl,p⟩|⟨g,z,m,rfl,A,B,C,H,I,J⟩
 .exact⟨[],Y8 ⟨rfl,p,E p⟩,by simp⟩
 .refine⟨[(g,.cells m o)],Ya ⟨g,z,m,rfl,⟨C,D⟩,by simp,?_⟩,?_⟩
  .simp_all
  .intro b x;simp only[Yc]at x;subst x;exact⟨B,A,λF=>(y.a6 g rfl).2 (by simp_all)⟩
end
end
section
variable {b:Ad}{c:List dN}{e:eS}{a:Zw}{d:St}
def Jb:(prog.info? 446).map (λa=>(a.zero,a.size,a.bytes))=some (some (.agg #[.string ⟨#[]⟩,U 0,.nilIface,.nilIface,U 0]),5,64):=by kernel_rfl
def jB(f:Za):PX (List dN×eS) Unit:=λa d=>match kc f a.2 d with
 |.ok (b,e,g)=>.ok ((),(a.1++[b],e),g)
 |.error c=>.error c
def DE{f:Za}{b:eS}{g:St}{a:dN}(h:kc f e d=.ok (a,b,g)):jB f (c,e) d=.ok ((),(c++[a],b),g):=by simp only[jB,h]
def DD{b:Za}{a:Mar.aw}(f:kc b e d=.error a):jB b (c,e) d=.error a:=by simp only[jB,f]
structure rQ where
 VB:Nat
 rb:Nat
 cb:Nat
 nb:Nat
 q:Nat
 nq:Nat
 bx:Nat
abbrev rQ.E(a:rQ):Zo:=[(a.cb,.cells #[(bb a.q a.bx).v] 341),(a.nb,.cells #[.map (some a.nq)] 149)]
def vN(b:Ad)(j:Za)(a:Zw)(c:rQ)(h:Zb×Nat)(g:Nat)(f:List Nat)(e:List dN×eS)(d:St)(k:Zw):Prop:=e.1.length=g/\
 ∃i,eQ b j a 367 446 5 c.VB c.q c.nq c.E h e.1.length (e.1.flatMap kT) (bb c.q c.bx).bs f e.2.1 e.2.2 i d k
def MY{c:Ad}(j:ew c b){f:Za}{e bx nq:Nat}{h:Zc}{g:List (Int×Int)}(i:Rd c f d a)(o:cT c e)(m:cT c nq)(n:e≠nq)(p:dp e h a)(k:bv c.X (bb e bx).bs a)(l:cQ nq g a) :
  Calls prog 256 #[Zp b.R,(bb e bx).v,.map (some nq)] a (wf c f a e nq (kc f (h,g) d) λq=>.agg (kT q).toArray):=by
 have:=MX i o m n p k l;rw[j.1]at this;exact this
def Mi(a:dN):∀d∈kT a,d.oneCell'=true:=by
 intro d c;simp at c;rcases c with rfl|rfl|rfl|rfl|rfl
 .rfl
 .rfl
 .obtain⟨e,v,b⟩:=dG a.c2;rw[b];rfl
 .obtain⟨e,v,b⟩:=dG a.cF;rw[b];rfl
 rfl
def sn{b:Nat}{g h d e:Zv}{c:TypeId}(i:a.heap[b]? = some (.cells #[g,h,d,e] c)):∀f,a.frozen? ⟨b,f,none⟩=false:=by
 grind [World.frozen?]
theorem RZ{t:Za}{p:Zw}{f:rQ}{K:Zb×Nat}{C:Nat}{w:List Nat}{c5:St}(o:Rd b t c5 a)(J:a.heap[f.rb]? = some (.cells #[Zp b.R] 145))(b3:f.rb ∉ [b.R,b.S,b.N])(G:C<1000)(n:vN b t a f K C w (c,e) d p) :
  Calls prog 255 #[Zp f.VB,Zp f.rb,Zp f.cb,Zp f.nb] p (jE b a (vN b t a f K (C+1)) (jB t (c,e) d)):=by
 obtain⟨z,f0,k⟩:=n;obtain⟨c2,d9⟩:=e;dsimp only at z k;have a0:=Z z;have d5:c.length<1000:=by omega
 clear z;obtain⟨ad,E,rfl⟩:=k.fe;obtain⟨c0,a6,b6,b7,b8⟩:=info_parts Jb;have I:=ap J;have A:=λ(v:Zw) (G:am [b.R,b.S,b.N] a v)=>bX ((G.G _ I b3).trans J);have D:=Z A;obtain⟨f1,f2,f3,f4⟩:=jS k.ai;have e7:=A _ k.kp;have c9:=bX (k.ez (f.cb,.cells #[(bb f.q f.bx).v] 341) (by simp));have e4:=bX (k.ez (f.nb,.cells #[.map (some f.nq)] 149) (by simp));have a4:Below p.heap.size p p.drew:=(Below.refl _ _).drew;have h:=Z (k.au o a4);have P:=Z (MY (bx:=f.bx) (cJ b w) h.j.rd (h.j.bB o (h.j.aj f.q (by simp))) (h.j.bB o (h.j.aj f.nq (by simp))) h.j.b7.2.2.1 h.j.a9 h.j.cI h.j.bD);have a7:c.length+1<=maxLen:=by unfold maxLen;omega
 have a8:(c.length+1)*64<=140737488355328:=by omega
 have b9:(Value.agg #[.string ⟨#[]⟩,U 0,.nilIface,.nilIface,U 0]).cells.size=5:=by rfl
 clear k A;go_in;go_wp2_with fail;refine cx (λu=>u.cell? (Zd f.VB 2)=some (.slice ad c.length E)/\u.cell? (Zd f.rb 0)=some (Zp b.R)/\u.cell? (Zd f.cb 0)=some (bb f.q f.bx).v/\u.cell? (Zd f.nb 0)=some (.map (some f.nq))) (L:=9) (by kernel_rfl) rfl (by kernel_rfl) (by kernel_rfl) ?_ (λx=>?_)
 .go_keep
 refine bH [0,1,2,3,4] ?_;iterate 5 (refine bK (v:=?_) rfl (by kernel_rfl) (λ_ _ _ n=>n) (by rfl) (by assumption) ?_ ?_;rotate_left;focus (intro a y;(try dsimp only at y);go_simp;(try with_reducible rfl));(try simp only[aJ,aK,List.set]))
 refine bI ?_;refine bF 5 (by kernel_rfl) rfl λl j=>?_;(go_simp;go_at_call 256;refine P.j.mono ?_;rintro d2 r ⟨H,⟨s,c3,c1,c6,B,rfl,b2,b4,b0⟩|⟨d3,B,c8,a3,rfl,a5⟩⟩;rotate_left;exact aC (lN (h.j.kp.b4 H (by intro O b5;have:=h.j.ao _ (h.j.aj f.q (by simp));have:=h.j.ao _ (h.j.aj f.nq (by simp));grind [Ad.ab])) h.j.kp (DD B) a3 a5);have g:=Z (h.j.bR o H (by grind [Ad.ab]) b2 b4 b0);obtain⟨f5,f6,f7,f8⟩:=jS g.j.ai;have e8:=D.j _ g.j.kp;have d0:=bX (g.j.ez (f.cb,.cells #[(bb f.q f.bx).v] 341) (by simp));have e5:=bX (g.j.ez (f.nb,.cells #[.map (some f.nq)] 149) (by simp));have e0:=ap g.j.ai;have e3:=Yr I g.j.kp.ar;have e1:=ap (g.j.ez (f.cb,.cells #[(bb f.q f.bx).v] 341) (by simp));have e2:=ap (g.j.ez (f.nb,.cells #[.map (some f.nq)] 149) (by simp));have d8:=g.j.kp.ar;dsimp only[kT,jY,List.append_toArray,YX,YT]);refine j.out _ _ ?_ (λx=>?_)
 .go_keep
 clear j l;(try simp only[aJ,aK,List.set]);refine bF 6 (by kernel_rfl) rfl λl j=>?_;go_simp;refine j.out _ _ ?_ (λx=>?_)
 .go_keep
 clear j l;(try simp only[aJ,aK,List.set]);refine bF 7 (by kernel_rfl) rfl λl j=>?_;(refine step_append_lies _ (by rfl) _ _ _ (by rfl) a.heap.size 446 c0 _ 5 64 underlying365 a6 b6 b7 b8 b9 (by omega) (.slice ad c.length E) c.length (c.flatMap kT) (by rfl) (g.j.h1 _) ⟨r.heap.size,0,none⟩ 1 1 (kT s) (by rfl) (by rfl) (World.news_of_block (cs:=(kT s).toArray) (t:=446) (fr:=(0,0)) (heap_alloc_new r _)) (Mi s) (by omega) a7 a8 (by simp;omega) (r.heap.size+1) (by simp) ?_;intro F a1 c4 b1 m d4 a9;obtain⟨f9,g0,g1,g2⟩:=jS (g.j.hx m);have d6:=sn (g.j.hx m);have d1:=bX (g.j.id m (p:=(f.cb,.cells #[(bb f.q f.bx).v] 341)) (by simp));have e6:=bX (g.j.id m (p:=(f.nb,.cells #[.map (some f.nq)] 149)) (by simp));have e9:c4.cell? (Zd f.rb 0)=some (Zp b.R):=D.j _ (((g.j.kp.B _)).b4 (fs m) (by intro O b5;have a2:=g.j.a6 O (by grind);exact Ya (g.j.ao _ a2.1))));refine j.out _ _ ?_ (λx=>?_)
 .go_keep
 clear j l;(try simp only[aJ,aK,List.set]);refine tk (i:=8) (v:=?_) rfl (by kernel_rfl) (λ_ _ _ n=>n) (by rfl) (by assumption) ?_ ?_;rotate_left
 .intro a y;(try dsimp only at y);go_simp;(try with_reducible rfl)
 (try simp only[aJ,aK,List.set]);refine cR (by kernel_rfl) rfl λl j=>?_;go_simp;refine j.out _ _ ?_;clear j l;(try simp only[aJ,aK,List.set]);have c7:=yU (bs':=[]) o g.j (by intro M d7;grind) ((Below.refl r.heap.size r).alloc (Y4 _) _) b1 m (by simp_all) a9;go_wp2;go_end0;refine Y8 ⟨F::w,(c++[s],(c3,c1)),c6,DE B,rfl,by simp[a0.j],.slice (some ⟨F,0,none⟩) (c.length+1) a1,?_⟩;simp_all
end
section
variable {a:Ad}{nq b:Nat}{w:Zw}
def Sa(args:Array Zv)(a:Zw):(callFunc 255 args).run prog a=.ok (.enter 255 args) a:=by kernel_rfl
def Sh{d:Za}{l:St}(g:Rd a d l w)(b:rQ)(m:w.heap[b.rb]? = some (.cells #[Zp a.R] 145))(n:b.rb ∉ [a.R,a.S,a.N])(j:Zb×Nat):tG (List dN×eS) a d w 8 where
 f:=255
 i2:=#[Zp b.VB,Zp b.rb,Zp b.cb,Zp b.nb]
 a4:=jB d
 J:=vN a d w b j
 fq:=Sa
 rd:=by rintro _ _ _ _ _ ⟨_,_,c⟩;exact c.rd
 kp:=by rintro _ _ _ _ _ ⟨_,_,c⟩;exact c.kp
 b5:=by rintro _ _ _ _ _ _ _ ⟨e,k,c⟩ h i;exact⟨e,k,c.b5 g h i⟩
 call:=by
  grind [RZ]
def rB(a:Za)(b:Zb×Nat):PX eS eg:=aG (lift (iz (ei a 8 (jB a)) ([],([],[])))) λd=>aG (jt (kI a)) λc=>cX ⟨b.1,b.2,d.1,c⟩
def jA(a:Za):PX eS eg:=aG (lift (bY a [118,101,114,115,105,111,110])) λ_=>aG (ha (name a (bb 0 0))) (rB a)
def wg(a:Ad)(l:Za)(w:Zw)(b nq:Nat)(h:Except Mar.aw (eg×eS×St))(f:Ending)(c:Zw):Prop:=
 am [a.R,a.S,a.N,b,nq] w c/\((∃v j g k i e,h=.ok (v,(j,g),k)/\f=.returned (.agg #[Zs v.t,.int .i64 v.m,i,.int .i64 v.num])/\Rd a l k c/\dp b j c/\cQ nq g c/\gG e 446 i v.ag.length (v.ag.flatMap kT)/\bv a.X e c)\/(∃d,h=.error d/\fa w d.no d.m f c))
def tD{M':List Nat}{l:Za}{w1 d:Zw}{e:Except Mar.aw (eg×eS×St)}{f:Mar.aw}{c:Nat}
  (i:am [a.R,a.S,a.N,b,nq] w d) (j:am M' w w1) (k:e=.error f) (g:w1.heap.size<=c) (h:d.heap[c]? = some (.cells #[.int .i64 f.no,.int .i64 f.m] 179)) :
  wg a l w b nq e (.panicked [{ v:=.iface 143 (Zp c),recovered:=false }]) d:=⟨i,Ya ⟨f,k,c,Yz j.ar g,rfl,h⟩⟩
def JI:∀a:List dN,(a.flatMap kT).length=a.length*5:=by
 intro a;induction a<;>grind [List.length_cons]
def Sb{k:Za}{G:St}{bx:Nat}{F:Zc}{y:List (Int×Int)}(h:Rd a k G w)(s:cT a b)(r:cT a nq)(g4:b≠nq)(h0:dp b F w)(f9:bv a.X (bb b bx).bs w)(g2:cQ nq y w) :
  Calls prog 203 #[Zp a.R,(bb b bx).v,.map (some nq)] w (wg a k w b nq (jA k (F,y) G)):=by
 have k1:=iT;have k2:=jr;have d0:gS a k w b bx nq [] [] F y G w:=⟨ak _ _,h,by simp,h0,f9,g2,by simp⟩;have e5:(w.alloc (.cells #[Zp a.R] 145)).heap.size=w.heap.size+1:=by simp
 have J:=(d0.B (.cells #[Zp a.R] 145)).B (.cells #[.string ⟨#[]⟩,.int .i64 0,.slice none 0 0,.int .i64 0] 367);rw[e5]at J;have z:=Z J;have i2:=bX (J.ai (w.heap.size,.cells #[Zp a.R] 145) (by simp)).1;clear d0 J e5;go_in;go_wp2_with fail;refine(ff (cJ a _) _ z.j.rd).mono ?_;rintro K l1 ⟨b3,⟨l2,l4,B,rfl,e0⟩|⟨a6,B,a4,p,rfl,q⟩⟩;rotate_left
 .exact aC (tD (z.j.kp.u (b3.K (by simp))) z.j.kp (bm (cB B)) p q)
 have l:=Z (z.j.b5 h s r b3 e0);have i3:=bX (l.j.ai (w.heap.size,.cells #[Zp a.R] 145) (by simp)).1;clear b3 e0 z i2;go_wp2_with fail;refine(wD (bx:=bx) (cJ a _) (s.ab _) l.j.rd l.j.a9 l.j.cl).mono ?_;rintro K e ⟨b4,⟨d,c6,c7,a1,rfl,e1,e6⟩|⟨a6,a1,a4,p,rfl,q⟩⟩;rotate_left
 .exact aC (tD (l.j.kp.u (b4.K (by simp))) l.j.kp ((aQ (bf B)).trans (bm (sM a1))) p q)
 have f:=Z (l.j.g3 h s r g4 b4 e1 e6);have H:ac (jA k (F,y) G=rB k d (c6,y) c7):=(aQ (bf B)).trans (aQ (sN a1));have P:=(f.j.ai (w.heap.size,.cells #[Zp a.R] 145) (by simp)).1;clear b4 e1 e6 l i3 B a1;dsimp only[fY];go_wp2_with fail;refine(tQ _).mono ?_;rintro K c ⟨g,j,rfl,d9,f7,g6,a7,L,c2⟩;dsimp only[cP.v,bb];have h1:(e.alloc (.cells #[.string ⟨d.1.toArray⟩,.int .i64 d.2,.slice none 0 0,.int .i64 0] 367)).heap.size=e.heap.size+1:=by simp
 have a3:=ap P;have b7:g<c.heap.size:=by
  obtain⟨_,_,_,M⟩:=id a7;grind
 have d6:=ap c2;have k6:=L.size;have b5:=bh [] L;have c1:=(b5.G _ (by omega) (by simp)).trans (aS (w:=e) (o:=.cells #[.string ⟨d.1.toArray⟩,.int .i64 d.2,.slice none 0 0,.int .i64 0] 367) rfl);have e2:=(f.j.rd.a6 (.cells #[.string ⟨d.1.toArray⟩,.int .i64 d.2,.slice none 0 0,.int .i64 0] 367)).i9 L d9 b7;obtain⟨i,m⟩:∃i,i=((c.alloc (.map #[] 0)).alloc (.cells #[(bb g j).v] 341)).alloc (.cells #[.map (some c.heap.size)] 149):=⟨_,rfl⟩;have b9:(c.alloc (.map #[] 0)).heap.size=c.heap.size+1:=by simp
 have c0:((c.alloc (.map #[] 0)).alloc (.cells #[(bb g j).v] 341)).heap.size=c.heap.size+2:=by simp
 have b8:=((e2.a6 (.map #[] 0)).a6 (.cells #[(bb g j).v] 341)).a6 (.cells #[.map (some c.heap.size)] 149);rw[b9,c0,<-m]at b8;have D:am [] c i:=by rw[m];exact(((ak [] c).B _).B _).B _
 have d7:i.heap[c.heap.size]? = some (.map #[] 0):=by
  rw[m];exact((((ak [] _).B _).B _).G _ (by omega) (by simp)).trans (aS rfl)
 have f8:i.heap[c.heap.size+1]? = some (.cells #[(bb g j).v] 341):=by
  rw[m];exact(((ak [] _).B _).G _ (by omega) (by simp)).trans (aS b9.symm)
 have g3:i.heap[c.heap.size+2]? = some (.cells #[.map (some c.heap.size)] 149):=by
  rw[m];exact aS c0.symm
 have c4:am [] e i:=(((ak [] e).B _).u b5).u D;have e4:w.heap.size ∉ [a.R,a.S,a.N]:=by obtain⟨h4,h5,a3,h6⟩:=h.lt;simp;omega
 have c9:ac (eQ (a.ab [w.heap.size+1,w.heap.size]) k e 367 446 5 e.heap.size g c.heap.size [(c.heap.size+1,.cells #[(bb g j).v] 341),(c.heap.size+2,.cells #[.map (some c.heap.size)] 149)] d 0 [] (bb g j).bs [c.heap.size+2,c.heap.size+1,c.heap.size,g,e.heap.size] [] [] (.slice none 0 0) c7 i):=by
  refine⟨c4.K (by simp),b8,?_,?_,?_,(by intro j2 g1;cases g1),?_,d7,(D.G _ (ap c1) (by simp)).trans c1,?_,⟨rfl,Y8 ⟨rfl,rfl⟩⟩,?_⟩
  .simp
  .simp;omega
  .intro l3 h3;simp at h3;omega
  .have f4:dp g [] c:=a7;exact f4.F D (by simp)
  .simp_all
  .intro t O;simp only[bb,Yc]at O;subst O;refine⟨(D.G _ d6 (by simp)).trans c2,?_⟩;have j5:=f.j.kp.ar;have j6:w.heap.size+1<e.heap.size:=ap (f.j.ai (w.heap.size+1,.cells #[.string ⟨#[]⟩,.int .i64 0,.slice none 0 0,.int .i64 0] 367) (by simp)).1;simp[Ad.ab];refine⟨by omega,by omega,by omega,by omega,by omega,by omega,by omega,?_⟩;intro M;have:=h.aY _ M;omega
 have c5:=bX ((c4.G _ a3 (by simp)).trans P);rw[m]at c5;clear b8 e2 d7 f8 g3 c1 a7 c2 L b5 D b7 d6 d9 f7 g6;dsimp only[cP.v,bb]at c5;go_wp2_with fail;rw[show ((c.alloc (.map #[] 0)).alloc (.cells #[.func (.func 251) #[] #[Zp j]] 341)).alloc (.cells #[.map (some c.heap.size)] 149)=i from m.symm];have c8:vN (a.ab [w.heap.size+1,w.heap.size]) k e ⟨e.heap.size,w.heap.size,c.heap.size+1,c.heap.size+2,g,c.heap.size,j⟩ d 0 [c.heap.size+2,c.heap.size+1,c.heap.size,g,e.heap.size] ([],([],[])) c7 i:=⟨rfl,_,c9.j⟩;refine(wu 8 (Sh f.j.rd ⟨e.heap.size,w.heap.size,c.heap.size+1,c.heap.size+2,g,c.heap.size,j⟩ P e4 d) (by omega) c8).mono ?_;rintro K i9 (⟨d1,⟨u,l0,k8⟩,l5,a2,rfl,k7,b6,d5,k9,a8⟩|⟨a6,a2,b6,a4,p,rfl,q⟩);rotate_left
 .exact aC (tD (f.j.kp.u (b6.K (by simp[Ad.ab]))) f.j.kp (H.j.trans (bm (cB (vu a2)))) p q)
 dsimp only at d5 a8;have k5:u.length<=8:=by omega
 clear d5 b6;have d3:ew ((a.ab [w.heap.size+1,w.heap.size]).ab d1) a:=⟨rfl,rfl,rfl,rfl⟩;have n:am [a.R,a.S,a.N] e i9:=a8.kp;have i4:=bX ((n.G _ a3 e4).trans P);have g5:nq ∉ [a.R,a.S,a.N]:=by simp;exact⟨r.2.1,r.2.2.1,r.2.2.2.1⟩
 have g7:b ∉ [a.R,a.S,a.N]:=by simp;exact⟨s.2.1,s.2.2.1,s.2.2.2.1⟩
 have d8:=f.j.bD.F n g5;have g0:cT ((a.ab [w.heap.size+1,w.heap.size]).ab d1) nq:=(r.ab _).ab _;have x:=Z a8;clear c9 c8 c5 m c4 h1 b9 c0;go_wp2_with fail;refine(Aa d3 x.j.rd g0 d8).mono ?_;rintro K j0 ⟨A,⟨C,e7,e9,c3,rfl,e3,d4⟩|⟨a6,c3,a4,p,rfl,q⟩⟩;rotate_left
 .exact aC (tD ((f.j.kp.u (n.K (by simp))).u (A.K (by simp))) (f.j.kp.u (n.K (M':=[a.R,a.S,a.N,b,nq]) (by simp))) (H.j.trans ((aQ (bf (pL a2))).trans (bm (uW c3)))) p q)
 have j9:=h.lt.2.1;have k0:=h.aY _ r.1;have b7:=h.aY _ s.1;have a9:=(f.j.ai (w.heap.size+1,.cells #[.string ⟨#[]⟩,.int .i64 0,.slice none 0 0,.int .i64 0] 367) (by simp)).1;have h7:=ap a9;have f5:w.heap.size+1 ∉ [a.R,a.S,a.N]:=by obtain⟨h4,h5,a3,h6⟩:=h.lt;grind
 have b0:=(n.G _ h7 f5).trans a9;have b1:=(A.G _ (ap b0) (by grind)).trans b0;have b2:=(A.G _ (ap x.j.ai) (by simp;omega)).trans x.j.ai;obtain⟨h8,h9,i0,i1⟩:=jS b1;have j7:=sn b1;obtain⟨i5,i6,i7,i8⟩:=jS b2;have j8:=sn b2;obtain⟨ad,a5,rfl⟩:=x.j.fe;have f0:ac (jA k (F,y) G=.ok (⟨d.1,d.2,u,C⟩,(c6,e7),e9)):=H.j.trans ((aQ (bf (pL a2))).trans ((aQ (uX c3)).trans rfl));have k3:¬e.heap.size=w.heap.size+1:=by omega
 have k4:¬w.heap.size+1=e.heap.size:=by omega
 have I:=Z A;have f2:=Z e3;have f1:=Z d4;clear A e3 d4 H a9 b0 d8 i4 b1 b2;dsimp only[hY];go_wp2;have E:=((((ak [e.heap.size,w.heap.size+1] j0).ay (p:=⟨e.heap.size,3,none⟩) (by simp) (.int .i64 C)).ay (p:=⟨w.heap.size+1,0,none⟩) (by simp) (.string ⟨d.1.toArray⟩)).ay (p:=⟨w.heap.size+1,1,none⟩) (by simp) (.int .i64 d.2)).ay (p:=⟨w.heap.size+1,2,none⟩) (by simp) (.slice ad u.length a5) |>.ay (p:=⟨w.heap.size+1,3,none⟩) (by simp) (.int .i64 C);obtain⟨f3,h2,f6⟩:=x.j.i6 (by omega) (JI u) (by simp_all);have g9:=h.b4 d3 f2.j E (by
  intro j1 a0;simp only[Yg,List.not_mem_nil,or_false]at a0;rcases a0 with rfl|rfl
  .exact⟨by omega,Yf _ (x.j.aj _ (by simp))⟩
  grind [Ad.ab])
 have g8:=jj h.aj (jj f.j.rd.aj g9);refine bodyPost_ret (v:=.agg #[.string ⟨d.1.toArray⟩,.int .i64 d.2,.slice ad u.length a5,.int .i64 C]) (by simp[results,results203,go_sem,h8,h9,i0,i1,i5,i6,i7,i8]) rfl ⟨?_,Y8 ⟨⟨d.1,d.2,u,C⟩,c6,e7,e9,.slice ad u.length a5,f3,f0.j,rfl,g8,?_,?_,h2,?_⟩⟩
 .refine(((f.j.kp.u (n.K (by simp))).u (I.j.K (by simp))).b4 E ?_);intro j1 a0;simp only[Yg,List.not_mem_nil,or_false]at a0;omega
 .exact((f.j.a9.F n g7).F I.j (by simp_all)).F E (by grind)
 .exact f1.j.F E (by grind)
 .intro t O;obtain⟨d2,j3,j4⟩:=f6 t O;have e8:=ap d2;refine⟨(E.G _ (Yr e8 I.j.ar) (by grind)).trans ((I.j.G _ e8 (by simp;omega)).trans d2),?_⟩;intro M;have:=h.aY _ M;omega
end
section
variable {b g:Ad}{f:Mar.aw}{j:List (Int×Int)}{p:Int->Bool}{e:List eg}{i:eS}{d:Zw}{c h:St}
def Rd.nU{m:Za}{h:Zw}(a:Rd b m c d)(f:am [b.P] d h)(g:cQ b.P j h):Rd b m { c with O:=j } h:=by
 obtain⟨t,u,J,K⟩:=a.lt;obtain⟨y,z,A,B,C,D⟩:=a.b7;have I:d.heap[b.P]? = some (.map (c.O.mapIdx λr p=>(⟨U p.1,U p.2,r⟩:MapEntry)).toArray c.O.length):=a.pr;have E:∀k v,d.cell? (Zd k 0)=some v->k≠b.P:=by
  grind [World.cell?]
 obtain⟨⟨L,F⟩,⟨_,_,G⟩,⟨_,_,H⟩⟩:=id a.gl;refine⟨(f.G _ t (by simp_all)).trans a.me,?_,a.nm.F f (by simp;exact a.aj.2.2.2) (by simp_all),a.aj,λi q=>Yr (a.aY i q) f.ar,g,a.np,a.gl.F f (by simp_all) (by simp_all) (by simp_all),a.ev,a.bp⟩;obtain⟨o,e⟩:=a.sc;refine⟨o,?_⟩;have l:=f.G _ u (by simp_all);show match c.nx with|some i=>_|none=>_
 cases g:c.nx with
 |some i=>rw[g]at e;exact l.trans e
 |none=>rw[g]at e;obtain⟨s,x,w,n,e⟩:=e;exact⟨s,x,w,n,l.trans e⟩
def kQ(d:Za)(p:Int->Bool):PM Int:=λc=>match fM d p c.O c with
 |.ok (b,a,h)=>.ok (b,{ h with O:=a })
 |.error f=>.error f
def xJ{d:Za}{b:Int}{a:List (Int×Int)}(e:fM d p c.O c=.ok (b,a,h)):kQ d p c=.ok (b,{ h with O:=a }):=by simp only[kQ,e]
theorem uU{a:Za}(b:fM a p c.O c=.error f):kQ a p c=.error f:=by simp only[kQ,b]
def LS{o:Za}{v:Zv}(k:Rd b o c d)(y:gD b.X v p d) :
  Calls prog 250 #[Zp b.R,.map (some b.P),v] d (dx [b.S,b.P] b o d (kQ o p c) hY):=by
 have t:=Z (DC k y);have q:cQ b.P c.O d:=k.pr;have z:b.P ∉ [b.S]:=by simp;exact λj=>k.b7.2.2.2.2.1 j.symm
 go_in;go_wp2_with fail;refine t.j.mono ?_;rintro j E ⟨e,⟨B,G,h,rfl,A⟩|⟨f,h,x,l,rfl,m⟩⟩;rotate_left
 .exact aC (ee (e.K (by simp)) (ak [] _) (uU (bm (cB h))) l m)
 have r:=q.F e z;have i:=Z (e.K (M':=[b.S,b.P]) (by simp));clear e q;go_wp2_with fail;refine(Di _ _ r).mono ?_;rintro j F ⟨g,⟨C,D,n,rfl,rfl,s⟩|⟨f,n,x,l,rfl,m⟩⟩;rotate_left
 .exact aC (ee (i.j.u (g.K (by simp))) i.j (uU ((aQ (bf h)).trans (bm (rh n)))) l m)
 have w:=Z (A.nU g s);have u:=Z (i.j.u (g.K (M':=[b.S,b.P]) (by simp)));clear r g s;go_wp2;go_ret;exact fl (a:=B.1) u.j (xJ ((aQ (bf h)).trans (aQ (rj n)))) rfl w.j
def mf(a:Za):PM Int:=aF (bY a [61]) λ_=>aF (kQ a (df 0 4294967295)) λb=>aF (bY a [59]) λ_=>ret b
def Hq{q:Za}(y:Rd b q c d) :
  Calls prog 204 #[Zp b.R,.map (some b.P)] d (dx [b.S,b.P] b q d (mf q c) hY):=by
 go_in;go_wp2_with fail;refine(qI _ y).mono ?_;rintro k D ⟨n,⟨H,J,h,rfl,x⟩|⟨f,h,r,e,rfl,g⟩⟩;rotate_left
 .exact aC (ee (n.K (by simp)) (ak [] _) (bl h) e g)
 have s:=n.K (M':=[b.S,b.P]) (by simp);clear n;go_wp2_with fail;refine(pZ _ _ _).mono ?_;rintro k E ⟨v,rfl,m,u⟩;have t:=u b.X x.aY;have z:=x.au m;have i:=s.u (bh _ m);clear u m s;go_wp2_with fail;refine(LS z t).mono ?_;rintro k F ⟨o,⟨C,K,j,rfl,A⟩|⟨f,j,r,e,rfl,g⟩⟩;rotate_left
 .exact aC (ee (i.u o) i ((aE h).trans (bl j)) e g)
 have l:=i.u o;clear t i o;dsimp only[hY];go_wp2_with fail;refine(qI _ A).mono ?_;rintro k G ⟨w,⟨I,L,p,rfl,B⟩|⟨f,p,r,e,rfl,g⟩⟩;rotate_left
 .exact aC (ee (l.u (w.K (by simp))) l ((aE h).trans ((aE j).trans (bl p))) e g)
 go_wp2;go_ret;exact fl (a:=C) (l.u (w.K (by simp))) ((aE h).trans ((aE j).trans (aE p))) rfl B
def Hr(a:ew g b){e:Za}(f:Rd g e c d) :
  Calls prog 204 #[Zp b.R,.map (some b.P)] d (dx [b.S,b.P] g e d (mf e c) hY):=by
 have:=Hq f;rw[a.1,a.2.1,a.2.2.2]at this;exact this
def Je:(prog.info? 367).map (λa=>(a.zero,a.size,a.bytes))=some (some (.agg #[.string ⟨#[]⟩,U 0,.slice none 0 0,U 0]),4,56):=by kernel_rfl
def iV(d:Za):PX (List eg×eS) Unit:=λp c=>match jA d p.2 c with
 |.ok (a,b,h)=>.ok ((),(p.1++[a],b),h)
 |.error f=>.error f
def BY{d:Za}{b:eS}{a:eg}(f:jA d i c=.ok (a,b,h)):iV d (e,i) c=.ok ((),(e++[a],b),h):=by simp only[iV,f]
def BX{a:Za}(b:jA a i c=.error f):iV a (e,i) c=.error f:=by simp only[iV,b]
structure rN where
 D:Nat
 db:Nat
 rb:Nat
 cb:Nat
 nb:Nat
 q:Nat
 nq:Nat
 bx:Nat
abbrev rN.E(a:rN):Zo:=[(a.db,.cells #[Zp a.D] 233),(a.cb,.cells #[(bb a.q a.bx).v] 341),(a.nb,.cells #[.map (some a.nq)] 149)]
abbrev mB(p:eg×Zv):Zl:=jY p.1.t p.1.m++[p.2,U p.1.num]
def uZ(b:Ad)(l:Za)(d:Zw)(a:rN)(j:Zb×Nat)(i:Nat)(h:List Nat)(p:List eg×eS)(c:St)(m:Zw):Prop:=p.1.length=i/\
 ∃(k:Zv) (f:Zl) (g:Zo),eQ b l d 267 367 4 a.D a.q a.nq a.E j p.1.length ((p.1.zip f).flatMap mB) ((bb a.q a.bx).bs++g) h p.2.1 p.2.2 k c m/\f.length=p.1.length/\
  ∀e (n:e<p.1.length) (o:e<f.length),gG g 446 f[e] p.1[e].ag.length (p.1[e].ag.flatMap kT)
def Sd(i:ew g b){e:Za}{a bx nq:Nat}{f:Zc}(h:Rd g e c d)(o:cT g a)(m:cT g nq)(n:a≠nq)(p:dp a f d)(k:bv g.X (bb a bx).bs d)(l:cQ nq j d) :
  Calls prog 203 #[Zp b.R,(bb a bx).v,.map (some nq)] d (wg g e d a nq (jA e (f,j) c)):=by
 have:=Sb h o m n p k l;rw[i.1]at this;exact this
def Mj(f:eg)(c:Option Addr)(d e:Nat):∀b∈mB (f,.slice c d e),b.oneCell'=true:=by
 intro b a;simp at a;rcases a with rfl|rfl|rfl|rfl<;>rfl
theorem Nf{F:Za}{B:Zw}{a:rN}{b8:Zb×Nat}{a7:Nat}{G:List Nat}{f4:St}(y:Rd b F f4 d)(b7:d.heap[a.rb]? = some (.cells #[Zp b.R] 145))(e2:a.rb ∉ [b.R,b.S,b.N])(b4:a7<1000)(x:uZ b F d a b8 a7 G (e,i) c B) :
  Calls prog 202 #[Zp a.db,Zp a.rb,Zp a.cb,Zp a.nb] B (jE b d (uZ b F d a b8 (a7+1)) (iV F (e,i) c)):=by
 obtain⟨a2,i0,t,c6,l,z,a0⟩:=x;obtain⟨f1,j⟩:=i;dsimp only at a2 l z a0;have c4:=Z a2;have c1:=Z z;have c2:=Z a0;have g6:e.length<1000:=by omega
 clear a2 z a0;obtain⟨ad,H,rfl⟩:=l.fe;obtain⟨e9,d5,e5,e6,e7⟩:=info_parts Je;have b6:=ap b7;have a5:=λ(v:Zw) (b4:am [b.R,b.S,b.N] d v)=>bX ((b4.G _ b6 e2).trans b7);have a8:=Z a5;obtain⟨i1,i2,i3,i4⟩:=jS l.ai;have h7:=a5 _ l.kp;have g1:=bX (l.ez (a.db,.cells #[Zp a.D] 233) (by simp));have f7:=bX (l.ez (a.cb,.cells #[(bb a.q a.bx).v] 341) (by simp));have h4:=bX (l.ez (a.nb,.cells #[.map (some a.nq)] 149) (by simp));have d3:Below B.heap.size B B.drew:=(Below.refl _ _).drew;have h:=Z (l.au y d3);have c0:=Z (Sd (bx:=a.bx) (cJ b G) h.j.rd (h.j.bB y (h.j.aj a.q (by simp))) (h.j.bB y (h.j.aj a.nq (by simp))) h.j.b7.2.2.1 h.j.a9 (λp A=>h.j.cI p (Yf _ A)) h.j.bD);have d6:e.length+1<=maxLen:=by unfold maxLen;omega
 have d7:(e.length+1)*56<=140737488355328:=by omega
 have e8:(Value.agg #[.string ⟨#[]⟩,U 0,.slice none 0 0,U 0]).cells.size=4:=by rfl
 clear l a5;go_in;go_wp2_with fail;refine cx (λC=>C.cell? (Zd a.D 2)=some (.slice ad e.length H)/\C.cell? (Zd a.db 0)=some (Zp a.D)/\C.cell? (Zd a.rb 0)=some (Zp b.R)/\C.cell? (Zd a.cb 0)=some (bb a.q a.bx).v/\C.cell? (Zd a.nb 0)=some (.map (some a.nq))) (L:=13) (by kernel_rfl) rfl (by kernel_rfl) (by kernel_rfl) ?_ (λK=>?_)
 .go_keep
 refine bH [0,1,2,3,4,5,6,7] ?_;iterate 8 (refine bK (v:=?_) rfl (by kernel_rfl) (λ_ _ _ x=>x) (by rfl) (by assumption) ?_ ?_;rotate_left;focus (intro d M;(try dsimp only at M);go_simp;(try with_reducible rfl));(try simp only[aJ,aK,List.set]))
 refine bI ?_;refine bF 8 (by kernel_rfl) rfl λm k=>?_;(go_simp;go_at_call 203;refine c0.j.mono ?_;rintro g4 E ⟨b5,⟨u,f2,f0,f5,c9,b0,a6,rfl,e1,e3,d9,a4,b2⟩|⟨f,a6,a9,d2,rfl,d4⟩⟩;rotate_left;exact aC (lN (h.j.kp.b4 b5 (by intro b9 e4;have:=h.j.ao _ (h.j.aj a.q (by simp));have:=h.j.ao _ (h.j.aj a.nq (by simp));grind [Ad.ab])) h.j.kp (BX a6) d2 d4);have g:=Z (h.j.bR y b5 (by grind [Ad.ab]) e1 e3 d9);obtain⟨o,s,r,rfl⟩:∃a a9 c7,c9=.slice a a9 c7:=(by rcases a4 with⟨rfl,_⟩|⟨I,H,g0,rfl,_⟩<;>exact⟨_,_,_,rfl⟩);have c3:=Z b2;have c5:=Z a4;clear b2 a4;obtain⟨i5,i6,i7,i8⟩:=jS g.j.ai;have h8:=a8.j _ g.j.kp;have P:=g.j.ez (a.db,.cells #[Zp a.D] 233) (by simp);have O:=g.j.ez (a.cb,.cells #[(bb a.q a.bx).v] 341) (by simp);have a3:=g.j.ez (a.nb,.cells #[.map (some a.nq)] 149) (by simp);have g2:=bX P;have f8:=bX O;have h5:=bX a3;have g9:=ap g.j.ai;have h3:=Yr b6 g.j.kp.ar;have h1:=ap P;have h0:=ap O;have h2:=ap a3;have g8:=g.j.kp.ar;clear P O a3);refine k.out _ _ ?_ (λK=>?_)
 .go_keep
 clear k m;(try simp only[aJ,aK,List.set]);refine bF 9 (by kernel_rfl) rfl λm k=>?_;go_simp;refine k.out _ _ ?_ (λK=>?_)
 .go_keep
 clear k m;(try simp only[aJ,aK,List.set]);refine bF 10 (by kernel_rfl) rfl λm k=>?_;(refine step_append_lies _ (by rfl) _ _ _ (by rfl) d.heap.size 367 e9 _ 4 56 underlying265 d5 e5 e6 e7 e8 (by omega) (.slice ad e.length H) e.length ((e.zip t).flatMap mB) (by rfl) (g.j.h1 _) ⟨E.heap.size,0,none⟩ 1 1 (mB (u,.slice o s r)) (by rfl) (by rfl) (World.news_of_block (cs:=(mB (u,.slice o s r)).toArray) (t:=367) (fr:=(0,0)) (heap_alloc_new E _)) (Mj u o s r) (by omega) d6 d7 (by simp;omega) (E.heap.size+1) (by simp) ?_;intro I c8 f3 e0 n d1 d8;obtain⟨i9,j0,j1,j2⟩:=jS (g.j.hx n);have g7:=sn (g.j.hx n);have g3:=bX (g.j.id n (p:=(a.db,.cells #[Zp a.D] 233)) (by simp));have f9:=bX (g.j.id n (p:=(a.cb,.cells #[(bb a.q a.bx).v] 341)) (by simp));have h6:=bX (g.j.id n (p:=(a.nb,.cells #[.map (some a.nq)] 149)) (by simp));have h9:f3.cell? (Zd a.rb 0)=some (Zp b.R):=a8.j _ (((g.j.kp.B _)).b4 (fs n) (by intro b9 e4;have J:=g.j.a6 b9 (by grind);exact Ya (g.j.ao _ J.1))));refine k.out _ _ ?_ (λK=>?_)
 .go_keep
 clear k m;(try simp only[aJ,aK,List.set]);refine bH [11,12] ?_;iterate 2 (refine bK (v:=?_) rfl (by kernel_rfl) (λ_ _ _ x=>x) (by rfl) (by assumption) ?_ ?_;rotate_left;focus (intro d M;(try dsimp only at M);go_simp;(try with_reducible rfl));(try simp only[aJ,aK,List.set]))
 refine bI ?_;refine cR (by kernel_rfl) rfl λm k=>?_;go_simp;refine k.out _ _ ?_;clear k m;(try simp only[aJ,aK,List.set]);have f6:=yU (bs':=b0) y g.j c3.j ((Below.refl E.heap.size E).alloc (Y4 _) _) e0 n (by simpa using d1) d8;go_wp2;go_end0;have z:=c1.j;refine Y8 ⟨I::G,(e++[u],(f2,f0)),f5,BY a6,rfl,by simp[c4.j],.slice (some ⟨I,0,none⟩) (e.length+1) c8,t++[.slice o s r],c6++b0,?_,by grind,?_⟩
 .have b1:((e++[u]).zip (t++[.slice o s r])).flatMap mB=(e.zip t).flatMap mB++mB (u,.slice o s r):=by
   rw[List.zip_append z.symm,YK];simp
  grind
 .intro w J g5;dsimp only at J ⊢;by_cases b3:w<e.length
  .have a1:w<t.length:=by omega
   rw[List.getElem_append_left a1,List.getElem_append_left b3];exact(c2.j w b3 a1).K (λp A=>Yf _ A)
  .have a1:w=e.length:=by grind
   rw[List.getElem_append_right (by omega),List.getElem_append_right (by omega)];have b1:w-e.length=0:=by omega
   have d0:w-t.length=0:=by omega
   simp only[b1,d0,List.getElem_cons_zero];exact c5.j.K (λp A=>Ym _ A)
end
def Ng(args:Array Zv)(a:Zw):(callFunc 202 args).run prog a=.ok (.enter 202 args) a:=by kernel_rfl
def MD{A:Ad}{c:Za}{p:St}{d:Zw}(i:Rd A c p d)(a:rN)(q:d.heap[a.rb]? = some (.cells #[Zp A.R] 145))(r:a.rb ∉ [A.R,A.S,A.N])(n:Zb×Nat):tG (List eg×eS) A c d 4 where
 f:=202
 i2:=#[Zp a.db,Zp a.rb,Zp a.cb,Zp a.nb]
 a4:=iV c
 J:=uZ A c d a n
 fq:=Ng
 rd:=by rintro _ _ _ _ _ ⟨_,_,_,_,b,_⟩;exact b.rd
 kp:=by rintro _ _ _ _ _ ⟨_,_,_,_,b,_⟩;exact b.kp
 b5:=by rintro _ _ _ _ _ _ _ ⟨h,o,g,e,b,j,k⟩ l m;exact⟨h,o,g,e,b.b5 i l m,j,k⟩
 call:=by
  grind [Nf]
def pI(a:Za)(b:Zb×Nat):PM aB:=aF (iz (ei a 4 (iV a)) ([],([],[]))) λd=>aF (mf a) λc=>ret (.prog b.1 b.2 d.1 c)
def ia(a:Za)(c:Nat):PM aB:=aF (λb=>dS b.O.length 4 c b) λ_=>aF (gf a) (pI a)
def JJ:∀a:List (eg×Zv),(a.flatMap mB).length=a.length*4:=by
 intro a;induction a<;>grind
def Nh{A:Ad}{u:Za}{f:St}(y:Nat){w:Zw}(n:Rd A u f w) :
  Calls prog 124 #[Zp A.R,U y] w (ga [A.R,A.S,A.N,A.P] A u w (ia u y f)):=by
 have j0:=iT;have j1:=jr;have a7:=n.a6 (.cells #[Zp A.R] 145);have b1:=aS (w:=w) (o:=.cells #[Zp A.R] 145) rfl;obtain⟨k2,k3,k4,k5⟩:=n.lt;have i1:=bX b1;have i7:(w.alloc (.cells #[Zp A.R] 145)).cell? (Zd A.R 4)=some (.map (some A.P)):=a7.al.2.2.2.2.1;have j6:=BL (show cQ A.P f.O (w.alloc (.cells #[Zp A.R] 145))from a7.pr);go_in;go_wp2_with fail;by_cases d2:4<=f.O.length
 .refine(pJ _ _ _ _ (by omega)).mono ?_;rintro g h6 ⟨⟨p,r,rfl,s⟩,c7⟩;exact aC (dr (f:=⟨5,y⟩) (((ak _ w).B _).u (bh _ c7)) ((ak [] w).B _) (bl (show dS f.O.length 4 y f=_ from Y9 d2)) r s)
 have d9:(λf:St=>dS f.O.length 4 y f) f=.ok ((),f):=Y2 d2;refine(pK _ _ _ _ (by omega)).mono ?_;rintro g h6 ⟨rfl,rfl⟩;go_wp2_with fail;refine(Bs (ex A _) a7).mono ?_;rintro g a ⟨a4,⟨c,b7,b2,rfl,a8⟩|⟨a2,b2,p,r,rfl,s⟩⟩;rotate_left
 .exact aC (dr (((ak _ w).B _).u (a4.K (by simp))) ((ak [] w).B _) ((aE d9).trans (bl b2)) r s)
 have E:am [A.R,A.S,A.N] w a:=((ak _ w).B _).u (a4.K (by simp));have H:=(a4.G _ (ap b1) (by grind)).trans b1;have b4:=ap H;have a1:ac (ia u y f=pI u c b7):=(aE d9).trans (aE b2);have b0:w.heap.size ∉ [A.R,A.S,A.N]:=by grind
 dsimp only[fY];go_wp2_with fail;obtain⟨x,G⟩:∃x,x=(a.alloc (.cells #[.string ⟨c.1.toArray⟩,U c.2,.slice none 0 0,U 0] 267)).alloc (.cells #[Zp a.heap.size] 233):=⟨_,rfl⟩;rw[<-G];have d6:(a.alloc (.cells #[.string ⟨c.1.toArray⟩,U c.2,.slice none 0 0,U 0] 267)).heap.size=a.heap.size+1:=by simp
 have d4:=(a8.a6 (.cells #[.string ⟨c.1.toArray⟩,U c.2,.slice none 0 0,U 0] 267)).a6 (.cells #[Zp a.heap.size] 233);rw[d6,<-G]at d4;have j9:x.heap.size=a.heap.size+2:=by simp_all
 have g4:am [] a x:=by rw[G];exact((ak [] a).B _).B _
 have c4:x.heap[a.heap.size]? = some (.cells #[.string ⟨c.1.toArray⟩,U c.2,.slice none 0 0,U 0] 267):=by
  rw[G];exact(((ak [] _).B _).G _ (by omega) (by simp)).trans (aS rfl)
 have c9:x.heap[a.heap.size+1]? = some (.cells #[Zp a.heap.size] 233):=by
  rw[G];exact aS d6.symm
 refine(tQ _).mono ?_;rintro g b ⟨e,j,rfl,g9,i6,j8,c6,a3,e0⟩;dsimp only[cP.v,bb];have g6:e<b.heap.size:=by
  obtain⟨_,_,_,t⟩:=id c6;grind
 have g7:=ap e0;have k0:=a3.size;have a5:=bh [] a3;have h0:=d4.i9 a3 g9 g6;have c5:=(a5.G _ (ap c4) (by simp)).trans c4;have d0:=(a5.G _ (ap c9) (by simp)).trans c9;obtain⟨h,q⟩:∃h,h=((b.alloc (.map #[] 0)).alloc (.cells #[(bb e j).v] 341)).alloc (.cells #[.map (some b.heap.size)] 149):=⟨_,rfl⟩;have d7:(b.alloc (.map #[] 0)).heap.size=b.heap.size+1:=by simp
 have d8:((b.alloc (.map #[] 0)).alloc (.cells #[(bb e j).v] 341)).heap.size=b.heap.size+2:=by simp
 have d5:=((h0.a6 (.map #[] 0)).a6 (.cells #[(bb e j).v] 341)).a6 (.cells #[.map (some b.heap.size)] 149);rw[d7,d8,<-q]at d5;have I:am [] b h:=by rw[q];exact(((ak [] b).B _).B _).B _
 have g8:h.heap[b.heap.size]? = some (.map #[] 0):=by
  rw[q];exact((((ak [] _).B _).B _).G _ (by omega) (by simp)).trans (aS rfl)
 have i8:h.heap[b.heap.size+1]? = some (.cells #[(bb e j).v] 341):=by
  rw[q];exact(((ak [] _).B _).G _ (by omega) (by simp)).trans (aS d7.symm)
 have j2:h.heap[b.heap.size+2]? = some (.cells #[.map (some b.heap.size)] 149):=by
  rw[q];exact aS d8.symm
 have e2:am [] a h:=(g4.u a5).u I;have f1:ac (eQ (A.ab [w.heap.size]) u a 267 367 4 a.heap.size e b.heap.size [(a.heap.size+1,.cells #[Zp a.heap.size] 233),(b.heap.size+1,.cells #[(bb e j).v] 341),(b.heap.size+2,.cells #[.map (some b.heap.size)] 149)] c 0 [] ((bb e j).bs++[]) [b.heap.size+2,b.heap.size+1,b.heap.size,e,a.heap.size+1,a.heap.size] [] [] (.slice none 0 0) b7 h):=by
  refine⟨e2.K (by simp),d5,?_,?_,?_,(by intro i4 g3;cases g3),?_,g8,(I.G _ (ap c5) (by simp)).trans c5,?_,⟨rfl,Y8 ⟨rfl,rfl⟩⟩,?_⟩
  .simp
  .simp;omega
  .intro l6 h5;simp at h5;omega
  .have f8:dp e [] b:=c6;exact f8.F I (by simp)
  .intro i d;simp only[Yg,List.not_mem_nil,or_false]at d;rcases d with rfl|rfl|rfl
   .exact(I.G _ (ap d0) (by simp)).trans d0
   all_goals omega
  .intro i d;simp only[bb,YH,Yc]at d;subst d;refine⟨(I.G _ g7 (by simp)).trans e0,?_⟩;simp[Ad.ab];refine⟨by omega,by omega,by omega,by omega,by omega,by omega,by omega,?_⟩;intro t;have:=n.aY _ t;omega
 have e4:=bX ((e2.G _ b4 (by simp)).trans H);rw[q]at e4;dsimp only[cP.v,bb]at e4;go_wp2_with fail;rw[show ((b.alloc (.map #[] 0)).alloc (.cells #[.func (.func 251) #[] #[Zp j]] 341)).alloc (.cells #[.map (some b.heap.size)] 149)=h from q.symm];have e9:uZ (A.ab [w.heap.size]) u a ⟨a.heap.size,a.heap.size+1,w.heap.size,b.heap.size+1,b.heap.size+2,e,b.heap.size,j⟩ c 0 [b.heap.size+2,b.heap.size+1,b.heap.size,e,a.heap.size+1,a.heap.size] ([],([],[])) b7 h:=⟨rfl,_,[],[],f1.j,rfl,by simp⟩;refine(wu 4 (MD (A:=A.ab [w.heap.size]) a8 ⟨a.heap.size,a.heap.size+1,w.heap.size,b.heap.size+1,b.heap.size+2,e,b.heap.size,j⟩ H b0 c) (by omega) e9).mono ?_;rintro g l (⟨b9,⟨e3,l1,k6⟩,l7,M,rfl,k1,d3,g5,b5,f4,f2,k,c8,d1⟩|⟨a2,M,d3,p,r,rfl,s⟩);rotate_left
 .exact aC (dr ((E.K (by simp)).u (d3.K (by simp[Ad.ab]))) E (a1.j.trans (bl (vu M))) r s)
 dsimp only at g5 k c8 d1;have j7:e3.length<=4:=by omega
 have c3:ew ((A.ab [w.heap.size]).ab b9) A:=⟨rfl,rfl,rfl,rfl⟩;have F:am [A.R,A.S,A.N] a l:=k.kp;have l0:=bX ((F.G _ b4 b0).trans H);have i3:=bX (k.ez (a.heap.size+1,.cells #[Zp a.heap.size] 233) (by simp));have h8:l.cell? (Zd A.R 4)=some (.map (some A.P)):=k.rd.al.2.2.2.2.1;have K:=Z k;have b8:=Z c8;have e8:=Z d1;have g0:Below l.heap.size l l.drew:=(Below.refl _ _).drew;have e7:=Z (Hr c3 (k.rd.au g0));go_wp2_with fail;have j3:¬a.heap.size=A.R:=by omega
 have j4:¬a.heap.size=w.heap.size:=by omega
 have j5:¬a.heap.size=a.heap.size+1:=by omega
 have f9:∀m,am [A.S,A.P] l.drew m->m.cell? ⟨a.heap.size+1,0,none⟩=some (Zp a.heap.size)/\m.cell? (Zd w.heap.size 0)=some (Zp A.R)/\
   m.heap[a.heap.size]? = some (.cells #[.string ⟨c.1.toArray⟩,U c.2,b5,U 0] 267):=by
  intro m z;have a6:=((ak _ l).aq).u z;have c0:=k.ez (a.heap.size+1,.cells #[Zp a.heap.size] 233) (by simp);have c1:=(F.G _ b4 b0).trans H;exact⟨bX ((a6.G _ (ap c0) (by grind)).trans c0),bX ((a6.G _ (ap c1) (by grind)).trans c1),(a6.G _ (ap k.ai) (by grind)).trans k.ai⟩
 have e5:=Z f9;go_region_held2 (λb6=>b6.cell? ⟨a.heap.size+1,0,none⟩=some (Zp a.heap.size)/\b6.cell? (Zd w.heap.size 0)=some (Zp A.R)/\b6.cell? (Zd A.R 4)=some (.map (some A.P))) (go_keep)
  (first
   |(go_at_call 204;refine e7.j.mono ?_;rintro g m ⟨z,⟨O,h7,b3,rfl,a9⟩|⟨a2,b3,p,r,rfl,s⟩⟩;rotate_left;exact aC (dr (((E.K (by simp)).u (F.K (by simp))).u (((ak _ l).aq).u (z.K (by simp)))) (E.u F) (a1.j.trans ((aE (pL M)).trans (bl b3))) r s);obtain⟨i2,i0,L⟩:=e5.j m z;have h9:m.cell? ⟨A.R,4,none⟩=some (.map (some A.P)):=a9.al.2.2.2.2.1;obtain⟨l2,l3,l4,l5⟩:=jS L;have i9:=sn L;have B:=Z (((ak [A.S,A.P] l).aq).u z);have f0:=Z a9;have e6:=Z L;clear z a9 L;dsimp only[hY]))
 all_goals
  go_wp2
  go_ret
  have a0:=(ak [a.heap.size] m).ay (p:=⟨a.heap.size,3,none⟩) (by simp) (U O)
  obtain⟨f3,h3,g2⟩:=K.j.i6 (by omega) (by rw[JJ,List.length_zip,b8.j,Nat.min_self]) (by intro n;rw[Yv.1 n];rfl)
  have f7:a.heap.size∈((A.ab [w.heap.size]).ab b9).X:=Yf _ (K.j.aj _ (by simp))
  have h2:=n.b4 c3 f0.j a0 (by
   grind)
  have h1:=jj n.aj (jj (A:=A.ab [w.heap.size]) a8.aj h2)
  have g1:=bu (i:=3) e6.j (U O)
  have c2:∀p,w.heap.size<=p->p ∉ A.X:=λp c7 t=>by have:=n.aY _ t;omega
  refine⟨?_,Y8 ⟨.prog c.1 c.2 e3 O,h7,a.heap.size,(a.heap.size,.cells #[.string ⟨c.1.toArray⟩,U c.2,b5,U O] 267)::(f3++f2),a1.j.trans ((aE (pL M)).trans ((aE b3).trans rfl)),rfl,h1,⟨b5,f4,Yb,b8.j,?_,?_⟩,?_⟩⟩
  .refine(((E.K (by simp)).u (F.K (by simp))).u (B.j.K (by simp))).b4 a0 ?_;grind
  .exact h3.K (λi d=>Y5 _ (Yf _ d))
  .intro e1 f5 f6;exact(e8.j e1 f5 f6).K (λi d=>Y5 _ (Ym _ d))
  .intro i d;rcases Yg.1 d with rfl|d
   .exact⟨g1,c2 _ (by omega)⟩
   .rcases Yn.1 d with d|d
    .obtain⟨C,D,i5⟩:=g2 i d;have J:=ap C;exact⟨(a0.G _ (Yr J B.j.ar) (by grind)).trans ((B.j.G _ J (by simp;omega)).trans C),c2 _ (by omega)⟩
    .obtain⟨C,D⟩:=K.j.cI i (Ym _ d);have J:=ap C;have t:=K.j.rd.aj;have k7:i.1≠A.S:=λg=>D (g▸t.2.1);have k8:i.1≠A.P:=λg=>D (g▸t.2.2.2);have k9:i.1≠a.heap.size:=λg=>D (g▸f7);exact⟨(a0.G _ (Yr J B.j.ar) (by grind)).trans ((B.j.G _ J (by simp;omega)).trans C),λh4=>D (Ym _ (Ym _ h4))⟩
section
variable {d:Ad}{k:List Nat}{l:TypeId}{m:Nat}{c b:aB}{j:Except Mar.aw (aB×St)}{i h:Zw}{a:Mar.aT}{g e:St}
def ej{d:Type}{b:PM d}{a:d->PM aB}(i:aF b a g=.ok (c,e))(j:∀f h,a f h=.ok (c,e)->cA c=l):cA c=l:=by
 cases k:b g<;>grind [bl,aE]
def qY{a:aB}(b:ret a g=.ok (c,e))(d:cA a=l):cA c=l:=by
 grind [ret]
def Jr{c:Za}(a:jm c m g=.ok (b,e)):cA b=223:=
 ej a λ_ _ a=>ej a λ_ _ a=>ej a λ_ _ a=>ej a λ_ _ a=>ej a λ_ _ a=>qY a rfl
def Jx{c:Za}(a:jw c m g=.ok (b,e)):cA b=225:=
 ej a λ_ _ a=>ej a λ_ _ a=>ej a λ_ _ a=>qY a rfl
def Ju{h:Za}{j:Zb×Nat}:∀(c:Nat) (f:List (Zb×Nat×Int)) (d:List (Int×Int)) (g e:St) (b:aB),gL h j c f d g=.ok (b,e)->cA b=227:=by
 intro c;induction c with
 |zero=>simp_all[gL,fi]
 |succ c n=>
  intro f d g e b a;cases i:hE h f.length d g with
  |error m=>simp_all[ux]
  |ok k=>
   obtain⟨p,o,q⟩:=k;rw[sB i]at a;refine ej a λl r a=>?_;cases l with
   |true=>grind
   |false=>exact ej a λ_ _ a=>ej a λ_ _ a=>qY a rfl
def Js{c:Za}(a:gX c m g=.ok (b,e)):cA b=227:=
 ej a λ_ _ a=>ej a λ_ _ a=>ej a λ_ _ a=>Ju _ _ _ _ _ _ a
def Jw{c:Za}(a:iX c m g=.ok (b,e)):cA b=229:=
 ej a λ_ _ a=>ej a λ_ _ a=>ej a λ_ _ a=>ej a λ_ _ a=>qY a rfl
def Jy{c:Za}(a:dT c m g=.ok (b,e)):cA b=231:=
 ej a λ_ _ a=>ej a λ_ _ a=>ej a λ_ _ a=>ej a λ_ _ a=>ej a λ_ _ a=>ej a λ_ _ a=>ej a λ_ _ a=>ej a λ_ _ a=>ej a λ_ _ a=>ej a λ_ _ a=>ej a λ_ _ a=>qY a rfl
def Jv{c:Za}(a:ia c m g=.ok (b,e)):cA b=233:=
 ej a λ_ _ a=>ej a λ_ _ a=>ej a λ_ _ a=>ej a λ_ _ a=>qY a rfl
def dQ(b:Za)(a:Mar.aT):PM aB:=
 if a.text==[99,111,110,115,116]then jm b a.m
 else if a.text==[116,121,112,101,100,101,102]then jw b a.m
 else if a.text==[101,110,117,109]then gX b a.m
 else if a.text==[115,116,114,117,99,116]then iX b a.m
 else if a.text==[117,110,105,111,110]then dT b a.m
 else if a.text==[112,114,111,103,114,97,109]then ia b a.m
 else fi 3 a.m
def gq(a:Za):PM aB:=aF (next a) (dQ a)
def zT{b:Za}(c:(a.text==[99,111,110,115,116])=true):dQ b a=jm b a.m:=by simp_all[dQ]
theorem zU{b:Za}(c:(a.text==[99,111,110,115,116])=false)(d:(a.text==[116,121,112,101,100,101,102])=true):dQ b a=jw b a.m:=by simp_all[dQ]
theorem zV{b:Za}(c:(a.text==[99,111,110,115,116])=false)(d:(a.text==[116,121,112,101,100,101,102])=false)(e:(a.text==[101,110,117,109])=true):dQ b a=gX b a.m:=by simp_all[dQ]
theorem zW{b:Za}(c:(a.text==[99,111,110,115,116])=false)(d:(a.text==[116,121,112,101,100,101,102])=false)(e:(a.text==[101,110,117,109])=false)(f:(a.text==[115,116,114,117,99,116])=true):dQ b a=iX b a.m:=by simp_all[dQ]
theorem zX{b:Za}(c:(a.text==[99,111,110,115,116])=false)(d:(a.text==[116,121,112,101,100,101,102])=false)(e:(a.text==[101,110,117,109])=false)(f:(a.text==[115,116,114,117,99,116])=false)(g:(a.text==[117,110,105,111,110])=true):dQ b a=dT b a.m:=by simp_all[dQ]
theorem zY{b:Za}(c:(a.text==[99,111,110,115,116])=false)(d:(a.text==[116,121,112,101,100,101,102])=false)(e:(a.text==[101,110,117,109])=false)(f:(a.text==[115,116,114,117,99,116])=false)(g:(a.text==[117,110,105,111,110])=false)(h:(a.text==[112,114,111,103,114,97,109])=true):dQ b a=ia b a.m:=by simp_all[dQ]
def Hn{b:Za}(c:(a.text==[99,111,110,115,116])=false)(d:(a.text==[116,121,112,101,100,101,102])=false)(e:(a.text==[101,110,117,109])=false)(f:(a.text==[115,116,114,117,99,116])=false)(g:(a.text==[117,110,105,111,110])=false)(h:(a.text==[112,114,111,103,114,97,109])=false):dQ b a=fi 3 a.m:=by simp_all[dQ]
def tC(k:List Nat)(d:Ad)(l:Za)(i:Zw)(j:Except Mar.aw (aB×St))(g:Ending)(h:Zw):Prop:=
 am k i h/\((∃b e c f,j=.ok (b,e)/\g=.returned (.iface (cA b) (Zp c))/\Rd d l e h/\dg f c b/\bv d.X f h)\/(∃a,j=.error a/\fa i a.no a.m g h))
def nH{M':List Nat}{m:Za}{w1:Zw}{f:Mar.aw}{c:Nat}
  (e:am k i h) (g:am M' i w1) (l:j=.error f) (a:w1.heap.size<=c) (b:h.heap[c]? = some (.cells #[U f.no,U f.m] 179)) :
  tC k d m i j (.panicked [{ v:=.iface 143 (Zp c),recovered:=false }]) h:=⟨e,Ya ⟨f,l,c,Yz g.ar a,rfl,b⟩⟩
theorem qj{f:Za}{c:Nat}{a:Zo}
  (p:am k i h) (q:j=.ok (b,e)) (m:cA b=l) (g:Rd d f e h) (n:dg a c b) (o:bv d.X a h):tC k d f i j (.returned (.iface l (Zp c))) h:=
 ⟨p,Y8 ⟨b,e,c,a,q,by rw[m],g,n,o⟩⟩
def Hb{A:Za}(B:Rd d A g i) :
  Calls prog 73 #[Zp d.R] i (tC [d.R,d.S,d.N,d.P] d A i (gq A g)):=by
 obtain⟨G,H,I,J,K,L⟩:=B.al;have E:=Z (pG B);go_in;go_wp2_with fail;refine E.j.mono ?_;rintro s D ⟨C,⟨a,e,z,rfl,F⟩|⟨t,z,c,m,rfl,o⟩⟩;rotate_left
 .exact aC (nH (C.K (by simp)) (ak [] _) (bl z) m o)
 have f:=Z ((C.B (.cells #[U a.C,Zs a.text,U a.n,U a.m] 154)).K (M':=[d.R,d.S,d.N,d.P]) (by simp));have l:=Z z;have u:=Z (F.au ((Below.refl _ _).alloc (Y4 _) (.cells #[U a.C,Zs a.text,U a.n,U a.m] 154)));dsimp only[cL];go_wp2_with (first
  |(go_at_call 70;refine(gR _ _ _).mono ?_;rintro s h ⟨rfl,rfl⟩)
  |(go_at_call 119;refine(Gx _ u.j).mono ?_;rintro s x ⟨j,⟨b,y,v,w,k,rfl,r,p,q⟩|⟨t,k,c,m,rfl,o⟩⟩)
  |(go_at_call 120;refine(RI _ u.j).mono ?_;rintro s x ⟨j,⟨b,y,v,w,k,rfl,r,p,q⟩|⟨t,k,c,m,rfl,o⟩⟩)
  |(go_at_call 121;refine(Hz (c:=([],0)) _ u.j).mono ?_;rintro s x ⟨j,⟨b,y,v,w,k,rfl,r,p,q⟩|⟨t,k,c,m,rfl,o⟩⟩)
  |(go_at_call 122;refine(QB _ u.j).mono ?_;rintro s x ⟨j,⟨b,y,v,w,k,rfl,r,p,q⟩|⟨t,k,c,m,rfl,o⟩⟩)
  |(go_at_call 123;refine(RP _ u.j).mono ?_;rintro s x ⟨j,⟨b,y,v,w,k,rfl,r,p,q⟩|⟨t,k,c,m,rfl,o⟩⟩)
  |(go_at_call 124;refine(Nh _ u.j).mono ?_;rintro s x ⟨j,⟨b,y,v,w,k,rfl,r,p,q⟩|⟨t,k,c,m,rfl,o⟩⟩))
 .go_ret;exact qj (f.j.u (j.K (by simp))) ((aE l.j).trans (by rw[zT ‹_›];omega)) (Jr k) r p q
 .exact aC (nH (f.j.u (j.K (by simp))) f.j ((aE l.j).trans (by rw[zT ‹_›];omega)) m o)
 .go_ret;exact qj (f.j.u (j.K (by simp))) ((aE l.j).trans (by simp_all[zU])) (Jx k) r p q
 .exact aC (nH (f.j.u (j.K (by simp))) f.j ((aE l.j).trans (by simp_all[zU])) m o)
 .go_ret;exact qj (f.j.u (j.K (by simp))) ((aE l.j).trans (by simp_all[zV])) (Js k) r p q
 .exact aC (nH (f.j.u (j.K (by simp))) f.j ((aE l.j).trans (by simp_all[zV])) m o)
 .go_ret;exact qj (f.j.u (j.K (by simp))) ((aE l.j).trans (by simp_all[zW])) (Jw k) r p q
 .exact aC (nH (f.j.u (j.K (by simp))) f.j ((aE l.j).trans (by simp_all[zW])) m o)
 .go_ret;exact qj (f.j.u (j.K (by simp))) ((aE l.j).trans (by simp_all[zX])) (Jy k) r p q
 .exact aC (nH (f.j.u (j.K (by simp))) f.j ((aE l.j).trans (by simp_all[zX])) m o)
 .go_ret;exact qj (f.j.u j) ((aE l.j).trans (by simp_all[zY])) (Jv k) r p q
 .exact aC (nH (f.j.u j) f.j ((aE l.j).trans (by simp_all[zY])) m o)
 .exact aC (nH (M':=[d.R,d.S,d.N,d.P]) (w1:=D.alloc (.cells #[U a.C,Zs a.text,U a.n,U a.m] 154)) (f:=⟨3,a.m⟩) (f.j.B _) f.j ((aE l.j).trans (by rw[Hn ‹_› ‹_› ‹_› ‹_› ‹_› ‹_›];rfl)) (by simp) (aS (by simp)))
end
section
variable {P:Program}{b f g idx st t e:Nat}{c:TypeInfo}{a:Method}{d:Zw}
def Kt{name:String}(n:P.info? t=some c)(p:c.methods.find? (λa=>a.name==name)=some a)(r:a.path=#[⟨st,idx,true⟩])(l:a.func=some (f,false))
  {i:Array Field} (v:P.underlying st=some (.struct i)) {h:Field} (m:i[idx]? = some h) (u:h.type=e) (q:h.offset=0) {k:Array Field} (w:P.underlying e=some (.struct k)) {j:TypeInfo} (o:P.info? e=some j) (s:j.size≠0) :
  (method (g+1) t (Zp b) name).run P d=((loadVar e ⟨b,0,none⟩).run P d).andThen (λy x=>.ok (f,y) x):=by
 unfold method;simp only[Sem.run_bind,run_typeInfo _ n,Result.andThen_ok,p,r,l,follow,run_underlying v,m,Place.get,asAddr,fieldPlace,sizeOf,u,run_typeInfo _ o,Sem.run_pure,if_true,s,if_false,q,receiverAt,run_underlying w,Addr.add]
def Ku{o l p:Nat}{name:String}(v:P.info? t=some c)(z:c.methods.find? (λa=>a.name==name)=some a)(C:a.path=#[⟨st,idx,true⟩,⟨o,l,false⟩])(r:a.func=some (f,false))
  {j:Array Field} (G:P.underlying st=some (.struct j)) {h:Field} (s:j[idx]? = some h) (E:h.type=p) (A:h.offset=0) {n:TypeInfo} (x:P.info? p=some n) (y:n.size≠0)
  {k:Array Field} (H:P.underlying o=some (.struct k)) {i:Field} (u:k[l]? = some i) (F:i.type=e) (B:i.offset=0) {q:Array Field} (I:P.underlying e=some (.struct q)) {m:TypeInfo} (w:P.info? e=some m) (D:m.size≠0) :
  (method (g+1) t (Zp b) name).run P d=((loadVar e ⟨b,0,none⟩).run P d).andThen (λK J=>.ok (f,K) J):=by
 unfold method;simp only[Sem.run_bind,run_typeInfo _ v,Result.andThen_ok,z,C,r,follow,run_underlying G,s,Place.get,asAddr,fieldPlace,sizeOf,E,run_typeInfo _ x,y,Sem.run_pure,if_true,if_false,A,run_underlying H,u,F,B,run_typeInfo _ w,D,receiverAt,run_underlying I,Addr.add,Ye]
def ra{t:TypeId}{name:String}{p:Array FieldStep}{f:Option (FuncId×Bool)}(b:((P.info? t).bind λc=>c.methods.find? (λa=>a.name==name)).map (λa=>(a.path,a.func))=some (p,f)) :
  ∃c a,P.info? t=some c/\c.methods.find? (λa=>a.name==name)=some a/\a.path=p/\a.func=f:=by
 cases d:P.info? t<;>simp_all
def si{o:Nat}(d:((P.underlying st).bind λc=>match c with|.struct a=>a[idx]?|_=>none).map (λf=>(f.type,f.offset))=some (t,o)) :
  ∃a b,P.underlying st=some (.struct a)/\a[idx]? = some b/\b.type=t/\b.offset=o:=by
 cases e:P.underlying st<;>grind
def pN{n:Nat}(a:(P.info? t).map (·.size)=some n):∃c,P.info? t=some c/\c.size=n:=by
 simp_all
def cU:aB->Zb×Nat
 |.const t a _=>(t,a)
 |.typedef b=>(b.t,b.m)
 |.enum t a _=>(t,a)
 |.struct t a _=>(t,a)
 |.union t a _ _=>(t,a)
 |.prog t a _ _=>(t,a)
def nQ(args:Array Zv)(a:Zw):(callFunc 327 args).run prog a=.ok (.enter 327 args) a:=by kernel_rfl
def GT{k:List Nat}{i:Zo}{f:aB}(c:dg i b f)(e:bv k i d):d.cell? (Zd b 0)=some (.string ⟨(cU f).1.toArray⟩)/\d.cell? (Zd b 1)=some (U (cU f).2):=by
 cases f with
 |const t g v=>have:=(e _ c).1;grind [World.cell?,cU]
 |typedef f=>have:=(e _ c).1;grind [World.cell?,cU]
 |enum t g l=>obtain⟨h,j,a,_⟩:=c;have:=(e _ a).1;simp_all[World.cell?,cU]
 |struct t g l=>obtain⟨h,a,_⟩:=c;have:=(e _ a).1;grind [World.cell?,cU]
 |union t g o m=>obtain⟨h,j,a,_⟩:=c;have:=(e _ a).1;simp_all[World.cell?,cU]
 |prog t g p n=>obtain⟨h,j,a,_⟩:=c;have:=(e _ a).1;simp_all[World.cell?,cU]
def nP(b:Za)(a:Int)(d:Zw) :
  Calls prog 327 #[.agg #[.string b,U a]] d λc e=>c=.returned (.agg #[.string b,U a])/\Below d.heap.size d e:=by
 go_in;go_wp2;exact bodyPost_ret (v:=.agg #[.string b,U a]) (by simp[results,results327,go_sem]) rfl ⟨rfl,((Below.refl _ _).alloc (Y4 _) _).alloc (by simp) _⟩
end
section
variable {a d g b c:St}{f:aB}{e:Int}{i:Unit}{α h ρ τ:Type}
def Kn(c d:List (Zb×Option aB)):Prop:=(∀b,(aL c b).isSome->(aL d b).isSome)/\∀b f,aL d b=some (some f)->aL c b=some (some f)\/∃e a v,f=.const e a v
theorem oO(b:List (Zb×Option aB)):Kn b b:=⟨λ_ a=>a,λ_ _ a=>Y8 a⟩
theorem Kn.u{a d g:List (Zb×Option aB)}(e:Kn a d)(i:Kn d g):Kn a g:=⟨λb c=>i.1 b (e.1 b c),λb f c=>by
 rcases i.2 b f c with h|h
 .exact e.2 b f h
 simp_all⟩
theorem AU{c:List (Zb×Option aB)}{b:Zb×Option aB}(a:Zb):aL (c++[b]) a=match aL c a with|some o=>some o|none=>if b.1==a then some b.2 else none:=by
 grind [aL]
theorem uv{c:Zb}(b:Zb):∀(a:List (Zb×Option aB)),aL (dd a c f) b=(aL a b).map (λd=>if b==c then some f else d):=by
 intro a;unfold aL dd;induction a<;>grind
def Le(b c:St):Prop:=b.L<=c.L/\b.av<=c.av/\c.O=b.O/\(b.L<=24->c.L<=24)/\(b.av<=40->c.av<=40)/\Kn b.A c.A
theorem qn(b:St):Le b b:=⟨Y4 _,Y4 _,rfl,id,id,oO _⟩
theorem Le.u(b:Le a d)(c:Le d g):Le a g:=⟨Yz b.1 c.1,Yz b.2.1 c.2.1,c.2.2.1.trans b.2.2.1,λe=>c.2.2.2.1 (b.2.2.2.1 e),λe=>c.2.2.2.2.1 (b.2.2.2.2.1 e),b.2.2.2.2.2.u c.2.2.2.2.2⟩
def de(d:PM α):Prop:=∀b a c,d b=.ok (a,c)->Le b c
def bW(d:PX τ α):Prop:=∀e b a f c,d e b=.ok (a,f,c)->Le b c
theorem gN{g:PM α}{i:α->PM h}(k:de g)(j:∀a,de (i a)):de (aF g i):=by
 intro b d c e;cases f:g b with
 |error m=>rw[bl f]at e;cases e
 |ok l=>obtain⟨a,n⟩:=l;rw[aE f]at e;exact(k _ _ _ f).u (j a _ _ _ e)
theorem iU(a:α):de (ret a):=by intro b d c e;grind [ret,qn]
theorem nj(e f:Nat):de (fi (α:=α) e f):=by intro b d c a;simp only[fi]at a;cases a
theorem ot{g:Bool}{a d:PM α}(b:de a)(c:de d):de (if g then a else d):=by grind
theorem eU{g:PX τ α}{i:α->PX τ h}(k:bW g)(j:∀a,bW (i a)):bW (aG g i):=by
 intro m b d o c e;cases f:g m b with
 |error n=>rw[bm f]at e;cases e
 |ok l=>obtain⟨a,p,q⟩:=l;rw[aQ f]at e;exact(k _ _ _ _ _ f).u (j a _ _ _ _ _ e)
theorem el{g:PM α}(h:de g):bW (lift (τ:=τ) g):=by
 intro k b d l c e;cases f:g b with
 |error j=>rw[cB f]at e;cases e
 |ok i=>obtain⟨a,m⟩:=i;rw[bf f]at e;cases e;exact h _ _ _ f
theorem hG(a:α):bW (cX (τ:=τ) a):=by intro f b d g c e;grind [cX,qn]
theorem Lg(e f:Nat):bW (vI (τ:=τ) (α:=α) e f):=by intro g b d h c a;simp only[vI]at a;cases a
theorem ly{g:Bool}{a d:PX τ α}(b:bW a)(c:bW d):bW (if g then a else d):=by grind
theorem Bo(g:τ->Except Mar.aw τ):bW (kh g):=by
 intro a b d h c e;cases f:g a<;>simp_all[rh,rj,qn]
theorem uF{g:PX τ α}(h:bW g):bW (ha (ρ:=ρ) g):=by
 rintro⟨j,l⟩ b d m c e;cases f:g j b with
 |error k=>rw[sM f]at e;cases e
 |ok i=>obtain⟨a,n,o⟩:=i;rw[sN f]at e;cases e;exact h _ _ _ _ _ f
theorem xA{g:PX ρ α}(h:bW g):bW (jt (τ:=τ) g):=by
 rintro⟨l,i⟩ b d m c e;cases f:g i b with
 |error k=>rw[uW f]at e;cases e
 |ok j=>obtain⟨a,n,o⟩:=j;rw[uX f]at e;cases e;exact h _ _ _ _ _ f
theorem sE{g:PX τ Unit}(i:bW g)(h:τ):de (iz g h):=by
 intro b d c e;cases f:g h b with
 |error k=>rw[vu f]at e;cases e
 |ok j=>obtain⟨a,l,m⟩:=j;rw[pL f]at e;cases e;exact i _ _ _ _ _ f
theorem uE{g:PX τ α}(i:bW g)(h:τ):de (fu g h):=by
 intro b d c e;cases f:g h b with
 |error k=>rw[oB f]at e;cases e
 |ok j=>obtain⟨a,l,m⟩:=j;rw[rc f]at e;cases e;exact i _ _ _ _ _ f
theorem Bb{e:PX Unit α}(h:bW e):de (hA e):=by
 intro b d c f;cases g:e () b with
 |error j=>grind [hA]
 |ok i=>obtain⟨a,k,l⟩:=i;simp only[hA,g]at f;cases f;exact h _ _ _ _ _ g
theorem uD(e:Za):de (ft e):=by
 intro b d c a;unfold ft at a;split at a<;>cases a;exact⟨Y4 _,Y4 _,rfl,id,id,oO _⟩
theorem ov(e:Za):de (next e):=by
 intro b d c a;unfold next at a
 split at a<;>cases a;exact⟨Y4 _,Y4 _,rfl,id,id,oO _⟩
theorem py(f:Za)(h:Zb):de (fQ f h):=by
 intro b d c a;unfold fQ at a;cases e:ft f b with
 |error i=>simp_all
 |ok g=>obtain⟨j,k⟩:=g;simp only[e]at a;cases a;exact uD _ _ _ _ e
theorem uC(e:Nat):de (hK e):=by
 intro b d c a;unfold hK at a;split at a<;>cases a;exact⟨Nat.le_succ _,Y4 _,rfl,λ_=>by grind,id,oO _⟩
theorem Bi(e:Nat):de (hJ e):=by
 intro b d c a;unfold hJ at a;split at a<;>cases a;exact⟨Y4 _,Nat.le_succ _,rfl,id,λ_=>by grind,oO _⟩
theorem xz(a d g:Nat):de (dS a d g):=by
 intro b f c e;grind [dS,qn]
theorem KP(h:Zb)(i:Zb)(a:Nat)(v:Int):de (xu h (.const i a v)):=by
 intro b k c d;simp only[xu]at d;cases d
 refine⟨Y4 _,Y4 _,rfl,id,id,?_,?_⟩
 .grind [uv]
 .intro g f e;dsimp only at e;rw[uv]at e;cases j:aL b.A g<;>grind
theorem KC(d:Mar.aT):de (iP d):=by
 intro b a c e;grind [iP,qn]
theorem KN(d:Mar.aT):de (jV d):=by
 intro b a c e;grind [jV,qn]
theorem KL(e:Mar.aT):de (fV e):=by
 intro b a c d;unfold fV at d;split at d<;>cases d;refine⟨Y4 _,Y4 _,rfl,id,id,?_,?_⟩
 .simp_all[aL]
 simp_all[aL]
theorem jX(b:Za)(a:Zb):de (cZ b a):=by
 simp_all[cZ,iU,ov,py,gN]
theorem dF(b:Za)(a:Zb):de (bY b a):=by
 unfold bY;repeat' (first|assumption|exact iU _|exact nj _ _|exact ov _|refine gN ?_ ?_|refine ot ?_ ?_|(intro _))
theorem KV(a:Za)(b:Mar.aT):de (ie a b):=by
 unfold ie;repeat' (first|assumption|exact iU _|exact nj _ _|exact jX _ _|refine gN ?_ ?_|refine ot ?_ ?_|(intro _))
theorem Bm(a:Za):de (lJ a):=by
 grind [lJ,ov,KV,gN]
theorem KO(a:Mar.aT):de (hD a):=by
 unfold hD;repeat' (first|assumption|exact iU _|exact nj _ _|exact KC _|refine ot ?_ ?_|(intro _))
theorem sF(b:Za)(a:Int->Bool):de (hd b a):=by
 unfold hd;repeat' (first|assumption|exact iU _|exact nj _ _|exact ov _|exact KO _|refine gN ?_ ?_|refine ot ?_ ?_|(intro _))
theorem xy(a:Za):de (lz a):=by
 unfold lz;repeat' (first|assumption|exact iU _|exact jX _ _|exact dF _ _|exact sF _ _|refine gN ?_ ?_|refine ot ?_ ?_|(intro _))
theorem uA(a:Za):de (iM a):=by
 unfold iM;repeat' (first|assumption|exact iU _|exact jX _ _|exact dF _ _|exact sF _ _|exact xy _|refine gN ?_ ?_|refine ot ?_ ?_|(intro _))
theorem KU(a:Za):de (lG a):=by
 simp_all[lG,iU,jX,Bm,gN]
theorem sD(b:Za)(a:Int->Bool):bW (fM b a):=by
 grind [fM,hG,Bo,sF,eU,el]
theorem Bg(a:Za):bW (kI a):=by
 grind [kI,hG,dF,sD,eU,el]
theorem sC(c:Za)(a:cP τ)(b:∀d,bW (a.a4 d)):bW (name c a):=by
 unfold name;repeat' (first|exact b _|assumption|exact hG _|exact Lg _ _|exact ov _|refine eU ?_ ?_|refine el ?_|refine ly ?_ ?_|(intro _))
theorem xw(b:Mar.aT)(a d:Nat):bW ((bb a d).a4 b):=Bo _
theorem Bf(b:Ad)(a:Mar.aT):bW ((fW b).a4 a):=el (KL a)
theorem Bc(a:Za)(e:Zb×Nat)(b:Ty):bW (mX (τ:=τ) a e b):=by
 grind [mX,hG,uA,eU,el]
theorem KK(a:Za)(e:Zb×Nat)(b:Ty)(c:Bool):bW (pj (τ:=τ) a e b c):=by
 simp_all[pj,hG,Bc,ly]
theorem KJ(a:Za)(e:Zb×Nat)(b:Ty)(c:Bool):bW (pi (τ:=τ) a e b c):=by
 unfold pi;repeat' (first|assumption|exact py _ _|exact Bc _ _ _|exact KK _ _ _ _|refine eU ?_ ?_|refine el ?_|refine ly ?_ ?_|(intro _))
theorem KI(a:Za)(b:Ty)(e:Zb×Nat):bW (ph (τ:=τ) a b e):=by
 grind [ph,py,KJ,eU,el]
theorem KH(c:Za)(a:cP τ)(b:∀e,bW (a.a4 e))(d:Ty)(f:Bool):bW (ob c a d f):=by
 unfold ob;repeat' (first|exact sC _ _ b|exact b _|assumption|exact hG _|exact KI _ _ _|refine eU ?_ ?_|refine ly ?_ ?_|(intro _))
theorem KG(b:Za)(a:cP τ)(e:∀d,bW (a.a4 d))(c:Ty):bW (qE b a c):=by
 grind [qE,jX,KH,eU,el]
theorem KF(c:Za)(b:cP τ)(a:∀d,bW (b.a4 d))(e:Bool):bW (mc c b e):=by
 unfold mc;repeat' (first|exact sC _ _ a|exact a _|assumption|exact hG _|exact Bm _|exact xy _|exact KG _ _ a _|refine eU ?_ ?_|refine el ?_|refine ly ?_ ?_|(intro _))
theorem KE(c:Za)(b:cP τ)(a:∀d,bW (b.a4 d))(e:Bool):bW (mW c b e):=by
 unfold mW;repeat' (first|exact sC _ _ a|exact a _|assumption|exact hG _|exact jX _ _|exact uA _|exact KF _ _ a _|refine eU ?_ ?_|refine el ?_|refine ly ?_ ?_|(intro _))
theorem xx(b:Za)(a:cP τ)(d:∀c,bW (a.a4 c)) :bW (dW b a ):=by
 grind [dW,jX,KE,eU,el]
theorem Kx(b:Za)(a:cP τ)(e:∀c,bW (a.a4 c))(d:Bool):bW (mR b a d):=by
 simp_all[mR,hG,xx,ly]
theorem Kv(b:Za)(a:cP τ)(d:∀c,bW (a.a4 c)):bW (ir b a):=by
 grind [ir,hG,jX,dF,Kx,eU,el]
theorem px(a:Za):de (gf a):=Bb (sC _ _ (Bf _))
theorem Be(a:Za):de (md a):=Bb (xx _ _ (Bf _))
theorem uB(b:Za)(a d:Nat):bW (name b (bb a d)):=sC _ _ (λc=>xw c a d)
theorem KD(b:Za)(a d:Nat):bW (dW b (bb a d)):=xx _ _ (λc=>xw c a d)
theorem AZ(b:Za)(a d:Nat):bW (ir b (bb a d)):=Kv _ _ (λc=>xw c a d)
theorem Bh(a:Za)(e:Nat):bW (hE a e):=by
 unfold hE;repeat' (first|assumption|exact hG _|exact uD _|exact Bi _|exact xz _ _ _|exact KP _ _ _ _|exact dF _ _|exact sD _ _|exact px _|refine eU ?_ ?_|refine el ?_|(intro _))
theorem KM(b:Za)(e:Zb×Nat)(a:List (Zb×Nat×Int)):de (oe b e a):=by
 grind [oe,iU,dF,gN]
theorem KQ(j:Za)(e:Zb×Nat):∀(a:Nat) (g:List (Zb×Nat×Int)) (d:List (Int×Int)),de (gL j e a g d):=by
 intro a;induction a with
 |zero=>intro g d;exact nj _ _
 |succ a m=>
  intro g d b f c h;cases i:hE j g.length d b with
  |error l=>simp_all[ux]
  |ok k=>
   obtain⟨o,n,q⟩:=k;rw[sB i]at h;refine(Bh _ _ _ _ _ _ _ i).u (gN (jX _ _) (λp=>?_) _ _ _ h);simp_all[ot,KM]
theorem Bl(h:Za)(a:dy):bW (iB h a):=by
 rintro⟨k,j⟩ b d m c e;cases g:dW h (bb a.q a.bx) j b with
 |error l=>simp_all[CO]
 |ok i=>
  obtain⟨f,n,o⟩:=i;rw[yk g]at e;exact(KD _ _ _ _ _ _ _ _ g).u (eU (el (dF _ _)) (λ_=>hG _) _ _ _ _ _ e)
theorem Bn{g:PX τ α}{i:PX (List α×τ) Unit}(n:bW g)(m:∀{e a l b c f},g a b=.ok (f,l,c)->i (e,a) b=.ok ((),(e++[f],l),c))(r:∀{e a b h},g a b=.error h->i (e,a) b=.error h):bW i:=by
 rintro⟨q,p⟩ b d s c j;cases k:g p b with
 |error h=>simp_all
 |ok o=>
  obtain⟨f,t,u⟩:=o;rw[m k]at j;cases j
  exact n _ _ _ _ _ k
theorem Kz(f:Za)(lz:Nat)(b:PX τ Unit)(c:bW b):∀a e,bW (hR f lz b a e):=by
 intro a;induction a with
 |zero=>intro e;exact el (nj _ _)
 |succ a d=>
  intro e;unfold hR;refine eU ?_ λh=>?_
  .by_cases g:e=0;all_goals simp_all[hG,el,jX]
  .exact ly (hG _) (eU (el (uD _)) λ_=>eU (el (xz _ _ _)) λ_=>eU c λ_=>d _)
theorem uz(c:Za)(lz:Nat)(a:PX τ Unit)(b:bW a):bW (ei c lz a):=eU (el (dF _ _)) λ_=>Kz _ _ _ b _ _
theorem KB(i:Za)(m:Int->Bool):∀(e:Nat) (f:List Int),bW (gI i m e f):=by
 intro e;induction e with
 |zero=>intro f;exact el (nj _ _)
 |succ e k=>
  intro f l b d p c a;cases g:bY i [99,97,115,101] b with
  |error o=>simp_all[wy]
  |ok j=>
   obtain⟨j,n⟩:=j;by_cases h:12<=l.length
   .rw[wz g h]at a;cases a
   .rw[wA g h]at a;refine(dF _ _ _ _ _ g).u (?_:Le n c);exact eU (sD _ _) (λ_=>eU (el (dF _ _)) λ_=>eU (el (py _ _)) λ_=>ly (k _) (hG _)) _ _ _ _ _ a
theorem KA(b:Za)(a:Int->Bool):bW (cases b a):=KB _ _ _ _
theorem Ky(b:Za)(a:gQ):bW (lZ b a):=by
 unfold lZ;repeat' (first|assumption|exact hG _|exact jX _ _|exact dF _ _|exact AZ _ _ _|refine eU ?_ ?_|refine el ?_|refine ly ?_ ?_|refine uF ?_|(intro _))
theorem Ba(e:Za)(d:Int->Bool):∀(a:Nat) (b:gQ),bW (hz e d a b):=by
 intro a;induction a with
 |zero=>intro b;exact el (nj _ _)
 |succ a c=>
  intro b;unfold hz;exact eU (xA (KA _ _)) λ_=>eU (uF (AZ _ _ _)) λ_=>eU (el (py _ _)) λ_=>ly (c _) (Ky _ _)
theorem KT(a:Za)(b:Mar.aT):de (iW a b):=by
 unfold iW;repeat' (first|assumption|exact iU _|exact nj _ _|exact KN _|exact jX _ _|refine gN ?_ ?_|refine ot ?_ ?_|(intro _))
theorem Bk(a:Za):de (nz a):=by
 grind [nz,ov,KT,gN]
theorem KW(c:Za)(e:Zb×Nat)(b:aO)(a:gQ):de (pT c e b a):=by
 grind [pT,iU,dF,gN]
theorem KZ(c:Za)(e:Zb×Nat)(b:Ty×(Int->Bool))(a:(Zb×Nat)×Zc):de (tj c e b a):=by
 unfold tj;repeat' (first|assumption|exact dF _ _|exact Ba _ _ _ _|exact KW _ _ _ _|refine gN ?_ ?_|refine uE ?_ _|(intro _))
theorem KY(b:Za)(e:Zb×Nat)(a:Ty×(Int->Bool)):de (rz b e a):=by
 grind [rz,uB,KZ,gN,uE]
theorem KX(a:Za)(e:Zb×Nat):de (pV a e):=by
 grind [pV,dF,Bk,KY,gN]
theorem KS(a:Za):bW (kc a):=by
 unfold kc;repeat' (first|assumption|exact hG _|exact dF _ _|exact KU _|exact Bg _|exact uB _ _ _|refine eU ?_ ?_|refine el ?_|refine uF ?_|refine xA ?_|(intro _))
theorem Ld(a:Za):bW (jB a):=Bn (KS a) DE DD
theorem Lc(a:Za):bW (ei a 8 (jB a)):=uz _ _ _ (Ld _)
theorem La(a:Za)(e:Zb×Nat):bW (rB a e):=by
 grind [rB,hG,Bg,Lc,eU,el,xA,sE]
theorem Lb(a:Za):bW (jA a):=by
 grind [jA,dF,uB,La,eU,el,uF]
theorem KR(a:Za):bW (iV a):=Bn (Lb a) BY BX
theorem Bj(a:Za):bW (ei a 4 (iV a)):=uz _ _ _ (KR _)
structure iL(b c:St):Prop where
 up:b.L+b.av+b.O.length<c.L+c.av+c.O.length
 H:b.L<=24->c.L<=24
 co:b.av<=40->c.av<=40
 pr:b.O.length<=4->c.O.length<=4
theorem iL.then(c:iL a d)(f:Le d g):iL a g:=by
 obtain⟨j,k,e,h,i,_⟩:=f;exact⟨by rw[e];have:=c.up;omega,λb=>h (c.H b),λb=>i (c.co b),λb=>by rw[e];exact c.pr b⟩
theorem vC{d:Nat}(a:hK d b=.ok (i,c)):iL b c:=by
 unfold hK at a;split at a<;>cases a;exact⟨by simp,λ_=>by grind,id,id⟩
theorem PP{d:Nat}(a:hJ d b=.ok (i,c)):iL b c:=by
 unfold hJ at a;split at a<;>cases a;exact⟨by simp,id,λ_=>by grind,id⟩
theorem tc{g:PM α}{j:α->PM h}{d:h}(l:∀{a i},g b=.ok (a,i)->iL b i)(k:∀a,de (j a))(e:aF g j b=.ok (d,c)):iL b c:=by
 cases f:g b with
 |error n=>rw[bl f]at e;cases e
 |ok m=>obtain⟨a,i⟩:=m;rw[aE f]at e;exact(l f).then (k a _ _ _ e)
theorem PK{e:Za}{d:Nat}(a:jm e d b=.ok (f,c)):iL b c:=by
 refine tc PP (λ_=>?_) a;grind [iU,dF,sF,px,gN]
theorem Qb{e:Za}{d:Nat}(a:jw e d b=.ok (f,c)):iL b c:=by
 refine tc vC (λ_=>?_) a;grind [iU,dF,Be,gN]
theorem PO{e:Za}{d:Nat}(a:gX e d b=.ok (f,c)):iL b c:=by
 refine tc vC (λ_=>?_) a;grind [dF,px,KQ,gN]
theorem Qa{e:Za}{d:Nat}(a:iX e d b=.ok (f,c)):iL b c:=by
 refine tc vC (λ_=>?_) a;grind [iU,dF,px,Bl,uz,gN,sE]
theorem Qc{e:Za}{d:Nat}(a:dT e d b=.ok (f,c)):iL b c:=by
 refine tc vC (λ_=>?_) a;grind [px,KX,gN]
theorem PS{g:Za}{f:Int->Bool}(a:kQ g f b=.ok (e,c)):b.L<=c.L/\b.av<=c.av/\c.O.length=b.O.length+1/\(b.L<=24->c.L<=24)/\(b.av<=40->c.av<=40):=by
 cases d:fM g f b.O b with
 |error i=>simp_all[uU]
 |ok h=>
  obtain⟨p,o,q⟩:=h;rw[xJ d]at a;cases a
  obtain⟨j,k,l,m,n,_⟩:=sD _ _ _ _ _ _ _ d;grind [xK]
theorem PN{f:Za}(a:mf f b=.ok (e,c)):b.L<=c.L/\b.av<=c.av/\c.O.length=b.O.length+1/\(b.L<=24->c.L<=24)/\(b.av<=40->c.av<=40):=by
 unfold mf at a;cases g:bY f [61] b with
 |error j=>rw[bl g]at a;cases a
 |ok d=>
  obtain⟨C,k⟩:=d;rw[aE g]at a;obtain⟨m,n,o,p,q,_⟩:=dF _ _ _ _ _ g;cases h:kQ f (df 0 4294967295) k with
  |error j=>rw[bl h]at a;cases a
  |ok d=>
   obtain⟨B,l⟩:=d;rw[aE h]at a;obtain⟨r,s,t,u,v⟩:=PS h;cases i:bY f [59] l with
   |error j=>rw[bl i]at a;cases a
   |ok d=>
    obtain⟨D,E⟩:=d;rw[aE i]at a;simp only[ret]at a;cases a
    obtain⟨w,x,y,z,A,_⟩:=dF _ _ _ _ _ i;grind
theorem PY{d:Za}{k:Nat}(a:ia d k b=.ok (f,c)):iL b c:=by
 unfold ia at a;by_cases t:4<=b.O.length
 .simp_all[bl,dS]
 rw[aE (m:=λb:St=>dS b.O.length 4 k b) (show dS b.O.length 4 k b=.ok ((),b)from Y2 t)]at a;cases h:gf d b with
 |error m=>rw[bl h]at a;cases a
 |ok g=>
  obtain⟨e,v⟩:=g;rw[aE h]at a;unfold pI at a;obtain⟨x,y,z,n,o,_⟩:=px _ _ _ _ h;cases i:iz (ei d 4 (iV d)) ([],([],[])) v with
  |error m=>rw[bl i]at a;cases a
  |ok g=>
   obtain⟨u,w⟩:=g;rw[aE i]at a;obtain⟨A,B,C,p,q,_⟩:=sE (Bj d) _ _ _ _ i;cases j:mf d w with
   |error m=>rw[bl j]at a;cases a
   |ok g=>
    obtain⟨H,I⟩:=g;rw[aE j]at a;simp only[ret]at a;cases a
    obtain⟨D,E,F,r,s⟩:=PN j;have G:c.O.length=b.O.length+1:=by simp_all
    exact⟨by omega,λl=>r (p (n l)),λl=>s (q (o l)),λ_=>by omega⟩
theorem PL{h:Za}(a:gq h b=.ok (f,c)):iL b c:=by
 unfold gq at a;cases g:next h b with
 |error p=>rw[bl g]at a;cases a
 |ok k=>
  obtain⟨d,l⟩:=k;rw[aE g]at a;obtain⟨m,n,o,i,j,_⟩:=ov _ _ _ _ g;have e:iL l c:=by
   unfold dQ at a;grind [PK,Qb,PO,Qa,Qc,PY,fi]
  have:=e.up;exact⟨by grind,λd=>e.H (i d),λd=>e.co (j d),λd=>e.pr (by simp_all)⟩
end
section
variable {c:TypeId}{d:Zv}{a:Zw}{b:Type}
structure eR(b:Type) where
 f:Nat
 e3:Array Zv
 e2:Array Zv
 a4:Zb×Nat->b->Except Mar.aw b
 J:b->Zw->Prop
 M:List Nat
 ok:Zb×Nat->Prop
def eR.v(T:eR b):Zv:=.func (.func T.f) T.e3 T.e2
def fy(d:eR b)(a:Zw)(g:Except Mar.aw b)(f:Ending)(c:Zw):Prop:=
 (∃h,g=.ok h/\f=.returned (.tuple #[])/\d.J h c/\am d.M a c)\/(∃e,g=.error e/\am d.M a c/\fa a e.no e.m f c)
structure hi{b:Type}(T:eR b):Prop where
 fq:∀args W,(callFunc T.f args).run prog W=.ok (.enter T.f args) W
 aY:∀{t a},T.J t a->∀m∈T.M,m<a.heap.size
 c0:∀{t a w'},T.J t a->Below a.heap.size a w'->T.J t w'
 call:∀{t W} (n:Zb×Nat),T.ok n->T.J t W->Calls prog T.f (T.e3.push (fY n)++T.e2) W (fy T W (T.a4 n t))
def be(c:eR b):List (Zb×Nat)->b->Except Mar.aw b
 |[],a=>.ok a
 |n::e,a=>match c.a4 n a with
  |.ok f=>be c e f
  |.error d=>.error d
def cu:Ty->List (Zb×Nat)
 |.named c b=>[(c,b)]
 |.arr a _ _=>cu a
 |.opt a=>cu a
 |_=>[]
def cH:Ty->List (Zb×Nat)
 |.named d a=>[(d,a)]
 |.arr c _ b=>if b then cH c else []
 |_=>[]
def qP:Ty->Nat
 |.named ..=>360
 |.arr ..=>370
 |.opt ..=>372
 |_=>332
def sv:Ty->Nat
 |.named ..=>359
 |.arr ..=>369
 |.opt ..=>371
 |_=>331
def pC:Ty->Zv
 |.named e b=>.agg #[.string ⟨e.toArray⟩,.int .i64 b]
 |.arr a d c=>.agg #[bj a,.int .i64 d,.bool c]
 |.opt a=>.agg #[bj a]
 |_=>.agg #[]
def pE (b : Ty)   (e : bj b = .iface c d) (f : Nat) (a : World) : (method (f + 1) c d "Names").run Tryz.prog a = .ok (qP b, pC b) a := by
 cases b<;>cases e<;>kernel_rfl
def uq (b : Ty)   (e : bj b = .iface c d) (f : Nat) (a : World) : (method (f + 1) c d "Leads").run Tryz.prog a = .ok (sv b, pC b) a := by
 cases b<;>cases e<;>kernel_rfl
def pA(b:Ty)(args:Array Zv)(a:Zw):(callFunc (qP b) args).run prog a=.ok (.enter (qP b) args) a:=by cases b<;>kernel_rfl
def uo(b:Ty)(args:Array Zv)(a:Zw):(callFunc (sv b) args).run prog a=.ok (.enter (sv b) args) a:=by cases b<;>kernel_rfl
def qx{c:eR b}(f:hi c){d:b}(e:c.J d a):Calls prog 332 #[.agg #[],c.v] a (fy c a (.ok d)):=by
 have g:=f.c0 e ((Below.refl a.heap.size a).alloc (Y4 _) (.cells #[] 250));go_in;go_wp2;go_end0;exact Y8 ⟨d,rfl,rfl,g,(ak _ a).B _⟩
def qw{c:eR b}(f:hi c){d:b}(e:c.J d a):Calls prog 331 #[.agg #[],c.v] a (fy c a (.ok d)):=by
 have g:=f.c0 e ((Below.refl a.heap.size a).alloc (Y4 _) (.cells #[] 250));go_in;go_wp2;go_end0;exact Y8 ⟨d,rfl,rfl,g,(ak _ a).B _⟩
def Mn{e:eR b}(j:hi e){f:b}(g:Ty)(h:e.J f a):Calls prog 371 #[.agg #[bj g],e.v] a (fy e a (.ok f)):=by
 obtain⟨c,d,i⟩:=dG g;rw[i];have k:=j.c0 h ((Below.refl a.heap.size a).alloc (Y4 _) (.cells #[.iface c d] 385))
 go_in;go_wp2;go_end0;exact Y8 ⟨f,rfl,rfl,k,(ak _ a).B _⟩
def Dl{a:eR b}(c:Zb×Nat)(d:b):be a [c] d=a.a4 c d:=by
 grind [be]
def Lz{c:eR b}(f:hi c){h:b}(e:Zb)(d:Nat)(p:c.ok (e,d))(k:c.J h a):Calls prog 360 #[.agg #[Zs e,U d],c.v] a (fy c a (c.a4 (e,d) h)):=by
 have q:=f.c0 k ((Below.refl a.heap.size a).alloc (Y4 _) (.cells #[Zs e,U d] 260));have u:=f.fq;show Calls prog 360 #[.agg #[Zs e,U d],.func (.func c.f) c.e3 c.e2] a _;go_in;go_wp2_with fail;refine(f.call (e,d) p q).mono ?_;rintro t w (⟨s,g,rfl,n,r⟩|⟨j,g,o,i,l,rfl,m⟩);rotate_left
 .exact aC (Ya ⟨j,g,((ak _ a).B _).u o,i,by simp at l;omega,rfl,m⟩)
 go_wp2;go_end0;exact Y8 ⟨s,g,rfl,n,((ak _ a).B _).u r⟩
def Ly{c:eR b}(f:hi c){h:b}(e:Zb)(d:Nat)(p:c.ok (e,d))(k:c.J h a):Calls prog 359 #[.agg #[Zs e,U d],c.v] a (fy c a (c.a4 (e,d) h)):=by
 have q:=f.c0 k ((Below.refl a.heap.size a).alloc (Y4 _) (.cells #[Zs e,U d] 260));have u:=f.fq;show Calls prog 359 #[.agg #[Zs e,U d],.func (.func c.f) c.e3 c.e2] a _;go_in;go_wp2_with fail;refine(f.call (e,d) p q).mono ?_;rintro t w (⟨s,g,rfl,n,r⟩|⟨j,g,o,i,l,rfl,m⟩);rotate_left
 .exact aC (Ya ⟨j,g,((ak _ a).B _).u o,i,by simp at l;omega,rfl,m⟩)
 go_wp2;go_end0;exact Y8 ⟨s,g,rfl,n,((ak _ a).B _).u r⟩
def sI{l:eR b}(h:hi l):∀(m:Ty) {f:b} {a:Zw},(∀j∈cu m,l.ok j)->l.J f a->Calls prog (qP m) #[pC m,l.v] a (fy l a (be l (cu m) f)):=by
 intro m;induction m with
 |plain F=>intro f a _ e;exact qx h e
 |opaq j g=>intro f a _ e;exact qx h e
 |str j g=>intro f a _ e;exact qx h e
 |void=>intro f a _ e;exact qx h e
 |named j A=>intro f a o e;simp only[cu,Dl];exact Lz h j A (o _ (by simp[cu])) e
 |arr k j g y=>
  intro f a o e;obtain⟨c,d,n⟩:=dG k;have D:=pE k n;have C:=pA k;have w:=h.c0 e ((Below.refl a.heap.size a).alloc (Y4 _) (.cells #[.iface c d,U j,.bool g] 382))
  have p:=Z (y o w);simp only[qP,pC,cu];rw[n];go_in;go_wp2_with fail;refine p.j.mono ?_;rintro B E (⟨z,i,rfl,t,x⟩|⟨g,i,u,q,r,rfl,s⟩);rotate_left
  .exact aC (Ya ⟨g,i,((ak _ a).B _).u u,q,by simp at r;omega,rfl,s⟩)
  go_wp2;go_end0;exact Y8 ⟨z,i,rfl,t,((ak _ a).B _).u x⟩
 |opt k y=>
  intro f a o e;obtain⟨c,d,n⟩:=dG k;have D:=pE k n;have C:=pA k;have w:=h.c0 e ((Below.refl a.heap.size a).alloc (Y4 _) (.cells #[.iface c d] 385))
  have p:=Z (y o w);simp only[qP,pC,cu];rw[n];go_in;go_wp2_with fail;refine p.j.mono ?_;rintro B E (⟨z,i,rfl,t,x⟩|⟨g,i,u,q,r,rfl,s⟩);rotate_left
  .exact aC (Ya ⟨g,i,((ak _ a).B _).u u,q,by simp at r;omega,rfl,s⟩)
  go_wp2;go_end0;exact Y8 ⟨z,i,rfl,t,((ak _ a).B _).u x⟩
def xm{i:eR b}(g:hi i):∀(k:Ty) {f:b} {a:Zw},(∀h∈cH k,i.ok h)->i.J f a->Calls prog (sv k) #[pC k,i.v] a (fy i a (be i (cH k) f)):=by
 intro k;induction k with
 |plain E=>intro f a _ e;exact qw g e
 |opaq h j=>intro f a _ e;exact qw g e
 |str h j=>intro f a _ e;exact qw g e
 |void=>intro f a _ e;exact qw g e
 |named h s=>intro f a m e;simp only[cH,Dl];exact Ly g h s (m _ (by simp[cH])) e
 |opt l q=>intro f a _ e;exact Mn g l e
 |arr l h j q=>
  intro f a m e;obtain⟨c,d,n⟩:=dG l;have D:=uq l n;have C:=uo l;have o:=g.c0 e ((Below.refl a.heap.size a).alloc (Y4 _) (.cells #[.iface c d,U h,.bool j] 382))
  simp only[sv,pC,cH];rw[n];cases j with
  |false=>
   go_in;go_wp2;go_end0;exact Y8 ⟨f,rfl,rfl,o,(ak _ a).B _⟩
  |true=>
   have r:=Z (q (by simpa[cH]using m) o);go_in;go_wp2_with fail;refine r.j.mono ?_;rintro B F (⟨A,p,rfl,x,z⟩|⟨j,p,y,t,u,rfl,w⟩);rotate_left
   .exact aC (Ya ⟨j,p,((ak _ a).B _).u y,t,by simp at u;omega,rfl,w⟩)
   go_wp2;go_end0;exact Y8 ⟨A,rfl,rfl,x,((ak _ a).B _).u z⟩
end
section
variable {i g:Nat}{h:Zo}{a:List aO}{n:Zb}{d:Zw}{b f:List (Zb×Nat)}{e:Type}
def Dk{a:eR e}:∀(b f:List (Zb×Nat)) (c:e),be a (b++f) c=match be a b c with|.ok t'=>be a f t'|.error d=>.error d:=by
 intro b;induction b<;>grind [be]
def pR{a:eR e}{c d:e}(g:be a b c=.ok d):be a (b++f) c=be a f d:=by rw[Dk,g]
def pQ{a:eR e}{d:e}{c:Mar.aw}(g:be a b d=.error c):be a (b++f) d=.error c:=by rw[Dk,g]
def iS{f:Type}{c:f->Zl}{n:Nat}(h:∀e,(c e).length=n):∀(b:List f) (a d:Nat) (g:a<b.length) (_:d<n),(b.flatMap c)[a*n+d]? = (c b[a])[d]?:=by
 intro b;induction b with
 |nil=>simp
 |cons e b j=>
  intro a d g i;rw[YD];cases a with
  |zero=>
   grind
  |succ a=>
   rw[Yw (by grind)];grind
theorem bJ{c:Nat}{a:Array Zv}{f:TypeId}{b:Zl}(g:d.heap[c]? = some (.cells a f))(i:a.toList.take b.length=b){e:Nat}{v:Zv}(h:b[e]? = some v):d.cell? (Zd c e)=some v:=by
 grind [Cl]
def Qy{b:eR e}(D:hi b)(b4:∀n∈a.flatMap λj=>cu j.H,b.ok n)(a6:dg h g (.struct n i a))(C:∀{l:e} {o:Zw},b.J l o->∀G∈h,o.heap[G.1]? = some G.2){l:e}(u:b.J l d) :
  Calls prog 345 #[Zp g,b.v] d (fy b d (be b (a.flatMap λj=>cu j.H) l)):=by
 have O:=Z b4;obtain⟨d8,a3,b6⟩:=a6;obtain⟨d3,d4,d5,_⟩:=dJ (C u _ a3);rcases b6 with⟨rfl,a2,_⟩|⟨t,c2,c3,rfl,⟨c5,d1⟩,a8,y⟩
 .have b3:a=[]:=Yv.1 a2;subst b3;have r:=Z u;go_in;go_wp2;go_loopw [11] (λk q=>k=U 0/\q=d) (λ_ _=>0)
  case atStart=>simp
  case round=>
   obtain⟨rfl,rfl⟩:=hrel;go_wp2;go_end0;exact Y8 ⟨l,rfl,rfl,r.j,ak _ _⟩
 .have b5:∀(o:Zw) (m:e),b.J m o->∀k (x:k<a.length),o.cell? ⟨t,k*3,none⟩=some (.string ⟨a[k].t.toArray⟩)/\o.cell? ⟨t,k*3+1,none⟩=some (U a[k].m)/\o.cell? ⟨t,k*3+2,none⟩=some (bj a[k].H):=by
   intro o m b7 k x;have w:=C b7 _ a8;have E:=iS (c:=ek) (n:=3) (λ_=>rfl) a k;exact⟨bJ w y (by have:=E 0 x (by omega);grind),bJ w y (by grind),bJ w y (by have:=E 2 x (by omega);simpa using this)⟩
  have P:=Z b5;have r:=Z u;go_in;go_wp2;go_loopw [11] (λk q=>∃(f:Nat) (m:e),k=U f/\f<=a.length/\ac (b.J m q)/\am b.M d q/\ac (be b (a.flatMap λj=>cu j.H) l=be b ((a.drop f).flatMap λj=>cu j.H) m)) (λk _=>a.length-(intOf k).toNat)
  case atStart=>exact⟨0,l,rfl,by omega,r,ak _ _,rfl⟩
  case round=>
   obtain⟨f,m,rfl,d0,s,p,J⟩:=hrel;rcases Yj f a.length with F|c7
   .obtain⟨d6,d7,c0⟩:=P.j _ _ s.j f F;obtain⟨S,c1,B⟩:=dG a[f].H;have d2:=pE a[f].H B;have c6:=pA a[f].H;rw[B]at c0;have c8:(0:Int)<=↑f:=by omega
    have c9:(↑f:Int) < ↑a.length:=by omega
    have A:ac (be b (a.flatMap λj=>cu j.H) l=be b (cu a[f].H++(a.drop (f+1)).flatMap λj=>cu j.H) m):=by
     grind [List.drop_eq_getElem_cons]
    have N:=Z (sI D a[f].H (λn b2=>O.j n (List.mem_flatMap.2 ⟨a[f],Yy F,b2⟩)) (D.c0 s.j ((Below.refl _ _).alloc (Y4 _) (.cells #[.string ⟨a[f].t.toArray⟩,U a[f].m,.iface S c1] 242))))
    go_wp2_with fail;refine N.j.mono ?_;rintro c4 I (⟨H,z,rfl,a9,b8⟩|⟨a1,z,b0,a0,a4,rfl,a5⟩);rotate_left
    .exact(show bodyPost prog Tryz.f345 (fy b d (be b (a.flatMap λj=>cu j.H) l)) (Exit.panic _) _ I from aC (Ya ⟨a1,A.j.trans (pQ z),(p.B _).u b0,a0,by have:=p.ar;simp at a4;omega,rfl,a5⟩))
    have R:=Z a9;have K:ac (be b (a.flatMap λj=>cu j.H) l=be b ((a.drop (f+1)).flatMap λj=>cu j.H) H):=A.j.trans (pR z);have b9:am b.M d I:=(p.B _).u b8;go_wp2;exact⟨⟨f+1,H,by rfl,by omega,R,b9,K⟩,by simp[intOf];omega⟩
   .have b1:f=a.length:=by omega
    subst b1;have a7:be b (a.flatMap λj=>cu j.H) l=.ok m:=by
     refine J.j.trans ?_;rw[List.drop_length];rfl
    have L:=Z a7;go_wp2;go_end0;exact Y8 ⟨m,L.j,rfl,s.j,p⟩
def Qx{b:eR e}(D:hi b)(b4:∀n∈a.flatMap λj=>cH j.H,b.ok n)(a6:dg h g (.struct n i a))(C:∀{l:e} {o:Zw},b.J l o->∀G∈h,o.heap[G.1]? = some G.2){l:e}(u:b.J l d) :
  Calls prog 344 #[Zp g,b.v] d (fy b d (be b (a.flatMap λj=>cH j.H) l)):=by
 have O:=Z b4;obtain⟨d8,a3,b6⟩:=a6;obtain⟨d3,d4,d5,_⟩:=dJ (C u _ a3);rcases b6 with⟨rfl,a2,_⟩|⟨t,c2,c3,rfl,⟨c5,d1⟩,a8,y⟩
 .have b3:a=[]:=Yv.1 a2;subst b3;have r:=Z u;go_in;go_wp2;go_loopw [11] (λk q=>k=U 0/\q=d) (λ_ _=>0)
  case atStart=>simp
  case round=>
   obtain⟨rfl,rfl⟩:=hrel;go_wp2;go_end0;exact Y8 ⟨l,rfl,rfl,r.j,ak _ _⟩
 .have b5:∀(o:Zw) (m:e),b.J m o->∀k (x:k<a.length),o.cell? ⟨t,k*3,none⟩=some (.string ⟨a[k].t.toArray⟩)/\o.cell? ⟨t,k*3+1,none⟩=some (U a[k].m)/\o.cell? ⟨t,k*3+2,none⟩=some (bj a[k].H):=by
   intro o m b7 k x;have w:=C b7 _ a8;have E:=iS (c:=ek) (n:=3) (λ_=>rfl) a k;exact⟨bJ w y (by have:=E 0 x (by omega);grind),bJ w y (by grind),bJ w y (by have:=E 2 x (by omega);simpa using this)⟩
  have P:=Z b5;have r:=Z u;go_in;go_wp2;go_loopw [11] (λk q=>∃(f:Nat) (m:e),k=U f/\f<=a.length/\ac (b.J m q)/\am b.M d q/\ac (be b (a.flatMap λj=>cH j.H) l=be b ((a.drop f).flatMap λj=>cH j.H) m)) (λk _=>a.length-(intOf k).toNat)
  case atStart=>exact⟨0,l,rfl,by omega,r,ak _ _,rfl⟩
  case round=>
   obtain⟨f,m,rfl,d0,s,p,J⟩:=hrel;rcases Yj f a.length with F|c7
   .obtain⟨d6,d7,c0⟩:=P.j _ _ s.j f F;obtain⟨S,c1,B⟩:=dG a[f].H;have d2:=uq a[f].H B;have c6:=uo a[f].H;rw[B]at c0;have c8:(0:Int)<=↑f:=by omega
    have c9:(↑f:Int) < ↑a.length:=by omega
    have A:ac (be b (a.flatMap λj=>cH j.H) l=be b (cH a[f].H++(a.drop (f+1)).flatMap λj=>cH j.H) m):=by
     grind [List.drop_eq_getElem_cons]
    have N:=Z (xm D a[f].H (λn b2=>O.j n (List.mem_flatMap.2 ⟨a[f],Yy F,b2⟩)) (D.c0 s.j ((Below.refl _ _).alloc (Y4 _) (.cells #[.string ⟨a[f].t.toArray⟩,U a[f].m,.iface S c1] 242))))
    go_wp2_with fail;refine N.j.mono ?_;rintro c4 I (⟨H,z,rfl,a9,b8⟩|⟨a1,z,b0,a0,a4,rfl,a5⟩);rotate_left
    .exact(show bodyPost prog Tryz.f344 (fy b d (be b (a.flatMap λj=>cH j.H) l)) (Exit.panic _) _ I from aC (Ya ⟨a1,A.j.trans (pQ z),(p.B _).u b0,a0,by have:=p.ar;simp at a4;omega,rfl,a5⟩))
    have R:=Z a9;have K:ac (be b (a.flatMap λj=>cH j.H) l=be b ((a.drop (f+1)).flatMap λj=>cH j.H) H):=A.j.trans (pR z);have b9:am b.M d I:=(p.B _).u b8;go_wp2;exact⟨⟨f+1,H,by rfl,by omega,R,b9,K⟩,by simp[intOf];omega⟩
   .have b1:f=a.length:=by omega
    subst b1;have a7:be b (a.flatMap λj=>cH j.H) l=.ok m:=by
     refine J.j.trans ?_;rw[List.drop_length];rfl
    have L:=Z a7;go_wp2;go_end0;exact Y8 ⟨m,L.j,rfl,s.j,p⟩
end
end Go.Proofs.YtjdhaegijjednaaGreatDoor
namespace Go.Proofs.YtjdhaegijjednaaGreatDoor
open Go.RowKit
open Go.Proofs.Tryz
section
variable {j:List Nat}{h d b g:Nat}{f l:Nat->Prop}{t:Zb}{m c w':Zw}
structure bg where
 C:Int
 n:Int
 of:Int
 bD:List Int
 cg:List Int
 fp:Int
 b0:Zb
 m:Int
structure dk where
 s:Zb
 a7:Int
 n:Int
 m:Int
structure br where
 prog:Int
 fn:Int
 jN:Int
 cF:Int
 c2:Int
structure ae where
 s:im
 w:List bg
 A:List dk
 ag:List br
 j:Zb
 av:Int
 L:Int
 O:List Int
def cS:bg:=⟨0,0,0,[],[],0,[],0⟩
def hI:dk:=⟨[],0,0,0⟩
abbrev kW(a:bg)(b:Zv×Zv):Zl:=[U a.C,U a.n,U a.of,b.1,b.2,U a.fp,Zs a.b0,U a.m]
abbrev hH(a:dk):Zl:=[Zs a.s,U a.a7,U a.n,U a.m]
abbrev eq(a:br):Zl:=[U a.prog,U a.fn,U a.jN,U a.cF,U a.c2]
def mq(b:List bg)(c:List (Zv×Zv)):Zl:=(b.zip c).flatMap λa=>kW a.1 a.2
def dI(v:Zv)(a:List Int)(c:Zw):Prop:=c.ownsRow 0 3 1 v a.length (a.map (U))
def kx(v:Zv)(a:Zc)(c:Zw):Prop:=c.ownsRow 0 9 1 v a.length (a.map λb=>Zs b)
structure PV where
 rv:Zv
 nv:Zv
 pv:Zv
 gv:Zv
 ls:List (Zv×Zv)
def PV.b1(a:PV)(d:Nat):List Nat:=d::(a.rv.ownBlock.toList++(a.nv.ownBlock.toList++(a.pv.ownBlock.toList++a.gv.ownBlock.toList)))
structure PV.Nd(V:PV)(d:Nat):Prop where
 r:V.rv.ownBlock≠some d
 n:V.nv.ownBlock≠some d
 p:V.pv.ownBlock≠some d
 g:V.gv.ownBlock≠some d
 rn:∀b,V.rv.ownBlock=some b->V.nv.ownBlock≠some b
 rp:∀b,V.rv.ownBlock=some b->V.pv.ownBlock≠some b
 rg:∀b,V.rv.ownBlock=some b->V.gv.ownBlock≠some b
 np:∀b,V.nv.ownBlock=some b->V.pv.ownBlock≠some b
 ng:∀b,V.nv.ownBlock=some b->V.gv.ownBlock≠some b
 pg:∀b,V.pv.ownBlock=some b->V.gv.ownBlock≠some b
def PV.a8(b:PV):List Nat:=b.ls.flatMap λa=>a.1.ownBlock.toList++a.2.ownBlock.toList
def ae.sz(a:ae):Nat:=a.w.length+a.A.length+a.ag.length+a.O.length+a.j.length+a.av.toNat+a.L.toNat
abbrev pf(a:PV)(b:ae):lQ:=⟨a.rv,a.nv,a.pv,b.j,b.av,b.L,a.gv⟩
structure bk(f:Nat->Prop)(d:Nat)(t:Zb)(h:Nat)(σ:ae)(V:PV)(c:Zw):Prop where
 ai:c.heap[d]? = some (lC t σ.s (pf V σ))
 w:c.ownsRow 0 117 8 V.rv σ.w.length (mq σ.w V.ls)
 A:c.ownsRow 0 119 4 V.nv σ.A.length (σ.A.flatMap hH)
 ag:c.ownsRow 0 288 5 V.pv σ.ag.length (σ.ag.flatMap eq)
 O:dI V.gv σ.O c
 a2:V.ls.length=σ.w.length
 e8:∀(i:Nat) r p,σ.w[i]? = some r->V.ls[i]? = some p->dI p.1 r.bD c/\dI p.2 r.cg c
 nd:V.Nd d
 b7:∀b∈V.a8,b ∉ V.b1 d
 bB:∀b,b∈V.b1 d\/b∈V.a8->¬f b
 aY:∀b,f b->b<c.heap.size
 fin:σ.s.x.fin<=t.length
 c3:σ.s.x.text.length<=2000
 ck:t.length<=2000
 bp:σ.sz<=h
 cn:0<=σ.av/\0<=σ.L
def bC(f:Nat->Prop)(d:Nat)(t:Zb)(h:Nat)(b:ae)(c:Zw):Prop:=∃a,bk f d t h b a c
structure Fr(f:Nat->Prop)(c w':Zw):Prop where
 os:w'.os=c.os
 dX:w'.tape=c.tape
 dU:w'.output=c.output
 ar:c.heap.size<=w'.heap.size
 G:∀k,k<c.heap.size->f k->w'.heap[k]? = c.heap[k]?
def ad(f:Nat->Prop)(b:Nat):Nat->Prop:=λa=>f a\/a=b
theorem mP:ad f b b:=Ya rfl
theorem jD(f:Nat->Prop)(c:Zw):Fr f c c:=⟨rfl,rfl,rfl,Y4 _,λ_ _ _=>rfl⟩
theorem Fr.u{v:Zw}(a:Fr f m v)(b:Fr f v c):Fr f m c:=
 ⟨b.os.trans a.os,b.dX.trans a.dX,b.dU.trans a.dU,Yz a.ar b.ar,λg d e=>(b.G g (Yr d a.ar) e).trans (a.G g d e)⟩
def Fr.b9(a:Fr l c w')(h:∀b,b<c.heap.size->f b->l b):Fr f c w':=⟨a.os,a.dX,a.dU,a.ar,λe d g=>a.G e d (h e d g)⟩
def Fr.b3(a:Fr (ad f b) c w'):Fr f c w':=a.b9 λ_ _=>Y8
def rG(a:am j c w')(g:∀e∈j,e<c.heap.size->¬f e):Fr f c w':=⟨a.os,a.dX,a.dU,a.ar,λd b h=>a.G d b λi=>g d i b h⟩
def Fr.c7(a:Fr f m c)(b:am j c w')(i:∀g∈j,f g->m.heap.size<=g):Fr f m w':=
 ⟨b.os.trans a.os,b.dX.trans a.dX,b.dU.trans a.dU,Yz a.ar b.ar,λe d h=>(b.G e (Yr d a.ar) (λk=>by grind)).trans (a.G e d h)⟩
def Fr.B(b:Fr f m c)(a:Obj):Fr f m (c.alloc a):=b.c7 ((ak [] c).B a) (by simp)
theorem Fr.aq(a:Fr f m c):Fr f m c.drew:=a.c7 ((ak [] c).aq) (by simp)
theorem dI.a8{v:Zv}{a:List Int}(b:dI v a c)(e:am j c w')(d:∀g,v.ownBlock=some g->g ∉ j):dI v a w':=bi b e d
theorem kx.a8{v:Zv}{a:Zc}(b:kx v a c)(e:am j c w')(d:∀g,v.ownBlock=some g->g ∉ j):kx v a w':=bi b e d
def oy{b:Nat}{d:TypeId}{i h:Nat}{v:Zv}{j:Zl}(a:c.ownsRow b d i v h j)(p:Fr f c w')(o:∀g,v.ownBlock=some g->f g):w'.ownsRow b d i v h j:=by
 refine⟨a.1,?_⟩;rcases a.2 with a|⟨g,k,l,rfl,m,e,n⟩
 .simp_all
 .exact Ya ⟨g,k,l,rfl,m,(p.G _ (ap e) (o g rfl)).trans e,n⟩
theorem hg{a:PV}(b:a.nv.ownBlock=some g):g∈a.b1 d:=by simp[PV.b1,b]
theorem hP{a:PV}(b:a.rv.ownBlock=some g):g∈a.b1 d:=by simp[PV.b1,b]
theorem iK{a:PV}(b:a.pv.ownBlock=some g):g∈a.b1 d:=by simp[PV.b1,b]
theorem ji{a:PV}(b:a.gv.ownBlock=some g):g∈a.b1 d:=by simp[PV.b1,b]
def hu{b:PV}{d:Nat}{a:Zv×Zv}(c:b.ls[d]? = some a)(e:a.1.ownBlock=some g\/a.2.ownBlock=some g):g∈b.a8:=by
 refine List.mem_flatMap.2 ⟨a,Yh c,?_⟩;simp_all
def bk.lt{k:ae}{i:PV}(e:bk f d t h k i c):∀b,b∈i.b1 d\/b∈i.a8->b<c.heap.size:=by
 intro b a;rcases a with a|a
 .unfold PV.b1 at a;simp only[Yg,Yn,Option.mem_toList]at a;rcases a with rfl|a|a|a|a
  .exact ap e.ai
  .exact(hn e.w a).2
  .exact(hn e.A a).2
  .exact(hn e.ag a).2
  .exact(hn e.O a).2
 .obtain⟨q,p,g⟩:=List.mem_flatMap.1 a;obtain⟨j,n,rfl⟩:=List.getElem_of_mem p;have o:j<k.w.length:=by rw[<-e.a2];omega
  obtain⟨l,m⟩:=e.e8 j _ _ (Yd o) (Yd n);simp only[Yn,Option.mem_toList]at g;rcases g with g|g
  .exact(hn l g).2
  .exact(hn m g).2
def bk.gE{q:ae}{m:PV}(a:bk f d t h q m c)(k:am j c w')(u:∀B∈j,f B)(v:∀b,l b->f b\/c.heap.size<=b)(w:∀b,l b->b<w'.heap.size):bk l d t h q m w':=by
 have i:∀b,b∈m.b1 d\/b∈m.a8->b ∉ j:=λb n x=>a.bB b n (u b x);have E:=a.lt;refine⟨(k.G _ (ap a.ai) (i d (Y8 (by simp[PV.b1])))).trans a.ai,bi a.w k λg e=>i g (Y8 (hP e)),bi a.A k λg e=>i g (Y8 (hg e)),bi a.ag k λg e=>i g (Y8 (iK e)),a.O.a8 k λg e=>i g (Y8 (ji e)),a.a2,?_,a.nd,a.b7,?_,w,a.fin,a.c3,a.ck,a.bp,a.cn⟩
 .intro A D C y o;obtain⟨r,s⟩:=a.e8 A D C y o;exact⟨r.a8 k λg e=>i g (Ya (hu o (Y8 e))),s.a8 k λg e=>i g (Ya (hu o (Ya e)))⟩
 .intro b n z;rcases v b z with p|p
  .exact a.bB b n p
  grind
def bC.gE{a:ae}(g:bC f d t h a c)(o:am j c w')(i:∀p∈j,f p)(m:∀b,l b->f b\/c.heap.size<=b)(n:∀b,l b->b<w'.heap.size):bC l d t h a w':=by
 obtain⟨e,k⟩:=g;exact⟨e,k.gE o i m n⟩
def bC.aY{g:ae}(a:bC f d t h g c):∀b,f b->b<c.heap.size:=by
 obtain⟨i,e⟩:=a;exact e.aY
def bC.B{i:ae}(g:bC f d t h i c)(e:Obj):bC (ad f c.heap.size) d t h i (c.alloc e):=by
 refine g.gE ((ak [] c).B e) (by simp) ?_ ?_
 .intro b a;rcases a with a|rfl;all_goals simp_all
 .intro b a;have j:(c.alloc e).heap.size=c.heap.size+1:=by simp
  rcases a with a|rfl
  .have:=g.aY b a;omega
  omega
def bC.b9{i:ae}(e:bC f d t h i c)(g:∀b,l b->f b):bC l d t h i c:=
 e.gE (ak [] c) (by simp) (λb a=>Y8 (g b a)) (λb a=>e.aY b (g b a))
def bC.b3{a:ae}(e:bC (ad f b) d t h a c):bC f d t h a c:=e.b9 λ_=>Y8
def bC.F{g:ae}(a:bC f d t h g c)(e:am j c w')(i:∀l∈j,f l):bC f d t h g w':=
 a.gE e i (λ_=>Y8) (λb k=>Yr (a.aY b k) e.ar)
theorem bC.aq{a:ae}(b:bC f d t h a c):bC f d t h a c.drew:=b.F ((ak [] c).aq) (by simp)
def bC.a0{N':Nat}{b:ae}(g:bC f d t h b c)(i:h<=N'):bC f d t N' b c:=by
 obtain⟨e,a⟩:=g;exact⟨e,{ a with bp:=Yz a.bp i }⟩
def bk.al{g:ae}{i:PV}(b:bk f d t h g i c) :
  c.cell? (Zd d 1)=some (U g.s.x.C)/\c.cell? (Zd d 2)=some (Zs g.s.x.text)/\c.cell? (Zd d 3)=some (U g.s.x.m)/\c.cell? (Zd d 4)=some (U g.s.x.fin)/\c.cell? (Zd d 5)=some (U g.s.x.n)/\c.cell? (Zd d 6)=some (U g.s.x.e)/\c.cell? (Zd d 7)=some i.rv/\c.cell? (Zd d 8)=some i.nv/\c.cell? (Zd d 9)=some i.pv/\c.cell? (Zd d 10)=some (Zs g.j)/\c.cell? (Zd d 11)=some (U g.s.e)/\c.cell? (Zd d 12)=some (U g.s.a)/\c.cell? (Zd d 13)=some (U g.av)/\c.cell? (Zd d 14)=some (U g.L)/\c.cell? (Zd d 15)=some i.gv/\(∀j,c.frozen? ⟨d,j,none⟩=false)/\d<c.heap.size:=
 ⟨aU b.ai rfl,aU b.ai rfl,aU b.ai rfl,aU b.ai rfl,aU b.ai rfl,aU b.ai rfl,aU b.ai rfl,aU b.ai rfl,aU b.ai rfl,aU b.ai rfl,aU b.ai rfl,aU b.ai rfl,aU b.ai rfl,aU b.ai rfl,aU b.ai rfl,cK b.ai,ap b.ai⟩
def bk.bR{p:ae}{i:PV}{s:im}(a:bk f d t h p i c)(l:w'.heap[d]? = some (lC t s (pf i p)))(e:am [d] c w')(w:s.x.fin<=t.length)(z:s.x.text.length<=2000):bk f d t h { p with s:=s } i w':=by
 have k:∀{v:Zv},v.ownBlock≠some d->∀g,v.ownBlock=some g->g ∉ [d]:=λE g j m=>by
  simp_all
 have q:∀b,b∈i.a8->b ∉ [d]:=λb l m=>by
  simp only[Yc]at m;exact a.b7 b l (by rw[m];simp[PV.b1])
 refine⟨l,bi a.w e (k a.nd.r),bi a.A e (k a.nd.n),bi a.ag e (k a.nd.p),a.O.a8 e (k a.nd.g),a.a2,?_,a.nd,a.b7,a.bB,λb A=>Yr (a.aY b A) e.ar,w,z,a.ck,a.bp,a.cn⟩;intro B D C y o;obtain⟨r,u⟩:=a.e8 B D C y o;exact⟨r.a8 e λg j=>q g (hu o (Y8 j)),u.a8 e λg j=>q g (hu o (Ya j))⟩
def bk.fr{j:ae}{b:PV}(e:bk f d t h j b c)(g:am [d] c w'):Fr f c w':=
 rG g λi a _=>by
  simp only[Yc]at a;exact e.bB i (Y8 (by rw[a];simp[PV.b1]))
end
section
def GP(h:Nat->Prop)(d:Nat)(c:Zb)(g:Nat)(f:ae)(v:Zv)(b:Zw)(e:Ending)(a:Zw):Prop:=e=.returned v/\bC h d c g f a/\Fr h b a
def bL(c b:Int)(a:ae):ae:={ a with s:=⟨a.s.x,(hk a.s.e a.s.a c b).1,(hk a.s.e a.s.a c b).2⟩ }
def dj(a:ae):ae:={ a with s:=jQ a.s }
def aW(c:Zb)(a:ae):ae:={ a with s:=pF c a.s }
def aH(a:ae)(b:Nat)(c:Zb):Bool:=hB a.s.x a.s.e b c
def af(c:Zb)(b:Nat)(d:Zb)(a:ae):ae:={ a with s:=mE c a.s b d }
def cV(c:Zb)(a:ae):dO×ae:=((ig c a.s).1,{ a with s:=(ig c a.s).2 })
def bP(a:ae)(b:Zb):Int:=lq (a.A.map (·.s)) b
def uR{c:Zb}{a:Nat}(f:c.length<=2000):(fL c a).text.length<=2000:=by
 unfold fL;cases d:Mar.c5 (c.drop (eJ c a)) (eJ c a)with
 |error e=>simp
 |ok b=>
  have:=wY d;grind
def DH{c:Zb}{a:im}{e:Nat}{f:Zb}(b:c.length<=2000)(d:a.x.text.length<=2000):(mE c a e f).x.text.length<=2000:=by
 unfold mE;split
 .exact uR b
 .exact d
def yM{c:Zb}{a:im}(d:c.length<=2000)(b:a.x.text.length<=2000):(ig c a).1.text.length<=2000/\(ig c a).2.x.text.length<=2000:=by
 unfold ig;split
 .grind [cp]
 .split
  .exact⟨b,uR d⟩
  .exact⟨by simp[cp],b⟩
variable {h : Nat -> Prop} {d g : Nat} {c : Zb} {a : ae} {b : Zw}
def jo(m:bC h d c g a b)(i f:Int):Calls prog 51 #[Zp d,U i,U f] b (GP h d c g (bL i f a) (.tuple #[]) b):=by
 obtain⟨k,e⟩:=m;refine(ue e.ai i f).mono ?_;rintro n o ⟨rfl,l,j⟩;exact⟨rfl,⟨k,e.bR (s:=⟨a.s.x,_,_⟩) l j e.fin e.c3⟩,e.fr j⟩
def nX(k:bC h d c g a b):Calls prog 84 #[Zp d] b (GP h d c g (dj a) (.tuple #[]) b):=by
 obtain⟨i,e⟩:=k;refine(tR e.ai).mono ?_;rintro l m ⟨rfl,j,f⟩;exact⟨rfl,⟨i,e.bR (s:=jQ a.s) j f e.fin e.c3⟩,e.fr f⟩
def gZ(k:bC h d c g a b):Calls prog 47 #[Zp d] b (GP h d c g (aW c a) (.tuple #[]) b):=by
 obtain⟨i,e⟩:=k;refine(uS e.ai e.fin e.ck).mono ?_;rintro l m ⟨rfl,j,f⟩;exact⟨rfl,⟨i,e.bR (s:=pF c a.s) j f (uQ e.fin) (uR e.ck)⟩,e.fr f⟩
def gs(k:bC h d c g a b)(e:Nat)(f:Zb):Calls prog 81 #[Zp d,U e,Zs f] b λi l=>i=.returned (.bool (aH a e f))/\l=b:=by
 obtain⟨m,j⟩:=k;exact xg j.ai e f
def cY(n:bC h d c g a b)(f:Nat)(i:Zb):Calls prog 141 #[Zp d,U f,Zs i] b (GP h d c g (af c f i a) (.tuple #[]) b):=by
 obtain⟨k,e⟩:=n;refine(DJ e.ai e.fin e.ck f i).mono ?_;rintro o p ⟨rfl,m,j,l⟩;exact⟨rfl,⟨k,e.bR m j l (DH e.ck e.c3)⟩,e.fr j⟩
def yN(m:bC h d c g a b):Calls prog 152 #[Zp d] b λf n=>GP h d c g (cV c a).2 (.agg (fx (cV c a).1)) b f n/\(cV c a).1.text.length<=2000:=by
 obtain⟨j,e⟩:=m;refine(Sv e.ai e.fin e.ck).mono ?_;rintro f o ⟨rfl,l,i,k⟩;exact⟨⟨rfl,⟨j,e.bR l i k (yM e.ck e.c3).2⟩,e.fr i⟩,(yM e.ck e.c3).1⟩
def qM{e:Type}{f:e->Zl}{k:Nat}(g:∀d,(f d).length=k):∀(c:List e) (a b:Nat),b<k->(c.flatMap f)[a*k+b]? = (c[a]?).bind λd=>(f d)[b]?:=by
 intro c;induction c with
 |nil=>simp
 |cons d c i=>
  intro a b h;rw[YD];cases a with
  |zero=>grind
  |succ a=>
   rw[Yw (by grind),g,show (a+1)*k+b-k=a*k+b by grind,i a b h];rfl
def ka{b:Zw}{j:Nat}{k:TypeId}{n g:Nat}{v:Zv}{h:Zl}(e:b.ownsRow j k n v g h){i:Nat}{x:Zv}(f:h[i]? = some x):∃a c,v=.slice (some ⟨a,0,none⟩) g c/\b.cell? (Zd a i)=some x/\(∀i,b.frozen? ⟨a,i,none⟩=false)/\a<b.heap.size:=by
 have m:=(YB.1 f).1;rcases e.2 with⟨rfl,l⟩|⟨a,c,o,rfl,p,d,q,r,s,t⟩
 .rw[e.1,l]at m;omega
 .exact⟨a,c,rfl,bJ d (by grind) f,cK d,ap d⟩
def xp{b:Zw}{h:Nat}{j:TypeId}{e d:Nat}{v:Zv}{g:Zl}(l:b.ownsRow h j e v d g)(f:Nat->Zv)(o:∀a,a<d->g[a*e]? = some (f a)):oP b v d e f:=by
 rcases l.2 with⟨rfl,m⟩|⟨k,i,p,rfl,q,n,r,s,t,u⟩
 .subst m;exact⟨none,0,rfl,λa c=>absurd c (by omega)⟩
 .refine⟨_,i,rfl,λa c=>?_⟩;exact⟨k,rfl,bJ n (by grind) (o a c)⟩
def dI.b8{v:Zv}{a:List Int}(d:dI v a b):oP b v a.length 1 λc=>U (a.getD c 0):=
 xp d _ λc e=>by grind
def kx.b8{v:Zv}{a:Zc}(d:kx v a b):oP b v a.length 1 λc=>.string ⟨(a.getD c []).toArray⟩:=
 xp d _ λc e=>by grind
def oj{i:PV}(j:bk h d c g a i b)(q:g<=1000000000)(e:Zb):Calls prog 90 #[i.nv,Zs e] b λm p=>m=.returned (U (bP a e))/\p=b:=by
 have n:=j.bp;unfold ae.sz at n;refine HY (l:=a.A.map (·.s)) ?_ (by grind) e;rw[YU];refine xp j.A _ λo r=>?_;have:=qM (f:=hH) (k:=4) (λ_=>rfl) a.A o 0 (by omega);simp_all
def pD{u:PV}(j:bk h d c g a u b){i:Nat}(K:i<a.A.length):∃e o,u.nv=.slice (some ⟨e,0,none⟩) a.A.length o/\b.cell? ⟨e,i*4,none⟩=some (.string ⟨(a.A.getD i hI).s.toArray⟩)/\b.cell? ⟨e,i*4+1,none⟩=some (U (a.A.getD i hI).a7)/\b.cell? ⟨e,i*4+2,none⟩=some (U (a.A.getD i hI).n)/\b.cell? ⟨e,i*4+3,none⟩=some (U (a.A.getD i hI).m)/\(∀i,b.frozen? ⟨e,i,none⟩=false)/\e<b.heap.size/\e≠d:=by
 have m:=λD B=>qM (f:=hH) (k:=4) (λ_=>rfl) a.A i D B;have l:a.A[i]? = some (a.A.getD i hI):=by grind
 obtain⟨e,o,p,v,A,C⟩:=ka j.A (m 0 (by omega) |>.trans (by rw[l];rfl));obtain⟨H,E,q,w,_⟩:=ka j.A (m 1 (by omega) |>.trans (by rw[l];rfl));obtain⟨I,F,r,x,_⟩:=ka j.A (m 2 (by omega) |>.trans (by rw[l];rfl));obtain⟨J,G,t,y,_⟩:=ka j.A (m 3 (by omega) |>.trans (by rw[l];rfl));rw[p]at q r t;simp at q r t;obtain⟨rfl,rfl⟩:=q;obtain⟨rfl,rfl⟩:=r;obtain⟨rfl,rfl⟩:=t;exact⟨e,o,p,v,w,x,y,A,C,λz=>j.nd.n (by rw[p,z];rfl)⟩
theorem qL{b:Zb}(c:0<=bP a b):(bP a b).toNat<a.A.length:=by
 unfold bP lq at *
 split at c
 .rename_i d;rw[Y9 d];grind [List.length_map]
 omega
end
section
variable {X : Nat -> Prop} {a d : Nat} {e : Zb} {b : ae} {c : Zw}
theorem ep(a c b:Nat):(Value.slice (some ⟨a,0,none⟩) c b).ownBlock=some a:=rfl
def bk.j3{k:PV}{q:Zw}{m:dk}{l s:Nat}(g:bk X a e d b k c)(H:c.grownBy q k.nv.ownBlock)(R:q.ownsRow 0 119 4 (.slice (some ⟨l,0,none⟩) (b.A.length+1) s) (b.A.length+1) (b.A.flatMap hH++hH m))(y:k.nv.ownBlock=some l\/l=c.heap.size)(P:l<q.heap.size) :
  bk X a e (d+1) { b with A:=b.A++[m] } { k with nv:=.slice (some ⟨l,0,none⟩) (b.A.length+1) s } (q.setCell ⟨a,8,none⟩ (.slice (some ⟨l,0,none⟩) (b.A.length+1) s)):=by
 have B:=fs H;have K:am [a] q (q.setCell ⟨a,8,none⟩ (.slice (some ⟨l,0,none⟩) (b.A.length+1) s)):=(ak [a] q).ay (p:=⟨a,8,none⟩) (by simp) _;have M:=g.lt;have I:l≠a:=by
  rcases y with j|j
  .intro i;exact g.nd.n (by grind)
  .have:=M a (Y8 (by simp[PV.b1]));omega
 have w:∀f,f∈k.b1 a\/f∈k.a8->k.nv.ownBlock≠some f->l≠f:=by
  grind
 have r:am (k.nv.ownBlock.toList++[a]) c (q.setCell ⟨a,8,none⟩ (.slice (some ⟨l,0,none⟩) (b.A.length+1) s)):=B.cons K (λm o=>by grind) (λm o=>by grind);have t:∀f,k.nv.ownBlock≠some f->f≠a->f ∉ k.nv.ownBlock.toList++[a]:=λf u O=>by simp_all
 have L:∀f∈k.a8,k.nv.ownBlock≠some f/\f≠a:=λf h=>⟨λi=>g.b7 f h (hg i),λi=>g.b7 f h (by rw[i];simp[PV.b1])⟩;have G:q.heap[a]? = c.heap[a]?:=B.G a (ap g.ai) (by simpa using g.nd.n);refine⟨bu (i:=8) (G.trans g.ai) _,bi g.w r λf h=>t f (g.nd.rn f h) (λi=>g.nd.r (by simp_all)),?_,bi g.ag r λf h=>t f (λi=>g.nd.np f i h) (λi=>g.nd.p (by simp_all)),g.O.a8 r λf h=>t f (λi=>g.nd.ng f i h) (λi=>g.nd.g (by simp_all)),g.a2,?_,?_,?_,?_,λf p=>Yr (g.aY f p) r.ar,g.fin,g.c3,g.ck,?_,g.cn⟩
 .grind [bi,ep]
 .intro A N C J z;obtain⟨D,E⟩:=g.e8 A N C J z;have v:=λf h=>L f (hu z h);exact⟨D.a8 r λf h=>t f (v f (Y8 h)).1 (v f (Y8 h)).2,E.a8 r λf h=>t f (v f (Ya h)).1 (v f (Ya h)).2⟩
 .refine⟨g.nd.r,?_,g.nd.p,g.nd.g,?_,g.nd.rp,g.nd.rg,?_,?_,g.nd.pg⟩
  .simp[ep,I]
  .intro f h i;exact w f (Y8 (hP h)) (g.nd.rn f h) (by simpa[ep]using i)
  .intro f h i;exact w f (Y8 (iK i)) (λu=>g.nd.np f u i) (by simpa[ep]using h)
  .intro f h i;exact w f (Y8 (ji i)) (λu=>g.nd.ng f u i) (by simpa[ep]using h)
 .intro f h o;have x:f∈k.a8:=h;unfold PV.b1 at o;simp only[ep,Yg,Yn,Option.mem_toList,Yu]at o;rcases o with j|j|j|j|j
  .grind
  .exact g.b7 f x (hP j)
  .grind
  .exact g.b7 f x (iK j)
  .exact g.b7 f x (ji j)
 .intro f h p;rcases h with o|h
  .unfold PV.b1 at o;simp only[ep,Yg,Yn,Option.mem_toList,Yu]at o;rcases o with j|j|j|j|j
   .exact g.bB f (Y8 (by rw[j];simp[PV.b1])) p
   .exact g.bB f (Y8 (hP j)) p
   .rcases y with F|F
    .exact g.bB f (Y8 (hg (by grind))) p
    .have:=g.aY f p;omega
   .exact g.bB f (Y8 (iK j)) p
   .exact g.bB f (Y8 (ji j)) p
  .exact g.bB f (Ya h) p
 .have:=g.bp;grind [ae.sz]
def bk.li{j:PV}{r:Zw}{D:Nat->Prop}{z:bg}{o p:Zv}{l A:Nat}(g:bk D a e d b j c)(s:∀f,X f->D f)(a0:dI o z.bD c)(h:dI p z.cg c)(a1:∀f,o.ownBlock=some f\/p.ownBlock=some f->D f/\¬X f)(a2:c.grownBy r j.rv.ownBlock)(a4:r.ownsRow 0 117 8 (.slice (some ⟨l,0,none⟩) (b.w.length+1) A) (b.w.length+1) (mq b.w j.ls++kW z (o,p)))(F:j.rv.ownBlock=some l\/l=c.heap.size)(b1:l<r.heap.size) :
  bk X a e (d+1) { b with w:=b.w++[z] } { j with rv:=.slice (some ⟨l,0,none⟩) (b.w.length+1) A,ls:=j.ls++[(o,p)] } (r.setCell ⟨a,7,none⟩ (.slice (some ⟨l,0,none⟩) (b.w.length+1) A)):=by
 have J:=fs a2;have K:am [a] r (r.setCell ⟨a,7,none⟩ (.slice (some ⟨l,0,none⟩) (b.w.length+1) A)):=(ak [a] r).ay (p:=⟨a,7,none⟩) (by simp) _;have a6:=g.lt;have a3:l≠a:=by
  rcases F with k|k
  .intro i;exact g.nd.r (by grind)
  .have:=a6 a (Y8 (by simp[PV.b1]));omega
 have E:∀f,f∈j.b1 a\/f∈j.a8->j.rv.ownBlock≠some f->l≠f:=by
  grind
 have u:am (j.rv.ownBlock.toList++[a]) c (r.setCell ⟨a,7,none⟩ (.slice (some ⟨l,0,none⟩) (b.w.length+1) A)):=J.cons K (λa7 m=>by grind) (λa7 m=>by grind);have y:∀f,j.rv.ownBlock≠some f->f≠a->f ∉ j.rv.ownBlock.toList++[a]:=λf x b0=>by simp_all
 have a5:∀f∈j.a8,j.rv.ownBlock≠some f/\f≠a:=λf h=>⟨λi=>g.b7 f h (hP i),λi=>g.b7 f h (by rw[i];simp[PV.b1])⟩;have L:∀f,o.ownBlock=some f\/p.ownBlock=some f->f ∉ j.b1 a/\l≠f:=by
  intro f h;have w:=(a1 f h).1;have a9:f ∉ j.b1 a:=λm=>g.bB f (Y8 m) w;refine⟨a9,λi=>?_⟩;rcases F with k|k
  .grind [hP]
  .have:=g.aY f w;omega
 have M:∀f,o.ownBlock=some f\/p.ownBlock=some f->f ∉ j.rv.ownBlock.toList++[a]:=λf h=>y f (λi=>(L f h).1 (hP i)) (λi=>(L f h).1 (by rw[i];simp[PV.b1]));have S:r.heap[a]? = c.heap[a]?:=J.G a (ap g.ai) (by simpa using g.nd.r);refine⟨bu (i:=7) (S.trans g.ai) _,?_,bi g.A u λf h=>y f (λi=>g.nd.rn f i h) (λi=>g.nd.n (by simp_all)),bi g.ag u λf h=>y f (λi=>g.nd.rp f i h) (λi=>g.nd.p (by simp_all)),g.O.a8 u λf h=>y f (λi=>g.nd.rg f i h) (λi=>g.nd.g (by simp_all)),?_,?_,?_,?_,?_,λf q=>Yr (g.aY f (s f q)) u.ar,g.fin,g.c3,g.ck,?_,g.cn⟩
 .have:=bi a4 K (λf h=>by grind [ep]);have k:mq (b.w++[z]) (j.ls++[(o,p)])=mq b.w j.ls++kW z (o,p):=by
   unfold mq;rw[List.zip_append g.a2.symm,YK];simp
  simp_all
 .simp[g.a2]
 .intro C a8 N v t;simp only[List.getElem?_append]at v t;by_cases H:C<b.w.length
  .rw[Y9 H]at v;rw[Y9 (by rw[g.a2];omega)]at t;obtain⟨O,P⟩:=g.e8 C a8 N v t;have w:=λf h=>a5 f (hu t h);exact⟨O.a8 u λf h=>y f (w f (Y8 h)).1 (w f (Y8 h)).2,P.a8 u λf h=>y f (w f (Ya h)).1 (w f (Ya h)).2⟩
  .rw[Y2 H]at v;rw[Y2 (by rw[g.a2];omega)]at t;have I:C-b.w.length=0:=by
    grind
   rw[I]at v;rw[g.a2,I]at t;simp at v t;subst v t;exact⟨a0.a8 u λf h=>M f (Y8 h),h.a8 u λf h=>M f (Ya h)⟩
 .refine⟨?_,g.nd.n,g.nd.p,g.nd.g,?_,?_,?_,g.nd.np,g.nd.ng,g.nd.pg⟩
  .simp[ep,a3]
  .intro f h i;exact E f (Y8 (hg i)) (λx=>g.nd.rn f x i) (by simpa[ep]using h)
  .intro f h i;exact E f (Y8 (iK i)) (λx=>g.nd.rp f x i) (by simpa[ep]using h)
  .intro f h i;exact E f (Y8 (ji i)) (λx=>g.nd.rg f x i) (by simpa[ep]using h)
 .intro f h m;have G:f∈j.a8\/(o.ownBlock=some f\/p.ownBlock=some f):=by
   unfold PV.a8 at h ⊢;simp only[YK,Yn,YD,List.flatMap_nil,YH,Option.mem_toList]at h;omega
  unfold PV.b1 at m;simp only[ep,Yg,Yn,Option.mem_toList,Yu]at m;rcases G with B|B
  .rcases m with k|k|k|k|k
   .grind
   .grind
   .exact g.b7 f B (hg k)
   .exact g.b7 f B (iK k)
   .exact g.b7 f B (ji k)
  grind [hg,iK,ji]
 .intro f h q;rcases h with m|h
  .unfold PV.b1 at m;simp only[ep,Yg,Yn,Option.mem_toList,Yu]at m;rcases m with k|k|k|k|k
   .exact g.bB f (Y8 (by rw[k];simp[PV.b1])) (s f q)
   .rcases F with R|R
    .exact g.bB f (Y8 (hP (by grind))) (s f q)
    .have:=g.aY f (s f q);omega
   .exact g.bB f (Y8 (hg k)) (s f q)
   .exact g.bB f (Y8 (iK k)) (s f q)
   .exact g.bB f (Y8 (ji k)) (s f q)
  .have G:f∈j.a8\/(o.ownBlock=some f\/p.ownBlock=some f):=by
    unfold PV.a8 at h ⊢;simp only[YK,Yn,YD,List.flatMap_nil,YH,Option.mem_toList]at h;omega
   rcases G with h|h
   .exact g.bB f (Ya h) (s f q)
   simp_all
 .have:=g.bp;grind [ae.sz]
def bk.lg{j:PV}{o:Zw}{z:Int}{l q:Nat}(g:bk X a e d b j c)(F:c.grownBy o j.gv.ownBlock)(R:o.ownsRow 0 3 1 (.slice (some ⟨l,0,none⟩) (b.O.length+1) q) (b.O.length+1) (b.O.map (U)++[U z]))(v:j.gv.ownBlock=some l\/l=c.heap.size)(P:l<o.heap.size) :
  bk X a e (d+1) { b with O:=b.O++[z] } { j with gv:=.slice (some ⟨l,0,none⟩) (b.O.length+1) q } (o.setCell ⟨a,15,none⟩ (.slice (some ⟨l,0,none⟩) (b.O.length+1) q)):=by
 have y:=fs F;have I:am [a] o (o.setCell ⟨a,15,none⟩ (.slice (some ⟨l,0,none⟩) (b.O.length+1) q)):=(ak [a] o).ay (p:=⟨a,15,none⟩) (by simp) _;have K:=g.lt;have G:l≠a:=by
  rcases v with i|i
  .intro k;exact g.nd.g (by grind)
  .have:=K a (Y8 (by simp[PV.b1]));omega
 have t:∀f,f∈j.b1 a\/f∈j.a8->j.gv.ownBlock≠some f->l≠f:=by
  grind
 have p:am (j.gv.ownBlock.toList++[a]) c (o.setCell ⟨a,15,none⟩ (.slice (some ⟨l,0,none⟩) (b.O.length+1) q)):=y.cons I (λL m=>by grind) (λL m=>by grind);have r:∀f,j.gv.ownBlock≠some f->f≠a->f ∉ j.gv.ownBlock.toList++[a]:=λf N O=>by simp_all
 have J:∀f∈j.a8,j.gv.ownBlock≠some f/\f≠a:=λf h=>⟨λk=>g.b7 f h (ji k),λk=>g.b7 f h (by rw[k];simp[PV.b1])⟩;have E:o.heap[a]? = c.heap[a]?:=y.G a (ap g.ai) (by simpa using g.nd.g);refine⟨bu (i:=15) (E.trans g.ai) _,bi g.w p λf h=>r f (g.nd.rg f h) (λk=>g.nd.r (by simp_all)),bi g.A p λf h=>r f (g.nd.ng f h) (λk=>g.nd.n (by simp_all)),bi g.ag p λf h=>r f (g.nd.pg f h) (λk=>g.nd.p (by simp_all)),?_,g.a2,?_,?_,?_,?_,λf n=>Yr (g.aY f n) p.ar,g.fin,g.c3,g.ck,?_,g.cn⟩
 .grind [bi,ep,dI]
 .intro x M A H w;obtain⟨B,C⟩:=g.e8 x M A H w;have s:=λf h=>J f (hu w h);exact⟨B.a8 p λf h=>r f (s f (Y8 h)).1 (s f (Y8 h)).2,C.a8 p λf h=>r f (s f (Ya h)).1 (s f (Ya h)).2⟩
 .refine⟨g.nd.r,g.nd.n,g.nd.p,?_,g.nd.rn,g.nd.rp,?_,g.nd.np,?_,?_⟩
  .simp[ep,G]
  .intro f h k;exact t f (Y8 (hP h)) (g.nd.rg f h) (by simpa[ep]using k)
  .intro f h k;exact t f (Y8 (hg h)) (g.nd.ng f h) (by simpa[ep]using k)
  .intro f h k;exact t f (Y8 (iK h)) (g.nd.pg f h) (by simpa[ep]using k)
 .intro f h m;have u:f∈j.a8:=h;unfold PV.b1 at m;simp only[ep,Yg,Yn,Option.mem_toList,Yu]at m;rcases m with i|i|i|i|i
  .grind
  .exact g.b7 f u (hP i)
  .exact g.b7 f u (hg i)
  .exact g.b7 f u (iK i)
  grind
 .intro f h n;rcases h with m|h
  .unfold PV.b1 at m;simp only[ep,Yg,Yn,Option.mem_toList,Yu]at m;rcases m with i|i|i|i|i
   .exact g.bB f (Y8 (by rw[i];simp[PV.b1])) n
   .exact g.bB f (Y8 (hP i)) n
   .exact g.bB f (Y8 (hg i)) n
   .exact g.bB f (Y8 (iK i)) n
   .rcases v with D|D
    .exact g.bB f (Y8 (ji (by grind))) n
    .have:=g.aY f n;omega
  .exact g.bB f (Ya h) n
 .have:=g.bp;grind [ae.sz]
def bk.k9{k:PV}{q:Zw}{p:List br}{l s:Nat}(g:bk X a e d b k c)(H:c.grownBy q k.pv.ownBlock)(S:q.ownsRow 0 288 5 (.slice (some ⟨l,0,none⟩) (b.ag.length+p.length) s) (b.ag.length+p.length) (b.ag.flatMap eq++p.flatMap eq))(y:k.pv.ownBlock=some l\/l=c.heap.size)(R:l<q.heap.size) :
  bk X a e (d+p.length) { b with ag:=b.ag++p } { k with pv:=.slice (some ⟨l,0,none⟩) (b.ag.length+p.length) s } (q.setCell ⟨a,9,none⟩ (.slice (some ⟨l,0,none⟩) (b.ag.length+p.length) s)):=by
 have B:=fs H;have K:am [a] q (q.setCell ⟨a,9,none⟩ (.slice (some ⟨l,0,none⟩) (b.ag.length+p.length) s)):=(ak [a] q).ay (p:=⟨a,9,none⟩) (by simp) _;have M:=g.lt;have I:l≠a:=by
  rcases y with i|i
  .intro j;exact g.nd.p (by grind)
  .have:=M a (Y8 (by simp[PV.b1]));omega
 have v:∀f,f∈k.b1 a\/f∈k.a8->k.pv.ownBlock≠some f->l≠f:=by
  grind
 have r:am (k.pv.ownBlock.toList++[a]) c (q.setCell ⟨a,9,none⟩ (.slice (some ⟨l,0,none⟩) (b.ag.length+p.length) s)):=B.cons K (λN m=>by grind) (λN m=>by grind);have t:∀f,k.pv.ownBlock≠some f->f≠a->f ∉ k.pv.ownBlock.toList++[a]:=λf x P=>by simp_all
 have L:∀f∈k.a8,k.pv.ownBlock≠some f/\f≠a:=λf h=>⟨λj=>g.b7 f h (iK j),λj=>g.b7 f h (by rw[j];simp[PV.b1])⟩;have G:q.heap[a]? = c.heap[a]?:=B.G a (ap g.ai) (by simpa using g.nd.p);refine⟨bu (i:=9) (G.trans g.ai) _,bi g.w r λf h=>t f (g.nd.rp f h) (λj=>g.nd.r (by simp_all)),bi g.A r λf h=>t f (g.nd.np f h) (λj=>g.nd.n (by simp_all)),?_,g.O.a8 r λf h=>t f (λj=>g.nd.pg f j h) (λj=>g.nd.g (by simp_all)),g.a2,?_,?_,?_,?_,λf o=>Yr (g.aY f o) r.ar,g.fin,g.c3,g.ck,?_,g.cn⟩
 .grind [bi,ep]
 .intro A O C J z;obtain⟨D,E⟩:=g.e8 A O C J z;have u:=λf h=>L f (hu z h);exact⟨D.a8 r λf h=>t f (u f (Y8 h)).1 (u f (Y8 h)).2,E.a8 r λf h=>t f (u f (Ya h)).1 (u f (Ya h)).2⟩
 .refine⟨g.nd.r,g.nd.n,?_,g.nd.g,g.nd.rn,?_,g.nd.rg,?_,g.nd.ng,?_⟩
  .simp[ep,I]
  .intro f h j;exact v f (Y8 (hP h)) (g.nd.rp f h) (by simpa[ep]using j)
  .intro f h j;exact v f (Y8 (hg h)) (g.nd.np f h) (by simpa[ep]using j)
  .intro f h j;exact v f (Y8 (ji j)) (λx=>g.nd.pg f x j) (by simpa[ep]using h)
 .intro f h m;have w:f∈k.a8:=h;unfold PV.b1 at m;simp only[ep,Yg,Yn,Option.mem_toList,Yu]at m;rcases m with i|i|i|i|i
  .grind
  .exact g.b7 f w (hP i)
  .exact g.b7 f w (hg i)
  .grind
  .exact g.b7 f w (ji i)
 .intro f h o;rcases h with m|h
  .unfold PV.b1 at m;simp only[ep,Yg,Yn,Option.mem_toList,Yu]at m;rcases m with i|i|i|i|i
   .exact g.bB f (Y8 (by rw[i];simp[PV.b1])) o
   .exact g.bB f (Y8 (hP i)) o
   .exact g.bB f (Y8 (hg i)) o
   .rcases y with F|F
    .exact g.bB f (Y8 (iK (by grind))) o
    .have:=g.aY f o;omega
   .exact g.bB f (Y8 (ji i)) o
  .exact g.bB f (Ya h) o
 .have:=g.bp;grind [ae.sz]
end
section
variable {X d : Nat -> Prop} {c e : Nat} {t : Zb} {a : ae} {w : Zw}
def Jc:(prog.info? 117).map (λa=>(a.zero,a.size,a.bytes))=some (some (.agg #[U 0,U 0,U 0,.slice none 0 0,.slice none 0 0,U 0,.string ⟨#[]⟩,U 0]),8,104):=by kernel_rfl
def bk.au{b:PV}{g:Zw}(d:bk X c t e a b w)(f:am [] w g):bk X c t e a b g:=d.gE f (by simp) (λ_=>Y8) (λh i=>Yr (d.aY h i) f.ar)
def ce{w:Zw}{c:Nat}{d:TypeId}{f b:Nat}{v:Zv}{g:Zl}(e:w.ownsRow c d f v b g):∃ad a,v=.slice ad b a:=by
 rcases e.2 with⟨rfl,rfl⟩|⟨i,a,h,rfl,_⟩;all_goals simp
def bk.ip{b:PV}{g:Zw}{f:Option Nat}(d:bk X c t e a b w)(i:w.grownBy g f)(j:f≠some c):g.heap[c]? = some (lC t a.s (pf b a)):=(i.block c (ap d.ai) (λh=>j h.symm)).trans d.ai
def zE{b:Nat}{a c d e f g h i:Zv}{k:TypeId}{w:Zw}(j:w.heap[b]? = some (.cells #[a,c,d,e,f,g,h,i] k)) :
  w.cell? (Zd b 0)=some a/\w.cell? (Zd b 1)=some c/\w.cell? (Zd b 2)=some d/\w.cell? (Zd b 3)=some e/\w.cell? (Zd b 4)=some f/\w.cell? (Zd b 5)=some g/\w.cell? (Zd b 6)=some h/\w.cell? (Zd b 7)=some i/\(∀l,w.frozen? ⟨b,l,none⟩=false)/\b<w.heap.size:=by
 refine⟨?_,?_,?_,?_,?_,?_,?_,?_,?_,ap j⟩<;>simp[World.cell?,World.frozen?,j]
def cm(b:bg)(a:ae):ae:={ a with w:=a.w++[b] }
def Cm(p:bC d c t e a w)(b5:∀b,X b->d b)(y:bg)(g h:Zv)(R:dI g y.bD w)(H:dI h y.cg w)(b6:∀b,g.ownBlock=some b\/h.ownBlock=some b->d b/\¬X b)(e6:e<=1000000000) :
  Calls prog 46 #[Zp c,.agg (kW y (g,h)).toArray] w λb2 f=>b2=.returned (U a.w.length)/\bC X c t (e+1) (cm y a) f/\Fr d w f:=by
 obtain⟨a9,j⟩:=p;obtain⟨d2,d9,e0,e1,e2,e3,b0,e4,e5,d3,d4,d5,d6,d7,d8,e9,f1⟩:=j.al;obtain⟨d0,b7,c6,c7,c8⟩:=info_parts Jc;have O:=j.bp;unfold ae.sz at O;have b8:a.w.length+1<=maxLen:=by unfold maxLen;omega
 have b9:(a.w.length+1)*104<=140737488355328:=by omega
 have f0:(a.w.length:Int)+1-1=a.w.length:=by omega
 have c9:(Value.agg #[U 0,U 0,U 0,.slice none 0 0,.slice none 0 0,U 0,.string ⟨#[]⟩,U 0]).cells.size=8:=by rfl
 obtain⟨s,u,x,K,M,o,z,m⟩:=y;have e7:g.oneCell'=true:=by obtain⟨_,_,rfl⟩:=ce R;rfl
 have e8:h.oneCell'=true:=by obtain⟨_,_,rfl⟩:=ce H;rfl
 have c4:∀a5∈kW ⟨s,u,x,K,M,o,z,m⟩ (g,h),a5.oneCell'=true:=by
  intro a5 a2;simp[kW]at a2;rcases a2 with rfl|rfl|rfl|rfl|rfl|rfl|rfl|rfl<;>first|rfl|assumption
 have d1:∀a3 a4,am [] w (((w.alloc a3).alloc a4).drew):=λa3 a4=>(((ak [] w).B _).B _).aq;have i:=Z (Yp j (Yp R (Yp H (Yp b6 O))));have l:=Z d1;obtain⟨gV,n,D⟩:=ce j.w;rw[D]at b0;have c2:(Value.slice gV a.w.length n).ownBlock≠some c:=by rw[<-D];exact j.nd.r
 have c3:∀b,(Value.slice gV a.w.length n).ownBlock=some b->b<w.heap.size:=λb H=>(hn j.w (by simp_all)).2;have k:=Z (Yp D (Yp c2 c3));have c5:=Z (D▸j.w);have a7:=Z b5;show Calls _ _ #[_,.agg #[U s,U u,U x,g,h,U o,Zs z,U m]] _ _;go_in;go_wp2_with fail;refine cx (λf=>f.cell? (Zd c 7)=some (.slice gV a.w.length n)/\f.cell? (Zd w.heap.size 0)=some (U s)/\f.cell? (Zd w.heap.size 1)=some (U u)/\f.cell? (Zd w.heap.size 2)=some (U x)/\f.cell? (Zd w.heap.size 3)=some g/\f.cell? (Zd w.heap.size 4)=some h/\f.cell? (Zd w.heap.size 5)=some (U o)/\f.cell? (Zd w.heap.size 6)=some (Zs z)/\f.cell? (Zd w.heap.size 7)=some (U m)) (L:=12) (by kernel_rfl) rfl (by kernel_rfl) (by kernel_rfl) ?_ (λP=>?_)
 .go_keep
 refine bH [0,1,2,3,4,5,6] ?_;iterate 7 (refine bK (v:=?_) rfl (by kernel_rfl) (λ_ _ _ F=>F) (by kernel_rfl) (by assumption) ?_ ?_;rotate_left;focus (intro w G;(try dsimp only at G);go_simp;(try with_reducible rfl));(try simp only[aJ,aK,List.set]))
 refine bI ?_;refine bF 7 (by kernel_rfl) rfl λN q=>?_;go_simp;refine q.out _ _ ?_ (λP=>?_)
 .go_keep
 (try simp only[aJ,aK,List.set]);refine bF 8 (by kernel_rfl) rfl λN q=>?_;(refine step_append_lies _ (by rfl) _ _ _ (by rfl) 0 117 d0 _ 8 104 underlying58 b7 c6 c7 c8 c9 (by omega) (.slice gV a.w.length n) a.w.length (mq a.w a9.ls) (by rfl) (bi c5.j (l.j _ _) (by simp)) ⟨w.heap.size+1,0,none⟩ 1 1 (kW ⟨s,u,x,K,M,o,z,m⟩ (g,h)) (by rfl) (by rfl) (World.news_of_block (cs:=(kW ⟨s,u,x,K,M,o,z,m⟩ (g,h)).toArray) (t:=117) (fr:=(0,0)) (aS (w:=w.alloc _) (by simp))) c4 (by omega) b8 b9 (by omega) (w.heap.size+2) (by simp) ?_;intro b4 b1 A a1 C S c0;have r:=(i.j.1.au (l.j _ _)).ip C k.j.2.1;have g2:A.cell? (Zd c 7)=some (.slice gV a.w.length n):=(by rw[<-k.j.1];exact aU r rfl);have g3:=cK r;have g4:=ap r;obtain⟨f2,f3,f4,f5,f6,f7,f8,f9,g0,g1⟩:=zE (w:=A) (b:=w.heap.size) ((C.block _ (by simp;omega) (λE=>by have:=k.j.2.2 _ E.symm;omega)).trans ((Below.heap_alloc _ _ _ (by simp)).trans (aS rfl)));have B:=Z (Yp C (Yp S (Yp a1 r)));clear C S a1 r);refine q.out _ _ ?_ (λP=>?_)
 .go_keep
 (try simp only[aJ,aK,List.set]);refine bH [9,10,11] ?_;iterate 3 (refine bK (v:=?_) rfl (by kernel_rfl) (λ_ _ _ F=>F) (by kernel_rfl) (by assumption) ?_ ?_;rotate_left;focus (intro w G;(try dsimp only at G);go_simp;(try with_reducible rfl));(try simp only[aJ,aK,List.set]))
 refine bI ?_;refine cR (by kernel_rfl) rfl λN q=>?_;go_simp;refine q.out _ _ ?_;(try simp only[aJ,aK,List.set]);have a0:=B.j.1;rw[<-k.j.1]at a0;have a8:=Z ((i.j.1.au (l.j _ _)).li (X:=X) a7.j (i.j.2.1.a8 (l.j _ _) (by simp)) (i.j.2.2.1.a8 (l.j _ _) (by simp)) i.j.2.2.2.1 a0 B.j.2.2.1 (by rw[k.j.1];exact B.j.2.1.imp id (λE=>by rw[E];simp)) c0);have a6:ac (Fr d w (A.setCell ⟨c,7,none⟩ (.slice (some ⟨b4,0,none⟩) (a.w.length+1) b1))):=by
  have b3:Fr d w A:=((jD d w).c7 (l.j _ _) (by simp)).c7 (fs B.j.1) (λJ c1 I=>absurd I (i.j.1.bB J (Y8 (hP (by rw[k.j.1];grind)))));exact b3.c7 ((ak [c] A).ay (p:=⟨c,7,none⟩) (by simp) _) (λJ c1 I=>absurd I (i.j.1.bB J (Y8 (by grind [PV.b1]))))
 go_wp2;go_ret;refine⟨?_,⟨_,a8.j⟩,a6.j⟩;rfl
end
section
variable {d l : Nat -> Prop} {c g : Nat} {h : Zb} {a : ae} {b : Zw}
def sk{g:Type}{f:g->Zl}{k:Nat}(l:∀c,(f c).length=k):∀(b:List g) (a d:Nat) (c e:g) (v:Zv),d<k->b[a]? = some c->f e=(f c).set d v->(b.flatMap f).set (a*k+d) v=(b.set a e).flatMap f:=by
 intro b;induction b with
 |nil=>simp
 |cons h b n=>
  intro a d c e v m i j;cases a with
  |zero=>
   simp_all
  |succ a=>
   grind
def sP{f:Nat}{g:TypeId}{k c a d:Nat}{e:Zl}(h:b.ownsRow f g k (.slice (some ⟨a,0,none⟩) c d) c e){i:Nat}(x:i<e.length)(v:Zv):(b.setCell ⟨a,i,none⟩ v).ownsRow f g k (.slice (some ⟨a,0,none⟩) c d) c (e.set i v):=by
 refine⟨by rw[YF];exact h.1,?_⟩;rcases h.2 with⟨s,t⟩|⟨r,p,q,j,l,m,n,o,u,w⟩
 .grind
 .simp at j;obtain⟨rfl,rfl⟩:=j;refine Ya ⟨a,d,_,rfl,l,bu m v,n,o,?_,?_⟩;all_goals grind [List.take_set]
def gz(a:ae)(b:Nat)(c n:Int):ae:={ a with A:=a.A.set b { a.A.getD b hI with a7:=c,n:=n } }
theorem bk.k4{o:PV}(j:bk d c h g a o b){i m B:Nat}(I:i<a.A.length)(v:o.nv=.slice (some ⟨m,0,none⟩) a.A.length B)(q n:Int) :
  bk d c h g (gz a i q n) o ((b.setCell ⟨m,i*4+1,none⟩ (U q)).setCell ⟨m,i*4+2,none⟩ (U n)):=by
 have H:o.nv.ownBlock=some m:=by rw[v];rfl
 have p:am [m] b ((b.setCell ⟨m,i*4+1,none⟩ (U q)).setCell ⟨m,i*4+2,none⟩ (U n)):=((ak [m] b).ay (p:=⟨m,i*4+1,none⟩) (by simp) _).ay (p:=⟨m,i*4+2,none⟩) (by simp) _;have r:∀e,o.nv.ownBlock≠some e->e ∉ [m]:=λe l K=>by
  simp_all
 have w:∀e∈o.a8,o.nv.ownBlock≠some e:=λe l s=>j.b7 e l (hg s);have J:(a.A.flatMap hH).length=a.A.length*4:=j.A.1;refine⟨(p.G c (ap j.ai) (r c j.nd.n)).trans j.ai,bi j.w p λe l=>r e (j.nd.rn e l),?_,bi j.ag p λe l=>r e (λs=>j.nd.np e s l),j.O.a8 p λe l=>r e (λs=>j.nd.ng e s l),j.a2,?_,j.nd,j.b7,j.bB,λe E=>Yr (j.aY e E) p.ar,j.fin,j.c3,j.ck,?_,j.cn⟩
 .have C:a.A[i]? = some (a.A.getD i hI):=by grind
  have x:=j.A;rw[v]at x ⊢;have y:=sP (sP x (i:=i*4+1) (by omega) (U q)) (i:=i*4+2) (by grind) (U n);rw[sk (f:=hH) (k:=4) (λ_=>rfl) a.A i 1 (a.A.getD i hI) { a.A.getD i hI with a7:=q } _ (by omega) C rfl]at y;rw[sk (f:=hH) (k:=4) (λ_=>rfl) _ i 2 { a.A.getD i hI with a7:=q } { a.A.getD i hI with a7:=q,n:=n } _ (by omega) (by grind) rfl]at y;grind [List.set_set,gz]
 .intro F G u D t;obtain⟨z,A⟩:=j.e8 F G u D t;exact⟨z.a8 p λe l=>r e (w e (hu t (Y8 l))),A.a8 p λe l=>r e (w e (hu t (Ya l)))⟩
 .have:=j.bp;grind [ae.sz,gz]
def bk.k1{m:PV}(e:bk d c h g a m b):bk d c h (g+1) { a with av:=a.av+1 } m (b.setCell ⟨c,13,none⟩ (U (a.av+1))):=by
 have o:=bu (i:=13) e.ai (U (a.av+1));have C:=e.bR (s:=a.s) (w':=b) e.ai (ak _ _) e.fin e.c3;have i:am [c] b (b.setCell ⟨c,13,none⟩ (U (a.av+1))):=(ak [c] b).ay (p:=⟨c,13,none⟩) (by simp) _;have l:∀{v:Zv},v.ownBlock≠some c->∀f,v.ownBlock=some f->f ∉ [c]:=λB f k p=>by
  simp_all
 have t:∀j,j∈m.a8->j ∉ [c]:=λj o p=>by
  simp only[Yc]at p;exact e.b7 j o (by rw[p];simp[PV.b1])
 refine⟨o,bi e.w i (l e.nd.r),bi e.A i (l e.nd.n),bi e.ag i (l e.nd.p),e.O.a8 i (l e.nd.g),e.a2,?_,e.nd,e.b7,e.bB,λj z=>Yr (e.aY j z) i.ar,e.fin,e.c3,e.ck,?_,?_⟩
 .intro r A u y q;obtain⟨w,x⟩:=e.e8 r A u y q;exact⟨w.a8 i λf k=>t f (hu q (Y8 k)),x.a8 i λf k=>t f (hu q (Ya k))⟩
 .have:=e.bp;grind [ae.sz]
 .have:=e.cn;grind
def du(b:Zb)(d:Int)(a:ae):ae:=let c:=if 0<=bP a b then gz a (bP a b).toNat 0 d else a
 { c with av:=c.av+1 }
def dq(b:Zb)(c:Int)(a:ae):ae:=if 0<=bP a b then gz a (bP a b).toNat 1 c else a
def An{f:PV}(m:bk d c h g a f b){e q l i j:Nat}(n:f.nv=.slice (some ⟨e,0,none⟩) q l)(r s:Zv):Fr d b ((b.setCell ⟨e,i,none⟩ r).setCell ⟨e,j,none⟩ s):=
 rG (((ak [e] b).ay (p:=⟨e,i,none⟩) (by simp) _).ay (p:=⟨e,j,none⟩) (by simp) _) λo k _=>by
  simp only[Yc]at k;exact m.bB o (Y8 (hg (by rw[n,k];rfl)))
def rx(w:bC d c h g a b)(e:Zb)(f:Int)(v:g<=1000000000):Calls prog 150 #[Zp c,Zs e,U f] b (GP d c h g (dq e f a) (.tuple #[]) b):=by
 obtain⟨q,j⟩:=w;obtain⟨y,F,G,H,I,J,K,t,L,z,A,B,C,D,E,P,a1⟩:=j.al;have o:=Z (oj j v e);by_cases l:0<=bP a e
 .have r:=qL l;obtain⟨N,M,p,-,a2,a3,-,a4,a5,R⟩:=pD j r;have n:ac (dq e f a=gz a (bP a e).toNat 1 f):=Y9 l;have k:=Z (Yp (j.k4 r p 1 f) (An (i:=(bP a e).toNat*4+1) (j:=(bP a e).toNat*4+2) j p (U 1) (U f)));rw[p]at t o;generalize S:bP a e=m at *
  obtain⟨m,rfl⟩:∃s:Nat,m=s:=⟨m.toNat,by omega⟩;simp only[Int.toNat_natCast]at *
  have a0:(m:Int)<(a.A.length:Int):=by omega
  go_in;go_wp2_with fail;refine o.j.mono ?_;rintro u x ⟨rfl,rfl⟩;go_wp2;go_end0;rw[n.j];exact⟨rfl,⟨q,k.j.1⟩,k.j.2⟩
 .have n:ac (dq e f a=a):=Y2 l;have O:¬(0<=bP a e):=l;have k:=Z j;go_in;go_wp2_with fail;refine o.j.mono ?_;rintro u x ⟨rfl,rfl⟩;go_wp2;go_end0;rw[n.j];exact⟨rfl,⟨q,k.j⟩,jD _ _⟩
def uh{e:PV}(f:bk d c h g a e b){i:Nat}(j:Zv):Fr d b (b.setCell ⟨c,i,none⟩ j):=f.fr ((ak [c] b).ay (p:=⟨c,i,none⟩) (by simp) _)
def AM(y:bC d c h g a b)(e:Zb)(j:Int)(x:g<=1000000000):Calls prog 145 #[Zp c,Zs e,U j] b (GP d c h (g+1) (du e j a) (.tuple #[]) b):=by
 obtain⟨q,f⟩:=y;obtain⟨A,H,I,J,K,L,M,u,N,B,C,D,E,F,G,a3,a7⟩:=f.al;have n:=Z (oj f x e);have w:=f.bp;have P:=f.cn.1;unfold ae.sz at w;have R:IntKind.i64.wrap (a.av+1)=a.av+1:=by rw[IntKind.wrap_i64];omega
 have a1:-9223372036854775808<=a.av+1:=by omega
 have a2:a.av+1<=9223372036854775807:=by omega
 by_cases o:0<=bP a e
 .have r:=qL o;obtain⟨S,O,p,-,a8,a9,-,b0,b1,a4⟩:=pD f r;have m:ac (du e j a = { gz a (bP a e).toNat 0 j with av:=a.av+1 }):=by
   show _=_;unfold du;rw[Y9 o];rfl
  have t:=f.k4 r p 0 j;have k:=Z (Yp t.k1 ((An (i:=(bP a e).toNat*4+1) (j:=(bP a e).toNat*4+2) f p (U 0) (U j)).u (uh t (i:=13) (U (a.av+1)))));rw[p]at u n;generalize a5:bP a e=l at *
  obtain⟨l,rfl⟩:∃s:Nat,l=s:=⟨l.toNat,by omega⟩;simp only[Int.toNat_natCast]at *
  have a6:(l:Int)<(a.A.length:Int):=by omega
  go_in;go_wp2_with fail;refine n.j.mono ?_;rintro v z ⟨rfl,rfl⟩;go_wp2;go_end0;rw[m.j];exact⟨rfl,⟨q,k.j.1⟩,k.j.2⟩
 .have m:ac (du e j a = { a with av:=a.av+1 }):=by
   show _=_;simp_all[du,Y2]
  have a0:¬(0<=bP a e):=o;have k:=Z (Yp f.k1 (uh f (i:=13) (U (a.av+1))));go_in;go_wp2_with fail;refine n.j.mono ?_;rintro v z ⟨rfl,rfl⟩;go_wp2;go_end0;rw[m.j];exact⟨rfl,⟨q,k.j.1⟩,k.j.2⟩
def jp(b lz:Int)(a:ae):ae:=if a.s.e=0/\lz<=b then bL 5 a.s.x.m a else a
def aD(b lz:Int)(a:ae):ae:=jp b lz (if a.s.e=0/\a.s.x.C=5 then dj a else a)
def kM(v:bC d c h g a b)(f lz:Int):Calls prog 85 #[Zp c,U f,U lz] b (GP d c h g (aD f lz a) (.tuple #[]) b):=by
 by_cases N:a.s.e=0/\a.s.x.C=5
 .have q:ac (aD f lz a=jp f lz (dj a)):=by show _=_;unfold aD;simp_all
  have E:=Z (nX v);obtain⟨j,n⟩:=v;obtain⟨F,-,-,-,-,-,-,-,-,-,z,-,-,-,-,C,D⟩:=n.al;have B:(a.s.e==0)=true:=by simp_all
  have I:((a.s.x.C:Int)==5)=true:=by simp_all
  go_in;go_wp2_with fail;refine E.j.mono ?_;rintro A O ⟨rfl,⟨j,n⟩,L⟩;obtain⟨-,-,G,-,-,-,-,-,-,-,z,-,-,-,-,C,D⟩:=n.al;have l:=Z n;have k:=Z L;generalize dj a=m at *
  by_cases p:m.s.e=0
  .have t:(m.s.e==0)=true:=by simp_all
   by_cases J:lz<=f
   .have i:ac (aD f lz a=bL 5 m.s.x.m m):=by
     show _=_;rw[q.j];simp_all[jp]
    have r:=Z (jo ⟨j,l.j⟩ 5 m.s.x.m);go_wp2_with fail;refine r.j.mono ?_;rintro A M ⟨rfl,w,u⟩;have o:=Z (Yp w u);go_wp2;go_end0;rw[i.j];exact⟨rfl,o.j.1,k.j.u o.j.2⟩
   .have K:decide (lz<=f)=false:=by simp_all
    have i:ac (aD f lz a=m):=by
     show _=_;rw[q.j];simp_all[jp,Y2]
    go_wp2;go_end0;rw[i.j];exact⟨rfl,⟨j,l.j⟩,k.j⟩
  .have t:(m.s.e==0)=false:=by simp_all
   have i:ac (aD f lz a=m):=by
    show _=_;rw[q.j];simp_all[jp]
   first
    |exact absurd y.j p
    |(clear p;go_wp2;go_end0;rw[i.j];exact⟨rfl, ⟨j, l.j⟩, k.j⟩)
 .have q:ac (aD f lz a=jp f lz a):=by show _=_;unfold aD;grind
  obtain⟨j,n⟩:=v;obtain⟨F,-,G,-,-,-,-,-,-,-,z,-,-,-,-,C,D⟩:=n.al;have l:=Z n;have k:=Z (jD d b);by_cases H:a.s.e=0
  .have B:(a.s.e==0)=true:=by simp_all
   have I:((a.s.x.C:Int)==5)=false:=by grind
   have y:=Z H;go_in;by_cases p:a.s.e=0
   .have t:(a.s.e==0)=true:=by omega
    by_cases J:lz<=f
    .have i:ac (aD f lz a=bL 5 a.s.x.m a):=by
      simp_all[jp]
     have r:=Z (jo ⟨j,l.j⟩ 5 a.s.x.m);go_wp2_with fail;refine r.j.mono ?_;rintro A M ⟨rfl,w,u⟩;have o:=Z (Yp w u);go_wp2;go_end0;rw[i.j];exact⟨rfl,o.j.1,k.j.u o.j.2⟩
    .have K:decide (lz<=f)=false:=by simp_all
     have i:ac (aD f lz a=a):=by
      simp_all[jp]
     go_wp2;go_end0;rw[i.j];exact⟨rfl,⟨j,l.j⟩,k.j⟩
   .have t:(a.s.e==0)=false:=by simp_all
    have i:ac (aD f lz a=a):=by
     simp_all
    first
     |exact absurd y.j p
     |(clear p;go_wp2;go_end0;rw[i.j];exact⟨rfl, ⟨j, l.j⟩, k.j⟩)
  .have B:(a.s.e==0)=false:=by simp_all
   have i:ac (aD f lz a=a):=by
    simp_all[jp]
   go_in;go_wp2;go_end0;rw[i.j];exact⟨rfl,⟨j,l.j⟩,k.j⟩
end
section
variable {d f g h i j:Zv}{x:dO}
variable {c l : Nat -> Prop} {b k : Nat} {t : Zb} {a : ae} {w : Zw}
abbrev rl(w:Zw)(a:Nat)(d f g h i j:Zv):Zw:=(((((w.setCell ⟨a,0,none⟩ d).setCell ⟨a,1,none⟩ f).setCell ⟨a,2,none⟩ g).setCell ⟨a,3,none⟩ h).setCell ⟨a,4,none⟩ i).setCell ⟨a,5,none⟩ j
def xh(w:Zw)(a:Nat)(d f g h i j:Zv):am [a] w (rl w a d f g h i j):=
 ((((((ak [a] w).ay (p:=⟨a,0,none⟩) (by simp) d).ay (p:=⟨a,1,none⟩) (by simp) f).ay (p:=⟨a,2,none⟩) (by simp) g).ay (p:=⟨a,3,none⟩) (by simp) h).ay (p:=⟨a,4,none⟩) (by simp) i).ay (p:=⟨a,5,none⟩) (by simp) j
def bC.h2{e:Nat}(l:bC c b t k a w)(m:c e):bC c b t k a (rl w e d f g h i j):=l.F (xh w e d f g h i j) (by simp_all)
def Fr.h2{b:Zw}{a:Nat}(e:Fr c b w)(k:b.heap.size<=a):Fr c b (rl w a d f g h i j):=e.c7 (xh w a d f g h i j) (λm l _=>by simp_all)
abbrev oZ:Obj:=.cells #[U 0,.string ⟨#[]⟩,U 0,U 0,U 0,U 0] 112
abbrev oW(x:dO):Obj:=.cells (fx x) 112
def AB:(prog.info? 119).map (λa=>(a.zero,a.size,a.bytes))=some (some (.agg #[.string ⟨#[]⟩,U 0,U 0,U 0]),4,40):=by kernel_rfl
def aR(t:Zb)(b:Int)(a:ae):dO×ae:=
 if(cV t a).2.s.e≠0 then cV t a
 else if 0<=bP (cV t a).2 (cV t a).1.text then ((cV t a).1,bL 6 (cV t a).1.m (cV t a).2)
 else ((cV t a).1,{ (cV t a).2 with A:=(cV t a).2.A++[⟨(cV t a).1.text,b,-1,(cV t a).1.m⟩] })
def GW(c:Nat->Prop)(b:Nat)(t:Zb)(k:Nat)(a:dO×ae)(w:Zw)(e:Ending)(d:Zw):Prop:=e=.returned (.agg (fx a.1))/\bC c b t k a.2 d/\Fr c w d/\a.1.text.length<=2000
def yi{a:Nat}(x:dO)(b:w.heap[a]? = some oZ):(rl w a (U x.C) (Zs x.text) (U x.m) (U x.fin) (U x.n) (U x.e)).heap[a]? = some (oW x):=sY b
def JS{a:Nat}(h:w.heap[a]? = some (oW x)):(loadVar 112 ⟨a,0,none⟩).run prog w=.ok (.agg (fx x)) w:=by
 obtain⟨b,c,d,e,f,g,i,j⟩:=dP h;simp[go_sem,b,c,d,e,f,g]
def ns{c:Func}{Q:Ending->Zw->Prop}{a:Act}{R b:Nat}(h:c.results=#[.cell b 112])(o:a.tmps.getD b undef=Zp R)(f:a.defers=[])(d:w.heap[R]? = some (oW x))(g:Q (.returned (.agg (fx x))) w):bodyPost prog c Q .ret a w:=by
 refine bodyPost_ret (v:=.agg (fx x)) ?_ f g;have:=JS d;unfold results;rw[h];obtain⟨i,j,k,l,m,n,p,q⟩:=dP d;have e:a.tmps[b]?.getD undef=Zp R:=by simp_all
 simp[e,go_sem,i,j,k,l,m,n]
def qF(p:bC c b t k a w)(g:Int)(c7:k<=1000000000):Calls prog 142 #[Zp b,U g] w (GW c b t (k+1) (aR t g a) w):=by
 have c3:=Z (yN (p.B oZ));have h6:b<w.heap.size:=by obtain⟨c2,D⟩:=p;exact ap D.ai
 have f7:=Z p;go_in;go_wp2_with fail;refine c3.j.mono ?_;rintro a9 e ⟨⟨rfl,b7,a3⟩,e2⟩;have b1:w.heap.size<e.heap.size:=Yr (by simp) a3.ar;have a7:e.heap[w.heap.size]? = some oZ:=((a3.G _ (by simp) mP).trans (aS rfl));obtain⟨j5,j6,j7,j8,j9,k0,k2,k4⟩:=dP a7;have O:=Z a7;generalize F:cV t a=e8 at *
 obtain⟨x,d⟩:=e8;simp only at *
 have a0:=Z ((((jD c w).B oZ).u a3.b3));have a6:=Z b7;obtain⟨c2,D⟩:=b7;obtain⟨f8,g5,g6,g7,g8,g9,h0,c4,h1,f9,g0,g1,g2,g3,g4,h5,h7⟩:=D.al;obtain⟨gV,o,q⟩:=ce D.A;rw[q]at c4;have f:=Z D;have a5:=Z q;have S:=Z F;have P:=Z e2;by_cases a2:d.s.e=0
 .have b3:(d.s.e != 0)=false:=by simp_all
  have I:=Z (λG=>oj ((f.j.au ((ak [] e).B G)).au (ak [] _).aq) c7 x.text);rw[a5.j]at I;go_wp2_with fail;refine cx (λu=>u.cell? (Zd b 8)=some (.slice gV d.A.length o)/\u.cell? (Zd e.heap.size 1)=some (Zs x.text)) (L:=8) (by kernel_rfl) rfl (by kernel_rfl) (by kernel_rfl) ?_ (λJ=>?_)
  .go_keep
  refine bH [0,1,2,3,4,5,6] ?_;iterate 7 (refine bK (v:=?_) rfl (by kernel_rfl) (λ_ _ _ B=>B) (by kernel_rfl) (by assumption) ?_ ?_;rotate_left;focus (intro w C;(try dsimp only at C);go_simp;(try with_reducible rfl));(try simp only[aJ,aK,List.set]))
  refine bI ?_;refine bF 7 (by kernel_rfl) rfl λH h=>?_;(go_simp;refine(I.j _).mono ?_;rintro a9 i6 ⟨rfl,rfl⟩);refine h.out _ _ ?_ (λJ=>?_)
  .go_keep
  (try simp only[aJ,aK,List.set]);refine cR (by kernel_rfl) rfl λH h=>?_;go_simp;refine h.out _ _ ?_;(try simp only[aJ,aK,List.set]);have e5:=Z (λG=>(a6.j.B G).aq);by_cases a1:0<=bP d x.text
  .have y:ac (aR t g a=(x,bL 6 x.m d)):=by
    show _=_;unfold aR;rw[S.j,Y2 (by simp_all),Y9 a1]
   have I:=Z (λG=>jo (e5.j G) 6 x.m);go_wp2_with fail;refine(I.j _).mono ?_;rintro a9 b9 ⟨rfl,e6,a4⟩;have r:b9.heap[w.heap.size]? = some oZ:=(a4.G _ (by simp;omega) (Y8 mP)).trans ((Below.heap_alloc _ _ _ b1).trans O.j);have N:b9.heap[e.heap.size]? = some (oW x):=(a4.G _ (by simp) mP).trans (aS rfl);obtain⟨e9,f0,f1,f2,f3,f4,f5,f6⟩:=dP r;obtain⟨h8,h9,i0,i1,i2,i3,i4,i5⟩:=dP N;have Q:=Z (Yp e6 (Yp ((a0.j.B _).aq.u a4.b3.b3) r));go_wp2;refine ns (R:=w.heap.size) (x:=x) (by rfl) (by rfl) rfl (yi x Q.j.2.2) ?_;rw[y.j];exact⟨rfl,(Q.j.1.h2 (Y8 mP)).b3.b3.a0 (by omega),Q.j.2.1.h2 (Y4 _),P.j⟩
  .have y:ac (aR t g a=(x,{ d with A:=d.A++[⟨x.text,g,-1,x.m⟩] })):=by
    show _=_;unfold aR;rw[S.j,Y2 (by simp_all),Y2 a1]
   have h4:¬(0<=bP d x.text):=a1;have q:=a5.j;obtain⟨e1,c8,d7,d8,d9⟩:=info_parts AB;have c6:=f.j.bp;unfold ae.sz at c6;have c9:d.A.length+1<=maxLen:=by unfold maxLen;omega
   have d0:(d.A.length+1)*40<=140737488355328:=by omega
   have e0:(Value.agg #[.string ⟨#[]⟩,U 0,U 0,U 0]).cells.size=4:=by rfl
   have d5:∀b8∈hH ⟨x.text,g,-1,x.m⟩,b8.oneCell'=true:=by
    intro b8 b6;simp[hH]at b6;rcases b6 with rfl|rfl|rfl|rfl<;>rfl
   have d3:(Value.slice gV d.A.length o).ownBlock≠some b:=by rw[<-q];exact f.j.nd.n
   have d4:∀m,(Value.slice gV d.A.length o).ownBlock=some m->m<e.heap.size/\m≠w.heap.size:=λm b3=>⟨(hn f.j.A (by simp_all)).2,λa2=>f.j.bB m (Y8 (hg (by simp_all))) (by rw[a2];exact mP)⟩;have d6:=Z (q▸f.j.A);have j:=Z (Yp q (Yp d3 d4));have z:=Z (λe3 e4=>((((ak [] e).B e3).aq.B e4).aq));go_wp2_with fail;refine cx (λu=>u.cell? (Zd b 8)=some (.slice gV d.A.length o)/\u.cell? (Zd e.heap.size 1)=some (Zs x.text)/\u.cell? (Zd e.heap.size 2)=some (U x.m)) (L:=17) (by kernel_rfl) rfl (by kernel_rfl) (by kernel_rfl) ?_ (λJ=>?_)
   .go_keep
   refine bH [0,1,2,3,4,5,6,7,8,9,10,11] ?_;iterate 12 (refine bK (v:=?_) rfl (by kernel_rfl) (λ_ _ _ B=>B) (by kernel_rfl) (by assumption) ?_ ?_;rotate_left;focus (intro w C;(try dsimp only at C);go_simp;(try with_reducible rfl));(try simp only[aJ,aK,List.set]))
   refine bI ?_;refine bF 12 (by kernel_rfl) rfl λH h=>?_;go_simp;refine h.out _ _ ?_ (λJ=>?_)
   .go_keep
   (try simp only[aJ,aK,List.set]);refine bF 13 (by kernel_rfl) rfl λH h=>?_;(refine step_append_lies _ (by rfl) _ _ _ (by rfl) 0 119 e1 _ 4 40 underlying59 c8 d7 d8 d9 e0 (by omega) (.slice gV d.A.length o) d.A.length (d.A.flatMap hH) (by rfl) (bi d6.j (z.j _ _) (by simp)) ⟨e.heap.size+1,0,none⟩ 1 1 (hH ⟨x.text,g,-1,x.m⟩) (by rfl) (by rfl) (World.news_of_block (cs:=(hH ⟨x.text,g,-1,x.m⟩).toArray) (t:=119) (fr:=(0,0)) (aS (w:=(e.alloc _).drew) (by simp))) d5 (by omega) c9 d0 (by omega) (e.heap.size+2) (by simp) ?_;intro b0 a8 i b5 E b2 d1;have K:=(f.j.au (z.j _ _)).ip E j.j.2.1;have k1:i.cell? (Zd b 8)=some (.slice gV d.A.length o):=(by rw[<-j.j.1];exact aU K rfl);have k3:=cK K;have k5:=ap K;have r:i.heap[w.heap.size]? = some oZ:=((E.block _ (by simp;omega) (λA=>(j.j.2.2 _ A.symm).2 rfl)).trans (((z.j _ _).G _ b1 (by simp)).trans O.j));have N:i.heap[e.heap.size]? = some (oW x):=((E.block _ (by simp;omega) (λA=>by have:=(j.j.2.2 _ A.symm).1;omega)).trans ((Below.heap_alloc _ _ _ (by simp)).trans (aS rfl)));obtain⟨i7,i8,i9,j0,j1,j2,j3,j4⟩:=dP N;obtain⟨e9,f0,f1,f2,f3,f4,f5,f6⟩:=dP r;have l:=Z (Yp E (Yp b2 (Yp b5 r)));clear E b2 b5 K r N);refine h.out _ _ ?_ (λJ=>?_)
   .go_keep
   (try simp only[aJ,aK,List.set]);refine bH [14,15,16] ?_;iterate 3 (refine bK (v:=?_) rfl (by kernel_rfl) (λ_ _ _ B=>B) (by kernel_rfl) (by assumption) ?_ ?_;rotate_left;focus (intro w C;(try dsimp only at C);go_simp;(try with_reducible rfl));(try simp only[aJ,aK,List.set]))
   refine bI ?_;refine cR (by kernel_rfl) rfl λH h=>?_;go_simp;refine h.out _ _ ?_;(try simp only[aJ,aK,List.set]);have b4:=l.j.1;rw[<-j.j.1]at b4;have c1:=Z ((f.j.au (z.j _ _)).j3 (m:=⟨x.text,g,-1,x.m⟩) b4 l.j.2.2.1 (by rw[j.j.1];exact l.j.2.1.imp id (λA=>by rw[A];simp)) d1);have c0:ac (Fr c w (i.setCell ⟨b,8,none⟩ (.slice (some ⟨b0,0,none⟩) (d.A.length+1) a8))):=by
    have c5:Fr c w i:=(a0.j.c7 (z.j _ _) (by simp)).c7 (fs l.j.1) (λM d2 F=>absurd (Y8 F) (f.j.bB M (Y8 (hg (by rw[j.j.1];grind)))));exact c5.c7 ((ak [b] i).ay (p:=⟨b,8,none⟩) (by simp) _) (λM d2 F=>absurd (Y8 F) (f.j.bB M (Y8 (by grind [PV.b1]))))
   have e7:ac ((i.setCell ⟨b,8,none⟩ (.slice (some ⟨b0,0,none⟩) (d.A.length+1) a8)).heap[w.heap.size]? = some oZ):=Z (((ak [b] i).ay (p:=⟨b,8,none⟩) (by simp) _).G _ (ap l.j.2.2.2) (by grind) |>.trans l.j.2.2.2);have h2:b≠e.heap.size:=by omega
   have h3:b≠w.heap.size:=by omega
   go_wp2;refine ns (R:=w.heap.size) (x:=x) (by rfl) (by rfl) rfl (yi x e7.j) ?_;rw[y.j];exact⟨rfl,bC.b3 (b:=w.heap.size) (bC.h2 ⟨_,c1.j⟩ mP),c0.j.h2 (Y4 _),P.j⟩
 .have b3:(d.s.e != 0)=true:=by simp_all
  have y:ac (aR t g a=(x,d)):=by
   show _=_;unfold aR;rw[S.j,Y9 a2]
  go_wp2;refine ns (R:=w.heap.size) (x:=x) (by rfl) (by rfl) rfl ((Below.heap_alloc _ _ _ (by simp_all)).trans (yi x O.j)) ?_;rw[y.j];exact⟨rfl,(((a6.j.h2 mP).B _).b3.b3).a0 (by omega),(a0.j.h2 (Y4 _)).B _,P.j⟩
end
section
variable {d p : Nat -> Prop} {f g N' : Nat} {t : Zb} {h m : ae} {c l w' : Zw}
inductive Th
 |obj (b:Nat) (o:Obj)
 |row (e:TypeId) (size:Nat) (v:Zv) (n:Nat) (xs:Zl)
def Th.ba:Th->Option Nat
 |.obj a _=>some a
 |.row _ _ v _ _=>v.ownBlock
def Th.At(c:Zw):Th->Prop
 |.obj a e=>c.heap[a]? = some e
 |.row b f v d g=>c.ownsRow 0 b f v d g
abbrev dw(v:Zv)(a:List Int):Th:=.row 3 1 v a.length (a.map (U))
abbrev ci(v:Zv)(a:Zc):Th:=.row 9 1 v a.length (a.map λb=>Zs b)
abbrev fh(v:Zv)(a:List br):Th:=.row 288 5 v a.length (a.flatMap eq)
def hj(d:Nat->Prop)(b:List Th):Nat->Prop:=λa=>d a\/∃c∈b,c.ba=some a
def Th.At.fr{a:Th}(b:a.At c)(h:Fr d c w')(g:∀f,a.ba=some f->d f):a.At w':=by
 cases a with
 |obj e k=>exact(h.G e (ap b) (g e rfl)).trans b
 |row i l v j m=>exact oy b h g
def Th.At.F{a:Th}{d:List Nat}(b:a.At c)(h:am d c w')(g:∀f,a.ba=some f->f ∉ d):a.At w':=by
 cases a with
 |obj e k=>exact(h.G e (ap b) (g e rfl)).trans b
 |row i l v j m=>exact bi b h g
def Th.At.lt{a:Th}(e:a.At c):∀b,a.ba=some b->b<c.heap.size:=by
 intro b d;cases a with
 |obj f i=>simp[Th.ba]at d;subst d;exact ap e
 |row g j v h k=>exact(hn e d).2
structure aN(d:Nat->Prop)(f:Nat)(t:Zb)(g:Nat)(h:ae)(L:List Th)(l c:Zw):Prop where
 ax:bC (hj d L) f t g h c
 fr:Fr d l c
 m:∀a∈L,a.At c
 ao:∀a∈L,∀b,a.ba=some b->¬d b
 cv:∀(i j:Nat) (a b:Th),i≠j->L[i]? = some a->L[j]? = some b->∀k,a.ba=some k->b.ba≠some k
theorem iE(b:bC d f t g h c):aN d f t g h [] c c:=⟨b.b9 λi a=>by rcases a with a|⟨e,j,_⟩;all_goals grind,jD _ _,by simp,by simp,by simp⟩
def aN.aY{b:List Th}(i:aN d f t g h b l c):∀a,d a->a<c.heap.size:=λa e=>i.ax.aY a (Y8 e)
def aN.call{a:List Th}(b:aN d f t g h a l c)(e:bC (hj d a) f t N' m w'/\Fr (hj d a) c w'):aN d f t N' m a l w':=
 ⟨e.1,b.fr.u (e.2.b9 λ_ _=>Y8),λi j=>(b.m i j).fr e.2 λn k=>Ya ⟨i,j,k⟩,b.ao,b.cv⟩
def aN.F{a:List Th}(e:aN d f t g h a l c)(b:am [] c w'):aN d f t g h a l w':=e.call ⟨e.ax.F b (by simp),rG b (by simp)⟩
theorem aN.aq{a:List Th}(b:aN d f t g h a l c):aN d f t g h a l c.drew:=b.F (ak [] c).aq
def aN.a0{b:List Th}(a:aN d f t g h b l c)(e:g<=N'):aN d f t N' h b l c:=⟨a.ax.a0 e,a.fr,a.m,a.ao,a.cv⟩
def aN.B{q:List Th}(i:aN d f t g h q l c)(j:Obj):aN d f t g h (.obj c.heap.size j::q) l (c.alloc j):=by
 have u:am [] c (c.alloc j):=(ak [] c).B j;refine⟨(i.ax.B j).b9 ?_,i.fr.B j,?_,?_,?_⟩
 .intro k b;rcases b with b|⟨e,a,b⟩
  .exact Y8 (Y8 b)
  .rcases Yg.1 a with rfl|a
   .grind [Th.ba,mP]
   .exact Y8 (Ya ⟨e,a,b⟩)
 .intro e a;rcases Yg.1 a with rfl|a
  .exact aS rfl
  .exact(i.m e a).F u (by simp)
 .intro e a k b r;rcases Yg.1 a with rfl|a
  .simp[Th.ba]at b;subst b;exact absurd (i.aY _ r) (by omega)
  .exact i.ao e a k b r
 .intro p m e k v a b s n o;cases p with
  |zero=>
   cases m with
   |zero=>omega
   |succ m=>
    simp at a b;subst a;simp[Th.ba]at n;subst n;exact absurd ((i.m k (Yh b)).lt _ o) (by omega)
  |succ p=>
   cases m with
   |zero=>
    simp at a b;subst b;simp[Th.ba]at o;subst o;exact absurd ((i.m e (Yh a)).lt _ n) (by omega)
   |succ m=>exact i.cv p m e k (by omega) (by simp_all) (by simp_all) s n o
def aN.bR{v:List Th}{G:List Nat}{i:Nat}{a a':Th}(k:aN d f t g h v l c)(w:v[i]? = some a)(x:am G c w')(E:∀b∈G,a.ba=some b)(L:a'.At w')(y:∀b,a'.ba=some b->a.ba=some b\/c.heap.size<=b):aN d f t g h (v.set i a') l w':=by
 have I:=(YB.1 w).1;have B:=Yh w;have C:∀e∈v.set i a',e=a'\/∃n,n≠i/\v[n]? = some e:=by
  intro e j;obtain⟨n,q⟩:=List.getElem?_of_mem j;grind
 refine⟨k.ax.gE x (λb p=>Ya ⟨a,B,E b p⟩) ?_ ?_,k.fr.c7 x (λb p r=>absurd r (k.ao a B b (E b p))),?_,?_,?_⟩
 .intro o F;rcases F with r|⟨e,j,s⟩
  .exact Y8 (Y8 r)
  .rcases C e j with rfl|⟨n,_,q⟩
   .rcases y o s with m|m
    .exact Y8 (Ya ⟨a,B,m⟩)
    omega
   .exact Y8 (Ya ⟨e,Yh q,s⟩)
 .intro o F;rcases F with r|⟨e,j,s⟩
  .exact Yr (k.aY o r) x.ar
  .rcases C e j with rfl|⟨n,_,q⟩
   .exact L.lt o s
   .exact Yr ((k.m e (Yh q)).lt o s) x.ar
 .intro e j;rcases C e j with rfl|⟨n,N,q⟩
  .omega
  .exact(k.m e (Yh q)).F x λb p M=>k.cv n i e a N q w b p (E b M)
 .intro e j o s r;rcases C e j with rfl|⟨n,_,q⟩
  .rcases y o s with m|m
   .exact k.ao a B o m r
   .exact absurd (k.aY o r) (by omega)
  .exact k.ao e (Yh q) o s r
 .intro n J e D A j u b p z;rw[YP]at j u;split at j
  .rename_i H;subst H;simp[I]at j;subst j;rw[Y2 A]at u;rcases y b p with m|m
   .exact k.cv i J a D A w u b m z
   .exact absurd ((k.m D (Yh u)).lt b z) (by omega)
  .split at u
   .rename_i H K;subst K;simp[I]at u;subst u;rcases y b z with m|m
    .exact k.cv n i e a A j w b p m
    .exact absurd ((k.m e (Yh j)).lt b p) (by omega)
   .exact k.cv n J e D A j u b p z
def aN.b3{j:List Th}{k:Th}(i:aN d f t g h (k::j) l c):aN d f t g h j l c:=by
 refine⟨i.ax.b9 ?_,i.fr,λa b=>i.m a (Y5 _ b),λa b=>i.ao a (Y5 _ b),λn o a m r b q=>i.cv (n+1) (o+1) a m (by omega) (by simp_all) (by simp_all)⟩;intro p e;rcases e with e|⟨a,b,e⟩
 .exact Y8 e
 .exact Ya ⟨a,Y5 _ b,e⟩
theorem aN.fin{L:List Th}(a:aN d f t g h L l c):bC d f t g h c/\Fr d l c:=⟨a.ax.b9 λ_=>Y8,a.fr⟩
theorem aN.c4{j:List Th}{i R:Nat}{y:dO}(m:aN d f t g h j l c)(k:j[i]? = some (.obj R (oW y)))(a:dO):aN d f t g h (j.set i (.obj R (oW a))) l (rl c R (U a.C) (Zs a.text) (U a.m) (U a.fin) (U a.n) (U a.e)):=
 m.bR k (xh _ _ _ _ _ _ _ _) (λo b=>by simp at b;rw[b];rfl) (sY (m.m _ (Yh k))) (λo b=>Y8 b)
def aN.al{a:List Th}{i R:Nat}{x:dO}(j:aN d f t g h a l c)(b:a[i]? = some (.obj R (oW x))) :
  c.cell? (Zd R 0)=some (U x.C)/\c.cell? (Zd R 1)=some (Zs x.text)/\c.cell? (Zd R 2)=some (U x.m)/\c.cell? (Zd R 3)=some (U x.fin)/\c.cell? (Zd R 4)=some (U x.n)/\c.cell? (Zd R 5)=some (U x.e)/\(∀i,c.frozen? ⟨R,i,none⟩=false)/\R<c.heap.size:=dP (j.m _ (Yh b))
end
def aM{d:Nat->Prop}{c g h:Nat}{e:List UInt8}{l m:ae}{b:List Th}{k a:World}{i:Nat}{args:Array Value}{v:Value}{Q:Ending->World->Prop}
  (j:ac (aN d c e g l b k a)) (n:bC (hj d b) c e g l a->Calls Tryz.prog i args a (GP (hj d b) c e h m v a))
  (o:∀f,ac (aN d c e h m b k f)->Q (.returned v) f):Calls Tryz.prog i args a Q:=
 (n j.j.ax).mono λ_ f ⟨p,r,q⟩=>p▸o f (Z (j.j.call ⟨r,q⟩))
section
variable {L : List Th} {c d w' e f : Zw} {i : Nat} {a a' : Th}
structure aV(L:List Th)(d c:Zw):Prop where
 fr:am [] d c
 m:∀a∈L,a.At c
 ao:∀a∈L,∀b,a.ba=some b->d.heap.size<=b
 cv:∀(i j:Nat) (a b:Th),i≠j->L[i]? = some a->L[j]? = some b->∀k,a.ba=some k->b.ba≠some k
theorem tJ(c:Zw):aV [] c c:=⟨ak [] c,by simp,by simp,by simp⟩
def aV.F(b:aV L d c)(e:am [] c w'):aV L d w':=⟨b.fr.u e,λa f=>(b.m a f).F e (by simp),b.ao,b.cv⟩
theorem aV.aq(a:aV L d c):aV L d c.drew:=a.F (ak [] c).aq
def aV.B(f:aV L d c)(l:Obj):aV (.obj c.heap.size l::L) d (c.alloc l):=by
 have m:am [] c (c.alloc l):=(ak [] c).B l;refine⟨f.fr.u m,?_,?_,?_⟩
 .intro a b;rcases Yg.1 b with rfl|b
  .exact aS rfl
  .exact(f.m a b).F m (by simp)
 .intro a b h e;rcases Yg.1 b with rfl|b
  .simp[Th.ba]at e;subst e;exact f.fr.ar
  .exact f.ao a b h e
 .intro i g a h o b e n j k;cases i with
  |zero=>
   cases g with
   |zero=>omega
   |succ g=>
    simp at b e;subst b;simp[Th.ba]at j;subst j;exact absurd ((f.m h (Yh e)).lt _ k) (by omega)
  |succ i=>
   cases g with
   |zero=>
    simp at b e;subst e;simp[Th.ba]at k;subst k;exact absurd ((f.m a (Yh b)).lt _ j) (by omega)
   |succ g=>exact f.cv i g a h (by omega) (by simp_all) (by simp_all) n j k
def aV.bR{t:List Nat}(g:aV L d c)(m:L[i]? = some a)(x:am t c w')(v:∀b∈t,a.ba=some b)(F:a'.At w')(s:∀b,a'.ba=some b->a.ba=some b\/c.heap.size<=b):aV (L.set i a') d w':=by
 have y:=(YB.1 m).1;have z:=Yh m;have A:∀e∈L.set i a',e=a'\/∃j,j≠i/\L[j]? = some e:=by
  intro e f;obtain⟨j,n⟩:=List.getElem?_of_mem f;grind
 refine⟨g.fr.b4 x (λb l=>Ya (g.ao a z b (v b l))),?_,?_,?_⟩
 .intro e f;rcases A e f with rfl|⟨j,E,n⟩
  .omega
  .exact(g.m e (Yh n)).F x λb l D=>g.cv j i e a E n m b l (v b D)
 .intro e f q w;rcases A e f with rfl|⟨j,_,n⟩
  .rcases s q w with h|h
   .exact g.ao a z q h
   .exact Yz g.fr.ar h
  .exact g.ao e (Yh n) q w
 .intro j B e r p f k b l o;rw[YP]at f k;split at f
  .rename_i u;subst u;simp[y]at f;subst f;rw[Y2 p]at k;rcases s b l with h|h
   .exact g.cv i B a r p m k b h o
   .exact absurd ((g.m r (Yh k)).lt b o) (by omega)
  .split at k
   .rename_i u C;subst C;simp[y]at k;subst k;rcases s b o with h|h
    .exact g.cv j i e a p f m b l h
    .exact absurd ((g.m e (Yh f)).lt b l) (by omega)
   .exact g.cv j B e r p f k b l o
def aV.b3(f:aV (a::L) d c):aV L d c:=⟨f.fr,λb e=>f.m b (Y5 _ e),λb e=>f.ao b (Y5 _ e),λi h b g k e j=>f.cv (i+1) (h+1) b g (by omega) (by simp_all) (by simp_all)⟩
theorem aV.a9{b j:Nat}{f:Array Zv}{e:TypeId}(h:aV L d c)(g:L[i]? = some (.obj b (.cells f e)))(v:Zv):aV (L.set i (.obj b (.cells (f.set! j v) e))) d (c.setCell ⟨b,j,none⟩ v):=
 h.bR g ((ak [b] c).ay (p:=⟨b,j,none⟩) (by simp) v) (λk a=>by simp at a;rw[a];rfl) (by have:=h.m _ (Yh g);exact bu this v) (λk a=>Y8 a)
def aV.a5{R:Nat}{a:Obj}(e:aV L d c)(b:L[i]? = some (.obj R a)):c.heap[R]? = some a:=e.m _ (Yh b)
def aV.bq(e:aV L d c)(b:L[i]? = some a):a.At c:=e.m _ (Yh b)
def aV.bo{b:TypeId}{j w g a l k:Nat}{v:Zv}{x o:Zl}(u:aV L d c)(s:L[i]? = some (.row b j v w x))(n:am [] c e)(t:f.ownsRow 0 b j (.slice (some ⟨a,0,none⟩) g l) g o)(h:e.grownBy f v.ownBlock)(q:v.ownBlock=some a\/a=k)(y:e.heap.size=k):aV (L.set i (.row b j (.slice (some ⟨a,0,none⟩) g l) g o)) d f:=by
 have z:=n.ar;refine(u.F n).bR s (fs h) (λa h=>by simpa[Th.ba]using h) t ?_;intro p r;have b:p=a:=by simpa[Th.ba,ep]using r.symm
 subst b;rcases q with m|m
 .exact Y8 m
 omega
def aV.g5{b h g:Nat}{v:Zv}{a:Zc}{j:Zb}(q:aV L d c)(n:L[i]? = some (ci v a))(o:am [] c e)(p:f.ownsRow 0 9 1 (.slice (some ⟨b,0,none⟩) (a.length+1) h) (a.length+1) ((a.map λr=>Zs r)++[Zs j]))(m:e.grownBy f v.ownBlock)(l:v.ownBlock=some b\/b=g)(k:e.heap.size=g):aV (L.set i (ci (.slice (some ⟨b,0,none⟩) (a.length+1) h) (a++[j]))) d f:=by
 have:=q.bo n o p m l k;grind
def aV.g6{a:Th}{L:List Th}(f:aV (a::L) d c):aV (L++[a]) d c:=by
 refine⟨f.fr,λb g=>f.m b (by grind),λb g=>f.ao b (by grind),?_⟩;intro i p b h u g m r n o;have j:∀(i:Nat) (b:Th),(L++[a])[i]? = some b->∃e,(a::L)[e]? = some b/\((i<L.length/\e=i+1)\/(i=L.length/\e=0)):=by
  grind
 obtain⟨e,k,s⟩:=j i b g;obtain⟨q,l,t⟩:=j p h m;exact f.cv e q b h (by omega) k l r n o
def zn{a:Th}{L:List Th}(f:aV (L++[a]) d c):aV L d c:=by
 have h:∀(i:Nat) (b:Th),L[i]? = some b->(L++[a])[i]? = some b:=λi b m=>by
  grind
 exact⟨f.fr,λb e=>f.m b (Yf _ e),λb e=>f.ao b (Yf _ e),λi j b g l e k=>f.cv i j b g l (h i b e) (h j g k)⟩
def aV.cons{a:Th}{L:List Th}{w':Zw}(g:aV L d c)(h:am [] c w')(s:a.At w')(o:∀f,a.ba=some f->c.heap.size<=f):aV (a::L) d w':=by
 have v:∀(i:Nat) (b:Th),L[i]? = some b->∀f,b.ba=some f->f<c.heap.size:=λi b n f p=>(g.m b (Yh n)).lt _ p;refine⟨g.fr.u h,?_,?_,?_⟩
 .intro b e;rcases Yg.1 e with rfl|e
  .omega
  .exact(g.m b e).F h (by simp)
 .intro b e k l;rcases Yg.1 e with rfl|e
  .exact Yz g.fr.ar (o k l)
  .exact g.ao b e k l
 .intro i j b m u e t r h q;cases i with
  |zero=>
   grind
  |succ i=>
   cases j with
   |zero=>
    grind
   |succ j=>exact g.cv i j b m (by omega) (by simp_all) (by simp_all) r h q
def aV.cE{a:Th}{L:List Th}(h:aV (a::L) d c)(i:Nat):aV (L.set i a) d c:=by
 have l:∀b,b∈L.set i a->b∈a::L:=λb e=>by
  grind
 have k:∀(f:Nat) (b:Th),(L.set i a)[f]? = some b->∃g,(a::L)[g]? = some b/\((f=i/\g=0)\/(f≠i/\g=f+1)):=by
  grind
 refine⟨h.fr,λb e=>h.m b (l b e),λb e=>h.ao b (l b e),?_⟩;intro f s b j w e p m q r;obtain⟨g,n,u⟩:=k f b e;obtain⟨t,o,v⟩:=k s j p;exact h.cv g t b j (by omega) n o m q r
def ox(c w':Zw):List Th:=(List.range (w'.heap.size-c.heap.size)).map λa=>.obj (c.heap.size+a) (w'.heap.getD (c.heap.size+a) (.map #[] 0))
def BA{c w':Zw}{a:Nat}{b:Obj}(e:c.heap.size<=a)(d:w'.heap[a]? = some b):Th.obj a b∈ox c w':=by
 have:=ap d;refine YE.2 ⟨a-c.heap.size,List.mem_range.2 (by omega),?_⟩;simp_all
def Bz{c w':Zw}{i:Nat}{a:Th}(b:(ox c w')[i]? = some a):∃f,a=.obj (c.heap.size+i) f/\w'.heap[c.heap.size+i]? = some f:=by
 unfold ox at b;rw[List.getElem?_map]at b;cases e:(List.range (w'.heap.size-c.heap.size))[i]? with
 |none=>simp_all
 |some h=>
  rw[e]at b;cases b
  obtain⟨g,d⟩:=YB.1 e;simp at g d;subst d;refine⟨_,rfl,?_⟩;rw[Array.getD_eq_getD_getElem?,Array.getElem?_eq_getElem (by omega)];rfl
def aV.i1{L:List Th}{w':Zw}(m:aV L d c)(j:am [] c w'):aV (L++ox c w') d w':=by
 have s:∀(i:Nat) (a:Th) (f:Nat),L[i]? = some a->a.ba=some f->f<c.heap.size:=λi a f g e=>(m.m a (Yh g)).lt _ e;have k:∀(i:Nat) (a:Th) (f:Nat),(ox c w')[i]? = some a->a.ba=some f->f=c.heap.size+i:=λi a f g e=>by
  obtain⟨r,rfl,_⟩:=Bz g;simpa[Th.ba]using e.symm
 refine⟨m.fr.u j,λa b=>?_,λa b h e=>?_,λi q a h l b e f n o=>?_⟩
 .rcases Yn.1 b with b|b
  .exact(m.m a b).F j (by simp)
  .obtain⟨i,g⟩:=List.getElem?_of_mem b;obtain⟨r,rfl,p⟩:=Bz g;exact p
 .rcases Yn.1 b with b|b
  .exact m.ao a b h e
  .obtain⟨i,g⟩:=List.getElem?_of_mem b;have:=k i a h g e;have:=m.fr.ar;omega
 .rw[List.getElem?_append]at b e;split at b
  .split at e
   .exact m.cv i q a h l b e f n o
   grind
  grind
end
def er(b:Zb)(a:ae):ae:={ a with j:=a.j++b }
def bO(a:Int):Zb:=(Lib.itoa a)
def fF(e:Zb)(d c b:Int)(a:ae):(Int×Int)×ae:=if b<d\/c<b then ((0,0),bL 8 a.s.x.m a)else ((b,a.s.x.m),aW e a)
def cG(a:ae):dk:=a.A.getD (bP a a.s.x.text).toNat hI
def bn(d:Zb)(c b:Int)(a:ae):(Int×Int)×ae:=
 if a.s.e≠0 then ((0,0),a)
 else if a.s.x.C=3 then fF d c b a.s.x.n a
 else if aH a 2 [84,82,85,69]=true then fF d c b 1 a
 else if aH a 2 [70,65,76,83,69]=true then fF d c b 0 a
 else if a.s.x.C=1 then
  if bP a a.s.x.text<0\/(cG a).a7≠0 then ((0,0),bL 7 a.s.x.m a)else fF d c b (cG a).n a
 else ((0,0),dj a)
def iC(b:Zb)(a:ae):(Int×Zb)×ae:=
 if aH a 2 [104,121,112,101,114]=true then ((3,[117,110,115,105,103,110,101,100,32,104,121,112,101,114]),aW b a)
 else if aH a 2 [105,110,116]=true then ((1,[117,110,115,105,103,110,101,100]),aW b a)
 else ((1,[117,110,115,105,103,110,101,100]),a)
def mn(b:Zb)(a:Int):bg:=⟨14,0,-1,[],[],0,b,a⟩
def cq(b:Zb)(a:ae):(Int×Zb)×ae:=
 if a.s.e≠0 then ((0,[]),a)
 else if a.s.x.C=1 then (((aW b a).w.length,a.s.x.text),cm (mn a.s.x.text a.s.x.m) (aW b a))
 else if a.s.x.C=2/\a.s.x.text=[105,110,116]then ((0,[105,110,116]),aW b a)
 else if a.s.x.C=2/\a.s.x.text=[104,121,112,101,114]then ((2,[104,121,112,101,114]),aW b a)
 else if a.s.x.C=2/\a.s.x.text=[98,111,111,108]then ((4,[98,111,111,108]),aW b a)
 else if a.s.x.C=2/\a.s.x.text=[117,110,115,105,103,110,101,100]then iC b (aW b a)
 else ((0,[]),dj a)
def bw(a:Zb)(e:Bool)(d:ae):Int×ae:=
 if e=true then
  let b:=bn a 1 1000 (af a 4 [91] d)
  (b.1.1,af a 4 [93] b.2)
 else
  let c:=af a 4 [60] d
  if aH c 4 [62]=true then (4294967295,af a 4 [62] c)
  else
   let b:=bn a 0 4294967295 c
   (b.1.1,af a 4 [62] b.2)
def cd(c:Zb)(b:Zc)(all:Bool)(d:ae):dO×ae:=
 let a:=cV c d
 if a.2.s.e=0/\(if all=true then decide (0<=bP a.2 a.1.text)else b.contains a.1.text)=true then (a.1,bL 6 a.1.m a.2)else a
structure jb where
 r:Int
 d7:Zb
 e5:Zb
 x:dO
def dY(a b:Int):bg:=⟨a,b,0,[],[],0,[],0⟩
def dz(a b c:Int):bg:=⟨a,b,c,[],[],0,[],0⟩
def gu(c:Zb)(e:Zc)(all f:Bool)(d:ae):jb×ae:=
 let b:=cd c e all (aW c d)
 if aH b.2 4 [91]=true/\f=true then
  let a:=bw c true b.2
  (⟨a.2.w.length,d.s.x.text++[32],[91]++bO a.1++[93],b.1⟩,cm (dY 6 a.1) a.2)
 else
  let a:=bw c false b.2
  (⟨a.2.w.length,d.s.x.text++[32],[60]++bO a.1++[62],b.1⟩,cm (dY (if aH d 2 [115,116,114,105,110,103]=true then 8 else 7) a.1) a.2)
def gr(d:Zb)(e:Zc)(all:Bool)(f:ae):jb×ae:=
 let b:=cq d f
 if aH b.2 4 [42]=true then
  let a:=cd d e all (aW d b.2)
  (⟨a.2.w.length,b.1.2++[32,42],[],a.1⟩,cm (dz 11 0 b.1.1) a.2)
 else
  let a:=cd d e all b.2
  if aH a.2 4 [91]=true then
   let c:=bw d true a.2
   (⟨c.2.w.length,b.1.2++[32],[91]++bO c.1++[93],a.1⟩,cm (dz 9 c.1 b.1.1) c.2)
  else if aH a.2 4 [60]=true then
   let c:=bw d false a.2
   (⟨c.2.w.length,b.1.2++[32],[60]++bO c.1++[62],a.1⟩,cm (dz 10 c.1 b.1.1) c.2)
  else (⟨b.1.1,b.1.2++[32],[],a.1⟩,a.2)
def ch(c:Zb)(b:Zc)(all:Bool)(a:ae):jb×ae:=
 if aH a 2 [111,112,97,113,117,101]=true\/aH a 2 [115,116,114,105,110,103]=true then gu c b all (aH a 2 [111,112,97,113,117,101]) a else gr c b all a
def fT(a:Zb)(d:ae):ae:=
 let b:=aR a 2 (af a 2 [99,111,110,115,116] (aD d.av 40 d))
 let v:=bn a (-2147483648) 4294967295 (af a 4 [61] b.2)
 let c:=af a 4 [59] v.2
 if c.s.e≠0 then c else er ([99,111,110,115,116,32]++b.1.text++[32,61,32]++bO v.1.1++[59,10]) (du b.1.text v.1.1 c)
def gj(b:Zb)(c:ae):ae:=
 let a:=ch b [] true (af b 2 [116,121,112,101,100,101,102] c)
 if a.2.s.e≠0 then a.2
 else er ([116,121,112,101,100,101,102,32]++a.1.d7++a.1.x.text++a.1.e5++[59,10]) (af b 4 [59] { a.2 with A:=a.2.A++[⟨a.1.x.text,1,a.1.r,a.1.x.m⟩] })
def da(c:Zb):Nat->List Int->Zb->ae->Bool×List Int×Zb×ae
 |0,a,b,d=>(false,a,b,d)
 |k+1,a,b,d=>
  if d.s.e≠0 then (false,a,b,d)
  else
   let j:=aD a.length 12 d
   let f:=aR c 2 (aD j.av 40 j)
   let v:=bn c (-2147483648) 2147483647 (af c 4 [61] f.2)
   let g:=if v.2.s.e=0/\a.contains v.1.1=true then bL 6 v.1.2 v.2 else v.2
   if g.s.e≠0 then (true,a,b,g)
   else
    let h:=du f.1.text v.1.1 g
    let i:=b++f.1.text++[32,61,32]++bO v.1.1
    if aH h 4 [44]=true then da c k (a++[v.1.1]) (i++[44,32]) (aW c h)else (false,a++[v.1.1],i,h)
def gK(a:Zb)(e:ae):ae:=
 let c:=aR a 2 (af a 2 [101,110,117,109] e)
 let b:=da a 13 [] ([101,110,117,109,32]++c.1.text++[32,123,32]) (af a 4 [123] c.2)
 if b.1=true then b.2.2.2
 else
  let d:=af a 4 [59] (af a 4 [125] b.2.2.2)
  er (b.2.2.1++[32,125,59,10]) (dq c.1.text d.w.length (cm ⟨5,0,0,b.2.1,[],0,[],0⟩ d))
def dv(f:Zb):Nat->List Int->Zc->Zb->ae->List Int×Zb×ae
 |0,b,_,d,c=>(b,d,c)
 |k+1,b,h,d,c=>
  if c.s.e≠0 then (b,d,c)
  else
   let a:=ch f h false (aD b.length 12 c)
   let g:=af f 4 [59] a.2
   let i:=d++a.1.d7++a.1.x.text++a.1.e5++[59,32]
   if aH g 4 [125]=true then (b++[a.1.r],i,g)else dv f k (b++[a.1.r]) (h++[a.1.x.text]) i g
def gA(a:Zb)(e:ae):ae:=
 let c:=aR a 2 (af a 2 [115,116,114,117,99,116] e)
 let b:=dv a 14 [] [] ([115,116,114,117,99,116,32]++c.1.text++[32,123,32]) (af a 4 [123] c.2)
 let d:=af a 4 [59] (af a 4 [125] b.2.2)
 er (b.2.1++[125,59,10]) (dq c.1.text d.w.length (cm ⟨12,0,0,[],b.1,0,[],0⟩ d))
def fG(b:ae)(a:Int):bg:=b.w.getD a.toNat cS
def bZ(b:Zb)(a:ae):(Int×Zb)×ae:=
 if a.s.e=0/\a.s.x.C=1 then
  if bP a a.s.x.text<0\/(cG a).a7≠1\/(fG a (cG a).n).C≠5 then ((0,[]),bL 7 a.s.x.m a)
  else (((cG a).n,a.s.x.text),aW b a)
 else if a.s.e=0/\a.s.x.C=2/\(a.s.x.text=[105,110,116]\/a.s.x.text=[117,110,115,105,103,110,101,100]\/a.s.x.text=[98,111,111,108])then
  if a.s.x.text=[105,110,116]then ((0,[105,110,116]),aW b a)
  else if a.s.x.text=[98,111,111,108]then ((4,[98,111,111,108]),aW b a)
  else if aH (aW b a) 2 [105,110,116]=true then ((1,[117,110,115,105,103,110,101,100]),aW b (aW b a))
  else ((1,[117,110,115,105,103,110,101,100]),aW b a)
 else ((0,[]),dj a)
def cM(b:Zb)(c:Zc)(d:ae):(Int×Zb×Zc)×ae:=
 if aH d 2 [118,111,105,100]=true then ((-1,[118,111,105,100,59,32],c),af b 4 [59] (aW b d))
 else
  let a:=ch b c false d
  ((a.1.r,a.1.d7++a.1.x.text++a.1.e5++[59,32],c++[a.1.x.text]),af b 4 [59] a.2)
def eN(of:Int):Int:=if of=1\/of=4 then 0 else -2147483648
def eM(of:Int):Int:=if of=1 then 4294967295 else if of=4 then 1 else 2147483647
def cy(d:Zb)(of:Int):Nat->List Int->Zb->ae->(List Int×Zb)×ae
 |0,a,c,b=>((a,c),b)
 |k+1,a,c,b=>
  if b.s.e≠0 then ((a,c),b)
  else
   let v:=bn d (eN of) (eM of) (af d 2 [99,97,115,101] (aD a.length 12 b))
   let f:=if v.2.s.e=0/\4<of/\(fG v.2 of).bD.contains v.1.1=false then bL 8 v.1.2 v.2 else v.2
   let i:=if f.s.e=0/\a.contains v.1.1=true then bL 6 v.1.2 f else f
   let g:=af d 4 [58] i
   let h:=c++[99,97,115,101,32]++bO v.1.1++[58,32]
   if aH g 2 [99,97,115,101]=true then cy d of k (a++[v.1.1]) h g else ((a++[v.1.1],h),g)
def kK(b:Nat)(c:Int)(a:List Int):List Int:=a++List.replicate (b-a.length) c
def dH(i:Zb)(of:Int):Nat->List Int->List Int->Zc->Zb->ae->(List Int×List Int×Zc×Zb)×ae
 |0,c,h,f,g,d=>((c,h,f,g),d)
 |k+1,c,h,f,g,d=>
  if d.s.e≠0 then ((c,h,f,g),d)
  else
   let b:=cy i of (14-c.length) c [] d
   let a:=cM i f b.2
   let l:=kK b.1.1.length a.1.1 h
   let j:=g++b.1.2++a.1.2.1
   if aH a.2 2 [99,97,115,101]=true then dH i of k b.1.1 l a.1.2.2 j a.2 else ((b.1.1,l,a.1.2.2,j),a.2)
def gJ(b:Zb)(d:Zc)(c:ae):(Int×Zb)×ae:=
 if aH c 2 [100,101,102,97,117,108,116]=true then
  let a:=cM b d (af b 4 [58] (aW b c))
  ((a.1.1,[100,101,102,97,117,108,116,58,32]++a.1.2.1),a.2)
 else ((-2,[]),c)
def gm(a:Zb)(h:ae):ae:=
 let f:=aR a 2 (af a 2 [117,110,105,111,110] h)
 let c:=bZ a (af a 4 [40] (af a 2 [115,119,105,116,99,104] f.2))
 let e:=cV a c.2
 let i:=af a 4 [123] (af a 4 [41] e.2)
 let b:=dH a c.1.1 14 [] [] [e.1.text] ([117,110,105,111,110,32]++f.1.text++[32,115,119,105,116,99,104,32,40]++c.1.2++[32]++e.1.text++[41,32,123,32]) i
 let d:=gJ a b.1.2.2.1 b.2
 let g:=af a 4 [59] (af a 4 [125] d.2)
 er (b.1.2.2.2++d.1.2++[125,59,10]) (dq f.1.text g.w.length (cm ⟨13,0,c.1.1,b.1.1,b.1.2.1,d.1.1,[],0⟩ g))
def es(b:Zb)(a:ae):(Int×Zb)×ae:=if aH a 2 [118,111,105,100]=true then ((-1,[118,111,105,100]),aW b a)else cq b a
def bS(a:Zb)(b:List Int)(c:ae):Int×ae:=
 let v:=bn a 0 4294967295 (af a 4 [61] c)
 (v.1.1,af a 4 [59] (if v.2.s.e=0/\b.contains v.1.1=true then bL 6 v.1.2 v.2 else v.2))
def eV(a:Zb):Nat->List br->Zc->List Int->Zb->ae->(List br×Zb)×ae
 |0,c,_,_,f,d=>((c,f),d)
 |k+1,c,n,l,f,d=>
  if d.s.e≠0 then ((c,f),d)
  else
   let i:=es a (aD c.length 8 d)
   let h:=cd a n false i.2
   let g:=es a (af a 4 [40] h.2)
   let b:=bS a l (af a 4 [41] g.2)
   let m:=f++i.1.2++[32]++h.1.text++[40]++g.1.2++[41,32,61,32]++bO b.1++[59,32]
   let j:=c++[⟨0,0,b.1,g.1.1,i.1.1⟩]
   if aH b.2 4 [125]=true then ((j,m),b.2)else eV a k j (n++[h.1.text]) (l++[b.1]) m b.2
structure rP where
 b0:Zb
 num:Int
 l:List br
 j:Zb
def ed(a:Zb)(e:Zc)(f:List Int)(h:ae):rP×ae:=
 let d:=cd a e false (af a 2 [118,101,114,115,105,111,110] h)
 let c:=eV a 10 [] [] [] ([118,101,114,115,105,111,110,32]++d.1.text++[32,123,32]) (af a 4 [123] d.2)
 let b:=bS a f (af a 4 [125] c.2)
 (⟨d.1.text,b.1,c.1.1.map (λg=>{ g with fn:=b.1 }),c.1.2++[125,32,61,32]++bO b.1++[59,32]⟩,b.2)
def ec(h:Zb):Nat->Zc->List Int->List br->Zb->ae->(List br×Zb)×ae
 |0,_,_,all,b,a=>((all,b),a)
 |k+1,f,c,all,b,a=>
  if a.s.e≠0 then ((all,b),a)
  else
   let v:=ed h f c (aD c.length 4 a)
   let d:=all++v.1.l
   let g:=b++v.1.j
   if aH v.2 4 [125]=true then ((d,g),v.2)else ec h k (f++[v.1.b0]) (c++[v.1.num]) d g v.2
def gg(b:Zb)(d:ae):ae:=
 let c:=aR b 2 (af b 2 [112,114,111,103,114,97,109] (aD d.O.length 4 d))
 let v:=ec b 6 [] [] [] ([112,114,111,103,114,97,109,32]++c.1.text++[32,123,32]) (af b 4 [123] c.2)
 let e:=af b 4 [125] v.2
 let a:=bS b e.O e
 er (v.1.2++[125,32,61,32]++bO a.1++[59,10]) { a.2 with O:=a.2.O++[a.1],ag:=a.2.ag++v.1.1.map (λf=>{ f with prog:=a.1 }) }
def bV(b:Zb)(a:ae):ae:=
 if aH a 2 [99,111,110,115,116]=true then fT b a
 else if aH a 2 [112,114,111,103,114,97,109]=true then gg b a
 else if a.s.x.C≠2\/(a.s.x.text≠[116,121,112,101,100,101,102]/\a.s.x.text≠[101,110,117,109]/\a.s.x.text≠[115,116,114,117,99,116]/\a.s.x.text≠[117,110,105,111,110])then dj a
 else
  let d:=aD a.L 24 a
  let c:ae:={ d with L:=d.L+1 }
  if a.s.x.text=[116,121,112,101,100,101,102]then gj b c
  else if a.s.x.text=[101,110,117,109]then gK b c
  else if a.s.x.text=[115,116,114,117,99,116]then gA b c
  else gm b c
section
variable {g j : Nat -> Prop} {f h : Nat} {d : Zb} {a : ae} {c : Zw} {i : PV}
def GV(g:Nat->Prop)(f:Nat)(d:Zb)(h:Nat)(i:PV)(e:ae)(v:Zv)(c:Zw)(b:Ending)(a:Zw):Prop:=b=.returned v/\bk g f d h e i a/\Fr g c a
def uf(b:bk g f d h a i c)(j e:Int):Calls prog 51 #[Zp f,U j,U e] c (GV g f d h i (bL j e a) (.tuple #[]) c):=by
 refine(ue b.ai j e).mono ?_;rintro m n ⟨rfl,l,k⟩;exact⟨rfl,b.bR (s:=⟨a.s.x,_,_⟩) l k b.fin b.c3,b.fr k⟩
def FD(b:bk g f d h a i c):Calls prog 84 #[Zp f] c (GV g f d h i (dj a) (.tuple #[]) c):=by
 refine(tR b.ai).mono ?_;rintro k l ⟨rfl,j,e⟩;exact⟨rfl,b.bR (s:=jQ a.s) j e b.fin b.c3,b.fr e⟩
def LM(b:bk g f d h a i c):Calls prog 47 #[Zp f] c (GV g f d h i (aW d a) (.tuple #[]) c):=by
 refine(uS b.ai b.fin b.ck).mono ?_;rintro k l ⟨rfl,j,e⟩;exact⟨rfl,b.bR (s:=pF d a.s) j e (uQ b.fin) (uR b.ck),b.fr e⟩
def AH(k:bk g f d h a i c)(b:Nat)(e:Zb):Calls prog 81 #[Zp f,U b,Zs e] c λj l=>j=.returned (.bool (aH a b e))/\l=c:=xg k.ai b e
def oJ(b:bk g f d h a i c)(e:Nat)(j:Zb):Calls prog 141 #[Zp f,U e,Zs j] c (GV g f d h i (af d e j a) (.tuple #[]) c):=by
 refine(DJ b.ai b.fin b.ck e j).mono ?_;rintro n o ⟨rfl,m,k,l⟩;exact⟨rfl,b.bR m k l (DH b.ck b.c3),b.fr k⟩
def bk.B(k:bk g f d h a i c)(e:Obj):bk (ad g c.heap.size) f d h a i (c.alloc e):=by
 refine k.gE ((ak [] c).B e) (by simp) ?_ ?_
 .intro j b;rcases b with b|rfl;all_goals simp_all
 .intro j b;have l:(c.alloc e).heap.size=c.heap.size+1:=by simp
  rcases b with b|rfl
  .have:=k.aY j b;omega
  omega
def bk.b3{b:Nat}(j:bk (ad g b) f d h a i c):bk g f d h a i c:=j.gE (ak [] c) (by simp) (λb e=>Y8 (Y8 e)) (λb e=>j.aY b (Y8 e))
def GN(g:Nat->Prop)(f:Nat)(d:Zb)(h:Nat)(i:PV)(a:(Int×Int)×ae)(c:Zw)(b:Ending)(e:Zw):Prop:=GV g f d h i a.2 (.tuple #[U a.1.1,U a.1.2]) c b e
def yF(F:bk g f d h a i c)(m p:Int)(b0:h<=1000000000):Calls prog 143 #[Zp f,U m,U p] c (GN g f d h i (bn d m p a) c):=by
 obtain⟨d2,d4,d5,d6,d7,d8,a5,a6,a7,a0,d3,a1,a2,a3,a4,e1,e5⟩:=F.al;have u:=Z F;have b:ac (bk (ad g c.heap.size) f d h a i (c.alloc (oW a.s.x))/\Fr g c (c.alloc (oW a.s.x))/\(c.alloc (oW a.s.x)).heap[c.heap.size]? = some (oW a.s.x)):=Z ⟨F.B _,(jD g c).B _,aS rfl⟩;clear F a5 a7 a0 a1 a2 a3 a4;by_cases w:a.s.e=0
 .have b2:(a.s.e != 0)=false:=by rw[w];rfl
  have j:ac (bn d m p a=if a.s.x.C=3 then fF d m p a.s.x.n a else if aH a 2 [84,82,85,69]then fF d m p 1 a else if aH a 2 [70,65,76,83,69]then fF d m p 0 a else if a.s.x.C=1 then if bP a a.s.x.text<0\/(cG a).a7≠0 then ((0,0),bL 7 a.s.x.m a)else fF d m p (cG a).n a else ((0,0),dj a)):=by show _=_;unfold bn;rw[Y2 (by simpa using w)]
  clear w;go_in;go_wp2_with fail;refine(AH (u.j.B _) 2 [84,82,85,69]).mono ?_;rintro t c1 ⟨rfl,rfl⟩;go_wp2_with fail;refine(AH (u.j.B _) 2 [70,65,76,83,69]).mono ?_;rintro t c1 ⟨rfl,rfl⟩;go_upto_block 0 with fail;go_cut [9,10,11] (λv _ _ wc=>∃k:Int,v=U k/\ac (bn d m p a=fF d m p k a)/\ac (bk (ad g c.heap.size) f d h a i wc/\Fr g c wc/\wc.heap[c.heap.size]? = some (oW a.s.x)));case first=>
   by_cases C:a.s.x.C=3
   .have b4:((a.s.x.C:Int)==3)=true:=by rw[C];rfl
    rw[Y9 C]at j;clear C;go_wp2;go_meet;case rel=>exact⟨_,rfl,j,b⟩
   have b4:((a.s.x.C:Int)==3)=false:=by rw[Yi];omega
   rw[Y2 C]at j;clear C;cases J:aH a 2 [84,82,85,69]with
   |true=>
    rw[J]at j;go_wp2;go_meet;case rel=>exact⟨_,rfl,j,b⟩
   |false=>
    cases hF:aH a 2 [70,65,76,83,69]with
    |true=>
     rw[J,hF]at j;go_wp2;go_meet;case rel=>exact⟨_,rfl,j,b⟩
    |false=>
     rw[J,hF]at j;simp only[Ye,if_false]at j
     by_cases B:a.s.x.C=1
     .have b3:((a.s.x.C:Int)==1)=true:=by rw[B];rfl
      obtain⟨gV,a8,O⟩:=ce u.j.A;have H:=Z (λc0=>oj (u.j.au (((ak [] c).B c0).aq)) b0 a.s.x.text);rw[O]at H a6;rw[Y9 B]at j;clear B;go_wp2_with fail;refine cx (λR=>R.cell? (Zd f 8)=some (.slice gV a.A.length a8)/\R.cell? (Zd c.heap.size 1)=some (Zs a.s.x.text)) (L:=8) (by kernel_rfl) rfl (by kernel_rfl) (by kernel_rfl) ?_ (λa9=>?_)
      .go_keep
      refine bH [0,1,2,3,4,5,6] ?_;iterate 7 (refine bK (v:=?_) rfl (by kernel_rfl) (λ_ _ _ r=>r) (by kernel_rfl) (by assumption) ?_ ?_;rotate_left;focus (intro c b1;(try dsimp only at b1);go_simp;(try with_reducible rfl));(try simp only[aJ,aK,List.set]))
      refine bI ?_;refine bF 7 (by kernel_rfl) rfl λG D=>?_;(go_simp;refine(H.j _).mono ?_;rintro t f4 ⟨rfl,rfl⟩);refine D.out _ _ ?_ (λa9=>?_)
      .go_keep
      clear D G;(try simp only[aJ,aK,List.set]);refine cR (by kernel_rfl) rfl λG D=>?_;go_simp;refine D.out _ _ ?_;clear D G;(try simp only[aJ,aK,List.set]);replace b:ac (bk (ad g c.heap.size) f d h a i (c.alloc (oW a.s.x)).drew/\Fr g c (c.alloc (oW a.s.x)).drew/\(c.alloc (oW a.s.x)).drew.heap[c.heap.size]? = some (oW a.s.x)):=Z ⟨b.j.1.au (ak [] _).aq,b.j.2.1.aq,b.j.2.2⟩;clear H;have M:=Z (uf b.j.1 7 a.s.x.m);by_cases I:bP a a.s.x.text<0
      .rw[Y9 (Y8 I)]at j;go_wp2_with fail;refine M.j.mono ?_;rintro t E ⟨rfl,o,l⟩;have q:=Z (Yp o.b3 (b.j.2.1.u l.b3));clear o l;go_wp2;go_ret2;rw[j.j];exact⟨rfl,q.j⟩
      .have b7:=qL (by omega:0<=bP a a.s.x.text);obtain⟨e0,d9,K,-,d0,d1,-,f5,f6,e2⟩:=pD u.j b7;rw[O]at K;simp at K;obtain⟨rfl,rfl⟩:=K;change c.cell? _=some (U (cG a).a7)at d0;change c.cell? _=some (U (cG a).n)at d1;generalize b6:bP a a.s.x.text=k at *
       obtain⟨k,rfl⟩:∃b9:Nat,k=b9:=⟨k.toNat,by omega⟩;simp only[Int.toNat_natCast]at *
       have e4:(k:Int)<(a.A.length:Int):=by omega
       have e3:¬((k:Int)<0):=I;clear b6 I;by_cases z:(cG a).a7=0
       .rw[Y2 (by rintro(r|r);omega;exact r z)]at j;have b8:((cG a).a7 != 0)=false:=by rw[z];rfl
        clear z;go_wp2;go_meet;case rel=>exact⟨_,rfl,j,b⟩
       .rw[Y9 (Ya z)]at j;have b8:((cG a).a7 != 0)=true:=by simpa using z
        clear z;go_wp2_with fail;refine M.j.mono ?_;rintro t E ⟨rfl,o,l⟩;have q:=Z (Yp o.b3 (b.j.2.1.u l.b3));clear o l;go_wp2;go_ret2;rw[j.j];exact⟨rfl,q.j⟩
     .have b3:((a.s.x.C:Int)==1)=false:=by rw[Yi];omega
      rw[Y2 B]at j;clear B;go_wp2_with fail;refine(FD b.j.1).mono ?_;rintro t E ⟨rfl,o,l⟩;have q:=Z (Yp o.b3 (b.j.2.1.u l.b3));clear o l;go_wp2;go_ret2;rw[j.j];exact⟨rfl,q.j⟩
  case rest=>
   obtain⟨k,rfl,A,b⟩:=hcut;obtain⟨c2,c3,c4,c5,c6,c7,c8,c9⟩:=dP b.j.2.2;unfold fF at A;by_cases y:k<m\/p<k
   .rw[Y9 y]at A;rcases(by omega:k<m\/¬k<m/\p<k)with N|⟨N,b5⟩;all_goals
     clear y
     go_wp2_with fail
     refine(uf b.j.1 8 a.s.x.m).mono ?_
     rintro t E ⟨rfl,o,l⟩
     have q:=Z (Yp o.b3 (b.j.2.1.u l.b3))
     clear o l
     go_wp2
     go_ret2
     rw[A.j]
     exact⟨rfl,q.j⟩
   .rw[Y2 y]at A;have N:¬(k<m):=λr=>y (Y8 r);have b5:¬(p<k):=λr=>y (Ya r);clear y;go_wp2_with fail;refine(LM b.j.1).mono ?_;rintro t E ⟨rfl,o,l⟩;have P:E.heap[c.heap.size]? = some (oW a.s.x):=(l.G _ (ap b.j.2.2) mP).trans b.j.2.2;obtain⟨e6,e7,e8,e9,f0,f1,f2,f3⟩:=dP P;have q:=Z (Yp o.b3 (b.j.2.1.u l.b3));clear o l P c2 c3 c4 c5 c6 c7 c8 c9;go_wp2;go_region;go_wp2;go_ret2;rw[A.j];exact⟨rfl,q.j.1.au (ak [] _).aq,q.j.2.aq⟩
 .have b2:(a.s.e != 0)=true:=by simpa using w
  have S:ac (bn d m p a=((0,0),a)):=by show _=_;unfold bn;rw[Y9 w]
  clear w;go_in;go_wp2;go_ret2;rw[S.j];exact⟨rfl,u.j,jD _ _⟩
end
section
variable {g j : Nat -> Prop} {f d : Nat} {b : Zb} {a : ae} {c : Zw} {h : PV}
def tm(m:bC g f b d a c)(i e:Int)(k:d<=1000000000):Calls prog 143 #[Zp f,U i,U e] c (GP g f b d (bn b i e a).2 (.tuple #[U (bn b i e a).1.1,U (bn b i e a).1.2]) c):=by
 obtain⟨h,l⟩:=m;exact(yF l i e k).mono λn o j=>⟨j.1,⟨h,j.2.1⟩,j.2.2⟩
def ss(c:Zw):dI (.slice none 0 0) [] c:=⟨rfl,Y8 ⟨rfl,rfl⟩⟩
def De(c:Zw):kx (.slice none 0 0) [] c:=⟨rfl,Y8 ⟨rfl,rfl⟩⟩
def nt(l:bC g f b d a c)(e:bg)(j:e.bD=[])(k:e.cg=[])(i:d<=1000000000):Calls prog 46 #[Zp f,.agg #[U e.C,U e.n,U e.of,.slice none 0 0,.slice none 0 0,U e.fp,Zs e.b0,U e.m]] c (GP g f b (d+1) (cm e a) (U a.w.length) c):=
 Cm l (λ_ h=>h) e (.slice none 0 0) (.slice none 0 0) (by rw[j];exact ss c) (by rw[k];exact ss c) (by grind [Value.ownBlock]) i
def AK(v:bC g f b d a c)(P:d<=1000000000):Calls prog 218 #[Zp f] c (GP g f b (d+1) (cq b a).2 (.tuple #[U (cq b a).1.1,.string ⟨(cq b a).1.2.toArray⟩]) c):=by
 have r:=Z (iE v);obtain⟨h,u⟩:=v;obtain⟨a3,a5,a6,a7,a8,a9,L,M,N,G,a4,H,I,J,K,b0,b1⟩:=u.al;clear u L M N G H I J K;by_cases o:a.s.e=0
 .have R:(a.s.e != 0)=false:=by simp_all
  have l:=Z (r.j.B (oW a.s.x));by_cases q:a.s.x.C=1
  .have j:ac (cq b a=((((aW b a).w.length:Int),a.s.x.text),cm (mn a.s.x.text a.s.x.m) (aW b a))):=by show _=_;simp_all[cq]
   have S:((a.s.x.C:Int)==1)=true:=by simp_all
   clear q o;go_in;go_wp2_with fail;refine aM l (gZ ·) λn k=>?_;obtain⟨y,z,A,B,C,D,E,F⟩:=k.j.al (i:=0) rfl;go_wp2_with fail;refine aM k (nt · (mn a.s.x.text a.s.x.m) rfl rfl P) λw m=>?_;clear y z A B C D E F;obtain⟨y,z,A,B,C,D,E,F⟩:=m.j.al (i:=0) rfl;go_wp2;go_region;go_wp2;go_ret2;rw[j.j];exact⟨rfl,m.j.aq.fin⟩
  .have S:((a.s.x.C:Int)==1)=false:=by grind
   by_cases t:a.s.x.C=2
   .have a0:((a.s.x.C:Int)==2)=true:=by simp_all
    have a2:ac (cq b a=if a.s.x.text=[105,110,116]then ((0,[105,110,116]),aW b a)else if a.s.x.text=[104,121,112,101,114]then ((2,[104,121,112,101,114]),aW b a)else if a.s.x.text=[98,111,111,108]then ((4,[98,111,111,108]),aW b a)else if a.s.x.text=[117,110,115,105,103,110,101,100]then iC b (aW b a)else ((0,[]),dj a)):=by show _=_;simp_all[cq]
    clear q t o;cases b4:(a.s.x.text==[105,110,116])with
    |true=>
     have j:ac (cq b a=((0,[105,110,116]),aW b a)):=by simp_all
     go_in;go_wp2_with fail;refine aM l (gZ ·) λn k=>?_;go_wp2;go_ret2;rw[j.j];exact⟨rfl,(k.j.a0 (by omega)).fin⟩
    |false=>
     cases b5:(a.s.x.text==[104,121,112,101,114])with
     |true=>
      have j:ac (cq b a=((2,[104,121,112,101,114]),aW b a)):=by simp_all
      go_in;go_wp2_with fail;refine aM l (gZ ·) λn k=>?_;go_wp2;go_ret2;rw[j.j];exact⟨rfl,(k.j.a0 (by omega)).fin⟩
     |false=>
      cases b6:(a.s.x.text==[98,111,111,108])with
      |true=>
       have j:ac (cq b a=((4,[98,111,111,108]),aW b a)):=by simp_all
       go_in;go_wp2_with fail;refine aM l (gZ ·) λn k=>?_;go_wp2;go_ret2;rw[j.j];exact⟨rfl,(k.j.a0 (by omega)).fin⟩
      |false=>
       cases b7:(a.s.x.text==[117,110,115,105,103,110,101,100])with
       |true=>
        have p:ac (cq b a=iC b (aW b a)):=by grind
        go_in;go_wp2_with fail;refine aM l (gZ ·) λn k=>?_;go_wp2_with fail;refine(gs k.j.ax 2 [104,121,112,101,114]).mono ?_;rintro O a1 ⟨rfl,rfl⟩;go_wp2_with fail;refine(gs k.j.ax 2 [105,110,116]).mono ?_;rintro O a1 ⟨rfl,rfl⟩;cases b2:aH (aW b a) 2 [104,121,112,101,114]with
        |true=>
         have j:ac (cq b a=((3,[117,110,115,105,103,110,101,100,32,104,121,112,101,114]),aW b (aW b a))):=by show _=_;rw[p.j];unfold iC;simp_all
         go_wp2_with fail;refine aM k (gZ ·) λw m=>?_;go_wp2;go_ret2;rw[j.j];exact⟨rfl,(m.j.a0 (by omega)).fin⟩
        |false=>
         cases b3:aH (aW b a) 2 [105,110,116]with
         |true=>
          have j:ac (cq b a=((1,[117,110,115,105,103,110,101,100]),aW b (aW b a))):=by show _=_;rw[p.j];unfold iC;simp_all
          go_wp2_with fail;refine aM k (gZ ·) λw m=>?_;go_wp2;go_ret2;rw[j.j];exact⟨rfl,(m.j.a0 (by omega)).fin⟩
         |false=>
          have j:ac (cq b a=((1,[117,110,115,105,103,110,101,100]),aW b a)):=by show _=_;rw[p.j];unfold iC;simp_all
          go_wp2;go_ret2;rw[j.j];exact⟨rfl,(k.j.a0 (by omega)).fin⟩
       |false=>
        have j:ac (cq b a=((0,[]),dj a)):=by simp_all
        go_in;go_wp2_with fail;refine aM l (nX ·) λn k=>?_;go_wp2;go_ret2;rw[j.j];exact⟨rfl,(k.j.a0 (by omega)).fin⟩
   .have a0:((a.s.x.C:Int)==2)=false:=by grind
    have j:ac (cq b a=((0,[]),dj a)):=by show _=_;simp_all[cq]
    clear q t o;go_in;go_wp2_with fail;refine aM l (nX ·) λn k=>?_;go_wp2;go_ret2;rw[j.j];exact⟨rfl,(k.j.a0 (by omega)).fin⟩
 .have R:(a.s.e != 0)=true:=by simp_all
  have j:ac (cq b a=((0,[]),a)):=by show _=_;unfold cq;simp_all
  clear o;go_in;go_wp2;go_ret2;rw[j.j];exact⟨rfl,(r.j.a0 (by omega)).fin⟩
def qA(q:bC g f b d a c)(j:Bool)(o:d<=1000000000):Calls prog 217 #[Zp f,.bool j] c (GP g f b d (bw b j a).2 (U (bw b j a).1) c):=by
 have m:=Z (iE q);clear q;cases j with
 |true=>
  have i:ac (bw b true a=((bn b 1 1000 (af b 4 [91] a)).1.1,af b 4 [93] (bn b 1 1000 (af b 4 [91] a)).2)):=by rfl
  go_in;go_wp2_with fail;refine aM m (cY · 4 [91]) λs e=>?_;go_wp2_with fail;refine aM e (tm · 1 1000 o) λr h=>?_;go_wp2_with fail;refine aM h (cY · 4 [93]) λt l=>?_;go_wp2;go_ret;rw[i.j];exact⟨rfl,l.j.fin⟩
 |false=>
  go_in;go_wp2_with fail;refine aM m (cY · 4 [60]) λs e=>?_;go_wp2_with fail;refine(gs e.j.ax 4 [62]).mono ?_;rintro u w ⟨rfl,rfl⟩;generalize p:af b 4 [60] a=k at *
  have n:=Z p;clear p;cases v:aH k 4 [62]with
  |true=>
   have i:ac (bw b false a=(4294967295,af b 4 [62] k)):=by show _=_;unfold bw;rw[Y2 (by simp),n.j];simp_all
   go_wp2_with fail;refine aM e (cY · 4 [62]) λr h=>?_;go_wp2;go_ret;rw[i.j];exact⟨rfl,h.j.fin⟩
  |false=>
   have i:ac (bw b false a=((bn b 0 4294967295 k).1.1,af b 4 [62] (bn b 0 4294967295 k).2)):=by show _=_;unfold bw;rw[Y2 (by simp),n.j];grind
   go_wp2_with fail;refine aM e (tm · 0 4294967295 o) λr h=>?_;go_wp2_with fail;refine aM h (cY · 4 [62]) λt l=>?_;go_wp2;go_ret;rw[i.j];exact⟨rfl,l.j.fin⟩
end
section
variable {g h : Nat -> Prop} {d c : Nat} {t : Zb} {b : ae} {a : Zw} {f : PV}
def bC.c3(h:bC g d t c b a):b.s.x.text.length<=2000:=by obtain⟨f,e⟩:=h;exact e.c3
def bC.bp(h:bC g d t c b a):b.sz<=c:=by obtain⟨f,e⟩:=h;exact e.bp
def bC.sp(i:bC g d t c b a):∃(f:PV) (gV:Option Addr) (e:Nat),bk g d t c b f a/\f.nv=.slice gV b.A.length e:=by
 obtain⟨f,h⟩:=i;obtain⟨j,k,l⟩:=ce h.A;grind
def Ss(h:bC g d t c b a):(cV t b).1.text.length<=2000:=by obtain⟨f,e⟩:=h;exact(yM e.ck e.c3).1
def aN.cE{L:List Th}{i R:Nat}{y:dO}{j:Zw}(h:aN g d t c b L j a)(f:L[i]? = some (.obj R (oW y)))(x:dO):(rl a R (U x.C) (Zs x.text) (U x.m) (U x.fin) (U x.n) (U x.e)).heap[R]? = some (oW x):=sY (h.m _ (Yh f))
def sO(b6:bC g d t c b a){v:Zv}{names:Zc}(c9:kx v names a)(d1:∀c2,v.ownBlock=some c2->g c2)(e3:names.length<=1000000)(all:Bool)(d8:c<=1000000000):Calls prog 216 #[Zp d,v,.bool all] a (GW g d t c (cd t names all b) a):=by
 have b8:=Z ((iE b6).B oZ);have o:=Z (Ss b6);clear b6;go_in;go_wp2_with fail;refine(yN b8.j.ax).mono ?_;rintro c4 b7 ⟨⟨rfl,d2,b5⟩,-⟩;have e0:ac (kx v names b7):=Z (oy (c9.a8 ((ak [] a).B oZ) (by simp)) b5 (λd7 d9=>Y8 (d1 d7 d9)));have b9:=Z (b8.j.call ⟨d2,b5⟩);clear d2 b5 c9 d1;generalize e1:cV t b=e2 at *
 obtain⟨h,l⟩:=e2;simp only at b9 o;have j:=Z (b9.j.B (oW h));have c0:ac (cd t names all b=if l.s.e=0/\(if all=true then decide (0<=bP l h.text)else names.contains h.text)=true then (h,bL 6 h.m l)else (h,l)):=by show _=_;unfold cd;rw[e1]
 have c1:=Z (IH ((e0.j.a8 ((ak [] b7).B (oW h)) (by simp)).b8) (by omega) h.text);go_wp2_with fail;refine c1.j.mono ?_;rintro c4 d4 ⟨rfl,d0⟩;rw[<-d0]at j;clear c1 d0;obtain⟨f,gV,d6,q,c8⟩:=j.j.ax.sp;have P:=Z (oj (q.au (ak [] d4).aq) d8 h.text);rw[c8]at P;obtain⟨S,a5,a6,a7,a8,a9,b0,N,b1,a0,c3,a1,a2,a3,a4,c6,c7⟩:=q.al;rw[c8]at N;obtain⟨C,D,E,F,G,H,I,J⟩:=j.j.al (i:=0) rfl;obtain⟨r,u,w,x,y,z,A,B⟩:=j.j.al (i:=1) (R:=a.heap.size) (x:=cp) rfl;clear q S a5 a6 a7 a8 a9 b0 b1 a0 a1 a2 a3 a4;cases all with
 |true=>
  simp only[if_true]at c0
  go_wp2_with fail;refine cx (λd3=>d3.cell? (Zd d 8)=some (.slice gV l.A.length d6)/\d3.cell? (Zd b7.heap.size 1)=some (Zs h.text)) (L:=9) (by kernel_rfl) rfl (by kernel_rfl) (by kernel_rfl) ?_ (λc5=>?_)
  .go_keep
  refine bH [0,1,2,3,4,5,6] ?_;iterate 7 (refine bK (v:=?_) rfl (by kernel_rfl) (λ_ _ _ b2=>b2) (by kernel_rfl) (by assumption) ?_ ?_;rotate_left;focus (intro a b3;(try dsimp only at b3);go_simp;(try with_reducible rfl));(try simp only[aJ,aK,List.set]))
  refine bI ?_;refine bF 7 (by kernel_rfl) rfl λO K=>?_;(go_simp;refine P.j.mono ?_;rintro c4 d5 ⟨rfl,rfl⟩);refine K.out _ _ ?_ (λc5=>?_)
  .go_keep
  clear K O;(try simp only[aJ,aK,List.set]);refine tk (i:=8) (v:=?_) rfl (by kernel_rfl) (λ_ _ _ b2=>b2) (by kernel_rfl) (by assumption) ?_ ?_;rotate_left
  .intro a b3;(try dsimp only at b3);go_simp;(try with_reducible rfl)
  (try simp only[aJ,aK,List.set]);refine cR (by kernel_rfl) rfl λO K=>?_;go_simp;refine K.out _ _ ?_;clear K O;(try simp only[aJ,aK,List.set]);have m:=Z j.j.aq;clear j P c5 C D E F G H I J r u w x y z A B N c3 c6 c7;generalize d4.drew=e4 at m ⊢;have j:=m;clear m;obtain⟨f,q⟩:=j.j.ax;obtain⟨S,a5,a6,a7,a8,a9,b0,N,b1,a0,c3,a1,a2,a3,a4,c6,c7⟩:=q.al;obtain⟨C,D,E,F,G,H,I,J⟩:=j.j.al (i:=0) rfl;obtain⟨r,u,w,x,y,z,A,B⟩:=j.j.al (i:=1) (R:=a.heap.size) (x:=cp) rfl;clear q S a5 a6 a7 a8 a9 b0 N b1 a0 a1 a2 a3 a4;generalize decide (0<=bP l h.text)=k at *
  by_cases p:l.s.e=0
  .have b4:(l.s.e==0)=true:=by simp_all
   cases M:k with
   |true=>
    have n:ac (cd t names true b=(h,bL 6 h.m l)):=by simp_all
    clear p;subst M;go_wp2_with fail;refine aM j (jo · 6 h.m) λd5 m=>?_;clear C D E F G H I J r u w x y z A B;obtain⟨C,D,E,F,G,H,I,J⟩:=m.j.al (i:=0) rfl;obtain⟨r,u,w,x,y,z,A,B⟩:=m.j.al (i:=1) (R:=a.heap.size) (x:=cp) rfl;go_wp2;refine ns (R:=a.heap.size) (x:=h) (by rfl) (by rfl) rfl (m.j.cE (i:=1) (R:=a.heap.size) (y:=cp) rfl h) ?_;rw[n.j];exact⟨rfl,(m.j.c4 (i:=1) (R:=a.heap.size) (y:=cp) rfl h).fin.1,(m.j.c4 (i:=1) (R:=a.heap.size) (y:=cp) rfl h).fin.2,o.j⟩
   |false=>
    have n:ac (cd t names true b=(h,l)):=by simp_all
    clear p;subst M;go_wp2;refine ns (R:=a.heap.size) (x:=h) (by rfl) (by rfl) rfl (j.j.cE (i:=1) (R:=a.heap.size) (y:=cp) rfl h) ?_;rw[n.j];exact⟨rfl,(j.j.c4 (i:=1) (R:=a.heap.size) (y:=cp) rfl h).fin.1,(j.j.c4 (i:=1) (R:=a.heap.size) (y:=cp) rfl h).fin.2,o.j⟩
  .have b4:(l.s.e==0)=false:=by simp_all
   have n:ac (cd t names true b=(h,l)):=by simp_all
   clear p;go_wp2;refine ns (R:=a.heap.size) (x:=h) (by rfl) (by rfl) rfl (j.j.cE (i:=1) (R:=a.heap.size) (y:=cp) rfl h) ?_;rw[n.j];exact⟨rfl,(j.j.c4 (i:=1) (R:=a.heap.size) (y:=cp) rfl h).fin.1,(j.j.c4 (i:=1) (R:=a.heap.size) (y:=cp) rfl h).fin.2,o.j⟩
 |false=>
  simp only[Ye,if_false]at c0
  generalize names.contains h.text=k at *
  by_cases p:l.s.e=0
  .have b4:(l.s.e==0)=true:=by simp_all
   cases M:k with
   |true=>
    have n:ac (cd t names false b=(h,bL 6 h.m l)):=by simp_all
    clear p;subst M;go_wp2_with fail;refine aM j (jo · 6 h.m) λd5 m=>?_;clear C D E F G H I J r u w x y z A B;obtain⟨C,D,E,F,G,H,I,J⟩:=m.j.al (i:=0) rfl;obtain⟨r,u,w,x,y,z,A,B⟩:=m.j.al (i:=1) (R:=a.heap.size) (x:=cp) rfl;go_wp2;refine ns (R:=a.heap.size) (x:=h) (by rfl) (by rfl) rfl (m.j.cE (i:=1) (R:=a.heap.size) (y:=cp) rfl h) ?_;rw[n.j];exact⟨rfl,(m.j.c4 (i:=1) (R:=a.heap.size) (y:=cp) rfl h).fin.1,(m.j.c4 (i:=1) (R:=a.heap.size) (y:=cp) rfl h).fin.2,o.j⟩
   |false=>
    have n:ac (cd t names false b=(h,l)):=by simp_all
    clear p;subst M;go_wp2;refine ns (R:=a.heap.size) (x:=h) (by rfl) (by rfl) rfl (j.j.cE (i:=1) (R:=a.heap.size) (y:=cp) rfl h) ?_;rw[n.j];exact⟨rfl,(j.j.c4 (i:=1) (R:=a.heap.size) (y:=cp) rfl h).fin.1,(j.j.c4 (i:=1) (R:=a.heap.size) (y:=cp) rfl h).fin.2,o.j⟩
  .have b4:(l.s.e==0)=false:=by simp_all
   have n:ac (cd t names false b=(h,l)):=by simp_all
   clear p;go_wp2;refine ns (R:=a.heap.size) (x:=h) (by rfl) (by rfl) rfl (j.j.cE (i:=1) (R:=a.heap.size) (y:=cp) rfl h) ?_;rw[n.j];exact⟨rfl,(j.j.c4 (i:=1) (R:=a.heap.size) (y:=cp) rfl h).fin.1,(j.j.c4 (i:=1) (R:=a.heap.size) (y:=cp) rfl h).fin.2,o.j⟩
end
section
variable {d g : Nat -> Prop} {e c : Nat} {t : Zb} {a : ae} {b : Zw} {f : PV}
theorem vi(c b d:Int)(a:ae):(fF t c b d a).1.1=0\/(c<=(fF t c b d a).1.1/\(fF t c b d a).1.1<=b):=by
 unfold fF;grind
theorem tl(c b:Int)(a:ae):(bn t c b a).1.1=0\/(c<=(bn t c b a).1.1/\(bn t c b a).1.1<=b):=by
 unfold bn;split
 .simp
 .split
  .exact vi _ _ _ _
  .split
   .exact vi _ _ _ _
   .split
    .exact vi _ _ _ _
    .split
     .split;all_goals simp_all[vi]
     simp
def qz(b:Bool)(a:ae):0<=(bw t b a).1/\(bw t b a).1<=4294967295:=by
 grind [bw,tl]
def kP(a:Int)(b:-10000000000<=a)(c:a<=10000000000):(bO a).length<=13:=by
 unfold bO Lib.itoa;split
 .have:=sd 10 a.natAbs (by omega);grind
 .have:=sd 10 a.toNat (by omega);omega
def Jq(f:bC d e t c a b):(cq t a).1.2.length<=2000:=by
 have:=f.c3;unfold cq iC;repeat' split
 all_goals simp
 omega
abbrev GG(a:jb):Zv:=.tuple #[U a.r,Zs a.d7,Zs a.e5,.agg (fx a.x)]
def GD(d:Nat->Prop)(e:Nat)(t:Zb)(c:Nat)(a:jb×ae)(b:Zw)(g:Ending)(f:Zw):Prop:=g=.returned (GG a.1)/\bC d e t c a.2 f/\Fr d b f/\a.1.d7.length<=2002/\a.1.e5.length<=20/\a.1.x.text.length<=2000
def oA{c:Func}{Q:Ending->Zw->Prop}{a:Act}{R i0 i1 i2 i3:Nat}{v0 v1 v2:Zv}{x:dO}(j:c.results=#[.tmp i0,.tmp i1,.tmp i2,.cell i3 112])(r:a.tmps.getD i0 undef=v0)(s:a.tmps.getD i1 undef=v1)(t:a.tmps.getD i2 undef=v2)(u:a.tmps.getD i3 undef=Zp R)(h:a.defers=[])(q:b.heap[R]? = some (oW x))(i:Q (.returned (.tuple #[v0,v1,v2,.agg (fx x)])) b):bodyPost prog c Q .ret a b:=by
 refine bodyPost_ret (v:=.tuple #[v0,v1,v2,.agg (fx x)]) ?_ h i;unfold results;rw[j];obtain⟨k,l,m,n,o,p,w,y⟩:=dP q;have d:a.tmps[i0]?.getD undef=v0:=by simp_all
 have e:a.tmps[i1]?.getD undef=v1:=by simp_all
 have f:a.tmps[i2]?.getD undef=v2:=by simp_all
 have g:a.tmps[i3]?.getD undef=Zp R:=by simp_all
 simp[d,e,f,g,go_sem,k,l,m,n,o,p]
def aN.a5{f:List Th}{i R:Nat}{g:Obj}{k:Zw}(j:aN d e t c a f k b)(h:f[i]? = some (.obj R g)):b.heap[R]? = some g:=j.m _ (Yh h)
def Jh{d e:Nat}{b c:Zb}(f:aH a d b=true)(g:b≠c):aH a e c=false:=by
 grind [aH,hB]
def wM(d3:bC d e t c a b){v:Zv}{names:Zc}(d9:kx v names b)(e0:∀K,v.ownBlock=some K->d K)(c8:names.length<=1000000)(all:Bool)(g5:c+10<=1000000000):Calls prog 148 #[Zp e,v,.bool all] b (GD d e t (c+2) (ch t names all a) b):=by
 have d6:=Z ((iE d3).B (oW cp));have x:=Z (Yp d9 e0);have g6:=d3.c3;clear d3 d9 e0;go_in;go_wp2_with fail;refine(gs d6.j.ax 2 [111,112,97,113,117,101]).mono ?_;rintro p g7 ⟨rfl,H⟩;have N:=d6;rw[<-H]at N;clear H;go_wp2_with fail;refine(gs N.j.ax 2 [115,116,114,105,110,103]).mono ?_;rintro p e3 ⟨rfl,rfl⟩;have g3:¬(9223372036854775807<a.s.x.text.length+1):=by omega
 have f8:=hS a.s.x.text [32];obtain⟨f,d7⟩:=N.j.ax;obtain⟨e4,d0,f1,f2,f3,f4,f5,f6,f7,e5,e6,e7,e8,e9,f0,d1,d2⟩:=d7.al;clear d7 e4 f1 f2 f3 f4 f5 f6 f7 e5 e6 e7 e8 e9 f0;cases c1:aH a 2 [111,112,97,113,117,101]with
 |true=>
  have b5:aH a 2 [115,116,114,105,110,103]=false:=Jh c1 (by decide);rw[b5];go_wp2_with fail;refine aM N (gZ ·) λe1 u=>?_;clear d0 d1 d2;go_wp2_with fail;refine(sO u.j.ax (oy x.j.1 u.j.fr x.j.2) (λK O=>Y8 (x.j.2 K O)) c8 all (by omega)).mono ?_;rintro p d4 ⟨rfl,I,m,r⟩;have w:=Z (u.j.call ⟨I,m⟩);clear I m;generalize G:cd t names all (aW t a)=P at *
  obtain⟨g,h⟩:=P;have D:=Z G;simp only at w r;clear G;have A:=Z (w.j.B (oW g));go_wp2_with fail;refine(gs A.j.ax 4 [91]).mono ?_;rintro p e2 ⟨rfl,H⟩;have q:=A;rw[<-H]at q;clear H;cases L:aH h 4 [91]with
  |true=>
   have o:ac (ch t names all a=(⟨(bw t true h).2.w.length,a.s.x.text++[32],[91]++bO (bw t true h).1++[93],g⟩,cm (dY 6 (bw t true h).1) (bw t true h).2)):=by
    show _=_;unfold ch;rw[Y9 (by simp_all)];unfold gu;simp only[D.j,c1,b5,L];simp
   go_wp2_with fail;refine aM q (qA · true (by omega)) λc4 B=>?_;have b7:=qz (t:=t) true h;generalize b8:bw t true h=E at *
   obtain⟨n,J⟩:=E;simp only at *
   go_wp2_with fail;refine(kH n (by omega) (by omega) _).mono ?_;rintro p c5 ⟨rfl,m⟩;have C:=Z (B.j.F m);clear m;go_wp2_with fail;refine aM C (nt · (dY 6 n) rfl rfl (by omega)) λb6 k=>?_;obtain⟨a7,a8,a9,b0,b1,b2,b3,b4⟩:=k.j.al (i:=0) rfl;obtain⟨S,a0,a1,a2,a3,a4,a5,a6⟩:=k.j.al (i:=1) (R:=b.heap.size) (x:=cp) rfl;have F:=kP n (by omega) (by omega);unfold bO at F o;generalize Lib.itoa n=j at *
   have b9:=hS [91] j;have c0:=hS ([91]++j) [93];have c2:¬(9223372036854775807<1+j.length):=by omega
   have c3:¬(9223372036854775807<1+j.length+1):=by omega
   go_wp2;go_region;go_wp2;have l:=Z ((k.j.c4 (i:=1) (R:=b.heap.size) (y:=cp) rfl g).aq.a0 (N':=c+2) (by omega));refine oA (i0:=6) (i1:=7) (i2:=8) (i3:=9) (R:=b.heap.size) (x:=g) (v0:=U J.w.length) (v1:=.string ⟨(a.s.x.text++[32]).toArray⟩) (v2:=.string ⟨([91]++j++[93]).toArray⟩) ?_ ?_ ?_ ?_ ?_ ?_ ?_ ?_
   .rfl
   .rfl
   .rfl
   .rfl
   .rfl
   .rfl
   .exact l.j.a5 (i:=1) rfl
   .rw[o.j];exact⟨rfl,l.j.fin.1,l.j.fin.2,by simp;omega,by simp;omega,r⟩
  |false=>
   have o:ac (ch t names all a=(⟨(bw t false h).2.w.length,a.s.x.text++[32],[60]++bO (bw t false h).1++[62],g⟩,cm (dY 7 (bw t false h).1) (bw t false h).2)):=by
    show _=_;unfold ch;rw[Y9 (by simp_all)];unfold gu;simp only[D.j,c1,b5,L];simp
   go_wp2_with fail;refine aM q (qA · false (by omega)) λc4 B=>?_;have b7:=qz (t:=t) false h;generalize b8:bw t false h=E at *
   obtain⟨n,J⟩:=E;simp only at *
   go_wp2_with fail;refine(kH n (by omega) (by omega) _).mono ?_;rintro p c5 ⟨rfl,m⟩;have C:=Z (B.j.F m);clear m;go_wp2_with fail;refine aM C (nt · (dY 7 n) rfl rfl (by omega)) λb6 k=>?_;obtain⟨a7,a8,a9,b0,b1,b2,b3,b4⟩:=k.j.al (i:=0) rfl;obtain⟨S,a0,a1,a2,a3,a4,a5,a6⟩:=k.j.al (i:=1) (R:=b.heap.size) (x:=cp) rfl;have F:=kP n (by omega) (by omega);unfold bO at F o;generalize Lib.itoa n=j at *
   have b9:=hS [60] j;have c0:=hS ([60]++j) [62];have c2:¬(9223372036854775807<1+j.length):=by omega
   have c3:¬(9223372036854775807<1+j.length+1):=by omega
   go_wp2;go_region;go_wp2;have l:=Z ((k.j.c4 (i:=1) (R:=b.heap.size) (y:=cp) rfl g).aq.a0 (N':=c+2) (by omega));refine oA (i0:=6) (i1:=7) (i2:=8) (i3:=9) (R:=b.heap.size) (x:=g) (v0:=U J.w.length) (v1:=.string ⟨(a.s.x.text++[32]).toArray⟩) (v2:=.string ⟨([60]++j++[62]).toArray⟩) ?_ ?_ ?_ ?_ ?_ ?_ ?_ ?_
   .rfl
   .rfl
   .rfl
   .rfl
   .rfl
   .rfl
   .exact l.j.a5 (i:=1) rfl
   .rw[o.j];exact⟨rfl,l.j.fin.1,l.j.fin.2,by simp;omega,by simp;omega,r⟩
 |false=>
  cases b5:aH a 2 [115,116,114,105,110,103]with
  |true=>
   go_wp2_with fail;refine aM N (gZ ·) λe1 u=>?_;clear d0 d1 d2;go_wp2_with fail;refine(sO u.j.ax (oy x.j.1 u.j.fr x.j.2) (λK O=>Y8 (x.j.2 K O)) c8 all (by omega)).mono ?_;rintro p d4 ⟨rfl,I,m,r⟩;have w:=Z (u.j.call ⟨I,m⟩);clear I m;generalize G:cd t names all (aW t a)=P at *
   obtain⟨g,h⟩:=P;have D:=Z G;simp only at w r;clear G;have A:=Z (w.j.B (oW g));go_wp2_with fail;refine(gs A.j.ax 4 [91]).mono ?_;rintro p e2 ⟨rfl,H⟩;have q:=A;rw[<-H]at q;clear H;cases L:aH h 4 [91]with
   |true=>
    have o:ac (ch t names all a=(⟨(bw t false h).2.w.length,a.s.x.text++[32],[60]++bO (bw t false h).1++[62],g⟩,cm (dY 8 (bw t false h).1) (bw t false h).2)):=by
     show _=_;unfold ch;rw[Y9 (by simp_all)];unfold gu;simp only[D.j,c1,b5,L];simp
    go_wp2_with fail;refine aM q (qA · false (by omega)) λc4 B=>?_;have b7:=qz (t:=t) false h;generalize b8:bw t false h=E at *
    obtain⟨n,J⟩:=E;simp only at *
    go_wp2_with fail;refine(kH n (by omega) (by omega) _).mono ?_;rintro p c5 ⟨rfl,m⟩;have C:=Z (B.j.F m);clear m;go_wp2_with fail;refine aM C (nt · (dY 8 n) rfl rfl (by omega)) λb6 k=>?_;obtain⟨a7,a8,a9,b0,b1,b2,b3,b4⟩:=k.j.al (i:=0) rfl;obtain⟨S,a0,a1,a2,a3,a4,a5,a6⟩:=k.j.al (i:=1) (R:=b.heap.size) (x:=cp) rfl;have F:=kP n (by omega) (by omega);unfold bO at F o;generalize Lib.itoa n=j at *
    have b9:=hS [60] j;have c0:=hS ([60]++j) [62];have c2:¬(9223372036854775807<1+j.length):=by omega
    have c3:¬(9223372036854775807<1+j.length+1):=by omega
    go_wp2;go_region;go_wp2;have l:=Z ((k.j.c4 (i:=1) (R:=b.heap.size) (y:=cp) rfl g).aq.a0 (N':=c+2) (by omega));refine oA (i0:=6) (i1:=7) (i2:=8) (i3:=9) (R:=b.heap.size) (x:=g) (v0:=U J.w.length) (v1:=.string ⟨(a.s.x.text++[32]).toArray⟩) (v2:=.string ⟨([60]++j++[62]).toArray⟩) ?_ ?_ ?_ ?_ ?_ ?_ ?_ ?_
    .rfl
    .rfl
    .rfl
    .rfl
    .rfl
    .rfl
    .exact l.j.a5 (i:=1) rfl
    .rw[o.j];exact⟨rfl,l.j.fin.1,l.j.fin.2,by simp;omega,by simp;omega,r⟩
   |false=>
    have o:ac (ch t names all a=(⟨(bw t false h).2.w.length,a.s.x.text++[32],[60]++bO (bw t false h).1++[62],g⟩,cm (dY 8 (bw t false h).1) (bw t false h).2)):=by
     show _=_;unfold ch;rw[Y9 (by simp_all)];unfold gu;simp only[D.j,c1,b5,L];simp
    go_wp2_with fail;refine aM q (qA · false (by omega)) λc4 B=>?_;have b7:=qz (t:=t) false h;generalize b8:bw t false h=E at *
    obtain⟨n,J⟩:=E;simp only at *
    go_wp2_with fail;refine(kH n (by omega) (by omega) _).mono ?_;rintro p c5 ⟨rfl,m⟩;have C:=Z (B.j.F m);clear m;go_wp2_with fail;refine aM C (nt · (dY 8 n) rfl rfl (by omega)) λb6 k=>?_;obtain⟨a7,a8,a9,b0,b1,b2,b3,b4⟩:=k.j.al (i:=0) rfl;obtain⟨S,a0,a1,a2,a3,a4,a5,a6⟩:=k.j.al (i:=1) (R:=b.heap.size) (x:=cp) rfl;have F:=kP n (by omega) (by omega);unfold bO at F o;generalize Lib.itoa n=j at *
    have b9:=hS [60] j;have c0:=hS ([60]++j) [62];have c2:¬(9223372036854775807<1+j.length):=by omega
    have c3:¬(9223372036854775807<1+j.length+1):=by omega
    go_wp2;go_region;go_wp2;have l:=Z ((k.j.c4 (i:=1) (R:=b.heap.size) (y:=cp) rfl g).aq.a0 (N':=c+2) (by omega));refine oA (i0:=6) (i1:=7) (i2:=8) (i3:=9) (R:=b.heap.size) (x:=g) (v0:=U J.w.length) (v1:=.string ⟨(a.s.x.text++[32]).toArray⟩) (v2:=.string ⟨([60]++j++[62]).toArray⟩) ?_ ?_ ?_ ?_ ?_ ?_ ?_ ?_
    .rfl
    .rfl
    .rfl
    .rfl
    .rfl
    .rfl
    .exact l.j.a5 (i:=1) rfl
    .rw[o.j];exact⟨rfl,l.j.fin.1,l.j.fin.2,by simp;omega,by simp;omega,r⟩
  |false=>
   clear d0 d1 d2 f8 g3;have c6:ac (ch t names all a=gr t names all a):=by show _=_;simp_all[ch]
   have g0:=Jq N.j.ax;go_wp2_with fail;refine aM N (AK · (by omega)) λe1 u=>?_;generalize d8:cq t a=g4 at *
   obtain⟨⟨M,z⟩,d5⟩:=g4;have c7:=Z d8;simp only at u g0;clear d8;go_wp2_with fail;refine(gs u.j.ax 4 [42]).mono ?_;rintro p e3 ⟨rfl,rfl⟩;cases c9:aH d5 4 [42]with
   |true=>
    go_wp2_with fail;refine aM u (gZ ·) λd4 w=>?_;go_wp2_with fail;refine(sO w.j.ax (oy x.j.1 w.j.fr x.j.2) (λK O=>Y8 (x.j.2 K O)) c8 all (by omega)).mono ?_;rintro p g8 ⟨rfl,I,m,r⟩;have A:=Z (w.j.call ⟨I,m⟩);clear I m;generalize G:cd t names all (aW t d5)=P at *
    obtain⟨g,h⟩:=P;have D:=Z G;simp only at A r;clear G;have q:=Z (A.j.B (oW g));go_wp2_with fail;refine aM q (nt · (dz 11 0 M) rfl rfl (by omega)) λb6 k=>?_;obtain⟨a7,a8,a9,b0,b1,b2,b3,b4⟩:=k.j.al (i:=0) rfl;obtain⟨S,a0,a1,a2,a3,a4,a5,a6⟩:=k.j.al (i:=1) (R:=b.heap.size) (x:=cp) rfl;have b9:=hS z [32,42];have c2:¬(9223372036854775807<z.length+2):=by omega
    have o:ac (ch t names all a=(⟨h.w.length,z++[32,42],[],g⟩,cm (dz 11 0 M) h)):=by
     show _=_;rw[c6.j];unfold gr;simp only[c7.j,D.j,c9];simp
    go_wp2;go_region;go_wp2;have l:=Z ((k.j.c4 (i:=1) (R:=b.heap.size) (y:=cp) rfl g).aq.a0 (N':=c+2) (by omega));refine oA (i0:=6) (i1:=7) (i2:=8) (i3:=9) (R:=b.heap.size) (x:=g) (v0:=U h.w.length) (v1:=.string ⟨(z++[32,42]).toArray⟩) (v2:=.string ⟨([]:Zb).toArray⟩) ?_ ?_ ?_ ?_ ?_ ?_ ?_ ?_
    .rfl
    .rfl
    .rfl
    .rfl
    .rfl
    .rfl
    .exact l.j.a5 (i:=1) rfl
    .rw[o.j];exact⟨rfl,l.j.fin.1,l.j.fin.2,by simp_all,by simp;try omega,r⟩
   |false=>
    go_wp2_with fail;refine(sO u.j.ax (oy x.j.1 u.j.fr x.j.2) (λK O=>Y8 (x.j.2 K O)) c8 all (by omega)).mono ?_;rintro p d4 ⟨rfl,I,m,r⟩;have w:=Z (u.j.call ⟨I,m⟩);clear I m;generalize G:cd t names all (d5)=P at *
    obtain⟨g,h⟩:=P;have D:=Z G;simp only at w r;clear G;have A:=Z (w.j.B (oW g));go_wp2_with fail;refine(gs A.j.ax 4 [91]).mono ?_;rintro p e2 ⟨rfl,H⟩;have q:=A;rw[<-H]at q;clear H;go_wp2_with fail;refine(gs q.j.ax 4 [60]).mono ?_;rintro p e3 ⟨rfl,rfl⟩;have b9:=hS z [32];have c2:¬(9223372036854775807<z.length+1):=by omega
    cases L:aH h 4 [91]with
    |true=>
     have o:ac (ch t names all a=(⟨(bw t true h).2.w.length,z++[32],[91]++bO (bw t true h).1++[93],g⟩,cm (dz 9 (bw t true h).1 M) (bw t true h).2)):=by
      show _=_;rw[c6.j];unfold gr;simp only[c7.j,D.j,c9,L];rfl
     go_wp2_with fail;refine aM q (qA · true (by omega)) λc4 B=>?_;have b7:=qz (t:=t) true h;generalize b8:bw t true h=E at *
     obtain⟨n,J⟩:=E;simp only at *
     go_wp2_with fail;refine(kH n (by omega) (by omega) _).mono ?_;rintro p c5 ⟨rfl,m⟩;have C:=Z (B.j.F m);clear m;go_wp2_with fail;refine aM C (nt · (dz 9 n M) rfl rfl (by omega)) λb6 k=>?_;obtain⟨a7,a8,a9,b0,b1,b2,b3,b4⟩:=k.j.al (i:=0) rfl;obtain⟨S,a0,a1,a2,a3,a4,a5,a6⟩:=k.j.al (i:=1) (R:=b.heap.size) (x:=cp) rfl;have F:=kP n (by omega) (by omega);unfold bO at F o;generalize Lib.itoa n=j at *
     have c0:=hS [91] j;have f9:=hS ([91]++j) [93];have c3:¬(9223372036854775807<1+j.length):=by omega
     have g2:¬(9223372036854775807<1+j.length+1):=by omega
     go_wp2;go_region;go_wp2;have l:=Z ((k.j.c4 (i:=1) (R:=b.heap.size) (y:=cp) rfl g).aq.a0 (N':=c+2) (by omega));refine oA (i0:=6) (i1:=7) (i2:=8) (i3:=9) (R:=b.heap.size) (x:=g) (v0:=U J.w.length) (v1:=.string ⟨(z++[32]).toArray⟩) (v2:=.string ⟨([91]++j++[93]:Zb).toArray⟩) ?_ ?_ ?_ ?_ ?_ ?_ ?_ ?_
     .rfl
     .rfl
     .rfl
     .rfl
     .rfl
     .rfl
     .exact l.j.a5 (i:=1) rfl
     .rw[o.j];exact⟨rfl,l.j.fin.1,l.j.fin.2,by simp;omega,by simp;omega,r⟩
    |false=>
     cases g1:aH h 4 [60]with
     |true=>
      have o:ac (ch t names all a=(⟨(bw t false h).2.w.length,z++[32],[60]++bO (bw t false h).1++[62],g⟩,cm (dz 10 (bw t false h).1 M) (bw t false h).2)):=by
       show _=_;rw[c6.j];unfold gr;simp only[c7.j,D.j,c9,L];simp_all
      go_wp2_with fail;refine aM q (qA · false (by omega)) λc4 B=>?_;have b7:=qz (t:=t) false h;generalize b8:bw t false h=E at *
      obtain⟨n,J⟩:=E;simp only at *
      go_wp2_with fail;refine(kH n (by omega) (by omega) _).mono ?_;rintro p c5 ⟨rfl,m⟩;have C:=Z (B.j.F m);clear m;go_wp2_with fail;refine aM C (nt · (dz 10 n M) rfl rfl (by omega)) λb6 k=>?_;obtain⟨a7,a8,a9,b0,b1,b2,b3,b4⟩:=k.j.al (i:=0) rfl;obtain⟨S,a0,a1,a2,a3,a4,a5,a6⟩:=k.j.al (i:=1) (R:=b.heap.size) (x:=cp) rfl;have F:=kP n (by omega) (by omega);unfold bO at F o;generalize Lib.itoa n=j at *
      have c0:=hS [60] j;have f9:=hS ([60]++j) [62];have c3:¬(9223372036854775807<1+j.length):=by omega
      have g2:¬(9223372036854775807<1+j.length+1):=by omega
      go_wp2;go_region;go_wp2;have l:=Z ((k.j.c4 (i:=1) (R:=b.heap.size) (y:=cp) rfl g).aq.a0 (N':=c+2) (by omega));refine oA (i0:=6) (i1:=7) (i2:=8) (i3:=9) (R:=b.heap.size) (x:=g) (v0:=U J.w.length) (v1:=.string ⟨(z++[32]).toArray⟩) (v2:=.string ⟨([60]++j++[62]:Zb).toArray⟩) ?_ ?_ ?_ ?_ ?_ ?_ ?_ ?_
      .rfl
      .rfl
      .rfl
      .rfl
      .rfl
      .rfl
      .exact l.j.a5 (i:=1) rfl
      .rw[o.j];exact⟨rfl,l.j.fin.1,l.j.fin.2,by grind,by grind,r⟩
     |false=>
      have k:=q;obtain⟨a7,a8,a9,b0,b1,b2,b3,b4⟩:=k.j.al (i:=0) rfl;obtain⟨S,a0,a1,a2,a3,a4,a5,a6⟩:=k.j.al (i:=1) (R:=b.heap.size) (x:=cp) rfl;have o:ac (ch t names all a=(⟨M,z++[32],[],g⟩,h)):=by
       show _=_;rw[c6.j];unfold gr;simp only[c7.j,D.j,c9,L,g1];simp
      go_wp2;go_region;go_wp2;have l:=Z ((k.j.c4 (i:=1) (R:=b.heap.size) (y:=cp) rfl g).aq.a0 (N':=c+2) (by omega));refine oA (i0:=6) (i1:=7) (i2:=8) (i3:=9) (R:=b.heap.size) (x:=g) (v0:=U M) (v1:=.string ⟨(z++[32]).toArray⟩) (v2:=.string ⟨([]:Zb).toArray⟩) ?_ ?_ ?_ ?_ ?_ ?_ ?_ ?_
      .rfl
      .rfl
      .rfl
      .rfl
      .rfl
      .rfl
      .exact l.j.a5 (i:=1) rfl
      .rw[o.j];exact⟨rfl,l.j.fin.1,l.j.fin.2,by grind,by simp;try omega,r⟩
end
section
variable {g j : Nat -> Prop} {a f : Nat} {t : Zb} {b : ae} {d h : Zw} {c : PV}
def bk.a6{u:Nat}{σ':ae}{r:Zw}(e:bk g a t f b c d)(o:r.heap[a]? = some (lC t σ'.s (pf c σ')))(i:am [a] d r)(m:σ'.w=b.w)(A:σ'.A=b.A)(B:σ'.ag=b.ag)(C:σ'.O=b.O)(E:σ'.s.x.fin<=t.length)(H:σ'.s.x.text.length<=2000)(G:σ'.sz<=u)(D:0<=σ'.av/\0<=σ'.L):bk g a t u σ' c r:=by
 have l:∀{v:Zv},v.ownBlock≠some a->∀h,v.ownBlock=some h->h ∉ [a]:=λM h k p=>by
  simp_all
 have w:∀j,j∈c.a8->j ∉ [a]:=λj o p=>by
  simp only[Yc]at p;exact e.b7 j o (by rw[p];simp[PV.b1])
 refine⟨o,m▸bi e.w i (l e.nd.r),A▸bi e.A i (l e.nd.n),B▸bi e.ag i (l e.nd.p),C▸e.O.a8 i (l e.nd.g),m▸e.a2,?_,e.nd,e.b7,e.bB,λj I=>Yr (e.aY j I) i.ar,E,H,e.ck,G,D⟩;intro J L K F q;obtain⟨y,z⟩:=e.e8 J L K (m▸F) q;exact⟨y.a8 i λh k=>w h (hu q (Y8 k)),z.a8 i λh k=>w h (hu q (Ya k))⟩
def bk.f9{h:Za}{s:Zb}{K:Nat}(e:bk g a t f b c d)(j:h=⟨(b.j++s).toArray⟩)(k:s.length<=K):bk g a t (f+K) (er s b) c (d.setCell ⟨a,10,none⟩ (.string h)):=by
 subst j;refine e.a6 (σ':=er s b) (bu (i:=10) e.ai _) ((ak [a] d).ay (p:=⟨a,10,none⟩) (by simp) _) rfl rfl rfl rfl e.fin e.c3 ?_ e.cn;have:=e.bp;grind [ae.sz,er]
def aN.f9{i:List Th}{e:Za}{s:Zb}{K:Nat}(k:aN g a t f b i h d)(l:e=⟨(b.j++s).toArray⟩)(m:s.length<=K):aN g a t (f+K) (er s b) i h (d.setCell ⟨a,10,none⟩ (.string e)):=by
 obtain⟨c,j⟩:=k.ax;exact k.call ⟨⟨c,j.f9 l m⟩,uh j _⟩
def gH{a b:Za}(c:a.data.toList=b.data.toList):a=b:=by
 cases a<;>simp_all
def Gy(a0:bC g a t f b d)(d6:f+10000<=1000000000):Calls prog 82 #[Zp a] d (GP g a t (f+10000) (fT t b) (.tuple #[]) d):=by
 have a3:=Z (iE a0);obtain⟨c,k⟩:=a0;obtain⟨A,H,I,J,K,M,N,O,P,B,C,D,E,F,G,R,S⟩:=k.al;go_in;go_wp2_with fail;refine aM a3 (kM · b.av 40) λe3 a4=>?_;go_wp2_with fail;refine aM a4 (cY · 2 [99,111,110,115,116]) λe4 w=>?_;go_wp2_with fail;refine(qF w.j.ax 2 (by omega)).mono ?_;rintro b1 c4 ⟨rfl,c3,r,c2⟩;have x:=Z (w.j.call ⟨c3,r⟩);generalize b9:aR t 2 _=u at *
 obtain⟨h,a2⟩:=u;have a9:=Z b9;simp only at x c2;have a5:=Z (x.j.B (oW h));go_wp2_with fail;refine aM a5 (cY · 4 [61]) λe5 a6=>?_;go_wp2_with fail;refine aM a6 (tm · (-2147483648) 4294967295 (by omega)) λe6 y=>?_;have c1:=tl (t:=t) (-2147483648) 4294967295 (af t 4 [61] a2);generalize c0:bn t (-2147483648) 4294967295 (af t 4 [61] a2)=u at *
 obtain⟨⟨j,d4⟩,d3⟩:=u;have a8:=Z c0;simp only at y c1;go_wp2_with fail;refine aM y (cY · 4 [59]) λe7 o=>?_;generalize b4:af t 4 [59] d3=l at *
 have a7:=Z b4;obtain⟨c,k⟩:=o.j.ax;obtain⟨A,H,I,J,K,M,N,O,P,B,C,D,E,F,G,R,S⟩:=k.al;by_cases d7:l.s.e=0
 .have b7:(l.s.e != 0)=false:=by simp_all
  have n:ac (fT t b=er ([99,111,110,115,116,32]++h.text++[32,61,32]++bO j++[59,10]) (du h.text j l)):=by
   grind [fT,ac.j]
  go_wp2_with fail;refine(kH j (by omega) (by omega) _).mono ?_;rintro b1 e8 ⟨rfl,r⟩;have z:=Z (o.j.F r);obtain⟨c5,c6,c7,c8,c9,d0,d1,d2⟩:=z.j.al (i:=0) rfl;go_wp2_with fail;refine aM z (AM · h.text j (by omega)) λe9 p=>?_;obtain⟨c5,c6,c7,c8,c9,d0,d1,d2⟩:=p.j.al (i:=0) rfl;obtain⟨c,k⟩:=p.j.ax;obtain⟨A,H,I,J,K,M,N,O,P,B,C,D,E,F,G,R,S⟩:=k.al;have b2:=k.bp;unfold ae.sz at b2;have b8:=kP j (by omega) (by omega);unfold bO at b8 n;generalize Lib.itoa j=q at *
  generalize du h.text j l=m at *
  have d8:¬(9223372036854775807<m.j.length+6):=by omega
  have d9:¬(9223372036854775807<m.j.length+6+h.text.length):=by omega
  have e0:¬(9223372036854775807<m.j.length+6+h.text.length+3):=by omega
  have e1:¬(9223372036854775807<m.j.length+6+h.text.length+3+q.length):=by omega
  have e2:¬(9223372036854775807<m.j.length+6+h.text.length+3+q.length+2):=by omega
  go_wp2;refine cx (λa1=>a1.cell? (Zd a 10)=some (Zs m.j)/\a1.cell? (Zd c4.heap.size 1)=some (Zs h.text)) (L:=17) (by kernel_rfl) rfl (by kernel_rfl) (by kernel_rfl) ?_ (λd5=>?_)
  .go_keep
  refine bH [0,1,2,3,4,5,6,7,8,9,10,11,12,13,14,15,16] ?_;iterate 17 (refine bK (v:=?_) rfl (by kernel_rfl) (λ_ _ _ b3=>b3) (by kernel_rfl) (by assumption) ?_ ?_;rotate_left;focus (intro d b6;(try dsimp only at b6);go_simp;(try with_reducible rfl));(try simp only[aJ,aK,List.set]))
  refine bI ?_;refine cR (by kernel_rfl) rfl λb0 b5=>?_;go_simp;refine b5.out _ _ ?_;(try simp only[aJ,aK,List.set]);go_end0;rw[n.j];exact⟨rfl,((p.j.f9 (K:=5000) (s:=[99,111,110,115,116,32]++h.text++[32,61,32]++q++[59,10]) (gH (by simp)) (by simp;omega)).aq.a0 (by omega)).fin⟩
 .have b7:(l.s.e != 0)=true:=by simp_all
  have n:ac (fT t b=l):=by
   show _=_;unfold fT;simp only[a9.j,a8.j,a7.j];simp_all
  go_wp2;go_end0;rw[n.j];exact⟨rfl,(o.j.a0 (by omega)).fin⟩
end
section
variable {c f : Nat -> Prop} {a d : Nat} {t : Zb} {b : ae} {w g : Zw} {e : PV}
def RJ(p:bC c a t d b w)(g8:d+10000<=1000000000):Calls prog 86 #[Zp a] w (GP c a t (d+10000) (gj t b) (.tuple #[]) w):=by
 have d3:=Z (iE p);go_in;go_wp2_with fail;refine aM d3 (cY · 2 [116,121,112,101,100,101,102]) λh5 a5=>?_;go_wp2_with fail;refine(wM a5.j.ax (names:=[]) (De _) (by simp_all[Value.ownBlock]) (by simp) true (by omega)).mono ?_;rintro g7 j ⟨rfl,f8,f3,f4,f5,f6⟩;have N:=Z (a5.j.call ⟨f8,f3⟩);generalize e6:ch t [] true (af t 2 [116,121,112,101,100,101,102] b)=f9 at *
 obtain⟨⟨q,o,H,f⟩,g⟩:=f9;have a7:=Z e6;simp only at N f4 f5 f6;have y:=Z (N.j.B (oW f));obtain⟨e,h⟩:=N.j.ax;obtain⟨a8,b5,b6,b7,b8,b9,c0,R,c1,a9,b0,b1,b2,b3,b4,c7,e1⟩:=h.al;by_cases a1:g.s.e=0
 .have c6:(g.s.e != 0)=false:=by simp_all
  have P:ac (gj t b=er ([116,121,112,101,100,101,102,32]++o++f.text++H++[59,10]) (af t 4 [59] { g with A:=g.A++[⟨f.text,1,q,f.m⟩] })):=by
   show _=_;unfold gj;simp only[a7.j,a1];simp
  go_wp2;generalize d7:j.alloc (oW f)=k at *
  obtain⟨e,gV,B,h,J⟩:=y.j.ax.sp;obtain⟨a8,b5,b6,b7,b8,b9,c0,R,c1,a9,b0,b1,b2,b3,b4,c7,g9⟩:=h.al;rw[J]at R;obtain⟨g0,g1,g2,g3,g4,g5,g6,d2⟩:=y.j.al (i:=0) rfl;obtain⟨f2,d8,e8,e9,f0⟩:=info_parts AB;have S:=h.bp;unfold ae.sz at S;have d9:g.A.length+1<=maxLen:=by unfold maxLen;omega
  have e0:(g.A.length+1)*40<=140737488355328:=by omega
  have f1:(Value.agg #[.string ⟨#[]⟩,U 0,U 0,U 0]).cells.size=4:=by rfl
  have e5:∀d1∈hH ⟨f.text,1,q,f.m⟩,d1.oneCell'=true:=by
   intro d1 d0;simp[hH]at d0;rcases d0 with rfl|rfl|rfl|rfl<;>rfl
  have e3:(Value.slice gV g.A.length B).ownBlock≠some a:=by rw[<-J];exact h.nd.n
  have e4:∀A,(Value.slice gV g.A.length B).ownBlock=some A->A<k.heap.size/\A≠j.heap.size:=λA c6=>⟨(hn h.A (by simp_all)).2,λa1=>h.bB A (Y8 (hg (by simp_all))) (by rw[a1];exact Ya ⟨_,Yb,rfl⟩)⟩;have e7:=Z (J▸h.A);have m:=Z (Yp J (Yp e3 e4));have z:=Z (λf7=>(((ak [] k).B f7).aq));have F:=Z h;refine cx (λr=>r.cell? (Zd a 8)=some (.slice gV g.A.length B)/\r.cell? (Zd j.heap.size 1)=some (Zs f.text)/\r.cell? (Zd j.heap.size 2)=some (U f.m)) (L:=17) (by kernel_rfl) rfl (by kernel_rfl) (by kernel_rfl) ?_ (λa0=>?_)
  .go_keep
  refine bH [0,1,2,3,4,5,6,7,8,9,10,11] ?_;iterate 12 (refine bK (v:=?_) rfl (by kernel_rfl) (λ_ _ _ C=>C) (by kernel_rfl) (by assumption) ?_ ?_;rotate_left;focus (intro w D;(try dsimp only at D);go_simp;(try with_reducible rfl));(try simp only[aJ,aK,List.set]))
  refine bI ?_;refine bF 12 (by kernel_rfl) rfl λG l=>?_;go_simp;refine l.out _ _ ?_ (λa0=>?_)
  .go_keep
  (try simp only[aJ,aK,List.set]);refine bF 13 (by kernel_rfl) rfl λG l=>?_;(refine step_append_lies _ (by rfl) _ _ _ (by rfl) 0 119 f2 _ 4 40 underlying59 d8 e8 e9 f0 f1 (by omega) (.slice gV g.A.length B) g.A.length (g.A.flatMap hH) (by rfl) (bi e7.j (z.j _) (by simp)) ⟨k.heap.size,0,none⟩ 1 1 (hH ⟨f.text,1,q,f.m⟩) (by rfl) (by rfl) (World.news_of_block (cs:=(hH ⟨f.text,1,q,f.m⟩).toArray) (t:=119) (fr:=(0,0)) (aS (w:=k) (by simp))) e5 (by omega) d9 e0 (by omega) (k.heap.size+1) (by simp) ?_;intro c4 c2 u c9 I c5 e2;have K:=(F.j.au (z.j _)).ip I m.j.2.1;have i6:u.cell? (Zd a 8)=some (.slice gV g.A.length B):=(by rw[<-m.j.1];exact aU K rfl);have i7:=cK K;have i8:=ap K;have a4:u.heap[j.heap.size]? = some (oW f):=((I.block _ (by simp;omega) (λc3=>(m.j.2.2 _ c3.symm).2 rfl)).trans (((z.j _).G _ d2 (by simp)).trans (y.j.a5 (i:=0) rfl)));obtain⟨h8,h9,i0,i1,i2,i3,i4,i5⟩:=dP a4;have E:=Z (Yp I (Yp c5 (Yp c9 a4)));clear I c5 c9 K a4);refine l.out _ _ ?_ (λa0=>?_)
  .go_keep
  (try simp only[aJ,aK,List.set]);refine bH [14,15,16] ?_;iterate 3 (refine bK (v:=?_) rfl (by kernel_rfl) (λ_ _ _ C=>C) (by kernel_rfl) (by assumption) ?_ ?_;rotate_left;focus (intro w D;(try dsimp only at D);go_simp;(try with_reducible rfl));(try simp only[aJ,aK,List.set]))
  refine bI ?_;refine cR (by kernel_rfl) rfl λG l=>?_;go_simp;refine l.out _ _ ?_;(try simp only[aJ,aK,List.set]);have c8:=E.j.1;rw[<-m.j.1]at c8;have d5:=Z ((F.j.au (z.j _)).j3 (m:=⟨f.text,1,q,f.m⟩) c8 E.j.2.2.1 (by rw[m.j.1];exact E.j.2.1.imp id (λc3=>by simp_all)) e2);have d4:ac (Fr (hj c [.obj j.heap.size (oW f)]) k (u.setCell ⟨a,8,none⟩ (.slice (some ⟨c4,0,none⟩) (g.A.length+1) c2))):=by
   have d6:Fr (hj c [.obj j.heap.size (oW f)]) k u:=((jD _ k).c7 (z.j _) (by simp)).c7 (fs E.j.1) (λM a2 a3=>absurd a3 (F.j.bB M (Y8 (hg (by rw[m.j.1];simp_all)))));exact d6.c7 ((ak [a] u).ay (p:=⟨a,8,none⟩) (by simp) _) (λM a2 a3=>absurd a3 (F.j.bB M (Y8 (by simp only[Yc]at a2;rw[a2];simp[PV.b1]))))
  have a6:=Z (y.j.call ⟨⟨_,d5.j⟩,d4.j⟩);generalize d7:u.setCell ⟨a,8,none⟩ (.slice (some ⟨c4,0,none⟩) (g.A.length+1) c2)=h6 at a6 ⊢;go_wp2_with fail;refine aM a6 (cY · 4 [59]) λh7 O=>?_;generalize af t 4 [59] { g with A:=g.A++[⟨f.text,1,q,f.m⟩] } = x at *
  obtain⟨g0,g1,g2,g3,g4,g5,g6,d2⟩:=O.j.al (i:=0) rfl;obtain⟨e,h⟩:=O.j.ax;obtain⟨a8,b5,b6,b7,b8,b9,c0,R,c1,a9,b0,b1,b2,b3,b4,c7,e1⟩:=h.al;have S:=h.bp;unfold ae.sz at S;have h0:¬(9223372036854775807<x.j.length+8):=by omega
  have h1:¬(9223372036854775807<x.j.length+8+o.length):=by omega
  have h2:¬(9223372036854775807<x.j.length+8+o.length+f.text.length):=by omega
  have h3:¬(9223372036854775807<x.j.length+8+o.length+f.text.length+H.length):=by omega
  have h4:¬(9223372036854775807<x.j.length+8+o.length+f.text.length+H.length+2):=by omega
  go_wp2;refine cx (λr=>r.cell? (Zd a 10)=some (Zs x.j)/\r.cell? (Zd j.heap.size 1)=some (Zs f.text)) (L:=18) (by kernel_rfl) rfl (by kernel_rfl) (by kernel_rfl) ?_ (λa0=>?_)
  .go_keep
  refine bH [0,1,2,3,4,5,6,7,8,9,10,11,12,13,14,15,16,17] ?_;iterate 18 (refine bK (v:=?_) rfl (by kernel_rfl) (λ_ _ _ C=>C) (by kernel_rfl) (by assumption) ?_ ?_;rotate_left;focus (intro w D;(try dsimp only at D);go_simp;(try with_reducible rfl));(try simp only[aJ,aK,List.set]))
  refine bI ?_;refine cR (by kernel_rfl) rfl λG l=>?_;go_simp;refine l.out _ _ ?_;(try simp only[aJ,aK,List.set]);go_end0;rw[P.j];exact⟨rfl,((O.j.f9 (K:=5000) (s:=[116,121,112,101,100,101,102,32]++o++f.text++H++[59,10]) (gH (by simp)) (by simp;omega)).aq.a0 (by omega)).fin⟩
 .have c6:(g.s.e != 0)=true:=by simp_all
  have P:ac (gj t b=g):=by
   show _=_;unfold gj;simp only[a7.j];simp_all
  go_wp2;go_end0;rw[P.j];exact⟨rfl,(y.j.a0 (by omega)).fin⟩
end
section
variable {g r : Nat -> Prop} {e h n : Nat} {c : Zb} {d p : ae} {f k o j l : Zw} {q : PV} {b : List Th} {i : Nat} {a m : Th}
def uw{b:List Th}{i a:Nat}{c:Th}(e:a≠i)(d:b[a]? = some c):c∈b.eraseIdx i:=List.mem_eraseIdx_iff_getElem?.2 ⟨a,e,d⟩
def aN.hO(p:aN g e c h d b k f)(o:b[i]? = some a):aN (hj g (b.eraseIdx i)) e c h d [a] f f:=by
 refine⟨p.ax.b9 ?_,jD _ _,?_,?_,?_⟩
 .rintro q (j|⟨m,l,j⟩)
  .rcases j with j|⟨m,l,j⟩
   .exact Y8 j
   .exact Ya ⟨m,List.mem_of_mem_eraseIdx l,j⟩
  .simp at l;subst l;exact Ya ⟨m,Yh o,j⟩
 .intro m l;simp at l;subst l;exact p.m m (Yh o)
 .intro m l q j n;simp at l;subst l;rcases n with n|⟨s,r,n⟩
  .exact p.ao m (Yh o) q j n
  .obtain⟨v,u,r⟩:=List.mem_eraseIdx_iff_getElem?.1 r;exact p.cv i v m s (λt=>u t.symm) o r q j n
 grind
def aN.c7(A:aN g e c h d b k f)(K:b[i]? = some a)(r:aN (hj g (b.eraseIdx i)) e c n p [m] f o):aN g e c n p (b.set i m) k o:=by
 have M:=(YB.1 K).1;have u:m∈[m]:=by simp
 have F:∀(q:Nat) (j:Th),(b.set i m)[q]? = some j->(q=i/\j=m)\/(q≠i/\b[q]? = some j):=by
  grind
 have E:∀j∈b.set i m,j=m\/∃q,q≠i/\b[q]? = some j:=by
  grind [List.getElem?_of_mem]
 refine⟨r.ax.b9 ?_,A.fr.u (r.fr.b9 λ_ _ z=>Y8 z),?_,?_,?_⟩
 .rintro B (s|⟨j,l,s⟩)
  .exact Y8 (Y8 s)
  .rcases E j l with rfl|⟨q,y,l⟩
   .exact Ya ⟨j,u,s⟩
   .exact Y8 (Ya ⟨j,uw y l,s⟩)
 .intro j l;rcases E j l with rfl|⟨q,y,l⟩
  .exact r.m j u
  .exact(A.m j (Yh l)).fr r.fr λw v=>Ya ⟨j,uw y l,v⟩
 .intro j l B s z;rcases E j l with rfl|⟨q,y,l⟩
  .exact r.ao j u B s (Y8 z)
  .exact A.ao j (Yh l) B s z
 .intro q G j t L l I w v D;rcases F q j l with⟨rfl,rfl⟩|⟨J,H⟩
  .rcases F G t I with⟨x,_⟩|⟨x,C⟩
   .omega
   .exact r.ao j u w v (Ya ⟨t,uw x C,D⟩)
  .rcases F G t I with⟨x,rfl⟩|⟨x,C⟩
   .exact r.ao t u w D (Ya ⟨j,uw J H,v⟩)
   .exact A.cv q G j t L H C w v D
def aN.bo{m:TypeId}{p C n a r q:Nat}{v:Zv}{D u:Zl}(B:aN g e c h d b k f)(z:b[i]? = some (.row m p v C D))(t:am [] f j)(A:l.ownsRow 0 m p (.slice (some ⟨a,0,none⟩) n r) n u)(o:j.grownBy l v.ownBlock)(x:v.ownBlock=some a\/a=q)(E:j.heap.size=q):aN g e c h d (b.set i (.row m p (.slice (some ⟨a,0,none⟩) n r) n u)) k l:=by
 have F:=t.ar;refine(B.F t).bR z (fs o) (λa o=>by simpa[Th.ba]using o) A ?_;intro w y;have m:w=a:=by simpa[Th.ba,ep]using y.symm
 subst m;rcases x with s|s
 .exact Y8 s
 omega
def aN.io{m o n:Nat}{v:Zv}{a:List Int}{p:Int}(x:aN g e c h d b k f)(t:b[i]? = some (dw v a))(u:am [] f j)(w:l.ownsRow 0 3 1 (.slice (some ⟨m,0,none⟩) (a.length+1) o) (a.length+1) (a.map (U)++[U p]))(s:j.grownBy l v.ownBlock)(r:v.ownBlock=some m\/m=n)(q:j.heap.size=n):aN g e c h d (b.set i (dw (.slice (some ⟨m,0,none⟩) (a.length+1) o) (a++[p]))) k l:=by
 have:=x.bo t u w s r q;grind
def aN.g5{m o n:Nat}{v:Zv}{a:Zc}{p:Zb}(x:aN g e c h d b k f)(t:b[i]? = some (ci v a))(u:am [] f j)(w:l.ownsRow 0 9 1 (.slice (some ⟨m,0,none⟩) (a.length+1) o) (a.length+1) ((a.map λy=>Zs y)++[Zs p]))(s:j.grownBy l v.ownBlock)(r:v.ownBlock=some m\/m=n)(q:j.heap.size=n):aN g e c h d (b.set i (ci (.slice (some ⟨m,0,none⟩) (a.length+1) o) (a++[p]))) k l:=by
 have:=x.bo t u w s r q;grind
def om:(prog.info? 3).map (λi=>(i.zero,i.size,i.bytes))=some (some (U 0),1,8):=by kernel_rfl
def oo:(prog.info? 9).map (λi=>(i.zero,i.size,i.bytes))=some (some (.string ⟨#[]⟩),1,16):=by kernel_rfl
def Cz(m:bC g e c h d f)(k:h<=1000000000):Calls prog 215 #[Zp e] f (GP g e c (h+1) (es c d).2 (.tuple #[U (es c d).1.1,.string ⟨(es c d).1.2.toArray⟩]) f):=by
 have a:=Z (iE m);go_in;go_wp2_with fail;refine(gs a.j.ax 2 [118,111,105,100]).mono ?_;rintro n r ⟨rfl,rfl⟩;cases p:aH d 2 [118,111,105,100]with
 |true=>
  have i:ac (es c d=((-1,[118,111,105,100]),aW c d)):=by show _=_;unfold es;simp_all
  go_wp2_with fail;refine aM a (gZ ·) λj b=>?_;go_wp2;go_ret2;rw[i.j];exact⟨rfl,(b.j.a0 (by omega)).fin⟩
 |false=>
  have i:ac (es c d=cq c d):=by show _=_;simp_all[es]
  go_wp2_with fail;refine aM a (AK · k) λj b=>?_;generalize cq c d=l at *
  obtain⟨⟨q,o⟩,s⟩:=l;go_wp2;go_ret2;rw[i.j];exact⟨rfl,b.j.fin⟩
end
section
variable {g m : Nat -> Prop} {f d k : Nat} {t : Zb} {h q : ae} {w j b p c : Zw} {l : PV} {L : List Th} {i : Nat} {a o : Th}
def aN.bq(c:aN g f t d h L j w)(b:L[i]? = some a):a.At w:=c.m _ (Yh b)
def qv{b:Nat}(d:L[i]? = some a)(c:a.ba=some b):hj g L b:=Ya ⟨a,Yh d,c⟩
def NH{b:Func}{Q:Ending->Zw->Prop}{a:Act}{R i0 i1:Nat}{v0:Zv}{x:dO}(g:b.results=#[.tmp i0,.cell i1 112])(o:a.tmps.getD i0 undef=v0)(p:a.tmps.getD i1 undef=Zp R)(e:a.defers=[])(n:w.heap[R]? = some (oW x))(f:Q (.returned (.tuple #[v0,.agg (fx x)])) w):bodyPost prog b Q .ret a w:=by
 refine bodyPost_ret (v:=.tuple #[v0,.agg (fx x)]) ?_ e f;unfold results;rw[g];obtain⟨h,i,j,k,l,m,q,r⟩:=dP n;have c:a.tmps[i0]?.getD undef=v0:=by simp_all
 have d:a.tmps[i1]?.getD undef=Zp R:=by simp_all
 simp[c,d,go_sem,h,i,j,k,l,m]
def Eh(g:Nat->Prop)(f:Nat)(t:Zb)(d:Nat)(h:Zc)(a:dO×ae)(w:Zw)(e:Ending)(b:Zw):Prop:=∃c,e=.returned (.tuple #[c,.agg (fx a.1)])/\aN g f t d a.2 [ci c (h++[a.1.text])] w b/\a.1.text.length<=2000
def zs{v:Zv}{names:Zc}(H:aN g f t d h [ci v names] w w)(N:names.length<=1000000)(K:d<=1000000000):Calls prog 214 #[Zp f,v] w (Eh g f t d names (cd t names false h) w):=by
 obtain⟨gV,A,rfl⟩:=ce (H.m _ Yb);have o:=Z (H.B (oW cp));go_in;go_wp2_with fail;refine(sO o.j.ax (names:=names) (o.j.bq (i:=1) rfl) (λa9 j=>qv (i:=1) rfl j) N false K).mono ?_;rintro b0 c ⟨rfl,a7,a5,G⟩;have s:=Z (o.j.call ⟨a7,a5⟩);generalize b2:cd t names false h=a8 at *
 obtain⟨a,e6⟩:=a8;simp only at s G;have m:=Z (s.j.B (oW a));go_wp2;generalize b1:c.alloc (oW a)=l at *
 obtain⟨d8,d9,e0,e1,e2,e3,e4,e5⟩:=m.j.al (i:=0) rfl;obtain⟨b3,b4,b5,b6,b7,b8,b9,c0⟩:=m.j.al (i:=1) (R:=w.heap.size) (x:=cp) rfl;obtain⟨F,M,a1,a2,a3⟩:=info_parts oo;have a4:(Value.string ⟨#[]⟩).cells.size=1:=rfl;have a0:ac (l.ownsRow 0 9 1 (.slice gV names.length A) names.length (names.map λr=>Zs r)):=Z (m.j.bq (i:=2) rfl);have x:=Z (λa6=>(((ak [] l).B a6).aq));have O:names.length+1<=maxLen:=by unfold maxLen;omega
 have P:(names.length+1)*16<=140737488355328:=by omega
 refine cx (λb=>b.cell? (Zd c.heap.size 0)=some (U a.C)/\b.cell? (Zd c.heap.size 1)=some (Zs a.text)/\b.cell? (Zd c.heap.size 2)=some (U a.m)/\b.cell? (Zd c.heap.size 3)=some (U a.fin)/\b.cell? (Zd c.heap.size 4)=some (U a.n)/\b.cell? (Zd c.heap.size 5)=some (U a.e)) (L:=7) (by kernel_rfl) rfl (by kernel_rfl) (by kernel_rfl) ?_ (λB=>?_)
 .go_keep
 refine bH [0,1,2,5] ?_;iterate 4 (refine bK (v:=?_) rfl (by kernel_rfl) (λ_ _ _ j=>j) (by kernel_rfl) (by assumption) ?_ ?_;rotate_left;focus (intro w q;(try dsimp only at q);go_simp;(try with_reducible rfl));(try simp only[aJ,aK,List.set]))
 refine bI ?_;refine bF 3 (by kernel_rfl) rfl λz k=>?_;go_simp;refine k.out _ _ ?_ (λB=>?_)
 .go_keep
 (try simp only[aJ,aK,List.set]);refine bF 4 (by kernel_rfl) rfl λz k=>?_;(refine step_append_lies _ (by rfl) _ _ _ (by rfl) 0 9 F _ 1 16 underlying30 M a1 a2 a3 a4 (by omega) (.slice gV names.length A) names.length (names.map λr=>Zs r) (by rfl) (bi a0.j (x.j _) (by simp)) ⟨l.heap.size,0,none⟩ 1 1 [Zs a.text] (by rfl) (by rfl) (World.news_of_block (cs:=#[Zs a.text]) (t:=9) (fr:=(0,0)) (aS (w:=l) (by simp))) (by simp[Value.oneCell']) (by omega) O P (by omega) (l.heap.size+1) (by simp) ?_;intro J I c9 E D C S;have p:=Z (m.j.g5 (i:=2) rfl (x.j _) E D C (by simp));obtain⟨d0,d1,d2,d3,d4,d5,d6,d7⟩:=p.j.al (i:=0) rfl;obtain⟨c1,c2,c3,c4,c5,c6,c7,c8⟩:=p.j.al (i:=1) (R:=w.heap.size) (x:=cp) rfl;clear E D C S);refine k.out _ _ ?_ (λB=>?_)
 .go_keep
 (try simp only[aJ,aK,List.set]);refine tk (i:=6) (v:=?_) rfl (by kernel_rfl) (λ_ _ _ j=>j) (by kernel_rfl) (by assumption) ?_ ?_;rotate_left
 .intro w q;(try dsimp only at q);go_simp;(try with_reducible rfl)
 (try simp only[aJ,aK,List.set]);refine cR (by kernel_rfl) rfl λz k=>?_;go_simp;refine k.out _ _ ?_;(try simp only[aJ,aK,List.set]);go_wp2;have u:=Z (p.j.c4 (i:=1) (R:=w.heap.size) (y:=cp) rfl a);refine NH (i0:=4) (i1:=5) (R:=w.heap.size) (x:=a) (v0:=.slice (some ⟨J,0,none⟩) (names.length+1) I) ?_ ?_ ?_ ?_ ?_ ?_
 .rfl
 .rfl
 .rfl
 .rfl
 .exact u.j.a5 (i:=1) rfl
 .exact⟨_,rfl,u.j.b3.b3,G⟩
end
section
variable {c r : Nat -> Prop} {h f q : Nat} {t : Zb} {a k : ae} {b x d m o : Zw} {j : PV} {p : List Th} {i : Nat} {u w : Th}
def Nu(c b d:Int)(a:ae):(fF t c b d a).2.O=a.O:=by
 unfold fF;split<;>rfl
def DA(c b:Int)(a:ae):(bn t c b a).2.O=a.O:=by
 unfold bn;repeat' split
 all_goals first|rfl|exact Nu _ _ _ _
structure nI(v:Zv)(l:List Int)(n:Int)(g cap:Nat)(w5 d:Zw):Prop where
 n2:∃w6,am [] w5 w6/\w6.grownBy d v.ownBlock/\(v.ownBlock=some g\/g=w6.heap.size)
 a6:d.ownsRow 0 3 1 (.slice (some ⟨g,0,none⟩) (l.length+1) cap) (l.length+1) (l.map (U)++[U n])
 lt:g<d.heap.size
def yX(c:Nat->Prop)(h:Nat)(t:Zb)(f:Nat)(j:PV)(v:Zv)(k:List Int)(a:Int×ae)(b:Zw)(l:Ending)(d:Zw):Prop:=∃e i g,l=.returned (.tuple #[.slice (some ⟨i,0,none⟩) (k.length+1) g,U a.1])/\bk c h t f a.2 j e/\Fr c b e/\nI v k a.1 i g e d
def Mc(b2:bk c h t f a j b){v:Zv}{l:List Int}(a5:dI v l b)(N:(∀a4,v.ownBlock=some a4->c a4)\/(v=j.gv/\l=a.O))(d6:l.length<=1000000)(a9:f<=1000000000):Calls prog 147 #[Zp h,v] b (yX c h t f j v l (bS t l a) b):=by
 have L:ac (∀k d,bk c h t f k j d->k.O=a.O->Fr c b d->dI v l d):=Z (λk d d1 d2 a8=>by
  rcases N with N|⟨c9,d0⟩
  .exact oy a5 a8 N
  grind [bk.O])
 obtain⟨gV,u,rfl⟩:=ce a5;obtain⟨a0,M,O,P,R⟩:=info_parts om;have S:(U 0).cells.size=1:=rfl;have a1:=Z (Yp b2 (jD c b));go_in;go_wp2_with fail;refine(oJ a1.j.1 4 [61]).mono ?_;rintro E m ⟨rfl,r,p⟩;have a2:=Z (Yp r (a1.j.2.u p));go_wp2_with fail;refine(yF a2.j.1 0 4294967295 a9).mono ?_;rintro E o ⟨rfl,r,p⟩;have w:=Z (Yp r (a2.j.2.u p));have F:=DA (t:=t) 0 4294967295 (af t 4 [61] a);generalize b1:bn t 0 4294967295 (af t 4 [61] a)=b3 at *
 obtain⟨⟨n,a3⟩,D⟩:=b3;have a6:=Z b1;simp only at w F;change D.O=a.O at F;have a7:=Z (sr (L.j _ _ w.j.1 F w.j.2).b8 (by omega) n);go_wp2_with fail;refine a7.j.mono ?_;rintro E d9 ⟨rfl,rfl⟩;obtain⟨b4,c1,c2,c3,c4,c5,c6,c7,c8,b5,b6,b7,b8,b9,c0,d5,d7⟩:=w.j.1.al;by_cases d4:D.s.e=0
 .have b0:(D.s.e==0)=true:=by simp_all
  cases d3:l.contains n with
  |true=>
   have G:ac (bS t l a=(n,af t 4 [59] (bL 6 a3 D))):=by
    grind [bS,ac.j]
   go_wp2_with fail;refine(uf w.j.1 6 a3).mono ?_;rintro E d8 ⟨rfl,r,p⟩;have x:=Z (Yp r (w.j.2.u p));go_wp2_with fail;refine(oJ x.j.1 4 [59]).mono ?_;rintro E g ⟨rfl,r,p⟩;have i:=Z (Yp r (x.j.2.u p));have J:ac (∀q,(g.alloc q).ownsRow 0 3 1 (.slice gV l.length u) l.length (l.map (U))):=Z (λq=>bi (L.j _ _ i.j.1 F i.j.2) ((ak [] g).B q) (by simp));go_wp2_with (at_builtin;go_must (refine wpList_append_lies _ (by rfl) _ _ _ (by rfl) 0 3 a0 _ 1 8 underlying24 M O P R S (by omega) (.slice gV l.length u) l.length (l.map (U)) (by rfl) (J.j _) ⟨g.heap.size,0,none⟩ 1 1 [U n] (by rfl) (by rfl) (World.news_of_block (cs:=#[U n]) (t:=3) (fr:=(0,0)) (heap_alloc_new g _)) (by simp[Value.oneCell']) (by omega) (by unfold maxLen;omega) (by omega) (by simp) (g.heap.size+1) (by simp) ?_;intro z y K C A I B;have H:ac (nI (.slice gV l.length u) l n z y g K):=Z ⟨⟨_,(ak [] g).B _,A,by simp_all⟩,C,B⟩;clear C A I B));go_ret2;rw[G.j];exact⟨g,z,y,rfl,i.j.1,i.j.2,H.j⟩
  |false=>
   have G:ac (bS t l a=(n,af t 4 [59] D)):=by
    grind [bS,ac.j]
   have x:=w;go_wp2_with fail;refine(oJ x.j.1 4 [59]).mono ?_;rintro E g ⟨rfl,r,p⟩;have i:=Z (Yp r (x.j.2.u p));have J:ac (∀q,(g.alloc q).ownsRow 0 3 1 (.slice gV l.length u) l.length (l.map (U))):=Z (λq=>bi (L.j _ _ i.j.1 F i.j.2) ((ak [] g).B q) (by simp));go_wp2_with (at_builtin;go_must (refine wpList_append_lies _ (by rfl) _ _ _ (by rfl) 0 3 a0 _ 1 8 underlying24 M O P R S (by omega) (.slice gV l.length u) l.length (l.map (U)) (by rfl) (J.j _) ⟨g.heap.size,0,none⟩ 1 1 [U n] (by rfl) (by rfl) (World.news_of_block (cs:=#[U n]) (t:=3) (fr:=(0,0)) (heap_alloc_new g _)) (by simp[Value.oneCell']) (by omega) (by unfold maxLen;omega) (by omega) (by simp) (g.heap.size+1) (by simp) ?_;intro z y K C A I B;have H:ac (nI (.slice gV l.length u) l n z y g K):=Z ⟨⟨_,(ak [] g).B _,A,by simp_all⟩,C,B⟩;clear C A I B));go_ret2;rw[G.j];exact⟨g,z,y,rfl,i.j.1,i.j.2,H.j⟩
 .have b0:(D.s.e==0)=false:=by simp_all
  have G:ac (bS t l a=(n,af t 4 [59] D)):=by
   show _=_;unfold bS;simp only[a6.j];simp_all
  have x:=w;go_wp2_with fail;refine(oJ x.j.1 4 [59]).mono ?_;rintro E g ⟨rfl,r,p⟩;have i:=Z (Yp r (x.j.2.u p));have J:ac (∀q,(g.alloc q).ownsRow 0 3 1 (.slice gV l.length u) l.length (l.map (U))):=Z (λq=>bi (L.j _ _ i.j.1 F i.j.2) ((ak [] g).B q) (by simp));go_wp2_with (at_builtin;go_must (refine wpList_append_lies _ (by rfl) _ _ _ (by rfl) 0 3 a0 _ 1 8 underlying24 M O P R S (by omega) (.slice gV l.length u) l.length (l.map (U)) (by rfl) (J.j _) ⟨g.heap.size,0,none⟩ 1 1 [U n] (by rfl) (by rfl) (World.news_of_block (cs:=#[U n]) (t:=3) (fr:=(0,0)) (heap_alloc_new g _)) (by simp[Value.oneCell']) (by omega) (by unfold maxLen;omega) (by omega) (by simp) (g.heap.size+1) (by simp) ?_;intro z y K C A I B;have H:ac (nI (.slice gV l.length u) l n z y g K):=Z ⟨⟨_,(ak [] g).B _,A,by simp_all⟩,C,B⟩;clear C A I B));go_ret2;rw[G.j];exact⟨g,z,y,rfl,i.j.1,i.j.2,H.j⟩
def Em(c:Nat->Prop)(h:Nat)(t:Zb)(f:Nat)(i:List Int)(a:Int×ae)(b:Zw)(g:Ending)(d:Zw):Prop:=∃e,g=.returned (.tuple #[e,U a.1])/\aN c h t f a.2 [dw e (i++[a.1])] b d
def BI{v:Zv}{l:List Int}(d:aN c h t f a [dw v l] b b)(p:l.length<=1000000)(n:f<=1000000000):Calls prog 147 #[Zp h,v] b (Em c h t f l (bS t l a) b):=by
 obtain⟨j,o⟩:=d.ax;refine(Mc o (v:=v) (l:=l) (d.bq (i:=0) rfl) (Y8 λu m=>qv (i:=0) rfl m) p n).mono ?_;rintro x C ⟨A,y,w,rfl,s,g,⟨B,q,k,e⟩,r,z⟩;exact⟨_,rfl,(d.call ⟨⟨j,s⟩,g⟩).io (i:=0) rfl q r k e rfl⟩
end
section
variable {e j : Nat -> Prop} {c d h : Nat} {f : Zb} {σ t : ae} {b o m p q : Zw} {a : PV} {g : List Th} {i : Nat} {k l : Th}
def bT(σ:ae):Prop:=∀a∈σ.A,a.a7=1->0<=a.n/\a.n<σ.w.length
def sW{a:PV}(k:bk e c f d σ a b){i:Nat}(D:i<σ.w.length):∃g p l,a.rv=.slice (some ⟨g,0,none⟩) σ.w.length p/\a.ls[i]? = some l/\b.cell? ⟨g,i*8,none⟩=some (U (σ.w.getD i cS).C)/\b.cell? ⟨g,i*8+1,none⟩=some (U (σ.w.getD i cS).n)/\b.cell? ⟨g,i*8+2,none⟩=some (U (σ.w.getD i cS).of)/\b.cell? ⟨g,i*8+3,none⟩=some l.1/\b.cell? ⟨g,i*8+4,none⟩=some l.2/\b.cell? ⟨g,i*8+5,none⟩=some (U (σ.w.getD i cS).fp)/\b.cell? ⟨g,i*8+6,none⟩=some (.string ⟨(σ.w.getD i cS).b0.toArray⟩)/\b.cell? ⟨g,i*8+7,none⟩=some (U (σ.w.getD i cS).m)/\(∀i,b.frozen? ⟨g,i,none⟩=false)/\g<b.heap.size/\g≠c:=by
 have y:i<a.ls.length:=by rw[k.a2];omega
 have B:σ.w[i]? = some (σ.w.getD i cS):=by grind
 have t:a.ls[i]? = some a.ls[i]:=Yd y;have A:(σ.w.zip a.ls)[i]? = some (σ.w.getD i cS,a.ls[i]):=by grind
 have l:=λj m=>qM (f:=λk:bg×(Zv×Zv)=>kW k.1 k.2) (k:=8) (λ_=>rfl) (σ.w.zip a.ls) i j m;have s:=k.w;unfold mq at s;have q:=λj m (v:Zv) (o:(kW (σ.w.getD i cS) a.ls[i])[j]? = some v)=>ka s (x:=v) (l j m |>.trans (by simp_all));obtain⟨g,p,o,C,w,z⟩:=q 0 (by omega) _ rfl;have h:∀j (m:j<8) (v:Zv) (o:(kW (σ.w.getD i cS) a.ls[i])[j]? = some v),b.cell? ⟨g,i*8+j,none⟩=some v:=by
  simp_all
 exact⟨g,p,a.ls[i],o,t,h 0 (by omega) _ rfl,h 1 (by omega) _ rfl,h 2 (by omega) _ rfl,h 3 (by omega) _ rfl,h 4 (by omega) _ rfl,h 5 (by omega) _ rfl,h 6 (by omega) _ rfl,h 7 (by omega) _ rfl,w,z,λu=>k.nd.r (by rw[o,u];rfl)⟩
def xB(a:0<=bP σ σ.s.x.text):cG σ∈σ.A:=by
 grind [qL,cG]
end
section
variable {k m : Nat -> Prop} {d g l : Nat} {b : Zb} {σ r : ae} {c q a j f : Zw} {h : PV} {L : List Th} {i : Nat} {o p : Th}
def LT(d6:bC k d b g σ c)(ok:bT σ)(e6:g<=1000000000)(a4:σ.s.e=0/\σ.s.x.C=1):Calls prog 151 #[Zp d] c (GP k d b g (bZ b σ).2 (.tuple #[U (bZ b σ).1.1,.string ⟨(bZ b σ).1.2.toArray⟩]) c):=by
 have c5:=Z a4;clear a4;have a3:=Z ((iE d6).B (oW σ.s.x));obtain⟨h,q⟩:=d6;obtain⟨F,N,O,P,R,S,D,p,a0,G,H,I,J,K,M,E,e8⟩:=q.al;have e9:=xB (σ:=σ);clear q D p a0 G I J K M;go_in;go_wp2;generalize e7:c.alloc (oW σ.s.x)=j at *
 clear e7 F N O P R S H E e8;obtain⟨h,gV,e3,q,c0⟩:=a3.j.ax.sp;have b6:=Z (oj (q.au (ak [] j).aq) e6 σ.s.x.text);rw[c0]at b6;obtain⟨F,N,O,P,R,S,D,p,a0,G,H,I,J,K,M,E,a6⟩:=q.al;rw[c0]at p;obtain⟨a8,a9,b0,b1,b2,b3,b4,b5⟩:=a3.j.al (i:=0) rfl;clear F N O P R S D a0 G H I J K M q;refine cx (λa=>a.cell? (Zd d 8)=some (.slice gV σ.A.length e3)/\a.cell? (Zd c.heap.size 1)=some (Zs σ.s.x.text)) (L:=8) (by kernel_rfl) rfl (by kernel_rfl) (by kernel_rfl) ?_ (λw=>?_)
 .go_keep
 refine bH [0,1,2,3,4,5,6] ?_;iterate 7 (refine bK (v:=?_) rfl (by kernel_rfl) (λ_ _ _ u=>u) (by kernel_rfl) (by assumption) ?_ ?_;rotate_left;focus (intro c B;(try dsimp only at B);go_simp;(try with_reducible rfl));(try simp only[aJ,aK,List.set]))
 refine bI ?_;refine bF 7 (by kernel_rfl) rfl λt l=>?_;(go_simp;refine b6.j.mono ?_;rintro f9 f ⟨rfl,rfl⟩);refine l.out _ _ ?_ (λw=>?_)
 .go_keep
 clear l t;(try simp only[aJ,aK,List.set]);refine cR (by kernel_rfl) rfl λt l=>?_;go_simp;refine l.out _ _ ?_;clear l t;(try simp only[aJ,aK,List.set]);have y:=Z a3.j.aq;clear a3 b6 w a8 a9 b0 b1 b2 b3 b4 b5 p E a6 c0;generalize j.drew=f at y ⊢;obtain⟨h,q⟩:=y.j.ax;obtain⟨F,N,O,P,R,S,D,p,a0,G,H,I,J,K,M,E,a6⟩:=q.al;obtain⟨a8,a9,b0,b1,b2,b3,b4,b5⟩:=y.j.al (i:=0) rfl;clear F N O P R S a0 G I J K M;have c4:=Z q;clear q;have a4:=c5.j;clear c5;have c2:ac (bZ b σ=if bP σ σ.s.x.text<0\/(cG σ).a7≠1\/(fG σ (cG σ).n).C≠5 then ((0,[]),bL 7 σ.s.x.m σ)else (((cG σ).n,σ.s.x.text),aW b σ)):=by show _=_;unfold bZ;simp_all
 have g3:(σ.s.e==0)=true:=by simp_all
 have g4:((σ.s.x.C:Int)==1)=true:=by simp_all
 clear a4;by_cases e5:bP σ σ.s.x.text<0
 .have A:ac (bZ b σ=((0,[]),bL 7 σ.s.x.m σ)):=by simp_all
  go_wp2;go_region;have z:=Z y.j.aq;go_wp2_with fail;refine aM z (jo · 7 σ.s.x.m) λa7 r=>?_;go_wp2;go_ret2;rw[A.j];exact⟨rfl,r.j.fin⟩
 .have d3:=qL (by omega:0<=bP σ σ.s.x.text);obtain⟨a1,c6,f1,-,d7,a2,-,d8,d9,g5⟩:=pD c4.j d3;change f.cell? _=some (U (cG σ).a7)at d7;change f.cell? _=some (U (cG σ).n)at a2;rw[f1]at p;have b9:=ok _ (e9 (by omega));have e0:=Z d3;generalize d1:bP σ σ.s.x.text=o at *
  obtain⟨o,rfl⟩:∃m:Nat,o=m:=⟨o.toNat,by omega⟩;simp only[Int.toNat_natCast]at *
  have g7:(o:Int)<(σ.A.length:Int):=by omega
  have g6:decide ((o:Int)<0)=false:=by simp
  have e2:=Z d1;clear d1 e5;by_cases c1:(cG σ).a7=1
  .have f2:((cG σ).a7 != 1)=false:=by simp_all
   obtain⟨f3,f4⟩:=b9 c1;obtain⟨m,a5⟩:∃m:Nat,(cG σ).n=m:=⟨(cG σ).n.toNat,by omega⟩;obtain⟨c8,e4,g9,f0,-,f5,-,-,-,-,-,-,-,f6,f7,g8⟩:=sW c4.j (i:=m) (by omega);rw[a5]at a2 f4;rw[f0]at D;have d4:fG σ (cG σ).n=σ.w.getD m cS:=by unfold fG;simp_all
   generalize d2:(σ.w.getD m cS).C=C at *
   have e1:=Z a5;have c3:ac (bZ b σ=if C≠5 then ((0,[]),bL 7 σ.s.x.m σ)else (((m:Int),σ.s.x.text),aW b σ)):=by
    show _=_;rw[c2.j,d4,d2,a5];by_cases c9:C=5
    .simp_all[Y2]
    simp_all
   clear c1 a5 d4 b9 f3 d2 c2;go_wp2;refine cx (λa=>a.cell? (Zd d 8)=some (.slice (some ⟨a1,0,none⟩) σ.A.length c6)/\a.cell? (Zd d 7)=some (.slice (some ⟨c8,0,none⟩) σ.w.length e4)/\a.cell? ⟨a1,o*4+1,none⟩=some (U (cG σ).a7)/\a.cell? ⟨a1,o*4+2,none⟩=some (U m)/\a.cell? ⟨c8,m*8,none⟩=some (U C)) (L:=33) (by kernel_rfl) rfl (by kernel_rfl) (by kernel_rfl) ?_ (λw=>?_)
   .go_keep
   refine bH [0,1,2,3,4,5,6,7,8,9,10,11,12,13,14,15,16,17,18,19,20,21,22,23,24,25,26,27,28,29,30,31,32] ?_;iterate 33 (refine bK (v:=?_) rfl (by kernel_rfl) (λ_ _ _ u=>u) (by kernel_rfl) (by assumption) ?_ ?_;rotate_left;focus (intro c B;(try dsimp only at B);go_simp;(try with_reducible rfl));(try simp only[aJ,aK,List.set]))
   refine bI ?_;refine cR (by kernel_rfl) rfl λt l=>?_;go_simp;refine l.out _ _ ?_;clear l t;(try simp only[aJ,aK,List.set]);clear w;by_cases c9:C=5
   .have A:ac (bZ b σ=(((m:Int),σ.s.x.text),aW b σ)):=by simp_all
    subst c9;clear c3;have z:=Z y.j.aq;go_wp2_with fail;refine aM z (gZ ·) λa7 r=>?_;clear D p H E a6 a8 a9 b0 b1 b2 b3 b4 b5 d7 a2 d8 d9 f5 f6 f7;obtain⟨a8,a9,b0,b1,b2,b3,b4,b5⟩:=r.j.al (i:=0) rfl;obtain⟨f8,b8⟩:=r.j.ax;obtain⟨-,-,-,-,-,-,-,p,-,-,-,-,-,-,-,E,a6⟩:=b8.al;obtain⟨b7,c7,d5,-,-,a2,-,d8,d9,-⟩:=pD b8 (i:=o) e0.j;have d0:((aW b σ).A.getD o hI).n=m:=by
     rw[<-e1.j];unfold cG;rw[e2.j];rfl
    rw[d0]at a2;rw[d5]at p;change a7.cell? _=some (.slice (some ⟨b7,0,none⟩) σ.A.length c7)at p;clear b8 d5 d0;go_wp2;refine cx (λa=>a.cell? (Zd d 8)=some (.slice (some ⟨b7,0,none⟩) σ.A.length c7)/\a.cell? ⟨b7,o*4+2,none⟩=some (U m)/\a.cell? (Zd c.heap.size 1)=some (Zs σ.s.x.text)) (L:=12) (by kernel_rfl) rfl (by kernel_rfl) (by kernel_rfl) ?_ (λw=>?_)
    .go_keep
    refine bH [0,1,2,3,4,5,6,7,8,9,10,11] ?_;iterate 12 (refine bK (v:=?_) rfl (by kernel_rfl) (λ_ _ _ u=>u) (by kernel_rfl) (by assumption) ?_ ?_;rotate_left;focus (intro c B;(try dsimp only at B);go_simp;(try with_reducible rfl));(try simp only[aJ,aK,List.set]))
    refine bI ?_;refine cR (by kernel_rfl) rfl λt l=>?_;go_simp;refine l.out _ _ ?_;clear l t;(try simp only[aJ,aK,List.set]);clear w;go_wp2;go_ret2;rw[A.j];exact⟨rfl,r.j.aq.fin⟩
   .have A:ac (bZ b σ=((0,[]),bL 7 σ.s.x.m σ)):=by simp_all
    have g0:(C != 5)=true:=by simp_all
    have g1:(C==5)=false:=by simp_all
    have g2:decide (C=5)=false:=by omega
    clear c3;have z:=Z y.j.aq;go_wp2_with fail;refine aM z (jo · 7 σ.s.x.m) λa7 r=>?_;go_wp2;go_ret2;rw[A.j];exact⟨rfl,r.j.fin⟩
  .have A:ac (bZ b σ=((0,[]),bL 7 σ.s.x.m σ)):=by simp_all
   have f2:((cG σ).a7 != 1)=true:=by simp_all
   clear c1 b9;go_wp2;refine cx (λa=>a.cell? (Zd d 8)=some (.slice (some ⟨a1,0,none⟩) σ.A.length c6)/\a.cell? ⟨a1,o*4+1,none⟩=some (U (cG σ).a7)) (L:=33) (by kernel_rfl) rfl (by kernel_rfl) (by kernel_rfl) ?_ (λw=>?_)
   .go_keep
   refine bH [0,1,2,3,4,5,6,7,8,9,10,11,12,13,14] ?_;iterate 15 (refine bK (v:=?_) rfl (by kernel_rfl) (λ_ _ _ u=>u) (by kernel_rfl) (by assumption) ?_ ?_;rotate_left;focus (intro c B;(try dsimp only at B);go_simp;(try with_reducible rfl));(try simp only[aJ,aK,List.set]))
   refine bI ?_;refine bH [15,16,17,18,19,20,21,22,23,24,25,26,27,28,29,30,31,32] ?_;iterate 18 (refine Pz rfl (by kernel_rfl) (λ_ _ _ u=>u) (by kernel_rfl) (by assumption) ?_;(try simp only[aJ,aK,List.set]))
   refine bI ?_;refine cR (by kernel_rfl) rfl λt l=>?_;go_simp;refine l.out _ _ ?_;clear l t;(try simp only[aJ,aK,List.set]);clear w;have z:=Z y.j.aq;go_wp2_with fail;refine aM z (jo · 7 σ.s.x.m) λa7 r=>?_;go_wp2;go_ret2;rw[A.j];exact⟨rfl,r.j.fin⟩
end
section
variable {f m : Nat -> Prop} {c d l : Nat} {a : Zb} {σ q : ae} {b p h j k : Zw} {g : PV} {L : List Th} {i : Nat} {n o : Th}
def LV(a7:bC f c a d σ b)(ok:bT σ)(b4:d<=1000000000)(F:¬(σ.s.e=0/\σ.s.x.C=1)):Calls prog 151 #[Zp c] b (GP f c a d (bZ a σ).2 (.tuple #[U (bZ a σ).1.1,.string ⟨(bZ a σ).1.2.toArray⟩]) b):=by
 have a9:=Z F;have C:=Z ((iE a7).B (oW σ.s.x));obtain⟨g,o⟩:=a7;obtain⟨I,R,S,a0,a1,a2,a3,D,a4,J,K,M,N,O,P,a5,c8⟩:=o.al;have c9:=xB (σ:=σ);go_in;go_wp2;generalize c5:b.alloc (oW σ.s.x)=j at *
 obtain⟨g,gV,b1,o,a6⟩:=C.j.ax.sp;have H:=Z (oj (o.au (ak [] j).aq) b4 σ.s.x.text);rw[a6]at H;obtain⟨I,R,S,a0,a1,a2,a3,D,a4,J,K,M,N,O,P,a5,b9⟩:=o.al;rw[a6]at D;obtain⟨r,t,u,w,y,z,A,B⟩:=C.j.al (i:=0) rfl;refine cx (λh=>h.cell? (Zd c 8)=some (.slice gV σ.A.length b1)/\h.cell? (Zd b.heap.size 1)=some (Zs σ.s.x.text)) (L:=8) (by kernel_rfl) rfl (by kernel_rfl) (by kernel_rfl) ?_ (λb3=>?_)
 .go_keep
 refine bH [0,1,2,3,4,5,6] ?_;iterate 7 (refine bK (v:=?_) rfl (by kernel_rfl) (λ_ _ _ E=>E) (by kernel_rfl) (by assumption) ?_ ?_;rotate_left;focus (intro b b5;(try dsimp only at b5);go_simp;(try with_reducible rfl));(try simp only[aJ,aK,List.set]))
 refine bI ?_;refine bF 7 (by kernel_rfl) rfl λb0 G=>?_;(go_simp;refine H.j.mono ?_;rintro b2 k ⟨rfl,rfl⟩);refine G.out _ _ ?_ (λb3=>?_)
 .go_keep
 (try simp only[aJ,aK,List.set]);refine cR (by kernel_rfl) rfl λb0 G=>?_;go_simp;refine G.out _ _ ?_;(try simp only[aJ,aK,List.set]);have n:=Z C.j.aq;generalize j.drew=k at n ⊢;obtain⟨g,o⟩:=n.j.ax;obtain⟨I,R,S,a0,a1,a2,a3,D,a4,J,K,M,N,O,P,a5,b9⟩:=o.al;obtain⟨r,t,u,w,y,z,A,B⟩:=n.j.al (i:=0) rfl;have c3:=Z o;have F:=a9.j;by_cases b8:σ.s.e=0
 .have b6:(σ.s.e==0)=true:=by simp_all
  have c7:σ.s.x.C≠1:=λE=>F ⟨b8,E⟩;have c6:((σ.s.x.C:Int)==1)=false:=by rw[Yi];omega
  by_cases c4:σ.s.x.C=2
  .have b7:((σ.s.x.C:Int)==2)=true:=by simp_all
   have q:ac (bZ a σ=if σ.s.x.text=[105,110,116]\/σ.s.x.text=[117,110,115,105,103,110,101,100]\/σ.s.x.text=[98,111,111,108]then if σ.s.x.text=[105,110,116]then ((0,[105,110,116]),aW a σ)else if σ.s.x.text=[98,111,111,108]then ((4,[98,111,111,108]),aW a σ)else if aH (aW a σ) 2 [105,110,116]=true then ((1,[117,110,115,105,103,110,101,100]),aW a (aW a σ))else ((1,[117,110,115,105,103,110,101,100]),aW a σ)else ((0,[]),dj σ)):=by
    show _=_;unfold bZ;simp_all
   cases d1:(σ.s.x.text==[105,110,116])with
   |true=>
    have m:ac (bZ a σ=((0,[105,110,116]),aW a σ)):=by show _=_;rw[q.j,Y9 (Y8 (by simp_all)),Y9 (by simp_all)]
    go_wp2_with fail;refine aM n (gZ ·) λp l=>?_;obtain⟨r,t,u,w,y,z,A,B⟩:=l.j.al (i:=0) rfl;go_wp2;go_ret2;rw[m.j];exact⟨rfl,l.j.fin⟩
   |false=>
    cases d2:(σ.s.x.text==[117,110,115,105,103,110,101,100])with
    |true=>
     have c0:¬(σ.s.x.text=[98,111,111,108]):=by
      simp_all
     have c1:(σ.s.x.text==[98,111,111,108])=false:=by simp_all
     have c2:ac (bZ a σ=if aH (aW a σ) 2 [105,110,116]=true then ((1,[117,110,115,105,103,110,101,100]),aW a (aW a σ))else ((1,[117,110,115,105,103,110,101,100]),aW a σ)):=by show _=_;rw[q.j,Y9 (Ya (Y8 (by simp_all))),Y2 (by simp_all),Y2 c0]
     go_wp2_with fail;refine aM n (gZ ·) λp l=>?_;obtain⟨r,t,u,w,y,z,A,B⟩:=l.j.al (i:=0) rfl;go_wp2_with fail;refine(gs l.j.ax 2 [105,110,116]).mono ?_;rintro b2 d4 ⟨rfl,rfl⟩;cases d0:aH (aW a σ) 2 [105,110,116]with
     |true=>
      have m:ac (bZ a σ=((1,[117,110,115,105,103,110,101,100]),aW a (aW a σ))):=by simp_all
      go_wp2_with fail;refine aM l (gZ ·) λd3 a8=>?_;go_wp2;go_ret2;rw[m.j];exact⟨rfl,a8.j.fin⟩
     |false=>
      have m:ac (bZ a σ=((1,[117,110,115,105,103,110,101,100]),aW a σ)):=by simp_all
      go_wp2;go_ret2;rw[m.j];exact⟨rfl,l.j.fin⟩
    |false=>
     cases c1:(σ.s.x.text==[98,111,111,108])with
     |true=>
      have m:ac (bZ a σ=((4,[98,111,111,108]),aW a σ)):=by show _=_;rw[q.j,Y9 (Ya (Ya (by simp_all))),Y2 (by simp_all),Y9 (by simp_all)]
      go_wp2_with fail;refine aM n (gZ ·) λp l=>?_;obtain⟨r,t,u,w,y,z,A,B⟩:=l.j.al (i:=0) rfl;go_wp2;go_ret2;rw[m.j];exact⟨rfl,l.j.fin⟩
     |false=>
      have m:ac (bZ a σ=((0,[]),dj σ)):=by show _=_;rw[q.j,Y2 (by simp_all)]
      go_wp2_with fail;refine aM n (nX ·) λp l=>?_;go_wp2;go_ret2;rw[m.j];exact⟨rfl,l.j.fin⟩
  .have b7:((σ.s.x.C:Int)==2)=false:=by rw[Yi];omega
   have m:ac (bZ a σ=((0,[]),dj σ)):=by show _=_;simp_all[bZ]
   go_wp2_with fail;refine aM n (nX ·) λp l=>?_;go_wp2;go_ret2;rw[m.j];exact⟨rfl,l.j.fin⟩
 .have b6:(σ.s.e==0)=false:=by simp_all
  have m:ac (bZ a σ=((0,[]),dj σ)):=by show _=_;simp_all[bZ]
  go_wp2_with fail;refine aM n (nX ·) λp l=>?_;go_wp2;go_ret2;rw[m.j];exact⟨rfl,l.j.fin⟩
def LW(i:bC f c a d σ b)(ok:bT σ)(h:d<=1000000000):Calls prog 151 #[Zp c] b (GP f c a d (bZ a σ).2 (.tuple #[U (bZ a σ).1.1,.string ⟨(bZ a σ).1.2.toArray⟩]) b):=by
 by_cases g:σ.s.e=0/\σ.s.x.C=1
 .exact LT i ok h g
 .exact LV i ok h g
end
end Go.Proofs.YtjdhaegijjednaaGreatDoor
