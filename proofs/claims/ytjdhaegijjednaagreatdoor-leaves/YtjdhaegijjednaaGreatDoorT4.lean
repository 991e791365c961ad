import Derived.Test.YtjdhaegijjednaaGreatDoorT3
import Derived.Deep.CutBlock
import Derived.Deep.DeepCutAuto
import Derived.Laws.Bits64b
import Derived.Deep.LoopGhost
import Derived.Lib.AppendStr
import Derived.Laws.IdiomStrings
import Derived.Test.YtjdhaegijjednaaGreatDoorProg
import Derived.WalkKit
import Derived.LaidEql
import Derived.Stop.Asserts
import Derived.RowKitTokens
set_option linter.all false
set_option maxRecDepth 100000
set_option maxHeartbeats 4000000
namespace Go.Proofs.YtjdhaegijjednaaGreatDoor
open Go.RowKit Go.MapKept Go.Proofs.Tryz
section
variable {nl:Nl}{o:Option aD}{b:Nat}
variable {t : Zb} {st f : St} {σ g h i j : ai} {E c : cq} {d : Mar.ac}
def ZL(nl:Nl)(b a:Zb)(o:Option aD)(c:aP nl b=none):aP (nl++[(b,o)]) a=if a=b then some o else aP nl a:=by
 unfold aP at *
 grind
def XC{a:Zb}(b:aP nl a=none):Kp nl (nl++[(a,o)]):=λc d e=>by
 rw[ZL nl a c o b];grind
def lX.ns{d i}(c:lX d nl i){a:Zb}{j}(k:aP nl a=none)(m:uY d (nl++[(a,o)]) (a,o) j):lX d (nl++[(a,o)]) (i++[j]):=by
 refine⟨by simp[c.am],?_,?_⟩
 .intro h b l f g;rcases Yj h nl.length with e|e
  .rw[Ys e]at f;rw[Ys (by rw[c.am];omega)]at g;have:=(c.f8 h b l f g).b8 [] (XC (o:=o) k);simp_all
  grind [am]
 .rw[List.map_append,YJ];grind [nd,BQ]
def iW(σ:ai):ai:={ aT σ.an 24 σ with an:=(aT σ.an 24 σ).an+1 }
def CF{h:Mar.aU}(c:Q t E st σ)(f:fD t st.y st.nx=.ok (h,b)){kw:Zb}(g:aM σ 2 kw=true)(i:¬24<=st.an):Q t E { st with y:=b,nx:=none,an:=st.an+1 } (aj t 2 kw (iW σ)):=by
 have a:=c.O f;have d:=c.d3 f σ.an 24;have j:=c.H;rw[Y2 Zm]at d;unfold iW;rw[d,sh (σ:={ σ with an:=σ.an+1 }) g];exact⟨a.e,a.wd,a.nl,a.pd,a.nm,by show σ.an+1=((st.an+1:Nat):Int);omega,a.cn,a.pg,a.cV,a.dK,a.ou,a.pr,a.er,a.e2⟩
def CG{d:Mar.aU}(c:Q t E st σ)(g:fD t st.y st.nx=.ok (d,b))(h:24<=st.an):Er ⟨5,d.y⟩ (iW σ):=by
 have f:=c.d3 g σ.an 24;have i:=c.H;rw[Y9 Zm]at f;have:=c.dX (e:=5) (a:=d.y) Zm;unfold iW;rw[f];exact⟨this.e,this.a,this.z⟩
def HG(a:aV):Zb:=[116,121,112,101,100,101,102,32]++vQ a.H++a.t++AY a.H++[59,10]
def aeQ{m:Mar.aU}(C:Q t E st σ)(x:E.pd=[])(I:E.dc=0)(F:fD t st.y st.nx=.ok (m,b))(J:aM σ 2 Ja=true):S t (λh c=>∃B,h=.typedef B/\uX E c h (HG B) []) (lC (lR (aJ t) m.y) { st with y:=b,nx:=none }) (jh t (iW σ)):=by
 by_cases p:24<=st.an
 .have w:lR (aJ t) m.y { st with y:=b,nx:=none } = .error ⟨5,m.y⟩:=Ci (st:={ st with y:=b,nx:=none }) p _ _;rw[lD w];exact(CG C F p).bE (afJ _)
 .have K:=CF C F J p;have w:lR (aJ t) m.y { st with y:=b,nx:=none } = aN (ry (aJ t)) (λh=>aN (cu (aJ t) [59]) λ_=>ret (.typedef h)) { st with y:=b,nx:=none,an:=st.an+1 }:=Cj (st:={ st with y:=b,nx:=none }) p _ _;unfold jh;simp only;generalize aj t 2 Ja (iW σ)=L at *
  have g:=Hb (G:=λA H _ c=>c = { E.cf A with pd:=[(H.1,none)] }/\aP E.nl H.1=none) (λA=>Tp (E:=E.cf A) x) K;generalize dx t [] true L=f at *
  cases u:il (aJ t) (iR uD) () { st with y:=b,nx:=none,an:=st.an+1 }with
  |error d=>
   rw[u]at g;have n:lR (aJ t) m.y { st with y:=b,nx:=none } = .error d:=by
    simp_all[aN,ry,lx]
   rw[lD n];rcases g with g|g
   .rw[Y9 g.d5];exact g
   .rw[Y2 (by simpa using g.e)];have s:Bd d { f.2 with G:=f.2.G++[⟨f.1.x.text,1,f.1.r,f.1.x.y⟩] }:=⟨g.e,g.k,g.n,g.a,g.z⟩;exact(s.g7 (t:=t) (kd:=4) (l:=[59]) Zm).bE (rY _ _)
  |ok y=>
   obtain⟨h,P,CZ⟩:=y;rw[u]at g;obtain⟨M,q,⟨rfl,D⟩,ok⟩:=g;rw[Y2 (by simpa using q.e)];have j:=gs q (kd:=4) (l:=[59]) Zr;cases v:cu (aJ t) [59] CZ with
   |error d=>
    rw[v]at j;have j:Er d (aj t 4 [59] f.2):=j;have n:lR (aJ t) m.y { st with y:=b,nx:=none } = .error d:=by
     simp_all[aN,ry,lx]
    rw[lD n];have s:Er d (aj t 4 [59] { f.2 with G:=f.2.G++[⟨f.1.x.text,1,f.1.r,f.1.x.y⟩] }):=⟨j.e,j.a,j.z⟩;exact s.bE (rY _ _)
   |ok y=>
    obtain⟨R,st4⟩:=y;rw[v]at j;obtain⟨N,i,rfl,-⟩:=j;have n:lR (aJ t) m.y { st with y:=b,nx:=none } = .ok (.typedef h,st4):=by
     rw[w];unfold aN ry lx;rw[u];simp only;rw[v];rfl
    rw[uo n];have O:st4.G=E.nl++[(h.t,none)]:=i.nl;simp only at D;refine⟨{ E.cf (gu h.H)with nl:=E.nl++[(h.t,some (.typedef h))],o:=E.o++HG h },?_,h,rfl,⟨x,I,rfl,rfl,by simp[cq.cf],rfl,[],rfl,Zq⟩⟩;refine⟨i.e,i.wd,?_,Y8 x,?_,i.H,i.cn,i.pg,i.cV,i.dK,?_,i.pr,i.er,i.e2.d8 i.nm.am _ _⟩
    .show ew st4.G h.t _=_++E.pd;grind [wv]
    .show lX f.2.h _ (f.2.G++[_]);refine q.nm.ns D ⟨ok.x,rfl,?_,ok.g0,ok.aa⟩;show ((f.1.x.y:Nat):Int)=_;rw[ok.y];rfl
    .show f.2.i++_=_;have:=q.ou;simp only at this;rw[this,ok.d6,ok.eZ,ok.x];rfl
def CV(m:Q t E st σ)(g:List (Int×Int))(f:List Int)(p:g.map (·.1)=f)(d b:Int):Sx t (λh k c=>c=E/\h=(bU t d b σ).1.1/\k.map (·.1)=f++[h]/\k.length=g.length+1/\dT d b h=true) (ir (aJ t) (dT d b) g st) (if(bU t d b σ).2.s.e=0/\f.contains (bU t d b σ).1.1=true then ch 6 (bU t d b σ).1.2 (bU t d b σ).2 else (bU t d b σ).2):=by
 unfold ir;have q:=zX m d b;generalize bU t d b σ=v at *
 refine gB (iY q) (oO _ _ _ _) ?_;rintro l u cM r i ⟨⟨rfl,n,o⟩,rfl⟩;unfold aQ pK ox;dsimp only;rw[p,n];simp only;by_cases e:f.contains l.1=true
 .rw[Y9 e,Y9 ⟨i.e,e⟩];exact i.dX (e:=6) (a:=l.2) Zm
 .rw[Y2 e,Y2 (λj=>e j.2)];exact⟨_,i,rfl,rfl,Zg,Zq,o⟩
def nT(a:Zb×Nat×Int):Zb:=a.1++JD++dk a.2.2
def kX(t:Zb)(a:Nat)(σ:ai):ge×ai:=bc t 2 (aT (aT a 12 σ).ax 40 (aT a 12 σ))
def iS(t:Zb)(a:Nat)(σ:ai):(Int×Int)×ai:=bU t (-2147483648) 2147483647 (aj t 4 [61] (kX t a σ).2)
def gR(t:Zb)(a:List Int)(σ:ai):ai:=if(iS t a.length σ).2.s.e=0/\a.contains (iS t a.length σ).1.1=true then ch 6 (iS t a.length σ).1.2 (iS t a.length σ).2 else (iS t a.length σ).2
def hU(t:Zb)(a:List Int)(σ:ai):ai:=if(gR t a σ).s.e≠0 then gR t a σ else eR (kX t a.length σ).1.text (iS t a.length σ).1.1 (gR t a σ)
def OS(a:List Int)(σ:ai):bp (aT a.length 12 σ) (gR t a σ):=by
 unfold gR;refine bp.u ?_ (oO _ _ _ _);unfold iS kX;exact(OP _ _ _).u ((uM _ _).u ((bu _ _ _).u (jX _ _ _)))
def yc(a:List Int)(σ:ai):bp (gR t a σ) (hU t a σ):=by
 grind [hU,fI,OR]
def aeE(k:Q t E st σ)(x:E.pd=[])(J:E.dc=0)(l:List (Int×Int))(e:List Int)(K:l.map (·.1)=e)(m:Zb×Nat)(b0:aP E.nl m.1=some none)(a8:At m.1 m.2 σ.G):Sx t (λf L c=>e.length<12/\(kX t e.length σ).1.text=f.1/\(iS t e.length σ).1.1=f.2.2/\L.map (·.1)=e++[f.2.2]/\(gR t e σ).s.e=0/\c.pd=[]/\c.dc=0/\c.fz=E.fz/\c.o=E.o/\c.ps=E.ps/\c.rf=E.rf/\c.nl=E.nl++[(f.1,some (.const f.1 f.2.1 f.2.2))]/\aP c.nl m.1=some none/\At m.1 m.2 (hU t e σ).G/\dT (-2147483648) 2147483647 f.2.2=true) (kY (aJ t) e.length l st) (hU t e σ):=by
 unfold kY;rcases pk t st with⟨h,b,p⟩|⟨d,p⟩
 .have r:=k.d3 p e.length 12;have n:∀{j:Type} (g:Mar.aU->PX (List (Int×Int)) j),aQ (lift (ht (aJ t))) g l st=g h l { st with y:=b,nx:=some h }:=λg=>by
   grind [aQ,lift,wo]
  rw[n];have i:=k.gC p;by_cases D:12<=e.length
  .rw[Y9 Zm]at r;unfold aQ lift gT;rw[Y9 D];have:=OS (t:=t) e σ;rw[r]at this;exact((k.dX (e:=5) (a:=h.y) Zm).bE this).bE (yc _ _)
  .rw[Y2 Zm]at r;have C:∀{j:Type} (g:Unit->PX (List (Int×Int)) j),aQ (lift (gT e.length 12 h.y)) g l { st with y:=b,nx:=some h } = g () l { st with y:=b,nx:=some h }:=λg=>by
    simp_all[aQ,lift,gT,Y2]
   rw[C];have I:=k.cn;rw[J]at I;have w:=k.d3 p σ.ax 40;by_cases a7:40<=st.ax
   .rw[Y9 Zm]at w;have u:∀{j:Type} (g:Unit->PX (List (Int×Int)) j),aQ (lift (lF h.y)) g l { st with y:=b,nx:=some h } = .error ⟨5,h.y⟩:=λg=>by
     simp_all[aQ,lift,lF]
    rw[u];have F:=k.dX (e:=5) (a:=h.y) Zm;refine Er.bE (σ:=gR t e σ) ?_ (yc _ _);unfold gR;refine Er.bE ?_ (oO _ _ _ _);unfold iS kX;rw[r,w];exact F.bE ((uM _ _).u ((bu _ _ _).u (jX _ _ _)))
   .rw[Y2 Zm]at w;have u:∀{j:Type} (g:Unit->PX (List (Int×Int)) j),aQ (lift (lF h.y)) g l { st with y:=b,nx:=some h } = g () l { st with y:=b,nx:=some h,ax:=st.ax+1 }:=λg=>by
     simp_all[aQ,lift,lF,Y2]
    rw[u];have M:Q t { E with dc:=1 } { st with y:=b,nx:=some h,ax:=st.ax+1 } σ:=⟨i.e,i.wd,i.nl,i.pd,i.nm,i.H,Zu,i.pg,i.cV,i.dK,i.ou,i.pr,i.er,i.e2⟩;have G:kX t e.length σ=bc t 2 σ:=by unfold kX;simp_all
    have P:bp (kX t e.length σ).2 (hU t e σ):=by
     refine bp.u ?_ (yc _ _);unfold gR;refine bp.u ?_ (oO _ _ _ _);unfold iS;exact(bu _ _ _).u (jX _ _ _)
    have R:bp (aj t 4 [61] (kX t e.length σ).2) (hU t e σ):=by
     refine bp.u ?_ (yc _ _);unfold gR;refine bp.u ?_ (oO _ _ _ _);grind [iS,jX]
    have y:=xX M x;rw[<-G]at y;refine gB (iY y) P ?_;rintro f b3 cM a4 N ⟨⟨rfl,A,b7,a0,a1⟩,rfl⟩;refine gB (iY (gs N (kd:=4) (l:=[61]) Zr)) R ?_;rintro b6 b4 tu a5 O ⟨⟨rfl,-⟩,rfl⟩;refine gB (CV O _ e K (-2147483648) 2147483647) (yc e σ) ?_;rintro v b5 CZ a6 q ⟨rfl,B,a2,b8,a3⟩;have q:Q t _ CZ (gR t e σ):=q;have z:hU t e σ=eR (kX t e.length σ).1.text (iS t e.length σ).1.1 (gR t e σ):=by
     unfold hU;rw[Y2 (by simpa using q.e)]
    have a9:=q.h2 f.2 v (s:=f.1) (by simp_all[uu]) x rfl;have b2:(gR t e σ).G=σ.G++[⟨f.1,2,-1,f.2⟩]:=by
     rw[<-a1];have:Sm (kX t e.length σ).2 (gR t e σ):=by
      unfold gR;refine Sm.u ?_ (oa _ _ _ _);unfold iS;exact(aF _ _ _).u (iJ _ _ _)
     exact this.G
    have b1:m.1≠f.1:=λn=>by simp_all
    refine⟨{ (cq.aS { E with dc:=1 } f.1).aq f.1 (.const f.1 f.2 v)with dc:=0 },?_,Zm,A,B.symm,a2,q.e,x,rfl,rfl,rfl,rfl,rfl,?_,?_,?_,a3⟩
    .rw[z,A];rw[show (iS t e.length σ).1.1=v from B.symm];omega
    .exact wv a0
    .simp_all[Mm,uu]
    .rw[z];unfold eR;simp only;split
     .grind [At,jg,Qv]
     grind [At]
 .have H:=k.bd p;have n:∀{j:Type} (g:Mar.aU->PX (List (Int×Int)) j),aQ (lift (ht (aJ t))) g l st=.error d:=λg=>by
   simp_all[aQ,lift,zM]
  rw[n];exact((H.d3 e.length 12).bE (OS e σ)).bE (yc e σ)
end
section
variable {t : Zb} {st g : St} {a h i j k : ai} {b c : cq} {f : Mar.ac}
def ql(t:Zb)(a:Bool×List Int×Zb×ai):ai:=if a.1=true then a.2.2.2 else aj t 4 [59] (aj t 4 Jl a.2.2.2)
def Hl(a:Bool×List Int×Zb×ai):bp a.2.2.2 (ql t a):=by
 unfold ql;split
 .exact fI _
 .exact(bu _ _ _).u (bu _ _ _)
def xl(h:a.s.e=0)(f:Nat)(b:List Int)(d:Zb):eh t (f+1) b d a=if(gR t b a).s.e≠0 then (true,b,d,gR t b a)
  else if aM (hU t b a) 4 [44]=true then eh t f (b++[(iS t b.length a).1.1]) (d++(kX t b.length a).1.text++JD++dk (iS t b.length a).1.1++[44,32]) (bq t (hU t b a))
  else (false,b++[(iS t b.length a).1.1],d++(kX t b.length a).1.text++JD++dk (iS t b.length a).1.1,hU t b a):=by
 by_cases c:(gR t b a).s.e≠0
 .rw[Y9 c];conv=>lhs;unfold eh
  rw[Y2 Zm];simp only;exact Y9 c
 .rw[Y2 c];have g:hU t b a=eR (kX t b.length a).1.text (iS t b.length a).1.1 (gR t b a):=by
   simp_all[hU]
  rw[g];conv=>lhs;unfold eh
  rw[Y2 Zm];simp only;exact Y2 c
def zc(a:Zb×Nat×Int):Zb×Option aD:=(a.1,some (.const a.1 a.2.1 a.2.2))
def aeC(h:Zb×Nat):∀(e:Nat) (d:List (Zb×Nat×Int)) (l:List (Int×Int)) (j:Zb) (st:St) (a:ai) (b:cq),Q t b st a->b.pd=[]->b.dc=0->d.length+e=13->d.length<=12->l.map (·.1)=d.map (·.2.2)->aP b.nl h.1=some none->At h.1 h.2 a.G->(∀m∈d.map (·.2.2),dT (-2147483648) 2147483647 m=true)->
  S t (λA c=>∃k g,A=.enum h.1 h.2 (d++k++[g])/\(eh t e (d.map (·.2.2)) j a).1=false/\(eh t e (d.map (·.2.2)) j a).2.1=(d++k++[g]).map (·.2.2)/\(eh t e (d.map (·.2.2)) j a).2.2.1=j++k.flatMap (λg=>nT g++[44,32])++nT g/\c.pd=[]/\c.dc=0/\c.fz=b.fz/\c.o=b.o/\c.ps=b.ps/\c.rf=b.rf/\c.nl=b.nl++(k++[g]).map zc/\aP c.nl h.1=some none/\At h.1 h.2 (ql t (eh t e (d.map (·.2.2)) j a)).G/\(∀m∈(d++k++[g]).map (·.2.2),dT (-2147483648) 2147483647 m=true)) (kC (aJ t) h e d l st) (ql t (eh t e (d.map (·.2.2)) j a)):=by
 intro e;induction e with
 |zero=>omega
 |succ e b4=>
  intro d l j st a b B b3 a7 d5 d6 a9 b2 a6 d4;have i:=aeE B b3 a7 l (d.map (·.2.2)) a9 h b2 a6;have b0:(d.map (·.2.2)).length=d.length:=Zq;rw[xl B.e];unfold kC;rw[b0]at i ⊢;cases E:kY (aJ t) d.length l st with
  |error f=>
   rw[E]at i;have i:Er f (hU t (d.map (·.2.2)) a):=i;have C:(gR t (d.map (·.2.2)) a).s.e≠0:=by
    intro C;have D:=i.d5;unfold hU at D;rw[Y2 Zm]at D;grind [eR,jg]
   have a5:hU t (d.map (·.2.2)) a=gR t (d.map (·.2.2)) a:=by
    unfold hU;grind
   rw[a5]at i;rw[Y9 C];exact i.bE (Hl (true,_,_,_))
  |ok b7=>
   obtain⟨g,b5,cM⟩:=b7;rw[E]at i;obtain⟨F,b8,c5,G,H,c7,c8,x,y,I,J,K,L,z,v,w,c6⟩:=i;rw[Y2 Zm,G,H];dsimp only;generalize hU t (d.map (·.2.2)) a=c1 at *
   have b1:(d++[g]).map (·.2.2)=d.map (·.2.2)++[g.2.2]:=Zq;have a8:∀m∈(d++[g]).map (·.2.2),dT (-2147483648) 2147483647 m=true:=by
    grind
   rcases mf b8 (kd:=4) (l:=[44]) Zr with⟨d3,q,n⟩|⟨p,q,n,r⟩|⟨p,q,n,r⟩
   .unfold aN;rw[q,Y2 (by rw[n.is Zm];simp)];unfold ql;rw[Y2 Zq];exact(n.g7 (t:=t) (kd:=4) (l:=Jl) Zm).bE (bu _ _ _)
   .have u:∀(e:Bool->PM aD),aN (el (aJ t) [44]) e cM=e true p:=λe=>by grind [aN]
    rw[u,Y9 n];simp only[if_true]
    rw[<-b1];have:=b4 (d++[g]) b5 (j++g.1++JD++dk g.2.2++[44,32]) p (bq t c1) F r x y Zg Zg Zg v w a8;refine this.aZ ?_;rintro A c2 ⟨k,b6,M,P,R,a0,a1,a2,c9,d0,d1,d2,a3,a4,N,O⟩;refine⟨g::k,b6,by rw[M];simp,P,by rw[R];simp,?_,a1,a2,Zg,Zg,Zg,Zg,by rw[a3,z];simp[zc],a4,N,by simpa using O⟩;rw[a0];simp[nT]
   .have u:∀(e:Bool->PM aD),aN (el (aJ t) [44]) e cM=e false p:=λe=>by grind [aN]
    rw[u,Y2 Zg];simp only[Ye,if_false]
    unfold qn ql;rw[Y2 Zq];refine hp (gs r (kd:=4) (l:=Jl) Zr) (bu _ _ _) ?_;rintro m d7 c3 b9 ⟨rfl,-⟩;refine hp (gs b9 (kd:=4) (l:=[59]) Zr) (fI _) ?_;rintro m d8 c4 c0 ⟨rfl,-⟩;exact S.ret c0 ⟨[],g,Zq,trivial,Zq,by simp[nT],x,y,I,J,K,L,by rw[z];rfl,v,w,Zg⟩
def Lb(c:Zb)(b:List (Zb×Nat×Int))(a:Zb×Nat×Int):Zb:=Jm++c++Jd++b.flatMap (λa=>nT a++[44,32])++nT a++[32,125,59,10]
theorem Eh(d:List ig)(a:Zb×Nat)(c b:Int):At a.1 a.2 (d++[⟨a.1,c,b,a.2⟩]):=⟨⟨a.1,c,b,a.2⟩,Zq,rfl,rfl⟩
def aeB{n:Mar.aU}{j:Nat}(D:Q t b st a)(E:b.pd=[])(a2:b.dc=0)(v:fD t st.y st.nx=.ok (n,j))(a3:aM a 2 Jo=true):S t (λd c=>∃H K F g,d=.enum H K (F++[g])/\uX b c d (Lb H F g) []) (lC (kS (aJ t) n.y) { st with y:=j,nx:=none }) (jS t (iW a)):=by
 by_cases u:24<=st.an
 .have k:kS (aJ t) n.y { st with y:=j,nx:=none } = .error ⟨5,n.y⟩:=Ci (st:={ st with y:=j,nx:=none }) u _ _;rw[lD k];exact(CG D v u).bE (afC _)
 .have a6:=CF D v a3 u;have a4:kS (aJ t) n.y { st with y:=j,nx:=none } = aN (jA (aJ t)) (λe=>aN (cu (aJ t) Jv) λ_=>kC (aJ t) e 13 [] []) { st with y:=j,nx:=none,an:=st.an+1 }:=Cj (st:={ st with y:=j,nx:=none }) u _ _;unfold jS;simp only;generalize aj t 2 Jo (iW a)=h at *
  have k:S t (λd c=>∃e:Zb×Nat,(bc t 2 h).1.text=e.1/\∃i g,d=.enum e.1 e.2 (i++[g])/\(eh t 13 [] (Jm++(bc t 2 h).1.text++Jd) (aj t 4 Jv (bc t 2 h).2)).1=false/\(eh t 13 [] (Jm++(bc t 2 h).1.text++Jd) (aj t 4 Jv (bc t 2 h).2)).2.1=(i++[g]).map (·.2.2)/\(eh t 13 [] (Jm++(bc t 2 h).1.text++Jd) (aj t 4 Jv (bc t 2 h).2)).2.2.1=Jm++e.1++Jd++i.flatMap (λg=>nT g++[44,32])++nT g/\c.pd=[]/\c.dc=0/\c.fz=b.fz/\c.o=b.o/\c.ps=b.ps/\c.rf=b.rf/\c.nl=b.nl++[(e.1,none)]++(i++[g]).map zc/\aP b.nl e.1=none/\aP c.nl e.1=some none/\At e.1 e.2 (ql t (eh t 13 [] (Jm++(bc t 2 h).1.text++Jd) (aj t 4 Jv (bc t 2 h).2))).G/\(∀I∈(i++[g]).map (·.2.2),dT (-2147483648) 2147483647 I=true))
    (kS (aJ t) n.y { st with y:=j,nx:=none }) (ql t (eh t 13 [] (Jm++(bc t 2 h).1.text++Jd) (aj t 4 Jv (bc t 2 h).2))):=by
   rw[a4];refine hp (xX a6 E) ((bu _ _ _).u ((Hm _ _ _ _).u (Hl _))) ?_;rintro e b7 w m ⟨rfl,J,b8,b9,c0⟩;refine hp (gs m (kd:=4) (l:=Jv) Zr) ((Hm _ _ _ _).u (Hl _)) ?_;rintro I a9 b1 y ⟨rfl,-⟩;have:=aeC e 13 [] [] (Jm++(bc t 2 h).1.text++Jd) a9 (aj t 4 Jv (bc t 2 h).2) _ y E a2 Zq Zq rfl (by simp_all[uu]) (by
    show At e.1 e.2 (bc t 2 h).2.G;grind [Eh]) Zq
   refine this.aZ ?_;grind
  generalize eh t 13 [] (Jm++(bc t 2 h).1.text++Jd) (aj t 4 Jv (bc t 2 h).2)=s at *
  cases p:kS (aJ t) n.y { st with y:=j,nx:=none }with
  |error f=>
   rw[p]at k;have k:Er f (ql t s):=k;rw[lD p];unfold ql at k;split at k
   .rename_i x;rw[Y9 x];exact k
   .rename_i x;rw[Y2 x];exact k.bE ((hL _ _).u ((yf _ _ _).u (rY _ _)))
  |ok a5=>
   obtain⟨d,cM⟩:=a5;rw[p]at k;obtain⟨w,m,e,J,i,g,rfl,M,N,O,z,P,R,a0,b3,b4,A,a1,B,q,L⟩:=k;rw[uo p,Y2 Zu,J,N,O];unfold ql at m q;rw[M]at m q;simp only[Ye,if_false]at m q
   generalize aj t 4 [59] (aj t 4 Jl s.2.2.2)=b0 at *
   have y:=m.row (r:=rB (i++[g])) ⟨by simp<;>omega,Zq,by simp<;>omega,λ_=>L⟩ Zq;have a7:=y.jN (d:=.enum e.1 e.2 (i++[g])) (n:=b0.h.length) B z q rfl ⟨Zq,rR _ _⟩;have a8:=a7.aX (Jm++e.1++Jd++i.flatMap (λg=>nT g++[44,32])++nT g++[32,125,59,10]);refine⟨_,a8,e.1,e.2,i,g,rfl,⟨z,P,R,by show w.o++_=_;rw[a0];rfl,Zu,by simp_all[ju],(i++[g]).map zc,?_,?_⟩⟩
   .show ew w.nl e.1 _=_;rw[A]at B ⊢;unfold ew;rw[List.map_append];have C:=wv (d:=.enum e.1 e.2 (i++[g])) a1;unfold ew at C;rw[C];rw[YN];congr 1;show _::_=_::_;congr 1;conv=>rhs;rw[<-List.map_id ((i++[g]).map zc)]
    apply List.map_congr_left;intro j v;have b5:j.1≠e.1:=λs=>by
     have G:=m.nm.nd;rw[A,List.map_append,YJ]at G;exact G.2.2 e.1 Zq e.1 (YE.2 ⟨j,v,s⟩) rfl
    simp_all
   .intro b2 p;obtain⟨b6,-,rfl⟩:=YE.1 p;exact⟨_,_,_,rfl⟩
end
section
variable {a h n c:Nat}{k i:Type}
variable {t : Zb} {st p : St} {b m q u o : ai} {f g : cq} {j : Mar.ac}
def iO(e:List bt)(b:List aV)(d:List Int):Prop:=d.length=b.length/\∀(a:Nat) (c:Int) (h:aV),d[a]?=some c->b[a]?=some h->dA e h.H c
def iO.al{e:List aV}{f:List Int}(d:iO b.h e f)(j:dq b m):iO m.h e f:=⟨d.1,λi c h a g=>(d.2 i c h a g).al j⟩
def iO.d8{g:List bt}{f:List aV}{k:List Int}(a:iO g f k){i:aV}{l:Int}(m:dA g i.H l):iO g (f++[i]) (k++[l]):=by
 refine⟨by simp[a.1],?_⟩;intro j c h e d;rcases Yj j f.length with b|b
 .rw[Ys b]at d;rw[Ys (by rw[a.1];omega)]at e;exact a.2 j c h e d
 .rw[Yw b]at d;rw[Yw (by rw[a.1];omega),a.1]at e;grind
theorem iO.lt{a:List bt}{d:List aV}{e:List Int}(g:5<=a.length)(b:iO a d e):∀f∈e,f<a.length:=by
 intro f j;obtain⟨c,h,rfl⟩:=List.mem_iff_getElem.1 j;have i:c<d.length:=by rw[<-b.1];omega
 exact(b.2 c _ _ (Yd h) (Yd i)).lt g
def qv(a:aV):Zb:=vQ a.H++a.t++AY a.H++[59,32]
abbrev hK(t:Zb)(n:Nat)(a:Zc)(b:ai):ni×ai:=dx t a false (aT n 12 b)
theorem Ac(g:b.s.e=0)(f:Nat)(a:List Int)(c:Zc)(d:Zb):eU t (f+1) a c d b =
  if aM (aj t 4 [59] (hK t a.length c b).2) 4 Jl=true then (a++[(hK t a.length c b).1.r],d++(hK t a.length c b).1.d6++(hK t a.length c b).1.x.text++(hK t a.length c b).1.eZ++[59,32],aj t 4 [59] (hK t a.length c b).2)
  else eU t f (a++[(hK t a.length c b).1.r]) (c++[(hK t a.length c b).1.x.text]) (d++(hK t a.length c b).1.d6++(hK t a.length c b).1.x.text++(hK t a.length c b).1.eZ++[59,32]) (aj t 4 [59] (hK t a.length c b).2):=by
 simp_all[eU]
def OY(g:b.s.e=0)(d:Nat)(c:List Int)(a:Zc)(f:Zb):bp (aj t 4 [59] (hK t c.length a b).2) (eU t (d+1) c a f b).2.2:=by
 grind [Ac,fI,Ho]
def OX(g:b.s.e=0)(c:Nat)(a:List Int)(d:Zc)(f:Zb):bp (aT a.length 12 b) (eU t (c+1) a d f b).2.2:=((Df _ _ _).u (bu _ _ _)).u (OY g c a d f)
theorem Bd.nu(a:Bd j b)(c:Nat)(g:List Int)(d:Zc)(f:Zb):Er j (eU t (c+1) g d f b).2.2:=(a.d3 ..).bE (OX a.e c g d f)
def aeH(o:Q t f st b)(a:vu)(l:List aV)(d:Zc):Sx t (λ_ c g=>∃h,g=f.cf (gu h.H)/\c=(l++[h],d++[h.t])/\yt h (dx t d false b).1 (dx t d false b).2) (mt (aJ t) a (l,d) st) (aj t 4 [59] (dx t d false b).2):=by
 have e:=Hb (G:=λm n i g=>g=f.cf m/\i=d++[n.1]) (λm=>Ks d a.q a.bx) o;unfold mt;simp only;generalize dx t d false b=s at *
 cases k:il (aJ t) (cQ a.q a.bx) d st with
 |error j=>
  rw[k]at e;rcases e with e|e
  .exact e.bE (bu _ _ _)
  .exact e.g7 Zm
 |ok p=>
  obtain⟨h,i,cM⟩:=p;rw[k]at e;obtain⟨u,q,⟨rfl,rfl⟩,ok⟩:=e;refine gB (iY (gs q (kd:=4) (l:=[59]) Zr)) (fI _) ?_;rintro x w tu v r ⟨⟨rfl,-⟩,rfl⟩;exact⟨_,r,h,rfl,rfl,ok⟩
def CO(d:¬h<=n)(b:Unit->PX i k)(c:i)(st:St):aQ (lift (gT n h a)) b c st=b () c st:=by
 unfold aQ lift gT;rw[Y2 d]
def CN(d:h<=n)(b:Unit->PX i k)(c:i)(st:St):aQ (lift (gT n h a)) b c st=.error ⟨5,a⟩:=by
 simp_all[aQ,lift,gT]
def Gv{a:Mar.aU}(e:fD t st.y st.nx=.ok (a,c))(b:Mar.aU->PX i k)(d:i):aQ (lift (ht (aJ t))) b d st=b a d { st with y:=c,nx:=some a }:=by
 grind [aQ,lift,wo]
def Gu(c:fD t st.y st.nx=.error j)(a:Mar.aU->PX i k)(b:i):aQ (lift (ht (aJ t))) a b st=.error j:=by
 simp_all[aQ,lift,zM]
def tX{c:Zb}{a:Bool}{e:St}(f:el (aJ t) c st=.ok (a,e))(b:Bool->PX i k)(d:i):aQ (lift (el (aJ t) c)) b d st=b a d e:=by
 unfold aQ lift;rw[f]
def AS{a:Zb}(b:el (aJ t) a st=.error j)(c:Bool->PX i k)(d:i):aQ (lift (el (aJ t) a)) c d st=.error j:=by
 unfold aQ lift;rw[b]
def Et(a:Za)(rH:Nat)(run:PX i Unit)(b n:Nat):mi a rH run (b+1) (n+1)=aQ (lift (el a Jl)) λc=>if c then eJ ()else rr a rH run b (n+1):=by
 rfl
def Es(b:Za)(rH:Nat)(run:PX i Unit)(a:Nat):mi b rH run (a+1) 0=rr b rH run a 0:=by
 rfl
def aeP(a:vu):∀(k:Nat) (i:List aV) (d:Zc) (h:List Int) (m:Zb) (st:St) (b:ai) (f:cq),Q t f st b->i.length+k=13->i.length<=12->iO b.h i h->
  Sx t (λ_ c g=>∃u,g=f.cf (u.flatMap λn=>gu n.H)/\c.1=i++u/\iO (eU t (k+1) h d m b).2.2.h (i++u) (eU t (k+1) h d m b).1/\(eU t (k+1) h d m b).2.1=m++u.flatMap qv/\(eU t (k+1) h d m b).2.2.G=b.G) (rr (aJ t) 12 (mt (aJ t) a) k i.length (i,d) st) (aj t 4 Jl (eU t (k+1) h d m b).2.2):=by
 intro k;induction k with
 |zero=>omega
 |succ k K=>
  intro i d h m st b f q a5 a6 z;have A:=(OX (t:=t) q.e (k+1) h d m).u (bu (t:=t) 4 Jl _);unfold rr;rcases pk t st with⟨O,c,p⟩|⟨j,p⟩
  .rw[Gv p];have y:=q.d3 p h.length 12;by_cases B:12<=i.length
   .rw[CN B];rw[Y9 (by rw[z.1];omega)]at y;rw[y]at A;exact(q.dX (e:=5) (a:=O.y) Zm).bE A
   .rw[CO B];rw[Y2 (by rw[z.1];omega)]at y;have C:hK t h.length d b=dx t d false b:=Zg;have M:=(OY (t:=t) q.e (k+1) h d m).u (bu (t:=t) 4 Jl _);have p:=aeH (q.gC p) a i d;rw[<-C]at p;refine gB p M ?_;rintro N a7 cM G L ⟨n,a4,rfl,ok⟩;have E:dq b (aj t 4 [59] (hK t h.length d b).2):=by rw[C];exact(pB _ _ _).u (aF _ _ _).al
    rw[Ac q.e];have D:iO (aj t 4 [59] (hK t h.length d b).2).h (i++[n]) (h++[(hK t h.length d b).1.r]):=(z.al E).d8 ok.g0;have I:m++(hK t h.length d b).1.d6++(hK t h.length d b).1.x.text++(hK t h.length d b).1.eZ++[59,32]=m++qv n:=by rw[ok.d6,ok.eZ,ok.x];simp[qv]
    have J:(hK t h.length d b).1.x.text=n.t:=ok.x;have H:=E.G;rw[I,J];generalize aj t 4 [59] (hK t h.length d b).2=o at *
    rw[Et];rcases mf L (kd:=4) (l:=Jl) Zr with⟨a3,v,s⟩|⟨F,v,s,w⟩|⟨F,v,s,w⟩
    .rw[AS v,Y2 (by rw[s.is Zm];simp)];exact(s.nu k _ _ _).bE (bu _ _ _)
    .rw[tX v,Y9 s,sh s];exact⟨_,w,[n],Zu,rfl,D,Zq,H⟩
    .rw[tX v,Y2 Zu];simp only[Ye,if_false]
     have:=K (i++[n]) (d++[n.t]) (h++[(hK t h.length d b).1.r]) (m++qv n) F o G w Zg Zg D;rw[show (i++[n]).length=i.length+1 by simp]at this;refine this.aZ ?_;rintro N a8 P ⟨u,R,S,a0,a1,a2⟩;refine⟨n::u,by grind [wJ],Zu,?_,Zu,Zu⟩;simp_all
  .rw[Gu p];exact((q.bd p).d3 _ _).bE A
def Pe(b:Zb)(a:List aV):Zb:=Jp++b++Jd++a.flatMap qv++JB
def aeO{p:Mar.aU}(G:Q t f st b)(A:f.pd=[])(a2:f.dc=0)(z:fD t st.y st.nx=.ok (p,c))(a4:aM b 2 Jf=true):S t (λd g=>∃J a i,d=.struct J a i/\uX f g d (Pe J i) []) (lC (mu (aJ t) p.y) { st with y:=c,nx:=none }) (jG t (iW b)):=by
 by_cases v:24<=st.an
 .have q:mu (aJ t) p.y { st with y:=c,nx:=none } = .error ⟨5,p.y⟩:=Ci (st:={ st with y:=c,nx:=none }) v _ _;rw[lD q];exact(CG G z v).bE (afI _)
 .have a7:=CF G z a4 v;have a5:mu (aJ t) p.y { st with y:=c,nx:=none } = aN (jA (aJ t)) (λn=>aN (lL (ih (aJ t) 12 (mt (aJ t) ⟨0,0,0,0,0,0⟩)) ([],[])) λc=>aN (cu (aJ t) [59]) λ_=>ret (.struct n.1 n.2 c.1)) { st with y:=c,nx:=none,an:=st.an+1 }:=Cj (st:={ st with y:=c,nx:=none }) v _ _;unfold jG;simp only;generalize aj t 2 Jf (iW b)=m at *
  generalize a3:eU t 14 [] [] (Jp++(bc t 2 m).1.text++Jd) (aj t 4 Jv (bc t 2 m).2)=e;have K:bp (aj t 4 Jv (bc t 2 m).2) e.2.2:=by grind [Ho]
  have q:S t (λd g=>∃n:Zb×Nat,(bc t 2 m).1.text=n.1/\∃i,d=.struct n.1 n.2 i/\iO e.2.2.h i e.1/\e.2.1=Jp++n.1++Jd++i.flatMap qv/\g=(f.aS n.1).cf (i.flatMap λd=>gu d.H)/\aP f.nl n.1=none/\At n.1 n.2 e.2.2.G)
    (mu (aJ t) p.y { st with y:=c,nx:=none }) (aj t 4 [59] (aj t 4 Jl e.2.2)):=by
   rw[a5];refine hp (xX a7 A) ((bu _ _ _).u (K.u ((bu _ _ _).u (bu _ _ _)))) ?_;rintro n C M x ⟨rfl,D,b8,b0,b9⟩;have w:Sx t (λ_ (c:List aV×Zc) g=>g=(f.aS n.1).cf (c.1.flatMap λd=>gu d.H)/\iO e.2.2.h c.1 e.1/\e.2.1=Jp++n.1++Jd++c.1.flatMap qv/\e.2.2.G=(bc t 2 m).2.G) (ih (aJ t) 12 (mt (aJ t) ⟨0,0,0,0,0,0⟩) ([],[]) C) (aj t 4 Jl e.2.2):=by
    unfold ih;refine gB (iY (gs x (kd:=4) (l:=Jv) Zr)) (K.u (bu _ _ _)) ?_;rintro L a9 tu N s ⟨⟨rfl,-⟩,rfl⟩;rw[Es];have:=aeP ⟨0,0,0,0,0,0⟩ 13 [] [] [] (Jp++(bc t 2 m).1.text++Jd) tu (aj t 4 Jv (bc t 2 m).2) _ s Zq Zq ⟨rfl,λH c h z=>by simp⟩;rw[a3]at this;refine this.aZ ?_;rintro a9 b5 O ⟨b4,rfl,E,k,u,F⟩;simp only[YT]at E k;exact⟨by rw[E],Zu,Zu,F⟩
   have a1:S t (λ(c:List aV×Zc) g=>g=(f.aS n.1).cf (c.1.flatMap λd=>gu d.H)/\iO e.2.2.h c.1 e.1/\e.2.1=Jp++n.1++Jd++c.1.flatMap qv/\e.2.2.G=(bc t 2 m).2.G) (lL (ih (aJ t) 12 (mt (aJ t) ⟨0,0,0,0,0,0⟩)) ([],[]) C) (aj t 4 Jl e.2.2):=by
    unfold lL;cases o:ih (aJ t) 12 (mt (aJ t) ⟨0,0,0,0,0,0⟩) ([],[]) C with
    |error j=>rw[o]at w;exact w
    |ok I=>rw[o]at w;exact w
   refine hp a1 (bu _ _ _) ?_;rintro a6 b6 N s ⟨rfl,k,u,F⟩;refine hp (gs s (kd:=4) (l:=[59]) Zr) (fI _) ?_;rintro L b7 O B ⟨rfl,-⟩;exact S.ret B ⟨n,D,a6.1,rfl,k,u,rfl,b0,by grind [Eh]⟩
  cases o:mu (aJ t) p.y { st with y:=c,nx:=none }with
  |error j=>
   rw[o]at q;rw[lD o];exact Er.bE q ((hL _ _).u ((yf _ _ _).u (rY _ _)))
  |ok I=>
   obtain⟨d,cM⟩:=I;rw[o]at q;obtain⟨M,x,n,D,i,rfl,k,u,rfl,P,y⟩:=q;rw[uo o,D,u];have k:iO (aj t 4 [59] (aj t 4 Jl e.2.2)).h i e.1:=k;have y:At n.1 n.2 (aj t 4 [59] (aj t 4 Jl e.2.2)).G:=y;generalize aj t 4 [59] (aj t 4 Jl e.2.2)=b1 at *
   have b2:=k.lt x.hl;have s:=x.row (r:=⟨12,0,0,[],e.1,0,[],0⟩) ⟨Zg,λL b3=>Zg,Zg,Zq⟩ Zq;have B:=s.jN (d:=.struct n.1 n.2 i) (n:=b1.h.length) (by show aP (f.nl++_) _=_;simp_all[uu]) A y rfl ⟨Zq,e.1,rR _ _,k.1,λH c h R a0=>(k.2 H c h R a0).b8 _⟩;have a8:=B.aX (Jp++n.1++Jd++i.flatMap qv++JB);exact⟨_,a8,n.1,n.2,i,rfl,⟨A,a2,rfl,rfl,by simp[cq.cf],rfl,[],wv P,Zq⟩⟩
end
section
variable {g:Int}{p:Int->Bool}
variable {t : Zb} {d j : St} {b σ' m q r : ai} {f i : cq} {h : Mar.ac}
def tR(b:List bt)(of:Int)(p:Int->Bool):Prop:=
 (of=0/\p=dT (-2147483648) 2147483647)\/(of=1/\p=dT 0 4294967295)\/(of=4/\p=dT 0 1)\/(4<of/\∃a,b[of.toNat]?=some (rB a)/\p=nM a)
def Q.kw(a:Q t f d b)(e:0<=g)(h:g<=4):(hY b g).w=g:=by
 obtain⟨i,c⟩:=a.cV;unfold hY;rw[c];have:g=0\/g=1\/g=2\/g=3\/g=4:=Zm;rcases this with rfl|rfl|rfl|rfl|rfl<;>rfl
theorem tp{a:bt}(c:b.h[g.toNat]?=some a):hY b g=a:=by
 grind [hY]
def ac7(j:Q t f d b){i:Ty}(a:dA b.h i g)(k:0<=g):(hY b g).w≠5:=by
 cases i with
 |plain r=>have p:=a.1;have q:=a.2;rw[j.kw k Zm];omega
 |named u o=>obtain⟨_,s,c,l,_⟩:=a;rw[tp c,l];omega
 |opaq e h=>rw[tp a.2];cases h<;>simp[fV]
 |str e h=>rw[tp a.2];simp[fV]
 |arr n e h=>obtain⟨_,m,c,_⟩:=a;grind [tp,dd]
 |opt n=>obtain⟨_,m,c,_⟩:=a;rw[tp c];simp[dd]
 |void=>have:g = -1:=a;omega
def Bd.m1(c:Bd h b):Er h (cz t b).2:=by
 unfold cz;rw[Y2 (λa=>by grind [k]),Y2 (λa=>by grind [k])];exact c.gK
def aeN(j:Q t f d b)(a4:f.pd=[]):Sw t (λw i=>i=f/\lY (cz t b).2.h f.nl w.1 (cz t b).1.1/\(cz t b).1.2=lN w.1/\tR (cz t b).2.h (cz t b).1.1 w.2) (qK (aJ t) d) (cz t b).2:=by
 unfold qK aN;rcases pk t d with⟨a,p,s⟩|⟨h,s⟩
 .rw[rJ s];have M:=j.wd;rw[s]at M;obtain⟨⟨S,a0,b1,a1,b2⟩,a3⟩:=M;have B:=j.O s;simp only;unfold lM cz;by_cases a5:a.w=1
  .rw[Y9 (c:=((a.w:Int)==1)=true) Zu,Y9 (c:=b.s.e=0/\b.s.x.w=1) ⟨j.e,Zm⟩];unfold aN nJ;have b4:d.G=f.nl:=by rw[j.nl,a4];simp
   rw[show aP ({ d with y:=p,nx:=none }:St).G a.text=aP f.nl a.text by simp_all];rw[a0];have q:∀{o:Option (Option aD)},(∀k m D,o≠some (some (.enum k m D)))->(bY b a.text<0\/(dw b).a1≠1\/(hY b (dw b).n).w≠5)->
     Sw t (λ(w:Ty×(Int->Bool)) i=>i=f/\lY (if bY b a.text<0\/(dw b).a1≠1\/(hY b (dw b).n).w≠5 then (((0:Int),([]:Zb)),ch 7 ↑b.s.x.y b)else (((dw b).n,a.text),bq t b)).2.h f.nl w.1 (if bY b a.text<0\/(dw b).a1≠1\/(hY b (dw b).n).w≠5 then (((0:Int),([]:Zb)),ch 7 ↑b.s.x.y b)else (((dw b).n,a.text),bq t b)).1.1/\(if bY b a.text<0\/(dw b).a1≠1\/(hY b (dw b).n).w≠5 then (((0:Int),([]:Zb)),ch 7 ↑b.s.x.y b)else (((dw b).n,a.text),bq t b)).1.2=lN w.1/\tR (if bY b a.text<0\/(dw b).a1≠1\/(hY b (dw b).n).w≠5 then (((0:Int),([]:Zb)),ch 7 ↑b.s.x.y b)else (((dw b).n,a.text),bq t b)).2.h (if bY b a.text<0\/(dw b).a1≠1\/(hY b (dw b).n).w≠5 then (((0:Int),([]:Zb)),ch 7 ↑b.s.x.y b)else (((dw b).n,a.text),bq t b)).1.1 w.2)
     (.error ⟨7,a.y⟩) (if bY b a.text<0\/(dw b).a1≠1\/(hY b (dw b).n).w≠5 then (((0:Int),([]:Zb)),ch 7 ↑b.s.x.y b)else (((dw b).n,a.text),bq t b)).2:=λ_ a2=>by
    rw[Y9 a2,a1];exact Y8 (j.dX (e:=7) (a:=a.y) Zm)
   rcases j.hk a.text with⟨E,N⟩|⟨g,o,F,E,N,b7,b8,a6⟩
   .rw[E];exact q (o:=none) Zq (Y8 N)
   .have C:dw b=F:=by
     grind [dw]
    rw[E];have A:=a6.2;cases o with
    |none=>exact q (o:=some none) Zq (Ya (Y8 Zu))
    |some r=>
     cases r with
     |const k m v=>exact q (o:=some (some (.const k m v))) Zq (Ya (Y8 Zu))
     |prog k m c r=>exact q (o:=some (some (.prog k m c r))) Zq (Ya (Y8 Zu))
     |typedef r=>exact q (o:=some (some (.typedef r))) Zq (Ya (Ya (by rw[C];exact ac7 j A.2.2.1 A.2.2.2)))
     |struct k m c=>
      obtain⟨_,_,I,a7,u,_⟩:=A;exact q (o:=some (some (.struct k m c))) Zq (Ya (Ya (by rw[C,tp u];simp)))
     |union k m c r=>
      obtain⟨_,_,I,of,a7,a9,u,_⟩:=A;exact q (o:=some (some (.union k m c r))) Zq (Ya (Ya (by rw[C,tp u];simp)))
     |enum k m D=>
      obtain⟨b6,_,I,u⟩:=A;have b3:(hY b F.n).w=5:=by rw[tp u]
      rw[C,Y2 Zm];have K:4<F.n:=by
       rcases Int.lt_or_le 4 F.n with L|L
       .omega
       .have:=j.kw I L;omega
      exact⟨f,B,rfl,Ya ⟨_,_,k,m,D,rfl,K,E,u⟩,rfl,Ya (Ya (Ya ⟨K,D,u,rfl⟩))⟩
  .rw[Y2 (c:=((a.w:Int)==1)=true) Zg,Y2 (c:=b.s.e=0/\b.s.x.w=1) (λe=>a5 Zm)];have J:∀G,Mar.ee G=true->a.text=G->b.s.x.w=2/\b.s.x.text=G:=λG b5 e=>⟨by rw[S];exact a3.hA Zu,Zu⟩;by_cases O:a.text=Jk
   .have e:=J _ Zr O;rw[Y9 (c:=(a.text==Jk)=true) Zu,Y9 (c:=b.s.e=0/\_) ⟨j.e,e.1,Y8 e.2⟩,Y9 e.2];exact⟨f,B,rfl,Y8 ⟨0,rfl,Y8 rfl,rfl⟩,rfl,Y8 ⟨rfl,rfl⟩⟩
   .rw[Y2 (c:=(a.text==Jk)=true) Zu];by_cases P:a.text=Jb
    .have e:=J _ Zr P;rw[Y9 (c:=(a.text==Jb)=true) Zu,Y9 (c:=b.s.e=0/\_) ⟨j.e,e.1,Ya (Y8 e.2)⟩,Y2 Zu,Y2 Zu];unfold aN;rcases mf B (kd:=2) (l:=Jk) Zr with⟨b0,y,z⟩|⟨a8,y,z,H⟩|⟨a8,y,z,H⟩
     .rw[y,Y2 (by rw[z.is Zm];simp)];exact Ya z
     .rw[y,Y9 z];exact⟨f,H,rfl,Y8 ⟨1,rfl,Ya (Y8 rfl),rfl⟩,rfl,Ya (Y8 ⟨rfl,rfl⟩)⟩
     .rw[y,Y2 Zu];exact⟨f,H,rfl,Y8 ⟨1,rfl,Ya (Y8 rfl),rfl⟩,rfl,Ya (Y8 ⟨rfl,rfl⟩)⟩
    .rw[Y2 (c:=(a.text==Jb)=true) Zu];by_cases R:a.text=Js
     .have e:=J _ Zr R;rw[Y9 (c:=(a.text==Js)=true) Zu,Y9 (c:=b.s.e=0/\_) ⟨j.e,e.1,Ya (Ya e.2)⟩,Y2 Zu,Y9 e.2];exact⟨f,B,rfl,Y8 ⟨4,rfl,Ya (Ya rfl),rfl⟩,rfl,Ya (Ya (Y8 ⟨rfl,rfl⟩))⟩
     .rw[Y2 (c:=(a.text==Js)=true) Zu,Y2 (c:=b.s.e=0/\_) (λe=>by
       simp_all)]
      exact Y8 (j.gk s)
 .rw[tg s];exact Y8 (j.bd s).m1
def ahb(e:Za){c b:Int}(l:∀f,p f=true->dT c b f=true)(d:St):jZ e p d=match jZ e (dT c b) d with
  |.ok (a,j)=>if p a.1 then .ok (a,j)else .error ⟨8,a.2⟩
  |.error h=>.error h:=by
 unfold jZ aN;cases next e d with
 |error h=>rfl
 |ok a=>
  simp only;cases lE a.1 a.2 with
  |error h=>rfl
  |ok g=>
   simp only;by_cases i:p g.1=true
   .simp_all[ret]
   .rw[Y2 i];by_cases k:dT c b g.1=true;all_goals simp_all[ret,hZ]
abbrev zd(of:Int)(v:(Int×Int)×ai):ai:=if v.2.s.e=0/\4<of/\(hY v.2 of).aI.contains v.1.1=false then ch 8 v.1.2 v.2 else v.2
abbrev ze(a:List Int)(v:(Int×Int)×ai)(b:ai):ai:=if b.s.e=0/\a.contains v.1.1=true then ch 6 v.1.2 b else b
def aey(w:Q t f d b){of:Int}(K:tR b.h of p)(q:List (Int×Int))(j:List Int)(B:q.map (·.1)=j):Sx t (λa r i=>i=f/\a=(bU t (gQ of) (gP of) b).1.1/\r.map (·.1)=j++[a]) (ir (aJ t) p q d) (ze j (bU t (gQ of) (gP of) b) (zd of (bU t (gQ of) (gP of) b))):=by
 have u:of<=4->p=dT (gQ of) (gP of)->Sx t (λa r i=>i=f/\a=(bU t (gQ of) (gP of) b).1.1/\r.map (·.1)=j++[a]) (ir (aJ t) p q d) (ze j (bU t (gQ of) (gP of) b) (zd of (bU t (gQ of) (gP of) b))):=by
  intro z g;have e:=CV w q j B (gQ of) (gP of);rw[g];unfold ze zd;rw[Y2 (c:=(bU t (gQ of) (gP of) b).2.s.e=0/\4<of/\_) (λk=>by omega)];exact e.aZ λa r i x=>⟨x.1,x.2.1,x.2.2.1⟩
 rcases K with⟨rfl,g⟩|⟨rfl,g⟩|⟨rfl,g⟩|⟨z,l,I,rfl⟩
 .exact u Zm g
 .exact u Zm g
 .exact u Zm g
 .have H:gQ of = -2147483648:=by unfold gQ;omega
  have F:gP of=2147483647:=by unfold gP;omega
  rw[H,F];have G:∀a,nM l a=true->dT (-2147483648) 2147483647 a=true:=λa O=>by
   have E:=w.dK _ (rB l) I;refine E.2.2.2 rfl a ?_;grind [nM]
  have e:=zX w (-2147483648) 2147483647;have P:(bU t (-2147483648) 2147483647 b).2.h=b.h:=(iJ _ _ _).h;have J:hY (bU t (-2147483648) 2147483647 b).2 of=rB l:=tp Zu;unfold ir aQ lift;rw[ahb _ G];generalize bU t (-2147483648) 2147483647 b=v at *
  cases A:jZ (aJ t) (dT (-2147483648) 2147483647) d with
  |error h=>
   rw[A]at e;have e:Er h v.2:=e;simp only;refine e.bE ?_;exact(oO _ _ _ _).u (oO _ _ _ _)
  |ok L=>
   obtain⟨⟨a,n⟩,cM⟩:=L;rw[A]at e;obtain⟨M,m,rfl,y,C⟩:=e;simp only at y C ⊢;have D:(hY v.2 of).aI.contains a=nM l a:=by
    rw[J];rw[Bool.eq_iff_iff];simp[nM]
   unfold ze zd;rw[y,D];cases N:nM l a with
   |false=>
    simp only[Ye,if_false]
    rw[Y9 (c:=v.2.s.e=0/\4<of/\True) ⟨m.e,z,trivial⟩];have:=m.dX (e:=8) (a:=n) Zm;exact this.bE (oO _ _ _ _)
   |true=>
    simp only[if_true]
    rw[Y2 (c:=v.2.s.e=0/\4<of/\_) (λk=>by grind)];unfold pK ox;dsimp only;rw[B];by_cases o:j.contains a=true
    .rw[Y9 o,Y9 ⟨m.e,o⟩];exact m.dX (e:=6) (a:=n) Zm
    .rw[Y2 o,Y2 (λk=>o k.2)];exact⟨_,m,rfl,rfl,Zg⟩
def sK(a:Int):Zb:=JA++dk a++[58,32]
abbrev sN(t:Zb)(of:Int)(a:Nat)(b:ai):(Int×Int)×ai:=bU t (gQ of) (gP of) (aj t 2 Jg (aT a 12 b))
abbrev ui(t:Zb)(of:Int)(a:List Int)(b:ai):ai:=aj t 4 [58] (ze a (sN t of a.length b) (zd of (sN t of a.length b)))
def EE(f:b.s.e=0)(of:Int)(d:Nat)(a:List Int)(c:Zb):di t of (d+1) a c b =
  if aM (ui t of a b) 2 Jg=true then di t of d (a++[(sN t of a.length b).1.1]) (c++JA++dk (sN t of a.length b).1.1++[58,32]) (ui t of a b)
  else ((a++[(sN t of a.length b).1.1],c++JA++dk (sN t of a.length b).1.1++[58,32]),ui t of a b):=by
 conv=>lhs;unfold di
 grind
def afA(c:b.s.e=0)(of:Int)(d:Nat)(a:List Int)(f:Zb):bp (ui t of a b) (di t of (d+1) a f b).2:=by
 rw[EE c];grind [sL,fI]
def Hk(of:Int)(a:List Int)(b:ai):bp (sN t of a.length b).2 (ui t of a b):=(oO _ _ _ _).u ((oO _ _ _ _).u (bu _ _ _))
def ae1(of:Int)(a:List Int)(b:ai):Sm b (ui t of a b):=(dN ..).u ((aF ..).u ((iJ ..).u ((oa ..).u ((oa ..).u (aF ..)))))
def tR.of{of:Int}(a:tR b.h of p)(c:Sm b σ'):tR σ'.h of p:=by rw[c.h];exact a
def aez{of:Int}:∀(k n:Nat) (y:List Int) (l:List (Int×Int)) (c:List Int) (o:Zb) (d:St) (b:ai) (f:cq),Q t f d b->tR b.h of p->l.map (·.1)=c->(c.length<12\/aM b 2 Jg=true)->c.length<=12->13<=c.length+k->13<=c.length+n->
  Sy t (λa0 a9 i=>i=f/\∃m,a0=y++m/\m≠[]/\a9.map (·.1)=c++m/\(di t of k c o b).1.1=c++m/\(c++m).length<=12/\(di t of k c o b).1.2=o++m.flatMap sK) (ky (aJ t) p n y l d) (di t of k c o b).2:=by
 intro k;induction k with
 |zero=>omega
 |succ k a8=>
  intro n y l c o d b f j K a3 b7 c1 b8 b9;obtain⟨n,rfl⟩:∃e,n=e+1:=⟨n-1,Zm⟩;have c0:l.length=c.length:=Zg;have x:=afA (t:=t) j.e of k c o;unfold ky;rcases pk t d with⟨z,b0,g⟩|⟨h,g⟩
  .have s:=j.d3 g c.length 12;have H:=j.is g (kd:=2) (l:=Jg) Zr;by_cases v:aM b 2 Jg=true
   .have r:∀(e:Mar.aU->PX (List (Int×Int)) (List Int)),aQ (lift (cu (aJ t) Jg)) e l d=e z l { d with y:=b0,nx:=none }:=λe=>by
     unfold aQ lift cu aN;rw[rJ g];rw[H]at v;simp only;rw[Y9 v];rfl
    rw[r];by_cases a1:12<=c.length
    .rw[CN Zm];rw[Y9 Zm]at s;have this:Er ⟨5,z.y⟩ (aT c.length 12 b):=by rw[s];exact j.dX (e:=5) (a:=z.y) Zm
     exact Y8 (this.bE ((bu _ _ _).u ((jX _ _ _).u ((Hk of c b).u x))))
    .rw[CO Zm];rw[Y2 Zm]at s;have a2:sN t of c.length b=bU t (gQ of) (gP of) (bq t b):=by unfold sN;rw[s,sh v]
     have J:=aey (j.O g) (p:=p) (of:=of) K l c a3;rw[<-a2]at J;refine DY J ((bu _ _ _).u x) ?_;rintro w c2 cM b3 b1 ⟨rfl,a4,I⟩;refine DY (iY (gs b1 (kd:=4) (l:=[58]) Zr)) x ?_;rintro c3 B tu E C ⟨⟨rfl,-⟩,rfl⟩;have a6:=ae1 (t:=t) of c b;have a5:=K.of a6;rw[EE j.e,<-a4];have C:Q t E tu (ui t of c b):=C;generalize ui t of c b=D at *
     rcases CS C (kd:=2) (l:=Jg) Zr with⟨b6,A,q⟩|⟨L,A,q⟩
     .unfold aQ lift;rw[A,Y2 (by rw[q.is Zm];simp)];exact Ya q
     .have F:∀(e:Bool->PX (List (Int×Int)) (List Int)),aQ (lift (jD (aJ t) Jg)) e B tu=e (aM D 2 Jg) B L:=λe=>by
       unfold aQ lift;rw[A]
      rw[F];by_cases u:aM D 2 Jg=true
      .rw[Y9 u,Y9 u];have:=a8 n (y++[w]) B (c++[w]) (o++JA++dk w++[58,32]) L D E q a5 I (Ya u) Zx Zx Zx;unfold Sy at this ⊢;split at this
       .obtain⟨b4,b2,rfl,m,M,b5,N,O,P,R⟩:=this;exact⟨_,b2,rfl,w::m,by rw[M];simp,Zq,by rw[N];simp,by rw[O];simp,by simpa using P,by rw[R];simp[sK]⟩
       omega
      .rw[Y2 u,Y2 u];exact⟨_,q,rfl,[w],rfl,Zq,I,rfl,Zx,by simp[sK]⟩
   .have a1:c.length<12:=Zg;rw[Y2 Zm]at s;have r:∀(e:Mar.aU->PX (List (Int×Int)) (List Int)),aQ (lift (cu (aJ t) Jg)) e l d=.error ⟨3,z.y⟩:=λe=>by
     unfold aQ lift cu aN;rw[rJ g];rw[H]at v;simp only;rw[Y2 v];rfl
    rw[r];have G:=j.gk g;have a7:aj t 2 Jg (aT c.length 12 b)=eu b:=by grind [PR]
    rw[<-a7]at G;exact Y8 (G.bE ((jX _ _ _).u ((Hk of c b).u x)))
  .have r:∀(e:Mar.aU->PX (List (Int×Int)) (List Int)),aQ (lift (cu (aJ t) Jg)) e l d=.error h:=λe=>by
    unfold aQ lift cu aN;rw[tg g]
   rw[r];exact Y8 (((j.bd g).d3 c.length 12).bE ((bu _ _ _).u ((jX _ _ _).u ((Hk of c b).u x))))
def sH(a:aV):Zb:=match a.H with
 |.void=>[118,111,105,100,59,32]
 |_=>qv a
def Ss{a:aV}{d:List bt}(b:dA d a.H g)(e:0<=g):sH a=qv a:=by
 unfold sH;split
 .rename_i c;rw[c]at b;have:g = -1:=b;omega
 rfl
theorem Bd.cg(a:Bd h b)(c:Zc):Er h (dB t c b).2:=by
 unfold dB;rw[Y2 (by rw[a.is Zm];simp)];exact(a.ie c false).bE (bu _ _ _)
def Ox(u:Q t f d b)(a:Zc):Sx t (λm l i=>i=f.cf (gu m.H)/\dA (dB t a b).2.h m.H (dB t a b).1.1/\(dB t a b).1.2.1=sH m/\(dB t a b).1.2.2=l) (lw (aJ t) (cQ 0 0) a d) (dB t a b).2:=by
 unfold lw dB;rcases mf u (kd:=2) (l:=Jt) Zr with⟨s,g,j⟩|⟨p,g,j,n⟩|⟨p,g,j,n⟩
 .rw[Y2 (c:=aM b 2 Jt=true) (by rw[j.is Zm];simp)];have k:∀(e:aV->PX (Zc) aV),aQ (aQ (lift (el (aJ t) Jt)) (sG (aJ t) (cQ 0 0))) e a d=.error s:=λe=>by
   unfold aQ lift;rw[g]
  rw[k];exact(j.ie a false).bE (bu _ _ _)
 .rw[Y9 (c:=aM b 2 Jt=true) j];have k:∀(e:aV->PX (Zc) aV),aQ (aQ (lift (el (aJ t) Jt)) (sG (aJ t) (cQ 0 0))) e a d=e ⟨[],0,.void⟩ a p:=λe=>by
   unfold aQ lift;rw[g];rfl
  rw[k];refine gB (iY (gs n (kd:=4) (l:=[59]) Zr)) (fI _) ?_;rintro z l CZ r o ⟨⟨rfl,-⟩,rfl⟩;exact Sx.ret o ⟨(pR _).symm,rfl,rfl,rfl⟩
 .rw[Y2 (c:=aM b 2 Jt=true) Zu];simp only;have w:=Hb (G:=λq x l i=>i=f.cf q/\l=a++[x.1]) (λq=>Ks a 0 0) n;generalize dx t a false b=A at *
  have k:∀(e:aV->PX (Zc) aV),aQ (aQ (lift (el (aJ t) Jt)) (sG (aJ t) (cQ 0 0))) e a d=aQ (il (aJ t) (cQ 0 0)) e a p:=λe=>by
   unfold aQ lift;rw[g];rfl
  rw[k];refine DZ w (bu _ _ _) (λh v=>v.g7 Zm) ?_;rintro m l CZ r o ⟨⟨rfl,rfl⟩,ok⟩;refine gB (iY (gs o (kd:=4) (l:=[59]) Zr)) (fI _) ?_;rintro z C st4 B y ⟨⟨rfl,-⟩,rfl⟩;refine Sx.ret y ⟨rfl,ok.g0,?_,by rw[ok.x]⟩;rw[Ss ok.g0 ok.aa,ok.d6,ok.eZ,ok.x];rfl
end
section
variable {t : Zb} {b h : St} {σ i j k m : ai} {c g : cq} {f : Mar.ac}
theorem Sy.aZ{f e:Type}{R a:e->f->cq->Prop}{c:Except Mar.ac (e×f×St)}(h:Sy t R c σ)(i:∀b d g,R b d g->a b d g):Sy t a c σ:=by
 unfold Sy at *
 grind
def iO.mO{b:List bt}{d:List aV}{e:List Int}(i:iO b d e){c:aV}{f:Int}(h:dA b c.H f)(a:Nat):iO b (d++List.replicate a c) (e++List.replicate a f):=by
 induction a with
 |zero=>simp_all
 |succ a g=>
  have:=g.d8 h;grind [List.replicate_succ']
def vz(a:List Int×aV):Zb:=(if a.1=[]then JI else a.1.flatMap sK)++sH a.2
def fZ(t:Zb)(u:(List Int×List Int×Zc×Zb)×ai):(Int×Zb)×ai:=jw t u.1.2.2.1 u.2
theorem OZ(a:(List Int×List Int×Zc×Zb)×ai):bp a.2 (fZ t a).2:=ON _ _
theorem wC(g:σ.s.e=0)(of:Int)(f:Nat)(a d:List Int)(b:Zc)(c:Zb):fo t of (f+1) a d b c σ =
  if aM (dB t b (di t of (14-a.length) a [] σ).2).2 2 Jg=true then fo t of f (di t of (14-a.length) a [] σ).1.1 (pC (di t of (14-a.length) a [] σ).1.1.length (dB t b (di t of (14-a.length) a [] σ).2).1.1 d) (dB t b (di t of (14-a.length) a [] σ).2).1.2.2 (c++(di t of (14-a.length) a [] σ).1.2++(dB t b (di t of (14-a.length) a [] σ).2).1.2.1) (dB t b (di t of (14-a.length) a [] σ).2).2
  else (((di t of (14-a.length) a [] σ).1.1,pC (di t of (14-a.length) a [] σ).1.1.length (dB t b (di t of (14-a.length) a [] σ).2).1.1 d,(dB t b (di t of (14-a.length) a [] σ).2).1.2.2,c++(di t of (14-a.length) a [] σ).1.2++(dB t b (di t of (14-a.length) a [] σ).2).1.2.1),(dB t b (di t of (14-a.length) a [] σ).2).2):=by
 simp_all[fo]
def afL(g:σ.s.e=0)(of:Int)(c:Nat)(a f:List Int)(b:Zc)(d:Zb):bp (dB t b (di t of (14-a.length) a [] σ).2).2 (fo t of (c+1) a f b d σ).2:=by
 grind [wC,Hp,fI]
def VI(b:List Int)(c:List Int)(d:Int)(a:List Int)(e:a.length=b.length):pC (b++c).length d a=a++List.replicate c.length d:=by
 grind [pC]
theorem Cr(b:List (List Int×aV))(a:List Int)(c:aV):(dh (b++[(a,c)])).map (·.1)=(dh b).map (·.1)++a/\(dh (b++[(a,c)])).map (·.2)=(dh b).map (·.2)++List.replicate a.length c:=by
 simp_all[dh,Function.comp_def,List.map_const']
theorem EX{c:List (List Int×aV)}(d:jv c=none)(a:List Int)(b:aV):jv (c++[(a,b)])=if a=[]then some b else none:=by
 grind [jv]
theorem KU{b:List (List Int×aV)}(c:jv b=none):∀a∈b,a.1≠[]:=by
 intro a d e;unfold jv at c;have:b.find? (λa=>a.1.isEmpty)=none:=by simpa using c
 grind
structure DB(arms:List (List Int×aV))(u:(List Int×List Int×Zc×Zb)×ai)(e:(Int×Zb)×ai)(i:Zb)(new:List (List Int×aV)):Prop where
 aI:(dh arms).map (·.1)=u.1.1
 aB:iO e.2.h ((dh arms).map (·.2)) u.1.2.1
 dR:match jv arms with
  |none=>e.1.1 = -2
  |some d=>dA e.2.h d.H e.1.1
 i:u.1.2.2.2++e.1.2=i++new.flatMap vz
 kr:∀a∈arms,a.1=[]->jv arms=some a.2
def aew{u:(List Int×List Int×Zc×Zb)×ai}(w:Q t c b u.2)(d:List (List Int×aV))(l:List (Int×Int))(v:Zb)(y:(dh d).map (·.1)=u.1.1)(q:jv d=none)(r:iO u.2.h ((dh d).map (·.2)) u.1.2.1)(s:List (List Int×aV))(M:u.1.2.2.2=v++s.flatMap vz):Sy t (λm _ g=>∃k,g=c.cf (k.flatMap λi=>gu i.2.H)/\m=d++k/\DB m u (fZ t u) v (s++k)) (pu (aJ t) d (u.1.2.2.1,l) b) (fZ t u).2:=by
 unfold pu fZ jw;rcases mf w (kd:=2) (l:=JL) Zr with⟨K,e,h⟩|⟨D,e,h,j⟩|⟨D,e,h,j⟩
 .rw[AS e,Y2 (by rw[h.is Zm];simp)];exact Ya h
 .rw[tX e,Y9 h];simp only[if_true]
  refine wT (gB (iY (gs j (kd:=4) (l:=[58]) Zr)) (De _ _) ?_);rintro P O CZ F B ⟨⟨rfl,-⟩,rfl⟩;have a:=Ox B u.1.2.2.1;have z:dq u.2 (dB t u.1.2.2.1 (aj t 4 [58] (bq t u.2))).2:=((gm _).u (aF _ _ _)).al.u (rC _ _);generalize dB t u.1.2.2.1 (aj t 4 [58] (bq t u.2))=E at *
  unfold aQ kG;simp only;cases o:lw (aJ t) (cQ 0 0) u.1.2.2.1 CZ with
  |error f=>rw[o]at a;exact a
  |ok A=>
   obtain⟨n,N,st4⟩:=A;rw[o]at a;obtain⟨G,C,L,H,I,J⟩:=a;refine⟨_,C,[([],n)],Zu,rfl,?_⟩;have x:=Cr d [] n;refine⟨Zu,by rw[x.2];simpa using r.al z,?_,?_,?_⟩
   .grind [EX]
   .grind [vz]
   .intro i a p;rw[EX q,Y9 rfl];grind [KU]
 .rw[tX e,Y2 Zu];simp only[Ye,if_false]
  exact⟨_,j,[],(pR _).symm,Zq,⟨y,r,Zg,Zu,λi a p=>absurd p (KU q i a)⟩⟩
def Qw{u:(List Int×List Int×Zc×Zb)×ai}(a:Bd f u.2):Bd f (fZ t u).2:=by
 unfold fZ jw;rw[Y2 (by rw[a.is Zm];simp)];exact a
def aex{of:Int}{p:Int->Bool}:∀(n r:Nat) (a:List (List Int×aV)) (m:Zc) (l:List (Int×Int)) (j:List Int) (h:Zb) (b:St) (σ:ai) (c:cq),Q t c b σ->tR σ.h of p->l.map (·.1)=(dh a).map (·.1)->(((dh a).map (·.1)).length<12\/aM σ 2 Jg=true)->((dh a).map (·.1)).length<=12->13<=((dh a).map (·.1)).length+n->13<=((dh a).map (·.1)).length+r->jv a=none->iO σ.h ((dh a).map (·.2)) j->
  Sy t (λE _ g=>∃y,g=c.cf (y.flatMap λa4=>gu a4.2.H)/\E=a++y/\DB E (fo t of n ((dh a).map (·.1)) j m h σ) (fZ t (fo t of n ((dh a).map (·.1)) j m h σ)) h y/\dq σ (fZ t (fo t of n ((dh a).map (·.1)) j m h σ)).2) (jO (aJ t) p r a (m,l) b) (fZ t (fo t of n ((dh a).map (·.1)) j m h σ)).2:=by
 intro n;induction n with
 |zero=>omega
 |succ n c0=>
  intro r a m l j h b σ c G a1 b5 b4 b7 d5 d6 b3 S;obtain⟨r,rfl⟩:∃c1,r=c1+1:=⟨r-1,Zm⟩;have D:=(afL (t:=t) G.e of n ((dh a).map (·.1)) j m h).u (OZ (t:=t) _);have o:=aez (t:=t) (of:=of) (p:=p) (14-((dh a).map (·.1)).length) 13 [] l ((dh a).map (·.1)) [] b σ c G a1 b5 b4 b7 Zm Zm;have b9:=(sL (t:=t) of (14-((dh a).map (·.1)).length) ((dh a).map (·.1)) [] σ).1;rw[wC G.e]at D ⊢;have R:=S.1;rw[YU,<-YU (f:=λc6:Int×aV=>c6.1)]at R;generalize b8:(dh a).map (·.1)=s at *
  generalize di t of (14-s.length) s [] σ=I at *
  unfold jO aQ oE;simp only;have b2:cases (aJ t) p l b=ky (aJ t) p 13 [] l b:=rfl;rw[b2];cases M:ky (aJ t) p 13 [] l b with
  |error f=>
   rw[M]at o;rcases o with o|o
   .exact Y8 (o.bE ((De _ _).u D))
   .exact Y8 ((o.cg m).bE D)
  |ok H=>
   obtain⟨d,a2,cM⟩:=H;rw[M]at o;obtain⟨c7,c3,rfl,d9,J,K,c9,a8,d0,L⟩:=o;simp only[YT]at J L;subst J;have z:=Ox c3 m;have B:dq σ (dB t m I.2).2:=b9.al.u (rC _ _);generalize dB t m I.2=k at *
   simp only;unfold kG;simp only;cases N:lw (aJ t) (cQ 0 0) m cM with
   |error f=>rw[N]at z;exact Y8 (Er.bE z D)
   |ok H=>
    obtain⟨i,C,tu⟩:=H;rw[N]at z;obtain⟨a3,c4,d4,a5,a6,a7⟩:=z;simp only;rw[a8,VI s d k.1.1 j R,a6,a7,L];have A:=Cr a d i;have a0:iO k.2.h ((dh (a++[(d,i)])).map (·.2)) (j++List.replicate d.length k.1.1):=by
     rw[A.2];exact(S.al B).mO a5 _
    have O:jv (a++[(d,i)])=none:=by rw[EX b3,Y2 K]
    rw[b8]at A;have P:h++d.flatMap sK++sH i=h++[(d,i)].flatMap vz:=by simp[vz,K]
    unfold lift;rcases CS c4 (kd:=2) (l:=Jg) Zr with⟨d3,F,v⟩|⟨c5,F,v⟩
    .rw[F,Y2 (by rw[v.is Zm];simp)];exact Ya (Qw (u:=((s++d,j++List.replicate d.length k.1.1,C,h++d.flatMap sK++sH i),k.2)) v)
    .rw[F];simp only;by_cases x:aM k.2 2 Jg=true
     .rw[Y9 x,Y9 x,<-A.1];have:=c0 r (a++[(d,i)]) C a2 (j++List.replicate d.length k.1.1) (h++d.flatMap sK++sH i) c5 k.2 a3 v (by
       obtain⟨d8,b6,-⟩:=B.h;rw[b6];rcases a1 with q|q|q|⟨q,c2,b0,b1⟩
       .exact Y8 q
       .exact Ya (Y8 q)
       .exact Ya (Ya (Y8 q))
       .exact Ya (Ya (Ya ⟨q,c2,rF b0,b1⟩))) Zg (Ya x) Zg (by grind [List.length_pos_iff]) (by grind [List.length_pos_iff]) O a0
      refine this.aZ ?_;rintro E e0 c8 ⟨y,d1,d2,w,a9⟩;refine⟨(d,i)::y,by grind [wJ],Zg,⟨w.aI,w.aB,w.dR,?_,w.kr⟩,B.u a9⟩;rw[w.i,P];simp
     .rw[Y2 x,Y2 x];have:=aew (t:=t) (u:=((s++d,j++List.replicate d.length k.1.1,C,h++d.flatMap sK++sH i),k.2)) v (a++[(d,i)]) a2 h A.1 O a0 [(d,i)] P;have d7:dq σ (fZ t ((s++d,j++List.replicate d.length k.1.1,C,h++d.flatMap sK++sH i),k.2)).2:=B.u (zh _ _);refine this.aZ ?_;grind [wJ]
end
section
variable {t : Zb} {st g : St} {a f h i j : ai} {b c : cq} {e : Mar.ac}
def abQ(a:ai):cK t [] false a=dQ t a:=by
 unfold cK;simp
def lY.al{b c d of}(e:lY a.h b d of)(h:dq a f)(i:Kp b c):lY f.h c d of:=by
 obtain⟨j,g,-⟩:=h.h;rw[g];exact e.b8 j i
theorem lY.lt{a e f of}(b:lY a e f of)(i:5<=a.length):of<a.length:=by
 rcases b with⟨j,-,c,d⟩|⟨l,g,m,h,k,-,c,-,d⟩;all_goals grind
def PE(c:Zb)(a:aV)(b:List (List Int×aV)):Zb:=Jr++c++Ji++lN a.H++[32]++a.t++Jx++b.flatMap vz++JB
def aee{h k:Type}{i}{d:PX h k}{g}(b:Sx t i (d g st) a):S t (λf c=>i f.1 f.2 c) (kH d g st) a:=by
 unfold kH;cases j:d g st with
 |ok f=>rw[j]at b;exact b
 |error e=>rw[j]at b;exact b
def aef{h k:Type}{i}{d:PX h k}{g}(b:Sy t i (d g st) a):Sw t (λf c=>i f.1 f.2 c) (kH d g st) a:=by
 unfold kH;cases j:d g st with
 |ok f=>rw[j]at b;exact b
 |error e=>rw[j]at b;exact b
def aeR{o:Mar.aU}{p:Nat}(R:Q t b st a)(y:b.pd=[])(b8:b.dc=0)(J:fD t st.y st.nx=.ok (o,p))(b9:aM a 2 Jh=true):S t (λd c=>∃a8 A j h,d=.union a8 A j h/\uX b c d (PE a8 j h) []) (lC (iX (aJ t) o.y) { st with y:=p,nx:=none }) (ji t (iW a)):=by
 by_cases w:24<=st.an
 .have q:iX (aJ t) o.y { st with y:=p,nx:=none } = .error ⟨5,o.y⟩:=Ci (st:={ st with y:=p,nx:=none }) w _ _;rw[lD q];exact(CG R J w).bE (afK _)
 .have c3:=CF R J b9 w;have c0:iX (aJ t) o.y { st with y:=p,nx:=none } = aN (jA (aJ t)) (qP (aJ t)) { st with y:=p,nx:=none,an:=st.an+1 }:=Cj (st:={ st with y:=p,nx:=none }) w _ _;unfold ji;simp only;generalize aj t 2 Jh (iW a)=d8 at *
  generalize c1:bc t 2 d8=m;generalize a1:cz t (aj t 4 [40] (aj t 2 Jn m.2))=i;generalize G:dQ t i.2=k;generalize b7:fo t i.1.1 14 [] [] [k.1.text] (Jr++m.1.text++Ji++i.1.2++[32]++k.1.text++Jx) (aj t 4 Jv (aj t 4 [41] k.2))=f;have d2:bp (fZ t f).2 (aj t 4 [59] (aj t 4 Jl (fZ t f).2)):=(bu _ _ _).u (bu _ _ _);have O:bp (aj t 4 Jv (aj t 4 [41] k.2)) (aj t 4 [59] (aj t 4 Jl (fZ t f).2)):=by
   grind [bp.u,OZ,Hp]
  have a9:bp k.2 (aj t 4 [59] (aj t 4 Jl (fZ t f).2)):=(bu _ _ _).u ((bu _ _ _).u O);have d1:bp i.2 (aj t 4 [59] (aj t 4 Jl (fZ t f).2)):=by
   grind [bp.u,yg]
  have N:bp (aj t 4 [40] (aj t 2 Jn m.2)) (aj t 4 [59] (aj t 4 Jl (fZ t f).2)):=by
   grind [bp.u,OT]
  have q:S t (λd c=>∃(g:Zb×Nat) (j:aV) (h:List (List Int×aV)),d=.union g.1 g.2 j h/\m.1.text=g.1/\lY (fZ t f).2.h (b.nl++[(g.1,none)]) j.H i.1.1/\DB h f (fZ t f) (Jr++g.1++Ji++lN j.H++[32]++j.t++Jx) h/\c=(b.aS g.1).cf (h.flatMap λA=>gu A.2.H)/\aP b.nl g.1=none/\At g.1 g.2 (fZ t f).2.G)
    (iX (aJ t) o.y { st with y:=p,nx:=none }) (aj t 4 [59] (aj t 4 Jl (fZ t f).2)):=by
   rw[c0];have a0:=xX c3 y;rw[c1]at a0;refine hp a0 ((bu _ _ _).u ((bu _ _ _).u N)) ?_;rintro g f5 b3 r ⟨rfl,P,g7,d5,g8⟩;unfold qP;refine hp (gs r (kd:=2) (l:=Jn) Zr) ((bu _ _ _).u N) ?_;rintro n f7 e0 K ⟨rfl,-⟩;refine hp (gs K (kd:=4) (l:=[40]) Zr) N ?_;rintro n f8 e1 L ⟨rfl,-⟩;have a3:=aeN L y;rw[a1]at a3;refine JE a3 d1 (λe H=>?_) ?_
   .have:=H.dz (t:=t);rw[G]at this;exact this.bE a9
   rintro z f9 e2 M ⟨rfl,d6,g9,d7⟩;unfold qQ;have a2:=CW (t:=t) M [] 0 0;rw[abQ,G]at a2;refine hp (aee a2) a9 ?_;rintro a7 g0 e3 c5 ⟨rfl,b0,h0,b1⟩;unfold sb;refine hp (gs c5 (kd:=4) (l:=[41]) Zr) ((bu _ _ _).u O) ?_;rintro n g1 e4 c6 ⟨rfl,-⟩;refine hp (gs c6 (kd:=4) (l:=Jv) Zr) O ?_;rintro n d3 e5 c7 ⟨rfl,-⟩;have a5:Sm i.2 (aj t 4 Jv (aj t 4 [41] k.2)):=by
    rw[<-G];rfl
   have E:=aex (t:=t) (of:=i.1.1) (p:=z.2) 14 13 [] a7.2 [] [] (Jr++m.1.text++Ji++i.1.2++[32]++k.1.text++Jx) d3 (aj t 4 Jv (aj t 4 [41] k.2)) _ c7 (d7.of a5) rfl (Y8 (by simp[dh])) (by simp[dh]) Zm Zm rfl ⟨rfl,λa6 p k J=>by grind⟩;rw[b1,show (List.map (λn:Int×aV=>n.1) (dh []))=[]from rfl]at E;rw[<-b0]at E;have F:=aef E;simp only[YT]at F;rw[b7]at F;rw[b1,<-b0];refine JE F d2 (λe H=>(H.g7 Zm).bE (bu _ _ _)) ?_;rintro d0 g2 e6 c8 ⟨f4,g4,g5,g6,d4⟩;unfold tA pP;refine hp (gs c8 (kd:=4) (l:=Jl) Zr) (bu _ _ _) ?_;rintro n g3 e7 c9 ⟨rfl,-⟩;refine hp (gs c9 (kd:=4) (l:=[59]) Zr) (fI _) ?_;rintro n f6 d9 c4 ⟨rfl,-⟩;have c2:dq i.2 (fZ t f).2:=a5.al.u d4;have f1:(fZ t f).2.G=m.2.G:=by
    have:i.2.G=m.2.G:=by rw[<-a1];exact((aF _ _ _).u ((aF _ _ _).u (uL _))).G
    grind [dq.G]
   refine S.ret c4 ⟨g,⟨k.1.text,a7.1.2,z.1⟩,d0.1,Zr,P,d6.al c2 (Iv _),?_,Zg,d5,by grind [Eh]⟩;grind
  show S t _ _ (gi (f.1.2.2.2++(fZ t f).1.2++JB) (eM m.1.text (aj t 4 [59] (aj t 4 Jl (fZ t f).2)).h.length (dm ⟨13,0,i.1.1,f.1.1,f.1.2.1,(fZ t f).1.1,[],0⟩ (aj t 4 [59] (aj t 4 Jl (fZ t f).2)))));cases x:iX (aJ t) o.y { st with y:=p,nx:=none }with
  |error e=>
   rw[x]at q;rw[lD x];exact Er.bE q ((hL _ _).u ((yf _ _ _).u (rY _ _)))
  |ok z=>
   obtain⟨d,cM⟩:=z;rw[x]at q;obtain⟨b3,r,g,j,h,rfl,P,u,s,rfl,b4,B⟩:=q;rw[uo x,P,s.i,<-s.aI];have u:lY (aj t 4 [59] (aj t 4 Jl (fZ t f).2)).h (b.nl++[(g.1,none)]) j.H i.1.1:=u;have B:At g.1 g.2 (aj t 4 [59] (aj t 4 Jl (fZ t f).2)).G:=B;have C:iO (aj t 4 [59] (aj t 4 Jl (fZ t f).2)).h ((dh h).map (·.2)) f.1.2.1:=s.aB;have v:match jv h with
    |none=>(fZ t f).1.1 = -2
    |some d=>dA (aj t 4 [59] (aj t 4 [125] (fZ t f).2)).h d.H (fZ t f).1.1:=s.dR
   have b5:=s.kr;generalize aj t 4 [59] (aj t 4 Jl (fZ t f).2)=b2 at *
   generalize (fZ t f).1.1=D at *
   have f0:=C.lt r.hl;have e9:D<b2.h.length:=by
    cases I:jv h with
    |none=>grind
    |some d=>rw[I]at v;exact dA.lt r.hl v
   have f2:=u.lt r.hl;have K:=r.row (r:=⟨13,0,i.1.1,(dh h).map (·.1),f.1.2.1,D,[],0⟩) ⟨Zg,λn f3=>Zg,Zg,Zq⟩ Zq;have a4:aP (b.aS g.1).nl g.1=some none:=by simp_all[uu]
   have L:=K.jN (d:=.union g.1 g.2 j h) (n:=b2.h.length) a4 y B rfl ⟨Zq,i.1.1,f.1.2.1,D,rR _ _,u.b8 _ (LX _ a4),by rw[C.1];simp,λa6 p k b6 e8=>(C.2 a6 p k.2 b6 Zu).b8 _,by
    cases I:jv h with
    |none=>simp_all
    |some d=>rw[I]at v;exact dA.b8 _ v,b5⟩
   have M:=L.aX ((Jr++g.1++Ji++lN j.H++[32]++j.t++Jx)++h.flatMap vz++JB);exact⟨_,M,g.1,g.2,j,h,rfl,⟨y,b8,rfl,rfl,by simp[cq.cf],rfl,[],wv b4,Zq⟩⟩
end
section
variable {t : Zb} {st h : St} {a d i j g : ai} {b c : cq} {f : Mar.ac}
def OB(f:Q t b st a)(l:List (Int×Int))(d:List Int)(i:l.map (·.1)=d):Sx t (λe j c=>c=b/\e=(cJ t d a).1/\j.map (·.1)=d++[e]) (sQ (aJ t) l st) (cJ t d a).2:=by
 unfold sQ cJ;simp only;refine gB (iY (gs f (kd:=4) (l:=[61]) Zr)) ((jX _ _ _).u ((oO _ _ _ _).u (bu _ _ _))) ?_;rintro p k cM q m ⟨⟨rfl,-⟩,rfl⟩;refine gB (CV m k d i 0 4294967295) (bu _ _ _) ?_;rintro e u tu r n ⟨rfl,g,h,-,-⟩;refine gB (iY (gs n (kd:=4) (l:=[59]) Zr)) (fI _) ?_;rintro p v CZ s o ⟨⟨rfl,-⟩,rfl⟩;exact Sx.ret o ⟨rfl,g,h⟩
theorem aid(b:Bd f a):Er f (gj t a).2:=by
 unfold gj;rw[Y2 (by rw[b.is Zm];simp)];exact b.w
def OE(k:Q t b st a):Sw t (λh c=>c=b.cf (gu h)/\dA (gj t a).2.h h (gj t a).1.1/\(gj t a).1.2=lN h) (rU (aJ t) st) (gj t a).2:=by
 unfold rU gj;rcases mf k (kd:=2) (l:=Jt) Zr with⟨m,e,d⟩|⟨i,e,d,f⟩|⟨i,e,d,f⟩
 .unfold aN;rw[e,Y2 (by rw[d.is Zm];simp)];exact Y8 d.w
 .unfold aN;rw[e,Y9 d];exact⟨b,f,(pR b).symm,rfl,rfl⟩
 .have j:∀(g:Bool->PM Ty),aN (el (aJ t) Jt) g st=g false i:=λg=>by grind [aN]
  rw[j,Y2 Zu];simp only[Ye,if_false]
  have:=OC f;unfold Sw at this ⊢;grind
def XL(d:List bt)(g:Int)(e:List (Int×gM))(f:List cj):Prop:=f.length=e.length/\∀(c:Nat) (b:Int×gM) (a:cj),e[c]?=some b->f[c]?=some a->a.prog=g/\a.et=b.1/\a.ja=b.2.num/\dA d b.2.c1 a.c1/\dA d b.2.cv a.cv
def JO(b:List bt)(a:Int):XL b a [] []:=⟨rfl,λe c f d=>by simp⟩
theorem XL.b8{f:List bt}{e:Int}{g k:List (Int×gM)}{m n:List cj}(a:XL f e g m)(j:XL f e k n):XL f e (g++k) (m++n):=by
 refine⟨by simp[a.1,j.1],?_⟩;intro i h l b c;rcases Yj i g.length with d|d
 .rw[Ys d]at b;rw[Ys (by rw[a.1];omega)]at c;exact a.2 i h l b c
 .rw[Yw d]at b;rw[Yw (by rw[a.1];omega),a.1]at c;exact j.2 _ h l b c
def XL.al{e:Int}{f:List (Int×gM)}{g:List cj}(b:XL a.h e f g)(c:dq a d):XL d.h e f g:=⟨b.1,λp h q n o=>by
 obtain⟨i,j,k,l,m⟩:=b.2 p h q n o;exact⟨i,j,k,l.al c,m.al c⟩⟩
def XL.et{k:List bt}{j:Int}{e:List gM}{f:List cj}(g:XL k j (e.map λa=>(0,a)) f)(i:Int):XL k j (e.map λa=>(i,a)) (f.map λm=>{ m with et:=i }):=by
 refine⟨by have:=g.1;simp_all,?_⟩;intro d o u b c;rw[List.getElem?_map]at b c;cases l:e[d]? with
 |none=>simp_all
 |some a=>
  cases h:f[d]? with
  |none=>simp_all
  |some n=>
   rw[l]at b;rw[h]at c;simp at b c;obtain⟨p,q,r,s,t⟩:=g.2 d (0,a) n Zu h;grind
def XL.prog{f:List bt}{g:List (Int×gM)}{b:List cj}(c:XL f 0 g b)(n:Int):XL f n g (b.map λj=>{ j with prog:=n }):=by
 refine⟨by have:=c.1;simp_all,?_⟩;intro e h r i a;rw[List.getElem?_map]at a;cases d:b[e]? with
 |none=>simp_all
 |some k=>
  rw[d]at a;simp at a;obtain⟨l,m,o,p,q⟩:=c.2 e h k i d;grind
def xN(a:gM):Zb:=lN a.cv++[32]++a.t++[40]++lN a.c1++JH++dk a.num++[59,32]
abbrev pG(t:Zb)(b:Nat)(a:ai):(Int×Zb)×ai:=gj t (aT b 8 a)
abbrev rO(t:Zb)(b:Nat)(c:Zc)(a:ai):ge×ai:=cK t c false (pG t b a).2
abbrev pF(t:Zb)(b:Nat)(c:Zc)(a:ai):(Int×Zb)×ai:=gj t (aj t 4 [40] (rO t b c a).2)
abbrev hW(t:Zb)(b:Nat)(d:Zc)(c:List Int)(a:ai):Int×ai:=cJ t c (aj t 4 [41] (pF t b d a).2)
abbrev Cw(t:Zb)(b:List cj)(c:Zc)(d:List Int)(a:ai):List cj:=b++[⟨0,0,(hW t b.length c d a).1,(pF t b.length c a).1.1,(pG t b.length a).1.1⟩]
theorem Gz(h:a.s.e=0)(g:Nat)(b:List cj)(c:Zc)(d:List Int)(f:Zb):hc t (g+1) b c d f a =
  if aM (hW t b.length c d a).2 4 Jl=true then ((Cw t b c d a,f++(pG t b.length a).1.2++[32]++(rO t b.length c a).1.text++[40]++(pF t b.length c a).1.2++JH++dk (hW t b.length c d a).1++[59,32]),(hW t b.length c d a).2)
  else hc t g (Cw t b c d a) (c++[(rO t b.length c a).1.text]) (d++[(hW t b.length c d a).1]) (f++(pG t b.length a).1.2++[32]++(rO t b.length c a).1.text++[40]++(pF t b.length c a).1.2++JH++dk (hW t b.length c d a).1++[59,32]) (hW t b.length c d a).2:=by
 simp_all[hc]
def OV(b:Nat)(d:Zc)(c:List Int)(a:ai):bp (aT b 8 a) (hW t b d c a).2:=(ye _).u ((qM _ _ _).u ((bu _ _ _).u ((ye _).u ((bu _ _ _).u (rX _ _)))))
def Vq(b:Nat)(d:Zc)(c:List Int)(a:ai):dq a (hW t b d c a).2:=(dN ..).al.u ((zi _).u ((jW ..).al.u ((aF ..).al.u ((zi _).u ((aF ..).al.u (rD ..))))))
theorem Hn(b:Nat)(c:List cj)(f:Zc)(d:List Int)(e:Zb)(a:ai):bp a (hc t b c f d e a).2:=λg=>by
 cases b<;>simp_all[hc]
def OW(h:a.s.e=0)(f:Nat)(b:List cj)(d:Zc)(c:List Int)(g:Zb):bp (hW t b.length d c a).2 (hc t (f+1) b d c g a).2:=by
 grind [Gz,fI,Hn]
def aeI(H:Q t b st a){e:Nat}(a8:aT e 8 a=a)(d:Zc)(i:List (Int×Int))(h:List Int)(L:i.map (·.1)=h):Sx t (λg n c=>c=b.cf (uH g)/\n.1=d++[g.t]/\n.2.map (·.1)=h++[g.num]/\(rO t e d a).1.text=g.t/\(hW t e d h a).1=g.num/\dA (hW t e d h a).2.h g.cv (pG t e a).1.1/\dA (hW t e d h a).2.h g.c1 (pF t e d a).1.1/\(pG t e a).1.2=lN g.cv/\(pF t e d a).1.2=lN g.c1) (oI (aJ t) (d,i) st) (hW t e d h a).2:=by
 unfold oI;have v:=OE H;have G:pG t e a=gj t a:=Zg;rw[<-G]at v;have s:bp (pF t e d a).2 (hW t e d h a).2:=(bu _ _ _).u (rX _ _);have u:bp (rO t e d a).2 (hW t e d h a).2:=(bu _ _ _).u ((ye _).u s);have w:dq (pF t e d a).2 (hW t e d h a).2:=(aF _ _ _).al.u (rD _ _);have a1:dq (pG t e a).2 (hW t e d h a).2:=(jW _ _ _).al.u ((aF _ _ _).al.u ((zi _).u w));refine DZ (IZ v) ((qM _ _ _).u u) (λf p=>(p.h3 d false).bE u) ?_;rintro b1 b2 cM x M ⟨⟨J,z,A⟩,rfl⟩;have k:=CW M d 0 0;have I:Sx t (λq (n:fJ) c=>c=x/\(rO t e d a).1.text=q.1/\n=(d++[q.1],i)) (kG (name (aJ t) (cQ 0 0)) (d,i) cM) (rO t e d a).2:=by
  unfold kG;simp only;cases j:name (aJ t) (cQ 0 0) d cM with
  |error f=>rw[j]at k;exact k
  |ok g=>
   rw[j]at k;obtain⟨y,r,rfl,o,a7,B⟩:=k;exact⟨_,r,rfl,o,by rw[B]⟩
 refine gB I u ?_;rintro q b3 tu y r ⟨rfl,o,rfl⟩;refine gB (iY (gs r (kd:=4) (l:=[40]) Zr)) ((ye _).u s) ?_;rintro a0 b4 CZ a2 N ⟨⟨rfl,-⟩,rfl⟩;refine DZ (IZ (OE N)) s (λf p=>(p.g7 Zm).bE (rX _ _)) ?_;rintro a6 b5 st4 a3 O ⟨⟨K,C,D⟩,rfl⟩;refine gB (iY (gs O (kd:=4) (l:=[41]) Zr)) (rX _ _) ?_;rintro a0 b6 OJ a4 P ⟨⟨rfl,-⟩,rfl⟩;have m:=OB P i h L;unfold aQ oE;simp only;cases j:sQ (aJ t) i OJ with
 |error f=>rw[j]at m;exact m
 |ok g=>
  obtain⟨a9,b0,st6⟩:=g;rw[j]at m;obtain⟨a5,R,rfl,E,F⟩:=m;exact⟨_,R,by rw[K,J,wJ];rfl,rfl,F,o,E.symm,z.al a1,C.al w,A,D⟩
def aeJ:∀(k:Nat) (j:List gM) (l:List cj) (d:Zc) (r:List (Int×Int)) (i:List Int) (m:Zb) (st:St) (a:ai) (b:cq),Q t b st a->r.map (·.1)=i->j.length+k=9->j.length<=8->XL a.h 0 (j.map λh=>(0,h)) l->
  Sx t (λ_ n c=>∃s,c=b.cf (s.flatMap uH)/\n.1=j++s/\XL (hc t (k+1) l d i m a).2.h 0 ((j++s).map λh=>(0,h)) (hc t (k+1) l d i m a).1.1/\(hc t (k+1) l d i m a).1.2=m++s.flatMap xN/\dq a (hc t (k+1) l d i m a).2) (rr (aJ t) 8 (oe (aJ t)) k j.length (j,(d,r)) st) (aj t 4 Jl (hc t (k+1) l d i m a).2):=by
 intro k;induction k with
 |zero=>omega
 |succ k a5=>
  intro j l d r i m st a b p a2 c2 c3 z;have c4:l.length=j.length:=by have:=z.1;grind
  have K:=(OW (t:=t) p.e (k+1) l d i m).u (bu (t:=t) 4 Jl _);have A:=(OV (t:=t) l.length d i a).u K;unfold rr;rcases pk t st with⟨B,n,q⟩|⟨f,q⟩
  .rw[Gv q];have v:=p.d3 q l.length 8;by_cases F:8<=j.length
   .rw[CN F];rw[Y9 Zm]at v;rw[v]at A;exact(p.dX (e:=5) (a:=B.y) Zm).bE A
   .rw[CO F];rw[Y2 Zm]at v;have w:=aeI (p.gC q) v d r i a2;have a4:Sx t (λ_ (n:List gM×fJ) c=>∃h,c=b.cf (uH h)/\n.1=j++[h]/\n.2.1=d++[h.t]/\n.2.2.map (·.1)=i++[h.num]/\(rO t l.length d a).1.text=h.t/\(hW t l.length d i a).1=h.num/\dA (hW t l.length d i a).2.h h.cv (pG t l.length a).1.1/\dA (hW t l.length d i a).2.h h.c1 (pF t l.length d a).1.1/\(pG t l.length a).1.2=lN h.cv/\(pF t l.length d a).1.2=lN h.c1) (oe (aJ t) (j,(d,r)) { st with y:=n,nx:=some B }) (hW t l.length d i a).2:=by
     unfold oe;simp only;cases G:oI (aJ t) (d,r) { st with y:=n,nx:=some B }with
     |error f=>rw[G]at w;exact w
     |ok h=>
      rw[G]at w;obtain⟨N,a9,a1,P⟩:=w;exact⟨_,a9,h.1,a1,rfl,P⟩
    refine gB a4 K ?_;rintro b0 a6 cM M a8 ⟨h,c0,C,D,E,R,S,b1,b2,b3,b4⟩;have y:=Vq (t:=t) l.length d i a;rw[Gz p.e];have H:XL (hW t l.length d i a).2.h 0 ((j++[h]).map λh=>(0,h)) (Cw t l d i a):=by
     rw[List.map_append];refine(z.al y).b8 ⟨rfl,?_⟩;intro I O c8 c1 z;match I with
     |0=>
      grind
     |I+1=>grind
    have a3:m++(pG t l.length a).1.2++[32]++(rO t l.length d a).1.text++[40]++(pF t l.length d a).1.2++JH++dk (hW t l.length d i a).1++[59,32]=m++xN h:=by
     grind [xN]
    rw[a3,R,S];obtain⟨c5,c6,a7⟩:=a6;simp only at C D E;subst C;subst D;generalize Cw t l d i a=J at *
    generalize (hW t l.length d i a).2=g at *
    rw[Et];rcases mf a8 (kd:=4) (l:=Jl) Zr with⟨b9,u,o⟩|⟨L,u,o,x⟩|⟨L,u,o,x⟩
    .rw[AS u,Y2 (by rw[o.is Zm];simp)];exact(((o.d3 (J.length) 8).bE (OV _ _ _ _)).bE (OW o.e k _ _ _ _)).bE (bu _ _ _)
    .rw[tX u,Y9 o,sh o];exact⟨_,x,[h],Zg,rfl,H,Zq,y⟩
    .rw[tX u,Y2 Zg];simp only[Ye,if_false]
     have:=a5 (j++[h]) J (d++[h.t]) a7 (i++[h.num]) (m++xN h) L g M x E Zg Zg H;rw[show (j++[h]).length=j.length+1 by simp]at this;refine this.aZ ?_;rintro b0 c7 N ⟨s,b5,b6,b7,b8,a0⟩;refine⟨h::s,by grind [wJ],Zg,?_,Zg,y.u a0⟩;grind
  .rw[Gu q];exact((p.bd q).d3 _ _).bE A
end
section
variable {t : Zb} {st h : St} {b i j σ1 σ2 : ai} {c f : cq} {g : Mar.ac}
def uU(v:go):Zb:=Jw++v.t++Jd++v.ao.flatMap xN++[125,32,61,32]++dk v.num++[59,32]
def tB(v:go):List (Int×gM):=v.ao.map λa=>(v.num,a)
def Oh{e:Type}{h}{c:PX e Unit}{d}(a:Sx t h (c d st) b):S t (λj f=>h () j f) (lL c d st) b:=by
 unfold lL;cases i:c d st with
 |ok j=>rw[i]at a;exact a
 |error g=>rw[i]at a;exact a
def aeS(D:Q t c st b)(a:Zc)(i:List (Int×Int))(d:List Int)(J:i.map (·.1)=d):Sx t (λv q f=>f=c.cf (oS v)/\q.1=a++[v.t]/\q.2.map (·.1)=d++[v.num]/\(gb t a d b).1.a5=v.t/\(gb t a d b).1.num=v.num/\(gb t a d b).1.i=uU v/\XL (gb t a d b).2.h 0 (tB v) (gb t a d b).1.l) (oT (aJ t) (a,i) st) (gb t a d b).2:=by
 unfold oT gb;simp only;generalize H:cK t a false (aj t 2 Jz b)=h;generalize F:hc t 10 [] [] [] (Jw++h.1.text++Jd) (aj t 4 Jv h.2)=e;have x:bp (aj t 4 Jl e.2) (cJ t d (aj t 4 Jl e.2)).2:=rX _ _;have y:bp (aj t 4 Jv h.2) (aj t 4 Jl e.2):=by
  grind [bp.u,bu,Hn]
 refine gB (iY (gs D (kd:=2) (l:=Jz) Zr)) ?_ ?_
 .grind [bp.u,bu,qM]
 rintro R a6 cM z M ⟨⟨rfl,-⟩,rfl⟩;have j:=CW M a 0 0;rw[H]at j;have E:Sx t (λn (q:fJ) f=>f=z/\h.1.text=n.1/\q=(a++[n.1],i)) (kG (name (aJ t) (cQ 0 0)) (a,i) cM) h.2:=by
  unfold kG;simp only;cases k:name (aJ t) (cQ 0 0) a cM with
  |error g=>rw[k]at j;exact j
  |ok p=>
   rw[k]at j;obtain⟨u,s,rfl,r,a3,A⟩:=j;exact⟨_,s,rfl,r,by rw[A]⟩
 refine gB E ((bu _ _ _).u (y.u x)) ?_;rintro n a7 tu u s ⟨rfl,r,rfl⟩;unfold Ap;have I:Sx t (λ_ (o:List gM×fJ) f=>f=u.cf (o.1.flatMap uH)/\XL e.2.h 0 (o.1.map λp=>(0,p)) e.1.1/\e.1.2=Jw++n.1++Jd++o.1.flatMap xN) (ih (aJ t) 8 (oe (aJ t)) ([],([],[])) tu) (aj t 4 Jl e.2):=by
  unfold ih;refine gB (iY (gs s (kd:=4) (l:=Jv) Zr)) y ?_;rintro R a9 CZ a0 N ⟨⟨rfl,-⟩,rfl⟩;rw[Es];have:=aeJ (t:=t) 9 [] [] [] [] [] (Jw++h.1.text++Jd) CZ (aj t 4 Jv h.2) _ N rfl Zq Zq (JO _ _);rw[F]at this;refine this.aZ ?_;simp_all
 refine gB (iY (Oh I)) x ?_;rintro o a8 st4 a1 O ⟨⟨G,B,a4⟩,rfl⟩;have m:=OB O i d J;unfold aQ oE;simp only;cases k:sQ (aJ t) i st4 with
 |error g=>rw[k]at m;exact m
 |ok p=>
  obtain⟨L,a5,st6⟩:=p;rw[k]at m;obtain⟨a2,P,rfl,w,C⟩:=m;have K:(cJ t d (aj t 4 Jl e.2)).2.h=e.2.h:=by
   have:=(rD (t:=t) d (aj t 4 Jl e.2)).h;unfold cJ;simp only;exact((aF (t:=t) 4 [61] (aj t 4 Jl e.2)).u ((iJ _ _ _).u ((oa _ _ _ _).u (aF _ _ _)))).h
  refine⟨_,P,G,rfl,C,r,w.symm,?_,?_⟩
  .grind [uU]
  .rw[<-w,K];exact B.et L
def Vt(a:Zc)(c:List Int)(b:ai):dq b (gb t a c b).2:=Li ..
def Pb(a:Zc)(c:List Int)(b:ai):bp b (gb t a c b).2:=by
 exact(bu _ _ _).u ((qM _ _ _).u ((bu _ _ _).u ((Hn _ _ _ _ _ _).u ((bu _ _ _).u (rX _ _)))))
theorem Dt(g:b.s.e=0)(f:Nat)(c:Zc)(a:List Int)(all:List cj)(d:Zb):ga t (f+1) c a all d b =
  if aM (gb t c a (aT a.length 4 b)).2 4 Jl=true then ((all++(gb t c a (aT a.length 4 b)).1.l,d++(gb t c a (aT a.length 4 b)).1.i),(gb t c a (aT a.length 4 b)).2)
  else ga t f (c++[(gb t c a (aT a.length 4 b)).1.a5]) (a++[(gb t c a (aT a.length 4 b)).1.num]) (all++(gb t c a (aT a.length 4 b)).1.l) (d++(gb t c a (aT a.length 4 b)).1.i) (gb t c a (aT a.length 4 b)).2:=by
 simp_all[ga]
def Pa(g:b.s.e=0)(d:Nat)(c:Zc)(a:List Int)(all:List cj)(f:Zb):bp (gb t c a (aT a.length 4 b)).2 (ga t (d+1) c a all f b).2:=by
 grind [Dt,fI,Hq]
def aeT:∀(j:Nat) (i:List go) (h:Zc) (r:List (Int×Int)) (d:List Int) (all:List cj) (m:Zb) (st:St) (b:ai) (c:cq),Q t c st b->r.map (·.1)=d->d.length=i.length->i.length+j=5->i.length<=4->XL b.h 0 (i.flatMap tB) all->
  Sx t (λ_ n f=>∃s,f=c.cf (s.flatMap oS)/\n.1=i++s/\XL (ga t (j+1) h d all m b).2.h 0 ((i++s).flatMap tB) (ga t (j+1) h d all m b).1.1/\(ga t (j+1) h d all m b).1.2=m++s.flatMap uU/\dq b (ga t (j+1) h d all m b).2) (rr (aJ t) 4 (mY (aJ t)) j i.length (i,(h,r)) st) (aj t 4 Jl (ga t (j+1) h d all m b).2):=by
 intro j;induction j with
 |zero=>omega
 |succ j a3=>
  intro i h r d all m st b c p a0 c0 b8 b9 a2;have y:=(Pa (t:=t) p.e (j+1) h d all m).u (bu (t:=t) 4 Jl _);have B:=(Pb (t:=t) h d (aT d.length 4 b)).u y;unfold rr;rcases pk t st with⟨C,n,q⟩|⟨g,q⟩
  .rw[Gv q];have w:=p.d3 q d.length 4;by_cases G:4<=i.length
   .rw[CN G];rw[Y9 Zm]at w;rw[w]at B;exact(p.dX (e:=5) (a:=C.y) Zm).bE B
   .rw[CO G];rw[Y2 Zm]at w;rw[Dt p.e];rw[Dt p.e]at y;rw[w]at y ⊢;have x:=aeS (p.gC q) h r d a0;have A:=Vt (t:=t) h d b;generalize gb t h d b=k at *
    have a1:Sx t (λ_ (n:List go×fJ) f=>∃v,f=c.cf (oS v)/\n.1=i++[v]/\n.2.1=h++[v.t]/\n.2.2.map (·.1)=d++[v.num]/\k.1.a5=v.t/\k.1.num=v.num/\k.1.i=uU v/\XL k.2.h 0 (tB v) k.1.l) (mY (aJ t) (i,(h,r)) { st with y:=n,nx:=some C }) k.2:=by
     unfold mY;simp only;cases H:oT (aJ t) (h,r) { st with y:=n,nx:=some C }with
     |error g=>rw[H]at x;exact x
     |ok a7=>
      rw[H]at x;obtain⟨L,a9,S,M⟩:=x;exact⟨_,a9,a7.1,S,rfl,M⟩
    refine gB a1 y ?_;rintro b0 a5 cM K a8 ⟨v,b7,D,E,F,N,O,P,b1⟩;rw[N,O,P];have I:XL k.2.h 0 ((i++[v]).flatMap tB) (all++k.1.l):=by
     rw[YK];refine(a2.al A).b8 ?_;grind
    obtain⟨c1,c2,a6⟩:=a5;simp only at D E F;subst D;subst E;generalize k.1.l=a4 at *
    generalize k.2=σ2 at *
    rw[Et];rcases mf a8 (kd:=4) (l:=Jl) Zr with⟨b6,u,o⟩|⟨J,u,o,z⟩|⟨J,u,o,z⟩
    .rw[AS u,Y2 (by rw[o.is Zm];simp)];exact(((o.d3 _ _).bE (Pb _ _ _)).bE (Pa o.e j _ (d++[v.num]) _ _)).bE (bu _ _ _)
    .rw[tX u,Y9 o,sh o];exact⟨_,z,[v],Zg,rfl,I,Zq,A⟩
    .rw[tX u,Y2 Zg];simp only[Ye,if_false]
     have:=a3 (i++[v]) (h++[v.t]) a6 (d++[v.num]) (all++a4) (m++uU v) J σ2 K z F Zg Zg Zg I;rw[show (i++[v]).length=i.length+1 by simp]at this;refine this.aZ ?_;rintro b0 c3 L ⟨s,b2,b3,b4,b5,R⟩;refine⟨v::s,by grind [wJ],Zg,?_,Zg,A.u R⟩;grind
  .rw[Gu q];exact((p.bd q).d3 _ _).bE B
def zO(b:Zb)(c:List go)(a:Int):Zb:=Jj++b++Jd++c.flatMap uU++[125,32,61,32]++dk a++[59,10]
def On{d:Type}{a:List d}{b:Nat}{c}(e:a[b]?=some c):a.set b c=a:=by
 apply List.ext_getElem?;grind
def adV{d:Type}(e:¬4<=st.ah.length)(c:Nat)(a:Unit->PM d):aN (λb=>gT b.ah.length 4 c b) a st=a () st:=by
 simp_all[aN,gT,Y2]
def adU{d:Type}(e:4<=st.ah.length)(a:Nat)(c:Unit->PM d):aN (λb=>gT b.ah.length 4 a b) c st=.error ⟨5,a⟩:=by
 simp_all[aN,gT]
def aeK{s:Mar.aU}{m:Nat}(C:Q t c st b)(x:c.pd=[])(b9:c.dc=0)(a1:fD t st.y st.nx=.ok (s,m))(c0:aM b 2 Jc=true):S t (λd f=>∃a5 a k h ps,d=.prog a5 a k h/\uX c f d (zO a5 k h) ps/\XL (iV t b).h h (k.flatMap tB) ps) (lC (lK (aJ t) s.y) { st with y:=m,nx:=none }) (iV t b):=by
 have c2:=C.O a1;have E:=C.d3 a1 b.ah.length 4;have e2:b.ah.length=st.ah.length:=by rw[C.pg];simp
 have a8:=afG (t:=t) b;by_cases L:4<=st.ah.length
 .rw[Y9 Zm]at E;have q:lK (aJ t) s.y { st with y:=m,nx:=none } = .error ⟨5,s.y⟩:=adU (st:={ st with y:=m,nx:=none }) L _ _;rw[lD q];rw[E]at a8;exact(C.dX (e:=5) (a:=s.y) Zm).bE a8
 .rw[Y2 Zm]at E;have c1:lK (aJ t) s.y { st with y:=m,nx:=none } = aN (jA (aJ t)) (tm (aJ t)) { st with y:=m,nx:=none }:=adV (st:={ st with y:=m,nx:=none }) L _ _;unfold iV;simp only;rw[E,sh c0];generalize c8:bc t 2 (bq t b)=A;generalize c7:ga t 6 [] [] [] (Jj++A.1.text++Jd) (aj t 4 Jv A.2)=v;have a9:bp (aj t 4 Jv A.2) (aj t 4 Jl v.2):=by
   grind [bp.u,bu,Hq]
  have a7:bp (aj t 4 Jl v.2) (cJ t (aj t 4 Jl v.2).ah (aj t 4 Jl v.2)).2:=rX _ _;have a2:Sm (aj t 4 Jl v.2) (cJ t (aj t 4 Jl v.2).ah (aj t 4 Jl v.2)).2:=by
   unfold cJ;exact(aF _ _ _).u ((iJ _ _ _).u ((oa _ _ _ _).u (aF _ _ _)))
  have q:S t (λd f=>∃(h:Zb×Nat) (k:List go),d=.prog h.1 h.2 k (cJ t (aj t 4 Jl v.2).ah (aj t 4 Jl v.2)).1/\f=(c.aS h.1).cf (k.flatMap oS)/\aP c.nl h.1=none/\XL v.2.h 0 (k.flatMap tB) v.1.1/\v.1.2=Jj++h.1++Jd++k.flatMap uU)
    (lK (aJ t) s.y { st with y:=m,nx:=none }) { (cJ t (aj t 4 Jl v.2).ah (aj t 4 Jl v.2)).2 with ah:=(cJ t (aj t 4 Jl v.2).ah (aj t 4 Jl v.2)).2.ah++[(cJ t (aj t 4 Jl v.2).ah (aj t 4 Jl v.2)).1] }:=by
   rw[c1];have M:=xX c2 x;rw[c8]at M;refine hp M ((bu _ _ _).u (a9.u (a7.u (yd rfl)))) ?_;rintro h d3 b0 j ⟨rfl,e6,d5,d6,e7⟩;unfold tm;have b8:Sx t (λ_ (m:List go×fJ) f=>f=(c.aS h.1).cf (m.1.flatMap oS)/\XL v.2.h 0 (m.1.flatMap tB) v.1.1/\v.1.2=Jj++h.1++Jd++m.1.flatMap uU) (ih (aJ t) 4 (mY (aJ t)) ([],([],[])) d3) (aj t 4 Jl v.2):=by
    unfold ih;refine gB (iY (gs j (kd:=4) (l:=Jv) Zr)) a9 ?_;rintro d5 e4 CZ J w ⟨⟨rfl,-⟩,rfl⟩;rw[Es];have:=aeT (t:=t) 5 [] [] [] [] [] (Jj++A.1.text++Jd) CZ (aj t 4 Jv A.2) _ w rfl rfl Zq Zq (JO _ _);rw[c7]at this;refine this.aZ ?_;simp_all
   refine hp (Oh b8) (a7.u (yd rfl)) ?_;rintro a4 e3 d7 d0 ⟨rfl,b3,b4⟩;unfold sR;generalize aj t 4 Jl v.2=i at *
   generalize hF:({ (cJ t i.ah i).2 with ah:=(cJ t i.ah i).2.ah++[(cJ t i.ah i).1] }:ai)=B;have d4:bp (aj t 4 [61] i) B:=by
    rw[<-hF];unfold cJ;exact(jX _ _ _).u ((oO _ _ _ _).u ((bu _ _ _).u (yd rfl)))
   refine hp (σ1:=B) (hp (σ2:=B) (R':=λF f=>f=(c.aS h.1).cf (a4.1.flatMap oS)/\F=(cJ t i.ah i).1) (gs d0 (kd:=4) (l:=[61]) Zr) d4 ?_) (fI B) ?_
   .rintro e5 y J w ⟨rfl,-⟩;have c3:y.ah.map (·.1)=i.ah:=w.pg.symm;have D:=CV w y.ah i.ah c3 0 4294967295;have c4:=a2.ah;unfold aN rM;rw[<-hF,c4];unfold cJ;simp only;cases u:ir (aJ t) (dT 0 4294967295) y.ah y with
    |error g=>
     rw[u]at D;exact(Er.bE D (bu _ _ _)).bE (yd rfl)
    |ok I=>
     obtain⟨F,a3,a6⟩:=I;rw[u]at D;obtain⟨d8,p,rfl,b5,b6,-,-⟩:=D;simp only;have d1:Q t _ { a6 with ah:=a3 } { (if(bU t 0 4294967295 (aj t 4 [61] i)).2.s.e=0/\i.ah.contains (bU t 0 4294967295 (aj t 4 [61] i)).1.1=true then ch 6 (bU t 0 4294967295 (aj t 4 [61] i)).1.2 (bU t 0 4294967295 (aj t 4 [61] i)).2 else (bU t 0 4294967295 (aj t 4 [61] i)).2)with ah:=i.ah++[F] }:=⟨p.e,p.wd,p.nl,p.pd,p.nm,p.H,p.cn,b6.symm,p.cV,p.dK,p.ou,p.pr,p.er,p.e2⟩
     have r:=gs d1 (kd:=4) (l:=[59]) Zr;subst b5;cases N:cu (aJ t) [59] { a6 with ah:=a3 }with
     |error g=>
      rw[N]at r;have r:Er g _:=r;exact⟨r.e,r.a,r.z⟩
     |ok G=>
      rw[N]at r;obtain⟨d9,d2,rfl,-⟩:=r;exact⟨_,d2,rfl,rfl⟩
   .rintro F y J w ⟨rfl,rfl⟩;exact S.ret w ⟨h,a4.1,rfl,rfl,d6,b3,b4⟩
  cases u:lK (aJ t) s.y { st with y:=m,nx:=none }with
  |error g=>
   rw[u]at q;have q:Er g _:=q;rw[lD u];exact⟨q.e,q.a,q.z⟩
  |ok I=>
   obtain⟨d,cM⟩:=I;rw[u]at q;obtain⟨b0,j,h,k,rfl,rfl,b1,b2,e0⟩:=q;have c5:(cJ t (aj t 4 Jl v.2).ah (aj t 4 Jl v.2)).2.h=v.2.h:=a2.h;rw[uo u];generalize cJ t (aj t 4 Jl v.2).ah (aj t 4 Jl v.2)=n at *
   have P:aP (c.aS h.1).nl h.1=some none:=by simp_all[uu]
   have c6:cM.G=(c.aS h.1).nl:=by rw[j.nl];simp[cq.cf,x]
   obtain⟨c9,G,e1,H,K,b7⟩:=Ff j P;have R:=j.nm.aq (d:=.prog h.1 h.2 k n.1) (r:=G) P H ⟨b7,by
    have:=j.nm.f8 c9 _ _ H K;exact this.2⟩
   have O:=j.e2.aq H (.prog h.1 h.2 k n.1) G;rw[On K]at R O;refine⟨{ ((c.aS h.1).cf (k.flatMap oS)).aq h.1 (.prog h.1 h.2 k n.1)with o:=c.o++zO h.1 k n.1,ps:=c.ps++v.1.1.map λm=>{ m with prog:=n.1 } },?_,h.1,h.2,k,n.1,_,rfl,⟨x,b9,rfl,rfl,rfl,rfl,[],wv b1,Zq⟩,?_⟩
   .refine⟨j.e,j.wd,?_,Y8 x,R,j.H,j.cn,j.pg,j.cV,j.dK,?_,?_,j.er,O⟩
    .show ew cM.G h.1 _=ew _ h.1 _++c.pd;rw[c6,x,YH];rfl
    .show n.2.i++_=c.o++zO h.1 k n.1;have a0:n.2.i=c.o:=j.ou;grind [zO]
    .show n.2.ao++_=c.ps++_;have a0:n.2.ao=c.ps:=j.pr;rw[a0]
   .show XL n.2.h n.1 _ _;rw[c5];exact b2.prog _
end
section
variable {t : Zb} {a h : St} {σ b g i j : ai} {d c : cq} {f : Mar.ac}
def eq(σ b:ai):Prop:=∃a,b.h=σ.h++a
theorem sq(σ:ai):eq σ σ:=⟨[],Zq⟩
theorem eq.u(a:eq σ b)(c:eq b g):eq σ g:=by
 obtain⟨d,f⟩:=a;obtain⟨e,h⟩:=c;exact⟨d++e,Zu⟩
def dq.a4(a:dq σ b):eq σ b:=by obtain⟨d,c,-⟩:=a.h;exact⟨d,c⟩
def Wv(a:b.h=σ.h):eq σ b:=⟨[],Zu⟩
def Fq(a:bt)(σ:ai):eq σ (dm a σ):=⟨[a],rfl⟩
def BB(a:Zb)(σ:ai):eq σ (gi a σ):=sq _
def Lx(b:Zb)(a:Int)(σ:ai):eq σ (eR b a σ):=by
 unfold eR jg;split<;>exact⟨[],Zq⟩
def Fs(b:Zb)(a:Int)(σ:ai):eq σ (eM b a σ):=by
 unfold eM jg;split<;>exact⟨[],Zq⟩
def sY(a:Int)(σ:ai):eq σ (bc t a σ).2:=Wv (rS a σ)
theorem Wr(σ:ai):eq σ (iG t σ):=by
 unfold iG;simp only;generalize d:bc t 2 (aj t 2 Je (aT σ.ax 40 σ))=a;have b:eq σ a.2:=by rw[<-d];exact((dN ..).u (aF ..)).al.a4.u (sY ..)
 have c:eq σ (aj t 4 [59] (bU t (-2147483648) 4294967295 (aj t 4 [61] a.2)).2):=b.u ((aF ..).u ((iJ ..).u (aF ..))).al.a4;split
 .omega
 .exact c.u ((Lx ..).u (BB ..))
def Wy(σ:ai):eq σ (jh t σ):=by
 unfold jh;simp only;generalize c:dx t [] true (aj t 2 Ja σ)=a;have b:eq σ a.2:=by rw[<-c];exact((aF ..).al.u (pB ..)).a4
 split
 .omega
 .exact b.u (sq _)
def Lw:∀(b:Nat) (a:List Int) (c:Zb) (σ:ai),eq σ (eh t b a c σ).2.2.2:=by
 intro b;induction b with
 |zero=>intro a c σ;exact sq _
 |succ b h=>
  intro a c σ;by_cases g:σ.s.e=0
  .rw[xl g];have d:eq σ (gR t a σ):=by
    unfold gR;refine eq.u ?_ (oa ..).al.a4;unfold iS kX;exact((dN ..).u (dN ..)).al.a4.u ((sY ..).u ((aF ..).u (iJ ..)).al.a4)
   have f:eq σ (hU t a σ):=by
    unfold hU;split
    .omega
    .exact d.u (Lx ..)
   split
   .omega
   .split
    .exact f.u ((gm _).al.a4.u (h ..))
    omega
  grind [vM,sq]
def Wu(σ:ai):eq σ (jS t σ):=by
 unfold jS;simp only;generalize f:bc t 2 (aj t 2 Jo σ)=a;have c:eq σ a.2:=by rw[<-f];exact(aF ..).al.a4.u (sY ..)
 generalize e:eh t 13 [] (Jm++a.1.text++Jd) (aj t 4 Jv a.2)=b;have d:eq σ b.2.2.2:=by rw[<-e];exact c.u ((aF ..).al.a4.u (Lw ..))
 split
 .omega
 .exact d.u (((aF ..).u (aF ..)).al.a4.u ((Fq ..).u ((Fs ..).u (BB ..))))
def Lh:∀(a:Nat) (c:List Int) (b:Zc) (d:Zb) (σ:ai),eq σ (eU t a c b d σ).2.2:=by
 intro a;induction a with
 |zero=>intro c b d σ;exact sq _
 |succ a h=>
  intro c b d σ;by_cases g:σ.s.e=0
  .rw[Ac g];have f:eq σ (aj t 4 [59] (hK t c.length b σ).2):=((dN ..).al.u ((pB ..).u (aF ..).al)).a4;split
   .omega
   .exact f.u (h ..)
  grind [Ae,sq]
def Wx(σ:ai):eq σ (jG t σ):=by
 exact(aF ..).al.a4.u ((sY ..).u ((aF ..).al.a4.u ((Lh ..).u (((aF ..).u (aF ..)).al.a4.u ((Fq ..).u ((Fs ..).u (BB ..)))))))
def Ly(of:Int):∀(b:Nat) (a f:List Int) (c:Zc) (d:Zb) (σ:ai),eq σ (fo t of b a f c d σ).2:=by
 intro b;induction b with
 |zero=>intro a f c d σ;exact sq _
 |succ b i=>
  intro a f c d σ;by_cases h:σ.s.e=0
  .rw[wC h];have g:eq σ (dB t c (di t of (14-a.length) a [] σ).2).2:=((sL ..).1.al.u (rC ..)).a4;split
   .exact g.u (i ..)
   omega
  grind [wD,sq]
def Wz(σ:ai):eq σ (ji t σ):=by
 exact(aF ..).al.a4.u ((sY ..).u (((aF ..).u ((aF ..).u ((uL _).u ((oL _).u ((aF ..).u (aF ..)))))).al.a4.u ((Ly ..).u ((zh ..).a4.u (((aF ..).u (aF ..)).al.a4.u ((Fq ..).u ((Fs ..).u (BB ..))))))))
theorem Ww(σ:ai):eq σ (iV t σ):=by
 unfold iV;simp only;generalize f:bc t 2 (aj t 2 Jc (aT σ.ah.length 4 σ))=a;have b:eq σ a.2:=by rw[<-f];exact((dN ..).u (aF ..)).al.a4.u (sY ..)
 generalize e:ga t 6 [] [] [] (Jj++a.1.text++Jd) (aj t 4 Jv a.2)=v;have c:eq σ (aj t 4 Jl v.2):=by rw[<-e];exact b.u (((aF ..).al.u ((zj ..).u (aF ..).al)).a4)
 have d:=c.u (rD (t:=t) (aj t 4 Jl v.2).ah _).a4;exact d.u (sq _)
def zg(d:¬aM σ 2 Je=true)(e:¬aM σ 2 Jc=true)(g:σ.s.x.w=2):cH t σ =
  if σ.s.x.text=Ja then jh t (iW σ)else if σ.s.x.text=Jo then jS t (iW σ)else if σ.s.x.text=Jf then jG t (iW σ)else if σ.s.x.text=Jh then ji t (iW σ)else eu σ:=by
 unfold cH;rw[Y2 d,Y2 e];by_cases a:σ.s.x.text=Ja
 .rw[Y2 Zu,Y9 a,Y9 a];rfl
 .by_cases b:σ.s.x.text=Jo
  .rw[Y2 Zu,Y2 a,Y9 b,Y2 a,Y9 b];rfl
  .by_cases c:σ.s.x.text=Jf
   .rw[Y2 Zu,Y2 a,Y2 b,Y9 c,Y2 a,Y2 b,Y9 c];rfl
   .by_cases f:σ.s.x.text=Jh
    .rw[Y2 Zu,Y2 a,Y2 b,Y2 c,Y2 a,Y2 b,Y2 c,Y9 f];rfl
    simp_all
def zo(σ:ai):eq σ (iW σ):=(dN σ.an 24 σ).al.a4
def Wt(σ:ai):eq σ (cH t σ):=by
 by_cases a:aM σ 2 Je=true
 .simp_all[cH,Wr]
 .by_cases b:aM σ 2 Jc=true
  .simp_all[cH,Ww]
  .by_cases c:σ.s.x.w=2
   .rw[zg a b c];split
    .exact(zo σ).u (Wy _)
    .split
     .exact(zo σ).u (Wu _)
     .split
      .exact(zo σ).u (Wx _)
      .split
       .exact(zo σ).u (Wz _)
       .exact(zY σ).al.a4
   .unfold cH;rw[Y2 a,Y2 b,Y9 (Y8 c)];exact(zY σ).al.a4
def BI:List (Zb×Nat×Int)->Zb
 |[]=>[]
 |[a]=>nT a
 |a::c::b=>nT a++[44,32]++BI (c::b)
theorem Xq(a:List (Zb×Nat×Int))(b:Zb×Nat×Int):BI (a++[b])=a.flatMap (λb=>nT b++[44,32])++nT b:=by
 induction a with
 |nil=>rfl
 |cons c a d=>
  cases a<;>grind [BI]
def ET:aD->Zb
 |.const a _ v=>EM a v
 |.typedef d=>HG d
 |.enum a _ b=>[101,110,117,109,32]++a++[32,123,32]++BI b++[32,125,59,10]
 |.struct a _ b=>Pe a b
 |.union a _ f c=>PE a f c
 |.prog a _ g e=>zO a g e
def KE:aD->List (Int×Int×gM)
 |.prog _ _ c b=>(c.flatMap tB).map λa=>(b,a)
 |_=>[]
def YL(d:List bt)(e:List (Int×Int×gM))(f:List cj):Prop:=f.length=e.length/\∀(c:Nat) (a:Int×Int×gM) (b:cj),e[c]?=some a->f[c]?=some b->b.prog=a.1/\b.et=a.2.1/\b.ja=a.2.2.num/\dA d a.2.2.c1 b.c1/\dA d a.2.2.cv b.cv
def wY(a:List bt):YL a [] []:=⟨rfl,λd b e c=>by simp⟩
theorem YL.b8{e f j l m}(a:YL e f l)(i:YL e j m):YL e (f++j) (l++m):=by
 refine⟨by simp[a.1,i.1],?_⟩;intro h g k b c;rcases Yj h f.length with d|d
 .rw[Ys d]at b;rw[Ys (by rw[a.1];omega)]at c;exact a.2 h g k b c
 .rw[Yw d]at b;rw[Yw (by rw[a.1];omega),a.1]at c;exact i.2 _ g k b c
def YL.a4{d e}(a:YL σ.h d e)(p:eq σ b):YL b.h d e:=⟨a.1,λo f q l m=>by
 obtain⟨g,h,i,j,k⟩:=a.2 o f q l m;obtain⟨c,n⟩:=p;rw[n];exact⟨g,h,i,j.b8 c,k.b8 c⟩⟩
def XL.yl{h g b i}(d:XL h g b i):YL h (b.map λc=>(g,c)) i:=by
 refine⟨by simp[d.1],?_⟩;intro f c l a j;rw[List.getElem?_map]at a;cases e:b[f]? with
 |none=>simp_all
 |some k=>
  rw[e]at a;simp at a;subst a;exact d.2 f k l e j
def VJ{c:Mar.aU}{b:Nat}(d:fD t a.y a.nx=.ok (c,b)):lC (fP (aJ t)) a=lC (fO (aJ t) c) { a with y:=b,nx:=none }:=by
 unfold lC fP aN;rw[rJ d]
def OA(g:Q t d a σ)(o:d.pd=[])(n:d.dc=0):S t (λi c=>∃s,uX d c i (ET i) s/\YL (cH t σ).h (KE i) s) (lC (fP (aJ t)) a) (cH t σ):=by
 rcases pk t a with⟨b,D,e⟩|⟨f,e⟩
 .rw[VJ e];have B:=g.wd;rw[e]at B;obtain⟨⟨E,F,a0,a1,a2⟩,H⟩:=B;have a4:=g.is e (kd:=2) (l:=Je) Zr;have a5:=g.is e (kd:=2) (l:=Jc) Zr;by_cases P:b.text=Je
  .have A:aM σ 2 Je=true:=Zu;have h:fO (aJ t) b=lz (aJ t) b.y:=by simp_all[fO]
   have m:cH t σ=iG t σ:=by unfold cH;simp_all
   rw[h,m];refine(aeA g o n e A).aZ ?_;rintro i c ⟨j,p,v,rfl,ok⟩;exact⟨[],ok,wY _⟩
  .have K:¬aM σ 2 Je=true:=Zu;by_cases R:b.text=Jc
   .have A:aM σ 2 Jc=true:=Zu;have h:fO (aJ t) b=lK (aJ t) b.y:=by unfold fO;simp_all
    have m:cH t σ=iV t σ:=by simp_all[cH]
    rw[h,m];refine(aeK g o n e A).aZ ?_;rintro i c ⟨j,p,a9,a7,s,rfl,ok,I⟩;exact⟨s,ok,I.yl⟩
   .have L:¬aM σ 2 Jc=true:=Zu;by_cases C:σ.s.x.w=2
    .rw[zg K L C,F];by_cases u:b.text=Ja
     .have h:fO (aJ t) b=lR (aJ t) b.y:=by unfold fO;simp_all
      rw[h,Y9 u];refine(aeQ g o n e (by rw[g.is e Zr,u];rfl)).aZ ?_;rintro i c ⟨N,rfl,ok⟩;exact⟨[],ok,wY _⟩
     .rw[Y2 u];by_cases w:b.text=Jo
      .have h:fO (aJ t) b=kS (aJ t) b.y:=by unfold fO;simp_all
       rw[h,Y9 w];refine(aeB g o n e (by rw[g.is e Zr,w];rfl)).aZ ?_;rintro i c ⟨j,p,J,a6,rfl,ok⟩;refine⟨[],?_,wY _⟩;grind [ET,Lb,Xq]
      .rw[Y2 w];by_cases y:b.text=Jf
       .have h:fO (aJ t) b=mu (aJ t) b.y:=by unfold fO;simp_all
        rw[h,Y9 y];refine(aeO g o n e (by rw[g.is e Zr,y];rfl)).aZ ?_;rintro i c ⟨j,p,J,rfl,ok⟩;exact⟨[],ok,wY _⟩
       .rw[Y2 y];by_cases z:b.text=Jh
        .have h:fO (aJ t) b=iX (aJ t) b.y:=by unfold fO;simp_all
         rw[h,Y9 z];refine(aeR g o n e (by rw[g.is e Zr,z];rfl)).aZ ?_;rintro i c ⟨j,p,a8,M,rfl,ok⟩;exact⟨[],ok,wY _⟩
        .rw[Y2 z];have h:fO (aJ t) b { a with y:=D,nx:=none } = .error ⟨3,b.y⟩:=by
          unfold fO;rw[Y2 Zu,Y2 Zu,Y2 Zu,Y2 Zu,Y2 Zu,Y2 Zu];rfl
         rw[lD h];exact g.gk e
    .have r:∀j,Mar.ee j=true->b.text≠j:=λj a3 O=>C (by rw[E];exact H.hA Zu);have m:cH t σ=eu σ:=by simp_all[cH]
     have h:fO (aJ t) b { a with y:=D,nx:=none } = .error ⟨3,b.y⟩:=by
      unfold fO;rw[Y2 Zu,Y2 (by simpa using r Ja Zr),Y2 (by simpa using r Jo Zr),Y2 (by simpa using r Jf Zr),Y2 (by simpa using r Jh Zr),Y2 Zu];rfl
     rw[lD h,m];exact g.gk e
 .have G:lC (fP (aJ t)) a=.error f:=by
   simp_all[lC,fP,aN,tg]
  have q:=g.bd e;have m:cH t σ=eu σ:=by
   unfold cH;rw[Y2 (by rw[q.is Zm];simp),Y2 (by rw[q.is Zm];simp),Y9 (Y8 (by rw[q.k];omega))]
  rw[G,m];exact q.gK
end
section
variable {m b a:Nat}
variable {t : Zb} {h i : St} {σ σ' j k c : ai} {d f : cq} {g : Mar.ac}
theorem eq.am(a:eq σ σ'):σ.h.length<=σ'.h.length:=by
 obtain⟨c,b⟩:=a;simp_all
def tQ(b m:Nat)(a:Int):Prop:=a<5\/((b:Int)<=a/\a+1=m)
theorem xA(σ:ai)(a:bt)(c:b<=σ.h.length):tQ b (dm a σ).h.length σ.h.length:=Ya ⟨Zm,by show _=(((σ.h++[a]).length:Nat):Int);simp⟩
def LV(σ:ai):tQ σ.h.length (cW t σ).2.h.length (cW t σ).1.1:=by
 unfold cW;split
 .exact Y8 Zq
 .split
  .simp_all[xA,bq]
  .split
   .exact Y8 Zq
   .split
    .exact Y8 Zq
    .split
     .exact Y8 Zq
     .split
      .unfold mw;split
       .exact Y8 Zq
       .split<;>exact Y8 Zq
      .exact Y8 Zq
def EQ(b:Zc)(all:Bool)(σ:ai):tQ σ.h.length (dx t b all σ).2.h.length (dx t b all σ).1.r:=by
 unfold dx;split
 .unfold kF;simp only;have c:∀a,σ.h.length<=(dC t a (cK t b all (bq t σ)).2).2.h.length:=λa=>((gm _).u ((jW ..).u (rV ..))).al.a4.am;grind [xA]
 .unfold jd;simp only;have e:=LV (t:=t) σ;have c:σ.h.length<=(cW t σ).2.h.length:=(Fa σ).a4.am;split
  .exact xA _ _ (Yz c ((gm _).u (jW ..)).al.a4.am)
  .have d:∀a,σ.h.length<=(dC t a (cK t b all (cW t σ).2).2).2.h.length:=λa=>Yz c ((jW ..).u (rV ..)).al.a4.am;split
   .exact xA _ _ (d true)
   .split
    .exact xA _ _ (d false)
    .rw[(jW (t:=t) b all (cW t σ).2).h];omega
def Nw(b:Nat)(a:Int):Prop:=a<5\/(b:Int)<=a
def tQ.nw{a}(c:tQ b m a):Nw b a:=c.imp id And.left
theorem Nw.aZ{c}(a:Nw m c)(d:b<=m):Nw b c:=a.imp id λa=>by omega
def Fh(a:Nat)(σ:ai):Prop:=a<=σ.h.length/\∀(c:Nat) (b:bt),σ.h[c]?=some b->a<=c->b.w≠14->∀d∈dj b,Nw a d
def Fh.of(b:Fh a σ)(c:σ'.h=σ.h):Fh a σ':=by unfold Fh;rw[c];exact b
def Fh.row(c:Fh a σ){r:bt}(i:r.w≠14->∀f∈dj r,Nw a f):Fh a (dm r σ):=by
 refine⟨by show a<=(σ.h++[r]).length;have:=c.1;grind,?_⟩;intro e h b g;rw[show (dm r σ).h=σ.h++[r]from rfl]at b;rcases Yj e σ.h.length with d|d
 .rw[Ys d]at b;exact c.2 e h b g
 grind
theorem Ma(a b:Int)(c:a=6\/a=7\/a=8):dj (fV a b)=[]:=by rcases c with rfl|rfl|rfl<;>rfl
def Lk(b:Fh a σ):Fh a (cW t σ).2:=by
 unfold cW;split
 .exact b
 .split
  .exact(b.of (σ':=bq t σ) rfl).row (λc=>absurd rfl c)
  .split
   .exact b.of rfl
   .split
    .exact b.of rfl
    .split
     .exact b.of rfl
     .split
      .unfold mw;split
       .exact b.of rfl
       .split<;>exact b.of rfl
      .exact b.of rfl
def Fd(f:Fh a σ)(h:Zc)(all:Bool):Fh a (dx t h all σ).2:=by
 unfold dx;split
 .unfold kF;simp only;have d:∀c,Fh a (dC t c (cK t h all (bq t σ)).2).2:=λc=>f.of ((gm _).u ((jW ..).u (rV ..))).h;split
  .exact(d true).row (λ_ e b=>by simp_all[Ma])
  .exact(d false).row (λ_ e b=>by grind [Ma])
 .unfold jd;simp only;have g:=Lk (t:=t) f;have i:Nw a (cW t σ).1.1:=(LV (t:=t) σ).nw.aZ f.1;split
  .exact(g.of ((gm _).u (jW ..)).h).row (λ_ e b=>by simp[dj,dd]at b)
  .have d:∀c,Fh a (dC t c (cK t h all (cW t σ).2).2).2:=λc=>g.of ((jW ..).u (rV ..)).h;split
   .exact(d true).row (λ_ e b=>by grind [dj,dd])
   .split
    .exact(d false).row (λ_ e b=>by simp[dj,dd]at b)
    .exact g.of (jW ..).h
def VA:∀(g:Nat) (b:List Int) (c:Zc) (h:Zb) (σ:ai),Fh a σ->(∀d∈b,Nw a d)->Fh a (eU t g b c h σ).2.2/\∀d∈(eU t g b c h σ).1,Nw a d:=by
 intro g;induction g with
 |zero=>intro b c h σ i k;exact⟨i,k⟩
 |succ g o=>
  intro b c h σ i k;by_cases l:σ.s.e=0
  .rw[Ac l];have j:Fh a (aT b.length 12 σ):=i.of (dN ..).h;have m:Fh a (aj t 4 [59] (hK t b.length c σ).2):=(Fd (t:=t) j c false).of (aF ..).h;have n:∀d∈b++[(hK t b.length c σ).1.r],Nw a d:=by
    intro d f;rcases Yn.1 f with f|f
    .simp_all
    .simp at f;subst f;exact(EQ (t:=t) c false _).nw.aZ j.1
   grind
  grind [Ae]
theorem Lj(c:Fh a σ)(b:Zc):Fh a (dB t b σ).2/\Nw a (dB t b σ).1.1:=by
 unfold dB;split
 .exact⟨c.of rfl,Y8 Zq⟩
 .exact⟨(Fd (t:=t) c b false).of (aF ..).h,(EQ (t:=t) b false _).nw.aZ c.1⟩
def VC(of:Int):∀(c:Nat) (b d:List Int) (f:Zc) (g:Zb) (σ:ai),Fh a σ->(∀i∈d,Nw a i)->Fh a (fo t of c b d f g σ).2/\∀i∈(fo t of c b d f g σ).1.2.1,Nw a i:=by
 intro c;induction c with
 |zero=>intro b d f g σ h j;exact⟨h,j⟩
 |succ c m=>
  intro b d f g σ h j;by_cases k:σ.s.e=0
  .rw[wC k];have l:Fh a (di t of (14-b.length) b [] σ).2:=h.of (sL ..).1.h;grind [Lj,pC]
  grind [wD]
def Vw(c:Fh a σ)(b:Zc):Fh a (jw t b σ).2/\Nw a (jw t b σ).1.1:=by
 unfold jw;split
 .have:=Lj (t:=t) (σ:=aj t 4 [58] (bq t σ)) (c.of rfl) b;omega
 .exact⟨c,Y8 Zq⟩
theorem CP(a:Zb)(b:Int)(σ:ai):(eM a b σ).h=σ.h:=by
 grind [eM,jg]
def GS(a:Zb)(b:Int)(σ:ai):(eR a b σ).h=σ.h:=by
 grind [eR,jg]
def Ll(b:Fh a σ):Fh a (gj t σ).2:=by
 unfold gj;split
 .exact b.of rfl
 .exact Lk b
def Fe(b:Fh a σ)(c:List Int):Fh a (cJ t c σ).2:=by
 exact b.of ((aF ..).u ((iJ ..).u ((oa ..).u (aF ..)))).h
def Vy:∀(f:Nat) (b:List cj) (d:Zc) (c:List Int) (h:Zb) (σ:ai),Fh a σ->Fh a (hc t f b d c h σ).2:=by
 intro f;induction f with
 |zero=>intro b d c h σ g;exact g
 |succ f m=>
  intro b d c h σ g;by_cases k:σ.s.e=0
  .rw[Gz k];have i:Fh a (pG t b.length σ).2:=Ll (g.of (dN ..).h);have j:Fh a (pF t b.length d σ).2:=Ll ((i.of (jW ..).h).of (aF ..).h);have l:Fh a (hW t b.length d c σ).2:=Fe (j.of (aF ..).h) c;grind
  simp_all[hc]
def VE(c:Fh a σ)(d:Zc)(b:List Int):Fh a (gb t d b σ).2:=by
 exact Fe ((Vy _ _ _ _ _ _ ((c.of (aF ..).h).of ((jW ..).u (aF ..)).h)).of (aF ..).h) b
def VD:∀(d:Nat) (c:Zc) (b:List Int) (all:List cj) (g:Zb) (σ:ai),Fh a σ->Fh a (ga t d c b all g σ).2:=by
 intro d;induction d with
 |zero=>intro c b all g σ f;exact f
 |succ d j=>
  intro c b all g σ f;by_cases h:σ.s.e=0
  .rw[Dt h];have i:Fh a (gb t c b (aT b.length 4 σ)).2:=VE (f.of (dN ..).h) c b;grind
  grind [HN]
def Vx:∀(c:Nat) (b:List Int) (f:Zb) (σ:ai),Fh a σ->Fh a (eh t c b f σ).2.2.2:=by
 intro c;induction c with
 |zero=>intro b f σ d;exact d
 |succ c j=>
  intro b f σ d;by_cases i:σ.s.e=0
  .rw[xl i];have g:Fh a (gR t b σ):=by
    unfold gR;refine Fh.of ?_ (oa ..).h;unfold iS kX;exact Fh.of (Fh.of (Fh.of d ((dN ..).u (dN ..)).h) (rS ..)) ((aF ..).u (iJ ..)).h
   have h:Fh a (hU t b σ):=by
    unfold hU;split
    .omega
    .exact g.of (GS ..)
   split
   .omega
   .split
    .exact j _ _ _ (h.of (gm _).h)
    omega
  grind [vM]
def Vz(σ:ai):Fh σ.h.length σ:=⟨Y4 _,λc d b a=>by
 simp_all⟩
def Vv(σ:ai):Fh σ.h.length (cH t σ):=by
 have h:=Vz σ;generalize σ.h.length=a at *
 by_cases l:aM σ 2 Je=true
 .unfold cH;rw[Y9 l];unfold iG;simp only;have i:Fh a (bc t 2 (aj t 2 Je (aT σ.ax 40 σ))).2:=Fh.of (h.of ((dN ..).u (aF ..)).h) (rS ..);generalize bc t 2 (aj t 2 Je (aT σ.ax 40 σ))=d at *
  have f:Fh a (aj t 4 [59] (bU t (-2147483648) 4294967295 (aj t 4 [61] d.2)).2):=i.of ((aF ..).u ((iJ ..).u (aF ..))).h;split
  .omega
  .exact(f.of (GS ..)).of rfl
 .by_cases i:aM σ 2 Jc=true
  .unfold cH;rw[Y2 l,Y9 i];unfold iV;simp only;have f:Fh a (bc t 2 (aj t 2 Jc (aT σ.ah.length 4 σ))).2:=Fh.of (h.of ((dN ..).u (aF ..)).h) (rS ..);generalize bc t 2 (aj t 2 Jc (aT σ.ah.length 4 σ))=o at *
   have e:=VD (t:=t) 6 [] [] [] (Jj++o.1.text++Jd) (aj t 4 Jv o.2) (f.of (aF ..).h);generalize ga t 6 [] [] [] (Jj++o.1.text++Jd) (aj t 4 Jv o.2)=v at *
   exact(Fe (t:=t) (e.of (aF ..).h) (aj t 4 Jl v.2).ah).of rfl
  .by_cases f:σ.s.x.w=2
   .rw[zg l i f];have n:Fh a (iW σ):=h.of (dN σ.an 24 σ).h;generalize iW σ=c at *
    split
    .unfold jh;simp only;have e:=Fd (t:=t) (n.of (aF (t:=t) 2 Ja c).h) [] true;split
     .omega
     .exact e.of rfl
    .split
     .unfold jS;simp only;have e:Fh a (bc t 2 (aj t 2 Jo c)).2:=Fh.of (n.of (aF ..).h) (rS ..);generalize bc t 2 (aj t 2 Jo c)=d at *
      have j:=Vx (t:=t) 13 [] (Jm++d.1.text++Jd) (aj t 4 Jv d.2) (e.of (aF ..).h);generalize eh t 13 [] (Jm++d.1.text++Jd) (aj t 4 Jv d.2)=g at *
      split
      .omega
      .refine Fh.of (Fh.of (Fh.row (j.of ((aF (t:=t) 4 Jl _).u (aF (t:=t) 4 [59] _)).h) (r:=⟨5,0,0,g.2.1,[],0,[],0⟩) ?_) (CP ..)) rfl;grind [dj]
     .split
      .unfold jG;simp only;have e:Fh a (bc t 2 (aj t 2 Jf c)).2:=Fh.of (n.of (aF ..).h) (rS ..);generalize bc t 2 (aj t 2 Jf c)=d at *
       have j:=VA (t:=t) 14 [] [] (Jp++d.1.text++Jd) (aj t 4 Jv d.2) (e.of (aF ..).h) Zq;generalize eU t 14 [] [] (Jp++d.1.text++Jd) (aj t 4 Jv d.2)=g at *
       refine Fh.of (Fh.of (Fh.row (j.1.of ((aF (t:=t) 4 Jl _).u (aF (t:=t) 4 [59] _)).h) (r:=⟨12,0,0,[],g.1,0,[],0⟩) ?_) (CP ..)) rfl;grind [dj]
      .split
       .unfold ji;simp only;have e:Fh a (bc t 2 (aj t 2 Jh c)).2:=Fh.of (n.of (aF ..).h) (rS ..);generalize bc t 2 (aj t 2 Jh c)=d at *
        have j:Fh a (cz t (aj t 4 [40] (aj t 2 Jn d.2))).2:=e.of ((aF ..).u ((aF ..).u (uL _))).h;generalize cz t (aj t 4 [40] (aj t 2 Jn d.2))=b at *
        have p:Fh a (aj t 4 Jv (aj t 4 [41] (dQ t b.2).2)):=j.of ((oL _).u ((aF ..).u (aF ..))).h;generalize dQ t b.2=m at *
        have q:=VC (t:=t) b.1.1 14 [] [] [m.1.text] (Jr++d.1.text++Ji++b.1.2++[32]++m.1.text++Jx) _ p Zq;generalize fo t b.1.1 14 [] [] [m.1.text] (Jr++d.1.text++Ji++b.1.2++[32]++m.1.text++Jx) (aj t 4 Jv (aj t 4 [41] m.2))=k at *
        have r:=Vw (t:=t) q.1 k.1.2.2.1;generalize jw t k.1.2.2.1 k.2=g at *
        refine Fh.of (Fh.of (Fh.row (r.1.of ((aF (t:=t) 4 Jl _).u (aF (t:=t) 4 [59] _)).h) (r:=⟨13,0,b.1.1,k.1.1,k.1.2.1,g.1.1,[],0⟩) ?_) (CP ..)) rfl;grind [dj]
       .exact h.of rfl
   .unfold cH;rw[Y2 l,Y2 i,Y9 (Y8 f)];exact h.of rfl
end
section
variable {t : Zb} {f g : St} {σ σ' h i a σ0 : ai} {b c : cq} {d : Mar.ac}
def W1(σ0 σ:ai):Prop:=∀a∈σ.G,a.a1=1->a∈σ0.G
theorem Se(σ:ai):W1 σ σ:=λ_ a _=>a
def W1.of(a:W1 σ0 σ)(b:σ'.G=σ.G):W1 σ0 σ':=by unfold W1;rw[b];exact a
def yp(b:W1 σ0 σ):W1 σ0 (bc t 2 σ).2:=by
 unfold bc;split
 .exact b.of (oL σ).G
 .split
  .exact b.of ((oL σ).u (CY ..)).G
  .intro c a d;rcases Yn.1 (show c∈(dQ t σ).2.G++_ from a)with a|a
   .rw[(oL σ).G]at a;exact b c a d
   simp_all
def ahs(e:W1 σ0 σ)(b:Nat)(d g:Int)(h:d≠1):W1 σ0 (jg σ b d g):=by
 intro c a f;rcases List.mem_or_eq_of_mem_set (show c∈σ.G.set b _ from a)with a|a
 .exact e c a f
 simp_all
theorem PO(a:W1 σ0 σ)(c:Zb)(b:Int):W1 σ0 (eR c b σ):=by
 unfold eR;split
 .exact(ahs a _ 0 b Zm).of rfl
 .exact a.of rfl
def aht(d:W1 σ0 σ)(f:Zb)(e:Int):∀a∈(eM f e σ).G,a.a1=1->a∈σ0.G\/a.n=e:=by
 unfold eM;split
 .intro a b c;rcases List.mem_or_eq_of_mem_set (show a∈σ.G.set _ _ from b)with b|b
  .exact Y8 (d a b c)
  simp_all
 .intro a b c;exact Y8 (d a b c)
def ahr:∀(b:Nat) (a:List Int) (d:Zb) (σ:ai),W1 σ0 σ->W1 σ0 (eh t b a d σ).2.2.2:=by
 intro b;induction b with
 |zero=>intro a d σ c;exact c
 |succ b h=>
  intro a d σ c;by_cases g:σ.s.e=0
  .rw[xl g];have i:W1 σ0 (gR t a σ):=by
    unfold gR;refine W1.of ?_ (oa ..).G;unfold iS kX;exact(yp (c.of ((dN ..).u (dN ..)).G)).of ((aF ..).u (iJ ..)).G
   have f:W1 σ0 (hU t a σ):=by
    grind [hU,PO]
   split
   .omega
   .split
    .exact h _ _ _ (f.of (gm _).G)
    omega
  grind [vM]
def abg:∀(a:Nat) (c:List Int) (b:Zc) (d:Zb) (σ:ai),(eU t a c b d σ).2.2.G=σ.G:=by
 intro a;induction a with
 |zero=>intro c b d σ;rfl
 |succ a h=>
  intro c b d σ;by_cases f:σ.s.e=0
  .rw[Ac f];have g:(aj t 4 [59] (hK t c.length b σ).2).G=σ.G:=((dN ..).al.u ((pB ..).u (aF ..).al)).G;grind
  .rw[Ae f]
def abh(of:Int):∀(b:Nat) (a f:List Int) (c:Zc) (d:Zb) (σ:ai),(fo t of b a f c d σ).2.G=σ.G:=by
 intro b;induction b with
 |zero=>intro a f c d σ;rfl
 |succ b i=>
  intro a f c d σ;by_cases g:σ.s.e=0
  .rw[wC g];have h:(dB t c (di t of (14-a.length) a [] σ).2).2.G=σ.G:=((sL ..).1.al.u (rC ..)).G;grind
  .rw[wD g]
def abe(σ:ai):∀b∈(cH t σ).G,b.a1=1->b∈σ.G\/tQ σ.h.length (cH t σ).h.length b.n:=by
 have u:=Se σ;by_cases n:aM σ 2 Je=true
 .unfold cH;rw[Y9 n];intro b c e;refine Y8 ?_;unfold iG at c;simp only at c;have m:W1 σ (bc t 2 (aj t 2 Je (aT σ.ax 40 σ))).2:=yp (u.of ((dN ..).u (aF ..)).G);generalize bc t 2 (aj t 2 Je (aT σ.ax 40 σ))=d at *
  have i:W1 σ (aj t 4 [59] (bU t (-2147483648) 4294967295 (aj t 4 [61] d.2)).2):=m.of ((aF ..).u ((iJ ..).u (aF ..))).G;split at c
  .exact i b c e
  .exact PO i _ _ b c e
 .by_cases m:aM σ 2 Jc=true
  .unfold cH;rw[Y2 n,Y9 m];intro b c e;refine Y8 ?_;unfold iV at c;simp only at c;have i:W1 σ (bc t 2 (aj t 2 Jc (aT σ.ah.length 4 σ))).2:=yp (u.of ((dN ..).u (aF ..)).G);generalize bc t 2 (aj t 2 Jc (aT σ.ah.length 4 σ))=d at *
   have j:W1 σ (aj t 4 Jl (ga t 6 [] [] [] (Jj++d.1.text++Jd) (aj t 4 Jv d.2)).2):=i.of ((aF ..).al.u ((zj ..).u (aF ..).al)).G;generalize ga t 6 [] [] [] (Jj++d.1.text++Jd) (aj t 4 Jv d.2)=v at *
   exact(j.of (rD (t:=t) (aj t 4 Jl v.2).ah _).G) b c e
  .by_cases i:σ.s.x.w=2
   .rw[zg n m i];have p:W1 σ (iW σ):=u.of (dN σ.an 24 σ).G;have L:σ.h.length<=(iW σ).h.length:=(zo σ).am;generalize iW σ=a at *
    have y:∀{h:ai} {b:bt} {q x:Zb},eq a h->W1 σ h->∀d∈(gi x (eM q h.h.length (dm b h))).G,d.a1=1->d∈σ.G\/tQ σ.h.length (gi x (eM q h.h.length (dm b h))).h.length d.n:=by
     intro h b q x M I d w J;rcases aht (σ:=dm b h) (I.of rfl) q h.h.length d w J with k|k;all_goals grind [gi,CP,xA,Nat.le_trans,eq.am]
    split
    .unfold jh;simp only;have G:=EQ (t:=t) [] true (aj t 2 Ja a);have e:W1 σ (dx t [] true (aj t 2 Ja a)).2:=p.of ((aF ..).al.u (pB ..)).G;generalize dx t [] true (aj t 2 Ja a)=z at *
     intro b c k;split at c
     .exact Y8 (e b c k)
     .rename_i H;rw[Y2 H];rcases Yn.1 (show b∈z.2.G++_ from c)with c|c
      .exact Y8 (e b c k)
      .simp at c;subst c;right;refine G.imp id λC=>⟨?_,C.2⟩;have N:((a.h.length:Nat):Int)<=z.1.r:=C.1;grind
    .split
     .unfold jS;simp only;have j:W1 σ (bc t 2 (aj t 2 Jo a)).2:=yp (p.of (aF ..).G);have l:eq a (bc t 2 (aj t 2 Jo a)).2:=(aF ..).al.a4.u (sY ..);generalize bc t 2 (aj t 2 Jo a)=b at *
      have o:=ahr (t:=t) (σ0:=σ) 13 [] (Jm++b.1.text++Jd) (aj t 4 Jv b.2) (j.of (aF ..).G);have s:=l.u ((aF (t:=t) 4 Jv b.2).al.a4.u (Lw (t:=t) 13 [] (Jm++b.1.text++Jd) (aj t 4 Jv b.2)));generalize eh t 13 [] (Jm++b.1.text++Jd) (aj t 4 Jv b.2)=A at *
      split
      .intro d w k;exact Y8 (o d w k)
      .exact y (s.u ((aF (t:=t) 4 Jl _).u (aF (t:=t) 4 [59] _)).al.a4) (o.of ((aF (t:=t) 4 Jl _).u (aF (t:=t) 4 [59] _)).G)
     .split
      .unfold jG;simp only;have j:W1 σ (bc t 2 (aj t 2 Jf a)).2:=yp (p.of (aF ..).G);have l:eq a (bc t 2 (aj t 2 Jf a)).2:=(aF ..).al.a4.u (sY ..);generalize bc t 2 (aj t 2 Jf a)=b at *
       have o:=(j.of (aF (t:=t) 4 Jv b.2).G).of (abg (t:=t) 14 [] [] (Jp++b.1.text++Jd) (aj t 4 Jv b.2));have s:=l.u ((aF (t:=t) 4 Jv b.2).al.a4.u (Lh (t:=t) 14 [] [] (Jp++b.1.text++Jd) (aj t 4 Jv b.2)));generalize eU t 14 [] [] (Jp++b.1.text++Jd) (aj t 4 Jv b.2)=A at *
       exact y (s.u ((aF (t:=t) 4 Jl _).u (aF (t:=t) 4 [59] _)).al.a4) (o.of ((aF (t:=t) 4 Jl _).u (aF (t:=t) 4 [59] _)).G)
      .split
       .unfold ji;simp only;have j:W1 σ (bc t 2 (aj t 2 Jh a)).2:=yp (p.of (aF ..).G);have l:eq a (bc t 2 (aj t 2 Jh a)).2:=(aF ..).al.a4.u (sY ..);generalize bc t 2 (aj t 2 Jh a)=b at *
        have D:Sm b.2 (cz t (aj t 4 [40] (aj t 2 Jn b.2))).2:=(aF ..).u ((aF ..).u (uL _));generalize cz t (aj t 4 [40] (aj t 2 Jn b.2))=g at *
        have E:Sm g.2 (aj t 4 Jv (aj t 4 [41] (dQ t g.2).2)):=(oL _).u ((aF ..).u (aF ..));generalize dQ t g.2=f at *
        have K:=abh (t:=t) g.1.1 14 [] [] [f.1.text] (Jr++b.1.text++Ji++g.1.2++[32]++f.1.text++Jx) (aj t 4 Jv (aj t 4 [41] f.2));have F:=Ly (t:=t) g.1.1 14 [] [] [f.1.text] (Jr++b.1.text++Ji++g.1.2++[32]++f.1.text++Jx) (aj t 4 Jv (aj t 4 [41] f.2));generalize fo t g.1.1 14 [] [] [f.1.text] (Jr++b.1.text++Ji++g.1.2++[32]++f.1.text++Jx) (aj t 4 Jv (aj t 4 [41] f.2))=r at *
        have B:=zh (t:=t) r.1.2.2.1 r.2;generalize jw t r.1.2.2.1 r.2=A at *
        exact y (l.u ((D.u E).al.a4.u (F.u (B.a4.u ((aF (t:=t) 4 Jl _).u (aF (t:=t) 4 [59] _)).al.a4)))) ((((j.of (D.u E).G).of K).of B.G).of ((aF (t:=t) 4 Jl _).u (aF (t:=t) 4 [59] _)).G)
       .intro b c e;exact Y8 c
   .unfold cH;rw[Y2 n,Y2 m,Y9 (Y8 i)];intro b c e;exact Y8 c
def Ve:∀(a:Nat) (b:List Int) (c:Zb) (σ:ai),(eh t a b c σ).2.1.length<=b.length+a:=by
 intro a;induction a with
 |zero=>intro b c σ;exact Y4 _
 |succ a f=>
  intro b c σ;by_cases d:σ.s.e=0
  .rw[xl d];grind
  grind [vM]
def adJ:∀(b:Nat) (a:List Int) (d:Zb) (σ:ai),Rn σ->Rn (eh t b a d σ).2.2.2:=by
 intro b;induction b with
 |zero=>intro a d σ c;exact c
 |succ b i=>
  intro a d σ c;by_cases h:σ.s.e=0
  .rw[xl h];have f:Rn (gR t a σ):=by
    unfold gR;refine Rn.of ?_ (oa ..).h;unfold iS kX;exact Rn.of (Rn.of (Rn.of c ((dN ..).u (dN ..)).h) (rS ..)) ((aF ..).u (iJ ..)).h
   have g:Rn (hU t a σ):=by
    unfold hU;split
    .omega
    .exact f.of (GS ..)
   split
   .omega
   .split
    .exact i _ _ _ (g.of (gm _).h)
    omega
  grind [vM]
def adI(b:Rn σ):Rn (jS t σ):=by
 unfold jS;simp only;have c:Rn (bc t 2 (aj t 2 Jo σ)).2:=zQ (b.al (aF ..).al) 2;generalize bc t 2 (aj t 2 Jo σ)=a at *
 have f:=Ve (t:=t) 13 [] (Jm++a.1.text++Jd) (aj t 4 Jv a.2);have d:=adJ (t:=t) 13 [] (Jm++a.1.text++Jd) (aj t 4 Jv a.2) (c.al (aF ..).al);generalize eh t 13 [] (Jm++a.1.text++Jd) (aj t 4 Jv a.2)=e at *
 split
 .omega
 .refine CL (GL (GK (d.al ((aF ..).u (aF ..)).al) _ ⟨?_,Zq⟩) ..) _;grind
theorem Tf(of:Int):∀(a:Nat) (b:List Int) (c:Zb) (σ:ai),(di t of a b c σ).1.1.length<=b.length+a:=by
 intro a;induction a with
 |zero=>intro b c σ;exact Y4 _
 |succ a f=>
  intro b c σ;by_cases d:σ.s.e=0
  .rw[EE d];split;all_goals grind
  simp_all[di]
def agZ(of:Int):∀(a:Nat) (b c:List Int) (d:Zc) (f:Zb) (σ:ai),b.length<=14->c.length<=14->(fo t of a b c d f σ).1.1.length<=14/\(fo t of a b c d f σ).1.2.1.length<=14:=by
 intro a;induction a with
 |zero=>intro b c d f σ g h;exact⟨g,h⟩
 |succ a j=>
  intro b c d f σ g h;by_cases i:σ.s.e=0
  .rw[wC i];grind [Tf,pC]
  grind [wD]
def adQ(of:Int):∀(b:Nat) (a g:List Int) (c:Zc) (f:Zb) (σ:ai),Rn σ->Rn (fo t of b a g c f σ).2:=by
 intro b;induction b with
 |zero=>intro a g c f σ d;exact d
 |succ b j=>
  intro a g c f σ d;by_cases h:σ.s.e=0
  .rw[wC h];have i:Rn (dB t c (di t of (14-a.length) a [] σ).2).2:=d.al ((sL ..).1.al.u (rC ..));grind
  grind [wD]
def adP(d:Rn σ):Rn (ji t σ):=by
 unfold ji;simp only;have e:Rn (bc t 2 (aj t 2 Jh σ)).2:=zQ (d.al (aF ..).al) 2;generalize bc t 2 (aj t 2 Jh σ)=c at *
 have f:Rn (cz t (aj t 4 [40] (aj t 2 Jn c.2))).2:=e.of ((aF ..).u ((aF ..).u (uL _))).h;generalize cz t (aj t 4 [40] (aj t 2 Jn c.2))=b at *
 have g:Rn (aj t 4 Jv (aj t 4 [41] (dQ t b.2).2)):=f.of ((oL _).u ((aF ..).u (aF ..))).h;generalize dQ t b.2=a at *
 have h:=adQ (t:=t) b.1.1 14 [] [] [a.1.text] (Jr++c.1.text++Ji++b.1.2++[32]++a.1.text++Jx) _ g;have i:=agZ (t:=t) b.1.1 14 [] [] [a.1.text] (Jr++c.1.text++Ji++b.1.2++[32]++a.1.text++Jx) (aj t 4 Jv (aj t 4 [41] a.2)) Zq Zq;generalize fo t b.1.1 14 [] [] [a.1.text] (Jr++c.1.text++Ji++b.1.2++[32]++a.1.text++Jx) (aj t 4 Jv (aj t 4 [41] a.2))=j at *
 refine CL (GL (GK ((h.al (zh ..)).al ((aF ..).u (aF ..)).al) _ ⟨?_,?_⟩) ..) _;all_goals grind
def adH(b:Rn σ):Rn (cH t σ):=by
 by_cases c:aM σ 2 Je=true
 .simp_all[cH,adG]
 .by_cases d:aM σ 2 Jc=true
  .simp_all[cH,adL]
  .by_cases e:σ.s.x.w=2
   .rw[zg c d e];have a:Rn (iW σ):=b.of (dN σ.an 24 σ).h;split
    .exact adO a
    .split
     .exact adI a
     .split
      .exact adM a
      .split
       .exact adP a
       .exact b.of rfl
   .unfold cH;rw[Y2 c,Y2 d,Y9 (Y8 e)];exact b.of rfl
end
section
variable {t : Zb} {g k : St} {d w x z A y : ai} {f l : cq} {u : Mar.ac} {h : List aD} {e : aD}
def lP(a:Zb×Option aD):Option aD:=match a.2 with
 |some e=>if ei e=true then some e else none
 |none=>none
structure Wh(t:Zb)(h:List aD)(f:cq)(g:St)(d:ai):Prop where
 q:Q t f g d
 pd:f.pd=[]
 dc:f.dc=0
 fz:f.fz=d.G
 o:f.o=h.flatMap ET
 ps:YL d.h (h.flatMap KE) f.ps
 rf:f.rf=(h.flatMap ju).map λp=>(p.1,(p.2:Int))
 nl:f.nl.filterMap lP=h.filter ei
 ic:∀p∈f.nl,p.2≠none
 gD:∀p∈f.nl,∀e,p.2=some e->ei e=true->(ce e).1=p.1
 ij:∀(i j:Nat) (a b:ig),d.G[i]?=some a->d.G[j]?=some b->i≠j->a.a1=1->b.a1=1->a.n=b.n->a.n<5
 tr:∀(i:Nat) (r:bt),d.h[i]?=some r->r.w≠14->∀c∈dj r,5<=c->∀m∈d.G,m.a1=1->m.n≠c
 gA:cr d
 rn:Rn d
 ti:pl g h
def xr{c:Type}{b:List c}{a:Nat}{d}(e:b[a]?=some d):a<b.length:=by
 grind
def Q.a1(m:Q t f g d){l:Nat}{c a}(p:f.nl[l]?=some c)(q:d.G[l]?=some a)(r:a.a1=1):∃e,c.2=some e/\ei e=true/\a.s=c.1/\a.y=(ce e).2/\kl d.h f.nl e a.n:=by
 obtain⟨k,b⟩:=m.nm.f8 l c a p q;cases o:c.2 with
 |none=>simp_all
 |some e=>
  rw[o]at b;cases e with
  |const h i j=>omega
  |prog h i j e=>omega
  |typedef e=>exact⟨_,rfl,rfl,k,b.2⟩
  |enum h i j=>exact⟨_,rfl,rfl,k,b.2⟩
  |struct h i j=>exact⟨_,rfl,rfl,k,b.2⟩
  |union h i j e=>exact⟨_,rfl,rfl,k,b.2⟩
def Q.j1(c:Q t f g d){e h:Nat}{a b}(i:d.G[e]?=some a)(j:d.G[h]?=some b)(k:a.s=b.s):e=h:=by
 have l:(d.G.map (·.s)).Nodup:=by rw[c.nm.i7];exact c.nm.nd
 grind [List.pairwise_iff_getElem]
theorem Wh.cG(c:Wh t h f g d)(a6:lC (fP (aJ t)) g=.ok (e,k)):∃l,Wh t (h++[e]) l k (cH t d):=by
 have b0:=OA c.q c.pd c.dc;rw[a6]at b0;obtain⟨r,j,e0,ok,d7⟩:=b0;obtain⟨c4,M,a5⟩:=ok.nl;have a8:=Wt (t:=t) d;have a7:=j.e2.1;rw[ok.fz,c.fz]at a7;obtain⟨d9,d3⟩:=a7;have d2:d.G.length=f.nl.length:=c.q.nm.am;have a4:∀x∈r.nl,x.2≠none:=by
  intro x i;rw[M]at i;rcases Yn.1 i with i|i
  .exact c.ic x i
  grind
 have L:∀(a:Nat) (b:ig),(cH t d).G[a]?=some b->b.a1=1->a<d.G.length\/a=d.G.length:=by
  intro a b s A;rcases Yj a d.G.length with p|p
  .omega
  .right;have w:a<r.nl.length:=by rw[<-j.nm.am];grind
   obtain⟨b3,N⟩:∃b3,r.nl[a]?=some b3:=⟨_,Yd w⟩;obtain⟨c5,a3,R,-⟩:=j.a1 N s A;rcases Yj d.G.length a with D|D
   .exfalso;rw[M,Yw Zm]at N;obtain⟨b2,K⟩:∃b2,a-f.nl.length=b2+1:=⟨a-f.nl.length-1,Zm⟩;rw[K,List.getElem?_cons_succ]at N;obtain⟨c2,c3,e2,P⟩:=a5 _ (Yh N);rw[P]at a3;cases a3
    cases R
   omega
 have H:∀(a:Nat) (b:ig),a<d.G.length->(cH t d).G[a]?=some b->d.G[a]?=some b:=by
  grind
 have a1:∀(b:ig),(cH t d).G[d.G.length]?=some b->b.a1=1->tQ d.h.length (cH t d).h.length b.n:=by
  intro b s A;rcases abe (t:=t) d b (Yh s) A with p|p
  .exfalso;obtain⟨q,z,c9⟩:=List.mem_iff_getElem.1 p;have G:(cH t d).G[q]?=some b:=Zg;have:=j.j1 s G rfl;omega
  omega
 have c7:fP (aJ t) g=.ok (e,{ k with G:=k.G })\/True:=Ya trivial;have S:∃cM,fP (aJ t) g=.ok (e,cM)/\k = { cM with G:=ew cM.G (ce e).1 e }:=by
  cases m:fP (aJ t) g with
  |error u=>grind [lD]
  |ok e1=>
   rw[uo m]at a6;grind
 obtain⟨cM,S,c1⟩:=S;have b4:=c.rn.gy;refine⟨{ r with fz:=(cH t d).G },⟨⟨j.e,j.wd,j.nl,j.pd,j.nm,j.H,j.cn,j.pg,j.cV,j.dK,j.ou,j.pr,j.er,⟨⟨[],Zq⟩,λq x _ i=>a4 x (Yh i)⟩⟩,ok.pd,ok.dc,rfl,?_,?_,?_,?_,a4,?_,?_,?_,aaZ c.gA b4,adH c.rn,?_⟩⟩
 .show r.o=_;rw[ok.o,c.o];simp
 .show YL _ _ r.ps;rw[ok.ps,YK];exact(c.ps.a4 a8).b8 Zg
 .show r.rf=_;rw[ok.rf,c.rf];simp
 .show r.nl.filterMap lP=_;rw[M,List.filterMap_append,c.nl,List.filter_append];grind [lP,List.filterMap_eq_nil_iff,ei]
 .intro x i P a0 b1;have i:x∈r.nl:=i;rw[M]at i;rcases Yn.1 i with i|i
  .exact c.gD x i P a0 b1
  .rcases Yg.1 i with rfl|i
   .grind
   .obtain⟨b,y,v,R⟩:=a5 x i;rw[R]at a0;cases a0
    cases b1
 .intro a q b y s E b7 I F b5;rcases L a b s I with w|w
  .rcases L q y E F with z|z
   .exact c.ij a q b y (H a b w s) (H q y z E) b7 I F b5
   .subst z;have d4:=c.gA b (Yh (H a b w s)) I;rcases a1 y E F with p|p;all_goals omega
  .subst w;rcases L q y E F with z|z
   .have d5:=c.gA y (Yh (H q y z E)) F;rcases a1 b s I with p|p;all_goals omega
   omega
 .intro a O a2 K C m b6 B b8 A;have J:=j.dK a O a2;have c6:C<(max a 5:Nat):=by
   unfold dj at m;split at m
   .simp at m;subst m;exact J.1
   .split at m
    .exact J.2.1 C m
    .split at m
     .rcases Yn.1 m with m|m
      .exact J.2.1 C m
      .simp at m;subst m;exact J.2.2.1
     grind
  have c8:=xr a2;obtain⟨q,z,d0⟩:=List.mem_iff_getElem.1 b8;have G:(cH t d).G[q]?=some B:=Zg;intro b9;rcases L q B G A with p|p
  .have a9:=H q B p G;have d6:=c.gA B (Yh a9) A;rcases Yj a d.h.length with w|w
   .have c0:d.h[a]?=some O:=by
     obtain⟨d8,d1⟩:=a8;grind
    exact c.tr a O c0 K C m b6 B (Yh a9) A b9
   .rcases(Vv (t:=t) d).2 a O a2 w K C m with D|D<;>omega
  .subst p;rcases a1 B G A with D|D;all_goals omega
 .rw[c1];exact c.ti.cG S
end
section
variable {d : Zb} {b j : St} {a k l o p m : ai} {f i : cq} {g : Mar.ac} {h : List aD} {c : aD}
def start(d:Zb):ai:={ lO with s:=⟨iq d 0,0,0⟩,h:=ot }
def vO:cq:=⟨0,[],[],[],[],[],[]⟩
def ahw(d:Zb):Wh d [] vO fW (start d):=by
 have g:∀(a:Nat) (b:bt),ot[a]?=some b->AL (max a 5) b/\b.w≠14/\dj b=[]/\b.aI=[]/\b.aB=[]:=by
  intro a b e;have h:=xr e;have:a=0\/a=1\/a=2\/a=3\/a=4:=by simp[ot]at h;omega
  rcases this with rfl|rfl|rfl|rfl|rfl<;>(simp[ot]at e;subst e;refine⟨⟨Zq,Zq,Zq,Zq⟩,Zq,rfl,rfl,rfl⟩)
 refine⟨⟨rfl,PY d 0,rfl,Y8 rfl,⟨rfl,λa i b f=>by simp[vO]at f,by simp[vO]⟩,rfl,rfl,rfl,⟨[],rfl⟩,λa b e=>(g a b e).1,rfl,rfl,rfl,⟨⟨[],rfl⟩,λr i l=>by simp[vO]at l⟩⟩,rfl,rfl,rfl,rfl,wY _,rfl,rfl,?_,?_,?_,?_,?_,?_,?_⟩
 .intro i f;simp[vO]at f
 .intro i f;simp[vO]at f
 .grind [start,lO]
 .intro a b e q n k;rw[(g a b e).2.2.1]at k;grind
 .intro s m;simp[start,lO]at m
 .refine⟨by simp[start,ot],?_⟩;intro b e;obtain⟨a,h⟩:=List.mem_iff_getElem?.1 e;obtain⟨-,-,-,o,p⟩:=g a b h;simp_all
 .exact⟨by simp[fW],by simp[fW],by simp[fW],Zq,λt c j=>by simp[fW,aP]at j⟩
def hg(a:ai)(b:bt):bt:=if b.w=14 then { b with of:=(gq a b.a5).n }else b
def iU(a:ai)(b:Nat):ai:={ a with h:=(a.h.take b).map (hg a)++a.h.drop b }
def acn(a:ai):iU a 0=a:=Zr
def acm(a:ai):iU a a.h.length = { a with h:=a.h.map (hg a) }:=by simp[iU]
def Gt{b:Nat}{c}(d:a.h[b]?=some c):(iU a b).h.getD b bz=c:=by
 have e:=xr d;have f:((a.h.take b).map (hg a)).length=b:=Zg;simp_all[iU,Yw]
def Ny{b:Nat}{c}(d:a.h[b]?=some c):iU a (b+1) = { iU a b with h:=(iU a b).h.set b (hg a c) }:=by
 have e:=xr d;have f:((a.h.take b).map (hg a)).length=b:=Zg;simp_all[iU,Yk,List.take_succ]
def fv(b:St)(a:Zb):Bool:=match aP b.G a with
 |some c=>vT c
 |none=>false
theorem ZJ(b:St)(a:Zb×Nat):qu b a=if fv b a.1=true then .ok ()else .error ⟨7,a.2⟩:=by
 unfold qu fv;grind
def Dm(l:Q d f b a)(w:f.pd=[])(e:Zb):(fv b e=true/\∃(k:Nat) (c:aD) (g:ig),aP b.G e=some (some c)/\ei c=true/\f.nl[k]?=some (e,some c)/\a.G[k]?=some g/\g.a1=1/\gq a e=g/\¬(bY a e<0\/(gq a e).a1≠1))\/(fv b e=false/\(bY a e<0\/(gq a e).a1≠1)):=by
 have v:b.G=f.nl:=by rw[l.nl,w];simp
 unfold fv;rw[v];rcases l.hk e with⟨o,s⟩|⟨k,x,g,o,s,p,q,t⟩
 .simp_all
 .have u:gq a e=g:=by
   grind [gq]
  rw[o];simp only;by_cases r:g.a1=1
  .obtain⟨c,m,n,-⟩:=l.a1 p q r;simp only at m;subst m;left;exact⟨n,k,c,g,rfl,n,p,q,r,u,Zu⟩
  .right;refine⟨?_,Ya Zu⟩;have y:=t.2;cases x with
   |none=>rfl
   |some c=>
    cases c with
    |const h i j=>rfl
    |prog h i j c=>rfl
    |typedef c=>omega
    |enum h i j=>omega
    |struct h i j=>omega
    |union h i j c=>omega
abbrev BP(b:St):pY Unit:=mj ⟨0,0,0,0,[]⟩ ⟨#[]⟩ b [] 0
def ago(b:St)(a:Zb×Nat)(c:List (Zb×Nat)):hj (BP b) (a::c) ()=if fv b a.1=true then hj (BP b) c ()else .error ⟨7,a.2⟩:=by
 conv=>lhs;unfold hj
 have d:(BP b).a9 a ()=qu b a:=rfl;grind [ZJ]
def ac4(a:bt)(b:List bt):oJ (a::b)=if a.w=14 then (a.a5,a.y)::oJ b else oJ b:=by
 unfold oJ;grind
def ac8(v:Q d f b a)(K:f.pd=[]):∀(o h:Nat) (j:List (Zb×Nat)),h+o=a.h.length->oJ (a.h.drop h)=j.map (λl=>(l.1,(l.2:Int)))->
  match hj (BP b) j ()with
  |.error g=>Er g (rQ o h (iU a h))
  |.ok _=>rQ o h (iU a h)=iU a a.h.length/\∀l∈j,fv b l.1=true:=by
 intro o;induction o with
 |zero=>
  intro h j I i;have:h=a.h.length:=Zm;subst this;rw[List.drop_length]at i;have:j=[]:=by
   cases j with
   |nil=>rfl
   |cons A j=>simp[oJ]at i
  subst this;exact⟨rfl,Zq⟩
 |succ o z=>
  intro h j I i;have r:h<a.h.length:=Zm;obtain⟨k,m⟩:∃k,a.h[h]?=some k:=⟨_,Yd r⟩;have F:a.h.drop h=k::a.h.drop (h+1):=by
   rw[Yk r];rw[Yd r]at m;cases m
   rfl
  rw[F,ac4]at i;unfold rQ;rw[Gt m];by_cases q:k.w=14
  .rw[Y9 q]at i ⊢;cases j with
   |nil=>simp at i
   |cons l j=>
    simp only[List.map_cons,List.cons.injEq,Prod.mk.injEq]at i;obtain⟨⟨y,D⟩,i⟩:=i;rw[ago];have H:bY (iU a h) k.a5=bY a k.a5:=rfl;have J:gq (iU a h) k.a5=gq a k.a5:=rfl;rw[H,J,y];rcases Dm v K l.1 with⟨p,N,c,O,-,-,-,-,-,M,C⟩|⟨p,B⟩
    .rw[Y9 p,Y2 C];have t:qA (iU a h) h (gq a l.1).n=iU a (h+1):=by
      rw[<-y,Ny m];unfold qA;rw[Gt m];unfold hg;rw[Y9 q]
     rw[t];have:=z (h+1) j Zm i;split at this
     .rename_i g E;exact this
     .rename_i P E;refine⟨this.1,?_⟩;intro L u;rcases Yg.1 u with rfl|u
      .exact p
      .exact this.2 L u
    .rw[Y2 (by rw[p];simp),Y9 B,D];have G:(iU a h).s.e=0:=v.e;exact IF G (e:=7) (a:=l.2) Zm
  .rw[Y2 q]at i ⊢;have t:iU a h=iU a (h+1):=by
    rw[Ny m];unfold hg;rw[Y2 q];have:(iU a h).h.set h k=(iU a h).h:=by
     have w:=Gt m;apply On;have x:h<(iU a h).h.length:=by
      unfold iU;simp;omega
     rw[Yd x];rw[List.getD_eq_getElem?_getD,Yd x]at w;simpa using w
    rw[this]
   rw[t];exact z (h+1) j Zm i
def dG(a:ai):ai:={ a with h:=a.h.map (hg a) }
def aeM(c:Wh d h f b a):match pD b h with
  |.error g=>Er g (qG a)
  |.ok _=>qG a=dG a/\∀e∈h.flatMap ju,fv b e.1=true:=by
 have:=ac8 c.q c.pd a.h.length 0 (h.flatMap ju) Zm (by rw[List.drop_zero,c.q.er,c.rf]);rw[acn,acm]at this;exact this
end
end Go.Proofs.YtjdhaegijjednaaGreatDoor
namespace Go.Proofs.YtjdhaegijjednaaGreatDoor
open Go.RowKit
open Relation
open Go.Proofs.Tryz
section
variable {P:Nat->Prop}{a:List Bool}{y:Nat}
variable {σ : ai} {st : St}
def Re(σ:ai)(b y:Nat):Prop:=∃a,σ.h[b]?=some a/\(y:Int)∈dj a
abbrev Sn(a:List Bool)(b:Nat):Prop:=a.getD b false=true
def ae4{b}:Sn (a.set b true) y↔Sn a y\/(y=b/\b<a.length):=by
 grind
theorem xZ:∀(b:List Int) (a:List Bool) (y:Nat),Sn (kB b a) y↔Sn a y\/((y:Int)∈b/\y<a.length):=by
 intro b;induction b with
 |nil=>intro a y;simp[kB]
 |cons c b f=>
  intro a y;have d:kB (c::b) a=kB b (if 0<=c then a.set c.toNat true else a):=rfl
  rw[d,f];by_cases e:0<=c
  .rw[Y9 e,ae4];simp only[YF,Yg];grind
  grind
def Ob{a:Nat}(b:a<σ.h.length):σ.h[a]?=some (σ.h.getD a bz):=Zg
def GQ:∀(b c:Nat) (a:List Bool) (y:Nat),Sn a y->Sn (jC σ b c a) y:=by
 intro b;induction b<;>grind [jC,xZ]
def adY:∀(d c:Nat) (a:List Bool) (b y:Nat),c<=b->b<c+d->Sn a b->Re σ b y->y<a.length->Sn (jC σ d c a) y:=by
 intro d;induction d with
 |zero=>omega
 |succ d m=>
  intro c a b y h i g f l;unfold jC;by_cases e:b=c
  .subst e;apply GQ;rw[Y9 g,xZ];obtain⟨n,j,k⟩:=f;simp_all
  grind [FL,xZ]
def adX(h:∀g y,P g->Re σ g y->P y):∀(c b:Nat) (a:List Bool),b+c<=σ.h.length->(∀y,Sn a y->P y)->∀y,Sn (jC σ c b a) y->P y:=by
 intro c;induction c with
 |zero=>intro b a _ d;exact d
 |succ c j=>
  intro b a k d;unfold jC;apply j (b+1) _ Zm;intro y f;split at f
  .rename_i i;rcases(xZ ..).1 f with e|⟨e,-⟩
   .grind
   .exact h b y (d b i) ⟨_,Ob Zm,e⟩
  grind
def ad3:∀(b:Nat) (a:List Bool) (y:Nat),Sn a y->Sn (iv σ b a) y:=by
 intro b;induction b with
 |zero=>intro a y c;exact c
 |succ b d=>intro a y c;exact d _ _ (GQ _ _ _ _ c)
def Oa(e:∀d y,P d->Re σ d y->P y):∀(b:Nat) (a:List Bool),(∀y,Sn a y->P y)->∀y,Sn (iv σ b a) y->P y:=by
 intro b;induction b with
 |zero=>intro a c;exact c
 |succ b f=>intro a c;exact f _ (adX e _ _ _ Zm c)
def adR:∀(b:Nat) (a:List Bool),(iv σ b a).length=a.length:=by
 intro b;induction b<;>grind [iv,NZ]
def mR:List Bool->Nat
 |[]=>0
 |b::a=>(if b then 1 else 0)+mR a
def Tw(a:List Bool):mR a<=a.length:=by
 induction a with
 |nil=>exact Y4 _
 |cons b a c=>grind [mR]
def Tx:∀(a b:List Bool),a.length=b.length->(∀y,Sn a y->Sn b y)->a≠b->mR a+1<=mR b:=by
 have p:∀(a b:List Bool),a.length=b.length->(∀y,Sn a y->Sn b y)->mR a<=mR b:=by
  intro a;induction a with
  |nil=>grind
  |cons c a h=>
   intro b j d;cases b with
   |nil=>grind
   |cons e b=>
    have k:=h b Zu (λy g=>d (y+1) g);have i:c=true->e=true:=λf=>d 0 (show (c::a).getD 0 false=true from f);simp only[mR];grind
 intro a;induction a with
 |nil=>grind
 |cons c a h=>
  intro b j d n;cases b with
  |nil=>grind
  |cons e b=>
   have m:a.length=b.length:=Zu;have o:∀y,Sn a y->Sn b y:=λy g=>d (y+1) g;have i:c=true->e=true:=λf=>d 0 (show (c::a).getD 0 false=true from f);simp only[mR];by_cases l:a=b;all_goals grind
theorem ad4(c:jC σ σ.h.length 0 a=a):∀b,iv σ b a=a:=by
 intro b;induction b<;>grind [iv]
def ad1:∀(b:Nat) (a:List Bool),jC σ σ.h.length 0 (iv σ b a)=iv σ b a\/mR a+b<=mR (iv σ b a):=by
 intro b;induction b with
 |zero=>intro a;exact Ya (Y4 _)
 |succ b g=>
  intro a;by_cases d:jC σ σ.h.length 0 a=a
  .grind [ad4]
  .have f:=Tx a (jC σ σ.h.length 0 a) (NZ ..).symm (λy e=>GQ _ _ _ _ e) (λc=>d c.symm);grind [iv]
def Tz(b:Sn a y):1<=mR a:=by
 induction a generalizing y with
 |nil=>cases b
 |cons d a c=>
  cases y with
  |zero=>
   grind [mR]
  |succ y=>have:=c (y:=y) b;simp only[mR];omega
theorem adZ(i:a.length=σ.h.length){d}(e:Sn (iv σ σ.h.length a) d)(h:Re σ d y)(c:y<σ.h.length):Sn (iv σ σ.h.length a) y:=by
 have g:=adR (σ:=σ) σ.h.length a;have j:jC σ σ.h.length 0 (iv σ σ.h.length a)=iv σ σ.h.length a:=by
  rcases ad1 (σ:=σ) σ.h.length a with b|b
  .exact b
  .have f:=Tw (iv σ σ.h.length a);rw[g,i]at f;have l:mR a=0:=Zm;have k:∀y,¬Sn a y:=λy c=>by have:=Tz c;omega
   exfalso;exact Oa (σ:=σ) (P:=λ_=>False) (λ_ _ b _=>b) σ.h.length a (λy c=>k y c) d e
 rw[<-j];exact adY _ _ _ d y (YV _) Zg e h Zm
theorem NI(d:yC σ){f}(a:Re σ f y):y<σ.h.length:=by
 obtain⟨e,b,c⟩:=a;have:=(d e (Yh b)).2 y c;omega
def UW(f:yC σ){r:Nat}(d:r<σ.h.length):sS σ r=true↔TransGen (Re σ) r r:=by
 unfold sS;have j:(kB (dj (σ.h.getD r bz)) (List.replicate σ.h.length false)).length=σ.h.length:=by rw[FL];simp
 have i:∀y,¬Sn (List.replicate σ.h.length false) y:=λy b=>by
  grind
 constructor
 .intro c;refine Oa (σ:=σ) (P:=λy=>TransGen (Re σ) r y) (λn y e b=>TransGen.tail e b) σ.h.length _ ?_ r c;intro y b;rcases(xZ ..).1 b with a|⟨a,-⟩
  .grind
  .exact TransGen.single ⟨_,Ob d,a⟩
 .intro c;have all:∀y,TransGen (Re σ) r y->Sn (iv σ σ.h.length (kB (dj (σ.h.getD r bz)) (List.replicate σ.h.length false))) y:=by
   intro y b;induction b with
   |single a=>
    apply ad3;rw[xZ];right;have k:=NI f a;obtain⟨m,g,h⟩:=a;simp_all
   |tail _ a l=>grind [adZ,NI]
  grind
def Ne(st:St)(c b:Zb):Prop:=∃a,(b,a)∈qs st c
def Kw(st:St)(a:Zb):Prop:=a∈st.G.map (·.1)
def ag5{a b:Zc}(d:∀c∈a,c∈b):kK st b<=kK st a:=by
 unfold kK;induction st.G<;>grind
def PH{a}{b:Zb}(f:b ∉ a)(d:Kw st b):kK st (a++[b])+1<=kK st a:=by
 unfold kK Kw at *
 revert d;induction st.G with
 |nil=>simp
 |cons c e g=>
  intro d;have h:e.countP (λc=>!(a++[b]).contains c.1)<=e.countP (λc=>!a.contains c.1):=by
   simp_all[List.countP_mono_left]
  grind
structure Fo(st:St)(src:Zb->Prop)(t R:Zc):Prop where
 ca:∀x∈t,x∈R
 br:∀n,src n->n∈R
 i0:∀x∈R,x∈t\/∃n,src n/\(x=n\/TransGen (Ne st) n x)
 cl:∀x∈R,x ∉ t->∀y,Ne st x y->y∈R
def Ln{k:Nat}(q:∀c a,Kw st c->kK st a<=k->Fo st (λd=>d=c) a (follow st k c a)):∀(h:List (Zb×Nat)) (a:Zc),(∀d∈h,Kw st d.1)->kK st a<=k->Fo st (λc=>∃l,(c,l)∈h) a (h.foldl (λa d=>follow st k d.1 a) a):=by
 intro h;induction h with
 |nil=>intro a _ _;exact⟨λb f=>f,λc f=>Zu,λb f=>Y8 f,λb f e=>absurd f e⟩
 |cons d h s=>
  intro a n o;have i:=q d.1 a (n d Zq) o;have e:=s (follow st k d.1 a) (λb g=>n b Zg) (Yz (ag5 i.ca) o);rw[YY];refine⟨λb g=>e.ca b (i.ca b g),?_,?_,?_⟩
  .rintro c ⟨l,m⟩;rcases Yg.1 m with t|m
   .exact e.ca c (i.br c Zg)
   .exact e.br c ⟨l,m⟩
  .intro b g;rcases e.i0 b g with j|⟨c,⟨l,j⟩,u⟩
   .rcases i.i0 b j with v|⟨c,rfl,w⟩;all_goals grind
   grind
  .intro b g r y p;by_cases j:b∈follow st k d.1 a
   .exact e.ca y (i.cl b j r y p)
   .exact e.cl b g j y p
def VX(o:∀a c,Ne st a c->Kw st c):∀(k:Nat) (a:Zb) (e:Zc),Kw st a->kK st e<=k->Fo st (λc=>c=a) e (follow st k a e):=by
 intro k;induction k with
 |zero=>
  intro a e l q;have:a∈e:=by
   rcases Classical.em (a∈e)with b|b
   .exact b
   .have:=PH b l;omega
  exact⟨λd b=>b,λc f=>by subst f;exact this,λd b=>Y8 b,λd b h=>absurd b h⟩
 |succ k s=>
  intro a e l q;unfold follow;by_cases p:a∈e
  .rw[Y9 Zu];exact⟨λd b=>b,λc f=>by simp_all,λd b=>Y8 b,λd b h=>absurd b h⟩
  .rw[Y2 Zu];have g:=Ln (k:=k) (λa e g h=>s a e g h) (qs st a) (e++[a]) (λc f=>o a c.1 ⟨c.2,f⟩) (by have:=PH p l;omega);refine⟨λd i=>g.ca d (Yf _ i),λc f=>by subst f;exact g.ca _ Zq,?_,?_⟩
   .intro d i;rcases g.i0 d i with h|⟨c,f,j⟩
    .grind
    .right;refine⟨a,rfl,Ya ?_⟩;have m:Ne st a c:=f;rcases j with rfl|j
     .exact TransGen.single m
     .exact TransGen.trans (TransGen.single m) j
   .intro d i t y n;by_cases r:d=a
    .subst r;exact g.br y n
    .exact g.cl d i Zu y n
def ade(m:∀j a,Ne st j a->Kw st a){d}(o:qs st (ce d).1=gp d):qH st d=true↔TransGen (Ne st) (ce d).1 (ce d).1:=by
 unfold qH;have i:∀a c,(a,c)∈gp d->Ne st (ce d).1 a:=λa c h=>⟨c,Zu⟩;have e:=Ln (k:=kK st []) (λj l e b=>VX m _ j l e b) (gp d) [] (λa g=>m _ _ (i a.1 a.2 g)) (Y4 _);generalize (gp d).foldl (λl a=>follow st (kK st []) a.1 l) []=n at *
 rw[List.contains_iff_mem];constructor
 .intro h;rcases e.i0 _ h with b|⟨a,⟨c,g⟩,f⟩
  .grind
  .rcases f with f|f
   .rw[<-f]at g;exact TransGen.single (i _ _ g)
   .exact TransGen.trans (TransGen.single (i _ _ g)) f
 .intro h;have all:∀y,TransGen (Ne st) (ce d).1 y->y∈n:=by
   intro y p;induction p with
   |single b=>
    obtain⟨c,b⟩:=b;rw[o]at b;exact e.br _ ⟨c,b⟩
   |tail _ b q=>exact e.cl _ q Zq _ b
  simp_all
end
section
variable {r:ig}{y:Nat}
variable {e : Zb} {st : St} {a : ai} {b : cq} {c : List aD}
def my(st:St)(c:List aD):Prop:=∀a∈c.flatMap ju,fv st a.1=true
structure vv(e:Zb)(st:St)(b:cq)(a:ai)(n:Zb)(d:aD)(r:ig):Prop where
 kj:aP st.G n=some (some d)
 H:ei d=true
 y:∃i:Nat,b.nl[i]?=some (n,some d)/\a.G[i]?=some r
 a1:r.a1=1
 a5:gq a n=r
 g0:kl a.h b.nl d r.n
 aa:0<=r.n/\r.n<a.h.length
 gD:(ce d).1=n
 n0:r.y=(ce d).2
def Wh.f2(d:Wh e c b st a){j:Zb}(u:fv st j=true):∃f r,vv e st b a j f r:=by
 rcases Dm d.q d.pd j with⟨-,s,f,r,l,m,g,h,i,p,-⟩|⟨l,-⟩
 .obtain⟨t,k,-,-,n,o⟩:=d.q.a1 g h i;simp only[Yu]at k;subst k;exact⟨f,r,l,m,⟨s,g,h⟩,i,p,o,d.gA r (Yh h) i,d.gD _ (Yh g) f rfl m,n⟩
 simp_all
abbrev iw(a:ai)(b:Zb):Nat:=(gq a b).n.toNat
def vv.iL{d c}(f:vv e st b a d c r):qs st d=gp c:=by
 unfold qs;rw[f.kj]
def Wh.ne(j:Wh e c b st a)(l:my st c){h}{f:Zb×Nat}(d:f∈qs st h):fv st f.1=true:=by
 unfold qs at d;cases i:aP st.G h with
 |none=>simp_all
 |some m=>
  cases m with
  |none=>simp_all
  |some g=>
   rw[i]at d;simp only at d;rcases j.ti.nm h g i with k|⟨n,o,v,rfl⟩
   .exact l f (List.mem_flatMap.2 ⟨g,k,LZ g f d⟩)
   .simp[gp]at d
def agV{a:Zb}(c:fv st a=true):Kw st a:=by
 unfold fv aP at c;cases b:st.G.find? (λe=>e.1==a)with
 |none=>simp_all
 |some f=>
  have d:=List.mem_of_find?_eq_some b;have g:=List.find?_some b;exact YE.2 ⟨f,d,Zu⟩
def acZ{c:Nat}{b}(e:a.h[c]?=some b)(d:b.w=14)(f:(y:Int)=(gq a b.a5).n):Re (dG a) c y:=by
 refine⟨hg a b,?_,?_⟩
 .show (a.h.map (hg a))[c]?=_;simp_all
 simp_all[hg,dj]
def CI{c:Nat}{b}(e:a.h[c]?=some b)(d:b.w≠14)(f:(y:Int)∈dj b):Re (dG a) c y:=by
 refine⟨hg a b,?_,?_⟩
 .show (a.h.map (hg a))[c]?=_;simp_all
 simp_all[hg]
def GB{d}(f:Re (dG a) d y):∃b,a.h[d]?=some b/\((b.w=14/\(y:Int)=(gq a b.a5).n)\/(b.w≠14/\(y:Int)∈dj b)):=by
 obtain⟨b,c,g⟩:=f;have c:(a.h.map (hg a))[d]?=some b:=c;rw[List.getElem?_map]at c;cases h:a.h[d]? with
 |none=>simp_all
 |some e=>
  rw[h]at c;simp only[Option.map_some,Yu]at c;subst c;refine⟨e,rfl,?_⟩;unfold hg at g;by_cases i:e.w=14;all_goals simp_all[dj]
def Wh.io(t:Wh e c b st a):∀{h:Ty} {g:Int} {f:Zb×Nat},dA a.h h g->f∈ia h->fv st f.1=true->0<=g/\TransGen (Re (dG a)) g.toNat (iw a f.1):=by
 intro h;induction h with
 |plain z=>grind [ia]
 |named B v=>
  rintro g f ⟨j,A,k,l,m,-⟩ d n;simp[ia]at d;subst d;obtain⟨w,r,s⟩:=t.f2 n;refine⟨j,TransGen.single (acZ k l ?_)⟩;rw[m];unfold iw;have:=s.aa;rw[s.a5];omega
 |opaq p i=>grind [ia]
 |str p i=>grind [ia]
 |arr q p i o=>
  rintro g f ⟨j,u,k,l⟩ d n;cases i with
  |false=>simp[ia]at d
  |true=>
   have d:f∈ia q:=by simpa[ia]using d
   obtain⟨x,m⟩:=o l d n;refine⟨j,TransGen.trans (TransGen.single (CI (y:=u.toNat) k (by simp[dd]) ?_)) m⟩;grind [dj,dd]
 |opt q o=>grind [ia]
 |void=>grind [ia]
def Wh.j8(o:Wh e c b st a){w h}(A:vv e st b a w h r){x:Zb×Nat}(d:x∈gp h)(q:fv st x.1=true):TransGen (Re (dG a)) (iw a w) (iw a x.1):=by
 have M:iw a w=r.n.toNat:=by unfold iw;rw[A.a5]
 rw[M];have j:=A.g0;cases h with
 |const l n g=>exact j.elim
 |prog l n g h=>exact j.elim
 |typedef h=>exact(o.io j.1 d q).2
 |enum l n g=>simp[gp]at d
 |struct l n R=>
  obtain⟨G,k,p,H,s⟩:=j;simp only[gp,List.mem_flatMap]at d;obtain⟨N,K,d⟩:=d;obtain⟨f,t⟩:=List.mem_iff_getElem?.1 K;have u:f<k.length:=Zg;have v:=Yd u;obtain⟨z,i⟩:=o.io (s f _ N v t) d q;refine TransGen.trans (TransGen.single (CI (y:=(k[f]).toNat) p Zq ?_)) i;grind [dj]
 |union l n S E=>
  obtain⟨G,of,k,F,p,-,H,s,B,I⟩:=j;simp only[gp,List.mem_flatMap]at d;obtain⟨m,C,d⟩:=d;by_cases D:m.1=[]
  .have J:=I m C D;rw[J]at B;obtain⟨z,i⟩:=o.io B d q;refine TransGen.trans (TransGen.single (CI (y:=F.toNat) p Zq ?_)) i;grind [dj]
  .obtain⟨g,O,P⟩:=List.exists_cons_of_ne_nil D;have L:(g,m.2)∈dh E:=List.mem_flatMap.2 ⟨m,C,YE.2 ⟨g,Zu,rfl⟩⟩;obtain⟨f,t⟩:=List.mem_iff_getElem?.1 L;have u:f<k.length:=Zg;have v:=Yd u;obtain⟨z,i⟩:=o.io (s f _ _ v t) d q;refine TransGen.trans (TransGen.single (CI (y:=(k[f]).toNat) p Zq ?_)) i;grind [dj]
def Wh.m5(f:Wh e c b st a)(k:my st c){j:Zb}(o:fv st j=true){i}(p:TransGen (Ne st) j i):fv st i=true/\TransGen (Re (dG a)) (iw a j) (iw a i):=by
 induction p with
 |single d=>
  obtain⟨m,d⟩:=d;have g:=f.ne k d;obtain⟨n,r,h⟩:=f.f2 o;rw[h.iL]at d;exact⟨g,f.j8 h d g⟩
 |tail _ d l=>
  obtain⟨m,d⟩:=d;have g:=f.ne k d;obtain⟨n,r,h⟩:=f.f2 l.1;rw[h.iL]at d;exact⟨g,TransGen.trans l.2 (f.j8 h d g)⟩
def wO(st:St)(a:ai)(b:Zb)(d:Nat):Prop:=d=iw a b\/∃c,dA a.h c d/\∀e∈ia c,e∈qs st b
def Ke(g:Q e b st a){c:Nat}{f}(d:a.h[c]?=some f)(i:c<5):f.w≠14/\dj f=[]:=by
 obtain⟨j,h⟩:=g.cV;rw[h,Ys (by simp[ot];omega)]at d;have:c=0\/c=1\/c=2\/c=3\/c=4:=Zm;rcases this with rfl|rfl|rfl|rfl|rfl<;>(simp[ot]at d;subst d;exact⟨Zq,rfl⟩)
def Wh.kt(B:Wh e c b st a){i r}{g:Nat}(f:dA a.h r (g:Int))(x:∀p∈ia r,p∈qs st i)(D:Re (dG a) g y):(∃n,Ne st i n/\(y:Int)=(gq a n).n)\/(wO st a i y/\∃(g:Nat) (j:bt),a.h[g]?=some j/\j.w≠14/\(y:Int)∈dj j):=by
 obtain⟨j,h,v⟩:=GB D;have m:((g:Int)).toNat=g:=Zq;have o:j.w≠14->dj j=[]->False:=λF G=>by
  simp_all
 cases r with
 |plain L=>
  have H:=f.1;have I:=f.2;have E:=Ke B.q h Zm;simp_all
 |named n s=>
  obtain⟨-,M,t,u,J,-⟩:=f;rw[m,h]at t;cases t
  rcases v with⟨-,l⟩|⟨l,-⟩
  .left;exact⟨n,⟨s,x (n,s) (by simp[ia])⟩,Zu⟩
  omega
 |opaq i k=>
  have d:=f.2;rw[m,h]at d;cases d
  exact(o (by cases k<;>simp[fV]) (by cases k<;>rfl)).elim
 |str i k=>
  have d:=f.2;rw[m,h]at d;cases d
  exact(o (by simp[fV]) rfl).elim
 |arr A i k=>
  obtain⟨-,z,d,u⟩:=f;rw[m,h]at d;cases d
  cases k with
  |false=>exact(o (by simp[dd]) rfl).elim
  |true=>
   rcases v with⟨l,-⟩|⟨l,w⟩
   .simp[dd]at l
   .right;have K:(y:Int)=z:=by simpa[dj,dd]using w
    exact⟨Ya ⟨A,Zu,λp C=>x p (by simpa[ia]using C)⟩,g,_,h,l,w⟩
 |opt A=>
  obtain⟨-,z,d,u⟩:=f;rw[m,h]at d;cases d
  exact(o (by simp[dd]) rfl).elim
 |void=>have:(g:Int) = -1:=f;omega
def Wh.ms(A:Wh e c b st a){k:Zb}(a4:fv st k=true){w}(a2:wO st a k w)(D:Re (dG a) w y):(∃P,Ne st k P/\(y:Int)=(gq a P).n)\/(wO st a k y/\∃(w:Nat) (u:bt),a.h[w]?=some u/\u.w≠14/\(y:Int)∈dj u):=by
 rcases a2 with rfl|⟨a8,d,a6⟩
 .obtain⟨l,r,v⟩:=A.f2 a4;have O:iw a k=r.n.toNat:=by unfold iw;rw[v.a5]
  have a5:((iw a k:Nat):Int)=r.n:=by rw[O];have:=v.aa;omega
  have t:=v.iL;have d:=v.g0;obtain⟨u,m,I⟩:=GB D;rw[O]at m;cases l with
  |const h p z=>exact d.elim
  |prog h p z l=>exact d.elim
  |typedef l=>exact A.kt (by rw[a5];exact d.1) (λG g=>by rw[t];exact g) D
  |enum h p z=>
   have i:=d.2;grind [dj]
  |struct h p F=>
   obtain⟨S,H,i,a0,B⟩:=d;rw[m]at i;cases i
   rcases I with⟨q,-⟩|⟨q,J⟩
   .grind
   .right;have j:(y:Int)∈H:=by simpa[dj]using J
    obtain⟨f,C⟩:=List.mem_iff_getElem?.1 j;have s:f<F.length:=Zg;refine⟨Ya ⟨F[f].H,B f _ _ C (Yd s),λG g=>?_⟩,_,_,m,q,J⟩;rw[t];exact List.mem_flatMap.2 ⟨F[f],Yy s,g⟩
  |union h p a7 o=>
   obtain⟨S,of,H,R,i,-,a0,B,q,-⟩:=d;rw[m]at i;cases i
   rcases I with⟨K,-⟩|⟨K,L⟩
   .grind
   .right;refine⟨?_,_,_,m,K,L⟩;have j:(y:Int)∈H\/(y:Int)=R:=by simpa[dj]using L
    rcases j with j|j
    .obtain⟨f,C⟩:=List.mem_iff_getElem?.1 j;have s:f<(dh o).length:=Zg;obtain⟨E,N⟩:∃E,(dh o)[f]?=some E:=⟨_,Yd s⟩;refine Ya ⟨E.2.H,B f _ _ C N,λG g=>?_⟩;rw[t];obtain⟨x,a1,a3⟩:=List.mem_flatMap.1 (Yh N);obtain⟨z,-,rfl⟩:=YE.1 a3;exact List.mem_flatMap.2 ⟨x,a1,g⟩
    .cases n:jv o with
     |none=>simp_all
     |some l=>
      rw[n]at q;refine Ya ⟨l.H,Zu,λG g=>?_⟩;rw[t];unfold jv at n;cases M:o.find? (λh=>h.1.isEmpty)with
      |none=>simp_all
      |some x=>
       rw[M]at n;simp at n;subst n;exact List.mem_flatMap.2 ⟨x,List.mem_of_find?_eq_some M,g⟩
 .exact A.kt d a6 D
def Wh.up(n:Wh e c b st a)(q:my st c){f:Zb}(s:fv st f=true)(t:TransGen (Re (dG a)) (iw a f) y):(∃g,TransGen (Ne st) f g/\fv st g=true/\y=iw a g)\/(∃d,(d=f\/TransGen (Ne st) f d)/\fv st d=true/\wO st a d y/\∃(i:Nat) (h:bt),a.h[i]?=some h/\h.w≠14/\(y:Int)∈dj h):=by
 have p:∀{d:Zb} {i y:Nat},(d=f\/TransGen (Ne st) f d)->fv st d=true->wO st a d i->Re (dG a) i y->
   (∃g,TransGen (Ne st) f g/\fv st g=true/\y=iw a g)\/(∃d,(d=f\/TransGen (Ne st) f d)/\fv st d=true/\wO st a d y/\∃(i:Nat) (h:bt),a.h[i]?=some h/\h.w≠14/\(y:Int)∈dj h):=by
  intro d i y m v r u;rcases n.ms v r u with⟨g,j,A⟩|⟨k,l⟩
  .left;refine⟨g,?_,?_,?_⟩
   .rcases m with rfl|m
    .exact TransGen.single j
    .exact TransGen.tail m j
   .obtain⟨x,j⟩:=j;exact n.ne q j
   grind
  grind
 induction t with
 |single k=>exact p (Y8 rfl) s (Y8 rfl) k
 |tail _ k w=>
  rcases w with⟨g,l,o,rfl⟩|⟨d,l,o,z,-⟩
  .exact p (Ya l) o (Y8 rfl) k
  grind
def VP{a:Type}{r:a->a->Prop}{b c:a}(e:TransGen r b c):∃d,r b d:=by
 induction e<;>grind
def Wh.l2(f:Wh e c b st a)(n:my st c){d:Zb}(l:fv st d=true):TransGen (Re (dG a)) (iw a d) (iw a d)↔TransGen (Ne st) d d:=by
 constructor
 .intro h;obtain⟨G,r,g⟩:=f.f2 l;have K:iw a d=r.n.toNat:=by unfold iw;rw[g.a5]
  have J:5<=iw a d:=by
   rcases Yj (iw a d) 5 with j|j
   .exfalso;obtain⟨F,x⟩:=VP h;obtain⟨u,v,I⟩:=GB x;obtain⟨D,E⟩:=Ke f.q v j;simp_all
   omega
  obtain⟨o,M,p⟩:=g.y;rcases f.up n l h with⟨B,j,k,m⟩|⟨O,-,-,-,C,u,k,m,w⟩
  .obtain⟨H,t,i⟩:=f.f2 k;obtain⟨s,N,z⟩:=i.y;have L:iw a B=t.n.toNat:=by unfold iw;rw[i.a5]
   by_cases y:o=s
   .simp_all
   .exfalso;have A:=g.aa;have P:=i.aa;have:=f.ij o s r t p z y g.a1 i.a1 Zm;omega
  .exfalso;have A:=g.aa;exact f.tr C u k m _ w Zm r (Yh p) g.a1 Zm
 .intro h;exact(f.m5 n l h).2
def Wh.ld(f:Wh e c b st a)(v:my st c):yC (dG a):=by
 intro r m;have m:r∈a.h.map (hg a):=m;obtain⟨n,i⟩:=List.mem_iff_getElem?.1 m;rw[List.getElem?_map]at i;cases j:a.h[n]? with
 |none=>simp_all
 |some g=>
  rw[j]at i;simp only[Option.map_some,Yu]at i;subst i;have w:(dG a).h.length=a.h.length:=by show (a.h.map _).length=_;simp
  have B:=xr j;have A:=f.rn.gy;have s:=f.rn.b9 g (Yh j);have h:=f.q.dK n g j;rw[w];unfold hg;by_cases l:g.w=14
  .rw[Y9 l];refine⟨s.2,λk d=>?_⟩;simp[dj,l]at d;subst d;have p:(g.a5,g.y)∈oJ a.h:=by
    unfold oJ;grind
   rw[f.q.er,f.rf]at p;obtain⟨y,x,o⟩:=YE.1 p;simp only[Prod.mk.injEq]at o;have t:=v y x;rw[o.1]at t;obtain⟨z,r,u⟩:=f.f2 t;rw[u.a5];exact u.aa.2
  .rw[Y2 l];refine⟨s.2,λk d=>?_⟩;have:k<(max n 5:Nat):=by
    unfold dj at d;split at d
    .simp at d;subst d;exact h.1
    .split at d
     .exact h.2.1 k d
     .split at d
      .rcases Yn.1 d with d|d
       .exact h.2.1 k d
       .simp at d;subst d;exact h.2.2.1
      simp_all
   omega
def Wh.l7(h:Wh e c b st a)(i:my st c){g d}(f:vv e st b a g d r)(l:fv st g=true):sS (dG a) r.n.toNat=qH st d:=by
 have p:(dG a).h.length=a.h.length:=by show (a.h.map _).length=_;simp
 have q:=f.aa;have n:=UW (h.ld i) (r:=r.n.toNat) Zm;have k:=ade (st:=st) (λg t j=>by obtain⟨m,j⟩:=j;exact agV (h.ne i j)) (d:=d) (by rw[f.gD];exact f.iL);have o:=h.l2 i l;have s:iw a g=r.n.toNat:=by unfold iw;rw[f.a5]
 rw[f.gD]at k;grind
end
end Go.Proofs.YtjdhaegijjednaaGreatDoor
namespace Go.Proofs.YtjdhaegijjednaaGreatDoor
open Go.RowKit Go.MapKept Go.Proofs.Tryz
section
variable {t : Zb} {b j : St} {σ g : ai} {c h : cq} {f : Mar.ac} {a : List aD} {d : aD} {k i : Nat}
def kh(t:Zb)(k:Nat)(σ:ai):Prop:=∃a c b,Wh t a c b σ/\eC (aJ t) 69 [] fW=eC (aJ t) (69-a.length) a b/\a.length=k
def Az(t:Zb)(σ:ai):Prop:=∃f,eC (aJ t) 69 [] fW=.error f/\Er f σ
def ZC(t:Zb):kh t 0 (start t):=⟨[],vO,fW,ahw t,rfl,rfl⟩
theorem kh.e(a:kh t k σ):σ.s.e=0:=by obtain⟨_,_,_,a,_⟩:=a;exact a.q.e
def kh.le(d:kh t k σ):k<=68:=by
 obtain⟨a,c,b,d,-,rfl⟩:=d;have e:=d.ti.H;have f:=d.ti.co;have g:=d.ti.pr;have h:=d.ti.bm;omega
def kh.gA(a:kh t k σ):cr σ/\Rn σ:=by obtain⟨_,_,_,a,_⟩:=a;exact⟨a.gA,a.rn⟩
theorem Wh.gC{f:Mar.aU}{e:Nat}(d:Wh t a c b σ)(g:fD t b.y b.nx=.ok (f,e)):Wh t a c { b with y:=e,nx:=some f } σ:=
 ⟨d.q.gC g,d.pd,d.dc,d.fz,d.o,d.ps,d.rf,d.nl,d.ic,d.gD,d.ij,d.tr,d.gA,d.rn,⟨d.ti.H,d.ti.co,d.ti.pr,d.ti.bm,d.ti.nm⟩⟩
theorem kh.cG(e:kh t k σ)(v:σ.s.x.w≠0):kh t (k+1) (cH t σ)\/Az t (cH t σ):=by
 have z:=e.le;obtain⟨a,c,b,e,m,rfl⟩:=e;rw[show 69-a.length=(68-a.length)+1 by omega]at m;rcases pk t b with⟨q,w,g⟩|⟨f,g⟩
 .have o:=e.q.wd;rw[g]at o;have p:((q.w:Int)==0)=false:=by
   rw[o.1.1]at v;simp_all
  have i:=e.gC g;have n:=OA i.q i.pd i.dc;cases l:fP (aJ t) { b with y:=w,nx:=some q }with
  |error f=>
   rw[lD l]at n;exact Ya ⟨f,by rw[m];exact Pj (wo g) p l,n⟩
  |ok y=>
   obtain⟨d,tu⟩:=y;obtain⟨h,u⟩:=i.cG (uo l);left;refine⟨a++[d],h,_,u,?_,Zq⟩;rw[m,Pm (wo g) p l];simp
 .have j:=e.q.bd g;right;refine⟨f,by grind [Pl,zM],?_⟩;have r:cH t σ=eu σ:=by
   unfold cH;rw[Y2 (by rw[j.is Zm];simp),Y2 (by rw[j.is Zm];simp),Y9 (Y8 (by rw[j.k];omega))]
  rw[r];exact j.gK
theorem kh.fin(d:kh t k σ)(h:σ.s.x.w=0):∃a c b,Wh t a c b σ/\eC (aJ t) 69 [] fW=.ok (a,b):=by
 have l:=d.le;obtain⟨a,c,b,d,g,rfl⟩:=d;rw[show 69-a.length=(68-a.length)+1 by omega]at g;rcases pk t b with⟨n,m,e⟩|⟨f,e⟩
 .have i:=d.q.wd;rw[e]at i;refine⟨a,c,_,d.gC e,?_⟩;rw[g];exact Pk (wo e) (by rw[i.1.1]at h;simp_all)
 .have j:=d.q.bd e;rw[j.k]at h;omega
def kQ(t:Zb)(i:Nat)(g:ai):Prop:=
 (∃a c b σ,g=dG σ/\Wh t a c b σ/\my b a/\eW (aJ t)=(match lA b ((c.nl.drop i).filterMap lP)with|.error f=>.error f|.ok _=>.ok a))\/(∃f,eW (aJ t)=.error f/\Er f g)
def Pn(b:t.length<=1200):eW (aJ t)=match eC (aJ t) 69 [] fW with
  |.error f=>.error f
  |.ok (a,σ)=>match pD σ a with
   |.error f=>.error f
   |.ok _=>match lA σ a with
    |.error f=>.error f
    |.ok _=>.ok a:=by
 unfold eW;rw[Y2 (by show ¬1200<t.length;omega)];rfl
theorem UU(b:St)(a:List aD):lA b a=lA b (a.filter ei):=by
 induction a with
 |nil=>rfl
 |cons d a h=>
  cases g:ei d with
  |true=>
   grind [lA]
  |false=>
   rw[List.filter_cons_of_neg Zg];conv=>lhs;unfold lA
   have:qH b d=false:=by
    unfold qH;have:gp d=[]:=by
     cases d with
     |const c e f=>rfl
     |prog c e f d=>rfl
     |typedef d=>cases g
     |enum c e f=>rfl
     |struct c e f=>cases g
     |union c e f d=>cases g
    simp_all
   simp_all
def agL(j:t.length<=1200)(g:Wh t a c b σ)(i:eC (aJ t) 69 [] fW=.ok (a,b)):kQ t 0 (qG σ):=by
 have e:=aeM g;have d:=Pn (t:=t) j;rw[i]at d;simp only at d;cases h:pD b a with
 |error f=>
  rw[h]at e d;exact Ya ⟨f,d,e⟩
 |ok k=>
  rw[h]at e d;refine Y8 ⟨a,c,b,σ,e.1,g,e.2,?_⟩;grind [Wh.nl,UU]
def agK(e:t.length<=1200)(c:Az t σ)(i:Nat):kQ t i σ:=by
 obtain⟨f,b,d⟩:=c;have a:=Pn (t:=t) e;rw[b]at a;exact Ya ⟨f,a,d⟩
theorem kQ.ok(d:kQ t i g)(h:g.s.e=0):∃a c b σ,g=dG σ/\Wh t a c b σ/\my b a/\eW (aJ t)=(match lA b ((c.nl.drop i).filterMap lP)with|.error f=>.error f|.ok _=>.ok a):=by
 rcases d with d|⟨f,-,d⟩;all_goals grind [Er.d5]
def kQ.row(d:kQ t i g)(h:g.s.e=0){r}(k:g.G[i]?=some r)(l:r.a1=1):0<=r.n/\r.n<g.h.length/\yC g:=by
 obtain⟨a,c,b,σ,rfl,d,f,-⟩:=d.ok h;have j:=d.gA r (Yh k) l;refine⟨j.1,?_,d.ld f⟩;grind [dG]
theorem kQ.cG(e:kQ t i g)(F:g.s.e=0){k}(j:g.G[i]?=some k):kQ t (i+1) (if k.a1=1/\sS g k.n.toNat=true then ch 9 k.y g else g):=by
 obtain⟨a,c,b,σ,rfl,e,w,h⟩:=e.ok F;have j:σ.G[i]?=some k:=j;have R:i<c.nl.length:=by rw[<-e.q.nm.am];grind
 obtain⟨f,o⟩:∃f,c.nl[i]?=some f:=⟨_,Yd R⟩;have N:c.nl.drop i=f::c.nl.drop (i+1):=by
  grind [List.drop_eq_getElem_cons]
 rw[N,List.filterMap_cons]at h;by_cases z:k.a1=1
 .obtain⟨d,a5,J,K,L,a6⟩:=e.q.a1 o j z;have y:lP f=some d:=by grind [lP]
  rw[y]at h;simp only[lA]at h;have S:b.G=c.nl:=by rw[e.q.nl,e.pd];simp
  have a7:f=(f.1,some d):=Zg;have m:fv b f.1=true:=by
   unfold fv;rw[S];rcases e.q.hk f.1 with⟨B,a1⟩|⟨H,a4,C,B,a1,I,a2,a3⟩
   .exact absurd (YE.2 ⟨f,Yh o,rfl⟩) (BQ B)
   .have x:=e.q.j1 j a2 (by rw[K,a3.1]);subst x;rw[o]at I;simp only[Yu]at I;rw[B];have:a4=some d:=Zg;rw[this];exact J
  obtain⟨v,C,D⟩:=e.f2 m;obtain⟨H,A,u⟩:=D.y;have a9:gq σ f.1=C:=D.a5;have a8:C.s=f.1:=(e.q.nm.f8 H _ _ A u).1;have x:=e.q.j1 j u Zg;subst x;rw[j]at u;cases u
  rw[o]at A;simp only[Yu]at A;have O:v=d:=Zg;subst O;have P:=e.l7 w D m;rw[P];cases G:qH b v with
  |true=>
   rw[Y9 ⟨z,rfl⟩];rw[G]at h;simp only[if_true]at h
   right;refine⟨_,h,?_⟩;rw[L];exact IF F (e:=9) (a:=(ce v).2) Zm
  |false=>
   rw[Y2 Zq];rw[G]at h;simp only[Ye,if_false]at h
   exact Y8 ⟨a,c,b,σ,rfl,e,w,h⟩
 .rw[Y2 (λE=>z E.1)];have y:lP f=none:=by
   unfold lP;cases a0:f.2 with
   |none=>rfl
   |some d=>
    simp only;cases m:ei d with
    |false=>simp
    |true=>
     exfalso;have M:=(e.q.nm.f8 i f k o j).2;rw[a0]at M;cases d with
     |const l p r=>cases m
     |prog l p r d=>cases m
     |typedef d=>omega
     |enum l p r=>omega
     |struct l p r=>omega
     |union l p r d=>omega
  rw[y]at h;exact Y8 ⟨a,c,b,σ,rfl,e,w,h⟩
def wK(t:Zb)(g:ai):Prop:=match eW (aJ t)with
 |.error f=>Er f g
 |.ok a=>g.s.e=0/\∃c b σ,g=dG σ/\Wh t a c b σ/\my b a
theorem kQ.fin(d:kQ t i g)(h:g.G.length<=i\/g.s.e≠0):wK t g:=by
 unfold wK;rcases d with⟨a,c,b,σ,rfl,d,l,j⟩|⟨f,j,d⟩
 .have m:(dG σ).s.e=0:=d.q.e;have k:c.nl.drop i=[]:=by
   rw[List.drop_eq_nil_iff,<-d.q.nm.am];rcases h with h|h
   .exact h
   omega
  rw[k]at j;simp only[List.filterMap_nil,lA]at j;grind
 simp_all
end
section
variable {k:TypeId}{l h j:Option Addr}{o r m u:Zv}
variable {X : Nat -> Prop} {g d b : Nat} {t : Zb} {c : ai} {w : Zw} {f : PV}
def kh.up(a:kh t b c)(j:kh t (b+1) (cH t c)):py c+1<=py (cH t c):=by
 have m:=a.e;have f:=j.e;obtain⟨p,o,n,a,-⟩:=a;have s:=a.q.H;have l:=a.q.cn;rw[a.dc]at l;refine Uv f m ⟨Zm,Zm⟩ ?_;intro k;rcases pk t n with⟨v,u,g⟩|⟨r,g⟩
 .have h:=a.q.wd;rw[g]at h;have:=h.2.de;rw[h.1.1]at k;omega
 .have d:=a.q.bd g;have i:cH t c=eu c:=by
   unfold cH;rw[Y2 (by rw[d.is Zm];simp),Y2 (by rw[d.is Zm];simp),Y9 (Y8 (by rw[d.k];omega))]
  rw[i]at f;exact d.gK.d5 f
theorem kh.cC(a:kh t b c):py c<=68:=by
 obtain⟨g,f,e,a,-⟩:=a;have h:=a.ti.H;have i:=a.ti.co;have j:=a.ti.pr;have l:=a.q.H;have d:=a.q.cn;have k:c.ah.length=e.ah.length:=by rw[a.q.pg];simp
 rw[a.dc]at d;unfold py;omega
def bN(b:Nat):Nat:=5+2000000*b
def SJ{d b:Nat}(a:d<=bN b):d+2000000<=bN (b+1):=by unfold bN at *;omega
def Ej{d b:Nat}(a:d<=bN b)(c:b<=68):d+2000000<=200000000:=by unfold bN at *;omega
def FK(g:Nat)(w:Zw):Nat:=match w.cell? (Zd g 11),w.cell? (Zd g 13),w.cell? (Zd g 14),w.cell? (Zd g 15)with
 |some (.int _ b),some (.int _ a),some (.int _ t),some (.slice _ c _)=>if b=0 then 70-(a.toNat+t.toNat+c)else 0
 |_,_,_,_=>0
def Mo(b:bw X g t d c f w):FK g w=if c.s.e=0 then 70-py c else 0:=by
 obtain⟨l,o,p,q,r,u,v,x,y,m,h,n,i,j,a,A,B⟩:=b.K;obtain⟨ad,z,k⟩:=aW b.ah;rw[k]at a;unfold FK;rw[h,i,j,a];rfl
def He:Zv:=.agg #[.slice none 0 0,.slice none 0 0,.slice none 0 0,.string ⟨#[]⟩]
abbrev mr(a b c d:Zv):Obj:=.cells #[a,b,c,d] 62
def qY(t:Zb)(l:Nat)(i:Ending)(m:Zw):Prop:=match eW (aJ t)with
 |.error a=>i=.returned (.tuple #[He,.int .i64 a.no,.int .i64 a.y])/\a.no≠0
 |.ok h=>∃f b X g d k j c,i=.returned (.tuple #[gt f b,.int .i64 0,.int .i64 0])/\bw X g t d b f m/\d<=1000000000/\b=dG c/\Wh t h k j c/\my j h/\∀e,e<l->X e
def CK{Q:Ending->Zw->Prop}{a:Act}{R}{b c:Zv}(j:a.tmps.getD 2 undef=Zp R)(h:a.tmps.getD 3 undef=b)(i:a.tmps.getD 4 undef=c)(k:a.defers=[])(d:w.heap[R]?=some (mr o r m u))(l:Q (.returned (.tuple #[.agg #[o,r,m,u],b,c])) w):bodyPost prog Tryz.f26 Q .ret a w:=by
 refine bodyPost_ret (v:=.tuple #[.agg #[o,r,m,u],b,c]) ?_ k l;have n:w.cell? (Zd R 0)=some o:=aC d rfl;have p:w.cell? (Zd R 1)=some r:=aC d rfl;have q:w.cell? (Zd R 2)=some m:=aC d rfl;have s:w.cell? (Zd R 3)=some u:=aC d rfl;unfold results;have e:a.tmps[2]?.getD undef=Zp R:=by simpa using j
 have f:a.tmps[3]?.getD undef=b:=by simpa using h
 have g:a.tmps[4]?.getD undef=c:=by simpa using i
 simp[results26,e,f,g,go_sem,n,p,q,s]
def RK(t:Zb)(w:Zw)(d:1200<t.length):Calls prog 26 #[Zs t] w λc a=>ap [] w a/\qY t w.heap.size c a:=by
 have e:(1200:Int) < ↑t.length:=Zm;have b:af (eW (aJ t)=.error ⟨1,0⟩):=by
  show _=_;unfold eW;rw[Y9 (by show 1200<t.length;omega)]
 clear d;go_in;go_wp2;refine CK (R:=w.heap.size) rfl rfl rfl rfl (be rfl) ?_;refine⟨(ar [] w).A _,?_⟩;unfold qY;rw[b.i];exact⟨rfl,Zq⟩
def Fl{w d:Zw}(a:Fr (λe=>e<w.heap.size) w d):ap [] w d:=⟨a.os,a.dt,a.ds,a.aG,λb c _=>a.ak b c c⟩
abbrev zn(w:Zw)(a:Nat)(b c d e:Zv):Zw:=(((w.setCell ⟨a,0,none⟩ b).setCell ⟨a,1,none⟩ c).setCell ⟨a,2,none⟩ d).setCell ⟨a,3,none⟩ e
def BK(w:Zw)(a:Nat)(b c d e:Zv):ap [a] w (zn w a b c d e):=((((ar [a] w).a6 (p:=⟨a,0,none⟩) Zq _).a6 (p:=⟨a,1,none⟩) Zq _).a6 (p:=⟨a,2,none⟩) Zq _).a6 (p:=⟨a,3,none⟩) Zq _
def Fk{w:Zw}{a:Nat}{j h f e:Zv}(b c d g:Zv)(l:w.heap[a]?=some (.cells #[j,h,f,e] k)):(zn w a b c d g).heap[a]?=some (.cells #[b,c,d,g] k):=by
 have m:(w.setCell ⟨a,0,none⟩ b).heap[a]?=some (.cells #[b,h,f,e] k):=ci (i:=0) l b;have n:((w.setCell ⟨a,0,none⟩ b).setCell ⟨a,1,none⟩ c).heap[a]?=some (.cells #[b,c,f,e] k):=ci (i:=1) m c;have o:(((w.setCell ⟨a,0,none⟩ b).setCell ⟨a,1,none⟩ c).setCell ⟨a,2,none⟩ d).heap[a]?=some (.cells #[b,c,d,e] k):=ci (i:=2) n d;exact ci (i:=3) o g
def To{e a}{p i n b:Nat}(z:bw X g t d c f e)(D:f.rv=.slice j c.h.length p)(B:f.nv=.slice l c.G.length i)(C:f.pv=.slice h c.ao.length n)(q:e.heap[b]?=some (.cells #[o,r,m,u] k))(s:ap [] e a):a.cell? (Zd g 7)=some (.slice j c.h.length p)/\a.cell? (Zd g 8)=some (.slice l c.G.length i)/\a.cell? (Zd g 9)=some (.slice h c.ao.length n)/\a.cell? (Zd g 10)=some (Zs c.i)/\a.cell? (Zd b 2)=some m:=by
 obtain⟨E,K,L,M,N,O,w,x,y,v,F,G,H,I,J,P,R⟩:=(z.az s).K;have A:=(s.ak b (ay q) Zq).trans q;exact⟨by rw[w,D],by rw[x,B],by rw[y,C],v,aC A rfl⟩
def Wo{o k b i m}(hF:wK t c)(F:c.s.e=0)(p:bw X g t d c f o)(I:f.rv=.slice j c.h.length k)(G:f.nv=.slice l c.G.length b)(H:f.pv=.slice h c.ao.length i)(y:d<=1000000000)(E:X m){n:Nat}(r:∀a,a<n->X a):qY t n (.returned (.tuple #[.agg #[.slice j c.h.length k,.slice l c.G.length b,.slice h c.ao.length i,Zs c.i],Y 0,Y 0])) (zn o m (.slice j c.h.length k) (.slice l c.G.length b) (.slice h c.ao.length i) (Zs c.i)):=by
 unfold wK at hF;unfold qY;split
 .grind [Er.d5]
 .rename_i D A;rw[A]at hF;obtain⟨-,u,B,C,v,w,x⟩:=hF;refine⟨f,c,X,g,d,u,B,C,?_,?_,y,v,w,x,r⟩
  .simp_all
  .have q:=BK o m (.slice j c.h.length k) (.slice l c.G.length b) (.slice h c.ao.length i) (Zs c.i);exact p.f3 q (λn r=>by simp_all) (λ_=>Y8) (λa z=>Yr (p.bn a z) q.aG)
def Lv{w:Zw}{b}(hF:wK t c)(d:c.s.e≠0):qY t b (.returned (.tuple #[He,Y c.s.e,Y c.s.a])) w:=by
 grind [wK,qY,Er.e,Er.a]
def RM(t:Zb)(w:Zw)(g2:t.length<=1200):Calls prog 26 #[Zs t] w λf4 F=>ap [] w F/\qY t w.heap.size f4 F:=by
 have m1:¬(1200:Int) < ↑t.length:=Zm;have e8:=U g2;have e5:af (aY (λg=>g<w.heap.size) (w.heap.size+1) t 0 lO [.obj w.heap.size (mr (.slice none 0 0) (.slice none 0 0) (.slice none 0 0) (.string ⟨#[]⟩))] w ((w.alloc (mr (.slice none 0 0) (.slice none 0 0) (.slice none 0 0) (.string ⟨#[]⟩))).alloc (qD t lO.s (vE xR lO)))):=by
  have g5:=acR (X:=λg=>g<w.heap.size+1) (t:=t) (w.alloc (mr (.slice none 0 0) (.slice none 0 0) (.slice none 0 0) (.string ⟨#[]⟩))) (λg m=>by simp;exact m) Zm;have j2:(w.alloc (mr (.slice none 0 0) (.slice none 0 0) (.slice none 0 0) (.string ⟨#[]⟩))).heap.size=w.heap.size+1:=Zq;rw[j2]at g5;refine⟨bW.ca ⟨_,g5⟩ ?_,?_,?_,?_,?_⟩
  .rintro g (m|⟨c5,y,m⟩)
   .exact Nat.lt_succ_of_lt m
   .simp at y;subst y;have:w.heap.size=g:=by simpa[Th.aH]using m
    omega
  .exact yz (((ar [] w).A _).A _) Zq
  .intro c5 y;simp at y;subst y;exact(((ar [] _).A _).ak _ Zq Zq).trans (be rfl)
  .intro c5 y g m g9;simp at y;subst y;have:w.heap.size=g:=by simpa[Th.aH]using m
   have g9:g<w.heap.size:=g9;omega
  .intro c h0 c5 g i5 y m;match c,h0 with
   |0,0=>exact absurd rfl i5
   |0,h0+1=>simp at m
   |c+1,_=>simp at y
 have e6:af (∀b:Nat,b<=4->dm ⟨b,0,0,[],[],0,[],0⟩ { lO with h:=ot.take b } = { lO with h:=ot.take (b+1) }):=U (λb i6=>by
  have:b=0\/b=1\/b=2\/b=3\/b=4:=Zm;rcases this with rfl|rfl|rfl|rfl|rfl<;>rfl)
 clear g2;go_in;go_wp2;go_loopw [6] (λe3 O=>∃b:Nat,e3=Y b/\b<=5/\af (aY (λg=>g<w.heap.size) (w.heap.size+1) t b { lO with h:=ot.take b } [.obj w.heap.size (mr (.slice none 0 0) (.slice none 0 0) (.slice none 0 0) (.string ⟨#[]⟩))] w O)) (λe3 _=>5-(intOf e3).toNat)
 case atStart=>exact⟨0,rfl,Zm,e5⟩
 case round=>
  obtain⟨b,rfl,i6,p⟩:=hrel;clear e5;rcases Yj b 5 with d9|d9
  .have f6:(↑b:Int)<=4:=Zm;go_wp21;refine bj p (zR · ⟨b,0,0,[],[],0,[],0⟩ rfl rfl Zm) λj7 I=>?_;rw[e6.i b Zm]at I;go_wp2;exact⟨⟨b+1,Zj,Zm,I⟩,Zz⟩
  .have f6:¬(↑b:Int)<=4:=Zm;have d9:b=5:=Zm;subst d9;go_wp21;refine bj p (kE ·) λj7 I=>?_;rw[show bq t { lO with h:=ot.take 5 } = start t from rfl]at I;have c2:af ((∃b,kh t b (start t)/\5<=bN b)\/(Az t (start t)/\5<=200000000)):=U (Y8 ⟨0,ZC t,Y4 _⟩);clear p e6 f6;go_upto_block 2 with fail;go_cut [] (λwc=>∃(i:ai) (d:Nat),d<=200000000/\af (aY (λg=>g<w.heap.size) (w.heap.size+1) t d i [.obj w.heap.size (mr (.slice none 0 0) (.slice none 0 0) (.slice none 0 0) (.string ⟨#[]⟩))] w wc)/\af ((i.s.e=0/\kQ t 0 (qG i))\/((i.s.e==0)=false/\kQ t 0 i)));case first=>
    go_wp2;go_loopw [] (λO=>∃(i:ai) (d:Nat),af (aY (λg=>g<w.heap.size) (w.heap.size+1) t d i [.obj w.heap.size (mr (.slice none 0 0) (.slice none 0 0) (.slice none 0 0) (.string ⟨#[]⟩))] w O)/\af ((∃b,kh t b i/\d<=bN b)\/(Az t i/\d<=200000000))) (λO=>FK (w.heap.size+1) O)
    case atStart=>exact⟨start t,5,I,c2⟩
    case round=>
     obtain⟨i,d,p,A⟩:=hrel;clear I c2;obtain⟨f,iE,f1,k,-⟩:=p.i.aL.sp;have c0:=U (Mo k);obtain⟨a5,-,-,-,-,-,-,-,-,-,z,-,-,-,-,S,a0⟩:=k.K;clear k;rcases A.i with⟨b,v,N⟩|⟨i2,N⟩
     .have e:=v.e;rw[e]at z;by_cases b3:i.s.x.w=0
      .rw[b3]at a5;have b1:d<=200000000:=by have:=Ej N v.le;omega
       have u:af (kQ t 0 (qG i)):=by
        obtain⟨l2,k9,m8,q,i1⟩:=v.fin b3;exact U (agL e8.i q i1)
       clear e b3 c0 N;go_wp2;go_meet;case rel=>exact⟨i,d,b1,p,U (Y8 ⟨v.e,u.i⟩)⟩
      .have m0:((i.s.x.w:Int)==0)=false:=Zx;have g1:((i.s.x.w:Int) != 0)=true:=Zx;have g4:=v.le;have g7:=U v.gA;have f0:=U (v.cG b3);have e9:=U v;have i3:d+2000000<=1000000000:=Yz (Ej N g4) Ze;have l5:=v.cC;have e7:af (d+2000000<=bN (b+1)/\d+2000000<=200000000):=U ⟨SJ N,Ej N g4⟩;clear v A e b3;go_wp21;refine bj p (UB · g7.i.1 (λo j0=>(g7.i.2.b9 o j0).1) i3) λj8 J=>?_;go_wp2;refine⟨⟨cH t i,d+2000000,J,?_⟩,?_⟩
       .rcases f0.i with q|q
        .exact U (Y8 ⟨b+1,q,e7.i.1⟩)
        .exact U (Ya ⟨q,e7.i.2⟩)
       .obtain⟨l0,i4⟩:=J.i.aL;rw[c0.i,Mo i4,Y9 e9.i.e];rcases f0.i with q|⟨f5,-,q⟩
        .rw[Y9 q.e];have:=e9.i.up q;have:=q.cC;omega
        .rw[Y2 q.d5];omega
     .obtain⟨f5,f8,d6⟩:=i2;have e:(i.s.e==0)=false:=by have:=d6.d5;simp;exact this
      have u:af (kQ t 0 i):=U (agK e8.i ⟨f5,f8,d6⟩ 0);clear A d6 f8 c0;go_wp2;go_meet;case rel=>exact⟨i,d,N,p,U (Ya ⟨e,u.i⟩)⟩
   case rest=>
    obtain⟨i,d,b1,p,A⟩:=hcut;clear I c2;obtain⟨f,iE,f1,k,-⟩:=p.i.aL.sp;obtain⟨-,-,-,-,-,-,-,-,-,-,z,-,-,-,-,S,a0⟩:=k.K;clear k;go_upto_if 46 with fail;go_cut [] (λwc=>∃G,af (aY (λg=>g<w.heap.size) (w.heap.size+1) t d G [.obj w.heap.size (mr (.slice none 0 0) (.slice none 0 0) (.slice none 0 0) (.string ⟨#[]⟩))] w wc)/\af (kQ t 0 G));case first=>
     rcases A.i with⟨e,b2⟩|⟨e,b2⟩
     .have m:(i.s.e==0)=true:=by rw[e];rfl
      have u:=U b2;clear e b2 A;go_wp21;refine bj p (ac9 · (Yz b1 Ze)) λj8 J=>?_;go_wp2;go_meet;case rel=>exact⟨_,J,u⟩
     .have u:=U b2;clear b2 A;go_wp2;go_meet;case rel=>exact⟨_,p,u⟩
    case rest=>
     obtain⟨G,J,u⟩:=hcut;clear p A z S a0;go_wp2;go_loopw [7] (λe1 O=>∃(c:Nat) (a:ai),e1=Y c/\c<=G.G.length/\af (a.G.length=G.G.length)/\af (aY (λg=>g<w.heap.size) (w.heap.size+1) t d a [.obj w.heap.size (mr (.slice none 0 0) (.slice none 0 0) (.slice none 0 0) (.string ⟨#[]⟩))] w O)/\af (kQ t c a)) (λe1 _=>G.G.length-(intOf e1).toNat)
     case atStart=>exact⟨0,G,rfl,Zm,U rfl,J,u⟩
     case round=>
      obtain⟨c,a,rfl,f9,P,K,L⟩:=hrel;clear J u;obtain⟨f,iE,f1,k,B⟩:=K.i.aL.sp;obtain⟨j,f3,D⟩:=aW k.h;obtain⟨h,f2,C⟩:=aW k.ao;obtain⟨a5,d1,d2,d3,d4,d5,a6,a7,a8,c6,z,c7,c8,c9,d0,S,a0⟩:=k.K;rw[D]at a6;rw[B]at a7;rw[C]at a8;have H:=U k;have r:=U (Yp D (Yp B C));have l:=K.i.aR (i:=0) (R:=w.heap.size) rfl;have M:=U l;have k7:=bl l;have k6:=aE l;have k8:=ay l;clear k D B C l a5 d1 d2 d3 d4 d5 c8 c9 d0;have m4:w.heap.size≠w.heap.size+1:=Zm;by_cases e:a.s.e=0
      .rcases Yj c a.G.length with b9|d8
       .obtain⟨l3,l1,g8,k0,k1,k2,k3,k4,k5,l6⟩:=uC H.i b9;have e0:=r.i.2.1;rw[g8]at e0;simp only[Value.slice.injEq]at e0;obtain⟨rfl,-,rfl⟩:=e0;have d7:a.G[c]?=some (a.G.getD c iT):=by simp[b9]
        have b5:=U (L.i.cG e d7);have c4:=U (L.i.row e d7);generalize j1:a.G.getD c iT=o at *
        have l7:(0:Int)<=↑c:=Zm;have l8:(↑c:Int) < ↑a.G.length:=Zm;have g0:af (c+1<=G.G.length):=U (by rw[<-P.i];omega);have a2:=U e;have l9:a.G.length<=200000000:=by have a9:=H.i.bm;unfold ai.sz at a9;omega
        rw[e]at z;clear L e d7 j1 g8 b9;by_cases a1:o.a1=1
        .have j3:(o.a1==1)=true:=by simpa using a1
         obtain⟨i8,i9,g3⟩:=c4.i a1;obtain⟨E,g1⟩:∃E:Nat,o.n=E:=⟨o.n.toNat,Zm⟩;have b6:af (kQ t (c+1) (if sS a E=true then ch 9 o.y a else a)):=by
          have a9:=b5.i;rw[g1,Int.toNat_natCast]at a9;simp only[a1,true_and]at a9;exact U a9
         have i7:E<a.h.length:=Zm;have h1:=U g3;clear c4 b5 g3 i8 i9;go_wp2;have a3:=U (K.i.A (.cells #[Zs o.s,Y 1,Y ↑E,Y o.y] 119));clear a6 a7 a8 c6 z c7 S a0 k0 k1 k2 k3 k4 k5 k6 k7 k8 H r M;generalize l4:wr.heap.size=a4 at *
         generalize wr.alloc (.cells #[Zs o.s,Y 1,Y ↑E,Y o.y] 119)=e4 at a3 ⊢;obtain⟨f,h3,h4,k,B⟩:=a3.i.aL.sp;obtain⟨j,f3,D⟩:=aW k.h;obtain⟨h,f2,C⟩:=aW k.ao;obtain⟨a5,d1,d2,d3,d4,d5,a6,a7,a8,c6,z,c7,c8,c9,d0,S,a0⟩:=k.K;rw[D]at a6;rw[B]at a7;rw[C]at a8;have b7:=U (UX (k.az (ar [] e4).ag) i7 h1.i (Yz b1 Ze));unfold gt at b7;rw[D,B,C]at b7;have l:=a3.i.aR (i:=0) (R:=a4) rfl;have j4:=aE l;have j5:=bl l;have j6:=ay l;have H:=U k;have r:=U (Yp D (Yp B C));have M:=U l;clear k D B C l a5 d1 d2 d3 d4 d5 c8 c9 d0;refine bJ (λF=>F.cell? ⟨w.heap.size+1,7,none⟩=some (.slice j a.h.length f3)/\F.cell? ⟨w.heap.size+1,8,none⟩=some (.slice h3 a.G.length h4)/\F.cell? ⟨w.heap.size+1,9,none⟩=some (.slice h a.ao.length f2)/\F.cell? ⟨w.heap.size+1,10,none⟩=some (Zs a.i)/\F.cell? (Zd a4 2)=some (Y ↑E)) ?_ λf7=>?_
         .go_keep
         refine bf [0,1,2,3,4,5] ?_;iterate 6 (refine bi ?_)
         refine bg ?_;refine bI 6 λc1 b0=>?_;(go_simp;refine b7.i.mono ?_;rintro f4 j9 ⟨rfl,e2⟩;have c3:=U (a3.i.ag.ae e2);obtain⟨h7,h8,h9,h5,h6⟩:=To (H.i.az (ar [] e4).ag) r.i.1 r.i.2.1 r.i.2.2 (show (e4.drew).heap[a4]?=_ from M.i) e2);refine b0.out _ _ ?_ (λf7=>?_)
         .go_keep
         clear b0 c1;refine nz ?_;refine bL λc1 b0=>?_;go_simp;refine b0.out _ _ ?_;clear b0 c1;refine nz ?_;have l:=c3.i.aR (i:=0) (R:=a4) rfl;have m5:j9.cell? (Zd a4 3)=some (Y o.y):=aC l rfl;have m6:=bl l;have m7:=ay l;have b8:=g0.i;clear l b7 f7 a6 a7 a8 c6 z c7 S a0 j4 j5 j6 H r M h7 h8 h9 h5 h6 a3 e2;cases m:sS a E with
         |true=>
          rw[m,Y9 rfl]at b6;go_wp21;refine bj c3 (nK · 9 o.y) λm9 h2=>?_;go_wp2;exact⟨⟨c+1,ch 9 o.y a,Zj,b8,P,U h2.i.au,b6⟩,Zz⟩
         |false=>
          rw[m,Y2 Zq]at b6;go_wp2;exact⟨⟨c+1,a,Zj,b8,P,U c3.i.au,b6⟩,Zz⟩
        .have j3:(o.a1==1)=false:=by simpa using a1
         rw[Y2 (λi0=>a1 i0.1)]at b5;clear c4 a1;go_wp2;have b8:=g0.i;exact⟨⟨c+1,a,Zj,b8,P,U ((K.i.A _).au),b5⟩,Zz⟩
       .have g6:¬(↑c:Int) < ↑a.G.length:=Zm;have b4:=U (L.i.fin (Y8 d8));have a2:=U e;rw[e]at z;clear L P f9 e d8;go_wp2;refine CK (R:=w.heap.size) rfl rfl rfl rfl (Fk _ _ _ _ M.i) ?_;refine⟨qr (Fl K.i.fr) (BK ..) Zq,?_⟩;exact Wo b4.i a2.i H.i r.i.1 r.i.2.1 r.i.2.2 (Yz b1 Ze) (Ya ⟨_,Yc.2 rfl,rfl⟩) λg m=>Y8 m
      .have m2:(a.s.e==0)=false:=by simpa using e
       have m3:(a.s.e != 0)=true:=by simpa using e
       have b4:=U (L.i.fin (Ya e));have a2:=U e;clear L P f9 e;rcases Yj c a.G.length with b9|d8
       .have g6:(↑c:Int) < ↑a.G.length:=Zm;go_wp2;go_region;go_wp2;refine CK (R:=w.heap.size) (w:=(zn wr w.heap.size (.slice none 0 0) (.slice none 0 0) (.slice none 0 0) (.string ⟨#[]⟩)).drew) rfl rfl rfl rfl (Fk _ _ _ _ M.i) ?_;exact⟨(qr (Fl K.i.fr) (BK ..) Zq).ag,Lv b4.i a2.i⟩
       .have g6:¬(↑c:Int) < ↑a.G.length:=Zm;go_wp2;go_region;go_wp2;refine CK (R:=w.heap.size) (w:=(zn wr w.heap.size (.slice none 0 0) (.slice none 0 0) (.slice none 0 0) (.string ⟨#[]⟩)).drew) rfl rfl rfl rfl (Fk _ _ _ _ M.i) ?_;exact⟨(qr (Fl K.i.fr) (BK ..) Zq).ag,Lv b4.i a2.i⟩
def IL(t:Zb)(w:Zw):Calls prog 26 #[Zs t] w λc b=>ap [] w b/\qY t w.heap.size c b:=by
 rcases Yj 1200 t.length with a|a
 .exact RK t w a
 .exact RM t w a
end
end Go.Proofs.YtjdhaegijjednaaGreatDoor
namespace Go.Proofs.YtjdhaegijjednaaGreatDoor
open Mar (lb)
open Go.Proofs.Tryz
abbrev nm(a:Zb):lb:=⟨1,a,0⟩
end Go.Proofs.YtjdhaegijjednaaGreatDoor
namespace Go.Proofs.YtjdhaegijjednaaGreatDoor
open Go.RowKit Go.MapKept Go.Proofs.Tryz
section
abbrev qy(a:kP):Zl:=[Y a.w,Y a.n,Zs a.s,Y a.y,Y a.am]
theorem KD(b:Zb)(a c:Nat):(⟨b.toArray⟩:Za).extract a (a+c)=⟨((b.drop a).take c).toArray⟩:=by
 apply ByteArray.ext;simp
def gx{f q:Type}(c:Zw)(r:f->List Th->Prop)(h:List Th)(d:Except Mar.ac (q×f))(t:q->Zv)(i:Ending)(b:Zw):Prop:=
 (∃e g,d=.ok (e,g)/\i=.returned (t e)/\Gm (r g) c h b)\/(∃a,d=.error a/\ap [] c b/\eH c a.no a.y i b)
def cp{f:Type}(d:Except Mar.ac f):Except Mar.ac (Unit×f):=aA d λa=>.ok ((),a)
def qR{f o:Type}{d:Except Mar.ac o}{a:o->Except Mar.ac f}:cp (aA d a)=aA d λb=>cp (a b):=by cases d<;>rfl
def sf{f o:Type}{d}{a:o->Except Mar.ac f}:aA d a=aA (cp d) λb=>a b.2:=by cases d<;>rfl
section
variable {f q o : Type} {r : f -> List Th -> Prop} {g c : Zw} {h u : List Th} {d : Except Mar.ac (q × f)} {t : q -> Zv} {a : f}
def gw{l:Except Mar.ac o}{K a args}{Q:Ending->Zw->Prop}(n:af (l=aA d K))(p:Calls prog a args c (gx g r h d t))(ok:∀e i b,af (d=.ok (e,i))->af (l=K (e,i))->af (Gm (r i) g h b)->Q (.returned (t e)) b)
  (u:∀{j:Nat} {b:Zw},(∃a,l=.error a/\ap [] g b/\eH g a.no a.y (hb j) b)->Q (hb j) b:=by first|exact λm=>bM (Ya m)|exact λm=>wn (Ya m)):Calls prog a args c Q:=by
 refine p.mono ?_;rintro z y (⟨e,i,k,rfl,s⟩|⟨a,k,x,j,w,rfl,v⟩)
 .exact ok e i y k (n.i.trans (by rw[k];rfl)) s
 .exact u ⟨a,n.i.trans (by rw[k];rfl),x,j,w,rfl,v⟩
def tD{d:Except Mar.ac (q×f)}{b}{i:Nat}(e:Gm (r a) g h c)(j:af (d=.error b))(k:i=c.heap.size:=by first|rfl|simp):gx g r u d t (hb i) (c.alloc (.cells #[Y b.no,Y b.y] 179)):=Ya ⟨b,j.i,e.kp.A _,_,by have:=e.kp.aG;omega,rfl,be k⟩
end
def dP(e:Nat)(b:Zb)(k l m:Nat)(a:bP)(d:List Th):Prop:=∃c,d=[.obj e (.cells #[Zs b,Y a.aa,Y k,Y l,Y m,c] 210),.row 87 5 c a.a0.length (a.a0.flatMap qy)]/\a.aa<=b.length/\b.length<=100000/\a.a0.length<=10000
section
variable {g c : Zw} {e : Nat} {h : List Th} {b : Zb} {k l m : Nat} {a : bP}
theorem xf(n:Gm (dP e b k l m a) g h c):∃ad d,(∀i,c.cell? (Zd e i)=#[Zs b,Y a.aa,Y k,Y l,Y m,.slice ad a.a0.length d][i]?)/\(∀i,c.frozen? ⟨e,i,none⟩=false)/\e<c.heap.size/\a.aa<=b.length/\b.length<=100000/\a.a0.length<=10000:=by
 obtain⟨_,⟨r,rfl,o,p,q⟩,j⟩:=n;obtain⟨ad,d,rfl⟩:=aW (j.b0 (i:=1) rfl);have f:c.heap[e]?=_:=j.b0 (i:=0) rfl;exact⟨ad,d,aE f,bl f,ay f,o,p,q⟩
def TY(f:Gm (dP e b k l m a) g h c){p:Nat}(q:p<=b.length):Gm (dP e b k l m { a with aa:=p }) g h (c.setCell ⟨e,1,none⟩ (Y p)):=by
 obtain⟨_,⟨v,rfl,w,n,o⟩,d⟩:=f;obtain⟨r,s,t,u⟩:=qz (j:=1) (d.b0 (i:=0) rfl) (Y p);exact⟨_,⟨v,rfl,q,n,o⟩,d.gf (i:=0) rfl r s t u⟩
def uW(d:af (Gm (dP e b k l m a) g h c)):Calls prog 111 #[Zp e] c λf i=>f=.returned (Y a.aa)/\i=c:=by
 obtain⟨ad,n,j,-⟩:=xf d.i;go_in;go_wp2;go_ret;exact⟨rfl,rfl⟩
def Iy(d:af (Gm (dP e b k l m a) g h c)):Calls prog 110 #[Zp e] c λf i=>f=.returned (Y ((b.length:Int)-a.aa))/\i=c.drew:=by
 obtain⟨ad,n,j,-,-,p,o,-⟩:=xf d.i;go_in;go_wp2;go_region;go_wp2;go_ret;exact⟨rfl,rfl⟩
def Ht(d:Nat)(C:d<=8589934592)(f:af (Gm (dP e b k l m a) g h c)):Calls prog 226 #[Zp e,Y d] c (gx g (dP e b k l m) h (mv b d a) λt=>Zs t):=by
 obtain⟨ad,w,v,x,y,E,D,-⟩:=xf f.i;have j:=U (Iy f);by_cases o:b.length<a.aa+d
 .have i:af (mv b d a=.error ⟨16,a.aa⟩):=Y9 o;have s:(b.length:Int)-a.aa<(d:Int):=Zm;go_in;go_wp21;refine j.i.mono ?_;rintro n u ⟨rfl,rfl⟩;go_wp2_with (go_at_call 70;refine(fp _ _ _).mono ?_;rintro n F ⟨rfl,rfl⟩);exact bM (tD f.i.ag i)
 .have i:af (mv b d a=.ok ((b.drop a.aa).take d,{ a with aa:=a.aa+d })):=Y2 o;have s:(d:Int)<=(b.length:Int)-a.aa:=Zm;have z:(0:Int)<=a.aa:=Zm;have A:(a.aa:Int)<=(a.aa:Int)+d:=Zm;have B:(a.aa:Int)+d<=b.length:=Zm;have r:af (((a.aa:Int)+d)=((a.aa+d:Nat):Int)):=Int.natCast_add ..;have q:=U (TY (p:=a.aa+d) f.i.ag.ag Zm);go_in;go_wp21;refine j.i.mono ?_;rintro n u ⟨rfl,rfl⟩;go_wp2;go_region;go_wp2;go_ret;refine Y8 ⟨_,_,i.i,?_,?_⟩
  .show Ending.returned (.string ((⟨b.toArray⟩:Za).extract a.aa (a.aa+d)))=_;rw[KD]
  .rw[r.i];exact q.i
end
end
section
theorem Eo(b:Zb)(a:UInt8):du (b++[a])=du b*256+a.toNat:=by simp[du]
def En:∀(b:Nat) (a:Zb),a.length=b->du a<256 ^ b:=by
 intro b;induction b with
 |zero=>
  grind [du]
 |succ b g=>
  intro a f;have d:a≠[]:=Zg;obtain⟨e,c,rfl⟩:∃e c,a=e++[c]:=⟨a.dropLast,a.getLast d,(List.dropLast_concat_getLast d).symm⟩;grind [UInt8.toNat_lt,Eo]
def ab1(c:Nat)(a:Nat)(d:a<256):(c*256) ||| a=c*256+a:=by
 have:=Nat.shiftLeft_add_eq_or_of_lt (i:=8) (b:=a) Zm c;rw[Nat.shiftLeft_eq]at this;simp_all
def Kf(c:Zb)(x:c.length<=8)(a:Zw):Calls prog 225 #[Zs c] a λg r=>g=.returned (.int .u64 (du c))/\r=a:=by
 go_in;go_wp2;go_loopw [7,3] (λe p q=>∃b:Nat,e=Y b/\b<=c.length/\p=.int .u64 (du (c.take b))/\q=a) (λe _ _=>c.length-(intOf e).toNat)
 case atStart=>exact⟨0,rfl,Zm,Zr,rfl⟩
 case round=>
  obtain⟨b,rfl,u,rfl,rfl⟩:=hrel;rcases Yj b c.length with f|t
  .have v:(0:Int)<=↑b:=Zm;have w:(↑b:Int) < ↑c.length:=Zm;have k:du (c.take b)<256 ^ 7:=by
    have i:=En (c.take b).length (c.take b) rfl;have j:(c.take b).length<=7:=Zg;exact Yr i (Nat.pow_le_pow_right Zm j)
   have s:∀d:UInt8,bits BinOp.or IntKind.u64 ((du (c.take b):Int)*256) (IntKind.u64.wrap d.toNat)=((du (c.take b)*256+d.toNat:Nat):Int):=by
    intro d;have l:=d.toNat_lt;have o:(256:Nat) ^ 7=72057594037927936:=Zr;rw[o]at k;have h:IntKind.u64.wrap (d.toNat:Int)=(d.toNat:Int):=by simp[IntKind.wrap_u64];omega
    rw[h,show ((du (c.take b):Int)*256)=((du (c.take b)*256:Nat):Int) by omega,bits_or_u64_nat _ _ Zm Zm,ab1 _ _ l]
   have n:du (c.take (b+1))=du (c.take b)*256+(c[b]).toNat:=by rw[Yt f,Eo]
   go_wp2;refine⟨⟨b+1,Zr,f,?_,trivial⟩,Zz⟩;rw[n];rfl
  .have m:b=c.length:=Zm;subst m;go_wp2;go_ret;simp
section
variable {j a : Zw} {c : Nat} {e : List Th} {b : Zb} {f g h : Nat} {d : bP}
def Ee(n:af (Gm (dP c b f g h d) j e a)):Calls prog 164 #[Zp c] a (gx j (dP c b f g h) e (jj b d) λv=>.int .u32 v):=by
 have i:af (jj b d=aA (mv b 4 d) λm=>.ok (du m.1,m.2)):=rfl;go_in;go_wp21;refine gw i (Ht 4 Zm n) λl p q k i o=>?_;have s:=sI (uO k.i).2.2.2.2;go_wp21;refine(Kf l (by have:=(uO k.i).2.2.2.2;omega) q).mono ?_;rintro r t ⟨rfl,rfl⟩;go_wp2;go_ret;exact Y8 ⟨du l,p,i.i,by simp[IntKind.wrap_u32],o.i⟩
def Sf(m:af (Gm (dP c b f g h d) j e a)):Calls prog 422 #[Zp c] a (gx j (dP c b f g h) e (aA (mv b 8 d) λk=>.ok (du k.1,k.2)) λv=>.int .u64 v):=by
 go_in;go_wp21;refine gw (U rfl) (Ht 8 Zm m) λi o q p l n=>?_;go_wp21;refine(Kf i (by have:=(uO p.i).2.2.2.2;omega) q).mono ?_;rintro r s ⟨rfl,rfl⟩;go_wp2;go_ret;exact Y8 ⟨du i,o,l.i,rfl,n.i⟩
end
end
section
variable {b c:Nat}{a:List Int}
def IA(b:dI)(g:Option Addr)(h i:Nat)(v:Nat)(k:v<4294967296)(a:Zw):Calls prog 418 #[.agg (rL b.c4 b.dg g h i b.bD).toArray,.int .u32 v] a λd f=>d=.returned (Y (fR b v))/\Below a.heap.size a f:=by
 have e:∀c,Below a.heap.size a (a.alloc c):=λc=>(Below.refl ..).alloc (Y4 _) _;by_cases j:b.c4<0
 .go_in;go_wp2;go_ret;refine⟨?_,e _⟩;show Ending.returned (Y (wrap64 (wrap32 (v:Int))))=_;congr 2;unfold fR wrap32 wrap64;omega
 .go_in;go_wp2;go_ret;simp_all[fR,Y2]
def Qr(d:Int)(c:Bool)(b:Nat)(a:Zw):Calls prog 367 #[.agg #[Y d,.bool c],Y b] a λf h=>f=.returned (.bool (if c then decide ((b:Int)=d)else decide ((b:Int)<=d)))/\Below a.heap.size a h:=by
 have g:∀e,Below a.heap.size a (a.alloc e):=λe=>(Below.refl ..).alloc (Y4 _) _;have i:(0:Int)<=b:=Zm;cases c with
 |true=>
  go_in;go_wp2;go_ret;refine⟨?_,g _⟩;rfl
 |false=>
  go_in;go_wp2;go_ret;simp_all
def Rs(D:a.length<=1000)(x:a.length<=b)(f:Int)(i:Zw)(m:∀e (v:e<a.length),i.cell? (Zd c e)=some (Y a[e])):Calls prog 412 #[.slice (some ⟨c,0,none⟩) a.length b,Y f] i λp u=>(∃e:Int,p=.returned (Y e)/\decide (0<=e)=a.contains f)/\u=i:=by
 have o:=U m;clear m;go_in;go_wp2;go_loopw [8] (λe t=>∃d:Nat,e=Y d/\d<=a.length/\af (∀h∈a.take d,h≠f)/\t=i) (λe _=>a.length-(intOf e).toNat)
 case atStart=>exact⟨0,rfl,Zm,(by intro h g;grind),rfl⟩
 case round=>
  obtain⟨d,rfl,A,j,rfl⟩:=hrel;rcases Yj d a.length with l|y
  .have E:=o.i d l;have B:(0:Int)<=↑d:=Zm;have C:(↑d:Int) < ↑a.length:=Zm;by_cases k:f=a[d]
   .have q:(f==a[d])=true:=Zg;have z:af (a.contains f=true):=by show _=_;simp_all
    clear k;go_wp2;go_ret;simp_all
   .have q:(f==a[d])=false:=Zg;have n:af (∀h∈a.take (d+1),h≠f):=by
     intro h g;rw[Yt l]at g;rcases Yn.1 g with g|g
     .exact j.i h g
     grind
    clear k;go_wp2;exact⟨⟨d+1,Zr,Zm,n,trivial⟩,Zz⟩
  .have r:d=a.length:=Zm;subst r;have s:af (a.contains f=false):=by
    show _=_;have w:=j.i;grind
   clear j;go_wp2;go_ret;exact⟨⟨-1,rfl,by rw[s.i];simp⟩,rfl⟩
def QA(l:a.length<=1000)(k:a.length<=b)(f:Int)(e:Zw)(m:∀d (o:d<a.length),e.cell? (Zd c d)=some (Y a[d])):Calls prog 408 #[.slice (some ⟨c,0,none⟩) a.length b,Y f] e λg n=>g=.returned (.bool (a.contains f))/\n=e:=by
 have j:=U (Rs l k f e m);go_in;go_wp21;refine j.i.mono ?_;rintro g p ⟨⟨d,rfl,h⟩,rfl⟩;have i:=U h;clear h;go_wp2;go_ret;refine⟨?_,rfl⟩;rw[<-i.i];rfl
end
section
def aab{f v a}{w:Zw}(k:Iz f v (some a))(h:∀i∈f,w.heap[i.1]?=some i.2):∃c b,v=.slice (some ⟨c,0,none⟩) a.length b/\a.length<=1000/\a.length<=b/\∀(e:Zw),ap [] w e->∀d (o:d<a.length),e.cell? (Zd c d)=some (Y a[d]):=by
 obtain⟨t,q⟩:=k;rcases q with⟨_,s,_⟩|⟨c,b,r,j,⟨l,m⟩,g,n⟩
 .simp_all
 .exact⟨c,b,j,m,l,λe p d o=>oK ((p.ak _ (ay (h _ g)) Zq).trans (h _ g)) n Zq⟩
def DP{l m b}(t:iN l m b)(a:Int){w:Zw}(z:∀r∈l,w.heap[r.1]?=some r.2):Calls prog 355 #[.agg m.toArray,Y a] w λn B=>n=.returned (.bool (b.br a))/\Below w.heap.size w B:=by
 have g:∀f,Below w.heap.size w (w.alloc f):=λf=>(Below.refl ..).alloc (Y4 _) _;have H:∀d,(binOp BinOp.eql 245 (.slice none 0 0) (.slice none 0 0)).run prog d=.ok (.bool true) d:=λd=>by kernel_rfl
 have I:∀(s:Addr) (p q:Nat) (d:Zw),(binOp BinOp.eql 245 (.slice (some s) p q) (.slice none 0 0)).run prog d=.ok (.bool false) d:=λs p q d=>by kernel_rfl
 obtain⟨J,rfl,e,C,D,E,rfl⟩:=t;by_cases j:b.c4<=a
 .by_cases k:a<=b.dg
  .cases h:b.f0 with
   |none=>
    rw[h]at e;have y:Value.slice C D E=.slice none 0 0:=e;cases y
    have c:af (b.br a=true):=by show _=_;simp[dI.br,j,k,h]
    go_in;go_wp2;go_ret;refine⟨?_,g _⟩;rw[c.i];rfl
   |some A=>
    rw[h]at e;obtain⟨G,F,u,v,x,o⟩:=aab e z;cases u
    have c:af (b.br a=A.contains a):=by show _=_;simp[dI.br,j,k,h]
    have i:=λf=>QA v x a (w.alloc f) (o _ ((ar [] w).A f));have i:=U i;clear e o;go_in;go_wp2_with (go_at_call 408;refine(i.i _).mono ?_;rintro n K ⟨rfl,rfl⟩);go_ret;refine⟨?_,g _⟩;rw[c.i];simp
  .have c:af (b.br a=false):=by show _=_;simp[dI.br,k]
   go_in;go_wp2;go_ret;refine⟨?_,g _⟩;rw[c.i];rfl
 .have c:af (b.br a=false):=by show _=_;simp[dI.br,j]
  go_in;go_wp2;go_ret;refine⟨?_,g _⟩;rw[c.i];rfl
section
variable {h w : Zw} {e : Nat} {f : List Th} {d : Zb} {c b g : Nat} {a i : bP}
def QS(i:Nat)(r:i<1000000)(j:af (Gm (dP e d c b g a) h f w)):Calls prog 414 #[Zp e,Y i] w (gx h (dP e d c b g) f (cp ((bk d c b).cY i a)) λ_=>.tuple #[]):=by
 obtain⟨ad,q,p,-⟩:=xf j.i;have m:=U (uW j);by_cases l:c<=i
 .have k:af (cp ((bk d c b).cY i a)=.error ⟨13,a.aa⟩):=by show _=_;simp[bk,l,cp,aA]
  have o:(c:Int)<=(i:Int):=Zm;go_in;go_wp2_with (first
   |(go_at_call 111;refine m.i.mono ?_;rintro n t ⟨rfl,rfl⟩)
   |(go_at_call 70;refine(fp _ _ _).mono ?_;rintro n s ⟨rfl,rfl⟩))
  exact bM (tD j.i k)
 .have k:af (cp ((bk d c b).cY i a)=.ok ((),a)):=by show _=_;simp[bk,l,cp,aA]
  have o:(i:Int)<(c:Int):=Zm;go_in;go_wp2;go_end0;exact Y8 ⟨(),a,k.i,rfl,j.i⟩
def AW(i:af (Gm (dP e d c b g a) h f w)):Calls prog 330 #[Zp e] w (gx h (dP e d c b g) f (cp (fB b a)) λ_=>.tuple #[]):=by
 obtain⟨ad,p,o,-,-,-,-,-⟩:=xf i.i;have l:=U (uW (U i.i.ag));by_cases k:b<=a.a0.length
 .have j:af (cp (fB b a)=.error ⟨15,a.aa⟩):=by show _=_;simp[fB,k,cp,aA]
  have n:(b:Int)<=(a.a0.length:Int):=Zm;go_in;go_wp2;go_region;go_wp2_with (first
   |(go_at_call 111;refine l.i.mono ?_;rintro m r ⟨rfl,rfl⟩)
   |(go_at_call 70;refine(fp _ _ _).mono ?_;rintro m q ⟨rfl,rfl⟩))
  exact bM (tD i.i.ag j)
 .have j:af (cp (fB b a)=.ok ((),a)):=by show _=_;simp[fB,k,cp,aA]
  have n:(a.a0.length:Int)<(b:Int):=Zm;go_in;go_wp2;go_region;go_wp2;go_end0;exact Y8 ⟨(),a,j.i,rfl,i.i.ag⟩
def AX(c:cp (fB b a)=.ok ((),i)):i=a/\a.a0.length<b:=by
 unfold fB at c;split at c
 .cases c
 .cases c
  exact⟨rfl,Zm⟩
end
end
section
def BF:(prog.info? 87).map (λa=>(a.zero,a.size,a.bytes))=some (some (.agg #[Y 0,Y 0,.string ⟨#[]⟩,Y 0,Y 0]),5,48):=Zk
def abS(c:kP):∀b∈qy c,b.oneCell'=true:=by
 intro b a;simp at a;rcases a with rfl|rfl|rfl|rfl|rfl<;>rfl
section
variable {g w : Zw} {c : Nat} {F : List Th} {b : Zb} {d e f : Nat} {a : bP}
def Bn(h:kP)(a2:a.a0.length<10000)(z:af (Gm (dP c b d e f a) g F w)):Calls prog 419 #[Zp c,.agg (qy h).toArray] w λI S=>I=.returned (.tuple #[])/\af (Gm (dP c b d e f (dr h a)) g F S):=by
 obtain⟨_,⟨a3,rfl,J,K,a1⟩,l⟩:=z.i;obtain⟨ad,D,rfl⟩:=aW (l.b0 (i:=1) rfl);have C:=aE (l.b0 (i:=0) rfl);have E:=bl (l.b0 (i:=0) rfl);have G:=ay (l.b0 (i:=0) rfl);have L:(a.a0.length+1)*48<=140737488355328:=Zm;have l:=U l;go_in;go_wp21;refine bJ (λp=>p.cell? (Zd c 5)=some (.slice ad a.a0.length D)/\p.cell? (Zd w.heap.size 0)=some (Y h.w)/\p.cell? (Zd w.heap.size 1)=some (Y h.n)/\p.cell? (Zd w.heap.size 2)=some (Zs h.s)/\p.cell? (Zd w.heap.size 3)=some (Y h.y)/\p.cell? (Zd w.heap.size 4)=some (Y h.am)) ?_ λu=>?_
 .go_keep
 refine bf [0,1,2,3,4,5] ?_;iterate 6 (refine bi ?_)
 refine bg ?_;refine bI 6 λq k=>?_;go_simp;refine k.out _ _ ?_ (λu=>?_)
 .go_keep
 clear k q;refine nz ?_;refine bI 7 λq k=>?_;(refine mh (B:=w.heap.size+1) BF underlying76 (bQ (l.i.b0 (i:=1) rfl) ((((ar [] w).A _).A _).ag) Zq) (qy h) (be (w:=w.alloc _) Zq) (abS h) L (YV _) (H:=w.heap.size+2) Zq ?_;intro t r a0 y x v M;have m:=U (kR (F:=.obj w.heap.size (.cells (qy h).toArray 87)::F)▸(l.i.A (.cells (qy h).toArray 87)).a4 (fm (F:=.obj w.heap.size (.cells (qy h).toArray 87)::F) (i:=1) rfl) (((ar [] _).A _).ag) y x v Zq);have C:=aE (m.i.b0 (i:=0) rfl);have E:=bl (m.i.b0 (i:=0) rfl);have G:=ay (m.i.b0 (i:=0) rfl);have a4:=aE (m.i.aR (i:=0) (o:=.cells (qy h).toArray 87) rfl);clear y x v M);refine k.out _ _ ?_ (λu=>?_)
 .go_keep
 clear k q;refine nz ?_;refine bf [8,9] ?_;iterate 2 (refine bi ?_)
 refine bg ?_;refine bL λq k=>?_;go_simp;refine k.out _ _ ?_;clear k q;refine nz ?_;obtain⟨N,O,P,R⟩:=qz (j:=5) (m.i.b0 (i:=0) rfl) (.slice (some ⟨t,0,none⟩) (a.a0.length+1) r);have A:af (Gm (dP c b d e f (dr h a)) g F (a0.setCell ⟨c,5,none⟩ (.slice (some ⟨t,0,none⟩) (a.a0.length+1) r))):=⟨_,⟨.slice (some ⟨t,0,none⟩) (a.a0.length+1) r,by simp[dr],J,K,by simp[dr];omega⟩,(m.i.gf (i:=0) rfl N O P R).au⟩;go_wp2;go_end0;exact⟨rfl,A⟩
def abD(h:dI)(s:Option Addr)(t u:Nat)(A:af (Gm (dP c b d e f a) g F w)):Calls prog 421 #[Zp c,.agg (rL h.c4 h.dg s t u h.bD).toArray] w (gx g (dP c b d e f) F (nV b h a) λv=>Y v):=by
 cases z:h.bD with
 |true=>
  have k:af (nV b h a=aA (aA (mv b 8 a) λl=>.ok (du l.1,l.2)) λq=>.ok (lH q.1,q.2)):=by show _=_;unfold nV;rw[z];cases mv b 8 a<;>rfl
  go_in;go_wp21;refine gw k (Sf (U (A.i.cU _))) λv y D p k n=>?_;have C:v<18446744073709551616:=by
   obtain⟨l,G,H⟩:=bZ p.i;cases H
   exact Bb (uO G).2.2.2.2
  go_wp2;go_ret;refine Y8 ⟨lH v,y,k.i,?_,n.i⟩;show Ending.returned (Y (wrap64 (v:Int)))=Ending.returned (Y (lH v));congr 2;unfold lH wrap64;split<;>omega
 |false=>
  have k:af (nV b h a=aA (jj b a) λl=>.ok (fR h l.1,l.2)):=by show _=_;unfold nV;rw[z];rfl
  have E:=U (Ee (U (A.i.A (.cells #[Y h.c4,Y h.dg,.slice s t u,.bool false] 247)).ag));go_in;go_wp21;refine bJ (λr=>r.cell? (Zd w.heap.size 0)=some (Y h.c4)/\r.cell? (Zd w.heap.size 1)=some (Y h.dg)/\r.cell? (Zd w.heap.size 2)=some (.slice s t u)/\r.cell? (Zd w.heap.size 3)=some (.bool false)) ?_ λB=>?_
  .go_keep
  refine bf [0,1,2,3] ?_;iterate 4 (refine bi ?_)
  refine bg ?_;refine bI 4 λm j=>?_;(go_simp;go_at_call 164;refine gw k E.i λv y D p k n=>?_;have q:=aE (n.i.ob (i:=0) rfl);have C:v<4294967296:=(by rw[(oU p.i).1];exact sI (oU p.i).2.1));refine j.out _ _ ?_ (λB=>?_)
  .go_keep
  clear j m;refine nz ?_;refine bI 5 λm j=>?_;(go_simp;go_at_call 418;have x:=IA h s t u v C D;rw[z]at x;refine x.mono ?_;rintro J K ⟨rfl,I⟩;have o:=n.i.az I;have q:=aE (o.ob (i:=0) rfl);have o:=U o.au;clear x);refine j.out _ _ ?_ (λB=>?_)
  .go_keep
  clear j m;refine nz ?_;refine bL λm j=>?_;go_simp;refine j.out _ _ ?_;clear j m;refine nz ?_;go_wp2;go_ret;exact Y8 ⟨_,y,k.i,rfl,o.i⟩
end
end
section
variable {j h : Zw} {c : Nat} {d : List Th} {b : Zb} {e f g : Nat} {a : bP}
def Kz(k:Int)(m:Bool)(A:0<=k)(B:k<=4294967295)(y:af (Gm (dP c b e f g a) j d h)):Calls prog 420 #[Zp c,.agg #[Y k,.bool m]] h (gx j (dP c b e f g) d (ik b k m a) λv=>Y v):=by
 have p:=U (y.i.A (.cells #[Y k,.bool m] 375));cases m with
 |true=>
  go_in;go_wp2;go_ret;refine Y8 ⟨k.toNat,a,rfl,?_,p.i.au⟩;show Ending.returned (Y k)=Ending.returned (Y (k.toNat:Int));rw[Int.toNat_of_nonneg A]
 |false=>
  have l:af (ik b k false a=aA (jj b a) λw=>if(w.1:Int)<=k then .ok w else .error ⟨19,a.aa⟩):=rfl
  go_in;go_wp21;refine(uW p).mono ?_;rintro t x ⟨rfl,rfl⟩;go_wp21;refine gw l (Ee p) λv s x u l q=>?_;have D:=aE (q.i.ob (i:=0) rfl);have C:v<4294967296:=by rw[(oU u.i).1];exact sI (oU u.i).2.1
  go_wp21;refine(Qr k false v x).mono ?_;rintro t F ⟨rfl,z⟩;have r:=U (q.i.az z).au;simp only[Ye,if_false]
  by_cases n:(v:Int)<=k
  .have o:af (ik b k false a=.ok (v,s)):=l.i.trans (Y9 n);rw[show decide ((v:Int)<=k)=true by simp[n]];go_wp2;go_ret;exact Y8 ⟨v,s,o.i,rfl,r.i⟩
  .have o:af (ik b k false a=.error ⟨19,a.aa⟩):=l.i.trans (Y2 n);rw[show decide ((v:Int)<=k)=false by simp;omega];clear n;go_wp2_with (go_at_call 70;refine(fp _ _ _).mono ?_;rintro t E ⟨rfl,rfl⟩);exact bM (tD r.i o)
end
section
def Kd{b i:Nat}{a:Zb}(d:i<a.length)(e:jb b (a.drop b)=jb i (a.drop i))(c:a[i]=0):jb b (a.drop b)=jb (i+1) (a.drop (i+1)):=by
 rw[e,Yk d];simp only[jb,c,if_true]
def Kc{n a:Nat}{b:Zb}(d:a<b.length)(e:jb n (b.drop n)=jb a (b.drop a))(c:b[a]≠0):jb n (b.drop n)=some a:=by
 rw[e,Yk d];simp only[jb,c,if_false]
section
variable {j c : Zw} {d : Nat} {e : List Th} {b : Zb} {f g h : Nat} {a : bP}
def RD(i:Nat)(a5:i<=4294967295)(u:af (Gm (dP d b f g h a) j e c)):Calls prog 259 #[Zp d,Y i] c (gx j (dP d b f g h) e (qC b i a) λk=>Zs k):=by
 obtain⟨ad,N,M,-,-,a7,a2,-⟩:=xf u.i;have H:cB i<=i+3:=by unfold cB;omega
 have I:i<=cB i:=by unfold cB;omega
 have B:((i:Int)+3) / 4*4=(cB i:Int):=by unfold cB;omega
 have x:af (qC b i a=aA (mv b (cB i) a) λt=>match jb i (t.1.drop i)with|some o=>.error ⟨17,a.aa+o⟩|none=>.ok (t.1.take i,t.2)):=rfl;go_in;go_wp21;refine gw x (Ht (cB i) Zm u) λk w L J p v=>?_;have F:k.length=cB i:=(uO J.i).2.2.2.2;have G:i<=k.length:=Zm;have a1:k.length<=4294967300:=Zm;clear F H I B;go_wp2;go_loopw [7] (λo K=>∃l:Nat,o=Y l/\i<=l/\l<=k.length/\af (jb i (k.drop i)=jb l (k.drop l))/\K=L) (λo _=>k.length-(intOf o).toNat)
 case atStart=>exact⟨i,rfl,Y4 _,G,rfl,rfl⟩
 case round=>
  obtain⟨l,rfl,a6,R,m,rfl⟩:=hrel;rcases Yj l k.length with q|P
  .have S:(0:Int)<=↑l:=Zm;have a0:(↑l:Int) < ↑k.length:=Zm;have O:(⟨k.toArray⟩:Za)[l]'(by simp[ByteArray.size];exact q)=k[l]:=rfl;by_cases n:k[l]=0
   .have y:=U (Kd q m.i n);have C:((k[l].toNat:Int) != 0)=false:=by rw[n];rfl
    clear m;go_wp2;exact⟨⟨l+1,Zj,Zm,q,y,trivial⟩,Zz⟩
   .have r:af (qC b i a=.error ⟨17,a.aa+l⟩):=by show _=_;rw[p.i,Kc q m.i n]
    have C:((k[l].toNat:Int) != 0)=true:=by
     have:k[l].toNat≠0:=λs=>n (UInt8.toNat_inj.1 (by simpa using s));simp;omega
    clear m n p;go_wp2_with (go_at_call 70;refine(fp _ _ _).mono ?_;rintro s a8 ⟨rfl,rfl⟩);rw[show ((a.aa:Int)+l)=((a.aa+l:Nat):Int)from(Int.natCast_add ..).symm];exact wn (tD v.i r)
  .have E:l=k.length:=Zm;subst E;have r:af (qC b i a=.ok (k.take i,w)):=by
    show _=_;rw[p.i,m.i,List.drop_length];rfl
   have A:=λc=>Ax ⟨(k.take i).toArray⟩ c (by simp[ByteArray.size];omega);have a3:(0:Int)<=↑i:=Zm;have a4:(↑i:Int)<=↑k.length:=Zm;clear m p;go_wp21;rw[Bs];refine(A _).mono ?_;rintro s a9 ⟨rfl,D⟩;have z:=U (v.i.az D);go_wp2;go_ret;exact Y8 ⟨k.take i,w,r.i,rfl,z.i⟩
end
end
section
def TT{a}{d:Int}{e}{c f:bP}{v:Nat}(h:0<=d)(i:d<=4294967295)(g:ik a d e c=.ok (v,f)):v<=4294967295:=by
 obtain⟨_,_,_,b⟩:=oz g;cases e with
 |true=>simp only[if_true]at b;omega
 |false=>
  simp only[Ye,if_false]at b
  have:=sI b.2;omega
section
variable {f j : Zw} {e : Nat} {g : List Th} {a : Zb} {d b h : Nat} {c : bP}
def QD{t u k}(w:iN t u k)(I:∀m∈t,f.heap[m.1]?=some m.2)(L:b<=10000)(B:af (Gm (dP e a d b h c) f g j)):Calls prog 416 #[Zp e,.agg u.toArray] j (gx f (dP e a d b h) g (cp ((bk a d b).num k c)) λ_=>.tuple #[]):=by
 obtain⟨N,rfl,-,y,z,A,rfl⟩:=id w;have l:af (cp ((bk a d b).num k c)=aA (cp (fB b c)) λm=>cp (aA (nV a k m.2) λn=>if k.br n.1 then .ok (dr ⟨1,n.1,[],0,0⟩ n.2)else .error ⟨18,m.2.aa⟩)):=qR.trans sf
 have C:=U (B.i.A (.cells #[Y k.c4,Y k.dg,.slice y z A,.bool k.bD] 247));go_in;go_wp21;refine gw l (AW C) λJ K P r l o=>?_;obtain⟨rfl,M⟩:=AX r.i;have n:=aE (o.i.ob (i:=0) rfl);go_wp21;refine(uW o).mono ?_;rintro q R ⟨rfl,rfl⟩;go_wp21;refine gw (U (l.i.trans qR)) (abD k y z A o) λv E S r l p=>?_;have G:E.a0.length<10000:=by rw[(xE r.i).2.2.2.1];omega
 have n:=aE (p.i.ob (i:=0) rfl);go_wp21;refine(DP w v (λm H=>p.i.e8 (I m H))).mono ?_;rintro q a0 ⟨rfl,F⟩;have s:=U (p.i.az F).au;cases x:k.br v with
 |true=>
  simp only[x,if_true]at l
  go_wp21;refine(Bn ⟨1,v,[],0,0⟩ G s).mono ?_;rintro q a1 ⟨rfl,D⟩;go_wp2;go_end0;exact Y8 ⟨(),_,l.i,rfl,D.i⟩
 |false=>
  simp only[x,Ye,if_false]at l
  go_wp2_with (go_at_call 70;refine(fp _ _ _).mono ?_;rintro q O ⟨rfl,rfl⟩);exact bM (tD s.i l)
def QC(k:Int)(l:Bool)(w:0<=k)(x:k<=4294967295)(D:b<=10000)(q:af (Gm (dP e a d b h c) f g j)):Calls prog 415 #[Zp e,.agg #[Y k,.bool l]] j (gx f (dP e a d b h) g ((bk a d b).bH k l c) λv=>Y v):=by
 have m:af ((bk a d b).bH k l c=aA (cp (fB b c)) λz=>aA (ik a k l z.2) λn=>.ok (n.1,dr ⟨3,0,[],n.1,0⟩ n.2)):=sf;have r:=U (q.i.A (.cells #[Y k,.bool l] 375));go_in;go_wp21;refine gw m (AW r) λA B F o m p=>?_;obtain⟨rfl,E⟩:=AX o.i;have n:=aE (p.i.ob (i:=0) rfl);go_wp21;refine gw m (Kz k l w x (U p.i.au)) λv u G o m s=>?_;have y:u.a0.length<10000:=by rw[(oz o.i).2.1];omega
 go_wp21;refine(Bn ⟨3,0,[],v,0⟩ y s).mono ?_;rintro C H ⟨rfl,t⟩;go_wp2;go_ret;exact Y8 ⟨v,_,m.i,rfl,t.i⟩
def QE(k:Int)(m:Bool)(s:0<=k)(t:k<=4294967295)(J:b<=10000)(w:af (Gm (dP e a d b h c) f g j)):Calls prog 417 #[Zp e,.agg #[Y k,.bool m]] j (gx f (dP e a d b h) g (cp ((bk a d b).text k m c)) λ_=>.tuple #[]):=by
 have l:af (cp ((bk a d b).text k m c)=aA (cp (fB b c)) λH=>cp (aA (ik a k m H.2) λo=>aA (qC a o.1 o.2) λu=>.ok (dr ⟨2,0,u.1,0,o.2.aa⟩ u.2))):=qR.trans sf;have x:=U (w.i.A (.cells #[Y k,.bool m] 375));go_in;go_wp21;refine gw l (AW x) λI A L n l p=>?_;obtain⟨rfl,K⟩:=AX n.i;have o:=aE (p.i.ob (i:=0) rfl);go_wp21;refine gw (U (l.i.trans qR)) (Kz k m s t (U p.i.au)) λv r M n l q=>?_;have D:af (r.a0=A.a0):=(oz n.i).2.1;have F:=TT s t n.i;go_wp21;refine(uW q).mono ?_;rintro C N ⟨rfl,rfl⟩;go_wp21;refine gw (U (l.i.trans qR)) (RD v F q) λG B O n l y=>?_;have E:B.a0.length<10000:=by rw[(zK n.i).2.2.2.1,D.i];omega
 go_wp21;refine(Bn ⟨2,0,G,0,r.aa⟩ E y).mono ?_;rintro C P ⟨rfl,z⟩;go_wp2;go_end0;exact Y8 ⟨(),_,l.i,rfl,z.i⟩
end
end
def iK(c:dI)(e:List (Int×Nat×Nat))(d:Option (Nat×Nat))(b:Int):Zv:=match ep c e d b with
 |some a=>.agg #[.int .i64 a.1,.int .i64 a.2]
 |none=>.agg #[.int .i64 0,.int .i64 0]
def ahv{f:Zw}{h:Nat}{e}(i:f.heap[h]?=some (kL e))(j:(e.map (·.1)).Nodup)(a:Int):(Instr.lookup 389 (.map (some h)) (.int .i64 a) true).run prog f=.ok (match bT e a with
   |some b=>.tuple #[.agg #[.int .i64 b.1,.int .i64 b.2],.bool true]
   |none=>.tuple #[.agg #[.int .i64 0,.int .i64 0],.bool false]) f:=by
 have c:=BU (P:=prog) (T:=389) (kt:=2) (et:=394) (d:=.int .i64) Zk Zk (λa:Int=>.int .i64 a) (λb:Nat×Nat=>.agg #[.int .i64 b.1,.int .i64 b.2]) (λ_=>rfl) LL i j (z:=.agg #[.int .i64 0,.int .i64 0]) Zk a true;cases g:bT e a with
 |none=>rw[g]at c;exact c
 |some v=>rw[g]at c;exact c
def ww{a:Nat}{g h k' t':Zv}{b c}{d:Zw}(e:d.heap[a]?=some (.cells #[g,h] b c)):((d.setCell ⟨a,0,none⟩ k').setCell ⟨a,1,none⟩ t').heap[a]?=some (.cells #[k',t'] b c):=by
 have f:=ci (i:=0) e k';exact ci (i:=1) f t'
def JM{C M d}{F:Nat}{e J m}(P:iN C M d)(S:(F,kL e)∈C)(E:pV C J m)(b1:(e.map (·.1)).Nodup)(c:Int){w:Zw}(z:∀p∈C,w.heap[p.1]?=some p.2):Calls prog 404 #[.agg (M++[.map (some F),J]).toArray,.int .i64 c] w λN b3=>N=.returned (.tuple #[iK d e m c,.bool (ep d e m c).isSome])/\Below w.heap.size w b3:=by
 obtain⟨c8,rfl,b0,b4,b5,b6,rfl⟩:=id P;obtain⟨G,rfl⟩:∃G,J=.pointer G:=by
  cases m with
  |none=>exact⟨_,E⟩
  |some b=>obtain⟨b7,a7,_⟩:=E;exact⟨_,a7⟩
 have R:∀A B,Below w.heap.size w ((w.alloc A).alloc B):=λA B=>((Below.refl ..).alloc (Y4 _) _).alloc Zq _;have a5:=U (λA B=>DP P c (w:=(w.alloc A).alloc B) (λp a0=>((R A B).block _ (ay (z p a0))).trans (z p a0)));go_in;go_wp21;refine(a5.i _ _).mono ?_;rintro N l ⟨rfl,D⟩;have b2:l.heap[w.heap.size]?=some (.cells #[.int .i64 d.c4,.int .i64 d.dg,.slice b4 b5 b6,.bool d.bD,.map (some F),.pointer G] 392):=(D.block _ Zx).trans ((Below.heap_alloc _ _ _ Zq).trans (be rfl));have n:l.heap[w.heap.size+1]?=some (.cells #[.int .i64 0,.int .i64 0] 394):=(D.block _ Zq).trans (be Zq);have k:Below w.heap.size w l:=(R ..).trans (D.mono Zx);have a9:l.heap[F]?=some (kL e):=(k.block _ (ay (z _ S))).trans (z _ S);have I:=ahv a9 b1 c;have c6:=k.size;have c7:=ay n;have K:=U E;have L:=U z;clear D b0 E z;cases h:d.br c with
 |false=>
  have r:af (iK d e m c=.agg #[.int .i64 0,.int .i64 0]):=by show _=_;simp[iK,ep,h]
  have s:af ((ep d e m c).isSome=false):=by show _=_;simp[ep,h]
  have y:af (∀f g,Below w.heap.size w ((l.setCell ⟨w.heap.size+1,0,none⟩ f).setCell ⟨w.heap.size+1,1,none⟩ g)):=λf g=>(k.setCell (p:=⟨w.heap.size+1,0,none⟩) Zq f).setCell (p:=⟨w.heap.size+1,1,none⟩) Zq g;obtain⟨a1,a2,a3,a4⟩:=ow n;obtain⟨u,x,_,_⟩:=ow (ww (k':=.int .i64 0) (t':=.int .i64 0) n);clear k I;go_wp2;exact bodyPost_ret (v:=.tuple #[.agg #[.int .i64 0,.int .i64 0],.bool false]) (by simp[results,results404,go_sem,u,x]) rfl ⟨by rw[r.i,s.i],y.i ..⟩
 |true=>
  obtain⟨b8,b9,c0,c1,c2,c3,c4,c5⟩:=Tn b2;cases i:bT e c with
  |some b=>
   rw[i]at I;have r:af (iK d e m c=.agg #[.int .i64 b.1,.int .i64 b.2]):=by show _=_;simp[iK,ep,h,i]
   have s:af ((ep d e m c).isSome=true):=by show _=_;simp[ep,h,i]
   have t:∀(o q:Zv) a,(((l.setCell ⟨w.heap.size+1,0,none⟩ o).setCell ⟨w.heap.size+1,1,none⟩ q).alloc a).heap[w.heap.size+1]?=some (.cells #[o,q] 394):=λo q a=>(Below.heap_alloc _ _ _ (ay (ww n))).trans (ww n);have y:af (∀a f g,Below w.heap.size w (((l.setCell ⟨w.heap.size+1,0,none⟩ f).setCell ⟨w.heap.size+1,1,none⟩ g).alloc a)):=λa f g=>((k.setCell (p:=⟨w.heap.size+1,0,none⟩) Zq f).setCell (p:=⟨w.heap.size+1,1,none⟩) Zq g).alloc (by simp[World.setCell];omega) a;obtain⟨a1,a2,a3,a4⟩:=ow n;have j:=λa=>ow (t (.int .i64 (b.1:Int)) (.int .i64 (b.2:Int)) a);have u:=λa=>(j a).1;have x:=λa=>(j a).2.1;clear k j t h i;go_wp2;exact bodyPost_ret (v:=.tuple #[.agg #[.int .i64 b.1,.int .i64 b.2],.bool true]) (by simp[results,results404,go_sem,u,x]) rfl ⟨by rw[r.i,s.i],y.i ..⟩
  |none=>
   rw[i]at I;have t:∀(o q:Zv) a,(((l.setCell ⟨w.heap.size+1,0,none⟩ o).setCell ⟨w.heap.size+1,1,none⟩ q).alloc a).heap[w.heap.size+1]?=some (.cells #[o,q] 394):=λo q a=>(Below.heap_alloc _ _ _ (ay (ww n))).trans (ww n);have y:af (∀a f g,Below w.heap.size w (((l.setCell ⟨w.heap.size+1,0,none⟩ f).setCell ⟨w.heap.size+1,1,none⟩ g).alloc a)):=λa f g=>((k.setCell (p:=⟨w.heap.size+1,0,none⟩) Zq f).setCell (p:=⟨w.heap.size+1,1,none⟩) Zq g).alloc (by simp[World.setCell];omega) a;obtain⟨a1,a2,a3,a4⟩:=ow n;cases m with
   |some b=>
    obtain⟨a6,H,O⟩:=K.i;cases H
    have a8:l.heap[a6]?=some (.cells #[.int .i64 b.1,.int .i64 b.2] 394):=(k.block _ (ay (L.i _ O))).trans (L.i _ O);obtain⟨c9,d0,d1,d2⟩:=ow a8;have r:af (iK d e (some b) c=.agg #[.int .i64 b.1,.int .i64 b.2]):=by show _=_;simp[iK,ep,h,i]
    have s:af ((ep d e (some b) c).isSome=true):=by show _=_;simp[ep,h,i]
    have j:=λa=>ow (t (.int .i64 (b.1:Int)) (.int .i64 (b.2:Int)) a);have u:=λa=>(j a).1;have x:=λa=>(j a).2.1;clear k j t h i;go_wp2;exact bodyPost_ret (v:=.tuple #[.agg #[.int .i64 b.1,.int .i64 b.2],.bool true]) (by simp[results,results404,go_sem,u,x]) rfl ⟨by rw[r.i,s.i],y.i ..⟩
   |none=>
    have H:Value.pointer G=.pointer none:=K.i;cases H
    have r:af (iK d e none c=.agg #[.int .i64 0,.int .i64 0]):=by show _=_;simp[iK,ep,h,i]
    have s:af ((ep d e none c).isSome=false):=by show _=_;simp[ep,h,i]
    have j:=λa=>ow (t (.int .i64 0) (.int .i64 0) a);have u:=λa=>(j a).1;have x:=λa=>(j a).2.1;clear k j t h i;go_wp2;exact bodyPost_ret (v:=.tuple #[.agg #[.int .i64 0,.int .i64 0],.bool false]) (by simp[results,results404,go_sem,u,x]) rfl ⟨by rw[r.i,s.i],y.i ..⟩
def QB{M p:Zw}{D P f}{n g a6:Nat}{z y a1 a}{J:Nat}{d K c}(a4:iN y a1 a)(b2:(J,kL d)∈y)(I:pV y K c)(b8:(d.map (·.1)).Nodup)(b7:∀b∈y,M.heap[b.1]?=some b.2)(c1:g<=10000)(a8:af (Gm (dP D f n g a6 z) M P p)):Calls prog 413 #[Zp D,.agg (a1++[.map (some J),K]).toArray] p (gx M (dP D f n g a6) P ((bk f n g).cg a (λe=>(ep a d c e).map (·.2)) z) (iK a d c)):=by
 obtain⟨c3,rfl,b3,N,O,B,rfl⟩:=id a4;obtain⟨L,rfl⟩:∃L,K=.pointer L:=by
  cases c with
  |none=>exact⟨_,I⟩
  |some k=>obtain⟨f,b0,_⟩:=I;exact⟨_,b0⟩
 have l:af ((bk f n g).cg a (λe=>(ep a d c e).map (·.2)) z=aA (cp (fB g z)) λb=>aA (jj f b.2) λk=>match (ep a d c (fR a k.1)).map (·.2)with|none=>.error ⟨18,b.2.aa⟩|some e=>.ok (fR a k.1,dr ⟨4,fR a k.1,[],e,0⟩ k.2)):=sf;have w:=(a8.i.A (.cells #[Y a.c4,Y a.dg,.slice N O B,.bool a.bD,.map (some J),.pointer L] 392)).A (.cells #[Y 0,Y 0] 394);simp only[World.size_alloc]at w;have w:=U w;clear b3;go_in;go_wp21;refine gw l (AW w) λ_ H c5 t l F=>?_;obtain⟨rfl,c2⟩:=AX t.i;have k:=aE (F.i.ob (i:=1) rfl);have a9:=U (Ee (U F.i.ag));go_wp21;refine(uW F).mono ?_;rintro A c6 ⟨rfl,rfl⟩;go_wp21;refine bJ (λu=>u.cell? (Zd p.heap.size 0)=some (Y a.c4)/\u.cell? (Zd p.heap.size 1)=some (Y a.dg)/\u.cell? (Zd p.heap.size 2)=some (.slice N O B)/\u.cell? (Zd p.heap.size 3)=some (.bool a.bD)) ?_ λa3=>?_
 .go_keep
 refine bf [0,1,2,3,4] ?_;iterate 5 (refine bi ?_)
 refine bg ?_;refine bI 5 λq h=>?_;(go_simp;go_at_call 164;refine gw l a9.i λv a2 b9 t l R=>?_;have k:=aE (R.i.ob (i:=1) rfl);have b6:v<4294967296:=(by rw[(oU t.i).1];exact sI (oU t.i).2.1);have b4:a2.a0.length<10000:=(by rw[(oU t.i).2.2.2.1];omega));refine h.out _ _ ?_ (λa3=>?_)
 .go_keep
 clear h q;refine nz ?_;refine bI 6 λq h=>?_;(go_simp;go_at_call 418;refine(IA a N O B v b6 b9).mono ?_;rintro A c7 ⟨rfl,a5⟩;have r:=R.i.az a5;have k:=aE (r.ob (i:=1) rfl);have r:=U r;clear a5);refine h.out _ _ ?_ (λa3=>?_)
 .go_keep
 clear h q;refine nz ?_;refine bL λq h=>?_;go_simp;refine h.out _ _ ?_;clear h q;refine nz ?_;have G:=U (JM a4 b2 I b8 (fR a v) (λb b5=>r.i.e8 (b7 b b5)));go_wp21;refine G.i.mono ?_;rintro A c8 ⟨rfl,b1⟩;have s:=r.i.az b1;cases o:ep a d c (fR a v)with
 |none=>
  have m:iK a d c (fR a v)=.agg #[Y 0,Y 0]:=by simp[iK,o]
  have E:af ((bk f n g).cg a (λe=>(ep a d c e).map (·.2)) H=.error ⟨18,H.aa⟩):=by show _=_;rw[l.i];simp only[o];rfl
  rw[m];simp only[Option.isSome_none];have s:=U s;clear m G o;go_wp2_with (go_at_call 70;refine(fp _ _ _).mono ?_;rintro A u ⟨rfl,rfl⟩);exact bM (tD (s.i.cU (.cells #[Y 0,Y 0] 394)) E)
 |some b=>
  have m:iK a d c (fR a v)=.agg #[Y b.1,Y b.2]:=by simp[iK,o]
  have E:af ((bk f n g).cg a (λe=>(ep a d c e).map (·.2)) H=.ok (fR a v,dr ⟨4,fR a v,[],b.2,0⟩ a2)):=by show _=_;rw[l.i];simp only[o];rfl
  have a7:=U m;rw[m];simp only[Option.isSome_some];have a0:=U (Bn ⟨4,fR a v,[],b.2,0⟩ b4 (U (s.A (.cells #[Y b.1,Y b.2] 394))));clear s m G o;go_wp21;refine a0.i.mono ?_;rintro A c9 ⟨rfl,x⟩;have c4:=aE (x.i.ob (i:=0) rfl);have C:=x.i.ob (i:=1) rfl;have B:=aE C;have d0:=bl C;have d1:=ay C;have S:=U ((x.i.aq (i:=1) (j:=0) rfl (Y (b.1:Int))).aq (i:=1) (j:=1) rfl (Y (b.2:Int)));have c0:=aE (S.i.ob (i:=1) rfl);clear x C a0;go_wp2;exact bodyPost_ret (v:=.agg #[Y b.1,Y b.2]) (by simp[results,results413,go_sem,c0]) rfl (Y8 ⟨fR a v,_,E.i,by rw[a7.i],S.i.au.au.au⟩)
structure mc(τ:Type)(w:Zw)(bs:Zo) where
 W:Wk τ
 T:TypeId
 D:Nat
 P:τ->List Th->Prop
 fE:Nat
 fN:Nat
 fT:Nat
 fL:Nat
 fA:Nat
 mE : ∀ k (u : World), (method (k + 1) T (.pointer (some ⟨D, 0, none⟩)) "Enter").run Tryz.prog u = .ok (fE, .pointer (some ⟨D, 0, none⟩)) u
 mN : ∀ k (u : World), (method (k + 1) T (.pointer (some ⟨D, 0, none⟩)) "Number").run Tryz.prog u = .ok (fN, .pointer (some ⟨D, 0, none⟩)) u
 mT : ∀ k (u : World), (method (k + 1) T (.pointer (some ⟨D, 0, none⟩)) "Text").run Tryz.prog u = .ok (fT, .pointer (some ⟨D, 0, none⟩)) u
 mL : ∀ k (u : World), (method (k + 1) T (.pointer (some ⟨D, 0, none⟩)) "List").run Tryz.prog u = .ok (fL, .pointer (some ⟨D, 0, none⟩)) u
 mA : ∀ k (u : World), (method (k + 1) T (.pointer (some ⟨D, 0, none⟩)) "Arm").run Tryz.prog u = .ok (fA, .pointer (some ⟨D, 0, none⟩)) u
 eE:∀(args:Array Zv) (u:Zw),(callFunc fE args).run prog u=.ok (.enter fE args) u
 eN:∀(args:Array Zv) (u:Zw),(callFunc fN args).run prog u=.ok (.enter fN args) u
 eT:∀(args:Array Zv) (u:Zw),(callFunc fT args).run prog u=.ok (.enter fT args) u
 eL:∀(args:Array Zv) (u:Zw),(callFunc fL args).run prog u=.ok (.enter fL args) u
 eA:∀(args:Array Zv) (u:Zw),(callFunc fA args).run prog u=.ok (.enter fA args) u
 cE:∀{F d u} (k:Nat),k<1000->af (Gm (P d) w F u)->Calls prog fE #[Zp D,Y k] u (gx w P F (cp (W.cY k d)) λ_=>.tuple #[])
 cN:∀{F d u cs n},iN bs cs n->af (Gm (P d) w F u)->Calls prog fN #[Zp D,.agg cs.toArray] u (gx w P F (cp (W.num n d)) λ_=>.tuple #[])
 cT:∀{F d u} (n:Int) (f:Bool),0<=n->n<=4294967295->af (Gm (P d) w F u)->Calls prog fT #[Zp D,.agg #[Y n,.bool f]] u (gx w P F (cp (W.text n f d)) λ_=>.tuple #[])
 cL:∀{F d u} (n:Int) (f:Bool),0<=n->n<=4294967295->af (Gm (P d) w F u)->Calls prog fL #[Zp D,.agg #[Y n,.bool f]] u (gx w P F (W.bH n f d) λv=>Y v)
 cA:∀{F d u cs n m ws ov o},iN bs cs n->(m,kL ws)∈bs->pV bs ov o->(ws.map (·.1)).Nodup->af (Gm (P d) w F u)->Calls prog fA #[Zp D,.agg (cs++[.map (some m),ov]).toArray] u (gx w P F (W.cg n (λk=>(ep n ws o k).map (·.2)) d) (iK n ws o))
 de:∀{n f d k d'},0<=n->n<=4294967295->W.bH n f d=.ok (k,d')->k<=4294967295
section
abbrev nX(a:Nat×Nat):Zl:=[Y a.1,Y a.2]
def Xe:(prog.info? 515).map (λa=>(a.zero,a.size,a.bytes))=some (some (.agg #[Y 0,Y 0]),2,16):=Zk
def abV(c:Nat×Nat):∀a∈nX c,a.oneCell'=true:=by
 intro a b;simp at b;rcases b with rfl|rfl<;>rfl
def ad2(a:List (Nat×Nat)):(a.flatMap nX).length=a.length*2:=by
 induction a with
 |nil=>rfl
 |cons c a b=>simp only[YD,Yq,b,YC];simp;omega
def Nt{w:Zw}{g}{c a:Nat}{v}{f p:Zl}(i:w.ownsRow 0 g c v (a+1) (f++p))(h:f.length=a*c):∃d b,v=.slice (some ⟨d,0,none⟩) (a+1) b/\a+1<=b/\w.ownsRow 0 g c (.slice (some ⟨d,0,none⟩) a b) a f:=by
 obtain⟨r,⟨_,q⟩|⟨d,b,e,rfl,j,k,l,m,n,o⟩⟩:=i
 .omega
 .refine⟨d,b,rfl,l,h,Ya ⟨d,b,e,rfl,j,k,Zm,m,n,?_⟩⟩;have:e.toList.take (a*c)=(e.toList.take ((a+1)*c)).take (a*c):=by
   rw[List.take_take,Nat.add_mul];congr 1;omega
  rw[this,o,<-h];simp
section
variable {f : Type} {w a : Zw} {g : List (Nat × Obj)}
abbrev zw(c:mc f w g)(b:Nat)(a d:Zv)(e:Bool):Obj:=.cells #[.iface c.T (Zp c.D),Y b,a,d,.bool e] 329
abbrev mL(c:mc f w g)(b:Nat)(m:iM)(e:Bool)(a d:Zv):List Th:=[.row 3 1 a m.aK.length (m.aK.reverse.map xu),.row 515 2 d m.b1.length (m.b1.reverse.flatMap nX),.obj b (zw c m.O a d e)]
def mP(c:mc f w g)(b:Nat)(m:iM)(e:Bool)(d:f)(h:List Th):Prop:=∃i j a,h=mL c b m e i j++a/\c.P d a
variable {c : mc f w g} {F : List Th} {b : Nat} {m k : iM} {e h : Bool} {d : f}
theorem td(i:Gm (mP c b m e d) w F a):∃f g,Gm (c.P d) w (F++mL c b m e f g) a:=by
 obtain⟨_,⟨f,g,h,rfl,j⟩,k⟩:=i;exact⟨f,g,h,j,by simpa using k⟩
def vY{csl rsl}(g:Gm (c.P d) w (F++mL c b m e csl rsl) a):Gm (mP c b m e d) w F a:=by
 obtain⟨f,h,i⟩:=g;exact⟨_,⟨csl,rsl,f,rfl,h⟩,by simpa using i⟩
theorem ml{f g}(h:Gm (c.P d) w (F++mL c b m e f g) a):a.heap[b]?=some (zw c m.O f g e):=h.ob (fm (i:=2) rfl)
def xx{n:Type}{k:Nat}{args:Array Zv}{l:Except Mar.ac (n×f)}{j:n->Zv}(g:Gm (mP c b m e d) w F a)(s:∀i,af (Gm (c.P d) w i a)->Calls prog k args a (gx w c.P i l j)):Calls prog k args a (gx w (mP c b m e) F l j):=by
 obtain⟨t,v,g⟩:=td g;refine(s _ g).mono ?_;rintro u x (⟨o,p,h,q,r⟩|h)
 .exact Y8 ⟨o,p,h,q,vY r⟩
 .exact Ya h
def mm(f:Gm (mP c b m e d) w F a):∃h i,(∀g,a.cell? (Zd b g)=#[.iface c.T (Zp c.D),Y m.O,h,i,.bool e][g]?)/\(∀g,a.frozen? ⟨b,g,none⟩=false)/\b<a.heap.size:=by
 obtain⟨h,i,f⟩:=td f;exact⟨h,i,aE (ml f),bl (ml f),ay (ml f)⟩
def uv(f:Gm (mP c b m e d) w F a)(g:Nat):Gm (mP c b { m with O:=g } e d) w F (a.setCell ⟨b,1,none⟩ (Y g)):=by
 obtain⟨h,k,f⟩:=td f;exact vY (kR (F:=F)▸f.aq (j:=1) (fm (i:=2) rfl) (Y g))
def ZT(g:Gm (mP c b m e d) w F a)(f:Bool):Gm (mP c b m f d) w F (a.setCell ⟨b,4,none⟩ (.bool f)):=by
 obtain⟨h,k,g⟩:=td g;exact vY (kR (F:=F)▸g.aq (j:=4) (fm (i:=2) rfl) (.bool f))
def Rx(f:af (Gm (mP c b m e d) w F a)):Calls prog 362 #[.pointer (some ⟨b,2,none⟩)] a λg h=>g=.returned (Y m.aK.length)/\h=a:=by
 obtain⟨l,n,f⟩:=td f.i;obtain⟨ad,k,rfl⟩:=aW (f.th (fm (i:=0) rfl));have j:=aE (ml f);clear f;go_in;go_wp2;go_ret;exact⟨rfl,rfl⟩
def RI(l:Nat)(I:m.aK.length<1000)(f:af (Gm (mP c b m e d) w F a)):Calls prog 363 #[.pointer (some ⟨b,2,none⟩),Y l] a λD H=>D=.returned (.tuple #[])/\af (Gm (mP c b { m with aK:=l::m.aK } e d) w F H):=by
 obtain⟨C,v,f⟩:=td f.i;have h:=f.th (fm (i:=0) rfl);obtain⟨ad,z,rfl⟩:=aW h;have y:=aE (ml f);have A:=bl (ml f);have B:=ay (ml f);have t:af (∀k,(a.alloc k).ownsRow 0 3 1 (.slice ad m.aK.length z) m.aK.length (m.aK.reverse.map xu)):=λk=>bQ h ((ar [] a).A k) Zq;have E:(m.aK.length+1)*8<=140737488355328:=Zm;have n:=U f;clear f h;go_in;go_wp2_with (first
  |(at_builtin;refine ku LI underlying24 (t.i _) [.int .i64 l] (heap_alloc_new a _) Zy E (YV _) (H:=a.heap.size+1) Zq ?_;intro q p J u s r G;have o:=U (kR (F:=F)▸n.i.a4 (fm (i:=0) rfl) ((ar [] a).A _) u s r Zq);have g:=o.i.ob (fm (i:=2) rfl);have y:=aE g;have A:=bl g;have B:=ay g;clear u s r t g G))
 go_end0;have x:=kR (F:=F)▸o.i.aq (j:=2) (fm (i:=2) rfl) (.slice (some ⟨q,0,none⟩) (m.aK.length+1) p);exact⟨rfl,vY (csl:=.slice (some ⟨q,0,none⟩) (m.aK.length+1) p) (rsl:=v) (by simpa[mL]using x)⟩
def RH{p:Nat}{g:List Nat}(o:m.aK=p::g)(n:m.aK.length<=1000)(f:af (Gm (mP c b m e d) w F a)):Calls prog 358 #[.pointer (some ⟨b,2,none⟩)] a λl u=>l=.returned (Y p)/\af (Gm (mP c b { m with aK:=g } e d) w F u):=by
 obtain⟨t,G,f⟩:=td f.i;have h:a.ownsRow 0 3 1 t m.aK.length (m.aK.reverse.map xu):=f.th (fm (i:=0) rfl);rw[o]at h;simp only[YC,List.reverse_cons,List.map_append,List.map_cons,List.map_nil]at h;obtain⟨r,q,rfl,C,s⟩:=Nt h Zq;obtain⟨B,x,l,-,E⟩:=zH (j:=g.length) (y:=Y p) h (by rw[Yw Zq];simp);cases l
 have v:=aE (ml f);have z:=bl (ml f);have A:=ay (ml f);have D:g.length<1000:=by rw[o]at n;simp at n;omega
 have k:=kR (F:=F)▸f.b6 (N:=[]) (fm (F:=F) (i:=0) rfl) (a':=.row 3 1 (.slice (some ⟨r,0,none⟩) g.length q) g.length (g.reverse.map xu)) ⟨ar [] a,Zq,s,λ_ f=>Y8 f⟩;have k:=U (vY (m:={ m with aK:=g }) (kR (F:=F)▸k.aq (j:=2) (fm (i:=2) rfl) (.slice (some ⟨r,0,none⟩) g.length q)));clear f h s o n;go_in;go_wp2;go_ret;exact⟨rfl,k⟩
def II(f:Nat×Nat)(N:m.b1.length<1000)(g:af (Gm (mP c b m e d) w F a)):Calls prog 389 #[.pointer (some ⟨b,3,none⟩),.agg #[Y f.1,Y f.2]] a λI M=>I=.returned (.tuple #[])/\af (Gm (mP c b { m with b1:=f::m.b1 } e d) w F M):=by
 obtain⟨u,L,g⟩:=td g.i;have q:=g.th (fm (i:=1) rfl);obtain⟨ad,E,rfl⟩:=aW q;have D:=aE (ml g);have G:=bl (ml g);have H:=ay (ml g);have J:(m.b1.length+1)*16<=140737488355328:=Zm;have s:=U g;have C:=U q;clear g q;go_in;go_wp21;refine bJ (λr=>r.cell? (Zd b 3)=some (.slice ad m.b1.length E)/\r.cell? (Zd a.heap.size 0)=some (Y f.1)/\r.cell? (Zd a.heap.size 1)=some (Y f.2)) ?_ λx=>?_
 .go_keep
 refine bf [0,1,2,3,4,5] ?_;iterate 6 (refine bi ?_)
 refine bg ?_;refine bI 6 λk h=>?_;go_simp;refine h.out _ _ ?_ (λx=>?_)
 .go_keep
 clear h k;refine nz ?_;refine bI 7 λk h=>?_;(refine mh (B:=a.heap.size+1) Xe underlying325 (bQ C.i ((((ar [] a).A _).A _).ag) Zq) (nX f) (be (w:=a.alloc _) Zq) (abV f) J (YV _) (H:=a.heap.size+2) Zq ?_;intro v t O A z y K;have n:=U (kR (F:=.obj a.heap.size (.cells (nX f).toArray 515)::F)▸(s.i.A (.cells (nX f).toArray 515)).a4 (fm (F:=.obj a.heap.size (.cells (nX f).toArray 515)::F) (i:=1) rfl) (((ar [] _).A _).ag) A z y Zq);have l:=n.i.ob (fm (F:=.obj a.heap.size (.cells (nX f).toArray 515)::F) (i:=2) rfl);have D:=aE l;have G:=bl l;have H:=ay l;have R:=aE (n.i.ob (i:=0) (o:=.cells (nX f).toArray 515) rfl);clear A z y l K);refine h.out _ _ ?_ (λx=>?_)
 .go_keep
 clear h k;refine nz ?_;refine bf [8,9] ?_;iterate 2 (refine bi ?_)
 refine bg ?_;refine bL λk h=>?_;go_simp;refine h.out _ _ ?_;clear h k;refine nz ?_;have p:=kR (F:=.obj a.heap.size (.cells (nX f).toArray 515)::F)▸n.i.aq (j:=3) (fm (F:=.obj a.heap.size (.cells (nX f).toArray 515)::F) (i:=2) rfl) (.slice (some ⟨v,0,none⟩) (m.b1.length+1) t);have p:=U (vY (m:={ m with b1:=f::m.b1 }) (F:=F) (csl:=u) (rsl:=.slice (some ⟨v,0,none⟩) (m.b1.length+1) t) (by simpa[mL]using (p.au:Gm (c.P d) w (F++_) _)));go_wp2;go_end0;exact⟨rfl,p⟩
def IH{h:Nat×Nat}{f:List (Nat×Nat)}(r:m.b1=h::f)(q:m.b1.length<=1000)(g:af (Gm (mP c b m e d) w F a)):Calls prog 391 #[.pointer (some ⟨b,3,none⟩)] a λl D=>l=.returned (.agg #[Y h.1,Y h.2])/\af (Gm (mP c b { m with b1:=f } e d) w F D):=by
 obtain⟨I,C,g⟩:=td g.i;have k:a.ownsRow 0 515 2 C m.b1.length (m.b1.reverse.flatMap nX):=g.th (fm (i:=1) rfl);rw[r]at k;simp only[YC,List.reverse_cons,YK,YD,List.flatMap_nil,YH]at k;have o:(f.reverse.flatMap nX).length=f.length*2:=by rw[ad2];simp
 obtain⟨n,s,rfl,J,t⟩:=Nt k o;obtain⟨x,u,l,-,z⟩:=zH (j:=f.length*2) (y:=Y h.1) k (by rw[Yw Zm,o];simp);cases l
 obtain⟨x,u,l,-,P⟩:=zH (j:=f.length*2+1) (y:=Y h.2) k (by rw[Yw Zm,o];simp);cases l
 have E:=aE (ml g);have G:=bl (ml g);have H:=ay (ml g);have O:f.length<1000:=by rw[r]at q;simp at q;omega
 have p:=kR (F:=F)▸g.b6 (N:=[]) (fm (F:=F) (i:=1) rfl) (a':=.row 515 2 (.slice (some ⟨n,0,none⟩) f.length s) f.length (f.reverse.flatMap nX)) ⟨ar [] a,Zq,t,λ_ g=>Y8 g⟩;have p:=U (λA B=>(vY (m:={ m with b1:=f }) (kR (F:=F)▸p.aq (j:=3) (fm (i:=2) rfl) (.slice (some ⟨n,0,none⟩) f.length s))).cU A |>.cU B);have K:=iI z;have R:b≠a.heap.size:=Zm;have L:n≠a.heap.size:=Zm;have M:n≠a.heap.size+1:=Zm;have S:b≠a.heap.size+1:=Zm;clear g k t r q o;go_in;go_wp2;exact bodyPost_ret (v:=.agg #[Y h.1,Y h.2]) (by simp[results,results391,go_sem]) rfl ⟨rfl,p.i ..⟩
end
end
section
def ag4{h:Type}{a:Except Mar.ac h}{c:Unit}{e:h}(b:cp a=.ok (c,e)):a=.ok e:=by
 cases a with
 |error f=>cases b
 |ok d=>cases b;rfl
def HK{h d:Type}{a}{b:h->d}:cp (aA a λe=>.ok (b e))=aA (cp a) λc=>.ok ((),b c.2):=by cases a<;>rfl
section
variable {h : Type} {g d : Zw} {j : List (Nat × Obj)}
def oh(a:mc h g j)(f:List Th)(b:Nat)(d:Except Mar.ac (iM×h)):Ending->Zw->Prop:=gx g (λc:iM×h=>mP a b c.1 false c.2) f (cp d) λ_=>.tuple #[]
variable {a : mc h g j} {f : List Th} {b : Nat} {c : iM} {e : h}
def zZ{e c}(i:Gm (mP a b e false c) g f d):oh a f b (.ok (e,c)) (.returned (.tuple #[])) d:=Y8 ⟨(),(e,c),rfl,rfl,i⟩
def Rt(h:Nat)(i:af (Gm (mP a b c false e) g f d)):Calls prog 375 #[.agg #[Y h],Zp b] d (oh a f b (.ok ({ c with O:=h },e))):=by
 obtain⟨o,q,l,m,n⟩:=mm i.i;have p:b≠d.heap.size:=Zm;have j:=U (λk=>(uv i.i h).cU k);go_in;go_wp2;go_end0;exact zZ (j.i _)
def QR(h:af (Gm (mP a b c false e) g f d)):Calls prog 376 #[.agg #[],Zp b] d λj l=>j=.returned (.tuple #[])/\af (Gm (mP a b c true e) g f l):=by
 obtain⟨p,r,m,n,o⟩:=mm h.i;have q:b≠d.heap.size:=Zm;have i:=U (λk=>(ZT h.i true).cU k);go_in;go_wp2;go_end0;exact⟨rfl,i.i _⟩
def RN{h:Nat}{l:List Nat}(k:c.aK=h::l)(j:c.aK.length<=1000)(o:af (Gm (mP a b c false e) g f d)):Calls prog 357 #[.agg #[],Zp b] d (oh a f b (.ok ({ c with O:=h,aK:=l },e))):=by
 have n:=U (λp=>RH k j (U (o.i.cU p)));clear k j;go_in;go_wp21;refine(n.i _).mono ?_;rintro u w ⟨rfl,i⟩;obtain⟨t,v,q,r,s⟩:=mm i.i;have m:=U (uv i.i h);go_wp2;go_end0;exact zZ m.i
def RC{l:Zl}{h:dI}(n:iN j l h)(x:af (Gm (mP a b c false e) g f d)):Calls prog 356 #[.agg l.toArray,Zp b] d (oh a f b (aA (a.W.num h e) λv=>.ok (c,v))):=by
 obtain⟨J,rfl,-,o,p,q,rfl⟩:=id n;have H:=a.mN;have G:=a.eN;have k:=x.i.cU (.cells #[Y h.c4,Y h.dg,.slice o p q,.bool h.bD] 247);obtain⟨E,K,A,B,C⟩:=mm k;have u:=U (xx k.ag λz y=>a.cN n y);clear k;go_in;go_wp21;refine bJ (λi=>i.cell? (Zd b 0)=some (.iface a.T (Zp a.D))/\i.cell? (Zd d.heap.size 0)=some (Y h.c4)/\i.cell? (Zd d.heap.size 1)=some (Y h.dg)/\i.cell? (Zd d.heap.size 2)=some (.slice o p q)/\i.cell? (Zd d.heap.size 3)=some (.bool h.bD)) ?_ λF=>?_
 .go_keep
 refine bf [0,1,2,3,4] ?_;iterate 5 (refine bi ?_)
 refine bg ?_;refine bL λs m=>?_;(go_simp;refine gw (U HK) u.i λ_ w L I r t=>?_);refine m.out _ _ ?_;clear m s;refine nz ?_;go_wp2;go_end0;exact Y8 ⟨(),(c,w),r.i,rfl,t.i⟩
def RW(h:Int)(i:Bool)(u:0<=h)(v:h<=4294967295)(s:af (Gm (mP a b c false e) g f d)):Calls prog 368 #[.agg #[Y h,.bool i],Zp b] d (oh a f b (aA (a.W.text h i e) λq=>.ok (c,q))):=by
 have E:=a.mT;have C:=a.eT;have j:=s.i.cU (.cells #[Y h,.bool i] 379);obtain⟨A,G,x,y,z⟩:=mm j;have p:=U (xx j.ag λw t=>a.cT h i u v t);clear j;go_in;go_wp21;refine bJ (λk=>k.cell? (Zd b 0)=some (.iface a.T (Zp a.D))/\k.cell? (Zd d.heap.size 0)=some (Y h)/\k.cell? (Zd d.heap.size 1)=some (.bool i)) ?_ λB=>?_
 .go_keep
 refine bf [0,1,2,3,4,5] ?_;iterate 6 (refine bi ?_)
 refine bg ?_;refine bL λn l=>?_;(go_simp;refine gw (U HK) p.i λ_ r H F m o=>?_);refine l.out _ _ ?_;clear l n;refine nz ?_;go_wp2;go_end0;exact Y8 ⟨(),(c,r),m.i,rfl,o.i⟩
def RT(h:Int)(i:Bool)(t:0<=h)(u:h<=4294967295)(r:af (Gm (mP a b c false e) g f d)):Calls prog 373 #[.agg #[Y h,.bool i],Zp b] d (oh a f b (aA (a.W.bH h i e) λw=>.ok (c,w.2))):=by
 have F:=a.mL;have E:=a.eL;have j:=r.i.cU (.cells #[Y h,.bool i] 387);obtain⟨B,H,y,z,A⟩:=mm j;have p:=U (xx j.ag λx s=>a.cL h i t u s);clear j;go_in;go_wp21;refine bJ (λk=>k.cell? (Zd b 0)=some (.iface a.T (Zp a.D))/\k.cell? (Zd d.heap.size 0)=some (Y h)/\k.cell? (Zd d.heap.size 1)=some (.bool i)) ?_ λC=>?_
 .go_keep
 refine bf [0,1,2,3,4,5] ?_;iterate 6 (refine bi ?_)
 refine bg ?_;refine bL λn l=>?_;(go_simp;refine gw (U qR) p.i λv q I G m o=>?_);refine l.out _ _ ?_;clear l n;refine nz ?_;go_wp2;go_end0;exact Y8 ⟨(),(c,q),m.i,rfl,o.i⟩
def Qp{i h:Nat}{l:List (Nat×Nat)}(k:c.b1=(i,h+2)::l)(j:c.b1.length<=1000)(E:h+2<=4294967295)(w:af (Gm (mP a b c false e) g f d)):Calls prog 390 #[.agg #[],Zp b] d (oh a f b (.ok ({ c with O:=i,b1:=(i,h+1)::l },e))):=by
 have u:=U (λm=>IH k j (U (w.i.cU m)));have x:l.length<1000:=by rw[k]at j;simp at j;omega
 clear k j;go_in;go_wp21;refine(u.i _).mono ?_;rintro v n ⟨rfl,o⟩;obtain⟨B,G,y,z,A⟩:=mm o.i;have D:b≠n.heap.size:=Zm;have F:((h:Int)+2-1)=(h:Int)+1:=Zm;have r:=U (λm=>II (i,h+1) x (U ((uv o.i i).cU m).ag));go_wp21;refine bJ (λq=>q.cell? (Zd n.heap.size 0)=some (Y i)/\q.cell? (Zd n.heap.size 1)=some (Y ((h:Int)+1))) ?_ λC=>?_
 .exact⟨(ow (be Zq)).1,(ow (be Zq)).2.1⟩
 refine bf [0,1,2,3] ?_;iterate 4 (refine bi ?_)
 refine bg ?_;refine bL λs p=>?_;(go_simp;refine(r.i _).mono ?_;rintro v H ⟨rfl,t⟩);refine p.out _ _ ?_;clear p s;refine nz ?_;go_wp2;go_end0;exact zZ t.i
def Qo{q l:Nat}{k:List (Nat×Nat)}(j:c.b1=(q,l)::k)(i:c.b1.length<=1000)(s:l<=1)(p:af (Gm (mP a b c false e) g f d)):Calls prog 390 #[.agg #[],Zp b] d (oh a f b (.ok ({ c with b1:=k },e))):=by
 have o:=U (λh=>IH j i (U (p.i.cU h)));clear j i;go_in;go_wp21;refine(o.i _).mono ?_;rintro r t ⟨rfl,n⟩;have m:=U (λh=>n.i.cU h);go_wp2;go_end0;exact zZ (m.i _)
def Qq{h:Nat×Nat}{i:List (Nat×Nat)}(n:c.b1=h::i)(m:c.b1.length<=1000)(p:h.2<=4294967295)(k:af (Gm (mP a b c false e) g f d)):Calls prog 390 #[.agg #[],Zp b] d (oh a f b (.ok (if 1<h.2 then { c with O:=h.1,b1:=(h.1,h.2-1)::i }else { c with b1:=i },e))):=by
 obtain⟨q,j⟩:=h;by_cases l:1<j
 .obtain⟨o,rfl⟩:∃o,j=o+2:=⟨j-2,Zm⟩;rw[Y9 l];exact Qp n m p k
 .rw[Y2 l];exact Qo n m Zm k
def Qx(l:Nat)(u:c.aK.length<1000)(E:af (Gm (mP a b c false e) g f d)):Calls prog 361 #[.agg #[Y l],Zp b] d (oh a f b (aA (a.W.cY c.aK.length e) λB=>.ok ({ c with O:=l,aK:=c.O::c.aK },B))):=by
 have K:=a.mE;have J:=a.eE;have k:=E.i.A (.cells #[Y l] 271);obtain⟨s,v,p,q,r⟩:=mm k;have y:=U (Rx (U k.ag));have z:=U (xx k.ag λH F=>a.cE c.aK.length u F);clear k;go_in;go_wp21;refine bJ (λn=>n.cell? (Zd b 0)=some (.iface a.T (Zp a.D))) ?_ λt=>?_
 .go_keep
 refine bf [0,1,2,3,4,5,6,8,9] ?_;iterate 9 (refine bi ?_)
 refine bg ?_;refine bI 7 λj h=>?_;(go_simp;go_at_call 362;refine y.i.mono ?_;rintro C G ⟨rfl,rfl⟩);refine h.out _ _ ?_ (λt=>?_)
 .go_keep
 clear h j;refine nz ?_;refine bL λj h=>?_;(go_simp;refine gw (U HK) z.i λ_ I G L w o=>?_);refine h.out _ _ ?_;clear h j;refine nz ?_;obtain⟨s,v,p,q,r⟩:=mm o.i;have A:=U (RI c.O u (U o.i.ag));go_wp21;refine bJ (λn=>n.cell? (Zd b 1)=some (Y c.O)) ?_ λt=>?_
 .go_keep
 refine bf [0,1,2,3,4,5,6] ?_;iterate 7 (refine bi ?_)
 refine bg ?_;refine bL λj h=>?_;(go_simp;refine A.i.mono ?_;rintro C N ⟨rfl,m⟩);refine h.out _ _ ?_;clear h j;refine nz ?_;obtain⟨s,v,p,q,r⟩:=mm m.i;have M:=aE (m.i.ob (i:=0) rfl);have x:=U (uv m.i l).au;go_wp2;go_end0;exact Y8 ⟨(),_,w.i,rfl,x.i⟩
end
end
section
variable {f:List Th}{c:Nat}{e:Zo}{a:iM}{b g:Zw}{d:Type}
def Qu{h:mc d g e}{p:d}(k:Int)(m:Bool)(o:Nat)(B:0<=k)(C:k<=4294967295){y}(l:fh h.W (.array k m o) a p=some y)(M:af (Gm (mP h c a false p) g f b)):Calls prog 388 #[.agg #[Y k,.bool m,Y o],Zp c] b (oh h f c y):=by
 obtain⟨N,l⟩:a.b1.length<1000/\y=aA (h.W.bH k m p) λj=>.ok (if j.1=0 then { a with O:=o }else { a with b1:=(a.O,j.1)::a.b1 },j.2):=by
  simp only[fh]at l;split at l
  .cases l
  .refine⟨Zm,?_⟩;cases u:h.W.bH k m p with
   |error L=>rw[u]at l;cases l;rfl
   |ok j=>
    obtain⟨v,a0⟩:=j;rw[u]at l;cases v with
    |zero=>cases l;rfl
    |succ v=>cases l;rfl
 subst l;have a3:=h.mL;have a2:=h.eL;have x:=M.i.A (.cells #[Y k,.bool m,Y o] 449);obtain⟨K,P,H,I,J⟩:=mm x;have G:=U (xx x.ag λS O=>h.cL k m B C O);clear x;generalize A:(aA (h.W.bH k m p) λj=>Except.ok (if j.1=0 then { a with O:=o }else { a with b1:=(a.O,j.1)::a.b1 },j.2))=F
 have s:af (cp F=aA (h.W.bH k m p) λj=>cp (.ok (if j.1=0 then { a with O:=o }else { a with b1:=(a.O,j.1)::a.b1 },j.2))):=by rw[<-A];exact qR
 clear A;go_in;go_wp21;refine bJ (λq=>q.cell? (Zd c 0)=some (.iface h.T (Zp h.D))/\q.cell? (Zd b.heap.size 0)=some (Y k)/\q.cell? (Zd b.heap.size 1)=some (.bool m)/\q.cell? (Zd b.heap.size 2)=some (Y o)) ?_ λz=>?_
 .go_keep
 refine bf [0,1,2,3,4,5] ?_;iterate 6 (refine bi ?_)
 refine bg ?_;refine bI 6 λr n=>?_;(go_simp;refine gw s G.i λR a1 a6 u s t=>?_;obtain⟨K,P,H,I,J⟩:=mm t.i;have a5:=aE (t.i.ob (i:=0) rfl);have a4:=h.de B C u.i);refine n.out _ _ ?_ (λz=>?_)
 .go_keep
 clear n r;refine nz ?_;refine bL λr n=>?_;go_simp;refine n.out _ _ ?_;clear n r;refine nz ?_;cases R with
 |zero=>
  have w:=U (uv t.i o).au;go_wp2;go_end0;exact Y8 ⟨(),_,s.i,rfl,w.i⟩
 |succ v=>
  have w:=U (II (a.O,v+1) N (U t.i.ag));go_wp21;refine bJ (λq=>q.cell? (Zd c 1)=some (Y a.O)) ?_ λz=>?_
  .go_keep
  refine bf [0,1,2,3,4,5,6,7,8] ?_;iterate 9 (refine bi ?_)
  refine bg ?_;refine bL λr n=>?_;(go_simp;refine w.i.mono ?_;rintro L a7 ⟨rfl,E⟩);refine n.out _ _ ?_;clear n r;refine nz ?_;go_wp2;go_end0;exact Y8 ⟨(),_,s.i,rfl,E.i.au⟩
def Qz{k:mc d g e}{C:d}{B h}{t:Nat}{n y m}(E:iN e B h)(a9:(t,kL n)∈e)(s:pV e y m)(b2:(n.map (·.1)).Nodup){z}(F:fh k.W (.choice h n m) a C=some z)(a2:af (Gm (mP k c a false C) g f b)):Calls prog 374 #[.agg (B++[.map (some t),y]).toArray,Zp c] b (oh k f c z):=by
 obtain⟨c0,rfl,b0,G,H,I,rfl⟩:=id E;obtain⟨u,rfl⟩:∃u,y=.pointer u:=by
  cases m with
  |none=>exact⟨_,s⟩
  |some j=>obtain⟨b5,a3,_⟩:=s;exact⟨_,a3⟩
 have b9:=k.mA;have b8:=Bu 394;have b7:=k.eA;have w:=a2.i.A (.cells #[Y h.c4,Y h.dg,.slice G H I,.bool h.bD,.map (some t),.pointer u] 392);obtain⟨R,b3,N,O,P⟩:=mm w;have M:=U (xx w.ag λb4 a7=>k.cA E a9 s b2 a7);have q:=U F;clear w b0 F s;go_in;go_wp21;refine bJ (λl=>l.cell? (Zd c 0)=some (.iface k.T (Zp k.D))/\l.cell? (Zd b.heap.size 0)=some (Y h.c4)/\l.cell? (Zd b.heap.size 1)=some (Y h.dg)/\l.cell? (Zd b.heap.size 2)=some (.slice G H I)/\l.cell? (Zd b.heap.size 3)=some (.bool h.bD)/\l.cell? (Zd b.heap.size 4)=some (.map (some t))/\l.cell? (Zd b.heap.size 5)=some (.pointer u)) ?_ λa4=>?_
 .go_keep
 refine bf [0,1,2,3,4,5] ?_;iterate 6 (refine bi ?_)
 refine bg ?_;refine bI 6 λv o=>?_;(go_simp;refine M.i.mono ?_;rintro b6 c2 (⟨A,S,p,rfl,r⟩|⟨a0,p,a8,a1,a6,rfl,a5⟩);rotate_left;exact bM (Ya ⟨a0,by have:=q.i;simp only[fh,p]at this;cases this;rfl,a8,a1,a6,rfl,a5⟩);obtain⟨j,x⟩:∃j,ep h n m A=some j:=(by have:=q.i;simp only[fh,p]at this;cases b1:ep h n m A with|none=>rw[b1]at this;cases this|some j=>exact⟨j,rfl⟩);have J:af (z=.ok ({ a with O:=j.1 },S)):=(by show _=_;have:=q.i;simp only[fh,p,x]at this;cases this;rfl);have K:iK h n m A=.agg #[Y j.1,Y j.2]:=(by simp[iK,x]);obtain⟨R,b3,N,O,P⟩:=mm r;have c1:=aE (r.ob (i:=0) rfl);have L:=U (uv r j.1).au;clear r p x q;rw[K]);refine o.out _ _ ?_ (λa4=>?_)
 .go_keep
 clear o v;refine nz ?_;refine bf [7,8,9] ?_;iterate 3 (refine bi ?_)
 refine bg ?_;refine bL λv o=>?_;go_simp;refine o.out _ _ ?_;clear o v;refine nz ?_;go_end0;rw[J.i];exact zZ L.i
end
section
variable {c:Zo}{a:iM}{e:Zw}{b:Type}
def mJ:cX->Prop
 |.text a _=>0<=a/\a<=4294967295
 |.struct a _=>0<=a/\a<=4294967295
 |.array a _ _=>0<=a/\a<=4294967295
 |.choice _ b _=>(b.map (·.1)).Nodup
 |_=>True
structure vi(a:iM):Prop where
 aK:a.aK.length<=1000
 b1:a.b1.length<=1000
 left:∀p∈a.b1,p.2<=4294967295
def vi.e7(b:vi a)(c:Nat):vi { a with O:=c }:=⟨b.aK,b.b1,b.left⟩
def aff{Z:mc b e c}{t}{m':iM}{d d':b}(v:mJ t)(g:vi a)(f:fh Z.W t a d=some (.ok (m',d'))):vi m':=by
 cases t with
 |hole=>cases f
 |fin=>cases f
 |call u=>
  simp only[fh]at f;split at f
  .grind
  .rename_i z;cases k:Z.W.cY a.aK.length d with
   |error m=>simp_all
   |ok j=>rw[k]at f;cases f;exact⟨Zg,g.b1,g.left⟩
 |ret=>
  simp only[fh]at f;cases l:a.aK with
  |nil=>simp_all
  |cons i D=>
   rw[l]at f;cases f
   have:=g.aK;rw[l]at this;exact⟨Zg,g.b1,g.left⟩
 |jump u=>cases f;exact g.e7 _
 |num h=>
  grind [fh]
 |text h o=>
  grind [fh]
 |struct h o=>
  grind [fh]
 |array h o u=>
  simp only[fh]at f;split at f
  .grind
  .rename_i z;cases k:Z.W.bH h o d with
   |error m=>simp_all
   |ok j=>
    obtain⟨i,j⟩:=j;have C:=Z.de v.1 v.2 k;rw[k]at f;cases i with
    |zero=>cases f;exact g.e7 _
    |succ i=>
     cases f
     refine⟨g.aK,Zg,?_⟩;intro r q;rcases Yg.1 q with rfl|q
     .omega
     .exact g.left r q
 |again=>
  simp only[fh]at f;cases l:a.b1 with
  |nil=>simp_all
  |cons r E=>
   obtain⟨m,B⟩:=r;rw[l]at f;have y:=g.b1;have p:=g.left;rw[l]at y p;simp only[Yu,Except.ok.injEq,Prod.mk.injEq]at f;obtain⟨rfl,rfl⟩:=f;split
   .refine⟨g.aK,Zm,?_⟩;intro s n;rcases Yg.1 n with rfl|n
    .have:=p (m,B) Zq;omega
    grind
   .exact⟨g.aK,Zg,λs n=>p s (Y5 _ n)⟩
 |choice h x w=>
  simp only[fh]at f;cases k:Z.W.cg h (λi=>(ep h x w i).map (·.2)) d with
  |error m=>simp_all
  |ok j=>
   obtain⟨i,j⟩:=j;rw[k]at f;simp only at f;cases A:ep h x w i with
   |none=>simp_all
   |some s=>rw[A]at f;cases f;exact g.e7 _
def Hy{d:Except Mar.ac b}:(match d with|.ok c=>Except.ok (a,c)|.error e=>.error e)=aA d λc=>.ok (a,c):=by
 rfl
def RS(j:mc b e c)(i:List Th)(g:Nat)(k:TypeId)(h:Zv)(f:Nat)(a:iM)(l:b)(n:Except Mar.ac (iM×b)):Prop:=
 (∀ m (d : World), (method (m + 1) k h "marshal/machine.run").run Tryz.prog d = .ok (f, h) d) ∧ (∀ (args : Array Value) (d : World), (callFunc f args).run Tryz.prog d = .ok (.enter f args) d) ∧ ∀ d, af (Gm (mP j g a false l) e i d) → Calls Tryz.prog f #[h, .pointer (some ⟨g, 0, none⟩)] d (oh j i g n)
def afs(m:mc b e c)(y:List Th)(z:Nat){p v}{n:b}{w}(i:nC c v p)(l:mJ p)(s:vi a)(d:fh m.W p a n=some w):∃u x q,v=.iface u x/\RS m y z u x q a n w:=by
 cases p with
 |hole=>cases d
 |fin=>cases d
 |call o=>
  obtain rfl:=i;simp only[fh]at d;split at d
  .cases d
  .rename_i F;obtain rfl:=YQ d;refine⟨_,_,361,rfl,λ_ _=>by kernel_rfl,λ_ _=>by kernel_rfl,λk f=>?_⟩;have:=Qx o Zm f;rw[<-Hy]at this;exact this
 |ret=>
  obtain rfl:=i;simp only[fh]at d;cases g:a.aK with
  |nil=>rw[g]at d;cases d
  |cons G H=>
   rw[g]at d;obtain rfl:=YQ d;exact⟨_,_,357,rfl,λ_ _=>by kernel_rfl,λ_ _=>by kernel_rfl,λk f=>RN g s.aK f⟩
 |jump o=>
  obtain rfl:=i;obtain rfl:=YQ d;exact⟨_,_,375,rfl,λ_ _=>by kernel_rfl,λ_ _=>by kernel_rfl,λk f=>Rt o f⟩
 |num h=>
  obtain⟨A,rfl,r⟩:=i;obtain rfl:=YQ d;refine⟨_,_,356,rfl,λ_ _=>by kernel_rfl,λ_ _=>by kernel_rfl,λk f=>?_⟩;have:=RC r f;rw[<-Hy]at this;exact this
 |text h j=>
  obtain rfl:=i;obtain rfl:=YQ d;refine⟨_,_,368,rfl,λ_ _=>by kernel_rfl,λ_ _=>by kernel_rfl,λk f=>?_⟩;have:=RW h j l.1 l.2 f;rw[<-Hy]at this;exact this
 |struct h j=>
  obtain rfl:=i;obtain rfl:=YQ d;refine⟨_,_,373,rfl,λ_ _=>by kernel_rfl,λ_ _=>by kernel_rfl,λk f=>?_⟩;have:=RT h j l.1 l.2 f;have B:(match m.W.bH h j n with|.ok (_,d')=>Except.ok (a,d')|.error q=>.error q)=aA (m.W.bH h j n) λt=>.ok (a,t.2):=by cases m.W.bH h j n<;>rfl
  rw[<-B]at this;exact this
 |array h j o=>
  obtain rfl:=i;exact⟨_,_,388,rfl,λ_ _=>by kernel_rfl,λ_ _=>by kernel_rfl,λk f=>Qu h j o l.1 l.2 d f⟩
 |again=>
  obtain rfl:=i;simp only[fh]at d;cases g:a.b1 with
  |nil=>rw[g]at d;cases d
  |cons t L=>
   rw[g]at d;obtain⟨D,E⟩:=t;obtain rfl:=YQ d;exact⟨_,_,390,rfl,λ_ _=>by kernel_rfl,λ_ _=>by kernel_rfl,λk f=>Qq g s.b1 (s.left (D,E) (by rw[g];simp)) f⟩
 |choice h M J=>
  obtain⟨A,I,K,rfl,r,g,C⟩:=i;exact⟨_,_,374,rfl,λ_ _=>by kernel_rfl,λ_ _=>by kernel_rfl,λk f=>Qz r g C l d f⟩
end
section
variable {e : Type} {c b : Zw} {f : List (Nat × Obj)} {Z : mc e c f} {F : List Th} {M : Nat} {a : iM} {g : Bool} {d : e}
theorem ZU(f:Gm (Z.P d) c F b)(a:Nat):Gm (mP Z b.heap.size ⟨a,[],[]⟩ false d) c F (b.alloc (zw Z a (.slice none 0 0) (.slice none 0 0) false)):=by
 obtain⟨e,g,h⟩:=f;exact⟨_,⟨.slice none 0 0,.slice none 0 0,e,rfl,g⟩,(((h.A (zw Z a (.slice none 0 0) (.slice none 0 0) false)).nil 515 2).nil 3 1).gX (List.perm_append_comm_assoc [_,_,_] F e)⟩
def ZS(f:Gm (mP Z M a g d) c F b):Gm (Z.P d) c F b:=by
 obtain⟨_,⟨j,k,e,rfl,h⟩,i⟩:=f;exact⟨e,h,(i.gX (List.perm_append_comm_assoc F [_,_,_] e)).au.au.au⟩
end
def IV{e:Type}{c f}(Z:mc e c f)(F:List Th)(M:Nat)(h:List cX)(g:Except Mar.ac e)(i:Nat)(b:Zw):Prop:=
 ∃a d,(Gm (mP Z M a false d) c F b/\vi a/\mZ Z.W h i a d=some g)\/(g=.ok d/\Gm (mP Z M a true d) c F b)
theorem Oe{e:Type}{f g i a}{d:e}{c}(m:mZ f g i a d=some c):∃h b,i=h+1/\g[a.O]?=some b/\((b=.fin/\c=.ok d)\/(b≠.fin/\∃j,fh f b { a with O:=a.O+1 } d=some j/\((∃l,j=.error l/\c=.error l)\/∃n k,j=.ok (n,k)/\mZ f g h n k=some c))):=by
 cases i with
 |zero=>cases m
 |succ h=>
  unfold mZ at m;grind
def IW{e:Type}{c b f}{Z:mc e c f}{F d h v t}{start u:Nat}(c7:qV f v h)(I:∀q∈f,c.heap[q.1]?=some q.2)(a4:∀k∈h,mJ k)(a6:Gm (Z.P d) c F b)(m:mZ Z.W h u ⟨start,[],[]⟩ d=some t):Calls prog 105 #[v,Y start,.iface Z.T (Zp Z.D)] b (gx c Z.P F (cp t) λ_=>.tuple #[]):=by
 obtain⟨R,A,a7,b0,e4⟩:=c7;obtain⟨l,p,rfl,a2,a3⟩:∃l p,v=.slice (some ⟨l,0,none⟩) h.length p/\h.length<=p/\∀(n:Zw),ap [] c n->∀J k,h[J]?=some k->∃s,nC f s k/\n.cell? (Zd l J)=some s/\l<n.heap.size:=by
  rcases a7 with⟨rfl,e1,_⟩|⟨l,p,c0,rfl,a2,a8,d4⟩
  .obtain⟨K,k,_,g,_⟩:=Oe m;rw[YA Zm]at g;cases g
  .refine⟨l,p,rfl,a2,λn C J k g=>?_⟩;have a5:n.heap[l]?=some (.cells c0 273):=(C.ak _ (ay (I _ a8)) Zq).trans (I _ a8);rw[A,List.getElem?_map]at g;obtain⟨q,a9,rfl⟩:=Option.map_eq_some_iff.1 g;have d2:h.length=R.length:=by rw[A];simp
   refine⟨q.2,b0 q (Yh a9),oK (xs:=R.map (·.2)) a5 (by simpa[d2]using d4) (by rw[List.getElem?_map,a9];rfl),ay a5⟩
 have r:af (IV Z F b.heap.size h t u (b.alloc (zw Z start (.slice none 0 0) (.slice none 0 0) false))):=⟨_,d,Y8 ⟨ZU a6 start,⟨Zq,Zq,Zq⟩,m⟩⟩;have b2:=U a3;have b3:=U a4;clear a3 a6 m a4 b0 A a7 I;go_in;go_wp2;go_loopg [] u (λL n=>af (IV Z F b.heap.size h t L n));case atStart=>exact r
 case round=>
  obtain⟨a,y,⟨i,E,m⟩|⟨rfl,i⟩⟩:=hrel.i
  .obtain⟨b9,d6,d8,b7,b8⟩:=mm i;obtain⟨K,k,rfl,g,c9⟩:=Oe m;obtain⟨s,H,e6,e3⟩:=b2.i _ i.kp _ _ g;have e5:a.O<h.length:=by
    rcases Yj a.O h.length with z|z
    .exact z
    .rw[YA z]at g;cases g
   have B:=b3.i k (Yh g);rcases c9 with⟨rfl,rfl⟩|⟨d0,e7,G,b1⟩
   .obtain rfl:=H
    have d3 : ∀ L (b : World), (method (L + 1) 397 (.agg #[]) "marshal/machine.run").run Tryz.prog b = .ok (376, .agg #[]) b := fun _ _ => by kernel_rfl
    have w:=U (QR (U (uv i (a.O+1))));clear i hrel r m g;go_wp21;refine w.i.mono ?_;rintro c2 d7 ⟨rfl,o⟩;go_wp2;go_roundg K;case measure=>omega
    case rel=>exact⟨_,y,Ya ⟨rfl,o.i⟩⟩
   .obtain⟨d9,s,e0,rfl,d3,e2,a1⟩:=afs Z F b.heap.size H B (E.e7 (a.O+1)) G;have w:=U (a1 _ (U (uv i (a.O+1))));have b5:=U G;have b4:=U (λM x=>aff (Z:=Z) (m':=M) (d':=x) (d:=y) B (E.e7 (a.O+1)));have O:=U b1;clear i hrel r m g a1 b1 G d0 H B E;go_wp21;refine w.i.mono ?_;rintro c2 d7 (⟨_,⟨M,x⟩,g,rfl,o⟩|⟨c3,g,C,c5,d1,rfl,c8⟩);rotate_left
    .refine bM (Ya ⟨c3,?_,C,c5,d1,rfl,c8⟩);rcases O.i with⟨c4,j,rfl⟩|⟨d5,c1,j,_⟩
     .rw[j]at g;cases g;rfl
     .rw[j]at g;cases g
    have o:=U o;have N:=U (ag4 g);clear g;go_wp2;go_roundg K;case measure=>omega
    case rel=>
     rcases O.i with⟨c4,j,rfl⟩|⟨d5,c1,j,c6⟩
     .rw[N.i]at j;cases j
     .have S:=N.i;rw[S]at j;cases j
      have a0:=b5.i;rw[S]at a0;exact⟨_,_,Y8 ⟨o.i,b4.i _ _ a0,c6⟩⟩
  .obtain⟨b9,d6,d8,b7,b8⟩:=mm i;have b6:=U (ZS i);clear i hrel r;go_wp2;go_end0;exact Y8 ⟨(),y,rfl,rfl,b6.i⟩
def Uj{e h j}{c:Int}{i}{f g:bP}{d:Nat}(l:0<=c)(m:c<=4294967295)(a:(bk e h j).bH c i f=.ok (d,g)):d<=4294967295:=by
 obtain⟨k,_,a⟩:=bZ a;obtain⟨o,b,a⟩:=bZ a;cases a
 unfold ik at b;split at b
 .grind
 .obtain⟨p,_,n⟩:=bZ b;grind
def Ug{n:Zw}{j:Zo}(l:∀m∈j,n.heap[m.1]?=some m.2)(D:Nat)(i:Zb)(k d s:Nat)(b:d<=10000):mc bP n j where
 W:=bk i k d
 T:=205
 D:=D
 P:=dP D i k d s
 fE:=414
 fN:=416
 fT:=417
 fL:=415
 fA:=413
 mE:=λ_ _=>by kernel_rfl
 mN:=λ_ _=>by kernel_rfl
 mT:=λ_ _=>by kernel_rfl
 mL:=λ_ _=>by kernel_rfl
 mA:=λ_ _=>by kernel_rfl
 eE:=λ_ _=>by kernel_rfl
 eN:=λ_ _=>by kernel_rfl
 eT:=λ_ _=>by kernel_rfl
 eL:=λ_ _=>by kernel_rfl
 eA:=λ_ _=>by kernel_rfl
 cE:=λq t a=>QS q Zm a
 cN:=λg a=>QD g l b a
 cT:=λh c e f a=>QE h c e f b a
 cL:=λh c e f a=>QC h c e f b a
 cA:=λg o p r a=>QB g o p r l b a
 de:=Uj
def Tc(a:Za)(b:Zw):Calls prog 109 #[.string a] b λc d=>c=.returned (.agg #[.string a,Y 0])/\d=b.alloc (.cells #[.string a,Y 0] 207):=by
 go_in;go_wp2;refine bodyPost_ret (v:=.agg #[.string a,Y 0]) (by simp[results,results109,go_sem]) rfl ⟨rfl,rfl⟩
def Ir(b:Zw)(f:Except Mar.ac (List kP))(e:Ending)(a:Zw):Prop:=
 (∃d v,f=.ok d/\e=.returned v/\ap [] b a/\a.ownsRow b.heap.size 87 5 v d.length (d.flatMap qy))\/(∃c,f=.error c/\ap [] b a/\eH b c.no c.y e a)
def Is{e b}{d:Except Mar.ac (List kP)}{f}{a:Nat}(h:d=.error f)(c:ap [] e b)(g:a=b.heap.size):Ir e d (hb a) (b.alloc (.cells #[Y f.no,Y f.y] 179)):=Ya ⟨f,h,c.A _,a,by have:=c.aG;omega,rfl,be g⟩
def Sb{b:Zw}{G t v}{a:Zb}{e h c start a3:Nat}{x}(L:qV G v t)(P:∀m∈G,b.heap[m.1]?=some m.2)(M:∀b0∈t,mJ b0)(a7:h<=10000)(b4:c<=100000)(b1:e<=64)(a6:a.length<=maxLen)(N:mZ (bk a e h) t a3 ⟨start,[],[]⟩ ⟨0,[]⟩=some x):Calls prog 66 #[v,Y start,Zs a,.agg #[Y e,Y h,Y c]] b (Ir b (if c<a.length then .error ⟨14,0⟩else aA x λd=>if d.aa<a.length then .error ⟨20,d.aa⟩else .ok d.a0)):=by
 have b2:(a.length:Int)<=9223372036854775807:=by unfold maxLen at a6;omega
 generalize w:(if c<a.length then Except.error ⟨14,0⟩else aA x λd=>if d.aa<a.length then Except.error ⟨20,d.aa⟩else .ok d.a0)=s
 have S:=U L;have C:=U P;have a0:=U M;have a2:=U N;clear L P M N;by_cases O:c<a.length
 .have n:af (s=.error ⟨14,0⟩):=by show _=_;rw[<-w,Y9 O]
  have a8:(c:Int)<(a.length:Int):=Zm;clear w;go_in;go_wp2_with (go_at_call 70;refine(fp _ _ _).mono ?_;rintro g q ⟨rfl,rfl⟩);exact bM (Is (f:=⟨14,0⟩) n.i ((ar [] b).A _) Zq)
 .have K:af (s=aA x λd=>if d.aa<a.length then Except.error ⟨20,d.aa⟩else .ok d.a0):=by show _=_;rw[<-w,Y2 O]
  have a8:(a.length:Int)<=(c:Int):=Zm;have D:af (∀z A,Gm (dP (b.heap.size+1+1) a e h c ⟨0,[]⟩) b [] (((b.alloc z).alloc A).alloc (.cells #[Zs a,Y 0,Y e,Y h,Y c,.slice none 0 0] 210)).drew):=λz A=>by
   have u:=((((rk b).ae (((ar [] b).A z).A A)).nil 87 5).A (.cells #[Zs a,Y 0,Y e,Y h,Y c,.slice none 0 0] 210)).ag;simp only[World.size_alloc]at u;exact⟨_,⟨.slice none 0 0,rfl,Zq,Zm,Zq⟩,u⟩
  clear w;go_in;go_wp21;refine bJ (λq=>q.cell? (Zd b.heap.size 0)=some (Y e)/\q.cell? (Zd b.heap.size 1)=some (Y h)/\q.cell? (Zd b.heap.size 2)=some (Y c)) ?_ λJ=>?_
  .go_keep
  refine bf [0,2] ?_;iterate 2 (refine bi ?_)
  refine bg ?_;refine bI 1 λk j=>?_;(go_simp;go_at_call 109;refine(Tc _ _).mono ?_;rintro g b7 ⟨rfl,rfl⟩);refine j.out _ _ ?_ (λJ=>?_)
  .go_keep
  clear j k;refine nz ?_;refine pN 3 ?_;refine bI 4 λk j=>?_;go_simp;refine j.out _ _ ?_ (λJ=>?_)
  .go_keep
  clear j k;refine nz ?_;refine bL λk j=>?_;go_simp;refine j.out _ _ ?_;clear j k;refine nz ?_;go_wp21;refine gw (K:=λm=>if m.2.aa<a.length then Except.error ⟨20,m.2.aa⟩else .ok m.2.a0) (U (K.i.trans sf)) (IW (Z:=Ug C.i (b.heap.size+1+1) a e h c a7) (F:=[]) (d:=⟨0,[]⟩) S.i C.i a0.i (D.i ..) a2.i) λ_ l b8 b5 r o=>?_
  have E:=U (Iy o);have a4:=U (uW (U o.i.ag));obtain⟨_,⟨b6,rfl,b3,-,-⟩,p⟩:=o.i;obtain⟨ad,H,rfl⟩:=aW (p.b0 (F:=[]) (i:=1) rfl);have t:=aE (p.b0 (F:=[]) (i:=0) rfl);have B:=U (p.ag.b0 (F:=[]) (i:=1) rfl);have a1:=U (p.bX _ (Y5 _ Yb));clear D K p;by_cases y:l.aa<a.length
  .have n:af (s=.error ⟨20,l.aa⟩):=by show _=_;rw[r.i,Y9 y]
   have a9:(l.aa:Int)<(a.length:Int):=Zm;clear r;go_wp2_with (first
    |(go_at_call 110;refine E.i.mono ?_;rintro g R ⟨rfl,rfl⟩)
    |(go_at_call 111;refine a4.i.mono ?_;rintro g R ⟨rfl,rfl⟩)
    |(go_at_call 70;refine(fp _ _ _).mono ?_;rintro g q ⟨rfl,rfl⟩))
   exact bM (Is (f:=⟨20,l.aa⟩) n.i o.i.ag.kp Zq)
  .have n:af (s=.ok l.a0):=by show _=_;rw[r.i,Y2 y]
   have a9:(a.length:Int)=(l.aa:Int):=Zm;clear r y;go_wp2_with (go_at_call 110;refine E.i.mono ?_;rintro g R ⟨rfl,rfl⟩);go_ret;exact Y8 ⟨_,_,n.i,rfl,o.i.ag.kp,B.i.1,B.i.2.imp id λ⟨I,H,a5,g,_,u⟩=>⟨I,H,a5,g,a1.i I (by rw[g];rfl),u⟩⟩
def lf(a b:Int):Bool:=decide (0<=a)&&decide (a<=b)
def Dr(a b:Int)(e:Zw):Calls prog 114 #[Y a,Y b] e λf g=>f=.returned (.bool (lf a b))/\g=e:=by
 by_cases d:0<=a
 .have c:af (lf a b=decide (a<=b)):=by show _=_;simp[lf,d]
  go_in;go_wp2;go_ret;exact⟨by rw[c.i];rfl,rfl⟩
 .have c:af (lf a b=false):=by show _=_;simp[lf,d]
  have h:a<0:=Zm;go_in;go_wp2;go_ret;exact⟨by rw[c.i];rfl,rfl⟩
def hu(e:List (Zb×Nat))(c:Zb)(a b f:Int):Except Nat Nat:=match bT e c with
 |none=>.error 10
 |some d=>if lf a 64&&lf b 10000&&lf f 100000 then .ok d else .error 11
def wx:Except Nat Nat->Zv
 |.ok b=>.tuple #[.int .i64 b,.nilIface]
 |.error a=>.tuple #[.int .i64 0,.iface 122 (.int .i64 a)]
def afd{b:Zw}{e:Nat}{c}(f:b.heap[e]?=some (oG c))(g:(c.map (·.1)).Nodup)(a:Zb):(Instr.lookup 103 (.map (some e)) (Zs a) true).run prog b=.ok (match bT c a with
   |some h=>.tuple #[.int .i64 h,.bool true]
   |none=>.tuple #[.int .i64 0,.bool false]) b:=by
 have i:=BU (P:=prog) (T:=103) (kt:=9) (et:=3) (d:=.string) Zk Zk (λa:Zb=>Zs a) (λa:Nat=>Y a) (λ_=>trivial) yh f g (z:=Y 0) Zk a true;grind
def Tm{a:Nat}{c d e h:Zv}{g}{b:Zw}(f:b.heap[a]?=some (.cells #[c,d,e,h] g)):b.cell? (Zd a 0)=some c/\b.cell? (Zd a 1)=some d/\b.cell? (Zd a 2)=some e/\(∀i,b.frozen? ⟨a,i,none⟩=false)/\a<b.heap.size:=by
 refine⟨?_,?_,?_,?_,ay f⟩<;>simp[World.cell?,World.frozen?,f]
def pE(a b c:Int):Bool:=lf a 64&&lf b 10000&&lf c 100000
def Mq(c d e:Int)(g:Zw):Calls prog 104 #[.agg #[Y c,Y d,Y e]] g λh m=>h=.returned (.bool (pE c d e))/\Below g.heap.size g m:=by
 have j:∀l,Below g.heap.size g (g.alloc l):=λl=>(Below.refl ..).alloc (Y4 _) _;cases a:lf c 64 with
 |false=>
  have b:af (pE c d e=false):=by show _=_;simp[pE,a]
  go_in;go_wp2_with (go_at_call 114;refine(Dr _ _ _).mono ?_;rintro h k ⟨rfl,rfl⟩;simp only[a]);go_ret;exact⟨by rw[b.i];rfl,j _⟩
 |true=>
  cases f:lf d 10000 with
  |false=>
   have b:af (pE c d e=false):=by show _=_;simp[pE,a,f]
   go_in;go_wp2_with (go_at_call 114;refine(Dr _ _ _).mono ?_;rintro h k ⟨rfl,rfl⟩;try simp only[a,f]);go_ret;exact⟨by rw[b.i];rfl,j _⟩
  |true=>
   cases i:lf e 100000 with
   |false=>
    have b:af (pE c d e=false):=by show _=_;simp[pE,a,f,i]
    go_in;go_wp2_with (go_at_call 114;refine(Dr _ _ _).mono ?_;rintro h k ⟨rfl,rfl⟩;try simp only[a,f,i]);go_ret;exact⟨by rw[b.i];rfl,j _⟩
   |true=>
    have b:af (pE c d e=true):=by show _=_;simp[pE,a,f,i]
    go_in;go_wp2_with (go_at_call 114;refine(Dr _ _ _).mono ?_;rintro h k ⟨rfl,rfl⟩;try simp only[a,f,i]);go_ret;exact⟨by rw[b.i];rfl,j _⟩
def afb{b:Zw}{q S t:Nat}{u v:Zv}{c}(n:b.heap[q]?=some (.cells #[u,v,.map (some S),.map (some t)] 109))(k:b.heap[S]?=some (oG c))(w:(c.map (·.1)).Nodup)(a:Zb)(d e f:Int):Calls prog 59 #[Zp q,Zs a,.agg #[Y d,Y e,Y f]] b λm y=>m=.returned (wx (hu c a d e f))/\Below b.heap.size b y:=by
 obtain⟨A,B,C,D,E⟩:=Tm n;have l:∀g,Below b.heap.size b (b.alloc g):=λg=>(Below.refl ..).alloc (Y4 _) _;have s:∀g,(Instr.lookup 103 (.map (some S)) (Zs a) true).run prog (b.alloc g)=.ok (match bT c a with
   |some x=>.tuple #[.int .i64 x,.bool true]
   |none=>.tuple #[.int .i64 0,.bool false]) (b.alloc g):=λg=>afd (((l g).block _ (ay k)).trans k) w a
 cases i:bT c a with
 |none=>
  have h:af (hu c a d e f=.error 10):=by show _=_;simp[hu,i]
  simp only[i]at s;clear n k i;go_in;go_wp2;exact bodyPost_ret (v:=.tuple #[Y 0,.iface 122 (Y 10)]) (by simp[results,results59,go_sem]) rfl ⟨by rw[h.i];rfl,l _⟩
 |some p=>
  have h:af (hu c a d e f=if pE d e f then .ok p else .error 11):=by show _=_;simp[hu,pE,i]
  simp only[i]at s;clear n k i;cases r:pE d e f with
  |false=>
   have h:af (hu c a d e f=.error 11):=Zu;go_in;go_wp21;refine(Mq _ _ _ _).mono ?_;rintro m z ⟨rfl,j⟩;rw[r];have o:=U ((l _).trans (j.mono Zq));clear j;go_wp2;exact bodyPost_ret (v:=.tuple #[Y 0,.iface 122 (Y 11)]) (by simp[results,results59,go_sem]) rfl ⟨by rw[h.i];rfl,o.i⟩
  |true=>
   have h:af (hu c a d e f=.ok p):=Zu;go_in;go_wp21;refine(Mq _ _ _ _).mono ?_;rintro m z ⟨rfl,j⟩;rw[r];have o:=U ((l _).trans (j.mono Zq));clear j;go_wp2;exact bodyPost_ret (v:=.tuple #[Y p,.nilIface]) (by simp[results,results59,go_sem]) rfl ⟨by rw[h.i];rfl,o.i⟩
section
variable {g:Ending->Zw->Prop}{m e:Nat}{b c d:Int}{h:Func}{k:TypeId}{a:Zw}{n:Zl}{l:Type}
def abj(b:Zv)(a:Zw):(binOp BinOp.neq 55 (.iface 122 b) .nilIface).run prog a=.ok (.bool true) a:=Zk
def abk(a:Zw):(binOp BinOp.neq 55 .nilIface .nilIface).run prog a=.ok (.bool false) a:=Zk
def ace{c:Nat}{d v}(b:a.ownsRow m k d v e n)(o:c<=m):a.ownsRow c k d v e n:=by
 refine⟨b.1,?_⟩;rcases b.2 with b|⟨h,f,g,i,j,l⟩
 .simp_all
 .exact Ya ⟨h,f,g,i,Yz o j,l⟩
def uF{d v}(c:a.ownsRow m k d v e n):∃ad b,v=.slice ad e b:=by
 rcases c.2 with⟨rfl,h⟩|⟨g,b,f,rfl,_⟩;all_goals simp_all
def AC(a:Zw)(m:Zv)(g:l->Zv->Zw->Prop)(f:Except Nat Nat)(k:Except Mar.ac l)(b:Ending)(h:Zw):Prop:=ap [] a h /\
 ((∃j,f=.error j/\b=.returned (.tuple #[m,.iface 122 (Y j)]))\/
  (∃e i v,f=.ok e/\k=.ok i/\b=.returned (.tuple #[v,.nilIface])/\g i v h)\/
  (∃e c d,f=.ok e/\k=.error c/\b=.returned (.tuple #[m,.iface 143 (Zp d)])/\a.heap.size<=d/\h.heap[d]?=some (.cells #[Y c.no,Y c.y] 179)))
def Il(a:Zw)(d:Except Nat Nat)(c:Except Mar.ac (List kP)):Ending->Zw->Prop:=AC a (.slice none 0 0) (λb v e=>e.ownsRow a.heap.size 87 5 v b.length (b.flatMap qy)) d c
def XR{f}{j k:Array Zv}(s:results h j=results h k):∀(b:List Deferred) (d:FrameMode) (a:Zw),Leaves f h j g b d a->Leaves f h k g b d a:=by
 intro b;induction b with
 |nil=>
  intro d a c;cases d with
  |run=>exact c
  |returning=>obtain⟨v,i,e⟩:=c;exact⟨v,Zu,e⟩
  |panicking q=>exact c
 |cons r b t=>
  intro d a c;obtain⟨p,n,l,m,args,i,e,o⟩:=c;refine⟨p,n,l,m,args,i,e,o.mono ?_⟩;grind
def TG{f}{d:Nat}{v}{e:Act}(j:d≠8)(l:d≠9)(c:bodyPostD prog h g (.panic f) (e.put (some d) v) a)
  (m:∀k b:Array Zv,k[8]?.getD undef=b[8]?.getD undef->k[9]?.getD undef=b[9]?.getD undef->results h k=results h b:=by intro k b c i;simp only[results,results37,results33];simp[c,i]):bodyPostD prog h g (.panic f) e a:=
 XR (m _ _ (by simp[Act.put,Array.getElem?_setIfInBounds,j]) (by simp[Act.put,Array.getElem?_setIfInBounds,l])) _ _ _ c
abbrev EJ(a:Zw)(e:Bool)(b c d:Int)(f g:Zv):List Th:=[.obj (a.heap.size+1+1) (.cells #[g] 55),.obj (a.heap.size+1) (.cells #[f] (bif e then 76 else 9)),.obj a.heap.size (.cells #[Y b,Y c,Y d] 72)]
abbrev oy(a:Bool):Zv:=bif a then .slice none 0 0 else .string ⟨#[]⟩
def Kv(e:Bool){m g}{r:Except Mar.ac l}{s:Except Nat Nat}{q h:Nat}{f:Mar.ac}{n:Array Zv}(k:bA (EJ a e b c d (oy e) .nilIface) a m)(t:n.getD 8 undef=.pointer (some ⟨a.heap.size+1,0,none⟩))(u:n.getD 9 undef=.pointer (some ⟨a.heap.size+1+1,0,none⟩))(D:a.heap.size+1+1<h)(y:m.heap[h]?=some (.cells #[Y f.no,Y f.y] 179))(A:r=.error f)(B:s=.ok q):bodyPostD prog (bif e then Tryz.f37 else Tryz.f33) (AC a (oy e) g s r) (.panic [{ v:=.iface 143 (Zp h),recovered:=false }]) { tmps:=n,defers:=[{ target:=.fn (.func (bif e then 65 else 58)) #[.pointer (some ⟨a.heap.size+1,0,none⟩),.pointer (some ⟨a.heap.size+1+1,0,none⟩)],args:=#[] }] } m:=by
 have o:=k.aq (i:=1) (j:=0) rfl (oy e);have p:=o.aq (i:=0) (j:=0) rfl (.iface 143 (Zp h))
 have w:=aE (o.aR (i:=1) rfl);have x:=aE (p.aR (i:=0) rfl);refine leaves_cons (f:=bif e then 65 else 58) (args:=#[.pointer (some ⟨a.heap.size+1,0,none⟩),.pointer (some ⟨a.heap.size+1+1,0,none⟩)]) Zq (by cases e<;>simp[go_sem]) ?_;refine(Kl (z:=oy e) (by cases e<;>simp[ys,oy]) _ _ h _ _ [] m (aC (k.aR (i:=1) rfl) rfl) (aC (k.aR (i:=0) rfl) rfl) (bl (k.aR (i:=1) rfl) 0) (bl (k.aR (i:=0) rfl) 0) Zq).mono ?_;rintro C E F ⟨rfl,rfl,rfl⟩;simp only[Leaves,settle,List.dropWhile_nil];rw[Array.getD_eq_getD_getElem?]at t u;refine⟨.tuple #[oy e,.iface 143 (Zp h)],by cases e<;>(dsimp only[oy,cond]at w x ⊢;simp[results,results37,results33,go_sem,t,u,w,x]),p.fr,Ya (Ya ⟨q,f,h,B,A,rfl,Zm,?_⟩)⟩
 exact(Below.heap_setCell _ _ _ _ Zx).trans ((Below.heap_setCell _ _ _ _ Zx).trans y)
def Kx(q:Bool){L S b8:Nat}{c1 k:Zv}{a0 a1 a2 u e}{R:Except Mar.ac l}{Q:Zw->l->Zv->Zw->Prop}{g:l->Zv->Zw->Prop}
  (G:a.heap[L]?=some (.cells #[c1,.slice a0 a1 a2,.map (some S),.map (some b8)] 109)) (O:a.heap[S]?=some (oG u)) (c8:(u.map (·.1)).Nodup)
  (a6:∀(p:Nat) (n:Zw),hu u e b c d=.ok p->ap [] a n->Calls prog (bif q then 66 else 60) #[.slice a0 a1 a2,Y p,k,.agg #[Y b,Y c,Y d]] n λB A=>(∃t v,R=.ok t/\B=.returned v/\ap [] n A/\(bif q then ∃t m c0,v=.slice t m c0 else ∃m,v=.string m)/\Q n t v A)\/∃f,R=.error f/\ap [] n A/\eH n f.no f.y B A)
  (a9:∀(n A J:Zw) (t:l) (v:Zv) (a4:List Nat),ap [] a n->Q n t v A->ap a4 A J->(∀c7∈a4,c7<n.heap.size)->g t v J) :
  Calls prog (bif q then 37 else 33) #[Zp L,Zs e,k,.agg #[Y b,Y c,Y d]] a (AC a (oy q) g (hu u e b c d) R):=by
 have d7:=jT;have d9:=abj;have d8:=abk;have M:=sZ G;have a7:=U (λ(n:Zw) (y:ap [] a n)=>afb ((y.ak _ (ay G) Zq).trans G) ((y.ak _ (ay O) Zq).trans O) c8 e b c d);have z:=(((rk a).A (.cells #[Y b,Y c,Y d] 72)).A (.cells #[oy q] (bif q then 76 else 9))).A (.cells #[.nilIface] 55);simp only[World.size_alloc]at z;replace z:af (bA (EJ a q b c d (oy q) .nilIface) a _):=z;have a3:=U a6;have b5:=U a9;have d6:=ay G;have c5:(∃y,hu u e b c d=.error y)\/∃p,hu u e b c d=.ok p:=by cases hu u e b c d<;>simp
 obtain⟨F,P,a8⟩:∃F,F=(bif q then 65 else 58)/\ys F (oy q):=⟨_,rfl,by cases q<;>simp[ys,oy]⟩;clear a6 a9 G O;cases q
 all_goals
  dsimp only[cond,oy,EJ]at a3 z P ⊢;first
   |go_enter_defers func37,ntmps37
   |go_enter_defers func33,ntmps33
  go_wp21;refine(a7.i _ z.i.fr).mono ?_;rintro B d0 ⟨rfl,b0⟩;have s:=U (z.i.ae (ef [] b0));have C:=aE (s.i.aR (i:=0) rfl);have d3:=bl (s.i.aR (i:=0) rfl);have d4:=ay (s.i.aR (i:=0) rfl);have o:=aE (s.i.aR (i:=1) rfl);have d2:=bl (s.i.aR (i:=1) rfl);clear b0 a7 z;obtain⟨y,x⟩|⟨p,x⟩:=c5
  .rw[show wx (hu u e b c d)=wx (.error y) by rw[x]];simp only[wx];have D:=U x;clear x;go_wp2;go_region;go_wp2;refine leaves_cons (f:=F) (args:=#[.pointer (some ⟨a.heap.size+1,0,none⟩),.pointer (some ⟨a.heap.size+1+1,0,none⟩)]) Zq (by simp[go_sem,P]) ?_;refine(Fw a8 _ _ _).mono ?_;rintro B J c9 ⟨rfl,rfl,rfl⟩;simp only[Leaves,settle];have h:=λk o C=>((((s.i.aq (i:=0) (j:=0) rfl k).aq (i:=1) (j:=0) rfl o).aq (i:=0) (j:=0) rfl C));refine⟨.tuple #[_,.iface 122 (Y y)],?_,(h ..).ag.fr,Y8 ⟨y,D.i,rfl⟩⟩
   simp[results,results37,results33,go_sem,λk o C=>aE ((h k o C).aR (i:=0) rfl),λk o=>aE (((s.i.aq (i:=0) (j:=0) rfl k).aq (i:=1) (j:=0) rfl o).aR (i:=1) rfl)]
  .rw[show wx (hu u e b c d)=wx (.ok p) by rw[x]];simp only[wx];have h:=s.i.aq (i:=0) (j:=0) rfl .nilIface;generalize c4:d0.setCell ⟨a.heap.size+1+1,0,none⟩ .nilIface=n at h;have b9:=U (a3.i p n.drew x h.ag.fr);have c6:=M.i _ h.fr;have k:=aE (h.aR (i:=2) rfl);have C:=aE (h.aR (i:=0) rfl);have h:=U h;have D:=U x;clear x s;go_wp21;clear c4;refine bJ (λK=>K.cell? (Zd L 1)=some (.slice a0 a1 a2)/\K.cell? (Zd a.heap.size 0)=some (Y b)/\K.cell? (Zd a.heap.size 1)=some (Y c)/\K.cell? (Zd a.heap.size 2)=some (Y d)) ?_ λN=>?_
   .go_keep
   refine bf [0,1,2,3,4,5,6,7] ?_;iterate 8 (refine tkd (v:=?_) rfl Zk (λ_ _ _ c2=>TG Ze Ze c2) Zk Zt ?_ ?_;rotate_left;focus (intro a c3;(try dsimp only at c3);go_simp;(try with_reducible rfl));(try simp only[aih,aii,List.aq]))
   refine bg ?_;refine bI 8 λE w=>?_;(go_simp;(first|go_at_call 66|go_at_call 60);refine b9.i.mono ?_;rintro B d1 (⟨t,v,I,rfl,H,b4,b3⟩|⟨f,I,H,d5,b2,rfl,b1⟩);rotate_left;(first|exact Kv true (h.i.ag.ae H) rfl rfl (Yr (ay (h.i.aR (i:=0) rfl)) b2) b1 I D.i|exact Kv false (h.i.ag.ae H) rfl rfl (Yr (ay (h.i.aR (i:=0) rfl)) b2) b1 I D.i);have r:=U (h.i.ag.ae H);have k:=aE (r.i.aR (i:=2) rfl);have C:=aE (r.i.aR (i:=0) rfl);have d3:=bl (r.i.aR (i:=0) rfl);have o:=aE (r.i.aR (i:=1) rfl);have d2:=bl (r.i.aR (i:=1) rfl);have d4:=ay (r.i.aR (i:=0) rfl);have c6:=M.i _ r.i.fr;have e0:=(λo=>M.i _ (r.i.aq (i:=1) (j:=0) rfl o).fr);(first|obtain⟨_,rfl⟩:=b4|obtain⟨_,_,_,rfl⟩:=b4);have b7:=U I;have b6:=U b3;clear H I b3);refine w.out _ _ ?_ (λN=>?_)
   .go_keep
   clear w E;refine nz ?_;refine bI 9 λE w=>?_;go_simp;refine w.out _ _ ?_ (λN=>?_)
   .go_keep
   clear w E;refine nz ?_;refine bL λE w=>?_;go_simp;refine w.out _ _ ?_;clear w E;refine nz ?_;clear N;go_wp2;refine leaves_cons (f:=F) (args:=#[.pointer (some ⟨a.heap.size+1,0,none⟩),.pointer (some ⟨a.heap.size+1+1,0,none⟩)]) Zq (by simp[go_sem,P]) ?_;refine(Fw a8 _ _ _).mono ?_;rintro B J c9 ⟨rfl,rfl,rfl⟩;simp only[Leaves,settle];have a5:=λk o=>(r.i.aq (i:=1) (j:=0) rfl k).aq (i:=0) (j:=0) rfl o;refine⟨.tuple #[_,.nilIface],?_,(a5 ..).fr,Ya (Y8 ⟨p,t,_,D.i,b7.i,rfl,b5.i _ _ _ _ _ [a.heap.size+1,a.heap.size+1+1] h.i.ag.fr b6.i (((ar _ d1).a6 (p:=⟨a.heap.size+1,0,none⟩) Zq _).a6 (p:=⟨a.heap.size+1+1,0,none⟩) Zq _) ?_⟩)⟩
   .simp[results,results37,results33,go_sem,λk o=>aE ((a5 k o).aR (i:=0) rfl),λk=>aE ((r.i.aq (i:=1) (j:=0) rfl k).aR (i:=1) rfl)]
   .have:=ay (h.i.aR (i:=0) rfl);simp;omega
end
section
variable {dep a:Nat}{c:List aD}{b:Zb}
def Ud(d:Zb)(dep e:Nat):(bk d dep e).g8:=by
 intro b v g j h c;obtain⟨i,_,c⟩:=bZ c;obtain⟨a,_,c⟩:=bZ c;split at c
 .cases c
 .rename_i k f;cases c
  simp[f]
def Uc(c:Zb)(e:Nat)(f:dep<=64):∀a b,64<=a->∃d,(bk c dep e).cY a b=.error d:=by
 intro a b g;exact⟨_,Y9 Zm⟩
def Ui(h:nD c)(k:bT (fi c).2 b=some a)(d:Zb)(e:Nat)(j:dep<=64):∃g,mZ (bk d dep e) (fi c).1 g ⟨a,[],[]⟩ ⟨0,[]⟩=some (fu (bk d dep e) (dL c) 64 0 b ⟨0,[]⟩):=by
 obtain⟨m,i,l⟩:=HH h;have f:=l b;rw[k]at f;exact Og (Ud d dep e) (Uc d e j) i f.1 f.2.1 f.2.2 _
def OK{f}{dep e g:Int}(c:hu f b dep e g=.ok a):bT f b=some a/\0<=dep/\dep<=64/\0<=e/\e<=10000/\0<=g/\g<=100000:=by
 unfold hu at c;cases h:bT f b with
 |none=>rw[h]at c;cases c
 |some i=>
  rw[h]at c;simp only at c;split at c
  .rename_i d;cases c
   simp only[lf,Bool.and_eq_true,decide_eq_true_eq]at d;exact⟨rfl,d.1.1.1,d.1.1.2,d.1.2.1,d.1.2.2,d.2.1,d.2.2⟩
  .cases c
def QG{p:Zw}{r q}(F:tS r q c)(i:∀a∈r,p.heap[a.1]?=some a.2)(G:nD c)(m:∀K∈(fi c).1,mJ K)(b f:Zb)(dep d j:Int)(H:f.length<=maxLen):Calls prog 37 #[Zp q,Zs b,Zs f,.agg #[Y dep,Y d,Y j]] p (Il p (hu (fi c).2 b dep d j) (pA (dL c) b f dep.toNat d.toNat j.toNat)):=by
 obtain⟨P,a2,v,S,N,C,a1,g⟩:=F;obtain⟨a5,a6,a7,rfl⟩:=g.L.h6;refine Kx true (Q:=λk e v o=>o.ownsRow k.heap.size 87 5 v e.length (e.flatMap qy)) (i _ C) (i _ g.an) g.nd (λa k h l=>?_) λk o a4 e v L l t I D=>bQ (ace t l.aG) I λA m n=>absurd (D A n) (Nat.not_lt.2 (lI t m).1);obtain⟨n,u,O,z,a0,J,a3⟩:=OK h;obtain⟨dep,rfl⟩:=Int.eq_ofNat_of_zero_le u;obtain⟨d,rfl⟩:=Int.eq_ofNat_of_zero_le z;obtain⟨j,rfl⟩:=Int.eq_ofNat_of_zero_le J;obtain⟨M,E⟩:=Ui G n f d (dep:=dep) Zm;refine(Sb g.L (λa h=>(l.ak _ (ay (i a h)) Zq).trans (i a h)) m Zm Zm Zm H E).mono ?_;rintro R o (⟨e,v,w,x,y,s⟩|B)
 .exact Y8 ⟨e,v,w,x,y,⟨_,_,_,(uF s).choose_spec.choose_spec⟩,s⟩
 .exact Ya B
end
section
def qh(a:UInt8):Zv:=.int .u8 a.toNat
def Fx:(prog.info? 5).map (λa=>(a.zero,a.size,a.bytes))=some (some (.int .u8 0),1,1):=Zk
section
variable {P : Program} (a : Zw)
def aed(n:Nat)(h i l d:TypeId)(e:TypeInfo)(p:P.underlying h=some (.slice d))(q:P.underlying i=some .string)(o:P.info? d=some e)(w:e.zero=some (.int .u8 0))
  (z:e.size=1) (y:e.bytes=1) (v:Zv) (c:Nat) (m:Zl) (t:a.ownsRow n d 1 v c m) (b:Za) (I:v=.slice none 0 0->0<b.size)
  (C:c+b.size<=maxLen) (F:c+b.size<=140737488355328) (E:n<=a.heap.size) :
  ∃g f j,(Builtin.append_ #[h,i] l #[v,.string b]).run P a=.ok (.slice (some ⟨g,0,none⟩) (c+b.size) f) j/\j.ownsRow n d 1 (.slice (some ⟨g,0,none⟩) (c+b.size) f) (c+b.size) (m++Lib.strCells b)/\a.grownBy j v.ownBlock/\(v.ownBlock=some g\/g=a.heap.size)/\g<j.heap.size:=by
 obtain⟨J,j,k,x,B,_⟩:=Lib.run_append_own_string (P:=P) a n h i l d e p q o w z y v c m t b C F E;have key:∃g f,J=.slice (some ⟨g,0,none⟩) (c+b.size) f/\(v.ownBlock=some g\/g=a.heap.size):=by
  have M:c+b.size<=9223372036854775807:=Zm;rcases t.2 with⟨rfl,rfl⟩|⟨s,r,A,rfl,_,G,L,_,K,_⟩
  .have u:=run_append_nil_string (P:=P) a h i l d e (.int .u8 0) p q o w b (I rfl) Zm Zg;grind
  .by_cases H:c+b.size<=r
   .have u:=Lib.run_append_room_string (P:=P) a h i l d e p q o z s c r A G b H Zm;rw[u]at k;injection k with k _;exact⟨_,_,k.symm,Y8 rfl⟩
   .have N:m.length=c:=Zg;have u:=Lib.run_append_grow_string (P:=P) a h i l d e (.int .u8 0) p q o w ⟨s,0,none⟩ c r m Zu (t.cells (g:=s) rfl) b Zm Zm (by rw[y];exact growslice_fits Zm Zm);grind
 obtain⟨g,f,rfl,D⟩:=key;exact⟨g,f,j,k,x,B,D,(lI x (g:=g) rfl).2⟩
def ahL{o rest}{h:Oper}{i:Act}{Q}(D:h.guard=none)(p q:Operand)(l m:TypeId)
  (F:h.op=.call { callee:=.builtin .append,args:=#[p,q],argTypes:=#[l,m] })
  (j:Nat) (f:TypeId) (g:TypeInfo) (K:P.underlying l=some (.slice f)) (L:P.underlying m=some .string) (E:P.info? f=some g) (N:g.zero=some (.int .u8 0))
  (J:g.size=1) (B:g.bytes=1) (v:Zv) (d:Nat) (n:Zl) (I:i.eval p=v) (G:a.ownsRow j f 1 v d n) (b:Za) (M:i.eval q=.string b) (s:v=.slice none 0 0->0<b.size)
  (y:d+b.size<=maxLen) (C:d+b.size<=140737488355328) (A:j<=a.heap.size)
  (r:∀c k e,e.ownsRow j f 1 (.slice (some ⟨c,0,none⟩) (d+b.size) k) (d+b.size) (n++Lib.strCells b)->a.grownBy e v.ownBlock->(v.ownBlock=some c\/c=a.heap.size)->c<e.heap.size->wpList P o Q rest (i.put h.dst (.slice (some ⟨c,0,none⟩) (d+b.size) k)) e):wpList P o Q (h::rest) i a:=by
 refine wpList_plain D λO z=>?_;obtain⟨c,k,e,H,t,u,w,x⟩:=aed (P:=P) a j l m h.type f g K L E N J B v d n G b s y C A;unfold Oper.wp execOp;simp only[F,resolve,invoke,builtin,Sem.run_bind,Sem.run_pure,Result.andThen_ok,List.map_toArray,List.map_cons,List.map_nil,I,M,H];exact z _ _ (r c k e t u w x)
end
def afP(a:Zb):Lib.strCells ⟨a.toArray⟩=a.map qh:=Zr
def Rp(g:Nat)(f:Zw)(v:Zv)(e:Nat)(j:Zl)(d:Nat)(i:Zl)(a h:Nat)(c:Zw):Prop:=∃b,Below f.heap.size f b/\c.ownsRow g 5 1 (.slice (some ⟨a,0,none⟩) (e+d) h) (e+d) (j++i)/\b.grownBy c v.ownBlock/\(v.ownBlock=some a\/a=b.heap.size)/\a<c.heap.size
def ahF(a:Nat)(c:a<4294967296):(dM a).map qh=[.int .u8 ((a:Int) / 16777216),.int .u8 ((a:Int) / 65536 % 256),.int .u8 ((a:Int) / 256 % 256),.int .u8 ((a:Int) % 256)]:=by
 have b:((a:Int) % 4294967296).toNat=a:=Zm;simp only[dM,b,List.map_cons,List.map_nil,qh,UInt8.toNat_ofNat'];grind
def So{d b}{c:Zw}{v g}(a:Nat)(r:a<4294967296)(h:c.ownsRow d 5 1 v b g)(C:d<=c.heap.size)(D:b<=1000000):Calls prog 227 #[v,.int .u32 a] c λl A=>∃f e,l=.returned (.slice (some ⟨f,0,none⟩) (b+4) e)/\Rp d c v b g 4 ((dM a).map qh) f e A:=by
 obtain⟨ad,e,rfl⟩:=uF h;obtain⟨z,n,u,w,x⟩:=info_parts Fx;have y:(Value.int .u8 0).cells.size=1:=rfl;have o:b+4<=maxLen:=Zn;have p:(b+4)*1<=140737488355328:=Zm;have s:af (∀i,(c.alloc i).ownsRow d 5 1 (.slice ad b e) b g):=λi=>bQ h ((ar [] c).A i) Zq;have j:=U (ahF a r);clear h;go_in;go_wp2_with (at_builtin;refine wpList_append_lies _ Zr _ _ _ Zr d 5 z _ 1 1 underlying97 n u w x y Zm (.slice ad b e) b g Zr (s.i _) ⟨c.heap.size,0,none⟩ 4 4 [.int .u8 ((a:Int) / 16777216),.int .u8 ((a:Int) / 65536 % 256),.int .u8 ((a:Int) / 256 % 256),.int .u8 ((a:Int) % 256)] Zr Zr (World.news_of_block (cs:=#[.int .u8 ((a:Int) / 16777216),.int .u8 ((a:Int) / 65536 % 256),.int .u8 ((a:Int) / 256 % 256),.int .u8 ((a:Int) % 256)]) (t:=5) (fr:=(0,0)) (heap_alloc_new c _)) Zy Zm o p Zx (c.heap.size+1) Zq ?_;intro f k F E m B q);go_ret;exact⟨f,k,rfl,_,(Below.refl ..).alloc (Y4 _) _,by rw[j.i];omega,m,Zu,q⟩
end
section
def yE(b:Zw)(a c:Nat)(d:dW):Prop:=b.cell? (Zd a c)=some (Y d.w)/\b.cell? ⟨a,c+1,none⟩=some (Y d.n)/\b.cell? ⟨a,c+2,none⟩=some (Zs d.s)/\b.cell? ⟨a,c+3,none⟩=some (Y d.y)/\b.cell? ⟨a,c+4,none⟩=some (Y d.am)
def mC(b:Zw)(f:Zv)(v:List dW):Prop:=∃ad a,f=.slice ad v.length a/\v.length<=a/\a<=maxLen/\∀d g,v[d]?=some g->∃c e,ad=some ⟨c,e,none⟩/\yE b c (e+d*5) g
abbrev ez(a:dW):Zl:=[Y a.w,Y a.n,Zs a.s,Y a.y,Y a.am]
def eP(c:Zw)(d:Nat)(f:Zv)(v:List dW)(h g a:Nat)(e:cw)(i:List Th):Prop:=∃b,i=[.obj d (.cells #[f,Y e.O,Y h,Y g,Y a,b] 199),.row 5 1 b e.i.length (e.i.map qh)]/\mC c f v/\e.O<=10000/\e.i.length<=100000/\a<=100000/\g<=10000
section
variable {c b : Zw} {d : Nat} {F : List Th} {f : Zv} {v : List dW} {h g a : Nat} {e : cw}
theorem Bo(m:Gm (eP c d f v h g a e) c F b):∃ad j,(∀i,b.cell? (Zd d i)=#[f,Y e.O,Y h,Y g,Y a,.slice ad e.i.length j][i]?)/\(∀i,b.frozen? ⟨d,i,none⟩=false)/\d<b.heap.size/\mC c f v/\e.O<=10000/\e.i.length<=100000/\a<=100000/\g<=10000:=by
 obtain⟨_,⟨o,rfl,n⟩,l⟩:=m;obtain⟨ad,j,rfl⟩:=aW (l.b0 (i:=1) rfl);have k:b.heap[d]?=_:=l.b0 (i:=0) rfl;exact⟨ad,j,aE k,bl k,ay k,n⟩
def UE(l:Gm (eP c d f v h g a e) c F b)(o:e.O+1<=10000):Gm (eP c d f v h g a { e with O:=e.O+1 }) c F (b.setCell ⟨d,1,none⟩ (Y ((e.O:Int)+1))):=by
 obtain⟨_,⟨t,rfl,n,-,m⟩,k⟩:=l;obtain⟨p,q,r,s⟩:=qz (j:=1) (k.b0 (i:=0) rfl) (Y ((e.O:Int)+1));exact⟨_,⟨t,rfl,n,o,m⟩,k.gf (i:=0) rfl p q r s⟩
def Lg(i:Nat)(t:i<=4294967298)(p:1<=e.O)(k:af (Gm (eP c d f v h g a e) c F b)):Calls prog 411 #[Zp d,Y i] b (gx c (eP c d f v h g a) F (cp (mo a i e)) λ_=>.tuple #[]):=by
 obtain⟨ad,o,n,-,-,-,r,u,w,s⟩:=Bo k.i;by_cases l:a<e.i.length+i
 .have j:af (cp (mo a i e)=.error ⟨14,e.O-1⟩):=by show _=_;simp[mo,l,cp,aA]
  have m:(a:Int)-e.i.length<(i:Int):=Zm;have q:((e.O:Int)-1)=((e.O-1:Nat):Int):=Zm;go_in;go_wp2;go_region;go_wp2_with (go_at_call 70;refine(fp _ _ _).mono ?_;rintro e x ⟨rfl,rfl⟩);exact bM (tD k.i.ag j)
 .have j:af (cp (mo a i e)=.ok ((),e)):=by show _=_;simp[mo,l,cp,aA]
  have m:(i:Int)<=(a:Int)-e.i.length:=Zm;go_in;go_wp2;go_region;go_wp2;go_end0;exact Y8 ⟨(),e,j.i,rfl,k.i.ag⟩
def NY{a d}{e c:cw}{f:Unit}(b:cp (mo a d e)=.ok (f,c)):c=e/\e.i.length+d<=a:=by
 unfold mo at b;split at b
 .cases b
 .cases b
  exact⟨rfl,Zm⟩
def ahD(a:Int):dM ((a % 4294967296).toNat:Int)=dM a:=by
 grind [dM,Int.emod_emod_of_dvd]
def xm(k:Int)(K:1<=e.O)(G:af (Gm (eP c d f v h g a e) c F b)):Calls prog 405 #[Zp d,Y k] b (gx c (eP c d f v h g a) F (cp (kM a k e)) λ_=>.tuple #[]):=by
 have q:af (cp (kM a k e)=aA (cp (mo a 4 e)) λD=>cp (.ok { D.2 with i:=D.2.i++dM k })):=qR.trans sf;go_in;go_wp21;refine gw q (Lg 4 Zm K G) λ_ n a8 S q H=>?_;obtain⟨rfl,a5⟩:=NY S.i;obtain⟨_,⟨a6,rfl,x,M,a4,R,N⟩,l⟩:=H.i;have J:=aE (l.b0 (i:=0) rfl);have w:0<=k % 4294967296:=Int.emod_nonneg _ Zm;have P:k % 4294967296<4294967296:=Int.emod_lt_of_pos _ Zm;have m:=So (k % 4294967296).toNat Zm (l.b0 (i:=1) rfl) (YV _) Zm;rw[ahD,Int.toNat_of_nonneg w]at m;have m:=U m;obtain⟨ad,o,rfl⟩:=aW (l.b0 (i:=1) rfl);have l:=U l;have E:=U x;clear w P x;go_wp21;refine m.i.mono ?_;rintro a3 a0 ⟨r,o,rfl,a7,L,y,u,t,O⟩;have s:=U (kR (F:=F)▸l.i.a4 (fm (i:=1) rfl) (ef [] L) y u t rfl);have p:=s.i.b0 (i:=0) rfl;have J:=aE p;have a1:=bl p;have a2:=ay p;obtain⟨z,A,B,C⟩:=qz (j:=5) (s.i.b0 (i:=0) rfl) (.slice (some ⟨r,0,none⟩) (n.i.length+4) o);have I:af (Gm (eP c d f v h g a { n with i:=n.i++dM k }) c F (a0.setCell ⟨d,5,none⟩ (.slice (some ⟨r,0,none⟩) (n.i.length+4) o))):=⟨_,⟨.slice (some ⟨r,0,none⟩) (n.i.length+4) o,by simp[Dy],E.i,M,by simp[Dy];omega,R,N⟩,s.i.gf (i:=0) rfl z A B C⟩;clear y u t O m z A B C p;go_wp2;go_end0;exact Y8 ⟨(),_,q.i,rfl,I.i⟩
end
end
section
def je(e:cw)(b:Zb)(a:Nat):cw:={ e with i:=e.i++b++List.replicate a 0 }
def acg(e:cw)(a:Zb):je e a 0 = { e with i:=e.i++a }:=by simp[je]
def acf(e:cw)(b:Zb)(a:Nat):({ je e b a with i:=(je e b a).i++[0] }:cw)=je e b (a+1):=by
 simp[je,List.replicate_succ']
section
variable {a h : Zw} {b : Nat} {F : List Th} {f : Zv} {v : List dW} {g d c : Nat} {e : cw}
theorem KS{n}{l:Zb}{k h:Nat}(r:mC a f v)(o:e.O<=10000)(q:e.i.length+l.length<=100000)(s:c<=100000)(p:d<=10000){y:Zv}(m:bA (F++[.obj b (.cells #[f,Y e.O,Y g,Y d,Y c,y] 199),.row 5 1 (.slice (some ⟨k,0,none⟩) (e.i.length+l.length) h) (e.i.length+l.length) (e.i.map qh++l.map qh)]) a n):Gm (eP a b f v g d c { e with i:=e.i++l }) a F (n.setCell ⟨b,5,none⟩ (.slice (some ⟨k,0,none⟩) (e.i.length+l.length) h)):=by
 obtain⟨t,u,w,x⟩:=qz (j:=5) (m.b0 (i:=0) rfl) (.slice (some ⟨k,0,none⟩) (e.i.length+l.length) h);exact⟨_,⟨.slice (some ⟨k,0,none⟩) (e.i.length+l.length) h,Zq,r,o,by simpa using q,s,p⟩,m.gf (i:=0) rfl t u w x⟩
def Ld(i:Zb)(e1:i.length<=4294967295)(b3:1<=e.O)(x:af (Gm (eP a b f v g d c e) a F h)):Calls prog 410 #[Zp b,Zs i] h (gx a (eP a b f v g d c) F (cp (wm c i e)) λ_=>.tuple #[]):=by
 have a0:((cB i.length:Nat):Int)=((i.length:Int)+3) / 4*4:=by unfold cB;omega
 have c2:i.length<=cB i.length:=by unfold cB;omega
 have c3:cB i.length<i.length+4:=by unfold cB;omega
 have p:af (cp (wm c i e)=aA (cp (mo c (cB i.length) e)) λd3=>.ok ((),je d3.2 i (cB i.length-i.length))):=by
  show cp (aA ..)=_;rw[qR,sf];simp[je,lJ,cp,aA]
 have r:=Lg (cB i.length) Zm b3 x;rw[a0]at r;have r:=U r;obtain⟨d2,b5,c9,d0,d1⟩:=info_parts Fx;go_in;go_wp21;refine gw p r.i λ_ n N c8 p a6=>?_;obtain⟨rfl,e0⟩:=NY c8.i;obtain⟨_,⟨L,rfl,P,D,b7,J,E⟩,o⟩:=a6.i;have A:=aE (o.b0 (i:=0) rfl);have B:=bl (o.b0 (i:=0) rfl);have C:=ay (o.b0 (i:=0) rfl);have c5:=U (o.b0 (i:=1) rfl);have o:=U o;have z:=U P;clear P r;by_cases R:L=.slice none 0 0/\i=[]
 .obtain⟨rfl,rfl⟩:=R;obtain⟨a1,a2,a3,a4⟩:=qz (j:=5) (o.i.b0 (i:=0) rfl) (.slice none 0 0);have a7:af (Gm (eP a b f v g d c n) a F (N.setCell ⟨b,5,none⟩ (.slice none 0 0))):=⟨_,⟨.slice none 0 0,rfl,z.i,D,b7,J,E⟩,o.i.gf (i:=0) rfl a1 a2 a3 a4⟩;rw[show je n [] (cB ([]:Zb).length-([]:Zb).length)=n by simp[je,cB]]at p;clear a0 c2 c3 a1 a2 a3 a4;go_wp2;go_loopw [26] (λk M=>k=Y 0/\af (M=N.setCell ⟨b,5,none⟩ (.slice none 0 0))) (λ_ _=>0)
  case atStart=>exact⟨rfl,U rfl⟩
  case round=>
   obtain⟨rfl,c7⟩:=hrel;go_wp2;go_end0;exact Y8 ⟨(),_,p.i,rfl,by rw[c7.i];exact a7.i⟩
 .have c6:L=.slice none 0 0->0<(⟨i.toArray⟩:Za).size:=by
   intro b2;have:i≠[]:=λb1=>R ⟨b2,b1⟩;exact YM.2 this
  have I:(⟨i.toArray⟩:Za).size=i.length:=rfl;go_wp2_with (at_builtin;go_must (refine ahL _ Zr _ _ _ _ Zr 0 5 d2 underlying97 underlying9 b5 c9 d0 d1 L n.i.length (n.i.map qh) Zr c5.i ⟨i.toArray⟩ Zr c6 (by unfold maxLen;rw[I];omega) (by rw[I];omega) (YV _) ?_;intro b0 d5 e3 G t s b8;rw[afP,I]at G;have u:=kR (F:=F)▸o.i.a4 (fm (i:=1) rfl) (ar [] N) G t s rfl;have A:=aE (u.b0 (i:=0) rfl);have B:=bl (u.b0 (i:=0) rfl);have C:=ay (u.b0 (i:=0) rfl);have q:=KS z.i D Zm J E u;rw[<-acg]at q;have q:=U q;clear G t s b8 u));go_loopw [26] (λk M=>∃m:Nat,k=Y m/\m<=cB i.length-i.length/\af (Gm (eP a b f v g d c (je n i m)) a F M)) (λk _=>(cB i.length-i.length)-(intOf k).toNat)
  case atStart=>exact⟨0,rfl,Zm,q⟩
  case round=>
   obtain⟨m,rfl,d8,x⟩:=hrel;clear q;rcases Yj m (cB i.length-i.length)with d9|d7
   .have b6:(m:Int)<((i.length:Int)+3) / 4*4-i.length:=Zm;obtain⟨_,⟨e2,rfl,-⟩,o⟩:=x.i;obtain⟨a8,a9,rfl⟩:=aW (o.b0 (i:=1) rfl);have c0:(je n i m).i.length=n.i.length+i.length+m:=by simp[je];omega
    have A:=aE (o.b0 (i:=0) rfl);have B:=bl (o.b0 (i:=0) rfl);have C:=ay (o.b0 (i:=0) rfl);have c1:af (∀K,(wr.alloc K).ownsRow 0 5 1 (.slice a8 (je n i m).i.length a9) (je n i m).i.length ((je n i m).i.map qh)):=λK=>bQ (o.b0 (i:=1) rfl) ((ar [] wr).A K) Zq;have o:=U o;have c4:(je n i m).i.length+1<=100000:=Zm;have b4:af ((je n i m).O<=10000):=D;have a5:af ({ je n i m with i:=(je n i m).i++[0] } = je n i (m+1)):=acf n i m;clear c0;generalize je n i m=d4 at *
    go_wp2_with (at_builtin;go_must (refine ku Fx underlying97 (c1.i _) [.int .u8 0] (heap_alloc_new wr _) Zy Zm (YV _) (H:=wr.heap.size+1) Zq ?_;intro b0 d6 e4 S t s b9;have w:=kR (F:=F)▸o.i.a4 (fm (i:=1) rfl) ((ar [] wr).A _) S t s Zq;have A:=aE (w.b0 (i:=0) rfl);have B:=bl (w.b0 (i:=0) rfl);have C:=ay (w.b0 (i:=0) rfl);have y:=KS (e:=d4) (l:=[0]) z.i b4.i (by simpa using c4) J E w;rw[a5.i]at y;have y:=U y;clear S t s b9 w));exact⟨⟨m+1,Zj,Zm,y⟩,Zz⟩
   .have O:m=cB i.length-i.length:=Zm;have b6:¬((m:Int)<((i.length:Int)+3) / 4*4-i.length):=Zm;rw[<-O]at p;clear O;go_wp2;go_end0;exact Y8 ⟨(),_,p.i,rfl,x.i⟩
end
end
section
structure yy(b:Zw)(d:Nat)(k:List Th)(g:Zv)(v:List dW)(f c h:Nat)(fit:dW->Bool)(F':dW->List Th)(fn:Nat)(post:Array Zv):Prop where
 d2:∀(args:Array Zv) (u:Zw),(callFunc fn args).run prog u=.ok (.enter fn args) u
 aK:∀{ex:List Th} {a:cw} {u:Zw} (x:dW),af (Gm (eP b d g v f c h a) b (ex++k) u)->Calls prog fn (#[.agg (ez x).toArray]++post) u λen u'=>en=.returned (.bool (fit x))/\af (Gm (eP b d g v f c h a) b (ex++F' x) u')
def aep{a:Nat}{c d f g h b0 b1 b2 b3 b4:Zv}{b}{e:Zw}(j:e.heap[a]?=some (.cells #[c,d,f,g,h] b)):(((((e.setCell ⟨a,0,none⟩ b0).setCell ⟨a,1,none⟩ b1).setCell ⟨a,2,none⟩ b2).setCell ⟨a,3,none⟩ b3).setCell ⟨a,4,none⟩ b4).heap[a]?=some (.cells #[b0,b1,b2,b3,b4] b):=by
 have k:=ci (i:=0) j b0;have l:=ci (i:=1) k b1;have m:=ci (i:=2) l b2;have n:=ci (i:=3) m b3;have o:=ci (i:=4) n b4;simp_all
def DK(b:Zw)(d:Nat)(m:dW->List Th)(g:Zv)(v:List dW)(f c h:Nat)(l:Except Mar.ac (dW×cw))(k:Ending)(e:Zw):Prop:=
 (∃i j,l=.ok (i,j)/\k=.returned (.agg (ez i).toArray)/\Gm (eP b d g v f c h j) b (m i) e)\/(∃a,l=.error a/\ap [] b e/\eH b a.no a.y k e)
def HD{b e}{d i:Nat}{m g v f c h}{k:Except Mar.ac (dW×cw)}{a}(j:ap [] b e)(l:af (k=.error a))(n:i=e.heap.size:=by first|rfl|simp):DK b d m g v f c h k (hb i) (e.alloc (.cells #[Y a.no,Y a.y] 179)):=Ya ⟨a,l.i,j.A _,_,by have:=j.aG;omega,rfl,be n⟩
def Dk{t:Type}{b e d r g v f c h p}{n:Except Mar.ac t}{s i args}{Q:Ending->Zw->Prop}(q:af (n=aA p s))(u:Calls prog i args e (DK b d r g v f c h p))(ok:∀m o j,af (p=.ok (m,o))->af (n=s (m,o))->af (Gm (eP b d g v f c h o) b (r m) j)->Q (.returned (.agg (ez m).toArray)) j)
  (y:∀{k:Nat} {j:Zw},(∃i,n=.error i/\ap [] b j/\eH b i.no i.y (hb k) j)->Q (hb k) j:=by exact λA=>bM (Ya A)):Calls prog i args e Q:=by
 refine u.mono ?_;rintro a E (⟨x,z,l,rfl,w⟩|⟨i,l,D,k,C,rfl,B⟩)
 .exact ok x z E l (q.i.trans (by rw[l];rfl)) w
 .exact y ⟨i,q.i.trans (by rw[l];rfl),D,k,C,rfl,B⟩
section
variable {b e : Zw} {d : Nat} {k : List Th} {g : Zv} {v : List dW} {f c h : Nat} {a : cw}
def KR{j i:Nat}{o}(m:Gm (eP b d g v f c h a) b k e)(l:k[i]?=some (.obj j o)):d≠j/\j≠d:=by
 obtain⟨_,⟨q,rfl,-⟩,n⟩:=m;have p:=(YB.1 l).1;have:=n.cd i (k.length+0) _ _ Zm (AU l) (fm rfl) j rfl;simp[Th.aH]at this;exact⟨this,λa=>this a.symm⟩
def Br{t J K S}(u:Int)(hF:yy b d k g v f c h t J K S)(F:af (Gm (eP b d g v f c h a) b k e)):Calls prog 402 #[Zp d,Y u,.func (.func K) #[] S] e (DK b d J g v f c h (hh v c u t a)):=by
 obtain⟨a1,a4,a2,a5,a6,a8,c5,-,c9,c6⟩:=Bo F.i;obtain⟨ad,a3,rfl,d0,b9,D⟩:=a8;have y:=U F.i.kp;by_cases B:c<=a.O
 .have r:af (hh v c u t a=.error ⟨15,a.O⟩):=by show _=_;simp[hh,B]
  have a9:(c:Int)<=(a.O:Int):=Zm;clear D hF;go_in;go_wp2;go_region;go_wp2_with (go_at_call 70;refine(fp _ _ _).mono ?_;rintro a p ⟨rfl,rfl⟩);exact bM (HD (y.i.A _).ag r)
 .have a9:(a.O:Int)<(c:Int):=Zm;cases o:v[a.O]? with
  |none=>
   have r:af (hh v c u t a=.error ⟨12,a.O⟩):=by show _=_;simp[hh,B,o]
   have b5:(v.length:Int)<=(a.O:Int):=by have:=List.getElem?_eq_none_iff.1 o;omega
   clear D hF o;go_in;go_wp2;go_region;go_wp2;go_region;go_wp2_with (go_at_call 70;refine(fp _ _ _).mono ?_;rintro a p ⟨rfl,rfl⟩);exact bM (HD (y.i.A _).ag.ag r)
  |some i=>
   have b5:(a.O:Int)<(v.length:Int):=by have:=(YB.1 o).1;omega
   have b8:(0:Int)<=(a.O:Int):=Zm;obtain⟨m,w,rfl,H⟩:=D a.O i o;have L:m<b.heap.size:=iI H.1;obtain⟨M,N,O,P,R⟩:yE e m (w+a.O*5) i:=by
    obtain⟨M,N,O,P,R⟩:=H;have A:∀l,e.cell? (Zd m l)=b.cell? (Zd m l):=λl=>World.cell?_of_block (y.i.ak m L Zq);exact⟨(A _).trans M,(A _).trans N,(A _).trans O,(A _).trans P,(A _).trans R⟩
   have c7:m<e.heap.size:=Yr L y.i.aG;have x:=((F.i.A (.cells #[Y 0,Y 0,.string ⟨#[]⟩,Y 0,Y 0] 87)).A (.cells (ez i).toArray 87)).ag.ag.ag;simp only[World.size_alloc]at x;have x:=U x;clear D H;go_in;go_wp2;go_region;go_wp2;go_region;go_wp21;refine bJ (λp=>p.cell? (Zd d 0)=some (.slice (some ⟨m,w,none⟩) v.length a3)/\p.cell? (Zd d 1)=some (Y a.O)/\p.cell? ⟨m,w+a.O*5,none⟩=some (Y i.w)/\p.cell? ⟨m,w+a.O*5+1,none⟩=some (Y i.n)/\p.cell? ⟨m,w+a.O*5+2,none⟩=some (Zs i.s)/\p.cell? ⟨m,w+a.O*5+3,none⟩=some (Y i.y)/\p.cell? ⟨m,w+a.O*5+4,none⟩=some (Y i.am)) ?_ λa7=>?_
   .go_keep
   refine bf [0,1,2,3,4,5,6,7,8,9] ?_;iterate 10 (refine bi ?_)
   refine bg ?_;refine bI 10 λE z=>?_;go_simp;refine z.out _ _ ?_ (λa7=>?_)
   .go_keep
   clear z E;refine nz ?_;refine bL λE z=>?_;go_simp;refine z.out _ _ ?_;clear z E;refine nz ?_;by_cases I:i.w=u
   .subst I;have c4:=hF.d2;go_wp21;refine(hF.aK (ex:=[_,_]) i x).mono ?_;rintro b7 d5 ⟨rfl,q⟩;obtain⟨a1,a4,a2,a5,a6,-⟩:=Bo q.i;cases C:t i with
    |false=>
     have r:af (hh v c i.w t a=.error ⟨12,a.O⟩):=by show _=_;simp[hh,B,o,C]
     clear hF o x C;go_wp2_with (go_at_call 70;refine(fp _ _ _).mono ?_;rintro a p ⟨rfl,rfl⟩);exact bM (HD q.i.kp r)
    |true=>
     have r:af (hh v c i.w t a=.ok (i,{ a with O:=a.O+1 })):=by show _=_;simp[hh,B,o,C]
     have d3:=aE (q.i.ob (i:=0) rfl);have d4:=ay (q.i.ob (i:=0) rfl);have d1:=aE (q.i.ob (i:=1) rfl);have d2:=bl (q.i.ob (i:=1) rfl);obtain⟨c0,c2⟩:=KR q.i (i:=0) rfl;obtain⟨c1,c3⟩:=KR q.i (i:=1) rfl;have G:=UE q.i Zm;have b6:=aE (aep (b0:=Y i.w) (b1:=Y i.n) (b2:=Zs i.s) (b3:=Y i.y) (b4:=Y i.am) (G.ob (i:=1) rfl));have a0:=U ((((((G.aq (i:=1) (j:=0) rfl (Y i.w)).aq (i:=1) (j:=1) rfl (Y i.n)).aq (i:=1) (j:=2) rfl (Zs i.s)).aq (i:=1) (j:=3) rfl (Y i.y)).aq (i:=1) (j:=4) rfl (Y i.am)));clear hF o x q G C;go_wp2;exact bodyPost_ret (v:=.agg (ez i).toArray) (by simp[results,results402,go_sem,b6]) rfl (Y8 ⟨i,_,r.i,rfl,a0.i.au.au⟩)
   .have c8:(i.w==u)=false:=by simpa using I
    have r:af (hh v c u t a=.error ⟨12,a.O⟩):=by show _=_;simp[hh,B,o,I]
    clear hF o;go_wp2_with (go_at_call 70;refine(fp _ _ _).mono ?_;rintro a p ⟨rfl,rfl⟩);exact bM (Ya ⟨_,r.i,((((((y.i.A _).A _).A _).ag).ag).ag),_,by have:=y.i.aG;simp;omega,rfl,be Zq⟩)
end
end
section
def Ie(d:Int)(f:Bool)(b:Int)(w:Zw):Calls prog 367 #[.agg #[Y d,.bool f],Y b] w λa k=>a=.returned (.bool (gY d f b))/\Below w.heap.size w k:=by
 have e:∀j,Below w.heap.size w (w.alloc j):=λj=>(Below.refl ..).alloc (Y4 _) _;cases f with
 |true=>
  by_cases g:b=d
  .subst g;have c:af (gY b true b=true):=by show _=_;simp[gY]
   go_in;go_wp2;go_ret;exact⟨by rw[c.i];rfl,e _⟩
  .have c:af (gY d true b=false):=by show _=_;simp[gY,g]
   have l:(b==d)=false:=Zu;go_in;go_wp2;go_ret;exact⟨by rw[c.i];rfl,e _⟩
 |false=>
  by_cases h:0<=b
  .by_cases i:b<=d
   .have c:af (gY d false b=true):=by show _=_;simp[gY,h,i]
    go_in;go_wp2;go_ret;exact⟨by rw[c.i];rfl,e _⟩
   .have c:af (gY d false b=false):=by show _=_;simp[gY,i]
    go_in;go_wp2;go_ret;exact⟨by rw[c.i];rfl,e _⟩
  .have c:af (gY d false b=false):=by show _=_;simp[gY,h]
   go_in;go_wp2;go_ret;exact⟨by rw[c.i];rfl,e _⟩
section
variable {b w : Zw} {c : Nat} {F : List Th} {f : Zv} {v : List dW} {d e g : Nat} {a : cw}
def VT{n m r}(p:iN n m r)(q:∀k∈n,b.heap[k.1]?=some k.2)(h:Nat):yy b c (.obj h (.cells m.toArray 247)::F) f v d e g (λl=>r.br l.n) (λ_=>.obj h (.cells m.toArray 247)::F) 407 #[Zp h] where
 d2:=λ_ _=>by kernel_rfl
 aK:=by
  intro o a z l j;obtain⟨E,rfl,-,A,B,C,rfl⟩:=id p;have u:=U (λs=>DP p l.n (w:=z.alloc s) λk y=>(j.i.cU s).e8 (q k y));clear q;have G:=aE (j.i.ob (fm (F:=o) (i:=0) rfl));have H:=ay (j.i.ob (fm (F:=o) (i:=0) rfl));show Calls prog _ #[.agg (ez l).toArray,Zp h] ..;go_in;go_wp21;refine(u.i _).mono ?_;rintro D I ⟨rfl,x⟩;have t:=U ((j.i.cU _).az x);go_wp2;go_ret;exact⟨rfl,t⟩
def VU(k:Int)(j:Bool)(h:Nat):yy b c (.obj h (.cells #[Y k,.bool j] 375)::F) f v d e g (λl=>gY k j l.s.length) (λ_=>.obj h (.cells #[Y k,.bool j] 375)::F) 409 #[Zp h] where
 d2:=λ_ _=>by kernel_rfl
 aK:=by
  intro n a u l m;have r:=aE (m.i.ob (fm (F:=n) (i:=0) rfl));have t:=ay (m.i.ob (fm (F:=n) (i:=0) rfl));show Calls prog _ #[.agg (ez l).toArray,Zp h] ..;go_in;go_wp21;refine(Ie k j l.s.length _).mono ?_;rintro q w ⟨rfl,p⟩;have o:=U ((m.i.cU _).az p);go_wp2;go_ret;exact⟨rfl,o⟩
def VS(k:Int)(j:Bool)(h:Nat):yy b c (.obj h (.cells #[Y k,.bool j] 375)::F) f v d e g (λl=>gY k j l.am) (λ_=>.obj h (.cells #[Y k,.bool j] 375)::F) 406 #[Zp h] where
 d2:=λ_ _=>by kernel_rfl
 aK:=by
  intro n a t l m;have r:=aE (m.i.ob (fm (F:=n) (i:=0) rfl));have s:=ay (m.i.ob (fm (F:=n) (i:=0) rfl));show Calls prog _ #[.agg (ez l).toArray,Zp h] ..;go_in;go_wp21;refine(Ie k j l.am _).mono ?_;rintro q u ⟨rfl,p⟩;have o:=U ((m.i.cU _).az p);go_wp2;go_ret;exact⟨rfl,o⟩
end
end
def wF(c:dI)(e:List (Int×Nat×Nat))(d:Option (Nat×Nat))(b:Int):Array Zv:=match ep c e d b with
 |some a=>#[.int .i64 a.1,.int .i64 a.2]
 |none=>#[.int .i64 0,.int .i64 0]
def VR{N:Zw}{O}{F:List Th}{a3 v P R a4 r y f}{A:Nat}{d t c}(z:iN r y f)(J:(A,kL d)∈r)(s:pV r t c)(a2:(d.map (·.1)).Nodup)(K:∀p∈r,N.heap[p.1]?=some p.2)(b e:Nat)(G:Th):yy N O (.obj e (.cells #[Y 0,Y 0] 394)::G::.obj b (.cells (y++[.map (some A),t]).toArray 392)::F) a3 v P R a4 (nF λo=>(ep f d c o).map (·.2)) (λa=>.obj e (.cells (wF f d c a.n) 394)::G::.obj b (.cells (y++[.map (some A),t]).toArray 392)::F) 403 #[Zp b,Zp e] where
 d2:=λ_ _=>by kernel_rfl
 aK:=by
  intro l b2 B a g;obtain⟨b8,rfl,b4,a6,a7,a8,rfl⟩:=id z;obtain⟨M,rfl⟩:∃M,t=.pointer M:=by
   cases c with
   |none=>exact⟨_,s⟩
   |some j=>obtain⟨b,S,_⟩:=s;exact⟨_,S⟩
  have j:=aE (g.i.ob (fm (F:=l) (i:=2) rfl));have b9:=ay (g.i.ob (fm (F:=l) (i:=2) rfl));have b7:=ay (g.i.ob (fm (F:=l) (i:=0) rfl));have H:=U λL=>JM z J s a2 a.n (w:=B.alloc L) λp a0=>(g.i.cU L).e8 (K p a0);have D:=U (g.i.A (.cells (ez a).toArray 87));clear g K z J s;show Calls prog _ #[.agg (ez a).toArray,Zp b,Zp e] ..;go_in;go_wp21;refine(H.i _).mono ?_;rintro b3 a5 ⟨rfl,I⟩;have n:=D.i.az I;have c0:=aE (n.ob (i:=0) rfl);have c1:=ay (n.ob (i:=0) rfl);have q:=n.au.ob (fm (F:=l) (i:=0) rfl);have b0:=bl q;have b1:=ay q;have a9:=aE q;have b5:B.heap.size≠e:=Zm;have b6:e≠B.heap.size:=Zm;have C:=λk b=>ww (k':=k) (t':=b) q;have c2:=λk b=>aE (C k b);have E:=U λk b=>kR (F:=l)▸n.au.b6 (a':=.obj e (.cells #[k,b] 394)) (fm (F:=l) (i:=0) rfl) ⟨((ar [e] a5).a6 (p:=⟨e,0,none⟩) Zq k).a6 (p:=⟨e,1,none⟩) Zq b,by simp[Th.aH],C k b,λ_ g=>Y8 g⟩;clear H D I n q C;cases h:ep f d c a.n with
  |none=>
   have m:iK f d c a.n=.agg #[Y 0,Y 0]:=by simp[iK,h]
   have u:af (wF f d c a.n=#[Y 0,Y 0]):=by show _=_;simp[wF,h]
   have x:af (nF (λo=>(ep f d c o).map (·.2)) a=false):=by show _=_;simp[nF,h]
   rw[m];simp only[Option.isSome_none];clear m h;go_wp2;go_ret;exact⟨by rw[x.i];rfl,by rw[u.i];exact E.i ..⟩
  |some j=>
   have m:iK f d c a.n=.agg #[Y j.1,Y j.2]:=by simp[iK,h]
   have u:af (wF f d c a.n=#[Y j.1,Y j.2]):=by show _=_;simp[wF,h]
   have x:af (nF (λo=>(ep f d c o).map (·.2)) a=(a.am==(j.2:Int))):=by
    show _=_;simp[nF,h];by_cases a1:a.am=(j.2:Int)<;>simp[a1]
   rw[m];simp only[Option.isSome_some];clear m h;go_wp2;go_ret;exact⟨by rw[x.i];rfl,by rw[u.i];exact E.i ..⟩
section
theorem tz{v d e c}{a:cw}{b}(f:hh v d e c a=.ok b):1<=b.2.O/\b.1.w=e/\c b.1=true:=by
 grind [hh]
def Qa{b i}{a e:cw}{f:Unit}(d:cp (kM b i a)=.ok (f,e)):e.O=a.O:=by
 obtain⟨_,d,h⟩:=bZ d;cases h
 obtain⟨j,c,g⟩:=bZ d;unfold mo at c;split at c
 .cases c
 .cases c
  cases g
  rfl
def PG{e c:Type}{a:Except Mar.ac c}{b:c->Except Mar.ac e}:cp (aA a b)=aA (cp a) λd=>cp (b d.2):=by cases a<;>rfl
def Dp{b:Type}{a:Except Mar.ac b}:a=aA a Except.ok:=by cases a<;>rfl
section
variable {e g : Zw} {f : Nat} {h : List Th} {j : Zv} {v : List dW} {c d b : Nat} {a : cw}
def QJ(i:Nat)(s:i<1000000)(l:af (Gm (eP e f j v c d b a) e h g)):Calls prog 329 #[Zp f,Y i] g (gx e (eP e f j v c d b) h (cp ((ft v c d b).cY i a)) λ_=>.tuple #[]):=by
 obtain⟨ad,p,o,q,r,-⟩:=Bo l.i;by_cases m:c<=i
 .have k:af (cp ((ft v c d b).cY i a)=.error ⟨13,a.O⟩):=by show _=_;simp[ft,m,aA,cp]
  have n:(c:Int)<=(i:Int):=Zm;go_in;go_wp2_with (go_at_call 70;refine(fp _ _ _).mono ?_;rintro a t ⟨rfl,rfl⟩);exact bM (tD l.i k)
 .have k:af (cp ((ft v c d b).cY i a)=.ok ((),a)):=by show _=_;simp[ft,m,aA,cp]
  have n:(i:Int)<(c:Int):=Zm;go_in;go_wp2;go_end0;exact Y8 ⟨(),a,k.i,rfl,l.i⟩
def QL{C t o}(w:iN C t o)(E:∀l∈C,e.heap[l.1]?=some l.2)(z:af (Gm (eP e f j v c d b a) e h g)):Calls prog 400 #[Zp f,.agg t.toArray] g (gx e (eP e f j v c d b) h (cp ((ft v c d b).num o a)) λ_=>.tuple #[]):=by
 have O:=jT;have B:=U (Br 1 (VT w E g.heap.size) (U (z.i.A (.cells t.toArray 247))));obtain⟨P,rfl,N,K,L,M,rfl⟩:=id w;have k:af (cp ((ft v c d b).num o a)=aA (hh v d 1 (λm=>o.br m.n) a) λl=>cp (aA (if o.bD then kM b (l.1.n / 4294967296) l.2 else .ok l.2) λa=>kM b l.1.n a)):=qR
 clear z E w;go_in;go_wp21;refine Dk k B.i λm D S p y A=>?_;have x:=(tz p.i).1;have n:=U (A.i.A (.cells (ez m).toArray 87));have F:=aE (n.i.ob (i:=1) rfl);have R:=ay (n.i.ob (i:=1) rfl);clear p B A;cases q:o.bD with
 |true=>
  simp only[q]at F;have k:af (_=aA (cp (kM b (m.n / 4294967296) D)) λl=>cp (kM b m.n l.2)):=y.i.trans (by rw[q];exact PG);go_wp21;refine gw k (xm (m.n / 4294967296) x n) λ_ G a0 p k r=>?_;have I:=aE (r.i.ob (i:=0) rfl);have H:1<=G.O:=by rw[Qa p.i];exact x
  clear p n;go_wp21;refine gw (U (k.i.trans Dp)) (xm m.n H r) λ_ u J _ k s=>?_;clear r;go_wp2;go_end0;exact Y8 ⟨(),u,k.i,rfl,s.i.au.au⟩
 |false=>
  simp only[q]at F;have k:af (_=cp (kM b m.n D)):=y.i.trans (by rw[q];rfl);have I:=aE (n.i.ob (i:=0) rfl);go_wp21;refine gw (U (k.i.trans Dp)) (xm m.n x n) λ_ u J _ k s=>?_;clear n;go_wp2;go_end0;exact Y8 ⟨(),u,k.i,rfl,s.i.au.au⟩
end
end
section
def JR{d:Int}{a}{c:Int}(e:d<=4294967295)(b:gY d a c=true):c<=4294967295:=by
 unfold gY at b;cases a<;>simp at b<;>omega
def Sh{d:Int}{a}{c:Int}(e:0<=d)(b:gY d a c=true):0<=c:=by
 unfold gY at b;cases a<;>simp at b<;>omega
section
variable {d f : Zw} {g : Nat} {h : List Th} {k : Zv} {v : List dW} {e c b : Nat} {a : cw}
def QM(l:Int)(j:Bool)(I:0<=l)(D:l<=4294967295)(y:af (Gm (eP d g k v e c b a) d h f)):Calls prog 401 #[Zp g,.agg #[Y l,.bool j]] f (gx d (eP d g k v e c b) h (cp ((ft v e c b).text l j a)) λ_=>.tuple #[]):=by
 have J:=jT;have A:=U (Br 2 (VU l j f.heap.size) (U (y.i.A (.cells #[Y l,.bool j] 375))));have m:af (cp ((ft v e c b).text l j a)=aA (hh v c 2 (λo=>gY l j o.s.length) a) λq=>cp (aA (if j then .ok q.2 else kM b q.1.s.length q.2) λa=>wm b q.1.s a)):=qR
 clear y;go_in;go_wp21;refine Dk m A.i λo H M p r z=>?_;have x:=(tz p.i).1;have B:o.s.length<=4294967295:=by have:=JR D (tz p.i).2.2;simp only at this;omega
 have n:=U (z.i.A (.cells (ez o).toArray 87));have K:=aE (n.i.ob (i:=1) rfl);have L:=ay (n.i.ob (i:=1) rfl);clear p A z;cases j with
 |true=>
  have F:=aE (n.i.ob (i:=0) rfl);go_wp21;refine gw (U (r.i.trans Dp)) (Ld o.s B x n) λ_ w G _ m u=>?_;clear n;go_wp2;go_end0;exact Y8 ⟨(),w,m.i,rfl,u.i.au.au⟩
 |false=>
  go_wp21;refine gw (U (r.i.trans PG)) (xm o.s.length x n) λ_ C N p m t=>?_;have F:=aE (t.i.ob (i:=0) rfl);have E:1<=C.O:=by rw[Qa p.i];exact x
  clear p n r;go_wp21;refine gw (U (m.i.trans Dp)) (Ld o.s B E t) λ_ w G _ m u=>?_;clear t;go_wp2;go_end0;exact Y8 ⟨(),w,m.i,rfl,u.i.au.au⟩
def QK(l:Int)(j:Bool)(B:0<=l)(E:l<=4294967295)(u:af (Gm (eP d g k v e c b a) d h f)):Calls prog 399 #[Zp g,.agg #[Y l,.bool j]] f (gx d (eP d g k v e c b) h ((ft v e c b).bH l j a) λp=>Y p):=by
 have F:=jT;have y:=U (Br 3 (VS l j f.heap.size) (U (u.i.A (.cells #[Y l,.bool j] 375))));have r:af ((ft v e c b).bH l j a=aA (hh v c 3 (λm=>gY l j m.am) a) λq=>aA (if j then .ok q.2 else kM b q.1.am q.2) λa=>.ok (q.1.am.toNat,a)):=rfl
 clear u;go_in;go_wp21;refine Dk r y.i λm z I o s w=>?_;have C:=(tz o.i).1;have t:af (((m.am.toNat:Nat):Int)=m.am):=Int.toNat_of_nonneg (Sh B (tz o.i).2.2);have n:=U (w.i.A (.cells (ez m).toArray 87));have G:=aE (n.i.ob (i:=1) rfl);have H:=ay (n.i.ob (i:=1) rfl);clear o y w;cases j with
 |true=>
  have D:=aE (n.i.ob (i:=0) rfl);go_wp2;go_ret;exact Y8 ⟨m.am.toNat,z,s.i,Yo (λp=>Ending.returned (Y p)) t.i.symm,n.i.au.au⟩
 |false=>
  go_wp21;refine gw (U (s.i.trans sf)) (xm m.am C n) λ_ A J o r x=>?_;have D:=aE (x.i.ob (i:=0) rfl);clear o n s;go_wp2;go_ret;exact Y8 ⟨m.am.toNat,A,r.i,Yo (λp=>Ending.returned (Y p)) t.i.symm,x.i.au.au⟩
def QI{w C m}{G:Nat}{o y n}(D:iN w C m)(L:(G,kL o)∈w)(x:pV w y n)(a2:(o.map (·.1)).Nodup)(M:∀q∈w,d.heap[q.1]?=some q.2)(J:af (Gm (eP d g k v e c b a) d h f)):Calls prog 398 #[Zp g,.agg (C++[.map (some G),y]).toArray] f (gx d (eP d g k v e c b) h ((ft v e c b).cg m (λu=>(ep m o n u).map (·.2)) a) (iK m o n)):=by
 have b0:=jT;have A:=((J.i.A (.cells (C++[.map (some G),y]).toArray 392)).A (.cells #[Y 0,Y 0] 394)).A (.cells #[Y 0,Y 0] 394);simp only[World.size_alloc]at A;have K:=U (Br 4 (VR D L x a2 M f.heap.size (f.heap.size+1+1) (.obj (f.heap.size+1) (.cells #[Y 0,Y 0] 394))) (U A));obtain⟨b1,rfl,a9,a4,a5,a6,rfl⟩:=id D;obtain⟨N,rfl⟩:∃N,y=.pointer N:=by
  cases n with
  |none=>exact⟨_,x⟩
  |some l=>obtain⟨a7,S,_⟩:=x;exact⟨_,S⟩
 have z:af ((ft v e c b).cg m (λu=>(ep m o n u).map (·.2)) a=aA (hh v c 4 (nF λu=>(ep m o n u).map (·.2)) a) λq=>aA (kM b q.1.n q.2) λa=>.ok (q.1.n,a)):=rfl;clear J M D L x A;go_in;go_wp21;refine Dk z K.i λr a8 b6 t H s=>?_;have a0:=(tz t.i).1;have E:=(tz t.i).2.2;obtain⟨l,F⟩:∃l,ep m o n r.n=some l:=by
  simp only[nF]at E;cases a1:ep m o n r.n with
  |none=>simp[a1]at E
  |some l=>exact⟨l,rfl⟩
 have O:af (iK m o n r.n=.agg #[Y l.1,Y l.2]):=by show _=_;simp[iK,F]
 have I:wF m o n r.n=#[Y l.1,Y l.2]:=by simp[wF,F]
 have s:=s.i;rw[I]at s;have B:=U (s.A (.cells (ez r).toArray 87));have b5:=aE (B.i.ob (i:=0) rfl);clear t K s E F I;go_wp21;refine gw (U (H.i.trans sf)) (xm r.n a0 B) λ_ R b7 t z p=>?_;have q:=aE (p.i.ob (i:=1) rfl);have b2:=aE (p.i.ob (i:=2) rfl);have b3:=bl (p.i.ob (i:=2) rfl);have b4:=ay (p.i.ob (i:=2) rfl);have a3:=aE (ww (k':=Y (l.1:Int)) (t':=Y (l.2:Int)) (p.i.ob (i:=2) rfl));have P:=U ((p.i.aq (i:=2) (j:=0) rfl (Y (l.1:Int))).aq (i:=2) (j:=1) rfl (Y (l.2:Int)));clear t p B H;go_wp2;exact bodyPost_ret (v:=.agg #[Y l.1,Y l.2]) (by simp[results,results398,go_sem,a3]) rfl (Y8 ⟨r.n,R,z.i,by rw[O.i],P.i.au.au.au.au⟩)
end
end
section
variable {bs:Zo}{dep fuel size:Nat}{w:Zw}
def UM{v}{b:Int}{f}{d e:cw}{c:Nat}(j:0<=b)(g:b<=4294967295)(a:(ft v dep fuel size).bH b f d=.ok (c,e)):c<=4294967295:=by
 obtain⟨k,h,a⟩:=bZ a;obtain⟨i,_,a⟩:=bZ a;cases a
 have:=JR g (tz h).2.2;omega
def UJ(hw:∀p∈bs,w.heap[p.1]?=some p.2)(D:Nat)(nsl:Zv)(v:List dW)(dep fuel size:Nat):mc cw w bs where
 W:=ft v dep fuel size
 T:=197
 D:=D
 P:=eP w D nsl v dep fuel size
 fE:=329
 fN:=400
 fT:=401
 fL:=399
 fA:=398
 mE:=λ_ _=>by kernel_rfl
 mN:=λ_ _=>by kernel_rfl
 mT:=λ_ _=>by kernel_rfl
 mL:=λ_ _=>by kernel_rfl
 mA:=λ_ _=>by kernel_rfl
 eE:=λ_ _=>by kernel_rfl
 eN:=λ_ _=>by kernel_rfl
 eT:=λ_ _=>by kernel_rfl
 eL:=λ_ _=>by kernel_rfl
 eA:=λ_ _=>by kernel_rfl
 cE:=λk hk h=>QJ k Zm h
 cN:=λhN h=>QL hN hw h
 cT:=QM
 cL:=QK
 cA:=λhN hm ho nd h=>QI hN hm ho nd hw h
 de:=UM
def UN{d}{a:Zb}(k:w.ownsRow 0 5 1 d a.length (a.map qh)):(convert 97 9 d).run prog w=.ok (Zs a) w:=by
 rcases k.2 with⟨rfl,f⟩|⟨b,e,l,rfl,m,g,n,o,p,h⟩
 .rw[Yv.1 f,run_convert_bytes_string w 97 9 5 none 0 0 underlying97 underlying5 underlying9];simp[Conv.bytesToString];rfl
 .refine run_convert_bytes_back w 97 9 5 ⟨b,0,none⟩ e a underlying97 underlying5 underlying9 λc j=>?_;have i:(⟨b,0,none⟩:Addr).add c=⟨b,c,none⟩:=by unfold Addr.add;split<;>simp_all
  rw[i];exact oK g (xs:=a.map qh) (by simpa using h) (by rw[List.getElem?_map,Yd j];rfl)
def Rg(w:Zw)(e:Except Mar.ac (Zb))(d:Ending)(b:Zw):Prop:=
 (∃c,e=.ok c/\d=.returned (Zs c)/\ap [] w b)\/(∃a,e=.error a/\ap [] w b/\eH w a.no a.y d b)
def QO{g v D a}{start I:Nat}{q}(z:qV bs v g)(C:∀c∈bs,w.heap[c.1]?=some c.2)(A:∀O∈g,mJ O)(J:fuel<=10000)(L:size<=100000)(m:mC w D a)(B:mZ (ft a dep fuel size) g I ⟨start,[],[]⟩ ⟨0,[]⟩=some q):Calls prog 60 #[v,Y start,D,.agg #[Y dep,Y fuel,Y size]] w (Rg w (aA q λb=>if b.O<a.length then .error ⟨12,b.O⟩else .ok b.i)):=by
 generalize x:(aA q λb=>if b.O<a.length then Except.error ⟨12,b.O⟩else .ok b.i)=t
 obtain⟨ad,h,rfl,a0,P,_⟩:=id m;have E:=U z;have r:=U C;have G:=U A;have H:=U B;have y:=U x;have s:af (∀p,Gm (eP w (w.heap.size+1) (.slice ad a.length h) a dep fuel size ⟨0,[]⟩) w [] ((w.alloc p).alloc (.cells #[.slice ad a.length h,Y 0,Y dep,Y fuel,Y size,.slice none 0 0] 199))):=λp=>by
  have u:=(((rk w).ae ((ar [] w).A p)).nil 5 1).A (.cells #[.slice ad a.length h,Y 0,Y dep,Y fuel,Y size,.slice none 0 0] 199);simp only[World.size_alloc]at u;exact⟨_,⟨.slice none 0 0,rfl,m,Zq,Zq,L,J⟩,u⟩
 clear z C A B x m;go_in;go_wp21;refine gw (K:=λc=>if c.2.O<a.length then Except.error ⟨12,c.2.O⟩else .ok c.2.i) (U (y.i.symm.trans sf)) (IW (Z:=UJ r.i (w.heap.size+1) (.slice ad a.length h) a dep fuel size) (F:=[]) (d:=⟨0,[]⟩) E.i r.i G.i (s.i _) H.i) λ_ e a3 N f l=>?_
 have k:=U l.i.kp;obtain⟨_,⟨a1,rfl,-,S,-⟩,o⟩:=l.i;have g:=aE (o.b0 (F:=[]) (i:=0) rfl);have R:=UN (o.b0 (F:=[]) (i:=1) rfl);clear l N s y o;by_cases n:e.O<a.length
 .have j:af (t=.error ⟨12,e.O⟩):=by show _=_;rw[f.i,Y9 n]
  have M:(e.O:Int)<(a.length:Int):=Zm;clear f;go_wp2_with (go_at_call 70;refine(fp _ _ _).mono ?_;rintro b a2 ⟨rfl,rfl⟩);exact bM (Ya ⟨_,j.i,k.i.A _,_,k.i.aG,rfl,be rfl⟩)
 .have j:af (t=.ok e.i):=by show _=_;rw[f.i,Y2 n]
  have M:(a.length:Int)<=(e.O:Int):=Zm;clear f n;go_wp2;go_ret;exact Y8 ⟨_,j.i,rfl,k.i⟩
end
def mC.ae{d e g v}(j:mC d g v)(o:ap [] d e):mC e g v:=by
 obtain⟨ad,h,k,l,m,n⟩:=j;refine⟨ad,h,k,l,m,λq x p=>?_⟩;obtain⟨b,w,i,⟨f,r,s,t,u⟩⟩:=n q x p;have a:∀c,e.cell? (Zd b c)=d.cell? (Zd b c):=λc=>World.cell?_of_block (o.ak b (iI f) Zq);exact⟨b,w,i,⟨(a _).trans f,(a _).trans r,(a _).trans s,(a _).trans t,(a _).trans u⟩⟩
def DH(d:Zw)(c:Except Nat Nat)(b:Except Mar.ac (Zb)):Ending->Zw->Prop:=AC d (.string ⟨#[]⟩) (λa v _=>v=Zs a) c b
end Go.Proofs.YtjdhaegijjednaaGreatDoor
namespace Go.Proofs.YtjdhaegijjednaaGreatDoor
open Go.RowKit Go.Extern.Stop Go.Stop Go.Extern
open Go.Proofs.Tryz
abbrev mU(a:Nat):Zv:=.pointer (some ⟨8,a,none⟩)
abbrev gr(c:Nat)(a:Addr)(b:Int):Zv:=.agg #[mU c,.pointer (some a),.int .u64 b]
abbrev uI(c:Nat)(a:Addr)(b:Int):Obj:=.cells #[mU c,.pointer (some a),.int .u64 b] 302
abbrev eS(a:Nat):Zv:=.iface 407 (.agg #[mU a])
def NV(b:Addr)(a:Zw):(ReflectliteValue.unpack (.iface 177 (.pointer (some b)))).run prog a=.ok (gr 177 ⟨a.heap.size,0,none⟩ 150) (a.alloc (.cells #[.pointer (some b)] 177)):=Zk
def NU (b : Addr) (a : World) : (ReflectliteValue.methodAny (ReflectliteValue.valueError "reflectlite.Value.Type" 0) (fun c _ _ _ => ReflectliteType.toType c) #[gr 177 b 150]).run Tryz.prog a = .ok (eS 177) a := by kernel_rfl
def GJ (c : Nat) (a : Value) (b : World) : (Go.method (c + 3) 407 (.agg #[a]) "Kind").run Tryz.prog b = .ok (321, a) b := by kernel_rfl
def GH (c : Nat) (a : Value) (b : World) : (Go.method (c + 3) 407 (.agg #[a]) "Elem").run Tryz.prog b = .ok (380, .agg #[a]) b := by kernel_rfl
def GI (c : Nat) (a : Value) (b : World) : (Go.method (c + 3) 407 (.agg #[a]) "Implements").run Tryz.prog b = .ok (381, .agg #[a]) b := by kernel_rfl
def GG (c : Nat) (a : Value) (b : World) : (Go.method (c + 3) 407 (.agg #[a]) "AssignableTo").run Tryz.prog b = .ok (378, .agg #[a]) b := by kernel_rfl
def NQ(a:Zw):((ReflectliteType.abiMethod λc=>(λb:Nat=>Value.int IntKind.u8 (b:Int)) <$> Rtype.kind c) #[mU 177]).run prog a=.ok (.int .u8 22) a:=Zk
def NP(a:Zw):((ReflectliteType.abiMethod λc=>(λb:Nat=>Value.int IntKind.u8 (b:Int)) <$> Rtype.kind c) #[mU 143]).run prog a=.ok (.int .u8 22) a:=Zk
def NR(a:Addr)(b:Zw):(ReflectliteValue.parts (gr 177 a 150)).run prog b=.ok (some (177,a,150)) b:=Zk
def NO(b d:Addr)(a:World)(c:a.cell? b=some (.pointer (some d))):(ReflectliteValue.method (ReflectliteValue.valueError "reflectlite.Value.IsNil" 0) ReflectliteValue.isNil #[gr 177 b 150]).run Tryz.prog a = .ok (.bool false) a := by
 change Sem.run prog (ReflectliteValue.parts (gr 177 b 150) >>= _) a=_;simp only[Sem.run_bind,NR,Result.andThen];simp[ReflectliteValue.isNil,loadVar,isAgg,underlying,underlying177,c,Result.andThen]
def NM(a:Zw):(ReflectliteType.method ReflectliteType.elem #[.agg #[mU 177]]).run prog a=.ok (eS 143) a:=Zk
def NN (a : World) : (ReflectliteType.relation "Implements" ReflectliteType.implements_ #[.agg #[mU 143], eS 55]).run Tryz.prog a = .ok (.bool true) a := by kernel_rfl
def adB(v:Zv)(a:Zw):(ReflectliteType.typeOf #[.iface 143 v]).run prog a=.ok (eS 143) a:=Zk
def adf (a : World) : (ReflectliteType.relation "AssignableTo" ReflectliteType.assignableTo #[.agg #[mU 143], eS 143]).run Tryz.prog a = .ok (.bool true) a := by kernel_rfl
def adD(b:Addr)(a:Zw):(ReflectliteValue.unpack (.iface 143 (.pointer (some b)))).run prog a=.ok (gr 143 ⟨a.heap.size,0,none⟩ 150) (a.alloc (.cells #[.pointer (some b)] 143)):=Zk
def adk(a:Zw):(Rtype.elem? 177).run prog a=.ok (some 143) a:=Zk
def adt(a:Addr)(b:Zw):(ReflectliteValue.mk 143 a ReflectliteValue.flagAddr).run prog b=.ok (gr 143 a 406) b:=Zk
def adn(b c:Addr)(a:World)(d:a.cell? b=some (.pointer (some c))):(ReflectliteValue.method (ReflectliteValue.valueError "reflectlite.Value.Elem" 0) ReflectliteValue.elem #[gr 177 b 150]).run Tryz.prog a = .ok (gr 143 c 406) a := by
 change Sem.run prog (ReflectliteValue.parts (gr 177 b 150) >>= _) a=_;simp only[Sem.run_bind,NR,Result.andThen];simp[ReflectliteValue.elem,loadVar,isAgg,underlying,underlying177,d,Result.andThen,adk,adt]
def adv(a:Addr)(b:Zw):(ReflectliteValue.parts (gr 143 a 406)).run prog b=.ok (some (143,a,406)) b:=Zk
def adx(a:Addr)(b:Zw):(ReflectliteValue.parts (gr 143 a 150)).run prog b=.ok (some (143,a,150)) b:=Zk
def adi(a:Zw):(Rtype.directlyAssignable 143 143).run prog a=.ok true a:=Zk
def adz(b c d:Addr)(f:Zv)(a:Zw)(e:a.cell? c=some (.pointer (some d)))(h:a.cell? b=some f)(g:a.frozen? b=false):(ReflectliteValue.set #[gr 143 b 406,gr 143 c 150]).run prog a=.ok (.tuple #[]) (a.setCell b (.pointer (some d))):=by
 change Sem.run prog (ReflectliteValue.parts (gr 143 b 406) >>= λ_=>ReflectliteValue.parts (gr 143 c 150) >>= _) a=_;simp only[Sem.run_bind,adv,adx,Result.andThen];simp[ReflectliteValue.flagAddr,loadVar,isAgg,underlying,underlying143,e,Result.andThen,adi,storeVar,Value.cells,storeCells,Addr.add];rw[run_store prog a b _ _ Zr];simp_all
def GF := And.intro (@run_callFunc_extern Tryz.prog 155 _ (fun args => ReflectliteValue.unpack (args.getD 0 (.tuple #[]))) Tryz.func155 (by kernel_rfl) (by kernel_rfl) (by kernel_rfl) (by kernel_rfl)) (And.intro (@run_callFunc_extern Tryz.prog 156 _ (ReflectliteValue.methodAny (ReflectliteValue.valueError "reflectlite.Value.Type" 0) (fun a _ _ _ => ReflectliteType.toType a)) Tryz.func156 (by kernel_rfl) (by kernel_rfl) (by kernel_rfl) (by kernel_rfl)) (And.intro (@run_callFunc_extern Tryz.prog 157 _ (ReflectliteValue.method (ReflectliteValue.valueError "reflectlite.Value.IsNil" 0) ReflectliteValue.isNil) Tryz.func157 (by kernel_rfl) (by kernel_rfl) (by kernel_rfl) (by kernel_rfl)) (And.intro (@run_callFunc_extern Tryz.prog 321 _ (ReflectliteType.abiMethod fun a => do pure (.int .u8 (← Rtype.kind a))) Tryz.func321 (by kernel_rfl) (by kernel_rfl) (by kernel_rfl) (by kernel_rfl)) (And.intro (@run_callFunc_extern Tryz.prog 380 _ (ReflectliteType.method ReflectliteType.elem) Tryz.func380 (by kernel_rfl) (by kernel_rfl) (by kernel_rfl) (by kernel_rfl)) (And.intro (@run_callFunc_extern Tryz.prog 381 _ (ReflectliteType.relation "Implements" ReflectliteType.implements_) Tryz.func381 (by kernel_rfl) (by kernel_rfl) (by kernel_rfl) (by kernel_rfl)) (And.intro (@run_callFunc_extern Tryz.prog 219 _ ReflectliteType.typeOf Tryz.func219 (by kernel_rfl) (by kernel_rfl) (by kernel_rfl) (by kernel_rfl)) (And.intro (@run_callFunc_extern Tryz.prog 378 _ (ReflectliteType.relation "AssignableTo" ReflectliteType.assignableTo) Tryz.func378 (by kernel_rfl) (by kernel_rfl) (by kernel_rfl) (by kernel_rfl)) (And.intro (@run_callFunc_extern Tryz.prog 220 _ (ReflectliteValue.method (ReflectliteValue.valueError "reflectlite.Value.Elem" 0) ReflectliteValue.elem) Tryz.func220 (by kernel_rfl) (by kernel_rfl) (by kernel_rfl) (by kernel_rfl)) (@run_callFunc_extern Tryz.prog 221 _ ReflectliteValue.set Tryz.func221 (by kernel_rfl) (by kernel_rfl) (by kernel_rfl) (by kernel_rfl))))))))))
def adF(b:Addr)(a:Zw):(ReflectliteValue.unpack (.iface 180 (.pointer (some b)))).run prog a=.ok (gr 180 ⟨a.heap.size,0,none⟩ 150) (a.alloc (.cells #[.pointer (some b)] 180)):=Zk
def adC (b : Addr) (a : World) : (ReflectliteValue.methodAny (ReflectliteValue.valueError "reflectlite.Value.Type" 0) (fun c _ _ _ => ReflectliteType.toType c) #[gr 180 b 150]).run Tryz.prog a = .ok (eS 180) a := by kernel_rfl
def ads(a:Zw):((ReflectliteType.abiMethod λc=>(λb:Nat=>Value.int IntKind.u8 (b:Int)) <$> Rtype.kind c) #[mU 180]).run prog a=.ok (.int .u8 22) a:=Zk
def adr(a:Zw):((ReflectliteType.abiMethod λc=>(λb:Nat=>Value.int IntKind.u8 (b:Int)) <$> Rtype.kind c) #[mU 122]).run prog a=.ok (.int .u8 2) a:=Zk
def NS(a:Addr)(b:Zw):(ReflectliteValue.parts (gr 180 a 150)).run prog b=.ok (some (180,a,150)) b:=Zk
def adq(b c:Addr)(a:World)(d:a.cell? b=some (.pointer (some c))):(ReflectliteValue.method (ReflectliteValue.valueError "reflectlite.Value.IsNil" 0) ReflectliteValue.isNil #[gr 180 b 150]).run Tryz.prog a = .ok (.bool false) a := by
 change Sem.run prog (ReflectliteValue.parts (gr 180 b 150) >>= _) a=_;simp only[Sem.run_bind,NS,Result.andThen];simp_all[ReflectliteValue.isNil,loadVar]
def adm(a:Zw):(ReflectliteType.method ReflectliteType.elem #[.agg #[mU 180]]).run prog a=.ok (eS 122) a:=Zk
def adp (a : World) : (ReflectliteType.relation "Implements" ReflectliteType.implements_ #[.agg #[mU 122], eS 55]).run Tryz.prog a = .ok (.bool true) a := by kernel_rfl
def NT(v:Zv)(a:Zw):(ReflectliteType.typeOf #[.iface 122 v]).run prog a=.ok (eS 122) a:=Zk
def adg (a : World) : (ReflectliteType.relation "AssignableTo" ReflectliteType.assignableTo #[.agg #[mU 122], eS 122]).run Tryz.prog a = .ok (.bool true) a := by kernel_rfl
def adE(b:Int)(a:Zw):(ReflectliteValue.unpack (.iface 122 (Y b))).run prog a=.ok (gr 122 ⟨a.heap.size,0,none⟩ 130) (a.alloc (.cells #[Y b] 122)):=Zk
def adl(a:Zw):(Rtype.elem? 180).run prog a=.ok (some 122) a:=Zk
def adu(a:Addr)(b:Zw):(ReflectliteValue.mk 122 a ReflectliteValue.flagAddr).run prog b=.ok (gr 122 a 386) b:=Zk
def ado(b c:Addr)(a:World)(d:a.cell? b=some (.pointer (some c))):(ReflectliteValue.method (ReflectliteValue.valueError "reflectlite.Value.Elem" 0) ReflectliteValue.elem #[gr 180 b 150]).run Tryz.prog a = .ok (gr 122 c 386) a := by
 change Sem.run prog (ReflectliteValue.parts (gr 180 b 150) >>= _) a=_;simp only[Sem.run_bind,NS,Result.andThen];simp[ReflectliteValue.elem,loadVar,isAgg,underlying,underlying180,d,Result.andThen,adl,adu]
def adw(a:Addr)(b:Zw):(ReflectliteValue.parts (gr 122 a 386)).run prog b=.ok (some (122,a,386)) b:=Zk
def ady(a:Addr)(b:Zw):(ReflectliteValue.parts (gr 122 a 130)).run prog b=.ok (some (122,a,130)) b:=Zk
def adj(a:Zw):(Rtype.directlyAssignable 122 122).run prog a=.ok true a:=Zk
def adA(b c:Addr)(d:Int)(f:Zv)(a:Zw)(e:a.cell? c=some (Y d))(h:a.cell? b=some f)(g:a.frozen? b=false):(ReflectliteValue.set #[gr 122 b 386,gr 122 c 130]).run prog a=.ok (.tuple #[]) (a.setCell b (Y d)):=by
 change Sem.run prog (ReflectliteValue.parts (gr 122 b 386) >>= λ_=>ReflectliteValue.parts (gr 122 c 130) >>= _) a=_;simp only[Sem.run_bind,adw,ady,Result.andThen];simp[ReflectliteValue.flagAddr,loadVar,isAgg,underlying,underlying122,e,Result.andThen,adj,storeVar,Value.cells,storeCells,Addr.add];rw[run_store prog a b _ _ Zr];simp_all
def adh (a : World) : (ReflectliteType.relation "AssignableTo" ReflectliteType.assignableTo #[.agg #[mU 122], eS 143]).run Tryz.prog a = .ok (.bool false) a := by kernel_rfl
abbrev vC(a:Zw)(b:Addr):Zw:=(a.alloc (.cells #[.pointer (some b)] 177)).alloc (uI 177 ⟨a.heap.size,0,none⟩ 150)
def SE(d a:Addr)(h:Zv)(b:Zw)(e:b.cell? (Zd 1 0)=some (eS 55))(f:b.cell? a=some h)(j:b.frozen? a=false):Calls prog 92 #[.iface 143 (.pointer (some d)),.iface 177 (.pointer (some a))] b λi l=>i=.returned (.bool true)/\
   l=(((vC b a).alloc (uI 177 ⟨b.heap.size,0,none⟩ 150)).alloc (.cells #[.pointer (some d)] 143)).setCell a (.pointer (some d)):=by
 obtain⟨D,F,G,H,I,J,K,L,M,E⟩:=GF;have z:=adB;have t:=GG;have m:=adf;have B:=adD;have C:=NV;have A:=NU;have w:=GJ;have u:=GH;have v:=GI;have s:=NQ;have r:=NP;have n:=NM;have q:=NN;have x:=NO ⟨b.heap.size,0,none⟩ a (vC b a) Zq;have k:1<b.heap.size:=by
  rcases Yj 1 b.heap.size with c|c
  .exact c
  .simp[World.cell?,YO c]at e
 have p:(vC b a).cell? (Zd 1 0)=some (eS 55):=by
  rw[World.cell?_alloc_lt _ _ ⟨1,0,none⟩ Zx,World.cell?_alloc_lt _ _ ⟨1,0,none⟩ k];exact e
 have g:a.block<b.heap.size:=by
  rcases Yj a.block b.heap.size with c|c
  .exact c
  .simp[World.cell?,YO c]at f
 have o:=adn ⟨b.heap.size,0,none⟩ a ((vC b a).alloc (uI 177 ⟨b.heap.size,0,none⟩ 150)) (by rw[World.cell?_alloc_lt _ _ ⟨b.heap.size,0,none⟩ Zx];simp);have y:=adz a ⟨b.heap.size+1+1+1,0,none⟩ d h (((vC b a).alloc (uI 177 ⟨b.heap.size,0,none⟩ 150)).alloc (.cells #[.pointer (some d)] 143))
  (by rw[World.cell?_alloc_at _ _ _ _ Zq];rfl)
  (by rw[World.cell?_alloc_lt _ _ a Zx,World.cell?_alloc_lt _ _ a Zx,World.cell?_alloc_lt _ _ a Zx,World.cell?_alloc_lt _ _ a g];exact f)
  (by rw[World.frozen?_alloc_old _ _ a Zx,World.frozen?_alloc_old _ _ a Zx,World.frozen?_alloc_old _ _ a Zx,World.frozen?_alloc_old _ _ a (Nat.ne_of_lt g)];exact j)
 go_in;go_wp2;refine wp_loop_rounds 1 ?_;rw[rounds_succ];go_wp2;go_ret;exact⟨rfl,rfl⟩
end Go.Proofs.YtjdhaegijjednaaGreatDoor
namespace Go.Proofs.YtjdhaegijjednaaGreatDoor
open Go.RowKit Go.MapKept Go.Proofs.Tryz
def RZ{a:Zw}(p:a.cell? (Zd 1 0)=some (eS 55)){b:Nat}{m f}(c:a.heap[b]?=some (.cells #[Y m,Y f] 179)):Calls prog 52 #[.iface 143 (Zp b)] a λg r=>g=.returned (.tuple #[Y m,Y f])/\ap [] a r:=by
 have v:1<a.heap.size:=by
  grind [World.cell?]
 have q:=ay c;have j:(a.alloc (.cells #[.pointer none] 143)).cell? (Zd 1 0)=some (eS 55):=by grind [World.cell?_alloc_lt]
 have l:(a.alloc (.cells #[.pointer none] 143)).cell? (Zd a.heap.size 0)=some (.pointer none):=Zq;have h:(a.alloc (.cells #[.pointer none] 143)).frozen? ⟨a.heap.size,0,none⟩=false:=Zq;have e:=U (SE ⟨b,0,none⟩ ⟨a.heap.size,0,none⟩ (.pointer none) _ j l h);clear j l h p;go_in;go_wp21;refine e.i.mono ?_;rintro g n ⟨rfl,d⟩;have k:ap [] a n:=by
  rw[d];exact(((((ar [] a).A _).A _).A _).A _ |>.A _).c0 (Y4 _) _
 have s:n.cell? (Zd a.heap.size 0)=some (Zp b):=by
  rw[d];refine jQ (ci (i:=0) (cs:=#[.pointer none]) (T:=143) ?_ _);exact(((((ar [] (a.alloc (.cells #[.pointer none] 143))).A _).A _).A _ |>.A _).ak a.heap.size Zq Zq).trans (be rfl)
 have o:=(k.ak b q Zq).trans c;obtain⟨t,u,_⟩:=ow o;clear d e c;go_wp21;go_region;go_wp2;go_ret2;exact⟨rfl,k.ag⟩
def RJ{k:Za}{f}(D:eW k=.error f){a}(B:Gl a):Calls prog 25 #[.string k] a λd r=>ap [] a r/\∃m,d=.returned (.tuple #[.pointer none,.iface 143 (Zp m)])/\r.heap[m]?=some (.cells #[Y f.no,Y f.y] 179):=by
 have L:=jT;have n:Below a.heap.size a ((a.alloc (.cells #[.pointer none] 53)).alloc (.cells #[.nilIface] 55)):=((Below.refl _ _).alloc (Y4 _) _).alloc Zq _;have t:=U (JJ k (B.az n));have l:=U D;have o:((a.alloc (.cells #[.pointer none] 53)).alloc (.cells #[.nilIface] 55)).heap[a.heap.size]?=some (.cells #[.pointer none] 53):=(Below.heap_alloc _ _ _ Zq).trans (be rfl);have q:((a.alloc (.cells #[.pointer none] 53)).alloc (.cells #[.nilIface] 55)).heap[a.heap.size+1]?=some (.cells #[.nilIface] 55):=be Zq;have s:=U n;go_enter_defers func25,ntmps25;go_wp21;refine t.i.mono ?_;rintro d c (⟨J,N,M,I,g,_⟩|⟨u,g,e,b,y,rfl,z⟩)
 .exact absurd (l.i.symm.trans g) Zq
 have A:u=f:=by have x:=l.i.symm.trans g;cases x;rfl
 subst A;have h:=(e.ak _ (ay o) Zq).trans o;have j:=(e.ak _ (ay q) Zq).trans q;have v:c.frozen? ⟨a.heap.size,0,none⟩=false:=by simp[World.frozen?,h]
 have w:c.frozen? ⟨a.heap.size+1,0,none⟩=false:=by simp[World.frozen?,j]
 have C:=(ef [] s.i).u e;refine leaves_cons (f:=42) (args:=#[Zp a.heap.size,.pointer (some ⟨a.heap.size+1,0,none⟩)]) Zq (by simp[go_sem]) ?_;refine(Kl (.inl ⟨rfl,rfl⟩) _ _ b _ _ [] c (jQ h) (jQ j) v w Zq).mono ?_;rintro d O P ⟨rfl,rfl,rfl⟩;have E:=ci (i:=0) h (.pointer none);have F:(c.setCell ⟨a.heap.size,0,none⟩ (.pointer none)).heap[a.heap.size+1]?=_:=(Below.heap_setCell _ _ _ _ Zq).trans j;have G:=jQ ((Below.heap_setCell _ ⟨a.heap.size+1,0,none⟩ (.iface 143 (Zp b)) _ Zq).trans E)
 have H:=jQ (ci (i:=0) F (.iface 143 (Zp b)))
 simp only[Leaves,settle,List.dropWhile_nil];refine⟨.tuple #[.pointer none,.iface 143 (Zp b)],by simp[results,results25,go_sem,G,H],?_⟩
 refine⟨(C.c0 (p:=⟨a.heap.size,0,none⟩) Zq _).c0 (p:=⟨a.heap.size+1,0,none⟩) Zq _,b,rfl,?_⟩;have K:a.heap.size+2<=b:=by simpa using y
 exact(Below.heap_setCell _ _ _ _ Zx).trans ((Below.heap_setCell _ _ _ _ Zx).trans z)
def Sa(a:Zw):Calls prog 52 #[.nilIface] a λb c=>b=.returned (.tuple #[Y 0,Y 0])/\c=a:=by
 go_in;go_wp2;go_ret2;simp
def Gf(a:Int)(b:Zw):Calls prog 53 #[Y a] b λc d=>c=.returned (Y a)/\d=b:=by
 go_in;go_wp2;go_ret;simp
def HB(d:Int)(b:Zw):Calls prog 27 #[.nilIface,Y 0,Y d] b λa e=>a=.returned (.bool true)/\ap [] b e:=by
 have c:=U (Sa b);go_in;go_wp21;refine c.i.mono ?_;rintro a f ⟨rfl,rfl⟩;go_wp21;refine(Gf 0 _).mono ?_;rintro a g ⟨rfl,rfl⟩;go_wp2;go_ret;simp_all[ar]
def HA{b:Zw}(h:b.cell? (Zd 1 0)=some (eS 55)){e:Nat}{a d}(g:b.heap[e]?=some (.cells #[Y a,Y d] 179))(j:a≠0):Calls prog 27 #[.iface 143 (Zp e),Y a,Y d] b λc i=>c=.returned (.bool true)/\ap [] b i:=by
 have f:=U (RZ h g);have k:(a==0)=false:=Zu;go_in;go_wp21;refine f.i.mono ?_;rintro c m ⟨rfl,l⟩;go_wp21;refine(Gf a _).mono ?_;rintro c n ⟨rfl,rfl⟩;go_wp2;go_ret;simp_all
end Go.Proofs.YtjdhaegijjednaaGreatDoor
namespace Go.Proofs.YtjdhaegijjednaaGreatDoor
open Go.RowKit Go.Extern.Stop Go.Stop Go.Extern
open Go.Proofs.Tryz
abbrev yS(a:Zw)(b:Addr):Zw:=(a.alloc (.cells #[.pointer (some b)] 180)).alloc (uI 180 ⟨a.heap.size,0,none⟩ 150)
def SF(d:Int)(a:Addr)(h:Zv)(b:Zw)(e:b.cell? (Zd 1 0)=some (eS 55))(f:b.cell? a=some h)(j:b.frozen? a=false):Calls prog 92 #[.iface 122 (Y d),.iface 180 (.pointer (some a))] b λi l=>i=.returned (.bool true)/\
   l=(((yS b a).alloc (uI 180 ⟨b.heap.size,0,none⟩ 150)).alloc (.cells #[Y d] 122)).setCell a (Y d):=by
 obtain⟨D,F,G,H,I,J,K,L,M,E⟩:=GF;have z:=NT;have t:=GG;have m:=adg;have B:=adE;have C:=adF;have A:=adC;have w:=GJ;have u:=GH;have v:=GI;have s:=ads;have r:=adr;have n:=adm;have q:=adp;have x:=adq ⟨b.heap.size,0,none⟩ a (yS b a) Zq;have k:1<b.heap.size:=by
  rcases Yj 1 b.heap.size with c|c
  .exact c
  .simp[World.cell?,YO c]at e
 have p:(yS b a).cell? (Zd 1 0)=some (eS 55):=by
  rw[World.cell?_alloc_lt _ _ ⟨1,0,none⟩ Zx,World.cell?_alloc_lt _ _ ⟨1,0,none⟩ k];exact e
 have g:a.block<b.heap.size:=by
  rcases Yj a.block b.heap.size with c|c
  .exact c
  .simp[World.cell?,YO c]at f
 have o:=ado ⟨b.heap.size,0,none⟩ a ((yS b a).alloc (uI 180 ⟨b.heap.size,0,none⟩ 150)) (by rw[World.cell?_alloc_lt _ _ ⟨b.heap.size,0,none⟩ Zx];simp);have y:=adA a ⟨b.heap.size+1+1+1,0,none⟩ d h (((yS b a).alloc (uI 180 ⟨b.heap.size,0,none⟩ 150)).alloc (.cells #[Y d] 122))
  (by rw[World.cell?_alloc_at _ _ _ _ Zq];rfl)
  (by rw[World.cell?_alloc_lt _ _ a Zx,World.cell?_alloc_lt _ _ a Zx,World.cell?_alloc_lt _ _ a Zx,World.cell?_alloc_lt _ _ a g];exact f)
  (by rw[World.frozen?_alloc_old _ _ a Zx,World.frozen?_alloc_old _ _ a Zx,World.frozen?_alloc_old _ _ a Zx,World.frozen?_alloc_old _ _ a (Nat.ne_of_lt g)];exact j)
 go_in;go_wp2;refine wp_loop_rounds 1 ?_;rw[rounds_succ];go_wp2;go_ret;exact⟨rfl,rfl⟩
def af5(b:Int)(a:Zw):(Instr.typeAssert (.iface 122 (Y b)) 55 412 true).run prog a=.ok (.tuple #[.nilIface,.bool false]) a:=run_typeAssert_lacksB underlying412 Zk Zk _ _ a
def agb(b:Int)(a:Zw):(Instr.typeAssert (.iface 122 (Y b)) 55 415 true).run prog a=.ok (.tuple #[.nilIface,.bool false]) a:=run_typeAssert_lacksB underlying415 Zk Zk _ _ a
def agc(b:Int)(a:Zw):(Instr.typeAssert (.iface 122 (Y b)) 55 417 true).run prog a=.ok (.tuple #[.nilIface,.bool false]) a:=run_typeAssert_lacksB underlying417 Zk Zk _ _ a
def SG(e:Int)(c:Addr)(i:Zv)(a:Zw)(d:a.cell? (Zd 1 0)=some (eS 55))(h:a.cell? c=some i):Calls prog 92 #[.iface 122 (Y e),.iface 177 (.pointer (some c))] a λf j=>f=.returned (.bool false)/\ap [] a j:=by
 obtain⟨C,E,F,G,H,I,J,K,L,D⟩:=GF;have z:=NT;have r:=GG;have k:=adh;have B:=NV;have A:=NU;have u:=GJ;have s:=GH;have t:=GI;have q:=NQ;have p:=NP;have l:=NM;have o:=NN;have v:=NO ⟨a.heap.size,0,none⟩ c (vC a c) Zq;have g:1<a.heap.size:=by
  rcases Yj 1 a.heap.size with b|b
  .exact b
  .simp[World.cell?,YO b]at d
 have m:(vC a c).cell? (Zd 1 0)=some (eS 55):=by
  rw[World.cell?_alloc_lt _ _ ⟨1,0,none⟩ Zx,World.cell?_alloc_lt _ _ ⟨1,0,none⟩ g];exact d
 have n:c.block<a.heap.size:=by
  rcases Yj c.block a.heap.size with b|b
  .exact b
  .simp[World.cell?,YO b]at h
 have w:=af5;have x:=agb;have y:=agc;go_in;go_wp2;refine wp_loop_rounds 1 ?_;rw[rounds_succ];go_wp2;go_ret;exact⟨rfl,(((ar [] a).A _).A _).A _⟩
end Go.Proofs.YtjdhaegijjednaaGreatDoor
namespace Go.Proofs.YtjdhaegijjednaaGreatDoor
open Go.RowKit Go.MapKept Go.Proofs.Tryz
def RY{b:Zw}(k:b.cell? (Zd 1 0)=some (eS 55))(d:Int):Calls prog 52 #[.iface 122 (Y d)] b λe t=>e=.returned (.tuple #[Y d,Y (-1)])/\ap [] b t:=by
 have s:1<b.heap.size:=by
  grind [World.cell?]
 have l:(b.alloc (.cells #[.pointer none] 143)).cell? (Zd 1 0)=some (eS 55):=by grind [World.cell?_alloc_lt]
 have o:(b.alloc (.cells #[.pointer none] 143)).cell? (Zd b.heap.size 0)=some (.pointer none):=Zq;have g:=U (SG d ⟨b.heap.size,0,none⟩ (.pointer none) _ l o);clear l o;go_in;go_wp21;refine g.i.mono ?_;rintro e a ⟨rfl,n⟩;have c:ap [] b a:=((ar [] b).A _).u n;have r:a.cell? (Zd 1 0)=some (eS 55):=c.a2 Zq k;have w:1<a.heap.size:=Yr s c.aG;clear g k n;have m:(a.alloc (.cells #[Y 0] 122)).cell? (Zd 1 0)=some (eS 55):=by grind [World.cell?_alloc_lt]
 have p:(a.alloc (.cells #[Y 0] 122)).cell? (Zd a.heap.size 0)=some (Y 0):=Zq;have j:(a.alloc (.cells #[Y 0] 122)).frozen? ⟨a.heap.size,0,none⟩=false:=Zq;have h:=U (SF d ⟨a.heap.size,0,none⟩ (Y 0) _ m p j);clear m p j r;go_wp21;refine h.i.mono ?_;rintro e q ⟨rfl,f⟩;have v:ap [] b q:=by
  rw[f];exact((((c.A _).A _).A _).A _ |>.A _).c0 c.aG _
 have u:q.cell? (Zd a.heap.size 0)=some (Y d):=by
  rw[f];refine jQ (ci (i:=0) (cs:=#[Y 0]) (T:=122) ?_ _);exact(((((ar [] (a.alloc (.cells #[Y 0] 122))).A _).A _).A _ |>.A _).ak a.heap.size Zq Zq).trans (be rfl)
 clear f h c;go_wp21;go_ret2;simp_all
def Dj{c:Zw}(d:c.cell? (Zd 1 0)=some (eS 55))(a:Int)(f:a≠0):Calls prog 27 #[.iface 122 (Y a),Y a,Y (-1)] c λb g=>b=.returned (.bool true)/\ap [] c g:=by
 have e:=U (RY d a);have h:(a==0)=false:=Zu;clear d f;go_in;go_wp21;refine e.i.mono ?_;rintro b j ⟨rfl,i⟩;go_wp21;refine(Gf a _).mono ?_;rintro b k ⟨rfl,rfl⟩;go_wp2;go_ret;simp_all
end Go.Proofs.YtjdhaegijjednaaGreatDoor
