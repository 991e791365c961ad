import Derived.Test.YtjdhaegijjednaaGreatDoorT4
import Derived.Test.YtjdhaegijjednaaGreatDoorProg
import Derived.WalkKit
import Derived.LaidEql
import Derived.Stop.Asserts
import Derived.RowKitTokens
import Derived.Test.YtjdhaegijjednaaGreatDoorRows
import Derived.Test.YtjdhaegijjednaaGreatDoorTie
import Derived.Test.YtjdhaegijjednaaGreatDoorCards
import Derived.ProofKit
import Derived.LaidMore
import Derived.OpenShut
import Derived.Stop.Joined
import Derived.LaidHandle
import Derived.SevenTiedAt
import Derived.Shelf.Vars
import Derived.ShutString
import Derived.ChangeOld
import Derived.Deep.Slices
set_option linter.all false
set_option maxRecDepth 100000
set_option maxHeartbeats 4000000
namespace Go.Proofs.YtjdhaegijjednaaGreatDoor
open Go.RowKit
open Go.Proofs.Tryz
section
variable {nl:Nl}{o:Option ao}{b:Nat}
variable {t : List UInt8} {st f : St} {σ g h i j : ac} {E c : bq} {d : Mar.M}
def JS(nl:Nl)(c a:List UInt8)(o:Option ao)(e:ay nl c=none):ay (nl++[(c,o)]) a=if a=c then some o else ay nl a:=by
 unfold ay at *
 rw[List.find?_append];by_cases d:a=c
 .subst d;cases f:nl.find? (λb=>b.1==a)with
  |none=>simp
  |some h=>rw[f]at e;simp at e
 .rw[Y2 d];cases f:nl.find? (λb=>b.1==a)with
  |none=>
   have:(c==a)=false:=by simp;exact λg=>d g.symm
   simp[this]
  |some h=>simp
def Jw{a:List UInt8}(c:ay nl a=none):Kp nl (nl++[(a,o)]):=λe f b=>by
 rw[JS nl a e o c];by_cases d:e=a
 .rw[d,c]at b;cases b
 .rw[Y2 d];exact b
def ik.n9{h:List bc}{l:List de}(c:ik h nl l){f:List UInt8}{n:de}(j:ay nl f=none)(q:oV h (nl++[(f,o)]) (f,o) n):ik h (nl++[(f,o)]) (l++[n]):=by
 refine⟨by simp[c.ak],?_,?_⟩
 .intro g b s a d;rcases Yj g nl.length with e|e
  .rw[Ys e]at a;rw[Ys (by rw[c.ak];exact e)]at d;have:=(c.fG g b s a d).bv [] (Jw (o:=o) j);simpa using this
  .rw[Yw e]at a;rw[Yw (by rw[c.ak];exact e),c.ak]at d;match i:g-nl.length with
   |0=>
    rw[i]at a d;simp at a d;subst a;subst d;exact q
   |m+1=>rw[i]at a;simp at a
 .rw[List.map_append,YJ];refine⟨c.H,by simp,?_⟩;intro t r u k;simp at k;subst k;exact λp=>uR j (p▸r)
def ge(σ:ac):ac:={ ar σ.j 24 σ with j:=(ar σ.j 24 σ).j+1 }
def vF{h:Mar.am}(c:Q t E st σ)(f:ea t st.m st.A=.ok (h,b)){kw:List UInt8}(g:ax σ 2 kw=true)(i:¬24<=st.j):Q t E { st with m:=b,A:=none,j:=st.j+1 } (ab t 2 kw (ge σ)):=by
 have a:=c.c7 f;have d:=c.c4 f σ.j 24;have j:=c.k;rw[Y2 (by omega)]at d;unfold ge;rw[d,mB (σ:={ σ with j:=σ.j+1 }) g];exact⟨a.e,a.wd,a.z,a.pd,a.nm,by show σ.j+1=((st.j+1:Nat):Int);omega,a.cn,a.pg,a.c9,a.bw,a.ou,a.pr,a.dL,a.d9⟩
def vG{d:Mar.am}(c:Q t E st σ)(g:ea t st.m st.A=.ok (d,b))(h:24<=st.j):Er ⟨5,d.m⟩ (ge σ):=by
 have f:=c.c4 g σ.j 24;have i:=c.k;rw[Y9 (by omega)]at f;have:=c.c3 (e:=5) (a:=d.m) (by omega);unfold ge;rw[f];exact⟨this.e,this.a,this.z⟩
def za(a:aF):List UInt8:=[116,121,112,101,100,101,102,32]++pF a.k++a.t++ut a.k++[59,10]
def Pj{m:Mar.am}(F:Q t E st σ)(v:E.pd=[])(J:E.dc=0)(H:ea t st.m st.A=.ok (m,b))(K:ax σ 2 [116,121,112,101,100,101,102]=true) :
  S t (λh c=>∃D,h=.typedef D/\oU E c h (za D) []) (hS (iC (ap t) m.m) { st with m:=b,A:=none }) (gf t (ge σ)):=by
 by_cases s:24<=st.j
 .have p:iC (ap t) m.m { st with m:=b,A:=none } = .error ⟨5,m.m⟩:=vk (st:={ st with m:=b,A:=none }) s _ _;rw[hT p];exact(vG F H s).a2 (Qe _)
 .have M:=vF F H K s;have p:iC (ap t) m.m { st with m:=b,A:=none } = au (lX (ap t)) (λh=>au (bU (ap t) [59]) λ_=>bS (.typedef h)) { st with m:=b,A:=none,j:=st.j+1 }:=vl (st:={ st with m:=b,A:=none }) s _ _;unfold gf;simp only;generalize ab t 2 [116,121,112,101,100,101,102] (ge σ)=O at *
  have g:=yH (G:=λB I _ c=>c = { E.bP B with pd:=[(I.1,none)] }/\ay E.z I.1=none) (λB=>Gb (E:=E.bP B) v) M;generalize bQ t [] true O=f at *
  cases n:dY (ap t) (fM mh) () { st with m:=b,A:=none,j:=st.j+1 }with
  |error d=>
   rw[n]at g;have q:iC (ap t) m.m { st with m:=b,A:=none } = .error d:=by
    rw[p];unfold au lX hP;rw[n]
   rw[hT q];rcases g with g|g
   .rw[Y9 g.c8];exact g
   .rw[Y2 (by simpa using g.e)];have x:Bd d { f.2 with g:=f.2.g++[⟨f.1.x.text,1,f.1.r,f.1.x.m⟩] }:=⟨g.e,g.k,g.n,g.a,g.z⟩;exact(x.g9 (t:=t) (kd:=4) (l:=[59]) (by omega)).a2 (mv _ _)
  |ok A=>
   obtain⟨h,a0,N⟩:=A;rw[n]at g;obtain⟨P,w,⟨rfl,y⟩,ok⟩:=g;rw[Y2 (by simpa using w.e)];have j:=eL w (kd:=4) (l:=[59]) (by decide);cases u:bU (ap t) [59] N with
   |error d=>
    rw[u]at j;have j:Er d (ab t 4 [59] f.2):=j;have q:iC (ap t) m.m { st with m:=b,A:=none } = .error d:=by
     rw[p];unfold au lX hP;rw[n];simp only;rw[u]
    rw[hT q];have x:Er d (ab t 4 [59] { f.2 with g:=f.2.g++[⟨f.1.x.text,1,f.1.r,f.1.x.m⟩] }):=⟨j.e,j.a,j.z⟩;exact x.a2 (mv _ _)
   |ok A=>
    obtain⟨a1,C⟩:=A;rw[u]at j;obtain⟨R,i,rfl,-⟩:=j;have q:iC (ap t) m.m { st with m:=b,A:=none } = .ok (.typedef h,C):=by
     rw[p];unfold au lX hP;rw[n];simp only;rw[u];rfl
    rw[oj q];have L:C.g=E.z++[(h.t,none)]:=i.z;simp only at y;refine⟨{ E.bP (cf h.k)with z:=E.z++[(h.t,some (.typedef h))],o:=E.o++za h },?_,h,rfl,⟨v,J,rfl,rfl,by simp[bq.bP],rfl,[],rfl,by simp⟩⟩;refine⟨i.e,i.wd,?_,Y8 v,?_,i.k,i.cn,i.pg,i.c9,i.bw,?_,i.pr,i.dL,i.d9.fw i.nm.ak _ _⟩
    .show cL C.g h.t _=_++E.pd;rw[L,qj y,v,YH]
    .show ik f.2.e _ (f.2.g++[_]);refine w.nm.n9 y ⟨ok.x,rfl,?_,ok.hF,ok.gw⟩;show ((f.1.x.m:Nat):Int)=_;rw[ok.m];rfl
    .show f.2.b++_=_;have:=w.ou;rw[this,ok.cW,ok.dR,ok.x];rfl
def vU(n:Q t E st σ)(g:List (Int×Int))(f:List Int)(k:g.map (·.1)=f)(d b:Int) :
  Sx t (λh l c=>c=E/\h=(aV t d b σ).1.1/\l.map (·.1)=f++[h]/\l.length=g.length+1/\di d b h=true) (fR (ap t) (di d b) g st) (if(aV t d b σ).2.s.e=0/\f.contains (aV t d b σ).1.1=true then bo 6 (aV t d b σ).1.2 (aV t d b σ).2 else (aV t d b σ).2):=by
 unfold fR;have q:=tL n d b;generalize aV t d b σ=v at *
 refine eM (gg q) (ke _ _ _ _) ?_;rintro m u w r i ⟨⟨rfl,o,p⟩,rfl⟩;unfold av lC ky;dsimp only;rw[k,o];simp only;by_cases e:f.contains m.1=true
 .rw[Y9 e,Y9 ⟨i.e,e⟩];exact i.c3 (e:=6) (a:=m.2) (by omega)
 .rw[Y2 e,Y2 (λj=>e j.2)];exact⟨_,i,rfl,rfl,by simp[k],by simp,p⟩
def jt(a:List UInt8×Nat×Int):List UInt8:=a.1++[32,61,32]++bB a.2.2
def iS(t:List UInt8)(a:Nat)(σ:ac):ee×ac:=aG t 2 (ar (ar a 12 σ).D 40 (ar a 12 σ))
def gE(t:List UInt8)(a:Nat)(σ:ac):(Int×Int)×ac:=aV t (-2147483648) 2147483647 (ab t 4 [61] (iS t a σ).2)
def fg(t:List UInt8)(a:List Int)(σ:ac):ac:=if(gE t a.length σ).2.s.e=0/\a.contains (gE t a.length σ).1.1=true then bo 6 (gE t a.length σ).1.2 (gE t a.length σ).2 else (gE t a.length σ).2
def fA(t:List UInt8)(a:List Int)(σ:ac):ac:=if(fg t a σ).s.e≠0 then fg t a σ else dA (iS t a.length σ).1.text (gE t a.length σ).1.1 (fg t a σ)
def Ds(a:List Int)(σ:ac):aM (ar a.length 12 σ) (fg t a σ):=by
 unfold fg;refine aM.a ?_ (ke _ _ _ _);unfold gE iS;exact(Dp _ _ _).a ((oE _ _).a ((aO _ _ _).a (gY _ _ _)))
def rR(a:List Int)(σ:ac):aM (fg t a σ) (fA t a σ):=by
 unfold fA;split
 .exact ed _
 .exact Dr _ _ _
def OX(n:Q t E st σ)(z:E.pd=[])(P:E.dc=0)(l:List (Int×Int))(e:List Int)(a0:l.map (·.1)=e)(j:List UInt8×Nat)(x:ay E.z j.1=some none)(D:At j.1 j.2 σ.g) :
  Sx t (λf a1 c=>e.length<12/\(iS t e.length σ).1.text=f.1/\(gE t e.length σ).1.1=f.2.2/\a1.map (·.1)=e++[f.2.2]/\(fg t e σ).s.e=0/\c.pd=[]/\c.dc=0/\c.fz=E.fz/\c.o=E.o/\c.ps=E.ps/\c.rf=E.rf/\c.z=E.z++[(f.1,some (.const f.1 f.2.1 f.2.2))]/\ay c.z j.1=some none/\At j.1 j.2 (fA t e σ).g/\di (-2147483648) 2147483647 f.2.2=true) (hX (ap t) e.length l st) (fA t e σ):=by
 unfold hX;rcases pk t st with⟨h,b,p⟩|⟨d,p⟩
 .have q:=n.c4 p e.length 12;have m:∀{k:Type} (g:Mar.am->PX (List (Int×Int)) k),av (lift (fI (ap t))) g l st=g h l { st with m:=b,A:=some h }:=λg=>by
   unfold av lift;rw[pZ p]
  rw[m];have i:=n.f2 p;by_cases A:12<=e.length
  .rw[Y9 (by omega)]at q;unfold av lift ei;rw[Y9 A];have:=Ds (t:=t) e σ;rw[q]at this;exact((n.c3 (e:=5) (a:=h.m) (by omega)).a2 this).a2 (rR _ _)
  .rw[Y2 (by omega)]at q;have L:∀{k:Type} (g:Unit->PX (List (Int×Int)) k),av (lift (ei e.length 12 h.m)) g l { st with m:=b,A:=some h } = g () l { st with m:=b,A:=some h }:=λg=>by
    unfold av lift ei;rw[Y2 A]
   rw[L];have F:=n.cn;rw[P]at F;have w:=n.c4 p σ.D 40;by_cases B:40<=st.D
   .rw[Y9 (by omega)]at w;have y:∀{k:Type} (g:Unit->PX (List (Int×Int)) k),av (lift (ix h.m)) g l { st with m:=b,A:=some h } = .error ⟨5,h.m⟩:=λg=>by
     unfold av lift ix;rw[Y9 B]
    rw[y];have M:=n.c3 (e:=5) (a:=h.m) (by omega);refine Er.a2 (σ:=fg t e σ) ?_ (rR _ _);unfold fg;refine Er.a2 ?_ (ke _ _ _ _);unfold gE iS;rw[q,w];exact M.a2 ((oE _ _).a ((aO _ _ _).a (gY _ _ _)))
   .rw[Y2 (by omega)]at w;have y:∀{k:Type} (g:Unit->PX (List (Int×Int)) k),av (lift (ix h.m)) g l { st with m:=b,A:=some h } = g () l { st with m:=b,A:=some h,D:=st.D+1 }:=λg=>by
     unfold av lift ix;rw[Y2 B]
    rw[y];have a2:Q t { E with dc:=1 } { st with m:=b,A:=some h,D:=st.D+1 } σ:=⟨i.e,i.wd,i.z,i.pd,i.nm,i.k,by show _+((1:Nat):Int)=((st.D+1:Nat):Int);simp at F;omega,i.pg,i.c9,i.bw,i.ou,i.pr,i.dL,i.d9⟩;have N:iS t e.length σ=aG t 2 σ:=by unfold iS;rw[q,w]
    have a5:aM (iS t e.length σ).2 (fA t e σ):=by
     refine aM.a ?_ (rR _ _);unfold fg;refine aM.a ?_ (ke _ _ _ _);unfold gE;exact(aO _ _ _).a (gY _ _ _)
    have a6:aM (ab t 4 [61] (iS t e.length σ).2) (fA t e σ):=by
     refine aM.a ?_ (rR _ _);unfold fg;refine aM.a ?_ (ke _ _ _ _);unfold gE;exact gY _ _ _
    have C:=rO a2 z;rw[<-N]at C;refine eM (gg C) a5 ?_;rintro f b4 b7 b1 a3 ⟨⟨rfl,J,c0,u,a8⟩,rfl⟩;refine eM (gg (eL a3 (kd:=4) (l:=[61]) (by decide))) a6 ?_;rintro b9 b5 b8 b2 a4 ⟨⟨rfl,-⟩,rfl⟩;refine eM (vU a4 _ e a0 (-2147483648) 2147483647) (rR e σ) ?_;rintro v b6 a7 b3 r ⟨rfl,K,a9,c1,b0⟩;have r:Q t _ a7 (fg t e σ):=r;have G:fA t e σ=dA (iS t e.length σ).1.text (gE t e.length σ).1.1 (fg t e σ):=by
     unfold fA;rw[Y2 (by simpa using r.e)]
    have R:=r.k5 f.2 v (s:=f.1) (by rw[nc _ _ _ u,Y9 rfl]) z rfl;have I:(fg t e σ).g=σ.g++[⟨f.1,2,-1,f.2⟩]:=by
     rw[<-a8];have:Sm (iS t e.length σ).2 (fg t e σ):=by
      unfold fg;refine Sm.a ?_ (jy _ _ _ _);unfold gE;exact(an _ _ _).a (fT _ _ _)
     exact this.g
    have H:j.1≠f.1:=λm=>by rw[m]at x;rw[u]at x;cases x
    refine⟨{ (bq.L { E with dc:=1 } f.1).aH f.1 (.const f.1 f.2 v)with dc:=0 },?_,by omega,J,K.symm,a9,r.e,z,rfl,rfl,rfl,rfl,rfl,?_,?_,?_,b0⟩
    .rw[G,J];rw[show (gE t e.length σ).1.1=v from K.symm];exact R
    .exact qj u
    .rw[Bu _ _ _ _ (by rw[nc _ _ _ u,Y9 rfl];rfl),Y2 H,nc _ _ _ u,Y2 H];exact x
    .rw[G];unfold dA;simp only;split
     .show At j.1 j.2 (gs (fg t e σ) _ 0 _).g;exact En (by rw[I];exact D.bv _) _ _ _
     .show At j.1 j.2 (fg t e σ).g;rw[I];exact D.bv _
 .have O:=n.bd p;have m:∀{k:Type} (g:Mar.am->PX (List (Int×Int)) k),av (lift (fI (ap t))) g l st=.error d:=λg=>by
   unfold av lift;rw[tB p]
  rw[m];exact((O.c4 e.length 12).a2 (Ds e σ)).a2 (rR e σ)
end
variable {t : List UInt8} {st g : St} {a h i j k : ac} {b c : bq} {f : Mar.M}
def mV(t:List UInt8)(a:Bool×List Int×List UInt8×ac):ac:=if a.1=true then a.2.2.2 else ab t 4 [59] (ab t 4 [125] a.2.2.2)
def yP(a:Bool×List Int×List UInt8×ac):aM a.2.2.2 (mV t a):=by
 unfold mV;split
 .exact ed _
 .exact(aO _ _ _).a (aO _ _ _)
def rh(f:a.s.e=0)(g:Nat)(b:List Int)(d:List UInt8):dh t (g+1) b d a=if(fg t b a).s.e≠0 then (true,b,d,fg t b a)
  else if ax (fA t b a) 4 [44]=true then dh t g (b++[(gE t b.length a).1.1]) (d++(iS t b.length a).1.text++[32,61,32]++bB (gE t b.length a).1.1++[44,32]) (aI t (fA t b a))
  else (false,b++[(gE t b.length a).1.1],d++(iS t b.length a).1.text++[32,61,32]++bB (gE t b.length a).1.1,fA t b a):=by
 by_cases c:(fg t b a).s.e≠0
 .rw[Y9 c];conv=>lhs;unfold dh
  rw[Y2 (by simpa using f)];exact Y9 c
 .rw[Y2 c];have h:fA t b a=dA (iS t b.length a).1.text (gE t b.length a).1.1 (fg t b a):=by
   unfold fA;rw[Y2 c]
  rw[h];conv=>lhs;unfold dh
  rw[Y2 (by simpa using f)];exact Y2 c
def sI(a:List UInt8×Nat×Int):List UInt8×Option ao:=(a.1,some (.const a.1 a.2.1 a.2.2))
def OV(h:List UInt8×Nat):∀(e:Nat) (d:List (List UInt8×Nat×Int)) (l:List (Int×Int)) (i:List UInt8) (st:St) (a:ac) (b:bq),Q t b st a->b.pd=[]->b.dc=0->d.length+e=13->d.length<=12->l.map (·.1)=d.map (·.2.2)->ay b.z h.1=some none->At h.1 h.2 a.g->(∀j∈d.map (·.2.2),di (-2147483648) 2147483647 j=true)->
  S t (λI c=>∃n g,I=.enum h.1 h.2 (d++n++[g])/\(dh t e (d.map (·.2.2)) i a).1=false/\(dh t e (d.map (·.2.2)) i a).2.1=(d++n++[g]).map (·.2.2)/\(dh t e (d.map (·.2.2)) i a).2.2.1=i++n.flatMap (λg=>jt g++[44,32])++jt g/\c.pd=[]/\c.dc=0/\c.fz=b.fz/\c.o=b.o/\c.ps=b.ps/\c.rf=b.rf/\c.z=b.z++(n++[g]).map sI/\ay c.z h.1=some none/\At h.1 h.2 (mV t (dh t e (d.map (·.2.2)) i a)).g/\(∀j∈(d++n++[g]).map (·.2.2),di (-2147483648) 2147483647 j=true)) (go (ap t) h e d l st) (mV t (dh t e (d.map (·.2.2)) i a)):=by
 intro e;induction e with
 |zero=>intro d l i st a b _ _ _ d7 d8;omega
 |succ e c4=>
  intro d l i st a b J c3 b8 d9 e0 c0 c2 b7 b9;have k:=OX J c3 b8 l (d.map (·.2.2)) c0 h c2 b7;have c1:(d.map (·.2.2)).length=d.length:=by simp
  rw[rh J.e];unfold go;rw[c1]at k ⊢;cases K:hX (ap t) d.length l st with
  |error f=>
   rw[K]at k;have r:(fg t (d.map (·.2.2)) a).s.e≠0:=by
    intro r;have x:=k.c8;unfold fA at x;rw[Y2 (by simpa using r)]at x;apply x;unfold dA gs;split<;>exact r
   have b6:fA t (d.map (·.2.2)) a=fg t (d.map (·.2.2)) a:=by
    unfold fA;rw[Y9 r]
   rw[b6]at k;rw[Y9 r];exact k.a2 (yP (true,_,_,_))
  |ok c7=>
   obtain⟨g,c5,M⟩:=c7;rw[K]at k;obtain⟨N,c8,d5,O,R,a0,a1,B,C,D,E,F,G,H,z,A,P⟩:=k;rw[Y2 (by simpa using a1),O,R];dsimp only;generalize fA t (d.map (·.2.2)) a=d1 at *
   have y:(d++[g]).map (·.2.2)=d.map (·.2.2)++[g.2.2]:=by simp
   have L:∀j∈(d++[g]).map (·.2.2),di (-2147483648) 2147483647 j=true:=by
    intro j m;rw[y]at m;rcases Yn.1 m with m|m
    .exact b9 j m
    .simp at m;subst m;exact P
   rcases it c8 (kd:=4) (l:=[44]) (by decide)with⟨d6,q,p⟩|⟨u,q,p,v⟩|⟨u,q,p,v⟩
   .unfold au;rw[q,Y2 (by rw[p.is (by omega)];simp)];exact(p.g9 (t:=t) (kd:=4) (l:=[125]) (by omega)).a2 (aO _ _ _)
   .have w:∀(e:Bool->PM ao),au (cZ (ap t) [44]) e M=e true u:=λe=>by unfold au;rw[q]
    rw[w,Y9 p];rw[<-y];have:=c4 (d++[g]) c5 (i++g.1++[32,61,32]++bB g.2.2++[44,32]) u (aI t d1) N v B C (by simp;omega) (by simp;omega) (by rw[a0,y]) z A L;refine this.l ?_;rintro I d2 ⟨n,c6,a2,a5,a6,a7,a8,a9,b0,b1,b2,b4,b3,b5,a3,a4⟩;refine⟨g::n,c6,by rw[a2];simp,a5,by rw[a6];simp,?_,a8,a9,by rw[b0,D],by rw[b1,E],by rw[b2,F],by rw[b4,G],by rw[b3,H];simp[sI],b5,a3,by simpa using a4⟩;rw[a7];simp[jt]
   .have w:∀(e:Bool->PM ao),au (cZ (ap t) [44]) e M=e false u:=λe=>by unfold au;rw[q]
    rw[w,Y2 (by rw[p];simp)];simp only[Ye,if_false]
    refine fc (eL v (kd:=4) (l:=[125]) (by decide)) (aO _ _ _) ?_;rintro j e1 d3 c9 ⟨rfl,-⟩;refine fc (eL c9 (kd:=4) (l:=[59]) (by decide)) (ed _) ?_;rintro j e2 d4 d0 ⟨rfl,-⟩;exact S.ret d0 ⟨[],g,by simp,trivial,by simp,by simp[jt],B,C,D,E,F,G,by rw[H];rfl,z,A,by simpa using L⟩
def xm(c:List UInt8)(b:List (List UInt8×Nat×Int))(a:List UInt8×Nat×Int):List UInt8:=[101,110,117,109,32]++c++[32,123,32]++b.flatMap (λa=>jt a++[44,32])++jt a++[32,125,59,10]
def wI(d:List de)(a:List UInt8×Nat)(c b:Int):At a.1 a.2 (d++[⟨a.1,c,b,a.2⟩]):=⟨⟨a.1,c,b,a.2⟩,by simp,rfl,rfl⟩
def OU{n:Mar.am}{j:Nat}(N:Q t b st a)(O:b.pd=[])(a6:b.dc=0)(A:ea t st.m st.A=.ok (n,j))(a7:ax a 2 [101,110,117,109]=true) :
  S t (λd c=>∃a0 a3 P g,d=.enum a0 a3 (P++[g])/\oU b c d (xm a0 P g) []) (hS (gm (ap t) n.m) { st with m:=j,A:=none }) (gD t (ge a)):=by
 by_cases z:24<=st.j
 .have k:gm (ap t) n.m { st with m:=j,A:=none } = .error ⟨5,n.m⟩:=vk (st:={ st with m:=j,A:=none }) z _ _;rw[hT k];exact(vG N A z).a2 (PY _)
 .have b1:=vF N A a7 z;have a8:gm (ap t) n.m { st with m:=j,A:=none } = au (gp (ap t)) (λe=>au (bU (ap t) [123]) λ_=>go (ap t) e 13 [] []) { st with m:=j,A:=none,j:=st.j+1 }:=vl (st:={ st with m:=j,A:=none }) z _ _;unfold gD;simp only;generalize ab t 2 [101,110,117,109] (ge a)=h at *
  have k:S t (λd c=>∃e:List UInt8×Nat,(aG t 2 h).1.text=e.1/\∃i g,d=.enum e.1 e.2 (i++[g])/\(dh t 13 [] ([101,110,117,109,32]++(aG t 2 h).1.text++[32,123,32]) (ab t 4 [123] (aG t 2 h).2)).1=false/\(dh t 13 [] ([101,110,117,109,32]++(aG t 2 h).1.text++[32,123,32]) (ab t 4 [123] (aG t 2 h).2)).2.1=(i++[g]).map (·.2.2)/\(dh t 13 [] ([101,110,117,109,32]++(aG t 2 h).1.text++[32,123,32]) (ab t 4 [123] (aG t 2 h).2)).2.2.1=[101,110,117,109,32]++e.1++[32,123,32]++i.flatMap (λg=>jt g++[44,32])++jt g/\c.pd=[]/\c.dc=0/\c.fz=b.fz/\c.o=b.o/\c.ps=b.ps/\c.rf=b.rf/\c.z=b.z++[(e.1,none)]++(i++[g]).map sI/\ay b.z e.1=none/\ay c.z e.1=some none/\At e.1 e.2 (mV t (dh t 13 [] ([101,110,117,109,32]++(aG t 2 h).1.text++[32,123,32]) (ab t 4 [123] (aG t 2 h).2))).g/\(∀a1∈(i++[g]).map (·.2.2),di (-2147483648) 2147483647 a1=true))
    (gm (ap t) n.m { st with m:=j,A:=none }) (mV t (dh t 13 [] ([101,110,117,109,32]++(aG t 2 h).1.text++[32,123,32]) (ab t 4 [123] (aG t 2 h).2))):=by
   rw[a8];refine fc (rO b1 O) ((aO _ _ _).a ((yQ _ _ _ _).a (yP _))) ?_;rintro e c1 s m ⟨rfl,B,c3,a2,b5⟩;refine fc (eL m (kd:=4) (l:=[123]) (by decide)) ((yQ _ _ _ _).a (yP _)) ?_;rintro a1 b4 b7 L ⟨rfl,-⟩;have:=OV e 13 [] [] ([101,110,117,109,32]++(aG t 2 h).1.text++[32,123,32]) b4 (ab t 4 [123] (aG t 2 h).2) _ L O a6 (by simp) (by simp) rfl (by rw[nc _ _ _ a2,Y9 rfl]) (by
    show At e.1 e.2 (aG t 2 h).2.g;rw[b5];exact wI _ e _ _) (by simp)
   refine this.l ?_;rintro d b8 ⟨i,g,a4,u,D,E,v,F,G,H,I,J,w,x,p,C⟩;exact⟨e,B,i,g,by simpa using a4,u,by simpa using D,by rw[<-B];exact E,v,F,G,H,I,J,w,a2,x,p,by simpa using C⟩
  generalize dh t 13 [] ([101,110,117,109,32]++(aG t 2 h).1.text++[32,123,32]) (ab t 4 [123] (aG t 2 h).2)=y at *
  cases q:gm (ap t) n.m { st with m:=j,A:=none }with
  |error f=>
   rw[q]at k;have k:Er f (mV t y):=k;rw[hT q];unfold mV at k;split at k
   .rename_i K;rw[Y9 K];exact k
   .rename_i K;rw[Y2 K];exact k.a2 ((fq _ _).a ((rU _ _ _).a (mv _ _)))
  |ok b0=>
   obtain⟨d,c2⟩:=b0;rw[q]at k;obtain⟨s,m,e,B,i,g,rfl,u,D,E,v,F,G,H,I,J,w,a5,x,p,C⟩:=k;rw[oj q,Y2 (by rw[u];simp),B,D,E];unfold mV at m p;rw[u]at m p;simp only[Ye,if_false]at m p
   generalize ab t 4 [59] (ab t 4 [125] y.2.2.2)=b6 at *
   have L:=m.row (r:=ri (i++[g])) ⟨by simp<;>omega,by simp,by simp<;>omega,λ_=>C⟩ (by simp);have b2:=L.ks (d:=.enum e.1 e.2 (i++[g])) (n:=b6.e.length) x v p rfl ⟨by simp,mn _ _⟩;have b3:=b2.bn ([101,110,117,109,32]++e.1++[32,123,32]++i.flatMap (λg=>jt g++[44,32])++jt g++[32,125,59,10]);refine⟨_,b3,e.1,e.2,i,g,rfl,⟨v,F,G,by show s.o++_=_;rw[H];rfl,by show s.ps=_;rw[I];simp,by show s.rf=_;rw[J];simp[gi],(i++[g]).map sI,?_,?_⟩⟩
   .show cL s.z e.1 _=_;rw[w]at x ⊢;unfold cL;rw[List.map_append];have M:=qj (d:=.enum e.1 e.2 (i++[g])) a5;unfold cL at M;rw[M];rw[YN];congr 1;show _::_=_::_;congr 1;conv=>rhs;rw[<-List.map_id ((i++[g]).map sI)]
    apply List.map_congr_left;intro j A;have a9:j.1≠e.1:=λy=>by
     have R:=m.nm.H;rw[w,List.map_append,YJ]at R;exact R.2.2 e.1 (by simp) e.1 (YE.2 ⟨j,A,y⟩) rfl
    have:(j.1==e.1)=false:=by simpa using a9
    simp[this]
   .intro b9 q;obtain⟨c0,-,rfl⟩:=YE.1 q;exact⟨_,_,_,rfl⟩
section
variable {a h n c:Nat}{m j:Type}
variable {t : List UInt8} {st q : St} {b o u v p : ac} {f g : bq} {k : Mar.M}
def fW(e:List bc)(b:List aF)(d:List Int):Prop:=d.length=b.length/\∀(a:Nat) (c:Int) (h:aF),d[a]? = some c->b[a]? = some h->dy e h.k c
def fW.p{e:List aF}{f:List Int}(d:fW b.e e f)(j:cy b o):fW o.e e f:=⟨d.1,λi c h a g=>(d.2 i c h a g).p j⟩
def fW.fw{j:List bc}{f:List aF}{m:List Int}(d:fW j f m){k:aF}{n:Int}(o:dy j k.k n):fW j (f++[k]) (m++[n]):=by
 refine⟨by simp[d.1],?_⟩;intro g c h a b;rcases Yj g f.length with e|e
 .rw[Ys e]at b;rw[Ys (by rw[d.1];exact e)]at a;exact d.2 g c h a b
 .rw[Yw e]at b;rw[Yw (by rw[d.1];exact e),d.1]at a;match l:g-f.length with
  |0=>
   rw[l]at a b;simp at a b;subst a;subst b;exact o
  |i+1=>rw[l]at a;simp at a
def fW.K{a:List bc}{e:List aF}{f:List Int}(h:5<=a.length)(b:fW a e f):∀g∈f,g<a.length:=by
 intro g j;obtain⟨d,c,rfl⟩:=List.mem_iff_getElem.1 j;have i:d<e.length:=by rw[<-b.1];exact c
 exact(b.2 d _ _ (Yd c) (Yd i)).K h
def lj(a:aF):List UInt8:=pF a.k++a.t++ut a.k++[59,32]
abbrev fi(t:List UInt8)(n:Nat)(a:List (List UInt8))(b:ac):jb×ac:=bQ t a false (ar n 12 b)
def tO(g:b.s.e=0)(f:Nat)(a:List Int)(c:List (List UInt8))(d:List UInt8):dI t (f+1) a c d b =
  if ax (ab t 4 [59] (fi t a.length c b).2) 4 [125]=true then (a++[(fi t a.length c b).1.r],d++(fi t a.length c b).1.cW++(fi t a.length c b).1.x.text++(fi t a.length c b).1.dR++[59,32],ab t 4 [59] (fi t a.length c b).2)
  else dI t f (a++[(fi t a.length c b).1.r]) (c++[(fi t a.length c b).1.x.text]) (d++(fi t a.length c b).1.cW++(fi t a.length c b).1.x.text++(fi t a.length c b).1.dR++[59,32]) (ab t 4 [59] (fi t a.length c b).2):=by
 conv=>lhs;unfold dI
 rw[Y2 (by simpa using g)]
def Dy(d:b.s.e=0)(f:Nat)(c:List Int)(a:List (List UInt8))(g:List UInt8):aM (ab t 4 [59] (fi t c.length a b).2) (dI t (f+1) c a g b).2.2:=by
 rw[tO d];split
 .exact ed _
 .exact yS _ _ _ _ _
def Dx(g:b.s.e=0)(c:Nat)(a:List Int)(d:List (List UInt8))(f:List UInt8):aM (ar a.length 12 b) (dI t (c+1) a d f b).2.2:=((wb _ _ _).a (aO _ _ _)).a (Dy g c a d f)
def Bd.ov(a:Bd k b)(c:Nat)(g:List Int)(d:List (List UInt8))(f:List UInt8):Er k (dI t (c+1) g d f b).2.2:=(a.c4 _ _).a2 (Dx a.e c g d f)
def Pa(o:Q t f st b)(a:dE)(l:List aF)(e:List (List UInt8)):Sx t (λ_ c g=>∃h,g=f.bP (cf h.k)/\c=(l++[h],e++[h.t])/\sh h (bQ t e false b).1 (bQ t e false b).2) (iY (ap t) a (l,e) st) (ab t 4 [59] (bQ t e false b).2):=by
 have d:=yH (G:=λm n i g=>g=f.bP m/\i=e++[n.1]) (λm=>Ac e a.q a.bx) o;unfold iY;cases j:dY (ap t) (aS a.q a.bx) e st with
 |error k=>
  rw[j]at d;rcases d with d|d
  .exact d.a2 (aO _ _ _)
  .exact d.g9 (by omega)
 |ok p=>
  obtain⟨h,i,w⟩:=p;rw[j]at d;obtain⟨s,q,⟨rfl,rfl⟩,ok⟩:=d;refine eM (gg (eL q (kd:=4) (l:=[59]) (by decide))) (ed _) ?_;rintro y v x u r ⟨⟨rfl,-⟩,rfl⟩;exact⟨_,r,h,rfl,rfl,ok⟩
def vN(d:¬h<=n)(b:Unit->PX j m)(c:j)(st:St):av (lift (ei n h a)) b c st=b () c st:=by
 unfold av lift ei;rw[Y2 d]
def vM(b:h<=n)(c:Unit->PX j m)(d:j)(st:St):av (lift (ei n h a)) c d st=.error ⟨5,a⟩:=by
 unfold av lift ei;rw[Y9 b]
def ys{a:Mar.am}(e:ea t st.m st.A=.ok (a,c))(b:Mar.am->PX j m)(d:j):av (lift (fI (ap t))) b d st=b a d { st with m:=c,A:=some a }:=by
 unfold av lift;rw[pZ e]
def yr(a:ea t st.m st.A=.error k)(b:Mar.am->PX j m)(c:j):av (lift (fI (ap t))) b c st=.error k:=by
 unfold av lift;rw[tB a]
def nV{c:List UInt8}{a:Bool}{e:St}(f:cZ (ap t) c st=.ok (a,e))(b:Bool->PX j m)(d:j):av (lift (cZ (ap t) c)) b d st=b a d e:=by
 unfold av lift;rw[f]
def um{a:List UInt8}(b:cZ (ap t) a st=.error k)(c:Bool->PX j m)(d:j):av (lift (cZ (ap t) a)) c d st=.error k:=by
 unfold av lift;rw[b]
def wO(a:ByteArray)(nh:Nat)(c:PX j Unit)(b n:Nat):hh a nh c (b+1) (n+1)=av (lift (cZ a [125])) λd=>if d then cG ()else lU a nh c b (n+1):=by
 rfl
def zT(a:ByteArray)(nh:Nat)(c:PX j Unit)(b:Nat):hh a nh c (b+1) 0=lU a nh c b 0:=by
 show av (if 0=0 then cG false else lift (cZ a [125])) _=_
 rw[Y9 rfl];rfl
def Pi(a:dE):∀(j:Nat) (i:List aF) (d:List (List UInt8)) (h:List Int) (m:List UInt8) (st:St) (b:ac) (f:bq),Q t f st b->i.length+j=13->i.length<=12->fW b.e i h->
  Sx t (λ_ c g=>∃u,g=f.bP (u.flatMap λn=>cf n.k)/\c.1=i++u/\fW (dI t (j+1) h d m b).2.2.e (i++u) (dI t (j+1) h d m b).1/\(dI t (j+1) h d m b).2.1=m++u.flatMap lj/\(dI t (j+1) h d m b).2.2.g=b.g) (lU (ap t) 12 (iY (ap t) a) j i.length (i,d) st) (ab t 4 [125] (dI t (j+1) h d m b).2.2):=by
 intro j;induction j with
 |zero=>intro i d h m st b f _ a5 a6;omega
 |succ j R=>
  intro i d h m st b f s a7 a8 z;have A:=(Dx (t:=t) s.e (j+1) h d m).a (aO (t:=t) 4 [125] _);unfold lU;rcases pk t st with⟨a2,c,o⟩|⟨k,o⟩
  .rw[ys o];have w:=s.c4 o h.length 12;by_cases B:12<=i.length
   .rw[vM B];rw[Y9 (by rw[z.1];omega)]at w;rw[w]at A;exact(s.c3 (e:=5) (a:=a2.m) (by omega)).a2 A
   .rw[vN B];rw[Y2 (by rw[z.1];omega)]at w;have C:fi t h.length d b=bQ t d false b:=by unfold fi;rw[w]
    have a0:=(Dy (t:=t) s.e (j+1) h d m).a (aO (t:=t) 4 [125] _);have o:=Pa (s.f2 o) a i d;rw[<-C]at o;refine eM o a0 ?_;rintro a1 a9 b1 I S ⟨n,D,rfl,ok⟩;have G:cy b (ab t 4 [59] (fi t h.length d b).2):=by rw[C];exact(kA _ _ _).a (an _ _ _).p
    rw[tO s.e];have F:fW (ab t 4 [59] (fi t h.length d b).2).e (i++[n]) (h++[(fi t h.length d b).1.r]):=(z.p G).fw ok.hF;have O:m++(fi t h.length d b).1.cW++(fi t h.length d b).1.x.text++(fi t h.length d b).1.dR++[59,32]=m++lj n:=by rw[ok.cW,ok.dR,ok.x];simp[lj]
    have P:(fi t h.length d b).1.x.text=n.t:=ok.x;have E:=G.g;rw[O,P];generalize ab t 4 [59] (fi t h.length d b).2=p at *
    rw[wO];rcases it S (kd:=4) (l:=[125]) (by decide)with⟨a4,v,q⟩|⟨H,v,q,y⟩|⟨H,v,q,y⟩
    .rw[um v,Y2 (by rw[q.is (by omega)];simp)];exact(q.ov j _ _ _).a2 (aO _ _ _)
    .rw[nV v,Y9 q,mB q];exact⟨_,y,[n],by rw[D];simp,rfl,F,by simp,E⟩
    .rw[nV v,Y2 (by rw[q];simp)];simp only[Ye,if_false]
     have:=R (i++[n]) (d++[n.t]) (h++[(fi t h.length d b).1.r]) (m++lj n) H p I y (by simp;omega) (by simp;omega) F;rw[show (i++[n]).length=i.length+1 by simp]at this;refine this.l ?_;rintro a1 b0 a3 ⟨u,J,K,L,M,N⟩;refine⟨n::u,by rw[J,D,qC];simp,by rw[K];simp,?_,by rw[M];simp,by rw[N,E]⟩;simpa using L
  .rw[yr o];exact((s.bd o).c4 _ _).a2 A
def DD(b:List UInt8)(a:List aF):List UInt8:=[115,116,114,117,99,116,32]++b++[32,123,32]++a.flatMap lj++[125,59,10]
def Ph{p:Mar.am}(I:Q t f st b)(D:f.pd=[])(a3:f.dc=0)(y:ea t st.m st.A=.ok (p,c))(a4:ax b 2 [115,116,114,117,99,116]=true) :
  S t (λd g=>∃M a i,d=.struct M a i/\oU f g d (DD M i) []) (hS (iZ (ap t) p.m) { st with m:=c,A:=none }) (gt t (ge b)):=by
 by_cases w:24<=st.j
 .have q:iZ (ap t) p.m { st with m:=c,A:=none } = .error ⟨5,p.m⟩:=vk (st:={ st with m:=c,A:=none }) w _ _;rw[hT q];exact(vG I y w).a2 (Qd _)
 .have a9:=vF I y a4 w;have a6:iZ (ap t) p.m { st with m:=c,A:=none } = au (gp (ap t)) (λn=>au (hZ (eu (ap t) 12 (iY (ap t) ⟨0,0,0,0,0,0⟩)) ([],[])) λc=>au (bU (ap t) [59]) λ_=>bS (.struct n.1 n.2 c.1)) { st with m:=c,A:=none,j:=st.j+1 }:=vl (st:={ st with m:=c,A:=none }) w _ _;unfold gt;simp only;generalize ab t 2 [115,116,114,117,99,116] (ge b)=m at *
  generalize J:dI t 14 [] [] ([115,116,114,117,99,116,32]++(aG t 2 m).1.text++[32,123,32]) (ab t 4 [123] (aG t 2 m).2)=e;have N:aM (ab t 4 [123] (aG t 2 m).2) e.2.2:=by rw[<-J];exact yS _ _ _ _ _
  have q:S t (λd g=>∃n:List UInt8×Nat,(aG t 2 m).1.text=n.1/\∃i,d=.struct n.1 n.2 i/\fW e.2.2.e i e.1/\e.2.1=[115,116,114,117,99,116,32]++n.1++[32,123,32]++i.flatMap lj/\g=(f.L n.1).bP (i.flatMap λd=>cf d.k)/\ay f.z n.1=none/\At n.1 n.2 e.2.2.g)
    (iZ (ap t) p.m { st with m:=c,A:=none }) (ab t 4 [59] (ab t 4 [125] e.2.2)):=by
   rw[a6];refine fc (rO a9 D) ((aO _ _ _).a (N.a ((aO _ _ _).a (aO _ _ _)))) ?_;rintro n F O z ⟨rfl,A,c1,b3,b4⟩;have x:Sx t (λ_ (c:List aF×List (List UInt8)) g=>g=(f.L n.1).bP (c.1.flatMap λd=>cf d.k)/\fW e.2.2.e c.1 e.1/\e.2.1=[115,116,114,117,99,116,32]++n.1++[32,123,32]++c.1.flatMap lj/\e.2.2.g=(aG t 2 m).2.g) (eu (ap t) 12 (iY (ap t) ⟨0,0,0,0,0,0⟩) ([],[]) F) (ab t 4 [125] e.2.2):=by
    unfold eu;refine eM (gg (eL z (kd:=4) (l:=[123]) (by decide))) (N.a (aO _ _ _)) ?_;rintro G b2 b1 P u ⟨⟨rfl,-⟩,rfl⟩;rw[zT];have:=Pi ⟨0,0,0,0,0,0⟩ 13 [] [] [] ([115,116,114,117,99,116,32]++(aG t 2 m).1.text++[32,123,32]) b1 (ab t 4 [123] (aG t 2 m).2) _ u (by simp) (by simp) ⟨rfl,λK c h y=>by simp at y⟩;rw[J]at this;refine this.l ?_;rintro b2 b7 R ⟨b6,rfl,v,j,s,B⟩;simp only[YT]at v j;exact⟨by rw[v],by rw[v];exact j,by rw[v,s,A],B⟩
   have a2:S t (λ(c:List aF×List (List UInt8)) g=>g=(f.L n.1).bP (c.1.flatMap λd=>cf d.k)/\fW e.2.2.e c.1 e.1/\e.2.1=[115,116,114,117,99,116,32]++n.1++[32,123,32]++c.1.flatMap lj/\e.2.2.g=(aG t 2 m).2.g) (hZ (eu (ap t) 12 (iY (ap t) ⟨0,0,0,0,0,0⟩)) ([],[]) F) (ab t 4 [125] e.2.2):=by
    unfold hZ;cases o:eu (ap t) 12 (iY (ap t) ⟨0,0,0,0,0,0⟩) ([],[]) F with
    |error k=>rw[o]at x;exact x
    |ok L=>rw[o]at x;exact x
   refine fc a2 (aO _ _ _) ?_;rintro a8 b8 P u ⟨rfl,j,s,B⟩;refine fc (eL u (kd:=4) (l:=[59]) (by decide)) (ed _) ?_;rintro G b9 R E ⟨rfl,-⟩;exact S.ret E ⟨n,A,a8.1,rfl,j,s,rfl,b3,by rw[B,b4];exact wI _ n _ _⟩
  cases o:iZ (ap t) p.m { st with m:=c,A:=none }with
  |error k=>
   rw[o]at q;rw[hT o];exact Er.a2 q ((fq _ _).a ((rU _ _ _).a (mv _ _)))
  |ok L=>
   obtain⟨d,c0⟩:=L;rw[o]at q;obtain⟨O,z,n,A,i,rfl,j,s,rfl,H,C⟩:=q;rw[oj o,A,s];have j:fW (ab t 4 [59] (ab t 4 [125] e.2.2)).e i e.1:=j;have C:At n.1 n.2 (ab t 4 [59] (ab t 4 [125] e.2.2)).g:=C;generalize ab t 4 [59] (ab t 4 [125] e.2.2)=b5 at *
   have a5:=j.K z.g3;have u:=z.row (r:=⟨12,0,0,[],e.1,0,[],0⟩) ⟨by simp<;>omega,λG a7=>(by have:=a5 G a7;omega),by simp<;>omega,by simp⟩ (by simp);have E:=u.ks (d:=.struct n.1 n.2 i) (n:=b5.e.length) (by show ay (f.z++_) _=_;rw[nc _ _ _ H,Y9 rfl]) D C rfl ⟨by simp,e.1,mn _ _,j.1,λK c h a0 a1=>(j.2 K c h a0 a1).bv _⟩;have b0:=E.bn ([115,116,114,117,99,116,32]++n.1++[32,123,32]++i.flatMap lj++[125,59,10]);exact⟨_,b0,n.1,n.2,i,rfl,⟨D,a3,rfl,rfl,by simp[bq.bP],rfl,[],qj H,by simp⟩⟩
end
section
variable {g:Int}{p:Int->Bool}
variable {t : List UInt8} {d j : St} {b m q r u : ac} {f i : bq} {h : Mar.M}
def nP(b:List bc)(of:Int)(p:Int->Bool):Prop:=
 (of=0/\p=di (-2147483648) 2147483647)\/(of=1/\p=di 0 4294967295)\/(of=4/\p=di 0 1)\/(4<of/\∃a,b[of.toNat]? = some (ri a)/\p=jT a)
def Q.l1(a:Q t f d b)(e:0<=g)(h:g<=4):(fC b g).f=g:=by
 obtain⟨i,c⟩:=a.c9;unfold fC;rw[c];have:g=0\/g=1\/g=2\/g=3\/g=4:=by omega
 rcases this with rfl|rfl|rfl|rfl|rfl<;>rfl
def ny{a:bc}(c:b.e[g.toNat]? = some a):fC b g=a:=by
 unfold fC;rw[List.getD_eq_getElem?_getD,c];rfl
def Nx(j:Q t f d b){i:Ty}(a:dy b.e i g)(k:0<=g):(fC b g).f≠5:=by
 cases i with
 |plain r=>have p:=a.1;have q:=a.2;rw[j.l1 k (by omega)];omega
 |named u o=>obtain⟨_,s,c,l,_⟩:=a;rw[ny c,l];omega
 |opaq e h=>rw[ny a.2];cases h<;>simp[ej]
 |str e h=>rw[ny a.2];simp[ej]
 |arr n e h=>obtain⟨_,m,c,_⟩:=a;rw[ny c];cases h<;>simp[dH]
 |opt n=>obtain⟨_,m,c,_⟩:=a;rw[ny c];simp[dH]
 |void=>have:g = -1:=a;omega
def Bd.nQ(c:Bd h b):Er h (bR t b).2:=by
 unfold bR;rw[Y2 (λa=>by have:=a.2;rw[c.k]at this;omega),Y2 (λa=>by have:=a.2.1;rw[c.k]at this;omega)];exact c.f5
def Pg(j:Q t f d b)(a7:f.pd=[]):Sw t (λz i=>i=f/\jG (bR t b).2.e f.z z.1 (bR t b).1.1/\(bR t b).1.2=ib z.1/\nP (bR t b).2.e (bR t b).1.1 z.2) (nA (ap t) d) (bR t b).2:=by
 unfold nA au;rcases pk t d with⟨a,p,w⟩|⟨h,w⟩
 .rw[mg w];have a1:=j.wd;rw[w]at a1;obtain⟨⟨N,G,b6,a2,b7⟩,a4⟩:=a1;have H:=j.c7 w;simp only;unfold iW bR;by_cases P:a.f=1
  .rw[Y9 (c:=((a.f:Int)==1)=true) (by rw[P];rfl),Y9 (c:=b.s.e=0/\b.s.x.f=1) ⟨j.e,by rw[N];exact P⟩];unfold au iw;have a6:d.g=f.z:=by rw[j.z,a7];simp
   rw[show ay ({ d with m:=p,A:=none }:St).g a.text=ay f.z a.text by rw[<-a6]];rw[G];have r:∀{o:Option (Option ao)},(∀k m I,o≠some (some (.enum k m I)))->(bz b a.text<0\/(bM b).ag≠1\/(fC b (bM b).n).f≠5)->
     Sw t (λ(z:Ty×(Int->Bool)) i=>i=f/\jG (if bz b a.text<0\/(bM b).ag≠1\/(fC b (bM b).n).f≠5 then (((0:Int),([]:List UInt8)),bo 7 ↑b.s.x.m b)else (((bM b).n,a.text),aI t b)).2.e f.z z.1 (if bz b a.text<0\/(bM b).ag≠1\/(fC b (bM b).n).f≠5 then (((0:Int),([]:List UInt8)),bo 7 ↑b.s.x.m b)else (((bM b).n,a.text),aI t b)).1.1/\(if bz b a.text<0\/(bM b).ag≠1\/(fC b (bM b).n).f≠5 then (((0:Int),([]:List UInt8)),bo 7 ↑b.s.x.m b)else (((bM b).n,a.text),aI t b)).1.2=ib z.1/\nP (if bz b a.text<0\/(bM b).ag≠1\/(fC b (bM b).n).f≠5 then (((0:Int),([]:List UInt8)),bo 7 ↑b.s.x.m b)else (((bM b).n,a.text),aI t b)).2.e (if bz b a.text<0\/(bM b).ag≠1\/(fC b (bM b).n).f≠5 then (((0:Int),([]:List UInt8)),bo 7 ↑b.s.x.m b)else (((bM b).n,a.text),aI t b)).1.1 z.2)
     (.error ⟨7,a.m⟩) (if bz b a.text<0\/(bM b).ag≠1\/(fC b (bM b).n).f≠5 then (((0:Int),([]:List UInt8)),bo 7 ↑b.s.x.m b)else (((bM b).n,a.text),aI t b)).2:=λ_ a3=>by
    rw[Y9 a3,a2];exact Y8 (j.c3 (e:=7) (a:=a.m) (by omega))
   rcases j.hs a.text with⟨J,S⟩|⟨g,o,A,J,S,b8,b0,b1⟩
   .rw[J];exact r (o:=none) (by simp) (Y8 S)
   .have u:bM b=A:=by
     unfold bM;rw[G,S,Int.toNat_natCast,List.getD_eq_getElem?_getD,b0];rfl
    rw[J];have q:=b1.2;cases o with
    |none=>exact r (o:=some none) (by simp) (Ya (Y8 (by rw[u];have:A.ag=2:=q;omega)))
    |some s=>
     cases s with
     |const k m v=>exact r (o:=some (some (.const k m v))) (by simp) (Ya (Y8 (by rw[u];have:A.ag=0:=q.1;omega)))
     |prog k m e s=>exact r (o:=some (some (.prog k m e s))) (by simp) (Ya (Y8 (by rw[u];have:A.ag=2:=q;omega)))
     |typedef s=>exact r (o:=some (some (.typedef s))) (by simp) (Ya (Ya (by rw[u];exact Nx j q.2.2.1 q.2.2.2)))
     |struct k m e=>
      obtain⟨_,_,M,b2,y,_⟩:=q;exact r (o:=some (some (.struct k m e))) (by simp) (Ya (Ya (by rw[u,ny y];simp)))
     |union k m e s=>
      obtain⟨_,_,M,of,b2,b4,y,_⟩:=q;exact r (o:=some (some (.union k m e s))) (by simp) (Ya (Ya (by rw[u,ny y];simp)))
     |enum k m I=>
      obtain⟨a9,_,M,y⟩:=q;have a5:(fC b A.n).f=5:=by rw[ny y]
      rw[u,Y2 (by rw[a9,a5];simp;omega)];have a0:4<A.n:=by
       rcases Int.lt_or_le 4 A.n with O|O
       .exact O
       .have:=j.l1 M O;omega
      exact⟨f,H,rfl,Ya ⟨_,_,k,m,I,rfl,a0,J,y⟩,rfl,Ya (Ya (Ya ⟨a0,I,y,rfl⟩))⟩
  .rw[Y2 (c:=((a.f:Int)==1)=true) (by simp;omega),Y2 (c:=b.s.e=0/\b.s.x.f=1) (λc=>P (by rw[<-N];exact c.2))];have R:∀K,Mar.db K=true->a.text=K->b.s.x.f=2/\b.s.x.text=K:=λK a8 c=>⟨by rw[N];exact a4.h2 (by rw[c];exact a8),by rw[G];exact c⟩;by_cases D:a.text=[105,110,116]
   .have c:=R _ (by decide) D;rw[Y9 (c:=(a.text==[105,110,116])=true) (by simpa using D),Y9 (c:=b.s.e=0/\_) ⟨j.e,c.1,Y8 c.2⟩,Y9 c.2];exact⟨f,H,rfl,Y8 ⟨0,rfl,Y8 rfl,rfl⟩,rfl,Y8 ⟨rfl,rfl⟩⟩
   .rw[Y2 (c:=(a.text==[105,110,116])=true) (by simpa using D)];by_cases E:a.text=[117,110,115,105,103,110,101,100]
    .have c:=R _ (by decide) E;rw[Y9 (c:=(a.text==[117,110,115,105,103,110,101,100])=true) (by simpa using E),Y9 (c:=b.s.e=0/\_) ⟨j.e,c.1,Ya (Y8 c.2)⟩,Y2 (by rw[c.2];simp),Y2 (by rw[c.2];simp)];unfold au;rcases it H (kd:=2) (l:=[105,110,116]) (by decide)with⟨b5,C,B⟩|⟨b3,C,B,L⟩|⟨b3,C,B,L⟩
     .rw[C,Y2 (by rw[B.is (by omega)];simp)];exact Ya B
     .rw[C,Y9 B];exact⟨f,L,rfl,Y8 ⟨1,rfl,Ya (Y8 rfl),rfl⟩,rfl,Ya (Y8 ⟨rfl,rfl⟩)⟩
     .rw[C,Y2 (by rw[B];simp)];exact⟨f,L,rfl,Y8 ⟨1,rfl,Ya (Y8 rfl),rfl⟩,rfl,Ya (Y8 ⟨rfl,rfl⟩)⟩
    .rw[Y2 (c:=(a.text==[117,110,115,105,103,110,101,100])=true) (by simpa using E)];by_cases F:a.text=[98,111,111,108]
     .have c:=R _ (by decide) F;rw[Y9 (c:=(a.text==[98,111,111,108])=true) (by simpa using F),Y9 (c:=b.s.e=0/\_) ⟨j.e,c.1,Ya (Ya c.2)⟩,Y2 (by rw[c.2];simp),Y9 c.2];exact⟨f,H,rfl,Y8 ⟨4,rfl,Ya (Ya rfl),rfl⟩,rfl,Ya (Ya (Y8 ⟨rfl,rfl⟩))⟩
     .rw[Y2 (c:=(a.text==[98,111,111,108])=true) (by simpa using F),Y2 (c:=b.s.e=0/\_) (λc=>by
       rw[G]at c;rcases c.2.2 with c|c|c
       .exact D c
       .exact E c
       .exact F c)]
      exact Y8 (j.fx w)
 .rw[ni w];exact Y8 (j.bd w).nQ
def RN(f:ByteArray){e c:Int}(l:∀i,p i=true->di e c i=true)(d:St):hG f p d=match hG f (di e c) d with
  |.ok (a,j)=>if p a.1 then .ok (a,j)else .error ⟨8,a.2⟩
  |.error h=>.error h:=by
 unfold hG au;cases next f d with
 |error h=>rfl
 |ok a=>
  simp only;cases hW a.1 a.2 with
  |error h=>rfl
  |ok k=>
   simp only;by_cases b:p k.1=true
   .rw[Y9 b,Y9 (l _ b)];simp only[bS,b,if_true]
   .rw[Y2 b];by_cases g:di e c k.1=true
    .rw[Y9 g];simp only[bS,fj,b,Ye,if_false]
    .rw[Y2 g];rfl
abbrev sJ(of:Int)(v:(Int×Int)×ac):ac:=if v.2.s.e=0/\4<of/\(fC v.2 of).a0.contains v.1.1=false then bo 8 v.1.2 v.2 else v.2
abbrev sK(a:List Int)(v:(Int×Int)×ac)(b:ac):ac:=if b.s.e=0/\a.contains v.1.1=true then bo 6 v.1.2 b else b
def OR(w:Q t f d b){of:Int}(O:nP b.e of p)(q:List (Int×Int))(g:List Int)(x:q.map (·.1)=g) :
  Sx t (λa r i=>i=f/\a=(aV t (eQ of) (eP of) b).1.1/\r.map (·.1)=g++[a]) (fR (ap t) p q d) (sK g (aV t (eQ of) (eP of) b) (sJ of (aV t (eQ of) (eP of) b))):=by
 have u:of<=4->p=di (eQ of) (eP of)->Sx t (λa r i=>i=f/\a=(aV t (eQ of) (eP of) b).1.1/\r.map (·.1)=g++[a]) (fR (ap t) p q d) (sK g (aV t (eQ of) (eP of) b) (sJ of (aV t (eQ of) (eP of) b))):=by
  intro A e;have k:=vU w q g x (eQ of) (eP of);rw[e];unfold sK sJ;rw[Y2 (c:=(aV t (eQ of) (eP of) b).2.s.e=0/\4<of/\_) (λj=>by omega)];exact k.l λa r i y=>⟨y.1,y.2.1,y.2.2.1⟩
 rcases O with⟨rfl,e⟩|⟨rfl,e⟩|⟨rfl,e⟩|⟨A,l,C,rfl⟩
 .exact u (by omega) e
 .exact u (by omega) e
 .exact u (by omega) e
 .have J:eQ of = -2147483648:=by unfold eQ;rw[Y2 (by omega)]
  have H:eP of=2147483647:=by unfold eP;rw[Y2 (by omega),Y2 (by omega)]
  rw[J,H];have I:∀a,jT l a=true->di (-2147483648) 2147483647 a=true:=λa L=>by
   have G:=w.bw _ (ri l) C;refine G.2.2.2 rfl a ?_;obtain⟨P,K,F⟩:=List.any_eq_true.1 L;exact YE.2 ⟨P,K,by simpa using F⟩
  have k:=tL w (-2147483648) 2147483647;have N:(aV t (-2147483648) 2147483647 b).2.e=b.e:=(fT _ _ _).e;have M:fC (aV t (-2147483648) 2147483647 b).2 of=ri l:=ny (by rw[N];exact C);unfold fR av lift;rw[RN _ I];generalize aV t (-2147483648) 2147483647 b=v at *
  cases B:hG (ap t) (di (-2147483648) 2147483647) d with
  |error h=>
   rw[B]at k;refine k.a2 ?_;exact(ke _ _ _ _).a (ke _ _ _ _)
  |ok R=>
   obtain⟨⟨a,n⟩,a1⟩:=R;rw[B]at k;obtain⟨S,m,rfl,z,D⟩:=k;simp only at z D ⊢;have E:(fC v.2 of).a0.contains a=jT l a:=by
    rw[M];rw[Bool.eq_iff_iff];simp[jT]
   unfold sK sJ;rw[z,E];cases a0:jT l a with
   |false=>
    simp only[Ye,if_false]
    rw[Y9 (c:=v.2.s.e=0/\4<of/\True) ⟨m.e,A,trivial⟩];have:=m.c3 (e:=8) (a:=n) (by omega);exact this.a2 (ke _ _ _ _)
   |true=>
    simp only[if_true]
    rw[Y2 (c:=v.2.s.e=0/\4<of/\_) (λj=>by simp at j)];unfold lC ky;dsimp only;rw[x];by_cases o:g.contains a=true
    .rw[Y9 o,Y9 ⟨m.e,o⟩];exact m.c3 (e:=6) (a:=n) (by omega)
    .rw[Y2 o,Y2 (λj=>o j.2)];exact⟨_,m,rfl,rfl,by simp[x]⟩
def mR(a:Int):List UInt8:=[99,97,115,101,32]++bB a++[58,32]
abbrev la(t:List UInt8)(of:Int)(a:Nat)(b:ac):(Int×Int)×ac:=aV t (eQ of) (eP of) (ab t 2 [99,97,115,101] (ar a 12 b))
abbrev mT(t:List UInt8)(of:Int)(a:List Int)(b:ac):ac:=ab t 4 [58] (sK a (la t of a.length b) (sJ of (la t of a.length b)))
def wW(f:b.s.e=0)(of:Int)(d:Nat)(a:List Int)(c:List UInt8):bT t of (d+1) a c b =
  if ax (mT t of a b) 2 [99,97,115,101]=true then bT t of d (a++[(la t of a.length b).1.1]) (c++[99,97,115,101,32]++bB (la t of a.length b).1.1++[58,32]) (mT t of a b)
  else ((a++[(la t of a.length b).1.1],c++[99,97,115,101,32]++bB (la t of a.length b).1.1++[58,32]),mT t of a b):=by
 conv=>lhs;unfold bT
 rw[Y2 (by simpa using f)]
def PU(c:b.s.e=0)(of:Int)(d:Nat)(a:List Int)(f:List UInt8):aM (mT t of a b) (bT t of (d+1) a f b).2:=by
 rw[wW c];split
 .exact(mS _ _ _ _ _).2.1
 .exact ed _
def yO(of:Int)(a:List Int)(b:ac):aM (la t of a.length b).2 (mT t of a b):=(ke _ _ _ _).a ((ke _ _ _ _).a (aO _ _ _))
def Pt(of:Int)(a:List Int)(b:ac):Sm b (mT t of a b):=(cw _ _ _).a ((an _ _ _).a ((fT _ _ _).a ((jy _ _ _ _).a ((jy _ _ _ _).a (an _ _ _)))))
def nP.of{of:Int}(a:nP b.e of p)(c:Sm b m):nP m.e of p:=by rw[c.e];exact a
def OS{of:Int}:∀(m k:Nat) (u:List Int) (l:List (Int×Int)) (c:List Int) (o:List UInt8) (d:St) (b:ac) (f:bq),Q t f d b->nP b.e of p->l.map (·.1)=c->(c.length<12\/ax b 2 [99,97,115,101]=true)->c.length<=12->13<=c.length+m->13<=c.length+k->
  Sy t (λa5 b3 i=>i=f/\∃n,a5=u++n/\n≠[]/\b3.map (·.1)=c++n/\(bT t of m c o b).1.1=c++n/\(c++n).length<=12/\(bT t of m c o b).1.2=o++n.flatMap mR) (hj (ap t) p k u l d) (bT t of m c o b).2:=by
 intro m;induction m with
 |zero=>intro k u l c o d b f _ _ _ _ z c1;omega
 |succ m b2=>
  intro k u l c o d b f j O K a7 c4 c2 c3;obtain⟨k,rfl⟩:∃e,k=e+1:=⟨k-1,by omega⟩;have M:l.length=c.length:=by rw[<-K];simp
  have y:=PU (t:=t) j.e of m c o;unfold hj;rcases pk t d with⟨A,b4,g⟩|⟨h,g⟩
  .have r:=j.c4 g c.length 12;have J:=j.is g (kd:=2) (l:=[99,97,115,101]) (by decide);by_cases q:ax b 2 [99,97,115,101]=true
   .have v:∀(e:Mar.am->PX (List (Int×Int)) (List Int)),av (lift (bU (ap t) [99,97,115,101])) e l d=e A l { d with m:=b4,A:=none }:=λe=>by
     unfold av lift bU au;rw[mg g];rw[J]at q;simp only;rw[Y9 q];rfl
    rw[v];by_cases C:12<=c.length
    .rw[vM (by rw[M];exact C)];rw[Y9 (by omega)]at r;have this:Er ⟨5,A.m⟩ (ar c.length 12 b):=by rw[r];exact j.c3 (e:=5) (a:=A.m) (by omega)
     exact Y8 (this.a2 ((aO _ _ _).a ((gY _ _ _).a ((yO of c b).a y))))
    .rw[vN (by rw[M];exact C)];rw[Y2 (by omega)]at r;have a6:la t of c.length b=aV t (eQ of) (eP of) (aI t b):=by unfold la;rw[r,mB q]
     have N:=OR (j.c7 g) (p:=p) (of:=of) O l c K;rw[<-a6]at N;refine wE N ((aO _ _ _).a y) ?_;rintro x c5 c6 b7 b5 ⟨rfl,a8,L⟩;refine wE (gg (eL b5 (kd:=4) (l:=[58]) (by decide))) y ?_;rintro c7 D R G E ⟨⟨rfl,-⟩,rfl⟩;have b0:=Pt (t:=t) of c b;have a9:=O.of b0;rw[wW j.e,<-a8];have E:Q t G R (mT t of c b):=E;generalize mT t of c b=F at *
     rcases vR E (kd:=2) (l:=[99,97,115,101]) (by decide)with⟨c0,B,s⟩|⟨P,B,s⟩
     .unfold av lift;rw[B,Y2 (by rw[s.is (by omega)];simp)];exact Ya s
     .have H:∀(e:Bool->PX (List (Int×Int)) (List Int)),av (lift (gc (ap t) [99,97,115,101])) e D R=e (ax F 2 [99,97,115,101]) D P:=λe=>by
       unfold av lift;rw[B]
      rw[H];by_cases w:ax F 2 [99,97,115,101]=true
      .rw[Y9 w,Y9 w];have:=b2 k (u++[x]) D (c++[x]) (o++[99,97,115,101,32]++bB x++[58,32]) P F G s a9 L (Ya w) (by simp;omega) (by simp;omega) (by simp;omega);unfold Sy at this ⊢;split at this
       .obtain⟨b8,b6,rfl,n,a0,b9,a1,a2,a3,a4⟩:=this;exact⟨_,b6,rfl,x::n,by rw[a0];simp,by simp,by rw[a1];simp,by rw[a2];simp,by simpa using a3,by rw[a4];simp[mR]⟩
       .exact this
      .rw[Y2 w,Y2 w];exact⟨_,s,rfl,[x],rfl,by simp,L,rfl,by simp;omega,by simp[mR]⟩
   .have C:c.length<12:=by rcases a7 with z|z;exact z;exact absurd z q
    rw[Y2 (by omega)]at r;have v:∀(e:Mar.am->PX (List (Int×Int)) (List Int)),av (lift (bU (ap t) [99,97,115,101])) e l d=.error ⟨3,A.m⟩:=λe=>by
     unfold av lift bU au;rw[mg g];rw[J]at q;simp only;rw[Y2 q];rfl
    rw[v];have I:=j.fx g;have b1:ab t 2 [99,97,115,101] (ar c.length 12 b)=da b:=by rw[r];exact Ee (by simpa using q)
    rw[<-b1]at I;exact Y8 (I.a2 ((gY _ _ _).a ((yO of c b).a y)))
  .have v:∀(e:Mar.am->PX (List (Int×Int)) (List Int)),av (lift (bU (ap t) [99,97,115,101])) e l d=.error h:=λe=>by
    unfold av lift bU au;rw[ni g]
   rw[v];exact Y8 (((j.bd g).c4 c.length 12).a2 ((aO _ _ _).a ((gY _ _ _).a ((yO of c b).a y))))
def mP(a:aF):List UInt8:=match a.k with
 |.void=>[118,111,105,100,59,32]
 |_=>lj a
def FC{a:aF}{d:List bc}(b:dy d a.k g)(e:0<=g):mP a=lj a:=by
 unfold mP;split
 .rename_i c;rw[c]at b;have:g = -1:=b;omega
 .rfl
def Bd.mL(a:Bd h b)(c:List (List UInt8)):Er h (ce t c b).2:=by
 unfold ce;rw[Y2 (by rw[a.is (by omega)];simp)];exact(a.i2 c false).a2 (aO _ _ _)
def CX(u:Q t f d b)(a:List (List UInt8)):Sx t (λm l i=>i=f.bP (cf m.k)/\dy (ce t a b).2.e m.k (ce t a b).1.1/\(ce t a b).1.2.1=mP m/\(ce t a b).1.2.2=l) (iu (ap t) (aS 0 0) a d) (ce t a b).2:=by
 unfold iu ce;rcases it u (kd:=2) (l:=[118,111,105,100]) (by decide)with⟨s,j,g⟩|⟨p,j,g,n⟩|⟨p,j,g,n⟩
 .rw[Y2 (c:=ax b 2 [118,111,105,100]=true) (by rw[g.is (by omega)];simp)];have k:∀(e:aF->PX (List (List UInt8)) aF),av (av (lift (cZ (ap t) [118,111,105,100])) (mO (ap t) (aS 0 0))) e a d=.error s:=λe=>by
   unfold av lift;rw[j]
  rw[k];exact(g.i2 a false).a2 (aO _ _ _)
 .rw[Y9 (c:=ax b 2 [118,111,105,100]=true) g];have k:∀(e:aF->PX (List (List UInt8)) aF),av (av (lift (cZ (ap t) [118,111,105,100])) (mO (ap t) (aS 0 0))) e a d=e ⟨[],0,.void⟩ a p:=λe=>by
   unfold av lift;rw[j];rfl
  rw[k];refine eM (gg (eL n (kd:=4) (l:=[59]) (by decide))) (ed _) ?_;rintro A l z r o ⟨⟨rfl,-⟩,rfl⟩;exact Sx.ret o ⟨(kQ _).symm,rfl,rfl,rfl⟩
 .rw[Y2 (c:=ax b 2 [118,111,105,100]=true) (by rw[g];simp)];simp only;have w:=yH (G:=λq x l i=>i=f.bP q/\l=a++[x.1]) (λq=>Ac a 0 0) n;have k:∀(e:aF->PX (List (List UInt8)) aF),av (av (lift (cZ (ap t) [118,111,105,100])) (mO (ap t) (aS 0 0))) e a d=av (dY (ap t) (aS 0 0)) e a p:=λe=>by
   unfold av lift;rw[j];rfl
  rw[k];refine wF w (aO _ _ _) (λh v=>v.g9 (by omega)) ?_;rintro m l z r o ⟨⟨rfl,rfl⟩,ok⟩;refine eM (gg (eL o (kd:=4) (l:=[59]) (by decide))) (ed _) ?_;rintro A C D B y ⟨⟨rfl,-⟩,rfl⟩;refine Sx.ret y ⟨rfl,ok.hF,?_,by rw[ok.x]⟩;rw[FC ok.hF ok.gw,ok.cW,ok.dR,ok.x];rfl
end
variable {t : List UInt8} {c i : St} {b j k m n : ac} {h g : bq} {f : Mar.M}
def Sy.l{i h:Type}{R c:h->i->bq->Prop}{e:Except Mar.M (h×i×St)}(a:Sy t R e b)(l:∀d f g,R d f g->c d f g):Sy t c e b:=by
 unfold Sy at *
 split at a
 .obtain⟨g,j,k⟩:=a;exact⟨g,j,l _ _ _ k⟩
 .exact a
def fW.nN{b:List bc}{d:List aF}{e:List Int}(g:fW b d e){c:aF}{f:Int}(i:dy b c.k f)(a:Nat):fW b (d++List.replicate a c) (e++List.replicate a f):=by
 induction a with
 |zero=>simpa using g
 |succ a h=>
  have:=h.fw i;rw[YN,YN,<-List.replicate_succ',<-List.replicate_succ']at this;exact this
def pq(a:List Int×aF):List UInt8:=(if a.1=[]then [100,101,102,97,117,108,116,58,32]else a.1.flatMap mR)++mP a.2
def eo(t:List UInt8)(u:(List Int×List Int×List (List UInt8)×List UInt8)×ac):(Int×List UInt8)×ac:=gj t u.1.2.2.1 u.2
def Dz(a:(List Int×List Int×List (List UInt8)×List UInt8)×ac):aM a.2 (eo t a).2:=Dn _ _
def qr(h:b.s.e=0)(of:Int)(g:Nat)(a f:List Int)(c:List (List UInt8))(d:List UInt8):dO t of (g+1) a f c d b =
  if ax (ce t c (bT t of (14-a.length) a [] b).2).2 2 [99,97,115,101]=true then dO t of g (bT t of (14-a.length) a [] b).1.1 (jR (bT t of (14-a.length) a [] b).1.1.length (ce t c (bT t of (14-a.length) a [] b).2).1.1 f) (ce t c (bT t of (14-a.length) a [] b).2).1.2.2 (d++(bT t of (14-a.length) a [] b).1.2++(ce t c (bT t of (14-a.length) a [] b).2).1.2.1) (ce t c (bT t of (14-a.length) a [] b).2).2
  else (((bT t of (14-a.length) a [] b).1.1,jR (bT t of (14-a.length) a [] b).1.1.length (ce t c (bT t of (14-a.length) a [] b).2).1.1 f,(ce t c (bT t of (14-a.length) a [] b).2).1.2.2,d++(bT t of (14-a.length) a [] b).1.2++(ce t c (bT t of (14-a.length) a [] b).2).1.2.1),(ce t c (bT t of (14-a.length) a [] b).2).2):=by
 conv=>lhs;unfold dO
 rw[Y2 (by simpa using h)]
def Qg(d:b.s.e=0)(of:Int)(f:Nat)(a h:List Int)(c:List (List UInt8))(g:List UInt8):aM (ce t c (bT t of (14-a.length) a [] b).2).2 (dO t of (f+1) a h c g b).2:=by
 rw[qr d];split
 .exact yT _ _ _ _ _ _ _
 .exact ed _
def HW(b:List Int)(c:List Int)(d:Int)(a:List Int)(e:a.length=b.length):jR (b++c).length d a=a++List.replicate c.length d:=by
 unfold jR;rw[Yq,e];congr 2;omega
def Ck(b:List (List Int×aF))(a:List Int)(c:aF):(dG (b++[(a,c)])).map (·.1)=(dG b).map (·.1)++a/\(dG (b++[(a,c)])).map (·.2)=(dG b).map (·.2)++List.replicate a.length c:=by
 unfold dG;constructor
 .simp[Function.comp_def]
 .simp[Function.comp_def,List.map_const']
def xl{b:List (List Int×aF)}(d:hw b=none)(a:List Int)(c:aF):hw (b++[(a,c)])=if a=[]then some c else none:=by
 unfold hw at *
 rw[List.find?_append];cases f:b.find? (λe=>e.1.isEmpty)with
 |some h=>rw[f]at d;cases d
 |none=>
  cases a with
  |nil=>simp
  |cons g a=>simp
def Ay{b:List (List Int×aF)}(c:hw b=none):∀a∈b,a.1≠[]:=by
 intro a d e;unfold hw at c;have:b.find? (λa=>a.1.isEmpty)=none:=by simpa using c
 rw[List.find?_eq_none]at this;exact this a d (by simp[e])
structure wq(arms:List (List Int×aF))(u:(List Int×List Int×List (List UInt8)×List UInt8)×ac)(e:(Int×List UInt8)×ac)(b:List UInt8)(new:List (List Int×aF)):Prop where
 a0:(dG arms).map (·.1)=u.1.1
 bY:fW e.2.e ((dG arms).map (·.2)) u.1.2.1
 eV:match hw arms with
  |none=>e.1.1 = -2
  |some d=>dy e.2.e d.k e.1.1
 b:u.1.2.2.2++e.1.2=b++new.flatMap pq
 lp:∀a∈arms,a.1=[]->hw arms=some a.2
def OP{u:(List Int×List Int×List (List UInt8)×List UInt8)×ac}(B:Q t h c u.2)(d:List (List Int×aF))(l:List (Int×Int))(y:List UInt8)(s:(dG d).map (·.1)=u.1.1)(j:hw d=none)(w:fW u.2.e ((dG d).map (·.2)) u.1.2.1)(x:List (List Int×aF))(v:u.1.2.2.2=y++x.flatMap pq) :
  Sy t (λo _ g=>∃n,g=h.bP (n.flatMap λe=>cf e.2.k)/\o=d++n/\wq o u (eo t u) y (x++n)) (kX (ap t) d (u.1.2.2.1,l) c) (eo t u).2:=by
 unfold kX eo gj;rcases it B (kd:=2) (l:=[100,101,102,97,117,108,116]) (by decide)with⟨N,i,b⟩|⟨H,i,b,k⟩|⟨H,i,b,k⟩
 .rw[um i,Y2 (by rw[b.is (by omega)];simp)];exact Ya b
 .rw[nV i,Y9 b];simp only[if_true]
  refine qO (eM (gg (eL k (kd:=4) (l:=[58]) (by decide))) (wa _ _) ?_);rintro a0 P I K F ⟨⟨rfl,-⟩,rfl⟩;have a:=CX F u.1.2.2.1;have D:cy u.2 (ce t u.1.2.2.1 (ab t 4 [58] (aI t u.2))).2:=((eB _).a (an _ _ _)).p.a (mb _ _);generalize ce t u.1.2.2.1 (ab t 4 [58] (aI t u.2))=J at *
  unfold av hn;simp only;cases q:iu (ap t) (aS 0 0) u.1.2.2.1 I with
  |error f=>rw[q]at a;exact a
  |ok E=>
   obtain⟨p,O,R⟩:=E;rw[q]at a;obtain⟨L,G,C,z,A,M⟩:=a;refine⟨_,G,[([],p)],by rw[C];simp,rfl,?_⟩;have r:=Ck d [] p;refine⟨by rw[r.1,s];simp,by rw[r.2];simpa using w.p D,?_,?_,?_⟩
   .rw[xl j];exact z
   .rw[v,A];simp[pq]
   .intro e a m;rw[xl j,Y9 rfl];rcases Yn.1 a with a|a
    .exact absurd m (Ay j e a)
    .simp at a;subst a;rfl
 .rw[nV i,Y2 (by rw[b];simp)];simp only[Ye,if_false]
  exact⟨_,k,[],(kQ _).symm,by simp,⟨s,w,by rw[j],by simp[v],λe a m=>absurd m (Ay j e a)⟩⟩
def Eo{u:(List Int×List Int×List (List UInt8)×List UInt8)×ac}(a:Bd f u.2):Bd f (eo t u).2:=by
 unfold eo gj;rw[Y2 (by rw[a.is (by omega)];simp)];exact a
def OQ{of:Int}{p:Int->Bool}:∀(o v:Nat) (a:List (List Int×aF)) (m:List (List UInt8)) (l:List (Int×Int)) (k:List Int) (i:List UInt8) (c:St) (b:ac) (h:bq),Q t h c b->nP b.e of p->l.map (·.1)=(dG a).map (·.1)->(((dG a).map (·.1)).length<12\/ax b 2 [99,97,115,101]=true)->((dG a).map (·.1)).length<=12->13<=((dG a).map (·.1)).length+o->13<=((dG a).map (·.1)).length+v->hw a=none->fW b.e ((dG a).map (·.2)) k->
  Sy t (λB _ g=>∃x,g=h.bP (x.flatMap λb0=>cf b0.2.k)/\B=a++x/\wq B (dO t of o ((dG a).map (·.1)) k m i b) (eo t (dO t of o ((dG a).map (·.1)) k m i b)) i x/\cy b (eo t (dO t of o ((dG a).map (·.1)) k m i b)).2) (ht (ap t) p v a (m,l) c) (eo t (dO t of o ((dG a).map (·.1)) k m i b)).2:=by
 intro o;induction o with
 |zero=>intro v a m l k i c b h _ _ _ _ q P;omega
 |succ o c8=>
  intro v a m l k i c b h K a6 c2 c1 c4 d9 e0 c0 a4;obtain⟨v,rfl⟩:∃c9,v=c9+1:=⟨v-1,by omega⟩;have G:=(Qg (t:=t) K.e of o ((dG a).map (·.1)) k m i).a (Dz (t:=t) _);have r:=OS (t:=t) (of:=of) (p:=p) (14-((dG a).map (·.1)).length) 13 [] l ((dG a).map (·.1)) [] c b h K a6 c2 c1 c4 (by omega) (by omega);have c7:=(mS (t:=t) of (14-((dG a).map (·.1)).length) ((dG a).map (·.1)) [] b).1;rw[qr K.e]at G ⊢;have a3:=a4.1;rw[YU,<-YU (f:=λd6:Int×aF=>d6.1)]at a3;generalize c6:(dG a).map (·.1)=y at *
  generalize bT t of (14-y.length) y [] b=M at *
  unfold ht av kF;simp only;have b9:cases (ap t) p l c=hj (ap t) p 13 [] l c:=rfl;rw[b9];cases S:hj (ap t) p 13 [] l c with
  |error f=>
   rw[S]at r;rcases r with r|r
   .exact Y8 (r.a2 ((wa _ _).a G))
   .exact Y8 ((r.mL m).a2 G)
  |ok L=>
   obtain⟨d,a7,d4⟩:=L;rw[S]at r;obtain⟨d7,d1,rfl,e2,N,C,b4,b5,b6,O⟩:=r;simp only[YT]at N O;subst N;have D:=CX d1 m;have E:cy b (ce t m M.2).2:=c7.p.a (mb _ _);generalize ce t m M.2=n at *
   simp only;unfold hn;simp only;cases a0:iu (ap t) (aS 0 0) m d4 with
   |error f=>rw[a0]at D;exact Y8 (Er.a2 D G)
   |ok L=>
    obtain⟨j,F,e3⟩:=L;rw[a0]at D;obtain⟨a8,d2,R,b1,b2,b3⟩:=D;simp only;rw[b5,HW y d n.1.1 k a3,b2,b3,O];have s:=Ck a d j;have a5:fW n.2.e ((dG (a++[(d,j)])).map (·.2)) (k++List.replicate d.length n.1.1):=by
     rw[s.2];exact(a4.p E).nN b1 _
    have a1:hw (a++[(d,j)])=none:=by rw[xl c0,Y2 C]
    rw[c6]at s;have a2:i++d.flatMap mR++mP j=i++[(d,j)].flatMap pq:=by simp[pq,C]
    unfold lift;rcases vR d2 (kd:=2) (l:=[99,97,115,101]) (by decide)with⟨d8,H,z⟩|⟨d3,H,z⟩
    .rw[H,Y2 (by rw[z.is (by omega)];simp)];exact Ya (Eo (u:=((y++d,k++List.replicate d.length n.1.1,F,i++d.flatMap mR++mP j),n.2)) z)
    .rw[H];simp only;by_cases A:ax n.2 2 [99,97,115,101]=true
     .rw[Y9 A,Y9 A,<-s.1];have:=c8 v (a++[(d,j)]) F a7 (k++List.replicate d.length n.1.1) (i++d.flatMap mR++mP j) d3 n.2 a8 z (by
       obtain⟨e1,c3,-⟩:=E.e;rw[c3];rcases a6 with q|q|q|⟨q,d0,P,b8⟩
       .exact Y8 q
       .exact Ya (Y8 q)
       .exact Ya (Ya (Y8 q))
       .exact Ya (Ya (Ya ⟨q,d0,mc P,b8⟩))) (by rw[s.1];exact b4) (Ya A) (by rw[s.1];exact b6) (by rw[s.1];have:0<d.length:=YM.2 C;simp;omega) (by rw[s.1];have:0<d.length:=YM.2 C;simp;omega) a1 a5
      refine this.l ?_;rintro B d5 a9 ⟨x,I,J,w,b7⟩;refine⟨(d,j)::x,by rw[I,R,qC];simp,by rw[J];simp,⟨w.a0,w.bY,w.eV,?_,w.lp⟩,E.a b7⟩;rw[w.b,a2];simp
     .rw[Y2 A,Y2 A];have:=OP (t:=t) (u:=((y++d,k++List.replicate d.length n.1.1,F,i++d.flatMap mR++mP j),n.2)) z (a++[(d,j)]) a7 i s.1 a1 a5 [(d,j)] a2;have c5:cy b (eo t ((y++d,k++List.replicate d.length n.1.1,F,i++d.flatMap mR++mP j),n.2)).2:=E.a (sP _ _);refine this.l ?_;rintro B d5 a9 ⟨x,I,J,w⟩;exact⟨(d,j)::x,by rw[I,R,qC];simp,by rw[J];simp,by simpa using w,c5⟩
variable {t : List UInt8} {st g : St} {a f h i j : ac} {b c : bq} {e : Mar.M}
def LY(a:ac):bV t [] false a=cJ t a:=by
 unfold bV;simp
def jG.p{b c:Nl}{d:Ty}{of:Int}(e:jG a.e b d of)(h:cy a f)(i:Kp b c):jG f.e c d of:=by
 obtain⟨j,g,-⟩:=h.e;rw[g];exact e.bv j i
def jG.K{a:List bc}{f:Nl}{g:Ty}{of:Int}(d:jG a f g of)(j:5<=a.length):of<a.length:=by
 rcases d with⟨k,-,e,b⟩|⟨m,h,n,i,l,-,e,-,b⟩
 .omega
 .have:of.toNat<a.length:=by
   rcases Yj of.toNat a.length with c|c
   .exact c
   .rw[YA c]at b;cases b
  omega
def DV(c:List UInt8)(a:aF)(b:List (List Int×aF)):List UInt8:=[117,110,105,111,110,32]++c++[32,115,119,105,116,99,104,32,40]++ib a.k++[32]++a.t++[41,32,123,32]++b.flatMap pq++[125,59,10]
def Oz{h k:Type}{i:k->h->bq->Prop}{d:PX h k}{g:h}(b:Sx t i (d g st) a):S t (λf c=>i f.1 f.2 c) (fE d g st) a:=by
 unfold fE;cases j:d g st with
 |ok f=>rw[j]at b;exact b
 |error e=>rw[j]at b;exact b
def OA{h k:Type}{i:k->h->bq->Prop}{d:PX h k}{g:h}(b:Sy t i (d g st) a):Sw t (λf c=>i f.1 f.2 c) (fE d g st) a:=by
 unfold fE;cases j:d g st with
 |ok f=>rw[j]at b;exact b
 |error e=>rw[j]at b;exact b
def Pk{r:Mar.am}{p:Nat}(a4:Q t b st a)(B:b.pd=[])(c3:b.dc=0)(A:ea t st.m st.A=.ok (r,p))(c4:ax a 2 [117,110,105,111,110]=true) :
  S t (λd c=>∃b4 E j h,d=.union b4 E j h/\oU b c d (DV b4 j h) []) (hS (dP (ap t) r.m) { st with m:=p,A:=none }) (fU t (ge a)):=by
 by_cases x:24<=st.j
 .have s:dP (ap t) r.m { st with m:=p,A:=none } = .error ⟨5,r.m⟩:=vk (st:={ st with m:=p,A:=none }) x _ _;rw[hT s];exact(vG a4 A x).a2 (Qf _)
 .have d0:=vF a4 A c4 x;have c6:dP (ap t) r.m { st with m:=p,A:=none } = au (gp (ap t)) (oL (ap t)) { st with m:=p,A:=none,j:=st.j+1 }:=vl (st:={ st with m:=p,A:=none }) x _ _;unfold fU;simp only;generalize ab t 2 [117,110,105,111,110] (ge a)=e7 at *
  generalize c8:aG t 2 e7=m;generalize K:bR t (ab t 4 [40] (ab t 2 [115,119,105,116,99,104] m.2))=i;generalize y:cJ t i.2=k;generalize a8:dO t i.1.1 14 [] [] [k.1.text] ([117,110,105,111,110,32]++m.1.text++[32,115,119,105,116,99,104,32,40]++i.1.2++[32]++k.1.text++[41,32,123,32]) (ab t 4 [123] (ab t 4 [41] k.2))=f;have b6:aM (eo t f).2 (ab t 4 [59] (ab t 4 [125] (eo t f).2)):=(aO _ _ _).a (aO _ _ _);have a0:aM (ab t 4 [123] (ab t 4 [41] k.2)) (ab t 4 [59] (ab t 4 [125] (eo t f).2)):=by
   refine aM.a ?_ ((Dz f).a b6);rw[<-a8];exact yT _ _ _ _ _ _ _
  have R:aM k.2 (ab t 4 [59] (ab t 4 [125] (eo t f).2)):=(aO _ _ _).a ((aO _ _ _).a a0);have b5:aM i.2 (ab t 4 [59] (ab t 4 [125] (eo t f).2)):=by
   refine aM.a ?_ R;rw[<-y];exact rV _
  have P:aM (ab t 4 [40] (ab t 2 [115,119,105,116,99,104] m.2)) (ab t 4 [59] (ab t 4 [125] (eo t f).2)):=by
   refine aM.a ?_ b5;rw[<-K];exact Dt _
  have s:S t (λd c=>∃(g:List UInt8×Nat) (j:aF) (h:List (List Int×aF)),d=.union g.1 g.2 j h/\m.1.text=g.1/\jG (eo t f).2.e (b.z++[(g.1,none)]) j.k i.1.1/\wq h f (eo t f) ([117,110,105,111,110,32]++g.1++[32,115,119,105,116,99,104,32,40]++ib j.k++[32]++j.t++[41,32,123,32]) h/\c=(b.L g.1).bP (h.flatMap λE=>cf E.2.k)/\ay b.z g.1=none/\At g.1 g.2 (eo t f).2.g)
    (dP (ap t) r.m { st with m:=p,A:=none }) (ab t 4 [59] (ab t 4 [125] (eo t f).2)):=by
   rw[c6];have a5:=rO d0 B;rw[c8]at a5;refine fc a5 ((aO _ _ _).a ((aO _ _ _).a P)) ?_;rintro g g0 b9 q ⟨rfl,D,h0,e2,e3⟩;unfold oL;refine fc (eL q (kd:=2) (l:=[115,119,105,116,99,104]) (by decide)) ((aO _ _ _).a P) ?_;rintro n g2 e9 M ⟨rfl,-⟩;refine fc (eL M (kd:=4) (l:=[40]) (by decide)) P ?_;rintro n g3 f0 N ⟨rfl,-⟩;have a7:=Pg N B;rw[K]at a7;refine zJ a7 b5 (λe L=>?_) ?_
   .have:=L.co (t:=t);rw[y]at this;exact this.a2 R
   rintro C g4 f1 O ⟨rfl,e4,e5,e6⟩;unfold qq;have a6:=vV (t:=t) O [] 0 0;rw[LY,y]at a6;refine fc (Oz a6) R ?_;rintro b3 g5 f2 d2 ⟨rfl,a2,h1,b7⟩;unfold rY;refine fc (eL d2 (kd:=4) (l:=[41]) (by decide)) ((aO _ _ _).a a0) ?_;rintro n g6 f3 d3 ⟨rfl,-⟩;refine fc (eL d3 (kd:=4) (l:=[123]) (by decide)) a0 ?_;rintro n d8 f4 d4 ⟨rfl,-⟩;have b0:Sm i.2 (ab t 4 [123] (ab t 4 [41] k.2)):=by
    rw[<-y];exact(iX _).a ((an _ _ _).a (an _ _ _))
   have I:=OQ (t:=t) (of:=i.1.1) (p:=C.2) 14 13 [] b3.2 [] [] ([117,110,105,111,110,32]++m.1.text++[32,115,119,105,116,99,104,32,40]++i.1.2++[32]++k.1.text++[41,32,123,32]) d8 (ab t 4 [123] (ab t 4 [41] k.2)) _ d4 (e6.of b0) rfl (Y8 (by simp[dG])) (by simp[dG]) (by simp[dG]) (by simp[dG]) rfl ⟨rfl,λb2 p k A=>by simp at A⟩;rw[b7,show (List.map (λn:Int×aF=>n.1) (dG []))=[]from rfl]at I;rw[<-a2]at I;have J:=OA I;simp only[YT]at J;rw[a8]at J;rw[b7,<-a2];refine zJ J b6 (λe L=>(L.g9 (by omega)).a2 (aO _ _ _)) ?_;rintro d7 g7 f5 d5 ⟨f9,d9,a1,e0,e1⟩;unfold kM oJ;refine fc (eL d5 (kd:=4) (l:=[125]) (by decide)) (aO _ _ _) ?_;rintro n g8 f6 d6 ⟨rfl,-⟩;refine fc (eL d6 (kd:=4) (l:=[59]) (by decide)) (ed _) ?_;rintro n g1 e8 d1 ⟨rfl,-⟩;have b1:cy i.2 (eo t f).2:=b0.p.a e1;have c7:(eo t f).2.g=m.2.g:=by
    have:i.2.g=m.2.g:=by rw[<-K];exact((an _ _ _).a ((an _ _ _).a (oD _))).g
    rw[<-this];exact b1.g
   refine S.ret d1 ⟨g,⟨k.1.text,b3.1.2,C.1⟩,d7.1,by rw[a2],D,e4.p b1 (zy _),?_,by rw[d9,a1],e2,by rw[c7,e3];exact wI _ g _ _⟩;rw[a1,<-D,<-e5];simpa[a1]using e0
  show S t _ _ (dV (f.1.2.2.2++(eo t f).1.2++[125,59,10]) (cX m.1.text (ab t 4 [59] (ab t 4 [125] (eo t f).2)).e.length (bJ ⟨13,0,i.1.1,f.1.1,f.1.2.1,(eo t f).1.1,[],0⟩ (ab t 4 [59] (ab t 4 [125] (eo t f).2)))));cases z:dP (ap t) r.m { st with m:=p,A:=none }with
  |error e=>
   rw[z]at s;rw[hT z];exact Er.a2 s ((fq _ _).a ((rU _ _ _).a (mv _ _)))
  |ok C=>
   obtain⟨d,g9⟩:=C;rw[z]at s;obtain⟨b9,q,g,j,h,rfl,D,w,u,rfl,a3,F⟩:=s;rw[oj z,D,u.b,<-u.a0];have w:jG (ab t 4 [59] (ab t 4 [125] (eo t f).2)).e (b.z++[(g.1,none)]) j.k i.1.1:=w;have F:At g.1 g.2 (ab t 4 [59] (ab t 4 [125] (eo t f).2)).g:=F;have G:fW (ab t 4 [59] (ab t 4 [125] (eo t f).2)).e ((dG h).map (·.2)) f.1.2.1:=u.bY;have o:match hw h with
    |none=>(eo t f).1.1 = -2
    |some d=>dy (ab t 4 [59] (ab t 4 [125] (eo t f).2)).e d.k (eo t f).1.1:=u.eV
   have c0:=u.lp;generalize ab t 4 [59] (ab t 4 [125] (eo t f).2)=b8 at *
   generalize (eo t f).1.1=H at *
   have c5:=G.K q.g3;have f7:H<b8.e.length:=by
    cases v:hw h with
    |none=>rw[v]at o;simp only at o;have:=q.g3;omega
    |some d=>rw[v]at o;exact dy.K q.g3 o
   have f8:=w.K q.g3;have M:=q.row (r:=⟨13,0,i.1.1,(dG h).map (·.1),f.1.2.1,H,[],0⟩) ⟨by simp<;>omega,λn c9=>(by have:=c5 n c9;omega),by simp<;>omega,by simp⟩ (by simp);have a9:ay (b.L g.1).z g.1=some none:=by rw[nc _ _ _ a3,Y9 rfl]
   have N:=M.ks (d:=.union g.1 g.2 j h) (n:=b8.e.length) a9 B F rfl ⟨by simp,i.1.1,f.1.2.1,H,mn _ _,w.bv _ (Bm _ a9),by rw[G.1];simp,λb2 p k c1 c2=>(G.2 b2 p k.2 c1 (by rw[List.getElem?_map,c2];rfl)).bv _,by
    cases v:hw h with
    |none=>rw[v]at o;exact o
    |some d=>rw[v]at o;exact dy.bv _ o,c0⟩
   have O:=N.bn (([117,110,105,111,110,32]++g.1++[32,115,119,105,116,99,104,32,40]++ib j.k++[32]++j.t++[41,32,123,32])++h.flatMap pq++[125,59,10]);exact⟨_,O,g.1,g.2,j,h,rfl,⟨B,c3,rfl,rfl,by simp[bq.bP],rfl,[],qj a3,by simp⟩⟩
variable {t : List UInt8} {b i : St} {a g j k h : ac} {c d : bq} {f : Mar.M}
def Db(g:Q t c b a)(l:List (Int×Int))(e:List Int)(j:l.map (·.1)=e):Sx t (λf k d=>d=c/\f=(bC t e a).1/\k.map (·.1)=e++[f]) (lZ (ap t) l b) (bC t e a).2:=by
 refine eM (gg (eL g (kd:=4) (l:=[61]) (by decide))) ((gY _ _ _).a ((ke _ _ _ _).a (aO _ _ _))) ?_;rintro q m x r n ⟨⟨rfl,-⟩,rfl⟩;refine eM (vU n m e j 0 4294967295) (aO _ _ _) ?_;rintro f v y s o ⟨rfl,h,i,-,-⟩;refine eM (gg (eL o (kd:=4) (l:=[59]) (by decide))) (ed _) ?_;rintro q w z u p ⟨⟨rfl,-⟩,rfl⟩;exact Sx.ret p ⟨rfl,h,i⟩
def SK(b:Bd f a):Er f (eA t a).2:=by
 unfold eA;rw[Y2 (by rw[b.is (by omega)];simp)];exact b.f
def De(m:Q t c b a):Sw t (λi d=>d=c.bP (cf i)/\dy (eA t a).2.e i (eA t a).1.1/\(eA t a).1.2=ib i) (lB (ap t) b) (eA t a).2:=by
 unfold lB eA;rcases it m (kd:=2) (l:=[118,111,105,100]) (by decide)with⟨s,f,e⟩|⟨j,f,e,g⟩|⟨j,f,e,g⟩
 .unfold au;rw[f,Y2 (by rw[e.is (by omega)];simp)];exact Y8 e.f
 .unfold au;rw[f,Y9 e];exact⟨c,g,(kQ c).symm,rfl,rfl⟩
 .have k:∀(h:Bool->PM Ty),au (cZ (ap t) [118,111,105,100]) h b=h false j:=λh=>by unfold au;rw[f]
  rw[k,Y2 (by rw[e];simp)];simp only[Ye,if_false]
  have:=Dc g;unfold Sw at this ⊢;split at this
  .obtain⟨r,q,n,-,o,p⟩:=this;exact⟨_,q,n,o,p⟩
  .exact this
def XL(d:List bc)(g:Int)(e:List (Int×es))(f:List bi):Prop:=f.length=e.length/\∀(c:Nat) (b:Int×es) (a:bi),e[c]? = some b->f[c]? = some a->a.prog=g/\a.cv=b.1/\a.kd=b.2.num/\dy d b.2.b3 a.b3/\dy d b.2.cc a.cc
def zN(c:List bc)(b:Int):XL c b [] []:=⟨rfl,λe d f a=>by simp at a⟩
def XL.bv{f:List bc}{e:Int}{g k:List (Int×es)}{m n:List bi}(a:XL f e g m)(j:XL f e k n):XL f e (g++k) (m++n):=by
 refine⟨by simp[a.1,j.1],?_⟩;intro i h l c d;rcases Yj i g.length with b|b
 .rw[Ys b]at c;rw[Ys (by rw[a.1];exact b)]at d;exact a.2 i h l c d
 .rw[Yw b]at c;rw[Yw (by rw[a.1];exact b),a.1]at d;exact j.2 _ h l c d
def XL.p{d:Int}{e:List (Int×es)}{f:List bi}(b:XL a.e d e f)(c:cy a g):XL g.e d e f:=⟨b.1,λp h q n o=>by
 obtain⟨i,j,k,l,m⟩:=b.2 p h q n o;exact⟨i,j,k,l.p c,m.p c⟩⟩
def XL.cv{l:List bc}{k:Int}{g:List es}{h:List bi}(i:XL l k (g.map λc=>(0,c)) h)(j:Int):XL l k (g.map λc=>(j,c)) (h.map λq=>{ q with cv:=j }):=by
 refine⟨by have:=i.1;simp at *;exact this,?_⟩;intro f s u a b;rw[List.getElem?_map]at a b;cases d:g[f]? with
 |none=>rw[d]at a;cases a
 |some c=>
  cases e:h[f]? with
  |none=>rw[e]at b;cases b
  |some r=>
   rw[d]at a;rw[e]at b;simp at a b;obtain⟨m,t,n,o,p⟩:=i.2 f (0,c) r (by rw[List.getElem?_map,d];rfl) e;subst a;subst b;exact⟨m,rfl,n,o,p⟩
def XL.prog{f:List bc}{g:List (Int×es)}{c:List bi}(d:XL f 0 g c)(n:Int):XL f n g (c.map λo=>{ o with prog:=n }):=by
 refine⟨by have:=d.1;simp at *;exact this,?_⟩;intro e h r m a;rw[List.getElem?_map]at a;cases b:c[e]? with
 |none=>rw[b]at a;cases a
 |some p=>
  rw[b]at a;simp at a;obtain⟨q,i,j,k,l⟩:=d.2 e h p m b;subst a;exact⟨rfl,i,j,k,l⟩
def rH(a:es):List UInt8:=ib a.cc++[32]++a.t++[40]++ib a.b3++[41,32,61,32]++bB a.num++[59,32]
abbrev jZ(t:List UInt8)(b:Nat)(a:ac):(Int×List UInt8)×ac:=eA t (ar b 8 a)
abbrev ml(t:List UInt8)(b:Nat)(c:List (List UInt8))(a:ac):ee×ac:=bV t c false (jZ t b a).2
abbrev kG(t:List UInt8)(b:Nat)(c:List (List UInt8))(a:ac):(Int×List UInt8)×ac:=eA t (ab t 4 [40] (ml t b c a).2)
abbrev fB(t:List UInt8)(b:Nat)(d:List (List UInt8))(c:List Int)(a:ac):Int×ac:=bC t c (ab t 4 [41] (kG t b d a).2)
abbrev vA(t:List UInt8)(b:List bi)(c:List (List UInt8))(d:List Int)(a:ac):List bi:=b++[⟨0,0,(fB t b.length c d a).1,(kG t b.length c a).1.1,(jZ t b.length a).1.1⟩]
def yt(h:a.s.e=0)(g:Nat)(b:List bi)(c:List (List UInt8))(d:List Int)(f:List UInt8):eX t (g+1) b c d f a =
  if ax (fB t b.length c d a).2 4 [125]=true then ((vA t b c d a,f++(jZ t b.length a).1.2++[32]++(ml t b.length c a).1.text++[40]++(kG t b.length c a).1.2++[41,32,61,32]++bB (fB t b.length c d a).1++[59,32]),(fB t b.length c d a).2)
  else eX t g (vA t b c d a) (c++[(ml t b.length c a).1.text]) (d++[(fB t b.length c d a).1]) (f++(jZ t b.length a).1.2++[32]++(ml t b.length c a).1.text++[40]++(kG t b.length c a).1.2++[41,32,61,32]++bB (fB t b.length c d a).1++[59,32]) (fB t b.length c d a).2:=by
 conv=>lhs;unfold eX
 rw[Y2 (by simpa using h)]
def Dv(b:Nat)(d:List (List UInt8))(c:List Int)(a:ac):aM (ar b 8 a) (fB t b d c a).2:=(rT _).a ((lF _ _ _).a ((aO _ _ _).a ((rT _).a ((aO _ _ _).a (mu _ _)))))
def HH(b:Nat)(d:List (List UInt8))(c:List Int)(a:ac):cy a (fB t b d c a).2:=(cw _ _ _).p.a ((sQ _).a ((gW _ _ _).p.a ((an _ _ _).p.a ((sQ _).a ((an _ _ _).p.a (mY _ _))))))
def yR(b:Nat)(d:List bi)(g:List (List UInt8))(e:List Int)(f:List UInt8)(a:ac):aM a (eX t b d g e f a).2:=λc=>by
 cases b with
 |zero=>exact⟨rfl,rfl⟩
 |succ b=>unfold eX;rw[Y9 c];exact⟨rfl,rfl⟩
def Dw(f:a.s.e=0)(g:Nat)(b:List bi)(d:List (List UInt8))(c:List Int)(h:List UInt8):aM (fB t b.length d c a).2 (eX t (g+1) b d c h a).2:=by
 rw[yt f];split
 .exact ed _
 .exact yR _ _ _ _ _ _
def Pb(J:Q t c b a){g:Nat}(N:ar g 8 a=a)(e:List (List UInt8))(j:List (Int×Int))(i:List Int)(O:j.map (·.1)=i) :
  Sx t (λh o d=>d=c.bP (lq h)/\o.1=e++[h.t]/\o.2.map (·.1)=i++[h.num]/\(ml t g e a).1.text=h.t/\(fB t g e i a).1=h.num/\dy (fB t g e i a).2.e h.cc (jZ t g a).1.1/\dy (fB t g e i a).2.e h.b3 (kG t g e a).1.1/\(jZ t g a).1.2=ib h.cc/\(kG t g e a).1.2=ib h.b3) (jw (ap t) (e,j) b) (fB t g e i a).2:=by
 unfold jw;have w:=De J;have I:jZ t g a=eA t a:=by unfold jZ;rw[N]
 rw[<-I]at w;have u:aM (kG t g e a).2 (fB t g e i a).2:=(aO _ _ _).a (mu _ _);have v:aM (ml t g e a).2 (fB t g e i a).2:=(aO _ _ _).a ((rT _).a u);have y:cy (kG t g e a).2 (fB t g e i a).2:=(an _ _ _).p.a (mY _ _);have a5:cy (jZ t g a).2 (fB t g e i a).2:=(gW _ _ _).p.a ((an _ _ _).p.a ((sQ _).a y));refine wF (zI w) ((lF _ _ _).a v) (λf q=>(q.ij e false).a2 v) ?_;rintro b4 b5 x z P ⟨⟨L,B,C⟩,rfl⟩;have m:=vV P e 0 0;have K:Sx t (λr (o:eU) d=>d=z/\(ml t g e a).1.text=r.1/\o=(e++[r.1],j)) (hn (name (ap t) (aS 0 0)) (e,j) x) (ml t g e a).2:=by
  unfold hn;simp only;cases k:name (ap t) (aS 0 0) e x with
  |error f=>rw[k]at m;exact m
  |ok h=>
   rw[k]at m;obtain⟨A,s,rfl,p,b1,D⟩:=m;exact⟨_,s,rfl,p,by rw[D]⟩
 refine eM K v ?_;rintro r b6 c0 A s ⟨rfl,p,rfl⟩;refine eM (gg (eL s (kd:=4) (l:=[40]) (by decide))) ((rT _).a u) ?_;rintro a4 b7 c1 a6 R ⟨⟨rfl,-⟩,rfl⟩;refine wF (zI (De R)) u (λf q=>(q.g9 (by omega)).a2 (mu _ _)) ?_;rintro b0 b8 c2 a7 a0 ⟨⟨M,E,F⟩,rfl⟩;refine eM (gg (eL a0 (kd:=4) (l:=[41]) (by decide))) (mu _ _) ?_;rintro a4 b9 a3 a8 a1 ⟨⟨rfl,-⟩,rfl⟩;have n:=Db a1 j i O;unfold av kF;simp only;cases k:lZ (ap t) j a3 with
 |error f=>rw[k]at n;exact n
 |ok h=>
  obtain⟨b2,b3,c3⟩:=h;rw[k]at n;obtain⟨a9,a2,rfl,G,H⟩:=n;exact⟨_,a2,by rw[M,L,qC];rfl,rfl,H,p,G.symm,B.p a5,E.p y,C,F⟩
def Pc:∀(m:Nat) (k:List es) (l:List bi) (g:List (List UInt8)) (q:List (Int×Int)) (j:List Int) (n:List UInt8) (b:St) (a:ac) (c:bq),Q t c b a->q.map (·.1)=j->k.length+m=9->k.length<=8->XL a.e 0 (k.map λi=>(0,i)) l->
  Sx t (λ_ p d=>∃u,d=c.bP (u.flatMap lq)/\p.1=k++u/\XL (eX t (m+1) l g j n a).2.e 0 ((k++u).map λi=>(0,i)) (eX t (m+1) l g j n a).1.1/\(eX t (m+1) l g j n a).1.2=n++u.flatMap rH/\cy a (eX t (m+1) l g j n a).2) (lU (ap t) 8 (jA (ap t)) m k.length (k,(g,q)) b) (ab t 4 [125] (eX t (m+1) l g j n a).2):=by
 intro m;induction m with
 |zero=>intro k l g q j n b a c _ _ c4 c5;omega
 |succ m b7=>
  intro k l g q j n b a c r b4 c6 c7 w;have M:l.length=k.length:=by have:=w.1;simpa using this
  have R:=(Dw (t:=t) r.e (m+1) l g j n).a (aO (t:=t) 4 [125] _);have D:=(Dv (t:=t) l.length g j a).a R;unfold lU;rcases pk t b with⟨E,p,s⟩|⟨f,s⟩
  .rw[ys s];have x:=r.c4 s l.length 8;by_cases J:8<=k.length
   .rw[vM J];rw[Y9 (by rw[M];omega)]at x;rw[x]at D;exact(r.c3 (e:=5) (a:=E.m) (by omega)).a2 D
   .rw[vN J];rw[Y2 (by rw[M];omega)]at x;have y:=Pb (r.f2 s) x g q j b4;have b6:Sx t (λ_ (p:List es×eU) d=>∃i,d=c.bP (lq i)/\p.1=k++[i]/\p.2.1=g++[i.t]/\p.2.2.map (·.1)=j++[i.num]/\(ml t l.length g a).1.text=i.t/\(fB t l.length g j a).1=i.num/\dy (fB t l.length g j a).2.e i.cc (jZ t l.length a).1.1/\dy (fB t l.length g j a).2.e i.b3 (kG t l.length g a).1.1/\(jZ t l.length a).1.2=ib i.cc/\(kG t l.length g a).1.2=ib i.b3) (jA (ap t) (k,(g,q)) { b with m:=p,A:=some E }) (fB t l.length g j a).2:=by
     unfold jA;simp only;cases L:jw (ap t) (g,q) { b with m:=p,A:=some E }with
     |error f=>rw[L]at y;exact y
     |ok i=>
      rw[L]at y;obtain⟨a1,c1,b3,a3⟩:=y;exact⟨_,c1,i.1,b3,rfl,a3⟩
    refine eM b6 R ?_;rintro c2 b8 d1 a0 c0 ⟨i,K,F,G,H,I,A,a4,a5,a6,a7⟩;have C:=HH (t:=t) l.length g j a;rw[yt r.e];have N:XL (fB t l.length g j a).2.e 0 ((k++[i]).map λi=>(0,i)) (vA t l g j a):=by
     rw[List.map_append];refine(w.p C).bv ⟨rfl,?_⟩;intro O a2 d2 B w;match O with
     |0=>
      simp at B w;subst B;subst w;exact⟨rfl,rfl,A,a5,a4⟩
     |O+1=>simp at B
    have b5:n++(jZ t l.length a).1.2++[32]++(ml t l.length g a).1.text++[40]++(kG t l.length g a).1.2++[41,32,61,32]++bB (fB t l.length g j a).1++[59,32]=n++rH i:=by
     rw[a6,I,a7,A];simp[rH]
    rw[b5,I,A];obtain⟨c8,c9,b9⟩:=b8;simp only at F G H;subst F;subst G;generalize vA t l g j a=P at *
    generalize (fB t l.length g j a).2=h at *
    rw[wO];rcases it c0 (kd:=4) (l:=[125]) (by decide)with⟨c3,v,o⟩|⟨S,v,o,z⟩|⟨S,v,o,z⟩
    .rw[um v,Y2 (by rw[o.is (by omega)];simp)];exact(((o.c4 (P.length) 8).a2 (Dv _ _ _ _)).a2 (Dw o.e m _ _ _ _)).a2 (aO _ _ _)
    .rw[nV v,Y9 o,mB o];exact⟨_,z,[i],by rw[K];simp,rfl,N,by simp,C⟩
    .rw[nV v,Y2 (by rw[o];simp)];simp only[Ye,if_false]
     have:=b7 (k++[i]) P (g++[i.t]) b9 (j++[i.num]) (n++rH i) S h a0 z H (by simp;omega) (by simp;omega) N;rw[show (k++[i]).length=k.length+1 by simp]at this;refine this.l ?_;rintro c2 d0 a1 ⟨u,a8,a9,b0,b1,b2⟩;refine⟨i::u,by rw[a8,K,qC];simp,by rw[a9];simp,?_,by rw[b1];simp,C.a b2⟩;simpa using b0
  .rw[yr s];exact((r.bd s).c4 _ _).a2 D
variable {t : List UInt8} {st h : St} {b i j σ1 σ2 : ac} {c f : bq} {g : Mar.M}
def oN(v:eH):List UInt8:=[118,101,114,115,105,111,110,32]++v.t++[32,123,32]++v.u.flatMap rH++[125,32,61,32]++bB v.num++[59,32]
def nE(v:eH):List (Int×es):=v.u.map λa=>(v.num,a)
def CL{e:Type}{h:Unit->e->bq->Prop}{c:PX e Unit}{d:e}(a:Sx t h (c d st) b):S t (λj f=>h () j f) (hZ c d st) b:=by
 unfold hZ;cases i:c d st with
 |ok j=>rw[i]at a;exact a
 |error g=>rw[i]at a;exact a
def Pl(J:Q t c st b)(a:List (List UInt8))(j:List (Int×Int))(d:List Int)(N:j.map (·.1)=d) :
  Sx t (λv u f=>f=c.bP (eZ v)/\u.1=a++[v.t]/\u.2.map (·.1)=d++[v.num]/\(eE t a d b).1.a8=v.t/\(eE t a d b).1.num=v.num/\(eE t a d b).1.b=oN v/\XL (eE t a d b).2.e 0 (nE v) (eE t a d b).1.l) (jz (ap t) (a,j) st) (eE t a d b).2:=by
 unfold jz eE;simp only;generalize C:bV t a false (ab t 2 [118,101,114,115,105,111,110] b)=h;generalize B:eX t 10 [] [] [] ([118,101,114,115,105,111,110,32]++h.1.text++[32,123,32]) (ab t 4 [123] h.2)=e;have y:aM (ab t 4 [125] e.2) (bC t d (ab t 4 [125] e.2)).2:=mu _ _;have z:aM (ab t 4 [123] h.2) (ab t 4 [125] e.2):=by
  refine aM.a ?_ (aO _ _ _);rw[<-B];exact yR _ _ _ _ _ _
 refine eM (gg (eL J (kd:=2) (l:=[118,101,114,115,105,111,110]) (by decide))) ?_ ?_
 .refine aM.a ?_ ((aO 4 [123] h.2).a (z.a y));rw[<-C];exact lF _ _ _
 rintro a7 b4 D E R ⟨⟨rfl,-⟩,rfl⟩;have k:=vV R a 0 0;rw[C]at k;have K:Sx t (λq (u:eU) f=>f=E/\h.1.text=q.1/\u=(a++[q.1],j)) (hn (name (ap t) (aS 0 0)) (a,j) D) h.2:=by
  unfold hn;cases m:name (ap t) (aS 0 0) a D with
  |error g=>rw[m]at k;exact k
  |ok s=>
   rw[m]at k;obtain⟨A,x,rfl,n,b0,G⟩:=k;exact⟨_,x,rfl,n,by rw[G]⟩
 refine eM K ((aO _ _ _).a (z.a y)) ?_;rintro q b5 a3 A x ⟨rfl,n,rfl⟩;have M:Sx t (λ_ (r:List es×eU) f=>f=A.bP (r.1.flatMap lq)/\XL e.2.e 0 (r.1.map λs=>(0,s)) e.1.1/\e.1.2=[118,101,114,115,105,111,110,32]++q.1++[32,123,32]++r.1.flatMap rH) (eu (ap t) 8 (jA (ap t)) ([],([],[])) a3) (ab t 4 [125] e.2):=by
  refine eM (gg (eL x (kd:=4) (l:=[123]) (by decide))) z ?_;rintro a7 a6 a4 a8 a0 ⟨⟨rfl,-⟩,rfl⟩;have:=Pc (t:=t) 9 [] [] [] [] [] ([118,101,114,115,105,111,110,32]++h.1.text++[32,123,32]) a4 (ab t 4 [123] h.2) _ a0 rfl (by simp) (by simp) (zN _ _);rw[B]at this;refine this.l ?_;rintro a6 b3 F ⟨b2,rfl,i,o,H,-⟩;simp only[YT]at i o;exact⟨by rw[i],by rw[i];exact o,by rw[i,H,n]⟩
 refine eM (gg (CL M)) y ?_;rintro r b6 a5 F a1 ⟨⟨L,i,o⟩,rfl⟩;have p:=Db a1 j d N;unfold av kF;cases m:lZ (ap t) j a5 with
 |error g=>rw[m]at p;exact p
 |ok s=>
  obtain⟨P,b1,b7⟩:=s;rw[m]at p;obtain⟨a9,a2,rfl,w,I⟩:=p;have O:(bC t d (ab t 4 [125] e.2)).2.e=e.2.e:=by
   exact((an (t:=t) 4 [61] (ab t 4 [125] e.2)).a ((fT _ _ _).a ((jy _ _ _ _).a (an _ _ _)))).e
  refine⟨_,a2,L,rfl,I,n,w.symm,?_,?_⟩
  .rw[<-w,o];simp[oN]
  .rw[<-w,O];exact i.cv P
def HK(a:List (List UInt8))(c:List Int)(b:ac):cy b (eE t a c b).2:=AG _ _ _
def DB(a:List (List UInt8))(c:List Int)(b:ac):aM b (eE t a c b).2:=by
 exact(aO _ _ _).a ((lF _ _ _).a ((aO _ _ _).a ((yR _ _ _ _ _ _).a ((aO _ _ _).a (mu _ _)))))
def wl(g:b.s.e=0)(f:Nat)(c:List (List UInt8))(a:List Int)(all:List bi)(d:List UInt8):ep t (f+1) c a all d b =
  if ax (eE t c a (ar a.length 4 b)).2 4 [125]=true then ((all++(eE t c a (ar a.length 4 b)).1.l,d++(eE t c a (ar a.length 4 b)).1.b),(eE t c a (ar a.length 4 b)).2)
  else ep t f (c++[(eE t c a (ar a.length 4 b)).1.a8]) (a++[(eE t c a (ar a.length 4 b)).1.num]) (all++(eE t c a (ar a.length 4 b)).1.l) (d++(eE t c a (ar a.length 4 b)).1.b) (eE t c a (ar a.length 4 b)).2:=by
 conv=>lhs;unfold ep
 rw[Y2 (by simpa using g)]
def DA(d:b.s.e=0)(f:Nat)(c:List (List UInt8))(a:List Int)(all:List bi)(g:List UInt8):aM (eE t c a (ar a.length 4 b)).2 (ep t (f+1) c a all g b).2:=by
 rw[wl d];split
 .exact ed _
 .exact yU _ _ _ _ _ _
def Pm:∀(j:Nat) (i:List eH) (h:List (List UInt8)) (q:List (Int×Int)) (d:List Int) (all:List bi) (m:List UInt8) (st:St) (b:ac) (c:bq),Q t c st b->q.map (·.1)=d->d.length=i.length->i.length+j=5->i.length<=4->XL b.e 0 (i.flatMap nE) all->
  Sx t (λ_ o f=>∃s,f=c.bP (s.flatMap eZ)/\o.1=i++s/\XL (ep t (j+1) h d all m b).2.e 0 ((i++s).flatMap nE) (ep t (j+1) h d all m b).1.1/\(ep t (j+1) h d all m b).1.2=m++s.flatMap oN/\cy b (ep t (j+1) h d all m b).2) (lU (ap t) 4 (iU (ap t)) j i.length (i,(h,q)) st) (ab t 4 [125] (ep t (j+1) h d all m b).2):=by
 intro j;induction j with
 |zero=>intro i h q d all m st b c _ _ _ b9 c0;omega
 |succ j b0=>
  intro i h q d all m st b c p a7 B c1 c2 a9;have y:=(DA (t:=t) p.e (j+1) h d all m).a (aO (t:=t) 4 [125] _);have C:=(DB (t:=t) h d (ar d.length 4 b)).a y;unfold lU;rcases pk t st with⟨D,o,r⟩|⟨g,r⟩
  .rw[ys r];have w:=p.c4 r d.length 4;by_cases E:4<=i.length
   .rw[vM E];rw[Y9 (by rw[B];omega)]at w;rw[w]at C;exact(p.c3 (e:=5) (a:=D.m) (by omega)).a2 C
   .rw[vN E];rw[Y2 (by rw[B];omega)]at w;rw[wl p.e];rw[wl p.e]at y;rw[w]at y ⊢;have x:=Pl (p.f2 r) h q d a7;have A:=HK (t:=t) h d b;generalize eE t h d b=k at *
    have a8:Sx t (λ_ (o:List eH×eU) f=>∃v,f=c.bP (eZ v)/\o.1=i++[v]/\o.2.1=h++[v.t]/\o.2.2.map (·.1)=d++[v.num]/\k.1.a8=v.t/\k.1.num=v.num/\k.1.b=oN v/\XL k.2.e 0 (nE v) k.1.l) (iU (ap t) (i,(h,q)) { st with m:=o,A:=some D }) k.2:=by
     unfold iU;cases G:jz (ap t) (h,q) { st with m:=o,A:=some D }with
     |error g=>rw[G]at x;exact x
     |ok b4=>
      rw[G]at x;obtain⟨K,b6,a6,L⟩:=x;exact⟨_,b6,b4.1,a6,rfl,L⟩
    refine eM a8 y ?_;rintro b7 b2 c6 J b5 ⟨v,F,M,N,O,P,R,S,a0⟩;rw[P,R,S];have H:XL k.2.e 0 ((i++[v]).flatMap nE) (all++k.1.l):=by
     rw[YK];refine(a9.p A).bv ?_;simpa using a0
    obtain⟨c3,c4,b3⟩:=b2;subst M;subst N;generalize k.1.l=b1 at *
    generalize k.2=σ2 at *
    rw[wO];rcases it b5 (kd:=4) (l:=[125]) (by decide)with⟨b8,u,n⟩|⟨I,u,n,z⟩|⟨I,u,n,z⟩
    .rw[um u,Y2 (by rw[n.is (by omega)];simp)];exact(((n.c4 _ _).a2 (DB _ _ _)).a2 (DA n.e j _ (d++[v.num]) _ _)).a2 (aO _ _ _)
    .rw[nV u,Y9 n,mB n];exact⟨_,z,[v],by rw[F];simp,rfl,H,by simp,A⟩
    .rw[nV u,Y2 (by rw[n];simp)];have:=b0 (i++[v]) (h++[v.t]) b3 (d++[v.num]) (all++b1) (m++oN v) I σ2 J z O (by simp[B]) (by simp;omega) (by simp;omega) H;rw[show (i++[v]).length=i.length+1 by simp]at this;refine this.l ?_;rintro b7 c5 K ⟨s,a1,a2,a3,a4,a5⟩;refine⟨v::s,by rw[a1,F,qC];simp,by rw[a2];simp,?_,by rw[a4];simp,A.a a5⟩;simpa using a3
  .rw[yr r];exact((p.bd r).c4 _ _).a2 C
def tC(b:List UInt8)(c:List eH)(a:Int):List UInt8:=[112,114,111,103,114,97,109,32]++b++[32,123,32]++c.flatMap oN++[125,32,61,32]++bB a++[59,10]
def CR{g:Type}{b:List g}{a:Nat}{f:g}(c:b[a]? = some f):b.set a f=b:=by
 apply List.ext_getElem?;intro i;rw[YP];by_cases e:a=i
 .subst e;have h:a<b.length:=by
   rcases Yj a b.length with d|d
   .exact d
   .rw[YA d]at c;cases c
  rw[Y9 rfl,Y9 h,c]
 .rw[Y2 e]
def Ol{e:Type}(d:¬4<=st.o.length)(c:Nat)(a:Unit->PM e):au (λb=>ei b.o.length 4 c b) a st=a () st:=by
 unfold au ei;dsimp only;rw[Y2 d]
def Ok{e:Type}(c:4<=st.o.length)(a:Nat)(d:Unit->PM e):au (λb=>ei b.o.length 4 a b) d st=.error ⟨5,a⟩:=by
 unfold au ei;dsimp only;rw[Y9 c]
def Pd{s:Mar.am}{m:Nat}(E:Q t c st b)(y:c.pd=[])(c4:c.dc=0)(a4:ea t st.m st.A=.ok (s,m))(c5:ax b 2 [112,114,111,103,114,97,109]=true) :
  S t (λd f=>∃a9 a k h ps,d=.prog a9 a k h/\oU c f d (tC a9 k h) ps/\XL (gr t b).e h (k.flatMap nE) ps) (hS (hC (ap t) s.m) { st with m:=m,A:=none }) (gr t b):=by
 have c7:=E.c7 a4;have G:=E.c4 a4 b.o.length 4;have e7:b.o.length=st.o.length:=by rw[E.pg];simp
 have b2:=Qc (t:=t) b;by_cases P:4<=st.o.length
 .rw[Y9 (by omega)]at G;have q:hC (ap t) s.m { st with m:=m,A:=none } = .error ⟨5,s.m⟩:=Ok (st:={ st with m:=m,A:=none }) P _ _;rw[hT q];rw[G]at b2;exact(E.c3 (e:=5) (a:=s.m) (by omega)).a2 b2
 .rw[Y2 (by omega)]at G;have c6:hC (ap t) s.m { st with m:=m,A:=none } = au (gp (ap t)) (oy (ap t)) { st with m:=m,A:=none }:=Ol (st:={ st with m:=m,A:=none }) P _ _;unfold gr;simp only;rw[G,mB c5];generalize d2:aG t 2 (aI t b)=B;generalize a6:ep t 6 [] [] [] ([112,114,111,103,114,97,109,32]++B.1.text++[32,123,32]) (ab t 4 [123] B.2)=v;have b4:aM (ab t 4 [123] B.2) (ab t 4 [125] v.2):=by
   refine aM.a ?_ (aO _ _ _);rw[<-a6];exact yU _ _ _ _ _ _
  have b1:aM (ab t 4 [125] v.2) (bC t (ab t 4 [125] v.2).o (ab t 4 [125] v.2)).2:=mu _ _;have a5:Sm (ab t 4 [125] v.2) (bC t (ab t 4 [125] v.2).o (ab t 4 [125] v.2)).2:=by
   unfold bC;exact(an _ _ _).a ((fT _ _ _).a ((jy _ _ _ _).a (an _ _ _)))
  have q:S t (λd f=>∃(h:List UInt8×Nat) (k:List eH),d=.prog h.1 h.2 k (bC t (ab t 4 [125] v.2).o (ab t 4 [125] v.2)).1/\f=(c.L h.1).bP (k.flatMap eZ)/\ay c.z h.1=none/\XL v.2.e 0 (k.flatMap nE) v.1.1/\v.1.2=[112,114,111,103,114,97,109,32]++h.1++[32,123,32]++k.flatMap oN)
    (hC (ap t) s.m { st with m:=m,A:=none }) { (bC t (ab t 4 [125] v.2).o (ab t 4 [125] v.2)).2 with o:=(bC t (ab t 4 [125] v.2).o (ab t 4 [125] v.2)).2.o++[(bC t (ab t 4 [125] v.2).o (ab t 4 [125] v.2)).1] }:=by
   rw[c6];have R:=rO c7 y;rw[d2]at R;refine fc R ((aO _ _ _).a (b4.a (b1.a (rS rfl)))) ?_;rintro h d7 b5 j ⟨rfl,e1,e2,e3,f2⟩;unfold oy;have c3:Sx t (λ_ (m:List eH×eU) f=>f=(c.L h.1).bP (m.1.flatMap eZ)/\XL v.2.e 0 (m.1.flatMap nE) v.1.1/\v.1.2=[112,114,111,103,114,97,109,32]++h.1++[32,123,32]++m.1.flatMap oN) (eu (ap t) 4 (iU (ap t)) ([],([],[])) d7) (ab t 4 [125] v.2):=by
    unfold eu;refine eM (gg (eL j (kd:=4) (l:=[123]) (by decide))) b4 ?_;rintro e2 e0 d9 M x ⟨⟨rfl,-⟩,rfl⟩;rw[zT];have:=Pm (t:=t) 5 [] [] [] [] [] ([112,114,111,103,114,97,109,32]++B.1.text++[32,123,32]) d9 (ab t 4 [123] B.2) _ x rfl rfl (by simp) (by simp) (zN _ _);rw[a6]at this;refine this.l ?_;rintro e0 e9 b6 ⟨e8,rfl,w,D,b9,-⟩;simp only[YT]at w D;exact⟨by rw[w],by rw[w];exact D,by rw[w,b9,e1]⟩
   refine fc (CL c3) (b1.a (rS rfl)) ?_;rintro a8 f0 e4 d4 ⟨rfl,w,D⟩;unfold mW;generalize ab t 4 [125] v.2=i at *
   generalize hF:({ (bC t i.o i).2 with o:=(bC t i.o i).2.o++[(bC t i.o i).1] }:ac)=C;have d8:aM (ab t 4 [61] i) C:=by
    rw[<-hF];unfold bC;exact(gY _ _ _).a ((ke _ _ _ _).a ((aO _ _ _).a (rS rfl)))
   refine fc (σ1:=C) (fc (σ2:=C) (R':=λH f=>f=(c.L h.1).bP (a8.1.flatMap eZ)/\H=(bC t i.o i).1) (eL d4 (kd:=4) (l:=[61]) (by decide)) d8 ?_) (ed C) ?_
   .rintro f1 A M x ⟨rfl,-⟩;have c8:A.o.map (·.1)=i.o:=x.pg.symm;have F:=vU x A.o i.o c8 0 4294967295;have c9:=a5.o;unfold au mj;rw[<-hF,c9];unfold bC;simp only;cases u:fR (ap t) (di 0 4294967295) A.o A with
    |error g=>
     rw[u]at F;exact(Er.a2 F (aO _ _ _)).a2 (rS rfl)
    |ok L=>
     obtain⟨H,a7,b0⟩:=L;rw[u]at F;obtain⟨b6,p,rfl,c0,c1,-,-⟩:=F;simp only;have d5:Q t _ { b0 with o:=a7 } { (if(aV t 0 4294967295 (ab t 4 [61] i)).2.s.e=0/\i.o.contains (aV t 0 4294967295 (ab t 4 [61] i)).1.1=true then bo 6 (aV t 0 4294967295 (ab t 4 [61] i)).1.2 (aV t 0 4294967295 (ab t 4 [61] i)).2 else (aV t 0 4294967295 (ab t 4 [61] i)).2)with o:=i.o++[H] }:=⟨p.e,p.wd,p.z,p.pd,p.nm,p.k,p.cn,c1.symm,p.c9,p.bw,p.ou,p.pr,p.dL,p.d9⟩
     have r:=eL d5 (kd:=4) (l:=[59]) (by decide);subst c0;cases a0:bU (ap t) [59] { b0 with o:=a7 }with
     |error g=>
      rw[a0]at r;have r:Er g _:=r;exact⟨r.e,r.a,r.z⟩
     |ok I=>
      rw[a0]at r;obtain⟨e5,d6,rfl,-⟩:=r;exact⟨_,d6,rfl,rfl⟩
   .rintro H A M x ⟨rfl,rfl⟩;exact S.ret x ⟨h,a8.1,rfl,rfl,e3,w,D⟩
  cases u:hC (ap t) s.m { st with m:=m,A:=none }with
  |error g=>
   rw[u]at q;have q:Er g _:=q;rw[hT u];exact⟨q.e,q.a,q.z⟩
  |ok L=>
   obtain⟨d,b3⟩:=L;rw[u]at q;obtain⟨b5,j,h,k,rfl,rfl,N,b7,b8⟩:=q;have d0:(bC t (ab t 4 [125] v.2).o (ab t 4 [125] v.2)).2.e=v.2.e:=a5.e;rw[oj u];generalize bC t (ab t 4 [125] v.2).o (ab t 4 [125] v.2)=n at *
   have a2:ay (c.L h.1).z h.1=some none:=by rw[nc _ _ _ N,Y9 rfl]
   have d1:b3.g=(c.L h.1).z:=by rw[j.z];simp[bq.bP,y]
   obtain⟨d3,I,e6,J,O,c2⟩:=xt j a2;have a3:=j.nm.aH (d:=.prog h.1 h.2 k n.1) (r:=I) a2 J ⟨c2,by
    have:=j.nm.fG d3 _ _ J O;exact this.2⟩
   have a1:=j.d9.aH J (.prog h.1 h.2 k n.1) I;rw[CR O]at a3 a1;refine⟨{ ((c.L h.1).bP (k.flatMap eZ)).aH h.1 (.prog h.1 h.2 k n.1)with o:=c.o++tC h.1 k n.1,ps:=c.ps++v.1.1.map λm=>{ m with prog:=n.1 } },?_,h.1,h.2,k,n.1,_,rfl,⟨y,c4,rfl,rfl,rfl,rfl,[],qj N,by simp⟩,?_⟩
   .refine⟨j.e,j.wd,?_,Y8 y,a3,j.k,j.cn,j.pg,j.c9,j.bw,?_,?_,j.dL,a1⟩
    .show cL b3.g h.1 _=cL _ h.1 _++c.pd;rw[d1,y,YH];rfl
    .show n.2.b++_=c.o++tC h.1 k n.1;have K:n.2.b=c.o:=j.ou;rw[K,b8];simp[tC]
    .show n.2.u++_=c.ps++_;have K:n.2.u=c.ps:=j.pr;rw[K]
   .show XL n.2.e n.1 _ _;rw[d0];exact b7.prog _
variable {t : List UInt8} {b i : St} {a c h j m : ac} {f d : bq} {g : Mar.M}
def dl(a c:ac):Prop:=∃b,c.e=a.e++b
def mF(a:ac):dl a a:=⟨[],by simp⟩
def dl.a(b:dl a c)(f:dl c h):dl a h:=by
 obtain⟨g,d⟩:=b;obtain⟨i,e⟩:=f;exact⟨g++i,by rw[e,d,YN]⟩
def cy.aN(b:cy a c):dl a c:=by obtain⟨e,d,-⟩:=b.e;exact⟨e,d⟩
def Iv(b:c.e=a.e):dl a c:=⟨[],by rw[b];simp⟩
def xx(b:bc)(a:ac):dl a (bJ b a):=⟨[b],rfl⟩
def uL(b:List UInt8)(a:ac):dl a (dV b a):=mF _
def AR(c:List UInt8)(b:Int)(a:ac):dl a (dA c b a):=by
 unfold dA gs;split<;>exact⟨[],by simp⟩
def xy(c:List UInt8)(b:Int)(a:ac):dl a (cX c b a):=by
 unfold cX gs;split<;>exact⟨[],by simp⟩
def mZ(b:Int)(a:ac):dl a (aG t b a).2:=Iv (mp b a)
def Is(a:ac):dl a (fL t a):=by
 unfold fL;simp only;generalize e:aG t 2 (ab t 2 [99,111,110,115,116] (ar a.D 40 a))=c;have d:dl a c.2:=by rw[<-e];exact((cw _ _ _).a (an _ _ _)).p.aN.a (mZ _ _)
 have b:dl a (ab t 4 [59] (aV t (-2147483648) 4294967295 (ab t 4 [61] c.2)).2):=d.a ((an _ _ _).a ((fT _ _ _).a (an _ _ _))).p.aN;split
 .exact b
 .exact b.a ((AR _ _ _).a (uL _ _))
def Iy(a:ac):dl a (gf t a):=by
 unfold gf;simp only;generalize d:bQ t [] true (ab t 2 [116,121,112,101,100,101,102] a)=c;have b:dl a c.2:=by rw[<-d];exact((an _ _ _).p.a (kA _ _ _)).aN
 split
 .exact b
 .exact b.a (mF _)
def AQ:∀(c:Nat) (b:List Int) (f:List UInt8) (a:ac),dl a (dh t c b f a).2.2.2:=by
 intro c;induction c with
 |zero=>intro b f a;exact mF _
 |succ c i=>
  intro b f a;by_cases h:a.s.e=0
  .rw[rh h];have d:dl a (fg t b a):=by
    refine dl.a ?_ (jy _ _ _ _).p.aN;exact((cw _ _ _).a (cw _ _ _)).p.aN.a ((mZ _ _).a ((an _ _ _).a (fT _ _ _)).p.aN)
   have g:dl a (fA t b a):=by
    unfold fA;split
    .exact d
    .exact d.a (AR _ _ _)
   split
   .exact d
   .split
    .exact g.a ((eB _).p.aN.a (i _ _ _))
    .exact g
  .rw[pB h];exact mF _
def Iu(a:ac):dl a (gD t a):=by
 unfold gD;simp only;generalize g:aG t 2 (ab t 2 [101,110,117,109] a)=b;have e:dl a b.2:=by rw[<-g];exact(an _ _ _).p.aN.a (mZ _ _)
 generalize f:dh t 13 [] ([101,110,117,109,32]++b.1.text++[32,123,32]) (ab t 4 [123] b.2)=d;have c:dl a d.2.2.2:=by rw[<-f];exact e.a ((an _ _ _).p.aN.a (AQ _ _ _ _))
 split
 .exact c
 .exact c.a (((an _ _ _).a (an _ _ _)).p.aN.a ((xx _ _).a ((xy _ _ _).a (uL _ _))))
def AF:∀(b:Nat) (d:List Int) (c:List (List UInt8)) (f:List UInt8) (a:ac),dl a (dI t b d c f a).2.2:=by
 intro b;induction b with
 |zero=>intro d c f a;exact mF _
 |succ b i=>
  intro d c f a;by_cases h:a.s.e=0
  .rw[tO h];have g:dl a (ab t 4 [59] (fi t d.length c a).2):=((cw _ _ _).p.a ((kA _ _ _).a (an _ _ _).p)).aN;split
   .exact g
   .exact g.a (i _ _ _ _)
  .rw[tP h];exact mF _
def Ix(a:ac):dl a (gt t a):=by
 exact(an _ _ _).p.aN.a ((mZ _ _).a ((an _ _ _).p.aN.a ((AF _ _ _ _ _).a (((an _ _ _).a (an _ _ _)).p.aN.a ((xx _ _).a ((xy _ _ _).a (uL _ _)))))))
def AS(of:Int):∀(c:Nat) (b g:List Int) (d:List (List UInt8)) (f:List UInt8) (a:ac),dl a (dO t of c b g d f a).2:=by
 intro c;induction c with
 |zero=>intro b g d f a;exact mF _
 |succ c j=>
  intro b g d f a;by_cases i:a.s.e=0
  .rw[qr i];have h:dl a (ce t d (bT t of (14-b.length) b [] a).2).2:=((mS _ _ _ _ _).1.p.a (mb _ _)).aN;split
   .exact h.a (j _ _ _ _ _)
   .exact h
  .rw[qs i];exact mF _
def Iz(a:ac):dl a (fU t a):=by
 exact(an _ _ _).p.aN.a ((mZ _ _).a (((an _ _ _).a ((an _ _ _).a ((oD _).a ((iX _).a ((an _ _ _).a (an _ _ _)))))).p.aN.a ((AS _ _ _ _ _ _ _).a ((sP _ _).aN.a (((an _ _ _).a (an _ _ _)).p.aN.a ((xx _ _).a ((xy _ _ _).a (uL _ _))))))))
def Iw(a:ac):dl a (gr t a):=by
 unfold gr;simp only;generalize g:aG t 2 (ab t 2 [112,114,111,103,114,97,109] (ar a.o.length 4 a))=b;have c:dl a b.2:=by rw[<-g];exact((cw _ _ _).a (an _ _ _)).p.aN.a (mZ _ _)
 generalize f:ep t 6 [] [] [] ([112,114,111,103,114,97,109,32]++b.1.text++[32,123,32]) (ab t 4 [123] b.2)=v;have d:dl a (ab t 4 [125] v.2):=by rw[<-f];exact c.a (((an _ _ _).p.a ((sR _ _ _ _ _ _).a (an _ _ _).p)).aN)
 have e:=d.a (mY (t:=t) (ab t 4 [125] v.2).o _).aN;exact e.a (mF _)
def sN(g:¬ax a 2 [99,111,110,115,116]=true)(h:¬ax a 2 [112,114,111,103,114,97,109]=true)(e:a.s.x.f=2):bG t a =
  if a.s.x.text=[116,121,112,101,100,101,102]then gf t (ge a)else if a.s.x.text=[101,110,117,109]then gD t (ge a)else if a.s.x.text=[115,116,114,117,99,116]then gt t (ge a)else if a.s.x.text=[117,110,105,111,110]then fU t (ge a)else da a:=by
 unfold bG;rw[Y2 g,Y2 h];by_cases b:a.s.x.text=[116,121,112,101,100,101,102]
 .rw[Y2 (by rw[e,b];simp),Y9 b,Y9 b];rfl
 .by_cases c:a.s.x.text=[101,110,117,109]
  .rw[Y2 (by rw[e,c];simp),Y2 b,Y9 c,Y2 b,Y9 c];rfl
  .by_cases d:a.s.x.text=[115,116,114,117,99,116]
   .rw[Y2 (by rw[e,d];simp),Y2 b,Y2 c,Y9 d,Y2 b,Y2 c,Y9 d];rfl
   .by_cases f:a.s.x.text=[117,110,105,111,110]
    .rw[Y2 (by rw[e,f];simp),Y2 b,Y2 c,Y2 d,Y2 b,Y2 c,Y2 d,Y9 f];rfl
    .rw[Y9 (Ya ⟨b,c,d,f⟩),Y2 b,Y2 c,Y2 d,Y2 f]
def sX(a:ac):dl a (ge a):=(cw a.j 24 a).p.aN
def It(a:ac):dl a (bG t a):=by
 by_cases b:ax a 2 [99,111,110,115,116]=true
 .unfold bG;rw[Y9 b];exact Is a
 .by_cases c:ax a 2 [112,114,111,103,114,97,109]=true
  .unfold bG;rw[Y2 b,Y9 c];exact Iw a
  .by_cases d:a.s.x.f=2
   .rw[sN b c d];split
    .exact(sX a).a (Iy _)
    .split
     .exact(sX a).a (Iu _)
     .split
      .exact(sX a).a (Ix _)
      .split
       .exact(sX a).a (Iz _)
       .exact(tM a).p.aN
   .unfold bG;rw[Y2 b,Y2 c,Y9 (Y8 d)];exact(tM a).p.aN
def pJ:List (List UInt8×Nat×Int)->List UInt8
 |[]=>[]
 |[a]=>jt a
 |a::c::b=>jt a++[44,32]++pJ (c::b)
def Jg(a:List (List UInt8×Nat×Int))(b:List UInt8×Nat×Int):pJ (a++[b])=a.flatMap (λb=>jt b++[44,32])++jt b:=by
 induction a with
 |nil=>simp[pJ]
 |cons d a c=>
  cases a with
  |nil=>simp[pJ]
  |cons e a=>
   rw[YX,YX];unfold pJ;rw[<-YX,c];simp
def xk:ao->List UInt8
 |.const a _ v=>xe a v
 |.typedef d=>za d
 |.enum a _ b=>[101,110,117,109,32]++a++[32,123,32]++pJ b++[32,125,59,10]
 |.struct a _ b=>DD a b
 |.union a _ f c=>DV a f c
 |.prog a _ g e=>tC a g e
def Ah:ao->List (Int×Int×es)
 |.prog _ _ c b=>(c.flatMap nE).map λa=>(b,a)
 |_=>[]
def YL(d:List bc)(e:List (Int×Int×es))(f:List bi):Prop:=f.length=e.length/\∀(c:Nat) (a:Int×Int×es) (b:bi),e[c]? = some a->f[c]? = some b->b.prog=a.1/\b.cv=a.2.1/\b.kd=a.2.2.num/\dy d a.2.2.b3 b.b3/\dy d a.2.2.cc b.cc
def qP(b:List bc):YL b [] []:=⟨rfl,λd c e a=>by simp at a⟩
def YL.bv{e:List bc}{f j:List (Int×Int×es)}{l m:List bi}(a:YL e f l)(i:YL e j m):YL e (f++j) (l++m):=by
 refine⟨by simp[a.1,i.1],?_⟩;intro h g k c d;rcases Yj h f.length with b|b
 .rw[Ys b]at c;rw[Ys (by rw[a.1];exact b)]at d;exact a.2 h g k c d
 .rw[Yw b]at c;rw[Yw (by rw[a.1];exact b),a.1]at d;exact i.2 _ g k c d
def YL.aN{e:List (Int×Int×es)}{f:List bi}(b:YL a.e e f)(q:dl a c):YL c.e e f:=⟨b.1,λp g r m n=>by
 obtain⟨h,i,j,k,l⟩:=b.2 p g r m n;obtain⟨d,o⟩:=q;rw[o];exact⟨h,i,j,k.bv d,l.bv d⟩⟩
def XL.yl{h:List bc}{g:Int}{c:List (Int×es)}{i:List bi}(e:XL h g c i):YL h (c.map λd=>(g,d)) i:=by
 refine⟨by simp[e.1],?_⟩;intro f d l a j;rw[List.getElem?_map]at a;cases b:c[f]? with
 |none=>rw[b]at a;cases a
 |some k=>
  rw[b]at a;simp at a;subst a;exact e.2 f k l b j
def HX{c:Mar.am}{a:Nat}(d:ea t b.m b.A=.ok (c,a)):hS (fN (ap t)) b=hS (dT (ap t) c) { b with m:=a,A:=none }:=by
 unfold hS fN au;rw[mg d]
def Da(h:Q t f b a)(p:f.pd=[])(o:f.dc=0):S t (λm d=>∃E,oU f d m (xk m) E/\YL (bG t a).e (Ah m) E) (hS (fN (ap t)) b) (bG t a):=by
 rcases pk t b with⟨c,M,e⟩|⟨g,e⟩
 .rw[HX e];have I:=h.wd;rw[e]at I;obtain⟨⟨O,P,a5,a6,a7⟩,a0⟩:=I;have J:=h.is e (kd:=2) (l:=[99,111,110,115,116]) (by decide);have K:=h.is e (kd:=2) (l:=[112,114,111,103,114,97,109]) (by decide);by_cases r:c.text=[99,111,110,115,116]
  .have A:ax a 2 [99,111,110,115,116]=true:=by rw[J,r];rfl
   have i:dT (ap t) c=iv (ap t) c.m:=by unfold dT;rw[Y9 (by simpa using r)]
   have n:bG t a=fL t a:=by unfold bG;rw[Y9 A]
   rw[i,n];refine(OT h p o e A).l ?_;rintro m d ⟨j,q,v,rfl,ok⟩;exact⟨[],ok,qP _⟩
  .have H:¬ax a 2 [99,111,110,115,116]=true:=by rw[J];simpa using r
   by_cases z:c.text=[112,114,111,103,114,97,109]
   .have A:ax a 2 [112,114,111,103,114,97,109]=true:=by rw[K,z];rfl
    have i:dT (ap t) c=hC (ap t) c.m:=by unfold dT;rw[z];rfl
    have n:bG t a=gr t a:=by unfold bG;rw[Y2 H,Y9 A]
    rw[i,n];refine(Pd h p o e A).l ?_;rintro m d ⟨j,q,b0,a8,E,rfl,ok,a2⟩;exact⟨E,ok,a2.yl⟩
   .have L:¬ax a 2 [112,114,111,103,114,97,109]=true:=by rw[K];simpa using z
    by_cases F:a.s.x.f=2
    .rw[sN H L F,P];by_cases s:c.text=[116,121,112,101,100,101,102]
     .have i:dT (ap t) c=iC (ap t) c.m:=by unfold dT;rw[s];rfl
      rw[i,Y9 s];refine(Pj h p o e (by rw[h.is e (by decide),s];rfl)).l ?_;rintro m d ⟨a4,rfl,ok⟩;exact⟨[],ok,qP _⟩
     .rw[Y2 s];by_cases u:c.text=[101,110,117,109]
      .have i:dT (ap t) c=gm (ap t) c.m:=by unfold dT;rw[u];rfl
       rw[i,Y9 u];refine(OU h p o e (by rw[h.is e (by decide),u];rfl)).l ?_;rintro m d ⟨j,q,C,G,rfl,ok⟩;refine⟨[],?_,qP _⟩;have:xk (.enum j q (C++[G]))=xm j C G:=by
        show [101,110,117,109,32]++j++[32,123,32]++pJ (C++[G])++[32,125,59,10]=_;rw[Jg];simp[xm]
       rw[this];exact ok
      .rw[Y2 u];by_cases w:c.text=[115,116,114,117,99,116]
       .have i:dT (ap t) c=iZ (ap t) c.m:=by unfold dT;rw[w];rfl
        rw[i,Y9 w];refine(Ph h p o e (by rw[h.is e (by decide),w];rfl)).l ?_;rintro m d ⟨j,q,C,rfl,ok⟩;exact⟨[],ok,qP _⟩
       .rw[Y2 w];by_cases y:c.text=[117,110,105,111,110]
        .have i:dT (ap t) c=dP (ap t) c.m:=by unfold dT;rw[y];rfl
         rw[i,Y9 y];refine(Pk h p o e (by rw[h.is e (by decide),y];rfl)).l ?_;rintro m d ⟨j,q,a9,a3,rfl,ok⟩;exact⟨[],ok,qP _⟩
        .rw[Y2 y];have i:dT (ap t) c { b with m:=M,A:=none } = .error ⟨3,c.m⟩:=by
          unfold dT;rw[Y2 (by simpa using r),Y2 (by simpa using s),Y2 (by simpa using u),Y2 (by simpa using w),Y2 (by simpa using y),Y2 (by simpa using z)];rfl
         rw[hT i];exact h.fx e
    .have D:∀j,Mar.db j=true->c.text≠j:=λj a1 N=>F (by rw[O];exact a0.h2 (by rw[N];exact a1));have n:bG t a=da a:=by unfold bG;rw[Y2 H,Y2 L,Y9 (Y8 F)]
     have i:dT (ap t) c { b with m:=M,A:=none } = .error ⟨3,c.m⟩:=by
      unfold dT;rw[Y2 (by simpa using r),Y2 (by simpa using D [116,121,112,101,100,101,102] (by decide)),Y2 (by simpa using D [101,110,117,109] (by decide)),Y2 (by simpa using D [115,116,114,117,99,116] (by decide)),Y2 (by simpa using D [117,110,105,111,110] (by decide)),Y2 (by simpa using z)];rfl
     rw[hT i,n];exact h.fx e
 .have R:hS (fN (ap t)) b=.error g:=by
   unfold hS fN au;rw[ni e]
  have B:=h.bd e;have n:bG t a=da a:=by
   unfold bG;rw[Y2 (by rw[B.is (by omega)];simp),Y2 (by rw[B.is (by omega)];simp),Y9 (Y8 (by rw[B.k];omega))]
  rw[R,n];exact B.f5
section
variable {d c a:Nat}{b:Int}
variable {t : List UInt8} {j k : St} {σ σ' l m f : ac} {g h : bq} {i : Mar.M}
def dl.ak(a:dl σ σ'):σ.e.length<=σ'.e.length:=by
 obtain⟨c,b⟩:=a;rw[b,Yq];omega
def nO(c d:Nat)(b:Int):Prop:=b<5\/((c:Int)<=b/\b+1=d)
def pW(σ:ac)(a:bc)(b:c<=σ.e.length):nO c (bJ a σ).e.length σ.e.length:=Ya ⟨by omega,by show _=(((σ.e++[a]).length:Nat):Int);simp⟩
def Bk(σ:ac):nO σ.e.length (ch t σ).2.e.length (ch t σ).1.1:=by
 unfold ch;split
 .exact Y8 (by simp)
 .split
  .exact pW (aI t σ) _ (Y4 _)
  .split
   .exact Y8 (by simp)
   .split
    .exact Y8 (by simp)
    .split
     .exact Y8 (by simp)
     .split
      .unfold iD;split
       .exact Y8 (by simp)
       .split<;>exact Y8 (by simp)
      .exact Y8 (by simp)
def xj(c:List (List UInt8))(all:Bool)(σ:ac):nO σ.e.length (bQ t c all σ).2.e.length (bQ t c all σ).1.r:=by
 unfold bQ;split
 .unfold gq;simp only;have b:∀a,σ.e.length<=(bp t a (bV t c all (aI t σ)).2).2.e.length:=λa=>((eB _).a ((gW _ _ _).a (mq _ _))).p.aN.ak;split
  .exact pW _ _ (b true)
  .exact pW _ _ (b false)
 .unfold gn;simp only;have e:=Bk (t:=t) σ;have b:σ.e.length<=(ch t σ).2.e.length:=(xn σ).aN.ak;split
  .exact pW _ _ (Yz b ((eB _).a (gW _ _ _)).p.aN.ak)
  .have d:∀a,σ.e.length<=(bp t a (bV t c all (ch t σ).2).2).2.e.length:=λa=>Yz b ((gW _ _ _).a (mq _ _)).p.aN.ak;split
   .exact pW _ _ (d true)
   .split
    .exact pW _ _ (d false)
    .rw[(gW (t:=t) c all (ch t σ).2).e];exact e
def Nw(c:Nat)(b:Int):Prop:=b<5\/(c:Int)<=b
def nO.nw(a:nO c d b):Nw c b:=a.imp id And.left
def Nw.l(a:Nw d b)(e:c<=d):Nw c b:=a.imp id λa=>by omega
def Fh(a:Nat)(σ:ac):Prop:=a<=σ.e.length/\∀(c:Nat) (b:bc),σ.e[c]? = some b->a<=c->b.f≠14->∀d∈ct b,Nw a d
def Fh.of(b:Fh a σ)(c:σ'.e=σ.e):Fh a σ':=by unfold Fh;rw[c];exact b
def Fh.row(f:Fh a σ){r:bc}(j:r.f≠14->∀h∈ct r,Nw a h):Fh a (bJ r σ):=by
 refine⟨by show a<=(σ.e++[r]).length;have:=f.1;simp;omega,?_⟩;intro e k b i;rw[show (bJ r σ).e=σ.e++[r]from rfl]at b;rcases Yj e σ.e.length with c|c
 .rw[Ys c]at b;exact f.2 e k b i
 .rw[Yw c]at b;match g:e-σ.e.length with
  |0=>rw[g]at b;simp at b;subst b;exact j
  |d+1=>rw[g]at b;simp at b
def Bp(a c:Int)(b:a=6\/a=7\/a=8):ct (ej a c)=[]:=by rcases b with rfl|rfl|rfl<;>rfl
def AI(b:Fh a σ):Fh a (ch t σ).2:=by
 unfold ch;split
 .exact b
 .split
  .exact(b.of (σ':=aI t σ) rfl).row (λc=>absurd rfl c)
  .split
   .exact b.of rfl
   .split
    .exact b.of rfl
    .split
     .exact b.of rfl
     .split
      .unfold iD;split
       .exact b.of rfl
       .split<;>exact b.of rfl
      .exact b.of rfl
def xq(f:Fh a σ)(h:List (List UInt8))(all:Bool):Fh a (bQ t h all σ).2:=by
 unfold bQ;split
 .unfold gq;simp only;have d:∀c,Fh a (bp t c (bV t h all (aI t σ)).2).2:=λc=>f.of ((eB _).a ((gW _ _ _).a (mq _ _))).e;split
  .exact(d true).row (λ_ e b=>by rw[Bp _ _ (Y8 rfl)]at b;cases b)
  .exact(d false).row (λ_ e b=>by rw[Bp _ _ (by split<;>simp)]at b;cases b)
 .unfold gn;simp only;have g:=AI (t:=t) f;have i:Nw a (ch t σ).1.1:=(Bk (t:=t) σ).nw.l f.1;split
  .exact(g.of ((eB _).a (gW _ _ _)).e).row (λ_ e b=>by simp[ct,dH]at b)
  .have d:∀c,Fh a (bp t c (bV t h all (ch t σ).2).2).2:=λc=>g.of ((gW _ _ _).a (mq _ _)).e;split
   .exact(d true).row (λ_ e b=>by simp[ct,dH]at b;subst b;exact i)
   .split
    .exact(d false).row (λ_ e b=>by simp[ct,dH]at b)
    .exact g.of (gW _ _ _).e
def HQ:∀(g:Nat) (c:List Int) (d:List (List UInt8)) (j:List UInt8) (σ:ac),Fh a σ->(∀b∈c,Nw a b)->Fh a (dI t g c d j σ).2.2/\∀b∈(dI t g c d j σ).1,Nw a b:=by
 intro g;induction g with
 |zero=>intro c d j σ h i;exact⟨h,i⟩
 |succ g o=>
  intro c d j σ h i;by_cases n:σ.s.e=0
  .rw[tO n];have k:Fh a (ar c.length 12 σ):=h.of (cw _ _ _).e;have l:Fh a (ab t 4 [59] (fi t c.length d σ).2):=(xq (t:=t) k d false).of (an _ _ _).e;have m:∀b∈c++[(fi t c.length d σ).1.r],Nw a b:=by
    intro b f;rcases Yn.1 f with f|f
    .exact i b f
    .simp at f;subst f;exact(xj (t:=t) d false _).nw.l k.1
   split
   .exact⟨l,m⟩
   .exact o _ _ _ _ l m
  .rw[tP n];exact⟨h,i⟩
def AH(c:Fh a σ)(b:List (List UInt8)):Fh a (ce t b σ).2/\Nw a (ce t b σ).1.1:=by
 unfold ce;split
 .exact⟨c.of rfl,Y8 (by simp)⟩
 .exact⟨(xq (t:=t) c b false).of (an _ _ _).e,(xj (t:=t) b false _).nw.l c.1⟩
def HR(of:Int):∀(h:Nat) (c f:List Int) (d:List (List UInt8)) (k:List UInt8) (σ:ac),Fh a σ->(∀b∈f,Nw a b)->Fh a (dO t of h c f d k σ).2/\∀b∈(dO t of h c f d k σ).1.2.1,Nw a b:=by
 intro h;induction h with
 |zero=>intro c f d k σ i j;exact⟨i,j⟩
 |succ h p=>
  intro c f d k σ i j;by_cases n:σ.s.e=0
  .rw[qr n];have o:Fh a (bT t of (14-c.length) c [] σ).2:=i.of (mS _ _ _ _ _).1.e;have l:=AH (t:=t) o d;have m:∀b∈jR (bT t of (14-c.length) c [] σ).1.1.length (ce t d (bT t of (14-c.length) c [] σ).2).1.1 f,Nw a b:=by
    intro b g;rcases Yn.1 g with g|g
    .exact j b g
    .rw[List.eq_of_mem_replicate g];exact l.2
   split
   .exact p _ _ _ _ _ l.1 m
   .exact⟨l.1,m⟩
  .rw[qs n];exact⟨i,j⟩
def HM(c:Fh a σ)(b:List (List UInt8)):Fh a (gj t b σ).2/\Nw a (gj t b σ).1.1:=by
 unfold gj;split
 .have:=AH (t:=t) (σ:=ab t 4 [58] (aI t σ)) (c.of rfl) b;exact this
 .exact⟨c,Y8 (by simp)⟩
def vO(a:List UInt8)(c:Int)(σ:ac):(cX a c σ).e=σ.e:=by
 unfold cX gs;split<;>rfl
def yD(a:List UInt8)(c:Int)(σ:ac):(dA a c σ).e=σ.e:=by
 unfold dA gs;split<;>rfl
def AJ(b:Fh a σ):Fh a (eA t σ).2:=by
 unfold eA;split
 .exact b.of rfl
 .exact AI b
def xr(b:Fh a σ)(c:List Int):Fh a (bC t c σ).2:=by
 exact b.of ((an _ _ _).a ((fT _ _ _).a ((jy _ _ _ _).a (an _ _ _)))).e
def HO:∀(g:Nat) (b:List bi) (d:List (List UInt8)) (c:List Int) (h:List UInt8) (σ:ac),Fh a σ->Fh a (eX t g b d c h σ).2:=by
 intro g;induction g with
 |zero=>intro b d c h σ f;exact f
 |succ g m=>
  intro b d c h σ f;by_cases j:σ.s.e=0
  .rw[yt j];have k:Fh a (jZ t b.length σ).2:=AJ (f.of (cw _ _ _).e);have l:Fh a (kG t b.length d σ).2:=AJ ((k.of (gW _ _ _).e).of (an _ _ _).e);have i:Fh a (fB t b.length d c σ).2:=xr (l.of (an _ _ _).e) c;split
   .exact i
   .exact m _ _ _ _ _ i
  .unfold eX;rw[Y9 j];exact f
def HT(c:Fh a σ)(d:List (List UInt8))(b:List Int):Fh a (eE t d b σ).2:=by
 exact xr ((HO _ _ _ _ _ _ ((c.of (an _ _ _).e).of ((gW _ _ _).a (an _ _ _)).e)).of (an _ _ _).e) b
def HS:∀(f:Nat) (c:List (List UInt8)) (b:List Int) (all:List bi) (g:List UInt8) (σ:ac),Fh a σ->Fh a (ep t f c b all g σ).2:=by
 intro f;induction f with
 |zero=>intro c b all g σ d;exact d
 |succ f j=>
  intro c b all g σ d;by_cases i:σ.s.e=0
  .rw[wl i];have h:Fh a (eE t c b (ar b.length 4 σ)).2:=HT (d.of (cw _ _ _).e) c b;split
   .exact h
   .exact j _ _ _ _ _ h
  .rw[zf i];exact d
def HN:∀(d:Nat) (b:List Int) (g:List UInt8) (σ:ac),Fh a σ->Fh a (dh t d b g σ).2.2.2:=by
 intro d;induction d with
 |zero=>intro b g σ c;exact c
 |succ d j=>
  intro b g σ c;by_cases i:σ.s.e=0
  .rw[rh i];have f:Fh a (fg t b σ):=by
    refine Fh.of ?_ (jy _ _ _ _).e;exact Fh.of (Fh.of (Fh.of c ((cw _ _ _).a (cw _ _ _)).e) (mp _ _)) ((an _ _ _).a (fT _ _ _)).e
   have h:Fh a (fA t b σ):=by
    unfold fA;split
    .exact f
    .exact f.of (yD _ _ _)
   split
   .exact f
   .split
    .exact j _ _ _ (h.of (eB _).e)
    .exact h
  .rw[pB i];exact c
def HP(σ:ac):Fh σ.e.length σ:=⟨Y4 _,λc d a b=>by
 rw[YA b]at a;cases a⟩
def HL(σ:ac):Fh σ.e.length (bG t σ):=by
 have l:=HP σ;generalize σ.e.length=a at *
 by_cases p:ax σ 2 [99,111,110,115,116]=true
 .unfold bG;rw[Y9 p];unfold fL;simp only;have m:Fh a (aG t 2 (ab t 2 [99,111,110,115,116] (ar σ.D 40 σ))).2:=Fh.of (l.of ((cw _ _ _).a (an _ _ _)).e) (mp _ _);generalize aG t 2 (ab t 2 [99,111,110,115,116] (ar σ.D 40 σ))=e at *
  have i:Fh a (ab t 4 [59] (aV t (-2147483648) 4294967295 (ab t 4 [61] e.2)).2):=m.of ((an _ _ _).a ((fT _ _ _).a (an _ _ _))).e;split
  .exact i
  .exact(i.of (yD _ _ _)).of rfl
 .by_cases m:ax σ 2 [112,114,111,103,114,97,109]=true
  .unfold bG;rw[Y2 p,Y9 m];unfold gr;simp only;have i:Fh a (aG t 2 (ab t 2 [112,114,111,103,114,97,109] (ar σ.o.length 4 σ))).2:=Fh.of (l.of ((cw _ _ _).a (an _ _ _)).e) (mp _ _);generalize aG t 2 (ab t 2 [112,114,111,103,114,97,109] (ar σ.o.length 4 σ))=b at *
   have g:=HS (t:=t) 6 [] [] [] ([112,114,111,103,114,97,109,32]++b.1.text++[32,123,32]) (ab t 4 [123] b.2) (i.of (an _ _ _).e);generalize ep t 6 [] [] [] ([112,114,111,103,114,97,109,32]++b.1.text++[32,123,32]) (ab t 4 [123] b.2)=v at *
   exact(xr (t:=t) (g.of (an _ _ _).e) (ab t 4 [125] v.2).o).of rfl
  .by_cases i:σ.s.x.f=2
   .rw[sN p m i];have q:Fh a (ge σ):=l.of (cw σ.j 24 σ).e;generalize ge σ=f at *
    split
    .unfold gf;simp only;have g:=xq (t:=t) (q.of (an (t:=t) 2 [116,121,112,101,100,101,102] f).e) [] true;split
     .exact g
     .exact g.of rfl
    .split
     .unfold gD;simp only;have g:Fh a (aG t 2 (ab t 2 [101,110,117,109] f)).2:=Fh.of (q.of (an _ _ _).e) (mp _ _);generalize aG t 2 (ab t 2 [101,110,117,109] f)=e at *
      have j:=HN (t:=t) 13 [] ([101,110,117,109,32]++e.1.text++[32,123,32]) (ab t 4 [123] e.2) (g.of (an _ _ _).e);generalize dh t 13 [] ([101,110,117,109,32]++e.1.text++[32,123,32]) (ab t 4 [123] e.2)=k at *
      split
      .exact j
      .refine Fh.of (Fh.of (Fh.row (j.of ((an (t:=t) 4 [125] _).a (an (t:=t) 4 [59] _)).e) (r:=⟨5,0,0,k.2.1,[],0,[],0⟩) ?_) (vO _ _ _)) rfl;intro _ o h;simp[ct]at h
     .split
      .unfold gt;simp only;have g:Fh a (aG t 2 (ab t 2 [115,116,114,117,99,116] f)).2:=Fh.of (q.of (an _ _ _).e) (mp _ _);generalize aG t 2 (ab t 2 [115,116,114,117,99,116] f)=e at *
       have j:=HQ (t:=t) 14 [] [] ([115,116,114,117,99,116,32]++e.1.text++[32,123,32]) (ab t 4 [123] e.2) (g.of (an _ _ _).e) (by simp);generalize dI t 14 [] [] ([115,116,114,117,99,116,32]++e.1.text++[32,123,32]) (ab t 4 [123] e.2)=k at *
       refine Fh.of (Fh.of (Fh.row (j.1.of ((an (t:=t) 4 [125] _).a (an (t:=t) 4 [59] _)).e) (r:=⟨12,0,0,[],k.1,0,[],0⟩) ?_) (vO _ _ _)) rfl;intro _ o h;exact j.2 o h
      .split
       .unfold fU;simp only;have g:Fh a (aG t 2 (ab t 2 [117,110,105,111,110] f)).2:=Fh.of (q.of (an _ _ _).e) (mp _ _);generalize aG t 2 (ab t 2 [117,110,105,111,110] f)=e at *
        have j:Fh a (bR t (ab t 4 [40] (ab t 2 [115,119,105,116,99,104] e.2))).2:=g.of ((an _ _ _).a ((an _ _ _).a (oD _))).e;generalize bR t (ab t 4 [40] (ab t 2 [115,119,105,116,99,104] e.2))=c at *
        have u:Fh a (ab t 4 [123] (ab t 4 [41] (cJ t c.2).2)):=j.of ((iX _).a ((an _ _ _).a (an _ _ _))).e;generalize cJ t c.2=d at *
        have r:=HR (t:=t) c.1.1 14 [] [] [d.1.text] ([117,110,105,111,110,32]++e.1.text++[32,115,119,105,116,99,104,32,40]++c.1.2++[32]++d.1.text++[41,32,123,32]) _ u (by simp);generalize dO t c.1.1 14 [] [] [d.1.text] ([117,110,105,111,110,32]++e.1.text++[32,115,119,105,116,99,104,32,40]++c.1.2++[32]++d.1.text++[41,32,123,32]) (ab t 4 [123] (ab t 4 [41] d.2))=n at *
        have s:=HM (t:=t) r.1 n.1.2.2.1;generalize gj t n.1.2.2.1 n.2=k at *
        refine Fh.of (Fh.of (Fh.row (s.1.of ((an (t:=t) 4 [125] _).a (an (t:=t) 4 [59] _)).e) (r:=⟨13,0,c.1.1,n.1.1,n.1.2.1,k.1.1,[],0⟩) ?_) (vO _ _ _)) rfl;intro _ o h;simp[ct]at h;rcases h with h|rfl
        .exact r.2 o h
        .exact s.2
       .exact l.of rfl
   .unfold bG;rw[Y2 p,Y2 m,Y9 (Y8 i)];exact l.of rfl
end
variable {t : List UInt8} {g h : St} {σ b i j a σ0 : ac} {c d : bq} {f : Mar.M}
def W1(σ0 σ:ac):Prop:=∀a∈σ.g,a.ag=1->a∈σ0.g
def Fv(σ:ac):W1 σ σ:=λ_ a _=>a
def W1.of(a:W1 σ0 σ)(c:b.g=σ.g):W1 σ0 b:=by unfold W1;rw[c];exact a
def sd(b:W1 σ0 σ):W1 σ0 (aG t 2 σ).2:=by
 unfold aG;split
 .exact b.of (iX σ).g
 .split
  .exact b.of ((iX σ).a (vW _ _ _)).g
  .intro d a c;rcases Yn.1 (show d∈(cJ t σ).2.g++_ from a)with a|a
   .rw[(iX σ).g]at a;exact b d a c
   .simp at a;subst a;simp at c
def Sd(f:W1 σ0 σ)(c:Nat)(e h:Int)(g:e≠1):W1 σ0 (gs σ c e h):=by
 intro d a b;rcases List.mem_or_eq_of_mem_set (show d∈σ.g.set c _ from a)with a|a
 .exact f d a b
 .subst a;exact absurd b g
def Ec(a:W1 σ0 σ)(c:List UInt8)(b:Int):W1 σ0 (dA c b σ):=by
 unfold dA;split
 .exact(Sd a _ 0 b (by omega)).of rfl
 .exact a.of rfl
def Se(d:W1 σ0 σ)(f:List UInt8)(e:Int):∀a∈(cX f e σ).g,a.ag=1->a∈σ0.g\/a.n=e:=by
 unfold cX;split
 .intro a b c;rcases List.mem_or_eq_of_mem_set (show a∈σ.g.set _ _ from b)with b|b
  .exact Y8 (d a b c)
  .subst b;exact Ya rfl
 .intro a b c;exact Y8 (d a b c)
def Sb:∀(c:Nat) (a:List Int) (f:List UInt8) (σ:ac),W1 σ0 σ->W1 σ0 (dh t c a f σ).2.2.2:=by
 intro c;induction c with
 |zero=>intro a f σ b;exact b
 |succ c i=>
  intro a f σ b;by_cases h:σ.s.e=0
  .rw[rh h];have d:W1 σ0 (fg t a σ):=by
    refine W1.of ?_ (jy _ _ _ _).g;exact(sd (b.of ((cw _ _ _).a (cw _ _ _)).g)).of ((an _ _ _).a (fT _ _ _)).g
   have g:W1 σ0 (fA t a σ):=by
    unfold fA;split
    .exact d
    .exact Ec d _ _
   split
   .exact d
   .split
    .exact i _ _ _ (g.of (eB _).g)
    .exact g
  .rw[pB h];exact b
def LB:∀(a:Nat) (c:List Int) (b:List (List UInt8)) (d:List UInt8) (σ:ac),(dI t a c b d σ).2.2.g=σ.g:=by
 intro a;induction a with
 |zero=>intro c b d σ;rfl
 |succ a h=>
  intro c b d σ;by_cases g:σ.s.e=0
  .rw[tO g];have f:(ab t 4 [59] (fi t c.length b σ).2).g=σ.g:=((cw _ _ _).p.a ((kA _ _ _).a (an _ _ _).p)).g;split
   .exact f
   .rw[h];exact f
  .rw[tP g]
def LC(of:Int):∀(b:Nat) (a f:List Int) (c:List (List UInt8)) (d:List UInt8) (σ:ac),(dO t of b a f c d σ).2.g=σ.g:=by
 intro b;induction b with
 |zero=>intro a f c d σ;rfl
 |succ b i=>
  intro a f c d σ;by_cases h:σ.s.e=0
  .rw[qr h];have g:(ce t c (bT t of (14-a.length) a [] σ).2).2.g=σ.g:=((mS _ _ _ _ _).1.p.a (mb _ _)).g;split
   .rw[i];exact g
   .exact g
  .rw[qs h]
def Lz(σ:ac):∀b∈(bG t σ).g,b.ag=1->b∈σ.g\/nO σ.e.length (bG t σ).e.length b.n:=by
 have w:=Fv σ;by_cases o:ax σ 2 [99,111,110,115,116]=true
 .unfold bG;rw[Y9 o];intro b c f;refine Y8 ?_;unfold fL at c;simp only at c;have m:W1 σ (aG t 2 (ab t 2 [99,111,110,115,116] (ar σ.D 40 σ))).2:=sd (w.of ((cw _ _ _).a (an _ _ _)).g);generalize aG t 2 (ab t 2 [99,111,110,115,116] (ar σ.D 40 σ))=d at *
  have j:W1 σ (ab t 4 [59] (aV t (-2147483648) 4294967295 (ab t 4 [61] d.2)).2):=m.of ((an _ _ _).a ((fT _ _ _).a (an _ _ _))).g;split at c
  .exact j b c f
  .exact Ec j _ _ b c f
 .by_cases m:ax σ 2 [112,114,111,103,114,97,109]=true
  .unfold bG;rw[Y2 o,Y9 m];intro b c f;refine Y8 ?_;unfold gr at c;simp only at c;have j:W1 σ (aG t 2 (ab t 2 [112,114,111,103,114,97,109] (ar σ.o.length 4 σ))).2:=sd (w.of ((cw _ _ _).a (an _ _ _)).g);generalize aG t 2 (ab t 2 [112,114,111,103,114,97,109] (ar σ.o.length 4 σ))=d at *
   have k:W1 σ (ab t 4 [125] (ep t 6 [] [] [] ([112,114,111,103,114,97,109,32]++d.1.text++[32,123,32]) (ab t 4 [123] d.2)).2):=j.of ((an _ _ _).p.a ((sR _ _ _ _ _ _).a (an _ _ _).p)).g;generalize ep t 6 [] [] [] ([112,114,111,103,114,97,109,32]++d.1.text++[32,123,32]) (ab t 4 [123] d.2)=v at *
   exact(k.of (mY (t:=t) (ab t 4 [125] v.2).o _).g) b c f
  .by_cases j:σ.s.x.f=2
   .rw[sN o m j];have q:W1 σ (ge σ):=w.of (cw σ.j 24 σ).g;have H:σ.e.length<=(ge σ).e.length:=(sX σ).ak;generalize ge σ=a at *
    have y:∀{e:ac} {b:bc} {n r:List UInt8},dl a e->W1 σ e->∀d∈(dV r (cX n e.e.length (bJ b e))).g,d.ag=1->d∈σ.g\/nO σ.e.length (dV r (cX n e.e.length (bJ b e))).e.length d.n:=by
     intro e b n r I J d x K;rcases Se (σ:=bJ b e) (J.of rfl) n e.e.length d x K with i|i
     .exact Y8 i
     .right;rw[show (dV r (cX n e.e.length (bJ b e))).e=(bJ b e).e from vO _ _ _,i];exact pW e b (Yz H I.ak)
    split
    .unfold gf;simp only;have F:=xj (t:=t) [] true (ab t 2 [116,121,112,101,100,101,102] a);have f:W1 σ (bQ t [] true (ab t 2 [116,121,112,101,100,101,102] a)).2:=q.of ((an _ _ _).p.a (kA _ _ _)).g;generalize bQ t [] true (ab t 2 [116,121,112,101,100,101,102] a)=s at *
     intro b c i;split at c
     .exact Y8 (f b c i)
     .rename_i G;rw[Y2 G];rcases Yn.1 (show b∈s.2.g++_ from c)with c|c
      .exact Y8 (f b c i)
      .simp at c;subst c;right;refine F.imp id λA=>⟨?_,A.2⟩;have M:((a.e.length:Nat):Int)<=s.1.r:=A.1;show ((σ.e.length:Nat):Int)<=s.1.r;omega
    .split
     .unfold gD;simp only;have k:W1 σ (aG t 2 (ab t 2 [101,110,117,109] a)).2:=sd (q.of (an _ _ _).g);have l:dl a (aG t 2 (ab t 2 [101,110,117,109] a)).2:=(an _ _ _).p.aN.a (mZ _ _);generalize aG t 2 (ab t 2 [101,110,117,109] a)=b at *
      have p:=Sb (t:=t) (σ0:=σ) 13 [] ([101,110,117,109,32]++b.1.text++[32,123,32]) (ab t 4 [123] b.2) (k.of (an _ _ _).g);have u:=l.a ((an (t:=t) 4 [123] b.2).p.aN.a (AQ (t:=t) 13 [] ([101,110,117,109,32]++b.1.text++[32,123,32]) (ab t 4 [123] b.2)));split
      .intro d x i;exact Y8 (p d x i)
      .exact y (u.a ((an (t:=t) 4 [125] _).a (an (t:=t) 4 [59] _)).p.aN) (p.of ((an (t:=t) 4 [125] _).a (an (t:=t) 4 [59] _)).g)
     .split
      .unfold gt;have k:W1 σ (aG t 2 (ab t 2 [115,116,114,117,99,116] a)).2:=sd (q.of (an _ _ _).g);have l:dl a (aG t 2 (ab t 2 [115,116,114,117,99,116] a)).2:=(an _ _ _).p.aN.a (mZ _ _);generalize aG t 2 (ab t 2 [115,116,114,117,99,116] a)=b at *
       have p:=(k.of (an (t:=t) 4 [123] b.2).g).of (LB (t:=t) 14 [] [] ([115,116,114,117,99,116,32]++b.1.text++[32,123,32]) (ab t 4 [123] b.2));have u:=l.a ((an (t:=t) 4 [123] b.2).p.aN.a (AF (t:=t) 14 [] [] ([115,116,114,117,99,116,32]++b.1.text++[32,123,32]) (ab t 4 [123] b.2)));exact y (u.a ((an (t:=t) 4 [125] _).a (an (t:=t) 4 [59] _)).p.aN) (p.of ((an (t:=t) 4 [125] _).a (an (t:=t) 4 [59] _)).g)
      .split
       .unfold fU;simp only;have k:W1 σ (aG t 2 (ab t 2 [117,110,105,111,110] a)).2:=sd (q.of (an _ _ _).g);have l:dl a (aG t 2 (ab t 2 [117,110,105,111,110] a)).2:=(an _ _ _).p.aN.a (mZ _ _);generalize aG t 2 (ab t 2 [117,110,105,111,110] a)=b at *
        have B:Sm b.2 (bR t (ab t 4 [40] (ab t 2 [115,119,105,116,99,104] b.2))).2:=(an _ _ _).a ((an _ _ _).a (oD _));generalize bR t (ab t 4 [40] (ab t 2 [115,119,105,116,99,104] b.2))=h at *
        have C:Sm h.2 (ab t 4 [123] (ab t 4 [41] (cJ t h.2).2)):=(iX _).a ((an _ _ _).a (an _ _ _));generalize cJ t h.2=g at *
        have L:=LC (t:=t) h.1.1 14 [] [] [g.1.text] ([117,110,105,111,110,32]++b.1.text++[32,115,119,105,116,99,104,32,40]++h.1.2++[32]++g.1.text++[41,32,123,32]) (ab t 4 [123] (ab t 4 [41] g.2));have E:=AS (t:=t) h.1.1 14 [] [] [g.1.text] ([117,110,105,111,110,32]++b.1.text++[32,115,119,105,116,99,104,32,40]++h.1.2++[32]++g.1.text++[41,32,123,32]) (ab t 4 [123] (ab t 4 [41] g.2));generalize dO t h.1.1 14 [] [] [g.1.text] ([117,110,105,111,110,32]++b.1.text++[32,115,119,105,116,99,104,32,40]++h.1.2++[32]++g.1.text++[41,32,123,32]) (ab t 4 [123] (ab t 4 [41] g.2))=D at *
        have z:=sP (t:=t) D.1.2.2.1 D.2;exact y (l.a ((B.a C).p.aN.a (E.a (z.aN.a ((an (t:=t) 4 [125] _).a (an (t:=t) 4 [59] _)).p.aN)))) ((((k.of (B.a C).g).of L).of z.g).of ((an (t:=t) 4 [125] _).a (an (t:=t) 4 [59] _)).g)
       .intro b c f;exact Y8 c
   .unfold bG;rw[Y2 o,Y2 m,Y9 (Y8 j)];intro b c f;exact Y8 c
def Hx:∀(b:Nat) (a:List Int) (c:List UInt8) (σ:ac),(dh t b a c σ).2.1.length<=a.length+b:=by
 intro b;induction b with
 |zero=>intro a c σ;exact Y4 _
 |succ b f=>
  intro a c σ;by_cases d:σ.s.e=0
  .rw[rh d];split
   .simp
   .split
    .have:=f (a++[(gE t a.length σ).1.1]) (c++(iS t a.length σ).1.text++[32,61,32]++bB (gE t a.length σ).1.1++[44,32]) (aI t (fA t a σ));rw[Yq,List.length_singleton]at this;omega
    .simp<;>omega
  .rw[pB d];simp
def Ob:∀(c:Nat) (a:List Int) (f:List UInt8) (σ:ac),Rn σ->Rn (dh t c a f σ).2.2.2:=by
 intro c;induction c with
 |zero=>intro a f σ b;exact b
 |succ c i=>
  intro a f σ b;by_cases h:σ.s.e=0
  .rw[rh h];have d:Rn (fg t a σ):=by
    refine Rn.of ?_ (jy _ _ _ _).e;exact Rn.of (Rn.of (Rn.of b ((cw _ _ _).a (cw _ _ _)).e) (mp _ _)) ((an _ _ _).a (fT _ _ _)).e
   have g:Rn (fA t a σ):=by
    unfold fA;split
    .exact d
    .exact d.of (yD _ _ _)
   split
   .exact d
   .split
    .exact i _ _ _ (g.of (eB _).e)
    .exact g
  .rw[pB h];exact b
def Oa(d:Rn σ):Rn (gD t σ):=by
 unfold gD;simp only;have e:Rn (aG t 2 (ab t 2 [101,110,117,109] σ)).2:=tF (d.p (an _ _ _).p) 2;generalize aG t 2 (ab t 2 [101,110,117,109] σ)=a at *
 have f:=Hx (t:=t) 13 [] ([101,110,117,109,32]++a.1.text++[32,123,32]) (ab t 4 [123] a.2);have b:=Ob (t:=t) 13 [] ([101,110,117,109,32]++a.1.text++[32,123,32]) (ab t 4 [123] a.2) (e.p (an _ _ _).p);generalize dh t 13 [] ([101,110,117,109,32]++a.1.text++[32,123,32]) (ab t 4 [123] a.2)=c at *
 split
 .exact b
 .refine vL (yy (yx (b.p ((an _ _ _).a (an _ _ _)).p) _ ⟨?_,by simp⟩) _ _) _;simp only[List.length_nil]at f;show c.2.1.length<=1000;omega
def FW(of:Int):∀(b:Nat) (a:List Int) (c:List UInt8) (σ:ac),(bT t of b a c σ).1.1.length<=a.length+b:=by
 intro b;induction b with
 |zero=>intro a c σ;exact Y4 _
 |succ b f=>
  intro a c σ;by_cases d:σ.s.e=0
  .rw[wW d];split
   .have:=f (a++[(la t of a.length σ).1.1]) (c++[99,97,115,101,32]++bB (la t of a.length σ).1.1++[58,32]) (mT t of a σ);rw[Yq,List.length_singleton]at this;omega
   .simp<;>omega
  .unfold bT;rw[Y9 d];simp
def Rz(of:Int):∀(c:Nat) (a b:List Int) (d:List (List UInt8)) (f:List UInt8) (σ:ac),a.length<=14->b.length<=14->(dO t of c a b d f σ).1.1.length<=14/\(dO t of c a b d f σ).1.2.1.length<=14:=by
 intro c;induction c with
 |zero=>intro a b d f σ g h;exact⟨g,h⟩
 |succ c l=>
  intro a b d f σ g h;by_cases k:σ.s.e=0
  .rw[qr k];have i:(bT t of (14-a.length) a [] σ).1.1.length<=14:=by have:=FW (t:=t) of (14-a.length) a [] σ;omega
   have j:(jR (bT t of (14-a.length) a [] σ).1.1.length (ce t d (bT t of (14-a.length) a [] σ).2).1.1 b).length<=14:=by unfold jR;simp;omega
   split
   .exact l _ _ _ _ _ i j
   .exact⟨i,j⟩
  .rw[qs k];exact⟨g,h⟩
def Oi(of:Int):∀(c:Nat) (a g:List Int) (d:List (List UInt8)) (f:List UInt8) (σ:ac),Rn σ->Rn (dO t of c a g d f σ).2:=by
 intro c;induction c with
 |zero=>intro a g d f σ b;exact b
 |succ c j=>
  intro a g d f σ b;by_cases i:σ.s.e=0
  .rw[qr i];have h:Rn (ce t d (bT t of (14-a.length) a [] σ).2).2:=b.p ((mS _ _ _ _ _).1.p.a (mb _ _));split
   .exact j _ _ _ _ _ h
   .exact h
  .rw[qs i];exact b
def Oh(e:Rn σ):Rn (fU t σ):=by
 unfold fU;simp only;have f:Rn (aG t 2 (ab t 2 [117,110,105,111,110] σ)).2:=tF (e.p (an _ _ _).p) 2;generalize aG t 2 (ab t 2 [117,110,105,111,110] σ)=c at *
 have g:Rn (bR t (ab t 4 [40] (ab t 2 [115,119,105,116,99,104] c.2))).2:=f.of ((an _ _ _).a ((an _ _ _).a (oD _))).e;generalize bR t (ab t 4 [40] (ab t 2 [115,119,105,116,99,104] c.2))=b at *
 have h:Rn (ab t 4 [123] (ab t 4 [41] (cJ t b.2).2)):=g.of ((iX _).a ((an _ _ _).a (an _ _ _))).e;generalize cJ t b.2=a at *
 have i:=Oi (t:=t) b.1.1 14 [] [] [a.1.text] ([117,110,105,111,110,32]++c.1.text++[32,115,119,105,116,99,104,32,40]++b.1.2++[32]++a.1.text++[41,32,123,32]) _ h;have j:=Rz (t:=t) b.1.1 14 [] [] [a.1.text] ([117,110,105,111,110,32]++c.1.text++[32,115,119,105,116,99,104,32,40]++b.1.2++[32]++a.1.text++[41,32,123,32]) (ab t 4 [123] (ab t 4 [41] a.2)) (by simp) (by simp);generalize dO t b.1.1 14 [] [] [a.1.text] ([117,110,105,111,110,32]++c.1.text++[32,115,119,105,116,99,104,32,40]++b.1.2++[32]++a.1.text++[41,32,123,32]) (ab t 4 [123] (ab t 4 [41] a.2))=d at *
 refine vL (yy (yx ((i.p (sP _ _)).p ((an _ _ _).a (an _ _ _)).p) _ ⟨?_,?_⟩) _ _) _
 .show d.1.1.length<=1000;omega
 .show d.1.2.1.length<=1000;omega
def NZ(a:Rn σ):Rn (bG t σ):=by
 by_cases b:ax σ 2 [99,111,110,115,116]=true
 .unfold bG;rw[Y9 b];exact NY a
 .by_cases d:ax σ 2 [112,114,111,103,114,97,109]=true
  .unfold bG;rw[Y2 b,Y9 d];exact Od a
  .by_cases e:σ.s.x.f=2
   .rw[sN b d e];have c:Rn (ge σ):=a.of (cw σ.j 24 σ).e;split
    .exact Og c
    .split
     .exact Oa c
     .split
      .exact Oe c
      .split
       .exact Oh c
       .exact a.of rfl
   .unfold bG;rw[Y2 b,Y2 d,Y9 (Y8 e)];exact a.of rfl
variable {t : List UInt8} {g k : St} {d w x z A y : ac} {f l : bq} {u : Mar.M} {h : List ao} {e : ao}
def kL(a:List UInt8×Option ao):Option ao:=match a.2 with
 |some e=>if iR e=true then some e else none
 |none=>none
structure Wh(t:List UInt8)(h:List ao)(f:bq)(g:St)(d:ac):Prop where
 q:Q t f g d
 pd:f.pd=[]
 dc:f.dc=0
 fz:f.fz=d.g
 o:f.o=h.flatMap xk
 ps:YL d.e (h.flatMap Ah) f.ps
 rf:f.rf=(h.flatMap gi).map λp=>(p.1,(p.2:Int))
 z:f.z.filterMap kL=h.filter iR
 kU:∀p∈f.z,p.2≠none
 h4:∀p∈f.z,∀e,p.2=some e->iR e=true->(bA e).1=p.1
 ij:∀(i j:Nat) (a b:de),d.g[i]? = some a->d.g[j]? = some b->i≠j->a.ag=1->b.ag=1->a.n=b.n->a.n<5
 tr:∀(i:Nat) (r:bc),d.e[i]? = some r->r.f≠14->∀c∈ct r,5<=c->∀m∈d.g,m.ag=1->m.n≠c
 f1:bF d
 rn:Rn d
 ti:lQ g h
def jS{e:Type}{c:List e}{b:Nat}{f:e}(d:c[b]? = some f):b<c.length:=by
 rcases Yj b c.length with a|a
 .exact a
 .rw[YA a]at d;cases d
def Q.ag(o:Q t f g d){l:Nat}{c:List UInt8×Option ao}{b:de}(p:f.z[l]? = some c)(q:d.g[l]? = some b)(r:b.ag=1):∃e,c.2=some e/\iR e=true/\b.s=c.1/\b.m=(bA e).2/\pj d.e f.z e b.n:=by
 obtain⟨k,a⟩:=o.nm.fG l c b p q;cases m:c.2 with
 |none=>rw[m]at a;have:b.ag=2:=a;omega
 |some e=>
  rw[m]at a;cases e with
  |const h i j=>have:b.ag=0:=a.1;omega
  |prog h i j e=>have:b.ag=2:=a;omega
  |typedef e=>exact⟨_,rfl,rfl,k,a.2⟩
  |enum h i j=>exact⟨_,rfl,rfl,k,a.2⟩
  |struct h i j=>exact⟨_,rfl,rfl,k,a.2⟩
  |union h i j e=>exact⟨_,rfl,rfl,k,a.2⟩
def Q.kt(n:Q t f g d){b c:Nat}{l m:de}(h:d.g[b]? = some l)(i:d.g[c]? = some m)(o:l.s=m.s):b=c:=by
 have e:(d.g.map (·.s)).Nodup:=by rw[n.nm.j8];exact n.nm.H
 have e:=List.pairwise_iff_getElem.1 e;have j:=jS h;have k:=jS i;rw[Yd j]at h;rw[Yd k]at i;cases h
 cases i
 rcases Nat.lt_trichotomy b c with a|a|a
 .exact(e b c (by simpa using j) (by simpa using k) a (by simp[o])).elim
 .exact a
 .exact(e c b (by simpa using k) (by simpa using j) a (by simp[o])).elim
def Wh.cl(j:Wh t h f g d)(H:hS (fN (ap t)) g=.ok (e,k)):∃l,Wh t (h++[e]) l k (bG t d):=by
 have b2:=Da j.q j.pd j.dc;rw[H]at b2;obtain⟨z,m,e2,ok,c9⟩:=b2;obtain⟨b7,S,N⟩:=ok.z;have a9:=It (t:=t) d;have a8:=m.d9.1;rw[ok.fz,j.fz]at a8;obtain⟨e1,b0⟩:=a8;have d6:d.g.length=f.z.length:=j.q.nm.ak;have a7:∀y∈z.z,y.2≠none:=by
  intro y i;rw[S]at i;rcases Yn.1 i with i|i
  .exact j.kU y i
  .rcases Yg.1 i with rfl|i
   .simp
   .obtain⟨b,x,v,D⟩:=N y i;rw[D];simp
 have R:∀(a:Nat) (b:de),(bG t d).g[a]? = some b->b.ag=1->a<d.g.length\/a=d.g.length:=by
  intro a b q B;rcases Yj a d.g.length with p|p
  .exact Y8 p
  .right;have r:a<z.z.length:=by rw[<-m.nm.ak];exact jS q
   obtain⟨b6,a0⟩:∃b6,z.z[a]? = some b6:=⟨_,Yd r⟩;obtain⟨d2,a6,a3,-⟩:=m.ag a0 q B;rcases Yj d.g.length a with F|F
   .exfalso;rw[S,Yw (by omega)]at a0;obtain⟨b5,P⟩:∃b5,a-f.z.length=b5+1:=⟨a-f.z.length-1,by omega⟩;rw[P,List.getElem?_cons_succ]at a0;obtain⟨d0,d1,e4,D⟩:=N _ (Yh a0);rw[D]at a6;cases a6
    cases a3
   .omega
 have K:∀(a:Nat) (b:de),a<d.g.length->(bG t d).g[a]? = some b->d.g[a]? = some b:=by
  intro a b r q;rw[b0,Ys r]at q;exact q
 have a5:∀(b:de),(bG t d).g[d.g.length]? = some b->b.ag=1->nO d.e.length (bG t d).e.length b.n:=by
  intro b q B;rcases Lz (t:=t) d b (Yh q) B with p|p
  .exfalso;obtain⟨s,w,c2⟩:=List.mem_iff_getElem.1 p;have J:(bG t d).g[s]? = some b:=by rw[b0,Ys w,Yd w,c2]
   have:=m.kt q J rfl;omega
  .exact p
 have d4:fN (ap t) g=.ok (e,{ k with g:=k.g })\/True:=Ya trivial;have a4:∃a2,fN (ap t) g=.ok (e,a2)/\k = { a2 with g:=cL a2.g (bA e).1 e }:=by
  cases c:fN (ap t) g with
  |error u=>rw[hT c]at H;cases H
  |ok e3=>
   rw[oj c]at H;cases H
   exact⟨_,rfl,rfl⟩
 obtain⟨a2,a4,c8⟩:=a4;have b8:=j.rn.fY;refine⟨{ z with fz:=(bG t d).g },⟨⟨m.e,m.wd,m.z,m.pd,m.nm,m.k,m.cn,m.pg,m.c9,m.bw,m.ou,m.pr,m.dL,⟨⟨[],by simp⟩,λs y _ i=>a7 y (Yh i)⟩⟩,ok.pd,ok.dc,rfl,?_,?_,?_,?_,a7,?_,?_,?_,Li j.f1 b8,NZ j.rn,?_⟩⟩
 .show z.o=_;rw[ok.o,j.o];simp
 .show YL _ _ z.ps;rw[ok.ps,YK];exact(j.ps.aN a9).bv (by simpa using c9)
 .show z.rf=_;rw[ok.rf,j.rf];simp
 .show z.z.filterMap kL=_;rw[S,List.filterMap_append,j.z,List.filter_append];congr 1;have b4:b7.filterMap kL=[]:=by
   rw[List.filterMap_eq_nil_iff];intro C c;obtain⟨b,x,v,D⟩:=N C c;simp[kL,D,iR]
  rw[List.filterMap_cons];cases A:iR e with
  |true=>simp[kL,A,b4]
  |false=>simp[kL,A,b4]
 .intro y i D I b3;have i:y∈z.z:=i;rw[S]at i;rcases Yn.1 i with i|i
  .exact j.h4 y i D I b3
  .rcases Yg.1 i with rfl|i
   .simp only[Yu]at I;rw[<-I]
   .obtain⟨b,x,v,a3⟩:=N y i;rw[a3]at I;cases I
    cases b3
 .intro a s b x q A c1 M G b9;rcases R a b q M with r|r
  .rcases R s x A G with w|w
   .exact j.ij a s b x (K a b r q) (K s x w A) c1 M G b9
   .subst w;have d7:=j.f1 b (Yh (K a b r q)) M;rcases a5 x A G with p|p
    .omega
    .omega
  .subst r;rcases R s x A G with w|w
   .have d8:=j.f1 x (Yh (K s x w A)) G;rcases a5 b q M with p|p
    .exact p
    .omega
   .omega
 .intro a a1 L P C c c0 E c5 B;have O:=m.bw a a1 L;have d3:C<(max a 5:Nat):=by
   unfold ct at c;split at c
   .simp at c;subst c;exact O.1
   .split at c
    .exact O.2.1 C c
    .split at c
     .rcases Yn.1 c with c|c
      .exact O.2.1 C c
      .simp at c;subst c;exact O.2.2.1
     .cases c
  have d5:=jS L;obtain⟨s,w,c3⟩:=List.mem_iff_getElem.1 c5;have J:(bG t d).g[s]? = some E:=by rw[Yd w,c3]
  intro c6;rcases R s E J B with p|p
  .have b1:=K s E p J;have d9:=j.f1 E (Yh b1) B;rcases Yj a d.e.length with r|r
   .have c7:d.e[a]? = some a1:=by
     obtain⟨e0,c4⟩:=a9;rw[c4,Ys r]at L;exact L
    exact j.tr a a1 c7 P C c c0 E (Yh b1) B c6
   .rcases(HL (t:=t) d).2 a a1 L r P C c with F|F<;>omega
  .subst p;rcases a5 E J B with F|F
   .omega
   .omega
 .rw[c8];exact j.ti.cl a4
variable {d : List UInt8} {b j : St} {a k l o p m : ac} {f i : bq} {g : Mar.M} {h : List ao} {c : ao}
def start(d:List UInt8):ac:={ ic with s:=⟨cQ d 0,0,0⟩,e:=jL }
def pD:bq:=⟨0,[],[],[],[],[],[]⟩
def Sg(d:List UInt8):Wh d [] pD eN (start d):=by
 have g:∀(a:Nat) (b:bc),jL[a]? = some b->uk (max a 5) b/\b.f≠14/\ct b=[]/\b.a0=[]/\b.bY=[]:=by
  intro a b e;have h:=jS e;have:a=0\/a=1\/a=2\/a=3\/a=4:=by simp[jL]at h;omega
  rcases this with rfl|rfl|rfl|rfl|rfl<;>(simp[jL]at e;subst e;refine⟨⟨by simp,by simp,by simp,by simp⟩,by simp,rfl,rfl,rfl⟩)
 refine⟨⟨rfl,Eg d 0,rfl,Y8 rfl,⟨rfl,λa i b f=>by simp[pD]at f,by simp[pD]⟩,rfl,rfl,rfl,⟨[],rfl⟩,λa b e=>(g a b e).1,rfl,rfl,rfl,⟨⟨[],rfl⟩,λq i o=>by simp[pD]at o⟩⟩,rfl,rfl,rfl,rfl,qP _,rfl,rfl,?_,?_,?_,?_,?_,?_,?_⟩
 .intro i f;simp[pD]at f
 .intro i f;simp[pD]at f
 .intro a q r s n;simp[start,ic]at n
 .intro a b e u t j;rw[(g a b e).2.2.1]at j;cases j
 .intro v p;simp[start,ic]at p
 .refine⟨by simp[start,jL],?_⟩;intro b e;obtain⟨a,h⟩:=List.mem_iff_getElem?.1 e;obtain⟨-,-,-,l,m⟩:=g a b h;rw[l,m];simp
 .exact⟨by simp[eN],by simp[eN],by simp[eN],by simp,λw c k=>by simp[eN,ay]at k⟩
def hD(a:ac)(b:bc):bc:=if b.f=14 then { b with of:=(fh a b.a8).n }else b
def fS(a:ac)(b:Nat):ac:={ a with e:=(a.e.take b).map (hD a)++a.e.drop b }
def Mv(a:ac):fS a 0=a:=by simp[fS]
def Mu(a:ac):fS a a.e.length = { a with e:=a.e.map (hD a) }:=by simp[fS]
def yn{b:Nat}{e:bc}(d:a.e[b]? = some e):(fS a b).e.getD b cS=e:=by
 have f:=jS d;have c:((a.e.take b).map (hD a)).length=b:=by simp;omega
 unfold fS;simp only;rw[List.getD_eq_getElem?_getD,Yw (by rw[c];exact Y4 _),c,Nat.sub_self,List.getElem?_drop,Nat.add_zero,d];rfl
def Cu{b:Nat}{d:bc}(c:a.e[b]? = some d):fS a (b+1) = { fS a b with e:=(fS a b).e.set b (hD a d) }:=by
 have e:=jS c;have f:((a.e.take b).map (hD a)).length=b:=by simp;omega
 unfold fS;simp only;congr 1;have g:a.e.drop b=d::a.e.drop (b+1):=by
  rw[Yk e];rw[Yd e]at c;cases c
  rfl
 have h:a.e.take (b+1)=a.e.take b++[d]:=by
  rw[List.take_succ,c];rfl
 rw[g,h,List.set_append_right _ _ (by rw[f];exact Y4 _),f,Nat.sub_self,List.map_append];simp
def eY(b:St)(a:List UInt8):Bool:=match ay b.g a with
 |some c=>oq c
 |none=>false
def JQ(b:St)(a:List UInt8×Nat):js b a=if eY b a.1=true then .ok ()else .error ⟨7,a.2⟩:=by
 unfold js eY;cases ay b.g a.1 with
 |none=>rfl
 |some c=>cases oq c<;>rfl
def DR(n:Q d f b a)(x:f.pd=[])(e:List UInt8):(eY b e=true/\∃(m:Nat) (c:ao) (h:de),ay b.g e=some (some c)/\iR c=true/\f.z[m]? = some (e,some c)/\a.g[m]? = some h/\h.ag=1/\fh a e=h/\¬(bz a e<0\/(fh a e).ag≠1))\/(eY b e=false/\(bz a e<0\/(fh a e).ag≠1)):=by
 have w:b.g=f.z:=by rw[n.z,x];simp
 unfold eY;rw[w];rcases n.hs e with⟨o,p⟩|⟨m,y,h,o,p,u,q,v⟩
 .right;rw[o];exact⟨rfl,Y8 p⟩
 .have r:fh a e=h:=by
   unfold fh;rw[p,Int.toNat_natCast,List.getD_eq_getElem?_getD,q];rfl
  rw[o];simp only;by_cases g:h.ag=1
  .obtain⟨c,s,t,-⟩:=n.ag u q g;simp only at s;subst s;left;exact⟨t,m,c,h,rfl,t,u,q,g,r,by rw[r,g];simp;omega⟩
  .right;refine⟨?_,Ya (by rw[r];exact g)⟩;have l:=v.2;cases y with
   |none=>rfl
   |some c=>
    cases c with
    |const i j k=>rfl
    |prog i j k c=>rfl
    |typedef c=>exact absurd l.1 g
    |enum i j k=>exact absurd l.1 g
    |struct i j k=>exact absurd l.1 g
    |union i j k c=>exact absurd l.1 g
abbrev uQ(b:St):eT Unit:=fy ⟨0,0,0,0,[]⟩ ⟨#[]⟩ b [] 0
def QL(b:St)(a:List UInt8×Nat)(c:List (List UInt8×Nat)):aY (uQ b) (a::c) ()=if eY b a.1=true then aY (uQ b) c ()else .error ⟨7,a.2⟩:=by
 conv=>lhs;unfold aY
 have d:(uQ b).af a ()=js b a:=rfl;rw[d,JQ];cases eY b a.1<;>rfl
def Nu(a:bc)(b:List bc):kb (a::b)=if a.f=14 then (a.a8,a.m)::kb b else kb b:=by
 unfold kb;rw[List.filterMap_cons];by_cases c:a.f=14
 .simp[c]
 .simp[c]
def Ny(v:Q d f b a)(K:f.pd=[]):∀(o h:Nat) (j:List (List UInt8×Nat)),h+o=a.e.length->kb (a.e.drop h)=j.map (λl=>(l.1,(l.2:Int)))->
  match aY (uQ b) j ()with
  |.error g=>Er g (mm o h (fS a h))
  |.ok _=>mm o h (fS a h)=fS a a.e.length/\∀l∈j,eY b l.1=true:=by
 intro o;induction o with
 |zero=>
  intro h j I i;have:h=a.e.length:=by omega
  subst this;rw[List.drop_length]at i;have:j=[]:=by
   cases j with
   |nil=>rfl
   |cons A j=>simp[kb]at i
  subst this;exact⟨rfl,by simp⟩
 |succ o z=>
  intro h j I i;have r:h<a.e.length:=by omega
  obtain⟨k,m⟩:∃k,a.e[h]? = some k:=⟨_,Yd r⟩;have F:a.e.drop h=k::a.e.drop (h+1):=by
   rw[Yk r];rw[Yd r]at m;cases m
   rfl
  rw[F,Nu]at i;unfold mm;rw[yn m];by_cases q:k.f=14
  .rw[Y9 q]at i ⊢;cases j with
   |nil=>simp at i
   |cons l j=>
    simp only[List.map_cons,List.cons.injEq,Prod.mk.injEq]at i;obtain⟨⟨y,D⟩,i⟩:=i;rw[QL];have H:bz (fS a h) k.a8=bz a k.a8:=rfl;have J:fh (fS a h) k.a8=fh a k.a8:=rfl;rw[H,J,y];rcases DR v K l.1 with⟨p,N,c,O,-,-,-,-,-,M,C⟩|⟨p,B⟩
    .rw[Y9 p,Y2 C];have t:lA (fS a h) h (fh a l.1).n=fS a (h+1):=by
      rw[<-y,Cu m];unfold lA;rw[yn m];unfold hD;rw[Y9 q]
     rw[t];have:=z (h+1) j (by omega) i;split at this
     .rename_i g E;exact this
     .rename_i P E;refine⟨this.1,?_⟩;intro L u;rcases Yg.1 u with rfl|u
      .exact p
      .exact this.2 L u
    .rw[Y2 (by rw[p];simp),Y9 B,D];have G:(fS a h).s.e=0:=v.e;exact zA G (e:=7) (a:=l.2) (by omega)
  .rw[Y2 q]at i ⊢;have t:fS a h=fS a (h+1):=by
    rw[Cu m];unfold hD;rw[Y2 q];have:(fS a h).e.set h k=(fS a h).e:=by
     have w:=yn m;apply CR;have x:h<(fS a h).e.length:=by
      unfold fS;simp;omega
     rw[Yd x];rw[List.getD_eq_getElem?_getD,Yd x]at w;simpa using w
    rw[this]
   rw[t];exact z (h+1) j (by omega) i
def gb(a:ac):ac:={ a with e:=a.e.map (hD a) }
def Pf(c:Wh d h f b a):match kD b h with
  |.error g=>Er g (lx a)
  |.ok _=>lx a=gb a/\∀e∈h.flatMap gi,eY b e.1=true:=by
 have:=Ny c.q c.pd a.e.length 0 (h.flatMap gi) (by omega) (by rw[List.drop_zero,c.q.dL,c.rf]);rw[Mv,Mu]at this;exact this
end Go.Proofs.YtjdhaegijjednaaGreatDoor
namespace Go.Proofs.YtjdhaegijjednaaGreatDoor
open Go.RowKit
open Relation
open Go.Proofs.Tryz
section
variable {P:Nat->Prop}{a:List Bool}{c y:Nat}
variable {σ : ac} {e : St}
def Re(σ:ac)(c y:Nat):Prop:=∃a,σ.e[c]? = some a/\(y:Int)∈ct a
abbrev Sn(a:List Bool)(c:Nat):Prop:=a.getD c false=true
def Pw{b:Nat}:Sn (a.set b true) y↔Sn a y\/(y=b/\b<a.length):=by
 unfold Sn;by_cases c:b=y
 .subst c;by_cases d:b<a.length
  .simp[d]
  .simp[d]
 .have:¬y=b:=λe=>c e.symm;simp[c,this]
def rQ:∀(e:List Int) (a:List Bool) (y:Nat),Sn (hm e a) y↔Sn a y\/((y:Int)∈e/\y<a.length):=by
 intro e;induction e with
 |nil=>intro a y;simp[hm]
 |cons c e h=>
  intro a y;have g:hm (c::e) a=hm e (if 0<=c then a.set c.toNat true else a):=rfl
  rw[g,h];by_cases f:0<=c
  .rw[Y9 f,Pw];simp only[YF,Yg];constructor
   .rintro((b|⟨b,d⟩)|⟨b,d⟩)
    .exact Y8 b
    .exact Ya ⟨Y8 (by omega),by omega⟩
    .exact Ya ⟨Ya b,d⟩
   .rintro(b|⟨b|b,d⟩)
    .exact Y8 (Y8 b)
    .exact Y8 (Ya ⟨by omega,by omega⟩)
    .exact Ya ⟨b,d⟩
  .rw[Y2 f];simp only[Yg];constructor
   .rintro(b|⟨b,d⟩)
    .exact Y8 b
    .exact Ya ⟨Ya b,d⟩
   .rintro(b|⟨b|b,d⟩)
    .exact Y8 b
    .omega
    .exact Ya ⟨b,d⟩
def yC{a:Nat}(b:a<σ.e.length):σ.e[a]? = some (σ.e.getD a cS):=by simp[b]
def Pv(b:Sn a c):c<a.length:=by
 rcases Yj c a.length with d|d
 .exact d
 .unfold Sn at b;rw[List.getD_eq_getElem?_getD,YA d]at b;cases b
def yB:∀(c d:Nat) (a:List Bool) (y:Nat),Sn a y->Sn (gJ σ c d a) y:=by
 intro c;induction c with
 |zero=>intro d a y b;exact b
 |succ c e=>
  intro d a y b;apply e;split
  .exact(rQ _ _ _).2 (Y8 b)
  .exact b
def Oo:∀(d b:Nat) (a:List Bool) (c y:Nat),b<=c->c<b+d->Sn a c->Re σ c y->y<a.length->Sn (gJ σ d b a) y:=by
 intro d;induction d with
 |zero=>intro b a c y h i;omega
 |succ d m=>
  intro b a c y h i e g f;unfold gJ;by_cases l:c=b
  .subst l;apply yB;rw[Y9 e,rQ];obtain⟨n,j,k⟩:=g;right;refine⟨?_,f⟩;rw[List.getD_eq_getElem?_getD,j];exact k
  .apply m (b+1) _ c y (by omega) (by omega) _ g
   .split
    .rw[xO];exact f
    .exact f
   .split
    .exact(rQ _ _ _).2 (Y8 e)
    .exact e
def On(h:∀c y,P c->Re σ c y->P y):∀(e b:Nat) (a:List Bool),b+e<=σ.e.length->(∀y,Sn a y->P y)->∀y,Sn (gJ σ e b a) y->P y:=by
 intro e;induction e with
 |zero=>intro b a _ d;exact d
 |succ e j=>
  intro b a k d;apply j (b+1) _ (by omega);intro y g;split at g
  .rename_i i;rcases(rQ _ _ _).1 g with f|⟨f,-⟩
   .exact d y f
   .exact h b y (d b i) ⟨_,yC (by omega),f⟩
  .exact d y g
def Ot:∀(b:Nat) (a:List Bool) (y:Nat),Sn a y->Sn (fJ σ b a) y:=by
 intro b;induction b with
 |zero=>intro a y c;exact c
 |succ b d=>intro a y c;exact d _ _ (yB _ _ _ _ c)
def CH(e:∀c y,P c->Re σ c y->P y):∀(b:Nat) (a:List Bool),(∀y,Sn a y->P y)->∀y,Sn (fJ σ b a) y->P y:=by
 intro b;induction b with
 |zero=>intro a d;exact d
 |succ b f=>intro a d;exact f _ (On e _ _ _ (by omega) d)
def Oj:∀(b:Nat) (a:List Bool),(fJ σ b a).length=a.length:=by
 intro b;induction b with
 |zero=>intro a;rfl
 |succ b c=>intro a;show (fJ σ b _).length=_;rw[c,CG]
def jO:List Bool->Nat
 |[]=>0
 |b::a=>(if b then 1 else 0)+jO a
def Gh(a:List Bool):jO a<=a.length:=by
 induction a with
 |nil=>exact Y4 _
 |cons b a c=>simp only[jO,YC];split<;>omega
def Gi:∀(a b:List Bool),a.length=b.length->(∀y,Sn a y->Sn b y)->a≠b->jO a+1<=jO b:=by
 intro a;induction a with
 |nil=>intro b d _ e;exact absurd (Yv.1 d.symm).symm e
 |cons c a n=>
  intro b d g e;cases b with
  |nil=>simp at d
  |cons f b=>
   have k:a.length=b.length:=by simpa using d
   have l:∀y,Sn a y->Sn b y:=λy m=>g (y+1) m;have h:c=true->f=true:=λj=>g 0 (show (c::a).getD 0 false=true from j);simp only[jO];by_cases i:a=b
   .subst i;cases c with
    |true=>exact absurd (by rw[h rfl]) e
    |false=>
     cases f with
     |true=>simp;omega
     |false=>exact absurd rfl e
   .have o:=n b k l i;cases c with
    |true=>rw[h rfl];simp;omega
    |false=>simp;omega
def Ou(c:gJ σ σ.e.length 0 a=a):∀b,fJ σ b a=a:=by
 intro b;induction b with
 |zero=>rfl
 |succ b d=>show fJ σ b (gJ σ σ.e.length 0 a)=a;rw[c];exact d
def Oq:∀(b:Nat) (a:List Bool),gJ σ σ.e.length 0 (fJ σ b a)=fJ σ b a\/jO a+b<=jO (fJ σ b a):=by
 intro b;induction b with
 |zero=>intro a;exact Ya (Y4 _)
 |succ b g=>
  intro a;by_cases c:gJ σ σ.e.length 0 a=a
  .left;rw[Ou c];exact c
  .have h:=Gi a (gJ σ σ.e.length 0 a) (CG _ _ _ _).symm (λy f=>yB _ _ _ _ f) (λe=>c e.symm);rcases g (gJ σ σ.e.length 0 a)with d|d
   .exact Y8 d
   .right;show jO a+(b+1)<=jO (fJ σ b _);omega
def Gj(b:Sn a y):1<=jO a:=by
 induction a generalizing y with
 |nil=>cases b
 |cons c a d=>
  cases y with
  |zero=>
   have:c=true:=b;subst this;simp[jO]
  |succ y=>have:=d (y:=y) b;simp only[jO];omega
def Op(h:a.length=σ.e.length)(e:Sn (fJ σ σ.e.length a) c)(g:Re σ c y)(b:y<σ.e.length):Sn (fJ σ σ.e.length a) y:=by
 have f:=Oj (σ:=σ) σ.e.length a;have i:gJ σ σ.e.length 0 (fJ σ σ.e.length a)=fJ σ σ.e.length a:=by
  rcases Oq (σ:=σ) σ.e.length a with d|d
  .exact d
  .have k:=Gh (fJ σ σ.e.length a);have j:∀y,¬Sn a y:=λy b=>by have:=Gj b;omega
   exfalso;exact CH (σ:=σ) (P:=λ_=>False) (λ_ _ d _=>d) σ.e.length a (λy b=>j y b) c e
 rw[<-i];exact Oo _ _ _ c y (YV _) (by have:=Pv e;omega) e g (by rw[f,h];exact b)
def CC(e:sn σ)(a:Re σ c y):y<σ.e.length:=by
 obtain⟨f,b,d⟩:=a;have:=(e f (Yh b)).2 y d;omega
def Ht(h:sn σ){r:Nat}(g:r<σ.e.length):ma σ r=true↔TransGen (Re σ) r r:=by
 have k:(hm (ct (σ.e.getD r cS)) (List.replicate σ.e.length false)).length=σ.e.length:=by rw[xO];simp
 have j:∀y,¬Sn (List.replicate σ.e.length false) y:=λy a=>by
  unfold Sn at a;rw[List.getD_eq_getElem?_getD]at a;cases e:(List.replicate σ.e.length false)[y]? with
  |none=>rw[e]at a;cases a
  |some o=>
   rw[e]at a;have:=Yh e;rw[List.eq_of_mem_replicate this]at a;cases a
 constructor
 .intro d;refine CH (σ:=σ) (P:=λy=>TransGen (Re σ) r y) (λc y m a=>TransGen.tail m a) σ.e.length _ ?_ r d;intro y a;rcases(rQ _ _ _).1 a with b|⟨b,-⟩
  .exact absurd b (j y)
  .exact TransGen.single ⟨_,yC g,b⟩
 .intro d;have all:∀y,TransGen (Re σ) r y->Sn (fJ σ σ.e.length (hm (ct (σ.e.getD r cS)) (List.replicate σ.e.length false))) y:=by
   intro y a;induction a with
   |single b=>
    apply Ot;rw[rQ];right;have l:=CC h b;obtain⟨p,f,i⟩:=b;rw[yC g]at f;cases f
    exact⟨i,by simpa using l⟩
   |tail _ b n=>exact Op k n b (CC h b)
  exact all r d
def Ne(e:St)(c b:List UInt8):Prop:=∃a,(b,a)∈lh e c
def Kw(e:St)(a:List UInt8):Prop:=a∈e.g.map (·.1)
def RG{b d:List (List UInt8)}(g:∀c∈b,c∈d):hp e d<=hp e b:=by
 unfold hp;induction e.g with
 |nil=>simp
 |cons f j i=>
  rw[List.countP_cons,List.countP_cons];have:(!d.contains f.1)=true->(!b.contains f.1)=true:=by
   intro a;simp only[Bool.not_eq_true',List.contains_eq_mem,decide_eq_false_iff_not]at a ⊢;exact λh=>a (g _ h)
  split
  .rename_i a;rw[Y9 (this a)];omega
  .split<;>omega
def DW{b:List (List UInt8)}{c:List UInt8}(l:c ∉ b)(d:Kw e c):hp e (b++[c])+1<=hp e b:=by
 unfold hp Kw at *
 revert d;induction e.g with
 |nil=>intro d;simp at d
 |cons a i n=>
  intro d;have o:i.countP (λa=>!(b++[c]).contains a.1)<=i.countP (λa=>!b.contains a.1):=by
   apply List.countP_mono_left;intro p _ h;simp only[Bool.not_eq_true',List.contains_eq_mem,decide_eq_false_iff_not]at h ⊢;exact λm=>h (Yf _ m)
  rw[List.countP_cons,List.countP_cons];by_cases g:a.1=c
  .have f:(!(b++[c]).contains a.1)=false:=by simp[g]
   have j:(!b.contains a.1)=true:=by simp[g,l]
   rw[f,j];simp only[Ye,if_false,if_true]
   omega
  .have:=n (by
    rw[List.map_cons,Yg]at d;rcases d with f|f
    .exact absurd f.symm g
    .exact f)
   have k:(!(b++[c]).contains a.1)=(!b.contains a.1):=by simp[g]
   rw[k];omega
structure Fo(e:St)(src:List UInt8->Prop)(t R:List (List UInt8)):Prop where
 a9:∀c∈t,c∈R
 i4:∀n,src n->n∈R
 ja:∀c∈R,c∈t\/∃n,src n/\(c=n\/TransGen (Ne e) n c)
 cl:∀c∈R,c ∉ t->∀y,Ne e c y->y∈R
def AL{k:Nat}(v:∀b a,Kw e b->hp e a<=k->Fo e (λd=>d=b) a (follow e k b a)):∀(l:List (List UInt8×Nat)) (a:List (List UInt8)),(∀d∈l,Kw e d.1)->hp e a<=k->Fo e (λb=>∃i,(b,i)∈l) a (l.foldl (λa d=>follow e k d.1 a) a):=by
 intro l;induction l with
 |nil=>intro a _ _;exact⟨λc f=>f,λb f=>(by obtain⟨i,f⟩:=f;cases f),λc f=>Y8 f,λc f g=>absurd f g⟩
 |cons d l x=>
  intro a o p;have m:=v d.1 a (o d (by simp)) p;have g:=x (follow e k d.1 a) (λc h=>o c (by simp[h])) (Yz (RG m.a9) p);refine⟨λc h=>g.a9 c (m.a9 c h),?_,?_,?_⟩
  .rintro b ⟨i,n⟩;rcases Yg.1 n with r|n
   .exact g.a9 b (m.i4 b (by rw[<-r]))
   .exact g.i4 b ⟨i,n⟩
  .intro c h;rcases g.ja c h with j|⟨b,⟨i,j⟩,s⟩
   .rcases m.ja c j with t|⟨b,rfl,u⟩
    .exact Y8 t
    .exact Ya ⟨d.1,⟨d.2,by simp⟩,u⟩
   .exact Ya ⟨b,⟨i,by simp[j]⟩,s⟩
  .intro c h w y q;by_cases j:c∈follow e k d.1 a
   .exact g.a9 y (m.cl c j w y q)
   .exact g.cl c h j y q
def Ig(r:∀a f,Ne e a f->Kw e f):∀(k:Nat) (a:List UInt8) (g:List (List UInt8)),Kw e a->hp e g<=k->Fo e (λf=>f=a) g (follow e k a g):=by
 intro k;induction k with
 |zero=>
  intro a g n s;have:a∈g:=by
   rcases Classical.em (a∈g)with b|b
   .exact b
   .have:=DW b n;omega
  exact⟨λc b=>b,λf h=>by subst h;exact this,λc b=>Y8 b,λc b d=>absurd b d⟩
 |succ k u=>
  intro a g n s;unfold follow;by_cases l:a∈g
  .rw[Y9 (by simpa using l)];exact⟨λc b=>b,λf h=>by subst h;exact l,λc b=>Y8 b,λc b d=>absurd b d⟩
  .rw[Y2 (by simpa using l)];have i:=AL (k:=k) (λa g i d=>u a g i d) (lh e a) (g++[a]) (λf h=>r a f.1 ⟨f.2,h⟩) (by have:=DW l n;omega);refine⟨λc j=>i.a9 c (Yf _ j),λf h=>by subst h;exact i.a9 _ (by simp),?_,?_⟩
   .intro c j;rcases i.ja c j with d|⟨f,h,m⟩
    .rcases Yn.1 d with d|d
     .exact Y8 d
     .simp at d;exact Ya ⟨a,rfl,Y8 d⟩
    .right;refine⟨a,rfl,Ya ?_⟩;have o:Ne e a f:=h;rcases m with rfl|m
     .exact TransGen.single o
     .exact TransGen.trans (TransGen.single o) m
   .intro c j t y q;by_cases p:c=a
    .subst p;exact i.i4 y q
    .exact i.cl c j (by simp[t,p]) y q
def NC(n:∀l a,Ne e l a->Kw e a){d:ao}(o:lh e (bA d).1=eI d):kI e d=true↔TransGen (Ne e) (bA d).1 (bA d).1:=by
 unfold kI;have j:∀a c,(a,c)∈eI d->Ne e (bA d).1 a:=λa c f=>⟨c,by rw[o];exact f⟩;have g:=AL (k:=hp e []) (λl m g b=>Ig n _ l m g b) (eI d) [] (λa i=>n _ _ (j a.1 a.2 i)) (Y4 _);generalize (eI d).foldl (λm a=>follow e (hp e []) a.1 m) []=p at *
 rw[List.contains_iff_mem];constructor
 .intro f;rcases g.ja _ f with b|⟨a,⟨c,i⟩,h⟩
  .cases b
  .rcases h with h|h
   .rw[<-h]at i;exact TransGen.single (j _ _ i)
   .exact TransGen.trans (TransGen.single (j _ _ i)) h
 .intro f;have all:∀y,TransGen (Ne e) (bA d).1 y->y∈p:=by
   intro y q;induction q with
   |single b=>
    obtain⟨c,b⟩:=b;rw[o]at b;exact g.i4 _ ⟨c,b⟩
   |tail _ b r=>exact g.cl _ r (by simp) _ b
  exact all _ f
end
section
variable {r:de}{b y:Nat}
variable {f : List UInt8} {st : St} {a : ac} {c : bq} {e : List ao}
def kO(st:St)(e:List ao):Prop:=∀a∈e.flatMap gi,eY st a.1=true
structure ss(f:List UInt8)(st:St)(c:bq)(a:ac)(n:List UInt8)(d:ao)(r:de):Prop where
 nu:nu st.g n=some (some d)
 k:iR d=true
 m:∃i:Nat,c.z[i]? = some (n,some d)/\a.g[i]? = some r
 ag:r.ag=1
 a8:fh a n=r
 hF:pj a.e c.z d r.n
 gw:0<=r.n/\r.n<a.e.length
 h4:(bA d).1=n
 pn:r.m=(bA d).2
def Wh.g7(b:Wh f e c st a){k:List UInt8}(n:eY st k=true):∃d r,ss f st c a k d r:=by
 rcases DR b.q b.pd k with⟨-,t,d,r,g,m,h,i,j,s,-⟩|⟨g,-⟩
 .obtain⟨u,l,-,-,o,p⟩:=b.q.ag h i j;simp only[Yu]at l;subst l;exact⟨d,r,g,m,⟨t,h,i⟩,j,s,p,b.f1 r (Yh i) j,b.h4 _ (Yh h) d rfl m,o⟩
 .rw[g]at n;cases n
abbrev fD(a:ac)(b:List UInt8):Nat:=(fh a b).n.toNat
def ss.i5{d:List UInt8}{b:ao}(e:ss f st c a d b r):lh st d=eI b:=by
 unfold lh;rw[e.nu]
def Wh.ne(j:Wh f e c st a)(l:kO st e){i:List UInt8}{g:List UInt8×Nat}(b:g∈lh st i):eY st g.1=true:=by
 unfold lh at b;cases d:ay st.g i with
 |none=>rw[d]at b;cases b
 |some m=>
  cases m with
  |none=>rw[d]at b;cases b
  |some h=>
   rw[d]at b;rcases j.ti.nm i h d with k|⟨n,o,v,rfl⟩
   .exact l g (List.mem_flatMap.2 ⟨h,k,Bo h g b⟩)
   .simp[eI]at b
def Rr{c:List UInt8}(a:eY st c=true):Kw st c:=by
 unfold eY ay at a;cases b:st.g.find? (λf=>f.1==c)with
 |none=>rw[b]at a;cases a
 |some g=>
  have d:=List.mem_of_find?_eq_some b;have e:=List.find?_some b;exact YE.2 ⟨g,d,by simpa using e⟩
def Nf{c:bc}(e:a.e[b]? = some c)(d:c.f=14)(f:(y:Int)=(fh a c.a8).n):Re (gb a) b y:=by
 refine⟨hD a c,?_,?_⟩
 .show (a.e.map (hD a))[b]? = _;rw[List.getElem?_map,e];rfl
 .unfold hD;simp[ct,d,f]
def vJ{c:bc}(e:a.e[b]? = some c)(d:c.f≠14)(f:(y:Int)∈ct c):Re (gb a) b y:=by
 refine⟨hD a c,?_,?_⟩
 .show (a.e.map (hD a))[b]? = _;rw[List.getElem?_map,e];rfl
 .unfold hD;rw[Y2 d];exact f
def yw(i:Re (gb a) b y):∃d,a.e[b]? = some d/\((d.f=14/\(y:Int)=(fh a d.a8).n)\/(d.f≠14/\(y:Int)∈ct d)):=by
 obtain⟨d,c,e⟩:=i;have c:(a.e.map (hD a))[b]? = some d:=c;rw[List.getElem?_map]at c;cases g:a.e[b]? with
 |none=>rw[g]at c;cases c
 |some h=>
  rw[g]at c;simp only[Option.map_some,Yu]at c;subst c;refine⟨h,rfl,?_⟩;unfold hD at e;by_cases f:h.f=14
  .left;simp[ct,f]at e;exact⟨f,e⟩
  .right;rw[Y2 f]at e;exact⟨f,e⟩
def Wh.i3(s:Wh f e c st a):∀{h:Ty} {b:Int} {g:List UInt8×Nat},dy a.e h b->g∈cH h->eY st g.1=true->0<=b/\TransGen (Re (gb a)) b.toNat (fD a g.1):=by
 intro h;induction h with
 |plain z=>intro b g _ d;simp[cH]at d
 |named B v=>
  rintro b g ⟨j,A,k,l,m,-⟩ d n;simp[cH]at d;subst d;obtain⟨w,r,q⟩:=s.g7 n;refine⟨j,TransGen.single (Nf k l ?_)⟩;rw[m];unfold fD;have:=q.gw;rw[q.a8];omega
 |opaq p i=>intro b g _ d;simp[cH]at d
 |str p i=>intro b g _ d;simp[cH]at d
 |arr u p i o=>
  rintro b g ⟨j,t,k,l⟩ d n;cases i with
  |false=>simp[cH]at d
  |true=>
   obtain⟨x,m⟩:=o l d n;refine⟨j,TransGen.trans (TransGen.single (vJ (y:=t.toNat) k (by simp[dH]) ?_)) m⟩;simp[ct,dH];omega
 |opt u o=>intro b g _ d;simp[cH]at d
 |void=>intro b g _ d;simp[cH]at d
def Wh.k0(q:Wh f e c st a){z:List UInt8}{h:ao}(B:ss f st c a z h r){A:List UInt8×Nat}(b:A∈eI h)(t:eY st A.1=true):TransGen (Re (gb a)) (fD a z) (fD a A.1):=by
 have N:fD a z=r.n.toNat:=by unfold fD;rw[B.a8]
 rw[N];have l:=B.hF;cases h with
 |const n p g=>exact l.elim
 |prog n p g h=>exact l.elim
 |typedef h=>exact(q.i3 l.1 b t).2
 |enum n p g=>simp[eI]at b
 |struct n p R=>
  obtain⟨H,m,s,u,v⟩:=l;simp only[eI,List.mem_flatMap]at b;obtain⟨O,L,b⟩:=b;obtain⟨d,k⟩:=List.mem_iff_getElem?.1 L;have w:d<m.length:=by rw[u];exact jS k
  have x:=Yd w;obtain⟨i,j⟩:=q.i3 (v d _ O x k) b t;refine TransGen.trans (TransGen.single (vJ (y:=(m[d]).toNat) s (by simp) ?_)) j;simp only[ct];rw[Int.toNat_of_nonneg i];simp
 |union n p S F=>
  obtain⟨H,of,m,G,s,-,u,v,C,I⟩:=l;simp only[eI,List.mem_flatMap]at b;obtain⟨o,D,b⟩:=b;by_cases E:o.1=[]
  .have K:=I o D E;rw[K]at C;obtain⟨i,j⟩:=q.i3 C b t;refine TransGen.trans (TransGen.single (vJ (y:=G.toNat) s (by simp) ?_)) j;simp only[ct];rw[Int.toNat_of_nonneg i];simp
  .obtain⟨g,P,J⟩:=List.exists_cons_of_ne_nil E;have M:(g,o.2)∈dG F:=List.mem_flatMap.2 ⟨o,D,YE.2 ⟨g,by rw[J];simp,rfl⟩⟩;obtain⟨d,k⟩:=List.mem_iff_getElem?.1 M;have w:d<m.length:=by rw[u];exact jS k
   have x:=Yd w;obtain⟨i,j⟩:=q.i3 (v d _ _ x k) b t;refine TransGen.trans (TransGen.single (vJ (y:=(m[d]).toNat) s (by simp) ?_)) j;simp only[ct];rw[Int.toNat_of_nonneg i];simp
def Wh.n0(d:Wh f e c st a)(k:kO st e){j:List UInt8}(o:eY st j=true){i:List UInt8}(p:TransGen (Ne st) j i):eY st i=true/\TransGen (Re (gb a)) (fD a j) (fD a i):=by
 induction p with
 |single b=>
  obtain⟨m,b⟩:=b;have g:=d.ne k b;obtain⟨n,r,h⟩:=d.g7 o;rw[h.i5]at b;exact⟨g,d.k0 h b g⟩
 |tail _ b l=>
  obtain⟨m,b⟩:=b;have g:=d.ne k b;obtain⟨n,r,h⟩:=d.g7 l.1;rw[h.i5]at b;exact⟨g,TransGen.trans l.2 (d.k0 h b g)⟩
def qJ(st:St)(a:ac)(c:List UInt8)(b:Nat):Prop:=b=fD a c\/∃d,dy a.e d b/\∀e∈cH d,e∈lh st c
def zS(g:Q f c st a){e:bc}(d:a.e[b]? = some e)(i:b<5):e.f≠14/\ct e=[]:=by
 obtain⟨j,h⟩:=g.c9;rw[h,Ys (by simp[jL];omega)]at d;have:b=0\/b=1\/b=2\/b=3\/b=4:=by omega
 rcases this with rfl|rfl|rfl|rfl|rfl<;>(simp[jL]at d;subst d;exact⟨by simp,rfl⟩)
def Wh.lS(F:Wh f e c st a){k:List UInt8}{t:Ty}(h:dy a.e t (b:Int))(z:∀s∈cH t,s∈lh st k)(H:Re (gb a) b y) :
  (∃p,Ne st k p/\(y:Int)=(fh a p).n)\/(qJ st a k y/\∃(b:Nat) (l:bc),a.e[b]? = some l/\l.f≠14/\(y:Int)∈ct l):=by
 obtain⟨l,i,g⟩:=yw H;have o:((b:Int)).toNat=b:=by simp
 have m:l.f≠14->ct l=[]->False:=λC D=>by
  rcases g with⟨g,-⟩|⟨-,g⟩
  .exact C g
  .rw[D]at g;cases g
 cases t with
 |plain L=>
  have J:=h.1;have K:=h.2;have v:=zS F.q i (by omega);exact(m v.1 v.2).elim
 |named p u=>
  obtain⟨-,M,w,r,E,-⟩:=h;rw[o,i]at w;cases w
  rcases g with⟨-,j⟩|⟨j,-⟩
  .left;exact⟨p,⟨u,z (p,u) (by simp[cH])⟩,by rw[j,E]⟩
  .exact absurd r j
 |opaq k n=>
  have d:=h.2;rw[o,i]at d;cases d
  exact(m (by cases n<;>simp[ej]) (by cases n<;>rfl)).elim
 |str k n=>
  have d:=h.2;rw[o,i]at d;cases d
  exact(m (by simp[ej]) rfl).elim
 |arr B k n=>
  obtain⟨-,A,d,r⟩:=h;rw[o,i]at d;cases d
  cases n with
  |false=>exact(m (by simp[dH]) rfl).elim
  |true=>
   rcases g with⟨j,-⟩|⟨j,x⟩
   .simp[dH]at j
   .right;have I:(y:Int)=A:=by simpa[ct,dH]using x
    exact⟨Ya ⟨B,by rw[I];exact r,λs G=>z s (by simpa[cH]using G)⟩,b,_,i,j,x⟩
 |opt B=>
  obtain⟨-,A,d,r⟩:=h;rw[o,i]at d;cases d
  exact(m (by simp[dH]) rfl).elim
 |void=>have:(b:Int) = -1:=h;omega
def Wh.nj(C:Wh f e c st a){p:List UInt8}(a4:eY st p=true)(a2:qJ st a p b)(H:Re (gb a) b y) :
  (∃R,Ne st p R/\(y:Int)=(fh a R).n)\/(qJ st a p y/\∃(b:Nat) (x:bc),a.e[b]? = some x/\x.f≠14/\(y:Int)∈ct x):=by
 rcases a2 with rfl|⟨a8,i,a6⟩
 .obtain⟨q,r,z⟩:=C.g7 a4;have P:fD a p=r.n.toNat:=by unfold fD;rw[z.a8]
  have a5:((fD a p:Nat):Int)=r.n:=by rw[P];have:=z.gw;omega
  have w:=z.i5;have i:=z.hF;obtain⟨x,o,D⟩:=yw H;rw[P]at o;cases q with
  |const n u B=>exact i.elim
  |prog n u B q=>exact i.elim
  |typedef q=>exact C.lS (by rw[a5];exact i.1) (λK l=>by rw[w];exact l) H
  |enum n u B=>
   have d:=i.2;rw[o]at d;cases d
   rcases D with⟨k,-⟩|⟨-,k⟩
   .simp at k
   .simp[ct]at k
  |struct n u J=>
   obtain⟨a0,L,d,k,E⟩:=i;rw[o]at d;cases d
   rcases D with⟨g,-⟩|⟨g,M⟩
   .simp at g
   .right;have m:(y:Int)∈L:=by simpa[ct]using M
    obtain⟨j,s⟩:=List.mem_iff_getElem?.1 m;have v:j<J.length:=by rw[<-k];exact jS s
    refine⟨Ya ⟨J[j].k,E j _ _ s (Yd v),λK l=>?_⟩,_,_,o,g,M⟩;rw[w];exact List.mem_flatMap.2 ⟨J[j],Yy v,l⟩
  |union n u a7 t=>
   obtain⟨a0,of,L,S,d,-,k,E,g,-⟩:=i;rw[o]at d;cases d
   rcases D with⟨F,-⟩|⟨F,N⟩
   .simp at F
   .right;refine⟨?_,_,_,o,F,N⟩;have m:(y:Int)∈L\/(y:Int)=S:=by simpa[ct]using N
    rcases m with m|m
    .obtain⟨j,s⟩:=List.mem_iff_getElem?.1 m;have v:j<(dG t).length:=by rw[<-k];exact jS s
     obtain⟨I,O⟩:∃I,(dG t)[j]? = some I:=⟨_,Yd v⟩;refine Ya ⟨I.2.k,E j _ _ s O,λK l=>?_⟩;rw[w];obtain⟨A,a1,a3⟩:=List.mem_flatMap.1 (Yh O);obtain⟨B,-,rfl⟩:=YE.1 a3;exact List.mem_flatMap.2 ⟨A,a1,l⟩
    .cases h:hw t with
     |none=>rw[h]at g;simp only at g;omega
     |some q=>
      rw[h]at g;refine Ya ⟨q.k,by rw[m];exact g,λK l=>?_⟩;rw[w];unfold hw at h;cases G:t.find? (λn=>n.1.isEmpty)with
      |none=>rw[G]at h;cases h
      |some A=>
       rw[G]at h;simp at h;subst h;exact List.mem_flatMap.2 ⟨A,List.mem_of_find?_eq_some G,l⟩
 .exact C.lS i a6 H
def Wh.up(p:Wh f e c st a)(s:kO st e){g:List UInt8}(u:eY st g=true)(v:TransGen (Re (gb a)) (fD a g) y) :
  (∃h,TransGen (Ne st) g h/\eY st h=true/\y=fD a h)\/(∃d,(d=g\/TransGen (Ne st) g d)/\eY st d=true/\qJ st a d y/\∃(b:Nat) (i:bc),a.e[b]? = some i/\i.f≠14/\(y:Int)∈ct i):=by
 have o:∀{d:List UInt8} {b y:Nat},(d=g\/TransGen (Ne st) g d)->eY st d=true->qJ st a d b->Re (gb a) b y->
   (∃h,TransGen (Ne st) g h/\eY st h=true/\y=fD a h)\/(∃d,(d=g\/TransGen (Ne st) g d)/\eY st d=true/\qJ st a d y/\∃(b:Nat) (i:bc),a.e[b]? = some i/\i.f≠14/\(y:Int)∈ct i):=by
  intro d b y m q t w;rcases p.nj q t w with⟨h,l,A⟩|⟨j,k⟩
  .left;refine⟨h,?_,?_,?_⟩
   .rcases m with rfl|m
    .exact TransGen.single l
    .exact TransGen.tail m l
   .obtain⟨z,l⟩:=l;exact p.ne s l
   .unfold fD;omega
  .exact Ya ⟨d,m,q,j,k⟩
 induction v with
 |single j=>exact o (Y8 rfl) u (Y8 rfl) j
 |tail _ j x=>
  rcases x with⟨h,k,n,rfl⟩|⟨d,k,n,r,-⟩
  .exact o (Ya k) n (Y8 rfl) j
  .exact o k n r j
def Id{b:Type}{r:b->b->Prop}{c d:b}(a:TransGen r c d):∃e,r c e:=by
 induction a with
 |single a=>exact⟨_,a⟩
 |tail _ _ f=>exact f
def Wh.m3(g:Wh f e c st a)(p:kO st e){d:List UInt8}(m:eY st d=true):TransGen (Re (gb a)) (fD a d) (fD a d)↔TransGen (Ne st) d d:=by
 constructor
 .intro j;obtain⟨I,r,k⟩:=g.g7 m;have L:fD a d=r.n.toNat:=by unfold fD;rw[k.a8]
  have K:5<=fD a d:=by
   rcases Yj (fD a d) 5 with i|i
   .exfalso;obtain⟨H,D⟩:=Id j;obtain⟨y,B,h⟩:=yw D;obtain⟨z,A⟩:=zS g.q B i;rcases h with⟨h,-⟩|⟨-,h⟩
    .exact z h
    .rw[A]at h;cases h
   .exact i
  obtain⟨t,E,u⟩:=k.m;rcases g.up p m j with⟨G,i,l,o⟩|⟨N,-,-,-,b,y,l,o,C⟩
  .obtain⟨J,x,n⟩:=g.g7 l;obtain⟨v,w,F⟩:=n.m;have M:fD a G=x.n.toNat:=by unfold fD;rw[n.a8]
   by_cases s:t=v
   .subst s;rw[E]at w;cases w
    exact i
   .exfalso;have:=g.ij t v r x u F s k.ag n.ag (by omega);omega
  .exfalso;exact g.tr b y l o _ C (by omega) r (Yh u) k.ag (by omega)
 .intro j;exact(g.n0 p m j).2
def Wh.ld(g:Wh f e c st a)(v:kO st e):sn (gb a):=by
 intro r m;have m:r∈a.e.map (hD a):=m;obtain⟨n,h⟩:=List.mem_iff_getElem?.1 m;rw[List.getElem?_map]at h;cases i:a.e[n]? with
 |none=>rw[i]at h;cases h
 |some j=>
  rw[i]at h;simp only[Option.map_some,Yu]at h;subst h;have w:(gb a).e.length=a.e.length:=by show (a.e.map _).length=_;simp
  have B:=jS i;have A:=g.rn.fY;have s:=g.rn.b5 j (Yh i);have k:=g.q.bw n j i;rw[w];unfold hD;by_cases l:j.f=14
  .rw[Y9 l];refine⟨s.2,λb d=>?_⟩;simp[ct,l]at d;subst d;have p:(j.a8,j.m)∈kb a.e:=by
    unfold kb;rw[List.mem_filterMap];exact⟨j,Yh i,by rw[Y9 l]⟩
   rw[g.q.dL,g.rf]at p;obtain⟨y,x,o⟩:=YE.1 p;simp only[Prod.mk.injEq]at o;have t:=v y x;rw[o.1]at t;obtain⟨z,r,u⟩:=g.g7 t;rw[u.a8];exact u.gw.2
  .rw[Y2 l];refine⟨s.2,λb d=>?_⟩;have:b<(max n 5:Nat):=by
    unfold ct at d;split at d
    .simp at d;subst d;exact k.1
    .split at d
     .exact k.2.1 b d
     .split at d
      .rcases Yn.1 d with d|d
       .exact k.2.1 b d
       .simp at d;subst d;exact k.2.2.1
      .cases d
   omega
def Wh.m7(h:Wh f e c st a)(i:kO st e){g:List UInt8}{d:ao}(b:ss f st c a g d r)(o:eY st g=true):ma (gb a) r.n.toNat=kI st d:=by
 have n:(gb a).e.length=a.e.length:=by show (a.e.map _).length=_;simp
 have s:=b.gw;have m:=Ht (h.ld i) (r:=r.n.toNat) (by rw[n];omega);have k:=NC (st:=st) (λg t j=>by obtain⟨q,j⟩:=j;exact Rr (h.ne i j)) (d:=d) (by rw[b.h4];exact b.i5);have l:=h.m3 i o;have p:fD a g=r.n.toNat:=by unfold fD;rw[b.a8]
 rw[b.h4]at k;rw[p]at l;rw[Bool.eq_iff_iff,m,k,l]
end
end Go.Proofs.YtjdhaegijjednaaGreatDoor
namespace Go.Proofs.YtjdhaegijjednaaGreatDoor
open Go.RowKit
open Go.Proofs.Tryz
variable {t : List UInt8} {c l : St} {a g : ac} {d k : bq} {f : Mar.M} {b : List ao} {h : ao} {j i : Nat}
def gZ(t:List UInt8)(j:Nat)(a:ac):Prop:=∃b d c,Wh t b d c a/\eb (ap t) 69 [] eN=eb (ap t) (69-b.length) b c/\b.length=j
def tX(t:List UInt8)(a:ac):Prop:=∃f,eb (ap t) 69 [] eN=.error f/\Er f a
def JJ(t:List UInt8):gZ t 0 (start t):=⟨[],pD,eN,Sg t,rfl,rfl⟩
def gZ.e(b:gZ t j a):a.s.e=0:=by obtain⟨_,_,_,b,_⟩:=b;exact b.q.e
def gZ.le(e:gZ t j a):j<=68:=by
 obtain⟨b,d,c,e,-,rfl⟩:=e;have f:=e.ti.k;have g:=e.ti.co;have h:=e.ti.pr;have i:=e.ti.aP;omega
def gZ.f1(b:gZ t j a):bF a/\Rn a:=by obtain⟨_,_,_,b,_⟩:=b;exact⟨b.f1,b.rn⟩
def Wh.f2{g:Mar.am}{f:Nat}(e:Wh t b d c a)(h:ea t c.m c.A=.ok (g,f)):Wh t b d { c with m:=f,A:=some g } a:=
 ⟨e.q.f2 h,e.pd,e.dc,e.fz,e.o,e.ps,e.rf,e.z,e.kU,e.h4,e.ij,e.tr,e.f1,e.rn,⟨e.ti.k,e.ti.co,e.ti.pr,e.ti.aP,e.ti.nm⟩⟩
def gZ.cl(g:gZ t j a)(w:a.s.x.f≠0):gZ t (j+1) (bG t a)\/tX t (bG t a):=by
 have A:=g.le;obtain⟨b,d,c,g,i,rfl⟩:=g;rw[show 69-b.length=(68-b.length)+1 by omega]at i;rcases pk t c with⟨r,y,e⟩|⟨f,e⟩
 .have p:=g.q.wd;rw[e]at p;have q:((r.f:Int)==0)=false:=by
   rw[p.1.1]at w;simp;omega
  have l:=g.f2 e;have o:=Da l.q l.pd l.dc;cases n:fN (ap t) { c with m:=y,A:=some r }with
  |error f=>
   rw[hT n]at o;exact Ya ⟨f,by rw[i];exact DK (pZ e) q n,o⟩
  |ok z=>
   obtain⟨h,B⟩:=z;obtain⟨k,v⟩:=l.cl (oj n);left;refine⟨b++[h],k,_,v,?_,by simp⟩;rw[i,DN (pZ e) q n];congr 1;simp<;>omega
 .have m:=g.q.bd e;right;refine⟨f,by rw[i];exact DM (tB e),?_⟩;have u:bG t a=da a:=by
   unfold bG;rw[Y2 (by rw[m.is (by omega)];simp),Y2 (by rw[m.is (by omega)];simp),Y9 (Y8 (by rw[m.k];omega))]
  rw[u];exact m.f5
def gZ.fin(e:gZ t j a)(h:a.s.x.f=0):∃b d c,Wh t b d c a/\eb (ap t) 69 [] eN=.ok (b,c):=by
 have m:=e.le;obtain⟨b,d,c,e,i,rfl⟩:=e;rw[show 69-b.length=(68-b.length)+1 by omega]at i;rcases pk t c with⟨o,n,g⟩|⟨f,g⟩
 .have k:=e.q.wd;rw[g]at k;refine⟨b,d,_,e.f2 g,?_⟩;rw[i];exact DL (pZ g) (by rw[k.1.1]at h;rw[h];rfl)
 .have l:=e.q.bd g;rw[l.k]at h;cases h
def hM(t:List UInt8)(i:Nat)(g:ac):Prop:=
 (∃b d c a,g=gb a/\Wh t b d c a/\kO c b/\en (ap t)=(match fO c ((d.z.drop i).filterMap kL)with|.error f=>.error f|.ok _=>.ok b))\/(∃f,en (ap t)=.error f/\Er f g)
def DO(c:t.length<=1200):en (ap t)=match eb (ap t) 69 [] eN with
  |.error f=>.error f
  |.ok (b,a)=>match kD a b with
   |.error f=>.error f
   |.ok _=>match fO a b with
    |.error f=>.error f
    |.ok _=>.ok b:=by
 unfold en;rw[Y2 (by show ¬1200<t.length;omega)];rfl
def Hp(c:St)(b:List ao):fO c b=fO c (b.filter iR):=by
 induction b with
 |nil=>rfl
 |cons h b g=>
  cases a:iR h with
  |true=>
   rw[List.filter_cons_of_pos (by simpa using a)];unfold fO;rw[g]
  |false=>
   rw[List.filter_cons_of_neg (by simp[a])];conv=>lhs;unfold fO
   have:kI c h=false:=by
    unfold kI;have:eI h=[]:=by
     cases h with
     |const d e f=>rfl
     |prog d e f h=>rfl
     |typedef h=>cases a
     |enum d e f=>cases a
     |struct d e f=>cases a
     |union d e f h=>cases a
    rw[this];rfl
   rw[this];exact g
def Ri(k:t.length<=1200)(h:Wh t b d c a)(j:eb (ap t) 69 [] eN=.ok (b,c)):hM t 0 (lx a):=by
 have g:=Pf h;have e:=DO (t:=t) k;rw[j]at e;simp only at e;cases i:kD c b with
 |error f=>
  rw[i]at g e;exact Ya ⟨f,e,g⟩
 |ok l=>
  rw[i]at g e;refine Y8 ⟨b,d,c,a,g.1,h,g.2,?_⟩;rw[List.drop_zero,h.z,<-Hp];exact e
def Rf(g:t.length<=1200)(d:tX t a)(i:Nat):hM t i a:=by
 obtain⟨f,c,e⟩:=d;have b:=DO (t:=t) g;rw[c]at b;exact Ya ⟨f,b,e⟩
def hM.ok(h:hM t i g)(j:g.s.e=0):∃b d c a,g=gb a/\Wh t b d c a/\kO c b/\en (ap t)=(match fO c ((d.z.drop i).filterMap kL)with|.error f=>.error f|.ok _=>.ok b):=by
 rcases h with h|⟨f,-,h⟩
 .exact h
 .exact absurd j h.c8
def hM.row(f:hM t i g)(k:g.s.e=0){r:de}(m:g.g[i]? = some r)(o:r.ag=1):0<=r.n/\r.n<g.e.length/\sn g:=by
 obtain⟨b,d,c,a,rfl,f,j,-⟩:=f.ok k;have h:=f.f1 r (Yh m) o;refine⟨h.1,?_,f.ld j⟩;have l:(gb a).e.length=a.e.length:=by show (a.e.map _).length=_;simp
 rw[l];exact h.2
def hM.cl(e:hM t i g)(M:g.s.e=0){p:de}(k:g.g[i]? = some p):hM t (i+1) (if p.ag=1/\ma g p.n.toNat=true then bo 9 p.m g else g):=by
 obtain⟨b,d,c,a,rfl,e,B,j⟩:=e.ok M;have k:a.g[i]? = some p:=k;have D:i<d.z.length:=by rw[<-e.q.nm.ak];exact jS k
 obtain⟨f,m⟩:∃f,d.z[i]? = some f:=⟨_,Yd D⟩;have R:d.z.drop i=f::d.z.drop (i+1):=by
  rw[Yk D];rw[Yd D]at m;cases m
  rfl
 rw[R,List.filterMap_cons]at j;by_cases o:p.ag=1
 .obtain⟨h,l,K,L,P,a8⟩:=e.q.ag m k o;have E:kL f=some h:=by unfold kL;rw[l];simp[K]
  rw[E]at j;simp only[fO]at j;have a1:c.g=d.z:=by rw[e.q.z,e.pd];simp
  have a9:f=(f.1,some h):=by rw[<-l]
  have v:eY c f.1=true:=by
   unfold eY;rw[a1];rcases e.q.hs f.1 with⟨F,a4⟩|⟨O,a7,H,F,a4,G,a5,a6⟩
   .exact absurd (YE.2 ⟨f,Yh m,rfl⟩) (uR F)
   .have C:=e.q.kt k a5 (by rw[L,a6.1]);subst C;rw[m]at G;simp only[Yu]at G;rw[F];have:a7=some h:=by rw[G]at l;exact l
    rw[this];exact K
  obtain⟨A,H,I⟩:=e.g7 v;obtain⟨O,y,z⟩:=I.m;have b0:fh a f.1=H:=I.a8;have a3:H.s=f.1:=(e.q.nm.fG O _ _ y z).1;have C:=e.q.kt k z (by rw[L,a3]);subst C;rw[k]at z;cases z
  rw[m]at y;simp only[Yu]at y;have S:A=h:=by rw[y]at l;simp at l;exact l
  subst S;have a0:=e.m7 B I v;rw[a0];cases N:kI c A with
  |true=>
   rw[Y9 ⟨o,rfl⟩];rw[N]at j;simp only[if_true]at j
   right;refine⟨_,j,?_⟩;rw[P];exact zA M (e:=9) (a:=(bA A).2) (by omega)
  |false=>
   rw[Y2 (by simp)];rw[N]at j;simp only[Ye,if_false]at j
   exact Y8 ⟨b,d,c,a,rfl,e,B,j⟩
 .rw[Y2 (λJ=>o J.1)];have E:kL f=none:=by
   unfold kL;cases a2:f.2 with
   |none=>rfl
   |some h=>
    simp only;cases v:iR h with
    |false=>simp
    |true=>
     exfalso;have u:=(e.q.nm.fG i f p m k).2;rw[a2]at u;cases h with
     |const r w x=>cases v
     |prog r w x h=>cases v
     |typedef h=>exact o u.1
     |enum r w x=>exact o u.1
     |struct r w x=>exact o u.1
     |union r w x h=>exact o u.1
  rw[E]at j;exact Y8 ⟨b,d,c,a,rfl,e,B,j⟩
def qD(t:List UInt8)(g:ac):Prop:=match en (ap t)with
 |.error f=>Er f g
 |.ok b=>g.s.e=0/\∃d c a,g=gb a/\Wh t b d c a/\kO c b
def hM.fin(h:hM t i g)(k:g.g.length<=i\/g.s.e≠0):qD t g:=by
 unfold qD;rcases h with⟨b,d,c,a,rfl,h,m,j⟩|⟨f,j,h⟩
 .have l:(gb a).s.e=0:=h.q.e;have n:d.z.drop i=[]:=by
   rw[List.drop_eq_nil_iff,<-h.q.nm.ak];rcases k with k|k
   .exact k
   .exact absurd l k
  rw[n]at j;simp only[List.filterMap_nil,fO]at j;rw[j];exact⟨l,d,c,a,rfl,h,m⟩
 .rw[j];exact h
section
variable {k:TypeId}{l h j:Option Addr}{o r m u:Value}
variable {X : Nat -> Prop} {g d c : Nat} {t : List UInt8} {b : ac} {w : World} {f : PV}
def gZ.up(a:gZ t c b)(j:gZ t (c+1) (bG t b)):kz b+1<=kz (bG t b):=by
 have m:=a.e;have f:=j.e;obtain⟨p,o,n,a,-⟩:=a;have s:=a.q.k;have l:=a.q.cn;rw[a.dc]at l;refine He f m ⟨by omega,by omega⟩ ?_;intro k;rcases pk t n with⟨v,u,g⟩|⟨r,g⟩
 .have h:=a.q.wd;rw[g]at h;have:=h.2.dn;rw[h.1.1]at k;omega
 .have d:=a.q.bd g;have i:bG t b=da b:=by
   unfold bG;rw[Y2 (by rw[d.is (by omega)];simp),Y2 (by rw[d.is (by omega)];simp),Y9 (Y8 (by rw[d.k];omega))]
  rw[i]at f;exact d.f5.c8 f
def gZ.b4(a:gZ t c b):kz b<=68:=by
 obtain⟨g,f,e,a,-⟩:=a;have h:=a.ti.k;have i:=a.ti.co;have j:=a.ti.pr;have l:=a.q.k;have d:=a.q.cn;have k:b.o.length=e.o.length:=by rw[a.q.pg];simp
 rw[a.dc]at d;unfold kz;omega
def bN(c:Nat):Nat:=5+2000000*c
def FL{d c:Nat}(a:d<=bN c):d+2000000<=bN (c+1):=by unfold bN at *;omega
def wJ{d c:Nat}(a:d<=bN c)(b:c<=68):d+2000000<=200000000:=by unfold bN at *;omega
def xM(g:Nat)(w:World):Nat:=match w.cell? ⟨g,11,none⟩,w.cell? ⟨g,13,none⟩,w.cell? ⟨g,14,none⟩,w.cell? ⟨g,15,none⟩with
 |some (.int _ b),some (.int _ a),some (.int _ t),some (.slice _ c _)=>if b=0 then 70-(a.toNat+t.toNat+c)else 0
 |_,_,_,_=>0
def Bv(c:bf X g t d b f w):xM g w=if b.s.e=0 then 70-kz b else 0:=by
 obtain⟨l,o,p,q,r,u,v,x,y,m,h,n,i,j,a,A,B⟩:=c.r;obtain⟨ad,z,k⟩:=bX c.o;rw[k]at a;unfold xM;rw[h,i,j,a];rfl
def yJ:Value:=.agg #[.slice none 0 0,.slice none 0 0,.slice none 0 0,.string ⟨#[]⟩]
abbrev lD(a b c d:Value):Obj:=.cells #[a,b,c,d] 62
def lI(t:List UInt8)(h:Ending)(k:World):Prop:=match en (ap t)with
 |.error a=>h=.returned (.tuple #[yJ,.int .i64 a.no,.int .i64 a.m])/\a.no≠0
 |.ok e=>∃f c X g d j i b,h=.returned (.tuple #[mt f c,.int .i64 0,.int .i64 0])/\bf X g t d c f k/\d<=1000000000/\c=gb b/\Wh t e j i b/\kO i e
def qf{Q:Ending->World->Prop}{a:Act}{R:Nat}{b c:Value}(j:a.tmps.getD 2 undef=.pointer (some ⟨R,0,none⟩))(h:a.tmps.getD 3 undef=b)(i:a.tmps.getD 4 undef=c)(k:a.defers=[])(d:w.heap[R]? = some (lD o r m u))(l:Q (.returned (.tuple #[.agg #[o,r,m,u],b,c])) w):bodyPost prog Tryz.f26 Q .ret a w:=by
 refine bodyPost_ret (v:=.tuple #[.agg #[o,r,m,u],b,c]) ?_ k l;have n:w.cell? ⟨R,0,none⟩=some o:=aR d rfl;have p:w.cell? ⟨R,1,none⟩=some r:=aR d rfl;have q:w.cell? ⟨R,2,none⟩=some m:=aR d rfl;have s:w.cell? ⟨R,3,none⟩=some u:=aR d rfl;unfold results;have e:a.tmps[2]?.getD undef=.pointer (some ⟨R,0,none⟩):=by simpa using j
 have f:a.tmps[3]?.getD undef=b:=by simpa using h
 have g:a.tmps[4]?.getD undef=c:=by simpa using i
 simp[results26,e,f,g,go_sem,n,p,q,s]
def Fc(t:List UInt8)(w:World)(a:1200<t.length):Calls prog 26 #[.string ⟨t.toArray⟩] w λd b=>ai [] w b/\lI t d b:=by
 have e:(1200:Int) < ↑t.length:=by omega
 have c:U (en (ap t)=.error ⟨1,0⟩):=by
  show _=_;unfold en;rw[Y9 (by show 1200<t.length;exact a)]
 clear a;go_in;go_wp2;refine qf (R:=w.heap.size) rfl rfl rfl rfl (aJ rfl) ?_;refine⟨(ah [] w).d _,?_⟩;unfold lI;rw[c.b];exact⟨rfl,by simp⟩
def rr{w d:World}(a:Fr (λe=>e<w.heap.size) w d):ai [] w d:=⟨a.os,a.c2,a.c1,a.F,λc b _=>a.i c b b⟩
abbrev pE(w:World)(a:Nat)(b c d e:Value):World:=(((w.setCell ⟨a,0,none⟩ b).setCell ⟨a,1,none⟩ c).setCell ⟨a,2,none⟩ d).setCell ⟨a,3,none⟩ e
def pK(w:World)(a:Nat)(b c d e:Value):ai [a] w (pE w a b c d e):=((((ah [a] w).O (p:=⟨a,0,none⟩) (by simp) _).O (p:=⟨a,1,none⟩) (by simp) _).O (p:=⟨a,2,none⟩) (by simp) _).O (p:=⟨a,3,none⟩) (by simp) _
def rq{w:World}{a:Nat}{j h f e:Value}(b c d g:Value)(l:w.heap[a]? = some (.cells #[j,h,f,e] k)):(pE w a b c d g).heap[a]? = some (.cells #[b,c,d,g] k):=by
 have m:(w.setCell ⟨a,0,none⟩ b).heap[a]? = some (.cells #[b,h,f,e] k):=bu (i:=0) l b;have n:((w.setCell ⟨a,0,none⟩ b).setCell ⟨a,1,none⟩ c).heap[a]? = some (.cells #[b,c,f,e] k):=bu (i:=1) m c;have o:(((w.setCell ⟨a,0,none⟩ b).setCell ⟨a,1,none⟩ c).setCell ⟨a,2,none⟩ d).heap[a]? = some (.cells #[b,c,d,e] k):=bu (i:=2) n d;exact bu (i:=3) o g
def Aa{e a:World}{p i n c:Nat}(z:bf X g t d b f e)(D:f.rv=.slice j b.e.length p)(B:f.nv=.slice l b.g.length i)(C:f.pv=.slice h b.u.length n)(q:e.heap[c]? = some (.cells #[o,r,m,u] k))(s:ai [] e a):a.cell? ⟨g,7,none⟩=some (.slice j b.e.length p)/\a.cell? ⟨g,8,none⟩=some (.slice l b.g.length i)/\a.cell? ⟨g,9,none⟩=some (.slice h b.u.length n)/\a.cell? ⟨g,10,none⟩=some (.string ⟨b.b.toArray⟩)/\a.cell? ⟨c,2,none⟩=some m:=by
 obtain⟨E,K,L,M,N,O,w,x,y,v,F,G,H,I,J,P,R⟩:=(z.t s).r;have A:=(s.i c (aj q) (by simp)).trans q;exact⟨by rw[w,D],by rw[x,B],by rw[y,C],v,aR A rfl⟩
def AP{m:World}{i a c:Nat}{k:Nat}(hF:qD t b)(B:b.s.e=0)(n:bf X g t d b f m)(F:f.rv=.slice j b.e.length i)(D:f.nv=.slice l b.g.length a)(E:f.pv=.slice h b.u.length c)(x:d<=1000000000)(y:X k):lI t (.returned (.tuple #[.agg #[.slice j b.e.length i,.slice l b.g.length a,.slice h b.u.length c,.string ⟨b.b.toArray⟩],.int .i64 0,.int .i64 0])) (pE m k (.slice j b.e.length i) (.slice l b.g.length a) (.slice h b.u.length c) (.string ⟨b.b.toArray⟩)):=by
 unfold qD at hF;unfold lI;split
 .rename_i J C;rw[C]at hF;exact absurd B hF.c8
 .rename_i I A;rw[A]at hF;obtain⟨-,q,G,H,u,v,w⟩:=hF;refine⟨f,b,X,g,d,q,G,H,?_,?_,x,u,v,w⟩
  .unfold mt;rw[F,D,E]
  .have o:=pK m k (.slice j b.e.length i) (.slice l b.g.length a) (.slice h b.u.length c) (.string ⟨b.b.toArray⟩);exact n.f0 o (λK p=>by simp at p;subst p;exact y) (λ_=>Y8) (λr z=>Yr (n.al r z) o.F)
def uK{w:World}(hF:qD t b)(f:b.s.e≠0):lI t (.returned (.tuple #[yJ,.int .i64 b.s.e,.int .i64 b.s.a])) w:=by
 unfold qD at hF;unfold lI;split
 .rename_i c g;rw[g]at hF;have hF:Er c b:=hF;exact⟨by rw[hF.e,hF.a],hF.z⟩
 .rename_i h d;rw[d]at hF;exact absurd hF.1 f
def Fe(t:List UInt8)(w:World)(k0:t.length<=1200):Calls prog 26 #[.string ⟨t.toArray⟩] w λg0 F=>ai [] w F/\lI t g0 F:=by
 have n5:¬(1200:Int) < ↑t.length:=by omega
 have j2:=Z k0;have i9:U (aD (λp=>p<w.heap.size) (w.heap.size+1) t 0 ic [.obj w.heap.size (lD (.slice none 0 0) (.slice none 0 0) (.slice none 0 0) (.string ⟨#[]⟩))] w ((w.alloc (lD (.slice none 0 0) (.slice none 0 0) (.slice none 0 0) (.string ⟨#[]⟩))).alloc (lu t ic.s (pu qe ic)))):=by
  have k2:=MW (X:=λp=>p<w.heap.size+1) (t:=t) (w.alloc (lD (.slice none 0 0) (.slice none 0 0) (.slice none 0 0) (.string ⟨#[]⟩))) (λp E=>by simp;exact E) (by omega);have m2:(w.alloc (lD (.slice none 0 0) (.slice none 0 0) (.slice none 0 0) (.string ⟨#[]⟩))).heap.size=w.heap.size+1:=by simp
  rw[m2]at k2;refine⟨bt.a9 ⟨_,k2⟩ ?_,?_,?_,?_,?_⟩
  .rintro p (E|⟨f1,a4,E⟩)
   .exact Nat.lt_succ_of_lt E
   .simp at a4;subst a4;have:w.heap.size=p:=by simpa[Th.bb]using E
    omega
  .exact si (((ah [] w).d _).d _) (by simp)
  .intro f1 a4;simp at a4;subst a4;exact(((ah [] _).d _).i _ (by simp) (by simp)).trans (aJ rfl)
  .intro f1 a4 p E k4;simp at a4;subst a4;have:w.heap.size=p:=by simpa[Th.bb]using E
   have k4:p<w.heap.size:=k4;omega
  .intro b k5 f1 p l7 a4 E;match b,k5 with
   |0,0=>exact absurd rfl l7
   |0,k5+1=>simp at E
   |b+1,_=>simp at a4
 have j0:U (∀c:Nat,c<=4->bJ ⟨c,0,0,[],[],0,[],0⟩ { ic with e:=jL.take c } = { ic with e:=jL.take (c+1) }):=Z (λc l8=>by
  have:c=0\/c=1\/c=2\/c=3\/c=4:=by omega
  rcases this with rfl|rfl|rfl|rfl|rfl<;>rfl)
 clear k0;go_in;go_wp2;go_loopw [6] (λh1 c3=>∃c:Nat,h1=.int .i64 c/\c<=5/\U (aD (λp=>p<w.heap.size) (w.heap.size+1) t c { ic with e:=jL.take c } [.obj w.heap.size (lD (.slice none 0 0) (.slice none 0 0) (.slice none 0 0) (.string ⟨#[]⟩))] w c3)) (λh1 _=>5-(intOf h1).toNat)
 case atStart=>exact⟨0,rfl,by omega,i9⟩
 case round=>
  obtain⟨c,rfl,l8,a2⟩:=hrel;clear i9;rcases Yj c 5 with g5|g5
  .have j8:(↑c:Int)<=4:=by omega
   go_wp2_with fail;refine aA a2 (nt · ⟨c,0,0,[],[],0,[],0⟩ rfl rfl (by omega)) λm7 d3=>?_;rw[j0.b c (by omega)]at d3;go_wp2;exact⟨⟨c+1,by go_num,by omega,d3⟩,by simp[intOf];omega⟩
  .have j8:¬(↑c:Int)<=4:=by omega
   have g5:c=5:=by omega
   subst g5;go_wp2_with fail;refine aA a2 (gG ·) λm7 d3=>?_;rw[show aI t { ic with e:=jL.take 5 } = start t from rfl]at d3;have j5:U ((∃c,gZ t c (start t)/\5<=bN c)\/(tX t (start t)/\5<=200000000)):=Z (Y8 ⟨0,JJ t,Y4 _⟩);clear a2 j0 j8;go_wp2;go_loopw [] (λc3=>∃(u:ac) (d:Nat),U (aD (λp=>p<w.heap.size) (w.heap.size+1) t d u [.obj w.heap.size (lD (.slice none 0 0) (.slice none 0 0) (.slice none 0 0) (.string ⟨#[]⟩))] w c3)/\U ((∃c,gZ t c u/\d<=bN c)\/(tX t u/\d<=200000000))) (λc3=>xM (w.heap.size+1) c3)
   case atStart=>exact⟨start t,5,d3,j5⟩
   case round=>
    obtain⟨u,d,a2,e6⟩:=hrel;clear d3 j5;obtain⟨f,gQ,j6,k,m⟩:=a2.b.J.sp;have e9:=Z (Bv k);obtain⟨O,b6,b7,b8,b9,c0,H,I,J,b1,D,b2,b3,b4,b5,a5,a6⟩:=k.r;clear k m b6 b7 b8 b9 c0 H I J b1 b2 b3 b4 b5;rcases e6.b with⟨c,a3,c4⟩|⟨k9,c4⟩
    .have g:=a3.e;rw[g]at D;by_cases e1:u.s.x.f=0
     .rw[e1]at O;have g3:d<=200000000:=by have:=wJ c4 a3.le;omega
      have d5:U (hM t 0 (lx u)):=by
       obtain⟨n2,n0,n6,P,k8⟩:=a3.fin e1;exact Z (Ri j2.b P k8)
      clear a3 e6 g e1 e9 c4;go_wp2_with fail;refine aA a2 (Nz · (Yz g3 (by decide))) λm8 d4=>?_;clear a2 O D a5 a6;generalize lx u=e5 at *
      go_wp2;go_loopw [7] (λd1 c3=>∃(b:Nat) (a:ac),d1=.int .i64 b/\b<=e5.g.length/\U (a.g.length=e5.g.length)/\U (aD (λp=>p<w.heap.size) (w.heap.size+1) t d a [.obj w.heap.size (lD (.slice none 0 0) (.slice none 0 0) (.slice none 0 0) (.string ⟨#[]⟩))] w c3)/\U (hM t b a)) (λd1 _=>e5.g.length-(intOf d1).toNat)
      case atStart=>exact⟨0,e5,rfl,by omega,Z rfl,d4,d5⟩
      case round=>
       obtain⟨b,a,rfl,d9,G,z,A⟩:=hrel;clear d4 d5;obtain⟨f,gQ,j6,k,m⟩:=z.b.J.sp;obtain⟨j,d7,r⟩:=bX k.e;obtain⟨h,d6,q⟩:=bX k.u;obtain⟨O,b6,b7,b8,b9,c0,H,I,J,b1,D,b2,b3,b4,b5,a5,a6⟩:=k.r;rw[r]at H;rw[m]at I;rw[q]at J;have y:=Z k;have l:=Z (Yp r (Yp m q));have e:=z.b.a6 (i:=0) (R:=w.heap.size) rfl;have B:=Z e;have i7:=cF e;have i3:wr.cell? ⟨w.heap.size,0,none⟩=some (.slice none 0 0):=aR e rfl;have i4:wr.cell? ⟨w.heap.size,1,none⟩=some (.slice none 0 0):=aR e rfl;have i5:wr.cell? ⟨w.heap.size,2,none⟩=some (.slice none 0 0):=aR e rfl;have i6:wr.cell? ⟨w.heap.size,3,none⟩=some (.string ⟨#[]⟩):=aR e rfl;have i8:=aj e;clear k r m q e O b6 b7 b8 b9 c0 b3 b4 b5;have m3:w.heap.size≠w.heap.size+1:=by omega
       by_cases g:a.s.e=0
       .rcases Yj b a.g.length with c2|c9
        .obtain⟨k7,k6,e4,h7,h8,h9,i0,i1,i2,l3⟩:=ow y.b c2;have d0:=l.b.2.1;rw[e4]at d0;simp only[Value.slice.injEq]at d0;obtain⟨rfl,-,rfl⟩:=d0;have c8:a.g[b]? = some (a.g.getD b gT):=by simp[c2]
         have a8:=Z (A.b.cl g c8);have c7:=Z (A.b.row g c8);generalize g9:a.g.getD b gT=i at *
         have l4:(0:Int)<=↑b:=by omega
         have l5:(↑b:Int) < ↑a.g.length:=by omega
         have e0:U (b+1<=e5.g.length):=Z (by rw[<-G.b];omega);have M:=Z g;have l6:a.g.length<=200000000:=by have S:=y.b.aP;unfold ac.sz at S;omega
         rw[g]at D;clear A g c8 g9 e4 c2;by_cases K:i.ag=1
         .have h0:(i.ag==1)=true:=by simpa using K
          obtain⟨g7,g8,e2⟩:=c7.b K;obtain⟨o,e7⟩:∃o:Nat,i.n=o:=⟨i.n.toNat,by omega⟩;have a9:U (hM t (b+1) (if ma a o=true then bo 9 i.m a else a)):=by
           have S:=a8.b;rw[e7,Int.toNat_natCast]at S;simp only[K,true_and]at S;exact Z S
          have g6:o<a.e.length:=by omega
          have e8:=Z e2;clear c7 a8 e2 g7 g8;go_wp2;have N:=Z (z.b.d (.cells #[.string ⟨i.s.toArray⟩,.int .i64 1,.int .i64 ↑o,.int .i64 i.m] 119));clear H I J b1 D b2 a5 a6 h7 h8 h9 i0 i1 i2 i3 i4 i5 i6 i7 i8 y l B;generalize l2:wr.heap.size=C at *
          generalize wr.alloc (.cells #[.string ⟨i.s.toArray⟩,.int .i64 1,.int .i64 ↑o,.int .i64 i.m] 119)=a1 at N ⊢;obtain⟨f,f2,f3,k,m⟩:=N.b.J.sp;obtain⟨j,d7,r⟩:=bX k.e;obtain⟨h,d6,q⟩:=bX k.u;obtain⟨O,b6,b7,b8,b9,c0,H,I,J,b1,D,b2,b3,b4,b5,a5,a6⟩:=k.r;rw[r]at H;rw[m]at I;rw[q]at J;have b0:=Z (AA (k.t (ah [] a1).ae) g6 e8.b (Yz g3 (by decide)));unfold mt at b0;rw[r,m,q]at b0;have e:=N.b.a6 (i:=0) (R:=C) rfl;have h2:a1.cell? ⟨C,2,none⟩=some (.int .i64 ↑o):=aR e rfl;have h3:a1.cell? ⟨C,3,none⟩=some (.int .i64 i.m):=aR e rfl;have h4:=cF e;have h5:=aj e;have y:=Z k;have l:=Z (Yp r (Yp m q));have B:=Z e;clear k r m q e O b6 b7 b8 b9 c0 b3 b4 b5;refine cR (λF=>F.cell? ⟨w.heap.size+1,7,none⟩=some (.slice j a.e.length d7)/\F.cell? ⟨w.heap.size+1,8,none⟩=some (.slice f2 a.g.length f3)/\F.cell? ⟨w.heap.size+1,9,none⟩=some (.slice h a.u.length d6)/\F.cell? ⟨w.heap.size+1,10,none⟩=some (.string ⟨a.b.toArray⟩)/\F.cell? ⟨C,2,none⟩=some (.int .i64 ↑o)) (L:=7) (by kernel_rfl) rfl (by kernel_rfl) (by kernel_rfl) ?_ (λd8=>?_)
          .go_keep
          refine bH [0,1,2,3,4,5] ?_;iterate 6 (refine bO (v:=?_) rfl (by kernel_rfl) (λ_ _ _ g1=>g1) (by kernel_rfl) (by assumption) ?_ ?_;rotate_left;focus (intro w g4;(try dsimp only at g4);go_simp;(try with_reducible rfl));(try simp only[aK,aL,List.set]))
          refine bI ?_;refine cj 6 (by kernel_rfl) rfl λc5 a0=>?_;(go_simp;refine b0.b.mono ?_;rintro g0 h6 ⟨rfl,d2⟩;have c6:=Z (N.b.ae.h d2);obtain⟨f6,f7,f8,f4,f5⟩:=Aa (y.b.t (ah [] a1).ae) l.b.1 l.b.2.1 l.b.2.2 (show (a1.drew).heap[C]? = _ from B.b) d2);refine a0.out _ _ ?_ (λd8=>?_)
          .go_keep
          clear a0 c5;(try simp only[aK,aL,List.set]);refine cP (by kernel_rfl) rfl λc5 a0=>?_;go_simp;refine a0.out _ _ ?_;clear a0 c5;(try simp only[aK,aL,List.set]);have e:=c6.b.a6 (i:=0) (R:=C) rfl;have m4:h6.cell? ⟨C,3,none⟩=some (.int .i64 i.m):=aR e rfl;have m5:=cF e;have m6:=aj e;have c1:=e0.b;clear e b0 d8 H I J b1 D b2 a5 a6 h2 h3 h4 h5 y l B f6 f7 f8 f4 f5 N d2;cases E:ma a o with
          |true=>
           rw[E,Y9 rfl]at a9;go_wp2_with fail;refine aA c6 (iP · 9 i.m) λm9 f0=>?_;go_wp2;exact⟨⟨b+1,bo 9 i.m a,by go_num,c1,G,Z f0.b.az,a9⟩,by simp[intOf];omega⟩
          |false=>
           rw[E,Y2 (by simp)]at a9;go_wp2;exact⟨⟨b+1,a,by go_num,c1,G,Z c6.b.az,a9⟩,by simp[intOf];omega⟩
         .have h0:(i.ag==1)=false:=by simpa using K
          rw[Y2 (λf9=>K f9.1)]at a8;clear c7 K;go_wp2;have c1:=e0.b;exact⟨⟨b+1,a,by go_num,c1,G,Z ((z.b.d _).az),a8⟩,by simp[intOf];omega⟩
        .have e3:¬(↑b:Int) < ↑a.g.length:=by omega
         have a7:=Z (A.b.fin (Y8 c9));have M:=Z g;rw[g]at D;clear A G d9 g c9;go_wp2;refine qf (R:=w.heap.size) rfl rfl rfl rfl (rq _ _ _ _ B.b) ?_;refine⟨lg (rr z.b.fr) (pK _ _ _ _ _ _) (by simp),?_⟩;exact AP a7.b M.b y.b l.b.1 l.b.2.1 l.b.2.2 (Yz g3 (by decide)) (Ya ⟨_,Yc.2 rfl,rfl⟩)
       .have l9:(a.s.e==0)=false:=by simpa using g
        have m0:(a.s.e != 0)=true:=by simpa using g
        have a7:=Z (A.b.fin (Ya g));have M:=Z g;clear A G d9 g;rcases Yj b a.g.length with c2|c9
        .have e3:(↑b:Int) < ↑a.g.length:=by omega
         go_wp2;go_region;go_wp2;refine qf (R:=w.heap.size) (w:=(pE wr w.heap.size (.slice none 0 0) (.slice none 0 0) (.slice none 0 0) (.string ⟨#[]⟩)).drew) rfl rfl rfl rfl (rq _ _ _ _ B.b) ?_;exact⟨(lg (rr z.b.fr) (pK _ _ _ _ _ _) (by simp)).ae,uK a7.b M.b⟩
        .have e3:¬(↑b:Int) < ↑a.g.length:=by omega
         go_wp2;go_region;go_wp2;refine qf (R:=w.heap.size) (w:=(pE wr w.heap.size (.slice none 0 0) (.slice none 0 0) (.slice none 0 0) (.string ⟨#[]⟩)).drew) rfl rfl rfl rfl (rq _ _ _ _ B.b) ?_;exact⟨(lg (rr z.b.fr) (pK _ _ _ _ _ _) (by simp)).ae,uK a7.b M.b⟩
     .have n4:((u.s.x.f:Int)==0)=false:=by simp;omega
      have e7:((u.s.x.f:Int) != 0)=true:=by simp;omega
      have k1:=a3.le;have k3:=Z a3.f1;have j4:=Z (a3.cl e1);have j3:=Z a3;have l0:d+2000000<=1000000000:=Yz (wJ c4 k1) (by decide);have n3:=a3.b4;have j1:U (d+2000000<=bN (c+1)/\d+2000000<=200000000):=Z ⟨FL c4,wJ c4 k1⟩;clear a3 e6 g e1;go_wp2_with fail;refine aA a2 (Hl · k3.b.1 (λi m1=>(k3.b.2.b5 i m1).1) l0) λm8 d4=>?_;go_wp2;refine⟨⟨bG t u,d+2000000,d4,?_⟩,?_⟩
      .rcases j4.b with P|P
       .exact Z (Y8 ⟨c+1,P,j1.b.1⟩)
       .exact Z (Ya ⟨P,j1.b.2⟩)
      .obtain⟨n1,l1⟩:=d4.b.J;rw[e9.b,Bv l1,Y9 j3.b.e];rcases j4.b with P|⟨j7,-,P⟩
       .rw[Y9 P.e];have:=j3.b.up P;have:=P.b4;omega
       .rw[Y2 P.c8];omega
    .obtain⟨j7,j9,g2⟩:=k9;have g:(u.s.e==0)=false:=by have:=g2.c8;simp;exact this
     have d5:U (hM t 0 u):=Z (Rf j2.b ⟨j7,j9,g2⟩ 0);clear e6 g2 j9 e9;go_wp2;clear O D a5 a6 g;go_loopw [7] (λd1 c3=>∃(b:Nat) (a:ac),d1=.int .i64 b/\b<=u.g.length/\U (a.g.length=u.g.length)/\U (aD (λp=>p<w.heap.size) (w.heap.size+1) t d a [.obj w.heap.size (lD (.slice none 0 0) (.slice none 0 0) (.slice none 0 0) (.string ⟨#[]⟩))] w c3)/\U (hM t b a)) (λd1 _=>u.g.length-(intOf d1).toNat)
     case atStart=>exact⟨0,u,rfl,by omega,Z rfl,a2,d5⟩
     case round=>
      obtain⟨b,a,rfl,d9,G,z,A⟩:=hrel;clear a2 d5;obtain⟨f,gQ,j6,k,m⟩:=z.b.J.sp;obtain⟨j,d7,r⟩:=bX k.e;obtain⟨h,d6,q⟩:=bX k.u;obtain⟨O,b6,b7,b8,b9,c0,H,I,J,b1,D,b2,b3,b4,b5,a5,a6⟩:=k.r;rw[r]at H;rw[m]at I;rw[q]at J;have y:=Z k;have l:=Z (Yp r (Yp m q));have e:=z.b.a6 (i:=0) (R:=w.heap.size) rfl;have B:=Z e;have i7:=cF e;have i3:wr.cell? ⟨w.heap.size,0,none⟩=some (.slice none 0 0):=aR e rfl;have i4:wr.cell? ⟨w.heap.size,1,none⟩=some (.slice none 0 0):=aR e rfl;have i5:wr.cell? ⟨w.heap.size,2,none⟩=some (.slice none 0 0):=aR e rfl;have i6:wr.cell? ⟨w.heap.size,3,none⟩=some (.string ⟨#[]⟩):=aR e rfl;have i8:=aj e;clear k r m q e O b6 b7 b8 b9 c0 b3 b4 b5;have m3:w.heap.size≠w.heap.size+1:=by omega
      by_cases g:a.s.e=0
      .rcases Yj b a.g.length with c2|c9
       .obtain⟨k7,k6,e4,h7,h8,h9,i0,i1,i2,l3⟩:=ow y.b c2;have d0:=l.b.2.1;rw[e4]at d0;simp only[Value.slice.injEq]at d0;obtain⟨rfl,-,rfl⟩:=d0;have c8:a.g[b]? = some (a.g.getD b gT):=by simp[c2]
        have a8:=Z (A.b.cl g c8);have c7:=Z (A.b.row g c8);generalize g9:a.g.getD b gT=i at *
        have l4:(0:Int)<=↑b:=by omega
        have l5:(↑b:Int) < ↑a.g.length:=by omega
        have e0:U (b+1<=u.g.length):=Z (by rw[<-G.b];omega);have M:=Z g;have l6:a.g.length<=200000000:=by have S:=y.b.aP;unfold ac.sz at S;omega
        rw[g]at D;clear A g c8 g9 e4 c2;by_cases K:i.ag=1
        .have h0:(i.ag==1)=true:=by simpa using K
         obtain⟨g7,g8,e2⟩:=c7.b K;obtain⟨o,e7⟩:∃o:Nat,i.n=o:=⟨i.n.toNat,by omega⟩;have a9:U (hM t (b+1) (if ma a o=true then bo 9 i.m a else a)):=by
          have S:=a8.b;rw[e7,Int.toNat_natCast]at S;simp only[K,true_and]at S;exact Z S
         have g6:o<a.e.length:=by omega
         have e8:=Z e2;clear c7 a8 e2 g7 g8;go_wp2;have N:=Z (z.b.d (.cells #[.string ⟨i.s.toArray⟩,.int .i64 1,.int .i64 ↑o,.int .i64 i.m] 119));clear H I J b1 D b2 a5 a6 h7 h8 h9 i0 i1 i2 i3 i4 i5 i6 i7 i8 y l B;generalize l2:wr.heap.size=C at *
         generalize wr.alloc (.cells #[.string ⟨i.s.toArray⟩,.int .i64 1,.int .i64 ↑o,.int .i64 i.m] 119)=a1 at N ⊢;obtain⟨f,f2,f3,k,m⟩:=N.b.J.sp;obtain⟨j,d7,r⟩:=bX k.e;obtain⟨h,d6,q⟩:=bX k.u;obtain⟨O,b6,b7,b8,b9,c0,H,I,J,b1,D,b2,b3,b4,b5,a5,a6⟩:=k.r;rw[r]at H;rw[m]at I;rw[q]at J;have b0:=Z (AA (k.t (ah [] a1).ae) g6 e8.b (Yz c4 (by decide)));unfold mt at b0;rw[r,m,q]at b0;have e:=N.b.a6 (i:=0) (R:=C) rfl;have h2:a1.cell? ⟨C,2,none⟩=some (.int .i64 ↑o):=aR e rfl;have h3:a1.cell? ⟨C,3,none⟩=some (.int .i64 i.m):=aR e rfl;have h4:=cF e;have h5:=aj e;have y:=Z k;have l:=Z (Yp r (Yp m q));have B:=Z e;clear k r m q e O b6 b7 b8 b9 c0 b3 b4 b5;refine cR (λF=>F.cell? ⟨w.heap.size+1,7,none⟩=some (.slice j a.e.length d7)/\F.cell? ⟨w.heap.size+1,8,none⟩=some (.slice f2 a.g.length f3)/\F.cell? ⟨w.heap.size+1,9,none⟩=some (.slice h a.u.length d6)/\F.cell? ⟨w.heap.size+1,10,none⟩=some (.string ⟨a.b.toArray⟩)/\F.cell? ⟨C,2,none⟩=some (.int .i64 ↑o)) (L:=7) (by kernel_rfl) rfl (by kernel_rfl) (by kernel_rfl) ?_ (λd8=>?_)
         .go_keep
         refine bH [0,1,2,3,4,5] ?_;iterate 6 (refine bO (v:=?_) rfl (by kernel_rfl) (λ_ _ _ g1=>g1) (by kernel_rfl) (by assumption) ?_ ?_;rotate_left;focus (intro w g4;(try dsimp only at g4);go_simp;(try with_reducible rfl));(try simp only[aK,aL,List.set]))
         refine bI ?_;refine cj 6 (by kernel_rfl) rfl λc5 a0=>?_;(go_simp;refine b0.b.mono ?_;rintro g0 h6 ⟨rfl,d2⟩;have c6:=Z (N.b.ae.h d2);obtain⟨f6,f7,f8,f4,f5⟩:=Aa (y.b.t (ah [] a1).ae) l.b.1 l.b.2.1 l.b.2.2 (show (a1.drew).heap[C]? = _ from B.b) d2);refine a0.out _ _ ?_ (λd8=>?_)
         .go_keep
         clear a0 c5;(try simp only[aK,aL,List.set]);refine cP (by kernel_rfl) rfl λc5 a0=>?_;go_simp;refine a0.out _ _ ?_;clear a0 c5;(try simp only[aK,aL,List.set]);have e:=c6.b.a6 (i:=0) (R:=C) rfl;have m4:h6.cell? ⟨C,3,none⟩=some (.int .i64 i.m):=aR e rfl;have m5:=cF e;have m6:=aj e;have c1:=e0.b;clear e b0 d8 H I J b1 D b2 a5 a6 h2 h3 h4 h5 y l B f6 f7 f8 f4 f5 N d2;cases E:ma a o with
         |true=>
          rw[E,Y9 rfl]at a9;go_wp2_with fail;refine aA c6 (iP · 9 i.m) λm9 f0=>?_;go_wp2;exact⟨⟨b+1,bo 9 i.m a,by go_num,c1,G,Z f0.b.az,a9⟩,by simp[intOf];omega⟩
         |false=>
          rw[E,Y2 (by simp)]at a9;go_wp2;exact⟨⟨b+1,a,by go_num,c1,G,Z c6.b.az,a9⟩,by simp[intOf];omega⟩
        .have h0:(i.ag==1)=false:=by simpa using K
         rw[Y2 (λf9=>K f9.1)]at a8;clear c7 K;go_wp2;have c1:=e0.b;exact⟨⟨b+1,a,by go_num,c1,G,Z ((z.b.d _).az),a8⟩,by simp[intOf];omega⟩
       .have e3:¬(↑b:Int) < ↑a.g.length:=by omega
        have a7:=Z (A.b.fin (Y8 c9));have M:=Z g;rw[g]at D;clear A G d9 g c9;go_wp2;refine qf (R:=w.heap.size) rfl rfl rfl rfl (rq _ _ _ _ B.b) ?_;refine⟨lg (rr z.b.fr) (pK _ _ _ _ _ _) (by simp),?_⟩;exact AP a7.b M.b y.b l.b.1 l.b.2.1 l.b.2.2 (Yz c4 (by decide)) (Ya ⟨_,Yc.2 rfl,rfl⟩)
      .have l9:(a.s.e==0)=false:=by simpa using g
       have m0:(a.s.e != 0)=true:=by simpa using g
       have a7:=Z (A.b.fin (Ya g));have M:=Z g;clear A G d9 g;rcases Yj b a.g.length with c2|c9
       .have e3:(↑b:Int) < ↑a.g.length:=by omega
        go_wp2;go_region;go_wp2;refine qf (R:=w.heap.size) (w:=(pE wr w.heap.size (.slice none 0 0) (.slice none 0 0) (.slice none 0 0) (.string ⟨#[]⟩)).drew) rfl rfl rfl rfl (rq _ _ _ _ B.b) ?_;exact⟨(lg (rr z.b.fr) (pK _ _ _ _ _ _) (by simp)).ae,uK a7.b M.b⟩
       .have e3:¬(↑b:Int) < ↑a.g.length:=by omega
        go_wp2;go_region;go_wp2;refine qf (R:=w.heap.size) (w:=(pE wr w.heap.size (.slice none 0 0) (.slice none 0 0) (.slice none 0 0) (.string ⟨#[]⟩)).drew) rfl rfl rfl rfl (rq _ _ _ _ B.b) ?_;exact⟨(lg (rr z.b.fr) (pK _ _ _ _ _ _) (by simp)).ae,uK a7.b M.b⟩
def zB(t:List UInt8)(w:World):Calls prog 26 #[.string ⟨t.toArray⟩] w λc b=>ai [] w b/\lI t c b:=by
 rcases Yj 1200 t.length with a|a
 .exact Fc t w a
 .exact Fe t w a
end
end Go.Proofs.YtjdhaegijjednaaGreatDoor
namespace Go.Proofs.YtjdhaegijjednaaGreatDoor
open Go.RowKit Go.Extern.Stop Go.Stop Go.Extern
open Go.Proofs.Tryz
abbrev na(a:Nat):Value:=.pointer (some ⟨8,a,none⟩)
abbrev iA(c:Nat)(a:Addr)(b:Int):Value:=.agg #[na c,.pointer (some a),.int .u64 b]
abbrev vK(c:Nat)(a:Addr)(b:Int):Obj:=.cells #[na c,.pointer (some a),.int .u64 b] 302
abbrev iV(a:Nat):Value:=.iface 407 (.agg #[na a])
def NX(b:Addr)(a:World):(ReflectliteValue.unpack (.iface 177 (.pointer (some b)))).run prog a=.ok (iA 177 ⟨a.heap.size,0,none⟩ 150) (a.alloc (.cells #[.pointer (some b)] 177)):=by kernel_rfl
def NV (b : Addr) (a : World) : (ReflectliteValue.methodAny (ReflectliteValue.valueError "reflectlite.Value.Type" 0) (fun c _ _ _ => ReflectliteType.toType c) #[iA 177 b 150]).run Tryz.prog a = .ok (iV 177) a := by kernel_rfl
def NP (c : Nat) (a : Value) (b : World) : (Go.method (c + 3) 407 (.agg #[a]) "Kind").run Tryz.prog b = .ok (321, a) b := by kernel_rfl
def NN (c : Nat) (a : Value) (b : World) : (Go.method (c + 3) 407 (.agg #[a]) "Elem").run Tryz.prog b = .ok (380, .agg #[a]) b := by kernel_rfl
def NO (c : Nat) (a : Value) (b : World) : (Go.method (c + 3) 407 (.agg #[a]) "Implements").run Tryz.prog b = .ok (381, .agg #[a]) b := by kernel_rfl
def NM (c : Nat) (a : Value) (b : World) : (Go.method (c + 3) 407 (.agg #[a]) "AssignableTo").run Tryz.prog b = .ok (378, .agg #[a]) b := by kernel_rfl
def NL(a:World):((ReflectliteType.abiMethod λc=>(λb:Nat=>Value.int IntKind.u8 (b:Int)) <$> Rtype.kind c) #[na 177]).run prog a=.ok (.int .u8 22) a:=by kernel_rfl
def NK(a:World):((ReflectliteType.abiMethod λc=>(λb:Nat=>Value.int IntKind.u8 (b:Int)) <$> Rtype.kind c) #[na 143]).run prog a=.ok (.int .u8 22) a:=by kernel_rfl
def CF(a:Addr)(b:World):(ReflectliteValue.parts (iA 177 a 150)).run prog b=.ok (some (177,a,150)) b:=by kernel_rfl
def NJ(b d:Addr)(a:World)(c:a.cell? b=some (.pointer (some d))) :
  (ReflectliteValue.method (ReflectliteValue.valueError "reflectlite.Value.IsNil" 0) ReflectliteValue.isNil #[iA 177 b 150]).run Tryz.prog a = .ok (.bool false) a := by
 change Sem.run prog (ReflectliteValue.parts (iA 177 b 150) >>= _) a=_;simp only[Sem.run_bind,CF,Result.andThen];simp[ReflectliteValue.isNil,loadVar,isAgg,underlying,underlying177,c,Result.andThen]
def NG(a:World):(ReflectliteType.method ReflectliteType.elem #[.agg #[na 177]]).run prog a=.ok (iV 143) a:=by kernel_rfl
def NI (a : World) : (ReflectliteType.relation "Implements" ReflectliteType.implements_ #[.agg #[na 143], iV 55]).run Tryz.prog a = .ok (.bool true) a := by kernel_rfl
def NU(v:Value)(a:World):(ReflectliteType.typeOf #[.iface 143 v]).run prog a=.ok (iV 143) a:=by kernel_rfl
def ND (a : World) : (ReflectliteType.relation "AssignableTo" ReflectliteType.assignableTo #[.agg #[na 143], iV 143]).run Tryz.prog a = .ok (.bool true) a := by kernel_rfl
def NW(b:Addr)(a:World):(ReflectliteValue.unpack (.iface 143 (.pointer (some b)))).run prog a=.ok (iA 143 ⟨a.heap.size,0,none⟩ 150) (a.alloc (.cells #[.pointer (some b)] 143)):=by kernel_rfl
def NF(a:World):(Rtype.elem? 177).run prog a=.ok (some 143) a:=by kernel_rfl
def NQ(a:Addr)(b:World):(ReflectliteValue.mk 143 a ReflectliteValue.flagAddr).run prog b=.ok (iA 143 a 406) b:=by kernel_rfl
def NH(b c:Addr)(a:World)(d:a.cell? b=some (.pointer (some c))) :
  (ReflectliteValue.method (ReflectliteValue.valueError "reflectlite.Value.Elem" 0) ReflectliteValue.elem #[iA 177 b 150]).run Tryz.prog a = .ok (iA 143 c 406) a := by
 change Sem.run prog (ReflectliteValue.parts (iA 177 b 150) >>= _) a=_;simp only[Sem.run_bind,CF,Result.andThen];simp[ReflectliteValue.elem,loadVar,isAgg,underlying,underlying177,d,Result.andThen,NF,NQ]
def NR(a:Addr)(b:World):(ReflectliteValue.parts (iA 143 a 406)).run prog b=.ok (some (143,a,406)) b:=by kernel_rfl
def NS(a:Addr)(b:World):(ReflectliteValue.parts (iA 143 a 150)).run prog b=.ok (some (143,a,150)) b:=by kernel_rfl
def NE(a:World):(Rtype.directlyAssignable 143 143).run prog a=.ok true a:=by kernel_rfl
def NT(b c d:Addr)(h:Value)(a:World)(e:a.cell? c=some (.pointer (some d)))(g:a.cell? b=some h)(f:a.frozen? b=false) :
  (ReflectliteValue.set #[iA 143 b 406,iA 143 c 150]).run prog a=.ok (.tuple #[]) (a.setCell b (.pointer (some d))):=by
 change Sem.run prog (ReflectliteValue.parts (iA 143 b 406) >>= λ_=>ReflectliteValue.parts (iA 143 c 150) >>= _) a=_;simp only[Sem.run_bind,NR,NS,Result.andThen];simp[ReflectliteValue.flagAddr,loadVar,isAgg,underlying,underlying143,e,Result.andThen,NE,storeVar,Value.cells,storeCells,Addr.add];rw[run_store prog a b _ _ (by rfl)];simp[g,f]
abbrev sB(a:World)(b:Addr):World:=(a.alloc (.cells #[.pointer (some b)] 177)).alloc (vK 177 ⟨a.heap.size,0,none⟩ 150)
def FJ(d a:Addr)(h:Value)(b:World)(e:b.cell? ⟨1,0,none⟩=some (iV 55))(f:b.cell? a=some h)(j:b.frozen? a=false) :
  Calls prog 92 #[.iface 143 (.pointer (some d)),.iface 177 (.pointer (some a))] b λi l=>i=.returned (.bool true)/\
   l=(((sB b a).alloc (vK 177 ⟨b.heap.size,0,none⟩ 150)).alloc (.cells #[.pointer (some d)] 143)).setCell a (.pointer (some d)):=by
 have D:=@run_callFunc_extern prog 155 _ (λargs=>ReflectliteValue.unpack (args.getD 0 (.tuple #[]))) func155 (by kernel_rfl) (by kernel_rfl) (by kernel_rfl) (by kernel_rfl)
 have F := @run_callFunc_extern Tryz.prog 156 _ (ReflectliteValue.methodAny (ReflectliteValue.valueError "reflectlite.Value.Type" 0) (fun a _ _ _ => ReflectliteType.toType a)) Tryz.func156 (by kernel_rfl) (by kernel_rfl) (by kernel_rfl) (by kernel_rfl)
 have G := @run_callFunc_extern Tryz.prog 157 _ (ReflectliteValue.method (ReflectliteValue.valueError "reflectlite.Value.IsNil" 0) ReflectliteValue.isNil) Tryz.func157 (by kernel_rfl) (by kernel_rfl) (by kernel_rfl) (by kernel_rfl)
 have H:=@run_callFunc_extern prog 321 _ (ReflectliteType.abiMethod λa=>do pure (.int .u8 (<-Rtype.kind a))) func321 (by kernel_rfl) (by kernel_rfl) (by kernel_rfl) (by kernel_rfl);have I:=@run_callFunc_extern prog 380 _ (ReflectliteType.method ReflectliteType.elem) func380 (by kernel_rfl) (by kernel_rfl) (by kernel_rfl) (by kernel_rfl)
 have J := @run_callFunc_extern Tryz.prog 381 _ (ReflectliteType.relation "Implements" ReflectliteType.implements_) Tryz.func381 (by kernel_rfl) (by kernel_rfl) (by kernel_rfl) (by kernel_rfl)
 have K:=@run_callFunc_extern prog 219 _ ReflectliteType.typeOf func219 (by kernel_rfl) (by kernel_rfl) (by kernel_rfl) (by kernel_rfl)
 have L := @run_callFunc_extern Tryz.prog 378 _ (ReflectliteType.relation "AssignableTo" ReflectliteType.assignableTo) Tryz.func378 (by kernel_rfl) (by kernel_rfl) (by kernel_rfl) (by kernel_rfl)
 have M := @run_callFunc_extern Tryz.prog 220 _ (ReflectliteValue.method (ReflectliteValue.valueError "reflectlite.Value.Elem" 0) ReflectliteValue.elem) Tryz.func220 (by kernel_rfl) (by kernel_rfl) (by kernel_rfl) (by kernel_rfl)
 have E:=@run_callFunc_extern prog 221 _ ReflectliteValue.set func221 (by kernel_rfl) (by kernel_rfl) (by kernel_rfl) (by kernel_rfl);have z:=NU;have t:=NM;have m:=ND;have B:=NW;have C:=NX;have A:=NV;have w:=NP;have u:=NN;have v:=NO;have s:=NL;have r:=NK;have n:=NG;have q:=NI;have x:=NJ ⟨b.heap.size,0,none⟩ a (sB b a) (by simp);have k:1<b.heap.size:=by
  rcases Yj 1 b.heap.size with c|c
  .exact c
  .simp[World.cell?,YO c]at e
 have p:(sB b a).cell? ⟨1,0,none⟩=some (iV 55):=by
  rw[World.cell?_alloc_lt _ _ ⟨1,0,none⟩ (by simp;omega),World.cell?_alloc_lt _ _ ⟨1,0,none⟩ k];exact e
 have g:a.block<b.heap.size:=by
  rcases Yj a.block b.heap.size with c|c
  .exact c
  .simp[World.cell?,YO c]at f
 have o:=NH ⟨b.heap.size,0,none⟩ a ((sB b a).alloc (vK 177 ⟨b.heap.size,0,none⟩ 150)) (by rw[World.cell?_alloc_lt _ _ ⟨b.heap.size,0,none⟩ (by simp;omega)];simp);have y:=NT a ⟨b.heap.size+1+1+1,0,none⟩ d h (((sB b a).alloc (vK 177 ⟨b.heap.size,0,none⟩ 150)).alloc (.cells #[.pointer (some d)] 143))
  (by rw[World.cell?_alloc_at _ _ _ _ (by simp)];rfl)
  (by rw[World.cell?_alloc_lt _ _ a (by simp;omega),World.cell?_alloc_lt _ _ a (by simp;omega),World.cell?_alloc_lt _ _ a (by simp;omega),World.cell?_alloc_lt _ _ a g];exact f)
  (by rw[World.frozen?_alloc_old _ _ a (by simp;omega),World.frozen?_alloc_old _ _ a (by simp;omega),World.frozen?_alloc_old _ _ a (by simp;omega),World.frozen?_alloc_old _ _ a (Nat.ne_of_lt g)];exact j)
 go_in;go_wp2;refine wp_loop_rounds 1 ?_;rw[rounds_succ];go_wp2;go_ret;exact⟨rfl,rfl⟩
end Go.Proofs.YtjdhaegijjednaaGreatDoor
namespace Go.Proofs.YtjdhaegijjednaaGreatDoor
open Go.RowKit
open Go.Proofs.Tryz
def Fq{a:World}(e:a.cell? ⟨1,0,none⟩=some (iV 55)){b:Nat}{o h:Int}(d:a.heap[b]? = some (.cells #[.int .i64 o,.int .i64 h] 179)) :
  Calls prog 52 #[.iface 143 (.pointer (some ⟨b,0,none⟩))] a λj t=>j=.returned (.tuple #[.int .i64 o,.int .i64 h])/\ai [] a t:=by
 have s:1<a.heap.size:=by
  rcases Yj 1 a.heap.size with c|c
  .exact c
  .simp[World.cell?,YO c]at e
 have r:=aj d;have l:(a.alloc (.cells #[.pointer none] 143)).cell? ⟨1,0,none⟩=some (iV 55):=by rw[World.cell?_alloc_lt _ _ ⟨1,0,none⟩ s];exact e
 have n:(a.alloc (.cells #[.pointer none] 143)).cell? ⟨a.heap.size,0,none⟩=some (.pointer none):=by simp
 have k:(a.alloc (.cells #[.pointer none] 143)).frozen? ⟨a.heap.size,0,none⟩=false:=by simp
 have g:=Z (FJ ⟨b,0,none⟩ ⟨a.heap.size,0,none⟩ (.pointer none) _ l n k);clear l n k e;go_in;go_wp2_with fail;refine g.b.mono ?_;rintro j p ⟨rfl,f⟩;have m:ai [] a p:=by
  rw[f];exact(((((ah [] a).d _).d _).d _).d _ |>.d _).bs (Y4 _) _
 have u:p.cell? ⟨a.heap.size,0,none⟩=some (.pointer (some ⟨b,0,none⟩)):=by
  rw[f];refine bL (bu (i:=0) (cs:=#[.pointer none]) (T:=143) ?_ _);exact(((((ah [] (a.alloc (.cells #[.pointer none] 143))).d _).d _).d _ |>.d _).i a.heap.size (by simp) (by simp)).trans (aJ rfl)
 have q:=(m.i b r (by simp)).trans d;obtain⟨v,w,_⟩:=sG q;clear f g d;go_wp2_with fail;go_region;go_wp2;go_ret2;exact⟨rfl,m.ae⟩
end Go.Proofs.YtjdhaegijjednaaGreatDoor
namespace Go.Proofs.YtjdhaegijjednaaGreatDoor
open Go.RowKit
open Go.MapKept
open Go.Proofs.Tryz
def Fb{k:ByteArray}{f:Mar.M}(D:en k=.error f){a:World}(B:Gl a):Calls prog 25 #[.string k] a λd r=>ai [] a r/\∃m,d=.returned (.tuple #[.pointer none,.iface 143 (.pointer (some ⟨m,0,none⟩))])/\r.heap[m]? = some (.cells #[.int .i64 f.no,.int .i64 f.m] 179):=by
 have L:=jq;have n:Below a.heap.size a ((a.alloc (.cells #[.pointer none] 53)).alloc (.cells #[.nilIface] 55)):=((Below.refl _ _).alloc (Y4 _) _).alloc (by simp) _;have t:=Z (zK k (B.t n));have l:=Z D;have o:((a.alloc (.cells #[.pointer none] 53)).alloc (.cells #[.nilIface] 55)).heap[a.heap.size]? = some (.cells #[.pointer none] 53):=(Below.heap_alloc _ _ _ (by simp)).trans (aJ rfl);have q:((a.alloc (.cells #[.pointer none] 53)).alloc (.cells #[.nilIface] 55)).heap[a.heap.size+1]? = some (.cells #[.nilIface] 55):=aJ (by simp);have s:=Z n;go_enter_defers func25,ntmps25;go_wp2_with fail;refine t.b.mono ?_;rintro d c (⟨J,N,M,I,g,_⟩|⟨u,g,e,b,y,rfl,z⟩)
 .exact absurd (l.b.symm.trans g) (by simp)
 have A:u=f:=by have x:=l.b.symm.trans g;cases x;rfl
 subst A;have h:=(e.i _ (aj o) (by simp)).trans o;have j:=(e.i _ (aj q) (by simp)).trans q;have v:c.frozen? ⟨a.heap.size,0,none⟩=false:=by simp[World.frozen?,h]
 have w:c.frozen? ⟨a.heap.size+1,0,none⟩=false:=by simp[World.frozen?,j]
 have C:=(br [] s.b).a e;refine leaves_cons (f:=42) (args:=#[.pointer (some ⟨a.heap.size,0,none⟩),.pointer (some ⟨a.heap.size+1,0,none⟩)]) (by simp) (by simp[go_sem]) ?_;refine(Ng _ _ b _ _ [] c (bL h) (bL j) v w (by simp)).mono ?_;rintro d O P ⟨rfl,rfl,rfl⟩;have E:=bu (i:=0) h (.pointer none);have F:(c.setCell ⟨a.heap.size,0,none⟩ (.pointer none)).heap[a.heap.size+1]? = _:=(Below.heap_setCell _ _ _ _ (by simp)).trans j;have G:=bL ((Below.heap_setCell _ ⟨a.heap.size+1,0,none⟩ (.iface 143 (.pointer (some ⟨b,0,none⟩))) _ (by simp)).trans E)
 have H:=bL (bu (i:=0) F (.iface 143 (.pointer (some ⟨b,0,none⟩))))
 simp only[Leaves,settle,List.dropWhile_nil];refine⟨.tuple #[.pointer none,.iface 143 (.pointer (some ⟨b,0,none⟩))],by simp[results,results25,go_sem,G,H],?_⟩
 refine⟨(C.bs (p:=⟨a.heap.size,0,none⟩) (by simp) _).bs (p:=⟨a.heap.size+1,0,none⟩) (by simp) _,b,rfl,?_⟩;have K:a.heap.size+2<=b:=by simpa using y
 exact(Below.heap_setCell _ _ _ _ (by simp;omega)).trans ((Below.heap_setCell _ _ _ _ (by simp;omega)).trans z)
def Fs(a:World):Calls prog 52 #[.nilIface] a λb c=>b=.returned (.tuple #[.int .i64 0,.int .i64 0])/\c=a:=by
 go_in;go_wp2;go_ret2;exact⟨rfl,rfl⟩
def BZ(a:Int)(b:World):Calls prog 53 #[.int .i64 a] b λc d=>c=.returned (.int .i64 a)/\d=b:=by
 go_in;go_wp2;go_ret;exact⟨rfl,rfl⟩
def Rh(d:Int)(b:World):Calls prog 27 #[.nilIface,.int .i64 0,.int .i64 d] b λa e=>a=.returned (.bool true)/\ai [] b e:=by
 have c:=Z (Fs b);go_in;go_wp2_with fail;refine c.b.mono ?_;rintro a f ⟨rfl,rfl⟩;go_wp2_with fail;refine(BZ 0 _).mono ?_;rintro a g ⟨rfl,rfl⟩;go_wp2;go_ret;exact⟨by simp,ah [] _⟩
def Rg{b:World}(h:b.cell? ⟨1,0,none⟩=some (iV 55)){e:Nat}{a d:Int}(g:b.heap[e]? = some (.cells #[.int .i64 a,.int .i64 d] 179))(i:a≠0) :
  Calls prog 27 #[.iface 143 (.pointer (some ⟨e,0,none⟩)),.int .i64 a,.int .i64 d] b λc k=>c=.returned (.bool true)/\ai [] b k:=by
 have f:=Z (Fq h g);have l:(a==0)=false:=by simpa using i
 go_in;go_wp2_with fail;refine f.b.mono ?_;rintro c m ⟨rfl,j⟩;go_wp2_with fail;refine(BZ a _).mono ?_;rintro c n ⟨rfl,rfl⟩;go_wp2;go_ret;exact⟨by simp,j⟩
end Go.Proofs.YtjdhaegijjednaaGreatDoor
namespace Go.Proofs.YtjdhaegijjednaaGreatDoor
open Go.RowKit
open Go.Proofs.Tryz
section
variable {b:List UInt8}{a:World}
def Fk(b:List UInt8)(c:List ao)(S:Nat)(d:World):Prop:=∃f h a e n m g l j k,d.heap[S]? = some (.cells #[.pointer (some ⟨f,0,none⟩),a.rv,a.nv,a.pv,.string ⟨e.b.toArray⟩] 67)/\wD h f c/\(∀i∈h,d.heap[i.1]? = some i.2)/\bf n m b g e a d/\g<=1000000000/\e=gb k/\Wh b c l j k/\kO j c
def ob{f:World}{b e:Nat}{v:Value}(d:a.cell? ⟨b,e,none⟩=some v)(h:ai [] a f):f.cell? ⟨b,e,none⟩=some v:=by
 have g:b<a.heap.size:=by
  rcases Yj b a.heap.size with c|c
  .exact c
  .simp[World.cell?,YO c]at d
 have:=h.i b g (by simp);unfold World.cell? at *
 simp only at *
 rw[this];exact d
def Nj{e:Mar.M}(h:en (ap b)=.error e)(o:Gl a)(n:a.cell? ⟨1,0,none⟩=some (iV 55)):Calls prog 16 #[.string ⟨b.toArray⟩] a λc s=>ai [] a s/\c=.returned (.tuple #[.pointer none,.bool true]):=by
 have l:=Z h;have m:=Z (Fb h o);have k:=Z n;clear o h n;go_in;go_wp2_with fail;refine m.b.mono ?_;rintro c t ⟨i,v,rfl,g⟩;go_wp2_with fail;refine(zB b t).mono ?_;rintro c u ⟨d,f⟩;unfold lI at f;rw[l.b]at f;obtain⟨rfl,w⟩:=f;have x:((e.no:Int) != 0)=true:=by simp;omega
 have j:=Z (((ah [] u).d (lD (.slice none 0 0) (.slice none 0 0) (.slice none 0 0) (.string ⟨#[]⟩))));have q:=Z (Rg (ob (ob (ob k.b i) d) j.b) (((d.a j.b).i _ (aj g) (by simp)).trans g) (by omega:(e.no:Int)≠0));have p:=Z (i.a d);unfold yJ;clear g i d m k l;go_wp2_with fail;refine q.b.mono ?_;rintro c y ⟨rfl,r⟩;go_wp2;go_ret2;exact⟨(p.b.a j.b).a r,rfl⟩
def Ni{E:List ao}(k:en (ap b)=.ok E)(K:Gl a):Calls prog 16 #[.string ⟨b.toArray⟩] a λj N=>ai [] a N/\∃S,j=.returned (.tuple #[.pointer (some ⟨S,0,none⟩),.bool true])/\a.heap.size<=S/\Fk b E S N:=by
 have A:=Z k;have D:=Z (Fd k (MM k) K);clear K k;go_in;go_wp2_with fail;refine D.b.mono ?_;rintro j b6 ⟨z,a4,rfl,M,L,s,b8⟩;go_wp2_with fail;refine(zB b b6).mono ?_;rintro j e ⟨w,r⟩;unfold lI at r;rw[A.b]at r;obtain⟨a2,c,a3,a1,a0,O,b5,b7,rfl,h,J,G,H,I⟩:=r;obtain⟨n,q,v⟩:=bX h.e;obtain⟨l,o,t⟩:=bX h.g;obtain⟨m,p,u⟩:=bX h.u;have R:=Z (Yp L (Yp (λd i=>((w.i _ (aj (s d i)) (by simp)).trans (s d i):e.heap[d.1]? = some d.2)) (Yp h (Yp J (Yp G (Yp H I))))));have P:=Z (Yp v (Yp t u));have B:=Z (M.a w);have b1:=Z (((ah [] e).d (lD (.slice n c.e.length q) (.slice l c.g.length o) (.slice m c.u.length p) (.string ⟨c.b.toArray⟩))));unfold mt;rw[v,t,u];clear v t u h J G H I L s M w D A;go_wp2_with fail;refine(Rh 0 _).mono ?_;rintro j g ⟨rfl,x⟩;have f:=(x.i e.heap.size (by simp) (by simp)).trans (aJ rfl);obtain⟨b9,c0,c1,c2⟩:g.cell? ⟨e.heap.size,0,none⟩=some (.slice n c.e.length q)/\g.cell? ⟨e.heap.size,1,none⟩=some (.slice l c.g.length o)/\g.cell? ⟨e.heap.size,2,none⟩=some (.slice m c.u.length p)/\g.cell? ⟨e.heap.size,3,none⟩=some (.string ⟨c.b.toArray⟩):=⟨aR f rfl,aR f rfl,aR f rfl,aR f rfl⟩;have c3:=cF f;have C:=Z (b1.b.a x);have c4:=aj f;clear f x;go_wp2;go_ret2;obtain⟨a5,F,a6,a7,a8,a9,b0⟩:=R.b;obtain⟨b2,b3,b4⟩:=P.b;have y:=C.b.a ((ah [] g).d (.cells #[.pointer (some ⟨z,0,none⟩),.slice n c.e.length q,.slice l c.g.length o,.slice m c.u.length p,.string ⟨c.b.toArray⟩] 67));refine⟨B.b.a y,g.heap.size,rfl,?_,z,a4,a2,c,a3,a1,a0,O,b5,b7,?_,a5,λd i=>(y.i _ (aj (F d i)) (by simp)).trans (F d i),a6.t y,a7,a8,a9,b0⟩
 .have:=B.b.F;have:=C.b.F;omega
 .rw[b2,b3,b4];exact aJ rfl
end
def eK(a:Int)(b:Nat):Nat:=(if a<0 then -(a+1)else a).toNat % b
def vC(a:Int)(b:Nat)(j:-9223372036854775808<=a)(k:a<=9223372036854775807)(l:0<b)(n:b<=1000000)(f:World):Calls prog 18 #[.int .i64 a,.int .i64 b] f λg i=>g=.returned (.int .i64 (eK a b))/\i=f:=by
 have m:(b:Int)≠0:=by omega
 by_cases e:a<0
 .have c:U ((eK a b:Int) = -(a+1).tmod b):=by
   show _=_;rw[<-Int.neg_tmod];unfold eK;rw[Y9 e];obtain⟨h,d⟩:=Int.eq_ofNat_of_zero_le (show 0<=-(a+1) by omega);rw[d];rfl
  go_in;go_wp2;go_ret;exact⟨by rw[c.b];rfl,rfl⟩
 .have c:U ((eK a b:Int)=a % b):=by
   show _=_;unfold eK;rw[Y2 e];obtain⟨h,d⟩:=Int.eq_ofNat_of_zero_le (show 0<=a by omega);rw[d];rfl
  go_in;go_wp2;go_ret;exact⟨by rw[c.b];rfl,rfl⟩
def qa(b:Int){a:Nat}(c:0<a):eK b a<a:=Nat.mod_lt _ c
structure jg where
 f:Int
 n:Int
 s:List UInt8
 m:Int
 ak:Int
abbrev gU(a:jg):List Value:=[.int .i64 a.f,.int .i64 a.n,.string ⟨a.s.toArray⟩,.int .i64 a.m,.int .i64 a.ak]
structure eO where
 y:List (List UInt8)
 P:List jg
 a8:List UInt8
 a:Int
 b:Int
 c:Int
 a3:List Nat
 d5:List Nat
abbrev nk(a:Nat):Value:=.pointer (some ⟨a,0,none⟩)
def eD(a:eO)(b:Int):List UInt8:=if a.y=[]then []else a.y.getD (eK b a.y.length) []
def Qj{e:World}{v:Value}{c:List (List UInt8)}{b:Nat}(f:km v c e)(h:b<c.length):∃a d,v=.slice (some ⟨a,0,none⟩) c.length d/\e.cell? ⟨a,b,none⟩=some (.string ⟨(c.getD b []).toArray⟩)/\a<e.heap.size:=by
 obtain⟨a,d,k,g,_,j⟩:=jY f (i:=b) (x:=.string ⟨(c.getD b []).toArray⟩) (by simp[h]);exact⟨a,d,k,g,j⟩
def qp{w:World}{b:Nat}{i:Value}{s:eO}{rest:List Value}(l:w.heap[b]? = some (.cells (i::rest).toArray 35))(n:km i s.y w)(a:Int)(u:-9223372036854775808<=a)(x:a<=9223372036854775807)(A:s.y.length<=1000000) :
  Calls prog 15 #[.pointer (some ⟨b,0,none⟩),.int .i64 a] w λt d=>t=.returned (.string ⟨(eD s a).toArray⟩)/\ai [] w d:=by
 have r:w.cell? ⟨b,0,none⟩=some i:=aR l rfl;have E:=aj l;by_cases c:s.y=[]
 .have e:U (eD s a=[]):=Z (by unfold eD;rw[Y9 c]);obtain⟨ad,j,rfl⟩:=bX n;have B:s.y.length=0:=by rw[c];rfl
  rw[B]at r;go_in;go_wp2;go_ret;exact⟨by rw[e.b];first|rfl|simp,ah [] w⟩
 .have m:0<s.y.length:=YM.2 c;have z:eK a s.y.length<s.y.length:=qa a m;obtain⟨k,j,rfl,F,G⟩:=Qj n z;have e:U (eD s a=s.y.getD (eK a s.y.length) []):=Z (by unfold eD;rw[Y2 c]);have q:=Z (vC a s.y.length u x m A);have J:((s.y.length:Int)==0)=false:=by simp;omega
  have H:(0:Int)<=↑(eK a s.y.length):=by omega
  have I:(↑(eK a s.y.length):Int) < ↑s.y.length:=by omega
  generalize eK a s.y.length=o at *
  generalize s.y.getD o []=C at *
  go_in;go_wp2;refine cR (λd=>d.cell? ⟨b,0,none⟩=some (.slice (some ⟨k,0,none⟩) s.y.length j)/\d.cell? ⟨k,o,none⟩=some (.string ⟨C.toArray⟩)) (L:=13) (by kernel_rfl) rfl (by kernel_rfl) (by kernel_rfl) ?_ (λy=>?_)
  .go_keep
  refine bH [0,1,2,3,4,5,6,7,8,9] ?_;iterate 10 (refine bO (v:=?_) rfl (by kernel_rfl) (λ_ _ _ f=>f) (by kernel_rfl) (by assumption) ?_ ?_;rotate_left;focus (intro w h;(try dsimp only at h);go_simp;(try with_reducible rfl));(try simp only[aK,aL,List.set]))
  refine bI ?_;refine cj 10 (by kernel_rfl) rfl λp g=>?_;(go_simp;refine(q.b _).mono ?_;rintro D K ⟨rfl,rfl⟩);refine g.out _ _ ?_ (λy=>?_)
  .go_keep
  (try simp only[aK,aL,List.set]);refine bH [11,12] ?_;iterate 2 (refine bO (v:=?_) rfl (by kernel_rfl) (λ_ _ _ f=>f) (by kernel_rfl) (by assumption) ?_ ?_;rotate_left;focus (intro w h;(try dsimp only at h);go_simp;(try with_reducible rfl));(try simp only[aK,aL,List.set]))
  refine bI ?_;refine cP (by kernel_rfl) rfl λp g=>?_;go_simp;refine g.out _ _ ?_;(try simp only[aK,aL,List.set]);go_wp2;go_ret;exact⟨by rw[e.b];rfl,(ah [] w).ae⟩
variable {c : List Th} {a f l g h : World} {e : Nat} {d i : Th}
structure aQ(c:List Th)(f a:World):Prop where
 fr:ai [] f a
 m:∀d∈c,d.At a
 E:∀d∈c,∀b,d.bb=some b->f.heap.size<=b
 b7:∀(e j:Nat) (d b:Th),e≠j->c[e]? = some d->c[j]? = some b->∀k,d.bb=some k->b.bb≠some k
def zM(a:World):aQ [] a a:=⟨ah [] a,by simp,by simp,by simp⟩
def aQ.h(b:aQ c f a)(e:ai [] a l):aQ c f l:=⟨b.fr.a e,λd g=>(b.m d g).h e (by simp),b.E,b.b7⟩
def aQ.ae(b:aQ c f a):aQ c f a.drew:=b.h (ah [] a).ae
def aQ.d(m:aQ c f a)(j:Obj):aQ (.obj a.heap.size j::c) f (a.alloc j):=by
 have n:ai [] a (a.alloc j):=(ah [] a).d j;refine⟨m.fr.a n,?_,?_,?_⟩
 .intro d b;rcases Yg.1 b with rfl|b
  .exact aJ rfl
  .exact(m.m d b).h n (by simp)
 .intro d b i g;rcases Yg.1 b with rfl|b
  .simp[Th.bb]at g;subst g;exact m.fr.F
  .exact m.E d b i g
 .intro e h d i o b g p k l;cases e with
  |zero=>
   cases h with
   |zero=>exact o rfl
   |succ h=>
    simp at b g;subst b;simp[Th.bb]at k;exact absurd ((m.m i (Yh g)).K _ l) (by omega)
  |succ e=>
   cases h with
   |zero=>
    simp at b g;subst g;simp[Th.bb]at l;exact absurd ((m.m d (Yh b)).K _ k) (by omega)
   |succ h=>exact m.b7 e h d i (by omega) (by simpa using b) (by simpa using g) p k l
def aQ.a4{x:List Nat}(j:aQ c f a)(q:c[e]? = some d)(B:ai x a l)(z:∀b∈x,d.bb=some b)(H:i.At l)(v:∀b,i.bb=some b->d.bb=some b\/a.heap.size<=b):aQ (c.set e i) f l:=by
 have w:=(YB.1 q).1;have C:=Yh q;have D:∀g∈c.set e i,g=i\/∃n,n≠e/\c[n]? = some g:=by
  intro g h;obtain⟨n,m⟩:=List.getElem?_of_mem h;rw[YP]at m;split at m
  .simp[w]at m;exact Y8 m.symm
  .rename_i k;exact Ya ⟨n,λF=>k F.symm,m⟩
 refine⟨lg j.fr B (λb p=>j.E d C b (z b p)),?_,?_,?_⟩
 .intro g h;rcases D g h with rfl|⟨n,J,m⟩
  .exact H
  .exact(j.m g (Yh m)).h B λb p I=>j.b7 n e g d J m q b p (z b I)
 .intro g h t A;rcases D g h with rfl|⟨n,_,m⟩
  .rcases v t A with k|k
   .exact j.E d C t k
   .exact Yz j.fr.F k
  .exact j.E g (Yh m) t A
 .intro n E g u s h o b p r;rw[YP]at h o;split at h
  .rename_i y;subst y;simp[w]at h;subst h;rw[Y2 s]at o;rcases v b p with k|k
   .exact j.b7 e E d u s q o b k r
   .exact absurd ((j.m u (Yh o)).K b r) (by omega)
  .split at o
   .rename_i y G;subst G;simp[w]at o;subst o;rcases v b r with k|k
    .exact j.b7 n e g d s h q b p k
    .exact absurd ((j.m g (Yh h)).K b p) (by omega)
   .exact j.b7 n E g u s h o b p r
def aQ.az(h:aQ (d::c) f a):aQ c f a:=⟨h.fr,λb g=>h.m b (Y5 _ g),λb g=>h.E b (Y5 _ g),λe k b i l g j=>h.b7 (e+1) (k+1) b i (by omega) (by simpa using g) (by simpa using j)⟩
def aQ.aH{b j:Nat}{h:Array Value}{g:TypeId}(k:aQ c f a)(i:c[e]? = some (.obj b (.cells h g)))(v:Value):aQ (c.set e (.obj b (.cells (h.set! j v) g))) f (a.setCell ⟨b,j,none⟩ v):=
 k.a4 i ((ah [b] a).O (p:=⟨b,j,none⟩) (by simp) v) (λl d=>by simp at d;rw[d];rfl) (by have:=k.m _ (Yh i);exact bu this v) (λl d=>Y8 d)
def aQ.a6{R:Nat}{b:Obj}(g:aQ c f a)(d:c[e]? = some (.obj R b)):a.heap[R]? = some b:=g.m _ (Yh d)
def aQ.a7(g:aQ c f a)(b:c[e]? = some d):d.At a:=g.m _ (Yh b)
def aQ.aN{d:TypeId}{k x i b m l:Nat}{v:Value}{y o:List Value}(w:aQ c f a)(s:c[e]? = some (.row d k v x y))(t:ai [] a g)(u:h.ownsRow 0 d k (.slice (some ⟨b,0,none⟩) i m) i o)(j:g.grownBy h v.ownBlock)(q:v.ownBlock=some b\/b=l)(z:g.heap.size=l):aQ (c.set e (.row d k (.slice (some ⟨b,0,none⟩) i m) i o)) f h:=by
 refine(w.h t).a4 s (eJ j) (λb j=>by simpa[Th.bb]using j) u ?_;intro p r;have d:p=b:=by simpa[Th.bb,dZ]using r.symm
 subst d;rcases q with n|n
 .exact Y8 n
 .right;omega
def aQ.g0{d j i:Nat}{v:Value}{b:List (List UInt8)}{k:List UInt8}(r:aQ c f a)(o:c[e]? = some (bD v b))(p:ai [] a g)(q:h.ownsRow 0 9 1 (.slice (some ⟨d,0,none⟩) (b.length+1) j) (b.length+1) ((b.map λs=>Value.string ⟨s.toArray⟩)++[.string ⟨k.toArray⟩]))(n:g.grownBy h v.ownBlock)(m:v.ownBlock=some d\/d=i)(l:g.heap.size=i):aQ (c.set e (bD (.slice (some ⟨d,0,none⟩) (b.length+1) j) (b++[k]))) f h:=by
 have:=r.aN o p q n m l;simpa[bD]using this
variable {e l : World} {d : Nat} {s : eO} {h k g f : Value} {R : List Th}
structure cU where
 f:Int
 x:Int
 a:Int
 b:Int
 c:Int
 s:List UInt8
abbrev cz(d:cU):Array Value:=#[.int .i64 d.f,.int .i64 d.x,.int .i64 d.a,.int .i64 d.b,.int .i64 d.c,.string ⟨d.s.toArray⟩]
abbrev Sf(d:Nat)(s:eO)(h k g f:Value):Th:=.obj d (.cells #[h,k,.string ⟨s.a8.toArray⟩,.int .i64 s.a,.int .i64 s.b,.int .i64 s.c,g,f] 35)
abbrev iB(v:Value)(a:List jg):Th:=.row 52 5 v a.length (a.flatMap gU)
abbrev oF(b:TypeId)(v:Value)(a:List Nat):Th:=.row b 1 v a.length (a.map nk)
abbrev wL(d:Nat)(s:eO)(h k g f:Value)(R:List Th):List Th:=Sf d s h k g f::bD h s.y::iB k s.P::oF 37 g s.a3::oF 48 f s.d5::R
def QX(C:aQ (wL d s h k g f R) l e)(b:cU)(P:b.f=1)(S:s.y.length<=100000):Calls prog 24 #[.pointer (some ⟨d,0,none⟩),.agg (cz b)] e λE N=>E=.returned (.bool true)/\∃M,aQ (wL d { s with y:=s.y++[b.s] } M k g f R) l N:=by
 have n:=Z (C.d (.cells (cz b) 27));obtain⟨gQ,m,rfl⟩:=bX (C.a7 (i:=1) (a:=bD h s.y) rfl);obtain⟨G,H,I,J,K⟩:=info_parts pI;have L:(Value.string ⟨#[]⟩).cells.size=1:=rfl;go_in;have c:=n.b.a6 (i:=1) (R:=d) rfl;have q:(e.alloc (.cells (cz b) 27)).cell? ⟨d,0,none⟩=some (.slice gQ s.y.length m):=aR c rfl;have r:=cF c;have u:=aj c;have A:U (∀o,((e.alloc (.cells (cz b) 27)).alloc o).ownsRow 0 9 1 (.slice gQ s.y.length m) s.y.length (s.y.map λs=>Value.string ⟨s.toArray⟩)):=Z (λo=>aX (n.b.a7 (i:=2) (a:=bD (.slice gQ s.y.length m) s.y) rfl) ((ah [] (e.alloc (.cells (cz b) 27))).d o) (by simp));have z:s.y.length+1<=maxLen:=by unfold maxLen;omega
 go_wp2_with (at_builtin;(refine wpList_append_lies _ (by rfl) _ _ _ (by rfl) 0 9 G _ 1 16 underlying30 H I J K L (by omega) (.slice gQ s.y.length m) s.y.length (s.y.map λs=>Value.string ⟨s.toArray⟩) (by rfl) (A.b _) ⟨e.heap.size+1,0,none⟩ 1 1 [.string ⟨(b.s).toArray⟩] (by rfl) (by rfl) (World.news_of_block (cs:=#[.string ⟨(b.s).toArray⟩]) (t:=9) (fr:=(0,0)) (aJ (by simp))) (by simp[Value.oneCell']) (by omega) z (by omega) (by simp) (e.heap.size+2) (by simp) ?_;intro w v O B y x F;have p:=Z (n.b.g0 (i:=2) rfl ((ah [] (e.alloc (.cells (cz b) 27))).d _) B y x (by simp));clear B y x F A z q r u;have c:=p.b.a6 (i:=1) (R:=d) rfl;have q:O.cell? ⟨d,0,none⟩=some (.slice gQ s.y.length m):=aR c rfl;have r:=cF c;have u:=aj c;clear c));go_wp2;go_ret;have D:=(p.b.aH (i:=1) (j:=0) rfl (.slice (some ⟨w,0,none⟩) (s.y.length+1) v)).az;exact⟨rfl,.slice (some ⟨w,0,none⟩) (s.y.length+1) v,by simpa using D⟩
variable {w h : World} {d : Nat} {s : eO} {k g f e : Value} {R : List Th}
def QW(m:aQ (wL d s k g f e R) h w)(a:cU)(i:a.f≠1)(j:a.f≠2)(l:a.f≠3):Calls prog 24 #[.pointer (some ⟨d,0,none⟩),.agg (cz a)] w λc n=>c=.returned (.bool false)/\aQ (wL d s k g f e R) h n:=by
 have b:=Z (m.d (.cells (cz a) 27));have o:(a.f==1)=false:=by simpa using i
 have p:(a.f==2)=false:=by simpa using j
 have q:(a.f==3)=false:=by simpa using l
 go_in;go_wp2;go_ret;exact⟨rfl,b.b.az⟩
def uM(s:eO)(c:cU):eO:=if(eD s c.a).length+(eD s c.b).length > 65536 then s else { s with y:=s.y++[eD s c.a++eD s c.b] }
abbrev il(d:cU):Prop:=(-9223372036854775808<=d.x/\d.x<=9223372036854775807)/\(-9223372036854775808<=d.a/\d.a<=9223372036854775807)/\(-9223372036854775808<=d.b/\d.b<=9223372036854775807)/\(-9223372036854775808<=d.c/\d.c<=9223372036854775807)
def QV(a1:aQ (wL d s k g f e R) h w)(c:cU)(b0:il c)(u:c.f=3)(c7:s.y.length<=100000)(b3:∀o∈s.y,o.length<=1000000):Calls prog 24 #[.pointer (some ⟨d,0,none⟩),.agg (cz c)] w λa8 B=>a8=.returned (.bool true)/\∃c2,aQ (wL d (uM s c) c2 g f e R) h B:=by
 have x:=Z (a1.d (.cells (cz c) 27));obtain⟨gQ,l,rfl⟩:=bX (a1.a7 (i:=1) (a:=bD k s.y) rfl);have a0:∀z,(eD s z).length<=1000000:=λz=>by
  unfold eD;split
  .simp
  .rename_i a9;have u:=qa z (YM.2 a9);exact b3 _ (by simp[u])
 have c8:=a0 c.a;have c9:=a0 c.b;obtain⟨-,J,L,-⟩:=b0;obtain⟨b6,b7,b8,b9,c0⟩:=info_parts pI;have c1:(Value.string ⟨#[]⟩).cells.size=1:=rfl;have c5:(c.f==1)=false:=by rw[u];rfl
 have c6:(c.f==2)=false:=by rw[u];rfl
 have a4:=Z (qp (w:=w.alloc (.cells (cz c) 27)) (s:=s) (x.b.a6 (i:=1) (R:=d) rfl) (x.b.a7 (i:=2) (a:=bD (.slice gQ s.y.length l) s.y) rfl) c.a J.1 J.2 (by omega));have a5:U (∀v,aQ (.obj w.heap.size (.cells (cz c) 27)::wL d s (.slice gQ s.y.length l) g f e R) h v->Calls prog 15 #[.pointer (some ⟨d,0,none⟩),.int .i64 c.b] v λA B=>A=.returned (.string ⟨(eD s c.b).toArray⟩)/\ai [] v B):=Z (λv a2=>qp (s:=s) (a2.a6 (i:=1) (R:=d) rfl) (a2.a7 (i:=2) (a:=bD (.slice gQ s.y.length l) s.y) rfl) c.b L.1 L.2 (by omega));have C:U (uM s c=if(eD s c.a).length+(eD s c.b).length > 65536 then s else { s with y:=s.y++[eD s c.a++eD s c.b] }):=Z rfl
 generalize eD s c.a=p at *
 generalize eD s c.b=q at *
 go_in;go_wp2_with fail;refine a4.b.mono ?_;rintro A c3 ⟨rfl,b4⟩;have y:=Z (x.b.h b4);generalize w.heap.size=a7 at *
 obtain⟨d0,d1,d2,d3,d4,d5,of,d6⟩:=dX (y.b.a6 (i:=0) (R:=a7) rfl);have a6:=Z (a5.b c3 y.b);go_wp2_with fail;refine a6.b.mono ?_;rintro A n ⟨rfl,b5⟩;have r:=Z (y.b.h b5);by_cases M:p.length+q.length > 65536
 .have b1:(65536:Int) < ↑p.length+↑q.length:=by omega
  go_wp2;go_ret;rw[C.b,Y9 M];exact⟨rfl,_,r.b.az⟩
 .have b1:¬(65536:Int) < ↑p.length+↑q.length:=by omega
  have m:=r.b.a6 (i:=1) (R:=d) rfl;have E:n.cell? ⟨d,0,none⟩=some (.slice gQ s.y.length l):=aR m rfl;have F:=cF m;have G:=aj m;have P:U (∀o,(n.alloc o).ownsRow 0 9 1 (.slice gQ s.y.length l) s.y.length (s.y.map λs=>Value.string ⟨s.toArray⟩)):=Z (λo=>aX (r.b.a7 (i:=2) (a:=bD (.slice gQ s.y.length l) s.y) rfl) ((ah [] n).d o) (by simp));have O:s.y.length+1<=maxLen:=by unfold maxLen;omega
  go_wp2_with (at_builtin;(refine wpList_append_lies _ (by rfl) _ _ _ (by rfl) 0 9 b6 _ 1 16 underlying30 b7 b8 b9 c0 c1 (by omega) (.slice gQ s.y.length l) s.y.length (s.y.map λs=>Value.string ⟨s.toArray⟩) (by rfl) (P.b _) ⟨n.heap.size,0,none⟩ 1 1 [.string ⟨(p++q).toArray⟩] (by rfl) (by rfl) (World.news_of_block (cs:=#[.string ⟨(p++q).toArray⟩]) (t:=9) (fr:=(0,0)) (heap_alloc_new n _)) (by simp[Value.oneCell']) (by omega) O (by omega) (by simp) (n.heap.size+1) (by simp) ?_;intro I H c4 S N K b2;have D:=Z (r.b.g0 (i:=2) rfl ((ah [] n).d _) S N K (by simp));clear S N K b2 P O E F G;have m:=D.b.a6 (i:=1) (R:=d) rfl;have E:c4.cell? ⟨d,0,none⟩=some (.slice gQ s.y.length l):=aR m rfl;have F:=cF m;have G:=aj m;clear m));go_wp2;go_ret;have a3:=(D.b.aH (i:=1) (j:=0) rfl (.slice (some ⟨I,0,none⟩) (s.y.length+1) H)).az;rw[C.b,Y2 M];exact⟨rfl,.slice (some ⟨I,0,none⟩) (s.y.length+1) H,by simpa using a3⟩
variable {w j : World} {d : Nat} {s : eO} {g h f e : Value} {R : List Th}
def Bg(w:World)(a:TypeId)(c:ByteArray):ai [] w (Lib.bytesWorld w a c):=by
 have b:=((ah [] w).ae).d (.cells (Lib.bytesCells w a c) a);refine⟨b.os,b.c2,b.c1,by rw[Lib.bytesWorld_size];omega,λe d _=>Lib.bytesWorld_at_old w a c e d⟩
def oH(a:List UInt8)(b c:Int):List UInt8:=if a=[]then []else a.set (eK b a.length) (UInt8.ofNat (c % 256).toNat)
def QY(J:aQ (wL d s g h f e R) j w)(k:cU)(O:il k)(a3:k.f=2)(c2:s.y.length<=100000)(N:eD s k.a=[]):Calls prog 24 #[.pointer (some ⟨d,0,none⟩),.agg (cz k)] w λM b4=>M=.returned (.bool true)/\∃b3,aQ (wL d { s with y:=s.y++[[]] } b3 h f e R) j b4:=by
 have n:=Z (J.d (.cells (cz k) 27));obtain⟨gQ,m,rfl⟩:=bX (J.a7 (i:=1) (a:=bD g s.y) rfl);obtain⟨-,D,b8,-⟩:=O;have b7:(k.f==1)=false:=by rw[a3];rfl
 have v:=Z (qp (w:=w.alloc (.cells (cz k) 27)) (s:=s) (n.b.a6 (i:=1) (R:=d) rfl) (n.b.a7 (i:=2) (a:=bD (.slice gQ s.y.length m) s.y) rfl) k.a D.1 D.2 (by omega));rw[N]at v;obtain⟨a7,a8,a9,b0,b1⟩:=info_parts pI;have b2:(Value.string ⟨#[]⟩).cells.size=1:=rfl;go_in;go_wp2_with fail;refine v.b.mono ?_;rintro b6 b ⟨rfl,a6⟩;have q:=Z (n.b.h a6);generalize w.heap.size=L at *
 obtain⟨c3,c4,c5,c6,c7,c8,of,c9⟩:=dX (q.b.a6 (i:=0) (R:=L) rfl);have a0:=Lib.run_convert_string_bytes (P:=prog) b 9 97 5 ⟨#[]⟩ (u:=.string) (by kernel_rfl) (by kernel_rfl) (by kernel_rfl);have S:=run_convert_bytes_back (Lib.bytesWorld b 5 ⟨#[]⟩) 97 9 5 ⟨b.heap.size,0,none⟩ (grownCap b 0 0 5) [] underlying97 underlying5 underlying9 (λa5 a2=>by simp at a2);have o:=Z (q.b.h (Bg b 5 ⟨#[]⟩));generalize a1:grownCap b 0 0 5=C at *
 generalize b9:Lib.bytesWorld b 5 ⟨#[]⟩=c at *
 have c1:(convert 9 97 (.string ⟨#[]⟩)).run prog b=.ok (.slice (some ⟨b.heap.size,0,none⟩) 0 C) c:=by rw[<-a1];exact a0
 have c0:(convert 97 9 (.slice (some ⟨b.heap.size,0,none⟩) 0 C)).run prog c=.ok (.string ⟨#[]⟩) c:=S;have l:=o.b.a6 (i:=1) (R:=d) rfl;have x:c.cell? ⟨d,0,none⟩=some (.slice gQ s.y.length m):=aR l rfl;have y:=cF l;have z:=aj l;have H:U (∀p,(c.alloc p).ownsRow 0 9 1 (.slice gQ s.y.length m) s.y.length (s.y.map λs=>Value.string ⟨s.toArray⟩)):=Z (λp=>aX (o.b.a7 (i:=2) (a:=bD (.slice gQ s.y.length m) s.y) rfl) ((ah [] c).d p) (by simp));have G:s.y.length+1<=maxLen:=by unfold maxLen;omega
 go_wp2_with (at_builtin;(refine wpList_append_lies _ (by rfl) _ _ _ (by rfl) 0 9 a7 _ 1 16 underlying30 a8 a9 b0 b1 b2 (by omega) (.slice gQ s.y.length m) s.y.length (s.y.map λs=>Value.string ⟨s.toArray⟩) (by rfl) (H.b _) ⟨c.heap.size,0,none⟩ 1 1 [.string ⟨(([]:List UInt8)).toArray⟩] (by rfl) (by rfl) (World.news_of_block (cs:=#[.string ⟨(([]:List UInt8)).toArray⟩]) (t:=9) (fr:=(0,0)) (heap_alloc_new c _)) (by simp[Value.oneCell']) (by omega) G (by omega) (by simp) (c.heap.size+1) (by simp) ?_;intro B A b5 I F E a4;have r:=Z (o.b.g0 (i:=2) rfl ((ah [] c).d _) I F E (by simp));clear I F E a4 H G x y z;have l:=r.b.a6 (i:=1) (R:=d) rfl;have x:b5.cell? ⟨d,0,none⟩=some (.slice gQ s.y.length m):=aR l rfl;have y:=cF l;have z:=aj l;clear l));go_wp2;go_ret;have K:=(r.b.aH (i:=1) (j:=0) rfl (.slice (some ⟨B,0,none⟩) (s.y.length+1) A)).az;exact⟨rfl,.slice (some ⟨B,0,none⟩) (s.y.length+1) A,by simpa using K⟩
def QZ(c0:aQ (wL d s g h f e R) j w)(n:cU)(c9:il n)(d2:n.f=2)(g1:s.y.length<=100000){k:List UInt8}(d7:eD s n.a=k)(a8:k≠[])(d8:k.length<=1000000):Calls prog 24 #[.pointer (some ⟨d,0,none⟩),.agg (cz n)] w λa5 C=>a5=.returned (.bool true)/\∃f1,aQ (wL d { s with y:=s.y++[oH k n.b n.c] } f1 h f e R) j C:=by
 have E:=Z (c0.d (.cells (cz n) 27));obtain⟨gQ,A,rfl⟩:=bX (c0.a7 (i:=1) (a:=bD g s.y) rfl);obtain⟨-,a9,b1,f5⟩:=c9;have f3:(n.f==1)=false:=by rw[d2];rfl
 have O:=Z (qp (w:=w.alloc (.cells (cz n) 27)) (s:=s) (E.b.a6 (i:=1) (R:=d) rfl) (E.b.a7 (i:=2) (a:=bD (.slice gQ s.y.length A) s.y) rfl) n.a a9.1 a9.2 (by omega));rw[d7]at O;have b9:0<k.length:=YM.2 a8;have d3:eK n.b k.length<k.length:=qa n.b b9;have c8:=Z (vC n.b k.length b1.1 b1.2 b9 d8);have c4:U (oH k n.b n.c=k.set (eK n.b k.length) (UInt8.ofNat (n.c % 256).toNat)):=Z (by unfold oH;rw[Y2 a8]);have f9:(0:Int)<=↑(eK n.b k.length):=by omega
 have g0:(↑(eK n.b k.length):Int) < ↑k.length:=by omega
 have f8:(0:Int) < ↑k.length:=by omega
 generalize eK n.b k.length=o at *
 obtain⟨e5,e6,e7,e8,e9⟩:=info_parts pI;have f0:(Value.string ⟨#[]⟩).cells.size=1:=rfl;go_in;go_wp2_with fail;refine O.b.mono ?_;rintro a4 l ⟨rfl,d9⟩;have F:=Z (E.b.h d9);generalize w.heap.size=B at *
 obtain⟨e0,e1,e2,c1,c2,e3,of,e4⟩:=dX (F.b.a6 (i:=0) (R:=B) rfl);have f7:(convert 9 97 (.string ⟨k.toArray⟩)).run prog l=.ok (.slice (some ⟨l.heap.size,0,none⟩) k.length (grownCap l k.length 0 5)) (Lib.bytesWorld l 5 ⟨k.toArray⟩):=Lib.run_convert_string_bytes (P:=prog) l 9 97 5 ⟨k.toArray⟩ (u:=.string) (by kernel_rfl) (by kernel_rfl) (by kernel_rfl);have D:=Z (Bg l 5 ⟨k.toArray⟩);have M:U (∀m,m<k.length->(Lib.bytesWorld l 5 ⟨k.toArray⟩).cell? ⟨l.heap.size,m,none⟩=some (.int .u8 (k.getD m 0).toNat)):=Z (λm x=>Lib.bytesWorld_cell l 5 ⟨k.toArray⟩ m x);have g3:=ob c1 D.b;have g4:=ob c2 D.b;have a3:=M.b o d3;have f4:(Lib.bytesWorld l 5 ⟨k.toArray⟩).frozen? ⟨l.heap.size,o,none⟩=false:=by
  have b6:=Lib.bytesWorld_at_new l 5 ⟨k.toArray⟩;have g2:o<(Lib.bytesCells l 5 ⟨k.toArray⟩).size:=by
   rcases Yj o (Lib.bytesCells l 5 ⟨k.toArray⟩).size with q|q
   .exact q
   .simp[World.cell?,b6,YO q]at a3
  simp[World.frozen?,b6];omega
 generalize grownCap l k.length 0 5=a7 at *
 generalize Lib.bytesWorld l 5 ⟨k.toArray⟩=z at *
 obtain⟨e0,e1,e2,c1,c2,e3,of,e4⟩:=dX (F.b.a6 (i:=0) (R:=B) rfl);go_wp2;refine cR (λC=>C.cell? ⟨B,3,none⟩=some (.int .i64 n.b)/\C.cell? ⟨B,4,none⟩=some (.int .i64 n.c)) (L:=10) (by kernel_rfl) rfl (by kernel_rfl) (by kernel_rfl) ?_ (λd0=>?_)
 .go_keep
 refine bH [0,1,2,3,4,6,7,8] ?_;iterate 8 (refine bO (v:=?_) rfl (by kernel_rfl) (λ_ _ _ H=>H) (by kernel_rfl) (by assumption) ?_ ?_;rotate_left;focus (intro w K;(try dsimp only at K);go_simp;(try with_reducible rfl));(try simp only[aK,aL,List.set]))
 refine bI ?_;refine cj 5 (by kernel_rfl) rfl λc5 J=>?_;(go_simp;refine(c8.b _).mono ?_;rintro a5 g5 ⟨rfl,rfl⟩);refine J.out _ _ ?_ (λd0=>?_)
 .go_keep
 (try simp only[aK,aL,List.set]);refine tk (i:=9) (v:=?_) rfl (by kernel_rfl) (λ_ _ _ H=>H) (by kernel_rfl) (by assumption) ?_ ?_;rotate_left
 .intro w K;(try dsimp only at K);go_simp;(try with_reducible rfl)
 (try simp only[aK,aL,List.set]);refine cP (by kernel_rfl) rfl λc5 J=>?_;go_simp;refine J.out _ _ ?_;(try simp only[aK,aL,List.set]);have d6:IntKind.wrap .u8 n.c=((UInt8.ofNat (n.c % 256).toNat).toNat:Int):=by
  rw[IntKind.wrap_u8];have q:(n.c % 256).toNat<256:=by omega
  simp;omega
 rw[d6];generalize UInt8.ofNat (n.c % 256).toNat=v at *
 have d5:∀m,m<k.length->((z.setCell ⟨l.heap.size,o,none⟩ (.int .u8 (v.toNat:Int))).drew).cell? ⟨l.heap.size,m,none⟩=some (.int .u8 ((k.set o v).getD m 0).toNat):=by
  intro m x;by_cases b3:m=o
  .subst b3;have q:(z.setCell ⟨l.heap.size,m,none⟩ (.int .u8 (v.toNat:Int))).cell? ⟨l.heap.size,m,none⟩=some (.int .u8 (v.toNat:Int)):=World.cell?_setCell_same _ _ _ a3;have I:(k.set m v).getD m 0=v:=by simp[x]
   rw[I];exact q
  .have b4:¬o=m:=λa4=>b3 a4.symm;have q:(z.setCell ⟨l.heap.size,o,none⟩ (.int .u8 (v.toNat:Int))).cell? ⟨l.heap.size,m,none⟩=z.cell? ⟨l.heap.size,m,none⟩:=World.cell?_setCell_other _ _ _ _ (by simp[b4]);have I:(k.set o v).getD m 0=k.getD m 0:=by simp[b4]
   rw[I];exact q.trans (M.b m x)
 have c6:ai [] l (z.setCell ⟨l.heap.size,o,none⟩ (.int .u8 (v.toNat:Int))).drew:=(lg D.b ((ah [l.heap.size] z).O (p:=⟨l.heap.size,o,none⟩) (by simp) _) (by simp)).ae;have G:=Z (F.b.h c6);generalize (z.setCell ⟨l.heap.size,o,none⟩ (.int .u8 (v.toNat:Int))).drew=r at *
 have f6:(convert 97 9 (.slice (some ⟨l.heap.size,0,none⟩) k.length a7)).run prog r=.ok (.string ⟨(k.set o v).toArray⟩) r:=by
  have q:=run_convert_bytes_back r 97 9 5 ⟨l.heap.size,0,none⟩ a7 (k.set o v) underlying97 underlying5 underlying9 (λm x=>by
   have d1:(⟨l.heap.size,0,none⟩:Addr).add m=⟨l.heap.size,m,none⟩:=by unfold Addr.add;split<;>simp_all
   rw[d1,d5 m (by simpa using x)];simp at x;simp[x])
  rw[YF]at q;exact q
 generalize k.set o v=c3 at *
 have y:=G.b.a6 (i:=1) (R:=d) rfl;have S:r.cell? ⟨d,0,none⟩=some (.slice gQ s.y.length A):=aR y rfl;have a0:=cF y;have a1:=aj y;have b7:U (∀k,(r.alloc k).ownsRow 0 9 1 (.slice gQ s.y.length A) s.y.length (s.y.map λs=>Value.string ⟨s.toArray⟩)):=Z (λk=>aX (G.b.a7 (i:=2) (a:=bD (.slice gQ s.y.length A) s.y) rfl) ((ah [] r).d k) (by simp));have b5:s.y.length+1<=maxLen:=by unfold maxLen;omega
 go_wp2_with (at_builtin;(refine wpList_append_lies _ (by rfl) _ _ _ (by rfl) 0 9 e5 _ 1 16 underlying30 e6 e7 e8 e9 f0 (by omega) (.slice gQ s.y.length A) s.y.length (s.y.map λs=>Value.string ⟨s.toArray⟩) (by rfl) (b7.b _) ⟨r.heap.size,0,none⟩ 1 1 [.string ⟨(c3).toArray⟩] (by rfl) (by rfl) (World.news_of_block (cs:=#[.string ⟨(c3).toArray⟩]) (t:=9) (fr:=(0,0)) (heap_alloc_new r _)) (by simp[Value.oneCell']) (by omega) b5 (by omega) (by simp) (r.heap.size+1) (by simp) ?_;intro a6 a2 f2 b8 b2 b0 d4;have N:=Z (G.b.g0 (i:=2) rfl ((ah [] r).d _) b8 b2 b0 (by simp));clear b8 b2 b0 d4 b7 b5 S a0 a1;have y:=N.b.a6 (i:=1) (R:=d) rfl;have S:f2.cell? ⟨d,0,none⟩=some (.slice gQ s.y.length A):=aR y rfl;have a0:=cF y;have a1:=aj y;clear y));go_wp2;go_ret;have c7:=(N.b.aH (i:=1) (j:=0) rfl (.slice (some ⟨a6,0,none⟩) (s.y.length+1) a2)).az;rw[c4.b];exact⟨rfl,.slice (some ⟨a6,0,none⟩) (s.y.length+1) a2,by simpa using c7⟩
variable {f l : World} {e : Nat} {d : eO} {m k h g : Value} {R : List Th}
def mx(d:eO)(e:cU):Option eO:=
 if e.f=1 then some { d with y:=d.y++[e.s] }
 else if e.f=2 then some { d with y:=d.y++[oH (eD d e.a) e.b e.c] }
 else if e.f=3 then some (uM d e)
 else none
def qH(d:eO)(e:Nat)(k h g:Value)(R:List Th)(l:World)(f:Option eO)(b:Ending)(c:World):Prop:=match f with
 |some i=>b=.returned (.bool true)/\∃a,aQ (wL e i a k h g R) l c
 |none=>b=.returned (.bool false)/\∃a,aQ (wL e d a k h g R) l c
def QM(e:∀f∈d.y,f.length<=1000000)(a:Int):(eD d a).length<=1000000:=by
 unfold eD;split
 .simp
 .rename_i b;have c:=qa a (YM.2 b);exact e _ (by simp[c])
def QU(n:aQ (wL e d m k h g R) l f)(i:cU)(r:il i)(q:d.y.length<=100000)(t:∀v∈d.y,v.length<=1000000):Calls prog 24 #[.pointer (some ⟨e,0,none⟩),.agg (cz i)] f (qH d e k h g R l (mx d i)):=by
 unfold mx;by_cases o:i.f=1
 .rw[Y9 o];exact QX n i o q
 .rw[Y2 o];by_cases j:i.f=2
  .rw[Y9 j];by_cases s:eD d i.a=[]
   .have:oH (eD d i.a) i.b i.c=[]:=by unfold oH;rw[Y9 s]
    rw[this];exact QY n i r j q s
   .exact QZ n i r j q rfl s (QM t i.a)
  .rw[Y2 j];by_cases p:i.f=3
   .rw[Y9 p];exact QV n i r p q t
   .rw[Y2 p];refine(QW n i o j p).mono ?_;rintro w x ⟨rfl,u⟩;exact⟨rfl,m,u⟩
def Mm(q:aQ (wL e d m k h g R) l f)(n:cU)(p:n.f=7):Calls prog 14 #[.pointer (some ⟨e,0,none⟩),.agg (cz n)] f λt u=>t=.returned (.bool true)/\aQ (wL e { d with a:=n.a,b:=n.b,c:=n.c } m k h g R) l u:=by
 have r:=Z q;have o:=q.a6 (i:=0) (R:=e) rfl;have v:f.cell? ⟨e,3,none⟩=some (.int .i64 d.a):=aR o rfl;have w:f.cell? ⟨e,4,none⟩=some (.int .i64 d.b):=aR o rfl;have x:f.cell? ⟨e,5,none⟩=some (.int .i64 d.c):=aR o rfl;have y:=cF o;have z:=aj o;have A:(n.f==4)=false:=by rw[p];rfl
 have B:(n.f==5)=false:=by rw[p];rfl
 have C:(n.f==6)=false:=by rw[p];rfl
 go_in;go_wp2;go_ret;have s:=((((r.b.aH (i:=0) (j:=3) rfl (.int .i64 n.a)).aH (i:=0) (j:=4) rfl (.int .i64 n.b)).aH (i:=0) (j:=5) rfl (.int .i64 n.c)).d (.cells (cz n) 27)).az;exact⟨rfl,s⟩
def Mn(n:aQ (wL e d m k h g R) l f)(a:cU)(b:a.f=8):Calls prog 14 #[.pointer (some ⟨e,0,none⟩),.agg (cz a)] f λq r=>q=.returned (.bool true)/\aQ (wL e { d with a8:=a.s } m k h g R) l r:=by
 have o:=Z n;have c:=n.a6 (i:=0) (R:=e) rfl;have s:f.cell? ⟨e,2,none⟩=some (.string ⟨d.a8.toArray⟩):=aR c rfl;have t:=cF c;have u:=aj c;have v:(a.f==4)=false:=by rw[b];rfl
 have w:(a.f==5)=false:=by rw[b];rfl
 have x:(a.f==6)=false:=by rw[b];rfl
 have y:(a.f==7)=false:=by rw[b];rfl
 go_in;go_wp2;go_ret;have p:=((o.b.aH (i:=0) (j:=2) rfl (.string ⟨a.s.toArray⟩)).d (.cells (cz a) 27)).az;exact⟨rfl,p⟩
variable {c g : World} {a : Nat} {b : eO} {h f e d : Value} {R : List Th}
def Mp(n:aQ (wL a b h f e d R) g c)(k:cU)(m:k.f=6):Calls prog 14 #[.pointer (some ⟨a,0,none⟩),.agg (cz k)] c λr t=>r=.returned (.bool true)/\aQ (wL a { b with P:=[] } h (.slice none 0 0) e d R) g t:=by
 have o:=Z n;have l:=n.a6 (i:=0) (R:=a) rfl;have u:c.cell? ⟨a,1,none⟩=some f:=aR l rfl;have v:=cF l;have w:=aj l;have x:(k.f==4)=false:=by rw[m];rfl
 have y:(k.f==5)=false:=by rw[m];rfl
 go_in;go_wp2;go_ret;have p:=((o.b.aH (i:=0) (j:=1) rfl (.slice none 0 0)).d (.cells (cz k) 27)).az;have q:=p.a4 (i:=2) (a':=iB (.slice none 0 0) []) rfl (ah [] _) (by simp) ⟨rfl,Y8 ⟨rfl,rfl⟩⟩ (λz s=>by simp[Th.bb,Value.ownBlock]at s);exact⟨rfl,q⟩
def Mr(x:aQ (wL a b h f e d R) g c)(i:cU)(s:il i)(v:b.y.length<=100000)(w:∀y∈b.y,y.length<=1000000)(p:i.f≠4)(q:i.f≠5)(r:i.f≠6)(t:i.f≠7)(u:i.f≠8):Calls prog 14 #[.pointer (some ⟨a,0,none⟩),.agg (cz i)] c (qH b a f e d R g (mx b i)):=by
 have o:=Z (QU ((x.d (.cells (cz i) 27)).az) i s v w);have z:(i.f==4)=false:=by simpa using p
 have A:(i.f==5)=false:=by simpa using q
 have B:(i.f==6)=false:=by simpa using r
 have C:(i.f==7)=false:=by simpa using t
 have D:(i.f==8)=false:=by simpa using u
 go_in;go_wp2_with fail;refine o.b.mono ?_;intro E G j;unfold qH at j;cases k:mx b i with
 |some F=>
  rw[k]at j;obtain⟨rfl,n⟩:=j;have l:=Z n;have m:=Z k;go_wp2;go_ret;unfold qH;rw[m.b];exact⟨rfl,l.b⟩
 |none=>
  rw[k]at j;obtain⟨rfl,n⟩:=j;have l:=Z n;have m:=Z k;go_wp2;go_ret;unfold qH;rw[m.b];exact⟨rfl,l.b⟩
variable {w l : World} {e : Nat} {d : eO} {h k g f : Value} {R : List Th}
def AY:(prog.info? 52).map (λa=>(a.zero,a.size,a.bytes))=some (some (.agg #[.int .i64 0,.int .i64 0,.string ⟨#[]⟩,.int .i64 0,.int .i64 0]),5,48):=by kernel_rfl
def Mo(A:aQ (wL e d h k g f R) l w)(m:cU)(b7:m.f=4)(b8:d.P.length<=100000):Calls prog 14 #[.pointer (some ⟨e,0,none⟩),.agg (cz m)] w λM q=>M=.returned (.bool true)/\∃a7,aQ (wL e { d with P:=d.P++[⟨m.a,m.b,m.s,0,m.c⟩] } h a7 g f R) l q:=by
 have u:=Z (A.d (.cells (cz m) 27));obtain⟨gQ,p,rfl⟩:=bX (A.a7 (i:=2) (a:=iB k d.P) rfl);obtain⟨a6,N,a2,a3,a4⟩:=info_parts AY;have O:d.P.length+1<=maxLen:=by unfold maxLen;omega
 have P:(d.P.length+1)*48<=140737488355328:=by omega
 have a5:(Value.agg #[.int .i64 0,.int .i64 0,.string ⟨#[]⟩,.int .i64 0,.int .i64 0]).cells.size=5:=by decide
 have a0:∀o∈gU ⟨m.a,m.b,m.s,0,m.c⟩,o.oneCell'=true:=by
  intro o J;simp[gU]at J;rcases J with rfl|rfl|rfl|rfl|rfl<;>rfl
 have n:=A.a6 (i:=0) (R:=e) rfl;have b0:w.cell? ⟨e,1,none⟩=some (.slice gQ d.P.length p):=aR n rfl;have b1:=cF n;have b2:=aj n;go_in;go_wp2;generalize b6:w.heap.size=r at *
 generalize w.alloc (.cells (cz m) 27)=o at *
 obtain⟨b9,c0,c1,c2,c3,c4,of,c5⟩:=dX (u.b.a6 (i:=0) (R:=r) rfl);have n:=u.b.a6 (i:=1) (R:=e) rfl;have b3:o.cell? ⟨e,1,none⟩=some (.slice gQ d.P.length p):=aR n rfl;have b4:=cF n;have b5:=aj n;have a1:U (o.ownsRow 0 52 5 (.slice gQ d.P.length p) d.P.length (d.P.flatMap gU)):=Z (u.b.a7 (i:=3) (a:=iB (.slice gQ d.P.length p) d.P) rfl);have B:=Z (λa9=>(((ah [] o).d a9).ae));refine cR (λq=>q.cell? ⟨e,1,none⟩=some (.slice gQ d.P.length p)/\q.cell? ⟨r,2,none⟩=some (.int .i64 m.a)/\q.cell? ⟨r,3,none⟩=some (.int .i64 m.b)/\q.cell? ⟨r,4,none⟩=some (.int .i64 m.c)/\q.cell? ⟨r,5,none⟩=some (.string ⟨m.s.toArray⟩)) (L:=18) (by kernel_rfl) rfl (by kernel_rfl) (by kernel_rfl) ?_ (λF=>?_)
 .go_keep
 refine bH [0,1,2,3,4,5,6,7,8,9,10,11,12,13] ?_;iterate 14 (refine bO (v:=?_) rfl (by kernel_rfl) (λ_ _ _ y=>y) (by kernel_rfl) (by assumption) ?_ ?_;rotate_left;focus (intro w z;(try dsimp only at z);go_simp;(try with_reducible rfl));(try simp only[aK,aL,List.set]))
 refine bI ?_;refine cj 14 (by kernel_rfl) rfl λC s=>?_;go_simp;refine s.out _ _ ?_ (λF=>?_)
 .go_keep
 (try simp only[aK,aL,List.set]);refine cj 15 (by kernel_rfl) rfl λC s=>?_;(refine step_append_lies _ (by rfl) _ _ _ (by rfl) 0 52 a6 _ 5 48 underlying31 N a2 a3 a4 a5 (by omega) (.slice gQ d.P.length p) d.P.length (d.P.flatMap gU) (by rfl) (aX a1.b (B.b _) (by simp)) ⟨o.heap.size,0,none⟩ 1 1 (gU ⟨m.a,m.b,m.s,0,m.c⟩) (by rfl) (by rfl) (World.news_of_block (cs:=(gU ⟨m.a,m.b,m.s,0,m.c⟩).toArray) (t:=52) (fr:=(0,0)) (aJ (w:=o) (by simp))) a0 (by omega) O P (by omega) (o.heap.size+1) (by simp) ?_;intro E D a8 I H G S;have x:=Z (u.b.aN (i:=3) rfl (B.b _) I H G (by simp));obtain⟨c9,d0,d1,d2,d3,d4,d5,d6⟩:=dX (x.b.a6 (i:=0) (R:=r) rfl);have n:=x.b.a6 (i:=1) (R:=e) rfl;have c6:a8.cell? ⟨e,1,none⟩=some (.slice gQ d.P.length p):=aR n rfl;have c7:=cF n;have c8:=aj n;clear I H G S n);refine s.out _ _ ?_ (λF=>?_)
 .go_keep
 (try simp only[aK,aL,List.set]);refine bH [16,17] ?_;iterate 2 (refine bO (v:=?_) rfl (by kernel_rfl) (λ_ _ _ y=>y) (by kernel_rfl) (by assumption) ?_ ?_;rotate_left;focus (intro w z;(try dsimp only at z);go_simp;(try with_reducible rfl));(try simp only[aK,aL,List.set]))
 refine bI ?_;refine cP (by kernel_rfl) rfl λC s=>?_;go_simp;refine s.out _ _ ?_;(try simp only[aK,aL,List.set]);go_wp2;go_ret;have K:=(x.b.aH (i:=1) (j:=1) rfl (.slice (some ⟨E,0,none⟩) (d.P.length+1) D)).az;exact⟨rfl,.slice (some ⟨E,0,none⟩) (d.P.length+1) D,by simpa[wL,iB]using K⟩
variable {e j : World} {c : Nat} {b : eO} {h d g f : Value} {R : List Th}
def Ml(l:aQ (wL c b h d g f R) j e)(k:cU)(s:k.f=5)(r:b.P=[]):Calls prog 14 #[.pointer (some ⟨c,0,none⟩),.agg (cz k)] e λq u=>q=.returned (.bool true)/\aQ (wL c b h d g f R) j u:=by
 have n:=Z (l.d (.cells (cz k) 27));obtain⟨gQ,p,rfl⟩:=bX (l.a7 (i:=2) (a:=iB d b.P) rfl);have m:=l.a6 (i:=0) (R:=c) rfl;have o:e.cell? ⟨c,1,none⟩=some (.slice gQ b.P.length p):=aR m rfl;have t:b.P.length=0:=by rw[r];rfl
 rw[t]at o;have v:=cF m;have w:=aj m;have x:(k.f==4)=false:=by rw[s];rfl
 go_in;go_wp2;go_ret;exact⟨rfl,n.b.az⟩
variable {b c : World} {e : Nat} {g : eO} {j k h f : Value} {d : List Th}
def aQ.jm{h:Th}{f:List Th}(j:aQ (h::f) c b):aQ (f++[h]) c b:=by
 refine⟨j.fr,λd a=>j.m d (by simp at a ⊢;exact a.symm),λd a=>j.E d (by simp at a ⊢;exact a.symm),?_⟩;intro e t d k y a q v r s;have m:∀(e:Nat) (d:Th),(f++[h])[e]? = some d->∃g,(h::f)[g]? = some d/\((e<f.length/\g=e+1)\/(e=f.length/\g=0)):=by
  intro e d a;rcases Yj e f.length with i|i
  .rw[Ys i]at a;exact⟨e+1,by simpa using a,Y8 ⟨i,rfl⟩⟩
  .rw[Yw i]at a;match l:e-f.length with
   |0=>rw[l]at a;exact⟨0,by simpa using a,Ya ⟨by omega,rfl⟩⟩
   |n+1=>rw[l]at a;simp at a
 obtain⟨g,o,w⟩:=m e d a;obtain⟨u,p,x⟩:=m t k q;exact j.b7 g u d k (by omega) o p v r s
def Fw{g:Th}{L:List Th}(f:aQ (L++[g]) c b):aQ L c b:=by
 have i:∀(d:Nat) (a:Th),L[d]? = some a->(L++[g])[d]? = some a:=λd a j=>by
  rw[Ys (YB.1 j).1];exact j
 exact⟨f.fr,λa e=>f.m a (Yf _ e),λa e=>f.E a (Yf _ e),λd k a h m e l=>f.b7 d k a h m (i d a e) (i k h l)⟩
def aQ.cons{a:Th}{m:List Th}{p:World}(j:aQ m c b)(h:ai [] b p)(v:a.At p)(n:∀g,a.bb=some g->b.heap.size<=g):aQ (a::m) c p:=by
 have t:∀(f:Nat) (e:Th),m[f]? = some e->∀g,e.bb=some g->g<b.heap.size:=λf e u g w=>(j.m e (Yh u)).K _ w;refine⟨j.fr.a h,?_,?_,?_⟩
 .intro e d;rcases Yg.1 d with rfl|d
  .exact v
  .exact(j.m e d).h h (by simp)
 .intro e d q s;rcases Yg.1 d with rfl|d
  .exact Yz j.fr.F (n q s)
  .exact j.E e d q s
 .intro f i e r x d k l h o;cases f with
  |zero=>
   cases i with
   |zero=>exact x rfl
   |succ i=>
    simp at d k;subst d;have:=t i r k l o;have:=n l h;omega
  |succ f=>
   cases i with
   |zero=>
    simp at d k;subst k;have:=t f e d l h;have:=n l o;omega
   |succ i=>exact j.b7 f i e r (by omega) (by simpa using d) (by simpa using k) l h o
def aQ.bn{h:Th}{g:List Th}(k:aQ (h::g) c b)(i:Nat):aQ (g.set i h) c b:=by
 have o:∀a,a∈g.set i h->a∈h::g:=λa f=>by
  rcases List.mem_or_eq_of_mem_set f with d|d
  .exact Y5 _ d
  .exact d▸Yb
 have n:∀(e:Nat) (a:Th),(g.set i h)[e]? = some a->∃j,(h::g)[j]? = some a/\((e=i/\j=0)\/(e≠i/\j=e+1)):=by
  intro e a d;rw[YP]at d;by_cases l:i=e
  .subst l;rw[Y9 rfl]at d;split at d
   .exact⟨0,by simpa using d,Y8 ⟨rfl,rfl⟩⟩
   .cases d
  .rw[Y2 l]at d;exact⟨e+1,by simpa using d,Ya ⟨λp=>l p.symm,rfl⟩⟩
 refine⟨k.fr,λa f=>k.m a (o a f),λa f=>k.E a (o a f),?_⟩;intro e w a m A f t q u v;obtain⟨j,r,y⟩:=n e a f;obtain⟨x,s,z⟩:=n w m t;exact k.b7 j x a m (by omega) r s q u v
def aQ.I(i:aQ (wL e g j k h f d) c b)(a:Obj):aQ (wL e g j k h f (d++[.obj b.heap.size a])) c (b.alloc a):=(i.d a).jm
def aQ.iL{a:Th}(i:aQ (wL e g j k h f (d++[a])) c b):aQ (wL e g j k h f d) c b:=Fw (L:=wL e g j k h f d) i
def aQ.h9{a:Nat}{i:Obj}(l:aQ (wL e g j k h f (d++[.obj a i])) c b):b.heap[a]? = some i:=l.m (.obj a i) (by simp)
variable {e f : World} {v : Value} {d : List cU}
def so(e:World)(d f:Nat)(g:cU):Prop:=e.cell? ⟨d,f,none⟩=some (.int .i64 g.f)/\e.cell? ⟨d,f+1,none⟩=some (.int .i64 g.x)/\e.cell? ⟨d,f+2,none⟩=some (.int .i64 g.a)/\e.cell? ⟨d,f+3,none⟩=some (.int .i64 g.b)/\e.cell? ⟨d,f+4,none⟩=some (.int .i64 g.c)/\e.cell? ⟨d,f+5,none⟩=some (.string ⟨g.s.toArray⟩)
def lM(e:World)(v:Value)(d:List cU):Prop:=∃ad a,v=.slice ad d.length a/\d.length<=a/\a<=maxLen/\∀c g,d[c]? = some g->∃b f,ad=some ⟨b,f,none⟩/\so e b (f+c*6) g
def so.h{b g:Nat}{h:cU}(i:so e b g h)(j:ai [] e f):so f b g h:=by
 obtain⟨d,k,l,m,n,o⟩:=i;have a:∀c,f.cell? ⟨b,c,none⟩=e.cell? ⟨b,c,none⟩:=λc=>World.cell?_of_block (j.i b (li d) (by simp));exact⟨(a _).trans d,(a _).trans k,(a _).trans l,(a _).trans m,(a _).trans n,(a _).trans o⟩
def lM.h(c:lM e v d)(o:ai [] e f):lM f v d:=by
 obtain⟨ad,a,g,h,i,j⟩:=c;refine⟨ad,a,g,h,i,λn q m=>?_⟩;obtain⟨b,p,k,l⟩:=j n q m;exact⟨b,p,k,l.h o⟩
def lG(d:List cU):Nat:=(d.map (·.s.length)).sum
def Qu{a:Nat}(b:a<d.length):lG (d.take (a+1))=lG (d.take a)+d[a].s.length:=by
 unfold lG;rw[Yt b,List.map_append,List.sum_append];simp only[List.map_cons,List.map_nil,List.sum_cons,List.sum_nil,Nat.add_zero]
def Qt(d:List cU)(a:Nat):lG (d.take a)<=lG d:=by
 conv=>rhs;rw[<-List.take_append_drop a d]
 unfold lG;rw[List.map_append,List.sum_append];omega
def Kf:∀(d:List cU),∀b∈d,b.s.length<=lG d:=by
 intro d;induction d with
 |nil=>intro b a;simp at a
 |cons e d c=>
  intro b a;unfold lG at *
  rcases Yg.1 a with rfl|a
  .simp
  .have:=c b a;simp;omega
def mr(d:List cU):Bool:=decide (d.length+lG d<=16384)
def Pu(t:lM e v d)(C:∀m∈d,m.s.length<=1000000000000000000):Calls prog 11 #[v] e λr f=>r=.returned (.bool (mr d))/\f=e:=by
 obtain⟨ad,H,rfl,a1,M,B⟩:=t;have p:=Z B;have q:=Z C;by_cases z:d.length<=16384
 .have A:¬(16384:Int) < ↑d.length:=by omega
  go_in;go_wp2;go_loopw [3,4] (λF j G=>∃a b:Nat,j=.int .i64 a/\a<=d.length/\F=.int .i64 b/\b<=16384/\U (b=d.length+lG (d.take a))/\G=e) (λ_ j _=>d.length-(intOf j).toNat)
  case atStart=>exact⟨0,d.length,rfl,by omega,rfl,z,by show _=_;simp[lG],rfl⟩
  case round=>
   obtain⟨a,b,rfl,P,rfl,a0,i,rfl⟩:=hrel;rcases Yj a d.length with h|N
   .obtain⟨I,m,rfl,u⟩:=p.b a d[a] (Yd h);obtain⟨-,-,-,-,-,a3⟩:=u;have R:(0:Int)<=(a:Int):=by omega
    have S:(a:Int)<(d.length:Int):=by omega
    have L:=q.b d[a] (Yy h);have k:=Z (Qu h);have o:=Z (Qt d (a+1));generalize d[a]=n at *
    generalize E:n.s.length=c at *
    have a2:n.s.toArray.size=c:=by simpa using E
    by_cases w:b+c<=16384
    .have x:¬(16384:Int) < ↑b+↑c:=by omega
     have D:IntKind.i64.wrap ((b:Int)+(c:Int))=(b:Int)+(c:Int):=by rw[IntKind.wrap_i64];omega
     go_wp2;exact⟨⟨a+1,b+c,by go_num,h,by go_num,w,by show _=_;rw[k.b,i.b];omega,trivial⟩,by simp[intOf];omega⟩
    .have x:(16384:Int) < ↑b+↑c:=by omega
     have D:IntKind.i64.wrap ((b:Int)+(c:Int))=(b:Int)+(c:Int):=by rw[IntKind.wrap_i64];omega
     have g:U (mr d=false):=by
      show _=_;have J:=k.b;have l:=i.b;have K:=o.b;unfold mr;simp;omega
     go_wp2;go_ret;exact⟨by rw[g.b];rfl,rfl⟩
   .have y:a=d.length:=by omega
    subst y;have O:¬((d.length:Int)<(d.length:Int)):=by omega
    have g:U (mr d=true):=by
     show _=_;have l:=i.b;rw[YG]at l;unfold mr;simp;omega
    go_wp2;go_ret;exact⟨by rw[g.b];rfl,rfl⟩
 .have A:(16384:Int) < ↑d.length:=by omega
  have g:U (mr d=false):=by
   show _=_;unfold mr;simp;omega
  go_in;go_wp2;go_ret;exact⟨by rw[g.b];rfl,rfl⟩
variable {b c : World} {v : Value} {a : List cU}
abbrev zn:Obj:=.cells #[.slice none 0 0,.slice none 0 0,.string ⟨#[]⟩,.int .i64 0,.int .i64 0,.int .i64 0,.slice none 0 0,.slice none 0 0] 35
def RI(e:Nat->World->Prop)(n:lM b v a)(P:a.length<=16384)(x:e 0 (b.alloc zn))(p:∀f g,e f g->ai [] b g)(D:∀f g k,e f g->f<16384->k∈a->Calls prog 13 #[.pointer (some ⟨b.heap.size,0,none⟩),.agg (cz k)] g λm E=>m=.returned (.bool true)/\e (f+1) E) :
  Calls prog 12 #[v] b λw c=>w=.returned (.int .i64 (-1))/\ai [] b c:=by
 have s:=Z n;obtain⟨ad,H,rfl,R,K,-⟩:=n;have q:=Z x;have l:=Z p;have t:=Z D;go_in;go_wp2;go_loopw [4] (λj F=>∃d:Nat,j=.int .i64 d/\d<=a.length/\U (e d F)) (λj _=>a.length-(intOf j).toNat)
 case atStart=>exact⟨0,rfl,by omega,q⟩
 case round=>
  obtain⟨d,rfl,p,h⟩:=hrel;rcases Yj d a.length with i|L
  .have A:=s.b.h (l.b d wr h.b);obtain⟨G,I,o,-,-,C⟩:=A;simp only[Value.slice.injEq,true_and]at o;obtain⟨rfl,rfl⟩:=o;obtain⟨J,k,rfl,z⟩:=C d a[d] (Yd i);have u:=Z (t.b d wr a[d] h.b (by omega) (Yy i));obtain⟨S,a0,a1,a2,a3,a4⟩:=z;have N:(0:Int)<=(d:Int):=by omega
   have O:(d:Int)<(a.length:Int):=by omega
   generalize a[d]=a6 at *
   go_wp2_with fail;refine u.b.mono ?_;rintro m a5 ⟨rfl,y⟩;have r:=Z y;go_wp2;exact⟨⟨d+1,by go_num,i,r⟩,by simp[intOf];omega⟩
  .have B:d=a.length:=by omega
   subst B;have M:¬((a.length:Int)<(a.length:Int)):=by omega
   go_wp2;go_ret;exact⟨rfl,l.b _ _ h.b⟩
variable {w e : World} {v : Value} {d : List cU}
abbrev jX(d:cU):List Value:=[.int .i64 d.f,.int .i64 d.x,.int .i64 d.a,.int .i64 d.b,.int .i64 d.c,.string ⟨d.s.toArray⟩]
abbrev yX(v:Value)(d:List cU):Th:=.row 27 6 v d.length (d.flatMap jX)
def IT:(prog.info? 27).map (λa=>(a.zero,a.size,a.bytes))=some (some (.agg #[.int .i64 0,.int .i64 0,.int .i64 0,.int .i64 0,.int .i64 0,.string ⟨#[]⟩]),6,56):=by kernel_rfl
def Mf{o:Nat}{n:TypeId}(c:w.ownsRow o n 6 v d.length (d.flatMap jX)):lM w v d:=by
 have z:=λy a h=>ro (f:=jX) (k:=6) (λ_=>rfl) d y a h;have q:=c;obtain⟨G,c⟩:=c;rcases c with⟨rfl,r⟩|⟨g,p,B,rfl,F,k,s,t,D,E⟩
 .have u:d=[]:=Yv.1 r;subst u;exact⟨none,0,rfl,by simp,by simp,λe m i=>by simp at i⟩
 .refine⟨some ⟨g,0,none⟩,p,rfl,s,t,λe m i=>⟨g,0,rfl,?_⟩⟩;have b:∀a,a<6->∀j,(jX m)[a]? = some j->w.cell? ⟨g,e*6+a,none⟩=some j:=λa h j x=>by
   obtain⟨C,A,l,k,_⟩:=jY q ((z e a h).trans (by rw[i];exact x));simp at l;obtain⟨rfl,_⟩:=l;exact k
  rw[Nat.zero_add];exact⟨b 0 (by omega) _ rfl,b 1 (by omega) _ rfl,b 2 (by omega) _ rfl,b 3 (by omega) _ rfl,b 4 (by omega) _ rfl,b 5 (by omega) _ rfl⟩
def sZ(b:List Int)(a:Int):Bool:=decide (a<9)||b.contains a
def gd(a:List Int)(d:List cU):List cU:=d.filter λb=>sZ a b.f
def OE(b:List Int){a:Nat}(e:a<d.length):gd b (d.take (a+1))=gd b (d.take a)++if sZ b d[a].f then [d[a]]else []:=by
 unfold gd;rw[Yt e,List.filter_append];congr 1;by_cases c:sZ b d[a].f<;>simp[c]
def CO(a:List Int)(d:List cU):(gd a d).length<=d.length:=List.length_filter_le _ _
def Mz{kv:Value}{ks:List Int}(B:lM w v d)(c7:∀g∈d,g.s.length<=1000000000000000000)(N:pf w kv ks.length 1 λi=>.int .i64 (ks.getD i 0))(f4:ks.length<=1000)
  (c8:∀j S E,ai [] w j->lM j S E->E.length<=16384->(∀g∈E,g∈d/\(g.f<9\/g.f∈ks)/\g.s.length<=16384)->Calls prog 12 #[S] j λA d7=>A=.returned (.int .i64 (-1))/\ai [] j d7) :
  Calls prog 10 #[v,kv] w λA e=>A=.returned (.bool true)/\ai [] w e:=by
 have r:=Z (Pu B c7);have a1:=Z B;have a3:=Z c8;have a0:=Z N;obtain⟨ad,e3,rfl,f8,e8,-⟩:=B;obtain⟨e2,e6,rfl,-⟩:=N;cases q:mr d with
 |false=>
  rw[q]at r;go_in;go_wp2_with fail;refine r.b.mono ?_;rintro J H ⟨rfl,rfl⟩;go_wp2;go_ret;exact⟨rfl,ah [] _⟩
 |true=>
  rw[q]at r;have a2:=Z q;have b9:d.length<=16384:=by
   unfold mr at q;simp at q;omega
  obtain⟨d3,b7,c9,d0,d1⟩:=info_parts IT;have d2:(Value.agg #[.int .i64 0,.int .i64 0,.int .i64 0,.int .i64 0,.int .i64 0,.string ⟨#[]⟩]).cells.size=6:=by decide
  go_in;go_wp2_with fail;refine r.b.mono ?_;rintro J H ⟨rfl,rfl⟩;go_wp2;go_loopw [6,7] (λd5 i G=>∃(a:Nat) (gQ:Option Addr) (h:Nat),i=.int .i64 a/\a<=d.length/\d5=.slice gQ (gd ks (d.take a)).length h/\U (aQ [yX (.slice gQ (gd ks (d.take a)).length h) (gd ks (d.take a))] H G)) (λ_ i _=>d.length-(intOf i).toNat)
  case atStart=>exact⟨0,none,0,rfl,by omega,rfl,(zM H).cons (ah [] _) ⟨rfl,Y8 ⟨rfl,rfl⟩⟩ (λb1 b5=>by simp[Th.bb,Value.ownBlock]at b5)⟩
  case round=>
   obtain⟨a,gQ,h,rfl,f1,rfl,f⟩:=hrel;rcases Yj a d.length with u|e9
   .have b4:=a1.b.h f.b.fr;obtain⟨e0,e4,o,-,-,c2⟩:=b4;simp only[Value.slice.injEq,true_and]at o;obtain⟨rfl,rfl⟩:=o;obtain⟨b1,g,rfl,b3⟩:=c2 a d[a] (Yd u);obtain⟨f9,g0,g1,g2,g3,g4⟩:=b3;have f2:(0:Int)<=(a:Int):=by omega
    have f3:(a:Int)<(d.length:Int):=by omega
    have k:=Z (OE ks u);have P:U ((gd ks (d.take a)).length<=16384):=Z (Yz (CO _ _) (by rw[YW];omega));generalize d[a]=c at *
    go_wp2;go_loopw [9,10] (λa8 D G=>∃(b:Nat) (l:Bool),D=.int .i64 b/\b<=ks.length/\a8=.bool l/\U (l=(decide (c.f<9)||(ks.take b).contains c.f))/\G=wr) (λ_ D _=>ks.length-(intOf D).toNat)
    case atStart=>exact⟨0,decide (c.f<9),rfl,by omega,rfl,by show _=_;simp,rfl⟩
    case round=>
     obtain⟨b,l,rfl,f5,rfl,x,rfl⟩:=hrel;rcases Yj b ks.length with m|f0
     .have f6:(0:Int)<=(b:Int):=by omega
      have f7:(b:Int)<(ks.length:Int):=by omega
      cases l with
      |true=>
       have n:U (true=(decide (c.f<9)||(ks.take (b+1)).contains c.f)):=by
        show _=_;rw[Yt m,List.contains_append,<-Bool.or_assoc,<-x.b];rfl
       go_wp2;exact⟨⟨b+1,true,by go_num,m,rfl,n,trivial⟩,by simp[intOf];omega⟩
      |false=>
       obtain⟨e1,e5,C⟩:=a0.b;obtain⟨o,C⟩:=C;simp only[Value.slice.injEq,true_and]at o;obtain⟨rfl,rfl⟩:=o;obtain⟨gk,rfl,F⟩:=C b m;have F:=ob F f.b.fr;simp only[Nat.mul_one,show ks.getD b 0=ks[b] by simp[m]]at F;have n:U ((c.f==ks[b])=(decide (c.f<9)||(ks.take (b+1)).contains c.f)):=by
        show _=_;rw[Yt m,List.contains_append,<-Bool.or_assoc,<-x.b];by_cases c6:c.f=ks[b]<;>simp[c6]
       generalize ks[b]=d8 at *
       generalize e7:(c.f==d8)=a9 at *
       go_wp2;exact⟨⟨b+1,a9,by go_num,m,rfl,n,trivial⟩,by simp[intOf];omega⟩
     .have c1:b=ks.length:=by omega
      subst c1;have b6:¬((ks.length:Int)<(ks.length:Int)):=by omega
      have n:U (l=sZ ks c.f):=by
       show _=_;rw[x.b,YG];rfl
      rw[<-n.b]at k;cases l with
      |false=>
       simp only[Ye,if_false,YH]at k
       go_wp2;exact⟨⟨a+1,gQ,h,by go_num,u,by rw[k.b],by show aQ _ _ _;rw[k.b];exact f.b⟩,by simp[intOf];omega⟩
      |true=>
       simp only[if_true]at k
       have d9:U (∀z:cU,(jX z).length=6):=Z (λ_=>rfl);have c3:∀j∈jX c,j.oneCell'=true:=by
        intro j R;simp[jX]at R;rcases R with rfl|rfl|rfl|rfl|rfl|rfl<;>rfl
       have y:U ((gd ks (d.take a)).length+1=(gd ks (d.take (a+1))).length/\(gd ks (d.take a)).flatMap jX++jX c=(gd ks (d.take (a+1))).flatMap jX):=by
        show _/\_;rw[k.b];simp
       have I:=Z (λd6=>aX (f.b.a7 (i:=0) (a:=yX (.slice gQ (gd ks (d.take a)).length h) (gd ks (d.take a))) rfl) ((ah [] wr).d d6) (by simp));have c4:(gd ks (d.take a)).length+1<=maxLen:=by have:=P.b;unfold maxLen;omega
       have c5:((gd ks (d.take a)).length+1)*56<=140737488355328:=by have:=P.b;omega
       go_wp2_with (at_builtin;(refine wpList_append_lies _ (by rfl) _ _ _ (by rfl) 0 27 d3 _ 6 56 underlying22 b7 c9 d0 d1 d2 (by omega) (.slice gQ (gd ks (d.take a)).length h) (gd ks (d.take a)).length ((gd ks (d.take a)).flatMap jX) (by rfl) (I.b _) ⟨wr.heap.size,0,none⟩ 1 1 (jX c) (by rfl) (by rfl) (World.news_of_block (cs:=(jX c).toArray) (t:=27) (fr:=(0,0)) (aJ (w:=wr) (by simp))) c3 (by omega) c4 c5 (by omega) (wr.heap.size+1) (by simp) ?_;intro b2 b0 g6 O M L c0;have a6:=Z (f.b.aN (i:=0) rfl ((ah [] wr).d _) O M L (by simp));clear O M L c0 I));exact⟨⟨a+1,some ⟨b2,0,none⟩,b0,by go_num,u,by rw[y.b.1],by show aQ _ _ _;have:=a6.b;rw[y.b.2,y.b.1]at this;exact this⟩,by simp[intOf];omega⟩
   .have b8:a=d.length:=by omega
    subst b8;have b6:¬((d.length:Int)<(d.length:Int)):=by omega
    rw[YG]at f;rw[YG];have a7:=Z (a3.b wr _ (gd ks d) f.b.fr (Mf (f.b.a7 (i:=0) (a:=yX (.slice gQ (gd ks d).length h) (gd ks d)) rfl)) (Yz (CO _ _) b9) (λg p=>by
     unfold gd at p;rw[List.mem_filter]at p;refine⟨p.1,?_,?_⟩
     .have:=p.2;unfold sZ at this;simpa using this
     .have K:=a2.b;unfold mr at K;simp at K;have:=Kf d g p.1;omega))
    have a4:=Z f.b.fr;go_wp2_with fail;refine a7.b.mono ?_;rintro J g5 ⟨rfl,d4⟩;have a5:=Z (a4.b.a d4);go_wp2;go_ret;exact⟨rfl,a5.b⟩
variable {e h : World} {g : Nat} {d : eO} {o q m l : Value} {R : List Th}
def LD(d:List jg):∀b∈d.flatMap gU,b.oneCell'=true:=by
 intro b c;obtain⟨e,_,a⟩:=List.mem_flatMap.1 c;simp[gU]at a;rcases a with rfl|rfl|rfl|rfl|rfl<;>rfl
def Sr{m:Array Oper}{rest:List Oper}{b:Oper}{f:Act}{Q:Exit->Act->World->Prop}{e:World}(z:b.guard=none)(d n:Operand)
  (B:b.op=.call { callee:=.builtin .append,args:=#[d,n],argTypes:=#[31,31] }) {o:Value} {a:List jg} (D:f.eval d=.slice none 0 0) (F:f.eval n=o) (j:e.ownsRow 0 52 5 o a.length (a.flatMap gU)) (a2:a.length<=1000000) (a3:0<a.length)
  (t:∀g c,c.ownsRow 0 52 5 (.slice (some ⟨e.heap.size,0,none⟩) a.length g) a.length (a.flatMap gU)->e.grownBy c none->wpList prog m Q rest (f.put b.dst (.slice (some ⟨e.heap.size,0,none⟩) a.length g)) c):wpList prog m Q (b::rest) f e:=by
 refine wpList_plain z λL w=>?_;obtain⟨K,A,G,H,I⟩:=info_parts AY;have J:(Value.agg #[.int .i64 0,.int .i64 0,.string ⟨#[]⟩,.int .i64 0,.int .i64 0]).cells.size=5:=by decide
 rcases j.2 with⟨rfl,O⟩|⟨h,g,M,rfl,R,u,S,a0,a1,v⟩
 .omega
 .obtain⟨a6,c,C,k,s,_,p⟩:=run_append_own_at (P:=prog) e 0 31 b.type 52 K _ 5 48 underlying31 A G H I J (by omega) (.slice none 0 0) 0 [] ⟨rfl,Y8 ⟨rfl,rfl⟩⟩ ⟨h,0,none⟩ a.length g (a.flatMap gU) j.1 (by
   intro l a5 E;have x:(⟨h,0,none⟩:Addr).add l=⟨h,l,none⟩:=by unfold Addr.add;split<;>simp_all
   rw[x];exact cu u (by rw[j.1];exact v) E) (LD a) (by unfold maxLen;omega) (by omega) (YV _)
  rw[Nat.zero_add,YT]at k;rcases k.2 with⟨rfl,a4⟩|⟨r,q,N,rfl,_⟩
  .omega
  .have y:r=e.heap.size:=by
    rcases p with i|i
    .simp[Value.ownBlock]at i
    .simpa[dZ]using i
   subst y;unfold Oper.wp execOp;simp only[B,resolve,invoke,builtin,Sem.run_bind,Sem.run_pure,Result.andThen_ok,List.map_toArray,List.map_cons,List.map_nil,D,F,C];exact w _ _ (t q c k s)
def vi:jg:=⟨0,0,[],0,0⟩
def uu(a:jg)(b c:Int):jg:={ a with n:=IntKind.i64.wrap (a.n+b),ak:=IntKind.i64.wrap (a.ak+c) }
def nZ(d:List jg)(e:cU):List jg:=d.set (eK e.a d.length) (uu (d.getD (eK e.a d.length) vi) e.b e.c)
def BT{v:Value}{c:List jg}{b m:Nat}(g:e.ownsRow 0 52 5 (.slice (some ⟨b,0,none⟩) c.length m) c.length (c.flatMap gU)){a:Nat}{d:jg}(j:c[a]? = some d):e.cell? ⟨b,a*5+1,none⟩=some (.int .i64 d.n)/\e.cell? ⟨b,a*5+4,none⟩=some (.int .i64 d.ak)/\(∀a,e.frozen? ⟨b,a,none⟩=false)/\b<e.heap.size:=by
 have l:=λt r=>ro (f:=gU) (k:=5) (λ_=>rfl) c a t r;obtain⟨x,u,h,o,q,s⟩:=jY g (l 1 (by omega) |>.trans (by rw[j];rfl));obtain⟨y,w,i,p,_⟩:=jY g (l 4 (by omega) |>.trans (by rw[j];rfl));simp at h i;obtain⟨rfl,_⟩:=h;obtain⟨rfl,_⟩:=i;exact⟨o,p,q,s⟩
def aQ.l4{m:List Th}{c d i j:Nat}{b:List jg}{l x':jg}{v:Value}(o:aQ (iB (.slice (some ⟨c,0,none⟩) b.length d) b::m) h e)(n:b[i]? = some l)(u:j<5)(t:gU x'=(gU l).set j v):aQ (iB (.slice (some ⟨c,0,none⟩) (b.set i x').length d) (b.set i x')::m) h (e.setCell ⟨c,i*5+j,none⟩ v):=by
 have x:=(YB.1 n).1;have w:=o.a7 (i:=0) (a:=iB (.slice (some ⟨c,0,none⟩) b.length d) b) rfl;have q:e.ownsRow 0 52 5 (.slice (some ⟨c,0,none⟩) b.length d) b.length (b.flatMap gU):=w;have y:(b.flatMap gU).length=b.length*5:=q.1;have r:=tA q (i:=i*5+j) (by omega) v;rw[sU (f:=gU) (k:=5) (λ_=>rfl) b i j l x' v u n t]at r;refine o.a4 (i:=0) (a':=iB (.slice (some ⟨c,0,none⟩) (b.set i x').length d) (b.set i x')) rfl ((ah [c] e).O (p:=⟨c,i*5+j,none⟩) (by simp) v) (λs g=>by simp at g;subst g;simp[Th.bb,dZ]) ?_ (λs g=>Y8 (by simpa[Th.bb,dZ]using g));show World.ownsRow _ _ _ _ _ _ _;rw[YF];exact r
def Mk(O:aQ (wL g d o q m l R) h e)(f:cU)(a3:il f)(c3:f.f=5)(c5:d.P.length<=100000)(c1:d.P≠[]):Calls prog 14 #[.pointer (some ⟨g,0,none⟩),.agg (cz f)] e λa2 s=>a2=.returned (.bool true)/\∃c6,aQ (wL g { d with P:=nZ d.P f } o c6 m l R) h s:=by
 have E:=Z (O.d (.cells (cz f) 27));obtain⟨gQ,u,rfl⟩:=bX (O.a7 (i:=2) (a:=iB q d.P) rfl);have M:0<d.P.length:=YM.2 c1;have e2:(0:Int) < ↑d.P.length:=by omega
 have c4:eK f.a d.P.length<d.P.length:=qa f.a M;have b8:=Z (vC f.a d.P.length a3.2.1.1 a3.2.1.2 M (by omega));have N:U (d.P[eK f.a d.P.length]? = some (d.P.getD (eK f.a d.P.length) vi)):=Z (by simp[c4]);have P:U (nZ d.P f=d.P.set (eK f.a d.P.length) (uu (d.P.getD (eK f.a d.P.length) vi) f.b f.c)):=Z rfl;have e0:(0:Int)<=↑(eK f.a d.P.length):=by omega
 have e1:(↑(eK f.a d.P.length):Int) < ↑d.P.length:=by omega
 generalize eK f.a d.P.length=r at *
 generalize d.P.getD r vi=k at *
 have b7:=Z M;have b6:=Z c5;have p:=O.a6 (i:=0) (R:=g) rfl;have d4:e.cell? ⟨g,1,none⟩=some (.slice gQ d.P.length u):=aR p rfl;have d5:=cF p;have d6:=aj p;have d7:(f.f==4)=false:=by rw[c3];rfl
 go_in;go_wp2;generalize d9:e.heap.size=x at *
 generalize e.alloc (.cells (cz f) 27)=b5 at *
 obtain⟨a8,a9,b0,b1,b2,b3,of,b4⟩:=dX (E.b.a6 (i:=0) (R:=x) rfl);have p:=E.b.a6 (i:=1) (R:=g) rfl;have H:b5.cell? ⟨g,1,none⟩=some (.slice gQ d.P.length u):=aR p rfl;have I:=cF p;have J:=aj p;refine cR (λs=>s.cell? ⟨g,1,none⟩=some (.slice gQ d.P.length u)/\s.cell? ⟨x,2,none⟩=some (.int .i64 f.a)) (L:=8) (by kernel_rfl) rfl (by kernel_rfl) (by kernel_rfl) ?_ (λK=>?_)
 .go_keep
 refine bH [0,1,2,3,4,5,6] ?_;iterate 7 (refine bO (v:=?_) rfl (by kernel_rfl) (λ_ _ _ z=>z) (by kernel_rfl) (by assumption) ?_ ?_;rotate_left;focus (intro e A;(try dsimp only at A);go_simp;(try with_reducible rfl));(try simp only[aK,aL,List.set]))
 refine bI ?_;refine cj 7 (by kernel_rfl) rfl λD w=>?_;(go_simp;refine(b8.b _).mono ?_;rintro a2 e3 ⟨rfl,rfl⟩);refine w.out _ _ ?_ (λK=>?_)
 .go_keep
 (try simp only[aK,aL,List.set]);refine cP (by kernel_rfl) rfl λD w=>?_;go_simp;refine w.out _ _ ?_;(try simp only[aK,aL,List.set]);have B:=Z E.b.ae;generalize b5.drew=C at *
 have p:=B.b.a6 (i:=1) (R:=g) rfl;have H:C.cell? ⟨g,1,none⟩=some (.slice gQ d.P.length u):=aR p rfl;have I:=cF p;have J:=aj p;have a6:U (C.ownsRow 0 52 5 (.slice gQ d.P.length u) d.P.length (d.P.flatMap gU)):=Z (B.b.a7 (i:=3) (a:=iB (.slice gQ d.P.length u) d.P) rfl);go_wp2_with (at_builtin;(refine Sr (by rfl) _ _ (by rfl) (by rfl) (by rfl) a6.b (by have:=b6.b;omega) b7.b ?_;intro y c7 a5 a4;have F:=Z (B.b.cons (a:=iB (.slice (some ⟨C.heap.size,0,none⟩) d.P.length y) d.P) (eJ a4) a5 (λd8 c2=>by simp[Th.bb,dZ]at c2;omega));clear a5 a4 a6 H I J B;generalize C.heap.size=t at *));obtain⟨d0,d1,d2,d3⟩:=BT (v:=.nilIface) (F.b.a7 (i:=0) (a:=iB (.slice (some ⟨t,0,none⟩) d.P.length y) d.P) rfl) N.b;obtain⟨a8,a9,b0,b1,b2,b3,of,b4⟩:=dX (F.b.a6 (i:=1) (R:=x) rfl);refine cR (λs=>s.cell? ⟨t,r*5+1,none⟩=some (.int .i64 k.n)/\s.cell? ⟨x,3,none⟩=some (.int .i64 f.b)) (L:=12) (by kernel_rfl) rfl (by kernel_rfl) (by kernel_rfl) ?_ (λK=>?_)
 .go_keep
 refine bH [0,1,2,3,4,5,6,7,8,9,10,11] ?_;iterate 12 (refine bO (v:=?_) rfl (by kernel_rfl) (λ_ _ _ z=>z) (by kernel_rfl) (by assumption) ?_ ?_;rotate_left;focus (intro e A;(try dsimp only at A);go_simp;(try with_reducible rfl));(try simp only[aK,aL,List.set]))
 refine bI ?_;refine cP (by kernel_rfl) rfl λD w=>?_;go_simp;refine w.out _ _ ?_;(try simp only[aK,aL,List.set]);have G:=Z (F.b.l4 (j:=1) (x':={ k with n:=IntKind.i64.wrap (k.n+f.b) }) (v:=.int .i64 (IntKind.i64.wrap (k.n+f.b))) N.b (by omega) rfl).ae;generalize (c7.setCell ⟨t,r*5+1,none⟩ (.int .i64 (IntKind.i64.wrap (k.n+f.b)))).drew=c8 at *
 have a7:U ((d.P.set r { k with n:=IntKind.i64.wrap (k.n+f.b) })[r]? = some { k with n:=IntKind.i64.wrap (k.n+f.b) }):=Z (by
  have:=(YB.1 N.b).1;rw[List.getElem?_set_self this])
 obtain⟨d0,d1,d2,d3⟩:=BT (v:=.nilIface) (G.b.a7 (i:=0) (a:=iB (.slice (some ⟨t,0,none⟩) (d.P.set r { k with n:=IntKind.i64.wrap (k.n+f.b) }).length y) (d.P.set r { k with n:=IntKind.i64.wrap (k.n+f.b) })) rfl) a7.b;obtain⟨a8,a9,b0,b1,b2,b3,of,b4⟩:=dX (G.b.a6 (i:=1) (R:=x) rfl);go_wp2;refine cR (λs=>s.cell? ⟨t,r*5+4,none⟩=some (.int .i64 k.ak)/\s.cell? ⟨x,4,none⟩=some (.int .i64 f.c)) (L:=12) (by kernel_rfl) rfl (by kernel_rfl) (by kernel_rfl) ?_ (λK=>?_)
 .go_keep
 refine bH [0,1,2,3,4,5,6,7,8,9,10,11] ?_;iterate 12 (refine bO (v:=?_) rfl (by kernel_rfl) (λ_ _ _ z=>z) (by kernel_rfl) (by assumption) ?_ ?_;rotate_left;focus (intro e A;(try dsimp only at A);go_simp;(try with_reducible rfl));(try simp only[aK,aL,List.set]))
 refine bI ?_;refine cP (by kernel_rfl) rfl λD w=>?_;go_simp;refine w.out _ _ ?_;(try simp only[aK,aL,List.set]);have a0:=Z (G.b.l4 (j:=4) (x':=uu k f.b f.c) (v:=.int .i64 (IntKind.i64.wrap (k.ak+f.c))) a7.b (by omega) rfl).ae;generalize (c8.setCell ⟨t,r*5+4,none⟩ (.int .i64 (IntKind.i64.wrap (k.ak+f.c)))).drew=c9 at *
 have p:=a0.b.a6 (i:=2) (R:=g) rfl;have H:c9.cell? ⟨g,1,none⟩=some (.slice gQ d.P.length u):=aR p rfl;have I:=cF p;have J:=aj p;go_wp2;go_ret;have a1:=a0.b.aH (i:=2) (j:=1) rfl (.slice (some ⟨t,0,none⟩) d.P.length y);have b9:(d.P.set r { k with n:=IntKind.i64.wrap (k.n+f.b) }).set r (uu k f.b f.c)=nZ d.P f:=by rw[P.b,List.set_set]
 rw[b9]at a1;have c0:(nZ d.P f).length=d.P.length:=by rw[P.b,YF]
 refine⟨rfl,.slice (some ⟨t,0,none⟩) (nZ d.P f).length y,?_⟩;have S:=(a1.bn 3).az;rw[c0]at S ⊢;simpa[wL,iB]using S
variable {j i : World} {e : Nat} {d : eO} {k l h g : Value} {f : List Th}
def lm(d:eO)(e:cU):Option eO:=
 if e.f=4 then some { d with P:=d.P++[⟨e.a,e.b,e.s,0,e.c⟩] }
 else if e.f=5 then some { d with P:=if d.P=[]then d.P else nZ d.P e }
 else if e.f=6 then some { d with P:=[] }
 else if e.f=7 then some { d with a:=e.a,b:=e.b,c:=e.c }
 else if e.f=8 then some { d with a8:=e.s }
 else mx d e
def zw(d:eO)(e:Nat)(h g:Value)(f:List Th)(i:World)(k:Option eO)(c:Ending)(j:World):Prop:=match k with
 |some l=>c=.returned (.bool true)/\∃a b,aQ (wL e l a b h g f) i j
 |none=>c=.returned (.bool false)/\∃a b,aQ (wL e d a b h g f) i j
structure oY(d:eO):Prop where
 y:d.y.length<=100000
 cr:∀x∈d.y,x.length<=1000000
 P:d.P.length<=100000
 a3:d.a3.length<=100000
 d5:d.d5.length<=100000
def tz(c:aQ (wL e d k l h g f) i j)(b:cU)(v:il b)(u:oY d):Calls prog 14 #[.pointer (some ⟨e,0,none⟩),.agg (cz b)] j (zw d e h g f i (lm d b)):=by
 unfold lm;by_cases q:b.f=4
 .rw[Y9 q];refine(Mo c b q u.P).mono ?_;rintro m n ⟨rfl,y,a⟩;exact⟨rfl,_,_,a⟩
 rw[Y2 q];by_cases o:b.f=5
 .rw[Y9 o];by_cases p:d.P=[]
  .rw[Y9 p];refine(Ml c b o p).mono ?_;rintro m n ⟨rfl,a⟩;exact⟨rfl,_,_,a⟩
  .rw[Y2 p];refine(Mk c b v o u.P p).mono ?_;rintro m n ⟨rfl,y,a⟩;exact⟨rfl,_,_,a⟩
 rw[Y2 o];by_cases r:b.f=6
 .rw[Y9 r];refine(Mp c b r).mono ?_;rintro m n ⟨rfl,a⟩;exact⟨rfl,_,_,a⟩
 rw[Y2 r];by_cases s:b.f=7
 .rw[Y9 s];refine(Mm c b s).mono ?_;rintro m n ⟨rfl,a⟩;exact⟨rfl,_,_,a⟩
 rw[Y2 s];by_cases t:b.f=8
 .rw[Y9 t];refine(Mn c b t).mono ?_;rintro m n ⟨rfl,a⟩;exact⟨rfl,_,_,a⟩
 rw[Y2 t];refine(Mr c b v u.y u.cr q o r s t).mono ?_;intro m n a;unfold qH at a;unfold zw;cases w:mx d b with
 |some z=>
  rw[w]at a;obtain⟨rfl,x,a⟩:=a;exact⟨rfl,_,_,a⟩
 |none=>
  rw[w]at a;obtain⟨rfl,x,a⟩:=a;exact⟨rfl,_,_,a⟩
variable {d c : World} {b : Nat} {s g : eO} {h j f e : Value} {R : List Th}
def PJ(r:aQ (wL b s h j f e R) c d)(a:cU)(o:il a)(p:oY s)(q:lm s a=some g):Calls prog 13 #[.pointer (some ⟨b,0,none⟩),.agg (cz a)] d λm u=>m=.returned (.bool true)/\∃k l,aQ (wL b g k l f e R) c u:=by
 have i:=Z (tz (r.I (.cells (cz a) 27)) a o p);rw[q]at i;clear r o p q;go_in;go_wp2_with fail;refine i.b.mono ?_;rintro m v ⟨rfl,k,l,n⟩;have t:=Z n;clear n i;go_wp2;go_ret;exact⟨rfl,k,l,t.b.iL⟩
def Cs{a:cU}(b:a.f=9):lm s a=none:=by unfold lm mx;simp[b]
def PR(G:aQ (wL b s h j f e R) c d)(g:cU)(m:il g)(t:oY s)(u:g.f=9){J:Mar.M}(C:en (ap (eD s g.a))=.error J)(B:Gl c)(A:c.cell? ⟨1,0,none⟩=some (iV 55)):Calls prog 13 #[.pointer (some ⟨b,0,none⟩),.agg (cz g)] d λq a0=>q=.returned (.bool true)/\∃k l,aQ (wL b s k l f e R) c a0:=by
 have p:=Z (tz (G.I (.cells (cz g) 27)) g m t);rw[Cs u]at p;have y:=Z (λ(v:World) k l (H:aQ (wL b s k l f e (R++[.obj d.heap.size (.cells (cz g) 27)])) c v)=>qp (s:=s) (H.a6 (i:=0) (R:=b) rfl) (H.a7 (i:=1) (a:=bD k s.y) rfl) g.a m.2.1.1 m.2.1.2 (by have:=t.y;omega));have w:=Z (λ(v:World) (D:ai [] c v)=>Nj C (B.h D (by simp) (by simp) (by simp)) (ob A D));generalize eD s g.a=tx at *
 have a5:(g.f==9)=true:=by rw[u];rfl
 clear G m t C B A u;go_in;go_wp2_with fail;refine p.b.mono ?_;rintro q a1 ⟨rfl,k,l,r⟩;have n:=Z r;have z:=Z (y.b a1 k l r);clear r p y;obtain⟨K,L,M,N,O,P,of,S⟩:=dX n.b.h9;generalize d.heap.size=a3 at *
 go_wp2_with fail;refine z.b.mono ?_;rintro a4 a2 ⟨rfl,E⟩;have o:=Z (n.b.h E);have x:=Z (w.b a2 o.b.fr);clear n z w E K L M N O P of S;go_wp2_with fail;refine x.b.mono ?_;rintro q a6 ⟨F,rfl⟩;have I:=Z (o.b.h F);clear o x F;go_wp2;go_ret;exact⟨rfl,k,l,I.b.iL⟩
variable {d c : World} {b : Nat} {s k : eO} {g h f e : Value} {R : List Th}
def IX:(prog.info? 37).map (λa=>(a.zero,a.size,a.bytes))=some (some (.pointer none),1,8):=by kernel_rfl
def PL(B:aQ (wL b s g h f e R) c d)(k:cU)(u:il k)(q:oY s)(A:k.f=9){b0:List ao}(a4:en (ap (eD s k.a))=.ok b0)(P:Gl c):Calls prog 13 #[.pointer (some ⟨b,0,none⟩),.agg (cz k)] d λy d0=>y=.returned (.bool true)/\∃S m p c9,aQ (wL b { s with a3:=s.a3++[S] } m p c9 e R) c d0:=by
 obtain⟨gQ,o,rfl⟩:=bX (B.a7 (i:=3) (a:=oF 37 f s.a3) rfl);have x:=Z (tz (B.I (.cells (cz k) 27)) k u q);rw[Cs A]at x;have H:=Z (λ(C:World) m p (a7:aQ (wL b s m p (.slice gQ s.a3.length o) e (R++[.obj d.heap.size (.cells (cz k) 27)])) c C)=>qp (s:=s) (a7.a6 (i:=0) (R:=b) rfl) (a7.a7 (i:=1) (a:=bD m s.y) rfl) k.a u.2.1.1 u.2.1.2 (by have:=q.y;omega));have F:=Z (λ(C:World) (c1:ai [] c C)=>Ni a4 (P.h c1 (by simp) (by simp) (by simp)));have a1:s.a3.length+1<=maxLen:=by have:=q.a3;unfold maxLen;omega
 have b5:(s.a3.length+1)*8<=140737488355328:=by have:=q.a3;omega
 obtain⟨c0,b3,b6,b7,b8⟩:=info_parts IX;have b9:(Value.pointer none).cells.size=1:=rfl;generalize eD s k.a=tx at *
 have d5:(k.f==9)=true:=by rw[A];rfl
 clear B u q a4 P A;go_in;go_wp2_with fail;refine x.b.mono ?_;rintro y d1 ⟨rfl,m,p,z⟩;have v:=Z z;have I:=Z (H.b d1 m p z);clear z x H;obtain⟨c2,c3,c4,c5,c6,c7,of,c8⟩:=dX v.b.h9;generalize d.heap.size=a9 at *
 go_wp2_with fail;refine I.b.mono ?_;rintro d4 d2 ⟨rfl,a5⟩;have w:=Z (v.b.h a5);have G:=Z (F.b d2 w.b.fr);clear v I F a5 c2 c3 c4 c5 c6 c7 of c8;go_wp2_with fail;refine G.b.mono ?_;rintro y n ⟨a6,S,rfl,b1,b2⟩;have r:=Z (w.b.h a6);clear w G a6 b1 b2;have l:=r.b.a6 (i:=0) (R:=b) rfl;have J:n.cell? ⟨b,6,none⟩=some (.slice gQ s.a3.length o):=aR l rfl;have K:=cF l;have L:=aj l;clear l;have a2:U (∀D,(n.alloc D).ownsRow 0 37 1 (.slice gQ s.a3.length o) s.a3.length (s.a3.map nk)):=Z (λD=>aX (r.b.a7 (i:=3) (a:=oF 37 (.slice gQ s.a3.length o) s.a3) rfl) ((ah [] n).d D) (by simp));go_wp2_with (at_builtin;(refine wpList_append_lies _ (by rfl) _ _ _ (by rfl) 0 37 c0 _ 1 8 underlying32 b3 b6 b7 b8 b9 (by omega) (.slice gQ s.a3.length o) s.a3.length (s.a3.map nk) (by rfl) (a2.b _) ⟨n.heap.size,0,none⟩ 1 1 [nk S] (by rfl) (by rfl) (World.news_of_block (cs:=#[nk S]) (t:=37) (fr:=(0,0)) (heap_alloc_new n _)) (by simp[Value.oneCell']) (by omega) a1 b5 (by simp) (n.heap.size+1) (by simp) ?_;intro N M d3 a3 a0 O b4;have E:=Z (r.b.aN (i:=3) rfl ((ah [] n).d _) a3 a0 O (by simp));clear a3 a0 O b4 a2 a1 J K L r;have l:=E.b.a6 (i:=0) (R:=b) rfl;have J:d3.cell? ⟨b,6,none⟩=some (.slice gQ s.a3.length o):=aR l rfl;have K:=cF l;have L:=aj l;clear l));go_wp2;go_ret;have a8:=E.b.aH (i:=0) (j:=6) rfl (.slice (some ⟨N,0,none⟩) (s.a3.length+1) M);refine⟨rfl,S,m,p,.slice (some ⟨N,0,none⟩) (s.a3.length+1) M,aQ.iL (a:=.obj a9 (.cells (cz k) 27)) ?_⟩;simpa[wL,oF]using a8
variable {c f : World} {b : Nat} {s j : eO} {g h e d : Value} {R : List Th}
def Cr{a:cU}(b:a.f<=0):lm s a=none:=by
 unfold lm mx;rw[Y2 (by omega),Y2 (by omega),Y2 (by omega),Y2 (by omega),Y2 (by omega),Y2 (by omega),Y2 (by omega),Y2 (by omega)]
def PG(u:aQ (wL b s g h e d R) f c)(j:cU)(x:il j)(y:oY s)(z:j.f<=0)(w:s.a3=[]):Calls prog 13 #[.pointer (some ⟨b,0,none⟩),.agg (cz j)] c λt B=>t=.returned (.bool true)/\∃m o,aQ (wL b s m o e d R) f B:=by
 obtain⟨gQ,r,rfl⟩:=bX (u.a7 (i:=3) (a:=oF 37 e s.a3) rfl);have q:=Z (tz (u.I (.cells (cz j) 27)) j x y);rw[Cr z]at q;have I:(j.f==9)=false:=by simp;omega
 have H:¬(14:Int)<j.f:=by omega
 have A:s.a3.length=0:=by rw[w];rfl
 have v:U (∀n:World,n.cell? ⟨b,6,none⟩=some (.slice gQ s.a3.length r)->n.cell? ⟨b,6,none⟩=some (.slice gQ 0 r)):=Z (λn k=>by rw[A]at k;exact k);go_in;go_wp2_with fail;refine q.b.mono ?_;rintro t C ⟨rfl,m,o,k⟩;have l:=Z k;obtain⟨J,K,L,M,N,O,of,P⟩:=dX l.b.h9;have p:=l.b.a6 (i:=0) (R:=b) rfl;have D:=v.b C (aR p rfl);have E:=cF p;have G:=aj p;generalize c.heap.size=F at *
 go_wp2;go_ret;exact⟨rfl,m,o,l.b.iL⟩
def CA{f:TypeId}{v:Value}{a:List Nat}{d:Nat}(g:c.ownsRow 0 f 1 v a.length (a.map nk))(j:d<a.length):∃b e,v=.slice (some ⟨b,0,none⟩) a.length e/\c.cell? ⟨b,d,none⟩=some (nk (a.getD d 0))/\b<c.heap.size:=by
 obtain⟨b,e,l,h,_,k⟩:=jY g (i:=d) (x:=nk (a.getD d 0)) (by simp[j]);exact⟨b,e,l,h,k⟩
def PH(J:aQ (wL b s g h e d R) f c)(j:cU)(p:il j)(z:oY s)(a3:j.f<=0)(a1:s.a3≠[]):Calls prog 13 #[.pointer (some ⟨b,0,none⟩),.agg (cz j)] c λu q=>u=.returned (.bool true)/\∃k l,aQ (wL b s k l e d R) f q:=by
 have G:0<s.a3.length:=YM.2 a1;have F:eK j.x s.a3.length<s.a3.length:=qa j.x G;obtain⟨m,o,rfl,-,-⟩:=CA (J.a7 (i:=3) (a:=oF 37 e s.a3) rfl) F;have E:=Z (tz (J.I (.cells (cz j) 27)) j p z);rw[Cr a3]at E;have O:=Z (λ(A:World) k l (t:aQ (wL b s k l (.slice (some ⟨m,0,none⟩) s.a3.length o) d (R++[.obj c.heap.size (.cells (cz j) 27)])) f A)=>qp (s:=s) (t.a6 (i:=0) (R:=b) rfl) (t.a7 (i:=1) (a:=bD k s.y) rfl) j.a p.2.1.1 p.2.1.2 (by have:=z.y;omega));have N:=Z (vC j.x s.a3.length p.1.1 p.1.2 G (by have:=z.a3;omega));have M:=Z (λ(A:World) k l (t:aQ (wL b s k l (.slice (some ⟨m,0,none⟩) s.a3.length o) d (R++[.obj c.heap.size (.cells (cz j) 27)])) f A)=>CA (t.a7 (i:=3) (a:=oF 37 (.slice (some ⟨m,0,none⟩) s.a3.length o) s.a3) rfl) F);have c4:(j.f==9)=false:=by simp;omega
 have b8:(j.f==10)=false:=by simp;omega
 have b9:(j.f==11)=false:=by simp;omega
 have c0:(j.f==12)=false:=by simp;omega
 have c1:(j.f==13)=false:=by simp;omega
 have c3:(j.f==14)=false:=by simp;omega
 have c2:¬(14:Int)<j.f:=by omega
 have c9:((s.a3.length:Int)==0)=false:=by simp;omega
 have c7:(0:Int)<=↑(eK j.x s.a3.length):=by omega
 have c8:(↑(eK j.x s.a3.length):Int) < ↑s.a3.length:=by omega
 generalize eK j.x s.a3.length=I at *
 generalize s.a3.getD I 0=S at *
 generalize eD s j.a=tx at *
 go_in;go_wp2_with fail;refine E.b.mono ?_;rintro u B ⟨rfl,k,l,n⟩;have r:=Z n;obtain⟨c5,b6,H,b5,c6⟩:=M.b B k l n;simp only[Value.slice.injEq,Yu,Addr.mk.injEq,and_true,true_and]at H;obtain⟨rfl,rfl⟩:=H;obtain⟨a5,a6,a7,a8,a9,b0,of,b1⟩:=dX r.b.h9;have C:=r.b.a6 (i:=0) (R:=b) rfl;have b2:B.cell? ⟨b,6,none⟩=some (.slice (some ⟨m,0,none⟩) s.a3.length o):=aR C rfl;have b3:=cF C;have b4:=aj C;have P:=Z (O.b B.drew k l r.b.ae);generalize c.heap.size=a0 at *
 go_wp2;refine cR (λq=>q.cell? ⟨b,6,none⟩=some (.slice (some ⟨m,0,none⟩) s.a3.length o)/\q.cell? ⟨a0,1,none⟩=some (.int .i64 j.x)/\q.cell? ⟨m,I,none⟩=some (nk S)) (L:=14) (by kernel_rfl) rfl (by kernel_rfl) (by kernel_rfl) ?_ (λa2=>?_)
 .go_keep
 refine bH [0,1,2,3,4,5,6,7,8,9,10] ?_;iterate 11 (refine bO (v:=?_) rfl (by kernel_rfl) (λ_ _ _ n=>n) (by kernel_rfl) (by assumption) ?_ ?_;rotate_left;focus (intro c y;(try dsimp only at y);go_simp;(try with_reducible rfl));(try simp only[aK,aL,List.set]))
 refine bI ?_;refine cj 11 (by kernel_rfl) rfl λK w=>?_;(go_simp;refine(N.b _).mono ?_;rintro u d1 ⟨rfl,rfl⟩);refine w.out _ _ ?_ (λa2=>?_)
 .go_keep
 (try simp only[aK,aL,List.set]);refine bH [12,13] ?_;iterate 2 (refine bO (v:=?_) rfl (by kernel_rfl) (λ_ _ _ n=>n) (by kernel_rfl) (by assumption) ?_ ?_;rotate_left;focus (intro c y;(try dsimp only at y);go_simp;(try with_reducible rfl));(try simp only[aK,aL,List.set]))
 refine bI ?_;refine cP (by kernel_rfl) rfl λK w=>?_;go_simp;refine w.out _ _ ?_;(try simp only[aK,aL,List.set]);go_wp2_with fail;refine P.b.mono ?_;rintro b7 d0 ⟨rfl,a4⟩;have D:=Z (r.b.ae.h a4);obtain⟨a5,a6,a7,a8,a9,b0,of,b1⟩:=dX D.b.h9;go_wp2;go_ret;exact⟨rfl,k,l,D.b.iL⟩
variable {b i : World} {j c : Nat} {s d : eO} {g h f e : Value} {k : List Th} {o : cU}
structure ii(c:Nat)(s:eO):Prop where
 y:s.y.length<=c
 cr:∀x∈s.y,x.length<=100000
 P:s.P.length<=50000+c
 a3:s.a3.length<=c
 d5:s.d5.length<=c
def ii.aP(a:ii c s)(e:c<=16384):oY s:=
 ⟨by have:=a.y;omega,λd b=>by have:=a.cr d b;omega,by have:=a.P;omega,by have:=a.a3;omega,by have:=a.d5;omega⟩
def ii.up(a:ii c s):ii (c+1) s:=
 ⟨by have:=a.y;omega,a.cr,by have:=a.P;omega,by have:=a.a3;omega,by have:=a.d5;omega⟩
def ii.text(b:ii c s)(a:Int):(eD s a).length<=100000:=by
 unfold eD;split
 .simp
 .rename_i d;have e:=qa a (YM.2 d);exact b.cr _ (by simp[e])
def ii.L(b:ii c s){d:List UInt8}(e:d.length<=100000):ii (c+1) { s with y:=s.y++[d] }:=
 ⟨by have:=b.y;simp;omega,λf a=>by
  rcases Yn.1 a with a|a
  .exact b.cr f a
  .simp at a;rw[a];exact e,b.up.P,b.up.a3,b.up.d5⟩
def Rj(a:List UInt8)(b c:Int):(oH a b c).length=a.length:=by
 unfold oH;split
 .rename_i d;rw[d]
 .simp
def ii.nW(e:ii c s)(g:o.s.length<=16384)(b:lm s o=some d):ii (c+1) d/\d.a3=s.a3/\d.d5=s.d5:=by
 have a:=e.up;unfold lm at b;split at b
 .cases b
  exact⟨⟨a.y,a.cr,by have:=e.P;simp;omega,a.a3,a.d5⟩,rfl,rfl⟩
 split at b
 .cases b
  refine⟨⟨a.y,a.cr,?_,a.a3,a.d5⟩,rfl,rfl⟩;show (if s.P=[]then s.P else nZ s.P o).length<=_
  split
  .exact a.P
  .unfold nZ;rw[YF];exact a.P
 split at b
 .cases b
  exact⟨⟨a.y,a.cr,by simp,a.a3,a.d5⟩,rfl,rfl⟩
 split at b
 .cases b
  exact⟨⟨a.y,a.cr,a.P,a.a3,a.d5⟩,rfl,rfl⟩
 split at b
 .cases b
  exact⟨⟨a.y,a.cr,a.P,a.a3,a.d5⟩,rfl,rfl⟩
 unfold mx at b;split at b
 .cases b
  exact⟨e.L (by omega),rfl,rfl⟩
 split at b
 .cases b
  exact⟨e.L (by rw[Rj];exact e.text _),rfl,rfl⟩
 split at b
 .cases b
  unfold uM;split
  .exact⟨a,rfl,rfl⟩
  .rename_i f;exact⟨e.L (by rw[Yq];omega),rfl,rfl⟩
 .cases b
def Mq(b:1<=o.f)(c:o.f<=8):∃d,lm s o=some d:=by
 have:o.f=1\/o.f=2\/o.f=3\/o.f=4\/o.f=5\/o.f=6\/o.f=7\/o.f=8:=by omega
 unfold lm mx;rcases this with a|a|a|a|a|a|a|a<;>simp[a]
def PN(v:aQ (wL j s g h f e k) i b)(n:ii c s)(G:c<=16384)(o:cU)(t:il o)(E:o.s.length<=16384)(J:o.f<=9)(z:Gl i)(F:i.cell? ⟨1,0,none⟩=some (iV 55)) :
  Calls prog 13 #[.pointer (some ⟨j,0,none⟩),.agg (cz o)] b λq r=>q=.returned (.bool true)/\∃d l m w D,aQ (wL j d l m w D k) i r/\ii (c+1) d:=by
 have u:=n.aP G;by_cases y:o.f=9
 .cases B:en (ap (eD s o.a))with
  |error I=>
   refine(PR v o t u y B z F).mono ?_;rintro q r ⟨rfl,l,m,p⟩;exact⟨rfl,s,l,m,f,e,p,n.up⟩
  |ok H=>
   refine(PL v o t u y B z).mono ?_;rintro q r ⟨rfl,S,l,m,w,p⟩;exact⟨rfl,_,l,m,w,e,p,n.up.y,n.up.cr,n.up.P,by have:=n.a3;simp;omega,n.up.d5⟩
 by_cases x:o.f<=0
 .by_cases C:s.a3=[]
  .refine(PG v o t u x C).mono ?_;rintro q r ⟨rfl,l,m,p⟩;exact⟨rfl,s,l,m,f,e,p,n.up⟩
  .refine(PH v o t u x C).mono ?_;rintro q r ⟨rfl,l,m,p⟩;exact⟨rfl,s,l,m,f,e,p,n.up⟩
 .obtain⟨d,A⟩:=Mq (s:=s) (o:=o) (by omega) (by omega);refine(PJ v o t u A).mono ?_;rintro q r ⟨rfl,l,m,p⟩;exact⟨rfl,d,l,m,f,e,p,(n.nW E A).1⟩
def Sh(b:World):aQ (wL b.heap.size ⟨[],[],[],0,0,0,[],[]⟩ (.slice none 0 0) (.slice none 0 0) (.slice none 0 0) (.slice none 0 0) []) b (b.alloc zn):=by
 have a:∀(d:TypeId) (e:Nat) (c:List Th),aQ c b b->aQ (.row d e (.slice none 0 0) 0 []::c) b b:=λd e c g=>g.cons (ah [] b) ⟨by simp,Y8 ⟨rfl,rfl⟩⟩ (λh f=>by simp[Th.bb,Value.ownBlock]at f);exact(a 9 1 _ (a 52 5 _ (a 37 1 _ (a 48 1 _ (zM b))))).d zn
def Ff{v:Value}{j:List cU}(n:lM b v j)(C:∀o∈j,il o)(R:∀o∈j,o.s.length<=1000000000000000000)(L:Gl b)(J:b.cell? ⟨1,0,none⟩=some (iV 55)) :
  Calls prog 3 #[v] b λw a4=>w=.returned (.bool true)/\ai [] b a4:=by
 have i:ai [] b (b.alloc (.cells #[.int .i64 9] 3)):=(ah [] b).d _;have I:(b.alloc (.cells #[.int .i64 9] 3)).heap[b.heap.size]? = some (.cells #[.int .i64 9] 3):=aJ rfl;have u:=Z (Mz (kv:=.slice (some ⟨b.heap.size,0,none⟩) 1 1) (ks:=[9]) (n.h i) R ⟨_,_,rfl,λS p=>⟨b.heap.size,rfl,by
  have:S=0:=by simp at p;exact p
  subst this;exact aR I rfl⟩⟩ (by simp) (λl a9 a7 N G O H=>by
   have q:=i.a N;have M:=L.h q (by simp) (by simp) (by simp);have K:=ob J q;refine RI (λc m=>∃s g h f e,aQ (wL l.heap.size s g h f e []) l m/\ii c s) G O ⟨_,_,_,_,_,Sh l,by simp,by simp,by simp,by simp,by simp⟩ (λc m a=>?_) (λc m o a a6 P=>?_)
   .obtain⟨s,g,h,f,e,k,_⟩:=a;exact k.fr
   .obtain⟨s,g,h,f,e,k,F⟩:=a;obtain⟨z,A,B⟩:=H o P;refine(PN k F (by omega) o (C o z) B (by simp at A;omega) M K).mono ?_;rintro x a8 ⟨rfl,d,a2,a3,a1,y,D,E⟩;exact⟨rfl,d,a2,a3,a1,y,D,E⟩))
 have t:=Z i;obtain⟨ad,a5,rfl,-⟩:=n;go_in;go_wp2_with fail;refine u.b.mono ?_;rintro x b0 ⟨rfl,a0⟩;have r:=Z (t.b.a a0);go_wp2;go_ret;exact⟨rfl,r.b⟩
end Go.Proofs.YtjdhaegijjednaaGreatDoor
namespace Go.Proofs.YtjdhaegijjednaaGreatDoor
open Go.ChangeShapes Go.WideShapes Go.ChangeAt Go.RowKit
open Go.Proofs.Tryz
section
variable {a:World}
def Mj:ownKnob prog.godebug=none:=by kernel_rfl
def In : Tryz.prog.globalNamed "strconv.ErrRange" = some 4 := by kernel_rfl
def Io : Tryz.prog.globalNamed "strconv.ErrSyntax" = some 3 := by kernel_rfl
def Qw:(prog.globals[4]?).map (·.type)=some 55:=by kernel_rfl
def Qy:(prog.globals[3]?).map (·.type)=some 55:=by kernel_rfl
def zZ{e:String}{c:Nat}{b:Array Value}{name:String}{f:DataW Unit}{k:List MemPlace}{g:Nat}(i:prog.globalNamed e=some c)(j:a.var? prog e=some b)
  (h:DataW.trod (λ_=>()) prog a 0 (λ_=>true) false g 55 b.toList=some (.iface name f,k)):∃m l,a.cell? ⟨c,0,none⟩=some (.iface m l):=by
 obtain⟨_,n,v,d,_,_⟩:=iface_of_trod underlying55 h
 refine⟨n,v,?_⟩;have:=World.var?_cell i j 0;obtain⟨o⟩:=b;simp only at d;subst d;simpa using this
def Im : Tryz.prog.globalNamed "errors.errorType" = some 1 := by kernel_rfl
def Qx : (Tryz.prog.cutTypes.find? (·.1 == "internal/reflectlite.rtype")).map (·.2) = some 407 := by kernel_rfl
def Qv:((List.range prog.types.size).filter λa=>prog.rowNamed a [101,114,114,111,114])=[55]:=by kernel_rfl
abbrev My : List (String × DataW Unit) := [("math/bits.deBruijn32tab", Rows.pa), ("math/bits.deBruijn64tab", Rows.pb), ("internal/strconv.uint64pow10", Rows.o8), ("strconv.ErrRange", Rows.pe), ("strconv.ErrSyntax", Rows.pm), ("marshal/fault.errInner", Rows.o9)]
def Cv  (b : laidMetH Tryz.prog Rows.f4.laid a) : laidMet Tryz.prog My a ∧ handlesMet Tryz.prog [("errors.errorType", Rows.o7)] a := b
def Ir(e:laidMetH prog Rows.f4.laid a)(h:a.ShapedOpen prog):Gl a:=by
 have d:=(Cv e).1;obtain⟨a0,⟨w,a6,m,q,N,a1,E,H,K,B,⟨x,a7,n,r,O,a2,F,I,L,C,⟨y,a8,o,s,P,a3,G,J,M,D,⟨z,a9,p,u,R,a4,b,i,k,f,⟨A,b0,sJ,v,S,a5,c,j,l,g,_,_⟩,_⟩,_⟩,_⟩,_⟩,_,_⟩:=d;obtain rfl:=YQ (In.symm.trans b);obtain rfl:=YQ (Io.symm.trans c);obtain rfl:=YQ (Qw.symm.trans i);obtain rfl:=YQ (Qy.symm.trans j);exact⟨cell_of_shapedOpen_int (zero:=#[.int .i64 0]) (t:=3) h (of_decide_eq_true (by kernel_rfl)) (by kernel_rfl) rfl (by kernel_rfl) (by kernel_rfl) underlying3,zZ c l g,zZ b k f⟩
def HD(i:laidMetH prog Rows.f4.laid a):a.cell? ⟨1,0,none⟩=some (iV 55):=by
 obtain⟨name,m,l,d,e,f,g,b⟩:=(Cv i).2 _ (Yc.2 rfl);have h:name=[101,114,114,111,114]:=(YQ d).symm;subst h;obtain rfl:=YQ (Qx.symm.trans e);have c:l∈(List.range prog.types.size).filter λk=>prog.rowNamed k [101,114,114,111,114]:=List.mem_filter.2 ⟨List.mem_range.2 f,g⟩;rw[Qv]at c;obtain rfl:=Yc.1 c;have j:typeHandle prog 55=na 55:=by kernel_rfl
 rw[j]at b;simpa using World.var?_cell Im b 0
def Ho(a:Os)(args:Array Value):laidMetH prog Rows.f4.laid ((World.doorLaid prog 88 a).forCall (λ_ _=>0) ⟨#[],args,[]⟩).memory:=
 laidMetH_of_parts3 (fuel:=8) (laidMet_of_run' 8 (by kernel_rfl) (by kernel_rfl)) (by kernel_rfl) (by kernel_rfl)
section
variable {c : Type} {b : TypeId × Value -> c}
def JA{C:Checked}{n:Os}{i:FuncId}{f:Func}{h:ChangeSpec}{X:World->Array Value->Prop}
  (y:∀(d w':World) (args:Array Value),d.heap=w'.heap->X d args->X w' args)
  (R:ownKnob C.prog.godebug=none) (S:n.Started) (P:C.prog.inits.idxOf? i=none) (B:C.prog.funcs[i]? = some f)
  (a0:∃(d:World) (g:Tape) (e:Input),d.os=n/\(d.forCall g e).Shaped C.prog/\e.vars=[]/\Input.okWide C.prog (d.forCall g e) .any d.heap.size i e/\
   ((h.pre b C.prog f [] false (d.forCall g e).memory e.args/\X (d.forCall g e).memory e.args)/\sizedMet b C.prog f (OpenSpec.ofChange h) false (d.forCall g e).memory e.args)/\({}:Assume).holds C.prog (lone (Frame.enter C.prog i e.args .normal) [] (d.forCall g e)))
  (t:∀(a:World) (r:Nat) (args:Array Value) (l m:List (DataW c)) (k:List MemPlace),
   (∀(p:Nat) q v,f.params[p]? = some q->args[p]? = some v->Value.okWide C.prog a .any r q v)->
   DataW.Whole b C.prog f.params.toList h.vars false a args.toList l m k->X a args->sizedMet b C.prog f (OpenSpec.ofChange h) false a args->a.ShapedOpen C.prog->
   Calls C.prog i args a λj o=>∃v,j=.returned v/\h.post b C.prog f false true false false a args v o) :
  ReturnsInHanded {} C n i .any (λd args=>(h.pre b C.prog f [] false d args/\X d args)/\sizedMet b C.prog f (OpenSpec.ofChange h) false d args) (h.post b C.prog f false true false false):=by
 refine returnsInHanded_of_calls R S P a0 ?_;intro d g e _ I _ E H _;obtain⟨_,_,_,w,D,_,_,_,_,J⟩:=E;have j:w=f:=YQ (D.symm.trans B);subst j;obtain⟨⟨⟨l,m,k,K,a1⟩,N⟩,O⟩:=H;have L:=DataW.Whole.of_heap (w':=d.forCall g e) (by rfl) K;obtain⟨G,u,x,s,M,z⟩:=O;refine(t (d.forCall g e) d.heap.size e.args l m k J L (y _ _ _ (by rfl) N) ⟨G,u,x,s,DataW.Whole.of_heap (w':=d.forCall g e) (by rfl) M,z⟩ I).mono λj o ⟨v,A,F⟩=>?_;subst A;exact ChangeSpec.post_blind F
end
def FP{b c:World}(a:ai [] b c):Below b.heap.size b c:=⟨a.os,a.c2,a.c1,a.F,λe d=>a.i e d (by simp)⟩
end
end Go.Proofs.YtjdhaegijjednaaGreatDoor
namespace Go.Proofs.YtjdhaegijjednaaGreatDoor
open Go.ChangeShapes Go.WideShapes
open Go.Proofs.Tryz
def Jx:laidOutB prog=true:=by kernel_rfl
instance:Inhabited cU:=⟨⟨0,0,0,0,0,[]⟩⟩
def Kg{c:Type}{e g:Nat}{d:DataW c}:∀{b:List (DataW c)},d∈b->g∈DataW.weights prog e d->g∈DataW.weightsAll prog e b:=by
 intro b;induction b with
 |nil=>intro a;cases a
 |cons i b h=>
  intro a f;simp only[DataW.weightsAll,Yn];rcases Yg.1 a with rfl|a
  .exact Y8 f
  .exact Ya (h a f)
def Md{I:Type}{b0:TypeId×Value->I}{i:World}{v:Value}{u:DataW I}{d9:List MemPlace}
  {a7:Nat} (c7:Value.okWide prog i .any a7 22 v) (b7:DataW.Trod b0 prog i 0 (λ_=>true) true 22 v u d9) (p:∀m∈DataW.weights prog 22 u,m<=reachBytes):∃A,lM i v A/\(∀q∈A,il q)/\∀q∈A,q.s.length<=1000000000000000000:=by
 obtain⟨g3,a3⟩:=b7;obtain⟨J,e,r,rfl⟩:=okWide_slice underlying22 c7;rw[show (Value.slice J e r).cells.toList=[.slice J e r]from rfl]at a3;rcases Go.Deep.open_slice underlying22 a3 with⟨o,_⟩|⟨c,g2,f9,a4,m,n,f2,o,_,a2,c0,c5,c9,g⟩
 .simp only[List.cons.injEq,Value.slice.injEq,and_true]at o;obtain⟨rfl,rfl,rfl⟩:=o;exact⟨[],⟨none,0,rfl,Y4 _,YV _,λb a f=>by simp at f⟩,by simp,by simp⟩
 .simp only[List.cons.injEq,Value.slice.injEq,and_true]at o;obtain⟨rfl,rfl,rfl⟩:=o;have g1:e<=a4:=by rw[c5];simpa using a2
  have c2:u=.slice ((List.range e).map n) ((List.range (a4-e)).map λl=>n (e+l)):=Yo Prod.fst c9;have c8:∀d,d<e->∀m∈DataW.weights prog 27 (n d),m<=reachBytes:=by
   intro d w m c6;refine p m ?_;rw[c2];simp only[DataW.weights,underlying22];exact Y5 _ (Yf _ (Kg (YE.2 ⟨d,List.mem_range.2 w,rfl⟩) c6))
  have K:prog.cellsOf 27=6:=by kernel_rfl
  have a9:∀d,d<e->∃a:cU,c.spot=none/\so i c.block (c.off+d*6) a/\il a/\a.s.length<=1000000000000000000:=by
   intro d w;obtain⟨a8,a0,b8⟩:=g d (by omega);rw[K]at a0;obtain⟨_,c3,j⟩:=World.cells?_some a0;obtain⟨e5,b,f,d1,_,d0,k⟩:=DataW.trod_struct underlying27 b8;match e5,d0,a8,c3 with
   |[e6,e7,e8,e9,f0,f1],_,[r,f4,f5,f6,f7,f8],_=>
    have b1:=k 0 _ rfl;have b2:=k 1 _ rfl;have b3:=k 2 _ rfl;have b4:=k 3 _ rfl;have b5:=k 4 _ rfl;have b6:=k 5 _ rfl;obtain⟨d4,L,_,g4⟩:=DataW.trod_int underlying3 b1;obtain⟨d5,M,_,e1⟩:=DataW.trod_int underlying3 b2;obtain⟨d6,N,_,e2⟩:=DataW.trod_int underlying3 b3;obtain⟨d7,O,_,e3⟩:=DataW.trod_int underlying3 b4;obtain⟨d8,P,_,e4⟩:=DataW.trod_int underlying3 b5;obtain⟨B,R,e0,g5⟩:=DataW.trod_string underlying9 b6;have d2:prog.cellsOf 3=1:=by kernel_rfl
    have d3:prog.cellsOf 9=1:=by kernel_rfl
    simp[d2,d3]at L M N O P R;subst L M N O P R;have C:=j 0 (by omega);have D:=j 1 (by omega);have E:=j 2 (by omega);have F:=j 3 (by omega);have G:=j 4 (by omega);have H:=j 5 (by omega);rw[Go.Deep.add_add]at C D E F G H;simp only[List.getElem?_cons_zero,List.getElem?_cons_succ]at C D E F G H;have z:c.spot=none:=by
     obtain⟨f3,a1,_⟩:=g 0 (by omega);rw[K]at a1;obtain⟨_,g0,c1⟩:=World.cells?_some a1;have p:=c1 0 (by omega);rw[Go.Deep.add_add]at p;rw[Yd (by omega)]at p;exact World.cell?_spot (a:=c) (by simpa[Addr.add]using p)
    have h:∀l a,i.cell? (c.add l)=some a->i.cell? ⟨c.block,c.off+l,none⟩=some a:=by
     intro l a x;obtain⟨a6,q,g6⟩:=c;simp only at z;subst z;unfold Addr.add at x;by_cases S:l=0
     .subst S;simpa using x
     .simpa[S]using x
    refine⟨⟨d4,d5,d6,d7,d8,B.data.toList⟩,z,⟨h _ _ C,h _ _ D,h _ _ E,h _ _ F,h _ _ G,h _ _ H⟩,⟨bounds_i64 e1,bounds_i64 e2,bounds_i64 e3,bounds_i64 e4⟩,?_⟩;have b9:n d=.agg [e6.1,e7.1,e8.1,e9.1,f0.1,f1.1]:=Yo Prod.fst d1;have c4:B.data.toList.length∈DataW.weights prog 27 (n d):=by
     rw[b9,e0];simp only[DataW.weights,underlying27];simp[DataW.weightsEach,DataW.weights]
    have:=c8 d w _ c4;unfold reachBytes at this;show B.data.toList.length<=_;omega
  obtain⟨t,s⟩:=Go.Deep.choose_lt a9;have a5:∀a∈(List.range e).map t,∃b,b<e/\t b=a:=λa g=>by
   obtain⟨b,f,rfl⟩:=YE.1 g;exact⟨b,List.mem_range.1 f,rfl⟩
  refine⟨(List.range e).map t,⟨some c,r,by simp,by simpa using a2,c0,?_⟩,?_,?_⟩
  .intro b a f;have y:b<e:=by have:=(YB.1 f).1;simpa using this
   obtain rfl:t b=a:=by simpa[y]using f
   refine⟨c.block,c.off,?_,(s b y).2.1⟩;obtain⟨a6,q,h⟩:=c;have:=(s b y).1;simp only at this;subst this;rfl
  .intro a g;obtain⟨b,f,rfl⟩:=a5 a g;exact(s b f).2.2.1
  .intro a g;obtain⟨b,f,rfl⟩:=a5 a g;exact(s b f).2.2.2
end Go.Proofs.YtjdhaegijjednaaGreatDoor
namespace Go.Proofs.YtjdhaegijjednaaGreatDoor
open Go.Proofs.Tryz
def Nk:joinedFacts Tryz.iq.checked.prog 3 Tryz.f3 Rows.i8 Rows.f4=true:=by
 unfold joinedFacts;simp only[Bool.and_eq_true];repeat' apply Yp
 all_goals (as_aux_lemma=>kernel_rfl)
def Nt:Rows.f4.wfByText (OpenSpec.ofChange Rows.i8)=true:=by kernel_rfl
def Nq:Tryz.iq.checked.prog.mainIs=some (Rows.kl.stood.harness.1,Rows.kl.stood.harness.2.toList):=by kernel_rfl
def Nm:Tryz.iq.checked.prog.funcNamed Rows.f4.func=some 3:=by kernel_rfl
def Np:true=Tryz.iq.checked.prog.looks []:=by kernel_rfl
def Ns:Tryz.iq.checked.prog.wantsStandIn 22=false:=by kernel_rfl
def Nn:false=Rows.f4.goesBy Tryz.iq.checked.prog:=by kernel_rfl
end Go.Proofs.YtjdhaegijjednaaGreatDoor
namespace Go.Proofs.YtjdhaegijjednaaGreatDoor
open Go.ChangeShapes Go.WideShapes Go.ChangeAt Go.RowKit
open Go.ChangeMaps (open_string shut_string)
open Go.Proofs.Tryz
def No(os:Os)(a4:os.Started)(r:Type)(enc:TypeId×Value->r) :
  ReturnsInHanded {} Tryz.checked os 3 .any (λa args=>(Rows.i8.pre enc prog Tryz.f3 [] false a args/\laidMetH prog Rows.f4.laid a)/\sizedMet enc prog Tryz.f3 (OpenSpec.ofChange Rows.i8) false a args)
   (Rows.i8.post enc prog Tryz.f3 false true false false):=by
 refine JA (C:=Tryz.checked) (X:=λa _=>laidMetH prog Rows.f4.laid a) (λ_ _ _ H d=>d.of_heap H) Mj a4 (by kernel_rfl) func3
  (ChangeSpec.witness_shaped (enc:=enc) (C:=Tryz.checked) (os:=os) (X:=λa _=>laidMetH prog Rows.f4.laid a) false (World.doorLaid prog 88 os) #[.slice none 0 0] 8 rfl (World.shaped_of_RefB (by kernel_rfl) (by kernel_rfl)) (by kernel_rfl) (by kernel_rfl) (by kernel_rfl) (Ho os _)) ?_
 intro b s args u b4 a9 n k j E N;have m:∀(o:Nat) q v,Tryz.f3.params[o]? = some q->args[o]? = some v->Value.okWide prog b .any s q v:=n;have D:=k;obtain⟨S,c1,h,B,rfl,b7,b8⟩:=k;have g:DataW.TrodAll enc prog b 0 (λ_=>true) true Tryz.f3.params.toList args.toList u S:=h;rw[params3]at g m;obtain⟨c,c5,b0,b1,a0,c2,b6,rfl,rfl,x,a2⟩:=trodAll_cons g;obtain⟨rfl,rfl,rfl⟩:=trodAll_nil a2;obtain rfl:args=#[c]:=by cases args;simp_all
 obtain⟨rfl,rfl⟩:=trodVars_none B;have p:=x;have P:∀a6∈a0,a6.block<b.heap.size:=by obtain⟨R,K⟩:=p;exact DataW.trod_lt R _ _ _ K
 obtain⟨_,w,b5,a8,⟨a1,c3,A,_⟩,l⟩:=E;have i:DataW.TrodAll enc prog b 0 (λ_=>true) true Tryz.f3.params.toList [c] w a1:=A;rw[params3]at i;obtain⟨a5,c6,t,b2,c0,c4,F,rfl,rfl,y,a3⟩:=trodAll_cons i;obtain⟨rfl,rfl,rfl⟩:=trodAll_nil a3;obtain rfl:c=a5:=by simpa using F
 rw[params3]at l;have O:∀e∈DataW.weights prog 22 t,e<=reachBytes:=λe L=>by
  have:=List.all_eq_true.1 l e (by simp only[YX,YT,DataW.weightsEach];exact Yf _ L);simpa using this
 obtain⟨b9,J,z,M⟩:=Md (m 0 22 c rfl rfl) y O;clear h n;refine(Ff J z M (Ir j N) (HD j)).mono λb3 a7 ⟨G,I⟩=>?_;subst G;have f:=FP I;exact⟨_,rfl,_,_,_,[],_,[],D,trodAll_mk1 (shut_bool underlying4 _),(trodAll_cons_mk (Below.trod Jx (by kernel_rfl) (of_decide_eq_true (by kernel_rfl)) p f P) trodAll_mk0),rfl,f.frame _,λd=>by cases d⟩
def Nr:Rows.o5:=
 OpenClaim.holds_of_wide 3 Tryz.f3 rfl rfl rfl rfl rfl rfl rfl ⟨rfl,rfl,rfl,rfl,rfl⟩ rfl rfl rfl rfl rfl (by kernel_rfl) func3 Nk
  (of_decide_eq_true (by kernel_rfl)) (by unfold Func.isWrapper;rw[Y2 (of_decide_eq_false (by kernel_rfl))];exact⟨rfl,rfl⟩)
  (λc d a b _=>No c d a b)
theorem reads_card:Rows.o4:=
 Claim7.holds_tied_plain_at .later [] Rows.kl.laidKinds true Rows.kl.stood.harness true
  Nr (λ_ a=>by cases a) Nt (λ_ a=>by cases a) reads_row_tie rfl ⟨rfl,rfl⟩ Nq rfl
  (λc d e f=>by
   obtain rfl:c=3:=YQ (Nm.symm.trans e) |>.symm;obtain rfl:d=Tryz.f3:=(YQ (func3.symm.trans f)).symm;exact⟨Np,λi h b=>by
    rw[params3]at b;have g:h∈[22]:=by simpa using Array.mem_of_getElem? b
    rw[Yc.1 g];exact Ns⟩)
  Nn
end Go.Proofs.YtjdhaegijjednaaGreatDoor
