import Derived.Test.YtjdhaegijjednaaGreatDoorT4
import Derived.Deep.CutBlock
import Derived.Deep.DeepCutAuto
import Derived.Test.YtjdhaegijjednaaGreatDoorProg
import Derived.WalkKit
import Derived.LaidEql
import Derived.Stop.Asserts
import Derived.RowKitTokens
import Derived.Test.YtjdhaegijjednaaGreatDoorRows
import Derived.Test.YtjdhaegijjednaaGreatDoorTie
import Derived.Test.YtjdhaegijjednaaGreatDoorCards
import Derived.ProofKit
import Derived.LaidMore
import Derived.OpenShut
import Derived.Stop.Joined
import Derived.LaidHandle
import Derived.SevenTiedAt
import Derived.Shelf.Vars
import Derived.ShutString
import Derived.ChangeOld
import Derived.Deep.Slices
import Derived.Lib.LaidTab
set_option linter.all false
set_option maxRecDepth 100000
set_option maxHeartbeats 4000000
namespace Go.Proofs.YtjdhaegijjednaaGreatDoor
open Go.RowKit
open Go.Proofs.Tryz
section
variable {t : Zb} {b i : St} {a c h j m : ae} {f d : bz} {g : Mar.aw}
def dh(a c:ae):Prop:=∃b,c.w=a.w++b
theorem mJ(a:ae):dh a a:=⟨[],by simp⟩
theorem dh.u(b:dh a c)(d:dh c h):dh a h:=by
 obtain⟨e,g⟩:=b;obtain⟨f,i⟩:=d;exact⟨e++f,by simp_all⟩
def cC.bo(b:cC a c):dh a c:=by obtain⟨e,d,-⟩:=b.w;exact⟨e,d⟩
def IA(b:c.w=a.w):dh a c:=⟨[],by simp_all⟩
def xd(b:bg)(a:ae):dh a (cm b a):=⟨[b],rfl⟩
def uj(b:Zb)(a:ae):dh a (er b a):=mJ _
def Au(c:Zb)(b:Int)(a:ae):dh a (du c b a):=by
 unfold du gz;split<;>exact⟨[],by simp⟩
def xe(c:Zb)(b:Int)(a:ae):dh a (dq c b a):=by
 unfold dq gz;split<;>exact⟨[],by simp⟩
def na(b:Int)(a:ae):dh a (aR t b a).2:=IA (mr b a)
theorem Ix(a:ae):dh a (fT t a):=by
 unfold fT;simp only;generalize e:aR t 2 (af t 2 [99,111,110,115,116] (aD a.av 40 a))=b;have c:dh a b.2:=by rw[<-e];exact((cD _ _ _).u (az _ _ _)).aa.bo.u (na _ _)
 have d:dh a (af t 4 [59] (bn t (-2147483648) 4294967295 (af t 4 [61] b.2)).2):=c.u ((az _ _ _).u ((fZ _ _ _).u (az _ _ _))).aa.bo;split
 .omega
 .exact d.u ((Au _ _ _).u (uj _ _))
def ID(a:ae):dh a (gj t a):=by
 unfold gj;simp only;generalize d:ch t [] true (af t 2 [116,121,112,101,100,101,102] a)=b;have c:dh a b.2:=by rw[<-d];exact((az _ _ _).aa.u (kJ _ _ _)).bo
 split
 .omega
 .exact c.u (mJ _)
def As:∀(c:Nat) (b:List Int) (d:Zb) (a:ae),dh a (da t c b d a).2.2.2:=by
 intro c;induction c with
 |zero=>intro b d a;exact mJ _
 |succ c i=>
  intro b d a;by_cases h:a.s.e=0
  .rw[qG h];have f:dh a (eO t b a):=by
    unfold eO;refine dh.u ?_ (jv _ _ _ _).aa.bo;unfold ge hC;exact((cD _ _ _).u (cD _ _ _)).aa.bo.u ((na _ _).u ((az _ _ _).u (fZ _ _ _)).aa.bo)
   have g:dh a (fD t b a):=by
    unfold fD;split
    .omega
    .exact f.u (Au _ _ _)
   split
   .omega
   .split
    .exact g.u ((eu _).aa.bo.u (i _ _ _))
    omega
  grind [pl,mJ]
def Iz(a:ae):dh a (gK t a):=by
 unfold gK;simp only;generalize g:aR t 2 (af t 2 [101,110,117,109] a)=b;have d:dh a b.2:=by rw[<-g];exact(az _ _ _).aa.bo.u (na _ _)
 generalize f:da t 13 [] ([101,110,117,109,32]++b.1.text++[32,123,32]) (af t 4 [123] b.2)=c;have e:dh a c.2.2.2:=by rw[<-f];exact d.u ((az _ _ _).aa.bo.u (As _ _ _ _))
 split
 .omega
 .exact e.u (((az _ _ _).u (az _ _ _)).aa.bo.u ((xd _ _).u ((xe _ _ _).u (uj _ _))))
def Ag:∀(b:Nat) (d:List Int) (c:Zc) (f:Zb) (a:ae),dh a (dv t b d c f a).2.2:=by
 intro b;induction b with
 |zero=>intro d c f a;exact mJ _
 |succ b i=>
  intro d c f a;by_cases h:a.s.e=0
  .rw[td h];have g:dh a (af t 4 [59] (fv t d.length c a).2):=((cD _ _ _).aa.u ((kJ _ _ _).u (az _ _ _).aa)).bo;split
   .omega
   .exact g.u (i _ _ _ _)
  grind [tf,mJ]
def IC(a:ae):dh a (gA t a):=by
 exact(az _ _ _).aa.bo.u ((na _ _).u ((az _ _ _).aa.bo.u ((Ag _ _ _ _ _).u (((az _ _ _).u (az _ _ _)).aa.bo.u ((xd _ _).u ((xe _ _ _).u (uj _ _)))))))
def Av(of:Int):∀(c:Nat) (b g:List Int) (d:Zc) (f:Zb) (a:ae),dh a (dH t of c b g d f a).2:=by
 intro c;induction c with
 |zero=>intro b g d f a;exact mJ _
 |succ c j=>
  intro b g d f a;by_cases i:a.s.e=0
  .rw[pW i];have h:dh a (cM t d (cy t of (14-b.length) b [] a).2).2:=((mU _ _ _ _ _).1.aa.u (mg _ _)).bo;split
   .exact h.u (j _ _ _ _ _)
   omega
  grind [pX,mJ]
def IE(a:ae):dh a (gm t a):=by
 exact(az _ _ _).aa.bo.u ((na _ _).u (((az _ _ _).u ((az _ _ _).u ((oC _).u ((ki _).u ((az _ _ _).u (az _ _ _)))))).aa.bo.u ((Av _ _ _ _ _ _ _).u ((sf _ _).bo.u (((az _ _ _).u (az _ _ _)).aa.bo.u ((xd _ _).u ((xe _ _ _).u (uj _ _))))))))
theorem IB(a:ae):dh a (gg t a):=by
 unfold gg;simp only;generalize g:aR t 2 (af t 2 [112,114,111,103,114,97,109] (aD a.O.length 4 a))=b;have c:dh a b.2:=by rw[<-g];exact((cD _ _ _).u (az _ _ _)).aa.bo.u (na _ _)
 generalize f:ec t 6 [] [] [] ([112,114,111,103,114,97,109,32]++b.1.text++[32,123,32]) (af t 4 [123] b.2)=v;have d:dh a (af t 4 [125] v.2):=by rw[<-f];exact c.u (((az _ _ _).aa.u ((sh _ _ _ _ _ _).u (az _ _ _).aa)).bo)
 have e:=d.u (mh (t:=t) (af t 4 [125] v.2).O _).bo;exact e.u (mJ _)
def se(e:¬aH a 2 [99,111,110,115,116]=true)(f:¬aH a 2 [112,114,111,103,114,97,109]=true)(h:a.s.x.C=2):bV t a =
  if a.s.x.text=[116,121,112,101,100,101,102]then gj t (gi a)else if a.s.x.text=[101,110,117,109]then gK t (gi a)else if a.s.x.text=[115,116,114,117,99,116]then gA t (gi a)else if a.s.x.text=[117,110,105,111,110]then gm t (gi a)else dj a:=by
 unfold bV;rw[Y2 e,Y2 f];by_cases b:a.s.x.text=[116,121,112,101,100,101,102]
 .rw[Y2 (by simp_all),Y9 b,Y9 b];rfl
 .by_cases c:a.s.x.text=[101,110,117,109]
  .rw[Y2 (by simp_all),Y2 b,Y9 c,Y2 b,Y9 c];rfl
  .by_cases d:a.s.x.text=[115,116,114,117,99,116]
   .rw[Y2 (by simp_all),Y2 b,Y2 c,Y9 d,Y2 b,Y2 c,Y9 d];rfl
   .by_cases g:a.s.x.text=[117,110,105,111,110]
    .rw[Y2 (by simp_all),Y2 b,Y2 c,Y2 d,Y2 b,Y2 c,Y2 d,Y9 g];rfl
    simp_all
def sq(a:ae):dh a (gi a):=(cD a.L 24 a).aa.bo
def Iy(a:ae):dh a (bV t a):=by
 by_cases b:aH a 2 [99,111,110,115,116]=true
 .simp_all[bV,Ix]
 .by_cases c:aH a 2 [112,114,111,103,114,97,109]=true
  .simp_all[bV,IB]
  .by_cases d:a.s.x.C=2
   .rw[se b c d];split
    .exact(sq a).u (ID _)
    .split
     .exact(sq a).u (Iz _)
     .split
      .exact(sq a).u (IC _)
      .split
       .exact(sq a).u (IE _)
       .exact(ta a).aa.bo
   .unfold bV;rw[Y2 b,Y2 c,Y9 (Y8 d)];exact(ta a).aa.bo
def pt:List (Zb×Nat×Int)->Zb
 |[]=>[]
 |[a]=>it a
 |a::c::b=>it a++[44,32]++pt (c::b)
theorem Jj(a:List (Zb×Nat×Int))(b:Zb×Nat×Int):pt (a++[b])=a.flatMap (λb=>it b++[44,32])++it b:=by
 induction a with
 |nil=>rfl
 |cons c a d=>
  cases a<;>grind [pt]
def lm:aB->Zb
 |.const a _ v=>tV a v
 |.typedef d=>vK d
 |.enum a _ b=>[101,110,117,109,32]++a++[32,123,32]++pt b++[32,125,59,10]
 |.struct a _ b=>yw a b
 |.union a _ f c=>yC a f c
 |.prog a _ g e=>qV a g e
def zK:aB->List (Int×Int×dN)
 |.prog _ _ c b=>(c.flatMap nC).map λa=>(b,a)
 |_=>[]
def YL(d:List bg)(e:List (Int×Int×dN))(f:List br):Prop:=f.length=e.length/\∀(c:Nat) (a:Int×Int×dN) (b:br),e[c]? = some a->f[c]? = some b->b.prog=a.1/\b.fn=a.2.1/\b.jN=a.2.2.num/\dt d a.2.2.cF b.cF/\dt d a.2.2.c2 b.c2
def qu(a:List bg):YL a [] []:=⟨rfl,λd b e c=>by simp⟩
theorem YL.ca{e:List bg}{f j:List (Int×Int×dN)}{l m:List br}(a:YL e f l)(i:YL e j m):YL e (f++j) (l++m):=by
 refine⟨by simp[a.1,i.1],?_⟩;intro h g k b c;rcases Yj h f.length with d|d
 .rw[Ys d]at b;rw[Ys (by rw[a.1];omega)]at c;exact a.2 h g k b c
 .rw[Yw d]at b;rw[Yw (by rw[a.1];omega),a.1]at c;exact i.2 _ g k b c
def YL.bo{e:List (Int×Int×dN)}{f:List br}(b:YL a.w e f)(q:dh a c):YL c.w e f:=⟨b.1,λp g r m n=>by
 obtain⟨h,i,j,k,l⟩:=b.2 p g r m n;obtain⟨d,o⟩:=q;rw[o];exact⟨h,i,j,k.ca d,l.ca d⟩⟩
def XL.yl{h:List bg}{g:Int}{b:List (Int×dN)}{i:List br}(d:XL h g b i):YL h (b.map λc=>(g,c)) i:=by
 refine⟨by simp[d.1],?_⟩;intro f c l a j;rw[List.getElem?_map]at a;cases e:b[f]? with
 |none=>simp_all
 |some k=>
  rw[e]at a;simp at a;subst a;exact d.2 f k l e j
def HV{c:Mar.aT}{a:Nat}(d:dK t b.m b.nx=.ok (c,a)):hW (gq (aA t)) b=hW (dQ (aA t) c) { b with m:=a,nx:=none }:=by
 unfold hW gq aF;rw[mj d]
def CE(h:Q t f b a)(p:f.pd=[])(o:f.dc=0):S t (λj d=>∃u,oL f d j (lm j) u/\YL (bV t a).w (zK j) u) (hW (gq (aA t)) b) (bV t a):=by
 rcases pk t b with⟨c,E,e⟩|⟨g,e⟩
 .rw[HV e];have C:=h.wd;rw[e]at C;obtain⟨⟨F,G,a1,a2,a3⟩,I⟩:=C;have a5:=h.is e (kd:=2) (l:=[99,111,110,115,116]) (by rfl);have a6:=h.is e (kd:=2) (l:=[112,114,111,103,114,97,109]) (by rfl);by_cases R:c.text=[99,111,110,115,116]
  .have B:aH a 2 [99,111,110,115,116]=true:=by simp_all
   have i:dQ (aA t) c=jm (aA t) c.m:=by simp_all[dQ]
   have n:bV t a=fT t a:=by unfold bV;simp_all
   rw[i,n];refine(Pb h p o e B).K ?_;rintro j d ⟨m,q,v,rfl,ok⟩;exact⟨[],ok,qu _⟩
  .have L:¬aH a 2 [99,111,110,115,116]=true:=by simp_all
   by_cases a0:c.text=[112,114,111,103,114,97,109]
   .have B:aH a 2 [112,114,111,103,114,97,109]=true:=by simp_all
    have i:dQ (aA t) c=ia (aA t) c.m:=by unfold dQ;simp_all
    have n:bV t a=gg t a:=by simp_all[bV]
    rw[i,n];refine(Pm h p o e B).K ?_;rintro j d ⟨m,q,b0,a8,u,rfl,ok,J⟩;exact⟨u,ok,J.yl⟩
   .have M:¬aH a 2 [112,114,111,103,114,97,109]=true:=by simp_all
    by_cases D:a.s.x.C=2
    .rw[se L M D,G];by_cases w:c.text=[116,121,112,101,100,101,102]
     .have i:dQ (aA t) c=jw (aA t) c.m:=by unfold dQ;simp_all
      rw[i,Y9 w];refine(Ps h p o e (by rw[h.is e (by rfl),w];rfl)).K ?_;rintro j d ⟨O,rfl,ok⟩;exact⟨[],ok,qu _⟩
     .rw[Y2 w];by_cases y:c.text=[101,110,117,109]
      .have i:dQ (aA t) c=gX (aA t) c.m:=by unfold dQ;simp_all
       rw[i,Y9 y];refine(Pc h p o e (by rw[h.is e (by rfl),y];rfl)).K ?_;rintro j d ⟨m,q,K,a7,rfl,ok⟩;refine⟨[],?_,qu _⟩;grind [lm,Ae,Jj]
      .rw[Y2 y];by_cases z:c.text=[115,116,114,117,99,116]
       .have i:dQ (aA t) c=iX (aA t) c.m:=by unfold dQ;simp_all
        rw[i,Y9 z];refine(Pq h p o e (by rw[h.is e (by rfl),z];rfl)).K ?_;rintro j d ⟨m,q,K,rfl,ok⟩;exact⟨[],ok,qu _⟩
       .rw[Y2 z];by_cases A:c.text=[117,110,105,111,110]
        .have i:dQ (aA t) c=dT (aA t) c.m:=by unfold dQ;simp_all
         rw[i,Y9 A];refine(Pt h p o e (by rw[h.is e (by rfl),A];rfl)).K ?_;rintro j d ⟨m,q,a9,N,rfl,ok⟩;exact⟨[],ok,qu _⟩
        .rw[Y2 A];have i:dQ (aA t) c { b with m:=E,nx:=none } = .error ⟨3,c.m⟩:=by
          unfold dQ;rw[Y2 (by simp_all),Y2 (by simp_all),Y2 (by simp_all),Y2 (by simp_all),Y2 (by simp_all),Y2 (by simp_all)];rfl
         rw[hX i];exact h.gd e
    .have s:∀m,Mar.d2 m=true->c.text≠m:=λm a4 P=>D (by rw[F];exact I.h5 (by simp_all));have n:bV t a=dj a:=by simp_all[bV]
     have i:dQ (aA t) c { b with m:=E,nx:=none } = .error ⟨3,c.m⟩:=by
      unfold dQ;rw[Y2 (by simp_all),Y2 (by simpa using s [116,121,112,101,100,101,102] (by rfl)),Y2 (by simpa using s [101,110,117,109] (by rfl)),Y2 (by simpa using s [115,116,114,117,99,116] (by rfl)),Y2 (by simpa using s [117,110,105,111,110] (by rfl)),Y2 (by simp_all)];rfl
     rw[hX i,n];exact h.gd e
 .have H:hW (gq (aA t)) b=.error g:=by
   simp_all[hW,gq,aF,nk]
  have r:=h.bd e;have n:bV t a=dj a:=by
   unfold bV;rw[Y2 (by rw[r.is (by omega)];simp),Y2 (by rw[r.is (by omega)];simp),Y9 (Y8 (by rw[r.k];omega))]
  rw[H,n];exact r.g2
end
end Go.Proofs.YtjdhaegijjednaaGreatDoor
namespace Go.Proofs.YtjdhaegijjednaaGreatDoor
open Mar (bG)
open Go.Proofs.Tryz
section
variable {a d c : Zb} {b : Zc}
theorem BN{b:UInt8}(e:a=b::d)(f:(Mar.dn b||b==45)=true):ef a:=by
 intro c;have:=List.all_eq_true.1 (show (re.all λa=>a.head?.all λb=>!(Mar.dn b||b==45))=true by rfl) _ c;simp_all
def Hl(a:Nat):∃b d,Lib.decDigits a=b::d/\Mar.dn b=true:=by
 induction a using Nat.strongRecOn with
 |_ a c=>
  rw[Lib.decDigits];split
  .refine⟨_,[],rfl,?_⟩;simp[Mar.dn];omega
  .obtain⟨b,d,e,f⟩:=c (a / 10) (by omega);simp_all
def qO(a:Int):ef (Lib.itoa a):=by
 unfold Lib.itoa;split
 .exact BN rfl rfl
 .obtain⟨b,d,c,e⟩:=Hl a.toNat;grind [BN]
def ri{c:Ty}(b:Sg c):ef (dm c):=by
 rcases b with rfl|b
 .decide
 .cases c with
  |plain a=>
   have:a=0\/a=1\/a=2\/a=3\/a=4:=by have:a<=4:=b;omega
   rcases this with rfl|rfl|rfl|rfl|rfl<;>decide
  |named d _=>exact b
  |_=>exact absurd b id
abbrev Lf(a:Zb):Prop:=a ∉ ([[],[40],[91],[60],[42]]:Zc)
abbrev Rt(d:Zb):Prop:=d ∉ ([[59],[44],[58],[41],[91],[93],[60],[62],[40]]:Zc)
theorem kN(b:ef a):Lf a:=λc=>b (by grind [re])
theorem ib(b:ef a):Rt a:=λc=>b (by revert c;simp only[re,Yg];grind)
def Fk(b:Lf a)(c:Rt d):bt a d=true:=by
 simp_all[Lf,Rt,bt]
def Fj(b:ef a):bt a [40]=false:=by
 simp_all[ef,re,bt]
theorem oY(a:Zb):bt a [59]=false/\bt a [44]=false/\bt a [58]=false/\bt a [41]=false/\bt a [91]=false/\bt a [93]=false/\bt a [60]=false/\bt a [62]=false:=by simp[bt]
theorem lY(d:Zb):bt [] d=false/\bt [40] d=false/\bt [91] d=false/\bt [60] d=false/\bt [42] d=false:=by simp[bt]
theorem jy{c:Zb}(d:Lf a)(e:Rt c):bG bt a (c::b)=32::(c++bG bt c b):=by simp[bG,Fk d e]
def jn{c:Zb}(d:bt a c=false):bG bt a (c::b)=c++bG bt c b:=by simp[bG,d]
theorem wK{g:aO}(k:Dg g)(r:Lf a){d:Zb}(o:∀a,bt a d=false):bG bt a (eI g++d::b)=32::(kL g.H++g.t++mS g.H++d++bG bt d b):=by
 obtain⟨c,s,j⟩:=g;obtain⟨u,h⟩:=k;have n:∀(e:Int) (f:Bool),bG bt c (jT e f++d::b)=rY e f++d++bG bt d b:=by
  simp_all[jT,rY,bO,bG,oY,lY]
 have m:∀(i:Zb) (b:Zc),ef i->bG bt a (i::c::b)=32::(i++32::(c++bG bt c b)):=λi b k=>by grind [jy,ib,kN]
 have q:Tg j->bG bt a ([dm j,c]++d::b)=32::(dm j++[32]++c++[]++d++bG bt d b):=λk=>by
  show bG bt a (dm j::c::d::b)=_;rw[m _ _ (ri (Ya k)),jn (o _)];simp
 cases j with
 |opaq e f=>
  show bG bt a ([111,112,97,113,117,101]::c::(jT e f++d::b))=_;rw[m _ _ (by decide),n];simp[kL,mS]
 |str e f=>
  obtain⟨_,rfl⟩:=h;show bG bt a ([115,116,114,105,110,103]::c::(jT e false++d::b))=_;rw[m _ _ (by decide),n];simp[kL,mS]
 |arr l e f=>
  show bG bt a (dm l::c::(jT e f++d::b))=_;rw[m _ _ (ri (Ya h.1)),n];simp[kL,mS]
 |opt l=>
  have p:=ri (Ya (show Tg l from h));show bG bt a (dm l::[42]::c::d::b)=_;rw[jy r (ib p),jy (kN p) (by decide),jn (lY c).2.2.2.2,jn (o _)];simp[kL,mS]
 |void=>exact absurd h id
 |plain v=>exact q h
 |named i t=>exact q h
theorem ol(a:Zb):bt a [59]=false:=(oY a).1
def us{e:Type}{i:e->Zc}{g:e->Zb}{P:e->Prop}(n:∀c,P c->∀a b f,Lf a->bG bt [59] b=32::f->bG bt a (i c++b)=32::(g c++f)){k:Zc}{h:Zb}(p:∀a,Lf a->bG bt a k=32::h) :
  ∀(d:List e),(∀c∈d,P c)->∀a,Lf a->bG bt a (d.flatMap i++k)=32::(d.flatMap g++h):=by
 intro d;induction d with
 |nil=>grind
 |cons c d m=>
  intro j a l;rw[YD,YN,n c (j c (by simp)) a _ _ l (m (λo q=>j o (by grind)) _ (by decide))];simp
def wR(a:Zb)(b:Lf a):bG bt a [[125],[59]]=32::[125,59]:=by rw[jy b (by decide),jn (ol _)];rfl
def BD{c:Int}(a:Zb)(d:Lf a)(b:Zc):bG bt a ([125]::[61]::Lib.itoa c::[59]::b)=32::([125,32,61,32]++bO c++[59]++bG bt [59] b):=by
 rw[jy d (by decide),jy (by decide) (by decide),jy (by decide) (ib (qO _)),jn (ol _)];simp[bO]
def Ks{d:List (Zb×Nat×Int)}(n:d≠[])(e:∀c∈d,ef c.1/\eX c.2.2):bG bt [123] (gM d++[[125],[59]])=32::(pt d++[32,125,59]):=by
 have i:∀(c:Zb×Nat×Int) (a:Zb) (b:Zc),ef c.1->Lf a->bG bt a (ni c++b)=32::(it c++bG bt (Lib.itoa c.2.2) b):=λc a b h f=>by
  show bG bt a (c.1::[61]::Lib.itoa c.2.2::b)=_;rw[jy f (ib h),jy (kN h) (by decide),jy (by decide) (ib (qO _))];simp[it,bO]
 have o:∀(d:List (Zb×Nat×Int)) (c:Zb×Nat×Int) (a:Zb),(∀g∈c::d,ef g.1/\eX g.2.2)->Lf a->bG bt a (ni c++(d.flatMap (λc=>[44]::ni c)++[[125],[59]]))=32::(pt (c::d)++[32,125,59]):=by
  intro d;induction d with
  |nil=>
   intro c a e f;rw[i c a _ (e c (by simp)).1 f,List.flatMap_nil,YT,wR _ (kN (qO _))];rfl
  |cons l d k=>
   intro c a e f;rw[i c a _ (e c (by simp)).1 f,YD,YX,YX,jn (oY _).2.1,YN,k l [44] (λg j=>e g (Y5 _ j)) (by decide)];simp[pt]
 cases d with
 |nil=>grind
 |cons c d=>
  have m:gM (c::d)++[[125],[59]]=ni c++(d.flatMap (λc=>[44]::ni c)++[[125],[59]]):=by rfl
  grind
def Fu{e:aO}(d:e.H=.void\/Dg e)(g:Lf a){f:Zb}(h:bG bt [59] b=32::f):bG bt a (eI e++[59]::b)=32::(jP e++f):=by
 rcases d with d|d
 .unfold eI jP;rw[d];show bG bt a ([118,111,105,100]::[59]::b)=_;rw[jy g (by decide),jn (ol _),h];rfl
 .rw[wK d g ol,h];obtain⟨c,j,i⟩:=e;cases i with
  |void=>exact absurd d.2 id
  |_=>simp[jP,js]
theorem FR{d:Zb}(i:bG bt [58] b=32::d):∀(c:List Int),c≠[]->∀a,Lf a->bG bt a (hT c++b)=32::(c.flatMap kD++d):=by
 intro c;induction c with
 |nil=>simp
 |cons e c j=>
  intro _ a g;have f:hT (e::c)++b=[99,97,115,101]::Lib.itoa e::[58]::(hT c++b):=by rfl
  have h:bG bt [58] (hT c++b)=32::(c.flatMap kD++d):=by
   cases c with
   |nil=>exact i
   |cons k c=>grind
  rw[f,jy g (by decide),jy (by decide) (ib (qO _)),jn (oY _).2.2.1,h];simp[kD,bO]
def Fs(c:List Int×aO)(f:nD c)(a:Zb)(b:Zc)(d:Zb)(h:Lf a)(i:bG bt [59] b=32::d):bG bt a (lk c++b)=32::(mQ c++d):=by
 have g:bG bt [58] (eI c.2++[59]::b)=32::(jP c.2++d):=Fu f.2 (by decide) i;have e:lk c++b=lu c.1++(eI c.2++[59]::b):=by simp[lk]
 unfold mQ;rw[e];unfold lu;split
 .show bG bt a ([100,101,102,97,117,108,116]::[58]::(eI c.2++[59]::b))=_;rw[jy h (by decide),jn (oY _).2.2.1,g];simp
 grind [FR]
def MW(c:dN)(g:Pg c)(a:Zb)(b:Zc)(d:Zb)(h:Lf a)(i:bG bt [59] b=32::d):bG bt a (va c++b)=32::(oz c++d):=by
 obtain⟨e,f,j,_⟩:=g;show bG bt a (dm c.c2::c.t::[40]::dm c.cF::[41]::[61]::Lib.itoa c.num::[59]::b)=_;rw[jy h (ib (ri f)),jy (kN (ri f)) (ib e),jn (Fj e),jn (lY _).2.1,jn (oY _).2.2.2.1,jy (by decide) (by decide),jy (by decide) (ib (qO _)),jn (ol _),i];simp[oz,bO]
def RW(v:eg)(g:Vg v)(a:Zb)(b:Zc)(d:Zb)(c:Lf a)(i:bG bt [59] b=32::d):bG bt a (mC v++b)=32::(mD v++d):=by
 obtain⟨e,_,h,_⟩:=g;have f:mC v++b=[118,101,114,115,105,111,110]::v.t::[123]::(v.ag.flatMap va++([125]::[61]::Lib.itoa v.num::[59]::b)):=by simp[mC,gx]
 rw[f,jy c (by decide),jy (by decide) (ib e),jy (kN e) (by decide),us (P:=Pg) MW (λa c=>BD a c b) _ h _ (by decide),i];simp[mD]
theorem JL{e:aB}(d:Gg e):sw e=lm e:=by
 unfold sw;cases e with
 |const c h v=>
  show bG bt [] ([99,111,110,115,116]::c::[61]::Lib.itoa v::[[59]])++_=_;rw[jn (lY _).1,jy (by decide) (ib d.1),jy (kN d.1) (by decide),jy (by decide) (ib (qO _)),jn (ol _)];simp[bG,lm,tV,bO]
 |typedef e=>
  show bG bt [] ([116,121,112,101,100,101,102]::(eI e++[59]::[]))++_=_;rw[jn (lY _).1,wK d (by decide) ol];simp[bG,lm,vK]
 |enum c h j=>
  show bG bt [] ([101,110,117,109]::c::[123]::gM j++[[125],[59]])++_=_;rw[YX,YX,YX,jn (lY _).1,jy (by decide) (ib d.1),jy (kN d.1) (by decide),Ks d.2.1 d.2.2];simp[lm]
 |struct c h j=>
  show bG bt [] ([115,116,114,117,99,116]::c::[123]::fU j++[[125],[59]])++_=_;rw[YX,YX,YX,jn (lY _).1,jy (by decide) (ib d.1),jy (kN d.1) (by decide)];unfold fU;rw[us (P:=Dg) (g:=js) (λe x a b w n y=>by rw[YN];show bG bt a (eI e++[59]::b)=_;grind [wK,ol,js]) wR _ d.2 _ (by decide)];simp[lm,yw]
 |union c h f k=>
  have i:oc (.union c h f k)=[117,110,105,111,110]::c::[115,119,105,116,99,104]::[40]::(eI f++[41]::[123]::(k.flatMap lk++[[125],[59]])):=by simp[oc,jz,fS]
  obtain⟨l,⟨r,m⟩,s⟩:=d;have q:eI f=[dm f.H,f.t]/\True:=by
   obtain⟨c,h,u⟩:=f;cases u with
   |plain z=>exact⟨rfl,trivial⟩
   |named _ _=>exact⟨rfl,trivial⟩
   |_=>exact absurd m id
  have t:=ri (Ya m);rw[i,q.1];show bG bt [] ([117,110,105,111,110]::c::[115,119,105,116,99,104]::[40]::dm f.H::f.t::[41]::[123]::_)++_=_;rw[jn (lY _).1,jy (by decide) (ib l),jy (kN l) (by decide),bG,show bt [115,119,105,116,99,104] [40]=true by rfl,Y9 rfl,jn (lY _).2.1,jy (kN t) (ib r),jn (oY _).2.2.2.1,jy (by decide) (by decide),us (P:=nD) Fs wR _ s _ (by decide)];simp[lm,yC]
 |prog c h p o=>
  have i:oc (.prog c h p o)=[112,114,111,103,114,97,109]::c::[123]::(p.flatMap mC++([125]::[61]::Lib.itoa o::[59]::[])):=by rfl
  rw[i,jn (lY _).1,jy (by decide) (ib d.1),jy (kN d.1) (by decide),us (P:=Vg) RW (λa n=>BD a n []) _ d.2.2.2.1 _ (by decide)];simp[bG,lm,qV]
def MK{a:List aB}(c:∀b∈a,Gg b):dL a=a.flatMap lm:=by
 unfold dL;induction a<;>grind [JL]
def wO{a:aO}(b:Dg a):lI a.H:=by
 obtain⟨c,g,f⟩:=a;cases f with
 |opaq e d=>exact b.2
 |str e d=>exact b.2.1
 |arr h e d=>exact b.2.2
 |_=>trivial
def Is{f:aB}(a:Gg f):ua f:=by
 cases f with
 |const c e v=>exact a.2
 |typedef f=>exact wO a
 |enum c e j=>exact λd b=>(a.2.2 d b).2
 |struct c e j=>exact λd b=>wO (a.2 d b)
 |union c e l n=>
  refine⟨?_,λd b=>⟨?_,(a.2.2 d b).1⟩⟩
  .obtain⟨c,e,m⟩:=l;cases m with
   |plain _=>trivial
   |named _ _=>trivial
   |_=>exact absurd a.2.1.2 id
  .rcases(a.2.2 d b).2 with g|g
   .rw[g];trivial
   .exact wO g
 |prog c e p o=>exact⟨a.2.2.2.2,λv h=>⟨(a.2.2.2.1 v h).2.2.2,λk i=>((a.2.2.2.1 v h).2.2.1 k i).2.2.2⟩⟩
end
end Go.Proofs.YtjdhaegijjednaaGreatDoor
namespace Go.Proofs.YtjdhaegijjednaaGreatDoor
open Go.RowKit
open Go.Proofs.Tryz
section
variable {d c a:Nat}{b:Int}
variable {t : Zb} {j k : St} {σ σ' l m f : ae} {g h : bz} {i : Mar.aw}
theorem dh.a2(a:dh σ σ'):σ.w.length<=σ'.w.length:=by
 obtain⟨c,b⟩:=a;simp_all
def nM(c d:Nat)(b:Int):Prop:=b<5\/((c:Int)<=b/\b+1=d)
theorem qR(σ:ae)(a:bg)(b:c<=σ.w.length):nM c (cm a σ).w.length σ.w.length:=Ya ⟨by omega,by show _=(((σ.w++[a]).length:Nat):Int);simp⟩
def AL(σ:ae):nM σ.w.length (cq t σ).2.w.length (cq t σ).1.1:=by
 unfold cq;split
 .exact Y8 (by simp)
 .split
  .simp_all[qR,aW]
  .split
   .exact Y8 (by simp)
   .split
    .exact Y8 (by simp)
    .split
     .exact Y8 (by simp)
     .split
      .unfold iC;split
       .exact Y8 (by simp)
       .split<;>exact Y8 (by simp)
      .exact Y8 (by simp)
def wN(b:Zc)(all:Bool)(σ:ae):nM σ.w.length (ch t b all σ).2.w.length (ch t b all σ).1.r:=by
 unfold ch;split
 .unfold gu;simp only;have c:∀a,σ.w.length<=(bw t a (cd t b all (aW t σ)).2).2.w.length:=λa=>((eu _).u ((hb _ _ _).u (mt _ _))).aa.bo.a2;grind [qR]
 .unfold gr;simp only;have e:=AL (t:=t) σ;have c:σ.w.length<=(cq t σ).2.w.length:=(wS σ).bo.a2;split
  .exact qR _ _ (Yz c ((eu _).u (hb _ _ _)).aa.bo.a2)
  .have d:∀a,σ.w.length<=(bw t a (cd t b all (cq t σ).2).2).2.w.length:=λa=>Yz c ((hb _ _ _).u (mt _ _)).aa.bo.a2;split
   .exact qR _ _ (d true)
   .split
    .exact qR _ _ (d false)
    .rw[(hb (t:=t) b all (cq t σ).2).w];omega
def Nw(c:Nat)(b:Int):Prop:=b<5\/(c:Int)<=b
def nM.nw(a:nM c d b):Nw c b:=a.imp id And.left
theorem Nw.K(a:Nw d b)(e:c<=d):Nw c b:=a.imp id λa=>by omega
def Fh(a:Nat)(σ:ae):Prop:=a<=σ.w.length/\∀(c:Nat) (b:bg),σ.w[c]? = some b->a<=c->b.C≠14->∀d∈cz b,Nw a d
def Fh.of(b:Fh a σ)(c:σ'.w=σ.w):Fh a σ':=by unfold Fh;rw[c];exact b
def Fh.row(c:Fh a σ){r:bg}(i:r.C≠14->∀f∈cz r,Nw a f):Fh a (cm r σ):=by
 refine⟨by show a<=(σ.w++[r]).length;have:=c.1;grind,?_⟩;intro e h b g;rw[show (cm r σ).w=σ.w++[r]from rfl]at b;rcases Yj e σ.w.length with d|d
 .rw[Ys d]at b;exact c.2 e h b g
 grind
theorem AQ(a c:Int)(b:a=6\/a=7\/a=8):cz (dY a c)=[]:=by rcases b with rfl|rfl|rfl<;>rfl
def Aj(b:Fh a σ):Fh a (cq t σ).2:=by
 unfold cq;split
 .exact b
 .split
  .exact(b.of (σ':=aW t σ) rfl).row (λc=>absurd rfl c)
  .split
   .exact b.of rfl
   .split
    .exact b.of rfl
    .split
     .exact b.of rfl
     .split
      .unfold iC;split
       .exact b.of rfl
       .split<;>exact b.of rfl
      .exact b.of rfl
def wV(f:Fh a σ)(h:Zc)(all:Bool):Fh a (ch t h all σ).2:=by
 unfold ch;split
 .unfold gu;simp only;have d:∀c,Fh a (bw t c (cd t h all (aW t σ)).2).2:=λc=>f.of ((eu _).u ((hb _ _ _).u (mt _ _))).w;split
  .exact(d true).row (λ_ e b=>by simp_all[AQ])
  .exact(d false).row (λ_ e b=>by grind [AQ])
 .unfold gr;simp only;have g:=Aj (t:=t) f;have i:Nw a (cq t σ).1.1:=(AL (t:=t) σ).nw.K f.1;split
  .exact(g.of ((eu _).u (hb _ _ _)).w).row (λ_ e b=>by simp[cz,dz]at b)
  .have d:∀c,Fh a (bw t c (cd t h all (cq t σ).2).2).2:=λc=>g.of ((hb _ _ _).u (mt _ _)).w;split
   .exact(d true).row (λ_ e b=>by grind [cz,dz])
   .split
    .exact(d false).row (λ_ e b=>by simp[cz,dz]at b)
    .exact g.of (hb _ _ _).w
def HO:∀(g:Nat) (c:List Int) (d:Zc) (h:Zb) (σ:ae),Fh a σ->(∀b∈c,Nw a b)->Fh a (dv t g c d h σ).2.2/\∀b∈(dv t g c d h σ).1,Nw a b:=by
 intro g;induction g with
 |zero=>intro c d h σ i k;exact⟨i,k⟩
 |succ g o=>
  intro c d h σ i k;by_cases l:σ.s.e=0
  .rw[td l];have j:Fh a (aD c.length 12 σ):=i.of (cD _ _ _).w;have m:Fh a (af t 4 [59] (fv t c.length d σ).2):=(wV (t:=t) j d false).of (az _ _ _).w;have n:∀b∈c++[(fv t c.length d σ).1.r],Nw a b:=by
    intro b f;rcases Yn.1 f with f|f
    .simp_all
    .simp at f;subst f;exact(wN (t:=t) d false _).nw.K j.1
   grind
  grind [tf]
theorem Ai(c:Fh a σ)(b:Zc):Fh a (cM t b σ).2/\Nw a (cM t b σ).1.1:=by
 unfold cM;split
 .exact⟨c.of rfl,Y8 (by simp)⟩
 .exact⟨(wV (t:=t) c b false).of (az _ _ _).w,(wN (t:=t) b false _).nw.K c.1⟩
def HP(of:Int):∀(d:Nat) (c f:List Int) (g:Zc) (h:Zb) (σ:ae),Fh a σ->(∀b∈f,Nw a b)->Fh a (dH t of d c f g h σ).2/\∀b∈(dH t of d c f g h σ).1.2.1,Nw a b:=by
 intro d;induction d with
 |zero=>intro c f g h σ i j;exact⟨i,j⟩
 |succ d m=>
  intro c f g h σ i j;by_cases k:σ.s.e=0
  .rw[pW k];have l:Fh a (cy t of (14-c.length) c [] σ).2:=i.of (mU _ _ _ _ _).1.w;grind [Ai,kK]
  grind [pX]
def HK(c:Fh a σ)(b:Zc):Fh a (gJ t b σ).2/\Nw a (gJ t b σ).1.1:=by
 unfold gJ;split
 .have:=Ai (t:=t) (σ:=af t 4 [58] (aW t σ)) (c.of rfl) b;omega
 .exact⟨c,Y8 (by simp)⟩
theorem vp(a:Zb)(c:Int)(σ:ae):(dq a c σ).w=σ.w:=by
 grind [dq,gz]
def yd(a:Zb)(c:Int)(σ:ae):(du a c σ).w=σ.w:=by
 grind [du,gz]
def Ak(b:Fh a σ):Fh a (es t σ).2:=by
 unfold es;split
 .exact b.of rfl
 .exact Aj b
def wW(b:Fh a σ)(c:List Int):Fh a (bS t c σ).2:=by
 exact b.of ((az _ _ _).u ((fZ _ _ _).u ((jv _ _ _ _).u (az _ _ _)))).w
def HM:∀(f:Nat) (b:List br) (d:Zc) (c:List Int) (h:Zb) (σ:ae),Fh a σ->Fh a (eV t f b d c h σ).2:=by
 intro f;induction f with
 |zero=>intro b d c h σ g;exact g
 |succ f m=>
  intro b d c h σ g;by_cases k:σ.s.e=0
  .rw[xW k];have i:Fh a (kS t b.length σ).2:=Ak (g.of (cD _ _ _).w);have j:Fh a (kR t b.length d σ).2:=Ak ((i.of (hb _ _ _).w).of (az _ _ _).w);have l:Fh a (fE t b.length d c σ).2:=wW (j.of (az _ _ _).w) c;grind
  simp_all[eV]
def HR(c:Fh a σ)(d:Zc)(b:List Int):Fh a (ed t d b σ).2:=by
 exact wW ((HM _ _ _ _ _ _ ((c.of (az _ _ _).w).of ((hb _ _ _).u (az _ _ _)).w)).of (az _ _ _).w) b
def HQ:∀(d:Nat) (c:Zc) (b:List Int) (all:List br) (g:Zb) (σ:ae),Fh a σ->Fh a (ec t d c b all g σ).2:=by
 intro d;induction d with
 |zero=>intro c b all g σ f;exact f
 |succ d j=>
  intro c b all g σ f;by_cases h:σ.s.e=0
  .rw[vM h];have i:Fh a (ed t c b (aD b.length 4 σ)).2:=HR (f.of (cD _ _ _).w) c b;grind
  grind [yH]
def HL:∀(c:Nat) (b:List Int) (f:Zb) (σ:ae),Fh a σ->Fh a (da t c b f σ).2.2.2:=by
 intro c;induction c with
 |zero=>intro b f σ d;exact d
 |succ c j=>
  intro b f σ d;by_cases i:σ.s.e=0
  .rw[qG i];have g:Fh a (eO t b σ):=by
    unfold eO;refine Fh.of ?_ (jv _ _ _ _).w;unfold ge hC;exact Fh.of (Fh.of (Fh.of d ((cD _ _ _).u (cD _ _ _)).w) (mr _ _)) ((az _ _ _).u (fZ _ _ _)).w
   have h:Fh a (fD t b σ):=by
    unfold fD;split
    .omega
    .exact g.of (yd _ _ _)
   split
   .omega
   .split
    .exact j _ _ _ (h.of (eu _).w)
    omega
  grind [pl]
def HN(σ:ae):Fh σ.w.length σ:=⟨Y4 _,λc d b a=>by
 simp_all⟩
def HJ(σ:ae):Fh σ.w.length (bV t σ):=by
 have j:=HN σ;generalize σ.w.length=a at *
 by_cases n:aH σ 2 [99,111,110,115,116]=true
 .unfold bV;rw[Y9 n];unfold fT;simp only;have k:Fh a (aR t 2 (af t 2 [99,111,110,115,116] (aD σ.av 40 σ))).2:=Fh.of (j.of ((cD _ _ _).u (az _ _ _)).w) (mr _ _);generalize aR t 2 (af t 2 [99,111,110,115,116] (aD σ.av 40 σ))=e at *
  have h:Fh a (af t 4 [59] (bn t (-2147483648) 4294967295 (af t 4 [61] e.2)).2):=k.of ((az _ _ _).u ((fZ _ _ _).u (az _ _ _))).w;split
  .omega
  .exact(h.of (yd _ _ _)).of rfl
 .by_cases k:aH σ 2 [112,114,111,103,114,97,109]=true
  .unfold bV;rw[Y2 n,Y9 k];unfold gg;simp only;have h:Fh a (aR t 2 (af t 2 [112,114,111,103,114,97,109] (aD σ.O.length 4 σ))).2:=Fh.of (j.of ((cD _ _ _).u (az _ _ _)).w) (mr _ _);generalize aR t 2 (af t 2 [112,114,111,103,114,97,109] (aD σ.O.length 4 σ))=b at *
   have g:=HQ (t:=t) 6 [] [] [] ([112,114,111,103,114,97,109,32]++b.1.text++[32,123,32]) (af t 4 [123] b.2) (h.of (az _ _ _).w);generalize ec t 6 [] [] [] ([112,114,111,103,114,97,109,32]++b.1.text++[32,123,32]) (af t 4 [123] b.2)=v at *
   exact(wW (t:=t) (g.of (az _ _ _).w) (af t 4 [125] v.2).O).of rfl
  .by_cases h:σ.s.x.C=2
   .rw[se n k h];have o:Fh a (gi σ):=j.of (cD σ.L 24 σ).w;generalize gi σ=f at *
    split
    .unfold gj;simp only;have g:=wV (t:=t) (o.of (az (t:=t) 2 [116,121,112,101,100,101,102] f).w) [] true;split
     .omega
     .exact g.of rfl
    .split
     .unfold gK;simp only;have g:Fh a (aR t 2 (af t 2 [101,110,117,109] f)).2:=Fh.of (o.of (az _ _ _).w) (mr _ _);generalize aR t 2 (af t 2 [101,110,117,109] f)=e at *
      have l:=HL (t:=t) 13 [] ([101,110,117,109,32]++e.1.text++[32,123,32]) (af t 4 [123] e.2) (g.of (az _ _ _).w);generalize da t 13 [] ([101,110,117,109,32]++e.1.text++[32,123,32]) (af t 4 [123] e.2)=i at *
      split
      .omega
      .refine Fh.of (Fh.of (Fh.row (l.of ((az (t:=t) 4 [125] _).u (az (t:=t) 4 [59] _)).w) (r:=⟨5,0,0,i.2.1,[],0,[],0⟩) ?_) (vp _ _ _)) rfl;grind [cz]
     .split
      .unfold gA;simp only;have g:Fh a (aR t 2 (af t 2 [115,116,114,117,99,116] f)).2:=Fh.of (o.of (az _ _ _).w) (mr _ _);generalize aR t 2 (af t 2 [115,116,114,117,99,116] f)=e at *
       have l:=HO (t:=t) 14 [] [] ([115,116,114,117,99,116,32]++e.1.text++[32,123,32]) (af t 4 [123] e.2) (g.of (az _ _ _).w) (by simp);generalize dv t 14 [] [] ([115,116,114,117,99,116,32]++e.1.text++[32,123,32]) (af t 4 [123] e.2)=i at *
       refine Fh.of (Fh.of (Fh.row (l.1.of ((az (t:=t) 4 [125] _).u (az (t:=t) 4 [59] _)).w) (r:=⟨12,0,0,[],i.1,0,[],0⟩) ?_) (vp _ _ _)) rfl;grind [cz]
      .split
       .unfold gm;simp only;have g:Fh a (aR t 2 (af t 2 [117,110,105,111,110] f)).2:=Fh.of (o.of (az _ _ _).w) (mr _ _);generalize aR t 2 (af t 2 [117,110,105,111,110] f)=e at *
        have l:Fh a (bZ t (af t 4 [40] (af t 2 [115,119,105,116,99,104] e.2))).2:=g.of ((az _ _ _).u ((az _ _ _).u (oC _))).w;generalize bZ t (af t 4 [40] (af t 2 [115,119,105,116,99,104] e.2))=c at *
        have p:Fh a (af t 4 [123] (af t 4 [41] (cV t c.2).2)):=l.of ((ki _).u ((az _ _ _).u (az _ _ _))).w;generalize cV t c.2=d at *
        have q:=HP (t:=t) c.1.1 14 [] [] [d.1.text] ([117,110,105,111,110,32]++e.1.text++[32,115,119,105,116,99,104,32,40]++c.1.2++[32]++d.1.text++[41,32,123,32]) _ p (by simp);generalize dH t c.1.1 14 [] [] [d.1.text] ([117,110,105,111,110,32]++e.1.text++[32,115,119,105,116,99,104,32,40]++c.1.2++[32]++d.1.text++[41,32,123,32]) (af t 4 [123] (af t 4 [41] d.2))=m at *
        have r:=HK (t:=t) q.1 m.1.2.2.1;generalize gJ t m.1.2.2.1 m.2=i at *
        refine Fh.of (Fh.of (Fh.row (r.1.of ((az (t:=t) 4 [125] _).u (az (t:=t) 4 [59] _)).w) (r:=⟨13,0,c.1.1,m.1.1,m.1.2.1,i.1.1,[],0⟩) ?_) (vp _ _ _)) rfl;grind [cz]
       .exact j.of rfl
   .unfold bV;rw[Y2 n,Y2 k,Y9 (Y8 h)];exact j.of rfl
end
section
variable {t : Zb} {f g : St} {σ σ' h i a σ0 : ae} {b c : bz} {d : Mar.aw}
def W1(σ0 σ:ae):Prop:=∀a∈σ.A,a.a7=1->a∈σ0.A
theorem Fb(σ:ae):W1 σ σ:=λ_ a _=>a
def W1.of(a:W1 σ0 σ)(b:σ'.A=σ.A):W1 σ0 σ':=by unfold W1;rw[b];exact a
def rC(b:W1 σ0 σ):W1 σ0 (aR t 2 σ).2:=by
 unfold aR;split
 .exact b.of (ki σ).A
 .split
  .exact b.of ((ki σ).u (vA _ _ _)).A
  .intro c a d;rcases Yn.1 (show c∈(cV t σ).2.A++_ from a)with a|a
   .rw[(ki σ).A]at a;exact b c a d
   simp_all
def Sj(e:W1 σ0 σ)(b:Nat)(d g:Int)(h:d≠1):W1 σ0 (gz σ b d g):=by
 intro c a f;rcases List.mem_or_eq_of_mem_set (show c∈σ.A.set b _ from a)with a|a
 .exact e c a f
 simp_all
theorem DF(a:W1 σ0 σ)(c:Zb)(b:Int):W1 σ0 (du c b σ):=by
 unfold du;split
 .exact(Sj a _ 0 b (by omega)).of rfl
 .exact a.of rfl
def Sk(d:W1 σ0 σ)(f:Zb)(e:Int):∀a∈(dq f e σ).A,a.a7=1->a∈σ0.A\/a.n=e:=by
 unfold dq;split
 .intro a b c;rcases List.mem_or_eq_of_mem_set (show a∈σ.A.set _ _ from b)with b|b
  .exact Y8 (d a b c)
  simp_all
 .intro a b c;exact Y8 (d a b c)
def Si:∀(b:Nat) (a:List Int) (d:Zb) (σ:ae),W1 σ0 σ->W1 σ0 (da t b a d σ).2.2.2:=by
 intro b;induction b with
 |zero=>intro a d σ c;exact c
 |succ b h=>
  intro a d σ c;by_cases g:σ.s.e=0
  .rw[qG g];have i:W1 σ0 (eO t a σ):=by
    unfold eO;refine W1.of ?_ (jv _ _ _ _).A;unfold ge hC;exact(rC (c.of ((cD _ _ _).u (cD _ _ _)).A)).of ((az _ _ _).u (fZ _ _ _)).A
   have f:W1 σ0 (fD t a σ):=by
    grind [fD,DF]
   split
   .omega
   .split
    .exact h _ _ _ (f.of (eu _).A)
    omega
  grind [pl]
def LD:∀(a:Nat) (c:List Int) (b:Zc) (d:Zb) (σ:ae),(dv t a c b d σ).2.2.A=σ.A:=by
 intro a;induction a with
 |zero=>intro c b d σ;rfl
 |succ a h=>
  intro c b d σ;by_cases f:σ.s.e=0
  .rw[td f];have g:(af t 4 [59] (fv t c.length b σ).2).A=σ.A:=((cD _ _ _).aa.u ((kJ _ _ _).u (az _ _ _).aa)).A;grind
  .rw[tf f]
def LE(of:Int):∀(b:Nat) (a f:List Int) (c:Zc) (d:Zb) (σ:ae),(dH t of b a f c d σ).2.A=σ.A:=by
 intro b;induction b with
 |zero=>intro a f c d σ;rfl
 |succ b i=>
  intro a f c d σ;by_cases g:σ.s.e=0
  .rw[pW g];have h:(cM t c (cy t of (14-a.length) a [] σ).2).2.A=σ.A:=((mU _ _ _ _ _).1.aa.u (mg _ _)).A;grind
  .rw[pX g]
def LB(σ:ae):∀b∈(bV t σ).A,b.a7=1->b∈σ.A\/nM σ.w.length (bV t σ).w.length b.n:=by
 have u:=Fb σ;by_cases n:aH σ 2 [99,111,110,115,116]=true
 .unfold bV;rw[Y9 n];intro b c e;refine Y8 ?_;unfold fT at c;simp only at c;have m:W1 σ (aR t 2 (af t 2 [99,111,110,115,116] (aD σ.av 40 σ))).2:=rC (u.of ((cD _ _ _).u (az _ _ _)).A);generalize aR t 2 (af t 2 [99,111,110,115,116] (aD σ.av 40 σ))=d at *
  have i:W1 σ (af t 4 [59] (bn t (-2147483648) 4294967295 (af t 4 [61] d.2)).2):=m.of ((az _ _ _).u ((fZ _ _ _).u (az _ _ _))).A;split at c
  .exact i b c e
  .exact DF i _ _ b c e
 .by_cases m:aH σ 2 [112,114,111,103,114,97,109]=true
  .unfold bV;rw[Y2 n,Y9 m];intro b c e;refine Y8 ?_;unfold gg at c;simp only at c;have i:W1 σ (aR t 2 (af t 2 [112,114,111,103,114,97,109] (aD σ.O.length 4 σ))).2:=rC (u.of ((cD _ _ _).u (az _ _ _)).A);generalize aR t 2 (af t 2 [112,114,111,103,114,97,109] (aD σ.O.length 4 σ))=d at *
   have j:W1 σ (af t 4 [125] (ec t 6 [] [] [] ([112,114,111,103,114,97,109,32]++d.1.text++[32,123,32]) (af t 4 [123] d.2)).2):=i.of ((az _ _ _).aa.u ((sh _ _ _ _ _ _).u (az _ _ _).aa)).A;generalize ec t 6 [] [] [] ([112,114,111,103,114,97,109,32]++d.1.text++[32,123,32]) (af t 4 [123] d.2)=v at *
   exact(j.of (mh (t:=t) (af t 4 [125] v.2).O _).A) b c e
  .by_cases i:σ.s.x.C=2
   .rw[se n m i];have p:W1 σ (gi σ):=u.of (cD σ.L 24 σ).A;have L:σ.w.length<=(gi σ).w.length:=(sq σ).a2;generalize gi σ=a at *
    have y:∀{h:ae} {b:bg} {q x:Zb},dh a h->W1 σ h->∀d∈(er x (dq q h.w.length (cm b h))).A,d.a7=1->d∈σ.A\/nM σ.w.length (er x (dq q h.w.length (cm b h))).w.length d.n:=by
     intro h b q x M I d w J;rcases Sk (σ:=cm b h) (I.of rfl) q h.w.length d w J with k|k;all_goals grind [er,vp,qR,Nat.le_trans,dh.a2]
    split
    .unfold gj;simp only;have G:=wN (t:=t) [] true (af t 2 [116,121,112,101,100,101,102] a);have e:W1 σ (ch t [] true (af t 2 [116,121,112,101,100,101,102] a)).2:=p.of ((az _ _ _).aa.u (kJ _ _ _)).A;generalize ch t [] true (af t 2 [116,121,112,101,100,101,102] a)=z at *
     intro b c k;split at c
     .exact Y8 (e b c k)
     .rename_i H;rw[Y2 H];rcases Yn.1 (show b∈z.2.A++_ from c)with c|c
      .exact Y8 (e b c k)
      .simp at c;subst c;right;refine G.imp id λC=>⟨?_,C.2⟩;have N:((a.w.length:Nat):Int)<=z.1.r:=C.1;grind
    .split
     .unfold gK;simp only;have j:W1 σ (aR t 2 (af t 2 [101,110,117,109] a)).2:=rC (p.of (az _ _ _).A);have l:dh a (aR t 2 (af t 2 [101,110,117,109] a)).2:=(az _ _ _).aa.bo.u (na _ _);generalize aR t 2 (af t 2 [101,110,117,109] a)=b at *
      have o:=Si (t:=t) (σ0:=σ) 13 [] ([101,110,117,109,32]++b.1.text++[32,123,32]) (af t 4 [123] b.2) (j.of (az _ _ _).A);have s:=l.u ((az (t:=t) 4 [123] b.2).aa.bo.u (As (t:=t) 13 [] ([101,110,117,109,32]++b.1.text++[32,123,32]) (af t 4 [123] b.2)));generalize da t 13 [] ([101,110,117,109,32]++b.1.text++[32,123,32]) (af t 4 [123] b.2)=A at *
      split
      .intro d w k;exact Y8 (o d w k)
      .exact y (s.u ((az (t:=t) 4 [125] _).u (az (t:=t) 4 [59] _)).aa.bo) (o.of ((az (t:=t) 4 [125] _).u (az (t:=t) 4 [59] _)).A)
     .split
      .unfold gA;simp only;have j:W1 σ (aR t 2 (af t 2 [115,116,114,117,99,116] a)).2:=rC (p.of (az _ _ _).A);have l:dh a (aR t 2 (af t 2 [115,116,114,117,99,116] a)).2:=(az _ _ _).aa.bo.u (na _ _);generalize aR t 2 (af t 2 [115,116,114,117,99,116] a)=b at *
       have o:=(j.of (az (t:=t) 4 [123] b.2).A).of (LD (t:=t) 14 [] [] ([115,116,114,117,99,116,32]++b.1.text++[32,123,32]) (af t 4 [123] b.2));have s:=l.u ((az (t:=t) 4 [123] b.2).aa.bo.u (Ag (t:=t) 14 [] [] ([115,116,114,117,99,116,32]++b.1.text++[32,123,32]) (af t 4 [123] b.2)));generalize dv t 14 [] [] ([115,116,114,117,99,116,32]++b.1.text++[32,123,32]) (af t 4 [123] b.2)=A at *
       exact y (s.u ((az (t:=t) 4 [125] _).u (az (t:=t) 4 [59] _)).aa.bo) (o.of ((az (t:=t) 4 [125] _).u (az (t:=t) 4 [59] _)).A)
      .split
       .unfold gm;simp only;have j:W1 σ (aR t 2 (af t 2 [117,110,105,111,110] a)).2:=rC (p.of (az _ _ _).A);have l:dh a (aR t 2 (af t 2 [117,110,105,111,110] a)).2:=(az _ _ _).aa.bo.u (na _ _);generalize aR t 2 (af t 2 [117,110,105,111,110] a)=b at *
        have D:Sm b.2 (bZ t (af t 4 [40] (af t 2 [115,119,105,116,99,104] b.2))).2:=(az _ _ _).u ((az _ _ _).u (oC _));generalize bZ t (af t 4 [40] (af t 2 [115,119,105,116,99,104] b.2))=g at *
        have E:Sm g.2 (af t 4 [123] (af t 4 [41] (cV t g.2).2)):=(ki _).u ((az _ _ _).u (az _ _ _));generalize cV t g.2=f at *
        have K:=LE (t:=t) g.1.1 14 [] [] [f.1.text] ([117,110,105,111,110,32]++b.1.text++[32,115,119,105,116,99,104,32,40]++g.1.2++[32]++f.1.text++[41,32,123,32]) (af t 4 [123] (af t 4 [41] f.2));have F:=Av (t:=t) g.1.1 14 [] [] [f.1.text] ([117,110,105,111,110,32]++b.1.text++[32,115,119,105,116,99,104,32,40]++g.1.2++[32]++f.1.text++[41,32,123,32]) (af t 4 [123] (af t 4 [41] f.2));generalize dH t g.1.1 14 [] [] [f.1.text] ([117,110,105,111,110,32]++b.1.text++[32,115,119,105,116,99,104,32,40]++g.1.2++[32]++f.1.text++[41,32,123,32]) (af t 4 [123] (af t 4 [41] f.2))=r at *
        have B:=sf (t:=t) r.1.2.2.1 r.2;generalize gJ t r.1.2.2.1 r.2=A at *
        exact y (l.u ((D.u E).aa.bo.u (F.u (B.bo.u ((az (t:=t) 4 [125] _).u (az (t:=t) 4 [59] _)).aa.bo)))) ((((j.of (D.u E).A).of K).of B.A).of ((az (t:=t) 4 [125] _).u (az (t:=t) 4 [59] _)).A)
       .intro b c e;exact Y8 c
   .unfold bV;rw[Y2 n,Y2 m,Y9 (Y8 i)];intro b c e;exact Y8 c
def Hv:∀(a:Nat) (b:List Int) (c:Zb) (σ:ae),(da t a b c σ).2.1.length<=b.length+a:=by
 intro a;induction a with
 |zero=>intro b c σ;exact Y4 _
 |succ a f=>
  intro b c σ;by_cases d:σ.s.e=0
  .rw[qG d];grind
  grind [pl]
def Oi:∀(b:Nat) (a:List Int) (d:Zb) (σ:ae),Rn σ->Rn (da t b a d σ).2.2.2:=by
 intro b;induction b with
 |zero=>intro a d σ c;exact c
 |succ b i=>
  intro a d σ c;by_cases h:σ.s.e=0
  .rw[qG h];have f:Rn (eO t a σ):=by
    unfold eO;refine Rn.of ?_ (jv _ _ _ _).w;unfold ge hC;exact Rn.of (Rn.of (Rn.of c ((cD _ _ _).u (cD _ _ _)).w) (mr _ _)) ((az _ _ _).u (fZ _ _ _)).w
   have g:Rn (fD t a σ):=by
    unfold fD;split
    .omega
    .exact f.of (yd _ _ _)
   split
   .omega
   .split
    .exact i _ _ _ (g.of (eu _).w)
    omega
  grind [pl]
def Oh(b:Rn σ):Rn (gK t σ):=by
 unfold gK;simp only;have c:Rn (aR t 2 (af t 2 [101,110,117,109] σ)).2:=sU (b.aa (az _ _ _).aa) 2;generalize aR t 2 (af t 2 [101,110,117,109] σ)=a at *
 have f:=Hv (t:=t) 13 [] ([101,110,117,109,32]++a.1.text++[32,123,32]) (af t 4 [123] a.2);have d:=Oi (t:=t) 13 [] ([101,110,117,109,32]++a.1.text++[32,123,32]) (af t 4 [123] a.2) (c.aa (az _ _ _).aa);generalize da t 13 [] ([101,110,117,109,32]++a.1.text++[32,123,32]) (af t 4 [123] a.2)=e at *
 split
 .omega
 .refine vm (yb (ya (d.aa ((az _ _ _).u (az _ _ _)).aa) _ ⟨?_,by simp⟩) _ _) _;grind
theorem FM(of:Int):∀(a:Nat) (b:List Int) (c:Zb) (σ:ae),(cy t of a b c σ).1.1.length<=b.length+a:=by
 intro a;induction a with
 |zero=>intro b c σ;exact Y4 _
 |succ a f=>
  intro b c σ;by_cases d:σ.s.e=0
  .rw[wB d];split;all_goals grind
  simp_all[cy]
def RL(of:Int):∀(a:Nat) (b c:List Int) (d:Zc) (f:Zb) (σ:ae),b.length<=14->c.length<=14->(dH t of a b c d f σ).1.1.length<=14/\(dH t of a b c d f σ).1.2.1.length<=14:=by
 intro a;induction a with
 |zero=>intro b c d f σ g h;exact⟨g,h⟩
 |succ a j=>
  intro b c d f σ g h;by_cases i:σ.s.e=0
  .rw[pW i];grind [FM,kK]
  grind [pX]
def Op(of:Int):∀(b:Nat) (a g:List Int) (c:Zc) (f:Zb) (σ:ae),Rn σ->Rn (dH t of b a g c f σ).2:=by
 intro b;induction b with
 |zero=>intro a g c f σ d;exact d
 |succ b j=>
  intro a g c f σ d;by_cases h:σ.s.e=0
  .rw[pW h];have i:Rn (cM t c (cy t of (14-a.length) a [] σ).2).2:=d.aa ((mU _ _ _ _ _).1.aa.u (mg _ _));grind
  grind [pX]
def Oo(d:Rn σ):Rn (gm t σ):=by
 unfold gm;simp only;have e:Rn (aR t 2 (af t 2 [117,110,105,111,110] σ)).2:=sU (d.aa (az _ _ _).aa) 2;generalize aR t 2 (af t 2 [117,110,105,111,110] σ)=c at *
 have f:Rn (bZ t (af t 4 [40] (af t 2 [115,119,105,116,99,104] c.2))).2:=e.of ((az _ _ _).u ((az _ _ _).u (oC _))).w;generalize bZ t (af t 4 [40] (af t 2 [115,119,105,116,99,104] c.2))=b at *
 have g:Rn (af t 4 [123] (af t 4 [41] (cV t b.2).2)):=f.of ((ki _).u ((az _ _ _).u (az _ _ _))).w;generalize cV t b.2=a at *
 have h:=Op (t:=t) b.1.1 14 [] [] [a.1.text] ([117,110,105,111,110,32]++c.1.text++[32,115,119,105,116,99,104,32,40]++b.1.2++[32]++a.1.text++[41,32,123,32]) _ g;have i:=RL (t:=t) b.1.1 14 [] [] [a.1.text] ([117,110,105,111,110,32]++c.1.text++[32,115,119,105,116,99,104,32,40]++b.1.2++[32]++a.1.text++[41,32,123,32]) (af t 4 [123] (af t 4 [41] a.2)) (by simp) (by simp);generalize dH t b.1.1 14 [] [] [a.1.text] ([117,110,105,111,110,32]++c.1.text++[32,115,119,105,116,99,104,32,40]++b.1.2++[32]++a.1.text++[41,32,123,32]) (af t 4 [123] (af t 4 [41] a.2))=j at *
 refine vm (yb (ya ((h.aa (sf _ _)).aa ((az _ _ _).u (az _ _ _)).aa) _ ⟨?_,?_⟩) _ _) _;all_goals grind
def Og(b:Rn σ):Rn (bV t σ):=by
 by_cases c:aH σ 2 [99,111,110,115,116]=true
 .simp_all[bV,Of]
 .by_cases d:aH σ 2 [112,114,111,103,114,97,109]=true
  .simp_all[bV,Ok]
  .by_cases e:σ.s.x.C=2
   .rw[se c d e];have a:Rn (gi σ):=b.of (cD σ.L 24 σ).w;split
    .exact On a
    .split
     .exact Oh a
     .split
      .exact Ol a
      .split
       .exact Oo a
       .exact b.of rfl
   .unfold bV;rw[Y2 c,Y2 d,Y9 (Y8 e)];exact b.of rfl
end
section
variable {t : Zb} {g k : St} {e w x z A y : ae} {f l : bz} {u : Mar.aw} {h : List aB} {d : aB}
def nB(a:Zb×Option aB):Option aB:=match a.2 with
 |some d=>if jW d=true then some d else none
 |none=>none
structure Wh(t:Zb)(h:List aB)(f:bz)(g:St)(e:ae):Prop where
 q:Q t f g e
 pd:f.pd=[]
 dc:f.dc=0
 fz:f.fz=e.A
 o:f.o=h.flatMap lm
 ps:YL e.w (h.flatMap zK) f.ps
 rf:f.rf=(h.flatMap gp).map λp=>(p.1,(p.2:Int))
 nl:f.nl.filterMap nB=h.filter jW
 i1:∀p∈f.nl,p.2≠none
 h8:∀p∈f.nl,∀d,p.2=some d->jW d=true->(cU d).1=p.1
 ij:∀(i j:Nat) (a b:dk),e.A[i]? = some a->e.A[j]? = some b->i≠j->a.a7=1->b.a7=1->a.n=b.n->a.n<5
 tr:∀(i:Nat) (r:bg),e.w[i]? = some r->r.C≠14->∀c∈cz r,5<=c->∀m∈e.A,m.a7=1->m.n≠c
 g0:bT e
 rn:Rn e
 ti:lU g h
def so{c:Type}{b:List c}{a:Nat}{d:c}(e:b[a]? = some d):a<b.length:=by
 grind
def Q.a7(m:Q t f g e){l:Nat}{c:Zb×Option aB}{a:dk}(p:f.nl[l]? = some c)(q:e.A[l]? = some a)(r:a.a7=1):∃d,c.2=some d/\jW d=true/\a.s=c.1/\a.m=(cU d).2/\oS e.w f.nl d a.n:=by
 obtain⟨k,b⟩:=m.nm.gk l c a p q;cases o:c.2 with
 |none=>simp_all
 |some d=>
  rw[o]at b;cases d with
  |const h i j=>omega
  |prog h i j d=>omega
  |typedef d=>exact⟨_,rfl,rfl,k,b.2⟩
  |enum h i j=>exact⟨_,rfl,rfl,k,b.2⟩
  |struct h i j=>exact⟨_,rfl,rfl,k,b.2⟩
  |union h i j d=>exact⟨_,rfl,rfl,k,b.2⟩
def Q.j2(c:Q t f g e){d h:Nat}{a b:dk}(i:e.A[d]? = some a)(j:e.A[h]? = some b)(k:a.s=b.s):d=h:=by
 have l:(e.A.map (·.s)).Nodup:=by rw[c.nm.jL];exact c.nm.nd
 grind [List.pairwise_iff_getElem]
def Wh.ds(c:Wh t h f g e)(a7:hW (gq (aA t)) g=.ok (d,k)):∃l,Wh t (h++[d]) l k (bV t e):=by
 have b1:=CE c.q c.pd c.dc;rw[a7]at b1;obtain⟨r,j,e1,ok,d8⟩:=b1;obtain⟨c5,M,a6⟩:=ok.nl;have a9:=Iy (t:=t) e;have a8:=j.e6.1;rw[ok.fz,c.fz]at a8;obtain⟨e0,d4⟩:=a8;have d3:e.A.length=f.nl.length:=c.q.nm.a2;have a5:∀x∈r.nl,x.2≠none:=by
  intro x i;rw[M]at i;rcases Yn.1 i with i|i
  .exact c.i1 x i
  grind
 have L:∀(a:Nat) (b:dk),(bV t e).A[a]? = some b->b.a7=1->a<e.A.length\/a=e.A.length:=by
  intro a b s A;rcases Yj a e.A.length with p|p
  .omega
  .right;have w:a<r.nl.length:=by rw[<-j.nm.a2];grind
   obtain⟨b4,N⟩:∃b4,r.nl[a]? = some b4:=⟨_,Yd w⟩;obtain⟨c6,a4,S,-⟩:=j.a7 N s A;rcases Yj e.A.length a with D|D
   .exfalso;rw[M,Yw (by omega)]at N;obtain⟨b3,K⟩:∃b3,a-f.nl.length=b3+1:=⟨a-f.nl.length-1,by omega⟩;rw[K,List.getElem?_cons_succ]at N;obtain⟨c3,c4,e3,R⟩:=a6 _ (Yh N);rw[R]at a4;cases a4
    cases S
   omega
 have H:∀(a:Nat) (b:dk),a<e.A.length->(bV t e).A[a]? = some b->e.A[a]? = some b:=by
  grind
 have a2:∀(b:dk),(bV t e).A[e.A.length]? = some b->b.a7=1->nM e.w.length (bV t e).w.length b.n:=by
  intro b s A;rcases LB (t:=t) e b (Yh s) A with p|p
  .exfalso;obtain⟨q,z,d0⟩:=List.mem_iff_getElem.1 p;have G:(bV t e).A[q]? = some b:=by grind
   have:=j.j2 s G rfl;omega
  omega
 have c8:gq (aA t) g=.ok (d,{ k with A:=k.A })\/True:=Ya trivial;have a0:∃P,gq (aA t) g=.ok (d,P)/\k = { P with A:=dd P.A (cU d).1 d }:=by
  cases m:gq (aA t) g with
  |error u=>grind [hX]
  |ok e2=>
   rw[oi m]at a7;grind
 obtain⟨P,a0,c2⟩:=a0;have b5:=c.rn.gt;refine⟨{ r with fz:=(bV t e).A },⟨⟨j.e,j.wd,j.nl,j.pd,j.nm,j.H,j.cn,j.pg,j.d6,j.d9,j.ou,j.pr,j.eL,⟨⟨[],by simp⟩,λq x _ i=>a5 x (Yh i)⟩⟩,ok.pd,ok.dc,rfl,?_,?_,?_,?_,a5,?_,?_,?_,Lj c.g0 b5,Og c.rn,?_⟩⟩
 .show r.o=_;rw[ok.o,c.o];simp
 .show YL _ _ r.ps;rw[ok.ps,YK];exact(c.ps.bo a9).ca (by grind)
 .show r.rf=_;rw[ok.rf,c.rf];simp
 .show r.nl.filterMap nB=_;rw[M,List.filterMap_append,c.nl,List.filter_append];grind [nB,List.filterMap_eq_nil_iff,jW]
 .intro x i R a1 b2;have i:x∈r.nl:=i;rw[M]at i;rcases Yn.1 i with i|i
  .exact c.h8 x i R a1 b2
  .rcases Yg.1 i with rfl|i
   .grind
   .obtain⟨b,y,v,S⟩:=a6 x i;rw[S]at a1;cases a1
    cases b2
 .intro a q b y s E b8 I F b6;rcases L a b s I with w|w
  .rcases L q y E F with z|z
   .exact c.ij a q b y (H a b w s) (H q y z E) b8 I F b6
   .subst z;have d5:=c.g0 b (Yh (H a b w s)) I;rcases a2 y E F with p|p;all_goals omega
  .subst w;rcases L q y E F with z|z
   .have d6:=c.g0 y (Yh (H q y z E)) F;rcases a2 b s I with p|p;all_goals omega
   omega
 .intro a O a3 K C m b7 B b9 A;have J:=j.d9 a O a3;have c7:C<(max a 5:Nat):=by
   unfold cz at m;split at m
   .simp at m;subst m;exact J.1
   .split at m
    .exact J.2.1 C m
    .split at m
     .rcases Yn.1 m with m|m
      .exact J.2.1 C m
      .simp at m;subst m;exact J.2.2.1
     grind
  have c9:=so a3;obtain⟨q,z,d1⟩:=List.mem_iff_getElem.1 b9;have G:(bV t e).A[q]? = some B:=by grind
  intro c0;rcases L q B G A with p|p
  .have b0:=H q B p G;have d7:=c.g0 B (Yh b0) A;rcases Yj a e.w.length with w|w
   .have c1:e.w[a]? = some O:=by
     obtain⟨d9,d2⟩:=a9;grind
    exact c.tr a O c1 K C m b7 B (Yh b0) A c0
   .rcases(HJ (t:=t) e).2 a O a3 w K C m with D|D<;>omega
  .subst p;rcases a2 B G A with D|D;all_goals omega
 .rw[c2];exact c.ti.ds a0
end
section
variable {f : Zb} {c k : St} {b l m p r o : ae} {g j : bz} {i : Mar.aw} {h : List aB} {d : aB}
def start(f:Zb):ae:={ ic with s:=⟨fL f 0,0,0⟩,w:=jR }
def pn:bz:=⟨0,[],[],[],[],[],[]⟩
def So(f:Zb):Wh f [] pn eK (start f):=by
 have g:∀(a:Nat) (b:bg),jR[a]? = some b->tH (max a 5) b/\b.C≠14/\cz b=[]/\b.bD=[]/\b.cg=[]:=by
  intro a b c;have h:=so c;have:a=0\/a=1\/a=2\/a=3\/a=4:=by simp[jR]at h;omega
  rcases this with rfl|rfl|rfl|rfl|rfl<;>(simp[jR]at c;subst c;refine⟨⟨by simp,by simp,by simp,by simp⟩,by simp,rfl,rfl,rfl⟩)
 refine⟨⟨rfl,DK f 0,rfl,Y8 rfl,⟨rfl,λa i b e=>by simp[pn]at e,by simp[pn]⟩,rfl,rfl,rfl,⟨[],rfl⟩,λa b c=>(g a b c).1,rfl,rfl,rfl,⟨⟨[],rfl⟩,λr i l=>by simp[pn]at l⟩⟩,rfl,rfl,rfl,rfl,qu _,rfl,rfl,?_,?_,?_,?_,?_,?_,?_⟩
 .intro i e;simp[pn]at e
 .intro i e;simp[pn]at e
 .grind [start,ic]
 .intro a b c q n k;rw[(g a b c).2.2.1]at k;grind
 .intro s m;simp[start,ic]at m
 .refine⟨by simp[start,jR],?_⟩;intro b c;obtain⟨a,h⟩:=List.mem_iff_getElem?.1 c;obtain⟨-,-,-,o,p⟩:=g a b h;simp_all
 .exact⟨by simp[eK],by simp[eK],by simp[eK],by simp,λt d j=>by simp[eK,aL]at j⟩
def hM(b:ae)(a:bg):bg:=if a.C=14 then { a with of:=(fg b a.b0).n }else a
def gw(b:ae)(a:Nat):ae:={ b with w:=(b.w.take a).map (hM b)++b.w.drop a }
def MC(b:ae):gw b 0=b:=by rfl
def MB(b:ae):gw b b.w.length = { b with w:=b.w.map (hM b) }:=by simp[gw]
def xP{a:Nat}{c:bg}(d:b.w[a]? = some c):(gw b a).w.getD a cS=c:=by
 have e:=so d;have f:((b.w.take a).map (hM b)).length=a:=by grind
 simp_all[gw,Yw]
def BV{a:Nat}{c:bg}(d:b.w[a]? = some c):gw b (a+1) = { gw b a with w:=(gw b a).w.set a (hM b c) }:=by
 have e:=so d;have f:((b.w.take a).map (hM b)).length=a:=by grind
 simp_all[gw,Yk,List.take_succ]
def fj(c:St)(a:Zb):Bool:=match aL c.A a with
 |some b=>pq b
 |none=>false
theorem JU(c:St)(a:Zb×Nat):lw c a=if fj c a.1=true then .ok ()else .error ⟨7,a.2⟩:=by
 unfold lw fj;grind
def Dv(l:Q f g c b)(w:g.pd=[])(a:Zb):(fj c a=true/\∃(k:Nat) (d:aB) (e:dk),aL c.A a=some (some d)/\jW d=true/\g.nl[k]? = some (a,some d)/\b.A[k]? = some e/\e.a7=1/\fg b a=e/\¬(bP b a<0\/(fg b a).a7≠1))\/(fj c a=false/\(bP b a<0\/(fg b a).a7≠1)):=by
 have v:c.A=g.nl:=by rw[l.nl,w];simp
 unfold fj;rw[v];rcases l.hF a with⟨o,s⟩|⟨k,x,e,o,s,p,q,t⟩
 .simp_all
 .have u:fg b a=e:=by
   grind [fg]
  rw[o];simp only;by_cases r:e.a7=1
  .obtain⟨d,m,n,-⟩:=l.a7 p q r;simp only at m;subst m;left;exact⟨n,k,d,e,rfl,n,p,q,r,u,by simp_all⟩
  .right;refine⟨?_,Ya (by simp_all)⟩;have y:=t.2;cases x with
   |none=>rfl
   |some d=>
    cases d with
    |const h i j=>rfl
    |prog h i j d=>rfl
    |typedef d=>omega
    |enum h i j=>omega
    |struct h i j=>omega
    |union h i j d=>omega
abbrev ut(c:St):eR Unit:=fK ⟨0,0,0,0,[]⟩ ⟨#[]⟩ c [] 0
def QX(c:St)(a:Zb×Nat)(b:List (Zb×Nat)):be (ut c) (a::b) ()=if fj c a.1=true then be (ut c) b ()else .error ⟨7,a.2⟩:=by
 conv=>lhs;unfold be
 have d:(ut c).a4 a ()=lw c a:=rfl;grind [JU]
def NB(a:bg)(b:List bg):kf (a::b)=if a.C=14 then (a.b0,a.m)::kf b else kf b:=by
 unfold kf;grind
def NE(t:Q f g c b)(E:g.pd=[]):∀(o h:Nat) (l:List (Zb×Nat)),h+o=b.w.length->kf (b.w.drop h)=l.map (λm=>(m.1,(m.2:Int)))->
  match be (ut c) l ()with
  |.error i=>Er i (mo o h (gw b h))
  |.ok _=>mo o h (gw b h)=gw b b.w.length/\∀m∈l,fj c m.1=true:=by
 intro o;induction o with
 |zero=>
  intro h l B k;have:h=b.w.length:=by omega
  subst this;rw[List.drop_length]at k;have:l=[]:=by
   simp_all[kf]
  subst this;exact⟨rfl,by simp⟩
 |succ o I=>
  intro h l B k;have C:h<b.w.length:=by omega
  obtain⟨j,p⟩:∃j,b.w[h]? = some j:=⟨_,Yd C⟩;have y:b.w.drop h=j::b.w.drop (h+1):=by
   grind [List.drop_eq_getElem_cons]
  rw[y,NB]at k;unfold mo;rw[xP p];by_cases q:j.C=14
  .rw[Y9 q]at k ⊢;cases l with
   |nil=>grind
   |cons m l=>
    simp only[List.map_cons,List.cons.injEq,Prod.mk.injEq]at k;obtain⟨⟨u,x⟩,k⟩:=k;rw[QX];have A:bP (gw b h) j.b0=bP b j.b0:=rfl;have D:fg (gw b h) j.b0=fg b j.b0:=rfl;rw[A,D,u];rcases Dv t E m.1 with⟨r,J,d,K,-,-,-,-,-,G,w⟩|⟨r,v⟩
    .rw[Y9 r,Y2 w];have F:setOf (gw b h) h (fg b m.1).n=gw b (h+1):=by
      rw[<-u,BV p];unfold setOf;rw[xP p];simp_all[hM]
     grind
    .rw[Y2 (by simp_all),Y9 v,x];have z:(gw b h).s.e=0:=t.e;exact zf z (e:=7) (a:=m.2) (by omega)
  .rw[Y2 q]at k ⊢;have F:gw b h=gw b (h+1):=by
    rw[BV p];unfold hM;rw[Y2 q];have:(gw b h).w.set h j=(gw b h).w:=by
     have H:=xP p;apply Cu;grind [gw]
    rw[this]
   grind
def gy(b:ae):ae:={ b with w:=b.w.map (hM b) }
def Po(a:Wh f h g c b):match kO c h with
  |.error i=>Er i (lF b)
  |.ok _=>lF b=gy b/\∀d∈h.flatMap gp,fj c d.1=true:=by
 have:=NE a.q a.pd b.w.length 0 (h.flatMap gp) (by omega) (by rw[List.drop_zero,a.q.eL,a.rf]);rw[MC,MB]at this;exact this
end
end Go.Proofs.YtjdhaegijjednaaGreatDoor
namespace Go.Proofs.YtjdhaegijjednaaGreatDoor
open Go.RowKit
open Relation
open Go.Proofs.Tryz
section
variable {P:Nat->Prop}{a:List Bool}{c y:Nat}
variable {σ : ae} {st : St}
def Re(σ:ae)(c y:Nat):Prop:=∃a,σ.w[c]? = some a/\(y:Int)∈cz a
abbrev Sn(a:List Bool)(c:Nat):Prop:=a.getD c false=true
def PF{b:Nat}:Sn (a.set b true) y↔Sn a y\/(y=b/\b<a.length):=by
 grind
theorem rm:∀(b:List Int) (a:List Bool) (y:Nat),Sn (hl b a) y↔Sn a y\/((y:Int)∈b/\y<a.length):=by
 intro b;induction b with
 |nil=>intro a y;simp[hl]
 |cons c b f=>
  intro a y;have d:hl (c::b) a=hl b (if 0<=c then a.set c.toNat true else a):=rfl
  rw[d,f];by_cases e:0<=c
  .rw[Y9 e,PF];simp only[YF,Yg];grind
  grind
def Ck{a:Nat}(b:a<σ.w.length):σ.w[a]? = some (σ.w.getD a cS):=by grind
def yc:∀(b c:Nat) (a:List Bool) (y:Nat),Sn a y->Sn (gO σ b c a) y:=by
 intro b;induction b<;>grind [gO,rm]
def Ow:∀(d b:Nat) (a:List Bool) (c y:Nat),b<=c->c<b+d->Sn a c->Re σ c y->y<a.length->Sn (gO σ d b a) y:=by
 intro d;induction d with
 |zero=>omega
 |succ d m=>
  intro b a c y h i g f l;unfold gO;by_cases e:c=b
  .subst e;apply yc;rw[Y9 g,rm];obtain⟨n,j,k⟩:=f;simp_all
  grind [xt,rm]
def Ov(h:∀c y,P c->Re σ c y->P y):∀(d b:Nat) (a:List Bool),b+d<=σ.w.length->(∀y,Sn a y->P y)->∀y,Sn (gO σ d b a) y->P y:=by
 intro d;induction d with
 |zero=>intro b a _ e;exact e
 |succ d j=>
  intro b a k e;unfold gO;apply j (b+1) _ (by omega);intro y g;split at g
  .rename_i i;rcases(rm _ _ _).1 g with f|⟨f,-⟩
   .grind
   .exact h b y (e b i) ⟨_,Ck (by omega),f⟩
  grind
def Oz:∀(b:Nat) (a:List Bool) (y:Nat),Sn a y->Sn (fO σ b a) y:=by
 intro b;induction b with
 |zero=>intro a y c;exact c
 |succ b d=>intro a y c;exact d _ _ (yc _ _ _ _ c)
def Cj(e:∀c y,P c->Re σ c y->P y):∀(b:Nat) (a:List Bool),(∀y,Sn a y->P y)->∀y,Sn (fO σ b a) y->P y:=by
 intro b;induction b with
 |zero=>intro a d;exact d
 |succ b f=>intro a d;exact f _ (Ov e _ _ _ (by omega) d)
def Oq:∀(b:Nat) (a:List Bool),(fO σ b a).length=a.length:=by
 intro b;induction b<;>grind [fO,Ci]
def iO:List Bool->Nat
 |[]=>0
 |b::a=>(if b then 1 else 0)+iO a
def Gd(a:List Bool):iO a<=a.length:=by
 induction a with
 |nil=>exact Y4 _
 |cons b a c=>grind [iO]
def Ge:∀(a b:List Bool),a.length=b.length->(∀y,Sn a y->Sn b y)->a≠b->iO a+1<=iO b:=by
 have p:∀(a b:List Bool),a.length=b.length->(∀y,Sn a y->Sn b y)->iO a<=iO b:=by
  intro a;induction a with
  |nil=>grind
  |cons c a h=>
   intro b j d;cases b with
   |nil=>grind
   |cons e b=>
    have k:=h b (by simp_all) (λy g=>d (y+1) g);have i:c=true->e=true:=λf=>d 0 (show (c::a).getD 0 false=true from f);simp only[iO];grind
 intro a;induction a with
 |nil=>grind
 |cons c a h=>
  intro b j d n;cases b with
  |nil=>grind
  |cons e b=>
   have m:a.length=b.length:=by simp_all
   have o:∀y,Sn a y->Sn b y:=λy g=>d (y+1) g;have i:c=true->e=true:=λf=>d 0 (show (c::a).getD 0 false=true from f);simp only[iO];by_cases l:a=b;all_goals grind
theorem OA(c:gO σ σ.w.length 0 a=a):∀b,fO σ b a=a:=by
 intro b;induction b<;>grind [fO]
def Oy:∀(b:Nat) (a:List Bool),gO σ σ.w.length 0 (fO σ b a)=fO σ b a\/iO a+b<=iO (fO σ b a):=by
 intro b;induction b with
 |zero=>intro a;exact Ya (Y4 _)
 |succ b g=>
  intro a;by_cases d:gO σ σ.w.length 0 a=a
  .grind [OA]
  .have f:=Ge a (gO σ σ.w.length 0 a) (Ci _ _ _ _).symm (λy e=>yc _ _ _ _ e) (λc=>d c.symm);grind [fO]
def Gf(b:Sn a y):1<=iO a:=by
 induction a generalizing y with
 |nil=>cases b
 |cons d a c=>
  cases y with
  |zero=>
   grind [iO]
  |succ y=>have:=c (y:=y) b;simp only[iO];omega
theorem Ox(i:a.length=σ.w.length)(e:Sn (fO σ σ.w.length a) c)(h:Re σ c y)(d:y<σ.w.length):Sn (fO σ σ.w.length a) y:=by
 have g:=Oq (σ:=σ) σ.w.length a;have j:gO σ σ.w.length 0 (fO σ σ.w.length a)=fO σ σ.w.length a:=by
  rcases Oy (σ:=σ) σ.w.length a with b|b
  .exact b
  .have f:=Gd (fO σ σ.w.length a);rw[g,i]at f;have l:iO a=0:=by omega
   have k:∀y,¬Sn a y:=λy d=>by have:=Gf d;omega
   exfalso;exact Cj (σ:=σ) (P:=λ_=>False) (λ_ _ b _=>b) σ.w.length a (λy d=>k y d) c e
 rw[<-j];exact Ow _ _ _ c y (YV _) (by grind) e h (by omega)
theorem Cf(e:rK σ)(a:Re σ c y):y<σ.w.length:=by
 obtain⟨f,b,d⟩:=a;have:=(e f (Yh b)).2 y d;omega
def Ht(g:rK σ){r:Nat}(e:r<σ.w.length):mZ σ r=true↔TransGen (Re σ) r r:=by
 unfold mZ;have k:(hl (cz (σ.w.getD r cS)) (List.replicate σ.w.length false)).length=σ.w.length:=by rw[xt];simp
 have j:∀y,¬Sn (List.replicate σ.w.length false) y:=λy b=>by
  grind
 constructor
 .intro d;refine Cj (σ:=σ) (P:=λy=>TransGen (Re σ) r y) (λc y f b=>TransGen.tail f b) σ.w.length _ ?_ r d;intro y b;rcases(rm _ _ _).1 b with a|⟨a,-⟩
  .grind
  .exact TransGen.single ⟨_,Ck e,a⟩
 .intro d;have all:∀y,TransGen (Re σ) r y->Sn (fO σ σ.w.length (hl (cz (σ.w.getD r cS)) (List.replicate σ.w.length false))) y:=by
   intro y b;induction b with
   |single a=>
    apply Oz;rw[rm];right;have l:=Cf g a;obtain⟨n,h,i⟩:=a;simp_all
   |tail _ a m=>grind [Ox,Cf]
  grind
def Ne(st:St)(c b:Zb):Prop:=∃a,(b,a)∈lv st c
def Kw(st:St)(a:Zb):Prop:=a∈st.A.map (·.1)
def RS{a b:Zc}(d:∀c∈a,c∈b):hq st b<=hq st a:=by
 unfold hq;induction st.A<;>grind
def Dz{a:Zc}{b:Zb}(f:b ∉ a)(d:Kw st b):hq st (a++[b])+1<=hq st a:=by
 unfold hq Kw at *
 revert d;induction st.A with
 |nil=>simp
 |cons c e g=>
  intro d;have h:e.countP (λc=>!(a++[b]).contains c.1)<=e.countP (λc=>!a.contains c.1):=by
   simp_all[List.countP_mono_left]
  grind
structure Fo(st:St)(src:Zb->Prop)(t R:Zc):Prop where
 b9:∀c∈t,c∈R
 i4:∀n,src n->n∈R
 i8:∀c∈R,c∈t\/∃n,src n/\(c=n\/TransGen (Ne st) n c)
 cl:∀c∈R,c ∉ t->∀y,Ne st c y->y∈R
def Am{k:Nat}(q:∀b a,Kw st b->hq st a<=k->Fo st (λd=>d=b) a (follow st k b a)):∀(h:List (Zb×Nat)) (a:Zc),(∀d∈h,Kw st d.1)->hq st a<=k->Fo st (λb=>∃l,(b,l)∈h) a (h.foldl (λa d=>follow st k d.1 a) a):=by
 intro h;induction h with
 |nil=>intro a _ _;exact⟨λc f=>f,λb f=>(by simp_all),λc f=>Y8 f,λc f e=>absurd f e⟩
 |cons d h s=>
  intro a n o;have i:=q d.1 a (n d (by simp)) o;have e:=s (follow st k d.1 a) (λc g=>n c (by grind)) (Yz (RS i.b9) o);rw[YY];refine⟨λc g=>e.b9 c (i.b9 c g),?_,?_,?_⟩
  .rintro b ⟨l,m⟩;rcases Yg.1 m with t|m
   .exact e.b9 b (i.i4 b (by grind))
   .exact e.i4 b ⟨l,m⟩
  .intro c g;rcases e.i8 c g with j|⟨b,⟨l,j⟩,u⟩
   .rcases i.i8 c j with v|⟨b,rfl,w⟩;all_goals grind
   grind
  .intro c g r y p;by_cases j:c∈follow st k d.1 a
   .exact e.b9 y (i.cl c j r y p)
   .exact e.cl c g j y p
def If(o:∀a d,Ne st a d->Kw st d):∀(k:Nat) (a:Zb) (e:Zc),Kw st a->hq st e<=k->Fo st (λd=>d=a) e (follow st k a e):=by
 intro k;induction k with
 |zero=>
  intro a e l q;have:a∈e:=by
   rcases Classical.em (a∈e)with b|b
   .exact b
   .have:=Dz b l;omega
  exact⟨λc b=>b,λd f=>by subst f;exact this,λc b=>Y8 b,λc b h=>absurd b h⟩
 |succ k s=>
  intro a e l q;unfold follow;by_cases p:a∈e
  .rw[Y9 (by simp_all)];exact⟨λc b=>b,λd f=>by simp_all,λc b=>Y8 b,λc b h=>absurd b h⟩
  .rw[Y2 (by simp_all)];have g:=Am (k:=k) (λa e g h=>s a e g h) (lv st a) (e++[a]) (λd f=>o a d.1 ⟨d.2,f⟩) (by have:=Dz p l;omega);refine⟨λc i=>g.b9 c (Yf _ i),λd f=>by subst f;exact g.b9 _ (by simp),?_,?_⟩
   .intro c i;rcases g.i8 c i with h|⟨d,f,j⟩
    .grind
    .right;refine⟨a,rfl,Ya ?_⟩;have m:Ne st a d:=f;rcases j with rfl|j
     .exact TransGen.single m
     .exact TransGen.trans (TransGen.single m) j
   .intro c i t y n;by_cases r:c=a
    .subst r;exact g.i4 y n
    .exact g.cl c i (by simp_all) y n
def NJ(m:∀j a,Ne st j a->Kw st a){d:aB}(o:lv st (cU d).1=eB d):kV st d=true↔TransGen (Ne st) (cU d).1 (cU d).1:=by
 unfold kV;have i:∀a c,(a,c)∈eB d->Ne st (cU d).1 a:=λa c h=>⟨c,by simp_all⟩;have e:=Am (k:=hq st []) (λj l e b=>If m _ j l e b) (eB d) [] (λa g=>m _ _ (i a.1 a.2 g)) (Y4 _);generalize (eB d).foldl (λl a=>follow st (hq st []) a.1 l) []=n at *
 rw[List.contains_iff_mem];constructor
 .intro h;rcases e.i8 _ h with b|⟨a,⟨c,g⟩,f⟩
  .grind
  .rcases f with f|f
   .rw[<-f]at g;exact TransGen.single (i _ _ g)
   .exact TransGen.trans (TransGen.single (i _ _ g)) f
 .intro h;have all:∀y,TransGen (Ne st) (cU d).1 y->y∈n:=by
   intro y p;induction p with
   |single b=>
    obtain⟨c,b⟩:=b;rw[o]at b;exact e.i4 _ ⟨c,b⟩
   |tail _ b q=>exact e.cl _ q (by simp) _ b
  simp_all
end
section
variable {r:dk}{b y:Nat}
variable {f : Zb} {st : St} {a : ae} {c : bz} {e : List aB}
def lL(st:St)(e:List aB):Prop:=∀a∈e.flatMap gp,fj st a.1=true
structure rO(f:Zb)(st:St)(c:bz)(a:ae)(n:Zb)(d:aB)(r:dk):Prop where
 m2:aL st.A n=some (some d)
 H:jW d=true
 m:∃i:Nat,c.nl[i]? = some (n,some d)/\a.A[i]? = some r
 a7:r.a7=1
 b0:fg a n=r
 h0:oS a.w c.nl d r.n
 f5:0<=r.n/\r.n<a.w.length
 h8:(cU d).1=n
 n6:r.m=(cU d).2
def Wh.hs(b:Wh f e c st a){j:Zb}(u:fj st j=true):∃d r,rO f st c a j d r:=by
 rcases Dv b.q b.pd j with⟨-,s,d,r,l,m,g,h,i,p,-⟩|⟨l,-⟩
 .obtain⟨t,k,-,-,n,o⟩:=b.q.a7 g h i;simp only[Yu]at k;subst k;exact⟨d,r,l,m,⟨s,g,h⟩,i,p,o,b.g0 r (Yh h) i,b.h8 _ (Yh g) d rfl m,n⟩
 simp_all
abbrev fP(a:ae)(b:Zb):Nat:=(fg a b).n.toNat
def rO.i5{d:Zb}{b:aB}(e:rO f st c a d b r):lv st d=eB b:=by
 unfold lv;rw[e.m2]
def Wh.ne(j:Wh f e c st a)(l:lL st e){h:Zb}{d:Zb×Nat}(b:d∈lv st h):fj st d.1=true:=by
 unfold lv at b;cases i:aL st.A h with
 |none=>simp_all
 |some m=>
  cases m with
  |none=>simp_all
  |some g=>
   rw[i]at b;simp only at b;rcases j.ti.nm h g i with k|⟨n,o,v,rfl⟩
   .exact l d (List.mem_flatMap.2 ⟨g,k,AP g d b⟩)
   .simp[eB]at b
def RE{a:Zb}(c:fj st a=true):Kw st a:=by
 unfold fj aL at c;cases b:st.A.find? (λe=>e.1==a)with
 |none=>simp_all
 |some f=>
  have d:=List.mem_of_find?_eq_some b;have g:=List.find?_some b;exact YE.2 ⟨f,d,by simp_all⟩
def Nv{c:bg}(e:a.w[b]? = some c)(d:c.C=14)(f:(y:Int)=(fg a c.b0).n):Re (gy a) b y:=by
 refine⟨hM a c,?_,?_⟩
 .show (a.w.map (hM a))[b]? = _;simp_all
 simp_all[hM,cz]
def vj{c:bg}(e:a.w[b]? = some c)(d:c.C≠14)(f:(y:Int)∈cz c):Re (gy a) b y:=by
 refine⟨hM a c,?_,?_⟩
 .show (a.w.map (hM a))[b]? = _;simp_all
 simp_all[hM]
def xZ(f:Re (gy a) b y):∃c,a.w[b]? = some c/\((c.C=14/\(y:Int)=(fg a c.b0).n)\/(c.C≠14/\(y:Int)∈cz c)):=by
 obtain⟨c,d,g⟩:=f;have d:(a.w.map (hM a))[b]? = some c:=d;rw[List.getElem?_map]at d;cases h:a.w[b]? with
 |none=>simp_all
 |some e=>
  rw[h]at d;simp only[Option.map_some,Yu]at d;subst d;refine⟨e,rfl,?_⟩;unfold hM at g;by_cases i:e.C=14;all_goals simp_all[cz]
def Wh.i3(t:Wh f e c st a):∀{h:Ty} {b:Int} {g:Zb×Nat},dt a.w h b->g∈cH h->fj st g.1=true->0<=b/\TransGen (Re (gy a)) b.toNat (fP a g.1):=by
 intro h;induction h with
 |plain z=>grind [cH]
 |named B v=>
  rintro b g ⟨j,A,k,l,m,-⟩ d n;simp[cH]at d;subst d;obtain⟨w,r,s⟩:=t.hs n;refine⟨j,TransGen.single (Nv k l ?_)⟩;rw[m];unfold fP;have:=s.f5;rw[s.b0];omega
 |opaq p i=>grind [cH]
 |str p i=>grind [cH]
 |arr q p i o=>
  rintro b g ⟨j,u,k,l⟩ d n;cases i with
  |false=>simp[cH]at d
  |true=>
   have d:g∈cH q:=by simpa[cH]using d
   obtain⟨x,m⟩:=o l d n;refine⟨j,TransGen.trans (TransGen.single (vj (y:=u.toNat) k (by simp[dz]) ?_)) m⟩;grind [cz,dz]
 |opt q o=>grind [cH]
 |void=>grind [cH]
def Wh.j7(o:Wh f e c st a){w:Zb}{h:aB}(A:rO f st c a w h r){x:Zb×Nat}(b:x∈eB h)(q:fj st x.1=true):TransGen (Re (gy a)) (fP a w) (fP a x.1):=by
 have M:fP a w=r.n.toNat:=by unfold fP;rw[A.b0]
 rw[M];have j:=A.h0;cases h with
 |const l n g=>exact j.elim
 |prog l n g h=>exact j.elim
 |typedef h=>exact(o.i3 j.1 b q).2
 |enum l n g=>simp[eB]at b
 |struct l n R=>
  obtain⟨G,k,p,H,s⟩:=j;simp only[eB,List.mem_flatMap]at b;obtain⟨N,K,b⟩:=b;obtain⟨d,t⟩:=List.mem_iff_getElem?.1 K;have u:d<k.length:=by grind
  have v:=Yd u;obtain⟨z,i⟩:=o.i3 (s d _ N v t) b q;refine TransGen.trans (TransGen.single (vj (y:=(k[d]).toNat) p (by simp) ?_)) i;grind [cz]
 |union l n S E=>
  obtain⟨G,of,k,F,p,-,H,s,B,I⟩:=j;simp only[eB,List.mem_flatMap]at b;obtain⟨m,C,b⟩:=b;by_cases D:m.1=[]
  .have J:=I m C D;rw[J]at B;obtain⟨z,i⟩:=o.i3 B b q;refine TransGen.trans (TransGen.single (vj (y:=F.toNat) p (by simp) ?_)) i;grind [cz]
  .obtain⟨g,O,P⟩:=List.exists_cons_of_ne_nil D;have L:(g,m.2)∈dE E:=List.mem_flatMap.2 ⟨m,C,YE.2 ⟨g,by simp_all,rfl⟩⟩;obtain⟨d,t⟩:=List.mem_iff_getElem?.1 L;have u:d<k.length:=by grind
   have v:=Yd u;obtain⟨z,i⟩:=o.i3 (s d _ _ v t) b q;refine TransGen.trans (TransGen.single (vj (y:=(k[d]).toNat) p (by simp) ?_)) i;grind [cz]
def Wh.m9(d:Wh f e c st a)(k:lL st e){j:Zb}(o:fj st j=true){i:Zb}(p:TransGen (Ne st) j i):fj st i=true/\TransGen (Re (gy a)) (fP a j) (fP a i):=by
 induction p with
 |single b=>
  obtain⟨m,b⟩:=b;have g:=d.ne k b;obtain⟨n,r,h⟩:=d.hs o;rw[h.i5]at b;exact⟨g,d.j7 h b g⟩
 |tail _ b l=>
  obtain⟨m,b⟩:=b;have g:=d.ne k b;obtain⟨n,r,h⟩:=d.hs l.1;rw[h.i5]at b;exact⟨g,TransGen.trans l.2 (d.j7 h b g)⟩
def qm(st:St)(a:ae)(c:Zb)(b:Nat):Prop:=b=fP a c\/∃d,dt a.w d b/\∀e∈cH d,e∈lv st c
def zz(g:Q f c st a){e:bg}(d:a.w[b]? = some e)(i:b<5):e.C≠14/\cz e=[]:=by
 obtain⟨j,h⟩:=g.d6;rw[h,Ys (by simp[jR];omega)]at d;have:b=0\/b=1\/b=2\/b=3\/b=4:=by omega
 rcases this with rfl|rfl|rfl|rfl|rfl<;>(simp[jR]at d;subst d;exact⟨by simp,rfl⟩)
def Wh.kw(B:Wh f e c st a){i:Zb}{r:Ty}(g:dt a.w r (b:Int))(x:∀p∈cH r,p∈lv st i)(D:Re (gy a) b y) :
  (∃n,Ne st i n/\(y:Int)=(fg a n).n)\/(qm st a i y/\∃(b:Nat) (j:bg),a.w[b]? = some j/\j.C≠14/\(y:Int)∈cz j):=by
 obtain⟨j,h,v⟩:=xZ D;have m:((b:Int)).toNat=b:=by simp
 have o:j.C≠14->cz j=[]->False:=λF G=>by
  simp_all
 cases r with
 |plain L=>
  have H:=g.1;have I:=g.2;have E:=zz B.q h (by omega);simp_all
 |named n s=>
  obtain⟨-,M,t,u,J,-⟩:=g;rw[m,h]at t;cases t
  rcases v with⟨-,l⟩|⟨l,-⟩
  .left;exact⟨n,⟨s,x (n,s) (by simp[cH])⟩,by simp_all⟩
  omega
 |opaq i k=>
  have d:=g.2;rw[m,h]at d;cases d
  exact(o (by cases k<;>simp[dY]) (by cases k<;>rfl)).elim
 |str i k=>
  have d:=g.2;rw[m,h]at d;cases d
  exact(o (by simp[dY]) rfl).elim
 |arr A i k=>
  obtain⟨-,z,d,u⟩:=g;rw[m,h]at d;cases d
  cases k with
  |false=>exact(o (by simp[dz]) rfl).elim
  |true=>
   rcases v with⟨l,-⟩|⟨l,w⟩
   .simp[dz]at l
   .right;have K:(y:Int)=z:=by simpa[cz,dz]using w
    exact⟨Ya ⟨A,by simp_all,λp C=>x p (by simpa[cH]using C)⟩,b,_,h,l,w⟩
 |opt A=>
  obtain⟨-,z,d,u⟩:=g;rw[m,h]at d;cases d
  exact(o (by simp[dz]) rfl).elim
 |void=>have:(b:Int) = -1:=g;omega
def Wh.ms(A:Wh f e c st a){l:Zb}(a4:fj st l=true)(a2:qm st a l b)(D:Re (gy a) b y) :
  (∃P,Ne st l P/\(y:Int)=(fg a P).n)\/(qm st a l y/\∃(b:Nat) (v:bg),a.w[b]? = some v/\v.C≠14/\(y:Int)∈cz v):=by
 rcases a2 with rfl|⟨a8,d,a6⟩
 .obtain⟨m,r,w⟩:=A.hs a4;have O:fP a l=r.n.toNat:=by unfold fP;rw[w.b0]
  have a5:((fP a l:Nat):Int)=r.n:=by rw[O];have:=w.f5;omega
  have u:=w.i5;have d:=w.h0;obtain⟨v,n,I⟩:=xZ D;rw[O]at n;cases m with
  |const i q z=>exact d.elim
  |prog i q z m=>exact d.elim
  |typedef m=>exact A.kw (by rw[a5];exact d.1) (λG h=>by rw[u];exact h) D
  |enum i q z=>
   have j:=d.2;grind [cz]
  |struct i q F=>
   obtain⟨S,H,j,a0,B⟩:=d;rw[n]at j;cases j
   rcases I with⟨s,-⟩|⟨s,J⟩
   .grind
   .right;have k:(y:Int)∈H:=by simpa[cz]using J
    obtain⟨g,C⟩:=List.mem_iff_getElem?.1 k;have t:g<F.length:=by grind
    refine⟨Ya ⟨F[g].H,B g _ _ C (Yd t),λG h=>?_⟩,_,_,n,s,J⟩;rw[u];exact List.mem_flatMap.2 ⟨F[g],Yy t,h⟩
  |union i q a7 p=>
   obtain⟨S,of,H,R,j,-,a0,B,s,-⟩:=d;rw[n]at j;cases j
   rcases I with⟨K,-⟩|⟨K,L⟩
   .grind
   .right;refine⟨?_,_,_,n,K,L⟩;have k:(y:Int)∈H\/(y:Int)=R:=by simpa[cz]using L
    rcases k with k|k
    .obtain⟨g,C⟩:=List.mem_iff_getElem?.1 k;have t:g<(dE p).length:=by grind
     obtain⟨E,N⟩:∃E,(dE p)[g]? = some E:=⟨_,Yd t⟩;refine Ya ⟨E.2.H,B g _ _ C N,λG h=>?_⟩;rw[u];obtain⟨x,a1,a3⟩:=List.mem_flatMap.1 (Yh N);obtain⟨z,-,rfl⟩:=YE.1 a3;exact List.mem_flatMap.2 ⟨x,a1,h⟩
    .cases o:hV p with
     |none=>simp_all
     |some m=>
      rw[o]at s;refine Ya ⟨m.H,by simp_all,λG h=>?_⟩;rw[u];unfold hV at o;cases M:p.find? (λi=>i.1.isEmpty)with
      |none=>simp_all
      |some x=>
       rw[M]at o;simp at o;subst o;exact List.mem_flatMap.2 ⟨x,List.mem_of_find?_eq_some M,h⟩
 .exact A.kw d a6 D
def Wh.up(n:Wh f e c st a)(q:lL st e){g:Zb}(s:fj st g=true)(t:TransGen (Re (gy a)) (fP a g) y) :
  (∃h,TransGen (Ne st) g h/\fj st h=true/\y=fP a h)\/(∃d,(d=g\/TransGen (Ne st) g d)/\fj st d=true/\qm st a d y/\∃(b:Nat) (i:bg),a.w[b]? = some i/\i.C≠14/\(y:Int)∈cz i):=by
 have p:∀{d:Zb} {b y:Nat},(d=g\/TransGen (Ne st) g d)->fj st d=true->qm st a d b->Re (gy a) b y->
   (∃h,TransGen (Ne st) g h/\fj st h=true/\y=fP a h)\/(∃d,(d=g\/TransGen (Ne st) g d)/\fj st d=true/\qm st a d y/\∃(b:Nat) (i:bg),a.w[b]? = some i/\i.C≠14/\(y:Int)∈cz i):=by
  intro d b y m v r u;rcases n.ms v r u with⟨h,j,A⟩|⟨k,l⟩
  .left;refine⟨h,?_,?_,?_⟩
   .rcases m with rfl|m
    .exact TransGen.single j
    .exact TransGen.tail m j
   .obtain⟨x,j⟩:=j;exact n.ne q j
   grind
  grind
 induction t with
 |single k=>exact p (Y8 rfl) s (Y8 rfl) k
 |tail _ k w=>
  rcases w with⟨h,l,o,rfl⟩|⟨d,l,o,z,-⟩
  .exact p (Ya l) o (Y8 rfl) k
  grind
def Ib{a:Type}{r:a->a->Prop}{b c:a}(e:TransGen r b c):∃d,r b d:=by
 induction e<;>grind
def Wh.l0(g:Wh f e c st a)(o:lL st e){d:Zb}(m:fj st d=true):TransGen (Re (gy a)) (fP a d) (fP a d)↔TransGen (Ne st) d d:=by
 constructor
 .intro i;obtain⟨G,r,h⟩:=g.hs m;have K:fP a d=r.n.toNat:=by unfold fP;rw[h.b0]
  have J:5<=fP a d:=by
   rcases Yj (fP a d) 5 with k|k
   .exfalso;obtain⟨F,y⟩:=Ib i;obtain⟨v,w,I⟩:=xZ y;obtain⟨D,E⟩:=zz g.q w k;simp_all
   omega
  obtain⟨p,M,s⟩:=h.m;rcases g.up o m i with⟨C,k,l,n⟩|⟨O,-,-,-,b,v,l,n,x⟩
  .obtain⟨H,u,j⟩:=g.hs l;obtain⟨t,N,A⟩:=j.m;have L:fP a C=u.n.toNat:=by unfold fP;rw[j.b0]
   by_cases z:p=t
   .simp_all
   .exfalso;have B:=h.f5;have P:=j.f5;have:=g.ij p t r u s A z h.a7 j.a7 (by omega);omega
  .exfalso;have B:=h.f5;exact g.tr b v l n _ x (by omega) r (Yh s) h.a7 (by omega)
 .intro i;exact(g.m9 o m i).2
def Wh.ld(g:Wh f e c st a)(v:lL st e):rK (gy a):=by
 intro r m;have m:r∈a.w.map (hM a):=m;obtain⟨n,j⟩:=List.mem_iff_getElem?.1 m;rw[List.getElem?_map]at j;cases k:a.w[n]? with
 |none=>simp_all
 |some h=>
  rw[k]at j;simp only[Option.map_some,Yu]at j;subst j;have w:(gy a).w.length=a.w.length:=by show (a.w.map _).length=_;simp
  have B:=so k;have A:=g.rn.gt;have s:=g.rn.ck h (Yh k);have i:=g.q.d9 n h k;rw[w];unfold hM;by_cases l:h.C=14
  .rw[Y9 l];refine⟨s.2,λb d=>?_⟩;simp[cz,l]at d;subst d;have p:(h.b0,h.m)∈kf a.w:=by
    unfold kf;grind
   rw[g.q.eL,g.rf]at p;obtain⟨y,x,o⟩:=YE.1 p;simp only[Prod.mk.injEq]at o;have t:=v y x;rw[o.1]at t;obtain⟨z,r,u⟩:=g.hs t;rw[u.b0];exact u.f5.2
  .rw[Y2 l];refine⟨s.2,λb d=>?_⟩;have:b<(max n 5:Nat):=by
    unfold cz at d;split at d
    .simp at d;subst d;exact i.1
    .split at d
     .exact i.2.1 b d
     .split at d
      .rcases Yn.1 d with d|d
       .exact i.2.1 b d
       .simp at d;subst d;exact i.2.2.1
      simp_all
   omega
def Wh.l4(h:Wh f e c st a)(i:lL st e){g:Zb}{d:aB}(b:rO f st c a g d r)(l:fj st g=true):mZ (gy a) r.n.toNat=kV st d:=by
 have p:(gy a).w.length=a.w.length:=by show (a.w.map _).length=_;simp
 have q:=b.f5;have n:=Ht (h.ld i) (r:=r.n.toNat) (by omega);have k:=NJ (st:=st) (λg t j=>by obtain⟨m,j⟩:=j;exact RE (h.ne i j)) (d:=d) (by rw[b.h8];exact b.i5);have o:=h.l0 i l;have s:fP a g=r.n.toNat:=by unfold fP;rw[b.b0]
 rw[b.h8]at k;grind
end
end Go.Proofs.YtjdhaegijjednaaGreatDoor
namespace Go.Proofs.YtjdhaegijjednaaGreatDoor
open Go.RowKit
open Go.Proofs.Tryz
section
variable {t : Zb} {c l : St} {b h : ae} {f j : bz} {g : Mar.aw} {a : List aB} {d : aB} {k i : Nat}
def hf(t:Zb)(k:Nat)(b:ae):Prop:=∃a f c,Wh t a f c b/\eD (aA t) 69 [] eK=eD (aA t) (69-a.length) a c/\a.length=k
def tt(t:Zb)(b:ae):Prop:=∃g,eD (aA t) 69 [] eK=.error g/\Er g b
def JO(t:Zb):hf t 0 (start t):=⟨[],pn,eK,So t,rfl,rfl⟩
theorem hf.e(a:hf t k b):b.s.e=0:=by obtain⟨_,_,_,a,_⟩:=a;exact a.q.e
def hf.le(d:hf t k b):k<=68:=by
 obtain⟨a,f,c,d,-,rfl⟩:=d;have e:=d.ti.H;have g:=d.ti.co;have h:=d.ti.pr;have i:=d.ti.bp;omega
def hf.g0(a:hf t k b):bT b/\Rn b:=by obtain⟨_,_,_,a,_⟩:=a;exact⟨a.g0,a.rn⟩
theorem Wh.g1{g:Mar.aT}{e:Nat}(d:Wh t a f c b)(h:dK t c.m c.nx=.ok (g,e)):Wh t a f { c with m:=e,nx:=some g } b:=
 ⟨d.q.g1 h,d.pd,d.dc,d.fz,d.o,d.ps,d.rf,d.nl,d.i1,d.h8,d.ij,d.tr,d.g0,d.rn,⟨d.ti.H,d.ti.co,d.ti.pr,d.ti.bp,d.ti.nm⟩⟩
def hf.ds(e:hf t k b)(w:b.s.x.C≠0):hf t (k+1) (bV t b)\/tt t (bV t b):=by
 have A:=e.le;obtain⟨a,f,c,e,n,rfl⟩:=e;rw[show 69-a.length=(68-a.length)+1 by omega]at n;rcases pk t c with⟨r,y,h⟩|⟨g,h⟩
 .have p:=e.q.wd;rw[h]at p;have q:((r.C:Int)==0)=false:=by
   rw[p.1.1]at w;simp_all
  have i:=e.g1 h;have o:=CE i.q i.pd i.dc;cases m:gq (aA t) { c with m:=y,nx:=some r }with
  |error g=>
   rw[hX m]at o;exact Ya ⟨g,by rw[n];exact Dm (pH h) q m,o⟩
  |ok z=>
   obtain⟨d,B⟩:=z;obtain⟨j,v⟩:=i.ds (oi m);left;refine⟨a++[d],j,_,v,?_,by simp⟩;rw[n,Dp (pH h) q m];simp
 .have l:=e.q.bd h;right;refine⟨g,by grind [Do,sR],?_⟩;have u:bV t b=dj b:=by
   unfold bV;rw[Y2 (by rw[l.is (by omega)];simp),Y2 (by rw[l.is (by omega)];simp),Y9 (Y8 (by rw[l.k];omega))]
  rw[u];exact l.g2
theorem hf.fin(d:hf t k b)(i:b.s.x.C=0):∃a f c,Wh t a f c b/\eD (aA t) 69 [] eK=.ok (a,c):=by
 have m:=d.le;obtain⟨a,f,c,d,h,rfl⟩:=d;rw[show 69-a.length=(68-a.length)+1 by omega]at h;rcases pk t c with⟨o,n,e⟩|⟨g,e⟩
 .have j:=d.q.wd;rw[e]at j;refine⟨a,f,_,d.g1 e,?_⟩;rw[h];exact Dn (pH e) (by rw[j.1.1]at i;simp_all)
 .have l:=d.q.bd e;rw[l.k]at i;omega
def hw(t:Zb)(i:Nat)(h:ae):Prop:=
 (∃a f c b,h=gy b/\Wh t a f c b/\lL c a/\eE (aA t)=(match fX c ((f.nl.drop i).filterMap nB)with|.error g=>.error g|.ok _=>.ok a))\/(∃g,eE (aA t)=.error g/\Er g h)
def Dq(c:t.length<=1200):eE (aA t)=match eD (aA t) 69 [] eK with
  |.error g=>.error g
  |.ok (a,b)=>match kO b a with
   |.error g=>.error g
   |.ok _=>match fX b a with
    |.error g=>.error g
    |.ok _=>.ok a:=by
 unfold eE;rw[Y2 (by show ¬1200<t.length;omega)];rfl
theorem Hp(c:St)(a:List aB):fX c a=fX c (a.filter jW):=by
 induction a with
 |nil=>rfl
 |cons d a h=>
  cases g:jW d with
  |true=>
   grind [fX]
  |false=>
   rw[List.filter_cons_of_neg (by grind)];conv=>lhs;unfold fX
   have:kV c d=false:=by
    unfold kV;have:eB d=[]:=by
     cases d with
     |const b e f=>rfl
     |prog b e f d=>rfl
     |typedef d=>cases g
     |enum b e f=>rfl
     |struct b e f=>cases g
     |union b e f d=>cases g
    simp_all
   simp_all
def Rv(k:t.length<=1200)(h:Wh t a f c b)(j:eD (aA t) 69 [] eK=.ok (a,c)):hw t 0 (lF b):=by
 have e:=Po h;have d:=Dq (t:=t) k;rw[j]at d;simp only at d;cases i:kO c a with
 |error g=>
  rw[i]at e d;exact Ya ⟨g,d,e⟩
 |ok l=>
  rw[i]at e d;refine Y8 ⟨a,f,c,b,e.1,h,e.2,?_⟩;grind [Wh.nl,Hp]
def Rr(f:t.length<=1200)(d:tt t b)(i:Nat):hw t i b:=by
 obtain⟨g,c,e⟩:=d;have a:=Dq (t:=t) f;rw[c]at a;exact Ya ⟨g,a,e⟩
theorem hw.ok(d:hw t i h)(j:h.s.e=0):∃a f c b,h=gy b/\Wh t a f c b/\lL c a/\eE (aA t)=(match fX c ((f.nl.drop i).filterMap nB)with|.error g=>.error g|.ok _=>.ok a):=by
 rcases d with d|⟨g,-,d⟩;all_goals grind [Er.d5]
def hw.row(d:hw t i h)(j:h.s.e=0){r:dk}(l:h.A[i]? = some r)(m:r.a7=1):0<=r.n/\r.n<h.w.length/\rK h:=by
 obtain⟨a,f,c,b,rfl,d,g,-⟩:=d.ok j;have k:=d.g0 r (Yh l) m;refine⟨k.1,?_,d.ld g⟩;grind [gy]
def hw.ds(e:hw t i h)(G:h.s.e=0){l:dk}(k:h.A[i]? = some l):hw t (i+1) (if l.a7=1/\mZ h l.n.toNat=true then bL 9 l.m h else h):=by
 obtain⟨a,f,c,b,rfl,e,x,j⟩:=e.ok G;have k:b.A[i]? = some l:=k;have S:i<f.nl.length:=by rw[<-e.q.nm.a2];grind
 obtain⟨g,p⟩:∃g,f.nl[i]? = some g:=⟨_,Yd S⟩;have O:f.nl.drop i=g::f.nl.drop (i+1):=by
  grind [List.drop_eq_getElem_cons]
 rw[O,List.filterMap_cons]at j;by_cases A:l.a7=1
 .obtain⟨d,a6,K,L,M,a7⟩:=e.q.a7 p k A;have z:nB g=some d:=by grind [nB]
  rw[z]at j;simp only[fX]at j;have a0:c.A=f.nl:=by rw[e.q.nl,e.pd];simp
  have a8:g=(g.1,some d):=by grind
  have o:fj c g.1=true:=by
   unfold fj;rw[a0];rcases e.q.hF g.1 with⟨C,a2⟩|⟨I,a5,D,C,a2,J,a3,a4⟩
   .exact absurd (YE.2 ⟨g,Yh p,rfl⟩) (uu C)
   .have y:=e.q.j2 k a3 (by rw[L,a4.1]);subst y;rw[p]at J;simp only[Yu]at J;rw[C];have:a5=some d:=by grind
    rw[this];exact K
  obtain⟨w,D,E⟩:=e.hs o;obtain⟨I,B,v⟩:=E.m;have b0:fg b g.1=D:=E.b0;have a9:D.s=g.1:=(e.q.nm.gk I _ _ B v).1;have y:=e.q.j2 k v (by grind);subst y;rw[k]at v;cases v
  rw[p]at B;simp only[Yu]at B;have P:w=d:=by grind
  subst P;have R:=e.l4 x E o;rw[R];cases H:kV c w with
  |true=>
   rw[Y9 ⟨A,rfl⟩];rw[H]at j;simp only[if_true]at j
   right;refine⟨_,j,?_⟩;rw[M];exact zf G (e:=9) (a:=(cU w).2) (by omega)
  |false=>
   rw[Y2 (by simp)];rw[H]at j;simp only[Ye,if_false]at j
   exact Y8 ⟨a,f,c,b,rfl,e,x,j⟩
 .rw[Y2 (λF=>A F.1)];have z:nB g=none:=by
   unfold nB;cases a1:g.2 with
   |none=>rfl
   |some d=>
    simp only;cases o:jW d with
    |false=>simp
    |true=>
     exfalso;have N:=(e.q.nm.gk i g l p k).2;rw[a1]at N;cases d with
     |const m r u=>cases o
     |prog m r u d=>cases o
     |typedef d=>omega
     |enum m r u=>omega
     |struct m r u=>omega
     |union m r u d=>omega
  rw[z]at j;exact Y8 ⟨a,f,c,b,rfl,e,x,j⟩
def qg(t:Zb)(h:ae):Prop:=match eE (aA t)with
 |.error g=>Er g h
 |.ok a=>h.s.e=0/\∃f c b,h=gy b/\Wh t a f c b/\lL c a
theorem hw.fin(d:hw t i h)(j:h.A.length<=i\/h.s.e≠0):qg t h:=by
 unfold qg;rcases d with⟨a,f,c,b,rfl,d,m,k⟩|⟨g,k,d⟩
 .have n:(gy b).s.e=0:=d.q.e;have l:f.nl.drop i=[]:=by
   rw[List.drop_eq_nil_iff,<-d.q.nm.a2];rcases j with j|j
   .exact j
   omega
  rw[l]at k;simp only[List.filterMap_nil,fX]at k;grind
 simp_all
end
section
variable {k:TypeId}{l h j:Option Addr}{o r m u:Zv}
variable {X : Nat -> Prop} {g d b : Nat} {t : Zb} {c : ae} {w : Zw} {f : PV}
def hf.up(a:hf t b c)(j:hf t (b+1) (bV t c)):kG c+1<=kG (bV t c):=by
 have m:=a.e;have f:=j.e;obtain⟨p,o,n,a,-⟩:=a;have s:=a.q.H;have l:=a.q.cn;rw[a.dc]at l;refine GU f m ⟨by omega,by omega⟩ ?_;intro k;rcases pk t n with⟨v,u,g⟩|⟨r,g⟩
 .have h:=a.q.wd;rw[g]at h;have:=h.2.ev;rw[h.1.1]at k;omega
 .have d:=a.q.bd g;have i:bV t c=dj c:=by
   unfold bV;rw[Y2 (by rw[d.is (by omega)];simp),Y2 (by rw[d.is (by omega)];simp),Y9 (Y8 (by omega))]
  rw[i]at f;exact d.g2.d5 f
theorem hf.cj(a:hf t b c):kG c<=68:=by
 obtain⟨f,e,d,a,-⟩:=a;have g:=a.ti.H;have h:=a.ti.co;have i:=a.ti.pr;have l:=a.q.H;have j:=a.q.cn;have k:c.O.length=d.O.length:=by rw[a.q.pg];simp
 grind [kG]
def bN(b:Nat):Nat:=5+2000000*b
def FC{d b:Nat}(a:d<=bN b):d+2000000<=bN (b+1):=by unfold bN at *;omega
def wo{d b:Nat}(a:d<=bN b)(c:b<=68):d+2000000<=200000000:=by unfold bN at *;omega
def xr(g:Nat)(w:Zw):Nat:=match w.cell? (Zd g 11),w.cell? (Zd g 13),w.cell? (Zd g 14),w.cell? (Zd g 15)with
 |some (.int _ b),some (.int _ a),some (.int _ t),some (.slice _ c _)=>if b=0 then 70-(a.toNat+t.toNat+c)else 0
 |_,_,_,_=>0
def AW(b:bk X g t d c f w):xr g w=if c.s.e=0 then 70-kG c else 0:=by
 obtain⟨l,o,p,q,r,u,v,x,y,m,h,n,i,j,a,A,B⟩:=b.al;obtain⟨ad,z,k⟩:=ce b.O;rw[k]at a;unfold xr;rw[h,i,j,a];rfl
def yj:Zv:=.agg #[.slice none 0 0,.slice none 0 0,.slice none 0 0,.string ⟨#[]⟩]
abbrev kX(a b c d:Zv):Obj:=.cells #[a,b,c,d] 62
def lO(t:Zb)(h:Ending)(k:Zw):Prop:=match eE (aA t)with
 |.error a=>h=.returned (.tuple #[yj,.int .i64 a.no,.int .i64 a.m])/\a.no≠0
 |.ok e=>∃f b X g d j i c,h=.returned (.tuple #[oD f b,.int .i64 0,.int .i64 0])/\bk X g t d b f k/\d<=1000000000/\b=gy c/\Wh t e j i c/\lL i e
def vk{Q:Ending->Zw->Prop}{a:Act}{R:Nat}{b c:Zv}(s:a.tmps.getD 2 undef=Zp R)(p:a.tmps.getD 3 undef=b)(q:a.tmps.getD 4 undef=c)(h:a.defers=[])(d:w.heap[R]? = some (kX o r m u))(i:Q (.returned (.tuple #[.agg #[o,r,m,u],b,c])) w):bodyPost prog Tryz.f26 Q .ret a w:=by
 refine bodyPost_ret (v:=.tuple #[.agg #[o,r,m,u],b,c]) ?_ h i;have j:w.cell? (Zd R 0)=some o:=aU d rfl;have k:w.cell? (Zd R 1)=some r:=aU d rfl;have l:w.cell? (Zd R 2)=some m:=aU d rfl;have n:w.cell? (Zd R 3)=some u:=aU d rfl;unfold results;have e:a.tmps[2]?.getD undef=Zp R:=by simp_all
 have f:a.tmps[3]?.getD undef=b:=by simp_all
 have g:a.tmps[4]?.getD undef=c:=by simp_all
 simp[results26,e,f,g,go_sem,j,k,l,n]
def EJ(t:Zb)(w:Zw)(d:1200<t.length):Calls prog 26 #[Zs t] w λc a=>am [] w a/\lO t c a:=by
 have e:(1200:Int) < ↑t.length:=by omega
 have b:ac (eE (aA t)=.error ⟨1,0⟩):=by
  show _=_;unfold eE;rw[Y9 (by show 1200<t.length;omega)]
 clear d;go_in;go_wp2;refine vk (R:=w.heap.size) rfl rfl rfl rfl (aS rfl) ?_;refine⟨(ak [] w).B _,?_⟩;unfold lO;rw[b.j];exact⟨rfl,by simp⟩
def xa{w d:Zw}(a:Fr (λe=>e<w.heap.size) w d):am [] w d:=⟨a.os,a.dX,a.dU,a.ar,λb c _=>a.G b c c⟩
abbrev sm(w:Zw)(a:Nat)(b c d e:Zv):Zw:=(((w.setCell ⟨a,0,none⟩ b).setCell ⟨a,1,none⟩ c).setCell ⟨a,2,none⟩ d).setCell ⟨a,3,none⟩ e
def un(w:Zw)(a:Nat)(b c d e:Zv):am [a] w (sm w a b c d e):=((((ak [a] w).ay (p:=⟨a,0,none⟩) (by simp) _).ay (p:=⟨a,1,none⟩) (by simp) _).ay (p:=⟨a,2,none⟩) (by simp) _).ay (p:=⟨a,3,none⟩) (by simp) _
def wZ{w:Zw}{a:Nat}{j h f e:Zv}(b c d g:Zv)(l:w.heap[a]? = some (.cells #[j,h,f,e] k)):(sm w a b c d g).heap[a]? = some (.cells #[b,c,d,g] k):=by
 have m:(w.setCell ⟨a,0,none⟩ b).heap[a]? = some (.cells #[b,h,f,e] k):=bu (i:=0) l b;have n:((w.setCell ⟨a,0,none⟩ b).setCell ⟨a,1,none⟩ c).heap[a]? = some (.cells #[b,c,f,e] k):=bu (i:=1) m c;have o:(((w.setCell ⟨a,0,none⟩ b).setCell ⟨a,1,none⟩ c).setCell ⟨a,2,none⟩ d).heap[a]? = some (.cells #[b,c,d,e] k):=bu (i:=2) n d;exact bu (i:=3) o g
def FV{e a:Zw}{p i n b:Nat}(w:bk X g t d c f e)(R:f.rv=.slice j c.w.length p)(O:f.nv=.slice l c.A.length i)(P:f.pv=.slice h c.ag.length n)(q:e.heap[b]? = some (.cells #[o,r,m,u] k))(s:am [] e a):a.cell? (Zd g 7)=some (.slice j c.w.length p)/\a.cell? (Zd g 8)=some (.slice l c.A.length i)/\a.cell? (Zd g 9)=some (.slice h c.ag.length n)/\a.cell? (Zd g 10)=some (Zs c.j)/\a.cell? (Zd b 2)=some m:=by
 obtain⟨y,E,F,G,H,I,J,K,L,v,z,A,B,C,D,M,N⟩:=(w.au s).al;have x:=(s.G b (ap q) (by simp)).trans q;exact⟨by simp_all,by simp_all,by simp_all,v,aU x rfl⟩
def Iu{m:Zw}{i a b:Nat}{k:Nat}(hF:qg t c)(D:c.s.e=0)(n:bk X g t d c f m)(H:f.rv=.slice j c.w.length i)(F:f.nv=.slice l c.A.length a)(G:f.pv=.slice h c.ag.length b)(w:d<=1000000000)(C:X k):lO t (.returned (.tuple #[.agg #[.slice j c.w.length i,.slice l c.A.length a,.slice h c.ag.length b,Zs c.j],U 0,U 0])) (sm m k (.slice j c.w.length i) (.slice l c.A.length a) (.slice h c.ag.length b) (Zs c.j)):=by
 unfold qg at hF;unfold lO;split
 .grind [Er.d5]
 .rename_i B y;rw[y]at hF;obtain⟨-,p,z,A,r,u,v⟩:=hF;refine⟨f,c,X,g,d,p,z,A,?_,?_,w,r,u,v⟩
  .simp_all
  .have o:=un m k (.slice j c.w.length i) (.slice l c.A.length a) (.slice h c.ag.length b) (Zs c.j);exact n.gE o (λI E=>by simp_all) (λ_=>Y8) (λq x=>Yr (n.aY q x) o.ar)
def Ar{w:Zw}(hF:qg t c)(b:c.s.e≠0):lO t (.returned (.tuple #[yj,U c.s.e,U c.s.a])) w:=by
 grind [qg,lO,Er.e,Er.a]
def EL(t:Zb)(w:Zw)(g4:t.length<=1200):Calls prog 26 #[Zs t] w λf6 J=>am [] w J/\lO t f6 J:=by
 have m9:¬(1200:Int) < ↑t.length:=by omega
 have f0:=Z g4;have e7:ac (aN (λi=>i<w.heap.size) (w.heap.size+1) t 0 ic [.obj w.heap.size (kX (.slice none 0 0) (.slice none 0 0) (.slice none 0 0) (.string ⟨#[]⟩))] w ((w.alloc (kX (.slice none 0 0) (.slice none 0 0) (.slice none 0 0) (.string ⟨#[]⟩))).alloc (lC t ic.s (pf qX ic)))):=by
  have g7:=Nm (X:=λi=>i<w.heap.size+1) (t:=t) (w.alloc (kX (.slice none 0 0) (.slice none 0 0) (.slice none 0 0) (.string ⟨#[]⟩))) (λi p=>by simp;exact p) (by omega);have j6:(w.alloc (kX (.slice none 0 0) (.slice none 0 0) (.slice none 0 0) (.string ⟨#[]⟩))).heap.size=w.heap.size+1:=by simp
  rw[j6]at g7;refine⟨bC.b9 ⟨_,g7⟩ ?_,?_,?_,?_,?_⟩
  .rintro i (p|⟨d8,A,p⟩)
   .exact Nat.lt_succ_of_lt p
   .simp at A;subst A;have:w.heap.size=i:=by simpa[Th.ba]using p
    omega
  .exact rG (((ak [] w).B _).B _) (by simp)
  .intro d8 A;simp at A;subst A;exact(((ak [] _).B _).G _ (by simp) (by simp)).trans (aS rfl)
  .intro d8 A i p h1;simp at A;subst A;have:w.heap.size=i:=by simpa[Th.ba]using p
   have h1:i<w.heap.size:=h1;omega
  .intro c h2 d8 i i9 A p;match c,h2 with
   |0,0=>exact absurd rfl i9
   |0,h2+1=>simp at p
   |c+1,_=>simp at A
 have e8:ac (∀b:Nat,b<=4->cm ⟨b,0,0,[],[],0,[],0⟩ { ic with w:=jR.take b } = { ic with w:=jR.take (b+1) }):=Z (λb j0=>by
  have:b=0\/b=1\/b=2\/b=3\/b=4:=by omega
  rcases this with rfl|rfl|rfl|rfl|rfl<;>rfl)
 clear g4;go_in;go_wp2;go_loopw [6] (λe6 b4=>∃b:Nat,e6=U b/\b<=5/\ac (aN (λi=>i<w.heap.size) (w.heap.size+1) t b { ic with w:=jR.take b } [.obj w.heap.size (kX (.slice none 0 0) (.slice none 0 0) (.slice none 0 0) (.string ⟨#[]⟩))] w b4)) (λe6 _=>5-(intOf e6).toNat)
 case atStart=>exact⟨0,rfl,by omega,e7⟩
 case round=>
  obtain⟨b,rfl,j0,o⟩:=hrel;clear e7;rcases Yj b 5 with e2|e2
  .have f8:(↑b:Int)<=4:=by omega
   go_wp2_with fail;refine aM o (nt · ⟨b,0,0,[],[],0,[],0⟩ rfl rfl (by omega)) λk2 N=>?_;rw[e8.j b (by omega)]at N;go_wp2;exact⟨⟨b+1,by go_num,by omega,N⟩,by simp[intOf];omega⟩
  .have f8:¬(↑b:Int)<=4:=by omega
   have e2:b=5:=by omega
   subst e2;go_wp2_with fail;refine aM o (gZ ·) λk2 N=>?_;rw[show aW t { ic with w:=jR.take 5 } = start t from rfl]at N;have d5:ac ((∃b,hf t b (start t)/\5<=bN b)\/(tt t (start t)/\5<=200000000)):=Z (Y8 ⟨0,JO t,Y4 _⟩);clear o e8 f8;go_upto_block 2 with fail;go_cut [] (λwc=>∃(g:ae) (d:Nat),d<=200000000/\ac (aN (λi=>i<w.heap.size) (w.heap.size+1) t d g [.obj w.heap.size (kX (.slice none 0 0) (.slice none 0 0) (.slice none 0 0) (.string ⟨#[]⟩))] w wc)/\ac ((g.s.e=0/\hw t 0 (lF g))\/((g.s.e==0)=false/\hw t 0 g)));case first=>
    go_wp2;go_loopw [] (λb4=>∃(g:ae) (d:Nat),ac (aN (λi=>i<w.heap.size) (w.heap.size+1) t d g [.obj w.heap.size (kX (.slice none 0 0) (.slice none 0 0) (.slice none 0 0) (.string ⟨#[]⟩))] w b4)/\ac ((∃b,hf t b g/\d<=bN b)\/(tt t g/\d<=200000000))) (λb4=>xr (w.heap.size+1) b4)
    case atStart=>exact⟨start t,5,N,d5⟩
    case round=>
     obtain⟨g,d,o,G⟩:=hrel;clear N d5;obtain⟨f,gV,f3,l,q⟩:=o.j.ax.sp;have d3:=Z (AW l);obtain⟨a2,a8,a9,b0,b1,b2,C,D,E,a3,B,a4,a5,a6,a7,b6,b7⟩:=l.al;clear l q a8 a9 b0 b1 b2 C D E a3 a4 a5 a6 a7;rcases G.j with⟨b,z,b3⟩|⟨i5,b3⟩
     .have e:=z.e;rw[e]at B;by_cases c5:g.s.x.C=0
      .rw[c5]at a2;have c3:d<=200000000:=by have:=wo b3 z.le;omega
       have y:ac (hw t 0 (lF g)):=by
        obtain⟨m0,l7,n6,r,i4⟩:=z.fin c5;exact Z (Rv f0.j r i4)
       clear e c5 d3 b3;go_wp2;go_meet;case rel=>exact⟨g,d,c3,o,Z (Y8 ⟨z.e,y.j⟩)⟩
      .have m8:((g.s.x.C:Int)==0)=false:=by simp;omega
       have g3:((g.s.x.C:Int) != 0)=true:=by simp;omega
       have g6:=z.le;have g9:=Z z.g0;have f2:=Z (z.ds c5);have f1:=Z z;have i6:d+2000000<=1000000000:=Yz (wo b3 g6) (by decide);have m3:=z.cj;have e9:ac (d+2000000<=bN (b+1)/\d+2000000<=200000000):=Z ⟨FC b3,wo b3 g6⟩;clear z G e c5;go_wp2_with fail;refine aM o (Hd · g9.j.1 (λm j4=>(g9.j.2.ck m j4).1) i6) λk3 O=>?_;go_wp2;refine⟨⟨bV t g,d+2000000,O,?_⟩,?_⟩
       .rcases f2.j with r|r
        .exact Z (Y8 ⟨b+1,r,e9.j.1⟩)
        .exact Z (Ya ⟨r,e9.j.2⟩)
       .obtain⟨l8,i8⟩:=O.j.ax;rw[d3.j,AW i8,Y9 f1.j.e];rcases f2.j with r|⟨f7,-,r⟩
        .rw[Y9 r.e];have:=f1.j.up r;have:=r.cj;omega
        .rw[Y2 r.d5];omega
     .obtain⟨f7,g0,d9⟩:=i5;have e:(g.s.e==0)=false:=by have:=d9.d5;simp;exact this
      have y:ac (hw t 0 g):=Z (Rr f0.j ⟨f7,g0,d9⟩ 0);clear G d9 g0 d3;go_wp2;go_meet;case rel=>exact⟨g,d,b3,o,Z (Ya ⟨e,y.j⟩)⟩
   case rest=>
    obtain⟨g,d,c3,o,G⟩:=hcut;clear N d5;obtain⟨f,gV,f3,l,q⟩:=o.j.ax.sp;obtain⟨a2,a8,a9,b0,b1,b2,C,D,E,a3,B,a4,a5,a6,a7,b6,b7⟩:=l.al;clear l q a2 a8 a9 b0 b1 b2 C D E a3 a4 a5 a6 a7;go_upto_if 46 with fail;go_cut [] (λwc=>∃K,ac (aN (λi=>i<w.heap.size) (w.heap.size+1) t d K [.obj w.heap.size (kX (.slice none 0 0) (.slice none 0 0) (.slice none 0 0) (.string ⟨#[]⟩))] w wc)/\ac (hw t 0 K));case first=>
     rcases G.j with⟨e,c4⟩|⟨e,c4⟩
     .have p:(g.s.e==0)=true:=by rw[e];rfl
      have y:=Z c4;clear e c4 G;go_wp2_with fail;refine aM o (NF · (Yz c3 (by decide))) λk3 O=>?_;go_wp2;go_meet;case rel=>exact⟨_,O,y⟩
     .have y:=Z c4;clear c4 G;go_wp2;go_meet;case rel=>exact⟨_,o,y⟩
    case rest=>
     obtain⟨K,O,y⟩:=hcut;clear o G B b6 b7;go_wp2;go_loopw [7] (λe4 b4=>∃(c:Nat) (a:ae),e4=U c/\c<=K.A.length/\ac (a.A.length=K.A.length)/\ac (aN (λi=>i<w.heap.size) (w.heap.size+1) t d a [.obj w.heap.size (kX (.slice none 0 0) (.slice none 0 0) (.slice none 0 0) (.string ⟨#[]⟩))] w b4)/\ac (hw t c a)) (λe4 _=>K.A.length-(intOf e4).toNat)
     case atStart=>exact⟨0,K,rfl,by omega,Z rfl,O,y⟩
     case round=>
      obtain⟨c,a,rfl,g1,b5,P,S⟩:=hrel;clear O y;obtain⟨f,gV,f3,l,q⟩:=P.j.ax.sp;obtain⟨j,f5,I⟩:=ce l.w;obtain⟨h,f4,H⟩:=ce l.ag;obtain⟨a2,a8,a9,b0,b1,b2,C,D,E,a3,B,a4,a5,a6,a7,b6,b7⟩:=l.al;rw[I]at C;rw[q]at D;rw[H]at E;have M:=Z l;have u:=Z (Yp I (Yp q H));have k:=P.j.a5 (i:=0) (R:=w.heap.size) rfl;have a0:=Z k;have l5:=cK k;have l1:wr.cell? (Zd w.heap.size 0)=some (.slice none 0 0):=aU k rfl;have l2:wr.cell? (Zd w.heap.size 1)=some (.slice none 0 0):=aU k rfl;have l3:wr.cell? (Zd w.heap.size 2)=some (.slice none 0 0):=aU k rfl;have l4:wr.cell? (Zd w.heap.size 3)=some (.string ⟨#[]⟩):=aU k rfl;have l6:=ap k;clear l I q H k a2 a8 a9 b0 b1 b2 a5 a6 a7;have n2:w.heap.size≠w.heap.size+1:=by omega
      by_cases e:a.s.e=0
      .rcases Yj c a.A.length with d2|e1
       .obtain⟨m1,l9,h0,k5,k6,k7,k8,k9,l0,m4⟩:=pD M.j d2;have e3:=u.j.2.1;rw[h0]at e3;simp only[Value.slice.injEq]at e3;obtain⟨rfl,-,rfl⟩:=e3;have e0:a.A[c]? = some (a.A.getD c hI):=by simp[d2]
        have c8:=Z (S.j.ds e e0);have d7:=Z (S.j.row e e0);generalize j5:a.A.getD c hI=m at *
        have m5:(0:Int)<=↑c:=by omega
        have m6:(↑c:Int) < ↑a.A.length:=by omega
        have g2:ac (c+1<=K.A.length):=Z (by rw[<-b5.j];omega);have b9:=Z e;have m7:a.A.length<=200000000:=by have c1:=M.j.bp;unfold ae.sz at c1;omega
        rw[e]at B;clear S e e0 j5 h0 d2;by_cases b8:m.a7=1
        .have j7:(m.a7==1)=true:=by simpa using b8
         obtain⟨j2,j3,g5⟩:=d7.j b8;obtain⟨F,g3⟩:∃F:Nat,m.n=F:=⟨m.n.toNat,by omega⟩;have c9:ac (hw t (c+1) (if mZ a F=true then bL 9 m.m a else a)):=by
          have c1:=c8.j;rw[g3,Int.toNat_natCast]at c1;simp only[b8,true_and]at c1;exact Z c1
         have j1:F<a.w.length:=by omega
         have h3:=Z g5;clear d7 c8 g5 j2 j3;go_wp2;have c0:=Z (P.j.B (.cells #[Zs m.s,U 1,U ↑F,U m.m] 119));clear C D E a3 B a4 b6 b7 k5 k6 k7 k8 k9 l0 l1 l2 l3 l4 l5 l6 M u a0;generalize m2:wr.heap.size=a1 at *
         generalize wr.alloc (.cells #[Zs m.s,U 1,U ↑F,U m.m] 119)=c6 at c0 ⊢;obtain⟨f,h5,h6,l,q⟩:=c0.j.ax.sp;obtain⟨j,f5,I⟩:=ce l.w;obtain⟨h,f4,H⟩:=ce l.ag;obtain⟨a2,a8,a9,b0,b1,b2,C,D,E,a3,B,a4,a5,a6,a7,b6,b7⟩:=l.al;rw[I]at C;rw[q]at D;rw[H]at E;have d0:=Z (Hu (l.au (ak [] c6).aq) j1 h3.j (Yz c3 (by decide)));unfold oD at d0;rw[I,q,H]at d0;have k:=c0.j.a5 (i:=0) (R:=a1) rfl;have j8:c6.cell? (Zd a1 2)=some (U ↑F):=aU k rfl;have j9:c6.cell? (Zd a1 3)=some (U m.m):=aU k rfl;have k0:=cK k;have k1:=ap k;have M:=Z l;have u:=Z (Yp I (Yp q H));have a0:=Z k;clear l I q H k a2 a8 a9 b0 b1 b2 a5 a6 a7;refine cx (λJ=>J.cell? ⟨w.heap.size+1,7,none⟩=some (.slice j a.w.length f5)/\J.cell? ⟨w.heap.size+1,8,none⟩=some (.slice h5 a.A.length h6)/\J.cell? ⟨w.heap.size+1,9,none⟩=some (.slice h a.ag.length f4)/\J.cell? ⟨w.heap.size+1,10,none⟩=some (Zs a.j)/\J.cell? (Zd a1 2)=some (U ↑F)) (L:=7) (by kernel_rfl) rfl (by kernel_rfl) (by kernel_rfl) ?_ (λf9=>?_)
         .go_keep
         refine bH [0,1,2,3,4,5] ?_;iterate 6 (refine bK (v:=?_) rfl (by kernel_rfl) (λ_ _ _ i3=>i3) (by kernel_rfl) (by assumption) ?_ ?_;rotate_left;focus (intro w i7;(try dsimp only at i7);go_simp;(try with_reducible rfl));(try simp only[aJ,aK,List.set]))
         refine bI ?_;refine bF 6 (by kernel_rfl) rfl λd4 c2=>?_;(go_simp;refine d0.j.mono ?_;rintro f6 k4 ⟨rfl,e5⟩;have d6:=Z (c0.j.aq.F e5);obtain⟨h9,i0,i1,h7,h8⟩:=FV (M.j.au (ak [] c6).aq) u.j.1 u.j.2.1 u.j.2.2 (show (c6.drew).heap[a1]? = _ from a0.j) e5);refine c2.out _ _ ?_ (λf9=>?_)
         .go_keep
         clear c2 d4;(try simp only[aJ,aK,List.set]);refine cR (by kernel_rfl) rfl λd4 c2=>?_;go_simp;refine c2.out _ _ ?_;clear c2 d4;(try simp only[aJ,aK,List.set]);have k:=d6.j.a5 (i:=0) (R:=a1) rfl;have n3:k4.cell? (Zd a1 3)=some (U m.m):=aU k rfl;have n4:=cK k;have n5:=ap k;have d1:=g2.j;clear k d0 f9 C D E a3 B a4 b6 b7 j8 j9 k0 k1 M u a0 h9 i0 i1 h7 h8 c0 e5;cases p:mZ a F with
         |true=>
          rw[p,Y9 rfl]at c9;go_wp2_with fail;refine aM d6 (jo · 9 m.m) λn7 h4=>?_;go_wp2;exact⟨⟨c+1,bL 9 m.m a,by go_num,d1,b5,Z h4.j.b3,c9⟩,by simp[intOf];omega⟩
         |false=>
          rw[p,Y2 (by simp)]at c9;go_wp2;exact⟨⟨c+1,a,by go_num,d1,b5,Z d6.j.b3,c9⟩,by simp[intOf];omega⟩
        .have j7:(m.a7==1)=false:=by simpa using b8
         rw[Y2 (λi2=>b8 i2.1)]at c8;clear d7 b8;go_wp2;have d1:=g2.j;exact⟨⟨c+1,a,by go_num,d1,b5,Z ((P.j.B _).b3),c8⟩,by simp[intOf];omega⟩
       .have g8:¬(↑c:Int) < ↑a.A.length:=by omega
        have c7:=Z (S.j.fin (Y8 e1));have b9:=Z e;rw[e]at B;clear S b5 g1 e e1;go_wp2;refine vk (R:=w.heap.size) rfl rfl rfl rfl (wZ _ _ _ _ a0.j) ?_;refine⟨pu (xa P.j.fr) (un _ _ _ _ _ _) (by simp),?_⟩;exact Iu c7.j b9.j M.j u.j.1 u.j.2.1 u.j.2.2 (Yz c3 (by decide)) (Ya ⟨_,Yc.2 rfl,rfl⟩)
      .have n0:(a.s.e==0)=false:=by simpa using e
       have n1:(a.s.e != 0)=true:=by simpa using e
       have c7:=Z (S.j.fin (Ya e));have b9:=Z e;clear S b5 g1 e;rcases Yj c a.A.length with d2|e1
       .have g8:(↑c:Int) < ↑a.A.length:=by omega
        go_wp2;go_region;go_wp2;refine vk (R:=w.heap.size) (w:=(sm wr w.heap.size (.slice none 0 0) (.slice none 0 0) (.slice none 0 0) (.string ⟨#[]⟩)).drew) rfl rfl rfl rfl (wZ _ _ _ _ a0.j) ?_;exact⟨(pu (xa P.j.fr) (un _ _ _ _ _ _) (by simp)).aq,Ar c7.j b9.j⟩
       .have g8:¬(↑c:Int) < ↑a.A.length:=by omega
        go_wp2;go_region;go_wp2;refine vk (R:=w.heap.size) (w:=(sm wr w.heap.size (.slice none 0 0) (.slice none 0 0) (.slice none 0 0) (.string ⟨#[]⟩)).drew) rfl rfl rfl rfl (wZ _ _ _ _ a0.j) ?_;exact⟨(pu (xa P.j.fr) (un _ _ _ _ _ _) (by simp)).aq,Ar c7.j b9.j⟩
def zg(t:Zb)(w:Zw):Calls prog 26 #[Zs t] w λc b=>am [] w b/\lO t c b:=by
 rcases Yj 1200 t.length with a|a
 .exact EJ t w a
 .exact EL t w a
end
end Go.Proofs.YtjdhaegijjednaaGreatDoor
namespace Go.Proofs.YtjdhaegijjednaaGreatDoor
open Go.RowKit Go.Extern.Stop Go.Stop Go.Extern
open Go.Proofs.Tryz
abbrev nc(a:Nat):Zv:=.pointer (some ⟨8,a,none⟩)
abbrev iy(c:Nat)(a:Addr)(b:Int):Zv:=.agg #[nc c,.pointer (some a),.int .u64 b]
abbrev vl(c:Nat)(a:Addr)(b:Int):Obj:=.cells #[nc c,.pointer (some a),.int .u64 b] 302
abbrev ix(a:Nat):Zv:=.iface 407 (.agg #[nc a])
def Oe(b:Addr)(a:Zw):(ReflectliteValue.unpack (.iface 177 (.pointer (some b)))).run prog a=.ok (iy 177 ⟨a.heap.size,0,none⟩ 150) (a.alloc (.cells #[.pointer (some b)] 177)):=by kernel_rfl
def Oc (b : Addr) (a : World) : (ReflectliteValue.methodAny (ReflectliteValue.valueError "reflectlite.Value.Type" 0) (fun c _ _ _ => ReflectliteType.toType c) #[iy 177 b 150]).run Tryz.prog a = .ok (ix 177) a := by kernel_rfl
def NW (c : Nat) (a : Value) (b : World) : (Go.method (c + 3) 407 (.agg #[a]) "Kind").run Tryz.prog b = .ok (321, a) b := by kernel_rfl
def NU (c : Nat) (a : Value) (b : World) : (Go.method (c + 3) 407 (.agg #[a]) "Elem").run Tryz.prog b = .ok (380, .agg #[a]) b := by kernel_rfl
def NV (c : Nat) (a : Value) (b : World) : (Go.method (c + 3) 407 (.agg #[a]) "Implements").run Tryz.prog b = .ok (381, .agg #[a]) b := by kernel_rfl
def NT (c : Nat) (a : Value) (b : World) : (Go.method (c + 3) 407 (.agg #[a]) "AssignableTo").run Tryz.prog b = .ok (378, .agg #[a]) b := by kernel_rfl
def NS(a:Zw):((ReflectliteType.abiMethod λc=>(λb:Nat=>Value.int IntKind.u8 (b:Int)) <$> Rtype.kind c) #[nc 177]).run prog a=.ok (.int .u8 22) a:=by kernel_rfl
def NR(a:Zw):((ReflectliteType.abiMethod λc=>(λb:Nat=>Value.int IntKind.u8 (b:Int)) <$> Rtype.kind c) #[nc 143]).run prog a=.ok (.int .u8 22) a:=by kernel_rfl
def Ch(a:Addr)(b:Zw):(ReflectliteValue.parts (iy 177 a 150)).run prog b=.ok (some (177,a,150)) b:=by kernel_rfl
def NQ(b d:Addr)(a:Zw)(c:a.cell? b=some (.pointer (some d))) :
  (ReflectliteValue.method (ReflectliteValue.valueError "reflectlite.Value.IsNil" 0) ReflectliteValue.isNil #[iy 177 b 150]).run Tryz.prog a = .ok (.bool false) a := by
 change Sem.run prog (ReflectliteValue.parts (iy 177 b 150) >>= _) a=_;simp only[Sem.run_bind,Ch,Result.andThen];simp[ReflectliteValue.isNil,loadVar,isAgg,underlying,underlying177,c,Result.andThen]
def NN(a:Zw):(ReflectliteType.method ReflectliteType.elem #[.agg #[nc 177]]).run prog a=.ok (ix 143) a:=by kernel_rfl
def NP (a : World) : (ReflectliteType.relation "Implements" ReflectliteType.implements_ #[.agg #[nc 143], ix 55]).run Tryz.prog a = .ok (.bool true) a := by kernel_rfl
def Ob(v:Zv)(a:Zw):(ReflectliteType.typeOf #[.iface 143 v]).run prog a=.ok (ix 143) a:=by kernel_rfl
def NK (a : World) : (ReflectliteType.relation "AssignableTo" ReflectliteType.assignableTo #[.agg #[nc 143], ix 143]).run Tryz.prog a = .ok (.bool true) a := by kernel_rfl
def Od(b:Addr)(a:Zw):(ReflectliteValue.unpack (.iface 143 (.pointer (some b)))).run prog a=.ok (iy 143 ⟨a.heap.size,0,none⟩ 150) (a.alloc (.cells #[.pointer (some b)] 143)):=by kernel_rfl
def NM(a:Zw):(Rtype.elem? 177).run prog a=.ok (some 143) a:=by kernel_rfl
def NX(a:Addr)(b:Zw):(ReflectliteValue.mk 143 a ReflectliteValue.flagAddr).run prog b=.ok (iy 143 a 406) b:=by kernel_rfl
def NO(b c:Addr)(a:Zw)(d:a.cell? b=some (.pointer (some c))) :
  (ReflectliteValue.method (ReflectliteValue.valueError "reflectlite.Value.Elem" 0) ReflectliteValue.elem #[iy 177 b 150]).run Tryz.prog a = .ok (iy 143 c 406) a := by
 change Sem.run prog (ReflectliteValue.parts (iy 177 b 150) >>= _) a=_;simp only[Sem.run_bind,Ch,Result.andThen];simp[ReflectliteValue.elem,loadVar,isAgg,underlying,underlying177,d,Result.andThen,NM,NX]
def NY(a:Addr)(b:Zw):(ReflectliteValue.parts (iy 143 a 406)).run prog b=.ok (some (143,a,406)) b:=by kernel_rfl
def NZ(a:Addr)(b:Zw):(ReflectliteValue.parts (iy 143 a 150)).run prog b=.ok (some (143,a,150)) b:=by kernel_rfl
def NL(a:Zw):(Rtype.directlyAssignable 143 143).run prog a=.ok true a:=by kernel_rfl
def Oa(b c d:Addr)(f:Zv)(a:Zw)(e:a.cell? c=some (.pointer (some d)))(h:a.cell? b=some f)(g:a.frozen? b=false) :
  (ReflectliteValue.set #[iy 143 b 406,iy 143 c 150]).run prog a=.ok (.tuple #[]) (a.setCell b (.pointer (some d))):=by
 change Sem.run prog (ReflectliteValue.parts (iy 143 b 406) >>= λ_=>ReflectliteValue.parts (iy 143 c 150) >>= _) a=_;simp only[Sem.run_bind,NY,NZ,Result.andThen];simp[ReflectliteValue.flagAddr,loadVar,isAgg,underlying,underlying143,e,Result.andThen,NL,storeVar,Value.cells,storeCells,Addr.add];rw[run_store prog a b _ _ (by rfl)];simp_all
abbrev rW(a:Zw)(b:Addr):Zw:=(a.alloc (.cells #[.pointer (some b)] 177)).alloc (vl 177 ⟨a.heap.size,0,none⟩ 150)
def FA(c a:Addr)(f:Zv)(b:Zw)(n:b.cell? (Zd 1 0)=some (ix 55))(p:b.cell? a=some f)(m:b.frozen? a=false) :
  Calls prog 92 #[.iface 143 (.pointer (some c)),.iface 177 (.pointer (some a))] b λg i=>g=.returned (.bool true)/\
   i=(((rW b a).alloc (vl 177 ⟨b.heap.size,0,none⟩ 150)).alloc (.cells #[.pointer (some c)] 143)).setCell a (.pointer (some c)):=by
 have D:=@run_callFunc_extern prog 155 _ (λargs=>ReflectliteValue.unpack (args.getD 0 (.tuple #[]))) func155 (by kernel_rfl) (by kernel_rfl) (by kernel_rfl) (by kernel_rfl)
 have F := @run_callFunc_extern Tryz.prog 156 _ (ReflectliteValue.methodAny (ReflectliteValue.valueError "reflectlite.Value.Type" 0) (fun a _ _ _ => ReflectliteType.toType a)) Tryz.func156 (by kernel_rfl) (by kernel_rfl) (by kernel_rfl) (by kernel_rfl)
 have G := @run_callFunc_extern Tryz.prog 157 _ (ReflectliteValue.method (ReflectliteValue.valueError "reflectlite.Value.IsNil" 0) ReflectliteValue.isNil) Tryz.func157 (by kernel_rfl) (by kernel_rfl) (by kernel_rfl) (by kernel_rfl)
 have H:=@run_callFunc_extern prog 321 _ (ReflectliteType.abiMethod λa=>do pure (.int .u8 (<-Rtype.kind a))) func321 (by kernel_rfl) (by kernel_rfl) (by kernel_rfl) (by kernel_rfl);have I:=@run_callFunc_extern prog 380 _ (ReflectliteType.method ReflectliteType.elem) func380 (by kernel_rfl) (by kernel_rfl) (by kernel_rfl) (by kernel_rfl)
 have J := @run_callFunc_extern Tryz.prog 381 _ (ReflectliteType.relation "Implements" ReflectliteType.implements_) Tryz.func381 (by kernel_rfl) (by kernel_rfl) (by kernel_rfl) (by kernel_rfl)
 have K:=@run_callFunc_extern prog 219 _ ReflectliteType.typeOf func219 (by kernel_rfl) (by kernel_rfl) (by kernel_rfl) (by kernel_rfl)
 have L := @run_callFunc_extern Tryz.prog 378 _ (ReflectliteType.relation "AssignableTo" ReflectliteType.assignableTo) Tryz.func378 (by kernel_rfl) (by kernel_rfl) (by kernel_rfl) (by kernel_rfl)
 have M := @run_callFunc_extern Tryz.prog 220 _ (ReflectliteValue.method (ReflectliteValue.valueError "reflectlite.Value.Elem" 0) ReflectliteValue.elem) Tryz.func220 (by kernel_rfl) (by kernel_rfl) (by kernel_rfl) (by kernel_rfl)
 have E:=@run_callFunc_extern prog 221 _ ReflectliteValue.set func221 (by kernel_rfl) (by kernel_rfl) (by kernel_rfl) (by kernel_rfl);have z:=Ob;have t:=NT;have j:=NK;have B:=Od;have C:=Oe;have A:=Oc;have w:=NW;have u:=NU;have v:=NV;have s:=NS;have r:=NR;have k:=NN;have q:=NP;have x:=NQ ⟨b.heap.size,0,none⟩ a (rW b a) (by simp);have h:1<b.heap.size:=by
  rcases Yj 1 b.heap.size with d|d
  .exact d
  simp_all[World.cell?]
 have o:(rW b a).cell? (Zd 1 0)=some (ix 55):=by
  rw[World.cell?_alloc_lt _ _ ⟨1,0,none⟩ (by simp;omega),World.cell?_alloc_lt _ _ ⟨1,0,none⟩ h];omega
 have e:a.block<b.heap.size:=by
  rcases Yj a.block b.heap.size with d|d
  .exact d
  simp_all[World.cell?]
 have l:=NO ⟨b.heap.size,0,none⟩ a ((rW b a).alloc (vl 177 ⟨b.heap.size,0,none⟩ 150)) (by rw[World.cell?_alloc_lt _ _ ⟨b.heap.size,0,none⟩ (by simp;omega)];simp);have y:=Oa a ⟨b.heap.size+1+1+1,0,none⟩ c f (((rW b a).alloc (vl 177 ⟨b.heap.size,0,none⟩ 150)).alloc (.cells #[.pointer (some c)] 143))
  (by rw[World.cell?_alloc_at _ _ _ _ (by simp)];rfl)
  (by rw[World.cell?_alloc_lt _ _ a (by simp;omega),World.cell?_alloc_lt _ _ a (by simp;omega),World.cell?_alloc_lt _ _ a (by simp;omega),World.cell?_alloc_lt _ _ a e];omega)
  (by rw[World.frozen?_alloc_old _ _ a (by simp;omega),World.frozen?_alloc_old _ _ a (by simp;omega),World.frozen?_alloc_old _ _ a (by simp;omega),World.frozen?_alloc_old _ _ a (Nat.ne_of_lt e)];omega)
 go_in;go_wp2;refine wp_loop_rounds 1 ?_;rw[rounds_succ];go_wp2;go_ret;simp
end Go.Proofs.YtjdhaegijjednaaGreatDoor
namespace Go.Proofs.YtjdhaegijjednaaGreatDoor
open Go.RowKit
open Go.Proofs.Tryz
def ET{a:Zw}(p:a.cell? (Zd 1 0)=some (ix 55)){b:Nat}{m f:Int}(c:a.heap[b]? = some (.cells #[U m,U f] 179)) :
  Calls prog 52 #[.iface 143 (Zp b)] a λg r=>g=.returned (.tuple #[U m,U f])/\am [] a r:=by
 have v:1<a.heap.size:=by
  grind [World.cell?]
 have q:=ap c;have j:(a.alloc (.cells #[.pointer none] 143)).cell? (Zd 1 0)=some (ix 55):=by grind [World.cell?_alloc_lt]
 have l:(a.alloc (.cells #[.pointer none] 143)).cell? (Zd a.heap.size 0)=some (.pointer none):=by simp
 have h:(a.alloc (.cells #[.pointer none] 143)).frozen? ⟨a.heap.size,0,none⟩=false:=by simp
 have e:=Z (FA ⟨b,0,none⟩ ⟨a.heap.size,0,none⟩ (.pointer none) _ j l h);clear j l h p;go_in;go_wp2_with fail;refine e.j.mono ?_;rintro g n ⟨rfl,d⟩;have k:am [] a n:=by
  rw[d];exact(((((ak [] a).B _).B _).B _).B _ |>.B _).b2 (Y4 _) _
 have s:n.cell? (Zd a.heap.size 0)=some (Zp b):=by
  rw[d];refine bX (bu (i:=0) (cs:=#[.pointer none]) (T:=143) ?_ _);exact(((((ak [] (a.alloc (.cells #[.pointer none] 143))).B _).B _).B _ |>.B _).G a.heap.size (by simp) (by simp)).trans (aS rfl)
 have o:=(k.G b q (by simp)).trans c;obtain⟨t,u,_⟩:=FU o;clear d e c;go_wp2_with fail;go_region;go_wp2;go_ret2;exact⟨rfl,k.aq⟩
end Go.Proofs.YtjdhaegijjednaaGreatDoor
namespace Go.Proofs.YtjdhaegijjednaaGreatDoor
open Go.RowKit
open Go.MapKept
open Go.Proofs.Tryz
def EI{k:Za}{f:Mar.aw}(B:eE k=.error f){a:Zw}(z:Gl a):Calls prog 25 #[.string k] a λd r=>am [] a r/\∃m,d=.returned (.tuple #[.pointer none,.iface 143 (Zp m)])/\r.heap[m]? = some (.cells #[U f.no,U f.m] 179):=by
 have L:=iT;have n:Below a.heap.size a ((a.alloc (.cells #[.pointer none] 53)).alloc (.cells #[.nilIface] 55)):=((Below.refl _ _).alloc (Y4 _) _).alloc (by simp) _;have t:=Z (zk k (z.au n));have l:=Z B;have o:((a.alloc (.cells #[.pointer none] 53)).alloc (.cells #[.nilIface] 55)).heap[a.heap.size]? = some (.cells #[.pointer none] 53):=(Below.heap_alloc _ _ _ (by simp)).trans (aS rfl);have q:((a.alloc (.cells #[.pointer none] 53)).alloc (.cells #[.nilIface] 55)).heap[a.heap.size+1]? = some (.cells #[.nilIface] 55):=aS (by simp);have s:=Z n;go_enter_defers func25,ntmps25;go_wp2_with fail;refine t.j.mono ?_;rintro d c (⟨H,N,M,G,g,_⟩|⟨u,g,e,b,K,rfl,x⟩)
 .exact absurd (l.j.symm.trans g) (by simp)
 have y:u=f:=by have I:=l.j.symm.trans g;simp_all
 subst y;have h:=(e.G _ (ap o) (by simp)).trans o;have j:=(e.G _ (ap q) (by simp)).trans q;have v:c.frozen? ⟨a.heap.size,0,none⟩=false:=by simp[World.frozen?,h]
 have w:c.frozen? ⟨a.heap.size+1,0,none⟩=false:=by simp[World.frozen?,j]
 have A:=(bh [] s.j).u e;refine leaves_cons (f:=42) (args:=#[Zp a.heap.size,.pointer (some ⟨a.heap.size+1,0,none⟩)]) (by simp) (by rfl) ?_;refine(Nx _ _ b _ _ [] c (bX h) (bX j) v w (by simp)).mono ?_;rintro d O P ⟨rfl,rfl,rfl⟩;have C:=bu (i:=0) h (.pointer none);have D:(c.setCell ⟨a.heap.size,0,none⟩ (.pointer none)).heap[a.heap.size+1]? = _:=(Below.heap_setCell _ _ _ _ (by simp)).trans j;have E:=bX ((Below.heap_setCell _ ⟨a.heap.size+1,0,none⟩ (.iface 143 (Zp b)) _ (by simp)).trans C)
 have F:=bX (bu (i:=0) D (.iface 143 (Zp b)))
 simp only[Leaves,settle,List.dropWhile_nil];refine⟨.tuple #[.pointer none,.iface 143 (Zp b)],by simp[results,results25,go_sem,E,F],?_⟩
 refine⟨(A.b2 (p:=⟨a.heap.size,0,none⟩) (by simp) _).b2 (p:=⟨a.heap.size+1,0,none⟩) (by simp) _,b,rfl,?_⟩;have J:a.heap.size+2<=b:=by simp_all
 exact(Below.heap_setCell _ _ _ _ (by grind)).trans ((Below.heap_setCell _ _ _ _ (by grind)).trans x)
def EU(a:Zw):Calls prog 52 #[.nilIface] a λb c=>b=.returned (.tuple #[U 0,U 0])/\c=a:=by
 go_in;go_wp2;go_ret2;simp
def BC(a:Int)(b:Zw):Calls prog 53 #[U a] b λc d=>c=.returned (U a)/\d=b:=by
 go_in;go_wp2;go_ret;simp
def Ru(d:Int)(b:Zw):Calls prog 27 #[.nilIface,U 0,U d] b λa e=>a=.returned (.bool true)/\am [] b e:=by
 have c:=Z (EU b);go_in;go_wp2_with fail;refine c.j.mono ?_;rintro a f ⟨rfl,rfl⟩;go_wp2_with fail;refine(BC 0 _).mono ?_;rintro a g ⟨rfl,rfl⟩;go_wp2;go_ret;simp_all[ak]
def Rs{b:Zw}(h:b.cell? (Zd 1 0)=some (ix 55)){e:Nat}{a d:Int}(g:b.heap[e]? = some (.cells #[U a,U d] 179))(j:a≠0) :
  Calls prog 27 #[.iface 143 (Zp e),U a,U d] b λc i=>c=.returned (.bool true)/\am [] b i:=by
 have f:=Z (ET h g);have k:(a==0)=false:=by simp_all
 go_in;go_wp2_with fail;refine f.j.mono ?_;rintro c m ⟨rfl,l⟩;go_wp2_with fail;refine(BC a _).mono ?_;rintro c n ⟨rfl,rfl⟩;go_wp2;go_ret;simp_all
end Go.Proofs.YtjdhaegijjednaaGreatDoor
namespace Go.Proofs.YtjdhaegijjednaaGreatDoor
open Go.RowKit
open Go.Proofs.Tryz
section
variable {b:Zb}{a:Zw}
def EN(b:List aB)(S:Nat)(a f:Zw):Prop:=∃d e h i j,f.heap[S]? = some (.cells #[Zp d,h,i,j,.string ⟨(dL b).toArray⟩] 67)/\qs e d b/\(∀c∈e,f.heap[c.1]? = some c.2/\a.heap.size<=c.1)/\(∀g∈b,Gg g)/\(dL b).length<=1000000000
def NA{e:Mar.aw}(h:eE (aA b)=.error e)(o:Gl a)(n:a.cell? (Zd 1 0)=some (ix 55)):Calls prog 16 #[Zs b] a λc s=>am [] a s/\c=.returned (.tuple #[.pointer none,.bool true]):=by
 have l:=Z h;have m:=Z (EI h o);have k:=Z n;clear o h n;go_in;go_wp2_with fail;refine m.j.mono ?_;rintro c t ⟨i,v,rfl,g⟩;go_wp2_with fail;refine(zg b t).mono ?_;rintro c u ⟨d,f⟩;unfold lO at f;rw[l.j]at f;obtain⟨rfl,w⟩:=f;have x:((e.no:Int) != 0)=true:=by simp_all
 have j:=Z (((ak [] u).B (kX (.slice none 0 0) (.slice none 0 0) (.slice none 0 0) (.string ⟨#[]⟩))));have q:=Z (Rs (hU (hU (hU k.j i) d) j.j) (((d.u j.j).G _ (ap g) (by simp)).trans g) (by omega:(e.no:Int)≠0));have p:=Z (i.u d);unfold yj;clear g i d m k l;go_wp2_with fail;refine q.j.mono ?_;rintro c y ⟨rfl,r⟩;go_wp2;go_ret2;exact⟨(p.j.u j.j).u r,rfl⟩
def Nz{e:List aB}(k:eE (aA b)=.ok e)(H:Gl a):Calls prog 16 #[Zs b] a λl P=>am [] a P/\∃S,l=.returned (.tuple #[Zp S,.bool true])/\a.heap.size<=S/\EN e S a P:=by
 have C:=Z k;have E:=Z (EK k (Ds k) H);have B:=Z (Ds k);clear H k;go_in;go_wp2_with fail;refine E.j.mono ?_;rintro l a7 ⟨A,a1,rfl,N,M,m⟩;go_wp2_with fail;refine(zg b a7).mono ?_;rintro l g ⟨y,x⟩;unfold lO at x;rw[C.j]at x;obtain⟨b1,d,b2,b0,a9,a8,b3,c0,rfl,j,a5,G,w,a4⟩:=x;obtain⟨r,u,L⟩:=ce j.w;obtain⟨n,s,J⟩:=ce j.A;obtain⟨p,t,K⟩:=ce j.ag;have F:d.j=dL e:=by rw[G,MK B.j];exact w.q.ou.trans w.o
 have I:(dL e).length<=1000000000:=by have:=j.bp;grind [ae.sz]
 have R:=Z (Yp M (Yp (λc f=>(⟨(y.G _ (ap (m c f).1) (by simp)).trans (m c f).1,(m c f).2⟩:g.heap[c.1]? = some c.2/\a.heap.size<=c.1)) I));have D:=Z (N.u y);have a6:=Z (((ak [] g).B (kX (.slice r d.w.length u) (.slice n d.A.length s) (.slice p d.ag.length t) (.string ⟨(dL e).toArray⟩))));unfold oD;rw[L,J,K,F];clear L J K j a5 G w a4 M m N y E C F I;go_wp2_with fail;refine(Ru 0 _).mono ?_;rintro l i ⟨rfl,z⟩;have h:=(z.G g.heap.size (by simp) (by simp)).trans (aS rfl);obtain⟨b4,b5,b6,b7⟩:i.cell? (Zd g.heap.size 0)=some (.slice r d.w.length u)/\i.cell? (Zd g.heap.size 1)=some (.slice n d.A.length s)/\i.cell? (Zd g.heap.size 2)=some (.slice p d.ag.length t)/\i.cell? (Zd g.heap.size 3)=some (.string ⟨(dL e).toArray⟩):=⟨aU h rfl,aU h rfl,aU h rfl,aU h rfl⟩;have b8:=cK h;have a0:=Z (a6.j.u z);have b9:=ap h;clear h z;go_wp2;go_ret2;obtain⟨a2,v,a3⟩:=R.j;have O:=a0.j.u ((ak [] i).B (.cells #[Zp A,.slice r d.w.length u,.slice n d.A.length s,.slice p d.ag.length t,.string ⟨(dL e).toArray⟩] 67));refine⟨D.j.u O,i.heap.size,rfl,?_,A,a1,_,_,_,aS rfl,a2,λc f=>⟨(O.G _ (ap (v c f).1) (by simp)).trans (v c f).1,(v c f).2⟩,B.j,a3⟩;have:=D.j.ar;omega
end
def dB(a:Int)(b:Nat):Nat:=(if a<0 then -(a+1)else a).toNat % b
def sS(a:Int)(b:Nat)(h:-9223372036854775808<=a)(i:a<=9223372036854775807)(j:0<b)(l:b<=1000000000)(d:Zw):Calls prog 18 #[U a,U b] d λe f=>e=.returned (U (dB a b))/\f=d:=by
 have k:(b:Int)≠0:=by omega
 by_cases g:a<0
 .have c:ac ((dB a b:Int) = -(a+1).tmod b):=by
   show _=_;rw[<-Int.neg_tmod];unfold dB;grind
  go_in;go_wp2;go_ret;exact⟨by rw[c.j];rfl,rfl⟩
 .have c:ac ((dB a b:Int)=a % b):=by
   show _=_;unfold dB;grind
  go_in;go_wp2;go_ret;exact⟨by rw[c.j];rfl,rfl⟩
def qT(b:Int){a:Nat}(c:0<a):dB b a<a:=Nat.mod_lt _ c
structure jg where
 C:Int
 n:Int
 s:Zb
 m:Int
 a2:Int
abbrev gY(a:jg):Zl:=[U a.C,U a.n,Zs a.s,U a.m,U a.a2]
structure eG where
 ah:Zc
 aP:List jg
 b0:Zb
 a:Int
 b:Int
 c:Int
 a3:List Nat
 e4:List Nat
abbrev mm(a:Nat):Zv:=Zp a
def ea(a:eG)(b:Int):Zb:=if a.ah=[]then []else a.ah.getD (dB b a.ah.length) []
def Qu{d:Zw}{v:Zv}{b:Zc}{a:Nat}(f:kx v b d)(h:a<b.length):∃c e,v=.slice (some ⟨c,0,none⟩) b.length e/\d.cell? (Zd c a)=some (.string ⟨(b.getD a []).toArray⟩)/\c<d.heap.size:=by
 obtain⟨c,e,k,g,_,j⟩:=ka f (i:=a) (x:=.string ⟨(b.getD a []).toArray⟩) (by grind);simp_all
def oF{w:Zw}{b:Nat}{h:Zv}{s:eG}{rest:Zl}(k:w.heap[b]? = some (.cells (h::rest).toArray 35))(m:kx h s.ah w)(a:Int)(u:-9223372036854775808<=a)(x:a<=9223372036854775807)(A:s.ah.length<=1000000000) :
  Calls prog 15 #[Zp b,U a] w λr c=>r=.returned (.string ⟨(ea s a).toArray⟩)/\am [] w c:=by
 have q:w.cell? (Zd b 0)=some h:=aU k rfl;have E:=ap k;by_cases t:s.ah=[]
 .have d:ac (ea s a=[]):=Z (by unfold ea;simp_all);obtain⟨ad,i,rfl⟩:=ce m;have B:s.ah.length=0:=by simp_all
  rw[B]at q;go_in;go_wp2;go_ret;exact⟨by rw[d.j];rfl,ak [] w⟩
 .have l:0<s.ah.length:=YM.2 t;have z:dB a s.ah.length<s.ah.length:=qT a l;obtain⟨j,i,rfl,F,G⟩:=Qu m z;have d:ac (ea s a=s.ah.getD (dB a s.ah.length) []):=Z (by unfold ea;simp_all);have p:=Z (sS a s.ah.length u x l A);have J:((s.ah.length:Int)==0)=false:=by simp_all
  have H:(0:Int)<=↑(dB a s.ah.length):=by omega
  have I:(↑(dB a s.ah.length):Int) < ↑s.ah.length:=by omega
  generalize dB a s.ah.length=n at *
  generalize s.ah.getD n []=C at *
  go_in;go_wp2;refine cx (λc=>c.cell? (Zd b 0)=some (.slice (some ⟨j,0,none⟩) s.ah.length i)/\c.cell? (Zd j n)=some (Zs C)) (L:=13) (by kernel_rfl) rfl (by kernel_rfl) (by kernel_rfl) ?_ (λy=>?_)
  .go_keep
  refine bH [0,1,2,3,4,5,6,7,8,9] ?_;iterate 10 (refine bK (v:=?_) rfl (by kernel_rfl) (λ_ _ _ e=>e) (by kernel_rfl) (by assumption) ?_ ?_;rotate_left;focus (intro w g;(try dsimp only at g);go_simp;(try with_reducible rfl));(try simp only[aJ,aK,List.set]))
  refine bI ?_;refine bF 10 (by kernel_rfl) rfl λo f=>?_;(go_simp;refine(p.j _).mono ?_;rintro D K ⟨rfl,rfl⟩);refine f.out _ _ ?_ (λy=>?_)
  .go_keep
  (try simp only[aJ,aK,List.set]);refine bH [11,12] ?_;iterate 2 (refine bK (v:=?_) rfl (by kernel_rfl) (λ_ _ _ e=>e) (by kernel_rfl) (by assumption) ?_ ?_;rotate_left;focus (intro w g;(try dsimp only at g);go_simp;(try with_reducible rfl));(try simp only[aJ,aK,List.set]))
  refine bI ?_;refine cR (by kernel_rfl) rfl λo f=>?_;go_simp;refine f.out _ _ ?_;(try simp only[aJ,aK,List.set]);go_wp2;go_ret;exact⟨by rw[d.j];rfl,(ak [] w).aq⟩
section
variable {e l : Zw} {d : Nat} {s : eG} {h k g f : Zv} {R : List Th}
structure cO where
 C:Int
 x:Int
 a:Int
 b:Int
 c:Int
 s:Zb
abbrev cr(d:cO):Array Zv:=#[U d.C,U d.x,U d.a,U d.b,U d.c,Zs d.s]
abbrev Sl(d:Nat)(s:eG)(h k g f:Zv):Th:=.obj d (.cells #[h,k,Zs s.b0,U s.a,U s.b,U s.c,g,f] 35)
abbrev iY(v:Zv)(a:List jg):Th:=.row 52 5 v a.length (a.flatMap gY)
abbrev my(b:TypeId)(v:Zv)(a:List Nat):Th:=.row b 1 v a.length (a.map mm)
abbrev wL(d:Nat)(s:eG)(h k g f:Zv)(R:List Th):List Th:=Sl d s h k g f::ci h s.ah::iY k s.aP::my 37 g s.a3::my 48 f s.e4::R
def Rk(C:aV (wL d s h k g f R) l e)(b:cO)(P:b.C=1)(S:s.ah.length<=100000):Calls prog 24 #[Zp d,.agg (cr b)] e λD M=>D=.returned (.bool true)/\∃L,aV (wL d { s with ah:=s.ah++[b.s] } L k g f R) l M:=by
 have n:=Z (C.B (.cells (cr b) 27));obtain⟨gV,m,rfl⟩:=ce (C.bq (i:=1) (a:=ci h s.ah) rfl);obtain⟨F,G,H,I,J⟩:=info_parts oo;have K:(Value.string ⟨#[]⟩).cells.size=1:=rfl;go_in;have c:=n.j.a5 (i:=1) (R:=d) rfl;have q:(e.alloc (.cells (cr b) 27)).cell? (Zd d 0)=some (.slice gV s.ah.length m):=aU c rfl;have r:=cK c;have u:=ap c;have A:ac (∀o,((e.alloc (.cells (cr b) 27)).alloc o).ownsRow 0 9 1 (.slice gV s.ah.length m) s.ah.length (s.ah.map λs=>Zs s)):=Z (λo=>bi (n.j.bq (i:=2) (a:=ci (.slice gV s.ah.length m) s.ah) rfl) ((ak [] (e.alloc (.cells (cr b) 27))).B o) (by simp));have z:s.ah.length+1<=maxLen:=by unfold maxLen;omega
 go_wp2_with (at_builtin;(refine wpList_append_lies _ (by rfl) _ _ _ (by rfl) 0 9 F _ 1 16 underlying30 G H I J K (by omega) (.slice gV s.ah.length m) s.ah.length (s.ah.map λs=>Zs s) (by rfl) (A.j _) ⟨e.heap.size+1,0,none⟩ 1 1 [.string ⟨(b.s).toArray⟩] (by rfl) (by rfl) (World.news_of_block (cs:=#[.string ⟨(b.s).toArray⟩]) (t:=9) (fr:=(0,0)) (aS (by simp))) (by simp[Value.oneCell']) (by omega) z (by omega) (by simp) (e.heap.size+2) (by simp) ?_;intro w v N B y x E;have p:=Z (n.j.g5 (i:=2) rfl ((ak [] (e.alloc (.cells (cr b) 27))).B _) B y x (by simp));clear B y x E A z q r u;have c:=p.j.a5 (i:=1) (R:=d) rfl;have q:N.cell? (Zd d 0)=some (.slice gV s.ah.length m):=aU c rfl;have r:=cK c;have u:=ap c;clear c));go_wp2;go_ret;have O:=(p.j.a9 (i:=1) (j:=0) rfl (.slice (some ⟨w,0,none⟩) (s.ah.length+1) v)).b3;exact⟨rfl,.slice (some ⟨w,0,none⟩) (s.ah.length+1) v,by simp_all⟩
end
section
variable {w h : Zw} {d : Nat} {s : eG} {k g f e : Zv} {R : List Th}
def Rj(i:aV (wL d s k g f e R) h w)(a:cO)(o:a.C≠1)(p:a.C≠2)(q:a.C≠3):Calls prog 24 #[Zp d,.agg (cr a)] w λc j=>c=.returned (.bool false)/\aV (wL d s k g f e R) h j:=by
 have b:=Z (i.B (.cells (cr a) 27));have l:(a.C==1)=false:=by simp_all
 have m:(a.C==2)=false:=by simp_all
 have n:(a.C==3)=false:=by simp_all
 go_in;go_wp2;go_ret;exact⟨rfl,b.j.b3⟩
def um(s:eG)(c:cO):eG:=if(ea s c.a).length+(ea s c.b).length > 65536 then s else { s with ah:=s.ah++[ea s c.a++ea s c.b] }
abbrev ht(d:cO):Prop:=(-9223372036854775808<=d.x/\d.x<=9223372036854775807)/\(-9223372036854775808<=d.a/\d.a<=9223372036854775807)/\(-9223372036854775808<=d.b/\d.b<=9223372036854775807)/\(-9223372036854775808<=d.c/\d.c<=9223372036854775807)
def Ri(a0:aV (wL d s k g f e R) h w)(c:cO)(a7:ht c)(c4:c.C=3)(c5:s.ah.length<=100000)(c8:∀o∈s.ah,o.length<=1000000000):Calls prog 24 #[Zp d,.agg (cr c)] w λa6 z=>a6=.returned (.bool true)/\∃b8,aV (wL d (um s c) b8 g f e R) h z:=by
 have v:=Z (a0.B (.cells (cr c) 27));obtain⟨gV,l,rfl⟩:=ce (a0.bq (i:=1) (a:=ci k s.ah) rfl);have S:∀F,(ea s F).length<=1000000000:=λF=>by
  grind [ea]
 have c6:=S c.a;have c7:=S c.b;obtain⟨-,I,K,-⟩:=a7;obtain⟨b2,b3,b4,b5,b6⟩:=info_parts oo;have b7:(Value.string ⟨#[]⟩).cells.size=1:=rfl;have c2:(c.C==1)=false:=by simp_all
 have c3:(c.C==2)=false:=by simp_all
 have a2:=Z (oF (w:=w.alloc (.cells (cr c) 27)) (s:=s) (v.j.a5 (i:=1) (R:=d) rfl) (v.j.bq (i:=2) (a:=ci (.slice gV s.ah.length l) s.ah) rfl) c.a I.1 I.2 (by omega));have a3:ac (∀u,aV (.obj w.heap.size (.cells (cr c) 27)::wL d s (.slice gV s.ah.length l) g f e R) h u->Calls prog 15 #[Zp d,U c.b] u λy z=>y=.returned (.string ⟨(ea s c.b).toArray⟩)/\am [] u z):=Z (λu a1=>oF (s:=s) (a1.a5 (i:=1) (R:=d) rfl) (a1.bq (i:=2) (a:=ci (.slice gV s.ah.length l) s.ah) rfl) c.b K.1 K.2 (by omega));have A:ac (um s c=if(ea s c.a).length+(ea s c.b).length > 65536 then s else { s with ah:=s.ah++[ea s c.a++ea s c.b] }):=Z rfl
 generalize ea s c.a=p at *
 generalize ea s c.b=q at *
 go_in;go_wp2_with fail;refine a2.j.mono ?_;rintro y b9 ⟨rfl,b0⟩;have x:=Z (v.j.F b0);generalize w.heap.size=a5 at *
 obtain⟨c9,d0,d1,d2,d3,d4,of,d5⟩:=dP (x.j.a5 (i:=0) (R:=a5) rfl);have a4:=Z (a3.j b9 x.j);go_wp2_with fail;refine a4.j.mono ?_;rintro y n ⟨rfl,b1⟩;have r:=Z (x.j.F b1);by_cases L:p.length+q.length > 65536
 .have a8:(65536:Int) < ↑p.length+↑q.length:=by omega
  go_wp2;go_ret;rw[A.j,Y9 L];exact⟨rfl,_,r.j.b3⟩
 .have a8:¬(65536:Int) < ↑p.length+↑q.length:=by omega
  have m:=r.j.a5 (i:=1) (R:=d) rfl;have C:n.cell? (Zd d 0)=some (.slice gV s.ah.length l):=aU m rfl;have D:=cK m;have E:=ap m;have O:ac (∀o,(n.alloc o).ownsRow 0 9 1 (.slice gV s.ah.length l) s.ah.length (s.ah.map λs=>Zs s)):=Z (λo=>bi (r.j.bq (i:=2) (a:=ci (.slice gV s.ah.length l) s.ah) rfl) ((ak [] n).B o) (by simp));have N:s.ah.length+1<=maxLen:=by unfold maxLen;omega
  go_wp2_with (at_builtin;(refine wpList_append_lies _ (by rfl) _ _ _ (by rfl) 0 9 b2 _ 1 16 underlying30 b3 b4 b5 b6 b7 (by omega) (.slice gV s.ah.length l) s.ah.length (s.ah.map λs=>Zs s) (by rfl) (O.j _) ⟨n.heap.size,0,none⟩ 1 1 [.string ⟨(p++q).toArray⟩] (by rfl) (by rfl) (World.news_of_block (cs:=#[.string ⟨(p++q).toArray⟩]) (t:=9) (fr:=(0,0)) (heap_alloc_new n _)) (by simp[Value.oneCell']) (by omega) N (by omega) (by simp) (n.heap.size+1) (by simp) ?_;intro H G c0 P M J a9;have B:=Z (r.j.g5 (i:=2) rfl ((ak [] n).B _) P M J (by simp));clear P M J a9 O N C D E;have m:=B.j.a5 (i:=1) (R:=d) rfl;have C:c0.cell? (Zd d 0)=some (.slice gV s.ah.length l):=aU m rfl;have D:=cK m;have E:=ap m;clear m));go_wp2;go_ret;have c1:=(B.j.a9 (i:=1) (j:=0) rfl (.slice (some ⟨H,0,none⟩) (s.ah.length+1) G)).b3;rw[A.j,Y2 L];exact⟨rfl,.slice (some ⟨H,0,none⟩) (s.ah.length+1) G,by simp_all⟩
end
section
variable {w j : Zw} {d : Nat} {s : eG} {g h f e : Zv} {R : List Th}
def AJ(w:Zw)(a:TypeId)(c:Za):am [] w (Lib.bytesWorld w a c):=by
 have b:=((ak [] w).aq).B (.cells (Lib.bytesCells w a c) a);refine⟨b.os,b.dX,b.dU,by grind [Lib.bytesWorld_size],λe d _=>Lib.bytesWorld_at_old w a c e d⟩
def oH(a:Zb)(b c:Int):Zb:=if a=[]then []else a.set (dB b a.length) (UInt8.ofNat (c % 256).toNat)
def Rl(J:aV (wL d s g h f e R) j w)(k:cO)(O:ht k)(c1:k.C=2)(c2:s.ah.length<=100000)(N:ea s k.a=[]):Calls prog 24 #[Zp d,.agg (cr k)] w λM b2=>M=.returned (.bool true)/\∃b1,aV (wL d { s with ah:=s.ah++[[]] } b1 h f e R) j b2:=by
 have n:=Z (J.B (.cells (cr k) 27));obtain⟨gV,m,rfl⟩:=ce (J.bq (i:=1) (a:=ci g s.ah) rfl);obtain⟨-,D,b6,-⟩:=O;have b5:(k.C==1)=false:=by simp_all
 have v:=Z (oF (w:=w.alloc (.cells (cr k) 27)) (s:=s) (n.j.a5 (i:=1) (R:=d) rfl) (n.j.bq (i:=2) (a:=ci (.slice gV s.ah.length m) s.ah) rfl) k.a D.1 D.2 (by omega));rw[N]at v;obtain⟨a5,a6,a7,a8,a9⟩:=info_parts oo;have b0:(Value.string ⟨#[]⟩).cells.size=1:=rfl;go_in;go_wp2_with fail;refine v.j.mono ?_;rintro b4 b ⟨rfl,a4⟩;have q:=Z (n.j.F a4);generalize w.heap.size=L at *
 obtain⟨c3,c4,c5,c6,c7,c8,of,c9⟩:=dP (q.j.a5 (i:=0) (R:=L) rfl);have a0:=Lib.run_convert_string_bytes (P:=prog) b 9 97 5 ⟨#[]⟩ (u:=.string) (by kernel_rfl) (by kernel_rfl) (by kernel_rfl);have S:=run_convert_bytes_back (Lib.bytesWorld b 5 ⟨#[]⟩) 97 9 5 ⟨b.heap.size,0,none⟩ (grownCap b 0 0 5) [] underlying97 underlying5 underlying9 (λa3 c0=>by grind);have o:=Z (q.j.F (AJ b 5 ⟨#[]⟩));generalize a1:grownCap b 0 0 5=C at *
 generalize b7:Lib.bytesWorld b 5 ⟨#[]⟩=c at *
 have b9:(convert 9 97 (.string ⟨#[]⟩)).run prog b=.ok (.slice (some ⟨b.heap.size,0,none⟩) 0 C) c:=by rw[<-a1];exact a0
 have b8:(convert 97 9 (.slice (some ⟨b.heap.size,0,none⟩) 0 C)).run prog c=.ok (.string ⟨#[]⟩) c:=S;have l:=o.j.a5 (i:=1) (R:=d) rfl;have x:c.cell? ⟨d,0,none⟩=some (.slice gV s.ah.length m):=aU l rfl;have y:=cK l;have z:=ap l;have H:ac (∀p,(c.alloc p).ownsRow 0 9 1 (.slice gV s.ah.length m) s.ah.length (s.ah.map λs=>Zs s)):=Z (λp=>bi (o.j.bq (i:=2) (a:=ci (.slice gV s.ah.length m) s.ah) rfl) ((ak [] c).B p) (by simp));have G:s.ah.length+1<=maxLen:=by unfold maxLen;omega
 go_wp2_with (at_builtin;(refine wpList_append_lies _ (by rfl) _ _ _ (by rfl) 0 9 a5 _ 1 16 underlying30 a6 a7 a8 a9 b0 (by omega) (.slice gV s.ah.length m) s.ah.length (s.ah.map λs=>Zs s) (by rfl) (H.j _) ⟨c.heap.size,0,none⟩ 1 1 [.string ⟨(([]:Zb)).toArray⟩] (by rfl) (by rfl) (World.news_of_block (cs:=#[.string ⟨(([]:Zb)).toArray⟩]) (t:=9) (fr:=(0,0)) (heap_alloc_new c _)) (by simp[Value.oneCell']) (by omega) G (by omega) (by simp) (c.heap.size+1) (by simp) ?_;intro B A b3 I F E a2;have r:=Z (o.j.g5 (i:=2) rfl ((ak [] c).B _) I F E (by simp));clear I F E a2 H G x y z;have l:=r.j.a5 (i:=1) (R:=d) rfl;have x:b3.cell? ⟨d,0,none⟩=some (.slice gV s.ah.length m):=aU l rfl;have y:=cK l;have z:=ap l;clear l));go_wp2;go_ret;have K:=(r.j.a9 (i:=1) (j:=0) rfl (.slice (some ⟨B,0,none⟩) (s.ah.length+1) A)).b3;exact⟨rfl,.slice (some ⟨B,0,none⟩) (s.ah.length+1) A,by simpa using K⟩
def Rm(b7:aV (wL d s g h f e R) j w)(m:cO)(c7:ht m)(f7:m.C=2)(g0:s.ah.length<=100000){k:Zb}(d3:ea s m.a=k)(c6:k≠[])(d4:k.length<=1000000000):Calls prog 24 #[Zp d,.agg (cr m)] w λa4 C=>a4=.returned (.bool true)/\∃e7,aV (wL d { s with ah:=s.ah++[oH k m.b m.c] } e7 h f e R) j C:=by
 have E:=Z (b7.B (.cells (cr m) 27));obtain⟨gV,z,rfl⟩:=ce (b7.bq (i:=1) (a:=ci g s.ah) rfl);obtain⟨-,a7,a9,f2⟩:=c7;have e9:(m.C==1)=false:=by simp_all
 have N:=Z (oF (w:=w.alloc (.cells (cr m) 27)) (s:=s) (E.j.a5 (i:=1) (R:=d) rfl) (E.j.bq (i:=2) (a:=ci (.slice gV s.ah.length z) s.ah) rfl) m.a a7.1 a7.2 (by omega));rw[d3]at N;have b6:0<k.length:=YM.2 c6;have d0:dB m.b k.length<k.length:=qT m.b b6;have c5:=Z (sS m.b k.length a9.1 a9.2 b6 d4);have c1:ac (oH k m.b m.c=k.set (dB m.b k.length) (UInt8.ofNat (m.c % 256).toNat)):=Z (by unfold oH;simp);have f8:(0:Int)<=↑(dB m.b k.length):=by omega
 have f9:(↑(dB m.b k.length):Int) < ↑k.length:=by omega
 have f5:(0:Int) < ↑k.length:=by omega
 generalize dB m.b k.length=o at *
 obtain⟨e1,e2,e3,e4,e5⟩:=info_parts oo;have e6:(Value.string ⟨#[]⟩).cells.size=1:=rfl;go_in;go_wp2_with fail;refine N.j.mono ?_;rintro a3 l ⟨rfl,d5⟩;have F:=Z (E.j.F d5);generalize w.heap.size=A at *
 obtain⟨d6,d7,d8,b8,b9,d9,of,e0⟩:=dP (F.j.a5 (i:=0) (R:=A) rfl);have f4:(convert 9 97 (Zs k)).run prog l=.ok (.slice (some ⟨l.heap.size,0,none⟩) k.length (grownCap l k.length 0 5)) (Lib.bytesWorld l 5 ⟨k.toArray⟩):=Lib.run_convert_string_bytes (P:=prog) l 9 97 5 ⟨k.toArray⟩ (u:=.string) (by kernel_rfl) (by kernel_rfl) (by kernel_rfl);have D:=Z (AJ l 5 ⟨k.toArray⟩);have K:ac (∀n,n<k.length->(Lib.bytesWorld l 5 ⟨k.toArray⟩).cell? ⟨l.heap.size,n,none⟩=some (.int .u8 (k.getD n 0).toNat)):=Z (λn B=>Lib.bytesWorld_cell l 5 ⟨k.toArray⟩ n B);have g3:=hU b8 D.j;have g4:=hU b9 D.j;have a2:=K.j o d0;have f0:(Lib.bytesWorld l 5 ⟨k.toArray⟩).frozen? ⟨l.heap.size,o,none⟩=false:=by
  have b3:=Lib.bytesWorld_at_new l 5 ⟨k.toArray⟩;have g1:o<(Lib.bytesCells l 5 ⟨k.toArray⟩).size:=by
   rcases Yj o (Lib.bytesCells l 5 ⟨k.toArray⟩).size with x|x
   .omega
   .simp[World.cell?,b3,YO x]at a2
  simp[World.frozen?,b3];omega
 generalize grownCap l k.length 0 5=a6 at *
 generalize Lib.bytesWorld l 5 ⟨k.toArray⟩=y at *
 obtain⟨d6,d7,d8,b8,b9,d9,of,e0⟩:=dP (F.j.a5 (i:=0) (R:=A) rfl);go_wp2;refine cx (λC=>C.cell? ⟨A,3,none⟩=some (U m.b)/\C.cell? ⟨A,4,none⟩=some (U m.c)) (L:=10) (by kernel_rfl) rfl (by kernel_rfl) (by kernel_rfl) ?_ (λc9=>?_)
 .go_keep
 refine bH [0,1,2,3,4,6,7,8] ?_;iterate 8 (refine bK (v:=?_) rfl (by kernel_rfl) (λ_ _ _ H=>H) (by kernel_rfl) (by assumption) ?_ ?_;rotate_left;focus (intro w J;(try dsimp only at J);go_simp;(try with_reducible rfl));(try simp only[aJ,aK,List.set]))
 refine bI ?_;refine bF 5 (by kernel_rfl) rfl λc2 I=>?_;(go_simp;refine(c5.j _).mono ?_;rintro a4 g5 ⟨rfl,rfl⟩);refine I.out _ _ ?_ (λc9=>?_)
 .go_keep
 (try simp only[aJ,aK,List.set]);refine tk (i:=9) (v:=?_) rfl (by kernel_rfl) (λ_ _ _ H=>H) (by kernel_rfl) (by assumption) ?_ ?_;rotate_left
 .intro w J;(try dsimp only at J);go_simp;(try with_reducible rfl)
 (try simp only[aJ,aK,List.set]);refine cR (by kernel_rfl) rfl λc2 I=>?_;go_simp;refine I.out _ _ ?_;(try simp only[aJ,aK,List.set]);have d2:IntKind.wrap .u8 m.c=((UInt8.ofNat (m.c % 256).toNat).toNat:Int):=by
  rw[IntKind.wrap_u8];have x:(m.c % 256).toNat<256:=by omega
  simp;omega
 rw[d2];generalize UInt8.ofNat (m.c % 256).toNat=v at *
 have g2:∀n,n<k.length->((y.setCell ⟨l.heap.size,o,none⟩ (.int .u8 (v.toNat:Int))).drew).cell? ⟨l.heap.size,n,none⟩=some (.int .u8 ((k.set o v).getD n 0).toNat):=by
  intro n B;by_cases b1:n=o
  .subst b1;have x:(y.setCell ⟨l.heap.size,n,none⟩ (.int .u8 (v.toNat:Int))).cell? ⟨l.heap.size,n,none⟩=some (.int .u8 (v.toNat:Int)):=World.cell?_setCell_same _ _ _ a2;simp_all
  .have f6:¬o=n:=λa3=>b1 a3.symm;have x:(y.setCell ⟨l.heap.size,o,none⟩ (.int .u8 (v.toNat:Int))).cell? ⟨l.heap.size,n,none⟩=y.cell? ⟨l.heap.size,n,none⟩:=World.cell?_setCell_other _ _ _ _ (by simp);have c8:(k.set o v).getD n 0=k.getD n 0:=by simp_all
   rw[c8];exact x.trans (K.j n B)
 have c3:am [] l (y.setCell ⟨l.heap.size,o,none⟩ (.int .u8 (v.toNat:Int))).drew:=(pu D.j ((ak [l.heap.size] y).ay (p:=⟨l.heap.size,o,none⟩) (by simp) _) (by simp)).aq;have G:=Z (F.j.F c3);generalize (y.setCell ⟨l.heap.size,o,none⟩ (.int .u8 (v.toNat:Int))).drew=q at *
 have f3:(convert 97 9 (.slice (some ⟨l.heap.size,0,none⟩) k.length a6)).run prog q=.ok (.string ⟨(k.set o v).toArray⟩) q:=by
  have x:=run_convert_bytes_back q 97 9 5 ⟨l.heap.size,0,none⟩ a6 (k.set o v) underlying97 underlying5 underlying9 (λn B=>by
   have f1:(⟨l.heap.size,0,none⟩:Addr).add n=⟨l.heap.size,n,none⟩:=by grind [Addr.add]
   grind)
  simp_all
 generalize k.set o v=c0 at *
 have r:=G.j.a5 (i:=1) (R:=d) rfl;have O:q.cell? ⟨d,0,none⟩=some (.slice gV s.ah.length z):=aU r rfl;have S:=cK r;have a0:=ap r;have b4:ac (∀k,(q.alloc k).ownsRow 0 9 1 (.slice gV s.ah.length z) s.ah.length (s.ah.map λs=>Zs s)):=Z (λk=>bi (G.j.bq (i:=2) (a:=ci (.slice gV s.ah.length z) s.ah) rfl) ((ak [] q).B k) (by simp));have b2:s.ah.length+1<=maxLen:=by unfold maxLen;omega
 go_wp2_with (at_builtin;(refine wpList_append_lies _ (by rfl) _ _ _ (by rfl) 0 9 e1 _ 1 16 underlying30 e2 e3 e4 e5 e6 (by omega) (.slice gV s.ah.length z) s.ah.length (s.ah.map λs=>Zs s) (by rfl) (b4.j _) ⟨q.heap.size,0,none⟩ 1 1 [.string ⟨(c0).toArray⟩] (by rfl) (by rfl) (World.news_of_block (cs:=#[.string ⟨(c0).toArray⟩]) (t:=9) (fr:=(0,0)) (heap_alloc_new q _)) (by simp[Value.oneCell']) (by omega) b2 (by omega) (by simp) (q.heap.size+1) (by simp) ?_;intro a5 a1 e8 b5 b0 a8 d1;have M:=Z (G.j.g5 (i:=2) rfl ((ak [] q).B _) b5 b0 a8 (by simp));clear b5 b0 a8 d1 b4 b2 O S a0;have r:=M.j.a5 (i:=1) (R:=d) rfl;have O:e8.cell? ⟨d,0,none⟩=some (.slice gV s.ah.length z):=aU r rfl;have S:=cK r;have a0:=ap r;clear r));go_wp2;go_ret;have c4:=(M.j.a9 (i:=1) (j:=0) rfl (.slice (some ⟨a5,0,none⟩) (s.ah.length+1) a1)).b3;rw[c1.j];exact⟨rfl,.slice (some ⟨a5,0,none⟩) (s.ah.length+1) a1,by simpa using c4⟩
end
section
variable {f l : Zw} {e : Nat} {d : eG} {m k h g : Zv} {R : List Th}
def mA(d:eG)(e:cO):Option eG:=
 if e.C=1 then some { d with ah:=d.ah++[e.s] }
 else if e.C=2 then some { d with ah:=d.ah++[oH (ea d e.a) e.b e.c] }
 else if e.C=3 then some (um d e)
 else none
def qk(d:eG)(e:Nat)(k h g:Zv)(R:List Th)(l:Zw)(f:Option eG)(b:Ending)(c:Zw):Prop:=match f with
 |some i=>b=.returned (.bool true)/\∃a,aV (wL e i a k h g R) l c
 |none=>b=.returned (.bool false)/\∃a,aV (wL e d a k h g R) l c
def QY(c:∀b∈d.ah,b.length<=1000000000)(a:Int):(ea d a).length<=1000000000:=by
 grind [ea]
def Rh(n:aV (wL e d m k h g R) l f)(i:cO)(r:ht i)(q:d.ah.length<=100000)(s:∀v∈d.ah,v.length<=1000000000):Calls prog 24 #[Zp e,.agg (cr i)] f (qk d e k h g R l (mA d i)):=by
 unfold mA;by_cases o:i.C=1
 .rw[Y9 o];exact Rk n i o q
 .rw[Y2 o];by_cases j:i.C=2
  .rw[Y9 j];by_cases t:ea d i.a=[]
   .have:oH (ea d i.a) i.b i.c=[]:=by unfold oH;simp_all
    rw[this];exact Rl n i r j q t
   .exact Rm n i r j q rfl t (QY s i.a)
  .rw[Y2 j];by_cases p:i.C=3
   .rw[Y9 p];exact Ri n i r p q s
   .rw[Y2 p];refine(Rj n i o j p).mono ?_;rintro w x ⟨rfl,u⟩;exact⟨rfl,m,u⟩
def Mt(p:aV (wL e d m k h g R) l f)(n:cO)(C:n.C=7):Calls prog 14 #[Zp e,.agg (cr n)] f λr s=>r=.returned (.bool true)/\aV (wL e { d with a:=n.a,b:=n.b,c:=n.c } m k h g R) l s:=by
 have q:=Z p;have o:=p.a5 (i:=0) (R:=e) rfl;have u:f.cell? (Zd e 3)=some (U d.a):=aU o rfl;have v:f.cell? (Zd e 4)=some (U d.b):=aU o rfl;have w:f.cell? (Zd e 5)=some (U d.c):=aU o rfl;have x:=cK o;have y:=ap o;have z:(n.C==4)=false:=by simp_all
 have A:(n.C==5)=false:=by simp_all
 have B:(n.C==6)=false:=by simp_all
 go_in;go_wp2;go_ret;have t:=((((q.j.a9 (i:=0) (j:=3) rfl (U n.a)).a9 (i:=0) (j:=4) rfl (U n.b)).a9 (i:=0) (j:=5) rfl (U n.c)).B (.cells (cr n) 27)).b3;simp_all
def Mu(c:aV (wL e d m k h g R) l f)(a:cO)(y:a.C=8):Calls prog 14 #[Zp e,.agg (cr a)] f λo p=>o=.returned (.bool true)/\aV (wL e { d with b0:=a.s } m k h g R) l p:=by
 have n:=Z c;have b:=c.a5 (i:=0) (R:=e) rfl;have r:f.cell? (Zd e 2)=some (Zs d.b0):=aU b rfl;have s:=cK b;have t:=ap b;have u:(a.C==4)=false:=by simp_all
 have v:(a.C==5)=false:=by simp_all
 have w:(a.C==6)=false:=by simp_all
 have x:(a.C==7)=false:=by simp_all
 go_in;go_wp2;go_ret;have q:=((n.j.a9 (i:=0) (j:=2) rfl (Zs a.s)).B (.cells (cr a) 27)).b3;simp_all
end
section
variable {c g : Zw} {a : Nat} {b : eG} {h f e d : Zv} {R : List Th}
def Mw(m:aV (wL a b h f e d R) g c)(k:cO)(z:k.C=6):Calls prog 14 #[Zp a,.agg (cr k)] c λp q=>p=.returned (.bool true)/\aV (wL a { b with aP:=[] } h (.slice none 0 0) e d R) g q:=by
 have n:=Z m;have l:=m.a5 (i:=0) (R:=a) rfl;have s:c.cell? (Zd a 1)=some f:=aU l rfl;have t:=cK l;have u:=ap l;have v:(k.C==4)=false:=by simp_all
 have w:(k.C==5)=false:=by simp_all
 go_in;go_wp2;go_ret;have o:=((n.j.a9 (i:=0) (j:=1) rfl (.slice none 0 0)).B (.cells (cr k) 27)).b3;have r:=o.bR (i:=2) (a':=iY (.slice none 0 0) []) rfl (ak [] _) (by simp) ⟨rfl,Y8 ⟨rfl,rfl⟩⟩ (λx y=>by grind [Th.ba,Value.ownBlock]);simp_all
def My(s:aV (wL a b h f e d R) g c)(i:cO)(p:ht i)(q:b.ah.length<=100000)(r:∀t∈b.ah,t.length<=1000000000)(A:i.C≠4)(B:i.C≠5)(C:i.C≠6)(D:i.C≠7)(E:i.C≠8):Calls prog 14 #[Zp a,.agg (cr i)] c (qk b a f e d R g (mA b i)):=by
 have o:=Z (Rh ((s.B (.cells (cr i) 27)).b3) i p q r);have u:(i.C==4)=false:=by simp_all
 have v:(i.C==5)=false:=by simp_all
 have w:(i.C==6)=false:=by simp_all
 have x:(i.C==7)=false:=by simp_all
 have y:(i.C==8)=false:=by simp_all
 go_in;go_wp2_with fail;refine o.j.mono ?_;intro z G j;unfold qk at j;cases k:mA b i with
 |some F=>
  rw[k]at j;obtain⟨rfl,n⟩:=j;have l:=Z n;have m:=Z k;go_wp2;go_ret;unfold qk;rw[m.j];exact⟨rfl,l.j⟩
 |none=>
  rw[k]at j;obtain⟨rfl,n⟩:=j;have l:=Z n;have m:=Z k;go_wp2;go_ret;unfold qk;rw[m.j];exact⟨rfl,l.j⟩
end
section
variable {w l : Zw} {e : Nat} {d : eG} {h k g f : Zv} {R : List Th}
def AC:(prog.info? 52).map (λa=>(a.zero,a.size,a.bytes))=some (some (.agg #[U 0,U 0,.string ⟨#[]⟩,U 0,U 0]),5,48):=by kernel_rfl
def Mv(A:aV (wL e d h k g f R) l w)(m:cO)(b7:m.C=4)(b8:d.aP.length<=100000):Calls prog 14 #[Zp e,.agg (cr m)] w λM q=>M=.returned (.bool true)/\∃a7,aV (wL e { d with aP:=d.aP++[⟨m.a,m.b,m.s,0,m.c⟩] } h a7 g f R) l q:=by
 have u:=Z (A.B (.cells (cr m) 27));obtain⟨gV,p,rfl⟩:=ce (A.bq (i:=2) (a:=iY k d.aP) rfl);obtain⟨a6,N,a2,a3,a4⟩:=info_parts AC;have O:d.aP.length+1<=maxLen:=by unfold maxLen;omega
 have P:(d.aP.length+1)*48<=140737488355328:=by omega
 have a5:(Value.agg #[U 0,U 0,.string ⟨#[]⟩,U 0,U 0]).cells.size=5:=by rfl
 have a0:∀o∈gY ⟨m.a,m.b,m.s,0,m.c⟩,o.oneCell'=true:=by
  intro o J;simp[gY]at J;rcases J with rfl|rfl|rfl|rfl|rfl<;>rfl
 have n:=A.a5 (i:=0) (R:=e) rfl;have b0:w.cell? (Zd e 1)=some (.slice gV d.aP.length p):=aU n rfl;have b1:=cK n;have b2:=ap n;go_in;go_wp2;generalize b6:w.heap.size=r at *
 generalize w.alloc (.cells (cr m) 27)=o at *
 obtain⟨b9,c0,c1,c2,c3,c4,of,c5⟩:=dP (u.j.a5 (i:=0) (R:=r) rfl);have n:=u.j.a5 (i:=1) (R:=e) rfl;have b3:o.cell? (Zd e 1)=some (.slice gV d.aP.length p):=aU n rfl;have b4:=cK n;have b5:=ap n;have a1:ac (o.ownsRow 0 52 5 (.slice gV d.aP.length p) d.aP.length (d.aP.flatMap gY)):=Z (u.j.bq (i:=3) (a:=iY (.slice gV d.aP.length p) d.aP) rfl);have B:=Z (λa9=>(((ak [] o).B a9).aq));refine cx (λq=>q.cell? (Zd e 1)=some (.slice gV d.aP.length p)/\q.cell? (Zd r 2)=some (U m.a)/\q.cell? (Zd r 3)=some (U m.b)/\q.cell? (Zd r 4)=some (U m.c)/\q.cell? (Zd r 5)=some (Zs m.s)) (L:=18) (by kernel_rfl) rfl (by kernel_rfl) (by kernel_rfl) ?_ (λF=>?_)
 .go_keep
 refine bH [0,1,2,3,4,5,6,7,8,9,10,11,12,13] ?_;iterate 14 (refine bK (v:=?_) rfl (by kernel_rfl) (λ_ _ _ y=>y) (by kernel_rfl) (by assumption) ?_ ?_;rotate_left;focus (intro w z;(try dsimp only at z);go_simp;(try with_reducible rfl));(try simp only[aJ,aK,List.set]))
 refine bI ?_;refine bF 14 (by kernel_rfl) rfl λC s=>?_;go_simp;refine s.out _ _ ?_ (λF=>?_)
 .go_keep
 (try simp only[aJ,aK,List.set]);refine bF 15 (by kernel_rfl) rfl λC s=>?_;(refine step_append_lies _ (by rfl) _ _ _ (by rfl) 0 52 a6 _ 5 48 underlying31 N a2 a3 a4 a5 (by omega) (.slice gV d.aP.length p) d.aP.length (d.aP.flatMap gY) (by rfl) (bi a1.j (B.j _) (by simp)) ⟨o.heap.size,0,none⟩ 1 1 (gY ⟨m.a,m.b,m.s,0,m.c⟩) (by rfl) (by rfl) (World.news_of_block (cs:=(gY ⟨m.a,m.b,m.s,0,m.c⟩).toArray) (t:=52) (fr:=(0,0)) (aS (w:=o) (by simp))) a0 (by omega) O P (by omega) (o.heap.size+1) (by simp) ?_;intro E D a8 I H G S;have x:=Z (u.j.bo (i:=3) rfl (B.j _) I H G (by simp));obtain⟨c9,d0,d1,d2,d3,d4,d5,d6⟩:=dP (x.j.a5 (i:=0) (R:=r) rfl);have n:=x.j.a5 (i:=1) (R:=e) rfl;have c6:a8.cell? (Zd e 1)=some (.slice gV d.aP.length p):=aU n rfl;have c7:=cK n;have c8:=ap n;clear I H G S n);refine s.out _ _ ?_ (λF=>?_)
 .go_keep
 (try simp only[aJ,aK,List.set]);refine bH [16,17] ?_;iterate 2 (refine bK (v:=?_) rfl (by kernel_rfl) (λ_ _ _ y=>y) (by kernel_rfl) (by assumption) ?_ ?_;rotate_left;focus (intro w z;(try dsimp only at z);go_simp;(try with_reducible rfl));(try simp only[aJ,aK,List.set]))
 refine bI ?_;refine cR (by kernel_rfl) rfl λC s=>?_;go_simp;refine s.out _ _ ?_;(try simp only[aJ,aK,List.set]);go_wp2;go_ret;have K:=(x.j.a9 (i:=1) (j:=1) rfl (.slice (some ⟨E,0,none⟩) (d.aP.length+1) D)).b3;exact⟨rfl,.slice (some ⟨E,0,none⟩) (d.aP.length+1) D,by simpa[wL,iY]using K⟩
end
section
variable {e j : Zw} {c : Nat} {b : eG} {h d g f : Zv} {R : List Th}
def Ms(l:aV (wL c b h d g f R) j e)(k:cO)(x:k.C=5)(w:b.aP=[]):Calls prog 14 #[Zp c,.agg (cr k)] e λq s=>q=.returned (.bool true)/\aV (wL c b h d g f R) j s:=by
 have n:=Z (l.B (.cells (cr k) 27));obtain⟨gV,p,rfl⟩:=ce (l.bq (i:=2) (a:=iY d b.aP) rfl);have m:=l.a5 (i:=0) (R:=c) rfl;have o:e.cell? (Zd c 1)=some (.slice gV b.aP.length p):=aU m rfl;have r:b.aP.length=0:=by simp_all
 rw[r]at o;have t:=cK m;have u:=ap m;have v:(k.C==4)=false:=by simp_all
 go_in;go_wp2;go_ret;exact⟨rfl,n.j.b3⟩
end
section
variable {b j : Zw} {d : Nat} {f : eG} {h i g e : Zv} {c : List Th}
def aV.ai(k:aV (wL d f h i g e c) j b)(a:Obj):aV (wL d f h i g e (c++[.obj b.heap.size a])) j (b.alloc a):=(k.B a).g6
def aV.c9{a:Th}(k:aV (wL d f h i g e (c++[a])) j b):aV (wL d f h i g e c) j b:=zn (L:=wL d f h i g e c) k
def aV.hL{a:Nat}{k:Obj}(l:aV (wL d f h i g e (c++[.obj a k])) j b):b.heap[a]? = some k:=l.m (.obj a k) (by simp)
end
section
variable {e f : Zw} {v : Zv} {d : List cO}
def rL(e:Zw)(d f:Nat)(g:cO):Prop:=e.cell? (Zd d f)=some (U g.C)/\e.cell? ⟨d,f+1,none⟩=some (U g.x)/\e.cell? ⟨d,f+2,none⟩=some (U g.a)/\e.cell? ⟨d,f+3,none⟩=some (U g.b)/\e.cell? ⟨d,f+4,none⟩=some (U g.c)/\e.cell? ⟨d,f+5,none⟩=some (Zs g.s)
def lh(e:Zw)(v:Zv)(d:List cO):Prop:=∃ad a,v=.slice ad d.length a/\d.length<=a/\a<=maxLen/\∀c g,d[c]? = some g->∃b f,ad=some ⟨b,f,none⟩/\rL e b (f+c*6) g
def rL.F{b g:Nat}{h:cO}(i:rL e b g h)(j:am [] e f):rL f b g h:=by
 obtain⟨d,k,l,m,n,o⟩:=i;have a:∀c,f.cell? (Zd b c)=e.cell? (Zd b c):=λc=>World.cell?_of_block (j.G b (lx d) (by simp));exact⟨(a _).trans d,(a _).trans k,(a _).trans l,(a _).trans m,(a _).trans n,(a _).trans o⟩
def lh.F(c:lh e v d)(o:am [] e f):lh f v d:=by
 obtain⟨ad,a,g,h,i,j⟩:=c;refine⟨ad,a,g,h,i,λn q m=>?_⟩;obtain⟨b,p,k,l⟩:=j n q m;exact⟨b,p,k,l.F o⟩
def mx(d:List cO):Nat:=(d.map (·.s.length)).sum
def QF{a:Nat}(b:a<d.length):mx (d.take (a+1))=mx (d.take a)+d[a].s.length:=by
 unfold mx;rw[Yt b,List.map_append,List.sum_append];rfl
def QE(d:List cO)(a:Nat):mx (d.take a)<=mx d:=by
 grind [List.take_append_drop,mx]
def Ki:∀(d:List cO),∀a∈d,a.s.length<=mx d:=by
 intro d;induction d<;>grind [mx]
def mu(d:List cO):Bool:=decide (d.length+mx d<=16384)
def PE(q:lh e v d)(A:∀j∈d,j.s.length<=1000000000000000000):Calls prog 11 #[v] e λp f=>p=.returned (.bool (mu d))/\f=e:=by
 obtain⟨ad,F,rfl,P,I,z⟩:=q;have n:=Z z;have o:=Z A;by_cases x:d.length<=16384
 .have y:¬(16384:Int) < ↑d.length:=by omega
  go_in;go_wp2;go_loopw [3,4] (λC i D=>∃a b:Nat,i=U a/\a<=d.length/\C=U b/\b<=16384/\ac (b=d.length+mx (d.take a))/\D=e) (λ_ i _=>d.length-(intOf i).toNat)
  case atStart=>exact⟨0,d.length,rfl,by omega,rfl,x,by rfl,rfl⟩
  case round=>
   obtain⟨a,b,rfl,L,rfl,O,m,rfl⟩:=hrel;rcases Yj a d.length with h|J
   .obtain⟨G,j,rfl,r⟩:=n.j a d[a] (Yd h);obtain⟨-,-,-,-,-,a0⟩:=r;have M:(0:Int)<=(a:Int):=by omega
    have N:(a:Int)<(d.length:Int):=by omega
    have H:=o.j d[a] (Yy h);have l:=Z (QF h);have E:=Z (QE d (a+1));generalize d[a]=k at *
    generalize R:k.s.length=c at *
    have S:k.s.toArray.size=c:=by omega
    by_cases t:b+c<=16384
    .have u:¬(16384:Int) < ↑b+↑c:=by omega
     have B:IntKind.i64.wrap ((b:Int)+(c:Int))=(b:Int)+(c:Int):=by rw[IntKind.wrap_i64];omega
     go_wp2;exact⟨⟨a+1,b+c,by rfl,h,by rfl,t,by show _=_;rw[l.j,m.j];omega,trivial⟩,by simp[intOf];omega⟩
    .have u:(16384:Int) < ↑b+↑c:=by omega
     have B:IntKind.i64.wrap ((b:Int)+(c:Int))=(b:Int)+(c:Int):=by rw[IntKind.wrap_i64];omega
     have g:ac (mu d=false):=by
      grind [ac.j,mu]
     go_wp2;go_ret;exact⟨by rw[g.j];rfl,rfl⟩
   .have w:a=d.length:=by omega
    subst w;have K:¬((d.length:Int)<(d.length:Int)):=by omega
    have g:ac (mu d=true):=by
     grind [ac.j,mu]
    go_wp2;go_ret;exact⟨by rw[g.j];rfl,rfl⟩
 .have y:(16384:Int) < ↑d.length:=by omega
  have g:ac (mu d=false):=by
   show _=_;grind [mu]
  go_in;go_wp2;go_ret;exact⟨by rw[g.j];rfl,rfl⟩
end
section
variable {b c : Zw} {v : Zv} {a : List cO}
abbrev yP:Obj:=.cells #[.slice none 0 0,.slice none 0 0,.string ⟨#[]⟩,U 0,U 0,U 0,.slice none 0 0,.slice none 0 0] 35
def RU(e:Nat->Zw->Prop)(m:lh b v a)(P:a.length<=16384)(u:e 0 (b.alloc yP))(o:∀f g,e f g->am [] b g)(B:∀f g j,e f g->f<16384->j∈a->Calls prog 13 #[Zp b.heap.size,.agg (cr j)] g λl C=>l=.returned (.bool true)/\e (f+1) C) :
  Calls prog 12 #[v] b λt c=>t=.returned (U (-1))/\am [] b c:=by
 have q:=Z m;obtain⟨ad,H,rfl,R,K,-⟩:=m;have E:=Z u;have k:=Z o;have r:=Z B;go_in;go_wp2;go_loopw [4] (λi D=>∃d:Nat,i=U d/\d<=a.length/\ac (e d D)) (λi _=>a.length-(intOf i).toNat)
 case atStart=>grind
 case round=>
  obtain⟨d,rfl,o,h⟩:=hrel;rcases Yj d a.length with p|L
  .have y:=q.j.F (k.j d wr h.j);obtain⟨G,I,n,-,-,A⟩:=y;simp only[Value.slice.injEq,true_and]at n;obtain⟨rfl,rfl⟩:=n;obtain⟨J,j,rfl,x⟩:=A d a[d] (Yd p);have s:=Z (r.j d wr a[d] h.j (by omega) (Yy p));obtain⟨S,a0,a1,a2,a3,a4⟩:=x;have N:(0:Int)<=(d:Int):=by omega
   have O:(d:Int)<(a.length:Int):=by omega
   generalize a[d]=a6 at *
   go_wp2_with fail;refine s.j.mono ?_;rintro l a5 ⟨rfl,w⟩;have F:=Z w;go_wp2;grind [intOf]
  .have z:d=a.length:=by omega
   subst z;have M:¬((a.length:Int)<(a.length:Int)):=by omega
   go_wp2;go_ret;exact⟨rfl,k.j _ _ h.j⟩
end
section
variable {w e : Zw} {v : Zv} {d : List cO}
abbrev jZ(d:cO):Zl:=[U d.C,U d.x,U d.a,U d.b,U d.c,Zs d.s]
abbrev yy(v:Zv)(d:List cO):Th:=.row 27 6 v d.length (d.flatMap jZ)
def IZ:(prog.info? 27).map (λa=>(a.zero,a.size,a.bytes))=some (some (.agg #[U 0,U 0,U 0,U 0,U 0,.string ⟨#[]⟩]),6,56):=by kernel_rfl
def Mm{m:Nat}{l:TypeId}(c:w.ownsRow m l 6 v d.length (d.flatMap jZ)):lh w v d:=by
 have y:=λx a h=>qM (f:=jZ) (k:=6) (λ_=>rfl) d x a h;have o:=c;obtain⟨F,c⟩:=c;rcases c with⟨rfl,p⟩|⟨g,n,A,rfl,E,s,q,r,C,D⟩
 .have t:d=[]:=Yv.1 p;subst t;exact⟨none,0,rfl,by simp,by simp,λe k j=>by grind⟩
 .refine⟨some ⟨g,0,none⟩,n,rfl,q,r,λe k j=>⟨g,0,rfl,?_⟩⟩;have b:∀a,a<6->∀i,(jZ k)[a]? = some i->w.cell? ⟨g,e*6+a,none⟩=some i:=λa h i u=>by
   obtain⟨B,z,G,s,_⟩:=ka o ((y e a h).trans (by rw[j];exact u));simp_all
  rw[Nat.zero_add];exact⟨b 0 (by omega) _ rfl,b 1 (by omega) _ rfl,b 2 (by omega) _ rfl,b 3 (by omega) _ rfl,b 4 (by omega) _ rfl,b 5 (by omega) _ rfl⟩
def uk(b:List Int)(a:Int):Bool:=decide (a<9)||b.contains a
def gh(a:List Int)(d:List cO):List cO:=d.filter λb=>uk a b.C
def OM(b:List Int){a:Nat}(c:a<d.length):gh b (d.take (a+1))=gh b (d.take a)++if uk b d[a].C then [d[a]]else []:=by
 grind [gh,List.take_succ_eq_append_getElem]
def Cr(a:List Int)(d:List cO):(gh a d).length<=d.length:=List.length_filter_le _ _
def MF{kv:Zv}{ks:List Int}(A:lh w v d)(c6:∀g∈d,g.s.length<=1000000000000000000)(N:oP w kv ks.length 1 λi=>U (ks.getD i 0))(f4:ks.length<=1000)
  (c7:∀j S E,am [] w j->lh j S E->E.length<=16384->(∀g∈E,g∈d/\(g.C<9\/g.C∈ks)/\g.s.length<=16384)->Calls prog 12 #[S] j λz d6=>z=.returned (U (-1))/\am [] j d6) :
  Calls prog 10 #[v,kv] w λz e=>z=.returned (.bool true)/\am [] w e:=by
 have p:=Z (PE A c6);have a1:=Z A;have a3:=Z c7;have a0:=Z N;obtain⟨ad,e2,rfl,f8,e7,-⟩:=A;obtain⟨e1,e5,rfl,-⟩:=N;cases C:mu d with
 |false=>
  rw[C]at p;go_in;go_wp2_with fail;refine p.j.mono ?_;rintro J H ⟨rfl,rfl⟩;go_wp2;go_ret;simp_all[ak]
 |true=>
  rw[C]at p;have a2:=Z C;have b8:d.length<=16384:=by
   grind [mu]
  obtain⟨d2,b6,c8,c9,d0⟩:=info_parts IZ;have d1:(Value.agg #[U 0,U 0,U 0,U 0,U 0,.string ⟨#[]⟩]).cells.size=6:=by rfl
  go_in;go_wp2_with fail;refine p.j.mono ?_;rintro J H ⟨rfl,rfl⟩;go_wp2;go_loopw [6,7] (λd4 i G=>∃(a:Nat) (gV:Option Addr) (h:Nat),i=U a/\a<=d.length/\d4=.slice gV (gh ks (d.take a)).length h/\ac (aV [yy (.slice gV (gh ks (d.take a)).length h) (gh ks (d.take a))] H G)) (λ_ i _=>d.length-(intOf i).toNat)
  case atStart=>exact⟨0,none,0,rfl,by omega,rfl,(tJ H).cons (ak [] _) ⟨rfl,Y8 ⟨rfl,rfl⟩⟩ (λb1 e8=>by grind [Th.ba,Value.ownBlock])⟩
  case round=>
   obtain⟨a,gV,h,rfl,f1,rfl,f⟩:=hrel;rcases Yj a d.length with q|e9
   .have b4:=a1.j.F f.j.fr;obtain⟨d9,e3,o,-,-,c1⟩:=b4;simp only[Value.slice.injEq,true_and]at o;obtain⟨rfl,rfl⟩:=o;obtain⟨b1,g,rfl,b3⟩:=c1 a d[a] (Yd q);obtain⟨f9,g0,g1,g2,g3,g4⟩:=b3;have f2:(0:Int)<=(a:Int):=by omega
    have f3:(a:Int)<(d.length:Int):=by omega
    have k:=Z (OM ks q);have P:ac ((gh ks (d.take a)).length<=16384):=Z (Yz (Cr _ _) (by grind));generalize d[a]=c at *
    go_wp2;go_loopw [9,10] (λa8 D G=>∃(b:Nat) (l:Bool),D=U b/\b<=ks.length/\a8=.bool l/\ac (l=(decide (c.C<9)||(ks.take b).contains c.C))/\G=wr) (λ_ D _=>ks.length-(intOf D).toNat)
    case atStart=>exact⟨0,decide (c.C<9),rfl,by omega,rfl,by show _=_;simp,rfl⟩
    case round=>
     obtain⟨b,l,rfl,f5,rfl,u,rfl⟩:=hrel;rcases Yj b ks.length with m|f0
     .have f6:(0:Int)<=(b:Int):=by omega
      have f7:(b:Int)<(ks.length:Int):=by omega
      cases l with
      |true=>
       have n:ac (true=(decide (c.C<9)||(ks.take (b+1)).contains c.C)):=by
        show _=_;rw[Yt m,List.contains_append,<-Bool.or_assoc,<-u.j];rfl
       go_wp2;exact⟨⟨b+1,true,by rfl,m,rfl,n,trivial⟩,by simp[intOf];omega⟩
      |false=>
       obtain⟨e0,e4,B⟩:=a0.j;obtain⟨o,B⟩:=B;simp only[Value.slice.injEq,true_and]at o;obtain⟨rfl,rfl⟩:=o;obtain⟨gk,rfl,F⟩:=B b m;have F:=hU F f.j.fr;simp only[Nat.mul_one,show ks.getD b 0=ks[b] by simp[m]]at F;have n:ac ((c.C==ks[b])=(decide (c.C<9)||(ks.take (b+1)).contains c.C)):=by
        show _=_;rw[Yt m,List.contains_append,<-Bool.or_assoc,<-u.j];by_cases c5:c.C=ks[b]<;>simp[c5]
       generalize ks[b]=d7 at *
       generalize e6:(c.C==d7)=a9 at *
       go_wp2;exact⟨⟨b+1,a9,by rfl,m,rfl,n,trivial⟩,by simp[intOf];omega⟩
     .have c0:b=ks.length:=by omega
      subst c0;have b5:¬((ks.length:Int)<(ks.length:Int)):=by omega
      have n:ac (l=uk ks c.C):=by
       show _=_;rw[u.j,YG];rfl
      rw[<-n.j]at k;cases l with
      |false=>
       simp only[Ye,if_false,YH]at k
       go_wp2;exact⟨⟨a+1,gV,h,by rfl,q,by rw[k.j],by show aV _ _ _;rw[k.j];exact f.j⟩,by simp[intOf];omega⟩
      |true=>
       simp only[if_true]at k
       have d8:ac (∀y:cO,(jZ y).length=6):=Z (λ_=>rfl);have c2:∀j∈jZ c,j.oneCell'=true:=by
        intro j R;simp[jZ]at R;rcases R with rfl|rfl|rfl|rfl|rfl|rfl<;>rfl
       have x:ac ((gh ks (d.take a)).length+1=(gh ks (d.take (a+1))).length/\(gh ks (d.take a)).flatMap jZ++jZ c=(gh ks (d.take (a+1))).flatMap jZ):=by
        show _/\_;rw[k.j];simp
       have I:=Z (λd5=>bi (f.j.bq (i:=0) (a:=yy (.slice gV (gh ks (d.take a)).length h) (gh ks (d.take a))) rfl) ((ak [] wr).B d5) (by simp));have c3:(gh ks (d.take a)).length+1<=maxLen:=by have:=P.j;unfold maxLen;omega
       have c4:((gh ks (d.take a)).length+1)*56<=140737488355328:=by have:=P.j;omega
       go_wp2_with (at_builtin;(refine wpList_append_lies _ (by rfl) _ _ _ (by rfl) 0 27 d2 _ 6 56 underlying22 b6 c8 c9 d0 d1 (by omega) (.slice gV (gh ks (d.take a)).length h) (gh ks (d.take a)).length ((gh ks (d.take a)).flatMap jZ) (by rfl) (I.j _) ⟨wr.heap.size,0,none⟩ 1 1 (jZ c) (by rfl) (by rfl) (World.news_of_block (cs:=(jZ c).toArray) (t:=27) (fr:=(0,0)) (aS (w:=wr) (by simp))) c2 (by omega) c3 c4 (by omega) (wr.heap.size+1) (by simp) ?_;intro b2 b0 g6 O M L b9;have a6:=Z (f.j.bo (i:=0) rfl ((ak [] wr).B _) O M L (by simp));clear O M L b9 I));exact⟨⟨a+1,some ⟨b2,0,none⟩,b0,by rfl,q,by rw[x.j.1],by show aV _ _ _;have:=a6.j;rw[x.j.2,x.j.1]at this;exact this⟩,by simp[intOf];omega⟩
   .have b7:a=d.length:=by omega
    subst b7;have b5:¬((d.length:Int)<(d.length:Int)):=by omega
    rw[YG]at f;rw[YG];have a7:=Z (a3.j wr _ (gh ks d) f.j.fr (Mm (f.j.bq (i:=0) (a:=yy (.slice gV (gh ks d).length h) (gh ks d)) rfl)) (Yz (Cr _ _) b8) (λg r=>by
     unfold gh at r;rw[List.mem_filter]at r;refine⟨r.1,?_,?_⟩
     .grind [uk]
     .have K:=a2.j;unfold mu at K;simp at K;have:=Ki d g r.1;omega))
    have a4:=Z f.j.fr;go_wp2_with fail;refine a7.j.mono ?_;rintro J g5 ⟨rfl,d3⟩;have a5:=Z (a4.j.u d3);go_wp2;go_ret;exact⟨rfl,a5.j⟩
end
section
variable {e h : Zw} {g : Nat} {d : eG} {o q m l : Zv} {R : List Th}
def LF(d:List jg):∀b∈d.flatMap gY,b.oneCell'=true:=by
 intro b c;obtain⟨e,_,a⟩:=List.mem_flatMap.1 c;simp[gY]at a;rcases a with rfl|rfl|rfl|rfl|rfl<;>rfl
def SE{j:Array Oper}{rest:List Oper}{b:Oper}{f:Act}{Q:Exit->Act->Zw->Prop}{e:Zw}(t:b.guard=none)(d k:Operand)
  (v:b.op=.call { callee:=.builtin .append,args:=#[d,k],argTypes:=#[31,31] }) {l:Zv} {a:List jg} (x:f.eval d=.slice none 0 0) (y:f.eval k=l) (i:e.ownsRow 0 52 5 l a.length (a.flatMap gY)) (R:a.length<=1000000) (S:0<a.length)
  (q:∀g c,c.ownsRow 0 52 5 (.slice (some ⟨e.heap.size,0,none⟩) a.length g) a.length (a.flatMap gY)->e.grownBy c none->wpList prog j Q rest (f.put b.dst (.slice (some ⟨e.heap.size,0,none⟩) a.length g)) c):wpList prog j Q (b::rest) f e:=by
 refine wpList_plain t λE r=>?_;obtain⟨D,u,z,A,B⟩:=info_parts AC;have C:(Value.agg #[U 0,U 0,.string ⟨#[]⟩,U 0,U 0]).cells.size=5:=by rfl
 rcases i.2 with⟨rfl,I⟩|⟨n,g,G,rfl,J,K,L,M,N,O⟩
 .omega
 .obtain⟨a1,c,w,h,p,_,F⟩:=run_append_own_at (P:=prog) e 0 31 b.type 52 D _ 5 48 underlying31 u z A B C (by omega) (.slice none 0 0) 0 [] ⟨rfl,Y8 ⟨rfl,rfl⟩⟩ ⟨n,0,none⟩ a.length g (a.flatMap gY) i.1 (by
   grind [Addr.add,bJ]) (LF a) (by omega) (by omega) (YV _)
  rw[Nat.zero_add,YT]at h;rcases h.2 with⟨rfl,a0⟩|⟨o,m,H,rfl,_⟩
  .omega
  .have s:o=e.heap.size:=by
    grind [Value.ownBlock]
   subst s;unfold Oper.wp execOp;simp only[v,resolve,invoke,builtin,Sem.run_bind,Sem.run_pure,Result.andThen_ok,List.map_toArray,List.map_cons,List.map_nil,x,y,w];exact r _ _ (q m c h p)
def uM:jg:=⟨0,0,[],0,0⟩
def tS(a:jg)(b c:Int):jg:={ a with n:=IntKind.i64.wrap (a.n+b),a2:=IntKind.i64.wrap (a.a2+c) }
def nY(d:List jg)(e:cO):List jg:=d.set (dB e.a d.length) (tS (d.getD (dB e.a d.length) uM) e.b e.c)
def Bv{v:Zv}{c:List jg}{b j:Nat}(g:e.ownsRow 0 52 5 (.slice (some ⟨b,0,none⟩) c.length j) c.length (c.flatMap gY)){a:Nat}{d:jg}(h:c[a]? = some d):e.cell? ⟨b,a*5+1,none⟩=some (U d.n)/\e.cell? ⟨b,a*5+4,none⟩=some (U d.a2)/\(∀a,e.frozen? ⟨b,a,none⟩=false)/\b<e.heap.size:=by
 have i:=λm l=>qM (f:=gY) (k:=5) (λ_=>rfl) c a m l;obtain⟨q,o,x,s,u,w⟩:=ka g (i 1 (by omega) |>.trans (by rw[h];rfl));obtain⟨r,p,y,t,_⟩:=ka g (i 4 (by omega) |>.trans (by rw[h];rfl));simp_all
def aV.k3{l:List Th}{c d i j:Nat}{b:List jg}{g x':jg}{v:Zv}(n:aV (iY (.slice (some ⟨c,0,none⟩) b.length d) b::l) h e)(m:b[i]? = some g)(t:j<5)(s:gY x'=(gY g).set j v):aV (iY (.slice (some ⟨c,0,none⟩) (b.set i x').length d) (b.set i x')::l) h (e.setCell ⟨c,i*5+j,none⟩ v):=by
 have x:=(YB.1 m).1;have u:=n.bq (i:=0) (a:=iY (.slice (some ⟨c,0,none⟩) b.length d) b) rfl;have o:e.ownsRow 0 52 5 (.slice (some ⟨c,0,none⟩) b.length d) b.length (b.flatMap gY):=u;have y:(b.flatMap gY).length=b.length*5:=o.1;have w:=sP o (i:=i*5+j) (by omega) v;rw[sk (f:=gY) (k:=5) (λ_=>rfl) b i j g x' v t m s]at w;refine n.bR (i:=0) (a':=iY (.slice (some ⟨c,0,none⟩) (b.set i x').length d) (b.set i x')) rfl ((ak [c] e).ay (p:=⟨c,i*5+j,none⟩) (by simp) v) (λq r=>by grind [Th.ba,ep]) ?_ (λq r=>Y8 (by grind [Th.ba]));show World.ownsRow _ _ _ _ _ _ _;simp_all
def Mr(N:aV (wL g d o q m l R) h e)(f:cO)(a0:ht f)(d8:f.C=5)(c0:d.aP.length<=100000)(b9:d.aP≠[]):Calls prog 14 #[Zp g,.agg (cr f)] e λS s=>S=.returned (.bool true)/\∃c1,aV (wL g { d with aP:=nY d.aP f } o c1 m l R) h s:=by
 have E:=Z (N.B (.cells (cr f) 27));obtain⟨gV,u,rfl⟩:=ce (N.bq (i:=2) (a:=iY q d.aP) rfl);have M:0<d.aP.length:=YM.2 b9;have e2:(0:Int) < ↑d.aP.length:=by omega
 have e1:dB f.a d.aP.length<d.aP.length:=qT f.a M;have b7:=Z (sS f.a d.aP.length a0.2.1.1 a0.2.1.2 M (by omega));have a4:ac (d.aP[dB f.a d.aP.length]? = some (d.aP.getD (dB f.a d.aP.length) uM)):=Z (by grind);have b4:ac (nY d.aP f=d.aP.set (dB f.a d.aP.length) (tS (d.aP.getD (dB f.a d.aP.length) uM) f.b f.c)):=Z rfl;have d9:(0:Int)<=↑(dB f.a d.aP.length):=by omega
 have e0:(↑(dB f.a d.aP.length):Int) < ↑d.aP.length:=by omega
 generalize dB f.a d.aP.length=r at *
 generalize d.aP.getD r uM=k at *
 have b6:=Z M;have b5:=Z c0;have p:=N.a5 (i:=0) (R:=g) rfl;have d0:e.cell? (Zd g 1)=some (.slice gV d.aP.length u):=aU p rfl;have d1:=cK p;have d2:=ap p;have d3:(f.C==4)=false:=by simp_all
 go_in;go_wp2;generalize d6:e.heap.size=x at *
 generalize e.alloc (.cells (cr f) 27)=b3 at *
 obtain⟨a6,a7,a8,a9,b0,b1,of,b2⟩:=dP (E.j.a5 (i:=0) (R:=x) rfl);have p:=E.j.a5 (i:=1) (R:=g) rfl;have H:b3.cell? (Zd g 1)=some (.slice gV d.aP.length u):=aU p rfl;have I:=cK p;have J:=ap p;refine cx (λs=>s.cell? (Zd g 1)=some (.slice gV d.aP.length u)/\s.cell? (Zd x 2)=some (U f.a)) (L:=8) (by kernel_rfl) rfl (by kernel_rfl) (by kernel_rfl) ?_ (λK=>?_)
 .go_keep
 refine bH [0,1,2,3,4,5,6] ?_;iterate 7 (refine bK (v:=?_) rfl (by kernel_rfl) (λ_ _ _ z=>z) (by kernel_rfl) (by assumption) ?_ ?_;rotate_left;focus (intro e A;(try dsimp only at A);go_simp;(try with_reducible rfl));(try simp only[aJ,aK,List.set]))
 refine bI ?_;refine bF 7 (by kernel_rfl) rfl λD w=>?_;(go_simp;refine(b7.j _).mono ?_;rintro S e3 ⟨rfl,rfl⟩);refine w.out _ _ ?_ (λK=>?_)
 .go_keep
 (try simp only[aJ,aK,List.set]);refine cR (by kernel_rfl) rfl λD w=>?_;go_simp;refine w.out _ _ ?_;(try simp only[aJ,aK,List.set]);have B:=Z E.j.aq;generalize b3.drew=C at *
 have p:=B.j.a5 (i:=1) (R:=g) rfl;have H:C.cell? (Zd g 1)=some (.slice gV d.aP.length u):=aU p rfl;have I:=cK p;have J:=ap p;have a3:ac (C.ownsRow 0 52 5 (.slice gV d.aP.length u) d.aP.length (d.aP.flatMap gY)):=Z (B.j.bq (i:=3) (a:=iY (.slice gV d.aP.length u) d.aP) rfl);go_wp2_with (at_builtin;(refine SE (by rfl) _ _ (by rfl) (by rfl) (by rfl) a3.j (by have:=b5.j;omega) b6.j ?_;intro y c2 a2 a1;have F:=Z (B.j.cons (a:=iY (.slice (some ⟨C.heap.size,0,none⟩) d.aP.length y) d.aP) (fs a1) a2 (λd5 d7=>by grind [Th.ba,ep]));clear a2 a1 a3 H I J B;generalize C.heap.size=t at *));obtain⟨c5,c6,c7,c8⟩:=Bv (v:=.nilIface) (F.j.bq (i:=0) (a:=iY (.slice (some ⟨t,0,none⟩) d.aP.length y) d.aP) rfl) a4.j;obtain⟨a6,a7,a8,a9,b0,b1,of,b2⟩:=dP (F.j.a5 (i:=1) (R:=x) rfl);refine cx (λs=>s.cell? ⟨t,r*5+1,none⟩=some (U k.n)/\s.cell? (Zd x 3)=some (U f.b)) (L:=12) (by kernel_rfl) rfl (by kernel_rfl) (by kernel_rfl) ?_ (λK=>?_)
 .go_keep
 refine bH [0,1,2,3,4,5,6,7,8,9,10,11] ?_;iterate 12 (refine bK (v:=?_) rfl (by kernel_rfl) (λ_ _ _ z=>z) (by kernel_rfl) (by assumption) ?_ ?_;rotate_left;focus (intro e A;(try dsimp only at A);go_simp;(try with_reducible rfl));(try simp only[aJ,aK,List.set]))
 refine bI ?_;refine cR (by kernel_rfl) rfl λD w=>?_;go_simp;refine w.out _ _ ?_;(try simp only[aJ,aK,List.set]);have G:=Z (F.j.k3 (j:=1) (x':={ k with n:=IntKind.i64.wrap (k.n+f.b) }) (v:=U (IntKind.i64.wrap (k.n+f.b))) a4.j (by omega) rfl).aq;generalize (c2.setCell ⟨t,r*5+1,none⟩ (U (IntKind.i64.wrap (k.n+f.b)))).drew=c3 at *
 have a5:ac ((d.aP.set r { k with n:=IntKind.i64.wrap (k.n+f.b) })[r]? = some { k with n:=IntKind.i64.wrap (k.n+f.b) }):=Z (by
  simp_all)
 obtain⟨c5,c6,c7,c8⟩:=Bv (v:=.nilIface) (G.j.bq (i:=0) (a:=iY (.slice (some ⟨t,0,none⟩) (d.aP.set r { k with n:=IntKind.i64.wrap (k.n+f.b) }).length y) (d.aP.set r { k with n:=IntKind.i64.wrap (k.n+f.b) })) rfl) a5.j;obtain⟨a6,a7,a8,a9,b0,b1,of,b2⟩:=dP (G.j.a5 (i:=1) (R:=x) rfl);go_wp2;refine cx (λs=>s.cell? ⟨t,r*5+4,none⟩=some (U k.a2)/\s.cell? (Zd x 4)=some (U f.c)) (L:=12) (by kernel_rfl) rfl (by kernel_rfl) (by kernel_rfl) ?_ (λK=>?_)
 .go_keep
 refine bH [0,1,2,3,4,5,6,7,8,9,10,11] ?_;iterate 12 (refine bK (v:=?_) rfl (by kernel_rfl) (λ_ _ _ z=>z) (by kernel_rfl) (by assumption) ?_ ?_;rotate_left;focus (intro e A;(try dsimp only at A);go_simp;(try with_reducible rfl));(try simp only[aJ,aK,List.set]))
 refine bI ?_;refine cR (by kernel_rfl) rfl λD w=>?_;go_simp;refine w.out _ _ ?_;(try simp only[aJ,aK,List.set]);have O:=Z (G.j.k3 (j:=4) (x':=tS k f.b f.c) (v:=U (IntKind.i64.wrap (k.a2+f.c))) a5.j (by omega) rfl).aq;generalize (c3.setCell ⟨t,r*5+4,none⟩ (U (IntKind.i64.wrap (k.a2+f.c)))).drew=c4 at *
 have p:=O.j.a5 (i:=2) (R:=g) rfl;have H:c4.cell? (Zd g 1)=some (.slice gV d.aP.length u):=aU p rfl;have I:=cK p;have J:=ap p;go_wp2;go_ret;have P:=O.j.a9 (i:=2) (j:=1) rfl (.slice (some ⟨t,0,none⟩) d.aP.length y);have b8:(d.aP.set r { k with n:=IntKind.i64.wrap (k.n+f.b) }).set r (tS k f.b f.c)=nY d.aP f:=by rw[b4.j,List.set_set]
 rw[b8]at P;have d4:(nY d.aP f).length=d.aP.length:=by grind
 refine⟨rfl,.slice (some ⟨t,0,none⟩) (nY d.aP f).length y,?_⟩;have c9:=(P.cE 3).b3;simp_all
end
section
variable {j i : Zw} {e : Nat} {d : eG} {k l h g : Zv} {f : List Th}
def lA(d:eG)(e:cO):Option eG:=
 if e.C=4 then some { d with aP:=d.aP++[⟨e.a,e.b,e.s,0,e.c⟩] }
 else if e.C=5 then some { d with aP:=if d.aP=[]then d.aP else nY d.aP e }
 else if e.C=6 then some { d with aP:=[] }
 else if e.C=7 then some { d with a:=e.a,b:=e.b,c:=e.c }
 else if e.C=8 then some { d with b0:=e.s }
 else mA d e
def yZ(d:eG)(e:Nat)(h g:Zv)(f:List Th)(i:Zw)(k:Option eG)(c:Ending)(j:Zw):Prop:=match k with
 |some l=>c=.returned (.bool true)/\∃a b,aV (wL e l a b h g f) i j
 |none=>c=.returned (.bool false)/\∃a b,aV (wL e d a b h g f) i j
structure lM(d:eG):Prop where
 ah:d.ah.length<=100000
 dl:∀x∈d.ah,x.length<=1000000000
 aP:d.aP.length<=100000
 a3:d.a3.length<=100000
 e4:d.e4.length<=100000
def qS(c:aV (wL e d k l h g f) i j)(a:cO)(v:ht a)(u:lM d):Calls prog 14 #[Zp e,.agg (cr a)] j (yZ d e h g f i (lA d a)):=by
 unfold lA;by_cases q:a.C=4
 .rw[Y9 q];refine(Mv c a q u.aP).mono ?_;rintro m n ⟨rfl,w,b⟩;exact⟨rfl,_,_,b⟩
 rw[Y2 q];by_cases o:a.C=5
 .rw[Y9 o];by_cases p:d.aP=[]
  .rw[Y9 p];refine(Ms c a o p).mono ?_;rintro m n ⟨rfl,b⟩;exact⟨rfl,_,_,b⟩
  .rw[Y2 p];refine(Mr c a v o u.aP p).mono ?_;rintro m n ⟨rfl,w,b⟩;exact⟨rfl,_,_,b⟩
 rw[Y2 o];by_cases r:a.C=6
 .rw[Y9 r];refine(Mw c a r).mono ?_;rintro m n ⟨rfl,b⟩;exact⟨rfl,_,_,b⟩
 rw[Y2 r];by_cases s:a.C=7
 .rw[Y9 s];refine(Mt c a s).mono ?_;rintro m n ⟨rfl,b⟩;exact⟨rfl,_,_,b⟩
 rw[Y2 s];by_cases t:a.C=8
 .rw[Y9 t];refine(Mu c a t).mono ?_;rintro m n ⟨rfl,b⟩;exact⟨rfl,_,_,b⟩
 rw[Y2 t];refine(My c a v u.ah u.dl q o r s t).mono ?_;intro m n b;unfold qk at b;unfold yZ;cases x:mA d a with
 |some y=>
  grind
 |none=>
  grind
end
section
variable {d c : Zw} {b : Nat} {s g : eG} {h j f e : Zv} {R : List Th}
def PT(r:aV (wL b s h j f e R) c d)(a:cO)(o:ht a)(p:lM s)(q:lA s a=some g):Calls prog 13 #[Zp b,.agg (cr a)] d λm u=>m=.returned (.bool true)/\∃k l,aV (wL b g k l f e R) c u:=by
 have i:=Z (qS (r.ai (.cells (cr a) 27)) a o p);rw[q]at i;clear r o p q;go_in;go_wp2_with fail;refine i.j.mono ?_;rintro m v ⟨rfl,k,l,n⟩;have t:=Z n;clear n i;go_wp2;go_ret;exact⟨rfl,k,l,t.j.c9⟩
def BT{a:cO}(b:a.C=9):lA s a=none:=by grind [lA,mA]
def Qd(G:aV (wL b s h j f e R) c d)(g:cO)(m:ht g)(t:lM s)(B:g.C=9){J:Mar.aw}(C:eE (aA (ea s g.a))=.error J)(A:Gl c)(z:c.cell? (Zd 1 0)=some (ix 55)):Calls prog 13 #[Zp b,.agg (cr g)] d λq a0=>q=.returned (.bool true)/\∃k l,aV (wL b s k l f e R) c a0:=by
 have p:=Z (qS (G.ai (.cells (cr g) 27)) g m t);rw[BT B]at p;have x:=Z (λ(u:Zw) k l (H:aV (wL b s k l f e (R++[.obj d.heap.size (.cells (cr g) 27)])) c u)=>oF (s:=s) (H.a5 (i:=0) (R:=b) rfl) (H.bq (i:=1) (a:=ci k s.ah) rfl) g.a m.2.1.1 m.2.1.2 (by have:=t.ah;omega));have v:=Z (λ(u:Zw) (D:am [] c u)=>NA C (A.F D (by simp) (by simp) (by simp)) (hU z D));generalize ea s g.a=tx at *
 have a5:(g.C==9)=true:=by simp_all
 clear G m t C A z B;go_in;go_wp2_with fail;refine p.j.mono ?_;rintro q a1 ⟨rfl,k,l,r⟩;have n:=Z r;have y:=Z (x.j a1 k l r);clear r p x;obtain⟨K,L,M,N,O,P,of,S⟩:=dP n.j.hL;generalize d.heap.size=a3 at *
 go_wp2_with fail;refine y.j.mono ?_;rintro a4 a2 ⟨rfl,E⟩;have o:=Z (n.j.F E);have w:=Z (v.j a2 o.j.fr);clear n y v E K L M N O P of S;go_wp2_with fail;refine w.j.mono ?_;rintro q a6 ⟨F,rfl⟩;have I:=Z (o.j.F F);clear o w F;go_wp2;go_ret;exact⟨rfl,k,l,I.j.c9⟩
end
section
variable {e c : Zw} {b : Nat} {s k : eG} {g h f d : Zv} {R : List Th}
def Jd:(prog.info? 37).map (λa=>(a.zero,a.size,a.bytes))=some (some (.pointer none),1,8):=by kernel_rfl
def mL(c:List Th)(S:Nat):Prop:=∃a b d g h i,Th.obj S (.cells #[Zp b,g,h,i,.string ⟨(dL a).toArray⟩] 67)∈c/\qs d b a/\(∀e∈d,Th.obj e.1 e.2∈c)/\(∀f∈a,Gg f)/\(dL a).length<=1000000000
def PZ(B:aV (wL b s g h f d R) c e)(l:cO)(r:ht l)(u:lM s)(a5:l.C=9){b9:List aB}(b0:eE (aA (ea s l.a))=.ok b9)(a3:Gl c):Calls prog 13 #[Zp b,.agg (cr l)] e λz e4=>z=.returned (.bool true)/\∃S n p e0 E,aV (wL b { s with a3:=s.a3++[S] } n p e0 d (R++E)) c e4/\mL E S:=by
 obtain⟨gV,o,rfl⟩:=ce (B.bq (i:=3) (a:=my 37 f s.a3) rfl);have y:=Z (qS (B.ai (.cells (cr l) 27)) l r u);rw[BT a5]at y;have I:=Z (λ(C:Zw) n p (b3:aV (wL b s n p (.slice gV s.a3.length o) d (R++[.obj e.heap.size (.cells (cr l) 27)])) c C)=>oF (s:=s) (b3.a5 (i:=0) (R:=b) rfl) (b3.bq (i:=1) (a:=ci n s.ah) rfl) l.a r.2.1.1 r.2.1.2 (by have:=u.ah;omega));have G:=Z (λ(C:Zw) (d2:am [] c C)=>Nz b0 (a3.F d2 (by simp) (by simp) (by simp)));have a6:s.a3.length+1<=maxLen:=by grind [lM.a3,maxLen]
 have c6:(s.a3.length+1)*8<=140737488355328:=by have:=u.a3;omega
 obtain⟨d1,c4,c7,c8,c9⟩:=info_parts Jd;have d0:(Value.pointer none).cells.size=1:=rfl;generalize ea s l.a=tx at *
 have e9:(l.C==9)=true:=by simp_all
 clear B r u b0 a3 a5;go_in;go_wp2_with fail;refine y.j.mono ?_;rintro z e5 ⟨rfl,n,p,A⟩;have w:=Z A;have J:=Z (I.j e5 n p A);clear A y I;obtain⟨d3,d4,d5,d6,d7,d8,of,d9⟩:=dP w.j.hL;generalize e.heap.size=e7 at *
 go_wp2_with fail;refine J.j.mono ?_;rintro e8 v ⟨rfl,b1⟩;have x:=Z (w.j.F b1);have H:=Z (G.j v x.j.fr);clear w J G b1 d3 d4 d5 d6 d7 d8 of d9;go_wp2_with fail;refine H.j.mono ?_;rintro z k ⟨b2,S,rfl,a0,a1⟩;have q:=Z (show aV (wL b s n p (.slice gV s.a3.length o) d (R++ox v k)) c k from x.j.c9.i1 b2);have b6:ac (mL (ox v k) S):=by
  obtain⟨b5,b8,e1,e2,e3,c0,c1,P,c2,c3⟩:=a1;exact⟨_,b5,b8,e1,e2,e3,BA a0 c0,c1,λb4 a9=>BA (P b4 a9).2 (P b4 a9).1,c2,c3⟩
 clear x H b2 a0 a1;have m:=q.j.a5 (i:=0) (R:=b) rfl;have K:k.cell? (Zd b 6)=some (.slice gV s.a3.length o):=aU m rfl;have L:=cK m;have M:=ap m;clear m;have a7:ac (∀D,(k.alloc D).ownsRow 0 37 1 (.slice gV s.a3.length o) s.a3.length (s.a3.map mm)):=Z (λD=>bi (q.j.bq (i:=3) (a:=my 37 (.slice gV s.a3.length o) s.a3) rfl) ((ak [] k).B D) (by simp));go_wp2_with (at_builtin;(refine wpList_append_lies _ (by rfl) _ _ _ (by rfl) 0 37 d1 _ 1 8 underlying32 c4 c7 c8 c9 d0 (by omega) (.slice gV s.a3.length o) s.a3.length (s.a3.map mm) (by rfl) (a7.j _) ⟨k.heap.size,0,none⟩ 1 1 [mm S] (by rfl) (by rfl) (World.news_of_block (cs:=#[mm S]) (t:=37) (fr:=(0,0)) (heap_alloc_new k _)) (by simp[Value.oneCell']) (by omega) a6 c6 (by simp) (k.heap.size+1) (by simp) ?_;intro O N e6 a8 a4 a2 c5;have F:=Z (q.j.bo (i:=3) rfl ((ak [] k).B _) a8 a4 a2 (by simp));clear a8 a4 a2 c5 a7 a6 K L M q;have m:=F.j.a5 (i:=0) (R:=b) rfl;have K:e6.cell? (Zd b 6)=some (.slice gV s.a3.length o):=aU m rfl;have L:=cK m;have M:=ap m;clear m));go_wp2;go_ret;have b7:=F.j.a9 (i:=0) (j:=6) rfl (.slice (some ⟨O,0,none⟩) (s.a3.length+1) N);exact⟨rfl,S,n,p,.slice (some ⟨O,0,none⟩) (s.a3.length+1) N,ox v k,by simpa[wL,my]using b7,b6.j⟩
end
section
variable {c f : Zw} {b : Nat} {s j : eG} {g h e d : Zv} {R : List Th}
def xO{a:cO}(b:a.C<=0\/a.C=10):lA s a=none:=by
 unfold lA mA;grind
def PQ(u:aV (wL b s g h e d R) f c)(j:cO)(w:ht j)(x:lM s)(y:j.C<=0\/j.C=10)(H:s.a3=[]):Calls prog 13 #[Zp b,.agg (cr j)] c λr z=>r=.returned (.bool true)/\∃l n,aV (wL b s l n e d R) f z:=by
 obtain⟨gV,q,rfl⟩:=ce (u.bq (i:=3) (a:=my 37 e s.a3) rfl);have p:=Z (qS (u.ai (.cells (cr j) 27)) j w x);rw[xO y]at p;have G:(j.C==9)=false:=by grind
 have F:¬(14:Int)<j.C:=by omega
 have I:s.a3.length=0:=by simp_all
 have v:ac (∀m:Zw,m.cell? (Zd b 6)=some (.slice gV s.a3.length q)->m.cell? (Zd b 6)=some (.slice gV 0 q)):=Z (λm t=>by simp_all);go_in;go_wp2_with fail;refine p.j.mono ?_;rintro r A ⟨rfl,l,n,t⟩;have k:=Z t;obtain⟨J,K,L,M,N,O,of,P⟩:=dP k.j.hL;have o:=k.j.a5 (i:=0) (R:=b) rfl;have B:=v.j A (aU o rfl);have C:=cK o;have E:=ap o;generalize c.heap.size=D at *
 go_wp2;go_ret;exact⟨rfl,l,n,k.j.c9⟩
def vb{f:TypeId}{v:Zv}{a:List Nat}{b:Nat}(g:c.ownsRow 0 f 1 v a.length (a.map mm))(j:b<a.length):∃d e,v=.slice (some ⟨d,0,none⟩) a.length e/\c.cell? (Zd d b)=some (mm (a.getD b 0))/\d<c.heap.size:=by
 obtain⟨d,e,l,h,_,k⟩:=ka g (i:=b) (x:=mm (a.getD b 0)) (by grind);simp_all
def PR(J:aV (wL b s g h e d R) f c)(j:cO)(p:ht j)(z:lM s)(a3:j.C<=0)(a1:s.a3≠[]):Calls prog 13 #[Zp b,.agg (cr j)] c λu q=>u=.returned (.bool true)/\∃k l,aV (wL b s k l e d R) f q:=by
 have G:0<s.a3.length:=YM.2 a1;have F:dB j.x s.a3.length<s.a3.length:=qT j.x G;obtain⟨m,o,rfl,-,-⟩:=vb (J.bq (i:=3) (a:=my 37 e s.a3) rfl) F;have E:=Z (qS (J.ai (.cells (cr j) 27)) j p z);rw[xO (Y8 a3)]at E;have O:=Z (λ(A:Zw) k l (t:aV (wL b s k l (.slice (some ⟨m,0,none⟩) s.a3.length o) d (R++[.obj c.heap.size (.cells (cr j) 27)])) f A)=>oF (s:=s) (t.a5 (i:=0) (R:=b) rfl) (t.bq (i:=1) (a:=ci k s.ah) rfl) j.a p.2.1.1 p.2.1.2 (by have:=z.ah;omega));have N:=Z (sS j.x s.a3.length p.1.1 p.1.2 G (by have:=z.a3;omega));have M:=Z (λ(A:Zw) k l (t:aV (wL b s k l (.slice (some ⟨m,0,none⟩) s.a3.length o) d (R++[.obj c.heap.size (.cells (cr j) 27)])) f A)=>vb (t.bq (i:=3) (a:=my 37 (.slice (some ⟨m,0,none⟩) s.a3.length o) s.a3) rfl) F);have c4:(j.C==9)=false:=by grind
 have b8:(j.C==10)=false:=by grind
 have b9:(j.C==11)=false:=by grind
 have c0:(j.C==12)=false:=by grind
 have c1:(j.C==13)=false:=by grind
 have c3:(j.C==14)=false:=by grind
 have c2:¬(14:Int)<j.C:=by omega
 have c9:((s.a3.length:Int)==0)=false:=by simp_all
 have c7:(0:Int)<=↑(dB j.x s.a3.length):=by omega
 have c8:(↑(dB j.x s.a3.length):Int) < ↑s.a3.length:=by omega
 generalize dB j.x s.a3.length=I at *
 generalize s.a3.getD I 0=S at *
 generalize ea s j.a=tx at *
 go_in;go_wp2_with fail;refine E.j.mono ?_;rintro u B ⟨rfl,k,l,n⟩;have r:=Z n;obtain⟨c5,b6,H,b5,c6⟩:=M.j B k l n;simp only[Value.slice.injEq,Yu,Addr.mk.injEq,and_true,true_and]at H;obtain⟨rfl,rfl⟩:=H;obtain⟨a5,a6,a7,a8,a9,b0,of,b1⟩:=dP r.j.hL;have C:=r.j.a5 (i:=0) (R:=b) rfl;have b2:B.cell? (Zd b 6)=some (.slice (some ⟨m,0,none⟩) s.a3.length o):=aU C rfl;have b3:=cK C;have b4:=ap C;have P:=Z (O.j B.drew k l r.j.aq);generalize c.heap.size=a0 at *
 go_wp2;refine cx (λq=>q.cell? (Zd b 6)=some (.slice (some ⟨m,0,none⟩) s.a3.length o)/\q.cell? (Zd a0 1)=some (U j.x)/\q.cell? (Zd m I)=some (mm S)) (L:=14) (by kernel_rfl) rfl (by kernel_rfl) (by kernel_rfl) ?_ (λa2=>?_)
 .go_keep
 refine bH [0,1,2,3,4,5,6,7,8,9,10] ?_;iterate 11 (refine bK (v:=?_) rfl (by kernel_rfl) (λ_ _ _ n=>n) (by kernel_rfl) (by assumption) ?_ ?_;rotate_left;focus (intro c y;(try dsimp only at y);go_simp;(try with_reducible rfl));(try simp only[aJ,aK,List.set]))
 refine bI ?_;refine bF 11 (by kernel_rfl) rfl λK w=>?_;(go_simp;refine(N.j _).mono ?_;rintro u d1 ⟨rfl,rfl⟩);refine w.out _ _ ?_ (λa2=>?_)
 .go_keep
 (try simp only[aJ,aK,List.set]);refine bH [12,13] ?_;iterate 2 (refine bK (v:=?_) rfl (by kernel_rfl) (λ_ _ _ n=>n) (by kernel_rfl) (by assumption) ?_ ?_;rotate_left;focus (intro c y;(try dsimp only at y);go_simp;(try with_reducible rfl));(try simp only[aJ,aK,List.set]))
 refine bI ?_;refine cR (by kernel_rfl) rfl λK w=>?_;go_simp;refine w.out _ _ ?_;(try simp only[aJ,aK,List.set]);go_wp2_with fail;refine P.j.mono ?_;rintro b7 d0 ⟨rfl,a4⟩;have D:=Z (r.j.aq.F a4);obtain⟨a5,a6,a7,a8,a9,b0,of,b1⟩:=dP D.j.hL;go_wp2;go_ret;exact⟨rfl,k,l,D.j.c9⟩
end
section
variable {c e : Zw} {b : Nat} {s k : eG} {g h f d : Zv} {R : List Th}
def MM{S d:Nat}{a:List aB}{j:Zo}{v w x:Zv}(b:c.heap[S]? = some (.cells #[Zp d,v,w,x,.string ⟨(dL a).toArray⟩] 67))(m:qs j d a)(l:∀q∈j,c.heap[q.1]? = some q.2)(n:∀e∈a,Gg e)(o:(dL a).length<=1000000000)(p:gn c) :
  Calls prog 19 #[Zp S] c λk y=>k=.returned (.tuple #[.string ⟨(dL a).toArray⟩,.bool true])/\am [] c y:=by
 have i:=Z (EF m l p (λe t=>Is (n e t)) (Yz o (by decide)));have s:c.cell? (Zd S 0)=some (Zp d):=aU b rfl;have h:=Z (λg (u:am [] c g)=>(u.G _ (ap b) (by simp)).trans b);clear m l n o p b;generalize dL a=z at *
 go_in;go_wp2_with fail;refine i.j.mono ?_;rintro k g ⟨rfl,f⟩;have A:g.cell? (Zd S 4)=some (Zs z):=aU (h.j _ f) rfl;have r:=Z f;clear i f h s;go_wp2;go_region;go_wp2;go_ret2;exact⟨by simp,r.j.aq⟩
def DG{a c:Th}(e:a∈R):a∈wL b s g h f d (R++[c]):=Y5 _ (Y5 _ (Y5 _ (Y5 _ (Y5 _ (Yf _ e)))))
def PU(a1:aV (wL b s g h f d R) e c)(k:cO)(x:ht k)(D:lM s)(d0:k.C=10)(c3:s.a3≠[])(d4:∀S∈s.a3,mL R S)(d6:gn e):Calls prog 13 #[Zp b,.agg (cr k)] c λM E=>M=.returned (.bool true)/\∃o n m,aV (wL b { s with ah:=s.ah++[o] } n m f d R) e E/\o.length<=1000000000:=by
 have a0:0<s.a3.length:=YM.2 c3;have O:dB k.x s.a3.length<s.a3.length:=qT k.x a0;obtain⟨r,w,rfl,-,-⟩:=vb (a1.bq (i:=3) (a:=my 37 f s.a3) rfl) O;have K:=Z (qS (a1.ai (.cells (cr k) 27)) k x D);rw[xO (Ya d0)]at K;have b6:=Z (λ(y:Zw) n m (q:aV (wL b s n m (.slice (some ⟨r,0,none⟩) s.a3.length w) d (R++[.obj c.heap.size (.cells (cr k) 27)])) e y)=>oF (s:=s) (q.a5 (i:=0) (R:=b) rfl) (q.bq (i:=1) (a:=ci n s.ah) rfl) k.a x.2.1.1 x.2.1.2 (by have:=D.ah;omega));have b3:=Z (sS k.x s.a3.length x.1.1 x.1.2 a0 (by have:=D.a3;omega));have b2:=Z (λ(y:Zw) n m (q:aV (wL b s n m (.slice (some ⟨r,0,none⟩) s.a3.length w) d (R++[.obj c.heap.size (.cells (cr k) 27)])) e y)=>vb (q.bq (i:=3) (a:=my 37 (.slice (some ⟨r,0,none⟩) s.a3.length w) s.a3) rfl) O);obtain⟨c1,e0,g2,f6,f7,f8,c7,c5,c4,c8,P⟩:=d4 (s.a3.getD (dB k.x s.a3.length) 0) (by grind);have b4:=Z (λ(y:Zw) n m (q:aV (wL b s n m (.slice (some ⟨r,0,none⟩) s.a3.length w) d (R++[.obj c.heap.size (.cells (cr k) 27)])) e y)=>MM (show y.heap[s.a3.getD (dB k.x s.a3.length) 0]? = some (.cells #[Zp e0,f6,f7,f8,.string ⟨(dL c1).toArray⟩] 67)from q.m (.obj _ _) (DG c7)) c5 (λa9 e9=>q.m (.obj a9.1 a9.2) (DG (c4 a9 e9))) c8 P (yz d6 q.fr));have e1:=Z P;obtain⟨f0,f1,f2,f3,f4⟩:=info_parts oo;have f5:(Value.string ⟨#[]⟩).cells.size=1:=rfl;have d1:s.ah.length+1<=maxLen:=by grind [lM.ah,maxLen]
 have e8:(s.ah.length+1)*16<=140737488355328:=by have:=D.ah;omega
 generalize dL c1=o at *
 have g6:(k.C==9)=false:=by simp_all
 have g4:(k.C==10)=true:=by simp_all
 have g5:¬(14:Int)<k.C:=by omega
 have h0:((s.a3.length:Int)==0)=false:=by simp_all
 have g8:(0:Int)<=↑(dB k.x s.a3.length):=by omega
 have g9:(↑(dB k.x s.a3.length):Int) < ↑s.a3.length:=by omega
 generalize dB k.x s.a3.length=d7 at *
 generalize s.a3.getD d7 0=S at *
 generalize ea s k.a=tx at *
 clear a1 x D c3 a0 O d0 d4 d6 c7 c5 c4 c8 P;go_in;go_wp2_with fail;refine K.j.mono ?_;rintro M b0 ⟨rfl,n,m,p⟩;obtain⟨A,B,rfl⟩:=ce (p.bq (i:=1) (a:=ci n s.ah) rfl);have z:=Z p;obtain⟨g7,g3,d5,e3,e5⟩:=b2.j b0 _ m p;simp only[Value.slice.injEq,Yu,Addr.mk.injEq,and_true,true_and]at d5;obtain⟨rfl,rfl⟩:=d5;clear p K b2;obtain⟨a2,a3,a4,a5,a6,a7,of,a8⟩:=dP z.j.hL;have l:=z.j.a5 (i:=0) (R:=b) rfl;have e2:b0.cell? (Zd b 6)=some (.slice (some ⟨r,0,none⟩) s.a3.length w):=aU l rfl;have H:=cK l;have I:=ap l;clear l;have b7:=Z (b6.j b0.drew _ m z.j.aq);clear b6;generalize c.heap.size=b9 at *
 go_wp2;refine cx (λE=>E.cell? (Zd b 6)=some (.slice (some ⟨r,0,none⟩) s.a3.length w)/\E.cell? (Zd b9 1)=some (U k.x)/\E.cell? (Zd r d7)=some (mm S)) (L:=14) (by kernel_rfl) rfl (by kernel_rfl) (by kernel_rfl) ?_ (λe6=>?_)
 .go_keep
 refine bH [0,1,2,3,4,5,6,7,8,9,10] ?_;iterate 11 (refine bK (v:=?_) rfl (by kernel_rfl) (λ_ _ _ p=>p) (by kernel_rfl) (by assumption) ?_ ?_;rotate_left;focus (intro c N;(try dsimp only at N);go_simp;(try with_reducible rfl));(try simp only[aJ,aK,List.set]))
 refine bI ?_;refine bF 11 (by kernel_rfl) rfl λJ C=>?_;(go_simp;refine(b3.j _).mono ?_;rintro M h1 ⟨rfl,rfl⟩);refine C.out _ _ ?_ (λe6=>?_)
 .go_keep
 clear C J;(try simp only[aJ,aK,List.set]);refine bH [12,13] ?_;iterate 2 (refine bK (v:=?_) rfl (by kernel_rfl) (λ_ _ _ p=>p) (by kernel_rfl) (by assumption) ?_ ?_;rotate_left;focus (intro c N;(try dsimp only at N);go_simp;(try with_reducible rfl));(try simp only[aJ,aK,List.set]))
 refine bI ?_;refine cR (by kernel_rfl) rfl λJ C=>?_;go_simp;refine C.out _ _ ?_;clear C J;(try simp only[aJ,aK,List.set]);go_wp2_with fail;refine b7.j.mono ?_;rintro e4 f9 ⟨rfl,d8⟩;have F:=Z (z.j.aq.F d8);have b5:=Z (b4.j f9 _ m F.j);clear z b7 d8 a2 a3 a4 a5 a6 a7 of a8 e2 H I e3 e5 b3 b4;obtain⟨a2,a3,a4,a5,a6,a7,of,a8⟩:=dP F.j.hL;go_wp2_with fail;refine b5.j.mono ?_;rintro e4 u ⟨rfl,d9⟩;have G:=Z (F.j.F d9);clear F b5 d9 a2 a3 a4 a5 a6 a7 of a8;have l:=G.j.a5 (i:=0) (R:=b) rfl;have b8:u.cell? (Zd b 0)=some (.slice A s.ah.length B):=aU l rfl;have H:=cK l;have I:=ap l;clear l;have d2:ac (∀o,(u.alloc o).ownsRow 0 9 1 (.slice A s.ah.length B) s.ah.length (s.ah.map λs=>Zs s)):=Z (λo=>bi (G.j.bq (i:=1) (a:=ci (.slice A s.ah.length B) s.ah) rfl) ((ak [] u).B o) (by simp));go_wp2_with (at_builtin;(refine wpList_append_lies _ (by rfl) _ _ _ (by rfl) 0 9 f0 _ 1 16 underlying30 f1 f2 f3 f4 f5 (by omega) (.slice A s.ah.length B) s.ah.length (s.ah.map λs=>Zs s) (by rfl) (d2.j _) ⟨u.heap.size,0,none⟩ 1 1 [Zs o] (by rfl) (by rfl) (World.news_of_block (cs:=#[Zs o]) (t:=9) (fr:=(0,0)) (heap_alloc_new u _)) (by simp[Value.oneCell']) (by omega) d1 e8 (by simp) (u.heap.size+1) (by simp) ?_;intro c2 c0 g0 d3 c9 c6 e7;have b1:=Z (G.j.g5 (i:=1) rfl ((ak [] u).B _) d3 c9 c6 (by simp));clear d3 c9 c6 e7 d2 d1 b8 H I G;have l:=b1.j.a5 (i:=0) (R:=b) rfl;have b8:g0.cell? (Zd b 0)=some (.slice A s.ah.length B):=aU l rfl;have H:=cK l;have I:=ap l;clear l));go_wp2;go_ret;have g1:=b1.j.a9 (i:=0) (j:=0) rfl (.slice (some ⟨c2,0,none⟩) (s.ah.length+1) c0);exact⟨rfl,o,.slice (some ⟨c2,0,none⟩) (s.ah.length+1) c0,m,aV.c9 (a:=.obj b9 (.cells (cr k) 27)) (by simp_all),e1.j⟩
end
section
variable {b h : Zw} {i c : Nat} {s g : eG} {j k f e : Zv} {d : List Th} {o : cO}
structure je(c:Nat)(s:eG):Prop where
 ah:s.ah.length<=c
 dl:∀x∈s.ah,x.length<=1000000000
 aP:s.aP.length<=50000+c
 a3:s.a3.length<=c
 e4:s.e4.length<=c
def je.bp(a:je c s)(e:c<=16384):lM s:=
 ⟨by have:=a.ah;omega,λd b=>by have:=a.dl d b;omega,by have:=a.aP;omega,by have:=a.a3;omega,by have:=a.e4;omega⟩
def je.up(a:je c s):je (c+1) s:=
 ⟨by have:=a.ah;omega,a.dl,by have:=a.aP;omega,by have:=a.a3;omega,by have:=a.e4;omega⟩
def je.text(b:je c s)(a:Int):(ea s a).length<=1000000000:=by
 unfold ea;split
 .simp
 .rename_i d;have e:=qT a (YM.2 d);exact b.dl _ (by grind)
def je.a0(a:je c s){d:Zb}(f:d.length<=1000000000):je (c+1) { s with ah:=s.ah++[d] }:=
 ⟨by have:=a.ah;simp_all,λe b=>by
  rcases Yn.1 b with b|b
  .exact a.dl e b
  simp_all,a.up.aP,a.up.a3,a.up.e4⟩
def Rx(a:Zb)(b c:Int):(oH a b c).length=a.length:=by
 grind [oH]
def je.m8(d:je c s)(f:o.s.length<=16384)(b:lA s o=some g):je (c+1) g/\g.a3=s.a3/\g.e4=s.e4:=by
 have a:=d.up;unfold lA at b;split at b
 .cases b
  exact⟨⟨a.ah,a.dl,by have:=d.aP;grind,a.a3,a.e4⟩,rfl,rfl⟩
 split at b
 .cases b
  refine⟨⟨a.ah,a.dl,?_,a.a3,a.e4⟩,rfl,rfl⟩;show (if s.aP=[]then s.aP else nY s.aP o).length<=_
  split;all_goals simp_all[aP,nY]
 split at b
 .cases b
  exact⟨⟨a.ah,a.dl,by simp,a.a3,a.e4⟩,rfl,rfl⟩
 split at b
 .cases b
  exact⟨⟨a.ah,a.dl,a.aP,a.a3,a.e4⟩,rfl,rfl⟩
 split at b
 .cases b
  exact⟨⟨a.ah,a.dl,a.aP,a.a3,a.e4⟩,rfl,rfl⟩
 unfold mA at b;split at b
 .cases b
  exact⟨d.a0 (by omega),rfl,rfl⟩
 split at b
 .cases b
  exact⟨d.a0 (by rw[Rx];exact d.text _),rfl,rfl⟩
 split at b
 .cases b
  unfold um;split
  .simp_all
  .rename_i e;exact⟨d.a0 (by grind),rfl,rfl⟩
 simp_all
def Mx(b:1<=o.C)(c:o.C<=8):∃g,lA s o=some g:=by
 have:o.C=1\/o.C=2\/o.C=3\/o.C=4\/o.C=5\/o.C=6\/o.C=7\/o.C=8:=by omega
 unfold lA mA;rcases this with a|a|a|a|a|a|a|a<;>simp[a]
def mL.mO{b:List Th}{S:Nat}(f:mL d S):mL (d++b) S:=by
 obtain⟨e,a,c,m,n,o,g,h,i,j⟩:=f;exact⟨e,a,c,m,n,o,Yf _ g,h,λl k=>Yf _ (i l k),j⟩
theorem EM{a:List Th}{S:Nat}(f:mL a S):mL (d++a) S:=by
 obtain⟨e,b,c,m,n,o,g,h,i,j⟩:=f;exact⟨e,b,c,m,n,o,Ym _ g,h,λl k=>Ym _ (i l k),j⟩
def vX(i:Nat)(h:Zw)(c:Nat)(b:Zw):Prop:=∃s j k f e d,aV (wL i s j k f e d) h b/\je c s/\∀S∈s.a3,mL d S
def PW(l:vX i h c b)(I:c<=16384)(o:cO)(u:ht o)(B:o.s.length<=16384)(a0:o.C<=10)(C:Gl h)(H:h.cell? (Zd 1 0)=some (ix 55))(J:o.C=10->gn h) :
  Calls prog 13 #[Zp i,.agg (cr o)] b λq t=>q=.returned (.bool true)/\vX i h (c+1) t:=by
 obtain⟨s,j,k,f,e,d,x,m,w⟩:=l;have v:=m.bp I;by_cases A:o.C=9
 .cases E:eE (aA (ea s o.a))with
  |error R=>
   refine(Qd x o u v A E C H).mono ?_;rintro q t ⟨rfl,n,p,l⟩;exact⟨rfl,s,n,p,f,e,d,l,m.up,w⟩
  |ok P=>
   refine(PZ x o u v A E C).mono ?_;rintro q t ⟨rfl,S,n,p,L,M,l,B⟩;refine⟨rfl,_,n,p,L,e,_,l,⟨m.up.ah,m.up.dl,m.up.aP,by have:=m.a3;simp_all,m.up.e4⟩,λF y=>?_⟩;rcases Yn.1 y with y|y
   .exact(w F y).mO
   grind [EM]
 by_cases r:o.C<=0\/o.C=10
 .by_cases z:s.a3=[]
  .refine(PQ x o u v r z).mono ?_;rintro q t ⟨rfl,n,p,l⟩;exact⟨rfl,s,n,p,f,e,d,l,m.up,w⟩
  rcases r with r|r
  .refine(PR x o u v r z).mono ?_;rintro q t ⟨rfl,n,p,l⟩;exact⟨rfl,s,n,p,f,e,d,l,m.up,w⟩
  .refine(PU x o u v r z w (J r)).mono ?_;rintro q t ⟨rfl,a1,n,p,l,K⟩;exact⟨rfl,_,n,p,f,e,d,l,m.a0 K,w⟩
 .obtain⟨g,D⟩:=Mx (s:=s) (o:=o) (by omega) (by omega);refine(PT x o u v D).mono ?_;rintro q t ⟨rfl,n,p,l⟩;obtain⟨G,N,O⟩:=m.m8 B D;exact⟨rfl,g,n,p,f,e,d,l,G,by simp_all⟩
def Sp(b:Zw):aV (wL b.heap.size ⟨[],[],[],0,0,0,[],[]⟩ (.slice none 0 0) (.slice none 0 0) (.slice none 0 0) (.slice none 0 0) []) b (b.alloc yP):=by
 have a:∀(d:TypeId) (e:Nat) (c:List Th),aV c b b->aV (.row d e (.slice none 0 0) 0 []::c) b b:=λd e c f=>f.cons (ak [] b) ⟨by simp,Y8 ⟨rfl,rfl⟩⟩ (λg h=>by grind [Th.ba,Value.ownBlock]);exact(a 9 1 _ (a 52 5 _ (a 37 1 _ (a 48 1 _ (tJ b))))).B yP
def ED{v:Zv}{l:List cO}{ks:List Int}{T:TypeId}(t:lh b v l)(x:∀o∈l,ht o)(J:∀o∈l,o.s.length<=1000000000000000000)(D:Gl b)(B:b.cell? (Zd 1 0)=some (ix 55))(K:(10:Int)∈ks->gn b)(H:∀q∈ks,q=9\/q=10)(p:ks.length<=100) :
  Calls prog 10 #[v,.slice (some ⟨b.heap.size,0,none⟩) ks.length ks.length] (b.alloc (.cells (ks.map (U)).toArray T)) λa M=>a=.returned (.bool true)/\am [] (b.alloc (.cells (ks.map (U)).toArray T)) M:=by
 have r:am [] b (b.alloc (.cells (ks.map (U)).toArray T)):=(ak [] b).B _;have A:(b.alloc (.cells (ks.map (U)).toArray T)).heap[b.heap.size]? = some (.cells (ks.map (U)).toArray T):=aS rfl;exact MF (kv:=.slice (some ⟨b.heap.size,0,none⟩) ks.length ks.length) (ks:=ks) (t.F r) J ⟨_,_,rfl,λP F=>⟨b.heap.size,rfl,aU A (by simp[F])⟩⟩ (by omega) (λm S R G y p z=>by
   have h:=r.u G;have E:=D.F h (by simp) (by simp) (by simp);have C:=hU B h;refine RU (vX m.heap.size m) y p ⟨_,_,_,_,_,_,Sp m,⟨by simp,by simp,by simp,by simp,by simp⟩,by simp⟩ (λc N i=>?_) (λc N o i O I=>?_)
   .obtain⟨s,j,k,f,e,d,L,_⟩:=i;exact L.fr
   .obtain⟨u,g,w⟩:=z o I;have n:o.C<=10/\(o.C=10->(10:Int)∈ks):=by
     rcases g with g|g
     .omega
     .exact⟨by have:=H _ g;omega,λa=>by simp_all⟩
    exact PW i (by omega) o (x o u) w n.1 E C (λa=>yz (K (n.2 a)) h))
def EG{v:Zv}{a:List cO}(c:lh b v a)(h:∀o∈a,ht o)(k:∀o∈a,o.s.length<=1000000000000000000)(j:Gl b)(i:b.cell? (Zd 1 0)=some (ix 55))(l:gn b) :
  Calls prog 4 #[v] b λg n=>g=.returned (.bool true)/\am [] b n:=by
 have f:=Z (ED (ks:=[9,10]) (T:=3) c h k j i (λ_=>l) (by simp) (by simp));have e:=Z ((ak [] b).B (.cells #[U 9,U 10] 3));obtain⟨ad,p,rfl,-⟩:=c;go_in;go_wp2_with fail;refine f.j.mono ?_;rintro q r ⟨rfl,m⟩;have d:=Z (e.j.u m);go_wp2;go_ret;exact⟨rfl,d.j⟩
end
end Go.Proofs.YtjdhaegijjednaaGreatDoor
namespace Go.Proofs.YtjdhaegijjednaaGreatDoor
open Go.ChangeShapes Go.WideShapes Go.ChangeAt Go.RowKit
open Go.Proofs.Tryz
section
variable {a:Zw}
def Mq:ownKnob prog.godebug=none:=by kernel_rfl
def In : Tryz.prog.globalNamed "strconv.ErrRange" = some 4 := by kernel_rfl
def Io : Tryz.prog.globalNamed "strconv.ErrSyntax" = some 3 := by kernel_rfl
def QI:(prog.globals[4]?).map (·.type)=some 55:=by kernel_rfl
def QK:(prog.globals[3]?).map (·.type)=some 55:=by kernel_rfl
def zF{e:String}{c:Nat}{b:Array Zv}{name:String}{f:DataW Unit}{k:List MemPlace}{g:Nat}(i:prog.globalNamed e=some c)(j:a.var? prog e=some b)
  (h:DataW.trod (λ_=>()) prog a 0 (λ_=>true) false g 55 b.toList=some (.iface name f,k)):∃m l,a.cell? (Zd c 0)=some (.iface m l):=by
 obtain⟨_,n,v,d,_,_⟩:=iface_of_trod underlying55 h
 refine⟨n,v,?_⟩;have:=World.var?_cell i j 0;obtain⟨o⟩:=b;simp only at d;subst d;simpa using this
def Il : Tryz.prog.globalNamed "errors.errorType" = some 1 := by kernel_rfl
def QJ : (Tryz.prog.cutTypes.find? (·.1 == "internal/reflectlite.rtype")).map (·.2) = some 407 := by kernel_rfl
def QG:((List.range prog.types.size).filter λa=>prog.rowNamed a [101,114,114,111,114])=[55]:=by kernel_rfl
abbrev ME : List (String × DataW Unit) := [("math/bits.deBruijn32tab", Rows.laid_math_bits_deBruijn32tab), ("math/bits.deBruijn64tab", Rows.laid_math_bits_deBruijn64tab), ("internal/strconv.uint64pow10", Rows.laid_internal_strconv_uint64pow10), ("strconv.ErrRange", Rows.laid_strconv_ErrRange), ("strconv.ErrSyntax", Rows.laid_strconv_ErrSyntax), ("marshal/fault.errInner", Rows.laid_marshal_fault_errInner)]
def xQ  (b : laidMetH Tryz.prog Rows.readsRow.laid a) : laidMet Tryz.prog ME a ∧ handlesMet Tryz.prog [("errors.errorType", Rows.laid_errors_errorType)] a := b
def Iw(e:laidMetH prog Rows.readsRow.laid a)(h:a.ShapedOpen prog):Gl a:=by
 have d:=(xQ e).1;obtain⟨a0,⟨w,a6,m,q,N,a1,E,H,K,B,⟨x,a7,n,r,O,a2,F,I,L,C,⟨y,a8,o,s,P,a3,G,J,M,D,⟨z,a9,p,u,R,a4,b,i,k,f,⟨A,b0,sa,v,S,a5,c,j,l,g,_,_⟩,_⟩,_⟩,_⟩,_⟩,_,_⟩:=d;obtain rfl:=YQ (In.symm.trans b);obtain rfl:=YQ (Io.symm.trans c);obtain rfl:=YQ (QI.symm.trans i);obtain rfl:=YQ (QK.symm.trans j);exact⟨cell_of_shapedOpen_int (zero:=#[U 0]) (t:=3) h (of_decide_eq_true (by kernel_rfl)) (by kernel_rfl) rfl (by kernel_rfl) (by kernel_rfl) underlying3,zF c l g,zF b k f⟩
def HB(i:laidMetH prog Rows.readsRow.laid a):a.cell? (Zd 1 0)=some (ix 55):=by
 obtain⟨name,m,l,d,e,f,g,b⟩:=(xQ i).2 _ (Yc.2 rfl);have h:name=[101,114,114,111,114]:=(YQ d).symm;subst h;obtain rfl:=YQ (QJ.symm.trans e);have c:l∈(List.range prog.types.size).filter λk=>prog.rowNamed k [101,114,114,111,114]:=List.mem_filter.2 ⟨List.mem_range.2 f,g⟩;rw[QG]at c;obtain rfl:=Yc.1 c;have j:typeHandle prog 55=nc 55:=by kernel_rfl
 rw[j]at b;simpa using World.var?_cell Il b 0
def Ho(a:Os)(args:Array Zv):laidMetH prog Rows.readsRow.laid ((World.doorLaid prog 88 a).forCall (λ_ _=>0) ⟨#[],args,[]⟩).memory:=
 laidMetH_of_parts3 (fuel:=8) (laidMet_of_run' 8 (by kernel_rfl) (by kernel_rfl)) (by kernel_rfl) (by kernel_rfl)
section
variable {c : Type} {b : TypeId × Zv -> c}
def JG{C:Checked}{n:Os}{i:FuncId}{f:Func}{h:ChangeSpec}{X:Zw->Array Zv->Prop}
  (y:∀(d w':Zw) (args:Array Zv),d.heap=w'.heap->X d args->X w' args)
  (R:ownKnob C.prog.godebug=none) (S:n.Started) (P:C.prog.inits.idxOf? i=none) (B:C.prog.funcs[i]? = some f)
  (a0:∃(d:Zw) (g:Tape) (e:Input),d.os=n/\(d.forCall g e).Shaped C.prog/\e.vars=[]/\Input.okWide C.prog (d.forCall g e) .any d.heap.size i e/\
   ((h.pre b C.prog f [] false (d.forCall g e).memory e.args/\X (d.forCall g e).memory e.args)/\sizedMet b C.prog f (OpenSpec.ofChange h) false (d.forCall g e).memory e.args)/\({}:Assume).holds C.prog (lone (Frame.enter C.prog i e.args .normal) [] (d.forCall g e)))
  (t:∀(a:Zw) (r:Nat) (args:Array Zv) (l m:List (DataW c)) (k:List MemPlace),
   (∀(p:Nat) q v,f.params[p]? = some q->args[p]? = some v->Value.okWide C.prog a .any r q v)->
   DataW.Whole b C.prog f.params.toList h.vars false a args.toList l m k->X a args->sizedMet b C.prog f (OpenSpec.ofChange h) false a args->a.ShapedOpen C.prog->
   Calls C.prog i args a λj o=>∃v,j=.returned v/\h.post b C.prog f false true false false a args v o) :
  ReturnsInHanded {} C n i .any (λd args=>(h.pre b C.prog f [] false d args/\X d args)/\sizedMet b C.prog f (OpenSpec.ofChange h) false d args) (h.post b C.prog f false true false false):=by
 refine returnsInHanded_of_calls R S P a0 ?_;intro d g e _ I _ E H _;obtain⟨_,_,_,w,D,_,_,_,_,J⟩:=E;have j:w=f:=YQ (D.symm.trans B);subst j;obtain⟨⟨⟨l,m,k,K,a1⟩,N⟩,O⟩:=H;have L:=DataW.Whole.of_heap (w':=d.forCall g e) (by rfl) K;obtain⟨G,u,x,s,M,z⟩:=O;refine(t (d.forCall g e) d.heap.size e.args l m k J L (y _ _ _ (by rfl) N) ⟨G,u,x,s,DataW.Whole.of_heap (w':=d.forCall g e) (by rfl) M,z⟩ I).mono λj o ⟨v,A,F⟩=>?_;subst A;exact ChangeSpec.post_blind F
end
def FE{b c:Zw}(a:am [] b c):Below b.heap.size b c:=⟨a.os,a.dX,a.dU,a.ar,λe d=>a.G e d (by simp)⟩
end
end Go.Proofs.YtjdhaegijjednaaGreatDoor
namespace Go.Proofs.YtjdhaegijjednaaGreatDoor
open Go.ChangeShapes Go.WideShapes
open Go.Proofs.Tryz
def JD:laidOutB prog=true:=by kernel_rfl
instance:Inhabited cO:=⟨⟨0,0,0,0,0,[]⟩⟩
def Kj{c:Type}{e g:Nat}{d:DataW c}:∀{b:List (DataW c)},d∈b->g∈DataW.weights prog e d->g∈DataW.weightsAll prog e b:=by
 intro b;induction b with
 |nil=>intro a;cases a
 |cons i b h=>
  intro a f;simp only[DataW.weightsAll,Yn];rcases Yg.1 a with rfl|a
  .exact Y8 f
  .exact Ya (h a f)
def Mk{I:Type}{b0:TypeId×Zv->I}{i:Zw}{v:Zv}{u:DataW I}{d9:List MemPlace}
  {a7:Nat} (c7:Value.okWide prog i .any a7 22 v) (b7:DataW.Trod b0 prog i 0 (λ_=>true) true 22 v u d9) (p:∀m∈DataW.weights prog 22 u,m<=reachBytes):∃A,lh i v A/\(∀q∈A,ht q)/\∀q∈A,q.s.length<=1000000000000000000:=by
 obtain⟨g3,a3⟩:=b7;obtain⟨J,e,r,rfl⟩:=okWide_slice underlying22 c7;rw[show (Value.slice J e r).cells.toList=[.slice J e r]from rfl]at a3;rcases Go.Deep.open_slice underlying22 a3 with⟨o,_⟩|⟨c,g2,f9,a4,m,n,f2,o,_,a2,c0,c5,c9,g⟩
 .simp only[List.cons.injEq,Value.slice.injEq,and_true]at o;obtain⟨rfl,rfl,rfl⟩:=o;exact⟨[],⟨none,0,rfl,Y4 _,YV _,λb a f=>by simp at f⟩,by simp,by simp⟩
 .simp only[List.cons.injEq,Value.slice.injEq,and_true]at o;obtain⟨rfl,rfl,rfl⟩:=o;have g1:e<=a4:=by rw[c5];simpa using a2
  have c2:u=.slice ((List.range e).map n) ((List.range (a4-e)).map λl=>n (e+l)):=Yo Prod.fst c9;have c8:∀d,d<e->∀m∈DataW.weights prog 27 (n d),m<=reachBytes:=by
   intro d w m c6;refine p m ?_;rw[c2];simp only[DataW.weights,underlying22];exact Y5 _ (Yf _ (Kj (YE.2 ⟨d,List.mem_range.2 w,rfl⟩) c6))
  have K:prog.cellsOf 27=6:=by kernel_rfl
  have a9:∀d,d<e->∃a:cO,c.spot=none/\rL i c.block (c.off+d*6) a/\ht a/\a.s.length<=1000000000000000000:=by
   intro d w;obtain⟨a8,a0,b8⟩:=g d (by omega);rw[K]at a0;obtain⟨_,c3,j⟩:=World.cells?_some a0;obtain⟨e5,b,f,d1,_,d0,k⟩:=DataW.trod_struct underlying27 b8;match e5,d0,a8,c3 with
   |[e6,e7,e8,e9,f0,f1],_,[r,f4,f5,f6,f7,f8],_=>
    have b1:=k 0 _ rfl;have b2:=k 1 _ rfl;have b3:=k 2 _ rfl;have b4:=k 3 _ rfl;have b5:=k 4 _ rfl;have b6:=k 5 _ rfl;obtain⟨d4,L,_,g4⟩:=DataW.trod_int underlying3 b1;obtain⟨d5,M,_,e1⟩:=DataW.trod_int underlying3 b2;obtain⟨d6,N,_,e2⟩:=DataW.trod_int underlying3 b3;obtain⟨d7,O,_,e3⟩:=DataW.trod_int underlying3 b4;obtain⟨d8,P,_,e4⟩:=DataW.trod_int underlying3 b5;obtain⟨B,R,e0,g5⟩:=DataW.trod_string underlying9 b6;have d2:prog.cellsOf 3=1:=by kernel_rfl
    have d3:prog.cellsOf 9=1:=by kernel_rfl
    simp[d2,d3]at L M N O P R;subst L M N O P R;have C:=j 0 (by omega);have D:=j 1 (by omega);have E:=j 2 (by omega);have F:=j 3 (by omega);have G:=j 4 (by omega);have H:=j 5 (by omega);rw[Go.Deep.add_add]at C D E F G H;simp only[List.getElem?_cons_zero,List.getElem?_cons_succ]at C D E F G H;have z:c.spot=none:=by
     obtain⟨f3,a1,_⟩:=g 0 (by omega);rw[K]at a1;obtain⟨_,g0,c1⟩:=World.cells?_some a1;have p:=c1 0 (by omega);rw[Go.Deep.add_add]at p;rw[Yd (by omega)]at p;exact World.cell?_spot (a:=c) (by simpa[Addr.add]using p)
    have h:∀l a,i.cell? (c.add l)=some a->i.cell? ⟨c.block,c.off+l,none⟩=some a:=by
     intro l a x;obtain⟨a6,q,g6⟩:=c;simp only at z;subst z;unfold Addr.add at x;by_cases S:l=0
     .subst S;simpa using x
     .simpa[S]using x
    refine⟨⟨d4,d5,d6,d7,d8,B.data.toList⟩,z,⟨h _ _ C,h _ _ D,h _ _ E,h _ _ F,h _ _ G,h _ _ H⟩,⟨bounds_i64 e1,bounds_i64 e2,bounds_i64 e3,bounds_i64 e4⟩,?_⟩;have b9:n d=.agg [e6.1,e7.1,e8.1,e9.1,f0.1,f1.1]:=Yo Prod.fst d1;have c4:B.data.toList.length∈DataW.weights prog 27 (n d):=by
     rw[b9,e0];simp only[DataW.weights,underlying27];simp[DataW.weightsEach,DataW.weights]
    have:=c8 d w _ c4;unfold reachBytes at this;show B.data.toList.length<=_;omega
  obtain⟨t,s⟩:=Go.Deep.choose_lt a9;have a5:∀a∈(List.range e).map t,∃b,b<e/\t b=a:=λa g=>by
   obtain⟨b,f,rfl⟩:=YE.1 g;exact⟨b,List.mem_range.1 f,rfl⟩
  refine⟨(List.range e).map t,⟨some c,r,by simp,by simpa using a2,c0,?_⟩,?_,?_⟩
  .intro b a f;have y:b<e:=by have:=(YB.1 f).1;simpa using this
   obtain rfl:t b=a:=by simpa[y]using f
   refine⟨c.block,c.off,?_,(s b y).2.1⟩;obtain⟨a6,q,h⟩:=c;have:=(s b y).1;simp only at this;subst this;rfl
  .intro a g;obtain⟨b,f,rfl⟩:=a5 a g;exact(s b f).2.2.1
  .intro a g;obtain⟨b,f,rfl⟩:=a5 a g;exact(s b f).2.2.2
end Go.Proofs.YtjdhaegijjednaaGreatDoor
namespace Go.Proofs.YtjdhaegijjednaaGreatDoor
open Go.Proofs.Tryz
def MN:joinedFacts Tryz.pinned.checked.prog 4 Tryz.f4 Rows.printsSpec Rows.printsRow=true:=by
 unfold joinedFacts;simp only[Bool.and_eq_true];repeat' apply Yp
 all_goals (as_aux_lemma=>kernel_rfl)
def MV:Rows.printsRow.wfByText (OpenSpec.ofChange Rows.printsSpec)=true:=by kernel_rfl
def MS:Tryz.pinned.checked.prog.mainIs=some (Rows.printsCard.stood.harness.1,Rows.printsCard.stood.harness.2.toList):=by kernel_rfl
def MO:Tryz.pinned.checked.prog.funcNamed Rows.printsRow.func=some 4:=by kernel_rfl
def MR:true=Tryz.pinned.checked.prog.looks []:=by kernel_rfl
def MU:Tryz.pinned.checked.prog.wantsStandIn 22=false:=by kernel_rfl
def MP:false=Rows.printsRow.goesBy Tryz.pinned.checked.prog:=by kernel_rfl
end Go.Proofs.YtjdhaegijjednaaGreatDoor
namespace Go.Proofs.YtjdhaegijjednaaGreatDoor
open Go.ChangeShapes Go.WideShapes Go.ChangeAt Go.RowKit
open Go.ChangeMaps (open_string shut_string)
open Go.Proofs.Tryz
def Im : Tryz.prog.globalNamed "internal/strconv.uint64pow10" = some 5 := by kernel_rfl
def QH:(prog.globals[5]?).map (·.type)=some 486:=by kernel_rfl
def MH{a:Zw}(e:laidMetH prog Rows.readsRow.laid a):gn a:=by
 have d:=(xQ e).1;obtain⟨D,⟨q,H,m,o,B,E,v,x,z,t,⟨r,I,n,p,C,F,w,y,A,u,⟨s,J,b,c,k,G,h,i,j,g,_,_⟩,_⟩,_⟩,_,_⟩:=d;obtain rfl:=YQ (Im.symm.trans h);obtain rfl:=YQ (QH.symm.trans i);have f:DataW.trod (λ_=>()) prog a 0 (λ_=>true) false c 486 b.toList=some (Lib.tabData .u64 Lib.pow10Tab,k):=g
 show a.var? Tryz.prog "internal/strconv.uint64pow10" = some (Lib.pow10Tab.map fun l => Value.int .u64 l).toArray
 rw[j,<-Lib.cells_of_tab underlying486 underlying421 (by kernel_rfl) (by kernel_rfl) f]
def MQ(os:Os)(a4:os.Started)(r:Type)(enc:TypeId×Zv->r) :
  ReturnsInHanded {} Tryz.checked os 4 .any (λa args=>(Rows.printsSpec.pre enc prog Tryz.f4 [] false a args/\laidMetH prog Rows.printsRow.laid a)/\sizedMet enc prog Tryz.f4 (OpenSpec.ofChange Rows.printsSpec) false a args)
   (Rows.printsSpec.post enc prog Tryz.f4 false true false false):=by
 refine JG (C:=Tryz.checked) (X:=λa _=>laidMetH prog Rows.printsRow.laid a) (λ_ _ _ H d=>d.of_heap H) Mq a4 (by kernel_rfl) func4
  (ChangeSpec.witness_shaped (enc:=enc) (C:=Tryz.checked) (os:=os) (X:=λa _=>laidMetH prog Rows.printsRow.laid a) false (World.doorLaid prog 88 os) #[.slice none 0 0] 8 rfl (World.shaped_of_RefB (by kernel_rfl) (by kernel_rfl)) (by kernel_rfl) (by kernel_rfl) (by kernel_rfl) (Ho os _)) ?_
 intro b s args u b4 a9 n k e E N;have m:∀(o:Nat) q v,Tryz.f4.params[o]? = some q->args[o]? = some v->Value.okWide prog b .any s q v:=n;have D:=k;obtain⟨S,c1,i,B,rfl,b7,b8⟩:=k;have h:DataW.TrodAll enc prog b 0 (λ_=>true) true Tryz.f4.params.toList args.toList u S:=i;rw[params4]at h m;obtain⟨c,c5,b0,b1,a0,c2,b6,rfl,rfl,x,a2⟩:=trodAll_cons h;obtain⟨rfl,rfl,rfl⟩:=trodAll_nil a2;obtain rfl:args=#[c]:=by cases args;simp_all
 obtain⟨rfl,rfl⟩:=trodVars_none B;have p:=x;have P:∀a6∈a0,a6.block<b.heap.size:=by obtain⟨R,K⟩:=p;exact DataW.trod_lt R _ _ _ K
 obtain⟨_,w,b5,a8,⟨a1,c3,A,_⟩,l⟩:=E;have j:DataW.TrodAll enc prog b 0 (λ_=>true) true Tryz.f4.params.toList [c] w a1:=A;rw[params4]at j;obtain⟨a5,c6,t,b2,c0,c4,F,rfl,rfl,y,a3⟩:=trodAll_cons j;obtain⟨rfl,rfl,rfl⟩:=trodAll_nil a3;obtain rfl:c=a5:=by simpa using F
 rw[params4]at l;have O:∀f∈DataW.weights prog 22 t,f<=reachBytes:=λf L=>by
  have:=List.all_eq_true.1 l f (by simp only[YX,YT,DataW.weightsEach];exact Yf _ L);simpa using this
 obtain⟨b9,J,z,M⟩:=Mk (m 0 22 c rfl rfl) y O;clear i n;refine(EG J z M (Iw e N) (HB e) (MH e)).mono λb3 a7 ⟨G,I⟩=>?_;subst G;have g:=FE I;exact⟨_,rfl,_,_,_,[],_,[],D,trodAll_mk1 (shut_bool underlying4 _),(trodAll_cons_mk (Below.trod JD (by kernel_rfl) (of_decide_eq_true (by kernel_rfl)) p g P) trodAll_mk0),rfl,g.frame _,λd=>by cases d⟩
def MT:Rows.PrintsSaid:=
 OpenClaim.holds_of_wide 4 Tryz.f4 rfl rfl rfl rfl rfl rfl rfl ⟨rfl,rfl,rfl,rfl,rfl⟩ rfl rfl rfl rfl rfl (by kernel_rfl) func4 MN
  (of_decide_eq_true (by kernel_rfl)) (by unfold Func.isWrapper;rw[Y2 (of_decide_eq_false (by kernel_rfl))];exact⟨rfl,rfl⟩)
  (λc d a b _=>MQ c d a b)
theorem prints_card:Rows.PrintsCardSaid:=
 Claim7.holds_tied_plain_at .later [] Rows.printsCard.laidKinds true Rows.printsCard.stood.harness true
  MT (λ_ a=>by cases a) MV (λ_ a=>by cases a) prints_row_tie rfl ⟨rfl,rfl⟩ MS rfl
  (λc d e f=>by
   obtain rfl:c=4:=YQ (MO.symm.trans e) |>.symm;obtain rfl:d=Tryz.f4:=(YQ (func4.symm.trans f)).symm;exact⟨MR,λi h b=>by
    rw[params4]at b;have g:h∈[22]:=by simpa using Array.mem_of_getElem? b
    rw[Yc.1 g];exact MU⟩)
  MP
end Go.Proofs.YtjdhaegijjednaaGreatDoor
