import Derived.Test.YtjdhaegijjednaaGreatDoorT4
import Derived.Test.YtjdhaegijjednaaGreatDoorProg
import Derived.WalkKit
import Derived.LaidEql
import Derived.Stop.Asserts
import Derived.RowKitTokens
set_option linter.all false
set_option maxRecDepth 100000
set_option maxHeartbeats 4000000
namespace Go.Proofs.YtjdhaegijjednaaGreatDoor
open Go.RowKit
open Go.Proofs.Tryz
section
variable {all:Bool}{i:Int}{r:be}{h:Ty}{j o τ:Type}
variable {t : List UInt8} {st n : St} {a p q σ1 σ2 : ac} {g b : br} {f : Mar.a5}
def Q.ix(b:Q t g st a):5<=a.y.length:=by
 obtain⟨d,c⟩:=b.e2;rw[c,Yq];simp[jR]
def dz.lt{c:List be}(n:5<=c.length)(a:dz c h i):i<c.length:=by
 have e:∀{r:be},0<=i->c[i.toNat]? = some r->i<c.length:=λd b=>by
  have:i.toNat<c.length:=by
   rcases Yj i.toNat c.length with g|g
   .exact g
   .rw[YA g]at b;cases b
  omega
 cases h with
 |plain o=>have:=a.1;have:=a.2;omega
 |named p m=>obtain⟨d,r,b,-⟩:=a;exact e d b
 |opaq j f=>exact e a.1 a.2
 |str j f=>exact e a.1 a.2
 |arr l j f=>obtain⟨d,k,b,-⟩:=a;exact e d b
 |opt l=>obtain⟨d,k,b,-⟩:=a;exact e d b
 |void=>have:i = -1:=a;omega
def Q.nz(b:Q t g st a)(j:ut (max a.y.length 5) r):Q t { g with rf:=g.rf++if r.H=14 then [(r.ca,r.w)]else [] } st (bK r a):=by
 refine⟨b.e,b.wd,b.nl,b.pd,b.nm.cF [r],b.L,b.cn,b.pg,?_,?_,b.ou,b.pr,by show ki (a.y++[r])=_;rw[NF,b.fq],b.f8⟩
 .obtain⟨k,h⟩:=b.e2;exact⟨k++[r],by show a.y++[r]=_;rw[h,YN]⟩
 .intro i l c;rcases Yj i a.y.length with d|d
  .rw[show (bK r a).y=a.y++[r]from rfl,Ys d]at c;exact b.cP i l c
  .rw[show (bK r a).y=a.y++[r]from rfl,Yw d]at c;match f:i-a.y.length with
   |0=>
    rw[f]at c;simp at c;subst c;have:i=a.y.length:=by omega
    rw[this];exact j
   |m+1=>rw[f]at c;simp at c
def Q.row(b:Q t g st a)(d:ut (max a.y.length 5) r)(c:r.H≠14):Q t g st (bK r a):=by
 have:=b.nz d;rw[Y2 c,YH]at this;exact this
def mu(a:ac)(r:be):(bK r a).y[((a.y.length:Nat):Int).toNat]? = some r:=by
 show (a.y++[r])[_]? = _;simp
def wY(a:Int)(f:Bool):List UInt8:=if f then [91]++bC a++[93]else [60]++bC a++[62]
def pL:Ty->List UInt8
 |.opaq _ _=>[111,112,97,113,117,101,32]
 |.str _ _=>[115,116,114,105,110,103,32]
 |.arr a _ _=>ik a++[32]
 |.opt a=>ik a++[32,42]
 |h=>ik h++[32]
def uA:Ty->List UInt8
 |.opaq a f=>wY a f
 |.str a _=>wY a false
 |.arr _ a f=>wY a f
 |_=>[]
def sF(h:Ty):Prop:=(∃a,h=.plain a/\a<=4)\/∃c b,h=.named c b
def sF.d5(a:sF h):pL h=ik h++[32]/\uA h=[]:=by
 rcases a with⟨c,rfl,-⟩|⟨d,b,rfl⟩<;>exact⟨rfl,rfl⟩
def sF.h4{b:List be}(a:sF h)(r:dz b h i):0<=i:=by
 rcases a with⟨d,rfl,-⟩|⟨e,c,rfl⟩
 .have:=r.1;omega
 .exact r.1
def Ew(f:Mar.a5)(a:ac):Prop:=Er f a\/Bd f a
def Sw(t:List UInt8)(c:j->br->Prop)(r:Except Mar.a5 (j×St))(a:ac):Prop:=match r with
 |.ok (d,n)=>∃b,Q t b n a/\c d b
 |.error f=>Ew f a
def Sy(t:List UInt8)(c:j->τ->br->Prop)(r:Except Mar.a5 (j×τ×St))(a:ac):Prop:=match r with
 |.ok (d,e,n)=>∃b,Q t b n a/\c d e b
 |.error f=>Ew f a
def qU{c:j->τ->br->Prop}{r:Except Mar.a5 (j×τ×St)}(b:Sx t c r a):Sy t c r a:=by
 unfold Sx at b;split at b
 .exact b
 .exact Y8 b
def wM{g:j->τ->br->Prop}{R':o->τ->br->Prop}{c:PX τ j}{k:j->PX τ o}{e:τ}(a:Sx t g (c e st) σ1)(r:aN σ1 σ2)(q:∀h l n b,Q t b n σ1->g h l b->Sy t R' (k h l n) σ2):Sy t R' (aw c k e st) σ2:=by
 unfold aw;cases i:c e st with
 |ok d=>rw[i]at a;obtain⟨b,m,p⟩:=a;exact q d.1 d.2.1 d.2.2 b m p
 |error f=>rw[i]at a;exact Y8 (Er.b4 a r)
def wN{g:j->τ->br->Prop}{h:o->τ->br->Prop}{c:PX τ j}{l:j->PX τ o}{e:τ}(a:Sy t g (c e st) σ1)(u:aN σ1 σ2)(r:∀f,Bd f σ1->Er f σ2)(s:∀i m n b,Q t b n σ1->g i m b->Sx t h (l i m n) σ2):Sx t h (aw c l e st) σ2:=by
 unfold aw;cases k:c e st with
 |ok d=>rw[k]at a;obtain⟨b,p,q⟩:=a;exact s d.1 d.2.1 d.2.2 b p q
 |error f=>
  rw[k]at a;rcases a with a|a
  .exact Er.b4 a u
  .exact r f a
def zQ{d:j->br->Prop}{e:o->br->Prop}{c:PM j}{i:j->PM o}(a:Sw t d (c st) σ1)(r:aN σ1 σ2)(p:∀f,Bd f σ1->Er f σ2)(q:∀g n b,Q t b n σ1->d g b->S t e (i g n) σ2):S t e (av c i st) σ2:=by
 unfold av;cases h:c st with
 |ok k=>rw[h]at a;obtain⟨b,l,m⟩:=a;exact q k.1 k.2 b l m
 |error f=>
  rw[h]at a;rcases a with a|a
  .exact Er.b4 a r
  .exact p f a
def zP{d:j->br->Prop}{c:PM j}{g:τ}(a:Sw t d (c st) σ1):Sy t (λh l b=>d h b/\l=g) (lift c g st) σ1:=by
 unfold lift;cases e:c st with
 |ok m=>rw[e]at a;obtain⟨b,i,k⟩:=a;exact⟨b,i,k,rfl⟩
 |error f=>rw[e]at a;exact a
def Bd.H(b:Bd f a):Er f (ci t a).2:=by
 unfold ci;have c:∀d,¬(a.s.x.H=2/\a.s.x.text=d):=λd g=>by rw[b.k]at g;omega
 rw[Y2 (by simpa using b.e),Y2 (by rw[b.k];omega),Y2 (c _),Y2 (c _),Y2 (c _),Y2 (c _)];exact b.hQ
def Dj(p:Q t g st a):Sw t (λh b=>b=g.cZ (cg h)/\sF h/\dz (ci t a).2.y h (ci t a).1.1/\(ci t a).1.2=ik h) (kl (ap t) st) (ci t a).2:=by
 unfold kl av;rcases pk t st with⟨i,M,k⟩|⟨f,k⟩
 .rw[mn k];have G:=p.wd;rw[k]at G;obtain⟨⟨C,y,O,F,P⟩,J⟩:=G;have q:=p.e0 k;unfold hL ci;rw[Y2 (by simpa using p.e)];have e:∀z,Mar.e3 z=true->((a.s.x.H=2/\a.s.x.text=z)↔(i.text==z)=true):=λz L=>by
   rw[C,y];simp only[beq_iff_eq];exact⟨λd=>d.2,λd=>⟨J.j1 (by rw[d];exact L),d⟩⟩
  simp only;by_cases E:i.H=1
  .rw[Y9 (c:=((i.H:Int)==1)=true) (by rw[E];rfl),Y9 (c:=a.s.x.H=1) (by rw[C];exact E)];have K:=q.nz (r:=nB a.s.x.text a.s.x.w) ⟨by simp[nB]<;>omega,by simp[nB],by simp[nB]<;>omega,by simp[nB]⟩;refine⟨_,K,by simp[br.cZ,cg,nB,y,F],Ya ⟨_,_,rfl⟩,⟨by simp,_,mu _ _,rfl,y,by show ((a.s.x.w:Nat):Int)=_;rw[F]⟩,y⟩
  .rw[Y2 (c:=((i.H:Int)==1)=true) (by simp;omega),Y2 (c:=a.s.x.H=1) (by rw[C];exact E)];by_cases s:(i.text==[105,110,116])=true
   .rw[Y9 s,Y9 ((e _ (by decide)).2 s)];exact⟨g,q,(kW g).symm,Y8 ⟨0,rfl,by omega⟩,⟨rfl,by omega⟩,rfl⟩
   .rw[Y2 s,Y2 (λd=>s ((e _ (by decide)).1 d))];by_cases u:(i.text==[104,121,112,101,114])=true
    .rw[Y9 u,Y9 ((e _ (by decide)).2 u)];exact⟨g,q,(kW g).symm,Y8 ⟨2,rfl,by omega⟩,⟨rfl,by omega⟩,rfl⟩
    .rw[Y2 u,Y2 (λd=>u ((e _ (by decide)).1 d))];by_cases v:(i.text==[98,111,111,108])=true
     .rw[Y9 v,Y9 ((e _ (by decide)).2 v)];exact⟨g,q,(kW g).symm,Y8 ⟨4,rfl,by omega⟩,⟨rfl,by omega⟩,rfl⟩
     .rw[Y2 v,Y2 (λd=>v ((e _ (by decide)).1 d))];by_cases w:(i.text==[117,110,115,105,103,110,101,100])=true
      .rw[Y9 w,Y9 ((e _ (by decide)).2 w)];unfold iJ;rcases iz q (kd:=2) (l:=[104,121,112,101,114]) (by decide)with⟨I,n,j⟩|⟨H,n,j,A⟩|⟨H,n,j,A⟩
       .unfold av;rw[n,Y2 (by rw[j.is (by omega)];simp),Y2 (by rw[j.is (by omega)];simp)];exact Ya j
       .unfold av;rw[n,Y9 j];exact⟨g,A,(kW g).symm,Y8 ⟨3,rfl,by omega⟩,⟨rfl,by omega⟩,rfl⟩
       .rw[Y2 (by rw[j];simp)];have d:∀(D:Bool->PM Ty),av (da (ap t) [104,121,112,101,114]) D { st with w:=M,nx:=none } = D false H:=λD=>by unfold av;rw[n]
        rw[d];simp only[Ye,if_false]
        unfold av;rcases iz A (kd:=2) (l:=[105,110,116]) (by decide)with⟨I,o,m⟩|⟨N,o,m,B⟩|⟨N,o,m,B⟩
        .rw[o,Y2 (by rw[m.is (by omega)];simp)];exact Ya m
        .rw[o,Y9 m];exact⟨g,B,(kW g).symm,Y8 ⟨1,rfl,by omega⟩,⟨rfl,by omega⟩,rfl⟩
        .rw[o,Y2 (by rw[m];simp)];exact⟨g,B,(kW g).symm,Y8 ⟨1,rfl,by omega⟩,⟨rfl,by omega⟩,rfl⟩
      .rw[Y2 w,Y2 (λd=>w ((e _ (by decide)).1 d))];exact Y8 (p.hk k)
 .rw[ny k];exact Y8 (p.bd k).H
def Bd.oc(c:Bd f a):Er f (bq t false a).2:=by
 have b:=c.i2 (t:=t) (kd:=4) (l:=[60]) (by omega);unfold bq;rw[Y2 (by simp)];rw[Y2 (by rw[tj b.e1];simp)];exact(b.b4 (hc _ _ _)).b4 (aP _ _ _)
def Dk(m:Q t g st a):S t (λh b=>b=g/\h=((bq t false a).1,false)) (nt (ap t) st) (bq t false a).2:=by
 unfold nt bq;rw[Y2 (by simp)];simp only;have n:=eN m (kd:=4) (l:=[60]) (by decide);generalize ab t 4 [60] a=σ1 at *
 have p:aN σ1 (if ay σ1 4 [62]=true then ((4294967295:Int),ab t 4 [62] σ1)else ((aW t 0 4294967295 σ1).1.1,ab t 4 [62] (aW t 0 4294967295 σ1).2)).2:=by
  split
  .exact aP _ _ _
  .exact(hc _ _ _).u (aP _ _ _)
 refine fe n p ?_;rintro v u j q ⟨rfl,-⟩;rcases iz q (kd:=4) (l:=[62]) (by decide)with⟨y,d,c⟩|⟨i,d,c,e⟩|⟨i,d,c,e⟩
 .unfold av;rw[d,Y2 (by rw[c.is (by omega)];simp)];exact(c.i1 0 4294967295).b4 (aP _ _ _)
 .unfold av;rw[d,Y9 c,mH c];exact⟨j,e,rfl,rfl⟩
 .have k:∀(f:Bool->PM (Int×Bool)),av (da (ap t) [62]) f u=f false i:=λf=>by unfold av;rw[d]
  rw[k,Y2 (by rw[c];simp)];refine fe (tS e 0 4294967295) (aP _ _ _) ?_;rintro h z w r ⟨rfl,o,-⟩;refine fe (eN r (kd:=4) (l:=[62]) (by decide)) (ee _) ?_;rintro v A x s ⟨rfl,-⟩;exact S.ret s ⟨rfl,by rw[o]⟩
def Dg(m:Q t g st a)(c:ay a 4 [91]=true):S t (λi b=>b=g/\i=((bq t true a).1,true)) (jS (ap t) st) (bq t true a).2:=by
 unfold jS bq;rw[Y9 rfl];simp only;rw[mH c];rcases iz m (kd:=4) (l:=[91]) (by decide)with⟨s,e,d⟩|⟨j,e,d,h⟩|⟨j,e,d,h⟩
 .rw[d.is (by omega)]at c;cases c
 .have k:∀(f:Bool->PM (Int×Bool)),av (da (ap t) [91]) f st=f true j:=λf=>by unfold av;rw[e]
  rw[k];refine fe (tS h 1 1000) (aP _ _ _) ?_;rintro i u q o ⟨rfl,n,-⟩;refine fe (eN o (kd:=4) (l:=[93]) (by decide)) (ee _) ?_;rintro w v r p ⟨rfl,-⟩;exact S.ret p ⟨rfl,by rw[n]⟩
 .rw[d]at c;cases c
def Df(k:Q t g st a)(h:ay a 4 [91]=false):S t (λm b=>b=g/\m=((bq t false a).1,false)) (jS (ap t) st) (bq t false a).2:=by
 unfold jS;rcases iz k (kd:=4) (l:=[91]) (by decide)with⟨n,c,d⟩|⟨i,c,d,f⟩|⟨i,c,d,f⟩
 .unfold av;rw[c];exact d.oc
 .rw[d]at h;cases h
 .have j:∀(e:Bool->PM (Int×Bool)),av (da (ap t) [91]) e st=e false i:=λe=>by unfold av;rw[c]
  rw[j];exact Dk f
structure so(d:aG)(r:jh)(a:ac):Prop where
 x:r.x.text=d.t
 w:r.x.w=d.w
 d5:r.d5=pL d.L
 fA:r.fA=uA d.L
 i8:dz a.y d.L r.r
 h4:0<=r.r
def DB(b:List (List UInt8))(all d:Bool)(a:ac):aN (bW t b all (aJ t a)).2 (gt t b all d a).2:=by
 unfold gt;generalize bW t b all (aJ t a)=r;by_cases c:ay r.2 4 [91]=true/\d=true
 .rw[Y9 c];exact(kQ _ _).u (fu _ _)
 .rw[Y2 c];exact(kQ _ _).u (fu _ _)
def Dv(g:List (List UInt8))(all:Bool)(a:ac):aN (ci t a).2 (gq t g all a).2:=by
 unfold gq;generalize ci t a=c;by_cases d:ay c.2 4 [42]=true
 .rw[Y9 d];exact(ha _).u ((lL _ _ _).u (fu _ _))
 .rw[Y2 d];generalize h:bW t g all c.2=r;have b:aN c.2 r.2:=by rw[<-h];exact lL _ _ _
  by_cases e:ay r.2 4 [91]=true
  .rw[Y9 e];exact b.u ((kQ _ _).u (fu _ _))
  .rw[Y2 e];by_cases f:ay r.2 4 [60]=true
   .rw[Y9 f];exact b.u ((kQ _ _).u (fu _ _))
   .rw[Y2 f];exact b
def Bd.k9(c:Bd f a)(b:List (List UInt8))(all:Bool):Er f (gq t b all a).2:=(c.H (t:=t)).b4 (Dv b all a)
def HM(d:List (List UInt8))(all:Bool)(c:Bd f (ci t a).2):Er f (gq t d all a).2:=by
 unfold gq;rw[Y2 (by rw[c.is (by omega)];simp)];have b:=c.kr (t:=t) d all;rw[Y2 (by rw[tj b.e1];simp),Y2 (by rw[tj b.e1];simp)];exact b
def Bd.kx(b:Bd f a)(c:List (List UInt8))(all:Bool):Er f (bR t c all a).2:=by
 unfold bR;rw[Y2 (by rw[b.is (by omega),b.is (by omega)];simp)];exact b.k9 c all
abbrev uf(τ:Type):=List (List UInt8×Nat)->(List UInt8×Nat)->τ->br->Prop
abbrev ED(τ:Type):=(List UInt8×Nat)->τ->br->Prop
def qE(t:List UInt8)(e:cN τ)(h:τ)(d:List (List UInt8))(all:Bool)(g:br)(f:ED τ):Prop:=
 ∀st a,Q t g st a->Sx t (λc i b=>f c i b/\(bW t d all a).1.text=c.1/\(bW t d all a).1.w=c.2) (name (ap t) e h st) (bW t d all a).2
def Ph{h:cN τ}{n:τ}{c:List (List UInt8)}{i:uf τ}(s:qE t h n c all g (i []))(w:Q t g st (aJ t a))(l:a.s.x.text=[111,112,97,113,117,101])(v:ay a 2 [115,116,114,105,110,103]=false) :
  Sx t (λd z b=>i (cg d.L) (d.t,d.w) z b/\so d (gt t c all true a).1 (gt t c all true a).2) (ol (ap t) h true n st) (gt t c all true a).2:=by
 refine eO (s _ _ w) (DB _ _ _ _) ?_;rintro D E F C m ⟨j,o,p⟩;unfold gt;simp only[and_true];generalize bW t c all (aJ t a)=r at *
 have k:aN r.2 (if ay r.2 4 [91]=true then ((⟨(bq t true r.2).2.y.length,a.s.x.text++[32],[91]++bC (bq t true r.2).1++[93],r.1⟩:jh),bK (ek 6 (bq t true r.2).1) (bq t true r.2).2)else ((⟨(bq t false r.2).2.y.length,a.s.x.text++[32],[60]++bC (bq t false r.2).1++[62],r.1⟩:jh),bK (ek (if ay a 2 [115,116,114,105,110,103]=true then 8 else 7) (bq t false r.2).1) (bq t false r.2).2)).2:=by
  split
  .exact(kQ _ _).u (fu _ _)
  .exact(kQ _ _).u (fu _ _)
 by_cases e:ay r.2 4 [91]=true
 .simp only[Y9 e]at k ⊢;refine eO (gj (Dg m e)) (fu _ _) ?_;rintro y A B q f ⟨⟨rfl,rfl⟩,rfl⟩;refine⟨_,f.row ⟨by simp[ek]<;>omega,by simp[ek],by simp[ek]<;>omega,by simp[ek]<;>split<;>simp⟩ (by simp only[ek,ne_eq];first|decide|(split<;>decide)),j,?_⟩;exact⟨o,p,by rw[l];rfl,rfl,⟨by simp,mu _ _⟩,by simp⟩
 .have u:ay r.2 4 [91]=false:=by simpa using e
  simp only[Y2 e]at k ⊢;refine eO (gj (Df m u)) (fu _ _) ?_;rintro y A B q f ⟨⟨rfl,rfl⟩,rfl⟩;refine⟨_,f.row ⟨by simp[ek]<;>omega,by simp[ek],by simp[ek]<;>omega,by simp[ek]<;>split<;>simp⟩ (by simp only[ek,ne_eq];first|decide|(split<;>decide)),j,?_⟩;rw[Y2 (by rw[v];simp)];exact⟨o,p,by rw[l];rfl,rfl,⟨by simp,mu _ _⟩,by simp⟩
def Pi{e:cN τ}{h:τ}{d:List (List UInt8)}{f:uf τ}(j:qE t e h d all g (f []))(l:Q t g st (aJ t a))(m:a.s.x.text=[115,116,114,105,110,103])(k:ay a 2 [115,116,114,105,110,103]=true) :
  Sx t (λc p b=>f (cg c.L) (c.t,c.w) p b/\so c (gt t d all false a).1 (gt t d all false a).2) (na (ap t) e true h st) (gt t d all false a).2:=by
 refine eO (j _ _ l) (DB _ _ _ _) ?_;rintro v y A s n ⟨i,q,r⟩;unfold gt;simp only[Ye,and_false,if_false]
 refine eO (gj (Dk n)) (fu _ _) ?_;rintro w z B u o ⟨⟨rfl,rfl⟩,rfl⟩;refine⟨_,o.row ⟨by simp[ek]<;>omega,by simp[ek],by simp[ek]<;>omega,by simp[ek]<;>split<;>simp⟩ (by simp only[ek,ne_eq];first|decide|(split<;>decide)),i,?_⟩;rw[Y9 k];exact⟨q,r,by rw[m];rfl,rfl,⟨by simp,mu _ _⟩,by simp⟩
def dz.al(b:dz a.y h i)(d:cz a p):dz p.y h i:=by
 obtain⟨e,c,-⟩:=d.y;rw[c];exact b.cF e
def Pf{H:cN τ}{a0:τ}{e:List (List UInt8)}{I:uf τ}(K:∀R,qE t H a0 e all (g.cZ R) (I R))(a3:Q t g st a) :
  Sy t (λx a8 b=>I (cg x.L) (x.t,x.w) a8 b/\so x (gq t e all a).1 (gq t e all a).2) (na (ap t) H false a0 st) (gq t e all a).2:=by
 unfold na;rw[Y2 (by simp)];have h:=Dj a3;unfold aw lift;cases N:kl (ap t) st with
 |error f=>
  rw[N]at h;rcases h with h|h
  .exact Y8 (h.b4 (Dv e all a))
  .exact Y8 (HM e all h)
 |ok O=>
  rw[N]at h;obtain⟨b4,P,rfl,A,G,s⟩:=h;simp only at P A G s ⊢;unfold pE;unfold gq;generalize ci t a=d at *
  unfold aw lift;rcases iz P (kd:=4) (l:=[42]) (by decide)with⟨J,n,j⟩|⟨a9,n,j,C⟩|⟨a9,n,j,C⟩
  .rw[n,Y2 (c:=ay d.2 4 [42]=true) (by rw[j.is (by omega)];simp)];have F:=j.kr (t:=t) e all;rw[Y2 (c:=ay (bW t e all d.2).2 4 [91]=true) (by rw[tj F.e1];simp),Y2 (c:=ay (bW t e all d.2).2 4 [60]=true) (by rw[tj F.e1];simp)];exact Y8 F
  .rw[n,Y9 j];refine qU (eO (K _ _ _ C) (fu _ _) ?_);rintro a7 b0 b2 a1 B ⟨p,v,w⟩;have y:=((eD (t:=t) d.2).u (gZ (t:=t) e all _)).al;have i:=G.al y;have M:=i.lt B.ix;refine Sx.ret (B.row ⟨by simp[dI]<;>omega,by simp[dI],by simp[dI]<;>omega,by simp[dI]⟩ (by simp[dI])) ⟨p,v,w,?_,rfl,⟨by simp,_,mu _ _,i.cF _⟩,by simp⟩;simp only[pL];rw[s]
  .rw[n,Y2 (c:=ay d.2 4 [42]=true) (by rw[j];simp)];generalize a5:bW t e all d.2=r;have a6:aN r.2 (if ay r.2 4 [91]=true then ((⟨(bq t true r.2).2.y.length,d.1.2++[32],[91]++bC (bq t true r.2).1++[93],r.1⟩:jh),bK (dI 9 (bq t true r.2).1 d.1.1) (bq t true r.2).2)
     else if ay r.2 4 [60]=true then ((⟨(bq t false r.2).2.y.length,d.1.2++[32],[60]++bC (bq t false r.2).1++[62],r.1⟩:jh),bK (dI 10 (bq t false r.2).1 d.1.1) (bq t false r.2).2)
     else ((⟨d.1.1,d.1.2++[32],[],r.1⟩:jh),r.2)).2:=by
    split
    .exact(kQ _ _).u (fu _ _)
    .split
     .exact(kQ _ _).u (fu _ _)
     .exact ee _
   have L:=K _ _ _ C;have y:=(gZ (t:=t) e all d.2).al;have i:=G.al y;rw[a5]at L y i;refine wM L a6 ?_;rintro a7 b0 b2 a1 B ⟨p,v,w⟩;unfold om aw lift;rcases vY B (kd:=4) (l:=[91]) (by decide)with⟨J,D,k⟩|⟨b5,D,k⟩
   .rw[D,Y2 (c:=ay r.2 4 [91]=true) (by rw[k.is (by omega)];simp),Y2 (c:=ay r.2 4 [60]=true) (by rw[k.is (by omega)];simp)];exact Ya k
   .rw[D];simp only;unfold pF;by_cases m:ay r.2 4 [91]=true
    .rw[Y9 m,Y9 m];refine qU (eO (gj (Dg k m)) (fu _ _) ?_);rintro O b1 b3 a2 u ⟨⟨rfl,rfl⟩,rfl⟩;have q:=i.al (mx (t:=t) true r.2).al;have M:=q.lt u.ix;exact Sx.ret (u.row ⟨by simp[dI]<;>omega,by simp[dI],by simp[dI]<;>omega,by simp[dI]⟩ (by simp[dI])) ⟨p,v,w,by simp only[pL];rw[s],rfl,⟨by simp,_,mu _ _,q.cF _⟩,by simp⟩
    .rw[Y2 m,Y2 m];have a4:ay r.2 4 [91]=false:=by simpa using m
     unfold aw lift;rcases vY k (kd:=4) (l:=[60]) (by decide)with⟨J,E,o⟩|⟨b6,E,o⟩
     .rw[E,Y2 (c:=ay r.2 4 [60]=true) (by rw[o.is (by omega)];simp)];exact Ya o
     .rw[E];simp only;unfold pG;by_cases z:ay r.2 4 [60]=true
      .rw[Y9 z,Y9 z];refine qU (eO (gj (Df o a4)) (fu _ _) ?_);rintro O b1 b3 a2 u ⟨⟨rfl,rfl⟩,rfl⟩;have q:=i.al (mx (t:=t) false r.2).al;have M:=q.lt u.ix;exact Sx.ret (u.row ⟨by simp[dI]<;>omega,by simp[dI],by simp[dI]<;>omega,by simp[dI]⟩ (by simp[dI])) ⟨p,v,w,by simp only[pL];rw[s],rfl,⟨by simp,_,mu _ _,q.cF _⟩,by simp⟩
      .rw[Y2 z,Y2 z];exact⟨_,o,p,v,w,by rw[A.d5.1,s],A.d5.2.symm,i,A.h4 i⟩
def yO{o:cN τ}{q:τ}{e:List (List UInt8)}{G:uf τ}(n:∀p,qE t o q e all (g.cZ p) (G p))(s:Q t g st a) :
  Sy t (λi v b=>G (cg i.L) (i.t,i.w) v b/\so i (bR t e all a).1 (bR t e all a).2) (dZ (ap t) o q st) (bR t e all a).2:=by
 unfold dZ bR aw lift;rcases iz s (kd:=2) (l:=[111,112,97,113,117,101]) (by decide)with⟨r,f,c⟩|⟨w,f,c,k⟩|⟨w,f,c,k⟩
 .rw[f,Y2 (by rw[c.is (by omega),c.is (by omega)];simp)];exact Y8 (c.k9 e all)
 .rw[f,Y9 (Y8 c)];have j:a.s.x.text=[111,112,97,113,117,101]:=by unfold ay hD at c;simp at c;exact c.2.2
  have u:ay a 2 [115,116,114,105,110,103]=false:=by unfold ay hD;rw[j];simp
  rw[c];exact qU (Ph (by have:=n [];rw[kW]at this;exact this) k j u)
 .rw[f];unfold ol;simp only[Ye,if_false]
  unfold aw lift;rcases iz k (kd:=2) (l:=[115,116,114,105,110,103]) (by decide)with⟨r,h,d⟩|⟨y,h,d,m⟩|⟨y,h,d,m⟩
  .rw[h,Y2 (by rw[d.is (by omega),d.is (by omega)];simp)];exact Y8 (d.k9 e all)
  .rw[h,Y9 (Ya d)];have j:a.s.x.text=[115,116,114,105,110,103]:=by unfold ay hD at d;simp at d;exact d.2.2
   rw[c];exact qU (Pi (by have:=n [];rw[kW]at this;exact this) m j d)
  .rw[h,Y2 (by rw[c,d];simp)];exact Pf n m
def Ak(d:List (List UInt8))(e f:Nat):qE t (aT e f) d d false g (λi h b=>b=g/\h=d++[i.1]):=λst a j=>(we j d e f).af λi h b c=>⟨⟨c.1,c.2.2.2⟩,c.2.1,c.2.2.1⟩
end
section
variable {a i g:Nat}{d:ao}{j:PM ao}{nl:Nl}{r:df}{q:Type}
variable {t : List UInt8} {st p : St} {f u w x y : ac} {E h : br} {m : Mar.a5}
def BB(nl:Nl)(b a:List UInt8)(d:ao)(m:(az nl b).isSome):az (cM nl b d) a=if a=b then some (some d)else az nl a:=by
 unfold az cM at *
 induction nl with
 |nil=>simp at m
 |cons g nl f=>
  by_cases j:g.1=b
  .have h:(g.1==b)=true:=by simpa using j
   by_cases e:a=b
   .rw[Y9 e,e];simp only[List.map_cons,List.find?,h,if_true]
    rfl
   .rw[Y2 e];have o:(g.1==a)=false:=by simp;rw[j];exact λn=>e n.symm
    simp only[List.map_cons,List.find?,h,if_true,o]
    clear f m;induction nl with
    |nil=>rfl
    |cons i nl f=>
     by_cases c:i.1=a
     .have l:(i.1==b)=false:=by simp;rw[c];exact e
      have k:(i.1==a)=true:=by simpa using c
      simp only[List.map_cons,List.find?,l,k,Ye,if_false]
     .have k:(i.1==a)=false:=by simpa using c
      by_cases l:(i.1==b)=true
      .simp only[List.map_cons,List.find?,l,if_true,k];exact f
      .simp only[List.map_cons,List.find?,l,Ye,if_false,k];exact f
  .have h:(g.1==b)=false:=by simpa using j
   have f:=f (by simpa[List.find?,h]using m);by_cases c:(g.1==a)=true
   .have e:a≠b:=by simp at c;rw[<-c];exact j
    rw[Y2 e];simp only[List.map_cons,List.find?,h,c,Ye,if_false]
   .simp only[List.map_cons,List.find?,h,Ye,if_false,c]
    exact f
def Bt{a:List UInt8}(d:ao)(c:az nl a=some none):Kp nl (cM nl a d):=λf g b=>by
 rw[BB nl a f d (by rw[c];rfl)];by_cases e:f=a
 .rw[e,c]at b;cases b
 .rw[Y2 e];exact b
def ir.bQ{p:List be}{u:List df}(j:ir p nl u){a:List UInt8}(z:az nl a=some none)(k:nl[i]? = some (a,none))(y:ph p (cM nl a d) (a,some d) r):ir p (cM nl a d) (u.set i r):=by
 have A:=Bt d z;have n:i<nl.length:=by
  rcases Yj i nl.length with e|e
  .exact e
  .rw[YA e]at k;cases k
 refine⟨by simp[cM,j.bc],?_,by rw[CX];exact j.nd⟩;intro c g B b h;unfold cM at b;rw[List.getElem?_map]at b;rw[YP]at h;by_cases m:i=c
 .subst m;rw[k]at b;rw[Y9 rfl,Y9 (by rw[j.bc];exact n)]at h;simp at b h;subst b;subst h;exact y
 .rw[Y2 m]at h;cases f:nl[c]? with
  |none=>rw[f]at b;cases b
  |some o=>
   rw[f]at b;have x:o.1≠a:=by
    intro w;have t:c<nl.length:=by
     rcases Yj c nl.length with e|e
     .exact e
     .rw[YA e]at f;cases f
    have v:=List.pairwise_iff_getElem.1 j.nd;have q:(nl.map (·.1))[i]'(by simpa using n)=a:=by
     have:(nl.map (·.1))[i]? = some a:=by rw[List.getElem?_map,k];rfl
     simpa[Yd n]using this
    have s:(nl.map (·.1))[c]'(by simpa using t)=a:=by
     have:(nl.map (·.1))[c]? = some a:=by rw[List.getElem?_map,f];simp[w]
     simpa[Yd t]using this
    rcases Nat.lt_or_gt_of_ne m with l|l
    .exact v i c _ _ l (q.trans s.symm)
    .exact v c i _ _ l (s.trans q.symm)
   have:(o.1==a)=false:=by simpa using x
   simp only[Option.map_some,this,Ye,if_false,Yu]at b
   subst b;simpa using (j.hs c o B f h).cF [] A
abbrev br.bQ(E:br)(a:List UInt8)(d:ao):br:={ E with nl:=cM E.nl a d }
def xA(d:Q t E st f){a:List UInt8}(b:az E.nl a=some none):∃(i:Nat) (r:df),bA f a=(i:Int)/\E.nl[i]? = some (a,none)/\f.F[i]? = some r/\r.s=a:=by
 rcases d.i6 a with⟨c,-⟩|⟨i,k,r,c,e,g,h,j⟩
 .rw[c]at b;cases b
 .rw[c]at b;cases b
  exact⟨i,r,e,g,h,j.1⟩
def Q.m1(b:Q t E st f){s:List UInt8}(a:Nat)(v:Int)(g:az E.nl s=some none)(c:E.pd=[])(m:E.dc=1):Q t { E.bQ s (.const s a v)with dc:=0 } { st with F:=cM st.F s (.const s a v) } (dB s v f):=by
 obtain⟨i,r,d,e,j,k⟩:=xA b g;have l:st.F=E.nl:=by rw[b.nl,c];simp
 have h:dB s v f = { gw f i 0 v with a1:=f.a1+1 }:=by
  unfold dB;rw[Y9 (by rw[d];omega),d];rfl
 rw[h];refine⟨b.e,b.wd,?_,Y8 c,?_,b.L,?_,b.pg,b.e2,b.cP,b.ou,b.pr,b.fq,b.f8.bQ e _ _⟩
 .show cM st.F s _=cM E.nl s _++E.pd;rw[l,c,YH]
 .refine b.nm.bQ g e ⟨?_,rfl,rfl⟩;simp[j,k]
 .have:=b.cn;show f.a1+1+((0:Nat):Int)=st.a1;omega
def At(c:List UInt8)(a:Nat)(b:List df):Prop:=∃r∈b,r.s=c/\r.w=a
def At.cF{c:List UInt8}{b:List df}(d:At c a b)(j:List df):At c a (b++j):=by
 obtain⟨r,e,f⟩:=d;exact⟨r,Yf _ e,f⟩
def Ev{h:List UInt8}{b:List df}(k:At h a b)(i:Nat)(j n:Int):At h a (b.set i { b.getD i gW with bb:=j,n:=n }):=by
 obtain⟨r,l,e,f⟩:=k;obtain⟨d,c,rfl⟩:=List.mem_iff_getElem.1 l;by_cases g:i=d
 .subst g;refine⟨{ b[i]with bb:=j,n:=n },?_,e,f⟩;rw[List.mem_iff_getElem];exact⟨i,by simpa using c,by simp[c]⟩
 .refine⟨b[d],?_,e,f⟩;rw[List.mem_iff_getElem];exact⟨d,by simpa using c,by simp[g]⟩
def At.px{m:List UInt8}(n:At m a f.F)(l:Q t E st f)(c:f.F[i]? = some r)(k:r.s=m):r.w=a:=by
 obtain⟨s,o,h,p⟩:=n;obtain⟨d,j,rfl⟩:=List.mem_iff_getElem.1 o;have g:i<f.F.length:=by
  rcases Yj i f.F.length with b|b
  .exact b
  .rw[YA b]at c;cases c
 rw[Yd g]at c;cases c
 have e:(f.F.map (·.s)).Nodup:=by rw[l.nm.lp];exact l.nm.nd
 have e:=List.pairwise_iff_getElem.1 e;have q:i=d:=by
  rcases Nat.lt_trichotomy i d with b|b|b
  .exact(e i d (by simpa using g) (by simpa using j) b (by simp[k,h])).elim
  .exact b
  .exact(e d i (by simpa using j) (by simpa using g) b (by simp[k,h])).elim
 subst q;exact p
def Q.l3(b:Q t E st f){c:List UInt8}{n:Int}(s:az E.nl c=some none)(l:E.pd=[])(e:At c (bB d).2 f.F)(q:iX d=true)(j:pq f.y (cM E.nl c d) d n):Q t (E.bQ c d) { st with F:=cM st.F c d } (cY c n f):=by
 obtain⟨i,r,m,o,k,p⟩:=xA b s;have v:st.F=E.nl:=by rw[b.nl,l];simp
 have e:=e.px b k p;have u:cY c n f=gw f i 1 n:=by
  unfold cY;rw[Y9 (by rw[m];omega),m];rfl
 rw[u];refine⟨b.e,b.wd,?_,Y8 l,?_,b.L,b.cn,b.pg,b.e2,b.cP,b.ou,b.pr,b.fq,b.f8.bQ o _ _⟩
 .show cM st.F c _=cM E.nl c _++E.pd;rw[v,l,YH]
 .refine b.nm.bQ s o ⟨by simp[k,p],?_⟩;have w:{ f.F.getD i gW with bb:=1,n:=n } = { r with bb:=1,n:=n }:=by simp[k]
  rw[w];cases d with
  |const a g h=>simp[iX]at q
  |prog a g h d=>simp[iX]at q
  |typedef d=>exact⟨rfl,e,j⟩
  |enum a g h=>exact⟨rfl,e,j⟩
  |struct a g h=>exact⟨rfl,e,j⟩
  |union a g h d=>exact⟨rfl,e,j⟩
def Q.cv(a:Q t E st f)(o:List UInt8):Q t { E with o:=E.o++o } st (dW o f):=⟨a.e,a.wd,a.nl,a.pd,a.nm,a.L,a.cn,a.pg,a.e2,a.cP,by show f.j++o=_;rw[a.ou],a.pr,a.fq,a.f8⟩
def Bd.et(a:Bd m f)(d j:Int):Er m (ar d j f):=by
 have b:=a.hQ;unfold ar;rw[Y9 ⟨a.e,a.k⟩];unfold iW;rw[Y2 (λc=>b.e1 c.1)];exact b
def Q.et{h:Mar.bi}(e:Q t E st f)(i:eb t st.w st.nx=.ok (h,g))(d j:Int):ar d j f=if j<=d then bp 5 h.w f else f:=by
 have b:=e.wd;rw[i]at b;have:=b.2.e6;unfold ar;rw[Y2 (λc=>by have:=c.2;rw[b.1.1]at this;omega)];unfold iW;by_cases a:j<=d
 .rw[Y9 a,Y9 ⟨e.e,a⟩,b.1.2.2.2.1]
 .rw[Y2 a,Y2 (λc=>a c.2)]
def qp{a:List UInt8}(c:az nl a=none):cM (nl++[(a,none)]) a d=nl++[(a,some d)]:=by
 unfold cM;rw[List.map_append];congr 1
 .have e:=uY c;conv=>rhs;rw[<-List.map_id nl]
  apply List.map_congr_left;intro g f;have:(g.1==a)=false:=by
   simp only[Yi];exact λb=>e (YE.2 ⟨g,f,b⟩)
  simp[this]
 .simp
def hY(j:PM ao):PM ao:=av j λd=>av (CW d) λ_=>bT d
def ow(a:j st=.ok (d,p)):hY j st=.ok (d,{ p with F:=cM p.F (bB d).1 d }):=by
 unfold hY av;rw[a];rfl
def hZ(a:j st=.error m):hY j st=.error m:=by
 unfold hY av;rw[a]
def LP(c:¬40<=st.a1)(a:Nat)(b:Unit->PM q):av (iD a) b st=b () { st with a1:=st.a1+1 }:=by
 unfold av iD;rw[Y2 c]
def vv(c:¬24<=st.ae)(a:Nat)(b:Unit->PM q):av (iE a) b st=b () { st with ae:=st.ae+1 }:=by
 unfold av iE;rw[Y2 c]
def vu(b:24<=st.ae)(a:Nat)(c:Unit->PM q):av (iE a) c st=.error ⟨5,a⟩:=by
 unfold av iE;rw[Y9 b]
structure pf(E h:br)(d:ao)(o:List UInt8)(ps:List bj):Prop where
 pd:h.pd=[]
 dc:h.dc=0
 fz:h.fz=E.fz
 o:h.o=E.o++o
 ps:h.ps=E.ps++ps
 rf:h.rf=E.rf++(gn d).map λg=>(g.1,(g.2:Int))
 nl:∃cs:Nl,h.nl=E.nl++((bB d).1,some d)::cs/\∀c∈cs,∃a b v,c.2=some (.const a b v)
def xl(a:List UInt8)(v:Int):List UInt8:=[99,111,110,115,116,32]++a++[32,61,32]++bC v++[59,10]
def Pc{j:Mar.bi}(k:Q t E st f)(q:E.pd=[])(C:E.dc=0)(w:eb t st.w st.nx=.ok (j,g))(D:ay f 2 [99,111,110,115,116]=true) :
  S t (λd h=>∃c a v,d=.const c a v/\pf E h d (xl c v) []) (hY (iB (ap t) j.w) { st with w:=g,nx:=none }) (fO t f):=by
 have b:=k.e0 w;have o:=k.et w f.a1 40;have a0:=k.cn;by_cases u:40<=st.a1
 .rw[Y9 (by omega)]at o;have i:iB (ap t) j.w { st with w:=g,nx:=none } = .error ⟨5,j.w⟩:=by
   unfold iB av iD;rw[Y9 u]
  rw[hZ i];have:=Qg (t:=t) f;rw[o]at this;exact(k.es (e:=5) (a:=j.w) (by omega)).b4 this
 .rw[Y2 (by omega)]at o;have G:Q t { E with dc:=1 } { st with w:=g,nx:=none,a1:=st.a1+1 } (ab t 2 [99,111,110,115,116] (ar f.a1 40 f)):=by
   rw[o,mH D];exact⟨b.e,b.wd,b.nl,b.pd,b.nm,b.L,by have:=b.cn;rw[C]at this;show _+((1:Nat):Int)=((st.a1+1:Nat):Int);simp at this;omega,b.pg,b.e2,b.cP,b.ou,b.pr,b.fq,b.f8⟩
  unfold fO;generalize ab t 2 [99,111,110,115,116] (ar f.a1 40 f)=r at *
  have i:S t (λd h=>∃c a v,d=.const c a v/\h = { E with dc:=1,nl:=E.nl++[(c,none)] }/\az E.nl c=none/\(aH t 2 r).1.text=c/\(aW t (-2147483648) 4294967295 (ab t 4 [61] (aH t 2 r).2)).1.1=v) (iB (ap t) j.w { st with w:=g,nx:=none }) (ab t 4 [59] (aW t (-2147483648) 4294967295 (ab t 4 [61] (aH t 2 r).2)).2):=by
   unfold iB;rw[LP (st:={ st with w:=g,nx:=none }) u];refine fe (rU G q) ((aP _ _ _).u ((hc _ _ _).u (aP _ _ _))) ?_;rintro x a2 y p ⟨rfl,L,-,M,-⟩;refine fe (eN p (kd:=4) (l:=[61]) (by decide)) ((hc _ _ _).u (aP _ _ _)) ?_;rintro K a3 O H ⟨rfl,-⟩;refine fe (tS H (-2147483648) 4294967295) (aP _ _ _) ?_;rintro v a4 P I ⟨rfl,N,-⟩;refine fe (eN I (kd:=4) (l:=[59]) (by decide)) (ee _) ?_;rintro K a5 R J ⟨rfl,-⟩;exact S.ret J ⟨x.1,x.2,v.1,rfl,rfl,M,L,by rw[N]⟩
  cases n:iB (ap t) j.w { st with w:=g,nx:=none }with
  |error m=>
   rw[n]at i;rw[hZ n,Y9 i.e1];exact i
  |ok a1=>
   rw[n]at i;obtain⟨y,p,c,a,v,B,rfl,s,z,A⟩:=i;rw[ow n,Y2 (by simpa using p.e),z,A];rw[B];have F:=(p.m1 a v (by rw[nr _ _ _ s,Y9 rfl]) q rfl).cv (xl c v);exact⟨_,F,c,a,v,rfl,⟨q,rfl,rfl,rfl,by simp,by simp[gn],[],by show cM (E.nl++[(c,none)]) c _=_;rw[qp s];rfl,by simp⟩⟩
def Gj(A:E.pd=[]):qE t (fP mo) () [] true E (λw _ h=>h = { E with pd:=[(w.1,none)] }/\az E.nl w.1=none):=λst f k=>by
 unfold name aw lift;rcases pk t st with⟨b,g,j⟩|⟨m,j⟩
 .rw[mn j];simp only;by_cases p:b.H=1
  .obtain⟨x,y,d⟩:=zq k j p;rw[Y9 (by rw[p];rfl)];have c:=k.e0 j;have z:az E.nl b.text=none/\bA (aJ t f) b.text<0\/(∃n,az E.nl b.text=some n)/\0<=bA (aJ t f) b.text:=by
    rcases c.i6 b.text with e|⟨i,n,r,e,q,-⟩
    .exact Y8 e
    .exact Ya ⟨⟨n,e⟩,by omega⟩
   have u:st.F=E.nl:=by rw[k.nl,A];simp
   have B:(fP mo).ba b () { st with w:=g,nx:=none } = match az E.nl b.text with
     |none=>.ok ((),(),{ st with w:=g,nx:=none,F:=E.nl++[(b.text,none)] })
     |some _=>.error ⟨6,b.w⟩:=by
    show lift (gc b) () { st with w:=g,nx:=none } = _;unfold lift gc;rw[show az ({ st with w:=g,nx:=none }:St).F b.text=az E.nl b.text by rw[<-u]];cases az E.nl b.text with
    |none=>simp only[u]
    |some n=>rfl
   rw[B];unfold bW;simp only[if_true]
   rw[d,x,y];rcases z with⟨e,q⟩|⟨⟨n,e⟩,q⟩
   .rw[e];have o:decide (0<=bA (aJ t f) b.text)=false:=by simp;omega
    rw[Y2 (λl=>by rw[o]at l;exact absurd l.2 (by simp))];refine⟨{ E with pd:=[(b.text,none)] },⟨by rw[d];exact c.e,by rw[d];exact c.wd,rfl,Ya ⟨_,rfl,e⟩,by rw[d];exact c.nm,by rw[d];exact c.L,by rw[d];exact c.cn,by rw[d];exact c.pg,by rw[d];exact c.e2,by rw[d];exact c.cP,by rw[d];exact c.ou,by rw[d];exact c.pr,by rw[d];exact c.fq,by rw[d];exact c.f8⟩,⟨rfl,e⟩,x,y⟩
   .rw[e];have o:decide (0<=bA (aJ t f) b.text)=true:=by simp;omega
    rw[Y9 ⟨c.e,o⟩];exact c.es (e:=6) (a:=b.w) (by omega)
  .rw[Y2 (by simp;omega)];have v:=zt k j p;have s:=k.hk j;have:(bW t [] true f).2=dd f:=by
    unfold bW;simp only;rw[v,Y2 (λl=>s.e1 l.1)];exact v
   rw[this];exact s
 .rw[ny j];exact(k.bd j).kr [] true
end
section
variable {nl:Nl}{o:Option ao}{b:Nat}
variable {t : List UInt8} {st f : St} {σ g h i j : ac} {E c : br} {d : Mar.a5}
def Kb(nl:Nl)(c a:List UInt8)(o:Option ao)(e:az nl c=none):az (nl++[(c,o)]) a=if a=c then some o else az nl a:=by
 unfold az at *
 rw[List.find?_append];by_cases d:a=c
 .subst d;cases f:nl.find? (λb=>b.1==a)with
  |none=>simp
  |some h=>rw[f]at e;simp at e
 .rw[Y2 d];cases f:nl.find? (λb=>b.1==a)with
  |none=>
   have:(c==a)=false:=by simp;exact λg=>d g.symm
   simp[this]
  |some h=>simp
def JF{a:List UInt8}(c:az nl a=none):Kp nl (nl++[(a,o)]):=λe f b=>by
 rw[Kb nl a e o c];by_cases d:e=a
 .rw[d,c]at b;cases b
 .rw[Y2 d];exact b
def ir.q1{h:List be}{l:List df}(c:ir h nl l){f:List UInt8}{n:df}(j:az nl f=none)(q:ph h (nl++[(f,o)]) (f,o) n):ir h (nl++[(f,o)]) (l++[n]):=by
 refine⟨by simp[c.bc],?_,?_⟩
 .intro g b s a d;rcases Yj g nl.length with e|e
  .rw[Ys e]at a;rw[Ys (by rw[c.bc];exact e)]at d;have:=(c.hs g b s a d).cF [] (JF (o:=o) j);simpa using this
  .rw[Yw e]at a;rw[Yw (by rw[c.bc];exact e),c.bc]at d;match i:g-nl.length with
   |0=>
    rw[i]at a d;simp at a d;subst a;subst d;exact q
   |m+1=>rw[i]at a;simp at a
 .rw[List.map_append,YJ];refine⟨c.nd,by simp,?_⟩;intro t r u k;simp at k;subst k;exact λp=>uY j (p▸r)
def gh(σ:ac):ac:={ ar σ.ae 24 σ with ae:=(ar σ.ae 24 σ).ae+1 }
def vM{h:Mar.bi}(c:Q t E st σ)(f:eb t st.w st.nx=.ok (h,b)){kw:List UInt8}(g:ay σ 2 kw=true)(i:¬24<=st.ae):Q t E { st with w:=b,nx:=none,ae:=st.ae+1 } (ab t 2 kw (gh σ)):=by
 have a:=c.e0 f;have d:=c.et f σ.ae 24;have j:=c.L;rw[Y2 (by omega)]at d;unfold gh;rw[d,mH (σ:={ σ with ae:=σ.ae+1 }) g];exact⟨a.e,a.wd,a.nl,a.pd,a.nm,by show σ.ae+1=((st.ae+1:Nat):Int);omega,a.cn,a.pg,a.e2,a.cP,a.ou,a.pr,a.fq,a.f8⟩
def vN{d:Mar.bi}(c:Q t E st σ)(g:eb t st.w st.nx=.ok (d,b))(h:24<=st.ae):Er ⟨5,d.w⟩ (gh σ):=by
 have f:=c.et g σ.ae 24;have i:=c.L;rw[Y9 (by omega)]at f;have:=c.es (e:=5) (a:=d.w) (by omega);unfold gh;rw[f];exact⟨this.e,this.a,this.z⟩
def zh(a:aG):List UInt8:=[116,121,112,101,100,101,102,32]++pL a.L++a.t++uA a.L++[59,10]
def Ps{m:Mar.bi}(F:Q t E st σ)(v:E.pd=[])(J:E.dc=0)(H:eb t st.w st.nx=.ok (m,b))(K:ay σ 2 [116,121,112,101,100,101,102]=true) :
  S t (λh c=>∃D,h=.typedef D/\pf E c h (zh D) []) (hY (iI (ap t) m.w) { st with w:=b,nx:=none }) (gi t (gh σ)):=by
 by_cases s:24<=st.ae
 .have p:iI (ap t) m.w { st with w:=b,nx:=none } = .error ⟨5,m.w⟩:=vu (st:={ st with w:=b,nx:=none }) s _ _;rw[hZ p];exact(vN F H s).b4 (Qn _)
 .have M:=vM F H K s;have p:iI (ap t) m.w { st with w:=b,nx:=none } = av (md (ap t)) (λh=>av (bV (ap t) [59]) λ_=>bT (.typedef h)) { st with w:=b,nx:=none,ae:=st.ae+1 }:=vv (st:={ st with w:=b,nx:=none }) s _ _;unfold gi;simp only;generalize ab t 2 [116,121,112,101,100,101,102] (gh σ)=O at *
  have g:=yO (G:=λB I _ c=>c = { E.cZ B with pd:=[(I.1,none)] }/\az E.nl I.1=none) (λB=>Gj (E:=E.cZ B) v) M;generalize bR t [] true O=f at *
  cases n:dZ (ap t) (fP mo) () { st with w:=b,nx:=none,ae:=st.ae+1 }with
  |error d=>
   rw[n]at g;have q:iI (ap t) m.w { st with w:=b,nx:=none } = .error d:=by
    rw[p];unfold av md hV;rw[n]
   rw[hZ q];rcases g with g|g
   .rw[Y9 g.e1];exact g
   .rw[Y2 (by simpa using g.e)];have x:Bd d { f.2 with F:=f.2.F++[⟨f.1.x.text,1,f.1.r,f.1.x.w⟩] }:=⟨g.e,g.k,g.n,g.a,g.z⟩;exact(x.i2 (t:=t) (kd:=4) (l:=[59]) (by omega)).b4 (mB _ _)
  |ok A=>
   obtain⟨h,a0,N⟩:=A;rw[n]at g;obtain⟨P,w,⟨rfl,y⟩,ok⟩:=g;rw[Y2 (by simpa using w.e)];have j:=eN w (kd:=4) (l:=[59]) (by decide);cases u:bV (ap t) [59] N with
   |error d=>
    rw[u]at j;have j:Er d (ab t 4 [59] f.2):=j;have q:iI (ap t) m.w { st with w:=b,nx:=none } = .error d:=by
     rw[p];unfold av md hV;rw[n];simp only;rw[u]
    rw[hZ q];have x:Er d (ab t 4 [59] { f.2 with F:=f.2.F++[⟨f.1.x.text,1,f.1.r,f.1.x.w⟩] }):=⟨j.e,j.a,j.z⟩;exact x.b4 (mB _ _)
   |ok A=>
    obtain⟨a1,C⟩:=A;rw[u]at j;obtain⟨R,i,rfl,-⟩:=j;have q:iI (ap t) m.w { st with w:=b,nx:=none } = .ok (.typedef h,C):=by
     rw[p];unfold av md hV;rw[n];simp only;rw[u];rfl
    rw[ow q];have L:C.F=E.nl++[(h.t,none)]:=i.nl;simp only at y;refine⟨{ E.cZ (cg h.L)with nl:=E.nl++[(h.t,some (.typedef h))],o:=E.o++zh h },?_,h,rfl,⟨v,J,rfl,rfl,by simp[br.cZ],rfl,[],rfl,by simp⟩⟩;refine⟨i.e,i.wd,?_,Y8 v,?_,i.L,i.cn,i.pg,i.e2,i.cP,?_,i.pr,i.fq,i.f8.hj i.nm.bc _ _⟩
    .show cM C.F h.t _=_++E.pd;rw[L,qp y,v,YH]
    .show ir f.2.y _ (f.2.F++[_]);refine w.nm.q1 y ⟨ok.x,rfl,?_,ok.i8,ok.h4⟩;show ((f.1.x.w:Nat):Int)=_;rw[ok.w];rfl
    .show f.2.j++_=_;have:=w.ou;rw[this,ok.d5,ok.fA,ok.x];rfl
def wb(n:Q t E st σ)(g:List (Int×Int))(f:List Int)(k:g.map (·.1)=f)(d b:Int) :
  Sx t (λh l c=>c=E/\h=(aW t d b σ).1.1/\l.map (·.1)=f++[h]/\l.length=g.length+1/\dj d b h=true) (fU (ap t) (dj d b) g st) (if(aW t d b σ).2.s.e=0/\f.contains (aW t d b σ).1.1=true then bp 6 (aW t d b σ).1.2 (aW t d b σ).2 else (aW t d b σ).2):=by
 unfold fU;have q:=tS n d b;generalize aW t d b σ=v at *
 refine eO (gj q) (kk _ _ _ _) ?_;rintro m u w r i ⟨⟨rfl,o,p⟩,rfl⟩;unfold aw lI kE;dsimp only;rw[k,o];simp only;by_cases e:f.contains m.1=true
 .rw[Y9 e,Y9 ⟨i.e,e⟩];exact i.es (e:=6) (a:=m.2) (by omega)
 .rw[Y2 e,Y2 (λj=>e j.2)];exact⟨_,i,rfl,rfl,by simp[k],by simp,p⟩
def jz(a:List UInt8×Nat×Int):List UInt8:=a.1++[32,61,32]++bC a.2.2
def iY(t:List UInt8)(a:Nat)(σ:ac):ef×ac:=aH t 2 (ar (ar a 12 σ).a1 40 (ar a 12 σ))
def gH(t:List UInt8)(a:Nat)(σ:ac):(Int×Int)×ac:=aW t (-2147483648) 2147483647 (ab t 4 [61] (iY t a σ).2)
def fi(t:List UInt8)(a:List Int)(σ:ac):ac:=if(gH t a.length σ).2.s.e=0/\a.contains (gH t a.length σ).1.1=true then bp 6 (gH t a.length σ).1.2 (gH t a.length σ).2 else (gH t a.length σ).2
def fD(t:List UInt8)(a:List Int)(σ:ac):ac:=if(fi t a σ).s.e≠0 then fi t a σ else dB (iY t a.length σ).1.text (gH t a.length σ).1.1 (fi t a σ)
def Dz(a:List Int)(σ:ac):aN (ar a.length 12 σ) (fi t a σ):=by
 unfold fi;refine aN.u ?_ (kk _ _ _ _);unfold gH iY;exact(Dw _ _ _).u ((oK _ _).u ((aP _ _ _).u (hc _ _ _)))
def rX(a:List Int)(σ:ac):aN (fi t a σ) (fD t a σ):=by
 unfold fD;split
 .exact ee _
 .exact Dy _ _ _
def Pg(n:Q t E st σ)(z:E.pd=[])(P:E.dc=0)(l:List (Int×Int))(e:List Int)(a0:l.map (·.1)=e)(j:List UInt8×Nat)(x:az E.nl j.1=some none)(D:At j.1 j.2 σ.F) :
  Sx t (λf a1 c=>e.length<12/\(iY t e.length σ).1.text=f.1/\(gH t e.length σ).1.1=f.2.2/\a1.map (·.1)=e++[f.2.2]/\(fi t e σ).s.e=0/\c.pd=[]/\c.dc=0/\c.fz=E.fz/\c.o=E.o/\c.ps=E.ps/\c.rf=E.rf/\c.nl=E.nl++[(f.1,some (.const f.1 f.2.1 f.2.2))]/\az c.nl j.1=some none/\At j.1 j.2 (fD t e σ).F/\dj (-2147483648) 2147483647 f.2.2=true) (ie (ap t) e.length l st) (fD t e σ):=by
 unfold ie;rcases pk t st with⟨h,b,p⟩|⟨d,p⟩
 .have q:=n.et p e.length 12;have m:∀{k:Type} (g:Mar.bi->PX (List (Int×Int)) k),aw (lift (fL (ap t))) g l st=g h l { st with w:=b,nx:=some h }:=λg=>by
   unfold aw lift;rw[qg p]
  rw[m];have i:=n.hH p;by_cases A:12<=e.length
  .rw[Y9 (by omega)]at q;unfold aw lift ej;rw[Y9 A];have:=Dz (t:=t) e σ;rw[q]at this;exact((n.es (e:=5) (a:=h.w) (by omega)).b4 this).b4 (rX _ _)
  .rw[Y2 (by omega)]at q;have L:∀{k:Type} (g:Unit->PX (List (Int×Int)) k),aw (lift (ej e.length 12 h.w)) g l { st with w:=b,nx:=some h } = g () l { st with w:=b,nx:=some h }:=λg=>by
    unfold aw lift ej;rw[Y2 A]
   rw[L];have F:=n.cn;rw[P]at F;have w:=n.et p σ.a1 40;by_cases B:40<=st.a1
   .rw[Y9 (by omega)]at w;have y:∀{k:Type} (g:Unit->PX (List (Int×Int)) k),aw (lift (iD h.w)) g l { st with w:=b,nx:=some h } = .error ⟨5,h.w⟩:=λg=>by
     unfold aw lift iD;rw[Y9 B]
    rw[y];have M:=n.es (e:=5) (a:=h.w) (by omega);refine Er.b4 (σ:=fi t e σ) ?_ (rX _ _);unfold fi;refine Er.b4 ?_ (kk _ _ _ _);unfold gH iY;rw[q,w];exact M.b4 ((oK _ _).u ((aP _ _ _).u (hc _ _ _)))
   .rw[Y2 (by omega)]at w;have y:∀{k:Type} (g:Unit->PX (List (Int×Int)) k),aw (lift (iD h.w)) g l { st with w:=b,nx:=some h } = g () l { st with w:=b,nx:=some h,a1:=st.a1+1 }:=λg=>by
     unfold aw lift iD;rw[Y2 B]
    rw[y];have a2:Q t { E with dc:=1 } { st with w:=b,nx:=some h,a1:=st.a1+1 } σ:=⟨i.e,i.wd,i.nl,i.pd,i.nm,i.L,by show _+((1:Nat):Int)=((st.a1+1:Nat):Int);simp at F;omega,i.pg,i.e2,i.cP,i.ou,i.pr,i.fq,i.f8⟩;have N:iY t e.length σ=aH t 2 σ:=by unfold iY;rw[q,w]
    have a5:aN (iY t e.length σ).2 (fD t e σ):=by
     refine aN.u ?_ (rX _ _);unfold fi;refine aN.u ?_ (kk _ _ _ _);unfold gH;exact(aP _ _ _).u (hc _ _ _)
    have a6:aN (ab t 4 [61] (iY t e.length σ).2) (fD t e σ):=by
     refine aN.u ?_ (rX _ _);unfold fi;refine aN.u ?_ (kk _ _ _ _);unfold gH;exact hc _ _ _
    have C:=rU a2 z;rw[<-N]at C;refine eO (gj C) a5 ?_;rintro f b4 b7 b1 a3 ⟨⟨rfl,J,c0,u,a8⟩,rfl⟩;refine eO (gj (eN a3 (kd:=4) (l:=[61]) (by decide))) a6 ?_;rintro b9 b5 b8 b2 a4 ⟨⟨rfl,-⟩,rfl⟩;refine eO (wb a4 _ e a0 (-2147483648) 2147483647) (rX e σ) ?_;rintro v b6 a7 b3 r ⟨rfl,K,a9,c1,b0⟩;have r:Q t _ a7 (fi t e σ):=r;have G:fD t e σ=dB (iY t e.length σ).1.text (gH t e.length σ).1.1 (fi t e σ):=by
     unfold fD;rw[Y2 (by simpa using r.e)]
    have R:=r.m1 f.2 v (s:=f.1) (by rw[nr _ _ _ u,Y9 rfl]) z rfl;have I:(fi t e σ).F=σ.F++[⟨f.1,2,-1,f.2⟩]:=by
     rw[<-a8];have:Sm (iY t e.length σ).2 (fi t e σ):=by
      unfold fi;refine Sm.u ?_ (jE _ _ _ _);unfold gH;exact(an _ _ _).u (fW _ _ _)
     exact this.F
    have H:j.1≠f.1:=λm=>by rw[m]at x;rw[u]at x;cases x
    refine⟨{ (br.a4 { E with dc:=1 } f.1).bQ f.1 (.const f.1 f.2 v)with dc:=0 },?_,by omega,J,K.symm,a9,r.e,z,rfl,rfl,rfl,rfl,rfl,?_,?_,?_,b0⟩
    .rw[G,J];rw[show (gH t e.length σ).1.1=v from K.symm];exact R
    .exact qp u
    .rw[BB _ _ _ _ (by rw[nr _ _ _ u,Y9 rfl];rfl),Y2 H,nr _ _ _ u,Y2 H];exact x
    .rw[G];unfold dB;simp only;split
     .show At j.1 j.2 (gw (fi t e σ) _ 0 _).F;exact Ev (by rw[I];exact D.cF _) _ _ _
     .show At j.1 j.2 (fi t e σ).F;rw[I];exact D.cF _
 .have O:=n.bd p;have m:∀{k:Type} (g:Mar.bi->PX (List (Int×Int)) k),aw (lift (fL (ap t))) g l st=.error d:=λg=>by
   unfold aw lift;rw[tI p]
  rw[m];exact((O.et e.length 12).b4 (Dz e σ)).b4 (rX e σ)
end
section
variable {t : List UInt8} {st g : St} {a h i j k : ac} {b c : br} {f : Mar.a5}
def nc(t:List UInt8)(a:Bool×List Int×List UInt8×ac):ac:=if a.1=true then a.2.2.2 else ab t 4 [59] (ab t 4 [125] a.2.2.2)
def yW(a:Bool×List Int×List UInt8×ac):aN a.2.2.2 (nc t a):=by
 unfold nc;split
 .exact ee _
 .exact(aP _ _ _).u (aP _ _ _)
def ro(f:a.s.e=0)(g:Nat)(b:List Int)(d:List UInt8):di t (g+1) b d a=if(fi t b a).s.e≠0 then (true,b,d,fi t b a)
  else if ay (fD t b a) 4 [44]=true then di t g (b++[(gH t b.length a).1.1]) (d++(iY t b.length a).1.text++[32,61,32]++bC (gH t b.length a).1.1++[44,32]) (aJ t (fD t b a))
  else (false,b++[(gH t b.length a).1.1],d++(iY t b.length a).1.text++[32,61,32]++bC (gH t b.length a).1.1,fD t b a):=by
 by_cases c:(fi t b a).s.e≠0
 .rw[Y9 c];conv=>lhs;unfold di
  rw[Y2 (by simpa using f)];exact Y9 c
 .rw[Y2 c];have h:fD t b a=dB (iY t b.length a).1.text (gH t b.length a).1.1 (fi t b a):=by
   unfold fD;rw[Y2 c]
  rw[h];conv=>lhs;unfold di
  rw[Y2 (by simpa using f)];exact Y2 c
def sO(a:List UInt8×Nat×Int):List UInt8×Option ao:=(a.1,some (.const a.1 a.2.1 a.2.2))
def Pe(h:List UInt8×Nat):∀(e:Nat) (d:List (List UInt8×Nat×Int)) (l:List (Int×Int)) (i:List UInt8) (st:St) (a:ac) (b:br),Q t b st a->b.pd=[]->b.dc=0->d.length+e=13->d.length<=12->l.map (·.1)=d.map (·.2.2)->az b.nl h.1=some none->At h.1 h.2 a.F->(∀j∈d.map (·.2.2),dj (-2147483648) 2147483647 j=true)->
  S t (λI c=>∃n g,I=.enum h.1 h.2 (d++n++[g])/\(di t e (d.map (·.2.2)) i a).1=false/\(di t e (d.map (·.2.2)) i a).2.1=(d++n++[g]).map (·.2.2)/\(di t e (d.map (·.2.2)) i a).2.2.1=i++n.flatMap (λg=>jz g++[44,32])++jz g/\c.pd=[]/\c.dc=0/\c.fz=b.fz/\c.o=b.o/\c.ps=b.ps/\c.rf=b.rf/\c.nl=b.nl++(n++[g]).map sO/\az c.nl h.1=some none/\At h.1 h.2 (nc t (di t e (d.map (·.2.2)) i a)).F/\(∀j∈(d++n++[g]).map (·.2.2),dj (-2147483648) 2147483647 j=true)) (gr (ap t) h e d l st) (nc t (di t e (d.map (·.2.2)) i a)):=by
 intro e;induction e with
 |zero=>intro d l i st a b _ _ _ d7 d8;omega
 |succ e c4=>
  intro d l i st a b J c3 b8 d9 e0 c0 c2 b7 b9;have k:=Pg J c3 b8 l (d.map (·.2.2)) c0 h c2 b7;have c1:(d.map (·.2.2)).length=d.length:=by simp
  rw[ro J.e];unfold gr;rw[c1]at k ⊢;cases K:ie (ap t) d.length l st with
  |error f=>
   rw[K]at k;have r:(fi t (d.map (·.2.2)) a).s.e≠0:=by
    intro r;have x:=k.e1;unfold fD at x;rw[Y2 (by simpa using r)]at x;apply x;unfold dB gw;split<;>exact r
   have b6:fD t (d.map (·.2.2)) a=fi t (d.map (·.2.2)) a:=by
    unfold fD;rw[Y9 r]
   rw[b6]at k;rw[Y9 r];exact k.b4 (yW (true,_,_,_))
  |ok c7=>
   obtain⟨g,c5,M⟩:=c7;rw[K]at k;obtain⟨N,c8,d5,O,R,a0,a1,B,C,D,E,F,G,H,z,A,P⟩:=k;rw[Y2 (by simpa using a1),O,R];dsimp only;generalize fD t (d.map (·.2.2)) a=d1 at *
   have y:(d++[g]).map (·.2.2)=d.map (·.2.2)++[g.2.2]:=by simp
   have L:∀j∈(d++[g]).map (·.2.2),dj (-2147483648) 2147483647 j=true:=by
    intro j m;rw[y]at m;rcases Yn.1 m with m|m
    .exact b9 j m
    .simp at m;subst m;exact P
   rcases iz c8 (kd:=4) (l:=[44]) (by decide)with⟨d6,q,p⟩|⟨u,q,p,v⟩|⟨u,q,p,v⟩
   .unfold av;rw[q,Y2 (by rw[p.is (by omega)];simp)];exact(p.i2 (t:=t) (kd:=4) (l:=[125]) (by omega)).b4 (aP _ _ _)
   .have w:∀(e:Bool->PM ao),av (da (ap t) [44]) e M=e true u:=λe=>by unfold av;rw[q]
    rw[w,Y9 p];rw[<-y];have:=c4 (d++[g]) c5 (i++g.1++[32,61,32]++bC g.2.2++[44,32]) u (aJ t d1) N v B C (by simp;omega) (by simp;omega) (by rw[a0,y]) z A L;refine this.af ?_;rintro I d2 ⟨n,c6,a2,a5,a6,a7,a8,a9,b0,b1,b2,b4,b3,b5,a3,a4⟩;refine⟨g::n,c6,by rw[a2];simp,a5,by rw[a6];simp,?_,a8,a9,by rw[b0,D],by rw[b1,E],by rw[b2,F],by rw[b4,G],by rw[b3,H];simp[sO],b5,a3,by simpa using a4⟩;rw[a7];simp[jz]
   .have w:∀(e:Bool->PM ao),av (da (ap t) [44]) e M=e false u:=λe=>by unfold av;rw[q]
    rw[w,Y2 (by rw[p];simp)];simp only[Ye,if_false]
    refine fe (eN v (kd:=4) (l:=[125]) (by decide)) (aP _ _ _) ?_;rintro j e1 d3 c9 ⟨rfl,-⟩;refine fe (eN c9 (kd:=4) (l:=[59]) (by decide)) (ee _) ?_;rintro j e2 d4 d0 ⟨rfl,-⟩;exact S.ret d0 ⟨[],g,by simp,trivial,by simp,by simp[jz],B,C,D,E,F,G,by rw[H];rfl,z,A,by simpa using L⟩
def xu(c:List UInt8)(b:List (List UInt8×Nat×Int))(a:List UInt8×Nat×Int):List UInt8:=[101,110,117,109,32]++c++[32,123,32]++b.flatMap (λa=>jz a++[44,32])++jz a++[32,125,59,10]
def wQ(d:List df)(a:List UInt8×Nat)(c b:Int):At a.1 a.2 (d++[⟨a.1,c,b,a.2⟩]):=⟨⟨a.1,c,b,a.2⟩,by simp,rfl,rfl⟩
def Pd{n:Mar.bi}{j:Nat}(N:Q t b st a)(O:b.pd=[])(a6:b.dc=0)(A:eb t st.w st.nx=.ok (n,j))(a7:ay a 2 [101,110,117,109]=true) :
  S t (λd c=>∃a0 a3 P g,d=.enum a0 a3 (P++[g])/\pf b c d (xu a0 P g) []) (hY (gp (ap t) n.w) { st with w:=j,nx:=none }) (gG t (gh a)):=by
 by_cases z:24<=st.ae
 .have k:gp (ap t) n.w { st with w:=j,nx:=none } = .error ⟨5,n.w⟩:=vu (st:={ st with w:=j,nx:=none }) z _ _;rw[hZ k];exact(vN N A z).b4 (Qh _)
 .have b1:=vM N A a7 z;have a8:gp (ap t) n.w { st with w:=j,nx:=none } = av (gs (ap t)) (λe=>av (bV (ap t) [123]) λ_=>gr (ap t) e 13 [] []) { st with w:=j,nx:=none,ae:=st.ae+1 }:=vv (st:={ st with w:=j,nx:=none }) z _ _;unfold gG;simp only;generalize ab t 2 [101,110,117,109] (gh a)=h at *
  have k:S t (λd c=>∃e:List UInt8×Nat,(aH t 2 h).1.text=e.1/\∃i g,d=.enum e.1 e.2 (i++[g])/\(di t 13 [] ([101,110,117,109,32]++(aH t 2 h).1.text++[32,123,32]) (ab t 4 [123] (aH t 2 h).2)).1=false/\(di t 13 [] ([101,110,117,109,32]++(aH t 2 h).1.text++[32,123,32]) (ab t 4 [123] (aH t 2 h).2)).2.1=(i++[g]).map (·.2.2)/\(di t 13 [] ([101,110,117,109,32]++(aH t 2 h).1.text++[32,123,32]) (ab t 4 [123] (aH t 2 h).2)).2.2.1=[101,110,117,109,32]++e.1++[32,123,32]++i.flatMap (λg=>jz g++[44,32])++jz g/\c.pd=[]/\c.dc=0/\c.fz=b.fz/\c.o=b.o/\c.ps=b.ps/\c.rf=b.rf/\c.nl=b.nl++[(e.1,none)]++(i++[g]).map sO/\az b.nl e.1=none/\az c.nl e.1=some none/\At e.1 e.2 (nc t (di t 13 [] ([101,110,117,109,32]++(aH t 2 h).1.text++[32,123,32]) (ab t 4 [123] (aH t 2 h).2))).F/\(∀a1∈(i++[g]).map (·.2.2),dj (-2147483648) 2147483647 a1=true))
    (gp (ap t) n.w { st with w:=j,nx:=none }) (nc t (di t 13 [] ([101,110,117,109,32]++(aH t 2 h).1.text++[32,123,32]) (ab t 4 [123] (aH t 2 h).2))):=by
   rw[a8];refine fe (rU b1 O) ((aP _ _ _).u ((yX _ _ _ _).u (yW _))) ?_;rintro e c1 s m ⟨rfl,B,c3,a2,b5⟩;refine fe (eN m (kd:=4) (l:=[123]) (by decide)) ((yX _ _ _ _).u (yW _)) ?_;rintro a1 b4 b7 L ⟨rfl,-⟩;have:=Pe e 13 [] [] ([101,110,117,109,32]++(aH t 2 h).1.text++[32,123,32]) b4 (ab t 4 [123] (aH t 2 h).2) _ L O a6 (by simp) (by simp) rfl (by rw[nr _ _ _ a2,Y9 rfl]) (by
    show At e.1 e.2 (aH t 2 h).2.F;rw[b5];exact wQ _ e _ _) (by simp)
   refine this.af ?_;rintro d b8 ⟨i,g,a4,u,D,E,v,F,G,H,I,J,w,x,p,C⟩;exact⟨e,B,i,g,by simpa using a4,u,by simpa using D,by rw[<-B];exact E,v,F,G,H,I,J,w,a2,x,p,by simpa using C⟩
  generalize di t 13 [] ([101,110,117,109,32]++(aH t 2 h).1.text++[32,123,32]) (ab t 4 [123] (aH t 2 h).2)=y at *
  cases q:gp (ap t) n.w { st with w:=j,nx:=none }with
  |error f=>
   rw[q]at k;have k:Er f (nc t y):=k;rw[hZ q];unfold nc at k;split at k
   .rename_i K;rw[Y9 K];exact k
   .rename_i K;rw[Y2 K];exact k.b4 ((fu _ _).u ((sa _ _ _).u (mB _ _)))
  |ok b0=>
   obtain⟨d,c2⟩:=b0;rw[q]at k;obtain⟨s,m,e,B,i,g,rfl,u,D,E,v,F,G,H,I,J,w,a5,x,p,C⟩:=k;rw[ow q,Y2 (by rw[u];simp),B,D,E];unfold nc at m p;rw[u]at m p;simp only[Ye,if_false]at m p
   generalize ab t 4 [59] (ab t 4 [125] y.2.2.2)=b6 at *
   have L:=m.row (r:=rq (i++[g])) ⟨by simp<;>omega,by simp,by simp<;>omega,λ_=>C⟩ (by simp);have b2:=L.l3 (d:=.enum e.1 e.2 (i++[g])) (n:=b6.y.length) x v p rfl ⟨by simp,mu _ _⟩;have b3:=b2.cv ([101,110,117,109,32]++e.1++[32,123,32]++i.flatMap (λg=>jz g++[44,32])++jz g++[32,125,59,10]);refine⟨_,b3,e.1,e.2,i,g,rfl,⟨v,F,G,by show s.o++_=_;rw[H];rfl,by show s.ps=_;rw[I];simp,by show s.rf=_;rw[J];simp[gn],(i++[g]).map sO,?_,?_⟩⟩
   .show cM s.nl e.1 _=_;rw[w]at x ⊢;unfold cM;rw[List.map_append];have M:=qp (d:=.enum e.1 e.2 (i++[g])) a5;unfold cM at M;rw[M];rw[YN];congr 1;show _::_=_::_;congr 1;conv=>rhs;rw[<-List.map_id ((i++[g]).map sO)]
    apply List.map_congr_left;intro j A;have a9:j.1≠e.1:=λy=>by
     have R:=m.nm.nd;rw[w,List.map_append,YJ]at R;exact R.2.2 e.1 (by simp) e.1 (YE.2 ⟨j,A,y⟩) rfl
    have:(j.1==e.1)=false:=by simpa using a9
    simp[this]
   .intro b9 q;obtain⟨c0,-,rfl⟩:=YE.1 q;exact⟨_,_,_,rfl⟩
end
section
variable {a h n c:Nat}{m j:Type}
variable {t : List UInt8} {st q : St} {b o u v p : ac} {f g : br} {k : Mar.a5}
def fZ(e:List be)(b:List aG)(d:List Int):Prop:=d.length=b.length/\∀(a:Nat) (c:Int) (h:aG),d[a]? = some c->b[a]? = some h->dz e h.L c
def fZ.al{e:List aG}{f:List Int}(d:fZ b.y e f)(j:cz b o):fZ o.y e f:=⟨d.1,λi c h a g=>(d.2 i c h a g).al j⟩
def fZ.hj{j:List be}{f:List aG}{m:List Int}(d:fZ j f m){k:aG}{n:Int}(o:dz j k.L n):fZ j (f++[k]) (m++[n]):=by
 refine⟨by simp[d.1],?_⟩;intro g c h a b;rcases Yj g f.length with e|e
 .rw[Ys e]at b;rw[Ys (by rw[d.1];exact e)]at a;exact d.2 g c h a b
 .rw[Yw e]at b;rw[Yw (by rw[d.1];exact e),d.1]at a;match l:g-f.length with
  |0=>
   rw[l]at a b;simp at a b;subst a;subst b;exact o
  |i+1=>rw[l]at a;simp at a
def fZ.lt{a:List be}{e:List aG}{f:List Int}(h:5<=a.length)(b:fZ a e f):∀g∈f,g<a.length:=by
 intro g j;obtain⟨d,c,rfl⟩:=List.mem_iff_getElem.1 j;have i:d<e.length:=by rw[<-b.1];exact c
 exact(b.2 d _ _ (Yd c) (Yd i)).lt h
def lr(a:aG):List UInt8:=pL a.L++a.t++uA a.L++[59,32]
abbrev fk(t:List UInt8)(n:Nat)(a:List (List UInt8))(b:ac):jh×ac:=bR t a false (ar n 12 b)
def tV(g:b.s.e=0)(f:Nat)(a:List Int)(c:List (List UInt8))(d:List UInt8):dJ t (f+1) a c d b =
  if ay (ab t 4 [59] (fk t a.length c b).2) 4 [125]=true then (a++[(fk t a.length c b).1.r],d++(fk t a.length c b).1.d5++(fk t a.length c b).1.x.text++(fk t a.length c b).1.fA++[59,32],ab t 4 [59] (fk t a.length c b).2)
  else dJ t f (a++[(fk t a.length c b).1.r]) (c++[(fk t a.length c b).1.x.text]) (d++(fk t a.length c b).1.d5++(fk t a.length c b).1.x.text++(fk t a.length c b).1.fA++[59,32]) (ab t 4 [59] (fk t a.length c b).2):=by
 conv=>lhs;unfold dJ
 rw[Y2 (by simpa using g)]
def DF(d:b.s.e=0)(f:Nat)(c:List Int)(a:List (List UInt8))(g:List UInt8):aN (ab t 4 [59] (fk t c.length a b).2) (dJ t (f+1) c a g b).2.2:=by
 rw[tV d];split
 .exact ee _
 .exact yZ _ _ _ _ _
def DE(g:b.s.e=0)(c:Nat)(a:List Int)(d:List (List UInt8))(f:List UInt8):aN (ar a.length 12 b) (dJ t (c+1) a d f b).2.2:=((wk _ _ _).u (aP _ _ _)).u (DF g c a d f)
def Bd.q2(a:Bd k b)(c:Nat)(g:List Int)(d:List (List UInt8))(f:List UInt8):Er k (dJ t (c+1) g d f b).2.2:=(a.et _ _).b4 (DE a.e c g d f)
def Pj(o:Q t f st b)(a:dF)(l:List aG)(e:List (List UInt8)):Sx t (λ_ c g=>∃h,g=f.cZ (cg h.L)/\c=(l++[h],e++[h.t])/\so h (bR t e false b).1 (bR t e false b).2) (je (ap t) a (l,e) st) (ab t 4 [59] (bR t e false b).2):=by
 have d:=yO (G:=λm n i g=>g=f.cZ m/\i=e++[n.1]) (λm=>Ak e a.q a.bx) o;unfold je;cases j:dZ (ap t) (aT a.q a.bx) e st with
 |error k=>
  rw[j]at d;rcases d with d|d
  .exact d.b4 (aP _ _ _)
  .exact d.i2 (by omega)
 |ok p=>
  obtain⟨h,i,w⟩:=p;rw[j]at d;obtain⟨s,q,⟨rfl,rfl⟩,ok⟩:=d;refine eO (gj (eN q (kd:=4) (l:=[59]) (by decide))) (ee _) ?_;rintro y v x u r ⟨⟨rfl,-⟩,rfl⟩;exact⟨_,r,h,rfl,rfl,ok⟩
def vU(d:¬h<=n)(b:Unit->PX j m)(c:j)(st:St):aw (lift (ej n h a)) b c st=b () c st:=by
 unfold aw lift ej;rw[Y2 d]
def vT(b:h<=n)(c:Unit->PX j m)(d:j)(st:St):aw (lift (ej n h a)) c d st=.error ⟨5,a⟩:=by
 unfold aw lift ej;rw[Y9 b]
def yz{a:Mar.bi}(e:eb t st.w st.nx=.ok (a,c))(b:Mar.bi->PX j m)(d:j):aw (lift (fL (ap t))) b d st=b a d { st with w:=c,nx:=some a }:=by
 unfold aw lift;rw[qg e]
def yy(a:eb t st.w st.nx=.error k)(b:Mar.bi->PX j m)(c:j):aw (lift (fL (ap t))) b c st=.error k:=by
 unfold aw lift;rw[tI a]
def ob{c:List UInt8}{a:Bool}{e:St}(f:da (ap t) c st=.ok (a,e))(b:Bool->PX j m)(d:j):aw (lift (da (ap t) c)) b d st=b a d e:=by
 unfold aw lift;rw[f]
def uv{a:List UInt8}(b:da (ap t) a st=.error k)(c:Bool->PX j m)(d:j):aw (lift (da (ap t) a)) c d st=.error k:=by
 unfold aw lift;rw[b]
def wV(a:ByteArray)(nt:Nat)(c:PX j Unit)(b n:Nat):hl a nt c (b+1) (n+1)=aw (lift (da a [125])) λd=>if d then cH ()else ma a nt c b (n+1):=by
 rfl
def Aa(a:ByteArray)(nt:Nat)(c:PX j Unit)(b:Nat):hl a nt c (b+1) 0=ma a nt c b 0:=by
 show aw (if 0=0 then cH false else lift (da a [125])) _=_
 rw[Y9 rfl];rfl
def Pr(a:dF):∀(j:Nat) (i:List aG) (d:List (List UInt8)) (h:List Int) (m:List UInt8) (st:St) (b:ac) (f:br),Q t f st b->i.length+j=13->i.length<=12->fZ b.y i h->
  Sx t (λ_ c g=>∃u,g=f.cZ (u.flatMap λn=>cg n.L)/\c.1=i++u/\fZ (dJ t (j+1) h d m b).2.2.y (i++u) (dJ t (j+1) h d m b).1/\(dJ t (j+1) h d m b).2.1=m++u.flatMap lr/\(dJ t (j+1) h d m b).2.2.F=b.F) (ma (ap t) 12 (je (ap t) a) j i.length (i,d) st) (ab t 4 [125] (dJ t (j+1) h d m b).2.2):=by
 intro j;induction j with
 |zero=>intro i d h m st b f _ a5 a6;omega
 |succ j R=>
  intro i d h m st b f s a7 a8 z;have A:=(DE (t:=t) s.e (j+1) h d m).u (aP (t:=t) 4 [125] _);unfold ma;rcases pk t st with⟨a2,c,o⟩|⟨k,o⟩
  .rw[yz o];have w:=s.et o h.length 12;by_cases B:12<=i.length
   .rw[vT B];rw[Y9 (by rw[z.1];omega)]at w;rw[w]at A;exact(s.es (e:=5) (a:=a2.w) (by omega)).b4 A
   .rw[vU B];rw[Y2 (by rw[z.1];omega)]at w;have C:fk t h.length d b=bR t d false b:=by unfold fk;rw[w]
    have a0:=(DF (t:=t) s.e (j+1) h d m).u (aP (t:=t) 4 [125] _);have o:=Pj (s.hH o) a i d;rw[<-C]at o;refine eO o a0 ?_;rintro a1 a9 b1 I S ⟨n,D,rfl,ok⟩;have G:cz b (ab t 4 [59] (fk t h.length d b).2):=by rw[C];exact(kG _ _ _).u (an _ _ _).al
    rw[tV s.e];have F:fZ (ab t 4 [59] (fk t h.length d b).2).y (i++[n]) (h++[(fk t h.length d b).1.r]):=(z.al G).hj ok.i8;have O:m++(fk t h.length d b).1.d5++(fk t h.length d b).1.x.text++(fk t h.length d b).1.fA++[59,32]=m++lr n:=by rw[ok.d5,ok.fA,ok.x];simp[lr]
    have P:(fk t h.length d b).1.x.text=n.t:=ok.x;have E:=G.F;rw[O,P];generalize ab t 4 [59] (fk t h.length d b).2=p at *
    rw[wV];rcases iz S (kd:=4) (l:=[125]) (by decide)with⟨a4,v,q⟩|⟨H,v,q,y⟩|⟨H,v,q,y⟩
    .rw[uv v,Y2 (by rw[q.is (by omega)];simp)];exact(q.q2 j _ _ _).b4 (aP _ _ _)
    .rw[ob v,Y9 q,mH q];exact⟨_,y,[n],by rw[D];simp,rfl,F,by simp,E⟩
    .rw[ob v,Y2 (by rw[q];simp)];simp only[Ye,if_false]
     have:=R (i++[n]) (d++[n.t]) (h++[(fk t h.length d b).1.r]) (m++lr n) H p I y (by simp;omega) (by simp;omega) F;rw[show (i++[n]).length=i.length+1 by simp]at this;refine this.af ?_;rintro a1 b0 a3 ⟨u,J,K,L,M,N⟩;refine⟨n::u,by rw[J,D,qI];simp,by rw[K];simp,?_,by rw[M];simp,by rw[N,E]⟩;simpa using L
  .rw[yy o];exact((s.bd o).et _ _).b4 A
def DK(b:List UInt8)(a:List aG):List UInt8:=[115,116,114,117,99,116,32]++b++[32,123,32]++a.flatMap lr++[125,59,10]
def Pq{p:Mar.bi}(I:Q t f st b)(D:f.pd=[])(a3:f.dc=0)(y:eb t st.w st.nx=.ok (p,c))(a4:ay b 2 [115,116,114,117,99,116]=true) :
  S t (λd g=>∃M a i,d=.struct M a i/\pf f g d (DK M i) []) (hY (jf (ap t) p.w) { st with w:=c,nx:=none }) (gx t (gh b)):=by
 by_cases w:24<=st.ae
 .have q:jf (ap t) p.w { st with w:=c,nx:=none } = .error ⟨5,p.w⟩:=vu (st:={ st with w:=c,nx:=none }) w _ _;rw[hZ q];exact(vN I y w).b4 (Qm _)
 .have a9:=vM I y a4 w;have a6:jf (ap t) p.w { st with w:=c,nx:=none } = av (gs (ap t)) (λn=>av (ih (ew (ap t) 12 (je (ap t) ⟨0,0,0,0,0,0⟩)) ([],[])) λc=>av (bV (ap t) [59]) λ_=>bT (.struct n.1 n.2 c.1)) { st with w:=c,nx:=none,ae:=st.ae+1 }:=vv (st:={ st with w:=c,nx:=none }) w _ _;unfold gx;simp only;generalize ab t 2 [115,116,114,117,99,116] (gh b)=m at *
  generalize J:dJ t 14 [] [] ([115,116,114,117,99,116,32]++(aH t 2 m).1.text++[32,123,32]) (ab t 4 [123] (aH t 2 m).2)=e;have N:aN (ab t 4 [123] (aH t 2 m).2) e.2.2:=by rw[<-J];exact yZ _ _ _ _ _
  have q:S t (λd g=>∃n:List UInt8×Nat,(aH t 2 m).1.text=n.1/\∃i,d=.struct n.1 n.2 i/\fZ e.2.2.y i e.1/\e.2.1=[115,116,114,117,99,116,32]++n.1++[32,123,32]++i.flatMap lr/\g=(f.a4 n.1).cZ (i.flatMap λd=>cg d.L)/\az f.nl n.1=none/\At n.1 n.2 e.2.2.F)
    (jf (ap t) p.w { st with w:=c,nx:=none }) (ab t 4 [59] (ab t 4 [125] e.2.2)):=by
   rw[a6];refine fe (rU a9 D) ((aP _ _ _).u (N.u ((aP _ _ _).u (aP _ _ _)))) ?_;rintro n F O z ⟨rfl,A,c1,b3,b4⟩;have x:Sx t (λ_ (c:List aG×List (List UInt8)) g=>g=(f.a4 n.1).cZ (c.1.flatMap λd=>cg d.L)/\fZ e.2.2.y c.1 e.1/\e.2.1=[115,116,114,117,99,116,32]++n.1++[32,123,32]++c.1.flatMap lr/\e.2.2.F=(aH t 2 m).2.F) (ew (ap t) 12 (je (ap t) ⟨0,0,0,0,0,0⟩) ([],[]) F) (ab t 4 [125] e.2.2):=by
    unfold ew;refine eO (gj (eN z (kd:=4) (l:=[123]) (by decide))) (N.u (aP _ _ _)) ?_;rintro G b2 b1 P u ⟨⟨rfl,-⟩,rfl⟩;rw[Aa];have:=Pr ⟨0,0,0,0,0,0⟩ 13 [] [] [] ([115,116,114,117,99,116,32]++(aH t 2 m).1.text++[32,123,32]) b1 (ab t 4 [123] (aH t 2 m).2) _ u (by simp) (by simp) ⟨rfl,λK c h y=>by simp at y⟩;rw[J]at this;refine this.af ?_;rintro b2 b7 R ⟨b6,rfl,v,j,s,B⟩;simp only[YT]at v j;exact⟨by rw[v],by rw[v];exact j,by rw[v,s,A],B⟩
   have a2:S t (λ(c:List aG×List (List UInt8)) g=>g=(f.a4 n.1).cZ (c.1.flatMap λd=>cg d.L)/\fZ e.2.2.y c.1 e.1/\e.2.1=[115,116,114,117,99,116,32]++n.1++[32,123,32]++c.1.flatMap lr/\e.2.2.F=(aH t 2 m).2.F) (ih (ew (ap t) 12 (je (ap t) ⟨0,0,0,0,0,0⟩)) ([],[]) F) (ab t 4 [125] e.2.2):=by
    unfold ih;cases o:ew (ap t) 12 (je (ap t) ⟨0,0,0,0,0,0⟩) ([],[]) F with
    |error k=>rw[o]at x;exact x
    |ok L=>rw[o]at x;exact x
   refine fe a2 (aP _ _ _) ?_;rintro a8 b8 P u ⟨rfl,j,s,B⟩;refine fe (eN u (kd:=4) (l:=[59]) (by decide)) (ee _) ?_;rintro G b9 R E ⟨rfl,-⟩;exact S.ret E ⟨n,A,a8.1,rfl,j,s,rfl,b3,by rw[B,b4];exact wQ _ n _ _⟩
  cases o:jf (ap t) p.w { st with w:=c,nx:=none }with
  |error k=>
   rw[o]at q;rw[hZ o];exact Er.b4 q ((fu _ _).u ((sa _ _ _).u (mB _ _)))
  |ok L=>
   obtain⟨d,c0⟩:=L;rw[o]at q;obtain⟨O,z,n,A,i,rfl,j,s,rfl,H,C⟩:=q;rw[ow o,A,s];have j:fZ (ab t 4 [59] (ab t 4 [125] e.2.2)).y i e.1:=j;have C:At n.1 n.2 (ab t 4 [59] (ab t 4 [125] e.2.2)).F:=C;generalize ab t 4 [59] (ab t 4 [125] e.2.2)=b5 at *
   have a5:=j.lt z.ix;have u:=z.row (r:=⟨12,0,0,[],e.1,0,[],0⟩) ⟨by simp<;>omega,λG a7=>(by have:=a5 G a7;omega),by simp<;>omega,by simp⟩ (by simp);have E:=u.l3 (d:=.struct n.1 n.2 i) (n:=b5.y.length) (by show az (f.nl++_) _=_;rw[nr _ _ _ H,Y9 rfl]) D C rfl ⟨by simp,e.1,mu _ _,j.1,λK c h a0 a1=>(j.2 K c h a0 a1).cF _⟩;have b0:=E.cv ([115,116,114,117,99,116,32]++n.1++[32,123,32]++i.flatMap lr++[125,59,10]);exact⟨_,b0,n.1,n.2,i,rfl,⟨D,a3,rfl,rfl,by simp[br.cZ],rfl,[],qp H,by simp⟩⟩
end
section
variable {g:Int}{p:Int->Bool}
variable {t : List UInt8} {d j : St} {b σ' m q r : ac} {f i : br} {h : Mar.a5}
def nV(b:List be)(of:Int)(p:Int->Bool):Prop:=
 (of=0/\p=dj (-2147483648) 2147483647)\/(of=1/\p=dj 0 4294967295)\/(of=4/\p=dj 0 1)\/(4<of/\∃a,b[of.toNat]? = some (rq a)/\p=jZ a)
def Q.nS(a:Q t f d b)(e:0<=g)(h:g<=4):(fF b g).H=g:=by
 obtain⟨i,c⟩:=a.e2;unfold fF;rw[c];have:g=0\/g=1\/g=2\/g=3\/g=4:=by omega
 rcases this with rfl|rfl|rfl|rfl|rfl<;>rfl
def nE{a:be}(c:b.y[g.toNat]? = some a):fF b g=a:=by
 unfold fF;rw[List.getD_eq_getElem?_getD,c];rfl
def NG(j:Q t f d b){i:Ty}(a:dz b.y i g)(k:0<=g):(fF b g).H≠5:=by
 cases i with
 |plain r=>have p:=a.1;have q:=a.2;rw[j.nS k (by omega)];omega
 |named u o=>obtain⟨_,s,c,l,_⟩:=a;rw[nE c,l];omega
 |opaq e h=>rw[nE a.2];cases h<;>simp[ek]
 |str e h=>rw[nE a.2];simp[ek]
 |arr n e h=>obtain⟨_,m,c,_⟩:=a;rw[nE c];cases h<;>simp[dI]
 |opt n=>obtain⟨_,m,c,_⟩:=a;rw[nE c];simp[dI]
 |void=>have:g = -1:=a;omega
def Bd.pw(c:Bd h b):Er h (bS t b).2:=by
 unfold bS;rw[Y2 (λa=>by have:=a.2;rw[c.k]at this;omega),Y2 (λa=>by have:=a.2.1;rw[c.k]at this;omega)];exact c.hQ
def Pp(j:Q t f d b)(a7:f.pd=[]):Sw t (λz i=>i=f/\jM (bS t b).2.y f.nl z.1 (bS t b).1.1/\(bS t b).1.2=ik z.1/\nV (bS t b).2.y (bS t b).1.1 z.2) (nG (ap t) d) (bS t b).2:=by
 unfold nG av;rcases pk t d with⟨a,p,w⟩|⟨h,w⟩
 .rw[mn w];have a1:=j.wd;rw[w]at a1;obtain⟨⟨N,G,b6,a2,b7⟩,a4⟩:=a1;have H:=j.e0 w;simp only;unfold jc bS;by_cases P:a.H=1
  .rw[Y9 (c:=((a.H:Int)==1)=true) (by rw[P];rfl),Y9 (c:=b.s.e=0/\b.s.x.H=1) ⟨j.e,by rw[N];exact P⟩];unfold av iC;have a6:d.F=f.nl:=by rw[j.nl,a7];simp
   rw[show az ({ d with w:=p,nx:=none }:St).F a.text=az f.nl a.text by rw[<-a6]];rw[G];have r:∀{o:Option (Option ao)},(∀k m I,o≠some (some (.enum k m I)))->(bA b a.text<0\/(bO b).bb≠1\/(fF b (bO b).n).H≠5)->
     Sw t (λ(z:Ty×(Int->Bool)) i=>i=f/\jM (if bA b a.text<0\/(bO b).bb≠1\/(fF b (bO b).n).H≠5 then (((0:Int),([]:List UInt8)),bp 7 ↑b.s.x.w b)else (((bO b).n,a.text),aJ t b)).2.y f.nl z.1 (if bA b a.text<0\/(bO b).bb≠1\/(fF b (bO b).n).H≠5 then (((0:Int),([]:List UInt8)),bp 7 ↑b.s.x.w b)else (((bO b).n,a.text),aJ t b)).1.1/\(if bA b a.text<0\/(bO b).bb≠1\/(fF b (bO b).n).H≠5 then (((0:Int),([]:List UInt8)),bp 7 ↑b.s.x.w b)else (((bO b).n,a.text),aJ t b)).1.2=ik z.1/\nV (if bA b a.text<0\/(bO b).bb≠1\/(fF b (bO b).n).H≠5 then (((0:Int),([]:List UInt8)),bp 7 ↑b.s.x.w b)else (((bO b).n,a.text),aJ t b)).2.y (if bA b a.text<0\/(bO b).bb≠1\/(fF b (bO b).n).H≠5 then (((0:Int),([]:List UInt8)),bp 7 ↑b.s.x.w b)else (((bO b).n,a.text),aJ t b)).1.1 z.2)
     (.error ⟨7,a.w⟩) (if bA b a.text<0\/(bO b).bb≠1\/(fF b (bO b).n).H≠5 then (((0:Int),([]:List UInt8)),bp 7 ↑b.s.x.w b)else (((bO b).n,a.text),aJ t b)).2:=λ_ a3=>by
    rw[Y9 a3,a2];exact Y8 (j.es (e:=7) (a:=a.w) (by omega))
   rcases j.i6 a.text with⟨J,S⟩|⟨g,o,A,J,S,b8,b0,b1⟩
   .rw[J];exact r (o:=none) (by simp) (Y8 S)
   .have u:bO b=A:=by
     unfold bO;rw[G,S,Int.toNat_natCast,List.getD_eq_getElem?_getD,b0];rfl
    rw[J];have q:=b1.2;cases o with
    |none=>exact r (o:=some none) (by simp) (Ya (Y8 (by rw[u];have:A.bb=2:=q;omega)))
    |some s=>
     cases s with
     |const k m v=>exact r (o:=some (some (.const k m v))) (by simp) (Ya (Y8 (by rw[u];have:A.bb=0:=q.1;omega)))
     |prog k m e s=>exact r (o:=some (some (.prog k m e s))) (by simp) (Ya (Y8 (by rw[u];have:A.bb=2:=q;omega)))
     |typedef s=>exact r (o:=some (some (.typedef s))) (by simp) (Ya (Ya (by rw[u];exact NG j q.2.2.1 q.2.2.2)))
     |struct k m e=>
      obtain⟨_,_,M,b2,y,_⟩:=q;exact r (o:=some (some (.struct k m e))) (by simp) (Ya (Ya (by rw[u,nE y];simp)))
     |union k m e s=>
      obtain⟨_,_,M,of,b2,b4,y,_⟩:=q;exact r (o:=some (some (.union k m e s))) (by simp) (Ya (Ya (by rw[u,nE y];simp)))
     |enum k m I=>
      obtain⟨a9,_,M,y⟩:=q;have a5:(fF b A.n).H=5:=by rw[nE y]
      rw[u,Y2 (by rw[a9,a5];simp;omega)];have a0:4<A.n:=by
       rcases Int.lt_or_le 4 A.n with O|O
       .exact O
       .have:=j.nS M O;omega
      exact⟨f,H,rfl,Ya ⟨_,_,k,m,I,rfl,a0,J,y⟩,rfl,Ya (Ya (Ya ⟨a0,I,y,rfl⟩))⟩
  .rw[Y2 (c:=((a.H:Int)==1)=true) (by simp;omega),Y2 (c:=b.s.e=0/\b.s.x.H=1) (λc=>P (by rw[<-N];exact c.2))];have R:∀K,Mar.e3 K=true->a.text=K->b.s.x.H=2/\b.s.x.text=K:=λK a8 c=>⟨by rw[N];exact a4.j1 (by rw[c];exact a8),by rw[G];exact c⟩;by_cases D:a.text=[105,110,116]
   .have c:=R _ (by decide) D;rw[Y9 (c:=(a.text==[105,110,116])=true) (by simpa using D),Y9 (c:=b.s.e=0/\_) ⟨j.e,c.1,Y8 c.2⟩,Y9 c.2];exact⟨f,H,rfl,Y8 ⟨0,rfl,Y8 rfl,rfl⟩,rfl,Y8 ⟨rfl,rfl⟩⟩
   .rw[Y2 (c:=(a.text==[105,110,116])=true) (by simpa using D)];by_cases E:a.text=[117,110,115,105,103,110,101,100]
    .have c:=R _ (by decide) E;rw[Y9 (c:=(a.text==[117,110,115,105,103,110,101,100])=true) (by simpa using E),Y9 (c:=b.s.e=0/\_) ⟨j.e,c.1,Ya (Y8 c.2)⟩,Y2 (by rw[c.2];simp),Y2 (by rw[c.2];simp)];unfold av;rcases iz H (kd:=2) (l:=[105,110,116]) (by decide)with⟨b5,C,B⟩|⟨b3,C,B,L⟩|⟨b3,C,B,L⟩
     .rw[C,Y2 (by rw[B.is (by omega)];simp)];exact Ya B
     .rw[C,Y9 B];exact⟨f,L,rfl,Y8 ⟨1,rfl,Ya (Y8 rfl),rfl⟩,rfl,Ya (Y8 ⟨rfl,rfl⟩)⟩
     .rw[C,Y2 (by rw[B];simp)];exact⟨f,L,rfl,Y8 ⟨1,rfl,Ya (Y8 rfl),rfl⟩,rfl,Ya (Y8 ⟨rfl,rfl⟩)⟩
    .rw[Y2 (c:=(a.text==[117,110,115,105,103,110,101,100])=true) (by simpa using E)];by_cases F:a.text=[98,111,111,108]
     .have c:=R _ (by decide) F;rw[Y9 (c:=(a.text==[98,111,111,108])=true) (by simpa using F),Y9 (c:=b.s.e=0/\_) ⟨j.e,c.1,Ya (Ya c.2)⟩,Y2 (by rw[c.2];simp),Y9 c.2];exact⟨f,H,rfl,Y8 ⟨4,rfl,Ya (Ya rfl),rfl⟩,rfl,Ya (Ya (Y8 ⟨rfl,rfl⟩))⟩
     .rw[Y2 (c:=(a.text==[98,111,111,108])=true) (by simpa using F),Y2 (c:=b.s.e=0/\_) (λc=>by
       rw[G]at c;rcases c.2.2 with c|c|c
       .exact D c
       .exact E c
       .exact F c)]
      exact Y8 (j.hk w)
 .rw[ny w];exact Y8 (j.bd w).pw
def RW(f:ByteArray){e c:Int}(l:∀i,p i=true->dj e c i=true)(d:St):hM f p d=match hM f (dj e c) d with
  |.ok (a,j)=>if p a.1 then .ok (a,j)else .error ⟨8,a.2⟩
  |.error h=>.error h:=by
 unfold hM av;cases next f d with
 |error h=>rfl
 |ok a=>
  simp only;cases ic a.1 a.2 with
  |error h=>rfl
  |ok k=>
   simp only;by_cases b:p k.1=true
   .rw[Y9 b,Y9 (l _ b)];simp only[bT,b,if_true]
   .rw[Y2 b];by_cases g:dj e c k.1=true
    .rw[Y9 g];simp only[bT,fl,b,Ye,if_false]
    .rw[Y2 g];rfl
abbrev sP(of:Int)(v:(Int×Int)×ac):ac:=if v.2.s.e=0/\4<of/\(fF v.2 of).b2.contains v.1.1=false then bp 8 v.1.2 v.2 else v.2
abbrev sQ(a:List Int)(v:(Int×Int)×ac)(b:ac):ac:=if b.s.e=0/\a.contains v.1.1=true then bp 6 v.1.2 b else b
def Pa(w:Q t f d b){of:Int}(O:nV b.y of p)(q:List (Int×Int))(g:List Int)(x:q.map (·.1)=g) :
  Sx t (λa r i=>i=f/\a=(aW t (eS of) (eR of) b).1.1/\r.map (·.1)=g++[a]) (fU (ap t) p q d) (sQ g (aW t (eS of) (eR of) b) (sP of (aW t (eS of) (eR of) b))):=by
 have u:of<=4->p=dj (eS of) (eR of)->Sx t (λa r i=>i=f/\a=(aW t (eS of) (eR of) b).1.1/\r.map (·.1)=g++[a]) (fU (ap t) p q d) (sQ g (aW t (eS of) (eR of) b) (sP of (aW t (eS of) (eR of) b))):=by
  intro A e;have k:=wb w q g x (eS of) (eR of);rw[e];unfold sQ sP;rw[Y2 (c:=(aW t (eS of) (eR of) b).2.s.e=0/\4<of/\_) (λj=>by omega)];exact k.af λa r i y=>⟨y.1,y.2.1,y.2.2.1⟩
 rcases O with⟨rfl,e⟩|⟨rfl,e⟩|⟨rfl,e⟩|⟨A,l,C,rfl⟩
 .exact u (by omega) e
 .exact u (by omega) e
 .exact u (by omega) e
 .have J:eS of = -2147483648:=by unfold eS;rw[Y2 (by omega)]
  have H:eR of=2147483647:=by unfold eR;rw[Y2 (by omega),Y2 (by omega)]
  rw[J,H];have I:∀a,jZ l a=true->dj (-2147483648) 2147483647 a=true:=λa L=>by
   have G:=w.cP _ (rq l) C;refine G.2.2.2 rfl a ?_;obtain⟨P,K,F⟩:=List.any_eq_true.1 L;exact YE.2 ⟨P,K,by simpa using F⟩
  have k:=tS w (-2147483648) 2147483647;have N:(aW t (-2147483648) 2147483647 b).2.y=b.y:=(fW _ _ _).y;have M:fF (aW t (-2147483648) 2147483647 b).2 of=rq l:=nE (by rw[N];exact C);unfold fU aw lift;rw[RW _ I];generalize aW t (-2147483648) 2147483647 b=v at *
  cases B:hM (ap t) (dj (-2147483648) 2147483647) d with
  |error h=>
   rw[B]at k;refine k.b4 ?_;exact(kk _ _ _ _).u (kk _ _ _ _)
  |ok R=>
   obtain⟨⟨a,n⟩,a1⟩:=R;rw[B]at k;obtain⟨S,m,rfl,z,D⟩:=k;simp only at z D ⊢;have E:(fF v.2 of).b2.contains a=jZ l a:=by
    rw[M];rw[Bool.eq_iff_iff];simp[jZ]
   unfold sQ sP;rw[z,E];cases a0:jZ l a with
   |false=>
    simp only[Ye,if_false]
    rw[Y9 (c:=v.2.s.e=0/\4<of/\True) ⟨m.e,A,trivial⟩];have:=m.es (e:=8) (a:=n) (by omega);exact this.b4 (kk _ _ _ _)
   |true=>
    simp only[if_true]
    rw[Y2 (c:=v.2.s.e=0/\4<of/\_) (λj=>by simp at j)];unfold lI kE;dsimp only;rw[x];by_cases o:g.contains a=true
    .rw[Y9 o,Y9 ⟨m.e,o⟩];exact m.es (e:=6) (a:=n) (by omega)
    .rw[Y2 o,Y2 (λj=>o j.2)];exact⟨_,m,rfl,rfl,by simp[x]⟩
def mX(a:Int):List UInt8:=[99,97,115,101,32]++bC a++[58,32]
abbrev li(t:List UInt8)(of:Int)(a:Nat)(b:ac):(Int×Int)×ac:=aW t (eS of) (eR of) (ab t 2 [99,97,115,101] (ar a 12 b))
abbrev mZ(t:List UInt8)(of:Int)(a:List Int)(b:ac):ac:=ab t 4 [58] (sQ a (li t of a.length b) (sP of (li t of a.length b)))
def xd(f:b.s.e=0)(of:Int)(d:Nat)(a:List Int)(c:List UInt8):bU t of (d+1) a c b =
  if ay (mZ t of a b) 2 [99,97,115,101]=true then bU t of d (a++[(li t of a.length b).1.1]) (c++[99,97,115,101,32]++bC (li t of a.length b).1.1++[58,32]) (mZ t of a b)
  else ((a++[(li t of a.length b).1.1],c++[99,97,115,101,32]++bC (li t of a.length b).1.1++[58,32]),mZ t of a b):=by
 conv=>lhs;unfold bU
 rw[Y2 (by simpa using f)]
def Qf(c:b.s.e=0)(of:Int)(d:Nat)(a:List Int)(f:List UInt8):aN (mZ t of a b) (bU t of (d+1) a f b).2:=by
 rw[xd c];split
 .exact(mY _ _ _ _ _).2.1
 .exact ee _
def yV(of:Int)(a:List Int)(b:ac):aN (li t of a.length b).2 (mZ t of a b):=(kk _ _ _ _).u ((kk _ _ _ _).u (aP _ _ _))
def PC(of:Int)(a:List Int)(b:ac):Sm b (mZ t of a b):=(cx _ _ _).u ((an _ _ _).u ((fW _ _ _).u ((jE _ _ _ _).u ((jE _ _ _ _).u (an _ _ _)))))
def nV.of{of:Int}(a:nV b.y of p)(c:Sm b σ'):nV σ'.y of p:=by rw[c.y];exact a
def Pb{of:Int}:∀(m k:Nat) (u:List Int) (l:List (Int×Int)) (c:List Int) (o:List UInt8) (d:St) (b:ac) (f:br),Q t f d b->nV b.y of p->l.map (·.1)=c->(c.length<12\/ay b 2 [99,97,115,101]=true)->c.length<=12->13<=c.length+m->13<=c.length+k->
  Sy t (λa5 b3 i=>i=f/\∃n,a5=u++n/\n≠[]/\b3.map (·.1)=c++n/\(bU t of m c o b).1.1=c++n/\(c++n).length<=12/\(bU t of m c o b).1.2=o++n.flatMap mX) (hn (ap t) p k u l d) (bU t of m c o b).2:=by
 intro m;induction m with
 |zero=>intro k u l c o d b f _ _ _ _ z c1;omega
 |succ m b2=>
  intro k u l c o d b f j O K a7 c4 c2 c3;obtain⟨k,rfl⟩:∃e,k=e+1:=⟨k-1,by omega⟩;have M:l.length=c.length:=by rw[<-K];simp
  have y:=Qf (t:=t) j.e of m c o;unfold hn;rcases pk t d with⟨A,b4,g⟩|⟨h,g⟩
  .have r:=j.et g c.length 12;have J:=j.is g (kd:=2) (l:=[99,97,115,101]) (by decide);by_cases q:ay b 2 [99,97,115,101]=true
   .have v:∀(e:Mar.bi->PX (List (Int×Int)) (List Int)),aw (lift (bV (ap t) [99,97,115,101])) e l d=e A l { d with w:=b4,nx:=none }:=λe=>by
     unfold aw lift bV av;rw[mn g];rw[J]at q;simp only;rw[Y9 q];rfl
    rw[v];by_cases C:12<=c.length
    .rw[vT (by rw[M];exact C)];rw[Y9 (by omega)]at r;have this:Er ⟨5,A.w⟩ (ar c.length 12 b):=by rw[r];exact j.es (e:=5) (a:=A.w) (by omega)
     exact Y8 (this.b4 ((aP _ _ _).u ((hc _ _ _).u ((yV of c b).u y))))
    .rw[vU (by rw[M];exact C)];rw[Y2 (by omega)]at r;have a6:li t of c.length b=aW t (eS of) (eR of) (aJ t b):=by unfold li;rw[r,mH q]
     have N:=Pa (j.e0 g) (p:=p) (of:=of) O l c K;rw[<-a6]at N;refine wM N ((aP _ _ _).u y) ?_;rintro x c5 c6 b7 b5 ⟨rfl,a8,L⟩;refine wM (gj (eN b5 (kd:=4) (l:=[58]) (by decide))) y ?_;rintro c7 D R G E ⟨⟨rfl,-⟩,rfl⟩;have b0:=PC (t:=t) of c b;have a9:=O.of b0;rw[xd j.e,<-a8];have E:Q t G R (mZ t of c b):=E;generalize mZ t of c b=F at *
     rcases vY E (kd:=2) (l:=[99,97,115,101]) (by decide)with⟨c0,B,s⟩|⟨P,B,s⟩
     .unfold aw lift;rw[B,Y2 (by rw[s.is (by omega)];simp)];exact Ya s
     .have H:∀(e:Bool->PX (List (Int×Int)) (List Int)),aw (lift (gf (ap t) [99,97,115,101])) e D R=e (ay F 2 [99,97,115,101]) D P:=λe=>by
       unfold aw lift;rw[B]
      rw[H];by_cases w:ay F 2 [99,97,115,101]=true
      .rw[Y9 w,Y9 w];have:=b2 k (u++[x]) D (c++[x]) (o++[99,97,115,101,32]++bC x++[58,32]) P F G s a9 L (Ya w) (by simp;omega) (by simp;omega) (by simp;omega);unfold Sy at this ⊢;split at this
       .obtain⟨b8,b6,rfl,n,a0,b9,a1,a2,a3,a4⟩:=this;exact⟨_,b6,rfl,x::n,by rw[a0];simp,by simp,by rw[a1];simp,by rw[a2];simp,by simpa using a3,by rw[a4];simp[mX]⟩
       .exact this
      .rw[Y2 w,Y2 w];exact⟨_,s,rfl,[x],rfl,by simp,L,rfl,by simp;omega,by simp[mX]⟩
   .have C:c.length<12:=by rcases a7 with z|z;exact z;exact absurd z q
    rw[Y2 (by omega)]at r;have v:∀(e:Mar.bi->PX (List (Int×Int)) (List Int)),aw (lift (bV (ap t) [99,97,115,101])) e l d=.error ⟨3,A.w⟩:=λe=>by
     unfold aw lift bV av;rw[mn g];rw[J]at q;simp only;rw[Y2 q];rfl
    rw[v];have I:=j.hk g;have b1:ab t 2 [99,97,115,101] (ar c.length 12 b)=dd b:=by rw[r];exact El (by simpa using q)
    rw[<-b1]at I;exact Y8 (I.b4 ((hc _ _ _).u ((yV of c b).u y)))
  .have v:∀(e:Mar.bi->PX (List (Int×Int)) (List Int)),aw (lift (bV (ap t) [99,97,115,101])) e l d=.error h:=λe=>by
    unfold aw lift bV av;rw[ny g]
   rw[v];exact Y8 (((j.bd g).et c.length 12).b4 ((aP _ _ _).u ((hc _ _ _).u ((yV of c b).u y))))
def mV(a:aG):List UInt8:=match a.L with
 |.void=>[118,111,105,100,59,32]
 |_=>lr a
def FJ{a:aG}{d:List be}(b:dz d a.L g)(e:0<=g):mV a=lr a:=by
 unfold mV;split
 .rename_i c;rw[c]at b;have:g = -1:=b;omega
 .rfl
def Bd.n8(a:Bd h b)(c:List (List UInt8)):Er h (cf t c b).2:=by
 unfold cf;rw[Y2 (by rw[a.is (by omega)];simp)];exact(a.kx c false).b4 (aP _ _ _)
def De(u:Q t f d b)(a:List (List UInt8)):Sx t (λm l i=>i=f.cZ (cg m.L)/\dz (cf t a b).2.y m.L (cf t a b).1.1/\(cf t a b).1.2.1=mV m/\(cf t a b).1.2.2=l) (iA (ap t) (aT 0 0) a d) (cf t a b).2:=by
 unfold iA cf;rcases iz u (kd:=2) (l:=[118,111,105,100]) (by decide)with⟨s,j,g⟩|⟨p,j,g,n⟩|⟨p,j,g,n⟩
 .rw[Y2 (c:=ay b 2 [118,111,105,100]=true) (by rw[g.is (by omega)];simp)];have k:∀(e:aG->PX (List (List UInt8)) aG),aw (aw (lift (da (ap t) [118,111,105,100])) (mU (ap t) (aT 0 0))) e a d=.error s:=λe=>by
   unfold aw lift;rw[j]
  rw[k];exact(g.kx a false).b4 (aP _ _ _)
 .rw[Y9 (c:=ay b 2 [118,111,105,100]=true) g];have k:∀(e:aG->PX (List (List UInt8)) aG),aw (aw (lift (da (ap t) [118,111,105,100])) (mU (ap t) (aT 0 0))) e a d=e ⟨[],0,.void⟩ a p:=λe=>by
   unfold aw lift;rw[j];rfl
  rw[k];refine eO (gj (eN n (kd:=4) (l:=[59]) (by decide))) (ee _) ?_;rintro A l z r o ⟨⟨rfl,-⟩,rfl⟩;exact Sx.ret o ⟨(kW _).symm,rfl,rfl,rfl⟩
 .rw[Y2 (c:=ay b 2 [118,111,105,100]=true) (by rw[g];simp)];simp only;have w:=yO (G:=λq x l i=>i=f.cZ q/\l=a++[x.1]) (λq=>Ak a 0 0) n;have k:∀(e:aG->PX (List (List UInt8)) aG),aw (aw (lift (da (ap t) [118,111,105,100])) (mU (ap t) (aT 0 0))) e a d=aw (dZ (ap t) (aT 0 0)) e a p:=λe=>by
   unfold aw lift;rw[j];rfl
  rw[k];refine wN w (aP _ _ _) (λh v=>v.i2 (by omega)) ?_;rintro m l z r o ⟨⟨rfl,rfl⟩,ok⟩;refine eO (gj (eN o (kd:=4) (l:=[59]) (by decide))) (ee _) ?_;rintro A C D B y ⟨⟨rfl,-⟩,rfl⟩;refine Sx.ret y ⟨rfl,ok.i8,?_,by rw[ok.x]⟩;rw[FJ ok.i8 ok.h4,ok.d5,ok.fA,ok.x];rfl
end
section
variable {t : List UInt8} {c i : St} {b j k m n : ac} {h g : br} {f : Mar.a5}
def Sy.af{i h:Type}{R c:h->i->br->Prop}{e:Except Mar.a5 (h×i×St)}(a:Sy t R e b)(l:∀d f g,R d f g->c d f g):Sy t c e b:=by
 unfold Sy at *
 split at a
 .obtain⟨g,j,k⟩:=a;exact⟨g,j,l _ _ _ k⟩
 .exact a
def fZ.pu{b:List be}{d:List aG}{e:List Int}(g:fZ b d e){c:aG}{f:Int}(i:dz b c.L f)(a:Nat):fZ b (d++List.replicate a c) (e++List.replicate a f):=by
 induction a with
 |zero=>simpa using g
 |succ a h=>
  have:=h.hj i;rw[YN,YN,<-List.replicate_succ',<-List.replicate_succ']at this;exact this
def pz(a:List Int×aG):List UInt8:=(if a.1=[]then [100,101,102,97,117,108,116,58,32]else a.1.flatMap mX)++mV a.2
def ep(t:List UInt8)(u:(List Int×List Int×List (List UInt8)×List UInt8)×ac):(Int×List UInt8)×ac:=go t u.1.2.2.1 u.2
def DG(a:(List Int×List Int×List (List UInt8)×List UInt8)×ac):aN a.2 (ep t a).2:=Du _ _
def qx(h:b.s.e=0)(of:Int)(g:Nat)(a f:List Int)(c:List (List UInt8))(d:List UInt8):dP t of (g+1) a f c d b =
  if ay (cf t c (bU t of (14-a.length) a [] b).2).2 2 [99,97,115,101]=true then dP t of g (bU t of (14-a.length) a [] b).1.1 (jX (bU t of (14-a.length) a [] b).1.1.length (cf t c (bU t of (14-a.length) a [] b).2).1.1 f) (cf t c (bU t of (14-a.length) a [] b).2).1.2.2 (d++(bU t of (14-a.length) a [] b).1.2++(cf t c (bU t of (14-a.length) a [] b).2).1.2.1) (cf t c (bU t of (14-a.length) a [] b).2).2
  else (((bU t of (14-a.length) a [] b).1.1,jX (bU t of (14-a.length) a [] b).1.1.length (cf t c (bU t of (14-a.length) a [] b).2).1.1 f,(cf t c (bU t of (14-a.length) a [] b).2).1.2.2,d++(bU t of (14-a.length) a [] b).1.2++(cf t c (bU t of (14-a.length) a [] b).2).1.2.1),(cf t c (bU t of (14-a.length) a [] b).2).2):=by
 conv=>lhs;unfold dP
 rw[Y2 (by simpa using h)]
def Qp(d:b.s.e=0)(of:Int)(f:Nat)(a h:List Int)(c:List (List UInt8))(g:List UInt8):aN (cf t c (bU t of (14-a.length) a [] b).2).2 (dP t of (f+1) a h c g b).2:=by
 rw[qx d];split
 .exact za _ _ _ _ _ _ _
 .exact ee _
def Ie(b:List Int)(c:List Int)(d:Int)(a:List Int)(e:a.length=b.length):jX (b++c).length d a=a++List.replicate c.length d:=by
 unfold jX;rw[Yq,e];congr 2;omega
def Cs(b:List (List Int×aG))(a:List Int)(c:aG):(dH (b++[(a,c)])).map (·.1)=(dH b).map (·.1)++a/\(dH (b++[(a,c)])).map (·.2)=(dH b).map (·.2)++List.replicate a.length c:=by
 unfold dH;constructor
 .simp[Function.comp_def]
 .simp[Function.comp_def,List.map_const']
def xt{b:List (List Int×aG)}(d:hC b=none)(a:List Int)(c:aG):hC (b++[(a,c)])=if a=[]then some c else none:=by
 unfold hC at *
 rw[List.find?_append];cases f:b.find? (λe=>e.1.isEmpty)with
 |some h=>rw[f]at d;cases d
 |none=>
  cases a with
  |nil=>simp
  |cons g a=>simp
def AF{b:List (List Int×aG)}(c:hC b=none):∀a∈b,a.1≠[]:=by
 intro a d e;unfold hC at c;have:b.find? (λa=>a.1.isEmpty)=none:=by simpa using c
 rw[List.find?_eq_none]at this;exact this a d (by simp[e])
structure wy(arms:List (List Int×aG))(u:(List Int×List Int×List (List UInt8)×List UInt8)×ac)(e:(Int×List UInt8)×ac)(j:List UInt8)(new:List (List Int×aG)):Prop where
 b2:(dH arms).map (·.1)=u.1.1
 c0:fZ e.2.y ((dH arms).map (·.2)) u.1.2.1
 gz:match hC arms with
  |none=>e.1.1 = -2
  |some d=>dz e.2.y d.L e.1.1
 j:u.1.2.2.2++e.1.2=j++new.flatMap pz
 m6:∀a∈arms,a.1=[]->hC arms=some a.2
def OY{u:(List Int×List Int×List (List UInt8)×List UInt8)×ac}(B:Q t h c u.2)(d:List (List Int×aG))(l:List (Int×Int))(y:List UInt8)(s:(dH d).map (·.1)=u.1.1)(j:hC d=none)(w:fZ u.2.y ((dH d).map (·.2)) u.1.2.1)(x:List (List Int×aG))(v:u.1.2.2.2=y++x.flatMap pz) :
  Sy t (λo _ g=>∃n,g=h.cZ (n.flatMap λe=>cg e.2.L)/\o=d++n/\wy o u (ep t u) y (x++n)) (lf (ap t) d (u.1.2.2.1,l) c) (ep t u).2:=by
 unfold lf ep go;rcases iz B (kd:=2) (l:=[100,101,102,97,117,108,116]) (by decide)with⟨N,i,b⟩|⟨H,i,b,k⟩|⟨H,i,b,k⟩
 .rw[uv i,Y2 (by rw[b.is (by omega)];simp)];exact Ya b
 .rw[ob i,Y9 b];simp only[if_true]
  refine qU (eO (gj (eN k (kd:=4) (l:=[58]) (by decide))) (wj _ _) ?_);rintro a0 P I K F ⟨⟨rfl,-⟩,rfl⟩;have a:=De F u.1.2.2.1;have D:cz u.2 (cf t u.1.2.2.1 (ab t 4 [58] (aJ t u.2))).2:=((eD _).u (an _ _ _)).al.u (mi _ _);generalize cf t u.1.2.2.1 (ab t 4 [58] (aJ t u.2))=J at *
  unfold aw hr;simp only;cases q:iA (ap t) (aT 0 0) u.1.2.2.1 I with
  |error f=>rw[q]at a;exact a
  |ok E=>
   obtain⟨p,O,R⟩:=E;rw[q]at a;obtain⟨L,G,C,z,A,M⟩:=a;refine⟨_,G,[([],p)],by rw[C];simp,rfl,?_⟩;have r:=Cs d [] p;refine⟨by rw[r.1,s];simp,by rw[r.2];simpa using w.al D,?_,?_,?_⟩
   .rw[xt j];exact z
   .rw[v,A];simp[pz]
   .intro e a m;rw[xt j,Y9 rfl];rcases Yn.1 a with a|a
    .exact absurd m (AF j e a)
    .simp at a;subst a;rfl
 .rw[ob i,Y2 (by rw[b];simp)];simp only[Ye,if_false]
  exact⟨_,k,[],(kW _).symm,by simp,⟨s,w,by rw[j],by simp[v],λe a m=>absurd m (AF j e a)⟩⟩
def Ex{u:(List Int×List Int×List (List UInt8)×List UInt8)×ac}(a:Bd f u.2):Bd f (ep t u).2:=by
 unfold ep go;rw[Y2 (by rw[a.is (by omega)];simp)];exact a
def OZ{of:Int}{p:Int->Bool}:∀(o v:Nat) (a:List (List Int×aG)) (m:List (List UInt8)) (l:List (Int×Int)) (k:List Int) (i:List UInt8) (c:St) (b:ac) (h:br),Q t h c b->nV b.y of p->l.map (·.1)=(dH a).map (·.1)->(((dH a).map (·.1)).length<12\/ay b 2 [99,97,115,101]=true)->((dH a).map (·.1)).length<=12->13<=((dH a).map (·.1)).length+o->13<=((dH a).map (·.1)).length+v->hC a=none->fZ b.y ((dH a).map (·.2)) k->
  Sy t (λB _ g=>∃x,g=h.cZ (x.flatMap λb0=>cg b0.2.L)/\B=a++x/\wy B (dP t of o ((dH a).map (·.1)) k m i b) (ep t (dP t of o ((dH a).map (·.1)) k m i b)) i x/\cz b (ep t (dP t of o ((dH a).map (·.1)) k m i b)).2) (hz (ap t) p v a (m,l) c) (ep t (dP t of o ((dH a).map (·.1)) k m i b)).2:=by
 intro o;induction o with
 |zero=>intro v a m l k i c b h _ _ _ _ q P;omega
 |succ o c8=>
  intro v a m l k i c b h K a6 c2 c1 c4 d9 e0 c0 a4;obtain⟨v,rfl⟩:∃c9,v=c9+1:=⟨v-1,by omega⟩;have G:=(Qp (t:=t) K.e of o ((dH a).map (·.1)) k m i).u (DG (t:=t) _);have r:=Pb (t:=t) (of:=of) (p:=p) (14-((dH a).map (·.1)).length) 13 [] l ((dH a).map (·.1)) [] c b h K a6 c2 c1 c4 (by omega) (by omega);have c7:=(mY (t:=t) of (14-((dH a).map (·.1)).length) ((dH a).map (·.1)) [] b).1;rw[qx K.e]at G ⊢;have a3:=a4.1;rw[YU,<-YU (f:=λd6:Int×aG=>d6.1)]at a3;generalize c6:(dH a).map (·.1)=y at *
  generalize bU t of (14-y.length) y [] b=M at *
  unfold hz aw kL;simp only;have b9:cases (ap t) p l c=hn (ap t) p 13 [] l c:=rfl;rw[b9];cases S:hn (ap t) p 13 [] l c with
  |error f=>
   rw[S]at r;rcases r with r|r
   .exact Y8 (r.b4 ((wj _ _).u G))
   .exact Y8 ((r.n8 m).b4 G)
  |ok L=>
   obtain⟨d,a7,d4⟩:=L;rw[S]at r;obtain⟨d7,d1,rfl,e2,N,C,b4,b5,b6,O⟩:=r;simp only[YT]at N O;subst N;have D:=De d1 m;have E:cz b (cf t m M.2).2:=c7.al.u (mi _ _);generalize cf t m M.2=n at *
   simp only;unfold hr;simp only;cases a0:iA (ap t) (aT 0 0) m d4 with
   |error f=>rw[a0]at D;exact Y8 (Er.b4 D G)
   |ok L=>
    obtain⟨j,F,e3⟩:=L;rw[a0]at D;obtain⟨a8,d2,R,b1,b2,b3⟩:=D;simp only;rw[b5,Ie y d n.1.1 k a3,b2,b3,O];have s:=Cs a d j;have a5:fZ n.2.y ((dH (a++[(d,j)])).map (·.2)) (k++List.replicate d.length n.1.1):=by
     rw[s.2];exact(a4.al E).pu b1 _
    have a1:hC (a++[(d,j)])=none:=by rw[xt c0,Y2 C]
    rw[c6]at s;have a2:i++d.flatMap mX++mV j=i++[(d,j)].flatMap pz:=by simp[pz,C]
    unfold lift;rcases vY d2 (kd:=2) (l:=[99,97,115,101]) (by decide)with⟨d8,H,z⟩|⟨d3,H,z⟩
    .rw[H,Y2 (by rw[z.is (by omega)];simp)];exact Ya (Ex (u:=((y++d,k++List.replicate d.length n.1.1,F,i++d.flatMap mX++mV j),n.2)) z)
    .rw[H];simp only;by_cases A:ay n.2 2 [99,97,115,101]=true
     .rw[Y9 A,Y9 A,<-s.1];have:=c8 v (a++[(d,j)]) F a7 (k++List.replicate d.length n.1.1) (i++d.flatMap mX++mV j) d3 n.2 a8 z (by
       obtain⟨e1,c3,-⟩:=E.y;rw[c3];rcases a6 with q|q|q|⟨q,d0,P,b8⟩
       .exact Y8 q
       .exact Ya (Y8 q)
       .exact Ya (Ya (Y8 q))
       .exact Ya (Ya (Ya ⟨q,d0,mj P,b8⟩))) (by rw[s.1];exact b4) (Ya A) (by rw[s.1];exact b6) (by rw[s.1];have:0<d.length:=YM.2 C;simp;omega) (by rw[s.1];have:0<d.length:=YM.2 C;simp;omega) a1 a5
      refine this.af ?_;rintro B d5 a9 ⟨x,I,J,w,b7⟩;refine⟨(d,j)::x,by rw[I,R,qI];simp,by rw[J];simp,⟨w.b2,w.c0,w.gz,?_,w.m6⟩,E.u b7⟩;rw[w.j,a2];simp
     .rw[Y2 A,Y2 A];have:=OY (t:=t) (u:=((y++d,k++List.replicate d.length n.1.1,F,i++d.flatMap mX++mV j),n.2)) z (a++[(d,j)]) a7 i s.1 a1 a5 [(d,j)] a2;have c5:cz b (ep t ((y++d,k++List.replicate d.length n.1.1,F,i++d.flatMap mX++mV j),n.2)).2:=E.u (sV _ _);refine this.af ?_;rintro B d5 a9 ⟨x,I,J,w⟩;exact⟨(d,j)::x,by rw[I,R,qI];simp,by rw[J];simp,by simpa using w,c5⟩
end
section
variable {t : List UInt8} {st g : St} {a f h i j : ac} {b c : br} {e : Mar.a5}
def Mh(a:ac):bW t [] false a=cK t a:=by
 unfold bW;simp
def jM.al{b c:Nl}{d:Ty}{of:Int}(e:jM a.y b d of)(h:cz a f)(i:Kp b c):jM f.y c d of:=by
 obtain⟨j,g,-⟩:=h.y;rw[g];exact e.cF j i
def jM.lt{a:List be}{f:Nl}{g:Ty}{of:Int}(d:jM a f g of)(j:5<=a.length):of<a.length:=by
 rcases d with⟨k,-,e,b⟩|⟨m,h,n,i,l,-,e,-,b⟩
 .omega
 .have:of.toNat<a.length:=by
   rcases Yj of.toNat a.length with c|c
   .exact c
   .rw[YA c]at b;cases b
  omega
def Ec(c:List UInt8)(a:aG)(b:List (List Int×aG)):List UInt8:=[117,110,105,111,110,32]++c++[32,115,119,105,116,99,104,32,40]++ik a.L++[32]++a.t++[41,32,123,32]++b.flatMap pz++[125,59,10]
def OI{h k:Type}{i:k->h->br->Prop}{d:PX h k}{g:h}(b:Sx t i (d g st) a):S t (λf c=>i f.1 f.2 c) (fH d g st) a:=by
 unfold fH;cases j:d g st with
 |ok f=>rw[j]at b;exact b
 |error e=>rw[j]at b;exact b
def OJ{h k:Type}{i:k->h->br->Prop}{d:PX h k}{g:h}(b:Sy t i (d g st) a):Sw t (λf c=>i f.1 f.2 c) (fH d g st) a:=by
 unfold fH;cases j:d g st with
 |ok f=>rw[j]at b;exact b
 |error e=>rw[j]at b;exact b
def Pt{r:Mar.bi}{p:Nat}(a4:Q t b st a)(B:b.pd=[])(c3:b.dc=0)(A:eb t st.w st.nx=.ok (r,p))(c4:ay a 2 [117,110,105,111,110]=true) :
  S t (λd c=>∃b4 E j h,d=.union b4 E j h/\pf b c d (Ec b4 j h) []) (hY (dQ (ap t) r.w) { st with w:=p,nx:=none }) (fX t (gh a)):=by
 by_cases x:24<=st.ae
 .have s:dQ (ap t) r.w { st with w:=p,nx:=none } = .error ⟨5,r.w⟩:=vu (st:={ st with w:=p,nx:=none }) x _ _;rw[hZ s];exact(vN a4 A x).b4 (Qo _)
 .have d0:=vM a4 A c4 x;have c6:dQ (ap t) r.w { st with w:=p,nx:=none } = av (gs (ap t)) (oR (ap t)) { st with w:=p,nx:=none,ae:=st.ae+1 }:=vv (st:={ st with w:=p,nx:=none }) x _ _;unfold fX;simp only;generalize ab t 2 [117,110,105,111,110] (gh a)=e7 at *
  generalize c8:aH t 2 e7=m;generalize K:bS t (ab t 4 [40] (ab t 2 [115,119,105,116,99,104] m.2))=i;generalize y:cK t i.2=k;generalize a8:dP t i.1.1 14 [] [] [k.1.text] ([117,110,105,111,110,32]++m.1.text++[32,115,119,105,116,99,104,32,40]++i.1.2++[32]++k.1.text++[41,32,123,32]) (ab t 4 [123] (ab t 4 [41] k.2))=f;have b6:aN (ep t f).2 (ab t 4 [59] (ab t 4 [125] (ep t f).2)):=(aP _ _ _).u (aP _ _ _);have a0:aN (ab t 4 [123] (ab t 4 [41] k.2)) (ab t 4 [59] (ab t 4 [125] (ep t f).2)):=by
   refine aN.u ?_ ((DG f).u b6);rw[<-a8];exact za _ _ _ _ _ _ _
  have R:aN k.2 (ab t 4 [59] (ab t 4 [125] (ep t f).2)):=(aP _ _ _).u ((aP _ _ _).u a0);have b5:aN i.2 (ab t 4 [59] (ab t 4 [125] (ep t f).2)):=by
   refine aN.u ?_ R;rw[<-y];exact sb _
  have P:aN (ab t 4 [40] (ab t 2 [115,119,105,116,99,104] m.2)) (ab t 4 [59] (ab t 4 [125] (ep t f).2)):=by
   refine aN.u ?_ b5;rw[<-K];exact DA _
  have s:S t (λd c=>∃(g:List UInt8×Nat) (j:aG) (h:List (List Int×aG)),d=.union g.1 g.2 j h/\m.1.text=g.1/\jM (ep t f).2.y (b.nl++[(g.1,none)]) j.L i.1.1/\wy h f (ep t f) ([117,110,105,111,110,32]++g.1++[32,115,119,105,116,99,104,32,40]++ik j.L++[32]++j.t++[41,32,123,32]) h/\c=(b.a4 g.1).cZ (h.flatMap λE=>cg E.2.L)/\az b.nl g.1=none/\At g.1 g.2 (ep t f).2.F)
    (dQ (ap t) r.w { st with w:=p,nx:=none }) (ab t 4 [59] (ab t 4 [125] (ep t f).2)):=by
   rw[c6];have a5:=rU d0 B;rw[c8]at a5;refine fe a5 ((aP _ _ _).u ((aP _ _ _).u P)) ?_;rintro g g0 b9 q ⟨rfl,D,h0,e2,e3⟩;unfold oR;refine fe (eN q (kd:=2) (l:=[115,119,105,116,99,104]) (by decide)) ((aP _ _ _).u P) ?_;rintro n g2 e9 M ⟨rfl,-⟩;refine fe (eN M (kd:=4) (l:=[40]) (by decide)) P ?_;rintro n g3 f0 N ⟨rfl,-⟩;have a7:=Pp N B;rw[K]at a7;refine zQ a7 b5 (λe L=>?_) ?_
   .have:=L.dN (t:=t);rw[y]at this;exact this.b4 R
   rintro C g4 f1 O ⟨rfl,e4,e5,e6⟩;unfold qw;have a6:=we (t:=t) O [] 0 0;rw[Mh,y]at a6;refine fe (OI a6) R ?_;rintro b3 g5 f2 d2 ⟨rfl,a2,h1,b7⟩;unfold sf;refine fe (eN d2 (kd:=4) (l:=[41]) (by decide)) ((aP _ _ _).u a0) ?_;rintro n g6 f3 d3 ⟨rfl,-⟩;refine fe (eN d3 (kd:=4) (l:=[123]) (by decide)) a0 ?_;rintro n d8 f4 d4 ⟨rfl,-⟩;have b0:Sm i.2 (ab t 4 [123] (ab t 4 [41] k.2)):=by
    rw[<-y];exact(jd _).u ((an _ _ _).u (an _ _ _))
   have I:=OZ (t:=t) (of:=i.1.1) (p:=C.2) 14 13 [] b3.2 [] [] ([117,110,105,111,110,32]++m.1.text++[32,115,119,105,116,99,104,32,40]++i.1.2++[32]++k.1.text++[41,32,123,32]) d8 (ab t 4 [123] (ab t 4 [41] k.2)) _ d4 (e6.of b0) rfl (Y8 (by simp[dH])) (by simp[dH]) (by simp[dH]) (by simp[dH]) rfl ⟨rfl,λb2 p k A=>by simp at A⟩;rw[b7,show (List.map (λn:Int×aG=>n.1) (dH []))=[]from rfl]at I;rw[<-a2]at I;have J:=OJ I;simp only[YT]at J;rw[a8]at J;rw[b7,<-a2];refine zQ J b6 (λe L=>(L.i2 (by omega)).b4 (aP _ _ _)) ?_;rintro d7 g7 f5 d5 ⟨f9,d9,a1,e0,e1⟩;unfold kS oP;refine fe (eN d5 (kd:=4) (l:=[125]) (by decide)) (aP _ _ _) ?_;rintro n g8 f6 d6 ⟨rfl,-⟩;refine fe (eN d6 (kd:=4) (l:=[59]) (by decide)) (ee _) ?_;rintro n g1 e8 d1 ⟨rfl,-⟩;have b1:cz i.2 (ep t f).2:=b0.al.u e1;have c7:(ep t f).2.F=m.2.F:=by
    have:i.2.F=m.2.F:=by rw[<-K];exact((an _ _ _).u ((an _ _ _).u (oJ _))).F
    rw[<-this];exact b1.F
   refine S.ret d1 ⟨g,⟨k.1.text,b3.1.2,C.1⟩,d7.1,by rw[a2],D,e4.al b1 (zF _),?_,by rw[d9,a1],e2,by rw[c7,e3];exact wQ _ g _ _⟩;rw[a1,<-D,<-e5];simpa[a1]using e0
  show S t _ _ (dW (f.1.2.2.2++(ep t f).1.2++[125,59,10]) (cY m.1.text (ab t 4 [59] (ab t 4 [125] (ep t f).2)).y.length (bK ⟨13,0,i.1.1,f.1.1,f.1.2.1,(ep t f).1.1,[],0⟩ (ab t 4 [59] (ab t 4 [125] (ep t f).2)))));cases z:dQ (ap t) r.w { st with w:=p,nx:=none }with
  |error e=>
   rw[z]at s;rw[hZ z];exact Er.b4 s ((fu _ _).u ((sa _ _ _).u (mB _ _)))
  |ok C=>
   obtain⟨d,g9⟩:=C;rw[z]at s;obtain⟨b9,q,g,j,h,rfl,D,w,u,rfl,a3,F⟩:=s;rw[ow z,D,u.j,<-u.b2];have w:jM (ab t 4 [59] (ab t 4 [125] (ep t f).2)).y (b.nl++[(g.1,none)]) j.L i.1.1:=w;have F:At g.1 g.2 (ab t 4 [59] (ab t 4 [125] (ep t f).2)).F:=F;have G:fZ (ab t 4 [59] (ab t 4 [125] (ep t f).2)).y ((dH h).map (·.2)) f.1.2.1:=u.c0;have o:match hC h with
    |none=>(ep t f).1.1 = -2
    |some d=>dz (ab t 4 [59] (ab t 4 [125] (ep t f).2)).y d.L (ep t f).1.1:=u.gz
   have c0:=u.m6;generalize ab t 4 [59] (ab t 4 [125] (ep t f).2)=b8 at *
   generalize (ep t f).1.1=H at *
   have c5:=G.lt q.ix;have f7:H<b8.y.length:=by
    cases v:hC h with
    |none=>rw[v]at o;simp only at o;have:=q.ix;omega
    |some d=>rw[v]at o;exact dz.lt q.ix o
   have f8:=w.lt q.ix;have M:=q.row (r:=⟨13,0,i.1.1,(dH h).map (·.1),f.1.2.1,H,[],0⟩) ⟨by simp<;>omega,λn c9=>(by have:=c5 n c9;omega),by simp<;>omega,by simp⟩ (by simp);have a9:az (b.a4 g.1).nl g.1=some none:=by rw[nr _ _ _ a3,Y9 rfl]
   have N:=M.l3 (d:=.union g.1 g.2 j h) (n:=b8.y.length) a9 B F rfl ⟨by simp,i.1.1,f.1.2.1,H,mu _ _,w.cF _ (Bt _ a9),by rw[G.1];simp,λb2 p k c1 c2=>(G.2 b2 p k.2 c1 (by rw[List.getElem?_map,c2];rfl)).cF _,by
    cases v:hC h with
    |none=>rw[v]at o;exact o
    |some d=>rw[v]at o;exact dz.cF _ o,c0⟩
   have O:=N.cv (([117,110,105,111,110,32]++g.1++[32,115,119,105,116,99,104,32,40]++ik j.L++[32]++j.t++[41,32,123,32])++h.flatMap pz++[125,59,10]);exact⟨_,O,g.1,g.2,j,h,rfl,⟨B,c3,rfl,rfl,by simp[br.cZ],rfl,[],qp a3,by simp⟩⟩
end
section
variable {t : List UInt8} {st h : St} {a d i j g : ac} {b c : br} {f : Mar.a5}
def Di(f:Q t b st a)(l:List (Int×Int))(d:List Int)(i:l.map (·.1)=d):Sx t (λe j c=>c=b/\e=(bD t d a).1/\j.map (·.1)=d++[e]) (mg (ap t) l st) (bD t d a).2:=by
 refine eO (gj (eN f (kd:=4) (l:=[61]) (by decide))) ((hc _ _ _).u ((kk _ _ _ _).u (aP _ _ _))) ?_;rintro p k w q m ⟨⟨rfl,-⟩,rfl⟩;refine eO (wb m k d i 0 4294967295) (aP _ _ _) ?_;rintro e u x r n ⟨rfl,g,h,-,-⟩;refine eO (gj (eN n (kd:=4) (l:=[59]) (by decide))) (ee _) ?_;rintro p v y s o ⟨⟨rfl,-⟩,rfl⟩;exact Sx.ret o ⟨rfl,g,h⟩
def SU(b:Bd f a):Er f (eC t a).2:=by
 unfold eC;rw[Y2 (by rw[b.is (by omega)];simp)];exact b.H
def Dl(k:Q t b st a):Sw t (λh c=>c=b.cZ (cg h)/\dz (eC t a).2.y h (eC t a).1.1/\(eC t a).1.2=ik h) (lH (ap t) st) (eC t a).2:=by
 unfold lH eC;rcases iz k (kd:=2) (l:=[118,111,105,100]) (by decide)with⟨r,e,d⟩|⟨i,e,d,f⟩|⟨i,e,d,f⟩
 .unfold av;rw[e,Y2 (by rw[d.is (by omega)];simp)];exact Y8 d.H
 .unfold av;rw[e,Y9 d];exact⟨b,f,(kW b).symm,rfl,rfl⟩
 .have j:∀(g:Bool->PM Ty),av (da (ap t) [118,111,105,100]) g st=g false i:=λg=>by unfold av;rw[e]
  rw[j,Y2 (by rw[d];simp)];simp only[Ye,if_false]
  have:=Dj f;unfold Sw at this ⊢;split at this
  .obtain⟨q,p,m,-,n,o⟩:=this;exact⟨_,p,m,n,o⟩
  .exact this
def XL(d:List be)(g:Int)(e:List (Int×eu))(f:List bj):Prop:=f.length=e.length/\∀(c:Nat) (b:Int×eu) (a:bj),e[c]? = some b->f[c]? = some a->a.prog=g/\a.d1=b.1/\a.lX=b.2.num/\dz d b.2.c4 a.c4/\dz d b.2.dr a.dr
def zU(c:List be)(b:Int):XL c b [] []:=⟨rfl,λe d f a=>by simp at a⟩
def XL.cF{f:List be}{e:Int}{g k:List (Int×eu)}{m n:List bj}(a:XL f e g m)(j:XL f e k n):XL f e (g++k) (m++n):=by
 refine⟨by simp[a.1,j.1],?_⟩;intro i h l c d;rcases Yj i g.length with b|b
 .rw[Ys b]at c;rw[Ys (by rw[a.1];exact b)]at d;exact a.2 i h l c d
 .rw[Yw b]at c;rw[Yw (by rw[a.1];exact b),a.1]at d;exact j.2 _ h l c d
def XL.al{e:Int}{f:List (Int×eu)}{g:List bj}(b:XL a.y e f g)(c:cz a d):XL d.y e f g:=⟨b.1,λp h q n o=>by
 obtain⟨i,j,k,l,m⟩:=b.2 p h q n o;exact⟨i,j,k,l.al c,m.al c⟩⟩
def XL.d1{l:List be}{k:Int}{g:List eu}{h:List bj}(i:XL l k (g.map λc=>(0,c)) h)(j:Int):XL l k (g.map λc=>(j,c)) (h.map λq=>{ q with d1:=j }):=by
 refine⟨by have:=i.1;simp at *;exact this,?_⟩;intro f s u a b;rw[List.getElem?_map]at a b;cases d:g[f]? with
 |none=>rw[d]at a;cases a
 |some c=>
  cases e:h[f]? with
  |none=>rw[e]at b;cases b
  |some r=>
   rw[d]at a;rw[e]at b;simp at a b;obtain⟨m,t,n,o,p⟩:=i.2 f (0,c) r (by rw[List.getElem?_map,d];rfl) e;subst a;subst b;exact⟨m,rfl,n,o,p⟩
def XL.prog{f:List be}{g:List (Int×eu)}{c:List bj}(d:XL f 0 g c)(n:Int):XL f n g (c.map λo=>{ o with prog:=n }):=by
 refine⟨by have:=d.1;simp at *;exact this,?_⟩;intro e h r m a;rw[List.getElem?_map]at a;cases b:c[e]? with
 |none=>rw[b]at a;cases a
 |some p=>
  rw[b]at a;simp at a;obtain⟨q,i,j,k,l⟩:=d.2 e h p m b;subst a;exact⟨rfl,i,j,k,l⟩
def rN(a:eu):List UInt8:=ik a.dr++[32]++a.t++[40]++ik a.c4++[41,32,61,32]++bC a.num++[59,32]
abbrev kg(t:List UInt8)(b:Nat)(a:ac):(Int×List UInt8)×ac:=eC t (ar b 8 a)
abbrev mr(t:List UInt8)(b:Nat)(c:List (List UInt8))(a:ac):ef×ac:=bW t c false (kg t b a).2
abbrev kM(t:List UInt8)(b:Nat)(c:List (List UInt8))(a:ac):(Int×List UInt8)×ac:=eC t (ab t 4 [40] (mr t b c a).2)
abbrev fE(t:List UInt8)(b:Nat)(d:List (List UInt8))(c:List Int)(a:ac):Int×ac:=bD t c (ab t 4 [41] (kM t b d a).2)
abbrev vH(t:List UInt8)(b:List bj)(c:List (List UInt8))(d:List Int)(a:ac):List bj:=b++[⟨0,0,(fE t b.length c d a).1,(kM t b.length c a).1.1,(kg t b.length a).1.1⟩]
def yA(h:a.s.e=0)(g:Nat)(b:List bj)(c:List (List UInt8))(d:List Int)(f:List UInt8):eZ t (g+1) b c d f a =
  if ay (fE t b.length c d a).2 4 [125]=true then ((vH t b c d a,f++(kg t b.length a).1.2++[32]++(mr t b.length c a).1.text++[40]++(kM t b.length c a).1.2++[41,32,61,32]++bC (fE t b.length c d a).1++[59,32]),(fE t b.length c d a).2)
  else eZ t g (vH t b c d a) (c++[(mr t b.length c a).1.text]) (d++[(fE t b.length c d a).1]) (f++(kg t b.length a).1.2++[32]++(mr t b.length c a).1.text++[40]++(kM t b.length c a).1.2++[41,32,61,32]++bC (fE t b.length c d a).1++[59,32]) (fE t b.length c d a).2:=by
 conv=>lhs;unfold eZ
 rw[Y2 (by simpa using h)]
def DC(b:Nat)(d:List (List UInt8))(c:List Int)(a:ac):aN (ar b 8 a) (fE t b d c a).2:=(rZ _).u ((lL _ _ _).u ((aP _ _ _).u ((rZ _).u ((aP _ _ _).u (mA _ _)))))
def HP(b:Nat)(d:List (List UInt8))(c:List Int)(a:ac):cz a (fE t b d c a).2:=(cx _ _ _).al.u ((sW _).u ((gZ _ _ _).al.u ((an _ _ _).al.u ((sW _).u ((an _ _ _).al.u (ni _ _))))))
def yY(b:Nat)(d:List bj)(g:List (List UInt8))(e:List Int)(f:List UInt8)(a:ac):aN a (eZ t b d g e f a).2:=λc=>by
 cases b with
 |zero=>exact⟨rfl,rfl⟩
 |succ b=>unfold eZ;rw[Y9 c];exact⟨rfl,rfl⟩
def DD(f:a.s.e=0)(g:Nat)(b:List bj)(d:List (List UInt8))(c:List Int)(h:List UInt8):aN (fE t b.length d c a).2 (eZ t (g+1) b d c h a).2:=by
 rw[yA f];split
 .exact ee _
 .exact yY _ _ _ _ _ _
def Pk(I:Q t b st a){e:Nat}(M:ar e 8 a=a)(d:List (List UInt8))(i:List (Int×Int))(h:List Int)(N:i.map (·.1)=h) :
  Sx t (λg n c=>c=b.cZ (lz g)/\n.1=d++[g.t]/\n.2.map (·.1)=h++[g.num]/\(mr t e d a).1.text=g.t/\(fE t e d h a).1=g.num/\dz (fE t e d h a).2.y g.dr (kg t e a).1.1/\dz (fE t e d h a).2.y g.c4 (kM t e d a).1.1/\(kg t e a).1.2=ik g.dr/\(kM t e d a).1.2=ik g.c4) (jC (ap t) (d,i) st) (fE t e d h a).2:=by
 unfold jC;have v:=Dl I;have H:kg t e a=eC t a:=by unfold kg;rw[M]
 rw[<-H]at v;have s:aN (kM t e d a).2 (fE t e d h a).2:=(aP _ _ _).u (mA _ _);have u:aN (mr t e d a).2 (fE t e d h a).2:=(aP _ _ _).u ((rZ _).u s);have x:cz (kM t e d a).2 (fE t e d h a).2:=(an _ _ _).al.u (ni _ _);have a4:cz (kg t e a).2 (fE t e d h a).2:=(gZ _ _ _).al.u ((an _ _ _).al.u ((sW _).u x));refine wN (zP v) ((lL _ _ _).u u) (λf p=>(p.kr d false).b4 u) ?_;rintro b3 b4 w y O ⟨⟨K,A,B⟩,rfl⟩;have k:=we O d 0 0;have J:Sx t (λq (n:eW) c=>c=y/\(mr t e d a).1.text=q.1/\n=(d++[q.1],i)) (hr (name (ap t) (aT 0 0)) (d,i) w) (mr t e d a).2:=by
  unfold hr;simp only;cases j:name (ap t) (aT 0 0) d w with
  |error f=>rw[j]at k;exact k
  |ok g=>
   rw[j]at k;obtain⟨z,r,rfl,o,b0,C⟩:=k;exact⟨_,r,rfl,o,by rw[C]⟩
 refine eO J u ?_;rintro q b5 b9 z r ⟨rfl,o,rfl⟩;refine eO (gj (eN r (kd:=4) (l:=[40]) (by decide))) ((rZ _).u s) ?_;rintro a3 b6 c0 a5 P ⟨⟨rfl,-⟩,rfl⟩;refine wN (zP (Dl P)) s (λf p=>(p.i2 (by omega)).b4 (mA _ _)) ?_;rintro a9 b7 c1 a6 R ⟨⟨L,D,E⟩,rfl⟩;refine eO (gj (eN R (kd:=4) (l:=[41]) (by decide))) (mA _ _) ?_;rintro a3 b8 a2 a7 a0 ⟨⟨rfl,-⟩,rfl⟩;have m:=Di a0 i h N;unfold aw kL;simp only;cases j:mg (ap t) i a2 with
 |error f=>rw[j]at m;exact m
 |ok g=>
  obtain⟨b1,b2,c2⟩:=g;rw[j]at m;obtain⟨a8,a1,rfl,F,G⟩:=m;exact⟨_,a1,by rw[L,K,qI];rfl,rfl,G,o,F.symm,A.al a4,D.al x,B,E⟩
def Pl:∀(k:Nat) (j:List eu) (l:List bj) (d:List (List UInt8)) (p:List (Int×Int)) (i:List Int) (m:List UInt8) (st:St) (a:ac) (b:br),Q t b st a->p.map (·.1)=i->j.length+k=9->j.length<=8->XL a.y 0 (j.map λh=>(0,h)) l->
  Sx t (λ_ o c=>∃s,c=b.cZ (s.flatMap lz)/\o.1=j++s/\XL (eZ t (k+1) l d i m a).2.y 0 ((j++s).map λh=>(0,h)) (eZ t (k+1) l d i m a).1.1/\(eZ t (k+1) l d i m a).1.2=m++s.flatMap rN/\cz a (eZ t (k+1) l d i m a).2) (ma (ap t) 8 (jG (ap t)) k j.length (j,(d,p)) st) (ab t 4 [125] (eZ t (k+1) l d i m a).2):=by
 intro k;induction k with
 |zero=>intro j l d p i m st a b _ _ c3 c4;omega
 |succ k b6=>
  intro j l d p i m st a b q b3 c5 c6 v;have L:l.length=j.length:=by have:=v.1;simpa using this
  have P:=(DD (t:=t) q.e (k+1) l d i m).u (aP (t:=t) 4 [125] _);have C:=(DC (t:=t) l.length d i a).u P;unfold ma;rcases pk t st with⟨D,o,r⟩|⟨f,r⟩
  .rw[yz r];have w:=q.et r l.length 8;by_cases I:8<=j.length
   .rw[vT I];rw[Y9 (by rw[L];omega)]at w;rw[w]at C;exact(q.es (e:=5) (a:=D.w) (by omega)).b4 C
   .rw[vU I];rw[Y2 (by rw[L];omega)]at w;have x:=Pk (q.hH r) w d p i b3;have b5:Sx t (λ_ (o:List eu×eW) c=>∃h,c=b.cZ (lz h)/\o.1=j++[h]/\o.2.1=d++[h.t]/\o.2.2.map (·.1)=i++[h.num]/\(mr t l.length d a).1.text=h.t/\(fE t l.length d i a).1=h.num/\dz (fE t l.length d i a).2.y h.dr (kg t l.length a).1.1/\dz (fE t l.length d i a).2.y h.c4 (kM t l.length d a).1.1/\(kg t l.length a).1.2=ik h.dr/\(kM t l.length d a).1.2=ik h.c4) (jG (ap t) (j,(d,p)) { st with w:=o,nx:=some D }) (fE t l.length d i a).2:=by
     unfold jG;simp only;cases K:jC (ap t) (d,p) { st with w:=o,nx:=some D }with
     |error f=>rw[K]at x;exact x
     |ok h=>
      rw[K]at x;obtain⟨a0,c0,b2,a2⟩:=x;exact⟨_,c0,h.1,b2,rfl,a2⟩
    refine eO b5 P ?_;rintro c1 b7 d0 S b9 ⟨h,J,E,F,G,H,z,a3,a4,a5,a6⟩;have B:=HP (t:=t) l.length d i a;rw[yA q.e];have M:XL (fE t l.length d i a).2.y 0 ((j++[h]).map λh=>(0,h)) (vH t l d i a):=by
     rw[List.map_append];refine(v.al B).cF ⟨rfl,?_⟩;intro N a1 d1 A v;match N with
     |0=>
      simp at A v;subst A;subst v;exact⟨rfl,rfl,z,a4,a3⟩
     |N+1=>simp at A
    have b4:m++(kg t l.length a).1.2++[32]++(mr t l.length d a).1.text++[40]++(kM t l.length d a).1.2++[41,32,61,32]++bC (fE t l.length d i a).1++[59,32]=m++rN h:=by
     rw[a5,H,a6,z];simp[rN]
    rw[b4,H,z];obtain⟨c7,c8,b8⟩:=b7;simp only at E F G;subst E;subst F;generalize vH t l d i a=O at *
    generalize (fE t l.length d i a).2=g at *
    rw[wV];rcases iz b9 (kd:=4) (l:=[125]) (by decide)with⟨c2,u,n⟩|⟨R,u,n,y⟩|⟨R,u,n,y⟩
    .rw[uv u,Y2 (by rw[n.is (by omega)];simp)];exact(((n.et (O.length) 8).b4 (DC _ _ _ _)).b4 (DD n.e k _ _ _ _)).b4 (aP _ _ _)
    .rw[ob u,Y9 n,mH n];exact⟨_,y,[h],by rw[J];simp,rfl,M,by simp,B⟩
    .rw[ob u,Y2 (by rw[n];simp)];simp only[Ye,if_false]
     have:=b6 (j++[h]) O (d++[h.t]) b8 (i++[h.num]) (m++rN h) R g S y G (by simp;omega) (by simp;omega) M;rw[show (j++[h]).length=j.length+1 by simp]at this;refine this.af ?_;rintro c1 c9 a0 ⟨s,a7,a8,a9,b0,b1⟩;refine⟨h::s,by rw[a7,J,qI];simp,by rw[a8];simp,?_,by rw[b0];simp,B.u b1⟩;simpa using a9
  .rw[yy r];exact((q.bd r).et _ _).b4 C
end
section
variable {t : List UInt8} {st h : St} {b i j σ1 σ2 : ac} {c f : br} {g : Mar.a5}
def oT(v:eJ):List UInt8:=[118,101,114,115,105,111,110,32]++v.t++[32,123,32]++v.ak.flatMap rN++[125,32,61,32]++bC v.num++[59,32]
def nK(v:eJ):List (Int×eu):=v.ak.map λa=>(v.num,a)
def CS{e:Type}{h:Unit->e->br->Prop}{c:PX e Unit}{d:e}(a:Sx t h (c d st) b):S t (λj f=>h () j f) (ih c d st) b:=by
 unfold ih;cases i:c d st with
 |ok j=>rw[i]at a;exact a
 |error g=>rw[i]at a;exact a
def Pu(J:Q t c st b)(a:List (List UInt8))(j:List (Int×Int))(d:List Int)(N:j.map (·.1)=d) :
  Sx t (λv u f=>f=c.cZ (fc v)/\u.1=a++[v.t]/\u.2.map (·.1)=d++[v.num]/\(eG t a d b).1.ca=v.t/\(eG t a d b).1.num=v.num/\(eG t a d b).1.j=oT v/\XL (eG t a d b).2.y 0 (nK v) (eG t a d b).1.l) (jF (ap t) (a,j) st) (eG t a d b).2:=by
 unfold jF eG;simp only;generalize C:bW t a false (ab t 2 [118,101,114,115,105,111,110] b)=h;generalize B:eZ t 10 [] [] [] ([118,101,114,115,105,111,110,32]++h.1.text++[32,123,32]) (ab t 4 [123] h.2)=e;have y:aN (ab t 4 [125] e.2) (bD t d (ab t 4 [125] e.2)).2:=mA _ _;have z:aN (ab t 4 [123] h.2) (ab t 4 [125] e.2):=by
  refine aN.u ?_ (aP _ _ _);rw[<-B];exact yY _ _ _ _ _ _
 refine eO (gj (eN J (kd:=2) (l:=[118,101,114,115,105,111,110]) (by decide))) ?_ ?_
 .refine aN.u ?_ ((aP 4 [123] h.2).u (z.u y));rw[<-C];exact lL _ _ _
 rintro a7 b4 D E R ⟨⟨rfl,-⟩,rfl⟩;have k:=we R a 0 0;rw[C]at k;have K:Sx t (λq (u:eW) f=>f=E/\h.1.text=q.1/\u=(a++[q.1],j)) (hr (name (ap t) (aT 0 0)) (a,j) D) h.2:=by
  unfold hr;cases m:name (ap t) (aT 0 0) a D with
  |error g=>rw[m]at k;exact k
  |ok s=>
   rw[m]at k;obtain⟨A,x,rfl,n,b0,G⟩:=k;exact⟨_,x,rfl,n,by rw[G]⟩
 refine eO K ((aP _ _ _).u (z.u y)) ?_;rintro q b5 a3 A x ⟨rfl,n,rfl⟩;have M:Sx t (λ_ (r:List eu×eW) f=>f=A.cZ (r.1.flatMap lz)/\XL e.2.y 0 (r.1.map λs=>(0,s)) e.1.1/\e.1.2=[118,101,114,115,105,111,110,32]++q.1++[32,123,32]++r.1.flatMap rN) (ew (ap t) 8 (jG (ap t)) ([],([],[])) a3) (ab t 4 [125] e.2):=by
  refine eO (gj (eN x (kd:=4) (l:=[123]) (by decide))) z ?_;rintro a7 a6 a4 a8 a0 ⟨⟨rfl,-⟩,rfl⟩;have:=Pl (t:=t) 9 [] [] [] [] [] ([118,101,114,115,105,111,110,32]++h.1.text++[32,123,32]) a4 (ab t 4 [123] h.2) _ a0 rfl (by simp) (by simp) (zU _ _);rw[B]at this;refine this.af ?_;rintro a6 b3 F ⟨b2,rfl,i,o,H,-⟩;simp only[YT]at i o;exact⟨by rw[i],by rw[i];exact o,by rw[i,H,n]⟩
 refine eO (gj (CS M)) y ?_;rintro r b6 a5 F a1 ⟨⟨L,i,o⟩,rfl⟩;have p:=Di a1 j d N;unfold aw kL;cases m:mg (ap t) j a5 with
 |error g=>rw[m]at p;exact p
 |ok s=>
  obtain⟨P,b1,b7⟩:=s;rw[m]at p;obtain⟨a9,a2,rfl,w,I⟩:=p;have O:(bD t d (ab t 4 [125] e.2)).2.y=e.2.y:=by
   exact((an (t:=t) 4 [61] (ab t 4 [125] e.2)).u ((fW _ _ _).u ((jE _ _ _ _).u (an _ _ _)))).y
  refine⟨_,a2,L,rfl,I,n,w.symm,?_,?_⟩
  .rw[<-w,o];simp[oT]
  .rw[<-w,O];exact i.d1 P
def HS(a:List (List UInt8))(c:List Int)(b:ac):cz b (eG t a c b).2:=AN _ _ _
def DI(a:List (List UInt8))(c:List Int)(b:ac):aN b (eG t a c b).2:=by
 exact(aP _ _ _).u ((lL _ _ _).u ((aP _ _ _).u ((yY _ _ _ _ _ _).u ((aP _ _ _).u (mA _ _)))))
def wu(g:b.s.e=0)(f:Nat)(c:List (List UInt8))(a:List Int)(all:List bj)(d:List UInt8):eq t (f+1) c a all d b =
  if ay (eG t c a (ar a.length 4 b)).2 4 [125]=true then ((all++(eG t c a (ar a.length 4 b)).1.l,d++(eG t c a (ar a.length 4 b)).1.j),(eG t c a (ar a.length 4 b)).2)
  else eq t f (c++[(eG t c a (ar a.length 4 b)).1.ca]) (a++[(eG t c a (ar a.length 4 b)).1.num]) (all++(eG t c a (ar a.length 4 b)).1.l) (d++(eG t c a (ar a.length 4 b)).1.j) (eG t c a (ar a.length 4 b)).2:=by
 conv=>lhs;unfold eq
 rw[Y2 (by simpa using g)]
def DH(d:b.s.e=0)(f:Nat)(c:List (List UInt8))(a:List Int)(all:List bj)(g:List UInt8):aN (eG t c a (ar a.length 4 b)).2 (eq t (f+1) c a all g b).2:=by
 rw[wu d];split
 .exact ee _
 .exact zb _ _ _ _ _ _
def Pv:∀(j:Nat) (i:List eJ) (h:List (List UInt8)) (q:List (Int×Int)) (d:List Int) (all:List bj) (m:List UInt8) (st:St) (b:ac) (c:br),Q t c st b->q.map (·.1)=d->d.length=i.length->i.length+j=5->i.length<=4->XL b.y 0 (i.flatMap nK) all->
  Sx t (λ_ o f=>∃s,f=c.cZ (s.flatMap fc)/\o.1=i++s/\XL (eq t (j+1) h d all m b).2.y 0 ((i++s).flatMap nK) (eq t (j+1) h d all m b).1.1/\(eq t (j+1) h d all m b).1.2=m++s.flatMap oT/\cz b (eq t (j+1) h d all m b).2) (ma (ap t) 4 (ja (ap t)) j i.length (i,(h,q)) st) (ab t 4 [125] (eq t (j+1) h d all m b).2):=by
 intro j;induction j with
 |zero=>intro i h q d all m st b c _ _ _ b9 c0;omega
 |succ j b0=>
  intro i h q d all m st b c p a7 B c1 c2 a9;have y:=(DH (t:=t) p.e (j+1) h d all m).u (aP (t:=t) 4 [125] _);have C:=(DI (t:=t) h d (ar d.length 4 b)).u y;unfold ma;rcases pk t st with⟨D,o,r⟩|⟨g,r⟩
  .rw[yz r];have w:=p.et r d.length 4;by_cases E:4<=i.length
   .rw[vT E];rw[Y9 (by rw[B];omega)]at w;rw[w]at C;exact(p.es (e:=5) (a:=D.w) (by omega)).b4 C
   .rw[vU E];rw[Y2 (by rw[B];omega)]at w;rw[wu p.e];rw[wu p.e]at y;rw[w]at y ⊢;have x:=Pu (p.hH r) h q d a7;have A:=HS (t:=t) h d b;generalize eG t h d b=k at *
    have a8:Sx t (λ_ (o:List eJ×eW) f=>∃v,f=c.cZ (fc v)/\o.1=i++[v]/\o.2.1=h++[v.t]/\o.2.2.map (·.1)=d++[v.num]/\k.1.ca=v.t/\k.1.num=v.num/\k.1.j=oT v/\XL k.2.y 0 (nK v) k.1.l) (ja (ap t) (i,(h,q)) { st with w:=o,nx:=some D }) k.2:=by
     unfold ja;cases G:jF (ap t) (h,q) { st with w:=o,nx:=some D }with
     |error g=>rw[G]at x;exact x
     |ok b4=>
      rw[G]at x;obtain⟨K,b6,a6,L⟩:=x;exact⟨_,b6,b4.1,a6,rfl,L⟩
    refine eO a8 y ?_;rintro b7 b2 c6 J b5 ⟨v,F,M,N,O,P,R,S,a0⟩;rw[P,R,S];have H:XL k.2.y 0 ((i++[v]).flatMap nK) (all++k.1.l):=by
     rw[YK];refine(a9.al A).cF ?_;simpa using a0
    obtain⟨c3,c4,b3⟩:=b2;subst M;subst N;generalize k.1.l=b1 at *
    generalize k.2=σ2 at *
    rw[wV];rcases iz b5 (kd:=4) (l:=[125]) (by decide)with⟨b8,u,n⟩|⟨I,u,n,z⟩|⟨I,u,n,z⟩
    .rw[uv u,Y2 (by rw[n.is (by omega)];simp)];exact(((n.et _ _).b4 (DI _ _ _)).b4 (DH n.e j _ (d++[v.num]) _ _)).b4 (aP _ _ _)
    .rw[ob u,Y9 n,mH n];exact⟨_,z,[v],by rw[F];simp,rfl,H,by simp,A⟩
    .rw[ob u,Y2 (by rw[n];simp)];have:=b0 (i++[v]) (h++[v.t]) b3 (d++[v.num]) (all++b1) (m++oT v) I σ2 J z O (by simp[B]) (by simp;omega) (by simp;omega) H;rw[show (i++[v]).length=i.length+1 by simp]at this;refine this.af ?_;rintro b7 c5 K ⟨s,a1,a2,a3,a4,a5⟩;refine⟨v::s,by rw[a1,F,qI];simp,by rw[a2];simp,?_,by rw[a4];simp,A.u a5⟩;simpa using a3
  .rw[yy r];exact((p.bd r).et _ _).b4 C
def tJ(b:List UInt8)(c:List eJ)(a:Int):List UInt8:=[112,114,111,103,114,97,109,32]++b++[32,123,32]++c.flatMap oT++[125,32,61,32]++bC a++[59,10]
def CY{g:Type}{b:List g}{a:Nat}{f:g}(c:b[a]? = some f):b.set a f=b:=by
 apply List.ext_getElem?;intro i;rw[YP];by_cases e:a=i
 .subst e;have h:a<b.length:=by
   rcases Yj a b.length with d|d
   .exact d
   .rw[YA d]at c;cases c
  rw[Y9 rfl,Y9 h,c]
 .rw[Y2 e]
def Ow{e:Type}(d:¬4<=st.aa.length)(c:Nat)(a:Unit->PM e):av (λb=>ej b.aa.length 4 c b) a st=a () st:=by
 unfold av ej;dsimp only;rw[Y2 d]
def Ov{e:Type}(c:4<=st.aa.length)(a:Nat)(d:Unit->PM e):av (λb=>ej b.aa.length 4 a b) d st=.error ⟨5,a⟩:=by
 unfold av ej;dsimp only;rw[Y9 c]
def Pm{s:Mar.bi}{m:Nat}(E:Q t c st b)(y:c.pd=[])(c4:c.dc=0)(a4:eb t st.w st.nx=.ok (s,m))(c5:ay b 2 [112,114,111,103,114,97,109]=true) :
  S t (λd f=>∃a9 a k h ps,d=.prog a9 a k h/\pf c f d (tJ a9 k h) ps/\XL (gu t b).y h (k.flatMap nK) ps) (hY (hJ (ap t) s.w) { st with w:=m,nx:=none }) (gu t b):=by
 have c7:=E.e0 a4;have G:=E.et a4 b.aa.length 4;have e7:b.aa.length=st.aa.length:=by rw[E.pg];simp
 have b2:=Ql (t:=t) b;by_cases P:4<=st.aa.length
 .rw[Y9 (by omega)]at G;have q:hJ (ap t) s.w { st with w:=m,nx:=none } = .error ⟨5,s.w⟩:=Ov (st:={ st with w:=m,nx:=none }) P _ _;rw[hZ q];rw[G]at b2;exact(E.es (e:=5) (a:=s.w) (by omega)).b4 b2
 .rw[Y2 (by omega)]at G;have c6:hJ (ap t) s.w { st with w:=m,nx:=none } = av (gs (ap t)) (oE (ap t)) { st with w:=m,nx:=none }:=Ow (st:={ st with w:=m,nx:=none }) P _ _;unfold gu;simp only;rw[G,mH c5];generalize d2:aH t 2 (aJ t b)=B;generalize a6:eq t 6 [] [] [] ([112,114,111,103,114,97,109,32]++B.1.text++[32,123,32]) (ab t 4 [123] B.2)=v;have b4:aN (ab t 4 [123] B.2) (ab t 4 [125] v.2):=by
   refine aN.u ?_ (aP _ _ _);rw[<-a6];exact zb _ _ _ _ _ _
  have b1:aN (ab t 4 [125] v.2) (bD t (ab t 4 [125] v.2).aa (ab t 4 [125] v.2)).2:=mA _ _;have a5:Sm (ab t 4 [125] v.2) (bD t (ab t 4 [125] v.2).aa (ab t 4 [125] v.2)).2:=by
   unfold bD;exact(an _ _ _).u ((fW _ _ _).u ((jE _ _ _ _).u (an _ _ _)))
  have q:S t (λd f=>∃(h:List UInt8×Nat) (k:List eJ),d=.prog h.1 h.2 k (bD t (ab t 4 [125] v.2).aa (ab t 4 [125] v.2)).1/\f=(c.a4 h.1).cZ (k.flatMap fc)/\az c.nl h.1=none/\XL v.2.y 0 (k.flatMap nK) v.1.1/\v.1.2=[112,114,111,103,114,97,109,32]++h.1++[32,123,32]++k.flatMap oT)
    (hJ (ap t) s.w { st with w:=m,nx:=none }) { (bD t (ab t 4 [125] v.2).aa (ab t 4 [125] v.2)).2 with aa:=(bD t (ab t 4 [125] v.2).aa (ab t 4 [125] v.2)).2.aa++[(bD t (ab t 4 [125] v.2).aa (ab t 4 [125] v.2)).1] }:=by
   rw[c6];have R:=rU c7 y;rw[d2]at R;refine fe R ((aP _ _ _).u (b4.u (b1.u (rY rfl)))) ?_;rintro h d7 b5 j ⟨rfl,e1,e2,e3,f2⟩;unfold oE;have c3:Sx t (λ_ (m:List eJ×eW) f=>f=(c.a4 h.1).cZ (m.1.flatMap fc)/\XL v.2.y 0 (m.1.flatMap nK) v.1.1/\v.1.2=[112,114,111,103,114,97,109,32]++h.1++[32,123,32]++m.1.flatMap oT) (ew (ap t) 4 (ja (ap t)) ([],([],[])) d7) (ab t 4 [125] v.2):=by
    unfold ew;refine eO (gj (eN j (kd:=4) (l:=[123]) (by decide))) b4 ?_;rintro e2 e0 d9 M x ⟨⟨rfl,-⟩,rfl⟩;rw[Aa];have:=Pv (t:=t) 5 [] [] [] [] [] ([112,114,111,103,114,97,109,32]++B.1.text++[32,123,32]) d9 (ab t 4 [123] B.2) _ x rfl rfl (by simp) (by simp) (zU _ _);rw[a6]at this;refine this.af ?_;rintro e0 e9 b6 ⟨e8,rfl,w,D,b9,-⟩;simp only[YT]at w D;exact⟨by rw[w],by rw[w];exact D,by rw[w,b9,e1]⟩
   refine fe (CS c3) (b1.u (rY rfl)) ?_;rintro a8 f0 e4 d4 ⟨rfl,w,D⟩;unfold nf;generalize ab t 4 [125] v.2=i at *
   generalize hF:({ (bD t i.aa i).2 with aa:=(bD t i.aa i).2.aa++[(bD t i.aa i).1] }:ac)=C;have d8:aN (ab t 4 [61] i) C:=by
    rw[<-hF];unfold bD;exact(hc _ _ _).u ((kk _ _ _ _).u ((aP _ _ _).u (rY rfl)))
   refine fe (σ1:=C) (fe (σ2:=C) (R':=λH f=>f=(c.a4 h.1).cZ (a8.1.flatMap fc)/\H=(bD t i.aa i).1) (eN d4 (kd:=4) (l:=[61]) (by decide)) d8 ?_) (ee C) ?_
   .rintro f1 A M x ⟨rfl,-⟩;have c8:A.aa.map (·.1)=i.aa:=x.pg.symm;have F:=wb x A.aa i.aa c8 0 4294967295;have c9:=a5.aa;unfold av mq;rw[<-hF,c9];unfold bD;simp only;cases u:fU (ap t) (dj 0 4294967295) A.aa A with
    |error g=>
     rw[u]at F;exact(Er.b4 F (aP _ _ _)).b4 (rY rfl)
    |ok L=>
     obtain⟨H,a7,b0⟩:=L;rw[u]at F;obtain⟨b6,p,rfl,c0,c1,-,-⟩:=F;simp only;have d5:Q t _ { b0 with aa:=a7 } { (if(aW t 0 4294967295 (ab t 4 [61] i)).2.s.e=0/\i.aa.contains (aW t 0 4294967295 (ab t 4 [61] i)).1.1=true then bp 6 (aW t 0 4294967295 (ab t 4 [61] i)).1.2 (aW t 0 4294967295 (ab t 4 [61] i)).2 else (aW t 0 4294967295 (ab t 4 [61] i)).2)with aa:=i.aa++[H] }:=⟨p.e,p.wd,p.nl,p.pd,p.nm,p.L,p.cn,c1.symm,p.e2,p.cP,p.ou,p.pr,p.fq,p.f8⟩
     have r:=eN d5 (kd:=4) (l:=[59]) (by decide);subst c0;cases a0:bV (ap t) [59] { b0 with aa:=a7 }with
     |error g=>
      rw[a0]at r;have r:Er g _:=r;exact⟨r.e,r.a,r.z⟩
     |ok I=>
      rw[a0]at r;obtain⟨e5,d6,rfl,-⟩:=r;exact⟨_,d6,rfl,rfl⟩
   .rintro H A M x ⟨rfl,rfl⟩;exact S.ret x ⟨h,a8.1,rfl,rfl,e3,w,D⟩
  cases u:hJ (ap t) s.w { st with w:=m,nx:=none }with
  |error g=>
   rw[u]at q;have q:Er g _:=q;rw[hZ u];exact⟨q.e,q.a,q.z⟩
  |ok L=>
   obtain⟨d,b3⟩:=L;rw[u]at q;obtain⟨b5,j,h,k,rfl,rfl,N,b7,b8⟩:=q;have d0:(bD t (ab t 4 [125] v.2).aa (ab t 4 [125] v.2)).2.y=v.2.y:=a5.y;rw[ow u];generalize bD t (ab t 4 [125] v.2).aa (ab t 4 [125] v.2)=n at *
   have a2:az (c.a4 h.1).nl h.1=some none:=by rw[nr _ _ _ N,Y9 rfl]
   have d1:b3.F=(c.a4 h.1).nl:=by rw[j.nl];simp[br.cZ,y]
   obtain⟨d3,I,e6,J,O,c2⟩:=xA j a2;have a3:=j.nm.bQ (d:=.prog h.1 h.2 k n.1) (r:=I) a2 J ⟨c2,by
    have:=j.nm.hs d3 _ _ J O;exact this.2⟩
   have a1:=j.f8.bQ J (.prog h.1 h.2 k n.1) I;rw[CY O]at a3 a1;refine⟨{ ((c.a4 h.1).cZ (k.flatMap fc)).bQ h.1 (.prog h.1 h.2 k n.1)with o:=c.o++tJ h.1 k n.1,ps:=c.ps++v.1.1.map λm=>{ m with prog:=n.1 } },?_,h.1,h.2,k,n.1,_,rfl,⟨y,c4,rfl,rfl,rfl,rfl,[],qp N,by simp⟩,?_⟩
   .refine⟨j.e,j.wd,?_,Y8 y,a3,j.L,j.cn,j.pg,j.e2,j.cP,?_,?_,j.fq,a1⟩
    .show cM b3.F h.1 _=cM _ h.1 _++c.pd;rw[d1,y,YH];rfl
    .show n.2.j++_=c.o++tJ h.1 k n.1;have K:n.2.j=c.o:=j.ou;rw[K,b8];simp[tJ]
    .show n.2.ak++_=c.ps++_;have K:n.2.ak=c.ps:=j.pr;rw[K]
   .show XL n.2.y n.1 _ _;rw[d0];exact b7.prog _
end
section
variable {t : List UInt8} {b i : St} {a c h j m : ac} {f d : br} {g : Mar.a5}
def dm(a c:ac):Prop:=∃b,c.y=a.y++b
def mL(a:ac):dm a a:=⟨[],by simp⟩
def dm.u(b:dm a c)(f:dm c h):dm a h:=by
 obtain⟨g,d⟩:=b;obtain⟨i,e⟩:=f;exact⟨g++i,by rw[e,d,YN]⟩
def cz.bZ(b:cz a c):dm a c:=by obtain⟨e,d,-⟩:=b.y;exact⟨e,d⟩
def ID(b:c.y=a.y):dm a c:=⟨[],by rw[b];simp⟩
def xE(b:be)(a:ac):dm a (bK b a):=⟨[b],rfl⟩
def uS(b:List UInt8)(a:ac):dm a (dW b a):=mL _
def AY(c:List UInt8)(b:Int)(a:ac):dm a (dB c b a):=by
 unfold dB gw;split<;>exact⟨[],by simp⟩
def xF(c:List UInt8)(b:Int)(a:ac):dm a (cY c b a):=by
 unfold cY gw;split<;>exact⟨[],by simp⟩
def nj(b:Int)(a:ac):dm a (aH t b a).2:=ID (mw b a)
def IA(a:ac):dm a (fO t a):=by
 unfold fO;simp only;generalize e:aH t 2 (ab t 2 [99,111,110,115,116] (ar a.a1 40 a))=c;have d:dm a c.2:=by rw[<-e];exact((cx _ _ _).u (an _ _ _)).al.bZ.u (nj _ _)
 have b:dm a (ab t 4 [59] (aW t (-2147483648) 4294967295 (ab t 4 [61] c.2)).2):=d.u ((an _ _ _).u ((fW _ _ _).u (an _ _ _))).al.bZ;split
 .exact b
 .exact b.u ((AY _ _ _).u (uS _ _))
def IG(a:ac):dm a (gi t a):=by
 unfold gi;simp only;generalize d:bR t [] true (ab t 2 [116,121,112,101,100,101,102] a)=c;have b:dm a c.2:=by rw[<-d];exact((an _ _ _).al.u (kG _ _ _)).bZ
 split
 .exact b
 .exact b.u (mL _)
def AX:∀(c:Nat) (b:List Int) (f:List UInt8) (a:ac),dm a (di t c b f a).2.2.2:=by
 intro c;induction c with
 |zero=>intro b f a;exact mL _
 |succ c i=>
  intro b f a;by_cases h:a.s.e=0
  .rw[ro h];have d:dm a (fi t b a):=by
    refine dm.u ?_ (jE _ _ _ _).al.bZ;exact((cx _ _ _).u (cx _ _ _)).al.bZ.u ((nj _ _).u ((an _ _ _).u (fW _ _ _)).al.bZ)
   have g:dm a (fD t b a):=by
    unfold fD;split
    .exact d
    .exact d.u (AY _ _ _)
   split
   .exact d
   .split
    .exact g.u ((eD _).al.bZ.u (i _ _ _))
    .exact g
  .rw[pH h];exact mL _
def IC(a:ac):dm a (gG t a):=by
 unfold gG;simp only;generalize g:aH t 2 (ab t 2 [101,110,117,109] a)=b;have e:dm a b.2:=by rw[<-g];exact(an _ _ _).al.bZ.u (nj _ _)
 generalize f:di t 13 [] ([101,110,117,109,32]++b.1.text++[32,123,32]) (ab t 4 [123] b.2)=d;have c:dm a d.2.2.2:=by rw[<-f];exact e.u ((an _ _ _).al.bZ.u (AX _ _ _ _))
 split
 .exact c
 .exact c.u (((an _ _ _).u (an _ _ _)).al.bZ.u ((xE _ _).u ((xF _ _ _).u (uS _ _))))
def AM:∀(b:Nat) (d:List Int) (c:List (List UInt8)) (f:List UInt8) (a:ac),dm a (dJ t b d c f a).2.2:=by
 intro b;induction b with
 |zero=>intro d c f a;exact mL _
 |succ b i=>
  intro d c f a;by_cases h:a.s.e=0
  .rw[tV h];have g:dm a (ab t 4 [59] (fk t d.length c a).2):=((cx _ _ _).al.u ((kG _ _ _).u (an _ _ _).al)).bZ;split
   .exact g
   .exact g.u (i _ _ _ _)
  .rw[tW h];exact mL _
def IF(a:ac):dm a (gx t a):=by
 exact(an _ _ _).al.bZ.u ((nj _ _).u ((an _ _ _).al.bZ.u ((AM _ _ _ _ _).u (((an _ _ _).u (an _ _ _)).al.bZ.u ((xE _ _).u ((xF _ _ _).u (uS _ _)))))))
def AZ(of:Int):∀(c:Nat) (b g:List Int) (d:List (List UInt8)) (f:List UInt8) (a:ac),dm a (dP t of c b g d f a).2:=by
 intro c;induction c with
 |zero=>intro b g d f a;exact mL _
 |succ c j=>
  intro b g d f a;by_cases i:a.s.e=0
  .rw[qx i];have h:dm a (cf t d (bU t of (14-b.length) b [] a).2).2:=((mY _ _ _ _ _).1.al.u (mi _ _)).bZ;split
   .exact h.u (j _ _ _ _ _)
   .exact h
  .rw[qy i];exact mL _
def IH(a:ac):dm a (fX t a):=by
 exact(an _ _ _).al.bZ.u ((nj _ _).u (((an _ _ _).u ((an _ _ _).u ((oJ _).u ((jd _).u ((an _ _ _).u (an _ _ _)))))).al.bZ.u ((AZ _ _ _ _ _ _ _).u ((sV _ _).bZ.u (((an _ _ _).u (an _ _ _)).al.bZ.u ((xE _ _).u ((xF _ _ _).u (uS _ _))))))))
def IE(a:ac):dm a (gu t a):=by
 unfold gu;simp only;generalize g:aH t 2 (ab t 2 [112,114,111,103,114,97,109] (ar a.aa.length 4 a))=b;have c:dm a b.2:=by rw[<-g];exact((cx _ _ _).u (an _ _ _)).al.bZ.u (nj _ _)
 generalize f:eq t 6 [] [] [] ([112,114,111,103,114,97,109,32]++b.1.text++[32,123,32]) (ab t 4 [123] b.2)=v;have d:dm a (ab t 4 [125] v.2):=by rw[<-f];exact c.u (((an _ _ _).al.u ((sX _ _ _ _ _ _).u (an _ _ _).al)).bZ)
 have e:=d.u (ni (t:=t) (ab t 4 [125] v.2).aa _).bZ;exact e.u (mL _)
def sT(g:¬ay a 2 [99,111,110,115,116]=true)(h:¬ay a 2 [112,114,111,103,114,97,109]=true)(e:a.s.x.H=2):bH t a =
  if a.s.x.text=[116,121,112,101,100,101,102]then gi t (gh a)else if a.s.x.text=[101,110,117,109]then gG t (gh a)else if a.s.x.text=[115,116,114,117,99,116]then gx t (gh a)else if a.s.x.text=[117,110,105,111,110]then fX t (gh a)else dd a:=by
 unfold bH;rw[Y2 g,Y2 h];by_cases b:a.s.x.text=[116,121,112,101,100,101,102]
 .rw[Y2 (by rw[e,b];simp),Y9 b,Y9 b];rfl
 .by_cases c:a.s.x.text=[101,110,117,109]
  .rw[Y2 (by rw[e,c];simp),Y2 b,Y9 c,Y2 b,Y9 c];rfl
  .by_cases d:a.s.x.text=[115,116,114,117,99,116]
   .rw[Y2 (by rw[e,d];simp),Y2 b,Y2 c,Y9 d,Y2 b,Y2 c,Y9 d];rfl
   .by_cases f:a.s.x.text=[117,110,105,111,110]
    .rw[Y2 (by rw[e,f];simp),Y2 b,Y2 c,Y2 d,Y2 b,Y2 c,Y2 d,Y9 f];rfl
    .rw[Y9 (Ya ⟨b,c,d,f⟩),Y2 b,Y2 c,Y2 d,Y2 f]
def td(a:ac):dm a (gh a):=(cx a.ae 24 a).al.bZ
def IB(a:ac):dm a (bH t a):=by
 by_cases b:ay a 2 [99,111,110,115,116]=true
 .unfold bH;rw[Y9 b];exact IA a
 .by_cases c:ay a 2 [112,114,111,103,114,97,109]=true
  .unfold bH;rw[Y2 b,Y9 c];exact IE a
  .by_cases d:a.s.x.H=2
   .rw[sT b c d];split
    .exact(td a).u (IG _)
    .split
     .exact(td a).u (IC _)
     .split
      .exact(td a).u (IF _)
      .split
       .exact(td a).u (IH _)
       .exact(tT a).al.bZ
   .unfold bH;rw[Y2 b,Y2 c,Y9 (Y8 d)];exact(tT a).al.bZ
def pP:List (List UInt8×Nat×Int)->List UInt8
 |[]=>[]
 |[a]=>jz a
 |a::c::b=>jz a++[44,32]++pP (c::b)
def Jp(a:List (List UInt8×Nat×Int))(b:List UInt8×Nat×Int):pP (a++[b])=a.flatMap (λb=>jz b++[44,32])++jz b:=by
 induction a with
 |nil=>simp[pP]
 |cons d a c=>
  cases a with
  |nil=>simp[pP]
  |cons e a=>
   rw[YX,YX];unfold pP;rw[<-YX,c];simp
def xr:ao->List UInt8
 |.const a _ v=>xl a v
 |.typedef d=>zh d
 |.enum a _ b=>[101,110,117,109,32]++a++[32,123,32]++pP b++[32,125,59,10]
 |.struct a _ b=>DK a b
 |.union a _ f c=>Ec a f c
 |.prog a _ g e=>tJ a g e
def Ao:ao->List (Int×Int×eu)
 |.prog _ _ c b=>(c.flatMap nK).map λa=>(b,a)
 |_=>[]
def YL(d:List be)(e:List (Int×Int×eu))(f:List bj):Prop:=f.length=e.length/\∀(c:Nat) (a:Int×Int×eu) (b:bj),e[c]? = some a->f[c]? = some b->b.prog=a.1/\b.d1=a.2.1/\b.lX=a.2.2.num/\dz d a.2.2.c4 b.c4/\dz d a.2.2.dr b.dr
def qV(b:List be):YL b [] []:=⟨rfl,λd c e a=>by simp at a⟩
def YL.cF{e:List be}{f j:List (Int×Int×eu)}{l m:List bj}(a:YL e f l)(i:YL e j m):YL e (f++j) (l++m):=by
 refine⟨by simp[a.1,i.1],?_⟩;intro h g k c d;rcases Yj h f.length with b|b
 .rw[Ys b]at c;rw[Ys (by rw[a.1];exact b)]at d;exact a.2 h g k c d
 .rw[Yw b]at c;rw[Yw (by rw[a.1];exact b),a.1]at d;exact i.2 _ g k c d
def YL.bZ{e:List (Int×Int×eu)}{f:List bj}(b:YL a.y e f)(q:dm a c):YL c.y e f:=⟨b.1,λp g r m n=>by
 obtain⟨h,i,j,k,l⟩:=b.2 p g r m n;obtain⟨d,o⟩:=q;rw[o];exact⟨h,i,j,k.cF d,l.cF d⟩⟩
def XL.yl{h:List be}{g:Int}{c:List (Int×eu)}{i:List bj}(e:XL h g c i):YL h (c.map λd=>(g,d)) i:=by
 refine⟨by simp[e.1],?_⟩;intro f d l a j;rw[List.getElem?_map]at a;cases b:c[f]? with
 |none=>rw[b]at a;cases a
 |some k=>
  rw[b]at a;simp at a;subst a;exact e.2 f k l b j
def If{c:Mar.bi}{a:Nat}(d:eb t b.w b.nx=.ok (c,a)):hY (fQ (ap t)) b=hY (dU (ap t) c) { b with w:=a,nx:=none }:=by
 unfold hY fQ av;rw[mn d]
def Dh(h:Q t f b a)(p:f.pd=[])(o:f.dc=0):S t (λm d=>∃E,pf f d m (xr m) E/\YL (bH t a).y (Ao m) E) (hY (fQ (ap t)) b) (bH t a):=by
 rcases pk t b with⟨c,M,e⟩|⟨g,e⟩
 .rw[If e];have I:=h.wd;rw[e]at I;obtain⟨⟨O,P,a5,a6,a7⟩,a0⟩:=I;have J:=h.is e (kd:=2) (l:=[99,111,110,115,116]) (by decide);have K:=h.is e (kd:=2) (l:=[112,114,111,103,114,97,109]) (by decide);by_cases r:c.text=[99,111,110,115,116]
  .have A:ay a 2 [99,111,110,115,116]=true:=by rw[J,r];rfl
   have i:dU (ap t) c=iB (ap t) c.w:=by unfold dU;rw[Y9 (by simpa using r)]
   have n:bH t a=fO t a:=by unfold bH;rw[Y9 A]
   rw[i,n];refine(Pc h p o e A).af ?_;rintro m d ⟨j,q,v,rfl,ok⟩;exact⟨[],ok,qV _⟩
  .have H:¬ay a 2 [99,111,110,115,116]=true:=by rw[J];simpa using r
   by_cases z:c.text=[112,114,111,103,114,97,109]
   .have A:ay a 2 [112,114,111,103,114,97,109]=true:=by rw[K,z];rfl
    have i:dU (ap t) c=hJ (ap t) c.w:=by unfold dU;rw[z];rfl
    have n:bH t a=gu t a:=by unfold bH;rw[Y2 H,Y9 A]
    rw[i,n];refine(Pm h p o e A).af ?_;rintro m d ⟨j,q,b0,a8,E,rfl,ok,a2⟩;exact⟨E,ok,a2.yl⟩
   .have L:¬ay a 2 [112,114,111,103,114,97,109]=true:=by rw[K];simpa using z
    by_cases F:a.s.x.H=2
    .rw[sT H L F,P];by_cases s:c.text=[116,121,112,101,100,101,102]
     .have i:dU (ap t) c=iI (ap t) c.w:=by unfold dU;rw[s];rfl
      rw[i,Y9 s];refine(Ps h p o e (by rw[h.is e (by decide),s];rfl)).af ?_;rintro m d ⟨a4,rfl,ok⟩;exact⟨[],ok,qV _⟩
     .rw[Y2 s];by_cases u:c.text=[101,110,117,109]
      .have i:dU (ap t) c=gp (ap t) c.w:=by unfold dU;rw[u];rfl
       rw[i,Y9 u];refine(Pd h p o e (by rw[h.is e (by decide),u];rfl)).af ?_;rintro m d ⟨j,q,C,G,rfl,ok⟩;refine⟨[],?_,qV _⟩;have:xr (.enum j q (C++[G]))=xu j C G:=by
        show [101,110,117,109,32]++j++[32,123,32]++pP (C++[G])++[32,125,59,10]=_;rw[Jp];simp[xu]
       rw[this];exact ok
      .rw[Y2 u];by_cases w:c.text=[115,116,114,117,99,116]
       .have i:dU (ap t) c=jf (ap t) c.w:=by unfold dU;rw[w];rfl
        rw[i,Y9 w];refine(Pq h p o e (by rw[h.is e (by decide),w];rfl)).af ?_;rintro m d ⟨j,q,C,rfl,ok⟩;exact⟨[],ok,qV _⟩
       .rw[Y2 w];by_cases y:c.text=[117,110,105,111,110]
        .have i:dU (ap t) c=dQ (ap t) c.w:=by unfold dU;rw[y];rfl
         rw[i,Y9 y];refine(Pt h p o e (by rw[h.is e (by decide),y];rfl)).af ?_;rintro m d ⟨j,q,a9,a3,rfl,ok⟩;exact⟨[],ok,qV _⟩
        .rw[Y2 y];have i:dU (ap t) c { b with w:=M,nx:=none } = .error ⟨3,c.w⟩:=by
          unfold dU;rw[Y2 (by simpa using r),Y2 (by simpa using s),Y2 (by simpa using u),Y2 (by simpa using w),Y2 (by simpa using y),Y2 (by simpa using z)];rfl
         rw[hZ i];exact h.hk e
    .have D:∀j,Mar.e3 j=true->c.text≠j:=λj a1 N=>F (by rw[O];exact a0.j1 (by rw[N];exact a1));have n:bH t a=dd a:=by unfold bH;rw[Y2 H,Y2 L,Y9 (Y8 F)]
     have i:dU (ap t) c { b with w:=M,nx:=none } = .error ⟨3,c.w⟩:=by
      unfold dU;rw[Y2 (by simpa using r),Y2 (by simpa using D [116,121,112,101,100,101,102] (by decide)),Y2 (by simpa using D [101,110,117,109] (by decide)),Y2 (by simpa using D [115,116,114,117,99,116] (by decide)),Y2 (by simpa using D [117,110,105,111,110] (by decide)),Y2 (by simpa using z)];rfl
     rw[hZ i,n];exact h.hk e
 .have R:hY (fQ (ap t)) b=.error g:=by
   unfold hY fQ av;rw[ny e]
  have B:=h.bd e;have n:bH t a=dd a:=by
   unfold bH;rw[Y2 (by rw[B.is (by omega)];simp),Y2 (by rw[B.is (by omega)];simp),Y9 (Y8 (by rw[B.k];omega))]
  rw[R,n];exact B.hQ
end
section
variable {d c a:Nat}{b:Int}
variable {t : List UInt8} {j k : St} {σ σ' l m f : ac} {g h : br} {i : Mar.a5}
def dm.bc(a:dm σ σ'):σ.y.length<=σ'.y.length:=by
 obtain⟨c,b⟩:=a;rw[b,Yq];omega
def nU(c d:Nat)(b:Int):Prop:=b<5\/((c:Int)<=b/\b+1=d)
def qd(σ:ac)(a:be)(b:c<=σ.y.length):nU c (bK a σ).y.length σ.y.length:=Ya ⟨by omega,by show _=(((σ.y++[a]).length:Nat):Int);simp⟩
def Br(σ:ac):nU σ.y.length (ci t σ).2.y.length (ci t σ).1.1:=by
 unfold ci;split
 .exact Y8 (by simp)
 .split
  .exact qd (aJ t σ) _ (Y4 _)
  .split
   .exact Y8 (by simp)
   .split
    .exact Y8 (by simp)
    .split
     .exact Y8 (by simp)
     .split
      .unfold iJ;split
       .exact Y8 (by simp)
       .split<;>exact Y8 (by simp)
      .exact Y8 (by simp)
def xq(c:List (List UInt8))(all:Bool)(σ:ac):nU σ.y.length (bR t c all σ).2.y.length (bR t c all σ).1.r:=by
 unfold bR;split
 .unfold gt;simp only;have b:∀a,σ.y.length<=(bq t a (bW t c all (aJ t σ)).2).2.y.length:=λa=>((eD _).u ((gZ _ _ _).u (mx _ _))).al.bZ.bc;split
  .exact qd _ _ (b true)
  .exact qd _ _ (b false)
 .unfold gq;simp only;have e:=Br (t:=t) σ;have b:σ.y.length<=(ci t σ).2.y.length:=(xv σ).bZ.bc;split
  .exact qd _ _ (Yz b ((eD _).u (gZ _ _ _)).al.bZ.bc)
  .have d:∀a,σ.y.length<=(bq t a (bW t c all (ci t σ).2).2).2.y.length:=λa=>Yz b ((gZ _ _ _).u (mx _ _)).al.bZ.bc;split
   .exact qd _ _ (d true)
   .split
    .exact qd _ _ (d false)
    .rw[(gZ (t:=t) c all (ci t σ).2).y];exact e
def Nw(c:Nat)(b:Int):Prop:=b<5\/(c:Int)<=b
def nU.nw(a:nU c d b):Nw c b:=a.imp id And.left
def Nw.af(a:Nw d b)(e:c<=d):Nw c b:=a.imp id λa=>by omega
def Fh(a:Nat)(σ:ac):Prop:=a<=σ.y.length/\∀(c:Nat) (b:be),σ.y[c]? = some b->a<=c->b.H≠14->∀d∈cu b,Nw a d
def Fh.of(b:Fh a σ)(c:σ'.y=σ.y):Fh a σ':=by unfold Fh;rw[c];exact b
def Fh.row(f:Fh a σ){r:be}(j:r.H≠14->∀h∈cu r,Nw a h):Fh a (bK r σ):=by
 refine⟨by show a<=(σ.y++[r]).length;have:=f.1;simp;omega,?_⟩;intro e k b i;rw[show (bK r σ).y=σ.y++[r]from rfl]at b;rcases Yj e σ.y.length with c|c
 .rw[Ys c]at b;exact f.2 e k b i
 .rw[Yw c]at b;match g:e-σ.y.length with
  |0=>rw[g]at b;simp at b;subst b;exact j
  |d+1=>rw[g]at b;simp at b
def Bw(a c:Int)(b:a=6\/a=7\/a=8):cu (ek a c)=[]:=by rcases b with rfl|rfl|rfl<;>rfl
def AP(b:Fh a σ):Fh a (ci t σ).2:=by
 unfold ci;split
 .exact b
 .split
  .exact(b.of (σ':=aJ t σ) rfl).row (λc=>absurd rfl c)
  .split
   .exact b.of rfl
   .split
    .exact b.of rfl
    .split
     .exact b.of rfl
     .split
      .unfold iJ;split
       .exact b.of rfl
       .split<;>exact b.of rfl
      .exact b.of rfl
def xy(f:Fh a σ)(h:List (List UInt8))(all:Bool):Fh a (bR t h all σ).2:=by
 unfold bR;split
 .unfold gt;simp only;have d:∀c,Fh a (bq t c (bW t h all (aJ t σ)).2).2:=λc=>f.of ((eD _).u ((gZ _ _ _).u (mx _ _))).y;split
  .exact(d true).row (λ_ e b=>by rw[Bw _ _ (Y8 rfl)]at b;cases b)
  .exact(d false).row (λ_ e b=>by rw[Bw _ _ (by split<;>simp)]at b;cases b)
 .unfold gq;simp only;have g:=AP (t:=t) f;have i:Nw a (ci t σ).1.1:=(Br (t:=t) σ).nw.af f.1;split
  .exact(g.of ((eD _).u (gZ _ _ _)).y).row (λ_ e b=>by simp[cu,dI]at b)
  .have d:∀c,Fh a (bq t c (bW t h all (ci t σ).2).2).2:=λc=>g.of ((gZ _ _ _).u (mx _ _)).y;split
   .exact(d true).row (λ_ e b=>by simp[cu,dI]at b;subst b;exact i)
   .split
    .exact(d false).row (λ_ e b=>by simp[cu,dI]at b)
    .exact g.of (gZ _ _ _).y
def HY:∀(g:Nat) (c:List Int) (d:List (List UInt8)) (j:List UInt8) (σ:ac),Fh a σ->(∀b∈c,Nw a b)->Fh a (dJ t g c d j σ).2.2/\∀b∈(dJ t g c d j σ).1,Nw a b:=by
 intro g;induction g with
 |zero=>intro c d j σ h i;exact⟨h,i⟩
 |succ g o=>
  intro c d j σ h i;by_cases n:σ.s.e=0
  .rw[tV n];have k:Fh a (ar c.length 12 σ):=h.of (cx _ _ _).y;have l:Fh a (ab t 4 [59] (fk t c.length d σ).2):=(xy (t:=t) k d false).of (an _ _ _).y;have m:∀b∈c++[(fk t c.length d σ).1.r],Nw a b:=by
    intro b f;rcases Yn.1 f with f|f
    .exact i b f
    .simp at f;subst f;exact(xq (t:=t) d false _).nw.af k.1
   split
   .exact⟨l,m⟩
   .exact o _ _ _ _ l m
  .rw[tW n];exact⟨h,i⟩
def AO(c:Fh a σ)(b:List (List UInt8)):Fh a (cf t b σ).2/\Nw a (cf t b σ).1.1:=by
 unfold cf;split
 .exact⟨c.of rfl,Y8 (by simp)⟩
 .exact⟨(xy (t:=t) c b false).of (an _ _ _).y,(xq (t:=t) b false _).nw.af c.1⟩
def HZ(of:Int):∀(h:Nat) (c f:List Int) (d:List (List UInt8)) (k:List UInt8) (σ:ac),Fh a σ->(∀b∈f,Nw a b)->Fh a (dP t of h c f d k σ).2/\∀b∈(dP t of h c f d k σ).1.2.1,Nw a b:=by
 intro h;induction h with
 |zero=>intro c f d k σ i j;exact⟨i,j⟩
 |succ h p=>
  intro c f d k σ i j;by_cases n:σ.s.e=0
  .rw[qx n];have o:Fh a (bU t of (14-c.length) c [] σ).2:=i.of (mY _ _ _ _ _).1.y;have l:=AO (t:=t) o d;have m:∀b∈jX (bU t of (14-c.length) c [] σ).1.1.length (cf t d (bU t of (14-c.length) c [] σ).2).1.1 f,Nw a b:=by
    intro b g;rcases Yn.1 g with g|g
    .exact j b g
    .rw[List.eq_of_mem_replicate g];exact l.2
   split
   .exact p _ _ _ _ _ l.1 m
   .exact⟨l.1,m⟩
  .rw[qy n];exact⟨i,j⟩
def HU(c:Fh a σ)(b:List (List UInt8)):Fh a (go t b σ).2/\Nw a (go t b σ).1.1:=by
 unfold go;split
 .have:=AO (t:=t) (σ:=ab t 4 [58] (aJ t σ)) (c.of rfl) b;exact this
 .exact⟨c,Y8 (by simp)⟩
def vV(a:List UInt8)(c:Int)(σ:ac):(cY a c σ).y=σ.y:=by
 unfold cY gw;split<;>rfl
def yK(a:List UInt8)(c:Int)(σ:ac):(dB a c σ).y=σ.y:=by
 unfold dB gw;split<;>rfl
def AQ(b:Fh a σ):Fh a (eC t σ).2:=by
 unfold eC;split
 .exact b.of rfl
 .exact AP b
def xz(b:Fh a σ)(c:List Int):Fh a (bD t c σ).2:=by
 exact b.of ((an _ _ _).u ((fW _ _ _).u ((jE _ _ _ _).u (an _ _ _)))).y
def HW:∀(g:Nat) (b:List bj) (d:List (List UInt8)) (c:List Int) (h:List UInt8) (σ:ac),Fh a σ->Fh a (eZ t g b d c h σ).2:=by
 intro g;induction g with
 |zero=>intro b d c h σ f;exact f
 |succ g m=>
  intro b d c h σ f;by_cases j:σ.s.e=0
  .rw[yA j];have k:Fh a (kg t b.length σ).2:=AQ (f.of (cx _ _ _).y);have l:Fh a (kM t b.length d σ).2:=AQ ((k.of (gZ _ _ _).y).of (an _ _ _).y);have i:Fh a (fE t b.length d c σ).2:=xz (l.of (an _ _ _).y) c;split
   .exact i
   .exact m _ _ _ _ _ i
  .unfold eZ;rw[Y9 j];exact f
def Ib(c:Fh a σ)(d:List (List UInt8))(b:List Int):Fh a (eG t d b σ).2:=by
 exact xz ((HW _ _ _ _ _ _ ((c.of (an _ _ _).y).of ((gZ _ _ _).u (an _ _ _)).y)).of (an _ _ _).y) b
def Ia:∀(f:Nat) (c:List (List UInt8)) (b:List Int) (all:List bj) (g:List UInt8) (σ:ac),Fh a σ->Fh a (eq t f c b all g σ).2:=by
 intro f;induction f with
 |zero=>intro c b all g σ d;exact d
 |succ f j=>
  intro c b all g σ d;by_cases i:σ.s.e=0
  .rw[wu i];have h:Fh a (eG t c b (ar b.length 4 σ)).2:=Ib (d.of (cx _ _ _).y) c b;split
   .exact h
   .exact j _ _ _ _ _ h
  .rw[zm i];exact d
def HV:∀(d:Nat) (b:List Int) (g:List UInt8) (σ:ac),Fh a σ->Fh a (di t d b g σ).2.2.2:=by
 intro d;induction d with
 |zero=>intro b g σ c;exact c
 |succ d j=>
  intro b g σ c;by_cases i:σ.s.e=0
  .rw[ro i];have f:Fh a (fi t b σ):=by
    refine Fh.of ?_ (jE _ _ _ _).y;exact Fh.of (Fh.of (Fh.of c ((cx _ _ _).u (cx _ _ _)).y) (mw _ _)) ((an _ _ _).u (fW _ _ _)).y
   have h:Fh a (fD t b σ):=by
    unfold fD;split
    .exact f
    .exact f.of (yK _ _ _)
   split
   .exact f
   .split
    .exact j _ _ _ (h.of (eD _).y)
    .exact h
  .rw[pH i];exact c
def HX(σ:ac):Fh σ.y.length σ:=⟨Y4 _,λc d a b=>by
 rw[YA b]at a;cases a⟩
def HT(σ:ac):Fh σ.y.length (bH t σ):=by
 have l:=HX σ;generalize σ.y.length=a at *
 by_cases p:ay σ 2 [99,111,110,115,116]=true
 .unfold bH;rw[Y9 p];unfold fO;simp only;have m:Fh a (aH t 2 (ab t 2 [99,111,110,115,116] (ar σ.a1 40 σ))).2:=Fh.of (l.of ((cx _ _ _).u (an _ _ _)).y) (mw _ _);generalize aH t 2 (ab t 2 [99,111,110,115,116] (ar σ.a1 40 σ))=e at *
  have i:Fh a (ab t 4 [59] (aW t (-2147483648) 4294967295 (ab t 4 [61] e.2)).2):=m.of ((an _ _ _).u ((fW _ _ _).u (an _ _ _))).y;split
  .exact i
  .exact(i.of (yK _ _ _)).of rfl
 .by_cases m:ay σ 2 [112,114,111,103,114,97,109]=true
  .unfold bH;rw[Y2 p,Y9 m];unfold gu;simp only;have i:Fh a (aH t 2 (ab t 2 [112,114,111,103,114,97,109] (ar σ.aa.length 4 σ))).2:=Fh.of (l.of ((cx _ _ _).u (an _ _ _)).y) (mw _ _);generalize aH t 2 (ab t 2 [112,114,111,103,114,97,109] (ar σ.aa.length 4 σ))=b at *
   have g:=Ia (t:=t) 6 [] [] [] ([112,114,111,103,114,97,109,32]++b.1.text++[32,123,32]) (ab t 4 [123] b.2) (i.of (an _ _ _).y);generalize eq t 6 [] [] [] ([112,114,111,103,114,97,109,32]++b.1.text++[32,123,32]) (ab t 4 [123] b.2)=v at *
   exact(xz (t:=t) (g.of (an _ _ _).y) (ab t 4 [125] v.2).aa).of rfl
  .by_cases i:σ.s.x.H=2
   .rw[sT p m i];have q:Fh a (gh σ):=l.of (cx σ.ae 24 σ).y;generalize gh σ=f at *
    split
    .unfold gi;simp only;have g:=xy (t:=t) (q.of (an (t:=t) 2 [116,121,112,101,100,101,102] f).y) [] true;split
     .exact g
     .exact g.of rfl
    .split
     .unfold gG;simp only;have g:Fh a (aH t 2 (ab t 2 [101,110,117,109] f)).2:=Fh.of (q.of (an _ _ _).y) (mw _ _);generalize aH t 2 (ab t 2 [101,110,117,109] f)=e at *
      have j:=HV (t:=t) 13 [] ([101,110,117,109,32]++e.1.text++[32,123,32]) (ab t 4 [123] e.2) (g.of (an _ _ _).y);generalize di t 13 [] ([101,110,117,109,32]++e.1.text++[32,123,32]) (ab t 4 [123] e.2)=k at *
      split
      .exact j
      .refine Fh.of (Fh.of (Fh.row (j.of ((an (t:=t) 4 [125] _).u (an (t:=t) 4 [59] _)).y) (r:=⟨5,0,0,k.2.1,[],0,[],0⟩) ?_) (vV _ _ _)) rfl;intro _ o h;simp[cu]at h
     .split
      .unfold gx;simp only;have g:Fh a (aH t 2 (ab t 2 [115,116,114,117,99,116] f)).2:=Fh.of (q.of (an _ _ _).y) (mw _ _);generalize aH t 2 (ab t 2 [115,116,114,117,99,116] f)=e at *
       have j:=HY (t:=t) 14 [] [] ([115,116,114,117,99,116,32]++e.1.text++[32,123,32]) (ab t 4 [123] e.2) (g.of (an _ _ _).y) (by simp);generalize dJ t 14 [] [] ([115,116,114,117,99,116,32]++e.1.text++[32,123,32]) (ab t 4 [123] e.2)=k at *
       refine Fh.of (Fh.of (Fh.row (j.1.of ((an (t:=t) 4 [125] _).u (an (t:=t) 4 [59] _)).y) (r:=⟨12,0,0,[],k.1,0,[],0⟩) ?_) (vV _ _ _)) rfl;intro _ o h;exact j.2 o h
      .split
       .unfold fX;simp only;have g:Fh a (aH t 2 (ab t 2 [117,110,105,111,110] f)).2:=Fh.of (q.of (an _ _ _).y) (mw _ _);generalize aH t 2 (ab t 2 [117,110,105,111,110] f)=e at *
        have j:Fh a (bS t (ab t 4 [40] (ab t 2 [115,119,105,116,99,104] e.2))).2:=g.of ((an _ _ _).u ((an _ _ _).u (oJ _))).y;generalize bS t (ab t 4 [40] (ab t 2 [115,119,105,116,99,104] e.2))=c at *
        have u:Fh a (ab t 4 [123] (ab t 4 [41] (cK t c.2).2)):=j.of ((jd _).u ((an _ _ _).u (an _ _ _))).y;generalize cK t c.2=d at *
        have r:=HZ (t:=t) c.1.1 14 [] [] [d.1.text] ([117,110,105,111,110,32]++e.1.text++[32,115,119,105,116,99,104,32,40]++c.1.2++[32]++d.1.text++[41,32,123,32]) _ u (by simp);generalize dP t c.1.1 14 [] [] [d.1.text] ([117,110,105,111,110,32]++e.1.text++[32,115,119,105,116,99,104,32,40]++c.1.2++[32]++d.1.text++[41,32,123,32]) (ab t 4 [123] (ab t 4 [41] d.2))=n at *
        have s:=HU (t:=t) r.1 n.1.2.2.1;generalize go t n.1.2.2.1 n.2=k at *
        refine Fh.of (Fh.of (Fh.row (s.1.of ((an (t:=t) 4 [125] _).u (an (t:=t) 4 [59] _)).y) (r:=⟨13,0,c.1.1,n.1.1,n.1.2.1,k.1.1,[],0⟩) ?_) (vV _ _ _)) rfl;intro _ o h;simp[cu]at h;rcases h with h|rfl
        .exact r.2 o h
        .exact s.2
       .exact l.of rfl
   .unfold bH;rw[Y2 p,Y2 m,Y9 (Y8 i)];exact l.of rfl
end
section
variable {t : List UInt8} {f g : St} {σ σ' h i a σ0 : ac} {b c : br} {d : Mar.a5}
def W1(σ0 σ:ac):Prop:=∀a∈σ.F,a.bb=1->a∈σ0.F
def FD(σ:ac):W1 σ σ:=λ_ a _=>a
def W1.of(a:W1 σ0 σ)(b:σ'.F=σ.F):W1 σ0 σ':=by unfold W1;rw[b];exact a
def sj(b:W1 σ0 σ):W1 σ0 (aH t 2 σ).2:=by
 unfold aH;split
 .exact b.of (jd σ).F
 .split
  .exact b.of ((jd σ).u (wf _ _ _)).F
  .intro d a c;rcases Yn.1 (show d∈(cK t σ).2.F++_ from a)with a|a
   .rw[(jd σ).F]at a;exact b d a c
   .simp at a;subst a;simp at c
def So(f:W1 σ0 σ)(c:Nat)(e h:Int)(g:e≠1):W1 σ0 (gw σ c e h):=by
 intro d a b;rcases List.mem_or_eq_of_mem_set (show d∈σ.F.set c _ from a)with a|a
 .exact f d a b
 .subst a;exact absurd b g
def Ej(a:W1 σ0 σ)(c:List UInt8)(b:Int):W1 σ0 (dB c b σ):=by
 unfold dB;split
 .exact(So a _ 0 b (by omega)).of rfl
 .exact a.of rfl
def Sp(d:W1 σ0 σ)(f:List UInt8)(e:Int):∀a∈(cY f e σ).F,a.bb=1->a∈σ0.F\/a.n=e:=by
 unfold cY;split
 .intro a b c;rcases List.mem_or_eq_of_mem_set (show a∈σ.F.set _ _ from b)with b|b
  .exact Y8 (d a b c)
  .subst b;exact Ya rfl
 .intro a b c;exact Y8 (d a b c)
def Sl:∀(c:Nat) (a:List Int) (f:List UInt8) (σ:ac),W1 σ0 σ->W1 σ0 (di t c a f σ).2.2.2:=by
 intro c;induction c with
 |zero=>intro a f σ b;exact b
 |succ c i=>
  intro a f σ b;by_cases h:σ.s.e=0
  .rw[ro h];have d:W1 σ0 (fi t a σ):=by
    refine W1.of ?_ (jE _ _ _ _).F;exact(sj (b.of ((cx _ _ _).u (cx _ _ _)).F)).of ((an _ _ _).u (fW _ _ _)).F
   have g:W1 σ0 (fD t a σ):=by
    unfold fD;split
    .exact d
    .exact Ej d _ _
   split
   .exact d
   .split
    .exact i _ _ _ (g.of (eD _).F)
    .exact g
  .rw[pH h];exact b
def LK:∀(a:Nat) (c:List Int) (b:List (List UInt8)) (d:List UInt8) (σ:ac),(dJ t a c b d σ).2.2.F=σ.F:=by
 intro a;induction a with
 |zero=>intro c b d σ;rfl
 |succ a h=>
  intro c b d σ;by_cases g:σ.s.e=0
  .rw[tV g];have f:(ab t 4 [59] (fk t c.length b σ).2).F=σ.F:=((cx _ _ _).al.u ((kG _ _ _).u (an _ _ _).al)).F;split
   .exact f
   .rw[h];exact f
  .rw[tW g]
def LL(of:Int):∀(b:Nat) (a f:List Int) (c:List (List UInt8)) (d:List UInt8) (σ:ac),(dP t of b a f c d σ).2.F=σ.F:=by
 intro b;induction b with
 |zero=>intro a f c d σ;rfl
 |succ b i=>
  intro a f c d σ;by_cases h:σ.s.e=0
  .rw[qx h];have g:(cf t c (bU t of (14-a.length) a [] σ).2).2.F=σ.F:=((mY _ _ _ _ _).1.al.u (mi _ _)).F;split
   .rw[i];exact g
   .exact g
  .rw[qy h]
def LI(σ:ac):∀b∈(bH t σ).F,b.bb=1->b∈σ.F\/nU σ.y.length (bH t σ).y.length b.n:=by
 have w:=FD σ;by_cases o:ay σ 2 [99,111,110,115,116]=true
 .unfold bH;rw[Y9 o];intro b c f;refine Y8 ?_;unfold fO at c;simp only at c;have m:W1 σ (aH t 2 (ab t 2 [99,111,110,115,116] (ar σ.a1 40 σ))).2:=sj (w.of ((cx _ _ _).u (an _ _ _)).F);generalize aH t 2 (ab t 2 [99,111,110,115,116] (ar σ.a1 40 σ))=d at *
  have j:W1 σ (ab t 4 [59] (aW t (-2147483648) 4294967295 (ab t 4 [61] d.2)).2):=m.of ((an _ _ _).u ((fW _ _ _).u (an _ _ _))).F;split at c
  .exact j b c f
  .exact Ej j _ _ b c f
 .by_cases m:ay σ 2 [112,114,111,103,114,97,109]=true
  .unfold bH;rw[Y2 o,Y9 m];intro b c f;refine Y8 ?_;unfold gu at c;simp only at c;have j:W1 σ (aH t 2 (ab t 2 [112,114,111,103,114,97,109] (ar σ.aa.length 4 σ))).2:=sj (w.of ((cx _ _ _).u (an _ _ _)).F);generalize aH t 2 (ab t 2 [112,114,111,103,114,97,109] (ar σ.aa.length 4 σ))=d at *
   have k:W1 σ (ab t 4 [125] (eq t 6 [] [] [] ([112,114,111,103,114,97,109,32]++d.1.text++[32,123,32]) (ab t 4 [123] d.2)).2):=j.of ((an _ _ _).al.u ((sX _ _ _ _ _ _).u (an _ _ _).al)).F;generalize eq t 6 [] [] [] ([112,114,111,103,114,97,109,32]++d.1.text++[32,123,32]) (ab t 4 [123] d.2)=v at *
   exact(k.of (ni (t:=t) (ab t 4 [125] v.2).aa _).F) b c f
  .by_cases j:σ.s.x.H=2
   .rw[sT o m j];have q:W1 σ (gh σ):=w.of (cx σ.ae 24 σ).F;have H:σ.y.length<=(gh σ).y.length:=(td σ).bc;generalize gh σ=a at *
    have y:∀{e:ac} {b:be} {n r:List UInt8},dm a e->W1 σ e->∀d∈(dW r (cY n e.y.length (bK b e))).F,d.bb=1->d∈σ.F\/nU σ.y.length (dW r (cY n e.y.length (bK b e))).y.length d.n:=by
     intro e b n r I J d x K;rcases Sp (σ:=bK b e) (J.of rfl) n e.y.length d x K with i|i
     .exact Y8 i
     .right;rw[show (dW r (cY n e.y.length (bK b e))).y=(bK b e).y from vV _ _ _,i];exact qd e b (Yz H I.bc)
    split
    .unfold gi;simp only;have F:=xq (t:=t) [] true (ab t 2 [116,121,112,101,100,101,102] a);have f:W1 σ (bR t [] true (ab t 2 [116,121,112,101,100,101,102] a)).2:=q.of ((an _ _ _).al.u (kG _ _ _)).F;generalize bR t [] true (ab t 2 [116,121,112,101,100,101,102] a)=s at *
     intro b c i;split at c
     .exact Y8 (f b c i)
     .rename_i G;rw[Y2 G];rcases Yn.1 (show b∈s.2.F++_ from c)with c|c
      .exact Y8 (f b c i)
      .simp at c;subst c;right;refine F.imp id λA=>⟨?_,A.2⟩;have M:((a.y.length:Nat):Int)<=s.1.r:=A.1;show ((σ.y.length:Nat):Int)<=s.1.r;omega
    .split
     .unfold gG;simp only;have k:W1 σ (aH t 2 (ab t 2 [101,110,117,109] a)).2:=sj (q.of (an _ _ _).F);have l:dm a (aH t 2 (ab t 2 [101,110,117,109] a)).2:=(an _ _ _).al.bZ.u (nj _ _);generalize aH t 2 (ab t 2 [101,110,117,109] a)=b at *
      have p:=Sl (t:=t) (σ0:=σ) 13 [] ([101,110,117,109,32]++b.1.text++[32,123,32]) (ab t 4 [123] b.2) (k.of (an _ _ _).F);have u:=l.u ((an (t:=t) 4 [123] b.2).al.bZ.u (AX (t:=t) 13 [] ([101,110,117,109,32]++b.1.text++[32,123,32]) (ab t 4 [123] b.2)));split
      .intro d x i;exact Y8 (p d x i)
      .exact y (u.u ((an (t:=t) 4 [125] _).u (an (t:=t) 4 [59] _)).al.bZ) (p.of ((an (t:=t) 4 [125] _).u (an (t:=t) 4 [59] _)).F)
     .split
      .unfold gx;have k:W1 σ (aH t 2 (ab t 2 [115,116,114,117,99,116] a)).2:=sj (q.of (an _ _ _).F);have l:dm a (aH t 2 (ab t 2 [115,116,114,117,99,116] a)).2:=(an _ _ _).al.bZ.u (nj _ _);generalize aH t 2 (ab t 2 [115,116,114,117,99,116] a)=b at *
       have p:=(k.of (an (t:=t) 4 [123] b.2).F).of (LK (t:=t) 14 [] [] ([115,116,114,117,99,116,32]++b.1.text++[32,123,32]) (ab t 4 [123] b.2));have u:=l.u ((an (t:=t) 4 [123] b.2).al.bZ.u (AM (t:=t) 14 [] [] ([115,116,114,117,99,116,32]++b.1.text++[32,123,32]) (ab t 4 [123] b.2)));exact y (u.u ((an (t:=t) 4 [125] _).u (an (t:=t) 4 [59] _)).al.bZ) (p.of ((an (t:=t) 4 [125] _).u (an (t:=t) 4 [59] _)).F)
      .split
       .unfold fX;simp only;have k:W1 σ (aH t 2 (ab t 2 [117,110,105,111,110] a)).2:=sj (q.of (an _ _ _).F);have l:dm a (aH t 2 (ab t 2 [117,110,105,111,110] a)).2:=(an _ _ _).al.bZ.u (nj _ _);generalize aH t 2 (ab t 2 [117,110,105,111,110] a)=b at *
        have B:Sm b.2 (bS t (ab t 4 [40] (ab t 2 [115,119,105,116,99,104] b.2))).2:=(an _ _ _).u ((an _ _ _).u (oJ _));generalize bS t (ab t 4 [40] (ab t 2 [115,119,105,116,99,104] b.2))=h at *
        have C:Sm h.2 (ab t 4 [123] (ab t 4 [41] (cK t h.2).2)):=(jd _).u ((an _ _ _).u (an _ _ _));generalize cK t h.2=g at *
        have L:=LL (t:=t) h.1.1 14 [] [] [g.1.text] ([117,110,105,111,110,32]++b.1.text++[32,115,119,105,116,99,104,32,40]++h.1.2++[32]++g.1.text++[41,32,123,32]) (ab t 4 [123] (ab t 4 [41] g.2));have E:=AZ (t:=t) h.1.1 14 [] [] [g.1.text] ([117,110,105,111,110,32]++b.1.text++[32,115,119,105,116,99,104,32,40]++h.1.2++[32]++g.1.text++[41,32,123,32]) (ab t 4 [123] (ab t 4 [41] g.2));generalize dP t h.1.1 14 [] [] [g.1.text] ([117,110,105,111,110,32]++b.1.text++[32,115,119,105,116,99,104,32,40]++h.1.2++[32]++g.1.text++[41,32,123,32]) (ab t 4 [123] (ab t 4 [41] g.2))=D at *
        have z:=sV (t:=t) D.1.2.2.1 D.2;exact y (l.u ((B.u C).al.bZ.u (E.u (z.bZ.u ((an (t:=t) 4 [125] _).u (an (t:=t) 4 [59] _)).al.bZ)))) ((((k.of (B.u C).F).of L).of z.F).of ((an (t:=t) 4 [125] _).u (an (t:=t) 4 [59] _)).F)
       .intro b c f;exact Y8 c
   .unfold bH;rw[Y2 o,Y2 m,Y9 (Y8 j)];intro b c f;exact Y8 c
def HF:∀(b:Nat) (a:List Int) (c:List UInt8) (σ:ac),(di t b a c σ).2.1.length<=a.length+b:=by
 intro b;induction b with
 |zero=>intro a c σ;exact Y4 _
 |succ b f=>
  intro a c σ;by_cases d:σ.s.e=0
  .rw[ro d];split
   .simp
   .split
    .have:=f (a++[(gH t a.length σ).1.1]) (c++(iY t a.length σ).1.text++[32,61,32]++bC (gH t a.length σ).1.1++[44,32]) (aJ t (fD t a σ));rw[Yq,List.length_singleton]at this;omega
    .simp<;>omega
  .rw[pH d];simp
def Ok:∀(c:Nat) (a:List Int) (f:List UInt8) (σ:ac),Rn σ->Rn (di t c a f σ).2.2.2:=by
 intro c;induction c with
 |zero=>intro a f σ b;exact b
 |succ c i=>
  intro a f σ b;by_cases h:σ.s.e=0
  .rw[ro h];have d:Rn (fi t a σ):=by
    refine Rn.of ?_ (jE _ _ _ _).y;exact Rn.of (Rn.of (Rn.of b ((cx _ _ _).u (cx _ _ _)).y) (mw _ _)) ((an _ _ _).u (fW _ _ _)).y
   have g:Rn (fD t a σ):=by
    unfold fD;split
    .exact d
    .exact d.of (yK _ _ _)
   split
   .exact d
   .split
    .exact i _ _ _ (g.of (eD _).y)
    .exact g
  .rw[pH h];exact b
def Oj(d:Rn σ):Rn (gG t σ):=by
 unfold gG;simp only;have e:Rn (aH t 2 (ab t 2 [101,110,117,109] σ)).2:=tM (d.al (an _ _ _).al) 2;generalize aH t 2 (ab t 2 [101,110,117,109] σ)=a at *
 have f:=HF (t:=t) 13 [] ([101,110,117,109,32]++a.1.text++[32,123,32]) (ab t 4 [123] a.2);have b:=Ok (t:=t) 13 [] ([101,110,117,109,32]++a.1.text++[32,123,32]) (ab t 4 [123] a.2) (e.al (an _ _ _).al);generalize di t 13 [] ([101,110,117,109,32]++a.1.text++[32,123,32]) (ab t 4 [123] a.2)=c at *
 split
 .exact b
 .refine vS (yF (yE (b.al ((an _ _ _).u (an _ _ _)).al) _ ⟨?_,by simp⟩) _ _) _;simp only[List.length_nil]at f;show c.2.1.length<=1000;omega
def Ge(of:Int):∀(b:Nat) (a:List Int) (c:List UInt8) (σ:ac),(bU t of b a c σ).1.1.length<=a.length+b:=by
 intro b;induction b with
 |zero=>intro a c σ;exact Y4 _
 |succ b f=>
  intro a c σ;by_cases d:σ.s.e=0
  .rw[xd d];split
   .have:=f (a++[(li t of a.length σ).1.1]) (c++[99,97,115,101,32]++bC (li t of a.length σ).1.1++[58,32]) (mZ t of a σ);rw[Yq,List.length_singleton]at this;omega
   .simp<;>omega
  .unfold bU;rw[Y9 d];simp
def RI(of:Int):∀(c:Nat) (a b:List Int) (d:List (List UInt8)) (f:List UInt8) (σ:ac),a.length<=14->b.length<=14->(dP t of c a b d f σ).1.1.length<=14/\(dP t of c a b d f σ).1.2.1.length<=14:=by
 intro c;induction c with
 |zero=>intro a b d f σ g h;exact⟨g,h⟩
 |succ c l=>
  intro a b d f σ g h;by_cases k:σ.s.e=0
  .rw[qx k];have i:(bU t of (14-a.length) a [] σ).1.1.length<=14:=by have:=Ge (t:=t) of (14-a.length) a [] σ;omega
   have j:(jX (bU t of (14-a.length) a [] σ).1.1.length (cf t d (bU t of (14-a.length) a [] σ).2).1.1 b).length<=14:=by unfold jX;simp;omega
   split
   .exact l _ _ _ _ _ i j
   .exact⟨i,j⟩
  .rw[qy k];exact⟨g,h⟩
def Ot(of:Int):∀(c:Nat) (a g:List Int) (d:List (List UInt8)) (f:List UInt8) (σ:ac),Rn σ->Rn (dP t of c a g d f σ).2:=by
 intro c;induction c with
 |zero=>intro a g d f σ b;exact b
 |succ c j=>
  intro a g d f σ b;by_cases i:σ.s.e=0
  .rw[qx i];have h:Rn (cf t d (bU t of (14-a.length) a [] σ).2).2:=b.al ((mY _ _ _ _ _).1.al.u (mi _ _));split
   .exact j _ _ _ _ _ h
   .exact h
  .rw[qy i];exact b
def Oq(e:Rn σ):Rn (fX t σ):=by
 unfold fX;simp only;have f:Rn (aH t 2 (ab t 2 [117,110,105,111,110] σ)).2:=tM (e.al (an _ _ _).al) 2;generalize aH t 2 (ab t 2 [117,110,105,111,110] σ)=c at *
 have g:Rn (bS t (ab t 4 [40] (ab t 2 [115,119,105,116,99,104] c.2))).2:=f.of ((an _ _ _).u ((an _ _ _).u (oJ _))).y;generalize bS t (ab t 4 [40] (ab t 2 [115,119,105,116,99,104] c.2))=b at *
 have h:Rn (ab t 4 [123] (ab t 4 [41] (cK t b.2).2)):=g.of ((jd _).u ((an _ _ _).u (an _ _ _))).y;generalize cK t b.2=a at *
 have i:=Ot (t:=t) b.1.1 14 [] [] [a.1.text] ([117,110,105,111,110,32]++c.1.text++[32,115,119,105,116,99,104,32,40]++b.1.2++[32]++a.1.text++[41,32,123,32]) _ h;have j:=RI (t:=t) b.1.1 14 [] [] [a.1.text] ([117,110,105,111,110,32]++c.1.text++[32,115,119,105,116,99,104,32,40]++b.1.2++[32]++a.1.text++[41,32,123,32]) (ab t 4 [123] (ab t 4 [41] a.2)) (by simp) (by simp);generalize dP t b.1.1 14 [] [] [a.1.text] ([117,110,105,111,110,32]++c.1.text++[32,115,119,105,116,99,104,32,40]++b.1.2++[32]++a.1.text++[41,32,123,32]) (ab t 4 [123] (ab t 4 [41] a.2))=d at *
 refine vS (yF (yE ((i.al (sV _ _)).al ((an _ _ _).u (an _ _ _)).al) _ ⟨?_,?_⟩) _ _) _
 .show d.1.1.length<=1000;omega
 .show d.1.2.1.length<=1000;omega
def Oi(a:Rn σ):Rn (bH t σ):=by
 by_cases b:ay σ 2 [99,111,110,115,116]=true
 .unfold bH;rw[Y9 b];exact Oh a
 .by_cases d:ay σ 2 [112,114,111,103,114,97,109]=true
  .unfold bH;rw[Y2 b,Y9 d];exact Om a
  .by_cases e:σ.s.x.H=2
   .rw[sT b d e];have c:Rn (gh σ):=a.of (cx σ.ae 24 σ).y;split
    .exact Op c
    .split
     .exact Oj c
     .split
      .exact On c
      .split
       .exact Oq c
       .exact a.of rfl
   .unfold bH;rw[Y2 b,Y2 d,Y9 (Y8 e)];exact a.of rfl
end
section
variable {t : List UInt8} {g k : St} {e w x z A y : ac} {f l : br} {u : Mar.a5} {h : List ao} {d : ao}
def kR(a:List UInt8×Option ao):Option ao:=match a.2 with
 |some d=>if iX d=true then some d else none
 |none=>none
structure Wh(t:List UInt8)(h:List ao)(f:br)(g:St)(e:ac):Prop where
 q:Q t f g e
 pd:f.pd=[]
 dc:f.dc=0
 fz:f.fz=e.F
 o:f.o=h.flatMap xr
 ps:YL e.y (h.flatMap Ao) f.ps
 rf:f.rf=(h.flatMap gn).map λp=>(p.1,(p.2:Int))
 nl:f.nl.filterMap kR=h.filter iX
 l8:∀p∈f.nl,p.2≠none
 j3:∀p∈f.nl,∀d,p.2=some d->iX d=true->(bB d).1=p.1
 ij:∀(i j:Nat) (a b:df),e.F[i]? = some a->e.F[j]? = some b->i≠j->a.bb=1->b.bb=1->a.n=b.n->a.n<5
 tr:∀(i:Nat) (r:be),e.y[i]? = some r->r.H≠14->∀c∈cu r,5<=c->∀m∈e.F,m.bb=1->m.n≠c
 hF:bG e
 rn:Rn e
 ti:lW g h
def jY{e:Type}{c:List e}{b:Nat}{f:e}(d:c[b]? = some f):b<c.length:=by
 rcases Yj b c.length with a|a
 .exact a
 .rw[YA a]at d;cases d
def Q.bb(o:Q t f g e){l:Nat}{c:List UInt8×Option ao}{b:df}(p:f.nl[l]? = some c)(q:e.F[l]? = some b)(r:b.bb=1):∃d,c.2=some d/\iX d=true/\b.s=c.1/\b.w=(bB d).2/\pq e.y f.nl d b.n:=by
 obtain⟨k,a⟩:=o.nm.hs l c b p q;cases m:c.2 with
 |none=>rw[m]at a;have:b.bb=2:=a;omega
 |some d=>
  rw[m]at a;cases d with
  |const h i j=>have:b.bb=0:=a.1;omega
  |prog h i j d=>have:b.bb=2:=a;omega
  |typedef d=>exact⟨_,rfl,rfl,k,a.2⟩
  |enum h i j=>exact⟨_,rfl,rfl,k,a.2⟩
  |struct h i j=>exact⟨_,rfl,rfl,k,a.2⟩
  |union h i j d=>exact⟨_,rfl,rfl,k,a.2⟩
def Q.l4(n:Q t f g e){b c:Nat}{l m:df}(h:e.F[b]? = some l)(i:e.F[c]? = some m)(o:l.s=m.s):b=c:=by
 have d:(e.F.map (·.s)).Nodup:=by rw[n.nm.lp];exact n.nm.nd
 have d:=List.pairwise_iff_getElem.1 d;have j:=jY h;have k:=jY i;rw[Yd j]at h;rw[Yd k]at i;cases h
 cases i
 rcases Nat.lt_trichotomy b c with a|a|a
 .exact(d b c (by simpa using j) (by simpa using k) a (by simp[o])).elim
 .exact a
 .exact(d c b (by simpa using k) (by simpa using j) a (by simp[o])).elim
def Wh.dL(j:Wh t h f g e)(H:hY (fQ (ap t)) g=.ok (d,k)):∃l,Wh t (h++[d]) l k (bH t e):=by
 have b2:=Dh j.q j.pd j.dc;rw[H]at b2;obtain⟨z,m,e2,ok,c9⟩:=b2;obtain⟨b7,S,N⟩:=ok.nl;have a9:=IB (t:=t) e;have a8:=m.f8.1;rw[ok.fz,j.fz]at a8;obtain⟨e1,b0⟩:=a8;have d6:e.F.length=f.nl.length:=j.q.nm.bc;have a7:∀y∈z.nl,y.2≠none:=by
  intro y i;rw[S]at i;rcases Yn.1 i with i|i
  .exact j.l8 y i
  .rcases Yg.1 i with rfl|i
   .simp
   .obtain⟨b,x,v,D⟩:=N y i;rw[D];simp
 have R:∀(a:Nat) (b:df),(bH t e).F[a]? = some b->b.bb=1->a<e.F.length\/a=e.F.length:=by
  intro a b q B;rcases Yj a e.F.length with p|p
  .exact Y8 p
  .right;have r:a<z.nl.length:=by rw[<-m.nm.bc];exact jY q
   obtain⟨b6,a0⟩:∃b6,z.nl[a]? = some b6:=⟨_,Yd r⟩;obtain⟨d2,a6,a3,-⟩:=m.bb a0 q B;rcases Yj e.F.length a with F|F
   .exfalso;rw[S,Yw (by omega)]at a0;obtain⟨b5,P⟩:∃b5,a-f.nl.length=b5+1:=⟨a-f.nl.length-1,by omega⟩;rw[P,List.getElem?_cons_succ]at a0;obtain⟨d0,d1,e4,D⟩:=N _ (Yh a0);rw[D]at a6;cases a6
    cases a3
   .omega
 have K:∀(a:Nat) (b:df),a<e.F.length->(bH t e).F[a]? = some b->e.F[a]? = some b:=by
  intro a b r q;rw[b0,Ys r]at q;exact q
 have a5:∀(b:df),(bH t e).F[e.F.length]? = some b->b.bb=1->nU e.y.length (bH t e).y.length b.n:=by
  intro b q B;rcases LI (t:=t) e b (Yh q) B with p|p
  .exfalso;obtain⟨s,w,c2⟩:=List.mem_iff_getElem.1 p;have J:(bH t e).F[s]? = some b:=by rw[b0,Ys w,Yd w,c2]
   have:=m.l4 q J rfl;omega
  .exact p
 have d4:fQ (ap t) g=.ok (d,{ k with F:=k.F })\/True:=Ya trivial;have a4:∃a2,fQ (ap t) g=.ok (d,a2)/\k = { a2 with F:=cM a2.F (bB d).1 d }:=by
  cases c:fQ (ap t) g with
  |error u=>rw[hZ c]at H;cases H
  |ok e3=>
   rw[ow c]at H;cases H
   exact⟨_,rfl,rfl⟩
 obtain⟨a2,a4,c8⟩:=a4;have b8:=j.rn.hv;refine⟨{ z with fz:=(bH t e).F },⟨⟨m.e,m.wd,m.nl,m.pd,m.nm,m.L,m.cn,m.pg,m.e2,m.cP,m.ou,m.pr,m.fq,⟨⟨[],by simp⟩,λs y _ i=>a7 y (Yh i)⟩⟩,ok.pd,ok.dc,rfl,?_,?_,?_,?_,a7,?_,?_,?_,Lr j.hF b8,Oi j.rn,?_⟩⟩
 .show z.o=_;rw[ok.o,j.o];simp
 .show YL _ _ z.ps;rw[ok.ps,YK];exact(j.ps.bZ a9).cF (by simpa using c9)
 .show z.rf=_;rw[ok.rf,j.rf];simp
 .show z.nl.filterMap kR=_;rw[S,List.filterMap_append,j.nl,List.filter_append];congr 1;have b4:b7.filterMap kR=[]:=by
   rw[List.filterMap_eq_nil_iff];intro C c;obtain⟨b,x,v,D⟩:=N C c;simp[kR,D,iX]
  rw[List.filterMap_cons];cases A:iX d with
  |true=>simp[kR,A,b4]
  |false=>simp[kR,A,b4]
 .intro y i D I b3;have i:y∈z.nl:=i;rw[S]at i;rcases Yn.1 i with i|i
  .exact j.j3 y i D I b3
  .rcases Yg.1 i with rfl|i
   .simp only[Yu]at I;rw[<-I]
   .obtain⟨b,x,v,a3⟩:=N y i;rw[a3]at I;cases I
    cases b3
 .intro a s b x q A c1 M G b9;rcases R a b q M with r|r
  .rcases R s x A G with w|w
   .exact j.ij a s b x (K a b r q) (K s x w A) c1 M G b9
   .subst w;have d7:=j.hF b (Yh (K a b r q)) M;rcases a5 x A G with p|p
    .omega
    .omega
  .subst r;rcases R s x A G with w|w
   .have d8:=j.hF x (Yh (K s x w A)) G;rcases a5 b q M with p|p
    .exact p
    .omega
   .omega
 .intro a a1 L P C c c0 E c5 B;have O:=m.cP a a1 L;have d3:C<(max a 5:Nat):=by
   unfold cu at c;split at c
   .simp at c;subst c;exact O.1
   .split at c
    .exact O.2.1 C c
    .split at c
     .rcases Yn.1 c with c|c
      .exact O.2.1 C c
      .simp at c;subst c;exact O.2.2.1
     .cases c
  have d5:=jY L;obtain⟨s,w,c3⟩:=List.mem_iff_getElem.1 c5;have J:(bH t e).F[s]? = some E:=by rw[Yd w,c3]
  intro c6;rcases R s E J B with p|p
  .have b1:=K s E p J;have d9:=j.hF E (Yh b1) B;rcases Yj a e.y.length with r|r
   .have c7:e.y[a]? = some a1:=by
     obtain⟨e0,c4⟩:=a9;rw[c4,Ys r]at L;exact L
    exact j.tr a a1 c7 P C c c0 E (Yh b1) B c6
   .rcases(HT (t:=t) e).2 a a1 L r P C c with F|F<;>omega
  .subst p;rcases a5 E J B with F|F
   .omega
   .omega
 .rw[c8];exact j.ti.dL a4
end
section
variable {d : List UInt8} {b j : St} {a k l o p m : ac} {f i : br} {g : Mar.a5} {h : List ao} {c : ao}
def start(d:List UInt8):ac:={ il with s:=⟨cR d 0,0,0⟩,y:=jR }
def pJ:br:=⟨0,[],[],[],[],[],[]⟩
def Sr(d:List UInt8):Wh d [] pJ eP (start d):=by
 have g:∀(a:Nat) (b:be),jR[a]? = some b->ut (max a 5) b/\b.H≠14/\cu b=[]/\b.b2=[]/\b.c0=[]:=by
  intro a b e;have h:=jY e;have:a=0\/a=1\/a=2\/a=3\/a=4:=by simp[jR]at h;omega
  rcases this with rfl|rfl|rfl|rfl|rfl<;>(simp[jR]at e;subst e;refine⟨⟨by simp,by simp,by simp,by simp⟩,by simp,rfl,rfl,rfl⟩)
 refine⟨⟨rfl,En d 0,rfl,Y8 rfl,⟨rfl,λa i b f=>by simp[pJ]at f,by simp[pJ]⟩,rfl,rfl,rfl,⟨[],rfl⟩,λa b e=>(g a b e).1,rfl,rfl,rfl,⟨⟨[],rfl⟩,λq i o=>by simp[pJ]at o⟩⟩,rfl,rfl,rfl,rfl,qV _,rfl,rfl,?_,?_,?_,?_,?_,?_,?_⟩
 .intro i f;simp[pJ]at f
 .intro i f;simp[pJ]at f
 .intro a q r s n;simp[start,il]at n
 .intro a b e u t j;rw[(g a b e).2.2.1]at j;cases j
 .intro v p;simp[start,il]at p
 .refine⟨by simp[start,jR],?_⟩;intro b e;obtain⟨a,h⟩:=List.mem_iff_getElem?.1 e;obtain⟨-,-,-,l,m⟩:=g a b h;rw[l,m];simp
 .exact⟨by simp[eP],by simp[eP],by simp[eP],by simp,λw c k=>by simp[eP,az]at k⟩
def hK(a:ac)(b:be):be:=if b.H=14 then { b with of:=(fj a b.ca).n }else b
def fV(a:ac)(b:Nat):ac:={ a with y:=(a.y.take b).map (hK a)++a.y.drop b }
def ME(a:ac):fV a 0=a:=by simp[fV]
def MD(a:ac):fV a a.y.length = { a with y:=a.y.map (hK a) }:=by simp[fV]
def yu{b:Nat}{e:be}(d:a.y[b]? = some e):(fV a b).y.getD b cT=e:=by
 have f:=jY d;have c:((a.y.take b).map (hK a)).length=b:=by simp;omega
 unfold fV;simp only;rw[List.getD_eq_getElem?_getD,Yw (by rw[c];exact Y4 _),c,Nat.sub_self,List.getElem?_drop,Nat.add_zero,d];rfl
def CB{b:Nat}{d:be}(c:a.y[b]? = some d):fV a (b+1) = { fV a b with y:=(fV a b).y.set b (hK a d) }:=by
 have e:=jY c;have f:((a.y.take b).map (hK a)).length=b:=by simp;omega
 unfold fV;simp only;congr 1;have g:a.y.drop b=d::a.y.drop (b+1):=by
  rw[Yk e];rw[Yd e]at c;cases c
  rfl
 have h:a.y.take (b+1)=a.y.take b++[d]:=by
  rw[List.take_succ,c];rfl
 rw[g,h,List.set_append_right _ _ (by rw[f];exact Y4 _),f,Nat.sub_self,List.map_append];simp
def fa(b:St)(a:List UInt8):Bool:=match az b.F a with
 |some c=>oA c
 |none=>false
def JZ(b:St)(a:List UInt8×Nat):jy b a=if fa b a.1=true then .ok ()else .error ⟨7,a.2⟩:=by
 unfold jy fa;cases az b.F a.1 with
 |none=>rfl
 |some c=>cases oA c<;>rfl
def DY(n:Q d f b a)(x:f.pd=[])(e:List UInt8):(fa b e=true/\∃(m:Nat) (c:ao) (h:df),az b.F e=some (some c)/\iX c=true/\f.nl[m]? = some (e,some c)/\a.F[m]? = some h/\h.bb=1/\fj a e=h/\¬(bA a e<0\/(fj a e).bb≠1))\/(fa b e=false/\(bA a e<0\/(fj a e).bb≠1)):=by
 have w:b.F=f.nl:=by rw[n.nl,x];simp
 unfold fa;rw[w];rcases n.i6 e with⟨o,p⟩|⟨m,y,h,o,p,u,q,v⟩
 .right;rw[o];exact⟨rfl,Y8 p⟩
 .have r:fj a e=h:=by
   unfold fj;rw[p,Int.toNat_natCast,List.getD_eq_getElem?_getD,q];rfl
  rw[o];simp only;by_cases g:h.bb=1
  .obtain⟨c,s,t,-⟩:=n.bb u q g;simp only at s;subst s;left;exact⟨t,m,c,h,rfl,t,u,q,g,r,by rw[r,g];simp;omega⟩
  .right;refine⟨?_,Ya (by rw[r];exact g)⟩;have l:=v.2;cases y with
   |none=>rfl
   |some c=>
    cases c with
    |const i j k=>rfl
    |prog i j k c=>rfl
    |typedef c=>exact absurd l.1 g
    |enum i j k=>exact absurd l.1 g
    |struct i j k=>exact absurd l.1 g
    |union i j k c=>exact absurd l.1 g
abbrev uX(b:St):eV Unit:=fC ⟨0,0,0,0,[]⟩ ⟨#[]⟩ b [] 0
def QU(b:St)(a:List UInt8×Nat)(c:List (List UInt8×Nat)):aZ (uX b) (a::c) ()=if fa b a.1=true then aZ (uX b) c ()else .error ⟨7,a.2⟩:=by
 conv=>lhs;unfold aZ
 have d:(uX b).ba a ()=jy b a:=rfl;rw[d,JZ];cases fa b a.1<;>rfl
def NE(a:be)(b:List be):ki (a::b)=if a.H=14 then (a.ca,a.w)::ki b else ki b:=by
 unfold ki;rw[List.filterMap_cons];by_cases c:a.H=14
 .simp[c]
 .simp[c]
def NH(v:Q d f b a)(K:f.pd=[]):∀(o h:Nat) (j:List (List UInt8×Nat)),h+o=a.y.length->ki (a.y.drop h)=j.map (λl=>(l.1,(l.2:Int)))->
  match aZ (uX b) j ()with
  |.error g=>Er g (mt o h (fV a h))
  |.ok _=>mt o h (fV a h)=fV a a.y.length/\∀l∈j,fa b l.1=true:=by
 intro o;induction o with
 |zero=>
  intro h j I i;have:h=a.y.length:=by omega
  subst this;rw[List.drop_length]at i;have:j=[]:=by
   cases j with
   |nil=>rfl
   |cons A j=>simp[ki]at i
  subst this;exact⟨rfl,by simp⟩
 |succ o z=>
  intro h j I i;have r:h<a.y.length:=by omega
  obtain⟨k,m⟩:∃k,a.y[h]? = some k:=⟨_,Yd r⟩;have F:a.y.drop h=k::a.y.drop (h+1):=by
   rw[Yk r];rw[Yd r]at m;cases m
   rfl
  rw[F,NE]at i;unfold mt;rw[yu m];by_cases q:k.H=14
  .rw[Y9 q]at i ⊢;cases j with
   |nil=>simp at i
   |cons l j=>
    simp only[List.map_cons,List.cons.injEq,Prod.mk.injEq]at i;obtain⟨⟨y,D⟩,i⟩:=i;rw[QU];have H:bA (fV a h) k.ca=bA a k.ca:=rfl;have J:fj (fV a h) k.ca=fj a k.ca:=rfl;rw[H,J,y];rcases DY v K l.1 with⟨p,N,c,O,-,-,-,-,-,M,C⟩|⟨p,B⟩
    .rw[Y9 p,Y2 C];have t:lG (fV a h) h (fj a l.1).n=fV a (h+1):=by
      rw[<-y,CB m];unfold lG;rw[yu m];unfold hK;rw[Y9 q]
     rw[t];have:=z (h+1) j (by omega) i;split at this
     .rename_i g E;exact this
     .rename_i P E;refine⟨this.1,?_⟩;intro L u;rcases Yg.1 u with rfl|u
      .exact p
      .exact this.2 L u
    .rw[Y2 (by rw[p];simp),Y9 B,D];have G:(fV a h).s.e=0:=v.e;exact zH G (e:=7) (a:=l.2) (by omega)
  .rw[Y2 q]at i ⊢;have t:fV a h=fV a (h+1):=by
    rw[CB m];unfold hK;rw[Y2 q];have:(fV a h).y.set h k=(fV a h).y:=by
     have w:=yu m;apply CY;have x:h<(fV a h).y.length:=by
      unfold fV;simp;omega
     rw[Yd x];rw[List.getD_eq_getElem?_getD,Yd x]at w;simpa using w
    rw[this]
   rw[t];exact z (h+1) j (by omega) i
def ge(a:ac):ac:={ a with y:=a.y.map (hK a) }
def Po(c:Wh d h f b a):match kJ b h with
  |.error g=>Er g (lD a)
  |.ok _=>lD a=ge a/\∀e∈h.flatMap gn,fa b e.1=true:=by
 have:=NH c.q c.pd a.y.length 0 (h.flatMap gn) (by omega) (by rw[List.drop_zero,c.q.fq,c.rf]);rw[ME,MD]at this;exact this
end
end Go.Proofs.YtjdhaegijjednaaGreatDoor
namespace Go.Proofs.YtjdhaegijjednaaGreatDoor
open Go.RowKit
open Relation
open Go.Proofs.Tryz
section
variable {P:Nat->Prop}{a:List Bool}{c y:Nat}
variable {σ : ac} {st : St}
def Re(σ:ac)(c y:Nat):Prop:=∃a,σ.y[c]? = some a/\(y:Int)∈cu a
abbrev Sn(a:List Bool)(c:Nat):Prop:=a.getD c false=true
def PF{b:Nat}:Sn (a.set b true) y↔Sn a y\/(y=b/\b<a.length):=by
 unfold Sn;by_cases c:b=y
 .subst c;by_cases d:b<a.length
  .simp[d]
  .simp[d]
 .have:¬y=b:=λe=>c e.symm;simp[c,this]
def rW:∀(e:List Int) (a:List Bool) (y:Nat),Sn (hq e a) y↔Sn a y\/((y:Int)∈e/\y<a.length):=by
 intro e;induction e with
 |nil=>intro a y;simp[hq]
 |cons c e h=>
  intro a y;have g:hq (c::e) a=hq e (if 0<=c then a.set c.toNat true else a):=rfl
  rw[g,h];by_cases f:0<=c
  .rw[Y9 f,PF];simp only[YF,Yg];constructor
   .rintro((b|⟨b,d⟩)|⟨b,d⟩)
    .exact Y8 b
    .exact Ya ⟨Y8 (by omega),by omega⟩
    .exact Ya ⟨Ya b,d⟩
   .rintro(b|⟨b|b,d⟩)
    .exact Y8 (Y8 b)
    .exact Y8 (Ya ⟨by omega,by omega⟩)
    .exact Ya ⟨b,d⟩
  .rw[Y2 f];simp only[Yg];constructor
   .rintro(b|⟨b,d⟩)
    .exact Y8 b
    .exact Ya ⟨Ya b,d⟩
   .rintro(b|⟨b|b,d⟩)
    .exact Y8 b
    .omega
    .exact Ya ⟨b,d⟩
def yJ{a:Nat}(b:a<σ.y.length):σ.y[a]? = some (σ.y.getD a cT):=by simp[b]
def PE(b:Sn a c):c<a.length:=by
 rcases Yj c a.length with d|d
 .exact d
 .unfold Sn at b;rw[List.getD_eq_getElem?_getD,YA d]at b;cases b
def yI:∀(c d:Nat) (a:List Bool) (y:Nat),Sn a y->Sn (gM σ c d a) y:=by
 intro c;induction c with
 |zero=>intro d a y b;exact b
 |succ c e=>
  intro d a y b;apply e;split
  .exact(rW _ _ _).2 (Y8 b)
  .exact b
def Oz:∀(d b:Nat) (a:List Bool) (c y:Nat),b<=c->c<b+d->Sn a c->Re σ c y->y<a.length->Sn (gM σ d b a) y:=by
 intro d;induction d with
 |zero=>intro b a c y h i;omega
 |succ d m=>
  intro b a c y h i e g f;unfold gM;by_cases l:c=b
  .subst l;apply yI;rw[Y9 e,rW];obtain⟨n,j,k⟩:=g;right;refine⟨?_,f⟩;rw[List.getD_eq_getElem?_getD,j];exact k
  .apply m (b+1) _ c y (by omega) (by omega) _ g
   .split
    .rw[xV];exact f
    .exact f
   .split
    .exact(rW _ _ _).2 (Y8 e)
    .exact e
def Oy(h:∀c y,P c->Re σ c y->P y):∀(e b:Nat) (a:List Bool),b+e<=σ.y.length->(∀y,Sn a y->P y)->∀y,Sn (gM σ e b a) y->P y:=by
 intro e;induction e with
 |zero=>intro b a _ d;exact d
 |succ e j=>
  intro b a k d;apply j (b+1) _ (by omega);intro y g;split at g
  .rename_i i;rcases(rW _ _ _).1 g with f|⟨f,-⟩
   .exact d y f
   .exact h b y (d b i) ⟨_,yJ (by omega),f⟩
  .exact d y g
def OC:∀(b:Nat) (a:List Bool) (y:Nat),Sn a y->Sn (fM σ b a) y:=by
 intro b;induction b with
 |zero=>intro a y c;exact c
 |succ b d=>intro a y c;exact d _ _ (yI _ _ _ _ c)
def CO(e:∀c y,P c->Re σ c y->P y):∀(b:Nat) (a:List Bool),(∀y,Sn a y->P y)->∀y,Sn (fM σ b a) y->P y:=by
 intro b;induction b with
 |zero=>intro a d;exact d
 |succ b f=>intro a d;exact f _ (Oy e _ _ _ (by omega) d)
def Ou:∀(b:Nat) (a:List Bool),(fM σ b a).length=a.length:=by
 intro b;induction b with
 |zero=>intro a;rfl
 |succ b c=>intro a;show (fM σ b _).length=_;rw[c,CN]
def jU:List Bool->Nat
 |[]=>0
 |b::a=>(if b then 1 else 0)+jU a
def Gr(a:List Bool):jU a<=a.length:=by
 induction a with
 |nil=>exact Y4 _
 |cons b a c=>simp only[jU,YC];split<;>omega
def Gs:∀(a b:List Bool),a.length=b.length->(∀y,Sn a y->Sn b y)->a≠b->jU a+1<=jU b:=by
 intro a;induction a with
 |nil=>intro b d _ e;exact absurd (Yv.1 d.symm).symm e
 |cons c a n=>
  intro b d g e;cases b with
  |nil=>simp at d
  |cons f b=>
   have k:a.length=b.length:=by simpa using d
   have l:∀y,Sn a y->Sn b y:=λy m=>g (y+1) m;have h:c=true->f=true:=λj=>g 0 (show (c::a).getD 0 false=true from j);simp only[jU];by_cases i:a=b
   .subst i;cases c with
    |true=>exact absurd (by rw[h rfl]) e
    |false=>
     cases f with
     |true=>simp;omega
     |false=>exact absurd rfl e
   .have o:=n b k l i;cases c with
    |true=>rw[h rfl];simp;omega
    |false=>simp;omega
def OD(c:gM σ σ.y.length 0 a=a):∀b,fM σ b a=a:=by
 intro b;induction b with
 |zero=>rfl
 |succ b d=>show fM σ b (gM σ σ.y.length 0 a)=a;rw[c];exact d
def OB:∀(b:Nat) (a:List Bool),gM σ σ.y.length 0 (fM σ b a)=fM σ b a\/jU a+b<=jU (fM σ b a):=by
 intro b;induction b with
 |zero=>intro a;exact Ya (Y4 _)
 |succ b g=>
  intro a;by_cases c:gM σ σ.y.length 0 a=a
  .left;rw[OD c];exact c
  .have h:=Gs a (gM σ σ.y.length 0 a) (CN _ _ _ _).symm (λy f=>yI _ _ _ _ f) (λe=>c e.symm);rcases g (gM σ σ.y.length 0 a)with d|d
   .exact Y8 d
   .right;show jU a+(b+1)<=jU (fM σ b _);omega
def Gt(b:Sn a y):1<=jU a:=by
 induction a generalizing y with
 |nil=>cases b
 |cons c a d=>
  cases y with
  |zero=>
   have:c=true:=b;subst this;simp[jU]
  |succ y=>have:=d (y:=y) b;simp only[jU];omega
def OA(h:a.length=σ.y.length)(e:Sn (fM σ σ.y.length a) c)(g:Re σ c y)(b:y<σ.y.length):Sn (fM σ σ.y.length a) y:=by
 have f:=Ou (σ:=σ) σ.y.length a;have i:gM σ σ.y.length 0 (fM σ σ.y.length a)=fM σ σ.y.length a:=by
  rcases OB (σ:=σ) σ.y.length a with d|d
  .exact d
  .have k:=Gr (fM σ σ.y.length a);have j:∀y,¬Sn a y:=λy b=>by have:=Gt b;omega
   exfalso;exact CO (σ:=σ) (P:=λ_=>False) (λ_ _ d _=>d) σ.y.length a (λy b=>j y b) c e
 rw[<-i];exact Oz _ _ _ c y (YV _) (by have:=PE e;omega) e g (by rw[f,h];exact b)
def CJ(e:sv σ)(a:Re σ c y):y<σ.y.length:=by
 obtain⟨f,b,d⟩:=a;have:=(e f (Yh b)).2 y d;omega
def HB(h:sv σ){r:Nat}(g:r<σ.y.length):mh σ r=true↔TransGen (Re σ) r r:=by
 have k:(hq (cu (σ.y.getD r cT)) (List.replicate σ.y.length false)).length=σ.y.length:=by rw[xV];simp
 have j:∀y,¬Sn (List.replicate σ.y.length false) y:=λy a=>by
  unfold Sn at a;rw[List.getD_eq_getElem?_getD]at a;cases e:(List.replicate σ.y.length false)[y]? with
  |none=>rw[e]at a;cases a
  |some o=>
   rw[e]at a;have:=Yh e;rw[List.eq_of_mem_replicate this]at a;cases a
 constructor
 .intro d;refine CO (σ:=σ) (P:=λy=>TransGen (Re σ) r y) (λc y m a=>TransGen.tail m a) σ.y.length _ ?_ r d;intro y a;rcases(rW _ _ _).1 a with b|⟨b,-⟩
  .exact absurd b (j y)
  .exact TransGen.single ⟨_,yJ g,b⟩
 .intro d;have all:∀y,TransGen (Re σ) r y->Sn (fM σ σ.y.length (hq (cu (σ.y.getD r cT)) (List.replicate σ.y.length false))) y:=by
   intro y a;induction a with
   |single b=>
    apply OC;rw[rW];right;have l:=CJ h b;obtain⟨p,f,i⟩:=b;rw[yJ g]at f;cases f
    exact⟨i,by simpa using l⟩
   |tail _ b n=>exact OA k n b (CJ h b)
  exact all r d
def Ne(st:St)(c b:List UInt8):Prop:=∃a,(b,a)∈ln st c
def Kw(st:St)(a:List UInt8):Prop:=a∈st.F.map (·.1)
def RP{b d:List (List UInt8)}(f:∀c∈b,c∈d):hu st d<=hu st b:=by
 unfold hu;induction st.F with
 |nil=>simp
 |cons e i h=>
  rw[List.countP_cons,List.countP_cons];have:(!d.contains e.1)=true->(!b.contains e.1)=true:=by
   intro a;simp only[Bool.not_eq_true',List.contains_eq_mem,decide_eq_false_iff_not]at a ⊢;exact λg=>a (f _ g)
  split
  .rename_i a;rw[Y9 (this a)];omega
  .split<;>omega
def Ed{b:List (List UInt8)}{c:List UInt8}(k:c ∉ b)(d:Kw st c):hu st (b++[c])+1<=hu st b:=by
 unfold hu Kw at *
 revert d;induction st.F with
 |nil=>intro d;simp at d
 |cons a h m=>
  intro d;have n:h.countP (λa=>!(b++[c]).contains a.1)<=h.countP (λa=>!b.contains a.1):=by
   apply List.countP_mono_left;intro o _ g;simp only[Bool.not_eq_true',List.contains_eq_mem,decide_eq_false_iff_not]at g ⊢;exact λl=>g (Yf _ l)
  rw[List.countP_cons,List.countP_cons];by_cases f:a.1=c
  .have e:(!(b++[c]).contains a.1)=false:=by simp[f]
   have i:(!b.contains a.1)=true:=by simp[f,k]
   rw[e,i];simp only[Ye,if_false,if_true]
   omega
  .have:=m (by
    rw[List.map_cons,Yg]at d;rcases d with e|e
    .exact absurd e.symm f
    .exact e)
   have j:(!(b++[c]).contains a.1)=(!b.contains a.1):=by simp[f]
   rw[j];omega
structure Fo(st:St)(src:List UInt8->Prop)(t R:List (List UInt8)):Prop where
 cc:∀c∈t,c∈R
 kA:∀n,src n->n∈R
 k3:∀c∈R,c∈t\/∃n,src n/\(c=n\/TransGen (Ne st) n c)
 cl:∀c∈R,c ∉ t->∀y,Ne st c y->y∈R
def AS{k:Nat}(u:∀b a,Kw st b->hu st a<=k->Fo st (λd=>d=b) a (follow st k b a)):∀(j:List (List UInt8×Nat)) (a:List (List UInt8)),(∀d∈j,Kw st d.1)->hu st a<=k->Fo st (λb=>∃h,(b,h)∈j) a (j.foldl (λa d=>follow st k d.1 a) a):=by
 intro j;induction j with
 |nil=>intro a _ _;exact⟨λc e=>e,λb e=>(by obtain⟨h,e⟩:=e;cases e),λc e=>Y8 e,λc e f=>absurd e f⟩
 |cons d j w=>
  intro a n o;have l:=u d.1 a (n d (by simp)) o;have f:=w (follow st k d.1 a) (λc g=>n c (by simp[g])) (Yz (RP l.cc) o);refine⟨λc g=>f.cc c (l.cc c g),?_,?_,?_⟩
  .rintro b ⟨h,m⟩;rcases Yg.1 m with q|m
   .exact f.cc b (l.kA b (by rw[<-q]))
   .exact f.kA b ⟨h,m⟩
  .intro c g;rcases f.k3 c g with i|⟨b,⟨h,i⟩,r⟩
   .rcases l.k3 c i with s|⟨b,rfl,t⟩
    .exact Y8 s
    .exact Ya ⟨d.1,⟨d.2,by simp⟩,t⟩
   .exact Ya ⟨b,⟨h,by simp[i]⟩,r⟩
  .intro c g v y p;by_cases i:c∈follow st k d.1 a
   .exact f.cc y (l.cl c i v y p)
   .exact f.cl c g i y p
def Io(q:∀a e,Ne st a e->Kw st e):∀(k:Nat) (a:List UInt8) (f:List (List UInt8)),Kw st a->hu st f<=k->Fo st (λe=>e=a) f (follow st k a f):=by
 intro k;induction k with
 |zero=>
  intro a f m r;have:a∈f:=by
   rcases Classical.em (a∈f)with b|b
   .exact b
   .have:=Ed b m;omega
  exact⟨λc b=>b,λe g=>by subst g;exact this,λc b=>Y8 b,λc b d=>absurd b d⟩
 |succ k t=>
  intro a f m r;unfold follow;by_cases j:a∈f
  .rw[Y9 (by simpa using j)];exact⟨λc b=>b,λe g=>by subst g;exact j,λc b=>Y8 b,λc b d=>absurd b d⟩
  .rw[Y2 (by simpa using j)];have h:=AS (k:=k) (λa f h d=>t a f h d) (ln st a) (f++[a]) (λe g=>q a e.1 ⟨e.2,g⟩) (by have:=Ed j m;omega);refine⟨λc i=>h.cc c (Yf _ i),λe g=>by subst g;exact h.cc _ (by simp),?_,?_⟩
   .intro c i;rcases h.k3 c i with d|⟨e,g,l⟩
    .rcases Yn.1 d with d|d
     .exact Y8 d
     .simp at d;exact Ya ⟨a,rfl,Y8 d⟩
    .right;refine⟨a,rfl,Ya ?_⟩;have n:Ne st a e:=g;rcases l with rfl|l
     .exact TransGen.single n
     .exact TransGen.trans (TransGen.single n) l
   .intro c i s y p;by_cases o:c=a
    .subst o;exact h.kA y p
    .exact h.cl c i (by simp[s,o]) y p
def NL(m:∀j a,Ne st j a->Kw st a){d:ao}(n:ln st (bB d).1=eK d):kO st d=true↔TransGen (Ne st) (bB d).1 (bB d).1:=by
 unfold kO;have i:∀a c,(a,c)∈eK d->Ne st (bB d).1 a:=λa c e=>⟨c,by rw[n];exact e⟩;have f:=AS (k:=hu st []) (λj l f b=>Io m _ j l f b) (eK d) [] (λa h=>m _ _ (i a.1 a.2 h)) (Y4 _);generalize (eK d).foldl (λl a=>follow st (hu st []) a.1 l) []=o at *
 rw[List.contains_iff_mem];constructor
 .intro e;rcases f.k3 _ e with b|⟨a,⟨c,h⟩,g⟩
  .cases b
  .rcases g with g|g
   .rw[<-g]at h;exact TransGen.single (i _ _ h)
   .exact TransGen.trans (TransGen.single (i _ _ h)) g
 .intro e;have all:∀y,TransGen (Ne st) (bB d).1 y->y∈o:=by
   intro y p;induction p with
   |single b=>
    obtain⟨c,b⟩:=b;rw[n]at b;exact f.kA _ ⟨c,b⟩
   |tail _ b q=>exact f.cl _ q (by simp) _ b
  exact all _ e
end
section
variable {r:df}{b y:Nat}
variable {f : List UInt8} {st : St} {a : ac} {c : br} {e : List ao}
def kU(st:St)(e:List ao):Prop:=∀a∈e.flatMap gn,fa st a.1=true
structure sA(f:List UInt8)(st:St)(c:br)(a:ac)(n:List UInt8)(d:ao)(r:df):Prop where
 pa:az st.F n=some (some d)
 L:iX d=true
 w:∃i:Nat,c.nl[i]? = some (n,some d)/\a.F[i]? = some r
 bb:r.bb=1
 ca:fj a n=r
 i8:pq a.y c.nl d r.n
 h4:0<=r.n/\r.n<a.y.length
 j3:(bB d).1=n
 q8:r.w=(bB d).2
def Wh.i0(b:Wh f e c st a){k:List UInt8}(n:fa st k=true):∃d r,sA f st c a k d r:=by
 rcases DY b.q b.pd k with⟨-,t,d,r,g,m,h,i,j,s,-⟩|⟨g,-⟩
 .obtain⟨u,l,-,-,o,p⟩:=b.q.bb h i j;simp only[Yu]at l;subst l;exact⟨d,r,g,m,⟨t,h,i⟩,j,s,p,b.hF r (Yh i) j,b.j3 _ (Yh h) d rfl m,o⟩
 .rw[g]at n;cases n
abbrev fG(a:ac)(b:List UInt8):Nat:=(fj a b).n.toNat
def sA.kZ{d:List UInt8}{b:ao}(e:sA f st c a d b r):ln st d=eK b:=by
 unfold ln;rw[e.pa]
def Wh.ne(j:Wh f e c st a)(l:kU st e){i:List UInt8}{g:List UInt8×Nat}(b:g∈ln st i):fa st g.1=true:=by
 unfold ln at b;cases d:az st.F i with
 |none=>rw[d]at b;cases b
 |some m=>
  cases m with
  |none=>rw[d]at b;cases b
  |some h=>
   rw[d]at b;rcases j.ti.nm i h d with k|⟨n,o,v,rfl⟩
   .exact l g (List.mem_flatMap.2 ⟨h,k,Bv h g b⟩)
   .simp[eK]at b
def RA{c:List UInt8}(a:fa st c=true):Kw st c:=by
 unfold fa az at a;cases b:st.F.find? (λf=>f.1==c)with
 |none=>rw[b]at a;cases a
 |some g=>
  have d:=List.mem_of_find?_eq_some b;have e:=List.find?_some b;exact YE.2 ⟨g,d,by simpa using e⟩
def Np{c:be}(e:a.y[b]? = some c)(d:c.H=14)(f:(y:Int)=(fj a c.ca).n):Re (ge a) b y:=by
 refine⟨hK a c,?_,?_⟩
 .show (a.y.map (hK a))[b]? = _;rw[List.getElem?_map,e];rfl
 .unfold hK;simp[cu,d,f]
def vQ{c:be}(e:a.y[b]? = some c)(d:c.H≠14)(f:(y:Int)∈cu c):Re (ge a) b y:=by
 refine⟨hK a c,?_,?_⟩
 .show (a.y.map (hK a))[b]? = _;rw[List.getElem?_map,e];rfl
 .unfold hK;rw[Y2 d];exact f
def yD(i:Re (ge a) b y):∃d,a.y[b]? = some d/\((d.H=14/\(y:Int)=(fj a d.ca).n)\/(d.H≠14/\(y:Int)∈cu d)):=by
 obtain⟨d,c,e⟩:=i;have c:(a.y.map (hK a))[b]? = some d:=c;rw[List.getElem?_map]at c;cases g:a.y[b]? with
 |none=>rw[g]at c;cases c
 |some h=>
  rw[g]at c;simp only[Option.map_some,Yu]at c;subst c;refine⟨h,rfl,?_⟩;unfold hK at e;by_cases f:h.H=14
  .left;simp[cu,f]at e;exact⟨f,e⟩
  .right;rw[Y2 f]at e;exact⟨f,e⟩
def Wh.kz(s:Wh f e c st a):∀{h:Ty} {b:Int} {g:List UInt8×Nat},dz a.y h b->g∈cI h->fa st g.1=true->0<=b/\TransGen (Re (ge a)) b.toNat (fG a g.1):=by
 intro h;induction h with
 |plain z=>intro b g _ d;simp[cI]at d
 |named B v=>
  rintro b g ⟨j,A,k,l,m,-⟩ d n;simp[cI]at d;subst d;obtain⟨w,r,q⟩:=s.i0 n;refine⟨j,TransGen.single (Np k l ?_)⟩;rw[m];unfold fG;have:=q.h4;rw[q.ca];omega
 |opaq p i=>intro b g _ d;simp[cI]at d
 |str p i=>intro b g _ d;simp[cI]at d
 |arr u p i o=>
  rintro b g ⟨j,t,k,l⟩ d n;cases i with
  |false=>simp[cI]at d
  |true=>
   obtain⟨x,m⟩:=o l d n;refine⟨j,TransGen.trans (TransGen.single (vQ (y:=t.toNat) k (by simp[dI]) ?_)) m⟩;simp[cu,dI];omega
 |opt u o=>intro b g _ d;simp[cI]at d
 |void=>intro b g _ d;simp[cI]at d
def Wh.mP(q:Wh f e c st a){z:List UInt8}{h:ao}(B:sA f st c a z h r){A:List UInt8×Nat}(b:A∈eK h)(t:fa st A.1=true):TransGen (Re (ge a)) (fG a z) (fG a A.1):=by
 have N:fG a z=r.n.toNat:=by unfold fG;rw[B.ca]
 rw[N];have l:=B.i8;cases h with
 |const n p g=>exact l.elim
 |prog n p g h=>exact l.elim
 |typedef h=>exact(q.kz l.1 b t).2
 |enum n p g=>simp[eK]at b
 |struct n p R=>
  obtain⟨H,m,s,u,v⟩:=l;simp only[eK,List.mem_flatMap]at b;obtain⟨O,L,b⟩:=b;obtain⟨d,k⟩:=List.mem_iff_getElem?.1 L;have w:d<m.length:=by rw[u];exact jY k
  have x:=Yd w;obtain⟨i,j⟩:=q.kz (v d _ O x k) b t;refine TransGen.trans (TransGen.single (vQ (y:=(m[d]).toNat) s (by simp) ?_)) j;simp only[cu];rw[Int.toNat_of_nonneg i];simp
 |union n p S F=>
  obtain⟨H,of,m,G,s,-,u,v,C,I⟩:=l;simp only[eK,List.mem_flatMap]at b;obtain⟨o,D,b⟩:=b;by_cases E:o.1=[]
  .have K:=I o D E;rw[K]at C;obtain⟨i,j⟩:=q.kz C b t;refine TransGen.trans (TransGen.single (vQ (y:=G.toNat) s (by simp) ?_)) j;simp only[cu];rw[Int.toNat_of_nonneg i];simp
  .obtain⟨g,P,J⟩:=List.exists_cons_of_ne_nil E;have M:(g,o.2)∈dH F:=List.mem_flatMap.2 ⟨o,D,YE.2 ⟨g,by rw[J];simp,rfl⟩⟩;obtain⟨d,k⟩:=List.mem_iff_getElem?.1 M;have w:d<m.length:=by rw[u];exact jY k
   have x:=Yd w;obtain⟨i,j⟩:=q.kz (v d _ _ x k) b t;refine TransGen.trans (TransGen.single (vQ (y:=(m[d]).toNat) s (by simp) ?_)) j;simp only[cu];rw[Int.toNat_of_nonneg i];simp
def Wh.p3(d:Wh f e c st a)(k:kU st e){j:List UInt8}(o:fa st j=true){i:List UInt8}(p:TransGen (Ne st) j i):fa st i=true/\TransGen (Re (ge a)) (fG a j) (fG a i):=by
 induction p with
 |single b=>
  obtain⟨m,b⟩:=b;have g:=d.ne k b;obtain⟨n,r,h⟩:=d.i0 o;rw[h.kZ]at b;exact⟨g,d.mP h b g⟩
 |tail _ b l=>
  obtain⟨m,b⟩:=b;have g:=d.ne k b;obtain⟨n,r,h⟩:=d.i0 l.1;rw[h.kZ]at b;exact⟨g,TransGen.trans l.2 (d.mP h b g)⟩
def qP(st:St)(a:ac)(c:List UInt8)(b:Nat):Prop:=b=fG a c\/∃d,dz a.y d b/\∀e∈cI d,e∈ln st c
def zZ(g:Q f c st a){e:be}(d:a.y[b]? = some e)(i:b<5):e.H≠14/\cu e=[]:=by
 obtain⟨j,h⟩:=g.e2;rw[h,Ys (by simp[jR];omega)]at d;have:b=0\/b=1\/b=2\/b=3\/b=4:=by omega
 rcases this with rfl|rfl|rfl|rfl|rfl<;>(simp[jR]at d;subst d;exact⟨by simp,rfl⟩)
def Wh.nu(F:Wh f e c st a){k:List UInt8}{t:Ty}(h:dz a.y t (b:Int))(z:∀s∈cI t,s∈ln st k)(H:Re (ge a) b y) :
  (∃p,Ne st k p/\(y:Int)=(fj a p).n)\/(qP st a k y/\∃(b:Nat) (l:be),a.y[b]? = some l/\l.H≠14/\(y:Int)∈cu l):=by
 obtain⟨l,i,g⟩:=yD H;have o:((b:Int)).toNat=b:=by simp
 have m:l.H≠14->cu l=[]->False:=λC D=>by
  rcases g with⟨g,-⟩|⟨-,g⟩
  .exact C g
  .rw[D]at g;cases g
 cases t with
 |plain L=>
  have J:=h.1;have K:=h.2;have v:=zZ F.q i (by omega);exact(m v.1 v.2).elim
 |named p u=>
  obtain⟨-,M,w,r,E,-⟩:=h;rw[o,i]at w;cases w
  rcases g with⟨-,j⟩|⟨j,-⟩
  .left;exact⟨p,⟨u,z (p,u) (by simp[cI])⟩,by rw[j,E]⟩
  .exact absurd r j
 |opaq k n=>
  have d:=h.2;rw[o,i]at d;cases d
  exact(m (by cases n<;>simp[ek]) (by cases n<;>rfl)).elim
 |str k n=>
  have d:=h.2;rw[o,i]at d;cases d
  exact(m (by simp[ek]) rfl).elim
 |arr B k n=>
  obtain⟨-,A,d,r⟩:=h;rw[o,i]at d;cases d
  cases n with
  |false=>exact(m (by simp[dI]) rfl).elim
  |true=>
   rcases g with⟨j,-⟩|⟨j,x⟩
   .simp[dI]at j
   .right;have I:(y:Int)=A:=by simpa[cu,dI]using x
    exact⟨Ya ⟨B,by rw[I];exact r,λs G=>z s (by simpa[cI]using G)⟩,b,_,i,j,x⟩
 |opt B=>
  obtain⟨-,A,d,r⟩:=h;rw[o,i]at d;cases d
  exact(m (by simp[dI]) rfl).elim
 |void=>have:(b:Int) = -1:=h;omega
def Wh.o7(C:Wh f e c st a){p:List UInt8}(a4:fa st p=true)(a2:qP st a p b)(H:Re (ge a) b y) :
  (∃R,Ne st p R/\(y:Int)=(fj a R).n)\/(qP st a p y/\∃(b:Nat) (x:be),a.y[b]? = some x/\x.H≠14/\(y:Int)∈cu x):=by
 rcases a2 with rfl|⟨a8,i,a6⟩
 .obtain⟨q,r,z⟩:=C.i0 a4;have P:fG a p=r.n.toNat:=by unfold fG;rw[z.ca]
  have a5:((fG a p:Nat):Int)=r.n:=by rw[P];have:=z.h4;omega
  have w:=z.kZ;have i:=z.i8;obtain⟨x,o,D⟩:=yD H;rw[P]at o;cases q with
  |const n u B=>exact i.elim
  |prog n u B q=>exact i.elim
  |typedef q=>exact C.nu (by rw[a5];exact i.1) (λK l=>by rw[w];exact l) H
  |enum n u B=>
   have d:=i.2;rw[o]at d;cases d
   rcases D with⟨k,-⟩|⟨-,k⟩
   .simp at k
   .simp[cu]at k
  |struct n u J=>
   obtain⟨a0,L,d,k,E⟩:=i;rw[o]at d;cases d
   rcases D with⟨g,-⟩|⟨g,M⟩
   .simp at g
   .right;have m:(y:Int)∈L:=by simpa[cu]using M
    obtain⟨j,s⟩:=List.mem_iff_getElem?.1 m;have v:j<J.length:=by rw[<-k];exact jY s
    refine⟨Ya ⟨J[j].L,E j _ _ s (Yd v),λK l=>?_⟩,_,_,o,g,M⟩;rw[w];exact List.mem_flatMap.2 ⟨J[j],Yy v,l⟩
  |union n u a7 t=>
   obtain⟨a0,of,L,S,d,-,k,E,g,-⟩:=i;rw[o]at d;cases d
   rcases D with⟨F,-⟩|⟨F,N⟩
   .simp at F
   .right;refine⟨?_,_,_,o,F,N⟩;have m:(y:Int)∈L\/(y:Int)=S:=by simpa[cu]using N
    rcases m with m|m
    .obtain⟨j,s⟩:=List.mem_iff_getElem?.1 m;have v:j<(dH t).length:=by rw[<-k];exact jY s
     obtain⟨I,O⟩:∃I,(dH t)[j]? = some I:=⟨_,Yd v⟩;refine Ya ⟨I.2.L,E j _ _ s O,λK l=>?_⟩;rw[w];obtain⟨A,a1,a3⟩:=List.mem_flatMap.1 (Yh O);obtain⟨B,-,rfl⟩:=YE.1 a3;exact List.mem_flatMap.2 ⟨A,a1,l⟩
    .cases h:hC t with
     |none=>rw[h]at g;simp only at g;omega
     |some q=>
      rw[h]at g;refine Ya ⟨q.L,by rw[m];exact g,λK l=>?_⟩;rw[w];unfold hC at h;cases G:t.find? (λn=>n.1.isEmpty)with
      |none=>rw[G]at h;cases h
      |some A=>
       rw[G]at h;simp at h;subst h;exact List.mem_flatMap.2 ⟨A,List.mem_of_find?_eq_some G,l⟩
 .exact C.nu i a6 H
def Wh.up(p:Wh f e c st a)(s:kU st e){g:List UInt8}(u:fa st g=true)(v:TransGen (Re (ge a)) (fG a g) y) :
  (∃h,TransGen (Ne st) g h/\fa st h=true/\y=fG a h)\/(∃d,(d=g\/TransGen (Ne st) g d)/\fa st d=true/\qP st a d y/\∃(b:Nat) (i:be),a.y[b]? = some i/\i.H≠14/\(y:Int)∈cu i):=by
 have o:∀{d:List UInt8} {b y:Nat},(d=g\/TransGen (Ne st) g d)->fa st d=true->qP st a d b->Re (ge a) b y->
   (∃h,TransGen (Ne st) g h/\fa st h=true/\y=fG a h)\/(∃d,(d=g\/TransGen (Ne st) g d)/\fa st d=true/\qP st a d y/\∃(b:Nat) (i:be),a.y[b]? = some i/\i.H≠14/\(y:Int)∈cu i):=by
  intro d b y m q t w;rcases p.o7 q t w with⟨h,l,A⟩|⟨j,k⟩
  .left;refine⟨h,?_,?_,?_⟩
   .rcases m with rfl|m
    .exact TransGen.single l
    .exact TransGen.tail m l
   .obtain⟨z,l⟩:=l;exact p.ne s l
   .unfold fG;omega
  .exact Ya ⟨d,m,q,j,k⟩
 induction v with
 |single j=>exact o (Y8 rfl) u (Y8 rfl) j
 |tail _ j x=>
  rcases x with⟨h,k,n,rfl⟩|⟨d,k,n,r,-⟩
  .exact o (Ya k) n (Y8 rfl) j
  .exact o k n r j
def Il{b:Type}{r:b->b->Prop}{c d:b}(a:TransGen r c d):∃e,r c e:=by
 induction a with
 |single a=>exact⟨_,a⟩
 |tail _ _ f=>exact f
def Wh.ov(g:Wh f e c st a)(p:kU st e){d:List UInt8}(m:fa st d=true):TransGen (Re (ge a)) (fG a d) (fG a d)↔TransGen (Ne st) d d:=by
 constructor
 .intro j;obtain⟨I,r,k⟩:=g.i0 m;have L:fG a d=r.n.toNat:=by unfold fG;rw[k.ca]
  have K:5<=fG a d:=by
   rcases Yj (fG a d) 5 with i|i
   .exfalso;obtain⟨H,D⟩:=Il j;obtain⟨y,B,h⟩:=yD D;obtain⟨z,A⟩:=zZ g.q B i;rcases h with⟨h,-⟩|⟨-,h⟩
    .exact z h
    .rw[A]at h;cases h
   .exact i
  obtain⟨t,E,u⟩:=k.w;rcases g.up p m j with⟨G,i,l,o⟩|⟨N,-,-,-,b,y,l,o,C⟩
  .obtain⟨J,x,n⟩:=g.i0 l;obtain⟨v,w,F⟩:=n.w;have M:fG a G=x.n.toNat:=by unfold fG;rw[n.ca]
   by_cases s:t=v
   .subst s;rw[E]at w;cases w
    exact i
   .exfalso;have:=g.ij t v r x u F s k.bb n.bb (by omega);omega
  .exfalso;exact g.tr b y l o _ C (by omega) r (Yh u) k.bb (by omega)
 .intro j;exact(g.p3 p m j).2
def Wh.ld(g:Wh f e c st a)(v:kU st e):sv (ge a):=by
 intro r m;have m:r∈a.y.map (hK a):=m;obtain⟨n,h⟩:=List.mem_iff_getElem?.1 m;rw[List.getElem?_map]at h;cases i:a.y[n]? with
 |none=>rw[i]at h;cases h
 |some j=>
  rw[i]at h;simp only[Option.map_some,Yu]at h;subst h;have w:(ge a).y.length=a.y.length:=by show (a.y.map _).length=_;simp
  have B:=jY i;have A:=g.rn.hv;have s:=g.rn.c6 j (Yh i);have k:=g.q.cP n j i;rw[w];unfold hK;by_cases l:j.H=14
  .rw[Y9 l];refine⟨s.2,λb d=>?_⟩;simp[cu,l]at d;subst d;have p:(j.ca,j.w)∈ki a.y:=by
    unfold ki;rw[List.mem_filterMap];exact⟨j,Yh i,by rw[Y9 l]⟩
   rw[g.q.fq,g.rf]at p;obtain⟨y,x,o⟩:=YE.1 p;simp only[Prod.mk.injEq]at o;have t:=v y x;rw[o.1]at t;obtain⟨z,r,u⟩:=g.i0 t;rw[u.ca];exact u.h4.2
  .rw[Y2 l];refine⟨s.2,λb d=>?_⟩;have:b<(max n 5:Nat):=by
    unfold cu at d;split at d
    .simp at d;subst d;exact k.1
    .split at d
     .exact k.2.1 b d
     .split at d
      .rcases Yn.1 d with d|d
       .exact k.2.1 b d
       .simp at d;subst d;exact k.2.2.1
      .cases d
   omega
def Wh.o3(h:Wh f e c st a)(i:kU st e){g:List UInt8}{d:ao}(b:sA f st c a g d r)(o:fa st g=true):mh (ge a) r.n.toNat=kO st d:=by
 have n:(ge a).y.length=a.y.length:=by show (a.y.map _).length=_;simp
 have s:=b.h4;have m:=HB (h.ld i) (r:=r.n.toNat) (by rw[n];omega);have k:=NL (st:=st) (λg t j=>by obtain⟨q,j⟩:=j;exact RA (h.ne i j)) (d:=d) (by rw[b.j3];exact b.kZ);have l:=h.ov i o;have p:fG a g=r.n.toNat:=by unfold fG;rw[b.ca]
 rw[b.j3]at k;rw[p]at l;rw[Bool.eq_iff_iff,m,k,l]
end
end Go.Proofs.YtjdhaegijjednaaGreatDoor
namespace Go.Proofs.YtjdhaegijjednaaGreatDoor
open Go.RowKit
open Go.Proofs.Tryz
section
variable {t : List UInt8} {st k : St} {a g : ac} {c j : br} {f : Mar.a5} {b : List ao} {d : ao} {h i : Nat}
def hd(t:List UInt8)(h:Nat)(a:ac):Prop:=∃b c st,Wh t b c st a/\ec (ap t) 69 [] eP=ec (ap t) (69-b.length) b st/\b.length=h
def ue(t:List UInt8)(a:ac):Prop:=∃f,ec (ap t) 69 [] eP=.error f/\Er f a
def JS(t:List UInt8):hd t 0 (start t):=⟨[],pJ,eP,Sr t,rfl,rfl⟩
def hd.e(b:hd t h a):a.s.e=0:=by obtain⟨_,_,_,b,_⟩:=b;exact b.q.e
def hd.le(d:hd t h a):h<=68:=by
 obtain⟨b,c,st,d,-,rfl⟩:=d;have e:=d.ti.L;have f:=d.ti.co;have g:=d.ti.pr;have i:=d.ti.b0;omega
def hd.hF(b:hd t h a):bG a/\Rn a:=by obtain⟨_,_,_,b,_⟩:=b;exact⟨b.hF,b.rn⟩
def Wh.hH{f:Mar.bi}{e:Nat}(d:Wh t b c st a)(g:eb t st.w st.nx=.ok (f,e)):Wh t b c { st with w:=e,nx:=some f } a:=
 ⟨d.q.hH g,d.pd,d.dc,d.fz,d.o,d.ps,d.rf,d.nl,d.l8,d.j3,d.ij,d.tr,d.hF,d.rn,⟨d.ti.L,d.ti.co,d.ti.pr,d.ti.b0,d.ti.nm⟩⟩
def hd.dL(g:hd t h a)(v:a.s.x.H≠0):hd t (h+1) (bH t a)\/ue t (bH t a):=by
 have z:=g.le;obtain⟨b,c,st,g,i,rfl⟩:=g;rw[show 69-b.length=(68-b.length)+1 by omega]at i;rcases pk t st with⟨q,w,e⟩|⟨f,e⟩
 .have o:=g.q.wd;rw[e]at o;have p:((q.H:Int)==0)=false:=by
   rw[o.1.1]at v;simp;omega
  have k:=g.hH e;have n:=Dh k.q k.pd k.dc;cases m:fQ (ap t) { st with w:=w,nx:=some q }with
  |error f=>
   rw[hZ m]at n;exact Ya ⟨f,by rw[i];exact DR (qg e) p m,n⟩
  |ok y=>
   obtain⟨d,A⟩:=y;obtain⟨j,u⟩:=k.dL (ow m);left;refine⟨b++[d],j,_,u,?_,by simp⟩;rw[i,DU (qg e) p m];congr 1;simp<;>omega
 .have l:=g.q.bd e;right;refine⟨f,by rw[i];exact DT (tI e),?_⟩;have r:bH t a=dd a:=by
   unfold bH;rw[Y2 (by rw[l.is (by omega)];simp),Y2 (by rw[l.is (by omega)];simp),Y9 (Y8 (by rw[l.k];omega))]
  rw[r];exact l.hQ
def hd.fin(d:hd t h a)(g:a.s.x.H=0):∃b c st,Wh t b c st a/\ec (ap t) 69 [] eP=.ok (b,st):=by
 have l:=d.le;obtain⟨b,c,st,d,i,rfl⟩:=d;rw[show 69-b.length=(68-b.length)+1 by omega]at i;rcases pk t st with⟨n,m,e⟩|⟨f,e⟩
 .have j:=d.q.wd;rw[e]at j;refine⟨b,c,_,d.hH e,?_⟩;rw[i];exact DS (qg e) (by rw[j.1.1]at g;rw[g];rfl)
 .have k:=d.q.bd e;rw[k.k]at g;cases g
def hS(t:List UInt8)(i:Nat)(g:ac):Prop:=
 (∃b c st a,g=ge a/\Wh t b c st a/\kU st b/\eo (ap t)=(match fR st ((c.nl.drop i).filterMap kR)with|.error f=>.error f|.ok _=>.ok b))\/(∃f,eo (ap t)=.error f/\Er f g)
def DV(c:t.length<=1200):eo (ap t)=match ec (ap t) 69 [] eP with
  |.error f=>.error f
  |.ok (b,a)=>match kJ a b with
   |.error f=>.error f
   |.ok _=>match fR a b with
    |.error f=>.error f
    |.ok _=>.ok b:=by
 unfold eo;rw[Y2 (by show ¬1200<t.length;omega)];rfl
def Hx(st:St)(b:List ao):fR st b=fR st (b.filter iX):=by
 induction b with
 |nil=>rfl
 |cons d b g=>
  cases a:iX d with
  |true=>
   rw[List.filter_cons_of_pos (by simpa using a)];unfold fR;rw[g]
  |false=>
   rw[List.filter_cons_of_neg (by simp[a])];conv=>lhs;unfold fR
   have:kO st d=false:=by
    unfold kO;have:eK d=[]:=by
     cases d with
     |const c e f=>rfl
     |prog c e f d=>rfl
     |typedef d=>cases a
     |enum c e f=>cases a
     |struct c e f=>cases a
     |union c e f d=>cases a
    rw[this];rfl
   rw[this];exact g
def Rs(j:t.length<=1200)(g:Wh t b c st a)(i:ec (ap t) 69 [] eP=.ok (b,st)):hS t 0 (lD a):=by
 have e:=Po g;have d:=DV (t:=t) j;rw[i]at d;simp only at d;cases h:kJ st b with
 |error f=>
  rw[h]at e d;exact Ya ⟨f,d,e⟩
 |ok k=>
  rw[h]at e d;refine Y8 ⟨b,c,st,a,e.1,g,e.2,?_⟩;rw[List.drop_zero,g.nl,<-Hx];exact d
def Rp(g:t.length<=1200)(d:ue t a)(i:Nat):hS t i a:=by
 obtain⟨f,c,e⟩:=d;have b:=DV (t:=t) g;rw[c]at b;exact Ya ⟨f,b,e⟩
def hS.ok(d:hS t i g)(h:g.s.e=0):∃b c st a,g=ge a/\Wh t b c st a/\kU st b/\eo (ap t)=(match fR st ((c.nl.drop i).filterMap kR)with|.error f=>.error f|.ok _=>.ok b):=by
 rcases d with d|⟨f,-,d⟩
 .exact d
 .exact absurd h d.e1
def hS.row(d:hS t i g)(j:g.s.e=0){r:df}(l:g.F[i]? = some r)(m:r.bb=1):0<=r.n/\r.n<g.y.length/\sv g:=by
 obtain⟨b,c,st,a,rfl,d,h,-⟩:=d.ok j;have f:=d.hF r (Yh l) m;refine⟨f.1,?_,d.ld h⟩;have k:(ge a).y.length=a.y.length:=by show (a.y.map _).length=_;simp
 rw[k];exact f.2
def hS.dL(e:hS t i g)(L:g.s.e=0){o:df}(j:g.F[i]? = some o):hS t (i+1) (if o.bb=1/\mh g o.n.toNat=true then bp 9 o.w g else g):=by
 obtain⟨b,c,st,a,rfl,e,A,h⟩:=e.ok L;have j:a.F[i]? = some o:=j;have C:i<c.nl.length:=by rw[<-e.q.nm.bc];exact jY j
 obtain⟨f,l⟩:∃f,c.nl[i]? = some f:=⟨_,Yd C⟩;have P:c.nl.drop i=f::c.nl.drop (i+1):=by
  rw[Yk C];rw[Yd C]at l;cases l
  rfl
 rw[P,List.filterMap_cons]at h;by_cases m:o.bb=1
 .obtain⟨d,k,J,K,O,a7⟩:=e.q.bb l j m;have D:kR f=some d:=by unfold kR;rw[k];simp[J]
  rw[D]at h;simp only[fR]at h;have a0:st.F=c.nl:=by rw[e.q.nl,e.pd];simp
  have a8:f=(f.1,some d):=by rw[<-k]
  have u:fa st f.1=true:=by
   unfold fa;rw[a0];rcases e.q.i6 f.1 with⟨E,a3⟩|⟨N,a6,G,E,a3,F,a4,a5⟩
   .exact absurd (YE.2 ⟨f,Yh l,rfl⟩) (uY E)
   .have B:=e.q.l4 j a4 (by rw[K,a5.1]);subst B;rw[l]at F;simp only[Yu]at F;rw[E];have:a6=some d:=by rw[F]at k;exact k
    rw[this];exact J
  obtain⟨z,G,H⟩:=e.i0 u;obtain⟨N,x,y⟩:=H.w;have a9:fj a f.1=G:=H.ca;have a2:G.s=f.1:=(e.q.nm.hs N _ _ x y).1;have B:=e.q.l4 j y (by rw[K,a2]);subst B;rw[j]at y;cases y
  rw[l]at x;simp only[Yu]at x;have R:z=d:=by rw[x]at k;simp at k;exact k
  subst R;have S:=e.o3 A H u;rw[S];cases M:kO st z with
  |true=>
   rw[Y9 ⟨m,rfl⟩];rw[M]at h;simp only[if_true]at h
   right;refine⟨_,h,?_⟩;rw[O];exact zH L (e:=9) (a:=(bB z).2) (by omega)
  |false=>
   rw[Y2 (by simp)];rw[M]at h;simp only[Ye,if_false]at h
   exact Y8 ⟨b,c,st,a,rfl,e,A,h⟩
 .rw[Y2 (λI=>m I.1)];have D:kR f=none:=by
   unfold kR;cases a1:f.2 with
   |none=>rfl
   |some d=>
    simp only;cases u:iX d with
    |false=>simp
    |true=>
     exfalso;have r:=(e.q.nm.hs i f o l j).2;rw[a1]at r;cases d with
     |const p v w=>cases u
     |prog p v w d=>cases u
     |typedef d=>exact m r.1
     |enum p v w=>exact m r.1
     |struct p v w=>exact m r.1
     |union p v w d=>exact m r.1
  rw[D]at h;exact Y8 ⟨b,c,st,a,rfl,e,A,h⟩
def qJ(t:List UInt8)(g:ac):Prop:=match eo (ap t)with
 |.error f=>Er f g
 |.ok b=>g.s.e=0/\∃c st a,g=ge a/\Wh t b c st a/\kU st b
def hS.fin(d:hS t i g)(j:g.F.length<=i\/g.s.e≠0):qJ t g:=by
 unfold qJ;rcases d with⟨b,c,st,a,rfl,d,l,h⟩|⟨f,h,d⟩
 .have k:(ge a).s.e=0:=d.q.e;have m:c.nl.drop i=[]:=by
   rw[List.drop_eq_nil_iff,<-d.q.nm.bc];rcases j with j|j
   .exact j
   .exact absurd k j
  rw[m]at h;simp only[List.filterMap_nil,fR]at h;rw[h];exact⟨k,c,st,a,rfl,d,l⟩
 .rw[h];exact d
end
section
variable {k:TypeId}{l h j:Option Addr}{o r m u:Value}
variable {X : Nat -> Prop} {g d c : Nat} {t : List UInt8} {b : ac} {w : World} {f : PV}
def hd.up(a:hd t c b)(j:hd t (c+1) (bH t b)):kF b+1<=kF (bH t b):=by
 have m:=a.e;have f:=j.e;obtain⟨p,o,n,a,-⟩:=a;have s:=a.q.L;have l:=a.q.cn;rw[a.dc]at l;refine Hm f m ⟨by omega,by omega⟩ ?_;intro k;rcases pk t n with⟨v,u,g⟩|⟨r,g⟩
 .have h:=a.q.wd;rw[g]at h;have:=h.2.e6;rw[h.1.1]at k;omega
 .have d:=a.q.bd g;have i:bH t b=dd b:=by
   unfold bH;rw[Y2 (by rw[d.is (by omega)];simp),Y2 (by rw[d.is (by omega)];simp),Y9 (Y8 (by rw[d.k];omega))]
  rw[i]at f;exact d.hQ.e1 f
def hd.c5(a:hd t c b):kF b<=68:=by
 obtain⟨g,f,e,a,-⟩:=a;have h:=a.ti.L;have i:=a.ti.co;have j:=a.ti.pr;have l:=a.q.L;have d:=a.q.cn;have k:b.aa.length=e.aa.length:=by rw[a.q.pg];simp
 rw[a.dc]at d;unfold kF;omega
def bN(c:Nat):Nat:=5+2000000*c
def FT{d c:Nat}(a:d<=bN c):d+2000000<=bN (c+1):=by unfold bN at *;omega
def wR{d c:Nat}(a:d<=bN c)(b:c<=68):d+2000000<=200000000:=by unfold bN at *;omega
def xT(g:Nat)(w:World):Nat:=match w.cell? ⟨g,11,none⟩,w.cell? ⟨g,13,none⟩,w.cell? ⟨g,14,none⟩,w.cell? ⟨g,15,none⟩with
 |some (.int _ b),some (.int _ a),some (.int _ t),some (.slice _ c _)=>if b=0 then 70-(a.toNat+t.toNat+c)else 0
 |_,_,_,_=>0
def BC(c:bg X g t d b f w):xT g w=if b.s.e=0 then 70-kF b else 0:=by
 obtain⟨l,o,p,q,r,u,v,x,y,m,h,n,i,j,a,A,B⟩:=c.am;obtain⟨ad,z,k⟩:=bY c.aa;rw[k]at a;unfold xT;rw[h,i,j,a];rfl
def yQ:Value:=.agg #[.slice none 0 0,.slice none 0 0,.slice none 0 0,.string ⟨#[]⟩]
abbrev lJ(a b c d:Value):Obj:=.cells #[a,b,c,d] 62
def lO(t:List UInt8)(h:Ending)(k:World):Prop:=match eo (ap t)with
 |.error a=>h=.returned (.tuple #[yQ,.int .i64 a.no,.int .i64 a.w])/\a.no≠0
 |.ok e=>∃f c X g d j i b,h=.returned (.tuple #[mz f c,.int .i64 0,.int .i64 0])/\bg X g t d c f k/\d<=1000000000/\c=ge b/\Wh t e j i b/\kU i e
def ql{Q:Ending->World->Prop}{a:Act}{R:Nat}{b c:Value}(j:a.tmps.getD 2 undef=.pointer (some ⟨R,0,none⟩))(h:a.tmps.getD 3 undef=b)(i:a.tmps.getD 4 undef=c)(k:a.defers=[])(d:w.heap[R]? = some (lJ o r m u))(l:Q (.returned (.tuple #[.agg #[o,r,m,u],b,c])) w):bodyPost prog Tryz.f26 Q .ret a w:=by
 refine bodyPost_ret (v:=.tuple #[.agg #[o,r,m,u],b,c]) ?_ k l;have n:w.cell? ⟨R,0,none⟩=some o:=aS d rfl;have p:w.cell? ⟨R,1,none⟩=some r:=aS d rfl;have q:w.cell? ⟨R,2,none⟩=some m:=aS d rfl;have s:w.cell? ⟨R,3,none⟩=some u:=aS d rfl;unfold results;have e:a.tmps[2]?.getD undef=.pointer (some ⟨R,0,none⟩):=by simpa using j
 have f:a.tmps[3]?.getD undef=b:=by simpa using h
 have g:a.tmps[4]?.getD undef=c:=by simpa using i
 simp[results26,e,f,g,go_sem,n,p,q,s]
def Fk(t:List UInt8)(w:World)(a:1200<t.length):Calls prog 26 #[.string ⟨t.toArray⟩] w λd b=>ai [] w b/\lO t d b:=by
 have e:(1200:Int) < ↑t.length:=by omega
 have c:U (eo (ap t)=.error ⟨1,0⟩):=by
  show _=_;unfold eo;rw[Y9 (by show 1200<t.length;exact a)]
 clear a;go_in;go_wp2;refine ql (R:=w.heap.size) rfl rfl rfl rfl (aK rfl) ?_;refine⟨(ah [] w).G _,?_⟩;unfold lO;rw[c.j];exact⟨rfl,by simp⟩
def rA{w d:World}(a:Fr (λe=>e<w.heap.size) w d):ai [] w d:=⟨a.os,a.d9,a.d8,a.a2,λc b _=>a.K c b b⟩
abbrev pK(w:World)(a:Nat)(b c d e:Value):World:=(((w.setCell ⟨a,0,none⟩ b).setCell ⟨a,1,none⟩ c).setCell ⟨a,2,none⟩ d).setCell ⟨a,3,none⟩ e
def pQ(w:World)(a:Nat)(b c d e:Value):ai [a] w (pK w a b c d e):=((((ah [a] w).a6 (p:=⟨a,0,none⟩) (by simp) _).a6 (p:=⟨a,1,none⟩) (by simp) _).a6 (p:=⟨a,2,none⟩) (by simp) _).a6 (p:=⟨a,3,none⟩) (by simp) _
def rz{w:World}{a:Nat}{j h f e:Value}(b c d g:Value)(l:w.heap[a]? = some (.cells #[j,h,f,e] k)):(pK w a b c d g).heap[a]? = some (.cells #[b,c,d,g] k):=by
 have m:(w.setCell ⟨a,0,none⟩ b).heap[a]? = some (.cells #[b,h,f,e] k):=bv (i:=0) l b;have n:((w.setCell ⟨a,0,none⟩ b).setCell ⟨a,1,none⟩ c).heap[a]? = some (.cells #[b,c,f,e] k):=bv (i:=1) m c;have o:(((w.setCell ⟨a,0,none⟩ b).setCell ⟨a,1,none⟩ c).setCell ⟨a,2,none⟩ d).heap[a]? = some (.cells #[b,c,d,e] k):=bv (i:=2) n d;exact bv (i:=3) o g
def Ai{e a:World}{p i n c:Nat}(z:bg X g t d b f e)(D:f.rv=.slice j b.y.length p)(B:f.nv=.slice l b.F.length i)(C:f.pv=.slice h b.ak.length n)(q:e.heap[c]? = some (.cells #[o,r,m,u] k))(s:ai [] e a):a.cell? ⟨g,7,none⟩=some (.slice j b.y.length p)/\a.cell? ⟨g,8,none⟩=some (.slice l b.F.length i)/\a.cell? ⟨g,9,none⟩=some (.slice h b.ak.length n)/\a.cell? ⟨g,10,none⟩=some (.string ⟨b.j.toArray⟩)/\a.cell? ⟨c,2,none⟩=some m:=by
 obtain⟨E,K,L,M,N,O,w,x,y,v,F,G,H,I,J,P,R⟩:=(z.aA s).am;have A:=(s.K c (aj q) (by simp)).trans q;exact⟨by rw[w,D],by rw[x,B],by rw[y,C],v,aS A rfl⟩
def AW{m:World}{i a c:Nat}{k:Nat}(hF:qJ t b)(B:b.s.e=0)(n:bg X g t d b f m)(F:f.rv=.slice j b.y.length i)(D:f.nv=.slice l b.F.length a)(E:f.pv=.slice h b.ak.length c)(x:d<=1000000000)(y:X k):lO t (.returned (.tuple #[.agg #[.slice j b.y.length i,.slice l b.F.length a,.slice h b.ak.length c,.string ⟨b.j.toArray⟩],.int .i64 0,.int .i64 0])) (pK m k (.slice j b.y.length i) (.slice l b.F.length a) (.slice h b.ak.length c) (.string ⟨b.j.toArray⟩)):=by
 unfold qJ at hF;unfold lO;split
 .rename_i J C;rw[C]at hF;exact absurd B hF.e1
 .rename_i I A;rw[A]at hF;obtain⟨-,q,G,H,u,v,w⟩:=hF;refine⟨f,b,X,g,d,q,G,H,?_,?_,x,u,v,w⟩
  .unfold mz;rw[F,D,E]
  .have o:=pQ m k (.slice j b.y.length i) (.slice l b.F.length a) (.slice h b.ak.length c) (.string ⟨b.j.toArray⟩);exact n.hy o (λK p=>by simp at p;subst p;exact y) (λ_=>Y8) (λr z=>Yr (n.bh r z) o.a2)
def uR{w:World}(hF:qJ t b)(f:b.s.e≠0):lO t (.returned (.tuple #[yQ,.int .i64 b.s.e,.int .i64 b.s.a])) w:=by
 unfold qJ at hF;unfold lO;split
 .rename_i c g;rw[g]at hF;have hF:Er c b:=hF;exact⟨by rw[hF.e,hF.a],hF.z⟩
 .rename_i h d;rw[d]at hF;exact absurd hF.1 f
def Fm(t:List UInt8)(w:World)(k0:t.length<=1200):Calls prog 26 #[.string ⟨t.toArray⟩] w λg0 F=>ai [] w F/\lO t g0 F:=by
 have n5:¬(1200:Int) < ↑t.length:=by omega
 have j2:=Z k0;have i9:U (aE (λp=>p<w.heap.size) (w.heap.size+1) t 0 il [.obj w.heap.size (lJ (.slice none 0 0) (.slice none 0 0) (.slice none 0 0) (.string ⟨#[]⟩))] w ((w.alloc (lJ (.slice none 0 0) (.slice none 0 0) (.slice none 0 0) (.string ⟨#[]⟩))).alloc (lB t il.s (pB qk il)))):=by
  have k2:=Nh (X:=λp=>p<w.heap.size+1) (t:=t) (w.alloc (lJ (.slice none 0 0) (.slice none 0 0) (.slice none 0 0) (.string ⟨#[]⟩))) (λp E=>by simp;exact E) (by omega);have m2:(w.alloc (lJ (.slice none 0 0) (.slice none 0 0) (.slice none 0 0) (.string ⟨#[]⟩))).heap.size=w.heap.size+1:=by simp
  rw[m2]at k2;refine⟨bu.cc ⟨_,k2⟩ ?_,?_,?_,?_,?_⟩
  .rintro p (E|⟨f1,a4,E⟩)
   .exact Nat.lt_succ_of_lt E
   .simp at a4;subst a4;have:w.heap.size=p:=by simpa[Th.ch]using E
    omega
  .exact sq (((ah [] w).G _).G _) (by simp)
  .intro f1 a4;simp at a4;subst a4;exact(((ah [] _).G _).K _ (by simp) (by simp)).trans (aK rfl)
  .intro f1 a4 p E k4;simp at a4;subst a4;have:w.heap.size=p:=by simpa[Th.ch]using E
   have k4:p<w.heap.size:=k4;omega
  .intro b k5 f1 p l7 a4 E;match b,k5 with
   |0,0=>exact absurd rfl l7
   |0,k5+1=>simp at E
   |b+1,_=>simp at a4
 have j0:U (∀c:Nat,c<=4->bK ⟨c,0,0,[],[],0,[],0⟩ { il with y:=jR.take c } = { il with y:=jR.take (c+1) }):=Z (λc l8=>by
  have:c=0\/c=1\/c=2\/c=3\/c=4:=by omega
  rcases this with rfl|rfl|rfl|rfl|rfl<;>rfl)
 clear k0;go_in;go_wp2;go_loopw [6] (λh1 c3=>∃c:Nat,h1=.int .i64 c/\c<=5/\U (aE (λp=>p<w.heap.size) (w.heap.size+1) t c { il with y:=jR.take c } [.obj w.heap.size (lJ (.slice none 0 0) (.slice none 0 0) (.slice none 0 0) (.string ⟨#[]⟩))] w c3)) (λh1 _=>5-(intOf h1).toNat)
 case atStart=>exact⟨0,rfl,by omega,i9⟩
 case round=>
  obtain⟨c,rfl,l8,a2⟩:=hrel;clear i9;rcases Yj c 5 with g5|g5
  .have j8:(↑c:Int)<=4:=by omega
   go_wp2_with fail;refine aB a2 (nD · ⟨c,0,0,[],[],0,[],0⟩ rfl rfl (by omega)) λm7 d3=>?_;rw[j0.j c (by omega)]at d3;go_wp2;exact⟨⟨c+1,by go_num,by omega,d3⟩,by simp[intOf];omega⟩
  .have j8:¬(↑c:Int)<=4:=by omega
   have g5:c=5:=by omega
   subst g5;go_wp2_with fail;refine aB a2 (gJ ·) λm7 d3=>?_;rw[show aJ t { il with y:=jR.take 5 } = start t from rfl]at d3;have j5:U ((∃c,hd t c (start t)/\5<=bN c)\/(ue t (start t)/\5<=200000000)):=Z (Y8 ⟨0,JS t,Y4 _⟩);clear a2 j0 j8;go_wp2;go_loopw [] (λc3=>∃(u:ac) (d:Nat),U (aE (λp=>p<w.heap.size) (w.heap.size+1) t d u [.obj w.heap.size (lJ (.slice none 0 0) (.slice none 0 0) (.slice none 0 0) (.string ⟨#[]⟩))] w c3)/\U ((∃c,hd t c u/\d<=bN c)\/(ue t u/\d<=200000000))) (λc3=>xT (w.heap.size+1) c3)
   case atStart=>exact⟨start t,5,d3,j5⟩
   case round=>
    obtain⟨u,d,a2,e6⟩:=hrel;clear d3 j5;obtain⟨f,gT,j6,k,m⟩:=a2.j.a3.sp;have e9:=Z (BC k);obtain⟨O,b6,b7,b8,b9,c0,H,I,J,b1,D,b2,b3,b4,b5,a5,a6⟩:=k.am;clear k m b6 b7 b8 b9 c0 H I J b1 b2 b3 b4 b5;rcases e6.j with⟨c,a3,c4⟩|⟨k9,c4⟩
    .have g:=a3.e;rw[g]at D;by_cases e1:u.s.x.H=0
     .rw[e1]at O;have g3:d<=200000000:=by have:=wR c4 a3.le;omega
      have d5:U (hS t 0 (lD u)):=by
       obtain⟨n2,n0,n6,P,k8⟩:=a3.fin e1;exact Z (Rs j2.j P k8)
      clear a3 e6 g e1 e9 c4;go_wp2_with fail;refine aB a2 (NI · (Yz g3 (by decide))) λm8 d4=>?_;clear a2 O D a5 a6;generalize lD u=e5 at *
      go_wp2;go_loopw [7] (λd1 c3=>∃(b:Nat) (a:ac),d1=.int .i64 b/\b<=e5.F.length/\U (a.F.length=e5.F.length)/\U (aE (λp=>p<w.heap.size) (w.heap.size+1) t d a [.obj w.heap.size (lJ (.slice none 0 0) (.slice none 0 0) (.slice none 0 0) (.string ⟨#[]⟩))] w c3)/\U (hS t b a)) (λd1 _=>e5.F.length-(intOf d1).toNat)
      case atStart=>exact⟨0,e5,rfl,by omega,Z rfl,d4,d5⟩
      case round=>
       obtain⟨b,a,rfl,d9,G,z,A⟩:=hrel;clear d4 d5;obtain⟨f,gT,j6,k,m⟩:=z.j.a3.sp;obtain⟨j,d7,r⟩:=bY k.y;obtain⟨h,d6,q⟩:=bY k.ak;obtain⟨O,b6,b7,b8,b9,c0,H,I,J,b1,D,b2,b3,b4,b5,a5,a6⟩:=k.am;rw[r]at H;rw[m]at I;rw[q]at J;have y:=Z k;have l:=Z (Yp r (Yp m q));have e:=z.j.b8 (i:=0) (R:=w.heap.size) rfl;have B:=Z e;have i7:=cG e;have i3:wr.cell? ⟨w.heap.size,0,none⟩=some (.slice none 0 0):=aS e rfl;have i4:wr.cell? ⟨w.heap.size,1,none⟩=some (.slice none 0 0):=aS e rfl;have i5:wr.cell? ⟨w.heap.size,2,none⟩=some (.slice none 0 0):=aS e rfl;have i6:wr.cell? ⟨w.heap.size,3,none⟩=some (.string ⟨#[]⟩):=aS e rfl;have i8:=aj e;clear k r m q e O b6 b7 b8 b9 c0 b3 b4 b5;have m3:w.heap.size≠w.heap.size+1:=by omega
       by_cases g:a.s.e=0
       .rcases Yj b a.F.length with c2|c9
        .obtain⟨k7,k6,e4,h7,h8,h9,i0,i1,i2,l3⟩:=oC y.j c2;have d0:=l.j.2.1;rw[e4]at d0;simp only[Value.slice.injEq]at d0;obtain⟨rfl,-,rfl⟩:=d0;have c8:a.F[b]? = some (a.F.getD b gW):=by simp[c2]
         have a8:=Z (A.j.dL g c8);have c7:=Z (A.j.row g c8);generalize g9:a.F.getD b gW=i at *
         have l4:(0:Int)<=↑b:=by omega
         have l5:(↑b:Int) < ↑a.F.length:=by omega
         have e0:U (b+1<=e5.F.length):=Z (by rw[<-G.j];omega);have M:=Z g;have l6:a.F.length<=200000000:=by have S:=y.j.b0;unfold ac.sz at S;omega
         rw[g]at D;clear A g c8 g9 e4 c2;by_cases K:i.bb=1
         .have h0:(i.bb==1)=true:=by simpa using K
          obtain⟨g7,g8,e2⟩:=c7.j K;obtain⟨o,e7⟩:∃o:Nat,i.n=o:=⟨i.n.toNat,by omega⟩;have a9:U (hS t (b+1) (if mh a o=true then bp 9 i.w a else a)):=by
           have S:=a8.j;rw[e7,Int.toNat_natCast]at S;simp only[K,true_and]at S;exact Z S
          have g6:o<a.y.length:=by omega
          have e8:=Z e2;clear c7 a8 e2 g7 g8;go_wp2;have N:=Z (z.j.G (.cells #[.string ⟨i.s.toArray⟩,.int .i64 1,.int .i64 ↑o,.int .i64 i.w] 119));clear H I J b1 D b2 a5 a6 h7 h8 h9 i0 i1 i2 i3 i4 i5 i6 i7 i8 y l B;generalize l2:wr.heap.size=C at *
          generalize wr.alloc (.cells #[.string ⟨i.s.toArray⟩,.int .i64 1,.int .i64 ↑o,.int .i64 i.w] 119)=a1 at N ⊢;obtain⟨f,f2,f3,k,m⟩:=N.j.a3.sp;obtain⟨j,d7,r⟩:=bY k.y;obtain⟨h,d6,q⟩:=bY k.ak;obtain⟨O,b6,b7,b8,b9,c0,H,I,J,b1,D,b2,b3,b4,b5,a5,a6⟩:=k.am;rw[r]at H;rw[m]at I;rw[q]at J;have b0:=Z (AH (k.aA (ah [] a1).a9) g6 e8.j (Yz g3 (by decide)));unfold mz at b0;rw[r,m,q]at b0;have e:=N.j.b8 (i:=0) (R:=C) rfl;have h2:a1.cell? ⟨C,2,none⟩=some (.int .i64 ↑o):=aS e rfl;have h3:a1.cell? ⟨C,3,none⟩=some (.int .i64 i.w):=aS e rfl;have h4:=cG e;have h5:=aj e;have y:=Z k;have l:=Z (Yp r (Yp m q));have B:=Z e;clear k r m q e O b6 b7 b8 b9 c0 b3 b4 b5;refine cS (λF=>F.cell? ⟨w.heap.size+1,7,none⟩=some (.slice j a.y.length d7)/\F.cell? ⟨w.heap.size+1,8,none⟩=some (.slice f2 a.F.length f3)/\F.cell? ⟨w.heap.size+1,9,none⟩=some (.slice h a.ak.length d6)/\F.cell? ⟨w.heap.size+1,10,none⟩=some (.string ⟨a.j.toArray⟩)/\F.cell? ⟨C,2,none⟩=some (.int .i64 ↑o)) (L:=7) (by kernel_rfl) rfl (by kernel_rfl) (by kernel_rfl) ?_ (λd8=>?_)
          .go_keep
          refine bI [0,1,2,3,4,5] ?_;iterate 6 (refine bP (v:=?_) rfl (by kernel_rfl) (λ_ _ _ g1=>g1) (by kernel_rfl) (by assumption) ?_ ?_;rotate_left;focus (intro w g4;(try dsimp only at g4);go_simp;(try with_reducible rfl));(try simp only[aL,aM,List.set]))
          refine bJ ?_;refine ck 6 (by kernel_rfl) rfl λc5 a0=>?_;(go_simp;refine b0.j.mono ?_;rintro g0 h6 ⟨rfl,d2⟩;have c6:=Z (N.j.a9.O d2);obtain⟨f6,f7,f8,f4,f5⟩:=Ai (y.j.aA (ah [] a1).a9) l.j.1 l.j.2.1 l.j.2.2 (show (a1.drew).heap[C]? = _ from B.j) d2);refine a0.out _ _ ?_ (λd8=>?_)
          .go_keep
          clear a0 c5;(try simp only[aL,aM,List.set]);refine cQ (by kernel_rfl) rfl λc5 a0=>?_;go_simp;refine a0.out _ _ ?_;clear a0 c5;(try simp only[aL,aM,List.set]);have e:=c6.j.b8 (i:=0) (R:=C) rfl;have m4:h6.cell? ⟨C,3,none⟩=some (.int .i64 i.w):=aS e rfl;have m5:=cG e;have m6:=aj e;have c1:=e0.j;clear e b0 d8 H I J b1 D b2 a5 a6 h2 h3 h4 h5 y l B f6 f7 f8 f4 f5 N d2;cases E:mh a o with
          |true=>
           rw[E,Y9 rfl]at a9;go_wp2_with fail;refine aB c6 (iV · 9 i.w) λm9 f0=>?_;go_wp2;exact⟨⟨b+1,bp 9 i.w a,by go_num,c1,G,Z f0.j.bo,a9⟩,by simp[intOf];omega⟩
          |false=>
           rw[E,Y2 (by simp)]at a9;go_wp2;exact⟨⟨b+1,a,by go_num,c1,G,Z c6.j.bo,a9⟩,by simp[intOf];omega⟩
         .have h0:(i.bb==1)=false:=by simpa using K
          rw[Y2 (λf9=>K f9.1)]at a8;clear c7 K;go_wp2;have c1:=e0.j;exact⟨⟨b+1,a,by go_num,c1,G,Z ((z.j.G _).bo),a8⟩,by simp[intOf];omega⟩
        .have e3:¬(↑b:Int) < ↑a.F.length:=by omega
         have a7:=Z (A.j.fin (Y8 c9));have M:=Z g;rw[g]at D;clear A G d9 g c9;go_wp2;refine ql (R:=w.heap.size) rfl rfl rfl rfl (rz _ _ _ _ B.j) ?_;refine⟨lm (rA z.j.fr) (pQ _ _ _ _ _ _) (by simp),?_⟩;exact AW a7.j M.j y.j l.j.1 l.j.2.1 l.j.2.2 (Yz g3 (by decide)) (Ya ⟨_,Yc.2 rfl,rfl⟩)
       .have l9:(a.s.e==0)=false:=by simpa using g
        have m0:(a.s.e != 0)=true:=by simpa using g
        have a7:=Z (A.j.fin (Ya g));have M:=Z g;clear A G d9 g;rcases Yj b a.F.length with c2|c9
        .have e3:(↑b:Int) < ↑a.F.length:=by omega
         go_wp2;go_region;go_wp2;refine ql (R:=w.heap.size) (w:=(pK wr w.heap.size (.slice none 0 0) (.slice none 0 0) (.slice none 0 0) (.string ⟨#[]⟩)).drew) rfl rfl rfl rfl (rz _ _ _ _ B.j) ?_;exact⟨(lm (rA z.j.fr) (pQ _ _ _ _ _ _) (by simp)).a9,uR a7.j M.j⟩
        .have e3:¬(↑b:Int) < ↑a.F.length:=by omega
         go_wp2;go_region;go_wp2;refine ql (R:=w.heap.size) (w:=(pK wr w.heap.size (.slice none 0 0) (.slice none 0 0) (.slice none 0 0) (.string ⟨#[]⟩)).drew) rfl rfl rfl rfl (rz _ _ _ _ B.j) ?_;exact⟨(lm (rA z.j.fr) (pQ _ _ _ _ _ _) (by simp)).a9,uR a7.j M.j⟩
     .have n4:((u.s.x.H:Int)==0)=false:=by simp;omega
      have e7:((u.s.x.H:Int) != 0)=true:=by simp;omega
      have k1:=a3.le;have k3:=Z a3.hF;have j4:=Z (a3.dL e1);have j3:=Z a3;have l0:d+2000000<=1000000000:=Yz (wR c4 k1) (by decide);have n3:=a3.c5;have j1:U (d+2000000<=bN (c+1)/\d+2000000<=200000000):=Z ⟨FT c4,wR c4 k1⟩;clear a3 e6 g e1;go_wp2_with fail;refine aB a2 (Ht · k3.j.1 (λi m1=>(k3.j.2.c6 i m1).1) l0) λm8 d4=>?_;go_wp2;refine⟨⟨bH t u,d+2000000,d4,?_⟩,?_⟩
      .rcases j4.j with P|P
       .exact Z (Y8 ⟨c+1,P,j1.j.1⟩)
       .exact Z (Ya ⟨P,j1.j.2⟩)
      .obtain⟨n1,l1⟩:=d4.j.a3;rw[e9.j,BC l1,Y9 j3.j.e];rcases j4.j with P|⟨j7,-,P⟩
       .rw[Y9 P.e];have:=j3.j.up P;have:=P.c5;omega
       .rw[Y2 P.e1];omega
    .obtain⟨j7,j9,g2⟩:=k9;have g:(u.s.e==0)=false:=by have:=g2.e1;simp;exact this
     have d5:U (hS t 0 u):=Z (Rp j2.j ⟨j7,j9,g2⟩ 0);clear e6 g2 j9 e9;go_wp2;clear O D a5 a6 g;go_loopw [7] (λd1 c3=>∃(b:Nat) (a:ac),d1=.int .i64 b/\b<=u.F.length/\U (a.F.length=u.F.length)/\U (aE (λp=>p<w.heap.size) (w.heap.size+1) t d a [.obj w.heap.size (lJ (.slice none 0 0) (.slice none 0 0) (.slice none 0 0) (.string ⟨#[]⟩))] w c3)/\U (hS t b a)) (λd1 _=>u.F.length-(intOf d1).toNat)
     case atStart=>exact⟨0,u,rfl,by omega,Z rfl,a2,d5⟩
     case round=>
      obtain⟨b,a,rfl,d9,G,z,A⟩:=hrel;clear a2 d5;obtain⟨f,gT,j6,k,m⟩:=z.j.a3.sp;obtain⟨j,d7,r⟩:=bY k.y;obtain⟨h,d6,q⟩:=bY k.ak;obtain⟨O,b6,b7,b8,b9,c0,H,I,J,b1,D,b2,b3,b4,b5,a5,a6⟩:=k.am;rw[r]at H;rw[m]at I;rw[q]at J;have y:=Z k;have l:=Z (Yp r (Yp m q));have e:=z.j.b8 (i:=0) (R:=w.heap.size) rfl;have B:=Z e;have i7:=cG e;have i3:wr.cell? ⟨w.heap.size,0,none⟩=some (.slice none 0 0):=aS e rfl;have i4:wr.cell? ⟨w.heap.size,1,none⟩=some (.slice none 0 0):=aS e rfl;have i5:wr.cell? ⟨w.heap.size,2,none⟩=some (.slice none 0 0):=aS e rfl;have i6:wr.cell? ⟨w.heap.size,3,none⟩=some (.string ⟨#[]⟩):=aS e rfl;have i8:=aj e;clear k r m q e O b6 b7 b8 b9 c0 b3 b4 b5;have m3:w.heap.size≠w.heap.size+1:=by omega
      by_cases g:a.s.e=0
      .rcases Yj b a.F.length with c2|c9
       .obtain⟨k7,k6,e4,h7,h8,h9,i0,i1,i2,l3⟩:=oC y.j c2;have d0:=l.j.2.1;rw[e4]at d0;simp only[Value.slice.injEq]at d0;obtain⟨rfl,-,rfl⟩:=d0;have c8:a.F[b]? = some (a.F.getD b gW):=by simp[c2]
        have a8:=Z (A.j.dL g c8);have c7:=Z (A.j.row g c8);generalize g9:a.F.getD b gW=i at *
        have l4:(0:Int)<=↑b:=by omega
        have l5:(↑b:Int) < ↑a.F.length:=by omega
        have e0:U (b+1<=u.F.length):=Z (by rw[<-G.j];omega);have M:=Z g;have l6:a.F.length<=200000000:=by have S:=y.j.b0;unfold ac.sz at S;omega
        rw[g]at D;clear A g c8 g9 e4 c2;by_cases K:i.bb=1
        .have h0:(i.bb==1)=true:=by simpa using K
         obtain⟨g7,g8,e2⟩:=c7.j K;obtain⟨o,e7⟩:∃o:Nat,i.n=o:=⟨i.n.toNat,by omega⟩;have a9:U (hS t (b+1) (if mh a o=true then bp 9 i.w a else a)):=by
          have S:=a8.j;rw[e7,Int.toNat_natCast]at S;simp only[K,true_and]at S;exact Z S
         have g6:o<a.y.length:=by omega
         have e8:=Z e2;clear c7 a8 e2 g7 g8;go_wp2;have N:=Z (z.j.G (.cells #[.string ⟨i.s.toArray⟩,.int .i64 1,.int .i64 ↑o,.int .i64 i.w] 119));clear H I J b1 D b2 a5 a6 h7 h8 h9 i0 i1 i2 i3 i4 i5 i6 i7 i8 y l B;generalize l2:wr.heap.size=C at *
         generalize wr.alloc (.cells #[.string ⟨i.s.toArray⟩,.int .i64 1,.int .i64 ↑o,.int .i64 i.w] 119)=a1 at N ⊢;obtain⟨f,f2,f3,k,m⟩:=N.j.a3.sp;obtain⟨j,d7,r⟩:=bY k.y;obtain⟨h,d6,q⟩:=bY k.ak;obtain⟨O,b6,b7,b8,b9,c0,H,I,J,b1,D,b2,b3,b4,b5,a5,a6⟩:=k.am;rw[r]at H;rw[m]at I;rw[q]at J;have b0:=Z (AH (k.aA (ah [] a1).a9) g6 e8.j (Yz c4 (by decide)));unfold mz at b0;rw[r,m,q]at b0;have e:=N.j.b8 (i:=0) (R:=C) rfl;have h2:a1.cell? ⟨C,2,none⟩=some (.int .i64 ↑o):=aS e rfl;have h3:a1.cell? ⟨C,3,none⟩=some (.int .i64 i.w):=aS e rfl;have h4:=cG e;have h5:=aj e;have y:=Z k;have l:=Z (Yp r (Yp m q));have B:=Z e;clear k r m q e O b6 b7 b8 b9 c0 b3 b4 b5;refine cS (λF=>F.cell? ⟨w.heap.size+1,7,none⟩=some (.slice j a.y.length d7)/\F.cell? ⟨w.heap.size+1,8,none⟩=some (.slice f2 a.F.length f3)/\F.cell? ⟨w.heap.size+1,9,none⟩=some (.slice h a.ak.length d6)/\F.cell? ⟨w.heap.size+1,10,none⟩=some (.string ⟨a.j.toArray⟩)/\F.cell? ⟨C,2,none⟩=some (.int .i64 ↑o)) (L:=7) (by kernel_rfl) rfl (by kernel_rfl) (by kernel_rfl) ?_ (λd8=>?_)
         .go_keep
         refine bI [0,1,2,3,4,5] ?_;iterate 6 (refine bP (v:=?_) rfl (by kernel_rfl) (λ_ _ _ g1=>g1) (by kernel_rfl) (by assumption) ?_ ?_;rotate_left;focus (intro w g4;(try dsimp only at g4);go_simp;(try with_reducible rfl));(try simp only[aL,aM,List.set]))
         refine bJ ?_;refine ck 6 (by kernel_rfl) rfl λc5 a0=>?_;(go_simp;refine b0.j.mono ?_;rintro g0 h6 ⟨rfl,d2⟩;have c6:=Z (N.j.a9.O d2);obtain⟨f6,f7,f8,f4,f5⟩:=Ai (y.j.aA (ah [] a1).a9) l.j.1 l.j.2.1 l.j.2.2 (show (a1.drew).heap[C]? = _ from B.j) d2);refine a0.out _ _ ?_ (λd8=>?_)
         .go_keep
         clear a0 c5;(try simp only[aL,aM,List.set]);refine cQ (by kernel_rfl) rfl λc5 a0=>?_;go_simp;refine a0.out _ _ ?_;clear a0 c5;(try simp only[aL,aM,List.set]);have e:=c6.j.b8 (i:=0) (R:=C) rfl;have m4:h6.cell? ⟨C,3,none⟩=some (.int .i64 i.w):=aS e rfl;have m5:=cG e;have m6:=aj e;have c1:=e0.j;clear e b0 d8 H I J b1 D b2 a5 a6 h2 h3 h4 h5 y l B f6 f7 f8 f4 f5 N d2;cases E:mh a o with
         |true=>
          rw[E,Y9 rfl]at a9;go_wp2_with fail;refine aB c6 (iV · 9 i.w) λm9 f0=>?_;go_wp2;exact⟨⟨b+1,bp 9 i.w a,by go_num,c1,G,Z f0.j.bo,a9⟩,by simp[intOf];omega⟩
         |false=>
          rw[E,Y2 (by simp)]at a9;go_wp2;exact⟨⟨b+1,a,by go_num,c1,G,Z c6.j.bo,a9⟩,by simp[intOf];omega⟩
        .have h0:(i.bb==1)=false:=by simpa using K
         rw[Y2 (λf9=>K f9.1)]at a8;clear c7 K;go_wp2;have c1:=e0.j;exact⟨⟨b+1,a,by go_num,c1,G,Z ((z.j.G _).bo),a8⟩,by simp[intOf];omega⟩
       .have e3:¬(↑b:Int) < ↑a.F.length:=by omega
        have a7:=Z (A.j.fin (Y8 c9));have M:=Z g;rw[g]at D;clear A G d9 g c9;go_wp2;refine ql (R:=w.heap.size) rfl rfl rfl rfl (rz _ _ _ _ B.j) ?_;refine⟨lm (rA z.j.fr) (pQ _ _ _ _ _ _) (by simp),?_⟩;exact AW a7.j M.j y.j l.j.1 l.j.2.1 l.j.2.2 (Yz c4 (by decide)) (Ya ⟨_,Yc.2 rfl,rfl⟩)
      .have l9:(a.s.e==0)=false:=by simpa using g
       have m0:(a.s.e != 0)=true:=by simpa using g
       have a7:=Z (A.j.fin (Ya g));have M:=Z g;clear A G d9 g;rcases Yj b a.F.length with c2|c9
       .have e3:(↑b:Int) < ↑a.F.length:=by omega
        go_wp2;go_region;go_wp2;refine ql (R:=w.heap.size) (w:=(pK wr w.heap.size (.slice none 0 0) (.slice none 0 0) (.slice none 0 0) (.string ⟨#[]⟩)).drew) rfl rfl rfl rfl (rz _ _ _ _ B.j) ?_;exact⟨(lm (rA z.j.fr) (pQ _ _ _ _ _ _) (by simp)).a9,uR a7.j M.j⟩
       .have e3:¬(↑b:Int) < ↑a.F.length:=by omega
        go_wp2;go_region;go_wp2;refine ql (R:=w.heap.size) (w:=(pK wr w.heap.size (.slice none 0 0) (.slice none 0 0) (.slice none 0 0) (.string ⟨#[]⟩)).drew) rfl rfl rfl rfl (rz _ _ _ _ B.j) ?_;exact⟨(lm (rA z.j.fr) (pQ _ _ _ _ _ _) (by simp)).a9,uR a7.j M.j⟩
def zI(t:List UInt8)(w:World):Calls prog 26 #[.string ⟨t.toArray⟩] w λc b=>ai [] w b/\lO t c b:=by
 rcases Yj 1200 t.length with a|a
 .exact Fk t w a
 .exact Fm t w a
end
end Go.Proofs.YtjdhaegijjednaaGreatDoor
namespace Go.Proofs.YtjdhaegijjednaaGreatDoor
open Go.RowKit Go.Extern.Stop Go.Stop Go.Extern
open Go.Proofs.Tryz
abbrev nk(a:Nat):Value:=.pointer (some ⟨8,a,none⟩)
abbrev iG(c:Nat)(a:Addr)(b:Int):Value:=.agg #[nk c,.pointer (some a),.int .u64 b]
abbrev vR(c:Nat)(a:Addr)(b:Int):Obj:=.cells #[nk c,.pointer (some a),.int .u64 b] 302
abbrev jb(a:Nat):Value:=.iface 407 (.agg #[nk a])
def Og(b:Addr)(a:World):(ReflectliteValue.unpack (.iface 177 (.pointer (some b)))).run prog a=.ok (iG 177 ⟨a.heap.size,0,none⟩ 150) (a.alloc (.cells #[.pointer (some b)] 177)):=by kernel_rfl
def Oe (b : Addr) (a : World) : (ReflectliteValue.methodAny (ReflectliteValue.valueError "reflectlite.Value.Type" 0) (fun c _ _ _ => ReflectliteType.toType c) #[iG 177 b 150]).run Tryz.prog a = .ok (jb 177) a := by kernel_rfl
def NY (c : Nat) (a : Value) (b : World) : (Go.method (c + 3) 407 (.agg #[a]) "Kind").run Tryz.prog b = .ok (321, a) b := by kernel_rfl
def NW (c : Nat) (a : Value) (b : World) : (Go.method (c + 3) 407 (.agg #[a]) "Elem").run Tryz.prog b = .ok (380, .agg #[a]) b := by kernel_rfl
def NX (c : Nat) (a : Value) (b : World) : (Go.method (c + 3) 407 (.agg #[a]) "Implements").run Tryz.prog b = .ok (381, .agg #[a]) b := by kernel_rfl
def NV (c : Nat) (a : Value) (b : World) : (Go.method (c + 3) 407 (.agg #[a]) "AssignableTo").run Tryz.prog b = .ok (378, .agg #[a]) b := by kernel_rfl
def NU(a:World):((ReflectliteType.abiMethod λc=>(λb:Nat=>Value.int IntKind.u8 (b:Int)) <$> Rtype.kind c) #[nk 177]).run prog a=.ok (.int .u8 22) a:=by kernel_rfl
def NT(a:World):((ReflectliteType.abiMethod λc=>(λb:Nat=>Value.int IntKind.u8 (b:Int)) <$> Rtype.kind c) #[nk 143]).run prog a=.ok (.int .u8 22) a:=by kernel_rfl
def CM(a:Addr)(b:World):(ReflectliteValue.parts (iG 177 a 150)).run prog b=.ok (some (177,a,150)) b:=by kernel_rfl
def NS(b d:Addr)(a:World)(c:a.cell? b=some (.pointer (some d))) :
  (ReflectliteValue.method (ReflectliteValue.valueError "reflectlite.Value.IsNil" 0) ReflectliteValue.isNil #[iG 177 b 150]).run Tryz.prog a = .ok (.bool false) a := by
 change Sem.run prog (ReflectliteValue.parts (iG 177 b 150) >>= _) a=_;simp only[Sem.run_bind,CM,Result.andThen];simp[ReflectliteValue.isNil,loadVar,isAgg,underlying,underlying177,c,Result.andThen]
def NP(a:World):(ReflectliteType.method ReflectliteType.elem #[.agg #[nk 177]]).run prog a=.ok (jb 143) a:=by kernel_rfl
def NR (a : World) : (ReflectliteType.relation "Implements" ReflectliteType.implements_ #[.agg #[nk 143], jb 55]).run Tryz.prog a = .ok (.bool true) a := by kernel_rfl
def Od(v:Value)(a:World):(ReflectliteType.typeOf #[.iface 143 v]).run prog a=.ok (jb 143) a:=by kernel_rfl
def NM (a : World) : (ReflectliteType.relation "AssignableTo" ReflectliteType.assignableTo #[.agg #[nk 143], jb 143]).run Tryz.prog a = .ok (.bool true) a := by kernel_rfl
def Of(b:Addr)(a:World):(ReflectliteValue.unpack (.iface 143 (.pointer (some b)))).run prog a=.ok (iG 143 ⟨a.heap.size,0,none⟩ 150) (a.alloc (.cells #[.pointer (some b)] 143)):=by kernel_rfl
def NO(a:World):(Rtype.elem? 177).run prog a=.ok (some 143) a:=by kernel_rfl
def NZ(a:Addr)(b:World):(ReflectliteValue.mk 143 a ReflectliteValue.flagAddr).run prog b=.ok (iG 143 a 406) b:=by kernel_rfl
def NQ(b c:Addr)(a:World)(d:a.cell? b=some (.pointer (some c))) :
  (ReflectliteValue.method (ReflectliteValue.valueError "reflectlite.Value.Elem" 0) ReflectliteValue.elem #[iG 177 b 150]).run Tryz.prog a = .ok (iG 143 c 406) a := by
 change Sem.run prog (ReflectliteValue.parts (iG 177 b 150) >>= _) a=_;simp only[Sem.run_bind,CM,Result.andThen];simp[ReflectliteValue.elem,loadVar,isAgg,underlying,underlying177,d,Result.andThen,NO,NZ]
def Oa(a:Addr)(b:World):(ReflectliteValue.parts (iG 143 a 406)).run prog b=.ok (some (143,a,406)) b:=by kernel_rfl
def Ob(a:Addr)(b:World):(ReflectliteValue.parts (iG 143 a 150)).run prog b=.ok (some (143,a,150)) b:=by kernel_rfl
def NN(a:World):(Rtype.directlyAssignable 143 143).run prog a=.ok true a:=by kernel_rfl
def Oc(b c d:Addr)(h:Value)(a:World)(e:a.cell? c=some (.pointer (some d)))(g:a.cell? b=some h)(f:a.frozen? b=false) :
  (ReflectliteValue.set #[iG 143 b 406,iG 143 c 150]).run prog a=.ok (.tuple #[]) (a.setCell b (.pointer (some d))):=by
 change Sem.run prog (ReflectliteValue.parts (iG 143 b 406) >>= λ_=>ReflectliteValue.parts (iG 143 c 150) >>= _) a=_;simp only[Sem.run_bind,Oa,Ob,Result.andThen];simp[ReflectliteValue.flagAddr,loadVar,isAgg,underlying,underlying143,e,Result.andThen,NN,storeVar,Value.cells,storeCells,Addr.add];rw[run_store prog a b _ _ (by rfl)];simp[g,f]
abbrev sH(a:World)(b:Addr):World:=(a.alloc (.cells #[.pointer (some b)] 177)).alloc (vR 177 ⟨a.heap.size,0,none⟩ 150)
def FQ(d a:Addr)(h:Value)(b:World)(e:b.cell? ⟨1,0,none⟩=some (jb 55))(f:b.cell? a=some h)(j:b.frozen? a=false) :
  Calls prog 92 #[.iface 143 (.pointer (some d)),.iface 177 (.pointer (some a))] b λi l=>i=.returned (.bool true)/\
   l=(((sH b a).alloc (vR 177 ⟨b.heap.size,0,none⟩ 150)).alloc (.cells #[.pointer (some d)] 143)).setCell a (.pointer (some d)):=by
 have D:=@run_callFunc_extern prog 155 _ (λargs=>ReflectliteValue.unpack (args.getD 0 (.tuple #[]))) func155 (by kernel_rfl) (by kernel_rfl) (by kernel_rfl) (by kernel_rfl)
 have F := @run_callFunc_extern Tryz.prog 156 _ (ReflectliteValue.methodAny (ReflectliteValue.valueError "reflectlite.Value.Type" 0) (fun a _ _ _ => ReflectliteType.toType a)) Tryz.func156 (by kernel_rfl) (by kernel_rfl) (by kernel_rfl) (by kernel_rfl)
 have G := @run_callFunc_extern Tryz.prog 157 _ (ReflectliteValue.method (ReflectliteValue.valueError "reflectlite.Value.IsNil" 0) ReflectliteValue.isNil) Tryz.func157 (by kernel_rfl) (by kernel_rfl) (by kernel_rfl) (by kernel_rfl)
 have H:=@run_callFunc_extern prog 321 _ (ReflectliteType.abiMethod λa=>do pure (.int .u8 (<-Rtype.kind a))) func321 (by kernel_rfl) (by kernel_rfl) (by kernel_rfl) (by kernel_rfl);have I:=@run_callFunc_extern prog 380 _ (ReflectliteType.method ReflectliteType.elem) func380 (by kernel_rfl) (by kernel_rfl) (by kernel_rfl) (by kernel_rfl)
 have J := @run_callFunc_extern Tryz.prog 381 _ (ReflectliteType.relation "Implements" ReflectliteType.implements_) Tryz.func381 (by kernel_rfl) (by kernel_rfl) (by kernel_rfl) (by kernel_rfl)
 have K:=@run_callFunc_extern prog 219 _ ReflectliteType.typeOf func219 (by kernel_rfl) (by kernel_rfl) (by kernel_rfl) (by kernel_rfl)
 have L := @run_callFunc_extern Tryz.prog 378 _ (ReflectliteType.relation "AssignableTo" ReflectliteType.assignableTo) Tryz.func378 (by kernel_rfl) (by kernel_rfl) (by kernel_rfl) (by kernel_rfl)
 have M := @run_callFunc_extern Tryz.prog 220 _ (ReflectliteValue.method (ReflectliteValue.valueError "reflectlite.Value.Elem" 0) ReflectliteValue.elem) Tryz.func220 (by kernel_rfl) (by kernel_rfl) (by kernel_rfl) (by kernel_rfl)
 have E:=@run_callFunc_extern prog 221 _ ReflectliteValue.set func221 (by kernel_rfl) (by kernel_rfl) (by kernel_rfl) (by kernel_rfl);have z:=Od;have t:=NV;have m:=NM;have B:=Of;have C:=Og;have A:=Oe;have w:=NY;have u:=NW;have v:=NX;have s:=NU;have r:=NT;have n:=NP;have q:=NR;have x:=NS ⟨b.heap.size,0,none⟩ a (sH b a) (by simp);have k:1<b.heap.size:=by
  rcases Yj 1 b.heap.size with c|c
  .exact c
  .simp[World.cell?,YO c]at e
 have p:(sH b a).cell? ⟨1,0,none⟩=some (jb 55):=by
  rw[World.cell?_alloc_lt _ _ ⟨1,0,none⟩ (by simp;omega),World.cell?_alloc_lt _ _ ⟨1,0,none⟩ k];exact e
 have g:a.block<b.heap.size:=by
  rcases Yj a.block b.heap.size with c|c
  .exact c
  .simp[World.cell?,YO c]at f
 have o:=NQ ⟨b.heap.size,0,none⟩ a ((sH b a).alloc (vR 177 ⟨b.heap.size,0,none⟩ 150)) (by rw[World.cell?_alloc_lt _ _ ⟨b.heap.size,0,none⟩ (by simp;omega)];simp);have y:=Oc a ⟨b.heap.size+1+1+1,0,none⟩ d h (((sH b a).alloc (vR 177 ⟨b.heap.size,0,none⟩ 150)).alloc (.cells #[.pointer (some d)] 143))
  (by rw[World.cell?_alloc_at _ _ _ _ (by simp)];rfl)
  (by rw[World.cell?_alloc_lt _ _ a (by simp;omega),World.cell?_alloc_lt _ _ a (by simp;omega),World.cell?_alloc_lt _ _ a (by simp;omega),World.cell?_alloc_lt _ _ a g];exact f)
  (by rw[World.frozen?_alloc_old _ _ a (by simp;omega),World.frozen?_alloc_old _ _ a (by simp;omega),World.frozen?_alloc_old _ _ a (by simp;omega),World.frozen?_alloc_old _ _ a (Nat.ne_of_lt g)];exact j)
 go_in;go_wp2;refine wp_loop_rounds 1 ?_;rw[rounds_succ];go_wp2;go_ret;exact⟨rfl,rfl⟩
end Go.Proofs.YtjdhaegijjednaaGreatDoor
namespace Go.Proofs.YtjdhaegijjednaaGreatDoor
open Go.RowKit
open Go.Proofs.Tryz
def Fy{a:World}(e:a.cell? ⟨1,0,none⟩=some (jb 55)){b:Nat}{o h:Int}(d:a.heap[b]? = some (.cells #[.int .i64 o,.int .i64 h] 179)) :
  Calls prog 52 #[.iface 143 (.pointer (some ⟨b,0,none⟩))] a λj t=>j=.returned (.tuple #[.int .i64 o,.int .i64 h])/\ai [] a t:=by
 have s:1<a.heap.size:=by
  rcases Yj 1 a.heap.size with c|c
  .exact c
  .simp[World.cell?,YO c]at e
 have r:=aj d;have l:(a.alloc (.cells #[.pointer none] 143)).cell? ⟨1,0,none⟩=some (jb 55):=by rw[World.cell?_alloc_lt _ _ ⟨1,0,none⟩ s];exact e
 have n:(a.alloc (.cells #[.pointer none] 143)).cell? ⟨a.heap.size,0,none⟩=some (.pointer none):=by simp
 have k:(a.alloc (.cells #[.pointer none] 143)).frozen? ⟨a.heap.size,0,none⟩=false:=by simp
 have g:=Z (FQ ⟨b,0,none⟩ ⟨a.heap.size,0,none⟩ (.pointer none) _ l n k);clear l n k e;go_in;go_wp2_with fail;refine g.j.mono ?_;rintro j p ⟨rfl,f⟩;have m:ai [] a p:=by
  rw[f];exact(((((ah [] a).G _).G _).G _).G _ |>.G _).cy (Y4 _) _
 have u:p.cell? ⟨a.heap.size,0,none⟩=some (.pointer (some ⟨b,0,none⟩)):=by
  rw[f];refine bM (bv (i:=0) (cs:=#[.pointer none]) (T:=143) ?_ _);exact(((((ah [] (a.alloc (.cells #[.pointer none] 143))).G _).G _).G _ |>.G _).K a.heap.size (by simp) (by simp)).trans (aK rfl)
 have q:=(m.K b r (by simp)).trans d;obtain⟨v,w,_⟩:=sM q;clear f g d;go_wp2_with fail;go_region;go_wp2;go_ret2;exact⟨rfl,m.a9⟩
end Go.Proofs.YtjdhaegijjednaaGreatDoor
namespace Go.Proofs.YtjdhaegijjednaaGreatDoor
open Go.RowKit
open Go.MapKept
open Go.Proofs.Tryz
def Fj{k:ByteArray}{f:Mar.a5}(D:eo k=.error f){a:World}(B:Gl a):Calls prog 25 #[.string k] a λd r=>ai [] a r/\∃m,d=.returned (.tuple #[.pointer none,.iface 143 (.pointer (some ⟨m,0,none⟩))])/\r.heap[m]? = some (.cells #[.int .i64 f.no,.int .i64 f.w] 179):=by
 have L:=jw;have n:Below a.heap.size a ((a.alloc (.cells #[.pointer none] 53)).alloc (.cells #[.nilIface] 55)):=((Below.refl _ _).alloc (Y4 _) _).alloc (by simp) _;have t:=Z (zR k (B.aA n));have l:=Z D;have o:((a.alloc (.cells #[.pointer none] 53)).alloc (.cells #[.nilIface] 55)).heap[a.heap.size]? = some (.cells #[.pointer none] 53):=(Below.heap_alloc _ _ _ (by simp)).trans (aK rfl);have q:((a.alloc (.cells #[.pointer none] 53)).alloc (.cells #[.nilIface] 55)).heap[a.heap.size+1]? = some (.cells #[.nilIface] 55):=aK (by simp);have s:=Z n;go_enter_defers func25,ntmps25;go_wp2_with fail;refine t.j.mono ?_;rintro d c (⟨J,N,M,I,g,_⟩|⟨u,g,e,b,y,rfl,z⟩)
 .exact absurd (l.j.symm.trans g) (by simp)
 have A:u=f:=by have x:=l.j.symm.trans g;cases x;rfl
 subst A;have h:=(e.K _ (aj o) (by simp)).trans o;have j:=(e.K _ (aj q) (by simp)).trans q;have v:c.frozen? ⟨a.heap.size,0,none⟩=false:=by simp[World.frozen?,h]
 have w:c.frozen? ⟨a.heap.size+1,0,none⟩=false:=by simp[World.frozen?,j]
 have C:=(bt [] s.j).u e;refine leaves_cons (f:=42) (args:=#[.pointer (some ⟨a.heap.size,0,none⟩),.pointer (some ⟨a.heap.size+1,0,none⟩)]) (by simp) (by simp[go_sem]) ?_;refine(Nq _ _ b _ _ [] c (bM h) (bM j) v w (by simp)).mono ?_;rintro d O P ⟨rfl,rfl,rfl⟩;have E:=bv (i:=0) h (.pointer none);have F:(c.setCell ⟨a.heap.size,0,none⟩ (.pointer none)).heap[a.heap.size+1]? = _:=(Below.heap_setCell _ _ _ _ (by simp)).trans j;have G:=bM ((Below.heap_setCell _ ⟨a.heap.size+1,0,none⟩ (.iface 143 (.pointer (some ⟨b,0,none⟩))) _ (by simp)).trans E)
 have H:=bM (bv (i:=0) F (.iface 143 (.pointer (some ⟨b,0,none⟩))))
 simp only[Leaves,settle,List.dropWhile_nil];refine⟨.tuple #[.pointer none,.iface 143 (.pointer (some ⟨b,0,none⟩))],by simp[results,results25,go_sem,G,H],?_⟩
 refine⟨(C.cy (p:=⟨a.heap.size,0,none⟩) (by simp) _).cy (p:=⟨a.heap.size+1,0,none⟩) (by simp) _,b,rfl,?_⟩;have K:a.heap.size+2<=b:=by simpa using y
 exact(Below.heap_setCell _ _ _ _ (by simp;omega)).trans ((Below.heap_setCell _ _ _ _ (by simp;omega)).trans z)
def FA(a:World):Calls prog 52 #[.nilIface] a λb c=>b=.returned (.tuple #[.int .i64 0,.int .i64 0])/\c=a:=by
 go_in;go_wp2;go_ret2;exact⟨rfl,rfl⟩
def Cg(a:Int)(b:World):Calls prog 53 #[.int .i64 a] b λc d=>c=.returned (.int .i64 a)/\d=b:=by
 go_in;go_wp2;go_ret;exact⟨rfl,rfl⟩
def Rr(d:Int)(b:World):Calls prog 27 #[.nilIface,.int .i64 0,.int .i64 d] b λa e=>a=.returned (.bool true)/\ai [] b e:=by
 have c:=Z (FA b);go_in;go_wp2_with fail;refine c.j.mono ?_;rintro a f ⟨rfl,rfl⟩;go_wp2_with fail;refine(Cg 0 _).mono ?_;rintro a g ⟨rfl,rfl⟩;go_wp2;go_ret;exact⟨by simp,ah [] _⟩
def Rq{b:World}(h:b.cell? ⟨1,0,none⟩=some (jb 55)){e:Nat}{a d:Int}(g:b.heap[e]? = some (.cells #[.int .i64 a,.int .i64 d] 179))(i:a≠0) :
  Calls prog 27 #[.iface 143 (.pointer (some ⟨e,0,none⟩)),.int .i64 a,.int .i64 d] b λc k=>c=.returned (.bool true)/\ai [] b k:=by
 have f:=Z (Fy h g);have l:(a==0)=false:=by simpa using i
 go_in;go_wp2_with fail;refine f.j.mono ?_;rintro c m ⟨rfl,j⟩;go_wp2_with fail;refine(Cg a _).mono ?_;rintro c n ⟨rfl,rfl⟩;go_wp2;go_ret;exact⟨by simp,j⟩
end Go.Proofs.YtjdhaegijjednaaGreatDoor
namespace Go.Proofs.YtjdhaegijjednaaGreatDoor
open Go.RowKit
open Go.Proofs.Tryz
section
variable {b:List UInt8}{a:World}
def Fu(b:List UInt8)(c:List ao)(S:Nat)(d:World):Prop:=∃f h a e n m g l j k,d.heap[S]? = some (.cells #[.pointer (some ⟨f,0,none⟩),a.rv,a.nv,a.pv,.string ⟨e.j.toArray⟩] 67)/\wK h f c/\(∀i∈h,d.heap[i.1]? = some i.2)/\bg n m b g e a d/\g<=1000000000/\e=ge k/\Wh b c l j k/\kU j c
def oi{f:World}{b e:Nat}{v:Value}(d:a.cell? ⟨b,e,none⟩=some v)(h:ai [] a f):f.cell? ⟨b,e,none⟩=some v:=by
 have g:b<a.heap.size:=by
  rcases Yj b a.heap.size with c|c
  .exact c
  .simp[World.cell?,YO c]at d
 have:=h.K b g (by simp);unfold World.cell? at *
 simp only at *
 rw[this];exact d
def Nt{e:Mar.a5}(h:eo (ap b)=.error e)(o:Gl a)(n:a.cell? ⟨1,0,none⟩=some (jb 55)):Calls prog 16 #[.string ⟨b.toArray⟩] a λc s=>ai [] a s/\c=.returned (.tuple #[.pointer none,.bool true]):=by
 have l:=Z h;have m:=Z (Fj h o);have k:=Z n;clear o h n;go_in;go_wp2_with fail;refine m.j.mono ?_;rintro c t ⟨i,v,rfl,g⟩;go_wp2_with fail;refine(zI b t).mono ?_;rintro c u ⟨d,f⟩;unfold lO at f;rw[l.j]at f;obtain⟨rfl,w⟩:=f;have x:((e.no:Int) != 0)=true:=by simp;omega
 have j:=Z (((ah [] u).G (lJ (.slice none 0 0) (.slice none 0 0) (.slice none 0 0) (.string ⟨#[]⟩))));have q:=Z (Rq (oi (oi (oi k.j i) d) j.j) (((d.u j.j).K _ (aj g) (by simp)).trans g) (by omega:(e.no:Int)≠0));have p:=Z (i.u d);unfold yQ;clear g i d m k l;go_wp2_with fail;refine q.j.mono ?_;rintro c y ⟨rfl,r⟩;go_wp2;go_ret2;exact⟨(p.j.u j.j).u r,rfl⟩
def Ns{E:List ao}(k:eo (ap b)=.ok E)(K:Gl a):Calls prog 16 #[.string ⟨b.toArray⟩] a λj N=>ai [] a N/\∃S,j=.returned (.tuple #[.pointer (some ⟨S,0,none⟩),.bool true])/\a.heap.size<=S/\Fu b E S N:=by
 have A:=Z k;have D:=Z (Fl k (MV k) K);clear K k;go_in;go_wp2_with fail;refine D.j.mono ?_;rintro j b6 ⟨z,a4,rfl,M,L,s,b8⟩;go_wp2_with fail;refine(zI b b6).mono ?_;rintro j e ⟨w,r⟩;unfold lO at r;rw[A.j]at r;obtain⟨a2,c,a3,a1,a0,O,b5,b7,rfl,h,J,G,H,I⟩:=r;obtain⟨n,q,v⟩:=bY h.y;obtain⟨l,o,t⟩:=bY h.F;obtain⟨m,p,u⟩:=bY h.ak;have R:=Z (Yp L (Yp (λd i=>((w.K _ (aj (s d i)) (by simp)).trans (s d i):e.heap[d.1]? = some d.2)) (Yp h (Yp J (Yp G (Yp H I))))));have P:=Z (Yp v (Yp t u));have B:=Z (M.u w);have b1:=Z (((ah [] e).G (lJ (.slice n c.y.length q) (.slice l c.F.length o) (.slice m c.ak.length p) (.string ⟨c.j.toArray⟩))));unfold mz;rw[v,t,u];clear v t u h J G H I L s M w D A;go_wp2_with fail;refine(Rr 0 _).mono ?_;rintro j g ⟨rfl,x⟩;have f:=(x.K e.heap.size (by simp) (by simp)).trans (aK rfl);obtain⟨b9,c0,c1,c2⟩:g.cell? ⟨e.heap.size,0,none⟩=some (.slice n c.y.length q)/\g.cell? ⟨e.heap.size,1,none⟩=some (.slice l c.F.length o)/\g.cell? ⟨e.heap.size,2,none⟩=some (.slice m c.ak.length p)/\g.cell? ⟨e.heap.size,3,none⟩=some (.string ⟨c.j.toArray⟩):=⟨aS f rfl,aS f rfl,aS f rfl,aS f rfl⟩;have c3:=cG f;have C:=Z (b1.j.u x);have c4:=aj f;clear f x;go_wp2;go_ret2;obtain⟨a5,F,a6,a7,a8,a9,b0⟩:=R.j;obtain⟨b2,b3,b4⟩:=P.j;have y:=C.j.u ((ah [] g).G (.cells #[.pointer (some ⟨z,0,none⟩),.slice n c.y.length q,.slice l c.F.length o,.slice m c.ak.length p,.string ⟨c.j.toArray⟩] 67));refine⟨B.j.u y,g.heap.size,rfl,?_,z,a4,a2,c,a3,a1,a0,O,b5,b7,?_,a5,λd i=>(y.K _ (aj (F d i)) (by simp)).trans (F d i),a6.aA y,a7,a8,a9,b0⟩
 .have:=B.j.a2;have:=C.j.a2;omega
 .rw[b2,b3,b4];exact aK rfl
end
def eM(a:Int)(b:Nat):Nat:=(if a<0 then -(a+1)else a).toNat % b
def vJ(a:Int)(b:Nat)(j:-9223372036854775808<=a)(k:a<=9223372036854775807)(l:0<b)(n:b<=1000000)(f:World):Calls prog 18 #[.int .i64 a,.int .i64 b] f λg i=>g=.returned (.int .i64 (eM a b))/\i=f:=by
 have m:(b:Int)≠0:=by omega
 by_cases e:a<0
 .have c:U ((eM a b:Int) = -(a+1).tmod b):=by
   show _=_;rw[<-Int.neg_tmod];unfold eM;rw[Y9 e];obtain⟨h,d⟩:=Int.eq_ofNat_of_zero_le (show 0<=-(a+1) by omega);rw[d];rfl
  go_in;go_wp2;go_ret;exact⟨by rw[c.j];rfl,rfl⟩
 .have c:U ((eM a b:Int)=a % b):=by
   show _=_;unfold eM;rw[Y2 e];obtain⟨h,d⟩:=Int.eq_ofNat_of_zero_le (show 0<=a by omega);rw[d];rfl
  go_in;go_wp2;go_ret;exact⟨by rw[c.j];rfl,rfl⟩
def qh(b:Int){a:Nat}(c:0<a):eM b a<a:=Nat.mod_lt _ c
structure jm where
 H:Int
 n:Int
 s:List UInt8
 w:Int
 bc:Int
abbrev gX(a:jm):List Value:=[.int .i64 a.H,.int .i64 a.n,.string ⟨a.s.toArray⟩,.int .i64 a.w,.int .i64 a.bc]
structure eQ where
 a0:List (List UInt8)
 a7:List jm
 ca:List UInt8
 a:Int
 b:Int
 c:Int
 b5:List Nat
 f4:List Nat
abbrev nA(a:Nat):Value:=.pointer (some ⟨a,0,none⟩)
def eF(a:eQ)(b:Int):List UInt8:=if a.a0=[]then []else a.a0.getD (eM b a.a0.length) []
def Qs{e:World}{v:Value}{c:List (List UInt8)}{b:Nat}(f:ky v c e)(h:b<c.length):∃a d,v=.slice (some ⟨a,0,none⟩) c.length d/\e.cell? ⟨a,b,none⟩=some (.string ⟨(c.getD b []).toArray⟩)/\a<e.heap.size:=by
 obtain⟨a,d,k,g,_,j⟩:=kf f (i:=b) (x:=.string ⟨(c.getD b []).toArray⟩) (by simp[h]);exact⟨a,d,k,g,j⟩
def qv{w:World}{b:Nat}{i:Value}{s:eQ}{rest:List Value}(l:w.heap[b]? = some (.cells (i::rest).toArray 35))(n:ky i s.a0 w)(a:Int)(u:-9223372036854775808<=a)(x:a<=9223372036854775807)(A:s.a0.length<=1000000) :
  Calls prog 15 #[.pointer (some ⟨b,0,none⟩),.int .i64 a] w λt d=>t=.returned (.string ⟨(eF s a).toArray⟩)/\ai [] w d:=by
 have r:w.cell? ⟨b,0,none⟩=some i:=aS l rfl;have E:=aj l;by_cases c:s.a0=[]
 .have e:U (eF s a=[]):=Z (by unfold eF;rw[Y9 c]);obtain⟨ad,j,rfl⟩:=bY n;have B:s.a0.length=0:=by rw[c];rfl
  rw[B]at r;go_in;go_wp2;go_ret;exact⟨by rw[e.j];first|rfl|simp,ah [] w⟩
 .have m:0<s.a0.length:=YM.2 c;have z:eM a s.a0.length<s.a0.length:=qh a m;obtain⟨k,j,rfl,F,G⟩:=Qs n z;have e:U (eF s a=s.a0.getD (eM a s.a0.length) []):=Z (by unfold eF;rw[Y2 c]);have q:=Z (vJ a s.a0.length u x m A);have J:((s.a0.length:Int)==0)=false:=by simp;omega
  have H:(0:Int)<=↑(eM a s.a0.length):=by omega
  have I:(↑(eM a s.a0.length):Int) < ↑s.a0.length:=by omega
  generalize eM a s.a0.length=o at *
  generalize s.a0.getD o []=C at *
  go_in;go_wp2;refine cS (λd=>d.cell? ⟨b,0,none⟩=some (.slice (some ⟨k,0,none⟩) s.a0.length j)/\d.cell? ⟨k,o,none⟩=some (.string ⟨C.toArray⟩)) (L:=13) (by kernel_rfl) rfl (by kernel_rfl) (by kernel_rfl) ?_ (λy=>?_)
  .go_keep
  refine bI [0,1,2,3,4,5,6,7,8,9] ?_;iterate 10 (refine bP (v:=?_) rfl (by kernel_rfl) (λ_ _ _ f=>f) (by kernel_rfl) (by assumption) ?_ ?_;rotate_left;focus (intro w h;(try dsimp only at h);go_simp;(try with_reducible rfl));(try simp only[aL,aM,List.set]))
  refine bJ ?_;refine ck 10 (by kernel_rfl) rfl λp g=>?_;(go_simp;refine(q.j _).mono ?_;rintro D K ⟨rfl,rfl⟩);refine g.out _ _ ?_ (λy=>?_)
  .go_keep
  (try simp only[aL,aM,List.set]);refine bI [11,12] ?_;iterate 2 (refine bP (v:=?_) rfl (by kernel_rfl) (λ_ _ _ f=>f) (by kernel_rfl) (by assumption) ?_ ?_;rotate_left;focus (intro w h;(try dsimp only at h);go_simp;(try with_reducible rfl));(try simp only[aL,aM,List.set]))
  refine bJ ?_;refine cQ (by kernel_rfl) rfl λp g=>?_;go_simp;refine g.out _ _ ?_;(try simp only[aL,aM,List.set]);go_wp2;go_ret;exact⟨by rw[e.j];rfl,(ah [] w).a9⟩
section
variable {d : List Th} {c e w' f g : World} {i : Nat} {a a' : Th}
structure aR(d:List Th)(e c:World):Prop where
 fr:ai [] e c
 w:∀a∈d,a.At c
 aQ:∀a∈d,∀b,a.ch=some b->e.heap.size<=b
 c8:∀(i j:Nat) (a b:Th),i≠j->d[i]? = some a->d[j]? = some b->∀k,a.ch=some k->b.ch≠some k
def zT(c:World):aR [] c c:=⟨ah [] c,by simp,by simp,by simp⟩
def aR.O(b:aR d e c)(f:ai [] c w'):aR d e w':=⟨b.fr.u f,λa g=>(b.w a g).O f (by simp),b.aQ,b.c8⟩
def aR.a9(a:aR d e c):aR d e c.drew:=a.O (ah [] c).a9
def aR.G(m:aR d e c)(j:Obj):aR (.obj c.heap.size j::d) e (c.alloc j):=by
 have n:ai [] c (c.alloc j):=(ah [] c).G j;refine⟨m.fr.u n,?_,?_,?_⟩
 .intro a b;rcases Yg.1 b with rfl|b
  .exact aK rfl
  .exact(m.w a b).O n (by simp)
 .intro a b h f;rcases Yg.1 b with rfl|b
  .simp[Th.ch]at f;subst f;exact m.fr.a2
  .exact m.aQ a b h f
 .intro i g a h o b f p k l;cases i with
  |zero=>
   cases g with
   |zero=>exact o rfl
   |succ g=>
    simp at b f;subst b;simp[Th.ch]at k;exact absurd ((m.w h (Yh f)).lt _ l) (by omega)
  |succ i=>
   cases g with
   |zero=>
    simp at b f;subst f;simp[Th.ch]at l;exact absurd ((m.w a (Yh b)).lt _ k) (by omega)
   |succ g=>exact m.c8 i g a h (by omega) (by simpa using b) (by simpa using f) p k l
def aR.b6{v:List Nat}(h:aR d e c)(o:d[i]? = some a)(z:ai v c w')(x:∀b∈v,a.ch=some b)(F:a'.At w')(t:∀b,a'.ch=some b->a.ch=some b\/c.heap.size<=b):aR (d.set i a') e w':=by
 have u:=(YB.1 o).1;have A:=Yh o;have B:∀f∈d.set i a',f=a'\/∃l,l≠i/\d[l]? = some f:=by
  intro f g;obtain⟨l,k⟩:=List.getElem?_of_mem g;rw[YP]at k;split at k
  .simp[u]at k;exact Y8 k.symm
  .rename_i j;exact Ya ⟨l,λD=>j D.symm,k⟩
 refine⟨lm h.fr z (λb n=>h.aQ a A b (x b n)),?_,?_,?_⟩
 .intro f g;rcases B f g with rfl|⟨l,H,k⟩
  .exact F
  .exact(h.w f (Yh k)).O z λb n G=>h.c8 l i f a H k o b n (x b G)
 .intro f g r y;rcases B f g with rfl|⟨l,_,k⟩
  .rcases t r y with j|j
   .exact h.aQ a A r j
   .exact Yz h.fr.a2 j
  .exact h.aQ f (Yh k) r y
 .intro l C f s q g m b n p;rw[YP]at g m;split at g
  .rename_i w;subst w;simp[u]at g;subst g;rw[Y2 q]at m;rcases t b n with j|j
   .exact h.c8 i C a s q o m b j p
   .exact absurd ((h.w s (Yh m)).lt b p) (by omega)
  .split at m
   .rename_i w E;subst E;simp[u]at m;subst m;rcases t b p with j|j
    .exact h.c8 l i f a q g o b n j
    .exact absurd ((h.w f (Yh g)).lt b n) (by omega)
   .exact h.c8 l C f s q g m b n p
def aR.bo(g:aR (a::d) e c):aR d e c:=⟨g.fr,λb f=>g.w b (Y5 _ f),λb f=>g.aQ b (Y5 _ f),λi k b h l f j=>g.c8 (i+1) (k+1) b h (by omega) (by simpa using f) (by simpa using j)⟩
def aR.bQ{b j:Nat}{g:Array Value}{f:TypeId}(k:aR d e c)(h:d[i]? = some (.obj b (.cells g f)))(v:Value):aR (d.set i (.obj b (.cells (g.set! j v) f))) e (c.setCell ⟨b,j,none⟩ v):=
 k.b6 h ((ah [b] c).a6 (p:=⟨b,j,none⟩) (by simp) v) (λl a=>by simp at a;rw[a];rfl) (by have:=k.w _ (Yh h);exact bv this v) (λl a=>Y8 a)
def aR.b8{R:Nat}{a:Obj}(f:aR d e c)(b:d[i]? = some (.obj R a)):c.heap[R]? = some a:=f.w _ (Yh b)
def aR.b9(f:aR d e c)(b:d[i]? = some a):a.At c:=f.w _ (Yh b)
def aR.bZ{b:TypeId}{k x h a m l:Nat}{v:Value}{y o:List Value}(w:aR d e c)(s:d[i]? = some (.row b k v x y))(t:ai [] c f)(u:g.ownsRow 0 b k (.slice (some ⟨a,0,none⟩) h m) h o)(j:f.grownBy g v.ownBlock)(q:v.ownBlock=some a\/a=l)(z:f.heap.size=l):aR (d.set i (.row b k (.slice (some ⟨a,0,none⟩) h m) h o)) e g:=by
 refine(w.O t).b6 s (eL j) (λa j=>by simpa[Th.ch]using j) u ?_;intro p r;have b:p=a:=by simpa[Th.ch,ea]using r.symm
 subst b;rcases q with n|n
 .exact Y8 n
 .right;omega
def aR.h8{b j h:Nat}{v:Value}{a:List (List UInt8)}{k:List UInt8}(r:aR d e c)(o:d[i]? = some (bE v a))(p:ai [] c f)(q:g.ownsRow 0 9 1 (.slice (some ⟨b,0,none⟩) (a.length+1) j) (a.length+1) ((a.map λs=>Value.string ⟨s.toArray⟩)++[.string ⟨k.toArray⟩]))(n:f.grownBy g v.ownBlock)(m:v.ownBlock=some b\/b=h)(l:f.heap.size=h):aR (d.set i (bE (.slice (some ⟨b,0,none⟩) (a.length+1) j) (a++[k]))) e g:=by
 have:=r.bZ o p q n m l;simpa[bE]using this
end
section
variable {e l : World} {d : Nat} {s : eQ} {h k g f : Value} {R : List Th}
structure cV where
 H:Int
 x:Int
 a:Int
 b:Int
 c:Int
 s:List UInt8
abbrev cA(d:cV):Array Value:=#[.int .i64 d.H,.int .i64 d.x,.int .i64 d.a,.int .i64 d.b,.int .i64 d.c,.string ⟨d.s.toArray⟩]
abbrev Sq(d:Nat)(s:eQ)(h k g f:Value):Th:=.obj d (.cells #[h,k,.string ⟨s.ca.toArray⟩,.int .i64 s.a,.int .i64 s.b,.int .i64 s.c,g,f] 35)
abbrev iH(v:Value)(a:List jm):Th:=.row 52 5 v a.length (a.flatMap gX)
abbrev oL(b:TypeId)(v:Value)(a:List Nat):Th:=.row b 1 v a.length (a.map nA)
abbrev wL(d:Nat)(s:eQ)(h k g f:Value)(R:List Th):List Th:=Sq d s h k g f::bE h s.a0::iH k s.a7::oL 37 g s.b5::oL 48 f s.f4::R
def Ri(C:aR (wL d s h k g f R) l e)(b:cV)(P:b.H=1)(S:s.a0.length<=100000):Calls prog 24 #[.pointer (some ⟨d,0,none⟩),.agg (cA b)] e λE N=>E=.returned (.bool true)/\∃M,aR (wL d { s with a0:=s.a0++[b.s] } M k g f R) l N:=by
 have n:=Z (C.G (.cells (cA b) 27));obtain⟨gT,m,rfl⟩:=bY (C.b9 (i:=1) (a:=bE h s.a0) rfl);obtain⟨G,H,I,J,K⟩:=info_parts pO;have L:(Value.string ⟨#[]⟩).cells.size=1:=rfl;go_in;have c:=n.j.b8 (i:=1) (R:=d) rfl;have q:(e.alloc (.cells (cA b) 27)).cell? ⟨d,0,none⟩=some (.slice gT s.a0.length m):=aS c rfl;have r:=cG c;have u:=aj c;have A:U (∀o,((e.alloc (.cells (cA b) 27)).alloc o).ownsRow 0 9 1 (.slice gT s.a0.length m) s.a0.length (s.a0.map λs=>Value.string ⟨s.toArray⟩)):=Z (λo=>aY (n.j.b9 (i:=2) (a:=bE (.slice gT s.a0.length m) s.a0) rfl) ((ah [] (e.alloc (.cells (cA b) 27))).G o) (by simp));have z:s.a0.length+1<=maxLen:=by unfold maxLen;omega
 go_wp2_with (at_builtin;(refine wpList_append_lies _ (by rfl) _ _ _ (by rfl) 0 9 G _ 1 16 underlying30 H I J K L (by omega) (.slice gT s.a0.length m) s.a0.length (s.a0.map λs=>Value.string ⟨s.toArray⟩) (by rfl) (A.j _) ⟨e.heap.size+1,0,none⟩ 1 1 [.string ⟨(b.s).toArray⟩] (by rfl) (by rfl) (World.news_of_block (cs:=#[.string ⟨(b.s).toArray⟩]) (t:=9) (fr:=(0,0)) (aK (by simp))) (by simp[Value.oneCell']) (by omega) z (by omega) (by simp) (e.heap.size+2) (by simp) ?_;intro w v O B y x F;have p:=Z (n.j.h8 (i:=2) rfl ((ah [] (e.alloc (.cells (cA b) 27))).G _) B y x (by simp));clear B y x F A z q r u;have c:=p.j.b8 (i:=1) (R:=d) rfl;have q:O.cell? ⟨d,0,none⟩=some (.slice gT s.a0.length m):=aS c rfl;have r:=cG c;have u:=aj c;clear c));go_wp2;go_ret;have D:=(p.j.bQ (i:=1) (j:=0) rfl (.slice (some ⟨w,0,none⟩) (s.a0.length+1) v)).bo;exact⟨rfl,.slice (some ⟨w,0,none⟩) (s.a0.length+1) v,by simpa using D⟩
end
section
variable {w h : World} {d : Nat} {s : eQ} {k g f e : Value} {R : List Th}
def Rh(m:aR (wL d s k g f e R) h w)(a:cV)(i:a.H≠1)(j:a.H≠2)(l:a.H≠3):Calls prog 24 #[.pointer (some ⟨d,0,none⟩),.agg (cA a)] w λc n=>c=.returned (.bool false)/\aR (wL d s k g f e R) h n:=by
 have b:=Z (m.G (.cells (cA a) 27));have o:(a.H==1)=false:=by simpa using i
 have p:(a.H==2)=false:=by simpa using j
 have q:(a.H==3)=false:=by simpa using l
 go_in;go_wp2;go_ret;exact⟨rfl,b.j.bo⟩
def uT(s:eQ)(c:cV):eQ:=if(eF s c.a).length+(eF s c.b).length > 65536 then s else { s with a0:=s.a0++[eF s c.a++eF s c.b] }
abbrev it(d:cV):Prop:=(-9223372036854775808<=d.x/\d.x<=9223372036854775807)/\(-9223372036854775808<=d.a/\d.a<=9223372036854775807)/\(-9223372036854775808<=d.b/\d.b<=9223372036854775807)/\(-9223372036854775808<=d.c/\d.c<=9223372036854775807)
def Rg(a1:aR (wL d s k g f e R) h w)(c:cV)(b0:it c)(u:c.H=3)(c7:s.a0.length<=100000)(b3:∀o∈s.a0,o.length<=1000000):Calls prog 24 #[.pointer (some ⟨d,0,none⟩),.agg (cA c)] w λa8 B=>a8=.returned (.bool true)/\∃c2,aR (wL d (uT s c) c2 g f e R) h B:=by
 have x:=Z (a1.G (.cells (cA c) 27));obtain⟨gT,l,rfl⟩:=bY (a1.b9 (i:=1) (a:=bE k s.a0) rfl);have a0:∀z,(eF s z).length<=1000000:=λz=>by
  unfold eF;split
  .simp
  .rename_i a9;have u:=qh z (YM.2 a9);exact b3 _ (by simp[u])
 have c8:=a0 c.a;have c9:=a0 c.b;obtain⟨-,J,L,-⟩:=b0;obtain⟨b6,b7,b8,b9,c0⟩:=info_parts pO;have c1:(Value.string ⟨#[]⟩).cells.size=1:=rfl;have c5:(c.H==1)=false:=by rw[u];rfl
 have c6:(c.H==2)=false:=by rw[u];rfl
 have a4:=Z (qv (w:=w.alloc (.cells (cA c) 27)) (s:=s) (x.j.b8 (i:=1) (R:=d) rfl) (x.j.b9 (i:=2) (a:=bE (.slice gT s.a0.length l) s.a0) rfl) c.a J.1 J.2 (by omega));have a5:U (∀v,aR (.obj w.heap.size (.cells (cA c) 27)::wL d s (.slice gT s.a0.length l) g f e R) h v->Calls prog 15 #[.pointer (some ⟨d,0,none⟩),.int .i64 c.b] v λA B=>A=.returned (.string ⟨(eF s c.b).toArray⟩)/\ai [] v B):=Z (λv a2=>qv (s:=s) (a2.b8 (i:=1) (R:=d) rfl) (a2.b9 (i:=2) (a:=bE (.slice gT s.a0.length l) s.a0) rfl) c.b L.1 L.2 (by omega));have C:U (uT s c=if(eF s c.a).length+(eF s c.b).length > 65536 then s else { s with a0:=s.a0++[eF s c.a++eF s c.b] }):=Z rfl
 generalize eF s c.a=p at *
 generalize eF s c.b=q at *
 go_in;go_wp2_with fail;refine a4.j.mono ?_;rintro A c3 ⟨rfl,b4⟩;have y:=Z (x.j.O b4);generalize w.heap.size=a7 at *
 obtain⟨d0,d1,d2,d3,d4,d5,of,d6⟩:=dY (y.j.b8 (i:=0) (R:=a7) rfl);have a6:=Z (a5.j c3 y.j);go_wp2_with fail;refine a6.j.mono ?_;rintro A n ⟨rfl,b5⟩;have r:=Z (y.j.O b5);by_cases M:p.length+q.length > 65536
 .have b1:(65536:Int) < ↑p.length+↑q.length:=by omega
  go_wp2;go_ret;rw[C.j,Y9 M];exact⟨rfl,_,r.j.bo⟩
 .have b1:¬(65536:Int) < ↑p.length+↑q.length:=by omega
  have m:=r.j.b8 (i:=1) (R:=d) rfl;have E:n.cell? ⟨d,0,none⟩=some (.slice gT s.a0.length l):=aS m rfl;have F:=cG m;have G:=aj m;have P:U (∀o,(n.alloc o).ownsRow 0 9 1 (.slice gT s.a0.length l) s.a0.length (s.a0.map λs=>Value.string ⟨s.toArray⟩)):=Z (λo=>aY (r.j.b9 (i:=2) (a:=bE (.slice gT s.a0.length l) s.a0) rfl) ((ah [] n).G o) (by simp));have O:s.a0.length+1<=maxLen:=by unfold maxLen;omega
  go_wp2_with (at_builtin;(refine wpList_append_lies _ (by rfl) _ _ _ (by rfl) 0 9 b6 _ 1 16 underlying30 b7 b8 b9 c0 c1 (by omega) (.slice gT s.a0.length l) s.a0.length (s.a0.map λs=>Value.string ⟨s.toArray⟩) (by rfl) (P.j _) ⟨n.heap.size,0,none⟩ 1 1 [.string ⟨(p++q).toArray⟩] (by rfl) (by rfl) (World.news_of_block (cs:=#[.string ⟨(p++q).toArray⟩]) (t:=9) (fr:=(0,0)) (heap_alloc_new n _)) (by simp[Value.oneCell']) (by omega) O (by omega) (by simp) (n.heap.size+1) (by simp) ?_;intro I H c4 S N K b2;have D:=Z (r.j.h8 (i:=2) rfl ((ah [] n).G _) S N K (by simp));clear S N K b2 P O E F G;have m:=D.j.b8 (i:=1) (R:=d) rfl;have E:c4.cell? ⟨d,0,none⟩=some (.slice gT s.a0.length l):=aS m rfl;have F:=cG m;have G:=aj m;clear m));go_wp2;go_ret;have a3:=(D.j.bQ (i:=1) (j:=0) rfl (.slice (some ⟨I,0,none⟩) (s.a0.length+1) H)).bo;rw[C.j,Y2 M];exact⟨rfl,.slice (some ⟨I,0,none⟩) (s.a0.length+1) H,by simpa using a3⟩
end
section
variable {w j : World} {d : Nat} {s : eQ} {g h f e : Value} {R : List Th}
def Bn(w:World)(a:TypeId)(c:ByteArray):ai [] w (Lib.bytesWorld w a c):=by
 have b:=((ah [] w).a9).G (.cells (Lib.bytesCells w a c) a);refine⟨b.os,b.d9,b.d8,by rw[Lib.bytesWorld_size];omega,λe d _=>Lib.bytesWorld_at_old w a c e d⟩
def oN(a:List UInt8)(b c:Int):List UInt8:=if a=[]then []else a.set (eM b a.length) (UInt8.ofNat (c % 256).toNat)
def Rj(J:aR (wL d s g h f e R) j w)(k:cV)(O:it k)(a3:k.H=2)(c2:s.a0.length<=100000)(N:eF s k.a=[]):Calls prog 24 #[.pointer (some ⟨d,0,none⟩),.agg (cA k)] w λM b4=>M=.returned (.bool true)/\∃b3,aR (wL d { s with a0:=s.a0++[[]] } b3 h f e R) j b4:=by
 have n:=Z (J.G (.cells (cA k) 27));obtain⟨gT,m,rfl⟩:=bY (J.b9 (i:=1) (a:=bE g s.a0) rfl);obtain⟨-,D,b8,-⟩:=O;have b7:(k.H==1)=false:=by rw[a3];rfl
 have v:=Z (qv (w:=w.alloc (.cells (cA k) 27)) (s:=s) (n.j.b8 (i:=1) (R:=d) rfl) (n.j.b9 (i:=2) (a:=bE (.slice gT s.a0.length m) s.a0) rfl) k.a D.1 D.2 (by omega));rw[N]at v;obtain⟨a7,a8,a9,b0,b1⟩:=info_parts pO;have b2:(Value.string ⟨#[]⟩).cells.size=1:=rfl;go_in;go_wp2_with fail;refine v.j.mono ?_;rintro b6 b ⟨rfl,a6⟩;have q:=Z (n.j.O a6);generalize w.heap.size=L at *
 obtain⟨c3,c4,c5,c6,c7,c8,of,c9⟩:=dY (q.j.b8 (i:=0) (R:=L) rfl);have a0:=Lib.run_convert_string_bytes (P:=prog) b 9 97 5 ⟨#[]⟩ (u:=.string) (by kernel_rfl) (by kernel_rfl) (by kernel_rfl);have S:=run_convert_bytes_back (Lib.bytesWorld b 5 ⟨#[]⟩) 97 9 5 ⟨b.heap.size,0,none⟩ (grownCap b 0 0 5) [] underlying97 underlying5 underlying9 (λa5 a2=>by simp at a2);have o:=Z (q.j.O (Bn b 5 ⟨#[]⟩));generalize a1:grownCap b 0 0 5=C at *
 generalize b9:Lib.bytesWorld b 5 ⟨#[]⟩=c at *
 have c1:(convert 9 97 (.string ⟨#[]⟩)).run prog b=.ok (.slice (some ⟨b.heap.size,0,none⟩) 0 C) c:=by rw[<-a1];exact a0
 have c0:(convert 97 9 (.slice (some ⟨b.heap.size,0,none⟩) 0 C)).run prog c=.ok (.string ⟨#[]⟩) c:=S;have l:=o.j.b8 (i:=1) (R:=d) rfl;have x:c.cell? ⟨d,0,none⟩=some (.slice gT s.a0.length m):=aS l rfl;have y:=cG l;have z:=aj l;have H:U (∀p,(c.alloc p).ownsRow 0 9 1 (.slice gT s.a0.length m) s.a0.length (s.a0.map λs=>Value.string ⟨s.toArray⟩)):=Z (λp=>aY (o.j.b9 (i:=2) (a:=bE (.slice gT s.a0.length m) s.a0) rfl) ((ah [] c).G p) (by simp));have G:s.a0.length+1<=maxLen:=by unfold maxLen;omega
 go_wp2_with (at_builtin;(refine wpList_append_lies _ (by rfl) _ _ _ (by rfl) 0 9 a7 _ 1 16 underlying30 a8 a9 b0 b1 b2 (by omega) (.slice gT s.a0.length m) s.a0.length (s.a0.map λs=>Value.string ⟨s.toArray⟩) (by rfl) (H.j _) ⟨c.heap.size,0,none⟩ 1 1 [.string ⟨(([]:List UInt8)).toArray⟩] (by rfl) (by rfl) (World.news_of_block (cs:=#[.string ⟨(([]:List UInt8)).toArray⟩]) (t:=9) (fr:=(0,0)) (heap_alloc_new c _)) (by simp[Value.oneCell']) (by omega) G (by omega) (by simp) (c.heap.size+1) (by simp) ?_;intro B A b5 I F E a4;have r:=Z (o.j.h8 (i:=2) rfl ((ah [] c).G _) I F E (by simp));clear I F E a4 H G x y z;have l:=r.j.b8 (i:=1) (R:=d) rfl;have x:b5.cell? ⟨d,0,none⟩=some (.slice gT s.a0.length m):=aS l rfl;have y:=cG l;have z:=aj l;clear l));go_wp2;go_ret;have K:=(r.j.bQ (i:=1) (j:=0) rfl (.slice (some ⟨B,0,none⟩) (s.a0.length+1) A)).bo;exact⟨rfl,.slice (some ⟨B,0,none⟩) (s.a0.length+1) A,by simpa using K⟩
def Rk(c0:aR (wL d s g h f e R) j w)(n:cV)(c9:it n)(d2:n.H=2)(g1:s.a0.length<=100000){k:List UInt8}(d7:eF s n.a=k)(a8:k≠[])(d8:k.length<=1000000):Calls prog 24 #[.pointer (some ⟨d,0,none⟩),.agg (cA n)] w λa5 C=>a5=.returned (.bool true)/\∃f1,aR (wL d { s with a0:=s.a0++[oN k n.b n.c] } f1 h f e R) j C:=by
 have E:=Z (c0.G (.cells (cA n) 27));obtain⟨gT,A,rfl⟩:=bY (c0.b9 (i:=1) (a:=bE g s.a0) rfl);obtain⟨-,a9,b1,f5⟩:=c9;have f3:(n.H==1)=false:=by rw[d2];rfl
 have O:=Z (qv (w:=w.alloc (.cells (cA n) 27)) (s:=s) (E.j.b8 (i:=1) (R:=d) rfl) (E.j.b9 (i:=2) (a:=bE (.slice gT s.a0.length A) s.a0) rfl) n.a a9.1 a9.2 (by omega));rw[d7]at O;have b9:0<k.length:=YM.2 a8;have d3:eM n.b k.length<k.length:=qh n.b b9;have c8:=Z (vJ n.b k.length b1.1 b1.2 b9 d8);have c4:U (oN k n.b n.c=k.set (eM n.b k.length) (UInt8.ofNat (n.c % 256).toNat)):=Z (by unfold oN;rw[Y2 a8]);have f9:(0:Int)<=↑(eM n.b k.length):=by omega
 have g0:(↑(eM n.b k.length):Int) < ↑k.length:=by omega
 have f8:(0:Int) < ↑k.length:=by omega
 generalize eM n.b k.length=o at *
 obtain⟨e5,e6,e7,e8,e9⟩:=info_parts pO;have f0:(Value.string ⟨#[]⟩).cells.size=1:=rfl;go_in;go_wp2_with fail;refine O.j.mono ?_;rintro a4 l ⟨rfl,d9⟩;have F:=Z (E.j.O d9);generalize w.heap.size=B at *
 obtain⟨e0,e1,e2,c1,c2,e3,of,e4⟩:=dY (F.j.b8 (i:=0) (R:=B) rfl);have f7:(convert 9 97 (.string ⟨k.toArray⟩)).run prog l=.ok (.slice (some ⟨l.heap.size,0,none⟩) k.length (grownCap l k.length 0 5)) (Lib.bytesWorld l 5 ⟨k.toArray⟩):=Lib.run_convert_string_bytes (P:=prog) l 9 97 5 ⟨k.toArray⟩ (u:=.string) (by kernel_rfl) (by kernel_rfl) (by kernel_rfl);have D:=Z (Bn l 5 ⟨k.toArray⟩);have M:U (∀m,m<k.length->(Lib.bytesWorld l 5 ⟨k.toArray⟩).cell? ⟨l.heap.size,m,none⟩=some (.int .u8 (k.getD m 0).toNat)):=Z (λm x=>Lib.bytesWorld_cell l 5 ⟨k.toArray⟩ m x);have g3:=oi c1 D.j;have g4:=oi c2 D.j;have a3:=M.j o d3;have f4:(Lib.bytesWorld l 5 ⟨k.toArray⟩).frozen? ⟨l.heap.size,o,none⟩=false:=by
  have b6:=Lib.bytesWorld_at_new l 5 ⟨k.toArray⟩;have g2:o<(Lib.bytesCells l 5 ⟨k.toArray⟩).size:=by
   rcases Yj o (Lib.bytesCells l 5 ⟨k.toArray⟩).size with q|q
   .exact q
   .simp[World.cell?,b6,YO q]at a3
  simp[World.frozen?,b6];omega
 generalize grownCap l k.length 0 5=a7 at *
 generalize Lib.bytesWorld l 5 ⟨k.toArray⟩=z at *
 obtain⟨e0,e1,e2,c1,c2,e3,of,e4⟩:=dY (F.j.b8 (i:=0) (R:=B) rfl);go_wp2;refine cS (λC=>C.cell? ⟨B,3,none⟩=some (.int .i64 n.b)/\C.cell? ⟨B,4,none⟩=some (.int .i64 n.c)) (L:=10) (by kernel_rfl) rfl (by kernel_rfl) (by kernel_rfl) ?_ (λd0=>?_)
 .go_keep
 refine bI [0,1,2,3,4,6,7,8] ?_;iterate 8 (refine bP (v:=?_) rfl (by kernel_rfl) (λ_ _ _ H=>H) (by kernel_rfl) (by assumption) ?_ ?_;rotate_left;focus (intro w K;(try dsimp only at K);go_simp;(try with_reducible rfl));(try simp only[aL,aM,List.set]))
 refine bJ ?_;refine ck 5 (by kernel_rfl) rfl λc5 J=>?_;(go_simp;refine(c8.j _).mono ?_;rintro a5 g5 ⟨rfl,rfl⟩);refine J.out _ _ ?_ (λd0=>?_)
 .go_keep
 (try simp only[aL,aM,List.set]);refine tk (i:=9) (v:=?_) rfl (by kernel_rfl) (λ_ _ _ H=>H) (by kernel_rfl) (by assumption) ?_ ?_;rotate_left
 .intro w K;(try dsimp only at K);go_simp;(try with_reducible rfl)
 (try simp only[aL,aM,List.set]);refine cQ (by kernel_rfl) rfl λc5 J=>?_;go_simp;refine J.out _ _ ?_;(try simp only[aL,aM,List.set]);have d6:IntKind.wrap .u8 n.c=((UInt8.ofNat (n.c % 256).toNat).toNat:Int):=by
  rw[IntKind.wrap_u8];have q:(n.c % 256).toNat<256:=by omega
  simp;omega
 rw[d6];generalize UInt8.ofNat (n.c % 256).toNat=v at *
 have d5:∀m,m<k.length->((z.setCell ⟨l.heap.size,o,none⟩ (.int .u8 (v.toNat:Int))).drew).cell? ⟨l.heap.size,m,none⟩=some (.int .u8 ((k.set o v).getD m 0).toNat):=by
  intro m x;by_cases b3:m=o
  .subst b3;have q:(z.setCell ⟨l.heap.size,m,none⟩ (.int .u8 (v.toNat:Int))).cell? ⟨l.heap.size,m,none⟩=some (.int .u8 (v.toNat:Int)):=World.cell?_setCell_same _ _ _ a3;have I:(k.set m v).getD m 0=v:=by simp[x]
   rw[I];exact q
  .have b4:¬o=m:=λa4=>b3 a4.symm;have q:(z.setCell ⟨l.heap.size,o,none⟩ (.int .u8 (v.toNat:Int))).cell? ⟨l.heap.size,m,none⟩=z.cell? ⟨l.heap.size,m,none⟩:=World.cell?_setCell_other _ _ _ _ (by simp[b4]);have I:(k.set o v).getD m 0=k.getD m 0:=by simp[b4]
   rw[I];exact q.trans (M.j m x)
 have c6:ai [] l (z.setCell ⟨l.heap.size,o,none⟩ (.int .u8 (v.toNat:Int))).drew:=(lm D.j ((ah [l.heap.size] z).a6 (p:=⟨l.heap.size,o,none⟩) (by simp) _) (by simp)).a9;have G:=Z (F.j.O c6);generalize (z.setCell ⟨l.heap.size,o,none⟩ (.int .u8 (v.toNat:Int))).drew=r at *
 have f6:(convert 97 9 (.slice (some ⟨l.heap.size,0,none⟩) k.length a7)).run prog r=.ok (.string ⟨(k.set o v).toArray⟩) r:=by
  have q:=run_convert_bytes_back r 97 9 5 ⟨l.heap.size,0,none⟩ a7 (k.set o v) underlying97 underlying5 underlying9 (λm x=>by
   have d1:(⟨l.heap.size,0,none⟩:Addr).add m=⟨l.heap.size,m,none⟩:=by unfold Addr.add;split<;>simp_all
   rw[d1,d5 m (by simpa using x)];simp at x;simp[x])
  rw[YF]at q;exact q
 generalize k.set o v=c3 at *
 have y:=G.j.b8 (i:=1) (R:=d) rfl;have S:r.cell? ⟨d,0,none⟩=some (.slice gT s.a0.length A):=aS y rfl;have a0:=cG y;have a1:=aj y;have b7:U (∀k,(r.alloc k).ownsRow 0 9 1 (.slice gT s.a0.length A) s.a0.length (s.a0.map λs=>Value.string ⟨s.toArray⟩)):=Z (λk=>aY (G.j.b9 (i:=2) (a:=bE (.slice gT s.a0.length A) s.a0) rfl) ((ah [] r).G k) (by simp));have b5:s.a0.length+1<=maxLen:=by unfold maxLen;omega
 go_wp2_with (at_builtin;(refine wpList_append_lies _ (by rfl) _ _ _ (by rfl) 0 9 e5 _ 1 16 underlying30 e6 e7 e8 e9 f0 (by omega) (.slice gT s.a0.length A) s.a0.length (s.a0.map λs=>Value.string ⟨s.toArray⟩) (by rfl) (b7.j _) ⟨r.heap.size,0,none⟩ 1 1 [.string ⟨(c3).toArray⟩] (by rfl) (by rfl) (World.news_of_block (cs:=#[.string ⟨(c3).toArray⟩]) (t:=9) (fr:=(0,0)) (heap_alloc_new r _)) (by simp[Value.oneCell']) (by omega) b5 (by omega) (by simp) (r.heap.size+1) (by simp) ?_;intro a6 a2 f2 b8 b2 b0 d4;have N:=Z (G.j.h8 (i:=2) rfl ((ah [] r).G _) b8 b2 b0 (by simp));clear b8 b2 b0 d4 b7 b5 S a0 a1;have y:=N.j.b8 (i:=1) (R:=d) rfl;have S:f2.cell? ⟨d,0,none⟩=some (.slice gT s.a0.length A):=aS y rfl;have a0:=cG y;have a1:=aj y;clear y));go_wp2;go_ret;have c7:=(N.j.bQ (i:=1) (j:=0) rfl (.slice (some ⟨a6,0,none⟩) (s.a0.length+1) a2)).bo;rw[c4.j];exact⟨rfl,.slice (some ⟨a6,0,none⟩) (s.a0.length+1) a2,by simpa using c7⟩
end
section
variable {f l : World} {e : Nat} {d : eQ} {m k h g : Value} {R : List Th}
def mD(d:eQ)(e:cV):Option eQ:=
 if e.H=1 then some { d with a0:=d.a0++[e.s] }
 else if e.H=2 then some { d with a0:=d.a0++[oN (eF d e.a) e.b e.c] }
 else if e.H=3 then some (uT d e)
 else none
def qN(d:eQ)(e:Nat)(k h g:Value)(R:List Th)(l:World)(f:Option eQ)(b:Ending)(c:World):Prop:=match f with
 |some i=>b=.returned (.bool true)/\∃a,aR (wL e i a k h g R) l c
 |none=>b=.returned (.bool false)/\∃a,aR (wL e d a k h g R) l c
def QV(e:∀f∈d.a0,f.length<=1000000)(a:Int):(eF d a).length<=1000000:=by
 unfold eF;split
 .simp
 .rename_i b;have c:=qh a (YM.2 b);exact e _ (by simp[c])
def Rf(n:aR (wL e d m k h g R) l f)(i:cV)(r:it i)(q:d.a0.length<=100000)(t:∀v∈d.a0,v.length<=1000000):Calls prog 24 #[.pointer (some ⟨e,0,none⟩),.agg (cA i)] f (qN d e k h g R l (mD d i)):=by
 unfold mD;by_cases o:i.H=1
 .rw[Y9 o];exact Ri n i o q
 .rw[Y2 o];by_cases j:i.H=2
  .rw[Y9 j];by_cases s:eF d i.a=[]
   .have:oN (eF d i.a) i.b i.c=[]:=by unfold oN;rw[Y9 s]
    rw[this];exact Rj n i r j q s
   .exact Rk n i r j q rfl s (QV t i.a)
  .rw[Y2 j];by_cases p:i.H=3
   .rw[Y9 p];exact Rg n i r p q t
   .rw[Y2 p];refine(Rh n i o j p).mono ?_;rintro w x ⟨rfl,u⟩;exact⟨rfl,m,u⟩
def Mv(q:aR (wL e d m k h g R) l f)(n:cV)(p:n.H=7):Calls prog 14 #[.pointer (some ⟨e,0,none⟩),.agg (cA n)] f λt u=>t=.returned (.bool true)/\aR (wL e { d with a:=n.a,b:=n.b,c:=n.c } m k h g R) l u:=by
 have r:=Z q;have o:=q.b8 (i:=0) (R:=e) rfl;have v:f.cell? ⟨e,3,none⟩=some (.int .i64 d.a):=aS o rfl;have w:f.cell? ⟨e,4,none⟩=some (.int .i64 d.b):=aS o rfl;have x:f.cell? ⟨e,5,none⟩=some (.int .i64 d.c):=aS o rfl;have y:=cG o;have z:=aj o;have A:(n.H==4)=false:=by rw[p];rfl
 have B:(n.H==5)=false:=by rw[p];rfl
 have C:(n.H==6)=false:=by rw[p];rfl
 go_in;go_wp2;go_ret;have s:=((((r.j.bQ (i:=0) (j:=3) rfl (.int .i64 n.a)).bQ (i:=0) (j:=4) rfl (.int .i64 n.b)).bQ (i:=0) (j:=5) rfl (.int .i64 n.c)).G (.cells (cA n) 27)).bo;exact⟨rfl,s⟩
def Mw(n:aR (wL e d m k h g R) l f)(a:cV)(b:a.H=8):Calls prog 14 #[.pointer (some ⟨e,0,none⟩),.agg (cA a)] f λq r=>q=.returned (.bool true)/\aR (wL e { d with ca:=a.s } m k h g R) l r:=by
 have o:=Z n;have c:=n.b8 (i:=0) (R:=e) rfl;have s:f.cell? ⟨e,2,none⟩=some (.string ⟨d.ca.toArray⟩):=aS c rfl;have t:=cG c;have u:=aj c;have v:(a.H==4)=false:=by rw[b];rfl
 have w:(a.H==5)=false:=by rw[b];rfl
 have x:(a.H==6)=false:=by rw[b];rfl
 have y:(a.H==7)=false:=by rw[b];rfl
 go_in;go_wp2;go_ret;have p:=((o.j.bQ (i:=0) (j:=2) rfl (.string ⟨a.s.toArray⟩)).G (.cells (cA a) 27)).bo;exact⟨rfl,p⟩
end
section
variable {c g : World} {a : Nat} {b : eQ} {h f e d : Value} {R : List Th}
def My(n:aR (wL a b h f e d R) g c)(k:cV)(m:k.H=6):Calls prog 14 #[.pointer (some ⟨a,0,none⟩),.agg (cA k)] c λr t=>r=.returned (.bool true)/\aR (wL a { b with a7:=[] } h (.slice none 0 0) e d R) g t:=by
 have o:=Z n;have l:=n.b8 (i:=0) (R:=a) rfl;have u:c.cell? ⟨a,1,none⟩=some f:=aS l rfl;have v:=cG l;have w:=aj l;have x:(k.H==4)=false:=by rw[m];rfl
 have y:(k.H==5)=false:=by rw[m];rfl
 go_in;go_wp2;go_ret;have p:=((o.j.bQ (i:=0) (j:=1) rfl (.slice none 0 0)).G (.cells (cA k) 27)).bo;have q:=p.b6 (i:=2) (a':=iH (.slice none 0 0) []) rfl (ah [] _) (by simp) ⟨rfl,Y8 ⟨rfl,rfl⟩⟩ (λz s=>by simp[Th.ch,Value.ownBlock]at s);exact⟨rfl,q⟩
def MA(x:aR (wL a b h f e d R) g c)(i:cV)(s:it i)(v:b.a0.length<=100000)(w:∀y∈b.a0,y.length<=1000000)(p:i.H≠4)(q:i.H≠5)(r:i.H≠6)(t:i.H≠7)(u:i.H≠8):Calls prog 14 #[.pointer (some ⟨a,0,none⟩),.agg (cA i)] c (qN b a f e d R g (mD b i)):=by
 have o:=Z (Rf ((x.G (.cells (cA i) 27)).bo) i s v w);have z:(i.H==4)=false:=by simpa using p
 have A:(i.H==5)=false:=by simpa using q
 have B:(i.H==6)=false:=by simpa using r
 have C:(i.H==7)=false:=by simpa using t
 have D:(i.H==8)=false:=by simpa using u
 go_in;go_wp2_with fail;refine o.j.mono ?_;intro E G j;unfold qN at j;cases k:mD b i with
 |some F=>
  rw[k]at j;obtain⟨rfl,n⟩:=j;have l:=Z n;have m:=Z k;go_wp2;go_ret;unfold qN;rw[m.j];exact⟨rfl,l.j⟩
 |none=>
  rw[k]at j;obtain⟨rfl,n⟩:=j;have l:=Z n;have m:=Z k;go_wp2;go_ret;unfold qN;rw[m.j];exact⟨rfl,l.j⟩
end
section
variable {w l : World} {e : Nat} {d : eQ} {h k g f : Value} {R : List Th}
def Bg:(prog.info? 52).map (λa=>(a.zero,a.size,a.bytes))=some (some (.agg #[.int .i64 0,.int .i64 0,.string ⟨#[]⟩,.int .i64 0,.int .i64 0]),5,48):=by kernel_rfl
def Mx(A:aR (wL e d h k g f R) l w)(m:cV)(b7:m.H=4)(b8:d.a7.length<=100000):Calls prog 14 #[.pointer (some ⟨e,0,none⟩),.agg (cA m)] w λM q=>M=.returned (.bool true)/\∃a7,aR (wL e { d with a7:=d.a7++[⟨m.a,m.b,m.s,0,m.c⟩] } h a7 g f R) l q:=by
 have u:=Z (A.G (.cells (cA m) 27));obtain⟨gT,p,rfl⟩:=bY (A.b9 (i:=2) (a:=iH k d.a7) rfl);obtain⟨a6,N,a2,a3,a4⟩:=info_parts Bg;have O:d.a7.length+1<=maxLen:=by unfold maxLen;omega
 have P:(d.a7.length+1)*48<=140737488355328:=by omega
 have a5:(Value.agg #[.int .i64 0,.int .i64 0,.string ⟨#[]⟩,.int .i64 0,.int .i64 0]).cells.size=5:=by decide
 have a0:∀o∈gX ⟨m.a,m.b,m.s,0,m.c⟩,o.oneCell'=true:=by
  intro o J;simp[gX]at J;rcases J with rfl|rfl|rfl|rfl|rfl<;>rfl
 have n:=A.b8 (i:=0) (R:=e) rfl;have b0:w.cell? ⟨e,1,none⟩=some (.slice gT d.a7.length p):=aS n rfl;have b1:=cG n;have b2:=aj n;go_in;go_wp2;generalize b6:w.heap.size=r at *
 generalize w.alloc (.cells (cA m) 27)=o at *
 obtain⟨b9,c0,c1,c2,c3,c4,of,c5⟩:=dY (u.j.b8 (i:=0) (R:=r) rfl);have n:=u.j.b8 (i:=1) (R:=e) rfl;have b3:o.cell? ⟨e,1,none⟩=some (.slice gT d.a7.length p):=aS n rfl;have b4:=cG n;have b5:=aj n;have a1:U (o.ownsRow 0 52 5 (.slice gT d.a7.length p) d.a7.length (d.a7.flatMap gX)):=Z (u.j.b9 (i:=3) (a:=iH (.slice gT d.a7.length p) d.a7) rfl);have B:=Z (λa9=>(((ah [] o).G a9).a9));refine cS (λq=>q.cell? ⟨e,1,none⟩=some (.slice gT d.a7.length p)/\q.cell? ⟨r,2,none⟩=some (.int .i64 m.a)/\q.cell? ⟨r,3,none⟩=some (.int .i64 m.b)/\q.cell? ⟨r,4,none⟩=some (.int .i64 m.c)/\q.cell? ⟨r,5,none⟩=some (.string ⟨m.s.toArray⟩)) (L:=18) (by kernel_rfl) rfl (by kernel_rfl) (by kernel_rfl) ?_ (λF=>?_)
 .go_keep
 refine bI [0,1,2,3,4,5,6,7,8,9,10,11,12,13] ?_;iterate 14 (refine bP (v:=?_) rfl (by kernel_rfl) (λ_ _ _ y=>y) (by kernel_rfl) (by assumption) ?_ ?_;rotate_left;focus (intro w z;(try dsimp only at z);go_simp;(try with_reducible rfl));(try simp only[aL,aM,List.set]))
 refine bJ ?_;refine ck 14 (by kernel_rfl) rfl λC s=>?_;go_simp;refine s.out _ _ ?_ (λF=>?_)
 .go_keep
 (try simp only[aL,aM,List.set]);refine ck 15 (by kernel_rfl) rfl λC s=>?_;(refine step_append_lies _ (by rfl) _ _ _ (by rfl) 0 52 a6 _ 5 48 underlying31 N a2 a3 a4 a5 (by omega) (.slice gT d.a7.length p) d.a7.length (d.a7.flatMap gX) (by rfl) (aY a1.j (B.j _) (by simp)) ⟨o.heap.size,0,none⟩ 1 1 (gX ⟨m.a,m.b,m.s,0,m.c⟩) (by rfl) (by rfl) (World.news_of_block (cs:=(gX ⟨m.a,m.b,m.s,0,m.c⟩).toArray) (t:=52) (fr:=(0,0)) (aK (w:=o) (by simp))) a0 (by omega) O P (by omega) (o.heap.size+1) (by simp) ?_;intro E D a8 I H G S;have x:=Z (u.j.bZ (i:=3) rfl (B.j _) I H G (by simp));obtain⟨c9,d0,d1,d2,d3,d4,d5,d6⟩:=dY (x.j.b8 (i:=0) (R:=r) rfl);have n:=x.j.b8 (i:=1) (R:=e) rfl;have c6:a8.cell? ⟨e,1,none⟩=some (.slice gT d.a7.length p):=aS n rfl;have c7:=cG n;have c8:=aj n;clear I H G S n);refine s.out _ _ ?_ (λF=>?_)
 .go_keep
 (try simp only[aL,aM,List.set]);refine bI [16,17] ?_;iterate 2 (refine bP (v:=?_) rfl (by kernel_rfl) (λ_ _ _ y=>y) (by kernel_rfl) (by assumption) ?_ ?_;rotate_left;focus (intro w z;(try dsimp only at z);go_simp;(try with_reducible rfl));(try simp only[aL,aM,List.set]))
 refine bJ ?_;refine cQ (by kernel_rfl) rfl λC s=>?_;go_simp;refine s.out _ _ ?_;(try simp only[aL,aM,List.set]);go_wp2;go_ret;have K:=(x.j.bQ (i:=1) (j:=1) rfl (.slice (some ⟨E,0,none⟩) (d.a7.length+1) D)).bo;exact⟨rfl,.slice (some ⟨E,0,none⟩) (d.a7.length+1) D,by simpa[wL,iH]using K⟩
end
section
variable {e j : World} {c : Nat} {b : eQ} {h d g f : Value} {R : List Th}
def Mu(l:aR (wL c b h d g f R) j e)(k:cV)(s:k.H=5)(r:b.a7=[]):Calls prog 14 #[.pointer (some ⟨c,0,none⟩),.agg (cA k)] e λq u=>q=.returned (.bool true)/\aR (wL c b h d g f R) j u:=by
 have n:=Z (l.G (.cells (cA k) 27));obtain⟨gT,p,rfl⟩:=bY (l.b9 (i:=2) (a:=iH d b.a7) rfl);have m:=l.b8 (i:=0) (R:=c) rfl;have o:e.cell? ⟨c,1,none⟩=some (.slice gT b.a7.length p):=aS m rfl;have t:b.a7.length=0:=by rw[r];rfl
 rw[t]at o;have v:=cG m;have w:=aj m;have x:(k.H==4)=false:=by rw[s];rfl
 go_in;go_wp2;go_ret;exact⟨rfl,n.j.bo⟩
end
section
variable {b c : World} {d : Nat} {f : eQ} {h j g e : Value} {R : List Th}
def aR.k4{h:Th}{f:List Th}(j:aR (h::f) c b):aR (f++[h]) c b:=by
 refine⟨j.fr,λd a=>j.w d (by simp at a ⊢;exact a.symm),λd a=>j.aQ d (by simp at a ⊢;exact a.symm),?_⟩;intro e t d k y a q v r s;have m:∀(e:Nat) (d:Th),(f++[h])[e]? = some d->∃g,(h::f)[g]? = some d/\((e<f.length/\g=e+1)\/(e=f.length/\g=0)):=by
  intro e d a;rcases Yj e f.length with i|i
  .rw[Ys i]at a;exact⟨e+1,by simpa using a,Y8 ⟨i,rfl⟩⟩
  .rw[Yw i]at a;match l:e-f.length with
   |0=>rw[l]at a;exact⟨0,by simpa using a,Ya ⟨by omega,rfl⟩⟩
   |n+1=>rw[l]at a;simp at a
 obtain⟨g,o,w⟩:=m e d a;obtain⟨u,p,x⟩:=m t k q;exact j.c8 g u d k (by omega) o p v r s
def FE{g:Th}{L:List Th}(f:aR (L++[g]) c b):aR L c b:=by
 have i:∀(d:Nat) (a:Th),L[d]? = some a->(L++[g])[d]? = some a:=λd a j=>by
  rw[Ys (YB.1 j).1];exact j
 exact⟨f.fr,λa e=>f.w a (Yf _ e),λa e=>f.aQ a (Yf _ e),λd k a h m e l=>f.c8 d k a h m (i d a e) (i k h l)⟩
def aR.cons{a:Th}{m:List Th}{p:World}(j:aR m c b)(h:ai [] b p)(v:a.At p)(n:∀g,a.ch=some g->b.heap.size<=g):aR (a::m) c p:=by
 have t:∀(f:Nat) (e:Th),m[f]? = some e->∀g,e.ch=some g->g<b.heap.size:=λf e u g w=>(j.w e (Yh u)).lt _ w;refine⟨j.fr.u h,?_,?_,?_⟩
 .intro e d;rcases Yg.1 d with rfl|d
  .exact v
  .exact(j.w e d).O h (by simp)
 .intro e d q s;rcases Yg.1 d with rfl|d
  .exact Yz j.fr.a2 (n q s)
  .exact j.aQ e d q s
 .intro f i e r x d k l h o;cases f with
  |zero=>
   cases i with
   |zero=>exact x rfl
   |succ i=>
    simp at d k;subst d;have:=t i r k l o;have:=n l h;omega
  |succ f=>
   cases i with
   |zero=>
    simp at d k;subst k;have:=t f e d l h;have:=n l o;omega
   |succ i=>exact j.c8 f i e r (by omega) (by simpa using d) (by simpa using k) l h o
def aR.cv{h:Th}{g:List Th}(k:aR (h::g) c b)(i:Nat):aR (g.set i h) c b:=by
 have o:∀a,a∈g.set i h->a∈h::g:=λa f=>by
  rcases List.mem_or_eq_of_mem_set f with d|d
  .exact Y5 _ d
  .exact d▸Yb
 have n:∀(e:Nat) (a:Th),(g.set i h)[e]? = some a->∃j,(h::g)[j]? = some a/\((e=i/\j=0)\/(e≠i/\j=e+1)):=by
  intro e a d;rw[YP]at d;by_cases l:i=e
  .subst l;rw[Y9 rfl]at d;split at d
   .exact⟨0,by simpa using d,Y8 ⟨rfl,rfl⟩⟩
   .cases d
  .rw[Y2 l]at d;exact⟨e+1,by simpa using d,Ya ⟨λp=>l p.symm,rfl⟩⟩
 refine⟨k.fr,λa f=>k.w a (o a f),λa f=>k.aQ a (o a f),?_⟩;intro e w a m A f t q u v;obtain⟨j,r,y⟩:=n e a f;obtain⟨x,s,z⟩:=n w m t;exact k.c8 j x a m (by omega) r s q u v
def aR.aD(i:aR (wL d f h j g e R) c b)(a:Obj):aR (wL d f h j g e (R++[.obj b.heap.size a])) c (b.alloc a):=(i.G a).k4
def aR.ks{a:Th}(i:aR (wL d f h j g e (R++[a])) c b):aR (wL d f h j g e R) c b:=FE (L:=wL d f h j g e R) i
def aR.j8{a:Nat}{i:Obj}(k:aR (wL d f h j g e (R++[.obj a i])) c b):b.heap[a]? = some i:=k.w (.obj a i) (by simp)
end
section
variable {e f : World} {v : Value} {d : List cV}
def sw(e:World)(d f:Nat)(g:cV):Prop:=e.cell? ⟨d,f,none⟩=some (.int .i64 g.H)/\e.cell? ⟨d,f+1,none⟩=some (.int .i64 g.x)/\e.cell? ⟨d,f+2,none⟩=some (.int .i64 g.a)/\e.cell? ⟨d,f+3,none⟩=some (.int .i64 g.b)/\e.cell? ⟨d,f+4,none⟩=some (.int .i64 g.c)/\e.cell? ⟨d,f+5,none⟩=some (.string ⟨g.s.toArray⟩)
def lS(e:World)(v:Value)(d:List cV):Prop:=∃ad a,v=.slice ad d.length a/\d.length<=a/\a<=maxLen/\∀c g,d[c]? = some g->∃b f,ad=some ⟨b,f,none⟩/\sw e b (f+c*6) g
def sw.O{b g:Nat}{h:cV}(i:sw e b g h)(j:ai [] e f):sw f b g h:=by
 obtain⟨d,k,l,m,n,o⟩:=i;have a:∀c,f.cell? ⟨b,c,none⟩=e.cell? ⟨b,c,none⟩:=λc=>World.cell?_of_block (j.K b (lq d) (by simp));exact⟨(a _).trans d,(a _).trans k,(a _).trans l,(a _).trans m,(a _).trans n,(a _).trans o⟩
def lS.O(c:lS e v d)(o:ai [] e f):lS f v d:=by
 obtain⟨ad,a,g,h,i,j⟩:=c;refine⟨ad,a,g,h,i,λn q m=>?_⟩;obtain⟨b,p,k,l⟩:=j n q m;exact⟨b,p,k,l.O o⟩
def lM(d:List cV):Nat:=(d.map (·.s.length)).sum
def QD{a:Nat}(b:a<d.length):lM (d.take (a+1))=lM (d.take a)+d[a].s.length:=by
 unfold lM;rw[Yt b,List.map_append,List.sum_append];simp only[List.map_cons,List.map_nil,List.sum_cons,List.sum_nil,Nat.add_zero]
def QC(d:List cV)(a:Nat):lM (d.take a)<=lM d:=by
 conv=>rhs;rw[<-List.take_append_drop a d]
 unfold lM;rw[List.map_append,List.sum_append];omega
def Kq:∀(d:List cV),∀b∈d,b.s.length<=lM d:=by
 intro d;induction d with
 |nil=>intro b a;simp at a
 |cons e d c=>
  intro b a;unfold lM at *
  rcases Yg.1 a with rfl|a
  .simp
  .have:=c b a;simp;omega
def my(d:List cV):Bool:=decide (d.length+lM d<=16384)
def PD(t:lS e v d)(C:∀m∈d,m.s.length<=1000000000000000000):Calls prog 11 #[v] e λr f=>r=.returned (.bool (my d))/\f=e:=by
 obtain⟨ad,H,rfl,a1,M,B⟩:=t;have p:=Z B;have q:=Z C;by_cases z:d.length<=16384
 .have A:¬(16384:Int) < ↑d.length:=by omega
  go_in;go_wp2;go_loopw [3,4] (λF j G=>∃a b:Nat,j=.int .i64 a/\a<=d.length/\F=.int .i64 b/\b<=16384/\U (b=d.length+lM (d.take a))/\G=e) (λ_ j _=>d.length-(intOf j).toNat)
  case atStart=>exact⟨0,d.length,rfl,by omega,rfl,z,by show _=_;simp[lM],rfl⟩
  case round=>
   obtain⟨a,b,rfl,P,rfl,a0,i,rfl⟩:=hrel;rcases Yj a d.length with h|N
   .obtain⟨I,m,rfl,u⟩:=p.j a d[a] (Yd h);obtain⟨-,-,-,-,-,a3⟩:=u;have R:(0:Int)<=(a:Int):=by omega
    have S:(a:Int)<(d.length:Int):=by omega
    have L:=q.j d[a] (Yy h);have k:=Z (QD h);have o:=Z (QC d (a+1));generalize d[a]=n at *
    generalize E:n.s.length=c at *
    have a2:n.s.toArray.size=c:=by simpa using E
    by_cases w:b+c<=16384
    .have x:¬(16384:Int) < ↑b+↑c:=by omega
     have D:IntKind.i64.wrap ((b:Int)+(c:Int))=(b:Int)+(c:Int):=by rw[IntKind.wrap_i64];omega
     go_wp2;exact⟨⟨a+1,b+c,by go_num,h,by go_num,w,by show _=_;rw[k.j,i.j];omega,trivial⟩,by simp[intOf];omega⟩
    .have x:(16384:Int) < ↑b+↑c:=by omega
     have D:IntKind.i64.wrap ((b:Int)+(c:Int))=(b:Int)+(c:Int):=by rw[IntKind.wrap_i64];omega
     have g:U (my d=false):=by
      show _=_;have J:=k.j;have l:=i.j;have K:=o.j;unfold my;simp;omega
     go_wp2;go_ret;exact⟨by rw[g.j];rfl,rfl⟩
   .have y:a=d.length:=by omega
    subst y;have O:¬((d.length:Int)<(d.length:Int)):=by omega
    have g:U (my d=true):=by
     show _=_;have l:=i.j;rw[YG]at l;unfold my;simp;omega
    go_wp2;go_ret;exact⟨by rw[g.j];rfl,rfl⟩
 .have A:(16384:Int) < ↑d.length:=by omega
  have g:U (my d=false):=by
   show _=_;unfold my;simp;omega
  go_in;go_wp2;go_ret;exact⟨by rw[g.j];rfl,rfl⟩
end
section
variable {b c : World} {v : Value} {a : List cV}
abbrev zu:Obj:=.cells #[.slice none 0 0,.slice none 0 0,.string ⟨#[]⟩,.int .i64 0,.int .i64 0,.int .i64 0,.slice none 0 0,.slice none 0 0] 35
def RR(e:Nat->World->Prop)(n:lS b v a)(P:a.length<=16384)(x:e 0 (b.alloc zu))(p:∀f g,e f g->ai [] b g)(D:∀f g k,e f g->f<16384->k∈a->Calls prog 13 #[.pointer (some ⟨b.heap.size,0,none⟩),.agg (cA k)] g λm E=>m=.returned (.bool true)/\e (f+1) E) :
  Calls prog 12 #[v] b λw c=>w=.returned (.int .i64 (-1))/\ai [] b c:=by
 have s:=Z n;obtain⟨ad,H,rfl,R,K,-⟩:=n;have q:=Z x;have l:=Z p;have t:=Z D;go_in;go_wp2;go_loopw [4] (λj F=>∃d:Nat,j=.int .i64 d/\d<=a.length/\U (e d F)) (λj _=>a.length-(intOf j).toNat)
 case atStart=>exact⟨0,rfl,by omega,q⟩
 case round=>
  obtain⟨d,rfl,p,h⟩:=hrel;rcases Yj d a.length with i|L
  .have A:=s.j.O (l.j d wr h.j);obtain⟨G,I,o,-,-,C⟩:=A;simp only[Value.slice.injEq,true_and]at o;obtain⟨rfl,rfl⟩:=o;obtain⟨J,k,rfl,z⟩:=C d a[d] (Yd i);have u:=Z (t.j d wr a[d] h.j (by omega) (Yy i));obtain⟨S,a0,a1,a2,a3,a4⟩:=z;have N:(0:Int)<=(d:Int):=by omega
   have O:(d:Int)<(a.length:Int):=by omega
   generalize a[d]=a6 at *
   go_wp2_with fail;refine u.j.mono ?_;rintro m a5 ⟨rfl,y⟩;have r:=Z y;go_wp2;exact⟨⟨d+1,by go_num,i,r⟩,by simp[intOf];omega⟩
  .have B:d=a.length:=by omega
   subst B;have M:¬((a.length:Int)<(a.length:Int)):=by omega
   go_wp2;go_ret;exact⟨rfl,l.j _ _ h.j⟩
end
section
variable {w e : World} {v : Value} {d : List cV}
abbrev ke(d:cV):List Value:=[.int .i64 d.H,.int .i64 d.x,.int .i64 d.a,.int .i64 d.b,.int .i64 d.c,.string ⟨d.s.toArray⟩]
abbrev ze(v:Value)(d:List cV):Th:=.row 27 6 v d.length (d.flatMap ke)
def Jc:(prog.info? 27).map (λa=>(a.zero,a.size,a.bytes))=some (some (.agg #[.int .i64 0,.int .i64 0,.int .i64 0,.int .i64 0,.int .i64 0,.string ⟨#[]⟩]),6,56):=by kernel_rfl
def Mo{o:Nat}{n:TypeId}(c:w.ownsRow o n 6 v d.length (d.flatMap ke)):lS w v d:=by
 have z:=λy a h=>ry (f:=ke) (k:=6) (λ_=>rfl) d y a h;have q:=c;obtain⟨G,c⟩:=c;rcases c with⟨rfl,r⟩|⟨g,p,B,rfl,F,k,s,t,D,E⟩
 .have u:d=[]:=Yv.1 r;subst u;exact⟨none,0,rfl,by simp,by simp,λe m i=>by simp at i⟩
 .refine⟨some ⟨g,0,none⟩,p,rfl,s,t,λe m i=>⟨g,0,rfl,?_⟩⟩;have b:∀a,a<6->∀j,(ke m)[a]? = some j->w.cell? ⟨g,e*6+a,none⟩=some j:=λa h j x=>by
   obtain⟨C,A,l,k,_⟩:=kf q ((z e a h).trans (by rw[i];exact x));simp at l;obtain⟨rfl,_⟩:=l;exact k
  rw[Nat.zero_add];exact⟨b 0 (by omega) _ rfl,b 1 (by omega) _ rfl,b 2 (by omega) _ rfl,b 3 (by omega) _ rfl,b 4 (by omega) _ rfl,b 5 (by omega) _ rfl⟩
def tg(b:List Int)(a:Int):Bool:=decide (a<9)||b.contains a
def gg(a:List Int)(d:List cV):List cV:=d.filter λb=>tg a b.H
def ON(b:List Int){a:Nat}(e:a<d.length):gg b (d.take (a+1))=gg b (d.take a)++if tg b d[a].H then [d[a]]else []:=by
 unfold gg;rw[Yt e,List.filter_append];congr 1;by_cases c:tg b d[a].H<;>simp[c]
def CV(a:List Int)(d:List cV):(gg a d).length<=d.length:=List.length_filter_le _ _
def MI{kv:Value}{ks:List Int}(B:lS w v d)(c7:∀g∈d,g.s.length<=1000000000000000000)(N:pn w kv ks.length 1 λi=>.int .i64 (ks.getD i 0))(f4:ks.length<=1000)
  (c8:∀j S E,ai [] w j->lS j S E->E.length<=16384->(∀g∈E,g∈d/\(g.H<9\/g.H∈ks)/\g.s.length<=16384)->Calls prog 12 #[S] j λA d7=>A=.returned (.int .i64 (-1))/\ai [] j d7) :
  Calls prog 10 #[v,kv] w λA e=>A=.returned (.bool true)/\ai [] w e:=by
 have r:=Z (PD B c7);have a1:=Z B;have a3:=Z c8;have a0:=Z N;obtain⟨ad,e3,rfl,f8,e8,-⟩:=B;obtain⟨e2,e6,rfl,-⟩:=N;cases q:my d with
 |false=>
  rw[q]at r;go_in;go_wp2_with fail;refine r.j.mono ?_;rintro J H ⟨rfl,rfl⟩;go_wp2;go_ret;exact⟨rfl,ah [] _⟩
 |true=>
  rw[q]at r;have a2:=Z q;have b9:d.length<=16384:=by
   unfold my at q;simp at q;omega
  obtain⟨d3,b7,c9,d0,d1⟩:=info_parts Jc;have d2:(Value.agg #[.int .i64 0,.int .i64 0,.int .i64 0,.int .i64 0,.int .i64 0,.string ⟨#[]⟩]).cells.size=6:=by decide
  go_in;go_wp2_with fail;refine r.j.mono ?_;rintro J H ⟨rfl,rfl⟩;go_wp2;go_loopw [6,7] (λd5 i G=>∃(a:Nat) (gT:Option Addr) (h:Nat),i=.int .i64 a/\a<=d.length/\d5=.slice gT (gg ks (d.take a)).length h/\U (aR [ze (.slice gT (gg ks (d.take a)).length h) (gg ks (d.take a))] H G)) (λ_ i _=>d.length-(intOf i).toNat)
  case atStart=>exact⟨0,none,0,rfl,by omega,rfl,(zT H).cons (ah [] _) ⟨rfl,Y8 ⟨rfl,rfl⟩⟩ (λb1 b5=>by simp[Th.ch,Value.ownBlock]at b5)⟩
  case round=>
   obtain⟨a,gT,h,rfl,f1,rfl,f⟩:=hrel;rcases Yj a d.length with u|e9
   .have b4:=a1.j.O f.j.fr;obtain⟨e0,e4,o,-,-,c2⟩:=b4;simp only[Value.slice.injEq,true_and]at o;obtain⟨rfl,rfl⟩:=o;obtain⟨b1,g,rfl,b3⟩:=c2 a d[a] (Yd u);obtain⟨f9,g0,g1,g2,g3,g4⟩:=b3;have f2:(0:Int)<=(a:Int):=by omega
    have f3:(a:Int)<(d.length:Int):=by omega
    have k:=Z (ON ks u);have P:U ((gg ks (d.take a)).length<=16384):=Z (Yz (CV _ _) (by rw[YW];omega));generalize d[a]=c at *
    go_wp2;go_loopw [9,10] (λa8 D G=>∃(b:Nat) (l:Bool),D=.int .i64 b/\b<=ks.length/\a8=.bool l/\U (l=(decide (c.H<9)||(ks.take b).contains c.H))/\G=wr) (λ_ D _=>ks.length-(intOf D).toNat)
    case atStart=>exact⟨0,decide (c.H<9),rfl,by omega,rfl,by show _=_;simp,rfl⟩
    case round=>
     obtain⟨b,l,rfl,f5,rfl,x,rfl⟩:=hrel;rcases Yj b ks.length with m|f0
     .have f6:(0:Int)<=(b:Int):=by omega
      have f7:(b:Int)<(ks.length:Int):=by omega
      cases l with
      |true=>
       have n:U (true=(decide (c.H<9)||(ks.take (b+1)).contains c.H)):=by
        show _=_;rw[Yt m,List.contains_append,<-Bool.or_assoc,<-x.j];rfl
       go_wp2;exact⟨⟨b+1,true,by go_num,m,rfl,n,trivial⟩,by simp[intOf];omega⟩
      |false=>
       obtain⟨e1,e5,C⟩:=a0.j;obtain⟨o,C⟩:=C;simp only[Value.slice.injEq,true_and]at o;obtain⟨rfl,rfl⟩:=o;obtain⟨gk,rfl,F⟩:=C b m;have F:=oi F f.j.fr;simp only[Nat.mul_one,show ks.getD b 0=ks[b] by simp[m]]at F;have n:U ((c.H==ks[b])=(decide (c.H<9)||(ks.take (b+1)).contains c.H)):=by
        show _=_;rw[Yt m,List.contains_append,<-Bool.or_assoc,<-x.j];by_cases c6:c.H=ks[b]<;>simp[c6]
       generalize ks[b]=d8 at *
       generalize e7:(c.H==d8)=a9 at *
       go_wp2;exact⟨⟨b+1,a9,by go_num,m,rfl,n,trivial⟩,by simp[intOf];omega⟩
     .have c1:b=ks.length:=by omega
      subst c1;have b6:¬((ks.length:Int)<(ks.length:Int)):=by omega
      have n:U (l=tg ks c.H):=by
       show _=_;rw[x.j,YG];rfl
      rw[<-n.j]at k;cases l with
      |false=>
       simp only[Ye,if_false,YH]at k
       go_wp2;exact⟨⟨a+1,gT,h,by go_num,u,by rw[k.j],by show aR _ _ _;rw[k.j];exact f.j⟩,by simp[intOf];omega⟩
      |true=>
       simp only[if_true]at k
       have d9:U (∀z:cV,(ke z).length=6):=Z (λ_=>rfl);have c3:∀j∈ke c,j.oneCell'=true:=by
        intro j R;simp[ke]at R;rcases R with rfl|rfl|rfl|rfl|rfl|rfl<;>rfl
       have y:U ((gg ks (d.take a)).length+1=(gg ks (d.take (a+1))).length/\(gg ks (d.take a)).flatMap ke++ke c=(gg ks (d.take (a+1))).flatMap ke):=by
        show _/\_;rw[k.j];simp
       have I:=Z (λd6=>aY (f.j.b9 (i:=0) (a:=ze (.slice gT (gg ks (d.take a)).length h) (gg ks (d.take a))) rfl) ((ah [] wr).G d6) (by simp));have c4:(gg ks (d.take a)).length+1<=maxLen:=by have:=P.j;unfold maxLen;omega
       have c5:((gg ks (d.take a)).length+1)*56<=140737488355328:=by have:=P.j;omega
       go_wp2_with (at_builtin;(refine wpList_append_lies _ (by rfl) _ _ _ (by rfl) 0 27 d3 _ 6 56 underlying22 b7 c9 d0 d1 d2 (by omega) (.slice gT (gg ks (d.take a)).length h) (gg ks (d.take a)).length ((gg ks (d.take a)).flatMap ke) (by rfl) (I.j _) ⟨wr.heap.size,0,none⟩ 1 1 (ke c) (by rfl) (by rfl) (World.news_of_block (cs:=(ke c).toArray) (t:=27) (fr:=(0,0)) (aK (w:=wr) (by simp))) c3 (by omega) c4 c5 (by omega) (wr.heap.size+1) (by simp) ?_;intro b2 b0 g6 O M L c0;have a6:=Z (f.j.bZ (i:=0) rfl ((ah [] wr).G _) O M L (by simp));clear O M L c0 I));exact⟨⟨a+1,some ⟨b2,0,none⟩,b0,by go_num,u,by rw[y.j.1],by show aR _ _ _;have:=a6.j;rw[y.j.2,y.j.1]at this;exact this⟩,by simp[intOf];omega⟩
   .have b8:a=d.length:=by omega
    subst b8;have b6:¬((d.length:Int)<(d.length:Int)):=by omega
    rw[YG]at f;rw[YG];have a7:=Z (a3.j wr _ (gg ks d) f.j.fr (Mo (f.j.b9 (i:=0) (a:=ze (.slice gT (gg ks d).length h) (gg ks d)) rfl)) (Yz (CV _ _) b9) (λg p=>by
     unfold gg at p;rw[List.mem_filter]at p;refine⟨p.1,?_,?_⟩
     .have:=p.2;unfold tg at this;simpa using this
     .have K:=a2.j;unfold my at K;simp at K;have:=Kq d g p.1;omega))
    have a4:=Z f.j.fr;go_wp2_with fail;refine a7.j.mono ?_;rintro J g5 ⟨rfl,d4⟩;have a5:=Z (a4.j.u d4);go_wp2;go_ret;exact⟨rfl,a5.j⟩
end
section
variable {e h : World} {g : Nat} {d : eQ} {o q m l : Value} {R : List Th}
def LM(d:List jm):∀b∈d.flatMap gX,b.oneCell'=true:=by
 intro b c;obtain⟨e,_,a⟩:=List.mem_flatMap.1 c;simp[gX]at a;rcases a with rfl|rfl|rfl|rfl|rfl<;>rfl
def SE{m:Array Oper}{rest:List Oper}{b:Oper}{f:Act}{Q:Exit->Act->World->Prop}{e:World}(z:b.guard=none)(d n:Operand)
  (B:b.op=.call { callee:=.builtin .append,args:=#[d,n],argTypes:=#[31,31] }) {o:Value} {a:List jm} (D:f.eval d=.slice none 0 0) (F:f.eval n=o) (j:e.ownsRow 0 52 5 o a.length (a.flatMap gX)) (a2:a.length<=1000000) (a3:0<a.length)
  (t:∀g c,c.ownsRow 0 52 5 (.slice (some ⟨e.heap.size,0,none⟩) a.length g) a.length (a.flatMap gX)->e.grownBy c none->wpList prog m Q rest (f.put b.dst (.slice (some ⟨e.heap.size,0,none⟩) a.length g)) c):wpList prog m Q (b::rest) f e:=by
 refine wpList_plain z λL w=>?_;obtain⟨K,A,G,H,I⟩:=info_parts Bg;have J:(Value.agg #[.int .i64 0,.int .i64 0,.string ⟨#[]⟩,.int .i64 0,.int .i64 0]).cells.size=5:=by decide
 rcases j.2 with⟨rfl,O⟩|⟨h,g,M,rfl,R,u,S,a0,a1,v⟩
 .omega
 .obtain⟨a6,c,C,k,s,_,p⟩:=run_append_own_at (P:=prog) e 0 31 b.type 52 K _ 5 48 underlying31 A G H I J (by omega) (.slice none 0 0) 0 [] ⟨rfl,Y8 ⟨rfl,rfl⟩⟩ ⟨h,0,none⟩ a.length g (a.flatMap gX) j.1 (by
   intro l a5 E;have x:(⟨h,0,none⟩:Addr).add l=⟨h,l,none⟩:=by unfold Addr.add;split<;>simp_all
   rw[x];exact cw u (by rw[j.1];exact v) E) (LM a) (by unfold maxLen;omega) (by omega) (YV _)
  rw[Nat.zero_add,YT]at k;rcases k.2 with⟨rfl,a4⟩|⟨r,q,N,rfl,_⟩
  .omega
  .have y:r=e.heap.size:=by
    rcases p with i|i
    .simp[Value.ownBlock]at i
    .simpa[ea]using i
   subst y;unfold Oper.wp execOp;simp only[B,resolve,invoke,builtin,Sem.run_bind,Sem.run_pure,Result.andThen_ok,List.map_toArray,List.map_cons,List.map_nil,D,F,C];exact w _ _ (t q c k s)
def vp:jm:=⟨0,0,[],0,0⟩
def uB(a:jm)(b c:Int):jm:={ a with n:=IntKind.i64.wrap (a.n+b),bc:=IntKind.i64.wrap (a.bc+c) }
def og(d:List jm)(e:cV):List jm:=d.set (eM e.a d.length) (uB (d.getD (eM e.a d.length) vp) e.b e.c)
def Ca{v:Value}{c:List jm}{b m:Nat}(g:e.ownsRow 0 52 5 (.slice (some ⟨b,0,none⟩) c.length m) c.length (c.flatMap gX)){a:Nat}{d:jm}(j:c[a]? = some d):e.cell? ⟨b,a*5+1,none⟩=some (.int .i64 d.n)/\e.cell? ⟨b,a*5+4,none⟩=some (.int .i64 d.bc)/\(∀a,e.frozen? ⟨b,a,none⟩=false)/\b<e.heap.size:=by
 have l:=λt r=>ry (f:=gX) (k:=5) (λ_=>rfl) c a t r;obtain⟨x,u,h,o,q,s⟩:=kf g (l 1 (by omega) |>.trans (by rw[j];rfl));obtain⟨y,w,i,p,_⟩:=kf g (l 4 (by omega) |>.trans (by rw[j];rfl));simp at h i;obtain⟨rfl,_⟩:=h;obtain⟨rfl,_⟩:=i;exact⟨o,p,q,s⟩
def aR.nZ{m:List Th}{c d i j:Nat}{b:List jm}{l x':jm}{v:Value}(o:aR (iH (.slice (some ⟨c,0,none⟩) b.length d) b::m) h e)(n:b[i]? = some l)(u:j<5)(t:gX x'=(gX l).set j v):aR (iH (.slice (some ⟨c,0,none⟩) (b.set i x').length d) (b.set i x')::m) h (e.setCell ⟨c,i*5+j,none⟩ v):=by
 have x:=(YB.1 n).1;have w:=o.b9 (i:=0) (a:=iH (.slice (some ⟨c,0,none⟩) b.length d) b) rfl;have q:e.ownsRow 0 52 5 (.slice (some ⟨c,0,none⟩) b.length d) b.length (b.flatMap gX):=w;have y:(b.flatMap gX).length=b.length*5:=q.1;have r:=tH q (i:=i*5+j) (by omega) v;rw[ta (f:=gX) (k:=5) (λ_=>rfl) b i j l x' v u n t]at r;refine o.b6 (i:=0) (a':=iH (.slice (some ⟨c,0,none⟩) (b.set i x').length d) (b.set i x')) rfl ((ah [c] e).a6 (p:=⟨c,i*5+j,none⟩) (by simp) v) (λs g=>by simp at g;subst g;simp[Th.ch,ea]) ?_ (λs g=>Y8 (by simpa[Th.ch,ea]using g));show World.ownsRow _ _ _ _ _ _ _;rw[YF];exact r
def Mt(O:aR (wL g d o q m l R) h e)(f:cV)(a3:it f)(c3:f.H=5)(c5:d.a7.length<=100000)(c1:d.a7≠[]):Calls prog 14 #[.pointer (some ⟨g,0,none⟩),.agg (cA f)] e λa2 s=>a2=.returned (.bool true)/\∃c6,aR (wL g { d with a7:=og d.a7 f } o c6 m l R) h s:=by
 have E:=Z (O.G (.cells (cA f) 27));obtain⟨gT,u,rfl⟩:=bY (O.b9 (i:=2) (a:=iH q d.a7) rfl);have M:0<d.a7.length:=YM.2 c1;have e2:(0:Int) < ↑d.a7.length:=by omega
 have c4:eM f.a d.a7.length<d.a7.length:=qh f.a M;have b8:=Z (vJ f.a d.a7.length a3.2.1.1 a3.2.1.2 M (by omega));have N:U (d.a7[eM f.a d.a7.length]? = some (d.a7.getD (eM f.a d.a7.length) vp)):=Z (by simp[c4]);have P:U (og d.a7 f=d.a7.set (eM f.a d.a7.length) (uB (d.a7.getD (eM f.a d.a7.length) vp) f.b f.c)):=Z rfl;have e0:(0:Int)<=↑(eM f.a d.a7.length):=by omega
 have e1:(↑(eM f.a d.a7.length):Int) < ↑d.a7.length:=by omega
 generalize eM f.a d.a7.length=r at *
 generalize d.a7.getD r vp=k at *
 have b7:=Z M;have b6:=Z c5;have p:=O.b8 (i:=0) (R:=g) rfl;have d4:e.cell? ⟨g,1,none⟩=some (.slice gT d.a7.length u):=aS p rfl;have d5:=cG p;have d6:=aj p;have d7:(f.H==4)=false:=by rw[c3];rfl
 go_in;go_wp2;generalize d9:e.heap.size=x at *
 generalize e.alloc (.cells (cA f) 27)=b5 at *
 obtain⟨a8,a9,b0,b1,b2,b3,of,b4⟩:=dY (E.j.b8 (i:=0) (R:=x) rfl);have p:=E.j.b8 (i:=1) (R:=g) rfl;have H:b5.cell? ⟨g,1,none⟩=some (.slice gT d.a7.length u):=aS p rfl;have I:=cG p;have J:=aj p;refine cS (λs=>s.cell? ⟨g,1,none⟩=some (.slice gT d.a7.length u)/\s.cell? ⟨x,2,none⟩=some (.int .i64 f.a)) (L:=8) (by kernel_rfl) rfl (by kernel_rfl) (by kernel_rfl) ?_ (λK=>?_)
 .go_keep
 refine bI [0,1,2,3,4,5,6] ?_;iterate 7 (refine bP (v:=?_) rfl (by kernel_rfl) (λ_ _ _ z=>z) (by kernel_rfl) (by assumption) ?_ ?_;rotate_left;focus (intro e A;(try dsimp only at A);go_simp;(try with_reducible rfl));(try simp only[aL,aM,List.set]))
 refine bJ ?_;refine ck 7 (by kernel_rfl) rfl λD w=>?_;(go_simp;refine(b8.j _).mono ?_;rintro a2 e3 ⟨rfl,rfl⟩);refine w.out _ _ ?_ (λK=>?_)
 .go_keep
 (try simp only[aL,aM,List.set]);refine cQ (by kernel_rfl) rfl λD w=>?_;go_simp;refine w.out _ _ ?_;(try simp only[aL,aM,List.set]);have B:=Z E.j.a9;generalize b5.drew=C at *
 have p:=B.j.b8 (i:=1) (R:=g) rfl;have H:C.cell? ⟨g,1,none⟩=some (.slice gT d.a7.length u):=aS p rfl;have I:=cG p;have J:=aj p;have a6:U (C.ownsRow 0 52 5 (.slice gT d.a7.length u) d.a7.length (d.a7.flatMap gX)):=Z (B.j.b9 (i:=3) (a:=iH (.slice gT d.a7.length u) d.a7) rfl);go_wp2_with (at_builtin;(refine SE (by rfl) _ _ (by rfl) (by rfl) (by rfl) a6.j (by have:=b6.j;omega) b7.j ?_;intro y c7 a5 a4;have F:=Z (B.j.cons (a:=iH (.slice (some ⟨C.heap.size,0,none⟩) d.a7.length y) d.a7) (eL a4) a5 (λd8 c2=>by simp[Th.ch,ea]at c2;omega));clear a5 a4 a6 H I J B;generalize C.heap.size=t at *));obtain⟨d0,d1,d2,d3⟩:=Ca (v:=.nilIface) (F.j.b9 (i:=0) (a:=iH (.slice (some ⟨t,0,none⟩) d.a7.length y) d.a7) rfl) N.j;obtain⟨a8,a9,b0,b1,b2,b3,of,b4⟩:=dY (F.j.b8 (i:=1) (R:=x) rfl);refine cS (λs=>s.cell? ⟨t,r*5+1,none⟩=some (.int .i64 k.n)/\s.cell? ⟨x,3,none⟩=some (.int .i64 f.b)) (L:=12) (by kernel_rfl) rfl (by kernel_rfl) (by kernel_rfl) ?_ (λK=>?_)
 .go_keep
 refine bI [0,1,2,3,4,5,6,7,8,9,10,11] ?_;iterate 12 (refine bP (v:=?_) rfl (by kernel_rfl) (λ_ _ _ z=>z) (by kernel_rfl) (by assumption) ?_ ?_;rotate_left;focus (intro e A;(try dsimp only at A);go_simp;(try with_reducible rfl));(try simp only[aL,aM,List.set]))
 refine bJ ?_;refine cQ (by kernel_rfl) rfl λD w=>?_;go_simp;refine w.out _ _ ?_;(try simp only[aL,aM,List.set]);have G:=Z (F.j.nZ (j:=1) (x':={ k with n:=IntKind.i64.wrap (k.n+f.b) }) (v:=.int .i64 (IntKind.i64.wrap (k.n+f.b))) N.j (by omega) rfl).a9;generalize (c7.setCell ⟨t,r*5+1,none⟩ (.int .i64 (IntKind.i64.wrap (k.n+f.b)))).drew=c8 at *
 have a7:U ((d.a7.set r { k with n:=IntKind.i64.wrap (k.n+f.b) })[r]? = some { k with n:=IntKind.i64.wrap (k.n+f.b) }):=Z (by
  have:=(YB.1 N.j).1;rw[List.getElem?_set_self this])
 obtain⟨d0,d1,d2,d3⟩:=Ca (v:=.nilIface) (G.j.b9 (i:=0) (a:=iH (.slice (some ⟨t,0,none⟩) (d.a7.set r { k with n:=IntKind.i64.wrap (k.n+f.b) }).length y) (d.a7.set r { k with n:=IntKind.i64.wrap (k.n+f.b) })) rfl) a7.j;obtain⟨a8,a9,b0,b1,b2,b3,of,b4⟩:=dY (G.j.b8 (i:=1) (R:=x) rfl);go_wp2;refine cS (λs=>s.cell? ⟨t,r*5+4,none⟩=some (.int .i64 k.bc)/\s.cell? ⟨x,4,none⟩=some (.int .i64 f.c)) (L:=12) (by kernel_rfl) rfl (by kernel_rfl) (by kernel_rfl) ?_ (λK=>?_)
 .go_keep
 refine bI [0,1,2,3,4,5,6,7,8,9,10,11] ?_;iterate 12 (refine bP (v:=?_) rfl (by kernel_rfl) (λ_ _ _ z=>z) (by kernel_rfl) (by assumption) ?_ ?_;rotate_left;focus (intro e A;(try dsimp only at A);go_simp;(try with_reducible rfl));(try simp only[aL,aM,List.set]))
 refine bJ ?_;refine cQ (by kernel_rfl) rfl λD w=>?_;go_simp;refine w.out _ _ ?_;(try simp only[aL,aM,List.set]);have a0:=Z (G.j.nZ (j:=4) (x':=uB k f.b f.c) (v:=.int .i64 (IntKind.i64.wrap (k.bc+f.c))) a7.j (by omega) rfl).a9;generalize (c8.setCell ⟨t,r*5+4,none⟩ (.int .i64 (IntKind.i64.wrap (k.bc+f.c)))).drew=c9 at *
 have p:=a0.j.b8 (i:=2) (R:=g) rfl;have H:c9.cell? ⟨g,1,none⟩=some (.slice gT d.a7.length u):=aS p rfl;have I:=cG p;have J:=aj p;go_wp2;go_ret;have a1:=a0.j.bQ (i:=2) (j:=1) rfl (.slice (some ⟨t,0,none⟩) d.a7.length y);have b9:(d.a7.set r { k with n:=IntKind.i64.wrap (k.n+f.b) }).set r (uB k f.b f.c)=og d.a7 f:=by rw[P.j,List.set_set]
 rw[b9]at a1;have c0:(og d.a7 f).length=d.a7.length:=by rw[P.j,YF]
 refine⟨rfl,.slice (some ⟨t,0,none⟩) (og d.a7 f).length y,?_⟩;have S:=(a1.cv 3).bo;rw[c0]at S ⊢;simpa[wL,iH]using S
end
section
variable {j i : World} {e : Nat} {d : eQ} {k l h g : Value} {f : List Th}
def lx(d:eQ)(e:cV):Option eQ:=
 if e.H=4 then some { d with a7:=d.a7++[⟨e.a,e.b,e.s,0,e.c⟩] }
 else if e.H=5 then some { d with a7:=if d.a7=[]then d.a7 else og d.a7 e }
 else if e.H=6 then some { d with a7:=[] }
 else if e.H=7 then some { d with a:=e.a,b:=e.b,c:=e.c }
 else if e.H=8 then some { d with ca:=e.s }
 else mD d e
def zD(d:eQ)(e:Nat)(h g:Value)(f:List Th)(i:World)(k:Option eQ)(c:Ending)(j:World):Prop:=match k with
 |some l=>c=.returned (.bool true)/\∃a b,aR (wL e l a b h g f) i j
 |none=>c=.returned (.bool false)/\∃a b,aR (wL e d a b h g f) i j
structure pj(d:eQ):Prop where
 a0:d.a0.length<=100000
 dX:∀x∈d.a0,x.length<=1000000
 a7:d.a7.length<=100000
 b5:d.b5.length<=100000
 f4:d.f4.length<=100000
def tG(c:aR (wL e d k l h g f) i j)(b:cV)(v:it b)(u:pj d):Calls prog 14 #[.pointer (some ⟨e,0,none⟩),.agg (cA b)] j (zD d e h g f i (lx d b)):=by
 unfold lx;by_cases q:b.H=4
 .rw[Y9 q];refine(Mx c b q u.a7).mono ?_;rintro m n ⟨rfl,y,a⟩;exact⟨rfl,_,_,a⟩
 rw[Y2 q];by_cases o:b.H=5
 .rw[Y9 o];by_cases p:d.a7=[]
  .rw[Y9 p];refine(Mu c b o p).mono ?_;rintro m n ⟨rfl,a⟩;exact⟨rfl,_,_,a⟩
  .rw[Y2 p];refine(Mt c b v o u.a7 p).mono ?_;rintro m n ⟨rfl,y,a⟩;exact⟨rfl,_,_,a⟩
 rw[Y2 o];by_cases r:b.H=6
 .rw[Y9 r];refine(My c b r).mono ?_;rintro m n ⟨rfl,a⟩;exact⟨rfl,_,_,a⟩
 rw[Y2 r];by_cases s:b.H=7
 .rw[Y9 s];refine(Mv c b s).mono ?_;rintro m n ⟨rfl,a⟩;exact⟨rfl,_,_,a⟩
 rw[Y2 s];by_cases t:b.H=8
 .rw[Y9 t];refine(Mw c b t).mono ?_;rintro m n ⟨rfl,a⟩;exact⟨rfl,_,_,a⟩
 rw[Y2 t];refine(MA c b v u.a0 u.dX q o r s t).mono ?_;intro m n a;unfold qN at a;unfold zD;cases w:mD d b with
 |some z=>
  rw[w]at a;obtain⟨rfl,x,a⟩:=a;exact⟨rfl,_,_,a⟩
 |none=>
  rw[w]at a;obtain⟨rfl,x,a⟩:=a;exact⟨rfl,_,_,a⟩
end
section
variable {d c : World} {b : Nat} {s g : eQ} {h j f e : Value} {R : List Th}
def PT(r:aR (wL b s h j f e R) c d)(a:cV)(o:it a)(p:pj s)(q:lx s a=some g):Calls prog 13 #[.pointer (some ⟨b,0,none⟩),.agg (cA a)] d λm u=>m=.returned (.bool true)/\∃k l,aR (wL b g k l f e R) c u:=by
 have i:=Z (tG (r.aD (.cells (cA a) 27)) a o p);rw[q]at i;clear r o p q;go_in;go_wp2_with fail;refine i.j.mono ?_;rintro m v ⟨rfl,k,l,n⟩;have t:=Z n;clear n i;go_wp2;go_ret;exact⟨rfl,k,l,t.j.ks⟩
def Cz{a:cV}(b:a.H=9):lx s a=none:=by unfold lx mD;simp[b]
def Qc(G:aR (wL b s h j f e R) c d)(g:cV)(m:it g)(t:pj s)(u:g.H=9){J:Mar.a5}(C:eo (ap (eF s g.a))=.error J)(B:Gl c)(A:c.cell? ⟨1,0,none⟩=some (jb 55)):Calls prog 13 #[.pointer (some ⟨b,0,none⟩),.agg (cA g)] d λq a0=>q=.returned (.bool true)/\∃k l,aR (wL b s k l f e R) c a0:=by
 have p:=Z (tG (G.aD (.cells (cA g) 27)) g m t);rw[Cz u]at p;have y:=Z (λ(v:World) k l (H:aR (wL b s k l f e (R++[.obj d.heap.size (.cells (cA g) 27)])) c v)=>qv (s:=s) (H.b8 (i:=0) (R:=b) rfl) (H.b9 (i:=1) (a:=bE k s.a0) rfl) g.a m.2.1.1 m.2.1.2 (by have:=t.a0;omega));have w:=Z (λ(v:World) (D:ai [] c v)=>Nt C (B.O D (by simp) (by simp) (by simp)) (oi A D));generalize eF s g.a=tx at *
 have a5:(g.H==9)=true:=by rw[u];rfl
 clear G m t C B A u;go_in;go_wp2_with fail;refine p.j.mono ?_;rintro q a1 ⟨rfl,k,l,r⟩;have n:=Z r;have z:=Z (y.j a1 k l r);clear r p y;obtain⟨K,L,M,N,O,P,of,S⟩:=dY n.j.j8;generalize d.heap.size=a3 at *
 go_wp2_with fail;refine z.j.mono ?_;rintro a4 a2 ⟨rfl,E⟩;have o:=Z (n.j.O E);have x:=Z (w.j a2 o.j.fr);clear n z w E K L M N O P of S;go_wp2_with fail;refine x.j.mono ?_;rintro q a6 ⟨F,rfl⟩;have I:=Z (o.j.O F);clear o x F;go_wp2;go_ret;exact⟨rfl,k,l,I.j.ks⟩
end
end Go.Proofs.YtjdhaegijjednaaGreatDoor
