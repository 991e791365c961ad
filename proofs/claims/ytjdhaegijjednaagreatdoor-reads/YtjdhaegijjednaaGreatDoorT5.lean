import Derived.Test.YtjdhaegijjednaaGreatDoorT4
import Derived.Test.YtjdhaegijjednaaGreatDoorProg
import Derived.WalkKit
import Derived.LaidEql
import Derived.Stop.Asserts
import Derived.RowKitTokens
set_option linter.all false
set_option maxRecDepth 100000
set_option maxHeartbeats 4000000
namespace Go.Proofs.YtjdhaegijjednaaGreatDoor
open Go.RowKit
open Go.Proofs.Tryz
section
variable {a i kd p:Nat}
abbrev aH(t:List UInt8):ByteArray:=⟨t.toArray⟩
structure lM(y:Mar.aN):Prop where
 jX:y.F<=4
 gI:Mar.c9 y.text=true->y.F=2
 jP:∀c,Mar.b8 c=true->y.text=[c]->y.F=4
def rG:(Mar.f0.all λa=>match a with|c::_::_=>Mar.cz c|_=>false)=true:=by decide
def kH{a:List UInt8}(d:Mar.c9 a=true):∃b c f,a=b::c::f/\Mar.cz b=true:=by
 have e:a∈Mar.f0:=by simpa[Mar.c9]using d
 have:=List.all_eq_true.1 rG a e;split at this
 .exact⟨_,_,_,rfl,this⟩
 .cases this
def rc{p:List UInt8}{j:Mar.aN}(b:Mar.bE p a=.ok j):lM j/\j.y=a:=by
 unfold Mar.bE at b;split at b
 .cases b
  exact⟨⟨by simp,λb=>(by obtain⟨f,k,n,b,_⟩:=kH b;simp at b),λf _ b=>(by simp at b)⟩,rfl⟩
 .rename_i f t;split at b
  .rename_i g;have m:∀d,Mar.b8 d=true->Mar.a2 (f::t)≠[d]:=λd e c=>by
    simp only[Mar.a2,List.cons.injEq]at c;rw[c.1]at g;rw[(Mar.hK e).1]at g;cases g
   unfold Mar.cT at b;split at b
   .cases b
   .split at b
    .cases b;exact⟨⟨by simp,λ_=>rfl,λd e c=>absurd c (m d e)⟩,rfl⟩
    .rename_i i;cases b
     exact⟨⟨by simp,λb=>absurd b i,λd e c=>absurd c (m d e)⟩,rfl⟩
  .split at b
   .rename_i l h;unfold Mar.df at b;split at b
    .cases b
     refine⟨⟨by simp,λi=>?_,λd e c=>?_⟩,rfl⟩
     .obtain⟨d,k,n,c,o⟩:=kH i;simp only[Mar.a2,List.cons.injEq]at c;rw[c.1]at l;exact absurd o l
     .simp only[Mar.a2,List.cons.injEq]at c;rw[c.1]at h;have:=Mar.hK e;rw[this.2.1,this.2.2.1]at h;cases h
    .cases b
   .split at b
    .cases b
     exact⟨⟨by simp,λb=>(by obtain⟨f,k,n,b,_⟩:=kH b;simp at b),λf _ b=>rfl⟩,rfl⟩
    .cases b
def re{c:List UInt8}{f:Mar.aD}(b:Mar.bE c a=.error f):f.no≠0/\f.y=a:=by
 unfold Mar.bE at b;split at b
 .cases b
 .split at b
  .unfold Mar.cT at b;split at b
   .cases b;exact⟨by simp,rfl⟩
   .split at b<;>cases b
  .split at b
   .unfold Mar.df at b;split at b
    .cases b
    .cases b;exact⟨by simp,rfl⟩
   .split at b
    .cases b
    .cases b;exact⟨by simp,rfl⟩
def Wd(c:Except Mar.aD (Mar.aN×Nat))(a:gO):Prop:=match c with
 |.ok (b,p)=>(a.F=b.F/\a.text=b.text/\a.n=b.n/\a.y=b.y/\a.fin=p)/\lM b
 |.error f=>a.F=5/\a.e=f.no/\a.y=f.y/\f.no≠0
def oM(t:List UInt8)(p:Nat):Wd (nV t p) (dL t p):=by
 unfold nV dL cY;cases c:Mar.bE (t.drop (p+Mar.c0 (t.drop p))) (p+Mar.c0 (t.drop p))with
 |ok d=>
  obtain⟨a,b⟩:=rc c;exact⟨⟨rfl,rfl,rfl,b.symm,rfl⟩,a⟩
 |error f=>
  obtain⟨a,b⟩:=re c;exact⟨rfl,rfl,b.symm,a⟩
def ep(b:List aG):Ty->Int->Prop
 |.plain h,i=>i=h/\h<=4
 |.named j a,i=>0<=i/\∃e,b[i.toNat]? = some e/\e.F=14/\e.b4=j/\e.y=a
 |.opaq d f,i=>0<=i/\b[i.toNat]? = some (iq (if f then 6 else 7) d)
 |.str d _,i=>0<=i/\b[i.toNat]? = some (iq 8 d)
 |.arr g d f,i=>0<=i/\∃c,b[i.toNat]? = some (fJ (if f then 9 else 10) d c)/\ep b g c
 |.opt g,i=>0<=i/\∃c,b[i.toNat]? = some (fJ 11 0 c)/\ep b g c
 |.void,i=>i = -1
def eZ{e:Type}{a g:List e}{d:e}(b:a[i]? = some d):(a++g)[i]? = some d:=by
 have f:i<a.length:=by
  rcases Yj i a.length with c|c
  .exact c
  .rw[YA c]at b;cases b
 rw[Ys f];exact b
def ep.a6{k:List aG}(l:List aG):∀{e:Ty} {i:Int},ep k e i->ep (k++l) e i:=by
 intro e;induction e with
 |plain d=>intro i b;exact b
 |named o a=>rintro i ⟨c,n,b,d⟩;exact⟨c,n,eZ b,d⟩
 |opaq j f=>rintro i ⟨c,b⟩;exact⟨c,eZ b⟩
 |str j f=>rintro i ⟨c,b⟩;exact⟨c,eZ b⟩
 |arr m j f g=>rintro i ⟨c,h,b,d⟩;exact⟨c,h,eZ b,g d⟩
 |opt m g=>rintro i ⟨c,h,b,d⟩;exact⟨c,h,eZ b,g d⟩
 |void=>intro i b;exact b
abbrev Nl:=List (List UInt8×Option ah)
abbrev mz(a:List (List UInt8×Nat×Int)):aG:=⟨5,0,0,a.map (·.2.2),[],0,[],0⟩
def iJ(h:List aG)(g:Nl)(e:Ty)(of:Int):Prop:=
 (∃b,e=.plain b/\(b=0\/b=1\/b=4)/\of=b)\/(∃d a t f c,e=.named d a/\4<of/\ak g d=some (some (.enum t f c))/\h[of.toNat]? = some (mz c))
def kc(b:List (List Int×aF)):List (Int×aF):=b.flatMap λa=>a.1.map λc=>(c,a.2)
def ky(b:List (List Int×aF)):Option aF:=(b.find? λa=>a.1.isEmpty).map (·.2)
def hH(b:List aG)(k:Nl)(e:ah)(i:Int):Prop:=match e with
 |.typedef e=>ep b e.ty i/\0<=i
 |.enum _ _ h=>0<=i/\b[i.toNat]? = some (mz h)
 |.struct _ _ h=>0<=i/\∃c:List Int,b[i.toNat]? = some ⟨12,0,0,[],c,0,[],0⟩/\c.length=h.length/\∀(f:Nat) (p:Int) (g:aF),c[f]? = some p->h[f]? = some g->ep b g.ty p
 |.union _ _ l d=>0<=i/\∃(of:Int) (c:List Int) (j:Int),b[i.toNat]? = some ⟨13,0,of,(kc d).map (·.1),c,j,[],0⟩/\iJ b k l.ty of/\
   c.length=(kc d).length/\(∀(f:Nat) (p:Int) (g:Int×aF),c[f]? = some p->(kc d)[f]? = some g->ep b g.2.ty p)/\
   (match ky d with
   |none=>j = -2
   |some e=>ep b e.ty j)/\∀a∈d,a.1=[]->ky d=some a.2
 |_=>False
def Kp(c d:Nl):Prop:=∀b a,ak c b=some (some a)->ak d b=some (some a)
def pf(a:Nl):Kp a a:=λ_ _ b=>b
def iJ.a6{e:List aG}{c d:Nl}{f:Ty}{of:Int}(b:iJ e c f of)(m:List aG)(l:Kp c d):iJ (e++m) d f of:=by
 rcases b with b|⟨o,a,t,g,n,h,i,j,k⟩
 .exact Y8 b
 .exact Ya ⟨o,a,t,g,n,h,i,l _ _ j,eZ k⟩
def hH.a6{t:List aG}{r s:Nl}{d:ah}{i:Int}(c:hH t r d i)(e:List aG)(y:Kp r s):hH (t++e) s d i:=by
 cases d with
 |const a b f=>exact c
 |prog a b f d=>exact c
 |typedef d=>exact⟨c.1.a6 e,c.2⟩
 |enum a b f=>exact⟨c.1,eZ c.2⟩
 |struct a b f=>
  obtain⟨h,o,j,k,l⟩:=c;exact⟨h,o,eZ j,k,λm p n a b=>(l m p n a b).a6 e⟩
 |union a b f u=>
  obtain⟨h,of,o,v,j,k,l,w,g,x⟩:=c;refine⟨h,of,o,v,eZ j,k.a6 e y,l,λm p n a b=>(w m p n a b).a6 e,?_,x⟩;cases q:ky u with
  |none=>rw[q]at g;exact g
  |some d=>rw[q]at g;exact ep.a6 e g
def gB(d:List aG)(c:Nl)(p:List UInt8×Option ah)(a:bl):Prop:=a.s=p.1/\match p.2 with
 |none=>a.az=2
 |some (.const _ _ v)=>a.az=0/\a.n=v
 |some (.prog ..)=>a.az=2
 |some b=>a.az=1/\a.y=(aT b).2/\hH d c b a.n
def gB.a6{m:List aG}{j k:Nl}{p:List UInt8×Option ah}{l:bl}(i:gB m j p l)(d:List aG)(h:Kp j k):gB (m++d) k p l:=by
 refine⟨i.1,?_⟩;have b:=i.2;split
 .rename_i c;rw[c]at b;exact b
 .rename_i c;rw[c]at b;exact b
 .rename_i c;rw[c]at b;exact b
 .rename_i g n o c;rw[c]at b;cases g with
  |const a e f=>exact absurd rfl (n _ _ _)
  |prog a e f g=>exact absurd rfl (o _ _ _ _)
  |typedef g=>exact⟨b.1,b.2.1,b.2.2.a6 d h⟩
  |enum a e f=>exact⟨b.1,b.2.1,b.2.2.a6 d h⟩
  |struct a e f=>exact⟨b.1,b.2.1,b.2.2.a6 d h⟩
  |union a e f g=>exact⟨b.1,b.2.1,b.2.2.a6 d h⟩
structure dE(rows:List aG)(nl:Nl)(l:List bl):Prop where
 am:l.length=nl.length
 dG:∀(i:Nat) (p:List UInt8×Option ah) (r:bl),nl[i]? = some p->l[i]? = some r->gB rows nl p r
 nd:(nl.map (·.1)).Nodup
def dE.g8{f:List aG}{c:Nl}{b:List bl}(d:dE f c b):b.map (·.s)=c.map (·.1):=by
 apply List.ext_getElem?;intro i;rw[List.getElem?_map,List.getElem?_map];rcases Yj i c.length with a|a
 .have e:i<b.length:=by rw[d.am];exact a
  have:=d.dG i c[i] b[i] (Yd a) (Yd e);rw[Yd a,Yd e];simp[this.1]
 .rw[YA a,YA (by rw[d.am];exact a)];rfl
def xT{f:List aG}{c:Nl}{d:List bl}(b:dE f c d)(e:List aG):dE (f++e) c d:=⟨b.am,λi p h a g=>(b.dG i p h a g).a6 e (pf c),b.nd⟩
def ra(b:Nl)(a:List UInt8):(ak b a=none/\eY (b.map (·.1)) a<0)\/(∃(i:Nat) (d:Option ah),ak b a=some d/\eY (b.map (·.1)) a=(i:Int)/\b[i]? = some (a,d)):=by
 unfold eY;induction b with
 |nil=>left;simp[ak]
 |cons p b n=>
  by_cases c:p.1=a
  .right;refine⟨0,p.2,?_,?_,?_⟩
   .simp[ak,List.find?,c]
   .simp[c]
   .simp[<-c]
  .have h:(p.1==a)=false:=by simpa using c
   have j:(a==p.1)=false:=by simp;exact λk=>c k.symm
   have m:ak (p::b) a=ak b a:=by simp[ak,List.find?,h]
   rw[m];rcases n with⟨e,f⟩|⟨i,d,e,f,l⟩
   .left;refine⟨e,?_⟩;split at f
    .omega
    .rename_i g;rw[List.map_cons,List.contains_cons,j,Bool.false_or,Y2 g];omega
   .right;refine⟨i+1,d,e,?_,by simpa using l⟩;split at f
    .rename_i g;rw[List.map_cons,List.contains_cons,j,Bool.false_or,Y9 g,List.idxOf_cons,h];simp only[cond_false];omega
    .omega
structure aV where
 dc:Nat
 nl:Nl
 pd:Nl
 o:List UInt8
 ps:List dW
 rf:List (List UInt8×Int)
 fz:List bl
def eA(b:List aG):List (List UInt8×Int):=b.filterMap λa=>if a.F=14 then some (a.b4,a.y)else none
def BT(b:List aG)(a:aG):eA (b++[a])=eA b++if a.F=14 then [(a.b4,a.y)]else []:=by
 unfold eA;split<;>rename_i c<;>simp[c]
def gY:List aG:=[⟨0,0,0,[],[],0,[],0⟩,⟨1,0,0,[],[],0,[],0⟩,⟨2,0,0,[],[],0,[],0⟩,⟨3,0,0,[],[],0,[],0⟩,⟨4,0,0,[],[],0,[],0⟩]
def lT(b:Nat)(a:aG):Prop:=a.of<b/\(∀c∈a.gR,c<b)/\a.j5<b/\(a.F=5->∀c∈a.bp,cO (-2147483648) 2147483647 c=true)
def Fz(a:List bl)(e:Nl)(c:List bl):Prop:=(∃d,c=a++d)/\∀(b:Nat) (p:List UInt8×Option ah),b<a.length->e[b]? = some p->p.2≠none
def Fz.d1{c:List bl}{a:Nl}{b:List bl}(g:Fz c a b)(j:b.length=a.length)(p:List UInt8×Option ah)(f:bl):Fz c (a++[p]) (b++[f]):=by
 obtain⟨⟨l,d⟩,h⟩:=g;refine⟨⟨l++[f],by rw[d,YN]⟩,λe m i k=>h e m i ?_⟩;have:e<a.length:=by rw[<-j,d,Yq];omega
 rwa[Ys this]at k
def xA{b:List bl}{c:Nl}{j:List bl}(l:Fz b c j){k:List UInt8}(m:c[i]? = some (k,none))(d:ah)(r:bl):Fz b (gs c k d) (j.set i r):=by
 obtain⟨⟨q,p⟩,g⟩:=l;have n:b.length<=i:=by
  rcases Yj i b.length with e|e
  .exact absurd rfl (g i _ e m)
  .exact e
 refine⟨⟨q.set (i-b.length) r,by rw[p,List.set_append_right _ _ n]⟩,λh t o a=>?_⟩;unfold gs at a;rw[List.getElem?_map]at a;cases f:c[h]? with
 |none=>rw[f]at a;cases a
 |some s=>
  rw[f]at a;simp only[Option.map_some,Yu]at a;subst a;split
  .simp
  .exact g h s o f
structure Q(t:List UInt8)(b:aV)(st:St)(σ:Z):Prop where
 e:σ.s.e=0
 wd:Wd (cf t st.y st.nx) σ.s.x
 nl:st.A=b.nl++b.pd
 pd:b.pd=[]\/∃s,b.pd=[(s,none)]/\ak b.nl s=none
 nm:dE σ.w b.nl σ.A
 ty:σ.au=st.au
 cn:σ.aC+b.dc=st.aC
 pg:σ.ap=st.ap.map (·.1)
 d2:∃l,σ.w=gY++l
 dH:∀(i:Nat) (r:aG),σ.w[i]? = some r->lT (max i 5) r
 ou:σ.j=b.o
 pr:σ.d7=b.ps
 dY:eA σ.w=b.rf
 d5:Fz b.fz b.nl σ.A
def aV.c5(b:aV)(a:List (List UInt8×Nat)):aV:={ b with rf:=b.rf++a.map λp=>(p.1,(p.2:Int)) }
def xx(b:aV):b.c5 []=b:=by simp[aV.c5]
def xy(b:aV)(a c:List (List UInt8×Nat)):(b.c5 a).c5 c=b.c5 (a++c):=by simp[aV.c5]
structure Er(f:Mar.aD)(σ:Z):Prop where
 e:σ.s.e=f.no
 a:σ.s.a=f.y
 z:f.no≠0
structure Bd(f:Mar.aD)(σ:Z):Prop where
 e:σ.s.e=0
 k:σ.s.x.F=5
 n:σ.s.x.e=f.no
 a:σ.s.x.y=f.y
 z:f.no≠0
variable {t : List UInt8} {st h : St} {σ g j : Z} {b : aV} {f : Mar.aD}
def Er.cs(b:Er f σ)(d:ar σ g):Er f g:=by
 obtain⟨a,c⟩:=d (by rw[b.e];have:=b.z;omega);exact⟨a.trans b.e,c.trans b.a,b.z⟩
def Er.e4(a:Er f σ):σ.s.e≠0:=by rw[a.e];have:=a.z;omega
def Q.bd(a:Q t b st σ)(c:cf t st.y st.nx=.error f):Bd f σ:=by
 have:=a.wd;rw[c]at this;exact⟨a.e,this.1,this.2.1,this.2.2.1,this.2.2.2⟩
def Bd.is(a:Bd f σ){l:List UInt8}(b:kd≠5):aA σ kd l=false:=by
 unfold aA kG;rw[a.k];have:((5:Nat)==kd)=false:=by simp;omega
 rw[this];simp
def Bd.fs(b:Bd f σ):Er f (bK σ):=by
 have:(bK σ).s=⟨σ.s.x,f.no,f.y⟩:=by
  show hN σ.s=_;unfold hN ke gi;rw[Y9 b.k,Y9 b.e,b.n,b.a]
 exact⟨by rw[this],by rw[this],b.z⟩
def Bd.h3(a:Bd f σ){l:List UInt8}(c:kd≠5):Er f (U t kd l σ):=by
 have b:U t kd l σ=bK σ:=by
  unfold U lC bK;have:=a.is (l:=l) c;unfold aA at this;rw[this];simp
 rw[b];exact a.fs
def gj(kd:Nat)(a:List UInt8):Bool:=(kd==2&&Mar.c9 a)||(kd==4&&(a.length==1&&Mar.b8 (a.getD 0 0)))
def rS{c:List UInt8}(b:gj kd c=true):kd≠5:=by
 intro a;subst a;simp[gj]at b
def Q.is{f:Mar.aN}(j:Q t b st σ)(s:cf t st.y st.nx=.ok (f,p)){l:List UInt8}(h:gj kd l=true):aA σ kd l=(f.text==l):=by
 have m:=j.wd;rw[s]at m;obtain⟨⟨n,o,-⟩,k⟩:=m;unfold aA kG;rw[j.e,n,o];by_cases d:f.text=l
 .have r:f.F=kd:=by
   unfold gj at h;simp only[Bool.or_eq_true,Bool.and_eq_true,beq_iff_eq]at h;rcases h with⟨a,g⟩|⟨a,g,i⟩
   .rw[a];exact k.gI (by rw[d];exact g)
   .rw[a];obtain⟨c,q⟩:∃c,l=[c]:=by
     match l,g with
     |[c],_=>exact⟨c,rfl⟩
    rw[q]at i d;exact k.jP c (by simpa using i) d
  rw[r,d];simp
 .have:(f.text==l)=false:=by simpa using d
  rw[this];simp
def Q.e2{y:Mar.aN}(a:Q t b st σ)(f:cf t st.y st.nx=.ok (y,p)):Q t b { st with y:=p,nx:=none } (aO t σ):=by
 have c:=a.wd;rw[f]at c;obtain⟨⟨-,-,-,-,d⟩,-⟩:=c;refine⟨a.e,?_,a.nl,a.pd,a.nm,a.ty,a.cn,a.pg,a.d2,a.dH,a.ou,a.pr,a.dY,a.d5⟩;show Wd (nV t p) (dL t σ.s.x.fin);rw[d];exact oM t p
def Q.d6{d:Mar.aN}(a:Q t b st σ)(f:cf t st.y st.nx=.ok (d,p)):Q t b { st with y:=p,nx:=some d } σ:=by
 have c:=a.wd;rw[f]at c;exact⟨a.e,c,a.nl,a.pd,a.nm,a.ty,a.cn,a.pg,a.d2,a.dH,a.ou,a.pr,a.dY,a.d5⟩
def Q.fv(e:Q t b st σ)(a:List UInt8):(ak b.nl a=none/\cF σ a<0)\/(∃(i:Nat) (c:Option ah) (j:bl),ak b.nl a=some c/\cF σ a=(i:Int)/\b.nl[i]? = some (a,c)/\σ.A[i]? = some j/\gB σ.w b.nl (a,c) j):=by
 have m:cF σ a=eY (b.nl.map (·.1)) a:=by unfold cF;rw[e.nm.g8]
 rw[m];rcases ra b.nl a with f|⟨i,c,f,k,d⟩
 .exact Y8 f
 .right;have l:i<b.nl.length:=by
   rcases Yj i b.nl.length with g|g
   .exact g
   .rw[YA g]at d;cases d
  have h:i<σ.A.length:=by rw[e.nm.am];exact l
  exact⟨i,c,σ.A[i],f,k,d,Yd h,e.nm.dG i _ _ d (Yd h)⟩
end
section
variable {a kd p:Nat}{nl:Nl}{d h τ:Type}
variable {t : List UInt8} {st g : St} {σ i j σ1 σ2 : Z} {b c : aV} {f : Mar.aD}
def S(t:List UInt8)(b:d->aV->Prop)(e:Except Mar.aD (d×St))(σ:Z):Prop:=match e with
 |.ok (a,g)=>∃c,Q t c g σ/\b a c
 |.error f=>Er f σ
def Sx(t:List UInt8)(b:d->τ->aV->Prop)(e:Except Mar.aD (d×τ×St))(σ:Z):Prop:=match e with
 |.ok (a,h,g)=>∃c,Q t c g σ/\b a h c
 |.error f=>Er f σ
def ye{i:d->aV->Prop}{R':h->aV->Prop}{e:PM d}{k:d->PM h}(b:S t i (e st) σ1)(p:ar σ1 σ2)(o:∀a g c,Q t c g σ1->i a c->S t R' (k a g) σ2):S t R' (aE e k st) σ2:=by
 unfold aE;cases j:e st with
 |ok l=>rw[j]at b;obtain⟨c,m,n⟩:=b;exact o l.1 l.2 c m n
 |error f=>rw[j]at b;exact Er.cs b p
def iL{k:d->τ->aV->Prop}{R':h->τ->aV->Prop}{e:PX τ d}{m:d->PX τ h}{j:τ}(b:Sx t k (e j st) σ1)(r:ar σ1 σ2)(q:∀a n g c,Q t c g σ1->k a n c->Sx t R' (m a n g) σ2):Sx t R' (aK e m j st) σ2:=by
 unfold aK;cases l:e j st with
 |ok i=>rw[l]at b;obtain⟨c,o,p⟩:=b;exact q i.1 i.2.1 i.2.2 c o p
 |error f=>rw[l]at b;exact Er.cs b r
def jV{g:d->aV->Prop}{e:PM d}{i:τ}(b:S t g (e st) σ1):Sx t (λa l c=>g a c/\l=i) (lift e i st) σ1:=by
 unfold lift;cases h:e st with
 |ok m=>rw[h]at b;obtain⟨c,j,k⟩:=b;exact⟨c,j,k,rfl⟩
 |error f=>rw[h]at b;exact b
def S.aL{R e:d->aV->Prop}{f:Except Mar.aD (d×St)}(b:S t R f σ)(i:∀a c,R a c->e a c):S t e f σ:=by
 unfold S at *
 split at b
 .obtain⟨c,g,h⟩:=b;exact⟨c,g,i _ _ h⟩
 .exact b
def yj{R e:d->τ->aV->Prop}{f:Except Mar.aD (d×τ×St)}(b:Sx t R f σ)(j:∀a g c,R a g c->e a g c):Sx t e f σ:=by
 unfold Sx at *
 split at b
 .obtain⟨c,h,i⟩:=b;exact⟨c,h,j _ _ _ i⟩
 .exact b
def S.ret{c:d->aV->Prop}{a:d}(e:Q t b st σ)(f:c a b):S t c (bQ a st) σ:=⟨b,e,f⟩
def Sx.ret{c:d->τ->aV->Prop}{a:d}{e:τ}(f:Q t b st σ)(g:c a e b):Sx t c (dq a e st) σ:=⟨b,f,g⟩
def rZ(g:Q t b st σ)(a:List UInt8):(∀f,ak b.nl a=some f->ak st.A a=some f)/\(ak b.nl a=none->ak st.A a=none\/ak st.A a=some none):=by
 rw[g.nl];unfold ak;rw[List.find?_append];constructor
 .intro f c;cases d:b.nl.find? (λp=>p.1==a)with
  |none=>rw[d]at c;cases c
  |some j=>rw[d]at c;simpa using c
 .intro c;cases d:b.nl.find? (λp=>p.1==a)with
  |some j=>rw[d]at c;cases c
  |none=>
   rcases g.pd with e|⟨i,e,-⟩
   .rw[e];left;rfl
   .rw[e];by_cases h:(i==a)=true
    .right;simp[h]
    .left;simp[h]
def pk(t:List UInt8)(st:St):(∃b p,cf t st.y st.nx=.ok (b,p))\/∃f,cf t st.y st.nx=.error f:=by
 cases c:cf t st.y st.nx with
 |ok a=>exact Y8 ⟨a.1,a.2,rfl⟩
 |error f=>exact Ya ⟨f,rfl⟩
def jp{y:Mar.aN}(a:cf t st.y st.nx=.ok (y,p)):next (aH t) st=.ok (y,{ st with y:=p,nx:=none }):=by
 unfold next;rw[a]
def jo(a:cf t st.y st.nx=.error f):next (aH t) st=.error f:=by
 unfold next;rw[a]
def hk{a:Mar.aN}(b:cf t st.y st.nx=.ok (a,p)):ed (aH t) st=.ok (a,{ st with y:=p,nx:=some a }):=by
 unfold ed;rw[b]
def js(a:cf t st.y st.nx=.error f):ed (aH t) st=.error f:=by
 unfold ed;rw[a]
def Cc(c:Q t b st σ){l:List UInt8}(d:gj kd l=true):(∃f,eD (aH t) l st=.error f/\Bd f σ)\/∃g,eD (aH t) l st=.ok (aA σ kd l,g)/\Q t b g σ:=by
 rcases pk t st with⟨e,p,a⟩|⟨f,a⟩
 .right;refine⟨_,?_,c.d6 a⟩;unfold eD;rw[hk a,c.is a d]
 .left;exact⟨f,by unfold eD;rw[js a],c.bd a⟩
def yN(c:Q t b st σ){l:List UInt8}(i:gj kd l=true):(∃f,fD (aH t) l st=.error f/\Bd f σ)\/(∃g,fD (aH t) l st=.ok (true,g)/\aA σ kd l=true/\Q t b g (aO t σ))\/∃g,fD (aH t) l st=.ok (false,g)/\aA σ kd l=false/\Q t b g σ:=by
 rcases pk t st with⟨h,p,a⟩|⟨f,a⟩
 .right;have e:eD (aH t) l st=.ok (aA σ kd l,{ st with y:=p,nx:=some h }):=by
   unfold eD;rw[hk a,c.is a i]
  cases d:aA σ kd l with
  |true=>
   left;refine⟨{ st with y:=p,nx:=none },?_,rfl,c.e2 a⟩;unfold fD aE;rw[e,d];rfl
  |false=>
   right;refine⟨{ st with y:=p,nx:=some h },?_,rfl,c.d6 a⟩;unfold fD aE;rw[e,d];rfl
 .left;refine⟨f,?_,c.bd a⟩;unfold fD aE eD;rw[js a]
def oK{b:List UInt8}(a:aA σ kd b=true):U t kd b σ=aO t σ:=by
 unfold U lC aO;unfold aA at a;rw[a];rfl
def wo{b:List UInt8}(a:aA σ kd b=false):U t kd b σ=bK σ:=by
 unfold U lC bK;unfold aA at a;rw[a];rfl
def Q.fn{a:Mar.aN}(c:Q t b st σ)(i:cf t st.y st.nx=.ok (a,p)):Er ⟨3,a.y⟩ (bK σ):=by
 have d:=c.wd;rw[i]at d;obtain⟨⟨f,j,k,g,l⟩,h⟩:=d;have:(bK σ).s=⟨σ.s.x,3,a.y⟩:=by
  show hN σ.s=_;unfold hN ke gi;have:=h.jX;rw[Y2 (by rw[f];omega),Y9 c.e,g]
 exact⟨by rw[this];rfl,by rw[this],by simp⟩
def nX(d:Q t b st σ){l:List UInt8}(h:gj kd l=true):S t (λ(j:Mar.aN) c=>c=b/\j.y=σ.s.x.y) (bX (aH t) l st) (U t kd l σ):=by
 unfold bX aE;rcases pk t st with⟨k,p,a⟩|⟨f,a⟩
 .rw[jp a];have e:=d.is a h;have i:=d.wd;rw[a]at i;simp only;cases g:(k.text==l)with
  |true=>
   rw[g]at e;rw[Y9 rfl,oK e];exact⟨b,d.e2 a,rfl,i.1.2.2.2.1.symm⟩
  |false=>
   rw[g]at e;rw[Y2 (by simp),wo e];exact d.fn a
 .rw[jo a];exact(d.bd a).h3 (rS h)
def Q.c1(c:Q t b st σ){e:Nat}(d:e≠0):Er ⟨e,a⟩ (bq e a σ):=by
 have:(bq e a σ).s=⟨σ.s.x,e,a⟩:=by
  unfold bq gi;rw[Y9 c.e]
 exact⟨by rw[this],by rw[this],d⟩
def lS(b:σ.s.e=0){e:Nat}(c:e≠0):Er ⟨e,a⟩ (bq e a σ):=by
 have:(bq e a σ).s=⟨σ.s.x,e,a⟩:=by
  unfold bq gi;rw[Y9 b]
 exact⟨by rw[this],by rw[this],c⟩
def Bd.h2(a:Bd f σ)(c b:Int):Er f (be t c b σ).2:=by
 unfold be;rw[Y2 (by simpa using a.e),Y2 (by rw[a.k];omega),Y2 (by rw[a.is (by omega)];simp),Y2 (by rw[a.is (by omega)];simp),Y2 (by rw[a.k];omega)];exact a.fs
def uW(j:Q t b st σ){i:Mar.aN}(m:cf t st.y st.nx=.ok (i,p))(g f d:Int) :
  S t (λ(l:Int×Nat) c=>c=b/\(dp t g f d σ).1=(l.1,(l.2:Int))/\l.1=d/\cO g f d=true) ((if cO g f d then bQ (d,i.y)else eg 8 i.y) { st with y:=p,nx:=none }) (dp t g f d σ).2:=by
 have k:=j.wd;rw[m]at k;unfold dp;by_cases h:cO g f d=true
 .have:¬(d<g\/f<d):=by simp[cO]at h;omega
  rw[Y9 h,Y2 this];exact⟨b,j.e2 m,rfl,by simp only;rw[k.1.2.2.2.1],rfl,h⟩
 .have:d<g\/f<d:=by simp[cO]at h;omega
  rw[Y2 h,Y9 this,k.1.2.2.2.1];exact j.c1 (e:=8) (a:=i.y) (by omega)
def uY(i:Q t b st σ)(h g:Int):S t (λ(j:Int×Nat) c=>c=b/\(be t h g σ).1=(j.1,(j.2:Int))/\cO h g j.1=true) (iw (aH t) (cO h g) st) (be t h g σ).2:=by
 unfold iw aE;rcases pk t st with⟨d,p,m⟩|⟨f,m⟩
 .rw[jp m];have E:=i.wd;rw[m]at E;obtain⟨⟨C,H,N,I,a5⟩,K⟩:=E;have J:=i.is m (kd:=2) (l:=[84,82,85,69]) (by decide);have hF:=i.is m (kd:=2) (l:=[70,65,76,83,69]) (by decide);unfold be;rw[Y2 (by simpa using i.e)];simp only;unfold dx;have B:∀u,S t (λ(j:Int×Nat) c=>c=b/\(dp t h g u σ).1=(j.1,(j.2:Int))/\cO h g j.1=true) ((if cO h g u then bQ (u,d.y)else eg 8 d.y) { st with y:=p,nx:=none }) (dp t h g u σ).2:=λu=>
   (uW i m h g u).aL λj c D=>⟨D.1,D.2.1,by rw[D.2.2.1];exact D.2.2.2⟩
  by_cases L:d.F=3
  .rw[Y9 (c:=σ.s.x.F=3) (by rw[C,L]),Y9 (c:=((d.F:Int)==3)=true) (by rw[L];rfl),N];exact B d.n
  .rw[Y2 (c:=σ.s.x.F=3) (by rw[C];omega),Y2 (c:=((d.F:Int)==3)=true) (by simp;omega)];by_cases F:d.F=1
   .have a3:(d.text==[84,82,85,69])=false:=by
     simp only[Yi];intro r;have:=K.gI (by rw[r];decide);omega
    have a2:(d.text==[70,65,76,83,69])=false:=by
     simp only[Yi];intro r;have:=K.gI (by rw[r];decide);omega
    rw[J,hF,a3,a2,Y9 (c:=σ.s.x.F=1) (by rw[C,F]),Y9 (c:=((d.F:Int)==1)=true) (by rw[F];rfl)];simp only[Ye,if_false]
    unfold iV;obtain⟨P,R⟩:=rZ i d.text;rw[H];rcases i.fv d.text with⟨n,G⟩|⟨a6,a4,e,n,G,a7,a0,a1⟩
    .rw[Y9 (Y8 G),I];rcases R n with n|n
     .rw[n];exact i.c1 (e:=7) (a:=d.y) (by omega)
     .rw[n];exact i.c1 (e:=7) (a:=d.y) (by omega)
    .rw[P _ n];have O:gm σ=e:=by
      unfold gm;rw[H,G,Int.toNat_natCast,List.getD_eq_getElem?_getD,a0];rfl
     rw[O];have q:e.az≠0->S t (λ(j:Int×Nat) c=>c=b/\(if cF σ d.text<0\/e.az≠0 then ((0,0),bq 7 ↑σ.s.x.y σ)else dp t h g e.n σ).1=(j.1,(j.2:Int))/\cO h g j.1=true) (.error ⟨7,d.y⟩) (if cF σ d.text<0\/e.az≠0 then ((0,0),bq 7 ↑σ.s.x.y σ)else dp t h g e.n σ).2:=λE=>by
      rw[Y9 (Ya E),I];exact i.c1 (e:=7) (a:=d.y) (by omega)
     have o:=a1.2;cases a4 with
     |none=>exact q (by have:e.az=2:=o;omega)
     |some y=>
      cases y with
      |const a w v=>
       have M:e.az=0/\e.n=v:=o;rw[Y2 (by rw[M.1];simp;omega),M.2];exact B v
      |prog a w k y=>exact q (by have:e.az=2:=o;omega)
      |typedef y=>exact q (by have:e.az=1:=o.1;omega)
      |enum a w k=>exact q (by have:e.az=1:=o.1;omega)
      |struct a w k=>exact q (by have:e.az=1:=o.1;omega)
      |union a w k y=>exact q (by have:e.az=1:=o.1;omega)
   .rw[Y2 (c:=((d.F:Int)==1)=true) (by simp;omega),J,hF];by_cases A:(d.text==[84,82,85,69])=true
    .rw[Y9 A,Y9 A];exact B 1
    .rw[Y2 A,Y2 A];by_cases z:(d.text==[70,65,76,83,69])=true
     .rw[Y9 z,Y9 z];exact B 0
     .rw[Y2 z,Y2 z,Y2 (by rw[C];exact F)];exact i.fn m
 .rw[jo m];exact(i.bd m).h2 h g
def Bd.gW(a:Bd f σ):Er f (bv t σ).2:=by
 unfold bv lD;rw[Y2 (by simpa using a.e),Y2 (by rw[a.k];omega)];exact a.fs
def Bd.h8(b:Bd f σ)(c:Int):Er f (an t c σ).2:=by
 have a:=b.gW (t:=t);unfold an;rw[Y9 a.e4];exact a
def Bd.i5(b:Bd f σ)(a:List (List UInt8))(all:Bool):Er f (bH t a all σ).2:=(b.gW (t:=t)).cs (by
 unfold bH;simp only;generalize (if all=true then decide (0<=cF (bv t σ).2 (bv t σ).1.text)else a.contains (bv t σ).1.text)=c
 split
 .exact fi _ _ _
 .exact eR _)
def oN{a:Mar.aN}(c:Q t b st σ)(i:cf t st.y st.nx=.ok (a,p))(j:a.F=1):(bv t σ).1.text=a.text/\(bv t σ).1.y=a.y/\(bv t σ).2=aO t σ:=by
 have d:=c.wd;rw[i]at d;obtain⟨⟨f,g,k,h,l⟩,m⟩:=d;unfold bv lD;rw[Y2 (by simpa using c.e),Y9 (by rw[f];exact j)];exact⟨g,h,rfl⟩
def oO{d:Mar.aN}(a:Q t b st σ)(g:cf t st.y st.nx=.ok (d,p))(h:d.F≠1):(bv t σ).2=bK σ:=by
 have c:=a.wd;rw[g]at c;obtain⟨⟨f,i,j,k,l⟩,m⟩:=c;unfold bv lD;rw[Y2 (by simpa using a.e),Y2 (by rw[f];exact h)];rfl
def jh(nl:Nl)(b a:List UInt8)(d:ak nl b=none):ak (nl++[(b,none)]) a=if a=b then some none else ak nl a:=by
 unfold ak at *
 rw[List.find?_append];by_cases c:a=b
 .subst c;cases e:nl.find? (λp=>p.1==a)with
  |none=>simp
  |some g=>rw[e]at d;simp at d
 .rw[Y2 c];cases e:nl.find? (λp=>p.1==a)with
  |none=>
   have:(b==a)=false:=by simp;exact λf=>c f.symm
   simp[this]
  |some g=>simp
def rL{a:List UInt8}(c:ak nl a=none):Kp nl (nl++[(a,none)]):=λe f b=>by
 rw[jh nl a e c];by_cases d:e=a
 .rw[d,c]at b;cases b
 .rw[Y2 d];exact b
def kK{a:List UInt8}(b:ak nl a=none):a ∉ nl.map (·.1):=by
 intro d;obtain⟨f,e,c⟩:=YE.1 d;unfold ak at b;have:nl.find? (λp=>p.1==a)=none:=by simpa using b
 rw[List.find?_eq_none]at this;exact this f e (by simp[c])
def dE.d1{l:List aG}{k:List bl}(c:dE l nl k){g:List UInt8}(i:ak nl g=none)(q a:Int):dE l (nl++[(g,none)]) (k++[⟨g,2,q,a⟩]):=by
 refine⟨by simp[c.am],?_,?_⟩
 .intro f p r b d;rcases Yj f nl.length with e|e
  .rw[Ys e]at b;rw[Ys (by rw[c.am];exact e)]at d;have:=(c.dG f p r b d).a6 [] (rL i);simpa using this
  .rw[Yw e]at b;rw[Yw (by rw[c.am];exact e),c.am]at d;match h:f-nl.length with
   |0=>
    rw[h]at b d;simp at b d;subst b;subst d;exact⟨rfl,rfl⟩
   |m+1=>rw[h]at b;simp at b
 .rw[List.map_append,YJ];refine⟨c.nd,by simp,?_⟩;intro s o t j;simp at j;subst j;exact λn=>kK i (n▸o)
abbrev aV.a7(b:aV)(a:List UInt8):aV:={ b with nl:=b.nl++[(a,none)] }
def uT(j:Q t b st σ)(n:b.pd=[]):S t (λk c=>c=b.a7 k.1/\(an t 2 σ).1.text=k.1/\(an t 2 σ).1.y=k.2/\ak b.nl k.1=none/\(an t 2 σ).2.A=σ.A++[⟨k.1,2,-1,k.2⟩]) (dK (aH t) st) (an t 2 σ).2:=by
 unfold dK dh name aK lift;rcases pk t st with⟨g,p,i⟩|⟨f,i⟩
 .rw[jp i];simp only;by_cases o:g.F=1
  .obtain⟨u,v,y⟩:=oN j i o;rw[Y9 (by rw[o];rfl)];have d:=j.e2 i;have w:ak b.nl g.text=none/\cF (aO t σ) g.text<0\/(∃l,ak b.nl g.text=some l)/\0<=cF (aO t σ) g.text:=by
    rcases d.fv g.text with h|⟨z,l,A,h,m,-⟩
    .exact Y8 h
    .exact Ya ⟨⟨l,h⟩,by omega⟩
   have r:st.A=b.nl:=by rw[j.nl,n];simp
   have x:(bM fK).a2 g () { st with y:=p,nx:=none } = match ak b.nl g.text with
     |none=>.ok ((),(),{ st with y:=p,nx:=none,A:=b.nl++[(g.text,none)] })
     |some _=>.error ⟨6,g.y⟩:=by
    show lift (ew g) () { st with y:=p,nx:=none } = _;unfold lift ew;rw[show ak ({ st with y:=p,nx:=none }:St).A g.text=ak b.nl g.text by rw[<-r]];cases ak b.nl g.text with
    |none=>simp only[r]
    |some l=>rfl
   rw[x];unfold an;rw[y,Y2 (by simpa using d.e),u,v];rcases w with⟨h,m⟩|⟨⟨l,h⟩,m⟩
   .rw[h,Y2 (by omega)];refine⟨b.a7 g.text,⟨d.e,d.wd,?_,Y8 n,d.nm.d1 h _ _,d.ty,d.cn,d.pg,d.d2,d.dH,d.ou,d.pr,d.dY,d.d5.d1 d.nm.am _ _⟩,rfl,u,v,h,rfl⟩;rw[n,YH]
   .rw[h,Y9 m];exact d.c1 (e:=6) (a:=g.y) (by omega)
  .rw[Y2 (by simp;omega)];have s:=oO j i o;have q:=j.fn i;have:(an t 2 σ).2=bK σ:=by
    unfold an;rw[s,Y9 q.e4,s]
   rw[this];exact q
 .rw[jo i];exact(j.bd i).h8 2
def Cn(i:Q t b st σ)(d:List (List UInt8))(a q:Nat):Sx t (λo y c=>c=b/\(bH t d false σ).1.text=o.1/\(bH t d false σ).1.y=o.2/\y=d++[o.1]) (name (aH t) (bw a q) d st) (bH t d false σ).2:=by
 unfold name aK lift;rcases pk t st with⟨g,p,e⟩|⟨f,e⟩
 .rw[jp e];simp only;by_cases n:g.F=1
  .obtain⟨u,v,w⟩:=oN i e n;rw[Y9 (by rw[n];rfl)];have m:=i.e2 e;have x:(bw a q).a2 g d { st with y:=p,nx:=none } = if d.contains g.text=true then .error ⟨6,g.y⟩else .ok ((),d++[g.text],{ st with y:=p,nx:=none }):=by
    show lf (mi g) d { st with y:=p,nx:=none } = _;unfold lf mi;split<;>rename_i h
    .split at h
     .cases h
     .rename_i l;cases h;rw[Y2 l]
    .split at h
     .rename_i l;cases h;rw[Y9 l]
     .cases h
   rw[x];unfold bH;simp only[Ye,if_false]
   rw[w,u,v];by_cases k:d.contains g.text=true
   .rw[Y9 k,Y9 ⟨m.e,k⟩];exact m.c1 (e:=6) (a:=g.y) (by omega)
   .rw[Y2 k,Y2 (λj=>k j.2)];exact⟨b,by rw[w];exact m,rfl,u,v,rfl⟩
  .rw[Y2 (by simp;omega)];have s:=oO i e n;have r:=i.fn e;have:(bH t d false σ).2=bK σ:=by
    unfold bH;simp only;rw[s,Y2 (λj=>r.e4 j.1)];exact s
   rw[this];exact r
 .rw[jo e];exact(i.bd e).i5 d false
end
section
variable {all:Bool}{i:Int}{r:aG}{h:Ty}{j o τ:Type}
variable {t : List UInt8} {st n : St} {a p q σ1 σ2 : Z} {g b : aV} {f : Mar.aD}
def Q.len5(b:Q t g st a):5<=a.w.length:=by
 obtain⟨d,c⟩:=b.d2;rw[c,Yq];simp[gY]
def ep.lt{c:List aG}(n:5<=c.length)(a:ep c h i):i<c.length:=by
 have e:∀{r:aG},0<=i->c[i.toNat]? = some r->i<c.length:=λd b=>by
  have:i.toNat<c.length:=by
   rcases Yj i.toNat c.length with g|g
   .exact g
   .rw[YA g]at b;cases b
  omega
 cases h with
 |plain o=>have:=a.1;have:=a.2;omega
 |named p m=>obtain⟨d,r,b,-⟩:=a;exact e d b
 |opaq j f=>exact e a.1 a.2
 |str j f=>exact e a.1 a.2
 |arr l j f=>obtain⟨d,k,b,-⟩:=a;exact e d b
 |opt l=>obtain⟨d,k,b,-⟩:=a;exact e d b
 |void=>have:i = -1:=a;omega
def Q.rowW(b:Q t g st a)(j:lT (max a.w.length 5) r):Q t { g with rf:=g.rf++if r.kind=14 then [(r.name,r.y)]else [] } st (bI r a):=by
 refine⟨b.e,b.wd,b.nl,b.pd,b.nm.a6 [r],b.ty,b.cn,b.pg,?_,?_,b.ou,b.pr,by show eA (a.w++[r])=_;rw[BT,b.dY],b.d5⟩
 .obtain⟨k,h⟩:=b.d2;exact⟨k++[r],by show a.w++[r]=_;rw[h,YN]⟩
 .intro i l c;rcases Yj i a.w.length with d|d
  .rw[show (bI r a).w=a.w++[r]from rfl,Ys d]at c;exact b.dH i l c
  .rw[show (bI r a).w=a.w++[r]from rfl,Yw d]at c;match f:i-a.w.length with
   |0=>
    rw[f]at c;simp at c;subst c;have:i=a.w.length:=by omega
    rw[this];exact j
   |m+1=>rw[f]at c;simp at c
def Q.row(b:Q t g st a)(d:lT (max a.w.length 5) r)(c:r.kind≠14):Q t g st (bI r a):=by
 have:=b.rowW d;rw[Y2 c,YH]at this;exact this
def row_at(a:Z)(r:aG):(bI r a).w[((a.w.length:Nat):Int).toNat]? = some r:=by
 show (a.w++[r])[_]? = _;simp
def brkS(a:Int)(f:Bool):List UInt8:=if f then [91]++dn a++[93]else [60]++dn a++[62]
def zR:Ty->List UInt8
 |.opaq _ _=>[111,112,97,113,117,101,32]
 |.str _ _=>[115,116,114,105,110,103,32]
 |.arr a _ _=>Ci a++[32]
 |.opt a=>Ci a++[32,42]
 |h=>Ci h++[32]
def yX:Ty->List UInt8
 |.opaq a f=>brkS a f
 |.str a _=>brkS a false
 |.arr _ a f=>brkS a f
 |_=>[]
def WordTy(h:Ty):Prop:=(∃a,h=.plain a/\a<=4)\/∃c b,h=.named c b
def WordTy.e8(a:WordTy h):zR h=Ci h++[32]/\yX h=[]:=by
 rcases a with⟨c,rfl,-⟩|⟨d,b,rfl⟩<;>exact⟨rfl,rfl⟩
def WordTy.k1{b:List aG}(a:WordTy h)(r:ep b h i):0<=i:=by
 rcases a with⟨d,rfl,-⟩|⟨e,c,rfl⟩
 .have:=r.1;omega
 .exact r.1
def Ew(f:Mar.aD)(a:Z):Prop:=Er f a\/Bd f a
def Sw(t:List UInt8)(c:j->aV->Prop)(r:Except Mar.aD (j×St))(a:Z):Prop:=match r with
 |.ok (d,n)=>∃b,Q t b n a/\c d b
 |.error f=>Ew f a
def Sy(t:List UInt8)(c:j->τ->aV->Prop)(r:Except Mar.aD (j×τ×St))(a:Z):Prop:=match r with
 |.ok (d,e,n)=>∃b,Q t b n a/\c d e b
 |.error f=>Ew f a
def Sx.weak{c:j->τ->aV->Prop}{r:Except Mar.aD (j×τ×St)}(b:Sx t c r a):Sy t c r a:=by
 unfold Sx at b;split at b
 .exact b
 .exact Y8 b
def Sy.c7{g:j->τ->aV->Prop}{R':o->τ->aV->Prop}{c:PX τ j}{k:j->PX τ o}{e:τ}(a:Sx t g (c e st) σ1)(r:ar σ1 σ2)(q:∀h l n b,Q t b n σ1->g h l b->Sy t R' (k h l n) σ2):Sy t R' (aK c k e st) σ2:=by
 unfold aK;cases i:c e st with
 |ok d=>rw[i]at a;obtain⟨b,m,p⟩:=a;exact q d.1 d.2.1 d.2.2 b m p
 |error f=>rw[i]at a;exact Y8 (Er.cs a r)
def Sy.e2{g:j->τ->aV->Prop}{h:o->τ->aV->Prop}{c:PX τ j}{l:j->PX τ o}{e:τ}(a:Sy t g (c e st) σ1)(u:ar σ1 σ2)(r:∀f,Bd f σ1->Er f σ2)(s:∀i m n b,Q t b n σ1->g i m b->Sx t h (l i m n) σ2):Sx t h (aK c l e st) σ2:=by
 unfold aK;cases k:c e st with
 |ok d=>rw[k]at a;obtain⟨b,p,q⟩:=a;exact s d.1 d.2.1 d.2.2 b p q
 |error f=>
  rw[k]at a;rcases a with a|a
  .exact Er.cs a u
  .exact r f a
def Sw.e2{d:j->aV->Prop}{e:o->aV->Prop}{c:PM j}{i:j->PM o}(a:Sw t d (c st) σ1)(r:ar σ1 σ2)(p:∀f,Bd f σ1->Er f σ2)(q:∀g n b,Q t b n σ1->d g b->S t e (i g n) σ2):S t e (aE c i st) σ2:=by
 unfold Go.Proofs.YtjdhaegijjednaaGreatDoor.c7;cases h:c st with
 |ok k=>rw[h]at a;obtain⟨b,l,m⟩:=a;exact q k.1 k.2 b l m
 |error f=>
  rw[h]at a;rcases a with a|a
  .exact Er.cs a r
  .exact p f a
def Sw.gP{d:j->aV->Prop}{c:PM j}{g:τ}(a:Sw t d (c st) σ1):Sy t (λh l b=>d h b/\l=g) (lift c g st) σ1:=by
 unfold Go.Proofs.YtjdhaegijjednaaGreatDoor.gP;cases e:c st with
 |ok m=>rw[e]at a;obtain⟨b,i,k⟩:=a;exact⟨b,i,k,rfl⟩
 |error f=>rw[e]at a;exact a
def Bd.kind(b:Bd f a):Er f (bY t a).2:=by
 unfold bY;have c:∀d,¬(a.s.x.kind=2/\a.s.x.text=d):=λd g=>by rw[b.k]at g;omega
 rw[Y2 (by simpa using b.e),Y2 (by rw[b.k];omega),Y2 (c _),Y2 (c _),Y2 (c _),Y2 (c _)];exact b.fs
def sim_kind(o:Q t g st a):Sw t (λh b=>b=g.c5 (wb h)/\WordTy h/\ep (bY t a).2.w h (bY t a).1.1/\(bY t a).1.2=Ci h) (oB (aH t) st) (bY t a).2:=by
 unfold oB Go.Proofs.YtjdhaegijjednaaGreatDoor.c7;rcases pk t st with⟨i,K,j⟩|⟨f,j⟩
 .rw[jp j];have E:=o.wd;rw[j]at E;obtain⟨⟨A,w,M,D,N⟩,H⟩:=E;have p:=o.e2 j;unfold CS bY;rw[Y2 (by simpa using o.e)];have e:∀y,Mar.c9 y=true->((a.s.x.kind=2/\a.s.x.text=y)↔(i.text==y)=true):=λy J=>by
   rw[A,w];simp only[beq_iff_eq];exact⟨λd=>d.2,λd=>⟨H.key (by rw[d];exact J),d⟩⟩
  simp only;by_cases C:i.kind=1
  .rw[Y9 (c:=((i.kind:Int)==1)=true) (by rw[C];rfl),Y9 (c:=a.s.x.kind=1) (by rw[A];exact C)];have I:=p.rowW (r:=tN a.s.x.text a.s.x.y) ⟨by simp[tN]<;>omega,by simp[tN],by simp[tN]<;>omega,by simp[tN]⟩;refine⟨_,I,by simp[aV.c5,wb,tN,w,D],Ya ⟨_,_,rfl⟩,⟨by simp,_,row_at _ _,rfl,w,by show ((a.s.x.y:Nat):Int)=_;rw[D]⟩,w⟩
  .rw[Y2 (c:=((i.kind:Int)==1)=true) (by simp;omega),Y2 (c:=a.s.x.kind=1) (by rw[A];exact C)];by_cases q:(i.text==[105,110,116])=true
   .rw[Y9 q,Y9 ((e _ (by decide)).2 q)];exact⟨g,p,(aV.k6 g).symm,Y8 ⟨0,rfl,by omega⟩,⟨rfl,by omega⟩,rfl⟩
   .rw[Y2 q,Y2 (λd=>q ((e _ (by decide)).1 d))];by_cases s:(i.text==[104,121,112,101,114])=true
    .rw[Y9 s,Y9 ((e _ (by decide)).2 s)];exact⟨g,p,(aV.k6 g).symm,Y8 ⟨2,rfl,by omega⟩,⟨rfl,by omega⟩,rfl⟩
    .rw[Y2 s,Y2 (λd=>s ((e _ (by decide)).1 d))];by_cases u:(i.text==[98,111,111,108])=true
     .rw[Y9 u,Y9 ((e _ (by decide)).2 u)];exact⟨g,p,(aV.k6 g).symm,Y8 ⟨4,rfl,by omega⟩,⟨rfl,by omega⟩,rfl⟩
     .rw[Y2 u,Y2 (λd=>u ((e _ (by decide)).1 d))];by_cases v:(i.text==[117,110,115,105,103,110,101,100])=true
      .rw[Y9 v,Y9 ((e _ (by decide)).2 v)];unfold hw;rcases yN p (kd:=2) (l:=[104,121,112,101,114]) (by decide)with⟨G,m,a2⟩|⟨F,m,a2,a3⟩|⟨F,m,a2,a3⟩
       .unfold Go.Proofs.YtjdhaegijjednaaGreatDoor.c7;rw[m,Y2 (by rw[a2.is (by omega)];simp),Y2 (by rw[a2.is (by omega)];simp)];exact Ya a2
       .unfold Go.Proofs.YtjdhaegijjednaaGreatDoor.c7;rw[m,Y9 a2];exact⟨g,a3,(aV.k6 g).symm,Y8 ⟨3,rfl,by omega⟩,⟨rfl,by omega⟩,rfl⟩
       .rw[Y2 (by rw[a2];simp)];have d:∀(B:Bool->PM Ty),Go.Proofs.YtjdhaegijjednaaGreatDoor.c7 (fD (aH t) [104,121,112,101,114]) B { st with at':=K,nx:=none } = B false F:=λB=>by unfold Go.Proofs.YtjdhaegijjednaaGreatDoor.c7;rw[m]
        rw[d];simp only[Ye,if_false]
        unfold Go.Proofs.YtjdhaegijjednaaGreatDoor.c7;rcases yN a3 (kd:=2) (l:=[105,110,116]) (by decide)with⟨G,n,k⟩|⟨L,n,k,z⟩|⟨L,n,k,z⟩
        .rw[n,Y2 (by rw[k.is (by omega)];simp)];exact Ya k
        .rw[n,Y9 k];exact⟨g,z,(aV.k6 g).symm,Y8 ⟨1,rfl,by omega⟩,⟨rfl,by omega⟩,rfl⟩
        .rw[n,Y2 (by rw[k];simp)];exact⟨g,z,(aV.k6 g).symm,Y8 ⟨1,rfl,by omega⟩,⟨rfl,by omega⟩,rfl⟩
      .rw[Y2 v,Y2 (λd=>v ((e _ (by decide)).1 d))];exact Y8 (o.fn j)
 .rw[jo j];exact Y8 (o.bd j).kind
def Bd.bound0(c:Bd f a):Er f (es t false a).2:=by
 have b:=c.h3 (t:=t) (kd:=4) (l:=[60]) (by omega);unfold es;rw[Y2 (by simp)];rw[Y2 (by rw[Aj b.e4];simp)];exact(b.cs (fO _ _ _)).cs (aR _ _ _)
def sim_most(j:Q t g st a):S t (λe b=>b=g/\e=((es t false a).1,false)) (su (aH t) st) (es t false a).2:=by
 unfold su es;rw[Y2 (by simp)];simp only;have k:=nX j (kd:=4) (l:=[60]) (by decide);generalize U t 4 [60] a=σ1 at *
 have n:ar σ1 (if aA σ1 4 [62]=true then ((4294967295:Int),U t 4 [62] σ1)else ((be t 0 4294967295 σ1).1.1,U t 4 [62] (be t 0 4294967295 σ1).2)).2:=by
  split
  .exact aR _ _ _
  .exact(fO _ _ _).trans (aR _ _ _)
 refine S.c7 k n ?_;rintro s r h o ⟨rfl,-⟩;rcases yN o (kd:=4) (l:=[62]) (by decide)with⟨w,c,a2⟩|⟨f,c,a2,a3⟩|⟨f,c,a2,a3⟩
 .unfold Go.Proofs.YtjdhaegijjednaaGreatDoor.c7;rw[c,Y2 (by rw[a2.is (by omega)];simp)];exact(a2.value 0 4294967295).cs (aR _ _ _)
 .unfold Go.Proofs.YtjdhaegijjednaaGreatDoor.c7;rw[c,Y9 a2,oK a2];exact⟨h,a3,rfl,rfl⟩
 .have i:∀(d:Bool->PM (Int×Bool)),Go.Proofs.YtjdhaegijjednaaGreatDoor.c7 (fD (aH t) [62]) d r=d false f:=λd=>by unfold Go.Proofs.YtjdhaegijjednaaGreatDoor.c7;rw[c]
  rw[i,Y2 (by rw[a2];simp)];refine S.c7 (uY a3 0 4294967295) (aR _ _ _) ?_;rintro e x u p ⟨rfl,m,-⟩;refine S.c7 (nX p (kd:=4) (l:=[62]) (by decide)) (ar.refl _) ?_;rintro s y v q ⟨rfl,-⟩;exact S.ret q ⟨rfl,by rw[m]⟩
def sim_bound1(j:Q t g st a)(c:aA a 4 [91]=true):S t (λf b=>b=g/\f=((es t true a).1,true)) (pR (aH t) st) (es t true a).2:=by
 unfold pR es;rw[Y9 rfl];simp only;rw[oK c];rcases yN j (kd:=4) (l:=[91]) (by decide)with⟨q,d,a2⟩|⟨h,d,a2,a3⟩|⟨h,d,a2,a3⟩
 .rw[a2.is (by omega)]at c;cases c
 .have i:∀(e:Bool->PM (Int×Bool)),Go.Proofs.YtjdhaegijjednaaGreatDoor.c7 (fD (aH t) [91]) e st=e true h:=λe=>by unfold Go.Proofs.YtjdhaegijjednaaGreatDoor.c7;rw[d]
  rw[i];refine S.c7 (uY a3 1 1000) (aR _ _ _) ?_;rintro f r o m ⟨rfl,k,-⟩;refine S.c7 (nX m (kd:=4) (l:=[93]) (by decide)) (ar.refl _) ?_;rintro u s p n ⟨rfl,-⟩;exact S.ret n ⟨rfl,by rw[k]⟩
 .rw[a2]at c;cases c
def sim_bound0(i:Q t g st a)(e:aA a 4 [91]=false):S t (λj b=>b=g/\j=((es t false a).1,false)) (pR (aH t) st) (es t false a).2:=by
 unfold pR;rcases yN i (kd:=4) (l:=[91]) (by decide)with⟨k,c,a2⟩|⟨f,c,a2,a3⟩|⟨f,c,a2,a3⟩
 .unfold Go.Proofs.YtjdhaegijjednaaGreatDoor.c7;rw[c];exact a2.bound0
 .rw[a2]at e;cases e
 .have h:∀(d:Bool->PM (Int×Bool)),Go.Proofs.YtjdhaegijjednaaGreatDoor.c7 (fD (aH t) [91]) d st=d false f:=λd=>by unfold Go.Proofs.YtjdhaegijjednaaGreatDoor.c7;rw[c]
  rw[h];exact sim_most a3
structure DeclOk(d:aF)(r:jM)(a:Z):Prop where
 x:r.x.text=d.t
 y:r.x.y=d.y
 e8:r.e8=zR d.ty
 e5:r.e5=yX d.ty
 k8:ep a.w d.ty r.r
 k1:0<=r.r
def stk_odd1(b:List (List UInt8))(all d:Bool)(a:Z):ar (bH t b all (aO t a)).2 (hj t b all d a).2:=by
 unfold hj;generalize bH t b all (aO t a)=r;by_cases c:aA r.2 4 [91]=true/\d=true
 .rw[Y9 c];exact(jC _ _).trans (fj _ _)
 .rw[Y2 c];exact(jC _ _).trans (fj _ _)
def stk_even1(g:List (List UInt8))(all:Bool)(a:Z):ar (bY t a).2 (hc t g all a).2:=by
 unfold hc;generalize bY t a=c;by_cases d:aA c.2 4 [42]=true
 .rw[Y9 d];exact(ch _).trans ((lk _ _ _).trans (fj _ _))
 .rw[Y2 d];generalize h:bH t g all c.2=r;have b:ar c.2 r.2:=by rw[<-h];exact lk _ _ _
  by_cases e:aA r.2 4 [91]=true
  .rw[Y9 e];exact b.trans ((jC _ _).trans (fj _ _))
  .rw[Y2 e];by_cases f:aA r.2 4 [60]=true
   .rw[Y9 f];exact b.trans ((jC _ _).trans (fj _ _))
   .rw[Y2 f];exact b
def Bd.even(c:Bd f a)(b:List (List UInt8))(all:Bool):Er f (hc t b all a).2:=(c.kind (t:=t)).cs (stk_even1 b all a)
def even_bd(d:List (List UInt8))(all:Bool)(c:Bd f (bY t a).2):Er f (hc t d all a).2:=by
 unfold hc;rw[Y2 (by rw[c.is (by omega)];simp)];have b:=c.i5 (t:=t) d all;rw[Y2 (by rw[Aj b.e4];simp),Y2 (by rw[Aj b.e4];simp)];exact b
def Bd.h7(b:Bd f a)(c:List (List UInt8))(all:Bool):Er f (bf t c all a).2:=by
 unfold bf;rw[Y2 (by rw[b.is (by omega),b.is (by omega)];simp)];exact b.even c all
abbrev DeclH(τ:Type):=List (List UInt8×Nat)->(List UInt8×Nat)->τ->aV->Prop
abbrev DeclG(τ:Type):=(List UInt8×Nat)->τ->aV->Prop
def ClOk(t:List UInt8)(e:jK τ)(h:τ)(d:List (List UInt8))(all:Bool)(g:aV)(f:DeclG τ):Prop:=
 ∀st a,Q t g st a->Sx t (λc i b=>f c i b/\(bH t d all a).1.text=c.1/\(bH t d all a).1.y=c.2) (name (aH t) e h st) (bH t d all a).2
def sim_odd{h:jK τ}{m:τ}{c:List (List UInt8)}{i:DeclH τ}(q:ClOk t h m c all g (i []))(v:Q t g st (aO t a))(k:a.s.x.text=[111,112,97,113,117,101])(u:aA a 2 [115,116,114,105,110,103]=false) :
  Sx t (λd y b=>i (wb d.ty) (d.t,d.y) y b/\DeclOk d (hj t c all true a).1 (hj t c all true a).2) (qu (aH t) h true m st) (hj t c all true a).2:=by
 refine Sx.c7 (q _ _ v) (stk_odd1 _ _ _ _) ?_;rintro C D E B l ⟨g1,n,o⟩;unfold hj;simp only[and_true];generalize bH t c all (aO t a)=r at *
 have j:ar r.2 (if aA r.2 4 [91]=true then ((⟨(es t true r.2).2.w.length,a.s.x.text++[32],[91]++dn (es t true r.2).1++[93],r.1⟩:jM),bI (iq 6 (es t true r.2).1) (es t true r.2).2)else ((⟨(es t false r.2).2.w.length,a.s.x.text++[32],[60]++dn (es t false r.2).1++[62],r.1⟩:jM),bI (iq (if aA a 2 [115,116,114,105,110,103]=true then 8 else 7) (es t false r.2).1) (es t false r.2).2)).2:=by
  split
  .exact(jC _ _).trans (fj _ _)
  .exact(jC _ _).trans (fj _ _)
 by_cases e:aA r.2 4 [91]=true
 .simp only[Y9 e]at j ⊢;refine Sx.c7 (S.gP (sim_bound1 l e)) (fj _ _) ?_;rintro w z A p f ⟨⟨rfl,rfl⟩,rfl⟩;refine⟨_,f.row ⟨by simp[iq]<;>omega,by simp[iq],by simp[iq]<;>omega,by simp[iq]<;>split<;>simp⟩ (by simp only[iq,ne_eq];first|decide|(split<;>decide)),g1,?_⟩;exact⟨n,o,by rw[k];rfl,rfl,⟨by simp,row_at _ _⟩,by simp⟩
 .have s:aA r.2 4 [91]=false:=by simpa using e
  simp only[Y2 e]at j ⊢;refine Sx.c7 (S.gP (sim_bound0 l s)) (fj _ _) ?_;rintro w z A p f ⟨⟨rfl,rfl⟩,rfl⟩;refine⟨_,f.row ⟨by simp[iq]<;>omega,by simp[iq],by simp[iq]<;>omega,by simp[iq]<;>split<;>simp⟩ (by simp only[iq,ne_eq];first|decide|(split<;>decide)),g1,?_⟩;rw[Y2 (by rw[u];simp)];exact⟨n,o,by rw[k];rfl,rfl,⟨by simp,row_at _ _⟩,by simp⟩
def sim_odd2{e:jK τ}{h:τ}{d:List (List UInt8)}{f:DeclH τ}(i:ClOk t e h d all g (f []))(k:Q t g st (aO t a))(l:a.s.x.text=[115,116,114,105,110,103])(j:aA a 2 [115,116,114,105,110,103]=true) :
  Sx t (λc o b=>f (wb c.ty) (c.t,c.y) o b/\DeclOk c (hj t d all false a).1 (hj t d all false a).2) (qv (aH t) e true h st) (hj t d all false a).2:=by
 refine Sx.c7 (i _ _ k) (stk_odd1 _ _ _ _) ?_;rintro u w z r m ⟨g1,p,q⟩;unfold hj;simp only[Ye,and_false,if_false]
 refine Sx.c7 (S.gP (sim_most m)) (fj _ _) ?_;rintro v y A s n ⟨⟨rfl,rfl⟩,rfl⟩;refine⟨_,n.row ⟨by simp[iq]<;>omega,by simp[iq],by simp[iq]<;>omega,by simp[iq]<;>split<;>simp⟩ (by simp only[iq,ne_eq];first|decide|(split<;>decide)),g1,?_⟩;rw[Y9 j];exact⟨p,q,by rw[l];rfl,rfl,⟨by simp,row_at _ _⟩,by simp⟩
def ep.ext(b:ep a.w h i)(d:cx a p):ep p.w h i:=by
 obtain⟨e,c,-⟩:=d.w;rw[c];exact b.a6 e
def sim_even{D:jK τ}{N:τ}{e:List (List UInt8)}{E:DeclH τ}(G:∀M,ClOk t D N e all (g.c5 M) (E M))(R:Q t g st a) :
  Sy t (λu a6 b=>E (wb u.ty) (u.t,u.y) a6 b/\DeclOk u (hc t e all a).1 (hc t e all a).2) (qv (aH t) D false N st) (hc t e all a).2:=by
 unfold qv;rw[Y2 (by simp)];have h:=sim_kind R;unfold aK lift;cases J:oB (aH t) st with
 |error f=>
  rw[J]at h;rcases h with h|h
  .exact Y8 (h.cs (stk_even1 e all a))
  .exact Y8 (even_bd e all h)
 |ok K=>
  rw[J]at h;obtain⟨b2,L,rfl,x,C,o⟩:=h;simp only at L x C o ⊢;unfold qw;unfold hc;generalize bY t a=d at *
  unfold aK lift;rcases yN L (kd:=4) (l:=[42]) (by decide)with⟨F,m,a2⟩|⟨a7,m,a2,a3⟩|⟨a7,m,a2,a3⟩
  .rw[m,Y2 (c:=aA d.2 4 [42]=true) (by rw[a2.is (by omega)];simp)];have B:=a2.i5 (t:=t) e all;rw[Y2 (c:=aA (bH t e all d.2).2 4 [91]=true) (by rw[Aj B.e4];simp),Y2 (c:=aA (bH t e all d.2).2 4 [60]=true) (by rw[Aj B.e4];simp)];exact Y8 B
  .rw[m,Y9 a2];refine Sx.weak (Sx.c7 (G _ _ _ a3) (fj _ _) ?_);rintro a5 a8 b0 O y ⟨g1,q,s⟩;have v:=((bZ (t:=t) d.2).trans (dQ (t:=t) e all _)).ext;have i:=C.ext v;have I:=i.lt y.len5;refine Sx.ret (y.row ⟨by simp[fJ]<;>omega,by simp[fJ],by simp[fJ]<;>omega,by simp[fJ]⟩ (by simp[fJ])) ⟨g1,q,s,?_,rfl,⟨by simp,_,row_at _ _,i.a6 _⟩,by simp⟩;simp only[zR];rw[o]
  .rw[m,Y2 (c:=aA d.2 4 [42]=true) (by rw[a2];simp)];generalize a1:bH t e all d.2=r;have a4:ar r.2 (if aA r.2 4 [91]=true then ((⟨(es t true r.2).2.w.length,d.1.2++[32],[91]++dn (es t true r.2).1++[93],r.1⟩:jM),bI (fJ 9 (es t true r.2).1 d.1.1) (es t true r.2).2)
     else if aA r.2 4 [60]=true then ((⟨(es t false r.2).2.w.length,d.1.2++[32],[60]++dn (es t false r.2).1++[62],r.1⟩:jM),bI (fJ 10 (es t false r.2).1 d.1.1) (es t false r.2).2)
     else ((⟨d.1.1,d.1.2++[32],[],r.1⟩:jM),r.2)).2:=by
    split
    .exact(jC _ _).trans (fj _ _)
    .split
     .exact(jC _ _).trans (fj _ _)
     .exact ar.refl _
   have H:=G _ _ _ a3;have v:=(dQ (t:=t) e all d.2).ext;have i:=C.ext v;rw[a1]at H v i;refine Sy.c7 H a4 ?_;rintro a5 a8 b0 O y ⟨g1,q,s⟩;unfold mr aK lift;rcases Cc y (kd:=4) (l:=[91]) (by decide)with⟨F,z,j⟩|⟨b3,z,j⟩
   .rw[z,Y2 (c:=aA r.2 4 [91]=true) (by rw[j.is (by omega)];simp),Y2 (c:=aA r.2 4 [60]=true) (by rw[j.is (by omega)];simp)];exact Ya j
   .rw[z];simp only;unfold qy;by_cases k:aA r.2 4 [91]=true
    .rw[Y9 k,Y9 k];refine Sx.weak (Sx.c7 (S.gP (sim_bound1 j k)) (fj _ _) ?_);rintro K a9 b1 P p ⟨⟨rfl,rfl⟩,rfl⟩;have n:=i.ext (lg (t:=t) true r.2).ext;have I:=n.lt p.len5;exact Sx.ret (p.row ⟨by simp[fJ]<;>omega,by simp[fJ],by simp[fJ]<;>omega,by simp[fJ]⟩ (by simp[fJ])) ⟨g1,q,s,by simp only[zR];rw[o],rfl,⟨by simp,_,row_at _ _,n.a6 _⟩,by simp⟩
    .rw[Y2 k,Y2 k];have a0:aA r.2 4 [91]=false:=by simpa using k
     unfold aK lift;rcases Cc j (kd:=4) (l:=[60]) (by decide)with⟨F,A,c2⟩|⟨b4,A,c2⟩
     .rw[A,Y2 (c:=aA r.2 4 [60]=true) (by rw[c2.is (by omega)];simp)];exact Ya c2
     .rw[A];simp only;unfold qz;by_cases w:aA r.2 4 [60]=true
      .rw[Y9 w,Y9 w];refine Sx.weak (Sx.c7 (S.gP (sim_bound0 c2 a0)) (fj _ _) ?_);rintro K a9 b1 P p ⟨⟨rfl,rfl⟩,rfl⟩;have n:=i.ext (lg (t:=t) false r.2).ext;have I:=n.lt p.len5;exact Sx.ret (p.row ⟨by simp[fJ]<;>omega,by simp[fJ],by simp[fJ]<;>omega,by simp[fJ]⟩ (by simp[fJ])) ⟨g1,q,s,by simp only[zR];rw[o],rfl,⟨by simp,_,row_at _ _,n.a6 _⟩,by simp⟩
      .rw[Y2 w,Y2 w];exact⟨_,c2,g1,q,s,by rw[x.e8.1,o],x.e8.2.symm,i,x.k1 i⟩
def Cl{m:jK τ}{o:τ}{d:List (List UInt8)}{G:DeclH τ}(k:∀n,ClOk t m o d all (g.c5 n) (G n))(q:Q t g st a) :
  Sy t (λh s b=>G (wb h.ty) (h.t,h.y) s b/\DeclOk h (bf t d all a).1 (bf t d all a).2) (gf (aH t) m o st) (bf t d all a).2:=by
 unfold gf bf aK lift;rcases yN q (kd:=2) (l:=[111,112,97,113,117,101]) (by decide)with⟨p,e,a2⟩|⟨u,e,a2,a3⟩|⟨u,e,a2,a3⟩
 .rw[e,Y2 (by rw[a2.is (by omega),a2.is (by omega)];simp)];exact Y8 (a2.even d all)
 .rw[e,Y9 (Y8 a2)];have i:a.s.x.text=[111,112,97,113,117,101]:=by unfold aA kG at a2;simp at a2;exact a2.2.2
  have r:aA a 2 [115,116,114,105,110,103]=false:=by unfold aA kG;rw[i];simp
  rw[a2];exact Sx.weak (sim_odd (by have:=k [];rw[aV.k6]at this;exact this) a3 i r)
 .rw[e];unfold qu;simp only[Ye,if_false]
  unfold aK lift;rcases yN a3 (kd:=2) (l:=[115,116,114,105,110,103]) (by decide)with⟨p,f,c⟩|⟨v,f,c,j⟩|⟨v,f,c,j⟩
  .rw[f,Y2 (by rw[c.is (by omega),c.is (by omega)];simp)];exact Y8 (c.even d all)
  .rw[f,Y9 (Ya c)];have i:a.s.x.text=[115,116,114,105,110,103]:=by unfold aA kG at c;simp at c;exact c.2.2
   rw[a2];exact Sx.weak (sim_odd2 (by have:=k [];rw[aV.k6]at this;exact this) j i c)
  .rw[f,Y2 (by rw[a2,c];simp)];exact sim_even k j
def clm_among(d:List (List UInt8))(e f:Nat):ClOk t (bw e f) d d false g (λi h b=>b=g/\h=d++[i.1]):=λst a j=>(Cn j d e f).mono λi h b c=>⟨⟨c.1,c.2.2.2⟩,c.2.1,c.2.2.1⟩
end
section
variable {a i g:Nat}{d:ah}{j:PM ah}{nl:Nl}{r:bl}{q:Type}
variable {t : List UInt8} {st p : St} {f u w x y : Z} {E h : aV} {m : Mar.aD}
def Au(nl:Nl)(b a:List UInt8)(d:ah)(m:(ak nl b).isSome):ak (gs nl b d) a=if a=b then some (some d)else ak nl a:=by
 unfold ak gs at *
 induction nl with
 |nil=>simp at m
 |cons g nl f=>
  by_cases j:g.1=b
  .have h:(g.1==b)=true:=by simpa using j
   by_cases e:a=b
   .rw[Y9 e,e];simp only[List.map_cons,List.find?,h,if_true]
    rfl
   .rw[Y2 e];have o:(g.1==a)=false:=by simp;rw[j];exact λn=>e n.symm
    simp only[List.map_cons,List.find?,h,if_true,o]
    clear f m;induction nl with
    |nil=>rfl
    |cons i nl f=>
     by_cases c:i.1=a
     .have l:(i.1==b)=false:=by simp;rw[c];exact e
      have k:(i.1==a)=true:=by simpa using c
      simp only[List.map_cons,List.find?,l,k,Ye,if_false]
     .have k:(i.1==a)=false:=by simpa using c
      by_cases l:(i.1==b)=true
      .simp only[List.map_cons,List.find?,l,if_true,k];exact f
      .simp only[List.map_cons,List.find?,l,Ye,if_false,k];exact f
  .have h:(g.1==b)=false:=by simpa using j
   have f:=f (by simpa[List.find?,h]using m);by_cases c:(g.1==a)=true
   .have e:a≠b:=by simp at c;rw[<-c];exact j
    rw[Y2 e];simp only[List.map_cons,List.find?,h,c,Ye,if_false]
   .simp only[List.map_cons,List.find?,h,Ye,if_false,c]
    exact f
def kp_set{a:List UInt8}(d:ah)(c:ak nl a=some none):Kp nl (gs nl a d):=λf g b=>by
 rw[Au nl a f d (by rw[c];rfl)];by_cases e:f=a
 .rw[e,c]at b;cases b
 .rw[Y2 e];exact b
def dE.set{p:List aG}{t:List bl}(j:dE p nl t){a:List UInt8}(y:ak nl a=some none)(k:nl[i]? = some (a,none))(x:gB p (gs nl a d) (a,some d) r):dE p (gs nl a d) (t.set i r):=by
 have z:=kp_set d y;have n:i<nl.length:=by
  rcases Yj i nl.length with e|e
  .exact e
  .rw[YA e]at k;cases k
 refine⟨by simp[gs,j.am],?_,by rw[setName_keys];exact j.nd⟩;intro c g A b h;unfold gs at b;rw[List.getElem?_map]at b;rw[YP]at h;by_cases m:i=c
 .subst m;rw[k]at b;rw[Y9 rfl,Y9 (by rw[j.am];exact n)]at h;simp at b h;subst b;subst h;exact x
 .rw[Y2 m]at h;cases f:nl[c]? with
  |none=>rw[f]at b;cases b
  |some o=>
   rw[f]at b;have w:o.1≠a:=by
    intro v;have s:c<nl.length:=by
     rcases Yj c nl.length with e|e
     .exact e
     .rw[YA e]at f;cases f
    have u:=List.pairwise_iff_getElem.1 j.nd;have q:(nl.map (·.1))[i]'(by simpa using n)=a:=by
     have:(nl.map (·.1))[i]? = some a:=by rw[List.getElem?_map,k];rfl
     simpa[Yd n]using this
    have a2:(nl.map (·.1))[c]'(by simpa using s)=a:=by
     have:(nl.map (·.1))[c]? = some a:=by rw[List.getElem?_map,f];simp[v]
     simpa[Yd s]using this
    rcases Nat.lt_or_gt_of_ne m with l|l
    .exact u i c _ _ l (q.trans a2.symm)
    .exact u c i _ _ l (a2.trans q.symm)
   have:(o.1==a)=false:=by simpa using w
   simp only[Option.map_some,this,Ye,if_false,Yu]at b
   subst b;simpa using (j.dG c o A f h).a6 [] z
abbrev aV.set(E:aV)(a:List UInt8)(d:ah):aV:={ E with nl:=gs E.nl a d }
def find_none(d:Q t E st f){a:List UInt8}(b:ak E.nl a=some none):∃(i:Nat) (r:bl),cF f a=(i:Int)/\E.nl[i]? = some (a,none)/\f.A[i]? = some r/\r.s=a:=by
 rcases d.fv a with⟨c,-⟩|⟨i,k,r,c,e,g,h,j⟩
 .rw[c]at b;cases b
 .rw[c]at b;cases b
  exact⟨i,r,e,g,h,j.1⟩
def Q.kb(b:Q t E st f){s:List UInt8}(a:Nat)(v:Int)(g:ak E.nl s=some none)(c:E.pd=[])(m:E.dc=1):Q t { E.set s (.const s a v)with dc:=0 } { st with names:=gs st.A s (.const s a v) } (cm s v f):=by
 obtain⟨i,r,d,e,j,k⟩:=find_none b g;have l:st.A=E.nl:=by rw[b.nl,c];simp
 have h:cm s v f = { fh f i 0 v with consts:=f.aC+1 }:=by
  unfold cm;rw[Y9 (by rw[d];omega),d];rfl
 rw[h];refine⟨b.e,b.wd,?_,Y8 c,?_,b.ty,?_,b.pg,b.d2,b.dH,b.ou,b.pr,b.dY,b.d5.set e _ _⟩
 .show gs st.A s _=gs E.nl s _++E.pd;rw[l,c,YH]
 .refine b.nm.set g e ⟨?_,rfl,rfl⟩;simp[j,k]
 .have:=b.cn;show f.aC+1+((0:Nat):Int)=st.aC;omega
def At(c:List UInt8)(a:Nat)(b:List bl):Prop:=∃r∈b,r.s=c/\r.y=a
def At.a6{c:List UInt8}{b:List bl}(d:At c a b)(j:List bl):At c a (b++j):=by
 obtain⟨r,e,f⟩:=d;exact⟨r,Yf _ e,f⟩
def At.set{h:List UInt8}{b:List bl}(k:At h a b)(i:Nat)(j n:Int):At h a (b.set i { b.getD i AW with what:=j,n:=n }):=by
 obtain⟨r,l,e,f⟩:=k;obtain⟨d,c,rfl⟩:=List.mem_iff_getElem.1 l;by_cases g:i=d
 .subst g;refine⟨{ b[i]with what:=j,n:=n },?_,e,f⟩;rw[List.mem_iff_getElem];exact⟨i,by simpa using c,by simp[c]⟩
 .refine⟨b[d],?_,e,f⟩;rw[List.mem_iff_getElem];exact⟨d,by simpa using c,by simp[g]⟩
def At.one{m:List UInt8}(n:At m a f.A)(l:Q t E st f)(c:f.A[i]? = some r)(k:r.s=m):r.y=a:=by
 obtain⟨s,o,h,p⟩:=n;obtain⟨d,j,rfl⟩:=List.mem_iff_getElem.1 o;have g:i<f.A.length:=by
  rcases Yj i f.A.length with b|b
  .exact b
  .rw[YA b]at c;cases c
 rw[Yd g]at c;cases c
 have e:(f.A.map (·.s)).Nodup:=by rw[l.nm.g8];exact l.nm.nd
 have e:=List.pairwise_iff_getElem.1 e;have q:i=d:=by
  rcases Nat.lt_trichotomy i d with b|b|b
  .exact(e i d (by simpa using g) (by simpa using j) b (by simp[k,h])).elim
  .exact b
  .exact(e d i (by simpa using j) (by simpa using g) b (by simp[k,h])).elim
 subst q;exact p
def Q.typed(b:Q t E st f){c:List UInt8}{n:Int}(s:ak E.nl c=some none)(l:E.pd=[])(e:At c (aT d).2 f.A)(q:fa d=true)(j:hH f.w (gs E.nl c d) d n):Q t (E.set c d) { st with names:=gs st.A c d } (cq c n f):=by
 obtain⟨i,r,m,o,k,p⟩:=find_none b s;have v:st.A=E.nl:=by rw[b.nl,l];simp
 have e:=e.one b k p;have u:cq c n f=fh f i 1 n:=by
  unfold cq;rw[Y9 (by rw[m];omega),m];rfl
 rw[u];refine⟨b.e,b.wd,?_,Y8 l,?_,b.ty,b.cn,b.pg,b.d2,b.dH,b.ou,b.pr,b.dY,b.d5.set o _ _⟩
 .show gs st.A c _=gs E.nl c _++E.pd;rw[v,l,YH]
 .refine b.nm.set s o ⟨by simp[k,p],?_⟩;have w:{ f.A.getD i AW with what:=1,n:=n } = { r with what:=1,n:=n }:=by simp[k]
  rw[w];cases d with
  |const a g h=>simp[fa]at q
  |prog a g h d=>simp[fa]at q
  |eJ d=>exact⟨rfl,e,j⟩
  |enum a g h=>exact⟨rfl,e,j⟩
  |struct a g h=>exact⟨rfl,e,j⟩
  |union a g h d=>exact⟨rfl,e,j⟩
def Q.put(a:Q t E st f)(o:List UInt8):Q t { E with o:=E.o++o } st (cQ o f):=⟨a.e,a.wd,a.nl,a.pd,a.nm,a.ty,a.cn,a.pg,a.d2,a.dH,by show f.out++o=_;rw[a.ou],a.pr,a.dY,a.d5⟩
def Bd.fB(a:Bd m f)(d j:Int):Er m (ao d j f):=by
 have b:=a.fs;unfold ao;rw[Y9 ⟨a.e,a.k⟩];unfold mJ;rw[Y2 (λc=>b.e4 c.1)];exact b
def Q.fB{h:Mar.aN}(e:Q t E st f)(i:cf t st.y st.nx=.ok (h,g))(d j:Int):ao d j f=if j<=d then bq 5 h.y f else f:=by
 have b:=e.wd;rw[i]at b;have:=b.2.jX;unfold ao;rw[Y2 (λc=>by have:=c.2;rw[b.1.1]at this;omega)];unfold mJ;by_cases a:j<=d
 .rw[Y9 a,Y9 ⟨e.e,a⟩,b.1.2.2.2.1]
 .rw[Y2 a,Y2 (λc=>a c.2)]
def uN{a:List UInt8}(c:ak nl a=none):gs (nl++[(a,none)]) a d=nl++[(a,some d)]:=by
 unfold gs;rw[List.map_append];congr 1
 .have e:=kK c;conv=>rhs;rw[<-List.map_id nl]
  apply List.map_congr_left;intro g f;have:(g.1==a)=false:=by
   simp only[Yi];exact λb=>e (YE.2 ⟨g,f,b⟩)
  simp[this]
 .simp
def qY(j:PM ah):PM ah:=aE j λd=>aE (uM d) λ_=>bQ d
def mH(a:j st=.ok (d,p)):qY j st=.ok (d,{ p with names:=gs p.A (aT d).1 d }):=by
 unfold qY Go.Proofs.YtjdhaegijjednaaGreatDoor.c7;rw[a];rfl
def jc(a:j st=.error m):qY j st=.error m:=by
 unfold qY Go.Proofs.YtjdhaegijjednaaGreatDoor.c7;rw[a]
def newConst_ok(c:¬40<=st.aC)(a:Nat)(b:Unit->PM q):aE (ib a) b st=b () { st with consts:=st.aC+1 }:=by
 unfold Go.Proofs.YtjdhaegijjednaaGreatDoor.c7 ib;rw[Y2 c]
def Bc(c:¬24<=st.au)(a:Nat)(b:Unit->PM q):aE (sW a) b st=b () { st with types:=st.au+1 }:=by
 unfold Go.Proofs.YtjdhaegijjednaaGreatDoor.c7 sW;rw[Y2 c]
def Bb(b:24<=st.au)(a:Nat)(c:Unit->PM q):aE (sW a) c st=.error ⟨5,a⟩:=by
 unfold Go.Proofs.YtjdhaegijjednaaGreatDoor.c7 sW;rw[Y9 b]
structure xw(E h:aV)(d:ah)(o:List UInt8)(ps:List dW):Prop where
 pd:h.pd=[]
 dc:h.dc=0
 fz:h.fz=E.fz
 o:h.o=E.o++o
 ps:h.ps=E.ps++ps
 rf:h.rf=E.rf++(kx d).map λg=>(g.1,(g.2:Int))
 nl:∃cs:Nl,h.nl=E.nl++((aT d).1,some d)::cs/\∀c∈cs,∃a b v,c.2=some (.const a b v)
def constS(a:List UInt8)(v:Int):List UInt8:=[99,111,110,115,116,32]++a++[32,61,32]++dn v++[59,10]
def sim_const{j:Mar.aN}(k:Q t E st f)(q:E.pd=[])(C:E.dc=0)(w:cf t st.y st.nx=.ok (j,g))(D:aA f 2 [99,111,110,115,116]=true) :
  S t (λd h=>∃c a v,d=.const c a v/\xw E h d (constS c v) []) (qY (iW (aH t) j.y) { st with at':=g,nx:=none }) (du t f):=by
 have b:=k.e2 w;have o:=k.fB w f.aC 40;have a0:=k.cn;by_cases u:40<=st.aC
 .rw[Y9 (by omega)]at o;have i:iW (aH t) j.y { st with at':=g,nx:=none } = .error ⟨5,j.y⟩:=by
   unfold iW Go.Proofs.YtjdhaegijjednaaGreatDoor.c7 ib;rw[Y9 u]
  rw[jc i];have:=CB (t:=t) f;rw[o]at this;exact(k.c1 (e:=5) (a:=j.y) (by omega)).cs this
 .rw[Y2 (by omega)]at o;have G:Q t { E with dc:=1 } { st with at':=g,nx:=none,consts:=st.aC+1 } (U t 2 [99,111,110,115,116] (ao f.aC 40 f)):=by
   rw[o,oK D];exact⟨b.e,b.wd,b.nl,b.pd,b.nm,b.ty,by have:=b.cn;rw[C]at this;show _+((1:Nat):Int)=((st.aC+1:Nat):Int);simp at this;omega,b.pg,b.d2,b.dH,b.ou,b.pr,b.dY,b.d5⟩
  unfold du;generalize U t 2 [99,111,110,115,116] (ao f.aC 40 f)=r at *
  have i:S t (λd h=>∃c a v,d=.const c a v/\h = { E with dc:=1,nl:=E.nl++[(c,none)] }/\ak E.nl c=none/\(an t 2 r).1.text=c/\(be t (-2147483648) 4294967295 (U t 4 [61] (an t 2 r).2)).1.1=v) (iW (aH t) j.y { st with at':=g,nx:=none }) (U t 4 [59] (be t (-2147483648) 4294967295 (U t 4 [61] (an t 2 r).2)).2):=by
   unfold iW;rw[newConst_ok (st:={ st with at':=g,nx:=none }) u];refine S.c7 (uT G q) ((aR _ _ _).trans ((fO _ _ _).trans (aR _ _ _))) ?_;rintro x a2 y p ⟨rfl,L,-,M,-⟩;refine S.c7 (nX p (kd:=4) (l:=[61]) (by decide)) ((fO _ _ _).trans (aR _ _ _)) ?_;rintro K a3 O H ⟨rfl,-⟩;refine S.c7 (uY H (-2147483648) 4294967295) (aR _ _ _) ?_;rintro v a4 P I ⟨rfl,N,-⟩;refine S.c7 (nX I (kd:=4) (l:=[59]) (by decide)) (ar.refl _) ?_;rintro K a5 R J ⟨rfl,-⟩;exact S.ret J ⟨x.1,x.2,v.1,rfl,rfl,M,L,by rw[N]⟩
  cases n:iW (aH t) j.y { st with at':=g,nx:=none }with
  |error m=>
   rw[n]at i;rw[jc n,Y9 i.e4];exact i
  |ok a1=>
   rw[n]at i;obtain⟨y,p,c,a,v,B,rfl,s,z,A⟩:=i;rw[mH n,Y2 (by simpa using p.e),z,A];rw[B];have F:=(p.kb a v (by rw[jh _ _ _ s,Y9 rfl]) q rfl).put (constS c v);exact⟨_,F,c,a,v,rfl,⟨q,rfl,rfl,rfl,by simp,by simp[kx],[],by show gs (E.nl++[(c,none)]) c _=_;rw[uN s];rfl,by simp⟩⟩
def zl(A:E.pd=[]):ClOk t (bM fK) () [] true E (λw _ h=>h = { E with pd:=[(w.1,none)] }/\ak E.nl w.1=none):=λst f k=>by
 unfold name aK lift;rcases pk t st with⟨b,g,j⟩|⟨m,j⟩
 .rw[jp j];simp only;by_cases p:b.kind=1
  .obtain⟨x,y,d⟩:=oN k j p;rw[Y9 (by rw[p];rfl)];have c:=k.e2 j;have z:ak E.nl b.text=none/\cF (aO t f) b.text<0\/(∃n,ak E.nl b.text=some n)/\0<=cF (aO t f) b.text:=by
    rcases c.fv b.text with e|⟨i,n,r,e,q,-⟩
    .exact Y8 e
    .exact Ya ⟨⟨n,e⟩,by omega⟩
   have u:st.A=E.nl:=by rw[k.nl,A];simp
   have B:(bM fK).run b () { st with at':=g,nx:=none } = match ak E.nl b.text with
     |none=>.ok ((),(),{ st with at':=g,nx:=none,names:=E.nl++[(b.text,none)] })
     |some _=>.error ⟨6,b.y⟩:=by
    show lift (ew b) () { st with at':=g,nx:=none } = _;unfold Go.Proofs.YtjdhaegijjednaaGreatDoor.gP ew;rw[show ak ({ st with at':=g,nx:=none }:St).A b.text=ak E.nl b.text by rw[<-u]];cases ak E.nl b.text with
    |none=>simp only[u]
    |some n=>rfl
   rw[B];unfold bH;simp only[if_true]
   rw[d,x,y];rcases z with⟨e,q⟩|⟨⟨n,e⟩,q⟩
   .rw[e];have o:decide (0<=cF (aO t f) b.text)=false:=by simp;omega
    rw[Y2 (λl=>by rw[o]at l;exact absurd l.2 (by simp))];refine⟨{ E with pd:=[(b.text,none)] },⟨by rw[d];exact c.e,by rw[d];exact c.wd,rfl,Ya ⟨_,rfl,e⟩,by rw[d];exact c.nm,by rw[d];exact c.ty,by rw[d];exact c.cn,by rw[d];exact c.pg,by rw[d];exact c.d2,by rw[d];exact c.dH,by rw[d];exact c.ou,by rw[d];exact c.pr,by rw[d];exact c.dY,by rw[d];exact c.d5⟩,⟨rfl,e⟩,x,y⟩
   .rw[e];have o:decide (0<=cF (aO t f) b.text)=true:=by simp;omega
    rw[Y9 ⟨c.e,o⟩];exact c.c1 (e:=6) (a:=b.y) (by omega)
  .rw[Y2 (by simp;omega)];have v:=oO k j p;have s:=k.fn j;have:(bH t [] true f).2=bK f:=by
    unfold bH;simp only;rw[v,Y2 (λl=>s.e4 l.1)];exact v
   rw[this];exact s
 .rw[jo j];exact(k.bd j).i5 [] true
end
section
variable {nl:Nl}{o:Option ah}{b:Nat}
variable {t : List UInt8} {st f : St} {σ g h i j : Z} {E c : aV} {d : Mar.aD}
def rV(nl:Nl)(c a:List UInt8)(o:Option ah)(e:ak nl c=none):ak (nl++[(c,o)]) a=if a=c then some o else ak nl a:=by
 unfold ak at *
 rw[List.find?_append];by_cases d:a=c
 .subst d;cases f:nl.find? (λb=>b.1==a)with
  |none=>simp
  |some h=>rw[f]at e;simp at e
 .rw[Y2 d];cases f:nl.find? (λb=>b.1==a)with
  |none=>
   have:(c==a)=false:=by simp;exact λg=>d g.symm
   simp[this]
  |some h=>simp
def rM{a:List UInt8}(c:ak nl a=none):Kp nl (nl++[(a,o)]):=λe f b=>by
 rw[rV nl a e o c];by_cases d:e=a
 .rw[d,c]at b;cases b
 .rw[Y2 d];exact b
def dE.jY{h:List aG}{l:List bl}(c:dE h nl l){f:List UInt8}{n:bl}(j:ak nl f=none)(q:gB h (nl++[(f,o)]) (f,o) n):dE h (nl++[(f,o)]) (l++[n]):=by
 refine⟨by simp[c.am],?_,?_⟩
 .intro g b s a d;rcases Yj g nl.length with e|e
  .rw[Ys e]at a;rw[Ys (by rw[c.am];exact e)]at d;have:=(c.dG g b s a d).a6 [] (rM (o:=o) j);simpa using this
  .rw[Yw e]at a;rw[Yw (by rw[c.am];exact e),c.am]at d;match i:g-nl.length with
   |0=>
    rw[i]at a d;simp at a d;subst a;subst d;exact q
   |m+1=>rw[i]at a;simp at a
 .rw[List.map_append,YJ];refine⟨c.nd,by simp,?_⟩;intro t r u k;simp at k;subst k;exact λp=>kK j (p▸r)
def dS(σ:Z):Z:={ ao σ.au 24 σ with au:=(ao σ.au 24 σ).au+1 }
def tI{h:Mar.aN}(c:Q t E st σ)(f:cf t st.y st.nx=.ok (h,b)){kw:List UInt8}(g:aA σ 2 kw=true)(i:¬24<=st.au):Q t E { st with y:=b,nx:=none,au:=st.au+1 } (U t 2 kw (dS σ)):=by
 have a:=c.e2 f;have d:=c.fB f σ.au 24;have j:=c.ty;rw[Y2 (by omega)]at d;unfold dS;rw[d,oK (σ:={ σ with au:=σ.au+1 }) g];exact⟨a.e,a.wd,a.nl,a.pd,a.nm,by show σ.au+1=((st.au+1:Nat):Int);omega,a.cn,a.pg,a.d2,a.dH,a.ou,a.pr,a.dY,a.d5⟩
def tJ{d:Mar.aN}(c:Q t E st σ)(g:cf t st.y st.nx=.ok (d,b))(h:24<=st.au):Er ⟨5,d.y⟩ (dS σ):=by
 have f:=c.fB g σ.au 24;have i:=c.ty;rw[Y9 (by omega)]at f;have:=c.c1 (e:=5) (a:=d.y) (by omega);unfold dS;rw[f];exact⟨this.e,this.a,this.z⟩
def oC(a:aF):List UInt8:=[116,121,112,101,100,101,102,32]++zR a.ty++a.t++yX a.ty++[59,10]
def Co{m:Mar.aN}(F:Q t E st σ)(v:E.pd=[])(J:E.dc=0)(H:cf t st.y st.nx=.ok (m,b))(K:aA σ 2 [116,121,112,101,100,101,102]=true) :
  S t (λh c=>∃D,h=.typedef D/\xw E c h (oC D) []) (qY (eJ (aH t) m.y) { st with y:=b,nx:=none }) (dA t (dS σ)):=by
 by_cases s:24<=st.au
 .have p:eJ (aH t) m.y { st with y:=b,nx:=none } = .error ⟨5,m.y⟩:=Bb (st:={ st with y:=b,nx:=none }) s _ _;rw[jc p];exact(tJ F H s).cs (vw _)
 .have M:=tI F H K s;have p:eJ (aH t) m.y { st with y:=b,nx:=none } = aE (eW (aH t)) (λh=>aE (bX (aH t) [59]) λ_=>bQ (.typedef h)) { st with y:=b,nx:=none,au:=st.au+1 }:=Bc (st:={ st with y:=b,nx:=none }) s _ _;unfold dA;simp only;generalize U t 2 [116,121,112,101,100,101,102] (dS σ)=O at *
  have g:=Cl (G:=λB I _ c=>c = { E.c5 B with pd:=[(I.1,none)] }/\ak E.nl I.1=none) (λB=>zl (E:=E.c5 B) v) M;generalize bf t [] true O=f at *
  cases n:gf (aH t) (bM fK) () { st with y:=b,nx:=none,au:=st.au+1 }with
  |error d=>
   rw[n]at g;have q:eJ (aH t) m.y { st with y:=b,nx:=none } = .error d:=by
    rw[p];unfold aE eW dh;rw[n]
   rw[jc q];rcases g with g|g
   .rw[Y9 g.e4];exact g
   .rw[Y2 (by simpa using g.e)];have x:Bd d { f.2 with A:=f.2.A++[⟨f.1.x.text,1,f.1.r,f.1.x.y⟩] }:=⟨g.e,g.k,g.n,g.a,g.z⟩;exact(x.h3 (t:=t) (kd:=4) (l:=[59]) (by omega)).cs (gx _ _)
  |ok A=>
   obtain⟨h,a0,N⟩:=A;rw[n]at g;obtain⟨P,w,⟨rfl,y⟩,ok⟩:=g;rw[Y2 (by simpa using w.e)];have j:=nX w (kd:=4) (l:=[59]) (by decide);cases u:bX (aH t) [59] N with
   |error d=>
    rw[u]at j;have j:Er d (U t 4 [59] f.2):=j;have q:eJ (aH t) m.y { st with y:=b,nx:=none } = .error d:=by
     rw[p];unfold aE eW dh;rw[n];simp only;rw[u]
    rw[jc q];have x:Er d (U t 4 [59] { f.2 with A:=f.2.A++[⟨f.1.x.text,1,f.1.r,f.1.x.y⟩] }):=⟨j.e,j.a,j.z⟩;exact x.cs (gx _ _)
   |ok A=>
    obtain⟨a1,C⟩:=A;rw[u]at j;obtain⟨R,i,rfl,-⟩:=j;have q:eJ (aH t) m.y { st with y:=b,nx:=none } = .ok (.typedef h,C):=by
     rw[p];unfold aE eW dh;rw[n];simp only;rw[u];rfl
    rw[mH q];have L:C.A=E.nl++[(h.t,none)]:=i.nl;simp only at y;refine⟨{ E.c5 (wb h.ty)with nl:=E.nl++[(h.t,some (.typedef h))],o:=E.o++oC h },?_,h,rfl,⟨v,J,rfl,rfl,by simp[aV.c5],rfl,[],rfl,by simp⟩⟩;refine⟨i.e,i.wd,?_,Y8 v,?_,i.ty,i.cn,i.pg,i.d2,i.dH,?_,i.pr,i.dY,i.d5.d1 i.nm.am _ _⟩
    .show gs C.A h.t _=_++E.pd;rw[L,uN y,v,YH]
    .show dE f.2.w _ (f.2.A++[_]);refine w.nm.jY y ⟨ok.x,rfl,?_,ok.k8,ok.k1⟩;show ((f.1.x.y:Nat):Int)=_;rw[ok.y];rfl
    .show f.2.j++_=_;have:=w.ou;rw[this,ok.e8,ok.e5,ok.x];rfl
def uV(n:Q t E st σ)(g:List (Int×Int))(f:List Int)(k:g.map (·.1)=f)(d b:Int) :
  Sx t (λh l c=>c=E/\h=(be t d b σ).1.1/\l.map (·.1)=f++[h]/\l.length=g.length+1/\cO d b h=true) (go (aH t) (cO d b) g st) (if(be t d b σ).2.s.e=0/\f.contains (be t d b σ).1.1=true then bq 6 (be t d b σ).1.2 (be t d b σ).2 else (be t d b σ).2):=by
 unfold go;have q:=uY n d b;generalize be t d b σ=v at *
 refine iL (jV q) (hr _ _ _ _) ?_;rintro m u w r i ⟨⟨rfl,o,p⟩,rfl⟩;unfold aK lf pU;dsimp only;rw[k,o];simp only;by_cases e:f.contains m.1=true
 .rw[Y9 e,Y9 ⟨i.e,e⟩];exact i.c1 (e:=6) (a:=m.2) (by omega)
 .rw[Y2 e,Y2 (λj=>e j.2)];exact⟨_,i,rfl,rfl,by simp[k],by simp,p⟩
def Ay(a:List UInt8×Nat×Int):List UInt8:=a.1++[32,61,32]++dn a.2.2
def dJ(t:List UInt8)(a:Nat)(σ:Z):gO×Z:=an t 2 (ao (ao a 12 σ).aC 40 (ao a 12 σ))
def cP(t:List UInt8)(a:Nat)(σ:Z):(Int×Int)×Z:=be t (-2147483648) 2147483647 (U t 4 [61] (dJ t a σ).2)
def bO(t:List UInt8)(a:List Int)(σ:Z):Z:=if(cP t a.length σ).2.s.e=0/\a.contains (cP t a.length σ).1.1=true then bq 6 (cP t a.length σ).1.2 (cP t a.length σ).2 else (cP t a.length σ).2
def cZ(t:List UInt8)(a:List Int)(σ:Z):Z:=if(bO t a σ).s.e≠0 then bO t a σ else cm (dJ t a.length σ).1.text (cP t a.length σ).1.1 (bO t a σ)
def oj(a:List Int)(σ:Z):ar (ao a.length 12 σ) (bO t a σ):=by
 unfold bO;refine ar.u ?_ (hr _ _ _ _);unfold cP dJ;exact(vo _ _ _).u ((gw _ _).u ((aR _ _ _).u (fO _ _ _)))
def ht(a:List Int)(σ:Z):ar (bO t a σ) (cZ t a σ):=by
 unfold cZ;split
 .exact eR _
 .exact oi _ _ _
def Cm(n:Q t E st σ)(z:E.pd=[])(P:E.dc=0)(l:List (Int×Int))(e:List Int)(a0:l.map (·.1)=e)(j:List UInt8×Nat)(x:ak E.nl j.1=some none)(D:At j.1 j.2 σ.A) :
  Sx t (λf a1 c=>e.length<12/\(dJ t e.length σ).1.text=f.1/\(cP t e.length σ).1.1=f.2.2/\a1.map (·.1)=e++[f.2.2]/\(bO t e σ).s.e=0/\c.pd=[]/\c.dc=0/\c.fz=E.fz/\c.o=E.o/\c.ps=E.ps/\c.rf=E.rf/\c.nl=E.nl++[(f.1,some (.const f.1 f.2.1 f.2.2))]/\ak c.nl j.1=some none/\At j.1 j.2 (cZ t e σ).A/\cO (-2147483648) 2147483647 f.2.2=true) (jk (aH t) e.length l st) (cZ t e σ):=by
 unfold jk;rcases pk t st with⟨h,b,p⟩|⟨d,p⟩
 .have q:=n.fB p e.length 12;have m:∀{k:Type} (g:Mar.aN->PX (List (Int×Int)) k),aK (lift (ed (aH t))) g l st=g h l { st with y:=b,nx:=some h }:=λg=>by
   unfold aK lift;rw[hk p]
  rw[m];have i:=n.d6 p;by_cases A:12<=e.length
  .rw[Y9 (by omega)]at q;unfold aK lift io;rw[Y9 A];have:=oj (t:=t) e σ;rw[q]at this;exact((n.c1 (e:=5) (a:=h.y) (by omega)).cs this).cs (ht _ _)
  .rw[Y2 (by omega)]at q;have L:∀{k:Type} (g:Unit->PX (List (Int×Int)) k),aK (lift (io e.length 12 h.y)) g l { st with y:=b,nx:=some h } = g () l { st with y:=b,nx:=some h }:=λg=>by
    unfold aK lift io;rw[Y2 A]
   rw[L];have F:=n.cn;rw[P]at F;have w:=n.fB p σ.aC 40;by_cases B:40<=st.aC
   .rw[Y9 (by omega)]at w;have y:∀{k:Type} (g:Unit->PX (List (Int×Int)) k),aK (lift (ib h.y)) g l { st with y:=b,nx:=some h } = .error ⟨5,h.y⟩:=λg=>by
     unfold aK lift ib;rw[Y9 B]
    rw[y];have M:=n.c1 (e:=5) (a:=h.y) (by omega);refine Er.cs (σ:=bO t e σ) ?_ (ht _ _);unfold bO;refine Er.cs ?_ (hr _ _ _ _);unfold cP dJ;rw[q,w];exact M.cs ((gw _ _).u ((aR _ _ _).u (fO _ _ _)))
   .rw[Y2 (by omega)]at w;have y:∀{k:Type} (g:Unit->PX (List (Int×Int)) k),aK (lift (ib h.y)) g l { st with y:=b,nx:=some h } = g () l { st with y:=b,nx:=some h,aC:=st.aC+1 }:=λg=>by
     unfold aK lift ib;rw[Y2 B]
    rw[y];have a2:Q t { E with dc:=1 } { st with y:=b,nx:=some h,aC:=st.aC+1 } σ:=⟨i.e,i.wd,i.nl,i.pd,i.nm,i.ty,by show _+((1:Nat):Int)=((st.aC+1:Nat):Int);simp at F;omega,i.pg,i.d2,i.dH,i.ou,i.pr,i.dY,i.d5⟩;have N:dJ t e.length σ=an t 2 σ:=by unfold dJ;rw[q,w]
    have a5:ar (dJ t e.length σ).2 (cZ t e σ):=by
     refine ar.u ?_ (ht _ _);unfold bO;refine ar.u ?_ (hr _ _ _ _);unfold cP;exact(aR _ _ _).u (fO _ _ _)
    have a6:ar (U t 4 [61] (dJ t e.length σ).2) (cZ t e σ):=by
     refine ar.u ?_ (ht _ _);unfold bO;refine ar.u ?_ (hr _ _ _ _);unfold cP;exact fO _ _ _
    have C:=uT a2 z;rw[<-N]at C;refine iL (jV C) a5 ?_;rintro f b4 b7 b1 a3 ⟨⟨rfl,J,c0,u,a8⟩,rfl⟩;refine iL (jV (nX a3 (kd:=4) (l:=[61]) (by decide))) a6 ?_;rintro b9 b5 b8 b2 a4 ⟨⟨rfl,-⟩,rfl⟩;refine iL (uV a4 _ e a0 (-2147483648) 2147483647) (ht e σ) ?_;rintro v b6 a7 b3 r ⟨rfl,K,a9,c1,b0⟩;have r:Q t _ a7 (bO t e σ):=r;have G:cZ t e σ=cm (dJ t e.length σ).1.text (cP t e.length σ).1.1 (bO t e σ):=by
     unfold cZ;rw[Y2 (by simpa using r.e)]
    have R:=r.kb f.2 v (s:=f.1) (by rw[jh _ _ _ u,Y9 rfl]) z rfl;have I:(bO t e σ).A=σ.A++[⟨f.1,2,-1,f.2⟩]:=by
     rw[<-a8];have:Sm (dJ t e.length σ).2 (bO t e σ):=by
      unfold bO;refine Sm.u ?_ (fN _ _ _ _);unfold cP;exact(aa _ _ _).u (dz _ _ _)
     exact this.A
    have H:j.1≠f.1:=λm=>by rw[m]at x;rw[u]at x;cases x
    refine⟨{ (aV.a7 { E with dc:=1 } f.1).a5 f.1 (.const f.1 f.2 v)with dc:=0 },?_,by omega,J,K.symm,a9,r.e,z,rfl,rfl,rfl,rfl,rfl,?_,?_,?_,b0⟩
    .rw[G,J];rw[show (cP t e.length σ).1.1=v from K.symm];exact R
    .exact uN u
    .rw[Au _ _ _ _ (by rw[jh _ _ _ u,Y9 rfl];rfl),Y2 H,jh _ _ _ u,Y2 H];exact x
    .rw[G];unfold cm;simp only;split
     .show At j.1 j.2 (fh (bO t e σ) _ 0 _).A;exact wV (by rw[I];exact D.a6 _) _ _ _
     .show At j.1 j.2 (bO t e σ).A;rw[I];exact D.a6 _
 .have O:=n.bd p;have m:∀{k:Type} (g:Mar.aN->PX (List (Int×Int)) k),aK (lift (ed (aH t))) g l st=.error d:=λg=>by
   unfold aK lift;rw[js p]
  rw[m];exact((O.fB e.length 12).cs (oj e σ)).cs (ht e σ)
end
section
variable {t : List UInt8} {st g : St} {a h i j k : Z} {b c : aV} {f : Mar.aD}
def enF(t:List UInt8)(a:Bool×List Int×List UInt8×Z):Z:=if a.1=true then a.2.2.2 else U t 4 [59] (U t 4 [125] a.2.2.2)
def stk_enF(a:Bool×List Int×List UInt8×Z):ar a.2.2.2 (enF t a):=by
 unfold enF;split
 .exact ar.refl _
 .exact(aR _ _ _).trans (aR _ _ _)
def kz(f:a.s.e=0)(g:Nat)(b:List Int)(d:List UInt8):cN t (g+1) b d a=if(bO t b a).s.e≠0 then (true,b,d,bO t b a)
  else if aA (cZ t b a) 4 [44]=true then cN t g (b++[(cP t b.length a).1.1]) (d++(dJ t b.length a).1.text++[32,61,32]++dn (cP t b.length a).1.1++[44,32]) (aO t (cZ t b a))
  else (false,b++[(cP t b.length a).1.1],d++(dJ t b.length a).1.text++[32,61,32]++dn (cP t b.length a).1.1,cZ t b a):=by
 by_cases c:(bO t b a).s.e≠0
 .rw[Y9 c];conv=>lhs;unfold cN
  rw[Y2 (by simpa using f)];exact Y9 c
 .rw[Y2 c];have h:cZ t b a=cm (dJ t b.length a).1.text (cP t b.length a).1.1 (bO t b a):=by
   unfold cZ;rw[Y2 c]
  rw[h];conv=>lhs;unfold cN
  rw[Y2 (by simpa using f)];exact Y2 c
def conE(a:List UInt8×Nat×Int):List UInt8×Option ah:=(a.1,some (.const a.1 a.2.1 a.2.2))
def sim_enumL(h:List UInt8×Nat):∀(e:Nat) (d:List (List UInt8×Nat×Int)) (l:List (Int×Int)) (i:List UInt8) (st:St) (a:Z) (b:aV),Q t b st a->b.pd=[]->b.dc=0->d.length+e=13->d.length<=12->l.map (·.1)=d.map (·.2.2)->ak b.nl h.1=some none->At h.1 h.2 a.A->(∀j∈d.map (·.2.2),cO (-2147483648) 2147483647 j=true)->
  S t (λE c=>∃n g,E=.enum h.1 h.2 (d++n++[g])/\(cN t e (d.map (·.2.2)) i a).1=false/\(cN t e (d.map (·.2.2)) i a).2.1=(d++n++[g]).map (·.2.2)/\(cN t e (d.map (·.2.2)) i a).2.2.1=i++n.flatMap (λg=>Ay g++[44,32])++Ay g/\c.pd=[]/\c.dc=0/\c.fz=b.fz/\c.o=b.o/\c.ps=b.ps/\c.rf=b.rf/\c.nl=b.nl++(n++[g]).map conE/\ak c.nl h.1=some none/\At h.1 h.2 (enF t (cN t e (d.map (·.2.2)) i a)).A/\(∀j∈(d++n++[g]).map (·.2.2),cO (-2147483648) 2147483647 j=true)) (mZ (aH t) h e d l st) (enF t (cN t e (d.map (·.2.2)) i a)):=by
 intro e;induction e with
 |zero=>intro d l i st a b _ _ _ d7 d8;omega
 |succ e b9=>
  intro d l i st a b F b8 b3 d9 e0 b5 b7 b2 b4;have k:=Cm F b8 b3 l (d.map (·.2.2)) b5 h b7 b2;have b6:(d.map (·.2.2)).length=d.length:=by simp
  rw[kz F.e];unfold mZ;rw[b6]at k ⊢;cases G:jk (aH t) d.length l st with
  |error f=>
   rw[G]at k;have q:(bO t (d.map (·.2.2)) a).s.e≠0:=by
    intro q;have v:=k.e4;unfold cZ at v;rw[Y2 (by simpa using q)]at v;apply v;unfold cm fh;split<;>exact q
   have b1:cZ t (d.map (·.2.2)) a=bO t (d.map (·.2.2)) a:=by
    unfold cZ;rw[Y9 q]
   rw[b1]at k;rw[Y9 q];exact k.cs (stk_enF (true,_,_,_))
  |ok c7=>
   obtain⟨g,c1,I⟩:=c7;rw[G]at k;obtain⟨J,c8,c0,K,c2,c3,c4,c5,z,A,B,C,D,c9,x,y,L⟩:=k;rw[Y2 (by simpa using c4),K,c2];dsimp only;generalize cZ t (d.map (·.2.2)) a=d2 at *
   have w:(d++[g]).map (·.2.2)=d.map (·.2.2)++[g.2.2]:=by simp
   have H:∀j∈(d++[g]).map (·.2.2),cO (-2147483648) 2147483647 j=true:=by
    intro j m;rw[w]at m;rcases Yn.1 m with m|m
    .exact b4 j m
    .simp at m;subst m;exact L
   rcases yN c8 (kd:=4) (l:=[44]) (by decide)with⟨d6,p,a2⟩|⟨r,p,a2,a3⟩|⟨r,p,a2,a3⟩
   .unfold Go.Proofs.YtjdhaegijjednaaGreatDoor.c7;rw[p,Y2 (by rw[a2.is (by omega)];simp)];exact(a2.h3 (t:=t) (kd:=4) (l:=[125]) (by omega)).cs (aR _ _ _)
   .have u:∀(e:Bool->PM ah),Go.Proofs.YtjdhaegijjednaaGreatDoor.c7 (fD (aH t) [44]) e I=e true r:=λe=>by unfold Go.Proofs.YtjdhaegijjednaaGreatDoor.c7;rw[p]
    rw[u,Y9 a2];rw[<-w];have:=b9 (d++[g]) c1 (i++g.1++[32,61,32]++dn g.2.2++[44,32]) r (aO t d2) J a3 c5 z (by simp;omega) (by simp;omega) (by rw[c3,w]) x y H;refine this.mono ?_;rintro E d3 ⟨n,c6,M,P,R,a0,a1,a4,a5,a6,a7,a9,a8,b0,N,O⟩;refine⟨g::n,c6,by rw[M];simp,P,by rw[R];simp,?_,a1,a4,by rw[a5,A],by rw[a6,B],by rw[a7,C],by rw[a9,D],by rw[a8,c9];simp[conE],b0,N,by simpa using O⟩;rw[a0];simp[Ay]
   .have u:∀(e:Bool->PM ah),Go.Proofs.YtjdhaegijjednaaGreatDoor.c7 (fD (aH t) [44]) e I=e false r:=λe=>by unfold Go.Proofs.YtjdhaegijjednaaGreatDoor.c7;rw[p]
    rw[u,Y2 (by rw[a2];simp)];simp only[Ye,if_false]
    refine S.c7 (nX a3 (kd:=4) (l:=[125]) (by decide)) (aR _ _ _) ?_;rintro j e1 d4 d0 ⟨rfl,-⟩;refine S.c7 (nX d0 (kd:=4) (l:=[59]) (by decide)) (ar.refl _) ?_;rintro j e2 d5 d1 ⟨rfl,-⟩;exact S.ret d1 ⟨[],g,by simp,trivial,by simp,by simp[Ay],c5,z,A,B,C,D,by rw[c9];rfl,x,y,by simpa using H⟩
def enumS(c:List UInt8)(b:List (List UInt8×Nat×Int))(a:List UInt8×Nat×Int):List UInt8:=[101,110,117,109,32]++c++[32,123,32]++b.flatMap (λa=>Ay a++[44,32])++Ay a++[32,125,59,10]
def at_end(d:List bl)(a:List UInt8×Nat)(c b:Int):At a.1 a.2 (d++[⟨a.1,c,b,a.2⟩]):=⟨⟨a.1,c,b,a.2⟩,by simp,rfl,rfl⟩
def sim_enum{n:Mar.aN}{j:Nat}(N:Q t b st a)(O:b.pd=[])(a6:b.dc=0)(A:cf t st.y st.nx=.ok (n,j))(a7:aA a 2 [101,110,117,109]=true) :
  S t (λd c=>∃a0 a3 P g,d=.enum a0 a3 (P++[g])/\xw b c d (enumS a0 P g) []) (qY (mA (aH t) n.y) { st with at':=j,nx:=none }) (eb t (dS a)):=by
 by_cases z:24<=st.au
 .have k:mA (aH t) n.y { st with at':=j,nx:=none } = .error ⟨5,n.y⟩:=Bb (st:={ st with at':=j,nx:=none }) z _ _;rw[jc k];exact(tJ N A z).cs (CC _)
 .have b1:=tI N A a7 z;have a8:mA (aH t) n.y { st with at':=j,nx:=none } = aE (dK (aH t)) (λe=>aE (bX (aH t) [123]) λ_=>mZ (aH t) e 13 [] []) { st with at':=j,nx:=none,types:=st.au+1 }:=Bc (st:={ st with at':=j,nx:=none }) z _ _;unfold eb;simp only;generalize U t 2 [101,110,117,109] (dS a)=h at *
  have k:S t (λd c=>∃e:List UInt8×Nat,(an t 2 h).1.text=e.1/\∃i g,d=.enum e.1 e.2 (i++[g])/\(cN t 13 [] ([101,110,117,109,32]++(an t 2 h).1.text++[32,123,32]) (U t 4 [123] (an t 2 h).2)).1=false/\(cN t 13 [] ([101,110,117,109,32]++(an t 2 h).1.text++[32,123,32]) (U t 4 [123] (an t 2 h).2)).2.1=(i++[g]).map (·.2.2)/\(cN t 13 [] ([101,110,117,109,32]++(an t 2 h).1.text++[32,123,32]) (U t 4 [123] (an t 2 h).2)).2.2.1=[101,110,117,109,32]++e.1++[32,123,32]++i.flatMap (λg=>Ay g++[44,32])++Ay g/\c.pd=[]/\c.dc=0/\c.fz=b.fz/\c.o=b.o/\c.ps=b.ps/\c.rf=b.rf/\c.nl=b.nl++[(e.1,none)]++(i++[g]).map conE/\ak b.nl e.1=none/\ak c.nl e.1=some none/\At e.1 e.2 (enF t (cN t 13 [] ([101,110,117,109,32]++(an t 2 h).1.text++[32,123,32]) (U t 4 [123] (an t 2 h).2))).A/\(∀a1∈(i++[g]).map (·.2.2),cO (-2147483648) 2147483647 a1=true))
    (mA (aH t) n.y { st with at':=j,nx:=none }) (enF t (cN t 13 [] ([101,110,117,109,32]++(an t 2 h).1.text++[32,123,32]) (U t 4 [123] (an t 2 h).2))):=by
   rw[a8];refine S.c7 (uT b1 O) ((aR _ _ _).trans ((vm _ _ _ _).trans (stk_enF _))) ?_;rintro e c1 s m ⟨rfl,B,c3,a2,b5⟩;refine S.c7 (nX m (kd:=4) (l:=[123]) (by decide)) ((vm _ _ _ _).trans (stk_enF _)) ?_;rintro a1 b4 b7 L ⟨rfl,-⟩;have:=sim_enumL e 13 [] [] ([101,110,117,109,32]++(an t 2 h).1.text++[32,123,32]) b4 (U t 4 [123] (an t 2 h).2) _ L O a6 (by simp) (by simp) rfl (by rw[jh _ _ _ a2,Y9 rfl]) (by
    show At e.1 e.2 (an t 2 h).2.A;rw[b5];exact at_end _ e _ _) (by simp)
   refine this.mono ?_;rintro d b8 ⟨i,g,a4,u,D,E,v,F,G,H,I,J,w,x,p,C⟩;exact⟨e,B,i,g,by simpa using a4,u,by simpa using D,by rw[<-B];exact E,v,F,G,H,I,J,w,a2,x,p,by simpa using C⟩
  generalize cN t 13 [] ([101,110,117,109,32]++(an t 2 h).1.text++[32,123,32]) (U t 4 [123] (an t 2 h).2)=y at *
  cases q:mA (aH t) n.y { st with at':=j,nx:=none }with
  |error f=>
   rw[q]at k;have k:Er f (enF t y):=k;rw[jc q];unfold enF at k;split at k
   .rename_i K;rw[Y9 K];exact k
   .rename_i K;rw[Y2 K];exact k.cs ((fj _ _).trans ((ll _ _ _).trans (gx _ _)))
  |ok b0=>
   obtain⟨d,c2⟩:=b0;rw[q]at k;obtain⟨s,m,e,B,i,g,rfl,u,D,E,v,F,G,H,I,J,w,a5,x,p,C⟩:=k;rw[mH q,Y2 (by rw[u];simp),B,D,E];unfold enF at m p;rw[u]at m p;simp only[Ye,if_false]at m p
   generalize U t 4 [59] (U t 4 [125] y.2.2.2)=b6 at *
   have L:=m.row (r:=mz (i++[g])) ⟨by simp<;>omega,by simp,by simp<;>omega,λ_=>C⟩ (by simp);have b2:=L.typed (d:=.enum e.1 e.2 (i++[g])) (n:=b6.w.length) x v p rfl ⟨by simp,row_at _ _⟩;have b3:=b2.put ([101,110,117,109,32]++e.1++[32,123,32]++i.flatMap (λg=>Ay g++[44,32])++Ay g++[32,125,59,10]);refine⟨_,b3,e.1,e.2,i,g,rfl,⟨v,F,G,by show s.o++_=_;rw[H];rfl,by show s.ps=_;rw[I];simp,by show s.rf=_;rw[J];simp[kx],(i++[g]).map conE,?_,?_⟩⟩
   .show gs s.nl e.1 _=_;rw[w]at x ⊢;unfold gs;rw[List.map_append];have M:=uN (d:=.enum e.1 e.2 (i++[g])) a5;unfold gs at M;rw[M];rw[YN];congr 1;show _::_=_::_;congr 1;conv=>rhs;rw[<-List.map_id ((i++[g]).map conE)]
    apply List.map_congr_left;intro j A;have a9:j.1≠e.1:=λy=>by
     have R:=m.nm.nd;rw[w,List.map_append,YJ]at R;exact R.2.2 e.1 (by simp) e.1 (YE.2 ⟨j,A,y⟩) rfl
    have:(j.1==e.1)=false:=by simpa using a9
    simp[this]
   .intro b9 q;obtain⟨c0,-,rfl⟩:=YE.1 q;exact⟨_,_,_,rfl⟩
end
section
variable {a h n c:Nat}{m j:Type}
variable {t : List UInt8} {st q : St} {b o u v p : Z} {f g : aV} {k : Mar.aD}
def RepL(e:List aG)(b:List aF)(d:List Int):Prop:=d.length=b.length/\∀(a:Nat) (c:Int) (h:aF),d[a]? = some c->b[a]? = some h->ep e h.ty c
def RepL.ext{e:List aF}{f:List Int}(d:RepL b.w e f)(j:cx b o):RepL o.w e f:=⟨d.1,λi c h a g=>(d.2 i c h a g).ext j⟩
def RepL.d1{j:List aG}{f:List aF}{m:List Int}(d:RepL j f m){k:aF}{n:Int}(o:ep j k.ty n):RepL j (f++[k]) (m++[n]):=by
 refine⟨by simp[d.1],?_⟩;intro g c h a b;rcases Yj g f.length with e|e
 .rw[Ys e]at b;rw[Ys (by rw[d.1];exact e)]at a;exact d.2 g c h a b
 .rw[Yw e]at b;rw[Yw (by rw[d.1];exact e),d.1]at a;match l:g-f.length with
  |0=>
   rw[l]at a b;simp at a b;subst a;subst b;exact o
  |i+1=>rw[l]at a;simp at a
def RepL.lt{a:List aG}{e:List aF}{f:List Int}(h:5<=a.length)(b:RepL a e f):∀g∈f,g<a.length:=by
 intro g j;obtain⟨d,c,rfl⟩:=List.mem_iff_getElem.1 j;have i:d<e.length:=by rw[<-b.1];exact c
 exact(b.2 d _ _ (Yd c) (Yd i)).lt h
def memD(a:aF):List UInt8:=zR a.ty++a.t++yX a.ty++[59,32]
abbrev od(t:List UInt8)(n:Nat)(a:List (List UInt8))(b:Z):jM×Z:=bf t a false (ao n 12 b)
def vB(g:b.s.e=0)(f:Nat)(a:List Int)(c:List (List UInt8))(d:List UInt8):cS t (f+1) a c d b =
  if aA (U t 4 [59] (od t a.length c b).2) 4 [125]=true then (a++[(od t a.length c b).1.r],d++(od t a.length c b).1.e8++(od t a.length c b).1.x.text++(od t a.length c b).1.e5++[59,32],U t 4 [59] (od t a.length c b).2)
  else cS t f (a++[(od t a.length c b).1.r]) (c++[(od t a.length c b).1.x.text]) (d++(od t a.length c b).1.e8++(od t a.length c b).1.x.text++(od t a.length c b).1.e5++[59,32]) (U t 4 [59] (od t a.length c b).2):=by
 conv=>lhs;unfold cS
 rw[Y2 (by simpa using g)]
def stk_structL1(d:b.s.e=0)(f:Nat)(c:List Int)(a:List (List UInt8))(g:List UInt8):ar (U t 4 [59] (od t c.length a b).2) (cS t (f+1) c a g b).2.2:=by
 rw[vB d];split
 .exact ar.refl _
 .exact vv _ _ _ _ _
def stk_structL0(g:b.s.e=0)(c:Nat)(a:List Int)(d:List (List UInt8))(f:List UInt8):ar (ao a.length 12 b) (cS t (c+1) a d f b).2.2:=((og _ _ _).trans (aR _ _ _)).trans (stk_structL1 g c a d f)
def Bd.structL(a:Bd k b)(c:Nat)(g:List Int)(d:List (List UInt8))(f:List UInt8):Er k (cS t (c+1) g d f b).2.2:=(a.fB _ _).cs (stk_structL0 a.e c g d f)
def sim_piece(o:Q t f st b)(a:cL)(l:List aF)(e:List (List UInt8)):Sx t (λ_ c g=>∃h,g=f.c5 (wb h.ty)/\c=(l++[h],e++[h.t])/\DeclOk h (bf t e false b).1 (bf t e false b).2) (stPiece (aH t) a (l,e) st) (U t 4 [59] (bf t e false b).2):=by
 have d:=Cl (G:=λm n i g=>g=f.c5 m/\i=e++[n.1]) (λm=>clm_among e a.q a.bx) o;unfold stPiece;cases j:gf (aH t) (bw a.q a.bx) e st with
 |error k=>
  rw[j]at d;rcases d with d|d
  .exact d.cs (aR _ _ _)
  .exact d.h3 (by omega)
 |ok p=>
  obtain⟨h,i,w⟩:=p;rw[j]at d;obtain⟨s,q,⟨rfl,rfl⟩,ok⟩:=d;refine Sx.c7 (S.gP (nX q (kd:=4) (l:=[59]) (by decide))) (ar.refl _) ?_;rintro y v x u r ⟨⟨rfl,-⟩,rfl⟩;exact⟨_,r,h,rfl,rfl,ok⟩
def roomx_ok(d:¬h<=n)(b:Unit->PX j m)(c:j)(st:St):aK (lift (io n h a)) b c st=b () c st:=by
 unfold aK lift io;rw[Y2 d]
def roomx_no(b:h<=n)(c:Unit->PX j m)(d:j)(st:St):aK (lift (io n h a)) c d st=.error ⟨5,a⟩:=by
 unfold aK lift io;rw[Y9 b]
def peekx_ok{a:Mar.aN}(e:cf t st.y st.nx=.ok (a,c))(b:Mar.aN->PX j m)(d:j):aK (lift (ed (aH t))) b d st=b a d { st with at':=c,nx:=some a }:=by
 unfold aK lift;rw[hk e]
def peekx_err(a:cf t st.y st.nx=.error k)(b:Mar.aN->PX j m)(c:j):aK (lift (ed (aH t))) b c st=.error k:=by
 unfold aK lift;rw[js a]
def acceptx{c:List UInt8}{a:Bool}{e:St}(f:fD (aH t) c st=.ok (a,e))(b:Bool->PX j m)(d:j):aK (lift (fD (aH t) c)) b d st=b a d e:=by
 unfold aK lift;rw[f]
def acceptx_err{a:List UInt8}(b:fD (aH t) a st=.error k)(c:Bool->PX j m)(d:j):aK (lift (fD (aH t) a)) c d st=.error k:=by
 unfold aK lift;rw[b]
def blockF_some(a:ByteArray)(su:Nat)(c:PX j Unit)(b n:Nat):pP a su c (b+1) (n+1)=aK (lift (fD a [125])) λd=>if d then dq ()else blockR a su c b (n+1):=by
 rfl
def blockF_none(a:ByteArray)(su:Nat)(c:PX j Unit)(b:Nat):pP a su c (b+1) 0=blockR a su c b 0:=by
 show aK (if 0=0 then dq false else lift (fD a [125])) _=_
 rw[Y9 rfl];rfl
def sim_structL(a:cL):∀(j:Nat) (i:List aF) (d:List (List UInt8)) (h:List Int) (m:List UInt8) (st:St) (b:Z) (f:aV),Q t f st b->i.length+j=13->i.length<=12->RepL b.w i h->
  Sx t (λ_ c g=>∃s,g=f.c5 (s.flatMap λn=>wb n.ty)/\c.1=i++s/\RepL (cS t (j+1) h d m b).2.2.w (i++s) (cS t (j+1) h d m b).1/\(cS t (j+1) h d m b).2.1=m++s.flatMap memD/\(cS t (j+1) h d m b).2.2.A=b.A) (blockR (aH t) 12 (stPiece (aH t) a) j i.length (i,d) st) (U t 4 [125] (cS t (j+1) h d m b).2.2):=by
 intro j;induction j with
 |zero=>intro i d h m st b f _ a5 a6;omega
 |succ j O=>
  intro i d h m st b f q a7 a8 w;have y:=(stk_structL0 (t:=t) q.e (j+1) h d m).trans (aR (t:=t) 4 [125] _);unfold blockR;rcases pk t st with⟨a0,c,o⟩|⟨k,o⟩
  .rw[peekx_ok o];have v:=q.fB o h.length 12;by_cases z:12<=i.length
   .rw[roomx_no z];rw[Y9 (by rw[w.1];omega)]at v;rw[v]at y;exact(q.c1 (e:=5) (a:=a0.y) (by omega)).cs y
   .rw[roomx_ok z];rw[Y2 (by rw[w.1];omega)]at v;have A:od t h.length d b=bf t d false b:=by unfold od;rw[v]
    have R:=(stk_structL1 (t:=t) q.e (j+1) h d m).trans (aR (t:=t) 4 [125] _);have o:=sim_piece (q.d6 o) a i d;rw[<-A]at o;refine Sx.c7 o R ?_;rintro S a9 b1 G P ⟨n,B,rfl,ok⟩;have E:cx b (U t 4 [59] (od t h.length d b).2):=by rw[A];exact(gh _ _ _).trans (aa _ _ _).ext
    rw[vB q.e];have D:RepL (U t 4 [59] (od t h.length d b).2).w (i++[n]) (h++[(od t h.length d b).1.r]):=(w.ext E).d1 ok.k8;have M:m++(od t h.length d b).1.e8++(od t h.length d b).1.x.text++(od t h.length d b).1.e5++[59,32]=m++memD n:=by rw[ok.e8,ok.e5,ok.x];simp[memD]
    have N:(od t h.length d b).1.x.text=n.t:=ok.x;have C:=E.A;rw[M,N];generalize U t 4 [59] (od t h.length d b).2=p at *
    rw[blockF_some];rcases yN P (kd:=4) (l:=[125]) (by decide)with⟨a4,u,a2⟩|⟨F,u,a2,a3⟩|⟨F,u,a2,a3⟩
    .rw[acceptx_err u,Y2 (by rw[a2.is (by omega)];simp)];exact(a2.structL j _ _ _).cs (aR _ _ _)
    .rw[acceptx u,Y9 a2,oK a2];exact⟨_,a3,[n],by rw[B];simp,rfl,D,by simp,C⟩
    .rw[acceptx u,Y2 (by rw[a2];simp)];simp only[Ye,if_false]
     have:=O (i++[n]) (d++[n.t]) (h++[(od t h.length d b).1.r]) (m++memD n) F p G a3 (by simp;omega) (by simp;omega) D;rw[show (i++[n]).length=i.length+1 by simp]at this;refine this.mono ?_;rintro S b0 a1 ⟨s,H,I,J,K,L⟩;refine⟨n::s,by rw[H,B,aV.k7];simp,by rw[I];simp,?_,by rw[K];simp,by rw[L,C]⟩;simpa using J
  .rw[peekx_err o];exact((q.bd o).fB _ _).cs y
def structS(b:List UInt8)(a:List aF):List UInt8:=[115,116,114,117,99,116,32]++b++[32,123,32]++a.flatMap memD++[125,59,10]
def sim_struct{p:Mar.aN}(I:Q t f st b)(D:f.pd=[])(a3:f.dc=0)(y:cf t st.y st.nx=.ok (p,c))(a4:aA b 2 [115,116,114,117,99,116]=true) :
  S t (λd g=>∃M a i,d=.struct M a i/\xw f g d (structS M i) []) (qY (oq (aH t) p.y) { st with at':=c,nx:=none }) (ee t (dS b)):=by
 by_cases w:24<=st.au
 .have q:oq (aH t) p.y { st with at':=c,nx:=none } = .error ⟨5,p.y⟩:=Bb (st:={ st with at':=c,nx:=none }) w _ _;rw[jc q];exact(tJ I y w).cs (CF _)
 .have a9:=tI I y a4 w;have a6:oq (aH t) p.y { st with at':=c,nx:=none } = aE (dK (aH t)) (λn=>aE (BZ (pO (aH t) 12 (stPiece (aH t) ⟨0,0,0,0,0,0⟩)) ([],[])) λc=>aE (bX (aH t) [59]) λ_=>bQ (.struct n.1 n.2 c.1)) { st with at':=c,nx:=none,types:=st.au+1 }:=Bc (st:={ st with at':=c,nx:=none }) w _ _;unfold ee;simp only;generalize U t 2 [115,116,114,117,99,116] (dS b)=m at *
  generalize J:cS t 14 [] [] ([115,116,114,117,99,116,32]++(an t 2 m).1.text++[32,123,32]) (U t 4 [123] (an t 2 m).2)=e;have N:ar (U t 4 [123] (an t 2 m).2) e.2.2:=by rw[<-J];exact vv _ _ _ _ _
  have q:S t (λd g=>∃n:List UInt8×Nat,(an t 2 m).1.text=n.1/\∃i,d=.struct n.1 n.2 i/\RepL e.2.2.w i e.1/\e.2.1=[115,116,114,117,99,116,32]++n.1++[32,123,32]++i.flatMap memD/\g=(f.a7 n.1).c5 (i.flatMap λd=>wb d.ty)/\ak f.nl n.1=none/\At n.1 n.2 e.2.2.A)
    (oq (aH t) p.y { st with at':=c,nx:=none }) (U t 4 [59] (U t 4 [125] e.2.2)):=by
   rw[a6];refine S.c7 (uT a9 D) ((aR _ _ _).trans (N.trans ((aR _ _ _).trans (aR _ _ _)))) ?_;rintro n F O z ⟨rfl,A,c1,b3,b4⟩;have x:Sx t (λ_ (c:List aF×List (List UInt8)) g=>g=(f.a7 n.1).c5 (c.1.flatMap λd=>wb d.ty)/\RepL e.2.2.w c.1 e.1/\e.2.1=[115,116,114,117,99,116,32]++n.1++[32,123,32]++c.1.flatMap memD/\e.2.2.A=(an t 2 m).2.A) (pO (aH t) 12 (stPiece (aH t) ⟨0,0,0,0,0,0⟩) ([],[]) F) (U t 4 [125] e.2.2):=by
    unfold pO;refine Sx.c7 (S.gP (nX z (kd:=4) (l:=[123]) (by decide))) (N.trans (aR _ _ _)) ?_;rintro G b2 b1 P u ⟨⟨rfl,-⟩,rfl⟩;rw[blockF_none];have:=sim_structL ⟨0,0,0,0,0,0⟩ 13 [] [] [] ([115,116,114,117,99,116,32]++(an t 2 m).1.text++[32,123,32]) b1 (U t 4 [123] (an t 2 m).2) _ u (by simp) (by simp) ⟨rfl,λK c h y=>by simp at y⟩;rw[J]at this;refine this.mono ?_;rintro b2 b7 R ⟨b6,rfl,v,j,s,B⟩;simp only[YT]at v j;exact⟨by rw[v],by rw[v];exact j,by rw[v,s,A],B⟩
   have a2:S t (λ(c:List aF×List (List UInt8)) g=>g=(f.a7 n.1).c5 (c.1.flatMap λd=>wb d.ty)/\RepL e.2.2.w c.1 e.1/\e.2.1=[115,116,114,117,99,116,32]++n.1++[32,123,32]++c.1.flatMap memD/\e.2.2.A=(an t 2 m).2.A) (BZ (pO (aH t) 12 (stPiece (aH t) ⟨0,0,0,0,0,0⟩)) ([],[]) F) (U t 4 [125] e.2.2):=by
    unfold BZ;cases o:pO (aH t) 12 (stPiece (aH t) ⟨0,0,0,0,0,0⟩) ([],[]) F with
    |error k=>rw[o]at x;exact x
    |ok L=>rw[o]at x;exact x
   refine S.c7 a2 (aR _ _ _) ?_;rintro a8 b8 P u ⟨rfl,j,s,B⟩;refine S.c7 (nX u (kd:=4) (l:=[59]) (by decide)) (ar.refl _) ?_;rintro G b9 R E ⟨rfl,-⟩;exact S.ret E ⟨n,A,a8.1,rfl,j,s,rfl,b3,by rw[B,b4];exact at_end _ n _ _⟩
  cases o:oq (aH t) p.y { st with at':=c,nx:=none }with
  |error k=>
   rw[o]at q;rw[jc o];exact Er.cs q ((fj _ _).trans ((ll _ _ _).trans (gx _ _)))
  |ok L=>
   obtain⟨d,c0⟩:=L;rw[o]at q;obtain⟨O,z,n,A,i,rfl,j,s,rfl,H,C⟩:=q;rw[mH o,A,s];have j:RepL (U t 4 [59] (U t 4 [125] e.2.2)).w i e.1:=j;have C:At n.1 n.2 (U t 4 [59] (U t 4 [125] e.2.2)).A:=C;generalize U t 4 [59] (U t 4 [125] e.2.2)=b5 at *
   have a5:=j.lt z.len5;have u:=z.row (r:=⟨12,0,0,[],e.1,0,[],0⟩) ⟨by simp<;>omega,λG a7=>(by have:=a5 G a7;omega),by simp<;>omega,by simp⟩ (by simp);have E:=u.typed (d:=.struct n.1 n.2 i) (n:=b5.w.length) (by show ak (f.nl++_) _=_;rw[jh _ _ _ H,Y9 rfl]) D C rfl ⟨by simp,e.1,row_at _ _,j.1,λK c h a0 a1=>(j.2 K c h a0 a1).a6 _⟩;have b0:=E.put ([115,116,114,117,99,116,32]++n.1++[32,123,32]++i.flatMap memD++[125,59,10]);exact⟨_,b0,n.1,n.2,i,rfl,⟨D,a3,rfl,rfl,by simp[aV.c5],rfl,[],uN H,by simp⟩⟩
end
section
variable {g:Int}{p:Int->Bool}
variable {t : List UInt8} {d j : St} {b σ' m q r : Z} {f i : aV} {h : Mar.aD}
def PSel(b:List aG)(of:Int)(p:Int->Bool):Prop:=
 (of=0/\p=cO (-2147483648) 2147483647)\/(of=1/\p=cO 0 4294967295)\/(of=4/\p=cO 0 1)\/(4<of/\∃a,b[of.toNat]? = some (mz a)/\p=hasNum a)
def Q.row_kind(a:Q t f d b)(e:0<=g)(h:g<=4):(nS b g).kind=g:=by
 obtain⟨i,c⟩:=a.d2;unfold nS;rw[c];have:g=0\/g=1\/g=2\/g=3\/g=4:=by omega
 rcases this with rfl|rfl|rfl|rfl|rfl<;>rfl
def rowAt_of{a:aG}(c:b.w[g.toNat]? = some a):nS b g=a:=by
 unfold nS;rw[List.getD_eq_getElem?_getD,c];rfl
def rep_kind(j:Q t f d b){i:Ty}(a:ep b.w i g)(k:0<=g):(nS b g).kind≠5:=by
 cases i with
 |plain r=>have p:=a.1;have q:=a.2;rw[j.row_kind k (by omega)];omega
 |named u o=>obtain⟨_,s,c,l,_⟩:=a;rw[rowAt_of c,l];omega
 |opaq e h=>rw[rowAt_of a.2];cases h<;>simp[iq]
 |str e h=>rw[rowAt_of a.2];simp[iq]
 |arr n e h=>obtain⟨_,m,c,_⟩:=a;rw[rowAt_of c];cases h<;>simp[fJ]
 |opt n=>obtain⟨_,m,c,_⟩:=a;rw[rowAt_of c];simp[fJ]
 |void=>have:g = -1:=a;omega
def Bd.numb(c:Bd h b):Er h (dM t b).2:=by
 unfold dM;rw[Y2 (λa=>by have:=a.2;rw[c.k]at this;omega),Y2 (λa=>by have:=a.2.1;rw[c.k]at this;omega)];exact c.fs
def sim_sel(j:Q t f d b)(a7:f.pd=[]):Sw t (λz i=>i=f/\iJ (dM t b).2.w f.nl z.1 (dM t b).1.1/\(dM t b).1.2=Ci z.1/\PSel (dM t b).2.w (dM t b).1.1 z.2) (lc (aH t) d) (dM t b).2:=by
 unfold lc Go.Proofs.YtjdhaegijjednaaGreatDoor.c7;rcases pk t d with⟨a,p,w⟩|⟨h,w⟩
 .rw[jp w];have a1:=j.wd;rw[w]at a1;obtain⟨⟨N,G,b6,a2,b7⟩,a4⟩:=a1;have H:=j.e2 w;simp only;unfold Cd dM;by_cases P:a.kind=1
  .rw[Y9 (c:=((a.kind:Int)==1)=true) (by rw[P];rfl),Y9 (c:=b.s.e=0/\b.s.x.kind=1) ⟨j.e,by rw[N];exact P⟩];unfold Go.Proofs.YtjdhaegijjednaaGreatDoor.c7 enumNamed;have a6:d.A=f.nl:=by rw[j.nl,a7];simp
   rw[show ak ({ d with at':=p,nx:=none }:St).A a.text=ak f.nl a.text by rw[<-a6]];rw[G];have r:∀{o:Option (Option ah)},(∀k m I,o≠some (some (.enum k m I)))->(cF b a.text<0\/(gm b).az≠1\/(nS b (gm b).n).kind≠5)->
     Sw t (λ(z:Ty×(Int->Bool)) i=>i=f/\iJ (if cF b a.text<0\/(gm b).az≠1\/(nS b (gm b).n).kind≠5 then (((0:Int),([]:List UInt8)),bq 7 ↑b.s.x.y b)else (((gm b).n,a.text),aO t b)).2.w f.nl z.1 (if cF b a.text<0\/(gm b).az≠1\/(nS b (gm b).n).kind≠5 then (((0:Int),([]:List UInt8)),bq 7 ↑b.s.x.y b)else (((gm b).n,a.text),aO t b)).1.1/\(if cF b a.text<0\/(gm b).az≠1\/(nS b (gm b).n).kind≠5 then (((0:Int),([]:List UInt8)),bq 7 ↑b.s.x.y b)else (((gm b).n,a.text),aO t b)).1.2=Ci z.1/\PSel (if cF b a.text<0\/(gm b).az≠1\/(nS b (gm b).n).kind≠5 then (((0:Int),([]:List UInt8)),bq 7 ↑b.s.x.y b)else (((gm b).n,a.text),aO t b)).2.w (if cF b a.text<0\/(gm b).az≠1\/(nS b (gm b).n).kind≠5 then (((0:Int),([]:List UInt8)),bq 7 ↑b.s.x.y b)else (((gm b).n,a.text),aO t b)).1.1 z.2)
     (.error ⟨7,a.y⟩) (if cF b a.text<0\/(gm b).az≠1\/(nS b (gm b).n).kind≠5 then (((0:Int),([]:List UInt8)),bq 7 ↑b.s.x.y b)else (((gm b).n,a.text),aO t b)).2:=λ_ a3=>by
    rw[Y9 a3,a2];exact Y8 (j.c1 (e:=7) (a:=a.y) (by omega))
   rcases j.fv a.text with⟨J,S⟩|⟨g,o,A,J,S,b8,b0,b1⟩
   .rw[J];exact r (o:=none) (by simp) (Y8 S)
   .have u:gm b=A:=by
     unfold gm;rw[G,S,Int.toNat_natCast,List.getD_eq_getElem?_getD,b0];rfl
    rw[J];have q:=b1.2;cases o with
    |none=>exact r (o:=some none) (by simp) (Ya (Y8 (by rw[u];have:A.az=2:=q;omega)))
    |some s=>
     cases s with
     |const k m v=>exact r (o:=some (some (.const k m v))) (by simp) (Ya (Y8 (by rw[u];have:A.az=0:=q.1;omega)))
     |prog k m e s=>exact r (o:=some (some (.prog k m e s))) (by simp) (Ya (Y8 (by rw[u];have:A.az=2:=q;omega)))
     |eJ s=>exact r (o:=some (some (.typedef s))) (by simp) (Ya (Ya (by rw[u];exact rep_kind j q.2.2.1 q.2.2.2)))
     |struct k m e=>
      obtain⟨_,_,M,b2,y,_⟩:=q;exact r (o:=some (some (.struct k m e))) (by simp) (Ya (Ya (by rw[u,rowAt_of y];simp)))
     |union k m e s=>
      obtain⟨_,_,M,of,b2,b4,y,_⟩:=q;exact r (o:=some (some (.union k m e s))) (by simp) (Ya (Ya (by rw[u,rowAt_of y];simp)))
     |enum k m I=>
      obtain⟨a9,_,M,y⟩:=q;have a5:(nS b A.n).kind=5:=by rw[rowAt_of y]
      rw[u,Y2 (by rw[a9,a5];simp;omega)];have a0:4<A.n:=by
       rcases Int.lt_or_le 4 A.n with O|O
       .exact O
       .have:=j.row_kind M O;omega
      exact⟨f,H,rfl,Ya ⟨_,_,k,m,I,rfl,a0,J,y⟩,rfl,Ya (Ya (Ya ⟨a0,I,y,rfl⟩))⟩
  .rw[Y2 (c:=((a.kind:Int)==1)=true) (by simp;omega),Y2 (c:=b.s.e=0/\b.s.x.kind=1) (λc=>P (by rw[<-N];exact c.2))];have R:∀K,Mar.c9 K=true->a.text=K->b.s.x.kind=2/\b.s.x.text=K:=λK a8 c=>⟨by rw[N];exact a4.key (by rw[c];exact a8),by rw[G];exact c⟩;by_cases D:a.text=[105,110,116]
   .have c:=R _ (by decide) D;rw[Y9 (c:=(a.text==[105,110,116])=true) (by simpa using D),Y9 (c:=b.s.e=0/\_) ⟨j.e,c.1,Y8 c.2⟩,Y9 c.2];exact⟨f,H,rfl,Y8 ⟨0,rfl,Y8 rfl,rfl⟩,rfl,Y8 ⟨rfl,rfl⟩⟩
   .rw[Y2 (c:=(a.text==[105,110,116])=true) (by simpa using D)];by_cases E:a.text=[117,110,115,105,103,110,101,100]
    .have c:=R _ (by decide) E;rw[Y9 (c:=(a.text==[117,110,115,105,103,110,101,100])=true) (by simpa using E),Y9 (c:=b.s.e=0/\_) ⟨j.e,c.1,Ya (Y8 c.2)⟩,Y2 (by rw[c.2];simp),Y2 (by rw[c.2];simp)];unfold Go.Proofs.YtjdhaegijjednaaGreatDoor.c7;rcases yN H (kd:=2) (l:=[105,110,116]) (by decide)with⟨b5,C,B⟩|⟨b3,C,B,L⟩|⟨b3,C,B,L⟩
     .rw[C,Y2 (by rw[B.is (by omega)];simp)];exact Ya B
     .rw[C,Y9 B];exact⟨f,L,rfl,Y8 ⟨1,rfl,Ya (Y8 rfl),rfl⟩,rfl,Ya (Y8 ⟨rfl,rfl⟩)⟩
     .rw[C,Y2 (by rw[B];simp)];exact⟨f,L,rfl,Y8 ⟨1,rfl,Ya (Y8 rfl),rfl⟩,rfl,Ya (Y8 ⟨rfl,rfl⟩)⟩
    .rw[Y2 (c:=(a.text==[117,110,115,105,103,110,101,100])=true) (by simpa using E)];by_cases F:a.text=[98,111,111,108]
     .have c:=R _ (by decide) F;rw[Y9 (c:=(a.text==[98,111,111,108])=true) (by simpa using F),Y9 (c:=b.s.e=0/\_) ⟨j.e,c.1,Ya (Ya c.2)⟩,Y2 (by rw[c.2];simp),Y9 c.2];exact⟨f,H,rfl,Y8 ⟨4,rfl,Ya (Ya rfl),rfl⟩,rfl,Ya (Ya (Y8 ⟨rfl,rfl⟩))⟩
     .rw[Y2 (c:=(a.text==[98,111,111,108])=true) (by simpa using F),Y2 (c:=b.s.e=0/\_) (λc=>by
       rw[G]at c;rcases c.2.2 with c|c|c
       .exact D c
       .exact E c
       .exact F c)]
      exact Y8 (j.fn w)
 .rw[jo w];exact Y8 (j.bd w).numb
def value_p(f:ByteArray){e c:Int}(l:∀i,p i=true->cO e c i=true)(d:St):iw f p d=match iw f (cO e c) d with
  |.ok (a,j)=>if p a.1 then .ok (a,j)else .error ⟨8,a.2⟩
  |.error h=>.error h:=by
 unfold iw aE;cases next f d with
 |error h=>rfl
 |ok a=>
  simp only;cases dx a.1 a.2 with
  |error h=>rfl
  |ok k=>
   simp only;by_cases b:p k.1=true
   .rw[Y9 b,Y9 (l _ b)];simp only[bQ,b,if_true]
   .rw[Y2 b];by_cases g:cO e c k.1=true
    .rw[Y9 g];simp only[bQ,eg,b,Ye,if_false]
    .rw[Y2 g];rfl
abbrev cs4(of:Int)(v:(Int×Int)×Z):Z:=if v.2.s.e=0/\4<of/\(nS v.2 of).bp.contains v.1.1=false then bq 8 v.1.2 v.2 else v.2
abbrev cs5(a:List Int)(v:(Int×Int)×Z)(b:Z):Z:=if b.s.e=0/\a.contains v.1.1=true then bq 6 v.1.2 b else b
def sim_case(w:Q t f d b){of:Int}(O:PSel b.w of p)(q:List (Int×Int))(g:List Int)(x:q.map (·.1)=g) :
  Sx t (λa r i=>i=f/\a=(be t (rT of) (ru of) b).1.1/\r.map (·.1)=g++[a]) (go (aH t) p q d) (cs5 g (be t (rT of) (ru of) b) (cs4 of (be t (rT of) (ru of) b))):=by
 have u:of<=4->p=cO (rT of) (ru of)->Sx t (λa r i=>i=f/\a=(be t (rT of) (ru of) b).1.1/\r.map (·.1)=g++[a]) (go (aH t) p q d) (cs5 g (be t (rT of) (ru of) b) (cs4 of (be t (rT of) (ru of) b))):=by
  intro A e;have k:=uV w q g x (rT of) (ru of);rw[e];unfold cs5 cs4;rw[Y2 (c:=(be t (rT of) (ru of) b).2.s.e=0/\4<of/\_) (λj=>by omega)];exact k.mono λa r i y=>⟨y.1,y.2.1,y.2.2.1⟩
 rcases O with⟨rfl,e⟩|⟨rfl,e⟩|⟨rfl,e⟩|⟨A,l,C,rfl⟩
 .exact u (by omega) e
 .exact u (by omega) e
 .exact u (by omega) e
 .have J:rT of = -2147483648:=by unfold rT;rw[Y2 (by omega)]
  have H:ru of=2147483647:=by unfold ru;rw[Y2 (by omega),Y2 (by omega)]
  rw[J,H];have I:∀a,hasNum l a=true->cO (-2147483648) 2147483647 a=true:=λa L=>by
   have G:=w.dH _ (mz l) C;refine G.2.2.2 rfl a ?_;obtain⟨P,K,F⟩:=List.any_eq_true.1 L;exact YE.2 ⟨P,K,by simpa using F⟩
  have k:=uY w (-2147483648) 2147483647;have N:(be t (-2147483648) 2147483647 b).2.w=b.w:=(dz _ _ _).w;have M:nS (be t (-2147483648) 2147483647 b).2 of=mz l:=rowAt_of (by rw[N];exact C);unfold go aK lift;rw[value_p _ I];generalize be t (-2147483648) 2147483647 b=v at *
  cases B:iw (aH t) (cO (-2147483648) 2147483647) d with
  |error h=>
   rw[B]at k;refine k.cs ?_;exact(hr _ _ _ _).trans (hr _ _ _ _)
  |ok R=>
   obtain⟨⟨a,n⟩,a1⟩:=R;rw[B]at k;obtain⟨S,m,rfl,z,D⟩:=k;simp only at z D ⊢;have E:(nS v.2 of).bp.contains a=hasNum l a:=by
    rw[M];rw[Bool.eq_iff_iff];simp[hasNum]
   unfold cs5 cs4;rw[z,E];cases a0:hasNum l a with
   |false=>
    simp only[Ye,if_false]
    rw[Y9 (c:=v.2.s.e=0/\4<of/\True) ⟨m.e,A,trivial⟩];have:=m.c1 (e:=8) (a:=n) (by omega);exact this.cs (hr _ _ _ _)
   |true=>
    simp only[if_true]
    rw[Y2 (c:=v.2.s.e=0/\4<of/\_) (λj=>by simp at j)];unfold lf pU;dsimp only;rw[x];by_cases o:g.contains a=true
    .rw[Y9 o,Y9 ⟨m.e,o⟩];exact m.c1 (e:=6) (a:=n) (by omega)
    .rw[Y2 o,Y2 (λj=>o j.2)];exact⟨_,m,rfl,rfl,by simp[x]⟩
def caseS(a:Int):List UInt8:=[99,97,115,101,32]++dn a++[58,32]
abbrev qq(t:List UInt8)(of:Int)(a:Nat)(b:Z):(Int×Int)×Z:=be t (rT of) (ru of) (U t 2 [99,97,115,101] (ao a 12 b))
abbrev zu(t:List UInt8)(of:Int)(a:List Int)(b:Z):Z:=U t 4 [58] (cs5 a (qq t of a.length b) (cs4 of (qq t of a.length b)))
def zg(f:b.s.e=0)(of:Int)(d:Nat)(a:List Int)(c:List UInt8):dk t of (d+1) a c b =
  if aA (zu t of a b) 2 [99,97,115,101]=true then dk t of d (a++[(qq t of a.length b).1.1]) (c++[99,97,115,101,32]++dn (qq t of a.length b).1.1++[58,32]) (zu t of a b)
  else ((a++[(qq t of a.length b).1.1],c++[99,97,115,101,32]++dn (qq t of a.length b).1.1++[58,32]),zu t of a b):=by
 conv=>lhs;unfold dk
 rw[Y2 (by simpa using f)]
def stk_casesL1(c:b.s.e=0)(of:Int)(d:Nat)(a:List Int)(f:List UInt8):ar (zu t of a b) (dk t of (d+1) a f b).2:=by
 rw[zg c];split
 .exact(iR _ _ _ _ _).2.1
 .exact ar.refl _
def stk_cs6(of:Int)(a:List Int)(b:Z):ar (qq t of a.length b).2 (zu t of a b):=(hr _ _ _ _).trans ((hr _ _ _ _).trans (aR _ _ _))
def sm_cs6(of:Int)(a:List Int)(b:Z):Sm b (zu t of a b):=(aS _ _ _).trans ((aa _ _ _).trans ((dz _ _ _).trans ((fN _ _ _ _).trans ((fN _ _ _ _).trans (aa _ _ _)))))
def PSel.of{of:Int}(a:PSel b.w of p)(c:Sm b σ'):PSel σ'.w of p:=by rw[c.w];exact a
def sim_casesL{of:Int}:∀(m k:Nat) (u:List Int) (l:List (Int×Int)) (c:List Int) (o:List UInt8) (d:St) (b:Z) (f:aV),Q t f d b->PSel b.w of p->l.map (·.1)=c->(c.length<12\/aA b 2 [99,97,115,101]=true)->c.length<=12->13<=c.length+m->13<=c.length+k->
  Sy t (λa2 b0 i=>i=f/\∃n,a2=u++n/\n≠[]/\b0.map (·.1)=c++n/\(dk t of m c o b).1.1=c++n/\(c++n).length<=12/\(dk t of m c o b).1.2=o++n.flatMap caseS) (iQ (aH t) p k u l d) (dk t of m c o b).2:=by
 intro m;induction m with
 |zero=>intro k u l c o d b f _ _ _ _ z b7;omega
 |succ m a9=>
  intro k u l c o d b f j O K a4 c0 b8 b9;obtain⟨k,rfl⟩:∃e,k=e+1:=⟨k-1,by omega⟩;have M:l.length=c.length:=by rw[<-K];simp
  have y:=stk_casesL1 (t:=t) j.e of m c o;unfold iQ;rcases pk t d with⟨A,b1,g⟩|⟨h,g⟩
  .have r:=j.fB g c.length 12;have J:=j.is g (kd:=2) (l:=[99,97,115,101]) (by decide);by_cases q:aA b 2 [99,97,115,101]=true
   .have v:∀(e:Mar.aN->PX (List (Int×Int)) (List Int)),aK (lift (bX (aH t) [99,97,115,101])) e l d=e A l { d with at':=b1,nx:=none }:=λe=>by
     unfold aK lift bX aE;rw[jp g];rw[J]at q;simp only;rw[Y9 q];rfl
    rw[v];by_cases C:12<=c.length
    .rw[roomx_no (by rw[M];exact C)];rw[Y9 (by omega)]at r;have this:Er ⟨5,A.y⟩ (ao c.length 12 b):=by rw[r];exact j.c1 (e:=5) (a:=A.y) (by omega)
     exact Y8 (this.cs ((aR _ _ _).trans ((fO _ _ _).trans ((stk_cs6 of c b).trans y))))
    .rw[roomx_ok (by rw[M];exact C)];rw[Y2 (by omega)]at r;have a3:qq t of c.length b=be t (rT of) (ru of) (aO t b):=by unfold qq;rw[r,oK q]
     have N:=sim_case (j.e2 g) (p:=p) (of:=of) O l c K;rw[<-a3]at N;refine Sy.c7 N ((aR _ _ _).trans y) ?_;rintro x c1 c6 b4 b2 ⟨rfl,a5,L⟩;refine Sy.c7 (S.gP (nX b2 (kd:=4) (l:=[58]) (by decide))) y ?_;rintro c7 D R G E ⟨⟨rfl,-⟩,rfl⟩;have a7:=sm_cs6 (t:=t) of c b;have a6:=O.of a7;rw[zg j.e,<-a5];have E:Q t G R (zu t of c b):=E;generalize zu t of c b=F at *
     rcases Cc E (kd:=2) (l:=[99,97,115,101]) (by decide)with⟨b6,B,s⟩|⟨P,B,s⟩
     .unfold aK lift;rw[B,Y2 (by rw[s.is (by omega)];simp)];exact Ya s
     .have H:∀(e:Bool->PX (List (Int×Int)) (List Int)),aK (lift (eD (aH t) [99,97,115,101])) e D R=e (aA F 2 [99,97,115,101]) D P:=λe=>by
       unfold aK lift;rw[B]
      rw[H];by_cases w:aA F 2 [99,97,115,101]=true
      .rw[Y9 w,Y9 w];have:=a9 k (u++[x]) D (c++[x]) (o++[99,97,115,101,32]++dn x++[58,32]) P F G s a6 L (Ya w) (by simp;omega) (by simp;omega) (by simp;omega);unfold Sy at this ⊢;split at this
       .obtain⟨b5,b3,rfl,n,a0,c2,c3,c4,c5,a1⟩:=this;exact⟨_,b3,rfl,x::n,by rw[a0];simp,by simp,by rw[c3];simp,by rw[c4];simp,by simpa using c5,by rw[a1];simp[caseS]⟩
       .exact this
      .rw[Y2 w,Y2 w];exact⟨_,s,rfl,[x],rfl,by simp,L,rfl,by simp;omega,by simp[caseS]⟩
   .have C:c.length<12:=by rcases a4 with z|z;exact z;exact absurd z q
    rw[Y2 (by omega)]at r;have v:∀(e:Mar.aN->PX (List (Int×Int)) (List Int)),aK (lift (bX (aH t) [99,97,115,101])) e l d=.error ⟨3,A.y⟩:=λe=>by
     unfold aK lift bX aE;rw[jp g];rw[J]at q;simp only;rw[Y2 q];rfl
    rw[v];have I:=j.fn g;have a8:U t 2 [99,97,115,101] (ao c.length 12 b)=bK b:=by rw[r];exact wo (by simpa using q)
    rw[<-a8]at I;exact Y8 (I.cs ((fO _ _ _).trans ((stk_cs6 of c b).trans y)))
  .have v:∀(e:Mar.aN->PX (List (Int×Int)) (List Int)),aK (lift (bX (aH t) [99,97,115,101])) e l d=.error h:=λe=>by
    unfold aK lift bX aE;rw[jo g]
   rw[v];exact Y8 (((j.bd g).fB c.length 12).cs ((aR _ _ _).trans ((fO _ _ _).trans ((stk_cs6 of c b).trans y))))
def armS(a:aF):List UInt8:=match a.ty with
 |.void=>[118,111,105,100,59,32]
 |_=>memD a
def armS_decl{a:aF}{d:List aG}(b:ep d a.ty g)(e:0<=g):armS a=memD a:=by
 unfold armS;split
 .rename_i c;rw[c]at b;have:g = -1:=b;omega
 .rfl
def Bd.arm(a:Bd h b)(c:List (List UInt8)):Er h (dr t c b).2:=by
 unfold dr;rw[Y2 (by rw[a.is (by omega)];simp)];exact(a.h7 c false).cs (aR _ _ _)
def sim_arm(r:Q t f d b)(a:List (List UInt8)):Sx t (λk l i=>i=f.c5 (wb k.ty)/\ep (dr t a b).2.w k.ty (dr t a b).1.1/\(dr t a b).1.2.1=armS k/\(dr t a b).1.2.2=l) (hL (aH t) (bw 0 0) a d) (dr t a b).2:=by
 unfold hL dr;rcases yN r (kd:=2) (l:=[118,111,105,100]) (by decide)with⟨q,g,a2⟩|⟨n,g,a2,a3⟩|⟨n,g,a2,a3⟩
 .rw[Y2 (c:=aA b 2 [118,111,105,100]=true) (by rw[a2.is (by omega)];simp)];have j:∀(e:aF->PX (List (List UInt8)) aF),aK (aK (lift (fD (aH t) [118,111,105,100])) (yR (aH t) (bw 0 0))) e a d=.error q:=λe=>by
   unfold aK lift;rw[g]
  rw[j];exact(a2.h7 a false).cs (aR _ _ _)
 .rw[Y9 (c:=aA b 2 [118,111,105,100]=true) a2];have j:∀(e:aF->PX (List (List UInt8)) aF),aK (aK (lift (fD (aH t) [118,111,105,100])) (yR (aH t) (bw 0 0))) e a d=e ⟨[],0,.void⟩ a n:=λe=>by
   unfold aK lift;rw[g];rfl
  rw[j];refine Sx.c7 (S.gP (nX a3 (kd:=4) (l:=[59]) (by decide))) (ar.refl _) ?_;rintro y l x p m ⟨⟨rfl,-⟩,rfl⟩;exact Sx.ret m ⟨(aV.k6 _).symm,rfl,rfl,rfl⟩
 .rw[Y2 (c:=aA b 2 [118,111,105,100]=true) (by rw[a2];simp)];simp only;have u:=Cl (G:=λo v l i=>i=f.c5 o/\l=a++[v.1]) (λo=>clm_among a 0 0) a3;have j:∀(e:aF->PX (List (List UInt8)) aF),aK (aK (lift (fD (aH t) [118,111,105,100])) (yR (aH t) (bw 0 0))) e a d=aK (gf (aH t) (bw 0 0)) e a n:=λe=>by
   unfold aK lift;rw[g];rfl
  rw[j];refine Sy.e2 u (aR _ _ _) (λh s=>s.h3 (by omega)) ?_;rintro k l x p m ⟨⟨rfl,rfl⟩,ok⟩;refine Sx.c7 (S.gP (nX m (kd:=4) (l:=[59]) (by decide))) (ar.refl _) ?_;rintro y A B z w ⟨⟨rfl,-⟩,rfl⟩;refine Sx.ret w ⟨rfl,ok.k8,?_,by rw[ok.x]⟩;rw[armS_decl ok.k8 ok.k1,ok.e8,ok.e5,ok.x];rfl
end
section
variable {t : List UInt8} {c i : St} {b j k m n : Z} {h g : aV} {f : Mar.aD}
def Sy.mono{i h:Type}{R c:h->i->aV->Prop}{e:Except Mar.aD (h×i×St)}(a:Sy t R e b)(l:∀d f g,R d f g->c d f g):Sy t c e b:=by
 unfold Sy at *
 split at a
 .obtain⟨g,j,k⟩:=a;exact⟨g,j,l _ _ _ k⟩
 .exact a
def RepL.many{b:List aG}{d:List aF}{e:List Int}(g:RepL b d e){c:aF}{f:Int}(i:ep b c.ty f)(a:Nat):RepL b (d++List.replicate a c) (e++List.replicate a f):=by
 induction a with
 |zero=>simpa using g
 |succ a h=>
  have:=h.d1 i;rw[YN,YN,<-List.replicate_succ',<-List.replicate_succ']at this;exact this
def arS(a:List Int×aF):List UInt8:=(if a.1=[]then [100,101,102,97,117,108,116,58,32]else a.1.flatMap caseS)++armS a.2
def unE(t:List UInt8)(u:(List Int×List Int×List (List UInt8)×List UInt8)×Z):(Int×List UInt8)×Z:=ea t u.1.2.2.1 u.2
def stk_unE(a:(List Int×List Int×List (List UInt8)×List UInt8)×Z):ar a.2 (unE t a).2:=vl _ _
def lA(h:b.s.e=0)(of:Int)(g:Nat)(a f:List Int)(c:List (List UInt8))(d:List UInt8):cH t of (g+1) a f c d b =
  if aA (dr t c (dk t of (14-a.length) a [] b).2).2 2 [99,97,115,101]=true then cH t of g (dk t of (14-a.length) a [] b).1.1 (jb (dk t of (14-a.length) a [] b).1.1.length (dr t c (dk t of (14-a.length) a [] b).2).1.1 f) (dr t c (dk t of (14-a.length) a [] b).2).1.2.2 (d++(dk t of (14-a.length) a [] b).1.2++(dr t c (dk t of (14-a.length) a [] b).2).1.2.1) (dr t c (dk t of (14-a.length) a [] b).2).2
  else (((dk t of (14-a.length) a [] b).1.1,jb (dk t of (14-a.length) a [] b).1.1.length (dr t c (dk t of (14-a.length) a [] b).2).1.1 f,(dr t c (dk t of (14-a.length) a [] b).2).1.2.2,d++(dk t of (14-a.length) a [] b).1.2++(dr t c (dk t of (14-a.length) a [] b).2).1.2.1),(dr t c (dk t of (14-a.length) a [] b).2).2):=by
 conv=>lhs;unfold cH
 rw[Y2 (by simpa using h)]
def stk_unionL1(d:b.s.e=0)(of:Int)(f:Nat)(a h:List Int)(c:List (List UInt8))(g:List UInt8):ar (dr t c (dk t of (14-a.length) a [] b).2).2 (cH t of (f+1) a h c g b).2:=by
 rw[lA d];split
 .exact vx _ _ _ _ _ _ _
 .exact ar.refl _
def fill_eq(b:List Int)(c:List Int)(d:Int)(a:List Int)(e:a.length=b.length):jb (b++c).length d a=a++List.replicate c.length d:=by
 unfold jb;rw[Yq,e];congr 2;omega
def nums_snoc(b:List (List Int×aF))(a:List Int)(c:aF):(kc (b++[(a,c)])).map (·.1)=(kc b).map (·.1)++a/\(kc (b++[(a,c)])).map (·.2)=(kc b).map (·.2)++List.replicate a.length c:=by
 unfold kc;constructor
 .simp[Function.comp_def]
 .simp[Function.comp_def,List.map_const']
def else_snoc{b:List (List Int×aF)}(d:ky b=none)(a:List Int)(c:aF):ky (b++[(a,c)])=if a=[]then some c else none:=by
 unfold ky at *
 rw[List.find?_append];cases f:b.find? (λe=>e.1.isEmpty)with
 |some h=>rw[f]at d;cases d
 |none=>
  cases a with
  |nil=>simp
  |cons g a=>simp
def else_all{b:List (List Int×aF)}(c:ky b=none):∀a∈b,a.1≠[]:=by
 intro a d e;unfold ky at c;have:b.find? (λa=>a.1.isEmpty)=none:=by simpa using c
 rw[List.find?_eq_none]at this;exact this a d (by simp[e])
structure ArmsOk(arms:List (List Int×aF))(u:(List Int×List Int×List (List UInt8)×List UInt8)×Z)(e:(Int×List UInt8)×Z)(j:List UInt8)(new:List (List Int×aF)):Prop where
 bp:(kc arms).map (·.1)=u.1.1
 gR:RepL e.2.w ((kc arms).map (·.2)) u.1.2.1
 j5:match ky arms with
  |none=>e.1.1 = -2
  |some d=>ep e.2.w d.ty e.1.1
 j:u.1.2.2.2++e.1.2=j++new.flatMap arS
 ones:∀a∈arms,a.1=[]->ky arms=some a.2
def sim_armsEnd{u:(List Int×List Int×List (List UInt8)×List UInt8)×Z}(z:Q t h c u.2)(b:List (List Int×aF))(l:List (Int×Int))(w:List UInt8)(q:(kc b).map (·.1)=u.1.1)(i:ky b=none)(s:RepL u.2.w ((kc b).map (·.2)) u.1.2.1)(v:List (List Int×aF))(r:u.1.2.2.2=w++v.flatMap arS) :
  Sy t (λm _ g=>∃k,g=h.c5 (k.flatMap λd=>wb d.2.ty)/\m=b++k/\ArmsOk m u (unE t u) w (v++k)) (iP (aH t) b (u.1.2.2.1,l) c) (unE t u).2:=by
 unfold iP unE ea;rcases yN z (kd:=2) (l:=[100,101,102,97,117,108,116]) (by decide)with⟨L,e,a2⟩|⟨F,e,a2,a3⟩|⟨F,e,a2,a3⟩
 .rw[acceptx_err e,Y2 (by rw[a2.is (by omega)];simp)];exact Ya a2
 .rw[acceptx e,Y9 a2];simp only[if_true]
  refine Sx.weak (Sx.c7 (S.gP (nX a3 (kd:=4) (l:=[58]) (by decide))) (vk _ _) ?_);rintro P N G I D ⟨⟨rfl,-⟩,rfl⟩;have a:=sim_arm D u.1.2.2.1;have B:cx u.2 (dr t u.1.2.2.1 (U t 4 [58] (aO t u.2))).2:=((bZ _).trans (aa _ _ _)).ext.trans (hW _ _);generalize dr t u.1.2.2.1 (U t 4 [58] (aO t u.2))=H at *
  unfold aK fL;simp only;cases o:hL (aH t) (bw 0 0) u.1.2.2.1 G with
  |error f=>rw[o]at a;exact a
  |ok C=>
   obtain⟨n,M,O⟩:=C;rw[o]at a;obtain⟨J,E,A,x,y,K⟩:=a;refine⟨_,E,[([],n)],by rw[A];simp,rfl,?_⟩;have p:=nums_snoc b [] n;refine⟨by rw[p.1,q];simp,by rw[p.2];simpa using s.ext B,?_,?_,?_⟩
   .rw[else_snoc i];exact x
   .rw[r,y];simp[arS]
   .intro d a j;rw[else_snoc i,Y9 rfl];rcases Yn.1 a with a|a
    .exact absurd j (else_all i d a)
    .simp at a;subst a;rfl
 .rw[acceptx e,Y2 (by rw[a2];simp)];simp only[Ye,if_false]
  exact⟨_,a3,[],(aV.k6 _).symm,by simp,⟨q,s,by rw[i],by simp[r],λd a j=>absurd j (else_all i d a)⟩⟩
def Bd.unE{u:(List Int×List Int×List (List UInt8)×List UInt8)×Z}(a:Bd f u.2):Bd f (unE t u).2:=by
 unfold Go.Proofs.YtjdhaegijjednaaGreatDoor.unE ea;rw[Y2 (by rw[a.is (by omega)];simp)];exact a
def sim_armsF{of:Int}{p:Int->Bool}:∀(o v:Nat) (a:List (List Int×aF)) (m:List (List UInt8)) (l:List (Int×Int)) (k:List Int) (i:List UInt8) (c:St) (b:Z) (h:aV),Q t h c b->PSel b.w of p->l.map (·.1)=(kc a).map (·.1)->(((kc a).map (·.1)).length<12\/aA b 2 [99,97,115,101]=true)->((kc a).map (·.1)).length<=12->13<=((kc a).map (·.1)).length+o->13<=((kc a).map (·.1)).length+v->ky a=none->RepL b.w ((kc a).map (·.2)) k->
  Sy t (λB _ g=>∃x,g=h.c5 (x.flatMap λa9=>wb a9.2.ty)/\B=a++x/\ArmsOk B (cH t of o ((kc a).map (·.1)) k m i b) (unE t (cH t of o ((kc a).map (·.1)) k m i b)) i x/\cx b (unE t (cH t of o ((kc a).map (·.1)) k m i b)).2) (eV (aH t) p v a (m,l) c) (unE t (cH t of o ((kc a).map (·.1)) k m i b)).2:=by
 intro o;induction o with
 |zero=>intro v a m l k i c b h _ _ _ _ q O;omega
 |succ o c8=>
  intro v a m l k i c b h J a5 b8 b7 c0 d9 e0 b6 a3;obtain⟨v,rfl⟩:∃c9,v=c9+1:=⟨v-1,by omega⟩;have F:=(stk_unionL1 (t:=t) J.e of o ((kc a).map (·.1)) k m i).trans (stk_unE (t:=t) _);have r:=sim_casesL (t:=t) (of:=of) (p:=p) (14-((kc a).map (·.1)).length) 13 [] l ((kc a).map (·.1)) [] c b h J a5 b8 b7 c0 (by omega) (by omega);have c7:=(iR (t:=t) of (14-((kc a).map (·.1)).length) ((kc a).map (·.1)) [] b).1;rw[lA J.e]at F ⊢;have a2:=a3.1;rw[YU,<-YU (f:=λd6:Int×aF=>d6.1)]at a2;generalize c6:(kc a).map (·.1)=y at *
  generalize dk t of (14-y.length) y [] b=L at *
  unfold eV aK ig;simp only;have b5:cases (aH t) p l c=iQ (aH t) p 13 [] l c:=rfl;rw[b5];cases R:iQ (aH t) p 13 [] l c with
  |error f=>
   rw[R]at r;rcases r with r|r
   .exact Y8 (r.cs ((vk _ _).trans F))
   .exact Y8 ((r.arm m).cs F)
  |ok K=>
   obtain⟨d,a6,d4⟩:=K;rw[R]at r;obtain⟨d7,d1,rfl,e2,M,c2,c3,c4,c5,N⟩:=r;simp only[YT]at M N;subst M;have C:=sim_arm d1 m;have D:cx b (dr t m L.2).2:=c7.ext.trans (hW _ _);generalize dr t m L.2=n at *
   simp only;unfold fL;simp only;cases S:hL (aH t) (bw 0 0) m d4 with
   |error f=>rw[S]at C;exact Y8 (Er.cs C F)
   |ok K=>
    obtain⟨j,E,e3⟩:=K;rw[S]at C;obtain⟨a7,d2,P,b0,b1,b2⟩:=C;simp only;rw[c4,fill_eq y d n.1.1 k a2,b1,b2,N];have s:=nums_snoc a d j;have a4:RepL n.2.w ((kc (a++[(d,j)])).map (·.2)) (k++List.replicate d.length n.1.1):=by
     rw[s.2];exact(a3.ext D).many b0 _
    have a0:ky (a++[(d,j)])=none:=by rw[else_snoc b6,Y2 c2]
    rw[c6]at s;have a1:i++d.flatMap caseS++armS j=i++[(d,j)].flatMap arS:=by simp[arS,c2]
    unfold lift;rcases Cc d2 (kd:=2) (l:=[99,97,115,101]) (by decide)with⟨d8,G,z⟩|⟨d3,G,z⟩
    .rw[G,Y2 (by rw[z.is (by omega)];simp)];exact Ya (Bd.unE (u:=((y++d,k++List.replicate d.length n.1.1,E,i++d.flatMap caseS++armS j),n.2)) z)
    .rw[G];simp only;by_cases A:aA n.2 2 [99,97,115,101]=true
     .rw[Y9 A,Y9 A,<-s.1];have:=c8 v (a++[(d,j)]) E a6 (k++List.replicate d.length n.1.1) (i++d.flatMap caseS++armS j) d3 n.2 a7 z (by
       obtain⟨e1,b9,-⟩:=D.w;rw[b9];rcases a5 with q|q|q|⟨q,d0,O,b4⟩
       .exact Y8 q
       .exact Ya (Y8 q)
       .exact Ya (Ya (Y8 q))
       .exact Ya (Ya (Ya ⟨q,d0,eZ O,b4⟩))) (by rw[s.1];exact c3) (Ya A) (by rw[s.1];exact c5) (by rw[s.1];have:0<d.length:=YM.2 c2;simp;omega) (by rw[s.1];have:0<d.length:=YM.2 c2;simp;omega) a0 a4
      refine this.mono ?_;rintro B d5 a8 ⟨x,H,I,w,b3⟩;refine⟨(d,j)::x,by rw[H,P,aV.k7];simp,by rw[I];simp,⟨w.bp,w.parts,w.j5,?_,w.ones⟩,D.trans b3⟩;rw[w.out,a1];simp
     .rw[Y2 A,Y2 A];have:=sim_armsEnd (t:=t) (u:=((y++d,k++List.replicate d.length n.1.1,E,i++d.flatMap caseS++armS j),n.2)) z (a++[(d,j)]) a6 i s.1 a0 a4 [(d,j)] a1;have c1:cx b (unE t ((y++d,k++List.replicate d.length n.1.1,E,i++d.flatMap caseS++armS j),n.2)).2:=D.trans (kA _ _);refine this.mono ?_;rintro B d5 a8 ⟨x,H,I,w⟩;exact⟨(d,j)::x,by rw[H,P,aV.k7];simp,by rw[I];simp,by simpa using w,c1⟩
end
section
variable {t : List UInt8} {st g : St} {a f h i j : Z} {b c : aV} {e : Mar.aD}
def once_nil(a:Z):bH t [] false a=bv t a:=by
 unfold bH;simp
def iJ.ext{b c:Nl}{d:Ty}{of:Int}(e:iJ a.w b d of)(h:cx a f)(i:Kp b c):iJ f.w c d of:=by
 obtain⟨j,g,-⟩:=h.w;rw[g];exact e.a6 j i
def iJ.lt{a:List aG}{f:Nl}{g:Ty}{of:Int}(d:iJ a f g of)(j:5<=a.length):of<a.length:=by
 rcases d with⟨k,-,e,b⟩|⟨m,h,n,i,l,-,e,-,b⟩
 .omega
 .have:of.toNat<a.length:=by
   rcases Yj of.toNat a.length with c|c
   .exact c
   .rw[YA c]at b;cases b
  omega
def unionS(c:List UInt8)(a:aF)(b:List (List Int×aF)):List UInt8:=[117,110,105,111,110,32]++c++[32,115,119,105,116,99,104,32,40]++Ci a.ty++[32]++a.t++[41,32,123,32]++b.flatMap arS++[125,59,10]
def runy_S{h k:Type}{i:k->h->aV->Prop}{d:PX h k}{g:h}(b:Sx t i (d g st) a):S t (λf c=>i f.1 f.2 c) (dy d g st) a:=by
 unfold dy;cases j:d g st with
 |ok f=>rw[j]at b;exact b
 |error e=>rw[j]at b;exact b
def runy_W{h k:Type}{i:k->h->aV->Prop}{d:PX h k}{g:h}(b:Sy t i (d g st) a):Sw t (λf c=>i f.1 f.2 c) (dy d g st) a:=by
 unfold dy;cases j:d g st with
 |ok f=>rw[j]at b;exact b
 |error e=>rw[j]at b;exact b
def sim_union{r:Mar.aN}{p:Nat}(a4:Q t b st a)(B:b.pd=[])(c2:b.dc=0)(A:cf t st.y st.nx=.ok (r,p))(c3:aA a 2 [117,110,105,111,110]=true) :
  S t (λd c=>∃b4 E j h,d=.union b4 E j h/\xw b c d (unionS b4 j h) []) (qY (lB (aH t) r.y) { st with at':=p,nx:=none }) (ek t (dS a)):=by
 by_cases x:24<=st.au
 .have s:lB (aH t) r.y { st with at':=p,nx:=none } = .error ⟨5,r.y⟩:=Bb (st:={ st with at':=p,nx:=none }) x _ _;rw[jc s];exact(tJ a4 A x).cs (CG _)
 .have c9:=tI a4 A c3 x;have c5:lB (aH t) r.y { st with at':=p,nx:=none } = aE (dK (aH t)) (lw (aH t)) { st with at':=p,nx:=none,types:=st.au+1 }:=Bc (st:={ st with at':=p,nx:=none }) x _ _;unfold ek;simp only;generalize U t 2 [117,110,105,111,110] (dS a)=e6 at *
  generalize c7:an t 2 e6=m;generalize K:dM t (U t 4 [40] (U t 2 [115,119,105,116,99,104] m.2))=i;generalize y:bv t i.2=k;generalize a8:cH t i.1.1 14 [] [] [k.1.text] ([117,110,105,111,110,32]++m.1.text++[32,115,119,105,116,99,104,32,40]++i.1.2++[32]++k.1.text++[41,32,123,32]) (U t 4 [123] (U t 4 [41] k.2))=f;have b6:ar (unE t f).2 (U t 4 [59] (U t 4 [125] (unE t f).2)):=(aR _ _ _).trans (aR _ _ _);have a0:ar (U t 4 [123] (U t 4 [41] k.2)) (U t 4 [59] (U t 4 [125] (unE t f).2)):=by
   refine ar.trans ?_ ((stk_unE f).trans b6);rw[<-a8];exact vx _ _ _ _ _ _ _
  have R:ar k.2 (U t 4 [59] (U t 4 [125] (unE t f).2)):=(aR _ _ _).trans ((aR _ _ _).trans a0);have b5:ar i.2 (U t 4 [59] (U t 4 [125] (unE t f).2)):=by
   refine ar.trans ?_ R;rw[<-y];exact it _
  have P:ar (U t 4 [40] (U t 2 [115,119,105,116,99,104] m.2)) (U t 4 [59] (U t 4 [125] (unE t f).2)):=by
   refine ar.trans ?_ b5;rw[<-K];exact vp _
  have s:S t (λd c=>∃(g:List UInt8×Nat) (j:aF) (h:List (List Int×aF)),d=.union g.1 g.2 j h/\m.1.text=g.1/\iJ (unE t f).2.w (b.nl++[(g.1,none)]) j.ty i.1.1/\ArmsOk h f (unE t f) ([117,110,105,111,110,32]++g.1++[32,115,119,105,116,99,104,32,40]++Ci j.ty++[32]++j.t++[41,32,123,32]) h/\c=(b.a7 g.1).c5 (h.flatMap λE=>wb E.2.ty)/\ak b.nl g.1=none/\At g.1 g.2 (unE t f).2.A)
    (lB (aH t) r.y { st with at':=p,nx:=none }) (U t 4 [59] (U t 4 [125] (unE t f).2)):=by
   rw[c5];have a5:=uT c9 B;rw[c7]at a5;refine S.c7 a5 ((aR _ _ _).trans ((aR _ _ _).trans P)) ?_;rintro g f9 b8 q ⟨rfl,D,g9,e1,e2⟩;unfold lw;refine S.c7 (nX q (kd:=2) (l:=[115,119,105,116,99,104]) (by decide)) ((aR _ _ _).trans P) ?_;rintro n g1 e8 M ⟨rfl,-⟩;refine S.c7 (nX M (kd:=4) (l:=[40]) (by decide)) P ?_;rintro n g2 e9 N ⟨rfl,-⟩;have a7:=sim_sel N B;rw[K]at a7;refine Sw.e2 a7 b5 (λe L=>?_) ?_
   .have:=L.gW (t:=t);rw[y]at this;exact this.cs R
   rintro C g3 f0 O ⟨rfl,e3,e4,e5⟩;unfold lx;have a6:=Cn (t:=t) O [] 0 0;rw[once_nil,y]at a6;refine S.c7 (runy_S a6) R ?_;rintro b3 g4 f1 d1 ⟨rfl,a2,z2,z3⟩;unfold ly;refine S.c7 (nX d1 (kd:=4) (l:=[41]) (by decide)) ((aR _ _ _).trans a0) ?_;rintro n g5 f2 d2 ⟨rfl,-⟩;refine S.c7 (nX d2 (kd:=4) (l:=[123]) (by decide)) a0 ?_;rintro n d7 f3 d3 ⟨rfl,-⟩;have b0:Sm i.2 (U t 4 [123] (U t 4 [41] k.2)):=by
    rw[<-y];exact(eF _).trans ((aa _ _ _).trans (aa _ _ _))
   have I:=sim_armsF (t:=t) (of:=i.1.1) (p:=C.2) 14 13 [] b3.2 [] [] ([117,110,105,111,110,32]++m.1.text++[32,115,119,105,116,99,104,32,40]++i.1.2++[32]++k.1.text++[41,32,123,32]) d7 (U t 4 [123] (U t 4 [41] k.2)) _ d3 (e5.of b0) rfl (Y8 (by simp[kc])) (by simp[kc]) (by simp[kc]) (by simp[kc]) rfl ⟨rfl,λb2 p k A=>by simp at A⟩;rw[z3,show (List.map (λn:Int×aF=>n.1) (kc []))=[]from rfl]at I;rw[<-a2]at I;have J:=runy_W I;simp only[YT]at J;rw[a8]at J;rw[z3,<-a2];refine Sw.e2 J b6 (λe L=>(L.h3 (by omega)).cs (aR _ _ _)) ?_;rintro d6 g6 f4 d4 ⟨f8,d8,a1,d9,e0⟩;unfold lz lu;refine S.c7 (nX d4 (kd:=4) (l:=[125]) (by decide)) (aR _ _ _) ?_;rintro n g7 f5 d5 ⟨rfl,-⟩;refine S.c7 (nX d5 (kd:=4) (l:=[59]) (by decide)) (ar.refl _) ?_;rintro n g0 e7 d0 ⟨rfl,-⟩;have b1:cx i.2 (unE t f).2:=b0.ext.trans e0;have c6:(unE t f).2.A=m.2.A:=by
    have:i.2.A=m.2.A:=by rw[<-K];exact((aa _ _ _).trans ((aa _ _ _).trans (ir _))).A
    rw[<-this];exact b1.A
   refine S.ret d0 ⟨g,⟨k.1.text,b3.1.2,C.1⟩,d6.1,by rw[a2],D,e3.ext b1 (Kp.refl _),?_,by rw[d8,a1],e1,by rw[c6,e2];exact at_end _ g _ _⟩;rw[a1,<-D,<-e4];simpa[a1]using d9
  show S t _ _ (cQ (f.1.2.2.2++(unE t f).1.2++[125,59,10]) (cq m.1.text (U t 4 [59] (U t 4 [125] (unE t f).2)).w.length (bI ⟨13,0,i.1.1,f.1.1,f.1.2.1,(unE t f).1.1,[],0⟩ (U t 4 [59] (U t 4 [125] (unE t f).2)))));cases z:lB (aH t) r.y { st with at':=p,nx:=none }with
  |error e=>
   rw[z]at s;rw[jc z];exact Er.cs s ((fj _ _).trans ((ll _ _ _).trans (gx _ _)))
  |ok C=>
   obtain⟨d,g8⟩:=C;rw[z]at s;obtain⟨b8,q,g,j,h,rfl,D,w,u,rfl,a3,F⟩:=s;rw[mH z,D,u.out,<-u.bp];have w:iJ (U t 4 [59] (U t 4 [125] (unE t f).2)).w (b.nl++[(g.1,none)]) j.ty i.1.1:=w;have F:At g.1 g.2 (U t 4 [59] (U t 4 [125] (unE t f).2)).A:=F;have G:RepL (U t 4 [59] (U t 4 [125] (unE t f).2)).w ((kc h).map (·.2)) f.1.2.1:=u.parts;have o:match ky h with
    |none=>(unE t f).1.1 = -2
    |some d=>ep (U t 4 [59] (U t 4 [125] (unE t f).2)).w d.ty (unE t f).1.1:=u.j5
   have b9:=u.ones;generalize U t 4 [59] (U t 4 [125] (unE t f).2)=b7 at *
   generalize (unE t f).1.1=H at *
   have c4:=G.lt q.len5;have f6:H<b7.w.length:=by
    cases v:ky h with
    |none=>rw[v]at o;simp only at o;have:=q.len5;omega
    |some d=>rw[v]at o;exact ep.lt q.len5 o
   have f7:=w.lt q.len5;have M:=q.row (r:=⟨13,0,i.1.1,(kc h).map (·.1),f.1.2.1,H,[],0⟩) ⟨by simp<;>omega,λn c8=>(by have:=c4 n c8;omega),by simp<;>omega,by simp⟩ (by simp);have a9:ak (b.a7 g.1).nl g.1=some none:=by rw[jh _ _ _ a3,Y9 rfl]
   have N:=M.typed (d:=.union g.1 g.2 j h) (n:=b7.w.length) a9 B F rfl ⟨by simp,i.1.1,f.1.2.1,H,row_at _ _,w.a6 _ (kp_set _ a9),by rw[G.1];simp,λb2 p k c0 c1=>(G.2 b2 p k.2 c0 (by rw[List.getElem?_map,c1];rfl)).a6 _,by
    cases v:ky h with
    |none=>rw[v]at o;exact o
    |some d=>rw[v]at o;exact ep.a6 _ o,b9⟩
   have O:=N.put (([117,110,105,111,110,32]++g.1++[32,115,119,105,116,99,104,32,40]++Ci j.ty++[32]++j.t++[41,32,123,32])++h.flatMap arS++[125,59,10]);exact⟨_,O,g.1,g.2,j,h,rfl,⟨B,c2,rfl,rfl,by simp[aV.c5],rfl,[],uN a3,by simp⟩⟩
end
section
variable {t : List UInt8} {st h : St} {a d i j g : Z} {b c : aV} {f : Mar.aD}
def sim_ending(f:Q t b st a)(l:List (Int×Int))(d:List Int)(i:l.map (·.1)=d):Sx t (λe j c=>c=b/\e=(dN t d a).1/\j.map (·.1)=d++[e]) (ending (aH t) l st) (dN t d a).2:=by
 refine Sx.c7 (S.gP (nX f (kd:=4) (l:=[61]) (by decide))) ((fO _ _ _).trans ((hr _ _ _ _).trans (aR _ _ _))) ?_;rintro p k w q m ⟨⟨rfl,-⟩,rfl⟩;refine Sx.c7 (uV m k d i 0 4294967295) (aR _ _ _) ?_;rintro e u x r n ⟨rfl,g,h,-,-⟩;refine Sx.c7 (S.gP (nX n (kd:=4) (l:=[59]) (by decide))) (ar.refl _) ?_;rintro p v y s o ⟨⟨rfl,-⟩,rfl⟩;exact Sx.ret o ⟨rfl,g,h⟩
def Bd.side(b:Bd f a):Er f (cG t a).2:=by
 unfold cG;rw[Y2 (by rw[b.is (by omega)];simp)];exact b.kind
def sim_side(i:Q t b st a):Sw t (λf c=>c=b.c5 (wb f)/\ep (cG t a).2.w f (cG t a).1.1/\(cG t a).1.2=Ci f) (uP (aH t) st) (cG t a).2:=by
 unfold uP cG;rcases yN i (kd:=2) (l:=[118,111,105,100]) (by decide)with⟨p,d,a2⟩|⟨g,d,a2,a3⟩|⟨g,d,a2,a3⟩
 .unfold Go.Proofs.YtjdhaegijjednaaGreatDoor.c7;rw[d,Y2 (by rw[a2.is (by omega)];simp)];exact Y8 a2.kind
 .unfold Go.Proofs.YtjdhaegijjednaaGreatDoor.c7;rw[d,Y9 a2];exact⟨b,a3,(aV.k6 b).symm,rfl,rfl⟩
 .have h:∀(e:Bool->PM Ty),Go.Proofs.YtjdhaegijjednaaGreatDoor.c7 (fD (aH t) [118,111,105,100]) e st=e false g:=λe=>by unfold Go.Proofs.YtjdhaegijjednaaGreatDoor.c7;rw[d]
  rw[h,Y2 (by rw[a2];simp)];simp only[Ye,if_false]
  have:=sim_kind a3;unfold Sw at this ⊢;split at this
  .obtain⟨o,n,j,-,k,m⟩:=this;exact⟨_,n,j,k,m⟩
  .exact this
def XL(d:List aG)(g:Int)(e:List (Int×lR))(f:List dW):Prop:=f.length=e.length/\∀(c:Nat) (b:Int×lR) (a:dW),e[c]? = some b->f[c]? = some a->a.prog=g/\a.j3=b.1/\a.proc=b.2.num/\ep d b.2.f7 a.f7/\ep d b.2.hs a.hs
def XL.nil(c:List aG)(b:Int):XL c b [] []:=⟨rfl,λe d f a=>by simp at a⟩
def XL.a6{f:List aG}{e:Int}{g k:List (Int×lR)}{m n:List dW}(a:XL f e g m)(j:XL f e k n):XL f e (g++k) (m++n):=by
 refine⟨by simp[a.1,j.1],?_⟩;intro i h l c d;rcases Yj i g.length with b|b
 .rw[Ys b]at c;rw[Ys (by rw[a.1];exact b)]at d;exact a.2 i h l c d
 .rw[Yw b]at c;rw[Yw (by rw[a.1];exact b),a.1]at d;exact j.2 _ h l c d
def XL.ext{e:Int}{f:List (Int×lR)}{g:List dW}(b:XL a.w e f g)(c:cx a d):XL d.w e f g:=⟨b.1,λl h m j k=>by
 obtain⟨i,a2,a3,a4,a5⟩:=b.2 l h m j k;exact⟨i,a2,a3,a4.ext c,a5.ext c⟩⟩
def XL.j3{l:List aG}{k:Int}{g:List lR}{h:List dW}(i:XL l k (g.map λc=>(0,c)) h)(j:Int):XL l k (g.map λc=>(j,c)) (h.map λn=>{ n with vers:=j }):=by
 refine⟨by have:=i.1;simp at *;exact this,?_⟩;intro f p q a b;rw[List.getElem?_map]at a b;cases d:g[f]? with
 |none=>rw[d]at a;cases a
 |some c=>
  cases e:h[f]? with
  |none=>rw[e]at b;cases b
  |some o=>
   rw[d]at a;rw[e]at b;simp at a b;obtain⟨m,a2,a3,a4,a5⟩:=i.2 f (0,c) o (by rw[List.getElem?_map,d];rfl) e;subst a;subst b;exact⟨m,rfl,a3,a4,a5⟩
def XL.prog{f:List aG}{g:List (Int×lR)}{c:List dW}(d:XL f 0 g c)(n:Int):XL f n g (c.map λj=>{ j with prog:=n }):=by
 refine⟨by have:=d.1;simp at *;exact this,?_⟩;intro e h m i a;rw[List.getElem?_map]at a;cases b:c[e]? with
 |none=>rw[b]at a;cases a
 |some k=>
  rw[b]at a;simp at a;obtain⟨l,a2,a3,a4,a5⟩:=d.2 e h k i b;subst a;exact⟨rfl,a2,a3,a4,a5⟩
def procS(a:lR):List UInt8:=Ci a.hs++[32]++a.t++[40]++Ci a.f7++[41,32,61,32]++dn a.num++[59,32]
abbrev Bv(t:List UInt8)(b:Nat)(a:Z):(Int×List UInt8)×Z:=cG t (ao b 8 a)
abbrev pcM(t:List UInt8)(b:Nat)(c:List (List UInt8))(a:Z):gO×Z:=bH t c false (Bv t b a).2
abbrev Bt(t:List UInt8)(b:Nat)(c:List (List UInt8))(a:Z):(Int×List UInt8)×Z:=cG t (U t 4 [40] (pcM t b c a).2)
abbrev Bu(t:List UInt8)(b:Nat)(d:List (List UInt8))(c:List Int)(a:Z):Int×Z:=dN t c (U t 4 [41] (Bt t b d a).2)
abbrev pcL(t:List UInt8)(b:List dW)(c:List (List UInt8))(d:List Int)(a:Z):List dW:=b++[⟨0,0,(Bu t b.length c d a).1,(Bt t b.length c a).1.1,(Bv t b.length a).1.1⟩]
def By(h:a.s.e=0)(g:Nat)(b:List dW)(c:List (List UInt8))(d:List Int)(f:List UInt8):hl t (g+1) b c d f a =
  if aA (Bu t b.length c d a).2 4 [125]=true then ((pcL t b c d a,f++(Bv t b.length a).1.2++[32]++(pcM t b.length c a).1.text++[40]++(Bt t b.length c a).1.2++[41,32,61,32]++dn (Bu t b.length c d a).1++[59,32]),(Bu t b.length c d a).2)
  else hl t g (pcL t b c d a) (c++[(pcM t b.length c a).1.text]) (d++[(Bu t b.length c d a).1]) (f++(Bv t b.length a).1.2++[32]++(pcM t b.length c a).1.text++[40]++(Bt t b.length c a).1.2++[41,32,61,32]++dn (Bu t b.length c d a).1++[59,32]) (Bu t b.length c d a).2:=by
 conv=>lhs;unfold hl
 rw[Y2 (by simpa using h)]
def stk_pc(b:Nat)(d:List (List UInt8))(c:List Int)(a:Z):ar (ao b 8 a) (Bu t b d c a).2:=(CE _).trans ((lk _ _ _).trans ((aR _ _ _).trans ((CE _).trans ((aR _ _ _).trans (vt _ _)))))
def ext_pc(b:Nat)(d:List (List UInt8))(c:List Int)(a:Z):cx a (Bu t b d c a).2:=(aS _ _ _).ext.trans ((mD _).trans ((dQ _ _ _).ext.trans ((aa _ _ _).ext.trans ((mD _).trans ((aa _ _ _).ext.trans (hd _ _))))))
def stk_procsL(b:Nat)(d:List dW)(g:List (List UInt8))(e:List Int)(f:List UInt8)(a:Z):ar a (hl t b d g e f a).2:=λc=>by
 cases b with
 |zero=>exact⟨rfl,rfl⟩
 |succ b=>unfold hl;rw[Y9 c];exact⟨rfl,rfl⟩
def stk_procsL1(f:a.s.e=0)(g:Nat)(b:List dW)(d:List (List UInt8))(c:List Int)(h:List UInt8):ar (Bu t b.length d c a).2 (hl t (g+1) b d c h a).2:=by
 rw[By f];split
 .exact ar.refl _
 .exact stk_procsL _ _ _ _ _ _
def sim_proc(G:Q t b st a){e:Nat}(K:ao e 8 a=a)(d:List (List UInt8))(i:List (Int×Int))(h:List Int)(L:i.map (·.1)=h) :
  Sx t (λg n c=>c=b.c5 (procNames g)/\n.1=d++[g.t]/\n.2.map (·.1)=h++[g.num]/\(pcM t e d a).1.text=g.t/\(Bu t e d h a).1=g.num/\ep (Bu t e d h a).2.w g.hs (Bv t e a).1.1/\ep (Bu t e d h a).2.w g.f7 (Bt t e d a).1.1/\(Bv t e a).1.2=Ci g.hs/\(Bt t e d a).1.2=Ci g.f7) (procP (aH t) (d,i) st) (Bu t e d h a).2:=by
 unfold procP;have v:=sim_side G;have F:Bv t e a=cG t a:=by unfold Bv;rw[K]
 rw[<-F]at v;have s:ar (Bt t e d a).2 (Bu t e d h a).2:=(aR _ _ _).trans (vt _ _);have u:ar (pcM t e d a).2 (Bu t e d h a).2:=(aR _ _ _).trans ((CE _).trans s);have x:cx (Bt t e d a).2 (Bu t e d h a).2:=(aa _ _ _).ext.trans (hd _ _);have a3:cx (Bv t e a).2 (Bu t e d h a).2:=(dQ _ _ _).ext.trans ((aa _ _ _).ext.trans ((mD _).trans x));refine Sy.e2 (Sw.gP v) ((lk _ _ _).trans u) (λf p=>(p.i5 d false).cs u) ?_;rintro b2 b3 w y M ⟨⟨I,A,a2⟩,rfl⟩;have k:=Cn M d 0 0;have H:Sx t (λq (n:gN) c=>c=y/\(pcM t e d a).1.text=q.1/\n=(d++[q.1],i)) (fL (name (aH t) (bw 0 0)) (d,i) w) (pcM t e d a).2:=by
  unfold fL;simp only;cases j:name (aH t) (bw 0 0) d w with
  |error f=>rw[j]at k;exact k
  |ok g=>
   rw[j]at k;obtain⟨z,r,rfl,o,a9,B⟩:=k;exact⟨_,r,rfl,o,by rw[B]⟩
 refine Sx.c7 H u ?_;rintro q b4 b8 z r ⟨rfl,o,rfl⟩;refine Sx.c7 (S.gP (nX r (kd:=4) (l:=[40]) (by decide))) ((CE _).trans s) ?_;rintro a1 b5 b9 a4 N ⟨⟨rfl,-⟩,rfl⟩;refine Sy.e2 (Sw.gP (sim_side N)) s (λf p=>(p.h3 (by omega)).cs (vt _ _)) ?_;rintro a8 b6 c0 a5 O ⟨⟨J,C,c2⟩,rfl⟩;refine Sx.c7 (S.gP (nX O (kd:=4) (l:=[41]) (by decide))) (vt _ _) ?_;rintro a1 b7 a0 a6 P ⟨⟨rfl,-⟩,rfl⟩;have m:=sim_ending P i h L;unfold aK ig;simp only;cases j:ending (aH t) i a0 with
 |error f=>rw[j]at m;exact m
 |ok g=>
  obtain⟨b0,b1,c1⟩:=g;rw[j]at m;obtain⟨a7,R,rfl,D,E⟩:=m;exact⟨_,R,by rw[J,I,aV.k7];rfl,rfl,E,o,D.symm,A.ext a3,C.ext x,a2,c2⟩
def sim_procsL:∀(k:Nat) (j:List lR) (l:List dW) (d:List (List UInt8)) (o:List (Int×Int)) (i:List Int) (m:List UInt8) (st:St) (a:Z) (b:aV),Q t b st a->o.map (·.1)=i->j.length+k=9->j.length<=8->XL a.w 0 (j.map λh=>(0,h)) l->
  Sx t (λ_ n c=>∃r,c=b.c5 (r.flatMap procNames)/\n.1=j++r/\XL (hl t (k+1) l d i m a).2.w 0 ((j++r).map λh=>(0,h)) (hl t (k+1) l d i m a).1.1/\(hl t (k+1) l d i m a).1.2=m++r.flatMap procS/\cx a (hl t (k+1) l d i m a).2) (blockR (aH t) 8 (vsPiece (aH t)) k j.length (j,(d,o)) st) (U t 4 [125] (hl t (k+1) l d i m a).2):=by
 intro k;induction k with
 |zero=>intro j l d o i m st a b _ _ b9 c1;omega
 |succ k b2=>
  intro j l d o i m st a b p a9 c5 c6 u;have J:l.length=j.length:=by have:=u.1;simpa using this
  have N:=(stk_procsL1 (t:=t) p.e (k+1) l d i m).trans (aR (t:=t) 4 [125] _);have A:=(stk_pc (t:=t) l.length d i a).trans N;unfold blockR;rcases pk t st with⟨B,n,q⟩|⟨f,q⟩
  .rw[peekx_ok q];have v:=p.fB q l.length 8;by_cases G:8<=j.length
   .rw[roomx_no G];rw[Y9 (by rw[J];omega)]at v;rw[v]at A;exact(p.c1 (e:=5) (a:=B.y) (by omega)).cs A
   .rw[roomx_ok G];rw[Y2 (by rw[J];omega)]at v;have w:=sim_proc (p.d6 q) v d o i a9;have b1:Sx t (λ_ (n:List lR×gN) c=>∃h,c=b.c5 (procNames h)/\n.1=j++[h]/\n.2.1=d++[h.t]/\n.2.2.map (·.1)=i++[h.num]/\(pcM t l.length d a).1.text=h.t/\(Bu t l.length d i a).1=h.num/\ep (Bu t l.length d i a).2.w h.hs (Bv t l.length a).1.1/\ep (Bu t l.length d i a).2.w h.f7 (Bt t l.length d a).1.1/\(Bv t l.length a).1.2=Ci h.hs/\(Bt t l.length d a).1.2=Ci h.f7) (vsPiece (aH t) (j,(d,o)) { st with at':=n,nx:=some B }) (Bu t l.length d i a).2:=by
     unfold vsPiece;simp only;cases I:procP (aH t) (d,o) { st with at':=n,nx:=some B }with
     |error f=>rw[I]at w;exact w
     |ok h=>
      rw[I]at w;obtain⟨R,b6,a8,a0⟩:=w;exact⟨_,b6,h.1,a8,rfl,a0⟩
    refine Sx.c7 b1 N ?_;rintro b7 b3 d0 P b5 ⟨h,H,C,D,E,F,x,a1,a4,a5,a6⟩;have z:=ext_pc (t:=t) l.length d i a;rw[By p.e];have K:XL (Bu t l.length d i a).2.w 0 ((j++[h]).map λh=>(0,h)) (pcL t l d i a):=by
     rw[List.map_append];refine(u.ext z).a6 ⟨rfl,?_⟩;intro L S d1 y u;match L with
     |0=>
      simp at y u;subst y;subst u;exact⟨rfl,rfl,x,a4,a1⟩
     |L+1=>simp at y
    have b0:m++(Bv t l.length a).1.2++[32]++(pcM t l.length d a).1.text++[40]++(Bt t l.length d a).1.2++[41,32,61,32]++dn (Bu t l.length d i a).1++[59,32]=m++procS h:=by
     rw[a5,F,a6,x];simp[procS]
    rw[b0,F,x];obtain⟨c7,c8,b4⟩:=b3;simp only at C D E;subst C;subst D;generalize pcL t l d i a=M at *
    generalize (Bu t l.length d i a).2=g at *
    rw[blockF_some];rcases yN b5 (kd:=4) (l:=[125]) (by decide)with⟨b8,s,a2⟩|⟨O,s,a2,a3⟩|⟨O,s,a2,a3⟩
    .rw[acceptx_err s,Y2 (by rw[a2.is (by omega)];simp)];exact(((a2.fB (M.length) 8).cs (stk_pc _ _ _ _)).cs (stk_procsL1 a2.e k _ _ _ _)).cs (aR _ _ _)
    .rw[acceptx s,Y9 a2,oK a2];exact⟨_,a3,[h],by rw[H];simp,rfl,K,by simp,z⟩
    .rw[acceptx s,Y2 (by rw[a2];simp)];simp only[Ye,if_false]
     have:=b2 (j++[h]) M (d++[h.t]) b4 (i++[h.num]) (m++procS h) O g P a3 E (by simp;omega) (by simp;omega) K;rw[show (j++[h]).length=j.length+1 by simp]at this;refine this.mono ?_;rintro b7 c9 R ⟨r,c0,a7,c2,c3,c4⟩;refine⟨h::r,by rw[c0,H,aV.k7];simp,by rw[a7];simp,?_,by rw[c3];simp,z.trans c4⟩;simpa using c2
  .rw[peekx_err q];exact((p.bd q).fB _ _).cs A
end
section
variable {t : List UInt8} {st h : St} {b i j σ1 σ2 : Z} {c f : aV} {g : Mar.aD}
def versS(v:iM):List UInt8:=[118,101,114,115,105,111,110,32]++v.t++[32,123,32]++v.d7.flatMap procS++[125,32,61,32]++dn v.num++[59,32]
def verPs(v:iM):List (Int×lR):=v.d7.map λa=>(v.num,a)
def runx_S{e:Type}{h:Unit->e->aV->Prop}{c:PX e Unit}{d:e}(a:Sx t h (c d st) b):S t (λj f=>h () j f) (BZ c d st) b:=by
 unfold BZ;cases i:c d st with
 |ok j=>rw[i]at a;exact a
 |error g=>rw[i]at a;exact a
def sim_vers(H:Q t c st b)(a:List (List UInt8))(j:List (Int×Int))(d:List Int)(L:j.map (·.1)=d) :
  Sx t (λv s f=>f=c.c5 (verNames v)/\s.1=a++[v.t]/\s.2.map (·.1)=d++[v.num]/\(hx t a d b).1.name=v.t/\(hx t a d b).1.num=v.num/\(hx t a d b).1.out=versS v/\XL (hx t a d b).2.w 0 (verPs v) (hx t a d b).1.l) (versionP (aH t) (a,j) st) (hx t a d b).2:=by
 unfold versionP hx;simp only;generalize B:bH t a false (U t 2 [118,101,114,115,105,111,110] b)=h;generalize A:hl t 10 [] [] [] ([118,101,114,115,105,111,110,32]++h.1.text++[32,123,32]) (U t 4 [123] h.2)=e;have x:ar (U t 4 [125] e.2) (dN t d (U t 4 [125] e.2)).2:=vt _ _;have y:ar (U t 4 [123] h.2) (U t 4 [125] e.2):=by
  refine ar.trans ?_ (aR _ _ _);rw[<-A];exact stk_procsL _ _ _ _ _ _
 refine Sx.c7 (S.gP (nX H (kd:=2) (l:=[118,101,114,115,105,111,110]) (by decide))) ?_ ?_
 .refine ar.trans ?_ ((aR 4 [123] h.2).trans (y.trans x));rw[<-B];exact lk _ _ _
 rintro a5 b2 C D O ⟨⟨rfl,-⟩,rfl⟩;have k:=Cn O a 0 0;rw[B]at k;have I:Sx t (λp (s:gN) f=>f=D/\h.1.text=p.1/\s=(a++[p.1],j)) (fL (name (aH t) (bw 0 0)) (a,j) C) h.2:=by
  unfold fL;cases m:name (aH t) (bw 0 0) a C with
  |error g=>rw[m]at k;exact k
  |ok r=>
   rw[m]at k;obtain⟨z,w,rfl,n,a8,F⟩:=k;exact⟨_,w,rfl,n,by rw[F]⟩
 refine Sx.c7 I ((aR _ _ _).trans (y.trans x)) ?_;rintro p b3 a1 z w ⟨rfl,n,rfl⟩;have K:Sx t (λ_ (q:List lR×gN) f=>f=z.c5 (q.1.flatMap procNames)/\XL e.2.w 0 (q.1.map λr=>(0,r)) e.1.1/\e.1.2=[118,101,114,115,105,111,110,32]++p.1++[32,123,32]++q.1.flatMap procS) (pO (aH t) 8 (vsPiece (aH t)) ([],([],[])) a1) (U t 4 [125] e.2):=by
  refine Sx.c7 (S.gP (nX w (kd:=4) (l:=[123]) (by decide))) y ?_;rintro a5 a4 a2 a6 P ⟨⟨rfl,-⟩,rfl⟩;have:=sim_procsL (t:=t) 9 [] [] [] [] [] ([118,101,114,115,105,111,110,32]++h.1.text++[32,123,32]) a2 (U t 4 [123] h.2) _ P rfl (by simp) (by simp) (XL.nil _ _);rw[A]at this;refine this.mono ?_;rintro a4 b1 E ⟨b0,rfl,i,c2,c3,-⟩;simp only[YT]at i c2;exact⟨by rw[i],by rw[i];exact c2,by rw[i,c3,n]⟩
 refine Sx.c7 (S.gP (runx_S K)) x ?_;rintro q b4 a3 E R ⟨⟨J,i,c2⟩,rfl⟩;have o:=sim_ending R j d L;unfold aK ig;cases m:ending (aH t) j a3 with
 |error g=>rw[m]at o;exact o
 |ok r=>
  obtain⟨N,a9,b5⟩:=r;rw[m]at o;obtain⟨a7,a0,rfl,u,G⟩:=o;have M:(dN t d (U t 4 [125] e.2)).2.w=e.2.w:=by
   exact((aa (t:=t) 4 [61] (U t 4 [125] e.2)).trans ((dz _ _ _).trans ((fN _ _ _ _).trans (aa _ _ _)))).w
  refine⟨_,a0,J,rfl,G,n,u.symm,?_,?_⟩
  .rw[<-u,c2];simp[versS]
  .rw[<-u,M];exact i.j3 N
def ext_versQ(a:List (List UInt8))(c:List Int)(b:Z):cx b (hx t a c b).2:=qN _ _ _
def stk_versQ(a:List (List UInt8))(c:List Int)(b:Z):ar b (hx t a c b).2:=by
 exact(aR _ _ _).trans ((lk _ _ _).trans ((aR _ _ _).trans ((stk_procsL _ _ _ _ _ _).trans ((aR _ _ _).trans (vt _ _)))))
def CY(g:b.s.e=0)(f:Nat)(c:List (List UInt8))(a:List Int)(all:List dW)(d:List UInt8):dB t (f+1) c a all d b =
  if aA (hx t c a (ao a.length 4 b)).2 4 [125]=true then ((all++(hx t c a (ao a.length 4 b)).1.l,d++(hx t c a (ao a.length 4 b)).1.out),(hx t c a (ao a.length 4 b)).2)
  else dB t f (c++[(hx t c a (ao a.length 4 b)).1.name]) (a++[(hx t c a (ao a.length 4 b)).1.num]) (all++(hx t c a (ao a.length 4 b)).1.l) (d++(hx t c a (ao a.length 4 b)).1.out) (hx t c a (ao a.length 4 b)).2:=by
 conv=>lhs;unfold dB
 rw[Y2 (by simpa using g)]
def stk_versL1(d:b.s.e=0)(f:Nat)(c:List (List UInt8))(a:List Int)(all:List dW)(g:List UInt8):ar (hx t c a (ao a.length 4 b)).2 (dB t (f+1) c a all g b).2:=by
 rw[CY d];split
 .exact ar.refl _
 .exact vz _ _ _ _ _ _
def sim_versL:∀(j:Nat) (i:List iM) (h:List (List UInt8)) (p:List (Int×Int)) (d:List Int) (all:List dW) (m:List UInt8) (st:St) (b:Z) (c:aV),Q t c st b->p.map (·.1)=d->d.length=i.length->i.length+j=5->i.length<=4->XL b.w 0 (i.flatMap verPs) all->
  Sx t (λ_ n f=>∃r,f=c.c5 (r.flatMap verNames)/\n.1=i++r/\XL (dB t (j+1) h d all m b).2.w 0 ((i++r).flatMap verPs) (dB t (j+1) h d all m b).1.1/\(dB t (j+1) h d all m b).1.2=m++r.flatMap versS/\cx b (dB t (j+1) h d all m b).2) (blockR (aH t) 4 (pgPiece (aH t)) j i.length (i,(h,p)) st) (U t 4 [125] (dB t (j+1) h d all m b).2):=by
 intro j;induction j with
 |zero=>intro i h p d all m st b c _ _ _ b5 b6;omega
 |succ j a6=>
  intro i h p d all m st b c o a1 z b7 b8 a5;have x:=(stk_versL1 (t:=t) o.e (j+1) h d all m).trans (aR (t:=t) 4 [125] _);have A:=(stk_versQ (t:=t) h d (ao d.length 4 b)).trans x;unfold blockR;rcases pk t st with⟨B,n,q⟩|⟨g,q⟩
  .rw[peekx_ok q];have u:=o.fB q d.length 4;by_cases C:4<=i.length
   .rw[roomx_no C];rw[Y9 (by rw[z];omega)]at u;rw[u]at A;exact(o.c1 (e:=5) (a:=B.y) (by omega)).cs A
   .rw[roomx_ok C];rw[Y2 (by rw[z];omega)]at u;rw[CY o.e];rw[CY o.e]at x;rw[u]at x ⊢;have w:=sim_vers (o.d6 q) h p d a1;have y:=ext_versQ (t:=t) h d b;generalize hx t h d b=k at *
    have a4:Sx t (λ_ (n:List iM×gN) f=>∃v,f=c.c5 (verNames v)/\n.1=i++[v]/\n.2.1=h++[v.t]/\n.2.2.map (·.1)=d++[v.num]/\k.1.name=v.t/\k.1.num=v.num/\k.1.out=versS v/\XL k.2.w 0 (verPs v) k.1.l) (pgPiece (aH t) (i,(h,p)) { st with at':=n,nx:=some B }) k.2:=by
     unfold pgPiece;cases E:versionP (aH t) (h,p) { st with at':=n,nx:=some B }with
     |error g=>rw[E]at w;exact w
     |ok b0=>
      rw[E]at w;obtain⟨I,b2,a0,J⟩:=w;exact⟨_,b2,b0.1,a0,rfl,J⟩
    refine Sx.c7 a4 x ?_;rintro b3 a8 c6 H b1 ⟨v,D,K,L,M,N,O,P,R⟩;rw[N,O,P];have F:XL k.2.w 0 ((i++[v]).flatMap verPs) (all++k.1.l):=by
     rw[YK];refine(a5.ext y).a6 ?_;simpa using R
    obtain⟨b9,c1,a9⟩:=a8;subst K;subst L;generalize k.1.l=a7 at *
    generalize k.2=σ2 at *
    rw[blockF_some];rcases yN b1 (kd:=4) (l:=[125]) (by decide)with⟨b4,s,a2⟩|⟨G,s,a2,a3⟩|⟨G,s,a2,a3⟩
    .rw[acceptx_err s,Y2 (by rw[a2.is (by omega)];simp)];exact(((a2.fB _ _).cs (stk_versQ _ _ _)).cs (stk_versL1 a2.e j _ (d++[v.num]) _ _)).cs (aR _ _ _)
    .rw[acceptx s,Y9 a2,oK a2];exact⟨_,a3,[v],by rw[D];simp,rfl,F,by simp,y⟩
    .rw[acceptx s,Y2 (by rw[a2];simp)];have:=a6 (i++[v]) (h++[v.t]) a9 (d++[v.num]) (all++a7) (m++versS v) G σ2 H a3 M (by simp[z]) (by simp;omega) (by simp;omega) F;rw[show (i++[v]).length=i.length+1 by simp]at this;refine this.mono ?_;rintro b3 c5 I ⟨r,c0,S,c2,c3,c4⟩;refine⟨v::r,by rw[c0,D,aV.k7];simp,by rw[S];simp,?_,by rw[c3];simp,y.trans c4⟩;simpa using c2
  .rw[peekx_err q];exact((o.bd q).fB _ _).cs A
def progS(b:List UInt8)(c:List iM)(a:Int):List UInt8:=[112,114,111,103,114,97,109,32]++b++[32,123,32]++c.flatMap versS++[125,32,61,32]++dn a++[59,10]
def Ch{g:Type}{b:List g}{a:Nat}{f:g}(c:b[a]? = some f):b.set a f=b:=by
 apply List.ext_getElem?;intro i;rw[YP];by_cases e:a=i
 .subst e;have h:a<b.length:=by
   rcases Yj a b.length with d|d
   .exact d
   .rw[YA d]at c;cases c
  rw[Y9 rfl,Y9 h,c]
 .rw[Y2 e]
def roomB_ok{e:Type}(d:¬4<=st.ap.length)(c:Nat)(a:Unit->PM e):aE (λb=>io b.ap.length 4 c b) a st=a () st:=by
 unfold Go.Proofs.YtjdhaegijjednaaGreatDoor.c7 io;dsimp only;rw[Y2 d]
def roomB_no{e:Type}(c:4<=st.ap.length)(a:Nat)(d:Unit->PM e):aE (λb=>io b.ap.length 4 a b) d st=.error ⟨5,a⟩:=by
 unfold Go.Proofs.YtjdhaegijjednaaGreatDoor.c7 io;dsimp only;rw[Y9 c]
def sim_prog{s:Mar.aN}{m:Nat}(D:Q t c st b)(y:c.pd=[])(c4:c.dc=0)(a3:cf t st.y st.nx=.ok (s,m))(c5:aA b 2 [112,114,111,103,114,97,109]=true) :
  S t (λd f=>∃a8 a k h ps,d=.prog a8 a k h/\xw c f d (progS a8 k h) ps/\XL (dP t b).w h (k.flatMap verPs) ps) (qY (nH (aH t) s.y) { st with at':=m,nx:=none }) (dP t b):=by
 have c7:=D.e2 a3;have F:=D.fB a3 b.ap.length 4;have e7:b.ap.length=st.ap.length:=by rw[D.pg];simp
 have b1:=CD (t:=t) b;by_cases O:4<=st.ap.length
 .rw[Y9 (by omega)]at F;have q:nH (aH t) s.y { st with at':=m,nx:=none } = .error ⟨5,s.y⟩:=roomB_no (st:={ st with at':=m,nx:=none }) O _ _;rw[jc q];rw[F]at b1;exact(D.c1 (e:=5) (a:=s.y) (by omega)).cs b1
 .rw[Y2 (by omega)]at F;have c6:nH (aH t) s.y { st with at':=m,nx:=none } = aE (dK (aH t)) (tF (aH t)) { st with at':=m,nx:=none }:=roomB_ok (st:={ st with at':=m,nx:=none }) O _ _;unfold dP;simp only;rw[F,oK c5];generalize d2:an t 2 (aO t b)=B;generalize a5:dB t 6 [] [] [] ([112,114,111,103,114,97,109,32]++B.1.text++[32,123,32]) (U t 4 [123] B.2)=v;have b3:ar (U t 4 [123] B.2) (U t 4 [125] v.2):=by
   refine ar.trans ?_ (aR _ _ _);rw[<-a5];exact vz _ _ _ _ _ _
  have b0:ar (U t 4 [125] v.2) (dN t (U t 4 [125] v.2).ap (U t 4 [125] v.2)).2:=vt _ _;have a4:Sm (U t 4 [125] v.2) (dN t (U t 4 [125] v.2).ap (U t 4 [125] v.2)).2:=by
   unfold dN;exact(aa _ _ _).trans ((dz _ _ _).trans ((fN _ _ _ _).trans (aa _ _ _)))
  have q:S t (λd f=>∃(h:List UInt8×Nat) (k:List iM),d=.prog h.1 h.2 k (dN t (U t 4 [125] v.2).ap (U t 4 [125] v.2)).1/\f=(c.a7 h.1).c5 (k.flatMap verNames)/\ak c.nl h.1=none/\XL v.2.w 0 (k.flatMap verPs) v.1.1/\v.1.2=[112,114,111,103,114,97,109,32]++h.1++[32,123,32]++k.flatMap versS)
    (nH (aH t) s.y { st with at':=m,nx:=none }) { (dN t (U t 4 [125] v.2).ap (U t 4 [125] v.2)).2 with progs:=(dN t (U t 4 [125] v.2).ap (U t 4 [125] v.2)).2.ap++[(dN t (U t 4 [125] v.2).ap (U t 4 [125] v.2)).1] }:=by
   rw[c6];have P:=uT c7 y;rw[d2]at P;refine S.c7 P ((aR _ _ _).trans (b3.trans (b0.trans (ol rfl)))) ?_;rintro h d7 b4 j ⟨rfl,e1,e2,e3,f2⟩;unfold tF;have c1:Sx t (λ_ (m:List iM×gN) f=>f=(c.a7 h.1).c5 (m.1.flatMap verNames)/\XL v.2.w 0 (m.1.flatMap verPs) v.1.1/\v.1.2=[112,114,111,103,114,97,109,32]++h.1++[32,123,32]++m.1.flatMap versS) (pO (aH t) 4 (pgPiece (aH t)) ([],([],[])) d7) (U t 4 [125] v.2):=by
    unfold pO;refine Sx.c7 (S.gP (nX j (kd:=4) (l:=[123]) (by decide))) b3 ?_;rintro e2 e0 d9 L x ⟨⟨rfl,-⟩,rfl⟩;rw[blockF_none];have:=sim_versL (t:=t) 5 [] [] [] [] [] ([112,114,111,103,114,97,109,32]++B.1.text++[32,123,32]) d9 (U t 4 [123] B.2) _ x rfl rfl (by simp) (by simp) (XL.nil _ _);rw[a5]at this;refine this.mono ?_;rintro e0 e9 b5 ⟨e8,rfl,w,c2,c3,-⟩;simp only[YT]at w c2;exact⟨by rw[w],by rw[w];exact c2,by rw[w,c3,e1]⟩
   refine S.c7 (runx_S c1) (b0.trans (ol rfl)) ?_;rintro a7 f0 e4 d4 ⟨rfl,w,c2⟩;unfold qH;generalize U t 4 [125] v.2=i at *
   generalize hF:({ (dN t i.ap i).2 with progs:=(dN t i.ap i).2.ap++[(dN t i.ap i).1] }:Z)=C;have d8:ar (U t 4 [61] i) C:=by
    rw[<-hF];unfold dN;exact(fO _ _ _).trans ((hr _ _ _ _).trans ((aR _ _ _).trans (ol rfl)))
   refine S.c7 (σ1:=C) (S.c7 (σ2:=C) (R':=λG f=>f=(c.a7 h.1).c5 (a7.1.flatMap verNames)/\G=(dN t i.ap i).1) (nX d4 (kd:=4) (l:=[61]) (by decide)) d8 ?_) (ar.refl C) ?_
   .rintro f1 A L x ⟨rfl,-⟩;have c8:A.ap.map (·.1)=i.ap:=x.pg.symm;have E:=uV x A.ap i.ap c8 0 4294967295;have c9:=a4.ap;unfold Go.Proofs.YtjdhaegijjednaaGreatDoor.c7 Bf;rw[<-hF,c9];unfold dN;simp only;cases u:go (aH t) (cO 0 4294967295) A.ap A with
    |error g=>
     rw[u]at E;exact(Er.cs E (aR _ _ _)).cs (ol rfl)
    |ok K=>
     obtain⟨G,a6,a9⟩:=K;rw[u]at E;obtain⟨b5,p,rfl,b8,b9,-,-⟩:=E;simp only;have d5:Q t _ { a9 with progs:=a6 } { (if(be t 0 4294967295 (U t 4 [61] i)).2.s.e=0/\i.ap.contains (be t 0 4294967295 (U t 4 [61] i)).1.1=true then bq 6 (be t 0 4294967295 (U t 4 [61] i)).1.2 (be t 0 4294967295 (U t 4 [61] i)).2 else (be t 0 4294967295 (U t 4 [61] i)).2)with progs:=i.ap++[G] }:=⟨p.e,p.wd,p.nl,p.pd,p.nm,p.ty,p.cn,b9.symm,p.d2,p.dH,p.ou,p.pr,p.dY,p.d5⟩
     have r:=nX d5 (kd:=4) (l:=[59]) (by decide);subst b8;cases R:bX (aH t) [59] { a9 with progs:=a6 }with
     |error g=>
      rw[R]at r;have r:Er g _:=r;exact⟨r.e,r.a,r.z⟩
     |ok H=>
      rw[R]at r;obtain⟨e5,d6,rfl,-⟩:=r;exact⟨_,d6,rfl,rfl⟩
   .rintro G A L x ⟨rfl,rfl⟩;exact S.ret x ⟨h,a7.1,rfl,rfl,e3,w,c2⟩
  cases u:nH (aH t) s.y { st with at':=m,nx:=none }with
  |error g=>
   rw[u]at q;have q:Er g _:=q;rw[jc u];exact⟨q.e,q.a,q.z⟩
  |ok K=>
   obtain⟨d,b2⟩:=K;rw[u]at q;obtain⟨b4,j,h,k,rfl,rfl,M,b6,b7⟩:=q;have d0:(dN t (U t 4 [125] v.2).ap (U t 4 [125] v.2)).2.w=v.2.w:=a4.w;rw[mH u];generalize dN t (U t 4 [125] v.2).ap (U t 4 [125] v.2)=n at *
   have a1:ak (c.a7 h.1).nl h.1=some none:=by rw[jh _ _ _ M,Y9 rfl]
   have d1:b2.A=(c.a7 h.1).nl:=by rw[j.nl];simp[aV.c5,y]
   obtain⟨d3,H,e6,I,N,c0⟩:=find_none j a1;have a2:=j.nm.set (d:=.prog h.1 h.2 k n.1) (r:=H) a1 I ⟨c0,by
    have:=j.nm.dG d3 _ _ I N;exact this.2⟩
   have a0:=j.d5.set I (.prog h.1 h.2 k n.1) H;rw[Ch N]at a2 a0;refine⟨{ ((c.a7 h.1).c5 (k.flatMap verNames)).set h.1 (.prog h.1 h.2 k n.1)with o:=c.o++progS h.1 k n.1,ps:=c.ps++v.1.1.map λm=>{ m with prog:=n.1 } },?_,h.1,h.2,k,n.1,_,rfl,⟨y,c4,rfl,rfl,rfl,rfl,[],uN M,by simp⟩,?_⟩
   .refine⟨j.e,j.wd,?_,Y8 y,a2,j.ty,j.cn,j.pg,j.d2,j.dH,?_,?_,j.dY,a0⟩
    .show gs b2.A h.1 _=gs _ h.1 _++c.pd;rw[d1,y,YH];rfl
    .show n.2.out++_=c.o++progS h.1 k n.1;have J:n.2.out=c.o:=j.ou;rw[J,b7];simp[progS]
    .show n.2.d7++_=c.ps++_;have J:n.2.d7=c.ps:=j.pr;rw[J]
   .show XL n.2.w n.1 _ _;rw[d0];exact b6.prog _
end
section
variable {t : List UInt8} {b i : St} {a c h j m : Z} {f d : aV} {g : Mar.aD}
def hE(a c:Z):Prop:=∃b,c.w=a.w++b
def hE.refl(a:Z):hE a a:=⟨[],by simp⟩
def hE.trans(b:hE a c)(f:hE c h):hE a h:=by
 obtain⟨g,d⟩:=b;obtain⟨i,e⟩:=f;exact⟨g++i,by rw[e,d,YN]⟩
def cx.aI(b:cx a c):hE a c:=by obtain⟨e,d,-⟩:=b.w;exact⟨e,d⟩
def grow_of(b:c.w=a.w):hE a c:=⟨[],by rw[b];simp⟩
def grow_row(b:aG)(a:Z):hE a (bI b a):=⟨[b],rfl⟩
def grow_put(b:List UInt8)(a:Z):hE a (cQ b a):=hE.refl _
def grow_known(c:List UInt8)(b:Int)(a:Z):hE a (cm c b a):=by
 unfold cm fh;split<;>exact⟨[],by simp⟩
def grow_typed(c:List UInt8)(b:Int)(a:Z):hE a (cq c b a):=by
 unfold cq fh;split<;>exact⟨[],by simp⟩
def mL(b:Int)(a:Z):hE a (an t b a).2:=grow_of (gr b a)
def grow_const(a:Z):hE a (du t a):=by
 unfold du;simp only;generalize e:an t 2 (U t 2 [99,111,110,115,116] (ao a.aC 40 a))=c;have d:hE a c.2:=by rw[<-e];exact((aS _ _ _).trans (aa _ _ _)).ext.aI.trans (mL _ _)
 have b:hE a (U t 4 [59] (be t (-2147483648) 4294967295 (U t 4 [61] c.2)).2):=d.trans ((aa _ _ _).trans ((dz _ _ _).trans (aa _ _ _))).ext.aI;split
 .exact b
 .exact b.trans ((grow_known _ _ _).trans (grow_put _ _))
def grow_typedef(a:Z):hE a (dA t a):=by
 unfold dA;simp only;generalize d:bf t [] true (U t 2 [116,121,112,101,100,101,102] a)=c;have b:hE a c.2:=by rw[<-d];exact((aa _ _ _).ext.trans (gh _ _ _)).aI
 split
 .exact b
 .exact b.trans (hE.refl _)
def zW:∀(c:Nat) (b:List Int) (f:List UInt8) (a:Z),hE a (cN t c b f a).2.2.2:=by
 intro c;induction c with
 |zero=>intro b f a;exact hE.refl _
 |succ c i=>
  intro b f a;by_cases h:a.s.e=0
  .rw[kz h];have d:hE a (bO t b a):=by
    refine hE.trans ?_ (fN _ _ _ _).ext.aI;exact((aS _ _ _).trans (aS _ _ _)).ext.aI.trans ((mL _ _).trans ((aa _ _ _).trans (dz _ _ _)).ext.aI)
   have g:hE a (cZ t b a):=by
    unfold cZ;split
    .exact d
    .exact d.trans (grow_known _ _ _)
   split
   .exact d
   .split
    .exact g.trans ((bZ _).ext.aI.trans (i _ _ _))
    .exact g
  .rw[iZ h];exact hE.refl _
def grow_enum(a:Z):hE a (eb t a):=by
 unfold eb;simp only;generalize g:an t 2 (U t 2 [101,110,117,109] a)=b;have e:hE a b.2:=by rw[<-g];exact(aa _ _ _).ext.aI.trans (mL _ _)
 generalize f:cN t 13 [] ([101,110,117,109,32]++b.1.text++[32,123,32]) (U t 4 [123] b.2)=d;have c:hE a d.2.2.2:=by rw[<-f];exact e.trans ((aa _ _ _).ext.aI.trans (zW _ _ _ _))
 split
 .exact c
 .exact c.trans (((aa _ _ _).trans (aa _ _ _)).ext.aI.trans ((grow_row _ _).trans ((grow_typed _ _ _).trans (grow_put _ _))))
def zK:∀(b:Nat) (d:List Int) (c:List (List UInt8)) (f:List UInt8) (a:Z),hE a (cS t b d c f a).2.2:=by
 intro b;induction b with
 |zero=>intro d c f a;exact hE.refl _
 |succ b i=>
  intro d c f a;by_cases h:a.s.e=0
  .rw[vB h];have g:hE a (U t 4 [59] (od t d.length c a).2):=((aS _ _ _).ext.trans ((gh _ _ _).trans (aa _ _ _).ext)).aI;split
   .exact g
   .exact g.trans (i _ _ _ _)
  .rw[om h];exact hE.refl _
def grow_struct(a:Z):hE a (ee t a):=by
 exact(aa _ _ _).ext.aI.trans ((mL _ _).trans ((aa _ _ _).ext.aI.trans ((zK _ _ _ _ _).trans (((aa _ _ _).trans (aa _ _ _)).ext.aI.trans ((grow_row _ _).trans ((grow_typed _ _ _).trans (grow_put _ _)))))))
def zX(of:Int):∀(c:Nat) (b g:List Int) (d:List (List UInt8)) (f:List UInt8) (a:Z),hE a (cH t of c b g d f a).2:=by
 intro c;induction c with
 |zero=>intro b g d f a;exact hE.refl _
 |succ c j=>
  intro b g d f a;by_cases i:a.s.e=0
  .rw[lA i];have h:hE a (dr t d (dk t of (14-b.length) b [] a).2).2:=((iR _ _ _ _ _).1.ext.trans (hW _ _)).aI;split
   .exact h.trans (j _ _ _ _ _)
   .exact h
  .rw[jH i];exact hE.refl _
def grow_union(a:Z):hE a (ek t a):=by
 exact(aa _ _ _).ext.aI.trans ((mL _ _).trans (((aa _ _ _).trans ((aa _ _ _).trans ((ir _).trans ((eF _).trans ((aa _ _ _).trans (aa _ _ _)))))).ext.aI.trans ((zX _ _ _ _ _ _ _).trans ((kA _ _).aI.trans (((aa _ _ _).trans (aa _ _ _)).ext.aI.trans ((grow_row _ _).trans ((grow_typed _ _ _).trans (grow_put _ _))))))))
def grow_prog(a:Z):hE a (dP t a):=by
 unfold dP;simp only;generalize g:an t 2 (U t 2 [112,114,111,103,114,97,109] (ao a.ap.length 4 a))=b;have c:hE a b.2:=by rw[<-g];exact((aS _ _ _).trans (aa _ _ _)).ext.aI.trans (mL _ _)
 generalize f:dB t 6 [] [] [] ([112,114,111,103,114,97,109,32]++b.1.text++[32,123,32]) (U t 4 [123] b.2)=v;have d:hE a (U t 4 [125] v.2):=by rw[<-f];exact c.trans (((aa _ _ _).ext.trans ((ja _ _ _ _ _ _).trans (aa _ _ _).ext)).aI)
 have e:=d.trans (hd (t:=t) (U t 4 [125] v.2).ap _).aI;exact e.trans (hE.refl _)
def mu(g:¬aA a 2 [99,111,110,115,116]=true)(h:¬aA a 2 [112,114,111,103,114,97,109]=true)(e:a.s.x.kind=2):bg t a =
  if a.s.x.text=[116,121,112,101,100,101,102]then dA t (dS a)else if a.s.x.text=[101,110,117,109]then eb t (dS a)else if a.s.x.text=[115,116,114,117,99,116]then ee t (dS a)else if a.s.x.text=[117,110,105,111,110]then ek t (dS a)else bK a:=by
 unfold bg;rw[Y2 g,Y2 h];by_cases b:a.s.x.text=[116,121,112,101,100,101,102]
 .rw[Y2 (by rw[e,b];simp),Y9 b,Y9 b];rfl
 .by_cases c:a.s.x.text=[101,110,117,109]
  .rw[Y2 (by rw[e,c];simp),Y2 b,Y9 c,Y2 b,Y9 c];rfl
  .by_cases d:a.s.x.text=[115,116,114,117,99,116]
   .rw[Y2 (by rw[e,d];simp),Y2 b,Y2 c,Y9 d,Y2 b,Y2 c,Y9 d];rfl
   .by_cases f:a.s.x.text=[117,110,105,111,110]
    .rw[Y2 (by rw[e,f];simp),Y2 b,Y2 c,Y2 d,Y2 b,Y2 c,Y2 d,Y9 f];rfl
    .rw[Y9 (Ya ⟨b,c,d,f⟩),Y2 b,Y2 c,Y2 d,Y2 f]
def zY(a:Z):hE a (dS a):=(aS a.au 24 a).ext.aI
def zV(a:Z):hE a (bg t a):=by
 by_cases b:aA a 2 [99,111,110,115,116]=true
 .unfold bg;rw[Y9 b];exact grow_const a
 .by_cases c:aA a 2 [112,114,111,103,114,97,109]=true
  .unfold bg;rw[Y2 b,Y9 c];exact grow_prog a
  .by_cases d:a.s.x.kind=2
   .rw[mu b c d];split
    .exact(zY a).trans (grow_typedef _)
    .split
     .exact(zY a).trans (grow_enum _)
     .split
      .exact(zY a).trans (grow_struct _)
      .split
       .exact(zY a).trans (grow_union _)
       .exact(nY a).ext.aI
   .unfold bg;rw[Y2 b,Y2 c,Y9 (Y8 d)];exact(nY a).ext.aI
def joinM:List (List UInt8×Nat×Int)->List UInt8
 |[]=>[]
 |[a]=>Ay a
 |a::c::b=>Ay a++[44,32]++joinM (c::b)
def joinM_snoc(a:List (List UInt8×Nat×Int))(b:List UInt8×Nat×Int):joinM (a++[b])=a.flatMap (λb=>Ay b++[44,32])++Ay b:=by
 induction a with
 |nil=>simp[joinM]
 |cons d a c=>
  cases a with
  |nil=>simp[joinM]
  |cons e a=>
   rw[YX,YX];unfold joinM;rw[<-YX,c];simp
def zz:ah->List UInt8
 |.const a _ v=>constS a v
 |.typedef d=>oC d
 |.enum a _ b=>[101,110,117,109,32]++a++[32,123,32]++joinM b++[32,125,59,10]
 |.struct a _ b=>structS a b
 |.union a _ f c=>unionS a f c
 |.prog a _ g e=>progS a g e
def zx:ah->List (Int×Int×lR)
 |.prog _ _ c b=>(c.flatMap verPs).map λa=>(b,a)
 |_=>[]
def YL(d:List aG)(e:List (Int×Int×lR))(f:List dW):Prop:=f.length=e.length/\∀(c:Nat) (a:Int×Int×lR) (b:dW),e[c]? = some a->f[c]? = some b->b.prog=a.1/\b.j3=a.2.1/\b.proc=a.2.2.num/\ep d a.2.2.f7 b.f7/\ep d a.2.2.hs b.hs
def YL.nil(b:List aG):YL b [] []:=⟨rfl,λd c e a=>by simp at a⟩
def YL.a6{e:List aG}{f j:List (Int×Int×lR)}{l m:List dW}(a:YL e f l)(i:YL e j m):YL e (f++j) (l++m):=by
 refine⟨by simp[a.1,i.1],?_⟩;intro h g k c d;rcases Yj h f.length with b|b
 .rw[Ys b]at c;rw[Ys (by rw[a.1];exact b)]at d;exact a.2 h g k c d
 .rw[Yw b]at c;rw[Yw (by rw[a.1];exact b),a.1]at d;exact i.2 _ g k c d
def YL.aI{e:List (Int×Int×lR)}{f:List dW}(b:YL a.w e f)(m:hE a c):YL c.w e f:=⟨b.1,λl g n i j=>by
 obtain⟨h,a2,a3,a4,a5⟩:=b.2 l g n i j;obtain⟨d,k⟩:=m;rw[k];exact⟨h,a2,a3,a4.a6 d,a5.a6 d⟩⟩
def XL.yl{h:List aG}{g:Int}{c:List (Int×lR)}{i:List dW}(e:XL h g c i):YL h (c.map λd=>(g,d)) i:=by
 refine⟨by simp[e.1],?_⟩;intro f d l a j;rw[List.getElem?_map]at a;cases b:c[f]? with
 |none=>rw[b]at a;cases a
 |some k=>
  rw[b]at a;simp at a;subst a;exact e.2 f k l b j
def fin_next{c:Mar.aN}{a:Nat}(d:cf t b.y b.nx=.ok (c,a)):qY (dv (aH t)) b=qY (qD (aH t) c) { b with at':=a,nx:=none }:=by
 unfold qY dv Go.Proofs.YtjdhaegijjednaaGreatDoor.c7;rw[jp d]
def uU(h:Q t f b a)(p:f.pd=[])(o:f.dc=0):S t (λm d=>∃E,xw f d m (zz m) E/\YL (bg t a).w (zx m) E) (qY (dv (aH t)) b) (bg t a):=by
 rcases pk t b with⟨c,M,e⟩|⟨g,e⟩
 .rw[fin_next e];have I:=h.wd;rw[e]at I;obtain⟨⟨O,P,a5,a6,a7⟩,a0⟩:=I;have J:=h.is e (kd:=2) (l:=[99,111,110,115,116]) (by decide);have K:=h.is e (kd:=2) (l:=[112,114,111,103,114,97,109]) (by decide);by_cases r:c.text=[99,111,110,115,116]
  .have A:aA a 2 [99,111,110,115,116]=true:=by rw[J,r];rfl
   have i:qD (aH t) c=iW (aH t) c.y:=by unfold qD;rw[Y9 (by simpa using r)]
   have n:bg t a=du t a:=by unfold bg;rw[Y9 A]
   rw[i,n];refine(sim_const h p o e A).mono ?_;rintro m d ⟨j,q,v,rfl,ok⟩;exact⟨[],ok,YL.nil _⟩
  .have H:¬aA a 2 [99,111,110,115,116]=true:=by rw[J];simpa using r
   by_cases z:c.text=[112,114,111,103,114,97,109]
   .have A:aA a 2 [112,114,111,103,114,97,109]=true:=by rw[K,z];rfl
    have i:qD (aH t) c=nH (aH t) c.y:=by unfold qD;rw[z];rfl
    have n:bg t a=dP t a:=by unfold bg;rw[Y2 H,Y9 A]
    rw[i,n];refine(sim_prog h p o e A).mono ?_;rintro m d ⟨j,q,b0,a8,E,rfl,ok,a2⟩;exact⟨E,ok,a2.yl⟩
   .have L:¬aA a 2 [112,114,111,103,114,97,109]=true:=by rw[K];simpa using z
    by_cases F:a.s.x.kind=2
    .rw[mu H L F,P];by_cases s:c.text=[116,121,112,101,100,101,102]
     .have i:qD (aH t) c=eJ (aH t) c.y:=by unfold qD;rw[s];rfl
      rw[i,Y9 s];refine(Co h p o e (by rw[h.is e (by decide),s];rfl)).mono ?_;rintro m d ⟨a4,rfl,ok⟩;exact⟨[],ok,YL.nil _⟩
     .rw[Y2 s];by_cases u:c.text=[101,110,117,109]
      .have i:qD (aH t) c=mA (aH t) c.y:=by unfold qD;rw[u];rfl
       rw[i,Y9 u];refine(sim_enum h p o e (by rw[h.is e (by decide),u];rfl)).mono ?_;rintro m d ⟨j,q,C,G,rfl,ok⟩;refine⟨[],?_,YL.nil _⟩;have:zz (.enum j q (C++[G]))=enumS j C G:=by
        show [101,110,117,109,32]++j++[32,123,32]++joinM (C++[G])++[32,125,59,10]=_;rw[joinM_snoc];simp[enumS]
       rw[this];exact ok
      .rw[Y2 u];by_cases w:c.text=[115,116,114,117,99,116]
       .have i:qD (aH t) c=oq (aH t) c.y:=by unfold qD;rw[w];rfl
        rw[i,Y9 w];refine(sim_struct h p o e (by rw[h.is e (by decide),w];rfl)).mono ?_;rintro m d ⟨j,q,C,rfl,ok⟩;exact⟨[],ok,YL.nil _⟩
       .rw[Y2 w];by_cases y:c.text=[117,110,105,111,110]
        .have i:qD (aH t) c=lB (aH t) c.y:=by unfold qD;rw[y];rfl
         rw[i,Y9 y];refine(sim_union h p o e (by rw[h.is e (by decide),y];rfl)).mono ?_;rintro m d ⟨j,q,a9,a3,rfl,ok⟩;exact⟨[],ok,YL.nil _⟩
        .rw[Y2 y];have i:qD (aH t) c { b with at':=M,nx:=none } = .error ⟨3,c.y⟩:=by
          unfold qD;rw[Y2 (by simpa using r),Y2 (by simpa using s),Y2 (by simpa using u),Y2 (by simpa using w),Y2 (by simpa using y),Y2 (by simpa using z)];rfl
         rw[jc i];exact h.fn e
    .have D:∀j,Mar.c9 j=true->c.text≠j:=λj a1 N=>F (by rw[O];exact a0.key (by rw[N];exact a1));have n:bg t a=bK a:=by unfold bg;rw[Y2 H,Y2 L,Y9 (Y8 F)]
     have i:qD (aH t) c { b with at':=M,nx:=none } = .error ⟨3,c.y⟩:=by
      unfold qD;rw[Y2 (by simpa using r),Y2 (by simpa using D [116,121,112,101,100,101,102] (by decide)),Y2 (by simpa using D [101,110,117,109] (by decide)),Y2 (by simpa using D [115,116,114,117,99,116] (by decide)),Y2 (by simpa using D [117,110,105,111,110] (by decide)),Y2 (by simpa using z)];rfl
     rw[jc i,n];exact h.fn e
 .have R:qY (dv (aH t)) b=.error g:=by
   unfold qY dv Go.Proofs.YtjdhaegijjednaaGreatDoor.c7;rw[jo e]
  have B:=h.bd e;have n:bg t a=bK a:=by
   unfold bg;rw[Y2 (by rw[B.is (by omega)];simp),Y2 (by rw[B.is (by omega)];simp),Y9 (Y8 (by rw[B.k];omega))]
  rw[R,n];exact B.fs
end
section
variable {d c a:Nat}{b:Int}
variable {t : List UInt8} {j k : St} {σ σ' l m f : Z} {g h : aV} {i : Mar.aD}
def hE.am(a:hE σ σ'):σ.w.length<=σ'.w.length:=by
 obtain⟨c,b⟩:=a;rw[b,Yq];omega
def ft(c d:Nat)(b:Int):Prop:=b<5\/((c:Int)<=b/\b+1=d)
def gn(σ:Z)(a:aG)(b:c<=σ.w.length):ft c (bI a σ).w.length σ.w.length:=Ya ⟨by omega,by show _=(((σ.w++[a]).length:Nat):Int);simp⟩
def mT(σ:Z):ft σ.w.length (bY t σ).2.w.length (bY t σ).1.1:=by
 unfold bY;split
 .exact Y8 (by simp)
 .split
  .exact gn (aO t σ) _ (Y4 _)
  .split
   .exact Y8 (by simp)
   .split
    .exact Y8 (by simp)
    .split
     .exact Y8 (by simp)
     .split
      .unfold hw;split
       .exact Y8 (by simp)
       .split<;>exact Y8 (by simp)
      .exact Y8 (by simp)
def ku(c:List (List UInt8))(all:Bool)(σ:Z):ft σ.w.length (bf t c all σ).2.w.length (bf t c all σ).1.r:=by
 unfold bf;split
 .unfold hj;simp only;have b:∀a,σ.w.length<=(es t a (bH t c all (aO t σ)).2).2.w.length:=λa=>((bZ _).u ((dQ _ _ _).u (lg _ _))).H.aI.am;split
  .exact gn _ _ (b true)
  .exact gn _ _ (b false)
 .unfold hc;simp only;have e:=mT (t:=t) σ;have b:σ.w.length<=(bY t σ).2.w.length:=(qL σ).aI.am;split
  .exact gn _ _ (Yz b ((bZ _).u (dQ _ _ _)).H.aI.am)
  .have d:∀a,σ.w.length<=(es t a (bH t c all (bY t σ).2).2).2.w.length:=λa=>Yz b ((dQ _ _ _).u (lg _ _)).H.aI.am;split
   .exact gn _ _ (d true)
   .split
    .exact gn _ _ (d false)
    .rw[(dQ (t:=t) c all (bY t σ).2).w];exact e
def Nw(c:Nat)(b:Int):Prop:=b<5\/(c:Int)<=b
def ft.nw(a:ft c d b):Nw c b:=a.imp id And.left
def Nw.aL(a:Nw d b)(e:c<=d):Nw c b:=a.imp id λa=>by omega
def Fh(a:Nat)(σ:Z):Prop:=a<=σ.w.length/\∀(c:Nat) (b:aG),σ.w[c]? = some b->a<=c->b.F≠14->∀d∈dw b,Nw a d
def Fh.of(b:Fh a σ)(c:σ'.w=σ.w):Fh a σ':=by unfold Fh;rw[c];exact b
def Fh.row(f:Fh a σ){r:aG}(j:r.F≠14->∀h∈dw r,Nw a h):Fh a (bI r σ):=by
 refine⟨by show a<=(σ.w++[r]).length;have:=f.1;simp;omega,?_⟩;intro e k b i;rw[show (bI r σ).w=σ.w++[r]from rfl]at b;rcases Yj e σ.w.length with c|c
 .rw[Ys c]at b;exact f.2 e k b i
 .rw[Yw c]at b;match g:e-σ.w.length with
  |0=>rw[g]at b;simp at b;subst b;exact j
  |d+1=>rw[g]at b;simp at b
def mV(a c:Int)(b:a=6\/a=7\/a=8):dw (iq a c)=[]:=by rcases b with rfl|rfl|rfl<;>rfl
def mF(b:Fh a σ):Fh a (bY t σ).2:=by
 unfold bY;split
 .exact b
 .split
  .exact(b.of (σ':=aO t σ) rfl).row (λc=>absurd rfl c)
  .split
   .exact b.of rfl
   .split
    .exact b.of rfl
    .split
     .exact b.of rfl
     .split
      .unfold hw;split
       .exact b.of rfl
       .split<;>exact b.of rfl
      .exact b.of rfl
def kC(f:Fh a σ)(h:List (List UInt8))(all:Bool):Fh a (bf t h all σ).2:=by
 unfold bf;split
 .unfold hj;simp only;have d:∀c,Fh a (es t c (bH t h all (aO t σ)).2).2:=λc=>f.of ((bZ _).u ((dQ _ _ _).u (lg _ _))).w;split
  .exact(d true).row (λ_ e b=>by rw[mV _ _ (Y8 rfl)]at b;cases b)
  .exact(d false).row (λ_ e b=>by rw[mV _ _ (by split<;>simp)]at b;cases b)
 .unfold hc;simp only;have g:=mF (t:=t) f;have i:Nw a (bY t σ).1.1:=(mT (t:=t) σ).nw.aL f.1;split
  .exact(g.of ((bZ _).u (dQ _ _ _)).w).row (λ_ e b=>by simp[dw,fJ]at b)
  .have d:∀c,Fh a (es t c (bH t h all (bY t σ).2).2).2:=λc=>g.of ((dQ _ _ _).u (lg _ _)).w;split
   .exact(d true).row (λ_ e b=>by simp[dw,fJ]at b;subst b;exact i)
   .split
    .exact(d false).row (λ_ e b=>by simp[dw,fJ]at b)
    .exact g.of (dQ _ _ _).w
def qU:∀(g:Nat) (c:List Int) (d:List (List UInt8)) (j:List UInt8) (σ:Z),Fh a σ->(∀b∈c,Nw a b)->Fh a (cS t g c d j σ).2.2/\∀b∈(cS t g c d j σ).1,Nw a b:=by
 intro g;induction g with
 |zero=>intro c d j σ h i;exact⟨h,i⟩
 |succ g o=>
  intro c d j σ h i;by_cases n:σ.s.e=0
  .rw[vB n];have k:Fh a (ao c.length 12 σ):=h.of (aS _ _ _).w;have l:Fh a (U t 4 [59] (od t c.length d σ).2):=(kC (t:=t) k d false).of (aa _ _ _).w;have m:∀b∈c++[(od t c.length d σ).1.r],Nw a b:=by
    intro b f;rcases Yn.1 f with f|f
    .exact i b f
    .simp at f;subst f;exact(ku (t:=t) d false _).nw.aL k.1
   split
   .exact⟨l,m⟩
   .exact o _ _ _ _ l m
  .rw[om n];exact⟨h,i⟩
def mE(c:Fh a σ)(b:List (List UInt8)):Fh a (dr t b σ).2/\Nw a (dr t b σ).1.1:=by
 unfold dr;split
 .exact⟨c.of rfl,Y8 (by simp)⟩
 .exact⟨(kC (t:=t) c b false).of (aa _ _ _).w,(ku (t:=t) b false _).nw.aL c.1⟩
def qV(of:Int):∀(h:Nat) (c f:List Int) (d:List (List UInt8)) (k:List UInt8) (σ:Z),Fh a σ->(∀b∈f,Nw a b)->Fh a (cH t of h c f d k σ).2/\∀b∈(cH t of h c f d k σ).1.2.1,Nw a b:=by
 intro h;induction h with
 |zero=>intro c f d k σ i j;exact⟨i,j⟩
 |succ h p=>
  intro c f d k σ i j;by_cases n:σ.s.e=0
  .rw[lA n];have o:Fh a (dk t of (14-c.length) c [] σ).2:=i.of (iR _ _ _ _ _).1.w;have l:=mE (t:=t) o d;have m:∀b∈jb (dk t of (14-c.length) c [] σ).1.1.length (dr t d (dk t of (14-c.length) c [] σ).2).1.1 f,Nw a b:=by
    intro b g;rcases Yn.1 g with g|g
    .exact j b g
    .rw[List.eq_of_mem_replicate g];exact l.2
   split
   .exact p _ _ _ _ _ l.1 m
   .exact⟨l.1,m⟩
  .rw[jH n];exact⟨i,j⟩
def qQ(c:Fh a σ)(b:List (List UInt8)):Fh a (ea t b σ).2/\Nw a (ea t b σ).1.1:=by
 unfold ea;split
 .have:=mE (t:=t) (σ:=U t 4 [58] (aO t σ)) (c.of rfl) b;exact this
 .exact⟨c,Y8 (by simp)⟩
def jB(a:List UInt8)(c:Int)(σ:Z):(cq a c σ).w=σ.w:=by
 unfold cq fh;split<;>rfl
def lb(a:List UInt8)(c:Int)(σ:Z):(cm a c σ).w=σ.w:=by
 unfold cm fh;split<;>rfl
def mG(b:Fh a σ):Fh a (cG t σ).2:=by
 unfold cG;split
 .exact b.of rfl
 .exact mF b
def kD(b:Fh a σ)(c:List Int):Fh a (dN t c σ).2:=by
 exact b.of ((aa _ _ _).u ((dz _ _ _).u ((fN _ _ _ _).u (aa _ _ _)))).w
def qS:∀(g:Nat) (b:List dW) (d:List (List UInt8)) (c:List Int) (h:List UInt8) (σ:Z),Fh a σ->Fh a (hl t g b d c h σ).2:=by
 intro g;induction g with
 |zero=>intro b d c h σ f;exact f
 |succ g m=>
  intro b d c h σ f;by_cases j:σ.s.e=0
  .rw[By j];have k:Fh a (Bv t b.length σ).2:=mG (f.of (aS _ _ _).w);have l:Fh a (Bt t b.length d σ).2:=mG ((k.of (dQ _ _ _).w).of (aa _ _ _).w);have i:Fh a (Bu t b.length d c σ).2:=kD (l.of (aa _ _ _).w) c;split
   .exact i
   .exact m _ _ _ _ _ i
  .unfold hl;rw[Y9 j];exact f
def qX(c:Fh a σ)(d:List (List UInt8))(b:List Int):Fh a (hx t d b σ).2:=by
 exact kD ((qS _ _ _ _ _ _ ((c.of (aa _ _ _).w).of ((dQ _ _ _).u (aa _ _ _)).w)).of (aa _ _ _).w) b
def qW:∀(f:Nat) (c:List (List UInt8)) (b:List Int) (all:List dW) (g:List UInt8) (σ:Z),Fh a σ->Fh a (dB t f c b all g σ).2:=by
 intro f;induction f with
 |zero=>intro c b all g σ d;exact d
 |succ f j=>
  intro c b all g σ d;by_cases i:σ.s.e=0
  .rw[CY i];have h:Fh a (hx t c b (ao b.length 4 σ)).2:=qX (d.of (aS _ _ _).w) c b;split
   .exact h
   .exact j _ _ _ _ _ h
  .rw[wj i];exact d
def qR:∀(d:Nat) (b:List Int) (g:List UInt8) (σ:Z),Fh a σ->Fh a (cN t d b g σ).2.2.2:=by
 intro d;induction d with
 |zero=>intro b g σ c;exact c
 |succ d j=>
  intro b g σ c;by_cases i:σ.s.e=0
  .rw[kz i];have f:Fh a (bO t b σ):=by
    refine Fh.of ?_ (fN _ _ _ _).w;exact Fh.of (Fh.of (Fh.of c ((aS _ _ _).u (aS _ _ _)).w) (gr _ _)) ((aa _ _ _).u (dz _ _ _)).w
   have h:Fh a (cZ t b σ):=by
    unfold cZ;split
    .exact f
    .exact f.of (lb _ _ _)
   split
   .exact f
   .split
    .exact j _ _ _ (h.of (bZ _).w)
    .exact h
  .rw[iZ i];exact c
def qT(σ:Z):Fh σ.w.length σ:=⟨Y4 _,λc d a b=>by
 rw[YA b]at a;cases a⟩
def qP(σ:Z):Fh σ.w.length (bg t σ):=by
 have l:=qT σ;generalize σ.w.length=a at *
 by_cases p:aA σ 2 [99,111,110,115,116]=true
 .unfold bg;rw[Y9 p];unfold du;simp only;have m:Fh a (an t 2 (U t 2 [99,111,110,115,116] (ao σ.aC 40 σ))).2:=Fh.of (l.of ((aS _ _ _).u (aa _ _ _)).w) (gr _ _);generalize an t 2 (U t 2 [99,111,110,115,116] (ao σ.aC 40 σ))=e at *
  have i:Fh a (U t 4 [59] (be t (-2147483648) 4294967295 (U t 4 [61] e.2)).2):=m.of ((aa _ _ _).u ((dz _ _ _).u (aa _ _ _))).w;split
  .exact i
  .exact(i.of (lb _ _ _)).of rfl
 .by_cases m:aA σ 2 [112,114,111,103,114,97,109]=true
  .unfold bg;rw[Y2 p,Y9 m];unfold dP;simp only;have i:Fh a (an t 2 (U t 2 [112,114,111,103,114,97,109] (ao σ.ap.length 4 σ))).2:=Fh.of (l.of ((aS _ _ _).u (aa _ _ _)).w) (gr _ _);generalize an t 2 (U t 2 [112,114,111,103,114,97,109] (ao σ.ap.length 4 σ))=b at *
   have g:=qW (t:=t) 6 [] [] [] ([112,114,111,103,114,97,109,32]++b.1.text++[32,123,32]) (U t 4 [123] b.2) (i.of (aa _ _ _).w);generalize dB t 6 [] [] [] ([112,114,111,103,114,97,109,32]++b.1.text++[32,123,32]) (U t 4 [123] b.2)=v at *
   exact(kD (t:=t) (g.of (aa _ _ _).w) (U t 4 [125] v.2).ap).of rfl
  .by_cases i:σ.s.x.F=2
   .rw[mu p m i];have q:Fh a (dS σ):=l.of (aS σ.au 24 σ).w;generalize dS σ=f at *
    split
    .unfold dA;simp only;have g:=kC (t:=t) (q.of (aa (t:=t) 2 [116,121,112,101,100,101,102] f).w) [] true;split
     .exact g
     .exact g.of rfl
    .split
     .unfold eb;simp only;have g:Fh a (an t 2 (U t 2 [101,110,117,109] f)).2:=Fh.of (q.of (aa _ _ _).w) (gr _ _);generalize an t 2 (U t 2 [101,110,117,109] f)=e at *
      have j:=qR (t:=t) 13 [] ([101,110,117,109,32]++e.1.text++[32,123,32]) (U t 4 [123] e.2) (g.of (aa _ _ _).w);generalize cN t 13 [] ([101,110,117,109,32]++e.1.text++[32,123,32]) (U t 4 [123] e.2)=k at *
      split
      .exact j
      .refine Fh.of (Fh.of (Fh.row (j.of ((aa (t:=t) 4 [125] _).u (aa (t:=t) 4 [59] _)).w) (r:=⟨5,0,0,k.2.1,[],0,[],0⟩) ?_) (jB _ _ _)) rfl;intro _ o h;simp[dw]at h
     .split
      .unfold ee;simp only;have g:Fh a (an t 2 (U t 2 [115,116,114,117,99,116] f)).2:=Fh.of (q.of (aa _ _ _).w) (gr _ _);generalize an t 2 (U t 2 [115,116,114,117,99,116] f)=e at *
       have j:=qU (t:=t) 14 [] [] ([115,116,114,117,99,116,32]++e.1.text++[32,123,32]) (U t 4 [123] e.2) (g.of (aa _ _ _).w) (by simp);generalize cS t 14 [] [] ([115,116,114,117,99,116,32]++e.1.text++[32,123,32]) (U t 4 [123] e.2)=k at *
       refine Fh.of (Fh.of (Fh.row (j.1.of ((aa (t:=t) 4 [125] _).u (aa (t:=t) 4 [59] _)).w) (r:=⟨12,0,0,[],k.1,0,[],0⟩) ?_) (jB _ _ _)) rfl;intro _ o h;exact j.2 o h
      .split
       .unfold ek;simp only;have g:Fh a (an t 2 (U t 2 [117,110,105,111,110] f)).2:=Fh.of (q.of (aa _ _ _).w) (gr _ _);generalize an t 2 (U t 2 [117,110,105,111,110] f)=e at *
        have j:Fh a (dM t (U t 4 [40] (U t 2 [115,119,105,116,99,104] e.2))).2:=g.of ((aa _ _ _).u ((aa _ _ _).u (ir _))).w;generalize dM t (U t 4 [40] (U t 2 [115,119,105,116,99,104] e.2))=c at *
        have u:Fh a (U t 4 [123] (U t 4 [41] (bv t c.2).2)):=j.of ((eF _).u ((aa _ _ _).u (aa _ _ _))).w;generalize bv t c.2=d at *
        have r:=qV (t:=t) c.1.1 14 [] [] [d.1.text] ([117,110,105,111,110,32]++e.1.text++[32,115,119,105,116,99,104,32,40]++c.1.2++[32]++d.1.text++[41,32,123,32]) _ u (by simp);generalize cH t c.1.1 14 [] [] [d.1.text] ([117,110,105,111,110,32]++e.1.text++[32,115,119,105,116,99,104,32,40]++c.1.2++[32]++d.1.text++[41,32,123,32]) (U t 4 [123] (U t 4 [41] d.2))=n at *
        have s:=qQ (t:=t) r.1 n.1.2.2.1;generalize ea t n.1.2.2.1 n.2=k at *
        refine Fh.of (Fh.of (Fh.row (s.1.of ((aa (t:=t) 4 [125] _).u (aa (t:=t) 4 [59] _)).w) (r:=⟨13,0,c.1.1,n.1.1,n.1.2.1,k.1.1,[],0⟩) ?_) (jB _ _ _)) rfl;intro _ o h;simp[dw]at h;rcases h with h|rfl
        .exact r.2 o h
        .exact s.2
       .exact l.of rfl
   .unfold bg;rw[Y2 p,Y2 m,Y9 (Y8 i)];exact l.of rfl
end
section
variable {t : List UInt8} {f g : St} {σ σ' h i a σ0 : Z} {b c : aV} {d : Mar.aD}
def W1(σ0 σ:Z):Prop:=∀a∈σ.A,a.az=1->a∈σ0.A
def pB(σ:Z):W1 σ σ:=λ_ a _=>a
def W1.of(a:W1 σ0 σ)(b:σ'.A=σ.A):W1 σ0 σ':=by unfold W1;rw[b];exact a
def hy(b:W1 σ0 σ):W1 σ0 (an t 2 σ).2:=by
 unfold an;split
 .exact b.of (eF σ).A
 .split
  .exact b.of ((eF σ).u (nZ _ _ _)).A
  .intro d a c;rcases Yn.1 (show d∈(bv t σ).2.A++_ from a)with a|a
   .rw[(eF σ).A]at a;exact b d a c
   .simp at a;subst a;simp at c
def wl(f:W1 σ0 σ)(c:Nat)(e h:Int)(g:e≠1):W1 σ0 (fh σ c e h):=by
 intro d a b;rcases List.mem_or_eq_of_mem_set (show d∈σ.A.set c _ from a)with a|a
 .exact f d a b
 .subst a;exact absurd b g
def oJ(a:W1 σ0 σ)(c:List UInt8)(b:Int):W1 σ0 (cm c b σ):=by
 unfold cm;split
 .exact(wl a _ 0 b (by omega)).of rfl
 .exact a.of rfl
def wm(d:W1 σ0 σ)(f:List UInt8)(e:Int):∀a∈(cq f e σ).A,a.az=1->a∈σ0.A\/a.n=e:=by
 unfold cq;split
 .intro a b c;rcases List.mem_or_eq_of_mem_set (show a∈σ.A.set _ _ from b)with b|b
  .exact Y8 (d a b c)
  .subst b;exact Ya rfl
 .intro a b c;exact Y8 (d a b c)
def wk:∀(c:Nat) (a:List Int) (f:List UInt8) (σ:Z),W1 σ0 σ->W1 σ0 (cN t c a f σ).2.2.2:=by
 intro c;induction c with
 |zero=>intro a f σ b;exact b
 |succ c i=>
  intro a f σ b;by_cases h:σ.s.e=0
  .rw[kz h];have d:W1 σ0 (bO t a σ):=by
    refine W1.of ?_ (fN _ _ _ _).A;exact(hy (b.of ((aS _ _ _).u (aS _ _ _)).A)).of ((aa _ _ _).u (dz _ _ _)).A
   have g:W1 σ0 (cZ t a σ):=by
    unfold cZ;split
    .exact d
    .exact oJ d _ _
   split
   .exact d
   .split
    .exact i _ _ _ (g.of (bZ _).A)
    .exact g
  .rw[iZ h];exact b
def sS:∀(a:Nat) (c:List Int) (b:List (List UInt8)) (d:List UInt8) (σ:Z),(cS t a c b d σ).2.2.A=σ.A:=by
 intro a;induction a with
 |zero=>intro c b d σ;rfl
 |succ a h=>
  intro c b d σ;by_cases g:σ.s.e=0
  .rw[vB g];have f:(U t 4 [59] (od t c.length b σ).2).A=σ.A:=((aS _ _ _).H.u ((gh _ _ _).u (aa _ _ _).H)).A;split
   .exact f
   .rw[h];exact f
  .rw[om g]
def sT(of:Int):∀(b:Nat) (a f:List Int) (c:List (List UInt8)) (d:List UInt8) (σ:Z),(cH t of b a f c d σ).2.A=σ.A:=by
 intro b;induction b with
 |zero=>intro a f c d σ;rfl
 |succ b i=>
  intro a f c d σ;by_cases h:σ.s.e=0
  .rw[lA h];have g:(dr t c (dk t of (14-a.length) a [] σ).2).2.A=σ.A:=((iR _ _ _ _ _).1.H.u (hW _ _)).A;split
   .rw[i];exact g
   .exact g
  .rw[jH h]
def sQ(σ:Z):∀b∈(bg t σ).A,b.az=1->b∈σ.A\/ft σ.w.length (bg t σ).w.length b.n:=by
 have w:=pB σ;by_cases o:aA σ 2 [99,111,110,115,116]=true
 .unfold bg;rw[Y9 o];intro b c f;refine Y8 ?_;unfold du at c;simp only at c;have m:W1 σ (an t 2 (U t 2 [99,111,110,115,116] (ao σ.aC 40 σ))).2:=hy (w.of ((aS _ _ _).u (aa _ _ _)).A);generalize an t 2 (U t 2 [99,111,110,115,116] (ao σ.aC 40 σ))=d at *
  have j:W1 σ (U t 4 [59] (be t (-2147483648) 4294967295 (U t 4 [61] d.2)).2):=m.of ((aa _ _ _).u ((dz _ _ _).u (aa _ _ _))).A;split at c
  .exact j b c f
  .exact oJ j _ _ b c f
 .by_cases m:aA σ 2 [112,114,111,103,114,97,109]=true
  .unfold bg;rw[Y2 o,Y9 m];intro b c f;refine Y8 ?_;unfold dP at c;simp only at c;have j:W1 σ (an t 2 (U t 2 [112,114,111,103,114,97,109] (ao σ.ap.length 4 σ))).2:=hy (w.of ((aS _ _ _).u (aa _ _ _)).A);generalize an t 2 (U t 2 [112,114,111,103,114,97,109] (ao σ.ap.length 4 σ))=d at *
   have k:W1 σ (U t 4 [125] (dB t 6 [] [] [] ([112,114,111,103,114,97,109,32]++d.1.text++[32,123,32]) (U t 4 [123] d.2)).2):=j.of ((aa _ _ _).H.u ((ja _ _ _ _ _ _).u (aa _ _ _).H)).A;generalize dB t 6 [] [] [] ([112,114,111,103,114,97,109,32]++d.1.text++[32,123,32]) (U t 4 [123] d.2)=v at *
   exact(k.of (hd (t:=t) (U t 4 [125] v.2).ap _).A) b c f
  .by_cases j:σ.s.x.F=2
   .rw[mu o m j];have q:W1 σ (dS σ):=w.of (aS σ.au 24 σ).A;have H:σ.w.length<=(dS σ).w.length:=(zY σ).am;generalize dS σ=a at *
    have y:∀{e:Z} {b:aG} {n r:List UInt8},hE a e->W1 σ e->∀d∈(cQ r (cq n e.w.length (bI b e))).A,d.az=1->d∈σ.A\/ft σ.w.length (cQ r (cq n e.w.length (bI b e))).w.length d.n:=by
     intro e b n r I J d x K;rcases wm (σ:=bI b e) (J.of rfl) n e.w.length d x K with i|i
     .exact Y8 i
     .right;rw[show (cQ r (cq n e.w.length (bI b e))).w=(bI b e).w from jB _ _ _,i];exact gn e b (Yz H I.am)
    split
    .unfold dA;simp only;have F:=ku (t:=t) [] true (U t 2 [116,121,112,101,100,101,102] a);have f:W1 σ (bf t [] true (U t 2 [116,121,112,101,100,101,102] a)).2:=q.of ((aa _ _ _).H.u (gh _ _ _)).A;generalize bf t [] true (U t 2 [116,121,112,101,100,101,102] a)=s at *
     intro b c i;split at c
     .exact Y8 (f b c i)
     .rename_i G;rw[Y2 G];rcases Yn.1 (show b∈s.2.A++_ from c)with c|c
      .exact Y8 (f b c i)
      .simp at c;subst c;right;refine F.imp id λA=>⟨?_,A.2⟩;have M:((a.w.length:Nat):Int)<=s.1.r:=A.1;show ((σ.w.length:Nat):Int)<=s.1.r;omega
    .split
     .unfold eb;simp only;have k:W1 σ (an t 2 (U t 2 [101,110,117,109] a)).2:=hy (q.of (aa _ _ _).A);have l:hE a (an t 2 (U t 2 [101,110,117,109] a)).2:=(aa _ _ _).H.aI.u (mL _ _);generalize an t 2 (U t 2 [101,110,117,109] a)=b at *
      have p:=wk (t:=t) (σ0:=σ) 13 [] ([101,110,117,109,32]++b.1.text++[32,123,32]) (U t 4 [123] b.2) (k.of (aa _ _ _).A);have u:=l.u ((aa (t:=t) 4 [123] b.2).H.aI.u (zW (t:=t) 13 [] ([101,110,117,109,32]++b.1.text++[32,123,32]) (U t 4 [123] b.2)));split
      .intro d x i;exact Y8 (p d x i)
      .exact y (u.u ((aa (t:=t) 4 [125] _).u (aa (t:=t) 4 [59] _)).H.aI) (p.of ((aa (t:=t) 4 [125] _).u (aa (t:=t) 4 [59] _)).A)
     .split
      .unfold ee;have k:W1 σ (an t 2 (U t 2 [115,116,114,117,99,116] a)).2:=hy (q.of (aa _ _ _).A);have l:hE a (an t 2 (U t 2 [115,116,114,117,99,116] a)).2:=(aa _ _ _).H.aI.u (mL _ _);generalize an t 2 (U t 2 [115,116,114,117,99,116] a)=b at *
       have p:=(k.of (aa (t:=t) 4 [123] b.2).A).of (sS (t:=t) 14 [] [] ([115,116,114,117,99,116,32]++b.1.text++[32,123,32]) (U t 4 [123] b.2));have u:=l.u ((aa (t:=t) 4 [123] b.2).H.aI.u (zK (t:=t) 14 [] [] ([115,116,114,117,99,116,32]++b.1.text++[32,123,32]) (U t 4 [123] b.2)));exact y (u.u ((aa (t:=t) 4 [125] _).u (aa (t:=t) 4 [59] _)).H.aI) (p.of ((aa (t:=t) 4 [125] _).u (aa (t:=t) 4 [59] _)).A)
      .split
       .unfold ek;simp only;have k:W1 σ (an t 2 (U t 2 [117,110,105,111,110] a)).2:=hy (q.of (aa _ _ _).A);have l:hE a (an t 2 (U t 2 [117,110,105,111,110] a)).2:=(aa _ _ _).H.aI.u (mL _ _);generalize an t 2 (U t 2 [117,110,105,111,110] a)=b at *
        have B:Sm b.2 (dM t (U t 4 [40] (U t 2 [115,119,105,116,99,104] b.2))).2:=(aa _ _ _).u ((aa _ _ _).u (ir _));generalize dM t (U t 4 [40] (U t 2 [115,119,105,116,99,104] b.2))=h at *
        have C:Sm h.2 (U t 4 [123] (U t 4 [41] (bv t h.2).2)):=(eF _).u ((aa _ _ _).u (aa _ _ _));generalize bv t h.2=g at *
        have L:=sT (t:=t) h.1.1 14 [] [] [g.1.text] ([117,110,105,111,110,32]++b.1.text++[32,115,119,105,116,99,104,32,40]++h.1.2++[32]++g.1.text++[41,32,123,32]) (U t 4 [123] (U t 4 [41] g.2));have E:=zX (t:=t) h.1.1 14 [] [] [g.1.text] ([117,110,105,111,110,32]++b.1.text++[32,115,119,105,116,99,104,32,40]++h.1.2++[32]++g.1.text++[41,32,123,32]) (U t 4 [123] (U t 4 [41] g.2));generalize cH t h.1.1 14 [] [] [g.1.text] ([117,110,105,111,110,32]++b.1.text++[32,115,119,105,116,99,104,32,40]++h.1.2++[32]++g.1.text++[41,32,123,32]) (U t 4 [123] (U t 4 [41] g.2))=D at *
        have z:=kA (t:=t) D.1.2.2.1 D.2;exact y (l.u ((B.u C).H.aI.u (E.u (z.aI.u ((aa (t:=t) 4 [125] _).u (aa (t:=t) 4 [59] _)).H.aI)))) ((((k.of (B.u C).A).of L).of z.A).of ((aa (t:=t) 4 [125] _).u (aa (t:=t) 4 [59] _)).A)
       .intro b c f;exact Y8 c
   .unfold bg;rw[Y2 o,Y2 m,Y9 (Y8 j)];intro b c f;exact Y8 c
def qK:∀(b:Nat) (a:List Int) (c:List UInt8) (σ:Z),(cN t b a c σ).2.1.length<=a.length+b:=by
 intro b;induction b with
 |zero=>intro a c σ;exact Y4 _
 |succ b f=>
  intro a c σ;by_cases d:σ.s.e=0
  .rw[kz d];split
   .simp
   .split
    .have:=f (a++[(cP t a.length σ).1.1]) (c++(dJ t a.length σ).1.text++[32,61,32]++dn (cP t a.length σ).1.1++[44,32]) (aO t (cZ t a σ));rw[Yq,List.length_singleton]at this;omega
    .simp<;>omega
  .rw[iZ d];simp
def uo:∀(c:Nat) (a:List Int) (f:List UInt8) (σ:Z),Rn σ->Rn (cN t c a f σ).2.2.2:=by
 intro c;induction c with
 |zero=>intro a f σ b;exact b
 |succ c i=>
  intro a f σ b;by_cases h:σ.s.e=0
  .rw[kz h];have d:Rn (bO t a σ):=by
    refine Rn.of ?_ (fN _ _ _ _).w;exact Rn.of (Rn.of (Rn.of b ((aS _ _ _).u (aS _ _ _)).w) (gr _ _)) ((aa _ _ _).u (dz _ _ _)).w
   have g:Rn (cZ t a σ):=by
    unfold cZ;split
    .exact d
    .exact d.of (lb _ _ _)
   split
   .exact d
   .split
    .exact i _ _ _ (g.of (bZ _).w)
    .exact g
  .rw[iZ h];exact b
def un(d:Rn σ):Rn (eb t σ):=by
 unfold eb;simp only;have e:Rn (an t 2 (U t 2 [101,110,117,109] σ)).2:=im (d.H (aa _ _ _).H) 2;generalize an t 2 (U t 2 [101,110,117,109] σ)=a at *
 have f:=qK (t:=t) 13 [] ([101,110,117,109,32]++a.1.text++[32,123,32]) (U t 4 [123] a.2);have b:=uo (t:=t) 13 [] ([101,110,117,109,32]++a.1.text++[32,123,32]) (U t 4 [123] a.2) (e.H (aa _ _ _).H);generalize cN t 13 [] ([101,110,117,109,32]++a.1.text++[32,123,32]) (U t 4 [123] a.2)=c at *
 split
 .exact b
 .refine jy (kY (kX (b.H ((aa _ _ _).u (aa _ _ _)).H) _ ⟨?_,by simp⟩) _ _) _;simp only[List.length_nil]at f;show c.2.1.length<=1000;omega
def pT(of:Int):∀(b:Nat) (a:List Int) (c:List UInt8) (σ:Z),(dk t of b a c σ).1.1.length<=a.length+b:=by
 intro b;induction b with
 |zero=>intro a c σ;exact Y4 _
 |succ b f=>
  intro a c σ;by_cases d:σ.s.e=0
  .rw[zg d];split
   .have:=f (a++[(qq t of a.length σ).1.1]) (c++[99,97,115,101,32]++dn (qq t of a.length σ).1.1++[58,32]) (zu t of a σ);rw[Yq,List.length_singleton]at this;omega
   .simp<;>omega
  .unfold dk;rw[Y9 d];simp
def we(of:Int):∀(c:Nat) (a b:List Int) (d:List (List UInt8)) (f:List UInt8) (σ:Z),a.length<=14->b.length<=14->(cH t of c a b d f σ).1.1.length<=14/\(cH t of c a b d f σ).1.2.1.length<=14:=by
 intro c;induction c with
 |zero=>intro a b d f σ g h;exact⟨g,h⟩
 |succ c l=>
  intro a b d f σ g h;by_cases k:σ.s.e=0
  .rw[lA k];have i:(dk t of (14-a.length) a [] σ).1.1.length<=14:=by have:=pT (t:=t) of (14-a.length) a [] σ;omega
   have j:(jb (dk t of (14-a.length) a [] σ).1.1.length (dr t d (dk t of (14-a.length) a [] σ).2).1.1 b).length<=14:=by unfold jb;simp;omega
   split
   .exact l _ _ _ _ _ i j
   .exact⟨i,j⟩
  .rw[jH k];exact⟨g,h⟩
def ux(of:Int):∀(c:Nat) (a g:List Int) (d:List (List UInt8)) (f:List UInt8) (σ:Z),Rn σ->Rn (cH t of c a g d f σ).2:=by
 intro c;induction c with
 |zero=>intro a g d f σ b;exact b
 |succ c j=>
  intro a g d f σ b;by_cases i:σ.s.e=0
  .rw[lA i];have h:Rn (dr t d (dk t of (14-a.length) a [] σ).2).2:=b.H ((iR _ _ _ _ _).1.H.u (hW _ _));split
   .exact j _ _ _ _ _ h
   .exact h
  .rw[jH i];exact b
def uw(e:Rn σ):Rn (ek t σ):=by
 unfold ek;simp only;have f:Rn (an t 2 (U t 2 [117,110,105,111,110] σ)).2:=im (e.H (aa _ _ _).H) 2;generalize an t 2 (U t 2 [117,110,105,111,110] σ)=c at *
 have g:Rn (dM t (U t 4 [40] (U t 2 [115,119,105,116,99,104] c.2))).2:=f.of ((aa _ _ _).u ((aa _ _ _).u (ir _))).w;generalize dM t (U t 4 [40] (U t 2 [115,119,105,116,99,104] c.2))=b at *
 have h:Rn (U t 4 [123] (U t 4 [41] (bv t b.2).2)):=g.of ((eF _).u ((aa _ _ _).u (aa _ _ _))).w;generalize bv t b.2=a at *
 have i:=ux (t:=t) b.1.1 14 [] [] [a.1.text] ([117,110,105,111,110,32]++c.1.text++[32,115,119,105,116,99,104,32,40]++b.1.2++[32]++a.1.text++[41,32,123,32]) _ h;have j:=we (t:=t) b.1.1 14 [] [] [a.1.text] ([117,110,105,111,110,32]++c.1.text++[32,115,119,105,116,99,104,32,40]++b.1.2++[32]++a.1.text++[41,32,123,32]) (U t 4 [123] (U t 4 [41] a.2)) (by simp) (by simp);generalize cH t b.1.1 14 [] [] [a.1.text] ([117,110,105,111,110,32]++c.1.text++[32,115,119,105,116,99,104,32,40]++b.1.2++[32]++a.1.text++[41,32,123,32]) (U t 4 [123] (U t 4 [41] a.2))=d at *
 refine jy (kY (kX ((i.H (kA _ _)).H ((aa _ _ _).u (aa _ _ _)).H) _ ⟨?_,?_⟩) _ _) _
 .show d.1.1.length<=1000;omega
 .show d.1.2.1.length<=1000;omega
def um(a:Rn σ):Rn (bg t σ):=by
 by_cases b:aA σ 2 [99,111,110,115,116]=true
 .unfold bg;rw[Y9 b];exact ul a
 .by_cases d:aA σ 2 [112,114,111,103,114,97,109]=true
  .unfold bg;rw[Y2 b,Y9 d];exact us a
  .by_cases e:σ.s.x.F=2
   .rw[mu b d e];have c:Rn (dS σ):=a.of (aS σ.au 24 σ).w;split
    .exact uv c
    .split
     .exact un c
     .split
      .exact ut c
      .split
       .exact uw c
       .exact a.of rfl
   .unfold bg;rw[Y2 b,Y2 d,Y9 (Y8 e)];exact a.of rfl
end
section
variable {t : List UInt8} {g k : St} {e w x z A y : Z} {f l : aV} {u : Mar.aD} {h : List ah} {d : ah}
def dR(a:List UInt8×Option ah):Option ah:=match a.2 with
 |some d=>if fa d=true then some d else none
 |none=>none
structure Wh(t:List UInt8)(h:List ah)(f:aV)(g:St)(e:Z):Prop where
 q:Q t f g e
 pd:f.pd=[]
 dc:f.dc=0
 fz:f.fz=e.A
 o:f.o=h.flatMap zz
 ps:YL e.w (h.flatMap zx) f.ps
 rf:f.rf=(h.flatMap kx).map λp=>(p.1,(p.2:Int))
 nl:f.nl.filterMap dR=h.filter fa
 g0:∀p∈f.nl,p.2≠none
 h0:∀p∈f.nl,∀d,p.2=some d->fa d=true->(aT d).1=p.1
 ij:∀(i j:Nat) (a b:bl),e.A[i]? = some a->e.A[j]? = some b->i≠j->a.az=1->b.az=1->a.n=b.n->a.n<5
 tr:∀(i:Nat) (r:aG),e.w[i]? = some r->r.F≠14->∀c∈dw r,5<=c->∀m∈e.A,m.az=1->m.n≠c
 dI:aB e
 rn:Rn e
 ti:fA g h
def fG{e:Type}{c:List e}{b:Nat}{f:e}(d:c[b]? = some f):b<c.length:=by
 rcases Yj b c.length with a|a
 .exact a
 .rw[YA a]at d;cases d
def Q.az(o:Q t f g e){l:Nat}{c:List UInt8×Option ah}{b:bl}(p:f.nl[l]? = some c)(q:e.A[l]? = some b)(r:b.az=1):∃d,c.2=some d/\fa d=true/\b.s=c.1/\b.y=(aT d).2/\hH e.w f.nl d b.n:=by
 obtain⟨k,a⟩:=o.nm.dG l c b p q;cases m:c.2 with
 |none=>rw[m]at a;have:b.az=2:=a;omega
 |some d=>
  rw[m]at a;cases d with
  |const h i j=>have:b.az=0:=a.1;omega
  |prog h i j d=>have:b.az=2:=a;omega
  |typedef d=>exact⟨_,rfl,rfl,k,a.2⟩
  |enum h i j=>exact⟨_,rfl,rfl,k,a.2⟩
  |struct h i j=>exact⟨_,rfl,rfl,k,a.2⟩
  |union h i j d=>exact⟨_,rfl,rfl,k,a.2⟩
def Q.gU(n:Q t f g e){b c:Nat}{l m:bl}(h:e.A[b]? = some l)(i:e.A[c]? = some m)(o:l.s=m.s):b=c:=by
 have d:(e.A.map (·.s)).Nodup:=by rw[n.nm.g8];exact n.nm.nd
 have d:=List.pairwise_iff_getElem.1 d;have j:=fG h;have k:=fG i;rw[Yd j]at h;rw[Yd k]at i;cases h
 cases i
 rcases Nat.lt_trichotomy b c with a|a|a
 .exact(d b c (by simpa using j) (by simpa using k) a (by simp[o])).elim
 .exact a
 .exact(d c b (by simpa using k) (by simpa using j) a (by simp[o])).elim
def Wh.cE(j:Wh t h f g e)(H:qY (dv (aH t)) g=.ok (d,k)):∃l,Wh t (h++[d]) l k (bg t e):=by
 have b2:=uU j.q j.pd j.dc;rw[H]at b2;obtain⟨z,m,e2,ok,c9⟩:=b2;obtain⟨b7,S,N⟩:=ok.nl;have a9:=zV (t:=t) e;have a8:=m.d5.1;rw[ok.fz,j.fz]at a8;obtain⟨e1,b0⟩:=a8;have d6:e.A.length=f.nl.length:=j.q.nm.am;have a7:∀y∈z.nl,y.2≠none:=by
  intro y i;rw[S]at i;rcases Yn.1 i with i|i
  .exact j.g0 y i
  .rcases Yg.1 i with rfl|i
   .simp
   .obtain⟨b,x,v,D⟩:=N y i;rw[D];simp
 have R:∀(a:Nat) (b:bl),(bg t e).A[a]? = some b->b.az=1->a<e.A.length\/a=e.A.length:=by
  intro a b q B;rcases Yj a e.A.length with p|p
  .exact Y8 p
  .right;have r:a<z.nl.length:=by rw[<-m.nm.am];exact fG q
   obtain⟨b6,a0⟩:∃b6,z.nl[a]? = some b6:=⟨_,Yd r⟩;obtain⟨d2,a6,a3,-⟩:=m.az a0 q B;rcases Yj e.A.length a with F|F
   .exfalso;rw[S,Yw (by omega)]at a0;obtain⟨b5,P⟩:∃b5,a-f.nl.length=b5+1:=⟨a-f.nl.length-1,by omega⟩;rw[P,List.getElem?_cons_succ]at a0;obtain⟨d0,d1,e4,D⟩:=N _ (Yh a0);rw[D]at a6;cases a6
    cases a3
   .omega
 have K:∀(a:Nat) (b:bl),a<e.A.length->(bg t e).A[a]? = some b->e.A[a]? = some b:=by
  intro a b r q;rw[b0,Ys r]at q;exact q
 have a5:∀(b:bl),(bg t e).A[e.A.length]? = some b->b.az=1->ft e.w.length (bg t e).w.length b.n:=by
  intro b q B;rcases sQ (t:=t) e b (Yh q) B with p|p
  .exfalso;obtain⟨s,w,c2⟩:=List.mem_iff_getElem.1 p;have J:(bg t e).A[s]? = some b:=by rw[b0,Ys w,Yd w,c2]
   have:=m.gU q J rfl;omega
  .exact p
 have d4:dv (aH t) g=.ok (d,{ k with A:=k.A })\/True:=Ya trivial;have a4:∃a2,dv (aH t) g=.ok (d,a2)/\k = { a2 with A:=gs a2.A (aT d).1 d }:=by
  cases c:dv (aH t) g with
  |error u=>rw[jc c]at H;cases H
  |ok e3=>
   rw[mH c]at H;cases H
   exact⟨_,rfl,rfl⟩
 obtain⟨a2,a4,c8⟩:=a4;have b8:=j.rn.c8;refine⟨{ z with fz:=(bg t e).A },⟨⟨m.e,m.wd,m.nl,m.pd,m.nm,m.ty,m.cn,m.pg,m.d2,m.dH,m.ou,m.pr,m.dY,⟨⟨[],by simp⟩,λs y _ i=>a7 y (Yh i)⟩⟩,ok.pd,ok.dc,rfl,?_,?_,?_,?_,a7,?_,?_,?_,sy j.dI b8,um j.rn,?_⟩⟩
 .show z.o=_;rw[ok.o,j.o];simp
 .show YL _ _ z.ps;rw[ok.ps,YK];exact(j.ps.aI a9).a6 (by simpa using c9)
 .show z.rf=_;rw[ok.rf,j.rf];simp
 .show z.nl.filterMap dR=_;rw[S,List.filterMap_append,j.nl,List.filter_append];congr 1;have b4:b7.filterMap dR=[]:=by
   rw[List.filterMap_eq_nil_iff];intro C c;obtain⟨b,x,v,D⟩:=N C c;simp[dR,D,fa]
  rw[List.filterMap_cons];cases A:fa d with
  |true=>simp[dR,A,b4]
  |false=>simp[dR,A,b4]
 .intro y i D I b3;have i:y∈z.nl:=i;rw[S]at i;rcases Yn.1 i with i|i
  .exact j.h0 y i D I b3
  .rcases Yg.1 i with rfl|i
   .simp only[Yu]at I;rw[<-I]
   .obtain⟨b,x,v,a3⟩:=N y i;rw[a3]at I;cases I
    cases b3
 .intro a s b x q A c1 M G b9;rcases R a b q M with r|r
  .rcases R s x A G with w|w
   .exact j.ij a s b x (K a b r q) (K s x w A) c1 M G b9
   .subst w;have d7:=j.dI b (Yh (K a b r q)) M;rcases a5 x A G with p|p
    .omega
    .omega
  .subst r;rcases R s x A G with w|w
   .have d8:=j.dI x (Yh (K s x w A)) G;rcases a5 b q M with p|p
    .exact p
    .omega
   .omega
 .intro a a1 L P C c c0 E c5 B;have O:=m.dH a a1 L;have d3:C<(max a 5:Nat):=by
   unfold dw at c;split at c
   .simp at c;subst c;exact O.1
   .split at c
    .exact O.2.1 C c
    .split at c
     .rcases Yn.1 c with c|c
      .exact O.2.1 C c
      .simp at c;subst c;exact O.2.2.1
     .cases c
  have d5:=fG L;obtain⟨s,w,c3⟩:=List.mem_iff_getElem.1 c5;have J:(bg t e).A[s]? = some E:=by rw[Yd w,c3]
  intro c6;rcases R s E J B with p|p
  .have b1:=K s E p J;have d9:=j.dI E (Yh b1) B;rcases Yj a e.w.length with r|r
   .have c7:e.w[a]? = some a1:=by
     obtain⟨e0,c4⟩:=a9;rw[c4,Ys r]at L;exact L
    exact j.tr a a1 c7 P C c c0 E (Yh b1) B c6
   .rcases(qP (t:=t) e).2 a a1 L r P C c with F|F<;>omega
  .subst p;rcases a5 E J B with F|F
   .omega
   .omega
 .rw[c8];exact j.ti.cE a4
end
section
variable {d : List UInt8} {b j : St} {a k l o p m : Z} {f i : aV} {g : Mar.aD} {h : List ah} {c : ah}
def start(d:List UInt8):Z:={ eG with s:=⟨dL d 0,0,0⟩,w:=gY }
def gg:aV:=⟨0,[],[],[],[],[],[]⟩
def ws(d:List UInt8):Wh d [] gg bR (start d):=by
 have g:∀(a:Nat) (b:aG),gY[a]? = some b->lT (max a 5) b/\b.F≠14/\dw b=[]/\b.bp=[]/\b.gR=[]:=by
  intro a b e;have h:=fG e;have:a=0\/a=1\/a=2\/a=3\/a=4:=by simp[gY]at h;omega
  rcases this with rfl|rfl|rfl|rfl|rfl<;>(simp[gY]at e;subst e;refine⟨⟨by simp,by simp,by simp,by simp⟩,by simp,rfl,rfl,rfl⟩)
 refine⟨⟨rfl,oM d 0,rfl,Y8 rfl,⟨rfl,λa i b f=>by simp[gg]at f,by simp[gg]⟩,rfl,rfl,rfl,⟨[],rfl⟩,λa b e=>(g a b e).1,rfl,rfl,rfl,⟨⟨[],rfl⟩,λq i o=>by simp[gg]at o⟩⟩,rfl,rfl,rfl,rfl,yE _,rfl,rfl,?_,?_,?_,?_,?_,?_,?_⟩
 .intro i f;simp[gg]at f
 .intro i f;simp[gg]at f
 .intro a q r s n;simp[start,eG]at n
 .intro a b e u t j;rw[(g a b e).2.2.1]at j;cases j
 .intro v p;simp[start,eG]at p
 .refine⟨by simp[start,gY],?_⟩;intro b e;obtain⟨a,h⟩:=List.mem_iff_getElem?.1 e;obtain⟨-,-,-,l,m⟩:=g a b h;rw[l,m];simp
 .exact⟨by simp[bR],by simp[bR],by simp[bR],by simp,λw c k=>by simp[bR,ak]at k⟩
def fM(a:Z)(b:aG):aG:=if b.F=14 then { b with of:=(fe a b.b4).n }else b
def bA(a:Z)(b:Nat):Z:={ a with w:=(a.w.take b).map (fM a)++a.w.drop b }
def tC(a:Z):bA a 0=a:=by simp[bA]
def tB(a:Z):bA a a.w.length = { a with w:=a.w.map (fM a) }:=by simp[bA]
def kV{b:Nat}{e:aG}(d:a.w[b]? = some e):(bA a b).w.getD b jz=e:=by
 have f:=fG d;have c:((a.w.take b).map (fM a)).length=b:=by simp;omega
 unfold bA;simp only;rw[List.getD_eq_getElem?_getD,Yw (by rw[c];exact Y4 _),c,Nat.sub_self,List.getElem?_drop,Nat.add_zero,d];rfl
def nE{b:Nat}{d:aG}(c:a.w[b]? = some d):bA a (b+1) = { bA a b with w:=(bA a b).w.set b (fM a d) }:=by
 have e:=fG c;have f:((a.w.take b).map (fM a)).length=b:=by simp;omega
 unfold bA;simp only;congr 1;have g:a.w.drop b=d::a.w.drop (b+1):=by
  rw[Yk e];rw[Yd e]at c;cases c
  rfl
 have h:a.w.take (b+1)=a.w.take b++[d]:=by
  rw[List.take_succ,c];rfl
 rw[g,h,List.set_append_right _ _ (by rw[f];exact Y4 _),f,Nat.sub_self,List.map_append];simp
def eh(b:St)(a:List UInt8):Bool:=match ak b.A a with
 |some c=>mR c
 |none=>false
def rU(b:St)(a:List UInt8×Nat):hY b a=if eh b a.1=true then .ok ()else .error ⟨7,a.2⟩:=by
 unfold hY eh;cases ak b.A a.1 with
 |none=>rfl
 |some c=>cases mR c<;>rfl
def wa(n:Q d f b a)(x:f.pd=[])(e:List UInt8):(eh b e=true/\∃(m:Nat) (c:ah) (h:bl),ak b.A e=some (some c)/\fa c=true/\f.nl[m]? = some (e,some c)/\a.A[m]? = some h/\h.az=1/\fe a e=h/\¬(cF a e<0\/(fe a e).az≠1))\/(eh b e=false/\(cF a e<0\/(fe a e).az≠1)):=by
 have w:b.A=f.nl:=by rw[n.nl,x];simp
 unfold eh;rw[w];rcases n.fv e with⟨o,p⟩|⟨m,y,h,o,p,u,q,v⟩
 .right;rw[o];exact⟨rfl,Y8 p⟩
 .have r:fe a e=h:=by
   unfold fe;rw[p,Int.toNat_natCast,List.getD_eq_getElem?_getD,q];rfl
  rw[o];simp only;by_cases g:h.az=1
  .obtain⟨c,s,t,-⟩:=n.az u q g;simp only at s;subst s;left;exact⟨t,m,c,h,rfl,t,u,q,g,r,by rw[r,g];simp;omega⟩
  .right;refine⟨?_,Ya (by rw[r];exact g)⟩;have l:=v.2;cases y with
   |none=>rfl
   |some c=>
    cases c with
    |const i j k=>rfl
    |prog i j k c=>rfl
    |typedef c=>exact absurd l.1 g
    |enum i j k=>exact absurd l.1 g
    |struct i j k=>exact absurd l.1 g
    |union i j k c=>exact absurd l.1 g
abbrev jg(b:St):yk Unit:=mW ⟨0,0,0,0,[]⟩ ⟨#[]⟩ b [] 0
def vL(b:St)(a:List UInt8×Nat)(c:List (List UInt8×Nat)):iv (jg b) (a::c) ()=if eh b a.1=true then iv (jg b) c ()else .error ⟨7,a.2⟩:=by
 conv=>lhs;unfold iv
 have d:(jg b).a2 a ()=hY b a:=rfl;rw[d,rU];cases eh b a.1<;>rfl
def tO(a:aG)(b:List aG):eA (a::b)=if a.F=14 then (a.b4,a.y)::eA b else eA b:=by
 unfold eA;rw[List.filterMap_cons];by_cases c:a.F=14
 .simp[c]
 .simp[c]
def tP(v:Q d f b a)(K:f.pd=[]):∀(o h:Nat) (j:List (List UInt8×Nat)),h+o=a.w.length->eA (a.w.drop h)=j.map (λl=>(l.1,(l.2:Int)))->
  match iv (jg b) j ()with
  |.error g=>Er g (nO o h (bA a h))
  |.ok _=>nO o h (bA a h)=bA a a.w.length/\∀l∈j,eh b l.1=true:=by
 intro o;induction o with
 |zero=>
  intro h j I i;have:h=a.w.length:=by omega
  subst this;rw[List.drop_length]at i;have:j=[]:=by
   cases j with
   |nil=>rfl
   |cons A j=>simp[eA]at i
  subst this;exact⟨rfl,by simp⟩
 |succ o z=>
  intro h j I i;have r:h<a.w.length:=by omega
  obtain⟨k,m⟩:∃k,a.w[h]? = some k:=⟨_,Yd r⟩;have F:a.w.drop h=k::a.w.drop (h+1):=by
   rw[Yk r];rw[Yd r]at m;cases m
   rfl
  rw[F,tO]at i;unfold nO;rw[kV m];by_cases q:k.F=14
  .rw[Y9 q]at i ⊢;cases j with
   |nil=>simp at i
   |cons l j=>
    simp only[List.map_cons,List.cons.injEq,Prod.mk.injEq]at i;obtain⟨⟨y,D⟩,i⟩:=i;rw[vL];have H:cF (bA a h) k.b4=cF a k.b4:=rfl;have J:fe (bA a h) k.b4=fe a k.b4:=rfl;rw[H,J,y];rcases wa v K l.1 with⟨p,N,c,O,-,-,-,-,-,M,C⟩|⟨p,B⟩
    .rw[Y9 p,Y2 C];have t:uO (bA a h) h (fe a l.1).n=bA a (h+1):=by
      rw[<-y,nE m];unfold uO;rw[kV m];unfold fM;rw[Y9 q]
     rw[t];have:=z (h+1) j (by omega) i;split at this
     .rename_i g E;exact this
     .rename_i P E;refine⟨this.1,?_⟩;intro L u;rcases Yg.1 u with rfl|u
      .exact p
      .exact this.2 L u
    .rw[Y2 (by rw[p];simp),Y9 B,D];have G:(bA a h).s.e=0:=v.e;exact lS G (e:=7) (a:=l.2) (by omega)
  .rw[Y2 q]at i ⊢;have t:bA a h=bA a (h+1):=by
    rw[nE m];unfold fM;rw[Y2 q];have:(bA a h).w.set h k=(bA a h).w:=by
     have w:=kV m;apply Ch;have x:h<(bA a h).w.length:=by
      unfold bA;simp;omega
     rw[Yd x];rw[List.getD_eq_getElem?_getD,Yd x]at w;simpa using w
    rw[this]
   rw[t];exact z (h+1) j (by omega) i
def hp(a:Z):Z:={ a with w:=a.w.map (fM a) }
def uX(c:Wh d h f b a):match hX b h with
  |.error g=>Er g (nN a)
  |.ok _=>nN a=hp a/\∀e∈h.flatMap kx,eh b e.1=true:=by
 have:=tP c.q c.pd a.w.length 0 (h.flatMap kx) (by omega) (by rw[List.drop_zero,c.q.dY,c.rf]);rw[tC,tB]at this;exact this
end
end Go.Proofs.YtjdhaegijjednaaGreatDoor
namespace Go.Proofs.YtjdhaegijjednaaGreatDoor
open Go.RowKit
open Relation
open Go.Proofs.Tryz
section
variable {P:Nat->Prop}{a:List Bool}{c y:Nat}
variable {σ : Z} {st : St}
def Re(σ:Z)(c y:Nat):Prop:=∃a,σ.w[c]? = some a/\(y:Int)∈dw a
abbrev Sn(a:List Bool)(c:Nat):Prop:=a.getD c false=true
def va{b:Nat}:Sn (a.set b true) y↔Sn a y\/(y=b/\b<a.length):=by
 unfold Sn;by_cases c:b=y
 .subst c;by_cases d:b<a.length
  .simp[d]
  .simp[d]
 .have:¬y=b:=λe=>c e.symm;simp[c,this]
def hq:∀(e:List Int) (a:List Bool) (y:Nat),Sn (hZ e a) y↔Sn a y\/((y:Int)∈e/\y<a.length):=by
 intro e;induction e with
 |nil=>intro a y;simp[hZ]
 |cons c e h=>
  intro a y;have g:hZ (c::e) a=hZ e (if 0<=c then a.set c.toNat true else a):=rfl
  rw[g,h];by_cases f:0<=c
  .rw[Y9 f,va];simp only[YF,Yg];constructor
   .rintro((b|⟨b,d⟩)|⟨b,d⟩)
    .exact Y8 b
    .exact Ya ⟨Y8 (by omega),by omega⟩
    .exact Ya ⟨Ya b,d⟩
   .rintro(b|⟨b|b,d⟩)
    .exact Y8 (Y8 b)
    .exact Y8 (Ya ⟨by omega,by omega⟩)
    .exact Ya ⟨b,d⟩
  .rw[Y2 f];simp only[Yg];constructor
   .rintro(b|⟨b,d⟩)
    .exact Y8 b
    .exact Ya ⟨Ya b,d⟩
   .rintro(b|⟨b|b,d⟩)
    .exact Y8 b
    .omega
    .exact Ya ⟨b,d⟩
def la{a:Nat}(b:a<σ.w.length):σ.w[a]? = some (σ.w.getD a jz):=by simp[b]
def uZ(b:Sn a c):c<a.length:=by
 rcases Yj c a.length with d|d
 .exact d
 .unfold Sn at b;rw[List.getD_eq_getElem?_getD,YA d]at b;cases b
def kZ:∀(c d:Nat) (a:List Bool) (y:Nat),Sn a y->Sn (eC σ c d a) y:=by
 intro c;induction c with
 |zero=>intro d a y b;exact b
 |succ c e=>
  intro d a y b;apply e;split
  .exact(hq _ _ _).2 (Y8 b)
  .exact b
def uC:∀(d b:Nat) (a:List Bool) (c y:Nat),b<=c->c<b+d->Sn a c->Re σ c y->y<a.length->Sn (eC σ d b a) y:=by
 intro d;induction d with
 |zero=>intro b a c y h i;omega
 |succ d m=>
  intro b a c y h i e g f;unfold eC;by_cases l:c=b
  .subst l;apply kZ;rw[Y9 e,hq];obtain⟨n,j,k⟩:=g;right;refine⟨?_,f⟩;rw[List.getD_eq_getElem?_getD,j];exact k
  .apply m (b+1) _ c y (by omega) (by omega) _ g
   .split
    .rw[se];exact f
    .exact f
   .split
    .exact(hq _ _ _).2 (Y8 e)
    .exact e
def uB(h:∀c y,P c->Re σ c y->P y):∀(e b:Nat) (a:List Bool),b+e<=σ.w.length->(∀y,Sn a y->P y)->∀y,Sn (eC σ e b a) y->P y:=by
 intro e;induction e with
 |zero=>intro b a _ d;exact d
 |succ e j=>
  intro b a k d;apply j (b+1) _ (by omega);intro y g;split at g
  .rename_i i;rcases(hq _ _ _).1 g with f|⟨f,-⟩
   .exact d y f
   .exact h b y (d b i) ⟨_,la (by omega),f⟩
  .exact d y g
def uF:∀(b:Nat) (a:List Bool) (y:Nat),Sn a y->Sn (de σ b a) y:=by
 intro b;induction b with
 |zero=>intro a y c;exact c
 |succ b d=>intro a y c;exact d _ _ (kZ _ _ _ _ c)
def nR(e:∀c y,P c->Re σ c y->P y):∀(b:Nat) (a:List Bool),(∀y,Sn a y->P y)->∀y,Sn (de σ b a) y->P y:=by
 intro b;induction b with
 |zero=>intro a d;exact d
 |succ b f=>intro a d;exact f _ (uB e _ _ _ (by omega) d)
def uy:∀(b:Nat) (a:List Bool),(de σ b a).length=a.length:=by
 intro b;induction b with
 |zero=>intro a;rfl
 |succ b c=>intro a;show (de σ b _).length=_;rw[c,uA]
def dt:List Bool->Nat
 |[]=>0
 |b::a=>(if b then 1 else 0)+dt a
def qa(a:List Bool):dt a<=a.length:=by
 induction a with
 |nil=>exact Y4 _
 |cons b a c=>simp only[dt,YC];split<;>omega
def qc:∀(a b:List Bool),a.length=b.length->(∀y,Sn a y->Sn b y)->a≠b->dt a+1<=dt b:=by
 intro a;induction a with
 |nil=>intro b d _ e;exact absurd (Yv.1 d.symm).symm e
 |cons c a n=>
  intro b d g e;cases b with
  |nil=>simp at d
  |cons f b=>
   have k:a.length=b.length:=by simpa using d
   have l:∀y,Sn a y->Sn b y:=λy m=>g (y+1) m;have h:c=true->f=true:=λj=>g 0 (show (c::a).getD 0 false=true from j);simp only[dt];by_cases i:a=b
   .subst i;cases c with
    |true=>exact absurd (by rw[h rfl]) e
    |false=>
     cases f with
     |true=>simp;omega
     |false=>exact absurd rfl e
   .have o:=n b k l i;cases c with
    |true=>rw[h rfl];simp;omega
    |false=>simp;omega
def uG(c:eC σ σ.w.length 0 a=a):∀b,de σ b a=a:=by
 intro b;induction b with
 |zero=>rfl
 |succ b d=>show de σ b (eC σ σ.w.length 0 a)=a;rw[c];exact d
def uE:∀(b:Nat) (a:List Bool),eC σ σ.w.length 0 (de σ b a)=de σ b a\/dt a+b<=dt (de σ b a):=by
 intro b;induction b with
 |zero=>intro a;exact Ya (Y4 _)
 |succ b g=>
  intro a;by_cases c:eC σ σ.w.length 0 a=a
  .left;rw[uG c];exact c
  .have h:=qc a (eC σ σ.w.length 0 a) (uA _ _ _ _).symm (λy f=>kZ _ _ _ _ f) (λe=>c e.symm);rcases g (eC σ σ.w.length 0 a)with d|d
   .exact Y8 d
   .right;show dt a+(b+1)<=dt (de σ b _);omega
def qd(b:Sn a y):1<=dt a:=by
 induction a generalizing y with
 |nil=>cases b
 |cons c a d=>
  cases y with
  |zero=>
   have:c=true:=b;subst this;simp[dt]
  |succ y=>have:=d (y:=y) b;simp only[dt];omega
def uD(h:a.length=σ.w.length)(e:Sn (de σ σ.w.length a) c)(g:Re σ c y)(b:y<σ.w.length):Sn (de σ σ.w.length a) y:=by
 have f:=uy (σ:=σ) σ.w.length a;have i:eC σ σ.w.length 0 (de σ σ.w.length a)=de σ σ.w.length a:=by
  rcases uE (σ:=σ) σ.w.length a with d|d
  .exact d
  .have k:=qa (de σ σ.w.length a);have j:∀y,¬Sn a y:=λy b=>by have:=qd b;omega
   exfalso;exact nR (σ:=σ) (P:=λ_=>False) (λ_ _ d _=>d) σ.w.length a (λy b=>j y b) c e
 rw[<-i];exact uC _ _ _ c y (YV _) (by have:=uZ e;omega) e g (by rw[f,h];exact b)
def nL(e:lO σ)(a:Re σ c y):y<σ.w.length:=by
 obtain⟨f,b,d⟩:=a;have:=(e f (Yh b)).2 y d;omega
def zH(h:lO σ){r:Nat}(g:r<σ.w.length):qI σ r=true↔TransGen (Re σ) r r:=by
 have k:(hZ (dw (σ.w.getD r jz)) (List.replicate σ.w.length false)).length=σ.w.length:=by rw[se];simp
 have j:∀y,¬Sn (List.replicate σ.w.length false) y:=λy a=>by
  unfold Sn at a;rw[List.getD_eq_getElem?_getD]at a;cases e:(List.replicate σ.w.length false)[y]? with
  |none=>rw[e]at a;cases a
  |some o=>
   rw[e]at a;have:=Yh e;rw[List.eq_of_mem_replicate this]at a;cases a
 constructor
 .intro d;refine nR (σ:=σ) (P:=λy=>TransGen (Re σ) r y) (λc y m a=>TransGen.tail m a) σ.w.length _ ?_ r d;intro y a;rcases(hq _ _ _).1 a with b|⟨b,-⟩
  .exact absurd b (j y)
  .exact TransGen.single ⟨_,la g,b⟩
 .intro d;have all:∀y,TransGen (Re σ) r y->Sn (de σ σ.w.length (hZ (dw (σ.w.getD r jz)) (List.replicate σ.w.length false))) y:=by
   intro y a;induction a with
   |single b=>
    apply uF;rw[hq];right;have l:=nL h b;obtain⟨p,f,i⟩:=b;rw[la g]at f;cases f
    exact⟨i,by simpa using l⟩
   |tail _ b n=>exact uD k n b (nL h b)
  exact all r d
def Ne(st:St)(c b:List UInt8):Prop:=∃a,(b,a)∈mU st c
def Kw(st:St)(a:List UInt8):Prop:=a∈st.A.map (·.1)
def wg{b d:List (List UInt8)}(f:∀c∈b,c∈d):eK st d<=eK st b:=by
 unfold eK;induction st.A with
 |nil=>simp
 |cons e i h=>
  rw[List.countP_cons,List.countP_cons];have:(!d.contains e.1)=true->(!b.contains e.1)=true:=by
   intro a;simp only[Bool.not_eq_true',List.contains_eq_mem,decide_eq_false_iff_not]at a ⊢;exact λg=>a (f _ g)
  split
  .rename_i a;rw[Y9 (this a)];omega
  .split<;>omega
def oG{b:List (List UInt8)}{c:List UInt8}(k:c ∉ b)(d:Kw st c):eK st (b++[c])+1<=eK st b:=by
 unfold eK Kw at *
 revert d;induction st.A with
 |nil=>intro d;simp at d
 |cons a h m=>
  intro d;have n:h.countP (λa=>!(b++[c]).contains a.1)<=h.countP (λa=>!b.contains a.1):=by
   apply List.countP_mono_left;intro o _ g;simp only[Bool.not_eq_true',List.contains_eq_mem,decide_eq_false_iff_not]at g ⊢;exact λl=>g (Yf _ l)
  rw[List.countP_cons,List.countP_cons];by_cases f:a.1=c
  .have e:(!(b++[c]).contains a.1)=false:=by simp[f]
   have i:(!b.contains a.1)=true:=by simp[f,k]
   rw[e,i];simp only[Ye,if_false,if_true]
   omega
  .have:=m (by
    rw[List.map_cons,Yg]at d;rcases d with e|e
    .exact absurd e.symm f
    .exact e)
   have j:(!(b++[c]).contains a.1)=(!b.contains a.1):=by simp[f]
   rw[j];omega
structure Fo(st:St)(src:List UInt8->Prop)(t R:List (List UInt8)):Prop where
 a3:∀c∈t,c∈R
 fC:∀n,src n->n∈R
 f4:∀c∈R,c∈t\/∃n,src n/\(c=n\/TransGen (Ne st) n c)
 cl:∀c∈R,c ∉ t->∀y,Ne st c y->y∈R
def mI{k:Nat}(u:∀b a,Kw st b->eK st a<=k->Fo st (λd=>d=b) a (follow st k b a)):∀(j:List (List UInt8×Nat)) (a:List (List UInt8)),(∀d∈j,Kw st d.1)->eK st a<=k->Fo st (λb=>∃h,(b,h)∈j) a (j.foldl (λa d=>follow st k d.1 a) a):=by
 intro j;induction j with
 |nil=>intro a _ _;exact⟨λc e=>e,λb e=>(by obtain⟨h,e⟩:=e;cases e),λc e=>Y8 e,λc e f=>absurd e f⟩
 |cons d j w=>
  intro a n o;have l:=u d.1 a (n d (by simp)) o;have f:=w (follow st k d.1 a) (λc g=>n c (by simp[g])) (Yz (wg l.a3) o);refine⟨λc g=>f.a3 c (l.a3 c g),?_,?_,?_⟩
  .rintro b ⟨h,m⟩;rcases Yg.1 m with q|m
   .exact f.a3 b (l.fC b (by rw[<-q]))
   .exact f.fC b ⟨h,m⟩
  .intro c g;rcases f.f4 c g with i|⟨b,⟨h,i⟩,r⟩
   .rcases l.f4 c i with s|⟨b,rfl,t⟩
    .exact Y8 s
    .exact Ya ⟨d.1,⟨d.2,by simp⟩,t⟩
   .exact Ya ⟨b,⟨h,by simp[i]⟩,r⟩
  .intro c g v y p;by_cases i:c∈follow st k d.1 a
   .exact f.a3 y (l.cl c i v y p)
   .exact f.cl c g i y p
def rh(q:∀a e,Ne st a e->Kw st e):∀(k:Nat) (a:List UInt8) (f:List (List UInt8)),Kw st a->eK st f<=k->Fo st (λe=>e=a) f (follow st k a f):=by
 intro k;induction k with
 |zero=>
  intro a f m r;have:a∈f:=by
   rcases Classical.em (a∈f)with b|b
   .exact b
   .have:=oG b m;omega
  exact⟨λc b=>b,λe g=>by subst g;exact this,λc b=>Y8 b,λc b d=>absurd b d⟩
 |succ k t=>
  intro a f m r;unfold follow;by_cases j:a∈f
  .rw[Y9 (by simpa using j)];exact⟨λc b=>b,λe g=>by subst g;exact j,λc b=>Y8 b,λc b d=>absurd b d⟩
  .rw[Y2 (by simpa using j)];have h:=mI (k:=k) (λa f h d=>t a f h d) (mU st a) (f++[a]) (λe g=>q a e.1 ⟨e.2,g⟩) (by have:=oG j m;omega);refine⟨λc i=>h.a3 c (Yf _ i),λe g=>by subst g;exact h.a3 _ (by simp),?_,?_⟩
   .intro c i;rcases h.f4 c i with d|⟨e,g,l⟩
    .rcases Yn.1 d with d|d
     .exact Y8 d
     .simp at d;exact Ya ⟨a,rfl,Y8 d⟩
    .right;refine⟨a,rfl,Ya ?_⟩;have n:Ne st a e:=g;rcases l with rfl|l
     .exact TransGen.single n
     .exact TransGen.trans (TransGen.single n) l
   .intro c i s y p;by_cases o:c=a
    .subst o;exact h.fC y p
    .exact h.cl c i (by simp[s,o]) y p
def BV(m:∀j a,Ne st j a->Kw st a){d:ah}(n:mU st (aT d).1=cX d):gq st d=true↔TransGen (Ne st) (aT d).1 (aT d).1:=by
 unfold gq;have i:∀a c,(a,c)∈cX d->Ne st (aT d).1 a:=λa c e=>⟨c,by rw[n];exact e⟩;have f:=mI (k:=eK st []) (λj l f b=>rh m _ j l f b) (cX d) [] (λa h=>m _ _ (i a.1 a.2 h)) (Y4 _);generalize (cX d).foldl (λl a=>follow st (eK st []) a.1 l) []=o at *
 rw[List.contains_iff_mem];constructor
 .intro e;rcases f.f4 _ e with b|⟨a,⟨c,h⟩,g⟩
  .cases b
  .rcases g with g|g
   .rw[<-g]at h;exact TransGen.single (i _ _ h)
   .exact TransGen.trans (TransGen.single (i _ _ h)) g
 .intro e;have all:∀y,TransGen (Ne st) (aT d).1 y->y∈o:=by
   intro y p;induction p with
   |single b=>
    obtain⟨c,b⟩:=b;rw[n]at b;exact f.fC _ ⟨c,b⟩
   |tail _ b q=>exact f.cl _ q (by simp) _ b
  exact all _ e
end
section
variable {r:bl}{b y:Nat}
variable {f : List UInt8} {st : St} {a : Z} {c : aV} {e : List ah}
def lG(st:St)(e:List ah):Prop:=∀a∈e.flatMap kx,eh st a.1=true
structure Ty1(f:List UInt8)(st:St)(c:aV)(a:Z)(n:List UInt8)(d:ah)(r:bl):Prop where
 ak:ak st.A n=some (some d)
 ty:fa d=true
 y:∃i:Nat,c.nl[i]? = some (n,some d)/\a.A[i]? = some r
 az:r.az=1
 b4:fe a n=r
 k8:hH a.w c.nl d r.n
 k1:0<=r.n/\r.n<a.w.length
 h0:(aT d).1=n
 place:r.y=(aT d).2
def Wh.lW(b:Wh f e c st a){k:List UInt8}(n:eh st k=true):∃d r,Ty1 f st c a k d r:=by
 rcases wa b.q b.pd k with⟨-,t,d,r,g,m,h,i,j,s,-⟩|⟨g,-⟩
 .obtain⟨u,l,-,-,o,p⟩:=b.q.az h i j;simp only[Yu]at l;subst l;exact⟨d,r,g,m,⟨t,h,i⟩,j,s,p,b.dI r (Yh i) j,b.h0 _ (Yh h) d rfl m,o⟩
 .rw[g]at n;cases n
abbrev rowOf(a:Z)(b:List UInt8):Nat:=(fe a b).n.toNat
def Ty1.leads{d:List UInt8}{b:ah}(e:Ty1 f st c a d b r):mU st d=cX b:=by
 unfold mU;rw[e.look]
def Wh.ne(j:Wh f e c st a)(l:lG st e){i:List UInt8}{g:List UInt8×Nat}(b:g∈mU st i):eh st g.1=true:=by
 unfold mU at b;cases d:ak st.A i with
 |none=>rw[d]at b;cases b
 |some m=>
  cases m with
  |none=>rw[d]at b;cases b
  |some h=>
   rw[d]at b;rcases j.ti.nm i h d with k|⟨n,o,v,rfl⟩
   .exact l g (List.mem_flatMap.2 ⟨h,k,rO h g b⟩)
   .simp[cX]at b
def tyB_kw{c:List UInt8}(a:eh st c=true):Kw st c:=by
 unfold eh ak at a;cases b:st.A.find? (λf=>f.1==c)with
 |none=>rw[b]at a;cases a
 |some g=>
  have d:=List.mem_of_find?_eq_some b;have e:=List.find?_some b;exact YE.2 ⟨g,d,by simpa using e⟩
def re_ref{c:aG}(e:a.w[b]? = some c)(d:c.kind=14)(f:(y:Int)=(fe a c.name).n):Re (hp a) b y:=by
 refine⟨fM a c,?_,?_⟩
 .show (a.w.map (fM a))[b]? = _;rw[List.getElem?_map,e];rfl
 .unfold fM;simp[dw,d,f]
def re_row{c:aG}(e:a.w[b]? = some c)(d:c.kind≠14)(f:(y:Int)∈dw c):Re (hp a) b y:=by
 refine⟨fM a c,?_,?_⟩
 .show (a.w.map (fM a))[b]? = _;rw[List.getElem?_map,e];rfl
 .unfold fM;rw[Y2 d];exact f
def re_inv(i:Re (hp a) b y):∃d,a.w[b]? = some d/\((d.kind=14/\(y:Int)=(fe a d.name).n)\/(d.kind≠14/\(y:Int)∈dw d)):=by
 obtain⟨d,c,e⟩:=i;have c:(a.w.map (fM a))[b]? = some d:=c;rw[List.getElem?_map]at c;cases g:a.w[b]? with
 |none=>rw[g]at c;cases c
 |some h=>
  rw[g]at c;simp only[Option.map_some,Yu]at c;subst c;refine⟨h,rfl,?_⟩;unfold fM at e;by_cases f:h.kind=14
  .left;simp[dw,f]at e;exact⟨f,e⟩
  .right;rw[Y2 f]at e;exact⟨f,e⟩
def Wh.down(s:Wh f e c st a):∀{h:Ty} {b:Int} {g:List UInt8×Nat},ep a.w h b->g∈jG h->eh st g.1=true->0<=b/\TransGen (Re (hp a)) b.toNat (rowOf a g.1):=by
 intro h;induction h with
 |plain z=>intro b g _ d;simp[jG]at d
 |named B v=>
  rintro b g ⟨j,A,k,l,m,-⟩ d n;simp[jG]at d;subst d;obtain⟨w,r,q⟩:=s.lW n;refine⟨j,TransGen.single (re_ref k l ?_)⟩;rw[m];unfold rowOf;have:=q.k1;rw[q.name];omega
 |opaq p i=>intro b g _ d;simp[jG]at d
 |str p i=>intro b g _ d;simp[jG]at d
 |arr u p i o=>
  rintro b g ⟨j,t,k,l⟩ d n;cases i with
  |false=>simp[jG]at d
  |true=>
   obtain⟨x,m⟩:=o l d n;refine⟨j,TransGen.trans (TransGen.single (re_row (y:=t.toNat) k (by simp[fJ]) ?_)) m⟩;simp[dw,fJ];omega
 |opt u o=>intro b g _ d;simp[jG]at d
 |void=>intro b g _ d;simp[jG]at d
def Wh.edge(o:Wh f e c st a){w:List UInt8}{h:ah}(z:Ty1 f st c a w h r){x:List UInt8×Nat}(b:x∈cX h)(q:eh st x.1=true):TransGen (Re (hp a)) (rowOf a w) (rowOf a x.1):=by
 have L:rowOf a w=r.n.toNat:=by unfold rowOf;rw[z.name]
 rw[L];have k:=z.k8;cases h with
 |const m n g=>exact k.elim
 |prog m n g h=>exact k.elim
 |eJ h=>exact(o.down k.1 b q).2
 |enum m n g=>simp[cX]at b
 |struct m n O=>
  obtain⟨F,l,p,s,t⟩:=k;simp only[cX,List.mem_flatMap]at b;obtain⟨M,J,b⟩:=b;obtain⟨d,j⟩:=List.mem_iff_getElem?.1 J;have u:d<l.length:=by rw[s];exact fG j
  have v:=Yd u;obtain⟨g1,i⟩:=o.down (t d _ M v j) b q;refine TransGen.trans (TransGen.single (re_row (y:=(l[d]).toNat) p (by simp) ?_)) i;simp only[dw];rw[Int.toNat_of_nonneg g1];simp
 |union m n P D=>
  obtain⟨F,of,l,E,p,-,s,t,A,G⟩:=k;simp only[cX,List.mem_flatMap]at b;obtain⟨a0,B,b⟩:=b;by_cases C:a0.1=[]
  .have I:=G a0 B C;rw[I]at A;obtain⟨g1,i⟩:=o.down A b q;refine TransGen.trans (TransGen.single (re_row (y:=E.toNat) p (by simp) ?_)) i;simp only[dw];rw[Int.toNat_of_nonneg g1];simp
  .obtain⟨g,N,H⟩:=List.exists_cons_of_ne_nil C;have K:(g,a0.2)∈kc D:=List.mem_flatMap.2 ⟨a0,B,YE.2 ⟨g,by rw[H];simp,rfl⟩⟩;obtain⟨d,j⟩:=List.mem_iff_getElem?.1 K;have u:d<l.length:=by rw[s];exact fG j
   have v:=Yd u;obtain⟨g1,i⟩:=o.down (t d _ _ v j) b q;refine TransGen.trans (TransGen.single (re_row (y:=(l[d]).toNat) p (by simp) ?_)) i;simp only[dw];rw[Int.toNat_of_nonneg g1];simp
def Wh.path(d:Wh f e c st a)(k:lG st e){j:List UInt8}(o:eh st j=true){i:List UInt8}(p:TransGen (Ne st) j i):eh st i=true/\TransGen (Re (hp a)) (rowOf a j) (rowOf a i):=by
 induction p with
 |single b=>
  obtain⟨m,b⟩:=b;have g:=d.ne k b;obtain⟨n,r,h⟩:=d.lW o;rw[h.leads]at b;exact⟨g,d.edge h b g⟩
 |tail _ b l=>
  obtain⟨m,b⟩:=b;have g:=d.ne k b;obtain⟨n,r,h⟩:=d.lW l.1;rw[h.leads]at b;exact⟨g,TransGen.trans l.2 (d.edge h b g)⟩
def InT(st:St)(a:Z)(c:List UInt8)(b:Nat):Prop:=b=rowOf a c\/∃d,ep a.w d b/\∀e∈jG d,e∈mU st c
def base_leads(g:Q f c st a){e:aG}(d:a.w[b]? = some e)(i:b<5):e.kind≠14/\dw e=[]:=by
 obtain⟨j,h⟩:=g.d2;rw[h,Ys (by simp[gY];omega)]at d;have:b=0\/b=1\/b=2\/b=3\/b=4:=by omega
 rcases this with rfl|rfl|rfl|rfl|rfl<;>(simp[gY]at d;subst d;exact⟨by simp,rfl⟩)
def Wh.rep_step(E:Wh f e c st a){k:List UInt8}{t:Ty}(h:ep a.w t (b:Int))(x:∀s∈jG t,s∈mU st k)(G:Re (hp a) b y) :
  (∃p,Ne st k p/\(y:Int)=(fe a p).n)\/(InT st a k y/\∃(b:Nat) (l:aG),a.w[b]? = some l/\l.kind≠14/\(y:Int)∈dw l):=by
 obtain⟨l,i,g⟩:=re_inv G;have o:((b:Int)).toNat=b:=by simp
 have m:l.kind≠14->dw l=[]->False:=λB C=>by
  rcases g with⟨g,-⟩|⟨-,g⟩
  .exact B g
  .rw[C]at g;cases g
 cases t with
 |plain K=>
  have I:=h.1;have J:=h.2;have v:=base_leads E.q i (by omega);exact(m v.1 v.2).elim
 |named p u=>
  obtain⟨-,L,g1,r,D,-⟩:=h;rw[o,i]at g1;cases g1
  rcases g with⟨-,j⟩|⟨j,-⟩
  .left;exact⟨p,⟨u,x (p,u) (by simp[jG])⟩,by rw[j,D]⟩
  .exact absurd r j
 |opaq k n=>
  have d:=h.2;rw[o,i]at d;cases d
  exact(m (by cases n<;>simp[iq]) (by cases n<;>rfl)).elim
 |str k n=>
  have d:=h.2;rw[o,i]at d;cases d
  exact(m (by simp[iq]) rfl).elim
 |arr A k n=>
  obtain⟨-,z,d,r⟩:=h;rw[o,i]at d;cases d
  cases n with
  |false=>exact(m (by simp[fJ]) rfl).elim
  |true=>
   rcases g with⟨j,-⟩|⟨j,w⟩
   .simp[fJ]at j
   .right;have H:(y:Int)=z:=by simpa[dw,fJ]using w
    exact⟨Ya ⟨A,by rw[H];exact r,λs F=>x s (by simpa[jG]using F)⟩,b,_,i,j,w⟩
 |opt A=>
  obtain⟨-,z,d,r⟩:=h;rw[o,i]at d;cases d
  exact(m (by simp[fJ]) rfl).elim
 |void=>have:(b:Int) = -1:=h;omega
def Wh.in_step(B:Wh f e c st a){p:List UInt8}(a4:eh st p=true)(a2:InT st a p b)(G:Re (hp a) b y) :
  (∃P,Ne st p P/\(y:Int)=(fe a P).n)\/(InT st a p y/\∃(b:Nat) (x:aG),a.w[b]? = some x/\x.kind≠14/\(y:Int)∈dw x):=by
 rcases a2 with rfl|⟨a8,i,a6⟩
 .obtain⟨q,r,z⟩:=B.lW a4;have O:rowOf a p=r.n.toNat:=by unfold rowOf;rw[z.name]
  have a5:((rowOf a p:Nat):Int)=r.n:=by rw[O];have:=z.k1;omega
  have w:=z.leads;have i:=z.k8;obtain⟨x,o,C⟩:=re_inv G;rw[O]at o;cases q with
  |const n u A=>exact i.elim
  |prog n u A q=>exact i.elim
  |eJ q=>exact B.rep_step (by rw[a5];exact i.1) (λJ l=>by rw[w];exact l) G
  |enum n u A=>
   have d:=i.2;rw[o]at d;cases d
   rcases C with⟨k,-⟩|⟨-,k⟩
   .simp at k
   .simp[dw]at k
  |struct n u I=>
   obtain⟨S,K,d,k,D⟩:=i;rw[o]at d;cases d
   rcases C with⟨g,-⟩|⟨g,L⟩
   .simp at g
   .right;have m:(y:Int)∈K:=by simpa[dw]using L
    obtain⟨j,s⟩:=List.mem_iff_getElem?.1 m;have v:j<I.length:=by rw[<-k];exact fG s
    refine⟨Ya ⟨I[j].ty,D j _ _ s (Yd v),λJ l=>?_⟩,_,_,o,g,L⟩;rw[w];exact List.mem_flatMap.2 ⟨I[j],Yy v,l⟩
  |union n u a7 t=>
   obtain⟨S,of,K,R,d,-,k,D,g,-⟩:=i;rw[o]at d;cases d
   rcases C with⟨E,-⟩|⟨E,M⟩
   .simp at E
   .right;refine⟨?_,_,_,o,E,M⟩;have m:(y:Int)∈K\/(y:Int)=R:=by simpa[dw]using M
    rcases m with m|m
    .obtain⟨j,s⟩:=List.mem_iff_getElem?.1 m;have v:j<(kc t).length:=by rw[<-k];exact fG s
     obtain⟨H,N⟩:∃H,(kc t)[j]? = some H:=⟨_,Yd v⟩;refine Ya ⟨H.2.ty,D j _ _ s N,λJ l=>?_⟩;rw[w];obtain⟨a0,a1,a3⟩:=List.mem_flatMap.1 (Yh N);obtain⟨A,-,rfl⟩:=YE.1 a3;exact List.mem_flatMap.2 ⟨a0,a1,l⟩
    .cases h:ky t with
     |none=>rw[h]at g;simp only at g;omega
     |some q=>
      rw[h]at g;refine Ya ⟨q.ty,by rw[m];exact g,λJ l=>?_⟩;rw[w];unfold ky at h;cases F:t.find? (λn=>n.1.isEmpty)with
      |none=>rw[F]at h;cases h
      |some a0=>
       rw[F]at h;simp at h;subst h;exact List.mem_flatMap.2 ⟨a0,List.mem_of_find?_eq_some F,l⟩
 .exact B.rep_step i a6 G
def Wh.up(p:Wh f e c st a)(s:lG st e){g:List UInt8}(u:eh st g=true)(v:TransGen (Re (hp a)) (rowOf a g) y) :
  (∃h,TransGen (Ne st) g h/\eh st h=true/\y=rowOf a h)\/(∃d,(d=g\/TransGen (Ne st) g d)/\eh st d=true/\InT st a d y/\∃(b:Nat) (i:aG),a.w[b]? = some i/\i.kind≠14/\(y:Int)∈dw i):=by
 have o:∀{d:List UInt8} {b y:Nat},(d=g\/TransGen (Ne st) g d)->eh st d=true->InT st a d b->Re (hp a) b y->
   (∃h,TransGen (Ne st) g h/\eh st h=true/\y=rowOf a h)\/(∃d,(d=g\/TransGen (Ne st) g d)/\eh st d=true/\InT st a d y/\∃(b:Nat) (i:aG),a.w[b]? = some i/\i.kind≠14/\(y:Int)∈dw i):=by
  intro d b y m q t w;rcases p.in_step q t w with⟨h,l,A⟩|⟨j,k⟩
  .left;refine⟨h,?_,?_,?_⟩
   .rcases m with rfl|m
    .exact TransGen.single l
    .exact TransGen.tail m l
   .obtain⟨z,l⟩:=l;exact p.ne s l
   .unfold rowOf;omega
  .exact Ya ⟨d,m,q,j,k⟩
 induction v with
 |single j=>exact o (Y8 rfl) u (Y8 rfl) j
 |tail _ j x=>
  rcases x with⟨h,k,n,rfl⟩|⟨d,k,n,r,-⟩
  .exact o (Ya k) n (Y8 rfl) j
  .exact o k n r j
def first_of{b:Type}{r:b->b->Prop}{c d:b}(a:TransGen r c d):∃e,r c e:=by
 induction a with
 |single a=>exact⟨_,a⟩
 |tail _ _ f=>exact f
def Wh.cycle(g:Wh f e c st a)(o:lG st e){d:List UInt8}(m:eh st d=true):TransGen (Re (hp a)) (rowOf a d) (rowOf a d)↔TransGen (Ne st) d d:=by
 constructor
 .intro j;obtain⟨F,r,k⟩:=g.lW m;have I:rowOf a d=r.n.toNat:=by unfold rowOf;rw[k.name]
  have H:5<=rowOf a d:=by
   rcases Yj (rowOf a d) 5 with i|i
   .exfalso;obtain⟨E,A⟩:=first_of j;obtain⟨w,g1,h⟩:=re_inv A;obtain⟨x,y⟩:=base_leads g.q g1 i;rcases h with⟨h,-⟩|⟨-,h⟩
    .exact x h
    .rw[y]at h;cases h
   .exact i
  obtain⟨s,B,i2⟩:=k.y;rcases g.up o m j with⟨D,i,l,n⟩|⟨K,-,-,-,b,w,l,n,z⟩
  .obtain⟨G,v,t2⟩:=g.lW l;obtain⟨t,u,C⟩:=t2.y;have J:rowOf a D=v.n.toNat:=by unfold rowOf;rw[t2.name]
   by_cases p:s=t
   .subst p;rw[B]at u;cases u
    exact i
   .exfalso;have:=g.ij s t r v i2 C p k.az t2.az (by omega);omega
  .exfalso;exact g.tr b w l n _ z (by omega) r (Yh i2) k.az (by omega)
 .intro j;exact(g.path o m j).2
def Wh.ld(g:Wh f e c st a)(v:lG st e):lO (hp a):=by
 intro r m;have m:r∈a.w.map (fM a):=m;obtain⟨n,h⟩:=List.mem_iff_getElem?.1 m;rw[List.getElem?_map]at h;cases i:a.w[n]? with
 |none=>rw[i]at h;cases h
 |some j=>
  rw[i]at h;simp only[Option.map_some,Yu]at h;subst h;have w:(hp a).w.length=a.w.length:=by show (a.w.map _).length=_;simp
  have B:=fG i;have A:=g.rn.c8;have s:=g.rn.d0 j (Yh i);have k:=g.q.dH n j i;rw[w];unfold fM;by_cases l:j.kind=14
  .rw[Y9 l];refine⟨s.2,λb d=>?_⟩;simp[dw,l]at d;subst d;have p:(j.name,j.y)∈eA a.w:=by
    unfold eA;rw[List.mem_filterMap];exact⟨j,Yh i,by rw[Y9 l]⟩
   rw[g.q.dY,g.rf]at p;obtain⟨y,x,o⟩:=YE.1 p;simp only[Prod.mk.injEq]at o;have t:=v y x;rw[o.1]at t;obtain⟨z,r,u⟩:=g.lW t;rw[u.name];exact u.k1.2
  .rw[Y2 l];refine⟨s.2,λb d=>?_⟩;have:b<(max n 5:Nat):=by
    unfold dw at d;split at d
    .simp at d;subst d;exact k.1
    .split at d
     .exact k.2.1 b d
     .split at d
      .rcases Yn.1 d with d|d
       .exact k.2.1 b d
       .simp at d;subst d;exact k.2.2.1
      .cases d
   omega
def Wh.j6(h:Wh f e c st a)(i:lG st e){g:List UInt8}{d:ah}(b:Ty1 f st c a g d r)(o:eh st g=true):qI (hp a) r.n.toNat=gq st d:=by
 have n:(hp a).w.length=a.w.length:=by show (a.w.map _).length=_;simp
 have s:=b.k1;have m:=zH (h.ld i) (r:=r.n.toNat) (by rw[n];omega);have k:=BV (st:=st) (λg t j=>by obtain⟨q,j⟩:=j;exact tyB_kw (h.ne i j)) (d:=d) (by rw[b.h0];exact b.leads);have l:=h.cycle i o;have p:rowOf a g=r.n.toNat:=by unfold rowOf;rw[b.name]
 rw[b.h0]at k;rw[p]at l;rw[Bool.eq_iff_iff,m,k,l]
end
end Go.Proofs.YtjdhaegijjednaaGreatDoor
namespace Go.Proofs.YtjdhaegijjednaaGreatDoor
open Go.RowKit
open Go.Proofs.Tryz
section
variable {t : List UInt8} {st k : St} {a g : Z} {c j : aV} {f : Mar.aD} {b : List ah} {d : ah} {h i : Nat}
def eO(t:List UInt8)(h:Nat)(a:Z):Prop:=∃b c st,Wh t b c st a/\ce (aH t) 69 [] bR=ce (aH t) (69-b.length) b st/\b.length=h
def lI(t:List UInt8)(a:Z):Prop:=∃f,ce (aH t) 69 [] bR=.error f/\Er f a
def Ap(t:List UInt8):eO t 0 (start t):=⟨[],gg,bR,ws t,rfl,rfl⟩
def xF(b:eO t h a):a.s.e=0:=by obtain⟨_,_,_,b,_⟩:=b;exact b.q.e
def eO.le(d:eO t h a):h<=68:=by
 obtain⟨b,c,st,d,-,rfl⟩:=d;have e:=d.ti.ty;have f:=d.ti.co;have g:=d.ti.pr;have i:=d.ti.et;omega
def xG(b:eO t h a):aB a/\Rn a:=by obtain⟨_,_,_,b,_⟩:=b;exact⟨b.dI,b.rn⟩
def Wh.d6{f:Mar.aN}{e:Nat}(d:Wh t b c st a)(g:cf t st.y st.nx=.ok (f,e)):Wh t b c { st with y:=e,nx:=some f } a:=
 ⟨d.q.d6 g,d.pd,d.dc,d.fz,d.o,d.ps,d.rf,d.nl,d.g0,d.h0,d.ij,d.tr,d.dI,d.rn,⟨d.ti.ty,d.ti.co,d.ti.pr,d.ti.et,d.ti.nm⟩⟩
def xH(g:eO t h a)(v:a.s.x.F≠0):eO t (h+1) (bg t a)\/lI t (bg t a):=by
 have z:=g.le;obtain⟨b,c,st,g,i,rfl⟩:=g;rw[show 69-b.length=(68-b.length)+1 by omega]at i;rcases pk t st with⟨q,w,e⟩|⟨f,e⟩
 .have o:=g.q.wd;rw[e]at o;have p:((q.F:Int)==0)=false:=by
   rw[o.1.1]at v;simp;omega
  have k:=g.d6 e;have n:=uU k.q k.pd k.dc;cases m:dv (aH t) { st with y:=w,nx:=some q }with
  |error f=>
   rw[jc m]at n;exact Ya ⟨f,by rw[i];exact vN (hk e) p m,n⟩
  |ok y=>
   obtain⟨d,A⟩:=y;obtain⟨j,u⟩:=k.cE (mH m);left;refine⟨b++[d],j,_,u,?_,by simp⟩;rw[i,vQ (hk e) p m];congr 1;simp<;>omega
 .have l:=g.q.bd e;right;refine⟨f,by rw[i];exact vP (js e),?_⟩;have r:bg t a=bK a:=by
   unfold bg;rw[Y2 (by rw[l.is (by omega)];simp),Y2 (by rw[l.is (by omega)];simp),Y9 (Y8 (by rw[l.k];omega))]
  rw[r];exact l.fs
def eO.fin(d:eO t h a)(g:a.s.x.F=0):∃b c st,Wh t b c st a/\ce (aH t) 69 [] bR=.ok (b,st):=by
 have l:=d.le;obtain⟨b,c,st,d,i,rfl⟩:=d;rw[show 69-b.length=(68-b.length)+1 by omega]at i;rcases pk t st with⟨n,m,e⟩|⟨f,e⟩
 .have j:=d.q.wd;rw[e]at j;refine⟨b,c,_,d.d6 e,?_⟩;rw[i];exact vO (hk e) (by rw[j.1.1]at g;rw[g];rfl)
 .have k:=d.q.bd e;rw[k.k]at g;cases g
def er(t:List UInt8)(i:Nat)(g:Z):Prop:=
 (∃b c st a,g=hp a/\Wh t b c st a/\lG st b/\eH (aH t)=(match bF st ((c.nl.drop i).filterMap dR)with|.error f=>.error f|.ok _=>.ok b))\/(∃f,eH (aH t)=.error f/\Er f g)
def ox(c:t.length<=1200):eH (aH t)=match ce (aH t) 69 [] bR with
  |.error f=>.error f
  |.ok (b,a)=>match hX a b with
   |.error f=>.error f
   |.ok _=>match bF a b with
    |.error f=>.error f
    |.ok _=>.ok b:=by
 unfold eH;rw[Y2 (by show ¬1200<t.length;omega)];rfl
def qG(st:St)(b:List ah):bF st b=bF st (b.filter fa):=by
 induction b with
 |nil=>rfl
 |cons d b g=>
  cases a:fa d with
  |true=>
   rw[List.filter_cons_of_pos (by simpa using a)];unfold bF;rw[g]
  |false=>
   rw[List.filter_cons_of_neg (by simp[a])];conv=>lhs;unfold bF
   have:gq st d=false:=by
    unfold gq;have:cX d=[]:=by
     cases d with
     |const c e f=>rfl
     |prog c e f d=>rfl
     |typedef d=>cases a
     |enum c e f=>cases a
     |struct c e f=>cases a
     |union c e f d=>cases a
    rw[this];rfl
   rw[this];exact g
def CP(j:t.length<=1200)(g:Wh t b c st a)(i:ce (aH t) 69 [] bR=.ok (b,st)):er t 0 (nN a):=by
 have e:=uX g;have d:=ox (t:=t) j;rw[i]at d;simp only at d;cases h:hX st b with
 |error f=>
  rw[h]at e d;exact Ya ⟨f,d,e⟩
 |ok k=>
  rw[h]at e d;refine Y8 ⟨b,c,st,a,e.1,g,e.2,?_⟩;rw[List.drop_zero,g.nl,<-qG];exact d
def CO(g:t.length<=1200)(d:lI t a)(i:Nat):er t i a:=by
 obtain⟨f,c,e⟩:=d;have b:=ox (t:=t) g;rw[c]at b;exact Ya ⟨f,b,e⟩
def er.ok(d:er t i g)(h:g.s.e=0):∃b c st a,g=hp a/\Wh t b c st a/\lG st b/\eH (aH t)=(match bF st ((c.nl.drop i).filterMap dR)with|.error f=>.error f|.ok _=>.ok b):=by
 rcases d with d|⟨f,-,d⟩
 .exact d
 .exact absurd h d.e4
def er.row(d:er t i g)(j:g.s.e=0){r:bl}(l:g.A[i]? = some r)(m:r.az=1):0<=r.n/\r.n<g.w.length/\lO g:=by
 obtain⟨b,c,st,a,rfl,d,h,-⟩:=d.ok j;have f:=d.dI r (Yh l) m;refine⟨f.1,?_,d.ld h⟩;have k:(hp a).w.length=a.w.length:=by show (a.w.map _).length=_;simp
 rw[k];exact f.2
def ym(e:er t i g)(L:g.s.e=0){o:bl}(j:g.A[i]? = some o):er t (i+1) (if o.az=1/\qI g o.n.toNat=true then bq 9 o.y g else g):=by
 obtain⟨b,c,st,a,rfl,e,A,h⟩:=e.ok L;have j:a.A[i]? = some o:=j;have C:i<c.nl.length:=by rw[<-e.q.nm.am];exact fG j
 obtain⟨f,l⟩:∃f,c.nl[i]? = some f:=⟨_,Yd C⟩;have P:c.nl.drop i=f::c.nl.drop (i+1):=by
  rw[Yk C];rw[Yd C]at l;cases l
  rfl
 rw[P,List.filterMap_cons]at h;by_cases m:o.az=1
 .obtain⟨d,k,J,K,O,a7⟩:=e.q.az l j m;have D:dR f=some d:=by unfold dR;rw[k];simp[J]
  rw[D]at h;simp only[bF]at h;have a0:st.A=c.nl:=by rw[e.q.nl,e.pd];simp
  have a8:f=(f.1,some d):=by rw[<-k]
  have u:eh st f.1=true:=by
   unfold eh;rw[a0];rcases e.q.fv f.1 with⟨E,a3⟩|⟨N,a6,G,E,a3,F,a4,a5⟩
   .exact absurd (YE.2 ⟨f,Yh l,rfl⟩) (kK E)
   .have B:=e.q.gU j a4 (by rw[K,a5.1]);subst B;rw[l]at F;simp only[Yu]at F;rw[E];have:a6=some d:=by rw[F]at k;exact k
    rw[this];exact J
  obtain⟨z,G,H⟩:=e.lW u;obtain⟨N,x,y⟩:=H.y;have a9:fe a f.1=G:=H.b4;have a2:G.s=f.1:=(e.q.nm.dG N _ _ x y).1;have B:=e.q.gU j y (by rw[K,a2]);subst B;rw[j]at y;cases y
  rw[l]at x;simp only[Yu]at x;have R:z=d:=by rw[x]at k;simp at k;exact k
  subst R;have S:=e.j6 A H u;rw[S];cases M:gq st z with
  |true=>
   rw[Y9 ⟨m,rfl⟩];rw[M]at h;simp only[if_true]at h
   right;refine⟨_,h,?_⟩;rw[O];exact lS L (e:=9) (a:=(aT z).2) (by omega)
  |false=>
   rw[Y2 (by simp)];rw[M]at h;simp only[Ye,if_false]at h
   exact Y8 ⟨b,c,st,a,rfl,e,A,h⟩
 .rw[Y2 (λI=>m I.1)];have D:dR f=none:=by
   unfold dR;cases a1:f.2 with
   |none=>rfl
   |some d=>
    simp only;cases u:fa d with
    |false=>simp
    |true=>
     exfalso;have r:=(e.q.nm.dG i f o l j).2;rw[a1]at r;cases d with
     |const p v w=>cases u
     |prog p v w d=>cases u
     |typedef d=>exact m r.1
     |enum p v w=>exact m r.1
     |struct p v w=>exact m r.1
     |union p v w d=>exact m r.1
  rw[D]at h;exact Y8 ⟨b,c,st,a,rfl,e,A,h⟩
def lL(t:List UInt8)(g:Z):Prop:=match eH (aH t)with
 |.error f=>Er f g
 |.ok b=>g.s.e=0/\∃c st a,g=hp a/\Wh t b c st a/\lG st b
def er.fin(d:er t i g)(j:g.A.length<=i\/g.s.e≠0):lL t g:=by
 unfold lL;rcases d with⟨b,c,st,a,rfl,d,l,h⟩|⟨f,h,d⟩
 .have k:(hp a).s.e=0:=d.q.e;have m:c.nl.drop i=[]:=by
   rw[List.drop_eq_nil_iff,<-d.q.nm.am];rcases j with j|j
   .exact j
   .exact absurd k j
  rw[m]at h;simp only[List.filterMap_nil,bF]at h;rw[h];exact⟨k,c,st,a,rfl,d,l⟩
 .rw[h];exact d
end
section
variable {k:TypeId}{l h j:Option Addr}{o r m u:Value}
variable {X : Nat -> Prop} {g d c : Nat} {t : List UInt8} {b : Z} {w : World} {f : PV}
def eO.up(a:eO t c b)(j:eO t (c+1) (bg t b)):ge b+1<=ge (bg t b):=by
 have m:=a.e;have f:=j.e;obtain⟨p,o,n,a,-⟩:=a;have s:=a.q.ty;have l:=a.q.cn;rw[a.dc]at l;refine zB f m ⟨by omega,by omega⟩ ?_;intro k;rcases pk t n with⟨v,u,g⟩|⟨r,g⟩
 .have h:=a.q.wd;rw[g]at h;have:=h.2.jX;rw[h.1.1]at k;omega
 .have d:=a.q.bd g;have i:bg t b=bK b:=by
   unfold bg;rw[Y2 (by rw[d.is (by omega)];simp),Y2 (by rw[d.is (by omega)];simp),Y9 (Y8 (by rw[d.k];omega))]
  rw[i]at f;exact d.fs.e4 f
def eO.aY(a:eO t c b):ge b<=68:=by
 obtain⟨g,f,e,a,-⟩:=a;have h:=a.ti.ty;have i:=a.ti.co;have j:=a.ti.pr;have l:=a.q.ty;have d:=a.q.cn;have k:b.ap.length=e.ap.length:=by rw[a.q.pg];simp
 rw[a.dc]at d;unfold ge;omega
def bN(c:Nat):Nat:=5+2000000*c
def bN_up{d c:Nat}(a:d<=bN c):d+2000000<=bN (c+1):=by unfold bN at *;omega
def bN_le{d c:Nat}(a:d<=bN c)(b:c<=68):d+2000000<=200000000:=by unfold bN at *;omega
def mOf(g:Nat)(w:World):Nat:=match w.cell? ⟨g,11,none⟩,w.cell? ⟨g,13,none⟩,w.cell? ⟨g,14,none⟩,w.cell? ⟨g,15,none⟩with
 |some (.int _ b),some (.int _ a),some (.int _ t),some (.slice _ c _)=>if b=0 then 70-(a.toNat+t.toNat+c)else 0
 |_,_,_,_=>0
def mOf_eq(c:xW X g t d b f w):mOf g w=if b.s.e=0 then 70-ge b else 0:=by
 obtain⟨l,c2,c3,c4,c5,o,p,q,c9,m,h,n,i,j,a,u,v⟩:=c.cells;obtain⟨ad,r,k⟩:=jr c.ap;rw[k]at a;unfold mOf;rw[h,i,j,a];rfl
def specZ:Value:=.agg #[.slice none 0 0,.slice none 0 0,.slice none 0 0,.string ⟨#[]⟩]
abbrev specO(a b c d:Value):Obj:=.cells #[a,b,c,d] 62
def GivesR(t:List UInt8)(h:Ending)(k:World):Prop:=match eH (aH t)with
 |.error a=>h=.returned (.tuple #[specZ,.int .i64 a.no,.int .i64 a.y])/\a.no≠0
 |.ok e=>∃f c X g d j i b,h=.returned (.tuple #[specV f c,.int .i64 0,.int .i64 0])/\xW X g t d c f k/\d<=1000000000/\c=hp b/\Wh t e j i b/\lG i e
def ret_read{Q:Ending->World->Prop}{a:Act}{R:Nat}{b v2:Value}(i:a.tmps.getD 2 undef=.pointer (some ⟨R,0,none⟩))(g:a.tmps.getD 3 undef=b)(h:a.tmps.getD 4 undef=v2)(j:a.defers=[])(c:w.heap[R]? = some (specO o r m u))(k:Q (.returned (.tuple #[.agg #[o,r,m,u],b,v2])) w):bodyPost prog Tryz.f26 Q .ret a w:=by
 refine bodyPost_ret (v:=.tuple #[.agg #[o,r,m,u],b,v2]) ?_ j k;have z0:w.cell? ⟨R,0,none⟩=some o:=cW c rfl;have l:w.cell? ⟨R,1,none⟩=some r:=cW c rfl;have z2:w.cell? ⟨R,2,none⟩=some m:=cW c rfl;have z3:w.cell? ⟨R,3,none⟩=some u:=cW c rfl;unfold results;have d:a.tmps[2]?.getD undef=.pointer (some ⟨R,0,none⟩):=by simpa using i
 have e:a.tmps[3]?.getD undef=b:=by simpa using g
 have f:a.tmps[4]?.getD undef=v2:=by simpa using h
 simp[results26,d,e,f,go_sem,z0,l,z2,z3]
def Read_long(t:List UInt8)(w:World)(a:1200<t.length):Calls prog 26 #[.string ⟨t.toArray⟩] w λd b=>al [] w b/\GivesR t d b:=by
 have e:(1200:Int) < ↑t.length:=by omega
 have c:av (eH (aH t)=.error ⟨1,0⟩):=by
  show _=_;unfold eH;rw[Y9 (by show 1200<t.length;exact a)]
 clear a;go_in;go_wp2;refine ret_read (R:=w.heap.size) rfl rfl rfl rfl (bG rfl) ?_;refine⟨(al.refl [] w).alloc _,?_⟩;unfold GivesR;rw[c.out];exact⟨rfl,by simp⟩
def fr_all{w d:World}(a:Fr (λe=>e<w.heap.size) w d):al [] w d:=⟨a.os,a.lP,a.k0,a.size,λc b _=>a.block c b b⟩
abbrev four(w:World)(a:Nat)(b c d e:Value):World:=(((w.setCell ⟨a,0,none⟩ b).setCell ⟨a,1,none⟩ c).setCell ⟨a,2,none⟩ d).setCell ⟨a,3,none⟩ e
def keeps_four(w:World)(a:Nat)(b c d e:Value):al [a] w (four w a b c d e):=((((al.refl [a] w).c6 (p:=⟨a,0,none⟩) (by simp) _).c6 (p:=⟨a,1,none⟩) (by simp) _).c6 (p:=⟨a,2,none⟩) (by simp) _).c6 (p:=⟨a,3,none⟩) (by simp) _
def four_at{w:World}{a:Nat}{c0 f c2 c3:Value}(b c d e:Value)(g:w.heap[a]? = some (.cells #[c0,f,c2,c3] k)):(four w a b c d e).heap[a]? = some (.cells #[b,c,d,e] k):=by
 have h:(w.setCell ⟨a,0,none⟩ b).heap[a]? = some (.cells #[b,f,c2,c3] k):=eE (i:=0) g b;have j:((w.setCell ⟨a,0,none⟩ b).setCell ⟨a,1,none⟩ c).heap[a]? = some (.cells #[b,c,c2,c3] k):=eE (i:=1) h c;have l:(((w.setCell ⟨a,0,none⟩ b).setCell ⟨a,1,none⟩ c).setCell ⟨a,2,none⟩ d).heap[a]? = some (.cells #[b,c,d,c3] k):=eE (i:=2) j d;exact eE (i:=3) l e
def cells9{e a:World}{p i n c:Nat}(y:xW X g t d b f e)(C:f.rv=.slice j b.w.length p)(A:f.nv=.slice l b.A.length i)(B:f.pv=.slice h b.d7.length n)(q:e.heap[c]? = some (.cells #[o,r,m,u] k))(s:al [] e a):a.cell? ⟨g,7,none⟩=some (.slice j b.w.length p)/\a.cell? ⟨g,8,none⟩=some (.slice l b.A.length i)/\a.cell? ⟨g,9,none⟩=some (.slice h b.d7.length n)/\a.cell? ⟨g,10,none⟩=some (.string ⟨b.out.toArray⟩)/\a.cell? ⟨c,2,none⟩=some m:=by
 obtain⟨D,c2,c3,c4,c5,J,w,x,c9,v,E,F,G,H,I,K,L⟩:=(y.a1 s).cells;have z:=(s.block c (aq q) (by simp)).trans q;exact⟨by rw[w,C],by rw[x,A],by rw[c9,B],v,cW z rfl⟩
def gives_ok{m:World}{i a c:Nat}{k:Nat}(hF:lL t b)(B:b.s.e=0)(n:xW X g t d b f m)(F:f.rv=.slice j b.w.length i)(D:f.nv=.slice l b.A.length a)(E:f.pv=.slice h b.d7.length c)(x:d<=1000000000)(y:X k):GivesR t (.returned (.tuple #[.agg #[.slice j b.w.length i,.slice l b.A.length a,.slice h b.d7.length c,.string ⟨b.out.toArray⟩],.int .i64 0,.int .i64 0])) (four m k (.slice j b.w.length i) (.slice l b.A.length a) (.slice h b.d7.length c) (.string ⟨b.out.toArray⟩)):=by
 unfold lL at hF;unfold GivesR;split
 .rename_i J C;rw[C]at hF;exact absurd B hF.e4
 .rename_i I A;rw[A]at hF;obtain⟨-,q,G,H,u,v,w⟩:=hF;refine⟨f,b,X,g,d,q,G,H,?_,?_,x,u,v,w⟩
  .unfold specV;rw[F,D,E]
  .have o:=keeps_four m k (.slice j b.w.length i) (.slice l b.A.length a) (.slice h b.d7.length c) (.string ⟨b.out.toArray⟩);exact n.j8 o (λK p=>by simp at p;subst p;exact y) (λ_=>Y8) (λr z=>Yr (n.bJ r z) o.size)
def gives_err{w:World}(hF:lL t b)(f:b.s.e≠0):GivesR t (.returned (.tuple #[specZ,.int .i64 b.s.e,.int .i64 b.s.a])) w:=by
 unfold lL at hF;unfold GivesR;split
 .rename_i c g;rw[g]at hF;have hF:Er c b:=hF;exact⟨by rw[hF.e,hF.a],hF.z⟩
 .rename_i h d;rw[d]at hF;exact absurd hF.1 f
def Read_text(t:List UInt8)(w:World)(j7:t.length<=1200):Calls prog 26 #[.string ⟨t.toArray⟩] w λg0 F=>al [] w F/\GivesR t g0 F:=by
 have n2:¬(1200:Int) < ↑t.length:=by omega
 have i9:=av.mk j7;have i6:av (aM (λp=>p<w.heap.size) (w.heap.size+1) t 0 eG [.obj w.heap.size (specO (.slice none 0 0) (.slice none 0 0) (.slice none 0 0) (.string ⟨#[]⟩))] w ((w.alloc (specO (.slice none 0 0) (.slice none 0 0) (.slice none 0 0) (.string ⟨#[]⟩))).alloc (BD t eG.s (zb hn eG)))):=by
  have j9:=BE (X:=λp=>p<w.heap.size+1) (t:=t) (w.alloc (specO (.slice none 0 0) (.slice none 0 0) (.slice none 0 0) (.string ⟨#[]⟩))) (λp E=>by simp;exact E) (by omega);have l9:(w.alloc (specO (.slice none 0 0) (.slice none 0 0) (.slice none 0 0) (.string ⟨#[]⟩))).heap.size=w.heap.size+1:=by simp
  rw[l9]at j9;refine⟨hG.a3 ⟨_,j9⟩ ?_,?_,?_,?_,?_⟩
  .rintro p (E|⟨f1,a3,E⟩)
   .exact Nat.lt_succ_of_lt E
   .simp at a3;subst a3;have:w.heap.size=p:=by simpa[Th.aX]using E
    omega
  .exact Fr.of (((al.refl [] w).alloc _).alloc _) (by simp)
  .intro f1 a3;simp at a3;subst a3;exact(((al.refl [] _).alloc _).block _ (by simp) (by simp)).trans (bG rfl)
  .intro f1 a3 p E k1;simp at a3;subst a3;have:w.heap.size=p:=by simpa[Th.aX]using E
   have k1:p<w.heap.size:=k1;omega
  .intro b k2 f1 p l4 a3 E;match b,k2 with
   |0,0=>exact absurd rfl l4
   |0,k2+1=>simp at E
   |b+1,_=>simp at a3
 have i7:av (∀c:Nat,c<=4->bI ⟨c,0,0,[],[],0,[],0⟩ { eG with rows:=gY.take c } = { eG with rows:=gY.take (c+1) }):=av.mk (λc l5=>by
  have:c=0\/c=1\/c=2\/c=3\/c=4:=by omega
  rcases this with rfl|rfl|rfl|rfl|rfl<;>rfl)
 clear j7;go_in;go_wp2;go_loopw [6] (λh1 b8=>∃c:Nat,h1=.int .i64 c/\c<=5/\av (aM (λp=>p<w.heap.size) (w.heap.size+1) t c { eG with rows:=gY.take c } [.obj w.heap.size (specO (.slice none 0 0) (.slice none 0 0) (.slice none 0 0) (.string ⟨#[]⟩))] w b8)) (λh1 _=>5-(intOf h1).toNat)
 case atStart=>exact⟨0,rfl,by omega,i6⟩
 case round=>
  obtain⟨c,rfl,l5,a1⟩:=hrel;clear i6;rcases Yj c 5 with g5|g5
  .have j5:(↑c:Int)<=4:=by omega
   go_wp2_with fail;refine ma a1 (row0_m · ⟨c,0,0,[],[],0,[],0⟩ rfl rfl (by omega)) λm4 d3=>?_;rw[i7.out c (by omega)]at d3;go_wp2;exact⟨⟨c+1,by go_num,by omega,d3⟩,by simp[intOf];omega⟩
  .have j5:¬(↑c:Int)<=4:=by omega
   have g5:c=5:=by omega
   subst g5;go_wp2_with fail;refine ma a1 (Be ·) λm4 d3=>?_;rw[show aO t { eG with rows:=gY.take 5 } = start t from rfl]at d3;have j2:av ((∃c,eO t c (start t)/\5<=bN c)\/(lI t (start t)/\5<=200000000)):=av.mk (Y8 ⟨0,Ap t,Y4 _⟩);clear a1 i7 j5;go_wp2;go_loopw [] (λb8=>∃(u:Z) (d:Nat),av (aM (λp=>p<w.heap.size) (w.heap.size+1) t d u [.obj w.heap.size (specO (.slice none 0 0) (.slice none 0 0) (.slice none 0 0) (.string ⟨#[]⟩))] w b8)/\av ((∃c,eO t c u/\d<=bN c)\/(lI t u/\d<=200000000))) (λb8=>mOf (w.heap.size+1) b8)
   case atStart=>exact⟨start t,5,d3,j2⟩
   case round=>
    obtain⟨u,d,a1,e6⟩:=hrel;clear d3 j2;obtain⟨f,iO,j3,k,m⟩:=a1.out.cU.sp;have e9:=av.mk (mOf_eq k);obtain⟨N,c2,c3,c4,c5,b5,H,I,c9,b0,D,b1,b2,b3,b4,a4,a5⟩:=k.cells;clear k m c2 c3 c4 c5 b5 H I c9 b0 b1 b2 b3 b4;rcases e6.out with⟨c,a2,b9⟩|⟨k6,b9⟩
    .have g:=a2.e;rw[g]at D;by_cases e1:u.s.x.kind=0
     .rw[e1]at N;have g3:d<=200000000:=by have:=bN_le b9 a2.le;omega
      have d5:av (er t 0 (nN u)):=by
       obtain⟨m9,m7,n3,O,k5⟩:=a2.fin e1;exact av.mk (CP i9.out O k5)
      clear a2 e6 g e1 e9 b9;go_wp2_with fail;refine ma a1 (resolve_m · (Yz g3 (by decide))) λm5 d4=>?_;clear a1 N D a4 a5;generalize nN u=e5 at *
      go_wp2;go_loopw [7] (λd1 b8=>∃(b:Nat) (a:Z),d1=.int .i64 b/\b<=e5.A.length/\av (a.A.length=e5.A.length)/\av (aM (λp=>p<w.heap.size) (w.heap.size+1) t d a [.obj w.heap.size (specO (.slice none 0 0) (.slice none 0 0) (.slice none 0 0) (.string ⟨#[]⟩))] w b8)/\av (er t b a)) (λd1 _=>e5.A.length-(intOf d1).toNat)
      case atStart=>exact⟨0,e5,rfl,by omega,av.mk rfl,d4,d5⟩
      case round=>
       obtain⟨b,a,rfl,d9,G,z,A⟩:=hrel;clear d4 d5;obtain⟨f,iO,j3,k,m⟩:=z.out.cU.sp;obtain⟨j,d7,r⟩:=jr k.w;obtain⟨h,d6,q⟩:=jr k.d7;obtain⟨N,c2,c3,c4,c5,b5,H,I,c9,b0,D,b1,b2,b3,b4,a4,a5⟩:=k.cells;rw[r]at H;rw[m]at I;rw[q]at c9;have y:=av.mk k;have l:=av.mk (Yp r (Yp m q));have e:=z.out.bb (i:=0) (R:=w.heap.size) rfl;have B:=av.mk e;have i4:=ec e;have z0:wr.cell? ⟨w.heap.size,0,none⟩=some (.slice none 0 0):=cW e rfl;have i3:wr.cell? ⟨w.heap.size,1,none⟩=some (.slice none 0 0):=cW e rfl;have z2:wr.cell? ⟨w.heap.size,2,none⟩=some (.slice none 0 0):=cW e rfl;have z3:wr.cell? ⟨w.heap.size,3,none⟩=some (.string ⟨#[]⟩):=cW e rfl;have i5:=aq e;clear k r m q e N c2 c3 c4 c5 b5 b2 b3 b4;have m0:w.heap.size≠w.heap.size+1:=by omega
       by_cases g:a.s.e=0
       .rcases Yj b a.A.length with b7|c8
        .obtain⟨k4,k3,e4,h7,h8,h9,i0,i1,i2,l0⟩:=names_at y.out b7;have d0:=l.out.2.1;rw[e4]at d0;simp only[Value.slice.injEq]at d0;obtain⟨rfl,-,rfl⟩:=d0;have c7:a.A[b]? = some (a.A.getD b AW):=by simp[b7]
         have a7:=av.mk (A.out.cE g c7);have c6:=av.mk (A.out.row g c7);generalize g9:a.A.getD b AW=i at *
         have l1:(0:Int)<=↑b:=by omega
         have l2:(↑b:Int) < ↑a.A.length:=by omega
         have e0:av (b+1<=e5.A.length):=av.mk (by rw[<-G.out];omega);have K:=av.mk g;have l3:a.A.length<=200000000:=by have P:=y.out.et;unfold Z.sz at P;omega
         rw[g]at D;clear A g c7 g9 e4 b7;by_cases J:i.az=1
         .have h0:(i.az==1)=true:=by simpa using J
          obtain⟨g7,g8,e2⟩:=c6.out J;obtain⟨o,e7⟩:∃o:Nat,i.n=o:=⟨i.n.toNat,by omega⟩;have a8:av (er t (b+1) (if qI a o=true then bq 9 i.y a else a)):=by
           have P:=a7.out;rw[e7,Int.toNat_natCast]at P;simp only[J,true_and]at P;exact av.mk P
          have g6:o<a.w.length:=by omega
          have e8:=av.mk e2;clear c6 a7 e2 g7 g8;go_wp2;have M:=av.mk (z.out.alloc (.cells #[.string ⟨i.s.toArray⟩,.int .i64 1,.int .i64 ↑o,.int .i64 i.y] 119));clear H I c9 b0 D b1 a4 a5 h7 h8 h9 i0 i1 i2 z0 i3 z2 z3 i4 i5 y l B;generalize k9:wr.heap.size=C at *
          generalize wr.alloc (.cells #[.string ⟨i.s.toArray⟩,.int .i64 1,.int .i64 ↑o,.int .i64 i.y] 119)=a0 at M ⊢;obtain⟨f,f2,f3,k,m⟩:=M.out.cU.sp;obtain⟨j,d7,r⟩:=jr k.w;obtain⟨h,d6,q⟩:=jr k.d7;obtain⟨N,c2,c3,c4,c5,b5,H,I,c9,b0,D,b1,b2,b3,b4,a4,a5⟩:=k.cells;rw[r]at H;rw[m]at I;rw[q]at c9;have a9:=av.mk (endless_m (k.a1 (al.refl [] a0).drew) g6 e8.out (Yz g3 (by decide)));unfold specV at a9;rw[r,m,q]at a9;have e:=M.out.bb (i:=0) (R:=C) rfl;have h2:a0.cell? ⟨C,2,none⟩=some (.int .i64 ↑o):=cW e rfl;have h3:a0.cell? ⟨C,3,none⟩=some (.int .i64 i.y):=cW e rfl;have h4:=ec e;have h5:=aq e;have y:=av.mk k;have l:=av.mk (Yp r (Yp m q));have B:=av.mk e;clear k r m q e N c2 c3 c4 c5 b5 b2 b3 b4;refine nM (λF=>F.cell? ⟨w.heap.size+1,7,none⟩=some (.slice j a.w.length d7)/\F.cell? ⟨w.heap.size+1,8,none⟩=some (.slice f2 a.A.length f3)/\F.cell? ⟨w.heap.size+1,9,none⟩=some (.slice h a.d7.length d6)/\F.cell? ⟨w.heap.size+1,10,none⟩=some (.string ⟨a.out.toArray⟩)/\F.cell? ⟨C,2,none⟩=some (.int .i64 ↑o)) (L:=7) (by kernel_rfl) rfl (by kernel_rfl) (by kernel_rfl) ?_ (λd8=>?_)
          .go_keep
          refine mx [0,1,2,3,4,5] ?_;iterate 6 (refine oz (v:=?_) rfl (by kernel_rfl) (λ_ _ _ g1=>g1) (by kernel_rfl) (by assumption) ?_ ?_;rotate_left;focus (intro w g4;(try dsimp only at g4);go_simp;(try with_reducible rfl));(try simp only[ih,ii,List.set]))
          refine my ?_;refine nK 6 (by kernel_rfl) rfl λc0 S=>?_;(go_simp;refine a9.out.mono ?_;rintro g0 h6 ⟨rfl,d2⟩;have c1:=av.mk (M.out.drew.L d2);obtain⟨f6,f7,f8,f4,f5⟩:=cells9 (y.out.a1 (al.refl [] a0).drew) l.out.1 l.out.2.1 l.out.2.2 (show (a0.drew).heap[C]? = _ from B.out) d2);refine S.out _ _ ?_ (λd8=>?_)
          .go_keep
          clear S c0;(try simp only[ih,ii,List.set]);refine mw (by kernel_rfl) rfl λc0 S=>?_;go_simp;refine S.out _ _ ?_;clear S c0;(try simp only[ih,ii,List.set]);have e:=c1.out.bb (i:=0) (R:=C) rfl;have m1:h6.cell? ⟨C,3,none⟩=some (.int .i64 i.y):=cW e rfl;have m2:=ec e;have m3:=aq e;have b6:=e0.out;clear e a9 d8 H I c9 b0 D b1 a4 a5 h2 h3 h4 h5 y l B f6 f7 f8 f4 f5 M d2;cases E:qI a o with
          |true=>
           rw[E,Y9 rfl]at a8;go_wp2_with fail;refine ma c1 (fail_m · 9 i.y) λm6 f0=>?_;go_wp2;exact⟨⟨b+1,bq 9 i.y a,by go_num,b6,G,av.mk f0.out.drop,a8⟩,by simp[intOf];omega⟩
          |false=>
           rw[E,Y2 (by simp)]at a8;go_wp2;exact⟨⟨b+1,a,by go_num,b6,G,av.mk c1.out.drop,a8⟩,by simp[intOf];omega⟩
         .have h0:(i.az==1)=false:=by simpa using J
          rw[Y2 (λf9=>J f9.1)]at a7;clear c6 J;go_wp2;have b6:=e0.out;exact⟨⟨b+1,a,by go_num,b6,G,av.mk ((z.out.alloc _).drop),a7⟩,by simp[intOf];omega⟩
        .have e3:¬(↑b:Int) < ↑a.A.length:=by omega
         have a6:=av.mk (A.out.fin (Y8 c8));have K:=av.mk g;rw[g]at D;clear A G d9 g c8;go_wp2;refine ret_read (R:=w.heap.size) rfl rfl rfl rfl (four_at _ _ _ _ B.out) ?_;refine⟨rF (fr_all z.out.fr) (keeps_four _ _ _ _ _ _) (by simp),?_⟩;exact gives_ok a6.out K.out y.out l.out.1 l.out.2.1 l.out.2.2 (Yz g3 (by decide)) (Ya ⟨_,Yc.2 rfl,rfl⟩)
       .have l6:(a.s.e==0)=false:=by simpa using g
        have l7:(a.s.e != 0)=true:=by simpa using g
        have a6:=av.mk (A.out.fin (Ya g));have K:=av.mk g;clear A G d9 g;rcases Yj b a.A.length with b7|c8
        .have e3:(↑b:Int) < ↑a.A.length:=by omega
         go_wp2;go_region;go_wp2;refine ret_read (R:=w.heap.size) (w:=(four wr w.heap.size (.slice none 0 0) (.slice none 0 0) (.slice none 0 0) (.string ⟨#[]⟩)).drew) rfl rfl rfl rfl (four_at _ _ _ _ B.out) ?_;exact⟨(rF (fr_all z.out.fr) (keeps_four _ _ _ _ _ _) (by simp)).drew,gives_err a6.out K.out⟩
        .have e3:¬(↑b:Int) < ↑a.A.length:=by omega
         go_wp2;go_region;go_wp2;refine ret_read (R:=w.heap.size) (w:=(four wr w.heap.size (.slice none 0 0) (.slice none 0 0) (.slice none 0 0) (.string ⟨#[]⟩)).drew) rfl rfl rfl rfl (four_at _ _ _ _ B.out) ?_;exact⟨(rF (fr_all z.out.fr) (keeps_four _ _ _ _ _ _) (by simp)).drew,gives_err a6.out K.out⟩
     .have n1:((u.s.x.kind:Int)==0)=false:=by simp;omega
      have e7:((u.s.x.kind:Int) != 0)=true:=by simp;omega
      have j8:=a2.le;have k0:=av.mk a2.dI;have j1:=av.mk (a2.cE e1);have j0:=av.mk a2;have k7:d+2000000<=1000000000:=Yz (bN_le b9 j8) (by decide);have n0:=a2.aY;have i8:av (d+2000000<=bN (c+1)/\d+2000000<=200000000):=av.mk ⟨bN_up b9,bN_le b9 j8⟩;clear a2 e6 g e1;go_wp2_with fail;refine ma a1 (definition_m · k0.out.1 (λi l8=>(k0.out.2.d0 i l8).1) k7) λm5 d4=>?_;go_wp2;refine⟨⟨bg t u,d+2000000,d4,?_⟩,?_⟩
      .rcases j1.out with O|O
       .exact av.mk (Y8 ⟨c+1,O,i8.out.1⟩)
       .exact av.mk (Ya ⟨O,i8.out.2⟩)
      .obtain⟨m8,k8⟩:=d4.out.cU;rw[e9.out,mOf_eq k8,Y9 j0.out.e];rcases j1.out with O|⟨j4,-,O⟩
       .rw[Y9 O.e];have:=j0.out.up O;have:=O.aY;omega
       .rw[Y2 O.e4];omega
    .obtain⟨j4,j6,g2⟩:=k6;have g:(u.s.e==0)=false:=by have:=g2.e4;simp;exact this
     have d5:av (er t 0 u):=av.mk (CO i9.out ⟨j4,j6,g2⟩ 0);clear e6 g2 j6 e9;go_wp2;clear N D a4 a5 g;go_loopw [7] (λd1 b8=>∃(b:Nat) (a:Z),d1=.int .i64 b/\b<=u.A.length/\av (a.A.length=u.A.length)/\av (aM (λp=>p<w.heap.size) (w.heap.size+1) t d a [.obj w.heap.size (specO (.slice none 0 0) (.slice none 0 0) (.slice none 0 0) (.string ⟨#[]⟩))] w b8)/\av (er t b a)) (λd1 _=>u.A.length-(intOf d1).toNat)
     case atStart=>exact⟨0,u,rfl,by omega,av.mk rfl,a1,d5⟩
     case round=>
      obtain⟨b,a,rfl,d9,G,z,A⟩:=hrel;clear a1 d5;obtain⟨f,iO,j3,k,m⟩:=z.out.cU.sp;obtain⟨j,d7,r⟩:=jr k.w;obtain⟨h,d6,q⟩:=jr k.d7;obtain⟨N,c2,c3,c4,c5,b5,H,I,c9,b0,D,b1,b2,b3,b4,a4,a5⟩:=k.cells;rw[r]at H;rw[m]at I;rw[q]at c9;have y:=av.mk k;have l:=av.mk (Yp r (Yp m q));have e:=z.out.bb (i:=0) (R:=w.heap.size) rfl;have B:=av.mk e;have i4:=ec e;have z0:wr.cell? ⟨w.heap.size,0,none⟩=some (.slice none 0 0):=cW e rfl;have i3:wr.cell? ⟨w.heap.size,1,none⟩=some (.slice none 0 0):=cW e rfl;have z2:wr.cell? ⟨w.heap.size,2,none⟩=some (.slice none 0 0):=cW e rfl;have z3:wr.cell? ⟨w.heap.size,3,none⟩=some (.string ⟨#[]⟩):=cW e rfl;have i5:=aq e;clear k r m q e N c2 c3 c4 c5 b5 b2 b3 b4;have m0:w.heap.size≠w.heap.size+1:=by omega
      by_cases g:a.s.e=0
      .rcases Yj b a.A.length with b7|c8
       .obtain⟨k4,k3,e4,h7,h8,h9,i0,i1,i2,l0⟩:=names_at y.out b7;have d0:=l.out.2.1;rw[e4]at d0;simp only[Value.slice.injEq]at d0;obtain⟨rfl,-,rfl⟩:=d0;have c7:a.A[b]? = some (a.A.getD b AW):=by simp[b7]
        have a7:=av.mk (A.out.cE g c7);have c6:=av.mk (A.out.row g c7);generalize g9:a.A.getD b AW=i at *
        have l1:(0:Int)<=↑b:=by omega
        have l2:(↑b:Int) < ↑a.A.length:=by omega
        have e0:av (b+1<=u.A.length):=av.mk (by rw[<-G.out];omega);have K:=av.mk g;have l3:a.A.length<=200000000:=by have P:=y.out.et;unfold Z.sz at P;omega
        rw[g]at D;clear A g c7 g9 e4 b7;by_cases J:i.az=1
        .have h0:(i.az==1)=true:=by simpa using J
         obtain⟨g7,g8,e2⟩:=c6.out J;obtain⟨o,e7⟩:∃o:Nat,i.n=o:=⟨i.n.toNat,by omega⟩;have a8:av (er t (b+1) (if qI a o=true then bq 9 i.y a else a)):=by
          have P:=a7.out;rw[e7,Int.toNat_natCast]at P;simp only[J,true_and]at P;exact av.mk P
         have g6:o<a.w.length:=by omega
         have e8:=av.mk e2;clear c6 a7 e2 g7 g8;go_wp2;have M:=av.mk (z.out.alloc (.cells #[.string ⟨i.s.toArray⟩,.int .i64 1,.int .i64 ↑o,.int .i64 i.y] 119));clear H I c9 b0 D b1 a4 a5 h7 h8 h9 i0 i1 i2 z0 i3 z2 z3 i4 i5 y l B;generalize k9:wr.heap.size=C at *
         generalize wr.alloc (.cells #[.string ⟨i.s.toArray⟩,.int .i64 1,.int .i64 ↑o,.int .i64 i.y] 119)=a0 at M ⊢;obtain⟨f,f2,f3,k,m⟩:=M.out.cU.sp;obtain⟨j,d7,r⟩:=jr k.w;obtain⟨h,d6,q⟩:=jr k.d7;obtain⟨N,c2,c3,c4,c5,b5,H,I,c9,b0,D,b1,b2,b3,b4,a4,a5⟩:=k.cells;rw[r]at H;rw[m]at I;rw[q]at c9;have a9:=av.mk (endless_m (k.a1 (al.refl [] a0).drew) g6 e8.out (Yz b9 (by decide)));unfold specV at a9;rw[r,m,q]at a9;have e:=M.out.bb (i:=0) (R:=C) rfl;have h2:a0.cell? ⟨C,2,none⟩=some (.int .i64 ↑o):=cW e rfl;have h3:a0.cell? ⟨C,3,none⟩=some (.int .i64 i.y):=cW e rfl;have h4:=ec e;have h5:=aq e;have y:=av.mk k;have l:=av.mk (Yp r (Yp m q));have B:=av.mk e;clear k r m q e N c2 c3 c4 c5 b5 b2 b3 b4;refine nM (λF=>F.cell? ⟨w.heap.size+1,7,none⟩=some (.slice j a.w.length d7)/\F.cell? ⟨w.heap.size+1,8,none⟩=some (.slice f2 a.A.length f3)/\F.cell? ⟨w.heap.size+1,9,none⟩=some (.slice h a.d7.length d6)/\F.cell? ⟨w.heap.size+1,10,none⟩=some (.string ⟨a.out.toArray⟩)/\F.cell? ⟨C,2,none⟩=some (.int .i64 ↑o)) (L:=7) (by kernel_rfl) rfl (by kernel_rfl) (by kernel_rfl) ?_ (λd8=>?_)
         .go_keep
         refine mx [0,1,2,3,4,5] ?_;iterate 6 (refine oz (v:=?_) rfl (by kernel_rfl) (λ_ _ _ g1=>g1) (by kernel_rfl) (by assumption) ?_ ?_;rotate_left;focus (intro w g4;(try dsimp only at g4);go_simp;(try with_reducible rfl));(try simp only[ih,ii,List.set]))
         refine my ?_;refine nK 6 (by kernel_rfl) rfl λc0 S=>?_;(go_simp;refine a9.out.mono ?_;rintro g0 h6 ⟨rfl,d2⟩;have c1:=av.mk (M.out.drew.L d2);obtain⟨f6,f7,f8,f4,f5⟩:=cells9 (y.out.a1 (al.refl [] a0).drew) l.out.1 l.out.2.1 l.out.2.2 (show (a0.drew).heap[C]? = _ from B.out) d2);refine S.out _ _ ?_ (λd8=>?_)
         .go_keep
         clear S c0;(try simp only[ih,ii,List.set]);refine mw (by kernel_rfl) rfl λc0 S=>?_;go_simp;refine S.out _ _ ?_;clear S c0;(try simp only[ih,ii,List.set]);have e:=c1.out.bb (i:=0) (R:=C) rfl;have m1:h6.cell? ⟨C,3,none⟩=some (.int .i64 i.y):=cW e rfl;have m2:=ec e;have m3:=aq e;have b6:=e0.out;clear e a9 d8 H I c9 b0 D b1 a4 a5 h2 h3 h4 h5 y l B f6 f7 f8 f4 f5 M d2;cases E:qI a o with
         |true=>
          rw[E,Y9 rfl]at a8;go_wp2_with fail;refine ma c1 (fail_m · 9 i.y) λm6 f0=>?_;go_wp2;exact⟨⟨b+1,bq 9 i.y a,by go_num,b6,G,av.mk f0.out.drop,a8⟩,by simp[intOf];omega⟩
         |false=>
          rw[E,Y2 (by simp)]at a8;go_wp2;exact⟨⟨b+1,a,by go_num,b6,G,av.mk c1.out.drop,a8⟩,by simp[intOf];omega⟩
        .have h0:(i.az==1)=false:=by simpa using J
         rw[Y2 (λf9=>J f9.1)]at a7;clear c6 J;go_wp2;have b6:=e0.out;exact⟨⟨b+1,a,by go_num,b6,G,av.mk ((z.out.alloc _).drop),a7⟩,by simp[intOf];omega⟩
       .have e3:¬(↑b:Int) < ↑a.A.length:=by omega
        have a6:=av.mk (A.out.fin (Y8 c8));have K:=av.mk g;rw[g]at D;clear A G d9 g c8;go_wp2;refine ret_read (R:=w.heap.size) rfl rfl rfl rfl (four_at _ _ _ _ B.out) ?_;refine⟨rF (fr_all z.out.fr) (keeps_four _ _ _ _ _ _) (by simp),?_⟩;exact gives_ok a6.out K.out y.out l.out.1 l.out.2.1 l.out.2.2 (Yz b9 (by decide)) (Ya ⟨_,Yc.2 rfl,rfl⟩)
      .have l6:(a.s.e==0)=false:=by simpa using g
       have l7:(a.s.e != 0)=true:=by simpa using g
       have a6:=av.mk (A.out.fin (Ya g));have K:=av.mk g;clear A G d9 g;rcases Yj b a.A.length with b7|c8
       .have e3:(↑b:Int) < ↑a.A.length:=by omega
        go_wp2;go_region;go_wp2;refine ret_read (R:=w.heap.size) (w:=(four wr w.heap.size (.slice none 0 0) (.slice none 0 0) (.slice none 0 0) (.string ⟨#[]⟩)).drew) rfl rfl rfl rfl (four_at _ _ _ _ B.out) ?_;exact⟨(rF (fr_all z.out.fr) (keeps_four _ _ _ _ _ _) (by simp)).drew,gives_err a6.out K.out⟩
       .have e3:¬(↑b:Int) < ↑a.A.length:=by omega
        go_wp2;go_region;go_wp2;refine ret_read (R:=w.heap.size) (w:=(four wr w.heap.size (.slice none 0 0) (.slice none 0 0) (.slice none 0 0) (.string ⟨#[]⟩)).drew) rfl rfl rfl rfl (four_at _ _ _ _ B.out) ?_;exact⟨(rF (fr_all z.out.fr) (keeps_four _ _ _ _ _ _) (by simp)).drew,gives_err a6.out K.out⟩
def Read_ref(t:List UInt8)(w:World):Calls prog 26 #[.string ⟨t.toArray⟩] w λc b=>al [] w b/\GivesR t c b:=by
 rcases Yj 1200 t.length with a|a
 .exact Read_long t w a
 .exact Read_text t w a
end
end Go.Proofs.YtjdhaegijjednaaGreatDoor
namespace Go.Proofs.YtjdhaegijjednaaGreatDoor
open Go.RowKit Go.Extern.Stop Go.Stop Go.Extern
open Go.Proofs.Tryz
abbrev fH(a:Nat):Value:=.pointer (some ⟨8,a,none⟩)
abbrev cR(c:Nat)(a:Addr)(b:Int):Value:=.agg #[fH c,.pointer (some a),.int .u64 b]
abbrev jx(c:Nat)(a:Addr)(b:Int):Obj:=.cells #[fH c,.pointer (some a),.int .u64 b] 302
abbrev eB(a:Nat):Value:=.iface 407 (.agg #[fH a])
def uk(b:Addr)(a:World):(ReflectliteValue.unpack (.iface 177 (.pointer (some b)))).run prog a=.ok (cR 177 ⟨a.heap.size,0,none⟩ 150) (a.alloc (.cells #[.pointer (some b)] 177)):=by kernel_rfl
def ui (b : Addr) (a : World) : (ReflectliteValue.methodAny (ReflectliteValue.valueError "reflectlite.Value.Type" 0) (fun c _ _ _ => ReflectliteType.toType c) #[cR 177 b 150]).run Tryz.prog a = .ok (eB 177) a := by kernel_rfl
def uc (c : Nat) (a : Value) (b : World) : (Go.method (c + 3) 407 (.agg #[a]) "Kind").run Tryz.prog b = .ok (321, a) b := by kernel_rfl
def ua (c : Nat) (a : Value) (b : World) : (Go.method (c + 3) 407 (.agg #[a]) "Elem").run Tryz.prog b = .ok (380, .agg #[a]) b := by kernel_rfl
def ub (c : Nat) (a : Value) (b : World) : (Go.method (c + 3) 407 (.agg #[a]) "Implements").run Tryz.prog b = .ok (381, .agg #[a]) b := by kernel_rfl
def tZ (c : Nat) (a : Value) (b : World) : (Go.method (c + 3) 407 (.agg #[a]) "AssignableTo").run Tryz.prog b = .ok (378, .agg #[a]) b := by kernel_rfl
def tY(a:World):((ReflectliteType.abiMethod λc=>(λb:Nat=>Value.int IntKind.u8 (b:Int)) <$> Rtype.kind c) #[fH 177]).run prog a=.ok (.int .u8 22) a:=by kernel_rfl
def tX(a:World):((ReflectliteType.abiMethod λc=>(λb:Nat=>Value.int IntKind.u8 (b:Int)) <$> Rtype.kind c) #[fH 143]).run prog a=.ok (.int .u8 22) a:=by kernel_rfl
def nQ(a:Addr)(b:World):(ReflectliteValue.parts (cR 177 a 150)).run prog b=.ok (some (177,a,150)) b:=by kernel_rfl
def tW(b d:Addr)(a:World)(c:a.cell? b=some (.pointer (some d))) :
  (ReflectliteValue.method (ReflectliteValue.valueError "reflectlite.Value.IsNil" 0) ReflectliteValue.isNil #[cR 177 b 150]).run Tryz.prog a = .ok (.bool false) a := by
 change Sem.run prog (ReflectliteValue.parts (cR 177 b 150) >>= _) a=_;simp only[Sem.run_bind,nQ,Result.andThen];simp[ReflectliteValue.isNil,loadVar,isAgg,underlying,underlying177,c,Result.andThen]
def tT(a:World):(ReflectliteType.method ReflectliteType.elem #[.agg #[fH 177]]).run prog a=.ok (eB 143) a:=by kernel_rfl
def tV (a : World) : (ReflectliteType.relation "Implements" ReflectliteType.implements_ #[.agg #[fH 143], eB 55]).run Tryz.prog a = .ok (.bool true) a := by kernel_rfl
def uh(v:Value)(a:World):(ReflectliteType.typeOf #[.iface 143 v]).run prog a=.ok (eB 143) a:=by kernel_rfl
def tQ (a : World) : (ReflectliteType.relation "AssignableTo" ReflectliteType.assignableTo #[.agg #[fH 143], eB 143]).run Tryz.prog a = .ok (.bool true) a := by kernel_rfl
def uj(b:Addr)(a:World):(ReflectliteValue.unpack (.iface 143 (.pointer (some b)))).run prog a=.ok (cR 143 ⟨a.heap.size,0,none⟩ 150) (a.alloc (.cells #[.pointer (some b)] 143)):=by kernel_rfl
def tS(a:World):(Rtype.elem? 177).run prog a=.ok (some 143) a:=by kernel_rfl
def ud(a:Addr)(b:World):(ReflectliteValue.mk 143 a ReflectliteValue.flagAddr).run prog b=.ok (cR 143 a 406) b:=by kernel_rfl
def tU(b c:Addr)(a:World)(d:a.cell? b=some (.pointer (some c))) :
  (ReflectliteValue.method (ReflectliteValue.valueError "reflectlite.Value.Elem" 0) ReflectliteValue.elem #[cR 177 b 150]).run Tryz.prog a = .ok (cR 143 c 406) a := by
 change Sem.run prog (ReflectliteValue.parts (cR 177 b 150) >>= _) a=_;simp only[Sem.run_bind,nQ,Result.andThen];simp[ReflectliteValue.elem,loadVar,isAgg,underlying,underlying177,d,Result.andThen,tS,ud]
def ue(a:Addr)(b:World):(ReflectliteValue.parts (cR 143 a 406)).run prog b=.ok (some (143,a,406)) b:=by kernel_rfl
def uf(a:Addr)(b:World):(ReflectliteValue.parts (cR 143 a 150)).run prog b=.ok (some (143,a,150)) b:=by kernel_rfl
def tR(a:World):(Rtype.directlyAssignable 143 143).run prog a=.ok true a:=by kernel_rfl
def ug(b c d:Addr)(h:Value)(a:World)(e:a.cell? c=some (.pointer (some d)))(g:a.cell? b=some h)(f:a.frozen? b=false) :
  (ReflectliteValue.set #[cR 143 b 406,cR 143 c 150]).run prog a=.ok (.tuple #[]) (a.setCell b (.pointer (some d))):=by
 change Sem.run prog (ReflectliteValue.parts (cR 143 b 406) >>= λ_=>ReflectliteValue.parts (cR 143 c 150) >>= _) a=_;simp only[Sem.run_bind,ue,uf,Result.andThen];simp[ReflectliteValue.flagAddr,loadVar,isAgg,underlying,underlying143,e,Result.andThen,tR,storeVar,Value.cells,storeCells,Addr.add];rw[run_store prog a b _ _ (by rfl)];simp[g,f]
abbrev hM(a:World)(b:Addr):World:=(a.alloc (.cells #[.pointer (some b)] 177)).alloc (jx 177 ⟨a.heap.size,0,none⟩ 150)
def yW(d a:Addr)(h:Value)(b:World)(e:b.cell? ⟨1,0,none⟩=some (eB 55))(f:b.cell? a=some h)(j:b.frozen? a=false) :
  Calls prog 92 #[.iface 143 (.pointer (some d)),.iface 177 (.pointer (some a))] b λi l=>i=.returned (.bool true)/\
   l=(((hM b a).alloc (jx 177 ⟨b.heap.size,0,none⟩ 150)).alloc (.cells #[.pointer (some d)] 143)).setCell a (.pointer (some d)):=by
 have D:=@run_callFunc_extern prog 155 _ (λargs=>ReflectliteValue.unpack (args.getD 0 (.tuple #[]))) func155 (by kernel_rfl) (by kernel_rfl) (by kernel_rfl) (by kernel_rfl)
 have F := @run_callFunc_extern Tryz.prog 156 _ (ReflectliteValue.methodAny (ReflectliteValue.valueError "reflectlite.Value.Type" 0) (fun a _ _ _ => ReflectliteType.toType a)) Tryz.func156 (by kernel_rfl) (by kernel_rfl) (by kernel_rfl) (by kernel_rfl)
 have G := @run_callFunc_extern Tryz.prog 157 _ (ReflectliteValue.method (ReflectliteValue.valueError "reflectlite.Value.IsNil" 0) ReflectliteValue.isNil) Tryz.func157 (by kernel_rfl) (by kernel_rfl) (by kernel_rfl) (by kernel_rfl)
 have H:=@run_callFunc_extern prog 321 _ (ReflectliteType.abiMethod λa=>do pure (.int .u8 (<-Rtype.kind a))) func321 (by kernel_rfl) (by kernel_rfl) (by kernel_rfl) (by kernel_rfl);have I:=@run_callFunc_extern prog 380 _ (ReflectliteType.method ReflectliteType.elem) func380 (by kernel_rfl) (by kernel_rfl) (by kernel_rfl) (by kernel_rfl)
 have J := @run_callFunc_extern Tryz.prog 381 _ (ReflectliteType.relation "Implements" ReflectliteType.implements_) Tryz.func381 (by kernel_rfl) (by kernel_rfl) (by kernel_rfl) (by kernel_rfl)
 have K:=@run_callFunc_extern prog 219 _ ReflectliteType.typeOf func219 (by kernel_rfl) (by kernel_rfl) (by kernel_rfl) (by kernel_rfl)
 have L := @run_callFunc_extern Tryz.prog 378 _ (ReflectliteType.relation "AssignableTo" ReflectliteType.assignableTo) Tryz.func378 (by kernel_rfl) (by kernel_rfl) (by kernel_rfl) (by kernel_rfl)
 have M := @run_callFunc_extern Tryz.prog 220 _ (ReflectliteValue.method (ReflectliteValue.valueError "reflectlite.Value.Elem" 0) ReflectliteValue.elem) Tryz.func220 (by kernel_rfl) (by kernel_rfl) (by kernel_rfl) (by kernel_rfl)
 have E:=@run_callFunc_extern prog 221 _ ReflectliteValue.set func221 (by kernel_rfl) (by kernel_rfl) (by kernel_rfl) (by kernel_rfl);have z:=uh;have t:=tZ;have m:=tQ;have B:=uj;have C:=uk;have A:=ui;have w:=uc;have u:=ua;have v:=ub;have s:=tY;have r:=tX;have n:=tT;have q:=tV;have x:=tW ⟨b.heap.size,0,none⟩ a (hM b a) (by simp);have k:1<b.heap.size:=by
  rcases Yj 1 b.heap.size with c|c
  .exact c
  .simp[World.cell?,YO c]at e
 have p:(hM b a).cell? ⟨1,0,none⟩=some (eB 55):=by
  rw[World.cell?_alloc_lt _ _ ⟨1,0,none⟩ (by simp;omega),World.cell?_alloc_lt _ _ ⟨1,0,none⟩ k];exact e
 have g:a.block<b.heap.size:=by
  rcases Yj a.block b.heap.size with c|c
  .exact c
  .simp[World.cell?,YO c]at f
 have o:=tU ⟨b.heap.size,0,none⟩ a ((hM b a).alloc (jx 177 ⟨b.heap.size,0,none⟩ 150)) (by rw[World.cell?_alloc_lt _ _ ⟨b.heap.size,0,none⟩ (by simp;omega)];simp);have y:=ug a ⟨b.heap.size+1+1+1,0,none⟩ d h (((hM b a).alloc (jx 177 ⟨b.heap.size,0,none⟩ 150)).alloc (.cells #[.pointer (some d)] 143))
  (by rw[World.cell?_alloc_at _ _ _ _ (by simp)];rfl)
  (by rw[World.cell?_alloc_lt _ _ a (by simp;omega),World.cell?_alloc_lt _ _ a (by simp;omega),World.cell?_alloc_lt _ _ a (by simp;omega),World.cell?_alloc_lt _ _ a g];exact f)
  (by rw[World.frozen?_alloc_old _ _ a (by simp;omega),World.frozen?_alloc_old _ _ a (by simp;omega),World.frozen?_alloc_old _ _ a (by simp;omega),World.frozen?_alloc_old _ _ a (Nat.ne_of_lt g)];exact j)
 go_in;go_wp2;refine wp_loop_rounds 1 ?_;rw[rounds_succ];go_wp2;go_ret;exact⟨rfl,rfl⟩
end Go.Proofs.YtjdhaegijjednaaGreatDoor
namespace Go.Proofs.YtjdhaegijjednaaGreatDoor
open Go.RowKit
open Go.Proofs.Tryz
def Told_fault{a:World}(e:a.cell? ⟨1,0,none⟩=some (eB 55)){b:Nat}{o h:Int}(d:a.heap[b]? = some (.cells #[.int .i64 o,.int .i64 h] 179)) :
  Calls prog 52 #[.iface 143 (.pointer (some ⟨b,0,none⟩))] a λj t=>j=.returned (.tuple #[.int .i64 o,.int .i64 h])/\al [] a t:=by
 have s:1<a.heap.size:=by
  rcases Yj 1 a.heap.size with c|c
  .exact c
  .simp[World.cell?,YO c]at e
 have r:=aq d;have l:(a.alloc (.cells #[.pointer none] 143)).cell? ⟨1,0,none⟩=some (eB 55):=by rw[World.cell?_alloc_lt _ _ ⟨1,0,none⟩ s];exact e
 have n:(a.alloc (.cells #[.pointer none] 143)).cell? ⟨a.heap.size,0,none⟩=some (.pointer none):=by simp
 have k:(a.alloc (.cells #[.pointer none] 143)).frozen? ⟨a.heap.size,0,none⟩=false:=by simp
 have g:=av.mk (yW ⟨b,0,none⟩ ⟨a.heap.size,0,none⟩ (.pointer none) _ l n k);clear l n k e;go_in;go_wp2_with fail;refine g.out.mono ?_;rintro j p ⟨rfl,f⟩;have m:al [] a p:=by
  rw[f];exact(((((al.refl [] a).alloc _).alloc _).alloc _).alloc _ |>.alloc _).jO (Y4 _) _
 have c0:p.cell? ⟨a.heap.size,0,none⟩=some (.pointer (some ⟨b,0,none⟩)):=by
  rw[f];refine bound1 (eE (i:=0) (cs:=#[.pointer none]) (T:=143) ?_ _);exact(((((al.refl [] (a.alloc (.cells #[.pointer none] 143))).alloc _).alloc _).alloc _ |>.alloc _).block a.heap.size (by simp) (by simp)).trans (bG rfl)
 have q:=(m.block b r (by simp)).trans d;obtain⟨u,c2,_⟩:=cbound2 q;clear f g d;go_wp2_with fail;go_region;go_wp2;go_ret2;exact⟨rfl,m.drew⟩
end Go.Proofs.YtjdhaegijjednaaGreatDoor
namespace Go.Proofs.YtjdhaegijjednaaGreatDoor
open Go.RowKit
open Go.MapKept
open Go.Proofs.Tryz
def Read_fault{k:ByteArray}{f:Mar.aD}(D:eH k=.error f){a:World}(B:Gl a):Calls prog 25 #[.string k] a λd r=>al [] a r/\∃m,d=.returned (.tuple #[.pointer none,.iface 143 (.pointer (some ⟨m,0,none⟩))])/\r.heap[m]? = some (.cells #[.int .i64 f.no,.int .i64 f.y] 179):=by
 have K:=kE;have n:Below a.heap.size a ((a.alloc (.cells #[.pointer none] 53)).alloc (.cells #[.nilIface] 55)):=((Below.refl _ _).alloc (Y4 _) _).alloc (by simp) _;have t:=av.mk (Text_any k (B.a1 n));have l:=av.mk D;have o:((a.alloc (.cells #[.pointer none] 53)).alloc (.cells #[.nilIface] 55)).heap[a.heap.size]? = some (.cells #[.pointer none] 53):=(Below.heap_alloc _ _ _ (by simp)).trans (bG rfl);have q:((a.alloc (.cells #[.pointer none] 53)).alloc (.cells #[.nilIface] 55)).heap[a.heap.size+1]? = some (.cells #[.nilIface] 55):=bG (by simp);have s:=av.mk n;go_enter_defers func25,ntmps25;go_wp2_with fail;refine t.out.mono ?_;rintro d c (⟨I,M,L,H,g,_⟩|⟨u,g,e,b,y,rfl,z⟩)
 .exact absurd (l.out.symm.trans g) (by simp)
 have A:u=f:=by have x:=l.out.symm.trans g;cases x;rfl
 subst A;have h:=(e.block _ (aq o) (by simp)).trans o;have j:=(e.block _ (aq q) (by simp)).trans q;have v:c.frozen? ⟨a.heap.size,0,none⟩=false:=by simp[World.frozen?,h]
 have w:c.frozen? ⟨a.heap.size+1,0,none⟩=false:=by simp[World.frozen?,j]
 have C:=(al.br [] s.out).trans e;refine leaves_cons (f:=42) (args:=#[.pointer (some ⟨a.heap.size,0,none⟩),.pointer (some ⟨a.heap.size+1,0,none⟩)]) (by simp) (by simp[go_sem]) ?_;refine(BJ _ _ b _ _ [] c (bound1 h) (bound1 j) v w (by simp)).mono ?_;rintro d N O ⟨rfl,rfl,rfl⟩;have E:=eE (i:=0) h (.pointer none);have F:(c.setCell ⟨a.heap.size,0,none⟩ (.pointer none)).heap[a.heap.size+1]? = _:=(Below.heap_setCell _ _ _ _ (by simp)).trans j;have G:=bound1 ((Below.heap_setCell _ ⟨a.heap.size+1,0,none⟩ (.iface 143 (.pointer (some ⟨b,0,none⟩))) _ (by simp)).trans E)
 have z2:=bound1 (eE (i:=0) F (.iface 143 (.pointer (some ⟨b,0,none⟩))))
 simp only[Leaves,settle,List.dropWhile_nil];refine⟨.tuple #[.pointer none,.iface 143 (.pointer (some ⟨b,0,none⟩))],by simp[results,results25,go_sem,G,z2],?_⟩
 refine⟨(C.jO (p:=⟨a.heap.size,0,none⟩) (by simp) _).jO (p:=⟨a.heap.size+1,0,none⟩) (by simp) _,b,rfl,?_⟩;have J:a.heap.size+2<=b:=by simpa using y
 exact(Below.heap_setCell _ _ _ _ (by simp;omega)).trans ((Below.heap_setCell _ _ _ _ (by simp;omega)).trans z)
def Told_nil(a:World):Calls prog 52 #[.nilIface] a λb c=>b=.returned (.tuple #[.int .i64 0,.int .i64 0])/\c=a:=by
 go_in;go_wp2;go_ret2;exact⟨rfl,rfl⟩
def num_any(a:Int)(b:World):Calls prog 53 #[.int .i64 a] b λc d=>c=.returned (.int .i64 a)/\d=b:=by
 go_in;go_wp2;go_ret;exact⟨rfl,rfl⟩
def told_nil(d:Int)(b:World):Calls prog 27 #[.nilIface,.int .i64 0,.int .i64 d] b λa e=>a=.returned (.bool true)/\al [] b e:=by
 have c:=av.mk (Told_nil b);go_in;go_wp2_with fail;refine c.out.mono ?_;rintro a f ⟨rfl,rfl⟩;go_wp2_with fail;refine(num_any 0 _).mono ?_;rintro a g ⟨rfl,rfl⟩;go_wp2;go_ret;exact⟨by simp,al.refl [] _⟩
def told_fault{b:World}(h:b.cell? ⟨1,0,none⟩=some (eB 55)){e:Nat}{a d:Int}(g:b.heap[e]? = some (.cells #[.int .i64 a,.int .i64 d] 179))(i:a≠0) :
  Calls prog 27 #[.iface 143 (.pointer (some ⟨e,0,none⟩)),.int .i64 a,.int .i64 d] b λc k=>c=.returned (.bool true)/\al [] b k:=by
 have f:=av.mk (Told_fault h g);have l:(a==0)=false:=by simpa using i
 go_in;go_wp2_with fail;refine f.out.mono ?_;rintro c m ⟨rfl,j⟩;go_wp2_with fail;refine(num_any a _).mono ?_;rintro c n ⟨rfl,rfl⟩;go_wp2;go_ret;exact⟨by simp,j⟩
end Go.Proofs.YtjdhaegijjednaaGreatDoor
namespace Go.Proofs.YtjdhaegijjednaaGreatDoor
open Go.RowKit
open Go.Proofs.Tryz
section
variable {b:List UInt8}{a:World}
def SpecR(b:List UInt8)(c:List ah)(S:Nat)(d:World):Prop:=∃f h a e n m g l j k,d.heap[S]? = some (.cells #[.pointer (some ⟨f,0,none⟩),a.rv,a.nv,a.pv,.string ⟨e.out.toArray⟩] 67)/\SpecIn h f c/\(∀i∈h,d.heap[i.1]? = some i.2)/\xW n m b g e a d/\g<=1000000000/\e=hp k/\Wh b c l j k/\lG j c
def kk{f:World}{b e:Nat}{v:Value}(d:a.cell? ⟨b,e,none⟩=some v)(h:al [] a f):f.cell? ⟨b,e,none⟩=some v:=by
 have g:b<a.heap.size:=by
  rcases Yj b a.heap.size with c|c
  .exact c
  .simp[World.cell?,YO c]at d
 have:=h.block b g (by simp);unfold World.cell? at *
 simp only at *
 rw[this];exact d
def BL{e:Mar.aD}(h:eH (aH b)=.error e)(o:Gl a)(n:a.cell? ⟨1,0,none⟩=some (eB 55)):Calls prog 16 #[.string ⟨b.toArray⟩] a λc s=>al [] a s/\c=.returned (.tuple #[.pointer none,.bool true]):=by
 have l:=av.mk h;have m:=av.mk (Read_fault h o);have k:=av.mk n;clear o h n;go_in;go_wp2_with fail;refine m.out.mono ?_;rintro c t ⟨i,v,rfl,g⟩;go_wp2_with fail;refine(Read_ref b t).mono ?_;rintro c u ⟨d,f⟩;unfold GivesR at f;rw[l.out]at f;obtain⟨rfl,w⟩:=f;have x:((e.no:Int) != 0)=true:=by simp;omega
 have j:=av.mk (((al.refl [] u).alloc (specO (.slice none 0 0) (.slice none 0 0) (.slice none 0 0) (.string ⟨#[]⟩))));have q:=av.mk (told_fault (kk (kk (kk k.out i) d) j.out) (((d.trans j.out).block _ (aq g) (by simp)).trans g) (by omega:(e.no:Int)≠0));have p:=av.mk (i.trans d);unfold specZ;clear g i d m k l;go_wp2_with fail;refine q.out.mono ?_;rintro c y ⟨rfl,r⟩;go_wp2;go_ret2;exact⟨(p.out.trans j.out).trans r,rfl⟩
def read_ok{E:List ah}(k:eH (aH b)=.ok E)(K:Gl a):Calls prog 16 #[.string ⟨b.toArray⟩] a λj N=>al [] a N/\∃S,j=.returned (.tuple #[.pointer (some ⟨S,0,none⟩),.bool true])/\a.heap.size<=S/\SpecR b E S N:=by
 have A:=av.mk k;have D:=av.mk (Read_ok k (prog_good k) K);clear K k;go_in;go_wp2_with fail;refine D.out.mono ?_;rintro j b5 ⟨z,a4,rfl,M,L,s,b7⟩;go_wp2_with fail;refine(Read_ref b b5).mono ?_;rintro j e ⟨w,r⟩;unfold GivesR at r;rw[A.out]at r;obtain⟨a2,c,a3,a1,a0,O,b4,b6,rfl,h,J,G,H,I⟩:=r;obtain⟨n,q,v⟩:=jr h.w;obtain⟨l,o,t⟩:=jr h.A;obtain⟨m,p,u⟩:=jr h.d7;have R:=av.mk (Yp L (Yp (λd i=>((w.block _ (aq (s d i)) (by simp)).trans (s d i):e.heap[d.1]? = some d.2)) (Yp h (Yp J (Yp G (Yp H I))))));have P:=av.mk (Yp v (Yp t u));have B:=av.mk (M.trans w);have b0:=av.mk (((al.refl [] e).alloc (specO (.slice n c.w.length q) (.slice l c.A.length o) (.slice m c.d7.length p) (.string ⟨c.out.toArray⟩))));unfold specV;rw[v,t,u];clear v t u h J G H I L s M w D A;go_wp2_with fail;refine(told_nil 0 _).mono ?_;rintro j g ⟨rfl,x⟩;have f:=(x.block e.heap.size (by simp) (by simp)).trans (bG rfl);obtain⟨z0,b8,z2,z3⟩:g.cell? ⟨e.heap.size,0,none⟩=some (.slice n c.w.length q)/\g.cell? ⟨e.heap.size,1,none⟩=some (.slice l c.A.length o)/\g.cell? ⟨e.heap.size,2,none⟩=some (.slice m c.d7.length p)/\g.cell? ⟨e.heap.size,3,none⟩=some (.string ⟨c.out.toArray⟩):=⟨cW f rfl,cW f rfl,cW f rfl,cW f rfl⟩;have b9:=ec f;have C:=av.mk (b0.out.trans x);have c0:=aq f;clear f x;go_wp2;go_ret2;obtain⟨g1,F,a5,a6,a7,a8,a9⟩:=R.out;obtain⟨b1,b2,b3⟩:=P.out;have y:=C.out.trans ((al.refl [] g).alloc (.cells #[.pointer (some ⟨z,0,none⟩),.slice n c.w.length q,.slice l c.A.length o,.slice m c.d7.length p,.string ⟨c.out.toArray⟩] 67));refine⟨B.out.trans y,g.heap.size,rfl,?_,z,a4,a2,c,a3,a1,a0,O,b4,b6,?_,g1,λd i=>(y.block _ (aq (F d i)) (by simp)).trans (F d i),a5.a1 y,a6,a7,a8,a9⟩
 .have:=B.out.size;have:=C.out.size;omega
 .rw[b1,b2,b3];exact bG rfl
end
def dO(a:Int)(b:Nat):Nat:=(if a<0 then -(a+1)else a).toNat % b
def tD(a:Int)(b:Nat)(j:-9223372036854775808<=a)(k:a<=9223372036854775807)(l:0<b)(n:b<=1000000)(f:World):Calls prog 18 #[.int .i64 a,.int .i64 b] f λg i=>g=.returned (.int .i64 (dO a b))/\i=f:=by
 have m:(b:Int)≠0:=by omega
 by_cases e:a<0
 .have c:av ((dO a b:Int) = -(a+1).tmod b):=by
   show _=_;rw[<-Int.neg_tmod];unfold dO;rw[Y9 e];obtain⟨h,d⟩:=Int.eq_ofNat_of_zero_le (show 0<=-(a+1) by omega);rw[d];rfl
  go_in;go_wp2;go_ret;exact⟨by rw[c.j];rfl,rfl⟩
 .have c:av ((dO a b:Int)=a % b):=by
   show _=_;unfold dO;rw[Y2 e];obtain⟨h,d⟩:=Int.eq_ofNat_of_zero_le (show 0<=a by omega);rw[d];rfl
  go_in;go_wp2;go_ret;exact⟨by rw[c.j];rfl,rfl⟩
def jt(b:Int){a:Nat}(c:0<a):dO b a<a:=Nat.mod_lt _ c
structure xO where
 F:Int
 n:Int
 s:List UInt8
 y:Int
 am:Int
abbrev AY(a:xO):List Value:=[.int .i64 a.kind,.int .i64 a.n,.string ⟨a.s.toArray⟩,.int .i64 a.y,.int .i64 a.am]
structure bC where
 G:List (List UInt8)
 a0:List xO
 b4:List UInt8
 a:Int
 b:Int
 c:Int
 bN:List Nat
 b5:List Nat
abbrev BF(a:Nat):Value:=.pointer (some ⟨a,0,none⟩)
def bB(a:bC)(b:Int):List UInt8:=if a.G=[]then []else a.G.getD (dO b a.G.length) []
def strs_cell{e:World}{v:Value}{c:List (List UInt8)}{b:Nat}(f:Strs v c e)(h:b<c.length):∃a d,v=.slice (some ⟨a,0,none⟩) c.length d/\e.cell? ⟨a,b,none⟩=some (.string ⟨(c.getD b []).toArray⟩)/\a<e.heap.size:=by
 obtain⟨a,d,k,g,_,j⟩:=owns_cell f (i:=b) (x:=.string ⟨(c.getD b []).toArray⟩) (by simp[h]);exact⟨a,d,k,g,j⟩
def jF{w:World}{b:Nat}{i:Value}{s:bC}{rest:List Value}(l:w.heap[b]? = some (.cells (i::rest).toArray 35))(n:Strs i s.G w)(a:Int)(t:-9223372036854775808<=a)(u:a<=9223372036854775807)(z:s.G.length<=1000000) :
  Calls prog 15 #[.pointer (some ⟨b,0,none⟩),.int .i64 a] w λr d=>r=.returned (.string ⟨(bB s a).toArray⟩)/\al [] w d:=by
 have c0:w.cell? ⟨b,0,none⟩=some i:=cW l rfl;have D:=aq l;by_cases c:s.G=[]
 .have e:av (bB s a=[]):=av.mk (by unfold bB;rw[Y9 c]);obtain⟨ad,j,rfl⟩:=jr n;have A:s.G.length=0:=by rw[c];rfl
  rw[A]at c0;go_in;go_wp2;go_ret;exact⟨by rw[e.out];first|rfl|simp,al.refl [] w⟩
 .have m:0<s.G.length:=YM.2 c;have y:dO a s.G.length<s.G.length:=jt a m;obtain⟨k,j,rfl,E,F⟩:=strs_cell n y;have e:av (bB s a=s.G.getD (dO a s.G.length) []):=av.mk (by unfold bB;rw[Y2 c]);have q:=av.mk (tD a s.G.length t u m z);have I:((s.G.length:Int)==0)=false:=by simp;omega
  have G:(0:Int)<=↑(dO a s.G.length):=by omega
  have H:(↑(dO a s.G.length):Int) < ↑s.G.length:=by omega
  generalize dO a s.G.length=o at *
  generalize s.G.getD o []=B at *
  go_in;go_wp2;refine nM (λd=>d.cell? ⟨b,0,none⟩=some (.slice (some ⟨k,0,none⟩) s.G.length j)/\d.cell? ⟨k,o,none⟩=some (.string ⟨B.toArray⟩)) (L:=13) (by kernel_rfl) rfl (by kernel_rfl) (by kernel_rfl) ?_ (λx=>?_)
  .go_keep
  refine mx [0,1,2,3,4,5,6,7,8,9] ?_;iterate 10 (refine oz (v:=?_) rfl (by kernel_rfl) (λ_ _ _ f=>f) (by kernel_rfl) (by assumption) ?_ ?_;rotate_left;focus (intro w h;(try dsimp only at h);go_simp;(try with_reducible rfl));(try simp only[ih,ii,List.set]))
  refine my ?_;refine nK 10 (by kernel_rfl) rfl λp g=>?_;(go_simp;refine(q.out _).mono ?_;rintro C J ⟨rfl,rfl⟩);refine g.out _ _ ?_ (λx=>?_)
  .go_keep
  (try simp only[ih,ii,List.set]);refine mx [11,12] ?_;iterate 2 (refine oz (v:=?_) rfl (by kernel_rfl) (λ_ _ _ f=>f) (by kernel_rfl) (by assumption) ?_ ?_;rotate_left;focus (intro w h;(try dsimp only at h);go_simp;(try with_reducible rfl));(try simp only[ih,ii,List.set]))
  refine my ?_;refine mw (by kernel_rfl) rfl λp g=>?_;go_simp;refine g.out _ _ ?_;(try simp only[ih,ii,List.set]);go_wp2;go_ret;exact⟨by rw[e.out];rfl,(al.refl [] w).drew⟩
section
variable {d : List Th} {c e w' f g : World} {i : Nat} {a a' : Th}
structure aj(d:List Th)(e c:World):Prop where
 fr:al [] e c
 y:∀a∈d,a.At c
 O:∀a∈d,∀b,a.aX=some b->e.heap.size<=b
 a8:∀(i j:Nat) (a b:Th),i≠j->d[i]? = some a->d[j]? = some b->∀k,a.aX=some k->b.aX≠some k
def pD(c:World):aj [] c c:=⟨ay [] c,by simp,by simp,by simp⟩
def aj.L(b:aj d e c)(f:al [] c w'):aj d e w':=⟨b.fr.u f,λa g=>(b.y a g).L f (by simp),b.O,b.a8⟩
def yC(a:aj d e c):aj d e c.drew:=a.L (ay [] c).e7
def aj.ad(m:aj d e c)(j:Obj):aj (.obj c.heap.size j::d) e (c.alloc j):=by
 have n:al [] c (c.alloc j):=(ay [] c).ad j;refine⟨m.fr.u n,?_,?_,?_⟩
 .intro a b;rcases Yg.1 b with rfl|b
  .exact bG rfl
  .exact(m.y a b).L n (by simp)
 .intro a b h f;rcases Yg.1 b with rfl|b
  .simp[Th.aX]at f;subst f;exact m.fr.cV
  .exact m.O a b h f
 .intro i g a h o b f p k l;cases i with
  |zero=>
   cases g with
   |zero=>exact o rfl
   |succ g=>
    simp at b f;subst b;simp[Th.aX]at k;exact absurd ((m.y h (Yh f)).lt _ l) (by omega)
  |succ i=>
   cases g with
   |zero=>
    simp at b f;subst f;simp[Th.aX]at l;exact absurd ((m.y a (Yh b)).lt _ k) (by omega)
   |succ g=>exact m.a8 i g a h (by omega) (by simpa using b) (by simpa using f) p k l
def aj.bj{v:List Nat}(h:aj d e c)(o:d[i]? = some a)(z:al v c w')(x:∀b∈v,a.aX=some b)(F:a'.At w')(t:∀b,a'.aX=some b->a.aX=some b\/c.heap.size<=b):aj (d.set i a') e w':=by
 have u:=(YB.1 o).1;have A:=Yh o;have B:∀f∈d.set i a',f=a'\/∃l,l≠i/\d[l]? = some f:=by
  intro f g;obtain⟨l,k⟩:=List.getElem?_of_mem g;rw[YP]at k;split at k
  .simp[u]at k;exact Y8 k.symm
  .rename_i j;exact Ya ⟨l,λD=>j D.symm,k⟩
 refine⟨rF h.fr z (λb n=>h.O a A b (x b n)),?_,?_,?_⟩
 .intro f g;rcases B f g with rfl|⟨l,H,k⟩
  .exact F
  .exact(h.y f (Yh k)).L z λb n G=>h.a8 l i f a H k o b n (x b G)
 .intro f g r y;rcases B f g with rfl|⟨l,_,k⟩
  .rcases t r y with j|j
   .exact h.O a A r j
   .exact Yz h.fr.cV j
  .exact h.O f (Yh k) r y
 .intro l C f s q g m b n p;rw[YP]at g m;split at g
  .rename_i w;subst w;simp[u]at g;subst g;rw[Y2 q]at m;rcases t b n with j|j
   .exact h.a8 i C a s q o m b j p
   .exact absurd ((h.y s (Yh m)).lt b p) (by omega)
  .split at m
   .rename_i w E;subst E;simp[u]at m;subst m;rcases t b p with j|j
    .exact h.a8 l i f a q g o b n j
    .exact absurd ((h.y f (Yh g)).lt b n) (by omega)
   .exact h.a8 l C f s q g m b n p
def aj.cc(g:aj (a::d) e c):aj d e c:=⟨g.fr,λb f=>g.y b (Y5 _ f),λb f=>g.O b (Y5 _ f),λi k b h l f j=>g.a8 (i+1) (k+1) b h (by omega) (by simpa using f) (by simpa using j)⟩
def aj.a5{b j:Nat}{g:Array Value}{f:TypeId}(k:aj d e c)(h:d[i]? = some (.obj b (.cells g f)))(v:Value):aj (d.set i (.obj b (.cells (g.set! j v) f))) e (c.setCell ⟨b,j,none⟩ v):=
 k.bj h ((ay [b] c).c6 (p:=⟨b,j,none⟩) (by simp) v) (λl a=>by simp at a;rw[a];rfl) (by have:=k.y _ (Yh h);exact eE this v) (λl a=>Y8 a)
def aj.bb{R:Nat}{a:Obj}(f:aj d e c)(b:d[i]? = some (.obj R a)):c.heap[R]? = some a:=f.y _ (Yh b)
def aj.ca(f:aj d e c)(b:d[i]? = some a):a.At c:=f.y _ (Yh b)
def aj.aI{b:TypeId}{k x h a m l:Nat}{v:Value}{y o:List Value}(w:aj d e c)(s:d[i]? = some (.row b k v x y))(t:al [] c f)(u:g.ownsRow 0 b k (.slice (some ⟨a,0,none⟩) h m) h o)(j:f.grownBy g v.ownBlock)(q:v.ownBlock=some a\/a=l)(z:f.heap.size=l):aj (d.set i (.row b k (.slice (some ⟨a,0,none⟩) h m) h o)) e g:=by
 refine(w.L t).bj s (fI j) (λa j=>by simpa[Th.aX]using j) u ?_;intro p r;have b:p=a:=by simpa[Th.aX,tm]using r.symm
 subst b;rcases q with n|n
 .exact Y8 n
 .right;omega
def aj.e9{b j h:Nat}{v:Value}{a:List (List UInt8)}{k:List UInt8}(r:aj d e c)(o:d[i]? = some (cd v a))(p:al [] c f)(q:g.ownsRow 0 9 1 (.slice (some ⟨b,0,none⟩) (a.length+1) j) (a.length+1) ((a.map λs=>Value.string ⟨s.toArray⟩)++[.string ⟨k.toArray⟩]))(n:f.grownBy g v.ownBlock)(m:v.ownBlock=some b\/b=h)(l:f.heap.size=h):aj (d.set i (cd (.slice (some ⟨b,0,none⟩) (a.length+1) j) (a++[k]))) e g:=by
 have:=r.aI o p q n m l;simpa[cd]using this
end
section
variable {e l : World} {d : Nat} {s : bC} {h k g f : Value} {R : List Th}
structure aZ where
 F:Int
 x:Int
 a:Int
 b:Int
 c:Int
 s:List UInt8
abbrev aQ(d:aZ):Array Value:=#[.int .i64 d.F,.int .i64 d.x,.int .i64 d.a,.int .i64 d.b,.int .i64 d.c,.string ⟨d.s.toArray⟩]
abbrev wn(d:Nat)(s:bC)(h k g f:Value):Th:=.obj d (.cells #[h,k,.string ⟨s.b4.toArray⟩,.int .i64 s.a,.int .i64 s.b,.int .i64 s.c,g,f] 35)
abbrev lq(v:Value)(a:List xO):Th:=.row 52 5 v a.length (a.flatMap AY)
abbrev ot(b:TypeId)(v:Value)(a:List Nat):Th:=.row b 1 v a.length (a.map BF)
abbrev wL(d:Nat)(s:bC)(h k g f:Value)(R:List Th):List Th:=wn d s h k g f::cd h s.G::lq k s.a0::ot 37 g s.bN::ot 48 f s.b5::R
def vU(C:aj (wL d s h k g f R) l e)(b:aZ)(P:b.F=1)(S:s.G.length<=100000):Calls prog 24 #[.pointer (some ⟨d,0,none⟩),.agg (aQ b)] e λE N=>E=.returned (.bool true)/\∃M,aj (wL d { s with G:=s.G++[b.s] } M k g f R) l N:=by
 have n:=ac (C.ad (.cells (aQ b) 27));obtain⟨iO,m,rfl⟩:=jr (C.ca (i:=1) (a:=cd h s.G) rfl);obtain⟨G,H,I,J,K⟩:=info_parts jd;have L:(Value.string ⟨#[]⟩).cells.size=1:=rfl;go_in;have c:=n.j.bb (i:=1) (R:=d) rfl;have q:(e.alloc (.cells (aQ b) 27)).cell? ⟨d,0,none⟩=some (.slice iO s.G.length m):=cW c rfl;have r:=ec c;have u:=aq c;have A:av (∀o,((e.alloc (.cells (aQ b) 27)).alloc o).ownsRow 0 9 1 (.slice iO s.G.length m) s.G.length (s.G.map λs=>Value.string ⟨s.toArray⟩)):=ac (λo=>bh (n.j.ca (i:=2) (a:=cd (.slice iO s.G.length m) s.G) rfl) ((ay [] (e.alloc (.cells (aQ b) 27))).ad o) (by simp));have z:s.G.length+1<=maxLen:=by unfold maxLen;omega
 go_wp2_with (at_builtin;(refine wpList_append_lies _ (by rfl) _ _ _ (by rfl) 0 9 G _ 1 16 underlying30 H I J K L (by omega) (.slice iO s.G.length m) s.G.length (s.G.map λs=>Value.string ⟨s.toArray⟩) (by rfl) (A.j _) ⟨e.heap.size+1,0,none⟩ 1 1 [.string ⟨(b.s).toArray⟩] (by rfl) (by rfl) (World.news_of_block (cs:=#[.string ⟨(b.s).toArray⟩]) (t:=9) (fr:=(0,0)) (bG (by simp))) (by simp[Value.oneCell']) (by omega) z (by omega) (by simp) (e.heap.size+2) (by simp) ?_;intro w v O B y x F;have p:=ac (n.j.e9 (i:=2) rfl ((ay [] (e.alloc (.cells (aQ b) 27))).ad _) B y x (by simp));clear B y x F A z q r u;have c:=p.j.bb (i:=1) (R:=d) rfl;have q:O.cell? ⟨d,0,none⟩=some (.slice iO s.G.length m):=cW c rfl;have r:=ec c;have u:=aq c;clear c));go_wp2;go_ret;have D:=(p.j.a5 (i:=1) (j:=0) rfl (.slice (some ⟨w,0,none⟩) (s.G.length+1) v)).cc;exact⟨rfl,.slice (some ⟨w,0,none⟩) (s.G.length+1) v,by simpa using D⟩
end
section
variable {w h : World} {d : Nat} {s : bC} {k g f e : Value} {R : List Th}
def vT(m:aj (wL d s k g f e R) h w)(a:aZ)(i:a.F≠1)(j:a.F≠2)(l:a.F≠3):Calls prog 24 #[.pointer (some ⟨d,0,none⟩),.agg (aQ a)] w λc n=>c=.returned (.bool false)/\aj (wL d s k g f e R) h n:=by
 have b:=ac (m.ad (.cells (aQ a) 27));have o:(a.F==1)=false:=by simpa using i
 have p:(a.F==2)=false:=by simpa using j
 have q:(a.F==3)=false:=by simpa using l
 go_in;go_wp2;go_ret;exact⟨rfl,b.j.cc⟩
def jf(s:bC)(c:aZ):bC:=if(bB s c.a).length+(bB s c.b).length > 65536 then s else { s with G:=s.G++[bB s c.a++bB s c.b] }
abbrev eo(d:aZ):Prop:=(-9223372036854775808<=d.x/\d.x<=9223372036854775807)/\(-9223372036854775808<=d.a/\d.a<=9223372036854775807)/\(-9223372036854775808<=d.b/\d.b<=9223372036854775807)/\(-9223372036854775808<=d.c/\d.c<=9223372036854775807)
def vS(a1:aj (wL d s k g f e R) h w)(c:aZ)(b0:eo c)(u:c.F=3)(c7:s.G.length<=100000)(b3:∀o∈s.G,o.length<=1000000):Calls prog 24 #[.pointer (some ⟨d,0,none⟩),.agg (aQ c)] w λa8 B=>a8=.returned (.bool true)/\∃c2,aj (wL d (jf s c) c2 g f e R) h B:=by
 have x:=ac (a1.ad (.cells (aQ c) 27));obtain⟨iO,l,rfl⟩:=jr (a1.ca (i:=1) (a:=cd k s.G) rfl);have a0:∀z,(bB s z).length<=1000000:=λz=>by
  unfold bB;split
  .simp
  .rename_i a9;have u:=jt z (YM.2 a9);exact b3 _ (by simp[u])
 have c8:=a0 c.a;have c9:=a0 c.b;obtain⟨-,J,L,-⟩:=b0;obtain⟨b6,b7,b8,b9,c0⟩:=info_parts jd;have c1:(Value.string ⟨#[]⟩).cells.size=1:=rfl;have c5:(c.F==1)=false:=by rw[u];rfl
 have c6:(c.F==2)=false:=by rw[u];rfl
 have a4:=ac (jF (w:=w.alloc (.cells (aQ c) 27)) (s:=s) (x.j.bb (i:=1) (R:=d) rfl) (x.j.ca (i:=2) (a:=cd (.slice iO s.G.length l) s.G) rfl) c.a J.1 J.2 (by omega));have a5:av (∀v,aj (.obj w.heap.size (.cells (aQ c) 27)::wL d s (.slice iO s.G.length l) g f e R) h v->Calls prog 15 #[.pointer (some ⟨d,0,none⟩),.int .i64 c.b] v λA B=>A=.returned (.string ⟨(bB s c.b).toArray⟩)/\al [] v B):=ac (λv a2=>jF (s:=s) (a2.bb (i:=1) (R:=d) rfl) (a2.ca (i:=2) (a:=cd (.slice iO s.G.length l) s.G) rfl) c.b L.1 L.2 (by omega));have C:av (jf s c=if(bB s c.a).length+(bB s c.b).length > 65536 then s else { s with G:=s.G++[bB s c.a++bB s c.b] }):=ac rfl
 generalize bB s c.a=p at *
 generalize bB s c.b=q at *
 go_in;go_wp2_with fail;refine a4.j.mono ?_;rintro A c3 ⟨rfl,b4⟩;have y:=ac (x.j.L b4);generalize w.heap.size=a7 at *
 obtain⟨d0,d1,d2,d3,d4,d5,of,d6⟩:=hR (y.j.bb (i:=0) (R:=a7) rfl);have a6:=ac (a5.j c3 y.j);go_wp2_with fail;refine a6.j.mono ?_;rintro A n ⟨rfl,b5⟩;have r:=ac (y.j.L b5);by_cases M:p.length+q.length > 65536
 .have b1:(65536:Int) < ↑p.length+↑q.length:=by omega
  go_wp2;go_ret;rw[C.j,Y9 M];exact⟨rfl,_,r.j.cc⟩
 .have b1:¬(65536:Int) < ↑p.length+↑q.length:=by omega
  have m:=r.j.bb (i:=1) (R:=d) rfl;have E:n.cell? ⟨d,0,none⟩=some (.slice iO s.G.length l):=cW m rfl;have F:=ec m;have G:=aq m;have P:av (∀o,(n.alloc o).ownsRow 0 9 1 (.slice iO s.G.length l) s.G.length (s.G.map λs=>Value.string ⟨s.toArray⟩)):=ac (λo=>bh (r.j.ca (i:=2) (a:=cd (.slice iO s.G.length l) s.G) rfl) ((ay [] n).ad o) (by simp));have O:s.G.length+1<=maxLen:=by unfold maxLen;omega
  go_wp2_with (at_builtin;(refine wpList_append_lies _ (by rfl) _ _ _ (by rfl) 0 9 b6 _ 1 16 underlying30 b7 b8 b9 c0 c1 (by omega) (.slice iO s.G.length l) s.G.length (s.G.map λs=>Value.string ⟨s.toArray⟩) (by rfl) (P.j _) ⟨n.heap.size,0,none⟩ 1 1 [.string ⟨(p++q).toArray⟩] (by rfl) (by rfl) (World.news_of_block (cs:=#[.string ⟨(p++q).toArray⟩]) (t:=9) (fr:=(0,0)) (heap_alloc_new n _)) (by simp[Value.oneCell']) (by omega) O (by omega) (by simp) (n.heap.size+1) (by simp) ?_;intro I H c4 S N K b2;have D:=ac (r.j.e9 (i:=2) rfl ((ay [] n).ad _) S N K (by simp));clear S N K b2 P O E F G;have m:=D.j.bb (i:=1) (R:=d) rfl;have E:c4.cell? ⟨d,0,none⟩=some (.slice iO s.G.length l):=cW m rfl;have F:=ec m;have G:=aq m;clear m));go_wp2;go_ret;have a3:=(D.j.a5 (i:=1) (j:=0) rfl (.slice (some ⟨I,0,none⟩) (s.G.length+1) H)).cc;rw[C.j,Y2 M];exact⟨rfl,.slice (some ⟨I,0,none⟩) (s.G.length+1) H,by simpa using a3⟩
end
section
variable {w j : World} {d : Nat} {s : bC} {g h f e : Value} {R : List Th}
def mS(w:World)(a:TypeId)(c:ByteArray):al [] w (Lib.bytesWorld w a c):=by
 have b:=((ay [] w).e7).ad (.cells (Lib.bytesCells w a c) a);refine⟨b.os,b.lP,b.k0,by rw[Lib.bytesWorld_size];omega,λe d _=>Lib.bytesWorld_at_old w a c e d⟩
def fP(a:List UInt8)(b c:Int):List UInt8:=if a=[]then []else a.set (dO b a.length) (UInt8.ofNat (c % 256).toNat)
def vV(J:aj (wL d s g h f e R) j w)(k:aZ)(O:eo k)(a3:k.F=2)(c2:s.G.length<=100000)(N:bB s k.a=[]):Calls prog 24 #[.pointer (some ⟨d,0,none⟩),.agg (aQ k)] w λM b4=>M=.returned (.bool true)/\∃b3,aj (wL d { s with G:=s.G++[[]] } b3 h f e R) j b4:=by
 have n:=ac (J.ad (.cells (aQ k) 27));obtain⟨iO,m,rfl⟩:=jr (J.ca (i:=1) (a:=cd g s.G) rfl);obtain⟨-,D,b8,-⟩:=O;have b7:(k.F==1)=false:=by rw[a3];rfl
 have v:=ac (jF (w:=w.alloc (.cells (aQ k) 27)) (s:=s) (n.j.bb (i:=1) (R:=d) rfl) (n.j.ca (i:=2) (a:=cd (.slice iO s.G.length m) s.G) rfl) k.a D.1 D.2 (by omega));rw[N]at v;obtain⟨a7,a8,a9,b0,b1⟩:=info_parts jd;have b2:(Value.string ⟨#[]⟩).cells.size=1:=rfl;go_in;go_wp2_with fail;refine v.j.mono ?_;rintro b6 b ⟨rfl,a6⟩;have q:=ac (n.j.L a6);generalize w.heap.size=L at *
 obtain⟨c3,c4,c5,c6,c7,c8,of,c9⟩:=hR (q.j.bb (i:=0) (R:=L) rfl);have a0:=Lib.run_convert_string_bytes (P:=prog) b 9 97 5 ⟨#[]⟩ (u:=.string) (by kernel_rfl) (by kernel_rfl) (by kernel_rfl);have S:=run_convert_bytes_back (Lib.bytesWorld b 5 ⟨#[]⟩) 97 9 5 ⟨b.heap.size,0,none⟩ (grownCap b 0 0 5) [] underlying97 underlying5 underlying9 (λa5 a2=>by simp at a2);have o:=ac (q.j.L (mS b 5 ⟨#[]⟩));generalize a1:grownCap b 0 0 5=C at *
 generalize b9:Lib.bytesWorld b 5 ⟨#[]⟩=c at *
 have c1:(convert 9 97 (.string ⟨#[]⟩)).run prog b=.ok (.slice (some ⟨b.heap.size,0,none⟩) 0 C) c:=by rw[<-a1];exact a0
 have c0:(convert 97 9 (.slice (some ⟨b.heap.size,0,none⟩) 0 C)).run prog c=.ok (.string ⟨#[]⟩) c:=S;have l:=o.j.bb (i:=1) (R:=d) rfl;have x:c.cell? ⟨d,0,none⟩=some (.slice iO s.G.length m):=cW l rfl;have y:=ec l;have z:=aq l;have H:av (∀p,(c.alloc p).ownsRow 0 9 1 (.slice iO s.G.length m) s.G.length (s.G.map λs=>Value.string ⟨s.toArray⟩)):=ac (λp=>bh (o.j.ca (i:=2) (a:=cd (.slice iO s.G.length m) s.G) rfl) ((ay [] c).ad p) (by simp));have G:s.G.length+1<=maxLen:=by unfold maxLen;omega
 go_wp2_with (at_builtin;(refine wpList_append_lies _ (by rfl) _ _ _ (by rfl) 0 9 a7 _ 1 16 underlying30 a8 a9 b0 b1 b2 (by omega) (.slice iO s.G.length m) s.G.length (s.G.map λs=>Value.string ⟨s.toArray⟩) (by rfl) (H.j _) ⟨c.heap.size,0,none⟩ 1 1 [.string ⟨(([]:List UInt8)).toArray⟩] (by rfl) (by rfl) (World.news_of_block (cs:=#[.string ⟨(([]:List UInt8)).toArray⟩]) (t:=9) (fr:=(0,0)) (heap_alloc_new c _)) (by simp[Value.oneCell']) (by omega) G (by omega) (by simp) (c.heap.size+1) (by simp) ?_;intro B A b5 I F E a4;have r:=ac (o.j.e9 (i:=2) rfl ((ay [] c).ad _) I F E (by simp));clear I F E a4 H G x y z;have l:=r.j.bb (i:=1) (R:=d) rfl;have x:b5.cell? ⟨d,0,none⟩=some (.slice iO s.G.length m):=cW l rfl;have y:=ec l;have z:=aq l;clear l));go_wp2;go_ret;have K:=(r.j.a5 (i:=1) (j:=0) rfl (.slice (some ⟨B,0,none⟩) (s.G.length+1) A)).cc;exact⟨rfl,.slice (some ⟨B,0,none⟩) (s.G.length+1) A,by simpa using K⟩
def vW(c0:aj (wL d s g h f e R) j w)(n:aZ)(c9:eo n)(d2:n.F=2)(g1:s.G.length<=100000){k:List UInt8}(d7:bB s n.a=k)(a8:k≠[])(d8:k.length<=1000000):Calls prog 24 #[.pointer (some ⟨d,0,none⟩),.agg (aQ n)] w λa5 C=>a5=.returned (.bool true)/\∃f1,aj (wL d { s with G:=s.G++[fP k n.b n.c] } f1 h f e R) j C:=by
 have E:=ac (c0.ad (.cells (aQ n) 27));obtain⟨iO,A,rfl⟩:=jr (c0.ca (i:=1) (a:=cd g s.G) rfl);obtain⟨-,a9,b1,f5⟩:=c9;have f3:(n.F==1)=false:=by rw[d2];rfl
 have O:=ac (jF (w:=w.alloc (.cells (aQ n) 27)) (s:=s) (E.j.bb (i:=1) (R:=d) rfl) (E.j.ca (i:=2) (a:=cd (.slice iO s.G.length A) s.G) rfl) n.a a9.1 a9.2 (by omega));rw[d7]at O;have b9:0<k.length:=YM.2 a8;have d3:dO n.b k.length<k.length:=jt n.b b9;have c8:=ac (tD n.b k.length b1.1 b1.2 b9 d8);have c4:av (fP k n.b n.c=k.set (dO n.b k.length) (UInt8.ofNat (n.c % 256).toNat)):=ac (by unfold fP;rw[Y2 a8]);have f9:(0:Int)<=↑(dO n.b k.length):=by omega
 have g0:(↑(dO n.b k.length):Int) < ↑k.length:=by omega
 have f8:(0:Int) < ↑k.length:=by omega
 generalize dO n.b k.length=o at *
 obtain⟨e5,e6,e7,e8,e9⟩:=info_parts jd;have f0:(Value.string ⟨#[]⟩).cells.size=1:=rfl;go_in;go_wp2_with fail;refine O.j.mono ?_;rintro a4 l ⟨rfl,d9⟩;have F:=ac (E.j.L d9);generalize w.heap.size=B at *
 obtain⟨e0,e1,e2,c1,c2,e3,of,e4⟩:=hR (F.j.bb (i:=0) (R:=B) rfl);have f7:(convert 9 97 (.string ⟨k.toArray⟩)).run prog l=.ok (.slice (some ⟨l.heap.size,0,none⟩) k.length (grownCap l k.length 0 5)) (Lib.bytesWorld l 5 ⟨k.toArray⟩):=Lib.run_convert_string_bytes (P:=prog) l 9 97 5 ⟨k.toArray⟩ (u:=.string) (by kernel_rfl) (by kernel_rfl) (by kernel_rfl);have D:=ac (mS l 5 ⟨k.toArray⟩);have M:av (∀m,m<k.length->(Lib.bytesWorld l 5 ⟨k.toArray⟩).cell? ⟨l.heap.size,m,none⟩=some (.int .u8 (k.getD m 0).toNat)):=ac (λm x=>Lib.bytesWorld_cell l 5 ⟨k.toArray⟩ m x);have g3:=kk c1 D.j;have g4:=kk c2 D.j;have a3:=M.j o d3;have f4:(Lib.bytesWorld l 5 ⟨k.toArray⟩).frozen? ⟨l.heap.size,o,none⟩=false:=by
  have b6:=Lib.bytesWorld_at_new l 5 ⟨k.toArray⟩;have g2:o<(Lib.bytesCells l 5 ⟨k.toArray⟩).size:=by
   rcases Yj o (Lib.bytesCells l 5 ⟨k.toArray⟩).size with q|q
   .exact q
   .simp[World.cell?,b6,YO q]at a3
  simp[World.frozen?,b6];omega
 generalize grownCap l k.length 0 5=a7 at *
 generalize Lib.bytesWorld l 5 ⟨k.toArray⟩=z at *
 obtain⟨e0,e1,e2,c1,c2,e3,of,e4⟩:=hR (F.j.bb (i:=0) (R:=B) rfl);go_wp2;refine nM (λC=>C.cell? ⟨B,3,none⟩=some (.int .i64 n.b)/\C.cell? ⟨B,4,none⟩=some (.int .i64 n.c)) (L:=10) (by kernel_rfl) rfl (by kernel_rfl) (by kernel_rfl) ?_ (λd0=>?_)
 .go_keep
 refine mx [0,1,2,3,4,6,7,8] ?_;iterate 8 (refine oz (v:=?_) rfl (by kernel_rfl) (λ_ _ _ H=>H) (by kernel_rfl) (by assumption) ?_ ?_;rotate_left;focus (intro w K;(try dsimp only at K);go_simp;(try with_reducible rfl));(try simp only[ih,ii,List.set]))
 refine my ?_;refine nK 5 (by kernel_rfl) rfl λc5 J=>?_;(go_simp;refine(c8.j _).mono ?_;rintro a5 g5 ⟨rfl,rfl⟩);refine J.out _ _ ?_ (λd0=>?_)
 .go_keep
 (try simp only[ih,ii,List.set]);refine tk (i:=9) (v:=?_) rfl (by kernel_rfl) (λ_ _ _ H=>H) (by kernel_rfl) (by assumption) ?_ ?_;rotate_left
 .intro w K;(try dsimp only at K);go_simp;(try with_reducible rfl)
 (try simp only[ih,ii,List.set]);refine mw (by kernel_rfl) rfl λc5 J=>?_;go_simp;refine J.out _ _ ?_;(try simp only[ih,ii,List.set]);have d6:IntKind.wrap .u8 n.c=((UInt8.ofNat (n.c % 256).toNat).toNat:Int):=by
  rw[IntKind.wrap_u8];have q:(n.c % 256).toNat<256:=by omega
  simp;omega
 rw[d6];generalize UInt8.ofNat (n.c % 256).toNat=v at *
 have d5:∀m,m<k.length->((z.setCell ⟨l.heap.size,o,none⟩ (.int .u8 (v.toNat:Int))).drew).cell? ⟨l.heap.size,m,none⟩=some (.int .u8 ((k.set o v).getD m 0).toNat):=by
  intro m x;by_cases b3:m=o
  .subst b3;have q:(z.setCell ⟨l.heap.size,m,none⟩ (.int .u8 (v.toNat:Int))).cell? ⟨l.heap.size,m,none⟩=some (.int .u8 (v.toNat:Int)):=World.cell?_setCell_same _ _ _ a3;have I:(k.set m v).getD m 0=v:=by simp[x]
   rw[I];exact q
  .have b4:¬o=m:=λa4=>b3 a4.symm;have q:(z.setCell ⟨l.heap.size,o,none⟩ (.int .u8 (v.toNat:Int))).cell? ⟨l.heap.size,m,none⟩=z.cell? ⟨l.heap.size,m,none⟩:=World.cell?_setCell_other _ _ _ _ (by simp[b4]);have I:(k.set o v).getD m 0=k.getD m 0:=by simp[b4]
   rw[I];exact q.trans (M.j m x)
 have c6:al [] l (z.setCell ⟨l.heap.size,o,none⟩ (.int .u8 (v.toNat:Int))).drew:=(rF D.j ((ay [l.heap.size] z).c6 (p:=⟨l.heap.size,o,none⟩) (by simp) _) (by simp)).e7;have G:=ac (F.j.L c6);generalize (z.setCell ⟨l.heap.size,o,none⟩ (.int .u8 (v.toNat:Int))).drew=r at *
 have f6:(convert 97 9 (.slice (some ⟨l.heap.size,0,none⟩) k.length a7)).run prog r=.ok (.string ⟨(k.set o v).toArray⟩) r:=by
  have q:=run_convert_bytes_back r 97 9 5 ⟨l.heap.size,0,none⟩ a7 (k.set o v) underlying97 underlying5 underlying9 (λm x=>by
   have d1:(⟨l.heap.size,0,none⟩:Addr).add m=⟨l.heap.size,m,none⟩:=by unfold Addr.add;split<;>simp_all
   rw[d1,d5 m (by simpa using x)];simp at x;simp[x])
  rw[YF]at q;exact q
 generalize k.set o v=c3 at *
 have y:=G.j.bb (i:=1) (R:=d) rfl;have S:r.cell? ⟨d,0,none⟩=some (.slice iO s.G.length A):=cW y rfl;have a0:=ec y;have a1:=aq y;have b7:av (∀k,(r.alloc k).ownsRow 0 9 1 (.slice iO s.G.length A) s.G.length (s.G.map λs=>Value.string ⟨s.toArray⟩)):=ac (λk=>bh (G.j.ca (i:=2) (a:=cd (.slice iO s.G.length A) s.G) rfl) ((ay [] r).ad k) (by simp));have b5:s.G.length+1<=maxLen:=by unfold maxLen;omega
 go_wp2_with (at_builtin;(refine wpList_append_lies _ (by rfl) _ _ _ (by rfl) 0 9 e5 _ 1 16 underlying30 e6 e7 e8 e9 f0 (by omega) (.slice iO s.G.length A) s.G.length (s.G.map λs=>Value.string ⟨s.toArray⟩) (by rfl) (b7.j _) ⟨r.heap.size,0,none⟩ 1 1 [.string ⟨(c3).toArray⟩] (by rfl) (by rfl) (World.news_of_block (cs:=#[.string ⟨(c3).toArray⟩]) (t:=9) (fr:=(0,0)) (heap_alloc_new r _)) (by simp[Value.oneCell']) (by omega) b5 (by omega) (by simp) (r.heap.size+1) (by simp) ?_;intro a6 a2 f2 b8 b2 b0 d4;have N:=ac (G.j.e9 (i:=2) rfl ((ay [] r).ad _) b8 b2 b0 (by simp));clear b8 b2 b0 d4 b7 b5 S a0 a1;have y:=N.j.bb (i:=1) (R:=d) rfl;have S:f2.cell? ⟨d,0,none⟩=some (.slice iO s.G.length A):=cW y rfl;have a0:=ec y;have a1:=aq y;clear y));go_wp2;go_ret;have c7:=(N.j.a5 (i:=1) (j:=0) rfl (.slice (some ⟨a6,0,none⟩) (s.G.length+1) a2)).cc;rw[c4.j];exact⟨rfl,.slice (some ⟨a6,0,none⟩) (s.G.length+1) a2,by simpa using c7⟩
end
section
variable {f l : World} {e : Nat} {d : bC} {m k h g : Value} {R : List Th}
def fk(d:bC)(e:aZ):Option bC:=
 if e.F=1 then some { d with G:=d.G++[e.s] }
 else if e.F=2 then some { d with G:=d.G++[fP (bB d e.a) e.b e.c] }
 else if e.F=3 then some (jf d e)
 else none
def gG(d:bC)(e:Nat)(k h g:Value)(R:List Th)(l:World)(f:Option bC)(b:Ending)(c:World):Prop:=match f with
 |some i=>b=.returned (.bool true)/\∃a,aj (wL e i a k h g R) l c
 |none=>b=.returned (.bool false)/\∃a,aj (wL e d a k h g R) l c
def vM(e:∀f∈d.G,f.length<=1000000)(a:Int):(bB d a).length<=1000000:=by
 unfold bB;split
 .simp
 .rename_i b;have c:=jt a (YM.2 b);exact e _ (by simp[c])
def vR(n:aj (wL e d m k h g R) l f)(i:aZ)(r:eo i)(q:d.G.length<=100000)(t:∀v∈d.G,v.length<=1000000):Calls prog 24 #[.pointer (some ⟨e,0,none⟩),.agg (aQ i)] f (gG d e k h g R l (fk d i)):=by
 unfold fk;by_cases o:i.F=1
 .rw[Y9 o];exact vU n i o q
 .rw[Y2 o];by_cases j:i.F=2
  .rw[Y9 j];by_cases s:bB d i.a=[]
   .have:fP (bB d i.a) i.b i.c=[]:=by unfold fP;rw[Y9 s]
    rw[this];exact vV n i r j q s
   .exact vW n i r j q rfl s (vM t i.a)
  .rw[Y2 j];by_cases p:i.F=3
   .rw[Y9 p];exact vS n i r p q t
   .rw[Y2 p];refine(vT n i o j p).mono ?_;rintro w x ⟨rfl,u⟩;exact⟨rfl,m,u⟩
def tp(q:aj (wL e d m k h g R) l f)(n:aZ)(p:n.F=7):Calls prog 14 #[.pointer (some ⟨e,0,none⟩),.agg (aQ n)] f λt u=>t=.returned (.bool true)/\aj (wL e { d with a:=n.a,b:=n.b,c:=n.c } m k h g R) l u:=by
 have r:=ac q;have o:=q.bb (i:=0) (R:=e) rfl;have v:f.cell? ⟨e,3,none⟩=some (.int .i64 d.a):=cW o rfl;have w:f.cell? ⟨e,4,none⟩=some (.int .i64 d.b):=cW o rfl;have x:f.cell? ⟨e,5,none⟩=some (.int .i64 d.c):=cW o rfl;have y:=ec o;have z:=aq o;have A:(n.F==4)=false:=by rw[p];rfl
 have B:(n.F==5)=false:=by rw[p];rfl
 have C:(n.F==6)=false:=by rw[p];rfl
 go_in;go_wp2;go_ret;have s:=((((r.j.a5 (i:=0) (j:=3) rfl (.int .i64 n.a)).a5 (i:=0) (j:=4) rfl (.int .i64 n.b)).a5 (i:=0) (j:=5) rfl (.int .i64 n.c)).ad (.cells (aQ n) 27)).cc;exact⟨rfl,s⟩
def tq(n:aj (wL e d m k h g R) l f)(a:aZ)(b:a.F=8):Calls prog 14 #[.pointer (some ⟨e,0,none⟩),.agg (aQ a)] f λq r=>q=.returned (.bool true)/\aj (wL e { d with b4:=a.s } m k h g R) l r:=by
 have o:=ac n;have c:=n.bb (i:=0) (R:=e) rfl;have s:f.cell? ⟨e,2,none⟩=some (.string ⟨d.b4.toArray⟩):=cW c rfl;have t:=ec c;have u:=aq c;have v:(a.F==4)=false:=by rw[b];rfl
 have w:(a.F==5)=false:=by rw[b];rfl
 have x:(a.F==6)=false:=by rw[b];rfl
 have y:(a.F==7)=false:=by rw[b];rfl
 go_in;go_wp2;go_ret;have p:=((o.j.a5 (i:=0) (j:=2) rfl (.string ⟨a.s.toArray⟩)).ad (.cells (aQ a) 27)).cc;exact⟨rfl,p⟩
end
end Go.Proofs.YtjdhaegijjednaaGreatDoor
