import Derived.Test.YtjdhaegijjednaaGreatDoorT2
import Derived.Deep.CutBlock
import Derived.Deep.DeepCutAuto
import Derived.Laws.OwnMore
import Derived.Deep.OwnRows
set_option linter.all false
set_option maxRecDepth 100000
set_option maxHeartbeats 4000000
namespace Go.Proofs.YtjdhaegijjednaaGreatDoor
open Go.RowKit
open Go.Proofs.Tryz
section
variable {e m : Nat -> Prop} {d c k : Nat} {t : Zb} {a q : ae} {b p f g h : Zw} {l : PV} {j : List Th} {i : Nat} {n o : Th}
def Ei(e:Nat->Prop)(d:Nat)(t:Zb)(c:Nat)(a:(Int×Zb×Zc)×ae)(b:Zw)(h:Ending)(f:Zw):Prop:=∃g,h=.returned (.tuple #[U a.1.1,.string ⟨a.1.2.1.toArray⟩,g])/\aN e d t c a.2 [ci g a.1.2.2] b f/\a.1.2.1.length<=5000
def zu{v:Zv}{names:Zc}(A:aN e d t c a [ci v names] b b)(N:names.length<=1000000)(L:c+10<=1000000000):Calls prog 154 #[Zp d,v] b (Ei e d t (c+2) (cM t names a) b):=by
 obtain⟨gV,w,rfl⟩:=ce (A.m _ Yb);have k:=Z A;go_in;go_wp2_with fail;refine(gs k.j.ax 2 [118,111,105,100]).mono ?_;rintro J c2 ⟨rfl,rfl⟩;cases c0:aH a 2 [118,111,105,100]with
 |true=>
  have p:ac (cM t names a=((-1,[118,111,105,100,59,32],names),af t 4 [59] (aW t a))):=by show _=_;unfold cM;simp_all
  go_wp2_with fail;refine aM k (gZ ·) λg l=>?_;go_wp2_with fail;refine aM l (cY · 4 [59]) λh n=>?_;go_wp2;go_ret3;rw[p.j];exact⟨_,rfl,n.j.a0 (by omega),by simp⟩
 |false=>
  go_wp2_with fail;refine(wM k.j.ax (names:=names) (k.j.bq (i:=0) rfl) (λb3 K=>qv (i:=0) rfl K) N false L).mono ?_;rintro J g ⟨rfl,a9,a5,a6,a7,a8⟩;have l:=Z (k.j.call ⟨a9,a5⟩);generalize b6:ch t names false a=b0 at *
  obtain⟨⟨b1,m,q,f⟩,b2⟩:=b0;have p:ac (cM t names a=((b1,m++f.text++q++[59,32],names++[f.text]),af t 4 [59] b2)):=by show _=_;simp_all[cM]
  simp only at l a6 a7 a8;have n:=Z (l.j.B (oW f));go_wp2_with fail;refine aM n (cY · 4 [59]) λj o=>?_;obtain⟨B,C,D,E,F,G,H,I⟩:=o.j.al (i:=0) rfl;obtain⟨a4,M,a0,a1,a2⟩:=info_parts oo;have a3:(Value.string ⟨#[]⟩).cells.size=1:=rfl;have S:ac (∀r,(j.alloc r).ownsRow 0 9 1 (.slice gV names.length w) names.length (names.map λs=>Zs s)):=Z (λr=>bi (o.j.bq (i:=1) rfl) ((ak [] j).B r) (by simp));have O:names.length+1<=maxLen:=by unfold maxLen;omega
  have P:(names.length+1)*16<=140737488355328:=by omega
  go_wp2_with (at_builtin;go_must (refine wpList_append_lies _ (by rfl) _ _ _ (by rfl) 0 9 a4 _ 1 16 underlying30 M a0 a1 a2 a3 (by omega) (.slice gV names.length w) names.length (names.map λs=>Zs s) (by rfl) (S.j _) ⟨j.heap.size,0,none⟩ 1 1 [Zs f.text] (by rfl) (by rfl) (World.news_of_block (cs:=#[Zs f.text]) (t:=9) (fr:=(0,0)) (heap_alloc_new j _)) (by simp[Value.oneCell']) (by omega) O P (by simp) (j.heap.size+1) (by simp) ?_;intro b5 b4 c1 z y x R;have u:=Z (o.j.g5 (i:=1) rfl ((ak [] j).B _) z y x (by simp));clear z y x R B C D E F G H I;obtain⟨B,C,D,E,F,G,H,I⟩:=u.j.al (i:=0) rfl));have b7:¬(9223372036854775807<m.length+f.text.length):=by omega
  have b8:¬(9223372036854775807<m.length+f.text.length+q.length):=by omega
  have b9:¬(9223372036854775807<m.length+f.text.length+q.length+2):=by omega
  go_region;go_wp2;go_ret3;rw[p.j];refine⟨_,?_,u.j.aq.b3,by grind⟩;rfl
end
section
variable {t : Zb} {b c d : ae}
def aX(b c:ae):Prop:=b.s.e≠0->c.s.e=b.s.e/\c.s.a=b.s.a
theorem dV(b:ae):aX b b:=λ_=>⟨rfl,rfl⟩
theorem aX.u(a:aX b c)(f:aX c d):aX b d:=λe=>by
 obtain⟨g,h⟩:=a e;obtain⟨i,j⟩:=f (by omega);omega
theorem kj(c a:Int)(b:ae):aX b (bL c a b):=λd=>by simp[bL,hk,d]
theorem pO(b:ae):aX b (dj b):=λa=>by
 grind [dj,jQ,ma,hk]
theorem hp(b:ae):aX b (aW t b):=λ_=>⟨rfl,rfl⟩
theorem aZ(a:Nat)(c:Zb)(b:ae):aX b (af t a c b):=by
 unfold af mE;split
 .exact λ_=>⟨rfl,rfl⟩
 .exact pO b
theorem rt(b:ae):aX b (cV t b).2:=by
 unfold cV ig;split
 .exact dV b
 .split
  .exact λ_=>⟨rfl,rfl⟩
  .exact pO b
def oE(a:Int)(b:ae):aX b (aR t a b).2:=by
 unfold aR;split
 .exact rt b
 .split
  .exact(rt b).u (kj _ _ _)
  .exact(rt b).u λ_=>⟨rfl,rfl⟩
def CR(c a:Int)(b:ae):aX b (aD c a b):=by
 unfold aD jp;split
 .split
  .exact(pO b).u (kj _ _ _)
  .exact pO b
 grind [kj,dV]
theorem qN{n m:Int}(c:m<=n)(b:ae):(aD n m b).s.e≠0:=by
 unfold aD jp;generalize (if b.s.e=0/\b.s.x.C=5 then dj b else b)=a
 by_cases d:a.s.e=0;all_goals simp_all[bL,hk]
def Jg{a:Nat}{c:Zb}(d:aH b a c=true):b.s.e=0:=by
 grind [aH,hB]
def su{a:Nat}{c:Zb}(d:b.s.e≠0):aH b a c=false:=by
 unfold aH hB;grind
theorem Qn(c a d:Int)(b:ae):aX b (fF t c a d b).2:=by
 grind [fF,kj,hp]
theorem hc(c a:Int)(b:ae):aX b (bn t c a b).2:=by
 grind [bn,dV,Qn,kj,pO]
def fw(a:bg)(b:ae):aX b (cm a b):=λ_=>⟨rfl,rfl⟩
def mw(a:Zb)(b:ae):aX b (er a b):=λ_=>⟨rfl,rfl⟩
theorem CT(c:Zb)(a:Int)(b:ae):aX b (du c a b):=by
 unfold du;simp only;split<;>exact λ_=>⟨rfl,rfl⟩
def rs(c:Zb)(a:Int)(b:ae):aX b (dq c a b):=by
 unfold dq;split<;>exact λ_=>⟨rfl,rfl⟩
def Qs(b:ae):aX b (iC t b).2:=by
 grind [iC,hp,dV]
theorem CS(b:ae):aX b (cq t b).2:=by
 unfold cq;split
 .exact dV b
 .split
  .exact(hp b).u (fw _ _)
  .split
   .exact hp b
   .split
    .exact hp b
    .split
     .exact hp b
     .split
      .exact(hp b).u (Qs _)
      .exact pO b
def kY(a:Bool)(b:ae):aX b (bw t a b).2:=by
 unfold bw;split
 .exact(aZ _ _ _).u ((hc _ _ _).u (aZ _ _ _))
 .simp only;split
  .exact(aZ _ _ _).u (aZ _ _ _)
  .exact(aZ _ _ _).u ((hc _ _ _).u (aZ _ _ _))
theorem lH(c:Zc)(all:Bool)(b:ae):aX b (cd t c all b).2:=by
 unfold cd;simp only;generalize e:cV t b=a;have d:aX b a.2:=by rw[<-e];exact rt b
 generalize (if all=true then decide (0<=bP a.2 a.1.text)else c.contains a.1.text)=f
 split
 .exact d.u (kj _ _ _)
 omega
theorem Qk(d:Zc)(all e:Bool)(b:ae):aX b (gu t d all e b).2:=by
 unfold gu;simp only;generalize g:cd t d all (aW t b)=f;have a:aX b f.2:=by rw[<-g];exact(hp _).u (lH _ _ _)
 by_cases c:aH f.2 4 [91]=true/\e=true
 .rw[Y9 c];exact a.u ((kY _ _).u (fw _ _))
 .rw[Y2 c];exact a.u ((kY _ _).u (fw _ _))
theorem Qj(h:Zc)(all:Bool)(b:ae):aX b (gr t h all b).2:=by
 unfold gr;simp only;generalize j:cq t b=a;have d:aX b a.2:=by rw[<-j];exact CS _
 by_cases f:aH a.2 4 [42]=true
 .rw[Y9 f];exact d.u ((hp _).u ((lH _ _ _).u (fw _ _)))
 .rw[Y2 f];generalize k:cd t h all a.2=c;have e:aX b c.2:=by rw[<-k];exact d.u (lH _ _ _)
  by_cases g:aH c.2 4 [91]=true
  .rw[Y9 g];exact e.u ((kY _ _).u (fw _ _))
  .rw[Y2 g];by_cases i:aH c.2 4 [60]=true
   .rw[Y9 i];exact e.u ((kY _ _).u (fw _ _))
   simp_all
def vE(a:Zc)(all:Bool)(b:ae):aX b (ch t a all b).2:=by
 grind [ch,Qk,Qj]
theorem CV(b:ae):aX b (bZ t b).2:=by
 unfold bZ;split
 .grind [kj,hp]
 .split
  .split
   .exact hp b
   .split
    .exact hp b
    .split
     .exact(hp b).u (hp _)
     .exact hp b
  .exact pO b
def vD(a:Zc)(b:ae):aX b (cM t a b).2:=by
 unfold cM;split
 .exact(hp b).u (aZ _ _ _)
 .exact(vE _ _ _).u (aZ _ _ _)
def rr(b:ae):aX b (es t b).2:=by
 grind [es,hp,CS]
def kk(a:Prop)[Decidable a](d c:Int)(b:ae):aX b (if a then bL d c b else b):=by
 grind [kj,dV]
def mv(a:List Int)(b:ae):aX b (bS t a b).2:=by
 unfold bS;exact(aZ _ _ _).u ((hc _ _ _).u ((kk _ _ _ _).u (aZ _ _ _)))
def Sm(b c:ae):Prop:=c = { b with s:=c.s }
theorem Sm.u(a:Sm b c)(e:Sm c d):Sm b d:=by
 unfold Sm at *
 grind
def vA(c a:Int)(b:ae):Sm b (bL c a b):=rfl
def ta(b:ae):Sm b (dj b):=rfl
def eu(b:ae):Sm b (aW t b):=rfl
def az(a:Nat)(c:Zb)(b:ae):Sm b (af t a c b):=rfl
def ki(b:ae):Sm b (cV t b).2:=rfl
def jv(a:Prop)[Decidable a](d c:Int)(b:ae):Sm b (if a then bL d c b else b):=by
 split<;>rfl
def cD(c a:Int)(b:ae):Sm b (aD c a b):=by
 unfold aD jp;repeat' split
 all_goals rfl
def fZ(c a:Int)(b:ae):Sm b (bn t c a b).2:=by
 unfold bn fF;repeat' split
 all_goals rfl
def oC(b:ae):Sm b (bZ t b).2:=by
 unfold bZ;repeat' split
 all_goals rfl
theorem Sm.w(a:Sm b c):c.w=b.w:=by rw[a]
theorem Sm.A(a:Sm b c):c.A=b.A:=by rw[a]
theorem Sm.O(a:Sm b c):c.O=b.O:=by rw[a]
end
section
variable {f p : Nat -> Prop} {d c o : Nat} {t : Zb} {a g : ae} {b u j l k : Zw} {h : PV} {n : List Th} {i : Nat} {q r : Th}
def ju:Zv->Nat
 |.slice _ a _=>a
 |_=>0
def gW(of:Int)(v:(Int×Int)×ae):ae:=if v.2.s.e=0/\4<of/\(fG v.2 of).bD.contains v.1.1=false then bL 8 v.1.2 v.2 else v.2
def fJ(d:List Int)(c b:Int)(a:ae):ae:=if a.s.e=0/\d.contains c=true then bL 6 b a else a
def wx(t:Zb)(of:Int)(c:List Int)(d:Zb)(b:Int)(a:ae):(List Int×Zb)×ae:=
 if aH (af t 4 [58] a) 2 [99,97,115,101]=true then cy t of (14-(c++[b]).length) (c++[b]) (d++[99,97,115,101,32]++bO b++[58,32]) (af t 4 [58] a)
 else ((c++[b],d++[99,97,115,101,32]++bO b++[58,32]),af t 4 [58] a)
def zD{of:Int}{b:Nat}{c:List Int}{d:Zb}(f:a.s.e≠0):cy t of b c d a=((c,d),a):=by
 cases b<;>simp_all[cy]
def FN{of:Int}{nums:List Int}{out:Zb}{v:(Int×Int)×ae}(e:a.s.e=0)(f:nums.length<=12)(d:bn t (eN of) (eM of) (af t 2 [99,97,115,101] (aD nums.length 12 a))=v):cy t of (14-nums.length) nums out a=wx t of nums out v.1.1 (fJ nums v.1.1 v.1.2 (gW of v)):=by
 have b:14-nums.length=(13-nums.length)+1:=by omega
 have c:14-(nums++[v.1.1]).length=13-nums.length:=by simp
 unfold wx;rw[c,b];rw[cy,Y2 (by omega)];simp only[d];rfl
def Ej(f:Nat->Prop)(d:Nat)(t:Zb)(c:Nat)(a:(List Int×Zb)×ae)(b:Zw)(g:Ending)(j:Zw):Prop:=∃e,g=.returned (.tuple #[e,.string ⟨a.1.2.toArray⟩])/\aN f d t c a.2 [dw e a.1.1] b j/\a.1.2.length<=400/\a.1.1.length<=13
def FT{v:Zv}{u:List Int}(m:aN f d t c a [dw v u] b b)(of:Int)(k3:0<=of/\(4<of->of<a.w.length))(g9:∀b0∈a.w,b0.bD.length<=1000)(f6:u.length<=12)(e8:c<=1000000000):Calls prog 153 #[Zp d,U of,v] b (Ej f d t c (cy t of (14-u.length) u [] a) b):=by
 obtain⟨gV,A,rfl⟩:=ce (m.m _ Yb);obtain⟨j,rfl⟩:∃j:Nat,of=j:=⟨of.toNat,by omega⟩;have c8:=Z m;obtain⟨h6,f4,h2,h3,h4⟩:=info_parts om;have h5:(U 0).cells.size=1:=rfl;go_in;go_wp2;go_loopw [2,8] (λv M i2=>∃(gV:Option Addr) (A:Nat) (n:List Int) (w:Zb) (g:ae),v=.slice gV n.length A/\M=Zs w/\n.length<=12/\w.length<=20*n.length/\ac (aN f d t c g [dw (.slice gV n.length A) n] b i2)/\ac (cy t j (14-n.length) n w g=cy t j (14-u.length) u [] a)/\ac (g.w=a.w)) (λv _ _=>14-ju v)
 case atStart=>exact⟨gV,A,u,[],a,rfl,rfl,f6,by simp,c8,Z rfl,Z rfl⟩
 case round=>
  obtain⟨gV,A,n,w,y,rfl,rfl,f8,f9,a2,b4,d7⟩:=hrel;obtain⟨h,D⟩:=a2.j.ax;obtain⟨i4,j0,j1,j2,j3,j4,b8,j5,j6,i5,a4,i6,i7,i8,i9,J,a9⟩:=D.al;by_cases c2:y.s.e=0
  .have e9:(y.s.e==0)=true:=by simp_all
   have d3:=Z c2;go_wp2_with fail;refine aM a2 (kM · n.length 12) λl c9=>?_;go_wp2_with fail;refine aM c9 (cY · 2 [99,97,115,101]) λk d0=>?_;have f9:(-2147483648:Int)<=eN j:=by unfold eN;omega
   have j9:eM j<=(4294967295:Int):=by unfold eM;omega
   go_upto_block 2 with fail;go_cut [9,10] (λh8 f3 wc=>h8=U (eN j)/\f3=U (eM j)/\wc=k);case first=>
    by_cases e7:(j:Int)=1
    .have L:eN j=0:=by unfold eN;omega
     have K:eM j=4294967295:=by unfold eM;omega
     have e5:((j:Int)==1)=true:=by rw[e7];rfl
     have B:=Z (Yp L K);go_wp2;go_meet;rw[B.j.1,B.j.2];simp
    .have e5:((j:Int)==1)=false:=by rw[Yi];omega
     by_cases C:(j:Int)=4
     .have L:eN j=0:=by unfold eN;omega
      have K:eM j=1:=by unfold eM;omega
      have e6:((j:Int)==4)=true:=by rw[C];rfl
      have B:=Z (Yp L K);go_wp2;go_meet;rw[B.j.1,B.j.2];simp
     .have L:eN j = -2147483648:=by unfold eN;omega
      have K:eM j=2147483647:=by unfold eM;omega
      have e6:((j:Int)==4)=false:=by rw[Yi];omega
      have B:=Z (Yp L K);go_wp2;go_meet;rw[B.j.1,B.j.2];simp
   case rest=>
    obtain⟨rfl,rfl,rfl⟩:=hcut;go_wp2_with fail;refine aM d0 (tm · (eN j) (eM j) e8) λi3 R=>?_;have h1:=tl (t:=t) (eN j) (eM j) (af t 2 [99,97,115,101] (aD n.length 12 y));have b5:=Z (FN (t:=t) (of:=j) (nums:=n) (out:=w) d3.j f8 rfl);have c6:=Z ((aZ (t:=t) 2 [99,97,115,101] (aD n.length 12 y)).u (hc (t:=t) (eN j) (eM j) _));have P:=Z ((((cD n.length 12 y).u (az (t:=t) 2 [99,97,115,101] _)).u (fZ (t:=t) (eN j) (eM j) _)).w.trans d7.j);generalize bn t (eN j) (eM j) (af t 2 [99,97,115,101] (aD n.length 12 y))=b0 at *
    obtain⟨⟨o,q⟩,p⟩:=b0;simp only at R h1 b5 c6 P;have k2:(-2147483648:Int)<=o/\o<=4294967295:=by omega
    obtain⟨h,D⟩:=R.j.ax;obtain⟨-,-,-,-,-,-,b8,-,-,-,a4,-,-,-,-,J,a9⟩:=D.al;have b6:=Z D;go_upto_region 15 with fail;go_cut [48] (λa3 wc=>a3=.bool (decide (p.s.e=0/\(4:Int)<j))/\wc=i3);case first=>
     by_cases I:p.s.e=0
     .have f0:(p.s.e==0)=true:=by rw[I];rfl
      by_cases O:(4:Int)<j
      .have z:ac (decide (p.s.e=0/\(4:Int)<j)=true):=Z (by simp[I,O]);go_wp2;go_meet;simp_all
      .have z:ac (decide (p.s.e=0/\(4:Int)<j)=false):=Z (by simp[O]);go_wp2;go_meet;simp_all
     .have f0:(p.s.e==0)=false:=by rw[Yi];omega
      have z:ac (decide (p.s.e=0/\(4:Int)<j)=false):=Z (by simp[I]);go_wp2;go_meet;simp_all
    case rest=>
     obtain⟨rfl,rfl⟩:=hcut;generalize g6:decide (p.s.e=0/\(4:Int)<j)=i0;have z:=Z g6;go_upto_if 48 with fail;go_cut [] (λwc=>ac (aN f d t c (gW j ((o,q),p)) [dw (.slice gV n.length A) n] b wc));case first=>
      cases i0 with
      |false=>
       have C:ac (gW j ((o,q),p)=p):=Z (by unfold gW;rw[Y2 (λx=>of_decide_eq_false z.j ⟨x.1,x.2.1⟩)]);go_wp2;go_meet;rw[C.j];omega
      |true=>
       obtain⟨I,O⟩:=of_decide_eq_true z.j;have d4:=Z I;have a8:j<p.w.length:=by rw[P.j];omega
       obtain⟨j8,j7,h9,h0,g5,-,-,-,l0,-,-,-,-,l1,l2,-⟩:=sW b6.j (i:=j) a8;have f7:=(b6.j.e8 j (p.w.getD j cS) h9 (by simp[a8]) g5).1;have c5:ac (fG p j=p.w.getD j cS):=Z rfl;have g8:(p.w.getD j cS).bD.length<=1000000000:=(by have:=g9 (p.w.getD j cS) (by rw[<-P.j];simp[a8]);omega);have k0:((j:Int)<(p.w.length:Int)):=by omega
       have d5:=Z O;rw[h0]at b8;have e3:=Z (sr (dI.b8 f7) g8 o);go_wp2_with fail;refine e3.j.mono ?_;rintro a5 b1 ⟨rfl,rfl⟩;cases f5:(p.w.getD j cS).bD.contains o with
       |true=>
        have C:ac (gW j ((o,q),p)=p):=Z (by unfold gW;rw[Y2 (λx=>by simp only at x;rw[c5.j,f5]at x;exact absurd x.2.2 (by simp))]);go_wp2;go_meet;rw[C.j];omega
       |false=>
        have C:ac (gW j ((o,q),p)=bL 8 q p):=Z (by unfold gW;rw[Y9 ⟨d4.j,d5.j,by simp only;rw[c5.j];omega⟩]);go_wp2_with fail;refine aM R (jo · 8 q) λc7 a0=>?_;go_wp2;go_meet;rw[C.j];omega
     case rest=>
      rename Zw=>k7;have S:=hcut;have e0:ac (aX (aD n.length 12 y) (gW j ((o,q),p))):=Z (c6.j.u (by unfold gW;split;exact kj 8 q p;exact dV _));have d6:ac ((gW j ((o,q),p)).w=a.w):=Z (by unfold gW;split<;>exact P.j);generalize gW j ((o,q),p)=r at *
      obtain⟨h,D⟩:=S.j.ax;obtain⟨-,-,-,-,-,-,-,-,-,-,a4,-,-,-,-,J,a9⟩:=D.al;have e4:=Z (sr (dI.b8 (S.j.bq (i:=0) rfl)) (by omega) o);go_wp2_with fail;refine e4.j.mono ?_;rintro a5 b1 ⟨rfl,rfl⟩;generalize f2:n.contains o=G at *
      have b7:=Z f2;go_upto_region 20 with fail;go_cut [75] (λa3 wc=>a3=.bool (decide (r.s.e=0)&&G)/\wc=b1);case first=>
       by_cases a7:r.s.e=0
       .have f1:(r.s.e==0)=true:=by rw[a7];rfl
        have z:ac ((decide (r.s.e=0)&&G)=G):=Z (by simp[a7]);go_wp2;go_meet;simp_all
       .have f1:(r.s.e==0)=false:=by rw[Yi];omega
        have z:ac ((decide (r.s.e=0)&&G)=false):=Z (by simp[a7]);go_wp2;go_meet;simp_all
      case rest=>
       obtain⟨rfl,rfl⟩:=hcut;generalize g7:(decide (r.s.e=0)&&G)=i1;have z:=Z g7;go_upto_if 75 with fail;go_cut [] (λwc=>ac (aN f d t c (fJ n o q r) [dw (.slice gV n.length A) n] b wc));case first=>
        cases i1 with
        |false=>
         have a6:ac (fJ n o q r=r):=Z (by unfold fJ;rw[Y2 (λx=>by have:=z.j;rw[<-b7.j,x.2,decide_eq_true x.1]at this;exact absurd this (by decide))]);go_wp2;go_meet;rw[a6.j];omega
        |true=>
         have a6:ac (fJ n o q r=bL 6 q r):=Z (by unfold fJ;rw[Y9 (by have:=z.j;rw[<-b7.j]at this;simpa using this)]);go_wp2_with fail;refine aM S (jo · 6 q) λc7 a0=>?_;go_wp2;go_meet;rw[a6.j];omega
       case rest=>
        rename Zw=>c7;have a0:=hcut;have d9:ac (aX (aD n.length 12 y) (fJ n o q r)):=Z (e0.j.u (by unfold fJ;split;all_goals simp_all[kj,dV]));have e2:ac ((fJ n o q r).w=a.w):=Z (by unfold fJ;split<;>exact d6.j);generalize fJ n o q r=F at *
        have e1:=Z (d9.j.u (aZ (t:=t) 4 [58] F));go_wp2_with fail;refine aM a0 (cY · 4 [58]) λE b2=>?_;(try clear a4 J a9);have g4:ac (∀M,(E.alloc M).ownsRow 0 3 1 (.slice gV n.length A) n.length (n.map (U))):=Z (λM=>bi (b2.j.bq (i:=0) rfl) ((ak [] E).B M) (by simp));have g2:n.length+1<=maxLen:=by unfold maxLen;omega
        go_wp2_with (at_builtin;go_must (refine wpList_append_lies _ (by rfl) _ _ _ (by rfl) 0 3 h6 _ 1 8 underlying24 f4 h2 h3 h4 h5 (by omega) (.slice gV n.length A) n.length (n.map (U)) (by rfl) (g4.j _) ⟨E.heap.size,0,none⟩ 1 1 [U o] (by rfl) (by rfl) (World.news_of_block (cs:=#[U o]) (t:=3) (fr:=(0,0)) (heap_alloc_new E _)) (by simp[Value.oneCell']) (by omega) g2 (by omega) (by simp) (E.heap.size+1) (by simp) ?_;intro c0 b9 k8 c4 c3 c1 g0;have d1:=Z (b2.j.io (i:=0) rfl ((ak [] E).B _) c4 c3 c1 (by simp));clear c4 c3 c1 g0));refine(kH o (by omega) (by omega) _).mono ?_;rintro a5 k9 ⟨rfl,h7⟩;have b3:=Z (d1.j.F h7);have g3:=kP o (by omega) (by omega);have N:=Z (b4.j.symm.trans b5.j);unfold wx at N;unfold bO at g3 N;generalize Lib.itoa o=H at *
        have k4:¬(9223372036854775807<w.length+5):=by omega
        have k5:¬(9223372036854775807<w.length+5+H.length):=by omega
        have k6:¬(9223372036854775807<w.length+5+H.length+2):=by omega
        go_wp2_with fail;refine(gs b3.j.ax 2 [99,97,115,101]).mono ?_;rintro a5 b1 ⟨rfl,rfl⟩;cases g1:aH (af t 4 [58] F) 2 [99,97,115,101]with
        |true=>
         have k1:n.length<12:=by
          rcases Yj n.length 12 with x|x
          .exact x
          .have J:=qN (n:=n.length) (m:=12) (by omega) y;exact absurd (Jg g1) (by rw[(e1.j J).1];omega)
         have a1:ac (cy t j (14-(n++[o]).length) (n++[o]) (w++[99,97,115,101,32]++H++[58,32]) (af t 4 [58] F)=cy t j (14-u.length) u [] a):=Z (N.j.trans (by simp_all)).symm;have d8:ac ((af t 4 [58] F).w=a.w):=Z e2.j;go_wp2;refine⟨⟨some ⟨c0,0,none⟩,b9,n++[o],w++[99,97,115,101,32]++H++[58,32],af t 4 [58] F,by simp,?_,by grind,by simp;omega,?_,a1,d8⟩,by simp[ju];omega⟩
         .rfl
         simp_all
        |false=>
         have a1:ac (cy t j (14-u.length) u [] a=((n++[o],w++[99,97,115,101,32]++H++[58,32]),af t 4 [58] F)):=Z (N.j.trans (by simp_all));go_wp2;go_ret2;rw[a1.j];refine⟨.slice (some ⟨c0,0,none⟩) (n.length+1) b9,?_,b3.j,by simp;omega,by simp_all⟩;rfl
  .have e9:(y.s.e==0)=false:=by simp_all
   have d2:ac (cy t j (14-u.length) u [] a=((n,w),y)):=Z (b4.j.symm.trans (zD c2));go_wp2;go_ret2;rw[d2.j];exact⟨_,rfl,a2.j,by simp;omega,by simp;omega⟩
end
section
variable {X o : Nat -> Prop} {f c N' : Nat} {t : Zb} {b j : ae} {d g k l q : Zw} {h : PV} {L : List Th} {i : Nat} {a p : Th}
def aN.nil(i:aN X f t c b L g d):aN X f t c b (dw (.slice none 0 0) []::L) g d:=by
 refine⟨i.ax.b9 ?_,i.fr,?_,?_,?_⟩
 .rintro l (h|⟨e,a,h⟩)
  .exact Y8 h
  .rcases Yg.1 a with rfl|a
   .grind [Th.ba,Value.ownBlock]
   .exact Ya ⟨e,a,h⟩
 .intro e a;rcases Yg.1 a with rfl|a
  .exact ss d
  .exact i.m e a
 .intro e a l h;rcases Yg.1 a with rfl|a
  .grind [Th.ba,Value.ownBlock]
  .exact i.ao e a l h
 .intro j k e m r a q n o p;cases j with
  |zero=>grind [Th.ba,Value.ownBlock]
  |succ j=>
   cases k with
   |zero=>grind [Th.ba,Value.ownBlock]
   |succ k=>exact i.cv j k e m (by omega) (by simp_all) (by simp_all) n o p
def aN.jM(i:aN X f t c b L g d):aN X f t c b (ci (.slice none 0 0) []::L) g d:=by
 refine⟨i.ax.b9 ?_,i.fr,?_,?_,?_⟩
 .rintro l (h|⟨e,a,h⟩)
  .exact Y8 h
  .rcases Yg.1 a with rfl|a
   .grind [Th.ba,Value.ownBlock]
   .exact Ya ⟨e,a,h⟩
 .intro e a;rcases Yg.1 a with rfl|a
  .exact De d
  .exact i.m e a
 .intro e a l h;rcases Yg.1 a with rfl|a
  .grind [Th.ba,Value.ownBlock]
  .exact i.ao e a l h
 .intro j k e m r a q n o p;cases j with
  |zero=>grind [Th.ba,Value.ownBlock]
  |succ j=>
   cases k with
   |zero=>grind [Th.ba,Value.ownBlock]
   |succ k=>exact i.cv j k e m (by omega) (by simp_all) (by simp_all) n o p
def aN.g6{j:Th}(l:aN X f t c b (a::j::L) g d):aN X f t c b (j::a::L) g d:=by
 have n:∀e,e∈j::a::L->e∈a::j::L:=by
  simp_all
 refine⟨l.ax.b9 ?_,l.fr,λe i=>l.m e (n e i),λe i=>l.ao e (n e i),?_⟩
 .rintro w (m|⟨e,i,m⟩)
  .exact Y8 m
  .exact Ya ⟨e,n e i,m⟩
 .intro h r e p x i q;have o:∀h:Nat,∃k,(h=0->k=1)/\(h=1->k=0)/\(h≠0->h≠1->k=h)/\(j::a::L)[h]? = (a::j::L)[k]?:=by
   intro h;match h with
   |0=>simp
   |1=>simp
   |h+2=>simp
  obtain⟨k,y,z,A,u⟩:=o h;obtain⟨s,B,C,D,v⟩:=o r;exact l.cv k s e p (by omega) (u▸i) (v▸q)
def qZ{o p:Zv}(e:bg)(l:aN X f t c b (dw o e.bD::dw p e.cg::L) g d)(w:c<=1000000000):Calls prog 46 #[Zp f,.agg #[U e.C,U e.n,U e.of,o,p,U e.fp,Zs e.b0,U e.m]] d λq k=>q=.returned (U b.w.length)/\aN X f t (c+1) (cm e b) L g k:=by
 refine(Cm (X:=hj X L) l.ax ?_ e o p (l.bq (i:=0) rfl) (l.bq (i:=1) rfl) ?_ w).mono ?_
 .rintro j (a|⟨h,m,a⟩)
  .exact Y8 a
  .exact Ya ⟨h,by grind,a⟩
 .intro j a;have s:∀(i:Nat) h,(i=0\/i=1)->(dw o e.bD::dw p e.cg::L)[i]? = some h->h.ba=some j->¬hj X L j:=by
   rintro i h C m r (z|⟨u,x,y⟩)
   .exact l.ao h (Yh m) j r z
   .obtain⟨A,D⟩:=List.getElem?_of_mem x;exact l.cv i (A+2) h u (by omega) m (by simp_all) j r y
  rcases a with a|a
  .exact⟨qv (i:=0) rfl a,s 0 _ (Y8 rfl) rfl a⟩
  .exact⟨qv (i:=1) rfl a,s 1 _ (Ya rfl) rfl a⟩
 .rintro q E ⟨rfl,B,v⟩;refine⟨rfl,l.b3.b3.call ⟨B,v.b9 ?_⟩⟩;rintro j _ (a|⟨h,m,a⟩)
  .exact Y8 a
  .exact Ya ⟨h,by grind,a⟩
def pm(t:Zb)(d:List Int)(f:Zb)(c:dO)(a:Int)(b:ae):Bool×List Int×Zb×ae:=
 if b.s.e≠0 then (true,d,f,b)
 else if aH (du c.text a b) 4 [44]=true then da t (13-(d++[a]).length) (d++[a]) (f++c.text++[32,61,32]++bO a++[44,32]) (aW t (du c.text a b))else (false,d++[a],f++c.text++[32,61,32]++bO a,du c.text a b)
def Hx{d:List Int}{f:Zb}{c:dO}{a:Int}(g:b.s.e=0):pm t d f c a b=if aH (du c.text a b) 4 [44]=true then da t (13-(d++[a]).length) (d++[a]) (f++c.text++[32,61,32]++bO a++[44,32]) (aW t (du c.text a b))else (false,d++[a],f++c.text++[32,61,32]++bO a,du c.text a b):=by
 simp_all[pm]
theorem pl{a:Nat}{c:List Int}{d:Zb}(f:b.s.e≠0):da t a c d b=(false,c,d,b):=by
 cases a<;>simp_all[da]
def Hw{nums:List Int}{out:Zb}{a:dO×ae}{v:(Int×Int)×ae}(g:b.s.e=0)(h:nums.length<=12)(e:aR t 2 (aD (aD nums.length 12 b).av 40 (aD nums.length 12 b))=a)(f:bn t (-2147483648) 2147483647 (af t 4 [61] a.2)=v):da t (13-nums.length) nums out b=pm t nums out a.1 v.1.1 (fJ nums v.1.1 v.1.2 v.2):=by
 have c:13-nums.length=(12-nums.length)+1:=by omega
 have d:13-(nums++[v.1.1]).length=12-nums.length:=by simp
 unfold pm;rw[d,c];rw[da,Y2 (by omega)];simp only[e,f];rfl
def og(t:Zb)(b:Zb)(a:Bool×List Int×Zb×ae):ae:=
 if a.1=true then a.2.2.2
 else er (a.2.2.1++[32,125,59,10]) (dq b (af t 4 [59] (af t 4 [125] a.2.2.2)).w.length (cm ⟨5,0,0,a.2.1,[],0,[],0⟩ (af t 4 [59] (af t 4 [125] a.2.2.2))))
def Ab{d:Zb}{b:List Int}{c:Zb}{a:ae}:og t d (false,b,c,a)=er (c++[32,125,59,10]) (dq d (af t 4 [59] (af t 4 [125] a)).w.length (cm ⟨5,0,0,b,[],0,[],0⟩ (af t 4 [59] (af t 4 [125] a)))):=rfl
def Ac{d:Zb}{b:List Int}{c:Zb}{a:ae}:og t d (true,b,c,a)=a:=rfl
def HA(i3:bC X f t c b d)(j0:c+100000<=1000000000):Calls prog 87 #[Zp f] d (GP X f t (c+100000) (gK t b) (.tuple #[]) d):=by
 have f3:=Z (iE i3);obtain⟨i0,g7,h6,h7,h8⟩:=info_parts om;have h9:(U 0).cells.size=1:=rfl;go_in;go_wp2_with fail;refine aM f3 (cY · 2 [101,110,117,109]) λl E=>?_;go_wp2_with fail;refine(qF E.j.ax 2 (by omega)).mono ?_;rintro D c7 ⟨rfl,c6,O,a4⟩;have F:=Z (E.j.call ⟨c6,O⟩);generalize c5:aR t 2 _=R at *
 obtain⟨n,f2⟩:=R;have f9:=Z c5;simp only at F a4;have b3:=Z (F.j.B (oW n));go_wp2_with fail;refine aM b3 (cY · 4 [123]) λk9 a0=>?_;obtain⟨a5,a6,a7,a8,a9,b0,b1,b2⟩:=a0.j.al (i:=0) rfl;have j8:¬(9223372036854775807<5+n.text.length):=by omega
 have j9:¬(9223372036854775807<5+n.text.length+3):=by omega
 have a2:ac (gK t b=og t n.text (da t 13 [] ([101,110,117,109,32]++n.text++[32,123,32]) (af t 4 [123] f2))):=by
  show _=_;unfold gK og;simp only[f9.j]
 generalize j1:af t 4 [123] f2=c9 at *
 have u:=Z (a0.j.nil);go_wp2;go_loopw [3,4] (λP v i8=>∃(gV:Option Addr) (M:Nat) (a:List Int) (g:Zb) (j:ae),v=.slice gV a.length M/\P=Zs g/\a.length<=12/\g.length<=2100+2100*a.length/\ac (aN X f t (c+1+2*a.length) j [dw (.slice gV a.length M) a,.obj c7.heap.size (oW n)] d i8)/\ac (da t (13-a.length) a g j=da t 13 [] ([101,110,117,109,32]++n.text++[32,123,32]) c9)) (λ_ v _=>14-ju v)
 case atStart=>exact⟨none,0,[],[101,110,117,109,32]++n.text++[32,123,32],c9,rfl,Yo Value.string (gH (by simp)),by simp,by simp;omega,u,Z rfl⟩
 case round=>
  obtain⟨gV,M,a,g,r,rfl,rfl,g8,j5,b9,a1⟩:=hrel;obtain⟨h,q⟩:=b9.j.ax;obtain⟨d2,d7,d8,d9,e0,e1,e2,e3,e4,d3,a3,d4,c1,d5,d6,z,N⟩:=q.al;by_cases e7:r.s.e=0
  .have g4:(r.s.e==0)=true:=by simp_all
   have f8:=Z e7;go_wp2_with fail;refine aM b9 (kM · a.length 12) λl0 E=>?_;obtain⟨h,q⟩:=E.j.ax;obtain⟨-,-,-,-,-,-,-,-,-,-,-,-,c1,-,-,z,N⟩:=q.al;go_wp2_with fail;refine aM E (kM · (aD a.length 12 r).av 40) λl1 d1=>?_;have f0:=(CR (aD a.length 12 r).av 40 (aD a.length 12 r)).u (oE (t:=t) 2 _);go_wp2_with fail;have j4:=a4;refine(qF d1.j.ax 2 (by omega)).mono ?_;rintro D l2 ⟨rfl,c6,O,a4⟩;have F:=Z (d1.j.call ⟨c6,O⟩);generalize c5:aR t 2 (aD (aD a.length 12 r).av 40 (aD a.length 12 r))=R at *
   obtain⟨p,c8⟩:=R;have g0:=Z c5;simp only at F a4;(try simp only at f0);have b3:=Z (F.j.B (oW p));go_wp2_with fail;refine aM b3 (cY · 4 [61]) λi9 a0=>?_;go_wp2_with fail;refine aM a0 (tm · (-2147483648) 2147483647 (by omega)) λk4 u=>?_;have h4:=tl (t:=t) (-2147483648) 2147483647 (af t 4 [61] c8);have J:=Z (Hw (t:=t) (nums:=a) (out:=g) f8.j g8 g0.j rfl);have f1:=Z (f0.u ((aZ (t:=t) 4 [61] c8).u (hc (t:=t) (-2147483648) 2147483647 _)));(try simp only at J);generalize bn t (-2147483648) 2147483647 (af t 4 [61] c8)=R at *
   obtain⟨⟨k,w⟩,o⟩:=R;simp only at u h4 J f1;have g1:=Z (sr (dI.b8 (u.j.bq (i:=1) rfl)) (by omega) k);go_wp2_with fail;refine g1.j.mono ?_;rintro D k5 ⟨rfl,h5⟩;subst h5;obtain⟨h,q⟩:=u.j.ax;obtain⟨-,-,-,-,-,-,-,-,-,-,a3,-,-,-,-,z,N⟩:=q.al;by_cases c4:o.s.e=0
   .have g5:(o.s.e==0)=true:=by simp_all
    have g6:(o.s.e != 0)=false:=by simp_all
    cases j3:a.contains k with
    |true=>
     have c3:fJ a k w o=bL 6 w o:=by simp_all[fJ]
     have j7:(bL 6 w o).s.e≠0:=by simp[bL,hk,c4]
     have y:=Z (a2.j.trans (Yo (og t n.text) (a1.j.symm.trans (J.j.trans (by simp_all[pm]:_=(true,a,g,bL 6 w o))))));go_wp2_with fail;refine aM u (jo · 6 w) λA G=>?_;generalize bL 6 w o=B at *
     have j2:(B.s.e != 0)=true:=by simp_all
     obtain⟨h,q⟩:=G.j.ax;obtain⟨-,-,-,-,-,-,-,-,-,-,a3,-,-,-,-,z,N⟩:=q.al;go_wp2;go_end0;rw[y.j,Ac];exact⟨rfl,(G.j.a0 (by omega)).fin⟩
    |false=>
     have c3:fJ a k w o=o:=by simp_all[fJ]
     have j6:a.length<12:=by
      rcases Yj a.length 12 with e5|e5
      .exact e5
      .have z:=qN (n:=a.length) (m:=12) (by omega) r;exact absurd c4 (by rw[(f1.j z).1];omega)
     have y:=Z (a1.j.symm.trans (J.j.trans ((Yo (pm t a g p k) c3).trans (Hx c4))));obtain⟨a5,a6,a7,a8,a9,b0,b1,b2⟩:=u.j.al (i:=0) rfl;go_wp2_with fail;refine aM u (AM · p.text k (by omega)) λA G=>?_;generalize du p.text k o=B at *
     have h3:ac (∀P,(A.alloc P).ownsRow 0 3 1 (.slice gV a.length M) a.length (a.map (U))):=Z (λP=>bi (G.j.bq (i:=1) rfl) ((ak [] A).B P) (by simp));have h1:a.length+1<=maxLen:=by unfold maxLen;omega
     go_wp2_with (at_builtin;go_must (refine wpList_append_lies _ (by rfl) _ _ _ (by rfl) 0 3 i0 _ 1 8 underlying24 g7 h6 h7 h8 h9 (by omega) (.slice gV a.length M) a.length (a.map (U)) (by rfl) (h3.j _) ⟨A.heap.size,0,none⟩ 1 1 [U k] (by rfl) (by rfl) (World.news_of_block (cs:=#[U k]) (t:=3) (fr:=(0,0)) (heap_alloc_new A _)) (by simp[Value.oneCell']) (by omega) h1 (by omega) (by simp) (A.heap.size+1) (by simp) ?_;intro g3 g2 k6 e9 e8 e6 g9;have f5:=Z (G.j.io (i:=1) rfl ((ak [] A).B _) e9 e8 e6 (by simp));clear e9 e8 e6 g9));refine(kH k (by omega) (by omega) _).mono ?_;rintro D k7 ⟨rfl,O⟩;have b4:=Z (f5.j.F O);have h2:=kP k (by omega) (by omega);unfold bO at h2 y;generalize Lib.itoa k=x at *
     obtain⟨a5,a6,a7,a8,a9,b0,b1,b2⟩:=b4.j.al (i:=0) rfl;have k0:¬(9223372036854775807<g.length+p.text.length):=by omega
     have k1:¬(9223372036854775807<g.length+p.text.length+3):=by omega
     have k2:¬(9223372036854775807<g.length+p.text.length+3+x.length):=by omega
     go_wp2_with fail;refine(gs b4.j.ax 4 [44]).mono ?_;rintro D i9 ⟨rfl,rfl⟩;have d0:=Z (b4.j.b3);cases h0:aH B 4 [44]with
     |true=>
      have f7:ac (da t (13-(a++[k]).length) (a++[k]) (g++p.text++[32,61,32]++x++[44,32]) (aW t B)=da t 13 [] ([101,110,117,109,32]++n.text++[32,123,32]) c9):=Z (y.j.trans (by rw[Y9 h0])).symm;go_wp2_with fail;refine aM d0 (gZ ·) λk8 f4=>?_;have k3:¬(9223372036854775807<g.length+p.text.length+3+x.length+2):=by omega
      go_wp2;refine⟨⟨some ⟨g3,0,none⟩,g2,a++[k],g++p.text++[32,61,32]++x++[44,32],aW t B,by simp,?_,by simp;omega,by simp;omega,?_,f7⟩,by simp[ju];omega⟩
      .rfl
      .have:=f4.j.a0 (N':=c+1+2*(a++[k]).length) (by simp;omega);exact Z (by simpa using this)
     |false=>
      have b8:=Z (a2.j.trans ((Yo (og t n.text) (y.j.trans (by simp_all:_=(false,a++[k],g++p.text++[32,61,32]++x,B)))).trans Ab));go_wp2_with fail;refine aM d0 (cY · 4 [125]) λi4 b5=>?_;go_wp2_with fail;refine aM b5 (cY · 4 [59]) λi5 b6=>?_;have b7:=Z (b6.j);generalize af t 4 [59] (af t 4 [125] B)=C at *
      go_wp2_with fail;refine(qZ (L:=[.obj c7.heap.size (oW n)]) ⟨5,0,0,a++[k],[],0,[],0⟩ (b7.j.nil.g6) (by omega)).mono ?_;rintro D i6 ⟨rfl,c0⟩;have H:=Z c0;obtain⟨a5,a6,a7,a8,a9,b0,b1,b2⟩:=H.j.al (i:=0) rfl;go_wp2_with fail;refine aM H (rx · n.text C.w.length (by omega)) λi7 I=>?_;generalize dq n.text C.w.length (cm ⟨5,0,0,a++[k],[],0,[],0⟩ C)=S at *
      obtain⟨h,q⟩:=I.j.ax;obtain⟨d2,d7,d8,d9,e0,e1,e2,e3,e4,d3,a3,d4,c1,d5,d6,z,N⟩:=q.al;have c2:=q.bp;unfold ae.sz at c2;have i1:¬(9223372036854775807<S.j.length+(g.length+p.text.length+3+x.length)):=by omega
      have i2:¬(9223372036854775807<S.j.length+(g.length+p.text.length+3+x.length)+4):=by omega
      go_wp2;go_end0;rw[b8.j];exact⟨rfl,((I.j.f9 (K:=50000) (s:=g++p.text++[32,61,32]++x++[32,125,59,10]) (gH (by simp)) (by simp;omega)).a0 (by omega)).fin⟩
   .have g5:(o.s.e==0)=false:=by simp_all
    have g6:(o.s.e != 0)=true:=by simp_all
    have c3:fJ a k w o=o:=by simp_all[fJ]
    have y:=Z (a2.j.trans (Yo (og t n.text) (a1.j.symm.trans (J.j.trans (by simp_all[pm]:_=(true,a,g,o))))));go_wp2;go_end0;rw[y.j,Ac];exact⟨rfl,(u.j.a0 (by omega)).fin⟩
  .have g4:(r.s.e==0)=false:=by simp_all
   have f6:=Z (a1.j.symm.trans (pl e7));have b8:=Z (a2.j.trans ((Yo (og t n.text) f6.j).trans Ab));go_wp2_with fail;refine aM b9 (cY · 4 [125]) λi4 b5=>?_;go_wp2_with fail;refine aM b5 (cY · 4 [59]) λi5 b6=>?_;have b7:=Z (b6.j);generalize af t 4 [59] (af t 4 [125] r)=C at *
   go_wp2_with fail;refine(qZ (L:=[.obj c7.heap.size (oW n)]) ⟨5,0,0,a,[],0,[],0⟩ (b7.j.nil.g6) (by omega)).mono ?_;rintro D i6 ⟨rfl,c0⟩;have H:=Z c0;obtain⟨a5,a6,a7,a8,a9,b0,b1,b2⟩:=H.j.al (i:=0) rfl;go_wp2_with fail;refine aM H (rx · n.text C.w.length (by omega)) λi7 I=>?_;generalize dq n.text C.w.length (cm ⟨5,0,0,a,[],0,[],0⟩ C)=S at *
   obtain⟨h,q⟩:=I.j.ax;obtain⟨d2,d7,d8,d9,e0,e1,e2,e3,e4,d3,a3,d4,c1,d5,d6,z,N⟩:=q.al;have c2:=q.bp;unfold ae.sz at c2;have i1:¬(9223372036854775807<S.j.length+g.length):=by omega
   have i2:¬(9223372036854775807<S.j.length+g.length+4):=by omega
   go_wp2;go_end0;rw[b8.j];exact⟨rfl,((I.j.f9 (K:=50000) (s:=g++[32,125,59,10]) (gH (by simp)) (by simp;omega)).a0 (by omega)).fin⟩
end
section
variable {f l : Nat -> Prop} {d c N' : Nat} {t : Zb} {b h : ae} {g q p k u : Zw} {j : PV} {L : List Th} {i : Nat} {a o : Th}
def yx(t:Zb)(c:List Int)(e:Zc)(d:Zb)(a:jb)(b:ae):List Int×Zb×ae:=
 if aH b 4 [125]=true then (c++[a.r],d++a.d7++a.x.text++a.e5++[59,32],b)
 else dv t (14-(c++[a.r]).length) (c++[a.r]) (e++[a.x.text]) (d++a.d7++a.x.text++a.e5++[59,32]) b
theorem tf{a:Nat}{d:List Int}{f:Zc}{c:Zb}(g:b.s.e≠0):dv t a d f c b=(d,c,b):=by
 cases a<;>simp_all[dv]
def Qw{a:List Int}{names:Zc}{out:Zb}{c:jb×ae}(e:b.s.e=0)(g:a.length<=13)(f:ch t names false (aD a.length 12 b)=c):dv t (14-a.length) a names out b=yx t a names out c.1 (af t 4 [59] c.2):=by
 have d:14-a.length=(13-a.length)+1:=by omega
 simp_all[yx,dv]
def vG(t:Zb)(b:Zb)(a:List Int×Zb×ae):ae:=
 er (a.2.1++[125,59,10]) (dq b (af t 4 [59] (af t 4 [125] a.2.2)).w.length (cm ⟨12,0,0,[],a.1,0,[],0⟩ (af t 4 [59] (af t 4 [125] a.2.2))))
def QC(j2:bC f d t c b g)(k6:c+100000<=1000000000):Calls prog 88 #[Zp d] g (GP f d t (c+100000) (gA t b) (.tuple #[]) g):=by
 have g3:=Z (iE j2);obtain⟨i6,h5,i2,i3,i4⟩:=info_parts om;have i5:(U 0).cells.size=1:=rfl;obtain⟨j3,j4,j5,j6,j7⟩:=info_parts oo;have j8:(Value.string ⟨#[]⟩).cells.size=1:=rfl;go_in;go_wp2_with fail;refine aM g3 (cY · 2 [115,116,114,117,99,116]) λk G=>?_;go_wp2_with fail;refine(qF G.j.ax 2 (by omega)).mono ?_;rintro b2 b5 ⟨rfl,c8,c7,g0⟩;have a9:=Z (G.j.call ⟨c8,c7⟩);generalize i0:aR t 2 _=c9 at *
 obtain⟨q,g2⟩:=c9;have g7:=Z i0;simp only at a9 g0;have b0:=Z (a9.j.B (oW q));go_wp2_with fail;refine aM b0 (cY · 4 [123]) λl8 H=>?_;obtain⟨a0,a1,a2,a3,a4,a5,a6,a7⟩:=H.j.al (i:=0) rfl;have l1:¬(9223372036854775807<7+q.text.length):=by omega
 have l2:¬(9223372036854775807<7+q.text.length+3):=by omega
 have d4:ac (gA t b=vG t q.text (dv t 14 [] [] ([115,116,114,117,99,116,32]++q.text++[32,123,32]) (af t 4 [123] g2))):=by
  show _=_;unfold gA vG;simp only[g7.j]
 generalize k7:af t 4 [123] g2=d0 at *
 have J:=Z (H.j.jM.nil);go_wp2;go_loopw [3,4,5] (λz v j9 k4=>∃(gV:Option Addr) (C:Nat) (s:Option Addr) (u:Nat) (l:List Int) (o:Zc) (p:Zb) (h:ae),v=.slice gV l.length C/\j9=.slice s o.length u/\z=Zs p/\l.length<=13/\ac (o.length=l.length)/\(h.s.e=0->l.length<=12)/\p.length<=2100+5000*l.length/\ac (aN f d t (c+1+3*l.length) h [dw (.slice gV l.length C) l,ci (.slice s o.length u) o,.obj b5.heap.size (oW q)] g k4)/\ac (dv t (14-l.length) l o p h=dv t 14 [] [] ([115,116,114,117,99,116,32]++q.text++[32,123,32]) d0)) (λ_ v _ _=>15-ju v)
 case atStart=>exact⟨none,0,none,0,[],[],[115,116,114,117,99,116,32]++q.text++[32,123,32],d0,rfl,rfl,Yo Value.string (gH (by simp)),by simp,Z rfl,by simp,by simp;omega,J,Z rfl⟩
 case round=>
  obtain⟨gV,C,s,u,l,o,p,A,rfl,rfl,rfl,h8,b4,h6,l0,c0,d3⟩:=hrel;obtain⟨j,D⟩:=c0.j.ax;obtain⟨d6,e3,e4,e5,e6,e7,e8,e9,f0,d7,d8,d9,e0,e1,e2,b3,f3⟩:=D.al;by_cases c5:A.s.e=0
  .have h4:(A.s.e==0)=true:=by simp_all
   have g5:=Z c5;have k8:=h6 c5;go_wp2_with fail;refine aM c0 (kM · l.length 12) λk5 G=>?_;have k9:=g0;go_wp2_with fail;have h2:kx (.slice s o.length u) o k5:=G.j.bq (i:=1) (a:=ci (.slice s o.length u) o) rfl;have h3:∀c1,(Value.slice s o.length u).ownBlock=some c1->hj f [dw (.slice gV l.length C) l,ci (.slice s o.length u) o,.obj b5.heap.size (oW q)] c1:=λc1 c4=>qv (i:=1) (a:=ci (.slice s o.length u) o) rfl c4;have g8:=Z (wM G.j.ax h2 h3 (by have:=b4.j;omega) false (by omega));refine g8.j.mono ?_;rintro b2 l9 ⟨rfl,c8,c7,i9,j0,j1⟩;have d1:=Z (G.j.call ⟨c8,c7⟩);have f9:=vE (t:=t) o false (aD l.length 12 A);have d5:=Z (Qw (t:=t) (names:=o) (out:=p) g5.j h8 rfl);generalize ch t o false (aD l.length 12 A)=c9 at *
   obtain⟨⟨w,x,y,r⟩,g1⟩:=c9;simp only at d1 i9 j0 j1 f9 d5;have a9:=Z (d1.j.B (oW r));have i1:=Z (f9.u (aZ (t:=t) 4 [59] g1));go_wp2_with fail;refine aM a9 (cY · 4 [59]) λI b0=>?_;generalize af t 4 [59] g1=B at *
   have f7:ac (∀z,(I.alloc z).ownsRow 0 3 1 (.slice gV l.length C) l.length (l.map (U))):=Z (λz=>bi (b0.j.bq (i:=1) (a:=dw (.slice gV l.length C) l) rfl) ((ak [] I).B z) (by simp));have f4:l.length+1<=maxLen:=by unfold maxLen;omega
   have f5:o.length+1<=maxLen:=by have:=b4.j;omega
   have f6:(o.length+1)*16<=140737488355328:=by have:=b4.j;omega
   go_wp2_with (at_builtin;(first|(refine wpList_append_lies _ (by rfl) _ _ _ (by rfl) 0 3 i6 _ 1 8 underlying24 h5 i2 i3 i4 i5 (by omega) (.slice gV l.length C) l.length (l.map (U)) (by rfl) (f7.j _) ⟨I.heap.size,0,none⟩ 1 1 [U w] (by rfl) (by rfl) (World.news_of_block (cs:=#[U w]) (t:=3) (fr:=(0,0)) (heap_alloc_new I _)) (by simp[Value.oneCell']) (by omega) f4 (by omega) (by simp) (I.heap.size+1) (by simp) ?_;intro h0 g9 E R P O c6;have H:=Z (b0.j.io (i:=1) rfl ((ak [] I).B _) R P O (by simp));clear R P O c6 f7 f4;(obtain⟨a0,a1,a2,a3,a4,a5,a6,a7⟩:=H.j.al (i:=0) rfl);have f8:ac (∀z,(E.alloc z).ownsRow 0 9 1 (.slice s o.length u) o.length (o.map λS=>Zs S)):=Z (λz=>bi (H.j.bq (i:=2) (a:=ci (.slice s o.length u) o) rfl) ((ak [] E).B z) (by simp)))|(refine wpList_append_lies _ (by rfl) _ _ _ (by rfl) 0 9 j3 _ 1 16 underlying30 j4 j5 j6 j7 j8 (by omega) (.slice s o.length u) o.length (o.map λS=>Zs S) (by rfl) (f8.j _) ⟨E.heap.size,0,none⟩ 1 1 [.string ⟨(r.text).toArray⟩] (by rfl) (by rfl) (World.news_of_block (cs:=#[.string ⟨(r.text).toArray⟩]) (t:=9) (fr:=(0,0)) (heap_alloc_new E _)) (by simp[Value.oneCell']) (by omega) f5 f6 (by simp) (E.heap.size+1) (by simp) ?_;intro f2 f1 l7 R P O c6;have J:=Z (H.j.g5 (i:=2) rfl ((ak [] E).B _) R P O (by simp));clear R P O c6 f8 f5 f6;(clear a0 a1 a2 a3 a4 a5 a6 a7;obtain⟨a0,a1,a2,a3,a4,a5,a6,a7⟩:=J.j.al (i:=0) rfl;have l3:¬(9223372036854775807<p.length+x.length):=(by omega);have l4:¬(9223372036854775807<p.length+x.length+r.text.length):=(by omega);have l5:¬(9223372036854775807<p.length+x.length+r.text.length+y.length):=(by omega);have l6:¬(9223372036854775807<p.length+x.length+r.text.length+y.length+2):=(by omega)))));have d2:=Z J.j.b3;refine(gs J.j.ax 4 [125]).mono ?_;rintro b2 E ⟨rfl,rfl⟩;have b1:=Z (d3.j.symm.trans d5.j);unfold yx at b1;simp only at b1;cases h9:aH B 4 [125]with
   |true=>
    have b8:=Z (d4.j.trans (Yo (vG t q.text) (b1.j.trans (by simp_all:_=(l++[w],p++x++r.text++y++[59,32],B)))));go_wp2_with fail;refine aM d2 (cY · 4 [125]) λk0 b6=>?_;go_wp2_with fail;refine aM b6 (cY · 4 [59]) λk1 b7=>?_;have b9:ac (gA t b=er (p++x++r.text++y++[59,32]++[125,59,10]) (dq q.text (af t 4 [59] (af t 4 [125] B)).w.length (cm ⟨12,0,0,[],l++[w],0,[],0⟩ (af t 4 [59] (af t 4 [125] B))))):=Z b8.j;generalize af t 4 [59] (af t 4 [125] B)=F at *
    go_wp2_with fail;refine(qZ (L:=[ci (.slice (some ⟨f2,0,none⟩) (o.length+1) f1) (o++[r.text]),.obj b5.heap.size (oW q)]) ⟨12,0,0,[],l++[w],0,[],0⟩ (b7.j.nil) (by omega)).mono ?_;rintro b2 k2 ⟨rfl,c2⟩;have M:=Z c2;obtain⟨a0,a1,a2,a3,a4,a5,a6,a7⟩:=M.j.al (i:=1) rfl;go_wp2_with fail;refine aM M (rx · q.text F.w.length (by omega)) λk3 N=>?_;generalize dq q.text F.w.length (cm ⟨12,0,0,[],l++[w],0,[],0⟩ F)=a8 at *
    obtain⟨j,D⟩:=N.j.ax;obtain⟨d6,e3,e4,e5,e6,e7,e8,e9,f0,d7,d8,d9,e0,e1,e2,b3,f3⟩:=D.al;have c3:=D.bp;unfold ae.sz at c3;have i7:¬(9223372036854775807<a8.j.length+(p.length+x.length+r.text.length+y.length+2)):=by omega
    have i8:¬(9223372036854775807<a8.j.length+(p.length+x.length+r.text.length+y.length+2)+3):=by omega
    go_wp2;go_end0;rw[b9.j];exact⟨rfl,((N.j.f9 (K:=90000) (s:=p++x++r.text++y++[59,32]++[125,59,10]) (gH (by simp)) (by simp;omega)).a0 (by omega)).fin⟩
   |false=>
    have g4:ac (dv t (14-(l++[w]).length) (l++[w]) (o++[r.text]) (p++x++r.text++y++[59,32]) B=dv t 14 [] [] ([115,116,114,117,99,116,32]++q.text++[32,123,32]) d0):=Z (b1.j.trans (by rw[Y2 (by simp[h9])])).symm;have h7:B.s.e=0->(l++[w]).length<=12:=by
     intro h1;rcases Yj l.length 12 with c4|c4
     .simp;omega
     .have b3:=qN (n:=l.length) (m:=12) (by omega) A;exact absurd h1 (by rw[(i1.j b3).1];omega)
    have g6:ac ((o++[r.text]).length=(l++[w]).length):=Z (by have:=b4.j;simp;omega);go_wp2;refine⟨⟨some ⟨h0,0,none⟩,g9,some ⟨f2,0,none⟩,f1,l++[w],o++[r.text],p++x++r.text++y++[59,32],B,by simp,by simp,?_,by simp;omega,g6,h7,by simp;omega,?_,g4⟩,by simp[ju];omega⟩
    .rfl
    .have:=d2.j.a0 (N':=c+1+3*(l++[w]).length) (by simp;omega);exact Z (by simpa using this)
  .have h4:(A.s.e==0)=false:=by simp_all
   have b8:=Z (d4.j.trans (Yo (vG t q.text) (d3.j.symm.trans (tf c5))));go_wp2_with fail;refine aM c0 (cY · 4 [125]) λk0 b6=>?_;go_wp2_with fail;refine aM b6 (cY · 4 [59]) λk1 b7=>?_;have b9:ac (gA t b=er (p++[125,59,10]) (dq q.text (af t 4 [59] (af t 4 [125] A)).w.length (cm ⟨12,0,0,[],l,0,[],0⟩ (af t 4 [59] (af t 4 [125] A))))):=Z b8.j;generalize af t 4 [59] (af t 4 [125] A)=F at *
   go_wp2_with fail;refine(qZ (L:=[ci (.slice s o.length u) o,.obj b5.heap.size (oW q)]) ⟨12,0,0,[],l,0,[],0⟩ (b7.j.nil) (by omega)).mono ?_;rintro b2 k2 ⟨rfl,c2⟩;have M:=Z c2;obtain⟨a0,a1,a2,a3,a4,a5,a6,a7⟩:=M.j.al (i:=1) rfl;go_wp2_with fail;refine aM M (rx · q.text F.w.length (by omega)) λk3 N=>?_;generalize dq q.text F.w.length (cm ⟨12,0,0,[],l,0,[],0⟩ F)=a8 at *
   obtain⟨j,D⟩:=N.j.ax;obtain⟨d6,e3,e4,e5,e6,e7,e8,e9,f0,d7,d8,d9,e0,e1,e2,b3,f3⟩:=D.al;have c3:=D.bp;unfold ae.sz at c3;have i7:¬(9223372036854775807<a8.j.length+p.length):=by omega
   have i8:¬(9223372036854775807<a8.j.length+p.length+3):=by omega
   go_wp2;go_end0;rw[b9.j];exact⟨rfl,((N.j.f9 (K:=90000) (s:=p++[125,59,10]) (gH (by simp)) (by simp;omega)).a0 (by omega)).fin⟩
end
section
variable {t : Zb} {σ a b : ae}
structure cC(σ a:ae):Prop where
 w:∃l,a.w=σ.w++l/\∀r∈l,r.bD=[]/\r.cg=[]
 A:a.A=σ.A
 iZ:a.av=σ.av/\a.L=σ.L/\a.O=σ.O/\a.ag=σ.ag/\a.j=σ.j
def Sm.iZ(b:Sm σ a):a.av=σ.av/\a.L=σ.L/\a.O=σ.O/\a.ag=σ.ag/\a.j=σ.j:=by
 rw[b];simp
def Sm.aa(b:Sm σ a):cC σ a:=⟨⟨[],by rw[b.w];simp,by simp⟩,b.A,b.iZ⟩
theorem nG(σ:ae):cC σ σ:=⟨⟨[],by simp,by simp⟩,rfl,rfl,rfl,rfl,rfl,rfl⟩
theorem cC.u(m:cC σ a)(o:cC a b):cC σ b:=by
 obtain⟨⟨q,s,t⟩,n,c,d,e,f,g⟩:=m;obtain⟨⟨r,u,v⟩,p,h,i,j,k,l⟩:=o;refine⟨⟨q++r,by simp_all,?_⟩,p.trans n,h.trans c,i.trans d,j.trans e,k.trans f,l.trans g⟩;grind
def qJ(a:bg)(b:a.bD=[])(c:a.cg=[])(σ:ae):cC σ (cm a σ):=⟨⟨[a],rfl,by simp_all⟩,rfl,rfl,rfl,rfl,rfl,rfl⟩
def HH(σ:ae):cC σ (iC t σ).2:=by
 unfold iC;split
 .exact(eu σ).aa
 .split
  .exact(eu σ).aa
  .exact nG σ
def wS(σ:ae):cC σ (cq t σ).2:=by
 unfold cq;split
 .exact nG σ
 .split
  .exact(eu σ).aa.u (qJ _ rfl rfl _)
  .split
   .exact(eu σ).aa
   .split
    .exact(eu σ).aa
    .split
     .exact(eu σ).aa
     .split
      .exact(eu σ).aa.u (HH _)
      .exact(ta σ).aa
def mt(a:Bool)(σ:ae):Sm σ (bw t a σ).2:=by
 unfold bw;split
 .exact(az _ _ _).u ((fZ _ _ _).u (az _ _ _))
 .simp only;split
  .rfl
  .exact(az _ _ _).u ((fZ _ _ _).u (az _ _ _))
def hb(b:Zc)(all:Bool)(σ:ae):Sm σ (cd t b all σ).2:=by
 unfold cd;simp only;generalize d:cV t σ=a;have c:Sm σ a.2:=by rw[<-d];rfl
 generalize (if all=true then decide (0<=bP a.2 a.1.text)else b.contains a.1.text)=e
 split
 .exact c.u (vA _ _ _)
 omega
theorem HE(c:Zc)(all d:Bool)(σ:ae):cC σ (gu t c all d σ).2:=by
 unfold gu;simp only;generalize f:cd t c all (aW t σ)=e;have a:cC σ e.2:=by rw[<-f];exact((eu _).u (hb _ _ _)).aa
 by_cases b:aH e.2 4 [91]=true/\d=true
 .rw[Y9 b];exact a.u ((mt _ _).aa.u (qJ _ rfl rfl _))
 .rw[Y2 b];exact a.u ((mt _ _).aa.u (qJ _ rfl rfl _))
theorem HD(g:Zc)(all:Bool)(σ:ae):cC σ (gr t g all σ).2:=by
 unfold gr;simp only;generalize i:cq t σ=a;have c:cC σ a.2:=by rw[<-i];exact wS _
 by_cases e:aH a.2 4 [42]=true
 .rw[Y9 e];exact c.u ((eu _).aa.u ((hb _ _ _).aa.u (qJ _ rfl rfl _)))
 .rw[Y2 e];generalize j:cd t g all a.2=b;have d:cC σ b.2:=by rw[<-j];exact c.u (hb _ _ _).aa
  by_cases f:aH b.2 4 [91]=true
  .rw[Y9 f];exact d.u ((mt _ _).aa.u (qJ _ rfl rfl _))
  .rw[Y2 f];by_cases h:aH b.2 4 [60]=true
   .rw[Y9 h];exact d.u ((mt _ _).aa.u (qJ _ rfl rfl _))
   simp_all
def kJ(a:Zc)(all:Bool)(σ:ae):cC σ (ch t a all σ).2:=by
 grind [ch,HE,HD]
def mg(a:Zc)(σ:ae):cC σ (cM t a σ).2:=by
 unfold cM;split
 .exact((eu σ).u (az _ _ _)).aa
 .exact(kJ _ _ _).u (az _ _ _).aa
def PA(of:Int)(v:(Int×Int)×ae):Sm v.2 (gW of v):=by
 unfold gW;split<;>rfl
def PB(c:List Int)(b a:Int)(σ:ae):Sm σ (fJ c b a σ):=by
 unfold fJ;split<;>rfl
def Qe(of:Int)(v:(Int×Int)×ae):aX v.2 (gW of v):=by
 grind [gW,kj,dV]
def Qf(c:List Int)(b a:Int)(σ:ae):aX σ (fJ c b a σ):=by
 grind [fJ,kj,dV]
theorem mU(of:Int):∀(c:Nat) (a:List Int) (d:Zb) (σ:ae),Sm σ (cy t of c a d σ).2/\aX σ (cy t of c a d σ).2/\a.length<=(cy t of c a d σ).1.1.length/\(σ.s.e=0->0<c->a.length<(cy t of c a d σ).1.1.length)/\((cy t of c a d σ).2.s.e=0->0<c->(cy t of c a d σ).1.1.length<=12):=by
 intro c;induction c with
 |zero=>intro a d σ;exact⟨rfl,dV σ,Y4 _,λ_ b=>absurd b (by omega),λ_ b=>absurd b (by omega)⟩
 |succ c q=>
  intro a d σ;by_cases f:σ.s.e=0
  .unfold cy;rw[Y2 (by omega)];simp only;generalize j:bn t (eN of) (eM of) (af t 2 [99,97,115,101] (aD a.length 12 σ))=v;have r:Sm σ v.2:=by rw[<-j];exact(cD _ _ _).u ((az _ _ _).u (fZ _ _ _))
   have u:aX (aD a.length 12 σ) v.2:=by rw[<-j];exact(aZ _ _ _).u (hc _ _ _)
   have g:=r.u ((PA of v).u ((PB a v.1.1 v.1.2 _).u (az (t:=t) 4 [58] _)));have w:=u.u ((Qe of v).u ((Qf a v.1.1 v.1.2 _).u (aZ (t:=t) 4 [58] _)));change Sm σ (af t 4 [58] (fJ a v.1.1 v.1.2 (gW of v)))at g;have k:(if(if v.2.s.e=0/\4<of/\(fG v.2 of).bD.contains v.1.1=false then bL 8 v.1.2 v.2 else v.2).s.e=0/\a.contains v.1.1=true then bL 6 v.1.2 (if v.2.s.e=0/\4<of/\(fG v.2 of).bD.contains v.1.1=false then bL 8 v.1.2 v.2 else v.2)else (if v.2.s.e=0/\4<of/\(fG v.2 of).bD.contains v.1.1=false then bL 8 v.1.2 v.2 else v.2))=fJ a v.1.1 v.1.2 (gW of v):=rfl
   rw[k];generalize af t 4 [58] (fJ a v.1.1 v.1.2 (gW of v))=h at *
   have x:h.s.e=0->a.length<12:=by
    intro l;rcases Yj a.length 12 with b|b
    .exact b
    .have o:=qN (n:=a.length) (m:=12) (by omega) σ;exact absurd l (by rw[(w o).1];omega)
   by_cases i:aH h 2 [99,97,115,101]=true
   .rw[Y9 i];obtain⟨p,y,z,A,B⟩:=q (a++[v.1.1]) (d++[99,97,115,101,32]++bO v.1.1++[58,32]) h;refine⟨g.u p,λb=>absurd f b,?_,?_,?_⟩
    .grind
    .grind
    .intro b _;cases c with
     |zero=>
      grind [cy]
     |succ c=>omega
   .rw[Y2 i];refine⟨g,λb=>absurd f b,by simp,by simp,?_⟩;grind
  .rw[zD f];refine⟨rfl,dV σ,Y4 _,λb=>absurd b f,λb=>absurd b f⟩
def en(d:bT σ)(c:cC σ a):bT a:=by
 intro f b e;rw[c.A]at b;obtain⟨j,i,_⟩:=c.w;obtain⟨g,h⟩:=d f b e;grind
def pz(d:bT σ)(c:Int)(g:c≠1):bT (aR t c σ).2:=by
 unfold aR;have b:=en d (ki (t:=t) σ).aa;split
 .omega
 .split
  .exact en b (vA _ _ _).aa
  .intro f a e;simp only[Yn,Yc]at a;rcases a with a|rfl
   .exact b f a e
   simp_all
def mr(a:Int)(σ:ae):(aR t a σ).2.w=σ.w:=by
 unfold aR;split
 .rfl
 .split<;>rfl
def LY(a:bT σ):0<=(bZ t σ).1.1/\(4<(bZ t σ).1.1->(bZ t σ).1.1<σ.w.length):=by
 unfold bZ;split
 .split
  .simp
  .rename_i f b;have c:0<=bP σ σ.s.x.text:=by
    omega
   have d:(cG σ).a7=1:=Classical.byContradiction λe=>b (Ya (Y8 e));have:=a _ (xB c) d;simp_all
 grind
def LR(a:σ.s.x.text.length<=2000):(bZ t σ).1.2.length<=2000:=by
 grind [bZ]
end
section
variable {t : Zb} {a b d : ae}
structure dM(a b:ae):Prop where
 c:a.av<=b.av
 t:a.L<=b.L
 p:a.O.length<=b.O.length
theorem nE(a:ae):dM a a:=⟨Int.le_refl _,Int.le_refl _,Y4 _⟩
theorem dM.u(e:dM a b)(f:dM b d):dM a d:=⟨Int.le_trans e.c f.c,Int.le_trans e.t f.t,Yz e.p f.p⟩
theorem cC.cj(c:cC a b):dM a b:=by
 obtain⟨_,_,d,e,f,_⟩:=c;exact⟨by omega,by omega,by simp_all⟩
theorem Sm.cj(c:Sm a b):dM a b:=c.aa.cj
def qC(b:Int)(a:ae):dM a (aR t b a).2:=by
 unfold aR;split
 .exact(ki a).cj
 .split
  .exact((ki a).u (vA _ _ _)).cj
  .exact⟨Int.le_refl _,Int.le_refl _,Y4 _⟩
def zJ(c:Zb)(b:Int)(a:ae):dM a (du c b a)/\(du c b a).av=a.av+1:=by
 unfold du gz;simp only;split
 .exact⟨⟨by grind,Int.le_refl _,Y4 _⟩,rfl⟩
 .exact⟨⟨by grind,Int.le_refl _,Y4 _⟩,rfl⟩
def wG(c:Zb)(b:Int)(a:ae):dM a (dq c b a):=by
 unfold dq gz;split
 .exact⟨Int.le_refl _,Int.le_refl _,Y4 _⟩
 .exact nE a
def wF(b:bg)(a:ae):dM a (cm b a):=⟨Int.le_refl _,Int.le_refl _,Y4 _⟩
def tU(b:Zb)(a:ae):dM a (er b a):=⟨Int.le_refl _,Int.le_refl _,Y4 _⟩
def FZ(k:(fT t a).s.e=0):a.av+1<=(fT t a).av/\dM a (fT t a):=by
 unfold fT at *
 simp only at *
 generalize h:aR t 2 (af t 2 [99,111,110,115,116] (aD a.av 40 a))=b at *
 have d:dM a b.2:=by rw[<-h];exact((cD _ _ _).u (az _ _ _)).cj.u (qC _ _)
 generalize i:bn t (-2147483648) 4294967295 (af t 4 [61] b.2)=v at *
 have f:dM a (af t 4 [59] v.2):=by
  refine d.u ?_;rw[<-i];exact((az _ _ _).u ((fZ _ _ _).u (az _ _ _))).cj
 split
 .simp_all
 .obtain⟨j,l⟩:=zJ b.1.text v.1.1 (af t 4 [59] v.2);have g:=f.u (j.u (tU ([99,111,110,115,116,32]++b.1.text++[32,61,32]++bO v.1.1++[59,10]) _));refine⟨?_,g⟩;show a.av+1<=(du b.1.text v.1.1 (af t 4 [59] v.2)).av;simp_all[dM.c]
theorem Gk(a:ae):dM a (gj t a):=by
 unfold gj;simp only;generalize d:ch t [] true (af t 2 [116,121,112,101,100,101,102] a)=b;have c:dM a b.2:=by rw[<-d];exact(az _ _ _).cj.u (kJ _ _ _).cj
 split
 .omega
 .exact c.u ⟨Int.le_refl _,Int.le_refl _,Y4 _⟩
def Gj:∀(b:Nat) (d:List Int) (c:Zc) (e:Zb) (a:ae),dM a (dv t b d c e a).2.2:=by
 intro b;induction b with
 |zero=>intro d c e a;exact nE a
 |succ b i=>
  intro d c e a;unfold dv;split
  .exact nE a
  .simp only;generalize h:ch t c false (aD d.length 12 a)=f;have g:dM a (af t 4 [59] f.2):=by rw[<-h];exact((cD _ _ _).aa.u ((kJ _ _ _).u (az _ _ _).aa)).cj
   split
   .omega
   .exact g.u (i _ _ _ _)
theorem Gi(a:ae):dM a (gA t a):=by
 unfold gA;exact(az _ _ _).cj.u ((qC _ _).u ((az _ _ _).cj.u ((Gj _ _ _ _ _).u (((az _ _ _).u (az _ _ _)).cj.u ((wF _ _).u ((wG _ _ _).u (tU _ _)))))))
def Gc:∀(c:Nat) (b:List Int) (f:Zb) (a:ae),dM a (da t c b f a).2.2.2:=by
 intro c;induction c with
 |zero=>intro b f a;exact nE a
 |succ c o=>
  intro b f a;unfold da;split
  .exact nE a
  .simp only;generalize m:aR t 2 (aD (aD b.length 12 a).av 40 (aD b.length 12 a))=d;have h:dM a d.2:=by rw[<-m];exact((cD _ _ _).u (cD _ _ _)).cj.u (qC _ _)
   generalize n:bn t (-2147483648) 2147483647 (af t 4 [61] d.2)=v;have i:dM a v.2:=by rw[<-n];exact h.u ((az _ _ _).u (fZ _ _ _)).cj
   generalize l:(if v.2.s.e=0/\b.contains v.1.1=true then bL 6 v.1.2 v.2 else v.2)=g
   have j:dM a g:=by rw[<-l];exact i.u (jv _ _ _ _).cj
   split
   .omega
   .have k:=j.u (zJ d.1.text v.1.1 g).1;split
    .exact k.u ((eu _).cj.u (o _ _ _))
    omega
theorem Gb(a:ae):dM a (gK t a):=by
 unfold gK;simp only;generalize g:aR t 2 (af t 2 [101,110,117,109] a)=b;have d:dM a b.2:=by rw[<-g];exact(az _ _ _).cj.u (qC _ _)
 generalize f:da t 13 [] ([101,110,117,109,32]++b.1.text++[32,123,32]) (af t 4 [123] b.2)=c;have e:dM a c.2.2.2:=by rw[<-f];exact d.u ((az _ _ _).cj.u (Gc _ _ _ _))
 split
 .omega
 .exact e.u (((az _ _ _).u (az _ _ _)).cj.u ((wF _ _).u ((wG _ _ _).u (tU _ _))))
def Gn(of:Int):∀(c:Nat) (b f:List Int) (d:Zc) (e:Zb) (a:ae),dM a (dH t of c b f d e a).2:=by
 intro c;induction c with
 |zero=>intro b f d e a;exact nE a
 |succ c h=>
  intro b f d e a;unfold dH;split
  .exact nE a
  .simp only;have g:dM a (cM t d (cy t of (14-b.length) b [] a).2).2:=(mU (t:=t) of _ b [] a).1.cj.u (mg _ _).cj;split
   .exact g.u (h _ _ _ _ _)
   omega
def Ga(b:Zc)(a:ae):dM a (gJ t b a).2:=by
 unfold gJ;split
 .exact((eu _).u (az _ _ _)).cj.u (mg _ _).cj
 .exact nE a
theorem Gm(a:ae):dM a (gm t a):=by
 unfold gm;exact(az _ _ _).cj.u ((qC _ _).u (((az _ _ _).u (az _ _ _)).cj.u ((oC _).cj.u ((ki _).cj.u (((az _ _ _).u (az _ _ _)).cj.u ((Gn _ _ _ _ _ _ _).u ((Ga _ _).u (((az _ _ _).u (az _ _ _)).cj.u ((wF _ _).u ((wG _ _ _).u (tU _ _)))))))))))
def sg(a:ae):cC a (es t a).2:=by
 unfold es;split
 .exact(eu a).aa
 .exact wS a
def mh(b:List Int)(a:ae):cC a (bS t b a).2:=by
 unfold bS;exact((az _ _ _).u ((fZ _ _ _).u ((jv _ _ _ _).u (az _ _ _)))).aa
def HG:∀(b:Nat) (c:List br) (e:Zc) (d:List Int) (f:Zb) (a:ae),cC a (eV t b c e d f a).2:=by
 intro b;induction b with
 |zero=>intro c e d f a;exact nG a
 |succ b r=>
  intro c e d f a;unfold eV;split
  .exact nG a
  .simp only;generalize q:es t (aD c.length 8 a)=i;have j:cC a i.2:=by rw[<-q];exact(cD _ _ _).aa.u (sg _)
   generalize o:cd t e false i.2=h;have k:cC a h.2:=by rw[<-o];exact j.u (hb _ _ _).aa
   generalize n:es t (af t 4 [40] h.2)=g;have l:cC a g.2:=by rw[<-n];exact k.u ((az _ _ _).aa.u (sg _))
   generalize p:bS t d (af t 4 [41] g.2)=s;have m:cC a s.2:=by rw[<-p];exact l.u ((az _ _ _).aa.u (mh _ _))
   split
   .omega
   .exact m.u (r _ _ _ _ _)
def Ah(b:Zc)(c:List Int)(a:ae):cC a (ed t b c a).2:=by
 unfold ed;exact(az _ _ _).aa.u ((hb _ _ _).aa.u ((az _ _ _).aa.u ((HG _ _ _ _ _ _).u ((az _ _ _).aa.u (mh _ _)))))
def sh:∀(c:Nat) (d:Zc) (b:List Int) (all:List br) (e:Zb) (a:ae),cC a (ec t c d b all e a).2:=by
 intro c;induction c with
 |zero=>intro d b all e a;exact nG a
 |succ c g=>
  intro d b all e a;unfold ec;split
  .exact nG a
  .simp only;have f:cC a (ed t d b (aD b.length 4 a)).2:=(cD _ _ _).aa.u (Ah _ _ _);split
   .omega
   .exact f.u (g _ _ _ _ _)
def Gh(a:ae):dM a (gg t a)/\(gg t a).O.length=a.O.length+1:=by
 have i:dM a (af t 4 [123] (aR t 2 (af t 2 [112,114,111,103,114,97,109] (aD a.O.length 4 a))).2):=((cD _ _ _).u (az _ _ _)).cj.u ((qC _ _).u (az _ _ _).cj);have h:(af t 4 [123] (aR t 2 (af t 2 [112,114,111,103,114,97,109] (aD a.O.length 4 a))).2).O=a.O:=by
  show (aR t 2 (af t 2 [112,114,111,103,114,97,109] (aD a.O.length 4 a))).2.O=_;have g:=((cD a.O.length 4 a).u (az (t:=t) 2 [112,114,111,103,114,97,109] _)).iZ.2.2.1;unfold aR;split
  .exact g
  .split<;>exact g
 unfold gg;simp only;generalize aR t 2 (af t 2 [112,114,111,103,114,97,109] (aD a.O.length 4 a))=b at *
 generalize j:ec t 6 [] [] [] ([112,114,111,103,114,97,109,32]++b.1.text++[32,123,32]) (af t 4 [123] b.2)=v;have d:=sh (t:=t) 6 [] [] [] ([112,114,111,103,114,97,109,32]++b.1.text++[32,123,32]) (af t 4 [123] b.2);rw[j]at d;have e:=d.u ((az (t:=t) 4 [125] v.2).aa.u (mh (t:=t) (af t 4 [125] v.2).O _));have f:=i.u e.cj;have k:(bS t (af t 4 [125] v.2).O (af t 4 [125] v.2)).2.O=a.O:=e.iZ.2.2.1.trans h;refine⟨⟨f.c,f.t,?_⟩,?_⟩;all_goals simp_all[er]
end
section
variable {h n : Nat -> Prop} {g c N' : Nat} {t : Zb} {b f : ae} {d l o m p : Zw} {j : PV} {L : List Th} {i : Nat} {a a' : Th}
def aN.m7{a:Zb}{e:Nat}(f:aN h g t c b (.obj e (.cells #[Zs a] 9)::L) l d):aN h g t c b (ci (.slice (some ⟨e,0,none⟩) [a].length 1) [a]::L) l d:=by
 have j:=f.bR (i:=0) (a':=ci (.slice (some ⟨e,0,none⟩) [a].length 1) [a]) rfl (ak [] d) (by simp) ⟨rfl,Ya ⟨e,1,#[Zs a],rfl,YV _,f.a5 (i:=0) rfl,by simp,by unfold maxLen;omega,rfl,rfl⟩⟩ (λm k=>Y8 k);exact j
theorem pX{of:Int}{a:Nat}{d g:List Int}{c:Zc}{f:Zb}(h:b.s.e≠0):dH t of a d g c f b=((d,g,c,f),b):=by
 cases a<;>simp_all[dH]
def Fm(a:Zc)(b:ae):(cM t a b).1.2.2.length<=a.length+1:=by
 grind [cM]
def yD(t:Zb)(of:Int)(e:Nat)(d:List Int)(c:Zb)(b:(List Int×Zb)×ae)(a:(Int×Zb×Zc)×ae):(List Int×List Int×Zc×Zb)×ae:=
 if aH a.2 2 [99,97,115,101]=true then dH t of e b.1.1 (kK b.1.1.length a.1.1 d) a.1.2.2 (c++b.1.2++a.1.2.1) a.2 else ((b.1.1,kK b.1.1.length a.1.1 d,a.1.2.2,c++b.1.2++a.1.2.1),a.2)
def RM{of:Int}{k:Nat}{d parts:List Int}{f:Zc}{out:Zb}{c:(List Int×Zb)×ae}{a:(Int×Zb×Zc)×ae}(g:b.s.e=0)(i:cy t of (14-d.length) d [] b=c)(h:cM t f c.2=a):dH t of (k+1) d parts f out b=yD t of k parts out c a:=by
 simp_all[yD,dH]
def pU(t:Zb)(b:Zb)(of:Int)(a:(List Int×List Int×Zc×Zb)×ae):ae:=
 er (a.1.2.2.2++(gJ t a.1.2.2.1 a.2).1.2++[125,59,10]) (dq b (af t 4 [59] (af t 4 [125] (gJ t a.1.2.2.1 a.2).2)).w.length (cm ⟨13,0,of,a.1.1,a.1.2.1,(gJ t a.1.2.2.1 a.2).1.1,[],0⟩ (af t 4 [59] (af t 4 [125] (gJ t a.1.2.2.1 a.2).2))))
def RQ(p6:bC h g t c b d)(ok:bT b)(o2:∀C∈b.w,C.bD.length<=1000)(q9:c+200000<=1000000000):Calls prog 89 #[Zp g] d (GP h g t (c+200000) (gm t b) (.tuple #[]) d):=by
 have k3:=Z (iE p6);have l4:=Z o2;have j2:=Z (en (pz (t:=t) (en ok (az (t:=t) 2 [117,110,105,111,110] b).aa) 2 (by decide)) (((az (t:=t) 2 [115,119,105,116,99,104] _).u (az (t:=t) 4 [40] _)).aa));have p7:=Z (mr (t:=t) 2 (af t 2 [117,110,105,111,110] b));obtain⟨o8,n0,o4,o5,o6⟩:=info_parts om;have o7:(U 0).cells.size=1:=rfl;go_in;go_wp2_with fail;refine aM k3 (cY · 2 [117,110,105,111,110]) λm e8=>?_;go_wp2_with fail;refine(qF e8.j.ax 2 (by omega)).mono ?_;rintro H b7 ⟨rfl,e3,e0,c5⟩;have e9:=Z (e8.j.call ⟨e3,e0⟩);generalize I:aR t 2 (af t 2 [117,110,105,111,110] b)=C at *
 obtain⟨p,M⟩:=C;have l5:=Z I;simp only at e9 c5;have k6:=Z (e9.j.B (oW p));have r0:=c5;go_wp2_with fail;refine aM k6 (cY · 2 [115,119,105,116,99,104]) λt7 k7=>?_;go_wp2_with fail;refine aM k7 (cY · 4 [40]) λt8 f0=>?_;have b9:ac (gm t b=pU t p.text (bZ t (af t 4 [40] (af t 2 [115,119,105,116,99,104] M))).1.1 (dH t (bZ t (af t 4 [40] (af t 2 [115,119,105,116,99,104] M))).1.1 14 [] [] [(cV t (bZ t (af t 4 [40] (af t 2 [115,119,105,116,99,104] M))).2).1.text] ([117,110,105,111,110,32]++p.text++[32,115,119,105,116,99,104,32,40]++(bZ t (af t 4 [40] (af t 2 [115,119,105,116,99,104] M))).1.2++[32]++(cV t (bZ t (af t 4 [40] (af t 2 [115,119,105,116,99,104] M))).2).1.text++[41,32,123,32]) (af t 4 [123] (af t 4 [41] (cV t (bZ t (af t 4 [40] (af t 2 [115,119,105,116,99,104] M))).2).2)))):=by
  show _=_;unfold gm pU;simp only[l5.j]
 have j3:ac ((af t 4 [40] (af t 2 [115,119,105,116,99,104] M)).w=b.w):=Z p7.j;generalize af t 4 [40] (af t 2 [115,119,105,116,99,104] M)=k1 at *
 have c4:=LY (t:=t) j2.j;have n9:=LR (t:=t) f0.j.ax.c3;have j0:=Z ((oC (t:=t) k1).w.trans j3.j);go_wp2_with fail;refine aM f0 (LW · j2.j (by omega)) λt9 c7=>?_;generalize bZ t k1=p5 at *
 obtain⟨⟨of,a1⟩,k2⟩:=p5;simp only at c7 c4 n9 j0 b9;rw[j3.j]at c4;go_wp2_with fail;refine(yN c7.j.ax).mono ?_;rintro H b8 ⟨⟨rfl,e3,e0⟩,c5⟩;have f1:=Z (c7.j.call ⟨e3,e0⟩);have j1:=Z ((ki (t:=t) k2).w.trans j0.j);generalize cV t k2=wr at *
 obtain⟨w,N⟩:=wr;simp only at f1 c5 b9 j1;have k8:=Z (f1.j.B (oW w));go_wp2_with fail;refine aM k8 (cY · 4 [41]) λt3 k4=>?_;go_wp2_with fail;refine aM k4 (cY · 4 [123]) λq3 c6=>?_;have i9:ac ((af t 4 [123] (af t 4 [41] N)).w=b.w):=Z j1.j;generalize af t 4 [123] (af t 4 [41] N)=e7 at *
 obtain⟨j4,e6,j5,j6,j7,j8,j9,k0⟩:=c6.j.al (i:=0) rfl;obtain⟨s3,s4,s5,s6,s7,s8,s9,t0⟩:=c6.j.al (i:=1) rfl;have r3:¬(9223372036854775807<6+p.text.length):=by omega
 have r4:¬(9223372036854775807<6+p.text.length+9):=by omega
 have r5:¬(9223372036854775807<6+p.text.length+9+a1.length):=by omega
 have r6:¬(9223372036854775807<6+p.text.length+9+a1.length+1):=by omega
 have r7:¬(9223372036854775807<6+p.text.length+9+a1.length+1+w.text.length):=by omega
 have r8:¬(9223372036854775807<6+p.text.length+9+a1.length+1+w.text.length+4):=by omega
 have k5:=Z ((c6.j.B (.cells #[Zs w.text] 9)).m7.nil.nil);go_upto_block 0 with fail;go_cut [6,7,8,9] (λa0 v a3 e5 wc=>∃(gV:Option Addr) (B:Nat) (D:Option Addr) (E:Nat) (x:Option Addr) (y:Nat) (k q:List Int) (l:Zc) (n:Zb) (f:ae),v=.slice gV k.length B/\a3=.slice D q.length E/\e5=.slice x l.length y/\a0=Zs n/\k.length<=13/\ac (l.length<=1+k.length)/\n.length<=90000/\ac (aN h g t (c+30) f [dw (.slice gV k.length B) k,dw (.slice D q.length E) q,ci (.slice x l.length y) l,.obj b8.heap.size (oW w),.obj b7.heap.size (oW p)] d wc)/\ac (gm t b=pU t p.text of ((k,q,l,n),f)));case first=>
  go_wp2;go_loopw [6,7,8,9] (λa0 v a3 e5 e4=>∃(gV:Option Addr) (B:Nat) (D:Option Addr) (E:Nat) (x:Option Addr) (y:Nat) (k q:List Int) (l:Zc) (n:Zb) (f:ae) (z:Nat),v=.slice gV k.length B/\a3=.slice D q.length E/\e5=.slice x l.length y/\a0=Zs n/\k.length<=13/\ac (q.length=k.length)/\ac (l.length<=1+k.length)/\(f.s.e=0->k.length<=12)/\n.length<=9000+6000*k.length/\ac (14<=k.length+z)/\ac (4<of->of<f.w.length)/\ac (∀C∈f.w,C.bD.length<=1000)/\ac (aN h g t (c+1+2*k.length) f [dw (.slice gV k.length B) k,dw (.slice D q.length E) q,ci (.slice x l.length y) l,.obj b8.heap.size (oW w),.obj b7.heap.size (oW p)] d e4)/\ac (dH t of z k q l n f=dH t of 14 [] [] [w.text] ([117,110,105,111,110,32]++p.text++[32,115,119,105,116,99,104,32,40]++a1++[32]++w.text++[41,32,123,32]) e7)) (λ_ v _ _ _=>15-ju v)
  case atStart=>exact⟨none,0,none,0,some ⟨q3.heap.size,0,none⟩,1,[],[],[w.text],[117,110,105,111,110,32]++p.text++[32,115,119,105,116,99,104,32,40]++a1++[32]++w.text++[41,32,123,32],e7,14,rfl,rfl,rfl,Yo Value.string (gH (by simp)),by simp,Z rfl,Z (by simp),by simp,by simp;omega,Z (by simp),Z (by rw[i9.j];exact c4.2),Z (by rw[i9.j];exact l4.j),k5,Z rfl⟩
  case round=>
   obtain⟨gV,B,D,E,x,y,k,q,l,n,u,z,rfl,rfl,rfl,rfl,i2,o1,b1,n1,n3,i0,i5,i8,G,f4⟩:=hrel;obtain⟨j,R⟩:=G.j.ax;obtain⟨f9,g6,g7,g8,g9,h0,h1,h2,h3,g0,g1,g2,g3,g4,g5,h9,d7⟩:=R.al;by_cases b6:u.s.e=0
   .have m6:(u.s.e==0)=true:=by rw[b6];rfl
    have f6:=Z b6;have n2:=n1 b6;have f3:=mU (t:=t) of (14-k.length) k [] u;have l7:=Z (FT (G.j.hO (i:=0) (a:=dw (.slice gV k.length B) k) rfl) of ⟨c4.1,i5.j⟩ i8.j n2 (by omega));go_wp2_with fail;refine l7.j.mono ?_;rintro H t4 ⟨q2,rfl,S,p3,e2⟩;obtain⟨c9,d3,d9⟩:=ce (S.m _ Yb);subst d9;have O:=Z (G.j.c7 (i:=0) (a:=dw (.slice gV k.length B) k) rfl S);generalize m7:cy t of (14-k.length) k [] u=l8 at *
    have l2:=Z m7;obtain⟨⟨r,a2⟩,a4⟩:=l8;simp only at O p3 e2 f3;obtain⟨m0,q7,q8,m1,m2⟩:=f3;have r1:=m1 f6.j (by omega);have n7:=λP=>m2 P (by omega);have f8:ac (a4.w=u.w):=Z m0.w;have c8:=Z (zu (O.j.hO (i:=2) (a:=ci (.slice x l.length y) l) rfl) (by have:=b1.j;omega) (by omega));have a8:=Z (Yp (mg (t:=t) l a4) (Yp (vD (t:=t) l a4) (Fm (t:=t) l a4)));go_wp2_with fail;refine c8.j.mono ?_;rintro H t5 ⟨e6,rfl,S,e1⟩;obtain⟨d0,d4,d9⟩:=ce (S.m _ Yb);subst d9;have a6:=Z (O.j.c7 (i:=2) (a:=ci (.slice x l.length y) l) rfl S);have f5:=Z (λz=>RM (k:=z) (parts:=q) (out:=n) f6.j l2.j (rfl:cM t l a4=_));generalize cM t l a4=d1 at *
    obtain⟨⟨A,b0,J⟩,F⟩:=d1;simp only at a6 e1 f5 a8;go_wp2;go_loopw [8] (λa3 e4=>∃(ad:Option Addr) (h4:Nat) (o:List Int),a3=.slice ad o.length h4/\o.length<=r.length/\ac (o++List.replicate (r.length-o.length) A=kK r.length A q)/\ac (aN h g t (c+1+2*k.length+2) F [dw (.slice c9 r.length d3) r,dw (.slice ad o.length h4) o,ci (.slice d0 J.length d4) J,.obj b8.heap.size (oW w),.obj b7.heap.size (oW p)] d e4)) (λa3 _=>20-ju a3)
    case atStart=>exact⟨D,E,q,rfl,by have:=o1.j;omega,Z rfl,a6⟩
    case round=>
     obtain⟨c1,c3,o,rfl,r2,f7,b4⟩:=hrel;by_cases d7:o.length<r.length
     .have n5:(o.length:Int)<(r.length:Int):=by omega
      have l3:ac ((o++[A])++List.replicate (r.length-(o++[A]).length) A=kK r.length A q):=Z (by
       rw[<-f7.j,show r.length-o.length=(r.length-(o++[A]).length)+1 by simp;omega,List.replicate_succ];simp)
      have i6:ac (∀a0,(wr.alloc a0).ownsRow 0 3 1 (.slice c1 o.length c3) o.length (o.map (U))):=Z (λa0=>bi (b4.j.bq (i:=1) rfl) ((ak [] wr).B a0) (by simp));have i4:o.length+1<=maxLen:=by unfold maxLen;omega
      go_wp2_with (at_builtin;(refine wpList_append_lies _ (by rfl) _ _ _ (by rfl) 0 3 o8 _ 1 8 underlying24 n0 o4 o5 o6 o7 (by omega) (.slice c1 o.length c3) o.length (o.map (U)) (by rfl) (i6.j _) ⟨wr.heap.size,0,none⟩ 1 1 [U A] (by rfl) (by rfl) (World.news_of_block (cs:=#[U A]) (t:=3) (fr:=(0,0)) (heap_alloc_new wr _)) (by simp[Value.oneCell']) (by omega) i4 (by omega) (by simp) (wr.heap.size+1) (by simp) ?_;intro m3 l9 t6 i7 i1 h7 n6;have l0:=Z (b4.j.io (i:=1) rfl ((ak [] wr).B _) i7 i1 h7 (by simp));clear i7 i1 h7 n6 i6 i4;skip));refine⟨⟨some ⟨m3,0,none⟩,l9,o++[A],by simp,by simp;omega,l3,?_⟩,by simp[ju];omega⟩;have:=l0.j;exact Z (by simpa using this)
     .have n5:¬((o.length:Int)<(r.length:Int)):=by omega
      have m8:ac (kK r.length A q=o):=Z (by rw[<-f7.j,show r.length-o.length=0 by omega];simp);have r9:¬(9223372036854775807<n.length+a2.length):=by omega
      have s0:¬(9223372036854775807<n.length+a2.length+b0.length):=by omega
      go_wp2_with fail;refine(gs b4.j.ax 2 [99,97,115,101]).mono ?_;rintro H q4 ⟨rfl,rfl⟩;obtain⟨z,rfl⟩:∃o9,z=o9+1:=⟨z-1,by have:=i0.j;omega⟩;have b5:=Z (f4.j.symm.trans (f5.j z));unfold yD at b5;simp only at b5;rw[m8.j]at b5;cases i3:aH F 2 [99,97,115,101]with
      |true=>
       have l1:ac (dH t of z r o J (n++a2++b0) F=dH t of 14 [] [] [w.text] ([117,110,105,111,110,32]++p.text++[32,115,119,105,116,99,104,32,40]++a1++[32]++w.text++[41,32,123,32]) e7):=Z (b5.j.trans (by rw[Y9 i3])).symm;have m5:F.s.e=0->a4.s.e=0:=λP=>Classical.byContradiction λh6=>h6 ((a8.j.2.1 h6).1.symm.trans P);have d8:ac (J.length<=1+r.length):=Z (by have:=a8.j.2.2;have:=b1.j;omega);have m9:ac (14<=r.length+z):=Z (by have:=i0.j;omega);have n8:ac (4<of->of<F.w.length):=Z (λP=>by
        obtain⟨p2,d6,_⟩:=a8.j.1.w;have:=i5.j P;rw[d6,f8.j,Yq];omega)
       have o3:ac (∀C∈F.w,C.bD.length<=1000):=Z (λC I=>by
        obtain⟨p2,d6,m4⟩:=a8.j.1.w;rw[d6,f8.j]at I;rcases Yn.1 I with I|I
        .exact i8.j C I
        .rw[(m4 C I).1];simp)
       have a7:=Z (b4.j.a0 (N':=c+1+2*r.length) (by omega));have o0:ac (o.length=r.length):=Z (by omega);have n4:(n++a2++b0).length<=9000+6000*r.length:=by simp;omega
       go_wp2;exact⟨⟨c9,d3,c1,c3,d0,d4,r,o,J,n++a2++b0,F,z,rfl,rfl,rfl,Yo Value.string (gH (by simp)),e2,o0,d8,λP=>n7 (m5 P),n4,m9,n8,o3,a7,l1⟩,by simp[ju];omega⟩
      |false=>
       have a9:=Z (b9.j.trans (Yo (pU t p.text of) (b5.j.trans (by rw[Y2 (by simp[i3])]:_=((r,o,J,n++a2++b0),F)))));have d8:ac (J.length<=1+r.length):=Z (by have:=a8.j.2.2;have:=b1.j;omega);have a7:=Z (b4.j.a0 (N':=c+30) (by omega));go_wp2;go_meet;case rel=>exact⟨c9,d3,c1,c3,d0,d4,r,o,J,n++a2++b0,F,rfl,rfl,rfl,Yo Value.string (gH (by simp)),e2,d8,by simp;omega,a7,a9⟩
   .have m6:(u.s.e==0)=false:=by rw[Yi];exact b6
    have a9:=Z (b9.j.trans (Yo (pU t p.text of) (f4.j.symm.trans (pX b6))));have l6:=Z (G.j.a0 (N':=c+30) (by omega));go_wp2;go_meet;case rel=>exact⟨gV,B,D,E,x,y,k,q,l,n,u,rfl,rfl,rfl,rfl,i2,b1,by omega,l6,a9⟩
 case rest=>
  obtain⟨gV,B,D,E,x,y,k,q,l,n,u,rfl,rfl,rfl,rfl,i2,b1,n3,G,a9⟩:=hcut;go_wp2_with fail;refine(gs G.j.ax 2 [100,101,102,97,117,108,116]).mono ?_;rintro H q4 ⟨rfl,rfl⟩;cases h8:aH u 2 [100,101,102,97,117,108,116]with
  |true=>
   go_wp2_with fail;refine aM G (gZ ·) λq2 k9=>?_;go_wp2_with fail;refine aM k9 (cY · 4 [58]) λt1 a7=>?_;have c8:=Z (zu (a7.j.hO (i:=2) (a:=ci (.slice x (l).length y) (l)) rfl) (by have:=b1.j;omega) (by omega));go_wp2_with fail;refine c8.j.mono ?_;rintro H t2 ⟨q5,rfl,S,e1⟩;have f2:=Z (a7.j.c7 (i:=2) (a:=ci (.slice x (l).length y) (l)) rfl S);have c0:ac (gm t b=er (n++([100,101,102,97,117,108,116,58,32]++(cM t (l) (af t 4 [58] (aW t u))).1.2.1)++[125,59,10]) (dq p.text (af t 4 [59] (af t 4 [125] (cM t (l) (af t 4 [58] (aW t u))).2)).w.length (cm ⟨13,0,of,k,q,(cM t (l) (af t 4 [58] (aW t u))).1.1,[],0⟩ (af t 4 [59] (af t 4 [125] (cM t (l) (af t 4 [58] (aW t u))).2))))):=Z (a9.j.trans (by unfold pU gJ;simp only[h8,if_true]))
   generalize cM t (l) (af t 4 [58] (aW t u))=d1 at *
   obtain⟨⟨h5,c2,p4⟩,q6⟩:=d1;simp only at f2 e1 c0;have s1:¬(9223372036854775807<n.length+9):=by omega
   have s2:¬(9223372036854775807<n.length+9+c2.length):=by omega
   go_wp2_with fail;refine aM f2 (cY · 4 [125]) λp8 O=>?_;go_wp2_with fail;refine aM O (cY · 4 [59]) λp9 a6=>?_;generalize af t 4 [59] (af t 4 [125] q6)=a5 at *
   go_wp2_with fail;refine(qZ (L:=[ci q5 p4,.obj b8.heap.size (oW w),.obj b7.heap.size (oW p)]) ⟨13,0,of,k,q,h5,[],0⟩ a6.j (by omega)).mono ?_;rintro H q0 ⟨rfl,d2⟩;have b2:=Z d2;obtain⟨j4,e6,j5,j6,j7,j8,j9,k0⟩:=b2.j.al (i:=2) rfl;go_wp2_with fail;refine aM b2 (rx · p.text a5.w.length (by omega)) λq1 b3=>?_;generalize dq p.text a5.w.length (cm ⟨13,0,of,k,q,h5,[],0⟩ a5)=N at *
   obtain⟨j,R⟩:=b3.j.ax;obtain⟨f9,g6,g7,g8,g9,h0,h1,h2,h3,g0,g1,g2,g3,g4,g5,h9,d7⟩:=R.al;have d5:=R.bp;unfold ae.sz at d5;have p0:¬(9223372036854775807<N.j.length+(n.length+9+c2.length)):=by omega
   have p1:¬(9223372036854775807<N.j.length+(n.length+9+c2.length)+3):=by omega
   go_wp2;go_end0;rw[c0.j];exact⟨rfl,((b3.j.f9 (K:=150000) (s:=n++([100,101,102,97,117,108,116,58,32]++c2)++[125,59,10]) (gH (by simp)) (by simp;omega)).a0 (by omega)).fin⟩
  |false=>
   have c0:ac (gm t b=er (n++[]++[125,59,10]) (dq p.text (af t 4 [59] (af t 4 [125] u)).w.length (cm ⟨13,0,of,k,q,-2,[],0⟩ (af t 4 [59] (af t 4 [125] u))))):=Z (a9.j.trans (by unfold pU gJ;simp only[h8,Ye,if_false]))
   go_wp2_with fail;refine aM G (cY · 4 [125]) λp8 O=>?_;go_wp2_with fail;refine aM O (cY · 4 [59]) λp9 a6=>?_;generalize af t 4 [59] (af t 4 [125] u)=a5 at *
   go_wp2_with fail;refine(qZ (L:=[ci (.slice x (l).length y) (l),.obj b8.heap.size (oW w),.obj b7.heap.size (oW p)]) ⟨13,0,of,k,q,(-2),[],0⟩ a6.j (by omega)).mono ?_;rintro H q0 ⟨rfl,d2⟩;have b2:=Z d2;obtain⟨j4,e6,j5,j6,j7,j8,j9,k0⟩:=b2.j.al (i:=2) rfl;go_wp2_with fail;refine aM b2 (rx · p.text a5.w.length (by omega)) λq1 b3=>?_;generalize dq p.text a5.w.length (cm ⟨13,0,of,k,q,(-2),[],0⟩ a5)=N at *
   obtain⟨j,R⟩:=b3.j.ax;obtain⟨f9,g6,g7,g8,g9,h0,h1,h2,h3,g0,g1,g2,g3,g4,g5,h9,d7⟩:=R.al;have d5:=R.bp;unfold ae.sz at d5;have p0:¬(9223372036854775807<N.j.length+n.length):=by omega
   have p1:¬(9223372036854775807<N.j.length+n.length+3):=by omega
   go_wp2;go_end0;rw[c0.j];exact⟨rfl,((b3.j.f9 (K:=150000) (s:=n++[]++[125,59,10]) (gH (by simp)) (by simp;omega)).a0 (by omega)).fin⟩
end
section
variable {f:br->br}
variable {l u : Nat -> Prop} {h g q : Nat} {t : Zb} {b z : ae} {c m y n o : Zw} {r : PV} {d : List Th} {i : Nat} {a w : Th}
def kb:br:=⟨0,0,0,0,0⟩
def AD:(prog.info? 288).map (λi=>(i.zero,i.size,i.bytes))=some (some (.agg #[U 0,U 0,U 0,U 0,U 0]),5,40):=by kernel_rfl
def MI{a:List br}{ad:Option Addr}{d e:Nat}(b:(fh (.slice ad d e) a).At c):d=a.length:=by
 have f:c.ownsRow 0 288 5 (.slice ad d e) a.length (a.flatMap eq):=b;rcases f.2 with⟨b,j⟩|⟨i,g,h,b,_⟩;all_goals simp_all
def aN.k5{n u o k j:Nat}{e:List br}{v:Zv}{p':br}(s:aN l h t g b d m c)(r:d[i]? = some (fh (.slice (some ⟨n,0,none⟩) u o) e))(C:k<e.length)(y:j<5)(A:eq p'=(eq (e.getD k kb)).set j v):aN l h t g b (d.set i (fh (.slice (some ⟨n,0,none⟩) u o) (e.set k p'))) m (c.setCell ⟨n,k*5+j,none⟩ v):=by
 have z:=MI (s.bq (a:=fh (.slice (some ⟨n,0,none⟩) u o) e) r);subst z;have w:c.ownsRow 0 288 5 (.slice (some ⟨n,0,none⟩) e.length o) e.length (e.flatMap eq):=s.bq (a:=fh (.slice (some ⟨n,0,none⟩) e.length o) e) r;have D:(e.flatMap eq).length=e.length*5:=w.1;refine s.bR r ((ak [n] c).ay (p:=⟨n,k*5+j,none⟩) (by simp) v) (λx q=>by simp at q;rw[q];rfl) ?_ (λx q=>Y8 q);have B:=sP w (i:=k*5+j) (by omega) v;rw[sk (f:=eq) (k:=5) (λ_=>rfl) e k j (e.getD k kb) p' v y (by grind) A]at B;show World.ownsRow _ 0 _ 5 _ (e.set k p').length _;simp_all
def Ca{a:List br}{ad:Option Addr}{g d k:Nat}(l:(fh (.slice ad g d) a).At c)(u:k<a.length):∃b,ad=some ⟨b,0,none⟩/\(∀i,c.frozen? ⟨b,i,none⟩=false)/\b<c.heap.size/\c.cell? ⟨b,k*5,none⟩=some (U (a.getD k kb).prog)/\c.cell? ⟨b,k*5+1,none⟩=some (U (a.getD k kb).fn):=by
 have h:c.ownsRow 0 288 5 (.slice ad g d) a.length (a.flatMap eq):=l;have j:=λn m=>qM (f:=eq) (k:=5) (λ_=>rfl) a k n m;have e:a[k]? = some (a.getD k kb):=by grind
 obtain⟨b,o,w,r,t,v⟩:=ka h (j 0 (by omega) |>.trans (by rw[e];rfl));obtain⟨q,p,x,s,_⟩:=ka h (j 1 (by omega) |>.trans (by rw[e];rfl));simp_all
def aN.k0{k:List Th}(f:Nat->Nat)(u:∀e j,e<k.length->j<k.length->e≠j->f e≠f j)(s:∀e a,k[e]? = some a->d[f e]? = some a)(n:aN l h t g b d m c):aN l h t g b k m c:=by
 have p:∀a∈k,a∈d:=by
  grind [List.getElem?_of_mem]
 refine⟨n.ax.b9 ?_,n.fr,λa i=>n.m a (p a i),λa i=>n.ao a (p a i),?_⟩
 .rintro w (o|⟨a,i,o⟩)
  .exact Y8 o
  .exact Ya ⟨a,p a i,o⟩
 .intro e j a q v i r;exact n.cv (f e) (f j) a q (u e j (YB.1 i).1 (YB.1 r).1 v) (s e a i) (s j q r)
def aN.ks(i:aN l h t g b d m c):aN l h t g b (fh (.slice none 0 0) []::d) m c:=by
 refine⟨i.ax.b9 ?_,i.fr,?_,?_,?_⟩
 .rintro n (f|⟨e,a,f⟩)
  .exact Y8 f
  .rcases Yg.1 a with rfl|a
   .grind [Th.ba,Value.ownBlock]
   .exact Ya ⟨e,a,f⟩
 .intro e a;rcases Yg.1 a with rfl|a
  .exact⟨rfl,Y8 ⟨rfl,rfl⟩⟩
  .exact i.m e a
 .intro e a n f;rcases Yg.1 a with rfl|a
  .grind [Th.ba,Value.ownBlock]
  .exact i.ao e a n f
 .intro j k e o u a s p q r;cases j with
  |zero=>grind [Th.ba,Value.ownBlock]
  |succ j=>
   cases k with
   |zero=>grind [Th.ba,Value.ownBlock]
   |succ k=>exact i.cv j k e o (by omega) (by simp_all) (by simp_all) p q r
def aN.l7{e j f:Nat}{v:Zv}{a:List br}{k:br}(x:aN l h t g b d m c)(s:d[i]? = some (fh v a))(u:am [] c n)(w:o.ownsRow 0 288 5 (.slice (some ⟨e,0,none⟩) (a.length+1) j) (a.length+1) (a.flatMap eq++eq k))(r:n.grownBy o v.ownBlock)(q:v.ownBlock=some e\/e=f)(p:n.heap.size=f):aN l h t g b (d.set i (fh (.slice (some ⟨e,0,none⟩) (a.length+1) j) (a++[k]))) m o:=by
 have:=x.bo s u w r q p;grind
def Cv{b:List br}{a:Nat}(d:a<b.length):((b.take a).map f++b.drop a).set a (f (b.getD a kb))=(b.take (a+1)).map f++b.drop (a+1):=by
 have c:b.drop a=b.getD a kb::b.drop (a+1):=by
  simp_all
 rw[c,List.set_append_right _ _ (by grind)];have:a-((b.take a).map f).length=0:=by grind
 grind
def Aq{b:List br}{a:Nat}(c:a<b.length):((b.take a).map f++b.drop a).getD a kb=b.getD a kb:=by
 grind
def xo{a:List br}{b:Nat}:((a.take b).map f++a.drop b).length=a.length:=by
 grind
def xX(t:Zb)(e:List br)(i:Zc)(h:List Int)(g:Zb)(d:Int×Zb)(f:dO)(a:Int×Zb)(c:Int)(b:ae):(List br×Zb)×ae:=
 if aH b 4 [125]=true then ((e++[⟨0,0,c,a.1,d.1⟩],g++d.2++[32]++f.text++[40]++a.2++[41,32,61,32]++bO c++[59,32]),b)
 else eV t (10-(e++[(⟨0,0,c,a.1,d.1⟩:br)]).length) (e++[⟨0,0,c,a.1,d.1⟩]) (i++[f.text]) (h++[c]) (g++d.2++[32]++f.text++[40]++a.2++[41,32,61,32]++bO c++[59,32]) b
theorem Cb{a:Nat}{c:List br}{g:Zc}{f:List Int}{d:Zb}(h:b.s.e≠0):eV t a c g f d b=((c,d),b):=by
 cases a<;>simp_all[eV]
def MZ{c:List br}{h:Zc}{f:List Int}{out:Zb}{g a:(Int×Zb)×ae}{d:dO×ae}{e:Int×ae}(j:b.s.e=0)(l:c.length<=9)(o:es t (aD c.length 8 b)=g)(m:cd t h false g.2=d)(k:es t (af t 4 [40] d.2)=a)(n:bS t f (af t 4 [41] a.2)=e):eV t (10-c.length) c h f out b=xX t c h f out g.1 d.1 a.1 e.1 e.2:=by
 have i:10-c.length=(9-c.length)+1:=by omega
 simp_all[xX,eV]
def Cx(a:b.s.x.text.length<=2000):(es t b).1.2.length<=2000:=by
 unfold es;split
 .simp
 .unfold cq iC;split
  .simp
  .split
   .exact a
   .split
    .simp
    .split
     .simp
     .split
      .simp
      .split
       .split
        .simp
        grind
       simp
def rA(t:Zb)(d:Zb)(b:List Int)(a:(List br×Zb)×ae):rP×ae:=
 (⟨d,(bS t b (af t 4 [125] a.2)).1,a.1.1.map (λc=>{ c with fn:=(bS t b (af t 4 [125] a.2)).1 }),a.1.2++[125,32,61,32]++bO (bS t b (af t 4 [125] a.2)).1++[59,32]⟩,(bS t b (af t 4 [125] a.2)).2)
def NG{b:Func}{Q:Ending->Zw->Prop}{a:Act}{i0 i1 i2 i3:Nat}{v0 v1 v2 v3:Zv}(j:b.results=#[.tmp i0,.tmp i1,.tmp i2,.tmp i3])(f:a.tmps.getD i0 undef=v0)(g:a.tmps.getD i1 undef=v1)(h:a.tmps.getD i2 undef=v2)(i:a.tmps.getD i3 undef=v3)(d:a.defers=[])(e:Q (.returned (.tuple #[v0,v1,v2,v3])) c):bodyPost prog b Q .ret a c:=by
 refine bodyPost_ret (v:=.tuple #[v0,v1,v2,v3]) ?_ d e;simp_all[results]
def xM(a:List Int)(b:ae):0<=(bS t a b).1/\(bS t a b).1<=4294967295:=by
 grind [bS,tl]
end
section
variable {g r : Nat -> Prop} {d b N' : Nat} {t : Zb} {j h : ae} {c w n p k : Zw} {o : PV} {q : List Th} {i : Nat} {a u : Th}
def En(g:Nat->Prop)(d:Nat)(t:Zb)(b:Nat)(j:Zc)(k:List Int)(a:rP×ae)(c:Zw)(i:Ending)(n:Zw):Prop:=∃h f e,i=.returned (.tuple #[h,f,e,.string ⟨a.1.j.toArray⟩])/\aN g d t b a.2 [ci h (j++[a.1.b0]),dw f (k++[a.1.num]),fh e a.1.l] c n/\a.1.j.length<=100000/\a.1.l.length<=9
def Se{v b1:Zv}{x:Zc}{r:List Int}(m:aN g d t b j [ci v x,dw b1 r] c c)(q7:x.length<=1000)(q8:r.length<=1000)(q2:b+100<=1000000000):Calls prog 146 #[Zp d,v,b1] c (En g d t (b+20) x r (ed t x r j) c):=by
 obtain⟨f4,f6,rfl⟩:=ce (m.m _ Yb);obtain⟨b4,b6,rfl⟩:=ce (m.m _ (Y5 _ Yb));have i6:=Z m;obtain⟨h1,l1,m1,m2,m3⟩:=info_parts AD;have m4:(Value.agg #[U 0,U 0,U 0,U 0,U 0]).cells.size=5:=by decide
 go_in;go_wp2_with fail;refine aM i6 (cY · 2 [118,101,114,115,105,111,110]) λp d8=>?_;have c6:=Z (zs (d8.j.hO (i:=0) (a:=ci (.slice f4 x.length f6) x) rfl) (by omega) (by omega));go_wp2_with fail;refine c6.j.mono ?_;rintro S k ⟨n0,rfl,G,m5⟩;obtain⟨b3,b5,b0⟩:=ce (G.m _ Yb);subst b0;have d9:=Z (d8.j.c7 (i:=0) (a:=ci (.slice f4 x.length f6) x) rfl G);generalize m0:cd t x false (af t 2 [118,101,114,115,105,111,110] j)=n4 at *
 have k0:=Z m0;obtain⟨u,i0⟩:=n4;simp only at d9 m5;have i7:=Z (d9.j.B (oW u));go_wp2_with fail;refine aM i7 (cY · 4 [123]) λt5 e0=>?_;obtain⟨n5,n6,n7,n8,n9,o0,o1,o2⟩:=e0.j.al (i:=0) rfl;have r0:¬(9223372036854775807<8+u.text.length):=by omega
 have r2:¬(9223372036854775807<8+u.text.length+3):=by omega
 have f3:ac (ed t x r j=rA t u.text r (eV t 10 [] [] [] ([118,101,114,115,105,111,110,32]++u.text++[32,123,32]) (af t 4 [123] i0))):=by
  show _=_;unfold ed rA;simp only[k0.j]
 generalize q3:af t 4 [123] i0=d6 at *
 have i8:=Z (e0.j.nil.jM.ks);go_upto_block 0 with fail;go_cut [11,12,13,14] (λN d4 h9 h2 wc=>∃(gV:Option Addr) (A:Nat) (l:List br) (n:Zb) (h:ae) (c4 c5:Th),d4=.slice gV l.length A/\N=Zs n/\l.length<=9/\n.length<=75000/\ac (aN g d t (b+2*l.length) h [fh (.slice gV l.length A) l,c4,c5,.obj k.heap.size (oW u),ci (.slice b3 (x++[u.text]).length b5) (x++[u.text]),dw (.slice b4 r.length b6) r] c wc)/\ac (ed t x r j=rA t u.text r ((l,n),h)));case first=>
  go_wp2;go_loopw [11,12,13,14] (λN d4 h9 h2 d5=>∃(gV:Option Addr) (A:Nat) (a4:Option Addr) (a6:Nat) (a5:Option Addr) (a7:Nat) (l:List br) (z:Zc) (y:List Int) (n:Zb) (h:ae),d4=.slice gV l.length A/\h9=.slice a4 z.length a6/\h2=.slice a5 y.length a7/\N=Zs n/\l.length<=9/\ac (z.length=l.length)/\ac (y.length=l.length)/\(h.s.e=0->l.length<=8)/\n.length<=2100+7000*l.length/\ac (aN g d t (b+2*l.length) h [fh (.slice gV l.length A) l,ci (.slice a4 z.length a6) z,dw (.slice a5 y.length a7) y,.obj k.heap.size (oW u),ci (.slice b3 (x++[u.text]).length b5) (x++[u.text]),dw (.slice b4 r.length b6) r] c d5)/\ac (eV t (10-l.length) l z y n h=eV t 10 [] [] [] ([118,101,114,115,105,111,110,32]++u.text++[32,123,32]) d6)) (λ_ v _ _ _=>15-ju v)
  case atStart=>exact⟨none,0,none,0,none,0,[],[],[],[118,101,114,115,105,111,110,32]++u.text++[32,123,32],d6,rfl,rfl,rfl,Yo Value.string (gH (by simp)),by simp,Z rfl,Z rfl,by simp,by simp;omega,i8,Z rfl⟩
  case round=>
   obtain⟨gV,A,a4,a6,a5,a7,l,z,y,n,H,rfl,rfl,rfl,rfl,d0,h0,g5,l2,l6,a3,f2⟩:=hrel;obtain⟨o,k8⟩:=a3.j.ax;obtain⟨o5,p2,p3,p4,p5,p6,p7,p8,p9,o6,o7,o8,o9,p0,p1,c9,b8⟩:=k8.al;by_cases a9:H.s.e=0
   .have k9:(H.s.e==0)=true:=by rw[a9];rfl
    have j3:=Z a9;have q9:=l2 a9;go_wp2_with fail;refine aM a3 (kM · l.length 8) λt6 e1=>?_;have m8:=Cx (t:=t) e1.j.ax.c3;have h3:=rr (t:=t) (aD l.length 8 H);go_wp2_with fail;refine aM e1 (Cz · (by omega)) λh8 e4=>?_;generalize L:es t (aD l.length 8 H)=P at *
    have j6:=Z L;obtain⟨⟨D,E⟩,i4⟩:=P;simp only at e4 m8 h3;have e5:=Z (e4.j.B (oW cp));have c6:=Z (zs (e5.j.hO (i:=2) (a:=ci (.slice a4 z.length a6) z) rfl) (by have:=h0.j;omega) (by omega));have h4:=h3.u (lH (t:=t) z false i4);go_wp2_with fail;refine c6.j.mono ?_;rintro S t7 ⟨n1,rfl,G,m6⟩;obtain⟨k1,k3,b0⟩:=ce (G.m _ Yb);subst b0;have c0:=Z (e5.j.c7 (i:=2) (a:=ci (.slice a4 z.length a6) z) rfl G);generalize L:cd t z false i4=P at *
    have j7:=Z L;obtain⟨B,i5⟩:=P;simp only at c0 m6 h4;have i9:=Z (c0.j.c4 (i:=0) (R:=h8.heap.size) (y:=cp) rfl B);obtain⟨s3,s4,s5,s6,s7,s8,s9,t0⟩:=c0.j.al (i:=0) (R:=h8.heap.size) (x:=cp) rfl;go_wp2_with fail;refine aM i9 (cY · 4 [40]) λn3 e6=>?_;have m9:=Cx (t:=t) e6.j.ax.c3;have h5:=(h4.u (aZ (t:=t) 4 [40] i5)).u (rr (t:=t) _);go_wp2_with fail;refine aM e6 (Cz · (by omega)) λt1 e7=>?_;generalize L:es t (af t 4 [40] i5)=P at *
    have j8:=Z L;obtain⟨⟨C,M⟩,d7⟩:=P;simp only at e7 m9 h5;go_wp2_with fail;refine aM e7 (cY · 4 [41]) λt2 e8=>?_;have c7:=Z (BI (e8.j.hO (i:=3) (a:=dw (.slice a5 y.length a7) y) rfl) (by have:=g5.j;omega) (by omega));have d1:=xM (t:=t) y (af t 4 [41] d7);have h6:=Z ((h5.u (aZ (t:=t) 4 [41] d7)).u (mv (t:=t) y _));go_wp2_with fail;refine c7.j.mono ?_;rintro S t3 ⟨n2,rfl,G⟩;obtain⟨k2,k4,b0⟩:=ce (G.m _ Yb);subst b0;have e9:=Z (e8.j.c7 (i:=3) (a:=dw (.slice a5 y.length a7) y) rfl G);generalize L:bS t y (af t 4 [41] d7)=P at *
    have j9:=Z L;obtain⟨w,a1⟩:=P;simp only at e9 d1 h6;go_wp2_with fail;refine(kH w (by omega) (by omega) _).mono ?_;rintro S a0 ⟨rfl,d3⟩;have e2:=Z (e9.j.F d3);have a2:=Z (f2.j.symm.trans (MZ (out:=n) j3.j d0 j6.j j7.j j8.j j9.j));unfold xX at a2;simp only at a2;have g7:ac (∀N,(a0.alloc N).ownsRow 0 288 5 (.slice gV l.length A) l.length (l.flatMap eq)):=Z (λN=>bi (e2.j.bq (i:=1) (a:=fh (.slice gV l.length A) l) rfl) ((ak [] a0).B N) (by simp));have g4:l.length+1<=maxLen:=by unfold maxLen;omega
    have g6:∀b1∈eq ⟨0,0,w,C,D⟩,b1.oneCell'=true:=by
     intro b1 g9;simp[eq]at g9;rcases g9 with rfl|rfl|rfl|rfl<;>rfl
    have l8:=kP w (by omega) (by omega);unfold bO at l8 a2;generalize Lib.itoa w=a8 at *
    have r3:¬(9223372036854775807<n.length+E.length):=by omega
    have r4:¬(9223372036854775807<n.length+E.length+1):=by omega
    have r5:¬(9223372036854775807<n.length+E.length+1+B.text.length):=by omega
    have r6:¬(9223372036854775807<n.length+E.length+1+B.text.length+1):=by omega
    have r7:¬(9223372036854775807<n.length+E.length+1+B.text.length+1+M.length):=by omega
    have r8:¬(9223372036854775807<n.length+E.length+1+B.text.length+1+M.length+4):=by omega
    have r9:¬(9223372036854775807<n.length+E.length+1+B.text.length+1+M.length+4+a8.length):=by omega
    have r1:¬(9223372036854775807<n.length+E.length+1+B.text.length+1+M.length+4+a8.length+2):=by omega
    go_wp2_with (at_builtin;(refine wpList_append_lies _ (by rfl) _ _ _ (by rfl) 0 288 h1 _ 5 40 underlying60 l1 m1 m2 m3 m4 (by omega) (.slice gV l.length A) l.length (l.flatMap eq) (by rfl) (g7.j _) ⟨a0.heap.size,0,none⟩ 1 1 (eq ⟨0,0,w,C,D⟩) (by rfl) (by rfl) (World.news_of_block (cs:=(eq ⟨0,0,w,C,D⟩).toArray) (t:=288) (fr:=(0,0)) (heap_alloc_new a0 _)) g6 (by omega) g4 (by omega) (by simp) (a0.heap.size+1) (by simp) ?_;intro f7 f5 t4 g8 g0 f8 l7;have b9:=Z (e2.j.l7 (i:=1) rfl ((ak [] a0).B _) g8 g0 f8 (by simp));clear g8 g0 f8 l7 g7 g4 g6;obtain⟨n5,n6,n7,n8,n9,o0,o1,o2⟩:=b9.j.al (i:=0) rfl));refine(gs b9.j.ax 4 [125]).mono ?_;rintro S n3 ⟨rfl,rfl⟩;have e3:=Z b9.j.b3;cases g3:aH a1 4 [125]with
    |true=>
     have J:=Z (f3.j.trans (Yo (rA t u.text r) (a2.j.trans (by rw[Y9 g3]:_=((l++[⟨0,0,w,C,D⟩],n++E++[32]++B.text++[40]++M++[41,32,61,32]++a8++[59,32]),a1)))));have b2:=Z (e3.j.a0 (N':=b+2*(l++[(⟨0,0,w,C,D⟩:br)]).length) (by simp;omega));simp only[List.set]at b2;go_wp2;go_meet;case rel=>exact⟨some ⟨f7,0,none⟩,f5,l++[⟨0,0,w,C,D⟩],_,a1,_,_,by simp,Yo Value.string (gH (by simp)),by simp;omega,by simp;omega,Z (by simpa using b2.j),J⟩
    |false=>
     have j0:ac (eV t (10-(l++[(⟨0,0,w,C,D⟩:br)]).length) (l++[⟨0,0,w,C,D⟩]) (z++[B.text]) (y++[w]) (n++E++[32]++B.text++[40]++M++[41,32,61,32]++a8++[59,32]) a1=eV t 10 [] [] [] ([118,101,114,115,105,111,110,32]++u.text++[32,123,32]) d6):=Z (a2.j.trans (by rw[Y2 (by simp[g3])])).symm;have l3:a1.s.e=0->(l++[(⟨0,0,w,C,D⟩:br)]).length<=8:=by
      intro k7;rcases Yj l.length 8 with k5|k5
      .simp;omega
      .have c9:=qN (n:=l.length) (m:=8) (by omega) H;exact absurd k7 (by rw[(h6.j c9).1];exact c9)
     have j4:ac ((z++[B.text]).length=(l++[(⟨0,0,w,C,D⟩:br)]).length):=Z (by have:=h0.j;simp;omega);have j5:ac ((y++[w]).length=(l++[(⟨0,0,w,C,D⟩:br)]).length):=Z (by have:=g5.j;simp;omega);have b2:=Z (e3.j.a0 (N':=b+2*(l++[(⟨0,0,w,C,D⟩:br)]).length) (by simp;omega));go_wp2;refine⟨⟨some ⟨f7,0,none⟩,f5,k1,k3,k2,k4,l++[⟨0,0,w,C,D⟩],z++[B.text],y++[w],n++E++[32]++B.text++[40]++M++[41,32,61,32]++a8++[59,32],a1,by simp,by simp,by simp,?_,by simp;omega,j4,j5,l3,by simp;omega,?_,j0⟩,by simp[ju];omega⟩
     .exact Yo Value.string (gH (by simp))
     .have:=b2.j;exact Z (by simpa using this)
   .have k9:(H.s.e==0)=false:=by rw[Yi];exact a9
    have J:=Z (f3.j.trans (Yo (rA t u.text r) (f2.j.symm.trans (Cb a9))));go_wp2;go_meet;case rel=>exact⟨gV,A,l,n,H,_,_,rfl,rfl,d0,by omega,a3,J⟩
 case rest=>
  obtain⟨gV,A,l,n,H,c4,c5,rfl,rfl,d0,l6,a3,J⟩:=hcut;go_wp2_with fail;refine aM a3 (cY · 4 [125]) λt8 f0=>?_;have c7:=Z (BI (f0.j.hO (i:=5) (a:=dw (.slice b4 r.length b6) r) rfl) (by omega) (by omega));have d1:=xM (t:=t) r (af t 4 [125] H);go_wp2_with fail;refine c7.j.mono ?_;rintro S t9 ⟨h7,rfl,G⟩;have f1:=Z (f0.j.c7 (i:=5) (a:=dw (.slice b4 r.length b6) r) rfl G);unfold rA at J;generalize bS t r (af t 4 [125] H)=m7 at *
  obtain⟨F,o3⟩:=m7;simp only at f1 d1 J;go_wp2;go_loopw [24] (λd2 d5=>∃(q:Nat) (I:List br),d2=U q/\q<=(l).length/\ac (I=((l).take q).map (λO=>{ O with fn:=F })++(l).drop q)/\ac (aN g d t (b+2*(l).length) o3 [fh (.slice gV (l).length A) I,c4,c5,.obj k.heap.size (oW u),ci (.slice b3 (x++[u.text]).length b5) (x++[u.text]),dw h7 (r++[F])] c d5)) (λd2 _=>(l).length-(intOf d2).toNat)
  case atStart=>exact⟨0,l,rfl,by omega,Z (by simp),f1⟩
  case round=>
   obtain⟨q,I,rfl,g1,c2,c1⟩:=hrel;rcases Yj q (l).length with b8|f9
   .have q6:(0:Int)<=↑q:=by omega
    have l5:(↑q:Int) < ↑(l).length:=by omega
    have g2:q<I.length:=by rw[c2.j,xo];exact b8
    obtain⟨q0,l0,q4,q5,-,q1⟩:=Ca (c1.j.bq (i:=0) (a:=fh (.slice gV (l).length A) I) rfl) g2;cases l0
    have c3:ac (I.set q { I.getD q kb with fn:=F } = ((l).take (q+1)).map (λO=>{ O with fn:=F })++(l).drop (q+1)):=Z (by
     have k6:=Cv (f:=λO:br=>{ O with fn:=F }) b8;rw[c2.j,Aq b8];exact k6)
    have j1:=Z (c1.j.k5 (i:=0) (k:=q) (j:=1) (p':={ I.getD q kb with fn:=F }) (v:=U F) rfl g2 (by omega) rfl);go_wp2;exact⟨⟨q+1,_,by go_num,by omega,c3,j1⟩,by simp[intOf];omega⟩
   .have l5:¬((↑q:Int) < ↑(l).length):=by omega
    have c3:ac (I=(l).map (λO=>{ O with fn:=F })):=Z (by
     rw[c2.j,List.take_of_length_le f9,YR f9,YH])
    go_wp2_with fail;refine(kH F (by omega) (by omega) _).mono ?_;rintro S u0 ⟨rfl,d3⟩;have j2:=Z (c1.j.F d3);have l9:=kP F (by omega) (by omega);unfold bO at l9 J;generalize Lib.itoa F=c8 at *
    have s0:¬(9223372036854775807<n.length+4):=by omega
    have s1:¬(9223372036854775807<n.length+4+c8.length):=by omega
    have s2:¬(9223372036854775807<n.length+4+c8.length+2):=by omega
    go_wp2;refine NG (i0:=6) (i1:=7) (i2:=8) (i3:=9) (v0:=.slice b3 (x.length+1) b5) (v1:=h7) (v2:=.slice gV (l).length A) (v3:=.string ⟨(n++[125,32,61,32]++c8++[59,32]).toArray⟩) ?_ ?_ ?_ ?_ ?_ ?_ ?_
    .rfl
    .rfl
    .rfl
    .rfl
    .exact Yo Value.string (gH (by simp))
    .rfl
    .rw[J.j];refine⟨_,_,_,rfl,?_,by simp;omega,by simp;omega⟩;rw[<-c3.j];exact(j2.j.a0 (by omega)).k0 (λK=>match K with|0=>4|1=>5|_=>0) (by intro K q l4 g1;simp at l4 g1;match K,q with|0,0=>simp|0,1=>simp|0,2=>simp|1,0=>simp|1,1=>simp|1,2=>simp|2,0=>simp|2,1=>simp|2,2=>simp|K+3,_=>omega|_,q+3=>omega) (by intro K o4 b7;match K with|0=>simpa using b7|1=>simpa using b7|2=>simpa using b7|K+3=>simp at b7)
end
section
variable {j q : Nat -> Prop} {P h p : Nat} {t : Zb} {a w : ae} {b o f u d : Zw} {c : PV} {k : List Th} {i : Nat} {g r : Th}
def Aw(b:Zw)(a:Option Nat):b.grownBy b a:=⟨rfl,rfl,rfl,Y4 _,λ_ _ _=>rfl⟩
def MJ(d:List br):∀b∈d.flatMap eq,b.oneCell'=true:=by
 intro b c;obtain⟨e,_,a⟩:=List.mem_flatMap.1 c;simp[eq]at a;rcases a with rfl|rfl|rfl|rfl|rfl<;>rfl
def OF(b:Zw)(e:TypeId){v k:Zv}{c a:List br}(h:b.ownsRow 0 288 5 v c.length (c.flatMap eq))(i:b.ownsRow 0 288 5 k a.length (a.flatMap eq))(D:c.length+a.length<=1000000000) :
  ∃d f,(Builtin.append_ #[60,60] e #[v,k]).run prog b=.ok d f/\f.ownsRow 0 288 5 d (c++a).length ((c++a).flatMap eq)/\b.grownBy f v.ownBlock/\(d.ownBlock=v.ownBlock\/d.ownBlock=some b.heap.size):=by
 obtain⟨j,g,p,q,r⟩:=info_parts AD;have s:(Value.agg #[U 0,U 0,U 0,U 0,U 0]).cells.size=5:=by rfl
 rw[Yq,YK];rcases i.2 with⟨rfl,n⟩|⟨m,l,u,rfl,x,y,z,A,B,C⟩
 .have o:a=[]:=Yv.1 n;subst o;refine⟨v,b,run_append_owned_none (P:=prog) b 0 60 e 288 j 5 underlying60 g v c.length _ h,by simp_all,Aw _ _,Y8 rfl⟩
 .obtain⟨d,f,E,F,w,_,t⟩:=run_append_own_at (P:=prog) b 0 60 e 288 j _ 5 40 underlying60 g p q r s (by omega) v c.length (c.flatMap eq) h ⟨m,0,none⟩ a.length l (a.flatMap eq) i.1 (by
   grind [Addr.add,bJ]) (MJ a) (by unfold maxLen;omega) (by omega) (YV _)
  grind
def DL{e:Array Oper}{rest:List Oper}{c:Oper}{g:Act}{Q:Exit->Act->Zw->Prop}{b:Zw}(p:c.guard=none)(h i:Operand)
  (r:c.op=.call { callee:=.builtin .append,args:=#[h,i],argTypes:=#[60,60] }) {v y:Zv} {l m:List br} (t:g.eval h=v) (w:g.eval i=y) (u:b.ownsRow 0 288 5 v l.length (l.flatMap eq)) (x:b.ownsRow 0 288 5 y m.length (m.flatMap eq)) (q:l.length+m.length<=1000000000)
  (n:∀ad a f,f.ownsRow 0 288 5 (.slice ad (l++m).length a) (l++m).length ((l++m).flatMap eq)->b.grownBy f v.ownBlock->((Value.slice ad (l++m).length a).ownBlock=v.ownBlock\/(Value.slice ad (l++m).length a).ownBlock=some b.heap.size)->wpList prog e Q rest (g.put c.dst (.slice ad (l++m).length a)) f):wpList prog e Q (c::rest) g b:=by
 refine wpList_plain p λz o=>?_;obtain⟨A,f,s,d,k,j⟩:=OF b c.type u x q;obtain⟨ad,a,rfl⟩:=ce d;unfold Oper.wp execOp;simp only[r,resolve,invoke,builtin,Sem.run_bind,Sem.run_pure,Result.andThen_ok,List.map_toArray,List.map_cons,List.map_nil,t,w,s];exact o _ _ (n ad a f d k j)
def aN.l8{v:Zv}{l c:List br}{ad:Option Addr}{e:Nat}(u:aN j P t h a k o b)(r:k[i]? = some (fh v l))(s:d.ownsRow 0 288 5 (.slice ad c.length e) c.length (c.flatMap eq))(f:b.grownBy d v.ownBlock)(p:(Value.slice ad c.length e).ownBlock=v.ownBlock\/(Value.slice ad c.length e).ownBlock=some b.heap.size):aN j P t h a (k.set i (fh (.slice ad c.length e) c)) o d:=by
 refine u.bR r (fs f) (λg f=>by simpa[Th.ba]using f) s ?_;intro g q;have n:(Value.slice ad c.length e).ownBlock=some g:=q;rcases p with m|m
 .left;rw[m]at n;exact n
 simp_all
def bk.lf{c:PV}{d:Zw}{ms:List br}{ad:Option Addr}{q:Nat}(f:bk j P t h a c b)(w:b.grownBy d c.pv.ownBlock)(r:d.ownsRow 0 288 5 (.slice ad (a.ag++ms).length q) (a.ag++ms).length ((a.ag++ms).flatMap eq))(v:(Value.slice ad (a.ag++ms).length q).ownBlock=c.pv.ownBlock\/(Value.slice ad (a.ag++ms).length q).ownBlock=some b.heap.size) :
  bC j P t (h+ms.length) { a with ag:=a.ag++ms } (d.setCell ⟨P,9,none⟩ (.slice ad (a.ag++ms).length q)):=by
 rcases r.2 with⟨H,a0⟩|⟨S,O,R,x,D,E,_⟩
 .have s:a.ag=[]:=by
   simp_all
  have o:ms=[]:=by
   simp_all
  subst o;have y:=fs w;have K:am [P] d (d.setCell ⟨P,9,none⟩ (.slice none 0 0)):=(ak [P] d).ay (p:=⟨P,9,none⟩) (by simp) _;have m:am (c.pv.ownBlock.toList++[P]) b (d.setCell ⟨P,9,none⟩ (.slice none 0 0)):=y.cons K (λM o=>by grind) (λM o=>by grind);have p:∀e,c.pv.ownBlock≠some e->e≠P->e ∉ c.pv.ownBlock.toList++[P]:=λe a1 D=>by simp_all
  have L:∀e∈c.a8,c.pv.ownBlock≠some e/\e≠P:=λe g=>⟨λk=>f.b7 e g (iK k),λk=>f.b7 e g (by rw[k];simp[PV.b1])⟩;have F:d.heap[P]? = b.heap[P]?:=y.G P (ap f.ai) (by simpa using f.nd.p);rw[H];have A:∀e,e∈({ c with pv:=.slice none 0 0 }:PV).b1 P->e∈c.b1 P:=by
   intro e g;simp only[PV.b1,Yg,Yn,Option.mem_toList]at g ⊢;rcases g with l|l|l|l|l
   .omega
   all_goals grind [Value.ownBlock]
  refine⟨{ c with pv:=.slice none 0 0 },bu (i:=9) (F.trans f.ai) _,bi f.w m λe g=>p e (λk=>f.nd.rp e g k) (λk=>f.nd.r (by simp_all)),bi f.A m λe g=>p e (λk=>f.nd.np e g k) (λk=>f.nd.n (by simp_all)),?_,f.O.a8 m λe g=>p e (λk=>f.nd.pg e k g) (λk=>f.nd.g (by simp_all)),f.a2,?_,?_,λe g o=>f.b7 e g (A e o),λe g=>f.bB e (g.imp (A e) id),λe J=>Yr (f.aY e J) m.ar,f.fin,f.c3,f.ck,?_,f.cn⟩
  .simp only[s,YH];exact⟨rfl,Y8 ⟨rfl,rfl⟩⟩
  .intro i N z I s;obtain⟨B,C⟩:=f.e8 i N z I s;have u:=λe g=>L e (hu s g);exact⟨B.a8 m λe g=>p e (u e (Y8 g)).1 (u e (Y8 g)).2,C.a8 m λe g=>p e (u e (Ya g)).1 (u e (Ya g)).2⟩
  .exact⟨f.nd.r,f.nd.n,by simp[Value.ownBlock],f.nd.g,f.nd.rn,by simp[Value.ownBlock],f.nd.rg,by simp[Value.ownBlock],f.nd.ng,by simp[Value.ownBlock]⟩
  .have:=f.bp;grind [ae.sz]
 .have G:(a.ag++ms).length=a.ag.length+ms.length:=Yq;simp only[Value.slice.injEq]at x;obtain⟨rfl,-,rfl⟩:=x;rw[G]at r v ⊢;rw[YK]at r;refine⟨_,f.k9 w r ?_ (ap E)⟩;rcases v with l|l
  .exact Y8 l.symm
  grind [ep]
def yI(t:Zb)(c:Zc)(a:List Int)(all:List br)(b:Zb)(v:rP×ae):(List br×Zb)×ae:=
 if aH v.2 4 [125]=true then ((all++v.1.l,b++v.1.j),v.2)else ec t (6-(a++[v.1.num]).length) (c++[v.1.b0]) (a++[v.1.num]) (all++v.1.l) (b++v.1.j) v.2
theorem yH{b:Nat}{d:Zc}{f:List Int}{all:List br}{c:Zb}(g:a.s.e≠0):ec t b d f all c a=((all,c),a):=by
 cases b<;>simp_all[ec]
def RX{c:Zc}{b:List Int}{all:List br}{out:Zb}{v:rP×ae}(e:a.s.e=0)(f:b.length<=5)(g:ed t c b (aD b.length 4 a)=v):ec t (6-b.length) c b all out a=yI t c b all out v:=by
 have d:6-b.length=(5-b.length)+1:=by omega
 simp_all[yI,ec]
def Ql:∀(b:Nat) (c:List br) (f:Zc) (d:List Int) (e:Zb) (a:ae),aX a (eV t b c f d e a).2:=by
 intro b;cases b with
 |zero=>intro c f d e a;exact dV a
 |succ b=>
  intro c f d e a g;simp_all[Cb]
def Qt(b:Zc)(c:List Int)(a:ae):aX a (ed t b c a).2:=by
 unfold ed;exact(aZ _ _ _).u ((lH _ _ _).u ((aZ _ _ _).u ((Ql _ _ _ _ _ _).u ((aZ _ _ _).u (mv _ _)))))
end
section
variable {d w : Nat -> Prop} {b g N' : Nat} {t : Zb} {c h : ae} {j r k q u : Zw} {o : PV} {L R : List Th} {i : Nat} {a x : Th}
def DW(h:aN d b t g c (L++R) r j):aN (hj d R) b t g c L j j:=by
 refine⟨h.ax.b9 ?_,jD _ _,λa e=>h.m a (Yf _ e),?_,?_⟩
 .rintro i ((f|⟨a,e,f⟩)|⟨a,e,f⟩)
  .exact Y8 f
  .exact Ya ⟨a,Ym _ e,f⟩
  .exact Ya ⟨a,Yf _ e,f⟩
 .rintro a e i f (m|⟨k,l,m⟩)
  .exact h.ao a (Yf _ e) i f m
  .obtain⟨n,p⟩:=List.getElem?_of_mem e;obtain⟨o,w⟩:=List.getElem?_of_mem l;have v:=(YB.1 p).1;exact h.cv n (L.length+o) a k (by omega) (by grind) (by grind) i f m
 .intro n o a k q e l;have s:=(YB.1 e).1;have u:=(YB.1 l).1;exact h.cv n o a k q (by grind) (by grind)
def DV{o:List Th}(u:aN d b t g c (L++R) r j)(f:aN (hj d R) b t N' h o j k):aN d b t N' h (o++R) r k:=by
 have z:∀e∈R,e.At k:=λe a=>(u.m e (Ym _ a)).fr f.fr λn m=>Ya ⟨e,a,m⟩;refine⟨f.ax.b9 ?_,u.fr.u (f.fr.b9 λ_ _ s=>Y8 s),?_,?_,?_⟩
 .rintro v (i|⟨e,a,i⟩)
  .exact Y8 (Y8 i)
  .rcases Yn.1 a with a|a
   .exact Ya ⟨e,a,i⟩
   .exact Y8 (Ya ⟨e,a,i⟩)
 .intro e a;rcases Yn.1 a with a|a
  .exact f.m e a
  simp_all
 .intro e a v i s;rcases Yn.1 a with a|a
  .exact f.ao e a v i (Y8 s)
  .exact u.ao e (Ym _ a) v i s
 .intro w x e p y a l n m q;rw[List.getElem?_append]at a l;split at a
  .split at l
   .exact f.cv w x e p y a l n m q
   .exact f.ao e (Yh a) n m (Ya ⟨p,Yh l,q⟩)
  .split at l
   .exact f.ao p (Yh l) n q (Ya ⟨e,Yh a,m⟩)
   .rename_i A B;exact u.cv (L.length+(w-o.length)) (L.length+(x-o.length)) e p (by omega) (by grind) (by grind) n m q
def aN.m4{o:PV}{h:ae}{q j k:Zw}{m l:Nat}{u:Int}(E:aN d b t g c L r q)(a:bk (hj d L) b t g h o j)(A:Fr (hj d L) q j)(C:h.O=c.O)(x:nI o.gv c.O u m l j k) :
  k.heap[b]? = some (lC t h.s (pf o h))/\aN d b t (g+1) { h with O:=h.O++[u] } L r (k.setCell ⟨b,15,none⟩ (.slice (some ⟨m,0,none⟩) (h.O.length+1) l)):=by
 obtain⟨⟨F,n,f,y⟩,v,D⟩:=x;have w:=a.au n;rw[<-C]at v;refine⟨w.ip f a.nd.g,E.call ⟨⟨_,w.lg f v y D⟩,?_⟩⟩;have z:Fr (hj d L) q k:=(A.c7 n (by simp)).c7 (fs f) (λe B i=>absurd i (a.bB e (Y8 (ji (by simp_all)))));exact z.c7 ((ak [b] k).ay (p:=⟨b,15,none⟩) (by simp) _) (λe B i=>absurd i (a.bB e (Y8 (by grind [PV.b1]))))
def Mb(a9:bk d b t g c o j){v:Zv}{l:List Int}(P:dI v l j)(M:(∀a7,v.ownBlock=some a7->d a7)\/(v=o.gv/\l=c.O))(d7:l.length<=1000000000)(c7:g<=1000000000):Calls prog 147 #[Zp b,v] j (yX d b t g o v l (bS t l c) j):=by
 have L:ac (∀h k,bk d b t g h o k->h.O=c.O->Fr d j k->dI v l k):=Z (λh k d4 d5 c6=>by
  rcases M with M|⟨d2,d3⟩
  .exact oy P c6 M
  grind [bk.O])
 obtain⟨gV,r,rfl⟩:=ce P;obtain⟨a2,O,R,S,a0⟩:=info_parts om;have a1:(U 0).cells.size=1:=rfl;have a3:=Z (Yp a9 (jD d j));clear a9 P M;go_in;go_wp2_with fail;refine(oJ a3.j.1 4 [61]).mono ?_;rintro E q ⟨rfl,i,f⟩;have a4:=Z (Yp i (a3.j.2.u f));clear i f;go_wp2_with fail;refine(yF a4.j.1 0 4294967295 c7).mono ?_;rintro E u ⟨rfl,i,f⟩;have w:=Z (Yp i (a4.j.2.u f));clear i f;have F:=DA (t:=t) 0 4294967295 (af t 4 [61] c);generalize a8:bn t 0 4294967295 (af t 4 [61] c)=d1 at *
 obtain⟨⟨n,a6⟩,D⟩:=d1;have b0:=Z a8;simp only at w F;change D.O=c.O at F;clear a8;have a5:=Z (sr (L.j _ _ w.j.1 F w.j.2).b8 (by omega) n);go_wp2_with fail;refine a5.j.mono ?_;rintro E d9 ⟨rfl,rfl⟩;obtain⟨b1,b8,b9,c0,c1,c2,c3,c4,c5,b2,b3,b4,b5,b6,b7,c9,d0⟩:=w.j.1.al;clear a5 b1 b8 b9 c0 c1 c2 c3 c4 c5 b2 b4 b5 b6 b7;by_cases N:D.s.e=0
 .have c8:(D.s.e==0)=true:=by simp_all
  cases d6:l.contains n with
  |true=>
   have G:ac (bS t l c=(n,af t 4 [59] (bL 6 a6 D))):=by
    grind [bS,ac.j]
   clear N;go_wp2_with fail;refine(uf w.j.1 6 a6).mono ?_;rintro E d8 ⟨rfl,i,f⟩;have x:=Z (Yp i (w.j.2.u f));clear i f;clear b3 c9 d0;go_wp2_with fail;refine(oJ x.j.1 4 [59]).mono ?_;rintro E a ⟨rfl,i,f⟩;have m:=Z (Yp i (x.j.2.u f));clear i f;have J:ac (∀p,(a.alloc p).ownsRow 0 3 1 (.slice gV l.length r) l.length (l.map (U))):=Z (λp=>bi (L.j _ _ m.j.1 F m.j.2) ((ak [] a).B p) (by simp));go_wp2_with (at_builtin;go_must (refine wpList_append_lies _ (by rfl) _ _ _ (by rfl) 0 3 a2 _ 1 8 underlying24 O R S a0 a1 (by omega) (.slice gV l.length r) l.length (l.map (U)) (by rfl) (J.j _) ⟨a.heap.size,0,none⟩ 1 1 [U n] (by rfl) (by rfl) (World.news_of_block (cs:=#[U n]) (t:=3) (fr:=(0,0)) (heap_alloc_new a _)) (by simp[Value.oneCell']) (by omega) (by unfold maxLen;omega) (by omega) (by simp) (a.heap.size+1) (by simp) ?_;intro z y K C A I B;have H:ac (nI (.slice gV l.length r) l n z y a K):=Z ⟨⟨_,(ak [] a).B _,A,by simp_all⟩,C,B⟩;clear C A I B));go_ret2;rw[G.j];exact⟨a,z,y,rfl,m.j.1,m.j.2,H.j⟩
  |false=>
   have G:ac (bS t l c=(n,af t 4 [59] D)):=by
    grind [bS,ac.j]
   clear N;have x:=w;go_wp2_with fail;refine(oJ x.j.1 4 [59]).mono ?_;rintro E a ⟨rfl,i,f⟩;have m:=Z (Yp i (x.j.2.u f));clear i f;have J:ac (∀p,(a.alloc p).ownsRow 0 3 1 (.slice gV l.length r) l.length (l.map (U))):=Z (λp=>bi (L.j _ _ m.j.1 F m.j.2) ((ak [] a).B p) (by simp));go_wp2_with (at_builtin;go_must (refine wpList_append_lies _ (by rfl) _ _ _ (by rfl) 0 3 a2 _ 1 8 underlying24 O R S a0 a1 (by omega) (.slice gV l.length r) l.length (l.map (U)) (by rfl) (J.j _) ⟨a.heap.size,0,none⟩ 1 1 [U n] (by rfl) (by rfl) (World.news_of_block (cs:=#[U n]) (t:=3) (fr:=(0,0)) (heap_alloc_new a _)) (by simp[Value.oneCell']) (by omega) (by unfold maxLen;omega) (by omega) (by simp) (a.heap.size+1) (by simp) ?_;intro z y K C A I B;have H:ac (nI (.slice gV l.length r) l n z y a K):=Z ⟨⟨_,(ak [] a).B _,A,by simp_all⟩,C,B⟩;clear C A I B));go_ret2;rw[G.j];exact⟨a,z,y,rfl,m.j.1,m.j.2,H.j⟩
 .have c8:(D.s.e==0)=false:=by simp_all
  have G:ac (bS t l c=(n,af t 4 [59] D)):=by
   show _=_;unfold bS;simp only[b0.j];simp_all
  clear N;have x:=w;go_wp2_with fail;refine(oJ x.j.1 4 [59]).mono ?_;rintro E a ⟨rfl,i,f⟩;have m:=Z (Yp i (x.j.2.u f));clear i f;have J:ac (∀p,(a.alloc p).ownsRow 0 3 1 (.slice gV l.length r) l.length (l.map (U))):=Z (λp=>bi (L.j _ _ m.j.1 F m.j.2) ((ak [] a).B p) (by simp));go_wp2_with (at_builtin;go_must (refine wpList_append_lies _ (by rfl) _ _ _ (by rfl) 0 3 a2 _ 1 8 underlying24 O R S a0 a1 (by omega) (.slice gV l.length r) l.length (l.map (U)) (by rfl) (J.j _) ⟨a.heap.size,0,none⟩ 1 1 [U n] (by rfl) (by rfl) (World.news_of_block (cs:=#[U n]) (t:=3) (fr:=(0,0)) (heap_alloc_new a _)) (by simp[Value.oneCell']) (by omega) (by unfold maxLen;omega) (by omega) (by simp) (a.heap.size+1) (by simp) ?_;intro z y K C A I B;have H:ac (nI (.slice gV l.length r) l n z y a K):=Z ⟨⟨_,(ak [] a).B _,A,by simp_all⟩,C,B⟩;clear C A I B));go_ret2;rw[G.j];exact⟨a,z,y,rfl,m.j.1,m.j.2,H.j⟩
def qU(t:Zb)(v:(List br×Zb)×ae):ae:=
 er (v.1.2++[125,32,61,32]++bO (bS t (af t 4 [125] v.2).O (af t 4 [125] v.2)).1++[59,10]) { (bS t (af t 4 [125] v.2).O (af t 4 [125] v.2)).2 with O:=(bS t (af t 4 [125] v.2).O (af t 4 [125] v.2)).2.O++[(bS t (af t 4 [125] v.2).O (af t 4 [125] v.2)).1],ag:=(bS t (af t 4 [125] v.2).O (af t 4 [125] v.2)).2.ag++v.1.1.map (λa=>{ a with prog:=(bS t (af t 4 [125] v.2).O (af t 4 [125] v.2)).1 }) }
def PD(a:List Int)(c:ae):Sm c (bS t a c).2:=by
 unfold bS;exact(az _ _ _).u ((fZ _ _ _).u ((jv _ _ _ _).u (az _ _ _)))
def Ni(p:bC d b t g c j)(r3:g+1000000<=1000000000):Calls prog 83 #[Zp b] j (GP d b t (g+1000000) (gg t c) (.tuple #[]) j):=by
 have d9:=Z (iE p);obtain⟨q4,g0⟩:=p;obtain⟨q6,q9,i9⟩:=ce g0.O;obtain⟨-,-,-,-,-,-,-,-,-,-,-,-,-,-,O,n5,o4⟩:=g0.al;rw[i9]at O;clear g0 i9;go_in;go_wp2_with fail;refine aM d9 (kM · c.O.length 4) λq e0=>?_;clear O n5 o4;go_wp2_with fail;refine aM e0 (cY · 2 [112,114,111,103,114,97,109]) λu c4=>?_;go_wp2_with fail;refine(qF c4.j.ax 2 (by omega)).mono ?_;rintro d2 S ⟨rfl,j5,c1,p1⟩;have c5:=Z (c4.j.call ⟨j5,c1⟩);clear j5 c1;generalize j4:aR t 2 (af t 2 [112,114,111,103,114,97,109] (aD c.O.length 4 c))=p8 at *
 obtain⟨C,k5⟩:=p8;have l3:=Z j4;simp only at c5 p1;clear j4;have e1:=Z (c5.j.B (oW C));go_wp2_with fail;refine aM e1 (cY · 4 [123]) λt7 c6=>?_;obtain⟨j7,j8,j9,k0,k1,k2,k3,k4⟩:=c6.j.al (i:=0) rfl;have s4:¬(9223372036854775807<8+C.text.length):=by omega
 have s5:¬(9223372036854775807<8+C.text.length+3):=by omega
 have a1:ac (gg t c=qU t (ec t 6 [] [] [] ([112,114,111,103,114,97,109,32]++C.text++[32,123,32]) (af t 4 [123] k5))):=by
  show _=_;unfold gg qU;simp only[l3.j]
 generalize n4:af t 4 [123] k5=h0 at *
 clear n4;have e2:=Z (c6.j.ks.nil.jM);go_upto_block 0 with fail;go_cut [3,4,5,6] (λg5 v d8 g9 wc=>∃(x:Option Addr) (z:Nat) (all:List br) (r:Zb) (h:ae) (c9 d0:Th),g9=.slice x all.length z/\g5=Zs r/\all.length<=100/\r.length<=602100/\ac (aN d b t (g+1+20*5) h [c9,d0,fh (.slice x all.length z) all,.obj S.heap.size (oW C)] j wc)/\ac (gg t c=qU t ((all,r),h)));case first=>
  go_wp2;go_loopw [3,4,5,6] (λg5 v d8 g9 g7=>∃(gV:Option Addr) (b2:Nat) (b1:Option Addr) (b3:Nat) (x:Option Addr) (z:Nat) (A:Zc) (k:List Int) (all:List br) (r:Zb) (h:ae),v=.slice gV A.length b2/\d8=.slice b1 k.length b3/\g9=.slice x all.length z/\g5=Zs r/\k.length<=5/\ac (A.length=k.length)/\ac (all.length<=9*k.length)/\(h.s.e=0->k.length<=4)/\r.length<=2100+100000*k.length/\ac (aN d b t (g+1+20*k.length) h [ci (.slice gV A.length b2) A,dw (.slice b1 k.length b3) k,fh (.slice x all.length z) all,.obj S.heap.size (oW C)] j g7)/\ac (ec t (6-k.length) A k all r h=ec t 6 [] [] [] ([112,114,111,103,114,97,109,32]++C.text++[32,123,32]) h0)) (λ_ _ d8 _ _=>15-ju d8)
  case atStart=>exact⟨none,0,none,0,none,0,[],[],[],[112,114,111,103,114,97,109,32]++C.text++[32,123,32],h0,rfl,rfl,rfl,Yo Value.string (gH (by simp)),by simp,Z rfl,Z (by simp),by simp,by simp;omega,e2,Z rfl⟩
  case round=>
   obtain⟨gV,b2,b1,b3,x,z,A,k,all,r,H,rfl,rfl,rfl,rfl,o2,j3,d3,g2,o3,N,b0⟩:=hrel;clear e2 c6 e1 c5 c4 e0 d9 j7 j8 j9 k0 k1 k2 k3 k4;obtain⟨o,i7⟩:=N.j.ax;obtain⟨l8,m2,m3,m4,m5,m6,m7,m8,d1,f3,i1,l9,m0,m1,O,b6,a7⟩:=i7.al;clear i7 l8 m2 m3 m4 m5 m6 m7 m8 d1 f3 l9 m0 m1 O;by_cases P:H.s.e=0
   .have a6:(H.s.e==0)=true:=by rw[P];rfl
    have k8:=Z P;have s0:=g2 P;clear P g2;go_wp2_with fail;refine aM N (kM · k.length 4) λt8 e3=>?_;clear i1 b6 a7;have a2:=Z (b0.j.symm.trans (RX (all:=all) (out:=r) k8.j o2 rfl));have j6:=Z (Qt (t:=t) A k (aD k.length 4 H));have h7:=Z (Se (DW (L:=[ci (.slice gV A.length b2) A,dw (.slice b1 k.length b3) k]) (R:=[fh (.slice x all.length z) all,.obj S.heap.size (oW C)]) e3.j) (by have:=j3.j;omega) (by omega) (by omega));go_wp2_with fail;refine h7.j.mono ?_;rintro d2 t9 ⟨t6,t5,t1,rfl,c2,p3,p2⟩;clear h7;obtain⟨h8,i2,p0⟩:=ce (c2.m _ Yb);obtain⟨h9,i3,o9⟩:=ce (c2.m _ (Y5 _ Yb));obtain⟨i0,i4,o1⟩:=ce (c2.m _ (Y5 _ (Y5 _ Yb)));subst p0 o9 o1;have a9:=Z (DV (L:=[ci (.slice gV A.length b2) A,dw (.slice b1 k.length b3) k]) (R:=[fh (.slice x all.length z) all,.obj S.heap.size (oW C)]) e3.j c2);clear c2;generalize ed t A k (aD k.length 4 H)=p9 at *
    obtain⟨⟨nm,nu,E,c3⟩,a0⟩:=p9;unfold yI at a2;simp only at a9 p3 p2 a2 j6;have s6:¬(9223372036854775807<r.length+c3.length):=by omega
    go_wp2_with (at_builtin;(refine DL (by rfl) _ _ (by rfl) (l:=all) (m:=E) (v:=.slice x all.length z) (y:=.slice i0 E.length i4) (by rfl) (by rfl) (a9.j.bq (i:=3) (a:=fh (.slice x all.length z) all) rfl) (a9.j.bq (i:=2) (a:=fh (.slice i0 E.length i4) E) rfl) (by have:=d3.j;omega) ?_;intro f0 f4 u0 c0 b7 b4;have e4:=Z (a9.j.l8 (i:=3) (v:=.slice x all.length z) (l:=all) rfl c0 b7 b4);clear c0 b7 b4));refine(gs e4.j.ax 4 [125]).mono ?_;rintro d2 q0 ⟨rfl,rfl⟩;have e5:ac (aN d b t (g+1+20*k.length+20) a0 [ci (.slice h8 (A++[nm]).length i2) (A++[nm]),dw (.slice h9 (k++[nu]).length i3) (k++[nu]),fh (.slice f0 (all++E).length f4) (all++E),.obj S.heap.size (oW C)] j q0):=Z (e4.j.k0 (λJ=>match J with|0=>0|1=>1|2=>3|_=>4) (by intro J w n9 j0;simp at n9 j0;match J,w with|0,0=>simp|0,1=>simp|0,2=>simp|0,3=>simp|1,0=>simp|1,1=>simp|1,2=>simp|1,3=>simp|2,0=>simp|2,1=>simp|2,2=>simp|2,3=>simp|3,0=>simp|3,1=>simp|3,2=>simp|3,3=>simp|J+4,_=>omega|_,w+4=>omega) (by intro J q7 b5;match J with|0=>simpa using b5|1=>simpa using b5|2=>simpa using b5|3=>simpa using b5|J+4=>simp at b5));clear e4 a9 e3 N;cases j2:aH a0 4 [125]with
    |true=>
     have G:=Z (a1.j.trans (Yo (qU t) (a2.j.trans (by rw[Y9 j2]:_=((all++E,r++c3),a0)))));have b9:(all++E).length<=100:=by have:=d3.j;simp;omega
     have e6:=Z (e5.j.a0 (N':=g+1+20*5) (by omega));clear b0 a1 a2 e5;go_wp2;go_meet;case rel=>exact⟨f0,f4,all++E,r++c3,a0,_,_,by simp,Yo Value.string (gH (by simp)),b9,by simp;omega,e6,G⟩
    |false=>
     have k6:ac (ec t (6-(k++[nu]).length) (A++[nm]) (k++[nu]) (all++E) (r++c3) a0=ec t 6 [] [] [] ([112,114,111,103,114,97,109,32]++C.text++[32,123,32]) h0):=Z (a2.j.trans (by rw[Y2 (by simp[j2])])).symm;have n8:a0.s.e=0->(k++[nu]).length<=4:=by
      intro n3;rcases Yj k.length 4 with n1|n1
      .simp;omega
      .have b6:=qN (n:=k.length) (m:=4) (by omega) H;exact absurd n3 (by rw[(j6.j b6).1];exact b6)
     have l0:ac ((A++[nm]).length=(k++[nu]).length):=Z (by have:=j3.j;simp;omega);have l1:ac ((all++E).length<=9*(k++[nu]).length):=Z (by have:=d3.j;simp;omega);have e6:=Z (e5.j.a0 (N':=g+1+20*(k++[nu]).length) (by simp;omega));clear b0 a1 a2;go_wp2;refine⟨⟨h8,i2,h9,i3,f0,f4,A++[nm],k++[nu],all++E,r++c3,a0,by simp,by simp,by simp,?_,by simp;omega,l0,l1,n8,by simp;omega,e6,k6⟩,by simp[ju];omega⟩;exact Yo Value.string (gH (by simp))
   .have a6:(H.s.e==0)=false:=by rw[Yi];exact P
    have G:=Z (a1.j.trans (Yo (qU t) (b0.j.symm.trans (yH P))));have b9:all.length<=100:=by have:=d3.j;omega
    have l4:=Z (N.j.a0 (N':=g+1+20*5) (by omega));clear P b0 a1 g2 N;go_wp2;go_meet;case rel=>exact⟨x,z,all,r,H,_,_,rfl,rfl,b9,by omega,l4,G⟩
 case rest=>
  obtain⟨x,z,all,r,H,c9,d0,rfl,rfl,b9,o3,N,G⟩:=hcut;clear e2 c6 e1 c5 c4 e0 d9 j7 j8 j9 k0 k1 k2 k3 k4 a1;go_wp2_with fail;refine aM N (cY · 4 [125]) λu1 h1=>?_;(try clear i1 b6 a7);unfold qU at G;simp only at G;generalize af t 4 [125] H=I at *
  obtain⟨l5,a5⟩:=h1.j.ax;obtain⟨l7,n0,b8⟩:=ce a5.O;obtain⟨-,-,-,-,-,-,-,-,-,-,-,-,-,-,O,n6,o5⟩:=a5.al;rw[b8]at O;have i6:=a5.bp;unfold ae.sz at i6;have h6:=Z (Mb a5 (v:=.slice l7 I.O.length n0) (l:=I.O) (b8▸a5.O) (Ya ⟨b8.symm,rfl⟩) (by omega) (by omega));have o6:=xM (t:=t) I.O I;have a8:=PD (t:=t) I.O I;have k9:=Z b8;clear a5 b8 i6;go_wp2_with fail;refine h6.j.mono ?_;rintro d2 q1 ⟨u2,r0,q8,rfl,g6,i5,c7⟩;clear h6;generalize bS t I.O I=p4 at *
  obtain⟨F,D⟩:=p4;simp only at g6 o6 G c7 a8;rw[<-k9.j]at c7;obtain⟨d4,f6⟩:=h1.j.m4 g6 i5 a8.O c7;have p5:q1.cell? (Zd b 15)=some l5.gv:=aU d4 rfl;have p6:=cK d4;have p7:=ap d4;rw[a8.O]at f6;have h2:=Z f6;have l2:=Z a8.O;have q3:=Z a8;clear f6 d4 g6 i5 c7 O n6 o5 a8;go_wp2;go_loopw [11] (λg4 g7=>∃(w:Nat) (B:List br),g4=U w/\w<=(all).length/\ac (B=((all).take w).map (λp=>{ p with prog:=F })++(all).drop w)/\ac (aN d b t (g+1+20*5+1) { D with O:=I.O++[F] } [c9,d0,fh (.slice x (all).length z) B,.obj S.heap.size (oW C)] j g7)) (λg4 _=>(all).length-(intOf g4).toNat)
  case atStart=>exact⟨0,all,rfl,by omega,Z (by simp),Z (h2.j.a0 (by omega))⟩
  case round=>
   obtain⟨w,B,rfl,j0,c8,a3⟩:=hrel;clear h2 p5 p6 p7;rcases Yj w (all).length with a7|i8
   .have r9:(0:Int)<=↑w:=by omega
    have o0:(↑w:Int) < ↑(all).length:=by omega
    have j1:w<B.length:=by rw[c8.j,xo];exact a7
    obtain⟨r1,n7,r7,r8,r2,-⟩:=Ca (a3.j.bq (i:=2) (a:=fh (.slice x (all).length z) B) rfl) j1;cases n7
    have e9:ac (B.set w { B.getD w kb with prog:=F } = ((all).take (w+1)).map (λp=>{ p with prog:=F })++(all).drop (w+1)):=Z (by
     have n2:=Cv (f:=λp:br=>{ p with prog:=F }) a7;rw[c8.j,Aq a7];exact n2)
    have k7:=Z (a3.j.k5 (i:=2) (k:=w) (j:=0) (p':={ B.getD w kb with prog:=F }) (v:=U F) rfl j1 (by omega) rfl);go_wp2;exact⟨⟨w+1,_,by go_num,by omega,e9,k7⟩,by simp[intOf];omega⟩
   .have o0:¬((↑w:Int) < ↑(all).length):=by omega
    have e9:ac (B=(all).map (λp=>{ p with prog:=F })):=Z (by
     rw[c8.j,List.take_of_length_le i8,YR i8,YH])
    have s3:B.length<=100:=by rw[c8.j,xo];exact b9
    obtain⟨h5,a4⟩:=a3.j.ax;obtain⟨f1,f5,d7⟩:=ce a4.ag;obtain⟨-,-,-,-,-,-,-,-,d1,-,-,-,-,-,-,r5,s2⟩:=a4.al;rw[d7]at d1;have f9:=a4.bp;unfold ae.sz at f9;change wr.cell? _=some (.slice f1 D.ag.length f5)at d1;have o8:ac (wr.ownsRow 0 288 5 (.slice f1 D.ag.length f5) D.ag.length (D.ag.flatMap eq)):=Z (d7▸a4.ag);have M:=Z (Yp a4 d7);have r6:D.ag.length<=g+200:=by simp only at f9;omega
    clear a4 d7 f9;go_wp2_with (at_builtin;(refine DL (by rfl) _ _ (by rfl) (l:=D.ag) (m:=B) (v:=.slice f1 D.ag.length f5) (y:=.slice x (all).length z) (by rfl) (by rfl) o8.j (a3.j.bq (i:=2) (a:=fh (.slice x (all).length z) B) rfl) (by omega) ?_;intro l6 m9 g8 c0 b7 b4;have d6:wr.grownBy g8 h5.pv.ownBlock:=(by rw[M.j.2];exact b7);have d5:=M.j.1.ip d6 M.j.1.nd.p;have t2:g8.cell? (Zd b 9)=some h5.pv:=aU d5 rfl;have t3:=cK d5;have t4:=ap d5;have h4:=M.j.1.lf (ms:=B) d6 c0 (by rw[M.j.2];exact b4);have h3:=(((jD (hj d [c9,d0,fh (.slice x (all).length z) B,.obj S.heap.size (oW C)]) wr).c7 (fs d6) (λf2 a6 g3=>absurd g3 (M.j.1.bB f2 (Y8 (iK (by simpa using a6)))))).c7 ((ak [b] g8).ay (p:=⟨b,9,none⟩) (by simp) (.slice l6 (D.ag++B).length m9)) (λf2 a6 g3=>absurd g3 (M.j.1.bB f2 (Y8 (by simp only[Yc]at a6;rw[a6];simp[PV.b1])))));have e7:=Z (a3.j.call ⟨h4,h3⟩);clear c0 b7 b4 d6 d5 h4 h3));simp only[Yq]at e7;refine(kH F (by omega) (by omega) _).mono ?_;rintro d2 q2 ⟨rfl,c1⟩;have e8:=Z (e7.j.F c1);clear c1 e7 a3;rw[e9.j]at e8;have o7:=kP F (by omega) (by omega);rw[l2.j]at G;unfold bO at o7 G;generalize Lib.itoa F=f7 at *
    obtain⟨q5,g1⟩:=e8.j.ax;obtain⟨-,-,-,-,-,-,-,-,-,f3,-,-,-,-,-,r4,s1⟩:=g1.al;have f8:=g1.bp;unfold ae.sz at f8;simp only[YU,Yq]at f8;change q2.cell? _=some (Zs D.j)at f3;clear g1;have s7:¬(9223372036854775807<D.j.length+r.length):=by omega
    have s8:¬(9223372036854775807<D.j.length+r.length+4):=by omega
    have s9:¬(9223372036854775807<D.j.length+r.length+4+f7.length):=by omega
    have t0:¬(9223372036854775807<D.j.length+r.length+4+f7.length+2):=by omega
    clear f8;go_wp2;go_end0;rw[G.j];exact⟨rfl,((e8.j.f9 (K:=900000) (s:=r++[125,32,61,32]++f7++[59,10]) (gH (by simp)) (by simp;omega)).a0 (by simp;omega)).fin⟩
end
section
variable {g n : Nat -> Prop} {c f l : Nat} {b : Zb} {a σ' : ae} {d k r e t : Zw} {h : PV} {j m : List Th} {i : Nat} {o q : Th}
def bk.hr(e:bk g c b f a h d):bk g c b (f+1) { a with L:=a.L+1 } h (d.setCell ⟨c,14,none⟩ (U (a.L+1))):=by
 refine e.a6 (σ':={ a with L:=a.L+1 }) (bu (i:=14) e.ai _) ((ak [c] d).ay (p:=⟨c,14,none⟩) (by simp) _) rfl rfl rfl rfl e.fin e.c3 ?_ ?_
 .have:=e.bp;grind [ae.sz]
 .have:=e.cn;grind
def aN.hr(i:aN g c b f a j k d):aN g c b (f+1) { a with L:=a.L+1 } j k (d.setCell ⟨c,14,none⟩ (U (a.L+1))):=by
 obtain⟨h,e⟩:=i.ax;exact i.call ⟨⟨h,e.hr⟩,uh e _⟩
def sG(b:bT a)(c:Int):bT { a with L:=c }:=b
def Hd(J:bC g c b f a d)(ok:bT a)(t:∀m∈a.w,m.bD.length<=1000)(b7:f+2000000<=1000000000):Calls prog 48 #[Zp c] d (GP g c b (f+2000000) (bV b a) (.tuple #[]) d):=by
 have l:=Z (iE J);replace ok:=Z ok;replace t:=Z t;obtain⟨h,M⟩:=J;obtain⟨a3,a9,b0,b1,b2,b3,b4,b5,b6,a4,a5,a6,a7,w,a8,y,z⟩:=M.al;go_in;go_wp2_with fail;refine(gs l.j.ax 2 [99,111,110,115,116]).mono ?_;rintro K a2 ⟨rfl,rfl⟩;go_wp2_with fail;refine(gs l.j.ax 2 [112,114,111,103,114,97,109]).mono ?_;rintro K a2 ⟨rfl,rfl⟩;cases O:aH a 2 [99,111,110,115,116]with
 |true=>
  have j:ac (bV b a=fT b a):=by show _=_;unfold bV;simp_all
  go_wp2_with fail;refine aM l (Gy · (by omega)) λe i=>?_;go_wp2;go_end0;rw[j.j];exact⟨rfl,(i.j.a0 (by omega)).fin⟩
 |false=>
  cases P:aH a 2 [112,114,111,103,114,97,109]with
  |true=>
   have j:ac (bV b a=gg b a):=by show _=_;simp_all[bV]
   go_wp2_with fail;refine aM l (Ni · (by omega)) λe i=>?_;go_wp2;go_end0;rw[j.j];exact⟨rfl,(i.j.a0 (by omega)).fin⟩
  |false=>
   by_cases L:a.s.x.C=2
   .have N:((a.s.x.C:Int) != 2)=false:=by simp_all
    have v:ac (bV b a=if a.s.x.text=[116,121,112,101,100,101,102]then gj b { aD a.L 24 a with L:=(aD a.L 24 a).L+1 }else if a.s.x.text=[101,110,117,109]then gK b { aD a.L 24 a with L:=(aD a.L 24 a).L+1 }else if a.s.x.text=[115,116,114,117,99,116]then gA b { aD a.L 24 a with L:=(aD a.L 24 a).L+1 }else if a.s.x.text=[117,110,105,111,110]then gm b { aD a.L 24 a with L:=(aD a.L 24 a).L+1 }else dj a):=by
     show _=_;unfold bV;rw[Y2 (by simp[O]),Y2 (by simp[P])];simp only[L];by_cases n:a.s.x.text=[116,121,112,101,100,101,102]
     .simp_all
     .by_cases r:a.s.x.text=[101,110,117,109]
      .simp_all
      .by_cases u:a.s.x.text=[115,116,114,117,99,116];all_goals simp_all
    cases n:(a.s.x.text==[116,121,112,101,100,101,102])with
    |true=>
     have R:(a.s.x.text != [116,121,112,101,100,101,102])=false:=by simp[bne,n]
     have j:ac (bV b a=gj b { aD a.L 24 a with L:=(aD a.L 24 a).L+1 }):=by show _=_;rw[v.j,Y9 (by simpa using n)]
     go_wp2_with fail;refine aM l (kM · a.L 24) λe i=>?_;obtain⟨D,k⟩:=i.j.ax;obtain⟨-,-,-,-,-,-,-,-,-,-,-,-,-,w,-,y,z⟩:=k.al;have q:=k.bp;have E:=k.cn.2;unfold ae.sz at q;have F:IntKind.i64.wrap ((aD a.L 24 a).L+1)=(aD a.L 24 a).L+1:=by rw[IntKind.wrap_i64];omega
     have G:-9223372036854775808<=(aD a.L 24 a).L+1:=by omega
     have H:(aD a.L 24 a).L+1<=9223372036854775807:=by omega
     have o:=Z i.j.hr;have A:=Z (sG (en ok.j (cD a.L 24 a).aa) ((aD a.L 24 a).L+1));have B:ac (∀m∈(aD a.L 24 a).w,m.bD.length<=1000):=Z (by rw[(cD a.L 24 a).w];exact t.j);go_wp2_with fail;refine aM o (RJ · (by omega)) λI p=>?_;go_wp2;go_end0;rw[j.j];exact⟨rfl,(p.j.a0 (by omega)).fin⟩
    |false=>
     have R:(a.s.x.text != [116,121,112,101,100,101,102])=true:=by simp[bne,n]
     cases r:(a.s.x.text==[101,110,117,109])with
     |true=>
      have S:(a.s.x.text != [101,110,117,109])=false:=by simp[bne,r]
      have j:ac (bV b a=gK b { aD a.L 24 a with L:=(aD a.L 24 a).L+1 }):=by show _=_;rw[v.j,Y2 (by simpa using n),Y9 (by simpa using r)]
      go_wp2_with fail;refine aM l (kM · a.L 24) λe i=>?_;obtain⟨D,k⟩:=i.j.ax;obtain⟨-,-,-,-,-,-,-,-,-,-,-,-,-,w,-,y,z⟩:=k.al;have q:=k.bp;have E:=k.cn.2;unfold ae.sz at q;have F:IntKind.i64.wrap ((aD a.L 24 a).L+1)=(aD a.L 24 a).L+1:=by rw[IntKind.wrap_i64];omega
      have G:-9223372036854775808<=(aD a.L 24 a).L+1:=by omega
      have H:(aD a.L 24 a).L+1<=9223372036854775807:=by omega
      have o:=Z i.j.hr;have A:=Z (sG (en ok.j (cD a.L 24 a).aa) ((aD a.L 24 a).L+1));have B:ac (∀m∈(aD a.L 24 a).w,m.bD.length<=1000):=Z (by rw[(cD a.L 24 a).w];exact t.j);go_wp2_with fail;refine aM o (HA · (by omega)) λI p=>?_;go_wp2;go_end0;rw[j.j];exact⟨rfl,(p.j.a0 (by omega)).fin⟩
     |false=>
      have S:(a.s.x.text != [101,110,117,109])=true:=by simp[bne,r]
      cases u:(a.s.x.text==[115,116,114,117,99,116])with
      |true=>
       have a0:(a.s.x.text != [115,116,114,117,99,116])=false:=by simp[bne,u]
       have j:ac (bV b a=gA b { aD a.L 24 a with L:=(aD a.L 24 a).L+1 }):=by show _=_;rw[v.j,Y2 (by simpa using n),Y2 (by simpa using r),Y9 (by simpa using u)]
       go_wp2_with fail;refine aM l (kM · a.L 24) λe i=>?_;obtain⟨D,k⟩:=i.j.ax;obtain⟨-,-,-,-,-,-,-,-,-,-,-,-,-,w,-,y,z⟩:=k.al;have q:=k.bp;have E:=k.cn.2;unfold ae.sz at q;have F:IntKind.i64.wrap ((aD a.L 24 a).L+1)=(aD a.L 24 a).L+1:=by rw[IntKind.wrap_i64];omega
       have G:-9223372036854775808<=(aD a.L 24 a).L+1:=by omega
       have H:(aD a.L 24 a).L+1<=9223372036854775807:=by omega
       have o:=Z i.j.hr;have A:=Z (sG (en ok.j (cD a.L 24 a).aa) ((aD a.L 24 a).L+1));have B:ac (∀m∈(aD a.L 24 a).w,m.bD.length<=1000):=Z (by rw[(cD a.L 24 a).w];exact t.j);go_wp2_with fail;refine aM o (QC · (by omega)) λI p=>?_;go_wp2;go_end0;rw[j.j];exact⟨rfl,(p.j.a0 (by omega)).fin⟩
      |false=>
       have a0:(a.s.x.text != [115,116,114,117,99,116])=true:=by simp[bne,u]
       cases C:(a.s.x.text==[117,110,105,111,110])with
       |true=>
        have a1:(a.s.x.text != [117,110,105,111,110])=false:=by simp[bne,C]
        have j:ac (bV b a=gm b { aD a.L 24 a with L:=(aD a.L 24 a).L+1 }):=by show _=_;rw[v.j,Y2 (by simpa using n),Y2 (by simpa using r),Y2 (by simpa using u),Y9 (by simpa using C)]
        go_wp2_with fail;refine aM l (kM · a.L 24) λe i=>?_;obtain⟨D,k⟩:=i.j.ax;obtain⟨-,-,-,-,-,-,-,-,-,-,-,-,-,w,-,y,z⟩:=k.al;have q:=k.bp;have E:=k.cn.2;unfold ae.sz at q;have F:IntKind.i64.wrap ((aD a.L 24 a).L+1)=(aD a.L 24 a).L+1:=by rw[IntKind.wrap_i64];omega
        have G:-9223372036854775808<=(aD a.L 24 a).L+1:=by omega
        have H:(aD a.L 24 a).L+1<=9223372036854775807:=by omega
        have o:=Z i.j.hr;have A:=Z (sG (en ok.j (cD a.L 24 a).aa) ((aD a.L 24 a).L+1));have B:ac (∀m∈(aD a.L 24 a).w,m.bD.length<=1000):=Z (by rw[(cD a.L 24 a).w];exact t.j);go_wp2_with fail;refine aM o (RQ · A.j B.j (by omega)) λI p=>?_;go_wp2;go_end0;rw[j.j];exact⟨rfl,(p.j.a0 (by omega)).fin⟩
       |false=>
        have a1:(a.s.x.text != [117,110,105,111,110])=true:=by simp[bne,C]
        have j:ac (bV b a=dj a):=by show _=_;rw[v.j,Y2 (by simpa using n),Y2 (by simpa using r),Y2 (by simpa using u),Y2 (by simpa using C)]
        go_wp2_with fail;refine aM l (nX ·) λe i=>?_;go_wp2;go_end0;rw[j.j];exact⟨rfl,(i.j.a0 (by omega)).fin⟩
   .have N:((a.s.x.C:Int) != 2)=true:=by simp;omega
    have j:ac (bV b a=dj a):=by show _=_;simp_all[bV]
    go_wp2_with fail;refine aM l (nX ·) λe i=>?_;go_wp2;go_end0;rw[j.j];exact⟨rfl,(i.j.a0 (by omega)).fin⟩
end
section
variable {h s : Nat -> Prop} {d g q : Nat} {j : Zb} {a o : ae} {c u e w m : Zw} {b : PV} {L r : List Th} {i : Nat} {l t : Th}
def SX{d e:Type}:∀(b:List d) (a:List e) (i:Nat) (l:d) (c:e),a[i]? = some c->(b.set i l).zip a=(b.zip a).set i (l,c):=by
 intro b;induction b with
 |nil=>simp
 |cons h b g=>
  intro a i l c f;cases a with
  |nil=>simp
  |cons j a=>
   cases i<;>simp_all
def setOf(a:ae)(i:Nat)(b:Int):ae:={ a with w:=a.w.set i { a.w.getD i cS with of:=b } }
theorem bk.setOf{b:PV}(l:bk h d j g a b c){i n D:Nat}(L:i<a.w.length)(w:b.rv=.slice (some ⟨n,0,none⟩) a.w.length D)(q:Int):bk h d j g (setOf a i q) b (c.setCell ⟨n,i*8+2,none⟩ (U q)):=by
 have K:b.rv.ownBlock=some n:=by rw[w];rfl
 have p:am [n] c (c.setCell ⟨n,i*8+2,none⟩ (U q)):=(ak [n] c).ay (p:=⟨n,i*8+2,none⟩) (by simp) _;have s:∀e,b.rv.ownBlock≠some e->e ∉ [n]:=λe m N=>by
  simp_all
 have y:∀e∈b.a8,b.rv.ownBlock≠some e:=λe m o=>l.b7 e m (hP o);have G:i<b.ls.length:=by rw[l.a2];omega
 have J:a.w[i]? = some (a.w.getD i cS):=by grind
 have F:b.ls[i]? = some b.ls[i]:=Yd G;have E:(a.w.zip b.ls)[i]? = some (a.w.getD i cS,b.ls[i]):=by grind
 have M:(mq a.w b.ls).length=a.w.length*8:=l.w.1;refine⟨(p.G d (ap l.ai) (s d l.nd.r)).trans l.ai,?_,bi l.A p λe m=>s e (λo=>l.nd.rn e o m),bi l.ag p λe m=>s e (λo=>l.nd.rp e o m),l.O.a8 p λe m=>s e (λo=>l.nd.rg e o m),?_,?_,l.nd,l.b7,l.bB,λe I=>Yr (l.aY e I) p.ar,l.fin,l.c3,l.ck,?_,l.cn⟩
 .have z:=l.w;rw[w]at z ⊢;have A:=sP z (i:=i*8+2) (by omega) (U q);unfold mq at A;rw[sk (f:=λr:bg×(Zv×Zv)=>kW r.1 r.2) (k:=8) (λ_=>rfl) (a.w.zip b.ls) i 2 _ ({ a.w.getD i cS with of:=q },b.ls[i]) _ (by omega) E rfl,<-SX a.w b.ls i _ _ F]at A;grind [YtjdhaegijjednaaGreatDoor.setOf,mq]
 .grind [YtjdhaegijjednaaGreatDoor.setOf,a2]
 .intro x P r v u;unfold YtjdhaegijjednaaGreatDoor.setOf at v;simp only at v;rw[YP]at v;have O:∀t,a.w[x]? = some t->dI r.1 t.bD (c.setCell ⟨n,i*8+2,none⟩ (U q))/\dI r.2 t.cg (c.setCell ⟨n,i*8+2,none⟩ (U q)):=by
   intro t H;obtain⟨B,C⟩:=l.e8 x t r H u;exact⟨B.a8 p λe m=>s e (y e (hu u (Y8 m))),C.a8 p λe m=>s e (y e (hu u (Ya m)))⟩
  grind
 .have:=l.bp;grind [ae.sz,YtjdhaegijjednaaGreatDoor.setOf]
def fg(a:ae)(b:Zb):dk:=a.A.getD (bP a b).toNat hI
def mo:Nat->Nat->ae->ae
 |0,_,a=>a
 |k+1,i,a=>
  if(a.w.getD i cS).C=14 then
   if bP a (a.w.getD i cS).b0<0\/(fg a (a.w.getD i cS).b0).a7≠1 then bL 7 (a.w.getD i cS).m a
   else mo k (i+1) (setOf a i (fg a (a.w.getD i cS).b0).n)
  else mo k (i+1) a
def lF(a:ae):ae:=mo a.w.length 0 a
def NF(p:bC h d j g a c)(b1:g<=1000000000):Calls prog 49 #[Zp d] c (GP h d j g (lF a) (.tuple #[]) c):=by
 have a6:=Z (iE p);have b0:=p.bp;unfold ae.sz at b0;have f1:a.w.length<=1000000000:=by omega
 go_in;go_wp2;go_loopw [2] (λM c4=>∃(k:Nat) (o:ae),M=U k/\k<=a.w.length/\ac (o.w.length=a.w.length)/\ac (aN h d j g o [] c c4)/\ac (mo (a.w.length-k) k o=lF a)) (λM _=>a.w.length-(intOf M).toNat)
 case atStart=>exact⟨0,a,rfl,by omega,Z rfl,a6,Z rfl⟩
 case round=>
  obtain⟨k,f,rfl,e4,C,E,s⟩:=hrel;obtain⟨b,gV,a8,l,A⟩:=E.j.ax.sp;obtain⟨d5,d7,b8⟩:=ce l.w;obtain⟨-,-,-,-,-,-,y,z,-,-,-,-,-,-,-,b3,b6⟩:=l.al;rcases Yj k a.w.length with e6|e2
  .obtain⟨i,K⟩:∃i,f.w.getD k cS=i:=⟨_,rfl⟩;have e5:(0:Int)<=↑k:=by omega
   have J:k<f.w.length:=by rw[C.j];omega
   have R:=Z (s.j.symm.trans (by rw[show a.w.length-k=(a.w.length-(k+1))+1 by omega,mo,K]));obtain⟨q,F,c3,x,-,N,-,-,-,-,-,O,P,c7,c8,b4⟩:=sW l J;rw[K]at N O P;rw[x]at y;rw[A]at z;have b5:(↑k:Int) < ↑f.w.length:=by omega
   have a1:=Z (oj (l.au (ak [] wr).aq) b1 i.b0);rw[A]at a1;have D:=Z l;by_cases a2:i.C=14
   .have b2:(i.C==14)=true:=by simp_all
    have t:=Z (R.j.trans (by rw[Y9 a2]));go_wp2;refine cx (λe=>e.cell? (Zd d 8)=some (.slice gV f.A.length a8)/\e.cell? (Zd d 7)=some (.slice (some ⟨q,0,none⟩) f.w.length F)/\e.cell? ⟨q,k*8+6,none⟩=some (Zs i.b0)) (L:=15) (by kernel_rfl) rfl (by kernel_rfl) (by kernel_rfl) ?_ (λa3=>?_)
    .go_keep
    refine bH [0,1,2,3,4,5,6,7,8,9,10,11,12,13] ?_;iterate 14 (refine bK (v:=?_) rfl (by kernel_rfl) (λ_ _ _ H=>H) (by kernel_rfl) (by assumption) ?_ ?_;rotate_left;focus (intro c I;(try dsimp only at I);go_simp;(try with_reducible rfl));(try simp only[aJ,aK,List.set]))
    refine bI ?_;refine bF 14 (by kernel_rfl) rfl λa0 w=>?_;(go_simp;refine a1.j.mono ?_;rintro d8 f3 ⟨rfl,rfl⟩);refine w.out _ _ ?_ (λa3=>?_)
    .go_keep
    (try simp only[aJ,aK,List.set]);refine cR (by kernel_rfl) rfl λa0 w=>?_;go_simp;refine w.out _ _ ?_;(try simp only[aJ,aK,List.set]);have u:=Z E.j.aq;generalize wr.drew=m at u ⊢;obtain⟨b,d4,d6,l,A⟩:=u.j.ax.sp;obtain⟨q,F,c3,x,-,N,-,c6,-,-,-,O,P,c7,c8,b4⟩:=sW l J;obtain⟨-,-,-,-,-,-,y,z,-,-,-,-,-,-,-,b3,b6⟩:=l.al;rw[K]at N c6 O P;rw[x]at y;have D:=Z l;have S:=Z x;by_cases d9:bP f i.b0<0
    .have s:ac (lF a=bL 7 i.m f):=Z (t.j.trans (by simp_all));rw[A]at z;go_wp2_with fail;refine aM u (jo · 7 i.m) λc5 B=>?_;go_wp2;go_end0;rw[s.j];exact⟨rfl,B.j.fin⟩
    .have b7:=qL (by omega:0<=bP f i.b0);obtain⟨G,a7,a5,-,c9,d0,-,f4,f5,e1⟩:=pD l b7;change m.cell? _=some (U (fg f i.b0).a7)at c9;change m.cell? _=some (U (fg f i.b0).n)at d0;rw[a5]at z;have e3:G≠q:=λa9=>l.nd.rn q (by rw[x];rfl) (by rw[a5,a9];rfl);generalize e0:bP f i.b0=r at *
     obtain⟨r,rfl⟩:∃c0:Nat,r=c0:=⟨r.toNat,by omega⟩;simp only[Int.toNat_natCast]at *
     have e9:(r:Int)<(f.A.length:Int):=by omega
     have e8:decide ((r:Int)<0)=false:=by simp
     have f0:(0:Int)<=r:=by omega
     by_cases f2:(fg f i.b0).a7=1
     .have b9:((fg f i.b0).a7 != 1)=false:=by simp_all
      have d2:ac (mo (a.w.length-(k+1)) (k+1) (setOf f k (fg f i.b0).n)=lF a):=Z (t.j.trans (by simp_all[Y2])).symm;have d1:=Z (u.j.call ⟨⟨b,D.j.setOf J S.j (fg f i.b0).n⟩,rG ((ak [q] m).ay (p:=⟨q,k*8+2,none⟩) (by simp) (U (fg f i.b0).n)) (λc1 a4 _=>D.j.bB c1 (Y8 (hP (by simp at a4;rw[a4,S.j];rfl))))⟩);have d3:ac ((setOf f k (fg f i.b0).n).w.length=a.w.length):=Z (by unfold setOf;simp only[YF];exact C.j);generalize e7:(fg f i.b0).n=c2 at *
      go_wp2;refine cx (λe=>e.cell? (Zd d 8)=some (.slice (some ⟨G,0,none⟩) f.A.length a7)/\e.cell? (Zd d 7)=some (.slice (some ⟨q,0,none⟩) f.w.length F)/\e.cell? ⟨G,r*4+2,none⟩=some (U c2)) (L:=17) (by kernel_rfl) rfl (by kernel_rfl) (by kernel_rfl) ?_ (λa3=>?_)
      .go_keep
      refine bH [0,1,2,3,4,5,6,7,8,9,10,11,12,13,14,15,16] ?_;iterate 17 (refine bK (v:=?_) rfl (by kernel_rfl) (λ_ _ _ H=>H) (by kernel_rfl) (by assumption) ?_ ?_;rotate_left;focus (intro c I;(try dsimp only at I);go_simp;(try with_reducible rfl));(try simp only[aJ,aK,List.set]))
      refine bI ?_;refine cR (by kernel_rfl) rfl λa0 w=>?_;go_simp;refine w.out _ _ ?_;(try simp only[aJ,aK,List.set]);go_wp2;grind [Z,aN.aq,intOf]
     .have b9:((fg f i.b0).a7 != 1)=true:=by simp_all
      have s:ac (lF a=bL 7 i.m f):=Z (t.j.trans (by simp_all));go_wp2_with fail;refine aM u (jo · 7 i.m) λc5 B=>?_;go_wp2;go_end0;rw[s.j];exact⟨rfl,B.j.fin⟩
   .have b2:(i.C==14)=false:=by simp_all
    have t:=Z (R.j.trans (by rw[Y2 a2])).symm;go_wp2;grind [intOf]
  .have b5:¬((↑k:Int) < ↑f.w.length):=by rw[C.j];omega
   have t:ac (lF a=f):=Z (s.j.symm.trans (by simp_all[mo]));rw[b8]at y;go_wp2;go_end0;rw[t.j];exact⟨rfl,E.j.fin⟩
end
section
variable {g k : Nat -> Prop} {P f i : Nat} {t : Zb} {c u : ae} {a q b r s : Zw} {d : PV} {h j : List Th} {p : Nat} {e o : Th}
def OE(a:Zw)(f:TypeId){v l:Zv}{c d:List Int}(i:dI v c a)(j:dI l d a)(E:c.length+d.length<=1000000000) :
  ∃e b,(Builtin.append_ #[24,24] f #[v,l]).run prog a=.ok e b/\dI e (c++d) b/\a.grownBy b v.ownBlock/\(e.ownBlock=v.ownBlock\/e.ownBlock=some a.heap.size):=by
 obtain⟨k,g,q,r,s⟩:=info_parts om;have t:(U 0).cells.size=1:=rfl;unfold dI at *
 rw[Yq,List.map_append];rcases j.2 with⟨rfl,o⟩|⟨n,m,w,rfl,y,z,A,B,C,D⟩
 .have p:d=[]:=Yv.1 o;subst p;refine⟨v,a,run_append_owned_none (P:=prog) a 0 24 f 3 k 1 underlying24 g v c.length _ i,by simp_all,Aw _ _,Y8 rfl⟩
 .obtain⟨e,b,F,G,x,_,u⟩:=run_append_own_at (P:=prog) a 0 24 f 3 k _ 1 8 underlying24 g q r s t (by omega) v c.length (c.map (U)) i ⟨n,0,none⟩ d.length m (d.map (U)) j.1 (by
   grind [Addr.add,bJ]) (by intro H h;simp at h;obtain⟨_,_,rfl⟩:=h;rfl) (by unfold maxLen;omega) (by omega) (YV _)
  grind
def SD{g:Array Oper}{rest:List Oper}{d:Oper}{e:Act}{Q:Exit->Act->Zw->Prop}{a:Zw}(p:d.guard=none)(h i:Operand)
  (r:d.op=.call { callee:=.builtin .append,args:=#[h,i],argTypes:=#[24,24] }) {v y:Zv} {l m:List Int} (t:e.eval h=v) (w:e.eval i=y) (u:dI v l a) (x:dI y m a) (q:l.length+m.length<=1000000000)
  (n:∀ad c b,dI (.slice ad (l++m).length c) (l++m) b->a.grownBy b v.ownBlock->((Value.slice ad (l++m).length c).ownBlock=v.ownBlock\/(Value.slice ad (l++m).length c).ownBlock=some a.heap.size)->wpList prog g Q rest (e.put d.dst (.slice ad (l++m).length c)) b):wpList prog g Q (d::rest) e a:=by
 refine wpList_plain p λz o=>?_;obtain⟨A,b,s,f,k,j⟩:=OE a d.type u x q;obtain⟨ad,c,rfl⟩:=ce f;unfold Oper.wp execOp;simp only[r,resolve,invoke,builtin,Sem.run_bind,Sem.run_pure,Result.andThen_ok,List.map_toArray,List.map_cons,List.map_nil,t,w,s];exact o _ _ (n ad c b f k j)
def LK{ad:Option Addr}{d e a b c:Nat}(f:(Value.slice ad d a).ownBlock=(Value.slice none 0 0).ownBlock\/(Value.slice ad d a).ownBlock=some b)(g:(Value.slice ad e a).ownBlock=some c):c=b:=by
 cases ad<;>grind [Value.ownBlock]
def pu{d:List Nat}{a g h:Zw}(b:am [] a g)(c:am d g h)(j:∀i∈d,a.heap.size<=i):am [] a h:=
 ⟨c.os.trans b.os,c.dX.trans b.dX,c.dU.trans b.dU,Yz b.ar c.ar,λf e _=>(c.G f (Yr e b.ar) (λk=>by grind)).trans (b.G f e (by simp))⟩
def cz(a:bg):List Int:=if a.C=14\/a.C=9 then [a.of]else if a.C=12 then a.cg else if a.C=13 then a.cg++[a.fp]else []
abbrev oD(d:PV)(c:ae):Zv:=.agg #[d.rv,d.nv,d.pv,Zs c.j]
abbrev OC(a:bg)(b:Zv×Zv):Obj:=.cells #[U a.C,U a.n,U a.of,b.1,b.2,U a.fp,Zs a.b0,U a.m] 117
def JH(m:bk g P t f c d a){i:Nat}(b5:i<c.w.length)(e1:f<=1000000000)(e5:(c.w.getD i cS).cg.length<=1000):Calls prog 91 #[oD d c,U i] a λb3 b=>∃v,b3=.returned v/\am [] a b/\dI v (cz (c.w.getD i cS)) b/\∀h,v.ownBlock=some h->h∈d.a8\/a.heap.size<=h:=by
 obtain⟨d3,d5,b8⟩:=ce m.A;obtain⟨d4,d6,b9⟩:=ce m.ag;obtain⟨e0,d7,E,c1,x,e8,e9,f0,d1,d2,f1,f2,f3,f4,f5,-⟩:=sW m b5;have u:=(m.e8 i (c.w.getD i cS) E (by grind) x).2;have N:=(m.e8 i (c.w.getD i cS) E (by grind) x).1;obtain⟨gV,A,R⟩:=ce u;obtain⟨a6,b1,O⟩:=ce N;obtain⟨e6,e7⟩:=E;simp only at O R d1 d2 u;subst O R;have K:=m.bp;unfold ae.sz at K;generalize c0:c.w.getD i cS=e at *
 have e2:(0:Int)<=↑i:=by omega
 have e3:(↑i:Int) < ↑c.w.length:=by omega
 have H:=Z u;have a1:=Z (λh (j:(Value.slice gV e.cg.length A).ownBlock=some h)=>hu x (Ya j));clear m u N c0 x K;unfold oD;rw[c1,b8,b9];by_cases q:e.C=14\/e.C=9
 .have k:ac (cz e=[e.of]):=by show _=_;unfold cz;simp_all
  by_cases p:e.C=14
  .have J:(e.C==14)=true:=by simp_all
   clear p q;go_in;go_wp2;go_ret;rw[k.j];exact⟨_,rfl,(((ak [] a).B _).B _).B _,⟨rfl,Ya ⟨a.heap.size+1+1,1,#[U e.of],rfl,YV _,aS (by simp),by simp,by unfold maxLen;omega,rfl,rfl⟩⟩,λh j=>Ya (by simp[Value.ownBlock]at j;omega)⟩
  .have J:(e.C==14)=false:=by simp_all
   have a7:(e.C==9)=true:=by simp_all
   clear p q;go_in;go_wp2;go_ret;rw[k.j];exact⟨_,rfl,(((ak [] a).B _).B _).B _,⟨rfl,Ya ⟨a.heap.size+1+1,1,#[U e.of],rfl,YV _,aS (by simp),by simp,by unfold maxLen;omega,rfl,rfl⟩⟩,λh j=>Ya (by simp[Value.ownBlock]at j;omega)⟩
 .have J:(e.C==14)=false:=by simp_all
  have a7:(e.C==9)=false:=by simp_all
  by_cases C:e.C=12
  .have k:ac (cz e=e.cg):=by show _=_;simp_all[cz]
   have a8:(e.C==12)=true:=by simp_all
   clear q C;go_in;go_wp2;go_ret;rw[k.j];exact⟨_,rfl,((ak [] a).B _).B _,H.j.a8 (((ak [] a).B _).B _) (by simp),λh j=>Y8 (a1.j h j)⟩
  .have a8:(e.C==12)=false:=by simp_all
   by_cases L:e.C=13
   .have k:ac (cz e=e.cg++[e.fp]):=by show _=_;simp_all[cz]
    have a9:(e.C==13)=true:=by simp_all
    obtain⟨c6,b4,c2,c3,c4⟩:=info_parts om;have c5:(U 0).cells.size=1:=rfl;have F:=Z (λc8 c9=>H.j.a8 (((ak [] a).B c8).B c9) (by simp));have b7:e.cg.length+1<=maxLen:=by unfold maxLen;omega
    clear q C L;go_in;go_wp2_with (at_builtin;(first|(refine SD (by rfl) _ _ (by rfl) (l:=[]) (m:=e.cg) (v:=.slice none 0 0) (y:=.slice gV e.cg.length A) (by rfl) (by rfl) (ss _) (F.j _ _) (by grind) ?_;intro z B o w n r;have a2:=Z ((((ak [] a).B _).B _).u (fs n));have M:o.heap[a.heap.size+1]? = some (OC e (.slice a6 e.bD.length b1,.slice gV e.cg.length A)):=((n.block _ (by simp) (by simp[Value.ownBlock])).trans (aS (by simp)));obtain⟨f6,f7,f8,f9,g0,g1,g2,g3,g4,g5⟩:=zE M;have a5:ac (dI (.slice z e.cg.length B) e.cg o):=Z w;have I:=Z (λc7=>a5.j.a8 ((ak [] o).B c7) (by simp));have G:ac (∀s,(Value.slice z e.cg.length B).ownBlock=some s->a.heap.size<=s):=Z (λs D=>(by have b2:=LK r D;simp at b2;omega));clear w n r M F)|(refine wpList_append_lies _ (by rfl) _ _ _ (by rfl) 0 3 c6 _ 1 8 underlying24 b4 c2 c3 c4 c5 (by omega) (.slice z e.cg.length B) e.cg.length (e.cg.map (U)) (by rfl) (I.j _) ⟨o.heap.size,0,none⟩ 1 1 [U e.fp] (by rfl) (by rfl) (World.news_of_block (cs:=#[U e.fp]) (t:=3) (fr:=(0,0)) (heap_alloc_new o _)) (by simp[Value.oneCell']) (by omega) b7 (by omega) (by simp) (o.heap.size+1) (by simp) ?_;intro h b0 d0 w n r b6;have a4:ac (dI (.slice (some ⟨h,0,none⟩) (e.cg.length+1) b0) (e.cg++[e.fp]) d0):=Z (by grind [dI]);have a3:=Z (pu (a2.j.B _) (fs n) (λS e4=>G.j S (by simp_all)));have a0:ac (a.heap.size<=h):=Z (r.elim (λp=>G.j h p) (λp=>(by omega)));clear w n r b6 I)));go_ret;rw[k.j];exact⟨_,rfl,a3.j,a4.j,λs D=>Ya (by have:=a0.j;simp[Value.ownBlock]at D;omega)⟩
   .have k:ac (cz e=[]):=by show _=_;simp_all[cz]
    have a9:(e.C==13)=false:=by simp_all
    clear q C L;go_in;go_wp2;go_ret;rw[k.j];exact⟨_,rfl,((ak [] a).B _).B _,ss _,λh j=>by simp[Value.ownBlock]at j⟩
end
section
variable {g o : Nat -> Prop} {P e l : Nat} {h : Zb} {a u : ae} {c s d b t : Zw} {f : PV} {k n : List Th} {i : Nat} {q r : Th}
def hl(c:List Int)(a:List Bool):List Bool:=c.foldl (λa b=>if 0<=b then a.set b.toNat true else a) a
def gO(a:ae):Nat->Nat->List Bool->List Bool
 |0,_,b=>b
 |m+1,c,b=>gO a m (c+1) (if b.getD c false=true then hl (cz (a.w.getD c cS)) b else b)
def fO(a:ae):Nat->List Bool->List Bool
 |0,b=>b
 |m+1,b=>fO a m (gO a a.w.length 0 b)
def mZ(a:ae)(b:Nat):Bool:=(fO a a.w.length (hl (cz (a.w.getD b cS)) (List.replicate a.w.length false))).getD b false
def rK(a:ae):Prop:=∀b∈a.w,b.cg.length<=1000/\∀c∈cz b,c<a.w.length
theorem xt(b:List Int):∀a:List Bool,(hl b a).length=a.length:=by
 induction b with
 |nil=>intro a;rfl
 |cons d b c=>
  intro a;unfold hl at *
  grind
theorem Ci(a:ae):∀(b d:Nat) (c:List Bool),(gO a b d c).length=c.length:=by
 intro b;induction b<;>grind [gO,xt]
abbrev iA(a:List Bool):Obj:=.cells (a.map Value.bool).toArray 4
def IV:(prog.info? 4).map (λi=>(i.zero,i.size,i.bytes))=some (some (.bool false),1,1):=by kernel_rfl
def Kc(a:Nat):(Obj.cells (madeCells #[.bool false] a) 4)=iA (List.replicate a false):=by
 unfold iA madeCells;congr 1;grind
def Cp{a j:Nat}{b:List Bool}(d:c.heap[a]? = some (iA b)):(c.setCell ⟨a,j,none⟩ (.bool true)).heap[a]? = some (iA (b.set j true)):=by
 have:=bu (i:=j) d (.bool true);simp_all
def AX{b:List Int}{a:Nat}{c:List Bool}(e:a<b.length):hl (b.drop a) c=hl (b.drop (a+1)) (if 0<=b.getD a 0 then c.set (b.getD a 0).toNat true else c):=by
 have d:b.drop a=b.getD a 0::b.drop (a+1):=by
  simp_all
 rw[d];rfl
def AE{v:Zv}{b:List Int}{a:Nat}(f:dI v b c)(h:a<b.length):∃d e,v=.slice (some ⟨d,0,none⟩) b.length e/\c.cell? (Zd d a)=some (U (b.getD a 0))/\d<c.heap.size:=by
 obtain⟨d,e,k,g,_,j⟩:=ka f (i:=a) (x:=U (b.getD a 0)) (by grind);simp_all
def vv{d a:Nat}{b:List Bool}(e:c.heap[d]? = some (iA b))(f:a<b.length):c.cell? (Zd d a)=some (.bool (b.getD a false)):=aU e (by grind)
def AO(a:bg):(cz a).length<=a.cg.length+1:=by
 grind [cz]
def Hu(p:bk g P h e a f c){o:Nat}(b4:o<a.w.length)(i2:rK a)(g4:e<=1000000000):Calls prog 50 #[oD f a,U o] c λI d=>I=.returned (.bool (mZ a o))/\am [] c d:=by
 obtain⟨a5,a7,c5⟩:=ce p.A;obtain⟨a6,a8,c7⟩:=ce p.ag;obtain⟨K,L,c8⟩:=ce p.w;have f7:=p.bp;unfold ae.sz at f7;have k4:a.w.length<=1000000000:=by omega
 have c6:∀i,i<a.w.length->(a.w.getD i cS).cg.length<=1000/\∀C∈cz (a.w.getD i cS),C<a.w.length:=λi a1=>i2 _ (by grind);have c0:ac (∀O i,am [] c O->i<a.w.length->Calls prog 91 #[.agg #[.slice K a.w.length L,.slice a5 a.A.length a7,.slice a6 a.ag.length a8,Zs a.j],U i] O λI d=>∃v,I=.returned v/\am [] O d/\dI v (cz (a.w.getD i cS)) d/\∀l,v.ownBlock=some l->l<c.heap.size\/O.heap.size<=l):=Z (λO i i0 a1=>by
  have:=JH (p.au i0) a1 g4 (c6 i a1).1;unfold oD at this;rw[c8,c5,c7]at this;refine this.mono ?_;rintro I d ⟨v,g0,g1,g2,g3⟩;exact⟨v,g0,g1,g2,λl B=>(g3 l B).imp (λa9=>p.lt l (Ya a9)) id⟩)
 have S:=Z c6;unfold oD;rw[c8,c5,c7];go_in;go_wp2_with fail;refine(c0.j _ o ((ak [] c).B _) b4).mono ?_;rintro I b ⟨k7,rfl,c9,d1,-⟩;have b3:=(S.j o b4).2;have j9:(cz (a.w.getD o cS)).length<=2000:=by have:=AO (a.w.getD o cS);have:=(S.j o b4).1;omega
 have d5:ac (mZ a o=(fO a a.w.length (hl (cz (a.w.getD o cS)) (List.replicate a.w.length false))).getD o false):=Z rfl;generalize cz (a.w.getD o cS)=x at *
 have q:b.heap[c.heap.size]? = some (.cells #[.slice K a.w.length L,.slice a5 a.A.length a7,.slice a6 a.ag.length a8,Zs a.j] 62):=(c9.G _ (by simp) (by simp)).trans (aS rfl);obtain⟨e8,f2,rfl⟩:=ce d1;have c2:b.cell? (Zd c.heap.size 0)=some (.slice K a.w.length L):=aU q rfl;have c3:=cK q;have c4:=ap q;have d9:=Z (((ak [] c).B _).u c9);have d4:=Z q;have b9:=Z d1;have h7:=run_make_row' (P:=prog) 175 4 (.bool false) 1 underlying175 IV rfl .i64 .i64 a.w.length (by omega) (by omega) b;rw[Kc]at h7;have g6:(b.alloc (iA (List.replicate a.w.length false))).heap[b.heap.size]? = some (iA (List.replicate a.w.length false)):=aS rfl;have e3:=Z (Yp (ak [b.heap.size] (b.alloc (iA (List.replicate a.w.length false)))) g6);have e0:=Z (b9.j.a8 ((ak [] b).B (iA (List.replicate a.w.length false))) (by simp));have b8:=Z (d9.j.B (iA (List.replicate a.w.length false)));have R:=Z ((((ak [] b).B (iA (List.replicate a.w.length false))).G _ c4 (by simp)).trans d4.j);have g8:ac (∀l,(Value.slice e8 x.length f2).ownBlock=some l->l≠b.heap.size):=Z (λl B f6=>by have:=(hn b9.j B).2;omega);have j2:c.heap.size<b.heap.size:=c4;go_wp2;generalize j1:b.alloc (iA (List.replicate a.w.length false))=b5 at *
 go_loopw [7] (λr z=>∃(i:Nat) (k:List Bool),r=U i/\i<=x.length/\ac (k.length=a.w.length)/\ac (hl (x.drop i) k=hl x (List.replicate a.w.length false))/\ac (am [b.heap.size] b5 z/\z.heap[b.heap.size]? = some (iA k))) (λr _=>x.length-(intOf r).toNat)
 case atStart=>exact⟨0,List.replicate a.w.length false,rfl,by omega,Z (by simp),Z rfl,e3⟩
 case round=>
  obtain⟨i,k,rfl,a1,F,J,j⟩:=hrel;rcases Yj i x.length with a2|h0
  .have j5:(0:Int)<=↑i:=by omega
   have h3:(↑i:Int) < ↑x.length:=by omega
   obtain⟨l,f1,N,g7,h2⟩:=AE (e0.j.a8 j.j.1 (λl B=>by simpa using g8.j l B)) a2;simp only[Value.slice.injEq]at N;obtain⟨rfl,-,rfl⟩:=N;have w:=Z ((AX a2).symm.trans J.j);have i1:=b3 (x.getD i 0) (by simp[a2]);generalize x.getD i 0=C at *
   by_cases M:0<=C
   .obtain⟨m,rfl⟩:∃m:Nat,C=m:=⟨C.toNat,by omega⟩;rw[Y9 M,Int.toNat_natCast]at w;have b0:m<k.length:=by rw[F.j];omega
    have f4:=vv j.j.2 b0;have f8:=cK j.j.2;have e5:=Z (Yp (j.j.1.ay (p:=⟨b.heap.size,m,none⟩) (by simp) (.bool true)) (Cp (j:=m) j.j.2));have H:ac ((k.set m true).length=a.w.length):=Z (by rw[YF];exact F.j);go_wp2;exact⟨⟨i+1,k.set m true,by rfl,by omega,H,w,e5⟩,by simp[intOf];omega⟩
   .rw[Y2 M]at w;go_wp2;exact⟨⟨i+1,k,by rfl,by omega,F,w,j⟩,by simp[intOf];omega⟩
  .have h3:¬((↑i:Int) < ↑x.length):=by omega
   have w:ac (k=hl x (List.replicate a.w.length false)):=Z (by rw[<-J.j,YR h0];rfl);have d6:ac (mZ a o=(fO a a.w.length k).getD o false):=Z (by rw[d5.j,<-w.j]);generalize g5:fO a a.w.length k=SR at *
   have d8:=Z g5;go_wp2;go_loopw [8] (λr z=>∃(s:Nat) (k:List Bool),r=U s/\s<=a.w.length/\ac (k.length=a.w.length)/\ac (fO a (a.w.length-s) k=SR)/\ac (am [b.heap.size] b5 z/\z.heap[b.heap.size]? = some (iA k))) (λr _=>a.w.length-(intOf r).toNat)
   case atStart=>exact⟨0,k,rfl,by omega,F,d8,j⟩
   case round=>
    obtain⟨s,k,rfl,a3,F,J,j⟩:=hrel;have q:=(j.j.1.G _ (ap R.j) (by simp;omega)).trans R.j;have c2:wr.cell? (Zd c.heap.size 0)=some (.slice K a.w.length L):=aU q rfl;have c3:=cK q;have f0:=ap q;rcases Yj s a.w.length with a2|j3
    .have h6:(↑s:Int) < ↑a.w.length:=by omega
     have w:ac (fO a (a.w.length-(s+1)) (gO a a.w.length 0 k)=SR):=Z (by rw[<-J.j,show a.w.length-s=(a.w.length-(s+1))+1 by omega,fO]);go_wp2;go_loopw [9] (λr z=>∃(i:Nat) (u:List Bool),r=U i/\i<=a.w.length/\ac (u.length=a.w.length)/\ac (gO a (a.w.length-i) i u=gO a a.w.length 0 k)/\ac (am [b.heap.size] b5 z/\z.heap[b.heap.size]? = some (iA u))) (λr _=>a.w.length-(intOf r).toNat)
     case atStart=>exact⟨0,k,rfl,by omega,F,Z rfl,j⟩
     case round=>
      obtain⟨n,u,rfl,j6,a0,b6,j⟩:=hrel;have q:=(j.j.1.G _ (ap R.j) (by simp;omega)).trans R.j;have c2:wr.cell? (Zd c.heap.size 0)=some (.slice K a.w.length L):=aU q rfl;have i5:wr.cell? (Zd c.heap.size 1)=some (.slice a5 a.A.length a7):=aU q rfl;have i6:wr.cell? (Zd c.heap.size 2)=some (.slice a6 a.ag.length a8):=aU q rfl;have i7:wr.cell? (Zd c.heap.size 3)=some (Zs a.j):=aU q rfl;have c3:=cK q;have f0:=ap q;rcases Yj n a.w.length with b1|j4
      .have j7:(0:Int)<=↑n:=by omega
       have h4:(↑n:Int) < ↑a.w.length:=by omega
       have h5:n<u.length:=by rw[a0.j];omega
       have i8:=vv j.j.2 h5;have i9:=cK j.j.2;have i3:=ap j.j.2;have E:=Z (b6.j.symm.trans (by rw[show a.w.length-n=(a.w.length-(n+1))+1 by omega,gO]));generalize k5:u.getD n false=i4 at *
       cases i4 with
       |true=>
        simp only[if_true]at E
        have a4:=pu b8.j j.j.1 (λs a3=>by simp at a3;omega);have b3:=(S.j n b1).2;have j8:(cz (a.w.getD n cS)).length<=2000:=by have:=AO (a.w.getD n cS);have:=(S.j n b1).1;omega
        have e4:=Z (c0.j wr n a4 b1);go_wp2_with fail;refine e4.j.mono ?_;rintro I d3 ⟨k8,rfl,d0,d2,f9⟩;obtain⟨e9,f3,rfl⟩:=ce d2;generalize cz (a.w.getD n cS)=y at *
        have c1:=Z (Yp (j.j.1.u (d0.K (by simp))) ((d0.G _ i3 (by simp)).trans j.j.2));have e1:=Z d2;have g9:ac (∀l,(Value.slice e9 y.length f3).ownBlock=some l->l≠b.heap.size):=Z (λl B f6=>by rcases f9 l B with a9|a9<;>omega);have e2:=Z (Yp (ak [b.heap.size] d3) c1.j.2);go_wp2;go_loopw [11] (λr z=>∃(t:Nat) (A:List Bool),r=U t/\t<=y.length/\ac (A.length=a.w.length)/\ac (hl (y.drop t) A=hl y u)/\ac (am [b.heap.size] d3 z/\z.heap[b.heap.size]? = some (iA A))) (λr _=>y.length-(intOf r).toNat)
        case atStart=>exact⟨0,u,rfl,by omega,a0,Z rfl,e2⟩
        case round=>
         obtain⟨t,A,rfl,k0,H,b7,D⟩:=hrel;rcases Yj t y.length with b2|h1
         .have k1:(0:Int)<=↑t:=by omega
          have h8:(↑t:Int) < ↑y.length:=by omega
          obtain⟨l,f1,N,g7,h2⟩:=AE (e1.j.a8 D.j.1 (λl B=>by simpa using g9.j l B)) b2;simp only[Value.slice.injEq]at N;obtain⟨rfl,-,rfl⟩:=N;have G:=Z ((AX b2).symm.trans b7.j);have i1:=b3 (y.getD t 0) (by simp[b2]);generalize y.getD t 0=C at *
          by_cases M:0<=C
          .obtain⟨m,rfl⟩:∃m:Nat,C=m:=⟨C.toNat,by omega⟩;rw[Y9 M,Int.toNat_natCast]at G;have b0:m<A.length:=by rw[H.j];omega
           have f4:=vv D.j.2 b0;have f8:=cK D.j.2;have e6:=Z (Yp (D.j.1.ay (p:=⟨b.heap.size,m,none⟩) (by simp) (.bool true)) (Cp (j:=m) D.j.2));have d7:ac ((A.set m true).length=a.w.length):=Z (by rw[YF];exact H.j);go_wp2;exact⟨⟨t+1,A.set m true,by rfl,by omega,d7,G,e6⟩,by simp[intOf];omega⟩
          .rw[Y2 M]at G;go_wp2;exact⟨⟨t+1,A,by rfl,by omega,H,G,D⟩,by simp[intOf];omega⟩
         .have h8:¬((↑t:Int) < ↑y.length):=by omega
          have G:ac (A=hl y u):=Z (by rw[<-b7.j,YR h1];rfl);rw[<-G.j]at E;have e7:=Z (Yp (c1.j.1.u D.j.1) D.j.2);go_wp2;exact⟨⟨n+1,A,by rfl,by omega,H,Z E.j.symm,e7⟩,by simp[intOf];omega⟩
       |false=>
        simp only[Ye,if_false]at E
        go_wp2;exact⟨⟨n+1,u,by rfl,by omega,a0,Z E.j.symm,j⟩,by simp[intOf];omega⟩
      .have h4:¬((↑n:Int) < ↑a.w.length):=by omega
       have E:ac (u=gO a a.w.length 0 k):=Z (by rw[<-b6.j,show a.w.length-n=0 by omega,gO]);rw[<-E.j]at w;go_wp2;exact⟨⟨s+1,u,by rfl,by omega,a0,w,j⟩,by simp[intOf];omega⟩
    .have h6:¬((↑s:Int) < ↑a.w.length):=by omega
     have w:ac (k=SR):=Z (by rw[<-J.j,show a.w.length-s=0 by omega,fO]);have h9:o<k.length:=by rw[F.j];omega
     have k2:(0:Int)<=↑o:=by omega
     have k3:(↑o:Int) < ↑a.w.length:=by omega
     have f5:=vv j.j.2 h9;have j0:=cK j.j.2;have k6:=ap j.j.2;rw[w.j]at f5;have a4:=Z (pu b8.j j.j.1 (λs a3=>by simp at a3;omega));go_wp2;go_ret;exact⟨by rw[d6.j];simp,a4.j⟩
end
section
variable {t : Zb} {a σ' b : ae}
def rq(b:σ'.s=a.s):aX a σ':=λ_=>⟨by rw[b],by rw[b]⟩
def yr(b:Nat)(c:List Int)(d:Zb)(a:ae):aX a (da t b c d a).2.2.2:=λe=>by simp_all[pl]
theorem yt(b:Nat)(e:List Int)(c:Zc)(d:Zb)(a:ae):aX a (dv t b e c d a).2.2:=λf=>by simp_all[tf]
theorem yu(of:Int)(b:Nat)(d f:List Int)(c:Zc)(e:Zb)(a:ae):aX a (dH t of b d f c e a).2:=λg=>by simp_all[pX]
theorem yv(b:Nat)(c:Zc)(d:List Int)(all:List br)(e:Zb)(a:ae):aX a (ec t b c d all e a).2:=λf=>by simp_all[yH]
def CP(b:Zc)(a:ae):aX a (gJ t b a).2:=by
 unfold gJ;split
 .exact(hp _).u ((aZ _ _ _).u (vD _ _))
 .exact dV a
def Qh(a:ae):aX (aD a.av 40 a) (fT t a):=by
 unfold fT;simp only;generalize e:aR t 2 (af t 2 [99,111,110,115,116] (aD a.av 40 a))=b;have c:aX (aD a.av 40 a) b.2:=by rw[<-e];exact(aZ _ _ _).u (oE _ _)
 generalize f:bn t (-2147483648) 4294967295 (af t 4 [61] b.2)=v;have d:aX (aD a.av 40 a) (af t 4 [59] v.2):=by rw[<-f];exact c.u ((aZ _ _ _).u ((hc _ _ _).u (aZ _ _ _)))
 split
 .omega
 .exact d.u ((CT _ _ _).u (mw _ _))
def Qp(a:ae):aX a (gj t a):=by
 unfold gj;simp only;generalize d:ch t [] true (af t 2 [116,121,112,101,100,101,102] a)=b;have c:aX a b.2:=by rw[<-d];exact(aZ _ _ _).u (vE _ _ _)
 split
 .omega
 .exact c.u (aX.u (rq (σ':={ b.2 with A:=b.2.A++[⟨b.1.x.text,1,b.1.r,b.1.x.m⟩] }) rfl) ((aZ _ _ _).u (mw _ _)))
def Qi(a:ae):aX a (gK t a):=by
 unfold gK;simp only;generalize g:aR t 2 (af t 2 [101,110,117,109] a)=b;have d:aX a b.2:=by rw[<-g];exact(aZ _ _ _).u (oE _ _)
 generalize f:da t 13 [] ([101,110,117,109,32]++b.1.text++[32,123,32]) (af t 4 [123] b.2)=c;have e:aX a c.2.2.2:=by rw[<-f];exact d.u ((aZ _ _ _).u (yr _ _ _ _))
 split
 .omega
 .exact e.u ((aZ _ _ _).u ((aZ _ _ _).u ((fw _ _).u ((rs _ _ _).u (mw _ _)))))
def Qo(a:ae):aX a (gA t a):=by
 unfold gA;exact(aZ _ _ _).u ((oE _ _).u ((aZ _ _ _).u ((yt _ _ _ _ _).u ((aZ _ _ _).u ((aZ _ _ _).u ((fw _ _).u ((rs _ _ _).u (mw _ _))))))))
def Qq(a:ae):aX a (gm t a):=by
 unfold gm;exact(aZ _ _ _).u ((oE _ _).u ((aZ _ _ _).u ((aZ _ _ _).u ((CV _).u ((rt _).u ((aZ _ _ _).u ((aZ _ _ _).u ((yu _ _ _ _ _ _ _).u ((CP _ _).u ((aZ _ _ _).u ((aZ _ _ _).u ((fw _ _).u ((rs _ _ _).u (mw _ _))))))))))))))
def Qm(a:ae):aX (aD a.O.length 4 a) (gg t a):=by
 unfold gg;simp only;generalize g:aR t 2 (af t 2 [112,114,111,103,114,97,109] (aD a.O.length 4 a))=b;have c:aX (aD a.O.length 4 a) b.2:=by rw[<-g];exact(aZ _ _ _).u (oE _ _)
 generalize f:ec t 6 [] [] [] ([112,114,111,103,114,97,109,32]++b.1.text++[32,123,32]) (af t 4 [123] b.2)=v;have d:aX (aD a.O.length 4 a) (af t 4 [125] v.2):=by rw[<-f];exact c.u ((aZ _ _ _).u ((yv _ _ _ _ _ _).u (aZ _ _ _)))
 have e:=d.u (mv (t:=t) (af t 4 [125] v.2).O _);exact e.u (rq rfl)
def kG(a:ae):Nat:=a.av.toNat+a.L.toNat+a.O.length
def GU(b:(bV t a).s.e=0)(l:a.s.e=0)(m:0<=a.av/\0<=a.L)(o:a.s.x.C≠5):kG a+1<=kG (bV t a):=by
 unfold bV at *
 split at b
 .rename_i g;rw[Y9 g];obtain⟨d,f⟩:=FZ b;have:=f.t;have:=f.p;unfold kG;omega
 .rename_i g;rw[Y2 g];split at b
  .rename_i h;rw[Y9 h];obtain⟨d,f⟩:=Gh (t:=t) a;have:=d.c;have:=d.t;unfold kG;omega
  .rename_i h;rw[Y2 h];split at b
   .grind [dj,jQ,ma,hk]
   .rename_i k;rw[Y2 k];simp only at b ⊢;have n:=(cD a.L 24 a).iZ;have v:∀j:ae,dM { aD a.L 24 a with L:=(aD a.L 24 a).L+1 } j->kG a+1<=kG j:=by
     intro j i;have q:=i.c;have r:=i.t;have u:=i.p;grind [kG]
    grind [Gk,Gb,Gi,Gm]
end
section
variable {t : Zb} {a b c : ae}
def ic:ae:=⟨⟨cp,0,0⟩,[],[],[],[],0,0,[]⟩
def qX:PV:=⟨.slice none 0 0,.slice none 0 0,.slice none 0 0,.slice none 0 0,[]⟩
def Nm{X:Nat->Prop}(b:Zw)(c:∀a,X a->a<b.heap.size)(e:t.length<=2000):bk X b.heap.size t 0 ic qX (b.alloc (lC t ic.s (pf qX ic))):=by
 refine⟨aS rfl,⟨rfl,Y8 ⟨rfl,rfl⟩⟩,⟨rfl,Y8 ⟨rfl,rfl⟩⟩,⟨rfl,Y8 ⟨rfl,rfl⟩⟩,⟨rfl,Y8 ⟨rfl,rfl⟩⟩,rfl,?_,?_,?_,?_,?_,YV _,by simp[ic,cp],e,by simp[ic,ae.sz],by simp[ic]⟩
 .grind [ic]
 .constructor<;>simp[qX,Value.ownBlock]
 .grind [PV.a8,qX]
 .grind [PV.b1,qX,Value.ownBlock,PV.a8]
 .intro a d;have:=c a d;simp;omega
end
section
variable {t : Zb} {a b c : ae}
def Ln(e:bT a)(c:bg):bT (cm c a):=by
 intro b g f;obtain⟨d,h⟩:=e b g f;refine⟨d,?_⟩;show b.n<((a.w++[c]).length:Int);grind
theorem xD(b:bT a)(c:Zb):bT (er c a):=b
theorem Br(f:bT a)(h:Nat)(e c:Int)(g:e=1->0<=c/\c<a.w.length):bT (gz a h e c):=by
 intro i b d;unfold gz at b;simp only at b;rcases List.mem_or_eq_of_mem_set b with b|rfl
 .exact f i b d
 .exact g d
theorem Bq(b:bT a)(d:Zb)(c:Int):bT (du d c a):=by
 unfold du;simp only;split
 .exact Br b _ 0 c (by simp)
 .exact b
def Lq(d:bT a)(c:Zb)(b:Int)(e:0<=b/\b<a.w.length):bT (dq c b a):=by
 grind [dq,Br]
def Li(c:bT a):bT (fT t a):=by
 unfold fT;simp only;generalize e:aR t 2 (af t 2 [99,111,110,115,116] (aD a.av 40 a))=b;have d:bT b.2:=by rw[<-e];exact pz (en c ((cD _ _ _).u (az _ _ _)).aa) 2 (by decide)
 generalize f:bn t (-2147483648) 4294967295 (af t 4 [61] b.2)=v;have g:bT (af t 4 [59] v.2):=by rw[<-f];exact en d ((az _ _ _).u ((fZ _ _ _).u (az _ _ _))).aa
 grind [xD,Bq]
def xC(e:bT a)(d:Zb)(b:bg)(c:Zb):bT (er c (dq d a.w.length (cm b a))):=by
 refine xD (Lq (Ln e b) d _ ⟨by omega,?_⟩) c;show ((a.w.length:Nat):Int)<((a.w++[b]).length:Int);grind
def Lp:∀(c:Nat) (e:List Int) (d:Zc) (f:Zb) (a:ae),bT a->bT (dv t c e d f a).2.2:=by
 intro c;induction c with
 |zero=>intro e d f a b;exact b
 |succ c h=>
  intro e d f a b;unfold dv;split
  .exact b
  .simp only;have g:bT (af t 4 [59] (ch t d false (aD e.length 12 a)).2):=en b ((cD _ _ _).aa.u ((kJ _ _ _).u (az _ _ _).aa));grind
theorem Lo(b:bT a):bT (gA t a):=by
 unfold gA;simp only;generalize d:aR t 2 (af t 2 [115,116,114,117,99,116] a)=e;have c:bT e.2:=by rw[<-d];exact pz (en b (az _ _ _).aa) 2 (by decide)
 exact xC (en (Lp _ _ _ _ _ (en c (az _ _ _).aa)) ((az _ _ _).u (az _ _ _)).aa) _ _ _
def Ll:∀(d:Nat) (b:List Int) (g:Zb) (a:ae),bT a->bT (da t d b g a).2.2.2:=by
 intro d;induction d with
 |zero=>intro b g a c;exact c
 |succ d o=>
  intro b g a c;unfold da;split
  .exact c
  .simp only;generalize m:aR t 2 (aD (aD b.length 12 a).av 40 (aD b.length 12 a))=f;have h:bT f.2:=by rw[<-m];exact pz (en c ((cD _ _ _).u (cD _ _ _)).aa) 2 (by decide)
   generalize n:bn t (-2147483648) 2147483647 (af t 4 [61] f.2)=v;have i:bT v.2:=by rw[<-n];exact en h ((az _ _ _).u (fZ _ _ _)).aa
   generalize l:(if v.2.s.e=0/\b.contains v.1.1=true then bL 6 v.1.2 v.2 else v.2)=p
   have j:bT p:=by rw[<-l];exact en i (jv _ _ _ _).aa
   split
   .omega
   .have k:=Bq j f.1.text v.1.1;split
    .exact o _ _ _ (en k (eu _).aa)
    omega
theorem Lk(d:bT a):bT (gK t a):=by
 unfold gK;simp only;generalize h:aR t 2 (af t 2 [101,110,117,109] a)=b;have e:bT b.2:=by rw[<-h];exact pz (en d (az _ _ _).aa) 2 (by decide)
 generalize g:da t 13 [] ([101,110,117,109,32]++b.1.text++[32,123,32]) (af t 4 [123] b.2)=c;have f:bT c.2.2.2:=by rw[<-g];exact Ll _ _ _ _ (en e (az _ _ _).aa)
 split
 .omega
 .exact xC (en f ((az _ _ _).u (az _ _ _)).aa) _ _ _
theorem Lt(of:Int):∀(d:Nat) (b g:List Int) (e:Zc) (f:Zb) (a:ae),bT a->bT (dH t of d b g e f a).2:=by
 intro d;induction d with
 |zero=>intro b g e f a c;exact c
 |succ d i=>
  intro b g e f a c;unfold dH;split
  .exact c
  .simp only;have h:bT (cM t e (cy t of (14-b.length) b [] a).2).2:=en c ((mU (t:=t) of _ b [] a).1.aa.u (mg _ _));grind
def sf(b:Zc)(a:ae):cC a (gJ t b a).2:=by
 unfold gJ;split
 .exact((eu _).u (az _ _ _)).aa.u (mg _ _)
 .exact nG a
theorem Ls(e:bT a):bT (gm t a):=by
 unfold gm;simp only;generalize j:aR t 2 (af t 2 [117,110,105,111,110] a)=d;have f:bT d.2:=by rw[<-j];exact pz (en e (az _ _ _).aa) 2 (by decide)
 generalize i:bZ t (af t 4 [40] (af t 2 [115,119,105,116,99,104] d.2))=b;have g:bT b.2:=by rw[<-i];exact en f (((az _ _ _).u (az _ _ _)).u (oC _)).aa
 have l:bT (af t 4 [123] (af t 4 [41] (cV t b.2).2)):=en g ((ki _).u ((az _ _ _).u (az _ _ _))).aa;generalize cV t b.2=c at *
 generalize m:dH t b.1.1 14 [] [] [c.1.text] ([117,110,105,111,110,32]++d.1.text++[32,115,119,105,116,99,104,32,40]++b.1.2++[32]++c.1.text++[41,32,123,32]) (af t 4 [123] (af t 4 [41] c.2))=k;have h:bT k.2:=by grind [Lt]
 exact xC (en h ((sf _ _).u ((az _ _ _).u (az _ _ _)).aa)) _ _ _
def Lm(d:bT a):bT (gg t a):=by
 unfold gg;simp only;generalize i:aR t 2 (af t 2 [112,114,111,103,114,97,109] (aD a.O.length 4 a))=c;have b:bT c.2:=by rw[<-i];exact pz (en d ((cD _ _ _).u (az _ _ _)).aa) 2 (by decide)
 generalize h:ec t 6 [] [] [] ([112,114,111,103,114,97,109,32]++c.1.text++[32,123,32]) (af t 4 [123] c.2)=v;have e:bT v.2:=by rw[<-h];exact en b ((az _ _ _).aa.u (sh _ _ _ _ _ _))
 have f:bT (bS t (af t 4 [125] v.2).O (af t 4 [125] v.2)).2:=en e ((az (t:=t) 4 [125] v.2).aa.u (mh (t:=t) (af t 4 [125] v.2).O _));exact λj g b=>f j g b
end
section
variable {t : Zb} {σ a b : ae}
def oT(σ:ae)(a:Int):Prop:=0<=a/\a<σ.w.length
theorem cC.a2(b:cC σ a):σ.w.length<=a.w.length:=by
 grind [w]
def oT.aa{c:Int}(b:oT σ c)(d:cC σ a):oT a c:=⟨b.1,by have:=d.a2;have:=b.2;omega⟩
theorem sV(a:bg):oT (cm a σ) σ.w.length:=⟨by omega,by show ((σ.w.length:Nat):Int)<((σ.w++[a]).length:Int);grind⟩
def Jt(f:5<=σ.w.length):oT (cq t σ).2 (cq t σ).1.1:=by
 have b:∀(a:ae) (c:Int),cC σ a->0<=c->c<=4->oT a c:=λa c e d g=>⟨d,by have:=e.a2;omega⟩;unfold cq;split
 .grind [nG]
 .split
  .exact sV _
  .split
   .exact b _ _ (eu σ).aa (by simp) (by simp)
   .split
    .exact b _ _ (eu σ).aa (by simp) (by simp)
    .split
     .exact b _ _ (eu σ).aa (by simp) (by simp)
     .split
      .unfold iC;split
       .exact b _ _ ((eu σ).u (eu _)).aa (by simp) (by simp)
       .split
        .exact b _ _ ((eu σ).u (eu _)).aa (by simp) (by simp)
        .exact b _ _ (eu σ).aa (by simp) (by simp)
      .exact b _ _ (ta σ).aa (by simp) (by simp)
def GM(b:5<=σ.w.length)(a:Zc)(all:Bool):oT (ch t a all σ).2 (ch t a all σ).1.r:=by
 unfold ch;split
 .grind [gu,sV]
 .unfold gr;simp only;have c:=Jt (t:=t) b;split
  .exact sV _
  .split
   .exact sV _
   .split
    .exact sV _
    .exact c.aa (hb _ _ _).aa
theorem Lr(c:bT σ)(e:5<=σ.w.length):bT (gj t σ):=by
 unfold gj;simp only;have f:=GM (t:=t) (σ:=af t 2 [116,121,112,101,100,101,102] σ) e [] true;have d:bT (ch t [] true (af t 2 [116,121,112,101,100,101,102] σ)).2:=en c ((az _ _ _).aa.u (kJ _ _ _));generalize ch t [] true (af t 2 [116,121,112,101,100,101,102] σ)=a at *
 split
 .omega
 .refine xD (en (σ:={ a.2 with A:=a.2.A++[⟨a.1.x.text,1,a.1.r,a.1.x.m⟩] }) ?_ (az _ _ _).aa) _;intro h b g;simp only[Yn,Yc]at b;rcases b with b|rfl
  .exact d h b g
  .exact f
def Lj(a:bT σ)(c:5<=σ.w.length):bT (bV t σ):=by
 have b:bT { aD σ.L 24 σ with L:=(aD σ.L 24 σ).L+1 }:=sG (en a (cD σ.L 24 σ).aa) _;have d:5<=({ aD σ.L 24 σ with L:=(aD σ.L 24 σ).L+1 }:ae).w.length:=by
  show 5<=(aD σ.L 24 σ).w.length;rw[(cD σ.L 24 σ).w];omega
 unfold bV;split
 .exact Li a
 .split
  .exact Lm a
  .split
   .exact en a (ta σ).aa
   grind [Lr,Lk,Lo,Ls]
end
section
variable {t : Zb} {a σ' b : ae}
structure Rn(a:ae):Prop where
 gt:5<=a.w.length
 ck:∀r∈a.w,r.bD.length<=1000/\r.cg.length<=1000
def Rn.aa(c:Rn a)(e:cC a σ'):Rn σ':=by
 obtain⟨h,d,g⟩:=e.w;refine⟨by grind [gt],?_⟩;intro f b;rw[d]at b;rcases Yn.1 b with b|b
 .exact c.ck f b
 simp_all
def Rn.of(b:Rn a)(c:σ'.w=a.w):Rn σ':=⟨by rw[c];exact b.gt,by rw[c];exact b.ck⟩
def sU(c:Rn a)(b:Int):Rn (aR t b a).2:=c.of (mr b a)
def ya(e:Rn a)(b:bg)(f:b.bD.length<=1000/\b.cg.length<=1000):Rn (cm b a):=by
 refine⟨by show 5<=(a.w++[b]).length;grind [Rn.gt],?_⟩;intro d c;rcases Yn.1 (show d∈a.w++[b]from c)with c|c
 .exact e.ck d c
 simp_all
theorem Oj(b:Rn a)(d:Zb)(c:Int):Rn (du d c a):=by
 unfold du gz;split<;>exact⟨b.gt,b.ck⟩
def yb(b:Rn a)(d:Zb)(c:Int):Rn (dq d c a):=by
 unfold dq gz;split
 .exact⟨b.gt,b.ck⟩
 omega
theorem vm(b:Rn a)(c:Zb):Rn (er c a):=⟨b.gt,b.ck⟩
theorem Of(b:Rn a):Rn (fT t a):=by
 unfold fT;simp only;have c:Rn (aR t 2 (af t 2 [99,111,110,115,116] (aD a.av 40 a))).2:=sU (b.aa ((cD _ _ _).u (az _ _ _)).aa) 2;generalize aR t 2 (af t 2 [99,111,110,115,116] (aD a.av 40 a))=d at *
 have e:Rn (af t 4 [59] (bn t (-2147483648) 4294967295 (af t 4 [61] d.2)).2):=c.aa ((az _ _ _).u ((fZ _ _ _).u (az _ _ _))).aa;grind [vm,Oj]
def On(c:Rn a):Rn (gj t a):=by
 unfold gj;simp only;have b:Rn (ch t [] true (af t 2 [116,121,112,101,100,101,102] a)).2:=c.aa ((az _ _ _).aa.u (kJ _ _ _));generalize ch t [] true (af t 2 [116,121,112,101,100,101,102] a)=d at *
 split
 .omega
 .exact⟨b.gt,b.ck⟩
theorem Ok(d:Rn a):Rn (gg t a):=by
 unfold gg;simp only;have e:Rn (aR t 2 (af t 2 [112,114,111,103,114,97,109] (aD a.O.length 4 a))).2:=sU (d.aa ((cD _ _ _).u (az _ _ _)).aa) 2;generalize aR t 2 (af t 2 [112,114,111,103,114,97,109] (aD a.O.length 4 a))=c at *
 generalize g:ec t 6 [] [] [] ([112,114,111,103,114,97,109,32]++c.1.text++[32,123,32]) (af t 4 [123] c.2)=v;have f:Rn v.2:=by rw[<-g];exact e.aa ((az _ _ _).aa.u (sh _ _ _ _ _ _))
 have b:Rn (bS t (af t 4 [125] v.2).O (af t 4 [125] v.2)).2:=f.aa ((az (t:=t) 4 [125] v.2).aa.u (mh (t:=t) (af t 4 [125] v.2).O _));exact⟨b.gt,b.ck⟩
def Qv:∀(b:Nat) (c:List Int) (d:Zc) (e:Zb) (a:ae),(dv t b c d e a).1.length<=c.length+b:=by
 intro b;induction b with
 |zero=>intro c d e a;exact Y4 _
 |succ b f=>
  grind [dv,List.length_singleton]
def Om:∀(c:Nat) (e:List Int) (d:Zc) (f:Zb) (a:ae),Rn a->Rn (dv t c e d f a).2.2:=by
 intro c;induction c with
 |zero=>intro e d f a b;exact b
 |succ c h=>
  intro e d f a b;unfold dv;split
  .exact b
  .simp only;have g:Rn (af t 4 [59] (ch t d false (aD e.length 12 a)).2):=b.aa ((cD _ _ _).aa.u ((kJ _ _ _).u (az _ _ _).aa));grind
def Ol(c:Rn a):Rn (gA t a):=by
 unfold gA;simp only;have d:Rn (aR t 2 (af t 2 [115,116,114,117,99,116] a)).2:=sU (c.aa (az _ _ _).aa) 2;generalize aR t 2 (af t 2 [115,116,114,117,99,116] a)=b at *
 have g:=Qv (t:=t) 14 [] [] ([115,116,114,117,99,116,32]++b.1.text++[32,123,32]) (af t 4 [123] b.2);have e:=Om (t:=t) 14 [] [] ([115,116,114,117,99,116,32]++b.1.text++[32,123,32]) (af t 4 [123] b.2) (d.aa (az _ _ _).aa);generalize dv t 14 [] [] ([115,116,114,117,99,116,32]++b.1.text++[32,123,32]) (af t 4 [123] b.2)=f at *
 refine vm (yb (ya (e.aa ((az _ _ _).u (az _ _ _)).aa) _ ⟨by simp,?_⟩) _ _) _;grind
end
end Go.Proofs.YtjdhaegijjednaaGreatDoor
namespace Go.Proofs.YtjdhaegijjednaaGreatDoor
open Go.RowKit
open Go.MapKept
open Go.Proofs.Tryz
section
variable {g e:Nat}{a:gQ}{f:Zo}{b:aO}{n:Zb}{c:Zw}{d:Type}
def RH{a:eR d}(s:hi a)(z:∀n∈cu b.H,a.ok n)(w:dg f e (.typedef b))(r:∀{g:d} {l:Zw},a.J g l->∀k∈f,l.heap[k.1]? = some k.2){g:d}(i:a.J g c) :
  Calls prog 337 #[Zp e,a.v] c (fy a c (be a (cu b.H) g)):=by
 obtain⟨H,I,B,_⟩:=dJ (r i _ w);obtain⟨D,K,j⟩:=dG b.H;have G:=pE b.H j;have F:=pA b.H;rw[j]at B;have m:=Z (sI s b.H z i);go_in;go_wp2_with fail;refine m.j.mono ?_;rintro E L (⟨C,h,rfl,x,A⟩|⟨q,h,y,p,t,rfl,u⟩);rotate_left
 .exact aC (Ya ⟨q,h,y,p,t,rfl,u⟩)
 have o:=Z h;go_wp2;go_end0;exact Y8 ⟨C,o.j,rfl,x,A⟩
def RO{h:eR d}(I:hi h){d0:aO}(c3:∀n∈a.flatMap λb=>cu b.2.H,h.ok n)(b3:dg f e (.union n g d0 a))(H:∀{k:d} {o:Zw},h.J k o->∀L∈f,o.heap[L.1]? = some L.2){k:d}(C:h.J k c) :
  Calls prog 348 #[Zp e,h.v] c (fy h c (be h (a.flatMap λb=>cu b.2.H) k)):=by
 have a1:=Z c3;obtain⟨e6,t,b0,d3,c5,b4⟩:=b3;obtain⟨_,e2,_⟩:=nZ (H C _ b0);rcases c5 with⟨rfl,a9,_⟩|⟨s,a6,a7,rfl,⟨d2,e0⟩,b6,x⟩
 .have c2:a=[]:=Yv.1 a9;subst c2;have z:=Z C;go_in;go_wp2;go_loopw [11] (λi y=>i=U 0/\y=c) (λ_ _=>0)
  case atStart=>simp
  case round=>
   obtain⟨rfl,rfl⟩:=hrel;go_wp2;go_end0;exact Y8 ⟨k,rfl,rfl,z.j,ak _ _⟩
 .have c4:∀(o:Zw) (m:d),h.J m o->∀i (J:i<a.length),∃p r q,o.cell? ⟨s,i*4,none⟩=some (.slice p r q)/\o.cell? ⟨s,i*4+1,none⟩=some (.string ⟨a[i].2.t.toArray⟩)/\o.cell? ⟨s,i*4+2,none⟩=some (U a[i].2.m)/\o.cell? ⟨s,i*4+3,none⟩=some (bj a[i].2.H):=by
   intro o m c6 i J;have w:=H c6 _ b6;have b7:i<t.length:=by omega
   have u:=iS (c:=jl) (n:=4) (λ_=>rfl) (a.zip t) i;have l:i<(a.zip t).length:=by grind
   obtain⟨p,r,q,d4⟩:∃g e F,t[i]=Value.slice g e F:=by rcases b4 i J b7 with⟨B,_⟩|⟨s,a6,a7,B,_⟩<;>exact⟨_,_,_,B⟩
   refine⟨p,r,q,bJ w x ?_,bJ w x ?_,bJ w x ?_,bJ w x ?_⟩
   .have:=u 0 l (by omega);grind
   .have:=u 1 l (by omega);simpa using this
   .have:=u 2 l (by omega);simpa using this
   .have:=u 3 l (by omega);simpa using this
  have a2:=Z c4;have z:=Z C;go_in;go_wp2;go_loopw [11] (λi y=>∃(j:Nat) (m:d),i=U j/\j<=a.length/\ac (h.J m y)/\am h.M c y/\ac (be h (a.flatMap λb=>cu b.2.H) k=be h ((a.drop j).flatMap λb=>cu b.2.H) m)) (λi _=>a.length-(intOf i).toNat)
  case atStart=>exact⟨0,k,rfl,by omega,z,ak _ _,rfl⟩
  case round=>
   obtain⟨j,m,rfl,d9,A,l,P⟩:=hrel;rcases Yj j a.length with K|d6
   .obtain⟨p,r,q,e3,e4,e5,c9⟩:=a2.j _ _ A.j j K;obtain⟨a4,d1,G⟩:=dG a[j].2.H;have e1:=pE a[j].2.H G;have d5:=pA a[j].2.H;rw[G]at c9;have d7:(0:Int)<=↑j:=by omega
    have d8:(↑j:Int) < ↑a.length:=by omega
    have E:ac (be h (a.flatMap λb=>cu b.2.H) k=be h (cu a[j].2.H++(a.drop (j+1)).flatMap λb=>cu b.2.H) m):=by
     grind [List.drop_eq_getElem_cons]
    have a0:=Z (sI I a[j].2.H (λn c1=>a1.j n (List.mem_flatMap.2 ⟨a[j],Yy K,c1⟩)) (I.c0 A.j ((Below.refl _ _).alloc (Y4 _) (.cells #[.slice p r q,.string ⟨a[j].2.t.toArray⟩,U a[j].2.m,.iface a4 d1] 363))))
    go_wp2_with fail;refine a0.j.mono ?_;rintro B O (⟨N,D,rfl,b8,c7⟩|⟨a8,D,b9,a5,b1,rfl,b2⟩);rotate_left
    .exact(show bodyPost prog Tryz.f348 (fy h c (be h (a.flatMap λb=>cu b.2.H) k)) (Exit.panic _) _ O from aC (Ya ⟨a8,E.j.trans (pQ D),(l.B _).u b9,a5,by have:=l.ar;simp at b1;omega,rfl,b2⟩))
    have a3:=Z b8;have R:ac (be h (a.flatMap λb=>cu b.2.H) k=be h ((a.drop (j+1)).flatMap λb=>cu b.2.H) N):=E.j.trans (pR D);have c8:am h.M c O:=(l.B _).u c7;go_wp2;exact⟨⟨j+1,N,by rfl,by omega,a3,c8,R⟩,by simp[intOf];omega⟩
   .have c0:j=a.length:=by omega
    subst c0;have b5:be h (a.flatMap λb=>cu b.2.H) k=.ok m:=by
     refine P.j.trans ?_;rw[List.drop_length];rfl
    have S:=Z b5;go_wp2;go_end0;exact Y8 ⟨m,S.j,rfl,A.j,l⟩
def RG{a:eR d}(s:hi a)(z:∀n∈cH b.H,a.ok n)(w:dg f e (.typedef b))(r:∀{g:d} {l:Zw},a.J g l->∀k∈f,l.heap[k.1]? = some k.2){g:d}(i:a.J g c) :
  Calls prog 336 #[Zp e,a.v] c (fy a c (be a (cH b.H) g)):=by
 obtain⟨H,I,B,_⟩:=dJ (r i _ w);obtain⟨D,K,j⟩:=dG b.H;have G:=uq b.H j;have F:=uo b.H;rw[j]at B;have m:=Z (xm s b.H z i);go_in;go_wp2_with fail;refine m.j.mono ?_;rintro E L (⟨C,h,rfl,x,A⟩|⟨q,h,y,p,t,rfl,u⟩);rotate_left
 .exact aC (Ya ⟨q,h,y,p,t,rfl,u⟩)
 have o:=Z h;go_wp2;go_end0;exact Y8 ⟨C,o.j,rfl,x,A⟩
def RN{h:eR d}(I:hi h){d0:aO}(c3:∀n∈a.flatMap λb=>cH b.2.H,h.ok n)(b3:dg f e (.union n g d0 a))(H:∀{k:d} {o:Zw},h.J k o->∀L∈f,o.heap[L.1]? = some L.2){k:d}(C:h.J k c) :
  Calls prog 347 #[Zp e,h.v] c (fy h c (be h (a.flatMap λb=>cH b.2.H) k)):=by
 have a1:=Z c3;obtain⟨e6,t,b0,d3,c5,b4⟩:=b3;obtain⟨_,e2,_⟩:=nZ (H C _ b0);rcases c5 with⟨rfl,a9,_⟩|⟨s,a6,a7,rfl,⟨d2,e0⟩,b6,x⟩
 .have c2:a=[]:=Yv.1 a9;subst c2;have z:=Z C;go_in;go_wp2;go_loopw [11] (λi y=>i=U 0/\y=c) (λ_ _=>0)
  case atStart=>simp
  case round=>
   obtain⟨rfl,rfl⟩:=hrel;go_wp2;go_end0;exact Y8 ⟨k,rfl,rfl,z.j,ak _ _⟩
 .have c4:∀(o:Zw) (m:d),h.J m o->∀i (J:i<a.length),∃p r q,o.cell? ⟨s,i*4,none⟩=some (.slice p r q)/\o.cell? ⟨s,i*4+1,none⟩=some (.string ⟨a[i].2.t.toArray⟩)/\o.cell? ⟨s,i*4+2,none⟩=some (U a[i].2.m)/\o.cell? ⟨s,i*4+3,none⟩=some (bj a[i].2.H):=by
   intro o m c6 i J;have w:=H c6 _ b6;have b7:i<t.length:=by omega
   have u:=iS (c:=jl) (n:=4) (λ_=>rfl) (a.zip t) i;have l:i<(a.zip t).length:=by grind
   obtain⟨p,r,q,d4⟩:∃g e F,t[i]=Value.slice g e F:=by rcases b4 i J b7 with⟨B,_⟩|⟨s,a6,a7,B,_⟩<;>exact⟨_,_,_,B⟩
   refine⟨p,r,q,bJ w x ?_,bJ w x ?_,bJ w x ?_,bJ w x ?_⟩
   .have:=u 0 l (by omega);grind
   .have:=u 1 l (by omega);simpa using this
   .have:=u 2 l (by omega);simpa using this
   .have:=u 3 l (by omega);simpa using this
  have a2:=Z c4;have z:=Z C;go_in;go_wp2;go_loopw [11] (λi y=>∃(j:Nat) (m:d),i=U j/\j<=a.length/\ac (h.J m y)/\am h.M c y/\ac (be h (a.flatMap λb=>cH b.2.H) k=be h ((a.drop j).flatMap λb=>cH b.2.H) m)) (λi _=>a.length-(intOf i).toNat)
  case atStart=>exact⟨0,k,rfl,by omega,z,ak _ _,rfl⟩
  case round=>
   obtain⟨j,m,rfl,d9,A,l,P⟩:=hrel;rcases Yj j a.length with K|d6
   .obtain⟨p,r,q,e3,e4,e5,c9⟩:=a2.j _ _ A.j j K;obtain⟨a4,d1,G⟩:=dG a[j].2.H;have e1:=uq a[j].2.H G;have d5:=uo a[j].2.H;rw[G]at c9;have d7:(0:Int)<=↑j:=by omega
    have d8:(↑j:Int) < ↑a.length:=by omega
    have E:ac (be h (a.flatMap λb=>cH b.2.H) k=be h (cH a[j].2.H++(a.drop (j+1)).flatMap λb=>cH b.2.H) m):=by
     grind [List.drop_eq_getElem_cons]
    have a0:=Z (xm I a[j].2.H (λn c1=>a1.j n (List.mem_flatMap.2 ⟨a[j],Yy K,c1⟩)) (I.c0 A.j ((Below.refl _ _).alloc (Y4 _) (.cells #[.slice p r q,.string ⟨a[j].2.t.toArray⟩,U a[j].2.m,.iface a4 d1] 363))))
    go_wp2_with fail;refine a0.j.mono ?_;rintro B O (⟨N,D,rfl,b8,c7⟩|⟨a8,D,b9,a5,b1,rfl,b2⟩);rotate_left
    .exact(show bodyPost prog Tryz.f347 (fy h c (be h (a.flatMap λb=>cH b.2.H) k)) (Exit.panic _) _ O from aC (Ya ⟨a8,E.j.trans (pQ D),(l.B _).u b9,a5,by have:=l.ar;simp at b1;omega,rfl,b2⟩))
    have a3:=Z b8;have R:ac (be h (a.flatMap λb=>cH b.2.H) k=be h ((a.drop (j+1)).flatMap λb=>cH b.2.H) N):=E.j.trans (pR D);have c8:am h.M c O:=(l.B _).u c7;go_wp2;exact⟨⟨j+1,N,by rfl,by omega,a3,c8,R⟩,by simp[intOf];omega⟩
   .have c0:j=a.length:=by omega
    subst c0;have b5:be h (a.flatMap λb=>cH b.2.H) k=.ok m:=by
     refine P.j.trans ?_;rw[List.drop_length];rfl
    have S:=Z b5;go_wp2;go_end0;exact Y8 ⟨m,S.j,rfl,A.j,l⟩
end
def lB(a:dN):List (Zb×Nat):=cu a.c2++cu a.cF
def eW(v:eg):List (Zb×Nat):=v.ag.flatMap lB
def Nc{q:Type}{e:eR q}(r:hi e){b1:Zo}{b0 d5:Nat}{n:Zb}{a:List eg}{g3:Int}(f5:∀n∈a.flatMap eW,e.ok n)(e3:dg b1 b0 (.prog n d5 a g3))(K:∀{g:q} {h:Zw},e.J g h->∀b9∈b1,h.heap[b9.1]? = some b9.2){g:q}{m:Zw}(J:e.J g m) :
  Calls prog 352 #[Zp b0,e.v] m (fy e m (be e (a.flatMap eW) g)):=by
 have a7:=Z f5;obtain⟨j5,u,d9,e2,g0,e4⟩:=e3;obtain⟨_,_,i7,_⟩:=jS (K J _ d9);rcases g0 with⟨rfl,d7,_⟩|⟨A,g9,h0,rfl,⟨h2,i3⟩,e6,C⟩
 .have b6:a=[]:=Yv.1 d7;subst b6;have E:=Z J;go_in;go_wp2;go_loopw [13] (λf t=>f=U 0/\t=m) (λ_ _=>0)
  case atStart=>simp
  case round=>
   obtain⟨rfl,rfl⟩:=hrel;go_wp2;go_end0;exact Y8 ⟨g,rfl,rfl,E.j,ak _ _⟩
 .have f7:∀(h:Zw) (i:q),e.J i h->∀f (e8:f<a.length) (e9:f<u.length),h.cell? ⟨A,f*4,none⟩=some (.string ⟨a[f].t.toArray⟩)/\h.cell? ⟨A,f*4+1,none⟩=some (U a[f].m)/\h.cell? ⟨A,f*4+2,none⟩=some u[f]/\h.cell? ⟨A,f*4+3,none⟩=some (U a[f].num):=by
   intro h i P f e8 e9;have k:=K P _ e6;have j:=iS (c:=mB) (n:=4) (λ_=>rfl) (a.zip u) f;have l:f<(a.zip u).length:=by grind
   refine⟨bJ k C ?_,bJ k C ?_,bJ k C ?_,bJ k C ?_⟩
   .exact(j 0 l (by omega)).trans (by simp)
   .exact(j 1 l (by omega)).trans (by simp)
   .exact(j 2 l (by omega)).trans (by simp)
   .exact(j 3 l (by omega)).trans (by simp)
  have d2:=Z f7;have c8:=Z e4;have c7:=Z e2;have E:=Z J;go_in;go_wp2;go_loopw [13] (λf t=>∃(b:Nat) (i:q),f=U b/\b<=a.length/\ac (e.J i t)/\am e.M m t/\ac (be e (a.flatMap eW) g=be e ((a.drop b).flatMap eW) i)) (λf _=>a.length-(intOf f).toNat)
  case atStart=>exact⟨0,g,rfl,by omega,E,ak _ _,rfl⟩
  case round=>
   obtain⟨b,i,rfl,i2,y,l,a3⟩:=hrel;rcases Yj b a.length with w|h6
   .have b5:b<u.length:=by have:=c7.j;omega
    obtain⟨j1,j2,c0,j3⟩:=d2.j _ _ y.j b w b5;have h8:(0:Int)<=↑b:=by omega
    have h9:(↑b:Int) < ↑a.length:=by omega
    have c6:ac (be e (a.flatMap eW) g=be e ((a[b].ag.drop 0).flatMap lB++(a.drop (b+1)).flatMap eW) i):=by
     refine a3.j.trans ?_;rw[Yk w,YD,List.drop_zero];rfl
    have f9:=c8.j b w b5;rcases f9 with⟨H,d8,_⟩|⟨o,b2,h1,H,⟨h3,i4⟩,e7,x⟩
    .rw[H]at c0;have b6:a[b].ag=[]:=Yv.1 d8;have F:=Z (r.c0 y.j ((Below.refl _ _).alloc (Y4 _) (.cells #[.string ⟨a[b].t.toArray⟩,U a[b].m,.slice none 0 0,U a[b].num] 367)));have a0:=l.B (.cells #[.string ⟨a[b].t.toArray⟩,U a[b].m,.slice none 0 0,U a[b].num] 367);have D:ac (be e (a.flatMap eW) g=be e ((a.drop (b+1)).flatMap eW) i):=by
      grind
     go_wp2;go_loopw [20] (λf t=>f=U 0/\t=wr.alloc (.cells #[.string ⟨a[b].t.toArray⟩,U a[b].m,.slice none 0 0,U a[b].num] 367)) (λ_ _=>0)
     case atStart=>simp
     case round=>
      obtain⟨rfl,rfl⟩:=hrel;go_wp2;exact⟨⟨b+1,i,by rfl,by omega,F,a0,D⟩,by simp[intOf];omega⟩
    .rw[H]at c0;have f8:∀(h:Zw) (i:q),e.J i h->∀d (p:d<a[b].ag.length),h.cell? ⟨o,d*5,none⟩=some (.string ⟨a[b].ag[d].t.toArray⟩)/\h.cell? ⟨o,d*5+1,none⟩=some (U a[b].ag[d].m)/\h.cell? ⟨o,d*5+2,none⟩=some (bj a[b].ag[d].c2)/\h.cell? ⟨o,d*5+3,none⟩=some (bj a[b].ag[d].cF)/\h.cell? ⟨o,d*5+4,none⟩=some (U a[b].ag[d].num):=by
      intro h i P d p;have k:=K P _ e7;have j:=iS (c:=kT) (n:=5) (λ_=>rfl) a[b].ag d;exact⟨bJ k x ((j 0 p (by omega)).trans (by simp)),bJ k x ((j 1 p (by omega)).trans (by simp)),bJ k x ((j 2 p (by omega)).trans (by simp)),bJ k x ((j 3 p (by omega)).trans (by simp)),bJ k x ((j 4 p (by omega)).trans (by simp))⟩
     have d3:=Z f8;have F:=Z (r.c0 y.j ((Below.refl _ _).alloc (Y4 _) (.cells #[.string ⟨a[b].t.toArray⟩,U a[b].m,.slice (some ⟨o,0,none⟩) a[b].ag.length b2,U a[b].num] 367)));have a0:=l.B (.cells #[.string ⟨a[b].t.toArray⟩,U a[b].m,.slice (some ⟨o,0,none⟩) a[b].ag.length b2,U a[b].num] 367);go_wp2;go_loopw [20] (λf c2=>∃(d:Nat) (s:q),f=U d/\d<=a[b].ag.length/\ac (e.J s c2)/\am e.M m c2/\ac (be e (a.flatMap eW) g=be e ((a[b].ag.drop d).flatMap lB++(a.drop (b+1)).flatMap eW) s)) (λf _=>a[b].ag.length-(intOf f).toNat)
     case atStart=>exact⟨0,i,rfl,by omega,F,a0,c6⟩
     case round=>
      obtain⟨d,s,rfl,p,z,b8,a6⟩:=hrel;rcases Yj d a[b].ag.length with B|h7
      .obtain⟨i8,i9,g4,g5,j0⟩:=d3.j _ _ z.j d B;obtain⟨a8,c3,b3⟩:=dG a[b].ag[d].c2;obtain⟨a9,c4,b4⟩:=dG a[b].ag[d].cF;have i5:=pE a[b].ag[d].c2 b3;have h4:=pA a[b].ag[d].c2;have i6:=pE a[b].ag[d].cF b4;have h5:=pA a[b].ag[d].cF;rw[b3]at g4;rw[b4]at g5;have i0:(0:Int)<=↑d:=by omega
       have i1:(↑d:Int) < ↑a[b].ag.length:=by omega
       have a5:ac (be e (a.flatMap eW) g=be e (cu a[b].ag[d].c2++(cu a[b].ag[d].cF++((a[b].ag.drop (d+1)).flatMap lB++(a.drop (b+1)).flatMap eW))) s):=by
        refine a6.j.trans ?_;rw[Yk B,YD];simp only[lB,YN]
       have d0:=Z (sI r a[b].ag[d].c2 (λn O=>a7.j n (List.mem_flatMap.2 ⟨a[b],Yy w,List.mem_flatMap.2 ⟨a[b].ag[d],Yy B,Yf _ O⟩⟩)) (r.c0 z.j ((Below.refl _ _).alloc (Y4 _) (.cells #[.string ⟨a[b].ag[d].t.toArray⟩,U a[b].ag[d].m,.iface a8 c3,.iface a9 c4,U a[b].ag[d].num] 446))))
       have f6:=r.aY z.j;have a2:=b8.B (.cells #[.string ⟨a[b].ag[d].t.toArray⟩,U a[b].ag[d].m,.iface a8 c3,.iface a9 c4,U a[b].ag[d].num] 446)
       go_wp2_with fail;refine d0.j.mono ?_;rintro d6 g7 (⟨g6,R,rfl,f0,b7⟩|⟨I,R,N,G,e1,rfl,L⟩);rotate_left
       .exact(show bodyPost prog Tryz.f352 (fy e m (be e (a.flatMap eW) g)) (Exit.panic _) _ g7 from aC (Ya ⟨I,a5.j.trans (pQ R),a2.u N,G,by have:=a2.ar;omega,rfl,L⟩))
       have e0:=(b7.G _ (by simp) (λf4=>by have:=f6 _ f4;omega)).trans (aS rfl);obtain⟨_,_,_,j4,_,_⟩:=tT e0;have a4:ac (be e (a.flatMap eW) g=be e (cu a[b].ag[d].cF++((a[b].ag.drop (d+1)).flatMap lB++(a.drop (b+1)).flatMap eW)) g6):=a5.j.trans (pR R);have d1:=Z (sI r a[b].ag[d].cF (λn O=>a7.j n (List.mem_flatMap.2 ⟨a[b],Yy w,List.mem_flatMap.2 ⟨a[b].ag[d],Yy B,Ym _ O⟩⟩)) f0);have a1:=a2.u b7;go_wp2_with fail;refine d1.j.mono ?_;rintro d6 g8 (⟨c1,S,rfl,f1,g1⟩|⟨I,S,N,G,e1,rfl,L⟩);rotate_left
       .exact(show bodyPost prog Tryz.f352 (fy e m (be e (a.flatMap eW) g)) (Exit.panic _) _ g8 from aC (Ya ⟨I,a4.j.trans (pQ S),a1.u N,G,by have:=a1.ar;omega,rfl,L⟩))
       have d4:=Z f1;have c5:ac (be e (a.flatMap eW) g=be e ((a[b].ag.drop (d+1)).flatMap lB++(a.drop (b+1)).flatMap eW) c1):=a4.j.trans (pR S);have g2:=a1.u g1;go_wp2;exact⟨⟨d+1,c1,by rfl,by omega,d4,g2,c5⟩,by simp[intOf];omega⟩
      .have f2:d=a[b].ag.length:=by omega
       subst f2;have D:ac (be e (a.flatMap eW) g=be e ((a.drop (b+1)).flatMap eW) s):=by
        refine a6.j.trans ?_;simp
       go_wp2;exact⟨⟨b+1,s,by rfl,by omega,z,b8,D⟩,by simp[intOf];omega⟩
   .have f3:b=a.length:=by omega
    subst f3;have e5:be e (a.flatMap eW) g=.ok i:=by
     refine a3.j.trans ?_;rw[List.drop_length];rfl
    have c9:=Z e5;go_wp2;go_end0;exact Y8 ⟨i,c9.j,rfl,y.j,l⟩
section
variable {P:Program}{b idx o s st t:Nat}{d:List (Nat × Obj)}{g:Array Zv}{a:aB}{c:Zw}{e:Type}
def zC{e:Nat}{a:TypeId}{f:Nat×Nat}(i:c.heap[b]? = some (.cells g a f))(k:P.cellsOf a=s)(h:s≠0)(j:byteOfCell P P.depth a (o % s)=some e) :
  (byteOf ⟨b,o,none⟩).run P c=.ok (o / s*P.bytesOf a+e) c:=by
 have d:c.shape? b=some (a,g.size):=by simp[World.shape?,i]
 have l:(viewAt b).run P c=.ok none c:=by simp[viewAt,d]
 unfold byteOf;simp[noView,shape,Sem.run,l,d,k,h,j]
def uy{w:Nat}{f h r:Nat}{name:String}{n1 n2:Nat}{d:TypeId}{u:Nat×Nat}(k:c.heap[b]? = some (.cells g d u)){m:TypeInfo}(C:P.info? t=some m){a:Method}(E:m.methods.find? (λa=>a.name==name)=some a)(G:a.path=#[⟨st,idx,true⟩])(A:a.func=some (h,false))
  {i:Array Field} (I:P.underlying st=some (.struct i)) {e:Field} (B:i[idx]? = some e) (H:e.type=f) (F:e.offset=o) (x:e.byteOffset=r) {v:Array Field} (J:P.underlying f=some (.struct v)) {n:TypeInfo} (D:P.info? f=some n) (K:n.size=0)
  (l:P.cellsOf d=s) (j:s≠0) (y:byteOfCell P P.depth d (0 % s)=some n1) (z:byteOfCell P P.depth d (o % s)=some n2) :
  (method (w+1) t (Zp b) name).run P c=.ok (h,.agg #[]) c:=by
 have p:=zC (P:=P) (o:=0) k l j y;have q:=zC (P:=P) (o:=o) k l j z;unfold method;simp only[Sem.run_bind,run_typeInfo _ C,Result.andThen_ok,E,G,A,follow,run_underlying I,B,Place.get,asAddr,fieldPlace,partAt,sizeOf,H,run_typeInfo _ D,Sem.run_pure,if_true,K,F,x,p,q,Nat.zero_add,receiverAt,run_underlying J,loadVar,isAgg]
 rfl
def ug{y:Nat}(e:((P.underlying st).bind λa=>match a with|.struct c=>c[idx]?|_=>none).map (λd=>(d.type,d.offset,d.byteOffset))=some (t,o,y)) :
  ∃c b,P.underlying st=some (.struct c)/\c[idx]? = some b/\b.type=t/\b.offset=o/\b.byteOffset=y:=by
 cases f:P.underlying st<;>grind
def tP:∃a,prog.underlying 250=some (.struct a):=by
 simp
def gp:aB->List (Zb×Nat)
 |.const ..=>[]
 |.typedef a=>cu a.H
 |.enum ..=>[]
 |.struct _ _ c=>c.flatMap λa=>cu a.H
 |.union _ _ _ b=>b.flatMap λa=>cu a.2.H
 |.prog _ _ d _=>d.flatMap eW
def eB:aB->List (Zb×Nat)
 |.const ..=>[]
 |.typedef a=>cH a.H
 |.enum ..=>[]
 |.struct _ _ c=>c.flatMap λa=>cH a.H
 |.union _ _ _ b=>b.flatMap λa=>cH a.2.H
 |.prog ..=>[]
def uc:aB->Nat
 |.typedef ..=>337
 |.struct ..=>345
 |.union ..=>348
 |.prog ..=>352
 |_=>332
def GQ(a:aB)(args:Array Zv)(c:Zw):(callFunc (uc a) args).run prog c=.ok (.enter (uc a) args) c:=by cases a<;>kernel_rfl
def ub:aB->Nat
 |.typedef ..=>336
 |.struct ..=>344
 |.union ..=>347
 |.prog ..=>351
 |_=>331
def zP(a:aB)(args:Array Zv)(c:Zw):(callFunc (ub a) args).run prog c=.ok (.enter (ub a) args) c:=by cases a<;>kernel_rfl
def ud(b:Nat):aB->Zv
 |.const ..=>.agg #[]
 |.enum ..=>.agg #[]
 |_=>.pointer (some ⟨b,0,none⟩)
def GS     (x : dg d b a) (z : ∀ p ∈ d, c.heap[p.1]? = some p.2) (H : Nat) : (method (H + 1) (cA a) (.pointer (some ⟨b, 0, none⟩)) "Names").run Tryz.prog c = .ok (uc a, ud b a) c := by
 cases a with
 |const t e v=>
  obtain ⟨F, I, j, k, l, m⟩ := ra (P := Tryz.prog) (t := 223) (name := "Names") (p := #[⟨343, 1, true⟩]) (f := some (332, false)) (by kernel_rfl)
  obtain⟨C,B,n,q,r,u,w⟩:=ug (P:=prog) (st:=343) (idx:=1) (t:=250) (o:=2) (y:=24) (by kernel_rfl);obtain⟨D,g⟩:=tP;obtain⟨G,h,i⟩:=pN (P:=prog) (t:=250) (n:=0) (by kernel_rfl);exact uy (s:=3) (n1:=0) (n2:=24) (z _ x) j k l m n q r u w g h i (by kernel_rfl) (by omega) (by kernel_rfl) (by kernel_rfl)
 |enum t e J=>
  obtain⟨M,L,E,_⟩:=x
  obtain ⟨F, I, j, k, l, m⟩ := ra (P := Tryz.prog) (t := 227) (name := "Names") (p := #[⟨253, 1, true⟩]) (f := some (332, false)) (by kernel_rfl)
  obtain⟨C,B,n,q,r,u,w⟩:=ug (P:=prog) (st:=253) (idx:=1) (t:=250) (o:=2) (y:=24) (by kernel_rfl);obtain⟨D,g⟩:=tP;obtain⟨G,h,i⟩:=pN (P:=prog) (t:=250) (n:=0) (by kernel_rfl);exact uy (s:=3) (n1:=0) (n2:=24) (z _ E) j k l m n q r u w g h i (by kernel_rfl) (by omega) (by kernel_rfl) (by kernel_rfl)
 |typedef a=>kernel_rfl
 |struct t e J=>kernel_rfl
 |union t e s K=>kernel_rfl
 |prog t e N A=>kernel_rfl
def zR     (x : dg d b a) (z : ∀ p ∈ d, c.heap[p.1]? = some p.2) (H : Nat) : (method (H + 1) (cA a) (.pointer (some ⟨b, 0, none⟩)) "Leads").run Tryz.prog c = .ok (ub a, ud b a) c := by
 cases a with
 |const t e v=>
  obtain ⟨F, I, j, k, l, m⟩ := ra (P := Tryz.prog) (t := 223) (name := "Leads") (p := #[⟨343, 1, true⟩]) (f := some (331, false)) (by kernel_rfl)
  obtain⟨C,B,n,q,r,u,w⟩:=ug (P:=prog) (st:=343) (idx:=1) (t:=250) (o:=2) (y:=24) (by kernel_rfl);obtain⟨D,g⟩:=tP;obtain⟨G,h,i⟩:=pN (P:=prog) (t:=250) (n:=0) (by kernel_rfl);exact uy (s:=3) (n1:=0) (n2:=24) (z _ x) j k l m n q r u w g h i (by kernel_rfl) (by omega) (by kernel_rfl) (by kernel_rfl)
 |enum t e J=>
  obtain⟨M,L,E,_⟩:=x
  obtain ⟨F, I, j, k, l, m⟩ := ra (P := Tryz.prog) (t := 227) (name := "Leads") (p := #[⟨253, 1, true⟩]) (f := some (331, false)) (by kernel_rfl)
  obtain⟨C,B,n,q,r,u,w⟩:=ug (P:=prog) (st:=253) (idx:=1) (t:=250) (o:=2) (y:=24) (by kernel_rfl);obtain⟨D,g⟩:=tP;obtain⟨G,h,i⟩:=pN (P:=prog) (t:=250) (n:=0) (by kernel_rfl);exact uy (s:=3) (n1:=0) (n2:=24) (z _ E) j k l m n q r u w g h i (by kernel_rfl) (by omega) (by kernel_rfl) (by kernel_rfl)
 |typedef a=>kernel_rfl
 |struct t e J=>kernel_rfl
 |union t e s K=>kernel_rfl
 |prog t e N A=>kernel_rfl
def Nb{a:eR e}{t:e}(b:Nat)(d:a.J t c):Calls prog 351 #[Zp b,a.v] c (fy a c (.ok t)):=by
 go_in;go_wp2;go_end0;exact Y8 ⟨t,rfl,rfl,d,ak _ _⟩
def GR{f:eR e}(h:hi f){d:Zo}(l:∀m∈gp a,f.ok m)(k:dg d b a)(j:∀{t:e} {o:Zw},f.J t o->∀n∈d,o.heap[n.1]? = some n.2){t:e}(g:f.J t c) :
  Calls prog (uc a) #[ud b a,f.v] c (fy f c (be f (gp a) t)):=by
 cases a with
 |const t i v=>exact qx h g
 |enum t i p=>exact qx h g
 |typedef a=>exact RH h l k j g
 |struct t i p=>exact Qy h l k j g
 |union t i s q=>exact RO h l k j g
 |prog t i r m=>exact Nc h l k j g
def zQ{f:eR e}(h:hi f){d:Zo}(l:∀m∈eB a,f.ok m)(k:dg d b a)(j:∀{t:e} {o:Zw},f.J t o->∀n∈d,o.heap[n.1]? = some n.2){t:e}(g:f.J t c) :
  Calls prog (ub a) #[ud b a,f.v] c (fy f c (be f (eB a) t)):=by
 cases a with
 |const t i v=>exact qw h g
 |enum t i p=>exact qw h g
 |typedef a=>exact RG h l k j g
 |struct t i p=>exact Qx h l k j g
 |union t i s q=>exact RN h l k j g
 |prog t i r m=>exact Nb b g
end
def jW:aB->Bool
 |.typedef ..=>true
 |.enum ..=>true
 |.struct ..=>true
 |.union ..=>true
 |_=>false
def pq:Option aB->Bool
 |some a=>jW a
 |none=>false
def Ji{m:Zo}{v:Zv}{j:Option aB}(h:iH m v j)(l:Zw):Calls prog 126 #[v] l λn p=>n=.returned (.bool (pq j))/\p=l:=by
 cases j with
 |none=>
  have h:v=.nilIface:=h;subst h;have c:=vH 157 225 λa=>by kernel_rfl
  have d:=vH 157 227 λa=>by kernel_rfl
  have e:=vH 157 229 λa=>by kernel_rfl
  have f:=vH 157 231 λa=>by kernel_rfl
  go_in;go_wp2;go_ret;exact⟨rfl,rfl⟩
 |some k=>
  obtain⟨b,rfl,_⟩:=h;cases k with
  |const i g v=>
   dsimp only[cA];have c:=dZ 223 b 157 225 λa=>by kernel_rfl
   have d:=dZ 223 b 157 227 λa=>by kernel_rfl
   have e:=dZ 223 b 157 229 λa=>by kernel_rfl
   have f:=dZ 223 b 157 231 λa=>by kernel_rfl
   go_in;go_wp2;go_ret;exact⟨rfl,rfl⟩
  |typedef k=>
   dsimp only[cA];have c:=mz 225 b 157 225 λa=>by kernel_rfl
   have d:=dZ 225 b 157 227 λa=>by kernel_rfl
   have e:=dZ 225 b 157 229 λa=>by kernel_rfl
   have f:=dZ 225 b 157 231 λa=>by kernel_rfl
   go_in;go_wp2;go_ret;exact⟨rfl,rfl⟩
  |enum i g o=>
   dsimp only[cA];have c:=dZ 227 b 157 225 λa=>by kernel_rfl
   have d:=mz 227 b 157 227 λa=>by kernel_rfl
   have e:=dZ 227 b 157 229 λa=>by kernel_rfl
   have f:=dZ 227 b 157 231 λa=>by kernel_rfl
   go_in;go_wp2;go_ret;exact⟨rfl,rfl⟩
  |struct i g o=>
   dsimp only[cA];have c:=dZ 229 b 157 225 λa=>by kernel_rfl
   have d:=dZ 229 b 157 227 λa=>by kernel_rfl
   have e:=mz 229 b 157 229 λa=>by kernel_rfl
   have f:=dZ 229 b 157 231 λa=>by kernel_rfl
   go_in;go_wp2;go_ret;exact⟨rfl,rfl⟩
  |union i g s q=>
   dsimp only[cA];have c:=dZ 231 b 157 225 λa=>by kernel_rfl
   have d:=dZ 231 b 157 227 λa=>by kernel_rfl
   have e:=dZ 231 b 157 229 λa=>by kernel_rfl
   have f:=mz 231 b 157 231 λa=>by kernel_rfl
   go_in;go_wp2;go_ret;exact⟨rfl,rfl⟩
  |prog i g t r=>
   dsimp only[cA];have c:=dZ 233 b 157 225 λa=>by kernel_rfl
   have d:=dZ 233 b 157 227 λa=>by kernel_rfl
   have e:=dZ 233 b 157 229 λa=>by kernel_rfl
   have f:=dZ 233 b 157 231 λa=>by kernel_rfl
   go_in;go_wp2;go_ret;exact⟨rfl,rfl⟩
def lw(c:St)(a:Zb×Nat):Except Mar.aw Unit:=match aL c.A a.1 with
 |some b=>if pq b then .ok ()else .error ⟨7,a.2⟩
 |none=>.error ⟨7,a.2⟩
def fK(a:Ad)(h:Za)(d:St)(e:Zo)(c:Nat):eR Unit where
 f:=125
 e3:=#[]
 e2:=#[Zp c]
 a4:=λg _=>lw d g
 J:=λ_ b=>Rd a h d b/\b.heap[c]? = some (.cells #[Zp a.R] 145)/\bv a.X e b
 M:=[]
 ok:=λ_=>True
def JP{c:Ad}{p:Za}{h:St}{l:Zo}{e:Nat}{b:Zw}(a:Zb×Nat)(A:(fK c p h l e).J () b) :
  Calls prog 125 #[fY a,Zp e] b (fy (fK c p h l e) b (lw h a)):=by
 obtain⟨k,i,r⟩:=A;have j:=((Below.refl b.heap.size b).alloc (Y4 _) (.cells #[.string ⟨a.1.toArray⟩,U a.2] 160)).drew;have o:=k.au j;obtain⟨E,F,G,H,I,K⟩:=k.al;have L:=k.lt.1;have C:=ap i;have D:=bX i;have u:=aS (w:=b) (o:=.cells #[.string ⟨a.1.toArray⟩,U a.2] 160) rfl;obtain⟨P,S,_⟩:=kC u;have key:∃v d m,(Instr.lookup 148 (.map (some c.N)) (.string ⟨a.1.toArray⟩) false).run prog ((b.alloc (.cells #[.string ⟨a.1.toArray⟩,U a.2] 160)).drew)=.ok v ((b.alloc (.cells #[.string ⟨a.1.toArray⟩,U a.2] 160)).drew)/\iH m v d/\lw h a=if pq d then .ok ()else .error ⟨7,a.2⟩:=by
  rcases uL o.nm a.1 false with⟨B,f⟩|⟨d,v,m,B,_,n,f⟩
  .simp only[Ye,if_false]at f
   exact⟨.nilIface,none,[],f,rfl,by grind [lw,pq]⟩
  .simp only[Ye,if_false]at f
   grind [lw]
 obtain⟨v,d,m,f,n,s⟩:=key;have x:=Z n;have q:=Z s;have y:ac ((fK c p h l e).J () ((b.alloc (.cells #[.string ⟨a.1.toArray⟩,U a.2] 160)).drew)):=⟨o,(j.block _ C).trans i,r.F (bh [] j) (by simp)⟩;have M:¬c.R=b.heap.size:=by omega
 have O:¬e=b.heap.size:=by omega
 clear k i r j o n s u;dsimp only[fY];go_in;go_wp2_with fail;go_region_held2 (λg=>g.cell? (Zd e 0)=some (Zp c.R)/\g.cell? (Zd c.R 1)=some (.map (some c.N))/\g.cell? (Zd b.heap.size 0)=some (.string ⟨a.1.toArray⟩)) (go_keep)
  (first|(go_at_call 126;refine(Ji x.j _).mono ?_;rintro z g ⟨rfl,rfl⟩))
 all_goals
  cases t:pq d with
  |true=>
   go_wp2;go_end0;exact Y8 ⟨(),by rw[q.j,t];rfl,rfl,y.j,((ak _ b).B _).aq⟩
  |false=>
   go_wp2_with (go_at_call 70;refine(gR _ _ _).mono ?_;rintro z g ⟨rfl,rfl⟩);exact aC (Ya ⟨⟨7,a.2⟩,by rw[q.j,t];rfl,(((ak _ b).B _).aq).B _,b.heap.size+1,by omega,rfl,aS (by simp)⟩)
def JR(args:Array Zv)(a:Zw):(callFunc 125 args).run prog a=.ok (.enter 125 args) a:=by kernel_rfl
def JQ(c:Ad)(l:Za)(n:St)(d:Zo)(j:Nat):hi (fK c l n d j) where
 fq:=JR
 aY:=by intro k m _ o h;cases h
 c0:=by
  rintro k m p ⟨f,b,g⟩ a;exact⟨f.au a,(a.block _ (ap b)).trans b,g.F (bh [] a) (by simp)⟩
 call:=λi _ e=>JP i e
abbrev mY(b:List aB)(c:List Nat):Zl:=(b.zip c).map λa=>Value.iface (cA a.1) (.pointer (some ⟨a.2,0,none⟩))
structure iF(bs:Zo)(sl:Zv)(ds:List aB)(ps:List Nat):Prop where
 a2:ps.length=ds.length
 row:gG bs 157 sl ds.length (mY ds ps)
 dl:∀i (h:i<ds.length) (h':i<ps.length),dg bs ps[i] ds[i]
def kO(b:St)(a:List aB):Except Mar.aw Unit:=be (fK ⟨0,0,0,0,[]⟩ ⟨#[]⟩ b [] 0) (a.flatMap gp) ()
def JT(d:Ad)(g:Za)(c:St)(e:Zo)(f:Nat):∀(a:List (Zb×Nat)) (b:Unit),be (fK d g c e f) a b=be (fK ⟨0,0,0,0,[]⟩ ⟨#[]⟩ c [] 0) a b:=by
 intro a;induction a<;>simp_all[be,fK]
def JV{c:Ad}{g:Za}{d:St}{e:Zo}{A:Zv}{b:List aB}{p:List Nat}{a:Zw}(L:Rd c g d a)(a2:bv c.X e a)(P:iF e A b p) :
  Calls prog 74 #[Zp c.R,A] a λl k=>(kO d b=.ok ()/\l=.returned (.tuple #[])/\am [] a k)\/(∃i,kO d b=.error i/\am [] a k/\fa a i.no i.m l k):=by
 have c7:=iT;have z:=(Below.refl a.heap.size a).alloc (Y4 _) (.cells #[Zp c.R] 145);have N:=JQ c g d e a.heap.size;have y:∀(j:Zw),(fK c g d e a.heap.size).J () j->∀o∈e,j.heap[o.1]? = some o.2:=λj m o b0=>(m.2.2 o b0).1;have I:ac ((fK c g d e a.heap.size).J () (a.alloc (.cells #[Zp c.R] 145))):=⟨L.au z,aS rfl,a2.F (bh [] z) (by simp)⟩;have a8:kO d b=be (fK c g d e a.heap.size) (b.flatMap gp) ():=(JT _ _ _ _ _ _ _).symm;rw[a8];have H:=Z N;have x:=Z y;obtain⟨b1,b2,S⟩:=P;have w:=Z S;have F:=Z b1;rcases b2 with⟨rfl,M,_⟩|⟨K,b8,b9,rfl,⟨c1,c8⟩,a1,b4⟩
 .have a9:b=[]:=Yv.1 M;subst a9;go_in;go_wp2;go_loopw [8] (λh q=>h=U 0/\q=a.alloc (.cells #[Zp c.R] 145)) (λ_ _=>0)
  case atStart=>simp
  case round=>
   obtain⟨rfl,rfl⟩:=hrel;go_wp2;go_end0;exact Y8 ⟨rfl,rfl,(ak _ a).B _⟩
 .have b3:∀(j:Zw),(fK c g d e a.heap.size).J () j->∀h (a3:h<b.length) (a4:h<p.length),j.cell? (Zd K h)=some (.iface (cA b[h]) (.pointer (some ⟨p[h],0,none⟩))):=by
   intro j m h a3 a4;refine bJ (y _ m _ a1) b4 ?_;grind
  have G:=Z b3;go_in;go_wp2;go_loopw [8] (λh q=>∃(f:Nat),h=U f/\f<=b.length/\ac ((fK c g d e a.heap.size).J () q)/\am [] a q/\ac (be (fK c g d e a.heap.size) (b.flatMap gp) ()=be (fK c g d e a.heap.size) ((b.drop f).flatMap gp) ())) (λh _=>b.length-(intOf h).toNat)
  case atStart=>exact⟨0,rfl,by omega,I,(ak _ a).B _,rfl⟩
  case round=>
   obtain⟨f,rfl,c6,r,n,C⟩:=hrel;rcases Yj f b.length with s|c3
   .have t:f<p.length:=by have:=F.j;omega
    have d1:=G.j _ r.j f s t;have c9:=GS (w.j f s t) (x.j _ r.j);have c2:=GQ b[f];have c4:(0:Int)<=↑f:=by omega
    have c5:(↑f:Int) < ↑b.length:=by omega
    have v:ac (be (fK c g d e a.heap.size) (b.flatMap gp) ()=be (fK c g d e a.heap.size) (gp b[f]++(b.drop (f+1)).flatMap gp) ()):=by
     grind [List.drop_eq_getElem_cons]
    have E:=Z (GR H.j (λ_ _=>trivial) (w.j f s t) (λm=>x.j _ m) r.j);go_wp2_with fail;refine E.j.mono ?_;rintro l B (⟨d2,u,rfl,a5,b5⟩|⟨i,u,a6,J,c0,rfl,O⟩);rotate_left
    .exact(show bodyPost prog Tryz.f74 (λl k=>(be (fK c g d e a.heap.size) (b.flatMap gp) ()=.ok ()/\l=.returned (.tuple #[])/\am [] a k)\/(∃i,be (fK c g d e a.heap.size) (b.flatMap gp) ()=.error i/\am [] a k/\fa a i.no i.m l k)) (Exit.panic _) _ B from aC (Ya ⟨i,v.j.trans (pQ u),n.u a6,J,by have:=n.ar;omega,rfl,O⟩))
    have b7:=Z a5;have b6:ac (be (fK c g d e a.heap.size) (b.flatMap gp) ()=be (fK c g d e a.heap.size) ((b.drop (f+1)).flatMap gp) ()):=v.j.trans (pR u);have d0:am [] a B:=n.u b5;go_wp2;grind [intOf]
   .have a7:f=b.length:=by omega
    subst a7;have a0:be (fK c g d e a.heap.size) (b.flatMap gp) ()=.ok ():=by
     refine C.j.trans ?_;rw[List.drop_length];rfl
    have D:=Z a0;go_wp2;go_end0;exact Y8 ⟨D.j,rfl,n⟩
section
variable {A:Ad}{l:Nat}{X:List Nat}{h:Zo}{g:List (Zb×Option aB)}{c:Zb}{n:Option aB}{b:Zc}{i m j:Zw}{e:Zl}{σ:St}
def lP(X:List Nat)(l:Nat)(g:List (Zb×Option aB))(h:Zo)(e:Zl)(j:Zw):Prop:=
 (g.map (·.1)).Nodup/\bv X h j/\e.length=g.length/\j.heap[l]? = some (pB (g.zip e |>.map λb=>(b.1.1,b.2)))/\∀a (c:a<g.length) (d:a<e.length),iH h e[a] g[a].2
def lP.F{d:Zw}{a:List Nat}(f:lP X l g h e j)(c:am a j d)(n:∀p∈a,p∈X)(o:l ∉ a):lP X l g h e d:=by
 obtain⟨q,i,k,b,m⟩:=f;exact⟨q,i.F c n,k,(c.G _ (ap b) o).trans b,m⟩
def LC(o:lP X l g h e j)(f:Zb)(r:aL g f=some n) :
  ∃v,iH h v n/\(Instr.lookup 148 (.map (some l)) (Zs f) false).run prog j=.ok v j:=by
 obtain⟨F,w,x,p,y⟩:=o;have q:IsKey .string (Zs f):=trivial;have z:=qQ (g.zip e |>.map λa=>(a.1.1,a.2));have t:(zeroValue 157).run prog j=.ok .nilIface j:=by kernel_rfl
 rcases sx (P:=prog) (T:=148) (kt:=9) (et:=157) (d:=.string) (by kernel_rfl) (by kernel_rfl) q p (by omega) t false with⟨c,m⟩|⟨i,k,c,m,u⟩
 .exfalso;obtain⟨a,s,k,_⟩:=xv r;obtain⟨b,A,rfl⟩:=List.getElem_of_mem s;have B:b<e.length:=by omega
  have E:(⟨.string ⟨g[b].1.toArray⟩,e[b],b⟩:MapEntry)∈((g.zip e |>.map λa=>(a.1.1,a.2)).mapIdx λb a=>(⟨.string ⟨a.1.toArray⟩,a.2,b⟩:MapEntry)).toArray.toList:=by
   grind
  grind
 .simp only[List.toList_toArray,List.getElem?_mapIdx]at c;have C:i<g.length:=by
   grind
  have D:i<e.length:=by omega
  rw[Yd (by simp_all)]at c;grind [xq]
def hq(σ:St)(b:Zc):Nat:=σ.A.countP λa=>!b.contains a.1
def Gz(h:c ∉ b):∀(g:List (Zb×Option aB)),g.countP (λa=>!(b++[c]).contains a.1)<=g.countP (λa=>!b.contains a.1)/\((∃a∈g,a.1=c)->g.countP (λa=>!(b++[c]).contains a.1)<g.countP (λa=>!b.contains a.1)):=by
 intro g;induction g with
 |nil=>simp
 |cons d g f=>
  obtain⟨j,k⟩:=f;by_cases i:d.1=c
  .grind
  .have e:(!(b++[c]).contains d.1)=(!b.contains d.1):=by grind
   rw[List.countP_cons,List.countP_cons,e];grind
def RT(d:c ∉ b)(e:aL σ.A c=some n):hq σ (b++[c])<hq σ b:=by
 obtain⟨g,f,a,_⟩:=xv e;exact(Gz d σ.A).2 ⟨g,f,a⟩
def lv(σ:St)(c:Zb):List (Zb×Nat):=match aL σ.A c with
 |some (some a)=>eB a
 |_=>[]
def follow(σ:St):Nat->Zb->Zc->Zc
 |0,_,b=>b
 |k+1,c,b=>if b.contains c then b else (lv σ c).foldl (λb a=>follow σ k a.1 b) (b++[c])
def Ig{k:Nat}(a:c∈b):follow σ k c b=b:=by
 cases k<;>simp_all[follow]
def Ih{k:Nat}{a:aB}(e:c ∉ b)(f:aL σ.A c=some (some a)):follow σ (k+1) c b=(eB a).foldl (λb d=>follow σ k d.1 b) (b++[c]):=by
 simp_all[follow,lv]
structure km where
 qb:Nat
 rb:Nat
 fb:Nat
 q:Nat
def km.V(a:km):Zv:=.func (.func 205) #[] #[Zp a.qb,Zp a.rb,Zp a.fb]
structure ko(A:Ad)(text:Za)(σ:St)(h:Zo)(e:Zl)(a:km)(k:Nat)(b:Zc)(i:Zw):Prop where
 rd:Rd A text σ i
 nw:lP A.X A.N σ.A h e i
 vq:i.heap[a.qb]? = some (.cells #[.map (some a.q)] 103)
 vr:i.heap[a.rb]? = some (.cells #[Zp A.R] 145)
 vf:i.heap[a.fb]? = some (.cells #[a.V] 237)
 a9:dp a.q b i
 bB:cT A a.q
 bp:hq σ b<=k
def ko.b7{f:Za}{a:km}{d:Nat}(c:ko A f σ h e a d b i):a.qb≠a.q/\a.rb≠a.q/\a.fb≠a.q:=by
 obtain⟨_,l,_,g⟩:=c.a9;have j:=c.vq;have k:=c.vr;grind [vf,pB]
def ko.bR{g:Za}{a:km}{o k':Nat}{f:Zc}(c:ko A g σ h e a o b i)(d:am [a.q] i m)(n:dp a.q f m)(k:hq σ f<=k'):ko A g σ h e a k' f m:=by
 obtain⟨p,r,s⟩:=c.b7;obtain⟨_,t,_,l⟩:=id c.a9;refine⟨c.rd.jd d c.bB l,c.nw.F d (by simp;exact c.bB.1) (by simp;exact λj=>c.bB.2.2.2.1 j.symm),(d.G _ (ap c.vq) (by simp_all)).trans c.vq,(d.G _ (ap c.vr) (by simp_all)).trans c.vr,(d.G _ (ap c.vf) (by simp_all)).trans c.vf,n,c.bB,k⟩
def ko.au{g:Za}{a:km}{f:Nat}(c:ko A g σ h e a f b i)(d:Below i.heap.size i m):ko A g σ h e a f b m:=
 c.bR (bh [a.q] d) (c.a9.F (bh [] d) (by simp)) c.bp
def po(A:Ad)(i:Za)(σ:St)(h:Zo)(e:Zl)(a:km)(d:Nat):eR (Zc) where
 f:=205
 e3:=#[]
 e2:=#[Zp a.qb,Zp a.rb,Zp a.fb]
 a4:=λc b=>.ok (follow σ d c.1 b)
 J:=ko A i σ h e a d
 M:=[a.q]
 ok:=λc=>∃g,aL σ.A c.1=some (some g)
theorem ui(A:Ad)(g:Za)(σ:St)(h:Zo)(e:Zl)(d:km)(c:Nat):∀(a:List (Zb×Nat)) (b:Zc),be (po A g σ h e d c) a b=.ok (a.foldl (λb f=>follow σ c f.1 b) b):=by
 intro a;induction a<;>grind [be,po]
def Ij(args:Array Zv)(i:Zw):(callFunc 205 args).run prog i=.ok (.enter 205 args) i:=by kernel_rfl
end
def Ii{e:Ad}{F:Za}{σ:St}{t:Zo}{G:Zl}{b:km}{k:Nat}(M:∀a g,aL σ.A a=some (some g)->∀b5∈eB g,∃a2,aL σ.A b5.1=some (some a2))
  (b4:∀k',k'<k->hi (po e F σ t G b k')) {n:Zc} {c:Zw} (a:Zb×Nat) (b0:∃g,aL σ.A a.1=some (some g)) (u:ko e F σ t G b k n c) :
  Calls prog 205 #[fY a,Zp b.qb,Zp b.rb,Zp b.fb] c (fy (po e F σ t G b k) c (.ok (follow σ k a.1 n))):=by
 obtain⟨g,j⟩:=b0;have a5:=(Below.refl c.heap.size c).alloc (Y4 _) (.cells #[.string ⟨a.1.toArray⟩,U a.2] 160);have h:=u.au a5;have A:=aS (w:=c) (o:=.cells #[.string ⟨a.1.toArray⟩,U a.2] 160) rfl;have d4:=u.a9.lt;obtain⟨d7,d8,_⟩:=kC A;have c0:=bX h.vq;rcases yg h.a9 a.1 with⟨y,b1⟩|⟨v,a7,b1⟩
 .obtain⟨m,d3,b2⟩:=h.a9.cE y (U a.2);have c8:=RT y j;have d0:=u.bp;obtain⟨k',rfl⟩:∃k',k=k'+1:=⟨k-1,by omega⟩;have D:=iu (c.alloc (.cells #[.string ⟨a.1.toArray⟩,U a.2] 160)) b.q m;have d:=h.bR (k':=k') D b2 (by omega);have B:=(D.G _ (ap A) (by grind)).trans A;obtain⟨d5,d6,_⟩:=kC B;have b9:=bX d.vr;have c7:=bX d.vf;have b7:=d.rd.al.2.1;have x:=d.au (Below.refl _ _).drew;obtain⟨v,a6,d1⟩:=LC x.nw a.1 j;obtain⟨b8,rfl,I⟩:=a6;have d2:=zR I (λE z=>(x.nw.2.1 E z).1);have c9:=zP g;have S:=Z (zQ (b4 k' (by omega)) (M a.1 g j) I (λ{n e0} b3 E z=>(b3.nw.2.1 E z).1) x);have r:=Z (Ih (k:=k') y j);have P:ac (am [b.q] c ((dC (c.alloc (.cells #[.string ⟨a.1.toArray⟩,U a.2] 160)) b.q m).drew)):=(((ak _ c).B _).u D).aq;have H:=d.b7;have a3:∀f,am [b.q] ((dC (c.alloc (.cells #[.string ⟨a.1.toArray⟩,U a.2] 160)) b.q m).drew) f->f.cell? (Zd b.rb 0)=some (Zp e.R)/\f.cell? (Zd e.R 1)=some (.map (some e.N))/\f.cell? (Zd c.heap.size 0)=some (.string ⟨a.1.toArray⟩)/\f.cell? (Zd b.fb 0)=some b.V:=by
   intro f a8;have l:=((ak _ (dC (c.alloc (.cells #[.string ⟨a.1.toArray⟩,U a.2] 160)) b.q m)).aq).u a8;obtain⟨_,e1,_,a9⟩:=id d.a9;have a4:=(d.rd.jd l d.bB a9).al.2.1;obtain⟨b6,_,_⟩:=kC ((l.G _ (ap B) (by simp;omega)).trans B);exact⟨bX ((l.G _ (ap d.vr) (by simpa using H.2.1)).trans d.vr),a4,b6,bX ((l.G _ (ap d.vf) (by simpa using H.2.2)).trans d.vf)⟩
  have L:=Z a3;dsimp only[fY];go_in;go_wp2_with fail;go_region_held2 (λp=>p.cell? (Zd b.rb 0)=some (Zp e.R)/\p.cell? (Zd e.R 1)=some (.map (some e.N))/\p.cell? (Zd c.heap.size 0)=some (.string ⟨a.1.toArray⟩)/\p.cell? (Zd b.fb 0)=some b.V) (go_keep)
   (first|(refine S.j.mono ?_;rintro c1 f (⟨d9,i,rfl,J,C⟩|⟨c6,i,_⟩);rotate_left;(rw[ui]at i;cases i);have s:=Z J;have a1:=Z C;have a0:=Z i;obtain⟨c2,c3,c4,c5⟩:=L.j f C;clear J C i))
  all_goals
   go_wp2
   go_end0
   have K:=a0.j
   rw[ui]at K
   cases K
   exact Y8 ⟨_,by rw[r.j],rfl,s.j.bR (ak _ _) s.j.a9 (by have:=s.j.bp;omega),P.j.u a1.j⟩
 .have r:=Z (Ig (σ:=σ) (k:=k) a7);have O:=Z h;dsimp only[fY];go_in;go_wp2;go_end0;exact Y8 ⟨n,by rw[r.j],rfl,O.j,(ak _ c).B _⟩
section
variable {A:Ad}{b:Nat}{bs:Zo}{d:aB}{vs:Zl}{c:Zw}{e:St}
def Ik{text:Za}{a:km}(k:∀g d,aL e.A g=some (some d)->∀i∈eB d,∃l,aL e.A i.1=some (some l)):∀f,hi (po A text e bs vs a f):=by
 intro f;induction f using Nat.strongRecOn with
 |ind f o=>
  refine⟨Ij,?_,?_,?_⟩
  .intro j c b i h;simp only[po,Yc]at h;subst h;exact b.a9.lt
  .intro j c q b m;exact ko.au b m
  .intro j p g n b;exact Ii k o g n b
def th(e f:TypeId)(b p:Nat)(c:Zw)
  (k : ((Tryz.prog.info? f).bind fun i => i.methods.find? (fun a => a.name == "Title")).map (fun a => (a.path, a.func)) = some (#[⟨e, 0, true⟩], some (327, false)))
  (l:((prog.underlying e).bind λd=>match d with|.struct h=>h[0]?|_=>none).map (λg=>(g.type,g.offset))=some (160,0)) :
  (method (p + 1) f (.pointer (some ⟨b, 0, none⟩)) "Title").run Tryz.prog c = ((loadVar 160 ⟨b, 0, none⟩).run Tryz.prog c).andThen (fun A z => .ok (327, A) z) := by
 obtain⟨i,a,q,r,s,u⟩:=ra k;obtain⟨h,B,v,w,x,y⟩:=si l;obtain⟨D,C,j,_⟩:=si (P:=prog) (st:=160) (idx:=0) (t:=9) (o:=0) (by kernel_rfl);obtain⟨E,m,F⟩:=pN (P:=prog) (t:=160) (n:=2) (by kernel_rfl);exact Kt q r s u v w x y j m (by omega)
def Ro (d : aB) (b e : Nat) (c : World) : (method (e + 1) (cA d) (.pointer (some ⟨b, 0, none⟩)) "Title").run Tryz.prog c = ((loadVar 160 ⟨b, 0, none⟩).run Tryz.prog c).andThen (fun C B => .ok (327, C) B) := by
 cases d with
 |const a g v=>exact th 343 223 b e c (by kernel_rfl) (by kernel_rfl)
 |typedef d=>
  obtain ⟨K, R, m, n, q, r⟩ := ra (P := Tryz.prog) (t := 225) (name := "Title") (p := #[⟨244, 0, true⟩, ⟨242, 0, false⟩]) (f := some (327, false)) (by kernel_rfl)
  obtain⟨G,E,s,u,x,z⟩:=si (P:=prog) (st:=244) (idx:=0) (t:=242) (o:=0) (by kernel_rfl);obtain⟨H,F,t,w,y,A⟩:=si (P:=prog) (st:=242) (idx:=0) (t:=160) (o:=0) (by kernel_rfl);obtain⟨J,I,i,_⟩:=si (P:=prog) (st:=160) (idx:=0) (t:=9) (o:=0) (by kernel_rfl);obtain⟨L,j,M⟩:=pN (P:=prog) (t:=160) (n:=2) (by kernel_rfl);obtain⟨O,k,N⟩:=pN (P:=prog) (t:=242) (n:=3) (by kernel_rfl);exact Ku m n q r s u x z k (by omega) t w y A i j (by omega)
 |enum a g l=>exact th 253 227 b e c (by kernel_rfl) (by kernel_rfl)
 |struct a g l=>exact th 353 229 b e c (by kernel_rfl) (by kernel_rfl)
 |union a g S D=>exact th 358 231 b e c (by kernel_rfl) (by kernel_rfl)
 |prog a g vs h=>exact th 267 233 b e c (by kernel_rfl) (by kernel_rfl)
def oG{X:List Nat}(a:dg bs b d)(e:bv X bs c)(g:Nat) :
  (method (g + 1) (cA d) (.pointer (some ⟨b, 0, none⟩)) "Title").run Tryz.prog c = .ok (327, .agg #[.string ⟨(cU d).1.toArray⟩, .int .i64 (cU d).2]) c := by
 obtain⟨h,i⟩:=GT a e;have f:(loadVar 160 ⟨b,0,none⟩).run prog c=.ok (.agg #[.string ⟨(cU d).1.toArray⟩,U (cU d).2]) c:=by go_simp
 rw[Ro,f];rfl
def kV(e:St)(d:aB):Bool:=((eB d).foldl (λb a=>follow e (hq e []) a.1 b) []).contains (cU d).1
def OS{d:Nat}{b:Zc}(e:dp d b c)(a:Zb):∃v,(Instr.lookup 103 (.map (some d)) (Zs a) true).run prog c=.ok (.tuple #[v,.bool (b.contains a)]) c:=by
 rcases yg e a with⟨f,g⟩|⟨v,f,g⟩;all_goals simp_all
def NI{text:Za}(w:Rd A text e c)(a4:lP A.X A.N e.A bs vs c)(o:dg bs b d)
  (F:∀a7 d,aL e.A a7=some (some d)->∀i∈eB d,∃m,aL e.A i.1=some (some m)) (P:∀i∈eB d,∃m,aL e.A i.1=some (some m)) :
  Calls prog 127 #[Zp A.R,.iface (cA d) (Zp b)] c λn t=>n=.returned (.bool (kV e d))/\am [] c t:=by
 have b7:=iT;have b8:=jr;obtain⟨c2,c3,c4,c5⟩:=w.lt;obtain⟨a,g⟩:∃a:km,a=⟨c.heap.size+2,c.heap.size,c.heap.size+3,c.heap.size+1⟩:=⟨_,rfl⟩;obtain⟨h,f⟩:∃h,h=(((c.alloc (.cells #[Zp A.R] 145)).alloc (.map #[] 0)).alloc (.cells #[.map (some (c.heap.size+1))] 103)).alloc (.cells #[a.V] 237):=⟨_,rfl⟩;have B:(c.alloc (.cells #[Zp A.R] 145)).heap.size=c.heap.size+1:=by simp
 have C:((c.alloc (.cells #[Zp A.R] 145)).alloc (.map #[] 0)).heap.size=c.heap.size+2:=by simp
 have b1:(((c.alloc (.cells #[Zp A.R] 145)).alloc (.map #[] 0)).alloc (.cells #[.map (some (c.heap.size+1))] 103)).heap.size=c.heap.size+3:=by simp
 have a1:=w.au ((Below.refl c.heap.size c).alloc (Y4 _) (.cells #[Zp A.R] 145));have y:=a1.a6 (.map #[] 0);rw[B]at y;have c1:=((ak [] ((c.alloc (.cells #[Zp A.R] 145)).alloc (.map #[] 0))).B (.cells #[.map (some (c.heap.size+1))] 103)).B (.cells #[a.V] 237);have x:Below (c.heap.size+2) ((c.alloc (.cells #[Zp A.R] 145)).alloc (.map #[] 0)) h:=by
  rw[f];exact((Below.refl _ _).alloc (by omega) _).alloc (by omega) _
 rw[<-C]at x;have a2:=y.au x;have r:am [] c h:=by rw[f];exact((((ak [] c).B _).B _).B _).B _
 have l:ko (A.aI (c.heap.size+1)) text e bs vs a (hq e []) [] h:=by
  refine⟨a2,?_,?_,?_,?_,?_,?_,Y4 _⟩
  .obtain⟨a8,K,L,v,M⟩:=a4;exact⟨a8,(K.aI (by omega)).F r (by simp),L,(r.G _ (ap v) (by simp)).trans v,M⟩
  .rw[g,f];dsimp only;exact(((ak [] _).B _).G _ (by omega) (by simp)).trans (aS C.symm)
  .rw[g,f];dsimp only;exact((((((ak [] _).B _).B _).B _)).G _ (by omega) (by simp)).trans (aS rfl)
  .rw[f,g];dsimp only;exact aS b1.symm
  .refine⟨by simp,[],rfl,?_⟩;rw[g,f];dsimp only;exact((((ak [] _).B _).B _).G _ (by omega) (by simp)).trans (aS B.symm)
  .rw[g];dsimp only;refine⟨by simp[Ad.aI],?_,?_,?_,?_⟩<;>simp only[Ad.aI]<;>omega
 have J:=bX l.vf;have O:=Ik (A:=A.aI (c.heap.size+1)) (text:=text) (bs:=bs) (vs:=vs) (a:=a) F (hq e []);have a0:=zR o (λs p=>(l.nw.2.1 s p).1);have b5:=zP d;have H:=Z (zQ O P o (λ{D c7} a3 s p=>(a3.nw.2.1 s p).1) l);have G:=Z r;subst f;subst g;dsimp only[km.V]at J a0;go_in;go_wp2_with fail;refine H.j.mono ?_;rintro n b2 (⟨c6,q,rfl,k,a5⟩|⟨b4,q,_⟩);rotate_left
 .grind [ui]
 rw[ui]at q;cases q
 have a9:=bX k.vq;dsimp only at a9;have a6:=ap k.vq;dsimp only at a6;have z:=k.au (Below.refl _ _).drew;have c0:=oG o z.nw.2.1;have b9:=nQ;have b6:=qK 160 λ_ _ _=>by kernel_rfl
 have b3:=Z k;have u:=Z z;have I:=Z a5;go_wp2_with fail;go_region_held2 (λt=>t.cell? ⟨c.heap.size+2,0,none⟩=some (.map (some (c.heap.size+1)))) (go_keep)
  (first|(go_at_call 327;refine(nP _ _ _).mono ?_;rintro n c9 ⟨rfl,j⟩;obtain⟨c8,S⟩:=OS (u.j.au j).a9 (cU d).1;have b0:=bX (u.j.au j).vq;dsimp only at b0 S;have E:=Z j;clear j))
 all_goals
  go_wp2
  go_ret
  refine⟨kU (a:=decide ((cU d).1∈(eB d).foldl (λ(D:Zc) (i:Zb×Nat)=>follow e (hq e []) i.1 D) [])) (b:=kV e d) (by simp[kV]),?_⟩
  exact(G.j.b4 I.j (by grind [po])).u (((ak [] b2).aq).u (bh [] E.j))
end
def fX(a:St):List aB->Except Mar.aw Unit
 |[]=>.ok ()
 |d::b=>if kV a d then .error ⟨9,(cU d).2⟩else fX a b
def Rd.kv{a:Ad}{b:Za}{e:St}{c d:Zw}(f:Rd a b e c)(g:am [] c d):Rd a b e d:=f.F g (by simp) (by simp) (by simp) (by simp) (by simp) (by simp) (by simp) (by simp)
def HW{f:Ad}{F:Za}{b:St}{l:Zo}{w:Zl}{E:Zv}{a:List aB}{n:List Nat}{d:Zw}(a0:Rd f F b d)(b6:lP f.X f.N b.A l w d)(a2:iF l E a n)
  (H:∀b7 m,aL b.A b7=some (some m)->∀u∈eB m,∃p,aL b.A u.1=some (some p)) (a9:∀m∈a,∀u∈eB m,∃p,aL b.A u.1=some (some p)) :
  Calls prog 75 #[Zp f.R,E] d λg h=>(fX b a=.ok ()/\g=.returned (.tuple #[])/\am [] d h)\/(∃i,fX b a=.error i/\am [] d h/\fa d i.no i.m g h):=by
 obtain⟨b1,b2,a3⟩:=a2;have z:=Z a3;have M:=Z b1;have I:=Z H;have J:=Z a9;have c5:∀(R C:Zv) (B:Zw),(Instr.field 160 (.agg #[R,C]) 1).run prog B=.ok C B:=λ_ _ _=>by kernel_rfl
 have d2:=nQ;rcases b2 with⟨rfl,a1,_⟩|⟨S,c2,c3,rfl,⟨c4,d0⟩,a5,b4⟩
 .have b0:a=[]:=Yv.1 a1;subst b0;go_in;go_wp2;go_loopw [8] (λe k=>e=U 0/\k=d) (λ_ _=>0)
  case atStart=>simp
  case round=>
   obtain⟨rfl,rfl⟩:=hrel;go_wp2;go_end0;exact Y8 ⟨rfl,rfl,ak _ _⟩
 .have b3:∀(v:Zw),lP f.X f.N b.A l w v->∀e (a6:e<a.length) (a7:e<n.length),v.cell? (Zd S e)=some (.iface (cA a[e]) (.pointer (some ⟨n[e],0,none⟩))):=by
   intro v b5 e a6 a7;refine bJ (b5.2.1 _ a5).1 b4 ?_;grind
  have N:=Z b3;have O:=Z a0;have L:=Z b6;go_in;go_wp2;go_loopw [8] (λe k=>∃(c:Nat),e=U c/\c<=a.length/\ac (Rd f F b k)/\ac (lP f.X f.N b.A l w k)/\am [] d k/\ac (fX b a=fX b (a.drop c))) (λe _=>a.length-(intOf e).toNat)
  case atStart=>exact⟨0,rfl,by omega,O,L,ak _ d,rfl⟩
  case round=>
   obtain⟨c,rfl,c9,A,o,D,x⟩:=hrel;rcases Yj c a.length with j|c6
   .have r:c<n.length:=by have:=M.j;omega
    have d4:=N.j _ o.j c j r;have c7:(0:Int)<=↑c:=by omega
    have c8:(↑c:Int) < ↑a.length:=by omega
    have y:ac (fX b a=if kV b a[c]then .error ⟨9,(cU a[c]).2⟩else fX b (a.drop (c+1))):=by
     refine x.j.trans ?_;rw[Yk j];rfl
    have K:=Z (NI A.j o.j (z.j c j r) I.j (J.j _ (Yy j)));go_wp2_with fail;refine K.j.mono ?_;rintro g b8 ⟨rfl,s⟩;have P:=Z (o.j.F s (by simp) (by simp));have c1:=Z (A.j.kv s);have t:am [] d b8:=D.u s;cases d1:kV b a[c]with
    |true=>
     have d3:=oG (z.j c j r) P.j.2.1;go_wp2_with (first
      |(go_at_call 327;refine(nP _ _ _).mono ?_;rintro g b9 ⟨rfl,q⟩)
      |(go_at_call 70;refine(gR _ _ _).mono ?_;rintro g h ⟨rfl,rfl⟩))
     exact(show bodyPost prog Tryz.f75 (λg h=>(fX b a=.ok ()/\g=.returned (.tuple #[])/\am [] d h)\/(∃i,fX b a=.error i/\am [] d h/\fa d i.no i.m g h)) (Exit.panic _) _ _ from aC (Ya ⟨⟨9,(cU a[c]).2⟩,y.j.trans (by simp_all),(by first|exact(t.u (bh [] q)).B _|exact(t.drew.trans (am.a1 [] q)).B _),b9.heap.size,by have:=t.ar;have:=q.size;omega,rfl,aS rfl⟩))
    |false=>
     have c0:ac (fX b a=fX b (a.drop (c+1))):=y.j.trans (by simp_all);go_wp2;grind [intOf]
   .have a8:c=a.length:=by omega
    subst a8;have a4:fX b a=.ok ():=by
     refine x.j.trans ?_;rw[List.drop_length];rfl
    have G:=Z a4;go_wp2;go_end0;exact Y8 ⟨G.j,rfl,D⟩
section
variable {d:Ad}{g:Bool}{a:Zb×Nat}{e:Unit}{f τ:Type}{b c:St}
def mK(d:Zb)(e:PX τ aO):Prop:=∀f b a g c,e f b=.ok (a,g,c)->a.t=d/\Kn b.A c.A
def oQ(d:PX τ aO):Prop:=∀e b a f c,d e b=.ok (a,f,c)->(aL c.A a.t).isSome
theorem Le.kn(a:Le b c):Kn b.A c.A:=a.2.2.2.2.2
theorem sK(a:aO):mK a.t (cX (τ:=τ) a):=by
 intro f b d g c e;simp_all[cX,oO]
theorem sJ{i:Zb}{g:PX τ f}{h:f->PX τ aO}(m:bW g)(l:∀d,mK i (h d)):mK i (aG g h):=by
 intro o b p r c a;cases e:g o b with
 |error q=>rw[bm e]at a;cases a
 |ok n=>
  obtain⟨d,s,t⟩:=n;rw[aQ e]at a;obtain⟨j,k⟩:=l d _ _ _ _ _ a;exact⟨j,(m _ _ _ _ _ e).kn.u k⟩
theorem BP{a:Zb}{b c:PX τ aO}(d:mK a b)(e:mK a c):mK a (if g then b else c):=by grind
theorem uJ{h:PX τ f}{e:f->PX τ aO}(i:∀d,oQ (e d)):oQ (aG h e):=by
 intro k b l n c a;cases g:h k b with
 |error m=>rw[bm g]at a;cases a
 |ok j=>obtain⟨d,o,p⟩:=j;rw[aQ g]at a;exact i d _ _ _ _ _ a
theorem xF{a b:PX τ aO}(c:oQ a)(d:oQ b):oQ (if g then a else b):=by grind
theorem Ha{a:Mar.aT}(d:fV a b=.ok (e,c)):(aL c.A a.text).isSome:=by
 grind [fV,AU]
theorem Bt{i:Za}{o:Unit}(f:name i (fW d) e b=.ok (a,o,c)):(aL c.A a.1).isSome:=by
 unfold name at f;cases n:next i b with
 |error k=>simp_all[bm,cB]
 |ok g=>
  obtain⟨h,j⟩:=g;rw[aQ (bf n)]at f;cases m:((h.C:Int)==1)with
  |false=>simp_all[vI]
  |true=>
   rw[m]at f;simp only[if_true]at f
   cases l:fV h j with
   |error k=>simp_all[bm,fW,cB]
   |ok g=>
    obtain⟨v,p⟩:=g;rw[aQ (show (fW d).a4 h e j=.ok (v,e,p)from bf l)]at f;grind [cX,Ha]
theorem uK{h:Za}{g:Zb×Nat->PX Unit aO}(k:∀a,mK a.1 (g a)):oQ (aG (name h (fW d)) g):=by
 intro m b n p c e;cases f:name h (fW d) m b with
 |error o=>rw[bm f]at e;cases e
 |ok l=>
  obtain⟨a,q,r⟩:=l;rw[aQ f]at e;obtain⟨i,j⟩:=k a _ _ _ _ _ e;rw[i];exact j.1 _ (Bt f)
theorem BO(b:Za)(a:Zb×Nat)(c:Ty):mK a.1 (mX (τ:=τ) b a c):=by
 unfold mX;exact sJ (el (uA _)) λ_=>sK ⟨a.1,a.2,_⟩
theorem Mf(c:Za)(b:Ty)(a:Zb×Nat):mK a.1 (ph (τ:=τ) c b a):=by
 unfold ph;refine sJ (el (py _ _)) λd=>?_;unfold pi;refine BP (BO _ _ _) (sJ (el (py _ _)) λe=>?_);unfold pj;exact BP (BO _ _ _) (sK ⟨a.1,a.2,b⟩)
theorem LA(d:Ad)(c:Za):oQ (dW c (fW d)):=by
 unfold dW;refine uJ λb=>?_;unfold mW;refine xF (uK λa=>sJ (el (uA _)) λ_=>sK ⟨a.1,a.2,_⟩) (uJ λb=>?_);unfold mc;refine xF (uK λa=>sJ (el (xy _)) λ_=>sK ⟨a.1,a.2,_⟩) (uJ λe=>?_);unfold qE;refine uJ λb=>?_;unfold ob;exact xF (uK λa=>sK ⟨a.1,a.2,_⟩) (uK λa=>Mf _ _ _)
theorem GL{f:Za}{d:aO}(a:md f b=.ok (d,c)):(aL c.A d.t).isSome:=by
 unfold md hA at a;cases e:dW f (fW nn) () b with
 |error i=>simp_all
 |ok g=>obtain⟨h,j,k⟩:=g;rw[e]at a;cases a;exact LA _ _ _ _ _ _ _ e
theorem Lv{e:Za}(d:gf e b=.ok (a,c)):(aL c.A a.1).isSome:=by
 unfold gf hA at d;grind [Bt]
end
section
variable {n:Zb×Nat}{a:Type}
def nJ(e:PM a):Prop:=∀b d c,e b=.ok (d,c)->Kn b.A c.A
theorem de.k{b:PM a}(d:de b):nJ b:=λf c g e=>(d f c g e).kn
def mM(n:Zb×Nat)(d:PM aB):Prop:=∀b a c,d b=.ok (a,c)->cU a=n/\Kn b.A c.A
def lT(d:PM aB):Prop:=∀c b a,d c=.ok (b,a)->(aL a.A (cU b).1).isSome/\Kn c.A a.A
def ru{a:aB}(c:cU a=n):mM n (ret a):=by
 intro e b f d;grind [ret,oO]
def gP{e:PM a}{f:a->PM aB}(j:nJ e)(i:∀c,mM n (f c)):mM n (aF e f):=by
 intro l m p b;cases d:e l with
 |error o=>rw[bl d]at b;cases b
 |ok k=>
  obtain⟨c,q⟩:=k;rw[aE d]at b;obtain⟨g,h⟩:=i c _ _ _ b;exact⟨g,(j _ _ _ d).u h⟩
def Rp{c:Bool}{a b:PM aB}(d:mM n a)(e:mM n b):mM n (if c then a else b):=by grind
def pP{e:PM a}{f:a->PM aB}(j:nJ e)(i:∀c,lT (f c)):lT (aF e f):=by
 intro l m o b;cases d:e l with
 |error n=>rw[bl d]at b;cases b
 |ok k=>
  obtain⟨c,p⟩:=k;rw[aE d]at b;obtain⟨g,h⟩:=i c _ _ _ b;exact⟨g,(j _ _ _ d).u h⟩
def tg{e:Za}{c:Zb×Nat->PM aB}(g:∀n,mM n (c n)):lT (aF (gf e) c):=by
 intro i j l a;cases b:gf e i with
 |error k=>rw[bl b]at a;cases a
 |ok h=>
  obtain⟨n,m⟩:=h;rw[aE b]at a;obtain⟨f,d⟩:=g n _ _ _ a;exact⟨by rw[f];exact d.1 _ (Lv b),(px _ _ _ _ b).kn.u d⟩
def QR(b:Za)(a:Nat):lT (jm b a):=by
 unfold jm;refine pP (Bi _).k λ_=>tg λn=>?_;exact gP (dF _ _).k λ_=>gP (sF _ _).k λ_=>gP (dF _ _).k λ_=>ru rfl
def QV(e:Za)(g:Nat):lT (jw e g):=by
 unfold jw;refine pP (uC _).k λ_=>?_;intro i j l a;cases b:md e i with
 |error k=>rw[bl b]at a;cases a
 |ok h=>
  obtain⟨c,m⟩:=h;rw[aE b]at a;obtain⟨f,d⟩:=gP (n:=(c.t,c.m)) (dF _ _).k (λ_=>ru rfl) _ _ _ a;exact⟨by rw[f];exact d.1 _ (GL b),(Be _ _ _ _ b).kn.u d⟩
def Rq(e:Za)(n:Zb×Nat):∀(b:Nat) (a:List (Zb×Nat×Int)) (c:List (Int×Int)),mM n (gL e n b a c):=by
 intro b;induction b with
 |zero=>intro a c g h o d;simp_all[gL,fi]
 |succ b k=>
  intro a c g h o d;cases f:hE e a.length c g with
  |error p=>simp_all[ux]
  |ok m=>
   obtain⟨l,q,s⟩:=m;rw[sB f]at d;obtain⟨i,j⟩:=gP (n:=n) (jX _ _).k (λr=>Rp (k _ _) (show mM n (oe e n (a++[l]))from gP (dF _ _).k λ_=>gP (dF _ _).k λ_=>ru rfl)) _ _ _ d;exact⟨i,(Bh _ _ _ _ _ _ _ f).kn.u j⟩
def QS(b:Za)(a:Nat):lT (gX b a):=by
 unfold gX;exact pP (uC _).k λ_=>tg λn=>gP (dF _ _).k λ_=>Rq _ _ _ _ _
def QU(b:Za)(a:Nat):lT (iX b a):=by
 unfold iX;exact pP (uC _).k λ_=>tg λn=>gP (sE (uz _ _ _ (Bl _ _)) _).k λ_=>gP (dF _ _).k λ_=>ru rfl
def QW(b:Za)(a:Nat):lT (dT b a):=by
 unfold dT;refine pP (uC _).k λ_=>tg λn=>?_;unfold pV;refine gP (dF _ _).k λ_=>gP (dF _ _).k λ_=>gP (Bk _).k λd=>?_;unfold rz;refine gP (uE (uB _ _ _) _).k λc=>?_;unfold tj;refine gP (dF _ _).k λ_=>gP (dF _ _).k λ_=>gP (uE (Ba _ _ _ _) _).k λe=>?_;unfold lK pT;exact gP (dF _ _).k λ_=>gP (dF _ _).k λ_=>ru rfl
def JA(d:Za)(c:Int->Bool):nJ (kQ d c):=by
 intro e g k a;cases b:fM d c e.O e with
 |error h=>simp_all[uU]
 |ok f=>
  obtain⟨j,i,l⟩:=f;rw[xJ b]at a;cases a
  exact(sD _ _ _ _ _ _ _ b).kn
def xk{j:Type}{e:PM a}{f:a->PM j}(h:nJ e)(g:∀c,nJ (f c)):nJ (aF e f):=by
 intro k l n b;cases d:e k with
 |error m=>rw[bl d]at b;cases b
 |ok i=>obtain⟨c,o⟩:=i;rw[aE d]at b;exact(h _ _ _ d).u (g c _ _ _ b)
def Jz(a:Za):nJ (mf a):=by
 unfold mf;exact xk (dF _ _).k λ_=>xk (JA _ _) λ_=>xk (dF _ _).k λ_=>(iU _).k
def QT(c:Za)(b:Nat):lT (ia c b):=by
 unfold ia;refine pP ?_ λ_=>tg λn=>?_
 .intro e d f a;exact(xz _ _ _ _ _ _ a).kn
 .unfold pI;exact gP (sE (Bj _) _).k λ_=>gP (Jz _) λ_=>ru rfl
def Dj(b:Za):lT (gq b):=by
 unfold gq;refine pP (ov _).k λd=>?_;intro e c f a;unfold dQ at a;split at a
 .exact QR _ _ _ _ _ a
 split at a
 .exact QV _ _ _ _ _ a
 split at a
 .exact QS _ _ _ _ _ a
 split at a
 .exact QU _ _ _ _ _ a
 split at a
 .exact QW _ _ _ _ _ a
 split at a
 .exact QT _ _ _ _ _ a
 grind [fi]
end
def SA(b:Za)(a:Zw):Calls prog 71 #[.string b] a λc d=>c=.returned (Zp a.heap.size)/\d=a.alloc (.cells #[.string b,U 0,U 0,.string ⟨#[]⟩,U 0,U 0,.bool false] 222):=by
 go_in;go_wp2;go_ret;simp
def eK:St:=⟨0,none,0,0,[],[]⟩
def hZ(b:Za)(a:Zw):Zw:=
 (((a.alloc (.cells #[.string b,U 0,U 0,.string ⟨#[]⟩,U 0,U 0,.bool false] 222)).alloc (.map #[] 0)).alloc (.map #[] 0)).alloc
  (.cells #[Zp a.heap.size,.map (some (a.heap.size+1)),U 0,U 0,.map (some (a.heap.size+2))] 151)
def gV(a:Zw):Ad:=⟨a.heap.size+3,a.heap.size,a.heap.size+1,a.heap.size+2,[a.heap.size+3,a.heap.size,a.heap.size+1,a.heap.size+2]++List.range a.heap.size⟩
def JE(b:Za){a:Zw}(g:Gl a)(h:b.size<=4000000000):Rd (gV a) b eK (hZ b a)/\am [] a (hZ b a)/\(hZ b a).heap.size=a.heap.size+4:=by
 have i:(a.alloc (.cells #[.string b,U 0,U 0,.string ⟨#[]⟩,U 0,U 0,.bool false] 222)).heap.size=a.heap.size+1:=by simp
 have j:((a.alloc (.cells #[.string b,U 0,U 0,.string ⟨#[]⟩,U 0,U 0,.bool false] 222)).alloc (.map #[] 0)).heap.size=a.heap.size+2:=by simp
 have k:(((a.alloc (.cells #[.string b,U 0,U 0,.string ⟨#[]⟩,U 0,U 0,.bool false] 222)).alloc (.map #[] 0)).alloc (.map #[] 0)).heap.size=a.heap.size+3:=by simp
 have l:(hZ b a).heap.size=a.heap.size+4:=by unfold hZ;simp
 have c:am [] a (hZ b a):=((((ak [] a).B _).B _).B _).B _;have f:(hZ b a).heap[a.heap.size]? = some (.cells #[.string b,U 0,U 0,.string ⟨#[]⟩,U 0,U 0,.bool false] 222):=
  ((((ak [] _).B _).B _).B _).G _ (by omega) (by simp) |>.trans (aS rfl)
 have bN:(hZ b a).heap[a.heap.size+1]? = some (.map #[] 0):=(((ak [] _).B _).B _).G _ (by omega) (by simp) |>.trans (aS i.symm);have d:(hZ b a).heap[a.heap.size+2]? = some (.map #[] 0):=((ak [] _).B _).G _ (by omega) (by simp) |>.trans (aS j.symm);have e:(hZ b a).heap[a.heap.size+3]? = some (.cells #[Zp a.heap.size,.map (some (a.heap.size+1)),U 0,U 0,.map (some (a.heap.size+2))] 151):=aS k.symm;refine⟨⟨e,⟨YV _,_,_,_,_,f⟩,⟨by simp[eK],[],[],(by intro n m;grind),rfl,bN,(by simp)⟩,?_,?_,d,by simp[gV],g.F c (by simp) (by simp) (by simp),h,by simp[eK]⟩,c,l⟩
 .simp[gV]
 grind [gV]
section
def IY:(prog.info? 157).map (λa=>(a.zero,a.size,a.bytes))=some (some .nilIface,1,16):=by kernel_rfl
def Cs(a:aB):PM Unit:=λo=>.ok ((),{ o with A:=dd o.A (cU a).1 a })
def eD(e:Za):Nat->List aB->PM (List aB)
 |0,_=>fi 0 0
 |k+1,a=>aF (ft e) λc=>if((c.C:Int)==0)then ret a else aF (gq e) λb=>aF (Cs b) λ_=>eD e k (a++[b])
def eE(e:Za):Except Mar.aw (List aB):=
 if 1200<e.size then .error ⟨1,0⟩else match eD e 69 [] eK with
 |.error b=>.error b
 |.ok (a,o)=>match kO o a with
  |.error b=>.error b
  |.ok _=>match fX o a with
   |.error b=>.error b
   |.ok _=>.ok a
structure hQ(b:Ad)(e:Za)(f:Zw)(a:List aB)(c:List Nat)(l:Zo)(j:List Nat)(n:Zv)(o:St)(u:Zw):Prop where
 kp:am [b.R,b.S,b.N,b.P] f u
 rd:Rd (b.ab j) e o u
 ao:∀y∈j,f.heap.size<=y
 a6:∀g,n.ownBlock=some g->g∈j
 row:u.ownsRow f.heap.size 157 1 n a.length (mY a c)
 a2:c.length=a.length
 cI:bv (b.ab j).X l u
 dl:∀i (h:i<a.length) (h':i<c.length),dg l c[i] a[i]
section
variable {b : Ad} {e : Za} {f u p : Zw} {a : List aB} {c : List Nat} {l : List (Nat × Obj)} {j : List Nat} {n : Zv} {o r q : St}
def hQ.fe(g:hQ b e f a c l j n o u):∃ad d,n=.slice ad a.length d:=by
 rcases g.row.2 with⟨rfl,k⟩|⟨i,d,h,rfl,_⟩;all_goals simp_all
def hQ.bR{k:List Nat}(v:Rd b e q f)(d:hQ b e f a c l j n o u)(s:am k u p)(m:∀i∈k,i∈[b.R,b.S,b.N,b.P])(h:Rd (b.ab j) e r p):hQ b e f a c l j n r p:=by
 obtain⟨y,z,A,B⟩:=v.lt;have w:∀i∈k,i∈(b.ab j).X:=by
  intro i g;have g:=m i g;simp at g;rcases g with rfl|rfl|rfl|rfl
  .exact h.aj.1
  .exact h.aj.2.1
  .exact h.aj.2.2.1
  .exact h.aj.2.2.2
 refine⟨d.kp.u (s.K m),h,d.ao,d.a6,bi d.row s ?_,d.a2,d.cI.F s w,d.dl⟩;intro t x g;have g:=m _ g;have:=d.ao _ (d.a6 t x);grind
def hQ.au(g:Rd b e q f)(m:hQ b e f a c l j n o u)(d:Below u.heap.size u p):hQ b e f a c l j n o p:=m.bR g (bh [] d) (by simp) (m.rd.au d)
theorem hQ.h1(g:hQ b e f a c l j n o u)(d:Obj):(u.alloc d).ownsRow f.heap.size 157 1 n a.length (mY a c):=bi g.row ((ak [] u).B d) (by simp)
def EV{x p:Zw}{g y h:Nat}{d:aB}{bs':Zo}(A:Rd b e q f)(i:hQ b e f a c l j n o u)(H:dg bs' h d)(I:bv (b.ab j).X bs' u)(m:Below u.heap.size u x)
  (M:p.ownsRow f.heap.size 157 1 (.slice (some ⟨g,0,none⟩) (a.length+1) y) (a.length+1) (mY a c++[.iface (cA d) (Zp h)]))
  (s:x.grownBy p n.ownBlock) (B:n.ownBlock=some g\/g=x.heap.size) (L:g<p.heap.size) :
  hQ b e f (a++[d]) (c++[h]) (l++bs') (g::j) (.slice (some ⟨g,0,none⟩) (a.length+1) y) o p:=by
 obtain⟨a0,_⟩:=hn M (g:=g) rfl;have r:=i.au A m;have J:=I.F (bh [] m) (by simp);have D:∀h,n.ownBlock=some h->f.heap.size<=h/\h∈(b.ab j).X:=λh m=>⟨i.ao _ (i.a6 h m),Yf _ (i.a6 h m)⟩;have K:=fs s;refine⟨r.kp.b4 K ?_,qp A (cJ b j) r.rd s D B L,?_,?_,?_,by simp[i.a2],(r.cI.ca J).bo s (λh m=>(D h m).2) B,?_⟩
 .simp_all
 .intro O w;rcases Yg.1 w with rfl|w
  .omega
  .exact i.ao O w
 .grind [Value.ownBlock]
 .have z:mY (a++[d]) (c++[h])=mY a c++[.iface (cA d) (Zp h)]:=by
   unfold mY;rw[List.zip_append i.a2.symm,List.map_append];rfl
  simp_all
 .intro k P R;by_cases C:k<a.length
  .have t:k<c.length:=by rw[i.a2];omega
   rw[List.getElem_append_left C,List.getElem_append_left t];exact(show iH (l++bs') (.iface (cA a[k]) (.pointer (some ⟨c[k],0,none⟩))) (some a[k])from nF (λN v=>Yf _ v) ⟨_,rfl,i.dl k C t⟩).elim (λE G=>by simp_all)
  .have t:k=a.length:=by grind
   have S:=i.a2;rw[List.getElem_append_right (by omega),List.getElem_append_right (by omega)];have z:k-a.length=0:=by omega
   have F:k-c.length=0:=by omega
   simp only[z,F,List.getElem_cons_zero];exact(show iH (l++bs') (.iface (cA d) (Zp h)) (some d)from nF (λN v=>Ym _ v) ⟨_,rfl,H⟩).elim (λE G=>by simp_all)
def hQ.i6(w:Rd b e q f)(i:hQ b e f a c l j n o u)(y:a.length<=1000):∃g,iF (l++g) n a c/\bv b.X (l++g) u:=by
 have E:∀k,f.heap.size<=k->k ∉ b.X:=λk F z=>by have:=w.aY _ z;omega
 have A:bv b.X l u:=i.cI.b9 (λN B=>Ym _ B);have s:∀g d (h:d<a.length) (r:d<c.length),dg (l++g) c[d] a[d]:=λg d h r=>
  (show iH (l++g) (.iface (cA a[d]) (.pointer (some ⟨c[d],0,none⟩))) (some a[d])from nF (λC t=>Yf _ t) ⟨_,rfl,i.dl d h r⟩).elim (λD G=>by simp_all)
 rcases i.row.2 with⟨rfl,h⟩|⟨p,v,m,rfl,H,I,x,J,K,L⟩
 .have M:a=[]:=Yv.1 h;refine⟨[],⟨i.a2,Y8 ⟨rfl,h,?_⟩,s []⟩,by simp_all⟩;simp_all
 .refine⟨[(p,.cells m 157)],⟨i.a2,Ya ⟨p,v,m,rfl,⟨x,y⟩,by simp,?_⟩,s _⟩,?_⟩
  .grind
  .refine A.ca ?_;intro C t;simp_all
end
end
section
variable {d:aB}{c:List aB}{f:Mar.aw}{e:Mar.aT}{b g h:St}
def Dn{a:Za}{g:Nat}(d:ft a b=.ok (e,h))(f:((e.C:Int)==0)=true):eD a (g+1) c b=.ok (c,h):=by
 simp only[eD];rw[aE d,f];rfl
theorem Do{a:Za}{d:Nat}(e:ft a b=.error f):eD a (d+1) c b=.error f:=by
 simp_all[eD,bl]
def Dm{a:Za}{d:Nat}(g:ft a b=.ok (e,h))(j:((e.C:Int)==0)=false)(i:gq a h=.error f):eD a (d+1) c b=.error f:=by
 simp only[eD];grind [aE,bl]
def Dp{a:Za}{g:Nat}{f:St}(i:ft a b=.ok (e,h))(k:((e.C:Int)==0)=false)(j:gq a h=.ok (d,f)) :
  eD a (g+1) c b=eD a g (c++[d]) { f with A:=dd f.A (cU d).1 d }:=by
 simp only[eD];rw[aE i,k];exact aE j
structure lU(b:St)(c:List aB):Prop where
 H:b.L<=24
 co:b.av<=40
 pr:b.O.length<=4
 bp:c.length<=b.L+b.av+b.O.length
 nm:∀n d,aL b.A n=some (some d)->d∈c\/∃t a v,d=.const t a v
def lU.le(a:lU b c)(j:Le b g):lU g c:=by
 obtain⟨n,o,f,k,l,m⟩:=j;refine⟨k a.H,l a.co,by rw[f];exact a.pr,by rw[f];have:=a.bp;omega,λh d i=>?_⟩;rcases m.2 h d i with e|e
 .exact a.nm h d e
 simp_all
def lU.ds{m:Za}(e:lU b c)(k:gq m b=.ok (d,g)):lU { g with A:=dd g.A (cU d).1 d } (c++[d]):=by
 have f:=PL k;have o:=(Dj m _ _ _ k).2;have q:=f.up;have p:=e.bp;refine⟨f.H e.H,f.co e.co,f.pr e.pr,by grind,λh i a=>?_⟩;dsimp only at a;rw[uv]at a;cases l:aL g.A h with
 |none=>simp_all
 |some r=>
  rw[l]at a;simp only[Option.map_some,Yu]at a;split at a
  .simp_all
  .subst a;rcases o.2 h i l with j|j
   .rcases e.nm h i j with n|n;all_goals simp_all
   simp_all
def xl:∀(c:Ty) (b:Zb×Nat),b∈cH c->b∈cu c:=by
 intro c;induction c with
 |named i g=>intro b a;exact a
 |arr e h f d=>
  intro b a;cases f with
  |true=>exact d b (by simpa[cH]using a)
  |false=>simp[cH]at a
 |opt e d=>intro b a;simp[cH]at a
 |_=>intro b a;simp[cH]at a
def AP(d:aB)(h:Zb×Nat)(a:h∈eB d):h∈gp d:=by
 cases d with
 |const c b v=>simp[eB]at a
 |typedef d=>exact xl _ _ a
 |enum c b i=>simp[eB]at a
 |struct c b i=>
  simp only[eB,List.mem_flatMap]at a;obtain⟨e,g,f⟩:=a;exact List.mem_flatMap.2 ⟨e,g,xl _ _ f⟩
 |union c b l j=>
  simp only[eB,List.mem_flatMap]at a;obtain⟨e,g,f⟩:=a;exact List.mem_flatMap.2 ⟨e,g,xl _ _ f⟩
 |prog c b m k=>simp[eB]at a
def JX:∀(a:List (Zb×Nat)) (i:Unit),be (fK ⟨0,0,0,0,[]⟩ ⟨#[]⟩ b [] 0) a i=.ok ()->∀h∈a,∃d,aL b.A h.1=some (some d):=by
 intro a;induction a with
 |nil=>simp
 |cons g a n=>
  intro i c h j;simp only[be]at c;have k:(fK ⟨0,0,0,0,[]⟩ ⟨#[]⟩ b [] 0).a4 g i=lw b g:=rfl;rw[k]at c;cases e:lw b g with
  |error f=>simp_all
  |ok v=>
   rw[e]at c;rcases Yg.1 j with rfl|j
   .unfold lw at e;cases l:aL b.A h.1 with
    |none=>simp_all
    |some m=>
     rw[l]at e;cases m<;>simp_all[pq]
   grind
theorem AT(f:kO b c=.ok ()):∀d∈c,∀a∈eB d,∃e,aL b.A a.1=some (some e):=by
 intro d g a h;exact JX _ _ f a (List.mem_flatMap.2 ⟨d,g,AP d a h⟩)
def JY(h:lU b c)(j:kO b c=.ok ()):∀a d,aL b.A a=some (some d)->∀e∈eB d,∃f,aL b.A e.1=some (some f):=by
 intro a d g e l;rcases h.nm a d g with k|⟨m,i,v,rfl⟩;all_goals grind [AT,eB]
def RD:lU eK []:=⟨by simp[eK],by simp[eK],by simp[eK],by simp,by grind [eK,aL]⟩
def Hc{d a:Ad}(c:ew d a){e:Za}{f:Zw}(g:Rd d e b f) :
  Calls prog 73 #[Zp a.R] f (tC [a.R,a.S,a.N,a.P] d e f (gq e b)):=by
 have:=Hb g;rw[c.1,c.2.1,c.2.2.1,c.2.2.2]at this;exact this
end
section
variable {a:List aB}{b:Mar.aw}{c:St}
def rJ(i:Za)(c:Zw)(g:Ending)(d:Zw):Prop:=
 (∃a h j f,eE i=.ok a/\g=.returned h/\am [] c d/\iF f h a j/\∀e∈f,d.heap[e.1]? = some e.2/\c.heap.size<=e.1)\/(∃b,eE i=.error b/\am [] c d/\fa c b.no b.m g d)
def Dr{a:Za}(c:¬1200<a.size)(d:eD a 69 [] eK=.error b):eE a=.error b:=by simp_all[eE,Y2]
def Rc{d:Za}(e:¬1200<d.size)(f:eD d 69 [] eK=.ok (a,c))(g:kO c a=.error b):eE d=.error b:=by simp_all[eE,Y2]
def Rb{d:Za}(e:¬1200<d.size)(g:eD d 69 [] eK=.ok (a,c))(h:kO c a=.ok ())(f:fX c a=.error b):eE d=.error b:=by simp_all[eE,Y2]
def Rg{b:Za}(d:¬1200<b.size)(f:eD b 69 [] eK=.ok (a,c))(g:kO c a=.ok ())(e:fX c a=.ok ()):eE b=.ok a:=by simp_all[eE]
def zk(d:Za){c:Zw}(b0:Gl c):Calls prog 44 #[.string d] c (rJ d c):=by
 have k4:=jr;have k2:=HS;have k1:=qK 160 λ_ _ _=>by kernel_rfl
 have k7:=nQ;obtain⟨i1,h0,h8,h9,f5⟩:=info_parts IY;by_cases e7:1200<d.size
 .have f8:ac (eE d=.error ⟨1,0⟩):=by show _=_;simp_all[eE]
  have e8:(1200:Int) < ↑d.size:=by omega
  go_in;go_wp2_with (go_at_call 70;refine(gR _ _ _).mono ?_;rintro A c3 ⟨rfl,rfl⟩);exact aC (Ya ⟨⟨1,0⟩,f8.j,(by first|exact(ak [] c).B _|exact(am.refl [] c).drew.alloc _),c.heap.size,Y4 _,rfl,aS rfl⟩)
 .obtain⟨b7,e5,k6⟩:=JE d b0 (by omega);have k5:¬(1200:Int) < ↑d.size:=by omega
  have E:=Z e7;have i:=Z b7;have D:=Z e5;have d2:ac (hQ (gV c) d (hZ d c) [] [] [] [] (.slice none 0 0) eK (hZ d c)):=⟨ak _ _,b7,by simp,(by intro g7 b0;cases b0),⟨rfl,Y8 ⟨rfl,rfl⟩⟩,rfl,(by intro C h;grind),(by simp)⟩;clear b7 e5 e7;go_in;go_wp2_with (first|(go_at_call 71;refine(SA _ _).mono ?_;rintro A c3 ⟨rfl,rfl⟩));go_loopw [4] (λc2 i2=>∃(a:List aB) (l:List Nat) (q:Zo) (z:List Nat) (H:St),ac (lU H a)/\ac (hQ (gV c) d (hZ d c) a l q z c2 H i2)/\ac (eD d 69 [] eK=eD d (69-a.length) a H)) (λc2 _=>69-ur c2)
  case atStart=>exact⟨[],[],[],[],eK,RD,d2,rfl⟩
  case round=>
   obtain⟨a,l,q,z,H,y,n,f7⟩:=hrel;clear d2;obtain⟨ad,K,rfl⟩:=n.j.fe;have k3:a.length<=68:=by have j5:=y.j.bp;have j6:=y.j.H;have j7:=y.j.co;have j8:=y.j.pr;omega
   have x:ac (eD d 69 [] eK=eD d ((68-a.length)+1) a H):=by
    grind
   have g6:wr.cell? ⟨c.heap.size+3,0,none⟩=some (Zp c.heap.size):=n.j.rd.al.1;clear f7;go_wp2_with fail;refine(xS (cJ (gV c) z) n.j.rd).mono ?_;rintro A i4 ⟨b4,⟨c5,i6,u,rfl,f2⟩|⟨b,u,p,a8,rfl,s⟩⟩;rotate_left
   .have c1:=n.j.kp.ar;exact(show bodyPost prog Tryz.f44 (rJ d c) (Exit.panic _) _ i4 from aC (Ya ⟨b,Dr E.j (x.j.trans (Do u)),(D.j.b4 n.j.kp (by simp_all[gV])).b4 b4 (by simp_all[gV]),p,by omega,rfl,s⟩))
   have e:=Z (n.j.bR i.j b4 (by simp) f2);have a1:=Z (y.j.le (uD _ _ _ _ u));clear b4 f2 n y;dsimp only[cL];cases b6:((c5.C:Int)==0)with
   |true=>
    have h1:((c5.C:Int) != 0)=false:=by simp_all
    have e3:=x.j.trans (Dn u b6);have R:=Z e3;obtain⟨J,a9,b3⟩:=e.j.i6 i.j (by omega);have b8:=jj i.j.aj e.j.rd;have g2:=Z (JV b8 b3 a9);have g4:=Z b8;have c9:=Z b3;have I:=Z a9;clear e3 x b8 b3 a9;go_wp2_with fail;refine g2.j.mono ?_;rintro A m (⟨k,rfl,g⟩|⟨b,k,b5,p,a8,rfl,s⟩);rotate_left
    .have c1:=e.j.kp.ar;exact(show bodyPost prog Tryz.f44 (rJ d c) (Exit.panic _) _ m from aC (Ya ⟨b,Rc E.j R.j k,(D.j.b4 e.j.kp (by simp_all[gV])).u b5,p,by omega,rfl,s⟩))
    have b9:=g4.j.kv g;obtain⟨f6,a4,i3,d7,d8,d9,e0⟩:=b9.nm;have f0:lP (gV c).X (gV c).N i6.A ((q++J)++a4) i3 m:=⟨f6,(c9.j.F g (by simp)).ca d7,d8,d9,λw r a5=>nF (λC h=>Ym _ h) (e0 w r a5)⟩;have e2:iF ((q++J)++a4) (.slice ad a.length K) a l:=⟨I.j.a2,I.j.row.K (λC h=>Yf _ h),λw r a5=>(show iH ((q++J)++a4) (.iface (cA a[w]) (.pointer (some ⟨l[w],0,none⟩))) (some a[w])from nF (λC h=>Yf _ h) ⟨_,rfl,I.j.dl w r a5⟩).elim (λj1 k0=>by simp_all)⟩
    have g3:=Z (HW b9 f0 e2 (JY a1.j k) (AT k));have c7:=Z (c9.j.F g (by simp));have S:=Z g;have d0:=Z k;clear b9 f6 d7 d8 d9 e0 f0 e2 g k;go_wp2_with fail;refine g3.j.mono ?_;rintro A i5 (⟨M,rfl,e6⟩|⟨b,M,b5,p,a8,rfl,s⟩);rotate_left
    .have c1:=e.j.kp.ar;have f5:=S.j.ar;exact(show bodyPost prog Tryz.f44 (rJ d c) (Exit.panic _) _ i5 from aC (Ya ⟨b,Rb E.j R.j d0.j M,((D.j.b4 e.j.kp (by simp_all[gV])).u S.j).u b5,p,by omega,rfl,s⟩))
    have f9:=Z M;have a0:=Z e6;clear M e6;go_wp2;go_ret;refine Y8 ⟨a,_,l,q++J,Rg E.j R.j d0.j f9.j,rfl,?_,I.j,λC h=>⟨((c7.j.F a0.j (by simp)) C h).1,Nat.le_of_not_lt λh2=>((c7.j.F a0.j (by simp)) C h).2 (Ym _ (List.mem_range.2 h2))⟩⟩;exact((D.j.b4 e.j.kp (by simp_all[gV])).u S.j).u a0.j
   |false=>
    have h1:((c5.C:Int) != 0)=true:=by simp_all
    have k9:=u;go_wp2_with fail;refine(Hc (cJ (gV c) z) e.j.rd).mono ?_;rintro A m ⟨g,⟨j,P,d6,g5,G,rfl,O,e1,e4⟩|⟨b,G,p,a8,rfl,s⟩⟩;rotate_left
    .have c1:=e.j.kp.ar;exact(show bodyPost prog Tryz.f44 (rJ d c) (Exit.panic _) _ m from aC (Ya ⟨b,Dr E.j (x.j.trans (Dm u b6 G)),(D.j.b4 e.j.kp (by simp_all[gV])).b4 g (by simp_all[gV]),p,by omega,rfl,s⟩))
    have d3:=e.j.bR i.j g (by simp) O;have i9:=Z (a1.j.ds G);have i7:=Z (x.j.trans (Dp u b6 G));obtain⟨l1,h4⟩:=Option.isSome_iff_exists.1 (Dj d _ _ _ G).1;have d4:=d3.au i.j (Below.refl _ _).drew;have b1:=e4.F (bh [] (Below.refl m.heap.size m).drew) (by simp);have h7:=oG e1 b1;have j2:m.cell? ⟨c.heap.size+3,1,none⟩=some (.map (some (c.heap.size+1))):=O.al.2.1;have d1:=Z d4;have c8:=Z b1;have c6:=Z e1;have l0:c.heap.size+3<m.heap.size:=O.lt.1;clear x g O e4 e a1 d3 d4 b1 g6;go_wp2_with fail;refine cx (λc3=>c3.cell? ⟨c.heap.size+3,1,none⟩=some (.map (some (c.heap.size+1)))) (L:=8) (by kernel_rfl) rfl (by kernel_rfl) (by kernel_rfl) ?_ (λg8=>?_)
    .go_keep
    refine bH [0,1,2,3,4,7] ?_;iterate 6 (refine bK (v:=?_) rfl (by kernel_rfl) (λ_ _ _ r=>r) (by rfl) (by assumption) ?_ ?_;rotate_left;focus (intro c a6;(try dsimp only at a6);go_simp;(try with_reducible rfl));(try simp only[aJ,aK,List.set]))
    refine bI ?_;refine bF 5 (by kernel_rfl) rfl λa2 F=>?_;(go_simp;go_at_call 327;refine(nP _ _ _).mono ?_;rintro A c4 ⟨rfl,a7⟩;have o:=d1.j.au i.j a7;have j3:c4.cell? ⟨c.heap.size+3,1,none⟩=some (.map (some (c.heap.size+1))):=o.rd.al.2.1;have b2:=c8.j.F (bh [] a7) (by simp);obtain⟨B,f1,e9⟩:=fR.a9 o.rd.nm o.rd.aj.2.2.1 h4 c6.j b2;have f3:=Rd.jO o.rd e9;have d5:=Z (o.bR i.j (iu _ _ _) (by simp_all[Ad.ab]) f3);have g0:=Z (b2.F (iu c4 (c.heap.size+1) B) (by intro l3 f4;simp only[Yc]at f4;subst f4;exact o.rd.aj.2.2.1));dsimp only[Ad.ab,gV]at f1;clear a7 o b2 e9 f3);refine F.out _ _ ?_ (λg8=>?_)
    .go_keep
    clear F a2;(try simp only[aJ,aK,List.set]);refine tk (i:=6) (v:=?_) rfl (by kernel_rfl) (λ_ _ _ r=>r) (by rfl) (by assumption) ?_ ?_;rotate_left
    .intro c a6;(try dsimp only at a6);go_simp;(try with_reducible rfl)
    (try simp only[aJ,aK,List.set]);refine cR (by kernel_rfl) rfl λa2 F=>?_;go_simp;refine F.out _ _ ?_;clear F a2;(try simp only[aJ,aK,List.set]);obtain⟨f,c0⟩:∃f,f=dC c4 (c.heap.size+1) B:=⟨_,rfl⟩;rw[<-c0];have a3:ac (hQ (gV c) d (hZ d c) a l q z (.slice ad a.length K) { P with A:=dd P.A (cU j).1 j } f):=by rw[c0];exact d5
    have g1:ac (bv ((gV c).ab z).X g5 f):=by simp_all
    clear d5 g0 f1 c0 h7 d1 c8;have h5:∀B,(f.alloc B).ownsRow (hZ d c).heap.size 157 1 (.slice ad a.length K) a.length (mY a l):=λB=>a3.j.h1 B;have k8:(hZ d c).heap.size<=f.heap.size:=a3.j.kp.ar;have h3:a.length+1<=maxLen:=by unfold maxLen;omega
    have k:(a.length+1)*16<=140737488355328:=by omega
    have i0:Value.nilIface.cells.size=1:=rfl;go_wp2_with (first
     |(at_builtin;refine wpList_append_lies _ (by rfl) _ _ _ (by rfl) (hZ d c).heap.size 157 i1 _ 1 16 underlying99 h0 h8 h9 f5 i0 (by omega) (.slice ad a.length K) a.length (mY a l) (by rfl) (h5 _) ⟨f.heap.size,0,none⟩ 1 1 [.iface (cA j) (.pointer (some ⟨d6,0,none⟩))] (by rfl) (by rfl) (World.news_of_block (cs:=#[.iface (cA j) (.pointer (some ⟨d6,0,none⟩))]) (t:=157) (fr:=(0,0)) (heap_alloc_new f _)) (by simp[Value.oneCell']) (by omega) h3 k (by simp;omega) (f.heap.size+1) (by simp) ?_;intro g7 j4 l2 h6 g9 j9 e8))
    have j0:=Z (EV i.j a3.j c6.j g1.j ((Below.refl f.heap.size f).alloc (Y4 _) _) h6 g9 (by simp_all) e8);have i8:ac (eD d 69 [] eK=eD d (69-(a++[j]).length) (a++[j]) { P with A:=dd P.A (cU j).1 j }):=by
     simp_all
    grind [ur]
end
def Ea(a:Nat)(b:Zw):Calls prog 43 #[.iface 143 (Zp a)] b λc d=>c=.returned (.iface 143 (Zp a))/\d=b:=by
 have f:=mz 143 a 20 143 λe=>by kernel_rfl
 go_in;go_wp2;go_ret;simp
def xj(a:Nat):Zb:=
 if((a:Int)==0)then [105,110,116]else if((a:Int)==1)then [117,110,115,105,103,110,101,100]else if((a:Int)==2)then [104,121,112,101,114]else if((a:Int)==3)then [117,110,115,105,103,110,101,100,32,104,121,112,101,114]else [98,111,111,108]
def Su(a:Nat)(b:Zw):Calls prog 342 #[U a] b λc d=>c=.returned (.string ⟨(xj a).toArray⟩)/\d=b:=by
 go_in;go_wp2;all_goals
  go_ret
  refine⟨?_,rfl⟩
  unfold xj
  simp only[*,Ye,if_false,if_true]
  rfl
def dm:Ty->Zb
 |.named b _=>b
 |.plain a=>xj a
 |_=>[118,111,105,100]
def pS(l:Ty)(m:Zw):Calls prog 341 #[bj l] m λb e=>b=.returned (.string ⟨(dm l).toArray⟩)/\Below m.heap.size m e:=by
 cases l with
 |plain j=>
  have f:∀a,(Instr.typeAssert (.iface 372 (.agg #[U j])) 240 260 true).run prog a=.ok (.tuple #[.agg #[.string ⟨#[]⟩,U 0],.bool false]) a:=λa=>by kernel_rfl
  have g:∀a,(Instr.typeAssert (.iface 372 (.agg #[U j])) 240 372 true).run prog a=.ok (.tuple #[.agg #[U j],.bool true]) a:=λa=>by kernel_rfl
  dsimp only[bj];go_in;go_wp2_with (first|(go_at_call 342;refine(Su _ _).mono ?_;rintro b e ⟨rfl,rfl⟩));go_ret;exact⟨rfl,by first|exact Below.refl _ _|exact(Below.refl _ _).alloc (Y4 _) _⟩
 |named k i=>
  have f:∀a,(Instr.typeAssert (.iface 260 (.agg #[Zs k,U i])) 240 260 true).run prog a=.ok (.tuple #[.agg #[Zs k,U i],.bool true]) a:=λa=>by kernel_rfl
  have g:∀a,(Instr.typeAssert (.iface 260 (.agg #[Zs k,U i])) 240 372 true).run prog a=.ok (.tuple #[.agg #[U 0],.bool false]) a:=λa=>by kernel_rfl
  dsimp only[bj];go_in;go_wp2_with (first|(go_at_call 342;refine(Su _ _).mono ?_;rintro b e ⟨rfl,rfl⟩));go_ret;exact⟨rfl,by first|exact Below.refl _ _|exact(Below.refl _ _).alloc (Y4 _) _⟩
 |opaq d c=>
  have f:∀a,(Instr.typeAssert (.iface 377 (.agg #[U d,.bool c])) 240 260 true).run prog a=.ok (.tuple #[.agg #[.string ⟨#[]⟩,U 0],.bool false]) a:=λa=>by kernel_rfl
  have g:∀a,(Instr.typeAssert (.iface 377 (.agg #[U d,.bool c])) 240 372 true).run prog a=.ok (.tuple #[.agg #[U 0],.bool false]) a:=λa=>by kernel_rfl
  dsimp only[bj];go_in;go_wp2_with (first|(go_at_call 342;refine(Su _ _).mono ?_;rintro b e ⟨rfl,rfl⟩));go_ret;exact⟨rfl,by grind [Below.refl]⟩
 |str d c=>
  have f:∀a,(Instr.typeAssert (.iface 380 (.agg #[U d,.bool c])) 240 260 true).run prog a=.ok (.tuple #[.agg #[.string ⟨#[]⟩,U 0],.bool false]) a:=λa=>by kernel_rfl
  have g:∀a,(Instr.typeAssert (.iface 380 (.agg #[U d,.bool c])) 240 372 true).run prog a=.ok (.tuple #[.agg #[U 0],.bool false]) a:=λa=>by kernel_rfl
  dsimp only[bj];go_in;go_wp2_with (first|(go_at_call 342;refine(Su _ _).mono ?_;rintro b e ⟨rfl,rfl⟩));go_ret;exact⟨rfl,by grind [Below.refl]⟩
 |arr h d c=>
  have f:∀a,(Instr.typeAssert (.iface 382 (.agg #[bj h,U d,.bool c])) 240 260 true).run prog a=.ok (.tuple #[.agg #[.string ⟨#[]⟩,U 0],.bool false]) a:=λa=>by kernel_rfl
  have g:∀a,(Instr.typeAssert (.iface 382 (.agg #[bj h,U d,.bool c])) 240 372 true).run prog a=.ok (.tuple #[.agg #[U 0],.bool false]) a:=λa=>by kernel_rfl
  dsimp only[bj];go_in;go_wp2_with (first|(go_at_call 342;refine(Su _ _).mono ?_;rintro b e ⟨rfl,rfl⟩));go_ret;exact⟨rfl,by grind [Below.refl]⟩
 |opt h=>
  have f:∀a,(Instr.typeAssert (.iface 385 (.agg #[bj h])) 240 260 true).run prog a=.ok (.tuple #[.agg #[.string ⟨#[]⟩,U 0],.bool false]) a:=λa=>by kernel_rfl
  have g:∀a,(Instr.typeAssert (.iface 385 (.agg #[bj h])) 240 372 true).run prog a=.ok (.tuple #[.agg #[U 0],.bool false]) a:=λa=>by kernel_rfl
  dsimp only[bj];go_in;go_wp2_with (first|(go_at_call 342;refine(Su _ _).mono ?_;rintro b e ⟨rfl,rfl⟩));go_ret;exact⟨rfl,by grind [Below.refl]⟩
 |void=>
  have f:∀a,(Instr.typeAssert (.iface 444 (.agg #[])) 240 260 true).run prog a=.ok (.tuple #[.agg #[.string ⟨#[]⟩,U 0],.bool false]) a:=λa=>by kernel_rfl
  have g:∀a,(Instr.typeAssert (.iface 444 (.agg #[])) 240 372 true).run prog a=.ok (.tuple #[.agg #[U 0],.bool false]) a:=λa=>by kernel_rfl
  dsimp only[bj];go_in;go_wp2_with (first|(go_at_call 342;refine(Su _ _).mono ?_;rintro b e ⟨rfl,rfl⟩));go_ret;exact⟨rfl,by grind [Below.refl]⟩
def bt(b a:Zb):Bool:=
 if b==[]||b==[40]||b==[91]||b==[60]||b==[42]then false
 else if a==[59]||a==[44]||a==[58]||a==[41]||a==[91]||a==[93]||a==[60]||a==[62]then false
 else if a==[40]then b==[115,119,105,116,99,104]else true
def Fl(a b:Zb)(c:Zw):Calls prog 102 #[Zs a,Zs b] c λd e=>d=.returned (.bool (bt a b))/\e=c:=by
 go_in;go_wp2;all_goals
  go_ret
  refine⟨?_,rfl⟩
  apply kU
  unfold bt
  simp_all
end Go.Proofs.YtjdhaegijjednaaGreatDoor
namespace Go.Proofs.YtjdhaegijjednaaGreatDoor
open Go.RowKit
open Go.MapKept
open Go.Sort Go.Lib
open Go.Proofs.Tryz
def Hm (a : Int) (g : -9223372036854775808 ≤ a) (h : a ≤ 9223372036854775807) (d : World) (i : Lib.TabIs Tryz.prog d "internal/strconv.uint64pow10" .u64 Lib.pow10Tab) :
  Calls prog 334 #[U a] d λe f=>e=.returned (.string ⟨(Lib.itoa a).toArray⟩)/\∃b c,f=grow (d.drewN b) c:=by
 go_in;go_wp2_with (go_at_call 335;refine(Tryz.strconv_FormatInt_10 a g h _ i).mono ?_;rintro e f ⟨rfl,b,c,rfl⟩);go_ret;exact⟨rfl,b,c,rfl⟩
end Go.Proofs.YtjdhaegijjednaaGreatDoor
namespace Go.Proofs.YtjdhaegijjednaaGreatDoor
open Go.RowKit Go.Shelf
open Go.Proofs.Tryz
section
variable {a d:Nat}{c:Zb}{b:Zw}
def zB:(prog.info? 187).map (·.size)=some 2:=by kernel_rfl
def FG:liesAt prog prog.depth 187 (2 / prog.cellsOf 187) 0 187 1=true:=by kernel_rfl
def zA:(prog.info? 5).map (λa=>(a.zero,a.size,a.bytes))=some (some (Value.int .u8 0),1,1):=by kernel_rfl
def FX(a:Nat)(c:Zw)(h:c.cell? (Zd a 0)=some (Zp a)) :
  Calls prog 171 #[Zp a] c λe g=>e=.returned (.tuple #[])/\g=c:=by
 obtain⟨j,f,_⟩:=Option.map_eq_some_iff.1 zB;have i:=λb d=>Lib.run_neq_ptr_same (P:=prog) b (tp:=185) d underlying185 f;go_in;go_wp2;go_end0;simp
def FW(a:Nat)(b:Zw)(g:b.cell? (Zd a 0)=some (.pointer none))(d:b.shape? a=some (187,2))(h:b.frozen? ⟨a,0,none⟩=false) :
  Calls prog 171 #[Zp a] b λe f=>e=.returned (.tuple #[])/\f=b.setCell ⟨a,0,none⟩ (Zp a):=by
 obtain⟨j,c,i⟩:=Option.map_eq_some_iff.1 zB;go_in;go_wp2;rw[Lib.run_to_unsafe b ⟨a,0,none⟩ underlying185 underlying299 c (by omega) d (Nat.zero_lt_succ 1)];simp only[Result.andThen];rw[Oper.upon_value];go_wp2;rw[run_callFunc_extern func233 (by kernel_rfl) (by kernel_rfl) (by kernel_rfl) (e:=Extern.AbiNoEscape.same) (by kernel_rfl)];rw[Lib.run_noEscape];simp only[Result.andThen];rw[Oper.upon_value];go_wp2;rw[Lib.run_from_unsafe b ⟨a,0,none⟩ underlying299 underlying185 c d FG];simp only[Result.andThen];rw[Oper.upon_value];go_wp2;go_end0;simp
structure ja(d a:Nat)(c:Zb)(v:Zv)(b:Zw):Prop where
 ai:∃p,(p=.pointer none\/p=Zp a)/\b.heap[a]? = some (.cells #[p,v] 187)
 row:b.ownsRow d 5 1 v c.length (Lib.byteCells c)
 aY:d<=b.heap.size
def ja.ne{v:Zv}(j:ja d a c v b):∀g,v.ownBlock=some g->∀(i:Array Zv) (f:TypeId),b.heap[g]? = some (.cells i f)->f=5:=by
 intro g e i f o;rcases j.row.2 with⟨h,_⟩|⟨m,k,l,h,_,n,_⟩
 .rw[h]at e;cases e
 .rw[h]at e;cases e<;>simp_all
def ja.i7{v:Zv}(e:ja d a c v b):a ∉ v.ownBlock.toList:=by
 intro g;obtain⟨h,_,f⟩:=e.ai;have:=e.ne a (by simp_all) _ _ f;grind
def zG{v:Zv}(g:ja d a c v b) :
  Calls prog 171 #[Zp a] b λh f=>h=.returned (.tuple #[])/\f.heap[a]? = some (.cells #[Zp a,v] 187)/\f.ownsRow d 5 1 v c.length (Lib.byteCells c)/\am [a] b f/\f.heap.size=b.heap.size:=by
 obtain⟨l,k,e⟩:=g.ai;have n:=ap e;rcases k with rfl|rfl
 .refine(FW a b (by simp[World.cell?,e]) (by simp[World.shape?,e]) (by simp[World.frozen?,e])).mono ?_;rintro h f ⟨rfl,rfl⟩;have j:=(ak [a] b).ay (p:=⟨a,0,none⟩) (by simp) (Zp a);refine⟨rfl,?_,bi g.row j (λm o p=>g.i7 (by simp_all)),j,by simp⟩;have:=bu (i:=0) e (Zp a);simp_all
 .refine(FX a b (by simp[World.cell?,e])).mono ?_;rintro h f ⟨rfl,rfl⟩;exact⟨rfl,e,g.row,ak _ _,rfl⟩
def zp{v:Zv}(l:ja d a c v b)(h:Zb)(b2:c.length+h.length<=140737488355328) :
  Calls prog 98 #[Zp a,Zs h] b λo A=>(∃C,o=.returned C)/\∃t,ja d a (c++h) t A/\am (a::v.ownBlock.toList) b A:=by
 obtain⟨a2,M,S,a0,a1⟩:=info_parts zA;have I:=Z (zG l);have G:=Z l.aY;have F:=Z l.i7;clear l;go_in;go_wp2_with fail;refine I.j.mono ?_;rintro o B ⟨rfl,m,x,N,z⟩;have a4:B.cell? (Zd a 0)=some (Zp a):=by simp[World.cell?,m]
 have a5:B.cell? (Zd a 1)=some v:=by simp[World.cell?,m]
 have K:=ap m;have a3:=Z z;clear z;go_wp2_with (at_builtin;refine Lib.wpList_append_own_string _ rfl _ _ 97 9 rfl d 5 a2 underlying97 underlying9 M S a0 a1 _ _ _ rfl x ⟨h.toArray⟩ rfl ?c3 ?c4 ?c5 ?_);case c3=>unfold maxLen;show c.length+h.length<=_;omega
 case c4=>show c.length+h.length<=_;omega
 case c5=>grind [ac.j]
 intro t j s r _;have k:j.heap[a]? = some (.cells #[Zp a,v] 187):=by
  rw[r.block a K (λo=>F.j (by simp_all))];omega
 have a7:j.cell? (Zd a 0)=some (Zp a):=by simp[World.cell?,k]
 have a8:j.cell? (Zd a 1)=some v:=by simp[World.cell?,k]
 have a9:j.frozen? ⟨a,1,none⟩=false:=by simp[World.frozen?,k]
 obtain⟨f,g,e,rfl⟩:∃f g e,t=.slice f g e:=by
  rcases s.2 with⟨P,_⟩|⟨u,e,J,P,_⟩;all_goals simp_all
 have D:=Z k;have H:=Z s;have E:=Z (fs r);clear m x s r k;go_wp2;go_ret2;have y:j.ownsRow d 5 1 (.slice f g e) (c++h).length (Lib.byteCells (c++h)):=by
  have:=H.j;simp_all[Lib.byteCells,Lib.strCells]
 have O:(j.setCell ⟨a,1,none⟩ (.slice f g e)).heap[a]? = some (.cells #[Zp a,.slice f g e] 187):=by
  have:=bu (i:=1) D.j (.slice f g e);simp_all
 have w:am (a::v.ownBlock.toList) b (j.setCell ⟨a,1,none⟩ (.slice f g e)):=((N.K (by simp)).u (E.j.K (λC R=>Y5 _ R))).ay (p:=⟨a,1,none⟩) (by simp) _;refine⟨⟨_,rfl⟩,.slice f g e,⟨⟨_,Ya rfl,O⟩,?_,Yz G.j w.ar⟩,w⟩;refine bi y ((ak [a] j).ay (p:=⟨a,1,none⟩) (by simp) _) (λu n b3=>?_);have L:u=a:=by simp_all
 subst L;rcases y.2 with⟨q,_⟩|⟨b0,a6,J,q,_,b1,_⟩
 .rw[q]at n;cases n
 .rw[q]at n;cases n<;>grind [ac.j]
def zo{v:Zv}(l:ja d a c v b)(j:UInt8)(b4:c.length+1<=140737488355328) :
  Calls prog 103 #[Zp a,.int .u8 j.toNat] b λo E=>(∃F,o=.returned F)/\∃s,ja d a (c++[j]) s E/\am (a::v.ownBlock.toList) b E:=by
 obtain⟨a3,N,a0,a1,a2⟩:=info_parts zA;have K:=Z (zG l);have t:=Z l.aY;have I:=Z l.i7;clear l;go_in;go_wp2_with fail;refine K.j.mono ?_;rintro o n ⟨rfl,m,A,O,C⟩;have a6:n.cell? (Zd a 0)=some (Zp a):=by simp[World.cell?,m]
 have c1:n.cell? (Zd a 1)=some v:=by simp[World.cell?,m]
 have b3:=ap m;have J:=Z C;clear C;go_wp2_with (at_builtin;go_must (refine wpList_append_own _ rfl _ _ 97 rfl d 5 a3 (.int .u8 0) 1 1 underlying97 N a0 a1 a2 rfl (by decide) _ _ _ rfl (A.alloc _) ⟨n.heap.size,0,none⟩ 1 1 [.int .u8 j.toNat] rfl rfl ?c1 ?c2 ?c3 ?c4 ?c5 ?_));case c1=>
  intro a4 b y;match a4,y with
  |0,y=>simp_all[Addr.add]
 case c2=>intro b D;simp at D;subst D;rfl
 case c3=>unfold maxLen;omega
 case c4=>omega
 case c5=>have:=t.j;have:=J.j;simp;omega
 intro s h r q _;have k:h.heap[a]? = some (.cells #[Zp a,v] 187):=by
  rw[q.block a (by simp;omega) (λo=>I.j (by simp_all))];grind [Below.heap_alloc]
 have a8:h.cell? (Zd a 0)=some (Zp a):=by simp[World.cell?,k]
 have a9:h.cell? (Zd a 1)=some v:=by simp[World.cell?,k]
 have b0:h.frozen? ⟨a,1,none⟩=false:=by simp[World.frozen?,k]
 obtain⟨f,g,e,rfl⟩:∃f g e,s=.slice f g e:=by
  rcases r.2 with⟨R,_⟩|⟨u,e,L,R,_⟩;all_goals simp_all
 have G:=Z k;have a5:=Z r;have H:=Z (((ak [] n).B _).K (M':=v.ownBlock.toList) (by simp) |>.u (fs q));clear m A r q k;go_wp2;go_ret;have B:h.ownsRow d 5 1 (.slice f g e) (c++[j]).length (Lib.byteCells (c++[j])):=by
  grind [ac.j,Lib.byteCells]
 have P:(h.setCell ⟨a,1,none⟩ (.slice f g e)).heap[a]? = some (.cells #[Zp a,.slice f g e] 187):=by
  have:=bu (i:=1) G.j (.slice f g e);simp_all
 have z:am (a::v.ownBlock.toList) b (h.setCell ⟨a,1,none⟩ (.slice f g e)):=((O.K (by simp)).u (H.j.K (λF S=>Y5 _ S))).ay (p:=⟨a,1,none⟩) (by simp) _;refine⟨⟨_,rfl⟩,.slice f g e,⟨⟨_,Ya rfl,P⟩,?_,Yz t.j z.ar⟩,z⟩;refine bi B ((ak [a] h).ay (p:=⟨a,1,none⟩) (by simp) _) (λu x b5=>?_);have M:u=a:=by simp_all
 subst M;rcases B.2 with⟨w,_⟩|⟨b1,a7,L,w,_,b2,_⟩
 .simp_all
 .rw[w]at x;cases x<;>grind [ac.j]
end
end Go.Proofs.YtjdhaegijjednaaGreatDoor
namespace Go.Proofs.YtjdhaegijjednaaGreatDoor
open Go.RowKit
open Mar (bG)
open Go.Proofs.Tryz
section
variable {b a:Nat}{c e f d:Zw}
def nf:Zb->Zc->Zb
 |l,[]=>l
 |_,a::b=>nf a b
abbrev eY:=Zb×Zb
def bc(a:eY)(b:Zc):eY:=(a.1++bG bt a.2 b,nf a.2 b)
theorem Jk{c:Zb->Zb->Bool}:∀(b a:Zc) (d:Zb),bG c d (b++a)=bG c d b++bG c (nf d b) a:=by
 intro b;induction b<;>grind [bG,nf]
theorem JF:∀(b a:Zc) (c:Zb),nf c (b++a)=nf (nf c b) a:=by
 intro b;induction b with
 |nil=>intro a c;rfl
 |cons e f d=>intro a c;exact d a e
theorem ct(c:eY)(b a:Zc):bc (bc c b) a=bc c (b++a):=by
 grind [bc,Jk,JF]
theorem xY(a:eY):bc a []=a:=by simp[bc,bG,nf]
theorem ke(c:eY)(b a:Zc):(bc c b).1.length<=(bc c (b++a)).1.length:=by
 rw[<-ct];simp[bc]
structure lS(d:Zw)(a b:Nat)(st:eY)(v:Zv)(c:Zw):Prop where
 bd:ja d.heap.size a st.1 v c
 f7:c.heap[b]? = some (.cells #[.string ⟨st.2.toArray⟩] 9)
 kp:am [] d c
 nb:d.heap.size<=a
 nl:d.heap.size<=b
def bA(d:Zw)(a b:Nat)(e:eY)(c:Zw):Prop:=∃v,lS d a b e v c
def gU(a b:Nat)(c e:Zw):Prop:=c.heap.size<=e.heap.size/\∀d f,c.heap[d]? = some f->d≠a->d≠b->(∀g h,f≠.cells g 5 h)->e.heap[d]? = some f
theorem zh(a b:Nat)(c:Zw):gU a b c c:=⟨Y4 _,λ_ _ d _ _ _=>d⟩
theorem gU.u{l:Zw}(d:gU a b c f)(j:gU a b f l):gU a b c l:=⟨Yz d.1 j.1,λi k m e g h=>j.2 i k (d.2 i k m e g h) e g h⟩
def fm(d:am [] c f):gU a b c f:=⟨d.ar,λg h e _ _ _=>(d.G g (ap e) (by simp)).trans e⟩
def bA.F{i:eY}(j:bA d a b i c)(f:am [] c e):bA d a b i e:=by
 obtain⟨v,⟨⟨q,o,g⟩,p,n⟩,h,m,k,l⟩:=j;exact⟨v,⟨⟨q,o,(f.G _ (ap g) (by simp)).trans g⟩,bi p f (by simp),Yz n f.ar⟩,(f.G _ (ap h) (by simp)).trans h,m.u f,k,l⟩
def lS.lb{f:eY}{v:Zv}(e:lS d a b f v c):b≠a:=by
 intro g;obtain⟨i,_,h⟩:=e.bd.ai;grind [f7]
def lS.lo{f:eY}{v:Zv}(e:lS d a b f v c):b ∉ v.ownBlock.toList:=by
 intro g;have:=e.bd.ne b (by simp_all) _ _ e.f7;grind
def lS.a0{o:eY}{v p:Zv}{l:Zb}(f:lS d a b o v c)(r:ja d.heap.size a l p e)(i:am (a::v.ownBlock.toList) c e):lS d a b (l,o.2) p e/\gU a b c e:=by
 have B:∀j,v.ownBlock=some j->d.heap.size<=j:=λj h=>(hn f.bd.row h).1;have q:b ∉ a::v.ownBlock.toList:=by
  intro g;rcases Yg.1 g with g|g
  .exact f.lb g
  .exact f.lo g
 refine⟨⟨r,(i.G _ (ap f.f7) q).trans f.f7,f.kp.b4 i (λD A=>Ya ?_),f.nb,f.nl⟩,i.ar,λn C m w x y=>(i.G n (ap m) ?_).trans m⟩
 .grind [nb]
 .intro g;rcases Yg.1 g with g|g
  .omega
  .rcases f.bd.row.2 with⟨k,_⟩|⟨u,s,t,k,_,z,_⟩
   .grind [Value.ownBlock]
   .have h:v.ownBlock=some n:=by simp_all
    rw[k]at h;cases h<;>simp_all
abbrev vF(a:Zc):Array Zv:=(a.map λb=>Zs b).toArray
abbrev lE(a b:Nat):Zv:=.func (.func 101) #[] #[Zp b,Zp a]
def jF(d:Zw)(a b:Nat)(g:eY)(c:Zw)(f:Ending)(e:Zw):Prop:=f=.returned (.tuple #[])/\bA d a b g e/\gU a b c e
def lS.k2{l:eY}{v:Zv}(e:lS d a b l v c)(g:Zb):bA d a b (l.1,g) (c.setCell ⟨b,0,none⟩ (Zs g))/\gU a b c (c.setCell ⟨b,0,none⟩ (Zs g)):=by
 have f:=(ak [b] c).ay (p:=⟨b,0,none⟩) (by simp) (Zs g);have m:a ∉ [b]:=by simpa using e.lb.symm
 obtain⟨k,n,j⟩:=e.bd.ai;refine⟨⟨v,⟨⟨k,n,(f.G a (ap j) m).trans j⟩,bi e.bd.row f (λq u w=>e.lo (by simp_all)),by have:=f.ar;have:=e.bd.aY;omega⟩,?_,e.kp.b4 f (λp x=>Ya (by have:p=b:=(by simp_all);rw[this];exact e.nl)),e.nb,e.nl⟩,f.ar,λo y h r s t=>(f.G o (ap h) (by simp_all)).trans h⟩;have:=bu (i:=0) e.f7 (Zs g);simp_all
def Nn{st:eY}{b:Zc}{a:Nat}(c:a<b.length):bc st (b.take (a+1))=((bc st (b.take a)).1++((if bt (bc st (b.take a)).2 b[a]then [32]else [])++b[a]),b[a]):=by
 rw[Yt c,<-ct];grind [bc,bG,nf]
def No{st:eY}(a9:bA d a b st c)(e:Zc){A:Nat}(K:c.heap[A]? = some (.cells (vF e) 9))(L:A≠b)(M:A≠a)(S:(bc st e).1.length<=140737488355328)(b8:e.length<=1000) :
  Calls prog 101 #[.slice (some ⟨A,0,none⟩) e.length e.length,Zp b,Zp a] c (jF d a b (bc st e) c):=by
 have E:=Z (show bA d a b (bc st (e.take 0)) c by grind [xY]);have a3:=Z K;have b3:=Z S;have a4:=Z L;have a5:=Z M;clear a9 K S L M;go_in;go_wp2_with fail;go_loopw [8] (λD a2=>∃(f:Nat),D=U f/\f<=e.length/\ac (bA d a b (bc st (e.take f)) a2)/\ac (gU a b c a2)) (λD _=>e.length-(intOf D).toNat)
 case atStart=>exact⟨0,rfl,by omega,E,zh _ _ _⟩
 case round=>
  obtain⟨f,rfl,b7,u,r⟩:=hrel;clear E;rcases Yj f e.length with a0|b5
  .obtain⟨v,y⟩:=u.j;have N:wr.heap[A]? = some (.cells (vF e) 9):=r.j.2 A _ a3.j a5.j a4.j (by simp);have w:wr.cell? (Zd A f)=some (.string ⟨e[f].toArray⟩):=by simp[World.cell?,N,a0]
   have s:wr.cell? (Zd b 0)=some (.string ⟨(bc st (e.take f)).2.toArray⟩):=by simp[World.cell?,y.f7]
   have C:(bc st (e.take (f+1))).1.length<=140737488355328:=by
    grind [ke,List.take_append_drop,ac.j]
   have i:=Z (Nn (st:=st) a0);rw[i.j]at C;have h:=Z C;have c0:(0:Int)<=(f:Int):=by omega
   have c1:(f:Int)<(e.length:Int):=by omega
   have k:=Z y;clear N y C;generalize b4:bc st (e.take f)=a6 at k s i h;generalize b9:e[f]=j at w i h;obtain⟨c2,t⟩:=a6;simp only at s i h;go_wp2_with fail;refine(Fl t j wr).mono ?_;rintro x c4 ⟨rfl,rfl⟩;cases O:bt t j with
   |true=>
    rw[O]at i h;have J:=Z (zo k.j.bd 32 (by have:=h.j;simp at this;simp only;omega));go_wp2_with fail;refine J.j.mono ?_;rintro x c5 ⟨⟨c6,rfl⟩,c3,P,R⟩;obtain⟨z,a1⟩:=k.j.a0 P R;have H:=Z (r.j.u a1);have m:=Z (zp z.bd j (by have:=h.j;simp at this ⊢;omega));have F:=Z z;clear z a1 P R J w s;go_wp2_with fail;refine m.j.mono ?_;rintro x l ⟨⟨b2,rfl⟩,b1,n,o⟩;obtain⟨g,p⟩:=F.j.a0 n o;have a7:l.cell? (Zd b 0)=some (Zs t):=by simp[World.cell?,g.f7]
    have a8:l.frozen? ⟨b,0,none⟩=false:=by simp[World.frozen?,g.f7]
    obtain⟨B,q⟩:=g.k2 j;have I:=Z ((H.j.u p).u q);have G:ac (bA d a b (bc st (e.take (f+1))) (l.setCell ⟨b,0,none⟩ (Zs j))):=by
     show bA _ _ _ _ _;rw[i.j];simp_all
    clear g p n o m B q H F k;go_wp2;exact⟨⟨f+1,by rfl,by omega,G,I⟩,by simp[intOf];omega⟩
   |false=>
    rw[O]at i h;have m:=Z (zp k.j.bd j (by have:=h.j;simp_all));clear w s;go_wp2_with fail;refine m.j.mono ?_;rintro x l ⟨⟨b2,rfl⟩,b1,n,o⟩;obtain⟨g,p⟩:=k.j.a0 n o;have a7:l.cell? (Zd b 0)=some (Zs t):=by simp[World.cell?,g.f7]
    have a8:l.frozen? ⟨b,0,none⟩=false:=by simp[World.frozen?,g.f7]
    obtain⟨B,q⟩:=g.k2 j;have I:=Z ((r.j.u p).u q);have G:ac (bA d a b (bc st (e.take (f+1))) (l.setCell ⟨b,0,none⟩ (Zs j))):=by
     show bA _ _ _ _ _;rw[i.j];simp_all
    clear g p n o m B q k;go_wp2;grind [intOf]
  .have b0:f=e.length:=by omega
   subst b0;have b6:¬((e.length:Int)<(e.length:Int)):=by omega
   rw[YG]at u;go_wp2;go_end0;exact⟨rfl,u.j,r.j⟩
end
end Go.Proofs.YtjdhaegijjednaaGreatDoor
namespace Go.Proofs.YtjdhaegijjednaaGreatDoor
open Go.RowKit
open Go.Sort Go.Lib
open Mar (bG)
open Go.Proofs.Tryz
section
variable {f L b:Nat}{g:TypeId}{e:Array Zv}{c:eY}{a w d:Zw}
theorem Jm(w:Zw)(c:Nat)(a:Array Obj):am [] w (grow (w.drewN c) a):=by
 refine⟨rfl,rfl,rfl,by simp,λb d _=>?_⟩;show (w.heap++a)[b]? = _;grind
theorem yz{d:String}{f:IntKind}{g:List Int}(b:TabIs prog w d f g)(i:am [] w a):TabIs prog a d f g:=by
 unfold TabIs World.var? at b ⊢;cases h:prog.globalNamed d with
 |none=>simp_all
 |some e=>
  rw[h]at b;simp only[Option.bind_some]at b ⊢;cases c:w.heap[e]? with
  |none=>simp_all
  |some j=>rw[c]at b;rw[i.G e (ap c) (by simp),c];exact b
abbrev gn (w : World) : Prop := TabIs Tryz.prog w "internal/strconv.uint64pow10" .u64 pow10Tab
theorem od(a:Int)(c:-9223372036854775808<=a)(d:a<=9223372036854775807)(e:gn w) :
  Calls prog 334 #[U a] w λb f=>b=.returned (.string ⟨(itoa a).toArray⟩)/\am [] w f:=by
 refine(Hm a c d w e).mono ?_;simp_all[Jm]
theorem bA.hm(e:bA d b L c a)(f:gn d):gn a:=by
 obtain⟨v,e⟩:=e;exact yz f e.kp
theorem bA.lt(e:bA d b L c a):b<a.heap.size/\L<a.heap.size:=by
 obtain⟨v,e⟩:=e;obtain⟨g,_,f⟩:=e.bd.ai;exact⟨ap f,ap e.f7⟩
theorem dR(i:bA d b L c a)(f:Zc)(n:(bc c f).1.length<=140737488355328)(j h:Nat)(e:Array Zv)(g:j=a.heap.size)(o:h=f.length)(l:e=vF f)(k:h<=1000) :
  Calls prog 101 #[.slice (some ⟨j,0,none⟩) h h,Zp L,Zp b] (a.alloc (.cells e 9)) (jF d b L (bc c f) a):=by
 subst g o l;have g:=(ak [] a).B (.cells (vF f) 9);refine(No (i.F g) f (A:=a.heap.size) (aS rfl) (Nat.ne_of_gt i.lt.2) (Nat.ne_of_gt i.lt.1) n k).mono ?_;rintro r s ⟨m,p,q⟩;exact⟨m,p,(fm g).u q⟩
def jT(a:Int)(b:Bool):Zc:=if b then [[91],itoa a,[93]]else [[60],itoa a,[62]]
def eI(a:aO):Zc:=match a.H with
 |.opaq c b=>[[111,112,97,113,117,101],a.t]++jT c b
 |.str c b=>[[115,116,114,105,110,103],a.t]++jT c b
 |.arr d c b=>[dm d,a.t]++jT c b
 |.opt d=>[dm d,[42],a.t]
 |.void=>[dm .void]
 |t=>[dm t,a.t]
abbrev iI(a:Int):Prop:=-9223372036854775808<=a/\a<=9223372036854775807
def lI:Ty->Prop
 |.opaq a _=>iI a
 |.str a _=>iI a
 |.arr _ a _=>iI a
 |_=>True
theorem pc{b c:Zv}(d:a.heap[f]? = some (.cells #[b,c] g)):a.cell? (Zd f 0)=some b/\a.cell? (Zd f 1)=some c:=by
 grind [World.cell?]
theorem vY(q:bA d b L c a)(v:gn d)(e:Int)(i:Bool)(r:iI e)(u:(bc c (jT e i)).1.length<=140737488355328) :
  Calls prog 340 #[.agg #[U e,.bool i],lE b L] a (jF d b L (bc c (jT e i)) a):=by
 have g:=(ak [] a).B (.cells #[U e,.bool i] 375);have l:=Z (od e r.1 r.2 ((q.F g).hm v));have s:=Z (q.F g);have t:=Z u;clear q u r;cases i with
 |true=>
  go_in;go_wp2_with fail;refine l.j.mono ?_;rintro p w ⟨rfl,f⟩;have h:=Z (dR (s.j.F f) [[91],itoa e,[93]] t.j);have m:=Z (g.u f);clear f l g;go_wp2_with fail;refine(h.j _ _ _ (by simp) rfl rfl (by simp)).mono ?_;rintro p x ⟨rfl,j,k⟩;have o:=Z ((fm m.j).u k);have n:=Z j;clear j k h;go_wp2;go_end0;exact⟨rfl,n.j,o.j⟩
 |false=>
  go_in;go_wp2_with fail;refine l.j.mono ?_;rintro p w ⟨rfl,f⟩;have h:=Z (dR (s.j.F f) [[60],itoa e,[62]] t.j);have m:=Z (g.u f);clear f l g;go_wp2_with fail;refine(h.j _ _ _ (by simp) rfl rfl (by simp)).mono ?_;rintro p x ⟨rfl,j,k⟩;have o:=Z ((fm m.j).u k);have n:=Z j;clear j k h;go_wp2;go_end0;exact⟨rfl,n.j,o.j⟩
theorem tb{c:Zw}(d:gU b L a c){k:Nat}(f:a.heap[k]? = some (.cells e g))(j:b<k)(h:L<k)(i:g≠5):c.heap[k]? = some (.cells e g):=
 d.2 k _ f (by omega) (by omega) (by simp_all)
theorem Du(a:Zw)(b c:Obj):((a.alloc b).alloc c).heap[a.heap.size]? = some b/\((a.alloc b).alloc c).heap[a.heap.size+1]? = some c:=
 ⟨(Below.heap_alloc _ _ _ (by simp)).trans (aS rfl),aS (by simp)⟩
theorem bU{i:Nat}{v:Zv}(b:a.heap[f]? = some (.cells e g))(c:e[i]? = some v):a.cell? (Zd f i)=some v:=by simp[World.cell?,b,c]
theorem tv(l:bA d b L c a)(b5:gn d)(b0:aO)(G:lI b0.H)(z:(bc c (eI b0)).1.length<=140737488355328) :
  Calls prog 339 #[.agg (ek b0).toArray,lE b L] a (jF d b L (bc c (eI b0)) a):=by
 obtain⟨m,I,c2⟩:=b0;have c6:=l.lt.1;have c5:=l.lt.2;cases c2 with
 |opaq k j=>
  have a6:∀e,(Instr.typeAssert (.iface 377 (.agg #[U k,.bool j])) 240 377 true).run prog e=.ok (.tuple #[.agg #[U k,.bool j],.bool true]) e:=λe=>by kernel_rfl
  dsimp only[ek,bj];have h:=((ak [] a).B (.cells #[Zs m,U I,.iface 377 (.agg #[U k,.bool j])] 242)).B (.cells #[U k,.bool j] 377)
  have s:=Z (dR (l.F h) [[111,112,97,113,117,101],m] (Yz (ke c [[111,112,97,113,117,101],m] (jT k j)) z));have q:=Z h;have a1:=Z G;have B:=Z z;clear l h z G;go_in;go_wp2_with fail;refine(s.j _ _ _ (by simp) rfl rfl (by simp)).mono ?_;rintro C a7 ⟨rfl,t,o⟩;have R:=tb o (k:=a.heap.size+1) (aS (by simp)) (by omega) (by omega) (by decide);obtain⟨c1,b8⟩:=pc R;have a2:=Z (vY t b5 k j a1.j (by rw[ct];exact B.j));have y:=Z ((fm q.j).u o);clear t o s R q;go_wp2_with fail;refine a2.j.mono ?_;rintro C c0 ⟨rfl,N,a3⟩;rw[ct]at N;have a9:=Z (y.j.u a3);have a8:=Z N;clear N a3 a2 y;go_wp2;go_end0;exact⟨rfl,a8.j,a9.j⟩
 |str k j=>
  have a6:∀e,(Instr.typeAssert (.iface 380 (.agg #[U k,.bool j])) 240 377 true).run prog e=.ok (.tuple #[.agg #[U 0,.bool false],.bool false]) e:=λe=>by kernel_rfl
  have b2:∀e,(Instr.typeAssert (.iface 380 (.agg #[U k,.bool j])) 240 380 true).run prog e=.ok (.tuple #[.agg #[U k,.bool j],.bool true]) e:=λe=>by kernel_rfl
  dsimp only[ek,bj];have h:=((ak [] a).B (.cells #[Zs m,U I,.iface 380 (.agg #[U k,.bool j])] 242)).B (.cells #[U k,.bool j] 380)
  have s:=Z (dR (l.F h) [[115,116,114,105,110,103],m] (Yz (ke c [[115,116,114,105,110,103],m] (jT k j)) z));have q:=Z h;have a1:=Z G;have B:=Z z;clear l h z G;go_in;go_wp2_with fail;refine(s.j _ _ _ (by simp) rfl rfl (by simp)).mono ?_;rintro C a7 ⟨rfl,t,o⟩;have R:=tb o (k:=a.heap.size+1) (aS (by simp)) (by omega) (by omega) (by decide);obtain⟨c1,b8⟩:=pc R;have a2:=Z (vY t b5 k j a1.j (by rw[ct];exact B.j));have y:=Z ((fm q.j).u o);clear t o s R q;go_wp2_with fail;refine a2.j.mono ?_;rintro C c0 ⟨rfl,N,a3⟩;rw[ct]at N;have a9:=Z (y.j.u a3);have a8:=Z N;clear N a3 a2 y;go_wp2;go_end0;exact⟨rfl,a8.j,a9.j⟩
 |arr O k j=>
  obtain⟨r,u,b1⟩:=dG O;have a6:∀e,(Instr.typeAssert (.iface 382 (.agg #[.iface r u,U k,.bool j])) 240 377 true).run prog e=.ok (.tuple #[.agg #[U 0,.bool false],.bool false]) e:=λe=>by kernel_rfl
  have b2:∀e,(Instr.typeAssert (.iface 382 (.agg #[.iface r u,U k,.bool j])) 240 380 true).run prog e=.ok (.tuple #[.agg #[U 0,.bool false],.bool false]) e:=λe=>by kernel_rfl
  have b3:∀e,(Instr.typeAssert (.iface 382 (.agg #[.iface r u,U k,.bool j])) 240 382 true).run prog e=.ok (.tuple #[.agg #[.iface r u,U k,.bool j],.bool true]) e:=λe=>by kernel_rfl
  dsimp only[ek,bj];rw[b1];have h:=((ak [] a).B (.cells #[Zs m,U I,.iface 382 (.agg #[.iface r u,U k,.bool j])] 242)).B (.cells #[.iface r u,U k,.bool j] 382)
  obtain⟨J,K⟩:=Du a (.cells #[Zs m,U I,.iface 382 (.agg #[.iface r u,U k,.bool j])] 242) (.cells #[.iface r u,U k,.bool j] 382)
  have g:=λw=>pS (O) w;simp only[b1]at g;have g:=Z g;have E:=Z (l.F h);have q:=Z h;have A:=Z J;have F:=Z K;have a1:=Z G;have B:=Z z;clear l h z G J K;go_in;go_wp2_with fail;refine cx (λS=>S.cell? ⟨a.heap.size+1,0,none⟩=some (.iface r u)/\S.cell? (Zd a.heap.size 0)=some (Zs m)) (L:=8) (by kernel_rfl) rfl (by kernel_rfl) (by kernel_rfl) ?_ (λM=>?_)
  .simp
  refine bH [0,1,2,4,5,6] ?_;iterate 6 (refine bK (v:=?_) rfl (by kernel_rfl) (λ_ _ _ l=>l) (by rfl) (by assumption) ?_ ?_;rotate_left;focus (intro w a5;(try dsimp only at a5);go_simp;(try with_reducible rfl));(try simp only[aJ,aK,List.set]))
  refine bI ?_;refine bF 3 (by kernel_rfl) rfl λn f=>?_;(go_simp;go_at_call 341;refine(g.j _).mono ?_;rintro C b4 ⟨rfl,D⟩;have p:=(ak [] _).aq.u (bh [] D);have c3:=bU (i:=0) ((p.G (a.heap.size+1) (ap F.j) (by simp)).trans F.j) rfl;have b7:=bU (i:=0) ((p.G a.heap.size (ap A.j) (by simp)).trans A.j) rfl;have x:=Z p;clear D p);refine f.out _ _ ?_ (λM=>?_)
  .go_keep
  clear f n;(try simp only[aJ,aK,List.set]);refine bF 7 (by kernel_rfl) rfl λn f=>?_;go_simp;refine f.out _ _ ?_ (λM=>?_)
  .go_keep
  clear f n;(try simp only[aJ,aK,List.set]);refine wpAnyH_done (by kernel_rfl) ?_ _;have s:=Z (dR (E.j.F x.j) [dm O,m] (Yz (ke c [dm O,m] (jT k j)) B.j));refine nh rfl (λn f=>?_);(go_simp;refine(s.j _ _ _ (by simp) rfl rfl (by simp)).mono ?_;rintro C a7 ⟨rfl,t,o⟩;have R:=tb o (k:=a.heap.size+1) ((x.j.G (a.heap.size+1) (ap F.j) (by simp)).trans F.j) (by omega) (by omega) (by decide);have b8:=bU (i:=1) R rfl;have c4:=bU (i:=2) R rfl;have a2:=Z (vY t b5 k j a1.j (by rw[ct];exact B.j));have y:=Z ((fm (q.j.u x.j)).u o);clear t o R);refine f.out _ _ ?_;clear f n;(try simp only[aJ,aK,List.set]);clear s g E q A F x;go_wp2_with fail;refine a2.j.mono ?_;rintro C c0 ⟨rfl,N,a3⟩;rw[ct]at N;have a9:=Z (y.j.u a3);have a8:=Z N;clear N a3 a2 y;go_wp2;go_end0;exact⟨rfl,a8.j,a9.j⟩
 |opt O=>
  obtain⟨r,u,b1⟩:=dG O;have a6:∀e,(Instr.typeAssert (.iface 385 (.agg #[.iface r u])) 240 377 true).run prog e=.ok (.tuple #[.agg #[U 0,.bool false],.bool false]) e:=λe=>by kernel_rfl
  have b2:∀e,(Instr.typeAssert (.iface 385 (.agg #[.iface r u])) 240 380 true).run prog e=.ok (.tuple #[.agg #[U 0,.bool false],.bool false]) e:=λe=>by kernel_rfl
  have b3:∀e,(Instr.typeAssert (.iface 385 (.agg #[.iface r u])) 240 382 true).run prog e=.ok (.tuple #[.agg #[.nilIface,U 0,.bool false],.bool false]) e:=λe=>by kernel_rfl
  have b6:∀e,(Instr.typeAssert (.iface 385 (.agg #[.iface r u])) 240 385 true).run prog e=.ok (.tuple #[.agg #[.iface r u],.bool true]) e:=λe=>by kernel_rfl
  dsimp only[ek,bj];rw[b1];have h:=((ak [] a).B (.cells #[Zs m,U I,.iface 385 (.agg #[.iface r u])] 242)).B (.cells #[.iface r u] 385)
  obtain⟨J,K⟩:=Du a (.cells #[Zs m,U I,.iface 385 (.agg #[.iface r u])] 242) (.cells #[.iface r u] 385)
  have g:=λw=>pS (O) w;simp only[b1]at g;have g:=Z g;have E:=Z (l.F h);have q:=Z h;have A:=Z J;have F:=Z K;have a1:=Z G;have B:=Z z;clear l h z G J K;go_in;go_wp2_with fail;refine cx (λS=>S.cell? ⟨a.heap.size+1,0,none⟩=some (.iface r u)/\S.cell? (Zd a.heap.size 0)=some (Zs m)) (L:=8) (by kernel_rfl) rfl (by kernel_rfl) (by kernel_rfl) ?_ (λM=>?_)
  .simp
  refine bH [0,1,2,4,5,6] ?_;iterate 6 (refine bK (v:=?_) rfl (by kernel_rfl) (λ_ _ _ l=>l) (by rfl) (by assumption) ?_ ?_;rotate_left;focus (intro w a5;(try dsimp only at a5);go_simp;(try with_reducible rfl));(try simp only[aJ,aK,List.set]))
  refine bI ?_;refine bF 3 (by kernel_rfl) rfl λn f=>?_;(go_simp;go_at_call 341;refine(g.j _).mono ?_;rintro C b4 ⟨rfl,D⟩;have p:=(ak [] _).aq.u (bh [] D);have c3:=bU (i:=0) ((p.G (a.heap.size+1) (ap F.j) (by simp)).trans F.j) rfl;have b7:=bU (i:=0) ((p.G a.heap.size (ap A.j) (by simp)).trans A.j) rfl;have x:=Z p;clear D p);refine f.out _ _ ?_ (λM=>?_)
  .go_keep
  clear f n;(try simp only[aJ,aK,List.set]);refine bF 7 (by kernel_rfl) rfl λn f=>?_;go_simp;refine f.out _ _ ?_ (λM=>?_)
  .go_keep
  clear f n;(try simp only[aJ,aK,List.set]);refine wpAnyH_done (by kernel_rfl) ?_ _;have s:=Z (dR (E.j.F x.j) [dm O,[42],m] B.j);refine nh rfl (λn f=>?_);(go_simp;refine(s.j _ _ _ (by simp) rfl rfl (by simp)).mono ?_;rintro C a7 ⟨rfl,t,o⟩;have y:=Z ((fm (q.j.u x.j)).u o);have a4:=Z t;clear t o);refine f.out _ _ ?_;clear f n;(try simp only[aJ,aK,List.set]);clear s g E q A F x;go_wp2;go_end0;exact⟨rfl,a4.j,y.j⟩
 |void=>
  have a6:∀e,(Instr.typeAssert (.iface 444 (.agg #[])) 240 377 true).run prog e=.ok (.tuple #[.agg #[U 0,.bool false],.bool false]) e:=λe=>by kernel_rfl
  have b2:∀e,(Instr.typeAssert (.iface 444 (.agg #[])) 240 380 true).run prog e=.ok (.tuple #[.agg #[U 0,.bool false],.bool false]) e:=λe=>by kernel_rfl
  have b3:∀e,(Instr.typeAssert (.iface 444 (.agg #[])) 240 382 true).run prog e=.ok (.tuple #[.agg #[.nilIface,U 0,.bool false],.bool false]) e:=λe=>by kernel_rfl
  have b6:∀e,(Instr.typeAssert (.iface 444 (.agg #[])) 240 385 true).run prog e=.ok (.tuple #[.agg #[.nilIface],.bool false]) e:=λe=>by kernel_rfl
  have b9:∀e,(Instr.typeAssert (.iface 444 (.agg #[])) 240 444 true).run prog e=.ok (.tuple #[.agg #[],.bool true]) e:=λe=>by kernel_rfl
  dsimp only[ek,bj];have h:=((ak [] a).B (.cells #[Zs m,U I,.iface 444 (.agg #[])] 242)).B (.cells #[] 444)
  have g:=Z (λw=>pS .void w);dsimp only[bj]at g;have E:=Z (l.F h);have q:=Z h;have B:=Z z;clear l h z G;go_in;go_wp2_with fail;refine(g.j _).mono ?_;rintro C b4 ⟨rfl,D⟩;have p:=bh [] D;have s:=Z (dR (E.j.F p) [dm .void] B.j);have x:=Z (q.j.u p);clear D p g q;go_wp2_with fail;refine(s.j _ _ _ (by simp) rfl rfl (by simp)).mono ?_;rintro C a7 ⟨rfl,t,o⟩;have y:=Z ((fm x.j).u o);have a4:=Z t;clear t o s;go_wp2;go_end0;exact⟨rfl,a4.j,y.j⟩
 |named a0 P=>
  have a6:∀e,(Instr.typeAssert (.iface 260 (.agg #[Zs a0,U P])) 240 377 true).run prog e=.ok (.tuple #[.agg #[U 0,.bool false],.bool false]) e:=λe=>by kernel_rfl
  have b2:∀e,(Instr.typeAssert (.iface 260 (.agg #[Zs a0,U P])) 240 380 true).run prog e=.ok (.tuple #[.agg #[U 0,.bool false],.bool false]) e:=λe=>by kernel_rfl
  have b3:∀e,(Instr.typeAssert (.iface 260 (.agg #[Zs a0,U P])) 240 382 true).run prog e=.ok (.tuple #[.agg #[.nilIface,U 0,.bool false],.bool false]) e:=λe=>by kernel_rfl
  have b6:∀e,(Instr.typeAssert (.iface 260 (.agg #[Zs a0,U P])) 240 385 true).run prog e=.ok (.tuple #[.agg #[.nilIface],.bool false]) e:=λe=>by kernel_rfl
  have b9:∀e,(Instr.typeAssert (.iface 260 (.agg #[Zs a0,U P])) 240 444 true).run prog e=.ok (.tuple #[.agg #[],.bool false]) e:=λe=>by kernel_rfl
  dsimp only[ek,bj];have h:=(ak [] a).B (.cells #[Zs m,U I,.iface 260 (.agg #[Zs a0,U P])] 242)
  have J:=aS (w:=a) (o:=(.cells #[Zs m,U I,.iface 260 (.agg #[Zs a0,U P])] 242)) rfl
  have K:=True.intro;have g:=λw=>pS (.named a0 P) w;dsimp only[bj]at g;have g:=Z g;have E:=Z (l.F h);have q:=Z h;have A:=Z J;have F:=Z K;have a1:=Z G;have B:=Z z;clear l h z G J K;go_in;go_wp2_with fail;refine cx (λS=>S.cell? (Zd a.heap.size 0)=some (Zs m)) (L:=7) (by kernel_rfl) rfl (by kernel_rfl) (by kernel_rfl) ?_ (λM=>?_)
  .simp
  refine bH [0,1,3,4,5] ?_;iterate 5 (refine bK (v:=?_) rfl (by kernel_rfl) (λ_ _ _ l=>l) (by rfl) (by assumption) ?_ ?_;rotate_left;focus (intro w a5;(try dsimp only at a5);go_simp;(try with_reducible rfl));(try simp only[aJ,aK,List.set]))
  refine bI ?_;refine bF 2 (by kernel_rfl) rfl λn f=>?_;(go_simp;go_at_call 341;refine(g.j _).mono ?_;rintro C b4 ⟨rfl,D⟩;have p:=(ak [] _).aq.u (bh [] D);have b7:=bU (i:=0) ((p.G a.heap.size (ap A.j) (by simp)).trans A.j) rfl;have x:=Z p;clear D p);refine f.out _ _ ?_ (λM=>?_)
  .go_keep
  clear f n;(try simp only[aJ,aK,List.set]);refine bF 6 (by kernel_rfl) rfl λn f=>?_;go_simp;refine f.out _ _ ?_ (λM=>?_)
  .go_keep
  clear f n;(try simp only[aJ,aK,List.set]);refine wpAnyH_done (by kernel_rfl) ?_ _;have s:=Z (dR (E.j.F x.j) [dm (.named a0 P),m] B.j);refine nh rfl (λn f=>?_);(go_simp;refine(s.j _ _ _ (by simp) rfl rfl (by simp)).mono ?_;rintro C a7 ⟨rfl,t,o⟩;have y:=Z ((fm (q.j.u x.j)).u o);have a4:=Z t;clear t o);refine f.out _ _ ?_;clear f n;(try simp only[aJ,aK,List.set]);clear s g E q A F x;go_wp2;go_end0;exact⟨rfl,a4.j,y.j⟩
 |plain H=>
  have a6:∀e,(Instr.typeAssert (.iface 372 (.agg #[U H])) 240 377 true).run prog e=.ok (.tuple #[.agg #[U 0,.bool false],.bool false]) e:=λe=>by kernel_rfl
  have b2:∀e,(Instr.typeAssert (.iface 372 (.agg #[U H])) 240 380 true).run prog e=.ok (.tuple #[.agg #[U 0,.bool false],.bool false]) e:=λe=>by kernel_rfl
  have b3:∀e,(Instr.typeAssert (.iface 372 (.agg #[U H])) 240 382 true).run prog e=.ok (.tuple #[.agg #[.nilIface,U 0,.bool false],.bool false]) e:=λe=>by kernel_rfl
  have b6:∀e,(Instr.typeAssert (.iface 372 (.agg #[U H])) 240 385 true).run prog e=.ok (.tuple #[.agg #[.nilIface],.bool false]) e:=λe=>by kernel_rfl
  have b9:∀e,(Instr.typeAssert (.iface 372 (.agg #[U H])) 240 444 true).run prog e=.ok (.tuple #[.agg #[],.bool false]) e:=λe=>by kernel_rfl
  dsimp only[ek,bj];have h:=(ak [] a).B (.cells #[Zs m,U I,.iface 372 (.agg #[U H])] 242)
  have J:=aS (w:=a) (o:=(.cells #[Zs m,U I,.iface 372 (.agg #[U H])] 242)) rfl
  have K:=True.intro;have g:=λw=>pS (.plain H) w;dsimp only[bj]at g;have g:=Z g;have E:=Z (l.F h);have q:=Z h;have A:=Z J;have F:=Z K;have a1:=Z G;have B:=Z z;clear l h z G J K;go_in;go_wp2_with fail;refine cx (λS=>S.cell? (Zd a.heap.size 0)=some (Zs m)) (L:=7) (by kernel_rfl) rfl (by kernel_rfl) (by kernel_rfl) ?_ (λM=>?_)
  .simp
  refine bH [0,1,3,4,5] ?_;iterate 5 (refine bK (v:=?_) rfl (by kernel_rfl) (λ_ _ _ l=>l) (by rfl) (by assumption) ?_ ?_;rotate_left;focus (intro w a5;(try dsimp only at a5);go_simp;(try with_reducible rfl));(try simp only[aJ,aK,List.set]))
  refine bI ?_;refine bF 2 (by kernel_rfl) rfl λn f=>?_;(go_simp;go_at_call 341;refine(g.j _).mono ?_;rintro C b4 ⟨rfl,D⟩;have p:=(ak [] _).aq.u (bh [] D);have b7:=bU (i:=0) ((p.G a.heap.size (ap A.j) (by simp)).trans A.j) rfl;have x:=Z p;clear D p);refine f.out _ _ ?_ (λM=>?_)
  .go_keep
  clear f n;(try simp only[aJ,aK,List.set]);refine bF 6 (by kernel_rfl) rfl λn f=>?_;go_simp;refine f.out _ _ ?_ (λM=>?_)
  .go_keep
  clear f n;(try simp only[aJ,aK,List.set]);refine wpAnyH_done (by kernel_rfl) ?_ _;have s:=Z (dR (E.j.F x.j) [dm (.plain H),m] B.j);refine nh rfl (λn f=>?_);(go_simp;refine(s.j _ _ _ (by simp) rfl rfl (by simp)).mono ?_;rintro C a7 ⟨rfl,t,o⟩;have y:=Z ((fm (q.j.u x.j)).u o);have a4:=Z t;clear t o);refine f.out _ _ ?_;clear f n;(try simp only[aJ,aK,List.set]);clear s g E q A F x;go_wp2;go_end0;exact⟨rfl,a4.j,y.j⟩
end
section
variable {f L j e:Nat}{h:Zo}{a:List (Zb×Nat×Int)}{st:eY}{b:Zb}{g d:Zw}
def bA.cI(b:bA d e L st g)(c:∀a∈h,d.heap[a.1]? = some a.2):∀a∈h,g.heap[a.1]? = some a.2:=by
 obtain⟨v,b⟩:=b;intro a f;exact(b.kp.G _ (ap (c a f)) (by simp)).trans (c a f)
def wI(b:Zb)(v:Int):Zc:=[[99,111,110,115,116],b,[61],itoa v,[59]]
def ni(a:Zb×Nat×Int):Zc:=[a.1,[61],itoa a.2.2]
def gM:List (Zb×Nat×Int)->Zc
 |[]=>[]
 |b::a=>ni b++a.flatMap λb=>[44]::ni b
def Kr{b:Nat}(c:b<a.length):gM (a.take (b+1))=gM (a.take b)++((if b=0 then []else [[44]])++ni a[b]):=by
 cases a with
 |nil=>grind
 |cons d a=>
  cases b with
  |zero=>rfl
  |succ b=>
   simp only[YC,Nat.add_lt_add_iff_right]at c;grind [gM,List.take_succ_eq_append_getElem]
def iv{j a:Zc}(b:Zc)(c:a=j++b):(bc st j).1.length<=(bc st a).1.length:=by
 rw[c];exact ke st j b
abbrev he:Nat:=140737488355328
def Eb(c:bA d e L st g)(I:gn d)(t:∀A∈h,d.heap[A.1]? = some A.2){v:Int}(w:dg h f (.const b j v))(p:iI v)(x:(bc st (wI b v)).1.length<=he) :
  Calls prog 333 #[Zp f,lE e L] g (jF d e L (bc st (wI b v)) g):=by
 have n:=c.cI t _ w;have K:=bU (i:=0) n rfl;have M:=bU (i:=2) n rfl;have r:=Z (λJ (H:am [] g J)=>od v p.1 p.2 ((c.F H).hm I));have q:=Z c;have C:=Z x;have l:=Z n;clear c x p n w t;go_in;go_wp2_with fail;refine cx (λB=>B.cell? (Zd f 0)=some (Zs b)/\B.cell? (Zd f 2)=some (U v)) (L:=12) (by kernel_rfl) rfl (by kernel_rfl) (by kernel_rfl) ?_ (λu=>?_)
 .simp_all
 refine bH [0,1,2,3,4,5,6,7,8,9] ?_;iterate 10 (refine bK (v:=?_) rfl (by kernel_rfl) (λ_ _ _ c=>c) (by rfl) (by assumption) ?_ ?_;rotate_left;focus (intro N G;(try dsimp only at G);go_simp;(try with_reducible rfl));(try simp only[aJ,aK,List.set]))
 refine bI ?_;refine bF 10 (by kernel_rfl) rfl λm a=>?_;(go_simp;go_at_call 334;refine(r.j _ (ak [] _).aq).mono ?_;rintro F O ⟨rfl,k⟩;have k:=(ak [] _).aq.u k;have R:=bU (i:=0) ((k.G f (ap l.j) (by simp)).trans l.j) rfl;have S:=bU (i:=2) ((k.G f (ap l.j) (by simp)).trans l.j) rfl;have o:=Z k;clear k);refine a.out _ _ ?_ (λu=>?_)
 .go_keep
 clear a m;(try simp only[aJ,aK,List.set]);refine bF 11 (by kernel_rfl) rfl λm a=>?_;go_simp;refine a.out _ _ ?_ (λu=>?_)
 .go_keep
 clear a m;(try simp only[aJ,aK,List.set]);refine wpAnyH_done (by kernel_rfl) ?_ _;have s:=Z (dR (q.j.F o.j) [[99,111,110,115,116],b,[61],itoa v,[59]] C.j);refine nh rfl (λm a=>?_);(go_simp;refine(s.j _ _ _ (by simp) rfl rfl (by simp)).mono ?_;rintro F P ⟨rfl,y,z⟩;have E:=Z ((fm o.j).u z);have D:=Z y;clear y z);refine a.out _ _ ?_;clear a m;(try simp only[aJ,aK,List.set]);clear s r q l o;go_wp2;go_end0;exact⟨rfl,D.j,E.j⟩
def EW(i:bA d e L st g)(E:gn d)(s:∀x∈h,d.heap[x.1]? = some x.2){a:aO}(t:dg h f (.typedef a))(D:lI a.H)(k:(bc st ([[116,121,112,101,100,101,102]]++(eI a++[[59]]))).1.length<=he) :
  Calls prog 338 #[Zp f,lE e L] g (jF d e L (bc st ([[116,121,112,101,100,101,102]]++(eI a++[[59]]))) g):=by
 have c:=Z (dR i [[116,121,112,101,100,101,102]] (Yz (ke st [[116,121,112,101,100,101,102]] (eI a++[[59]])) k));have p:=Z (λG (F:eY) (i:bA d e L F G)=>i.cI s _ t);have H:=Z k;obtain⟨I,M,C⟩:=dG a.H;clear i k t s;go_in;go_wp2_with fail;refine(c.j _ _ _ (by simp) rfl rfl (by simp)).mono ?_;rintro r o ⟨rfl,l,u⟩;have j:=p.j _ _ l;have J:o.cell? (Zd f 0)=some (Zs a.t):=bU j rfl;have K:o.cell? (Zd f 1)=some (U a.m):=bU j rfl;have B:o.cell? (Zd f 2)=some (bj a.H):=bU j rfl;have b:=tv l E a D (by rw[ct];exact Yz (ke st ([[116,121,112,101,100,101,102]]++eI a) [[59]]) (by grind [ac.j]));dsimp only[ek]at b;rw[C]at b B;have b:=Z b;have q:=Z u;clear l u c p j;go_wp2_with fail;refine b.j.mono ?_;rintro r N ⟨rfl,m,v⟩;rw[ct]at m;have c:=Z (dR m [[59]] (by grind [ct,ac.j]));have z:=Z (q.j.u v);clear m v b q;go_wp2_with fail;refine(c.j _ _ _ (by simp) rfl rfl (by simp)).mono ?_;rintro r O ⟨rfl,n,w⟩;rw[ct,YN]at n;have A:=Z (z.j.u w);have y:=Z n;clear n w c;go_wp2;go_end0;exact⟨rfl,y.j,A.j⟩
def Eg(t:bA d e L st g)(c2:gn d)(b1:∀k∈h,d.heap[k.1]? = some k.2)(d3:dg h f (.enum b j a))(d0:∀i∈a,iI i.2.2)
  (b4:(bc st (([[101,110,117,109],b,[123]]++gM a)++[[125],[59]])).1.length<=he) :
  Calls prog 343 #[Zp f,lE e L] g (jF d e L (bc st (([[101,110,117,109],b,[123]]++gM a)++[[125],[59]])) g):=by
 obtain⟨f3,b7,b3,f0,d8,d2⟩:=d3;have c3:g.cell? (Zd f 0)=some (Zs b):=bU (t.cI b1 _ b3) rfl;have b5:=Yz (ke st ([[101,110,117,109],b,[123]]++gM a) [[125],[59]]) b4;have m:=Z (dR t [[101,110,117,109],b,[123]] (Yz (ke st _ (gM a)) b5));have b9:=Z b4;have c4:=Z b5;have D:=Z (λN (e0:eY) (t:bA d e L e0 N)=>t.cI b1);clear b4 b5 t b1;rcases d8 with⟨rfl,c9,_⟩|⟨c1,c7,e4,rfl,⟨e5,e9⟩,d4,d9⟩
 .have d7:a=[]:=Yv.1 c9;subst d7;go_in;go_wp2_with fail;refine(m.j _ _ _ (by simp) rfl rfl (by simp)).mono ?_;rintro q P ⟨rfl,B,J⟩;have c6:P.cell? (Zd f 2)=some (.slice none 0 0):=bU (D.j _ _ B _ b3) rfl;have m:=Z (dR B [[125],[59]] (by rw[ct];exact b9.j));have a9:=Z J;clear B J c3;go_wp2_with fail;go_loopw [19] (λM a5=>M=U 0/\a5=P) (λ_ _=>0)
  case atStart=>simp
  case round=>
   obtain⟨rfl,rfl⟩:=hrel;go_wp2_with fail;refine(m.j _ _ _ (by simp) rfl rfl (by simp)).mono ?_;rintro q R ⟨rfl,r,x⟩;rw[ct]at r;have E:=Z (a9.j.u x);have A:=Z r;clear r x m;go_wp2;go_end0;exact⟨rfl,A.j,E.j⟩
 .go_in;go_wp2_with fail;refine(m.j _ _ _ (by simp) rfl rfl (by simp)).mono ?_;rintro q P ⟨rfl,B,J⟩;have c6:P.cell? (Zd f 2)=some (.slice (some ⟨c1,0,none⟩) a.length c7):=bU (D.j _ _ B _ b3) rfl;have a9:=Z J;have c5:ac (bA d e L (bc st ([[101,110,117,109],b,[123]]++gM (a.take 0))) P):=by
   show bA _ _ _ _ _;simpa[gM]using B
  clear B J c3 m;go_wp2_with fail;go_loopw [19] (λM a5=>∃c:Nat,M=U c/\c<=a.length/\ac (bA d e L (bc st ([[101,110,117,109],b,[123]]++gM (a.take c))) a5)/\ac (gU e L g a5)) (λM _=>a.length-(RowKit.intOf M).toNat)
  case atStart=>grind
  case round=>
   obtain⟨c,rfl,a3,z,a8⟩:=hrel;clear c5 a9;rcases Yj c a.length with b6|e6
   .have d6:c<b7.length:=by omega
    have d1:wr.cell? (Zd c1 c)=some (.pointer (some ⟨b7[c],0,none⟩)):=bJ (D.j _ _ z.j _ d4) d9 (by simp);have f1:(0:Int)<=(c:Int):=by omega
    have f2:(c:Int)<(a.length:Int):=by omega
    have a2:=d2 c b6 d6;have s:=Z (Kr b6);have C:=Z (d0 a[c] (Yy b6));have a6:ac ((bc st ([[101,110,117,109],b,[123]]++gM (a.take (c+1)))).1.length<=he):=by
     refine Yz ?_ c4.j;have q:gM a=gM (a.take (c+1))++(a.drop (c+1)).flatMap λi=>[44]::ni i:=by
      cases a with
      |nil=>rfl
      |cons i a=>rw[List.take_succ_cons,List.drop_succ_cons,gM,gM,YN,<-YK,List.take_append_drop]
     rw[q,<-YN];exact ke _ _ _
    generalize b7[c]=k at d1 a2;generalize e8:a[c]=i at s C a2;by_cases a4:c=0
    .have c8:¬((0:Int)<(c:Int)):=by omega
     have w:=s.j;rw[Y9 a4,YT]at w;have s:=Z w;clear w a4;have u:=D.j _ _ z.j _ a2;have a0:wr.cell? (Zd k 0)=some (.string ⟨i.1.toArray⟩):=bU u rfl;have a1:wr.cell? (Zd k 2)=some (U i.2.2):=bU u rfl;have F:=Z (λN (a3:am [] wr N)=>od i.2.2 C.j.1 C.j.2 ((z.j.F a3).hm c2));have o:=Z u;clear u;go_wp2_with fail;refine cx (λO=>O.cell? (Zd k 0)=some (.string ⟨i.1.toArray⟩)/\O.cell? (Zd k 2)=some (U i.2.2)) (L:=12) (by kernel_rfl) rfl (by kernel_rfl) (by kernel_rfl) ?_ (λH=>?_)
     .exact⟨a0,a1⟩
     refine bH [0,1,2,3,4,5,6,7,8,9] ?_;iterate 10 (refine bK (v:=?_) rfl (by kernel_rfl) (λ_ _ _ t=>t) (by rfl) (by assumption) ?_ ?_;rotate_left;focus (intro e1 b2;(try dsimp only at b2);go_simp;(try with_reducible rfl));(try simp only[aJ,aK,List.set]))
     refine bI ?_;refine bF 10 (by kernel_rfl) rfl λp l=>?_;(go_simp;go_at_call 334;refine(F.j _ (ak [] _).aq).mono ?_;rintro q S ⟨rfl,n⟩;have n:=(ak [] _).aq.u n;have e2:S.cell? (Zd k 0)=some (.string ⟨i.1.toArray⟩):=bU ((n.G k (ap o.j) (by simp)).trans o.j) rfl;have e3:S.cell? (Zd k 2)=some (U i.2.2):=bU ((n.G k (ap o.j) (by simp)).trans o.j) rfl;have y:=Z n;clear n);refine l.out _ _ ?_ (λH=>?_)
     .go_keep
     clear l p;(try simp only[aJ,aK,List.set]);refine bF 11 (by kernel_rfl) rfl λp l=>?_;go_simp;refine l.out _ _ ?_ (λH=>?_)
     .go_keep
     clear l p;(try simp only[aJ,aK,List.set]);refine wpAnyH_done (by kernel_rfl) ?_ _;have m:=Z (dR (z.j.F y.j) [i.1,[61],itoa i.2.2] (by rw[ct,YN];have:=a6.j;rw[s.j]at this;exact this));refine nh rfl (λp l=>?_);(go_simp;refine(m.j _ _ _ (by simp) rfl rfl (by simp)).mono ?_;rintro q b8 ⟨rfl,I,K⟩;have b0:=Z ((a8.j.u (fm y.j)).u K);have a7:ac (bA d e L (bc st ([[101,110,117,109],b,[123]]++gM (a.take (c+1)))) b8):=(by have G:=I;rw[ct,YN]at G;show bA _ _ _ _ _;rw[s.j];exact G);clear I K);refine l.out _ _ ?_;clear l p;(try simp only[aJ,aK,List.set]);clear m F o y a0 a1;go_wp2;exact⟨⟨c+1,by rfl,by omega,a7,b0⟩,by simp[RowKit.intOf];omega⟩
    .have c8:(0:Int)<(c:Int):=by omega
     have w:=s.j;rw[Y2 a4]at w;have s:=Z w;have c0:=Z (dR z.j [[44]] (by
      rw[ct];refine Yz ?_ a6.j;rw[w,<-YN,<-YN];exact ke _ _ _))
     clear w a4;go_wp2_with fail;refine(c0.j _ _ _ (by simp) rfl rfl (by simp)).mono ?_;rintro q R ⟨rfl,r,x⟩;have A:=Z r;have E:=Z (a8.j.u x);clear r x c0;have u:=D.j _ _ A.j _ a2;have a0:R.cell? (Zd k 0)=some (.string ⟨i.1.toArray⟩):=bU u rfl;have a1:R.cell? (Zd k 2)=some (U i.2.2):=bU u rfl;have F:=Z (λN (a3:am [] R N)=>od i.2.2 C.j.1 C.j.2 ((A.j.F a3).hm c2));have o:=Z u;clear u;go_wp2_with fail;refine cx (λO=>O.cell? (Zd k 0)=some (.string ⟨i.1.toArray⟩)/\O.cell? (Zd k 2)=some (U i.2.2)) (L:=12) (by kernel_rfl) rfl (by kernel_rfl) (by kernel_rfl) ?_ (λH=>?_)
     .exact⟨a0,a1⟩
     refine bH [0,1,2,3,4,5,6,7,8,9] ?_;iterate 10 (refine bK (v:=?_) rfl (by kernel_rfl) (λ_ _ _ t=>t) (by rfl) (by assumption) ?_ ?_;rotate_left;focus (intro e1 b2;(try dsimp only at b2);go_simp;(try with_reducible rfl));(try simp only[aJ,aK,List.set]))
     refine bI ?_;refine bF 10 (by kernel_rfl) rfl λp l=>?_;(go_simp;go_at_call 334;refine(F.j _ (ak [] _).aq).mono ?_;rintro q S ⟨rfl,n⟩;have n:=(ak [] _).aq.u n;have e2:S.cell? (Zd k 0)=some (.string ⟨i.1.toArray⟩):=bU ((n.G k (ap o.j) (by simp)).trans o.j) rfl;have e3:S.cell? (Zd k 2)=some (U i.2.2):=bU ((n.G k (ap o.j) (by simp)).trans o.j) rfl;have y:=Z n;clear n);refine l.out _ _ ?_ (λH=>?_)
     .go_keep
     clear l p;(try simp only[aJ,aK,List.set]);refine bF 11 (by kernel_rfl) rfl λp l=>?_;go_simp;refine l.out _ _ ?_ (λH=>?_)
     .go_keep
     clear l p;(try simp only[aJ,aK,List.set]);refine wpAnyH_done (by kernel_rfl) ?_ _;have m:=Z (dR (A.j.F y.j) [i.1,[61],itoa i.2.2] (by rw[ct,ct,YN];have:=a6.j;rw[s.j]at this;exact this));refine nh rfl (λp l=>?_);(go_simp;refine(m.j _ _ _ (by simp) rfl rfl (by simp)).mono ?_;rintro q b8 ⟨rfl,I,K⟩;have b0:=Z ((E.j.u (fm y.j)).u K);have a7:ac (bA d e L (bc st ([[101,110,117,109],b,[123]]++gM (a.take (c+1)))) b8):=(by have G:=I;rw[ct,ct,YN]at G;show bA _ _ _ _ _;rw[s.j];exact G);clear I K);refine l.out _ _ ?_;clear l p;(try simp only[aJ,aK,List.set]);clear m F o y a0 a1;go_wp2;exact⟨⟨c+1,by rfl,by omega,a7,b0⟩,by simp[RowKit.intOf];omega⟩
   .have d5:c=a.length:=by omega
    subst d5;have e7:¬((a.length:Int)<(a.length:Int)):=by omega
    rw[YG]at z;have m:=Z (dR z.j [[125],[59]] (by rw[ct];exact b9.j));go_wp2_with fail;refine(m.j _ _ _ (by simp) rfl rfl (by simp)).mono ?_;rintro q R ⟨rfl,r,x⟩;rw[ct]at r;have E:=Z (a8.j.u x);have A:=Z r;clear r x m;go_wp2;go_end0;exact⟨rfl,A.j,E.j⟩
def fU(a:List aO):Zc:=a.flatMap λb=>eI b++[[59]]
def GO{a:List aO}{b:Nat}(c:b<a.length):fU (a.take (b+1))=fU (a.take b)++(eI a[b]++[[59]]):=by
 grind [fU,List.take_succ_eq_append_getElem]
def EQ(r:bA d e L st g)(c5:gn d)(G:∀a5∈h,d.heap[a5.1]? = some a5.2){a:List aO}(c0:dg h f (.struct b j a))(b9:∀o∈a,lI o.H)
  (K:(bc st (([[115,116,114,117,99,116],b,[123]]++fU a)++[[125],[59]])).1.length<=he) :
  Calls prog 346 #[Zp f,lE e L] g (jF d e L (bc st (([[115,116,114,117,99,116],b,[123]]++fU a)++[[125],[59]])) g):=by
 obtain⟨d9,H,c4⟩:=c0;have a4:g.cell? (Zd f 0)=some (Zs b):=bU (r.cI G _ H) rfl;have M:=Yz (ke st ([[115,116,114,117,99,116],b,[123]]++fU a) [[125],[59]]) K;have k:=Z (dR r [[115,116,114,117,99,116],b,[123]] (Yz (ke st _ (fU a)) M));have R:=Z K;have b0:=Z M;have C:=Z (λc7 (c6:eY) (r:bA d e L c6 c7)=>r.cI G);have a1:=r.lt;have d0:=Z a1;clear K M r G a1;rcases c4 with⟨rfl,b7,_⟩|⟨y,b6,d1,rfl,⟨d2,d6⟩,c1,N⟩
 .have c3:a=[]:=Yv.1 b7;subst c3;go_in;go_wp2_with fail;refine(k.j _ _ _ (by simp) rfl rfl (by simp)).mono ?_;rintro q w ⟨rfl,s,u⟩;have b5:w.cell? (Zd f 2)=some (.slice none 0 0):=bU (C.j _ _ s _ H) rfl;have k:=Z (dR s [[125],[59]] (by rw[ct];exact R.j));have E:=Z u;clear s u a4;go_wp2_with fail;go_loopw [19] (λv B=>v=U 0/\B=w) (λ_ _=>0)
  case atStart=>simp
  case round=>
   obtain⟨rfl,rfl⟩:=hrel;go_wp2_with fail;refine(k.j _ _ _ (by simp) rfl rfl (by simp)).mono ?_;rintro q a8 ⟨rfl,l,m⟩;rw[ct]at l;have t:=Z (E.j.u m);have D:=Z l;clear l m k;go_wp2;go_end0;exact⟨rfl,D.j,t.j⟩
 .go_in;go_wp2_with fail;refine(k.j _ _ _ (by simp) rfl rfl (by simp)).mono ?_;rintro q w ⟨rfl,s,u⟩;have b5:w.cell? (Zd f 2)=some (.slice (some ⟨y,0,none⟩) a.length b6):=bU (C.j _ _ s _ H) rfl;have E:=Z u;have b1:ac (bA d e L (bc st ([[115,116,114,117,99,116],b,[123]]++fU (a.take 0))) w):=by
   grind [fU]
  clear s u a4 k;go_wp2_with fail;go_loopw [19] (λv B=>∃i:Nat,v=U i/\i<=a.length/\ac (bA d e L (bc st ([[115,116,114,117,99,116],b,[123]]++fU (a.take i))) B)/\ac (gU e L g B)) (λv _=>a.length-(RowKit.intOf v).toNat)
  case atStart=>grind
  case round=>
   obtain⟨i,rfl,d5,x,a0⟩:=hrel;clear b1 E;rcases Yj i a.length with A|d3
   .have z:=C.j _ _ x.j _ c1;have I:=iS (c:=ek) (n:=3) (λ_=>rfl) a i;have a6:wr.cell? ⟨y,i*3,none⟩=some (.string ⟨a[i].t.toArray⟩):=bJ z N (by have:=I 0 A (by omega);grind);have a7:wr.cell? ⟨y,i*3+1,none⟩=some (U a[i].m):=bJ z N (by grind);have O:wr.cell? ⟨y,i*3+2,none⟩=some (bj a[i].H):=bJ z N (by have:=I 2 A (by omega);simpa using this);have d7:(0:Int)<=(i:Int):=by omega
    have d8:(i:Int)<(a.length:Int):=by omega
    have F:=Z (GO A);have P:=Z (b9 a[i] (Yy A));have S:ac ((bc st ([[115,116,114,117,99,116],b,[123]]++fU (a.take (i+1)))).1.length<=he):=by
     have q:fU a=fU (a.take (i+1))++fU (a.drop (i+1)):=by
      grind [fU,List.take_append_drop]
     exact Yz (iv (fU (a.drop (i+1))) (by grind)) b0.j
    clear z I;generalize a[i]=o at a6 a7 O F P;obtain⟨b4,c8,b8⟩:=dG o.H;have J:=(ak [] wr).B (.cells #[Zs o.t,U o.m,.iface b4 c8] 242)
    have p:=tv (x.j.F J) c5 o P.j (by
     rw[ct,YN];exact Yz (iv [[59]] (by grind [ac.j])) S.j)
    dsimp only[ek]at p;rw[b8]at p O;have p:=Z p;have a9:=Z J;clear J;go_wp2_with fail;refine p.j.mono ?_;rintro q a8 ⟨rfl,l,m⟩;rw[ct,YN]at l;have k:=Z (dR l [[59]] (by
     rw[ct,show ([[115,116,114,117,99,116],b,[123]]++(fU (a.take i)++eI o))++[[59]]=[[115,116,114,117,99,116],b,[123]]++fU (a.take (i+1)) by rw[F.j];simp];exact S.j))
    have t:=Z ((a0.j.u (fm a9.j)).u m);clear l m p a6 a7 O;go_wp2_with fail;refine(k.j _ _ _ (by simp) rfl rfl (by simp)).mono ?_;rintro q c9 ⟨rfl,a2,a3⟩;have b3:=Z (t.j.u a3);have b2:ac (bA d e L (bc st ([[115,116,114,117,99,116],b,[123]]++fU (a.take (i+1)))) c9):=by
     show bA _ _ _ _ _;rw[ct,show ([[115,116,114,117,99,116],b,[123]]++(fU (a.take i)++eI o))++[[59]]=[[115,116,114,117,99,116],b,[123]]++fU (a.take (i+1)) by rw[F.j];simp]at a2;omega
    clear a2 a3 k;go_wp2;exact⟨⟨i+1,by rfl,by omega,b2,b3⟩,by simp[RowKit.intOf];omega⟩
   .have c2:i=a.length:=by omega
    subst c2;have d4:¬((a.length:Int)<(a.length:Int)):=by omega
    rw[YG]at x;have k:=Z (dR x.j [[125],[59]] (by rw[ct];exact R.j));go_wp2_with fail;refine(k.j _ _ _ (by simp) rfl rfl (by simp)).mono ?_;rintro q a8 ⟨rfl,l,m⟩;rw[ct]at l;have t:=Z (a0.j.u m);have D:=Z l;clear l m k;go_wp2;go_end0;exact⟨rfl,D.j,t.j⟩
end
end Go.Proofs.YtjdhaegijjednaaGreatDoor
