import Derived.Test.YtjdhaegijjednaaGreatDoorT2
import Derived.Defers
import Derived.Recover
set_option linter.all false
set_option maxRecDepth 100000
set_option maxHeartbeats 4000000
namespace Go.Proofs.YtjdhaegijjednaaGreatDoor
open Go.RowKit Go.MapKept Go.Proofs.Tryz
section
variable {t : Zb} {a σ' b : ah}
def xP(b:σ'.s=a.s):bp a σ':=λ_=>⟨by rw[b],by rw[b]⟩
def GS(b:Nat)(c:List Int)(d:Zb)(a:ah):bp a (eg t b c d a).2.2.2:=λe=>by simp_all[vx]
theorem GU(b:Nat)(e:List Int)(c:Zc)(d:Zb)(a:ah):bp a (eO t b e c d a).2.2:=λf=>by simp_all[zQ]
theorem GX(of:Int)(b:Nat)(d f:List Int)(c:Zc)(e:Zb)(a:ah):bp a (fj t of b d f c e a).2:=λg=>by simp_all[wl]
theorem GY(b:Nat)(c:Zc)(d:List Int)(all:List cj)(e:Zb)(a:ah):bp a (fV t b c d all e a).2:=λf=>by simp_all[Hu]
def Oq(b:Zc)(a:ah):bp a (jq t b a).2:=by
 unfold jq;split
 .exact(kr _).u ((bu _ _ _).u (CL _ _))
 .exact fF a
def ae7(a:ah):bp (aS a.ax 40 a) (iz t a):=by
 unfold iz;simp only;generalize e:bf t 2 (aj t 2 Je (aS a.ax 40 a))=b;have c:bp (aS a.ax 40 a) b.2:=by rw[<-e];exact(bu _ _ _).u (ux _ _)
 generalize f:bT t (-2147483648) 4294967295 (aj t 4 [61] b.2)=v;have d:bp (aS a.ax 40 a) (aj t 4 [59] v.2):=by rw[<-f];exact c.u ((bu _ _ _).u ((jR _ _ _).u (bu _ _ _)))
 split
 .omega
 .exact d.u ((Ow _ _ _).u (rJ _ _))
def aff(a:ah):bp a (jd t a):=by
 unfold jd;simp only;generalize d:dx t [] true (aj t 2 Ja a)=b;have c:bp a b.2:=by rw[<-d];exact(bu _ _ _).u (CM _ _ _)
 split
 .omega
 .exact c.u (bp.u (xP (σ':={ b.2 with F:=b.2.F++[⟨b.1.x.text,1,b.1.r,b.1.x.y⟩] }) rfl) ((bu _ _ _).u (rJ _ _)))
def ae8(a:ah):bp a (jM t a):=by
 unfold jM;simp only;generalize g:bf t 2 (aj t 2 Jo a)=b;have d:bp a b.2:=by rw[<-g];exact(bu _ _ _).u (ux _ _)
 generalize f:eg t 13 [] (Jm++b.1.text++Jd) (aj t 4 Jv b.2)=c;have e:bp a c.2.2.2:=by rw[<-f];exact d.u ((bu _ _ _).u (GS _ _ _ _))
 split
 .omega
 .exact e.u ((bu _ _ _).u ((bu _ _ _).u ((hH _ _).u ((xR _ _ _).u (rJ _ _)))))
def afe(a:ah):bp a (jA t a):=by
 unfold jA;exact(bu _ _ _).u ((ux _ _).u ((bu _ _ _).u ((GU _ _ _ _ _).u ((bu _ _ _).u ((bu _ _ _).u ((hH _ _).u ((xR _ _ _).u (rJ _ _))))))))
def afg(a:ah):bp a (je t a):=by
 unfold je;exact(bu _ _ _).u ((ux _ _).u ((bu _ _ _).u ((bu _ _ _).u ((Oy _).u ((xS _).u ((bu _ _ _).u ((bu _ _ _).u ((GX _ _ _ _ _ _ _).u ((Oq _ _).u ((bu _ _ _).u ((bu _ _ _).u ((hH _ _).u ((xR _ _ _).u (rJ _ _))))))))))))))
def afc(a:ah):bp (aS a.ai.length 4 a) (iO t a):=by
 unfold iO;simp only;generalize g:bf t 2 (aj t 2 Jc (aS a.ai.length 4 a))=b;have c:bp (aS a.ai.length 4 a) b.2:=by rw[<-g];exact(bu _ _ _).u (ux _ _)
 generalize f:fV t 6 [] [] [] (Jj++b.1.text++Jd) (aj t 4 Jv b.2)=v;have d:bp (aS a.ai.length 4 a) (aj t 4 Jl v.2):=by rw[<-f];exact c.u ((bu _ _ _).u ((GY _ _ _ _ _ _).u (bu _ _ _)))
 have e:=d.u (rI (t:=t) (aj t 4 Jl v.2).ai _);exact e.u (xP rfl)
def pb(a:ah):Nat:=a.ax.toNat+a.an.toNat+a.ai.length
def Ue(b:(cC t a).s.e=0)(l:a.s.e=0)(m:0<=a.ax/\0<=a.an)(o:a.s.x.w≠5):pb a+1<=pb (cC t a):=by
 unfold cC at *
 split at b
 .rename_i g;rw[Y9 g];obtain⟨d,f⟩:=SN b;have:=f.t;have:=f.p;unfold pb;omega
 .rename_i g;rw[Y2 g];split at b
  .rename_i h;rw[Y9 h];obtain⟨d,f⟩:=SV (t:=t) a;have:=d.c;have:=d.t;unfold pb;omega
  .rename_i h;rw[Y2 h];split at b
   .grind [es,nU,qV,kg]
   .rename_i k;rw[Y2 k];simp only at b ⊢;have n:=(dN a.an 24 a).h5;have v:∀j:ah,fq { aS a.an 24 a with an:=(aS a.an 24 a).an+1 } j->pb a+1<=pb j:=by
     intro j i;have q:=i.c;have r:=i.t;have u:=i.p;grind [pb]
    grind [SY,SP,SW,SZ]
end
section
variable {t : Zb} {a b c : ah}
def lz:ah:=⟨⟨dE,0,0⟩,[],[],[],[],0,0,[]⟩
def xD:PV:=⟨.slice none 0 0,.slice none 0 0,.slice none 0 0,.slice none 0 0,[]⟩
def acn{X:Nat->Prop}(b:Zw)(c:∀a,X a->a<b.heap.size)(e:t.length<=2000):bw X b.heap.size t 0 lz xD (b.alloc (qn t lz.s (vl xD lz))):=by
 refine⟨bl rfl,⟨rfl,Y8 ⟨rfl,rfl⟩⟩,⟨rfl,Y8 ⟨rfl,rfl⟩⟩,⟨rfl,Y8 ⟨rfl,rfl⟩⟩,⟨rfl,Y8 ⟨rfl,rfl⟩⟩,rfl,?_,?_,?_,?_,?_,YV _,by simp[lz,dE],e,by simp[lz,ah.sz],by simp[lz]⟩
 .grind [lz]
 .constructor<;>simp[xD,Value.ownBlock]
 .grind [PV.a8,xD]
 .grind [PV.b2,xD,Value.ownBlock,PV.a8]
 .intro a d;have:=c a d;simp;omega
end
section
variable {t : Zb} {a b c : ah}
def aaz(e:cr a)(c:bt):cr (dk c a):=by
 intro b g f;obtain⟨d,h⟩:=e b g f;refine⟨d,?_⟩;show b.n<((a.h++[c]).length:Int);grind
theorem FH(b:cr a)(c:Zb):cr (gd c a):=b
theorem Mt(f:cr a)(h:Nat)(e c:Int)(g:e=1->0<=c/\c<a.h.length):cr (jc a h e c):=by
 intro i b d;unfold jc at b;simp only at b;rcases List.mem_or_eq_of_mem_set b with b|rfl
 .exact f i b d
 .exact g d
theorem Ms(b:cr a)(d:Zb)(c:Int):cr (eK d c a):=by
 unfold eK;simp only;split
 .exact Mt b _ 0 c Zq
 .exact b
def aaC(d:cr a)(c:Zb)(b:Int)(e:0<=b/\b<a.h.length):cr (eI c b a):=by
 grind [eI,Mt]
def aau(c:cr a):cr (iz t a):=by
 unfold iz;simp only;generalize e:bf t 2 (aj t 2 Je (aS a.ax 40 a))=b;have d:cr b.2:=by rw[<-e];exact vP (gP c ((dN ..).u (aF ..)).ak) 2 Ze
 generalize f:bT t (-2147483648) 4294967295 (aj t 4 [61] b.2)=v;have g:cr (aj t 4 [59] v.2):=by rw[<-f];exact gP d ((aF ..).u ((iB ..).u (aF ..))).ak
 grind [FH,Ms]
def FG(e:cr a)(d:Zb)(b:bt)(c:Zb):cr (gd c (eI d a.h.length (dk b a))):=by
 refine FH (aaC (aaz e b) d _ ⟨Zm,?_⟩) c;show ((a.h.length:Nat):Int)<((a.h++[b]).length:Int);grind
def aaB:∀(c:Nat) (e:List Int) (d:Zc) (f:Zb) (a:ah),cr a->cr (eO t c e d f a).2.2:=by
 intro c;induction c with
 |zero=>intro e d f a b;exact b
 |succ c h=>
  intro e d f a b;unfold eO;split
  .exact b
  .simp only;have g:cr (aj t 4 [59] (dx t d false (aS e.length 12 a)).2):=gP b ((dN ..).ak.u ((ph ..).u (aF ..).ak));grind
theorem aaA(b:cr a):cr (jA t a):=by
 unfold jA;simp only;generalize d:bf t 2 (aj t 2 Jf a)=e;have c:cr e.2:=by rw[<-d];exact vP (gP b (aF _ _ _).ak) 2 Ze
 exact FG (gP (aaB _ _ _ _ _ (gP c (aF _ _ _).ak)) ((aF _ _ _).u (aF _ _ _)).ak) _ _ _
def aax:∀(d:Nat) (b:List Int) (g:Zb) (a:ah),cr a->cr (eg t d b g a).2.2.2:=by
 intro d;induction d with
 |zero=>intro b g a c;exact c
 |succ d o=>
  intro b g a c;unfold eg;split
  .exact c
  .simp only;generalize m:bf t 2 (aS (aS b.length 12 a).ax 40 (aS b.length 12 a))=f;have h:cr f.2:=by rw[<-m];exact vP (gP c ((dN ..).u (dN ..)).ak) 2 Ze
   generalize n:bT t (-2147483648) 2147483647 (aj t 4 [61] f.2)=v;have i:cr v.2:=by rw[<-n];exact gP h ((aF ..).u (iB ..)).ak
   generalize l:(if v.2.s.e=0/\b.contains v.1.1=true then ch 6 v.1.2 v.2 else v.2)=p
   have j:cr p:=by rw[<-l];exact gP i (nK ..).ak
   split
   .omega
   .have k:=Ms j f.1.text v.1.1;split
    .exact o _ _ _ (gP k (gf _).ak)
    omega
theorem aaw(d:cr a):cr (jM t a):=by
 unfold jM;simp only;generalize h:bf t 2 (aj t 2 Jo a)=b;have e:cr b.2:=by rw[<-h];exact vP (gP d (aF _ _ _).ak) 2 Ze
 generalize g:eg t 13 [] (Jm++b.1.text++Jd) (aj t 4 Jv b.2)=c;have f:cr c.2.2.2:=by rw[<-g];exact aax _ _ _ _ (gP e (aF _ _ _).ak)
 split
 .omega
 .exact FG (gP f ((aF _ _ _).u (aF _ _ _)).ak) _ _ _
theorem aaF(of:Int):∀(d:Nat) (b g:List Int) (e:Zc) (f:Zb) (a:ah),cr a->cr (fj t of d b g e f a).2:=by
 intro d;induction d with
 |zero=>intro b g e f a c;exact c
 |succ d i=>
  intro b g e f a c;unfold fj;split
  .exact c
  .simp only;have h:cr (dB t e (de t of (14-b.length) b [] a).2).2:=gP c ((sw (t:=t) of _ b [] a).1.ak.u (rj ..));grind
def yS(b:Zc)(a:ah):dm a (jq t b a).2:=by
 unfold jq;split
 .exact((gf _).u (aF ..)).ak.u (rj ..)
 .exact tv a
theorem aaE(e:cr a):cr (je t a):=by
 unfold je;simp only;generalize j:bf t 2 (aj t 2 Jh a)=d;have f:cr d.2:=by rw[<-j];exact vP (gP e (aF _ _ _).ak) 2 Ze
 generalize i:cx t (aj t 4 [40] (aj t 2 Jn d.2))=b;have g:cr b.2:=by rw[<-i];exact gP f (((aF _ _ _).u (aF _ _ _)).u (uw _)).ak
 have l:cr (aj t 4 Jv (aj t 4 [41] (dQ t b.2).2)):=gP g ((oq _).u ((aF _ _ _).u (aF _ _ _))).ak;generalize dQ t b.2=c at *
 generalize m:fj t b.1.1 14 [] [] [c.1.text] (Jr++d.1.text++Ji++b.1.2++[32]++c.1.text++Jx) (aj t 4 Jv (aj t 4 [41] c.2))=k;have h:cr k.2:=by grind [aaF]
 exact FG (gP h ((yS _ _).u ((aF _ _ _).u (aF _ _ _)).ak)) _ _ _
def aay(d:cr a):cr (iO t a):=by
 unfold iO;simp only;generalize i:bf t 2 (aj t 2 Jc (aS a.ai.length 4 a))=c;have b:cr c.2:=by rw[<-i];exact vP (gP d ((dN ..).u (aF ..)).ak) 2 Ze
 generalize h:fV t 6 [] [] [] (Jj++c.1.text++Jd) (aj t 4 Jv c.2)=v;have e:cr v.2:=by rw[<-h];exact gP b ((aF ..).ak.u (yU ..))
 have f:cr (cF t (aj t 4 Jl v.2).ai (aj t 4 Jl v.2)).2:=gP e ((aF (t:=t) 4 Jl v.2).ak.u (rk (t:=t) (aj t 4 Jl v.2).ai _));exact λj g b=>f j g b
end
section
variable {t : Zb} {σ a b : ah}
def uX(σ:ah)(a:Int):Prop:=0<=a/\a<σ.h.length
theorem dm.am(b:dm σ a):σ.h.length<=a.h.length:=by
 grind [h]
def uX.ak{c}(b:uX σ c)(d:dm σ a):uX a c:=⟨b.1,by have:=d.am;have:=b.2;omega⟩
theorem zF(a:bt):uX (dk a σ) σ.h.length:=⟨Zm,by show ((σ.h.length:Nat):Int)<((σ.h++[a]).length:Int);grind⟩
def Xh(f:5<=σ.h.length):uX (cS t σ).2 (cS t σ).1.1:=by
 have b:∀(a:ah) (c:Int),dm σ a->0<=c->c<=4->uX a c:=λa c e d g=>⟨d,by have:=e.am;omega⟩;unfold cS;split
 .grind [tv]
 .split
  .exact zF _
  .split
   .exact b _ _ (gf σ).ak Zq Zq
   .split
    .exact b _ _ (gf σ).ak Zq Zq
    .split
     .exact b _ _ (gf σ).ak Zq Zq
     .split
      .unfold mf;split
       .exact b _ _ ((gf σ).u (gf _)).ak Zq Zq
       .split
        .exact b _ _ ((gf σ).u (gf _)).ak Zq Zq
        .exact b _ _ (gf σ).ak Zq Zq
      .exact b _ _ (zL σ).ak Zq Zq
def TN(b:5<=σ.h.length)(a:Zc)(all:Bool):uX (dx t a all σ).2 (dx t a all σ).1.r:=by
 unfold dx;split
 .grind [kl,zF]
 .unfold iY;simp only;have c:=Xh (t:=t) b;split
  .exact zF _
  .split
   .exact zF _
   .split
    .exact zF _
    .exact c.ak (jQ ..).ak
theorem aaD(c:cr σ)(e:5<=σ.h.length):cr (jd t σ):=by
 unfold jd;simp only;have f:=TN (t:=t) (σ:=aj t 2 Ja σ) e [] true;have d:cr (dx t [] true (aj t 2 Ja σ)).2:=gP c ((aF ..).ak.u (ph ..));generalize dx t [] true (aj t 2 Ja σ)=a at *
 split
 .omega
 .refine FH (gP (σ:={ a.2 with F:=a.2.F++[⟨a.1.x.text,1,a.1.r,a.1.x.y⟩] }) ?_ (aF ..).ak) _;intro h b g;simp only[Yn,Yc]at b;rcases b with b|rfl
  .exact d h b g
  .exact f
def aav(a:cr σ)(c:5<=σ.h.length):cr (cC t σ):=by
 have b:cr { aS σ.an 24 σ with an:=(aS σ.an 24 σ).an+1 }:=Mu (gP a (dN σ.an 24 σ).ak) _;have d:5<=({ aS σ.an 24 σ with an:=(aS σ.an 24 σ).an+1 }:ah).h.length:=by
  show 5<=(aS σ.an 24 σ).h.length;rw[(dN σ.an 24 σ).h];omega
 unfold cC;split
 .exact aau a
 .split
  .exact aay a
  .split
   .exact gP a (zL σ).ak
   grind [aaD,aaw,aaA,aaE]
end
section
variable {t : Zb} {a σ' b : ah}
structure Rn(a:ah):Prop where
 gy:5<=a.h.length
 b8:∀r∈a.h,r.aH.length<=1000/\r.aC.length<=1000
def Rn.ak(c:Rn a)(e:dm a σ'):Rn σ':=by
 obtain⟨h,d,g⟩:=e.h;refine⟨by grind [gy],?_⟩;intro f b;rw[d]at b;rcases Yn.1 b with b|b
 .exact c.b8 f b
 simp_all
def Rn.of(b:Rn a)(c:σ'.h=a.h):Rn σ':=⟨by rw[c];exact b.gy,by rw[c];exact b.b8⟩
def zD(c:Rn a)(b:Int):Rn (bf t b a).2:=c.of (rD b a)
def Gr(e:Rn a)(b:bt)(f:b.aH.length<=1000/\b.aC.length<=1000):Rn (dk b a):=by
 refine⟨by show 5<=(a.h++[b]).length;grind [Rn.gy],?_⟩;intro d c;rcases Yn.1 (show d∈a.h++[b]from c)with c|c
 .exact e.b8 d c
 simp_all
theorem adg(b:Rn a)(d:Zb)(c:Int):Rn (eK d c a):=by
 unfold eK jc;split<;>exact⟨b.gy,b.b8⟩
def Gs(b:Rn a)(d:Zb)(c:Int):Rn (eI d c a):=by
 unfold eI jc;split
 .exact⟨b.gy,b.b8⟩
 omega
theorem Cr(b:Rn a)(c:Zb):Rn (gd c a):=⟨b.gy,b.b8⟩
theorem adb(b:Rn a):Rn (iz t a):=by
 unfold iz;simp only;have c:Rn (bf t 2 (aj t 2 Je (aS a.ax 40 a))).2:=zD (b.ak ((dN ..).u (aF ..)).ak) 2;generalize bf t 2 (aj t 2 Je (aS a.ax 40 a))=d at *
 have e:Rn (aj t 4 [59] (bT t (-2147483648) 4294967295 (aj t 4 [61] d.2)).2):=c.ak ((aF ..).u ((iB ..).u (aF ..))).ak;grind [Cr,adg]
def adk(c:Rn a):Rn (jd t a):=by
 unfold jd;simp only;have b:Rn (dx t [] true (aj t 2 Ja a)).2:=c.ak ((aF ..).ak.u (ph ..));generalize dx t [] true (aj t 2 Ja a)=d at *
 split
 .omega
 .exact⟨b.gy,b.b8⟩
theorem adh(d:Rn a):Rn (iO t a):=by
 unfold iO;simp only;have e:Rn (bf t 2 (aj t 2 Jc (aS a.ai.length 4 a))).2:=zD (d.ak ((dN ..).u (aF ..)).ak) 2;generalize bf t 2 (aj t 2 Jc (aS a.ai.length 4 a))=c at *
 generalize g:fV t 6 [] [] [] (Jj++c.1.text++Jd) (aj t 4 Jv c.2)=v;have f:Rn v.2:=by rw[<-g];exact e.ak ((aF ..).ak.u (yU ..))
 have b:Rn (cF t (aj t 4 Jl v.2).ai (aj t 4 Jl v.2)).2:=f.ak ((aF (t:=t) 4 Jl v.2).ak.u (rk (t:=t) (aj t 4 Jl v.2).ai _));exact⟨b.gy,b.b8⟩
def afn:∀(b:Nat) (c:List Int) (d:Zc) (e:Zb) (a:ah),(eO t b c d e a).1.length<=c.length+b:=by
 intro b;induction b with
 |zero=>intro c d e a;exact Y4 _
 |succ b f=>
  grind [eO,List.length_singleton]
def adj:∀(c:Nat) (e:List Int) (d:Zc) (f:Zb) (a:ah),Rn a->Rn (eO t c e d f a).2.2:=by
 intro c;induction c with
 |zero=>intro e d f a b;exact b
 |succ c h=>
  intro e d f a b;unfold eO;split
  .exact b
  .simp only;have g:Rn (aj t 4 [59] (dx t d false (aS e.length 12 a)).2):=b.ak ((dN ..).ak.u ((ph ..).u (aF ..).ak));grind
def adi(c:Rn a):Rn (jA t a):=by
 unfold jA;simp only;have d:Rn (bf t 2 (aj t 2 Jf a)).2:=zD (c.ak (aF ..).ak) 2;generalize bf t 2 (aj t 2 Jf a)=b at *
 have g:=afn (t:=t) 14 [] [] (Jp++b.1.text++Jd) (aj t 4 Jv b.2);have e:=adj (t:=t) 14 [] [] (Jp++b.1.text++Jd) (aj t 4 Jv b.2) (d.ak (aF ..).ak);generalize eO t 14 [] [] (Jp++b.1.text++Jd) (aj t 4 Jv b.2)=f at *
 refine Cr (Gs (Gr (e.ak ((aF ..).u (aF ..)).ak) _ ⟨Zq,?_⟩) ..) _;grind
end
section
variable {d:Nat}{e:Zo}{a:Zw}{b:Type}
def Pd(f:Bool){c}(s:pK c){g:aU}(w:∀x∈jS f g.H,c.ok x)(t:gE e d (.typedef g))(r:∀{h:b} {k:Zw},c.J h k->∀n∈e,k.heap[n.1]?=some n.2){h}(l:c.J h a):Calls prog (bif f then 336 else 337) #[Zp d,c.v] a (mO c a (hc c (jS f g.H) h)):=by
 obtain⟨A,C,m⟩:=oz g.H;have B:=(aB (r l _ t) (i:=2) rfl).trans (Yo some m.i);have j:=U (sh (ns:=jS f g.H) l);have q:=U w;obtain⟨y,p,z,o⟩:=CU s f;have u:=p _ m.i;cases f
 all_goals
  dsimp only[cond]at u ⊢;go_in;go_wp21;refine ta j (o.i _ q.i) λk _ j=>?_;go_wp2;go_end0;exact j.i.fin
def Pi(l:Bool){i}(x:pK i){F}{n:Zb}{a2}{g:it}(S:∀n∈g.flatMap λj=>jS l j.2.H,i.ok n)(N:gE e d (.union n F a2 g))(w:∀{q:b} {o:Zw},i.J q o->∀A∈e,o.heap[A.1]?=some A.2){q}(t:i.J q a):Calls prog (bif l then 347 else 348) #[Zp d,i.v] a (mO i a (hc i (g.flatMap λj=>jS l j.2.H) q)):=by
 obtain⟨b7,I,M,y,a1,O⟩:=N;obtain⟨ad,a6,rfl,b0,a0⟩:=a1.j4 (c:=vh) (n:=4) (λ_=>rfl) y;have b2:=aB (w t _ M) (i:=5) rfl;have h:=U (sh (ns:=g.flatMap λj=>jS l j.2.H) t);have s:=U (Yp a0 O);have D:=U S;obtain⟨a4,r,a5,B⟩:=CU x l;have C:=U y;cases l
 all_goals
  dsimp only[cond]at r ⊢;go_in;go_wp2;go_loopw [11] (λp o=>∃f:Nat,p=Y f/\f<=g.length/\af (Tl i _ ((g.drop f).flatMap λj=>jS _ j.2.H) a o)) (λp _=>g.length-(intOf p).toNat)
  case atStart=>exact⟨0,rfl,Zm,h⟩
  case round=>
   obtain⟨f,rfl,a9,h⟩:=hrel;rcases Yj f g.length with m|P
   .rw[Yk m,YD]at h;have z:f<I.length:=by rw[C.i];exact m
    obtain⟨L,rfl,k⟩:=s.i.1 f m z;have k:=U (k _ (h.i.f0 w));obtain⟨E,a3,u⟩:=oz g[f].2.H;obtain⟨G,H,K⟩:=(s.i.2 f m z).sl;have b3:wr.cell? ⟨L,f*4,none⟩=_:=(k.i 0 _ rfl).trans (Yo some K);have b4:=k.i 1 _ rfl;have b5:=k.i 2 _ rfl;have b6:=(k.i 3 _ rfl).trans (Yo some u.i);have b1:=r _ u.i;have a7:(0:Int)<=f:=Zm;have a8:(f:Int)<g.length:=Zm;have h:=U (h.i.A x (.cells #[.slice G g[f].1.length H,.string ⟨g[f].2.t.toArray⟩,Y g[f].2.y,.iface E a3] 363))
    go_wp21;refine ta h (B.i _ λn R=>D.i n (List.mem_flatMap.2 ⟨g[f],Yy m,R⟩)) λo _ h=>?_;go_wp2;exact⟨⟨f+1,Zj,Zm,h⟩,Zz⟩
   .rw[YR P]at h;go_wp2;go_end0;exact h.i.fin
end
def us(a:gJ):List (Zb×Nat):=gq a.cw++gq a.c0
def oB(v:gh):List (Zb×Nat):=v.ao.flatMap us
def aca{w:Type}{g}(o:pK g){B A S}{n:Zb}{b:List gh}{b2}(H:∀n∈b.flatMap oB,g.ok n)(a6:gE B A (.prog n S b b2))(r:∀{p:w} {i:Zw},g.J p i->∀L∈B,i.heap[L.1]?=some L.2){p m}(j:g.J p m):Calls prog 352 #[Zp A,g.v] m (mO g m (hc g (b.flatMap oB) p)):=by
 obtain⟨d4,a2,a5,s,b1,F⟩:=a6;obtain⟨ad,c1,rfl,c7,I⟩:=b1.j4 (c:=Aa) (n:=4) (λ_=>rfl) s;have d1:=aB (r j _ a5) (i:=2) rfl;have d:=U (sh (ns:=b.flatMap oB) j);have z:=U (Yp I F);have N:=U H;have M:=U s;obtain⟨b9,q,c0,x⟩:=CU o false;dsimp only[cond]at q;clear j H I s F;go_in;go_wp2;go_loopw [13] (λh i=>∃a:Nat,h=Y a/\a<=b.length/\af (Tl g _ ((b.drop a).flatMap oB) m i)) (λh _=>b.length-(intOf h).toNat)
 case atStart=>exact⟨0,rfl,Zm,d⟩
 case round=>
  obtain⟨a,rfl,t,d⟩:=hrel;rcases Yj a b.length with k|a7
  .rw[Yk k,YD]at d;have G:a<a2.length:=by rw[M.i];exact k
   obtain⟨a3,rfl,f⟩:=z.i.1 a k G;have f:=U (f _ (d.i.f0 r));obtain⟨a0,a1,C,c8,K⟩:=(z.i.2 a k G).K (c:=po) (n:=5) λ_=>rfl;have b3:wr.cell? ⟨a3,a*4,none⟩=_:=f.i 0 _ rfl;have b4:=f.i 1 _ rfl;have b5:=(f.i 2 _ rfl).trans (Yo some C);have b6:=f.i 3 _ rfl;have c2:(0:Int)<=a:=Zm;have c3:(a:Int)<b.length:=Zm;have O:=U K;have d:=U (d.i.A o (.cells #[.string ⟨b[a].t.toArray⟩,Y b[a].y,.slice a0 b[a].ao.length a1,Y b[a].num] 367));clear K C;go_wp2;go_loopw [20] (λh i=>∃e:Nat,h=Y e/\e<=b[a].ao.length/\af (Tl g _ ((b[a].ao.drop e).flatMap us++(b.drop (a+1)).flatMap oB) m i)) (λh _=>b[a].ao.length-(intOf h).toNat)
   case atStart=>exact⟨0,rfl,Zm,d⟩
   case round=>
    clear d;obtain⟨e,rfl,c4,d⟩:=hrel;rcases Yj e b[a].ao.length with u|a8
    .rw[Yk u,YD,us,YN,YN]at d;obtain⟨a4,rfl,f⟩:=O.i e u;have f:=U (f _ (d.i.f0 r));obtain⟨P,b7,D⟩:=oz b[a].ao[e].cw;obtain⟨R,b8,E⟩:=oz b[a].ao[e].c0;have b3:wr.cell? ⟨a4,e*5,none⟩=_:=f.i 0 _ rfl;have b4:=f.i 1 _ rfl;have b5:=(f.i 2 _ rfl).trans (Yo some D.i);have b6:=(f.i 3 _ rfl).trans (Yo some E.i);have d2:=f.i 4 _ rfl;have c9:=q _ D.i;have d0:=q _ E.i;have c5:(0:Int)<=e:=Zm;have c6:(e:Int)<b[a].ao.length:=Zm;have b0:=d.i.elim λ_ j=>o.bn j.1;have d:=U (d.i.A o (.cells #[.string ⟨b[a].ao[e].t.toArray⟩,Y b[a].ao[e].y,.iface P b7,.iface R b8,Y b[a].ao[e].num] 446))
     have y:af (∀n∈us b[a].ao[e],g.ok n):=U λn l=>N.i n (List.mem_flatMap.2 ⟨b[a],Yy k,List.mem_flatMap.2 ⟨b[a].ao[e],Yy u,l⟩⟩);go_wp21;refine ta d (x.i _ λn l=>y.i n (Yf _ l)) λi t d=>?_;have d3:=aB ((t.al _ Zq (λa9=>by have:=b0 _ a9;omega)).trans (bl rfl)) (i:=3) rfl;go_wp21;refine ta d (x.i _ λn l=>y.i n (Ym _ l)) λi t d=>?_;go_wp2;exact⟨⟨e+1,Zj,Zm,d⟩,Zz⟩
    .rw[YR a8]at d;go_wp2;exact⟨⟨a+1,Zj,Zm,d⟩,Zz⟩
  .rw[YR a7]at d;go_wp2;go_end0;exact d.i.fin
section
variable {P:Program}{b d g o e t:Nat}{f:Array Zv}{a:aD}{c:Zw}
def JR{g a h}(j:c.heap[b]?=some (.cells f a h))(l:P.cellsOf a=e)(i:e≠0)(k:byteOfCell P P.depth a (o % e)=some g):(byteOf ⟨b,o,none⟩).run P c=.ok (o / e*P.bytesOf a+g) c:=by
 have d:c.shape? b=some (a,f.size):=by simp[World.shape?,j]
 have m:(viewAt b).run P c=.ok none c:=by simp[viewAt,d]
 unfold byteOf;simp[noView,shape,Sem.run,m,d,l,i,k]
def ZD{y:Nat}{r j v:Nat}{name:String}{N O h w}(m:c.heap[b]?=some (.cells f h w)){p}(E:P.info? t=some p){a:Method}(G:p.methods.find? (λa=>a.name==name)=some a)(I:a.path=#[⟨r,g,true⟩])(C:a.func=some (d,false))
  {k} (K:P.underlying r=some (.struct k)) {i} (D:k[g]?=some i) (J:i.type=j) (H:i.offset=o) (z:i.byteOffset=v) {x} (L:P.underlying j=some (.struct x)) {q} (F:P.info? j=some q) (M:q.size=0)
  (n:P.cellsOf h=e) (l:e≠0) (A:byteOfCell P P.depth h (0 % e)=some N) (B:byteOfCell P P.depth h (o % e)=some O) :
  (method (y+1) t (Zp b) name).run P c=.ok (d,.agg #[]) c:=by
 have s:=JR (P:=P) (o:=0) m n l A;have u:=JR (P:=P) (o:=o) m n l B;unfold method;simp only[Sem.run_bind,run_typeInfo _ E,Result.andThen_ok,G,I,C,follow,run_underlying K,D,Place.get,asAddr,fieldPlace,partAt,sizeOf,J,run_typeInfo _ F,Sem.run_pure,if_true,M,H,z,s,u,Nat.zero_add,receiverAt,run_underlying L,loadVar,isAgg]
 rfl
def Vn{e}{f:Nat}(h:((P.underlying e).bind λa=>match a with|.struct c=>c[g]?|_=>none).map (λd=>(d.type,d.offset,d.byteOffset))=some (t,o,f)):∃c b,P.underlying e=some (.struct c)/\c[g]?=some b/\b.type=t/\b.offset=o/\b.byteOffset=f:=by
 cases i:P.underlying e<;>grind
def RH:∃a,prog.underlying 250=some (.struct a):=by
 simp
def jo:aD->List (Zb×Nat)
 |.const ..=>[]
 |.typedef a=>gq a.H
 |.enum ..=>[]
 |.struct _ _ c=>c.flatMap λa=>gq a.H
 |.union _ _ _ b=>b.flatMap λa=>gq a.2.H
 |.prog _ _ d _=>d.flatMap oB
def gj:aD->List (Zb×Nat)
 |.const ..=>[]
 |.typedef a=>hW a.H
 |.enum ..=>[]
 |.struct _ _ c=>c.flatMap λa=>hW a.H
 |.union _ _ _ b=>b.flatMap λa=>hW a.2.H
 |.prog ..=>[]
def tX(a:Bool):aD->Nat
 |.typedef ..=>bif a then 336 else 337
 |.struct ..=>bif a then 344 else 345
 |.union ..=>bif a then 347 else 348
 |.prog ..=>bif a then 351 else 352
 |_=>pA a .void
def EA(b:Bool)(a:aD)(args:Array Zv)(c:Zw):(callFunc (tX b a) args).run prog c=.ok (.enter (tX b a) args) c:=by cases b<;>cases a<;>kernel_rfl
def Ku(b:Nat):aD->Zv
 |.const ..=>.agg #[]
 |.enum ..=>.agg #[]
 |_=>.pointer (some ⟨b,0,none⟩)
def IR{h e:Nat}{name:String}(r:c.heap[b]?=some (.cells f e))(v:Nat)
  (l:((prog.info? h).bind λj=>j.methods.find? (λg=>g.name==name)).map (λg=>(g.path,g.func))=some (#[⟨e,1,true⟩],some (d,false)):=by kernel_rfl)
  (m:((prog.underlying e).bind λa=>match a with|.struct i=>i[1]?|_=>none).map (λd=>(d.type,d.offset,d.byteOffset))=some (250,2,24):=by kernel_rfl)
  (o:prog.cellsOf e=3:=by kernel_rfl) (p:byteOfCell prog prog.depth e (0 % 3)=some 0:=by kernel_rfl) (q:byteOfCell prog prog.depth e (2 % 3)=some 24:=by kernel_rfl):(method (v+1) h (Zp b) name).run prog c=.ok (d,.agg #[]) c:=by
 obtain⟨j,g,w,x,y,z⟩:=Gw l;obtain⟨i,F,A,B,C,D,E⟩:=Vn m;obtain⟨G,k⟩:=RH;obtain⟨H,s,u⟩:=CE (P:=prog) (t:=250) (n:=0) Zk;exact ZD r w x y z A B C D E k s u o Zm p q
def ED (d : Bool) {f}    (g : gE f b a) (h : ∀ i ∈ f, c.heap[i.1]? = some i.2) (e : Nat) : (method (e + 1) (fv a) (.pointer (some ⟨b, 0, none⟩)) (bif d then "Leads" else "Names")).run Tryz.prog c = .ok (tX d a, Ku b a) c := by
 cases a with
 |const t j v=>cases d<;>exact IR (h _ g) e
 |enum t j l=>
  obtain⟨n,m,k,_⟩:=g;cases d<;>exact IR (h _ k) e
 |_=>cases d<;>kernel_rfl
def EC(g:Bool){n:Type}{h}(f:pK h){o}(k:∀l∈bif g then gj a else jo a,h.ok l)(j:gE o b a)(i:∀{t:n} {q:Zw},h.J t q->∀p∈o,q.heap[p.1]?=some p.2){t}(d:h.J t c):Calls prog (tX g a) #[Ku b a,h.v] c (mO h c (hc h (bif g then gj a else jo a) t)):=by
 cases a with
 |const t m v=>cases g<;>first|exact zV f false .void (by intro l d;cases d) d|exact zV f true .void (by intro l d;cases d) d
 |enum t m s=>cases g<;>first|exact zV f false .void (by intro l d;cases d) d|exact zV f true .void (by intro l d;cases d) d
 |typedef a=>cases g<;>first|exact Pd false f k j i d|exact Pd true f k j i d
 |struct t m s=>cases g<;>first|exact OK false f k j i d|exact OK true f k j i d
 |union t m e u=>cases g<;>first|exact Pi false f k j i d|exact Pi true f k j i d
 |prog t m w l=>
  cases g
  .exact aca f k j i d
  .have r:=U (sh (ns:=[]) d);dsimp only[tX,cond];go_in;go_wp2;go_end0;exact r.i.fin
end
def eh:aD->Bool
 |.typedef ..=>true
 |.enum ..=>true
 |.struct ..=>true
 |.union ..=>true
 |_=>false
def vE:Option aD->Bool
 |some a=>eh a
 |none=>false
def afE(b:aD)(e:Zv):∀a∈[225,227,229,231],∀c,(Instr.typeAssert (.iface (fv b) e) 157 a true).run prog c=.ok (.tuple #[bif fv b==a then e else .pointer none,.bool (fv b==a)]) c:=by
 intro a d c;simp only[Yg,List.not_mem_nil,or_false]at d;rcases d with rfl|rfl|rfl|rfl<;>cases b<;>kernel_rfl
def WY{n v d}(b:nN n v d)(l:Zw):Calls prog 126 #[v] l λo p=>o=.returned (.bool (vE d))/\p=l:=by
 cases d with
 |none=>
  have b:v=.nilIface:=b;subst b;have a:∀e∈[225,227,229,231],∀c,(Instr.typeAssert .nilIface 157 e true).run prog c=.ok (.tuple #[.pointer none,.bool false]) c:=by
   intro e g c;simp only[Yg,List.not_mem_nil,or_false]at g;rcases g with rfl|rfl|rfl|rfl<;>kernel_rfl
  have h:=a 225 Zq;have i:=a 227 Zq;have j:=a 229 Zq;have k:=a 231 Zq;clear a;go_in;go_wp2;go_ret;exact⟨rfl,rfl⟩
 |some f=>
  obtain⟨m,rfl,_⟩:=b;have a:=afE f (Zp m);have h:=a 225 Zq;have i:=a 227 Zq;have j:=a 229 Zq;have k:=a 231 Zq;clear a;cases f
  all_goals
   dsimp only[fv]at h i j k ⊢;go_in;go_wp2;go_ret;exact⟨rfl,rfl⟩
def qe(c:St)(a:Zb×Nat):Except Mar.ac Unit:=match aP c.F a.1 with
 |some b=>if vE b then .ok ()else .error ⟨7,a.2⟩
 |none=>.error ⟨7,a.2⟩
def lT(a:Ad)(h:Za)(d:St)(e:Zo)(c:Nat):pJ Unit where
 f:=125
 e5:=#[]
 f7:=#[Zp c]
 a9:=λg _=>qe d g
 J:=λ_ b=>Rd a h d b/\b.heap[c]?=some (.cells #[Zp a.R] 145)/\dF a.X e b
 M:=[]
 ok:=λ_=>True
def XB{c q h n f b}(a:Zb×Nat)(B:(lT c q h n f).J () b):Calls prog 125 #[jv a,Zp f] b (mO (lT c q h n f) b (qe h a)):=by
 obtain⟨m,j,s⟩:=B;have k:=((Below.refl b.heap.size b).alloc (Y4 _) (.cells #[.string ⟨a.1.toArray⟩,Y a.2] 160)).drew;have p:=m.az k;obtain⟨E,F,G,H,I,K⟩:=m.K;have L:=m.lt.1;have C:=ay j;have D:=mv j;have x:=bl (w:=b) (o:=.cells #[.string ⟨a.1.toArray⟩,Y a.2] 160) rfl;obtain⟨P,S,_⟩:=su x;have key:∃v d i,(Instr.lookup 148 (.map (some c.N)) (.string ⟨a.1.toArray⟩) false).run prog ((b.alloc (.cells #[.string ⟨a.1.toArray⟩,Y a.2] 160)).drew)=.ok v ((b.alloc (.cells #[.string ⟨a.1.toArray⟩,Y a.2] 160)).drew)/\nN i v d/\qe h a=if vE d then .ok ()else .error ⟨7,a.2⟩:=by
  rcases BL p.nm a.1 false with⟨o,e⟩|⟨d,v,i,o,_,l,e⟩
  .simp only[Ye,if_false]at e
   exact⟨.nilIface,none,[],e,rfl,by simp only[qe,o,vE];rfl⟩
  .simp only[Ye,if_false]at e
   exact⟨v,d,i,e,l,by simp only[qe,o]⟩
 obtain⟨v,d,i,e,l,t⟩:=key;have y:=U l;have r:=U t;have z:af ((lT c q h n f).J () ((b.alloc (.cells #[.string ⟨a.1.toArray⟩,Y a.2] 160)).drew)):=⟨p,(k.block _ C).trans j,s.ae (ed [] k) Zq⟩;have M:¬c.R=b.heap.size:=Zm;have O:¬f=b.heap.size:=Zm;clear m j s k p l t x;dsimp only[jv];go_in;go_wp21;go_region_held2 (λg=>g.cell? (Zd f 0)=some (Zp c.R)/\g.cell? (Zd c.R 1)=some (.map (some c.N))/\g.cell? (Zd b.heap.size 0)=some (.string ⟨a.1.toArray⟩)) (go_keep)
  (first|(go_at_call 126;refine(WY y.i _).mono ?_;rintro A g ⟨rfl,rfl⟩))
 all_goals
  cases u:vE d with
  |true=>
   go_wp2;go_end0;exact⟨((ar _ b).A _).ag,Y8 ⟨(),by rw[r.i,u];rfl,rfl,z.i⟩⟩
  |false=>
   go_wp2_with (go_at_call 70;refine(fk _ _ _).mono ?_;rintro A g ⟨rfl,rfl⟩);exact bM ⟨(((ar _ b).A _).ag).A _,Ya ⟨⟨7,a.2⟩,by rw[r.i,u];rfl,b.heap.size+1,Zm,rfl,bl Zq⟩⟩
section
variable {b:Zo}{a:List aD}{c:List Nat}
def XD(args:Array Zv)(a:Zw):(callFunc 125 args).run prog a=.ok (.enter 125 args) a:=Zk
def XC(d:Ad)(l:Za)(n:St)(b:Zo)(j:Nat):pK (lT d l n b j) where
 d3:=XD
 bn:=by intro k m _ o h;cases h
 fH:=by
  rintro k m p ⟨f,c,g⟩ a;exact⟨f.az a,(a.block _ (ay c)).trans c,g.ae (ed [] a) Zq⟩
 call:=λi _ e=>XB i e
abbrev wU(a:List aD)(c:List Nat):Zl:=(a.zip c).map λb=>Value.iface (fv b.1) (.pointer (some ⟨b.2,0,none⟩))
structure mj(b:Zo)(sl:Zv)(a:List aD)(c:List Nat):Prop where
 am:c.length=a.length
 row:fh b 157 sl a.length (wU a c)
 eC:∀i (h:i<a.length) (h':i<c.length),gE b c[i] a[i]
def mj.K{k}(l:mj b k a c):∃ad f,k=.slice ad a.length f/\a.length<=1000/\∀d (g:d<a.length),∃e i,ad=some ⟨e,0,none⟩/\gE b i a[d]/\∀h:Zw,(∀j∈b,h.heap[j.1]?=some j.2)->h.cell? (Zd e d)=some (.iface (fv a[d]) (Zp i)):=by
 obtain⟨t,⟨rfl,m,-⟩|⟨e,f,s,rfl,⟨-,p⟩,o,q⟩,n⟩:=l
 .exact⟨none,0,by rw[m],Zm,λd g=>by omega⟩
 .exact⟨_,f,rfl,p,λd g=>⟨e,c[d],rfl,n d g Zm,λh r=>pt (r _ o) q (by rw[Yd Zx];simp)⟩⟩
def pj(b:St)(a:List aD):Except Mar.ac Unit:=hc (lT ⟨0,0,0,0,[]⟩ ⟨#[]⟩ b [] 0) (a.flatMap jo) ()
def XG(e:Ad)(g:Za)(d:St)(b:Zo)(f:Nat):∀(a:List (Zb×Nat)) (c:Unit),hc (lT e g d b f) a c=hc (lT ⟨0,0,0,0,[]⟩ ⟨#[]⟩ d [] 0) a c:=by
 intro a;induction a<;>simp_all[hc,lT]
def XI{e i h r d}(v:Rd e i h d)(A:dF e.X b d)(y:mj b r a c):Calls prog 74 #[Zp e.R,r] d (mO (lT e i h b d.heap.size) d (pj h a)):=by
 have a0:=jN;have o:=(Below.refl d.heap.size d).alloc (Y4 _) (.cells #[Zp e.R] 145);have w:=U (XC e i h b d.heap.size);have l:af (∀{n:Unit} {j:Zw},(lT e i h b d.heap.size).J n j->∀k∈b,j.heap[k.1]?=some k.2):=U λF k D=>(F.2.2 k D).1;have g:af (Tl (lT e i h b d.heap.size) (pj h a) (a.flatMap jo) d (d.alloc (.cells #[Zp e.R] 145))):=⟨(),⟨v.az o,bl rfl,A.ae (ed [] o) Zq⟩,(ar _ d).A _,(XG ..).symm⟩;obtain⟨ad,I,rfl,S,E⟩:=y.K;have t:=U E;generalize L:pj h a=u at *
 go_in;go_wp2;go_loopw [8] (λm j=>∃f:Nat,m=Y f/\f<=a.length/\af (Tl (lT e i h b d.heap.size) u ((a.drop f).flatMap jo) d j)) (λm _=>a.length-(intOf m).toNat)
 case atStart=>exact⟨0,rfl,Zm,g⟩
 case round=>
  obtain⟨f,rfl,P,g⟩:=hrel;rcases Yj f a.length with q|z
  .rw[Yk q,YD]at g;obtain⟨K,H,rfl,p,x⟩:=t.i f q;have a1:=x _ (g.i.f0 l.i);have C:=ED false p (g.i.f0 l.i);have M:=EA false a[f];have N:(0:Int)<=f:=Zm;have O:(f:Int)<a.length:=Zm;have s:=U λn j (B:(lT e i h b d.heap.size).J n j)=>EC false w.i (λ_ _=>trivial) p l.i B;generalize tX false a[f]=G at *
   dsimp only[cond]at C;go_wp21;refine ta g (s.i _ _ ·) λj _ g=>?_;go_wp2;exact⟨⟨f+1,Zj,Zm,g⟩,Zz⟩
  .rw[YR z]at g;go_wp2;go_end0;exact g.i.fin
end
section
variable {i:Ad}{N:Nat}{X:List Nat}{bs:Zo}{g:List (Zb×Option aD)}{c:Zb}{m:Option aD}{b:Zc}{h l j:Zw}{e:Zl}{σ:St}
def uT(X:List Nat)(N:Nat)(g:List (Zb×Option aD))(bs:Zo)(e:Zl)(j:Zw):Prop:=
 (g.map (·.1)).Nodup/\dF X bs j/\e.length=g.length/\j.heap[N]?=some (ul (g.zip e |>.map λb=>(b.1.1,b.2)))/\∀a (c:a<g.length) (d:a<e.length),nN bs e[a] g[a].2
def uT.ae{d a}(f:uT X N g bs e j)(c:ap a j d)(l:∀n∈a,n∈X)(m:N ∉ a):uT X N g bs e d:=by
 obtain⟨o,h,i,b,k⟩:=f;exact⟨o,h.ae c l,i,(c.al _ (ay b) m).trans b,k⟩
def aaL(l:uT X N g bs e j)(f:Zb)(p:aP g f=some m):∃v,nN bs v m/\(Instr.lookup 148 (.map (some N)) (Zs f) false).run prog j=.ok v j:=by
 obtain⟨D,t,u,n,w⟩:=l;have o:IsKey .string (Zs f):=trivial;have x:=xk (g.zip e |>.map λa=>(a.1.1,a.2));have r:(zeroValue 157).run prog j=.ok .nilIface j:=Zk;rcases zi (P:=prog) (T:=148) (kt:=9) (et:=157) (d:=.string) Zk Zk o n Zm r false with⟨c,k⟩|⟨h,i,c,k,s⟩
 .exfalso;obtain⟨a,q,i,_⟩:=Fv p;obtain⟨b,y,rfl⟩:=List.getElem_of_mem q;have z:b<e.length:=Zm;have C:(⟨.string ⟨g[b].1.toArray⟩,e[b],b⟩:MapEntry)∈((g.zip e |>.map λa=>(a.1.1,a.2)).mapIdx λb a=>(⟨.string ⟨a.1.toArray⟩,a.2,b⟩:MapEntry)).toArray.toList:=by
   grind
  grind
 .simp only[List.toList_toArray,List.getElem?_mapIdx]at c;have A:h<g.length:=by
   grind
  have B:h<e.length:=Zm;rw[Yd Zu]at c;grind [Bz]
def ku(σ:St)(b:Zc):Nat:=σ.F.countP λa=>!b.contains a.1
def Tq(h:c ∉ b):∀(g:List (Zb×Option aD)),g.countP (λa=>!(b++[c]).contains a.1)<=g.countP (λa=>!b.contains a.1)/\((∃a∈g,a.1=c)->g.countP (λa=>!(b++[c]).contains a.1)<g.countP (λa=>!b.contains a.1)):=by
 intro g;induction g with
 |nil=>simp
 |cons d g f=>
  obtain⟨j,k⟩:=f;by_cases i:d.1=c
  .grind
  .have e:(!(b++[c]).contains d.1)=(!b.contains d.1):=Zg;rw[List.countP_cons,List.countP_cons,e];grind
def agz(d:c ∉ b)(e:aP σ.F c=some m):ku σ (b++[c])<ku σ b:=by
 obtain⟨g,f,a,_⟩:=Fv e;exact(Tq d σ.F).2 ⟨g,f,a⟩
def qc(σ:St)(c:Zb):List (Zb×Nat):=match aP σ.F c with
 |some (some a)=>gj a
 |_=>[]
def follow(σ:St):Nat->Zb->Zc->Zc
 |0,_,b=>b
 |k+1,c,b=>if b.contains c then b else (qc σ c).foldl (λb a=>follow σ k a.1 b) (b++[c])
def VH{k}(a:c∈b):follow σ k c b=b:=by
 cases k<;>simp_all[follow]
def VI{k:Nat}{a}(e:c ∉ b)(f:aP σ.F c=some (some a)):follow σ (k+1) c b=(gj a).foldl (λb d=>follow σ k d.1 b) (b++[c]):=by
 simp_all[follow,qc]
structure uL where
 qb:Nat
 rb:Nat
 fb:Nat
 q:Nat
def uL.V(a:uL):Zv:=.func (.func 205) #[] #[Zp a.qb,Zp a.rb,Zp a.fb]
structure oG(i:Ad)(text:Za)(σ:St)(bs:Zo)(e:Zl)(a:uL)(k:Nat)(b:Zc)(h:Zw):Prop where
 rd:Rd i text σ h
 nw:uT i.X i.N σ.F bs e h
 vq:h.heap[a.qb]?=some (.cells #[.map (some a.q)] 103)
 vr:h.heap[a.rb]?=some (.cells #[Zp i.R] 145)
 vf:h.heap[a.fb]?=some (.cells #[a.V] 237)
 aq:hJ a.q b h
 bR:hX i a.q
 bm:ku σ b<=k
def oG.ca{f a d}(c:oG i f σ bs e a d b h):a.qb≠a.q/\a.rb≠a.q/\a.fb≠a.q:=by
 obtain⟨_,l,_,g⟩:=c.aq;have j:=c.vq;have k:=c.vr;grind [vf,ul]
def oG.b5{f d}{n k':Nat}{t'}(a:oG i f σ bs e d n b h)(c:ap [d.q] h l)(m:hJ d.q t' l)(j:ku σ t'<=k'):oG i f σ bs e d k' t' l:=by
 obtain⟨o,p,r⟩:=a.ca;obtain⟨_,s,_,k⟩:=id a.aq;refine⟨a.rd.i3 c a.bR k,a.nw.ae c (by simp;exact a.bR.1) (by simp;exact λg=>a.bR.2.2.2.1 g.symm),(c.al _ (ay a.vq) Zu).trans a.vq,(c.al _ (ay a.vr) Zu).trans a.vr,(c.al _ (ay a.vf) Zu).trans a.vf,m,a.bR,j⟩
def oG.az{g a f}(c:oG i g σ bs e a f b h)(d:Below h.heap.size h l):oG i g σ bs e a f b l:=
 c.b5 (ed [a.q] d) (c.aq.ae (ed [] d) Zq) c.bm
def vC(i:Ad)(h:Za)(σ:St)(bs:Zo)(e:Zl)(a:uL)(d:Nat):pJ (Zc) where
 f:=205
 e5:=#[]
 f7:=#[Zp a.qb,Zp a.rb,Zp a.fb]
 a9:=λc b=>.ok (follow σ d c.1 b)
 J:=oG i h σ bs e a d
 M:=[a.q]
 ok:=λc=>∃g,aP σ.F c.1=some (some g)
theorem Bk(i:Ad)(g:Za)(σ:St)(bs:Zo)(e:Zl)(d:uL)(c:Nat):∀(a:List (Zb×Nat)) (b:Zc),hc (vC i g σ bs e d c) a b=.ok (a.foldl (λb f=>follow σ c f.1 b) b):=by
 intro a;induction a<;>grind [hc,vC]
def VK(args:Array Zv)(h:Zw):(callFunc 205 args).run prog h=.ok (.enter 205 args) h:=Zk
end
def VJ{e F}{σ:St}{t G b}{k:Nat}(M:∀a f,aP σ.F a=some (some f)->∀b6∈gj f,∃a2,aP σ.F b6.1=some (some a2))
  (b5:∀k',k'<k->pK (vC e F σ t G b k')) {n c} (a:Zb×Nat) (b0:∃f,aP σ.F a.1=some (some f)) (u:oG e F σ t G b k n c) :
  Calls prog 205 #[jv a,Zp b.qb,Zp b.rb,Zp b.fb] c (mO (vC e F σ t G b k) c (.ok (follow σ k a.1 n))):=by
 obtain⟨f,j⟩:=b0;have a5:=(Below.refl c.heap.size c).alloc (Y4 _) (.cells #[.string ⟨a.1.toArray⟩,Y a.2] 160);have h:=u.az a5;have A:=bl (w:=c) (o:=.cells #[.string ⟨a.1.toArray⟩,Y a.2] 160) rfl;have d5:=u.aq.lt;obtain⟨d8,d9,_⟩:=su A;have c2:=mv h.vq;rcases GC h.aq a.1 with⟨y,b2⟩|⟨v,a7,b2⟩
 .obtain⟨m,d4,b3⟩:=h.aq.aW y (Y a.2);have d0:=agz y j;have d2:=u.bm;obtain⟨k',rfl⟩:∃k',k=k'+1:=⟨k-1,Zm⟩;have D:=pp (c.alloc (.cells #[.string ⟨a.1.toArray⟩,Y a.2] 160)) b.q m;have d:=h.b5 (k':=k') D b3 Zm;have B:=(D.al _ (ay A) Zx).trans A;obtain⟨d6,d7,_⟩:=su B;have c1:=mv d.vr;have c9:=mv d.vf;have b9:=d.rd.K.2.1;have x:=d.az (Below.refl ..).drew;obtain⟨v,a6,d3⟩:=aaL x.nw a.1 j;obtain⟨c0,rfl,I⟩:=a6;have b1:=ED true I (λE z=>(x.nw.2.1 E z).1);have d1:=EA true f;have S:=U (EC true (b5 k' Zm) (M a.1 f j) I (λ{n e1} b4 E z=>(b4.nw.2.1 E z).1) x);have r:=U (VI (k:=k') y j);dsimp only[cond]at b1;generalize tX true f=b8 at *
  have P:af (ap [b.q] c ((fd (c.alloc (.cells #[.string ⟨a.1.toArray⟩,Y a.2] 160)) b.q m).drew)):=(((ar _ c).A _).u D).ag;have H:=d.ca;have a3:∀g,ap [b.q] ((fd (c.alloc (.cells #[.string ⟨a.1.toArray⟩,Y a.2] 160)) b.q m).drew) g->g.cell? (Zd b.rb 0)=some (Zp e.R)/\g.cell? (Zd e.R 1)=some (.map (some e.N))/\g.cell? (Zd c.heap.size 0)=some (.string ⟨a.1.toArray⟩)/\g.cell? (Zd b.fb 0)=some b.V:=by
   intro g a8;have l:=((ar _ (fd (c.alloc (.cells #[.string ⟨a.1.toArray⟩,Y a.2] 160)) b.q m)).ag).u a8;obtain⟨_,e2,_,a9⟩:=id d.aq;have a4:=(d.rd.i3 l d.bR a9).K.2.1;obtain⟨b7,_,_⟩:=su ((l.al _ (ay B) Zx).trans B);exact⟨mv ((l.al _ (ay d.vr) (by simpa using H.2.1)).trans d.vr),a4,b7,mv ((l.al _ (ay d.vf) (by simpa using H.2.2)).trans d.vf)⟩
  have L:=U a3;dsimp only[jv];go_in;go_wp21;go_region_held2 (λp=>p.cell? (Zd b.rb 0)=some (Zp e.R)/\p.cell? (Zd e.R 1)=some (.map (some e.N))/\p.cell? (Zd c.heap.size 0)=some (.string ⟨a.1.toArray⟩)/\p.cell? (Zd b.fb 0)=some b.V) (go_keep)
   (first|(refine S.i.mono ?_;rintro c3 g ⟨C,⟨e0,i,rfl,J⟩|⟨c8,i,_⟩⟩;rotate_left;(rw[Bk]at i;cases i);have s:=U J;have a1:=U C;have a0:=U i;obtain⟨c4,c5,c6,c7⟩:=L.i g C;clear J C i))
  all_goals
   go_wp2;go_end0;have K:=a0.i;rw[Bk]at K;cases K
   exact⟨P.i.u a1.i,Y8 ⟨_,by rw[r.i];rfl,rfl,s.i.b5 (ar ..) s.i.aq (by have:=s.i.bm;omega)⟩⟩
 .have r:=U (VH (σ:=σ) (k:=k) a7);have O:=U h;dsimp only[jv];go_in;go_wp2;go_end0;exact⟨(ar _ c).A _,Y8 ⟨n,by rw[r.i],rfl,O.i⟩⟩
section
variable {A:Ad}{b:Nat}{bs:Zo}{c:aD}{vs:Zl}{w:Zw}{d:St}
def VL{text a}(j:∀f c,aP d.F f=some (some c)->∀h∈gj c,∃k,aP d.F h.1=some (some k)):∀e,pK (vC A text d bs vs a e):=by
 intro e;induction e using Nat.strongRecOn with
 |ind e n=>
  refine⟨VK,?_,?_,?_⟩
  .intro i w b h g;simp only[vC,Yc]at g;subst g;exact b.aq.lt
  .intro i w p b l;exact oG.az b l
  .intro i o f m b;exact VJ j n f m b
def zT{X}(a:gE bs b c)(d:dF X bs w)(f:Nat):(method (f + 1) (fv c) (.pointer (some ⟨b, 0, none⟩)) "Title").run Tryz.prog w = .ok (327, .agg #[.string ⟨(cd c).1.toArray⟩, .int .i64 (cd c).2]) w := by
 obtain⟨g,h⟩:=Ud a d;have e:(loadVar 160 ⟨b,0,none⟩).run prog w=.ok (.agg #[.string ⟨(cd c).1.toArray⟩,Y (cd c).2]) w:=by go_simp
 rw[aga,e];rfl
def qr(d:St)(c:aD):Bool:=((gj c).foldl (λb a=>follow d (ku d []) a.1 b) []).contains (cd c).1
def adW{c b}(d:hJ c b w)(a:Zb):∃v,(Instr.lookup 103 (.map (some c)) (Zs a) true).run prog w=.ok (.tuple #[v,.bool (b.contains a)]) w:=by
 rcases GC d a with⟨e,f⟩|⟨v,e,f⟩;all_goals simp_all
def acI{text}(y:Rd A text d w)(a6:uT A.X A.N d.F bs vs w)(o:gE bs b c)
  (H:∀a9 c,aP d.F a9=some (some c)->∀g∈gj c,∃m,aP d.F g.1=some (some m)) (a0:∀g∈gj c,∃m,aP d.F g.1=some (some m)) :
  Calls prog 127 #[Zp A.R,.iface (fv c) (Zp b)] w λn u=>n=.returned (.bool (qr d c))/\ap [] w u:=by
 have b9:=jN;have c0:=nn;obtain⟨c4,c5,c6,c7⟩:=y.lt;obtain⟨a,f⟩:∃a:uL,a=⟨w.heap.size+2,w.heap.size,w.heap.size+3,w.heap.size+1⟩:=⟨_,rfl⟩;obtain⟨h,e⟩:∃h,h=(((w.alloc (.cells #[Zp A.R] 145)).alloc (.map #[] 0)).alloc (.cells #[.map (some (w.heap.size+1))] 103)).alloc (.cells #[a.V] 237):=⟨_,rfl⟩;have s:(w.alloc (.cells #[Zp A.R] 145)).heap.size=w.heap.size+1:=Zq;have t:((w.alloc (.cells #[Zp A.R] 145)).alloc (.map #[] 0)).heap.size=w.heap.size+2:=Zq;have E:(((w.alloc (.cells #[Zp A.R] 145)).alloc (.map #[] 0)).alloc (.cells #[.map (some (w.heap.size+1))] 103)).heap.size=w.heap.size+3:=Zq;have a3:=y.az ((Below.refl w.heap.size w).alloc (Y4 _) (.cells #[Zp A.R] 145));have C:=a3.g0 (.map #[] 0);rw[s]at C;have c3:=((ar [] ((w.alloc (.cells #[Zp A.R] 145)).alloc (.map #[] 0))).A (.cells #[.map (some (w.heap.size+1))] 103)).A (.cells #[a.V] 237);have z:Below (w.heap.size+2) ((w.alloc (.cells #[Zp A.R] 145)).alloc (.map #[] 0)) h:=by
  rw[e];exact((Below.refl ..).alloc Zm _).alloc Zm _
 rw[<-t]at z;have a4:=C.az z;have q:ap [] w h:=by rw[e];exact((((ar [] w).A _).A _).A _).A _
 have l:oG (A.cQ (w.heap.size+1)) text d bs vs a (ku d []) [] h:=by
  refine⟨a4,?_,?_,?_,?_,?_,?_,Y4 _⟩
  .obtain⟨b0,M,O,x,P⟩:=a6;exact⟨b0,(M.cQ Zm).ae q Zq,O,(q.al _ (ay x) Zq).trans x,P⟩
  .rw[f,e];dsimp only;exact(((ar [] _).A _).al _ (by rw[E];omega) Zq).trans (bl t.symm)
  .rw[f,e];dsimp only;exact((((((ar [] _).A _).A _).A _)).al _ (by rw[s];omega) Zq).trans (bl rfl)
  .rw[e,f];dsimp only;exact bl E.symm
  .refine⟨Zq,[],rfl,?_⟩;rw[f,e];dsimp only;exact((((ar [] _).A _).A _).al _ (by rw[t];omega) Zq).trans (bl s.symm)
  .rw[f];dsimp only;refine⟨by simp[Ad.cQ],?_,?_,?_,?_⟩<;>simp only[Ad.cQ]<;>omega
 have L:=mv l.vf;have S:=VL (A:=A.cQ (w.heap.size+1)) (text:=text) (bs:=bs) (vs:=vs) (a:=a) H (ku d []);have a2:=ED true o (λr p=>(l.nw.2.1 r p).1);have b7:=EA true c;have J:=U (EC true S a0 o (λ{F c9} a5 r p=>(a5.nw.2.1 r p).1) l);have I:=U q;subst e;subst f;dsimp only[uL.V,cond]at L a2;generalize tX true c=b4 at *
 go_in;go_wp21;refine J.i.mono ?_;rintro n b3 ⟨a7,⟨c8,i,rfl,k⟩|⟨b6,i,_⟩⟩;rotate_left
 .rw[Bk]at i;cases i
 rw[Bk]at i;cases i
 have b1:=mv k.vq;dsimp only at b1;have a8:=ay k.vq;dsimp only at a8;have D:=k.az (Below.refl ..).drew;have c2:=zT o D.nw.2.1;have c1:=yw;have b8:=Bf 160;have b5:=U k;have v:=U D;have K:=U a7;go_wp21;go_region_held2 (λu=>u.cell? ⟨w.heap.size+2,0,none⟩=some (.map (some (w.heap.size+1)))) (go_keep)
  (first|(go_at_call 327;refine(yv _ _ _).mono ?_;rintro n d1 ⟨rfl,j⟩;obtain⟨d0,a1⟩:=adW (v.i.az j).aq (cd c).1;have b2:=mv (v.i.az j).vq;dsimp only at b2 a1;have G:=U j;clear j))
 all_goals
  go_wp2;go_ret;refine⟨pq (a:=decide ((cd c).1∈(gj c).foldl (λ(F:Zc) (g:Zb×Nat)=>follow d (ku d []) g.1 F) [])) (b:=qr d c) (by simp[qr]),?_⟩;exact(I.i.f8 K.i (by intro g B;simp only[vC,Yc]at B;subst B;exact Ya Zm)).u (((ar [] b3).ag).u (ed [] G.i))
end
def lh(a:St):List aD->Except Mar.ac Unit
 |[]=>.ok ()
 |d::b=>if qr a d then .error ⟨9,(cd d).2⟩else lh a b
def Rd.n1{a b e c d}(f:Rd a b e c)(g:ap [] c d):Rd a b e d:=f.ae g Zq Zq Zq Zq Zq Zq Zq Zq
def Vs{h P d bs vs A b O e}(o:Rd h P d e)(s:uT h.X h.N d.F bs vs e)(H:mj bs A b O)
  (k:∀L i,aP d.F L=some (some i)->∀u∈gj i,∃m,aP d.F u.1=some (some m)) (q:∀i∈b,∀u∈gj i,∃m,aP d.F u.1=some (some m)) :
  Calls prog 75 #[Zp h.R,A] e λg x=>ap [] e x/\((lh d b=.ok ()/\g=.returned (.tuple #[]))\/(∃n,lh d b=.error n/\eD e n.no n.y g x)):=by
 have a2:∀(F l:Zv) (y:Zw),(Instr.field 160 (.agg #[F,l]) 1).run prog y=.ok l y:=λ_ _ _=>by kernel_rfl
 have a7:=yw;obtain⟨ad,a0,rfl,a6,j⟩:=H.K;have E:=U j;have B:=U (Yp o (Yp s (Yp k q)));go_in;go_wp2;go_loopw [8] (λt w=>∃c:Nat,t=Y c/\c<=b.length/\af (ap [] e w)/\af (lh d b=lh d (b.drop c))) (λt _=>b.length-(intOf t).toNat)
 case atStart=>exact⟨0,rfl,Zm,ar _ e,rfl⟩
 case round=>
  obtain⟨c,rfl,a5,a,f⟩:=hrel;obtain⟨o,s,k,q⟩:=B.i;have v:=U λ(w:Zw) (a:ap [] e w)=>s.ae a Zq Zq;rcases Yj c b.length with r|I
  .obtain⟨a1,l,rfl,z,G⟩:=E.i c r;have a9:=G _ λM J=>((v.i _ a.i).2.1 M J).1;have a3:(0:Int)<=c:=Zm;have a4:(c:Int)<b.length:=Zm;rw[Yk r]at f;have D:=U (acI (o.n1 a.i) (v.i _ a.i) z k (q _ (Yy r)));have C:=U z;go_wp21;refine D.i.mono ?_;rintro g b0 ⟨rfl,K⟩;have a:=U (a.i.u K);cases j:qr d b[c]with
   |true=>
    have a8:=zT C.i (v.i _ a.i).2.1;go_wp2_with (first
     |(refine(yv _ _ _).mono ?_;rintro g S ⟨rfl,p⟩)
     |(refine(fk _ _ _).mono ?_;rintro g x ⟨rfl,rfl⟩))
    refine bM ?_;exact⟨by first|exact(a.i.u (ed [] p)).A _|exact(a.i.drew.trans (ap.b6 [] p)).A _,Ya ⟨⟨9,(cd b[c]).2⟩,f.i.trans (Y9 j),S.heap.size,by have:=a.i.aX;have:=p.size;omega,rfl,bl rfl⟩⟩
   |false=>
    go_wp2;exact⟨⟨c+1,Zj,Zm,a,f.i.trans (Y2 (by rw[j];simp))⟩,Zz⟩
  .rw[YR I]at f;go_wp2;go_end0;exact⟨a.i,Y8 ⟨f.i,rfl⟩⟩
section
variable {d:Ad}{g:Bool}{a:Zb×Nat}{e:Unit}{f τ:Type}{b c:St}
def se(d:Zb)(e:PX τ aU):Prop:=∀f b a g c,e f b=.ok (a,g,c)->a.t=d/\Kn b.F c.F
def uS(d:PX τ aU):Prop:=∀e b a f c,d e b=.ok (a,f,c)->(aP c.F a.t).isSome
theorem Le.kn(a:Le b c):Kn b.F c.F:=a.2.2.2.2.2
theorem zs(a:aU):se a.t (eG (τ:=τ) a):=by
 intro f b d g c e;simp_all[eG,uQ]
theorem zr{i g}{h:f->PX τ aU}(m:ct g)(l:∀d,se i (h d)):se i (aQ g h):=by
 intro o b p r c a;cases e:g o b with
 |error q=>rw[eW e]at a;cases a
 |ok n=>
  obtain⟨d,s,t⟩:=n;rw[dX e]at a;obtain⟨j,k⟩:=l d _ _ _ _ _ a;exact⟨j,(m _ _ _ _ _ e).kn.u k⟩
theorem MO{a:Zb}{b c:PX τ aU}(d:se a b)(e:se a c):se a (if g then b else c):=Zg
theorem BJ{h}{e:f->PX τ aU}(i:∀d,uS (e d)):uS (aQ h e):=by
 intro k b l n c a;cases g:h k b with
 |error m=>rw[eW g]at a;cases a
 |ok j=>obtain⟨d,o,p⟩:=j;rw[dX g]at a;exact i d _ _ _ _ _ a
theorem FI{a b:PX τ aU}(c:uS a)(d:uS b):uS (if g then a else b):=Zg
theorem Uh{a}(d:iX a b=.ok (e,c)):(aP c.F a.text).isSome:=by
 grind [iX,Fq]
theorem Mv{i}{o:Unit}(f:name i (iK d) e b=.ok (a,o,c)):(aP c.F a.1).isSome:=by
 unfold name at f;cases n:next i b with
 |error k=>simp_all[eW,ih]
 |ok g=>
  obtain⟨h,j⟩:=g;rw[dX (gB n)]at f;cases m:((h.w:Int)==1)with
  |false=>simp_all[CP]
  |true=>
   rw[m]at f;simp only[if_true]at f
   cases l:iX h j with
   |error k=>simp_all[eW,iK,ih]
   |ok g=>
    obtain⟨v,p⟩:=g;rw[dX (show (iK d).a9 h e j=.ok (v,e,p)from gB l)]at f;grind [eG,Uh]
theorem BK{h}{g:Zb×Nat->PX Unit aU}(k:∀a,se a.1 (g a)):uS (aQ (name h (iK d)) g):=by
 intro m b n p c e;cases f:name h (iK d) m b with
 |error o=>rw[eW f]at e;cases e
 |ok l=>
  obtain⟨a,q,r⟩:=l;rw[dX f]at e;obtain⟨i,j⟩:=k a _ _ _ _ _ e;rw[i];exact j.1 _ (Mv f)
theorem MN(b:Za)(a:Zb×Nat)(c:Ty):se a.1 (pc (τ:=τ) b a c):=by
 unfold pc;exact zr (gc (BE _)) λ_=>zs ⟨a.1,a.2,_⟩
theorem abj(c:Za)(b:Ty)(a:Zb×Nat):se a.1 (tW (τ:=τ) c b a):=by
 unfold tW;refine zr (gc (vO _ _)) λd=>?_;unfold vp;refine MO (MN _ _ _) (zr (gc (vO _ _)) λe=>?_);unfold vt;exact MO (MN _ _ _) (zs ⟨a.1,a.2,b⟩)
theorem aaJ(d:Ad)(c:Za):uS (ig c (iK d)):=by
 unfold ig;refine BJ λb=>?_;unfold qZ;refine FI (BK λa=>zr (gc (BE _)) λ_=>zs ⟨a.1,a.2,_⟩) (BJ λb=>?_);unfold ra;refine FI (BK λa=>zr (gc (FA _)) λ_=>zs ⟨a.1,a.2,_⟩) (BJ λe=>?_);unfold vo;refine BJ λb=>?_;unfold tV;exact FI (BK λa=>zs ⟨a.1,a.2,_⟩) (BK λa=>abj _ _ _)
theorem TM{f}{d:aU}(a:rc f b=.ok (d,c)):(aP c.F d.t).isSome:=by
 unfold rc lc at a;cases e:ig f (iK uo) () b with
 |error i=>simp_all
 |ok g=>obtain⟨h,j,k⟩:=g;rw[e]at a;cases a;exact aaJ _ _ _ _ _ _ _ e
theorem aaH{e}(d:ju e b=.ok (a,c)):(aP c.F a.1).isSome:=by
 unfold ju lc at d;grind [Mv]
end
section
variable {n:Zb×Nat}{a:Type}
def tz(e:PM a):Prop:=∀b d c,e b=.ok (d,c)->Kn b.F c.F
theorem ee.k{b:PM a}(d:ee b):tz b:=λf c g e=>(d f c g e).kn
def sg(n:Zb×Nat)(d:PM aD):Prop:=∀b a c,d b=.ok (a,c)->cd a=n/\Kn b.F c.F
def qO(d:PM aD):Prop:=∀c b a,d c=.ok (b,a)->(aP a.F (cd b).1).isSome/\Kn c.F a.F
def xU{a:aD}(c:cd a=n):sg n (ret a):=by
 intro e b f d;grind [ret,uQ]
def jB{e}{f:a->PM aD}(j:tz e)(i:∀c,sg n (f c)):sg n (aN e f):=by
 intro l m p b;cases d:e l with
 |error o=>rw[dv d]at b;cases b
 |ok k=>
  obtain⟨c,q⟩:=k;rw[bK d]at b;obtain⟨g,h⟩:=i c _ _ _ b;exact⟨g,(j _ _ _ d).u h⟩
def agc{c:Bool}{a b:PM aD}(d:sg n a)(e:sg n b):sg n (if c then a else b):=Zg
def wg{e}{f:a->PM aD}(j:tz e)(i:∀c,qO (f c)):qO (aN e f):=by
 intro l m o b;cases d:e l with
 |error n=>rw[dv d]at b;cases b
 |ok k=>
  obtain⟨c,p⟩:=k;rw[bK d]at b;obtain⟨g,h⟩:=i c _ _ _ b;exact⟨g,(j _ _ _ d).u h⟩
def zR{e}{c:Zb×Nat->PM aD}(g:∀n,sg n (c n)):qO (aN (ju e) c):=by
 intro i j l a;cases b:ju e i with
 |error k=>rw[dv b]at a;cases a
 |ok h=>
  obtain⟨n,m⟩:=h;rw[bK b]at a;obtain⟨f,d⟩:=g n _ _ _ a;exact⟨by rw[f];exact d.1 _ (aaH b),(ui _ _ _ _ b).kn.u d⟩
def afM(b:Za)(a:Nat):qO (lg b a):=by
 unfold lg;refine wg (Mk _).k λ_=>zR λn=>?_;exact jB (eY _ _).k λ_=>jB (zq _ _).k λ_=>jB (eY _ _).k λ_=>xU rfl
def afQ(e:Za)(g:Nat):qO (lC e g):=by
 unfold lC;refine wg (zm _).k λ_=>?_;intro i j l a;cases b:rc e i with
 |error k=>rw[dv b]at a;cases a
 |ok h=>
  obtain⟨c,m⟩:=h;rw[bK b]at a;obtain⟨f,d⟩:=jB (n:=(c.t,c.y)) (eY _ _).k (λ_=>xU rfl) _ _ _ a;exact⟨by rw[f];exact d.1 _ (TM b),(Mg _ _ _ _ b).kn.u d⟩
def agd(e:Za)(n:Zb×Nat):∀(b:Nat) (a:List (Zb×Nat×Int)) (c:List (Int×Int)),sg n (ki e n b a c):=by
 intro b;induction b with
 |zero=>intro a c g h o d;simp_all[ki,hU]
 |succ b k=>
  intro a c g h o d;cases f:kK e a.length c g with
  |error p=>simp_all[vL]
  |ok m=>
   obtain⟨l,q,s⟩:=m;rw[vM f]at d;obtain⟨i,j⟩:=jB (n:=n) (oe _ _).k (λr=>agc (k _ _) (show sg n (pW e n (a++[l]))from jB (eY _ _).k λ_=>jB (eY _ _).k λ_=>xU rfl)) _ _ _ d;exact⟨i,(Mj _ _ _ _ _ _ _ f).kn.u j⟩
def afN(b:Za)(a:Nat):qO (kF b a):=by
 unfold kF;exact wg (zm _).k λ_=>zR λn=>jB (eY _ _).k λ_=>agd _ _ _ _ _
def afP(b:Za)(a:Nat):qO (mc b a):=by
 unfold mc;exact wg (zm _).k λ_=>zR λn=>jB (zp (BD _ _ _ (Mn _ _)) _).k λ_=>jB (eY _ _).k λ_=>xU rfl
def afR(b:Za)(a:Nat):qO (iQ b a):=by
 unfold iQ;refine wg (zm _).k λ_=>zR λn=>?_;unfold qz;refine jB (eY _ _).k λ_=>jB (eY _ _).k λ_=>jB (Mm _).k λd=>?_;unfold qA;refine jB (BG (BF _ _ _) _).k λc=>?_;unfold rM;refine jB (eY _ _).k λ_=>jB (eY _ _).k λ_=>jB (BG (Md _ _ _ _) _).k λe=>?_;unfold tf pB;exact jB (eY _ _).k λ_=>jB (eY _ _).k λ_=>xU rfl
def Xj(d:Za)(c:Int->Bool):tz (rx d c):=by
 intro e g k a;cases b:il d c e.ai e with
 |error h=>simp_all[BV]
 |ok f=>
  obtain⟨j,i,l⟩:=f;rw[FP b]at a;cases a
  exact(zn _ _ _ _ _ _ _ b).kn
def Fk{j:Type}{e}{f:a->PM j}(h:tz e)(g:∀c,tz (f c)):tz (aN e f):=by
 intro k l n b;cases d:e k with
 |error m=>rw[dv d]at b;cases b
 |ok i=>obtain⟨c,o⟩:=i;rw[bK d]at b;exact(h _ _ _ d).u (g c _ _ _ b)
def Xi(a:Za):tz (sC a):=by
 unfold sC;exact Fk (eY _ _).k λ_=>Fk (Xj _ _) λ_=>Fk (eY _ _).k λ_=>(mD _).k
def afO(c:Za)(b:Nat):qO (lu c b):=by
 unfold lu;refine wg ?_ λ_=>zR λn=>?_
 .intro e d f a;exact(FB _ _ _ _ _ _ a).kn
 .unfold sT;exact jB (zp (Ml _) _).k λ_=>jB (Xi _) λ_=>xU rfl
def Hc(b:Za):qO (fJ b):=by
 unfold fJ;refine wg (ro _).k λd=>?_;intro e c f a;unfold fI at a;split at a
 .exact afM _ _ _ _ _ a
 split at a
 .exact afQ _ _ _ _ _ a
 split at a
 .exact afN _ _ _ _ _ a
 split at a
 .exact afP _ _ _ _ _ a
 split at a
 .exact afR _ _ _ _ _ a
 split at a
 .exact afO _ _ _ _ _ a
 grind [hU]
end
def aha(b:Za)(a:Zw):Calls prog 71 #[.string b] a λc d=>c=.returned (Zp a.heap.size)/\d=a.alloc (.cells #[.string b,Y 0,Y 0,.string ⟨#[]⟩,Y 0,Y 0,.bool false] 222):=by
 go_in;go_wp2;go_ret;simp
def fR:St:=⟨0,none,0,0,[],[]⟩
def ny(b:Za)(a:Zw):Zw:=
 (((a.alloc (.cells #[.string b,Y 0,Y 0,.string ⟨#[]⟩,Y 0,Y 0,.bool false] 222)).alloc (.map #[] 0)).alloc (.map #[] 0)).alloc
  (.cells #[Zp a.heap.size,.map (some (a.heap.size+1)),Y 0,Y 0,.map (some (a.heap.size+2))] 151)
def ix(a:Zw):Ad:=⟨a.heap.size+3,a.heap.size,a.heap.size+1,a.heap.size+2,[a.heap.size+3,a.heap.size,a.heap.size+1,a.heap.size+2]++List.range a.heap.size⟩
def Xn(b:Za){a}(g:Gl a)(h:b.size<=4000000000):Rd (ix a) b fR (ny b a)/\ap [] a (ny b a)/\(ny b a).heap.size=a.heap.size+4:=by
 have i:(a.alloc (.cells #[.string b,Y 0,Y 0,.string ⟨#[]⟩,Y 0,Y 0,.bool false] 222)).heap.size=a.heap.size+1:=Zq;have j:((a.alloc (.cells #[.string b,Y 0,Y 0,.string ⟨#[]⟩,Y 0,Y 0,.bool false] 222)).alloc (.map #[] 0)).heap.size=a.heap.size+2:=Zq;have k:(((a.alloc (.cells #[.string b,Y 0,Y 0,.string ⟨#[]⟩,Y 0,Y 0,.bool false] 222)).alloc (.map #[] 0)).alloc (.map #[] 0)).heap.size=a.heap.size+3:=Zq;have l:(ny b a).heap.size=a.heap.size+4:=by unfold ny;simp
 have c:ap [] a (ny b a):=((((ar [] a).A _).A _).A _).A _;have f:(ny b a).heap[a.heap.size]?=some (.cells #[.string b,Y 0,Y 0,.string ⟨#[]⟩,Y 0,Y 0,.bool false] 222):=
  ((((ar [] _).A _).A _).A _).al _ Zm Zq |>.trans (bl rfl)
 have bN:(ny b a).heap[a.heap.size+1]?=some (.map #[] 0):=(((ar [] _).A _).A _).al _ Zm Zq |>.trans (bl i.symm);have d:(ny b a).heap[a.heap.size+2]?=some (.map #[] 0):=((ar [] _).A _).al _ Zm Zq |>.trans (bl j.symm);have e:(ny b a).heap[a.heap.size+3]?=some (.cells #[Zp a.heap.size,.map (some (a.heap.size+1)),Y 0,Y 0,.map (some (a.heap.size+2))] 151):=bl k.symm;refine⟨⟨e,⟨YV _,_,_,_,_,f⟩,⟨by simp[fR],[],[],(by intro n m;grind),rfl,bN,Zq⟩,?_,?_,d,by simp[ix],g.ae c Zq Zq Zq,h,by simp[fR]⟩,c,l⟩
 .simp[ix]
 grind [ix]
section
def WJ:(prog.info? 157).map (λa=>(a.zero,a.size,a.bytes))=some (some .nilIface,1,16):=Zk
def CB(a:aD):PM Unit:=λb=>.ok ((),{ b with F:=eu b.F (cd a).1 a })
def ey(a:Za):Nat->List aD->PM (List aD)
 |0,_=>hU 0 0
 |k+1,c=>aN (hp a) λd=>if((d.w:Int)==0)then ret c else aN (fJ a) λb=>aN (CB b) λ_=>ey a k (c++[b])
def eR(a:Za):Except Mar.ac (List aD):=
 if 1200<a.size then .error ⟨1,0⟩else match ey a 69 [] fR with
 |.error c=>.error c
 |.ok (d,b)=>match pj b d with
  |.error c=>.error c
  |.ok _=>match lh b d with
   |.error c=>.error c
   |.ok _=>.ok d
section
variable {o : Type} {f h m : List Nat} {d : Ad} {a : Za} {l : o -> Zw -> Prop} {n : o} {b : St} {e : List Th} {i : List (Nat × Obj)} {c g : Zw}
def st6{D:Type}{y x:Except Mar.ac D}{w}{C:aD->St->Except Mar.ac D}{k args}{Q:Ending->Zw->Prop}(u:af (bE f h d a l n e i b g c))(B:af (y=x))(E:Rd (d.a2 (dW e)) a b c->Calls prog k args c (Ar m (d.a2 (dW e)) a c w))
  (ok:∀q t p v r,af (w=.ok (q,t))->gE v p q->af (y=C q t)->af (bE f h d a l n e (v++i) t g r)->Q (.returned (.iface (fv q) (Zp p))) r) (F:∀q t,w=.ok (q,t)->x=C q t) (G:∀k,w=.error k->x=.error k) (z:∀s∈m,s∈f/\s ∉ h)
  (bad:∀{p:Nat} {r:Zw},ap f g r/\(∃k,y=.error k/\eD g k.no k.y (gY p) r)->Q (gY p) r):Calls prog k args c Q:=by
 refine(E u.i.rd).mono ?_;rintro M r ⟨A,⟨q,t,p,v,o,rfl,L,J,K⟩|⟨k,o,p,H,rfl,I⟩⟩
 .exact ok q t p v r (U o) J (U (B.i.trans (F _ _ o))) (U ((u.i.call A L (u.i.st u.i.j A λs o=>(z s o).2) λs o=>(z s o).1).iJ K))
 .exact bad ⟨u.i.kp.u (A.aZ λs o=>(z s o).1),k,B.i.trans (G _ o),p,Yz u.i.kp.aX H,rfl,I⟩
end
end
section
variable {b:aD}{d:List aD}{e:Mar.ac}{c f g:St}
def OP{a}{h:Nat}{b:Mar.aT}(e:hp a c=.ok (b,g))(f:((b.w:Int)==0)=true):ey a (h+1) d c=.ok (d,g):=by
 simp only[ey];rw[bK e,f];rfl
theorem OQ{a}{b:Nat}(f:hp a c=.error e):ey a (b+1) d c=.error e:=by
 simp_all[ey,dv]
def OO{a}{f:Nat}{b:Mar.aT}(h:hp a c=.ok (b,g))(j:((b.w:Int)==0)=false)(i:fJ a g=.error e):ey a (f+1) d c=.error e:=by
 simp only[ey];grind [bK,dv]
def OR{a}{f:Nat}{e:St}{h:Mar.aT}(i:hp a c=.ok (h,g))(k:((h.w:Int)==0)=false)(j:fJ a g=.ok (b,e)):ey a (f+1) d c=ey a f (d++[b]) { e with F:=eu e.F (cd b).1 b }:=by
 simp only[ey];rw[bK i,k];exact bK j
structure oP(c:St)(d:List aD):Prop where
 H:c.an<=24
 co:c.ax<=40
 pr:c.ai.length<=4
 bm:d.length<=c.an+c.ax+c.ai.length
 nm:∀n b,aP c.F n=some (some b)->b∈d\/∃t a v,b=.const t a v
def oP.le(a:oP c d)(j:Le c f):oP f d:=by
 obtain⟨n,o,g,k,l,m⟩:=j;refine⟨k a.H,l a.co,by rw[g];exact a.pr,by rw[g];have:=a.bm;omega,λh b i=>?_⟩;rcases m.2 h b i with e|e
 .exact a.nm h b e
 simp_all
theorem oP.cP{m}(e:oP c d)(k:fJ m c=.ok (b,f)):oP { f with F:=eu f.F (cd b).1 b } (d++[b]):=by
 have g:=aeP k;have o:=(Hc m _ _ _ k).2;have q:=g.up;have p:=e.bm;refine⟨g.H e.H,g.co e.co,g.pr e.pr,Zg,λh i a=>?_⟩;dsimp only at a;rw[By]at a;cases l:aP f.F h with
 |none=>simp_all
 |some r=>
  rw[l]at a;simp only[Option.map_some,Yu]at a;split at a
  .simp_all
  .subst a;rcases o.2 h i l with j|j
   .rcases e.nm h i j with n|n;all_goals simp_all
   simp_all
def Fl:∀(c:Ty) (b:Zb×Nat),b∈hW c->b∈gq c:=by
 intro c;induction c with
 |named i g=>intro b a;exact a
 |arr f h e d=>
  intro b a;cases e with
  |true=>exact d b (by simpa[hW]using a)
  |false=>simp[hW]at a
 |opt f d=>intro b a;simp[hW]at a
 |_=>intro b a;simp[hW]at a
def LH(b:aD)(h:Zb×Nat)(a:h∈gj b):h∈jo b:=by
 cases b with
 |const d c v=>simp[gj]at a
 |typedef b=>exact Fl _ _ a
 |enum d c i=>simp[gj]at a
 |struct d c i=>
  simp only[gj,List.mem_flatMap]at a;obtain⟨g,f,e⟩:=a;exact List.mem_flatMap.2 ⟨g,f,Fl _ _ e⟩
 |union d c l j=>
  simp only[gj,List.mem_flatMap]at a;obtain⟨g,f,e⟩:=a;exact List.mem_flatMap.2 ⟨g,f,Fl _ _ e⟩
 |prog d c m k=>simp[gj]at a
def XK:∀(a:List (Zb×Nat)) (i:Unit),hc (lT ⟨0,0,0,0,[]⟩ ⟨#[]⟩ c [] 0) a i=.ok ()->∀h∈a,∃b,aP c.F h.1=some (some b):=by
 intro a;induction a with
 |nil=>simp
 |cons g a n=>
  intro i d h j;simp only[hc]at d;have k:(lT ⟨0,0,0,0,[]⟩ ⟨#[]⟩ c [] 0).a9 g i=qe c g:=rfl;rw[k]at d;cases f:qe c g with
  |error e=>simp_all
  |ok v=>
   rw[f]at d;rcases Yg.1 j with rfl|j
   .unfold qe at f;cases l:aP c.F h.1 with
    |none=>simp_all
    |some m=>
     rw[l]at f;cases m<;>simp_all[vE]
   grind
theorem LT(f:pj c d=.ok ()):∀b∈d,∀a∈gj b,∃e,aP c.F a.1=some (some e):=by
 intro b g a h;exact XK _ _ f a (List.mem_flatMap.2 ⟨b,g,LH b a h⟩)
def XN(h:oP c d)(j:pj c d=.ok ()):∀a b,aP c.F a=some (some b)->∀e∈gj b,∃f,aP c.F e.1=some (some f):=by
 intro a b g e l;rcases h.nm a b g with k|⟨m,i,v,rfl⟩;all_goals grind [LT,gj]
def OY:oP fR []:=⟨by simp[fR],by simp[fR],by simp[fR],Zq,by grind [fR,aP]⟩
end
section
variable {a:List aD}{b:Mar.ac}{c:St}
def HX(i:Za)(c:Zw)(g:Ending)(d:Zw):Prop:=
 (∃a h j f,eR i=.ok a/\g=.returned h/\ap [] c d/\mj f h a j/\∀e∈f,d.heap[e.1]?=some e.2/\c.heap.size<=e.1)\/(∃b,eR i=.error b/\ap [] c d/\eD c b.no b.y g d)
def afZ{a:Za}(c:¬1200<a.size)(d:ey a 69 [] fR=.error b):eR a=.error b:=by unfold eR;rw[Y2 c,d]
def af0{d:Za}(e:¬1200<d.size)(f:ey d 69 [] fR=.ok (a,c))(g:pj c a=.error b):eR d=.error b:=by unfold eR;rw[Y2 e,f];simp only[g]
def afY{d:Za}(e:¬1200<d.size)(g:ey d 69 [] fR=.ok (a,c))(h:pj c a=.ok ())(f:lh c a=.error b):eR d=.error b:=by unfold eR;rw[Y2 e,g];simp only[h,f]
def af2{b:Za}(d:¬1200<b.size)(f:ey b 69 [] fR=.ok (a,c))(g:pj c a=.ok ())(e:lh c a=.ok ()):eR b=.ok a:=by unfold eR;rw[Y2 d,f];simp only[g,e]
def IH(e:Za){c}(a1:Gl c):Calls prog 44 #[.string e] c (HX e c):=by
 have f7:=nn;have f5:=Vo;have f4:=Bf 160;have g0:=yw;by_cases F:1200<e.size
 .have H:af (eR e=.error ⟨1,0⟩):=by show _=_;unfold eR;rw[Y9 F]
  have d6:(1200:Int) < ↑e.size:=Zm;go_in;go_wp2_with (go_at_call 70;refine(fk _ _ _).mono ?_;rintro s q ⟨rfl,rfl⟩);exact bM (Ya ⟨⟨1,0⟩,H.i,(by first|exact(ar [] c).A _|exact(ap.G [] c).drew.A _),c.heap.size,Y4 _,rfl,bl rfl⟩)
 .obtain⟨a5,c0,f9⟩:=Xn e a1 Zm;have f8:¬(1200:Int) < ↑e.size:=Zm;have I:=U F;have r:af (∀y,ap [(ix c).R,(ix c).S,(ix c).N,(ix c).P] (ny e c) y->ap [] c y):=U λy a2=>c0.f8 a2 (by intro w d7;simp[ix]at d7;exact Ya Zm);have b0:af (∀{l q},ap [(ix c).R,(ix c).S,(ix c).N,(ix c).P] (ny e c) q/\(∃b,ey e 69 [] fR=.error b/\eD (ny e c) b.no b.y (gY l) q)->HX e c (gY l) q):=U λ⟨a2,b,e1,c9,d3,s,d4⟩=>Ya ⟨b,afZ F e1,r.i _ a2,c9,Yz c0.aX d3,s,d4⟩;have d:=U ((yt [(ix c).R,(ix c).S,(ix c).N,(ix c).P] a5 (by simp[a5.cJ])).nil 157 1);clear a5 F;go_in;go_wp2_with (first|(refine(aha _ _).mono ?_;rintro s q ⟨rfl,rfl⟩));go_loopw [4] (λa7 y=>∃(a:List aD) (m:List Nat) (B:Zo) (A:St),af (oP A a)/\af (bE [(ix c).R,(ix c).S,(ix c).N,(ix c).P] [] (ix c) e (λ(_:Unit) _=>True) () [.row 157 1 a7 a.length (wU a m)] B A (ny e c) y)/\af (m.length=a.length/\∀h (i:h<a.length) (o:h<m.length),gE B m[h] a[h])/\af (ey e 69 [] fR=ey e (69-a.length) a A)) (λa7 _=>69-Bt a7)
  case atStart=>exact⟨[],[],[],fR,OY,d,U ⟨rfl,Zq⟩,rfl⟩
  case round=>
   clear d;obtain⟨a,m,B,A,n,d,K,g⟩:=hrel;obtain⟨ad,b3,rfl⟩:=aV (d.i.th (i:=0) rfl);have f6:a.length<=68:=by have f0:=n.i.bm;have f1:=n.i.H;have f2:=n.i.co;have f3:=n.i.pr;omega
   rw[show 69-a.length=(68-a.length)+1 by omega]at g;replace g:af (_=aN (hp e) (λz=>if((z.w:Int)==0)then ret a else aN (fJ e) λj=>aN (CB j) λ_=>ey e (68-a.length) (a++[j])) A):=g
   have e5:wr.cell? ⟨c.heap.size+3,0,none⟩=some (Zp c.heap.size):=d.i.rd.K.1;go_wp21;refine xM d g (Cc ·) (λz c5 g3 C g d=>?_) (hN:=by simp[Ad.a2]) (bad:=λi=>vU (b0.i i));have n:=U (n.i.le (zo _ _ _ _ C.i));dsimp only[dI];cases E:((z.w:Int)==0)with
   |true=>
    have d5:((z.w:Int) != 0)=false:=by simp[bne,E]
    replace g:af (ey e 69 [] fR=.ok (a,c5)):=U (g.i.trans (by simp only[E,if_true];rfl))
    obtain⟨G,w,S,e0⟩:=d.i.gS Zm;have a0:mj G (.slice ad a.length b3) a m:=⟨K.i.1,S,λh i o=>(K.i.2 h i o).aZ e0⟩;have c7:=U (XI w.fin w.br a0);have p:=U (Yp w a0);clear a0 w S;go_wp21;refine c7.i.mono ?_;rintro s a8 ⟨a3,⟨⟨⟩,t,rfl,-⟩|⟨b,t,l,M,rfl,O⟩⟩;rotate_left
    .exact vU (Ya ⟨b,af0 I.i g.i t,(r.i _ p.i.1.kp).u a3,l,Yz (r.i _ p.i.1.kp).aX M,rfl,O⟩)
    have x:=p.i.1.ae a3;obtain⟨c3,d0,e3,b4,b5,b6,b7⟩:=x.fin.nm;have c8:=U (Vs x.fin (bs:=G++d0) (vs:=e3) ⟨c3,λk f=>(Yn.1 f).elim (x.br k) (b4 k),b5,b6,λh i o=>(b7 h i o).aZ λk f=>Ym _ f⟩ ⟨p.i.2.am,p.i.2.row.aZ λk f=>Yf _ f,λh i o=>(p.i.2.eC h i o).aZ λk f=>Yf _ f⟩ (XN n.i t) (LT t));have d:=U x;have b2:=U t;clear x c3 b4 b5 b6 b7 a3 t;go_wp21;refine c8.i.mono ?_;rintro s g4 ⟨a4,⟨D,rfl⟩|⟨b,D,l,M,rfl,O⟩⟩;rotate_left
    .exact vU (Ya ⟨b,afY I.i g.i b2.i D,(r.i _ d.i.kp).u a4,l,Yz (r.i _ d.i.kp).aX M,rfl,O⟩)
    have d:=U (d.i.ae a4);have H:=U D;clear a4 D;go_wp2;go_ret;exact Y8 ⟨a,_,m,G,af2 I.i g.i b2.i H.i,rfl,r.i _ d.i.kp,p.i.2,λk f=>⟨(d.i.br k f).1,Nat.le_of_not_lt λv=>(d.i.br k f).2 (Ym _ (List.mem_range.2 v))⟩⟩
   |false=>
    have d5:((z.w:Int) != 0)=true:=by simp[bne,E]
    replace g:af (ey e 69 [] fR=aN (fJ e) (λj=>aN (CB j) λ_=>ey e (68-a.length) (a++[j])) c5):=U (g.i.trans (by simp only[E,Ye,if_false]))
    go_wp21;refine st6 d g (Ui ·) (λj c6 l L a8 C P g d=>?_) (λ_ _ i=>bK i) (λ_ i=>dv i) (by simp[Ad.a2]) (bad:=λi=>vU (b0.i i));replace g:af (ey e 69 [] fR=ey e (68-a.length) (a++[j]) { c6 with F:=eu c6.F (cd j).1 j }):=g;have n:=U (n.i.cP C.i);obtain⟨g2,d8⟩:=Option.isSome_iff_exists.1 (Hc e _ _ _ C.i).1;have d:=U d.i.ag;have b9:dF ((ix c).a2 (dW [.row 157 1 (.slice ad a.length b3) a.length (wU a m)])).X L a8.drew:=λk f=>d.i.da k (Yf _ f);have g1:=zT P b9;have e6:a8.cell? ⟨c.heap.size+3,1,none⟩=some (.map (some (c.heap.size+1))):=d.i.rd.K.2.1;have b1:=U P;clear b9 P;go_wp21;refine bJ (λq=>q.cell? ⟨c.heap.size+3,1,none⟩=some (.map (some (c.heap.size+1)))) ?_ λd1=>?_
    .go_keep
    refine bc [0,1,2,3,4,7] ?_;iterate 6 (refine bh ?_)
    refine be ?_;refine bI 5 λJ u=>?_;(go_simp;refine(yv _ _ _).mono ?_;rintro s a9 ⟨rfl,b8⟩;have d:=U (d.i.ae (ed [] b8));have e7:a9.cell? ⟨c.heap.size+3,1,none⟩=some (.map (some (c.heap.size+1))):=d.i.rd.K.2.1;obtain⟨c4,c2,c1⟩:=iv.aq d.i.rd.nm d.i.rd.cJ.2.2.1 d8 b1.i λk f=>d.i.da k (Yf _ f);have d:=U (d.i.call (t':=()) (pp ..) (Rd.jF d.i.rd c1) trivial (by simp[Ad.a2]));dsimp only[Ad.a2,ix]at c2;clear b8 c1);refine u.out _ _ ?_ (λd1=>?_)
    .go_keep
    clear u J;refine nz ?_;refine pz 6 ?_;refine bL λJ u=>?_;go_simp;refine u.out _ _ ?_;clear u J;refine nz ?_;replace d:=show bE _ _ _ _ _ _ _ _ _ _ (fd a9 (c.heap.size+1) c4)from d.i
    generalize fd a9 (c.heap.size+1) c4=e4 at *
    have d:=U (d.A (.cells #[.iface (fv j) (Zp l)] 157))
    clear c2;go_wp2_with (at_builtin;refine kE WJ underlying99 (d.i.th (i:=1) rfl) [.iface (fv j) (Zp l)] (heap_alloc_new e4 _) Zy Zm (YV _) rfl ?_;intro e9 e8 g5 d9 a1 d2 d6)
    have d:=U (d.i.a3 (i:=1) rfl d9 a1 d2 rfl).au;obtain⟨a6,e2⟩:=K.i;refine⟨⟨a++[j],m++[l],L++B,_,n,U ?_,U ⟨by simp[a6],λh i o=>?_⟩,U (g.i.trans (by rw[show 69-(a++[j]).length=68-a.length by simp]))⟩,by simp[Bt];omega⟩
    .rw[show wU (a++[j]) (m++[l])=wU a m++[.iface (fv j) (Zp l)] by unfold wU;rw[List.zip_append a6.symm,List.map_append];rfl]
     simpa using d.i
    .simp only[Yq,List.length_singleton]at i o;rcases Yj h a.length with v|v
     .rw[List.getElem_append_left v,List.getElem_append_left Zm];exact(e2 h v Zm).aZ λk f=>Ym _ f
     .obtain rfl:h=a.length:=Zm;simp only[List.getElem_concat_length,<-a6];exact b1.i.aZ λk f=>Yf _ f
end
def Qb(a:Nat)(b:Zw):Calls prog 43 #[.iface 143 (Zp a)] b λc d=>c=.returned (.iface 143 (Zp a))/\d=b:=by
 have e:=taY 143 a 20 143;go_in;go_wp2;go_ret;simp
def Xf(a:Nat):Zb:=
 if((a:Int)==0)then Jk else if((a:Int)==1)then Jb else if((a:Int)==2)then Jq else if((a:Int)==3)then JG else Js
def ly:Ty->Zb
 |.named b _=>b
 |.plain a=>Xf a
 |_=>[118,111,105,100]
section
variable {a d:Zo}{c b:Type}
structure dJ where
 c4:Int
 dp:Int
 f0:Option (List Int)
 bB:Bool
inductive cV where
 |hole
 |call (dest:Nat)
 |ret
 |fin
 |jump (dest:Nat)
 |num (n:dJ)
 |text (n:Int) (f:Bool)
 |struct (n:Int) (f:Bool)
 |array (n:Int) (f:Bool) (dest:Nat)
 |again
 |choice (n:dJ) (ways:List (Int×Nat×Nat)) (other:Option (Nat×Nat))
def cM[DecidableEq b](d:List (b×c))(a:b)(v:c):List (b×c):=if a∈d.map (·.1)then d.map λe=>if e.1=a then (a,v)else e else d++[(a,v)]
theorem aat[DecidableEq b](a:List (b×c))(d:b)(v:c):(cM a d v).map (·.1)=if d∈a.map (·.1)then a.map (·.1)else a.map (·.1)++[d]:=by
 unfold cM;split
 .rw[List.map_map];apply List.map_congr_left;grind
 simp
def uj[DecidableEq b]{a:List (b×c)}(e:(a.map (·.1)).Nodup)(d:b)(v:c):((cM a d v).map (·.1)).Nodup:=by
 grind [aat]
structure bb where
 L:List cV
 b1:List (Zb×Nat)
 cZ:List (Zb×dJ)
 aJ:List (Nat×Zb)
def bg(x:cV)(a:bb):bb:={ a with L:=a.L++[x] }
def dD(b:Nat)(c:cV)(a:bb):bb:={ a with L:=a.L.set b c }
def ke(b:Zb)(a:bb):bb:={ a with L:=a.L++[.call 0],aJ:=a.aJ++[(a.L.length,b)] }
def zN(a:Zb)(b:bb):bb:=bg .fin (ke a b)
def dy(a:Nat):dJ:=if a=0 then ⟨-2147483648,2147483647,none,false⟩else if a=1 then ⟨0,4294967295,none,false⟩else if a=4 then ⟨0,1,none,false⟩else ⟨-9223372036854775808,9223372036854775807,none,true⟩
def rV:Ty->Prop
 |.arr _ _ _=>False
 |.opt _=>False
 |_=>True
def ji:Ty->Prop
 |.arr a _ _=>rV a
 |.opt a=>rV a
 |_=>True
def dZ:Ty->bb->bb
 |.named f _,a=>ke f a
 |.plain e,a=>bg (.num (dy e)) a
 |.opaq c b,a=>bg (.text c b) a
 |.str c b,a=>bg (.text c b) a
 |.arr d c b,a=>dD a.L.length (.array c b ((dZ d (bg .hole a)).L.length+1)) (bg .again (dZ d (bg .hole a)))
 |.opt d,a=>dD a.L.length (.choice (dy 4) [(0,(dZ d (bg .hole a)).L.length,0),(1,a.L.length+1,1)] none) (dZ d (bg .hole a))
 |.void,a=>a
def yc:dJ:=⟨0,0,none,false⟩
def jz(b:bb):Ty->dJ
 |.named c _=>(aP b.cZ c).getD yc
 |.plain a=>dy a
 |_=>yc
def kH:Ty->Bool
 |.void=>true
 |_=>false
def rS(a:aU)(b:bb):Nat×Nat:=(b.L.length,if kH a.H then 0 else 1)
def na(a:aU)(b:bb):bb:=dZ a.H b
def hn(a:List (Zb×Nat×Int)):dJ:=⟨-2147483648,2147483647,if a=[]then none else some (a.map (·.2.2)),false⟩
def tc(b:List aU)(a:bb):bb:=b.foldl (λa c=>dZ c.H a) (bg (.struct b.length true) a)
structure lM where
 s:bb
 c5:List (Int×Nat×Nat)
 d2:Option (Nat×Nat)
 b4:List Nat
def ck(a:lM)(b:List Int×aU):lM:=
 { s:=bg (.jump 0) (na b.2 a.s),c5:=b.1.foldl (λc d=>cM c d (rS b.2 a.s)) a.c5,d2:=if b.1=[]then some (rS b.2 a.s)else a.d2,b4:=a.b4++[(na b.2 a.s).L.length] }
def li(c:List Nat)(a:bb):bb:=c.foldl (λa b=>dD b (.jump a.L.length) a) a
def rN(d:aU)(c:List (List Int×aU))(b:bb):bb:=
 let a:=c.foldl ck ⟨bg .hole b,[],none,[]⟩
 li a.b4 (dD b.L.length (.choice (jz b d.H) a.c5 a.d2) a.s)
def lf(c:Zb)(b:Nat)(a:bb):bb:={ bg .ret a with b1:=cM a.b1 c b }
def hP(c:aD)(a:bb):bb:=match c with
 |.typedef c=>lf c.t a.L.length (dZ c.H a)
 |.enum b _ d=>lf b a.L.length (bg (.num (hn d)) { a with cZ:=cM a.cZ b (hn d) })
 |.struct b _ d=>lf b a.L.length (tc d a)
 |.union b _ f e=>lf b a.L.length (rN f e a)
 |_=>a
def vF(a:bb):bb:=a.aJ.foldl (λa b=>dD b.1 (.call ((aP a.b1 b.2).getD 0)) a) a
def sY:bb:=⟨[],[],[],[]⟩
def eH(p:bb×List (Zb×Nat))(a:aD):bb×List (Zb×Nat):=
 if(aP p.1.b1 (cd a).1).isSome then (zN (cd a).1 p.1,cM p.2 (cd a).1 p.1.L.length)else p
def ot(b:Ty)(a:bb):bb:=bg .fin (dZ b a)
def lD(a:Int):Int:=a % 4294967296
def lW(b:bb×List (Int×Nat×Nat))(a:gJ):bb×List (Int×Nat×Nat):=
 (ot a.cw (ot a.c0 b.1),cM b.2 (lD a.num) (b.1.L.length,(ot a.c0 b.1).L.length))
def wm(v:gh)(a:bb):bb×List (Int×Nat×Nat):=v.ao.foldl lW (a,[])
structure jj where
 lo:Int
 hi:Int
 vs:List (Int×List (Int×Nat×Nat))
def mH(a:bb×jj)(v:gh):bb×jj:=
 ((wm v a.1).1,⟨min a.2.lo (lD v.num),max a.2.hi (lD v.num),cM a.2.vs (lD v.num) (wm v a.1).2⟩)
def Cf(a:List gh)(b:bb):bb×jj:=
 a.foldl mH (b,⟨(a.head?.map λv=>lD v.num).getD 0,(a.head?.map λv=>lD v.num).getD 0,[]⟩)
def hD(q:bb×List (Int×jj))(b:aD):bb×List (Int×jj):=match b with
 |.prog _ _ a c=>((Cf a q.1).1,cM q.2 (lD c) (Cf a q.1).2)
 |_=>q
def GL(a:List aD):bb×List (Zb×Nat):=a.foldl eH (a.foldl (λc b=>hP b c) sY,[])
def Ch(a:List aD):bb×List (Int×jj):=a.foldl hD ((GL a).1,[])
def ff(a:List aD):List cV×List (Zb×Nat):=((vF (Ch a).1).L,(GL a).2)
def nB(a:List (Zv×Zv)):Obj:=.map (a.mapIdx λc b=>⟨b.1,b.2,c⟩).toArray a.length
abbrev xf(a:Nat):Zv:=Y a
def kx(b:List (Int×Nat×Nat)):Obj:=nB (b.map λa=>(Y a.1,.agg #[Y a.2.1,Y a.2.2]))
def oj(b:List (Zb×Nat)):Obj:=nB (b.map λa=>(.string ⟨a.1.toArray⟩,Y a.2))
def If(a:Zo)(v:Zv):Option (List Int)->Prop
 |none=>v=.slice none 0 0
 |some b=>b≠[]/\fh a 2 v b.length (b.map λc=>Value.int .i64 c)
def iF(a:Zo)(g:Zl)(b:dJ):Prop:=∃c,g=[Y b.c4,Y b.dp,c,.bool b.bB]/\If a c b.f0/\∃d e f,c=.slice d e f
def pG(a:Zo)(v:Zv):Option (Nat×Nat)->Prop
 |none=>v=.pointer none
 |some c=>∃b,v=.pointer (some ⟨b,0,none⟩)/\(b,Obj.cells #[.int .i64 c.1,.int .i64 c.2] 394)∈a
def mX(a:Zo)(v:Zv):cV->Prop
 |.hole=>∃h k,v=.iface h k
 |.call d=>v=.iface 271 (.agg #[.int .i64 d])
 |.ret=>v=.iface 257 (.agg #[])
 |.fin=>v=.iface 397 (.agg #[])
 |.jump d=>v=.iface 396 (.agg #[.int .i64 d])
 |.num b=>∃c,v=.iface 247 (.agg c.toArray)/\iF a c b
 |.text b e=>v=.iface 379 (.agg #[.int .i64 b,.bool e])
 |.struct b e=>v=.iface 387 (.agg #[.int .i64 b,.bool e])
 |.array b e d=>v=.iface 449 (.agg #[.int .i64 b,.bool e,.int .i64 d])
 |.again=>v=.iface 450 (.agg #[])
 |.choice b j i=>∃c f g,v=.iface 392 (.agg (c++[.map (some f),g]).toArray)/\iF a c b/\(f,kx j)∈a/\pG a g i
def fh.aR(n:∀o∈a,o∈d){c v e f}(b:fh a c v e f):fh d c v e f:=by
 rcases b with b|⟨i,g,h,j,k,l,m⟩
 .exact Y8 b
 .exact Ya ⟨i,g,h,j,k,n _ l,m⟩
def iF.aR(j:∀l∈a,l∈d){e c}(g:iF a e c):iF d e c:=by
 obtain⟨k,h,b,i⟩:=g;refine⟨k,h,?_,i⟩;cases f:c.f0 with
 |none=>rw[f]at b;exact b
 |some m=>rw[f]at b;exact⟨b.1,b.2.aR j⟩
def mX.aR(b:∀r∈a,r∈d){v h}(e:mX a v h):mX d v h:=by
 cases h with
 |num o=>obtain⟨c,f,g⟩:=e;exact⟨c,f,g.aR b⟩
 |choice o t p=>
  obtain⟨c,n,q,f,g,k,i⟩:=e;refine⟨c,n,q,f,g.aR b,b _ k,?_⟩;cases p with
  |none=>exact i
  |some s=>obtain⟨j,l,m⟩:=i;exact⟨j,l,b _ m⟩
 |_=>exact e
def mX.m2{v x}(b:mX a v x):∃c g,v=.iface c g:=by
 cases x with
 |hole=>exact b
 |num f=>obtain⟨d,e,_⟩:=b;simp_all
 |choice f k i=>obtain⟨d,h,j,e,_⟩:=b;simp_all
 |_=>exact⟨_,_,b⟩
end
section
def el(b:List aD):bb:=b.foldl (λs a=>hP a s) sY
theorem yM(b:List aD)(a:aD):el (b++[a])=hP a (el b):=by simp[el]
def kR(s:bb):Prop:=∀a∈s.aJ,a.1<s.L.length
variable {s : bb}
def nc(a:kR s)(d:cV):kR (bg d s):=λc b=>by
 have:=a c b;simp[bg];omega
def AR(a:kR s)(c:Nat)(e:cV):kR (dD c e s):=λd b=>by
 simp only[dD,YF];exact a d b
def JZ(b:kR s)(d:Zb):kR (ke d s):=λc a=>by
 simp only[ke,Yn,Yc,Yq,YC,List.length_nil]at a ⊢;rcases a with a|rfl
 .have:=b c a;omega
 .simp
def yL:∀(c:Ty) (s:bb),kR s->kR (dZ c s):=by
 intro c;induction c with
 |plain h=>intro s a;exact nc a _
 |named i g=>intro s a;exact JZ a _
 |opaq e d=>intro s a;exact nc a _
 |str e d=>intro s a;exact nc a _
 |arr f e d b=>intro s a;exact AR (nc (b _ (nc a _)) _) _ _
 |opt f b=>intro s a;exact AR (b _ (nc a _)) _ _
 |void=>intro s a;exact a
def tS{h d:Type}(b:d->bb)(g:d->h->d)(i:∀a e,kR (b a)->kR (b (g a e))):∀(c:List h) (a:d),kR (b a)->kR (b (c.foldl g a)):=by
 intro c;induction c with
 |nil=>intro a f;exact f
 |cons e c j=>intro a f;exact j _ (i a e f)
def SL(h:aD)(s:bb)(b:kR s):kR (hP h s):=by
 have f:∀{m:bb} (l:Zb) (a:Nat),kR m->kR (lf l a m):=λl a p=>nc p .ret;cases h with
 |const a c o=>exact b
 |prog a c o g=>exact b
 |typedef h=>exact f _ _ (yL _ _ b)
 |enum j a i=>exact f _ _ (nc (s:={ s with cZ:=cM s.cZ j (hn i) }) b _)
 |struct j a i=>exact f _ _ (tS (λk=>k) (λs (e:aU)=>dZ e.H s) (λc (e:aU) d=>yL e.H c d) i _ (nc b _))
 |union j a q n=>exact f _ _ (tS (λk=>k) (λs (g:Nat)=>dD g (.jump s.L.length) s) (λc g d=>AR d g _) _ _ (AR (tS lM.s ck (λc e d=>nc (yL e.2.H _ d) _) n _ (nc b _)) _ _))
def acm{ds}:kR (Ch ds).1:=by
 refine tS Prod.fst hD (λc b a=>?_) ds _ (tS Prod.fst eH (λc b a=>?_) ds _ (tS (λf=>f) (λs (b:aD)=>hP b s) (λc b a=>SL b c a) ds _ (λi d=>by simp[sY]at d)))
 .cases b with
  |prog g h e j=>exact tS Prod.fst mH (λc v a=>tS Prod.fst lW (λc k a=>nc (yL _ _ (nc (yL _ _ a) _)) _) v.ao _ a) e _ a
  |_=>exact a
 .unfold eH;split
  .exact nc (JZ a _) _
  .exact a
end
section
variable {T et kt:TypeId}{d:TypeDesc}{b a:Type}
section
variable {P : Program} {w : Zw}
def adY(t:P.underlying T=some (.map kt et))(m:P.underlying kt=some d){a}(n:IsKey d a)(s:Instr.keyThatStays a a=pure a){f:Nat}{c h}
  (l:w.heap[f]?=some (.map c h)) (q:∀g∈c.toList,IsKey d g.key) (u:∃g∈c.toList,g.key=a) (v:Zv) :
  ∃(e:Nat) (b:MapEntry),c.toList[e]?=some b/\b.key=a/\
   (Instr.mapUpdate T (.map (some f)) a v).run P w=.ok () (fd w f (.map (c.modify e λb=>{ b with key:=a,val:=v }) h)):=by
 have p:=λo=>MapKept.run_checkKey (w:=w) m n o 9999;rcases findNow_spec n c.toList 0 q with⟨i,j⟩|⟨e,b,i,j,k⟩
 .grind
 .refine⟨e,b,j,k,?_⟩;have r:c[e]?=some b:=Zu;simp[Instr.mapUpdate,Instr.findKey,run_underlying t,run_underlying m,MapKept.run_getObj_map l,p,i,r,k,s,MapKept.run_setObj_map _ l,Result.andThen]
def GM(a:Za):Instr.keyThatStays (.string a) (.string a)=pure (.string a):=by
 unfold Instr.keyThatStays;rw[Y9 (by show (a==a)=true;simp_all[bytes_beq])]
def aeK(a:Int):Instr.keyThatStays (Y a) (Y a)=pure (Y a):=by
 unfold Instr.keyThatStays;rw[Y9 (by show ((IntKind.i64==IntKind.i64)&&(a==a))=true;simp)]
def vK[DecidableEq a](y:P.underlying T=some (.map kt et))(t:P.underlying kt=some d)(g:a->Zv)(i:b->Zv)(r:∀c,IsKey d (g c))(C:∀c,Instr.keyThatStays (g c) (g c)=pure (g c))(I:∀k q,g k=g q->k=q)
  {j:Nat} {e:List (a×b)} (s:w.heap[j]?=some (nB (e.map λf=>(g f.1,i f.2)))) (z:(e.map (·.1)).Nodup) (c:a) (v:b) :
  (Instr.mapUpdate T (.map (some j)) (g c) (i v)).run P w=.ok () (fd w j (nB ((cM e c v).map λf=>(g f.1,i f.2)))):=by
 have u:∀H∈((e.map λf=>(g f.1,i f.2)).mapIdx λh f=>(⟨f.1,f.2,h⟩:MapEntry)).toArray.toList,IsKey d H.key:=by
  grind
 by_cases x:c∈e.map (·.1)
 .obtain⟨f,F,R⟩:=YE.1 x;obtain⟨h,J,rfl⟩:=List.getElem_of_mem F;obtain⟨o,A,l,B,n⟩:=adY y t (r c) (C c) s u ⟨⟨g e[h].1,i e[h].2,h⟩,by
    grind,Zg⟩ (i v)
  rw[n];simp only[List.toList_toArray,List.getElem?_mapIdx]at l;have K:o<e.length:=by
   grind
  rw[Yd Zg]at l;simp at l;subst l;simp only at B;have D:h=o:=by
   have G:(e.map (·.1))[h]' Zg=(e.map (·.1))[o]' Zg:=Zg;exact xm z _ _ _ _ G
  subst D;refine Yo (λp=>Result.ok () (fd w j p)) ?_;unfold nB cM;rw[Y9 x];simp only[YU];refine Yo (λk=>Obj.map k _) ?_;apply Array.ext';simp only[Array.toList_modify];apply List.ext_getElem
  .simp
  .intro m M N;have L:m<e.length:=Zg;by_cases E:h=m
   .grind
   .have O:¬e[m].1=c:=λA=>E (xm z h m Zg Zg Zg);grind
 .have n:=Ci y t (r c) s u (by
   grind) (i v)
  rw[n];refine Yo (λp=>Result.ok () (fd w j p)) ?_;unfold nB cM;grind
def bS[DecidableEq a](d:List (a×b))(c:a):Option b:=(d.find? λe=>e.1==c).map (·.2)
def ZH[DecidableEq a]{d:List (a×b)}{c:a}(f:∀e∈d,e.1≠c):bS d c=none:=by
 grind [bS]
theorem ZI[DecidableEq a]{c:List (a×b)}{e:a}(g:(c.map (·.1)).Nodup){d:a×b}(h:d∈c)(f:d.1=e):bS c e=some d.2:=by
 induction c with
 |nil=>grind
 |cons j k i=>
  grind [bS]
def zh(c:List (Zb×b))(a:Zb):aP c a=bS c a:=by
 unfold aP bS;grind
def BB[DecidableEq a](x:P.underlying T=some (.map kt et))(s:P.underlying kt=some d)(e:a->Zv)(g:b->Zv)(q:∀i,IsKey d (e i))(C:∀m n,e m=e n->m=n)
  {l:Nat} {f:List (a×b)} (r:w.heap[l]?=some (nB (f.map λc=>(e c.1,g c.2)))) (F:(f.map (·.1)).Nodup) {z} (y:(zeroValue et).run P w=.ok z w) (i:a) (j:Bool) :
  (Instr.lookup T (.map (some l)) (e i) j).run P w=.ok (match bS f i with
   |some v=>if j then .tuple #[g v,.bool true]else g v
   |none=>if j then .tuple #[z,.bool false]else z) w:=by
 have t:∀A∈((f.map λc=>(e c.1,g c.2)).mapIdx λh c=>(⟨c.1,c.2,h⟩:MapEntry)).toArray.toList,IsKey d A.key:=by
  grind
 rcases zi x s (q i) r t y j with⟨k,o⟩|⟨E,p,k,o,B⟩
 .rw[ZH (λc u p=>?_),o];obtain⟨h,D,rfl⟩:=List.getElem_of_mem u;refine k ⟨e f[h].1,g f[h].2,h⟩ ?_ Zg;grind
 .simp only[List.toList_toArray,List.getElem?_mapIdx]at k;grind [ZI]
end
def xT(a b:Zb)(c:(Zs a)=Zs b):a=b:=by
 simp_all
def Lu(a b:Int)(c:(Y a)=Y b):a=b:=by
 simp_all
end
section
variable {T:TypeId}{l k:Type}
theorem FD{f:Type}[DecidableEq k](b:l->f)(c:List (k×l))(d:k)(v:l):(cM c d v).map (λa=>(a.1,b a.2))=cM (c.map λa=>(a.1,b a.2)) d (b v):=by
 have e:(c.map λa=>(a.1,b a.2)).map (·.1)=c.map (·.1):=Zq;unfold cM;rw[e];split
 .rw[List.map_map,List.map_map];apply List.map_congr_left;grind
 simp
def FE[DecidableEq k]{c b v}{a:k×l}(d:a∈cM c b v):a∈c\/a=(b,v):=by
 unfold cM at d;grind
def ZG[DecidableEq k]{c:List (k×l)}{b:k}{v:l}(a:bS c b=some v):∃d∈c,d.1=b/\d.2=v:=by
 unfold bS at a;rw[Option.map_eq_some_iff]at a;grind
structure kA where
 C:Nat
 B:Nat
 E:Nat
abbrev yK(a:Nat×Zb):Zl:=[Y a.1,.string ⟨a.2.toArray⟩]
def Dx(bs:Zo)(v:Zv)(b:dJ):Prop:=∃a,v=.agg a.toArray/\iF bs a b
structure bF(s:bb)(n:Nat):Prop where
 L:s.L.length+n<1000000
 aJ:s.aJ.length<=s.L.length
abbrev tT(a:kA)(g ks:Zv)(s:bb)(e:List (cV×Zv))(et:List (Zb×dJ×Zv))(bs:Zo):List Th:=
 .obj a.C (.cells #[g,.map (some a.B),.map (some a.E),ks] 167)::.row 273 1 g s.L.length (e.map (·.2))::.row 269 2 ks s.aJ.length (s.aJ.flatMap yK)::.obj a.B (oj s.b1)::.obj a.E (nB (et.map λb=>(.string ⟨b.1.toArray⟩,b.2.2)))::bs.map λb=>.obj b.1 b.2
structure iu(c:Zw)(a:kA)(F:List Th)(bs:Zo)(s:bb)(g ks:Zv)(e:List (cV×Zv))(et:List (Zb×dJ×Zv))(w:Zw):Prop where
 bO:bA (F++tT a g ks s e et bs) c w
 g4:(s.b1.map (·.1)).Nodup
 g6:(et.map (·.1)).Nodup
 hd:s.cZ=et.map λp=>(p.1,p.2.1)
 he:∀p∈et,Dx bs p.2.2 p.2.1
 g5:s.L=e.map (·.1)
 g7:∀p∈e,mX bs p.2 p.1
def Cm(c:Zw)(a:kA)(F:List Th)(bs:Zo)(s:bb)(w:Zw):Prop:=∃h g ks e et,(∀b∈bs,b∈h)/\iu c a F h s g ks e et w
def oH(c:Zw)(a:kA)(F:List Th)(bs:Zo)(s:bb)(v:Zv)(b:Ending)(d:Zw):Prop:=b=.returned v/\Cm c a F bs s d
section
variable {c w w' : Zw} {a : kA} {F m : List Th} {bs h : List (Nat × Obj)} {s : bb} {i : Nat} {t t' : Th} {g ks : Zv} {e : List (cV × Zv)} {et : List (Zb × dJ × Zv)} {N : List Nat} {b : Nat} {o : Obj}
def hO{b args v}{Q:Ending->Zw->Prop}(d:Calls prog b args w (oH c a F bs s v))(ok:∀w',af (Cm c a F bs s w')->Q (.returned v) w'):Calls prog b args w Q:=d.mono λh g f=>by
 obtain⟨rfl,e⟩:=f;exact ok g e
theorem iu.aw(b:iu c a F bs s g ks e et w):w.heap[a.C]?=some (.cells #[g,.map (some a.B),.map (some a.E),ks] 167):=b.bO.bZ (i:=0) rfl
def iu.row(b:iu c a F bs s g ks e et w):w.ownsRow 0 273 1 g s.L.length (e.map (·.2)):=b.bO.bZ (i:=1) rfl
def iu.iS(b:iu c a F bs s g ks e et w):w.ownsRow 0 269 2 ks s.aJ.length (s.aJ.flatMap yK):=b.bO.bZ (i:=2) rfl
def iu.cm(d:iu c a F bs s g ks e et w):Cm c a F bs s w:=⟨bs,g,ks,e,et,λ_ b=>b,d⟩
def Cm.fY(i:Cm c a F bs s w)(f:∀b,bA (F++b) c w->bA (m++b) c w'):Cm c a m bs s w':=by
 obtain⟨h,g,ks,e,et,j,d⟩:=i;exact⟨h,g,ks,e,et,j,{ d with bO:=f _ d.bO }⟩
def Cm.aR(f:Cm c a F h s w)(i:∀d∈bs,d∈h):Cm c a F bs s w:=by
 obtain⟨b,g,ks,e,et,j,l⟩:=f;exact⟨b,g,ks,e,et,λd k=>j d (i d k),l⟩
def Cm.ae(b:Cm c a F bs s w)(d:ap [] w w'):Cm c a F bs s w':=b.fY λ_ e=>e.ae d
theorem Cm.ag(b:Cm c a F bs s w):Cm c a F bs s w.drew:=b.ae (ar [] w).ag
def Cm.cR(b:Cm c a F bs s w)(o:Obj):Cm c a F bs s (w.alloc o):=b.ae ((ar [] w).A o)
def Cm.A(b:Cm c a F bs s w)(o:Obj):Cm c a (.obj w.heap.size o::F) bs s (w.alloc o):=b.fY λ_ d=>d.A o
def Cm.au(b:Cm c a (t::F) bs s w):Cm c a F bs s w:=b.fY λ_ d=>d.au
def Cm.nil(e:Cm c a F bs s w)(b:TypeId)(d:Nat):Cm c a (.row b d (.slice none 0 0) 0 []::F) bs s w:=e.fY λ_ f=>f.nil b d
def Cm.b5(e:Cm c a F bs s w)(f:F[i]?=some t)(d:ap N w w'/\(∀b∈N,t.aG=some b)/\t'.At w'/\∀b,t'.aG=some b->t.aG=some b\/w.heap.size<=b):Cm c a (F.set i t') bs s w':=e.fY λ_ g=>g.jW f d.1 d.2.1 d.2.2.1 d.2.2.2
def Cm.th(b:Cm c a F bs s w)(d:F[i]?=some t):t.At w:=by
 obtain⟨_,_,_,_,_,_,e⟩:=b;exact e.bO.y _ (Yf _ (Yh d))
def Cm.ob(d:Cm c a F bs s w)(e:F[i]?=some (.obj b o)):w.heap[b]?=some o:=d.th e
theorem Cm.aW(e:Cm c a F bs s w)(f:F[i]?=some (.obj b o))(d:Obj):Cm c a (F.set i (.obj b d)) bs s (fd w b d):=e.b5 f (FV (e.th f) d)
theorem Cm.aq{e j}(d:Cm c a F bs s w)(f:F[i]?=some (.obj b (.cells e T)))(v:Zv):Cm c a (F.set i (.obj b (.cells (e.set! j v) T))) bs s (w.setCell ⟨b,j,none⟩ v):=d.b5 f (qj (d.th f) v)
theorem iu.aq{h j}(f:iu c a F bs s g ks e et w)(k:F[i]?=some (.obj b (.cells h T)))(v:Zv):iu c a (F.set i (.obj b (.cells (h.set! j v) T))) bs s g ks e et (w.setCell ⟨b,j,none⟩ v):=
 have d:=qj (f.bO.y _ (Yf _ (Yh k))) v
 { f with bO:=f.bO.jW k d.1 d.2.1 d.2.2.1 d.2.2.2 }
def Cm.a3{e}{f y d b l j:Nat}{v z n}{g h:Zw}(o:Cm c a F bs s w)(m:F[i]?=some (.row e f v y z))(t:ap [] w g)(u:h.ownsRow 0 e f (.slice (some ⟨b,0,none⟩) d l) d n)(r:g.grownBy h v.ownBlock)(q:v.ownBlock=some b\/b=j)(p:g.heap.size=j):Cm c a (F.set i (.row e f (.slice (some ⟨b,0,none⟩) d l) d n)) bs s h:=o.fY λk x=>DM (X:=k) m▸x.a3 (AG m) t u r q p
def Cm.kp(b:Cm c a F bs s w):ap [] c w:=by
 obtain⟨_,_,_,_,_,_,d⟩:=b;exact d.bO.fr
def Cm.e8(e:Cm c a F bs s w)(d:c.heap[b]?=some o):w.heap[b]?=some o:=(e.kp.al _ (ay d) Zq).trans d
def Cm.c6(k:Cm c a (.obj b o::F) bs s w):Cm c a F ((b,o)::bs) s w:=by
 obtain⟨h,g,ks,e,et,p,i⟩:=k;have j:∀d∈h,d∈(b,o)::h:=λd f=>Y5 _ f;refine⟨(b,o)::h,g,ks,e,et,λd f=>?_,⟨?_,i.g4,i.g6,i.hd,λd f=>?_,i.g5,λd f=>(i.g7 d f).aR j⟩⟩
 .rcases Yg.1 f with rfl|f
  .exact Yb
  .exact j d (p d f)
 .exact i.bO.g1 (by simpa[tT]using (List.perm_middle (l₁:=F++(tT a g ks s e et h).take 5) (a:=Th.obj b o) (l₂:=h.map λd=>.obj d.1 d.2)).symm)
 .obtain⟨l,m,n⟩:=i.he d f;exact⟨l,m,n.aR j⟩
def Cm.gS{d n f v}{l:Zl}(g:Cm c a (.row d n v f l::F) bs s w)(u:f<=1000):∃h,Cm c a F h s w/\fh h d v f l/\∀y∈bs,y∈h:=by
 have e:w.ownsRow 0 d n v f l:=g.th (i:=0) rfl;obtain⟨m,⟨rfl,rfl⟩|⟨k,o,j,rfl,-,p,q,-,-,r⟩⟩:=e
 .exact⟨bs,g.au,Y8 ⟨rfl,rfl,Yv.1 (by simpa using m)⟩,λ_ e=>e⟩
 .have x:Cm c a (.obj k (.cells j d)::F) bs s w:=g.b5 (i:=0) (t':=.obj k (.cells j d)) (N:=[]) rfl ⟨ar [] w,Zq,p,λb t=>Y8 t⟩;exact⟨_,x.c6,Ya ⟨k,o,j,rfl,⟨q,u⟩,Yb,by rw[m];exact r⟩,λ_ e=>Y5 _ e⟩
def Cm.K(f:Cm c a F bs s w):(∃ad d,w.cell? (Zd a.C 0)=some (.slice ad s.L.length d))/\w.cell? (Zd a.C 1)=some (.map (some a.B))/\w.cell? (Zd a.C 2)=some (.map (some a.E))/\(∀i,w.frozen? ⟨a.C,i,none⟩=false)/\a.C<w.heap.size:=by
 obtain⟨_,g,ks,e,et,_,b⟩:=f;obtain⟨ad,d,rfl⟩:=aV b.row;exact⟨⟨ad,d,aB b.aw rfl⟩,aB b.aw rfl,aB b.aw rfl,bi b.aw,ay b.aw⟩
def iu.hv{x v}(d:iu c a F bs s g ks e et w)(u:mX bs v x)(A:i<s.L.length):∃b f,g=.slice (some ⟨b,0,none⟩) s.L.length f/\s.L.length<=f/\w.frozen? ⟨b,i,none⟩=false/\(∃y,w.cell? (Zd b i)=some y)/\b<w.heap.size/\iu c a F bs (dD i x s) g ks (e.set i (x,v)) et (w.setCell ⟨b,i,none⟩ v):=by
 have t:=d.row.1;rcases d.row.2 with⟨rfl,z⟩|⟨b,f,k,rfl,o,h,l,p,q,r⟩
 .omega
 .refine⟨b,f,rfl,l,by simp[World.frozen?,h],⟨k[i]' Zm,by simp[World.cell?,h]⟩,ay h,⟨?_,d.g4,d.g6,d.hd,d.he,by simp[dD,d.g5,List.map_set],λm j=>?_⟩⟩
  .have:=d.bO.gk (i:=1) (N:=[b]) (a':=.row 273 1 (.slice (some ⟨b,0,none⟩) s.L.length f) s.L.length ((e.set i (x,v)).map (·.2))) rfl ((ar [b] w).a6 (p:=⟨b,i,none⟩) Zq v) (by simp[Th.aG,Value.ownBlock]) ⟨by simpa using t,Ya ⟨b,f,k.setIfInBounds i v,rfl,o,ci h v,l,p,by simpa using q,by rw[Array.toList_setIfInBounds,List.take_set,r];simp[List.map_set]⟩⟩ λ_ n=>Y8 n;simpa[dD,tT]using this
  .rcases List.mem_or_eq_of_mem_set j with j|rfl
   .exact d.g7 m j
   .exact u
def Cm.hv{x v}(k:Cm c a F bs s w)(q:mX bs v x)(p:i<s.L.length):∃b d,w.cell? (Zd a.C 0)=some (.slice (some ⟨b,0,none⟩) s.L.length d)/\s.L.length<=d/\w.frozen? ⟨b,i,none⟩=false/\(∃t,w.cell? (Zd b i)=some t)/\b<w.heap.size/\Cm c a F bs (dD i x s) (w.setCell ⟨b,i,none⟩ v):=by
 obtain⟨h,g,ks,e,et,f,j⟩:=k;obtain⟨b,d,rfl,l,m,n,o,r⟩:=j.hv (q.aR f) p;exact⟨b,d,aB j.aw rfl,l,m,n,o,h,_,_,_,_,f,r⟩
def Cm.nT(m:Cm c a F bs s w)(j:Zb)(f:Nat):∃w',(Instr.mapUpdate 103 (.map (some a.B)) (Zs j) (Y f)).run prog w=.ok () w'/\Cm c a F bs { s with b1:=cM s.b1 j f } w':=by
 obtain⟨h,g,ks,e,et,r,b⟩:=m;have l:(Th.obj a.B (oj s.b1)).At w:=b.bO.bZ (i:=3) rfl;obtain⟨n,o,p,q⟩:=FV l (oj (cM s.b1 j f));exact⟨_,vK (P:=prog) (T:=103) (kt:=9) (et:=3) (d:=.string) Zk Zk (λk:Zb=>Zs k) (λk:Nat=>Y k) (λ_=>trivial) (λ_=>GM _) xT l b.g4 j f,h,g,ks,e,et,r,b.bO.gk (i:=3) rfl n o p q,uj b.g4 ..,b.g6,b.hd,b.he,b.g5,b.g7⟩
def Cm.kM(m:Cm c a F bs s w)(f:Zb)(b:Bool):(Instr.lookup 103 (.map (some a.B)) (Zs f) b).run prog w=.ok (match aP s.b1 f with
   |some v=>if b then .tuple #[.int .i64 v,.bool true]else .int .i64 v
   |none=>if b then .tuple #[.int .i64 0,.bool false]else .int .i64 0) w:=by
 obtain⟨h,g,ks,e,et,p,l⟩:=m;have n:(Th.obj a.B (oj s.b1)).At w:=l.bO.bZ (i:=3) rfl;rw[zh];have k:=BB (P:=prog) (T:=103) (kt:=9) (et:=3) (d:=.string) Zk Zk (λj:Zb=>Zs j) (λj:Nat=>Y j) (λ_=>trivial) xT n l.g4 (z:=Y 0) Zk f b;cases o:bS s.b1 f<;>(rw[o]at k;exact k)
theorem HN(j:iu c a F bs s g ks e et w)(b:Zb):(Instr.lookup 164 (.map (some a.E)) (Zs b) false).run prog w=.ok (match bS et b with
  |some v=>v.2
  |none=>.agg #[.int .i64 0,.int .i64 0,.slice none 0 0,.bool false]) w:=by
 have l:(Th.obj a.E (nB (et.map λk=>(.string ⟨k.1.toArray⟩,k.2.2)))).At w:=j.bO.bZ (i:=4) rfl;have h:=BB (P:=prog) (w:=w) (T:=164) (kt:=9) (et:=247) (d:=.string) Zk Zk (λf:Zb=>Zs f) (λf:dJ×Zv=>f.2) (λ_=>trivial) xT l j.g6 (z:=.agg #[Y 0,Y 0,.slice none 0 0,.bool false]) Zk b false;cases m:bS et b<;>(rw[m]at h;exact h)
def Cm.m4(j:Cm c a F bs s w)(b:Zb):∃h v,(∀i∈bs,i∈h)/\Cm c a F h s w/\Dx h v ((aP s.cZ b).getD yc)/\∀f,ap [] w f->(Instr.lookup 164 (.map (some a.E)) (Zs b) false).run prog f=.ok v f:=by
 obtain⟨h,g,ks,e,et,k,d⟩:=j;refine⟨h,_,k,d.cm,?_,λf o=>HN { d with bO:=d.bO.ae o } b⟩;have l:aP s.cZ b=(bS et b).map (·.1):=by
  rw[zh,d.hd];unfold bS;rw[List.find?_map];simp only[Option.map_map];rfl
 rw[l];cases m:bS et b with
 |none=>exact⟨[.int .i64 0,.int .i64 0,.slice none 0 0,.bool false],rfl,_,rfl,rfl,_,_,_,rfl⟩
 |some p=>
  obtain⟨i,n,_,rfl⟩:=ZG m;exact d.he i n
end
def fh.hs{bs}{w:Zw}{l v a k}(d:fh bs l v a k)(i:∀j∈bs,w.heap[j.1]?=some j.2):∃ad b,v=.slice ad a b/\a<=1000/\af (0<a->∃c,ad=some ⟨c,0,none⟩/\a<=b/\∀(f:Zw),ap [] w f->∀(e:Nat) (g:Zv),k[e]?=some g->f.cell? (Zd c e)=some g):=by
 rcases d with⟨rfl,rfl,_⟩|⟨c,b,r,rfl,⟨m,n⟩,h,o⟩
 .exact⟨none,0,rfl,Zm,λd=>absurd d Zm⟩
 .exact⟨_,b,rfl,n,λ_=>⟨c,rfl,m,λf p e g q=>pt ((p.al _ (ay (i _ h)) Zq).trans (i _ h)) o q⟩⟩
end
section
variable {d:Bool}{rs:it}{a:Ty}{b c τ:Type}
def eJ(Q:b->Prop)(c:PM b):Prop:=∀d a e,c d=.ok (a,e)->Q a
def hB(Q:b->Prop)(d:PX τ b):Prop:=∀a f c e g,d a f=.ok (c,e,g)->Q c
def qJ(c:τ->Prop)(f:PX τ b):Prop:=∀a g e d h,c a->f a g=.ok (e,d,h)->c d
theorem dU{Q:b->Prop}{a}(d:Q a):eJ Q (ret a):=by
 intro f c g e;grind [ret]
theorem kQ{Q:b->Prop}(c a:Nat):eJ Q (hU c a):=by
 intro f d g e;grind [hU]
def mJ{Q R f}{g:b->PM c}(i:eJ R f)(h:∀a,R a->eJ Q (g a)):eJ Q (aN f g):=by
 intro k l n d;cases e:f k with
 |error m=>rw[dv e]at d;cases d
 |ok j=>obtain⟨a,o⟩:=j;rw[bK e]at d;exact h a (i _ _ _ e) _ _ _ d
def ahh(a:PM b):eJ (λ_=>True) a:=λ_ _ _ _=>trivial
theorem ba{Q e}{d:b->PM c}(f:∀a,eJ Q (d a)):eJ Q (aN e d):=mJ (ahh e) λa _=>f a
def dT{Q:b->Prop}{a c:PM b}(e:eJ Q a)(f:eJ Q c):eJ Q (if d then a else c):=Zg
def jU{Q:b->Prop}{c}(e:Q c):hB Q (eG (τ:=τ) c):=by
 intro a h d g i f;grind [eG]
def rT{Q:b->Prop}{c:PM b}(f:eJ Q c):hB Q (lift (τ:=τ) c):=by
 intro a h j l m e;cases d:c h with
 |error k=>simp_all[ih]
 |ok g=>obtain⟨i,n⟩:=g;rw[gB d]at e;cases e;exact f _ _ _ d
def mK{Q R g}{h:b->PX τ c}(j:hB R g)(i:∀d,R d->hB Q (h d)):hB Q (aQ g h):=by
 intro a l m o q e;cases f:g a l with
 |error n=>rw[eW f]at e;cases e
 |ok k=>obtain⟨d,p,r⟩:=k;rw[dX f]at e;exact i d (j _ _ _ _ _ f) _ _ _ _ _ e
def ahz(a:PX τ b):hB (λ_=>True) a:=λ_ _ _ _ _ _=>trivial
def eS{Q e}{d:b->PX τ c}(f:∀a,hB Q (d a)):hB Q (aQ e d):=mK (ahz e) λa _=>f a
def mg{Q:b->Prop}{a c:PX τ b}(e:hB Q a)(f:hB Q c):hB Q (if d then a else c):=Zg
def Dd{ρ:Type}{Q:b->Prop}{c:PX τ b}(f:hB Q c):hB Q (km (ρ:=ρ) c):=by
 rintro⟨a,l⟩ h i m o e;cases d:c a h with
 |error k=>simp_all[xr]
 |ok g=>obtain⟨j,n,p⟩:=g;rw[xt d]at e;cases e;exact f _ _ _ _ _ d
theorem Bo{I g}{h:b->PX τ c}(k:qJ I g)(i:∀e,qJ I (h e)):qJ I (aQ g h):=by
 intro a m n p r j d;cases f:g a m with
 |error o=>rw[eW f]at d;cases d
 |ok l=>obtain⟨e,q,s⟩:=l;rw[dX f]at d;exact i e _ _ _ _ _ (k _ _ _ _ _ j f) d
theorem zd{d}(c:PM b):qJ d (lift (τ:=τ) c):=by
 intro a h j m n l f;cases e:c h with
 |error k=>simp_all[ih]
 |ok g=>obtain⟨i,o⟩:=g;rw[gB e]at f;simp_all
theorem Ff{c}(d:b):qJ c (eG (τ:=τ) d):=by
 intro a i e h j f g;grind [eG]
theorem WV{b:τ->Prop}(d:Za)(rq:Nat){run:PX τ Unit}(e:qJ b run):∀(a c:Nat),qJ b (lS d rq run a c):=by
 intro a;induction a<;>grind [zd,lS,Bo,Ff]
def Lw{a:τ->Prop}(b:Za)(rq:Nat){run:PX τ Unit}(c:qJ a run):qJ a (ib b rq run):=by
 grind [ib,Bo,zd,WV]
def PK{I:τ->Prop}{b:PX τ Unit}(e:qJ I b){a:τ}(f:I a):eJ I (lw b a):=by
 intro h i m d;cases c:b a h with
 |error k=>simp_all[zG]
 |ok g=>obtain⟨j,l,n⟩:=g;rw[zH c]at d;cases d;exact e _ _ _ _ _ f c
def PL{Q:b->Prop}{c:PX τ b}(g:hB Q c)(a:τ):eJ (λd=>Q d.1) (ko c a):=by
 intro h i m f;cases e:c a h with
 |error k=>simp_all[rE]
 |ok d=>obtain⟨j,l,n⟩:=d;rw[Cw e]at f;cases f;exact g _ _ _ _ _ e
def PH{Q:b->Prop}{a:PX Unit b}(e:hB Q a):eJ Q (lc a):=by
 intro g h l d;cases c:a () g with
 |error j=>simp_all[DR]
 |ok f=>obtain⟨i,k,m⟩:=f;rw[DS c]at d;cases d;exact e _ _ _ _ _ c
def hx:Ty->Prop
 |.plain a=>a<=4
 |.named _ _=>True
 |_=>False
def lF:Ty->Prop
 |.plain b=>b<=4
 |.named _ _=>True
 |.opaq _ _=>True
 |.str _ _=>True
 |.arr a _ _=>hx a
 |.opt a=>hx a
 |.void=>False
def uG(a:Ty):Prop:=lF a\/a=.void
def IE(b:hx a):rV a:=by cases a<;>simp[hx,rV]at *
theorem hx.iD(b:hx a):lF a:=by cases a<;>simp[hx,lF]at *<;>exact b
def lF.e6(b:lF a):ji a:=by
 cases a with
 |arr c e d=>exact IE b
 |opt c=>exact IE b
 |_=>trivial
def uG.e6(b:uG a):ji a:=by
 rcases b with b|rfl
 .exact b.e6
 .trivial
def HK(a:Za):eJ hx (rL a):=by
 unfold rL;refine ba λb=>?_;unfold lB;refine dT (dU trivial) (dT (dU (by simp[hx])) (dT (dU (by simp[hx])) (dT (dU (by simp[hx])) (dT ?_ (kQ _ _)))));exact ba λc=>dT (dU (by simp[hx])) (ba λ_=>dU (by simp[hx]))
def aht(b:Za):eJ (λa:Ty×(Int->Bool)=>hx a.1) (qu b):=by
 unfold qu;refine ba λc=>?_;unfold lx;exact dT (ba λ_=>dU trivial) (dT (dU (by simp[hx])) (dT (ba λ_=>dU (by simp[hx])) (dT (dU (by simp[hx])) (kQ _ _))))
def HI(d:Za)(h:fg τ):hB (λb=>lF b.H) (ig d h):=by
 unfold ig;refine eS λe=>?_;unfold qZ;refine mg (eS λa=>eS λg=>jU trivial) (eS λe=>?_);unfold ra;refine mg (eS λa=>eS λg=>jU trivial) (mK (rT (HK d)) λi c=>?_);unfold vo;refine eS λe=>?_;unfold tV;refine mg (eS λa=>jU c) (eS λa=>?_);unfold tW;refine eS λe=>?_;unfold vp;have f:hB (τ:=τ) (λb=>lF b.H) (pc d a i):=by
  unfold pc;exact eS λg=>jU c
 refine mg f (eS λj=>?_);unfold vt;exact mg f (jU c.iD)
def PF(d:Za)(c:fg τ):hB (λb=>uG b.H) (lb d c):=by
 unfold lb;refine mK (R:=λb=>uG b.H) (eS λk=>?_) λb g=>eS λ_=>jU g;unfold sq;refine mg (jU (Ya rfl)) ?_;intro a i e h j f;exact Y8 (HI d c a i e h j f)
def qD(rs:it):Prop:=∀a∈rs,uG a.2.H
def qD.d9(e:qD rs){d:List Int}{b:aU}(f:uG b.H):qD (rs++[(d,b)]):=by
 intro c a;rcases Yn.1 a with a|a
 .exact e c a
 simp_all
def ahi(c:Za)(a:qD rs):hB qD (oY c rs):=by
 unfold oY;exact eS λe=>mg (eS λ_=>mK (Dd (PF _ _)) λd b=>jU (a.d9 b)) (jU a)
def ahk(d:Za)(f:Int->Bool):∀(a:Nat) {rs:it},qD rs->hB qD (jJ d f a rs):=by
 intro a;induction a with
 |zero=>intro rs _;exact rT (kQ _ _)
 |succ a e=>
  intro rs b;unfold jJ;exact eS λg=>mK (Dd (PF _ _)) λh c=>eS λi=>mg (e (b.d9 c)) (ahi d (b.d9 c))
def ts:aD->Prop
 |.typedef b=>lF b.H
 |.struct _ _ d=>∀c∈d,lF c.H
 |.union _ _ e a=>hx e.H/\qD a
 |_=>True
theorem ahq(e:Za)(h:Zb×Nat):∀(a:Nat) (c:List (Zb×Nat×Int)) (b:List (Int×Int)),eJ ts (ki e h a c b):=by
 intro a;induction a with
 |zero=>intro c b;exact kQ _ _
 |succ a g=>
  intro c b j k p d;cases f:kK e c.length b j with
  |error l=>simp_all[vL]
  |ok i=>
   obtain⟨n,m,q⟩:=i;rw[vM f]at d;refine ba (Q:=ts) (λo=>dT (g _ _) ?_) _ _ _ d;unfold pW;exact ba λ_=>ba λ_=>dU trivial
def ahm(f:Za):eJ ts (fJ f):=by
 unfold fJ;refine ba λw=>?_;unfold fI;refine dT ?_ (dT ?_ (dT ?_ (dT ?_ (dT ?_ (dT ?_ (kQ _ _))))))
 .unfold lg;exact ba λ_=>ba λg=>ba λ_=>ba λ_=>ba λ_=>dU trivial
 .unfold lC;exact ba λ_=>mJ (PH (HI _ _)) λk d=>ba λ_=>dU d
 .grind [kF,ba,ahq]
 .unfold mc;refine ba λ_=>ba λg=>mJ (PK (I:=λe:List aU×Zc=>∀c∈e.1,lF c.H) (Lw _ _ ?_) Zq) λe l=>ba λ_=>dU l;rintro⟨p,a⟩ o j u x s i;cases d:ig f (cK 0 0) a o with
  |error q=>simp_all[CH]
  |ok h=>
   obtain⟨k,v,y⟩:=h;rw[CI d]at i;refine Bo (I:=λe:List aU×Zc=>∀c∈e.1,lF c.H) (zd _) (λ_=>Ff ()) _ _ _ _ _ ?_ i;intro c b;rcases Yn.1 b with b|b
   .simp_all
   .simp only[Yc]at b;subst b;exact HI _ _ _ _ _ _ _ d
 .unfold iQ;refine ba λ_=>ba λg=>?_;unfold qz;refine ba λ_=>ba λ_=>mJ (aht f) λh m=>?_;unfold qA;refine ba λc=>?_;unfold rM;refine ba λ_=>ba λ_=>mJ (PL (ahk f h.2 13 (rs:=[]) (by intro j r;grind)) _) λt n=>?_;unfold tf pB;exact ba λ_=>ba λ_=>dU ⟨m,n⟩
 .unfold lu;refine ba λ_=>ba λg=>?_;unfold sT;exact ba λ_=>ba λ_=>dU trivial
def yi(b:List aD):Prop:=∀a∈b,ts a
def ahu(d:Za):∀(b:Nat) {ds:List aD},yi ds->eJ yi (ey d b ds):=by
 intro b;induction b with
 |zero=>intro ds _;exact kQ _ _
 |succ b f=>
  intro ds c;unfold ey;refine ba λi=>dT (dU c) (mJ (ahm d) λg h=>ba λ_=>f ?_);intro e a;rcases Yn.1 a with a|a
  .exact c e a
  simp_all
def He{b:Za}{ds}(a:eR b=.ok ds):yi ds:=by
 unfold eR at a;split at a
 .cases a
 .cases c:ey b 69 [] fR with
  |error h=>simp_all
  |ok e=>
   obtain⟨g,i⟩:=e;rw[c]at a;simp only at a;have d:=ahu b 69 (ds:=[]) (by intro f d;grind) _ _ _ c;grind
def dO:Ty->Nat
 |.arr a _ _=>dO a+2
 |.opt a=>dO a+1
 |.void=>0
 |_=>1
theorem uE(a:Ty):∀b,(dZ a b).L.length=b.L.length+dO a:=by
 induction a with
 |arr d f e c=>grind [dZ,dD,bg,dO]
 |opt d c=>grind [dZ,dD,bg,dO]
 |_=>intro b;simp[dZ,bg,ke,dO]
def qX(d:ji a):dO a<=3:=by
 cases a with
 |arr b e c=>cases b<;>simp[ji,rV,dO]at *
 |opt b=>cases b<;>simp[ji,rV,dO]at *
 |_=>simp[dO]
end
section
variable {d:Zb->Nat}{c:List Nat}{a:List cV}
structure Wk(b:Type) where
 cW:Nat->b->Except Mar.ac b
 num:dJ->b->Except Mar.ac b
 text:Int->Bool->b->Except Mar.ac b
 bH:Int->Bool->b->Except Mar.ac (Nat×b)
 cg:dJ->(Int->Option Nat)->b->Except Mar.ac (Int×b)
def dJ.br(b:dJ)(a:Int):Bool:=decide (b.c4<=a)&&decide (a<=b.dp)&&(match b.f0 with|none=>true|some l=>l.contains a)
def eo(b:dJ)(d:List (Int×Nat×Nat))(c:Option (Nat×Nat))(a:Int):Option (Nat×Nat):=if b.br a then (match bS d a with|some q=>some q|none=>c)else none
structure iE where
 O:Nat
 aJ:List Nat
 b0:List (Nat×Nat)
section
variable {b : Type}
def fe(h:Wk b)(q:cV)(a:iE)(f:b):Option (Except Mar.ac (iE×b)):=
 match q with
 |.hole=>none
 |.fin=>none
 |.call j=>if 1000<=a.aJ.length then none else some (match h.cW a.aJ.length f with
  |.ok c=>.ok ({ a with O:=j,aJ:=a.O::a.aJ },c)
  |.error d=>.error d)
 |.ret=>match a.aJ with
  |[]=>none
  |g::o=>some (.ok ({ a with O:=g,aJ:=o },f))
 |.jump j=>some (.ok ({ a with O:=j },f))
 |.num e=>some (match h.num e f with
  |.ok c=>.ok (a,c)
  |.error d=>.error d)
 |.text e i=>some (match h.text e i f with
  |.ok c=>.ok (a,c)
  |.error d=>.error d)
 |.struct e i=>some (match h.bH e i f with
  |.ok (_,c)=>.ok (a,c)
  |.error d=>.error d)
 |.array e i j=>if 1000<=a.b0.length then none else some (match h.bH e i f with
  |.ok (0,c)=>.ok ({ a with O:=j },c)
  |.ok (g+1,c)=>.ok ({ a with b0:=(a.O,g+1)::a.b0 },c)
  |.error d=>.error d)
 |.again=>match a.b0 with
  |[]=>none
  |(k,left)::m=>some (.ok (if 1<left then { a with O:=k,b0:=(k,left-1)::m }else { a with b0:=m },f))
 |.choice e n l=>match h.cg e (λg=>(eo e n l g).map (·.2)) f with
  |.ok (g,c)=>match eo e n l g with
   |some p=>some (.ok ({ a with O:=p.1 },c))
   |none=>none
  |.error d=>some (.error d)
def mG(d:Wk b)(a:List cV):Nat->iE->b->Option (Except Mar.ac b)
 |0,_,_=>none
 |n+1,c,e=>match a[c.O]? with
  |none=>none
  |some .fin=>some (.ok e)
  |some i=>match fe d i { c with O:=c.O+1 } e with
   |none=>none
   |some (.error g)=>some (.error g)
   |some (.ok (h,f))=>mG d a n h f
def gu(c:Wk b)(a:List cV)(h:iE)(f:b)(j:Except Mar.ac (iE×b)):Prop:=
 ∃i,∀d e,(match j with|.ok (m',d')=>mG c a d m' d'|.error g=>some (.error g))=some e->mG c a (d+i) h f=some e
theorem Id(e:Wk b)(a:List cV)(d:iE)(c:b):gu e a d c (.ok (d,c)):=⟨0,λ_ _ f=>f⟩
theorem gu.u{c}{f g:iE}{d e:b}{r}(h:gu c a f d (.ok (g,e)))(i:gu c a g e r):gu c a f d r:=by
 obtain⟨k,m⟩:=h;obtain⟨j,l⟩:=i;exact⟨j+k,λo p n=>by grind⟩
theorem jh{e}{c:iE}{f:b}{d g}(j:a[c.O]?=some d)(h:d≠.fin)(i:fe e d { c with O:=c.O+1 } f=some g):gu e a c f g:=by
 refine⟨1,λl m k=>?_⟩;unfold mG;grind
def aA{a b:Type}(f:Except Mar.ac a)(e:a->Except Mar.ac b):Except Mar.ac b:=match f with
 |.ok c=>e c
 |.error d=>.error d
abbrev eU(b:Type):=b->Except Mar.ac b
def hE(c:eU b):Nat->eU b
 |0,a=>.ok a
 |n+1,a=>aA (c a) (hE c n)
def jK(a:Int):Option Nat:=if a=0 then some 0 else if a=1 then some 1 else none
def dY(c:Wk b)(nm:Zb->eU b):Ty->eU b
 |.named d _,a=>nm d a
 |.plain h,a=>c.num (dy h) a
 |.opaq d f,a=>c.text d f a
 |.str d f,a=>c.text d f a
 |.arr g d f,a=>aA (c.bH d f a) λe=>hE (dY c nm g) e.1 e.2
 |.opt g,a=>aA (c.cg (dy 4) jK a) λe=>if e.1=1 then dY c nm g e.2 else .ok e.2
 |.void,a=>.ok a
def lQ(c:Wk b)(nm:Zb->eU b):List Ty->eU b
 |[],a=>.ok a
 |t::d,a=>aA (dY c nm t a) (lQ c nm d)
def iy(b:List (List Int×aU))(c:Int):Option Ty:=
 match b.reverse.find? (λa=>a.1.contains c)with
 |some a=>some a.2.H
 |none=>(b.reverse.find? (λa=>a.1.isEmpty)).map (·.2.H)
abbrev fB:=Zb->Option aD
def kN(a:fB):Ty->dJ
 |.named d _=>match a d with
  |some (.enum _ _ c)=>hn c
  |_=>yc
 |.plain b=>dy b
 |_=>yc
def tK(b:fB)(d:Ty)(c:List (List Int×aU))(a:Int):Option Nat:=if(kN b d).br a then (iy c a).map λe=>if kH e then 0 else 1 else none
def iA(c:Wk b)(f:fB)(nm:Zb->eU b):aD->eU b
 |.typedef i,a=>dY c nm i.H a
 |.enum _ _ d,a=>c.num (hn d) a
 |.struct _ _ d,a=>aA (c.bH d.length true a) λe=>lQ c nm (d.map (·.H)) e.2
 |.union _ _ h g,a=>aA (c.cg (kN f h.H) (tK f h.H g) a) λe=>match iy g e.1 with
  |some j=>dY c nm j e.2
  |none=>.error ⟨0,0⟩
 |_,_=>.error ⟨0,0⟩
def fo(a:Wk b)(d:fB):Nat->Nat->Zb->eU b
 |0,c,_,e=>aA (a.cW c e) λ_=>.error ⟨0,0⟩
 |g+1,c,i,e=>aA (a.cW c e) λf=>match d i with
  |some h=>iA a d (fo a d g (c+1)) h f
  |none=>.error ⟨0,0⟩
def qE(a:List cV)(d:Zb->Nat)(f:fB):Nat->Ty->Prop
 |p,.named b _=>a[p]?=some (.call (d b))/\(f b).isSome
 |p,.plain g=>a[p]?=some (.num (dy g))
 |p,.opaq b e=>a[p]?=some (.text b e)
 |p,.str b e=>a[p]?=some (.text b e)
 |p,.arr c b e=>a[p]?=some (.array b e (p+dO c+2))/\qE a d f (p+1) c/\a[p+1+dO c]?=some .again
 |p,.opt c=>a[p]?=some (.choice (dy 4) [(0,p+1+dO c,0),(1,p+1,1)] none)/\qE a d f (p+1) c
 |_,.void=>True
def Ai(a:List cV)(d:Zb->Nat)(b:fB):Nat->List Ty->Prop
 |_,[]=>True
 |p,c::e=>qE a d b p c/\Ai a d b (p+dO c) e
def yC(a:List Ty):Nat:=(a.map dO).sum
def Dg(a:List cV)(d:Zb->Nat)(f:fB)(b:Nat):aD->Prop
 |.typedef k=>qE a d f b k.H/\a[b+dO k.H]?=some .ret
 |.enum _ _ e=>a[b]?=some (.num (hn e))/\a[b+1]?=some .ret
 |.struct _ _ e=>a[b]?=some (.struct e.length true)/\Ai a d f (b+1) (e.map (·.H))/\a[b+1+yC (e.map (·.H))]?=some .ret
 |.union _ _ n m=>∃j h l,a[b]?=some (.choice (kN f n.H) j h)/\a[l]?=some .ret/\
   ∀g,match iy m g with
    |none=>bS j g=none/\h=none
    |some i=>∃c,(match bS j g with|some c=>some c|none=>h)=some c/\c.2=(if kH i then 0 else 1)/\qE a d f c.1 i/\a[c.1+dO i]?=some (.jump l)
 |_=>True
def jO(d:iE)(e:Except Mar.ac b):Except Mar.ac (iE×b):=match e with
 |.ok a=>.ok (d,a)
 |.error c=>.error c
theorem Du{e i j k f d}{g:eU b}(h:gu e a i f (jO j d))(l:∀c,d=.ok c->gu e a j c (jO k (g c))):gu e a i f (jO k (aA d g)):=by
 cases d with
 |error m=>exact h
 |ok c=>exact h.u (l c rfl)
theorem Wo(a:Int):(dy 4).br a=decide (a=0\/a=1):=by
 simp only[dJ.br,dy];grind
theorem Px(b c:Nat)(a:Int):eo (dy 4) [(0,b,0),(1,c,1)] none a=if a=0 then some (b,0)else if a=1 then some (c,1)else none:=by
 grind [eo,Wo,bS]
def Hs(a b:Nat):(λc=>(eo (dy 4) [(0,a,0),(1,b,1)] none c).map (·.2))=jK:=by
 grind [Px,jK]
def Wk.g9(c:Wk b):Prop:=∀f v d a e,c.cg f v d=.ok (a,e)->(v a).isSome
def uu{k}{l:fB}{nm:Zb->eU b}
  (o:∀h f e g,e.length<=c.length->(l h).isSome->a[f]?=some (.call (d h))->gu k a ⟨f,c,e⟩ g (jO ⟨f+1,c,e⟩ (nm h g))) :
  ∀(i:Ty) (f:Nat) (e:List (Nat×Nat)) (g:b),rV i->e.length<=c.length->qE a d l f i->gu k a ⟨f,c,e⟩ g (jO ⟨f+dO i,c,e⟩ (dY k nm i g)):=by
 intro i f e g r n j;cases i with
 |named h q=>exact o h f e g n j.2 j.1
 |plain s=>
  refine jh j Zq ?_;rfl
 |opaq h m=>
  refine jh j Zq ?_;rfl
 |str h m=>
  refine jh j Zq ?_;rfl
 |void=>exact Id k a _ g
 |arr p h m=>grind [rV]
 |opt p=>grind [rV]
def Gz{i:Wk b}(D:i.g9){x:fB}(G:c.length<=100){nm:Zb->eU b}
  (k:∀h e g f,g.length<=c.length->(x h).isSome->a[e]?=some (.call (d h))->gu i a ⟨e,c,g⟩ f (jO ⟨e+1,c,g⟩ (nm h f))) :
  ∀(o:Ty) (e:Nat) (g:List (Nat×Nat)) (f:b),ji o->g.length<c.length->qE a d x e o->gu i a ⟨e,c,g⟩ f (jO ⟨e+dO o,c,g⟩ (dY i nm o f)):=by
 intro o e g f v H l;cases o with
 |named h z=>exact uu k (.named h z) e g f trivial Zm l
 |plain u=>exact uu k (.plain u) e g f trivial Zm l
 |opaq h p=>exact uu k (.opaq h p) e g f trivial Zm l
 |str h p=>exact uu k (.str h p) e g f trivial Zm l
 |void=>exact uu k .void e g f trivial Zm l
 |arr n h p=>
  obtain⟨m,s,F⟩:=l;have y:¬1000<=g.length:=Zm;simp only[dY,dO];cases j:i.bH h p f with
  |error B=>
   refine jh m Zq ?_;simp only[fe,j,Y2 y];rfl
  |ok w=>
   obtain⟨mx,r⟩:=w;cases mx with
   |zero=>
    refine jh m Zq ?_;simp only[fe,j,Y2 y];rfl
   |succ mx=>
    have t:gu i a ⟨e,c,g⟩ f (.ok (⟨e+1,c,(e+1,mx+1)::g⟩,r)):=by
     simp_all[jh,fe]
    refine t.u ?_;clear t j;simp only[aA];have key:∀(q:Nat) (f:b),gu i a ⟨e+1,c,(e+1,q+1)::g⟩ f (jO ⟨e+(dO n+2),c,g⟩ (hE (dY i nm n) (q+1) f)):=by
     intro q;induction q with
     |zero=>
      intro f;unfold hE;refine Du (uu k n (e+1) _ f v Zg s) λA _=>?_;grind [jh,fe,jO,hE]
     |succ q J=>
      intro f;unfold hE;refine Du (uu k n (e+1) _ f v Zg s) λA _=>?_;grind [gu.u,jh,fe]
    simp_all
 |opt n=>
  obtain⟨m,s⟩:=l;simp only[dY,dO];cases j:i.cg (dy 4) jK f with
  |error B=>
   refine jh m Zq ?_;simp only[fe,Hs,j];rfl
  |ok w=>
   obtain⟨u,r⟩:=w;have I:=D _ _ _ _ _ j;by_cases C:u=0
   .subst C;refine jh m Zq ?_;simp only[fe,Hs,j];grind [Px,aA,jO]
   .by_cases E:u=1
    .subst E;have t:gu i a ⟨e,c,g⟩ f (.ok (⟨e+1,c,g⟩,r)):=by
      refine jh m Zq ?_;simp only[fe,Hs,j];rfl
     refine t.u ?_;have:=uu k n (e+1) g r v Zm s;grind [aA]
    grind [jK]
def adA{i:Wk b}(p:i.g9){l:fB}(n:c.length<=100){nm:Zb->eU b}
  (r:∀k f e g,e.length<=c.length->(l k).isSome->a[f]?=some (.call (d k))->gu i a ⟨f,c,e⟩ g (jO ⟨f+1,c,e⟩ (nm k g))) :
  ∀(h:List Ty) (f:Nat) (e:List (Nat×Nat)) (g:b),(∀j∈h,ji j)->e.length<c.length->Ai a d l f h->gu i a ⟨f,c,e⟩ g (jO ⟨f+yC h,c,e⟩ (lQ i nm h g)):=by
 intro h;induction h with
 |nil=>intro f e g _ _ _;exact Id i a _ g
 |cons j h u=>
  intro f e g q o ⟨m,t⟩;unfold lQ;refine Du (Gz p n r j f e g (q j Zq) o m) λs _=>?_;grind [yC]
def sA:aD->List Ty
 |.typedef b=>[b.H]
 |.struct _ _ c=>c.map (·.H)
 |.union _ _ _ a=>a.map (·.2.H)
 |_=>[]
def RM{a}{d:Int}{e}(b:iy a d=some e):e∈a.map (·.2.H):=by
 unfold iy at b;cases f:a.reverse.find? (λc=>c.1.contains d)with
 |some c=>
  grind
 |none=>
  rw[f]at b;simp only[Option.map_eq_some_iff]at b;grind
def adF{i:Wk b}(y:i.g9){o:fB}(a8:c.length+1<=100){g:Nat}{nm:Zb->eU b}
  (a2:∀k f e h,e.length<=c.length+1->(o k).isSome->a[f]?=some (.call (d k))->gu i a ⟨f,g::c,e⟩ h (jO ⟨f+1,g::c,e⟩ (nm k h)))
  (q:aD) (t:∀n m v,q≠.const n m v) (b1:∀n m v k,q≠.prog n m v k) (D:∀n∈sA q,ji n) (f:Nat) (e:List (Nat×Nat)) (a9:e.length<=c.length) (h:b) (p:Dg a d o f q):gu i a ⟨f,g::c,e⟩ h (jO ⟨g,c,e⟩ (iA i o nm q h)):=by
 have B:(g::c).length<=100:=Zm;have C:e.length<(g::c).length:=Zg;have F:∀k f e h,e.length<=(g::c).length->(o k).isSome->a[f]?=some (.call (d k))->gu i a ⟨f,g::c,e⟩ h (jO ⟨f+1,g::c,e⟩ (nm k h)):=λk f e h b3=>a2 k f e h Zm;have R:∀(j:Nat) (l:b),a[j]?=some .ret->gu i a ⟨j,g::c,e⟩ l (.ok (⟨g,c,e⟩,l)):=by
  grind [jh,fe]
 have x:∀(j:Nat) (z:Except Mar.ac b),a[j]?=some .ret->gu i a ⟨f,g::c,e⟩ h (jO ⟨j,g::c,e⟩ z)->gu i a ⟨f,g::c,e⟩ h (jO ⟨g,c,e⟩ z):=by
  intro j z M u;cases z with
  |error J=>exact u
  |ok l=>exact gu.u u (R j l M)
 cases q with
 |const n m v=>simp_all
 |prog n m v k=>grind
 |typedef m=>exact x _ _ p.2 (Gz y B F m.H f e h (D _ (by simp[sA])) C p.1)
 |enum n m N=>
  refine x _ _ p.2 (jh p.1 Zq ?_);rfl
 |struct n m N=>
  refine x _ _ p.2.2 ?_;simp only[iA];cases s:i.bH N.length true h with
  |error I=>
   refine jh p.1 Zq ?_;simp only[fe,s];rfl
  |ok j=>
   obtain⟨mx,l⟩:=j;have G:gu i a ⟨f,g::c,e⟩ h (.ok (⟨f+1,g::c,e⟩,l)):=by
    refine jh p.1 Zq ?_;simp only[fe,s]
   exact G.u (adA y B F _ (f+1) e l D C p.2.1)
 |union n m w A=>
  obtain⟨P,O,I,S,a0,a1⟩:=p;have a5:(λr=>(eo (kN o w.H) P O r).map (·.2))=tK o w.H A:=by
   funext r;grind [eo,tK]
  refine x I _ a0 ?_;simp only[iA];cases s:i.cg (kN o w.H) (tK o w.H A) h with
  |error J=>
   refine jh S Zq ?_;simp only[fe,a5,s];rfl
  |ok a6=>
   obtain⟨r,l⟩:=a6;have L:=y _ _ _ _ _ s;have K:=a1 r;unfold tK at L;split at L
   .rename_i b0;cases E:iy A r with
    |none=>simp_all
    |some H=>
     rw[E]at K;obtain⟨j,M,b2,a3,a4⟩:=K;have b4:eo (kN o w.H) P O r=some j:=by
      simp_all[eo]
     have G:gu i a ⟨f,g::c,e⟩ h (.ok (⟨j.1,g::c,e⟩,l)):=by
      grind [jh,fe]
     refine G.u ?_;simp only[aA,E];have t:=Gz y B F H j.1 e l (D H (RM E)) C a3;cases u:dY i nm H l with
     |error J=>rw[u]at t;exact t
     |ok a7=>
      rw[u]at t;refine gu.u t (jh a4 Zq ?_);rfl
   grind
def De(a:List cV)(d:Zb->Nat)(g:fB):Prop:=∀e b,g e=some b->(∀c f v,b≠.const c f v)/\(∀c f v e,b≠.prog c f v e)/\(∀c∈sA b,ji c)/\Dg a d g (d e) b
def adG{i:Wk b}(z:i.g9)(y:∀r e,64<=r->∃l,i.cW r e=.error l){k}(A:De a d k):∀(j:Nat) (c:List Nat) (g:Zb) (h:Nat) (f:List (Nat×Nat)) (e:b),64<=j+c.length->c.length<=70->j+c.length<=70->f.length<=c.length->(k g).isSome->a[h]?=some (.call (d g))->gu i a ⟨h,c,f⟩ e (jO ⟨h+1,c,f⟩ (fo i k j c.length g e)):=by
 intro j;induction j with
 |zero=>
  intro c g h f e F H I p _ m;obtain⟨l,E⟩:=y c.length e Zm;refine jh m Zq ?_;simp only[fe,fo,E,aA,Y2 (show ¬1000<=c.length by omega)];rfl
 |succ j L=>
  intro c g h f e F H I p C m;have G:¬1000<=c.length:=Zm;simp only[fo];cases B:i.cW c.length e with
  |error l=>
   refine jh m Zq ?_;simp only[fe,B,Y2 G];rfl
  |ok n=>
   have K:gu i a ⟨h,c,f⟩ e (.ok (⟨d g,(h+1)::c,f⟩,n)):=by
    simp_all[jh,fe]
   refine K.u ?_;obtain⟨o,q⟩:=Option.isSome_iff_exists.1 C;obtain⟨u,v,x,w⟩:=A g o q;simp only[aA,q];refine adF z Zm ?_ o u v x (d g) f p n w;intro M N s t O D J;have:=L ((h+1)::c) M N s t Zg Zg Zg Zm D J;omega
def NL{f:Wk b}(o:f.g9)(n:∀c e,64<=c->∃j,f.cW c e=.error j){h}(p:De a d h){g}{i:Nat}(l:(h g).isSome)(m:a[i]?=some (.call (d g)))(r:a[i+1]?=some .fin)(e:b):∃c,mG f a c ⟨i,[],[]⟩ e=some (fo f h 64 0 g e):=by
 obtain⟨c,k⟩:=adG o n p 64 [] g i [] e Zq Zq Zq Zq l m;cases s:fo f h 64 0 g e with
 |error j=>
  refine⟨0+c,k 0 _ ?_⟩;grind [jO]
 |ok q=>
  refine⟨1+c,k 1 _ ?_⟩;grind [jO,mG]
end
end
section
variable {b:fB}{a:Type}
def cD(B:Zb->Nat)(s:bb):List cV:=s.aJ.foldl (λb a=>b.set a.1 (.call (B a.2))) s.L
def Wf(s:bb):Prop:=∀a∈s.aJ,s.L[a.1]?=some (.call 0)
theorem KW(e:Nat×Zb->a):∀(c:List (Nat×Zb)) (b:List a),(c.foldl (λb d=>b.set d.1 (e d)) b).length=b.length:=by
 intro c;induction c<;>simp_all
theorem KV(f:Nat×Zb->a):∀(d:List (Nat×Zb)) (b e:List a),(∀c∈d,c.1<b.length)->d.foldl (λb c=>b.set c.1 (f c)) (b++e)=d.foldl (λb c=>b.set c.1 (f c)) b++e:=by
 intro d;induction d with
 |nil=>simp
 |cons c d h=>
  intro b e g;simp only[YY];grind
def VF(f:Nat×Zb->a)(e:Nat)(g:a):∀(d:List (Nat×Zb)) (c:List a),(∀b∈d,b.1≠e)->d.foldl (λc b=>c.set b.1 (f b)) (c.set e g)=(d.foldl (λc b=>c.set b.1 (f b)) c).set e g:=by
 intro d;induction d with
 |nil=>simp
 |cons b d j=>
  intro c i;simp only[YY];rw[List.set_comm _ _ (λh=>i b Zq h.symm)];simp_all
section
variable {B : Zb -> Nat} {s : bb}
theorem Wf.lt(b:Wf s):∀a∈s.aJ,a.1<s.L.length:=by
 intro a c;have:=b a c;grind
theorem vG:(cD B s).length=s.L.length:=KW ..
theorem Wf.aW(a:Wf s)(x:cV):Wf (bg x s):=by
 intro c b;have:=a c b;grind [bg]
theorem mB(b:Wf s)(a:cV):cD B (bg a s)=cD B s++[a]:=KV _ _ _ _ b.lt
def Wf.call(b:Wf s)(d:Zb):Wf (ke d s):=by
 intro c a;simp only[ke,Yn,Yc]at a ⊢;rcases a with a|rfl
 .rw[Ys (b.lt c a)];exact b c a
 simp
theorem LO(b:Wf s)(a:Zb):cD B (ke a s)=cD B s++[.call (B a)]:=by
 simp only[cD,ke,YS,YY,List.foldl_nil];simp_all[KV,Wf.lt,KW]
def ml(s:bb)(a:Nat):Prop:=∀b∈s.aJ,b.1≠a
def MS{a:Nat}{x}(b:Wf s)(g:s.L[a]?=some x)(f:x≠.call 0):ml s a:=by
 intro d c e;have:=b d c;simp_all
theorem Wf.aq{i}(d:Wf s)(e:ml s i)(f:cV):Wf (dD i f s):=by
 intro b a;simp only[dD];rw[List.getElem?_set_ne (λc=>e b a c.symm)];exact d b a
def Bv{a}(c:ml s a)(b:cV):cD B (dD a b s)=(cD B s).set a b:=VF _ a b _ _ c
def jP(B:Zb->Nat):Nat->Ty->List cV
 |_,.named a _=>[.call (B a)]
 |_,.plain d=>[.num (dy d)]
 |_,.opaq a b=>[.text a b]
 |_,.str a b=>[.text a b]
 |p,.arr c a b=>.array a b (p+dO c+2)::(jP B (p+1) c++[.again])
 |p,.opt c=>.choice (dy 4) [(0,p+1+dO c,0),(1,p+1,1)] none::jP B (p+1) c
 |_,.void=>[]
theorem sX(B:Zb->Nat)(a:Ty):∀b,(jP B b a).length=dO a:=by
 induction a<;>grind [jP,dO]
structure gF(s s':bb):Prop where
 wf:Wf s'
 bo:s'.b1=s.b1
 en:s'.cZ=s.cZ
 am:s.L.length<=s'.L.length
 op:∀i,i<s.L.length->ml s i->ml s' i
 bn:∀i,i<s.L.length->s'.L[i]?=s.L[i]?
theorem pE(a:Wf s)(x:cV):gF s (bg x s):=⟨a.aW x,rfl,rfl,by simp[bg],λc _ b=>b,λc d=>by grind [bg]⟩
def gF.call(c:Wf s)(b:Zb):gF s (ke b s):=by
 refine⟨c.call b,rfl,rfl,by simp[ke],?_,λf d=>by grind [ke]⟩;intro f d e g a;simp only[ke,Yn,Yc]at a;rcases a with a|rfl
 .exact e g a
 omega
theorem gF.u{e f}(a:gF s e)(b:gF e f):gF s f:=
 ⟨b.wf,b.bo.trans a.bo,b.en.trans a.en,Yz a.am b.am,λd c g=>b.op d (Yr c a.am) (a.op d c g),λd c=>(b.bn d (Yr c a.am)).trans (a.bn d c)⟩
theorem gF.aq{b}{i:Nat}(a:gF s b)(g:s.L.length<=i)(e:ml b i)(c:cV):gF s (dD i c b):=
 ⟨a.wf.aq e c,a.bo,a.en,by simpa[dD]using a.am,a.op,λf d=>by simp only[dD];rw[List.getElem?_set_ne Zm];exact a.bn f d⟩
def EY(a:Wf s):ml (bg .hole s) s.L.length:=MS (a.aW _) (x:=.hole) (by simp[bg]) Zq
def xg(B:Zb->Nat)(f:Ty):∀(s:bb),Wf s->cD B (dZ f s)=cD B s++jP B s.L.length f/\gF s (dZ f s):=by
 induction f with
 |named d p=>intro s a;exact⟨LO a d,gF.call a d⟩
 |plain q=>intro s a;exact⟨mB a _,pE a _⟩
 |opaq d l=>intro s a;exact⟨mB a _,pE a _⟩
 |str d l=>intro s a;exact⟨mB a _,pE a _⟩
 |void=>intro s a;exact⟨by simp[dZ,jP],a,rfl,rfl,Y4 _,λ_ _ o=>o,λ_ _=>rfl⟩
 |arr c d l k=>
  intro s a;have i:=a.aW .hole;obtain⟨j,b⟩:=k (bg .hole s) i;have g:(bg .hole s).L.length=s.L.length+1:=by simp[bg]
  have e:ml (dZ c (bg .hole s)) s.L.length:=b.op _ Zm (EY a);have h:=(pE a .hole).u (b.u (pE b.wf .again));have n:ml (bg .again (dZ c (bg .hole s))) s.L.length:=e;refine⟨?_,h.aq (Y4 _) n _⟩;simp only[dZ];rw[Bv n,mB b.wf,j,mB a,uE,g];have m:s.L.length=(cD B s).length:=vG.symm;rw[show cD B s++[cV.hole]++jP B (s.L.length+1) c++[cV.again]=cD B s++(cV.hole::(jP B (s.L.length+1) c++[cV.again])) by simp];rw[List.set_append_right _ _ Zm];simp only[jP,m,Nat.sub_self,List.set_cons_zero];grind
 |opt c k=>
  intro s a;have i:=a.aW .hole;obtain⟨j,b⟩:=k (bg .hole s) i;have g:(bg .hole s).L.length=s.L.length+1:=by simp[bg]
  have e:ml (dZ c (bg .hole s)) s.L.length:=b.op _ Zm (EY a);have h:=(pE a .hole).u b;refine⟨?_,h.aq (Y4 _) e _⟩;simp only[dZ];rw[Bv e,j,mB a,uE,g];have m:s.L.length=(cD B s).length:=vG.symm;simp_all[jP]
end
def mr(c:List cV)(d:Nat)(jy:List cV):Prop:=∀a b,jy[a]?=some b->c[d+a]?=some b
theorem mr.b7{b d}{a f:List cV}(g:mr b d (a++f)):mr b d a/\mr b (d+a.length) f:=by
 refine⟨λc e h=>g c e ?_,λc e h=>?_⟩
 .grind
 .rw[Nat.add_assoc];refine g (a.length+c) e ?_;grind
def mr.cons{a b}{c:cV}{d:List cV}(e:mr a b (c::d)):a[b]?=some c/\mr a (b+1) d:=by
 have f:mr a b ([c]++d):=e;obtain⟨g,h⟩:=f.b7;exact⟨by simpa using g 0 c Zq,Zm⟩
def Rt{a b jy post:List cV}(c:a=b++jy++post):mr a b.length jy:=by
 intro e f d;grind
def Au(b:fB)(c:Ty):Prop:=∀a∈gq c,(b a.1).isSome
theorem DP{j B}(f:Ty):∀(c:Nat),Au b f->mr j c (jP B c f)->qE j B b c f:=by
 induction f with
 |named e m=>intro c d a;exact⟨a.cons.1,d (e,m) (by simp[gq])⟩
 |plain p=>intro c _ a;exact a.cons.1
 |opaq e k=>intro c _ a;exact a.cons.1
 |str e k=>intro c _ a;exact a.cons.1
 |void=>intro c _ _;trivial
 |arr o e k i=>
  intro c d a;obtain⟨g,h⟩:=a.cons;obtain⟨n,l⟩:=h.b7;rw[sX]at l;exact⟨g,i _ d n,l.cons.1⟩
 |opt o i=>
  intro c d a;obtain⟨g,h⟩:=a.cons;exact⟨g,i _ d h⟩
def uv(B:Zb->Nat):Nat->List Ty->List cV
 |_,[]=>[]
 |p,a::b=>jP B p a++uv B (p+dO a) b
def adN(B:Zb->Nat):∀(a:List Ty) (b:Nat),(uv B b a).length=yC a:=by
 intro a;induction a<;>grind [uv,yC,sX]
def Sa{e B}:∀(d:List Ty) (a:Nat),(∀c∈d,Au b c)->mr e a (uv B a d)->Ai e B b a d:=by
 intro d;induction d with
 |nil=>intro a _ _;trivial
 |cons c d k=>
  intro a g h;obtain⟨i,f⟩:=h.b7;rw[sX]at f;exact⟨DP c a (g c Zq) i,k _ (λc j=>g c (Y5 _ j)) f⟩
def LN(B:Zb->Nat):∀(a:List Ty) (s:bb),Wf s->cD B (a.foldl (λs b=>dZ b s) s)=cD B s++uv B s.L.length a/\gF s (a.foldl (λs b=>dZ b s) s):=by
 intro a;induction a with
 |nil=>intro s c;exact⟨by simp[uv],c,rfl,rfl,Y4 _,λ_ _ f=>f,λ_ _=>rfl⟩
 |cons b a g=>
  intro s c;obtain⟨h,d⟩:=xg B b s c;obtain⟨i,e⟩:=g _ d.wf;refine⟨?_,d.u e⟩;grind [uE,uv]
abbrev pO(a:List Int×aU):Nat:=dO a.2.H+1
def gW(a:List (List Int×aU)):Nat:=(a.map pO).sum
def jb(B:Zb->Nat)(b:Nat):Nat->List (List Int×aU)->List cV
 |_,[]=>[]
 |p,a::c=>jP B p a.2.H++(.jump b::jb B b (p+pO a) c)
def pV:Nat->List (List Int×aU)->List Nat
 |_,[]=>[]
 |p,a::b=>(p+dO a.2.H)::pV (p+pO a) b
theorem GA(B:Zb->Nat)(d:Nat):∀(a:List (List Int×aU)) (b:Nat),(jb B d b a).length=gW a:=by
 intro a;induction a with
 |nil=>intro b;rfl
 |cons c a e=>intro b;have:=e (b+pO c);simp only[jb,gW,Yq,sX,YC,List.map_cons,List.sum_cons]at this ⊢;grind
theorem adO(B:Zb->Nat)(c:Nat)(d:List Int×aU):∀(a:List (List Int×aU)) (b:Nat),jb B c b (a++[d])=jb B c b a++(jP B (b+gW a) d.2.H++[.jump c]):=by
 intro a;induction a with
 |nil=>grind [jb,gW]
 |cons e a f=>
  intro b;simp only[YX,jb,f,YN];rw[show b+pO e+gW a=b+gW (e::a) by simp[gW];omega]
theorem UJ(c:List Int×aU):∀(a:List (List Int×aU)) (b:Nat),pV b (a++[c])=pV b a++[b+gW a+dO c.2.H]:=by
 intro a;induction a with
 |nil=>grind [pV,gW]
 |cons d a e=>
  intro b;simp only[YX,pV,e];rw[show b+pO d+gW a=b+gW (d::a) by simp[gW];omega]
theorem Sb{h B i}{f:List Int×aU}:∀(b d:List (List Int×aU)) (a:Nat),mr h a (jb B i a (b++f::d))->mr h (a+gW b) (jP B (a+gW b) f.2.H)/\h[a+gW b+dO f.2.H]?=some (.jump i):=by
 intro b;induction b with
 |nil=>
  intro d a c;simp only[YT,jb]at c;obtain⟨j,e⟩:=c.b7;rw[sX]at e;exact⟨by simpa[gW]using j,by simpa[gW]using e.cons.1⟩
 |cons g b k=>
  intro d a c;simp only[YX,jb]at c;have e:=c.b7.2.cons.2;rw[sX]at e;have:=k d (a+pO g) Zm;rw[show a+pO g+gW b=a+gW (g::b) by simp[gW];omega]at this;omega
theorem vN{e:Type}[DecidableEq e](v:a)(c b:e)(d:List (e×a)):bS (cM d b v) c=if c=b then some v else bS d c:=by
 unfold cM;split
 .rename_i f;induction d with
  |nil=>simp_all
  |cons n d h=>
   by_cases l:n.1=b
   .by_cases g:c=b
    .subst g;simp[bS,l]
    .have o:bS (d.map λi=>if i.1=b then (b,v)else i) c=bS d c:=by
      clear h f;induction d with
      |nil=>rfl
      |cons p d m=>
       unfold bS at m ⊢;grind
     have j:(b==c)=false:=Zg;simp_all[bS]
   .have k:b∈d.map (·.1):=by
     grind
    have:=h k;unfold bS at this ⊢;grind
 .rename_i f;by_cases g:c=b
  .grind [bS]
  .have j:(b==c)=false:=Zg;grind [bS]
def XM{b:Int}(v:Nat×Nat):∀(a:List Int) (c:List (Int×Nat×Nat)),bS (a.foldl (λa d=>cM a d v) c) b=if a.contains b then some v else bS c b:=by
 intro a;induction a with
 |nil=>simp
 |cons d a e=>
  intro c;simp only[YY];rw[e,vN];grind
def mI(g:Nat)(c:List (List Int×aU))(f:List Int×aU->Bool)(d:Option (Nat×Nat)):Prop:=
 match c.reverse.find? f with
 |none=>d=none
 |some a=>∃b e,c=b++a::e/\d=some (g+gW b,if kH a.2.H then 0 else 1)
theorem Pw{d b c e}(f:mI d b c e)(a:List Int×aU):mI d (b++[a]) c (if c a then some (d+gW b,if kH a.2.H then 0 else 1)else e):=by
 unfold mI at f ⊢;rw[List.reverse_append,List.reverse_singleton,List.singleton_append,List.find?_cons];grind
def Xu(B:Zb->Nat)(a:lM)(k:Wf a.s)(o:a.c5=[])(f:a.d2=none)(n:a.b4=[]):∀(d:Nat) (b:List (List Int×aU)),b.length=d->
  cD B (b.foldl ck a).s=cD B a.s++jb B 0 a.s.L.length b/\gF a.s (b.foldl ck a).s/\(b.foldl ck a).b4=pV a.s.L.length b/\
  (∀d,mI a.s.L.length b (λc=>c.1.contains d) (bS (b.foldl ck a).c5 d))/\mI a.s.L.length b (λc=>c.1.isEmpty) (b.foldl ck a).d2:=by
 intro d;induction d with
 |zero=>
  intro b h;have:b=[]:=Yv.1 h;subst this;exact⟨by simp[jb],⟨k,rfl,rfl,Y4 _,λ_ _ f=>f,λ_ _=>rfl⟩,by simp[pV,n],λd=>by simp[mI,o,bS],by simp[mI,f]⟩
 |succ d p=>
  intro b h;have i:b≠[]:=Zg;obtain⟨e,c,rfl⟩:∃e c,b=e++[c]:=⟨b.dropLast,b.getLast i,(List.dropLast_concat_getLast i).symm⟩;obtain⟨l,g,r,m,t⟩:=p e Zu;have u:(e.foldl ck a).s.L.length=a.s.L.length+gW e:=by
   have:=Yo List.length l;grind [vG,GA]
  obtain⟨v,j⟩:=xg B c.2.H (e.foldl ck a).s g.wf;have w:=uE c.2.H (e.foldl ck a).s;simp only[YS,YY,List.foldl_nil];refine⟨?_,?_,?_,?_,?_⟩
  .grind [ck,na,mB,gF.wf,adO]
  .exact g.u (j.u (pE j.wf _))
  .simp_all[ck,na,UJ]
  .intro q;simp only[ck];rw[XM];have:=Pw (m q) c;grind [rS]
  .simp only[ck];grind [Pw,rS]
def Xw(B:Zb->Nat)(e:Nat):∀(b:List (List Int×aU)) (a d:List cV) ,(pV a.length b).foldl (λf h=>f.set h (.jump e)) (a++(jb B 0 a.length b++d))=a++(jb B e a.length b++d):=by
 intro b;induction b with
 |nil=>intro a d;rfl
 |cons c b j=>
  intro a d;simp only[pV,jb,YY];have g:(a++(jP B a.length c.2.H++cV.jump 0::jb B 0 (a.length+pO c) b++d)).set (a.length+dO c.2.H) (.jump e)=(a++jP B a.length c.2.H++[cV.jump e])++(jb B 0 (a.length+pO c) b++d):=by
   simp_all[sX]
  rw[g];have i:(a++jP B a.length c.2.H++[cV.jump e]).length=a.length+pO c:=by grind [sX]
  grind
end
def UK(b:List Nat):∀(a:bb),(li b a).L=b.foldl (λe c=>e.set c (.jump a.L.length)) a.L/\(li b a).aJ=a.aJ/\(li b a).b1=a.b1/\(li b a).cZ=a.cZ:=by
 induction b with
 |nil=>intro a;exact⟨rfl,rfl,rfl,rfl⟩
 |cons c b j=>
  intro a;obtain⟨d,g,h,i⟩:=j (dD c (.jump a.L.length) a);have f:(dD c (.jump a.L.length) a).L.length=a.L.length:=by simp[dD]
  rw[f]at d;exact⟨d,g,h,i⟩
def Xx(d:Zb->Nat)(c:List Nat):∀(a:bb),(∀b∈c,ml a b)->cD d (li c a)=c.foldl (λf b=>f.set b (.jump a.L.length)) (cD d a):=by
 induction c with
 |nil=>intro a _;rfl
 |cons b c i=>
  intro a e;have g:(dD b (.jump a.L.length) a).L.length=a.L.length:=by simp[dD]
  have:=i (dD b (.jump a.L.length) a) (λj h=>e j (Y5 _ h));rw[g,Bv (e b Zq)]at this;exact this
def UW(c:List Nat):∀(b d:bb),gF b d->(∀a∈c,b.L.length<=a)->(∀a∈c,ml d a)->gF b (li c d):=by
 induction c with
 |nil=>intro b d e _ _;exact e
 |cons a c j=>
  intro b d e h i;exact j b _ (e.aq (h a Zq) (i a Zq) _) (λg f=>h g (Y5 _ f)) (λg f=>i g (Y5 _ f))
def UI:∀(a:List (List Int×aU)) (b:Nat),∀c∈pV b a,b<=c:=by
 intro a;induction a<;>grind [pV]
def UL(b:lM)(m:Wf b.s)(o:b.b4=[]):∀(e:Nat) (a:List (List Int×aU)),a.length=e->Wf (a.foldl ck b).s/\∀d∈(a.foldl ck b).b4,(a.foldl ck b).s.L[d]?=some (.jump 0):=by
 intro e;induction e with
 |zero=>
  simp_all
 |succ e l=>
  intro a h;have j:a≠[]:=Zg;obtain⟨c,f,rfl⟩:∃c f,a=c++[f]:=⟨a.dropLast,a.getLast j,(List.dropLast_concat_getLast j).symm⟩;obtain⟨k,n⟩:=l c Zu;obtain⟨_,i⟩:=xg (λ_=>0) f.2.H (c.foldl ck b).s k;simp only[YS,YY,List.foldl_nil];refine⟨i.wf.aW _,?_⟩;intro d g;simp only[ck,Yn,Yc]at g ⊢;rcases g with g|rfl
  .have h:d<(c.foldl ck b).s.L.length:=by
    grind
   simp only[bg,na];rw[Ys (Yr h i.am),i.bn d h];grind
  .simp[bg,na]
def LR(c:Zb->Nat)(d:aU)(b:List (List Int×aU))(a:bb)(h:Wf a):∃s q,cD c (rN d b a)=cD c a++(.choice (jz a d.H) s q::jb c (a.L.length+1+gW b) (a.L.length+1) b)/\gF a (rN d b a)/\
   (∀p,mI (a.L.length+1) b (λi=>i.1.contains p) (bS s p))/\mI (a.L.length+1) b (λi=>i.1.isEmpty) q:=by
 have n:=h.aW .hole;have u:(bg .hole a).L.length=a.L.length+1:=by simp[bg]
 obtain⟨j,g,k,l,m⟩:=Xu c ⟨bg .hole a,[],none,[]⟩ n rfl rfl rfl b.length b rfl;obtain⟨_,t⟩:=UL ⟨bg .hole a,[],none,[]⟩ n rfl b.length b rfl;simp only[u]at j g k l m;have r:ml (b.foldl ck ⟨bg .hole a,[],none,[]⟩).s a.L.length:=g.op _ Zm (EY h);have y:(b.foldl ck ⟨bg .hole a,[],none,[]⟩).s.L.length=a.L.length+1+gW b:=by
  have:=Yo List.length j;grind [vG,GA]
 have A:∀e∈(b.foldl ck ⟨bg .hole a,[],none,[]⟩).b4,a.L.length+1<=e:=by
  intro e f;rw[k]at f;exact UI _ _ e f
 have w:=((pE h .hole).u g).aq (Y4 _) r (.choice (jz a d.H) (b.foldl ck ⟨bg .hole a,[],none,[]⟩).c5 (b.foldl ck ⟨bg .hole a,[],none,[]⟩).d2);have o:∀e∈(b.foldl ck ⟨bg .hole a,[],none,[]⟩).b4,ml (dD a.L.length (.choice (jz a d.H) (b.foldl ck ⟨bg .hole a,[],none,[]⟩).c5 (b.foldl ck ⟨bg .hole a,[],none,[]⟩).d2) (b.foldl ck ⟨bg .hole a,[],none,[]⟩).s) e:=by
  intro e f;have x:ml (b.foldl ck ⟨bg .hole a,[],none,[]⟩).s e:=MS g.wf (t e f) Zq;exact x
 refine⟨_,_,?_,UW _ _ _ w (λe f=>by grind) o,l,m⟩;simp only[rN];rw[Xx c _ _ o,Bv r,j,mB h,k];have z:(dD a.L.length (.choice (jz a d.H) (b.foldl ck ⟨bg .hole a,[],none,[]⟩).c5 (b.foldl ck ⟨bg .hole a,[],none,[]⟩).d2) (b.foldl ck ⟨bg .hole a,[],none,[]⟩).s).L.length=a.L.length+1+gW b:=by simp[dD,y]
 rw[z];have B:a.L.length=(cD c a).length:=vG.symm;have v:(cD c a++[cV.hole]++jb c 0 (a.L.length+1) b).set a.L.length (.choice (jz a d.H) (b.foldl ck ⟨bg .hole a,[],none,[]⟩).c5 (b.foldl ck ⟨bg .hole a,[],none,[]⟩).d2)=(cD c a++[cV.choice (jz a d.H) (b.foldl ck ⟨bg .hole a,[],none,[]⟩).c5 (b.foldl ck ⟨bg .hole a,[],none,[]⟩).d2])++(jb c 0 (a.L.length+1) b++[]):=by
  simp_all
 rw[v];have C:(cD c a++[cV.choice (jz a d.H) (b.foldl ck ⟨bg .hole a,[],none,[]⟩).c5 (b.foldl ck ⟨bg .hole a,[],none,[]⟩).d2]).length=a.L.length+1:=Zg;have:=Xw c (a.L.length+1+gW b) b (cD c a++[cV.choice (jz a d.H) (b.foldl ck ⟨bg .hole a,[],none,[]⟩).c5 (b.foldl ck ⟨bg .hole a,[],none,[]⟩).d2]) [];simp_all
def Ib(a:fB)(b:aD):Prop:=∀c∈sA b,Au a c
def Rq(b:fB)(c:bb):aD->Prop
 |.union _ _ a _=>jz c a.H=kN b a.H
 |_=>True
def RN{c f q n e g h i}
  (r:∀d,mI f c (λa=>a.1.contains d) (bS q d)) (s:mI f c (λa=>a.1.isEmpty) n) (z:mr e f (jb g i f c)) (y:∀a∈c,Au h a.2.H) (d:Int) :
  match iy c d with
    |none=>bS q d=none/\n=none
    |some o=>∃b,(match bS q d with|some b=>some b|none=>n)=some b/\b.2=(if kH o then 0 else 1)/\qE e g h b.1 o/\e[b.1+dO o]?=some (.jump i):=by
 have k:=r d;have key:∀(j:List Int×aU->Bool) (p:Option (Nat×Nat)) (a:List Int×aU),c.reverse.find? j=some a->mI f c j p->∃b,p=some b/\b.2=(if kH a.2.H then 0 else 1)/\qE e g h b.1 a.2.H/\e[b.1+dO a.2.H]?=some (.jump i):=by
  intro j p a l m;unfold mI at m;rw[l]at m;obtain⟨u,v,w,t⟩:=m;refine⟨_,t,rfl,?_⟩;grind [Sb,DP]
 unfold iy;cases l:c.reverse.find? (λa=>a.1.contains d)with
 |some a=>
  grind
 |none=>
  unfold mI at k;rw[l]at k;simp only[k];cases x:c.reverse.find? (λa=>a.1.isEmpty)with
  |none=>
   unfold mI at s;grind
  |some a=>
   grind
def LP(B:Zb->Nat)(c:aD)(a:bb)(o:Wf a)(t:eh c=true):∃jy,cD B (hP c a)=cD B a++jy/\Wf (hP c a)/\(hP c a).b1=cM a.b1 (cd c).1 a.L.length/\
   (∀(i:List cV) (e:fB),mr i a.L.length jy->Ib e c->Rq e a c->Dg i B e a.L.length c):=by
 cases c with
 |const g l v=>simp[eh]at t
 |prog g l v F=>simp[eh]at t
 |typedef c=>
  obtain⟨h,d⟩:=xg B c.H a o;refine⟨jP B a.L.length c.H++[.ret],?_,d.wf.aW _,?_,?_⟩
  .have:=mB (B:=B) d.wf .ret;simp_all[hP,lf,cD]
  .simp only[hP,lf,d.bo];rfl
  .intro i e f p _;obtain⟨j,k⟩:=f.b7;rw[sX]at k;exact⟨DP _ _ (p c.H (by simp[sA])) j,k.cons.1⟩
 |enum g l b=>
  have h:Wf { a with cZ:=cM a.cZ g (hn b) }:=o;refine⟨[.num (hn b),.ret],?_,(h.aW _).aW _,rfl,?_⟩
  .simp only[hP,lf];show cD B (bg .ret (bg (.num (hn b)) { a with cZ:=cM a.cZ g (hn b) }))=_;rw[mB (h.aW _),mB h];grind [cD]
  .intro i e f _ _;exact⟨f.cons.1,f.cons.2.cons.1⟩
 |struct g l b=>
  have x:(bg (.struct b.length true) a).L.length=a.L.length+1:=by simp[bg]
  obtain⟨h,d⟩:=LN B (b.map (·.H)) (bg (.struct b.length true) a) (o.aW _);have s:tc b a=(b.map (·.H)).foldl (λa g=>dZ g a) (bg (.struct b.length true) a):=by
   grind [tc,List.foldl_map]
  rw[x]at h;have y:=(pE o (.struct b.length true)).u d;refine⟨.struct b.length true::(uv B (a.L.length+1) (b.map (·.H))++[.ret]),?_,?_,?_,?_⟩
  .simp only[hP,lf];show cD B (bg .ret (tc b a))=_;grind [mB,gF.wf]
  .show Wf (bg .ret (tc b a));rw[s];exact d.wf.aW _
  .simp only[hP,lf];rw[s,y.bo];rfl
  .intro i e f p _;obtain⟨j,k⟩:=f.cons;obtain⟨r,n⟩:=k.b7;rw[adN]at n;exact⟨j,Sa _ _ p r,n.cons.1⟩
 |union g l q m=>
  obtain⟨w,u,h,d,z,A⟩:=LR B q m a o;refine⟨.choice (jz a q.H) w u::(jb B (a.L.length+1+gW m) (a.L.length+1) m++[.ret]),?_,?_,?_,?_⟩
  .simp only[hP,lf];show cD B (bg .ret (rN q m a))=_;grind [mB,gF.wf]
  .exact d.wf.aW _
  .simp only[hP,lf,d.bo];rfl
  .intro i e f p C;obtain⟨j,k⟩:=f.cons;obtain⟨r,n⟩:=k.b7;rw[GA]at n;have D:jz a q.H=kN e q.H:=C;rw[D]at j;exact⟨w,u,a.L.length+1+gW m,j,n.cons.1,RN z A r (λl E=>p _ (by simp[sA];grind))⟩
def Uc(d:aD)(a:bb)(g:Wf a)(e:Zb):bS (hP d a).cZ e=match d with
  |.enum c _ b=>if e=c then some (hn b)else bS a.cZ e
  |_=>bS a.cZ e:=by
 cases d with
 |enum c f b=>exact vN ..
 |const c f v=>rfl
 |prog c f v e=>rfl
 |typedef d=>simp only[hP,lf,bg,(xg (λ_=>0) d.H a g).2.en]
 |struct c f b=>
  have i:tc b a=(b.map (·.H)).foldl (λa c=>dZ c a) (bg (.struct b.length true) a):=by grind [tc,List.foldl_map]
  simp only[hP,lf,bg,i];have:=((pE g (.struct b.length true)).u (LN (λ_=>0) (b.map (·.H)) (bg (.struct b.length true) a) (g.aW _)).2).en;grind [bg]
 |union c f j h=>
  obtain⟨m,l,_,k,_⟩:=LR (λ_=>0) j h a g;grind [hP,lf,bg,gF.en]
def Kv{a:aD}(c:eh a=false)(b:bb):hP a b=b:=by cases a<;>simp[eh]at c<;>rfl
def Kd(z:Zb->Nat):∀(v:Nat) (h:List aD),h.length=v->
  Wf (el h)/\(∀p,(∀d∈h,eh d=true->(cd d).1≠p)->bS (el h).b1 p=none)/\
  (∀b d a,h=b++d::a->eh d=true->(∀e∈a,eh e=true->(cd e).1≠(cd d).1)->bS (el h).b1 (cd d).1=some (el b).L.length)/\
  (∀b a,h=b++a->∃C,cD z (el h)=cD z (el b)++C)/\
  (∀b q s r a,h=b++aD.enum q s r::a->(∀e∈a,eh e=true->(cd e).1≠q)->bS (el h).cZ q=some (hn r)):=by
 intro v;induction v with
 |zero=>
  intro h w;have:h=[]:=Yv.1 w;subst this;refine⟨(by intro v K;cases K),λp _=>rfl,?_,?_,?_⟩;all_goals simp
 |succ v N=>
  intro h w;have y:h≠[]:=by intro e;subst e;simp at w
  obtain⟨l,i,rfl⟩:∃l i,h=l++[i]:=⟨h.dropLast,h.getLast y,(List.dropLast_concat_getLast y).symm⟩;obtain⟨A,E,F,G,H⟩:=N l (by simpa using w);rw[yM];have split:∀(b:List aD) (d:aD) (a:List aD),l++[i]=b++d::a->(a=[]/\d=i/\b=l)\/∃c,a=c++[i]/\l=b++d::c:=by
   intro b d a g;by_cases f:a=[]
   .subst f;obtain⟨n,t⟩:=List.append_inj' g rfl;simp at t;exact Y8 ⟨rfl,t.symm,n.symm⟩
   .obtain⟨c,k,rfl⟩:∃c k,a=c++[k]:=⟨a.dropLast,a.getLast f,(List.dropLast_concat_getLast f).symm⟩;have j:l++[i]=(b++d::c)++[k]:=by rw[g];simp
    obtain⟨n,t⟩:=List.append_inj' j rfl;simp at t;exact Ya ⟨c,by rw[t],n⟩
  cases m:eh i with
  |false=>
   rw[Kv m];refine⟨A,?_,?_,?_,?_⟩
   .intro p x;exact E p (λd B=>x d (Yf _ B))
   .intro b d a g u f;rcases split b d a g with⟨_,rfl,_⟩|⟨c,rfl,j⟩
    .rw[m]at u;cases u
    .exact F b d c j u (λe o=>f e (Yf _ o))
   .intro b a g;by_cases f:a=[]
    .subst f;refine⟨[],?_⟩;simp at g;rw[<-g,yM,Kv m];simp
    .obtain⟨c,k,rfl⟩:∃c k,a=c++[k]:=⟨a.dropLast,a.getLast f,(List.dropLast_concat_getLast f).symm⟩;have j:l++[i]=(b++c)++[k]:=by rw[g];simp
     obtain⟨n,_⟩:=List.append_inj' j rfl;exact G b c n
   .intro b q s r a g f;rcases split b _ a g with⟨_,rfl,_⟩|⟨c,rfl,j⟩
    .simp[eh]at m
    .exact H b q s r c j (λe o=>f e (Yf _ o))
  |true=>
   obtain⟨jy,I,J,D,P⟩:=LP z i (el l) A m;refine⟨J,?_,?_,?_,?_⟩
   .intro p x;rw[D,vN,Y2 (λe=>x i Zq m e.symm)];exact E p (λd B=>x d (Yf _ B))
   .intro b d a g u f;rw[D,vN];rcases split b d a g with⟨_,rfl,rfl⟩|⟨c,rfl,j⟩
    .simp
    .rw[Y2 (λe=>f i Zq m e.symm)];exact F b d c j u (λe o=>f e (Yf _ o))
   .intro b a g;by_cases f:a=[]
    .subst f;refine⟨[],?_⟩;simp at g;rw[<-g,yM];simp
    .obtain⟨c,k,rfl⟩:∃c k,a=c++[k]:=⟨a.dropLast,a.getLast f,(List.dropLast_concat_getLast f).symm⟩;have j:l++[i]=(b++c)++[k]:=by rw[g];simp
     obtain⟨n,_⟩:=List.append_inj' j rfl;obtain⟨C,M⟩:=G b c n;exact⟨C++jy,by rw[I,M];simp⟩
   .intro b q s r a g f;rw[Uc i _ A];rcases split b _ a g with⟨_,rfl,rfl⟩|⟨c,rfl,j⟩
    .simp
    .have L:=H b q s r c j (λe o=>f e (Yf _ o));have y:=f i Zq m;cases i with
     |enum S O R=>
      simp only;rw[Y2 (λe=>y (by rw[e];rfl))];omega
     |_=>exact L
section
variable {c:aD}{b:List aD}{n:Zb}{d:Type}
def Xt(a:bb):(vF a).L=cD (λn=>(bS a.b1 n).getD 0) a:=by
 have key:∀(d:List (Nat×Zb)) (c:bb),c.b1=a.b1->(d.foldl (λa b=>dD b.1 (.call ((aP a.b1 b.2).getD 0)) a) c).L=d.foldl (λf b=>f.set b.1 (.call ((bS a.b1 b.2).getD 0))) c.L:=by
  intro d;induction d with
  |nil=>simp
  |cons b d g=>
   intro c e;simp only[YY];rw[g (dD b.1 (.call ((aP c.b1 b.2).getD 0)) c) e,e,zh];rfl
 exact key a.aJ a rfl
def aeI(d:Zb->Nat)(b:bb)(u:Wf b):∀(j:Nat) (a:List aD),a.length=j->
  Wf (a.foldl eH (b,[])).1/\(a.foldl eH (b,[])).1.b1=b.b1/\(∃l,cD d (a.foldl eH (b,[])).1=cD d b++l)/\
  (∀n f,bS (a.foldl eH (b,[])).2 n=some f->(cD d (a.foldl eH (b,[])).1)[f]?=some (.call (d n))/\(cD d (a.foldl eH (b,[])).1)[f+1]?=some .fin/\(bS b.b1 n).isSome)/\
  (∀c∈a,(bS b.b1 (cd c).1).isSome->(bS (a.foldl eH (b,[])).2 (cd c).1).isSome):=by
 intro j;induction j with
 |zero=>
  intro a i;have:a=[]:=Yv.1 i;subst this;exact⟨u,rfl,⟨[],Zq⟩,(by intro n f t;cases t),Zq⟩
 |succ j y=>
  intro a i;have r:a≠[]:=Zg;obtain⟨g,e,rfl⟩:∃g e,a=g++[e]:=⟨a.dropLast,a.getLast r,(List.dropLast_concat_getLast r).symm⟩;obtain⟨m,h,⟨l,p⟩,q,v⟩:=y g Zu;rw[YS];simp only[YY,List.foldl_nil];generalize g.foldl eH (b,[])=k at m h p q v ⊢;unfold eH;rw[zh,h];cases w:(bS b.b1 (cd e).1).isSome with
  |false=>
   simp only[Ye,if_false]
   refine⟨m,h,⟨l,p⟩,q,?_⟩;grind
  |true=>
   simp only[if_true]
   have z:=m.call (cd e).1;have s:cD d (zN (cd e).1 k.1)=cD d k.1++[.call (d (cd e).1),.fin]:=by
    grind [zN,mB,LO]
   have i:(cD d k.1).length=k.1.L.length:=vG;refine⟨z.aW _,h,⟨l++[.call (d (cd e).1),.fin],Zu⟩,?_,?_⟩
   .intro n f o;rw[vN]at o;rw[s];split at o
    .rename_i x;subst x;cases o
     refine⟨?_,?_,w⟩
     .grind
     .rw[Yw Zm,i];simp
    grind
   .intro c A B;rw[vN];split
    .rfl
    grind
theorem HP{a}(b:Wf a):gF a a:=⟨b,rfl,rfl,Y4 _,λ_ _ c=>c,λ_ _=>rfl⟩
def LQ(b:Zb->Nat)(c:Ty)(a:bb)(e:Wf a):gF a (ot c a)/\cD b (ot c a)=cD b a++(jP b a.L.length c++[.fin]):=by
 obtain⟨f,d⟩:=xg b c a e;refine⟨d.u (pE d.wf _),?_⟩;grind [ot,mB,gF.wf]
def EQ{i:Type}(f:Zb->Nat)(c:bb×d->i->bb×d)(l:∀a b,Wf a.1->gF a.1 (c a b).1/\∃g,cD f (c a b).1=cD f a.1++g):∀(e:List i) (a:bb×d),Wf a.1->gF a.1 (e.foldl c a).1/\∃g,cD f (e.foldl c a).1=cD f a.1++g:=by
 intro e;induction e with
 |nil=>simp_all[HP]
 |cons b e m=>
  intro a j;obtain⟨h,n,p⟩:=l a b j;obtain⟨k,o,q⟩:=m (c a b) h.wf;exact⟨h.u k,n++o,Zu⟩
def ab5(c:Zb->Nat)(a:bb×List (Int×Nat×Nat))(b:gJ)(g:Wf a.1):gF a.1 (lW a b).1/\∃i,cD c (lW a b).1=cD c a.1++i:=by
 obtain⟨d,e⟩:=LQ c b.c0 a.1 g;obtain⟨h,f⟩:=LQ c b.cw _ d.wf;exact⟨d.u h,_,by show cD c (ot b.cw (ot b.c0 a.1))=_;rw[f,e,YN]⟩
def agI(b:Zb->Nat)(a:bb×jj)(v:gh)(c:Wf a.1):gF a.1 (mH a v).1/\∃d,cD b (mH a v).1=cD b a.1++d:=EQ b lW (ab5 b) v.ao (a.1,[]) c
def acd(b:Zb->Nat)(a:bb×List (Int×jj))(c:aD)(d:Wf a.1):gF a.1 (hD a c).1/\∃e,cD b (hD a c).1=cD b a.1++e:=by
 cases c with
 |prog i g f h=>exact EQ b mH (agI b) f (a.1,_) d
 |_=>exact⟨HP d,[],by simp[hD]⟩
def ack(c:Zb->Nat)(b:List aD)(a:bb)(d:Wf a):gF a (b.foldl hD (a,[])).1/\∃e,cD c (b.foldl hD (a,[])).1=cD c a++e:=EQ c hD (acd c) b (a,[]) d
def dG(b:List aD):fB:=λn=>b.find? λc=>eh c&&decide ((cd c).1=n)
def EG(a:dG b n=some c):eh c=true/\(cd c).1=n/\∃e f,b=e++c::f:=by
 unfold dG at a;have d:=List.find?_some a;simp only[Bool.and_eq_true,decide_eq_true_eq]at d;exact⟨d.1,d.2,List.append_of_mem (List.mem_of_find?_eq_some a)⟩
def KK(a:dG b n=none):∀c∈b,eh c=true->(cd c).1≠n:=by
 grind [dG]
structure mY(b:List aD):Prop where
 nd:∀az c bs,b=az++c::bs->eh c=true->∀e∈bs,eh e=true->(cd e).1≠(cd c).1
 h3:∀c∈b,eh c=true->Ib (dG b) c
 hu:∀az t a s arms bs n a',b=az++aD.union t a s arms::bs->s.H=.named n a'->∃as1 a2 ms as2,az=as1++aD.enum n a2 ms::as2
 lp:∀t a s arms,aD.union t a s arms∈b->hx s.H
 e6:∀c∈b,∀t∈sA c,ji t
def mY.hg(i:mY b){d e:List aD}(j:b=d++c::e)(l:eh c=true):dG b (cd c).1=some c:=by
 unfold dG;rw[j,List.find?_append];have:d.find? (λa=>eh a&&decide ((cd a).1=(cd c).1))=none:=by
  rw[List.find?_eq_none];intro a k f;simp only[Bool.and_eq_true,decide_eq_true_eq]at f;obtain⟨g,h,rfl⟩:=List.append_of_mem k;have:=i.nd g a (h++c::e) Zu f.1 c Zq l;simp_all
 grind
def VS{b e:List d}{a:Nat}{c}(f:b[a]?=some c):(b++e)[a]?=some c:=by
 grind
def Ho(f:mY b):∃d,De (ff b).1 d (dG b)/\∀n,match bS (ff b).2 n with
  |none=>dG b n=none
  |some o=>(dG b n).isSome/\(ff b).1[o]?=some (.call (d n))/\(ff b).1[o+1]?=some .fin:=by
 refine⟨λn=>(bS (el b).b1 n).getD 0,?_⟩;obtain⟨G,H,w,I,_⟩:=Kd (λn=>(bS (el b).b1 n).getD 0) b.length b rfl;obtain⟨a5,a6,⟨D,b3⟩,a7,b4⟩:=aeI (λn=>(bS (el b).b1 n).getD 0) (el b) G b.length b rfl;obtain⟨t,E,N⟩:=ack (λn=>(bS (el b).b1 n).getD 0) b (b.foldl eH (el b,[])).1 a5;have R:(ff b).1=cD (λn=>(bS (el b).b1 n).getD 0) (b.foldl eH (el b,[])).1++E:=by
  show (vF (b.foldl hD ((b.foldl eH (el b,[])).1,[])).1).L=_;rw[Xt,t.bo,a6,N]
 have a2:(ff b).2=(b.foldl eH (el b,[])).2:=rfl;rw[R,a2];generalize b0:(λn=>(bS (el b).b1 n).getD 0)=d at *
 refine⟨?_,?_⟩
 .intro n g O;obtain⟨i,a0,a,e,h⟩:=EG O;refine⟨?_,?_,f.e6 g Zg,?_⟩
  .grind [eh]
  .grind [eh]
  .have a1:=w a g e h i (f.nd a g e h i);have z:d n=(el a).L.length:=by
    grind
   rw[z];obtain⟨a8,_,_,_,a9⟩:=Kd d a.length a rfl;obtain⟨jy,t,x,y,M⟩:=LP d g (el a) a8 i;obtain⟨a4,b1⟩:=I (a++[g]) e Zg;refine M _ _ ?_ (f.h3 g Zg i) ?_
   .have:(cD d (el a)).length=(el a).L.length:=vG;rw[<-this];refine Rt (post:=a4++D++E) ?_;grind [yM]
   .cases g with
    |union u p k r=>
     show jz (el a) k.H=kN (dG b) k.H;have B:=f.lp u p k r (by rw[h];simp);cases C:k.H with
     |named j F=>
      obtain⟨s,q,m,v,P⟩:=f.hu a u p k r e j F h C;have A:b=s++aD.enum j q m::(v++aD.union u p k r::e):=Zg;have K:dG b j=some (.enum j q m):=f.hg A rfl;have L:bS (el a).cZ j=some (hn m):=a9 s j q m v P (λJ l a3=>f.nd s _ _ A rfl J (Yf _ l) a3);simp only[jz,kN,K,zh,L,Option.getD_some]
     |plain b2=>rfl
     |_=>rw[C]at B;simp[hx]at B
    |_=>trivial
 .intro n;cases S:bS (b.foldl eH (el b,[])).2 n with
  |some o=>
   obtain⟨t,x,y⟩:=a7 n o S;have z:d n=(bS (el b).b1 n).getD 0:=Zg;refine⟨?_,Zg,VS x⟩;cases l:dG b n with
   |some c=>rfl
   |none=>
    rw[H n (KK l)]at y;grind
  |none=>
   show dG b n=none;cases l:dG b n with
   |none=>rfl
   |some c=>
    obtain⟨i,a0,a,e,h⟩:=EG l;have a1:=w a c e h i (f.nd a c e h i);grind
end
section
variable {E:fB}{c:Bool}{n:dJ}{h k:Type}
structure kB where
 w:Nat
 n:Int
 s:Zb
 am:Nat
 y:Nat
structure bP where
 aa:Nat
 a0:List kB
def du(b:Zb):Nat:=b.foldl (λn a=>n*256+a.toNat) 0
def fM(n:dJ)(v:Nat):Int:=if n.c4<0 then (if v<2147483648 then (v:Int)else (v:Int)-4294967296)else v
def lq(v:Nat):Int:=if v<9223372036854775808 then (v:Int)else (v:Int)-18446744073709551616
def cy(n:Nat):Nat:=(n+3) / 4*4
section
variable (b : Zb)
def md(c:Nat)(a:bP):Except Mar.ac (Zb×bP):=if b.length<a.aa+c then .error ⟨16,a.aa⟩else .ok ((b.drop a.aa).take c,{ a with aa:=a.aa+c })
def jf(c:bP):Except Mar.ac (Nat×bP):=aA (md b 4 c) λa=>.ok (du a.1,a.2)
def nF(n:dJ)(c:bP):Except Mar.ac (Int×bP):=
 if n.bB then aA (md b 8 c) λa=>.ok (lq (du a.1),a.2)else aA (jf b c) λa=>.ok (fM n a.1,a.2)
def ie(n:Int)(c:Bool)(a:bP):Except Mar.ac (Nat×bP):=
 if c then .ok (n.toNat,a)else aA (jf b a) λd=>if(d.1:Int)<=n then .ok d else .error ⟨19,a.aa⟩
def iV:Nat->Zb->Option Nat
 |_,[]=>none
 |i,a::b=>if a=0 then iV (i+1) b else some i
def qm(n:Nat)(c:bP):Except Mar.ac (Zb×bP):=aA (md b (cy n) c) λa=>match iV n (a.1.drop n)with
 |some d=>.error ⟨17,c.aa+d⟩
 |none=>.ok (a.1.take n,a.2)
def dq(b:kB)(a:bP):bP:={ a with a0:=a.a0++[b] }
variable (m j : Nat)
def ft(a:bP):Except Mar.ac bP:=if j<=a.a0.length then .error ⟨15,a.aa⟩else .ok a
def bk:Wk bP where
 cW e a:=if m<=e then .error ⟨13,a.aa⟩else .ok a
 num n a:=aA (ft j a) λa=>aA (nF b n a) λd=>if n.br d.1 then .ok (dq ⟨1,d.1,[],0,0⟩ d.2)else .error ⟨18,a.aa⟩
 text n c a:=aA (ft j a) λa=>aA (ie b n c a) λd=>aA (qm b d.1 d.2) λf=>.ok (dq ⟨2,0,f.1,0,d.2.aa⟩ f.2)
 bH n c a:=aA (ft j a) λa=>aA (ie b n c a) λd=>.ok (d.1,dq ⟨3,0,[],d.1,0⟩ d.2)
 cg n v a:=aA (ft j a) λa=>aA (jf b a) λd=>match v (fM n d.1)with
  |none=>.error ⟨18,a.aa⟩
  |some e=>.ok (fM n d.1,dq ⟨4,fM n d.1,[],e,0⟩ d.2)
end
def pf(E:fB)(n:Zb)(b:Zb)(m j c:Nat):Except Mar.ac (List kB):=
 if c<b.length then .error ⟨14,0⟩else aA (fo (bk b m j) E 64 0 n ⟨0,[]⟩) λa=>if a.aa<b.length then .error ⟨20,a.aa⟩else .ok a.a0
def bX{b}{c:h->Except Mar.ac k}{e}(d:aA b c=.ok e):∃a,b=.ok a/\c a=.ok e:=by
 cases b with
 |error f=>cases d
 |ok a=>exact⟨a,rfl,d⟩
abbrev Av(a:kB):Nat×Int×Zb×Nat:=(a.w,a.n,a.s,a.am)
def jy(a:Zb)(b c:Nat):Zb:=(a.drop b).take (c-b)
def CA(a:Zb){c b d:Nat}(f:c<=b)(g:b<=d):jy a c b++jy a b d=jy a c d:=by
 unfold jy;have e:d-c=(b-c)+(d-b):=Zm;simp_all[List.take_add]
structure rX(a:Zb)(d d':bP)(N:List kB):Prop where
 a0:d'.a0=d.a0++N
 le:d.aa<=d'.aa
 j2:d.aa<=a.length->d'.aa<=a.length
def oM(a b:Zb)(c o:bP->Except Mar.ac (h×bP)):Prop:=∀f i g j k l,c f=.ok (k,g)->o i=.ok (l,j)->∃e d,rX a f g e/\rX b i j d/\
 ∀m n,e.map Av++m=d.map Av++n->e.map Av=d.map Av/\k=l/\jy a f.aa g.aa=jy b i.aa j.aa
def bQ(c:eU bP):bP->Except Mar.ac (Unit×bP):=λa=>aA (c a) λb=>.ok ((),b)
abbrev Ii(a b:Zb)(c d:eU bP):Prop:=oM a b (bQ c) (bQ d)
theorem rO{c}{a b:bP}{d:Unit}:bQ c a=.ok (d,b)↔c a=.ok b:=by
 unfold bQ;cases c a<;>simp[aA]
theorem rX.u{a f g h e d}(b:rX a f g e)(c:rX a g h d):rX a f h (e++d):=
 ⟨by rw[c.a0,b.a0];simp,Yz b.le c.le,λi=>c.j2 (b.j2 i)⟩
def abO{a b c A}{t u:h->bP->Except Mar.ac (k×bP)}(L:oM a b c A)(M:∀g,oM a b (t g) (u g))(N:∀g o d m i j b0 v,t g d=.ok (b0,i)->u o m=.ok (v,j)->∃q p,rX a d i q/\rX b m j p):oM a b (λd=>aA (c d) λl=>t l.1 l.2) (λd=>aA (A d) λl=>u l.1 l.2):=by
 intro d m i j g o S a0;obtain⟨⟨x,r⟩,P,B⟩:=bX S;obtain⟨⟨E,s⟩,R,C⟩:=bX a0;obtain⟨q,p,f,D,a1⟩:=L d m r s x E P R;obtain⟨z,y,e,w⟩:=N x E r s i j g o B C;refine⟨q++z,p++y,f.u e,D.u w,?_⟩;intro H I n;simp only[List.map_append,YN]at n;obtain⟨a5,a6,a7⟩:=a1 _ _ n;rw[a5]at n;have O:=List.append_cancel_left n;subst a6;obtain⟨G,F,a4,a3,a2⟩:=M x r s i j g o B C;have K:z=G:=List.append_cancel_left (e.a0.symm.trans a4.a0);have J:y=F:=List.append_cancel_left (w.a0.symm.trans a3.a0);subst K;subst J;obtain⟨b1,a8,a9⟩:=a2 H I O;refine⟨Zu,a8,?_⟩;rw[<-CA a f.le e.le,<-CA b D.le w.le,a7,a9]
def Dj(a:Zb)(c:bP->Except Mar.ac (h×bP)):Prop:=∀b d f,c b=.ok (f,d)->∃e,rX a b d e
def oM.kt{a:Zb}{c:bP->Except Mar.ac (h×bP)}(g:oM a a c c):Dj a c:=λb d f e=>by
 obtain⟨j,i,k,_⟩:=g b b d d f f e e;grind
theorem uz{a e}{c b:bP}{f:Zb}(d:md a e c=.ok (f,b)):f=jy a c.aa b.aa/\b.aa=c.aa+e/\b.a0=c.a0/\b.aa<=a.length/\f.length=e:=by
 unfold md at d;split at d
 .cases d
 .cases d
  refine⟨by unfold jy;simp,rfl,rfl,Zu,?_⟩;grind
theorem DT{c d:Zb}(l:c.length=4)(m:d.length=4)(k:du c=du d):c=d:=by
 match c,d,l,m with
 |[a,b,g,i],[e,f,h,j],_,_=>
  simp only[du,YY,List.foldl_nil]at k;have:=a.toNat_lt;have:=b.toNat_lt;have:=g.toNat_lt;have:=i.toNat_lt;have:=e.toNat_lt;have:=f.toNat_lt;have:=h.toNat_lt;have:=j.toNat_lt;have n:a=e:=UInt8.toNat_inj.1 Zm;have o:b=f:=UInt8.toNat_inj.1 Zm;grind [UInt8.toNat_inj]
theorem ss{c:Zb}(d:c.length=4):du c<4294967296:=by
 match c,d with
 |[a,b,e,f],_=>
  grind [du,UInt8.toNat_lt]
theorem Sk{d e:Zb}(r:d.length=8)(s:e.length=8)(q:du d=du e):d=e:=by
 match d,e,r,s with
 |[a,b,h,j,l,c,o,t],[f,g,i,k,m,n,p,u],_,_=>
  simp only[du,YY,List.foldl_nil]at q;have:=a.toNat_lt;have:=b.toNat_lt;have:=h.toNat_lt;have:=j.toNat_lt;have:=f.toNat_lt;have:=g.toNat_lt;have:=i.toNat_lt;have:=k.toNat_lt;have:=l.toNat_lt;have:=c.toNat_lt;have:=o.toNat_lt;have:=t.toNat_lt;have:=m.toNat_lt;have:=n.toNat_lt;have:=p.toNat_lt;have:=u.toNat_lt;have v:a=f:=UInt8.toNat_inj.1 Zm;have w:b=g:=UInt8.toNat_inj.1 Zm;have x:h=i:=UInt8.toNat_inj.1 Zm;have y:j=k:=UInt8.toNat_inj.1 Zm;have z:l=m:=UInt8.toNat_inj.1 Zm;have A:c=n:=UInt8.toNat_inj.1 Zm;have B:o=p:=UInt8.toNat_inj.1 Zm;grind [UInt8.toNat_inj]
theorem AN{l:Zb}(d:l.length=8):du l<18446744073709551616:=by
 match l,d with
 |[a,b,e,f,g,c,h,i],_=>
  simp only[du,YY,List.foldl_nil];grind [UInt8.toNat_lt]
theorem MM{a b:Nat}(d:a<4294967296)(e:b<4294967296)(c:fM n a=fM n b):a=b:=by
 grind [fM]
theorem abi{a b:Nat}(d:a<18446744073709551616)(e:b<18446744073709551616)(c:lq a=lq b):a=b:=by
 grind [lq]
theorem oD{a}{c b:bP}{v:Nat}(d:jf a c=.ok (v,b)):v=du (jy a c.aa b.aa)/\(jy a c.aa b.aa).length=4/\b.aa=c.aa+4/\b.a0=c.a0/\b.aa<=a.length:=by
 obtain⟨⟨m,g⟩,e,f⟩:=bX d;cases f
 obtain⟨h,i,j,k,l⟩:=uz e;simp_all
def xp{a}{d b:bP}{v:Int}(c:nF a n d=.ok (v,b)):v=(if n.bB then lq (du (jy a d.aa b.aa))else fM n (du (jy a d.aa b.aa)))/\(jy a d.aa b.aa).length=(if n.bB then 8 else 4)/\d.aa<=b.aa/\b.a0=d.a0/\b.aa<=a.length:=by
 unfold nF at c;cases g:n.bB with
 |true=>
  rw[g]at c;simp only[if_true]at c ⊢
  obtain⟨⟨i,h⟩,e,f⟩:=bX c;cases f
  obtain⟨j,k,l,m,o⟩:=uz e;simp_all
 |false=>
  rw[g]at c;simp only[Ye,if_false]at c ⊢
  obtain⟨⟨i,h⟩,e,f⟩:=bX c;grind [oD]
def nZ{a n}{b d:bP}{v:Nat}(e:ie a n c b=.ok (v,d)):b.aa<=d.aa/\d.a0=b.a0/\(b.aa<=a.length->d.aa<=a.length)/\
  (if c then v=n.toNat/\d=b else v=du (jy a b.aa d.aa)/\(jy a b.aa d.aa).length=4):=by
 unfold ie at e;cases c with
 |true=>
  simp_all
 |false=>
  simp only[Ye,if_false]at e ⊢
  obtain⟨⟨i,f⟩,g,h⟩:=bX e;grind [oD]
theorem Se:∀(a:Zb) (b:Nat),iV b a=none->a=List.replicate a.length 0:=by
 intro a;induction a<;>grind [iV]
def zx{a n}{c b:bP}{d:Zb}(e:qm a n c=.ok (d,b)):jy a c.aa b.aa=d++List.replicate (cy n-n) 0/\d.length=n/\c.aa<=b.aa/\b.a0=c.a0/\b.aa<=a.length:=by
 obtain⟨⟨i,f⟩,g,h⟩:=bX e;grind [uz,cy,Se,List.take_append_drop]
section
variable {a b : Zb} {da fa db fb : Nat}
def tP{j}{a b:bP}(c:ft j a=.ok b):b=a:=by
 grind [ft]
def xx(n:dJ):Ii a b ((bk a da fa).num n) ((bk b db fb).num n):=by
 intro D H E I M N h i;rw[rO]at h i;obtain⟨F,o,q⟩:=bX h;obtain⟨J,p,r⟩:=bX i;have:=tP o;subst this;have:=tP p;subst this;obtain⟨⟨v,G⟩,l,c⟩:=bX q;obtain⟨⟨L,K⟩,m,d⟩:=bX r;simp only at c d;split at c
 .split at d
  .cases c
   cases d
   obtain⟨s,j,t,u,w⟩:=xp l;obtain⟨x,k,y,z,A⟩:=xp m;refine⟨[_],[_],⟨by simp only[dq];rw[u],t,λ_=>w⟩,⟨by simp only[dq];rw[z],y,λ_=>A⟩,?_⟩;intro B C f;simp only[List.map_cons,List.map_nil,YX,YT,List.cons.injEq,Prod.mk.injEq]at f ⊢;obtain⟨⟨_,e,_⟩,_⟩:=f;refine⟨Zg,trivial,?_⟩;rw[s,x]at e;simp only[dq];cases g:n.bB with
   |true=>
    simp only[g,if_true]at e j k
    grind [Sk,abi,AN]
   |false=>
    simp only[g,Ye,if_false]at e j k
    grind [DT,MM,ss]
  simp_all
 simp_all
theorem Kh{n}{d e f g:bP}{v:Nat}(h:ie a n c d=.ok (v,e))(j:ie b n c f=.ok (v,g)):jy a d.aa e.aa=jy b f.aa g.aa:=by
 obtain⟨_,_,_,i⟩:=nZ h;obtain⟨_,_,_,k⟩:=nZ j;cases c with
 |true=>
  simp_all[jy]
 |false=>
  simp only[Ye,if_false]at i k
  grind [DT]
def xy(n:Int)(c:Bool):Ii a b ((bk a da fa).text n c) ((bk b db fb).text n c):=by
 intro P a2 R a3 b1 b2 i j;rw[rO]at i j;obtain⟨S,w,A⟩:=bX i;obtain⟨a4,x,B⟩:=bX j;have:=tP w;subst this;have:=tP x;subst this;obtain⟨⟨v,a0⟩,g,p⟩:=bX A;obtain⟨⟨I,a5⟩,h,q⟩:=bX B;obtain⟨⟨a7,a1⟩,r,t⟩:=bX p;obtain⟨⟨a8,a6⟩,s,u⟩:=bX q;cases t
 cases u
 obtain⟨d,m,L,N⟩:=nZ g;obtain⟨e,o,M,O⟩:=nZ h;obtain⟨C,a9,k,E,G⟩:=zx r;obtain⟨D,b0,l,F,H⟩:=zx s;refine⟨[_],[_],⟨by simp only[dq];rw[E,m],Yz d k,λ_=>G⟩,⟨by simp only[dq];rw[F,o],Yz e l,λ_=>H⟩,?_⟩;intro J K f;simp only[List.map_cons,List.map_nil,YX,YT,List.cons.injEq,Prod.mk.injEq]at f ⊢;obtain⟨⟨_,_,y,_⟩,_⟩:=f;refine⟨Zg,trivial,?_⟩;have z:v=I:=by
  simp_all
 subst z;simp only[dq];rw[<-CA a d k,<-CA b e l,Kh g h,C,D,y]
def xw(n:Int)(c:Bool):oM a b ((bk a da fa).bH n c) ((bk b db fb).bH n c):=by
 intro B F C G K L s u;obtain⟨D,p,t⟩:=bX s;obtain⟨H,q,w⟩:=bX u;have:=tP p;subst this;have:=tP q;subst this;obtain⟨⟨v,E⟩,k,m⟩:=bX t;obtain⟨⟨J,I⟩,l,o⟩:=bX w;cases m
 cases o
 obtain⟨e,g,i,z⟩:=nZ k;obtain⟨f,h,j,A⟩:=nZ l;refine⟨[_],[_],⟨by simp only[dq];rw[g],e,i⟩,⟨by simp only[dq];rw[h],f,j⟩,?_⟩;intro x y d;simp only[List.map_cons,List.map_nil,YX,YT,List.cons.injEq,Prod.mk.injEq]at d ⊢;obtain⟨⟨_,_,_,r⟩,_⟩:=d;subst r;refine⟨Zq,rfl,?_⟩;grind [dq,Kh]
def xv(n:dJ)(v:Int->Option Nat):oM a b ((bk a da fa).cg n v) ((bk b db fb).cg n v):=by
 intro u z w A L M j l;obtain⟨x,h,k⟩:=bX j;obtain⟨B,i,m⟩:=bX l;have:=tP h;subst this;have:=tP i;subst this;obtain⟨⟨J,y⟩,f,c⟩:=bX k;obtain⟨⟨K,C⟩,g,d⟩:=bX m;simp only at c d;split at c
 .grind
 .split at d
  .grind
  .cases c
   cases d
   obtain⟨D,E,F,o,p⟩:=oD f;obtain⟨G,H,I,q,r⟩:=oD g;refine⟨[_],[_],⟨by simp only[dq];rw[o],by simp only[dq];omega,λ_=>p⟩,⟨by simp only[dq];rw[q],by simp only[dq];omega,λ_=>r⟩,?_⟩;intro s t e;simp only[List.map_cons,List.map_nil,YX,YT,List.cons.injEq,Prod.mk.injEq]at e ⊢;grind [dq,DT,MM,ss]
end
structure jC{h:Type}(a b:Zb)(c g:bP->Except Mar.ac (h×bP)):Prop where
 ab:oM a b c g
 fa:Dj a c
 fb:Dj b g
def jC.then{a b c t}{f2 g2:h->bP->Except Mar.ac (k×bP)}(o:jC a b c t)(f:∀d,jC a b (f2 d) (g2 d)):jC a b (λe=>aA (c e) λi=>f2 i.1 i.2) (λe=>aA (t e) λi=>g2 i.1 i.2):=by
 refine⟨abO o.ab (λd=>(f d).ab) ?_,?_,?_⟩
 .intro d x e y s z A v g w;obtain⟨l,n⟩:=(f d).fa _ _ _ g;obtain⟨j,m⟩:=(f x).fb _ _ _ w;grind
 .intro e s d g;obtain⟨⟨r,u⟩,p,q⟩:=bX g;obtain⟨l,n⟩:=o.fa _ _ _ p;obtain⟨j,m⟩:=(f r).fa _ _ _ q;exact⟨l++j,n.u m⟩
 .intro e s d g;obtain⟨⟨r,u⟩,p,q⟩:=bX g;obtain⟨l,n⟩:=o.fb _ _ _ p;obtain⟨j,m⟩:=(f r).fb _ _ _ q;exact⟨l++j,n.u m⟩
def tR{a b:Zb}{c d:bP->Except Mar.ac (h×bP)}(e:oM a b c d)(f:oM a a c c)(g:oM b b d d):jC a b c d:=⟨e,f.kt,g.kt⟩
theorem AO{a b}:jC a b (bQ λd=>.ok d) (bQ λd=>.ok d):=by
 refine⟨?_,?_,?_⟩
 .intro d j e k g l c f;rw[rO]at c f;cases c
  cases f
  exact⟨[],[],⟨Zq,Y4 _,id⟩,⟨Zq,Y4 _,id⟩,λh i _=>⟨rfl,rfl,by simp[jy]⟩⟩
 .intro d e g c;rw[rO]at c;cases c
  exact⟨[],Zq,Y4 _,id⟩
 .intro d e g c;rw[rO]at c;cases c
  exact⟨[],Zq,Y4 _,id⟩
theorem yJ{a b}(g h:bP->Mar.ac):jC a b (bQ λc=>.error (g c)) (bQ λc=>.error (h c)):=by
 refine⟨?_,?_,?_⟩
 .intro c i d j f v e k;grind [rO]
 .intro c d f e;grind [rO]
 .intro c d f e;grind [rO]
def uC(c:bP->Except Mar.ac (h×bP))(d:h->eU bP):bQ (λa=>aA (c a) λb=>d b.1 b.2)=λa=>aA (c a) λb=>bQ (d b.1) b.2:=by
 funext a;simp only[bQ];cases c a<;>rfl
def uB(c b:eU bP):bQ (λa=>aA (c a) b)=λa=>aA (bQ c a) λd=>bQ b d.2:=by
 funext a;simp only[bQ];cases c a<;>rfl
section
variable {a b : Zb} {da fa db fb : Nat} {f e : Zb -> eU bP}
def Su{c e}(j:jC a b (bQ c) (bQ e)):∀d,jC a b (bQ (hE c d)) (bQ (hE e d)):=by
 intro d;induction d with
 |zero=>exact AO
 |succ d k=>
  have h:bQ (hE c (d+1))=λf=>aA (bQ c f) λg=>bQ (hE c d) g.2:=uB c (hE c d);have i:bQ (hE e (d+1))=λf=>aA (bQ e f) λg=>bQ (hE e d) g.2:=uB e (hE e d);rw[h,i];exact j.then λ_=>k
theorem Ea(o:∀n,jC a b (bQ (f n)) (bQ (e n)))(l:Ty):jC a b (bQ (dY (bk a da fa) f l)) (bQ (dY (bk b db fb) e l)):=by
 induction l with
 |named n i=>exact o n
 |plain g=>exact tR (xx _) (xx _) (xx _)
 |opaq n c=>exact tR (xy _ _) (xy _ _) (xy _ _)
 |str n c=>exact tR (xy _ _) (xy _ _) (xy _ _)
 |void=>exact AO
 |arr h n c m=>
  have j:bQ (dY (bk a da fa) f (.arr h n c))=λd=>aA ((bk a da fa).bH n c d) λi=>bQ (hE (dY (bk a da fa) f h) i.1) i.2:=uC _ λg=>hE (dY (bk a da fa) f h) g;have k:bQ (dY (bk b db fb) e (.arr h n c))=λd=>aA ((bk b db fb).bH n c d) λi=>bQ (hE (dY (bk b db fb) e h) i.1) i.2:=uC _ λg=>hE (dY (bk b db fb) e h) g;rw[j,k];exact(tR (xw _ _) (xw _ _) (xw _ _)).then λg=>Su m g
 |opt h m=>
  have j:bQ (dY (bk a da fa) f (.opt h))=λd=>aA ((bk a da fa).cg (dy 4) jK d) λi=>bQ (if i.1=1 then dY (bk a da fa) f h else λd=>.ok d) i.2:=by
   refine(Eq.trans ?_ (uC _ λg=>if g=1 then dY (bk a da fa) f h else λd=>.ok d))
   congr 1;grind [dY]
  have k:bQ (dY (bk b db fb) e (.opt h))=λd=>aA ((bk b db fb).cg (dy 4) jK d) λi=>bQ (if i.1=1 then dY (bk b db fb) e h else λd=>.ok d) i.2:=by
   refine(Eq.trans ?_ (uC _ λg=>if g=1 then dY (bk b db fb) e h else λd=>.ok d))
   congr 1;grind [dY]
  rw[j,k];refine jC.then (f2:=λg=>bQ (if g=1 then dY (bk a da fa) f h else λd=>.ok d)) (g2:=λg=>bQ (if g=1 then dY (bk b db fb) e h else λd=>.ok d)) (tR (xv _ _) (xv _ _) (xv _ _)) λg=>?_
  by_cases p:g=1;all_goals simp_all[AO]
def Sq(k:∀n,jC a b (bQ (f n)) (bQ (e n))):∀c:List Ty,jC a b (bQ (lQ (bk a da fa) f c)) (bQ (lQ (bk b db fb) e c)):=by
 intro c;induction c with
 |nil=>exact AO
 |cons d c l=>
  have i:bQ (lQ (bk a da fa) f (d::c))=λg=>aA (bQ (dY (bk a da fa) f d) g) λh=>bQ (lQ (bk a da fa) f c) h.2:=uB ..;have j:bQ (lQ (bk b db fb) e (d::c))=λg=>aA (bQ (dY (bk b db fb) e d) g) λh=>bQ (lQ (bk b db fb) e c) h.2:=uB ..;rw[i,j];exact(Ea k d).then λ_=>l
theorem Sr(q:∀n,jC a b (bQ (f n)) (bQ (e n)))(m:aD):jC a b (bQ (iA (bk a da fa) E f m)) (bQ (iA (bk b db fb) E e m)):=by
 cases m with
 |const c k v=>exact yJ (λ_=>⟨0,0⟩) (λ_=>⟨0,0⟩)
 |prog c k v n=>exact yJ (λ_=>⟨0,0⟩) (λ_=>⟨0,0⟩)
 |typedef c=>exact Ea q c.H
 |enum c k j=>exact tR (xx _) (xx _) (xx _)
 |struct c k j=>
  have o:bQ (iA (bk a da fa) E f (.struct c k j))=λh=>aA ((bk a da fa).bH j.length true h) λg=>bQ (lQ (bk a da fa) f (j.map (·.H))) g.2:=uC _ λ_=>lQ (bk a da fa) f (j.map aU.H);have p:bQ (iA (bk b db fb) E e (.struct c k j))=λh=>aA ((bk b db fb).bH j.length true h) λg=>bQ (lQ (bk b db fb) e (j.map (·.H))) g.2:=uC _ λ_=>lQ (bk b db fb) e (j.map aU.H);rw[o,p];exact(tR (xw _ _) (xw _ _) (xw _ _)).then λ_=>Sq q _
 |union c k l d=>
  have o:bQ (iA (bk a da fa) E f (.union c k l d))=λh=>aA ((bk a da fa).cg (kN E l.H) (tK E l.H d) h) λg=>bQ (match iy d g.1 with|some c=>dY (bk a da fa) f c|none=>λ_=>.error ⟨0,0⟩) g.2:=by
   refine(Eq.trans ?_ (uC _ λi=>match iy d i with|some c=>dY (bk a da fa) f c|none=>λ_=>.error ⟨0,0⟩));congr 1;funext h;simp only[iA];congr 1;funext g;cases iy d g.1<;>rfl
  have p:bQ (iA (bk b db fb) E e (.union c k l d))=λh=>aA ((bk b db fb).cg (kN E l.H) (tK E l.H d) h) λg=>bQ (match iy d g.1 with|some c=>dY (bk b db fb) e c|none=>λ_=>.error ⟨0,0⟩) g.2:=by
   refine(Eq.trans ?_ (uC _ λi=>match iy d i with|some c=>dY (bk b db fb) e c|none=>λ_=>.error ⟨0,0⟩));congr 1;funext h;simp only[iA];congr 1;funext g;cases iy d g.1<;>rfl
  rw[o,p];refine jC.then (f2:=λi=>bQ (match iy d i with|some c=>dY (bk a da fa) f c|none=>λ_=>.error ⟨0,0⟩)) (g2:=λi=>bQ (match iy d i with|some c=>dY (bk b db fb) e c|none=>λ_=>.error ⟨0,0⟩)) (tR (xv _ _) (xv _ _) (xv _ _)) λi=>?_;cases iy d i<;>simp_all[yJ,Ea]
end
def JP{a b da fa db fb k l}:jC a b (bQ ((bk a da fa).cW k)) (bQ ((bk b db fb).cW l)):=by
 have f:∀(i:Zb) (g h n:Nat) (c d:bP) (m:Unit),bQ ((bk i g h).cW n) c=.ok (m,d)->d=c:=by
  grind [rO,bk]
 refine⟨?_,?_,?_⟩
 .intro c q d r g h e j;have:=f _ _ _ _ _ _ _ e;subst this;have:=f _ _ _ _ _ _ _ j;subst this;exact⟨[],[],⟨Zq,Y4 _,id⟩,⟨Zq,Y4 _,id⟩,λo p _=>⟨rfl,rfl,by simp[jy]⟩⟩
 .intro c d g e;have:=f _ _ _ _ _ _ _ e;subst this;exact⟨[],Zq,Y4 _,id⟩
 .intro c d g e;have:=f _ _ _ _ _ _ _ e;subst this;exact⟨[],Zq,Y4 _,id⟩
def Ss{a b da fa db fb}:∀(d c:Nat) (n:Zb),jC a b (bQ (fo (bk a da fa) E d c n)) (bQ (fo (bk b db fb) E d c n)):=by
 intro d;induction d with
 |zero=>
  intro c n;have g:bQ (fo (bk a da fa) E 0 c n)=λe=>aA (bQ ((bk a da fa).cW c) e) λf=>bQ (λ_=>.error ⟨0,0⟩) f.2:=uB ..;have h:bQ (fo (bk b db fb) E 0 c n)=λe=>aA (bQ ((bk b db fb).cW c) e) λf=>bQ (λ_=>.error ⟨0,0⟩) f.2:=uB ..;rw[g,h];exact JP.then λ_=>yJ (λ_=>⟨0,0⟩) (λ_=>⟨0,0⟩)
 |succ d j=>
  intro c n;have g:bQ (fo (bk a da fa) E (d+1) c n)=λe=>aA (bQ ((bk a da fa).cW c) e) λf=>bQ (match E n with|some df=>iA (bk a da fa) E (fo (bk a da fa) E d (c+1)) df|none=>λ_=>.error ⟨0,0⟩) f.2:=by
   refine(Eq.trans ?_ (uB ..));congr 1;funext e;simp only[fo];congr 1;funext i;cases E n<;>rfl
  have h:bQ (fo (bk b db fb) E (d+1) c n)=λe=>aA (bQ ((bk b db fb).cW c) e) λf=>bQ (match E n with|some df=>iA (bk b db fb) E (fo (bk b db fb) E d (c+1)) df|none=>λ_=>.error ⟨0,0⟩) f.2:=by
   refine(Eq.trans ?_ (uB ..));congr 1;funext e;simp only[fo];congr 1;funext i;cases E n<;>rfl
  rw[g,h];refine jC.then (f2:=λ_=>bQ (match E n with|some df=>iA (bk a da fa) E (fo (bk a da fa) E d (c+1)) df|none=>λ_=>.error ⟨0,0⟩)) (g2:=λ_=>bQ (match E n with|some df=>iA (bk b db fb) E (fo (bk b db fb) E d (c+1)) df|none=>λ_=>.error ⟨0,0⟩)) JP λ_=>?_;cases E n<;>simp_all[yJ,Sr]
end
section
variable {E:fB}{h g j:Nat}
def Ko{e b k}(c:pf E e b h g j=.ok k):b.length<=j/\fo (bk b h g) E 64 0 e ⟨0,[]⟩=.ok ⟨b.length,k⟩:=by
 unfold pf at c;split at c
 .cases c
 obtain⟨d,f,i⟩:=bX c;split at i
 .grind
 rename_i p o;cases i
 obtain⟨m,l⟩:=(Ss (a:=b) (b:=b) (da:=h) (fa:=g) (db:=h) (fb:=g) (E:=E) 64 0 e).fa ⟨0,[]⟩ d () (rO.2 f);have:=l.j2 (YV _);refine⟨Zm,?_⟩;rw[f];have n:d.aa=b.length:=Zm;cases d<;>simp_all
structure vc{i:Type}(e:Wk i)(c:i->Prop):Prop where
 cW:∀k d d',c d->e.cW k d=.ok d'->c d'
 num:∀n d d',c d->e.num n d=.ok d'->c d'
 text:∀n f d d',c d->e.text n f d=.ok d'->c d'
 bH:∀n f d p,c d->e.bH n f d=.ok p->c p.2
 cg:∀n v d p,c d->e.cg n v d=.ok p->c p.2
section
variable {i : Type} {e : Wk i} {c : i -> Prop} {nm : Zb -> eU i}
def WU{f:eU i}(l:∀a b,c a->f a=.ok b->c b):∀d a b,c a->hE f d a=.ok b->c b:=by
 intro d;induction d with
 |zero=>intro a b g e;cases e;omega
 |succ d m=>
  intro a b g e;obtain⟨h,j,k⟩:=bX e;grind
theorem Fe(f:vc e c)(o:∀d a b,c a->nm d a=.ok b->c b)(n:Ty):∀a b,c a->dY e nm n a=.ok b->c b:=by
 induction n with
 |named d m=>exact o d
 |plain r=>exact f.num _
 |opaq d j=>exact f.text _ _
 |str d j=>exact f.text _ _
 |void=>intro a b h g;cases g;omega
 |arr p d j l=>
  intro a b h g;obtain⟨m,i,k⟩:=bX g;exact WU l _ _ _ (f.bH _ _ _ _ h i) k
 |opt p l=>
  intro a b h g;obtain⟨m,i,k⟩:=bX g;have q:=f.cg _ _ _ _ h i;grind
def WS(i:vc e c)(l:∀h a b,c a->nm h a=.ok b->c b):∀(d:List Ty) a b,c a->lQ e nm d a=.ok b->c b:=by
 intro d;induction d with
 |nil=>intro a b g f;cases f;omega
 |cons o d m=>
  intro a b g f;obtain⟨n,j,k⟩:=bX f;grind [Fe]
theorem WT(h:vc e c)(m:∀n a b,c a->nm n a=.ok b->c b)(k:aD):∀a b,c a->iA e E nm k a=.ok b->c b:=by
 cases k with
 |const g f v=>intro a p _ d;cases d
 |prog g f v n=>intro a p _ d;cases d
 |typedef g=>exact Fe h m g.H
 |enum g f o=>exact h.num _
 |struct g f o=>
  intro a b j d;obtain⟨f,i,l⟩:=bX d;exact WS h m _ _ _ (h.bH _ _ _ _ j i) l
 |union g f s q=>
  intro a b j d;obtain⟨f,i,l⟩:=bX d;have r:=h.cg _ _ _ _ j i;grind [Fe]
def Fd(i:vc e c):∀(b g:Nat) (h:Zb) a d,c a->fo e E b g h a=.ok d->c d:=by
 intro b;induction b with
 |zero=>
  intro g h a p _ f;obtain⟨_,_,k⟩:=bX f;grind
 |succ b o=>
  intro g h a d l f;obtain⟨m,j,k⟩:=bX f;have n:=i.cW _ _ _ l j;grind [WT]
end
def tO{a b:bP}(c:ft g a=.ok b):b=a/\a.a0.length<g:=by
 unfold ft at c;grind
def TC(l:Zb)(h g:Nat):vc (bk l h g) λm=>m.a0.length<=g where
 cW k m d' hd a:=by
  grind [bk]
 num n m d' hd a:=by
  obtain⟨d,e,j⟩:=bX a;clear a;obtain⟨rfl,q⟩:=tO e;obtain⟨b,i,a⟩:=bX j;split at a
  .cases a
   obtain⟨_,_,_,o,_⟩:=xp (show nF l n d=.ok (b.1,b.2)from i);simp[dq,o];omega
  grind
 text n f m d' hd a:=by
  obtain⟨d,e,j⟩:=bX a;clear a;obtain⟨rfl,q⟩:=tO e;obtain⟨b,i,a⟩:=bX j;obtain⟨c,r,a⟩:=bX a;cases a
  obtain⟨_,p,_,_⟩:=nZ (show ie l n f d=.ok (b.1,b.2)from i);obtain⟨_,_,_,o,_⟩:=zx (show qm l b.1 b.2=.ok (c.1,c.2)from r);simp[dq,o,p];omega
 bH n f m b hd a:=by
  obtain⟨d,e,j⟩:=bX a;clear a;obtain⟨rfl,q⟩:=tO e;obtain⟨c,i,a⟩:=bX j;cases a
  obtain⟨_,p,_,_⟩:=nZ (show ie l n f d=.ok (c.1,c.2)from i);simp[dq,p];omega
 cg n v m b hd a:=by
  obtain⟨d,e,j⟩:=bX a;clear a;obtain⟨rfl,q⟩:=tO e;obtain⟨c,i,a⟩:=bX j;split at a
  .cases a
  .cases a
   obtain⟨_,_,_,o,_⟩:=oD (show jf l d=.ok (c.1,c.2)from i);simp[dq,o];omega
def TO{b a c}(d:pf E b a h g j=.ok c):c.length<=g:=by
 obtain⟨_,e⟩:=Ko d;exact Fd (TC a h g) 64 0 b ⟨0,[]⟩ _ (YV _) e
end
section
structure fD where
 w:Int
 n:Int
 s:Zb
 y:Int
 am:Int
structure cv where
 O:Nat
 i:Zb
def dL(a:Int):Zb:=[UInt8.ofNat ((a % 4294967296).toNat / 16777216),UInt8.ofNat ((a % 4294967296).toNat / 65536),UInt8.ofNat ((a % 4294967296).toNat / 256),UInt8.ofNat (a % 4294967296).toNat]
def gV(b:Int)(c:Bool)(a:Int):Bool:=if c then decide (a=b)else decide (0<=a)&&decide (a<=b)
section
variable (v : List fD) (c b a : Nat)
def hb(e:Int)(d:fD->Bool)(a:cv):Except Mar.ac (fD×cv):=
 if b<=a.O then .error ⟨15,a.O⟩else match v[a.O]? with
  |none=>.error ⟨12,a.O⟩
  |some c=>if c.w=e/\d c=true then .ok (c,{ a with O:=a.O+1 })else .error ⟨12,a.O⟩
def lX(c:Nat)(b:cv):Except Mar.ac cv:=if a<b.i.length+c then .error ⟨14,b.O-1⟩else .ok b
def ky(c:Int)(b:cv):Except Mar.ac cv:=aA (lX a 4 b) λb=>.ok { b with i:=b.i++dL c }
def lr(a:Zb):Zb:=a++List.replicate (cy a.length-a.length) 0
def vT(c:Zb)(b:cv):Except Mar.ac cv:=aA (lX a (cy c.length) b) λb=>.ok { b with i:=b.i++lr c }
def mZ(c:Int->Option Nat)(a:fD):Bool:=match c a.n with
 |some b=>decide (a.am=b)
 |none=>false
def fm:Wk cv where
 cW k d:=if c<=k then .error ⟨13,d.O⟩else .ok d
 num n d:=aA (hb v b 1 (λg=>n.br g.n) d) λe=>aA (if n.bB then ky a (e.1.n / 4294967296) e.2 else .ok e.2) λd=>ky a e.1.n d
 text n f d:=aA (hb v b 2 (λg=>gV n f g.s.length) d) λe=>aA (if f then .ok e.2 else ky a e.1.s.length e.2) λd=>vT a e.1.s d
 bH n f d:=aA (hb v b 3 (λg=>gV n f g.am) d) λe=>aA (if f then .ok e.2 else ky a e.1.am e.2) λd=>.ok (e.1.am.toNat,d)
 cg n w d:=aA (hb v b 4 (mZ w) d) λe=>aA (ky a e.1.n e.2) λd=>.ok (e.1.n,d)
end
def jr(e:fB)(f:Zb)(v:List fD)(c b a:Nat):Except Mar.ac (Zb):=
 aA (fo (fm v c b a) e 64 0 f ⟨0,[]⟩) λd=>if d.O<v.length then .error ⟨12,d.O⟩else .ok d.i
theorem Dc(a:Int):(dL a).length=4:=rfl
theorem Sj{b a:Zb}(c:a.length=4):du (b++a)=du b*4294967296+du a:=by
 match a,c with
 |[d,e,f,g],_=>
  grind [du]
end
def afL{v:List fD}{d:Nat}{e:Int}{c:fD->Bool}{a:cv}{b:fD×cv}(f:hb v d e c a=.ok b):a.O<d/\v[a.O]?=some b.1/\b.1.w=e/\c b.1=true/\b.2 = { a with O:=a.O+1 }:=by
 unfold hb at f;grind
def HG{e:Nat}{d:Int}{a b:cv}(f:ky e d a=.ok b):b = { a with i:=a.i++dL d }/\b.i.length<=e:=by
 obtain⟨h,c,g⟩:=bX f;unfold lX at c;split at c
 .grind
 .cases c
  cases g<;>simp_all[Dc]
def abM{e:Nat}{a:Zb}{b c:cv}(f:vT e a b=.ok c):c = { b with i:=b.i++lr a }/\c.i.length<=e:=by
 obtain⟨h,d,g⟩:=bX f;unfold lX at d;split at d
 .grind
 .cases d
  cases g
  have i:(lr a).length=cy a.length:=by grind [lr,cy]
  simp_all
def Ur(v:List fD)(j l i:Nat):vc (fm v j l i) λc=>c.i.length<=i where
 cW k c e' he a:=by
  grind [fm]
 num n c e' he a:=by
  obtain⟨h,e,a⟩:=bX a;obtain⟨g,d,b⟩:=bX a;exact(HG b).2
 text n f c e' he a:=by
  obtain⟨h,e,a⟩:=bX a;obtain⟨g,d,b⟩:=bX a;exact(abM b).2
 bH n f c p' he a:=by
  obtain⟨h,e,a⟩:=bX a;obtain⟨_,_,_,_,m⟩:=afL e;obtain⟨g,d,b⟩:=bX a;cases b
  split at d
  .grind
  .exact(HG d).2
 cg n w c p' he a:=by
  obtain⟨h,e,a⟩:=bX a;obtain⟨g,d,b⟩:=bX a;cases b
  exact(HG d).2
section
def WQ:(prog.info? 273).map (λa=>(a.zero,a.size,a.bytes))=some (some .nilIface,1,16):=Zk
def WH:(prog.info? 269).map (λa=>(a.zero,a.size,a.bytes))=some (some (.agg #[Y 0,.string ⟨#[]⟩]),2,24):=Zk
section
variable {e b : Zw} {c : kA} {F : List Th} {d : List (Nat × Obj)} {a : bb} {k h v : Zv} {f : List (cV × Zv)} {g : List (Zb × dJ × Zv)} {x : cV} {n : Nat}
def Nh(l:iu e c F d a k h f g b)(z:mX d v x)(a6:a.L.length<1000000):Calls prog 131 #[Zp c.C,v] b λK a3=>K=.returned (Y a.L.length)/\∃a2,iu e c F d (bg x a) a2 h (f++[(x,v)]) g a3:=by
 obtain⟨J,a5,rfl⟩:=z.m2
 obtain⟨ad,q,rfl⟩:=aV l.row;have A:=aE l.aw;have D:=bi l.aw;have G:=ay l.aw;have p:=U l;have I:=U z;have w:af (∀o,(b.alloc o).ownsRow 0 273 1 (.slice ad a.L.length q) a.L.length (f.map (·.2))):=λo=>cf l.row ((ar [] b).A o) Zq;have R:(a.L.length+1)*16<=140737488355328:=Zm;go_in;go_wp2_with (at_builtin;refine kE WQ underlying102 (w.i _) [.iface J a5] (heap_alloc_new b _) Zy R (YV _) (H:=b.heap.size+1) Zq ?_;intro s r a4 y u t S;have n:=U (kD (F:=F)▸p.i.bO.a3 (fi (i:=1) rfl) ((ar [] b).A _) y u t Zq);clear y u t S w A D G;have m:a4.heap[c.C]?=some (.cells #[.slice ad a.L.length q,.map (some c.B),.map (some c.E),h] 167):=n.i.bZ (i:=0) rfl;have A:=aE m;have D:=bi m;have G:=ay m;clear m)
 go_ret;obtain⟨M,N,O,P⟩:=qj (j:=0) (n.i.bZ (i:=0) rfl) (.slice (some ⟨s,0,none⟩) (a.L.length+1) r);have l:=p.i;exact⟨Zq,.slice (some ⟨s,0,none⟩) (a.L.length+1) r,by simpa[tT,bg]using n.i.gk (i:=0) rfl M N O P,l.g4,l.g6,l.hd,l.he,by simp[bg,l.g5],λa1 a0=>(Yn.1 a0).elim (l.g7 a1) λL=>by cases Yc.1 L;exact I.i⟩
def qp(j:af (Cm e c F d a b))(o:mX d v x)(m:bF a n)(s:1<=n:=by omega):Calls prog 131 #[Zp c.C,v] b (oH e c F d (bg x a) (Y a.L.length)):=by
 obtain⟨l,k,h,f,g,i,p⟩:=j.i;refine(Nh p (o.aR i) (by have:=m.L;omega)).mono ?_;rintro r u ⟨rfl,t,q⟩;exact⟨rfl,l,_,_,_,_,i,q⟩
def uc(f:af (Cm e c F d a b)):Calls prog 128 #[Zp c.C] b λg h=>g=.returned (Y a.L.length)/\h=b:=by
 obtain⟨⟨ad,j,i⟩,-⟩:=f.i.K;go_in;go_wp2;go_ret;exact⟨rfl,rfl⟩
abbrev FL(n:dJ)(a:Zv):Array Zv:=#[Y n.c4,Y n.dp,a,.bool n.bB]
def FO(a:Nat):(dy a).f0=none:=by
 unfold dy;repeat' split
 all_goals rfl
def FM(d:Zo){n:dJ}(a:n.f0=none):iF d [Y n.c4,Y n.dp,.slice none 0 0,.bool n.bB] n:=⟨.slice none 0 0,rfl,by rw[a];rfl,_,_,_,rfl⟩
def Em(a:Nat)(b:Zw):Calls prog 207 #[Y a] b λe h=>e=.returned (.agg (FL (dy a) (.slice none 0 0)))/\ap [] b h:=by
 have f:∀g,ap [] b (b.alloc g):=(ar [] b).A;cases i:((a:Int)==0)
 case' false=>
  cases j:((a:Int)==1)
  case' false=>
   cases k:((a:Int)==4)
 all_goals
  obtain⟨d,c⟩:∃d,af (d=FL (dy a) (.slice none 0 0)):=⟨_,rfl⟩;rw[<-c.i];go_in;go_wp2;refine bodyPost_ret (v:=.agg #[_,_,_,_]) (by simp[results,results207,go_sem];exact⟨rfl,rfl,rfl,rfl⟩) rfl ⟨?_,f _⟩;rw[c.i];unfold dy;(repeat' split)<;>simp_all<;>omega
def abm(c:Nat×Zb):∀b∈yK c,b.oneCell'=true:=by
 intro b a;simp at a;rcases a with rfl|rfl<;>rfl
def SB(w:Zb)(P:af (Cm e c F d a b))(K:bF a n)(D:1<=n:=by omega):Calls prog 206 #[Zp c.C,Zs w] b (oH e c F d (ke w a) (.tuple #[])):=by
 obtain⟨R,k,h,f,g,a2,l⟩:=P.i;obtain⟨ad,y,rfl⟩:=aV l.iS;have b0:=K.L;have a9:=K.aJ;have O:=U (Nh (v:=.iface 271 (.agg #[Y 0])) (x:=.call 0) { l with bO:=l.bO.ag } rfl Zm)
 have a3:(a.aJ.length+1)*24<=140737488355328:=Zm;have M:=aE l.aw;have N:=U a2;go_in;go_wp21;refine bJ (λa5=>a5.cell? (Zd c.C 3)=some (.slice ad a.aJ.length y)) ?_ λu=>?_
 .go_keep
 refine bc [0,1,2,3,4,5,6,7,9] ?_;iterate 9 (refine bh ?_)
 refine be ?_;refine bI 8 λr m=>?_;(go_simp;go_at_call 131;refine O.i.mono ?_;rintro a8 p ⟨rfl,L,o⟩;have M:=aE o.aw;have s:=U o;have a7:=ay o.aw;clear o);refine m.out _ _ ?_ (λu=>?_)
 .go_keep
 refine nz ?_;refine pz 10 ?_;refine bI 11 λr m=>?_;go_simp;refine m.out _ _ ?_ (λu=>?_)
 .go_keep
 refine nz ?_;refine bI 12 λr m=>?_;(refine lR WH underlying165 (cf s.i.iS ((ar [] p).A _) Zq) (yK (a.L.length,w)) (heap_alloc_new p _) (abm _) a3 (YV _) (H:=p.heap.size+1) Zq ?_;intro A z a6 J I G a4;have t:=U (kD (F:=F)▸s.i.bO.a3 (fi (i:=2) rfl) ((ar [] p).A _) J I G Zq);have q:a6.heap[c.C]?=some (.cells #[L,.map (some c.B),.map (some c.E),.slice ad a.aJ.length y] 167):=t.i.bZ (i:=0) rfl;have M:=aE q;have b1:=bi q;have a7:=ay q;clear q J I G a4);refine m.out _ _ ?_ (λu=>?_)
 .go_keep
 refine nz ?_;refine bc [13,14] ?_;iterate 2 (refine bh ?_)
 refine be ?_;refine bL λr m=>?_;go_simp;refine m.out _ _ ?_;refine nz ?_;go_wp2;go_end0;obtain⟨D,S,a0,a1⟩:=qj (j:=3) (t.i.bZ (i:=0) rfl) (.slice (some ⟨A,0,none⟩) (a.aJ.length+1) z);have l:=s.i;exact⟨rfl,R,L,.slice (some ⟨A,0,none⟩) (a.aJ.length+1) z,_,g,N.i,by simpa[tT,bg,ke]using t.i.gk (i:=0) rfl D S a0 a1,l.g4,l.g6,l.hd,l.he,l.g5,l.g7⟩
end
end
section
theorem xC(a:cV)(s:bb):(bg a s).L.length=s.L.length+1:=by simp[bg]
theorem bF.aW{s}{n:Nat}(a:bF s (n+1))(x:cV):bF (bg x s) n:=⟨by simp[bg];have:=a.L;omega,by grind [bg,aJ]⟩
def bF.call{s}{n:Nat}(a:bF s (n+1))(t:Zb):bF (ke t s) n:=⟨by simp[ke];have:=a.L;omega,by grind [ke,aJ]⟩
def bF.cs{s}{n b:Nat}(a:bF s n)(c:b<=n):bF s b:=⟨by have:=a.L;omega,a.aJ⟩
theorem bF.aq{s n}(a:bF s n)(i:Nat)(b:cV):bF (dD i b s) n:=⟨by simpa[dD]using a.L,by simpa[dD]using a.aJ⟩
def uW(c:Ty):∀{s:bb} {n:Nat},bF s (n+dO c)->bF (dZ c s) n:=by
 induction c with
 |named c a=>intro s n b;exact b.call c
 |plain e=>intro s n b;exact b.aW _
 |opaq e f=>intro s n b;exact b.aW _
 |str e f=>intro s n b;exact b.aW _
 |void=>intro s n b;exact b
 |arr o e f d=>intro s n b;exact(bF.aW (d (bF.aW (bF.cs b (by simp only[dO];omega)) _)) _).aq ..
 |opt o d=>intro s n b;exact(d (bF.aW (bF.cs b (by simp only[dO];omega)) _)).aq ..
def yE(c:Ty)(a:TypeId)(e:Zv):Array Zv:=match fS c with
 |.iface b d=>if b=a then #[d,.bool true]else #[e,.bool false]
 |_=>#[]
def pC(c:Ty)(a:TypeId)(d:Zv):Prop:=∀b,(Instr.typeAssert (fS c) 240 a true).run prog b=.ok (.tuple (yE c a d)) b
def zU(a:Ty):pC a 260 (.agg #[.string ⟨#[]⟩,.int .i64 0])/\pC a 372 (.agg #[.int .i64 0])/\pC a 377 (.agg #[.int .i64 0,.bool false])/\pC a 380 (.agg #[.int .i64 0,.bool false])/\pC a 382 (.agg #[.nilIface,.int .i64 0,.bool false])/\pC a 385 (.agg #[.nilIface])/\pC a 444 (.agg #[]):=by
 cases a<;>(refine⟨?_,?_,?_,?_,?_,?_,?_⟩<;>(intro b;kernel_rfl))
def HB{c:Zw}{e:Nat}{l}(g:c.heap[e]?=some (kx l))(h:(l.map (·.1)).Nodup)(b:Int)(f a:Nat):(Instr.mapUpdate 389 (.map (some e)) (.int .i64 b) (.agg #[.int .i64 f,.int .i64 a])).run prog c=.ok () (fd c e (kx (cM l b (f,a)))):=
 vK (P:=prog) (T:=389) (kt:=2) (et:=394) (d:=.int .i64) Zk Zk (λb:Int=>.int .i64 b) (λa:Nat×Nat=>.agg #[.int .i64 a.1,.int .i64 a.2]) (λ_=>rfl) (λ_=>aeK _) Lu g h b (f,a)
section
variable {w0 b : Zw} {a : kA} {F : List Th} {bs : List (Nat × Obj)} {s : bb} {n : Nat} {o : Ty}
def DH(w0:Zw)(a:kA)(bs:Zo)(c:Ty)(v:Zv):Prop:=∀(F:List Th) (s:bb) (b:Zw) (n:Nat),af (Cm w0 a F bs s b)->bF s n->dO c<=n->Calls prog 129 #[Zp a.C,v] b (oH w0 a F bs (dZ c s) (.tuple #[]))
def RW{k x}(l:DH w0 a bs o (.iface k x))(d:Int)(c:Bool)(q:af (Cm w0 a F bs s b))(t:bF s n)(M:dO o+2<=n):Calls prog 208 #[Zp a.C,.agg #[.iface k x,.int .i64 d,.bool c]] b (oH w0 a F bs (dZ (.arr o d c) s) (.tuple #[])):=by
 have A:=U (q.i.A (.cells #[.iface k x,.int .i64 d,.bool c] 382))
 have u:bF (bg .hole s) (1+dO o):=bF.aW (t.cs Zm) _;have l:=U l;clear q;go_in;go_wp21;refine hO (qp (v:=.iface 449 (.agg #[.int .i64 0,.bool false,.int .i64 0])) (x:=.hole) A ⟨_,_,rfl⟩ t) λO h=>?_
 have w:=aE (h.i.ob (i:=0) rfl);go_wp21;refine hO (l.i _ _ _ _ h u Zm) λP r=>?_;clear w;go_wp21;refine hO (qp (v:=.iface 450 (.agg #[])) (x:=.again) r rfl (uW o u)) λR f=>?_
 have w:=aE (f.i.ob (i:=0) rfl);have m:(bg .again (dZ o (bg .hole s))).L.length=s.L.length+dO o+2:=by rw[xC,uE,xC];omega
 obtain⟨D,B,G,I,J,⟨a0,N⟩,K,j⟩:=f.i.ag.hv (i:=s.L.length) (x:=.array d c ((dZ o (bg .hole s)).L.length+1)) (v:=.iface 449 (.agg #[.int .i64 d,.bool c,.int .i64 ((bg .again (dZ o (bg .hole s))).L.length:Int)])) (by simp[mX,bg]) (by rw[m];omega)
 have j:=U j;have y:=U (uc (U f.i.ag));have L:(s.L.length:Int)<((bg .again (dZ o (bg .hole s))).L.length:Int):=by rw[m];omega
 clear m h r f;generalize (bg .again (dZ o (bg .hole s))).L.length=z at *
 go_wp21;refine bJ (λp=>p.cell? (Zd a.C 0)=some (.slice (some ⟨D,0,none⟩) z B)/\p.cell? (Zd b.heap.size 1)=some (.int .i64 d)/\p.cell? (Zd b.heap.size 2)=some (.bool c)) ?_ λE=>?_
 .go_keep
 refine bc [0,1,2,3,4,5,6,7] ?_;iterate 8 (refine bh ?_)
 refine be ?_;refine bI 8 λg e=>?_;(go_simp;go_at_call 128;refine y.i.mono ?_;rintro H S ⟨rfl,rfl⟩);refine e.out _ _ ?_ (λE=>?_)
 .go_keep
 clear e g;refine nz ?_;refine bc [9,10,11] ?_;iterate 3 (refine bh ?_)
 refine be ?_;refine bL λg e=>?_;go_simp;refine e.out _ _ ?_;clear e g;refine nz ?_;go_wp2;go_end0;exact⟨rfl,j.i.au⟩
def abw{j x}(t:DH w0 a bs o (.iface j x))(y:af (Cm w0 a F bs s b))(u:bF s n)(N:dO o+1<=n):Calls prog 209 #[Zp a.C,.agg #[.iface j x]] b (oH w0 a F bs (dZ (.opt o) s) (.tuple #[])):=by
 have b2:=nn;have I:=U (y.i.A (.cells #[.iface j x] 385))
 have P:bF (bg .hole s) (dO o):=bF.aW (u.cs N) _;have t:=U t;clear y;go_in;go_wp21;refine hO (qp (v:=.iface 392 (.agg #[.int .i64 0,.int .i64 0,.slice none 0 0,.bool false,.map none,.pointer none])) (x:=.hole) I ⟨_,_,rfl⟩ u) λb8 p=>?_
 have G:=aE (p.i.ob (i:=0) rfl);go_wp21;refine hO (t.i _ _ _ _ p P (Y4 _)) λf z=>?_;clear G p;have M:(dZ o (bg .hole s)).L.length=s.L.length+1+dO o:=by rw[uE,xC]
 have b3:=u.L;have g:=z.i.A (.map #[] 0);have H:=U (uc (U g));generalize k:(dZ o (bg .hole s)).L.length=c at *
 have R:=HB (l:=[]) (g.ob (i:=0) rfl) Zq 0 c 0;have q:=g.aW (i:=0) rfl (kx (cM [] 0 (c,0)));generalize fd (f.alloc (.map #[] 0)) f.heap.size _=W1 at *
 have S:=HB (l:=[(0,c,0)]) (q.ob (i:=0) rfl) Zq 1 (s.L.length+1) 1;have h:=q.aW (i:=0) rfl (kx (cM [(0,c,0)] 1 (s.L.length+1,1)));generalize fd W1 f.heap.size _=a3 at *
 have h:=U (Cm.c6 (F:=.obj b.heap.size (.cells #[.iface j x] 385)::F) (o:=kx [(0,c,0),(1,s.L.length+1,1)]) h)
 simp only[Int.natCast_add,Int.natCast_zero,Int.natCast_one]at R S;have b1:(s.L.length:Int)<(c:Int):=Zm;clear g q z M;go_wp21;refine H.i.mono ?_;rintro J b9 ⟨rfl,rfl⟩;obtain⟨a4,b7,b5,a6,a7,-,e⟩:=h.i;obtain⟨ad,D,rfl⟩:=aV e.row;rw[k]at e;have G:=aE e.aw;have w:=U e;clear e;go_wp21;refine bJ (λa0=>a0.cell? (Zd a.C 0)=some (.slice ad c D)) ?_ λK=>?_
 .go_keep
 refine bc [0,1,2,3,4,6] ?_;iterate 6 (refine bh ?_)
 refine be ?_;refine bI 5 λm d=>?_;(go_simp;go_at_call 207;refine(Em 4 _).mono ?_;rintro J a1 ⟨rfl,E⟩;have A:Cm w0 a _ _ _ a1:=(h.i.ag).ae E;obtain⟨a8,a5,B,L,a9,⟨c0,b4⟩,b0,r⟩:=A.hv (i:=s.L.length) (x:=.choice (dy 4) [(0,c,0),(1,s.L.length+1,1)] none) (v:=.iface 392 (.agg #[.int .i64 0,.int .i64 1,.slice none 0 0,.bool false,.map (some f.heap.size),.pointer none])) ⟨[.int .i64 0,.int .i64 1,.slice none 0 0,.bool false],f.heap.size,.pointer none,rfl,FM (n:=dy 4) _ (FO 4),Zq,rfl⟩ (by rw[k];omega);have r:=U r;have a2:=aB (i:=0) (v:=.slice ad c D) (w.i.bO.ag.ae E |>.bZ (i:=0) rfl) rfl;rw[k]at B L;cases B.symm.trans a2;clear A w)
 refine d.out _ _ ?_ (λK=>?_)
 .go_keep
 clear d m;refine nz ?_;refine bc [7,8,9] ?_;iterate 3 (refine bh ?_)
 refine be ?_;refine bL λm d=>?_;go_simp;refine d.out _ _ ?_;clear d m;refine nz ?_;go_wp2;go_end0;subst k;exact⟨rfl,(Cm.aR r.i λb6 O=>Y5 _ O).au⟩
def AT(g:Ty):DH w0 a bs g (fS g):=by
 have u:=zU g;induction g
 case' arr o d i c=>
  have c:=c (zU o);obtain⟨t,m,j⟩:=oy o;rw[j]at c
 case' opt o c=>
  have c:=c (zU o);obtain⟨t,m,j⟩:=oy o;rw[j]at c
 all_goals
  intro F s b n f h k;obtain⟨x,y,z,A,B,C,-⟩:=u;simp only[pC,yE,fS,if_true,Nat.reduceEqDiff,if_false, *]at x y z A B C ⊢
  simp only[dO]at k
 case named g p=>
  go_in;go_wp21;refine hO (SB g (f.i.cR _) h) λl e=>?_;go_wp2;go_end0;exact⟨rfl,e.i⟩
 case plain d=>
  go_in;go_wp21;refine(Em d _).mono ?_;rintro D E ⟨rfl,w⟩;have q:=U ((f.i.cR _).ae w);go_wp21;refine hO (qp (v:=.iface 247 (.agg (FL (dy d) (.slice none 0 0)))) (x:=.num (dy d)) q ⟨[.int .i64 (dy d).c4,.int .i64 (dy d).dp,.slice none 0 0,.bool (dy d).bB],rfl,FM _ (FO d)⟩ h) λG r=>?_
  go_wp2;go_end0;exact⟨rfl,r.i⟩
 case void=>
  go_in;go_wp2;go_end0;exact⟨rfl,f.i⟩
 case arr=>
  have c:=U c;go_in;go_wp21;refine hO (RW c.i d i (f.i.cR _) h k) λl e=>?_;go_wp2;go_end0;exact⟨rfl,e.i⟩
 case opt=>
  have c:=U c;go_in;go_wp21;refine hO (abw c.i (f.i.cR _) h k) λl e=>?_;go_wp2;go_end0;exact⟨rfl,e.i⟩
 all_goals
  rename_i d i;go_in;go_wp21;refine hO (qp (x:=.text d i) (f.i.cR _) rfl h) λl e=>?_;go_wp2;go_end0;exact⟨rfl,e.i⟩
def Eu(c:Ty)(d:af (Cm w0 a F bs s b))(g:bF s n)(m:dO c+1<=n):Calls prog 134 #[Zp a.C,fS c] b (oH w0 a F bs (ot c s) (.int .i64 s.L.length)):=by
 have e:=U (AT (w0:=w0) (a:=a) (bs:=bs) c);obtain⟨k,j,f⟩:=oy c;rw[f]at e ⊢;clear f;go_in;go_wp21;refine(uc d).mono ?_;rintro l o ⟨rfl,rfl⟩;go_wp21;refine hO (e.i _ _ _ _ d g Zm) λp h=>?_;go_wp21;refine hO (qp (v:=.iface 397 (.agg #[])) (x:=.fin) h rfl (uW (n:=1) c (g.cs Zm))) λq i=>?_
 go_wp2;go_ret;exact⟨rfl,i.i⟩
end
end
section
def NB(a:List Ty):∀{s:bb} {n:Nat},(∀b∈a,ji b)->bF s (n+3*a.length)->bF (a.foldl (λs b=>dZ b s) s) n:=by
 induction a with
 |nil=>simp
 |cons b a f=>
  intro s n c d;have g:=qX (c b Zq);exact f (λb e=>c b (Y5 _ e)) (uW b (d.cs Zg))
def Bi{h:Type}{c:h->Zl}{n:Nat}(e:∀l,(c l).length=n){ms:List h}{k d:Nat}(j:k<ms.length){g:Zw}(i:∀(a:Nat) (b:Zv),(ms.flatMap c)[a]?=some b->g.cell? (Zd d a)=some b)(a:Nat)(b:Zv)(f:(c ms[k])[a]?=some b):g.cell? ⟨d,k*n+a,none⟩=some b:=
 i _ _ ((EP e ms k a j (by have:=(YB.1 f).1;rw[e]at this;exact this)).trans f)
def sK{e:Zw}{g:Nat}{cs c}(a:e.heap[g]?=some (.cells cs c)):af (∀(v:Zw),ap [] e v->∀b,v.cell? (Zd g b)=cs[b]?):=λ_ d=>aE ((d.al _ (ay a) Zq).trans a)
abbrev ru(d c:Int)(a:Option Addr)(g b:Nat)(e:Bool):Zl:=[Y d,Y c,.slice a g b,.bool e]
def iF.aC{bs b n}(d:iF bs b n):∃h f a g c i,b=ru h f a g c i:=by
 obtain⟨j,e,_,k,l,m,rfl⟩:=d;exact⟨_,_,_,_,_,_,e⟩
abbrev Mb(a:Zv):Obj:=.cells #[Y (-2147483648),Y 2147483647,a,.bool false] 247
abbrev Ah:Obj:=.cells #[Y 0,Y 0,.slice none 0 0,.bool false] 247
def HU(w0:Zw)(a:kA)(f:List Th)(bs:Zo)(s:bb)(m:dJ)(j:Ending)(l:Zw):Prop:=∃d c e h i g b,j=.returned (.agg (ru d c e h i g).toArray)/\iF b (ru d c e h i g) m/\(∀k∈bs,k∈b)/\Cm w0 a f b s l
section
variable {w0 e : Zw} {a : kA} {f : List Th} {bs h : List (Nat × Obj)} {s : bb} {n g l : Nat} {b : Zb}
def afs{d}(J:gE h g (.struct b l d))(z:∀k∈h,w0.heap[k.1]?=some k.2)(P:∀j∈d,ji j.H)(u:af (Cm w0 a f bs s e))(y:bF s n)(a9:4+3*d.length<=n):Calls prog 132 #[Zp a.C,Zp g] e (oH w0 a f bs (tc d s) (.tuple #[])):=by
 obtain⟨b0,H,N⟩:=J;obtain⟨ad,a2,rfl,a8,B⟩:=N.hs z;have r:=sK (cs:=#[_,_,_]) (z _ H);have R:=r.i _ u.i.kp;have D:af (bF (bg (.struct d.length true) s) (3+3*d.length)):=bF.aW (y.cs Zm) _;have t:=U P;go_in;go_wp21;refine hO (qp (x:=.struct d.length true) u rfl y) λb4 v=>?_;have R:=r.i _ v.i.kp;go_wp2;go_loopw [21] (λq a0=>∃(i:Nat),q=Y i/\i<=d.length/\af (Cm w0 a f bs ((d.take i).foldl (λs j=>dZ j.H s) (bg (.struct d.length true) s)) a0)) (λq _=>d.length-(intOf q).toNat)
 case atStart=>exact⟨0,rfl,Zm,v⟩
 case round=>
  obtain⟨i,rfl,a7,o⟩:=hrel;rcases Yj i d.length with p|a4
  .obtain⟨F,rfl,a3,I⟩:=B.i Zm;have k:=Bi (c:=oa) (n:=3) (λ_=>rfl) p (I _ o.i.kp);have b1:wr.cell? ⟨F,i*3,none⟩=_:=k 0 _ rfl;have b2:=k 1 _ rfl;have S:=k 2 _ rfl;have M:bF ((d.take i).foldl (λs j=>dZ j.H s) (bg (.struct d.length true) s)) 3:=by
    have E:=NB ((d.take i).map (·.H)) (s:=bg (.struct d.length true) s) (n:=3) (by intro b O;obtain⟨j,L,rfl⟩:=YE.1 O;exact t.i j (List.mem_of_mem_take L)) (D.i.cs Zx);rwa[List.foldl_map]at E
   have m:=AT (w0:=w0) (a:=a) (bs:=bs) d[i].H;have A:af ((d.take (i+1)).foldl (λs j=>dZ j.H s) (bg (.struct d.length true) s)=dZ d[i].H ((d.take i).foldl (λs j=>dZ j.H s) (bg (.struct d.length true) s))):=by show _=_;rw[Yt p,YS];rfl
   obtain⟨a1,b3,G⟩:=oy d[i].H;rw[G]at S m;have m:=U m;have a5:(0:Int)<=↑i:=Zm;have a6:(↑i:Int) < ↑d.length:=Zm;go_wp21;refine hO (m.i _ _ _ _ (o.i.cR _) M (qX (t.i d[i] (Yy p)))) λb5 w=>?_;rw[<-A.i]at w;go_wp2;exact⟨⟨i+1,Zj,Zm,w⟩,Zz⟩
  .have K:i=d.length:=Zm;subst K;go_wp2;go_end0;refine⟨rfl,?_⟩;have:=o.i;rwa[YG]at this
def adS{b}(G:hx b)(d:af (Cm w0 a f bs s e)):Calls prog 210 #[Zp a.C,fS b] e (HU w0 a f bs s (jz s b)):=by
 have A:=zU b;have y:=d.i.A Ah;cases b<;>simp only[hx]at G
 case' named n p=>
  obtain⟨B,v,E,g,⟨L,rfl,m⟩,q⟩:=d.i.m4 n;obtain⟨r,o,u,w,h,t,rfl⟩:=m.aC;obtain⟨-,-,K,N,O⟩:=d.i.K;have q:=q _ (((ar [] e).A Ah).A (.cells #[Zs n,Y p] 260)).ag;have g:=U g;have x:=U m
 all_goals
  obtain⟨H,I,-⟩:=A;simp only[pC,yE,fS,if_true,Nat.reduceEqDiff,if_false]at H I ⊢
  go_in
 case named=>
  go_wp2;go_region;go_wp2;exact bodyPost_ret (v:=.agg #[Y r,Y o,.slice u w h,.bool t]) (by simp[results,results210,go_sem]) rfl ⟨r,o,u,w,h,t,B,rfl,x.i,E,((g.i.cR _).cR _).ag⟩
 case plain k=>
  go_wp21;refine(Em k _).mono ?_;rintro M P ⟨rfl,F⟩;have l:=(y.cR _).ae F;have c:=l.ob (i:=0) rfl;have h:=aE c;have R:=bi c;have S:=ay c;have J:=aE (GB (k':=Y (dy k).c4) (t':=Y (dy k).dp) (n':=.slice none 0 0) (a':=.bool (dy k).bB) c);have z:=U ((((l.aq (i:=0) (j:=0) rfl (Y (dy k).c4)).aq (i:=0) (j:=1) rfl (Y (dy k).dp)).aq (i:=0) (j:=2) rfl (.slice none 0 0)).aq (i:=0) (j:=3) rfl (.bool (dy k).bB));go_wp2;exact bodyPost_ret (v:=.agg #[Y (dy k).c4,Y (dy k).dp,.slice none 0 0,.bool (dy k).bB]) (by simp[results,results210,go_sem,J]) rfl ⟨(dy k).c4,(dy k).dp,none,0,0,(dy k).bB,bs,rfl,FM _ (FO k),λ_ D=>D,Cm.au z.i⟩
def RQ{d:aU}{ca cn cc}(p:af (Cm w0 a f bs s e))(z:bF s n)(y:dO d.H<=n):Calls prog 211 #[Zp a.C,.agg #[.slice ca cn cc,Zs d.t,Y d.y,fS d.H]] e (oH w0 a f bs (na d s) (.agg #[Y (rS d s).1,Y (rS d s).2])):=by
 obtain⟨-,-,-,-,-,-,k⟩:=zU d.H;have c:=AT (w0:=w0) (a:=a) (bs:=bs) d.H;have t:af (rS d s=(s.L.length,if kH d.H then 0 else 1)):=rfl
 have u:af (na d s=dZ d.H s):=rfl;rw[t.i,u.i];cases h:kH d.H
 case' true=>
  have g:d.H=.void:=by cases o:d.H<;>rw[o]at h<;>simp[kH]at h
  rw[g]at k ⊢
 case' false=>
  have g:yE d.H 444 (.agg #[])=#[.agg #[],.bool false]:=by cases o:d.H<;>rw[o]at h<;>simp[kH]at h<;>rfl
  simp only[pC,g]at k;obtain⟨G,J,x⟩:=oy d.H;rw[x]at k c ⊢;have c:=U c;have w:=U y
 all_goals
  simp only[pC,yE,fS,if_true,Ye,if_false]at k ⊢
  have q:=U λA=>(p.i.cR A).A (.cells #[Y 0,Y 0] 394);go_in;go_wp21;refine(uc (q.i _)).mono ?_;rintro g H ⟨rfl,rfl⟩
 .go_wp21;refine hO (c.i _ _ _ _ ((q.i _).A _) z w.i) λI m=>?_;have B:=aE (m.i.ob (i:=0) rfl);have l:=m.i.ob (i:=1) rfl;have D:=aE l;have E:=bi l;have F:=ay l;have r:=aE (ci (i:=1) (ci (i:=0) l (Y s.L.length)) (Y 1));have b:=(m.i.aq (i:=1) (j:=0) rfl (Y s.L.length)).aq (i:=1) (j:=1) rfl (Y 1);simp only[World.size_alloc]at B D E F r b;have b:=U b;go_wp2;exact bodyPost_ret (v:=.agg #[Y s.L.length,Y 1]) (by simp[results,results211,go_sem,r]) rfl ⟨rfl,b.i.au.au⟩
 .go_wp2;exact bodyPost_ret (v:=.agg #[Y s.L.length,Y 0]) (by simp[results,results211,go_sem]) rfl ⟨rfl,((((p.i.cR _).cR _).cR _))⟩
def ZC{i}(a7:gE h g (.enum b l i))(z:∀N∈h,w0.heap[N.1]?=some N.2)(a0:af (Cm w0 a f bs s e)):Calls prog 130 #[Zp g] e (HU w0 a f bs s (hn i)):=by
 obtain⟨d3,t,a4,b4,b5,a8⟩:=a7;obtain⟨ad,c5,rfl,b2,S⟩:=b5.hs z;have y:=U (((a0.i.A Ah).A (Mb (.slice none 0 0))).nil 2 1);have d2:=(sK (cs:=#[_,_,_]) (z _ a4)).i _ y.i.kp;have B:af (∀c (K:c<i.length) (L:c<t.length) (v:Zw),ap [] w0 v->v.cell? ⟨t[c],2,none⟩=some (Y i[c].2.2)):=λc K L v b7=>((sK (z _ (a8 c K L))).i v b7 2);have b6:(e.alloc Ah).heap.size=e.heap.size+1:=Zq;rw[b6]at y;go_in;go_wp2;go_loopw [12] (λc c0=>∃(d:Nat) (w:Zv),c=Y d/\d<=i.length/\(d=0->w=.slice none 0 0)/\af (Cm w0 a (.row 2 1 w d ((i.take d).map λb8=>Y b8.2.2)::.obj (e.heap.size+1) (Mb w)::.obj e.heap.size Ah::f) bs s c0)) (λc _=>i.length-(intOf c).toNat)
 case atStart=>exact⟨0,_,rfl,Zm,λ_=>rfl,y⟩
 case round=>
  obtain⟨d,w,rfl,c9,b3,k⟩:=hrel;have m:=k.i.ob (i:=1) rfl;have c1:=aE m;have c2:=bi m;have c3:=ay m;rcases Yj d i.length with q|c8
  .obtain⟨c6,rfl,c7,a6⟩:=S.i Zm;have d4:=a6 _ k.i.kp d (.pointer (some ⟨t[d],0,none⟩)) (by simp[b4▸q]);have b9:=B.i d q Zm _ k.i.kp;obtain⟨ad,a2,rfl⟩:=aV (k.i.th (i:=0) rfl);have d0:(0:Int)<=↑d:=Zm;have d1:(↑d:Int) < ↑i.length:=Zm;have b0:(d+1)*8<=140737488355328:=Zm;go_wp21;refine bJ (λO=>O.cell? ⟨e.heap.size+1,2,none⟩=some (.slice ad d a2)/\O.cell? ⟨t[d],2,none⟩=some (Y i[d].2.2)) ?_ λG=>?_
   .go_keep
   refine bc [0,1,2,3,4,5] ?_;iterate 6 (refine bh ?_)
   refine be ?_;refine bI 6 λC n=>?_;go_simp;refine n.out _ _ ?_ (λG=>?_)
   .go_keep
   refine nz ?_;refine bI 7 λC n=>?_;(refine lR Lp underlying245 (cf (k.i.th (i:=0) rfl) (((ar [] wr).A _).ag) Zq) [Y i[d].2.2] (heap_alloc_new wr _) Zy b0 (YV _) (H:=wr.heap.size+1) Zq ?_;intro F E d8 M J I b1;have x:=U (k.i.a3 (i:=0) rfl (((ar [] wr).A _).ag) M J I Zq);have m:=x.i.ob (i:=1) rfl;have c1:=aE m;have c2:=bi m;have c3:=ay m;have b9:=B.i d q Zm _ x.i.kp;clear M J I b1 m);refine n.out _ _ ?_ (λG=>?_)
   .go_keep
   refine nz ?_;refine pz 8 ?_;refine bL λC n=>?_;go_simp;refine n.out _ _ ?_;refine nz ?_;have P:=U (x.i.aq (i:=1) (j:=2) rfl (.slice (some ⟨F,0,none⟩) (d+1) E));go_wp2;refine⟨⟨d+1,.slice (some ⟨F,0,none⟩) (d+1) E,Zj,Zm,Zm,?_⟩,Zz⟩;rw[Yt q,List.map_append];exact P
  .have a9:d=i.length:=Zm;subst a9;obtain⟨o,p,rfl⟩:=aV (k.i.th (i:=0) rfl);obtain⟨D,A,a3,a5⟩:=k.i.gS b2;have u:=A.ob (i:=1) rfl;have d5:=aE u;have d6:=bi u;have d7:=ay u;have c4:=aE (GB (k':=Y (-2147483648)) (t':=Y 2147483647) (n':=.slice o i.length p) (a':=.bool false) u);have a1:=U ((((A.aq (i:=1) (j:=0) rfl (Y (-2147483648))).aq (i:=1) (j:=1) rfl (Y 2147483647)).aq (i:=1) (j:=2) rfl (.slice o i.length p)).aq (i:=1) (j:=3) rfl (.bool false));have R:af (iF D (ru (-2147483648) 2147483647 o i.length p false) (hn i)):=by
    refine⟨_,rfl,?_,_,_,_,rfl⟩;simp only[hn];by_cases r:i=[]
    .rw[Y9 r];exact b3 (by simp[r])
    .rw[Y2 r];exact⟨by simpa using r,by simpa[YG,Function.comp_def]using a3⟩
   go_wp2;exact bodyPost_ret (v:=.agg #[Y (-2147483648),Y 2147483647,.slice o i.length p,.bool false]) (by simp[results,results130,go_sem,c4]) rfl ⟨-2147483648,2147483647,o,i.length,p,false,D,rfl,R.i,a5,Cm.au (Cm.au a1.i)⟩
end
end
section
variable {e:TypeId}{a:Nat}{b:Zo}{c d:Zv}{w:Zw}
abbrev sx(b a:Int)(x:Option Addr)(f g:Nat)(e:Bool)(c:Nat)(d:Zv):Array Zv:=#[Y b,Y a,.slice x f g,.bool e,.map (some c),d]
abbrev AZ(v:Zv)(a:List Nat):Th:=.row 3 1 v a.length (a.map xf)
def wE(k:Zw)(h:kA)(g:List Th)(b:Zo)(f:Zv->Array Zv)(d:Nat)(a:lM)(i:Zv)(w:Zw):Prop:=
 (a.c5.map (·.1)).Nodup/\∃c e,(∀j∈b,j∈c)/\pG c (.pointer e) a.d2/\Cm k h (AZ i a.b4::.obj (d+1) (.cells (f (.pointer e)) 392)::.obj d (kx a.c5)::g) c a.s w
theorem Cm.g1{f d a c e}(g:Cm f d a b e w)(i:a.Perm c):Cm f d c b e w:=g.fY λh j=>j.g1 (i.append_right h)
theorem SI{b f g h:Zv}(i:w.heap[a]?=some (.cells #[c,d,b,f,g,h] e)):w.cell? (Zd a 0)=some c/\w.cell? (Zd a 1)=some d/\w.cell? (Zd a 2)=some b/\w.cell? (Zd a 3)=some f/\w.cell? (Zd a 4)=some g/\w.cell? (Zd a 5)=some h/\(∀j,w.frozen? ⟨a,j,none⟩=false)/\a<w.heap.size:=by
 refine⟨?_,?_,?_,?_,?_,?_,?_,ay i⟩<;>simp[World.cell?,World.frozen?,i]
theorem nW(f:w.heap[a]?=some (.cells #[c,d] e)):w.cell? (Zd a 0)=some c/\w.cell? (Zd a 1)=some d/\(∀b,w.frozen? ⟨a,b,none⟩=false)/\a<w.heap.size:=by
 grind [World.cell?,World.frozen?]
theorem pG.aR{d:Zo}(h:∀i∈b,i∈d){v c}(e:pG b v c):pG d v c:=by
 cases c with
 |none=>exact e
 |some j=>obtain⟨a,f,g⟩:=e;exact⟨a,f,h _ g⟩
theorem adr{b:lM}{a:Nat}{c:List Int×aU}(e:uG c.2.H)(d:bF b.s (a+4)):bF (ck b c).s a:=by
 have f:=qX e.e6;exact bF.aW (uW _ (d.cs Zm)) _
theorem NC:∀(a:List (List Int×aU)) {q:lM} {n:Nat},qD a->bF q.s (n+4*a.length)->bF (a.foldl ck q).s n:=by
 intro a;induction a with
 |nil=>simp
 |cons f a e=>
  intro q n b c;exact e (λg d=>b g (Y5 _ d)) (adr (b f Zq) (c.cs Zg))
theorem KG:∀(a:List (List Int×aU)) (b:lM),(a.foldl ck b).b4.length=b.b4.length+a.length:=by
 intro a;induction a<;>grind [ck]
theorem RV:∀(a:List (List Int×aU)) (b:lM),b.s.L.length<=(a.foldl ck b).s.L.length:=by
 intro a;induction a with
 |nil=>simp
 |cons d a c=>
  grind [ck,xC,na,uE]
theorem UM:∀(a:List (List Int×aU)) (b:lM),(∀c∈b.b4,c<b.s.L.length)->∀c∈(a.foldl ck b).b4,c<(a.foldl ck b).s.L.length:=by
 intro a;induction a with
 |nil=>simp
 |cons e a d=>
  grind [ck,xC,na,uE]
theorem Ba(b:List Nat):∀a:bb,(li b a).L.length=a.L.length:=by
 induction b with
 |nil=>intro a;rfl
 |cons c b d=>
  intro a;have:=d (dD c (.jump a.L.length) a);simp only[dD,YF]at this;exact this
theorem UH(c:List Nat)(b:Nat)(a:bb):li (c++[b]) a=dD b (.jump a.L.length) (li c a):=by
 grind [Ba,li]
theorem Lq:(prog.info? 3).map (λa=>(a.zero,a.size,a.bytes))=some (some (Y 0),1,8):=Zk
end
set_option maxHeartbeats 8000000 in
def agv{D h4:Zw}{x E c4 e3 g n e2 i8 l8 s c}(j5:gE e3 e2 (.union l8 i8 s c))(d3:∀h∈e3,D.heap[h.1]?=some h.2)(l0:hx s.H)(g9:qD c)(m:af (Cm D x E c4 g h4))(g5:bF g n)(o3:8+4*c.length<=n):Calls prog 133 #[Zp x.C,Zp e2] h4 (oH D x E c4 (rN s c g) (.tuple #[])):=by
 have o2:=nn;obtain⟨m7,e6,f3,n2,g7,f8⟩:=j5;obtain⟨m5,m6,rfl,o1,i5⟩:=g7.hs d3;have b8:=sK (cs:=#[_,_,_,_,_,_]) (d3 _ f3);have h0:=b8.i _ m.i.kp;obtain⟨m3,o7,f1⟩:=oy s.H;have R:=adS l0 m;rw[f1]at b8 h0 R;have R:=U R;have i6:af (bF (bg .hole g) (7+4*c.length)):=bF.aW (g5.cs Zm) _;have d8:=U g9;have h8:af (∀d (b6:d<c.length) (e8:d<e6.length),_):=λd b6 e8=>(f8 d b6 e8).hs d3;have l:af (lM.mk (bg .hole g) [] none []=lM.mk (bg .hole g) [] none []):=rfl;clear g9 f1 g7 f8 m f3;go_in;go_wp21;refine R.i.mono ?_;rintro e7 K ⟨z,y,k,t,B,A,S,rfl,f0,f4,w⟩;have w:=(w.A (.map #[] 0)).A (.cells (sx z y k t B A K.heap.size (.pointer none)) 392);have l1:(K.alloc (.map #[] 0)).heap.size=K.heap.size+1:=Zq;rw[l1]at w;have w:=U w;have i0:=U f0;have h6:=U f4;clear f0 f4 R;go_wp21;refine hO (qp (v:=.iface 392 (.agg (sx z y k t B A K.heap.size (.pointer none)))) (x:=.hole) w ⟨_,_,rfl⟩ g5) λm0 c1=>?_
 have e1:af (wE D x E S (sx z y k t B A K.heap.size) K.heap.size ⟨bg .hole g,[],none,[]⟩ (.slice none 0 0) m0):=⟨Zq,S,none,λ_ b6=>b6,rfl,c1.i.nil 3 1⟩;have h0:=b8.i _ c1.i.kp;clear w c1;generalize K.heap.size=j at *
 generalize g3:lM.mk (bg .hole g) [] none []=l at *
 have F:=U g3;clear g3;go_wp21;go_loopw [32,6] (λd i9 a5=>∃f:Nat,d=Y f/\f<=c.length/\af (wE D x E S (sx z y k t B A j) j ((c.take f).foldl ck l) i9 a5)) (λd _ _=>c.length-(intOf d).toNat)
 case atStart=>exact⟨0,rfl,Zm,e1⟩
 case round=>
  rename Zw=>h5;obtain⟨f,rfl,n9,b1⟩:=hrel;clear e1;rcases Yj f c.length with d2|n3
  .have g6:bF ((c.take f).foldl ck l).s 7:=NC (c.take f) (λk l2=>d8.i k (List.mem_of_mem_take l2)) (i6.i.cs Zx |> (F.i▸·));have b7:((c.take f).foldl ck l).b4.length=f:=by rw[KG,<-F.i];simp;omega
   obtain⟨a3,b2,a4,L,N,m⟩:=b1.i;have i3:af ((c.take (f+1)).foldl ck l=ck ((c.take f).foldl ck l) c[f]):=by show _=_;rw[Yt d2,YS];rfl
   generalize (c.take f).foldl ck l=a at *
   obtain⟨b5,rfl,d0,f5⟩:=i5.i Zm;have h:=Bi (n:=4) (λ_=>rfl) (ms:=c.zip e6) Zx (f5 _ m.kp) (k:=f);simp only[List.getElem_zip]at h;obtain⟨b3,b4,f7,j3,h7⟩:=h8.i f d2 Zm;have b9:=U (d8.i c[f] (Yy d2)).e6;rw[f7]at h;generalize c[f]=i7 at *
   obtain⟨e,i⟩:=i7;have l4:h5.cell? ⟨b5,f*4,none⟩=_:=h 0 _ rfl;have l5:=h 1 _ rfl;have l6:=h 2 _ rfl;have h1:=h 3 _ rfl;simp only at l4 l5 l6 h1 j3 b9;obtain⟨e0,h3,e9⟩:=oy i.H;have w:=U (m.A (.cells #[.slice b3 e.length b4,Zs i.t,Y i.y,.iface e0 h3] 363))
   have P:=RQ (ca:=b3) (cn:=e.length) (cc:=b4) (d:=i) w g6 (by have:=qX b9.i;omega);rw[e9]at h1 P;have P:=U P;have b0:af (ck a (e,i)=lM.mk (bg (.jump 0) (na i a.s)) (e.foldl (λr n=>cM r n (rS i a.s)) a.c5) (if e=[]then some (rS i a.s)else a.d2) (a.b4++[(na i a.s).L.length])):=rfl
   have k9:af (bF (na i a.s) 1):=uW _ (g6.cs (by have:=qX b9.i;omega));obtain⟨c6,c7,rfl⟩:=aV (m.th (i:=0) rfl);have k6:(a.b4.length+1)*8<=140737488355328:=Zm;have o0:a.b4.length+1<=2000:=Zm;have n4:(0:Int)<=↑f:=Zm;have n5:(↑f:Int) < ↑c.length:=Zm;generalize na i a.s=d5 at *
   generalize rS i a.s=m1 at *
   obtain⟨q,u⟩:=m1;have i2:=U N;have a8:=U L;have i1:=U a3;clear m w N L a3 e9 h f5 b7 f7 b1;go_wp21;refine hO P.i λd6 d9=>?_;have G:=U (d9.i.A (.cells #[Y q,Y u] 394));clear d9 P;go_wp21;refine hO (qp (v:=.iface 396 (.agg #[Y 0])) (x:=.jump 0) G rfl k9.i) λa6 c2=>?_
   have g1:af (∀d4,(a6.alloc d4).ownsRow 0 3 1 (.slice c6 a.b4.length c7) a.b4.length (a.b4.map xf)):=λd4=>cf (c2.i.th (i:=2) rfl) ((ar [] a6).A d4) Zq;clear G;go_wp2_with (first
    |(at_builtin;refine kE Lq underlying24 (g1.i _) [.int .i64 d5.L.length] (heap_alloc_new a6 _) Zy k6 (YV _) (H:=a6.heap.size+1) Zq ?_;intro c8 c5 o5 g2 g0 f2 k7;have c3:=U (c2.i.a3 (i:=2) rfl ((ar [] a6).A _) g2 g0 f2 Zq);have l7:=aE (c3.i.ob (i:=1) rfl);clear c2 g1 g2 g0 f2 k7)
    |fail)
   go_loopw [49] (λd a5=>∃b:Nat,d=Y b/\b<=e.length/\af ((((e.take b).foldl (λr n=>cM r n (q,u)) a.c5).map (·.1)).Nodup/\Cm D x (.obj d6.heap.size (.cells #[Y q,Y u] 394)::.obj h5.heap.size (.cells #[.slice b3 e.length b4,Zs i.t,Y i.y,.iface e0 h3] 363)::AZ (.slice (some ⟨c8,0,none⟩) (a.b4.length+1) c5) (a.b4++[d5.L.length])::.obj (j+1) (.cells (sx z y k t B A j (.pointer a4)) 392)::.obj j (kx ((e.take b).foldl (λr n=>cM r n (q,u)) a.c5))::E) b2 (bg (.jump 0) d5) a5)) (λd _=>e.length-(intOf d).toNat)
   case atStart=>exact⟨0,rfl,Zm,i1.i,by simpa[AZ]using c3.i⟩
   case round=>
    obtain⟨b,rfl,k0,p⟩:=hrel;clear c3;obtain⟨O,o⟩:=p.i;have o4:=aE (o.ob (i:=0) rfl);have l7:=aE (o.ob (i:=1) rfl);have a7:=o.ob (i:=3) rfl;have m2:=aE a7;have o9:=bi a7;have p0:=ay a7;rcases Yj b e.length with M|k3
    .obtain⟨j0,rfl,n1,f6⟩:=h7.i Zm;have j4:=f6 _ o.kp b (Y e[b]) (by simp[M]);have h2:=HB (o.ob (i:=4) rfl) O e[b] q u;have a1:=Yp (uj O e[b] (q,u)) (o.aW (i:=4) rfl (kx (cM ((e.take b).foldl (λr n=>cM r n (q,u)) a.c5) e[b] (q,u))));have f9:cM ((e.take b).foldl (λr n=>cM r n (q,u)) a.c5) e[b] (q,u)=(e.take (b+1)).foldl (λr n=>cM r n (q,u)) a.c5:=by rw[Yt M,YS];rfl
     rw[f9]at h2 a1;generalize fd wr j _=m4 at h2 a1;have a1:=U a1;have k1:(0:Int)<=↑b:=Zm;have k2:(↑b:Int) < ↑e.length:=Zm;clear p o f9 O f6 a7;go_wp2;exact⟨⟨b+1,Zj,Zm,a1⟩,Zz⟩
    .have d1:b=e.length:=Zm;subst d1;rw[YG]at O o;have d7:=U O;have o:=U o;by_cases a2:e=[];case' pos=>
      have j2:((e.length:Int)==0)=true:=by simp[a2]
      have I:af (wE D x E S (sx z y k t B A j) j (ck a (e,i)) (.slice (some ⟨c8,0,none⟩) (a.b4.length+1) c5) (wr.setCell ⟨j+1,5,none⟩ (Zp d6.heap.size))):=by
       show wE ..;rw[b0.i,Y9 a2];exact⟨d7.i,_,_,λh J=>Y5 _ (a8.i h J),⟨_,rfl,Yb⟩,(o.i.aq (i:=3) (j:=5) rfl (Zp d6.heap.size)).c6.au⟩
     case' neg=>
      have j2:((e.length:Int)==0)=false:=by simpa using a2
      have I:af (wE D x E S (sx z y k t B A j) j (ck a (e,i)) (.slice (some ⟨c8,0,none⟩) (a.b4.length+1) c5) wr):=by
       show wE ..;rw[b0.i,Y2 a2];exact⟨d7.i,_,_,a8.i,i2.i,o.i.au.au⟩
     all_goals
      clear p o O a7 a2;go_wp2;refine⟨⟨f+1,Zj,Zm,?_⟩,Zz⟩;rw[i3.i];exact I
  .have k4:f=c.length:=Zm;subst k4;obtain⟨a3,b2,a4,L,N,m⟩:=b1.i;rw[YG]at a3 N m;have k8:=RV c l;have g4:=UM c l (by rw[<-F.i];intro e7 j6;cases j6);have b7:(c.foldl ck l).b4.length=c.length:=by rw[KG,<-F.i];simp
   have b0:af (rN s c g=li (c.foldl ck l).b4 (dD g.L.length (.choice (jz g s.H) (c.foldl ck l).c5 (c.foldl ck l).d2) (c.foldl ck l).s)):=by rw[<-F.i];rfl
   rw[<-F.i,xC,F.i]at k8;generalize c.foldl ck l=a at *
   have m2:=aE (m.ob (i:=1) rfl);have p:=(m.g1 (List.perm_middle (l₁:=[_,_]))).c6;obtain⟨b5,e5,e4,d0,j8,⟨o8,l3⟩,j9,G⟩:=p.ag.hv (i:=g.L.length) (x:=.choice (jz g s.H) a.c5 a.d2) (v:=.iface 392 (.agg (sx z y k t B A j (.pointer a4)))) ⟨ru z y k t B A,j,.pointer a4,rfl,i0.i.aR (λh J=>Y5 _ (L h J)),Yb,N.aR (λh J=>Y5 _ J)⟩ Zm
   have n6:(g.L.length:Int)<(a.s.L.length:Int):=Zm;obtain⟨c6,c7,rfl⟩:=aV (m.th (i:=0) rfl);have G:=U G;have a8:af (∀h∈c4,h∈(j,kx a.c5)::b2):=λh J=>Y5 _ (L h (h6.i h J));have i4:=U g4;have h9:=U b7;clear m p L N a3 g4 b1 b7;go_wp2;go_region;go_wp2;go_loopw [74] (λd a5=>∃b:Nat,d=Y b/\b<=a.b4.length/\af (Cm D x (AZ (.slice c6 a.b4.length c7) a.b4::.obj (j+1) (.cells (sx z y k t B A j (.pointer a4)) 392)::E) ((j,kx a.c5)::b2) (li (a.b4.take b) (dD g.L.length (.choice (jz g s.H) a.c5 a.d2) a.s)) a5)) (λd _=>a.b4.length-(intOf d).toNat)
   case atStart=>exact⟨0,rfl,Zm,G⟩
   case round=>
    obtain⟨b,rfl,k0,p⟩:=hrel;clear G;rcases Yj b a.b4.length with M|k3
    .have c9:(li (a.b4.take b) (dD g.L.length (.choice (jz g s.H) a.c5 a.d2) a.s)).L.length=a.s.L.length:=by rw[Ba];simp[dD]
     obtain⟨j0,m8,k5,n0,j4⟩:=zu (j:=b) (y:=Y a.b4[b]) (p.i.th (i:=0) rfl) (by simp[M]);have a9:=uc (U p.i.ag);have j7:=i4.i _ (Yy M);obtain⟨b5,e5,e4,d0,j8,⟨q,l3⟩,j9,I⟩:=p.i.ag.hv (i:=a.b4[b]) (x:=.jump a.s.L.length) (v:=.iface 396 (.agg #[Y a.s.L.length])) rfl (by rw[c9];exact j7)
     have g8:dD a.b4[b] (.jump a.s.L.length) (li (a.b4.take b) (dD g.L.length (.choice (jz g s.H) a.c5 a.d2) a.s))=li (a.b4.take (b+1)) (dD g.L.length (.choice (jz g s.H) a.c5 a.d2) a.s):=by
      rw[Yt M,UH];simp[dD]
     rw[g8]at I;rw[c9]at e4 d0 a9;cases k5
     have I:=U I;have a9:=U a9;have k1:(0:Int)<=↑b:=Zm;have k2:(↑b:Int) < ↑a.b4.length:=Zm;have n8:(↑(a.b4[b]):Int) < ↑a.s.L.length:=Zm;have n7:a.b4.length<=1000:=by have:=h9.i;omega
     clear p g8 c9;generalize a.b4[b]=m9 at *
     go_wp21;refine bJ (λl9=>l9.cell? (Zd x.C 0)=some (.slice (some ⟨b5,0,none⟩) a.s.L.length e5)) ?_ λj1=>?_
     .go_keep
     refine bc [0,1,2,3,4,5] ?_;iterate 6 (refine bh ?_)
     refine be ?_;refine bI 6 λc0 a0=>?_;(go_simp;go_at_call 128;refine a9.i.mono ?_;rintro e7 o6 ⟨rfl,rfl⟩);refine a0.out _ _ ?_ (λj1=>?_)
     .go_keep
     clear a0 c0;refine nz ?_;refine bc [7,8,9] ?_;iterate 3 (refine bh ?_)
     refine be ?_;refine bL λc0 a0=>?_;go_simp;refine a0.out _ _ ?_;clear a0 c0;refine nz ?_;go_wp2;exact⟨⟨b+1,Zj,Zm,I⟩,Zz⟩
    .have d1:b=a.b4.length:=Zm;subst d1;go_wp2;go_end0;refine⟨rfl,?_⟩;rw[b0.i];have:=p.i;rw[YG]at this;exact(this.aR a8.i).au.au
section
variable {c:List Th}{a:kA}{b n:Nat}{bs:Zo}{d:aD}{s:bb}{w w0:Zw}
def Cm.n0{v x}(t:Cm w0 a c bs s w)(I:Dx bs v x)(n:Zb):∃k,(Instr.mapUpdate 164 (.map (some a.E)) (Zs n) v).run prog w=.ok () k/\Cm w0 a c bs { s with cZ:=cM s.cZ n x } k/\∀g,ap [] k g->(Instr.lookup 164 (.map (some a.E)) (Zs n) false).run prog g=.ok v g:=by
 obtain⟨l,r,q,m,f,p,b⟩:=t;have o:(Th.obj a.E (nB (f.map λe=>(.string ⟨e.1.toArray⟩,e.2.2)))).At w:=b.bO.bZ (i:=4) rfl;obtain⟨B,C,D,F⟩:=FV o (nB ((cM f n (x,v)).map λe=>(.string ⟨e.1.toArray⟩,e.2.2)));have j:iu w0 a c l { s with cZ:=cM s.cZ n x } r q m (cM f n (x,v)) _:=⟨b.bO.gk (i:=4) rfl B C D F,b.g4,uj b.g6 ..,by show cM s.cZ n x=_;rw[b.hd];exact(FD (λJ:dJ×Zv=>J.1) f n (x,v)).symm,λe G=>(FE G).elim (b.he e) λy=>y▸(by obtain⟨u,z,A⟩:=I;exact⟨u,z,A.aR p⟩),b.g5,b.g7⟩;refine⟨_,vK (P:=prog) (T:=164) (kt:=9) (et:=247) (d:=.string) Zk Zk (λh:Zb=>Zs h) (λh:dJ×Zv=>h.2) (λ_=>trivial) (λ_=>GM _) xT o b.g6 n (x,v),⟨l,r,q,m,_,p,j⟩,λg H=>?_⟩;have:=HN { j with bO:=j.bO.ae H } n;rwa[vN,Y9 rfl]at this
def yf:aD->Prop
 |.struct _ _ b=>b.length<=1000
 |.union _ _ _ a=>a.length<=1000
 |_=>True
def fh.bm{a v c}(b:fh bs a v n c):n<=1000:=by
 rcases b with⟨_,d,_⟩|⟨_,_,_,_,⟨_,e⟩,_⟩<;>omega
theorem Kr(a:gE bs b d):yf d:=by
 cases d with
 |struct e c g=>exact a.choose_spec.2.bm
 |union e c h f=>exact a.choose_spec.choose_spec.2.2.1.bm
 |_=>trivial
def bF.l7(a:bF s (n+1))(c:Zb)(b:Nat):bF (lf c b s) n:=⟨(a.aW .ret).L,(a.aW .ret).aJ⟩
def Ro(a:bF s n)(b:List Nat):bF (li b s) n:=⟨by rw[Ba];exact a.L,by rw[Ba,(UK b s).2.1];exact a.aJ⟩
def ab4(d:aD)(s:bb):bb:=match d with
 |.typedef d=>dZ d.H s
 |.enum e _ a=>bg (.num (hn a)) { s with cZ:=cM s.cZ e (hn a) }
 |.struct _ _ a=>tc a s
 |.union _ _ c b=>rN c b s
 |_=>s
def Iw(e:ts d)(g:yf d)(a:bF s (n+4100)):bF (ab4 d s) (n+1):=by
 cases d with
 |typedef d=>exact uW _ (a.cs (by have:=qX (lF.e6 e);omega))
 |enum c h b=>exact bF.aW (s:={ s with cZ:=cM s.cZ c (hn b) }) (n:=n+1) ⟨by have:=a.L;show s.L.length+(n+2)<1000000;omega,a.aJ⟩ _
 |struct c h b=>
  have j:b.length<=1000:=g;have i:=NB (b.map (·.H)) (s:=bg (.struct b.length true) s) (n:=n+1) (by intro c l;obtain⟨m,k,rfl⟩:=YE.1 l;exact(e m k).e6) (bF.aW (a.cs Zx) _);rwa[List.foldl_map]at i
 |union c h o f=>
  have j:f.length<=1000:=g;exact Ro (bF.aq (NC f (q:=⟨bg .hole s,[],none,[]⟩) (n:=n+1) e.2 (bF.aW (a.cs Zm) _)) ..) _
 |_=>exact a.cs Zm
def Rm(e:ts d)(c:yf d)(a:bF s (n+4100)):bF (hP d s) n:=by
 have b:=Iw e c a;cases d<;>first|exact b.l7 _ _|exact a.cs Zm
def tn(a:TypeId)(b:Nat)(c:TypeId):Prop:=∀d,(Instr.typeAssert (.iface a (Zp b)) 157 c true).run prog d=.ok (.tuple (if a=c then #[Zp b,.bool true]else #[.pointer none,.bool false])) d
def Kq(d:aD)(b:Nat):tn (fv d) b 225/\tn (fv d) b 227/\tn (fv d) b 229/\tn (fv d) b 231/\tn (fv d) b 233:=by
 cases d<;>(refine⟨?_,?_,?_,?_,?_⟩<;>(intro a;kernel_rfl))
def Uj{a0}(j:gE a0 b d)(l:∀z∈a0,w0.heap[z.1]?=some z.2)(q:ts d)(f:af (Cm w0 a c bs s w))(p:bF s n)(d7:5000<=n):Calls prog 76 #[Zp a.C,.iface (fv d) (Zp b)] w (oH w0 a c bs (hP d s) (.tuple #[])):=by
 have a9:=U j;have b1:=U l;have a7:=Kq d b;have I:=f.i.kp;have J:=Kr j;have b2:=U (Iw (n:=0) q J (p.cs Zm));obtain⟨-,b4,b5,d2,d3⟩:=f.i.K;cases d
 all_goals
  obtain⟨c3,c4,c5,c6,-⟩:=a7;simp only[tn,fv,if_true,Nat.reduceEqDiff,if_false]at c3 c4 c5 c6 ⊢
 case' typedef d=>
  obtain⟨k,G,M⟩:=d;have a4:=(sK (cs:=#[_,_,_]) (l _ j)).i _ I;obtain⟨c9,m,b6⟩:=oy M;have d4:=qX (show lF M from q).e6;have o:=AT (w0:=w0) (a:=a) (bs:=bs) M c s w n f p Zm;rw[b6]at a4 o;have o:=U o
 case' enum k G ms=>
  obtain⟨d9,e0,b7,-⟩:=id j;have A:=sK (cs:=#[_,_,_]) (l _ b7);have a4:=A.i _ I;have b3:=U (ZC j l (U f.i.ag))
 case' struct k G ms=>
  have b8:ms.length<=1000:=J;have o:=U (afs j l (λc2 b9=>(q c2 b9).e6) f p Zm)
 case' union k G sel arms=>
  have b8:arms.length<=1000:=J;have o:=U (agv j l q.1 q.2 f p Zm)
 all_goals
  clear j l q I
 case' enum=>
  go_in;go_wp21;refine(uc f).mono ?_;rintro u a5 ⟨rfl,rfl⟩;go_wp21;refine bJ (λi=>i.cell? (Zd a.C 2)=some (.map (some a.E))/\i.cell? (Zd b 0)=some (Zs k)) ?_ λx=>?_
  .go_keep
  refine bc [0,1,2,3,4,5,6,7,8,9] ?_;iterate 10 (refine bh ?_)
  refine be ?_;refine bI 10 λh e=>?_;(go_simp;go_at_call 130;refine b3.i.mono ?_;rintro u e3 ⟨L,K,m,O,P,N,d0,rfl,H,a1,t⟩;have e2:=t.K.2.2.1;have e1:=A.i _ t.kp;obtain⟨a6,a3,g,y⟩:=t.n0 (v:=.agg (ru L K m O P N).toArray) (x:=hn ms) ⟨_,rfl,H⟩ k;have g:=U g;have R:=U H;have a8:=U a1;have b0:=U y;clear t a1 H y);refine e.out _ _ ?_ (λx=>?_)
  .go_keep
  clear e h;refine nz ?_;refine bL λh e=>?_;go_simp;refine e.out _ _ ?_;clear e h;refine nz ?_;clear a3;have y:=b0.i _ (ar [] a6).ag;have b5:=g.i.K.2.2.1;have d8:=A.i _ g.i.kp;have S:=U (qp (v:=.iface 247 (.agg (ru L K m O P N).toArray)) (x:=.num (hn ms)) (n:=1) (U g.i.ag) ⟨_,rfl,R.i⟩ ⟨by have:=p.L;show s.L.length+1<1000000;omega,p.aJ⟩)
  clear g R;go_wp21;refine bJ (λi=>i.cell? (Zd a.C 2)=some (.map (some a.E))/\i.cell? (Zd b 0)=some (Zs k)/\(Instr.lookup 164 (.map (some a.E)) (Zs k) false).run prog i=.ok (.agg (ru L K m O P N).toArray) i) ?_ λx=>?_
  .go_keep
  refine bc [0,1,2,3,4,5,6,7,8,9,10,11] ?_;iterate 12 (refine bh ?_)
  refine be ?_;refine bL λh e=>?_;(go_simp;go_at_call 131;refine hO S.i λc7 r=>?_);refine e.out _ _ ?_;clear e h;refine nz ?_;have r:=U (r.i.aR a8.i);clear S y
 case const|prog=>
  go_in;go_wp21;refine(uc f).mono ?_;rintro u a5 ⟨rfl,rfl⟩;go_wp2;first
   |(go_end0;exact⟨rfl,f.i⟩)
   |exact bodyPost_ret (v:=.tuple #[]) (by simp[results,results76,go_sem]) rfl ⟨rfl,f.out⟩
 case' typedef|struct|union=>
  go_in;go_wp21;refine(uc f).mono ?_;rintro u a5 ⟨rfl,rfl⟩;go_wp21;refine hO o.i λc7 r=>?_
 all_goals
  go_wp21;refine hO (qp (v:=.iface 257 (.agg #[])) (x:=.ret) r rfl b2.i) λc8 D=>?_
  have c1:=zT a9.i (w:=c8.drew) (X:=[]) λz c0=>⟨D.i.e8 (b1.i z c0),Zq⟩;have d5:=yw;have d6:=Bf 160;dsimp only[fv,cd]at c1;have b4:=D.i.K.2.1;clear r;go_wp21;refine bJ (λi=>i.cell? (Zd a.C 1)=some (.map (some a.B))) ?_ λx=>?_
  .go_keep
  refine bc [0,1,2,3,4,7] ?_;iterate 6 (refine bh ?_)
  refine be ?_;refine bI 5 λh e=>?_;(go_simp;go_at_call 327;refine(yv _ _ _).mono ?_;rintro u a6 ⟨rfl,a2⟩;have g:=D.i.ag.ae (ed [] a2);have d1:=g.K.2.1;obtain⟨e4,a3,F⟩:=g.nT k s.L.length;have F:=U F;clear g a2);refine e.out _ _ ?_ (λx=>?_)
  .go_keep
  clear e h;refine nz ?_;refine pz 6 ?_;refine bL λh e=>?_;go_simp;refine e.out _ _ ?_;clear e h;refine nz ?_;go_wp2;go_end0;exact⟨rfl,F.i⟩
end
abbrev qd(a:bb)(c:List (Nat×Zb)):bb:=c.foldl (λa b=>dD b.1 (.call ((aP a.b1 b.2).getD 0)) a) a
def LS:∀(b:List (Nat×Zb)) (a:bb),(qd a b).L.length=a.L.length/\(qd a b).b1=a.b1/\(qd a b).aJ=a.aJ:=by
 intro b;induction b with
 |nil=>simp
 |cons c b d=>
  intro a;obtain⟨e,f,g⟩:=d (dD c.1 (.call ((aP a.b1 c.2).getD 0)) a);grind [dD]
def XE(b:List (Nat×Zb))(a:Nat×Zb)(c:bb):qd c (b++[a])=dD a.1 (.call ((aP (qd c b).b1 a.2).getD 0)) (qd c b):=by
 simp
def Xv{l G d j K a n}(I:af (Cm l d j K a G))(R:∀b4∈a.aJ,b4.1<a.L.length)(S:bF a n):Calls prog 79 #[Zp d.C] G (oH l d j K (vF a) (.tuple #[])):=by
 obtain⟨o,F,d2,a9,t,P,c⟩:=I.i;obtain⟨a2,a3,rfl⟩:=aV c.iS;have a8:=aE c.aw;have H:=U R;have a6:=U P;have c9:=S.L;have d0:=S.aJ;have J:af (∃k,iu l d j o (qd a (a.aJ.take 0)) F (.slice a2 a.aJ.length a3) k t G):=⟨a9,c⟩;clear c R I P;go_in;go_wp2;go_loopw [9] (λf b5=>∃b:Nat,f=Y b/\b<=a.aJ.length/\af (∃k,iu l d j o (qd a (a.aJ.take b)) F (.slice a2 a.aJ.length a3) k t b5)) (λf _=>a.aJ.length-(intOf f).toNat)
 case atStart=>exact⟨0,rfl,Zm,J⟩
 case round=>
  obtain⟨b,rfl,c3,p⟩:=hrel;clear J;obtain⟨r,s,M⟩:=LS (a.aJ.take b) a;obtain⟨k,c⟩:=p.i;rcases Yj b a.aJ.length with u|c7
  .have b2:=H.i _ (Yy u);have A:af (qd a (a.aJ.take (b+1))=dD a.aJ[b].1 (.call ((aP a.b1 a.aJ[b].2).getD 0)) (qd a (a.aJ.take b))):=by show _=_;rw[Yt u,XE,s]
   have w:=c.iS;rw[M]at w;have E:=λ(f:Nat) (a5:Zv) a1=>zu (j:=b*2+f) (y:=a5) w ((EP (c:=yK) (n:=2) (λ_=>rfl) a.aJ b f u (by have:=(YB.1 a1).1;exact this)).trans a1);obtain⟨b0,b6,y,c0,a4⟩:=E 0 _ rfl;cases y
   replace a4:wr.cell? ⟨b0,b*2,none⟩=_:=a4;obtain⟨N,L,y,-,d3⟩:=E 1 _ rfl;cases y
   have b7:=aE c.aw;have b8:=ay c.aw;generalize a.aJ[b].1=g at *
   generalize a.aJ[b].2=e at *
   have q:iu l d j o (qd a (a.aJ.take b)) F _ k t (wr.alloc (.cells #[Y g,Zs e] 269)).drew:={ c with bO:=c.bO.ae ((ar [] wr).A _).ag };have z:=q.cm.kM e false;rw[s]at z;obtain⟨h,D⟩:∃h,h=(aP a.b1 e).getD 0:=⟨_,rfl⟩;have c8:(Instr.lookup 103 (.map (some d.B)) (Zs e) false).run prog (wr.alloc (.cells #[Y g,Zs e] 269)).drew=.ok (Y h) (wr.alloc (.cells #[Y g,Zs e] 269)).drew:=by
    rw[z,D];cases aP a.b1 e<;>rfl
   rw[<-D]at A;obtain⟨N,L,a0,b1,c1,⟨d4,d1⟩,c2,m⟩:=q.hv (i:=g) (x:=.call h) (v:=.iface 271 (.agg #[Y h])) rfl (by rw[r];exact b2)
   rw[r]at a0 b1;rw[<-A.i]at m;have m:=U m;have c4:(0:Int)<=↑b:=Zm;have c5:(↑b:Int) < ↑a.aJ.length:=Zm;have c6:(↑g:Int) < ↑a.L.length:=Zm;subst a0;clear p c q A z r s M D H E w;go_wp21;refine bJ (λi=>i.cell? (Zd d.C 0)=some (.slice (some ⟨N,0,none⟩) a.L.length L)/\i.cell? (Zd d.C 1)=some (.map (some d.B))/\i.cell? (Zd wr.heap.size 0)=some (Y g)/\i.cell? (Zd wr.heap.size 1)=some (Zs e)/\(Instr.lookup 103 (.map (some d.B)) (Zs e) false).run prog i=.ok (Y h) i) ?_ λb9=>?_
   .go_keep
   refine bc [0,1,2,3,4,5,6,7,8,9,10,11,12,13,14,15] ?_;iterate 16 (refine bh ?_)
   refine be ?_;refine bL λa7 O=>?_;go_simp;refine O.out _ _ ?_;clear O a7;refine nz ?_;go_wp2;exact⟨⟨b+1,Zj,Zm,_,m.i⟩,Zz⟩
  .have b3:b=a.aJ.length:=Zm;subst b3;rw[YG]at c;have c:=U c;clear p;go_wp2;go_end0;exact⟨rfl,o,_,_,_,_,a6.i,c.i⟩
def Iv:∀(b:List aD) {c:bb} {d:Nat},(∀a∈b,ts a)->(∀a∈b,yf a)->bF c (d+4100*b.length)->bF (b.foldl (λc a=>hP a c) c) d:=by
 intro b;induction b with
 |nil=>intro c d _ _ f;exact f
 |cons a b j=>
  intro c d h i f;exact j (λe g=>h e (Y5 _ g)) (λe g=>i e (Y5 _ g)) (Rm (h a Zq) (i a Zq) (f.cs (by simp only[YC];omega)))
theorem Rp{b}{a:Nat}(d:bF b (a+2))(c:Zb):bF (zN c b) a:=bF.aW (bF.call d c) _
def Iz:∀(a:List aD) {p:bb×List (Zb×Nat)} {c:Nat},bF p.1 (c+2*a.length)->bF (a.foldl eH p).1 c:=by
 intro a;induction a with
 |nil=>intro p c b;exact b
 |cons e a d=>
  intro p c b;refine d ?_;unfold eH;split
  .exact Rp (b.cs (by simp only[YC];omega)) _
  .exact b.cs (by simp only[YC];omega)
def Op:∀(a:List aD) {c:bb×List (Zb×Nat)},(c.2.map (·.1)).Nodup->((a.foldl eH c).2.map (·.1)).Nodup:=by
 intro a;induction a with
 |nil=>intro c b;exact b
 |cons e a d=>
  intro c b;refine d ?_;unfold eH;split
  .exact uj b ..
  .exact b
def afW(f:Za):∀(a:Nat) {ds:List aD},eJ (λb=>b.length<=ds.length+a) (ey f a ds):=by
 intro a;induction a with
 |zero=>intro ds;exact kQ _ _
 |succ a e=>
  intro ds;unfold ey;refine ba λg=>dT (dU Zm) (ba λc=>ba λ_=>?_);intro h b i d;have:=e (ds:=ds++[c]) _ _ _ d;simp at this;omega
theorem af1{c:Za}{ds}(a:eR c=.ok ds):ds.length<=69:=by
 unfold eR at a;split at a
 .cases a
 .cases b:ey c 69 [] fR with
  |error g=>rw[b]at a;cases a
  |ok e=>
   obtain⟨f,h⟩:=e;rw[b]at a;simp only at a;have d:=afW c 69 (ds:=[]) _ _ _ b;split at a
   .cases a
   .split at a
    .cases a
    .cases a
     simpa using d
abbrev CV(v:Zv)(b a:Option Nat):Obj:=.cells #[v,.map b,.map a] 106
def SM(a:Zw):Cm a ⟨a.heap.size+3,a.heap.size+1,a.heap.size+2⟩ [.obj a.heap.size (CV (.slice none 0 0) none none)] [] sY
  ((((a.alloc (CV (.slice none 0 0) none none)).alloc (.map #[] 0)).alloc (.map #[] 0)).alloc (.cells #[.slice none 0 0,.map (some (a.heap.size+1)),.map (some (a.heap.size+2)),.slice none 0 0] 167)):=by
 have b:=(((((si a).A (CV (.slice none 0 0) none none)).A (.map #[] 0)).A (.map #[] 0)).A (.cells #[.slice none 0 0,.map (some (a.heap.size+1)),.map (some (a.heap.size+2)),.slice none 0 0] 167)).nil 273 1 |>.nil 269 2;simp only[World.size_alloc]at b;exact⟨[],_,_,[],[],Zq,(b.g1 ((List.reverse_perm _).symm.trans (List.Perm.cons _ (List.perm_append_comm (l₁:=[_,_]) (l₂:=[_,_,_]))))),by simp[sY],Zq,rfl,Zq,rfl,Zq⟩
def QV(f:Zo)(g:TypeId)(v:Zv)(a:Nat)(e:Zl):Prop:=
 (v=.slice none 0 0/\a=0/\e=[])\/∃d b c,v=.slice (some ⟨d,0,none⟩) a b/\a<=b/\(d,Obj.cells c g)∈f/\c.toList.take a=e
def qF(c:Zo)(v:Zv)(a:List cV):Prop:=∃b:List (cV×Zv),a=b.map (·.1)/\QV c 273 v a.length (b.map (·.2))/\(∀d∈b,mX c d.2 d.1)/\a.length<1000000
section
variable {f:List Th}{c:kA}{b:Zo}{a:bb}{w e:Zw}
def abY{b:Zw}{e:Nat}{c}(g:b.heap[e]?=some (oj c))(h:(c.map (·.1)).Nodup)(a:Zb)(f:Nat):(Instr.mapUpdate 103 (.map (some e)) (Zs a) (Y f)).run prog b=.ok () (fd b e (oj (cM c a f))):=
 vK (P:=prog) (T:=103) (kt:=9) (et:=3) (d:=.string) Zk Zk (λa:Zb=>Zs a) (λa:Nat=>Y a) (λ_=>trivial) (λ_=>GM _) xT g h a f
def iu.l9{j m i l}(g:iu e c f b a j m i l w)(r:a.L.length<1000000):∃k,qF k j a.L/\(∀d∈b,d∈k)/\∀d∈k,w.heap[d.1]?=some d.2/\e.heap.size<=d.1:=by
 have q:∀d∈b,w.heap[d.1]?=some d.2/\e.heap.size<=d.1:=λd h=>have p:Th.obj d.1 d.2∈f++tT c j m a i l b:=Ym _ (Ym (tT c j m a i l []) (YE.2 ⟨d,h,rfl⟩));⟨g.bO.y _ p,g.bO.bY _ p _ rfl⟩;have A:=g.row.1;rcases g.row.2 with⟨t,u⟩|⟨o,s,n,rfl,B,v,x,C,D,y⟩
 .exact⟨b,⟨i,g.g5,Y8 ⟨t,u,Yv.1 Zm⟩,g.g7,r⟩,λ_ h=>h,q⟩
 .exact⟨(o,.cells n 273)::b,⟨i,g.g5,Ya ⟨o,s,n,rfl,x,Yb,by simpa using y⟩,λd h=>(g.g7 d h).aR (λ_ z=>Y5 _ z),r⟩,λ_ h=>Y5 _ h,List.forall_mem_cons.2 ⟨⟨v,g.bO.bY _ (Ym _ (Y5 _ Yb)) _ rfl⟩,q⟩⟩
def HT(e:Zw)(c:kA)(f:List Th)(b:Zo)(a:bb)(g:Obj)(d:Ending)(h:Zw):Prop:=∃S,d=.returned (.map (some S))/\Cm e c f ((S,g)::b) a h
set_option maxHeartbeats 8000000 in
def agr{s E A g a4}(O:mj s A g a4)(a3:∀p∈s,e.heap[p.1]?=some p.2)(c2:g.length<=100)(I:af (Cm e c f b a w))(a1:bF a E)(b2:300<=E):Calls prog 77 #[Zp c.C,A] w (HT e c f b (g.foldl eH (a,[])).1 (oj (g.foldl eH (a,[])).2)):=by
 have c1:=nn;have b4:=yw;obtain⟨ad,a9,rfl,-,q⟩:=O.K;have q:=U q;have y:=U a3;have G:=U a1;have J:=U (I.i.A (.map #[] 0));go_in;go_wp2;go_loopw [14] (λj a5=>∃d:Nat,j=Y d/\d<=g.length/\af (Cm e c (.obj w.heap.size (oj ((g.take d).foldl eH (a,[])).2)::f) b ((g.take d).foldl eH (a,[])).1 a5)) (λj _=>g.length-(intOf j).toNat)
 case atStart=>exact⟨0,rfl,Zm,J⟩
 case round=>
  obtain⟨d,rfl,b7,k⟩:=hrel;rcases Yj d g.length with D|b6
  .have a2:bF ((g.take d).foldl eH (a,[])).1 100:=Iz (g.take d) (p:=(a,[])) (G.i.cs Zx);have a0:(((g.take d).foldl eH (a,[])).2.map (·.1)).Nodup:=Op _ Zq;have x:af ((g.take (d+1)).foldl eH (a,[])=eH ((g.take d).foldl eH (a,[])) g[d]):=by show _=_;rw[Yt D,YS];rfl
   generalize (g.take d).foldl eH (a,[])=p at *
   obtain⟨b1,c6,rfl,P,N⟩:=q.i d D;have c7:=N _ λp u=>k.i.e8 (y.i p u);have R:dF [] s wr:=λp u=>⟨k.i.e8 (y.i p u),Zq⟩;have c3:=zT P R;have b8:(0:Int)<=↑d:=Zm;have b9:(↑d:Int) < ↑g.length:=Zm;go_wp21;refine(yv _ _ _).mono ?_;rintro b0 i ⟨rfl,M⟩;have z:=k.i.ae (ed [] M);obtain⟨-,a8,-,b5,c0⟩:=z.K;have b3:c.C≠i.heap.size:=Zm;generalize (cd g[d]).2=v at *
   have m:af (eH p g[d]=if(aP p.1.b1 (cd g[d]).1).isSome then (zN (cd g[d]).1 p.1,cM p.2 (cd g[d]).1 p.1.L.length)else p):=rfl
   generalize (cd g[d]).1=h at *
   have l:=(z.A (.cells #[Zs h,Y v] 160)).ag;have o:=l.kM h true;have l:=U l;cases B:aP p.1.b1 h with
   |none=>
    rw[B]at o m;simp only[if_true]at o
    go_wp21;go_region;go_wp2;refine⟨⟨d+1,Zj,Zm,?_⟩,Zz⟩;rw[x.i,m.i];exact l.i.au
   |some c4=>
    rw[B]at o m;simp only[if_true]at o
    have K:=U (Eu (.named h v) (U l.i.ag) a2 (by simp[dO]));go_wp21;go_region;go_wp21;refine bJ (λF=>F.cell? (Zd i.heap.size 0)=some (Zs h)/\F.cell? (Zd i.heap.size 1)=some (Y v)) ?_ λL=>?_
    .exact⟨(nW (w:=((i.alloc _).drew).drew) (bl (w:=i) rfl)).1,(nW (w:=((i.alloc _).drew).drew) (bl (w:=i) rfl)).2.1⟩
    refine bc [0,1,2,3,4,5,6] ?_;iterate 7 (refine bh ?_)
    refine be ?_;refine bI 7 λH t=>?_;(go_simp;go_at_call 134;refine hO K.i λa6 n=>?_;have c8:=aE (n.i.ob (i:=0) rfl);have c5:=abY (n.i.ob (i:=1) rfl) a0 h p.1.L.length;have r:=n.i.au.aW (i:=0) rfl (oj (cM p.2 h p.1.L.length));generalize fd a6 w.heap.size _=a7 at *;have r:=U r;clear n);refine t.out _ _ ?_ (λL=>?_)
    .go_keep
    refine nz ?_;refine bL λH t=>?_;go_simp;refine t.out _ _ ?_;refine nz ?_;go_wp2;refine⟨⟨d+1,Zj,Zm,?_⟩,Zz⟩;rw[x.i,m.i];exact r
  .have S:d=g.length:=Zm;subst S;rw[YG]at k;go_wp2;go_ret;exact⟨w.heap.size,rfl,k.i.c6⟩
end
section
variable {b:Zw}{m n:Nat}{a:bb}
abbrev Nb(a:gJ):Zl:=qh a.t a.y++[fS a.cw,fS a.c0,Y a.num]
def vW(b:List (Int×Nat×Nat)):Obj:=nB (b.map λa=>(.int .u32 a.1,.agg #[Y a.2.1,Y a.2.2]))
def xY(b:List (Int×Nat×List (Int×Nat×Nat))):Obj:=nB (b.map λa=>(.int .u32 a.1,.map (some a.2.1)))
structure sf where
 lo:Int
 hi:Int
 m:Nat
 vs:List (Int×Nat×List (Int×Nat×Nat))
def xB(b:List (Int×sf)):Obj:=nB (b.map λa=>(.int .u32 a.1,.agg #[.int .u32 a.2.lo,.int .u32 a.2.hi,.map (some a.2.m)]))
def AB(b:Zo)(c:List (Int×Nat×List (Int×Nat×Nat))):Prop:=∀a∈c,(a.2.1,vW a.2.2)∈b
def uU(b:Zo)(a:sf):Prop:=(a.m,xY a.vs)∈b/\AB b a.vs
def yH(b:List (Int×Nat×List (Int×Nat×Nat))):List (Int×List (Int×Nat×Nat)):=b.map λa=>(a.1,a.2.2)
def yG(a:sf):jj:=⟨a.lo,a.hi,yH a.vs⟩
def yF(b:List (Int×sf)):List (Int×jj):=b.map λa=>(a.1,yG a.2)
def DI(v:gh):Prop:=v.ao.length<=8/\∀a∈v.ao,ji a.cw/\ji a.c0
def wB:aD->Prop
 |.prog _ _ a _=>a≠[]/\a.length<=4/\∀v∈a,DI v
 |_=>True
def GO(n:Int):Instr.keyThatStays (.int .u32 n) (.int .u32 n)=pure (.int .u32 n):=by
 unfold Instr.keyThatStays;rw[Y9 (by show ((IntKind.u32==IntKind.u32)&&(n==n))=true;simp)]
def Hp(a b:Int)(c:(Value.int .u32 a)=.int .u32 b):a=b:=Zu
def Et(n:Int)(a:Zw):(convert 2 218 (Y n)).run prog a=.ok (.int .u32 (lD n)) a:=Zk
def ab9{e}(g:b.heap[m]?=some (vW e))(h:(e.map (·.1)).Nodup)(c:Int)(f a:Nat):(Instr.mapUpdate 399 (.map (some m)) (.int .u32 c) (.agg #[Y f,Y a])).run prog b=.ok () (fd b m (vW (cM e c (f,a)))):=
 vK (P:=prog) (T:=399) (kt:=218) (et:=429) (d:=.int .u32) Zk Zk (λc:Int=>.int .u32 c) (λa:Nat×Nat=>.agg #[Y a.1,Y a.2]) (λ_=>rfl) (λ_=>GO _) Hp g h c (f,a)
def agK{c}(f:b.heap[m]?=some (xY c))(g:(c.map (·.1)).Nodup)(a:Int)(v:Nat)(e:List (Int×Nat×Nat)):(Instr.mapUpdate 261 (.map (some m)) (.int .u32 a) (.map (some v))).run prog b=.ok () (fd b m (xY (cM c a (v,e)))):=
 vK (P:=prog) (T:=261) (kt:=218) (et:=399) (d:=.int .u32) Zk Zk (λa:Int=>.int .u32 a) (λh:Nat×List (Int×Nat×Nat)=>.map (some h.1)) (λ_=>rfl) (λ_=>GO _) Hp f g a (v,e)
def acl{e}(f:b.heap[m]?=some (xB e))(g:(e.map (·.1)).Nodup)(c:Int)(a:sf):(Instr.mapUpdate 104 (.map (some m)) (.int .u32 c) (.agg #[.int .u32 a.lo,.int .u32 a.hi,.map (some a.m)])).run prog b=.ok () (fd b m (xB (cM e c a))):=
 vK (P:=prog) (T:=104) (kt:=218) (et:=263) (d:=.int .u32) Zk Zk (λc:Int=>.int .u32 c) (λa:sf=>.agg #[.int .u32 a.lo,.int .u32 a.hi,.map (some a.m)]) (λ_=>rfl) (λ_=>GO _) Hp f g c a
theorem DD{b}(d:ji b)(c:bF a (n+4)):bF (ot b a) n:=bF.aW (uW b (c.cs (by have:=qX d;omega))) _
def Ix:∀(a:List gJ) {q:bb×List (Int×Nat×Nat)} {n:Nat},(∀b∈a,ji b.cw/\ji b.c0)->bF q.1 (n+8*a.length)->bF (a.foldl lW q).1 n:=by
 intro a;induction a with
 |nil=>simp
 |cons b a f=>
  intro q n c d;refine f (λg e=>c g (Y5 _ e)) ?_;exact DD (c b Zq).1 (DD (c b Zq).2 (d.cs Zg))
def ab8:∀(a:List gJ) {b:bb×List (Int×Nat×Nat)},(b.2.map (·.1)).Nodup->((a.foldl lW b).2.map (·.1)).Nodup:=by
 intro a;induction a with
 |nil=>simp
 |cons e a d=>intro b c;exact d (uj c ..)
def agO{l w:Zw}{k h p G H}{v:gh}(a9:fh G 446 H v.ao.length (v.ao.flatMap Nb))(b0:∀g∈G,l.heap[g.1]?=some g.2)(K:DI v)(o:af (Cm l k h p a w))(a8:bF a n)(c8:80<=n):Calls prog 212 #[Zp k.C,.agg #[Zs v.t,Y v.y,H,Y v.num]] w (HT l k h p (wm v a).1 (vW (wm v a).2)):=by
 have c7:=nn;have c2:=Et;have A:=U K;have b7:=K.1;have O:=U a8;obtain⟨S,a0,rfl,-,N⟩:=a9.hs b0;have r:=(o.i.cR (.cells #[Zs v.t,Y v.y,.slice S v.ao.length a0,Y v.num] 367)).A (.map #[] 0);simp only[World.size_alloc]at r;have r:=U r;have R:af (wm v a=v.ao.foldl lW (a,[])):=rfl;rw[R.i];go_in;go_wp2;go_loopw [12] (λf b3=>∃d:Nat,f=Y d/\d<=v.ao.length/\af (Cm l k (.obj (w.heap.size+1) (vW ((v.ao.take d).foldl lW (a,[])).2)::h) p ((v.ao.take d).foldl lW (a,[])).1 b3)) (λf _=>v.ao.length-(intOf f).toNat)
 case atStart=>exact⟨0,rfl,Zm,r⟩
 case round=>
  obtain⟨d,rfl,c4,m⟩:=hrel;rcases Yj d v.ao.length with z|c3
  .have J:bF ((v.ao.take d).foldl lW (a,[])).1 16:=Ix (v.ao.take d) (λg a7=>A.i.2 g (List.mem_of_mem_take a7)) (O.i.cs Zx);have a6:(((v.ao.take d).foldl lW (a,[])).2.map (·.1)).Nodup:=ab8 _ Zq;have P:af ((v.ao.take (d+1)).foldl lW (a,[])=lW ((v.ao.take d).foldl lW (a,[])) v.ao[d]):=by show _=_;rw[Yt z,YS];rfl
   generalize (v.ao.take d).foldl lW (a,[])=i at *
   obtain⟨a1,rfl,c1,a4⟩:=N.i Zm;have g:=Bi (c:=Nb) (n:=5) (λ_=>rfl) z (a4 _ m.i.kp);have y:=A.i.2 v.ao[d] (Yy z);generalize v.ao[d]=e at *
   have c9:wr.cell? ⟨a1,d*5,none⟩=_:=g 0 _ rfl;have d0:=g 1 _ rfl;have b1:=g 2 _ rfl;have b2:=g 3 _ rfl;have d1:=g 4 _ rfl;have c5:(0:Int)<=↑d:=Zm;have c6:(↑d:Int) < ↑v.ao.length:=Zm;have b8:w.heap.size+1≠wr.heap.size:=by have:=ay (m.i.ob (i:=0) rfl);omega
   have b9:=qX y.1;have c0:=qX y.2;have u:=λ(h:List Th) (b:Zw) (o:af (Cm l k h p i.1 b))=>Eu e.c0 o J Zm;have j:=λ(h:List Th) (b:Zw) (o:af (Cm l k h p (ot e.c0 i.1) b))=>Eu (n:=12) e.cw o (DD y.2 J) Zm;obtain⟨E,L,a2⟩:=oy e.cw;obtain⟨F,M,a3⟩:=oy e.c0;rw[a2]at b1 j;rw[a3]at b2 u;have u:=U (u _ _ (m.i.A (.cells #[Zs e.t,Y e.y,.iface E L,.iface F M,Y e.num] 446)).ag)
   have j:=U j;go_wp21;refine bJ (λb4=>∀f,b4.cell? (Zd wr.heap.size f)=#[Zs e.t,Y e.y,.iface E L,.iface F M,Y e.num][f]?) ?_ λI=>?_
   .exact aE (T:=446) (bl (w:=wr) rfl)
   refine bc [0,1,2,3,4,5,6,8,9,10] ?_;iterate 10 (refine bh ?_)
   refine be ?_;refine bI 7 λB q=>?_;(go_simp;go_at_call 134;refine hO u.i λd3 D=>?_;have b6:=aE (D.i.ob (i:=0) rfl);have j:=U (j.i _ _ D));refine q.out _ _ ?_ (λI=>?_)
   .go_keep
   refine nz ?_;refine bI 11 λB q=>?_;(go_simp;go_at_call 134;refine hO j.i λb5 s=>?_;have b6:=aE (s.i.ob (i:=0) rfl);have d2:=ab9 (s.i.ob (i:=1) rfl) a6 (lD e.num) i.1.L.length (ot e.c0 i.1).L.length;have x:=s.i.au.aW (i:=0) rfl (vW (cM i.2 (lD e.num) (i.1.L.length,(ot e.c0 i.1).L.length)));generalize fd b5 (w.heap.size+1) _=b at *;have x:=U x;clear s);refine q.out _ _ ?_ (λI=>?_)
   .go_keep
   refine nz ?_;refine pz 12 ?_;refine bL λB q=>?_;go_simp;refine q.out _ _ ?_;refine nz ?_;go_wp2;refine⟨⟨d+1,Zj,Zm,?_⟩,Zz⟩;rw[P.i];exact x
  .have a5:d=v.ao.length:=Zm;subst a5;rw[YG]at m;go_wp2;go_ret;exact⟨w.heap.size+1,rfl,m.i.c6⟩
end
def pa{b d:Zw}{a c v}(g:b.cell? (Zd a c)=some v)(f:ap [] b d):d.cell? (Zd a c)=some v:=by
 have e:a<b.heap.size:=by
  grind [World.cell?]
 have:=f.al a e Zq;grind [World.cell?]
abbrev Pp(a:gh×Zv):Zl:=qh a.1.t a.1.y++[a.2,Y a.1.num]
abbrev Ce(b a:Int)(c:Option Nat):Obj:=.cells #[.int .u32 b,.int .u32 a,.map c] 263
def IA:∀(a:List gh) {q:bb×jj} {b:Nat},(∀v∈a,DI v)->bF q.1 (b+64*a.length)->bF (a.foldl mH q).1 b:=by
 intro a;induction a with
 |nil=>simp
 |cons v a g=>
  intro q b c e;refine g (λh f=>c h (Y5 _ f)) ?_;have d:=c v Zq;exact Ix v.ao (q:=(q.1,[])) d.2 (e.cs (by have:=d.1;grind))
def Sh(b:List (Int×Nat×List (Int×Nat×Nat)))(a:Int)(v:Nat)(c:List (Int×Nat×Nat)):yH (cM b a (v,c))=cM (yH b) a c:=FD (λd:Nat×List (Int×Nat×Nat)=>d.2) b a (v,c)
theorem RC{d a:Zo}{l}(e:AB d l)(f:∀c∈d,c∈a)(g:Int){v:Nat}{x}(h:(v,vW x)∈a):AB a (cM l g (v,x)):=by
 intro c b;rcases FE b with b|rfl
 .exact f _ (e c b)
 omega
abbrev vn(v:gh):Int:=lD v.num
abbrev ur(a:bb)(v:gh):bb×jj:=(a,⟨lD v.num,lD v.num,[]⟩)
def Dy(i:Zw)(e:kA)(d:List Th)(f:Zo)(a:Nat)(Q:bb×jj)(h:Zw):Prop:=∃b c,(∀g∈f,g∈c)/\AB c b/\yH b=Q.2.vs/\(b.map (·.1)).Nodup/\Cm i e (.obj (a+1+1) (Ce Q.2.lo Q.2.hi (some (a+1)))::.obj (a+1) (xY b)::.obj a (Ce 0 0 none)::d) c Q.1 h
def QK(i:Zw)(d:kA)(c:List Th)(e:Zo)(Q:bb×jj)(f:Ending)(h:Zw):Prop:=∃(a:sf) (b:Zo),f=.returned (.agg #[.int .u32 a.lo,.int .u32 a.hi,.map (some a.m)])/\(∀g∈e,g∈b)/\uU b a/\yG a=Q.2/\Cm i d c b Q.1 h
def NR{a:Nat}{d e f x y z:Zv}{b}{c:Zw}(g:c.heap[a]?=some (.cells #[d,e,f] b)):(((c.setCell ⟨a,0,none⟩ x).setCell ⟨a,1,none⟩ y).setCell ⟨a,2,none⟩ z).heap[a]?=some (.cells #[x,y,z] b):=ci (i:=2) (ci (i:=1) (ci (i:=0) g x) y) z
def ach{l d:Zw}{t y u a9 h n p a7 b8 a b6}(e1:gE a9 p (.prog b8 a7 a b6))(E:∀g∈a9,l.heap[g.1]?=some g.2)(e2:wB (.prog b8 a7 a b6))(z:af (Cm l t y u h d))(e6:bF h n)(i3:400<=n):Calls prog 135 #[Zp t.C,Zp p] d (QK l t y u (Cf a h)):=by
 have i2:=nn;have h0:=Et;obtain⟨j4,q,b3,g9,e8,b4⟩:=e1;obtain⟨e4,h1,f0⟩:=e2;have D:0<a.length:=YM.2 e4;obtain⟨ad,f8,rfl,-,c4⟩:=e8.hs E;obtain⟨r,rfl,g8,e0⟩:=c4.i D;have S:∀(s:Zw),ap [] l s->∀b (J:b<a.length) (K:b<q.length),∀(k:Nat) (i:Zv),(Pp (a[b],q[b]))[k]?=some i->s.cell? ⟨r,b*4+k,none⟩=some i:=λs d9 b J K k i f3=>Bi (c:=Pp) (n:=4) (λ_=>rfl) (ms:=a.zip q) Zx (e0 s d9) k i (by simpa using f3);have i5:=(sK (cs:=#[_,_,_,_]) (E _ b3)).i _ z.i.kp;have g2:=Yr (ay (E _ b3)) z.i.kp.aX;have h3:=Yr (iZ (S l (ar [] l) 0 D Zm 0 _ rfl)) z.i.kp.aX;have I:=S d z.i.kp 0 D Zm;have d4:=I 0 _ rfl;have d5:=I 1 _ rfl;have b1:=I 2 _ rfl;have d6:=I 3 _ rfl;have a3:af (∀b (J:b<a.length) (K:b<q.length),∃x i F,q[b]=.slice x i F):=λb J K=>by
  obtain⟨x,i,N,-⟩:=(b4 b J K).hs E;exact⟨_,_,_,N⟩
 obtain⟨f6,j6,j7,d7⟩:=a3.i 0 D Zm;rw[d7]at b1;simp only[Nat.zero_mul,Nat.zero_add]at d4 d5 b1 d6;have g3:p<d.heap.size+1:=Zm;have h4:r<d.heap.size+1:=Zm;have g4:p<d.heap.size+1+1:=Zm;have h5:r<d.heap.size+1+1:=Zm;have h6:r≠d.heap.size:=Zm;have g5:p≠d.heap.size:=Zm;have h7:r≠d.heap.size+1:=Zm;have g6:p≠d.heap.size+1:=Zm;have h8:r≠d.heap.size+1+1:=Zm;have g7:p≠d.heap.size+1+1:=Zm;have i4:(0:Int) < ↑a.length:=Zm;have c3:af (Cf a h=a.foldl mH (ur h a[0])):=by
  show _=_;cases a with
  |nil=>simp at D
  |cons v j3=>rfl
 rw[c3.i];have H:=((z.i.A (Ce 0 0 none)).A (.map #[] 0)).A (Ce (lD a[0].num) (lD a[0].num) (some (d.heap.size+1)));simp only[World.size_alloc]at H;have H:af (Dy l t y u d.heap.size (ur h a[0]) _):=⟨[],u,λ_ N=>N,(by intro g j;cases j),rfl,Zq,H⟩;have c1:=U S;have c2:=U b4;have a5:=U f0;have c5:=U e6;have c9:=U E;go_in;go_wp2;go_loopw [27] (λb f4=>∃e:Nat,b=Y e/\e<=a.length/\af (Dy l t y u d.heap.size ((a.take e).foldl mH (ur h a[0])) f4)) (λb _=>a.length-(intOf b).toNat)
 case atStart=>exact⟨0,rfl,Zm,H⟩
 case round=>
  obtain⟨e,rfl,h9,L⟩:=hrel;rcases Yj e a.length with B|h2
  .have a0:e<q.length:=Zm;have e7:bF ((a.take e).foldl mH (ur h a[0])).1 80:=IA (a.take e) (λv e9=>a5.i v (List.mem_of_mem_take e9)) (c5.i.cs Zx);have c7:af ((a.take (e+1)).foldl mH (ur h a[0])=mH ((a.take e).foldl mH (ur h a[0])) a[e]):=by show _=_;rw[Yt B,YS];rfl
   obtain⟨w,a8,R,a2,P,a1,o⟩:=L.i;generalize (a.take e).foldl mH (ur h a[0])=f at *
   obtain⟨x,i,F,f2⟩:=a3.i e B a0;have g:=c1.i _ o.kp e B a0;have b5:=c2.i e B a0;have f1:=a5.i a[e] (Yy B);rw[f2]at g b5;generalize a[e]=v at *
   have i6:wr.cell? ⟨r,e*4,none⟩=_:=g 0 _ rfl;have i7:=g 1 _ rfl;have i8:=g 2 _ rfl;have i9:=g 3 _ rfl;have i0:(0:Int)<=↑e:=Zm;have i1:(↑e:Int) < ↑a.length:=Zm;have m:=o.ob (i:=0) rfl;have d3:=aE m;have f9:=bi m;have g0:=ay m;have g1:d.heap.size+1+1≠wr.heap.size:=Zm;have G:=((o.aq (i:=0) (j:=0) rfl (.int .u32 (min f.2.lo (vn v)))).aq (i:=0) (j:=1) rfl (.int .u32 (max f.2.hi (vn v)))).A (.cells #[Zs v.t,Y v.y,.slice x i F,Y v.num] 367);simp only[World.size_setCell]at G;have b7:=aE (G.ob (i:=0) rfl);have b0:=aE (G.ob (i:=1) rfl);have d2:=U (agO b5 c9.i f1 (U G.ag) e7 (Y4 _));have c6:=U (Yp b0 b7);go_wp21;refine bJ (λb9=>(∀b,b9.cell? ⟨d.heap.size+1+1,b,none⟩=#[.int .u32 (min f.2.lo (vn v)),.int .u32 (max f.2.hi (vn v)),.map (some (d.heap.size+1))][b]?)/\∀b,b9.cell? (Zd wr.heap.size b)=#[Zs v.t,Y v.y,.slice x i F,Y v.num][b]?) ?_ λd8=>?_
   .exact c6.i
   refine bc [0,1,2,3,4] ?_;iterate 5 (refine bh ?_)
   refine be ?_;refine bI 5 λd0 O=>?_;(go_simp;go_at_call 212;refine d2.i.mono ?_;rintro b0 f5 ⟨a6,rfl,A⟩;have f6:=aE (A.ob (i:=0) rfl);have j5:=aE (A.ob (i:=1) rfl);have j0:=agK (A.ob (i:=2) rfl) a1 (vn v) a6 (wm v f.1).2;have M:=A.au.aW (i:=1) rfl (xY (cM w (vn v) (a6,(wm v f.1).2)));generalize fd f5 (d.heap.size+1) _=s at *;have M:=U M;clear A);refine O.out _ _ ?_ (λd8=>?_)
   .go_keep
   refine nz ?_;refine bL λd0 O=>?_;go_simp;refine O.out _ _ ?_;refine nz ?_;have b2:af (Dy l t y u d.heap.size (mH f v) s):=⟨_,_,λg j=>Y5 _ (R g j),RC a2 (λg j=>Y5 _ j) _ Yb,by rw[Sh,P];rfl,uj a1 ..,M.i⟩;rw[<-c7.i]at b2;go_wp2;exact⟨⟨e+1,Zj,Zm,b2⟩,Zz⟩
  .have e3:e=a.length:=Zm;subst e3;rw[YG]at L;obtain⟨w,a8,R,a2,P,a1,o⟩:=L.i;generalize e5:a.foldl mH (ur h a[0])=f at *
   have a4:=U e5;have d3:=aE (o.ob (i:=0) rfl);have m:=o.ob (i:=2) rfl;have b7:=aE m;have j1:=bi m;have j2:=ay m;have f7:=aE (NR (x:=.int .u32 f.2.lo) (y:=.int .u32 f.2.hi) (z:=.map (some (d.heap.size+1))) m);have d1:=U (((o.aq (i:=2) (j:=0) rfl (.int .u32 f.2.lo)).aq (i:=2) (j:=1) rfl (.int .u32 f.2.hi)).aq (i:=2) (j:=2) rfl (.map (some (d.heap.size+1)))).au.c6.au;have c8:=U a2;have c0:af (yG ⟨f.2.lo,f.2.hi,d.heap.size+1,w⟩=f.2):=by show jj.mk _ _ (yH w)=_;rw[P]
   go_wp2;exact bodyPost_ret (v:=.agg #[.int .u32 f.2.lo,.int .u32 f.2.hi,.map (some (d.heap.size+1))]) (by simp[results,results135,go_sem,f7]) rfl ⟨⟨f.2.lo,f.2.hi,d.heap.size+1,w⟩,(d.heap.size+1,xY w)::a8,rfl,λg j=>Y5 _ (R g j),⟨Yb,λg j=>Y5 _ (c8.i g j)⟩,by rw[a4.i];exact c0.i,by rw[a4.i];exact d1.i⟩
theorem Iy:∀(l:List aD) {q:bb×List (Int×jj)} {b:Nat},(∀a∈l,wB a)->bF q.1 (b+256*l.length)->bF (l.foldl hD q).1 b:=by
 intro l;induction l with
 |nil=>simp
 |cons a l g=>
  intro q b e c;refine g (λi f=>e i (Y5 _ f)) ?_;have d:=e a Zq;cases a with
  |prog m j h k=>exact IA h (q:=(q.1,_)) d.2.2 (c.cs (by have:=d.2.1;grind))
  |_=>exact c.cs (by simp only[YC];omega)
def uU.aR{b c:Zo}(e:∀a∈b,a∈c){f}(d:uU b f):uU c f:=⟨e _ d.1,λa g=>e _ (d.2 a g)⟩
def Sg(b:List (Int×sf))(a:Int)(c:sf):yF (cM b a c)=cM (yF b) a (yG c):=FD yG b a c
theorem acb{a:aD}(g:∀e b f c,a≠.prog e b f c)(d:bb×List (Int×jj)):hD d a=d:=by
 cases a with
 |prog e b f c=>grind
 |_=>rfl
def DA(i:Zw)(f:kA)(e:List Th)(g:Zo)(d:Nat)(Q:bb×List (Int×jj))(h:Zw):Prop:=∃a b,(∀c∈g,c∈b)/\(∀c∈a,uU b c.2)/\yF a=Q.2/\(a.map (·.1)).Nodup/\Cm i f (.obj d (xB a)::e) b Q.1 h
def QL(j:Zw)(f:kA)(e:List Th)(g:Zo)(Q:bb×List (Int×jj))(h:Ending)(i:Zw):Prop:=∃d b a,h=.returned (.map (some d))/\(∀c∈g,c∈a)/\(d,xB b)∈a/\(∀c∈b,uU a c.2)/\yF b=Q.2/\(b.map (·.1)).Nodup/\Cm j f e a Q.1 i
set_option maxHeartbeats 8000000 in
def acj{l h:Zw}{e m k M f g N a c6}(o:mj M N a c6)(c3:∀d∈M,l.heap[d.1]?=some d.2)(e2:a.length<=100)(b7:∀z∈a,wB z)(a5:af (Cm l e m k f h))(c1:bF f g)(d5:27000<=g):Calls prog 78 #[Zp e.C,N] h (QL l e m k (a.foldl hD (f,[]))):=by
 have e1:=nn;have d6:=Et;obtain⟨ad,d1,rfl,-,w⟩:=o.K;have w:=U w;have a3:=U c1;have K:=U b7;have x:=U c3;have a6:af (DA l e m k h.heap.size ((a.take 0).foldl hD (f,[])) (h.alloc (.map #[] 0))):=⟨[],k,λ_ c=>c,(by intro d c;cases c),rfl,Zq,a5.i.A (.map #[] 0)⟩;go_in;go_wp2;go_loopw [12] (λp c8=>∃b:Nat,p=Y b/\b<=a.length/\af (DA l e m k h.heap.size ((a.take b).foldl hD (f,[])) c8)) (λp _=>a.length-(intOf p).toNat)
 case atStart=>exact⟨0,rfl,Zm,a6⟩
 case round=>
  obtain⟨b,rfl,d8,q⟩:=hrel;rcases Yj b a.length with F|d7
  .have c2:bF ((a.take b).foldl hD (f,[])).1 400:=Iy (a.take b) (λz o=>K.i z (List.mem_of_mem_take o)) (a3.i.cs Zx);have r:af ((a.take (b+1)).foldl hD (f,[])=hD ((a.take b).foldl hD (f,[])) a[b]):=by show _=_;rw[Yt F,YS];rfl
   obtain⟨I,a9,D,G,B,u,n⟩:=q.i;generalize (a.take b).foldl hD (f,[])=c7 at *
   obtain⟨d4,L,rfl,E,b5⟩:=w.i b F;have a2:=b5 _ λd c=>n.e8 (x.i d c);have R:=K.i a[b] (Yy F);have d9:(0:Int)<=↑b:=Zm;have e0:(↑b:Int) < ↑a.length:=Zm;obtain⟨-,-,-,-,H⟩:=Kq a[b] L;by_cases a0:∃i e j g,a[b]=.prog i e j g
   .obtain⟨i,c5,j,v,b6⟩:=a0;rw[b6]at E R a2 r H;simp only[tn,fv,if_true]at H a2
    obtain⟨e4,b1,b3,-⟩:=id E;have J:=sK (cs:=#[_,_,_,_]) (x.i _ b3);have d2:=J.i _ n.kp;have a7:=U (ach E x.i R (U n.ag) c2 (Y4 _));go_wp21;refine bJ (λc9=>c9.cell? (Zd L 3)=some (Y v)) ?_ λb2=>?_
    .go_keep
    refine bc [0,1,2,3,4,5,6,7] ?_;iterate 8 (refine bh ?_)
    refine be ?_;refine bI 8 λa4 A=>?_;(go_simp;go_at_call 135;refine a7.i.mono ?_;rintro t d0 ⟨a1,b0,rfl,P,b8,b4,s⟩;have d3:=J.i _ s.kp;have e3:=acl (s.ob (i:=0) rfl) u (lD v) a1;have y:=s.aW (i:=0) rfl (xB (cM I (lD v) a1));generalize fd d0 h.heap.size _=a8 at *;have y:=U y;clear s);refine A.out _ _ ?_ (λb2=>?_)
    .go_keep
    refine nz ?_;refine bL λa4 A=>?_;go_simp;refine A.out _ _ ?_;refine nz ?_;have O:af (DA l e m k h.heap.size (hD c7 (.prog i c5 j v)) a8):=⟨_,b0,λd c=>P d (D d c),λd c=>(FE c).elim (λc=>(G d c).aR P) λt=>t▸b8,by rw[Sg,B,b4];rfl,uj u _ _,y.i⟩;rw[<-r.i]at O;go_wp2;exact⟨⟨b+1,Zj,Zm,O⟩,Zz⟩
   .have S:∀i e j g,a[b]≠.prog i e j g:=λi e j g t=>a0 ⟨i,e,j,g,t⟩;have c0:fv a[b]≠233:=by cases o:a[b]<;>first|exact absurd o (S _ _ _ _)|simp[fv]
    simp only[tn,c0,if_false]at H
    rw[acb S]at r;go_wp2;refine⟨⟨b+1,Zj,Zm,?_⟩,Zz⟩;rw[r.i];exact q
  .have b9:b=a.length:=Zm;subst b9;rw[YG]at q;go_wp2;go_ret;obtain⟨I,a9,D,G,B,u,n⟩:=q.i;exact⟨h.heap.size,I,_,rfl,λd c=>Y5 _ (D d c),Yb,λd c=>(G d c).aR λe5 c4=>Y5 _ c4,B,u,n.c6⟩
structure yx(bs:Zo)(v:Zv)(S P:Nat)(ds:List aD):Prop where
 L:qF bs v (ff ds).1
 an:(S,oj (ff ds).2)∈bs
 nd:((ff ds).2.map (·.1)).Nodup
 ai:∃lp,(P,xB lp)∈bs/\(∀p∈lp,uU bs p.2)/\yF lp=(Ch ds).2/\(lp.map (·.1)).Nodup
def QO(d:Zw)(f:List aD)(g:Ending)(e:Zw):Prop:=∃v S b c,g=.returned (.agg #[v,.map (some S),.map (some b)])/\ap [] d e/\yx c v S b f/\∀a∈c,e.heap[a.1]?=some a.2/\d.heap.size<=a.1
set_option maxHeartbeats 8000000 in
def Ru{c:Zw}{L M ds c6}(e:mj L M ds c6)(c4:∀p∈L,c.heap[p.1]?=some p.2)(c3:yi ds)(b8:∀d∈ds,wB d)(N:ds.length<=100):Calls prog 45 #[M] c (QO c ds):=by
 have e2:=nn;have D:=U e;have F:=U b8;obtain⟨ad,d4,rfl,-,h⟩:=e.K;have h:=U h;have E:af (∀d∈ds,yf d):=λd e=>by
  obtain⟨b,b9,rfl⟩:=List.getElem_of_mem e;obtain⟨_,_,_,b0,_⟩:=h.i b b9;exact Kr b0
 have H:af (bF sY (28000+5000+300+4100*ds.length)):=⟨by simp[sY];omega,by simp[sY]⟩;have n:=U c3;have a2:=U (SM c);have i:=U c4;go_in;go_wp2;go_loopw [14] (λb c7=>∃a:Nat,b=Y a/\a<=ds.length/\af (Cm c ⟨c.heap.size+3,c.heap.size+1,c.heap.size+2⟩ [.obj c.heap.size (CV (.slice none 0 0) none none)] [] (el (ds.take a)) c7)) (λb _=>ds.length-(intOf b).toNat)
 case atStart=>exact⟨0,rfl,Zm,a2⟩
 case round=>
  obtain⟨a,rfl,d9,g⟩:=hrel;rcases Yj a ds.length with u|d8
  .have c1:bF (el (ds.take a)) 5000:=Iv (ds.take a) (λd e=>n.i d (List.mem_of_mem_take e)) (λd e=>E.i d (List.mem_of_mem_take e)) (H.i.cs Zx);obtain⟨d7,d0,rfl,b7,b6⟩:=h.i a u;have e4:=b6 _ λp f=>g.i.e8 (i.i p f);have a4:=U (Uj b7 i.i (n.i ds[a] (Yy u)) g c1 (Y4 _));have e0:(0:Int)<=↑a:=Zm;have e1:(↑a:Int) < ↑ds.length:=Zm;have a1:af (el (ds.take (a+1))=hP ds[a] (el (ds.take a))):=by show _=_;rw[Yt u,yM]
   go_wp21;refine hO a4.i λc8 k=>?_;rw[<-a1.i]at k;go_wp2;exact⟨⟨a+1,Zj,Zm,k⟩,Zz⟩
  .have c0:a=ds.length:=Zm;subst c0;rw[YG]at g;have I:bF (el ds) 33000:=Iv ds n.i E.i (H.i.cs Zm);have J:af (bF (ds.foldl eH (el ds,[])).1 32000):=Iz ds (p:=(el ds,[])) (I.cs Zm);have K:af (bF (ds.foldl hD ((ds.foldl eH (el ds,[])).1,[])).1 100):=Iy ds (q:=((ds.foldl eH (el ds,[])).1,[])) F.i (J.i.cs Zm);have a7:=U (agr D.i i.i N g I Zm);go_wp21;refine a7.i.mono ?_;rintro a9 c8 ⟨S,rfl,k⟩;have a6:=U (acj D.i i.i N F.i k J.i Zm);go_wp21;refine a6.i.mono ?_;rintro a9 e9 ⟨l,c5,d1,rfl,c2,r,w,s,t,a3⟩;have a0:af ((ff ds).1.length<1000000):=by
    have:=(LS (ds.foldl hD ((ds.foldl eH (el ds,[])).1,[])).1.aJ (ds.foldl hD ((ds.foldl eH (el ds,[])).1,[])).1).1;exact Nat.lt_of_le_of_lt (Nat.le_of_eq this) (by have:=K.i.L;omega)
   have a5:=U (Xv a3 (acm (ds:=ds)) K.i);have R:=U (Yp (c2 _ Yb) (Yp r (Yp w (Yp s t))));go_wp21;refine hO a5.i λf0 G=>?_;obtain⟨d2,e8,e3,d5,d6,b5,A⟩:=G.i;obtain⟨B,C,rfl⟩:=aV A.row;have d3:=aE A.aw;have m:=G.i.ob (i:=0) rfl;have e5:=aE m;have e6:=bi m;have e7:=ay m;have c9:=aE (NR (x:=.slice B (vF (ds.foldl hD ((ds.foldl eH (el ds,[])).1,[])).1).L.length C) (y:=.map (some S)) (z:=.map (some l)) m);have O:=U (((A.aq (i:=0) (j:=0) rfl (.slice B (vF (ds.foldl hD ((ds.foldl eH (el ds,[])).1,[])).1).L.length C)).aq (i:=0) (j:=1) rfl (.map (some S))).aq (i:=0) (j:=2) rfl (.map (some l)));have P:=U b5;go_wp2;refine bodyPost_ret (v:=.agg #[.slice B (vF (ds.foldl hD ((ds.foldl eH (el ds,[])).1,[])).1).L.length C,.map (some S),.map (some l)]) (by simp[results,results45,go_sem,c9]) rfl ?_;obtain⟨b4,r,w,s,t⟩:=R.i;obtain⟨a8,b1,b2,b3⟩:=O.i.l9 a0.i;have o:=λp f=>b2 p (P.i p f);exact⟨_,S,l,a8,rfl,O.i.bO.fr,⟨b1,o _ b4,Op _ Zq,c5,o _ r,λp f=>(w p f).aR o,s,t⟩,b3⟩
def aaR(a:TypeId)(d:Zv)(b:Zw)(c:a=143):(binOp BinOp.neq 20 (.iface a d) .nilIface).run prog b=.ok (.bool true) b:=by subst c;kernel_rfl
def aaS(a:Zw):(binOp BinOp.neq 20 .nilIface .nilIface).run prog a=.ok (.bool false) a:=Zk
def yd(a:Nat)(b:Zv):Prop:=(a=42/\b=.pointer none)\/(a=65/\b=.slice none 0 0)\/(a=58/\b=.string ⟨#[]⟩)
def Fa{d m}(g:yd d m)(i j:Addr)(e:Zw):CallsD prog d #[.pointer (some i),.pointer (some j)] .returning e λf k l=>f=.returned (.tuple #[])/\k=.returning/\l=e:=by
 have h:=aaS;rcases g with⟨rfl,rfl⟩|⟨rfl,rfl⟩|⟨rfl,rfl⟩;all_goals
  first
   |refine callsD_of_wpS func42 rfl λa c b=>?_
   |refine callsD_of_wpS func65 rfl λa c b=>?_
   |refine callsD_of_wpS func58 rfl λa c b=>?_
  apply wpS_seq;apply wpS_region;simp[wpOpsS,go_sem,recoverD,b,ntmps42,ntmps65,ntmps58,Exit.thenS];apply wpS_seq;apply wpS_region;simp[wpOpsS,go_sem,Exit.thenS,h];refine wpS_cond (t:=false) (by simp[Act.eval,Array.replicate]) ?_;simp only[Ye,if_false]
  refine wpS_of_wp (wp_skip ?_);cases a
  simp_all[bodyPostS,results,results42,results65,results58]
def JT{h z}(j:yd h z)(b Q c:Nat)(n o:Zv)(i:List PanicEntry)(a:Zw)(r:a.cell? (Zd b 0)=some n)(s:a.cell? (Zd Q 0)=some o)(p:a.frozen? ⟨b,0,none⟩=false)(q:a.frozen? ⟨Q,0,none⟩=false)(u:b≠Q):CallsD prog h #[Zp b,Zp Q] (.panicking ({ v:=.iface 143 (Zp c),recovered:=false }::i)) a λg l m=>
   g=.returned (.tuple #[])/\l=.panicking ({ v:=.iface 143 (Zp c),recovered:=true }::i)/\m=(a.setCell ⟨b,0,none⟩ z).setCell ⟨Q,0,none⟩ (.iface 143 (Zp c)):=by
 have k:=aaR 143;rcases j with⟨rfl,rfl⟩|⟨rfl,rfl⟩|⟨rfl,rfl⟩;all_goals
  first
   |refine callsD_of_wpS func42 rfl λd f e=>?_
   |refine callsD_of_wpS func65 rfl λd f e=>?_
   |refine callsD_of_wpS func58 rfl λd f e=>?_
  apply wpS_seq;apply wpS_region;simp[wpOpsS,go_sem,recoverD,e,ntmps42,ntmps65,ntmps58,Exit.thenS];apply wpS_seq;apply wpS_region;simp[wpOpsS,go_sem,Exit.thenS,k];refine wpS_cond (t:=true) (by simp[Act.eval,Array.replicate]) ?_;simp only[if_true]
  refine wpS_of_wp ?_;go_wp21;refine(Qb c a).mono ?_;rintro g w ⟨rfl,rfl⟩;go_wp2;cases d
  simp_all[bodyPostS,results,results42,results65,results58]
section
variable {a c:Zo}{d:List cV}{b:List aD}{e:List Nat}
def tE(a:Zo)(f:Nat)(b:List aD):Prop:=∃d e v S c,(f,Obj.cells #[d,v,.map (some S),.map (some c)] 109)∈a/\mj a d b e/\yx a v S c b
def QM(e:Zw)(b:List aD)(g:Ending)(f:Zw):Prop:=∃d a,g=.returned (.tuple #[Zp d,.nilIface])/\ap [] e f/\tE a d b/\(∀c∈a,f.heap[c.1]?=some c.2)/\e.heap.size<=d/\∀c∈a,e.heap.size<=c.1
def mj.aR(f:∀k∈a,k∈c){g}(d:mj a g b e):mj c g b e:=
 ⟨d.am,d.row.aZ f,λj h i=>(d.eC j h i).aZ f⟩
def qF.aR(f:∀e∈a,e∈c){v}(o:qF a v d):qF c v d:=by
 obtain⟨i,p,b,q,r⟩:=o;refine⟨i,p,?_,λe s=>(q e s).aR f,r⟩;rcases b with b|⟨n,g,h,j,k,l,m⟩
 .exact Y8 b
 .exact Ya ⟨n,g,h,j,k,f _ l,m⟩
def mj.h7{f}(i:mj a f b e):∃g h d,f=.slice g h d:=by
 rcases i.row with⟨c,_⟩|⟨l,j,k,c,_⟩<;>exact⟨_,_,_,c⟩
def qF.h7{v}(g:qF a v d):∃c e f,v=.slice c e f:=by
 obtain⟨k,_,h,_⟩:=g;rcases h with⟨b,_⟩|⟨l,i,j,b,_⟩<;>exact⟨_,_,_,b⟩
def yx.aR(e:∀f∈a,f∈c){v S g}(d:yx a v S g b):yx c v S g b:=by
 obtain⟨m,h,i,j,k⟩:=d.ai;exact⟨d.L.aR e,e _ d.an,d.nd,m,e _ h,λf l=>(i f l).aR e,j,k⟩
def Rj{A:Za}(a9:eR A=.ok b)(a8:∀a3∈b,wB a3){f}(a7:Gl f):Calls prog 25 #[.string A] f (QM f b):=by
 have b1:=jN;have a6:Below f.heap.size f ((f.alloc (.cells #[.pointer none] 53)).alloc (.cells #[.nilIface] 55)):=((Below.refl _ _).alloc (Y4 _) _).alloc Zq _;have a2:=U (IH A (a7.az a6));have o:=U a9;have p:=((si f).A (.cells #[.pointer none] 53)).A (.cells #[.nilIface] 55);simp only[World.size_alloc]at p;have p:=U p;go_enter_defers func25,ntmps25;go_wp21;refine a2.i.mono ?_;rintro H b6 (⟨a4,b3,b0,F,w,rfl,L,s,J⟩|⟨a5,w,_⟩);rotate_left
 .exact absurd (o.i.symm.trans w) Zq
 obtain rfl:b=a4:=by have:=o.i.symm.trans w;injection this
 obtain⟨x,y,z,rfl⟩:=s.h7;have a1:=U (Ru s (λc d=>(J c d).1) (He o.i) a8 (by have:=af1 o.i;omega));have a0:=U (p.i.ae L);have N:=U s;have P:=U J;have R:=U L.aX;go_wp21;refine a1.i.mono ?_;rintro H m ⟨v,S,r,G,rfl,t,I,K⟩;obtain⟨B,C,D,rfl⟩:=I.L.h7;have E:=a0.i.ae t;have q:=E.A (.cells #[.slice x y z,.slice B C D,.map (some S),.map (some r)] 109);have k:=λe=>q.aq (i:=2) (j:=0) rfl e;have n:=λe g=>(k e).aq (i:=1) (j:=0) rfl g;have b9:=aE (q.aL (i:=2) rfl);have c0:=bi (q.aL (i:=2) rfl);have c1:=ay (q.aL (i:=2) rfl);have g:=λe=>aE ((k e).aL (i:=1) rfl);have b7:=λe=>bi ((k e).aL (i:=1) rfl);have b8:=ay (E.aL (i:=0) rfl);have O:af (∃a,tE a m.heap.size b/\∀c∈a,f.heap.size<=c.1/\∀e g,(((m.alloc (.cells #[.slice x y z,.slice B C D,.map (some S),.map (some r)] 109)).setCell ⟨f.heap.size,0,none⟩ e).setCell ⟨f.heap.size+1,0,none⟩ g).heap[c.1]?=some c.2):=by
  have M:=R.i;have b2:=t.aX;simp only[World.size_alloc]at M;have d:∀c∈F++G,m.heap[c.1]?=some c.2/\f.heap.size+1<c.1:=λc d=>by
   rcases Yn.1 d with d|d
   .obtain⟨h,l⟩:=P.i c d;simp only[World.size_alloc]at l;exact⟨(t.al _ (ay h) Zq).trans h,l⟩
   .exact⟨(K c d).1,Yr M (K c d).2⟩
  refine⟨(m.heap.size,.cells #[.slice x y z,.slice B C D,.map (some S),.map (some r)] 109)::(F++G),⟨_,b0,_,S,r,Yb,N.i.aR λc d=>Y5 _ (Yf _ d),I.aR λc d=>Y5 _ (Ym _ d)⟩,λc u=>?_⟩;rcases Yg.1 u with rfl|u
  .exact⟨by simp only;omega,λe g=>(n e g).aL (i:=0) rfl⟩
  .obtain⟨h,l⟩:=d c u;exact⟨Zm,λe g=>(Below.heap_setCell _ _ _ _ (by simp only;omega)).trans ((Below.heap_setCell _ _ _ _ (by simp only;omega)).trans ((Below.heap_alloc _ _ _ (ay h)).trans h))⟩
 have k:=U k;have n:=U n;go_wp2;refine leaves_cons (f:=42) (args:=#[Zp f.heap.size,.pointer (some ⟨f.heap.size+1,0,none⟩)]) Zq (by simp[go_sem]) ?_;refine(Fa (.inl ⟨rfl,rfl⟩) _ _ _).mono ?_;rintro H b4 b5 ⟨rfl,rfl,rfl⟩;simp only[Leaves,settle];obtain⟨a,h,l⟩:=O.i;exact⟨.tuple #[Zp m.heap.size,.nilIface],by simp[results,results25,go_sem,λe=>aE ((k.i e).aL (i:=2) rfl),λe g=>aE ((n.i e g).aL (i:=1) rfl)],m.heap.size,a,rfl,(n.i _ _).fr,h,λc d=>(l c d).2 _ _,Zm,λc d=>(l c d).1⟩
end
section
variable {a i kd p:Nat}
abbrev aI(t:Zb):Za:=⟨t.toArray⟩
structure HQ(y:Mar.aT):Prop where
 df:y.w<=4
 hA:Mar.ef y.text=true->y.w=2
 n4:∀c,Mar.fX c=true->y.text=[c]->y.w=4
def Xe:(Mar.hF.all λa=>match a with|c::_::_=>Mar.eV c|_=>false)=true:=Zr
theorem Fj{a:Zb}(d:Mar.ef a=true):∃b c f,a=b::c::f/\Mar.eV b=true:=by
 have e:a∈Mar.hF:=by simpa[Mar.ef]using d
 have:=List.all_eq_true.1 Xe a e;grind
def Vw{j g}(b:Mar.c9 j a=.ok g):HQ g/\g.y=a:=by
 unfold Mar.c9 at b;split at b
 .cases b
  exact⟨⟨Zq,λb=>(by grind [Fj]),λf _ b=>Zg⟩,rfl⟩
 .rename_i f t;split at b
  .rename_i k;have i:∀c,Mar.fX c=true->Mar.a9 (f::t)≠[c]:=λc e d=>by
    grind [Mar.a9,Mar.k9]
   unfold Mar.ej at b;split at b
   .cases b
   .split at b
    .cases b;exact⟨⟨Zq,λ_=>rfl,λc e d=>absurd d (i c e)⟩,rfl⟩
    .rename_i h;cases b
     exact⟨⟨Zq,λb=>absurd b h,λc e d=>absurd d (i c e)⟩,rfl⟩
  .split at b
   .rename_i m l;unfold Mar.f5 at b;split at b
    .cases b
     refine⟨⟨Zq,λh=>?_,λc e d=>?_⟩,rfl⟩;all_goals grind [Fj,Mar.a9,Mar.k9]
    grind
   .split at b
    .cases b
     exact⟨⟨Zq,λb=>(by grind [Fj]),λf _ b=>rfl⟩,rfl⟩
    grind
def Vy{c f}(b:Mar.c9 c a=.error f):f.no≠0/\f.y=a:=by
 unfold Mar.c9 at b;split at b
 .cases b
 .split at b
  .unfold Mar.ej at b;grind
  .split at b
   .unfold Mar.f5 at b;grind
   grind
def Wd(c:Except Mar.ac (Mar.aT×Nat))(a:fZ):Prop:=match c with
 |.ok (b,p)=>(a.w=b.w/\a.text=b.text/\a.n=b.n/\a.y=b.y/\a.fin=p)/\HQ b
 |.error f=>a.w=5/\a.e=f.no/\a.y=f.y/\f.no≠0
def Py(t:Zb)(p:Nat):Wd (qt t p) (ik t p):=by
 unfold qt ik gA;cases c:Mar.c9 (t.drop (p+Mar.et (t.drop p))) (p+Mar.et (t.drop p))with
 |ok d=>
  obtain⟨a,b⟩:=Vw c;exact⟨⟨rfl,rfl,rfl,b.symm,rfl⟩,a⟩
 |error f=>
  obtain⟨a,b⟩:=Vy c;exact⟨rfl,rfl,b.symm,a⟩
def dA(b:List bt):Ty->Int->Prop
 |.plain h,i=>i=h/\h<=4
 |.named j a,i=>0<=i/\∃e,b[i.toNat]?=some e/\e.w=14/\e.a4=j/\e.y=a
 |.opaq d f,i=>0<=i/\b[i.toNat]?=some (fQ (if f then 6 else 7) d)
 |.str d _,i=>0<=i/\b[i.toNat]?=some (fQ 8 d)
 |.arr g d f,i=>0<=i/\∃c,b[i.toNat]?=some (cY (if f then 9 else 10) d c)/\dA b g c
 |.opt g,i=>0<=i/\∃c,b[i.toNat]?=some (cY 11 0 c)/\dA b g c
 |.void,i=>i = -1
def rm{c:Type}{a d:List c}{b}(e:a[i]?=some b):(a++d)[i]?=some b:=by
 grind
theorem dA.b7{k}(l:List bt):∀{e:Ty} {i:Int},dA k e i->dA (k++l) e i:=by
 intro e;induction e with
 |plain d=>intro i b;exact b
 |named o a=>rintro i ⟨c,n,b,d⟩;exact⟨c,n,rm b,d⟩
 |opaq j f=>rintro i ⟨c,b⟩;exact⟨c,rm b⟩
 |str j f=>rintro i ⟨c,b⟩;exact⟨c,rm b⟩
 |arr m j f g=>rintro i ⟨c,h,b,d⟩;exact⟨c,h,rm b,g d⟩
 |opt m g=>rintro i ⟨c,h,b,d⟩;exact⟨c,h,rm b,g d⟩
 |void=>intro i b;exact b
abbrev Nl:=List (Zb×Option aD)
abbrev ri(a:List (Zb×Nat×Int)):bt:=⟨5,0,0,a.map (·.2.2),[],0,[],0⟩
def lJ(h:List bt)(g:Nl)(e:Ty)(of:Int):Prop:=
 (∃b,e=.plain b/\(b=0\/b=1\/b=4)/\of=b)\/(∃d a t f c,e=.named d a/\4<of/\aP g d=some (some (.enum t f c))/\h[of.toNat]?=some (ri c))
def dd(b:List (List Int×aU)):List (Int×aU):=b.flatMap λa=>a.1.map λc=>(c,a.2)
def jp(b:List (List Int×aU)):Option aU:=(b.find? λa=>a.1.isEmpty).map (·.2)
def kb(b:List bt)(k:Nl)(e:aD)(i:Int):Prop:=match e with
 |.typedef e=>dA b e.H i/\0<=i
 |.enum _ _ h=>0<=i/\b[i.toNat]?=some (ri h)
 |.struct _ _ h=>0<=i/\∃c:List Int,b[i.toNat]?=some ⟨12,0,0,[],c,0,[],0⟩/\c.length=h.length/\∀(f:Nat) (p:Int) (g:aU),c[f]?=some p->h[f]?=some g->dA b g.H p
 |.union _ _ l d=>0<=i/\∃(of:Int) (c:List Int) (j:Int),b[i.toNat]?=some ⟨13,0,of,(dd d).map (·.1),c,j,[],0⟩/\lJ b k l.H of/\
   c.length=(dd d).length/\(∀(f:Nat) (p:Int) (g:Int×aU),c[f]?=some p->(dd d)[f]?=some g->dA b g.2.H p)/\
   (match jp d with
   |none=>j = -2
   |some e=>dA b e.H j)/\∀a∈d,a.1=[]->jp d=some a.2
 |_=>False
def Kp(c d:Nl):Prop:=∀b a,aP c b=some (some a)->aP d b=some (some a)
theorem Ic(a:Nl):Kp a a:=λ_ _ b=>b
theorem lJ.b7{e c d f of}(b:lJ e c f of)(m:List bt)(l:Kp c d):lJ (e++m) d f of:=by
 rcases b with b|⟨o,a,t,g,n,h,i,j,k⟩
 .exact Y8 b
 .exact Ya ⟨o,a,t,g,n,h,i,l _ _ j,rm k⟩
theorem kb.b7{r o q d i}(c:kb r o d i)(e:List bt)(v:Kp o q):kb (r++e) q d i:=by
 cases d with
 |const a b f=>exact c
 |prog a b f d=>exact c
 |typedef d=>exact⟨c.1.b7 e,c.2⟩
 |enum a b f=>exact⟨c.1,rm c.2⟩
 |struct a b f=>
  obtain⟨g,n,h,j,k⟩:=c;exact⟨g,n,rm h,j,λl p m a b=>(k l p m a b).b7 e⟩
 |union a b f w=>
  obtain⟨g,of,n,s,h,j,k,t,x,u⟩:=c;refine⟨g,of,n,s,rm h,j.b7 e v,k,λl p m a b=>(t l p m a b).b7 e,?_,u⟩;grind [dA.b7]
def uJ(d:List bt)(c:Nl)(p:Zb×Option aD)(a:ia):Prop:=a.s=p.1/\match p.2 with
 |none=>a.a1=2
 |some (.const _ _ v)=>a.a1=0/\a.n=v
 |some (.prog ..)=>a.a1=2
 |some b=>a.a1=1/\a.y=(cd b).2/\kb d c b a.n
theorem uJ.b7{l i j p k}(h:uJ l i p k)(c:List bt)(g:Kp i j):uJ (l++c) j p k:=by
 refine⟨h.1,?_⟩;have b:=h.2;split
 .simp_all
 .simp_all
 .simp_all
 .rename_i f n o m;rw[m]at b;cases f with
  |const a d e=>simp_all
  |prog a d e f=>grind
  |typedef f=>exact⟨b.1,b.2.1,b.2.2.b7 c g⟩
  |enum a d e=>exact⟨b.1,b.2.1,b.2.2.b7 c g⟩
  |struct a d e=>exact⟨b.1,b.2.1,b.2.2.b7 c g⟩
  |union a d e f=>exact⟨b.1,b.2.1,b.2.2.b7 c g⟩
structure lI(rows:List bt)(nl:Nl)(l:List ia):Prop where
 am:l.length=nl.length
 f9:∀(i:Nat) (p:Zb×Option aD) (r:ia),nl[i]?=some p->l[i]?=some r->uJ rows nl p r
 nd:(nl.map (·.1)).Nodup
def lI.i9{f b a}(d:lI f b a):a.map (·.s)=b.map (·.1):=by
 apply List.ext_getElem?;intro i;rw[List.getElem?_map,List.getElem?_map];rcases Yj i b.length with c|c
 .have e:i<a.length:=by rw[d.am];omega
  have:=d.f9 i b[i] a[i] (Yd c) (Yd e);rw[Yd c,Yd e];simp[this.1]
 grind [am]
theorem lI.b7{f c d}(b:lI f c d)(e:List bt):lI (f++e) c d:=⟨b.am,λi p h a g=>(b.f9 i p h a g).b7 e (Ic c),b.nd⟩
theorem Vt(b:Nl)(a:Zb):(aP b a=none/\pX (b.map (·.1)) a<0)\/(∃(i:Nat) (c:Option aD),aP b a=some c/\pX (b.map (·.1)) a=(i:Int)/\b[i]?=some (a,c)):=by
 unfold pX;induction b with
 |nil=>left;simp[aP]
 |cons p b h=>
  by_cases l:p.1=a
  .grind [aP]
  .have f:(p.1==a)=false:=Zu;have k:(a==p.1)=false:=Zg;have g:aP (p::b) a=aP b a:=by simp[aP,List.find?,f]
   rw[g];rcases h with⟨d,e⟩|⟨i,c,d,e,j⟩
   .grind
   .right;refine⟨i+1,c,d,?_,Zu⟩;grind
structure cq where
 dc:Nat
 nl:Nl
 pd:Nl
 o:Zb
 ps:List cj
 rf:List (Zb×Int)
 fz:List ia
def oo(b:List bt):List (Zb×Int):=b.filterMap λa=>if a.w=14 then some (a.a4,a.y)else none
def acB(b:List bt)(a:bt):oo (b++[a])=oo b++if a.w=14 then [(a.a4,a.y)]else []:=by
 grind [oo]
def nV:List bt:=[⟨0,0,0,[],[],0,[],0⟩,⟨1,0,0,[],[],0,[],0⟩,⟨2,0,0,[],[],0,[],0⟩,⟨3,0,0,[],[],0,[],0⟩,⟨4,0,0,[],[],0,[],0⟩]
def Ay(b:Nat)(a:bt):Prop:=a.of<b/\(∀c∈a.aC,c<b)/\a.dV<b/\(a.w=5->∀c∈a.aH,dS (-2147483648) 2147483647 c=true)
def Fz(a:List ia)(e:Nl)(c:List ia):Prop:=(∃d,c=a++d)/\∀(b:Nat) (p:Zb×Option aD),b<a.length->e[b]?=some p->p.2≠none
def Fz.d9{c b a}(e:Fz c b a)(k:a.length=b.length)(p:Zb×Option aD)(d:ia):Fz c (b++[p]) (a++[d]):=by
 obtain⟨⟨i,l⟩,f⟩:=e;refine⟨⟨i++[d],Zu⟩,λh j g m=>f h j g ?_⟩;grind
theorem Fz.aq{a b c}(f:Fz a b c){e:Zb}(j:b[i]?=some (e,none))(d:aD)(r:ia):Fz a (eu b e d) (c.set i r):=by
 obtain⟨⟨g,m⟩,h⟩:=f;have k:a.length<=i:=by
  grind
 refine⟨⟨g.set (i-a.length) r,Zu⟩,λo p l n=>?_⟩;grind [eu]
structure Q(t:Zb)(b:cq)(st:St)(σ:ah):Prop where
 e:σ.s.e=0
 wd:Wd (fw t st.y st.nx) σ.s.x
 nl:st.F=b.nl++b.pd
 pd:b.pd=[]\/∃s,b.pd=[(s,none)]/\aP b.nl s=none
 nm:lI σ.h b.nl σ.F
 H:σ.an=st.an
 cn:σ.ax+b.dc=st.ax
 pg:σ.ai=st.ai.map (·.1)
 cU:∃l,σ.h=nV++l
 dM:∀(i:Nat) (r:bt),σ.h[i]?=some r->Ay (max i 5) r
 ou:σ.i=b.o
 pr:σ.ao=b.ps
 eq:oo σ.h=b.rf
 e2:Fz b.fz b.nl σ.F
def cq.ce(b:cq)(a:List (Zb×Nat)):cq:={ b with rf:=b.rf++a.map λp=>(p.1,(p.2:Int)) }
theorem pD(b:cq):b.ce []=b:=by simp[cq.ce]
theorem wu(b:cq)(a c:List (Zb×Nat)):(b.ce a).ce c=b.ce (a++c):=by simp[cq.ce]
structure Er(f:Mar.ac)(σ:ah):Prop where
 e:σ.s.e=f.no
 a:σ.s.a=f.y
 z:f.no≠0
structure Bd(f:Mar.ac)(σ:ah):Prop where
 e:σ.s.e=0
 k:σ.s.x.w=5
 n:σ.s.x.e=f.no
 a:σ.s.x.y=f.y
 z:f.no≠0
variable {t : Zb} {st h : St} {σ g j : ah} {b : cq} {f : Mar.ac}
def Er.bD(b:Er f σ)(d:bp σ g):Er f g:=by
 obtain⟨a,c⟩:=d (by rw[b.e];have:=b.z;omega);exact⟨a.trans b.e,c.trans b.a,b.z⟩
theorem Er.d6(a:Er f σ):σ.s.e≠0:=by rw[a.e];have:=a.z;omega
def Q.bd(a:Q t b st σ)(c:fw t st.y st.nx=.error f):Bd f σ:=by
 have:=a.wd;rw[c]at this;exact⟨a.e,this.1,this.2.1,this.2.2.1,this.2.2.2⟩
def Bd.is(a:Bd f σ){l:Zb}(b:kd≠5):aM σ kd l=false:=by
 grind [aM,kG,k]
theorem Bd.gR(b:Bd f σ):Er f (es σ):=by
 have:(es σ).s=⟨σ.s.x,f.no,f.y⟩:=by
  show nU σ.s=_;unfold nU qV kg;rw[Y9 b.k,Y9 b.e,b.n,b.a]
 exact⟨Zg,Zg,b.z⟩
def Bd.g8(a:Bd f σ){l}(c:kd≠5):Er f (aj t kd l σ):=by
 have b:aj t kd l σ=es σ:=by
  unfold aj rQ es;have:=a.is (l:=l) c;grind [aM]
 rw[b];exact a.gR
def vI(kd:Nat)(a:Zb):Bool:=(kd==2&&Mar.ef a)||(kd==4&&(a.length==1&&Mar.fX (a.getD 0 0)))
def Xz{a:Zb}(b:vI kd a=true):kd≠5:=by
 grind [vI]
def Q.is{d:Mar.aT}(h:Q t b st σ)(r:fw t st.y st.nx=.ok (d,p)){l:Zb}(f:vI kd l=true):aM σ kd l=(d.text==l):=by
 have j:=h.wd;rw[r]at j;obtain⟨⟨n,o,-⟩,i⟩:=j;unfold aM kG;rw[h.e,n,o];by_cases k:d.text=l
 .have s:d.w=kd:=by
   unfold vI at f;simp only[Bool.or_eq_true,Bool.and_eq_true,beq_iff_eq]at f;rcases f with⟨a,g⟩|⟨a,g,m⟩
   .rw[a];exact i.hA Zu
   .rw[a];obtain⟨c,q⟩:∃c,l=[c]:=by
     match l,g with
     |[c],_=>simp
    rw[q]at m k;exact i.n4 c Zu k
  simp_all
 simp_all
theorem Q.O{g:Mar.aT}(a:Q t b st σ)(f:fw t st.y st.nx=.ok (g,p)):Q t b { st with y:=p,nx:=none } (bq t σ):=by
 have c:=a.wd;rw[f]at c;obtain⟨⟨-,-,-,-,d⟩,-⟩:=c;refine⟨a.e,?_,a.nl,a.pd,a.nm,a.H,a.cn,a.pg,a.cU,a.dM,a.ou,a.pr,a.eq,a.e2⟩;show Wd (qt t p) (ik t σ.s.x.fin);rw[d];exact Py t p
theorem Q.gH{d:Mar.aT}(a:Q t b st σ)(f:fw t st.y st.nx=.ok (d,p)):Q t b { st with y:=p,nx:=some d } σ:=by
 have c:=a.wd;rw[f]at c;exact⟨a.e,c,a.nl,a.pd,a.nm,a.H,a.cn,a.pg,a.cU,a.dM,a.ou,a.pr,a.eq,a.e2⟩
def Q.hk(d:Q t b st σ)(a:Zb):(aP b.nl a=none/\bW σ a<0)\/(∃(i:Nat) (c:Option aD) (h:ia),aP b.nl a=some c/\bW σ a=(i:Int)/\b.nl[i]?=some (a,c)/\σ.F[i]?=some h/\uJ σ.h b.nl (a,c) h):=by
 have k:bW σ a=pX (b.nl.map (·.1)) a:=by unfold bW;rw[d.nm.i9]
 rw[k];rcases Vt b.nl a with e|⟨i,c,e,j,f⟩
 .simp_all
 .right;have l:i<b.nl.length:=by
   grind
  have g:i<σ.F.length:=by rw[d.nm.am];omega
  exact⟨i,c,σ.F[i],e,j,f,Yd g,d.nm.f9 i _ _ f (Yd g)⟩
end
section
variable {a kd p:Nat}{nl:Nl}{d h τ:Type}
variable {t : Zb} {st g : St} {σ i j σ1 σ2 : ah} {b c : cq} {f : Mar.ac}
def S(t:Zb)(b:d->cq->Prop)(e:Except Mar.ac (d×St))(σ:ah):Prop:=match e with
 |.ok (a,g)=>∃c,Q t c g σ/\b a c
 |.error f=>Er f σ
def Sx(t:Zb)(b:d->τ->cq->Prop)(e:Except Mar.ac (d×τ×St))(σ:ah):Prop:=match e with
 |.ok (a,h,g)=>∃c,Q t c g σ/\b a h c
 |.error f=>Er f σ
theorem hj{i R'}{e:PM d}{k:d->PM h}(b:S t i (e st) σ1)(l:bp σ1 σ2)(o:∀a g c,Q t c g σ1->i a c->S t R' (k a g) σ2):S t R' (aN e k st) σ2:=by
 unfold aN;cases j:e st with
 |ok p=>rw[j]at b;obtain⟨c,m,n⟩:=b;grind
 |error f=>rw[j]at b;exact Er.bD b l
theorem gx{j R'}{e:PX τ d}{l:d->PX τ h}{i}(b:Sx t j (e i st) σ1)(n:bp σ1 σ2)(q:∀a m g c,Q t c g σ1->j a m c->Sx t R' (l a m g) σ2):Sx t R' (aQ e l i st) σ2:=by
 unfold aQ;cases k:e i st with
 |ok r=>rw[k]at b;obtain⟨c,o,p⟩:=b;grind
 |error f=>rw[k]at b;exact Er.bD b n
theorem iR{g}{e:PM d}{i:τ}(b:S t g (e st) σ1):Sx t (λa l c=>g a c/\l=i) (lift e i st) σ1:=by
 unfold lift;cases h:e st with
 |ok m=>rw[h]at b;obtain⟨c,j,k⟩:=b;exact⟨c,j,k,rfl⟩
 |error f=>rw[h]at b;exact b
theorem S.aZ{R b:d->cq->Prop}{e}(f:S t R e σ)(g:∀a c,R a c->b a c):S t b e σ:=by
 unfold S at *
 grind
theorem Sx.aZ{R b:d->τ->cq->Prop}{e}(g:Sx t R e σ)(h:∀a f c,R a f c->b a f c):Sx t b e σ:=by
 unfold Sx at *
 grind
theorem S.ret{c:d->cq->Prop}{a}(e:Q t b st σ)(f:c a b):S t c (ret a st) σ:=⟨b,e,f⟩
theorem Sx.ret{c:d->τ->cq->Prop}{a e}(f:Q t b st σ)(g:c a e b):Sx t c (eG a e st) σ:=⟨b,f,g⟩
def XP(d:Q t b st σ)(a:Zb):(∀c,aP b.nl a=some c->aP st.F a=some c)/\(aP b.nl a=none->aP st.F a=none\/aP st.F a=some none):=by
 rw[d.nl];unfold aP;grind [Q.pd]
def pk(t:Zb)(st:St):(∃a p,fw t st.y st.nx=.ok (a,p))\/∃f,fw t st.y st.nx=.error f:=by
 cases b:fw t st.y st.nx<;>grind
def rt{a:Mar.aT}(b:fw t st.y st.nx=.ok (a,p)):next (aI t) st=.ok (a,{ st with y:=p,nx:=none }):=by
 simp_all[next]
theorem sP(a:fw t st.y st.nx=.error f):next (aI t) st=.error f:=by
 simp_all[next]
theorem vV{a:Mar.aT}(b:fw t st.y st.nx=.ok (a,p)):hp (aI t) st=.ok (a,{ st with y:=p,nx:=some a }):=by
 simp_all[hp]
theorem zz(a:fw t st.y st.nx=.error f):hp (aI t) st=.error f:=by
 simp_all[hp]
def Cz(c:Q t b st σ){l:Zb}(d:vI kd l=true):(∃f,jx (aI t) l st=.error f/\Bd f σ)\/∃g,jx (aI t) l st=.ok (aM σ kd l,g)/\Q t b g σ:=by
 rcases pk t st with⟨e,p,a⟩|⟨f,a⟩
 .right;refine⟨_,?_,c.gH a⟩;unfold jx;rw[vV a,c.is a d]
 .left;exact⟨f,by unfold jx;rw[zz a],c.bd a⟩
def lP(c:Q t b st σ){l:Zb}(i:vI kd l=true):(∃f,ek (aI t) l st=.error f/\Bd f σ)\/(∃g,ek (aI t) l st=.ok (true,g)/\aM σ kd l=true/\Q t b g (bq t σ))\/∃g,ek (aI t) l st=.ok (false,g)/\aM σ kd l=false/\Q t b g σ:=by
 rcases pk t st with⟨h,p,a⟩|⟨f,a⟩
 .right;have e:jx (aI t) l st=.ok (aM σ kd l,{ st with y:=p,nx:=some h }):=by
   unfold jx;rw[vV a,c.is a i]
  cases d:aM σ kd l with
  |true=>
   left;refine⟨{ st with y:=p,nx:=none },?_,rfl,c.O a⟩;unfold ek aN;rw[e,d];rfl
  |false=>
   right;refine⟨{ st with y:=p,nx:=some h },?_,rfl,c.gH a⟩;unfold ek aN;rw[e,d];rfl
 .left;refine⟨f,?_,c.bd a⟩;simp_all[ek,aN,jx,zz]
def rR{a:Zb}(b:aM σ kd a=true):aj t kd a σ=bq t σ:=by
 grind [aj,rQ,bq,aM]
theorem Pt{a:Zb}(b:aM σ kd a=false):aj t kd a σ=es σ:=by
 grind [aj,rQ,es,aM]
def Q.gt{a:Mar.aT}(c:Q t b st σ)(h:fw t st.y st.nx=.ok (a,p)):Er ⟨3,a.y⟩ (es σ):=by
 have d:=c.wd;rw[h]at d;obtain⟨⟨i,j,k,f,l⟩,g⟩:=d;have:(es σ).s=⟨σ.s.x,3,a.y⟩:=by
  show nU σ.s=_;unfold nU qV kg;have:=g.df;rw[Y2 Zm,Y9 c.e,f]
 exact⟨Zu,Zg,Zq⟩
def go(d:Q t b st σ){l:Zb}(h:vI kd l=true):S t (λ(j:Mar.aT) c=>c=b/\j.y=σ.s.x.y) (cu (aI t) l st) (aj t kd l σ):=by
 unfold cu aN;rcases pk t st with⟨k,p,a⟩|⟨f,a⟩
 .rw[rt a];have e:=d.is a h;have i:=d.wd;rw[a]at i;simp only;cases g:(k.text==l)with
  |true=>
   rw[g]at e;rw[Y9 rfl,rR e];exact⟨b,d.O a,rfl,i.1.2.2.2.1.symm⟩
  |false=>
   rw[g]at e;rw[Y2 Zq,Pt e];exact d.gt a
 .rw[sP a];exact(d.bd a).g8 (Xz h)
def Q.d0(c:Q t b st σ){e:Nat}(d:e≠0):Er ⟨e,a⟩ (ch e a σ):=by
 have:(ch e a σ).s=⟨σ.s.x,e,a⟩:=by
  unfold ch kg;rw[Y9 c.e]
 exact⟨Zg,Zg,d⟩
def Im(c:σ.s.e=0){e:Nat}(b:e≠0):Er ⟨e,a⟩ (ch e a σ):=by
 have:(ch e a σ).s=⟨σ.s.x,e,a⟩:=by
  simp_all[ch,kg]
 exact⟨Zg,Zg,b⟩
def Bd.eZ(a:Bd f σ)(c b:Int):Er f (bT t c b σ).2:=by
 unfold bT;rw[Y2 (by simpa using a.e),Y2 (by rw[a.k];omega),Y2 (by rw[a.is Zm];simp),Y2 (by rw[a.is Zm];simp),Y2 (by rw[a.k];omega)];exact a.gR
def aeh(j:Q t b st σ){i:Mar.aT}(m:fw t st.y st.nx=.ok (i,p))(g f d:Int):S t (λ(l:Int×Nat) c=>c=b/\(hS t g f d σ).1=(l.1,(l.2:Int))/\l.1=d/\dS g f d=true) ((if dS g f d then ret (d,i.y)else hU 8 i.y) { st with y:=p,nx:=none }) (hS t g f d σ).2:=by
 have k:=j.wd;rw[m]at k;unfold hS;by_cases h:dS g f d=true
 .have:¬(d<g\/f<d):=by simp[dS]at h;omega
  rw[Y9 h,Y2 this];exact⟨b,j.O m,rfl,by simp only;rw[k.1.2.2.2.1],rfl,h⟩
 .have:d<g\/f<d:=by simp[dS]at h;omega
  rw[Y2 h,Y9 this,k.1.2.2.2.1];exact j.d0 (e:=8) (a:=i.y) Zm
def zK(h:Q t b st σ)(g e:Int):S t (λ(i:Int×Nat) c=>c=b/\(bT t g e σ).1=(i.1,(i.2:Int))/\dS g e i.1=true) (jT (aI t) (dS g e) st) (bT t g e σ).2:=by
 unfold jT aN;rcases pk t st with⟨d,p,k⟩|⟨f,k⟩
 .rw[rt k];have z:=h.wd;rw[k]at z;obtain⟨⟨R,G,H,B,a0⟩,D⟩:=z;have C:=h.is k (kd:=2) (l:=JF) Zr;have hF:=h.is k (kd:=2) (l:=JC) Zr;unfold bT;rw[Y2 (by simpa using h.e)];simp only;unfold ll;have A:∀q,S t (λ(i:Int×Nat) c=>c=b/\(hS t g e q σ).1=(i.1,(i.2:Int))/\dS g e i.1=true) ((if dS g e q then ret (q,d.y)else hU 8 d.y) { st with y:=p,nx:=none }) (hS t g e q σ).2:=λq=>
   (aeh h k g e q).aZ λi c E=>⟨E.1,E.2.1,Zu⟩
  by_cases a5:d.w=3
  .rw[Y9 (c:=σ.s.x.w=3) Zm,Y9 (c:=((d.w:Int)==3)=true) Zu,H];exact A d.n
  .rw[Y2 (c:=σ.s.x.w=3) Zm,Y2 (c:=((d.w:Int)==3)=true) Zg];by_cases a4:d.w=1
   .have N:(d.text==JF)=false:=by
     simp only[Yi];intro o;have:=D.hA (by rw[o];rfl);omega
    have M:(d.text==JC)=false:=by
     simp only[Yi];intro o;have:=D.hA (by rw[o];rfl);omega
    rw[C,hF,N,M,Y9 (c:=σ.s.x.w=1) Zm,Y9 (c:=((d.w:Int)==1)=true) Zu];simp only[Ye,if_false]
    unfold nf;simp only;obtain⟨J,K⟩:=XP h d.text;rw[show aP ({ st with y:=p,nx:=none }:St).F d.text=aP st.F d.text from rfl];rw[G];rcases h.hk d.text with⟨n,F⟩|⟨a3,O,m,n,F,a6,a7,L⟩
    .rw[Y9 (Y8 F),B];rcases K n with n|n
     .rw[n];exact h.d0 (e:=7) (a:=d.y) Zm
     .rw[n];exact h.d0 (e:=7) (a:=d.y) Zm
    .rw[J _ n];have I:dw σ=m:=by
      grind [dw]
     rw[I];have a1:¬bW σ d.text<0:=Zm;have a2:m.a1≠0->(bW σ d.text<0\/m.a1≠0):=Ya;have P:m.a1≠0->S t (λ(i:Int×Nat) c=>c=b/\(if bW σ d.text<0\/m.a1≠0 then ((0,0),ch 7 ↑σ.s.x.y σ)else hS t g e m.n σ).1=(i.1,(i.2:Int))/\dS g e i.1=true) (.error ⟨7,d.y⟩) (if bW σ d.text<0\/m.a1≠0 then ((0,0),ch 7 ↑σ.s.x.y σ)else hS t g e m.n σ).2:=λz=>by
      rw[Y9 (Ya z),B];exact h.d0 (e:=7) (a:=d.y) Zm
     have a8:=L.2;cases O with
     |none=>simp_all
     |some u=>
      cases u with
      |const a r v=>
       grind
      |prog a r j u=>simp_all
      |typedef u=>simp_all
      |enum a r j=>simp_all
      |struct a r j=>simp_all
      |union a r j u=>simp_all
   .rw[Y2 (c:=((d.w:Int)==1)=true) Zg,C,hF];by_cases y:(d.text==JF)=true
    .rw[Y9 y,Y9 y];exact A 1
    .rw[Y2 y,Y2 y];by_cases w:(d.text==JC)=true
     .rw[Y9 w,Y9 w];exact A 0
     .rw[Y2 w,Y2 w,Y2 Zm];exact h.gt k
 .rw[sP k];exact(h.bd k).eZ g e
theorem Bd.dz(a:Bd f σ):Er f (dQ t σ).2:=by
 unfold dQ lE;rw[Y2 (by simpa using a.e),Y2 (by rw[a.k];omega)];exact a.gR
def Bd.mt(a:Bd f σ)(c:Int):Er f (bf t c σ).2:=by
 have b:=a.dz (t:=t);unfold bf;rw[Y9 b.d6];omega
def Bd.h4(a:Bd f σ)(b:Zc)(all:Bool):Er f (cG t b all σ).2:=(a.dz (t:=t)).bD (by
 grind [cG,ow,fF])
def HC{a:Mar.aT}(c:Q t b st σ)(h:fw t st.y st.nx=.ok (a,p))(m:a.w=1):(dQ t σ).1.text=a.text/\(dQ t σ).1.y=a.y/\(dQ t σ).2=bq t σ:=by
 have d:=c.wd;rw[h]at d;obtain⟨⟨i,f,j,g,k⟩,l⟩:=d;unfold dQ lE;rw[Y2 (by simpa using c.e),Y9 Zm];exact⟨f,g,rfl⟩
def HF{d:Mar.aT}(a:Q t b st σ)(f:fw t st.y st.nx=.ok (d,p))(m:d.w≠1):(dQ t σ).2=es σ:=by
 have c:=a.wd;rw[f]at c;obtain⟨⟨g,h,i,j,k⟩,l⟩:=c;unfold dQ lE;rw[Y2 (by simpa using a.e),Y2 Zm];rfl
theorem uf(nl:Nl)(b a:Zb)(c:aP nl b=none):aP (nl++[(b,none)]) a=if a=b then some none else aP nl a:=by
 unfold aP at *
 grind
def Xk{a:Zb}(b:aP nl a=none):Kp nl (nl++[(a,none)]):=λc d e=>by
 rw[uf nl a c b];grind
theorem Bx{a:Zb}(b:aP nl a=none):a ∉ nl.map (·.1):=by
 intro c;obtain⟨f,e,d⟩:=YE.1 c;unfold aP at b;have:nl.find? (λp=>p.1==a)=none:=by simpa using b
 grind
def lI.d9{i h}(d:lI i nl h){g:Zb}(k:aP nl g=none)(l a:Int):lI i (nl++[(g,none)]) (h++[⟨g,2,l,a⟩]):=by
 refine⟨by simp[d.am],?_,?_⟩
 .intro f p n b c;rcases Yj f nl.length with e|e
  .rw[Ys e]at b;rw[Ys (by rw[d.am];omega)]at c;have:=(d.f9 f p n b c).b7 [] (Xk k);simp_all
  .rw[Yw e]at b;rw[Yw (by rw[d.am];omega),d.am]at c;match j:f-nl.length with
   |0=>
    rw[j]at b c;simp at b c;subst b;subst c;exact⟨rfl,rfl⟩
   |m+1=>simp_all
 .rw[List.map_append,YJ];grind [nd,Bx]
abbrev cq.aR(b:cq)(a:Zb):cq:={ b with nl:=b.nl++[(a,none)] }
def xJ(j:Q t b st σ)(o:b.pd=[]):S t (λk c=>c=b.aR k.1/\(bf t 2 σ).1.text=k.1/\(bf t 2 σ).1.y=k.2/\aP b.nl k.1=none/\(bf t 2 σ).2.F=σ.F++[⟨k.1,2,-1,k.2⟩]) (ju (aI t) st) (bf t 2 σ).2:=by
 unfold ju lc name aQ lift;rcases pk t st with⟨g,p,h⟩|⟨f,h⟩
 .rw[rt h];simp only;by_cases r:g.w=1
  .obtain⟨s,u,x⟩:=HC j h r;rw[Y9 Zu];have d:=j.O h;have v:aP b.nl g.text=none/\bW (bq t σ) g.text<0\/(∃m,aP b.nl g.text=some m)/\0<=bW (bq t σ) g.text:=by
    rcases d.hk g.text with i|⟨z,m,A,i,l,-⟩;all_goals simp_all
   have y:st.F=b.nl:=by rw[j.nl,o];simp
   have w:(iK uo).a9 g () { st with y:=p,nx:=none } = match aP b.nl g.text with
     |none=>.ok ((),(),{ st with y:=p,nx:=none,F:=b.nl++[(g.text,none)] })
     |some _=>.error ⟨6,g.y⟩:=by
    show lift (iX g) () { st with y:=p,nx:=none } = _;unfold lift iX;grind
   rw[w];unfold bf;rw[x,Y2 (by simpa using d.e),s,u];rcases v with⟨i,l⟩|⟨⟨m,i⟩,l⟩
   .rw[i,Y2 Zm];refine⟨b.aR g.text,⟨d.e,d.wd,?_,Y8 o,d.nm.d9 i ..,d.H,d.cn,d.pg,d.cU,d.dM,d.ou,d.pr,d.eq,d.e2.d9 d.nm.am ..⟩,rfl,s,u,i,rfl⟩;simp_all
   .rw[i,Y9 l];exact d.d0 (e:=6) (a:=g.y) Zm
  .rw[Y2 Zg];have q:=HF j h r;have n:=j.gt h;have:(bf t 2 σ).2=es σ:=by
    unfold bf;rw[q,Y9 n.d6,q]
   rw[this];exact n
 .rw[sP h];exact(j.bd h).mt 2
def CD(h:Q t b st σ)(d:Zc)(a l:Nat):Sx t (λk v c=>c=b/\(cG t d false σ).1.text=k.1/\(cG t d false σ).1.y=k.2/\v=d++[k.1]) (name (aI t) (cK a l) d st) (cG t d false σ).2:=by
 unfold name aQ lift;rcases pk t st with⟨g,p,e⟩|⟨f,e⟩
 .rw[rt e];simp only;by_cases o:g.w=1
  .obtain⟨q,r,w⟩:=HC h e o;rw[Y9 Zu];have n:=h.O e;have s:(cK a l).a9 g d { st with y:=p,nx:=none } = if d.contains g.text=true then .error ⟨6,g.y⟩else .ok ((),d++[g.text],{ st with y:=p,nx:=none }):=by
    show pu (pR g) d { st with y:=p,nx:=none } = _;unfold pu pR;grind
   rw[s];unfold cG;simp only[Ye,if_false]
   rw[w,q,r];by_cases j:d.contains g.text=true
   .rw[Y9 j,Y9 ⟨n.e,j⟩];exact n.d0 (e:=6) (a:=g.y) Zm
   .rw[Y2 j,Y2 (λi=>j i.2)];exact⟨b,Zu,rfl,q,r,rfl⟩
  .rw[Y2 Zg];have u:=HF h e o;have m:=h.gt e;have:(cG t d false σ).2=es σ:=by
    unfold cG;simp only;rw[u,Y2 (λi=>m.d6 i.1)];omega
   rw[this];exact m
 .rw[sP e];exact(h.bd e).h4 d false
end
section
variable {i:Int}{r:bt}{h:Ty}{j n τ:Type}
variable {t : Zb} {st m : St} {a o p σ1 σ2 : ah} {g b : cq} {f : Mar.ac}
def Q.ho(b:Q t g st a):5<=a.h.length:=by
 obtain⟨d,c⟩:=b.cU;simp_all[nV]
theorem dA.lt{b:List bt}(m:5<=b.length)(a:dA b h i):i<b.length:=by
 have e:∀{r:bt},0<=i->b[i.toNat]?=some r->i<b.length:=λc d=>by
  grind
 cases h with
 |plain n=>have:=a.1;have:=a.2;omega
 |named o l=>obtain⟨c,r,d,-⟩:=a;simp_all
 |opaq g f=>exact e a.1 a.2
 |str g f=>exact e a.1 a.2
 |arr k g f=>obtain⟨c,j,d,-⟩:=a;simp_all
 |opt k=>obtain⟨c,j,d,-⟩:=a;simp_all
 |void=>have:i = -1:=a;omega
def Q.k0(b:Q t g st a)(k:Ay (max a.h.length 5) r):Q t { g with rf:=g.rf++if r.w=14 then [(r.a4,r.y)]else [] } st (dk r a):=by
 refine⟨b.e,b.wd,b.nl,b.pd,b.nm.b7 [r],b.H,b.cn,b.pg,?_,?_,b.ou,b.pr,by show oo (a.h++[r])=_;rw[acB,b.eq],b.e2⟩
 .obtain⟨f,j⟩:=b.cU;exact⟨f++[r],by show a.h++[r]=_;simp_all⟩
 .intro i h d;rcases Yj i a.h.length with c|c
  .rw[show (dk r a).h=a.h++[r]from rfl,Ys c]at d;exact b.dM i h d
  .rw[show (dk r a).h=a.h++[r]from rfl,Yw c]at d;grind
def Q.row(b:Q t g st a)(c:Ay (max a.h.length 5) r)(d:r.w≠14):Q t g st (dk r a):=by
 have:=b.k0 c;simp_all
def rC(a:ah)(r:bt):(dk r a).h[((a.h.length:Nat):Int).toNat]?=some r:=by
 show (a.h++[r])[_]?=_;simp
def Ed(a:Int)(f:Bool):Zb:=if f then [91]++dh a++[93]else [60]++dh a++[62]
def vB:Ty->Zb
 |.opaq _ _=>[111,112,97,113,117,101,32]
 |.str _ _=>[115,116,114,105,110,103,32]
 |.arr a _ _=>ly a++[32]
 |.opt a=>ly a++[32,42]
 |h=>ly h++[32]
def AK:Ty->Zb
 |.opaq a f=>Ed a f
 |.str a _=>Ed a false
 |.arr _ a f=>Ed a f
 |_=>[]
def yA(h:Ty):Prop:=(∃a,h=.plain a/\a<=4)\/∃c b,h=.named c b
def yA.d7(a:yA h):vB h=ly h++[32]/\AK h=[]:=by
 rcases a with⟨c,rfl,-⟩|⟨d,b,rfl⟩<;>exact⟨rfl,rfl⟩
def yA.aa{b}(a:yA h)(r:dA b h i):0<=i:=by
 rcases a with⟨d,rfl,-⟩|⟨e,c,rfl⟩
 .have:=r.1;omega
 .exact r.1
def Ew(f:Mar.ac)(a:ah):Prop:=Er f a\/Bd f a
def Sw(t:Zb)(c:j->cq->Prop)(r:Except Mar.ac (j×St))(a:ah):Prop:=match r with
 |.ok (d,m)=>∃b,Q t b m a/\c d b
 |.error f=>Ew f a
def Sy(t:Zb)(c:j->τ->cq->Prop)(r:Except Mar.ac (j×τ×St))(a:ah):Prop:=match r with
 |.ok (d,e,m)=>∃b,Q t b m a/\c d e b
 |.error f=>Ew f a
def wD{c:j->τ->cq->Prop}{r:Except Mar.ac (j×τ×St)}(b:Sx t c r a):Sy t c r a:=by
 unfold Sx at b;split at b
 .exact b
 .exact Y8 b
theorem DF{e R'}{c:PX τ j}{i:j->PX τ n}{d}(a:Sx t e (c d st) σ1)(l:bp σ1 σ2)(q:∀g k m b,Q t b m σ1->e g k b->Sy t R' (i g k m) σ2):Sy t R' (aQ c i d st) σ2:=by
 unfold aQ;cases h:c d st with
 |ok r=>rw[h]at a;obtain⟨b,o,p⟩:=a;grind
 |error f=>rw[h]at a;exact Y8 (Er.bD a l)
theorem DG{e g}{c:PX τ j}{k:j->PX τ n}{d}(a:Sy t e (c d st) σ1)(p:bp σ1 σ2)(o:∀f,Bd f σ1->Er f σ2)(s:∀h l m b,Q t b m σ1->e h l b->Sx t g (k h l m) σ2):Sx t g (aQ c k d st) σ2:=by
 unfold aQ;cases i:c d st with
 |ok u=>rw[i]at a;obtain⟨b,q,r⟩:=a;grind
 |error f=>
  rw[i]at a;rcases a with a|a
  .exact Er.bD a p
  .exact o f a
theorem IG{d e}{c:PM j}{i:j->PM n}(a:Sw t d (c st) σ1)(l:bp σ1 σ2)(k:∀f,Bd f σ1->Er f σ2)(q:∀g m b,Q t b m σ1->d g b->S t e (i g m) σ2):S t e (aN c i st) σ2:=by
 unfold aN;cases h:c st with
 |ok r=>rw[h]at a;obtain⟨b,o,p⟩:=a;grind
 |error f=>
  rw[h]at a;rcases a with a|a
  .exact Er.bD a l
  .exact k f a
theorem IF{d}{c:PM j}{g:τ}(a:Sw t d (c st) σ1):Sy t (λh l b=>d h b/\l=g) (lift c g st) σ1:=by
 unfold lift;cases e:c st with
 |ok m=>rw[e]at a;obtain⟨b,i,k⟩:=a;exact⟨b,i,k,rfl⟩
 |error f=>rw[e]at a;exact a
def Bd.w(b:Bd f a):Er f (cS t a).2:=by
 unfold cS;have c:∀d,¬(a.s.x.w=2/\a.s.x.text=d):=λd g=>by rw[b.k]at g;omega
 rw[Y2 (by simpa using b.e),Y2 (by rw[b.k];omega),Y2 (c _),Y2 (c _),Y2 (c _),Y2 (c _)];exact b.gR
def Of(o:Q t g st a):Sw t (λh b=>b=g.ce (gq h)/\yA h/\dA (cS t a).2.h h (cS t a).1.1/\(cS t a).1.2=ly h) (rL (aI t) st) (cS t a).2:=by
 unfold rL aN;rcases pk t st with⟨i,K,j⟩|⟨f,j⟩
 .rw[rt j];have E:=o.wd;rw[j]at E;obtain⟨⟨H,B,M,I,N⟩,J⟩:=E;have p:=o.O j;unfold lB cS;rw[Y2 (by simpa using o.e)];have e:∀y,Mar.ef y=true->((a.s.x.w=2/\a.s.x.text=y)↔(i.text==y)=true):=λy O=>by
   rw[H,B];simp only[beq_iff_eq];exact⟨λd=>d.2,λd=>⟨J.hA Zu,d⟩⟩
  simp only;by_cases P:i.w=1
  .rw[Y9 (c:=((i.w:Int)==1)=true) Zu,Y9 (c:=a.s.x.w=1) Zm];have D:=p.k0 (r:=rA a.s.x.text a.s.x.y) ⟨by simp[rA]<;>omega,by simp[rA],by simp[rA]<;>omega,by simp[rA]⟩;rw[Y9 (show (rA a.s.x.text a.s.x.y).w=14 from rfl)]at D;refine⟨_,D,by grind [cq.ce,gq,rA],Ya ⟨_,_,rfl⟩,⟨Zq,_,rC ..,rfl,B,by show ((a.s.x.y:Nat):Int)=_;rw[I]⟩,B⟩
  .rw[Y2 (c:=((i.w:Int)==1)=true) Zg,Y2 (c:=a.s.x.w=1) Zm];by_cases s:(i.text==Jk)=true
   .rw[Y9 s,Y9 ((e _ Zr).2 s)];exact⟨g,p,(pD g).symm,Y8 ⟨0,rfl,Zm⟩,⟨rfl,Zm⟩,rfl⟩
   .rw[Y2 s,Y2 (λd=>s ((e _ Zr).1 d))];by_cases u:(i.text==Jq)=true
    .rw[Y9 u,Y9 ((e _ Zr).2 u)];exact⟨g,p,(pD g).symm,Y8 ⟨2,rfl,Zm⟩,⟨rfl,Zm⟩,rfl⟩
    .rw[Y2 u,Y2 (λd=>u ((e _ Zr).1 d))];by_cases v:(i.text==Js)=true
     .rw[Y9 v,Y9 ((e _ Zr).2 v)];exact⟨g,p,(pD g).symm,Y8 ⟨4,rfl,Zm⟩,⟨rfl,Zm⟩,rfl⟩
     .rw[Y2 v,Y2 (λd=>v ((e _ Zr).1 d))];by_cases w:(i.text==Jb)=true
      .rw[Y9 w,Y9 ((e _ Zr).2 w)];unfold mf;rcases lP p (kd:=2) (l:=Jq) Zr with⟨G,q,k⟩|⟨F,q,k,z⟩|⟨F,q,k,z⟩
       .unfold aN;rw[q,Y2 (by rw[k.is Zm];simp),Y2 (by rw[k.is Zm];simp)];exact Ya k
       .unfold aN;rw[q,Y9 k];exact⟨g,z,(pD g).symm,Y8 ⟨3,rfl,Zm⟩,⟨rfl,Zm⟩,rfl⟩
       .rw[Y2 Zu];have d:∀(C:Bool->PM Ty),aN (ek (aI t) Jq) C { st with y:=K,nx:=none } = C false F:=λC=>by grind [aN]
        rw[d];simp only[Ye,if_false]
        unfold aN;rcases lP z (kd:=2) (l:=Jk) Zr with⟨G,m,n⟩|⟨L,m,n,A⟩|⟨L,m,n,A⟩
        .rw[m,Y2 (by rw[n.is Zm];simp)];exact Ya n
        .rw[m,Y9 n];exact⟨g,A,(pD g).symm,Y8 ⟨1,rfl,Zm⟩,⟨rfl,Zm⟩,rfl⟩
        .rw[m,Y2 Zu];exact⟨g,A,(pD g).symm,Y8 ⟨1,rfl,Zm⟩,⟨rfl,Zm⟩,rfl⟩
      .rw[Y2 w,Y2 (λd=>w ((e _ Zr).1 d))];exact Y8 (o.gt j)
 .rw[sP j];exact Y8 (o.bd j).w
def Bd.l8(c:Bd f a):Er f (dC t false a).2:=by
 have b:=c.g8 (t:=t) (kd:=4) (l:=[60]) Zm;unfold dC;rw[Y2 Zq];rw[Y2 (by rw[ze b.d6];simp)];exact(b.bD (jR _ _ _)).bD (bu _ _ _)
theorem Og(m:Q t g st a):S t (λh b=>b=g/\h=((dC t false a).1,false)) (rq (aI t) st) (dC t false a).2:=by
 unfold rq dC;rw[Y2 Zq];simp only;have n:=go m (kd:=4) (l:=[60]) Zr;generalize aj t 4 [60] a=σ1 at *
 have p:bp σ1 (if aM σ1 4 [62]=true then ((4294967295:Int),aj t 4 [62] σ1)else ((bT t 0 4294967295 σ1).1.1,aj t 4 [62] (bT t 0 4294967295 σ1).2)).2:=by
  split
  .exact bu _ _ _
  .exact(jR _ _ _).u (bu _ _ _)
 refine hj n p ?_;rintro v u j q ⟨rfl,-⟩;rcases lP q (kd:=4) (l:=[62]) Zr with⟨y,d,c⟩|⟨i,d,c,e⟩|⟨i,d,c,e⟩
 .unfold aN;rw[d,Y2 (by rw[c.is Zm];simp)];exact(c.eZ 0 4294967295).bD (bu _ _ _)
 .unfold aN;rw[d,Y9 c,rR c];exact⟨j,e,rfl,rfl⟩
 .have k:∀(f:Bool->PM (Int×Bool)),aN (ek (aI t) [62]) f u=f false i:=λf=>by grind [aN]
  rw[k,Y2 Zu];simp only[Ye,if_false]
  refine hj (zK e 0 4294967295) (bu _ _ _) ?_;rintro h z w r ⟨rfl,o,-⟩;refine hj (go r (kd:=4) (l:=[62]) Zr) (fF _) ?_;rintro v A x s ⟨rfl,-⟩;exact S.ret s ⟨rfl,by rw[o]⟩
def Oc(m:Q t g st a)(h:aM a 4 [91]=true):S t (λi b=>b=g/\i=((dC t true a).1,true)) (pP (aI t) st) (dC t true a).2:=by
 unfold pP dC;rw[Y9 rfl];simp only;rw[rR h];rcases lP m (kd:=4) (l:=[91]) Zr with⟨s,e,c⟩|⟨j,e,c,f⟩|⟨j,e,c,f⟩
 .rw[c.is Zm]at h;grind
 .have k:∀(d:Bool->PM (Int×Bool)),aN (ek (aI t) [91]) d st=d true j:=λd=>by grind [aN]
  rw[k];simp only[if_true]
  refine hj (zK f 1 1000) (bu _ _ _) ?_;rintro i u q o ⟨rfl,n,-⟩;refine hj (go o (kd:=4) (l:=[93]) Zr) (fF _) ?_;rintro w v r p ⟨rfl,-⟩;exact S.ret p ⟨rfl,by rw[n]⟩
 simp_all
def Ob(f:Q t g st a)(k:aM a 4 [91]=false):S t (λh b=>b=g/\h=((dC t false a).1,false)) (pP (aI t) st) (dC t false a).2:=by
 unfold pP;rcases lP f (kd:=4) (l:=[91]) Zr with⟨j,c,d⟩|⟨i,c,d,e⟩|⟨i,c,d,e⟩
 .unfold aN;rw[c];exact d.l8
 all_goals simp_all[aN,Og]
structure ye(d:aU)(r:mM)(a:ah):Prop where
 x:r.x.text=d.t
 y:r.x.y=d.y
 d7:r.d7=vB d.H
 e0:r.e0=AK d.H
 g2:dA a.h d.H r.r
 aa:0<=r.r
def Oz(b:Zc)(all d:Bool)(a:ah):bp (cG t b all (bq t a)).2 (kl t b all d a).2:=by
 unfold kl;generalize cG t b all (bq t a)=r;by_cases c:aM r.2 4 [91]=true/\d=true
 .rw[Y9 c];exact(px _ _).u (hH _ _)
 .rw[Y2 c];exact(px _ _).u (hH _ _)
def Ot(f:Zc)(all:Bool)(a:ah):bp (cS t a).2 (iY t f all a).2:=by
 unfold iY;simp only;generalize cS t a=b;by_cases d:aM b.2 4 [42]=true
 .rw[Y9 d];exact(kr _).u ((qw _ _ _).u (hH _ _))
 .rw[Y2 d];generalize h:cG t f all b.2=r;have c:bp b.2 r.2:=by grind [qw]
  by_cases e:aM r.2 4 [91]=true
  .rw[Y9 e];exact c.u ((px _ _).u (hH _ _))
  .rw[Y2 e];by_cases g:aM r.2 4 [60]=true
   .rw[Y9 g];exact c.u ((px _ _).u (hH _ _))
   simp_all
def Bd.i5(c:Bd f a)(b:Zc)(all:Bool):Er f (iY t b all a).2:=(c.w (t:=t)).bD (Ot b all a)
def UU(d:Zc)(all:Bool)(b:Bd f (cS t a).2):Er f (iY t d all a).2:=by
 unfold iY;simp only;generalize cS t a=e at *
 rw[Y2 (by rw[b.is Zm];simp)];have c:=b.h4 (t:=t) d all;rw[Y2 (by rw[ze c.d6];simp),Y2 (by rw[ze c.d6];simp)];omega
theorem Bd.iD(b:Bd f a)(c:Zc)(all:Bool):Er f (dx t c all a).2:=by
 unfold dx;rw[Y2 (by rw[b.is Zm,b.is Zm];simp)];exact b.i5 c all
abbrev Am(τ:Type):=List (Zb×Nat)->(Zb×Nat)->τ->cq->Prop
abbrev Qi(τ:Type):=(Zb×Nat)->τ->cq->Prop
def wq(t:Zb)(e:fg τ)(h:τ)(d:Zc)(all:Bool)(g:cq)(f:Qi τ):Prop:=
 ∀st a,Q t g st a->Sx t (λc i b=>f c i b/\(cG t d all a).1.text=c.1/\(cG t d all a).1.y=c.2) (name (aI t) e h st) (cG t d all a).2
def aeb{h n c all}{i:Am τ}(s:wq t h n c all g (i []))(v:Q t g st (bq t a))(l:a.s.x.text=Jy)(B:aM a 2 Ju=false):Sx t (λd y b=>i (gq d.H) (d.t,d.y) y b/\ye d (kl t c all true a).1 (kl t c all true a).2) (qZ (aI t) h true n st) (kl t c all true a).2:=by
 unfold qZ;rw[Y9 rfl];refine gx (s _ _ v) (Oz _ _ _ _) ?_;rintro C D cH A m ⟨j,o,p⟩;unfold kl;simp only[and_true];generalize cG t c all (bq t a)=r at *
 have k:bp r.2 (if aM r.2 4 [91]=true then ((⟨(dC t true r.2).2.h.length,a.s.x.text++[32],[91]++dh (dC t true r.2).1++[93],r.1⟩:mM),dk (fQ 6 (dC t true r.2).1) (dC t true r.2).2)else ((⟨(dC t false r.2).2.h.length,a.s.x.text++[32],[60]++dh (dC t false r.2).1++[62],r.1⟩:mM),dk (fQ (if aM a 2 Ju=true then 8 else 7) (dC t false r.2).1) (dC t false r.2).2)).2:=by
  split
  .exact(px _ _).u (hH _ _)
  .exact(px _ _).u (hH _ _)
 by_cases e:aM r.2 4 [91]=true
 .simp only[Y9 e]at k ⊢;refine gx (iR (Oc m e)) (hH _ _) ?_;rintro w z sZ q f ⟨⟨rfl,rfl⟩,rfl⟩;refine⟨_,f.row ⟨by simp[fQ]<;>omega,by simp[fQ],by simp[fQ]<;>omega,by grind [fQ]⟩ (by simp_all[fQ]),j,?_⟩;exact⟨o,p,by rw[l];rfl,rfl,⟨Zq,rC _ _⟩,Zq⟩
 .have u:aM r.2 4 [91]=false:=Zu;simp only[Y2 e]at k ⊢;refine gx (iR (Ob m u)) (hH _ _) ?_;rintro w z sZ q f ⟨⟨rfl,rfl⟩,rfl⟩;refine⟨_,f.row ⟨by simp[fQ]<;>omega,by simp[fQ],by simp[fQ]<;>omega,by grind [fQ]⟩ (by simp_all[fQ]),j,?_⟩;rw[Y2 Zu];exact⟨o,p,by rw[l];rfl,rfl,⟨Zq,rC _ _⟩,Zq⟩
def aec{e h c all}{f:Am τ}(j:wq t e h c all g (f []))(l:Q t g st (bq t a))(m:a.s.x.text=Ju)(k:aM a 2 Ju=true):Sx t (λd p b=>f (gq d.H) (d.t,d.y) p b/\ye d (kl t c all false a).1 (kl t c all false a).2) (ra (aI t) e true h st) (kl t c all false a).2:=by
 unfold ra;rw[Y9 rfl];refine gx (j _ _ l) (Oz _ _ _ _) ?_;rintro w z cH u n ⟨i,q,s⟩;unfold kl;simp only[Ye,and_false,if_false]
 generalize cG t c all (bq t a)=r at *
 refine gx (iR (Og n)) (hH _ _) ?_;rintro y A sZ v o ⟨⟨rfl,rfl⟩,rfl⟩;refine⟨_,o.row ⟨by simp[fQ]<;>omega,by simp[fQ],by simp[fQ]<;>omega,by grind [fQ]⟩ (by simp_all[fQ]),i,?_⟩;rw[Y9 k];exact⟨q,s,by rw[m];rfl,rfl,⟨Zq,rC _ _⟩,Zq⟩
def dA.ak(b:dA a.h h i)(d:dm a o):dA o.h h i:=by
 obtain⟨e,c,-⟩:=d.h;rw[c];exact b.b7 e
def ad9{J a1 e all}{K:Am τ}(M:∀a0,wq t J a1 e all (g.ce a0) (K a0))(a4:Q t g st a):Sy t (λx a9 b=>K (gq x.H) (x.t,x.y) a9 b/\ye x (iY t e all a).1 (iY t e all a).2) (ra (aI t) J false a1 st) (iY t e all a).2:=by
 unfold ra;rw[Y2 Zq];have i:=Of a4;unfold aQ lift;cases P:rL (aI t) st with
 |error f=>
  rw[P]at i;rcases i with i|i
  .exact Y8 (i.bD (Ot e all a))
  .exact Y8 (UU e all i)
 |ok I=>
  rw[P]at i;obtain⟨b3,R,rfl,B,H,A⟩:=i;obtain⟨h,cH⟩:=I;simp only at R B H A ⊢;unfold vo;unfold iY;simp only;generalize cS t a=d at *
  unfold aQ lift;rcases lP R (kd:=4) (l:=[42]) Zr with⟨L,m,n⟩|⟨b0,m,n,D⟩|⟨b0,m,n,D⟩
  .rw[m,Y2 (c:=aM d.2 4 [42]=true) (by rw[n.is Zm];simp)];have G:=n.h4 (t:=t) e all;rw[Y2 (c:=aM (cG t e all d.2).2 4 [91]=true) (by rw[ze G.d6];simp),Y2 (c:=aM (cG t e all d.2).2 4 [60]=true) (by rw[ze G.d6];simp)];exact Y8 G
  .rw[m,Y9 n];simp only;unfold tV;simp only[if_true]
   refine wD (gx (M _ _ _ D) (hH _ _) ?_);rintro a8 b1 CG a2 C ⟨p,v,w⟩;have y:=((gf (t:=t) d.2).u (jQ (t:=t) e all _)).ak;have j:=H.ak y;generalize cG t e all (bq t d.2)=r at *
   have O:=j.lt C.ho;refine Sx.ret (C.row ⟨by simp[cY]<;>omega,by simp[cY],by simp[cY]<;>omega,by simp[cY]⟩ (by simp[cY])) ⟨p,v,w,?_,rfl,⟨Zq,_,rC _ _,j.b7 _⟩,Zq⟩;grind [vB]
  .rw[m,Y2 (c:=aM d.2 4 [42]=true) Zu];simp only;unfold tV;simp only[Ye,if_false]
   generalize a6:cG t e all d.2=r;have a7:bp r.2 (if aM r.2 4 [91]=true then ((⟨(dC t true r.2).2.h.length,d.1.2++[32],[91]++dh (dC t true r.2).1++[93],r.1⟩:mM),dk (cY 9 (dC t true r.2).1 d.1.1) (dC t true r.2).2)
     else if aM r.2 4 [60]=true then ((⟨(dC t false r.2).2.h.length,d.1.2++[32],[60]++dh (dC t false r.2).1++[62],r.1⟩:mM),dk (cY 10 (dC t false r.2).1 d.1.1) (dC t false r.2).2)
     else ((⟨d.1.1,d.1.2++[32],[],r.1⟩:mM),r.2)).2:=by
    split
    .exact(px _ _).u (hH _ _)
    .split
     .exact(px _ _).u (hH _ _)
     .exact fF _
   have N:=M _ _ _ D;have y:=(jQ (t:=t) e all d.2).ak;have j:=H.ak y;rw[a6]at N y j;refine DF N a7 ?_;rintro a8 b1 CG a2 C ⟨p,v,w⟩;unfold tW aQ lift;rcases Cz C (kd:=4) (l:=[91]) Zr with⟨L,E,k⟩|⟨b4,E,k⟩
   .rw[E,Y2 (c:=aM r.2 4 [91]=true) (by rw[k.is Zm];simp),Y2 (c:=aM r.2 4 [60]=true) (by rw[k.is Zm];simp)];exact Ya k
   .rw[E];simp only;unfold vp;by_cases q:aM r.2 4 [91]=true
    .rw[Y9 q,Y9 q];unfold pc;refine wD (gx (iR (Oc k q)) (hH _ _) ?_);rintro I b2 Om a3 u ⟨⟨rfl,rfl⟩,rfl⟩;have s:=j.ak (rG (t:=t) true r.2).ak;have O:=s.lt u.ho;exact Sx.ret (u.row ⟨by simp[cY]<;>omega,by simp[cY],by simp[cY]<;>omega,by simp[cY]⟩ (by simp[cY])) ⟨p,v,w,by simp only[vB];rw[A],rfl,⟨Zq,_,rC _ _,s.b7 _⟩,Zq⟩
    .rw[Y2 q,Y2 q];have a5:aM r.2 4 [91]=false:=Zu;unfold aQ lift;rcases Cz k (kd:=4) (l:=[60]) Zr with⟨L,F,o⟩|⟨b5,F,o⟩
     .rw[F,Y2 (c:=aM r.2 4 [60]=true) (by rw[o.is Zm];simp)];exact Ya o
     .rw[F];simp only;unfold vt;by_cases z:aM r.2 4 [60]=true
      .rw[Y9 z,Y9 z];unfold pc;refine wD (gx (iR (Ob o a5)) (hH _ _) ?_);rintro I b2 Om a3 u ⟨⟨rfl,rfl⟩,rfl⟩;have s:=j.ak (rG (t:=t) false r.2).ak;have O:=s.lt u.ho;exact Sx.ret (u.row ⟨by simp[cY]<;>omega,by simp[cY],by simp[cY]<;>omega,by simp[cY]⟩ (by simp[cY])) ⟨p,v,w,by simp only[vB];rw[A],rfl,⟨Zq,_,rC _ _,s.b7 _⟩,Zq⟩
      .rw[Y2 z,Y2 z];exact⟨_,o,p,v,w,by rw[B.d7.1,A],B.d7.2.symm,j,B.aa j⟩
def GF{n p e all}{G:Am τ}(s:∀o,wq t n p e all (g.ce o) (G o))(r:Q t g st a):Sy t (λi v b=>G (gq i.H) (i.t,i.y) v b/\ye i (dx t e all a).1 (dx t e all a).2) (ig (aI t) n p st) (dx t e all a).2:=by
 unfold ig dx aQ lift;rcases lP r (kd:=2) (l:=Jy) Zr with⟨q,f,c⟩|⟨w,f,c,j⟩|⟨w,f,c,j⟩
 .rw[f,Y2 (by rw[c.is Zm,c.is Zm];simp)];exact Y8 (c.i5 e all)
 .rw[f,Y9 (Y8 c)];have m:a.s.x.text=Jy:=by grind [aM,kG]
  have u:aM a 2 Ju=false:=by unfold aM kG;simp_all
  simp only;rw[c];exact wD (aeb (by grind [pD]) j m u)
 .rw[f];simp only;unfold qZ;simp only[Ye,if_false]
  unfold aQ lift;rcases lP j (kd:=2) (l:=Ju) Zr with⟨q,h,d⟩|⟨y,h,d,k⟩|⟨y,h,d,k⟩
  .rw[h,Y2 (by rw[d.is Zm,d.is Zm];simp)];exact Y8 (d.i5 e all)
  .rw[h,Y9 (Ya d)];have m:a.s.x.text=Ju:=by grind [aM,kG]
   simp only;rw[c];exact wD (aec (by grind [pD]) k m d)
  .rw[h,Y2 Zu];exact ad9 s k
def JY(d:Zc)(e f:Nat):wq t (cK e f) d d false g (λi h b=>b=g/\h=d++[i.1]):=λst a j=>(CD j d e f).aZ λi h b c=>⟨⟨c.1,c.2.2.2⟩,c.2.1,c.2.2.1⟩
end
section
variable {a i g:Nat}{d:aD}{j:PM aD}{nl:Nl}{r:ia}{q:Type}
variable {t : Zb} {st p : St} {f u w x y : ah} {E h : cq} {m : Mar.ac}
theorem LU(nl:Nl)(a b:Zb)(d:aD)(c:(aP nl a).isSome):aP (eu nl a d) b=if b=a then some (some d)else aP nl b:=by
 unfold aP eu at *
 induction nl with
 |nil=>grind
 |cons g nl i=>
  by_cases j:g.1=a
  .have e:(g.1==a)=true:=Zu;by_cases h:b=a
   .simp_all
   .rw[Y2 h];have f:(g.1==b)=false:=Zg;simp only[List.map_cons,List.find?,e,if_true,f]
    clear i c;induction nl<;>grind
  grind
def LF{a:Zb}(d:aD)(e:aP nl a=some none):Kp nl (eu nl a d):=λb c f=>by
 rw[LU nl a b d Zu];grind
theorem lI.aq{j l}(c:lI j nl l){a:Zb}(n:aP nl a=some none)(s:nl[i]?=some (a,none))(w:uJ j (eu nl a d) (a,some d) r):lI j (eu nl a d) (l.set i r):=by
 have o:=LF d n;have t:i<nl.length:=by
  grind
 refine⟨by simp[eu,c.am],?_,by rw[NQ];exact c.nd⟩;intro e g p b f;unfold eu at b;rw[List.getElem?_map]at b;rw[YP]at f;by_cases m:i=e
 .simp_all
 .rw[Y2 m]at f;cases k:nl[e]? with
  |none=>simp_all
  |some h=>
   rw[k]at b;have v:h.1≠a:=by
    intro q;have u:e<nl.length:=by
     grind
    have x:=List.pairwise_iff_getElem.1 c.nd;grind
   have:(h.1==a)=false:=Zu;simp only[Option.map_some,this,Ye,if_false,Yu]at b
   subst b;simpa using (c.f9 e h p k f).b7 [] o
abbrev cq.aq(E:cq)(a:Zb)(d:aD):cq:={ E with nl:=eu E.nl a d }
def EN(d:Q t E st f){a:Zb}(c:aP E.nl a=some none):∃(i:Nat) (r:ia),bW f a=(i:Int)/\E.nl[i]?=some (a,none)/\f.F[i]?=some r/\r.s=a:=by
 rcases d.hk a with⟨b,-⟩|⟨i,k,r,b,e,g,h,j⟩
 .simp_all
 .rw[b]at c;cases c
  exact⟨i,r,e,g,h,j.1⟩
def Q.h3(b:Q t E st f){s:Zb}(a:Nat)(v:Int)(e:aP E.nl s=some none)(d:E.pd=[])(l:E.dc=1):Q t { E.aq s (.const s a v)with dc:=0 } { st with F:=eu st.F s (.const s a v) } (eK s v f):=by
 obtain⟨i,r,h,c,j,k⟩:=EN b e;have m:st.F=E.nl:=by rw[b.nl,d];simp
 have g:eK s v f = { jc f i 0 v with ax:=f.ax+1 }:=by
  unfold eK;rw[Y9 Zm,h];rfl
 rw[g];refine⟨b.e,b.wd,?_,Y8 d,?_,b.H,?_,b.pg,b.cU,b.dM,b.ou,b.pr,b.eq,b.e2.aq c ..⟩
 .simp_all
 .refine b.nm.aq e c ⟨?_,rfl,rfl⟩;simp_all
 .have:=b.cn;simp_all
def At(c:Zb)(a:Nat)(b:List ia):Prop:=∃r∈b,r.s=c/\r.y=a
theorem PY{f b}(h:At f a b)(i:Nat)(g n:Int):At f a (b.set i { b.getD i iM with a1:=g,n:=n }):=by
 obtain⟨r,j,c,d⟩:=h;obtain⟨e,l,rfl⟩:=List.mem_iff_getElem.1 j;by_cases k:i=e
 .subst k;refine⟨{ b[i]with a1:=g,n:=n },?_,c,d⟩;grind [List.mem_iff_getElem]
 .refine⟨b[e],?_,c,d⟩;grind [List.mem_iff_getElem]
def At.m8{d}(e:At d a f.F)(c:Q t E st f)(b:f.F[i]?=some r)(m:r.s=d):r.y=a:=by
 obtain⟨p,g,j,k⟩:=e;obtain⟨n,l,rfl⟩:=List.mem_iff_getElem.1 g;have h:i<f.F.length:=by
  grind
 rw[Yd h]at b;cases b
 have o:(f.F.map (·.s)).Nodup:=by rw[c.nm.i9];exact c.nm.nd
 grind [List.pairwise_iff_getElem]
def Q.jX(a:Q t E st f){b:Zb}{n}(g:aP E.nl b=some none)(e:E.pd=[])(h:At b (cd d).2 f.F)(p:eh d=true)(s:kb f.h (eu E.nl b d) d n):Q t (E.aq b d) { st with F:=eu st.F b d } (eI b n f):=by
 obtain⟨i,r,o,c,k,l⟩:=EN a g;have q:st.F=E.nl:=by rw[a.nl,e];simp
 have h:=h.m8 a k l;have j:eI b n f=jc f i 1 n:=by
  simp_all[eI]
 rw[j];refine⟨a.e,a.wd,?_,Y8 e,?_,a.H,a.cn,a.pg,a.cU,a.dM,a.ou,a.pr,a.eq,a.e2.aq c ..⟩
 .simp_all
 .refine a.nm.aq g c ⟨Zu,?_⟩;have m:{ f.F.getD i iM with a1:=1,n:=n } = { r with a1:=1,n:=n }:=Zg;rw[m];cases d<;>simp_all[eh]
theorem Q.aW(a:Q t E st f)(o:Zb):Q t { E with o:=E.o++o } st (gd o f):=⟨a.e,a.wd,a.nl,a.pd,a.nm,a.H,a.cn,a.pg,a.cU,a.dM,by show f.i++o=_;rw[a.ou],a.pr,a.eq,a.e2⟩
def Bd.d4(a:Bd m f)(d j:Int):Er m (aS d j f):=by
 have c:=a.gR;unfold aS;rw[Y9 ⟨a.e,a.k⟩];unfold nj;rw[Y2 (λb=>c.d6 b.1)];omega
def Q.d4{e:Mar.aT}(c:Q t E st f)(i:fw t st.y st.nx=.ok (e,g))(b j:Int):aS b j f=if j<=b then ch 5 e.y f else f:=by
 have a:=c.wd;rw[i]at a;have:=a.2.df;unfold aS;rw[Y2 (λh=>by have:=h.2;rw[a.1.1]at this;omega)];unfold nj;by_cases d:j<=b
 .rw[Y9 d,Y9 ⟨c.e,d⟩,a.1.2.2.2.1]
 grind
theorem vZ{a:Zb}(b:aP nl a=none):eu (nl++[(a,none)]) a d=nl++[(a,some d)]:=by
 unfold eu;rw[List.map_append];congr 1
 .have c:=Bx b;conv=>rhs;rw[<-List.map_id nl]
  grind [List.map_congr_left]
 simp
def lj(j:PM aD):PM aD:=aN j λd=>aN (CB d) λ_=>ret d
def ua(a:j st=.ok (d,p)):lj j st=.ok (d,{ p with F:=eu p.F (cd d).1 d }):=by
 unfold lj aN;rw[a];rfl
theorem lk(a:j st=.error m):lj j st=.error m:=by
 simp_all[lj,aN]
def aaT(c:¬40<=st.ax)(a:Nat)(b:Unit->PM q):aN (lm a) b st=b () { st with ax:=st.ax+1 }:=by
 simp_all[aN,lm,Y2]
def BP(c:¬24<=st.an)(a:Nat)(b:Unit->PM q):aN (kj a) b st=b () { st with an:=st.an+1 }:=by
 simp_all[aN,kj,Y2]
def BO(c:24<=st.an)(a:Nat)(b:Unit->PM q):aN (kj a) b st=.error ⟨5,a⟩:=by
 simp_all[aN,kj]
structure uI(E h:cq)(d:aD)(o:Zb)(ps:List cj):Prop where
 pd:h.pd=[]
 dc:h.dc=0
 fz:h.fz=E.fz
 o:h.o=E.o++o
 ps:h.ps=E.ps++ps
 rf:h.rf=E.rf++(jo d).map λg=>(g.1,(g.2:Int))
 nl:∃cs:Nl,h.nl=E.nl++((cd d).1,some d)::cs/\∀c∈cs,∃a b v,c.2=some (.const a b v)
def Es(a:Zb)(v:Int):Zb:=[99,111,110,115,116,32]++a++JD++dh v++[59,10]
def ad6{j:Mar.aT}(k:Q t E st f)(r:E.pd=[])(D:E.dc=0)(u:fw t st.y st.nx=.ok (j,g))(F:aM f 2 Je=true):S t (λd h=>∃c a v,d=.const c a v/\uI E h d (Es c v) []) (lj (lg (aI t) j.y) { st with y:=g,nx:=none }) (iz t f):=by
 have b:=k.O u;have o:=k.d4 u f.ax 40;have B:=k.cn;rw[D]at B;by_cases z:40<=st.ax
 .rw[Y9 Zm]at o;have i:lg (aI t) j.y { st with y:=g,nx:=none } = .error ⟨5,j.y⟩:=by
   simp_all[lg,aN,lm]
  rw[lk i];have:=ae7 (t:=t) f;rw[o]at this;exact(k.d0 (e:=5) (a:=j.y) Zm).bD this
 .rw[Y2 Zm]at o;have H:Q t { E with dc:=1 } { st with y:=g,nx:=none,ax:=st.ax+1 } (aj t 2 Je (aS f.ax 40 f)):=by
   rw[o,rR F];exact⟨b.e,b.wd,b.nl,b.pd,b.nm,b.H,by have:=b.cn;simp_all,b.pg,b.cU,b.dM,b.ou,b.pr,b.eq,b.e2⟩
  unfold iz;simp only;generalize aj t 2 Je (aS f.ax 40 f)=q at *
  have i:S t (λd h=>∃c a v,d=.const c a v/\h = { E with dc:=1,nl:=E.nl++[(c,none)] }/\aP E.nl c=none/\(bf t 2 q).1.text=c/\(bT t (-2147483648) 4294967295 (aj t 4 [61] (bf t 2 q).2)).1.1=v) (lg (aI t) j.y { st with y:=g,nx:=none }) (aj t 4 [59] (bT t (-2147483648) 4294967295 (aj t 4 [61] (bf t 2 q).2)).2):=by
   unfold lg;rw[aaT (st:={ st with y:=g,nx:=none }) z];refine hj (xJ H r) ((bu _ _ _).u ((jR _ _ _).u (bu _ _ _))) ?_;rintro w a3 x p ⟨rfl,M,-,N,-⟩;refine hj (go p (kd:=4) (l:=[61]) Zr) ((jR _ _ _).u (bu _ _ _)) ?_;rintro L a4 R I ⟨rfl,-⟩;refine hj (zK I (-2147483648) 4294967295) (bu _ _ _) ?_;rintro v a5 a0 J ⟨rfl,O,-⟩;refine hj (go J (kd:=4) (l:=[59]) Zr) (fF _) ?_;rintro L a6 a1 K ⟨rfl,-⟩;exact S.ret K ⟨w.1,w.2,v.1,rfl,rfl,N,M,by rw[O]⟩
  generalize aj t 4 [59] (bT t (-2147483648) 4294967295 (aj t 4 [61] (bf t 2 q).2)).2=P at *
  cases n:lg (aI t) j.y { st with y:=g,nx:=none }with
  |error m=>
   rw[n]at i;have i:Er m P:=i;rw[lk n,Y9 i.d6];exact i
  |ok a2=>
   rw[n]at i;obtain⟨x,p,c,a,v,C,rfl,s,y,A⟩:=i;rw[ua n,Y2 (by simpa using p.e),y,A];rw[C];have G:=(p.h3 a v (by rw[uf _ _ _ s,Y9 rfl]) r rfl).aW (Es c v);exact⟨_,G,c,a,v,rfl,⟨r,rfl,rfl,rfl,Zq,by simp[jo],[],by show eu (E.nl++[(c,none)]) c _=_;rw[vZ s];rfl,Zq⟩⟩
def SK(y:E.pd=[]):wq t (iK uo) () [] true E (λu _ h=>h = { E with pd:=[(u.1,none)] }/\aP E.nl u.1=none):=λst f k=>by
 unfold name aQ lift;rcases pk t st with⟨c,g,e⟩|⟨m,e⟩
 .rw[rt e];simp only;by_cases s:c.w=1
  .obtain⟨v,w,d⟩:=HC k e s;rw[Y9 Zu];have b:=k.O e;have x:aP E.nl c.text=none/\bW (bq t f) c.text<0\/(∃n,aP E.nl c.text=some n)/\0<=bW (bq t f) c.text:=by
    rcases b.hk c.text with j|⟨i,n,r,j,o,-⟩;all_goals simp_all
   have B:st.F=E.nl:=by rw[k.nl,y];simp
   have z:(iK uo).a9 c () { st with y:=g,nx:=none } = match aP E.nl c.text with
     |none=>.ok ((),(),{ st with y:=g,nx:=none,F:=E.nl++[(c.text,none)] })
     |some _=>.error ⟨6,c.y⟩:=by
    show lift (iX c) () { st with y:=g,nx:=none } = _;unfold lift iX;grind
   rw[z];unfold cG;simp only[if_true]
   rw[d,v,w];rcases x with⟨j,o⟩|⟨⟨n,j⟩,o⟩
   .rw[j];have q:decide (0<=bW (bq t f) c.text)=false:=Zu;rw[Y2 (λl=>by simp_all)];refine⟨{ E with pd:=[(c.text,none)] },⟨by rw[d];exact b.e,by rw[d];exact b.wd,rfl,Ya ⟨_,rfl,j⟩,by rw[d];exact b.nm,by rw[d];exact b.H,by rw[d];exact b.cn,by rw[d];exact b.pg,by rw[d];exact b.cU,by rw[d];exact b.dM,by rw[d];exact b.ou,by rw[d];exact b.pr,by rw[d];exact b.eq,by rw[d];exact b.e2⟩,⟨rfl,j⟩,v,w⟩
   .rw[j];have q:decide (0<=bW (bq t f) c.text)=true:=Zu;rw[Y9 ⟨b.e,q⟩];exact b.d0 (e:=6) (a:=c.y) Zm
  .rw[Y2 Zg];have A:=HF k e s;have p:=k.gt e;have:(cG t [] true f).2=es f:=by
    unfold cG;simp only;rw[A,Y2 (λl=>p.d6 l.1)];omega
   rw[this];exact p
 .rw[sP e];exact(k.bd e).h4 [] true
end
end Go.Proofs.YtjdhaegijjednaaGreatDoor
