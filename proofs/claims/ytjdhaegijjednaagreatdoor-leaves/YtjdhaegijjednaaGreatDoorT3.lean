import Derived.Test.YtjdhaegijjednaaGreatDoorT2
import Derived.Defers
import Derived.Recover
set_option linter.all false
set_option maxRecDepth 100000
set_option maxHeartbeats 4000000
namespace Go.Proofs.YtjdhaegijjednaaGreatDoor
open Go.RowKit Go.MapKept Go.Proofs.Tryz
section
variable {t : Zb} {a σ' b : ai}
def yd(b:σ'.s=a.s):bp a σ':=λ_=>⟨by rw[b],by rw[b]⟩
def Hm(b:Nat)(c:List Int)(d:Zb)(a:ai):bp a (eh t b c d a).2.2.2:=λe=>by simp_all[vM]
theorem Ho(b:Nat)(e:List Int)(c:Zc)(d:Zb)(a:ai):bp a (eU t b e c d a).2.2:=λf=>by simp_all[Ae]
theorem Hp(of:Int)(b:Nat)(d f:List Int)(c:Zc)(e:Zb)(a:ai):bp a (fo t of b d f c e a).2:=λg=>by simp_all[wD]
theorem Hq(b:Nat)(c:Zc)(d:List Int)(all:List cj)(e:Zb)(a:ai):bp a (ga t b c d all e a).2:=λf=>by simp_all[HN]
def ON(b:Zc)(a:ai):bp a (jw t b a).2:=by
 unfold jw;split
 .exact(kJ _).u ((bu _ _ _).u (De _ _))
 .exact fI a
def afB(a:ai):bp (aT a.ax 40 a) (iG t a):=by
 unfold iG;simp only;generalize e:bc t 2 (aj t 2 Je (aT a.ax 40 a))=b;have c:bp (aT a.ax 40 a) b.2:=by rw[<-e];exact(bu _ _ _).u (uM _ _)
 generalize f:bU t (-2147483648) 4294967295 (aj t 4 [61] b.2)=v;have d:bp (aT a.ax 40 a) (aj t 4 [59] v.2):=by rw[<-f];exact c.u ((bu _ _ _).u ((jX _ _ _).u (bu _ _ _)))
 split
 .omega
 .exact d.u ((OR _ _ _).u (rY _ _))
def afJ(a:ai):bp a (jh t a):=by
 unfold jh;simp only;generalize d:dx t [] true (aj t 2 Ja a)=b;have c:bp a b.2:=by rw[<-d];exact(bu _ _ _).u (Df _ _ _)
 split
 .omega
 .exact c.u (bp.u (yd (σ':={ b.2 with G:=b.2.G++[⟨b.1.x.text,1,b.1.r,b.1.x.y⟩] }) rfl) ((bu _ _ _).u (rY _ _)))
def afC(a:ai):bp a (jS t a):=by
 unfold jS;simp only;generalize g:bc t 2 (aj t 2 Jo a)=b;have d:bp a b.2:=by rw[<-g];exact(bu _ _ _).u (uM _ _)
 generalize f:eh t 13 [] (Jm++b.1.text++Jd) (aj t 4 Jv b.2)=c;have e:bp a c.2.2.2:=by rw[<-f];exact d.u ((bu _ _ _).u (Hm _ _ _ _))
 split
 .omega
 .exact e.u ((bu _ _ _).u ((bu _ _ _).u ((hL _ _).u ((yf _ _ _).u (rY _ _)))))
def afI(a:ai):bp a (jG t a):=by
 unfold jG;exact(bu _ _ _).u ((uM _ _).u ((bu _ _ _).u ((Ho _ _ _ _ _).u ((bu _ _ _).u ((bu _ _ _).u ((hL _ _).u ((yf _ _ _).u (rY _ _))))))))
def afK(a:ai):bp a (ji t a):=by
 unfold ji;exact(bu _ _ _).u ((uM _ _).u ((bu _ _ _).u ((bu _ _ _).u ((OT _).u ((yg _).u ((bu _ _ _).u ((bu _ _ _).u ((Hp _ _ _ _ _ _ _).u ((ON _ _).u ((bu _ _ _).u ((bu _ _ _).u ((hL _ _).u ((yf _ _ _).u (rY _ _))))))))))))))
def afG(a:ai):bp (aT a.ah.length 4 a) (iV t a):=by
 unfold iV;simp only;generalize g:bc t 2 (aj t 2 Jc (aT a.ah.length 4 a))=b;have c:bp (aT a.ah.length 4 a) b.2:=by rw[<-g];exact(bu _ _ _).u (uM _ _)
 generalize f:ga t 6 [] [] [] (Jj++b.1.text++Jd) (aj t 4 Jv b.2)=v;have d:bp (aT a.ah.length 4 a) (aj t 4 Jl v.2):=by rw[<-f];exact c.u ((bu _ _ _).u ((Hq _ _ _ _ _ _).u (bu _ _ _)))
 have e:=d.u (rX (t:=t) (aj t 4 Jl v.2).ah _);exact e.u (yd rfl)
def py(a:ai):Nat:=a.ax.toNat+a.an.toNat+a.ah.length
def Uv(b:(cH t a).s.e=0)(l:a.s.e=0)(m:0<=a.ax/\0<=a.an)(o:a.s.x.w≠5):py a+1<=py (cH t a):=by
 unfold cH at *
 split at b
 .rename_i g;rw[Y9 g];obtain⟨d,f⟩:=Ts b;have:=f.t;have:=f.p;unfold py;omega
 .rename_i g;rw[Y2 g];split at b
  .rename_i h;rw[Y9 h];obtain⟨d,f⟩:=TA (t:=t) a;have:=d.c;have:=d.t;unfold py;omega
  .rename_i h;rw[Y2 h];split at b
   .grind [eu,oq,rq,kA]
   .rename_i k;rw[Y2 k];simp only at b ⊢;have n:=(dN a.an 24 a).h4;have v:∀j:ai,fw { aT a.an 24 a with an:=(aT a.an 24 a).an+1 } j->py a+1<=py j:=by
     intro j i;have q:=i.c;have r:=i.t;have u:=i.p;grind [py]
    grind [TD,Tu,TB,TE]
end
section
variable {t : Zb} {a b c : ai}
def lO:ai:=⟨⟨dE,0,0⟩,[],[],[],[],0,0,[]⟩
def xR:PV:=⟨.slice none 0 0,.slice none 0 0,.slice none 0 0,.slice none 0 0,[]⟩
def acR{X:Nat->Prop}(b:Zw)(c:∀a,X a->a<b.heap.size)(e:t.length<=2000):bw X b.heap.size t 0 lO xR (b.alloc (qD t lO.s (vE xR lO))):=by
 refine⟨be rfl,⟨rfl,Y8 ⟨rfl,rfl⟩⟩,⟨rfl,Y8 ⟨rfl,rfl⟩⟩,⟨rfl,Y8 ⟨rfl,rfl⟩⟩,⟨rfl,Y8 ⟨rfl,rfl⟩⟩,rfl,?_,?_,?_,?_,?_,YV _,by simp[lO,dE],e,by simp[lO,ai.sz],by simp[lO]⟩
 .grind [lO]
 .constructor<;>simp[xR,Value.ownBlock]
 .grind [PV.a8,xR]
 .grind [PV.b3,xR,Value.ownBlock,PV.a8]
 .intro a d;have:=c a d;simp;omega
end
section
variable {t : Zb} {a b c : ai}
def aa3(e:cr a)(c:bt):cr (dm c a):=by
 intro b g f;obtain⟨d,h⟩:=e b g f;refine⟨d,?_⟩;show b.n<((a.h++[c]).length:Int);grind
theorem FZ(b:cr a)(c:Zb):cr (gi c a):=b
theorem ML(f:cr a)(h:Nat)(e c:Int)(g:e=1->0<=c/\c<a.h.length):cr (jg a h e c):=by
 intro i b d;unfold jg at b;simp only at b;rcases List.mem_or_eq_of_mem_set b with b|rfl
 .exact f i b d
 .exact g d
theorem MK(b:cr a)(d:Zb)(c:Int):cr (eR d c a):=by
 unfold eR;simp only;split
 .exact ML b _ 0 c Zq
 .exact b
def aa6(d:cr a)(c:Zb)(b:Int)(e:0<=b/\b<a.h.length):cr (eM c b a):=by
 grind [eM,ML]
def aaY(c:cr a):cr (iG t a):=by
 unfold iG;simp only;generalize e:bc t 2 (aj t 2 Je (aT a.ax 40 a))=b;have d:cr b.2:=by rw[<-e];exact wi (gS c ((dN ..).u (aF ..)).al) 2 Ze
 generalize f:bU t (-2147483648) 4294967295 (aj t 4 [61] b.2)=v;have g:cr (aj t 4 [59] v.2):=by rw[<-f];exact gS d ((aF ..).u ((iJ ..).u (aF ..))).al
 grind [FZ,MK]
def FY(e:cr a)(d:Zb)(b:bt)(c:Zb):cr (gi c (eM d a.h.length (dm b a))):=by
 refine FZ (aa6 (aa3 e b) d _ ⟨Zm,?_⟩) c;show ((a.h.length:Nat):Int)<((a.h++[b]).length:Int);grind
def aa5:∀(c:Nat) (e:List Int) (d:Zc) (f:Zb) (a:ai),cr a->cr (eU t c e d f a).2.2:=by
 intro c;induction c with
 |zero=>intro e d f a b;exact b
 |succ c h=>
  intro e d f a b;unfold eU;split
  .exact b
  .simp only;have g:cr (aj t 4 [59] (dx t d false (aT e.length 12 a)).2):=gS b ((dN ..).al.u ((pB ..).u (aF ..).al));grind
theorem aa4(b:cr a):cr (jG t a):=by
 unfold jG;simp only;generalize d:bc t 2 (aj t 2 Jf a)=e;have c:cr e.2:=by rw[<-d];exact wi (gS b (aF _ _ _).al) 2 Ze
 exact FY (gS (aa5 _ _ _ _ _ (gS c (aF _ _ _).al)) ((aF _ _ _).u (aF _ _ _)).al) _ _ _
def aa1:∀(d:Nat) (b:List Int) (g:Zb) (a:ai),cr a->cr (eh t d b g a).2.2.2:=by
 intro d;induction d with
 |zero=>intro b g a c;exact c
 |succ d o=>
  intro b g a c;unfold eh;split
  .exact c
  .simp only;generalize m:bc t 2 (aT (aT b.length 12 a).ax 40 (aT b.length 12 a))=f;have h:cr f.2:=by rw[<-m];exact wi (gS c ((dN ..).u (dN ..)).al) 2 Ze
   generalize n:bU t (-2147483648) 2147483647 (aj t 4 [61] f.2)=v;have i:cr v.2:=by rw[<-n];exact gS h ((aF ..).u (iJ ..)).al
   generalize l:(if v.2.s.e=0/\b.contains v.1.1=true then ch 6 v.1.2 v.2 else v.2)=p
   have j:cr p:=by rw[<-l];exact gS i (oa ..).al
   split
   .omega
   .have k:=MK j f.1.text v.1.1;split
    .exact o _ _ _ (gS k (gm _).al)
    omega
theorem aa0(d:cr a):cr (jS t a):=by
 unfold jS;simp only;generalize h:bc t 2 (aj t 2 Jo a)=b;have e:cr b.2:=by rw[<-h];exact wi (gS d (aF _ _ _).al) 2 Ze
 generalize g:eh t 13 [] (Jm++b.1.text++Jd) (aj t 4 Jv b.2)=c;have f:cr c.2.2.2:=by rw[<-g];exact aa1 _ _ _ _ (gS e (aF _ _ _).al)
 split
 .omega
 .exact FY (gS f ((aF _ _ _).u (aF _ _ _)).al) _ _ _
theorem aa9(of:Int):∀(d:Nat) (b g:List Int) (e:Zc) (f:Zb) (a:ai),cr a->cr (fo t of d b g e f a).2:=by
 intro d;induction d with
 |zero=>intro b g e f a c;exact c
 |succ d i=>
  intro b g e f a c;unfold fo;split
  .exact c
  .simp only;have h:cr (dB t e (di t of (14-b.length) b [] a).2).2:=gS c ((sL (t:=t) of _ b [] a).1.al.u (rC ..));grind
def zh(b:Zc)(a:ai):dq a (jw t b a).2:=by
 unfold jw;split
 .exact((gm _).u (aF ..)).al.u (rC ..)
 .exact tL a
theorem aa8(e:cr a):cr (ji t a):=by
 unfold ji;simp only;generalize j:bc t 2 (aj t 2 Jh a)=d;have f:cr d.2:=by rw[<-j];exact wi (gS e (aF _ _ _).al) 2 Ze
 generalize i:cz t (aj t 4 [40] (aj t 2 Jn d.2))=b;have g:cr b.2:=by rw[<-i];exact gS f (((aF _ _ _).u (aF _ _ _)).u (uL _)).al
 have l:cr (aj t 4 Jv (aj t 4 [41] (dQ t b.2).2)):=gS g ((oL _).u ((aF _ _ _).u (aF _ _ _))).al;generalize dQ t b.2=c at *
 generalize m:fo t b.1.1 14 [] [] [c.1.text] (Jr++d.1.text++Ji++b.1.2++[32]++c.1.text++Jx) (aj t 4 Jv (aj t 4 [41] c.2))=k;have h:cr k.2:=by grind [aa9]
 exact FY (gS h ((zh _ _).u ((aF _ _ _).u (aF _ _ _)).al)) _ _ _
def aa2(d:cr a):cr (iV t a):=by
 unfold iV;simp only;generalize i:bc t 2 (aj t 2 Jc (aT a.ah.length 4 a))=c;have b:cr c.2:=by rw[<-i];exact wi (gS d ((dN ..).u (aF ..)).al) 2 Ze
 generalize h:ga t 6 [] [] [] (Jj++c.1.text++Jd) (aj t 4 Jv c.2)=v;have e:cr v.2:=by rw[<-h];exact gS b ((aF ..).al.u (zj ..))
 have f:cr (cJ t (aj t 4 Jl v.2).ah (aj t 4 Jl v.2)).2:=gS e ((aF (t:=t) 4 Jl v.2).al.u (rD (t:=t) (aj t 4 Jl v.2).ah _));exact λj g b=>f j g b
end
section
variable {t : Zb} {σ a b : ai}
def vp(σ:ai)(a:Int):Prop:=0<=a/\a<σ.h.length
theorem dq.am(b:dq σ a):σ.h.length<=a.h.length:=by
 grind [h]
def vp.al{c}(b:vp σ c)(d:dq σ a):vp a c:=⟨b.1,by have:=d.am;have:=b.2;omega⟩
theorem zS(a:bt):vp (dm a σ) σ.h.length:=⟨Zm,by show ((σ.h.length:Nat):Int)<((σ.h++[a]).length:Int);grind⟩
def Xy(f:5<=σ.h.length):vp (cW t σ).2 (cW t σ).1.1:=by
 have b:∀(a:ai) (c:Int),dq σ a->0<=c->c<=4->vp a c:=λa c e d g=>⟨d,by have:=e.am;omega⟩;unfold cW;split
 .grind [tL]
 .split
  .exact zS _
  .split
   .exact b _ _ (gm σ).al Zq Zq
   .split
    .exact b _ _ (gm σ).al Zq Zq
    .split
     .exact b _ _ (gm σ).al Zq Zq
     .split
      .unfold mw;split
       .exact b _ _ ((gm σ).u (gm _)).al Zq Zq
       .split
        .exact b _ _ ((gm σ).u (gm _)).al Zq Zq
        .exact b _ _ (gm σ).al Zq Zq
      .exact b _ _ (zY σ).al Zq Zq
def Up(b:5<=σ.h.length)(a:Zc)(all:Bool):vp (dx t a all σ).2 (dx t a all σ).1.r:=by
 unfold dx;split
 .grind [kF,zS]
 .unfold jd;simp only;have c:=Xy (t:=t) b;split
  .exact zS _
  .split
   .exact zS _
   .split
    .exact zS _
    .exact c.al (jW ..).al
theorem aa7(c:cr σ)(e:5<=σ.h.length):cr (jh t σ):=by
 unfold jh;simp only;have f:=Up (t:=t) (σ:=aj t 2 Ja σ) e [] true;have d:cr (dx t [] true (aj t 2 Ja σ)).2:=gS c ((aF ..).al.u (pB ..));generalize dx t [] true (aj t 2 Ja σ)=a at *
 split
 .omega
 .refine FZ (gS (σ:={ a.2 with G:=a.2.G++[⟨a.1.x.text,1,a.1.r,a.1.x.y⟩] }) ?_ (aF ..).al) _;intro h b g;simp only[Yn,Yc]at b;rcases b with b|rfl
  .exact d h b g
  .exact f
def aaZ(a:cr σ)(c:5<=σ.h.length):cr (cH t σ):=by
 have b:cr { aT σ.an 24 σ with an:=(aT σ.an 24 σ).an+1 }:=MM (gS a (dN σ.an 24 σ).al) _;have d:5<=({ aT σ.an 24 σ with an:=(aT σ.an 24 σ).an+1 }:ai).h.length:=by
  show 5<=(aT σ.an 24 σ).h.length;rw[(dN σ.an 24 σ).h];omega
 unfold cH;split
 .exact aaY a
 .split
  .exact aa2 a
  .split
   .exact gS a (zY σ).al
   grind [aa7,aa0,aa4,aa8]
end
section
variable {t : Zb} {a σ' b : ai}
structure Rn(a:ai):Prop where
 gy:5<=a.h.length
 b9:∀r∈a.h,r.aI.length<=1000/\r.aB.length<=1000
def Rn.al(c:Rn a)(e:dq a σ'):Rn σ':=by
 obtain⟨h,d,g⟩:=e.h;refine⟨by grind [gy],?_⟩;intro f b;rw[d]at b;rcases Yn.1 b with b|b
 .exact c.b9 f b
 simp_all
def Rn.of(b:Rn a)(c:σ'.h=a.h):Rn σ':=⟨by rw[c];exact b.gy,by rw[c];exact b.b9⟩
def zQ(c:Rn a)(b:Int):Rn (bc t b a).2:=c.of (rS b a)
def GK(e:Rn a)(b:bt)(f:b.aI.length<=1000/\b.aB.length<=1000):Rn (dm b a):=by
 refine⟨by show 5<=(a.h++[b]).length;grind [Rn.gy],?_⟩;intro d c;rcases Yn.1 (show d∈a.h++[b]from c)with c|c
 .exact e.b9 d c
 simp_all
theorem adK(b:Rn a)(d:Zb)(c:Int):Rn (eR d c a):=by
 unfold eR jg;split<;>exact⟨b.gy,b.b9⟩
def GL(b:Rn a)(d:Zb)(c:Int):Rn (eM d c a):=by
 unfold eM jg;split
 .exact⟨b.gy,b.b9⟩
 omega
theorem CL(b:Rn a)(c:Zb):Rn (gi c a):=⟨b.gy,b.b9⟩
theorem adG(b:Rn a):Rn (iG t a):=by
 unfold iG;simp only;have c:Rn (bc t 2 (aj t 2 Je (aT a.ax 40 a))).2:=zQ (b.al ((dN ..).u (aF ..)).al) 2;generalize bc t 2 (aj t 2 Je (aT a.ax 40 a))=d at *
 have e:Rn (aj t 4 [59] (bU t (-2147483648) 4294967295 (aj t 4 [61] d.2)).2):=c.al ((aF ..).u ((iJ ..).u (aF ..))).al;grind [CL,adK]
def adO(c:Rn a):Rn (jh t a):=by
 unfold jh;simp only;have b:Rn (dx t [] true (aj t 2 Ja a)).2:=c.al ((aF ..).al.u (pB ..));generalize dx t [] true (aj t 2 Ja a)=d at *
 split
 .omega
 .exact⟨b.gy,b.b9⟩
theorem adL(d:Rn a):Rn (iV t a):=by
 unfold iV;simp only;have e:Rn (bc t 2 (aj t 2 Jc (aT a.ah.length 4 a))).2:=zQ (d.al ((dN ..).u (aF ..)).al) 2;generalize bc t 2 (aj t 2 Jc (aT a.ah.length 4 a))=c at *
 generalize g:ga t 6 [] [] [] (Jj++c.1.text++Jd) (aj t 4 Jv c.2)=v;have f:Rn v.2:=by rw[<-g];exact e.al ((aF ..).al.u (zj ..))
 have b:Rn (cJ t (aj t 4 Jl v.2).ah (aj t 4 Jl v.2)).2:=f.al ((aF (t:=t) 4 Jl v.2).al.u (rD (t:=t) (aj t 4 Jl v.2).ah _));exact⟨b.gy,b.b9⟩
def afR:∀(b:Nat) (c:List Int) (d:Zc) (e:Zb) (a:ai),(eU t b c d e a).1.length<=c.length+b:=by
 intro b;induction b with
 |zero=>intro c d e a;exact Y4 _
 |succ b f=>
  grind [eU,List.length_singleton]
def adN:∀(c:Nat) (e:List Int) (d:Zc) (f:Zb) (a:ai),Rn a->Rn (eU t c e d f a).2.2:=by
 intro c;induction c with
 |zero=>intro e d f a b;exact b
 |succ c h=>
  intro e d f a b;unfold eU;split
  .exact b
  .simp only;have g:Rn (aj t 4 [59] (dx t d false (aT e.length 12 a)).2):=b.al ((dN ..).al.u ((pB ..).u (aF ..).al));grind
def adM(c:Rn a):Rn (jG t a):=by
 unfold jG;simp only;have d:Rn (bc t 2 (aj t 2 Jf a)).2:=zQ (c.al (aF ..).al) 2;generalize bc t 2 (aj t 2 Jf a)=b at *
 have g:=afR (t:=t) 14 [] [] (Jp++b.1.text++Jd) (aj t 4 Jv b.2);have e:=adN (t:=t) 14 [] [] (Jp++b.1.text++Jd) (aj t 4 Jv b.2) (d.al (aF ..).al);generalize eU t 14 [] [] (Jp++b.1.text++Jd) (aj t 4 Jv b.2)=f at *
 refine CL (GL (GK (e.al ((aF ..).u (aF ..)).al) _ ⟨Zq,?_⟩) ..) _;grind
end
section
variable {d:Nat}{e:Zo}{a:Zw}{b:Type}
def PA(f:Bool){c}(s:pZ c){g:aV}(w:∀x∈jY f g.H,c.ok x)(t:gH e d (.typedef g))(r:∀{h:b} {k:Zw},c.J h k->∀n∈e,k.heap[n.1]?=some n.2){h}(l:c.J h a):Calls prog (bif f then 336 else 337) #[Zp d,c.v] a (nj c a (hj c (jY f g.H) h)):=by
 obtain⟨A,C,m⟩:=oQ g.H;have B:=(aC (r l _ t) (i:=2) rfl).trans (Yo some m.i);have j:=U (sA (ns:=jY f g.H) l);have q:=U w;obtain⟨y,p,z,o⟩:=Dn s f;have u:=p _ m.i;cases f
 all_goals
  dsimp only[cond]at u ⊢;go_in;go_wp21;refine tv j (o.i _ q.i) λk _ j=>?_;go_wp2;go_end0;exact j.i.fin
def PF(l:Bool){i}(x:pZ i){F}{n:Zb}{a2}{g:iy}(S:∀n∈g.flatMap λj=>jY l j.2.H,i.ok n)(N:gH e d (.union n F a2 g))(w:∀{q:b} {o:Zw},i.J q o->∀A∈e,o.heap[A.1]?=some A.2){q}(t:i.J q a):Calls prog (bif l then 347 else 348) #[Zp d,i.v] a (nj i a (hj i (g.flatMap λj=>jY l j.2.H) q)):=by
 obtain⟨b7,I,M,y,a1,O⟩:=N;obtain⟨ad,a6,rfl,b0,a0⟩:=a1.j4 (c:=vA) (n:=4) (λ_=>rfl) y;have b2:=aC (w t _ M) (i:=5) rfl;have h:=U (sA (ns:=g.flatMap λj=>jY l j.2.H) t);have s:=U (Yp a0 O);have D:=U S;obtain⟨a4,r,a5,B⟩:=Dn x l;have C:=U y;cases l
 all_goals
  dsimp only[cond]at r ⊢;go_in;go_wp2;go_loopw [11] (λp o=>∃f:Nat,p=Y f/\f<=g.length/\af (Tl i _ ((g.drop f).flatMap λj=>jY _ j.2.H) a o)) (λp _=>g.length-(intOf p).toNat)
  case atStart=>exact⟨0,rfl,Zm,h⟩
  case round=>
   obtain⟨f,rfl,a9,h⟩:=hrel;rcases Yj f g.length with m|P
   .rw[Yk m,YD]at h;have z:f<I.length:=by rw[C.i];exact m
    obtain⟨L,rfl,k⟩:=s.i.1 f m z;have k:=U (k _ (h.i.f0 w));obtain⟨E,a3,u⟩:=oQ g[f].2.H;obtain⟨G,H,K⟩:=(s.i.2 f m z).sl;have b3:wr.cell? ⟨L,f*4,none⟩=_:=(k.i 0 _ rfl).trans (Yo some K);have b4:=k.i 1 _ rfl;have b5:=k.i 2 _ rfl;have b6:=(k.i 3 _ rfl).trans (Yo some u.i);have b1:=r _ u.i;have a7:(0:Int)<=f:=Zm;have a8:(f:Int)<g.length:=Zm;have h:=U (h.i.A x (.cells #[.slice G g[f].1.length H,.string ⟨g[f].2.t.toArray⟩,Y g[f].2.y,.iface E a3] 363))
    go_wp21;refine tv h (B.i _ λn R=>D.i n (List.mem_flatMap.2 ⟨g[f],Yy m,R⟩)) λo _ h=>?_;go_wp2;exact⟨⟨f+1,Zj,Zm,h⟩,Zz⟩
   .rw[YR P]at h;go_wp2;go_end0;exact h.i.fin
end
def uH(a:gM):List (Zb×Nat):=gu a.cv++gu a.c1
def oS(v:go):List (Zb×Nat):=v.ao.flatMap uH
def acF{w:Type}{g}(o:pZ g){B A S}{n:Zb}{b:List go}{b2}(H:∀n∈b.flatMap oS,g.ok n)(a6:gH B A (.prog n S b b2))(r:∀{p:w} {i:Zw},g.J p i->∀L∈B,i.heap[L.1]?=some L.2){p m}(j:g.J p m):Calls prog 352 #[Zp A,g.v] m (nj g m (hj g (b.flatMap oS) p)):=by
 obtain⟨d4,a2,a5,s,b1,F⟩:=a6;obtain⟨ad,c1,rfl,c7,I⟩:=b1.j4 (c:=Ao) (n:=4) (λ_=>rfl) s;have d1:=aC (r j _ a5) (i:=2) rfl;have d:=U (sA (ns:=b.flatMap oS) j);have z:=U (Yp I F);have N:=U H;have M:=U s;obtain⟨b9,q,c0,x⟩:=Dn o false;dsimp only[cond]at q;clear j H I s F;go_in;go_wp2;go_loopw [13] (λh i=>∃a:Nat,h=Y a/\a<=b.length/\af (Tl g _ ((b.drop a).flatMap oS) m i)) (λh _=>b.length-(intOf h).toNat)
 case atStart=>exact⟨0,rfl,Zm,d⟩
 case round=>
  obtain⟨a,rfl,t,d⟩:=hrel;rcases Yj a b.length with k|a7
  .rw[Yk k,YD]at d;have G:a<a2.length:=by rw[M.i];exact k
   obtain⟨a3,rfl,f⟩:=z.i.1 a k G;have f:=U (f _ (d.i.f0 r));obtain⟨a0,a1,C,c8,K⟩:=(z.i.2 a k G).K (c:=pH) (n:=5) λ_=>rfl;have b3:wr.cell? ⟨a3,a*4,none⟩=_:=f.i 0 _ rfl;have b4:=f.i 1 _ rfl;have b5:=(f.i 2 _ rfl).trans (Yo some C);have b6:=f.i 3 _ rfl;have c2:(0:Int)<=a:=Zm;have c3:(a:Int)<b.length:=Zm;have O:=U K;have d:=U (d.i.A o (.cells #[.string ⟨b[a].t.toArray⟩,Y b[a].y,.slice a0 b[a].ao.length a1,Y b[a].num] 367));clear K C;go_wp2;go_loopw [20] (λh i=>∃e:Nat,h=Y e/\e<=b[a].ao.length/\af (Tl g _ ((b[a].ao.drop e).flatMap uH++(b.drop (a+1)).flatMap oS) m i)) (λh _=>b[a].ao.length-(intOf h).toNat)
   case atStart=>exact⟨0,rfl,Zm,d⟩
   case round=>
    clear d;obtain⟨e,rfl,c4,d⟩:=hrel;rcases Yj e b[a].ao.length with u|a8
    .rw[Yk u,YD,uH,YN,YN]at d;obtain⟨a4,rfl,f⟩:=O.i e u;have f:=U (f _ (d.i.f0 r));obtain⟨P,b7,D⟩:=oQ b[a].ao[e].cv;obtain⟨R,b8,E⟩:=oQ b[a].ao[e].c1;have b3:wr.cell? ⟨a4,e*5,none⟩=_:=f.i 0 _ rfl;have b4:=f.i 1 _ rfl;have b5:=(f.i 2 _ rfl).trans (Yo some D.i);have b6:=(f.i 3 _ rfl).trans (Yo some E.i);have d2:=f.i 4 _ rfl;have c9:=q _ D.i;have d0:=q _ E.i;have c5:(0:Int)<=e:=Zm;have c6:(e:Int)<b[a].ao.length:=Zm;have b0:=d.i.elim λ_ j=>o.bn j.1;have d:=U (d.i.A o (.cells #[.string ⟨b[a].ao[e].t.toArray⟩,Y b[a].ao[e].y,.iface P b7,.iface R b8,Y b[a].ao[e].num] 446))
     have y:af (∀n∈uH b[a].ao[e],g.ok n):=U λn l=>N.i n (List.mem_flatMap.2 ⟨b[a],Yy k,List.mem_flatMap.2 ⟨b[a].ao[e],Yy u,l⟩⟩);go_wp21;refine tv d (x.i _ λn l=>y.i n (Yf _ l)) λi t d=>?_;have d3:=aC ((t.ak _ Zq (λa9=>by have:=b0 _ a9;omega)).trans (be rfl)) (i:=3) rfl;go_wp21;refine tv d (x.i _ λn l=>y.i n (Ym _ l)) λi t d=>?_;go_wp2;exact⟨⟨e+1,Zj,Zm,d⟩,Zz⟩
    .rw[YR a8]at d;go_wp2;exact⟨⟨a+1,Zj,Zm,d⟩,Zz⟩
  .rw[YR a7]at d;go_wp2;go_end0;exact d.i.fin
section
variable {P:Program}{b d g o e t:Nat}{f:Array Zv}{a:aD}{c:Zw}
def Kj{g a h}(j:c.heap[b]?=some (.cells f a h))(l:P.cellsOf a=e)(i:e≠0)(k:byteOfCell P P.depth a (o % e)=some g):(byteOf ⟨b,o,none⟩).run P c=.ok (o / e*P.bytesOf a+g) c:=by
 have d:c.shape? b=some (a,f.size):=by simp[World.shape?,j]
 have m:(viewAt b).run P c=.ok none c:=by simp[viewAt,d]
 unfold byteOf;simp[noView,shape,Sem.run,m,d,l,i,k]
def aah{y:Nat}{r j v:Nat}{name:String}{N O h w}(m:c.heap[b]?=some (.cells f h w)){p}(E:P.info? t=some p){a:Method}(G:p.methods.find? (λa=>a.name==name)=some a)(I:a.path=#[⟨r,g,true⟩])(C:a.func=some (d,false))
  {k} (K:P.underlying r=some (.struct k)) {i} (D:k[g]?=some i) (J:i.type=j) (H:i.offset=o) (z:i.byteOffset=v) {x} (L:P.underlying j=some (.struct x)) {q} (F:P.info? j=some q) (M:q.size=0)
  (n:P.cellsOf h=e) (l:e≠0) (A:byteOfCell P P.depth h (0 % e)=some N) (B:byteOfCell P P.depth h (o % e)=some O) :
  (method (y+1) t (Zp b) name).run P c=.ok (d,.agg #[]) c:=by
 have s:=Kj (P:=P) (o:=0) m n l A;have u:=Kj (P:=P) (o:=o) m n l B;unfold method;simp only[Sem.run_bind,run_typeInfo _ E,Result.andThen_ok,G,I,C,follow,run_underlying K,D,Place.get,asAddr,fieldPlace,partAt,sizeOf,J,run_typeInfo _ F,Sem.run_pure,if_true,M,H,z,s,u,Nat.zero_add,receiverAt,run_underlying L,loadVar,isAgg]
 rfl
def VF{e}{f:Nat}(h:((P.underlying e).bind λa=>match a with|.struct c=>c[g]?|_=>none).map (λd=>(d.type,d.offset,d.byteOffset))=some (t,o,f)):∃c b,P.underlying e=some (.struct c)/\c[g]?=some b/\b.type=t/\b.offset=o/\b.byteOffset=f:=by
 cases i:P.underlying e<;>grind
def Si:∃a,prog.underlying 250=some (.struct a):=by
 simp
def ju:aD->List (Zb×Nat)
 |.const ..=>[]
 |.typedef a=>gu a.H
 |.enum ..=>[]
 |.struct _ _ c=>c.flatMap λa=>gu a.H
 |.union _ _ _ b=>b.flatMap λa=>gu a.2.H
 |.prog _ _ d _=>d.flatMap oS
def gp:aD->List (Zb×Nat)
 |.const ..=>[]
 |.typedef a=>ia a.H
 |.enum ..=>[]
 |.struct _ _ c=>c.flatMap λa=>ia a.H
 |.union _ _ _ b=>b.flatMap λa=>ia a.2.H
 |.prog ..=>[]
def ul(a:Bool):aD->Nat
 |.typedef ..=>bif a then 336 else 337
 |.struct ..=>bif a then 344 else 345
 |.union ..=>bif a then 347 else 348
 |.prog ..=>bif a then 351 else 352
 |_=>pO a .void
def ES(b:Bool)(a:aD)(args:Array Zv)(c:Zw):(callFunc (ul b a) args).run prog c=.ok (.enter (ul b a) args) c:=by cases b<;>cases a<;>kernel_rfl
def KN(b:Nat):aD->Zv
 |.const ..=>.agg #[]
 |.enum ..=>.agg #[]
 |_=>.pointer (some ⟨b,0,none⟩)
def JS{h e:Nat}{name:String}(r:c.heap[b]?=some (.cells f e))(v:Nat)
  (l:((prog.info? h).bind λj=>j.methods.find? (λg=>g.name==name)).map (λg=>(g.path,g.func))=some (#[⟨e,1,true⟩],some (d,false)):=by kernel_rfl)
  (m:((prog.underlying e).bind λa=>match a with|.struct i=>i[1]?|_=>none).map (λd=>(d.type,d.offset,d.byteOffset))=some (250,2,24):=by kernel_rfl)
  (o:prog.cellsOf e=3:=by kernel_rfl) (p:byteOfCell prog prog.depth e (0 % 3)=some 0:=by kernel_rfl) (q:byteOfCell prog prog.depth e (2 % 3)=some 24:=by kernel_rfl):(method (v+1) h (Zp b) name).run prog c=.ok (d,.agg #[]) c:=by
 obtain⟨j,g,w,x,y,z⟩:=GR l;obtain⟨i,F,A,B,C,D,E⟩:=VF m;obtain⟨G,k⟩:=Si;obtain⟨H,s,u⟩:=CX (P:=prog) (t:=250) (n:=0) Zk;exact aah r w x y z A B C D E k s u o Zm p q
def EV (d : Bool) {f}    (g : gH f b a) (h : ∀ i ∈ f, c.heap[i.1]? = some i.2) (e : Nat) : (method (e + 1) (fC a) (.pointer (some ⟨b, 0, none⟩)) (bif d then "Leads" else "Names")).run Tryz.prog c = .ok (ul d a, KN b a) c := by
 cases a with
 |const t j v=>cases d<;>exact JS (h _ g) e
 |enum t j l=>
  obtain⟨n,m,k,_⟩:=g;cases d<;>exact JS (h _ k) e
 |_=>cases d<;>kernel_rfl
def EU(g:Bool){n:Type}{h}(f:pZ h){o}(k:∀l∈bif g then gp a else ju a,h.ok l)(j:gH o b a)(i:∀{t:n} {q:Zw},h.J t q->∀p∈o,q.heap[p.1]?=some p.2){t}(d:h.J t c):Calls prog (ul g a) #[KN b a,h.v] c (nj h c (hj h (bif g then gp a else ju a) t)):=by
 cases a with
 |const t m v=>cases g<;>first|exact Aj f false .void (by intro l d;cases d) d|exact Aj f true .void (by intro l d;cases d) d
 |enum t m s=>cases g<;>first|exact Aj f false .void (by intro l d;cases d) d|exact Aj f true .void (by intro l d;cases d) d
 |typedef a=>cases g<;>first|exact PA false f k j i d|exact PA true f k j i d
 |struct t m s=>cases g<;>first|exact Pf false f k j i d|exact Pf true f k j i d
 |union t m e u=>cases g<;>first|exact PF false f k j i d|exact PF true f k j i d
 |prog t m w l=>
  cases g
  .exact acF f k j i d
  .have r:=U (sA (ns:=[]) d);dsimp only[ul,cond];go_in;go_wp2;go_end0;exact r.i.fin
end
def ei:aD->Bool
 |.typedef ..=>true
 |.enum ..=>true
 |.struct ..=>true
 |.union ..=>true
 |_=>false
def vT:Option aD->Bool
 |some a=>ei a
 |none=>false
def af8(b:aD)(e:Zv):∀a∈[225,227,229,231],∀c,(Instr.typeAssert (.iface (fC b) e) 157 a true).run prog c=.ok (.tuple #[bif fC b==a then e else .pointer none,.bool (fC b==a)]) c:=by
 intro a d c;simp only[Yg,List.not_mem_nil,or_false]at d;rcases d with rfl|rfl|rfl|rfl<;>cases b<;>kernel_rfl
def Xp{n v d}(b:og n v d)(l:Zw):Calls prog 126 #[v] l λo p=>o=.returned (.bool (vT d))/\p=l:=by
 cases d with
 |none=>
  have b:v=.nilIface:=b;subst b;have a:∀e∈[225,227,229,231],∀c,(Instr.typeAssert .nilIface 157 e true).run prog c=.ok (.tuple #[.pointer none,.bool false]) c:=by
   intro e g c;simp only[Yg,List.not_mem_nil,or_false]at g;rcases g with rfl|rfl|rfl|rfl<;>kernel_rfl
  have h:=a 225 Zq;have i:=a 227 Zq;have j:=a 229 Zq;have k:=a 231 Zq;clear a;go_in;go_wp2;go_ret;exact⟨rfl,rfl⟩
 |some f=>
  obtain⟨m,rfl,_⟩:=b;have a:=af8 f (Zp m);have h:=a 225 Zq;have i:=a 227 Zq;have j:=a 229 Zq;have k:=a 231 Zq;clear a;cases f
  all_goals
   dsimp only[fC]at h i j k ⊢;go_in;go_wp2;go_ret;exact⟨rfl,rfl⟩
def qu(c:St)(a:Zb×Nat):Except Mar.ac Unit:=match aP c.G a.1 with
 |some b=>if vT b then .ok ()else .error ⟨7,a.2⟩
 |none=>.error ⟨7,a.2⟩
def mj(a:Ad)(h:Za)(d:St)(e:Zo)(c:Nat):pY Unit where
 f:=125
 e5:=#[]
 f6:=#[Zp c]
 a9:=λg _=>qu d g
 J:=λ_ b=>Rd a h d b/\b.heap[c]?=some (.cells #[Zp a.R] 145)/\dF a.X e b
 M:=[]
 ok:=λ_=>True
def ZD{c q h n f b}(a:Zb×Nat)(B:(mj c q h n f).J () b):Calls prog 125 #[jB a,Zp f] b (nj (mj c q h n f) b (qu h a)):=by
 obtain⟨m,j,s⟩:=B;have k:=((Below.refl b.heap.size b).alloc (Y4 _) (.cells #[.string ⟨a.1.toArray⟩,Y a.2] 160)).drew;have p:=m.az k;obtain⟨E,F,G,H,I,K⟩:=m.K;have L:=m.lt.1;have C:=ay j;have D:=jQ j;have x:=be (w:=b) (o:=.cells #[.string ⟨a.1.toArray⟩,Y a.2] 160) rfl;obtain⟨P,S,_⟩:=sJ x;have key:∃v d i,(Instr.lookup 148 (.map (some c.N)) (.string ⟨a.1.toArray⟩) false).run prog ((b.alloc (.cells #[.string ⟨a.1.toArray⟩,Y a.2] 160)).drew)=.ok v ((b.alloc (.cells #[.string ⟨a.1.toArray⟩,Y a.2] 160)).drew)/\og i v d/\qu h a=if vT d then .ok ()else .error ⟨7,a.2⟩:=by
  rcases Ce p.nm a.1 false with⟨o,e⟩|⟨d,v,i,o,_,l,e⟩
  .simp only[Ye,if_false]at e
   exact⟨.nilIface,none,[],e,rfl,by simp only[qu,o,vT];rfl⟩
  .simp only[Ye,if_false]at e
   exact⟨v,d,i,e,l,by simp only[qu,o]⟩
 obtain⟨v,d,i,e,l,t⟩:=key;have y:=U l;have r:=U t;have z:af ((mj c q h n f).J () ((b.alloc (.cells #[.string ⟨a.1.toArray⟩,Y a.2] 160)).drew)):=⟨p,(k.block _ C).trans j,s.ae (ef [] k) Zq⟩;have M:¬c.R=b.heap.size:=Zm;have O:¬f=b.heap.size:=Zm;clear m j s k p l t x;dsimp only[jB];go_in;go_wp21;go_region_held2 (λg=>g.cell? (Zd f 0)=some (Zp c.R)/\g.cell? (Zd c.R 1)=some (.map (some c.N))/\g.cell? (Zd b.heap.size 0)=some (.string ⟨a.1.toArray⟩)) (go_keep)
  (first|(go_at_call 126;refine(Xp y.i _).mono ?_;rintro A g ⟨rfl,rfl⟩))
 all_goals
  cases u:vT d with
  |true=>
   go_wp2;go_end0;exact⟨((ar _ b).A _).ag,Y8 ⟨(),by rw[r.i,u];rfl,rfl,z.i⟩⟩
  |false=>
   go_wp2_with (go_at_call 70;refine(fp _ _ _).mono ?_;rintro A g ⟨rfl,rfl⟩);exact bM ⟨(((ar _ b).A _).ag).A _,Ya ⟨⟨7,a.2⟩,by rw[r.i,u];rfl,b.heap.size+1,Zm,rfl,be Zq⟩⟩
section
variable {b:Zo}{a:List aD}{c:List Nat}
def ZF(args:Array Zv)(a:Zw):(callFunc 125 args).run prog a=.ok (.enter 125 args) a:=Zk
def ZE(d:Ad)(l:Za)(n:St)(b:Zo)(j:Nat):pZ (mj d l n b j) where
 d2:=ZF
 bn:=by intro k m _ o h;cases h
 fx:=by
  rintro k m p ⟨f,c,g⟩ a;exact⟨f.az a,(a.block _ (ay c)).trans c,g.ae (ef [] a) Zq⟩
 call:=λi _ e=>ZD i e
abbrev xi(a:List aD)(c:List Nat):Zl:=(a.zip c).map λb=>Value.iface (fC b.1) (.pointer (some ⟨b.2,0,none⟩))
structure mB(b:Zo)(sl:Zv)(a:List aD)(c:List Nat):Prop where
 am:c.length=a.length
 row:fk b 157 sl a.length (xi a c)
 e1:∀i (h:i<a.length) (h':i<c.length),gH b c[i] a[i]
def mB.K{k}(l:mB b k a c):∃ad f,k=.slice ad a.length f/\a.length<=1000/\∀d (g:d<a.length),∃e i,ad=some ⟨e,0,none⟩/\gH b i a[d]/\∀h:Zw,(∀j∈b,h.heap[j.1]?=some j.2)->h.cell? (Zd e d)=some (.iface (fC a[d]) (Zp i)):=by
 obtain⟨t,⟨rfl,m,-⟩|⟨e,f,s,rfl,⟨-,p⟩,o,q⟩,n⟩:=l
 .exact⟨none,0,by rw[m],Zm,λd g=>by omega⟩
 .exact⟨_,f,rfl,p,λd g=>⟨e,c[d],rfl,n d g Zm,λh r=>oK (r _ o) q (by rw[Yd Zx];simp)⟩⟩
def pD(b:St)(a:List aD):Except Mar.ac Unit:=hj (mj ⟨0,0,0,0,[]⟩ ⟨#[]⟩ b [] 0) (a.flatMap ju) ()
def ZI(e:Ad)(g:Za)(d:St)(b:Zo)(f:Nat):∀(a:List (Zb×Nat)) (c:Unit),hj (mj e g d b f) a c=hj (mj ⟨0,0,0,0,[]⟩ ⟨#[]⟩ d [] 0) a c:=by
 intro a;induction a<;>simp_all[hj,mj]
def ZK{e i h r d}(v:Rd e i h d)(A:dF e.X b d)(y:mB b r a c):Calls prog 74 #[Zp e.R,r] d (nj (mj e i h b d.heap.size) d (pD h a)):=by
 have a0:=jT;have o:=(Below.refl d.heap.size d).alloc (Y4 _) (.cells #[Zp e.R] 145);have w:=U (ZE e i h b d.heap.size);have l:af (∀{n:Unit} {j:Zw},(mj e i h b d.heap.size).J n j->∀k∈b,j.heap[k.1]?=some k.2):=U λF k D=>(F.2.2 k D).1;have g:af (Tl (mj e i h b d.heap.size) (pD h a) (a.flatMap ju) d (d.alloc (.cells #[Zp e.R] 145))):=⟨(),⟨v.az o,be rfl,A.ae (ef [] o) Zq⟩,(ar _ d).A _,(ZI ..).symm⟩;obtain⟨ad,I,rfl,S,E⟩:=y.K;have t:=U E;generalize L:pD h a=u at *
 go_in;go_wp2;go_loopw [8] (λm j=>∃f:Nat,m=Y f/\f<=a.length/\af (Tl (mj e i h b d.heap.size) u ((a.drop f).flatMap ju) d j)) (λm _=>a.length-(intOf m).toNat)
 case atStart=>exact⟨0,rfl,Zm,g⟩
 case round=>
  obtain⟨f,rfl,P,g⟩:=hrel;rcases Yj f a.length with q|z
  .rw[Yk q,YD]at g;obtain⟨K,H,rfl,p,x⟩:=t.i f q;have a1:=x _ (g.i.f0 l.i);have C:=EV false p (g.i.f0 l.i);have M:=ES false a[f];have N:(0:Int)<=f:=Zm;have O:(f:Int)<a.length:=Zm;have s:=U λn j (B:(mj e i h b d.heap.size).J n j)=>EU false w.i (λ_ _=>trivial) p l.i B;generalize ul false a[f]=G at *
   dsimp only[cond]at C;go_wp21;refine tv g (s.i _ _ ·) λj _ g=>?_;go_wp2;exact⟨⟨f+1,Zj,Zm,g⟩,Zz⟩
  .rw[YR z]at g;go_wp2;go_end0;exact g.i.fin
end
section
variable {i:Ad}{N:Nat}{X:List Nat}{bs:Zo}{g:List (Zb×Option aD)}{c:Zb}{m:Option aD}{b:Zc}{h l j:Zw}{e:Zl}{σ:St}
def vk(X:List Nat)(N:Nat)(g:List (Zb×Option aD))(bs:Zo)(e:Zl)(j:Zw):Prop:=
 (g.map (·.1)).Nodup/\dF X bs j/\e.length=g.length/\j.heap[N]?=some (uA (g.zip e |>.map λb=>(b.1.1,b.2)))/\∀a (c:a<g.length) (d:a<e.length),og bs e[a] g[a].2
def vk.ae{d a}(f:vk X N g bs e j)(c:ap a j d)(l:∀n∈a,n∈X)(m:N ∉ a):vk X N g bs e d:=by
 obtain⟨o,h,i,b,k⟩:=f;exact⟨o,h.ae c l,i,(c.ak _ (ay b) m).trans b,k⟩
def abf(l:vk X N g bs e j)(f:Zb)(p:aP g f=some m):∃v,og bs v m/\(Instr.lookup 148 (.map (some N)) (Zs f) false).run prog j=.ok v j:=by
 obtain⟨D,t,u,n,w⟩:=l;have o:IsKey .string (Zs f):=trivial;have x:=xz (g.zip e |>.map λa=>(a.1.1,a.2));have r:(zeroValue 157).run prog j=.ok .nilIface j:=Zk;rcases zv (P:=prog) (T:=148) (kt:=9) (et:=157) (d:=.string) Zk Zk o n Zm r false with⟨c,k⟩|⟨h,i,c,k,s⟩
 .exfalso;obtain⟨a,q,i,_⟩:=FN p;obtain⟨b,y,rfl⟩:=List.getElem_of_mem q;have z:b<e.length:=Zm;have C:(⟨.string ⟨g[b].1.toArray⟩,e[b],b⟩:MapEntry)∈((g.zip e |>.map λa=>(a.1.1,a.2)).mapIdx λb a=>(⟨.string ⟨a.1.toArray⟩,a.2,b⟩:MapEntry)).toArray.toList:=by
   grind
  grind
 .simp only[List.toList_toArray,List.getElem?_mapIdx]at c;have A:h<g.length:=by
   grind
  have B:h<e.length:=Zm;rw[Yd Zu]at c;grind [BS]
def kK(σ:St)(b:Zc):Nat:=σ.G.countP λa=>!b.contains a.1
def TS(h:c ∉ b):∀(g:List (Zb×Option aD)),g.countP (λa=>!(b++[c]).contains a.1)<=g.countP (λa=>!b.contains a.1)/\((∃a∈g,a.1=c)->g.countP (λa=>!(b++[c]).contains a.1)<g.countP (λa=>!b.contains a.1)):=by
 intro g;induction g with
 |nil=>simp
 |cons d g f=>
  obtain⟨j,k⟩:=f;by_cases i:d.1=c
  .grind
  .have e:(!(b++[c]).contains d.1)=(!b.contains d.1):=Zg;rw[List.countP_cons,List.countP_cons,e];grind
def ag6(d:c ∉ b)(e:aP σ.G c=some m):kK σ (b++[c])<kK σ b:=by
 obtain⟨g,f,a,_⟩:=FN e;exact(TS d σ.G).2 ⟨g,f,a⟩
def qs(σ:St)(c:Zb):List (Zb×Nat):=match aP σ.G c with
 |some (some a)=>gp a
 |_=>[]
def follow(σ:St):Nat->Zb->Zc->Zc
 |0,_,b=>b
 |k+1,c,b=>if b.contains c then b else (qs σ c).foldl (λb a=>follow σ k a.1 b) (b++[c])
def VY{k}(a:c∈b):follow σ k c b=b:=by
 cases k<;>simp_all[follow]
def VZ{k:Nat}{a}(e:c ∉ b)(f:aP σ.G c=some (some a)):follow σ (k+1) c b=(gp a).foldl (λb d=>follow σ k d.1 b) (b++[c]):=by
 simp_all[follow,qs]
structure vb where
 qb:Nat
 rb:Nat
 fb:Nat
 q:Nat
def vb.V(a:vb):Zv:=.func (.func 205) #[] #[Zp a.qb,Zp a.rb,Zp a.fb]
structure oY(i:Ad)(text:Za)(σ:St)(bs:Zo)(e:Zl)(a:vb)(k:Nat)(b:Zc)(h:Zw):Prop where
 rd:Rd i text σ h
 nw:vk i.X i.N σ.G bs e h
 vq:h.heap[a.qb]?=some (.cells #[.map (some a.q)] 103)
 vr:h.heap[a.rb]?=some (.cells #[Zp i.R] 145)
 vf:h.heap[a.fb]?=some (.cells #[a.V] 237)
 aq:hO a.q b h
 bV:ib i a.q
 bm:kK σ b<=k
def oY.cc{f a d}(c:oY i f σ bs e a d b h):a.qb≠a.q/\a.rb≠a.q/\a.fb≠a.q:=by
 obtain⟨_,l,_,g⟩:=c.aq;have j:=c.vq;have k:=c.vr;grind [vf,uA]
def oY.b6{f d}{n k':Nat}{t'}(a:oY i f σ bs e d n b h)(c:ap [d.q] h l)(m:hO d.q t' l)(j:kK σ t'<=k'):oY i f σ bs e d k' t' l:=by
 obtain⟨o,p,r⟩:=a.cc;obtain⟨_,s,_,k⟩:=id a.aq;refine⟨a.rd.i1 c a.bV k,a.nw.ae c (by simp;exact a.bV.1) (by simp;exact λg=>a.bV.2.2.2.1 g.symm),(c.ak _ (ay a.vq) Zu).trans a.vq,(c.ak _ (ay a.vr) Zu).trans a.vr,(c.ak _ (ay a.vf) Zu).trans a.vf,m,a.bV,j⟩
def oY.az{g a f}(c:oY i g σ bs e a f b h)(d:Below h.heap.size h l):oY i g σ bs e a f b l:=
 c.b6 (ef [a.q] d) (c.aq.ae (ef [] d) Zq) c.bm
def vR(i:Ad)(h:Za)(σ:St)(bs:Zo)(e:Zl)(a:vb)(d:Nat):pY (Zc) where
 f:=205
 e5:=#[]
 f6:=#[Zp a.qb,Zp a.rb,Zp a.fb]
 a9:=λc b=>.ok (follow σ d c.1 b)
 J:=oY i h σ bs e a d
 M:=[a.q]
 ok:=λc=>∃g,aP σ.G c.1=some (some g)
theorem BA(i:Ad)(g:Za)(σ:St)(bs:Zo)(e:Zl)(d:vb)(c:Nat):∀(a:List (Zb×Nat)) (b:Zc),hj (vR i g σ bs e d c) a b=.ok (a.foldl (λb f=>follow σ c f.1 b) b):=by
 intro a;induction a<;>grind [hj,vR]
def Wb(args:Array Zv)(h:Zw):(callFunc 205 args).run prog h=.ok (.enter 205 args) h:=Zk
end
def Wa{e F}{σ:St}{t G b}{k:Nat}(M:∀a f,aP σ.G a=some (some f)->∀b6∈gp f,∃a2,aP σ.G b6.1=some (some a2))
  (b5:∀k',k'<k->pZ (vR e F σ t G b k')) {n c} (a:Zb×Nat) (b0:∃f,aP σ.G a.1=some (some f)) (u:oY e F σ t G b k n c) :
  Calls prog 205 #[jB a,Zp b.qb,Zp b.rb,Zp b.fb] c (nj (vR e F σ t G b k) c (.ok (follow σ k a.1 n))):=by
 obtain⟨f,j⟩:=b0;have a5:=(Below.refl c.heap.size c).alloc (Y4 _) (.cells #[.string ⟨a.1.toArray⟩,Y a.2] 160);have h:=u.az a5;have A:=be (w:=c) (o:=.cells #[.string ⟨a.1.toArray⟩,Y a.2] 160) rfl;have d5:=u.aq.lt;obtain⟨d8,d9,_⟩:=sJ A;have c2:=jQ h.vq;rcases GZ h.aq a.1 with⟨y,b2⟩|⟨v,a7,b2⟩
 .obtain⟨m,d4,b3⟩:=h.aq.aX y (Y a.2);have d0:=ag6 y j;have d2:=u.bm;obtain⟨k',rfl⟩:∃k',k=k'+1:=⟨k-1,Zm⟩;have D:=pI (c.alloc (.cells #[.string ⟨a.1.toArray⟩,Y a.2] 160)) b.q m;have d:=h.b6 (k':=k') D b3 Zm;have B:=(D.ak _ (ay A) Zx).trans A;obtain⟨d6,d7,_⟩:=sJ B;have c1:=jQ d.vr;have c9:=jQ d.vf;have b9:=d.rd.K.2.1;have x:=d.az (Below.refl ..).drew;obtain⟨v,a6,d3⟩:=abf x.nw a.1 j;obtain⟨c0,rfl,I⟩:=a6;have b1:=EV true I (λE z=>(x.nw.2.1 E z).1);have d1:=ES true f;have S:=U (EU true (b5 k' Zm) (M a.1 f j) I (λ{n e1} b4 E z=>(b4.nw.2.1 E z).1) x);have r:=U (VZ (k:=k') y j);dsimp only[cond]at b1;generalize ul true f=b8 at *
  have P:af (ap [b.q] c ((fg (c.alloc (.cells #[.string ⟨a.1.toArray⟩,Y a.2] 160)) b.q m).drew)):=(((ar _ c).A _).u D).ag;have H:=d.cc;have a3:∀g,ap [b.q] ((fg (c.alloc (.cells #[.string ⟨a.1.toArray⟩,Y a.2] 160)) b.q m).drew) g->g.cell? (Zd b.rb 0)=some (Zp e.R)/\g.cell? (Zd e.R 1)=some (.map (some e.N))/\g.cell? (Zd c.heap.size 0)=some (.string ⟨a.1.toArray⟩)/\g.cell? (Zd b.fb 0)=some b.V:=by
   intro g a8;have l:=((ar _ (fg (c.alloc (.cells #[.string ⟨a.1.toArray⟩,Y a.2] 160)) b.q m)).ag).u a8;obtain⟨_,e2,_,a9⟩:=id d.aq;have a4:=(d.rd.i1 l d.bV a9).K.2.1;obtain⟨b7,_,_⟩:=sJ ((l.ak _ (ay B) Zx).trans B);exact⟨jQ ((l.ak _ (ay d.vr) (by simpa using H.2.1)).trans d.vr),a4,b7,jQ ((l.ak _ (ay d.vf) (by simpa using H.2.2)).trans d.vf)⟩
  have L:=U a3;dsimp only[jB];go_in;go_wp21;go_region_held2 (λp=>p.cell? (Zd b.rb 0)=some (Zp e.R)/\p.cell? (Zd e.R 1)=some (.map (some e.N))/\p.cell? (Zd c.heap.size 0)=some (.string ⟨a.1.toArray⟩)/\p.cell? (Zd b.fb 0)=some b.V) (go_keep)
   (first|(refine S.i.mono ?_;rintro c3 g ⟨C,⟨e0,i,rfl,J⟩|⟨c8,i,_⟩⟩;rotate_left;(rw[BA]at i;cases i);have s:=U J;have a1:=U C;have a0:=U i;obtain⟨c4,c5,c6,c7⟩:=L.i g C;clear J C i))
  all_goals
   go_wp2;go_end0;have K:=a0.i;rw[BA]at K;cases K
   exact⟨P.i.u a1.i,Y8 ⟨_,by rw[r.i];rfl,rfl,s.i.b6 (ar ..) s.i.aq (by have:=s.i.bm;omega)⟩⟩
 .have r:=U (VY (σ:=σ) (k:=k) a7);have O:=U h;dsimp only[jB];go_in;go_wp2;go_end0;exact⟨(ar _ c).A _,Y8 ⟨n,by rw[r.i],rfl,O.i⟩⟩
section
variable {A:Ad}{b:Nat}{bs:Zo}{c:aD}{vs:Zl}{w:Zw}{d:St}
def Wc{text a}(j:∀f c,aP d.G f=some (some c)->∀h∈gp c,∃k,aP d.G h.1=some (some k)):∀e,pZ (vR A text d bs vs a e):=by
 intro e;induction e using Nat.strongRecOn with
 |ind e n=>
  refine⟨Wb,?_,?_,?_⟩
  .intro i w b h g;simp only[vR,Yc]at g;subst g;exact b.aq.lt
  .intro i w p b l;exact oY.az b l
  .intro i o f m b;exact Wa j n f m b
def Ah{X}(a:gH bs b c)(d:dF X bs w)(f:Nat):(method (f + 1) (fC c) (.pointer (some ⟨b, 0, none⟩)) "Title").run Tryz.prog w = .ok (327, .agg #[.string ⟨(ce c).1.toArray⟩, .int .i64 (ce c).2]) w := by
 obtain⟨g,h⟩:=Uu a d;have e:(loadVar 160 ⟨b,0,none⟩).run prog w=.ok (.agg #[.string ⟨(ce c).1.toArray⟩,Y (ce c).2]) w:=by go_simp
 rw[agG,e];rfl
def qH(d:St)(c:aD):Bool:=((gp c).foldl (λb a=>follow d (kK d []) a.1 b) []).contains (ce c).1
def aer{c b}(d:hO c b w)(a:Zb):∃v,(Instr.lookup 103 (.map (some c)) (Zs a) true).run prog w=.ok (.tuple #[v,.bool (b.contains a)]) w:=by
 rcases GZ d a with⟨e,f⟩|⟨v,e,f⟩;all_goals simp_all
def adc{text}(y:Rd A text d w)(a6:vk A.X A.N d.G bs vs w)(o:gH bs b c)
  (H:∀a9 c,aP d.G a9=some (some c)->∀g∈gp c,∃m,aP d.G g.1=some (some m)) (a0:∀g∈gp c,∃m,aP d.G g.1=some (some m)) :
  Calls prog 127 #[Zp A.R,.iface (fC c) (Zp b)] w λn u=>n=.returned (.bool (qH d c))/\ap [] w u:=by
 have b9:=jT;have c0:=nN;obtain⟨c4,c5,c6,c7⟩:=y.lt;obtain⟨a,f⟩:∃a:vb,a=⟨w.heap.size+2,w.heap.size,w.heap.size+3,w.heap.size+1⟩:=⟨_,rfl⟩;obtain⟨h,e⟩:∃h,h=(((w.alloc (.cells #[Zp A.R] 145)).alloc (.map #[] 0)).alloc (.cells #[.map (some (w.heap.size+1))] 103)).alloc (.cells #[a.V] 237):=⟨_,rfl⟩;have s:(w.alloc (.cells #[Zp A.R] 145)).heap.size=w.heap.size+1:=Zq;have t:((w.alloc (.cells #[Zp A.R] 145)).alloc (.map #[] 0)).heap.size=w.heap.size+2:=Zq;have E:(((w.alloc (.cells #[Zp A.R] 145)).alloc (.map #[] 0)).alloc (.cells #[.map (some (w.heap.size+1))] 103)).heap.size=w.heap.size+3:=Zq;have a3:=y.az ((Below.refl w.heap.size w).alloc (Y4 _) (.cells #[Zp A.R] 145));have C:=a3.gV (.map #[] 0);rw[s]at C;have c3:=((ar [] ((w.alloc (.cells #[Zp A.R] 145)).alloc (.map #[] 0))).A (.cells #[.map (some (w.heap.size+1))] 103)).A (.cells #[a.V] 237);have z:Below (w.heap.size+2) ((w.alloc (.cells #[Zp A.R] 145)).alloc (.map #[] 0)) h:=by
  rw[e];exact((Below.refl ..).alloc Zm _).alloc Zm _
 rw[<-t]at z;have a4:=C.az z;have q:ap [] w h:=by rw[e];exact((((ar [] w).A _).A _).A _).A _
 have l:oY (A.cP (w.heap.size+1)) text d bs vs a (kK d []) [] h:=by
  refine⟨a4,?_,?_,?_,?_,?_,?_,Y4 _⟩
  .obtain⟨b0,M,O,x,P⟩:=a6;exact⟨b0,(M.cP Zm).ae q Zq,O,(q.ak _ (ay x) Zq).trans x,P⟩
  .rw[f,e];dsimp only;exact(((ar [] _).A _).ak _ (by rw[E];omega) Zq).trans (be t.symm)
  .rw[f,e];dsimp only;exact((((((ar [] _).A _).A _).A _)).ak _ (by rw[s];omega) Zq).trans (be rfl)
  .rw[e,f];dsimp only;exact be E.symm
  .refine⟨Zq,[],rfl,?_⟩;rw[f,e];dsimp only;exact((((ar [] _).A _).A _).ak _ (by rw[t];omega) Zq).trans (be s.symm)
  .rw[f];dsimp only;refine⟨by simp[Ad.cP],?_,?_,?_,?_⟩<;>simp only[Ad.cP]<;>omega
 have L:=jQ l.vf;have S:=Wc (A:=A.cP (w.heap.size+1)) (text:=text) (bs:=bs) (vs:=vs) (a:=a) H (kK d []);have a2:=EV true o (λr p=>(l.nw.2.1 r p).1);have b7:=ES true c;have J:=U (EU true S a0 o (λ{F c9} a5 r p=>(a5.nw.2.1 r p).1) l);have I:=U q;subst e;subst f;dsimp only[vb.V,cond]at L a2;generalize ul true c=b4 at *
 go_in;go_wp21;refine J.i.mono ?_;rintro n b3 ⟨a7,⟨c8,i,rfl,k⟩|⟨b6,i,_⟩⟩;rotate_left
 .rw[BA]at i;cases i
 rw[BA]at i;cases i
 have b1:=jQ k.vq;dsimp only at b1;have a8:=ay k.vq;dsimp only at a8;have D:=k.az (Below.refl ..).drew;have c2:=Ah o D.nw.2.1;have c1:=yL;have b8:=Bu 160;have b5:=U k;have v:=U D;have K:=U a7;go_wp21;go_region_held2 (λu=>u.cell? ⟨w.heap.size+2,0,none⟩=some (.map (some (w.heap.size+1)))) (go_keep)
  (first|(go_at_call 327;refine(yK _ _ _).mono ?_;rintro n d1 ⟨rfl,j⟩;obtain⟨d0,a1⟩:=aer (v.i.az j).aq (ce c).1;have b2:=jQ (v.i.az j).vq;dsimp only at b2 a1;have G:=U j;clear j))
 all_goals
  go_wp2;go_ret;refine⟨pJ (a:=decide ((ce c).1∈(gp c).foldl (λ(F:Zc) (g:Zb×Nat)=>follow d (kK d []) g.1 F) [])) (b:=qH d c) (by simp[qH]),?_⟩;exact(I.i.eO K.i (by intro g B;simp only[vR,Yc]at B;subst B;exact Ya Zm)).u (((ar [] b3).ag).u (ef [] G.i))
end
def lA(a:St):List aD->Except Mar.ac Unit
 |[]=>.ok ()
 |d::b=>if qH a d then .error ⟨9,(ce d).2⟩else lA a b
def Rd.m8{a b e c d}(f:Rd a b e c)(g:ap [] c d):Rd a b e d:=f.ae g Zq Zq Zq Zq Zq Zq Zq Zq
def VK{h P d bs vs A b O e}(o:Rd h P d e)(s:vk h.X h.N d.G bs vs e)(H:mB bs A b O)
  (k:∀L i,aP d.G L=some (some i)->∀u∈gp i,∃m,aP d.G u.1=some (some m)) (q:∀i∈b,∀u∈gp i,∃m,aP d.G u.1=some (some m)) :
  Calls prog 75 #[Zp h.R,A] e λg x=>ap [] e x/\((lA d b=.ok ()/\g=.returned (.tuple #[]))\/(∃n,lA d b=.error n/\eH e n.no n.y g x)):=by
 have a2:∀(F l:Zv) (y:Zw),(Instr.field 160 (.agg #[F,l]) 1).run prog y=.ok l y:=λ_ _ _=>by kernel_rfl
 have a7:=yL;obtain⟨ad,a0,rfl,a6,j⟩:=H.K;have E:=U j;have B:=U (Yp o (Yp s (Yp k q)));go_in;go_wp2;go_loopw [8] (λt w=>∃c:Nat,t=Y c/\c<=b.length/\af (ap [] e w)/\af (lA d b=lA d (b.drop c))) (λt _=>b.length-(intOf t).toNat)
 case atStart=>exact⟨0,rfl,Zm,ar _ e,rfl⟩
 case round=>
  obtain⟨c,rfl,a5,a,f⟩:=hrel;obtain⟨o,s,k,q⟩:=B.i;have v:=U λ(w:Zw) (a:ap [] e w)=>s.ae a Zq Zq;rcases Yj c b.length with r|I
  .obtain⟨a1,l,rfl,z,G⟩:=E.i c r;have a9:=G _ λM J=>((v.i _ a.i).2.1 M J).1;have a3:(0:Int)<=c:=Zm;have a4:(c:Int)<b.length:=Zm;rw[Yk r]at f;have D:=U (adc (o.m8 a.i) (v.i _ a.i) z k (q _ (Yy r)));have C:=U z;go_wp21;refine D.i.mono ?_;rintro g b0 ⟨rfl,K⟩;have a:=U (a.i.u K);cases j:qH d b[c]with
   |true=>
    have a8:=Ah C.i (v.i _ a.i).2.1;go_wp2_with (first
     |(refine(yK _ _ _).mono ?_;rintro g S ⟨rfl,p⟩)
     |(refine(fp _ _ _).mono ?_;rintro g x ⟨rfl,rfl⟩))
    refine bM ?_;exact⟨by first|exact(a.i.u (ef [] p)).A _|exact(a.i.drew.trans (ap.b7 [] p)).A _,Ya ⟨⟨9,(ce b[c]).2⟩,f.i.trans (Y9 j),S.heap.size,by have:=a.i.aG;have:=p.size;omega,rfl,be rfl⟩⟩
   |false=>
    go_wp2;exact⟨⟨c+1,Zj,Zm,a,f.i.trans (Y2 (by rw[j];simp))⟩,Zz⟩
  .rw[YR I]at f;go_wp2;go_end0;exact⟨a.i,Y8 ⟨f.i,rfl⟩⟩
section
variable {d:Ad}{g:Bool}{a:Zb×Nat}{e:Unit}{f τ:Type}{b c:St}
def sw(d:Zb)(e:PX τ aV):Prop:=∀f b a g c,e f b=.ok (a,g,c)->a.t=d/\Kn b.G c.G
def vj(d:PX τ aV):Prop:=∀e b a f c,d e b=.ok (a,f,c)->(aP c.G a.t).isSome
theorem Le.kn(a:Le b c):Kn b.G c.G:=a.2.2.2.2.2
theorem zF(a:aV):sw a.t (eJ (τ:=τ) a):=by
 intro f b d g c e;simp_all[eJ,vh]
theorem zE{i g}{h:f->PX τ aV}(m:ct g)(l:∀d,sw i (h d)):sw i (aQ g h):=by
 intro o b p r c a;cases e:g o b with
 |error q=>rw[fc e]at a;cases a
 |ok n=>
  obtain⟨d,s,t⟩:=n;rw[dZ e]at a;obtain⟨j,k⟩:=l d _ _ _ _ _ a;exact⟨j,(m _ _ _ _ _ e).kn.u k⟩
theorem Nk{a:Zb}{b c:PX τ aV}(d:sw a b)(e:sw a c):sw a (if g then b else c):=Zg
theorem Cc{h}{e:f->PX τ aV}(i:∀d,vj (e d)):vj (aQ h e):=by
 intro k b l n c a;cases g:h k b with
 |error m=>rw[fc g]at a;cases a
 |ok j=>obtain⟨d,o,p⟩:=j;rw[dZ g]at a;exact i d _ _ _ _ _ a
theorem Ga{a b:PX τ aV}(c:vj a)(d:vj b):vj (if g then a else b):=Zg
theorem Uy{a}(d:jc a b=.ok (e,c)):(aP c.G a.text).isSome:=by
 grind [jc,FJ]
theorem MN{i}{o:Unit}(f:name i (iR d) e b=.ok (a,o,c)):(aP c.G a.1).isSome:=by
 unfold name at f;cases n:next i b with
 |error k=>simp_all[fc,im]
 |ok g=>
  obtain⟨h,j⟩:=g;rw[dZ (gF n)]at f;cases m:((h.w:Int)==1)with
  |false=>simp_all[Di]
  |true=>
   rw[m]at f;simp only[if_true]at f
   cases l:jc h j with
   |error k=>simp_all[fc,iR,im]
   |ok g=>
    obtain⟨v,p⟩:=g;rw[dZ (show (iR d).a9 h e j=.ok (v,e,p)from gF l)]at f;grind [eJ,Uy]
theorem Cd{h}{g:Zb×Nat->PX Unit aV}(k:∀a,sw a.1 (g a)):vj (aQ (name h (iR d)) g):=by
 intro m b n p c e;cases f:name h (iR d) m b with
 |error o=>rw[fc f]at e;cases e
 |ok l=>
  obtain⟨a,q,r⟩:=l;rw[dZ f]at e;obtain⟨i,j⟩:=k a _ _ _ _ _ e;rw[i];exact j.1 _ (MN f)
theorem Nj(b:Za)(a:Zb×Nat)(c:Ty):sw a.1 (pz (τ:=τ) b a c):=by
 unfold pz;exact zE (gh (BX _)) λ_=>zF ⟨a.1,a.2,_⟩
theorem abO(c:Za)(b:Ty)(a:Zb×Nat):sw a.1 (uk (τ:=τ) c b a):=by
 unfold uk;refine zE (gh (wg _ _)) λd=>?_;unfold vH;refine Nk (Nj _ _ _) (zE (gh (wg _ _)) λe=>?_);unfold vI;exact Nk (Nj _ _ _) (zF ⟨a.1,a.2,b⟩)
theorem abd(d:Ad)(c:Za):vj (il c (iR d)):=by
 unfold il;refine Cc λb=>?_;unfold ru;refine Ga (Cd λa=>zE (gh (BX _)) λ_=>zF ⟨a.1,a.2,_⟩) (Cc λb=>?_);unfold rx;refine Ga (Cd λa=>zE (gh (FR _)) λ_=>zF ⟨a.1,a.2,_⟩) (Cc λe=>?_);unfold vG;refine Cc λb=>?_;unfold uj;exact Ga (Cd λa=>zF ⟨a.1,a.2,_⟩) (Cd λa=>abO _ _ _)
theorem Uo{f}{d:aV}(a:ry f b=.ok (d,c)):(aP c.G d.t).isSome:=by
 unfold ry lx at a;cases e:il f (iR uD) () b with
 |error i=>simp_all
 |ok g=>obtain⟨h,j,k⟩:=g;rw[e]at a;cases a;exact abd _ _ _ _ _ _ _ e
theorem abb{e}(d:jA e b=.ok (a,c)):(aP c.G a.1).isSome:=by
 unfold jA lx at d;grind [MN]
end
section
variable {n:Zb×Nat}{a:Type}
def tN(e:PM a):Prop:=∀b d c,e b=.ok (d,c)->Kn b.G c.G
theorem eg.k{b:PM a}(d:eg b):tN b:=λf c g e=>(d f c g e).kn
def sy(n:Zb×Nat)(d:PM aD):Prop:=∀b a c,d b=.ok (a,c)->ce a=n/\Kn b.G c.G
def ri(d:PM aD):Prop:=∀c b a,d c=.ok (b,a)->(aP a.G (ce b).1).isSome/\Kn c.G a.G
def yi{a:aD}(c:ce a=n):sy n (ret a):=by
 intro e b f d;grind [ret,vh]
def jH{e}{f:a->PM aD}(j:tN e)(i:∀c,sy n (f c)):sy n (aN e f):=by
 intro l m p b;cases d:e l with
 |error o=>rw[dv d]at b;cases b
 |ok k=>
  obtain⟨c,q⟩:=k;rw[bK d]at b;obtain⟨g,h⟩:=i c _ _ _ b;exact⟨g,(j _ _ _ d).u h⟩
def agI{c:Bool}{a b:PM aD}(d:sy n a)(e:sy n b):sy n (if c then a else b):=Zg
def wz{e}{f:a->PM aD}(j:tN e)(i:∀c,ri (f c)):ri (aN e f):=by
 intro l m o b;cases d:e l with
 |error n=>rw[dv d]at b;cases b
 |ok k=>
  obtain⟨c,p⟩:=k;rw[bK d]at b;obtain⟨g,h⟩:=i c _ _ _ b;exact⟨g,(j _ _ _ d).u h⟩
def Af{e}{c:Zb×Nat->PM aD}(g:∀n,sy n (c n)):ri (aN (jA e) c):=by
 intro i j l a;cases b:jA e i with
 |error k=>rw[dv b]at a;cases a
 |ok h=>
  obtain⟨n,m⟩:=h;rw[bK b]at a;obtain⟨f,d⟩:=g n _ _ _ a;exact⟨by rw[f];exact d.1 _ (abb b),(ux _ _ _ _ b).kn.u d⟩
def agh(b:Za)(a:Nat):ri (lz b a):=by
 unfold lz;refine wz (MC _).k λ_=>Af λn=>?_;exact jH (fe _ _).k λ_=>jH (zD _ _).k λ_=>jH (fe _ _).k λ_=>yi rfl
def agl(e:Za)(g:Nat):ri (lR e g):=by
 unfold lR;refine wz (zz _).k λ_=>?_;intro i j l a;cases b:ry e i with
 |error k=>rw[dv b]at a;cases a
 |ok h=>
  obtain⟨c,m⟩:=h;rw[bK b]at a;obtain⟨f,d⟩:=jH (n:=(c.t,c.y)) (fe _ _).k (λ_=>yi rfl) _ _ _ a;exact⟨by rw[f];exact d.1 _ (Uo b),(My _ _ _ _ b).kn.u d⟩
def agJ(e:Za)(n:Zb×Nat):∀(b:Nat) (a:List (Zb×Nat×Int)) (c:List (Int×Int)),sy n (kC e n b a c):=by
 intro b;induction b with
 |zero=>intro a c g h o d;simp_all[kC,hZ]
 |succ b k=>
  intro a c g h o d;cases f:kY e a.length c g with
  |error p=>simp_all[wa]
  |ok m=>
   obtain⟨l,q,s⟩:=m;rw[wb f]at d;obtain⟨i,j⟩:=jH (n:=n) (oD _ _).k (λr=>agI (k _ _) (show sy n (qn e n (a++[l]))from jH (fe _ _).k λ_=>jH (fe _ _).k λ_=>yi rfl)) _ _ _ d;exact⟨i,(MB _ _ _ _ _ _ _ f).kn.u j⟩
def agi(b:Za)(a:Nat):ri (kS b a):=by
 unfold kS;exact wz (zz _).k λ_=>Af λn=>jH (fe _ _).k λ_=>agJ _ _ _ _ _
def agk(b:Za)(a:Nat):ri (mu b a):=by
 unfold mu;exact wz (zz _).k λ_=>Af λn=>jH (zC (BW _ _ _ (MF _ _)) _).k λ_=>jH (fe _ _).k λ_=>yi rfl
def agm(b:Za)(a:Nat):ri (iX b a):=by
 unfold iX;refine wz (zz _).k λ_=>Af λn=>?_;unfold qP;refine jH (fe _ _).k λ_=>jH (fe _ _).k λ_=>jH (ME _).k λd=>?_;unfold qQ;refine jH (BZ (BY _ _ _) _).k λc=>?_;unfold sb;refine jH (fe _ _).k λ_=>jH (fe _ _).k λ_=>jH (BZ (Mv _ _ _ _) _).k λe=>?_;unfold tA pP;exact jH (fe _ _).k λ_=>jH (fe _ _).k λ_=>yi rfl
def XA(d:Za)(c:Int->Bool):tN (rM d c):=by
 intro e g k a;cases b:ir d c e.ah e with
 |error h=>simp_all[Cq]
 |ok f=>
  obtain⟨j,i,l⟩:=f;rw[Gh b]at a;cases a
  exact(zA _ _ _ _ _ _ _ b).kn
def FF{j:Type}{e}{f:a->PM j}(h:tN e)(g:∀c,tN (f c)):tN (aN e f):=by
 intro k l n b;cases d:e k with
 |error m=>rw[dv d]at b;cases b
 |ok i=>obtain⟨c,o⟩:=i;rw[bK d]at b;exact(h _ _ _ d).u (g c _ _ _ b)
def Xz(a:Za):tN (sR a):=by
 unfold sR;exact FF (fe _ _).k λ_=>FF (XA _ _) λ_=>FF (fe _ _).k λ_=>(mX _).k
def agj(c:Za)(b:Nat):ri (lK c b):=by
 unfold lK;refine wz ?_ λ_=>Af λn=>?_
 .intro e d f a;exact(FT _ _ _ _ _ _ a).kn
 .unfold tm;exact jH (zC (MD _) _).k λ_=>jH (Xz _) λ_=>yi rfl
def Hu(b:Za):ri (fP b):=by
 unfold fP;refine wz (rG _).k λd=>?_;intro e c f a;unfold fO at a;split at a
 .exact agh _ _ _ _ _ a
 split at a
 .exact agl _ _ _ _ _ a
 split at a
 .exact agi _ _ _ _ _ a
 split at a
 .exact agk _ _ _ _ _ a
 split at a
 .exact agm _ _ _ _ _ a
 split at a
 .exact agj _ _ _ _ _ a
 grind [hZ]
end
def ahH(b:Za)(a:Zw):Calls prog 71 #[.string b] a λc d=>c=.returned (Zp a.heap.size)/\d=a.alloc (.cells #[.string b,Y 0,Y 0,.string ⟨#[]⟩,Y 0,Y 0,.bool false] 222):=by
 go_in;go_wp2;go_ret;simp
def fW:St:=⟨0,none,0,0,[],[]⟩
def nP(b:Za)(a:Zw):Zw:=
 (((a.alloc (.cells #[.string b,Y 0,Y 0,.string ⟨#[]⟩,Y 0,Y 0,.bool false] 222)).alloc (.map #[] 0)).alloc (.map #[] 0)).alloc
  (.cells #[Zp a.heap.size,.map (some (a.heap.size+1)),Y 0,Y 0,.map (some (a.heap.size+2))] 151)
def iE(a:Zw):Ad:=⟨a.heap.size+3,a.heap.size,a.heap.size+1,a.heap.size+2,[a.heap.size+3,a.heap.size,a.heap.size+1,a.heap.size+2]++List.range a.heap.size⟩
def XE(b:Za){a}(g:Gl a)(h:b.size<=4000000000):Rd (iE a) b fW (nP b a)/\ap [] a (nP b a)/\(nP b a).heap.size=a.heap.size+4:=by
 have i:(a.alloc (.cells #[.string b,Y 0,Y 0,.string ⟨#[]⟩,Y 0,Y 0,.bool false] 222)).heap.size=a.heap.size+1:=Zq;have j:((a.alloc (.cells #[.string b,Y 0,Y 0,.string ⟨#[]⟩,Y 0,Y 0,.bool false] 222)).alloc (.map #[] 0)).heap.size=a.heap.size+2:=Zq;have k:(((a.alloc (.cells #[.string b,Y 0,Y 0,.string ⟨#[]⟩,Y 0,Y 0,.bool false] 222)).alloc (.map #[] 0)).alloc (.map #[] 0)).heap.size=a.heap.size+3:=Zq;have l:(nP b a).heap.size=a.heap.size+4:=by unfold nP;simp
 have c:ap [] a (nP b a):=((((ar [] a).A _).A _).A _).A _;have f:(nP b a).heap[a.heap.size]?=some (.cells #[.string b,Y 0,Y 0,.string ⟨#[]⟩,Y 0,Y 0,.bool false] 222):=
  ((((ar [] _).A _).A _).A _).ak _ Zm Zq |>.trans (be rfl)
 have bN:(nP b a).heap[a.heap.size+1]?=some (.map #[] 0):=(((ar [] _).A _).A _).ak _ Zm Zq |>.trans (be i.symm);have d:(nP b a).heap[a.heap.size+2]?=some (.map #[] 0):=((ar [] _).A _).ak _ Zm Zq |>.trans (be j.symm);have e:(nP b a).heap[a.heap.size+3]?=some (.cells #[Zp a.heap.size,.map (some (a.heap.size+1)),Y 0,Y 0,.map (some (a.heap.size+2))] 151):=be k.symm;refine⟨⟨e,⟨YV _,_,_,_,_,f⟩,⟨by simp[fW],[],[],(by intro n m;grind),rfl,bN,Zq⟩,?_,?_,d,by simp[iE],g.ae c Zq Zq Zq,h,by simp[fW]⟩,c,l⟩
 .simp[iE]
 grind [iE]
section
def Xa:(prog.info? 157).map (λa=>(a.zero,a.size,a.bytes))=some (some .nilIface,1,16):=Zk
def CU(a:aD):PM Unit:=λb=>.ok ((),{ b with G:=ew b.G (ce a).1 a })
def eC(a:Za):Nat->List aD->PM (List aD)
 |0,_=>hZ 0 0
 |k+1,c=>aN (ht a) λd=>if((d.w:Int)==0)then ret c else aN (fP a) λb=>aN (CU b) λ_=>eC a k (c++[b])
def eW(a:Za):Except Mar.ac (List aD):=
 if 1200<a.size then .error ⟨1,0⟩else match eC a 69 [] fW with
 |.error c=>.error c
 |.ok (d,b)=>match pD b d with
  |.error c=>.error c
  |.ok _=>match lA b d with
   |.error c=>.error c
   |.ok _=>.ok d
section
variable {o : Type} {f h m : List Nat} {d : Ad} {a : Za} {l : o -> Zw -> Prop} {n : o} {b : St} {e : List Th} {i : List (Nat × Obj)} {c g : Zw}
def st6{D:Type}{y x:Except Mar.ac D}{w}{C:aD->St->Except Mar.ac D}{k args}{Q:Ending->Zw->Prop}(u:af (bF f h d a l n e i b g c))(B:af (y=x))(E:Rd (d.a3 (dY e)) a b c->Calls prog k args c (AF m (d.a3 (dY e)) a c w))
  (ok:∀q t p v r,af (w=.ok (q,t))->gH v p q->af (y=C q t)->af (bF f h d a l n e (v++i) t g r)->Q (.returned (.iface (fC q) (Zp p))) r) (F:∀q t,w=.ok (q,t)->x=C q t) (G:∀k,w=.error k->x=.error k) (z:∀s∈m,s∈f/\s ∉ h)
  (bad:∀{p:Nat} {r:Zw},ap f g r/\(∃k,y=.error k/\eH g k.no k.y (hb p) r)->Q (hb p) r):Calls prog k args c Q:=by
 refine(E u.i.rd).mono ?_;rintro M r ⟨A,⟨q,t,p,v,o,rfl,L,J,K⟩|⟨k,o,p,H,rfl,I⟩⟩
 .exact ok q t p v r (U o) J (U (B.i.trans (F _ _ o))) (U ((u.i.call A L (u.i.st u.i.j A λs o=>(z s o).2) λs o=>(z s o).1).iC K))
 .exact bad ⟨u.i.kp.u (A.aZ λs o=>(z s o).1),k,B.i.trans (G _ o),p,Yz u.i.kp.aG H,rfl,I⟩
end
end
section
variable {b:aD}{d:List aD}{e:Mar.ac}{c f g:St}
def Pk{a}{h:Nat}{b:Mar.aU}(e:ht a c=.ok (b,g))(f:((b.w:Int)==0)=true):eC a (h+1) d c=.ok (d,g):=by
 simp only[eC];rw[bK e,f];rfl
theorem Pl{a}{b:Nat}(f:ht a c=.error e):eC a (b+1) d c=.error e:=by
 simp_all[eC,dv]
def Pj{a}{f:Nat}{b:Mar.aU}(h:ht a c=.ok (b,g))(j:((b.w:Int)==0)=false)(i:fP a g=.error e):eC a (f+1) d c=.error e:=by
 simp only[eC];grind [bK,dv]
def Pm{a}{f:Nat}{e:St}{h:Mar.aU}(i:ht a c=.ok (h,g))(k:((h.w:Int)==0)=false)(j:fP a g=.ok (b,e)):eC a (f+1) d c=eC a f (d++[b]) { e with G:=ew e.G (ce b).1 b }:=by
 simp only[eC];rw[bK i,k];exact bK j
structure pl(c:St)(d:List aD):Prop where
 H:c.an<=24
 co:c.ax<=40
 pr:c.ah.length<=4
 bm:d.length<=c.an+c.ax+c.ah.length
 nm:∀n b,aP c.G n=some (some b)->b∈d\/∃t a v,b=.const t a v
def pl.le(a:pl c d)(j:Le c f):pl f d:=by
 obtain⟨n,o,g,k,l,m⟩:=j;refine⟨k a.H,l a.co,by rw[g];exact a.pr,by rw[g];have:=a.bm;omega,λh b i=>?_⟩;rcases m.2 h b i with e|e
 .exact a.nm h b e
 simp_all
theorem pl.cG{m}(e:pl c d)(k:fP m c=.ok (b,f)):pl { f with G:=ew f.G (ce b).1 b } (d++[b]):=by
 have g:=afh k;have o:=(Hu m _ _ _ k).2;have q:=g.up;have p:=e.bm;refine⟨g.H e.H,g.co e.co,g.pr e.pr,Zg,λh i a=>?_⟩;dsimp only at a;rw[BR]at a;cases l:aP f.G h with
 |none=>simp_all
 |some r=>
  rw[l]at a;simp only[Option.map_some,Yu]at a;split at a
  .simp_all
  .subst a;rcases o.2 h i l with j|j
   .rcases e.nm h i j with n|n;all_goals simp_all
   simp_all
def FG:∀(c:Ty) (b:Zb×Nat),b∈ia c->b∈gu c:=by
 intro c;induction c with
 |named i g=>intro b a;exact a
 |arr f h e d=>
  intro b a;cases e with
  |true=>exact d b (by simpa[ia]using a)
  |false=>simp[ia]at a
 |opt f d=>intro b a;simp[ia]at a
 |_=>intro b a;simp[ia]at a
def LZ(b:aD)(h:Zb×Nat)(a:h∈gp b):h∈ju b:=by
 cases b with
 |const d c v=>simp[gp]at a
 |typedef b=>exact FG _ _ a
 |enum d c i=>simp[gp]at a
 |struct d c i=>
  simp only[gp,List.mem_flatMap]at a;obtain⟨g,f,e⟩:=a;exact List.mem_flatMap.2 ⟨g,f,FG _ _ e⟩
 |union d c l j=>
  simp only[gp,List.mem_flatMap]at a;obtain⟨g,f,e⟩:=a;exact List.mem_flatMap.2 ⟨g,f,FG _ _ e⟩
 |prog d c m k=>simp[gp]at a
def ZM:∀(a:List (Zb×Nat)) (i:Unit),hj (mj ⟨0,0,0,0,[]⟩ ⟨#[]⟩ c [] 0) a i=.ok ()->∀h∈a,∃b,aP c.G h.1=some (some b):=by
 intro a;induction a with
 |nil=>simp
 |cons g a n=>
  intro i d h j;simp only[hj]at d;have k:(mj ⟨0,0,0,0,[]⟩ ⟨#[]⟩ c [] 0).a9 g i=qu c g:=rfl;rw[k]at d;cases f:qu c g with
  |error e=>simp_all
  |ok v=>
   rw[f]at d;rcases Yg.1 j with rfl|j
   .unfold qu at f;cases l:aP c.G h.1 with
    |none=>simp_all
    |some m=>
     rw[l]at f;cases m<;>simp_all[vT]
   grind
theorem Ml(f:pD c d=.ok ()):∀b∈d,∀a∈gp b,∃e,aP c.G a.1=some (some e):=by
 intro b g a h;exact ZM _ _ f a (List.mem_flatMap.2 ⟨b,g,LZ b a h⟩)
def ZO(h:pl c d)(j:pD c d=.ok ()):∀a b,aP c.G a=some (some b)->∀e∈gp b,∃f,aP c.G e.1=some (some f):=by
 intro a b g e l;rcases h.nm a b g with k|⟨m,i,v,rfl⟩;all_goals grind [Ml,gp]
def Pv:pl fW []:=⟨by simp[fW],by simp[fW],by simp[fW],Zq,by grind [fW,aP]⟩
end
section
variable {a:List aD}{b:Mar.ac}{c:St}
def Iq(i:Za)(c:Zw)(g:Ending)(d:Zw):Prop:=
 (∃a h j f,eW i=.ok a/\g=.returned h/\ap [] c d/\mB f h a j/\∀e∈f,d.heap[e.1]?=some e.2/\c.heap.size<=e.1)\/(∃b,eW i=.error b/\ap [] c d/\eH c b.no b.y g d)
def agu{a:Za}(c:¬1200<a.size)(d:eC a 69 [] fW=.error b):eW a=.error b:=by unfold eW;rw[Y2 c,d]
def agv{d:Za}(e:¬1200<d.size)(f:eC d 69 [] fW=.ok (a,c))(g:pD c a=.error b):eW d=.error b:=by unfold eW;rw[Y2 e,f];simp only[g]
def agt{d:Za}(e:¬1200<d.size)(g:eC d 69 [] fW=.ok (a,c))(h:pD c a=.ok ())(f:lA c a=.error b):eW d=.error b:=by unfold eW;rw[Y2 e,g];simp only[h,f]
def agx{b:Za}(d:¬1200<b.size)(f:eC b 69 [] fW=.ok (a,c))(g:pD c a=.ok ())(e:lA c a=.ok ()):eW b=.ok a:=by unfold eW;rw[Y2 d,f];simp only[g,e]
def JJ(e:Za){c}(a1:Gl c):Calls prog 44 #[.string e] c (Iq e c):=by
 have f7:=nN;have f5:=VG;have f4:=Bu 160;have g0:=yL;by_cases F:1200<e.size
 .have H:af (eW e=.error ⟨1,0⟩):=by show _=_;unfold eW;rw[Y9 F]
  have d6:(1200:Int) < ↑e.size:=Zm;go_in;go_wp2_with (go_at_call 70;refine(fp _ _ _).mono ?_;rintro s q ⟨rfl,rfl⟩);exact bM (Ya ⟨⟨1,0⟩,H.i,(by first|exact(ar [] c).A _|exact(ap.F [] c).drew.A _),c.heap.size,Y4 _,rfl,be rfl⟩)
 .obtain⟨a5,c0,f9⟩:=XE e a1 Zm;have f8:¬(1200:Int) < ↑e.size:=Zm;have I:=U F;have r:af (∀y,ap [(iE c).R,(iE c).S,(iE c).N,(iE c).P] (nP e c) y->ap [] c y):=U λy a2=>c0.eO a2 (by intro w d7;simp[iE]at d7;exact Ya Zm);have b0:af (∀{l q},ap [(iE c).R,(iE c).S,(iE c).N,(iE c).P] (nP e c) q/\(∃b,eC e 69 [] fW=.error b/\eH (nP e c) b.no b.y (hb l) q)->Iq e c (hb l) q):=U λ⟨a2,b,e1,c9,d3,s,d4⟩=>Ya ⟨b,agu F e1,r.i _ a2,c9,Yz c0.aG d3,s,d4⟩;have d:=U ((yI [(iE c).R,(iE c).S,(iE c).N,(iE c).P] a5 (by simp[a5.cD])).nil 157 1);clear a5 F;go_in;go_wp2_with (first|(refine(ahH _ _).mono ?_;rintro s q ⟨rfl,rfl⟩));go_loopw [4] (λa7 y=>∃(a:List aD) (m:List Nat) (B:Zo) (A:St),af (pl A a)/\af (bF [(iE c).R,(iE c).S,(iE c).N,(iE c).P] [] (iE c) e (λ(_:Unit) _=>True) () [.row 157 1 a7 a.length (xi a m)] B A (nP e c) y)/\af (m.length=a.length/\∀h (i:h<a.length) (o:h<m.length),gH B m[h] a[h])/\af (eC e 69 [] fW=eC e (69-a.length) a A)) (λa7 _=>69-BM a7)
  case atStart=>exact⟨[],[],[],fW,Pv,d,U ⟨rfl,Zq⟩,rfl⟩
  case round=>
   clear d;obtain⟨a,m,B,A,n,d,K,g⟩:=hrel;obtain⟨ad,b3,rfl⟩:=aW (d.i.th (i:=0) rfl);have f6:a.length<=68:=by have f0:=n.i.bm;have f1:=n.i.H;have f2:=n.i.co;have f3:=n.i.pr;omega
   rw[show 69-a.length=(68-a.length)+1 by omega]at g;replace g:af (_=aN (ht e) (λz=>if((z.w:Int)==0)then ret a else aN (fP e) λj=>aN (CU j) λ_=>eC e (68-a.length) (a++[j])) A):=g
   have e5:wr.cell? ⟨c.heap.size+3,0,none⟩=some (Zp c.heap.size):=d.i.rd.K.1;go_wp21;refine ya d g (Cy ·) (λz c5 g3 C g d=>?_) (hN:=by simp[Ad.a3]) (bad:=λi=>wn (b0.i i));have n:=U (n.i.le (zB _ _ _ _ C.i));dsimp only[dH];cases E:((z.w:Int)==0)with
   |true=>
    have d5:((z.w:Int) != 0)=false:=by simp[bne,E]
    replace g:af (eC e 69 [] fW=.ok (a,c5)):=U (g.i.trans (by simp only[E,if_true];rfl))
    obtain⟨G,w,S,e0⟩:=d.i.gL Zm;have a0:mB G (.slice ad a.length b3) a m:=⟨K.i.1,S,λh i o=>(K.i.2 h i o).aZ e0⟩;have c7:=U (ZK w.fin w.br a0);have p:=U (Yp w a0);clear a0 w S;go_wp21;refine c7.i.mono ?_;rintro s a8 ⟨a3,⟨⟨⟩,t,rfl,-⟩|⟨b,t,l,M,rfl,O⟩⟩;rotate_left
    .exact wn (Ya ⟨b,agv I.i g.i t,(r.i _ p.i.1.kp).u a3,l,Yz (r.i _ p.i.1.kp).aG M,rfl,O⟩)
    have x:=p.i.1.ae a3;obtain⟨c3,d0,e3,b4,b5,b6,b7⟩:=x.fin.nm;have c8:=U (VK x.fin (bs:=G++d0) (vs:=e3) ⟨c3,λk f=>(Yn.1 f).elim (x.br k) (b4 k),b5,b6,λh i o=>(b7 h i o).aZ λk f=>Ym _ f⟩ ⟨p.i.2.am,p.i.2.row.aZ λk f=>Yf _ f,λh i o=>(p.i.2.e1 h i o).aZ λk f=>Yf _ f⟩ (ZO n.i t) (Ml t));have d:=U x;have b2:=U t;clear x c3 b4 b5 b6 b7 a3 t;go_wp21;refine c8.i.mono ?_;rintro s g4 ⟨a4,⟨D,rfl⟩|⟨b,D,l,M,rfl,O⟩⟩;rotate_left
    .exact wn (Ya ⟨b,agt I.i g.i b2.i D,(r.i _ d.i.kp).u a4,l,Yz (r.i _ d.i.kp).aG M,rfl,O⟩)
    have d:=U (d.i.ae a4);have H:=U D;clear a4 D;go_wp2;go_ret;exact Y8 ⟨a,_,m,G,agx I.i g.i b2.i H.i,rfl,r.i _ d.i.kp,p.i.2,λk f=>⟨(d.i.br k f).1,Nat.le_of_not_lt λv=>(d.i.br k f).2 (Ym _ (List.mem_range.2 v))⟩⟩
   |false=>
    have d5:((z.w:Int) != 0)=true:=by simp[bne,E]
    replace g:af (eC e 69 [] fW=aN (fP e) (λj=>aN (CU j) λ_=>eC e (68-a.length) (a++[j])) c5):=U (g.i.trans (by simp only[E,Ye,if_false]))
    go_wp21;refine st6 d g (Uz ·) (λj c6 l L a8 C P g d=>?_) (λ_ _ i=>bK i) (λ_ i=>dv i) (by simp[Ad.a3]) (bad:=λi=>wn (b0.i i));replace g:af (eC e 69 [] fW=eC e (68-a.length) (a++[j]) { c6 with G:=ew c6.G (ce j).1 j }):=g;have n:=U (n.i.cG C.i);obtain⟨g2,d8⟩:=Option.isSome_iff_exists.1 (Hu e _ _ _ C.i).1;have d:=U d.i.ag;have b9:dF ((iE c).a3 (dY [.row 157 1 (.slice ad a.length b3) a.length (xi a m)])).X L a8.drew:=λk f=>d.i.da k (Yf _ f);have g1:=Ah P b9;have e6:a8.cell? ⟨c.heap.size+3,1,none⟩=some (.map (some (c.heap.size+1))):=d.i.rd.K.2.1;have b1:=U P;clear b9 P;go_wp21;refine bJ (λq=>q.cell? ⟨c.heap.size+3,1,none⟩=some (.map (some (c.heap.size+1)))) ?_ λd1=>?_
    .go_keep
    refine bf [0,1,2,3,4,7] ?_;iterate 6 (refine bi ?_)
    refine bg ?_;refine bI 5 λJ u=>?_;(go_simp;refine(yK _ _ _).mono ?_;rintro s a9 ⟨rfl,b8⟩;have d:=U (d.i.ae (ef [] b8));have e7:a9.cell? ⟨c.heap.size+3,1,none⟩=some (.map (some (c.heap.size+1))):=d.i.rd.K.2.1;obtain⟨c4,c2,c1⟩:=iA.aq d.i.rd.nm d.i.rd.cD.2.2.1 d8 b1.i λk f=>d.i.da k (Yf _ f);have d:=U (d.i.call (t':=()) (pI ..) (Rd.jk d.i.rd c1) trivial (by simp[Ad.a3]));dsimp only[Ad.a3,iE]at c2;clear b8 c1);refine u.out _ _ ?_ (λd1=>?_)
    .go_keep
    clear u J;refine nz ?_;refine pN 6 ?_;refine bL λJ u=>?_;go_simp;refine u.out _ _ ?_;clear u J;refine nz ?_;replace d:=show bF _ _ _ _ _ _ _ _ _ _ (fg a9 (c.heap.size+1) c4)from d.i
    generalize fg a9 (c.heap.size+1) c4=e4 at *
    have d:=U (d.A (.cells #[.iface (fC j) (Zp l)] 157))
    clear c2;go_wp2_with (at_builtin;refine ku Xa underlying99 (d.i.th (i:=1) rfl) [.iface (fC j) (Zp l)] (heap_alloc_new e4 _) Zy Zm (YV _) rfl ?_;intro e9 e8 g5 d9 a1 d2 d6)
    have d:=U (d.i.a4 (i:=1) rfl d9 a1 d2 rfl).au;obtain⟨a6,e2⟩:=K.i;refine⟨⟨a++[j],m++[l],L++B,_,n,U ?_,U ⟨by simp[a6],λh i o=>?_⟩,U (g.i.trans (by rw[show 69-(a++[j]).length=68-a.length by simp]))⟩,by simp[BM];omega⟩
    .rw[show xi (a++[j]) (m++[l])=xi a m++[.iface (fC j) (Zp l)] by unfold xi;rw[List.zip_append a6.symm,List.map_append];rfl]
     simpa using d.i
    .simp only[Yq,List.length_singleton]at i o;rcases Yj h a.length with v|v
     .rw[List.getElem_append_left v,List.getElem_append_left Zm];exact(e2 h v Zm).aZ λk f=>Ym _ f
     .obtain rfl:h=a.length:=Zm;simp only[List.getElem_concat_length,<-a6];exact b1.i.aZ λk f=>Yf _ f
end
def Qy(a:Nat)(b:Zw):Calls prog 43 #[.iface 143 (Zp a)] b λc d=>c=.returned (.iface 143 (Zp a))/\d=b:=by
 have e:=taY 143 a 20 143;go_in;go_wp2;go_ret;simp
def Xw(a:Nat):Zb:=
 if((a:Int)==0)then Jk else if((a:Int)==1)then Jb else if((a:Int)==2)then Jq else if((a:Int)==3)then JG else Js
def lN:Ty->Zb
 |.named b _=>b
 |.plain a=>Xw a
 |_=>[118,111,105,100]
section
variable {a d:Zo}{c b:Type}
structure dI where
 c4:Int
 dg:Int
 f0:Option (List Int)
 bD:Bool
inductive cX where
 |hole
 |call (dest:Nat)
 |ret
 |fin
 |jump (dest:Nat)
 |num (n:dI)
 |text (n:Int) (f:Bool)
 |struct (n:Int) (f:Bool)
 |array (n:Int) (f:Bool) (dest:Nat)
 |again
 |choice (n:dI) (ways:List (Int×Nat×Nat)) (other:Option (Nat×Nat))
def cR[DecidableEq b](d:List (b×c))(a:b)(v:c):List (b×c):=if a∈d.map (·.1)then d.map λe=>if e.1=a then (a,v)else e else d++[(a,v)]
theorem aaX[DecidableEq b](a:List (b×c))(d:b)(v:c):(cR a d v).map (·.1)=if d∈a.map (·.1)then a.map (·.1)else a.map (·.1)++[d]:=by
 unfold cR;split
 .rw[List.map_map];apply List.map_congr_left;grind
 simp
def uy[DecidableEq b]{a:List (b×c)}(e:(a.map (·.1)).Nodup)(d:b)(v:c):((cR a d v).map (·.1)).Nodup:=by
 grind [aaX]
structure bb where
 L:List cX
 b2:List (Zb×Nat)
 cZ:List (Zb×dI)
 aK:List (Nat×Zb)
def bh(x:cX)(a:bb):bb:={ a with L:=a.L++[x] }
def dD(b:Nat)(c:cX)(a:bb):bb:={ a with L:=a.L.set b c }
def kx(b:Zb)(a:bb):bb:={ a with L:=a.L++[.call 0],aK:=a.aK++[(a.L.length,b)] }
def Aa(a:Zb)(b:bb):bb:=bh .fin (kx a b)
def dy(a:Nat):dI:=if a=0 then ⟨-2147483648,2147483647,none,false⟩else if a=1 then ⟨0,4294967295,none,false⟩else if a=4 then ⟨0,1,none,false⟩else ⟨-9223372036854775808,9223372036854775807,none,true⟩
def sm:Ty->Prop
 |.arr _ _ _=>False
 |.opt _=>False
 |_=>True
def jm:Ty->Prop
 |.arr a _ _=>sm a
 |.opt a=>sm a
 |_=>True
def eb:Ty->bb->bb
 |.named f _,a=>kx f a
 |.plain e,a=>bh (.num (dy e)) a
 |.opaq c b,a=>bh (.text c b) a
 |.str c b,a=>bh (.text c b) a
 |.arr d c b,a=>dD a.L.length (.array c b ((eb d (bh .hole a)).L.length+1)) (bh .again (eb d (bh .hole a)))
 |.opt d,a=>dD a.L.length (.choice (dy 4) [(0,(eb d (bh .hole a)).L.length,0),(1,a.L.length+1,1)] none) (eb d (bh .hole a))
 |.void,a=>a
def yr:dI:=⟨0,0,none,false⟩
def jF(b:bb):Ty->dI
 |.named c _=>(aP b.cZ c).getD yr
 |.plain a=>dy a
 |_=>yr
def kU:Ty->Bool
 |.void=>true
 |_=>false
def si(a:aV)(b:bb):Nat×Nat:=(b.L.length,if kU a.H then 0 else 1)
def nG(a:aV)(b:bb):bb:=eb a.H b
def hr(a:List (Zb×Nat×Int)):dI:=⟨-2147483648,2147483647,if a=[]then none else some (a.map (·.2.2)),false⟩
def tw(b:List aV)(a:bb):bb:=b.foldl (λa c=>eb c.H a) (bh (.struct b.length true) a)
structure mb where
 s:bb
 c5:List (Int×Nat×Nat)
 d1:Option (Nat×Nat)
 b5:List Nat
def ck(a:mb)(b:List Int×aV):mb:=
 { s:=bh (.jump 0) (nG b.2 a.s),c5:=b.1.foldl (λc d=>cR c d (si b.2 a.s)) a.c5,d1:=if b.1=[]then some (si b.2 a.s)else a.d1,b5:=a.b5++[(nG b.2 a.s).L.length] }
def lB(c:List Nat)(a:bb):bb:=c.foldl (λa b=>dD b (.jump a.L.length) a) a
def sd(d:aV)(c:List (List Int×aV))(b:bb):bb:=
 let a:=c.foldl ck ⟨bh .hole b,[],none,[]⟩
 lB a.b5 (dD b.L.length (.choice (jF b d.H) a.c5 a.d1) a.s)
def ly(c:Zb)(b:Nat)(a:bb):bb:={ bh .ret a with b2:=cR a.b2 c b }
def hT(c:aD)(a:bb):bb:=match c with
 |.typedef c=>ly c.t a.L.length (eb c.H a)
 |.enum b _ d=>ly b a.L.length (bh (.num (hr d)) { a with cZ:=cR a.cZ b (hr d) })
 |.struct b _ d=>ly b a.L.length (tw d a)
 |.union b _ f e=>ly b a.L.length (sd f e a)
 |_=>a
def vU(a:bb):bb:=a.aK.foldl (λa b=>dD b.1 (.call ((aP a.b2 b.2).getD 0)) a) a
def tt:bb:=⟨[],[],[],[]⟩
def eK(p:bb×List (Zb×Nat))(a:aD):bb×List (Zb×Nat):=
 if(aP p.1.b2 (ce a).1).isSome then (Aa (ce a).1 p.1,cR p.2 (ce a).1 p.1.L.length)else p
def oM(b:Ty)(a:bb):bb:=bh .fin (eb b a)
def lS(a:Int):Int:=a % 4294967296
def mn(b:bb×List (Int×Nat×Nat))(a:gM):bb×List (Int×Nat×Nat):=
 (oM a.cv (oM a.c1 b.1),cR b.2 (lS a.num) (b.1.L.length,(oM a.c1 b.1).L.length))
def wE(v:go)(a:bb):bb×List (Int×Nat×Nat):=v.ao.foldl mn (a,[])
structure jn where
 lo:Int
 hi:Int
 vs:List (Int×List (Int×Nat×Nat))
def na(a:bb×jn)(v:go):bb×jn:=
 ((wE v a.1).1,⟨min a.2.lo (lS v.num),max a.2.hi (lS v.num),cR a.2.vs (lS v.num) (wE v a.1).2⟩)
def CB(a:List go)(b:bb):bb×jn:=
 a.foldl na (b,⟨(a.head?.map λv=>lS v.num).getD 0,(a.head?.map λv=>lS v.num).getD 0,[]⟩)
def hH(q:bb×List (Int×jn))(b:aD):bb×List (Int×jn):=match b with
 |.prog _ _ a c=>((CB a q.1).1,cR q.2 (lS c) (CB a q.1).2)
 |_=>q
def Hh(a:List aD):bb×List (Zb×Nat):=a.foldl eK (a.foldl (λc b=>hT b c) tt,[])
def CC(a:List aD):bb×List (Int×jn):=a.foldl hH ((Hh a).1,[])
def fi(a:List aD):List cX×List (Zb×Nat):=((vU (CC a).1).L,(Hh a).2)
def nS(a:List (Zv×Zv)):Obj:=.map (a.mapIdx λc b=>⟨b.1,b.2,c⟩).toArray a.length
abbrev xu(a:Nat):Zv:=Y a
def kL(b:List (Int×Nat×Nat)):Obj:=nS (b.map λa=>(Y a.1,.agg #[Y a.2.1,Y a.2.2]))
def oG(b:List (Zb×Nat)):Obj:=nS (b.map λa=>(.string ⟨a.1.toArray⟩,Y a.2))
def Iz(a:Zo)(v:Zv):Option (List Int)->Prop
 |none=>v=.slice none 0 0
 |some b=>b≠[]/\fk a 2 v b.length (b.map λc=>Value.int .i64 c)
def iN(a:Zo)(g:Zl)(b:dI):Prop:=∃c,g=[Y b.c4,Y b.dg,c,.bool b.bD]/\Iz a c b.f0/\∃d e f,c=.slice d e f
def pV(a:Zo)(v:Zv):Option (Nat×Nat)->Prop
 |none=>v=.pointer none
 |some c=>∃b,v=.pointer (some ⟨b,0,none⟩)/\(b,Obj.cells #[.int .i64 c.1,.int .i64 c.2] 394)∈a
def nC(a:Zo)(v:Zv):cX->Prop
 |.hole=>∃h k,v=.iface h k
 |.call d=>v=.iface 271 (.agg #[.int .i64 d])
 |.ret=>v=.iface 257 (.agg #[])
 |.fin=>v=.iface 397 (.agg #[])
 |.jump d=>v=.iface 396 (.agg #[.int .i64 d])
 |.num b=>∃c,v=.iface 247 (.agg c.toArray)/\iN a c b
 |.text b e=>v=.iface 379 (.agg #[.int .i64 b,.bool e])
 |.struct b e=>v=.iface 387 (.agg #[.int .i64 b,.bool e])
 |.array b e d=>v=.iface 449 (.agg #[.int .i64 b,.bool e,.int .i64 d])
 |.again=>v=.iface 450 (.agg #[])
 |.choice b j i=>∃c f g,v=.iface 392 (.agg (c++[.map (some f),g]).toArray)/\iN a c b/\(f,kL j)∈a/\pV a g i
def fk.aS(n:∀o∈a,o∈d){c v e f}(b:fk a c v e f):fk d c v e f:=by
 rcases b with b|⟨i,g,h,j,k,l,m⟩
 .exact Y8 b
 .exact Ya ⟨i,g,h,j,k,n _ l,m⟩
def iN.aS(j:∀l∈a,l∈d){e c}(g:iN a e c):iN d e c:=by
 obtain⟨k,h,b,i⟩:=g;refine⟨k,h,?_,i⟩;cases f:c.f0 with
 |none=>rw[f]at b;exact b
 |some m=>rw[f]at b;exact⟨b.1,b.2.aS j⟩
def nC.aS(b:∀r∈a,r∈d){v h}(e:nC a v h):nC d v h:=by
 cases h with
 |num o=>obtain⟨c,f,g⟩:=e;exact⟨c,f,g.aS b⟩
 |choice o t p=>
  obtain⟨c,n,q,f,g,k,i⟩:=e;refine⟨c,n,q,f,g.aS b,b _ k,?_⟩;cases p with
  |none=>exact i
  |some s=>obtain⟨j,l,m⟩:=i;exact⟨j,l,b _ m⟩
 |_=>exact e
def nC.md{v x}(b:nC a v x):∃c g,v=.iface c g:=by
 cases x with
 |hole=>exact b
 |num f=>obtain⟨d,e,_⟩:=b;simp_all
 |choice f k i=>obtain⟨d,h,j,e,_⟩:=b;simp_all
 |_=>exact⟨_,_,b⟩
end
section
def eo(b:List aD):bb:=b.foldl (λs a=>hT a s) tt
theorem zb(b:List aD)(a:aD):eo (b++[a])=hT a (eo b):=by simp[eo]
def li(s:bb):Prop:=∀a∈s.aK,a.1<s.L.length
variable {s : bb}
def nH(a:li s)(d:cX):li (bh d s):=λc b=>by
 have:=a c b;simp[bh];omega
def Bg(a:li s)(c:Nat)(e:cX):li (dD c e s):=λd b=>by
 simp only[dD,YF];exact a d b
def Kt(b:li s)(d:Zb):li (kx d s):=λc a=>by
 simp only[kx,Yn,Yc,Yq,YC,List.length_nil]at a ⊢;rcases a with a|rfl
 .have:=b c a;omega
 .simp
def za:∀(c:Ty) (s:bb),li s->li (eb c s):=by
 intro c;induction c with
 |plain h=>intro s a;exact nH a _
 |named i g=>intro s a;exact Kt a _
 |opaq e d=>intro s a;exact nH a _
 |str e d=>intro s a;exact nH a _
 |arr f e d b=>intro s a;exact Bg (nH (b _ (nH a _)) _) _ _
 |opt f b=>intro s a;exact Bg (b _ (nH a _)) _ _
 |void=>intro s a;exact a
def ug{h d:Type}(b:d->bb)(g:d->h->d)(i:∀a e,li (b a)->li (b (g a e))):∀(c:List h) (a:d),li (b a)->li (b (c.foldl g a)):=by
 intro c;induction c with
 |nil=>intro a f;exact f
 |cons e c j=>intro a f;exact j _ (i a e f)
def Tq(h:aD)(s:bb)(b:li s):li (hT h s):=by
 have f:∀{m:bb} (l:Zb) (a:Nat),li m->li (ly l a m):=λl a p=>nH p .ret;cases h with
 |const a c o=>exact b
 |prog a c o g=>exact b
 |typedef h=>exact f _ _ (za _ _ b)
 |enum j a i=>exact f _ _ (nH (s:={ s with cZ:=cR s.cZ j (hr i) }) b _)
 |struct j a i=>exact f _ _ (ug (λk=>k) (λs (e:aV)=>eb e.H s) (λc (e:aV) d=>za e.H c d) i _ (nH b _))
 |union j a q n=>exact f _ _ (ug (λk=>k) (λs (g:Nat)=>dD g (.jump s.L.length) s) (λc g d=>Bg d g _) _ _ (Bg (ug mb.s ck (λc e d=>nH (za e.2.H _ d) _) n _ (nH b _)) _ _))
def acQ{ds}:li (CC ds).1:=by
 refine ug Prod.fst hH (λc b a=>?_) ds _ (ug Prod.fst eK (λc b a=>?_) ds _ (ug (λf=>f) (λs (b:aD)=>hT b s) (λc b a=>Tq b c a) ds _ (λi d=>by simp[tt]at d)))
 .cases b with
  |prog g h e j=>exact ug Prod.fst na (λc v a=>ug Prod.fst mn (λc k a=>nH (za _ _ (nH (za _ _ a) _)) _) v.ao _ a) e _ a
  |_=>exact a
 .unfold eK;split
  .exact nH (Kt a _) _
  .exact a
end
section
variable {T et kt:TypeId}{d:TypeDesc}{b a:Type}
section
variable {P : Program} {w : Zw}
def aet(t:P.underlying T=some (.map kt et))(m:P.underlying kt=some d){a}(n:IsKey d a)(s:Instr.keyThatStays a a=pure a){f:Nat}{c h}
  (l:w.heap[f]?=some (.map c h)) (q:∀g∈c.toList,IsKey d g.key) (u:∃g∈c.toList,g.key=a) (v:Zv) :
  ∃(e:Nat) (b:MapEntry),c.toList[e]?=some b/\b.key=a/\
   (Instr.mapUpdate T (.map (some f)) a v).run P w=.ok () (fg w f (.map (c.modify e λb=>{ b with key:=a,val:=v }) h)):=by
 have p:=λo=>MapKept.run_checkKey (w:=w) m n o 9999;rcases findNow_spec n c.toList 0 q with⟨i,j⟩|⟨e,b,i,j,k⟩
 .grind
 .refine⟨e,b,j,k,?_⟩;have r:c[e]?=some b:=Zu;simp[Instr.mapUpdate,Instr.findKey,run_underlying t,run_underlying m,MapKept.run_getObj_map l,p,i,r,k,s,MapKept.run_setObj_map _ l,Result.andThen]
def Hi(a:Za):Instr.keyThatStays (.string a) (.string a)=pure (.string a):=by
 unfold Instr.keyThatStays;rw[Y9 (by show (a==a)=true;simp_all[bytes_beq])]
def afe(a:Int):Instr.keyThatStays (Y a) (Y a)=pure (Y a):=by
 unfold Instr.keyThatStays;rw[Y9 (by show ((IntKind.i64==IntKind.i64)&&(a==a))=true;simp)]
def vZ[DecidableEq a](y:P.underlying T=some (.map kt et))(t:P.underlying kt=some d)(g:a->Zv)(i:b->Zv)(r:∀c,IsKey d (g c))(C:∀c,Instr.keyThatStays (g c) (g c)=pure (g c))(I:∀k q,g k=g q->k=q)
  {j:Nat} {e:List (a×b)} (s:w.heap[j]?=some (nS (e.map λf=>(g f.1,i f.2)))) (z:(e.map (·.1)).Nodup) (c:a) (v:b) :
  (Instr.mapUpdate T (.map (some j)) (g c) (i v)).run P w=.ok () (fg w j (nS ((cR e c v).map λf=>(g f.1,i f.2)))):=by
 have u:∀H∈((e.map λf=>(g f.1,i f.2)).mapIdx λh f=>(⟨f.1,f.2,h⟩:MapEntry)).toArray.toList,IsKey d H.key:=by
  grind
 by_cases x:c∈e.map (·.1)
 .obtain⟨f,F,R⟩:=YE.1 x;obtain⟨h,J,rfl⟩:=List.getElem_of_mem F;obtain⟨o,A,l,B,n⟩:=aet y t (r c) (C c) s u ⟨⟨g e[h].1,i e[h].2,h⟩,by
    grind,Zg⟩ (i v)
  rw[n];simp only[List.toList_toArray,List.getElem?_mapIdx]at l;have K:o<e.length:=by
   grind
  rw[Yd Zg]at l;simp at l;subst l;simp only at B;have D:h=o:=by
   have G:(e.map (·.1))[h]' Zg=(e.map (·.1))[o]' Zg:=Zg;exact xB z _ _ _ _ G
  subst D;refine Yo (λp=>Result.ok () (fg w j p)) ?_;unfold nS cR;rw[Y9 x];simp only[YU];refine Yo (λk=>Obj.map k _) ?_;apply Array.ext';simp only[Array.toList_modify];apply List.ext_getElem
  .simp
  .intro m M N;have L:m<e.length:=Zg;by_cases E:h=m
   .grind
   .have O:¬e[m].1=c:=λA=>E (xB z h m Zg Zg Zg);grind
 .have n:=CD y t (r c) s u (by
   grind) (i v)
  rw[n];refine Yo (λp=>Result.ok () (fg w j p)) ?_;unfold nS cR;grind
def bT[DecidableEq a](d:List (a×b))(c:a):Option b:=(d.find? λe=>e.1==c).map (·.2)
def aal[DecidableEq a]{d:List (a×b)}{c:a}(f:∀e∈d,e.1≠c):bT d c=none:=by
 grind [bT]
theorem aam[DecidableEq a]{c:List (a×b)}{e:a}(g:(c.map (·.1)).Nodup){d:a×b}(h:d∈c)(f:d.1=e):bT c e=some d.2:=by
 induction c with
 |nil=>grind
 |cons j k i=>
  grind [bT]
def zu(c:List (Zb×b))(a:Zb):aP c a=bT c a:=by
 unfold aP bT;grind
def BU[DecidableEq a](x:P.underlying T=some (.map kt et))(s:P.underlying kt=some d)(e:a->Zv)(g:b->Zv)(q:∀i,IsKey d (e i))(C:∀m n,e m=e n->m=n)
  {l:Nat} {f:List (a×b)} (r:w.heap[l]?=some (nS (f.map λc=>(e c.1,g c.2)))) (F:(f.map (·.1)).Nodup) {z} (y:(zeroValue et).run P w=.ok z w) (i:a) (j:Bool) :
  (Instr.lookup T (.map (some l)) (e i) j).run P w=.ok (match bT f i with
   |some v=>if j then .tuple #[g v,.bool true]else g v
   |none=>if j then .tuple #[z,.bool false]else z) w:=by
 have t:∀A∈((f.map λc=>(e c.1,g c.2)).mapIdx λh c=>(⟨c.1,c.2,h⟩:MapEntry)).toArray.toList,IsKey d A.key:=by
  grind
 rcases zv x s (q i) r t y j with⟨k,o⟩|⟨E,p,k,o,B⟩
 .rw[aal (λc u p=>?_),o];obtain⟨h,D,rfl⟩:=List.getElem_of_mem u;refine k ⟨e f[h].1,g f[h].2,h⟩ ?_ Zg;grind
 .simp only[List.toList_toArray,List.getElem?_mapIdx]at k;grind [aam]
end
def yh(a b:Zb)(c:(Zs a)=Zs b):a=b:=by
 simp_all
def LL(a b:Int)(c:(Y a)=Y b):a=b:=by
 simp_all
end
section
variable {T:TypeId}{l k:Type}
theorem FV{f:Type}[DecidableEq k](b:l->f)(c:List (k×l))(d:k)(v:l):(cR c d v).map (λa=>(a.1,b a.2))=cR (c.map λa=>(a.1,b a.2)) d (b v):=by
 have e:(c.map λa=>(a.1,b a.2)).map (·.1)=c.map (·.1):=Zq;unfold cR;rw[e];split
 .rw[List.map_map,List.map_map];apply List.map_congr_left;grind
 simp
def FW[DecidableEq k]{c b v}{a:k×l}(d:a∈cR c b v):a∈c\/a=(b,v):=by
 unfold cR at d;grind
def aak[DecidableEq k]{c:List (k×l)}{b:k}{v:l}(a:bT c b=some v):∃d∈c,d.1=b/\d.2=v:=by
 unfold bT at a;rw[Option.map_eq_some_iff]at a;grind
structure kO where
 C:Nat
 B:Nat
 E:Nat
abbrev yZ(a:Nat×Zb):Zl:=[Y a.1,.string ⟨a.2.toArray⟩]
def DQ(bs:Zo)(v:Zv)(b:dI):Prop:=∃a,v=.agg a.toArray/\iN bs a b
structure bG(s:bb)(n:Nat):Prop where
 L:s.L.length+n<1000000
 aK:s.aK.length<=s.L.length
abbrev uh(a:kO)(g ks:Zv)(s:bb)(e:List (cX×Zv))(et:List (Zb×dI×Zv))(bs:Zo):List Th:=
 .obj a.C (.cells #[g,.map (some a.B),.map (some a.E),ks] 167)::.row 273 1 g s.L.length (e.map (·.2))::.row 269 2 ks s.aK.length (s.aK.flatMap yZ)::.obj a.B (oG s.b2)::.obj a.E (nS (et.map λb=>(.string ⟨b.1.toArray⟩,b.2.2)))::bs.map λb=>.obj b.1 b.2
structure iz(c:Zw)(a:kO)(F:List Th)(bs:Zo)(s:bb)(g ks:Zv)(e:List (cX×Zv))(et:List (Zb×dI×Zv))(w:Zw):Prop where
 bS:bA (F++uh a g ks s e et bs) c w
 g2:(s.b2.map (·.1)).Nodup
 g4:(et.map (·.1)).Nodup
 g9:s.cZ=et.map λp=>(p.1,p.2.1)
 hd:∀p∈et,DQ bs p.2.2 p.2.1
 g3:s.L=e.map (·.1)
 g6:∀p∈e,nC bs p.2 p.1
def Cm(c:Zw)(a:kO)(F:List Th)(bs:Zo)(s:bb)(w:Zw):Prop:=∃h g ks e et,(∀b∈bs,b∈h)/\iz c a F h s g ks e et w
def pa(c:Zw)(a:kO)(F:List Th)(bs:Zo)(s:bb)(v:Zv)(b:Ending)(d:Zw):Prop:=b=.returned v/\Cm c a F bs s d
section
variable {c w w' : Zw} {a : kO} {F m : List Th} {bs h : List (Nat × Obj)} {s : bb} {i : Nat} {t t' : Th} {g ks : Zv} {e : List (cX × Zv)} {et : List (Zb × dI × Zv)} {N : List Nat} {b : Nat} {o : Obj}
def hS{b args v}{Q:Ending->Zw->Prop}(d:Calls prog b args w (pa c a F bs s v))(ok:∀w',af (Cm c a F bs s w')->Q (.returned v) w'):Calls prog b args w Q:=d.mono λh g f=>by
 obtain⟨rfl,e⟩:=f;exact ok g e
theorem iz.aw(b:iz c a F bs s g ks e et w):w.heap[a.C]?=some (.cells #[g,.map (some a.B),.map (some a.E),ks] 167):=b.bS.b0 (i:=0) rfl
def iz.row(b:iz c a F bs s g ks e et w):w.ownsRow 0 273 1 g s.L.length (e.map (·.2)):=b.bS.b0 (i:=1) rfl
def iz.iD(b:iz c a F bs s g ks e et w):w.ownsRow 0 269 2 ks s.aK.length (s.aK.flatMap yZ):=b.bS.b0 (i:=2) rfl
def iz.cm(d:iz c a F bs s g ks e et w):Cm c a F bs s w:=⟨bs,g,ks,e,et,λ_ b=>b,d⟩
def Cm.fM(i:Cm c a F bs s w)(f:∀b,bA (F++b) c w->bA (m++b) c w'):Cm c a m bs s w':=by
 obtain⟨h,g,ks,e,et,j,d⟩:=i;exact⟨h,g,ks,e,et,j,{ d with bS:=f _ d.bS }⟩
def Cm.aS(f:Cm c a F h s w)(i:∀d∈bs,d∈h):Cm c a F bs s w:=by
 obtain⟨b,g,ks,e,et,j,l⟩:=f;exact⟨b,g,ks,e,et,λd k=>j d (i d k),l⟩
def Cm.ae(b:Cm c a F bs s w)(d:ap [] w w'):Cm c a F bs s w':=b.fM λ_ e=>e.ae d
theorem Cm.ag(b:Cm c a F bs s w):Cm c a F bs s w.drew:=b.ae (ar [] w).ag
def Cm.cU(b:Cm c a F bs s w)(o:Obj):Cm c a F bs s (w.alloc o):=b.ae ((ar [] w).A o)
def Cm.A(b:Cm c a F bs s w)(o:Obj):Cm c a (.obj w.heap.size o::F) bs s (w.alloc o):=b.fM λ_ d=>d.A o
def Cm.au(b:Cm c a (t::F) bs s w):Cm c a F bs s w:=b.fM λ_ d=>d.au
def Cm.nil(e:Cm c a F bs s w)(b:TypeId)(d:Nat):Cm c a (.row b d (.slice none 0 0) 0 []::F) bs s w:=e.fM λ_ f=>f.nil b d
def Cm.b6(e:Cm c a F bs s w)(f:F[i]?=some t)(d:ap N w w'/\(∀b∈N,t.aH=some b)/\t'.At w'/\∀b,t'.aH=some b->t.aH=some b\/w.heap.size<=b):Cm c a (F.set i t') bs s w':=e.fM λ_ g=>g.jL f d.1 d.2.1 d.2.2.1 d.2.2.2
def Cm.th(b:Cm c a F bs s w)(d:F[i]?=some t):t.At w:=by
 obtain⟨_,_,_,_,_,_,e⟩:=b;exact e.bS.y _ (Yf _ (Yh d))
def Cm.ob(d:Cm c a F bs s w)(e:F[i]?=some (.obj b o)):w.heap[b]?=some o:=d.th e
theorem Cm.aX(e:Cm c a F bs s w)(f:F[i]?=some (.obj b o))(d:Obj):Cm c a (F.set i (.obj b d)) bs s (fg w b d):=e.b6 f (Gp (e.th f) d)
theorem Cm.aq{e j}(d:Cm c a F bs s w)(f:F[i]?=some (.obj b (.cells e T)))(v:Zv):Cm c a (F.set i (.obj b (.cells (e.set! j v) T))) bs s (w.setCell ⟨b,j,none⟩ v):=d.b6 f (qz (d.th f) v)
theorem iz.aq{h j}(f:iz c a F bs s g ks e et w)(k:F[i]?=some (.obj b (.cells h T)))(v:Zv):iz c a (F.set i (.obj b (.cells (h.set! j v) T))) bs s g ks e et (w.setCell ⟨b,j,none⟩ v):=
 have d:=qz (f.bS.y _ (Yf _ (Yh k))) v
 { f with bS:=f.bS.jL k d.1 d.2.1 d.2.2.1 d.2.2.2 }
def Cm.a4{e}{f y d b l j:Nat}{v z n}{g h:Zw}(o:Cm c a F bs s w)(m:F[i]?=some (.row e f v y z))(t:ap [] w g)(u:h.ownsRow 0 e f (.slice (some ⟨b,0,none⟩) d l) d n)(r:g.grownBy h v.ownBlock)(q:v.ownBlock=some b\/b=j)(p:g.heap.size=j):Cm c a (F.set i (.row e f (.slice (some ⟨b,0,none⟩) d l) d n)) bs s h:=o.fM λk x=>Ef (X:=k) m▸x.a4 (AU m) t u r q p
def Cm.kp(b:Cm c a F bs s w):ap [] c w:=by
 obtain⟨_,_,_,_,_,_,d⟩:=b;exact d.bS.fr
def Cm.e8(e:Cm c a F bs s w)(d:c.heap[b]?=some o):w.heap[b]?=some o:=(e.kp.ak _ (ay d) Zq).trans d
def Cm.c6(k:Cm c a (.obj b o::F) bs s w):Cm c a F ((b,o)::bs) s w:=by
 obtain⟨h,g,ks,e,et,p,i⟩:=k;have j:∀d∈h,d∈(b,o)::h:=λd f=>Y5 _ f;refine⟨(b,o)::h,g,ks,e,et,λd f=>?_,⟨?_,i.g2,i.g4,i.g9,λd f=>?_,i.g3,λd f=>(i.g6 d f).aS j⟩⟩
 .rcases Yg.1 f with rfl|f
  .exact Yb
  .exact j d (p d f)
 .exact i.bS.gX (by simpa[uh]using (List.perm_middle (l₁:=F++(uh a g ks s e et h).take 5) (a:=Th.obj b o) (l₂:=h.map λd=>.obj d.1 d.2)).symm)
 .obtain⟨l,m,n⟩:=i.hd d f;exact⟨l,m,n.aS j⟩
def Cm.gL{d n f v}{l:Zl}(g:Cm c a (.row d n v f l::F) bs s w)(u:f<=1000):∃h,Cm c a F h s w/\fk h d v f l/\∀y∈bs,y∈h:=by
 have e:w.ownsRow 0 d n v f l:=g.th (i:=0) rfl;obtain⟨m,⟨rfl,rfl⟩|⟨k,o,j,rfl,-,p,q,-,-,r⟩⟩:=e
 .exact⟨bs,g.au,Y8 ⟨rfl,rfl,Yv.1 (by simpa using m)⟩,λ_ e=>e⟩
 .have x:Cm c a (.obj k (.cells j d)::F) bs s w:=g.b6 (i:=0) (t':=.obj k (.cells j d)) (N:=[]) rfl ⟨ar [] w,Zq,p,λb t=>Y8 t⟩;exact⟨_,x.c6,Ya ⟨k,o,j,rfl,⟨q,u⟩,Yb,by rw[m];exact r⟩,λ_ e=>Y5 _ e⟩
def Cm.K(f:Cm c a F bs s w):(∃ad d,w.cell? (Zd a.C 0)=some (.slice ad s.L.length d))/\w.cell? (Zd a.C 1)=some (.map (some a.B))/\w.cell? (Zd a.C 2)=some (.map (some a.E))/\(∀i,w.frozen? ⟨a.C,i,none⟩=false)/\a.C<w.heap.size:=by
 obtain⟨_,g,ks,e,et,_,b⟩:=f;obtain⟨ad,d,rfl⟩:=aW b.row;exact⟨⟨ad,d,aC b.aw rfl⟩,aC b.aw rfl,aC b.aw rfl,bl b.aw,ay b.aw⟩
def iz.hs{x v}(d:iz c a F bs s g ks e et w)(u:nC bs v x)(A:i<s.L.length):∃b f,g=.slice (some ⟨b,0,none⟩) s.L.length f/\s.L.length<=f/\w.frozen? ⟨b,i,none⟩=false/\(∃y,w.cell? (Zd b i)=some y)/\b<w.heap.size/\iz c a F bs (dD i x s) g ks (e.set i (x,v)) et (w.setCell ⟨b,i,none⟩ v):=by
 have t:=d.row.1;rcases d.row.2 with⟨rfl,z⟩|⟨b,f,k,rfl,o,h,l,p,q,r⟩
 .omega
 .refine⟨b,f,rfl,l,by simp[World.frozen?,h],⟨k[i]' Zm,by simp[World.cell?,h]⟩,ay h,⟨?_,d.g2,d.g4,d.g9,d.hd,by simp[dD,d.g3,List.map_set],λm j=>?_⟩⟩
  .have:=d.bS.gf (i:=1) (N:=[b]) (a':=.row 273 1 (.slice (some ⟨b,0,none⟩) s.L.length f) s.L.length ((e.set i (x,v)).map (·.2))) rfl ((ar [b] w).a6 (p:=⟨b,i,none⟩) Zq v) (by simp[Th.aH,Value.ownBlock]) ⟨by simpa using t,Ya ⟨b,f,k.setIfInBounds i v,rfl,o,ci h v,l,p,by simpa using q,by rw[Array.toList_setIfInBounds,List.take_set,r];simp[List.map_set]⟩⟩ λ_ n=>Y8 n;simpa[dD,uh]using this
  .rcases List.mem_or_eq_of_mem_set j with j|rfl
   .exact d.g6 m j
   .exact u
def Cm.hs{x v}(k:Cm c a F bs s w)(q:nC bs v x)(p:i<s.L.length):∃b d,w.cell? (Zd a.C 0)=some (.slice (some ⟨b,0,none⟩) s.L.length d)/\s.L.length<=d/\w.frozen? ⟨b,i,none⟩=false/\(∃t,w.cell? (Zd b i)=some t)/\b<w.heap.size/\Cm c a F bs (dD i x s) (w.setCell ⟨b,i,none⟩ v):=by
 obtain⟨h,g,ks,e,et,f,j⟩:=k;obtain⟨b,d,rfl,l,m,n,o,r⟩:=j.hs (q.aS f) p;exact⟨b,d,aC j.aw rfl,l,m,n,o,h,_,_,_,_,f,r⟩
def Cm.m6(m:Cm c a F bs s w)(j:Zb)(f:Nat):∃w',(Instr.mapUpdate 103 (.map (some a.B)) (Zs j) (Y f)).run prog w=.ok () w'/\Cm c a F bs { s with b2:=cR s.b2 j f } w':=by
 obtain⟨h,g,ks,e,et,r,b⟩:=m;have l:(Th.obj a.B (oG s.b2)).At w:=b.bS.b0 (i:=3) rfl;obtain⟨n,o,p,q⟩:=Gp l (oG (cR s.b2 j f));exact⟨_,vZ (P:=prog) (T:=103) (kt:=9) (et:=3) (d:=.string) Zk Zk (λk:Zb=>Zs k) (λk:Nat=>Y k) (λ_=>trivial) (λ_=>Hi _) yh l b.g2 j f,h,g,ks,e,et,r,b.bS.gf (i:=3) rfl n o p q,uy b.g2 ..,b.g4,b.g9,b.hd,b.g3,b.g6⟩
def Cm.kk(m:Cm c a F bs s w)(f:Zb)(b:Bool):(Instr.lookup 103 (.map (some a.B)) (Zs f) b).run prog w=.ok (match aP s.b2 f with
   |some v=>if b then .tuple #[.int .i64 v,.bool true]else .int .i64 v
   |none=>if b then .tuple #[.int .i64 0,.bool false]else .int .i64 0) w:=by
 obtain⟨h,g,ks,e,et,p,l⟩:=m;have n:(Th.obj a.B (oG s.b2)).At w:=l.bS.b0 (i:=3) rfl;rw[zu];have k:=BU (P:=prog) (T:=103) (kt:=9) (et:=3) (d:=.string) Zk Zk (λj:Zb=>Zs j) (λj:Nat=>Y j) (λ_=>trivial) yh n l.g2 (z:=Y 0) Zk f b;cases o:bT s.b2 f<;>(rw[o]at k;exact k)
theorem If(j:iz c a F bs s g ks e et w)(b:Zb):(Instr.lookup 164 (.map (some a.E)) (Zs b) false).run prog w=.ok (match bT et b with
  |some v=>v.2
  |none=>.agg #[.int .i64 0,.int .i64 0,.slice none 0 0,.bool false]) w:=by
 have l:(Th.obj a.E (nS (et.map λk=>(.string ⟨k.1.toArray⟩,k.2.2)))).At w:=j.bS.b0 (i:=4) rfl;have h:=BU (P:=prog) (w:=w) (T:=164) (kt:=9) (et:=247) (d:=.string) Zk Zk (λf:Zb=>Zs f) (λf:dI×Zv=>f.2) (λ_=>trivial) yh l j.g4 (z:=.agg #[Y 0,Y 0,.slice none 0 0,.bool false]) Zk b false;cases m:bT et b<;>(rw[m]at h;exact h)
def Cm.mM(j:Cm c a F bs s w)(b:Zb):∃h v,(∀i∈bs,i∈h)/\Cm c a F h s w/\DQ h v ((aP s.cZ b).getD yr)/\∀f,ap [] w f->(Instr.lookup 164 (.map (some a.E)) (Zs b) false).run prog f=.ok v f:=by
 obtain⟨h,g,ks,e,et,k,d⟩:=j;refine⟨h,_,k,d.cm,?_,λf o=>If { d with bS:=d.bS.ae o } b⟩;have l:aP s.cZ b=(bT et b).map (·.1):=by
  rw[zu,d.g9];unfold bT;rw[List.find?_map];simp only[Option.map_map];rfl
 rw[l];cases m:bT et b with
 |none=>exact⟨[.int .i64 0,.int .i64 0,.slice none 0 0,.bool false],rfl,_,rfl,rfl,_,_,_,rfl⟩
 |some p=>
  obtain⟨i,n,_,rfl⟩:=aak m;exact d.hd i n
end
def fk.hm{bs}{w:Zw}{l v a k}(d:fk bs l v a k)(i:∀j∈bs,w.heap[j.1]?=some j.2):∃ad b,v=.slice ad a b/\a<=1000/\af (0<a->∃c,ad=some ⟨c,0,none⟩/\a<=b/\∀(f:Zw),ap [] w f->∀(e:Nat) (g:Zv),k[e]?=some g->f.cell? (Zd c e)=some g):=by
 rcases d with⟨rfl,rfl,_⟩|⟨c,b,r,rfl,⟨m,n⟩,h,o⟩
 .exact⟨none,0,rfl,Zm,λd=>absurd d Zm⟩
 .exact⟨_,b,rfl,n,λ_=>⟨c,rfl,m,λf p e g q=>oK ((p.ak _ (ay (i _ h)) Zq).trans (i _ h)) o q⟩⟩
end
section
variable {d:Bool}{rs:iy}{a:Ty}{b c τ:Type}
def eQ(Q:b->Prop)(c:PM b):Prop:=∀d a e,c d=.ok (a,e)->Q a
def hE(Q:b->Prop)(d:PX τ b):Prop:=∀a f c e g,d a f=.ok (c,e,g)->Q c
def qZ(c:τ->Prop)(f:PX τ b):Prop:=∀a g e d h,c a->f a g=.ok (e,d,h)->c d
theorem dV{Q:b->Prop}{a}(d:Q a):eQ Q (ret a):=by
 intro f c g e;grind [ret]
theorem lh{Q:b->Prop}(c a:Nat):eQ Q (hZ c a):=by
 intro f d g e;grind [hZ]
def nf{Q R f}{g:b->PM c}(i:eQ R f)(h:∀a,R a->eQ Q (g a)):eQ Q (aN f g):=by
 intro k l n d;cases e:f k with
 |error m=>rw[dv e]at d;cases d
 |ok j=>obtain⟨a,o⟩:=j;rw[bK e]at d;exact h a (i _ _ _ e) _ _ _ d
def ahO(a:PM b):eQ (λ_=>True) a:=λ_ _ _ _=>trivial
theorem ba{Q e}{d:b->PM c}(f:∀a,eQ Q (d a)):eQ Q (aN e d):=nf (ahO e) λa _=>f a
def dU{Q:b->Prop}{a c:PM b}(e:eQ Q a)(f:eQ Q c):eQ Q (if d then a else c):=Zg
def ka{Q:b->Prop}{c}(e:Q c):hE Q (eJ (τ:=τ) c):=by
 intro a h d g i f;grind [eJ]
def sj{Q:b->Prop}{c:PM b}(f:eQ Q c):hE Q (lift (τ:=τ) c):=by
 intro a h j l m e;cases d:c h with
 |error k=>simp_all[im]
 |ok g=>obtain⟨i,n⟩:=g;rw[gF d]at e;cases e;exact f _ _ _ d
def nh{Q R g}{h:b->PX τ c}(j:hE R g)(i:∀d,R d->hE Q (h d)):hE Q (aQ g h):=by
 intro a l m o q e;cases f:g a l with
 |error n=>rw[fc f]at e;cases e
 |ok k=>obtain⟨d,p,r⟩:=k;rw[dZ f]at e;exact i d (j _ _ _ _ _ f) _ _ _ _ _ e
def ah6(a:PX τ b):hE (λ_=>True) a:=λ_ _ _ _ _ _=>trivial
def eX{Q e}{d:b->PX τ c}(f:∀a,hE Q (d a)):hE Q (aQ e d):=nh (ah6 e) λa _=>f a
def mx{Q:b->Prop}{a c:PX τ b}(e:hE Q a)(f:hE Q c):hE Q (if d then a else c):=Zg
def Dz{ρ:Type}{Q:b->Prop}{c:PX τ b}(f:hE Q c):hE Q (kG (ρ:=ρ) c):=by
 rintro⟨a,l⟩ h i m o e;cases d:c a h with
 |error k=>simp_all[xG]
 |ok g=>obtain⟨j,n,p⟩:=g;rw[xH d]at e;cases e;exact f _ _ _ _ _ d
theorem BG{I g}{h:b->PX τ c}(k:qZ I g)(i:∀e,qZ I (h e)):qZ I (aQ g h):=by
 intro a m n p r j d;cases f:g a m with
 |error o=>rw[fc f]at d;cases d
 |ok l=>obtain⟨e,q,s⟩:=l;rw[dZ f]at d;exact i e _ _ _ _ _ (k _ _ _ _ _ j f) d
theorem zr{d}(c:PM b):qZ d (lift (τ:=τ) c):=by
 intro a h j m n l f;cases e:c h with
 |error k=>simp_all[im]
 |ok g=>obtain⟨i,o⟩:=g;rw[gF e]at f;simp_all
theorem FB{c}(d:b):qZ c (eJ (τ:=τ) d):=by
 intro a i e h j f g;grind [eJ]
theorem Xm{b:τ->Prop}(d:Za)(rH:Nat){run:PX τ Unit}(e:qZ b run):∀(a c:Nat),qZ b (mi d rH run a c):=by
 intro a;induction a<;>grind [zr,mi,BG,FB]
def LN{a:τ->Prop}(b:Za)(rH:Nat){run:PX τ Unit}(c:qZ a run):qZ a (ih b rH run):=by
 grind [ih,BG,zr,Xm]
def Qk{I:τ->Prop}{b:PX τ Unit}(e:qZ I b){a:τ}(f:I a):eQ I (lL b a):=by
 intro h i m d;cases c:b a h with
 |error k=>simp_all[zT]
 |ok g=>obtain⟨j,l,n⟩:=g;rw[zU c]at d;cases d;exact e _ _ _ _ _ f c
def Ql{Q:b->Prop}{c:PX τ b}(g:hE Q c)(a:τ):eQ (λd=>Q d.1) (kH c a):=by
 intro h i m f;cases e:c a h with
 |error k=>simp_all[rT]
 |ok d=>obtain⟨j,l,n⟩:=d;rw[CQ e]at f;cases f;exact g _ _ _ _ _ e
def Qh{Q:b->Prop}{a:PX Unit b}(e:hE Q a):eQ Q (lx a):=by
 intro g h l d;cases c:a () g with
 |error j=>simp_all[Ek]
 |ok f=>obtain⟨i,k,m⟩:=f;rw[El c]at d;cases d;exact e _ _ _ _ _ c
def hB:Ty->Prop
 |.plain a=>a<=4
 |.named _ _=>True
 |_=>False
def lU:Ty->Prop
 |.plain b=>b<=4
 |.named _ _=>True
 |.opaq _ _=>True
 |.str _ _=>True
 |.arr a _ _=>hB a
 |.opt a=>hB a
 |.void=>False
def uV(a:Ty):Prop:=lU a\/a=.void
def IY(b:hB a):sm a:=by cases a<;>simp[hB,sm]at *
theorem hB.ie(b:hB a):lU a:=by cases a<;>simp[hB,lU]at *<;>exact b
def lU.e6(b:lU a):jm a:=by
 cases a with
 |arr c e d=>exact IY b
 |opt c=>exact IY b
 |_=>trivial
def uV.e6(b:uV a):jm a:=by
 rcases b with b|rfl
 .exact b.e6
 .trivial
def Ic(a:Za):eQ hB (sa a):=by
 unfold sa;refine ba λb=>?_;unfold lQ;refine dU (dV trivial) (dU (dV (by simp[hB])) (dU (dV (by simp[hB])) (dU (dV (by simp[hB])) (dU ?_ (lh _ _)))));exact ba λc=>dU (dV (by simp[hB])) (ba λ_=>dV (by simp[hB]))
def ah0(b:Za):eQ (λa:Ty×(Int->Bool)=>hB a.1) (qK b):=by
 unfold qK;refine ba λc=>?_;unfold lM;exact dU (ba λ_=>dV trivial) (dU (dV (by simp[hB])) (dU (ba λ_=>dV (by simp[hB])) (dU (dV (by simp[hB])) (lh _ _))))
def Ia(d:Za)(h:fj τ):hE (λb=>lU b.H) (il d h):=by
 unfold il;refine eX λe=>?_;unfold ru;refine mx (eX λa=>eX λg=>ka trivial) (eX λe=>?_);unfold rx;refine mx (eX λa=>eX λg=>ka trivial) (nh (sj (Ic d)) λi c=>?_);unfold vG;refine eX λe=>?_;unfold uj;refine mx (eX λa=>ka c) (eX λa=>?_);unfold uk;refine eX λe=>?_;unfold vH;have f:hE (τ:=τ) (λb=>lU b.H) (pz d a i):=by
  unfold pz;exact eX λg=>ka c
 refine mx f (eX λj=>?_);unfold vI;exact mx f (ka c.ie)
def Qf(d:Za)(c:fj τ):hE (λb=>uV b.H) (lw d c):=by
 unfold lw;refine nh (R:=λb=>uV b.H) (eX λk=>?_) λb g=>eX λ_=>ka g;unfold sG;refine mx (ka (Ya rfl)) ?_;intro a i e h j f;exact Y8 (Ia d c a i e h j f)
def qT(rs:iy):Prop:=∀a∈rs,uV a.2.H
def qT.d8(e:qT rs){d:List Int}{b:aV}(f:uV b.H):qT (rs++[(d,b)]):=by
 intro c a;rcases Yn.1 a with a|a
 .exact e c a
 simp_all
def ahP(c:Za)(a:qT rs):hE qT (pu c rs):=by
 unfold pu;exact eX λe=>mx (eX λ_=>nh (Dz (Qf _ _)) λd b=>ka (a.d8 b)) (ka a)
def ahR(d:Za)(f:Int->Bool):∀(a:Nat) {rs:iy},qT rs->hE qT (jO d f a rs):=by
 intro a;induction a with
 |zero=>intro rs _;exact sj (lh _ _)
 |succ a e=>
  intro rs b;unfold jO;exact eX λg=>nh (Dz (Qf _ _)) λh c=>eX λi=>mx (e (b.d8 c)) (ahP d (b.d8 c))
def tI:aD->Prop
 |.typedef b=>lU b.H
 |.struct _ _ d=>∀c∈d,lU c.H
 |.union _ _ e a=>hB e.H/\qT a
 |_=>True
theorem ahX(e:Za)(h:Zb×Nat):∀(a:Nat) (c:List (Zb×Nat×Int)) (b:List (Int×Int)),eQ tI (kC e h a c b):=by
 intro a;induction a with
 |zero=>intro c b;exact lh _ _
 |succ a g=>
  intro c b j k p d;cases f:kY e c.length b j with
  |error l=>simp_all[wa]
  |ok i=>
   obtain⟨n,m,q⟩:=i;rw[wb f]at d;refine ba (Q:=tI) (λo=>dU (g _ _) ?_) _ _ _ d;unfold qn;exact ba λ_=>ba λ_=>dV trivial
def ahT(f:Za):eQ tI (fP f):=by
 unfold fP;refine ba λw=>?_;unfold fO;refine dU ?_ (dU ?_ (dU ?_ (dU ?_ (dU ?_ (dU ?_ (lh _ _))))))
 .unfold lz;exact ba λ_=>ba λg=>ba λ_=>ba λ_=>ba λ_=>dV trivial
 .unfold lR;exact ba λ_=>nf (Qh (Ia _ _)) λk d=>ba λ_=>dV d
 .grind [kS,ba,ahX]
 .unfold mu;refine ba λ_=>ba λg=>nf (Qk (I:=λe:List aV×Zc=>∀c∈e.1,lU c.H) (LN _ _ ?_) Zq) λe l=>ba λ_=>dV l;rintro⟨p,a⟩ o j u x s i;cases d:il f (cQ 0 0) a o with
  |error q=>simp_all[Da]
  |ok h=>
   obtain⟨k,v,y⟩:=h;rw[Db d]at i;refine BG (I:=λe:List aV×Zc=>∀c∈e.1,lU c.H) (zr _) (λ_=>FB ()) _ _ _ _ _ ?_ i;intro c b;rcases Yn.1 b with b|b
   .simp_all
   .simp only[Yc]at b;subst b;exact Ia _ _ _ _ _ _ _ d
 .unfold iX;refine ba λ_=>ba λg=>?_;unfold qP;refine ba λ_=>ba λ_=>nf (ah0 f) λh m=>?_;unfold qQ;refine ba λc=>?_;unfold sb;refine ba λ_=>ba λ_=>nf (Ql (ahR f h.2 13 (rs:=[]) (by intro j r;grind)) _) λt n=>?_;unfold tA pP;exact ba λ_=>ba λ_=>dV ⟨m,n⟩
 .unfold lK;refine ba λ_=>ba λg=>?_;unfold tm;exact ba λ_=>ba λ_=>dV trivial
def yx(b:List aD):Prop:=∀a∈b,tI a
def ah1(d:Za):∀(b:Nat) {ds:List aD},yx ds->eQ yx (eC d b ds):=by
 intro b;induction b with
 |zero=>intro ds _;exact lh _ _
 |succ b f=>
  intro ds c;unfold eC;refine ba λi=>dU (dV c) (nf (ahT d) λg h=>ba λ_=>f ?_);intro e a;rcases Yn.1 a with a|a
  .exact c e a
  simp_all
def Hw{b:Za}{ds}(a:eW b=.ok ds):yx ds:=by
 unfold eW at a;split at a
 .cases a
 .cases c:eC b 69 [] fW with
  |error h=>simp_all
  |ok e=>
   obtain⟨g,i⟩:=e;rw[c]at a;simp only at a;have d:=ah1 b 69 (ds:=[]) (by intro f d;grind) _ _ _ c;grind
def dO:Ty->Nat
 |.arr a _ _=>dO a+2
 |.opt a=>dO a+1
 |.void=>0
 |_=>1
theorem uT(a:Ty):∀b,(eb a b).L.length=b.L.length+dO a:=by
 induction a with
 |arr d f e c=>grind [eb,dD,bh,dO]
 |opt d c=>grind [eb,dD,bh,dO]
 |_=>intro b;simp[eb,bh,kx,dO]
def rt(d:jm a):dO a<=3:=by
 cases a with
 |arr b e c=>cases b<;>simp[jm,sm,dO]at *
 |opt b=>cases b<;>simp[jm,sm,dO]at *
 |_=>simp[dO]
end
section
variable {d:Zb->Nat}{c:List Nat}{a:List cX}
structure Wk(b:Type) where
 cY:Nat->b->Except Mar.ac b
 num:dI->b->Except Mar.ac b
 text:Int->Bool->b->Except Mar.ac b
 bH:Int->Bool->b->Except Mar.ac (Nat×b)
 cg:dI->(Int->Option Nat)->b->Except Mar.ac (Int×b)
def dI.br(b:dI)(a:Int):Bool:=decide (b.c4<=a)&&decide (a<=b.dg)&&(match b.f0 with|none=>true|some l=>l.contains a)
def ep(b:dI)(d:List (Int×Nat×Nat))(c:Option (Nat×Nat))(a:Int):Option (Nat×Nat):=if b.br a then (match bT d a with|some q=>some q|none=>c)else none
structure iM where
 O:Nat
 aK:List Nat
 b1:List (Nat×Nat)
section
variable {b : Type}
def fh(h:Wk b)(q:cX)(a:iM)(f:b):Option (Except Mar.ac (iM×b)):=
 match q with
 |.hole=>none
 |.fin=>none
 |.call j=>if 1000<=a.aK.length then none else some (match h.cY a.aK.length f with
  |.ok c=>.ok ({ a with O:=j,aK:=a.O::a.aK },c)
  |.error d=>.error d)
 |.ret=>match a.aK with
  |[]=>none
  |g::o=>some (.ok ({ a with O:=g,aK:=o },f))
 |.jump j=>some (.ok ({ a with O:=j },f))
 |.num e=>some (match h.num e f with
  |.ok c=>.ok (a,c)
  |.error d=>.error d)
 |.text e i=>some (match h.text e i f with
  |.ok c=>.ok (a,c)
  |.error d=>.error d)
 |.struct e i=>some (match h.bH e i f with
  |.ok (_,c)=>.ok (a,c)
  |.error d=>.error d)
 |.array e i j=>if 1000<=a.b1.length then none else some (match h.bH e i f with
  |.ok (0,c)=>.ok ({ a with O:=j },c)
  |.ok (g+1,c)=>.ok ({ a with b1:=(a.O,g+1)::a.b1 },c)
  |.error d=>.error d)
 |.again=>match a.b1 with
  |[]=>none
  |(k,left)::m=>some (.ok (if 1<left then { a with O:=k,b1:=(k,left-1)::m }else { a with b1:=m },f))
 |.choice e n l=>match h.cg e (λg=>(ep e n l g).map (·.2)) f with
  |.ok (g,c)=>match ep e n l g with
   |some p=>some (.ok ({ a with O:=p.1 },c))
   |none=>none
  |.error d=>some (.error d)
def mZ(d:Wk b)(a:List cX):Nat->iM->b->Option (Except Mar.ac b)
 |0,_,_=>none
 |n+1,c,e=>match a[c.O]? with
  |none=>none
  |some .fin=>some (.ok e)
  |some i=>match fh d i { c with O:=c.O+1 } e with
   |none=>none
   |some (.error g)=>some (.error g)
   |some (.ok (h,f))=>mZ d a n h f
def gz(c:Wk b)(a:List cX)(h:iM)(f:b)(j:Except Mar.ac (iM×b)):Prop:=
 ∃i,∀d e,(match j with|.ok (m',d')=>mZ c a d m' d'|.error g=>some (.error g))=some e->mZ c a (d+i) h f=some e
theorem Ix(e:Wk b)(a:List cX)(d:iM)(c:b):gz e a d c (.ok (d,c)):=⟨0,λ_ _ f=>f⟩
theorem gz.u{c}{f g:iM}{d e:b}{r}(h:gz c a f d (.ok (g,e)))(i:gz c a g e r):gz c a f d r:=by
 obtain⟨k,m⟩:=h;obtain⟨j,l⟩:=i;exact⟨j+k,λo p n=>by grind⟩
theorem jl{e}{c:iM}{f:b}{d g}(j:a[c.O]?=some d)(h:d≠.fin)(i:fh e d { c with O:=c.O+1 } f=some g):gz e a c f g:=by
 refine⟨1,λl m k=>?_⟩;unfold mZ;grind
def aA{a b:Type}(f:Except Mar.ac a)(e:a->Except Mar.ac b):Except Mar.ac b:=match f with
 |.ok c=>e c
 |.error d=>.error d
abbrev eY(b:Type):=b->Except Mar.ac b
def hJ(c:eY b):Nat->eY b
 |0,a=>.ok a
 |n+1,a=>aA (c a) (hJ c n)
def jP(a:Int):Option Nat:=if a=0 then some 0 else if a=1 then some 1 else none
def ea(c:Wk b)(nm:Zb->eY b):Ty->eY b
 |.named d _,a=>nm d a
 |.plain h,a=>c.num (dy h) a
 |.opaq d f,a=>c.text d f a
 |.str d f,a=>c.text d f a
 |.arr g d f,a=>aA (c.bH d f a) λe=>hJ (ea c nm g) e.1 e.2
 |.opt g,a=>aA (c.cg (dy 4) jP a) λe=>if e.1=1 then ea c nm g e.2 else .ok e.2
 |.void,a=>.ok a
def mg(c:Wk b)(nm:Zb->eY b):List Ty->eY b
 |[],a=>.ok a
 |t::d,a=>aA (ea c nm t a) (mg c nm d)
def iF(b:List (List Int×aV))(c:Int):Option Ty:=
 match b.reverse.find? (λa=>a.1.contains c)with
 |some a=>some a.2.H
 |none=>(b.reverse.find? (λa=>a.1.isEmpty)).map (·.2.H)
abbrev fG:=Zb->Option aD
def lc(a:fG):Ty->dI
 |.named d _=>match a d with
  |some (.enum _ _ c)=>hr c
  |_=>yr
 |.plain b=>dy b
 |_=>yr
def tY(b:fG)(d:Ty)(c:List (List Int×aV))(a:Int):Option Nat:=if(lc b d).br a then (iF c a).map λe=>if kU e then 0 else 1 else none
def iH(c:Wk b)(f:fG)(nm:Zb->eY b):aD->eY b
 |.typedef i,a=>ea c nm i.H a
 |.enum _ _ d,a=>c.num (hr d) a
 |.struct _ _ d,a=>aA (c.bH d.length true a) λe=>mg c nm (d.map (·.H)) e.2
 |.union _ _ h g,a=>aA (c.cg (lc f h.H) (tY f h.H g) a) λe=>match iF g e.1 with
  |some j=>ea c nm j e.2
  |none=>.error ⟨0,0⟩
 |_,_=>.error ⟨0,0⟩
def fu(a:Wk b)(d:fG):Nat->Nat->Zb->eY b
 |0,c,_,e=>aA (a.cY c e) λ_=>.error ⟨0,0⟩
 |g+1,c,i,e=>aA (a.cY c e) λf=>match d i with
  |some h=>iH a d (fu a d g (c+1)) h f
  |none=>.error ⟨0,0⟩
def qU(a:List cX)(d:Zb->Nat)(f:fG):Nat->Ty->Prop
 |p,.named b _=>a[p]?=some (.call (d b))/\(f b).isSome
 |p,.plain g=>a[p]?=some (.num (dy g))
 |p,.opaq b e=>a[p]?=some (.text b e)
 |p,.str b e=>a[p]?=some (.text b e)
 |p,.arr c b e=>a[p]?=some (.array b e (p+dO c+2))/\qU a d f (p+1) c/\a[p+1+dO c]?=some .again
 |p,.opt c=>a[p]?=some (.choice (dy 4) [(0,p+1+dO c,0),(1,p+1,1)] none)/\qU a d f (p+1) c
 |_,.void=>True
def Aw(a:List cX)(d:Zb->Nat)(b:fG):Nat->List Ty->Prop
 |_,[]=>True
 |p,c::e=>qU a d b p c/\Aw a d b (p+dO c) e
def yR(a:List Ty):Nat:=(a.map dO).sum
def DC(a:List cX)(d:Zb->Nat)(f:fG)(b:Nat):aD->Prop
 |.typedef k=>qU a d f b k.H/\a[b+dO k.H]?=some .ret
 |.enum _ _ e=>a[b]?=some (.num (hr e))/\a[b+1]?=some .ret
 |.struct _ _ e=>a[b]?=some (.struct e.length true)/\Aw a d f (b+1) (e.map (·.H))/\a[b+1+yR (e.map (·.H))]?=some .ret
 |.union _ _ n m=>∃j h l,a[b]?=some (.choice (lc f n.H) j h)/\a[l]?=some .ret/\
   ∀g,match iF m g with
    |none=>bT j g=none/\h=none
    |some i=>∃c,(match bT j g with|some c=>some c|none=>h)=some c/\c.2=(if kU i then 0 else 1)/\qU a d f c.1 i/\a[c.1+dO i]?=some (.jump l)
 |_=>True
def jU(d:iM)(e:Except Mar.ac b):Except Mar.ac (iM×b):=match e with
 |.ok a=>.ok (d,a)
 |.error c=>.error c
theorem DO{e i j k f d}{g:eY b}(h:gz e a i f (jU j d))(l:∀c,d=.ok c->gz e a j c (jU k (g c))):gz e a i f (jU k (aA d g)):=by
 cases d with
 |error m=>exact h
 |ok c=>exact h.u (l c rfl)
theorem WH(a:Int):(dy 4).br a=decide (a=0\/a=1):=by
 simp only[dI.br,dy];grind
theorem PW(b c:Nat)(a:Int):ep (dy 4) [(0,b,0),(1,c,1)] none a=if a=0 then some (b,0)else if a=1 then some (c,1)else none:=by
 grind [ep,WH,bT]
def HL(a b:Nat):(λc=>(ep (dy 4) [(0,a,0),(1,b,1)] none c).map (·.2))=jP:=by
 grind [PW,jP]
def Wk.g8(c:Wk b):Prop:=∀f v d a e,c.cg f v d=.ok (a,e)->(v a).isSome
def uJ{k}{l:fG}{nm:Zb->eY b}
  (o:∀h f e g,e.length<=c.length->(l h).isSome->a[f]?=some (.call (d h))->gz k a ⟨f,c,e⟩ g (jU ⟨f+1,c,e⟩ (nm h g))) :
  ∀(i:Ty) (f:Nat) (e:List (Nat×Nat)) (g:b),sm i->e.length<=c.length->qU a d l f i->gz k a ⟨f,c,e⟩ g (jU ⟨f+dO i,c,e⟩ (ea k nm i g)):=by
 intro i f e g r n j;cases i with
 |named h q=>exact o h f e g n j.2 j.1
 |plain s=>
  refine jl j Zq ?_;rfl
 |opaq h m=>
  refine jl j Zq ?_;rfl
 |str h m=>
  refine jl j Zq ?_;rfl
 |void=>exact Ix k a _ g
 |arr p h m=>grind [sm]
 |opt p=>grind [sm]
def GU{i:Wk b}(D:i.g8){x:fG}(G:c.length<=100){nm:Zb->eY b}
  (k:∀h e g f,g.length<=c.length->(x h).isSome->a[e]?=some (.call (d h))->gz i a ⟨e,c,g⟩ f (jU ⟨e+1,c,g⟩ (nm h f))) :
  ∀(o:Ty) (e:Nat) (g:List (Nat×Nat)) (f:b),jm o->g.length<c.length->qU a d x e o->gz i a ⟨e,c,g⟩ f (jU ⟨e+dO o,c,g⟩ (ea i nm o f)):=by
 intro o e g f v H l;cases o with
 |named h z=>exact uJ k (.named h z) e g f trivial Zm l
 |plain u=>exact uJ k (.plain u) e g f trivial Zm l
 |opaq h p=>exact uJ k (.opaq h p) e g f trivial Zm l
 |str h p=>exact uJ k (.str h p) e g f trivial Zm l
 |void=>exact uJ k .void e g f trivial Zm l
 |arr n h p=>
  obtain⟨m,s,F⟩:=l;have y:¬1000<=g.length:=Zm;simp only[ea,dO];cases j:i.bH h p f with
  |error B=>
   refine jl m Zq ?_;simp only[fh,j,Y2 y];rfl
  |ok w=>
   obtain⟨mR,r⟩:=w;cases mR with
   |zero=>
    refine jl m Zq ?_;simp only[fh,j,Y2 y];rfl
   |succ mR=>
    have t:gz i a ⟨e,c,g⟩ f (.ok (⟨e+1,c,(e+1,mR+1)::g⟩,r)):=by
     simp_all[jl,fh]
    refine t.u ?_;clear t j;simp only[aA];have key:∀(q:Nat) (f:b),gz i a ⟨e+1,c,(e+1,q+1)::g⟩ f (jU ⟨e+(dO n+2),c,g⟩ (hJ (ea i nm n) (q+1) f)):=by
     intro q;induction q with
     |zero=>
      intro f;unfold hJ;refine DO (uJ k n (e+1) _ f v Zg s) λA _=>?_;grind [jl,fh,jU,hJ]
     |succ q J=>
      intro f;unfold hJ;refine DO (uJ k n (e+1) _ f v Zg s) λA _=>?_;grind [gz.u,jl,fh]
    simp_all
 |opt n=>
  obtain⟨m,s⟩:=l;simp only[ea,dO];cases j:i.cg (dy 4) jP f with
  |error B=>
   refine jl m Zq ?_;simp only[fh,HL,j];rfl
  |ok w=>
   obtain⟨u,r⟩:=w;have I:=D _ _ _ _ _ j;by_cases C:u=0
   .subst C;refine jl m Zq ?_;simp only[fh,HL,j];grind [PW,aA,jU]
   .by_cases E:u=1
    .subst E;have t:gz i a ⟨e,c,g⟩ f (.ok (⟨e+1,c,g⟩,r)):=by
      refine jl m Zq ?_;simp only[fh,HL,j];rfl
     refine t.u ?_;have:=uJ k n (e+1) g r v Zm s;grind [aA]
    grind [jP]
def ad6{i:Wk b}(p:i.g8){l:fG}(n:c.length<=100){nm:Zb->eY b}
  (r:∀k f e g,e.length<=c.length->(l k).isSome->a[f]?=some (.call (d k))->gz i a ⟨f,c,e⟩ g (jU ⟨f+1,c,e⟩ (nm k g))) :
  ∀(h:List Ty) (f:Nat) (e:List (Nat×Nat)) (g:b),(∀j∈h,jm j)->e.length<c.length->Aw a d l f h->gz i a ⟨f,c,e⟩ g (jU ⟨f+yR h,c,e⟩ (mg i nm h g)):=by
 intro h;induction h with
 |nil=>intro f e g _ _ _;exact Ix i a _ g
 |cons j h u=>
  intro f e g q o ⟨m,t⟩;unfold mg;refine DO (GU p n r j f e g (q j Zq) o m) λs _=>?_;grind [yR]
def sP:aD->List Ty
 |.typedef b=>[b.H]
 |.struct _ _ c=>c.map (·.H)
 |.union _ _ _ a=>a.map (·.2.H)
 |_=>[]
def Sp{a}{d:Int}{e}(b:iF a d=some e):e∈a.map (·.2.H):=by
 unfold iF at b;cases f:a.reverse.find? (λc=>c.1.contains d)with
 |some c=>
  grind
 |none=>
  rw[f]at b;simp only[Option.map_eq_some_iff]at b;grind
def aeb{i:Wk b}(y:i.g8){o:fG}(a8:c.length+1<=100){g:Nat}{nm:Zb->eY b}
  (a2:∀k f e h,e.length<=c.length+1->(o k).isSome->a[f]?=some (.call (d k))->gz i a ⟨f,g::c,e⟩ h (jU ⟨f+1,g::c,e⟩ (nm k h)))
  (q:aD) (t:∀n m v,q≠.const n m v) (b1:∀n m v k,q≠.prog n m v k) (D:∀n∈sP q,jm n) (f:Nat) (e:List (Nat×Nat)) (a9:e.length<=c.length) (h:b) (p:DC a d o f q):gz i a ⟨f,g::c,e⟩ h (jU ⟨g,c,e⟩ (iH i o nm q h)):=by
 have B:(g::c).length<=100:=Zm;have C:e.length<(g::c).length:=Zg;have F:∀k f e h,e.length<=(g::c).length->(o k).isSome->a[f]?=some (.call (d k))->gz i a ⟨f,g::c,e⟩ h (jU ⟨f+1,g::c,e⟩ (nm k h)):=λk f e h b3=>a2 k f e h Zm;have R:∀(j:Nat) (l:b),a[j]?=some .ret->gz i a ⟨j,g::c,e⟩ l (.ok (⟨g,c,e⟩,l)):=by
  grind [jl,fh]
 have x:∀(j:Nat) (z:Except Mar.ac b),a[j]?=some .ret->gz i a ⟨f,g::c,e⟩ h (jU ⟨j,g::c,e⟩ z)->gz i a ⟨f,g::c,e⟩ h (jU ⟨g,c,e⟩ z):=by
  intro j z M u;cases z with
  |error J=>exact u
  |ok l=>exact gz.u u (R j l M)
 cases q with
 |const n m v=>simp_all
 |prog n m v k=>grind
 |typedef m=>exact x _ _ p.2 (GU y B F m.H f e h (D _ (by simp[sP])) C p.1)
 |enum n m N=>
  refine x _ _ p.2 (jl p.1 Zq ?_);rfl
 |struct n m N=>
  refine x _ _ p.2.2 ?_;simp only[iH];cases s:i.bH N.length true h with
  |error I=>
   refine jl p.1 Zq ?_;simp only[fh,s];rfl
  |ok j=>
   obtain⟨mR,l⟩:=j;have G:gz i a ⟨f,g::c,e⟩ h (.ok (⟨f+1,g::c,e⟩,l)):=by
    refine jl p.1 Zq ?_;simp only[fh,s]
   exact G.u (ad6 y B F _ (f+1) e l D C p.2.1)
 |union n m w A=>
  obtain⟨P,O,I,S,a0,a1⟩:=p;have a5:(λr=>(ep (lc o w.H) P O r).map (·.2))=tY o w.H A:=by
   funext r;grind [ep,tY]
  refine x I _ a0 ?_;simp only[iH];cases s:i.cg (lc o w.H) (tY o w.H A) h with
  |error J=>
   refine jl S Zq ?_;simp only[fh,a5,s];rfl
  |ok a6=>
   obtain⟨r,l⟩:=a6;have L:=y _ _ _ _ _ s;have K:=a1 r;unfold tY at L;split at L
   .rename_i b0;cases E:iF A r with
    |none=>simp_all
    |some H=>
     rw[E]at K;obtain⟨j,M,b2,a3,a4⟩:=K;have b4:ep (lc o w.H) P O r=some j:=by
      simp_all[ep]
     have G:gz i a ⟨f,g::c,e⟩ h (.ok (⟨j.1,g::c,e⟩,l)):=by
      grind [jl,fh]
     refine G.u ?_;simp only[aA,E];have t:=GU y B F H j.1 e l (D H (Sp E)) C a3;cases u:ea i nm H l with
     |error J=>rw[u]at t;exact t
     |ok a7=>
      rw[u]at t;refine gz.u t (jl a4 Zq ?_);rfl
   grind
def DA(a:List cX)(d:Zb->Nat)(g:fG):Prop:=∀e b,g e=some b->(∀c f v,b≠.const c f v)/\(∀c f v e,b≠.prog c f v e)/\(∀c∈sP b,jm c)/\DC a d g (d e) b
def aec{i:Wk b}(z:i.g8)(y:∀r e,64<=r->∃l,i.cY r e=.error l){k}(A:DA a d k):∀(j:Nat) (c:List Nat) (g:Zb) (h:Nat) (f:List (Nat×Nat)) (e:b),64<=j+c.length->c.length<=70->j+c.length<=70->f.length<=c.length->(k g).isSome->a[h]?=some (.call (d g))->gz i a ⟨h,c,f⟩ e (jU ⟨h+1,c,f⟩ (fu i k j c.length g e)):=by
 intro j;induction j with
 |zero=>
  intro c g h f e F H I p _ m;obtain⟨l,E⟩:=y c.length e Zm;refine jl m Zq ?_;simp only[fh,fu,E,aA,Y2 (show ¬1000<=c.length by omega)];rfl
 |succ j L=>
  intro c g h f e F H I p C m;have G:¬1000<=c.length:=Zm;simp only[fu];cases B:i.cY c.length e with
  |error l=>
   refine jl m Zq ?_;simp only[fh,B,Y2 G];rfl
  |ok n=>
   have K:gz i a ⟨h,c,f⟩ e (.ok (⟨d g,(h+1)::c,f⟩,n)):=by
    simp_all[jl,fh]
   refine K.u ?_;obtain⟨o,q⟩:=Option.isSome_iff_exists.1 C;obtain⟨u,v,x,w⟩:=A g o q;simp only[aA,q];refine aeb z Zm ?_ o u v x (d g) f p n w;intro M N s t O D J;have:=L ((h+1)::c) M N s t Zg Zg Zg Zm D J;omega
def Og{f:Wk b}(o:f.g8)(n:∀c e,64<=c->∃j,f.cY c e=.error j){h}(p:DA a d h){g}{i:Nat}(l:(h g).isSome)(m:a[i]?=some (.call (d g)))(r:a[i+1]?=some .fin)(e:b):∃c,mZ f a c ⟨i,[],[]⟩ e=some (fu f h 64 0 g e):=by
 obtain⟨c,k⟩:=aec o n p 64 [] g i [] e Zq Zq Zq Zq l m;cases s:fu f h 64 0 g e with
 |error j=>
  refine⟨0+c,k 0 _ ?_⟩;grind [jU]
 |ok q=>
  refine⟨1+c,k 1 _ ?_⟩;grind [jU,mZ]
end
end
section
variable {b:fG}{a:Type}
def cI(B:Zb->Nat)(s:bb):List cX:=s.aK.foldl (λb a=>b.set a.1 (.call (B a.2))) s.L
def Wf(s:bb):Prop:=∀a∈s.aK,s.L[a.1]?=some (.call 0)
theorem Lp(e:Nat×Zb->a):∀(c:List (Nat×Zb)) (b:List a),(c.foldl (λb d=>b.set d.1 (e d)) b).length=b.length:=by
 intro c;induction c<;>simp_all
theorem Lo(f:Nat×Zb->a):∀(d:List (Nat×Zb)) (b e:List a),(∀c∈d,c.1<b.length)->d.foldl (λb c=>b.set c.1 (f c)) (b++e)=d.foldl (λb c=>b.set c.1 (f c)) b++e:=by
 intro d;induction d with
 |nil=>simp
 |cons c d h=>
  intro b e g;simp only[YY];grind
def VW(f:Nat×Zb->a)(e:Nat)(g:a):∀(d:List (Nat×Zb)) (c:List a),(∀b∈d,b.1≠e)->d.foldl (λc b=>c.set b.1 (f b)) (c.set e g)=(d.foldl (λc b=>c.set b.1 (f b)) c).set e g:=by
 intro d;induction d with
 |nil=>simp
 |cons b d j=>
  intro c i;simp only[YY];rw[List.set_comm _ _ (λh=>i b Zq h.symm)];simp_all
section
variable {B : Zb -> Nat} {s : bb}
theorem Wf.lt(b:Wf s):∀a∈s.aK,a.1<s.L.length:=by
 intro a c;have:=b a c;grind
theorem vV:(cI B s).length=s.L.length:=Lp ..
theorem Wf.aX(a:Wf s)(x:cX):Wf (bh x s):=by
 intro c b;have:=a c b;grind [bh]
theorem mV(b:Wf s)(a:cX):cI B (bh a s)=cI B s++[a]:=Lo _ _ _ _ b.lt
def Wf.call(b:Wf s)(d:Zb):Wf (kx d s):=by
 intro c a;simp only[kx,Yn,Yc]at a ⊢;rcases a with a|rfl
 .rw[Ys (b.lt c a)];exact b c a
 simp
theorem Mg(b:Wf s)(a:Zb):cI B (kx a s)=cI B s++[.call (B a)]:=by
 simp only[cI,kx,YS,YY,List.foldl_nil];simp_all[Lo,Wf.lt,Lp]
def mD(s:bb)(a:Nat):Prop:=∀b∈s.aK,b.1≠a
def Nr{a:Nat}{x}(b:Wf s)(g:s.L[a]?=some x)(f:x≠.call 0):mD s a:=by
 intro d c e;have:=b d c;simp_all
theorem Wf.aq{i}(d:Wf s)(e:mD s i)(f:cX):Wf (dD i f s):=by
 intro b a;simp only[dD];rw[List.getElem?_set_ne (λc=>e b a c.symm)];exact d b a
def BO{a}(c:mD s a)(b:cX):cI B (dD a b s)=(cI B s).set a b:=VW _ a b _ _ c
def jV(B:Zb->Nat):Nat->Ty->List cX
 |_,.named a _=>[.call (B a)]
 |_,.plain d=>[.num (dy d)]
 |_,.opaq a b=>[.text a b]
 |_,.str a b=>[.text a b]
 |p,.arr c a b=>.array a b (p+dO c+2)::(jV B (p+1) c++[.again])
 |p,.opt c=>.choice (dy 4) [(0,p+1+dO c,0),(1,p+1,1)] none::jV B (p+1) c
 |_,.void=>[]
theorem ts(B:Zb->Nat)(a:Ty):∀b,(jV B b a).length=dO a:=by
 induction a<;>grind [jV,dO]
structure gI(s s':bb):Prop where
 wf:Wf s'
 bo:s'.b2=s.b2
 en:s'.cZ=s.cZ
 am:s.L.length<=s'.L.length
 op:∀i,i<s.L.length->mD s i->mD s' i
 bn:∀i,i<s.L.length->s'.L[i]?=s.L[i]?
theorem pS(a:Wf s)(x:cX):gI s (bh x s):=⟨a.aX x,rfl,rfl,by simp[bh],λc _ b=>b,λc d=>by grind [bh]⟩
def gI.call(c:Wf s)(b:Zb):gI s (kx b s):=by
 refine⟨c.call b,rfl,rfl,by simp[kx],?_,λf d=>by grind [kx]⟩;intro f d e g a;simp only[kx,Yn,Yc]at a;rcases a with a|rfl
 .exact e g a
 omega
theorem gI.u{e f}(a:gI s e)(b:gI e f):gI s f:=
 ⟨b.wf,b.bo.trans a.bo,b.en.trans a.en,Yz a.am b.am,λd c g=>b.op d (Yr c a.am) (a.op d c g),λd c=>(b.bn d (Yr c a.am)).trans (a.bn d c)⟩
theorem gI.aq{b}{i:Nat}(a:gI s b)(g:s.L.length<=i)(e:mD b i)(c:cX):gI s (dD i c b):=
 ⟨a.wf.aq e c,a.bo,a.en,by simpa[dD]using a.am,a.op,λf d=>by simp only[dD];rw[List.getElem?_set_ne Zm];exact a.bn f d⟩
def Fu(a:Wf s):mD (bh .hole s) s.L.length:=Nr (a.aX _) (x:=.hole) (by simp[bh]) Zq
def xv(B:Zb->Nat)(f:Ty):∀(s:bb),Wf s->cI B (eb f s)=cI B s++jV B s.L.length f/\gI s (eb f s):=by
 induction f with
 |named d p=>intro s a;exact⟨Mg a d,gI.call a d⟩
 |plain q=>intro s a;exact⟨mV a _,pS a _⟩
 |opaq d l=>intro s a;exact⟨mV a _,pS a _⟩
 |str d l=>intro s a;exact⟨mV a _,pS a _⟩
 |void=>intro s a;exact⟨by simp[eb,jV],a,rfl,rfl,Y4 _,λ_ _ o=>o,λ_ _=>rfl⟩
 |arr c d l k=>
  intro s a;have i:=a.aX .hole;obtain⟨j,b⟩:=k (bh .hole s) i;have g:(bh .hole s).L.length=s.L.length+1:=by simp[bh]
  have e:mD (eb c (bh .hole s)) s.L.length:=b.op _ Zm (Fu a);have h:=(pS a .hole).u (b.u (pS b.wf .again));have n:mD (bh .again (eb c (bh .hole s))) s.L.length:=e;refine⟨?_,h.aq (Y4 _) n _⟩;simp only[eb];rw[BO n,mV b.wf,j,mV a,uT,g];have m:s.L.length=(cI B s).length:=vV.symm;rw[show cI B s++[cX.hole]++jV B (s.L.length+1) c++[cX.again]=cI B s++(cX.hole::(jV B (s.L.length+1) c++[cX.again])) by simp];rw[List.set_append_right _ _ Zm];simp only[jV,m,Nat.sub_self,List.set_cons_zero];grind
 |opt c k=>
  intro s a;have i:=a.aX .hole;obtain⟨j,b⟩:=k (bh .hole s) i;have g:(bh .hole s).L.length=s.L.length+1:=by simp[bh]
  have e:mD (eb c (bh .hole s)) s.L.length:=b.op _ Zm (Fu a);have h:=(pS a .hole).u b;refine⟨?_,h.aq (Y4 _) e _⟩;simp only[eb];rw[BO e,j,mV a,uT,g];have m:s.L.length=(cI B s).length:=vV.symm;simp_all[jV]
end
def mK(c:List cX)(d:Nat)(jE:List cX):Prop:=∀a b,jE[a]?=some b->c[d+a]?=some b
theorem mK.b8{b d}{a f:List cX}(g:mK b d (a++f)):mK b d a/\mK b (d+a.length) f:=by
 refine⟨λc e h=>g c e ?_,λc e h=>?_⟩
 .grind
 .rw[Nat.add_assoc];refine g (a.length+c) e ?_;grind
def mK.cons{a b}{c:cX}{d:List cX}(e:mK a b (c::d)):a[b]?=some c/\mK a (b+1) d:=by
 have f:mK a b ([c]++d):=e;obtain⟨g,h⟩:=f.b8;exact⟨by simpa using g 0 c Zq,Zm⟩
def RU{a b jE post:List cX}(c:a=b++jE++post):mK a b.length jE:=by
 intro e f d;grind
def AH(b:fG)(c:Ty):Prop:=∀a∈gu c,(b a.1).isSome
theorem Ei{j B}(f:Ty):∀(c:Nat),AH b f->mK j c (jV B c f)->qU j B b c f:=by
 induction f with
 |named e m=>intro c d a;exact⟨a.cons.1,d (e,m) (by simp[gu])⟩
 |plain p=>intro c _ a;exact a.cons.1
 |opaq e k=>intro c _ a;exact a.cons.1
 |str e k=>intro c _ a;exact a.cons.1
 |void=>intro c _ _;trivial
 |arr o e k i=>
  intro c d a;obtain⟨g,h⟩:=a.cons;obtain⟨n,l⟩:=h.b8;rw[ts]at l;exact⟨g,i _ d n,l.cons.1⟩
 |opt o i=>
  intro c d a;obtain⟨g,h⟩:=a.cons;exact⟨g,i _ d h⟩
def uK(B:Zb->Nat):Nat->List Ty->List cX
 |_,[]=>[]
 |p,a::b=>jV B p a++uK B (p+dO a) b
def aej(B:Zb->Nat):∀(a:List Ty) (b:Nat),(uK B b a).length=yR a:=by
 intro a;induction a<;>grind [uK,yR,ts]
def SH{e B}:∀(d:List Ty) (a:Nat),(∀c∈d,AH b c)->mK e a (uK B a d)->Aw e B b a d:=by
 intro d;induction d with
 |nil=>intro a _ _;trivial
 |cons c d k=>
  intro a g h;obtain⟨i,f⟩:=h.b8;rw[ts]at f;exact⟨Ei c a (g c Zq) i,k _ (λc j=>g c (Y5 _ j)) f⟩
def Mf(B:Zb->Nat):∀(a:List Ty) (s:bb),Wf s->cI B (a.foldl (λs b=>eb b s) s)=cI B s++uK B s.L.length a/\gI s (a.foldl (λs b=>eb b s) s):=by
 intro a;induction a with
 |nil=>intro s c;exact⟨by simp[uK],c,rfl,rfl,Y4 _,λ_ _ f=>f,λ_ _=>rfl⟩
 |cons b a g=>
  intro s c;obtain⟨h,d⟩:=xv B b s c;obtain⟨i,e⟩:=g _ d.wf;refine⟨?_,d.u e⟩;grind [uT,uK]
abbrev qf(a:List Int×aV):Nat:=dO a.2.H+1
def gZ(a:List (List Int×aV)):Nat:=(a.map qf).sum
def jf(B:Zb->Nat)(b:Nat):Nat->List (List Int×aV)->List cX
 |_,[]=>[]
 |p,a::c=>jV B p a.2.H++(.jump b::jf B b (p+qf a) c)
def qm:Nat->List (List Int×aV)->List Nat
 |_,[]=>[]
 |p,a::b=>(p+dO a.2.H)::qm (p+qf a) b
theorem GX(B:Zb->Nat)(d:Nat):∀(a:List (List Int×aV)) (b:Nat),(jf B d b a).length=gZ a:=by
 intro a;induction a with
 |nil=>intro b;rfl
 |cons c a e=>intro b;have:=e (b+qf c);simp only[jf,gZ,Yq,ts,YC,List.map_cons,List.sum_cons]at this ⊢;grind
theorem aek(B:Zb->Nat)(c:Nat)(d:List Int×aV):∀(a:List (List Int×aV)) (b:Nat),jf B c b (a++[d])=jf B c b a++(jV B (b+gZ a) d.2.H++[.jump c]):=by
 intro a;induction a with
 |nil=>grind [jf,gZ]
 |cons e a f=>
  intro b;simp only[YX,jf,f,YN];rw[show b+qf e+gZ a=b+gZ (e::a) by simp[gZ];omega]
theorem Va(c:List Int×aV):∀(a:List (List Int×aV)) (b:Nat),qm b (a++[c])=qm b a++[b+gZ a+dO c.2.H]:=by
 intro a;induction a with
 |nil=>grind [qm,gZ]
 |cons d a e=>
  intro b;simp only[YX,qm,e];rw[show b+qf d+gZ a=b+gZ (d::a) by simp[gZ];omega]
theorem SI{h B i}{f:List Int×aV}:∀(b d:List (List Int×aV)) (a:Nat),mK h a (jf B i a (b++f::d))->mK h (a+gZ b) (jV B (a+gZ b) f.2.H)/\h[a+gZ b+dO f.2.H]?=some (.jump i):=by
 intro b;induction b with
 |nil=>
  intro d a c;simp only[YT,jf]at c;obtain⟨j,e⟩:=c.b8;rw[ts]at e;exact⟨by simpa[gZ]using j,by simpa[gZ]using e.cons.1⟩
 |cons g b k=>
  intro d a c;simp only[YX,jf]at c;have e:=c.b8.2.cons.2;rw[ts]at e;have:=k d (a+qf g) Zm;rw[show a+qf g+gZ b=a+gZ (g::b) by simp[gZ];omega]at this;omega
theorem we{e:Type}[DecidableEq e](v:a)(c b:e)(d:List (e×a)):bT (cR d b v) c=if c=b then some v else bT d c:=by
 unfold cR;split
 .rename_i f;induction d with
  |nil=>simp_all
  |cons n d h=>
   by_cases l:n.1=b
   .by_cases g:c=b
    .subst g;simp[bT,l]
    .have o:bT (d.map λi=>if i.1=b then (b,v)else i) c=bT d c:=by
      clear h f;induction d with
      |nil=>rfl
      |cons p d m=>
       unfold bT at m ⊢;grind
     have j:(b==c)=false:=Zg;simp_all[bT]
   .have k:b∈d.map (·.1):=by
     grind
    have:=h k;unfold bT at this ⊢;grind
 .rename_i f;by_cases g:c=b
  .grind [bT]
  .have j:(b==c)=false:=Zg;grind [bT]
def ZN{b:Int}(v:Nat×Nat):∀(a:List Int) (c:List (Int×Nat×Nat)),bT (a.foldl (λa d=>cR a d v) c) b=if a.contains b then some v else bT c b:=by
 intro a;induction a with
 |nil=>simp
 |cons d a e=>
  intro c;simp only[YY];rw[e,we];grind
def nc(g:Nat)(c:List (List Int×aV))(f:List Int×aV->Bool)(d:Option (Nat×Nat)):Prop:=
 match c.reverse.find? f with
 |none=>d=none
 |some a=>∃b e,c=b++a::e/\d=some (g+gZ b,if kU a.2.H then 0 else 1)
theorem PU{d b c e}(f:nc d b c e)(a:List Int×aV):nc d (b++[a]) c (if c a then some (d+gZ b,if kU a.2.H then 0 else 1)else e):=by
 unfold nc at f ⊢;rw[List.reverse_append,List.reverse_singleton,List.singleton_append,List.find?_cons];grind
def XZ(B:Zb->Nat)(a:mb)(k:Wf a.s)(o:a.c5=[])(f:a.d1=none)(n:a.b5=[]):∀(d:Nat) (b:List (List Int×aV)),b.length=d->
  cI B (b.foldl ck a).s=cI B a.s++jf B 0 a.s.L.length b/\gI a.s (b.foldl ck a).s/\(b.foldl ck a).b5=qm a.s.L.length b/\
  (∀d,nc a.s.L.length b (λc=>c.1.contains d) (bT (b.foldl ck a).c5 d))/\nc a.s.L.length b (λc=>c.1.isEmpty) (b.foldl ck a).d1:=by
 intro d;induction d with
 |zero=>
  intro b h;have:b=[]:=Yv.1 h;subst this;exact⟨by simp[jf],⟨k,rfl,rfl,Y4 _,λ_ _ f=>f,λ_ _=>rfl⟩,by simp[qm,n],λd=>by simp[nc,o,bT],by simp[nc,f]⟩
 |succ d p=>
  intro b h;have i:b≠[]:=Zg;obtain⟨e,c,rfl⟩:∃e c,b=e++[c]:=⟨b.dropLast,b.getLast i,(List.dropLast_concat_getLast i).symm⟩;obtain⟨l,g,r,m,t⟩:=p e Zu;have u:(e.foldl ck a).s.L.length=a.s.L.length+gZ e:=by
   have:=Yo List.length l;grind [vV,GX]
  obtain⟨v,j⟩:=xv B c.2.H (e.foldl ck a).s g.wf;have w:=uT c.2.H (e.foldl ck a).s;simp only[YS,YY,List.foldl_nil];refine⟨?_,?_,?_,?_,?_⟩
  .grind [ck,nG,mV,gI.wf,aek]
  .exact g.u (j.u (pS j.wf _))
  .simp_all[ck,nG,Va]
  .intro q;simp only[ck];rw[ZN];have:=PU (m q) c;grind [si]
  .simp only[ck];grind [PU,si]
def Yx(B:Zb->Nat)(e:Nat):∀(b:List (List Int×aV)) (a d:List cX) ,(qm a.length b).foldl (λf h=>f.set h (.jump e)) (a++(jf B 0 a.length b++d))=a++(jf B e a.length b++d):=by
 intro b;induction b with
 |nil=>intro a d;rfl
 |cons c b j=>
  intro a d;simp only[qm,jf,YY];have g:(a++(jV B a.length c.2.H++cX.jump 0::jf B 0 (a.length+qf c) b++d)).set (a.length+dO c.2.H) (.jump e)=(a++jV B a.length c.2.H++[cX.jump e])++(jf B 0 (a.length+qf c) b++d):=by
   simp_all[ts]
  rw[g];have i:(a++jV B a.length c.2.H++[cX.jump e]).length=a.length+qf c:=by grind [ts]
  grind
end
def Vb(b:List Nat):∀(a:bb),(lB b a).L=b.foldl (λe c=>e.set c (.jump a.L.length)) a.L/\(lB b a).aK=a.aK/\(lB b a).b2=a.b2/\(lB b a).cZ=a.cZ:=by
 induction b with
 |nil=>intro a;exact⟨rfl,rfl,rfl,rfl⟩
 |cons c b j=>
  intro a;obtain⟨d,g,h,i⟩:=j (dD c (.jump a.L.length) a);have f:(dD c (.jump a.L.length) a).L.length=a.L.length:=by simp[dD]
  rw[f]at d;exact⟨d,g,h,i⟩
def YZ(d:Zb->Nat)(c:List Nat):∀(a:bb),(∀b∈c,mD a b)->cI d (lB c a)=c.foldl (λf b=>f.set b (.jump a.L.length)) (cI d a):=by
 induction c with
 |nil=>intro a _;rfl
 |cons b c i=>
  intro a e;have g:(dD b (.jump a.L.length) a).L.length=a.L.length:=by simp[dD]
  have:=i (dD b (.jump a.L.length) a) (λj h=>e j (Y5 _ h));rw[g,BO (e b Zq)]at this;exact this
def Vn(c:List Nat):∀(b d:bb),gI b d->(∀a∈c,b.L.length<=a)->(∀a∈c,mD d a)->gI b (lB c d):=by
 induction c with
 |nil=>intro b d e _ _;exact e
 |cons a c j=>
  intro b d e h i;exact j b _ (e.aq (h a Zq) (i a Zq) _) (λg f=>h g (Y5 _ f)) (λg f=>i g (Y5 _ f))
def UZ:∀(a:List (List Int×aV)) (b:Nat),∀c∈qm b a,b<=c:=by
 intro a;induction a<;>grind [qm]
def Vc(b:mb)(m:Wf b.s)(o:b.b5=[]):∀(e:Nat) (a:List (List Int×aV)),a.length=e->Wf (a.foldl ck b).s/\∀d∈(a.foldl ck b).b5,(a.foldl ck b).s.L[d]?=some (.jump 0):=by
 intro e;induction e with
 |zero=>
  simp_all
 |succ e l=>
  intro a h;have j:a≠[]:=Zg;obtain⟨c,f,rfl⟩:∃c f,a=c++[f]:=⟨a.dropLast,a.getLast j,(List.dropLast_concat_getLast j).symm⟩;obtain⟨k,n⟩:=l c Zu;obtain⟨_,i⟩:=xv (λ_=>0) f.2.H (c.foldl ck b).s k;simp only[YS,YY,List.foldl_nil];refine⟨i.wf.aX _,?_⟩;intro d g;simp only[ck,Yn,Yc]at g ⊢;rcases g with g|rfl
  .have h:d<(c.foldl ck b).s.L.length:=by
    grind
   simp only[bh,nG];rw[Ys (Yr h i.am),i.bn d h];grind
  .simp[bh,nG]
def Mj(c:Zb->Nat)(d:aV)(b:List (List Int×aV))(a:bb)(h:Wf a):∃s q,cI c (sd d b a)=cI c a++(.choice (jF a d.H) s q::jf c (a.L.length+1+gZ b) (a.L.length+1) b)/\gI a (sd d b a)/\
   (∀p,nc (a.L.length+1) b (λi=>i.1.contains p) (bT s p))/\nc (a.L.length+1) b (λi=>i.1.isEmpty) q:=by
 have n:=h.aX .hole;have u:(bh .hole a).L.length=a.L.length+1:=by simp[bh]
 obtain⟨j,g,k,l,m⟩:=XZ c ⟨bh .hole a,[],none,[]⟩ n rfl rfl rfl b.length b rfl;obtain⟨_,t⟩:=Vc ⟨bh .hole a,[],none,[]⟩ n rfl b.length b rfl;simp only[u]at j g k l m;have r:mD (b.foldl ck ⟨bh .hole a,[],none,[]⟩).s a.L.length:=g.op _ Zm (Fu h);have y:(b.foldl ck ⟨bh .hole a,[],none,[]⟩).s.L.length=a.L.length+1+gZ b:=by
  have:=Yo List.length j;grind [vV,GX]
 have A:∀e∈(b.foldl ck ⟨bh .hole a,[],none,[]⟩).b5,a.L.length+1<=e:=by
  intro e f;rw[k]at f;exact UZ _ _ e f
 have w:=((pS h .hole).u g).aq (Y4 _) r (.choice (jF a d.H) (b.foldl ck ⟨bh .hole a,[],none,[]⟩).c5 (b.foldl ck ⟨bh .hole a,[],none,[]⟩).d1);have o:∀e∈(b.foldl ck ⟨bh .hole a,[],none,[]⟩).b5,mD (dD a.L.length (.choice (jF a d.H) (b.foldl ck ⟨bh .hole a,[],none,[]⟩).c5 (b.foldl ck ⟨bh .hole a,[],none,[]⟩).d1) (b.foldl ck ⟨bh .hole a,[],none,[]⟩).s) e:=by
  intro e f;have x:mD (b.foldl ck ⟨bh .hole a,[],none,[]⟩).s e:=Nr g.wf (t e f) Zq;exact x
 refine⟨_,_,?_,Vn _ _ _ w (λe f=>by grind) o,l,m⟩;simp only[sd];rw[YZ c _ _ o,BO r,j,mV h,k];have z:(dD a.L.length (.choice (jF a d.H) (b.foldl ck ⟨bh .hole a,[],none,[]⟩).c5 (b.foldl ck ⟨bh .hole a,[],none,[]⟩).d1) (b.foldl ck ⟨bh .hole a,[],none,[]⟩).s).L.length=a.L.length+1+gZ b:=by simp[dD,y]
 rw[z];have B:a.L.length=(cI c a).length:=vV.symm;have v:(cI c a++[cX.hole]++jf c 0 (a.L.length+1) b).set a.L.length (.choice (jF a d.H) (b.foldl ck ⟨bh .hole a,[],none,[]⟩).c5 (b.foldl ck ⟨bh .hole a,[],none,[]⟩).d1)=(cI c a++[cX.choice (jF a d.H) (b.foldl ck ⟨bh .hole a,[],none,[]⟩).c5 (b.foldl ck ⟨bh .hole a,[],none,[]⟩).d1])++(jf c 0 (a.L.length+1) b++[]):=by
  simp_all
 rw[v];have C:(cI c a++[cX.choice (jF a d.H) (b.foldl ck ⟨bh .hole a,[],none,[]⟩).c5 (b.foldl ck ⟨bh .hole a,[],none,[]⟩).d1]).length=a.L.length+1:=Zg;have:=Yx c (a.L.length+1+gZ b) b (cI c a++[cX.choice (jF a d.H) (b.foldl ck ⟨bh .hole a,[],none,[]⟩).c5 (b.foldl ck ⟨bh .hole a,[],none,[]⟩).d1]) [];simp_all
def Iu(a:fG)(b:aD):Prop:=∀c∈sP b,AH a c
def RR(b:fG)(c:bb):aD->Prop
 |.union _ _ a _=>jF c a.H=lc b a.H
 |_=>True
def Sq{c f q n e g h i}
  (r:∀d,nc f c (λa=>a.1.contains d) (bT q d)) (s:nc f c (λa=>a.1.isEmpty) n) (z:mK e f (jf g i f c)) (y:∀a∈c,AH h a.2.H) (d:Int) :
  match iF c d with
    |none=>bT q d=none/\n=none
    |some o=>∃b,(match bT q d with|some b=>some b|none=>n)=some b/\b.2=(if kU o then 0 else 1)/\qU e g h b.1 o/\e[b.1+dO o]?=some (.jump i):=by
 have k:=r d;have key:∀(j:List Int×aV->Bool) (p:Option (Nat×Nat)) (a:List Int×aV),c.reverse.find? j=some a->nc f c j p->∃b,p=some b/\b.2=(if kU a.2.H then 0 else 1)/\qU e g h b.1 a.2.H/\e[b.1+dO a.2.H]?=some (.jump i):=by
  intro j p a l m;unfold nc at m;rw[l]at m;obtain⟨u,v,w,t⟩:=m;refine⟨_,t,rfl,?_⟩;grind [SI,Ei]
 unfold iF;cases l:c.reverse.find? (λa=>a.1.contains d)with
 |some a=>
  grind
 |none=>
  unfold nc at k;rw[l]at k;simp only[k];cases x:c.reverse.find? (λa=>a.1.isEmpty)with
  |none=>
   unfold nc at s;grind
  |some a=>
   grind
def Mh(B:Zb->Nat)(c:aD)(a:bb)(o:Wf a)(t:ei c=true):∃jE,cI B (hT c a)=cI B a++jE/\Wf (hT c a)/\(hT c a).b2=cR a.b2 (ce c).1 a.L.length/\
   (∀(i:List cX) (e:fG),mK i a.L.length jE->Iu e c->RR e a c->DC i B e a.L.length c):=by
 cases c with
 |const g l v=>simp[ei]at t
 |prog g l v F=>simp[ei]at t
 |typedef c=>
  obtain⟨h,d⟩:=xv B c.H a o;refine⟨jV B a.L.length c.H++[.ret],?_,d.wf.aX _,?_,?_⟩
  .have:=mV (B:=B) d.wf .ret;simp_all[hT,ly,cI]
  .simp only[hT,ly,d.bo];rfl
  .intro i e f p _;obtain⟨j,k⟩:=f.b8;rw[ts]at k;exact⟨Ei _ _ (p c.H (by simp[sP])) j,k.cons.1⟩
 |enum g l b=>
  have h:Wf { a with cZ:=cR a.cZ g (hr b) }:=o;refine⟨[.num (hr b),.ret],?_,(h.aX _).aX _,rfl,?_⟩
  .simp only[hT,ly];show cI B (bh .ret (bh (.num (hr b)) { a with cZ:=cR a.cZ g (hr b) }))=_;rw[mV (h.aX _),mV h];grind [cI]
  .intro i e f _ _;exact⟨f.cons.1,f.cons.2.cons.1⟩
 |struct g l b=>
  have x:(bh (.struct b.length true) a).L.length=a.L.length+1:=by simp[bh]
  obtain⟨h,d⟩:=Mf B (b.map (·.H)) (bh (.struct b.length true) a) (o.aX _);have s:tw b a=(b.map (·.H)).foldl (λa g=>eb g a) (bh (.struct b.length true) a):=by
   grind [tw,List.foldl_map]
  rw[x]at h;have y:=(pS o (.struct b.length true)).u d;refine⟨.struct b.length true::(uK B (a.L.length+1) (b.map (·.H))++[.ret]),?_,?_,?_,?_⟩
  .simp only[hT,ly];show cI B (bh .ret (tw b a))=_;grind [mV,gI.wf]
  .show Wf (bh .ret (tw b a));rw[s];exact d.wf.aX _
  .simp only[hT,ly];rw[s,y.bo];rfl
  .intro i e f p _;obtain⟨j,k⟩:=f.cons;obtain⟨r,n⟩:=k.b8;rw[aej]at n;exact⟨j,SH _ _ p r,n.cons.1⟩
 |union g l q m=>
  obtain⟨w,u,h,d,z,A⟩:=Mj B q m a o;refine⟨.choice (jF a q.H) w u::(jf B (a.L.length+1+gZ m) (a.L.length+1) m++[.ret]),?_,?_,?_,?_⟩
  .simp only[hT,ly];show cI B (bh .ret (sd q m a))=_;grind [mV,gI.wf]
  .exact d.wf.aX _
  .simp only[hT,ly,d.bo];rfl
  .intro i e f p C;obtain⟨j,k⟩:=f.cons;obtain⟨r,n⟩:=k.b8;rw[GX]at n;have D:jF a q.H=lc e q.H:=C;rw[D]at j;exact⟨w,u,a.L.length+1+gZ m,j,n.cons.1,Sq z A r (λl E=>p _ (by simp[sP];grind))⟩
def Ut(d:aD)(a:bb)(g:Wf a)(e:Zb):bT (hT d a).cZ e=match d with
  |.enum c _ b=>if e=c then some (hr b)else bT a.cZ e
  |_=>bT a.cZ e:=by
 cases d with
 |enum c f b=>exact we ..
 |const c f v=>rfl
 |prog c f v e=>rfl
 |typedef d=>simp only[hT,ly,bh,(xv (λ_=>0) d.H a g).2.en]
 |struct c f b=>
  have i:tw b a=(b.map (·.H)).foldl (λa c=>eb c a) (bh (.struct b.length true) a):=by grind [tw,List.foldl_map]
  simp only[hT,ly,bh,i];have:=((pS g (.struct b.length true)).u (Mf (λ_=>0) (b.map (·.H)) (bh (.struct b.length true) a) (g.aX _)).2).en;grind [bh]
 |union c f j h=>
  obtain⟨m,l,_,k,_⟩:=Mj (λ_=>0) j h a g;grind [hT,ly,bh,gI.en]
def KO{a:aD}(c:ei a=false)(b:bb):hT a b=b:=by cases a<;>simp[ei]at c<;>rfl
def Ky(z:Zb->Nat):∀(v:Nat) (h:List aD),h.length=v->
  Wf (eo h)/\(∀p,(∀d∈h,ei d=true->(ce d).1≠p)->bT (eo h).b2 p=none)/\
  (∀b d a,h=b++d::a->ei d=true->(∀e∈a,ei e=true->(ce e).1≠(ce d).1)->bT (eo h).b2 (ce d).1=some (eo b).L.length)/\
  (∀b a,h=b++a->∃C,cI z (eo h)=cI z (eo b)++C)/\
  (∀b q s r a,h=b++aD.enum q s r::a->(∀e∈a,ei e=true->(ce e).1≠q)->bT (eo h).cZ q=some (hr r)):=by
 intro v;induction v with
 |zero=>
  intro h w;have:h=[]:=Yv.1 w;subst this;refine⟨(by intro v K;cases K),λp _=>rfl,?_,?_,?_⟩;all_goals simp
 |succ v N=>
  intro h w;have y:h≠[]:=by intro e;subst e;simp at w
  obtain⟨l,i,rfl⟩:∃l i,h=l++[i]:=⟨h.dropLast,h.getLast y,(List.dropLast_concat_getLast y).symm⟩;obtain⟨A,E,F,G,H⟩:=N l (by simpa using w);rw[zb];have split:∀(b:List aD) (d:aD) (a:List aD),l++[i]=b++d::a->(a=[]/\d=i/\b=l)\/∃c,a=c++[i]/\l=b++d::c:=by
   intro b d a g;by_cases f:a=[]
   .subst f;obtain⟨n,t⟩:=List.append_inj' g rfl;simp at t;exact Y8 ⟨rfl,t.symm,n.symm⟩
   .obtain⟨c,k,rfl⟩:∃c k,a=c++[k]:=⟨a.dropLast,a.getLast f,(List.dropLast_concat_getLast f).symm⟩;have j:l++[i]=(b++d::c)++[k]:=by rw[g];simp
    obtain⟨n,t⟩:=List.append_inj' j rfl;simp at t;exact Ya ⟨c,by rw[t],n⟩
  cases m:ei i with
  |false=>
   rw[KO m];refine⟨A,?_,?_,?_,?_⟩
   .intro p x;exact E p (λd B=>x d (Yf _ B))
   .intro b d a g u f;rcases split b d a g with⟨_,rfl,_⟩|⟨c,rfl,j⟩
    .rw[m]at u;cases u
    .exact F b d c j u (λe o=>f e (Yf _ o))
   .intro b a g;by_cases f:a=[]
    .subst f;refine⟨[],?_⟩;simp at g;rw[<-g,zb,KO m];simp
    .obtain⟨c,k,rfl⟩:∃c k,a=c++[k]:=⟨a.dropLast,a.getLast f,(List.dropLast_concat_getLast f).symm⟩;have j:l++[i]=(b++c)++[k]:=by rw[g];simp
     obtain⟨n,_⟩:=List.append_inj' j rfl;exact G b c n
   .intro b q s r a g f;rcases split b _ a g with⟨_,rfl,_⟩|⟨c,rfl,j⟩
    .simp[ei]at m
    .exact H b q s r c j (λe o=>f e (Yf _ o))
  |true=>
   obtain⟨jE,I,J,D,P⟩:=Mh z i (eo l) A m;refine⟨J,?_,?_,?_,?_⟩
   .intro p x;rw[D,we,Y2 (λe=>x i Zq m e.symm)];exact E p (λd B=>x d (Yf _ B))
   .intro b d a g u f;rw[D,we];rcases split b d a g with⟨_,rfl,rfl⟩|⟨c,rfl,j⟩
    .simp
    .rw[Y2 (λe=>f i Zq m e.symm)];exact F b d c j u (λe o=>f e (Yf _ o))
   .intro b a g;by_cases f:a=[]
    .subst f;refine⟨[],?_⟩;simp at g;rw[<-g,zb];simp
    .obtain⟨c,k,rfl⟩:∃c k,a=c++[k]:=⟨a.dropLast,a.getLast f,(List.dropLast_concat_getLast f).symm⟩;have j:l++[i]=(b++c)++[k]:=by rw[g];simp
     obtain⟨n,_⟩:=List.append_inj' j rfl;obtain⟨C,M⟩:=G b c n;exact⟨C++jE,by rw[I,M];simp⟩
   .intro b q s r a g f;rw[Ut i _ A];rcases split b _ a g with⟨_,rfl,rfl⟩|⟨c,rfl,j⟩
    .simp
    .have L:=H b q s r c j (λe o=>f e (Yf _ o));have y:=f i Zq m;cases i with
     |enum S O R=>
      simp only;rw[Y2 (λe=>y (by rw[e];rfl))];omega
     |_=>exact L
section
variable {c:aD}{b:List aD}{n:Zb}{d:Type}
def XY(a:bb):(vU a).L=cI (λn=>(bT a.b2 n).getD 0) a:=by
 have key:∀(d:List (Nat×Zb)) (c:bb),c.b2=a.b2->(d.foldl (λa b=>dD b.1 (.call ((aP a.b2 b.2).getD 0)) a) c).L=d.foldl (λf b=>f.set b.1 (.call ((bT a.b2 b.2).getD 0))) c.L:=by
  intro d;induction d with
  |nil=>simp
  |cons b d g=>
   intro c e;simp only[YY];rw[g (dD b.1 (.call ((aP c.b2 b.2).getD 0)) c) e,e,zu];rfl
 exact key a.aK a rfl
def afc(d:Zb->Nat)(b:bb)(u:Wf b):∀(j:Nat) (a:List aD),a.length=j->
  Wf (a.foldl eK (b,[])).1/\(a.foldl eK (b,[])).1.b2=b.b2/\(∃l,cI d (a.foldl eK (b,[])).1=cI d b++l)/\
  (∀n f,bT (a.foldl eK (b,[])).2 n=some f->(cI d (a.foldl eK (b,[])).1)[f]?=some (.call (d n))/\(cI d (a.foldl eK (b,[])).1)[f+1]?=some .fin/\(bT b.b2 n).isSome)/\
  (∀c∈a,(bT b.b2 (ce c).1).isSome->(bT (a.foldl eK (b,[])).2 (ce c).1).isSome):=by
 intro j;induction j with
 |zero=>
  intro a i;have:a=[]:=Yv.1 i;subst this;exact⟨u,rfl,⟨[],Zq⟩,(by intro n f t;cases t),Zq⟩
 |succ j y=>
  intro a i;have r:a≠[]:=Zg;obtain⟨g,e,rfl⟩:∃g e,a=g++[e]:=⟨a.dropLast,a.getLast r,(List.dropLast_concat_getLast r).symm⟩;obtain⟨m,h,⟨l,p⟩,q,v⟩:=y g Zu;rw[YS];simp only[YY,List.foldl_nil];generalize g.foldl eK (b,[])=k at m h p q v ⊢;unfold eK;rw[zu,h];cases w:(bT b.b2 (ce e).1).isSome with
  |false=>
   simp only[Ye,if_false]
   refine⟨m,h,⟨l,p⟩,q,?_⟩;grind
  |true=>
   simp only[if_true]
   have z:=m.call (ce e).1;have s:cI d (Aa (ce e).1 k.1)=cI d k.1++[.call (d (ce e).1),.fin]:=by
    grind [Aa,mV,Mg]
   have i:(cI d k.1).length=k.1.L.length:=vV;refine⟨z.aX _,h,⟨l++[.call (d (ce e).1),.fin],Zu⟩,?_,?_⟩
   .intro n f o;rw[we]at o;rw[s];split at o
    .rename_i x;subst x;cases o
     refine⟨?_,?_,w⟩
     .grind
     .rw[Yw Zm,i];simp
    grind
   .intro c A B;rw[we];split
    .rfl
    grind
theorem Ii{a}(b:Wf a):gI a a:=⟨b,rfl,rfl,Y4 _,λ_ _ c=>c,λ_ _=>rfl⟩
def Mi(b:Zb->Nat)(c:Ty)(a:bb)(e:Wf a):gI a (oM c a)/\cI b (oM c a)=cI b a++(jV b a.L.length c++[.fin]):=by
 obtain⟨f,d⟩:=xv b c a e;refine⟨d.u (pS d.wf _),?_⟩;grind [oM,mV,gI.wf]
def Fj{i:Type}(f:Zb->Nat)(c:bb×d->i->bb×d)(l:∀a b,Wf a.1->gI a.1 (c a b).1/\∃g,cI f (c a b).1=cI f a.1++g):∀(e:List i) (a:bb×d),Wf a.1->gI a.1 (e.foldl c a).1/\∃g,cI f (e.foldl c a).1=cI f a.1++g:=by
 intro e;induction e with
 |nil=>simp_all[Ii]
 |cons b e m=>
  intro a j;obtain⟨h,n,p⟩:=l a b j;obtain⟨k,o,q⟩:=m (c a b) h.wf;exact⟨h.u k,n++o,Zu⟩
def acA(c:Zb->Nat)(a:bb×List (Int×Nat×Nat))(b:gM)(g:Wf a.1):gI a.1 (mn a b).1/\∃i,cI c (mn a b).1=cI c a.1++i:=by
 obtain⟨d,e⟩:=Mi c b.c1 a.1 g;obtain⟨h,f⟩:=Mi c b.cv _ d.wf;exact⟨d.u h,_,by show cI c (oM b.cv (oM b.c1 a.1))=_;rw[f,e,YN]⟩
def ahf(b:Zb->Nat)(a:bb×jn)(v:go)(c:Wf a.1):gI a.1 (na a v).1/\∃d,cI b (na a v).1=cI b a.1++d:=Fj b mn (acA b) v.ao (a.1,[]) c
def acH(b:Zb->Nat)(a:bb×List (Int×jn))(c:aD)(d:Wf a.1):gI a.1 (hH a c).1/\∃e,cI b (hH a c).1=cI b a.1++e:=by
 cases c with
 |prog i g f h=>exact Fj b na (ahf b) f (a.1,_) d
 |_=>exact⟨Ii d,[],by simp[hH]⟩
def acO(c:Zb->Nat)(b:List aD)(a:bb)(d:Wf a):gI a (b.foldl hH (a,[])).1/\∃e,cI c (b.foldl hH (a,[])).1=cI c a++e:=Fj c hH (acH c) b (a,[]) d
def dL(b:List aD):fG:=λn=>b.find? λc=>ei c&&decide ((ce c).1=n)
def EY(a:dL b n=some c):ei c=true/\(ce c).1=n/\∃e f,b=e++c::f:=by
 unfold dL at a;have d:=List.find?_some a;simp only[Bool.and_eq_true,decide_eq_true_eq]at d;exact⟨d.1,d.2,List.append_of_mem (List.mem_of_find?_eq_some a)⟩
def Lc(a:dL b n=none):∀c∈b,ei c=true->(ce c).1≠n:=by
 grind [dL]
structure nD(b:List aD):Prop where
 nd:∀az c bs,b=az++c::bs->ei c=true->∀e∈bs,ei e=true->(ce e).1≠(ce c).1
 h2:∀c∈b,ei c=true->Iu (dL b) c
 ho:∀az t a s arms bs n a',b=az++aD.union t a s arms::bs->s.H=.named n a'->∃as1 a2 ms as2,az=as1++aD.enum n a2 ms::as2
 k6:∀t a s arms,aD.union t a s arms∈b->hB s.H
 e6:∀c∈b,∀t∈sP c,jm t
def nD.he(i:nD b){d e:List aD}(j:b=d++c::e)(l:ei c=true):dL b (ce c).1=some c:=by
 unfold dL;rw[j,List.find?_append];have:d.find? (λa=>ei a&&decide ((ce a).1=(ce c).1))=none:=by
  rw[List.find?_eq_none];intro a k f;simp only[Bool.and_eq_true,decide_eq_true_eq]at f;obtain⟨g,h,rfl⟩:=List.append_of_mem k;have:=i.nd g a (h++c::e) Zu f.1 c Zq l;simp_all
 grind
def Wn{b e:List d}{a:Nat}{c}(f:b[a]?=some c):(b++e)[a]?=some c:=by
 grind
def HH(f:nD b):∃d,DA (fi b).1 d (dL b)/\∀n,match bT (fi b).2 n with
  |none=>dL b n=none
  |some o=>(dL b n).isSome/\(fi b).1[o]?=some (.call (d n))/\(fi b).1[o+1]?=some .fin:=by
 refine⟨λn=>(bT (eo b).b2 n).getD 0,?_⟩;obtain⟨G,H,w,I,_⟩:=Ky (λn=>(bT (eo b).b2 n).getD 0) b.length b rfl;obtain⟨a5,a6,⟨D,b3⟩,a7,b4⟩:=afc (λn=>(bT (eo b).b2 n).getD 0) (eo b) G b.length b rfl;obtain⟨t,E,N⟩:=acO (λn=>(bT (eo b).b2 n).getD 0) b (b.foldl eK (eo b,[])).1 a5;have R:(fi b).1=cI (λn=>(bT (eo b).b2 n).getD 0) (b.foldl eK (eo b,[])).1++E:=by
  show (vU (b.foldl hH ((b.foldl eK (eo b,[])).1,[])).1).L=_;rw[XY,t.bo,a6,N]
 have a2:(fi b).2=(b.foldl eK (eo b,[])).2:=rfl;rw[R,a2];generalize b0:(λn=>(bT (eo b).b2 n).getD 0)=d at *
 refine⟨?_,?_⟩
 .intro n g O;obtain⟨i,a0,a,e,h⟩:=EY O;refine⟨?_,?_,f.e6 g Zg,?_⟩
  .grind [ei]
  .grind [ei]
  .have a1:=w a g e h i (f.nd a g e h i);have z:d n=(eo a).L.length:=by
    grind
   rw[z];obtain⟨a8,_,_,_,a9⟩:=Ky d a.length a rfl;obtain⟨jE,t,x,y,M⟩:=Mh d g (eo a) a8 i;obtain⟨a4,b1⟩:=I (a++[g]) e Zg;refine M _ _ ?_ (f.h2 g Zg i) ?_
   .have:(cI d (eo a)).length=(eo a).L.length:=vV;rw[<-this];refine RU (post:=a4++D++E) ?_;grind [zb]
   .cases g with
    |union u p k r=>
     show jF (eo a) k.H=lc (dL b) k.H;have B:=f.k6 u p k r (by rw[h];simp);cases C:k.H with
     |named j F=>
      obtain⟨s,q,m,v,P⟩:=f.ho a u p k r e j F h C;have A:b=s++aD.enum j q m::(v++aD.union u p k r::e):=Zg;have K:dL b j=some (.enum j q m):=f.he A rfl;have L:bT (eo a).cZ j=some (hr m):=a9 s j q m v P (λJ l a3=>f.nd s _ _ A rfl J (Yf _ l) a3);simp only[jF,lc,K,zu,L,Option.getD_some]
     |plain b2=>rfl
     |_=>rw[C]at B;simp[hB]at B
    |_=>trivial
 .intro n;cases S:bT (b.foldl eK (eo b,[])).2 n with
  |some o=>
   obtain⟨t,x,y⟩:=a7 n o S;have z:d n=(bT (eo b).b2 n).getD 0:=Zg;refine⟨?_,Zg,Wn x⟩;cases l:dL b n with
   |some c=>rfl
   |none=>
    rw[H n (Lc l)]at y;grind
  |none=>
   show dL b n=none;cases l:dL b n with
   |none=>rfl
   |some c=>
    obtain⟨i,a0,a,e,h⟩:=EY l;have a1:=w a c e h i (f.nd a c e h i);grind
end
section
variable {E:fG}{c:Bool}{n:dI}{h k:Type}
structure kP where
 w:Nat
 n:Int
 s:Zb
 am:Nat
 y:Nat
structure bP where
 aa:Nat
 a0:List kP
def du(b:Zb):Nat:=b.foldl (λn a=>n*256+a.toNat) 0
def fR(n:dI)(v:Nat):Int:=if n.c4<0 then (if v<2147483648 then (v:Int)else (v:Int)-4294967296)else v
def lH(v:Nat):Int:=if v<9223372036854775808 then (v:Int)else (v:Int)-18446744073709551616
def cB(n:Nat):Nat:=(n+3) / 4*4
section
variable (b : Zb)
def mv(c:Nat)(a:bP):Except Mar.ac (Zb×bP):=if b.length<a.aa+c then .error ⟨16,a.aa⟩else .ok ((b.drop a.aa).take c,{ a with aa:=a.aa+c })
def jj(c:bP):Except Mar.ac (Nat×bP):=aA (mv b 4 c) λa=>.ok (du a.1,a.2)
def nV(n:dI)(c:bP):Except Mar.ac (Int×bP):=
 if n.bD then aA (mv b 8 c) λa=>.ok (lH (du a.1),a.2)else aA (jj b c) λa=>.ok (fR n a.1,a.2)
def ik(n:Int)(c:Bool)(a:bP):Except Mar.ac (Nat×bP):=
 if c then .ok (n.toNat,a)else aA (jj b a) λd=>if(d.1:Int)<=n then .ok d else .error ⟨19,a.aa⟩
def jb:Nat->Zb->Option Nat
 |_,[]=>none
 |i,a::b=>if a=0 then jb (i+1) b else some i
def qC(n:Nat)(c:bP):Except Mar.ac (Zb×bP):=aA (mv b (cB n) c) λa=>match jb n (a.1.drop n)with
 |some d=>.error ⟨17,c.aa+d⟩
 |none=>.ok (a.1.take n,a.2)
def dr(b:kP)(a:bP):bP:={ a with a0:=a.a0++[b] }
variable (m j : Nat)
def fB(a:bP):Except Mar.ac bP:=if j<=a.a0.length then .error ⟨15,a.aa⟩else .ok a
def bk:Wk bP where
 cY e a:=if m<=e then .error ⟨13,a.aa⟩else .ok a
 num n a:=aA (fB j a) λa=>aA (nV b n a) λd=>if n.br d.1 then .ok (dr ⟨1,d.1,[],0,0⟩ d.2)else .error ⟨18,a.aa⟩
 text n c a:=aA (fB j a) λa=>aA (ik b n c a) λd=>aA (qC b d.1 d.2) λf=>.ok (dr ⟨2,0,f.1,0,d.2.aa⟩ f.2)
 bH n c a:=aA (fB j a) λa=>aA (ik b n c a) λd=>.ok (d.1,dr ⟨3,0,[],d.1,0⟩ d.2)
 cg n v a:=aA (fB j a) λa=>aA (jj b a) λd=>match v (fR n d.1)with
  |none=>.error ⟨18,a.aa⟩
  |some e=>.ok (fR n d.1,dr ⟨4,fR n d.1,[],e,0⟩ d.2)
end
def pA(E:fG)(n:Zb)(b:Zb)(m j c:Nat):Except Mar.ac (List kP):=
 if c<b.length then .error ⟨14,0⟩else aA (fu (bk b m j) E 64 0 n ⟨0,[]⟩) λa=>if a.aa<b.length then .error ⟨20,a.aa⟩else .ok a.a0
def bZ{b}{c:h->Except Mar.ac k}{e}(d:aA b c=.ok e):∃a,b=.ok a/\c a=.ok e:=by
 cases b with
 |error f=>cases d
 |ok a=>exact⟨a,rfl,d⟩
abbrev AI(a:kP):Nat×Int×Zb×Nat:=(a.w,a.n,a.s,a.am)
def jE(a:Zb)(b c:Nat):Zb:=(a.drop b).take (c-b)
def CT(a:Zb){c b d:Nat}(f:c<=b)(g:b<=d):jE a c b++jE a b d=jE a c d:=by
 unfold jE;have e:d-c=(b-c)+(d-b):=Zm;simp_all[List.take_add]
structure so(a:Zb)(d d':bP)(N:List kP):Prop where
 a0:d'.a0=d.a0++N
 le:d.aa<=d'.aa
 j2:d.aa<=a.length->d'.aa<=a.length
def ph(a b:Zb)(c o:bP->Except Mar.ac (h×bP)):Prop:=∀f i g j k l,c f=.ok (k,g)->o i=.ok (l,j)->∃e d,so a f g e/\so b i j d/\
 ∀m n,e.map AI++m=d.map AI++n->e.map AI=d.map AI/\k=l/\jE a f.aa g.aa=jE b i.aa j.aa
def bR(c:eY bP):bP->Except Mar.ac (Unit×bP):=λa=>aA (c a) λb=>.ok ((),b)
abbrev IB(a b:Zb)(c d:eY bP):Prop:=ph a b (bR c) (bR d)
theorem se{c}{a b:bP}{d:Unit}:bR c a=.ok (d,b)↔c a=.ok b:=by
 unfold bR;cases c a<;>simp[aA]
theorem so.u{a f g h e d}(b:so a f g e)(c:so a g h d):so a f h (e++d):=
 ⟨by rw[c.a0,b.a0];simp,Yz b.le c.le,λi=>c.j2 (b.j2 i)⟩
def acj{a b c A}{t u:h->bP->Except Mar.ac (k×bP)}(L:ph a b c A)(M:∀g,ph a b (t g) (u g))(N:∀g o d m i j b0 v,t g d=.ok (b0,i)->u o m=.ok (v,j)->∃q p,so a d i q/\so b m j p):ph a b (λd=>aA (c d) λl=>t l.1 l.2) (λd=>aA (A d) λl=>u l.1 l.2):=by
 intro d m i j g o S a0;obtain⟨⟨x,r⟩,P,B⟩:=bZ S;obtain⟨⟨E,s⟩,R,C⟩:=bZ a0;obtain⟨q,p,f,D,a1⟩:=L d m r s x E P R;obtain⟨z,y,e,w⟩:=N x E r s i j g o B C;refine⟨q++z,p++y,f.u e,D.u w,?_⟩;intro H I n;simp only[List.map_append,YN]at n;obtain⟨a5,a6,a7⟩:=a1 _ _ n;rw[a5]at n;have O:=List.append_cancel_left n;subst a6;obtain⟨G,F,a4,a3,a2⟩:=M x r s i j g o B C;have K:z=G:=List.append_cancel_left (e.a0.symm.trans a4.a0);have J:y=F:=List.append_cancel_left (w.a0.symm.trans a3.a0);subst K;subst J;obtain⟨b1,a8,a9⟩:=a2 H I O;refine⟨Zu,a8,?_⟩;rw[<-CT a f.le e.le,<-CT b D.le w.le,a7,a9]
def DF(a:Zb)(c:bP->Except Mar.ac (h×bP)):Prop:=∀b d f,c b=.ok (f,d)->∃e,so a b d e
def ph.ke{a:Zb}{c:bP->Except Mar.ac (h×bP)}(g:ph a a c c):DF a c:=λb d f e=>by
 obtain⟨j,i,k,_⟩:=g b b d d f f e e;grind
theorem uO{a e}{c b:bP}{f:Zb}(d:mv a e c=.ok (f,b)):f=jE a c.aa b.aa/\b.aa=c.aa+e/\b.a0=c.a0/\b.aa<=a.length/\f.length=e:=by
 unfold mv at d;split at d
 .cases d
 .cases d
  refine⟨by unfold jE;simp,rfl,rfl,Zu,?_⟩;grind
theorem Em{c d:Zb}(l:c.length=4)(m:d.length=4)(k:du c=du d):c=d:=by
 match c,d,l,m with
 |[a,b,g,i],[e,f,h,j],_,_=>
  simp only[du,YY,List.foldl_nil]at k;have:=a.toNat_lt;have:=b.toNat_lt;have:=g.toNat_lt;have:=i.toNat_lt;have:=e.toNat_lt;have:=f.toNat_lt;have:=h.toNat_lt;have:=j.toNat_lt;have n:a=e:=UInt8.toNat_inj.1 Zm;have o:b=f:=UInt8.toNat_inj.1 Zm;grind [UInt8.toNat_inj]
theorem sI{c:Zb}(d:c.length=4):du c<4294967296:=by
 match c,d with
 |[a,b,e,f],_=>
  grind [du,UInt8.toNat_lt]
theorem SQ{d e:Zb}(r:d.length=8)(s:e.length=8)(q:du d=du e):d=e:=by
 match d,e,r,s with
 |[a,b,h,j,l,c,o,t],[f,g,i,k,m,n,p,u],_,_=>
  simp only[du,YY,List.foldl_nil]at q;have:=a.toNat_lt;have:=b.toNat_lt;have:=h.toNat_lt;have:=j.toNat_lt;have:=f.toNat_lt;have:=g.toNat_lt;have:=i.toNat_lt;have:=k.toNat_lt;have:=l.toNat_lt;have:=c.toNat_lt;have:=o.toNat_lt;have:=t.toNat_lt;have:=m.toNat_lt;have:=n.toNat_lt;have:=p.toNat_lt;have:=u.toNat_lt;have v:a=f:=UInt8.toNat_inj.1 Zm;have w:b=g:=UInt8.toNat_inj.1 Zm;have x:h=i:=UInt8.toNat_inj.1 Zm;have y:j=k:=UInt8.toNat_inj.1 Zm;have z:l=m:=UInt8.toNat_inj.1 Zm;have A:c=n:=UInt8.toNat_inj.1 Zm;have B:o=p:=UInt8.toNat_inj.1 Zm;grind [UInt8.toNat_inj]
theorem Bb{l:Zb}(d:l.length=8):du l<18446744073709551616:=by
 match l,d with
 |[a,b,e,f,g,c,h,i],_=>
  simp only[du,YY,List.foldl_nil];grind [UInt8.toNat_lt]
theorem Ni{a b:Nat}(d:a<4294967296)(e:b<4294967296)(c:fR n a=fR n b):a=b:=by
 grind [fR]
theorem abN{a b:Nat}(d:a<18446744073709551616)(e:b<18446744073709551616)(c:lH a=lH b):a=b:=by
 grind [lH]
theorem oU{a}{c b:bP}{v:Nat}(d:jj a c=.ok (v,b)):v=du (jE a c.aa b.aa)/\(jE a c.aa b.aa).length=4/\b.aa=c.aa+4/\b.a0=c.a0/\b.aa<=a.length:=by
 obtain⟨⟨m,g⟩,e,f⟩:=bZ d;cases f
 obtain⟨h,i,j,k,l⟩:=uO e;simp_all
def xE{a}{d b:bP}{v:Int}(c:nV a n d=.ok (v,b)):v=(if n.bD then lH (du (jE a d.aa b.aa))else fR n (du (jE a d.aa b.aa)))/\(jE a d.aa b.aa).length=(if n.bD then 8 else 4)/\d.aa<=b.aa/\b.a0=d.a0/\b.aa<=a.length:=by
 unfold nV at c;cases g:n.bD with
 |true=>
  rw[g]at c;simp only[if_true]at c ⊢
  obtain⟨⟨i,h⟩,e,f⟩:=bZ c;cases f
  obtain⟨j,k,l,m,o⟩:=uO e;simp_all
 |false=>
  rw[g]at c;simp only[Ye,if_false]at c ⊢
  obtain⟨⟨i,h⟩,e,f⟩:=bZ c;grind [oU]
def oz{a n}{b d:bP}{v:Nat}(e:ik a n c b=.ok (v,d)):b.aa<=d.aa/\d.a0=b.a0/\(b.aa<=a.length->d.aa<=a.length)/\
  (if c then v=n.toNat/\d=b else v=du (jE a b.aa d.aa)/\(jE a b.aa d.aa).length=4):=by
 unfold ik at e;cases c with
 |true=>
  simp_all
 |false=>
  simp only[Ye,if_false]at e ⊢
  obtain⟨⟨i,f⟩,g,h⟩:=bZ e;grind [oU]
theorem SK:∀(a:Zb) (b:Nat),jb b a=none->a=List.replicate a.length 0:=by
 intro a;induction a<;>grind [jb]
def zK{a n}{c b:bP}{d:Zb}(e:qC a n c=.ok (d,b)):jE a c.aa b.aa=d++List.replicate (cB n-n) 0/\d.length=n/\c.aa<=b.aa/\b.a0=c.a0/\b.aa<=a.length:=by
 obtain⟨⟨i,f⟩,g,h⟩:=bZ e;grind [uO,cB,SK,List.take_append_drop]
section
variable {a b : Zb} {da fa db fb : Nat}
def ud{j}{a b:bP}(c:fB j a=.ok b):b=a:=by
 grind [fB]
def xL(n:dI):IB a b ((bk a da fa).num n) ((bk b db fb).num n):=by
 intro D H E I M N h i;rw[se]at h i;obtain⟨F,o,q⟩:=bZ h;obtain⟨J,p,r⟩:=bZ i;have:=ud o;subst this;have:=ud p;subst this;obtain⟨⟨v,G⟩,l,c⟩:=bZ q;obtain⟨⟨L,K⟩,m,d⟩:=bZ r;simp only at c d;split at c
 .split at d
  .cases c
   cases d
   obtain⟨s,j,t,u,w⟩:=xE l;obtain⟨x,k,y,z,A⟩:=xE m;refine⟨[_],[_],⟨by simp only[dr];rw[u],t,λ_=>w⟩,⟨by simp only[dr];rw[z],y,λ_=>A⟩,?_⟩;intro B C f;simp only[List.map_cons,List.map_nil,YX,YT,List.cons.injEq,Prod.mk.injEq]at f ⊢;obtain⟨⟨_,e,_⟩,_⟩:=f;refine⟨Zg,trivial,?_⟩;rw[s,x]at e;simp only[dr];cases g:n.bD with
   |true=>
    simp only[g,if_true]at e j k
    grind [SQ,abN,Bb]
   |false=>
    simp only[g,Ye,if_false]at e j k
    grind [Em,Ni,sI]
  simp_all
 simp_all
theorem KC{n}{d e f g:bP}{v:Nat}(h:ik a n c d=.ok (v,e))(j:ik b n c f=.ok (v,g)):jE a d.aa e.aa=jE b f.aa g.aa:=by
 obtain⟨_,_,_,i⟩:=oz h;obtain⟨_,_,_,k⟩:=oz j;cases c with
 |true=>
  simp_all[jE]
 |false=>
  simp only[Ye,if_false]at i k
  grind [Em]
def xM(n:Int)(c:Bool):IB a b ((bk a da fa).text n c) ((bk b db fb).text n c):=by
 intro P a2 R a3 b1 b2 i j;rw[se]at i j;obtain⟨S,w,A⟩:=bZ i;obtain⟨a4,x,B⟩:=bZ j;have:=ud w;subst this;have:=ud x;subst this;obtain⟨⟨v,a0⟩,g,p⟩:=bZ A;obtain⟨⟨I,a5⟩,h,q⟩:=bZ B;obtain⟨⟨a7,a1⟩,r,t⟩:=bZ p;obtain⟨⟨a8,a6⟩,s,u⟩:=bZ q;cases t
 cases u
 obtain⟨d,m,L,N⟩:=oz g;obtain⟨e,o,M,O⟩:=oz h;obtain⟨C,a9,k,E,G⟩:=zK r;obtain⟨D,b0,l,F,H⟩:=zK s;refine⟨[_],[_],⟨by simp only[dr];rw[E,m],Yz d k,λ_=>G⟩,⟨by simp only[dr];rw[F,o],Yz e l,λ_=>H⟩,?_⟩;intro J K f;simp only[List.map_cons,List.map_nil,YX,YT,List.cons.injEq,Prod.mk.injEq]at f ⊢;obtain⟨⟨_,_,y,_⟩,_⟩:=f;refine⟨Zg,trivial,?_⟩;have z:v=I:=by
  simp_all
 subst z;simp only[dr];rw[<-CT a d k,<-CT b e l,KC g h,C,D,y]
def xK(n:Int)(c:Bool):ph a b ((bk a da fa).bH n c) ((bk b db fb).bH n c):=by
 intro B F C G K L s u;obtain⟨D,p,t⟩:=bZ s;obtain⟨H,q,w⟩:=bZ u;have:=ud p;subst this;have:=ud q;subst this;obtain⟨⟨v,E⟩,k,m⟩:=bZ t;obtain⟨⟨J,I⟩,l,o⟩:=bZ w;cases m
 cases o
 obtain⟨e,g,i,z⟩:=oz k;obtain⟨f,h,j,A⟩:=oz l;refine⟨[_],[_],⟨by simp only[dr];rw[g],e,i⟩,⟨by simp only[dr];rw[h],f,j⟩,?_⟩;intro x y d;simp only[List.map_cons,List.map_nil,YX,YT,List.cons.injEq,Prod.mk.injEq]at d ⊢;obtain⟨⟨_,_,_,r⟩,_⟩:=d;subst r;refine⟨Zq,rfl,?_⟩;grind [dr,KC]
def xJ(n:dI)(v:Int->Option Nat):ph a b ((bk a da fa).cg n v) ((bk b db fb).cg n v):=by
 intro u z w A L M j l;obtain⟨x,h,k⟩:=bZ j;obtain⟨B,i,m⟩:=bZ l;have:=ud h;subst this;have:=ud i;subst this;obtain⟨⟨J,y⟩,f,c⟩:=bZ k;obtain⟨⟨K,C⟩,g,d⟩:=bZ m;simp only at c d;split at c
 .grind
 .split at d
  .grind
  .cases c
   cases d
   obtain⟨D,E,F,o,p⟩:=oU f;obtain⟨G,H,I,q,r⟩:=oU g;refine⟨[_],[_],⟨by simp only[dr];rw[o],by simp only[dr];omega,λ_=>p⟩,⟨by simp only[dr];rw[q],by simp only[dr];omega,λ_=>r⟩,?_⟩;intro s t e;simp only[List.map_cons,List.map_nil,YX,YT,List.cons.injEq,Prod.mk.injEq]at e ⊢;grind [dr,Em,Ni,sI]
end
structure jI{h:Type}(a b:Zb)(c g:bP->Except Mar.ac (h×bP)):Prop where
 ab:ph a b c g
 fa:DF a c
 fb:DF b g
def jI.then{a b c t}{f2 g2:h->bP->Except Mar.ac (k×bP)}(o:jI a b c t)(f:∀d,jI a b (f2 d) (g2 d)):jI a b (λe=>aA (c e) λi=>f2 i.1 i.2) (λe=>aA (t e) λi=>g2 i.1 i.2):=by
 refine⟨acj o.ab (λd=>(f d).ab) ?_,?_,?_⟩
 .intro d x e y s z A v g w;obtain⟨l,n⟩:=(f d).fa _ _ _ g;obtain⟨j,m⟩:=(f x).fb _ _ _ w;grind
 .intro e s d g;obtain⟨⟨r,u⟩,p,q⟩:=bZ g;obtain⟨l,n⟩:=o.fa _ _ _ p;obtain⟨j,m⟩:=(f r).fa _ _ _ q;exact⟨l++j,n.u m⟩
 .intro e s d g;obtain⟨⟨r,u⟩,p,q⟩:=bZ g;obtain⟨l,n⟩:=o.fb _ _ _ p;obtain⟨j,m⟩:=(f r).fb _ _ _ q;exact⟨l++j,n.u m⟩
def uf{a b:Zb}{c d:bP->Except Mar.ac (h×bP)}(e:ph a b c d)(f:ph a a c c)(g:ph b b d d):jI a b c d:=⟨e,f.ke,g.ke⟩
theorem Bc{a b}:jI a b (bR λd=>.ok d) (bR λd=>.ok d):=by
 refine⟨?_,?_,?_⟩
 .intro d j e k g l c f;rw[se]at c f;cases c
  cases f
  exact⟨[],[],⟨Zq,Y4 _,id⟩,⟨Zq,Y4 _,id⟩,λh i _=>⟨rfl,rfl,by simp[jE]⟩⟩
 .intro d e g c;rw[se]at c;cases c
  exact⟨[],Zq,Y4 _,id⟩
 .intro d e g c;rw[se]at c;cases c
  exact⟨[],Zq,Y4 _,id⟩
theorem yY{a b}(g h:bP->Mar.ac):jI a b (bR λc=>.error (g c)) (bR λc=>.error (h c)):=by
 refine⟨?_,?_,?_⟩
 .intro c i d j f v e k;grind [se]
 .intro c d f e;grind [se]
 .intro c d f e;grind [se]
def uR(c:bP->Except Mar.ac (h×bP))(d:h->eY bP):bR (λa=>aA (c a) λb=>d b.1 b.2)=λa=>aA (c a) λb=>bR (d b.1) b.2:=by
 funext a;simp only[bR];cases c a<;>rfl
def uQ(c b:eY bP):bR (λa=>aA (c a) b)=λa=>aA (bR c a) λd=>bR b d.2:=by
 funext a;simp only[bR];cases c a<;>rfl
section
variable {a b : Zb} {da fa db fb : Nat} {f e : Zb -> eY bP}
def SY{c e}(j:jI a b (bR c) (bR e)):∀d,jI a b (bR (hJ c d)) (bR (hJ e d)):=by
 intro d;induction d with
 |zero=>exact Bc
 |succ d k=>
  have h:bR (hJ c (d+1))=λf=>aA (bR c f) λg=>bR (hJ c d) g.2:=uQ c (hJ c d);have i:bR (hJ e (d+1))=λf=>aA (bR e f) λg=>bR (hJ e d) g.2:=uQ e (hJ e d);rw[h,i];exact j.then λ_=>k
theorem Ev(o:∀n,jI a b (bR (f n)) (bR (e n)))(l:Ty):jI a b (bR (ea (bk a da fa) f l)) (bR (ea (bk b db fb) e l)):=by
 induction l with
 |named n i=>exact o n
 |plain g=>exact uf (xL _) (xL _) (xL _)
 |opaq n c=>exact uf (xM _ _) (xM _ _) (xM _ _)
 |str n c=>exact uf (xM _ _) (xM _ _) (xM _ _)
 |void=>exact Bc
 |arr h n c m=>
  have j:bR (ea (bk a da fa) f (.arr h n c))=λd=>aA ((bk a da fa).bH n c d) λi=>bR (hJ (ea (bk a da fa) f h) i.1) i.2:=uR _ λg=>hJ (ea (bk a da fa) f h) g;have k:bR (ea (bk b db fb) e (.arr h n c))=λd=>aA ((bk b db fb).bH n c d) λi=>bR (hJ (ea (bk b db fb) e h) i.1) i.2:=uR _ λg=>hJ (ea (bk b db fb) e h) g;rw[j,k];exact(uf (xK _ _) (xK _ _) (xK _ _)).then λg=>SY m g
 |opt h m=>
  have j:bR (ea (bk a da fa) f (.opt h))=λd=>aA ((bk a da fa).cg (dy 4) jP d) λi=>bR (if i.1=1 then ea (bk a da fa) f h else λd=>.ok d) i.2:=by
   refine(Eq.trans ?_ (uR _ λg=>if g=1 then ea (bk a da fa) f h else λd=>.ok d))
   congr 1;grind [ea]
  have k:bR (ea (bk b db fb) e (.opt h))=λd=>aA ((bk b db fb).cg (dy 4) jP d) λi=>bR (if i.1=1 then ea (bk b db fb) e h else λd=>.ok d) i.2:=by
   refine(Eq.trans ?_ (uR _ λg=>if g=1 then ea (bk b db fb) e h else λd=>.ok d))
   congr 1;grind [ea]
  rw[j,k];refine jI.then (f2:=λg=>bR (if g=1 then ea (bk a da fa) f h else λd=>.ok d)) (g2:=λg=>bR (if g=1 then ea (bk b db fb) e h else λd=>.ok d)) (uf (xJ _ _) (xJ _ _) (xJ _ _)) λg=>?_
  by_cases p:g=1;all_goals simp_all[Bc]
def SV(k:∀n,jI a b (bR (f n)) (bR (e n))):∀c:List Ty,jI a b (bR (mg (bk a da fa) f c)) (bR (mg (bk b db fb) e c)):=by
 intro c;induction c with
 |nil=>exact Bc
 |cons d c l=>
  have i:bR (mg (bk a da fa) f (d::c))=λg=>aA (bR (ea (bk a da fa) f d) g) λh=>bR (mg (bk a da fa) f c) h.2:=uQ ..;have j:bR (mg (bk b db fb) e (d::c))=λg=>aA (bR (ea (bk b db fb) e d) g) λh=>bR (mg (bk b db fb) e c) h.2:=uQ ..;rw[i,j];exact(Ev k d).then λ_=>l
theorem SW(q:∀n,jI a b (bR (f n)) (bR (e n)))(m:aD):jI a b (bR (iH (bk a da fa) E f m)) (bR (iH (bk b db fb) E e m)):=by
 cases m with
 |const c k v=>exact yY (λ_=>⟨0,0⟩) (λ_=>⟨0,0⟩)
 |prog c k v n=>exact yY (λ_=>⟨0,0⟩) (λ_=>⟨0,0⟩)
 |typedef c=>exact Ev q c.H
 |enum c k j=>exact uf (xL _) (xL _) (xL _)
 |struct c k j=>
  have o:bR (iH (bk a da fa) E f (.struct c k j))=λh=>aA ((bk a da fa).bH j.length true h) λg=>bR (mg (bk a da fa) f (j.map (·.H))) g.2:=uR _ λ_=>mg (bk a da fa) f (j.map aV.H);have p:bR (iH (bk b db fb) E e (.struct c k j))=λh=>aA ((bk b db fb).bH j.length true h) λg=>bR (mg (bk b db fb) e (j.map (·.H))) g.2:=uR _ λ_=>mg (bk b db fb) e (j.map aV.H);rw[o,p];exact(uf (xK _ _) (xK _ _) (xK _ _)).then λ_=>SV q _
 |union c k l d=>
  have o:bR (iH (bk a da fa) E f (.union c k l d))=λh=>aA ((bk a da fa).cg (lc E l.H) (tY E l.H d) h) λg=>bR (match iF d g.1 with|some c=>ea (bk a da fa) f c|none=>λ_=>.error ⟨0,0⟩) g.2:=by
   refine(Eq.trans ?_ (uR _ λi=>match iF d i with|some c=>ea (bk a da fa) f c|none=>λ_=>.error ⟨0,0⟩));congr 1;funext h;simp only[iH];congr 1;funext g;cases iF d g.1<;>rfl
  have p:bR (iH (bk b db fb) E e (.union c k l d))=λh=>aA ((bk b db fb).cg (lc E l.H) (tY E l.H d) h) λg=>bR (match iF d g.1 with|some c=>ea (bk b db fb) e c|none=>λ_=>.error ⟨0,0⟩) g.2:=by
   refine(Eq.trans ?_ (uR _ λi=>match iF d i with|some c=>ea (bk b db fb) e c|none=>λ_=>.error ⟨0,0⟩));congr 1;funext h;simp only[iH];congr 1;funext g;cases iF d g.1<;>rfl
  rw[o,p];refine jI.then (f2:=λi=>bR (match iF d i with|some c=>ea (bk a da fa) f c|none=>λ_=>.error ⟨0,0⟩)) (g2:=λi=>bR (match iF d i with|some c=>ea (bk b db fb) e c|none=>λ_=>.error ⟨0,0⟩)) (uf (xJ _ _) (xJ _ _) (xJ _ _)) λi=>?_;cases iF d i<;>simp_all[yY,Ev]
end
def Kh{a b da fa db fb k l}:jI a b (bR ((bk a da fa).cY k)) (bR ((bk b db fb).cY l)):=by
 have f:∀(i:Zb) (g h n:Nat) (c d:bP) (m:Unit),bR ((bk i g h).cY n) c=.ok (m,d)->d=c:=by
  grind [se,bk]
 refine⟨?_,?_,?_⟩
 .intro c q d r g h e j;have:=f _ _ _ _ _ _ _ e;subst this;have:=f _ _ _ _ _ _ _ j;subst this;exact⟨[],[],⟨Zq,Y4 _,id⟩,⟨Zq,Y4 _,id⟩,λo p _=>⟨rfl,rfl,by simp[jE]⟩⟩
 .intro c d g e;have:=f _ _ _ _ _ _ _ e;subst this;exact⟨[],Zq,Y4 _,id⟩
 .intro c d g e;have:=f _ _ _ _ _ _ _ e;subst this;exact⟨[],Zq,Y4 _,id⟩
def SX{a b da fa db fb}:∀(d c:Nat) (n:Zb),jI a b (bR (fu (bk a da fa) E d c n)) (bR (fu (bk b db fb) E d c n)):=by
 intro d;induction d with
 |zero=>
  intro c n;have g:bR (fu (bk a da fa) E 0 c n)=λe=>aA (bR ((bk a da fa).cY c) e) λf=>bR (λ_=>.error ⟨0,0⟩) f.2:=uQ ..;have h:bR (fu (bk b db fb) E 0 c n)=λe=>aA (bR ((bk b db fb).cY c) e) λf=>bR (λ_=>.error ⟨0,0⟩) f.2:=uQ ..;rw[g,h];exact Kh.then λ_=>yY (λ_=>⟨0,0⟩) (λ_=>⟨0,0⟩)
 |succ d j=>
  intro c n;have g:bR (fu (bk a da fa) E (d+1) c n)=λe=>aA (bR ((bk a da fa).cY c) e) λf=>bR (match E n with|some df=>iH (bk a da fa) E (fu (bk a da fa) E d (c+1)) df|none=>λ_=>.error ⟨0,0⟩) f.2:=by
   refine(Eq.trans ?_ (uQ ..));congr 1;funext e;simp only[fu];congr 1;funext i;cases E n<;>rfl
  have h:bR (fu (bk b db fb) E (d+1) c n)=λe=>aA (bR ((bk b db fb).cY c) e) λf=>bR (match E n with|some df=>iH (bk b db fb) E (fu (bk b db fb) E d (c+1)) df|none=>λ_=>.error ⟨0,0⟩) f.2:=by
   refine(Eq.trans ?_ (uQ ..));congr 1;funext e;simp only[fu];congr 1;funext i;cases E n<;>rfl
  rw[g,h];refine jI.then (f2:=λ_=>bR (match E n with|some df=>iH (bk a da fa) E (fu (bk a da fa) E d (c+1)) df|none=>λ_=>.error ⟨0,0⟩)) (g2:=λ_=>bR (match E n with|some df=>iH (bk b db fb) E (fu (bk b db fb) E d (c+1)) df|none=>λ_=>.error ⟨0,0⟩)) Kh λ_=>?_;cases E n<;>simp_all[yY,SW]
end
section
variable {E:fG}{h g j:Nat}
def KI{e b k}(c:pA E e b h g j=.ok k):b.length<=j/\fu (bk b h g) E 64 0 e ⟨0,[]⟩=.ok ⟨b.length,k⟩:=by
 unfold pA at c;split at c
 .cases c
 obtain⟨d,f,i⟩:=bZ c;split at i
 .grind
 rename_i p o;cases i
 obtain⟨m,l⟩:=(SX (a:=b) (b:=b) (da:=h) (fa:=g) (db:=h) (fb:=g) (E:=E) 64 0 e).fa ⟨0,[]⟩ d () (se.2 f);have:=l.j2 (YV _);refine⟨Zm,?_⟩;rw[f];have n:d.aa=b.length:=Zm;cases d<;>simp_all
structure vw{i:Type}(e:Wk i)(c:i->Prop):Prop where
 cY:∀k d d',c d->e.cY k d=.ok d'->c d'
 num:∀n d d',c d->e.num n d=.ok d'->c d'
 text:∀n f d d',c d->e.text n f d=.ok d'->c d'
 bH:∀n f d p,c d->e.bH n f d=.ok p->c p.2
 cg:∀n v d p,c d->e.cg n v d=.ok p->c p.2
section
variable {i : Type} {e : Wk i} {c : i -> Prop} {nm : Zb -> eY i}
def Xl{f:eY i}(l:∀a b,c a->f a=.ok b->c b):∀d a b,c a->hJ f d a=.ok b->c b:=by
 intro d;induction d with
 |zero=>intro a b g e;cases e;omega
 |succ d m=>
  intro a b g e;obtain⟨h,j,k⟩:=bZ e;grind
theorem FA(f:vw e c)(o:∀d a b,c a->nm d a=.ok b->c b)(n:Ty):∀a b,c a->ea e nm n a=.ok b->c b:=by
 induction n with
 |named d m=>exact o d
 |plain r=>exact f.num _
 |opaq d j=>exact f.text _ _
 |str d j=>exact f.text _ _
 |void=>intro a b h g;cases g;omega
 |arr p d j l=>
  intro a b h g;obtain⟨m,i,k⟩:=bZ g;exact Xl l _ _ _ (f.bH _ _ _ _ h i) k
 |opt p l=>
  intro a b h g;obtain⟨m,i,k⟩:=bZ g;have q:=f.cg _ _ _ _ h i;grind
def Xj(i:vw e c)(l:∀h a b,c a->nm h a=.ok b->c b):∀(d:List Ty) a b,c a->mg e nm d a=.ok b->c b:=by
 intro d;induction d with
 |nil=>intro a b g f;cases f;omega
 |cons o d m=>
  intro a b g f;obtain⟨n,j,k⟩:=bZ f;grind [FA]
theorem Xk(h:vw e c)(m:∀n a b,c a->nm n a=.ok b->c b)(k:aD):∀a b,c a->iH e E nm k a=.ok b->c b:=by
 cases k with
 |const g f v=>intro a p _ d;cases d
 |prog g f v n=>intro a p _ d;cases d
 |typedef g=>exact FA h m g.H
 |enum g f o=>exact h.num _
 |struct g f o=>
  intro a b j d;obtain⟨f,i,l⟩:=bZ d;exact Xj h m _ _ _ (h.bH _ _ _ _ j i) l
 |union g f s q=>
  intro a b j d;obtain⟨f,i,l⟩:=bZ d;have r:=h.cg _ _ _ _ j i;grind [FA]
def Fy(i:vw e c):∀(b g:Nat) (h:Zb) a d,c a->fu e E b g h a=.ok d->c d:=by
 intro b;induction b with
 |zero=>
  intro g h a p _ f;obtain⟨_,_,k⟩:=bZ f;grind
 |succ b o=>
  intro g h a d l f;obtain⟨m,j,k⟩:=bZ f;have n:=i.cY _ _ _ l j;grind [Xk]
end
def uc{a b:bP}(c:fB g a=.ok b):b=a/\a.a0.length<g:=by
 unfold fB at c;grind
def Ue(l:Zb)(h g:Nat):vw (bk l h g) λm=>m.a0.length<=g where
 cY k m d' hd a:=by
  grind [bk]
 num n m d' hd a:=by
  obtain⟨d,e,j⟩:=bZ a;clear a;obtain⟨rfl,q⟩:=uc e;obtain⟨b,i,a⟩:=bZ j;split at a
  .cases a
   obtain⟨_,_,_,o,_⟩:=xE (show nV l n d=.ok (b.1,b.2)from i);simp[dr,o];omega
  grind
 text n f m d' hd a:=by
  obtain⟨d,e,j⟩:=bZ a;clear a;obtain⟨rfl,q⟩:=uc e;obtain⟨b,i,a⟩:=bZ j;obtain⟨c,r,a⟩:=bZ a;cases a
  obtain⟨_,p,_,_⟩:=oz (show ik l n f d=.ok (b.1,b.2)from i);obtain⟨_,_,_,o,_⟩:=zK (show qC l b.1 b.2=.ok (c.1,c.2)from r);simp[dr,o,p];omega
 bH n f m b hd a:=by
  obtain⟨d,e,j⟩:=bZ a;clear a;obtain⟨rfl,q⟩:=uc e;obtain⟨c,i,a⟩:=bZ j;cases a
  obtain⟨_,p,_,_⟩:=oz (show ik l n f d=.ok (c.1,c.2)from i);simp[dr,p];omega
 cg n v m b hd a:=by
  obtain⟨d,e,j⟩:=bZ a;clear a;obtain⟨rfl,q⟩:=uc e;obtain⟨c,i,a⟩:=bZ j;split at a
  .cases a
  .cases a
   obtain⟨_,_,_,o,_⟩:=oU (show jj l d=.ok (c.1,c.2)from i);simp[dr,o];omega
def Uq{b a c}(d:pA E b a h g j=.ok c):c.length<=g:=by
 obtain⟨_,e⟩:=KI d;exact Fy (Ue a h g) 64 0 b ⟨0,[]⟩ _ (YV _) e
end
section
structure dW where
 w:Int
 n:Int
 s:Zb
 y:Int
 am:Int
structure cw where
 O:Nat
 i:Zb
def dM(a:Int):Zb:=[UInt8.ofNat ((a % 4294967296).toNat / 16777216),UInt8.ofNat ((a % 4294967296).toNat / 65536),UInt8.ofNat ((a % 4294967296).toNat / 256),UInt8.ofNat (a % 4294967296).toNat]
def gY(b:Int)(c:Bool)(a:Int):Bool:=if c then decide (a=b)else decide (0<=a)&&decide (a<=b)
section
variable (v : List dW) (c b a : Nat)
def hh(e:Int)(d:dW->Bool)(a:cw):Except Mar.ac (dW×cw):=
 if b<=a.O then .error ⟨15,a.O⟩else match v[a.O]? with
  |none=>.error ⟨12,a.O⟩
  |some c=>if c.w=e/\d c=true then .ok (c,{ a with O:=a.O+1 })else .error ⟨12,a.O⟩
def mo(c:Nat)(b:cw):Except Mar.ac cw:=if a<b.i.length+c then .error ⟨14,b.O-1⟩else .ok b
def kM(c:Int)(b:cw):Except Mar.ac cw:=aA (mo a 4 b) λb=>.ok { b with i:=b.i++dM c }
def lJ(a:Zb):Zb:=a++List.replicate (cB a.length-a.length) 0
def wm(c:Zb)(b:cw):Except Mar.ac cw:=aA (mo a (cB c.length) b) λb=>.ok { b with i:=b.i++lJ c }
def nF(c:Int->Option Nat)(a:dW):Bool:=match c a.n with
 |some b=>decide (a.am=b)
 |none=>false
def ft:Wk cw where
 cY k d:=if c<=k then .error ⟨13,d.O⟩else .ok d
 num n d:=aA (hh v b 1 (λg=>n.br g.n) d) λe=>aA (if n.bD then kM a (e.1.n / 4294967296) e.2 else .ok e.2) λd=>kM a e.1.n d
 text n f d:=aA (hh v b 2 (λg=>gY n f g.s.length) d) λe=>aA (if f then .ok e.2 else kM a e.1.s.length e.2) λd=>wm a e.1.s d
 bH n f d:=aA (hh v b 3 (λg=>gY n f g.am) d) λe=>aA (if f then .ok e.2 else kM a e.1.am e.2) λd=>.ok (e.1.am.toNat,d)
 cg n w d:=aA (hh v b 4 (nF w) d) λe=>aA (kM a e.1.n e.2) λd=>.ok (e.1.n,d)
end
def jx(e:fG)(f:Zb)(v:List dW)(c b a:Nat):Except Mar.ac (Zb):=
 aA (fu (ft v c b a) e 64 0 f ⟨0,[]⟩) λd=>if d.O<v.length then .error ⟨12,d.O⟩else .ok d.i
theorem Dy(a:Int):(dM a).length=4:=rfl
theorem SP{b a:Zb}(c:a.length=4):du (b++a)=du b*4294967296+du a:=by
 match a,c with
 |[d,e,f,g],_=>
  grind [du]
end
def agf{v:List dW}{d:Nat}{e:Int}{c:dW->Bool}{a:cw}{b:dW×cw}(f:hh v d e c a=.ok b):a.O<d/\v[a.O]?=some b.1/\b.1.w=e/\c b.1=true/\b.2 = { a with O:=a.O+1 }:=by
 unfold hh at f;grind
def HY{e:Nat}{d:Int}{a b:cw}(f:kM e d a=.ok b):b = { a with i:=a.i++dM d }/\b.i.length<=e:=by
 obtain⟨h,c,g⟩:=bZ f;unfold mo at c;split at c
 .grind
 .cases c
  cases g<;>simp_all[Dy]
def ach{e:Nat}{a:Zb}{b c:cw}(f:wm e a b=.ok c):c = { b with i:=b.i++lJ a }/\c.i.length<=e:=by
 obtain⟨h,d,g⟩:=bZ f;unfold mo at d;split at d
 .grind
 .cases d
  cases g
  have i:(lJ a).length=cB a.length:=by grind [lJ,cB]
  simp_all
def UI(v:List dW)(j l i:Nat):vw (ft v j l i) λc=>c.i.length<=i where
 cY k c e' he a:=by
  grind [ft]
 num n c e' he a:=by
  obtain⟨h,e,a⟩:=bZ a;obtain⟨g,d,b⟩:=bZ a;exact(HY b).2
 text n f c e' he a:=by
  obtain⟨h,e,a⟩:=bZ a;obtain⟨g,d,b⟩:=bZ a;exact(ach b).2
 bH n f c p' he a:=by
  obtain⟨h,e,a⟩:=bZ a;obtain⟨_,_,_,_,m⟩:=agf e;obtain⟨g,d,b⟩:=bZ a;cases b
  split at d
  .grind
  .exact(HY d).2
 cg n w c p' he a:=by
  obtain⟨h,e,a⟩:=bZ a;obtain⟨g,d,b⟩:=bZ a;cases b
  exact(HY d).2
section
def Xh:(prog.info? 273).map (λa=>(a.zero,a.size,a.bytes))=some (some .nilIface,1,16):=Zk
def WY:(prog.info? 269).map (λa=>(a.zero,a.size,a.bytes))=some (some (.agg #[Y 0,.string ⟨#[]⟩]),2,24):=Zk
section
variable {e b : Zw} {c : kO} {F : List Th} {d : List (Nat × Obj)} {a : bb} {k h v : Zv} {f : List (cX × Zv)} {g : List (Zb × dI × Zv)} {x : cX} {n : Nat}
def NE(l:iz e c F d a k h f g b)(z:nC d v x)(a6:a.L.length<1000000):Calls prog 131 #[Zp c.C,v] b λK a3=>K=.returned (Y a.L.length)/\∃a2,iz e c F d (bh x a) a2 h (f++[(x,v)]) g a3:=by
 obtain⟨J,a5,rfl⟩:=z.md
 obtain⟨ad,q,rfl⟩:=aW l.row;have A:=aE l.aw;have D:=bl l.aw;have G:=ay l.aw;have p:=U l;have I:=U z;have w:af (∀o,(b.alloc o).ownsRow 0 273 1 (.slice ad a.L.length q) a.L.length (f.map (·.2))):=λo=>bQ l.row ((ar [] b).A o) Zq;have R:(a.L.length+1)*16<=140737488355328:=Zm;go_in;go_wp2_with (at_builtin;refine ku Xh underlying102 (w.i _) [.iface J a5] (heap_alloc_new b _) Zy R (YV _) (H:=b.heap.size+1) Zq ?_;intro s r a4 y u t S;have n:=U (kR (F:=F)▸p.i.bS.a4 (fm (i:=1) rfl) ((ar [] b).A _) y u t Zq);clear y u t S w A D G;have m:a4.heap[c.C]?=some (.cells #[.slice ad a.L.length q,.map (some c.B),.map (some c.E),h] 167):=n.i.b0 (i:=0) rfl;have A:=aE m;have D:=bl m;have G:=ay m;clear m)
 go_ret;obtain⟨M,N,O,P⟩:=qz (j:=0) (n.i.b0 (i:=0) rfl) (.slice (some ⟨s,0,none⟩) (a.L.length+1) r);have l:=p.i;exact⟨Zq,.slice (some ⟨s,0,none⟩) (a.L.length+1) r,by simpa[uh,bh]using n.i.gf (i:=0) rfl M N O P,l.g2,l.g4,l.g9,l.hd,by simp[bh,l.g3],λa1 a0=>(Yn.1 a0).elim (l.g6 a1) λL=>by cases Yc.1 L;exact I.i⟩
def qF(j:af (Cm e c F d a b))(o:nC d v x)(m:bG a n)(s:1<=n:=by omega):Calls prog 131 #[Zp c.C,v] b (pa e c F d (bh x a) (Y a.L.length)):=by
 obtain⟨l,k,h,f,g,i,p⟩:=j.i;refine(NE p (o.aS i) (by have:=m.L;omega)).mono ?_;rintro r u ⟨rfl,t,q⟩;exact⟨rfl,l,_,_,_,_,i,q⟩
def ur(f:af (Cm e c F d a b)):Calls prog 128 #[Zp c.C] b λg h=>g=.returned (Y a.L.length)/\h=b:=by
 obtain⟨⟨ad,j,i⟩,-⟩:=f.i.K;go_in;go_wp2;go_ret;exact⟨rfl,rfl⟩
abbrev Gd(n:dI)(a:Zv):Array Zv:=#[Y n.c4,Y n.dg,a,.bool n.bD]
def Gg(a:Nat):(dy a).f0=none:=by
 unfold dy;repeat' split
 all_goals rfl
def Ge(d:Zo){n:dI}(a:n.f0=none):iN d [Y n.c4,Y n.dg,.slice none 0 0,.bool n.bD] n:=⟨.slice none 0 0,rfl,by rw[a];rfl,_,_,_,rfl⟩
def EI(a:Nat)(b:Zw):Calls prog 207 #[Y a] b λe h=>e=.returned (.agg (Gd (dy a) (.slice none 0 0)))/\ap [] b h:=by
 have f:∀g,ap [] b (b.alloc g):=(ar [] b).A;cases i:((a:Int)==0)
 case' false=>
  cases j:((a:Int)==1)
  case' false=>
   cases k:((a:Int)==4)
 all_goals
  obtain⟨d,c⟩:∃d,af (d=Gd (dy a) (.slice none 0 0)):=⟨_,rfl⟩;rw[<-c.i];go_in;go_wp2;refine bodyPost_ret (v:=.agg #[_,_,_,_]) (by simp[results,results207,go_sem];exact⟨rfl,rfl,rfl,rfl⟩) rfl ⟨?_,f _⟩;rw[c.i];unfold dy;(repeat' split)<;>simp_all<;>omega
def abR(c:Nat×Zb):∀b∈yZ c,b.oneCell'=true:=by
 intro b a;simp at a;rcases a with rfl|rfl<;>rfl
def Td(w:Zb)(P:af (Cm e c F d a b))(K:bG a n)(D:1<=n:=by omega):Calls prog 206 #[Zp c.C,Zs w] b (pa e c F d (kx w a) (.tuple #[])):=by
 obtain⟨R,k,h,f,g,a2,l⟩:=P.i;obtain⟨ad,y,rfl⟩:=aW l.iD;have b0:=K.L;have a9:=K.aK;have O:=U (NE (v:=.iface 271 (.agg #[Y 0])) (x:=.call 0) { l with bS:=l.bS.ag } rfl Zm)
 have a3:(a.aK.length+1)*24<=140737488355328:=Zm;have M:=aE l.aw;have N:=U a2;go_in;go_wp21;refine bJ (λa5=>a5.cell? (Zd c.C 3)=some (.slice ad a.aK.length y)) ?_ λu=>?_
 .go_keep
 refine bf [0,1,2,3,4,5,6,7,9] ?_;iterate 9 (refine bi ?_)
 refine bg ?_;refine bI 8 λr m=>?_;(go_simp;go_at_call 131;refine O.i.mono ?_;rintro a8 p ⟨rfl,L,o⟩;have M:=aE o.aw;have s:=U o;have a7:=ay o.aw;clear o);refine m.out _ _ ?_ (λu=>?_)
 .go_keep
 refine nz ?_;refine pN 10 ?_;refine bI 11 λr m=>?_;go_simp;refine m.out _ _ ?_ (λu=>?_)
 .go_keep
 refine nz ?_;refine bI 12 λr m=>?_;(refine mh WY underlying165 (bQ s.i.iD ((ar [] p).A _) Zq) (yZ (a.L.length,w)) (heap_alloc_new p _) (abR _) a3 (YV _) (H:=p.heap.size+1) Zq ?_;intro A z a6 J I G a4;have t:=U (kR (F:=F)▸s.i.bS.a4 (fm (i:=2) rfl) ((ar [] p).A _) J I G Zq);have q:a6.heap[c.C]?=some (.cells #[L,.map (some c.B),.map (some c.E),.slice ad a.aK.length y] 167):=t.i.b0 (i:=0) rfl;have M:=aE q;have b1:=bl q;have a7:=ay q;clear q J I G a4);refine m.out _ _ ?_ (λu=>?_)
 .go_keep
 refine nz ?_;refine bf [13,14] ?_;iterate 2 (refine bi ?_)
 refine bg ?_;refine bL λr m=>?_;go_simp;refine m.out _ _ ?_;refine nz ?_;go_wp2;go_end0;obtain⟨D,S,a0,a1⟩:=qz (j:=3) (t.i.b0 (i:=0) rfl) (.slice (some ⟨A,0,none⟩) (a.aK.length+1) z);have l:=s.i;exact⟨rfl,R,L,.slice (some ⟨A,0,none⟩) (a.aK.length+1) z,_,g,N.i,by simpa[uh,bh,kx]using t.i.gf (i:=0) rfl D S a0 a1,l.g2,l.g4,l.g9,l.hd,l.g3,l.g6⟩
end
end
section
theorem xQ(a:cX)(s:bb):(bh a s).L.length=s.L.length+1:=by simp[bh]
theorem bG.aX{s}{n:Nat}(a:bG s (n+1))(x:cX):bG (bh x s) n:=⟨by simp[bh];have:=a.L;omega,by grind [bh,aK]⟩
def bG.call{s}{n:Nat}(a:bG s (n+1))(t:Zb):bG (kx t s) n:=⟨by simp[kx];have:=a.L;omega,by grind [kx,aK]⟩
def bG.cs{s}{n b:Nat}(a:bG s n)(c:b<=n):bG s b:=⟨by have:=a.L;omega,a.aK⟩
theorem bG.aq{s n}(a:bG s n)(i:Nat)(b:cX):bG (dD i b s) n:=⟨by simpa[dD]using a.L,by simpa[dD]using a.aK⟩
def vo(c:Ty):∀{s:bb} {n:Nat},bG s (n+dO c)->bG (eb c s) n:=by
 induction c with
 |named c a=>intro s n b;exact b.call c
 |plain e=>intro s n b;exact b.aX _
 |opaq e f=>intro s n b;exact b.aX _
 |str e f=>intro s n b;exact b.aX _
 |void=>intro s n b;exact b
 |arr o e f d=>intro s n b;exact(bG.aX (d (bG.aX (bG.cs b (by simp only[dO];omega)) _)) _).aq ..
 |opt o d=>intro s n b;exact(d (bG.aX (bG.cs b (by simp only[dO];omega)) _)).aq ..
def yT(c:Ty)(a:TypeId)(e:Zv):Array Zv:=match fY c with
 |.iface b d=>if b=a then #[d,.bool true]else #[e,.bool false]
 |_=>#[]
def pQ(c:Ty)(a:TypeId)(d:Zv):Prop:=∀b,(Instr.typeAssert (fY c) 240 a true).run prog b=.ok (.tuple (yT c a d)) b
def Ai(a:Ty):pQ a 260 (.agg #[.string ⟨#[]⟩,.int .i64 0])/\pQ a 372 (.agg #[.int .i64 0])/\pQ a 377 (.agg #[.int .i64 0,.bool false])/\pQ a 380 (.agg #[.int .i64 0,.bool false])/\pQ a 382 (.agg #[.nilIface,.int .i64 0,.bool false])/\pQ a 385 (.agg #[.nilIface])/\pQ a 444 (.agg #[]):=by
 cases a<;>(refine⟨?_,?_,?_,?_,?_,?_,?_⟩<;>(intro b;kernel_rfl))
def HT{c:Zw}{e:Nat}{l}(g:c.heap[e]?=some (kL l))(h:(l.map (·.1)).Nodup)(b:Int)(f a:Nat):(Instr.mapUpdate 389 (.map (some e)) (.int .i64 b) (.agg #[.int .i64 f,.int .i64 a])).run prog c=.ok () (fg c e (kL (cR l b (f,a)))):=
 vZ (P:=prog) (T:=389) (kt:=2) (et:=394) (d:=.int .i64) Zk Zk (λb:Int=>.int .i64 b) (λa:Nat×Nat=>.agg #[.int .i64 a.1,.int .i64 a.2]) (λ_=>rfl) (λ_=>afe _) LL g h b (f,a)
section
variable {w0 b : Zw} {a : kO} {F : List Th} {bs : List (Nat × Obj)} {s : bb} {n : Nat} {o : Ty}
def Ea(w0:Zw)(a:kO)(bs:Zo)(c:Ty)(v:Zv):Prop:=∀(F:List Th) (s:bb) (b:Zw) (n:Nat),af (Cm w0 a F bs s b)->bG s n->dO c<=n->Calls prog 129 #[Zp a.C,v] b (pa w0 a F bs (eb c s) (.tuple #[]))
def SD{k x}(l:Ea w0 a bs o (.iface k x))(d:Int)(c:Bool)(q:af (Cm w0 a F bs s b))(t:bG s n)(M:dO o+2<=n):Calls prog 208 #[Zp a.C,.agg #[.iface k x,.int .i64 d,.bool c]] b (pa w0 a F bs (eb (.arr o d c) s) (.tuple #[])):=by
 have A:=U (q.i.A (.cells #[.iface k x,.int .i64 d,.bool c] 382))
 have u:bG (bh .hole s) (1+dO o):=bG.aX (t.cs Zm) _;have l:=U l;clear q;go_in;go_wp21;refine hS (qF (v:=.iface 449 (.agg #[.int .i64 0,.bool false,.int .i64 0])) (x:=.hole) A ⟨_,_,rfl⟩ t) λO h=>?_
 have w:=aE (h.i.ob (i:=0) rfl);go_wp21;refine hS (l.i _ _ _ _ h u Zm) λP r=>?_;clear w;go_wp21;refine hS (qF (v:=.iface 450 (.agg #[])) (x:=.again) r rfl (vo o u)) λR f=>?_
 have w:=aE (f.i.ob (i:=0) rfl);have m:(bh .again (eb o (bh .hole s))).L.length=s.L.length+dO o+2:=by rw[xQ,uT,xQ];omega
 obtain⟨D,B,G,I,J,⟨a0,N⟩,K,j⟩:=f.i.ag.hs (i:=s.L.length) (x:=.array d c ((eb o (bh .hole s)).L.length+1)) (v:=.iface 449 (.agg #[.int .i64 d,.bool c,.int .i64 ((bh .again (eb o (bh .hole s))).L.length:Int)])) (by simp[nC,bh]) (by rw[m];omega)
 have j:=U j;have y:=U (ur (U f.i.ag));have L:(s.L.length:Int)<((bh .again (eb o (bh .hole s))).L.length:Int):=by rw[m];omega
 clear m h r f;generalize (bh .again (eb o (bh .hole s))).L.length=z at *
 go_wp21;refine bJ (λp=>p.cell? (Zd a.C 0)=some (.slice (some ⟨D,0,none⟩) z B)/\p.cell? (Zd b.heap.size 1)=some (.int .i64 d)/\p.cell? (Zd b.heap.size 2)=some (.bool c)) ?_ λE=>?_
 .go_keep
 refine bf [0,1,2,3,4,5,6,7] ?_;iterate 8 (refine bi ?_)
 refine bg ?_;refine bI 8 λg e=>?_;(go_simp;go_at_call 128;refine y.i.mono ?_;rintro H S ⟨rfl,rfl⟩);refine e.out _ _ ?_ (λE=>?_)
 .go_keep
 clear e g;refine nz ?_;refine bf [9,10,11] ?_;iterate 3 (refine bi ?_)
 refine bg ?_;refine bL λg e=>?_;go_simp;refine e.out _ _ ?_;clear e g;refine nz ?_;go_wp2;go_end0;exact⟨rfl,j.i.au⟩
def ab0{j x}(t:Ea w0 a bs o (.iface j x))(y:af (Cm w0 a F bs s b))(u:bG s n)(N:dO o+1<=n):Calls prog 209 #[Zp a.C,.agg #[.iface j x]] b (pa w0 a F bs (eb (.opt o) s) (.tuple #[])):=by
 have b2:=nN;have I:=U (y.i.A (.cells #[.iface j x] 385))
 have P:bG (bh .hole s) (dO o):=bG.aX (u.cs N) _;have t:=U t;clear y;go_in;go_wp21;refine hS (qF (v:=.iface 392 (.agg #[.int .i64 0,.int .i64 0,.slice none 0 0,.bool false,.map none,.pointer none])) (x:=.hole) I ⟨_,_,rfl⟩ u) λb8 p=>?_
 have G:=aE (p.i.ob (i:=0) rfl);go_wp21;refine hS (t.i _ _ _ _ p P (Y4 _)) λf z=>?_;clear G p;have M:(eb o (bh .hole s)).L.length=s.L.length+1+dO o:=by rw[uT,xQ]
 have b3:=u.L;have g:=z.i.A (.map #[] 0);have H:=U (ur (U g));generalize k:(eb o (bh .hole s)).L.length=c at *
 have R:=HT (l:=[]) (g.ob (i:=0) rfl) Zq 0 c 0;have q:=g.aX (i:=0) rfl (kL (cR [] 0 (c,0)));generalize fg (f.alloc (.map #[] 0)) f.heap.size _=W1 at *
 have S:=HT (l:=[(0,c,0)]) (q.ob (i:=0) rfl) Zq 1 (s.L.length+1) 1;have h:=q.aX (i:=0) rfl (kL (cR [(0,c,0)] 1 (s.L.length+1,1)));generalize fg W1 f.heap.size _=a3 at *
 have h:=U (Cm.c6 (F:=.obj b.heap.size (.cells #[.iface j x] 385)::F) (o:=kL [(0,c,0),(1,s.L.length+1,1)]) h)
 simp only[Int.natCast_add,Int.natCast_zero,Int.natCast_one]at R S;have b1:(s.L.length:Int)<(c:Int):=Zm;clear g q z M;go_wp21;refine H.i.mono ?_;rintro J b9 ⟨rfl,rfl⟩;obtain⟨a4,b7,b5,a6,a7,-,e⟩:=h.i;obtain⟨ad,D,rfl⟩:=aW e.row;rw[k]at e;have G:=aE e.aw;have w:=U e;clear e;go_wp21;refine bJ (λa0=>a0.cell? (Zd a.C 0)=some (.slice ad c D)) ?_ λK=>?_
 .go_keep
 refine bf [0,1,2,3,4,6] ?_;iterate 6 (refine bi ?_)
 refine bg ?_;refine bI 5 λm d=>?_;(go_simp;go_at_call 207;refine(EI 4 _).mono ?_;rintro J a1 ⟨rfl,E⟩;have A:Cm w0 a _ _ _ a1:=(h.i.ag).ae E;obtain⟨a8,a5,B,L,a9,⟨c0,b4⟩,b0,r⟩:=A.hs (i:=s.L.length) (x:=.choice (dy 4) [(0,c,0),(1,s.L.length+1,1)] none) (v:=.iface 392 (.agg #[.int .i64 0,.int .i64 1,.slice none 0 0,.bool false,.map (some f.heap.size),.pointer none])) ⟨[.int .i64 0,.int .i64 1,.slice none 0 0,.bool false],f.heap.size,.pointer none,rfl,Ge (n:=dy 4) _ (Gg 4),Zq,rfl⟩ (by rw[k];omega);have r:=U r;have a2:=aC (i:=0) (v:=.slice ad c D) (w.i.bS.ag.ae E |>.b0 (i:=0) rfl) rfl;rw[k]at B L;cases B.symm.trans a2;clear A w)
 refine d.out _ _ ?_ (λK=>?_)
 .go_keep
 clear d m;refine nz ?_;refine bf [7,8,9] ?_;iterate 3 (refine bi ?_)
 refine bg ?_;refine bL λm d=>?_;go_simp;refine d.out _ _ ?_;clear d m;refine nz ?_;go_wp2;go_end0;subst k;exact⟨rfl,(Cm.aS r.i λb6 O=>Y5 _ O).au⟩
def Bi(g:Ty):Ea w0 a bs g (fY g):=by
 have u:=Ai g;induction g
 case' arr o d i c=>
  have c:=c (Ai o);obtain⟨t,m,j⟩:=oP o;rw[j]at c
 case' opt o c=>
  have c:=c (Ai o);obtain⟨t,m,j⟩:=oP o;rw[j]at c
 all_goals
  intro F s b n f h k;obtain⟨x,y,z,A,B,C,-⟩:=u;simp only[pQ,yT,fY,if_true,Nat.reduceEqDiff,if_false, *]at x y z A B C ⊢
  simp only[dO]at k
 case named g p=>
  go_in;go_wp21;refine hS (Td g (f.i.cU _) h) λl e=>?_;go_wp2;go_end0;exact⟨rfl,e.i⟩
 case plain d=>
  go_in;go_wp21;refine(EI d _).mono ?_;rintro D E ⟨rfl,w⟩;have q:=U ((f.i.cU _).ae w);go_wp21;refine hS (qF (v:=.iface 247 (.agg (Gd (dy d) (.slice none 0 0)))) (x:=.num (dy d)) q ⟨[.int .i64 (dy d).c4,.int .i64 (dy d).dg,.slice none 0 0,.bool (dy d).bD],rfl,Ge _ (Gg d)⟩ h) λG r=>?_
  go_wp2;go_end0;exact⟨rfl,r.i⟩
 case void=>
  go_in;go_wp2;go_end0;exact⟨rfl,f.i⟩
 case arr=>
  have c:=U c;go_in;go_wp21;refine hS (SD c.i d i (f.i.cU _) h k) λl e=>?_;go_wp2;go_end0;exact⟨rfl,e.i⟩
 case opt=>
  have c:=U c;go_in;go_wp21;refine hS (ab0 c.i (f.i.cU _) h k) λl e=>?_;go_wp2;go_end0;exact⟨rfl,e.i⟩
 all_goals
  rename_i d i;go_in;go_wp21;refine hS (qF (x:=.text d i) (f.i.cU _) rfl h) λl e=>?_;go_wp2;go_end0;exact⟨rfl,e.i⟩
def EO(c:Ty)(d:af (Cm w0 a F bs s b))(g:bG s n)(m:dO c+1<=n):Calls prog 134 #[Zp a.C,fY c] b (pa w0 a F bs (oM c s) (.int .i64 s.L.length)):=by
 have e:=U (Bi (w0:=w0) (a:=a) (bs:=bs) c);obtain⟨k,j,f⟩:=oP c;rw[f]at e ⊢;clear f;go_in;go_wp21;refine(ur d).mono ?_;rintro l o ⟨rfl,rfl⟩;go_wp21;refine hS (e.i _ _ _ _ d g Zm) λp h=>?_;go_wp21;refine hS (qF (v:=.iface 397 (.agg #[])) (x:=.fin) h rfl (vo (n:=1) c (g.cs Zm))) λq i=>?_
 go_wp2;go_ret;exact⟨rfl,i.i⟩
end
end
section
def NW(a:List Ty):∀{s:bb} {n:Nat},(∀b∈a,jm b)->bG s (n+3*a.length)->bG (a.foldl (λs b=>eb b s) s) n:=by
 induction a with
 |nil=>simp
 |cons b a f=>
  intro s n c d;have g:=rt (c b Zq);exact f (λb e=>c b (Y5 _ e)) (vo b (d.cs Zg))
def By{h:Type}{c:h->Zl}{n:Nat}(e:∀l,(c l).length=n){ms:List h}{k d:Nat}(j:k<ms.length){g:Zw}(i:∀(a:Nat) (b:Zv),(ms.flatMap c)[a]?=some b->g.cell? (Zd d a)=some b)(a:Nat)(b:Zv)(f:(c ms[k])[a]?=some b):g.cell? ⟨d,k*n+a,none⟩=some b:=
 i _ _ ((Fi e ms k a j (by have:=(YB.1 f).1;rw[e]at this;exact this)).trans f)
def sZ{e:Zw}{g:Nat}{cs c}(a:e.heap[g]?=some (.cells cs c)):af (∀(v:Zw),ap [] e v->∀b,v.cell? (Zd g b)=cs[b]?):=λ_ d=>aE ((d.ak _ (ay a) Zq).trans a)
abbrev rL(d c:Int)(a:Option Addr)(g b:Nat)(e:Bool):Zl:=[Y d,Y c,.slice a g b,.bool e]
def iN.aB{bs b n}(d:iN bs b n):∃h f a g c i,b=rL h f a g c i:=by
 obtain⟨j,e,_,k,l,m,rfl⟩:=d;exact⟨_,_,_,_,_,_,e⟩
abbrev Mt(a:Zv):Obj:=.cells #[Y (-2147483648),Y 2147483647,a,.bool false] 247
abbrev Av:Obj:=.cells #[Y 0,Y 0,.slice none 0 0,.bool false] 247
def In(w0:Zw)(a:kO)(f:List Th)(bs:Zo)(s:bb)(m:dI)(j:Ending)(l:Zw):Prop:=∃d c e h i g b,j=.returned (.agg (rL d c e h i g).toArray)/\iN b (rL d c e h i g) m/\(∀k∈bs,k∈b)/\Cm w0 a f b s l
section
variable {w0 e : Zw} {a : kO} {f : List Th} {bs h : List (Nat × Obj)} {s : bb} {n g l : Nat} {b : Zb}
def afW{d}(J:gH h g (.struct b l d))(z:∀k∈h,w0.heap[k.1]?=some k.2)(P:∀j∈d,jm j.H)(u:af (Cm w0 a f bs s e))(y:bG s n)(a9:4+3*d.length<=n):Calls prog 132 #[Zp a.C,Zp g] e (pa w0 a f bs (tw d s) (.tuple #[])):=by
 obtain⟨b0,H,N⟩:=J;obtain⟨ad,a2,rfl,a8,B⟩:=N.hm z;have r:=sZ (cs:=#[_,_,_]) (z _ H);have R:=r.i _ u.i.kp;have D:af (bG (bh (.struct d.length true) s) (3+3*d.length)):=bG.aX (y.cs Zm) _;have t:=U P;go_in;go_wp21;refine hS (qF (x:=.struct d.length true) u rfl y) λb4 v=>?_;have R:=r.i _ v.i.kp;go_wp2;go_loopw [21] (λq a0=>∃(i:Nat),q=Y i/\i<=d.length/\af (Cm w0 a f bs ((d.take i).foldl (λs j=>eb j.H s) (bh (.struct d.length true) s)) a0)) (λq _=>d.length-(intOf q).toNat)
 case atStart=>exact⟨0,rfl,Zm,v⟩
 case round=>
  obtain⟨i,rfl,a7,o⟩:=hrel;rcases Yj i d.length with p|a4
  .obtain⟨F,rfl,a3,I⟩:=B.i Zm;have k:=By (c:=oA) (n:=3) (λ_=>rfl) p (I _ o.i.kp);have b1:wr.cell? ⟨F,i*3,none⟩=_:=k 0 _ rfl;have b2:=k 1 _ rfl;have S:=k 2 _ rfl;have M:bG ((d.take i).foldl (λs j=>eb j.H s) (bh (.struct d.length true) s)) 3:=by
    have E:=NW ((d.take i).map (·.H)) (s:=bh (.struct d.length true) s) (n:=3) (by intro b O;obtain⟨j,L,rfl⟩:=YE.1 O;exact t.i j (List.mem_of_mem_take L)) (D.i.cs Zx);rwa[List.foldl_map]at E
   have m:=Bi (w0:=w0) (a:=a) (bs:=bs) d[i].H;have A:af ((d.take (i+1)).foldl (λs j=>eb j.H s) (bh (.struct d.length true) s)=eb d[i].H ((d.take i).foldl (λs j=>eb j.H s) (bh (.struct d.length true) s))):=by show _=_;rw[Yt p,YS];rfl
   obtain⟨a1,b3,G⟩:=oP d[i].H;rw[G]at S m;have m:=U m;have a5:(0:Int)<=↑i:=Zm;have a6:(↑i:Int) < ↑d.length:=Zm;go_wp21;refine hS (m.i _ _ _ _ (o.i.cU _) M (rt (t.i d[i] (Yy p)))) λb5 w=>?_;rw[<-A.i]at w;go_wp2;exact⟨⟨i+1,Zj,Zm,w⟩,Zz⟩
  .have K:i=d.length:=Zm;subst K;go_wp2;go_end0;refine⟨rfl,?_⟩;have:=o.i;rwa[YG]at this
def aeo{b}(G:hB b)(d:af (Cm w0 a f bs s e)):Calls prog 210 #[Zp a.C,fY b] e (In w0 a f bs s (jF s b)):=by
 have A:=Ai b;have y:=d.i.A Av;cases b<;>simp only[hB]at G
 case' named n p=>
  obtain⟨B,v,E,g,⟨L,rfl,m⟩,q⟩:=d.i.mM n;obtain⟨r,o,u,w,h,t,rfl⟩:=m.aB;obtain⟨-,-,K,N,O⟩:=d.i.K;have q:=q _ (((ar [] e).A Av).A (.cells #[Zs n,Y p] 260)).ag;have g:=U g;have x:=U m
 all_goals
  obtain⟨H,I,-⟩:=A;simp only[pQ,yT,fY,if_true,Nat.reduceEqDiff,if_false]at H I ⊢
  go_in
 case named=>
  go_wp2;go_region;go_wp2;exact bodyPost_ret (v:=.agg #[Y r,Y o,.slice u w h,.bool t]) (by simp[results,results210,go_sem]) rfl ⟨r,o,u,w,h,t,B,rfl,x.i,E,((g.i.cU _).cU _).ag⟩
 case plain k=>
  go_wp21;refine(EI k _).mono ?_;rintro M P ⟨rfl,F⟩;have l:=(y.cU _).ae F;have c:=l.ob (i:=0) rfl;have h:=aE c;have R:=bl c;have S:=ay c;have J:=aE (GY (k':=Y (dy k).c4) (t':=Y (dy k).dg) (n':=.slice none 0 0) (a':=.bool (dy k).bD) c);have z:=U ((((l.aq (i:=0) (j:=0) rfl (Y (dy k).c4)).aq (i:=0) (j:=1) rfl (Y (dy k).dg)).aq (i:=0) (j:=2) rfl (.slice none 0 0)).aq (i:=0) (j:=3) rfl (.bool (dy k).bD));go_wp2;exact bodyPost_ret (v:=.agg #[Y (dy k).c4,Y (dy k).dg,.slice none 0 0,.bool (dy k).bD]) (by simp[results,results210,go_sem,J]) rfl ⟨(dy k).c4,(dy k).dg,none,0,0,(dy k).bD,bs,rfl,Ge _ (Gg k),λ_ D=>D,Cm.au z.i⟩
def Su{d:aV}{ca cn cc}(p:af (Cm w0 a f bs s e))(z:bG s n)(y:dO d.H<=n):Calls prog 211 #[Zp a.C,.agg #[.slice ca cn cc,Zs d.t,Y d.y,fY d.H]] e (pa w0 a f bs (nG d s) (.agg #[Y (si d s).1,Y (si d s).2])):=by
 obtain⟨-,-,-,-,-,-,k⟩:=Ai d.H;have c:=Bi (w0:=w0) (a:=a) (bs:=bs) d.H;have t:af (si d s=(s.L.length,if kU d.H then 0 else 1)):=rfl
 have u:af (nG d s=eb d.H s):=rfl;rw[t.i,u.i];cases h:kU d.H
 case' true=>
  have g:d.H=.void:=by cases o:d.H<;>rw[o]at h<;>simp[kU]at h
  rw[g]at k ⊢
 case' false=>
  have g:yT d.H 444 (.agg #[])=#[.agg #[],.bool false]:=by cases o:d.H<;>rw[o]at h<;>simp[kU]at h<;>rfl
  simp only[pQ,g]at k;obtain⟨G,J,x⟩:=oP d.H;rw[x]at k c ⊢;have c:=U c;have w:=U y
 all_goals
  simp only[pQ,yT,fY,if_true,Ye,if_false]at k ⊢
  have q:=U λA=>(p.i.cU A).A (.cells #[Y 0,Y 0] 394);go_in;go_wp21;refine(ur (q.i _)).mono ?_;rintro g H ⟨rfl,rfl⟩
 .go_wp21;refine hS (c.i _ _ _ _ ((q.i _).A _) z w.i) λI m=>?_;have B:=aE (m.i.ob (i:=0) rfl);have l:=m.i.ob (i:=1) rfl;have D:=aE l;have E:=bl l;have F:=ay l;have r:=aE (ci (i:=1) (ci (i:=0) l (Y s.L.length)) (Y 1));have b:=(m.i.aq (i:=1) (j:=0) rfl (Y s.L.length)).aq (i:=1) (j:=1) rfl (Y 1);simp only[World.size_alloc]at B D E F r b;have b:=U b;go_wp2;exact bodyPost_ret (v:=.agg #[Y s.L.length,Y 1]) (by simp[results,results211,go_sem,r]) rfl ⟨rfl,b.i.au.au⟩
 .go_wp2;exact bodyPost_ret (v:=.agg #[Y s.L.length,Y 0]) (by simp[results,results211,go_sem]) rfl ⟨rfl,((((p.i.cU _).cU _).cU _))⟩
def aag{i}(a7:gH h g (.enum b l i))(z:∀N∈h,w0.heap[N.1]?=some N.2)(a0:af (Cm w0 a f bs s e)):Calls prog 130 #[Zp g] e (In w0 a f bs s (hr i)):=by
 obtain⟨d3,t,a4,b4,b5,a8⟩:=a7;obtain⟨ad,c5,rfl,b2,S⟩:=b5.hm z;have y:=U (((a0.i.A Av).A (Mt (.slice none 0 0))).nil 2 1);have d2:=(sZ (cs:=#[_,_,_]) (z _ a4)).i _ y.i.kp;have B:af (∀c (K:c<i.length) (L:c<t.length) (v:Zw),ap [] w0 v->v.cell? ⟨t[c],2,none⟩=some (Y i[c].2.2)):=λc K L v b7=>((sZ (z _ (a8 c K L))).i v b7 2);have b6:(e.alloc Av).heap.size=e.heap.size+1:=Zq;rw[b6]at y;go_in;go_wp2;go_loopw [12] (λc c0=>∃(d:Nat) (w:Zv),c=Y d/\d<=i.length/\(d=0->w=.slice none 0 0)/\af (Cm w0 a (.row 2 1 w d ((i.take d).map λb8=>Y b8.2.2)::.obj (e.heap.size+1) (Mt w)::.obj e.heap.size Av::f) bs s c0)) (λc _=>i.length-(intOf c).toNat)
 case atStart=>exact⟨0,_,rfl,Zm,λ_=>rfl,y⟩
 case round=>
  obtain⟨d,w,rfl,c9,b3,k⟩:=hrel;have m:=k.i.ob (i:=1) rfl;have c1:=aE m;have c2:=bl m;have c3:=ay m;rcases Yj d i.length with q|c8
  .obtain⟨c6,rfl,c7,a6⟩:=S.i Zm;have d4:=a6 _ k.i.kp d (.pointer (some ⟨t[d],0,none⟩)) (by simp[b4▸q]);have b9:=B.i d q Zm _ k.i.kp;obtain⟨ad,a2,rfl⟩:=aW (k.i.th (i:=0) rfl);have d0:(0:Int)<=↑d:=Zm;have d1:(↑d:Int) < ↑i.length:=Zm;have b0:(d+1)*8<=140737488355328:=Zm;go_wp21;refine bJ (λO=>O.cell? ⟨e.heap.size+1,2,none⟩=some (.slice ad d a2)/\O.cell? ⟨t[d],2,none⟩=some (Y i[d].2.2)) ?_ λG=>?_
   .go_keep
   refine bf [0,1,2,3,4,5] ?_;iterate 6 (refine bi ?_)
   refine bg ?_;refine bI 6 λC n=>?_;go_simp;refine n.out _ _ ?_ (λG=>?_)
   .go_keep
   refine nz ?_;refine bI 7 λC n=>?_;(refine mh LH underlying245 (bQ (k.i.th (i:=0) rfl) (((ar [] wr).A _).ag) Zq) [Y i[d].2.2] (heap_alloc_new wr _) Zy b0 (YV _) (H:=wr.heap.size+1) Zq ?_;intro F E d8 M J I b1;have x:=U (k.i.a4 (i:=0) rfl (((ar [] wr).A _).ag) M J I Zq);have m:=x.i.ob (i:=1) rfl;have c1:=aE m;have c2:=bl m;have c3:=ay m;have b9:=B.i d q Zm _ x.i.kp;clear M J I b1 m);refine n.out _ _ ?_ (λG=>?_)
   .go_keep
   refine nz ?_;refine pN 8 ?_;refine bL λC n=>?_;go_simp;refine n.out _ _ ?_;refine nz ?_;have P:=U (x.i.aq (i:=1) (j:=2) rfl (.slice (some ⟨F,0,none⟩) (d+1) E));go_wp2;refine⟨⟨d+1,.slice (some ⟨F,0,none⟩) (d+1) E,Zj,Zm,Zm,?_⟩,Zz⟩;rw[Yt q,List.map_append];exact P
  .have a9:d=i.length:=Zm;subst a9;obtain⟨o,p,rfl⟩:=aW (k.i.th (i:=0) rfl);obtain⟨D,A,a3,a5⟩:=k.i.gL b2;have u:=A.ob (i:=1) rfl;have d5:=aE u;have d6:=bl u;have d7:=ay u;have c4:=aE (GY (k':=Y (-2147483648)) (t':=Y 2147483647) (n':=.slice o i.length p) (a':=.bool false) u);have a1:=U ((((A.aq (i:=1) (j:=0) rfl (Y (-2147483648))).aq (i:=1) (j:=1) rfl (Y 2147483647)).aq (i:=1) (j:=2) rfl (.slice o i.length p)).aq (i:=1) (j:=3) rfl (.bool false));have R:af (iN D (rL (-2147483648) 2147483647 o i.length p false) (hr i)):=by
    refine⟨_,rfl,?_,_,_,_,rfl⟩;simp only[hr];by_cases r:i=[]
    .rw[Y9 r];exact b3 (by simp[r])
    .rw[Y2 r];exact⟨by simpa using r,by simpa[YG,Function.comp_def]using a3⟩
   go_wp2;exact bodyPost_ret (v:=.agg #[Y (-2147483648),Y 2147483647,.slice o i.length p,.bool false]) (by simp[results,results130,go_sem,c4]) rfl ⟨-2147483648,2147483647,o,i.length,p,false,D,rfl,R.i,a5,Cm.au (Cm.au a1.i)⟩
end
end
section
variable {e:TypeId}{a:Nat}{b:Zo}{c d:Zv}{w:Zw}
abbrev sM(b a:Int)(x:Option Addr)(f g:Nat)(e:Bool)(c:Nat)(d:Zv):Array Zv:=#[Y b,Y a,.slice x f g,.bool e,.map (some c),d]
abbrev Bp(v:Zv)(a:List Nat):Th:=.row 3 1 v a.length (a.map xu)
def wU(k:Zw)(h:kO)(g:List Th)(b:Zo)(f:Zv->Array Zv)(d:Nat)(a:mb)(i:Zv)(w:Zw):Prop:=
 (a.c5.map (·.1)).Nodup/\∃c e,(∀j∈b,j∈c)/\pV c (.pointer e) a.d1/\Cm k h (Bp i a.b5::.obj (d+1) (.cells (f (.pointer e)) 392)::.obj d (kL a.c5)::g) c a.s w
theorem Cm.gX{f d a c e}(g:Cm f d a b e w)(i:a.Perm c):Cm f d c b e w:=g.fM λh j=>j.gX (i.append_right h)
theorem Tn{b f g h:Zv}(i:w.heap[a]?=some (.cells #[c,d,b,f,g,h] e)):w.cell? (Zd a 0)=some c/\w.cell? (Zd a 1)=some d/\w.cell? (Zd a 2)=some b/\w.cell? (Zd a 3)=some f/\w.cell? (Zd a 4)=some g/\w.cell? (Zd a 5)=some h/\(∀j,w.frozen? ⟨a,j,none⟩=false)/\a<w.heap.size:=by
 refine⟨?_,?_,?_,?_,?_,?_,?_,ay i⟩<;>simp[World.cell?,World.frozen?,i]
theorem ow(f:w.heap[a]?=some (.cells #[c,d] e)):w.cell? (Zd a 0)=some c/\w.cell? (Zd a 1)=some d/\(∀b,w.frozen? ⟨a,b,none⟩=false)/\a<w.heap.size:=by
 grind [World.cell?,World.frozen?]
theorem pV.aS{d:Zo}(h:∀i∈b,i∈d){v c}(e:pV b v c):pV d v c:=by
 cases c with
 |none=>exact e
 |some j=>obtain⟨a,f,g⟩:=e;exact⟨a,f,h _ g⟩
theorem adW{b:mb}{a:Nat}{c:List Int×aV}(e:uV c.2.H)(d:bG b.s (a+4)):bG (ck b c).s a:=by
 have f:=rt e.e6;exact bG.aX (vo _ (d.cs Zm)) _
theorem NX:∀(a:List (List Int×aV)) {q:mb} {n:Nat},qT a->bG q.s (n+4*a.length)->bG (a.foldl ck q).s n:=by
 intro a;induction a with
 |nil=>simp
 |cons f a e=>
  intro q n b c;exact e (λg d=>b g (Y5 _ d)) (adW (b f Zq) (c.cs Zg))
theorem KY:∀(a:List (List Int×aV)) (b:mb),(a.foldl ck b).b5.length=b.b5.length+a.length:=by
 intro a;induction a<;>grind [ck]
theorem SC:∀(a:List (List Int×aV)) (b:mb),b.s.L.length<=(a.foldl ck b).s.L.length:=by
 intro a;induction a with
 |nil=>simp
 |cons d a c=>
  grind [ck,xQ,nG,uT]
theorem Vd:∀(a:List (List Int×aV)) (b:mb),(∀c∈b.b5,c<b.s.L.length)->∀c∈(a.foldl ck b).b5,c<(a.foldl ck b).s.L.length:=by
 intro a;induction a with
 |nil=>simp
 |cons e a d=>
  grind [ck,xQ,nG,uT]
theorem Bq(b:List Nat):∀a:bb,(lB b a).L.length=a.L.length:=by
 induction b with
 |nil=>intro a;rfl
 |cons c b d=>
  intro a;have:=d (dD c (.jump a.L.length) a);simp only[dD,YF]at this;exact this
theorem UY(c:List Nat)(b:Nat)(a:bb):lB (c++[b]) a=dD b (.jump a.L.length) (lB c a):=by
 grind [Bq,lB]
theorem LI:(prog.info? 3).map (λa=>(a.zero,a.size,a.bytes))=some (some (Y 0),1,8):=Zk
end
set_option maxHeartbeats 8000000 in
def ag2{D h4:Zw}{x E c4 e3 g n e2 i8 l8 s c}(j5:gH e3 e2 (.union l8 i8 s c))(d3:∀h∈e3,D.heap[h.1]?=some h.2)(l0:hB s.H)(g9:qT c)(m:af (Cm D x E c4 g h4))(g5:bG g n)(o3:8+4*c.length<=n):Calls prog 133 #[Zp x.C,Zp e2] h4 (pa D x E c4 (sd s c g) (.tuple #[])):=by
 have o2:=nN;obtain⟨m7,e6,f3,n2,g7,f8⟩:=j5;obtain⟨m5,m6,rfl,o1,i5⟩:=g7.hm d3;have b8:=sZ (cs:=#[_,_,_,_,_,_]) (d3 _ f3);have h0:=b8.i _ m.i.kp;obtain⟨m3,o7,f1⟩:=oP s.H;have R:=aeo l0 m;rw[f1]at b8 h0 R;have R:=U R;have i6:af (bG (bh .hole g) (7+4*c.length)):=bG.aX (g5.cs Zm) _;have d8:=U g9;have h8:af (∀d (b6:d<c.length) (e8:d<e6.length),_):=λd b6 e8=>(f8 d b6 e8).hm d3;have l:af (mb.mk (bh .hole g) [] none []=mb.mk (bh .hole g) [] none []):=rfl;clear g9 f1 g7 f8 m f3;go_in;go_wp21;refine R.i.mono ?_;rintro e7 K ⟨z,y,k,t,B,A,S,rfl,f0,f4,w⟩;have w:=(w.A (.map #[] 0)).A (.cells (sM z y k t B A K.heap.size (.pointer none)) 392);have l1:(K.alloc (.map #[] 0)).heap.size=K.heap.size+1:=Zq;rw[l1]at w;have w:=U w;have i0:=U f0;have h6:=U f4;clear f0 f4 R;go_wp21;refine hS (qF (v:=.iface 392 (.agg (sM z y k t B A K.heap.size (.pointer none)))) (x:=.hole) w ⟨_,_,rfl⟩ g5) λm0 c1=>?_
 have e1:af (wU D x E S (sM z y k t B A K.heap.size) K.heap.size ⟨bh .hole g,[],none,[]⟩ (.slice none 0 0) m0):=⟨Zq,S,none,λ_ b6=>b6,rfl,c1.i.nil 3 1⟩;have h0:=b8.i _ c1.i.kp;clear w c1;generalize K.heap.size=j at *
 generalize g3:mb.mk (bh .hole g) [] none []=l at *
 have F:=U g3;clear g3;go_wp21;go_loopw [32,6] (λd i9 a5=>∃f:Nat,d=Y f/\f<=c.length/\af (wU D x E S (sM z y k t B A j) j ((c.take f).foldl ck l) i9 a5)) (λd _ _=>c.length-(intOf d).toNat)
 case atStart=>exact⟨0,rfl,Zm,e1⟩
 case round=>
  rename Zw=>h5;obtain⟨f,rfl,n9,b1⟩:=hrel;clear e1;rcases Yj f c.length with d2|n3
  .have g6:bG ((c.take f).foldl ck l).s 7:=NX (c.take f) (λk l2=>d8.i k (List.mem_of_mem_take l2)) (i6.i.cs Zx |> (F.i▸·));have b7:((c.take f).foldl ck l).b5.length=f:=by rw[KY,<-F.i];simp;omega
   obtain⟨a3,b2,a4,L,N,m⟩:=b1.i;have i3:af ((c.take (f+1)).foldl ck l=ck ((c.take f).foldl ck l) c[f]):=by show _=_;rw[Yt d2,YS];rfl
   generalize (c.take f).foldl ck l=a at *
   obtain⟨b5,rfl,d0,f5⟩:=i5.i Zm;have h:=By (n:=4) (λ_=>rfl) (ms:=c.zip e6) Zx (f5 _ m.kp) (k:=f);simp only[List.getElem_zip]at h;obtain⟨b3,b4,f7,j3,h7⟩:=h8.i f d2 Zm;have b9:=U (d8.i c[f] (Yy d2)).e6;rw[f7]at h;generalize c[f]=i7 at *
   obtain⟨e,i⟩:=i7;have l4:h5.cell? ⟨b5,f*4,none⟩=_:=h 0 _ rfl;have l5:=h 1 _ rfl;have l6:=h 2 _ rfl;have h1:=h 3 _ rfl;simp only at l4 l5 l6 h1 j3 b9;obtain⟨e0,h3,e9⟩:=oP i.H;have w:=U (m.A (.cells #[.slice b3 e.length b4,Zs i.t,Y i.y,.iface e0 h3] 363))
   have P:=Su (ca:=b3) (cn:=e.length) (cc:=b4) (d:=i) w g6 (by have:=rt b9.i;omega);rw[e9]at h1 P;have P:=U P;have b0:af (ck a (e,i)=mb.mk (bh (.jump 0) (nG i a.s)) (e.foldl (λr n=>cR r n (si i a.s)) a.c5) (if e=[]then some (si i a.s)else a.d1) (a.b5++[(nG i a.s).L.length])):=rfl
   have k9:af (bG (nG i a.s) 1):=vo _ (g6.cs (by have:=rt b9.i;omega));obtain⟨c6,c7,rfl⟩:=aW (m.th (i:=0) rfl);have k6:(a.b5.length+1)*8<=140737488355328:=Zm;have o0:a.b5.length+1<=2000:=Zm;have n4:(0:Int)<=↑f:=Zm;have n5:(↑f:Int) < ↑c.length:=Zm;generalize nG i a.s=d5 at *
   generalize si i a.s=m1 at *
   obtain⟨q,u⟩:=m1;have i2:=U N;have a8:=U L;have i1:=U a3;clear m w N L a3 e9 h f5 b7 f7 b1;go_wp21;refine hS P.i λd6 d9=>?_;have G:=U (d9.i.A (.cells #[Y q,Y u] 394));clear d9 P;go_wp21;refine hS (qF (v:=.iface 396 (.agg #[Y 0])) (x:=.jump 0) G rfl k9.i) λa6 c2=>?_
   have g1:af (∀d4,(a6.alloc d4).ownsRow 0 3 1 (.slice c6 a.b5.length c7) a.b5.length (a.b5.map xu)):=λd4=>bQ (c2.i.th (i:=2) rfl) ((ar [] a6).A d4) Zq;clear G;go_wp2_with (first
    |(at_builtin;refine ku LI underlying24 (g1.i _) [.int .i64 d5.L.length] (heap_alloc_new a6 _) Zy k6 (YV _) (H:=a6.heap.size+1) Zq ?_;intro c8 c5 o5 g2 g0 f2 k7;have c3:=U (c2.i.a4 (i:=2) rfl ((ar [] a6).A _) g2 g0 f2 Zq);have l7:=aE (c3.i.ob (i:=1) rfl);clear c2 g1 g2 g0 f2 k7)
    |fail)
   go_loopw [49] (λd a5=>∃b:Nat,d=Y b/\b<=e.length/\af ((((e.take b).foldl (λr n=>cR r n (q,u)) a.c5).map (·.1)).Nodup/\Cm D x (.obj d6.heap.size (.cells #[Y q,Y u] 394)::.obj h5.heap.size (.cells #[.slice b3 e.length b4,Zs i.t,Y i.y,.iface e0 h3] 363)::Bp (.slice (some ⟨c8,0,none⟩) (a.b5.length+1) c5) (a.b5++[d5.L.length])::.obj (j+1) (.cells (sM z y k t B A j (.pointer a4)) 392)::.obj j (kL ((e.take b).foldl (λr n=>cR r n (q,u)) a.c5))::E) b2 (bh (.jump 0) d5) a5)) (λd _=>e.length-(intOf d).toNat)
   case atStart=>exact⟨0,rfl,Zm,i1.i,by simpa[Bp]using c3.i⟩
   case round=>
    obtain⟨b,rfl,k0,p⟩:=hrel;clear c3;obtain⟨O,o⟩:=p.i;have o4:=aE (o.ob (i:=0) rfl);have l7:=aE (o.ob (i:=1) rfl);have a7:=o.ob (i:=3) rfl;have m2:=aE a7;have o9:=bl a7;have p0:=ay a7;rcases Yj b e.length with M|k3
    .obtain⟨j0,rfl,n1,f6⟩:=h7.i Zm;have j4:=f6 _ o.kp b (Y e[b]) (by simp[M]);have h2:=HT (o.ob (i:=4) rfl) O e[b] q u;have a1:=Yp (uy O e[b] (q,u)) (o.aX (i:=4) rfl (kL (cR ((e.take b).foldl (λr n=>cR r n (q,u)) a.c5) e[b] (q,u))));have f9:cR ((e.take b).foldl (λr n=>cR r n (q,u)) a.c5) e[b] (q,u)=(e.take (b+1)).foldl (λr n=>cR r n (q,u)) a.c5:=by rw[Yt M,YS];rfl
     rw[f9]at h2 a1;generalize fg wr j _=m4 at h2 a1;have a1:=U a1;have k1:(0:Int)<=↑b:=Zm;have k2:(↑b:Int) < ↑e.length:=Zm;clear p o f9 O f6 a7;go_wp2;exact⟨⟨b+1,Zj,Zm,a1⟩,Zz⟩
    .have d1:b=e.length:=Zm;subst d1;rw[YG]at O o;have d7:=U O;have o:=U o;by_cases a2:e=[];case' pos=>
      have j2:((e.length:Int)==0)=true:=by simp[a2]
      have I:af (wU D x E S (sM z y k t B A j) j (ck a (e,i)) (.slice (some ⟨c8,0,none⟩) (a.b5.length+1) c5) (wr.setCell ⟨j+1,5,none⟩ (Zp d6.heap.size))):=by
       show wU ..;rw[b0.i,Y9 a2];exact⟨d7.i,_,_,λh J=>Y5 _ (a8.i h J),⟨_,rfl,Yb⟩,(o.i.aq (i:=3) (j:=5) rfl (Zp d6.heap.size)).c6.au⟩
     case' neg=>
      have j2:((e.length:Int)==0)=false:=by simpa using a2
      have I:af (wU D x E S (sM z y k t B A j) j (ck a (e,i)) (.slice (some ⟨c8,0,none⟩) (a.b5.length+1) c5) wr):=by
       show wU ..;rw[b0.i,Y2 a2];exact⟨d7.i,_,_,a8.i,i2.i,o.i.au.au⟩
     all_goals
      clear p o O a7 a2;go_wp2;refine⟨⟨f+1,Zj,Zm,?_⟩,Zz⟩;rw[i3.i];exact I
  .have k4:f=c.length:=Zm;subst k4;obtain⟨a3,b2,a4,L,N,m⟩:=b1.i;rw[YG]at a3 N m;have k8:=SC c l;have g4:=Vd c l (by rw[<-F.i];intro e7 j6;cases j6);have b7:(c.foldl ck l).b5.length=c.length:=by rw[KY,<-F.i];simp
   have b0:af (sd s c g=lB (c.foldl ck l).b5 (dD g.L.length (.choice (jF g s.H) (c.foldl ck l).c5 (c.foldl ck l).d1) (c.foldl ck l).s)):=by rw[<-F.i];rfl
   rw[<-F.i,xQ,F.i]at k8;generalize c.foldl ck l=a at *
   have m2:=aE (m.ob (i:=1) rfl);have p:=(m.gX (List.perm_middle (l₁:=[_,_]))).c6;obtain⟨b5,e5,e4,d0,j8,⟨o8,l3⟩,j9,G⟩:=p.ag.hs (i:=g.L.length) (x:=.choice (jF g s.H) a.c5 a.d1) (v:=.iface 392 (.agg (sM z y k t B A j (.pointer a4)))) ⟨rL z y k t B A,j,.pointer a4,rfl,i0.i.aS (λh J=>Y5 _ (L h J)),Yb,N.aS (λh J=>Y5 _ J)⟩ Zm
   have n6:(g.L.length:Int)<(a.s.L.length:Int):=Zm;obtain⟨c6,c7,rfl⟩:=aW (m.th (i:=0) rfl);have G:=U G;have a8:af (∀h∈c4,h∈(j,kL a.c5)::b2):=λh J=>Y5 _ (L h (h6.i h J));have i4:=U g4;have h9:=U b7;clear m p L N a3 g4 b1 b7;go_wp2;go_region;go_wp2;go_loopw [74] (λd a5=>∃b:Nat,d=Y b/\b<=a.b5.length/\af (Cm D x (Bp (.slice c6 a.b5.length c7) a.b5::.obj (j+1) (.cells (sM z y k t B A j (.pointer a4)) 392)::E) ((j,kL a.c5)::b2) (lB (a.b5.take b) (dD g.L.length (.choice (jF g s.H) a.c5 a.d1) a.s)) a5)) (λd _=>a.b5.length-(intOf d).toNat)
   case atStart=>exact⟨0,rfl,Zm,G⟩
   case round=>
    obtain⟨b,rfl,k0,p⟩:=hrel;clear G;rcases Yj b a.b5.length with M|k3
    .have c9:(lB (a.b5.take b) (dD g.L.length (.choice (jF g s.H) a.c5 a.d1) a.s)).L.length=a.s.L.length:=by rw[Bq];simp[dD]
     obtain⟨j0,m8,k5,n0,j4⟩:=zH (j:=b) (y:=Y a.b5[b]) (p.i.th (i:=0) rfl) (by simp[M]);have a9:=ur (U p.i.ag);have j7:=i4.i _ (Yy M);obtain⟨b5,e5,e4,d0,j8,⟨q,l3⟩,j9,I⟩:=p.i.ag.hs (i:=a.b5[b]) (x:=.jump a.s.L.length) (v:=.iface 396 (.agg #[Y a.s.L.length])) rfl (by rw[c9];exact j7)
     have g8:dD a.b5[b] (.jump a.s.L.length) (lB (a.b5.take b) (dD g.L.length (.choice (jF g s.H) a.c5 a.d1) a.s))=lB (a.b5.take (b+1)) (dD g.L.length (.choice (jF g s.H) a.c5 a.d1) a.s):=by
      rw[Yt M,UY];simp[dD]
     rw[g8]at I;rw[c9]at e4 d0 a9;cases k5
     have I:=U I;have a9:=U a9;have k1:(0:Int)<=↑b:=Zm;have k2:(↑b:Int) < ↑a.b5.length:=Zm;have n8:(↑(a.b5[b]):Int) < ↑a.s.L.length:=Zm;have n7:a.b5.length<=1000:=by have:=h9.i;omega
     clear p g8 c9;generalize a.b5[b]=m9 at *
     go_wp21;refine bJ (λl9=>l9.cell? (Zd x.C 0)=some (.slice (some ⟨b5,0,none⟩) a.s.L.length e5)) ?_ λj1=>?_
     .go_keep
     refine bf [0,1,2,3,4,5] ?_;iterate 6 (refine bi ?_)
     refine bg ?_;refine bI 6 λc0 a0=>?_;(go_simp;go_at_call 128;refine a9.i.mono ?_;rintro e7 o6 ⟨rfl,rfl⟩);refine a0.out _ _ ?_ (λj1=>?_)
     .go_keep
     clear a0 c0;refine nz ?_;refine bf [7,8,9] ?_;iterate 3 (refine bi ?_)
     refine bg ?_;refine bL λc0 a0=>?_;go_simp;refine a0.out _ _ ?_;clear a0 c0;refine nz ?_;go_wp2;exact⟨⟨b+1,Zj,Zm,I⟩,Zz⟩
    .have d1:b=a.b5.length:=Zm;subst d1;go_wp2;go_end0;refine⟨rfl,?_⟩;rw[b0.i];have:=p.i;rw[YG]at this;exact(this.aS a8.i).au.au
section
variable {c:List Th}{a:kO}{b n:Nat}{bs:Zo}{d:aD}{s:bb}{w w0:Zw}
def Cm.m7{v x}(t:Cm w0 a c bs s w)(I:DQ bs v x)(n:Zb):∃k,(Instr.mapUpdate 164 (.map (some a.E)) (Zs n) v).run prog w=.ok () k/\Cm w0 a c bs { s with cZ:=cR s.cZ n x } k/\∀g,ap [] k g->(Instr.lookup 164 (.map (some a.E)) (Zs n) false).run prog g=.ok v g:=by
 obtain⟨l,r,q,m,f,p,b⟩:=t;have o:(Th.obj a.E (nS (f.map λe=>(.string ⟨e.1.toArray⟩,e.2.2)))).At w:=b.bS.b0 (i:=4) rfl;obtain⟨B,C,D,F⟩:=Gp o (nS ((cR f n (x,v)).map λe=>(.string ⟨e.1.toArray⟩,e.2.2)));have j:iz w0 a c l { s with cZ:=cR s.cZ n x } r q m (cR f n (x,v)) _:=⟨b.bS.gf (i:=4) rfl B C D F,b.g2,uy b.g4 ..,by show cR s.cZ n x=_;rw[b.g9];exact(FV (λJ:dI×Zv=>J.1) f n (x,v)).symm,λe G=>(FW G).elim (b.hd e) λy=>y▸(by obtain⟨u,z,A⟩:=I;exact⟨u,z,A.aS p⟩),b.g3,b.g6⟩;refine⟨_,vZ (P:=prog) (T:=164) (kt:=9) (et:=247) (d:=.string) Zk Zk (λh:Zb=>Zs h) (λh:dI×Zv=>h.2) (λ_=>trivial) (λ_=>Hi _) yh o b.g4 n (x,v),⟨l,r,q,m,_,p,j⟩,λg H=>?_⟩;have:=If { j with bS:=j.bS.ae H } n;rwa[we,Y9 rfl]at this
def yu:aD->Prop
 |.struct _ _ b=>b.length<=1000
 |.union _ _ _ a=>a.length<=1000
 |_=>True
def fk.bm{a v c}(b:fk bs a v n c):n<=1000:=by
 rcases b with⟨_,d,_⟩|⟨_,_,_,_,⟨_,e⟩,_⟩<;>omega
theorem KK(a:gH bs b d):yu d:=by
 cases d with
 |struct e c g=>exact a.choose_spec.2.bm
 |union e c h f=>exact a.choose_spec.choose_spec.2.2.1.bm
 |_=>trivial
def bG.lZ(a:bG s (n+1))(c:Zb)(b:Nat):bG (ly c b s) n:=⟨(a.aX .ret).L,(a.aX .ret).aK⟩
def RP(a:bG s n)(b:List Nat):bG (lB b s) n:=⟨by rw[Bq];exact a.L,by rw[Bq,(Vb b s).2.1];exact a.aK⟩
def acz(d:aD)(s:bb):bb:=match d with
 |.typedef d=>eb d.H s
 |.enum e _ a=>bh (.num (hr a)) { s with cZ:=cR s.cZ e (hr a) }
 |.struct _ _ a=>tw a s
 |.union _ _ c b=>sd c b s
 |_=>s
def IQ(e:tI d)(g:yu d)(a:bG s (n+4100)):bG (acz d s) (n+1):=by
 cases d with
 |typedef d=>exact vo _ (a.cs (by have:=rt (lU.e6 e);omega))
 |enum c h b=>exact bG.aX (s:={ s with cZ:=cR s.cZ c (hr b) }) (n:=n+1) ⟨by have:=a.L;show s.L.length+(n+2)<1000000;omega,a.aK⟩ _
 |struct c h b=>
  have j:b.length<=1000:=g;have i:=NW (b.map (·.H)) (s:=bh (.struct b.length true) s) (n:=n+1) (by intro c l;obtain⟨m,k,rfl⟩:=YE.1 l;exact(e m k).e6) (bG.aX (a.cs Zx) _);rwa[List.foldl_map]at i
 |union c h o f=>
  have j:f.length<=1000:=g;exact RP (bG.aq (NX f (q:=⟨bh .hole s,[],none,[]⟩) (n:=n+1) e.2 (bG.aX (a.cs Zm) _)) ..) _
 |_=>exact a.cs Zm
def RO(e:tI d)(c:yu d)(a:bG s (n+4100)):bG (hT d s) n:=by
 have b:=IQ e c a;cases d<;>first|exact b.lZ _ _|exact a.cs Zm
def tF(a:TypeId)(b:Nat)(c:TypeId):Prop:=∀d,(Instr.typeAssert (.iface a (Zp b)) 157 c true).run prog d=.ok (.tuple (if a=c then #[Zp b,.bool true]else #[.pointer none,.bool false])) d
def KJ(d:aD)(b:Nat):tF (fC d) b 225/\tF (fC d) b 227/\tF (fC d) b 229/\tF (fC d) b 231/\tF (fC d) b 233:=by
 cases d<;>(refine⟨?_,?_,?_,?_,?_⟩<;>(intro a;kernel_rfl))
def UA{a0}(j:gH a0 b d)(l:∀z∈a0,w0.heap[z.1]?=some z.2)(q:tI d)(f:af (Cm w0 a c bs s w))(p:bG s n)(d7:5000<=n):Calls prog 76 #[Zp a.C,.iface (fC d) (Zp b)] w (pa w0 a c bs (hT d s) (.tuple #[])):=by
 have a9:=U j;have b1:=U l;have a7:=KJ d b;have I:=f.i.kp;have J:=KK j;have b2:=U (IQ (n:=0) q J (p.cs Zm));obtain⟨-,b4,b5,d2,d3⟩:=f.i.K;cases d
 all_goals
  obtain⟨c3,c4,c5,c6,-⟩:=a7;simp only[tF,fC,if_true,Nat.reduceEqDiff,if_false]at c3 c4 c5 c6 ⊢
 case' typedef d=>
  obtain⟨k,G,M⟩:=d;have a4:=(sZ (cs:=#[_,_,_]) (l _ j)).i _ I;obtain⟨c9,m,b6⟩:=oP M;have d4:=rt (show lU M from q).e6;have o:=Bi (w0:=w0) (a:=a) (bs:=bs) M c s w n f p Zm;rw[b6]at a4 o;have o:=U o
 case' enum k G ms=>
  obtain⟨d9,e0,b7,-⟩:=id j;have A:=sZ (cs:=#[_,_,_]) (l _ b7);have a4:=A.i _ I;have b3:=U (aag j l (U f.i.ag))
 case' struct k G ms=>
  have b8:ms.length<=1000:=J;have o:=U (afW j l (λc2 b9=>(q c2 b9).e6) f p Zm)
 case' union k G sel arms=>
  have b8:arms.length<=1000:=J;have o:=U (ag2 j l q.1 q.2 f p Zm)
 all_goals
  clear j l q I
 case' enum=>
  go_in;go_wp21;refine(ur f).mono ?_;rintro u a5 ⟨rfl,rfl⟩;go_wp21;refine bJ (λi=>i.cell? (Zd a.C 2)=some (.map (some a.E))/\i.cell? (Zd b 0)=some (Zs k)) ?_ λx=>?_
  .go_keep
  refine bf [0,1,2,3,4,5,6,7,8,9] ?_;iterate 10 (refine bi ?_)
  refine bg ?_;refine bI 10 λh e=>?_;(go_simp;go_at_call 130;refine b3.i.mono ?_;rintro u e3 ⟨L,K,m,O,P,N,d0,rfl,H,a1,t⟩;have e2:=t.K.2.2.1;have e1:=A.i _ t.kp;obtain⟨a6,a3,g,y⟩:=t.m7 (v:=.agg (rL L K m O P N).toArray) (x:=hr ms) ⟨_,rfl,H⟩ k;have g:=U g;have R:=U H;have a8:=U a1;have b0:=U y;clear t a1 H y);refine e.out _ _ ?_ (λx=>?_)
  .go_keep
  clear e h;refine nz ?_;refine bL λh e=>?_;go_simp;refine e.out _ _ ?_;clear e h;refine nz ?_;clear a3;have y:=b0.i _ (ar [] a6).ag;have b5:=g.i.K.2.2.1;have d8:=A.i _ g.i.kp;have S:=U (qF (v:=.iface 247 (.agg (rL L K m O P N).toArray)) (x:=.num (hr ms)) (n:=1) (U g.i.ag) ⟨_,rfl,R.i⟩ ⟨by have:=p.L;show s.L.length+1<1000000;omega,p.aK⟩)
  clear g R;go_wp21;refine bJ (λi=>i.cell? (Zd a.C 2)=some (.map (some a.E))/\i.cell? (Zd b 0)=some (Zs k)/\(Instr.lookup 164 (.map (some a.E)) (Zs k) false).run prog i=.ok (.agg (rL L K m O P N).toArray) i) ?_ λx=>?_
  .go_keep
  refine bf [0,1,2,3,4,5,6,7,8,9,10,11] ?_;iterate 12 (refine bi ?_)
  refine bg ?_;refine bL λh e=>?_;(go_simp;go_at_call 131;refine hS S.i λc7 r=>?_);refine e.out _ _ ?_;clear e h;refine nz ?_;have r:=U (r.i.aS a8.i);clear S y
 case const|prog=>
  go_in;go_wp21;refine(ur f).mono ?_;rintro u a5 ⟨rfl,rfl⟩;go_wp2;first
   |(go_end0;exact⟨rfl,f.i⟩)
   |exact bodyPost_ret (v:=.tuple #[]) (by simp[results,results76,go_sem]) rfl ⟨rfl,f.out⟩
 case' typedef|struct|union=>
  go_in;go_wp21;refine(ur f).mono ?_;rintro u a5 ⟨rfl,rfl⟩;go_wp21;refine hS o.i λc7 r=>?_
 all_goals
  go_wp21;refine hS (qF (v:=.iface 257 (.agg #[])) (x:=.ret) r rfl b2.i) λc8 D=>?_
  have c1:=Ah a9.i (w:=c8.drew) (X:=[]) λz c0=>⟨D.i.e8 (b1.i z c0),Zq⟩;have d5:=yL;have d6:=Bu 160;dsimp only[fC,ce]at c1;have b4:=D.i.K.2.1;clear r;go_wp21;refine bJ (λi=>i.cell? (Zd a.C 1)=some (.map (some a.B))) ?_ λx=>?_
  .go_keep
  refine bf [0,1,2,3,4,7] ?_;iterate 6 (refine bi ?_)
  refine bg ?_;refine bI 5 λh e=>?_;(go_simp;go_at_call 327;refine(yK _ _ _).mono ?_;rintro u a6 ⟨rfl,a2⟩;have g:=D.i.ag.ae (ef [] a2);have d1:=g.K.2.1;obtain⟨e4,a3,F⟩:=g.m6 k s.L.length;have F:=U F;clear g a2);refine e.out _ _ ?_ (λx=>?_)
  .go_keep
  clear e h;refine nz ?_;refine pN 6 ?_;refine bL λh e=>?_;go_simp;refine e.out _ _ ?_;clear e h;refine nz ?_;go_wp2;go_end0;exact⟨rfl,F.i⟩
end
abbrev qt(a:bb)(c:List (Nat×Zb)):bb:=c.foldl (λa b=>dD b.1 (.call ((aP a.b2 b.2).getD 0)) a) a
def Mk:∀(b:List (Nat×Zb)) (a:bb),(qt a b).L.length=a.L.length/\(qt a b).b2=a.b2/\(qt a b).aK=a.aK:=by
 intro b;induction b with
 |nil=>simp
 |cons c b d=>
  intro a;obtain⟨e,f,g⟩:=d (dD c.1 (.call ((aP a.b2 c.2).getD 0)) a);grind [dD]
def ZG(b:List (Nat×Zb))(a:Nat×Zb)(c:bb):qt c (b++[a])=dD a.1 (.call ((aP (qt c b).b2 a.2).getD 0)) (qt c b):=by
 simp
def Yl{l G d j K a n}(I:af (Cm l d j K a G))(R:∀b4∈a.aK,b4.1<a.L.length)(S:bG a n):Calls prog 79 #[Zp d.C] G (pa l d j K (vU a) (.tuple #[])):=by
 obtain⟨o,F,d2,a9,t,P,c⟩:=I.i;obtain⟨a2,a3,rfl⟩:=aW c.iD;have a8:=aE c.aw;have H:=U R;have a6:=U P;have c9:=S.L;have d0:=S.aK;have J:af (∃k,iz l d j o (qt a (a.aK.take 0)) F (.slice a2 a.aK.length a3) k t G):=⟨a9,c⟩;clear c R I P;go_in;go_wp2;go_loopw [9] (λf b5=>∃b:Nat,f=Y b/\b<=a.aK.length/\af (∃k,iz l d j o (qt a (a.aK.take b)) F (.slice a2 a.aK.length a3) k t b5)) (λf _=>a.aK.length-(intOf f).toNat)
 case atStart=>exact⟨0,rfl,Zm,J⟩
 case round=>
  obtain⟨b,rfl,c3,p⟩:=hrel;clear J;obtain⟨r,s,M⟩:=Mk (a.aK.take b) a;obtain⟨k,c⟩:=p.i;rcases Yj b a.aK.length with u|c7
  .have b2:=H.i _ (Yy u);have A:af (qt a (a.aK.take (b+1))=dD a.aK[b].1 (.call ((aP a.b2 a.aK[b].2).getD 0)) (qt a (a.aK.take b))):=by show _=_;rw[Yt u,ZG,s]
   have w:=c.iD;rw[M]at w;have E:=λ(f:Nat) (a5:Zv) a1=>zH (j:=b*2+f) (y:=a5) w ((Fi (c:=yZ) (n:=2) (λ_=>rfl) a.aK b f u (by have:=(YB.1 a1).1;exact this)).trans a1);obtain⟨b0,b6,y,c0,a4⟩:=E 0 _ rfl;cases y
   replace a4:wr.cell? ⟨b0,b*2,none⟩=_:=a4;obtain⟨N,L,y,-,d3⟩:=E 1 _ rfl;cases y
   have b7:=aE c.aw;have b8:=ay c.aw;generalize a.aK[b].1=g at *
   generalize a.aK[b].2=e at *
   have q:iz l d j o (qt a (a.aK.take b)) F _ k t (wr.alloc (.cells #[Y g,Zs e] 269)).drew:={ c with bS:=c.bS.ae ((ar [] wr).A _).ag };have z:=q.cm.kk e false;rw[s]at z;obtain⟨h,D⟩:∃h,h=(aP a.b2 e).getD 0:=⟨_,rfl⟩;have c8:(Instr.lookup 103 (.map (some d.B)) (Zs e) false).run prog (wr.alloc (.cells #[Y g,Zs e] 269)).drew=.ok (Y h) (wr.alloc (.cells #[Y g,Zs e] 269)).drew:=by
    rw[z,D];cases aP a.b2 e<;>rfl
   rw[<-D]at A;obtain⟨N,L,a0,b1,c1,⟨d4,d1⟩,c2,m⟩:=q.hs (i:=g) (x:=.call h) (v:=.iface 271 (.agg #[Y h])) rfl (by rw[r];exact b2)
   rw[r]at a0 b1;rw[<-A.i]at m;have m:=U m;have c4:(0:Int)<=↑b:=Zm;have c5:(↑b:Int) < ↑a.aK.length:=Zm;have c6:(↑g:Int) < ↑a.L.length:=Zm;subst a0;clear p c q A z r s M D H E w;go_wp21;refine bJ (λi=>i.cell? (Zd d.C 0)=some (.slice (some ⟨N,0,none⟩) a.L.length L)/\i.cell? (Zd d.C 1)=some (.map (some d.B))/\i.cell? (Zd wr.heap.size 0)=some (Y g)/\i.cell? (Zd wr.heap.size 1)=some (Zs e)/\(Instr.lookup 103 (.map (some d.B)) (Zs e) false).run prog i=.ok (Y h) i) ?_ λb9=>?_
   .go_keep
   refine bf [0,1,2,3,4,5,6,7,8,9,10,11,12,13,14,15] ?_;iterate 16 (refine bi ?_)
   refine bg ?_;refine bL λa7 O=>?_;go_simp;refine O.out _ _ ?_;clear O a7;refine nz ?_;go_wp2;exact⟨⟨b+1,Zj,Zm,_,m.i⟩,Zz⟩
  .have b3:b=a.aK.length:=Zm;subst b3;rw[YG]at c;have c:=U c;clear p;go_wp2;go_end0;exact⟨rfl,o,_,_,_,_,a6.i,c.i⟩
def IP:∀(b:List aD) {c:bb} {d:Nat},(∀a∈b,tI a)->(∀a∈b,yu a)->bG c (d+4100*b.length)->bG (b.foldl (λc a=>hT a c) c) d:=by
 intro b;induction b with
 |nil=>intro c d _ _ f;exact f
 |cons a b j=>
  intro c d h i f;exact j (λe g=>h e (Y5 _ g)) (λe g=>i e (Y5 _ g)) (RO (h a Zq) (i a Zq) (f.cs (by simp only[YC];omega)))
theorem RQ{b}{a:Nat}(d:bG b (a+2))(c:Zb):bG (Aa c b) a:=bG.aX (bG.call d c) _
def IT:∀(a:List aD) {p:bb×List (Zb×Nat)} {c:Nat},bG p.1 (c+2*a.length)->bG (a.foldl eK p).1 c:=by
 intro a;induction a with
 |nil=>intro p c b;exact b
 |cons e a d=>
  intro p c b;refine d ?_;unfold eK;split
  .exact RQ (b.cs (by simp only[YC];omega)) _
  .exact b.cs (by simp only[YC];omega)
def OM:∀(a:List aD) {c:bb×List (Zb×Nat)},(c.2.map (·.1)).Nodup->((a.foldl eK c).2.map (·.1)).Nodup:=by
 intro a;induction a with
 |nil=>intro c b;exact b
 |cons e a d=>
  intro c b;refine d ?_;unfold eK;split
  .exact uy b ..
  .exact b
def agr(f:Za):∀(a:Nat) {ds:List aD},eQ (λb=>b.length<=ds.length+a) (eC f a ds):=by
 intro a;induction a with
 |zero=>intro ds;exact lh _ _
 |succ a e=>
  intro ds;unfold eC;refine ba λg=>dU (dV Zm) (ba λc=>ba λ_=>?_);intro h b i d;have:=e (ds:=ds++[c]) _ _ _ d;simp at this;omega
theorem agw{c:Za}{ds}(a:eW c=.ok ds):ds.length<=69:=by
 unfold eW at a;split at a
 .cases a
 .cases b:eC c 69 [] fW with
  |error g=>rw[b]at a;cases a
  |ok e=>
   obtain⟨f,h⟩:=e;rw[b]at a;simp only at a;have d:=agr c 69 (ds:=[]) _ _ _ b;split at a
   .cases a
   .split at a
    .cases a
    .cases a
     simpa using d
abbrev Do(v:Zv)(b a:Option Nat):Obj:=.cells #[v,.map b,.map a] 106
def Tr(a:Zw):Cm a ⟨a.heap.size+3,a.heap.size+1,a.heap.size+2⟩ [.obj a.heap.size (Do (.slice none 0 0) none none)] [] tt
  ((((a.alloc (Do (.slice none 0 0) none none)).alloc (.map #[] 0)).alloc (.map #[] 0)).alloc (.cells #[.slice none 0 0,.map (some (a.heap.size+1)),.map (some (a.heap.size+2)),.slice none 0 0] 167)):=by
 have b:=(((((rk a).A (Do (.slice none 0 0) none none)).A (.map #[] 0)).A (.map #[] 0)).A (.cells #[.slice none 0 0,.map (some (a.heap.size+1)),.map (some (a.heap.size+2)),.slice none 0 0] 167)).nil 273 1 |>.nil 269 2;simp only[World.size_alloc]at b;exact⟨[],_,_,[],[],Zq,(b.gX ((List.reverse_perm _).symm.trans (List.Perm.cons _ (List.perm_append_comm (l₁:=[_,_]) (l₂:=[_,_,_]))))),by simp[tt],Zq,rfl,Zq,rfl,Zq⟩
def Ry(f:Zo)(g:TypeId)(v:Zv)(a:Nat)(e:Zl):Prop:=
 (v=.slice none 0 0/\a=0/\e=[])\/∃d b c,v=.slice (some ⟨d,0,none⟩) a b/\a<=b/\(d,Obj.cells c g)∈f/\c.toList.take a=e
def qV(c:Zo)(v:Zv)(a:List cX):Prop:=∃b:List (cX×Zv),a=b.map (·.1)/\Ry c 273 v a.length (b.map (·.2))/\(∀d∈b,nC c d.2 d.1)/\a.length<1000000
section
variable {f:List Th}{c:kO}{b:Zo}{a:bb}{w e:Zw}
def act{b:Zw}{e:Nat}{c}(g:b.heap[e]?=some (oG c))(h:(c.map (·.1)).Nodup)(a:Zb)(f:Nat):(Instr.mapUpdate 103 (.map (some e)) (Zs a) (Y f)).run prog b=.ok () (fg b e (oG (cR c a f))):=
 vZ (P:=prog) (T:=103) (kt:=9) (et:=3) (d:=.string) Zk Zk (λa:Zb=>Zs a) (λa:Nat=>Y a) (λ_=>trivial) (λ_=>Hi _) yh g h a f
def iz.l1{j m i l}(g:iz e c f b a j m i l w)(r:a.L.length<1000000):∃k,qV k j a.L/\(∀d∈b,d∈k)/\∀d∈k,w.heap[d.1]?=some d.2/\e.heap.size<=d.1:=by
 have q:∀d∈b,w.heap[d.1]?=some d.2/\e.heap.size<=d.1:=λd h=>have p:Th.obj d.1 d.2∈f++uh c j m a i l b:=Ym _ (Ym (uh c j m a i l []) (YE.2 ⟨d,h,rfl⟩));⟨g.bS.y _ p,g.bS.bX _ p _ rfl⟩;have A:=g.row.1;rcases g.row.2 with⟨t,u⟩|⟨o,s,n,rfl,B,v,x,C,D,y⟩
 .exact⟨b,⟨i,g.g3,Y8 ⟨t,u,Yv.1 Zm⟩,g.g6,r⟩,λ_ h=>h,q⟩
 .exact⟨(o,.cells n 273)::b,⟨i,g.g3,Ya ⟨o,s,n,rfl,x,Yb,by simpa using y⟩,λd h=>(g.g6 d h).aS (λ_ z=>Y5 _ z),r⟩,λ_ h=>Y5 _ h,List.forall_mem_cons.2 ⟨⟨v,g.bS.bX _ (Ym _ (Y5 _ Yb)) _ rfl⟩,q⟩⟩
def Im(e:Zw)(c:kO)(f:List Th)(b:Zo)(a:bb)(g:Obj)(d:Ending)(h:Zw):Prop:=∃S,d=.returned (.map (some S))/\Cm e c f ((S,g)::b) a h
set_option maxHeartbeats 8000000 in
def agY{s E A g a4}(O:mB s A g a4)(a3:∀p∈s,e.heap[p.1]?=some p.2)(c2:g.length<=100)(I:af (Cm e c f b a w))(a1:bG a E)(b2:300<=E):Calls prog 77 #[Zp c.C,A] w (Im e c f b (g.foldl eK (a,[])).1 (oG (g.foldl eK (a,[])).2)):=by
 have c1:=nN;have b4:=yL;obtain⟨ad,a9,rfl,-,q⟩:=O.K;have q:=U q;have y:=U a3;have G:=U a1;have J:=U (I.i.A (.map #[] 0));go_in;go_wp2;go_loopw [14] (λj a5=>∃d:Nat,j=Y d/\d<=g.length/\af (Cm e c (.obj w.heap.size (oG ((g.take d).foldl eK (a,[])).2)::f) b ((g.take d).foldl eK (a,[])).1 a5)) (λj _=>g.length-(intOf j).toNat)
 case atStart=>exact⟨0,rfl,Zm,J⟩
 case round=>
  obtain⟨d,rfl,b7,k⟩:=hrel;rcases Yj d g.length with D|b6
  .have a2:bG ((g.take d).foldl eK (a,[])).1 100:=IT (g.take d) (p:=(a,[])) (G.i.cs Zx);have a0:(((g.take d).foldl eK (a,[])).2.map (·.1)).Nodup:=OM _ Zq;have x:af ((g.take (d+1)).foldl eK (a,[])=eK ((g.take d).foldl eK (a,[])) g[d]):=by show _=_;rw[Yt D,YS];rfl
   generalize (g.take d).foldl eK (a,[])=p at *
   obtain⟨b1,c6,rfl,P,N⟩:=q.i d D;have c7:=N _ λp u=>k.i.e8 (y.i p u);have R:dF [] s wr:=λp u=>⟨k.i.e8 (y.i p u),Zq⟩;have c3:=Ah P R;have b8:(0:Int)<=↑d:=Zm;have b9:(↑d:Int) < ↑g.length:=Zm;go_wp21;refine(yK _ _ _).mono ?_;rintro b0 i ⟨rfl,M⟩;have z:=k.i.ae (ef [] M);obtain⟨-,a8,-,b5,c0⟩:=z.K;have b3:c.C≠i.heap.size:=Zm;generalize (ce g[d]).2=v at *
   have m:af (eK p g[d]=if(aP p.1.b2 (ce g[d]).1).isSome then (Aa (ce g[d]).1 p.1,cR p.2 (ce g[d]).1 p.1.L.length)else p):=rfl
   generalize (ce g[d]).1=h at *
   have l:=(z.A (.cells #[Zs h,Y v] 160)).ag;have o:=l.kk h true;have l:=U l;cases B:aP p.1.b2 h with
   |none=>
    rw[B]at o m;simp only[if_true]at o
    go_wp21;go_region;go_wp2;refine⟨⟨d+1,Zj,Zm,?_⟩,Zz⟩;rw[x.i,m.i];exact l.i.au
   |some c4=>
    rw[B]at o m;simp only[if_true]at o
    have K:=U (EO (.named h v) (U l.i.ag) a2 (by simp[dO]));go_wp21;go_region;go_wp21;refine bJ (λF=>F.cell? (Zd i.heap.size 0)=some (Zs h)/\F.cell? (Zd i.heap.size 1)=some (Y v)) ?_ λL=>?_
    .exact⟨(ow (w:=((i.alloc _).drew).drew) (be (w:=i) rfl)).1,(ow (w:=((i.alloc _).drew).drew) (be (w:=i) rfl)).2.1⟩
    refine bf [0,1,2,3,4,5,6] ?_;iterate 7 (refine bi ?_)
    refine bg ?_;refine bI 7 λH t=>?_;(go_simp;go_at_call 134;refine hS K.i λa6 n=>?_;have c8:=aE (n.i.ob (i:=0) rfl);have c5:=act (n.i.ob (i:=1) rfl) a0 h p.1.L.length;have r:=n.i.au.aX (i:=0) rfl (oG (cR p.2 h p.1.L.length));generalize fg a6 w.heap.size _=a7 at *;have r:=U r;clear n);refine t.out _ _ ?_ (λL=>?_)
    .go_keep
    refine nz ?_;refine bL λH t=>?_;go_simp;refine t.out _ _ ?_;refine nz ?_;go_wp2;refine⟨⟨d+1,Zj,Zm,?_⟩,Zz⟩;rw[x.i,m.i];exact r
  .have S:d=g.length:=Zm;subst S;rw[YG]at k;go_wp2;go_ret;exact⟨w.heap.size,rfl,k.i.c6⟩
end
section
variable {b:Zw}{m n:Nat}{a:bb}
abbrev NA(a:gM):Zl:=qx a.t a.y++[fY a.cv,fY a.c1,Y a.num]
def wq(b:List (Int×Nat×Nat)):Obj:=nS (b.map λa=>(.int .u32 a.1,.agg #[Y a.2.1,Y a.2.2]))
def yn(b:List (Int×Nat×List (Int×Nat×Nat))):Obj:=nS (b.map λa=>(.int .u32 a.1,.map (some a.2.1)))
structure sx where
 lo:Int
 hi:Int
 m:Nat
 vs:List (Int×Nat×List (Int×Nat×Nat))
def xP(b:List (Int×sx)):Obj:=nS (b.map λa=>(.int .u32 a.1,.agg #[.int .u32 a.2.lo,.int .u32 a.2.hi,.map (some a.2.m)]))
def AO(b:Zo)(c:List (Int×Nat×List (Int×Nat×Nat))):Prop:=∀a∈c,(a.2.1,wq a.2.2)∈b
def vl(b:Zo)(a:sx):Prop:=(a.m,yn a.vs)∈b/\AO b a.vs
def yW(b:List (Int×Nat×List (Int×Nat×Nat))):List (Int×List (Int×Nat×Nat)):=b.map λa=>(a.1,a.2.2)
def yV(a:sx):jn:=⟨a.lo,a.hi,yW a.vs⟩
def yU(b:List (Int×sx)):List (Int×jn):=b.map λa=>(a.1,yV a.2)
def Eb(v:go):Prop:=v.ao.length<=8/\∀a∈v.ao,jm a.cv/\jm a.c1
def wR:aD->Prop
 |.prog _ _ a _=>a≠[]/\a.length<=4/\∀v∈a,Eb v
 |_=>True
def Hj(n:Int):Instr.keyThatStays (.int .u32 n) (.int .u32 n)=pure (.int .u32 n):=by
 unfold Instr.keyThatStays;rw[Y9 (by show ((IntKind.u32==IntKind.u32)&&(n==n))=true;simp)]
def HI(a b:Int)(c:(Value.int .u32 a)=.int .u32 b):a=b:=Zu
def EN(n:Int)(a:Zw):(convert 2 218 (Y n)).run prog a=.ok (.int .u32 (lS n)) a:=Zk
def acE{e}(g:b.heap[m]?=some (wq e))(h:(e.map (·.1)).Nodup)(c:Int)(f a:Nat):(Instr.mapUpdate 399 (.map (some m)) (.int .u32 c) (.agg #[Y f,Y a])).run prog b=.ok () (fg b m (wq (cR e c (f,a)))):=
 vZ (P:=prog) (T:=399) (kt:=218) (et:=429) (d:=.int .u32) Zk Zk (λc:Int=>.int .u32 c) (λa:Nat×Nat=>.agg #[Y a.1,Y a.2]) (λ_=>rfl) (λ_=>Hj _) HI g h c (f,a)
def ahh{c}(f:b.heap[m]?=some (yn c))(g:(c.map (·.1)).Nodup)(a:Int)(v:Nat)(e:List (Int×Nat×Nat)):(Instr.mapUpdate 261 (.map (some m)) (.int .u32 a) (.map (some v))).run prog b=.ok () (fg b m (yn (cR c a (v,e)))):=
 vZ (P:=prog) (T:=261) (kt:=218) (et:=399) (d:=.int .u32) Zk Zk (λa:Int=>.int .u32 a) (λh:Nat×List (Int×Nat×Nat)=>.map (some h.1)) (λ_=>rfl) (λ_=>Hj _) HI f g a (v,e)
def acP{e}(f:b.heap[m]?=some (xP e))(g:(e.map (·.1)).Nodup)(c:Int)(a:sx):(Instr.mapUpdate 104 (.map (some m)) (.int .u32 c) (.agg #[.int .u32 a.lo,.int .u32 a.hi,.map (some a.m)])).run prog b=.ok () (fg b m (xP (cR e c a))):=
 vZ (P:=prog) (T:=104) (kt:=218) (et:=263) (d:=.int .u32) Zk Zk (λc:Int=>.int .u32 c) (λa:sx=>.agg #[.int .u32 a.lo,.int .u32 a.hi,.map (some a.m)]) (λ_=>rfl) (λ_=>Hj _) HI f g c a
theorem DW{b}(d:jm b)(c:bG a (n+4)):bG (oM b a) n:=bG.aX (vo b (c.cs (by have:=rt d;omega))) _
def IR:∀(a:List gM) {q:bb×List (Int×Nat×Nat)} {n:Nat},(∀b∈a,jm b.cv/\jm b.c1)->bG q.1 (n+8*a.length)->bG (a.foldl mn q).1 n:=by
 intro a;induction a with
 |nil=>simp
 |cons b a f=>
  intro q n c d;refine f (λg e=>c g (Y5 _ e)) ?_;exact DW (c b Zq).1 (DW (c b Zq).2 (d.cs Zg))
def acD:∀(a:List gM) {b:bb×List (Int×Nat×Nat)},(b.2.map (·.1)).Nodup->((a.foldl mn b).2.map (·.1)).Nodup:=by
 intro a;induction a with
 |nil=>simp
 |cons e a d=>intro b c;exact d (uy c ..)
def ahl{l w:Zw}{k h p G H}{v:go}(a9:fk G 446 H v.ao.length (v.ao.flatMap NA))(b0:∀g∈G,l.heap[g.1]?=some g.2)(K:Eb v)(o:af (Cm l k h p a w))(a8:bG a n)(c8:80<=n):Calls prog 212 #[Zp k.C,.agg #[Zs v.t,Y v.y,H,Y v.num]] w (Im l k h p (wE v a).1 (wq (wE v a).2)):=by
 have c7:=nN;have c2:=EN;have A:=U K;have b7:=K.1;have O:=U a8;obtain⟨S,a0,rfl,-,N⟩:=a9.hm b0;have r:=(o.i.cU (.cells #[Zs v.t,Y v.y,.slice S v.ao.length a0,Y v.num] 367)).A (.map #[] 0);simp only[World.size_alloc]at r;have r:=U r;have R:af (wE v a=v.ao.foldl mn (a,[])):=rfl;rw[R.i];go_in;go_wp2;go_loopw [12] (λf b3=>∃d:Nat,f=Y d/\d<=v.ao.length/\af (Cm l k (.obj (w.heap.size+1) (wq ((v.ao.take d).foldl mn (a,[])).2)::h) p ((v.ao.take d).foldl mn (a,[])).1 b3)) (λf _=>v.ao.length-(intOf f).toNat)
 case atStart=>exact⟨0,rfl,Zm,r⟩
 case round=>
  obtain⟨d,rfl,c4,m⟩:=hrel;rcases Yj d v.ao.length with z|c3
  .have J:bG ((v.ao.take d).foldl mn (a,[])).1 16:=IR (v.ao.take d) (λg a7=>A.i.2 g (List.mem_of_mem_take a7)) (O.i.cs Zx);have a6:(((v.ao.take d).foldl mn (a,[])).2.map (·.1)).Nodup:=acD _ Zq;have P:af ((v.ao.take (d+1)).foldl mn (a,[])=mn ((v.ao.take d).foldl mn (a,[])) v.ao[d]):=by show _=_;rw[Yt z,YS];rfl
   generalize (v.ao.take d).foldl mn (a,[])=i at *
   obtain⟨a1,rfl,c1,a4⟩:=N.i Zm;have g:=By (c:=NA) (n:=5) (λ_=>rfl) z (a4 _ m.i.kp);have y:=A.i.2 v.ao[d] (Yy z);generalize v.ao[d]=e at *
   have c9:wr.cell? ⟨a1,d*5,none⟩=_:=g 0 _ rfl;have d0:=g 1 _ rfl;have b1:=g 2 _ rfl;have b2:=g 3 _ rfl;have d1:=g 4 _ rfl;have c5:(0:Int)<=↑d:=Zm;have c6:(↑d:Int) < ↑v.ao.length:=Zm;have b8:w.heap.size+1≠wr.heap.size:=by have:=ay (m.i.ob (i:=0) rfl);omega
   have b9:=rt y.1;have c0:=rt y.2;have u:=λ(h:List Th) (b:Zw) (o:af (Cm l k h p i.1 b))=>EO e.c1 o J Zm;have j:=λ(h:List Th) (b:Zw) (o:af (Cm l k h p (oM e.c1 i.1) b))=>EO (n:=12) e.cv o (DW y.2 J) Zm;obtain⟨E,L,a2⟩:=oP e.cv;obtain⟨F,M,a3⟩:=oP e.c1;rw[a2]at b1 j;rw[a3]at b2 u;have u:=U (u _ _ (m.i.A (.cells #[Zs e.t,Y e.y,.iface E L,.iface F M,Y e.num] 446)).ag)
   have j:=U j;go_wp21;refine bJ (λb4=>∀f,b4.cell? (Zd wr.heap.size f)=#[Zs e.t,Y e.y,.iface E L,.iface F M,Y e.num][f]?) ?_ λI=>?_
   .exact aE (T:=446) (be (w:=wr) rfl)
   refine bf [0,1,2,3,4,5,6,8,9,10] ?_;iterate 10 (refine bi ?_)
   refine bg ?_;refine bI 7 λB q=>?_;(go_simp;go_at_call 134;refine hS u.i λd3 D=>?_;have b6:=aE (D.i.ob (i:=0) rfl);have j:=U (j.i _ _ D));refine q.out _ _ ?_ (λI=>?_)
   .go_keep
   refine nz ?_;refine bI 11 λB q=>?_;(go_simp;go_at_call 134;refine hS j.i λb5 s=>?_;have b6:=aE (s.i.ob (i:=0) rfl);have d2:=acE (s.i.ob (i:=1) rfl) a6 (lS e.num) i.1.L.length (oM e.c1 i.1).L.length;have x:=s.i.au.aX (i:=0) rfl (wq (cR i.2 (lS e.num) (i.1.L.length,(oM e.c1 i.1).L.length)));generalize fg b5 (w.heap.size+1) _=b at *;have x:=U x;clear s);refine q.out _ _ ?_ (λI=>?_)
   .go_keep
   refine nz ?_;refine pN 12 ?_;refine bL λB q=>?_;go_simp;refine q.out _ _ ?_;refine nz ?_;go_wp2;refine⟨⟨d+1,Zj,Zm,?_⟩,Zz⟩;rw[P.i];exact x
  .have a5:d=v.ao.length:=Zm;subst a5;rw[YG]at m;go_wp2;go_ret;exact⟨w.heap.size+1,rfl,m.i.c6⟩
end
def px{b d:Zw}{a c v}(g:b.cell? (Zd a c)=some v)(f:ap [] b d):d.cell? (Zd a c)=some v:=by
 have e:a<b.heap.size:=by
  grind [World.cell?]
 have:=f.ak a e Zq;grind [World.cell?]
abbrev PN(a:go×Zv):Zl:=qx a.1.t a.1.y++[a.2,Y a.1.num]
abbrev CA(b a:Int)(c:Option Nat):Obj:=.cells #[.int .u32 b,.int .u32 a,.map c] 263
def IU:∀(a:List go) {q:bb×jn} {b:Nat},(∀v∈a,Eb v)->bG q.1 (b+64*a.length)->bG (a.foldl na q).1 b:=by
 intro a;induction a with
 |nil=>simp
 |cons v a g=>
  intro q b c e;refine g (λh f=>c h (Y5 _ f)) ?_;have d:=c v Zq;exact IR v.ao (q:=(q.1,[])) d.2 (e.cs (by have:=d.1;grind))
def SN(b:List (Int×Nat×List (Int×Nat×Nat)))(a:Int)(v:Nat)(c:List (Int×Nat×Nat)):yW (cR b a (v,c))=cR (yW b) a c:=FV (λd:Nat×List (Int×Nat×Nat)=>d.2) b a (v,c)
theorem Sd{d a:Zo}{l}(e:AO d l)(f:∀c∈d,c∈a)(g:Int){v:Nat}{x}(h:(v,wq x)∈a):AO a (cR l g (v,x)):=by
 intro c b;rcases FW b with b|rfl
 .exact f _ (e c b)
 omega
abbrev vn(v:go):Int:=lS v.num
abbrev uG(a:bb)(v:go):bb×jn:=(a,⟨lS v.num,lS v.num,[]⟩)
def DR(i:Zw)(e:kO)(d:List Th)(f:Zo)(a:Nat)(Q:bb×jn)(h:Zw):Prop:=∃b c,(∀g∈f,g∈c)/\AO c b/\yW b=Q.2.vs/\(b.map (·.1)).Nodup/\Cm i e (.obj (a+1+1) (CA Q.2.lo Q.2.hi (some (a+1)))::.obj (a+1) (yn b)::.obj a (CA 0 0 none)::d) c Q.1 h
def Rk(i:Zw)(d:kO)(c:List Th)(e:Zo)(Q:bb×jn)(f:Ending)(h:Zw):Prop:=∃(a:sx) (b:Zo),f=.returned (.agg #[.int .u32 a.lo,.int .u32 a.hi,.map (some a.m)])/\(∀g∈e,g∈b)/\vl b a/\yV a=Q.2/\Cm i d c b Q.1 h
def Om{a:Nat}{d e f x y z:Zv}{b}{c:Zw}(g:c.heap[a]?=some (.cells #[d,e,f] b)):(((c.setCell ⟨a,0,none⟩ x).setCell ⟨a,1,none⟩ y).setCell ⟨a,2,none⟩ z).heap[a]?=some (.cells #[x,y,z] b):=ci (i:=2) (ci (i:=1) (ci (i:=0) g x) y) z
def acL{l d:Zw}{t y u a9 h n p a7 b8 a b6}(e1:gH a9 p (.prog b8 a7 a b6))(E:∀g∈a9,l.heap[g.1]?=some g.2)(e2:wR (.prog b8 a7 a b6))(z:af (Cm l t y u h d))(e6:bG h n)(i3:400<=n):Calls prog 135 #[Zp t.C,Zp p] d (Rk l t y u (CB a h)):=by
 have i2:=nN;have h0:=EN;obtain⟨j4,q,b3,g9,e8,b4⟩:=e1;obtain⟨e4,h1,f0⟩:=e2;have D:0<a.length:=YM.2 e4;obtain⟨ad,f8,rfl,-,c4⟩:=e8.hm E;obtain⟨r,rfl,g8,e0⟩:=c4.i D;have S:∀(s:Zw),ap [] l s->∀b (J:b<a.length) (K:b<q.length),∀(k:Nat) (i:Zv),(PN (a[b],q[b]))[k]?=some i->s.cell? ⟨r,b*4+k,none⟩=some i:=λs d9 b J K k i f3=>By (c:=PN) (n:=4) (λ_=>rfl) (ms:=a.zip q) Zx (e0 s d9) k i (by simpa using f3);have i5:=(sZ (cs:=#[_,_,_,_]) (E _ b3)).i _ z.i.kp;have g2:=Yr (ay (E _ b3)) z.i.kp.aG;have h3:=Yr (iI (S l (ar [] l) 0 D Zm 0 _ rfl)) z.i.kp.aG;have I:=S d z.i.kp 0 D Zm;have d4:=I 0 _ rfl;have d5:=I 1 _ rfl;have b1:=I 2 _ rfl;have d6:=I 3 _ rfl;have a3:af (∀b (J:b<a.length) (K:b<q.length),∃x i F,q[b]=.slice x i F):=λb J K=>by
  obtain⟨x,i,N,-⟩:=(b4 b J K).hm E;exact⟨_,_,_,N⟩
 obtain⟨f6,j6,j7,d7⟩:=a3.i 0 D Zm;rw[d7]at b1;simp only[Nat.zero_mul,Nat.zero_add]at d4 d5 b1 d6;have g3:p<d.heap.size+1:=Zm;have h4:r<d.heap.size+1:=Zm;have g4:p<d.heap.size+1+1:=Zm;have h5:r<d.heap.size+1+1:=Zm;have h6:r≠d.heap.size:=Zm;have g5:p≠d.heap.size:=Zm;have h7:r≠d.heap.size+1:=Zm;have g6:p≠d.heap.size+1:=Zm;have h8:r≠d.heap.size+1+1:=Zm;have g7:p≠d.heap.size+1+1:=Zm;have i4:(0:Int) < ↑a.length:=Zm;have c3:af (CB a h=a.foldl na (uG h a[0])):=by
  show _=_;cases a with
  |nil=>simp at D
  |cons v j3=>rfl
 rw[c3.i];have H:=((z.i.A (CA 0 0 none)).A (.map #[] 0)).A (CA (lS a[0].num) (lS a[0].num) (some (d.heap.size+1)));simp only[World.size_alloc]at H;have H:af (DR l t y u d.heap.size (uG h a[0]) _):=⟨[],u,λ_ N=>N,(by intro g j;cases j),rfl,Zq,H⟩;have c1:=U S;have c2:=U b4;have a5:=U f0;have c5:=U e6;have c9:=U E;go_in;go_wp2;go_loopw [27] (λb f4=>∃e:Nat,b=Y e/\e<=a.length/\af (DR l t y u d.heap.size ((a.take e).foldl na (uG h a[0])) f4)) (λb _=>a.length-(intOf b).toNat)
 case atStart=>exact⟨0,rfl,Zm,H⟩
 case round=>
  obtain⟨e,rfl,h9,L⟩:=hrel;rcases Yj e a.length with B|h2
  .have a0:e<q.length:=Zm;have e7:bG ((a.take e).foldl na (uG h a[0])).1 80:=IU (a.take e) (λv e9=>a5.i v (List.mem_of_mem_take e9)) (c5.i.cs Zx);have c7:af ((a.take (e+1)).foldl na (uG h a[0])=na ((a.take e).foldl na (uG h a[0])) a[e]):=by show _=_;rw[Yt B,YS];rfl
   obtain⟨w,a8,R,a2,P,a1,o⟩:=L.i;generalize (a.take e).foldl na (uG h a[0])=f at *
   obtain⟨x,i,F,f2⟩:=a3.i e B a0;have g:=c1.i _ o.kp e B a0;have b5:=c2.i e B a0;have f1:=a5.i a[e] (Yy B);rw[f2]at g b5;generalize a[e]=v at *
   have i6:wr.cell? ⟨r,e*4,none⟩=_:=g 0 _ rfl;have i7:=g 1 _ rfl;have i8:=g 2 _ rfl;have i9:=g 3 _ rfl;have i0:(0:Int)<=↑e:=Zm;have i1:(↑e:Int) < ↑a.length:=Zm;have m:=o.ob (i:=0) rfl;have d3:=aE m;have f9:=bl m;have g0:=ay m;have g1:d.heap.size+1+1≠wr.heap.size:=Zm;have G:=((o.aq (i:=0) (j:=0) rfl (.int .u32 (min f.2.lo (vn v)))).aq (i:=0) (j:=1) rfl (.int .u32 (max f.2.hi (vn v)))).A (.cells #[Zs v.t,Y v.y,.slice x i F,Y v.num] 367);simp only[World.size_setCell]at G;have b7:=aE (G.ob (i:=0) rfl);have b0:=aE (G.ob (i:=1) rfl);have d2:=U (ahl b5 c9.i f1 (U G.ag) e7 (Y4 _));have c6:=U (Yp b0 b7);go_wp21;refine bJ (λb9=>(∀b,b9.cell? ⟨d.heap.size+1+1,b,none⟩=#[.int .u32 (min f.2.lo (vn v)),.int .u32 (max f.2.hi (vn v)),.map (some (d.heap.size+1))][b]?)/\∀b,b9.cell? (Zd wr.heap.size b)=#[Zs v.t,Y v.y,.slice x i F,Y v.num][b]?) ?_ λd8=>?_
   .exact c6.i
   refine bf [0,1,2,3,4] ?_;iterate 5 (refine bi ?_)
   refine bg ?_;refine bI 5 λd0 O=>?_;(go_simp;go_at_call 212;refine d2.i.mono ?_;rintro b0 f5 ⟨a6,rfl,A⟩;have f6:=aE (A.ob (i:=0) rfl);have j5:=aE (A.ob (i:=1) rfl);have j0:=ahh (A.ob (i:=2) rfl) a1 (vn v) a6 (wE v f.1).2;have M:=A.au.aX (i:=1) rfl (yn (cR w (vn v) (a6,(wE v f.1).2)));generalize fg f5 (d.heap.size+1) _=s at *;have M:=U M;clear A);refine O.out _ _ ?_ (λd8=>?_)
   .go_keep
   refine nz ?_;refine bL λd0 O=>?_;go_simp;refine O.out _ _ ?_;refine nz ?_;have b2:af (DR l t y u d.heap.size (na f v) s):=⟨_,_,λg j=>Y5 _ (R g j),Sd a2 (λg j=>Y5 _ j) _ Yb,by rw[SN,P];rfl,uy a1 ..,M.i⟩;rw[<-c7.i]at b2;go_wp2;exact⟨⟨e+1,Zj,Zm,b2⟩,Zz⟩
  .have e3:e=a.length:=Zm;subst e3;rw[YG]at L;obtain⟨w,a8,R,a2,P,a1,o⟩:=L.i;generalize e5:a.foldl na (uG h a[0])=f at *
   have a4:=U e5;have d3:=aE (o.ob (i:=0) rfl);have m:=o.ob (i:=2) rfl;have b7:=aE m;have j1:=bl m;have j2:=ay m;have f7:=aE (Om (x:=.int .u32 f.2.lo) (y:=.int .u32 f.2.hi) (z:=.map (some (d.heap.size+1))) m);have d1:=U (((o.aq (i:=2) (j:=0) rfl (.int .u32 f.2.lo)).aq (i:=2) (j:=1) rfl (.int .u32 f.2.hi)).aq (i:=2) (j:=2) rfl (.map (some (d.heap.size+1)))).au.c6.au;have c8:=U a2;have c0:af (yV ⟨f.2.lo,f.2.hi,d.heap.size+1,w⟩=f.2):=by show jn.mk _ _ (yW w)=_;rw[P]
   go_wp2;exact bodyPost_ret (v:=.agg #[.int .u32 f.2.lo,.int .u32 f.2.hi,.map (some (d.heap.size+1))]) (by simp[results,results135,go_sem,f7]) rfl ⟨⟨f.2.lo,f.2.hi,d.heap.size+1,w⟩,(d.heap.size+1,yn w)::a8,rfl,λg j=>Y5 _ (R g j),⟨Yb,λg j=>Y5 _ (c8.i g j)⟩,by rw[a4.i];exact c0.i,by rw[a4.i];exact d1.i⟩
theorem IS:∀(l:List aD) {q:bb×List (Int×jn)} {b:Nat},(∀a∈l,wR a)->bG q.1 (b+256*l.length)->bG (l.foldl hH q).1 b:=by
 intro l;induction l with
 |nil=>simp
 |cons a l g=>
  intro q b e c;refine g (λi f=>e i (Y5 _ f)) ?_;have d:=e a Zq;cases a with
  |prog m j h k=>exact IU h (q:=(q.1,_)) d.2.2 (c.cs (by have:=d.2.1;grind))
  |_=>exact c.cs (by simp only[YC];omega)
def vl.aS{b c:Zo}(e:∀a∈b,a∈c){f}(d:vl b f):vl c f:=⟨e _ d.1,λa g=>e _ (d.2 a g)⟩
def SM(b:List (Int×sx))(a:Int)(c:sx):yU (cR b a c)=cR (yU b) a (yV c):=FV yV b a c
theorem acG{a:aD}(g:∀e b f c,a≠.prog e b f c)(d:bb×List (Int×jn)):hH d a=d:=by
 cases a with
 |prog e b f c=>grind
 |_=>rfl
def DT(i:Zw)(f:kO)(e:List Th)(g:Zo)(d:Nat)(Q:bb×List (Int×jn))(h:Zw):Prop:=∃a b,(∀c∈g,c∈b)/\(∀c∈a,vl b c.2)/\yU a=Q.2/\(a.map (·.1)).Nodup/\Cm i f (.obj d (xP a)::e) b Q.1 h
def Rl(j:Zw)(f:kO)(e:List Th)(g:Zo)(Q:bb×List (Int×jn))(h:Ending)(i:Zw):Prop:=∃d b a,h=.returned (.map (some d))/\(∀c∈g,c∈a)/\(d,xP b)∈a/\(∀c∈b,vl a c.2)/\yU b=Q.2/\(b.map (·.1)).Nodup/\Cm j f e a Q.1 i
set_option maxHeartbeats 8000000 in
def acN{l h:Zw}{e m k M f g N a c6}(o:mB M N a c6)(c3:∀d∈M,l.heap[d.1]?=some d.2)(e2:a.length<=100)(b7:∀z∈a,wR z)(a5:af (Cm l e m k f h))(c1:bG f g)(d5:27000<=g):Calls prog 78 #[Zp e.C,N] h (Rl l e m k (a.foldl hH (f,[]))):=by
 have e1:=nN;have d6:=EN;obtain⟨ad,d1,rfl,-,w⟩:=o.K;have w:=U w;have a3:=U c1;have K:=U b7;have x:=U c3;have a6:af (DT l e m k h.heap.size ((a.take 0).foldl hH (f,[])) (h.alloc (.map #[] 0))):=⟨[],k,λ_ c=>c,(by intro d c;cases c),rfl,Zq,a5.i.A (.map #[] 0)⟩;go_in;go_wp2;go_loopw [12] (λp c8=>∃b:Nat,p=Y b/\b<=a.length/\af (DT l e m k h.heap.size ((a.take b).foldl hH (f,[])) c8)) (λp _=>a.length-(intOf p).toNat)
 case atStart=>exact⟨0,rfl,Zm,a6⟩
 case round=>
  obtain⟨b,rfl,d8,q⟩:=hrel;rcases Yj b a.length with F|d7
  .have c2:bG ((a.take b).foldl hH (f,[])).1 400:=IS (a.take b) (λz o=>K.i z (List.mem_of_mem_take o)) (a3.i.cs Zx);have r:af ((a.take (b+1)).foldl hH (f,[])=hH ((a.take b).foldl hH (f,[])) a[b]):=by show _=_;rw[Yt F,YS];rfl
   obtain⟨I,a9,D,G,B,u,n⟩:=q.i;generalize (a.take b).foldl hH (f,[])=c7 at *
   obtain⟨d4,L,rfl,E,b5⟩:=w.i b F;have a2:=b5 _ λd c=>n.e8 (x.i d c);have R:=K.i a[b] (Yy F);have d9:(0:Int)<=↑b:=Zm;have e0:(↑b:Int) < ↑a.length:=Zm;obtain⟨-,-,-,-,H⟩:=KJ a[b] L;by_cases a0:∃i e j g,a[b]=.prog i e j g
   .obtain⟨i,c5,j,v,b6⟩:=a0;rw[b6]at E R a2 r H;simp only[tF,fC,if_true]at H a2
    obtain⟨e4,b1,b3,-⟩:=id E;have J:=sZ (cs:=#[_,_,_,_]) (x.i _ b3);have d2:=J.i _ n.kp;have a7:=U (acL E x.i R (U n.ag) c2 (Y4 _));go_wp21;refine bJ (λc9=>c9.cell? (Zd L 3)=some (Y v)) ?_ λb2=>?_
    .go_keep
    refine bf [0,1,2,3,4,5,6,7] ?_;iterate 8 (refine bi ?_)
    refine bg ?_;refine bI 8 λa4 A=>?_;(go_simp;go_at_call 135;refine a7.i.mono ?_;rintro t d0 ⟨a1,b0,rfl,P,b8,b4,s⟩;have d3:=J.i _ s.kp;have e3:=acP (s.ob (i:=0) rfl) u (lS v) a1;have y:=s.aX (i:=0) rfl (xP (cR I (lS v) a1));generalize fg d0 h.heap.size _=a8 at *;have y:=U y;clear s);refine A.out _ _ ?_ (λb2=>?_)
    .go_keep
    refine nz ?_;refine bL λa4 A=>?_;go_simp;refine A.out _ _ ?_;refine nz ?_;have O:af (DT l e m k h.heap.size (hH c7 (.prog i c5 j v)) a8):=⟨_,b0,λd c=>P d (D d c),λd c=>(FW c).elim (λc=>(G d c).aS P) λt=>t▸b8,by rw[SM,B,b4];rfl,uy u _ _,y.i⟩;rw[<-r.i]at O;go_wp2;exact⟨⟨b+1,Zj,Zm,O⟩,Zz⟩
   .have S:∀i e j g,a[b]≠.prog i e j g:=λi e j g t=>a0 ⟨i,e,j,g,t⟩;have c0:fC a[b]≠233:=by cases o:a[b]<;>first|exact absurd o (S _ _ _ _)|simp[fC]
    simp only[tF,c0,if_false]at H
    rw[acG S]at r;go_wp2;refine⟨⟨b+1,Zj,Zm,?_⟩,Zz⟩;rw[r.i];exact q
  .have b9:b=a.length:=Zm;subst b9;rw[YG]at q;go_wp2;go_ret;obtain⟨I,a9,D,G,B,u,n⟩:=q.i;exact⟨h.heap.size,I,_,rfl,λd c=>Y5 _ (D d c),Yb,λd c=>(G d c).aS λe5 c4=>Y5 _ c4,B,u,n.c6⟩
structure yM(bs:Zo)(v:Zv)(S P:Nat)(ds:List aD):Prop where
 L:qV bs v (fi ds).1
 an:(S,oG (fi ds).2)∈bs
 nd:((fi ds).2.map (·.1)).Nodup
 ah:∃lp,(P,xP lp)∈bs/\(∀p∈lp,vl bs p.2)/\yU lp=(CC ds).2/\(lp.map (·.1)).Nodup
def Ro(d:Zw)(f:List aD)(g:Ending)(e:Zw):Prop:=∃v S b c,g=.returned (.agg #[v,.map (some S),.map (some b)])/\ap [] d e/\yM c v S b f/\∀a∈c,e.heap[a.1]?=some a.2/\d.heap.size<=a.1
set_option maxHeartbeats 8000000 in
def RV{c:Zw}{L M ds c6}(e:mB L M ds c6)(c4:∀p∈L,c.heap[p.1]?=some p.2)(c3:yx ds)(b8:∀d∈ds,wR d)(N:ds.length<=100):Calls prog 45 #[M] c (Ro c ds):=by
 have e2:=nN;have D:=U e;have F:=U b8;obtain⟨ad,d4,rfl,-,h⟩:=e.K;have h:=U h;have E:af (∀d∈ds,yu d):=λd e=>by
  obtain⟨b,b9,rfl⟩:=List.getElem_of_mem e;obtain⟨_,_,_,b0,_⟩:=h.i b b9;exact KK b0
 have H:af (bG tt (28000+5000+300+4100*ds.length)):=⟨by simp[tt];omega,by simp[tt]⟩;have n:=U c3;have a2:=U (Tr c);have i:=U c4;go_in;go_wp2;go_loopw [14] (λb c7=>∃a:Nat,b=Y a/\a<=ds.length/\af (Cm c ⟨c.heap.size+3,c.heap.size+1,c.heap.size+2⟩ [.obj c.heap.size (Do (.slice none 0 0) none none)] [] (eo (ds.take a)) c7)) (λb _=>ds.length-(intOf b).toNat)
 case atStart=>exact⟨0,rfl,Zm,a2⟩
 case round=>
  obtain⟨a,rfl,d9,g⟩:=hrel;rcases Yj a ds.length with u|d8
  .have c1:bG (eo (ds.take a)) 5000:=IP (ds.take a) (λd e=>n.i d (List.mem_of_mem_take e)) (λd e=>E.i d (List.mem_of_mem_take e)) (H.i.cs Zx);obtain⟨d7,d0,rfl,b7,b6⟩:=h.i a u;have e4:=b6 _ λp f=>g.i.e8 (i.i p f);have a4:=U (UA b7 i.i (n.i ds[a] (Yy u)) g c1 (Y4 _));have e0:(0:Int)<=↑a:=Zm;have e1:(↑a:Int) < ↑ds.length:=Zm;have a1:af (eo (ds.take (a+1))=hT ds[a] (eo (ds.take a))):=by show _=_;rw[Yt u,zb]
   go_wp21;refine hS a4.i λc8 k=>?_;rw[<-a1.i]at k;go_wp2;exact⟨⟨a+1,Zj,Zm,k⟩,Zz⟩
  .have c0:a=ds.length:=Zm;subst c0;rw[YG]at g;have I:bG (eo ds) 33000:=IP ds n.i E.i (H.i.cs Zm);have J:af (bG (ds.foldl eK (eo ds,[])).1 32000):=IT ds (p:=(eo ds,[])) (I.cs Zm);have K:af (bG (ds.foldl hH ((ds.foldl eK (eo ds,[])).1,[])).1 100):=IS ds (q:=((ds.foldl eK (eo ds,[])).1,[])) F.i (J.i.cs Zm);have a7:=U (agY D.i i.i N g I Zm);go_wp21;refine a7.i.mono ?_;rintro a9 c8 ⟨S,rfl,k⟩;have a6:=U (acN D.i i.i N F.i k J.i Zm);go_wp21;refine a6.i.mono ?_;rintro a9 e9 ⟨l,c5,d1,rfl,c2,r,w,s,t,a3⟩;have a0:af ((fi ds).1.length<1000000):=by
    have:=(Mk (ds.foldl hH ((ds.foldl eK (eo ds,[])).1,[])).1.aK (ds.foldl hH ((ds.foldl eK (eo ds,[])).1,[])).1).1;exact Nat.lt_of_le_of_lt (Nat.le_of_eq this) (by have:=K.i.L;omega)
   have a5:=U (Yl a3 (acQ (ds:=ds)) K.i);have R:=U (Yp (c2 _ Yb) (Yp r (Yp w (Yp s t))));go_wp21;refine hS a5.i λf0 G=>?_;obtain⟨d2,e8,e3,d5,d6,b5,A⟩:=G.i;obtain⟨B,C,rfl⟩:=aW A.row;have d3:=aE A.aw;have m:=G.i.ob (i:=0) rfl;have e5:=aE m;have e6:=bl m;have e7:=ay m;have c9:=aE (Om (x:=.slice B (vU (ds.foldl hH ((ds.foldl eK (eo ds,[])).1,[])).1).L.length C) (y:=.map (some S)) (z:=.map (some l)) m);have O:=U (((A.aq (i:=0) (j:=0) rfl (.slice B (vU (ds.foldl hH ((ds.foldl eK (eo ds,[])).1,[])).1).L.length C)).aq (i:=0) (j:=1) rfl (.map (some S))).aq (i:=0) (j:=2) rfl (.map (some l)));have P:=U b5;go_wp2;refine bodyPost_ret (v:=.agg #[.slice B (vU (ds.foldl hH ((ds.foldl eK (eo ds,[])).1,[])).1).L.length C,.map (some S),.map (some l)]) (by simp[results,results45,go_sem,c9]) rfl ?_;obtain⟨b4,r,w,s,t⟩:=R.i;obtain⟨a8,b1,b2,b3⟩:=O.i.l1 a0.i;have o:=λp f=>b2 p (P.i p f);exact⟨_,S,l,a8,rfl,O.i.bS.fr,⟨b1,o _ b4,OM _ Zq,c5,o _ r,λp f=>(w p f).aS o,s,t⟩,b3⟩
def abl(a:TypeId)(d:Zv)(b:Zw)(c:a=143):(binOp BinOp.neq 20 (.iface a d) .nilIface).run prog b=.ok (.bool true) b:=by subst c;kernel_rfl
def abm(a:Zw):(binOp BinOp.neq 20 .nilIface .nilIface).run prog a=.ok (.bool false) a:=Zk
def ys(a:Nat)(b:Zv):Prop:=(a=42/\b=.pointer none)\/(a=65/\b=.slice none 0 0)\/(a=58/\b=.string ⟨#[]⟩)
def Fw{d m}(g:ys d m)(i j:Addr)(e:Zw):CallsD prog d #[.pointer (some i),.pointer (some j)] .returning e λf k l=>f=.returned (.tuple #[])/\k=.returning/\l=e:=by
 have h:=abm;rcases g with⟨rfl,rfl⟩|⟨rfl,rfl⟩|⟨rfl,rfl⟩;all_goals
  first
   |refine callsD_of_wpS func42 rfl λa c b=>?_
   |refine callsD_of_wpS func65 rfl λa c b=>?_
   |refine callsD_of_wpS func58 rfl λa c b=>?_
  apply wpS_seq;apply wpS_region;simp[wpOpsS,go_sem,recoverD,b,ntmps42,ntmps65,ntmps58,Exit.thenS];apply wpS_seq;apply wpS_region;simp[wpOpsS,go_sem,Exit.thenS,h];refine wpS_cond (t:=false) (by simp[Act.eval,Array.replicate]) ?_;simp only[Ye,if_false]
  refine wpS_of_wp (wp_skip ?_);cases a
  simp_all[bodyPostS,results,results42,results65,results58]
def Kl{h z}(j:ys h z)(b Q c:Nat)(n o:Zv)(i:List PanicEntry)(a:Zw)(r:a.cell? (Zd b 0)=some n)(s:a.cell? (Zd Q 0)=some o)(p:a.frozen? ⟨b,0,none⟩=false)(q:a.frozen? ⟨Q,0,none⟩=false)(u:b≠Q):CallsD prog h #[Zp b,Zp Q] (.panicking ({ v:=.iface 143 (Zp c),recovered:=false }::i)) a λg l m=>
   g=.returned (.tuple #[])/\l=.panicking ({ v:=.iface 143 (Zp c),recovered:=true }::i)/\m=(a.setCell ⟨b,0,none⟩ z).setCell ⟨Q,0,none⟩ (.iface 143 (Zp c)):=by
 have k:=abl 143;rcases j with⟨rfl,rfl⟩|⟨rfl,rfl⟩|⟨rfl,rfl⟩;all_goals
  first
   |refine callsD_of_wpS func42 rfl λd f e=>?_
   |refine callsD_of_wpS func65 rfl λd f e=>?_
   |refine callsD_of_wpS func58 rfl λd f e=>?_
  apply wpS_seq;apply wpS_region;simp[wpOpsS,go_sem,recoverD,e,ntmps42,ntmps65,ntmps58,Exit.thenS];apply wpS_seq;apply wpS_region;simp[wpOpsS,go_sem,Exit.thenS,k];refine wpS_cond (t:=true) (by simp[Act.eval,Array.replicate]) ?_;simp only[if_true]
  refine wpS_of_wp ?_;go_wp21;refine(Qy c a).mono ?_;rintro g w ⟨rfl,rfl⟩;go_wp2;cases d
  simp_all[bodyPostS,results,results42,results65,results58]
section
variable {a c:Zo}{d:List cX}{b:List aD}{e:List Nat}
def tS(a:Zo)(f:Nat)(b:List aD):Prop:=∃d e v S c,(f,Obj.cells #[d,v,.map (some S),.map (some c)] 109)∈a/\mB a d b e/\yM a v S c b
def Rm(e:Zw)(b:List aD)(g:Ending)(f:Zw):Prop:=∃d a,g=.returned (.tuple #[Zp d,.nilIface])/\ap [] e f/\tS a d b/\(∀c∈a,f.heap[c.1]?=some c.2)/\e.heap.size<=d/\∀c∈a,e.heap.size<=c.1
def mB.aS(f:∀k∈a,k∈c){g}(d:mB a g b e):mB c g b e:=
 ⟨d.am,d.row.aZ f,λj h i=>(d.e1 j h i).aZ f⟩
def qV.aS(f:∀e∈a,e∈c){v}(o:qV a v d):qV c v d:=by
 obtain⟨i,p,b,q,r⟩:=o;refine⟨i,p,?_,λe s=>(q e s).aS f,r⟩;rcases b with b|⟨n,g,h,j,k,l,m⟩
 .exact Y8 b
 .exact Ya ⟨n,g,h,j,k,f _ l,m⟩
def mB.h6{f}(i:mB a f b e):∃g h d,f=.slice g h d:=by
 rcases i.row with⟨c,_⟩|⟨l,j,k,c,_⟩<;>exact⟨_,_,_,c⟩
def qV.h6{v}(g:qV a v d):∃c e f,v=.slice c e f:=by
 obtain⟨k,_,h,_⟩:=g;rcases h with⟨b,_⟩|⟨l,i,j,b,_⟩<;>exact⟨_,_,_,b⟩
def yM.aS(e:∀f∈a,f∈c){v S g}(d:yM a v S g b):yM c v S g b:=by
 obtain⟨m,h,i,j,k⟩:=d.ah;exact⟨d.L.aS e,e _ d.an,d.nd,m,e _ h,λf l=>(i f l).aS e,j,k⟩
def RL{A:Za}(a9:eW A=.ok b)(a8:∀a3∈b,wR a3){f}(a7:Gl f):Calls prog 25 #[.string A] f (Rm f b):=by
 have b1:=jT;have a6:Below f.heap.size f ((f.alloc (.cells #[.pointer none] 53)).alloc (.cells #[.nilIface] 55)):=((Below.refl _ _).alloc (Y4 _) _).alloc Zq _;have a2:=U (JJ A (a7.az a6));have o:=U a9;have p:=((rk f).A (.cells #[.pointer none] 53)).A (.cells #[.nilIface] 55);simp only[World.size_alloc]at p;have p:=U p;go_enter_defers func25,ntmps25;go_wp21;refine a2.i.mono ?_;rintro H b6 (⟨a4,b3,b0,F,w,rfl,L,s,J⟩|⟨a5,w,_⟩);rotate_left
 .exact absurd (o.i.symm.trans w) Zq
 obtain rfl:b=a4:=by have:=o.i.symm.trans w;injection this
 obtain⟨x,y,z,rfl⟩:=s.h6;have a1:=U (RV s (λc d=>(J c d).1) (Hw o.i) a8 (by have:=agw o.i;omega));have a0:=U (p.i.ae L);have N:=U s;have P:=U J;have R:=U L.aG;go_wp21;refine a1.i.mono ?_;rintro H m ⟨v,S,r,G,rfl,t,I,K⟩;obtain⟨B,C,D,rfl⟩:=I.L.h6;have E:=a0.i.ae t;have q:=E.A (.cells #[.slice x y z,.slice B C D,.map (some S),.map (some r)] 109);have k:=λe=>q.aq (i:=2) (j:=0) rfl e;have n:=λe g=>(k e).aq (i:=1) (j:=0) rfl g;have b9:=aE (q.aR (i:=2) rfl);have c0:=bl (q.aR (i:=2) rfl);have c1:=ay (q.aR (i:=2) rfl);have g:=λe=>aE ((k e).aR (i:=1) rfl);have b7:=λe=>bl ((k e).aR (i:=1) rfl);have b8:=ay (E.aR (i:=0) rfl);have O:af (∃a,tS a m.heap.size b/\∀c∈a,f.heap.size<=c.1/\∀e g,(((m.alloc (.cells #[.slice x y z,.slice B C D,.map (some S),.map (some r)] 109)).setCell ⟨f.heap.size,0,none⟩ e).setCell ⟨f.heap.size+1,0,none⟩ g).heap[c.1]?=some c.2):=by
  have M:=R.i;have b2:=t.aG;simp only[World.size_alloc]at M;have d:∀c∈F++G,m.heap[c.1]?=some c.2/\f.heap.size+1<c.1:=λc d=>by
   rcases Yn.1 d with d|d
   .obtain⟨h,l⟩:=P.i c d;simp only[World.size_alloc]at l;exact⟨(t.ak _ (ay h) Zq).trans h,l⟩
   .exact⟨(K c d).1,Yr M (K c d).2⟩
  refine⟨(m.heap.size,.cells #[.slice x y z,.slice B C D,.map (some S),.map (some r)] 109)::(F++G),⟨_,b0,_,S,r,Yb,N.i.aS λc d=>Y5 _ (Yf _ d),I.aS λc d=>Y5 _ (Ym _ d)⟩,λc u=>?_⟩;rcases Yg.1 u with rfl|u
  .exact⟨by simp only;omega,λe g=>(n e g).aR (i:=0) rfl⟩
  .obtain⟨h,l⟩:=d c u;exact⟨Zm,λe g=>(Below.heap_setCell _ _ _ _ (by simp only;omega)).trans ((Below.heap_setCell _ _ _ _ (by simp only;omega)).trans ((Below.heap_alloc _ _ _ (ay h)).trans h))⟩
 have k:=U k;have n:=U n;go_wp2;refine leaves_cons (f:=42) (args:=#[Zp f.heap.size,.pointer (some ⟨f.heap.size+1,0,none⟩)]) Zq (by simp[go_sem]) ?_;refine(Fw (.inl ⟨rfl,rfl⟩) _ _ _).mono ?_;rintro H b4 b5 ⟨rfl,rfl,rfl⟩;simp only[Leaves,settle];obtain⟨a,h,l⟩:=O.i;exact⟨.tuple #[Zp m.heap.size,.nilIface],by simp[results,results25,go_sem,λe=>aE ((k.i e).aR (i:=2) rfl),λe g=>aE ((n.i e g).aR (i:=1) rfl)],m.heap.size,a,rfl,(n.i _ _).fr,h,λc d=>(l c d).2 _ _,Zm,λc d=>(l c d).1⟩
end
section
variable {a i kd p:Nat}
abbrev aJ(t:Zb):Za:=⟨t.toArray⟩
structure Ij(y:Mar.aU):Prop where
 de:y.w<=4
 hA:Mar.ee y.text=true->y.w=2
 nn:∀c,Mar.fK c=true->y.text=[c]->y.w=4
def Xv:(Mar.hC.all λa=>match a with|c::_::_=>Mar.eF c|_=>false)=true:=Zr
theorem FE{a:Zb}(d:Mar.ee a=true):∃b c f,a=b::c::f/\Mar.eF b=true:=by
 have e:a∈Mar.hC:=by simpa[Mar.ee]using d
 have:=List.all_eq_true.1 Xv a e;grind
def VO{j g}(b:Mar.c9 j a=.ok g):Ij g/\g.y=a:=by
 unfold Mar.c9 at b;split at b
 .cases b
  exact⟨⟨Zq,λb=>(by grind [FE]),λf _ b=>Zg⟩,rfl⟩
 .rename_i f t;split at b
  .rename_i k;have i:∀c,Mar.fK c=true->Mar.a9 (f::t)≠[c]:=λc e d=>by
    grind [Mar.a9,Mar.k5]
   unfold Mar.ek at b;split at b
   .cases b
   .split at b
    .cases b;exact⟨⟨Zq,λ_=>rfl,λc e d=>absurd d (i c e)⟩,rfl⟩
    .rename_i h;cases b
     exact⟨⟨Zq,λb=>absurd b h,λc e d=>absurd d (i c e)⟩,rfl⟩
  .split at b
   .rename_i m l;unfold Mar.f5 at b;split at b
    .cases b
     refine⟨⟨Zq,λh=>?_,λc e d=>?_⟩,rfl⟩;all_goals grind [FE,Mar.a9,Mar.k5]
    grind
   .split at b
    .cases b
     exact⟨⟨Zq,λb=>(by grind [FE]),λf _ b=>rfl⟩,rfl⟩
    grind
def VQ{c f}(b:Mar.c9 c a=.error f):f.no≠0/\f.y=a:=by
 unfold Mar.c9 at b;split at b
 .cases b
 .split at b
  .unfold Mar.ek at b;grind
  .split at b
   .unfold Mar.f5 at b;grind
   grind
def Wd(c:Except Mar.ac (Mar.aU×Nat))(a:ge):Prop:=match c with
 |.ok (b,p)=>(a.w=b.w/\a.text=b.text/\a.n=b.n/\a.y=b.y/\a.fin=p)/\Ij b
 |.error f=>a.w=5/\a.e=f.no/\a.y=f.y/\f.no≠0
def PY(t:Zb)(p:Nat):Wd (qJ t p) (iq t p):=by
 unfold qJ iq gE;cases c:Mar.c9 (t.drop (p+Mar.es (t.drop p))) (p+Mar.es (t.drop p))with
 |ok d=>
  obtain⟨a,b⟩:=VO c;exact⟨⟨rfl,rfl,rfl,b.symm,rfl⟩,a⟩
 |error f=>
  obtain⟨a,b⟩:=VQ c;exact⟨rfl,rfl,b.symm,a⟩
def dA(b:List bt):Ty->Int->Prop
 |.plain h,i=>i=h/\h<=4
 |.named j a,i=>0<=i/\∃e,b[i.toNat]?=some e/\e.w=14/\e.a5=j/\e.y=a
 |.opaq d f,i=>0<=i/\b[i.toNat]?=some (fV (if f then 6 else 7) d)
 |.str d _,i=>0<=i/\b[i.toNat]?=some (fV 8 d)
 |.arr g d f,i=>0<=i/\∃c,b[i.toNat]?=some (dd (if f then 9 else 10) d c)/\dA b g c
 |.opt g,i=>0<=i/\∃c,b[i.toNat]?=some (dd 11 0 c)/\dA b g c
 |.void,i=>i = -1
def rF{c:Type}{a d:List c}{b}(e:a[i]?=some b):(a++d)[i]?=some b:=by
 grind
theorem dA.b8{k}(l:List bt):∀{e:Ty} {i:Int},dA k e i->dA (k++l) e i:=by
 intro e;induction e with
 |plain d=>intro i b;exact b
 |named o a=>rintro i ⟨c,n,b,d⟩;exact⟨c,n,rF b,d⟩
 |opaq j f=>rintro i ⟨c,b⟩;exact⟨c,rF b⟩
 |str j f=>rintro i ⟨c,b⟩;exact⟨c,rF b⟩
 |arr m j f g=>rintro i ⟨c,h,b,d⟩;exact⟨c,h,rF b,g d⟩
 |opt m g=>rintro i ⟨c,h,b,d⟩;exact⟨c,h,rF b,g d⟩
 |void=>intro i b;exact b
abbrev Nl:=List (Zb×Option aD)
abbrev rB(a:List (Zb×Nat×Int)):bt:=⟨5,0,0,a.map (·.2.2),[],0,[],0⟩
def lY(h:List bt)(g:Nl)(e:Ty)(of:Int):Prop:=
 (∃b,e=.plain b/\(b=0\/b=1\/b=4)/\of=b)\/(∃d a t f c,e=.named d a/\4<of/\aP g d=some (some (.enum t f c))/\h[of.toNat]?=some (rB c))
def dh(b:List (List Int×aV)):List (Int×aV):=b.flatMap λa=>a.1.map λc=>(c,a.2)
def jv(b:List (List Int×aV)):Option aV:=(b.find? λa=>a.1.isEmpty).map (·.2)
def kl(b:List bt)(k:Nl)(e:aD)(i:Int):Prop:=match e with
 |.typedef e=>dA b e.H i/\0<=i
 |.enum _ _ h=>0<=i/\b[i.toNat]?=some (rB h)
 |.struct _ _ h=>0<=i/\∃c:List Int,b[i.toNat]?=some ⟨12,0,0,[],c,0,[],0⟩/\c.length=h.length/\∀(f:Nat) (p:Int) (g:aV),c[f]?=some p->h[f]?=some g->dA b g.H p
 |.union _ _ l d=>0<=i/\∃(of:Int) (c:List Int) (j:Int),b[i.toNat]?=some ⟨13,0,of,(dh d).map (·.1),c,j,[],0⟩/\lY b k l.H of/\
   c.length=(dh d).length/\(∀(f:Nat) (p:Int) (g:Int×aV),c[f]?=some p->(dh d)[f]?=some g->dA b g.2.H p)/\
   (match jv d with
   |none=>j = -2
   |some e=>dA b e.H j)/\∀a∈d,a.1=[]->jv d=some a.2
 |_=>False
def Kp(c d:Nl):Prop:=∀b a,aP c b=some (some a)->aP d b=some (some a)
theorem Iv(a:Nl):Kp a a:=λ_ _ b=>b
theorem lY.b8{e c d f of}(b:lY e c f of)(m:List bt)(l:Kp c d):lY (e++m) d f of:=by
 rcases b with b|⟨o,a,t,g,n,h,i,j,k⟩
 .exact Y8 b
 .exact Ya ⟨o,a,t,g,n,h,i,l _ _ j,rF k⟩
theorem kl.b8{r o q d i}(c:kl r o d i)(e:List bt)(v:Kp o q):kl (r++e) q d i:=by
 cases d with
 |const a b f=>exact c
 |prog a b f d=>exact c
 |typedef d=>exact⟨c.1.b8 e,c.2⟩
 |enum a b f=>exact⟨c.1,rF c.2⟩
 |struct a b f=>
  obtain⟨g,n,h,j,k⟩:=c;exact⟨g,n,rF h,j,λl p m a b=>(k l p m a b).b8 e⟩
 |union a b f w=>
  obtain⟨g,of,n,s,h,j,k,t,x,u⟩:=c;refine⟨g,of,n,s,rF h,j.b8 e v,k,λl p m a b=>(t l p m a b).b8 e,?_,u⟩;grind [dA.b8]
def uY(d:List bt)(c:Nl)(p:Zb×Option aD)(a:ig):Prop:=a.s=p.1/\match p.2 with
 |none=>a.a1=2
 |some (.const _ _ v)=>a.a1=0/\a.n=v
 |some (.prog ..)=>a.a1=2
 |some b=>a.a1=1/\a.y=(ce b).2/\kl d c b a.n
theorem uY.b8{l i j p k}(h:uY l i p k)(c:List bt)(g:Kp i j):uY (l++c) j p k:=by
 refine⟨h.1,?_⟩;have b:=h.2;split
 .simp_all
 .simp_all
 .simp_all
 .rename_i f n o m;rw[m]at b;cases f with
  |const a d e=>simp_all
  |prog a d e f=>grind
  |typedef f=>exact⟨b.1,b.2.1,b.2.2.b8 c g⟩
  |enum a d e=>exact⟨b.1,b.2.1,b.2.2.b8 c g⟩
  |struct a d e=>exact⟨b.1,b.2.1,b.2.2.b8 c g⟩
  |union a d e f=>exact⟨b.1,b.2.1,b.2.2.b8 c g⟩
structure lX(rows:List bt)(nl:Nl)(l:List ig):Prop where
 am:l.length=nl.length
 f8:∀(i:Nat) (p:Zb×Option aD) (r:ig),nl[i]?=some p->l[i]?=some r->uY rows nl p r
 nd:(nl.map (·.1)).Nodup
def lX.i7{f b a}(d:lX f b a):a.map (·.s)=b.map (·.1):=by
 apply List.ext_getElem?;intro i;rw[List.getElem?_map,List.getElem?_map];rcases Yj i b.length with c|c
 .have e:i<a.length:=by rw[d.am];omega
  have:=d.f8 i b[i] a[i] (Yd c) (Yd e);rw[Yd c,Yd e];simp[this.1]
 grind [am]
theorem lX.b8{f c d}(b:lX f c d)(e:List bt):lX (f++e) c d:=⟨b.am,λi p h a g=>(b.f8 i p h a g).b8 e (Iv c),b.nd⟩
theorem VL(b:Nl)(a:Zb):(aP b a=none/\qo (b.map (·.1)) a<0)\/(∃(i:Nat) (c:Option aD),aP b a=some c/\qo (b.map (·.1)) a=(i:Int)/\b[i]?=some (a,c)):=by
 unfold qo;induction b with
 |nil=>left;simp[aP]
 |cons p b h=>
  by_cases l:p.1=a
  .grind [aP]
  .have f:(p.1==a)=false:=Zu;have k:(a==p.1)=false:=Zg;have g:aP (p::b) a=aP b a:=by simp[aP,List.find?,f]
   rw[g];rcases h with⟨d,e⟩|⟨i,c,d,e,j⟩
   .grind
   .right;refine⟨i+1,c,d,?_,Zu⟩;grind
structure cq where
 dc:Nat
 nl:Nl
 pd:Nl
 o:Zb
 ps:List cj
 rf:List (Zb×Int)
 fz:List ig
def oJ(b:List bt):List (Zb×Int):=b.filterMap λa=>if a.w=14 then some (a.a5,a.y)else none
def ac5(b:List bt)(a:bt):oJ (b++[a])=oJ b++if a.w=14 then [(a.a5,a.y)]else []:=by
 grind [oJ]
def ot:List bt:=[⟨0,0,0,[],[],0,[],0⟩,⟨1,0,0,[],[],0,[],0⟩,⟨2,0,0,[],[],0,[],0⟩,⟨3,0,0,[],[],0,[],0⟩,⟨4,0,0,[],[],0,[],0⟩]
def AL(b:Nat)(a:bt):Prop:=a.of<b/\(∀c∈a.aB,c<b)/\a.dR<b/\(a.w=5->∀c∈a.aI,dT (-2147483648) 2147483647 c=true)
def Fz(a:List ig)(e:Nl)(c:List ig):Prop:=(∃d,c=a++d)/\∀(b:Nat) (p:Zb×Option aD),b<a.length->e[b]?=some p->p.2≠none
def Fz.d8{c b a}(e:Fz c b a)(k:a.length=b.length)(p:Zb×Option aD)(d:ig):Fz c (b++[p]) (a++[d]):=by
 obtain⟨⟨i,l⟩,f⟩:=e;refine⟨⟨i++[d],Zu⟩,λh j g m=>f h j g ?_⟩;grind
theorem Fz.aq{a b c}(f:Fz a b c){e:Zb}(j:b[i]?=some (e,none))(d:aD)(r:ig):Fz a (ew b e d) (c.set i r):=by
 obtain⟨⟨g,m⟩,h⟩:=f;have k:a.length<=i:=by
  grind
 refine⟨⟨g.set (i-a.length) r,Zu⟩,λo p l n=>?_⟩;grind [ew]
structure Q(t:Zb)(b:cq)(st:St)(σ:ai):Prop where
 e:σ.s.e=0
 wd:Wd (fD t st.y st.nx) σ.s.x
 nl:st.G=b.nl++b.pd
 pd:b.pd=[]\/∃s,b.pd=[(s,none)]/\aP b.nl s=none
 nm:lX σ.h b.nl σ.G
 H:σ.an=st.an
 cn:σ.ax+b.dc=st.ax
 pg:σ.ah=st.ah.map (·.1)
 cV:∃l,σ.h=ot++l
 dK:∀(i:Nat) (r:bt),σ.h[i]?=some r->AL (max i 5) r
 ou:σ.i=b.o
 pr:σ.ao=b.ps
 er:oJ σ.h=b.rf
 e2:Fz b.fz b.nl σ.G
def cq.cf(b:cq)(a:List (Zb×Nat)):cq:={ b with rf:=b.rf++a.map λp=>(p.1,(p.2:Int)) }
theorem pR(b:cq):b.cf []=b:=by simp[cq.cf]
theorem wJ(b:cq)(a c:List (Zb×Nat)):(b.cf a).cf c=b.cf (a++c):=by simp[cq.cf]
structure Er(f:Mar.ac)(σ:ai):Prop where
 e:σ.s.e=f.no
 a:σ.s.a=f.y
 z:f.no≠0
structure Bd(f:Mar.ac)(σ:ai):Prop where
 e:σ.s.e=0
 k:σ.s.x.w=5
 n:σ.s.x.e=f.no
 a:σ.s.x.y=f.y
 z:f.no≠0
variable {t : Zb} {st h : St} {σ g j : ai} {b : cq} {f : Mar.ac}
def Er.bE(b:Er f σ)(d:bp σ g):Er f g:=by
 obtain⟨a,c⟩:=d (by rw[b.e];have:=b.z;omega);exact⟨a.trans b.e,c.trans b.a,b.z⟩
theorem Er.d5(a:Er f σ):σ.s.e≠0:=by rw[a.e];have:=a.z;omega
def Q.bd(a:Q t b st σ)(c:fD t st.y st.nx=.error f):Bd f σ:=by
 have:=a.wd;rw[c]at this;exact⟨a.e,this.1,this.2.1,this.2.2.1,this.2.2.2⟩
def Bd.is(a:Bd f σ){l:Zb}(b:kd≠5):aM σ kd l=false:=by
 grind [aM,kT,k]
theorem Bd.gK(b:Bd f σ):Er f (eu σ):=by
 have:(eu σ).s=⟨σ.s.x,f.no,f.y⟩:=by
  show oq σ.s=_;unfold oq rq kA;rw[Y9 b.k,Y9 b.e,b.n,b.a]
 exact⟨Zg,Zg,b.z⟩
def Bd.g7(a:Bd f σ){l}(c:kd≠5):Er f (aj t kd l σ):=by
 have b:aj t kd l σ=eu σ:=by
  unfold aj sg eu;have:=a.is (l:=l) c;grind [aM]
 rw[b];exact a.gK
def vX(kd:Nat)(a:Zb):Bool:=(kd==2&&Mar.ee a)||(kd==4&&(a.length==1&&Mar.fK (a.getD 0 0)))
def ZB{a:Zb}(b:vX kd a=true):kd≠5:=by
 grind [vX]
def Q.is{d:Mar.aU}(h:Q t b st σ)(r:fD t st.y st.nx=.ok (d,p)){l:Zb}(f:vX kd l=true):aM σ kd l=(d.text==l):=by
 have j:=h.wd;rw[r]at j;obtain⟨⟨n,o,-⟩,i⟩:=j;unfold aM kT;rw[h.e,n,o];by_cases k:d.text=l
 .have s:d.w=kd:=by
   unfold vX at f;simp only[Bool.or_eq_true,Bool.and_eq_true,beq_iff_eq]at f;rcases f with⟨a,g⟩|⟨a,g,m⟩
   .rw[a];exact i.hA Zu
   .rw[a];obtain⟨c,q⟩:∃c,l=[c]:=by
     match l,g with
     |[c],_=>simp
    rw[q]at m k;exact i.nn c Zu k
  simp_all
 simp_all
theorem Q.O{g:Mar.aU}(a:Q t b st σ)(f:fD t st.y st.nx=.ok (g,p)):Q t b { st with y:=p,nx:=none } (bq t σ):=by
 have c:=a.wd;rw[f]at c;obtain⟨⟨-,-,-,-,d⟩,-⟩:=c;refine⟨a.e,?_,a.nl,a.pd,a.nm,a.H,a.cn,a.pg,a.cV,a.dK,a.ou,a.pr,a.er,a.e2⟩;show Wd (qJ t p) (iq t σ.s.x.fin);rw[d];exact PY t p
theorem Q.gC{d:Mar.aU}(a:Q t b st σ)(f:fD t st.y st.nx=.ok (d,p)):Q t b { st with y:=p,nx:=some d } σ:=by
 have c:=a.wd;rw[f]at c;exact⟨a.e,c,a.nl,a.pd,a.nm,a.H,a.cn,a.pg,a.cV,a.dK,a.ou,a.pr,a.er,a.e2⟩
def Q.hk(d:Q t b st σ)(a:Zb):(aP b.nl a=none/\bY σ a<0)\/(∃(i:Nat) (c:Option aD) (h:ig),aP b.nl a=some c/\bY σ a=(i:Int)/\b.nl[i]?=some (a,c)/\σ.G[i]?=some h/\uY σ.h b.nl (a,c) h):=by
 have k:bY σ a=qo (b.nl.map (·.1)) a:=by unfold bY;rw[d.nm.i7]
 rw[k];rcases VL b.nl a with e|⟨i,c,e,j,f⟩
 .simp_all
 .right;have l:i<b.nl.length:=by
   grind
  have g:i<σ.G.length:=by rw[d.nm.am];omega
  exact⟨i,c,σ.G[i],e,j,f,Yd g,d.nm.f8 i _ _ f (Yd g)⟩
end
section
variable {a kd p:Nat}{nl:Nl}{d h τ:Type}
variable {t : Zb} {st g : St} {σ i j σ1 σ2 : ai} {b c : cq} {f : Mar.ac}
def S(t:Zb)(b:d->cq->Prop)(e:Except Mar.ac (d×St))(σ:ai):Prop:=match e with
 |.ok (a,g)=>∃c,Q t c g σ/\b a c
 |.error f=>Er f σ
def Sx(t:Zb)(b:d->τ->cq->Prop)(e:Except Mar.ac (d×τ×St))(σ:ai):Prop:=match e with
 |.ok (a,h,g)=>∃c,Q t c g σ/\b a h c
 |.error f=>Er f σ
theorem hp{i R'}{e:PM d}{k:d->PM h}(b:S t i (e st) σ1)(l:bp σ1 σ2)(o:∀a g c,Q t c g σ1->i a c->S t R' (k a g) σ2):S t R' (aN e k st) σ2:=by
 unfold aN;cases j:e st with
 |ok p=>rw[j]at b;obtain⟨c,m,n⟩:=b;grind
 |error f=>rw[j]at b;exact Er.bE b l
theorem gB{j R'}{e:PX τ d}{l:d->PX τ h}{i}(b:Sx t j (e i st) σ1)(n:bp σ1 σ2)(q:∀a m g c,Q t c g σ1->j a m c->Sx t R' (l a m g) σ2):Sx t R' (aQ e l i st) σ2:=by
 unfold aQ;cases k:e i st with
 |ok r=>rw[k]at b;obtain⟨c,o,p⟩:=b;grind
 |error f=>rw[k]at b;exact Er.bE b n
theorem iY{g}{e:PM d}{i:τ}(b:S t g (e st) σ1):Sx t (λa l c=>g a c/\l=i) (lift e i st) σ1:=by
 unfold lift;cases h:e st with
 |ok m=>rw[h]at b;obtain⟨c,j,k⟩:=b;exact⟨c,j,k,rfl⟩
 |error f=>rw[h]at b;exact b
theorem S.aZ{R b:d->cq->Prop}{e}(f:S t R e σ)(g:∀a c,R a c->b a c):S t b e σ:=by
 unfold S at *
 grind
theorem Sx.aZ{R b:d->τ->cq->Prop}{e}(g:Sx t R e σ)(h:∀a f c,R a f c->b a f c):Sx t b e σ:=by
 unfold Sx at *
 grind
theorem S.ret{c:d->cq->Prop}{a}(e:Q t b st σ)(f:c a b):S t c (ret a st) σ:=⟨b,e,f⟩
theorem Sx.ret{c:d->τ->cq->Prop}{a e}(f:Q t b st σ)(g:c a e b):Sx t c (eJ a e st) σ:=⟨b,f,g⟩
def ZQ(d:Q t b st σ)(a:Zb):(∀c,aP b.nl a=some c->aP st.G a=some c)/\(aP b.nl a=none->aP st.G a=none\/aP st.G a=some none):=by
 rw[d.nl];unfold aP;grind [Q.pd]
def pk(t:Zb)(st:St):(∃a p,fD t st.y st.nx=.ok (a,p))\/∃f,fD t st.y st.nx=.error f:=by
 cases b:fD t st.y st.nx<;>grind
def rJ{a:Mar.aU}(b:fD t st.y st.nx=.ok (a,p)):next (aJ t) st=.ok (a,{ st with y:=p,nx:=none }):=by
 simp_all[next]
theorem tg(a:fD t st.y st.nx=.error f):next (aJ t) st=.error f:=by
 simp_all[next]
theorem wo{a:Mar.aU}(b:fD t st.y st.nx=.ok (a,p)):ht (aJ t) st=.ok (a,{ st with y:=p,nx:=some a }):=by
 simp_all[ht]
theorem zM(a:fD t st.y st.nx=.error f):ht (aJ t) st=.error f:=by
 simp_all[ht]
def CS(c:Q t b st σ){l:Zb}(d:vX kd l=true):(∃f,jD (aJ t) l st=.error f/\Bd f σ)\/∃g,jD (aJ t) l st=.ok (aM σ kd l,g)/\Q t b g σ:=by
 rcases pk t st with⟨e,p,a⟩|⟨f,a⟩
 .right;refine⟨_,?_,c.gC a⟩;unfold jD;rw[wo a,c.is a d]
 .left;exact⟨f,by unfold jD;rw[zM a],c.bd a⟩
def mf(c:Q t b st σ){l:Zb}(i:vX kd l=true):(∃f,el (aJ t) l st=.error f/\Bd f σ)\/(∃g,el (aJ t) l st=.ok (true,g)/\aM σ kd l=true/\Q t b g (bq t σ))\/∃g,el (aJ t) l st=.ok (false,g)/\aM σ kd l=false/\Q t b g σ:=by
 rcases pk t st with⟨h,p,a⟩|⟨f,a⟩
 .right;have e:jD (aJ t) l st=.ok (aM σ kd l,{ st with y:=p,nx:=some h }):=by
   unfold jD;rw[wo a,c.is a i]
  cases d:aM σ kd l with
  |true=>
   left;refine⟨{ st with y:=p,nx:=none },?_,rfl,c.O a⟩;unfold el aN;rw[e,d];rfl
  |false=>
   right;refine⟨{ st with y:=p,nx:=some h },?_,rfl,c.gC a⟩;unfold el aN;rw[e,d];rfl
 .left;refine⟨f,?_,c.bd a⟩;simp_all[el,aN,jD,zM]
def sh{a:Zb}(b:aM σ kd a=true):aj t kd a σ=bq t σ:=by
 grind [aj,sg,bq,aM]
theorem PR{a:Zb}(b:aM σ kd a=false):aj t kd a σ=eu σ:=by
 grind [aj,sg,eu,aM]
def Q.gk{a:Mar.aU}(c:Q t b st σ)(h:fD t st.y st.nx=.ok (a,p)):Er ⟨3,a.y⟩ (eu σ):=by
 have d:=c.wd;rw[h]at d;obtain⟨⟨i,j,k,f,l⟩,g⟩:=d;have:(eu σ).s=⟨σ.s.x,3,a.y⟩:=by
  show oq σ.s=_;unfold oq rq kA;have:=g.de;rw[Y2 Zm,Y9 c.e,f]
 exact⟨Zu,Zg,Zq⟩
def gs(d:Q t b st σ){l:Zb}(h:vX kd l=true):S t (λ(j:Mar.aU) c=>c=b/\j.y=σ.s.x.y) (cu (aJ t) l st) (aj t kd l σ):=by
 unfold cu aN;rcases pk t st with⟨k,p,a⟩|⟨f,a⟩
 .rw[rJ a];have e:=d.is a h;have i:=d.wd;rw[a]at i;simp only;cases g:(k.text==l)with
  |true=>
   rw[g]at e;rw[Y9 rfl,sh e];exact⟨b,d.O a,rfl,i.1.2.2.2.1.symm⟩
  |false=>
   rw[g]at e;rw[Y2 Zq,PR e];exact d.gk a
 .rw[tg a];exact(d.bd a).g7 (ZB h)
def Q.dX(c:Q t b st σ){e:Nat}(d:e≠0):Er ⟨e,a⟩ (ch e a σ):=by
 have:(ch e a σ).s=⟨σ.s.x,e,a⟩:=by
  unfold ch kA;rw[Y9 c.e]
 exact⟨Zg,Zg,d⟩
def IF(c:σ.s.e=0){e:Nat}(b:e≠0):Er ⟨e,a⟩ (ch e a σ):=by
 have:(ch e a σ).s=⟨σ.s.x,e,a⟩:=by
  simp_all[ch,kA]
 exact⟨Zg,Zg,b⟩
def Bd.eI(a:Bd f σ)(c b:Int):Er f (bU t c b σ).2:=by
 unfold bU;rw[Y2 (by simpa using a.e),Y2 (by rw[a.k];omega),Y2 (by rw[a.is Zm];simp),Y2 (by rw[a.is Zm];simp),Y2 (by rw[a.k];omega)];exact a.gK
def aeL(j:Q t b st σ){i:Mar.aU}(m:fD t st.y st.nx=.ok (i,p))(g f d:Int):S t (λ(l:Int×Nat) c=>c=b/\(hX t g f d σ).1=(l.1,(l.2:Int))/\l.1=d/\dT g f d=true) ((if dT g f d then ret (d,i.y)else hZ 8 i.y) { st with y:=p,nx:=none }) (hX t g f d σ).2:=by
 have k:=j.wd;rw[m]at k;unfold hX;by_cases h:dT g f d=true
 .have:¬(d<g\/f<d):=by simp[dT]at h;omega
  rw[Y9 h,Y2 this];exact⟨b,j.O m,rfl,by simp only;rw[k.1.2.2.2.1],rfl,h⟩
 .have:d<g\/f<d:=by simp[dT]at h;omega
  rw[Y2 h,Y9 this,k.1.2.2.2.1];exact j.dX (e:=8) (a:=i.y) Zm
def zX(h:Q t b st σ)(g e:Int):S t (λ(i:Int×Nat) c=>c=b/\(bU t g e σ).1=(i.1,(i.2:Int))/\dT g e i.1=true) (jZ (aJ t) (dT g e) st) (bU t g e σ).2:=by
 unfold jZ aN;rcases pk t st with⟨d,p,k⟩|⟨f,k⟩
 .rw[rJ k];have z:=h.wd;rw[k]at z;obtain⟨⟨R,G,H,B,a0⟩,D⟩:=z;have C:=h.is k (kd:=2) (l:=JF) Zr;have hF:=h.is k (kd:=2) (l:=JC) Zr;unfold bU;rw[Y2 (by simpa using h.e)];simp only;unfold lE;have A:∀q,S t (λ(i:Int×Nat) c=>c=b/\(hX t g e q σ).1=(i.1,(i.2:Int))/\dT g e i.1=true) ((if dT g e q then ret (q,d.y)else hZ 8 d.y) { st with y:=p,nx:=none }) (hX t g e q σ).2:=λq=>
   (aeL h k g e q).aZ λi c E=>⟨E.1,E.2.1,Zu⟩
  by_cases a5:d.w=3
  .rw[Y9 (c:=σ.s.x.w=3) Zm,Y9 (c:=((d.w:Int)==3)=true) Zu,H];exact A d.n
  .rw[Y2 (c:=σ.s.x.w=3) Zm,Y2 (c:=((d.w:Int)==3)=true) Zg];by_cases a4:d.w=1
   .have N:(d.text==JF)=false:=by
     simp only[Yi];intro o;have:=D.hA (by rw[o];rfl);omega
    have M:(d.text==JC)=false:=by
     simp only[Yi];intro o;have:=D.hA (by rw[o];rfl);omega
    rw[C,hF,N,M,Y9 (c:=σ.s.x.w=1) Zm,Y9 (c:=((d.w:Int)==1)=true) Zu];simp only[Ye,if_false]
    unfold nI;simp only;obtain⟨J,K⟩:=ZQ h d.text;rw[show aP ({ st with y:=p,nx:=none }:St).G d.text=aP st.G d.text from rfl];rw[G];rcases h.hk d.text with⟨n,F⟩|⟨a3,O,m,n,F,a6,a7,L⟩
    .rw[Y9 (Y8 F),B];rcases K n with n|n
     .rw[n];exact h.dX (e:=7) (a:=d.y) Zm
     .rw[n];exact h.dX (e:=7) (a:=d.y) Zm
    .rw[J _ n];have I:dw σ=m:=by
      grind [dw]
     rw[I];have a1:¬bY σ d.text<0:=Zm;have a2:m.a1≠0->(bY σ d.text<0\/m.a1≠0):=Ya;have P:m.a1≠0->S t (λ(i:Int×Nat) c=>c=b/\(if bY σ d.text<0\/m.a1≠0 then ((0,0),ch 7 ↑σ.s.x.y σ)else hX t g e m.n σ).1=(i.1,(i.2:Int))/\dT g e i.1=true) (.error ⟨7,d.y⟩) (if bY σ d.text<0\/m.a1≠0 then ((0,0),ch 7 ↑σ.s.x.y σ)else hX t g e m.n σ).2:=λz=>by
      rw[Y9 (Ya z),B];exact h.dX (e:=7) (a:=d.y) Zm
     have a8:=L.2;cases O with
     |none=>simp_all
     |some u=>
      cases u with
      |const a r v=>
       grind
      |prog a r j u=>simp_all
      |typedef u=>simp_all
      |enum a r j=>simp_all
      |struct a r j=>simp_all
      |union a r j u=>simp_all
   .rw[Y2 (c:=((d.w:Int)==1)=true) Zg,C,hF];by_cases y:(d.text==JF)=true
    .rw[Y9 y,Y9 y];exact A 1
    .rw[Y2 y,Y2 y];by_cases w:(d.text==JC)=true
     .rw[Y9 w,Y9 w];exact A 0
     .rw[Y2 w,Y2 w,Y2 Zm];exact h.gk k
 .rw[tg k];exact(h.bd k).eI g e
theorem Bd.dz(a:Bd f σ):Er f (dQ t σ).2:=by
 unfold dQ lT;rw[Y2 (by simpa using a.e),Y2 (by rw[a.k];omega)];exact a.gK
def Bd.l3(a:Bd f σ)(c:Int):Er f (bc t c σ).2:=by
 have b:=a.dz (t:=t);unfold bc;rw[Y9 b.d5];omega
def Bd.h3(a:Bd f σ)(b:Zc)(all:Bool):Er f (cK t b all σ).2:=(a.dz (t:=t)).bE (by
 grind [cK,oN,fI])
def HU{a:Mar.aU}(c:Q t b st σ)(h:fD t st.y st.nx=.ok (a,p))(m:a.w=1):(dQ t σ).1.text=a.text/\(dQ t σ).1.y=a.y/\(dQ t σ).2=bq t σ:=by
 have d:=c.wd;rw[h]at d;obtain⟨⟨i,f,j,g,k⟩,l⟩:=d;unfold dQ lT;rw[Y2 (by simpa using c.e),Y9 Zm];exact⟨f,g,rfl⟩
def HX{d:Mar.aU}(a:Q t b st σ)(f:fD t st.y st.nx=.ok (d,p))(m:d.w≠1):(dQ t σ).2=eu σ:=by
 have c:=a.wd;rw[f]at c;obtain⟨⟨g,h,i,j,k⟩,l⟩:=c;unfold dQ lT;rw[Y2 (by simpa using a.e),Y2 Zm];rfl
theorem uu(nl:Nl)(b a:Zb)(c:aP nl b=none):aP (nl++[(b,none)]) a=if a=b then some none else aP nl a:=by
 unfold aP at *
 grind
def XB{a:Zb}(b:aP nl a=none):Kp nl (nl++[(a,none)]):=λc d e=>by
 rw[uu nl a c b];grind
theorem BQ{a:Zb}(b:aP nl a=none):a ∉ nl.map (·.1):=by
 intro c;obtain⟨f,e,d⟩:=YE.1 c;unfold aP at b;have:nl.find? (λp=>p.1==a)=none:=by simpa using b
 grind
def lX.d8{i h}(d:lX i nl h){g:Zb}(k:aP nl g=none)(l a:Int):lX i (nl++[(g,none)]) (h++[⟨g,2,l,a⟩]):=by
 refine⟨by simp[d.am],?_,?_⟩
 .intro f p n b c;rcases Yj f nl.length with e|e
  .rw[Ys e]at b;rw[Ys (by rw[d.am];omega)]at c;have:=(d.f8 f p n b c).b8 [] (XB k);simp_all
  .rw[Yw e]at b;rw[Yw (by rw[d.am];omega),d.am]at c;match j:f-nl.length with
   |0=>
    rw[j]at b c;simp at b c;subst b;subst c;exact⟨rfl,rfl⟩
   |m+1=>simp_all
 .rw[List.map_append,YJ];grind [nd,BQ]
abbrev cq.aS(b:cq)(a:Zb):cq:={ b with nl:=b.nl++[(a,none)] }
def xX(j:Q t b st σ)(o:b.pd=[]):S t (λk c=>c=b.aS k.1/\(bc t 2 σ).1.text=k.1/\(bc t 2 σ).1.y=k.2/\aP b.nl k.1=none/\(bc t 2 σ).2.G=σ.G++[⟨k.1,2,-1,k.2⟩]) (jA (aJ t) st) (bc t 2 σ).2:=by
 unfold jA lx name aQ lift;rcases pk t st with⟨g,p,h⟩|⟨f,h⟩
 .rw[rJ h];simp only;by_cases r:g.w=1
  .obtain⟨s,u,x⟩:=HU j h r;rw[Y9 Zu];have d:=j.O h;have v:aP b.nl g.text=none/\bY (bq t σ) g.text<0\/(∃m,aP b.nl g.text=some m)/\0<=bY (bq t σ) g.text:=by
    rcases d.hk g.text with i|⟨z,m,A,i,l,-⟩;all_goals simp_all
   have y:st.G=b.nl:=by rw[j.nl,o];simp
   have w:(iR uD).a9 g () { st with y:=p,nx:=none } = match aP b.nl g.text with
     |none=>.ok ((),(),{ st with y:=p,nx:=none,G:=b.nl++[(g.text,none)] })
     |some _=>.error ⟨6,g.y⟩:=by
    show lift (jc g) () { st with y:=p,nx:=none } = _;unfold lift jc;grind
   rw[w];unfold bc;rw[x,Y2 (by simpa using d.e),s,u];rcases v with⟨i,l⟩|⟨⟨m,i⟩,l⟩
   .rw[i,Y2 Zm];refine⟨b.aS g.text,⟨d.e,d.wd,?_,Y8 o,d.nm.d8 i ..,d.H,d.cn,d.pg,d.cV,d.dK,d.ou,d.pr,d.er,d.e2.d8 d.nm.am ..⟩,rfl,s,u,i,rfl⟩;simp_all
   .rw[i,Y9 l];exact d.dX (e:=6) (a:=g.y) Zm
  .rw[Y2 Zg];have q:=HX j h r;have n:=j.gk h;have:(bc t 2 σ).2=eu σ:=by
    unfold bc;rw[q,Y9 n.d5,q]
   rw[this];exact n
 .rw[tg h];exact(j.bd h).l3 2
def CW(h:Q t b st σ)(d:Zc)(a l:Nat):Sx t (λk v c=>c=b/\(cK t d false σ).1.text=k.1/\(cK t d false σ).1.y=k.2/\v=d++[k.1]) (name (aJ t) (cQ a l) d st) (cK t d false σ).2:=by
 unfold name aQ lift;rcases pk t st with⟨g,p,e⟩|⟨f,e⟩
 .rw[rJ e];simp only;by_cases o:g.w=1
  .obtain⟨q,r,w⟩:=HU h e o;rw[Y9 Zu];have n:=h.O e;have s:(cQ a l).a9 g d { st with y:=p,nx:=none } = if d.contains g.text=true then .error ⟨6,g.y⟩else .ok ((),d++[g.text],{ st with y:=p,nx:=none }):=by
    show pK (qi g) d { st with y:=p,nx:=none } = _;unfold pK qi;grind
   rw[s];unfold cK;simp only[Ye,if_false]
   rw[w,q,r];by_cases j:d.contains g.text=true
   .rw[Y9 j,Y9 ⟨n.e,j⟩];exact n.dX (e:=6) (a:=g.y) Zm
   .rw[Y2 j,Y2 (λi=>j i.2)];exact⟨b,Zu,rfl,q,r,rfl⟩
  .rw[Y2 Zg];have u:=HX h e o;have m:=h.gk e;have:(cK t d false σ).2=eu σ:=by
    unfold cK;simp only;rw[u,Y2 (λi=>m.d5 i.1)];omega
   rw[this];exact m
 .rw[tg e];exact(h.bd e).h3 d false
end
section
variable {i:Int}{r:bt}{h:Ty}{j n τ:Type}
variable {t : Zb} {st m : St} {a o p σ1 σ2 : ai} {g b : cq} {f : Mar.ac}
def Q.hl(b:Q t g st a):5<=a.h.length:=by
 obtain⟨d,c⟩:=b.cV;simp_all[ot]
theorem dA.lt{b:List bt}(m:5<=b.length)(a:dA b h i):i<b.length:=by
 have e:∀{r:bt},0<=i->b[i.toNat]?=some r->i<b.length:=λc d=>by
  grind
 cases h with
 |plain n=>have:=a.1;have:=a.2;omega
 |named o l=>obtain⟨c,r,d,-⟩:=a;simp_all
 |opaq g f=>exact e a.1 a.2
 |str g f=>exact e a.1 a.2
 |arr k g f=>obtain⟨c,j,d,-⟩:=a;simp_all
 |opt k=>obtain⟨c,j,d,-⟩:=a;simp_all
 |void=>have:i = -1:=a;omega
def Q.kv(b:Q t g st a)(k:AL (max a.h.length 5) r):Q t { g with rf:=g.rf++if r.w=14 then [(r.a5,r.y)]else [] } st (dm r a):=by
 refine⟨b.e,b.wd,b.nl,b.pd,b.nm.b8 [r],b.H,b.cn,b.pg,?_,?_,b.ou,b.pr,by show oJ (a.h++[r])=_;rw[ac5,b.er],b.e2⟩
 .obtain⟨f,j⟩:=b.cV;exact⟨f++[r],by show a.h++[r]=_;simp_all⟩
 .intro i h d;rcases Yj i a.h.length with c|c
  .rw[show (dm r a).h=a.h++[r]from rfl,Ys c]at d;exact b.dK i h d
  .rw[show (dm r a).h=a.h++[r]from rfl,Yw c]at d;grind
def Q.row(b:Q t g st a)(c:AL (max a.h.length 5) r)(d:r.w≠14):Q t g st (dm r a):=by
 have:=b.kv c;simp_all
def rR(a:ai)(r:bt):(dm r a).h[((a.h.length:Nat):Int).toNat]?=some r:=by
 show (a.h++[r])[_]?=_;simp
def Ez(a:Int)(f:Bool):Zb:=if f then [91]++dk a++[93]else [60]++dk a++[62]
def vQ:Ty->Zb
 |.opaq _ _=>[111,112,97,113,117,101,32]
 |.str _ _=>[115,116,114,105,110,103,32]
 |.arr a _ _=>lN a++[32]
 |.opt a=>lN a++[32,42]
 |h=>lN h++[32]
def AY:Ty->Zb
 |.opaq a f=>Ez a f
 |.str a _=>Ez a false
 |.arr _ a f=>Ez a f
 |_=>[]
def yP(h:Ty):Prop:=(∃a,h=.plain a/\a<=4)\/∃c b,h=.named c b
def yP.d6(a:yP h):vQ h=lN h++[32]/\AY h=[]:=by
 rcases a with⟨c,rfl,-⟩|⟨d,b,rfl⟩<;>exact⟨rfl,rfl⟩
def yP.aa{b}(a:yP h)(r:dA b h i):0<=i:=by
 rcases a with⟨d,rfl,-⟩|⟨e,c,rfl⟩
 .have:=r.1;omega
 .exact r.1
def Ew(f:Mar.ac)(a:ai):Prop:=Er f a\/Bd f a
def Sw(t:Zb)(c:j->cq->Prop)(r:Except Mar.ac (j×St))(a:ai):Prop:=match r with
 |.ok (d,m)=>∃b,Q t b m a/\c d b
 |.error f=>Ew f a
def Sy(t:Zb)(c:j->τ->cq->Prop)(r:Except Mar.ac (j×τ×St))(a:ai):Prop:=match r with
 |.ok (d,e,m)=>∃b,Q t b m a/\c d e b
 |.error f=>Ew f a
def wT{c:j->τ->cq->Prop}{r:Except Mar.ac (j×τ×St)}(b:Sx t c r a):Sy t c r a:=by
 unfold Sx at b;split at b
 .exact b
 .exact Y8 b
theorem DY{e R'}{c:PX τ j}{i:j->PX τ n}{d}(a:Sx t e (c d st) σ1)(l:bp σ1 σ2)(q:∀g k m b,Q t b m σ1->e g k b->Sy t R' (i g k m) σ2):Sy t R' (aQ c i d st) σ2:=by
 unfold aQ;cases h:c d st with
 |ok r=>rw[h]at a;obtain⟨b,o,p⟩:=a;grind
 |error f=>rw[h]at a;exact Y8 (Er.bE a l)
theorem DZ{e g}{c:PX τ j}{k:j->PX τ n}{d}(a:Sy t e (c d st) σ1)(p:bp σ1 σ2)(o:∀f,Bd f σ1->Er f σ2)(s:∀h l m b,Q t b m σ1->e h l b->Sx t g (k h l m) σ2):Sx t g (aQ c k d st) σ2:=by
 unfold aQ;cases i:c d st with
 |ok u=>rw[i]at a;obtain⟨b,q,r⟩:=a;grind
 |error f=>
  rw[i]at a;rcases a with a|a
  .exact Er.bE a p
  .exact o f a
theorem JE{d e}{c:PM j}{i:j->PM n}(a:Sw t d (c st) σ1)(l:bp σ1 σ2)(k:∀f,Bd f σ1->Er f σ2)(q:∀g m b,Q t b m σ1->d g b->S t e (i g m) σ2):S t e (aN c i st) σ2:=by
 unfold aN;cases h:c st with
 |ok r=>rw[h]at a;obtain⟨b,o,p⟩:=a;grind
 |error f=>
  rw[h]at a;rcases a with a|a
  .exact Er.bE a l
  .exact k f a
theorem IZ{d}{c:PM j}{g:τ}(a:Sw t d (c st) σ1):Sy t (λh l b=>d h b/\l=g) (lift c g st) σ1:=by
 unfold lift;cases e:c st with
 |ok m=>rw[e]at a;obtain⟨b,i,k⟩:=a;exact⟨b,i,k,rfl⟩
 |error f=>rw[e]at a;exact a
def Bd.w(b:Bd f a):Er f (cW t a).2:=by
 unfold cW;have c:∀d,¬(a.s.x.w=2/\a.s.x.text=d):=λd g=>by rw[b.k]at g;omega
 rw[Y2 (by simpa using b.e),Y2 (by rw[b.k];omega),Y2 (c _),Y2 (c _),Y2 (c _),Y2 (c _)];exact b.gK
def OC(o:Q t g st a):Sw t (λh b=>b=g.cf (gu h)/\yP h/\dA (cW t a).2.h h (cW t a).1.1/\(cW t a).1.2=lN h) (sa (aJ t) st) (cW t a).2:=by
 unfold sa aN;rcases pk t st with⟨i,K,j⟩|⟨f,j⟩
 .rw[rJ j];have E:=o.wd;rw[j]at E;obtain⟨⟨H,B,M,I,N⟩,J⟩:=E;have p:=o.O j;unfold lQ cW;rw[Y2 (by simpa using o.e)];have e:∀y,Mar.ee y=true->((a.s.x.w=2/\a.s.x.text=y)↔(i.text==y)=true):=λy O=>by
   rw[H,B];simp only[beq_iff_eq];exact⟨λd=>d.2,λd=>⟨J.hA Zu,d⟩⟩
  simp only;by_cases P:i.w=1
  .rw[Y9 (c:=((i.w:Int)==1)=true) Zu,Y9 (c:=a.s.x.w=1) Zm];have D:=p.kv (r:=rP a.s.x.text a.s.x.y) ⟨by simp[rP]<;>omega,by simp[rP],by simp[rP]<;>omega,by simp[rP]⟩;rw[Y9 (show (rP a.s.x.text a.s.x.y).w=14 from rfl)]at D;refine⟨_,D,by grind [cq.cf,gu,rP],Ya ⟨_,_,rfl⟩,⟨Zq,_,rR ..,rfl,B,by show ((a.s.x.y:Nat):Int)=_;rw[I]⟩,B⟩
  .rw[Y2 (c:=((i.w:Int)==1)=true) Zg,Y2 (c:=a.s.x.w=1) Zm];by_cases s:(i.text==Jk)=true
   .rw[Y9 s,Y9 ((e _ Zr).2 s)];exact⟨g,p,(pR g).symm,Y8 ⟨0,rfl,Zm⟩,⟨rfl,Zm⟩,rfl⟩
   .rw[Y2 s,Y2 (λd=>s ((e _ Zr).1 d))];by_cases u:(i.text==Jq)=true
    .rw[Y9 u,Y9 ((e _ Zr).2 u)];exact⟨g,p,(pR g).symm,Y8 ⟨2,rfl,Zm⟩,⟨rfl,Zm⟩,rfl⟩
    .rw[Y2 u,Y2 (λd=>u ((e _ Zr).1 d))];by_cases v:(i.text==Js)=true
     .rw[Y9 v,Y9 ((e _ Zr).2 v)];exact⟨g,p,(pR g).symm,Y8 ⟨4,rfl,Zm⟩,⟨rfl,Zm⟩,rfl⟩
     .rw[Y2 v,Y2 (λd=>v ((e _ Zr).1 d))];by_cases w:(i.text==Jb)=true
      .rw[Y9 w,Y9 ((e _ Zr).2 w)];unfold mw;rcases mf p (kd:=2) (l:=Jq) Zr with⟨G,q,k⟩|⟨F,q,k,z⟩|⟨F,q,k,z⟩
       .unfold aN;rw[q,Y2 (by rw[k.is Zm];simp),Y2 (by rw[k.is Zm];simp)];exact Ya k
       .unfold aN;rw[q,Y9 k];exact⟨g,z,(pR g).symm,Y8 ⟨3,rfl,Zm⟩,⟨rfl,Zm⟩,rfl⟩
       .rw[Y2 Zu];have d:∀(C:Bool->PM Ty),aN (el (aJ t) Jq) C { st with y:=K,nx:=none } = C false F:=λC=>by grind [aN]
        rw[d];simp only[Ye,if_false]
        unfold aN;rcases mf z (kd:=2) (l:=Jk) Zr with⟨G,m,n⟩|⟨L,m,n,A⟩|⟨L,m,n,A⟩
        .rw[m,Y2 (by rw[n.is Zm];simp)];exact Ya n
        .rw[m,Y9 n];exact⟨g,A,(pR g).symm,Y8 ⟨1,rfl,Zm⟩,⟨rfl,Zm⟩,rfl⟩
        .rw[m,Y2 Zu];exact⟨g,A,(pR g).symm,Y8 ⟨1,rfl,Zm⟩,⟨rfl,Zm⟩,rfl⟩
      .rw[Y2 w,Y2 (λd=>w ((e _ Zr).1 d))];exact Y8 (o.gk j)
 .rw[tg j];exact Y8 (o.bd j).w
def Bd.l0(c:Bd f a):Er f (dC t false a).2:=by
 have b:=c.g7 (t:=t) (kd:=4) (l:=[60]) Zm;unfold dC;rw[Y2 Zq];rw[Y2 (by rw[zs b.d5];simp)];exact(b.bE (jX _ _ _)).bE (bu _ _ _)
theorem OD(m:Q t g st a):S t (λh b=>b=g/\h=((dC t false a).1,false)) (rH (aJ t) st) (dC t false a).2:=by
 unfold rH dC;rw[Y2 Zq];simp only;have n:=gs m (kd:=4) (l:=[60]) Zr;generalize aj t 4 [60] a=σ1 at *
 have p:bp σ1 (if aM σ1 4 [62]=true then ((4294967295:Int),aj t 4 [62] σ1)else ((bU t 0 4294967295 σ1).1.1,aj t 4 [62] (bU t 0 4294967295 σ1).2)).2:=by
  split
  .exact bu _ _ _
  .exact(jX _ _ _).u (bu _ _ _)
 refine hp n p ?_;rintro v u j q ⟨rfl,-⟩;rcases mf q (kd:=4) (l:=[62]) Zr with⟨y,d,c⟩|⟨i,d,c,e⟩|⟨i,d,c,e⟩
 .unfold aN;rw[d,Y2 (by rw[c.is Zm];simp)];exact(c.eI 0 4294967295).bE (bu _ _ _)
 .unfold aN;rw[d,Y9 c,sh c];exact⟨j,e,rfl,rfl⟩
 .have k:∀(f:Bool->PM (Int×Bool)),aN (el (aJ t) [62]) f u=f false i:=λf=>by grind [aN]
  rw[k,Y2 Zu];simp only[Ye,if_false]
  refine hp (zX e 0 4294967295) (bu _ _ _) ?_;rintro h z w r ⟨rfl,o,-⟩;refine hp (gs r (kd:=4) (l:=[62]) Zr) (fI _) ?_;rintro v A x s ⟨rfl,-⟩;exact S.ret s ⟨rfl,by rw[o]⟩
def Oz(m:Q t g st a)(h:aM a 4 [91]=true):S t (λi b=>b=g/\i=((dC t true a).1,true)) (qg (aJ t) st) (dC t true a).2:=by
 unfold qg dC;rw[Y9 rfl];simp only;rw[sh h];rcases mf m (kd:=4) (l:=[91]) Zr with⟨s,e,c⟩|⟨j,e,c,f⟩|⟨j,e,c,f⟩
 .rw[c.is Zm]at h;grind
 .have k:∀(d:Bool->PM (Int×Bool)),aN (el (aJ t) [91]) d st=d true j:=λd=>by grind [aN]
  rw[k];simp only[if_true]
  refine hp (zX f 1 1000) (bu _ _ _) ?_;rintro i u q o ⟨rfl,n,-⟩;refine hp (gs o (kd:=4) (l:=[93]) Zr) (fI _) ?_;rintro w v r p ⟨rfl,-⟩;exact S.ret p ⟨rfl,by rw[n]⟩
 simp_all
def Oy(f:Q t g st a)(k:aM a 4 [91]=false):S t (λh b=>b=g/\h=((dC t false a).1,false)) (qg (aJ t) st) (dC t false a).2:=by
 unfold qg;rcases mf f (kd:=4) (l:=[91]) Zr with⟨j,c,d⟩|⟨i,c,d,e⟩|⟨i,c,d,e⟩
 .unfold aN;rw[c];exact d.l0
 all_goals simp_all[aN,OD]
structure yt(d:aV)(r:ni)(a:ai):Prop where
 x:r.x.text=d.t
 y:r.x.y=d.y
 d6:r.d6=vQ d.H
 eZ:r.eZ=AY d.H
 g0:dA a.h d.H r.r
 aa:0<=r.r
def OU(b:Zc)(all d:Bool)(a:ai):bp (cK t b all (bq t a)).2 (kF t b all d a).2:=by
 unfold kF;generalize cK t b all (bq t a)=r;by_cases c:aM r.2 4 [91]=true/\d=true
 .rw[Y9 c];exact(pL _ _).u (hL _ _)
 .rw[Y2 c];exact(pL _ _).u (hL _ _)
def OO(f:Zc)(all:Bool)(a:ai):bp (cW t a).2 (jd t f all a).2:=by
 unfold jd;simp only;generalize cW t a=b;by_cases d:aM b.2 4 [42]=true
 .rw[Y9 d];exact(kJ _).u ((qM _ _ _).u (hL _ _))
 .rw[Y2 d];generalize h:cK t f all b.2=r;have c:bp b.2 r.2:=by grind [qM]
  by_cases e:aM r.2 4 [91]=true
  .rw[Y9 e];exact c.u ((pL _ _).u (hL _ _))
  .rw[Y2 e];by_cases g:aM r.2 4 [60]=true
   .rw[Y9 g];exact c.u ((pL _ _).u (hL _ _))
   simp_all
def Bd.i3(c:Bd f a)(b:Zc)(all:Bool):Er f (jd t b all a).2:=(c.w (t:=t)).bE (OO b all a)
def Vl(d:Zc)(all:Bool)(b:Bd f (cW t a).2):Er f (jd t d all a).2:=by
 unfold jd;simp only;generalize cW t a=e at *
 rw[Y2 (by rw[b.is Zm];simp)];have c:=b.h3 (t:=t) d all;rw[Y2 (by rw[zs c.d5];simp),Y2 (by rw[zs c.d5];simp)];omega
theorem Bd.ie(b:Bd f a)(c:Zc)(all:Bool):Er f (dx t c all a).2:=by
 unfold dx;rw[Y2 (by rw[b.is Zm,b.is Zm];simp)];exact b.i3 c all
abbrev AA(τ:Type):=List (Zb×Nat)->(Zb×Nat)->τ->cq->Prop
abbrev QF(τ:Type):=(Zb×Nat)->τ->cq->Prop
def wH(t:Zb)(e:fj τ)(h:τ)(d:Zc)(all:Bool)(g:cq)(f:QF τ):Prop:=
 ∀st a,Q t g st a->Sx t (λc i b=>f c i b/\(cK t d all a).1.text=c.1/\(cK t d all a).1.y=c.2) (name (aJ t) e h st) (cK t d all a).2
def aeF{h n c all}{i:AA τ}(s:wH t h n c all g (i []))(v:Q t g st (bq t a))(l:a.s.x.text=Jy)(B:aM a 2 Ju=false):Sx t (λd y b=>i (gu d.H) (d.t,d.y) y b/\yt d (kF t c all true a).1 (kF t c all true a).2) (ru (aJ t) h true n st) (kF t c all true a).2:=by
 unfold ru;rw[Y9 rfl];refine gB (s _ _ v) (OU _ _ _ _) ?_;rintro C D cM A m ⟨j,o,p⟩;unfold kF;simp only[and_true];generalize cK t c all (bq t a)=r at *
 have k:bp r.2 (if aM r.2 4 [91]=true then ((⟨(dC t true r.2).2.h.length,a.s.x.text++[32],[91]++dk (dC t true r.2).1++[93],r.1⟩:ni),dm (fV 6 (dC t true r.2).1) (dC t true r.2).2)else ((⟨(dC t false r.2).2.h.length,a.s.x.text++[32],[60]++dk (dC t false r.2).1++[62],r.1⟩:ni),dm (fV (if aM a 2 Ju=true then 8 else 7) (dC t false r.2).1) (dC t false r.2).2)).2:=by
  split
  .exact(pL _ _).u (hL _ _)
  .exact(pL _ _).u (hL _ _)
 by_cases e:aM r.2 4 [91]=true
 .simp only[Y9 e]at k ⊢;refine gB (iY (Oz m e)) (hL _ _) ?_;rintro w z tu q f ⟨⟨rfl,rfl⟩,rfl⟩;refine⟨_,f.row ⟨by simp[fV]<;>omega,by simp[fV],by simp[fV]<;>omega,by grind [fV]⟩ (by simp_all[fV]),j,?_⟩;exact⟨o,p,by rw[l];rfl,rfl,⟨Zq,rR _ _⟩,Zq⟩
 .have u:aM r.2 4 [91]=false:=Zu;simp only[Y2 e]at k ⊢;refine gB (iY (Oy m u)) (hL _ _) ?_;rintro w z tu q f ⟨⟨rfl,rfl⟩,rfl⟩;refine⟨_,f.row ⟨by simp[fV]<;>omega,by simp[fV],by simp[fV]<;>omega,by grind [fV]⟩ (by simp_all[fV]),j,?_⟩;rw[Y2 Zu];exact⟨o,p,by rw[l];rfl,rfl,⟨Zq,rR _ _⟩,Zq⟩
def aeG{e h c all}{f:AA τ}(j:wH t e h c all g (f []))(l:Q t g st (bq t a))(m:a.s.x.text=Ju)(k:aM a 2 Ju=true):Sx t (λd p b=>f (gu d.H) (d.t,d.y) p b/\yt d (kF t c all false a).1 (kF t c all false a).2) (rx (aJ t) e true h st) (kF t c all false a).2:=by
 unfold rx;rw[Y9 rfl];refine gB (j _ _ l) (OU _ _ _ _) ?_;rintro w z cM u n ⟨i,q,s⟩;unfold kF;simp only[Ye,and_false,if_false]
 generalize cK t c all (bq t a)=r at *
 refine gB (iY (OD n)) (hL _ _) ?_;rintro y A tu v o ⟨⟨rfl,rfl⟩,rfl⟩;refine⟨_,o.row ⟨by simp[fV]<;>omega,by simp[fV],by simp[fV]<;>omega,by grind [fV]⟩ (by simp_all[fV]),i,?_⟩;rw[Y9 k];exact⟨q,s,by rw[m];rfl,rfl,⟨Zq,rR _ _⟩,Zq⟩
def dA.al(b:dA a.h h i)(d:dq a o):dA o.h h i:=by
 obtain⟨e,c,-⟩:=d.h;rw[c];exact b.b8 e
def aeD{J a1 e all}{K:AA τ}(M:∀a0,wH t J a1 e all (g.cf a0) (K a0))(a4:Q t g st a):Sy t (λx a9 b=>K (gu x.H) (x.t,x.y) a9 b/\yt x (jd t e all a).1 (jd t e all a).2) (rx (aJ t) J false a1 st) (jd t e all a).2:=by
 unfold rx;rw[Y2 Zq];have i:=OC a4;unfold aQ lift;cases P:sa (aJ t) st with
 |error f=>
  rw[P]at i;rcases i with i|i
  .exact Y8 (i.bE (OO e all a))
  .exact Y8 (Vl e all i)
 |ok I=>
  rw[P]at i;obtain⟨b3,R,rfl,B,H,A⟩:=i;obtain⟨h,cM⟩:=I;simp only at R B H A ⊢;unfold vG;unfold jd;simp only;generalize cW t a=d at *
  unfold aQ lift;rcases mf R (kd:=4) (l:=[42]) Zr with⟨L,m,n⟩|⟨b0,m,n,D⟩|⟨b0,m,n,D⟩
  .rw[m,Y2 (c:=aM d.2 4 [42]=true) (by rw[n.is Zm];simp)];have G:=n.h3 (t:=t) e all;rw[Y2 (c:=aM (cK t e all d.2).2 4 [91]=true) (by rw[zs G.d5];simp),Y2 (c:=aM (cK t e all d.2).2 4 [60]=true) (by rw[zs G.d5];simp)];exact Y8 G
  .rw[m,Y9 n];simp only;unfold uj;simp only[if_true]
   refine wT (gB (M _ _ _ D) (hL _ _) ?_);rintro a8 b1 CZ a2 C ⟨p,v,w⟩;have y:=((gm (t:=t) d.2).u (jW (t:=t) e all _)).al;have j:=H.al y;generalize cK t e all (bq t d.2)=r at *
   have O:=j.lt C.hl;refine Sx.ret (C.row ⟨by simp[dd]<;>omega,by simp[dd],by simp[dd]<;>omega,by simp[dd]⟩ (by simp[dd])) ⟨p,v,w,?_,rfl,⟨Zq,_,rR _ _,j.b8 _⟩,Zq⟩;grind [vQ]
  .rw[m,Y2 (c:=aM d.2 4 [42]=true) Zu];simp only;unfold uj;simp only[Ye,if_false]
   generalize a6:cK t e all d.2=r;have a7:bp r.2 (if aM r.2 4 [91]=true then ((⟨(dC t true r.2).2.h.length,d.1.2++[32],[91]++dk (dC t true r.2).1++[93],r.1⟩:ni),dm (dd 9 (dC t true r.2).1 d.1.1) (dC t true r.2).2)
     else if aM r.2 4 [60]=true then ((⟨(dC t false r.2).2.h.length,d.1.2++[32],[60]++dk (dC t false r.2).1++[62],r.1⟩:ni),dm (dd 10 (dC t false r.2).1 d.1.1) (dC t false r.2).2)
     else ((⟨d.1.1,d.1.2++[32],[],r.1⟩:ni),r.2)).2:=by
    split
    .exact(pL _ _).u (hL _ _)
    .split
     .exact(pL _ _).u (hL _ _)
     .exact fI _
   have N:=M _ _ _ D;have y:=(jW (t:=t) e all d.2).al;have j:=H.al y;rw[a6]at N y j;refine DY N a7 ?_;rintro a8 b1 CZ a2 C ⟨p,v,w⟩;unfold uk aQ lift;rcases CS C (kd:=4) (l:=[91]) Zr with⟨L,E,k⟩|⟨b4,E,k⟩
   .rw[E,Y2 (c:=aM r.2 4 [91]=true) (by rw[k.is Zm];simp),Y2 (c:=aM r.2 4 [60]=true) (by rw[k.is Zm];simp)];exact Ya k
   .rw[E];simp only;unfold vH;by_cases q:aM r.2 4 [91]=true
    .rw[Y9 q,Y9 q];unfold pz;refine wT (gB (iY (Oz k q)) (hL _ _) ?_);rintro I b2 OJ a3 u ⟨⟨rfl,rfl⟩,rfl⟩;have s:=j.al (rV (t:=t) true r.2).al;have O:=s.lt u.hl;exact Sx.ret (u.row ⟨by simp[dd]<;>omega,by simp[dd],by simp[dd]<;>omega,by simp[dd]⟩ (by simp[dd])) ⟨p,v,w,by simp only[vQ];rw[A],rfl,⟨Zq,_,rR _ _,s.b8 _⟩,Zq⟩
    .rw[Y2 q,Y2 q];have a5:aM r.2 4 [91]=false:=Zu;unfold aQ lift;rcases CS k (kd:=4) (l:=[60]) Zr with⟨L,F,o⟩|⟨b5,F,o⟩
     .rw[F,Y2 (c:=aM r.2 4 [60]=true) (by rw[o.is Zm];simp)];exact Ya o
     .rw[F];simp only;unfold vI;by_cases z:aM r.2 4 [60]=true
      .rw[Y9 z,Y9 z];unfold pz;refine wT (gB (iY (Oy o a5)) (hL _ _) ?_);rintro I b2 OJ a3 u ⟨⟨rfl,rfl⟩,rfl⟩;have s:=j.al (rV (t:=t) false r.2).al;have O:=s.lt u.hl;exact Sx.ret (u.row ⟨by simp[dd]<;>omega,by simp[dd],by simp[dd]<;>omega,by simp[dd]⟩ (by simp[dd])) ⟨p,v,w,by simp only[vQ];rw[A],rfl,⟨Zq,_,rR _ _,s.b8 _⟩,Zq⟩
      .rw[Y2 z,Y2 z];exact⟨_,o,p,v,w,by rw[B.d6.1,A],B.d6.2.symm,j,B.aa j⟩
def Hb{n p e all}{G:AA τ}(s:∀o,wH t n p e all (g.cf o) (G o))(r:Q t g st a):Sy t (λi v b=>G (gu i.H) (i.t,i.y) v b/\yt i (dx t e all a).1 (dx t e all a).2) (il (aJ t) n p st) (dx t e all a).2:=by
 unfold il dx aQ lift;rcases mf r (kd:=2) (l:=Jy) Zr with⟨q,f,c⟩|⟨w,f,c,j⟩|⟨w,f,c,j⟩
 .rw[f,Y2 (by rw[c.is Zm,c.is Zm];simp)];exact Y8 (c.i3 e all)
 .rw[f,Y9 (Y8 c)];have m:a.s.x.text=Jy:=by grind [aM,kT]
  have u:aM a 2 Ju=false:=by unfold aM kT;simp_all
  simp only;rw[c];exact wT (aeF (by grind [pR]) j m u)
 .rw[f];simp only;unfold ru;simp only[Ye,if_false]
  unfold aQ lift;rcases mf j (kd:=2) (l:=Ju) Zr with⟨q,h,d⟩|⟨y,h,d,k⟩|⟨y,h,d,k⟩
  .rw[h,Y2 (by rw[d.is Zm,d.is Zm];simp)];exact Y8 (d.i3 e all)
  .rw[h,Y9 (Ya d)];have m:a.s.x.text=Ju:=by grind [aM,kT]
   simp only;rw[c];exact wT (aeG (by grind [pR]) k m d)
  .rw[h,Y2 Zu];exact aeD s k
def Ks(d:Zc)(e f:Nat):wH t (cQ e f) d d false g (λi h b=>b=g/\h=d++[i.1]):=λst a j=>(CW j d e f).aZ λi h b c=>⟨⟨c.1,c.2.2.2⟩,c.2.1,c.2.2.1⟩
end
section
variable {a i g:Nat}{d:aD}{j:PM aD}{nl:Nl}{r:ig}{q:Type}
variable {t : Zb} {st p : St} {f u w x y : ai} {E h : cq} {m : Mar.ac}
theorem Mm(nl:Nl)(a b:Zb)(d:aD)(c:(aP nl a).isSome):aP (ew nl a d) b=if b=a then some (some d)else aP nl b:=by
 unfold aP ew at *
 induction nl with
 |nil=>grind
 |cons g nl i=>
  by_cases j:g.1=a
  .have e:(g.1==a)=true:=Zu;by_cases h:b=a
   .simp_all
   .rw[Y2 h];have f:(g.1==b)=false:=Zg;simp only[List.map_cons,List.find?,e,if_true,f]
    clear i c;induction nl<;>grind
  grind
def LX{a:Zb}(d:aD)(e:aP nl a=some none):Kp nl (ew nl a d):=λb c f=>by
 rw[Mm nl a b d Zu];grind
theorem lX.aq{j l}(c:lX j nl l){a:Zb}(n:aP nl a=some none)(s:nl[i]?=some (a,none))(w:uY j (ew nl a d) (a,some d) r):lX j (ew nl a d) (l.set i r):=by
 have o:=LX d n;have t:i<nl.length:=by
  grind
 refine⟨by simp[ew,c.am],?_,by rw[Ol];exact c.nd⟩;intro e g p b f;unfold ew at b;rw[List.getElem?_map]at b;rw[YP]at f;by_cases m:i=e
 .simp_all
 .rw[Y2 m]at f;cases k:nl[e]? with
  |none=>simp_all
  |some h=>
   rw[k]at b;have v:h.1≠a:=by
    intro q;have u:e<nl.length:=by
     grind
    have x:=List.pairwise_iff_getElem.1 c.nd;grind
   have:(h.1==a)=false:=Zu;simp only[Option.map_some,this,Ye,if_false,Yu]at b
   subst b;simpa using (c.f8 e h p k f).b8 [] o
abbrev cq.aq(E:cq)(a:Zb)(d:aD):cq:={ E with nl:=ew E.nl a d }
def Ff(d:Q t E st f){a:Zb}(c:aP E.nl a=some none):∃(i:Nat) (r:ig),bY f a=(i:Int)/\E.nl[i]?=some (a,none)/\f.G[i]?=some r/\r.s=a:=by
 rcases d.hk a with⟨b,-⟩|⟨i,k,r,b,e,g,h,j⟩
 .simp_all
 .rw[b]at c;cases c
  exact⟨i,r,e,g,h,j.1⟩
def Q.h2(b:Q t E st f){s:Zb}(a:Nat)(v:Int)(e:aP E.nl s=some none)(d:E.pd=[])(l:E.dc=1):Q t { E.aq s (.const s a v)with dc:=0 } { st with G:=ew st.G s (.const s a v) } (eR s v f):=by
 obtain⟨i,r,h,c,j,k⟩:=Ff b e;have m:st.G=E.nl:=by rw[b.nl,d];simp
 have g:eR s v f = { jg f i 0 v with ax:=f.ax+1 }:=by
  unfold eR;rw[Y9 Zm,h];rfl
 rw[g];refine⟨b.e,b.wd,?_,Y8 d,?_,b.H,?_,b.pg,b.cV,b.dK,b.ou,b.pr,b.er,b.e2.aq c ..⟩
 .simp_all
 .refine b.nm.aq e c ⟨?_,rfl,rfl⟩;simp_all
 .have:=b.cn;simp_all
def At(c:Zb)(a:Nat)(b:List ig):Prop:=∃r∈b,r.s=c/\r.y=a
theorem Qv{f b}(h:At f a b)(i:Nat)(g n:Int):At f a (b.set i { b.getD i iT with a1:=g,n:=n }):=by
 obtain⟨r,j,c,d⟩:=h;obtain⟨e,l,rfl⟩:=List.mem_iff_getElem.1 j;by_cases k:i=e
 .subst k;refine⟨{ b[i]with a1:=g,n:=n },?_,c,d⟩;grind [List.mem_iff_getElem]
 .refine⟨b[e],?_,c,d⟩;grind [List.mem_iff_getElem]
def At.m2{d}(e:At d a f.G)(c:Q t E st f)(b:f.G[i]?=some r)(m:r.s=d):r.y=a:=by
 obtain⟨p,g,j,k⟩:=e;obtain⟨n,l,rfl⟩:=List.mem_iff_getElem.1 g;have h:i<f.G.length:=by
  grind
 rw[Yd h]at b;cases b
 have o:(f.G.map (·.s)).Nodup:=by rw[c.nm.i7];exact c.nm.nd
 grind [List.pairwise_iff_getElem]
def Q.jN(a:Q t E st f){b:Zb}{n}(g:aP E.nl b=some none)(e:E.pd=[])(h:At b (ce d).2 f.G)(p:ei d=true)(s:kl f.h (ew E.nl b d) d n):Q t (E.aq b d) { st with G:=ew st.G b d } (eM b n f):=by
 obtain⟨i,r,o,c,k,l⟩:=Ff a g;have q:st.G=E.nl:=by rw[a.nl,e];simp
 have h:=h.m2 a k l;have j:eM b n f=jg f i 1 n:=by
  simp_all[eM]
 rw[j];refine⟨a.e,a.wd,?_,Y8 e,?_,a.H,a.cn,a.pg,a.cV,a.dK,a.ou,a.pr,a.er,a.e2.aq c ..⟩
 .simp_all
 .refine a.nm.aq g c ⟨Zu,?_⟩;have m:{ f.G.getD i iT with a1:=1,n:=n } = { r with a1:=1,n:=n }:=Zg;rw[m];cases d<;>simp_all[ei]
theorem Q.aX(a:Q t E st f)(o:Zb):Q t { E with o:=E.o++o } st (gi o f):=⟨a.e,a.wd,a.nl,a.pd,a.nm,a.H,a.cn,a.pg,a.cV,a.dK,by show f.i++o=_;rw[a.ou],a.pr,a.er,a.e2⟩
def Bd.d3(a:Bd m f)(d j:Int):Er m (aT d j f):=by
 have c:=a.gK;unfold aT;rw[Y9 ⟨a.e,a.k⟩];unfold nL;rw[Y2 (λb=>c.d5 b.1)];omega
def Q.d3{e:Mar.aU}(c:Q t E st f)(i:fD t st.y st.nx=.ok (e,g))(b j:Int):aT b j f=if j<=b then ch 5 e.y f else f:=by
 have a:=c.wd;rw[i]at a;have:=a.2.de;unfold aT;rw[Y2 (λh=>by have:=h.2;rw[a.1.1]at this;omega)];unfold nL;by_cases d:j<=b
 .rw[Y9 d,Y9 ⟨c.e,d⟩,a.1.2.2.2.1]
 grind
theorem wv{a:Zb}(b:aP nl a=none):ew (nl++[(a,none)]) a d=nl++[(a,some d)]:=by
 unfold ew;rw[List.map_append];congr 1
 .have c:=BQ b;conv=>rhs;rw[<-List.map_id nl]
  grind [List.map_congr_left]
 simp
def lC(j:PM aD):PM aD:=aN j λd=>aN (CU d) λ_=>ret d
def uo(a:j st=.ok (d,p)):lC j st=.ok (d,{ p with G:=ew p.G (ce d).1 d }):=by
 unfold lC aN;rw[a];rfl
theorem lD(a:j st=.error m):lC j st=.error m:=by
 simp_all[lC,aN]
def abn(c:¬40<=st.ax)(a:Nat)(b:Unit->PM q):aN (lF a) b st=b () { st with ax:=st.ax+1 }:=by
 simp_all[aN,lF,Y2]
def Cj(c:¬24<=st.an)(a:Nat)(b:Unit->PM q):aN (kD a) b st=b () { st with an:=st.an+1 }:=by
 simp_all[aN,kD,Y2]
def Ci(c:24<=st.an)(a:Nat)(b:Unit->PM q):aN (kD a) b st=.error ⟨5,a⟩:=by
 simp_all[aN,kD]
structure uX(E h:cq)(d:aD)(o:Zb)(ps:List cj):Prop where
 pd:h.pd=[]
 dc:h.dc=0
 fz:h.fz=E.fz
 o:h.o=E.o++o
 ps:h.ps=E.ps++ps
 rf:h.rf=E.rf++(ju d).map λg=>(g.1,(g.2:Int))
 nl:∃cs:Nl,h.nl=E.nl++((ce d).1,some d)::cs/\∀c∈cs,∃a b v,c.2=some (.const a b v)
def EM(a:Zb)(v:Int):Zb:=[99,111,110,115,116,32]++a++JD++dk v++[59,10]
def aeA{j:Mar.aU}(k:Q t E st f)(r:E.pd=[])(D:E.dc=0)(u:fD t st.y st.nx=.ok (j,g))(F:aM f 2 Je=true):S t (λd h=>∃c a v,d=.const c a v/\uX E h d (EM c v) []) (lC (lz (aJ t) j.y) { st with y:=g,nx:=none }) (iG t f):=by
 have b:=k.O u;have o:=k.d3 u f.ax 40;have B:=k.cn;rw[D]at B;by_cases z:40<=st.ax
 .rw[Y9 Zm]at o;have i:lz (aJ t) j.y { st with y:=g,nx:=none } = .error ⟨5,j.y⟩:=by
   simp_all[lz,aN,lF]
  rw[lD i];have:=afB (t:=t) f;rw[o]at this;exact(k.dX (e:=5) (a:=j.y) Zm).bE this
 .rw[Y2 Zm]at o;have H:Q t { E with dc:=1 } { st with y:=g,nx:=none,ax:=st.ax+1 } (aj t 2 Je (aT f.ax 40 f)):=by
   rw[o,sh F];exact⟨b.e,b.wd,b.nl,b.pd,b.nm,b.H,by have:=b.cn;simp_all,b.pg,b.cV,b.dK,b.ou,b.pr,b.er,b.e2⟩
  unfold iG;simp only;generalize aj t 2 Je (aT f.ax 40 f)=q at *
  have i:S t (λd h=>∃c a v,d=.const c a v/\h = { E with dc:=1,nl:=E.nl++[(c,none)] }/\aP E.nl c=none/\(bc t 2 q).1.text=c/\(bU t (-2147483648) 4294967295 (aj t 4 [61] (bc t 2 q).2)).1.1=v) (lz (aJ t) j.y { st with y:=g,nx:=none }) (aj t 4 [59] (bU t (-2147483648) 4294967295 (aj t 4 [61] (bc t 2 q).2)).2):=by
   unfold lz;rw[abn (st:={ st with y:=g,nx:=none }) z];refine hp (xX H r) ((bu _ _ _).u ((jX _ _ _).u (bu _ _ _))) ?_;rintro w a3 x p ⟨rfl,M,-,N,-⟩;refine hp (gs p (kd:=4) (l:=[61]) Zr) ((jX _ _ _).u (bu _ _ _)) ?_;rintro L a4 R I ⟨rfl,-⟩;refine hp (zX I (-2147483648) 4294967295) (bu _ _ _) ?_;rintro v a5 a0 J ⟨rfl,O,-⟩;refine hp (gs J (kd:=4) (l:=[59]) Zr) (fI _) ?_;rintro L a6 a1 K ⟨rfl,-⟩;exact S.ret K ⟨w.1,w.2,v.1,rfl,rfl,N,M,by rw[O]⟩
  generalize aj t 4 [59] (bU t (-2147483648) 4294967295 (aj t 4 [61] (bc t 2 q).2)).2=P at *
  cases n:lz (aJ t) j.y { st with y:=g,nx:=none }with
  |error m=>
   rw[n]at i;have i:Er m P:=i;rw[lD n,Y9 i.d5];exact i
  |ok a2=>
   rw[n]at i;obtain⟨x,p,c,a,v,C,rfl,s,y,A⟩:=i;rw[uo n,Y2 (by simpa using p.e),y,A];rw[C];have G:=(p.h2 a v (by rw[uu _ _ _ s,Y9 rfl]) r rfl).aX (EM c v);exact⟨_,G,c,a,v,rfl,⟨r,rfl,rfl,rfl,Zq,by simp[ju],[],by show ew (E.nl++[(c,none)]) c _=_;rw[wv s];rfl,Zq⟩⟩
def Tp(y:E.pd=[]):wH t (iR uD) () [] true E (λu _ h=>h = { E with pd:=[(u.1,none)] }/\aP E.nl u.1=none):=λst f k=>by
 unfold name aQ lift;rcases pk t st with⟨c,g,e⟩|⟨m,e⟩
 .rw[rJ e];simp only;by_cases s:c.w=1
  .obtain⟨v,w,d⟩:=HU k e s;rw[Y9 Zu];have b:=k.O e;have x:aP E.nl c.text=none/\bY (bq t f) c.text<0\/(∃n,aP E.nl c.text=some n)/\0<=bY (bq t f) c.text:=by
    rcases b.hk c.text with j|⟨i,n,r,j,o,-⟩;all_goals simp_all
   have B:st.G=E.nl:=by rw[k.nl,y];simp
   have z:(iR uD).a9 c () { st with y:=g,nx:=none } = match aP E.nl c.text with
     |none=>.ok ((),(),{ st with y:=g,nx:=none,G:=E.nl++[(c.text,none)] })
     |some _=>.error ⟨6,c.y⟩:=by
    show lift (jc c) () { st with y:=g,nx:=none } = _;unfold lift jc;grind
   rw[z];unfold cK;simp only[if_true]
   rw[d,v,w];rcases x with⟨j,o⟩|⟨⟨n,j⟩,o⟩
   .rw[j];have q:decide (0<=bY (bq t f) c.text)=false:=Zu;rw[Y2 (λl=>by simp_all)];refine⟨{ E with pd:=[(c.text,none)] },⟨by rw[d];exact b.e,by rw[d];exact b.wd,rfl,Ya ⟨_,rfl,j⟩,by rw[d];exact b.nm,by rw[d];exact b.H,by rw[d];exact b.cn,by rw[d];exact b.pg,by rw[d];exact b.cV,by rw[d];exact b.dK,by rw[d];exact b.ou,by rw[d];exact b.pr,by rw[d];exact b.er,by rw[d];exact b.e2⟩,⟨rfl,j⟩,v,w⟩
   .rw[j];have q:decide (0<=bY (bq t f) c.text)=true:=Zu;rw[Y9 ⟨b.e,q⟩];exact b.dX (e:=6) (a:=c.y) Zm
  .rw[Y2 Zg];have A:=HX k e s;have p:=k.gk e;have:(cK t [] true f).2=eu f:=by
    unfold cK;simp only;rw[A,Y2 (λl=>p.d5 l.1)];omega
   rw[this];exact p
 .rw[tg e];exact(k.bd e).h3 [] true
end
end Go.Proofs.YtjdhaegijjednaaGreatDoor
