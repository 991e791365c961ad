import Derived.Test.YtjdhaegijjednaaGreatDoorT2
import Derived.Deep.CutBlock
import Derived.Deep.DeepCutAuto
import Derived.Laws.OwnMore
import Derived.Deep.OwnRows
set_option linter.all false
set_option maxRecDepth 100000
set_option maxHeartbeats 4000000
namespace Go.Proofs.YtjdhaegijjednaaGreatDoor
open Go.RowKit Go.MapKept Go.Proofs.Tryz
section
variable {h n : Nat -> Prop} {g c N' : Nat} {t : Zb} {b f : ai} {d l o m p : Zw} {j : PV} {L : List Th} {i : Nat} {a a' : Th}
def aZ.o0{a e}(f:aZ h g t c b (.obj e (.cells #[Zs a] 9)::L) l d):aZ h g t c b (cV (.slice (some ⟨e,0,none⟩) [a].length 1) [a]::L) l d:=by
 have j:=f.bm (i:=0) (a':=cV (.slice (some ⟨e,0,none⟩) [a].length 1) [a]) rfl (ao [] d) Zq ⟨rfl,Ya ⟨e,1,#[Zs a],rfl,YV _,f.b2 (i:=0) rfl,Zq,Zn,rfl,rfl⟩⟩ (λm k=>Y8 k);exact j
theorem vh{of a d g c f}(h:b.s.e≠0):fa t of a d g c f b=((d,g,c,f),b):=by
 cases a<;>simp_all[fa]
def Pc(a:Zc)(b:ai):(dy t a b).1.2.2.length<=a.length+1:=by
 grind [dy]
def EW(t:Zb)(of:Int)(e:Nat)(d:List Int)(c:Zb)(b:(List Int×Zb)×ai)(a:(Int×Zb×Zc)×ai):(List Int×List Int×Zc×Zb)×ai:=
 if aJ a.2 2 Jg=true then fa t of e b.1.1 (ox b.1.1.length a.1.1 d) a.1.2.2 (c++b.1.2++a.1.2.1) a.2 else ((b.1.1,ox b.1.1.length a.1.1 d,a.1.2.2,c++b.1.2++a.1.2.1),a.2)
def adZ{of}{k:Nat}{d parts:List Int}{f out}{c:(List Int×Zb)×ai}{a:(Int×Zb×Zc)×ai}(g:b.s.e=0)(i:dg t of (14-d.length) d [] b=c)(h:dy t f c.2=a):fa t of (k+1) d parts f out b=EW t of k parts out c a:=by
 simp_all[EW,fa]
def ve(t:Zb)(b:Zb)(of:Int)(a:(List Int×List Int×Zc×Zb)×ai):ai:=
 fP (a.1.2.2.2++(jc t a.1.2.2.1 a.2).1.2++JB) (eH b (aj t 4 [59] (aj t 4 Jl (jc t a.1.2.2.1 a.2).2)).A.length (dj ⟨13,0,of,a.1.1,a.1.2.1,(jc t a.1.2.2.1 a.2).1.1,[],0⟩ (aj t 4 [59] (aj t 4 Jl (jc t a.1.2.2.1 a.2).2))))
def ad3(p6:cd h g t c b d)(ok:cC b)(o2:∀C∈b.A,C.aR.length<=1000)(q9:c+200000<=1000000000):Calls prog 89 #[Zp g] d (GP h g t (c+200000) (iR t b) (.tuple #[]) d):=by
 have k3:=aa (lJ p6);have l4:=aa o2;have j2:=aa (gx (uH (t:=t) (gx ok (aF (t:=t) 2 Jh b).ar) 2 Ze) (((aF (t:=t) 2 Jn _).u (aF (t:=t) 4 [40] _)).ar));have p7:=aa (qM (t:=t) 2 (aj t 2 Jh b));obtain⟨o8,n0,o4,o5,o6⟩:=info_parts tc;have o7:(U 0).cells.size=1:=rfl;go_in;go_wp21;refine bj k3 (ea · 2 Jh) λm e8=>?_;go_wp21;refine(vU e8.w.aY 2 Zm).mono ?_;rintro H b7 ⟨rfl,e3,e0,c5⟩;have e9:=aa (e8.w.call ⟨e3,e0⟩);generalize I:bi t 2 (aj t 2 Jh b)=C at *
 obtain⟨p,M⟩:=C;have l5:=aa I;simp only at e9 c5;have k6:=aa (e9.w.H (oW p));have r0:=c5;go_wp21;refine bj k6 (ea · 2 Jn) λt7 k7=>?_;go_wp21;refine bj k7 (ea · 4 [40]) λt8 f0=>?_;have b9:af (iR t b=ve t p.text (cG t (aj t 4 [40] (aj t 2 Jn M))).1.1 (fa t (cG t (aj t 4 [40] (aj t 2 Jn M))).1.1 14 [] [] [(dT t (cG t (aj t 4 [40] (aj t 2 Jn M))).2).1.text] (Jr++p.text++Ji++(cG t (aj t 4 [40] (aj t 2 Jn M))).1.2++[32]++(dT t (cG t (aj t 4 [40] (aj t 2 Jn M))).2).1.text++Jx) (aj t 4 Jv (aj t 4 [41] (dT t (cG t (aj t 4 [40] (aj t 2 Jn M))).2).2)))):=by
  show _=_;unfold iR ve;simp only[l5.w]
 have j3:af ((aj t 4 [40] (aj t 2 Jn M)).A=b.A):=aa p7.w;generalize aj t 4 [40] (aj t 2 Jn M)=k1 at *
 have c4:=Xc (t:=t) j2.w;have n9:=WV (t:=t) f0.w.aY.b8;have j0:=aa ((tE (t:=t) k1).A.trans j3.w);go_wp21;refine bj f0 (Xa · j2.w Zm) λt9 c7=>?_;generalize cG t k1=p5 at *
 obtain⟨⟨of,a1⟩,k2⟩:=p5;simp only at c7 c4 n9 j0 b9;rw[j3.w]at c4;go_wp21;refine(Fk c7.w.aY).mono ?_;rintro H b8 ⟨⟨rfl,e3,e0⟩,c5⟩;have f1:=aa (c7.w.call ⟨e3,e0⟩);have j1:=aa ((nO (t:=t) k2).A.trans j0.w);generalize dT t k2=wr at *
 obtain⟨w,N⟩:=wr;simp only at f1 c5 b9 j1;have k8:=aa (f1.w.H (oW w));go_wp21;refine bj k8 (ea · 4 [41]) λt3 k4=>?_;go_wp21;refine bj k4 (ea · 4 Jv) λq3 c6=>?_;have i9:af ((aj t 4 Jv (aj t 4 [41] N)).A=b.A):=aa j1.w;generalize aj t 4 Jv (aj t 4 [41] N)=e7 at *
 obtain⟨j4,e6,j5,j6,j7,j8,j9,k0⟩:=c6.w.al (i:=0) rfl;obtain⟨s3,s4,s5,s6,s7,s8,s9,t0⟩:=c6.w.al (i:=1) rfl;have r3:¬(9223372036854775807<6+p.text.length):=Zm;have r4:¬(9223372036854775807<6+p.text.length+9):=Zm;have r5:¬(9223372036854775807<6+p.text.length+9+a1.length):=Zm;have r6:¬(9223372036854775807<6+p.text.length+9+a1.length+1):=Zm;have r7:¬(9223372036854775807<6+p.text.length+9+a1.length+1+w.text.length):=Zm;have r8:¬(9223372036854775807<6+p.text.length+9+a1.length+1+w.text.length+4):=Zm;have k5:=aa ((c6.w.H (.cells #[Zs w.text] 9)).o0.nil.nil);go_upto_block 0 with fail;go_cut [6,7,8,9] (λa0 v a3 e5 wc=>∃(jv:Option Addr) (B:Nat) (D:Option Addr) (E:Nat) (x:Option Addr) (y:Nat) (k q:List Int) (l:Zc) (n:Zb) (f:ai),v=.slice jv k.length B/\a3=.slice D q.length E/\e5=.slice x l.length y/\a0=Zs n/\k.length<=13/\af (l.length<=1+k.length)/\n.length<=90000/\af (aZ h g t (c+30) f [eO (.slice jv k.length B) k,eO (.slice D q.length E) q,cV (.slice x l.length y) l,.obj b8.heap.size (oW w),.obj b7.heap.size (oW p)] d wc)/\af (iR t b=ve t p.text of ((k,q,l,n),f)));case first=>
  go_wp2;go_loopw [6,7,8,9] (λa0 v a3 e5 e4=>∃(jv:Option Addr) (B:Nat) (D:Option Addr) (E:Nat) (x:Option Addr) (y:Nat) (k q:List Int) (l:Zc) (n:Zb) (f:ai) (z:Nat),v=.slice jv k.length B/\a3=.slice D q.length E/\e5=.slice x l.length y/\a0=Zs n/\k.length<=13/\af (q.length=k.length)/\af (l.length<=1+k.length)/\(f.s.e=0->k.length<=12)/\n.length<=9000+6000*k.length/\af (14<=k.length+z)/\af (4<of->of<f.A.length)/\af (∀C∈f.A,C.aR.length<=1000)/\af (aZ h g t (c+1+2*k.length) f [eO (.slice jv k.length B) k,eO (.slice D q.length E) q,cV (.slice x l.length y) l,.obj b8.heap.size (oW w),.obj b7.heap.size (oW p)] d e4)/\af (fa t of z k q l n f=fa t of 14 [] [] [w.text] (Jr++p.text++Ji++a1++[32]++w.text++Jx) e7)) (λ_ v _ _ _=>15-mZ v)
  case atStart=>exact⟨none,0,none,0,some ⟨q3.heap.size,0,none⟩,1,[],[],[w.text],Jr++p.text++Ji++a1++[32]++w.text++Jx,e7,14,rfl,rfl,rfl,Yo Value.string (iZ Zq),Zq,aa rfl,aa Zq,Zq,Zx,aa Zq,aa (by rw[i9.w];exact c4.2),aa (by rw[i9.w];exact l4.w),k5,aa rfl⟩
  case round=>
   obtain⟨jv,B,D,E,x,y,k,q,l,n,u,z,rfl,rfl,rfl,rfl,i2,o1,b1,n1,n3,i0,i5,i8,G,f4⟩:=hrel;obtain⟨j,R⟩:=G.w.aY;obtain⟨f9,g6,g7,g8,g9,h0,h1,h2,h3,g0,g1,g2,g3,g4,g5,h9,d7⟩:=R.al;by_cases b6:u.s.e=0
   .have m6:(u.s.e==0)=true:=by rw[b6];rfl
    have f6:=aa b6;have n2:=n1 b6;have f3:=rG (t:=t) of (14-k.length) k [] u;have l7:=aa (PJ (G.w.h5 (i:=0) (a:=eO (.slice jv k.length B) k) rfl) of ⟨c4.1,i5.w⟩ i8.w n2 Zm);go_wp21;refine l7.w.mono ?_;rintro H t4 ⟨q2,rfl,S,p3,e2⟩;obtain⟨c9,d3,d9⟩:=bM (S.y _ Yb);subst d9;have O:=aa (G.w.c6 (i:=0) (a:=eO (.slice jv k.length B) k) rfl S);generalize m7:dg t of (14-k.length) k [] u=l8 at *
    have l2:=aa m7;obtain⟨⟨r,a2⟩,a4⟩:=l8;simp only at O p3 e2 f3;obtain⟨m0,q7,q8,m1,m2⟩:=f3;have r1:=m1 f6.w Zm;have n7:=λP=>m2 P Zm;have f8:af (a4.A=u.A):=aa m0.A;have c8:=aa (Gr (O.w.h5 (i:=2) (a:=cV (.slice x l.length y) l) rfl) (by have:=b1.w;omega) Zm);have a8:=aa (Yp (qs (t:=t) l a4) (Yp (Br (t:=t) l a4) (Pc (t:=t) l a4)));go_wp21;refine c8.w.mono ?_;rintro H t5 ⟨e6,rfl,S,e1⟩;obtain⟨d0,d4,d9⟩:=bM (S.y _ Yb);subst d9;have a6:=aa (O.w.c6 (i:=2) (a:=cV (.slice x l.length y) l) rfl S);have f5:=aa (λz=>adZ (k:=z) (parts:=q) (out:=n) f6.w l2.w (rfl:dy t l a4=_));generalize dy t l a4=d1 at *
    obtain⟨⟨A,b0,J⟩,F⟩:=d1;simp only at a6 e1 f5 a8;go_wp2;go_loopw [8] (λa3 e4=>∃(ad:Option Addr) (h4:Nat) (o:List Int),a3=.slice ad o.length h4/\o.length<=r.length/\af (o++List.replicate (r.length-o.length) A=ox r.length A q)/\af (aZ h g t (c+1+2*k.length+2) F [eO (.slice c9 r.length d3) r,eO (.slice ad o.length h4) o,cV (.slice d0 J.length d4) J,.obj b8.heap.size (oW w),.obj b7.heap.size (oW p)] d e4)) (λa3 _=>20-mZ a3)
    case atStart=>exact⟨D,E,q,rfl,by have:=o1.w;omega,aa rfl,a6⟩
    case round=>
     obtain⟨c1,c3,o,rfl,r2,f7,b4⟩:=hrel;by_cases d7:o.length<r.length
     .have n5:(o.length:Int)<(r.length:Int):=Zm;have l3:af ((o++[A])++List.replicate (r.length-(o++[A]).length) A=ox r.length A q):=aa (by
       rw[<-f7.w,show r.length-o.length=(r.length-(o++[A]).length)+1 by simp;omega,List.replicate_succ];simp)
      have i6:af (∀a0,(wr.alloc a0).ownsRow 0 3 1 (.slice c1 o.length c3) o.length (o.map (U))):=aa (λa0=>bw (b4.w.bX (i:=1) rfl) ((ao [] wr).H a0) Zq);have i4:o.length+1<=maxLen:=Zn;go_wp2_with (at_builtin;(refine wpList_append_lies _ Zr _ _ _ Zr 0 3 o8 _ 1 8 underlying24 n0 o4 o5 o6 o7 Zm (.slice c1 o.length c3) o.length (o.map (U)) Zr (i6.w _) ⟨wr.heap.size,0,none⟩ 1 1 [U A] Zr Zr (World.news_of_block (cs:=#[U A]) (t:=3) (fr:=(0,0)) (heap_alloc_new wr _)) Zy Zm i4 Zm Zq (wr.heap.size+1) Zq ?_;intro m3 l9 t6 i7 i1 h7 n6;have l0:=aa (b4.w.i5 (i:=1) rfl ((ao [] wr).H _) i7 i1 h7 Zq);clear i7 i1 h7 n6 i6 i4;skip));refine⟨⟨some ⟨m3,0,none⟩,l9,o++[A],Zq,Zx,l3,?_⟩,by simp[mZ];omega⟩;have:=l0.w;exact aa (by simpa using this)
     .have n5:¬((o.length:Int)<(r.length:Int)):=Zm;have m8:af (ox r.length A q=o):=aa (by rw[<-f7.w,show r.length-o.length=0 by omega];simp);have r9:¬(9223372036854775807<n.length+a2.length):=Zm;have s0:¬(9223372036854775807<n.length+a2.length+b0.length):=Zm;go_wp21;refine(jf b4.w.aY 2 Jg).mono ?_;rintro H q4 ⟨rfl,rfl⟩;obtain⟨z,rfl⟩:∃o9,z=o9+1:=⟨z-1,by have:=i0.w;omega⟩;have b5:=aa (f4.w.symm.trans (f5.w z));unfold EW at b5;simp only at b5;rw[m8.w]at b5;cases i3:aJ F 2 Jg with
      |true=>
       have l1:af (fa t of z r o J (n++a2++b0) F=fa t of 14 [] [] [w.text] (Jr++p.text++Ji++a1++[32]++w.text++Jx) e7):=aa (b5.w.trans (by rw[Y9 i3])).symm;have m5:F.s.e=0->a4.s.e=0:=λP=>Classical.byContradiction λh6=>h6 ((a8.w.2.1 h6).1.symm.trans P);have d8:af (J.length<=1+r.length):=aa (by have:=a8.w.2.2;have:=b1.w;omega);have m9:af (14<=r.length+z):=aa (by have:=i0.w;omega);have n8:af (4<of->of<F.A.length):=aa (λP=>by
        obtain⟨p2,d6,_⟩:=a8.w.1.A;have:=i5.w P;rw[d6,f8.w,Yq];omega)
       have o3:af (∀C∈F.A,C.aR.length<=1000):=aa (λC I=>by
        obtain⟨p2,d6,m4⟩:=a8.w.1.A;rw[d6,f8.w]at I;rcases Yn.1 I with I|I
        .exact i8.w C I
        .rw[(m4 C I).1];simp)
       have a7:=aa (b4.w.a2 (N':=c+1+2*r.length) Zm);have o0:af (o.length=r.length):=aa Zm;have n4:(n++a2++b0).length<=9000+6000*r.length:=Zx;go_wp2;exact⟨⟨c9,d3,c1,c3,d0,d4,r,o,J,n++a2++b0,F,z,rfl,rfl,rfl,Yo Value.string (iZ Zq),e2,o0,d8,λP=>n7 (m5 P),n4,m9,n8,o3,a7,l1⟩,by simp[mZ];omega⟩
      |false=>
       have a9:=aa (b9.w.trans (Yo (ve t p.text of) (b5.w.trans (by rw[Y2 (by simp[i3])]:_=((r,o,J,n++a2++b0),F)))));have d8:af (J.length<=1+r.length):=aa (by have:=a8.w.2.2;have:=b1.w;omega);have a7:=aa (b4.w.a2 (N':=c+30) Zm);go_wp2;go_meet;case rel=>exact⟨c9,d3,c1,c3,d0,d4,r,o,J,n++a2++b0,F,rfl,rfl,rfl,Yo Value.string (iZ Zq),e2,d8,Zx,a7,a9⟩
   .have m6:(u.s.e==0)=false:=by rw[Yi];exact b6
    have a9:=aa (b9.w.trans (Yo (ve t p.text of) (f4.w.symm.trans (vh b6))));have l6:=aa (G.w.a2 (N':=c+30) Zm);go_wp2;go_meet;case rel=>exact⟨jv,B,D,E,x,y,k,q,l,n,u,rfl,rfl,rfl,rfl,i2,b1,Zm,l6,a9⟩
 case rest=>
  obtain⟨jv,B,D,E,x,y,k,q,l,n,u,rfl,rfl,rfl,rfl,i2,b1,n3,G,a9⟩:=hcut;go_wp21;refine(jf G.w.aY 2 JL).mono ?_;rintro H q4 ⟨rfl,rfl⟩;cases h8:aJ u 2 JL with
  |true=>
   go_wp21;refine bj G (jW ·) λq2 k9=>?_;go_wp21;refine bj k9 (ea · 4 [58]) λt1 a7=>?_;have c8:=aa (Gr (a7.w.h5 (i:=2) (a:=cV (.slice x (l).length y) (l)) rfl) (by have:=b1.w;omega) Zm);go_wp21;refine c8.w.mono ?_;rintro H t2 ⟨q5,rfl,S,e1⟩;have f2:=aa (a7.w.c6 (i:=2) (a:=cV (.slice x (l).length y) (l)) rfl S);have c0:af (iR t b=fP (n++(JI++(dy t (l) (aj t 4 [58] (bq t u))).1.2.1)++JB) (eH p.text (aj t 4 [59] (aj t 4 Jl (dy t (l) (aj t 4 [58] (bq t u))).2)).A.length (dj ⟨13,0,of,k,q,(dy t (l) (aj t 4 [58] (bq t u))).1.1,[],0⟩ (aj t 4 [59] (aj t 4 Jl (dy t (l) (aj t 4 [58] (bq t u))).2))))):=aa (a9.w.trans (by unfold ve jc;simp only[h8,if_true]))
   generalize dy t (l) (aj t 4 [58] (bq t u))=d1 at *
   obtain⟨⟨h5,c2,p4⟩,q6⟩:=d1;simp only at f2 e1 c0;have s1:¬(9223372036854775807<n.length+9):=Zm;have s2:¬(9223372036854775807<n.length+9+c2.length):=Zm;go_wp21;refine bj f2 (ea · 4 Jl) λp8 O=>?_;go_wp21;refine bj O (ea · 4 [59]) λp9 a6=>?_;generalize aj t 4 [59] (aj t 4 Jl q6)=a5 at *
   go_wp21;refine(ww (L:=[cV q5 p4,.obj b8.heap.size (oW w),.obj b7.heap.size (oW p)]) ⟨13,0,of,k,q,h5,[],0⟩ a6.w Zm).mono ?_;rintro H q0 ⟨rfl,d2⟩;have b2:=aa d2;obtain⟨j4,e6,j5,j6,j7,j8,j9,k0⟩:=b2.w.al (i:=2) rfl;go_wp21;refine bj b2 (wJ · p.text a5.A.length Zm) λq1 b3=>?_;generalize eH p.text a5.A.length (dj ⟨13,0,of,k,q,h5,[],0⟩ a5)=N at *
   obtain⟨j,R⟩:=b3.w.aY;obtain⟨f9,g6,g7,g8,g9,h0,h1,h2,h3,g0,g1,g2,g3,g4,g5,h9,d7⟩:=R.al;have d5:=R.bc;unfold ai.sz at d5;have p0:¬(9223372036854775807<N.w.length+(n.length+9+c2.length)):=Zm;have p1:¬(9223372036854775807<N.w.length+(n.length+9+c2.length)+3):=Zm;go_wp2;go_end0;rw[c0.w];exact⟨rfl,((b3.w.g4 (K:=150000) (s:=n++(JI++c2)++JB) (iZ Zq) Zx).a2 Zm).fin⟩
  |false=>
   have c0:af (iR t b=fP (n++[]++JB) (eH p.text (aj t 4 [59] (aj t 4 Jl u)).A.length (dj ⟨13,0,of,k,q,-2,[],0⟩ (aj t 4 [59] (aj t 4 Jl u))))):=aa (a9.w.trans (by unfold ve jc;simp only[h8,Ye,if_false]))
   go_wp21;refine bj G (ea · 4 Jl) λp8 O=>?_;go_wp21;refine bj O (ea · 4 [59]) λp9 a6=>?_;generalize aj t 4 [59] (aj t 4 Jl u)=a5 at *
   go_wp21;refine(ww (L:=[cV (.slice x (l).length y) (l),.obj b8.heap.size (oW w),.obj b7.heap.size (oW p)]) ⟨13,0,of,k,q,(-2),[],0⟩ a6.w Zm).mono ?_;rintro H q0 ⟨rfl,d2⟩;have b2:=aa d2;obtain⟨j4,e6,j5,j6,j7,j8,j9,k0⟩:=b2.w.al (i:=2) rfl;go_wp21;refine bj b2 (wJ · p.text a5.A.length Zm) λq1 b3=>?_;generalize eH p.text a5.A.length (dj ⟨13,0,of,k,q,(-2),[],0⟩ a5)=N at *
   obtain⟨j,R⟩:=b3.w.aY;obtain⟨f9,g6,g7,g8,g9,h0,h1,h2,h3,g0,g1,g2,g3,g4,g5,h9,d7⟩:=R.al;have d5:=R.bc;unfold ai.sz at d5;have p0:¬(9223372036854775807<N.w.length+n.length):=Zm;have p1:¬(9223372036854775807<N.w.length+n.length+3):=Zm;go_wp2;go_end0;rw[c0.w];exact⟨rfl,((b3.w.g4 (K:=150000) (s:=n++[]++JB) (iZ Zq) Zx).a2 Zm).fin⟩
end
section
variable {f:ct->ct}
variable {l u : Nat -> Prop} {h g q : Nat} {t : Zb} {b z : ai} {c m y n o : Zw} {r : PV} {d : List Th} {i : Nat} {a w : Th}
def nK:ct:=⟨0,0,0,0,0⟩
def HY:(prog.info? 288).map (λi=>(i.zero,i.size,i.bytes))=some (some (.agg #[U 0,U 0,U 0,U 0,U 0]),5,40):=Zk
def XT{a ad d e}(b:(gT (.slice ad d e) a).At c):d=a.length:=by
 have f:c.ownsRow 0 288 5 (.slice ad d e) a.length (a.flatMap gn):=b;rcases f.2 with⟨b,j⟩|⟨i,g,h,b,_⟩;all_goals simp_all
def aZ.mv{n u o k j:Nat}{e v}{p':ct}(s:aZ l h t g b d m c)(r:d[i]? = some (gT (.slice (some ⟨n,0,none⟩) u o) e))(C:k<e.length)(y:j<5)(A:gn p'=(gn (e.getD k nK)).set j v):aZ l h t g b (d.set i (gT (.slice (some ⟨n,0,none⟩) u o) (e.set k p'))) m (c.setCell ⟨n,k*5+j,none⟩ v):=by
 have z:=XT (s.bX (a:=gT (.slice (some ⟨n,0,none⟩) u o) e) r);subst z;have w:c.ownsRow 0 288 5 (.slice (some ⟨n,0,none⟩) e.length o) e.length (e.flatMap gn):=s.bX (a:=gT (.slice (some ⟨n,0,none⟩) e.length o) e) r;have D:(e.flatMap gn).length=e.length*5:=w.1;refine s.bm r ((ao [n] c).aH (p:=⟨n,k*5+j,none⟩) Zq v) (λx q=>by simp at q;rw[q];rfl) ?_ (λx q=>Y8 q);have B:=yq w (i:=k*5+j) Zm v;rw[xM (f:=gn) (k:=5) (λ_=>rfl) e k j (e.getD k nK) p' v y Zg A]at B;show World.ownsRow _ 0 _ 5 _ (e.set k p').length _;simp_all
def Ky{a ad}{g d k:Nat}(l:(gT (.slice ad g d) a).At c)(u:k<a.length):∃b,ad=some ⟨b,0,none⟩/\(∀i,c.frozen? ⟨b,i,none⟩=false)/\b<c.heap.size/\c.cell? ⟨b,k*5,none⟩=some (U (a.getD k nK).prog)/\c.cell? ⟨b,k*5+1,none⟩=some (U (a.getD k nK).e0):=by
 have h:c.ownsRow 0 288 5 (.slice ad g d) a.length (a.flatMap gn):=l;have j:=λn m=>sZ (f:=gn) (k:=5) (λ_=>rfl) a k n m;have e:a[k]? = some (a.getD k nK):=Zg;obtain⟨b,o,w,r,t,v⟩:=mW h (j 0 Zm |>.trans (by rw[e];rfl));obtain⟨q,p,x,s,_⟩:=mW h (j 1 Zm |>.trans (by rw[e];rfl));simp_all
def aZ.h8{k:List Th}(f:Nat->Nat)(u:∀e j,e<k.length->j<k.length->e≠j->f e≠f j)(s:∀e a,k[e]? = some a->d[f e]? = some a)(n:aZ l h t g b d m c):aZ l h t g b k m c:=by
 have p:∀a∈k,a∈d:=by
  grind [List.getElem?_of_mem]
 refine⟨n.aY.bE ?_,n.fr,λa i=>n.y a (p a i),λa i=>n.aB a (p a i),?_⟩
 .rintro w (o|⟨a,i,o⟩)
  .exact Y8 o
  .exact Ya ⟨a,p a i,o⟩
 .intro e j a q v i r;exact n.c0 (f e) (f j) a q (u e j (YB.1 i).1 (YB.1 r).1 v) (s e a i) (s j q r)
def aZ.l0(i:aZ l h t g b d m c):aZ l h t g b (gT (.slice none 0 0) []::d) m c:=by
 refine⟨i.aY.bE ?_,i.fr,?_,?_,?_⟩
 .rintro n (f|⟨e,a,f⟩)
  .exact Y8 f
  .rcases Yg.1 a with rfl|a
   .grind [Th.bZ,Value.ownBlock]
   .exact Ya ⟨e,a,f⟩
 .intro e a;rcases Yg.1 a with rfl|a
  .exact⟨rfl,Y8 ⟨rfl,rfl⟩⟩
  .exact i.y e a
 .intro e a n f;rcases Yg.1 a with rfl|a
  .grind [Th.bZ,Value.ownBlock]
  .exact i.aB e a n f
 .intro j k e o u a s p q r;cases j with
  |zero=>grind [Th.bZ,Value.ownBlock]
  |succ j=>
   cases k with
   |zero=>grind [Th.bZ,Value.ownBlock]
   |succ k=>exact i.c0 j k e o Zm Zu Zu p q r
def aZ.n3{e j f:Nat}{v a k}(x:aZ l h t g b d m c)(s:d[i]? = some (gT v a))(u:an [] c n)(w:o.ownsRow 0 288 5 (.slice (some ⟨e,0,none⟩) (a.length+1) j) (a.length+1) (a.flatMap gn++gn k))(r:n.grownBy o v.ownBlock)(q:v.ownBlock=some e\/e=f)(p:n.heap.size=f):aZ l h t g b (d.set i (gT (.slice (some ⟨e,0,none⟩) (a.length+1) j) (a++[k]))) m o:=by
 have:=x.a9 s u w r q p;grind
theorem Lh{b:List ct}{a:Nat}(d:a<b.length):((b.take a).map f++b.drop a).set a (f (b.getD a nK))=(b.take (a+1)).map f++b.drop (a+1):=by
 have c:b.drop a=b.getD a nK::b.drop (a+1):=by
  simp_all
 rw[c,List.set_append_right _ _ Zg];have:a-((b.take a).map f).length=0:=Zg;grind
theorem HH{b:List ct}{a:Nat}(c:a<b.length):((b.take a).map f++b.drop a).getD a nK=b.getD a nK:=by
 grind
def Iq{a:List ct}{b}:((a.take b).map f++a.drop b).length=a.length:=by
 grind
def DZ(t:Zb)(e:List ct)(i:Zc)(h:List Int)(g:Zb)(d:Int×Zb)(f:fI)(a:Int×Zb)(c:Int)(b:ai):(List ct×Zb)×ai:=
 if aJ b 4 Jl=true then ((e++[⟨0,0,c,a.1,d.1⟩],g++d.2++[32]++f.text++[40]++a.2++JH++di c++[59,32]),b)
 else gI t (10-(e++[(⟨0,0,c,a.1,d.1⟩:ct)]).length) (e++[⟨0,0,c,a.1,d.1⟩]) (i++[f.text]) (h++[c]) (g++d.2++[32]++f.text++[40]++a.2++JH++di c++[59,32]) b
theorem Kz{a c g f d}(h:b.s.e≠0):gI t a c g f d b=((c,d),b):=by
 cases a<;>simp_all[gI]
def XY{c:List ct}{h f out}{g a:(Int×Zb)×ai}{d:fI×ai}{e:Int×ai}(j:b.s.e=0)(l:c.length<=9)(o:fQ t (aV c.length 8 b)=g)(m:cO t h false g.2=d)(k:fQ t (aj t 4 [40] d.2)=a)(n:cM t f (aj t 4 [41] a.2)=e):gI t (10-c.length) c h f out b=DZ t c h f out g.1 d.1 a.1 e.1 e.2:=by
 have i:10-c.length=(9-c.length)+1:=Zm;simp_all[DZ,gI]
def Li(a:b.s.x.text.length<=2000):(fQ t b).1.2.length<=2000:=by
 unfold fQ;split
 .simp
 .unfold cU lF;split
  .simp
  .split
   .exact a
   .split
    .simp
    .split
     .simp
     .split
      .simp
      .split
       .split
        .simp
        grind
       simp
def wM(t:Zb)(d:Zb)(b:List Int)(a:(List ct×Zb)×ai):xl×ai:=
 (⟨d,(cM t b (aj t 4 Jl a.2)).1,a.1.1.map (λc=>{ c with e0:=(cM t b (aj t 4 Jl a.2)).1 }),a.1.2++[125,32,61,32]++di (cM t b (aj t 4 Jl a.2)).1++[59,32]⟩,(cM t b (aj t 4 Jl a.2)).2)
def aae{b:Func}{Q:Ending->Zw->Prop}{a:Act}{i0 i1 i2 i3:Nat}{v0 v1 v2 v3:Zv}(j:b.results=#[.tmp i0,.tmp i1,.tmp i2,.tmp i3])(f:a.tmps.getD i0 undef=v0)(g:a.tmps.getD i1 undef=v1)(h:a.tmps.getD i2 undef=v2)(i:a.tmps.getD i3 undef=v3)(d:a.defers=[])(e:Q (.returned (.tuple #[v0,v1,v2,v3])) c):bodyPost prog b Q .ret a c:=by
 refine bodyPost_ret (v:=.tuple #[v0,v1,v2,v3]) ?_ d e;simp_all[results]
def DP(a:List Int)(b:ai):0<=(cM t a b).1/\(cM t a b).1<=4294967295:=by
 grind [cM,yP]
end
section
variable {f q : Nat -> Prop} {d b N' : Nat} {t : Zb} {h g : ai} {c u k o j : Zw} {n : PV} {p : List Th} {i : Nat} {a r : Th}
def NO(f:Nat->Prop)(d:Nat)(t:Zb)(b:Nat)(j:Zc)(m:List Int)(a:xl×ai)(c:Zw)(i:Ending)(k:Zw):Prop:=∃h g e,i=.returned (.tuple #[h,g,e,.string ⟨a.1.w.toArray⟩])/\aZ f d t b a.2 [cV h (j++[a.1.bl]),eO g (m++[a.1.num]),gT e a.1.l] c k/\a.1.w.length<=100000/\a.1.l.length<=9
def aeq{v a9 w q}(m:aZ f d t b h [cV v w,eO a9 q] c c)(q0:w.length<=1000)(q1:q.length<=1000)(p4:b+100<=1000000000):Calls prog 146 #[Zp d,v,a9] c (NO f d t (b+20) w q (fx t w q h) c):=by
 obtain⟨f0,f2,rfl⟩:=bM (m.y _ Yb);obtain⟨b3,b5,rfl⟩:=bM (m.y _ (Y5 _ Yb));have h7:=aa m;go_in;go_wp21;refine bj h7 (ea · 2 Jz) λo d4=>?_;have c3:=aa (Gk (d4.w.h5 (i:=0) (a:=cV (.slice f0 w.length f2) w) rfl) Zm Zm);go_wp21;refine c3.w.mono ?_;rintro P j ⟨m1,rfl,E,l6⟩;obtain⟨b2,b4,a7⟩:=bM (E.y _ Yb);subst a7;have d5:=aa (d4.w.c6 (i:=0) (a:=cV (.slice f0 w.length f2) w) rfl E);generalize l5:cO t w false (aj t 2 Jz h)=m5 at *
 have j5:=aa l5;obtain⟨r,h4⟩:=m5;simp only at d5 l6;have h8:=aa (d5.w.H (oW r));go_wp21;refine bj h8 (ea · 4 Jv) λs8 d6=>?_;obtain⟨m6,m7,m8,m9,n0,n1,n2,n3⟩:=d6.w.al (i:=0) rfl;have q3:¬(9223372036854775807<8+r.text.length):=Zm;have q5:¬(9223372036854775807<8+r.text.length+3):=Zm;have e9:af (fx t w q h=wM t r.text q (gI t 10 [] [] [] (Jw++r.text++Jd) (aj t 4 Jv h4))):=by
  show _=_;unfold fx wM;simp only[j5.w]
 generalize p5:aj t 4 Jv h4=d2 at *
 have h9:=aa (d6.w.nil.ky.l0);go_upto_block 0 with fail;go_cut [11,12,13,14] (λN d0 h3 g6 wc=>∃(jv:Option Addr) (A:Nat) (k:List ct) (l:Zb) (g:ai) (c1 c2:Th),d0=.slice jv k.length A/\N=Zs l/\k.length<=9/\l.length<=75000/\af (aZ f d t (b+2*k.length) g [gT (.slice jv k.length A) k,c1,c2,.obj j.heap.size (oW r),cV (.slice b2 (w++[r.text]).length b4) (w++[r.text]),eO (.slice b3 q.length b5) q] c wc)/\af (fx t w q h=wM t r.text q ((k,l),g)));case first=>
  go_wp2;go_loopw [11,12,13,14] (λN d0 h3 g6 d1=>∃(jv:Option Addr) (A:Nat) (a2:Option Addr) (a4:Nat) (a3:Option Addr) (a5:Nat) (k:List ct) (y:Zc) (x:List Int) (l:Zb) (g:ai),d0=.slice jv k.length A/\h3=.slice a2 y.length a4/\g6=.slice a3 x.length a5/\N=Zs l/\k.length<=9/\af (y.length=k.length)/\af (x.length=k.length)/\(g.s.e=0->k.length<=8)/\l.length<=2100+7000*k.length/\af (aZ f d t (b+2*k.length) g [gT (.slice jv k.length A) k,cV (.slice a2 y.length a4) y,eO (.slice a3 x.length a5) x,.obj j.heap.size (oW r),cV (.slice b2 (w++[r.text]).length b4) (w++[r.text]),eO (.slice b3 q.length b5) q] c d1)/\af (gI t (10-k.length) k y x l g=gI t 10 [] [] [] (Jw++r.text++Jd) d2)) (λ_ v _ _ _=>15-mZ v)
  case atStart=>exact⟨none,0,none,0,none,0,[],[],[],Jw++r.text++Jd,d2,rfl,rfl,rfl,Yo Value.string (iZ Zq),Zq,aa rfl,aa rfl,Zq,Zx,h9,aa rfl⟩
  case round=>
   obtain⟨jv,A,a2,a4,a3,a5,k,y,x,l,G,rfl,rfl,rfl,rfl,c6,g5,g0,k6,l0,a1,e8⟩:=hrel;obtain⟨n,k2⟩:=a1.w.aY;obtain⟨n7,o4,o5,o6,o7,o8,o9,p0,p1,n8,n9,o0,o1,o2,o3,f5,l1⟩:=k2.al;by_cases b6:G.s.e=0
   .have k3:(G.s.e==0)=true:=by rw[b6];rfl
    have i8:=aa b6;have q2:=k6 b6;go_wp21;refine bj a1 (rQ · k.length 8) λs9 d7=>?_;have l9:=Li (t:=t) d7.w.aY.b8;have g7:=wE (t:=t) (aV k.length 8 G);go_wp21;refine bj d7 (Lk · Zm) λh2 e0=>?_;generalize L:fQ t (aV k.length 8 G)=O at *
    have j1:=aa L;obtain⟨⟨C,D⟩,h5⟩:=O;simp only at e0 l9 g7;have e1:=aa (e0.w.H (oW dC));have c3:=aa (Gk (e1.w.h5 (i:=2) (a:=cV (.slice a2 y.length a4) y) rfl) (by have:=g5.w;omega) Zm);have g8:=g7.u (pH (t:=t) y false h5);go_wp21;refine c3.w.mono ?_;rintro P t0 ⟨m2,rfl,E,l7⟩;obtain⟨j6,j8,a7⟩:=bM (E.y _ Yb);subst a7;have b8:=aa (e1.w.c6 (i:=2) (a:=cV (.slice a2 y.length a4) y) rfl E);generalize L:cO t y false h5=O at *
    have j2:=aa L;obtain⟨z,h6⟩:=O;simp only at b8 l7 g8;have i4:=aa (b8.w.dY (i:=0) (R:=h2.heap.size) (y:=dC) rfl z);obtain⟨r6,r7,r8,r9,s0,s1,s2,s3⟩:=b8.w.al (i:=0) (R:=h2.heap.size) (x:=dC) rfl;go_wp21;refine bj i4 (ea · 4 [40]) λm4 e2=>?_;have m0:=Li (t:=t) e2.w.aY.b8;have g9:=(g8.u (br (t:=t) 4 [40] h6)).u (wE (t:=t) _);go_wp21;refine bj e2 (Lk · Zm) λs4 e3=>?_;generalize L:fQ t (aj t 4 [40] h6)=O at *
    have j3:=aa L;obtain⟨⟨B,M⟩,d3⟩:=O;simp only at e3 m0 g9;go_wp21;refine bj e3 (ea · 4 [41]) λs5 e4=>?_;have c4:=aa (Kb (e4.w.h5 (i:=3) (a:=eO (.slice a3 x.length a5) x) rfl) (by have:=g0.w;omega) Zm);have c7:=DP (t:=t) x (aj t 4 [41] d3);have h0:=aa ((g9.u (br (t:=t) 4 [41] d3)).u (qQ (t:=t) x _));go_wp21;refine c4.w.mono ?_;rintro P s6 ⟨m3,rfl,E⟩;obtain⟨j7,j9,a7⟩:=bM (E.y _ Yb);subst a7;have e5:=aa (e4.w.c6 (i:=3) (a:=eO (.slice a3 x.length a5) x) rfl E);generalize L:cM t x (aj t 4 [41] d3)=O at *
    have j4:=aa L;obtain⟨u,S⟩:=O;simp only at e5 c7 h0;go_wp21;refine(sV u Zm Zm _).mono ?_;rintro P b0 ⟨rfl,c9⟩;have d8:=aa (e5.w.ac c9);have a0:=aa (e8.w.symm.trans (XY (out:=l) i8.w c6 j1.w j2.w j3.w j4.w));unfold DZ at a0;simp only at a0;have g2:af (∀N,(b0.alloc N).ownsRow 0 288 5 (.slice jv k.length A) k.length (k.flatMap gn)):=aa (λN=>bw (d8.w.bX (i:=1) (a:=gT (.slice jv k.length A) k) rfl) ((ao [] b0).H N) Zq);have g1:∀a9∈gn ⟨0,0,u,B,C⟩,a9.oneCell'=true:=by
     intro a9 g4;simp[gn]at g4;rcases g4 with rfl|rfl|rfl|rfl<;>rfl
    have l3:=tt u Zm Zm;unfold di at l3 a0;generalize Lib.itoa u=a6 at *
    have q6:¬(9223372036854775807<l.length+D.length):=Zm;have q7:¬(9223372036854775807<l.length+D.length+1):=Zm;have q8:¬(9223372036854775807<l.length+D.length+1+z.text.length):=Zm;have q9:¬(9223372036854775807<l.length+D.length+1+z.text.length+1):=Zm;have r0:¬(9223372036854775807<l.length+D.length+1+z.text.length+1+M.length):=Zm;have r1:¬(9223372036854775807<l.length+D.length+1+z.text.length+1+M.length+4):=Zm;have r2:¬(9223372036854775807<l.length+D.length+1+z.text.length+1+M.length+4+a6.length):=Zm;have q4:¬(9223372036854775807<l.length+D.length+1+z.text.length+1+M.length+4+a6.length+2):=Zm;go_wp2_with (at_builtin;(refine kl HY underlying60 (g2.w _) (gn ⟨0,0,u,B,C⟩) (heap_alloc_new b0 _) g1 Zm Zq (H:=b0.heap.size+1) Zq ?_;intro f3 f1 s7 g3 f6 f4 l2;have b7:=aa (d8.w.n3 (i:=1) rfl ((ao [] b0).H _) g3 f6 f4 Zq);clear g3 f6 f4 l2 g2 g1;obtain⟨m6,m7,m8,m9,n0,n1,n2,n3⟩:=b7.w.al (i:=0) rfl));refine(jf b7.w.aY 4 Jl).mono ?_;rintro P m4 ⟨rfl,rfl⟩;have d9:=aa b7.w.bY;cases f9:aJ S 4 Jl with
    |true=>
     have J:=aa (e9.w.trans (Yo (wM t r.text q) (a0.w.trans (by rw[Y9 f9]:_=((k++[⟨0,0,u,B,C⟩],l++D++[32]++z.text++[40]++M++JH++a6++[59,32]),S)))));have b1:=aa (d9.w.a2 (N':=b+2*(k++[(⟨0,0,u,B,C⟩:ct)]).length) Zx);simp only[List.set]at b1;go_wp2;go_meet;case rel=>exact⟨some ⟨f3,0,none⟩,f1,k++[⟨0,0,u,B,C⟩],_,S,_,_,Zq,Yo Value.string (iZ Zq),Zu,Zx,aa (by simpa using b1.w),J⟩
    |false=>
     have i5:af (gI t (10-(k++[(⟨0,0,u,B,C⟩:ct)]).length) (k++[⟨0,0,u,B,C⟩]) (y++[z.text]) (x++[u]) (l++D++[32]++z.text++[40]++M++JH++a6++[59,32]) S=gI t 10 [] [] [] (Jw++r.text++Jd) d2):=aa (a0.w.trans (by rw[Y2 (by simp[f9])])).symm;have k7:S.s.e=0->(k++[(⟨0,0,u,B,C⟩:ct)]).length<=8:=by
      intro k1;rcases Yj k.length 8 with k0|k0
      .simp;omega
      .have f5:=vZ (n:=k.length) (m:=8) Zm G;exact absurd k1 (by rw[(h0.w f5).1];omega)
     have i9:af ((y++[z.text]).length=(k++[(⟨0,0,u,B,C⟩:ct)]).length):=aa (by have:=g5.w;simp;omega);have j0:af ((x++[u]).length=(k++[(⟨0,0,u,B,C⟩:ct)]).length):=aa (by have:=g0.w;simp;omega);have b1:=aa (d9.w.a2 (N':=b+2*(k++[(⟨0,0,u,B,C⟩:ct)]).length) Zx);go_wp2;refine⟨⟨some ⟨f3,0,none⟩,f1,j6,j8,j7,j9,k++[⟨0,0,u,B,C⟩],y++[z.text],x++[u],l++D++[32]++z.text++[40]++M++JH++a6++[59,32],S,Zq,Zq,Zq,?_,Zx,i9,j0,k7,Zx,?_,i5⟩,by simp[mZ];omega⟩
     .rfl
     .have:=b1.w;exact aa (by simpa using this)
   .have k3:(G.s.e==0)=false:=by rw[Yi];omega
    have J:=aa (e9.w.trans (Yo (wM t r.text q) (e8.w.symm.trans (Kz b6))));go_wp2;go_meet;case rel=>exact⟨jv,A,k,l,G,_,_,rfl,rfl,c6,Zm,a1,J⟩
 case rest=>
  obtain⟨jv,A,k,l,G,c1,c2,rfl,rfl,c6,l0,a1,J⟩:=hcut;go_wp21;refine bj a1 (ea · 4 Jl) λt1 e6=>?_;have c4:=aa (Kb (e6.w.h5 (i:=5) (a:=eO (.slice b3 q.length b5) q) rfl) Zm Zm);have c7:=DP (t:=t) q (aj t 4 Jl G);go_wp21;refine c4.w.mono ?_;rintro P t2 ⟨h1,rfl,E⟩;have e7:=aa (e6.w.c6 (i:=5) (a:=eO (.slice b3 q.length b5) q) rfl E);unfold wM at J;generalize cM t q (aj t 4 Jl G)=l8 at *
  obtain⟨F,n4⟩:=l8;simp only at e7 c7 J;go_wp2;go_loopw [24] (λc8 d1=>∃(p:Nat) (I:List ct),c8=U p/\p<=(k).length/\af (I=((k).take p).map (λa8=>{ a8 with e0:=F })++(k).drop p)/\af (aZ f d t (b+2*(k).length) n4 [gT (.slice jv (k).length A) I,c1,c2,.obj j.heap.size (oW r),cV (.slice b2 (w++[r.text]).length b4) (w++[r.text]),eO h1 (q++[F])] c d1)) (λc8 _=>(k).length-(intOf c8).toNat)
  case atStart=>exact⟨0,k,rfl,Zm,aa Zq,e7⟩
  case round=>
   obtain⟨p,I,rfl,f7,n5,b9⟩:=hrel;rcases Yj p (k).length with l1|p7
   .have p9:(0:Int)<=↑p:=Zm;have k9:(↑p:Int) < ↑(k).length:=Zm;have f8:p<I.length:=by grind [af.w]
    obtain⟨p2,k5,p6,p8,-,p3⟩:=Ky (b9.w.bX (i:=0) (a:=gT (.slice jv (k).length A) I) rfl) f8;cases k5
    have c0:af (I.set p { I.getD p nK with e0:=F } = ((k).take (p+1)).map (λa8=>{ a8 with e0:=F })++(k).drop (p+1)):=aa (by
     grind [Lh,af.w,HH])
    have i6:=aa (b9.w.mv (i:=0) (k:=p) (j:=1) (p':={ I.getD p nK with e0:=F }) (v:=U F) rfl f8 Zm rfl);go_wp2;exact⟨⟨p+1,_,Zr,Zm,c0,i6⟩,Zz⟩
   .have k9:¬((↑p:Int) < ↑(k).length):=Zm;have c0:af (I=(k).map (λa8=>{ a8 with e0:=F })):=aa (by
     grind [af.w])
    go_wp21;refine(sV F Zm Zm _).mono ?_;rintro P t3 ⟨rfl,c9⟩;have i7:=aa (b9.w.ac c9);have l4:=tt F Zm Zm;unfold di at l4 J;generalize Lib.itoa F=c5 at *
    have r3:¬(9223372036854775807<l.length+4):=Zm;have r4:¬(9223372036854775807<l.length+4+c5.length):=Zm;have r5:¬(9223372036854775807<l.length+4+c5.length+2):=Zm;go_wp2;refine aae (i0:=6) (i1:=7) (i2:=8) (i3:=9) (v0:=.slice b2 (w.length+1) b4) (v1:=h1) (v2:=.slice jv (k).length A) (v3:=.string ⟨(l++[125,32,61,32]++c5++[59,32]).toArray⟩) ?_ ?_ ?_ ?_ ?_ ?_ ?_
    .rfl
    .rfl
    .rfl
    .rfl
    .rfl
    .rfl
    .rw[J.w];refine⟨_,_,_,rfl,?_,Zx,Zu⟩;rw[<-c0.w];exact(i7.w.a2 Zm).h8 (λK=>match K with|0=>4|1=>5|_=>0) (by intro K p k8 f7;simp at k8 f7;match K,p with|0,0=>simp|0,1=>simp|0,2=>simp|1,0=>simp|1,1=>simp|1,2=>simp|2,0=>simp|2,1=>simp|2,2=>simp|K+3,_=>omega|_,p+3=>omega) (by intro K n6 k4;match K with|0=>simp_all|1=>simp_all|2=>simp_all|K+3=>simp at k4)
end
section
variable {j q : Nat -> Prop} {P h p : Nat} {t : Zb} {a w : ai} {b o f u d : Zw} {c : PV} {k : List Th} {i : Nat} {g r : Th}
def HM(b:Zw)(a:Option Nat):b.grownBy b a:=⟨rfl,rfl,rfl,Y4 _,λ_ _ _=>rfl⟩
def XU(d:List ct):∀b∈d.flatMap gn,b.oneCell'=true:=by
 intro b c;obtain⟨e,_,a⟩:=List.mem_flatMap.1 c;simp[gn]at a;rcases a with rfl|rfl|rfl|rfl|rfl<;>rfl
def aa8(b:Zw)(e:TypeId){v k}{c a:List ct}(h:b.ownsRow 0 288 5 v c.length (c.flatMap gn))(i:b.ownsRow 0 288 5 k a.length (a.flatMap gn))(D:c.length+a.length<=1000000000) :
  ∃d f,(Builtin.append_ #[60,60] e #[v,k]).run prog b=.ok d f/\f.ownsRow 0 288 5 d (c++a).length ((c++a).flatMap gn)/\b.grownBy f v.ownBlock/\(d.ownBlock=v.ownBlock\/d.ownBlock=some b.heap.size):=by
 obtain⟨j,g,p,q,r⟩:=info_parts HY;have s:(Value.agg #[U 0,U 0,U 0,U 0,U 0]).cells.size=5:=Zr;rw[Yq,YK];rcases i.2 with⟨rfl,n⟩|⟨m,l,u,rfl,x,y,z,A,B,C⟩
 .have o:a=[]:=Yv.1 n;subst o;refine⟨v,b,run_append_owned_none (P:=prog) b 0 60 e 288 j 5 underlying60 g v c.length _ h,Zu,HM ..,Y8 rfl⟩
 .obtain⟨d,f,E,F,w,_,t⟩:=run_append_own_at (P:=prog) b 0 60 e 288 j _ 5 40 underlying60 g p q r s Zm v c.length (c.flatMap gn) h ⟨m,0,none⟩ a.length l (a.flatMap gn) i.1 (by
   grind [Addr.add,dt]) (XU a) Zn Zm (YV _)
  grind
def MO{e rest}{c:Oper}{g:Act}{Q}{b:Zw}(p:c.guard=none)(h i:Operand)
  (r:c.op=.call { callee:=.builtin .append,args:=#[h,i],argTypes:=#[60,60] }) {v y:Zv} {l m:List ct} (t:g.eval h=v) (w:g.eval i=y) (u:b.ownsRow 0 288 5 v l.length (l.flatMap gn)) (x:b.ownsRow 0 288 5 y m.length (m.flatMap gn)) (q:l.length+m.length<=1000000000)
  (n:∀ad a f,f.ownsRow 0 288 5 (.slice ad (l++m).length a) (l++m).length ((l++m).flatMap gn)->b.grownBy f v.ownBlock->((Value.slice ad (l++m).length a).ownBlock=v.ownBlock\/(Value.slice ad (l++m).length a).ownBlock=some b.heap.size)->wpList prog e Q rest (g.put c.dst (.slice ad (l++m).length a)) f):wpList prog e Q (c::rest) g b:=by
 refine wpList_plain p λz o=>?_;obtain⟨A,f,s,d,k,j⟩:=aa8 b c.type u x q;obtain⟨ad,a,rfl⟩:=bM d;unfold Oper.wp execOp;simp only[r,resolve,invoke,builtin,Sem.run_bind,Sem.run_pure,Result.andThen_ok,List.map_toArray,List.map_cons,List.map_nil,t,w,s];exact o _ _ (n ad a f d k j)
def aZ.n4{v}{l c:List ct}{ad e}(u:aZ j P t h a k o b)(r:k[i]? = some (gT v l))(s:d.ownsRow 0 288 5 (.slice ad c.length e) c.length (c.flatMap gn))(f:b.grownBy d v.ownBlock)(p:(Value.slice ad c.length e).ownBlock=v.ownBlock\/(Value.slice ad c.length e).ownBlock=some b.heap.size):aZ j P t h a (k.set i (gT (.slice ad c.length e) c)) o d:=by
 refine u.bm r (gt f) (λg f=>by simpa[Th.bZ]using f) s ?_;intro g q;have n:(Value.slice ad c.length e).ownBlock=some g:=q;rcases p with m|m
 .left;rw[m]at n;exact n
 simp_all
def bB.m5{c d}{ms:List ct}{ad q}(f:bB j P t h a c b)(w:b.grownBy d c.pv.ownBlock)(r:d.ownsRow 0 288 5 (.slice ad (a.aq++ms).length q) (a.aq++ms).length ((a.aq++ms).flatMap gn))(v:(Value.slice ad (a.aq++ms).length q).ownBlock=c.pv.ownBlock\/(Value.slice ad (a.aq++ms).length q).ownBlock=some b.heap.size) :
  cd j P t (h+ms.length) { a with aq:=a.aq++ms } (d.setCell ⟨P,9,none⟩ (.slice ad (a.aq++ms).length q)):=by
 rcases r.2 with⟨H,a0⟩|⟨S,O,R,x,D,E,_⟩
 .have s:a.aq=[]:=by
   simp_all
  have o:ms=[]:=by
   simp_all
  subst o;have y:=gt w;have K:an [P] d (d.setCell ⟨P,9,none⟩ (.slice none 0 0)):=(ao [P] d).aH (p:=⟨P,9,none⟩) Zq _;have m:an (c.pv.ownBlock.toList++[P]) b (d.setCell ⟨P,9,none⟩ (.slice none 0 0)):=y.cons K (λM o=>by grind) (λM o=>by grind);have p:∀e,c.pv.ownBlock≠some e->e≠P->e ∉ c.pv.ownBlock.toList++[P]:=λe a1 D=>by simp_all
  have L:∀e∈c.bC,c.pv.ownBlock≠some e/\e≠P:=λe g=>⟨λk=>f.ca e g (lN k),λk=>f.ca e g (by rw[k];simp[PV.b9])⟩;have F:d.heap[P]? = b.heap[P]?:=y.L P (au f.ap) (by simpa using f.nd.p);rw[H];have A:∀e,e∈({ c with pv:=.slice none 0 0 }:PV).b9 P->e∈c.b9 P:=by
   intro e g;simp only[PV.b9,Yg,Yn,Option.mem_toList]at g ⊢;rcases g with l|l|l|l|l
   .omega
   all_goals grind [Value.ownBlock]
  refine⟨{ c with pv:=.slice none 0 0 },bv (i:=9) (F.trans f.ap) _,bw f.A m λe g=>p e (λk=>f.nd.rp e g k) (λk=>f.nd.r Zu),bw f.K m λe g=>p e (λk=>f.nd.np e g k) (λk=>f.nd.n Zu),?_,f.am.bC m λe g=>p e (λk=>f.nd.pg e k g) (λk=>f.nd.g Zu),f.av,?_,?_,λe g o=>f.ca e g (A e o),λe g=>f.bk e (g.imp (A e) id),λe J=>Yr (f.a3 e J) m.aD,f.fin,f.b8,f.cH,?_,f.cn⟩
  .simp only[s,YH];exact⟨rfl,Y8 ⟨rfl,rfl⟩⟩
  .intro i N z I s;obtain⟨B,C⟩:=f.d8 i N z I s;have u:=λe g=>L e (lM s g);exact⟨B.bC m λe g=>p e (u e (Y8 g)).1 (u e (Y8 g)).2,C.bC m λe g=>p e (u e (Ya g)).1 (u e (Ya g)).2⟩
  .exact⟨f.nd.r,f.nd.n,by simp[Value.ownBlock],f.nd.g,f.nd.rn,by simp[Value.ownBlock],f.nd.rg,by simp[Value.ownBlock],f.nd.ng,by simp[Value.ownBlock]⟩
  .have:=f.bc;grind [ai.sz]
 .have G:(a.aq++ms).length=a.aq.length+ms.length:=Yq;simp only[Value.slice.injEq]at x;obtain⟨rfl,-,rfl⟩:=x;rw[G]at r v ⊢;rw[YK]at r;refine⟨_,f.m4 w r ?_ (au E)⟩;rcases v with l|l
  .exact Y8 l.symm
  grind [fM]
def Fa(t:Zb)(c:Zc)(a:List Int)(all:List ct)(b:Zb)(v:xl×ai):(List ct×Zb)×ai:=
 if aJ v.2 4 Jl=true then ((all++v.1.l,b++v.1.w),v.2)else fw t (6-(a++[v.1.num]).length) (c++[v.1.bl]) (a++[v.1.num]) (all++v.1.l) (b++v.1.w) v.2
theorem EZ{b d f all c}(g:a.s.e≠0):fw t b d f all c a=((all,c),a):=by
 cases b<;>simp_all[fw]
def aej{c}{b:List Int}{all out}{v:xl×ai}(e:a.s.e=0)(f:b.length<=5)(g:fx t c b (aV b.length 4 a)=v):fw t (6-b.length) c b all out a=Fa t c b all out v:=by
 have d:6-b.length=(5-b.length)+1:=Zm;simp_all[Fa,fw]
def acI:∀(b:Nat) (c:List ct) (f:Zc) (d:List Int) (e:Zb) (a:ai),bp a (gI t b c f d e a).2:=by
 intro b;cases b with
 |zero=>intro c f d e a;exact fl a
 |succ b=>
  intro c f d e a g;simp_all[Kz]
def acQ(b:Zc)(c:List Int)(a:ai):bp a (fx t b c a).2:=by
 unfold fx;exact(br _ _ _).u ((pH _ _ _).u ((br _ _ _).u ((acI _ _ _ _ _ _).u ((br _ _ _).u (qQ _ _)))))
end
section
variable {d w : Nat -> Prop} {b c N' : Nat} {t : Zb} {h g : ai} {j q k r u : Zw} {o : PV} {L R : List Th} {i : Nat} {a x : Th}
def Nc(g:aZ d b t c h (L++R) q j):aZ (iY d R) b t c h L j j:=by
 refine⟨g.aY.bE ?_,nU ..,λe a=>g.y e (Yf _ a),?_,?_⟩
 .rintro k ((f|⟨e,a,f⟩)|⟨e,a,f⟩)
  .exact Y8 f
  .exact Ya ⟨e,Ym _ a,f⟩
  .exact Ya ⟨e,Yf _ a,f⟩
 .rintro e a k f (m|⟨l,i,m⟩)
  .exact g.aB e (Yf _ a) k f m
  .obtain⟨n,p⟩:=List.getElem?_of_mem a;obtain⟨o,w⟩:=List.getElem?_of_mem i;have v:=(YB.1 p).1;exact g.c0 n (L.length+o) e l Zm (by rw[Ys v];exact p) (by rw[Yw Zm];simpa using w) k f m
 .intro n o e l u a i;have r:=(YB.1 a).1;have s:=(YB.1 i).1;exact g.c0 n o e l u (by rw[Ys r];exact a) (by rw[Ys s];exact i)
def Nb{o}(u:aZ d b t c h (L++R) q j)(f:aZ (iY d R) b t N' g o j k):aZ d b t N' g (o++R) q k:=by
 have y:∀e∈R,e.At k:=λe a=>(u.y e (Ym _ a)).fr f.fr λn m=>Ya ⟨e,a,m⟩;refine⟨f.aY.bE ?_,u.fr.u (f.fr.bE λ_ _ s=>Y8 s),?_,?_,?_⟩
 .rintro v (i|⟨e,a,i⟩)
  .exact Y8 (Y8 i)
  .rcases Yn.1 a with a|a
   .exact Ya ⟨e,a,i⟩
   .exact Y8 (Ya ⟨e,a,i⟩)
 .intro e a;rcases Yn.1 a with a|a
  .exact f.y e a
  .exact y e a
 .intro e a v i s;rcases Yn.1 a with a|a
  .exact f.aB e a v i (Y8 s)
  .exact u.aB e (Ym _ a) v i s
 .intro w x e p z a l n m r;rw[List.getElem?_append]at a l;split at a
  .split at l
   .exact f.c0 w x e p z a l n m r
   .exact f.aB e (Yh a) n m (Ya ⟨p,Yh l,r⟩)
  .split at l
   .exact f.aB p (Yh l) n r (Ya ⟨e,Yh a,m⟩)
   .rename_i A B;exact u.c0 (L.length+(w-o.length)) (L.length+(x-o.length)) e p Zm (by rw[Yw Zm];simpa using a) (by rw[Yw Zm];simpa using l) n m r
def aZ.oR{o g r l k n m v}(E:aZ d b t c h L q r)(e:bB (iY d L) b t c g o l)(B:Fr (iY d L) r l)(C:g.am=h.am)(y:BU o.gv h.am v n m l k) :
  k.heap[b]? = some (pA t g.s (ul o g))/\aZ d b t (c+1) { g with am:=g.am++[v] } L q (k.setCell ⟨b,15,none⟩ (.slice (some ⟨n,0,none⟩) (g.am.length+1) m)):=by
 obtain⟨⟨F,u,i,z⟩,w,D⟩:=y;have x:=e.ah u;rw[<-C]at w;refine⟨x.i6 i e.nd.g,E.call ⟨⟨_,x.m6 i w z D⟩,?_⟩⟩;have A:Fr (iY d L) r k:=(B.c6 u Zq).c6 (gt i) (λf a j=>absurd j (e.bk f (Y8 (mw (by simpa using a)))));exact A.c6 ((ao [b] k).aH (p:=⟨b,15,none⟩) Zq _) (λf a j=>absurd j (e.bk f (Y8 (by simp only[Yc]at a;rw[a];simp[PV.b9]))))
def wq(t:Zb)(v:(List ct×Zb)×ai):ai:=
 fP (v.1.2++[125,32,61,32]++di (cM t (aj t 4 Jl v.2).am (aj t 4 Jl v.2)).1++[59,10]) { (cM t (aj t 4 Jl v.2).am (aj t 4 Jl v.2)).2 with am:=(cM t (aj t 4 Jl v.2).am (aj t 4 Jl v.2)).2.am++[(cM t (aj t 4 Jl v.2).am (aj t 4 Jl v.2)).1],aq:=(cM t (aj t 4 Jl v.2).am (aj t 4 Jl v.2)).2.aq++v.1.1.map (λa=>{ a with prog:=(cM t (aj t 4 Jl v.2).am (aj t 4 Jl v.2)).1 }) }
def ab6(a:List Int)(h:ai):Sm h (cM t a h).2:=by
 unfold cM;exact(aF ..).u ((io ..).u ((na ..).u (aF ..)))
def ZG(p:cd d b t c h j)(q2:c+1000000<=1000000000):Calls prog 83 #[Zp b] j (GP d b t (c+1000000) (iD t h) (.tuple #[]) j):=by
 have d8:=aa (lJ p);obtain⟨p3,f8⟩:=p;obtain⟨p5,p8,i8⟩:=bM f8.am;obtain⟨-,-,-,-,-,-,-,-,-,-,-,-,-,-,b1,m4,n3⟩:=f8.al;rw[i8]at b1;clear f8 i8;go_in;go_wp21;refine bj d8 (rQ · h.am.length 4) λr d9=>?_;clear b1 m4 n3;go_wp21;refine bj d9 (ea · 2 Jc) λu c4=>?_;go_wp21;refine(vU c4.w.aY 2 Zm).mono ?_;rintro d1 P ⟨rfl,j4,c1,o0⟩;have c5:=aa (c4.w.call ⟨j4,c1⟩);clear j4 c1;generalize j3:bi t 2 (aj t 2 Jc (aV h.am.length 4 h))=o7 at *
 obtain⟨C,k4⟩:=o7;have l2:=aa j3;simp only at c5 o0;clear j3;have e0:=aa (c5.w.H (oW C));go_wp21;refine bj e0 (ea · 4 Jv) λs6 c6=>?_;obtain⟨j6,j7,j8,j9,k0,k1,k2,k3⟩:=c6.w.al (i:=0) rfl;have r3:¬(9223372036854775807<8+C.text.length):=Zm;have r4:¬(9223372036854775807<8+C.text.length+3):=Zm;have a0:af (iD t h=wq t (fw t 6 [] [] [] (Jj++C.text++Jd) (aj t 4 Jv k4))):=by
  show _=_;unfold iD wq;simp only[l2.w]
 generalize m3:aj t 4 Jv k4=g8 at *
 clear m3;have e1:=aa (c6.w.l0.nil.ky);go_upto_block 0 with fail;go_cut [3,4,5,6] (λg3 v d7 g7 wc=>∃(x:Option Addr) (z:Nat) (all:List ct) (q:Zb) (g:ai) (c9 d0:Th),g7=.slice x all.length z/\g3=Zs q/\all.length<=100/\q.length<=602100/\af (aZ d b t (c+1+20*5) g [c9,d0,gT (.slice x all.length z) all,.obj P.heap.size (oW C)] j wc)/\af (iD t h=wq t ((all,q),g)));case first=>
  go_wp2;go_loopw [3,4,5,6] (λg3 v d7 g7 g5=>∃(jv:Option Addr) (b2:Nat) (b0:Option Addr) (b3:Nat) (x:Option Addr) (z:Nat) (A:Zc) (k:List Int) (all:List ct) (q:Zb) (g:ai),v=.slice jv A.length b2/\d7=.slice b0 k.length b3/\g7=.slice x all.length z/\g3=Zs q/\k.length<=5/\af (A.length=k.length)/\af (all.length<=9*k.length)/\(g.s.e=0->k.length<=4)/\q.length<=2100+100000*k.length/\af (aZ d b t (c+1+20*k.length) g [cV (.slice jv A.length b2) A,eO (.slice b0 k.length b3) k,gT (.slice x all.length z) all,.obj P.heap.size (oW C)] j g5)/\af (fw t (6-k.length) A k all q g=fw t 6 [] [] [] (Jj++C.text++Jd) g8)) (λ_ _ d7 _ _=>15-mZ d7)
  case atStart=>exact⟨none,0,none,0,none,0,[],[],[],Jj++C.text++Jd,g8,rfl,rfl,rfl,Yo Value.string (iZ Zq),Zq,aa rfl,aa Zq,Zq,Zx,e1,aa rfl⟩
  case round=>
   obtain⟨jv,b2,b0,b3,x,z,A,k,all,q,H,rfl,rfl,rfl,rfl,n1,j2,d2,g0,n2,N,a9⟩:=hrel;clear e1 c6 e0 c5 c4 d9 d8 j6 j7 j8 j9 k0 k1 k2 k3;obtain⟨o,i6⟩:=N.w.aY;obtain⟨-,-,-,-,-,-,-,-,-,-,h9,-,-,-,-,b6,a6⟩:=i6.al;clear i6;by_cases O:H.s.e=0
   .have a5:(H.s.e==0)=true:=by rw[O];rfl
    have k7:=aa O;have q9:=g0 O;clear O g0;go_wp21;refine bj N (rQ · k.length 4) λs7 e2=>?_;clear h9 b6 a6;have a1:=aa (a9.w.symm.trans (aej (all:=all) (out:=q) k7.w n1 rfl));have j5:=aa (acQ (t:=t) A k (aV k.length 4 H));have h5:=aa (aeq (Nc (L:=[cV (.slice jv A.length b2) A,eO (.slice b0 k.length b3) k]) (R:=[gT (.slice x all.length z) all,.obj P.heap.size (oW C)]) e2.w) (by have:=j2.w;omega) Zm Zm);go_wp21;refine h5.w.mono ?_;rintro d1 s8 ⟨s5,s4,s0,rfl,c2,o2,o1⟩;clear h5;obtain⟨h6,i1,n9⟩:=bM (c2.y _ Yb);obtain⟨h7,i2,n8⟩:=bM (c2.y _ (Y5 _ Yb));obtain⟨h8,i3,n0⟩:=bM (c2.y _ (Y5 _ (Y5 _ Yb)));subst n9 n8 n0;have a8:=aa (Nb (L:=[cV (.slice jv A.length b2) A,eO (.slice b0 k.length b3) k]) (R:=[gT (.slice x all.length z) all,.obj P.heap.size (oW C)]) e2.w c2);clear c2;generalize fx t A k (aV k.length 4 H)=o8 at *
    obtain⟨⟨nm,nu,E,c3⟩,S⟩:=o8;unfold Fa at a1;simp only at a8 o2 o1 a1 j5;have r5:¬(9223372036854775807<q.length+c3.length):=Zm;go_wp2_with (at_builtin;(refine MO Zr _ _ Zr (l:=all) (m:=E) (v:=.slice x all.length z) (y:=.slice h8 E.length i3) Zr Zr (a8.w.bX (i:=3) (a:=gT (.slice x all.length z) all) rfl) (a8.w.bX (i:=2) (a:=gT (.slice h8 E.length i3) E) rfl) (by have:=d2.w;omega) ?_;intro e9 f2 s9 c0 b7 b4;have e3:=aa (a8.w.n4 (i:=3) (v:=.slice x all.length z) (l:=all) rfl c0 b7 b4);clear c0 b7 b4));refine(jf e3.w.aY 4 Jl).mono ?_;rintro d1 o9 ⟨rfl,rfl⟩;have e4:af (aZ d b t (c+1+20*k.length+20) S [cV (.slice h6 (A++[nm]).length i1) (A++[nm]),eO (.slice h7 (k++[nu]).length i2) (k++[nu]),gT (.slice e9 (all++E).length f2) (all++E),.obj P.heap.size (oW C)] j o9):=aa (e3.w.h8 (λJ=>match J with|0=>0|1=>1|2=>3|_=>4) (by intro J w m8 i9;simp at m8 i9;match J,w with|0,0=>simp|0,1=>simp|0,2=>simp|0,3=>simp|1,0=>simp|1,1=>simp|1,2=>simp|1,3=>simp|2,0=>simp|2,1=>simp|2,2=>simp|2,3=>simp|3,0=>simp|3,1=>simp|3,2=>simp|3,3=>simp|J+4,_=>omega|_,w+4=>omega) (by intro J p6 b5;match J with|0=>simpa using b5|1=>simpa using b5|2=>simpa using b5|3=>simpa using b5|J+4=>simp at b5));clear e3 a8 e2 N;cases j1:aJ S 4 Jl with
    |true=>
     have G:=aa (a0.w.trans (Yo (wq t) (a1.w.trans (by rw[Y9 j1]:_=((all++E,q++c3),S)))));have b9:(all++E).length<=100:=by have:=d2.w;simp;omega
     have e5:=aa (e4.w.a2 (N':=c+1+20*5) Zm);clear a9 a0 a1 e4;go_wp2;go_meet;case rel=>exact⟨e9,f2,all++E,q++c3,S,_,_,Zq,Yo Value.string (iZ Zq),b9,Zx,e5,G⟩
    |false=>
     have k5:af (fw t (6-(k++[nu]).length) (A++[nm]) (k++[nu]) (all++E) (q++c3) S=fw t 6 [] [] [] (Jj++C.text++Jd) g8):=aa (a1.w.trans (by rw[Y2 (by simp[j1])])).symm;have m7:S.s.e=0->(k++[nu]).length<=4:=by
      intro m2;rcases Yj k.length 4 with m0|m0
      .simp;omega
      .have b6:=vZ (n:=k.length) (m:=4) Zm H;exact absurd m2 (by rw[(j5.w b6).1];exact b6)
     have k9:af ((A++[nm]).length=(k++[nu]).length):=aa (by have:=j2.w;simp;omega);have l0:af ((all++E).length<=9*(k++[nu]).length):=aa (by have:=d2.w;simp;omega);have e5:=aa (e4.w.a2 (N':=c+1+20*(k++[nu]).length) Zx);clear a9 a0 a1;go_wp2;refine⟨⟨h6,i1,h7,i2,e9,f2,A++[nm],k++[nu],all++E,q++c3,S,Zq,Zq,Zq,?_,Zx,k9,l0,m7,Zx,e5,k5⟩,by simp[mZ];omega⟩;exact Yo Value.string (iZ Zq)
   .have a5:(H.s.e==0)=false:=by rw[Yi];exact O
    have G:=aa (a0.w.trans (Yo (wq t) (a9.w.symm.trans (EZ O))));have b9:all.length<=100:=by have:=d2.w;omega
    have l3:=aa (N.w.a2 (N':=c+1+20*5) Zm);clear O a9 a0 g0 N;go_wp2;go_meet;case rel=>exact⟨x,z,all,q,H,_,_,rfl,rfl,b9,Zm,l3,G⟩
 case rest=>
  obtain⟨x,z,all,q,H,c9,d0,rfl,rfl,b9,n2,N,G⟩:=hcut;clear e1 c6 e0 c5 c4 d9 d8 j6 j7 j8 j9 k0 k1 k2 k3 a0;go_wp21;refine bj N (ea · 4 Jl) λt0 g9=>?_;(try clear h9 b6 a6);unfold wq at G;simp only at G;generalize aj t 4 Jl H=I at *
  obtain⟨l4,a4⟩:=g9.w.aY;obtain⟨l6,l9,b8⟩:=bM a4.am;obtain⟨-,-,-,-,-,-,-,-,-,-,-,-,-,-,b1,m5,n4⟩:=a4.al;rw[b8]at b1;have i5:=a4.bc;unfold ai.sz at i5;have h4:=aa (Kc a4 (v:=.slice l6 I.am.length l9) (l:=I.am) (b8▸a4.am) (Ya ⟨b8.symm,rfl⟩) Zm Zm);have n5:=DP (t:=t) I.am I;have a7:=ab6 (t:=t) I.am I;have k8:=aa b8;clear a4 b8 i5;go_wp21;refine h4.w.mono ?_;rintro d1 p0 ⟨t1,p9,p7,rfl,g4,i4,c7⟩;clear h4;generalize cM t I.am I=o3 at *
  obtain⟨F,D⟩:=o3;simp only at g4 n5 G c7 a7;rw[<-k8.w]at c7;obtain⟨d3,f4⟩:=g9.w.oR g4 i4 a7.am c7;have o4:p0.cell? (Zd b 15)=some l4.gv:=aS d3 rfl;have o5:=dw d3;have o6:=au d3;rw[a7.am]at f4;have h0:=aa f4;have l1:=aa a7.am;have p2:=aa a7;clear f4 d3 g4 i4 c7 b1 m5 n4 a7;go_wp2;go_loopw [11] (λg2 g5=>∃(w:Nat) (B:List ct),g2=U w/\w<=(all).length/\af (B=((all).take w).map (λp=>{ p with prog:=F })++(all).drop w)/\af (aZ d b t (c+1+20*5+1) { D with am:=I.am++[F] } [c9,d0,gT (.slice x (all).length z) B,.obj P.heap.size (oW C)] j g5)) (λg2 _=>(all).length-(intOf g2).toNat)
  case atStart=>exact⟨0,all,rfl,Zm,aa Zq,aa (h0.w.a2 Zm)⟩
  case round=>
   obtain⟨w,B,rfl,i9,c8,a2⟩:=hrel;clear h0 o4 o5 o6;rcases Yj w (all).length with a6|i7
   .have q8:(0:Int)<=↑w:=Zm;have m9:(↑w:Int) < ↑(all).length:=Zm;have j0:w<B.length:=by rw[c8.w,Iq];exact a6
    obtain⟨q0,m6,q6,q7,q1,-⟩:=Ky (a2.w.bX (i:=2) (a:=gT (.slice x (all).length z) B) rfl) j0;cases m6
    have e8:af (B.set w { B.getD w nK with prog:=F } = ((all).take (w+1)).map (λp=>{ p with prog:=F })++(all).drop (w+1)):=aa (by
     have m1:=Lh (f:=λp:ct=>{ p with prog:=F }) a6;rw[c8.w,HH a6];exact m1)
    have k6:=aa (a2.w.mv (i:=2) (k:=w) (j:=0) (p':={ B.getD w nK with prog:=F }) (v:=U F) rfl j0 Zm rfl);go_wp2;exact⟨⟨w+1,_,Zj,Zm,e8,k6⟩,Zz⟩
   .have m9:¬((↑w:Int) < ↑(all).length):=Zm;have e8:af (B=(all).map (λp=>{ p with prog:=F })):=aa (by
     rw[c8.w,List.take_of_length_le i7,YR i7,YH])
    have r2:B.length<=100:=by rw[c8.w,Iq];exact b9
    obtain⟨h3,a3⟩:=a2.w.aY;obtain⟨f0,f3,d6⟩:=bM a3.aq;obtain⟨-,-,-,-,-,-,-,-,i0,-,-,-,-,-,-,q4,r1⟩:=a3.al;rw[d6]at i0;have f7:=a3.bc;unfold ai.sz at f7;change wr.cell? _=some (.slice f0 D.aq.length f3)at i0;have n7:af (wr.ownsRow 0 288 5 (.slice f0 D.aq.length f3) D.aq.length (D.aq.flatMap gn)):=aa (d6▸a3.aq);have M:=aa (Yp a3 d6);have q5:D.aq.length<=c+200:=by simp only at f7;omega
    clear a3 d6 f7;go_wp2_with (at_builtin;(refine MO Zr _ _ Zr (l:=D.aq) (m:=B) (v:=.slice f0 D.aq.length f3) (y:=.slice x (all).length z) Zr Zr n7.w (a2.w.bX (i:=2) (a:=gT (.slice x (all).length z) B) rfl) Zm ?_;intro l5 l8 g6 c0 b7 b4;have d5:wr.grownBy g6 h3.pv.ownBlock:=(by rw[M.w.2];exact b7);have d4:=M.w.1.i6 d5 M.w.1.nd.p;have s1:g6.cell? (Zd b 9)=some h3.pv:=aS d4 rfl;have s2:=dw d4;have s3:=au d4;have h2:=M.w.1.m5 (ms:=B) d5 c0 (by rw[M.w.2];exact b4);have h1:=(((nU (iY d [c9,d0,gT (.slice x (all).length z) B,.obj P.heap.size (oW C)]) wr).c6 (gt d5) (λf1 a5 g1=>absurd g1 (M.w.1.bk f1 (Y8 (lN (by simpa using a5)))))).c6 ((ao [b] g6).aH (p:=⟨b,9,none⟩) Zq (.slice l5 (D.aq++B).length l8)) (λf1 a5 g1=>absurd g1 (M.w.1.bk f1 (Y8 (by simp only[Yc]at a5;rw[a5];simp[PV.b9])))));have e6:=aa (a2.w.call ⟨h2,h1⟩);clear c0 b7 b4 d5 d4 h2 h1));simp only[Yq]at e6;refine(sV F Zm Zm _).mono ?_;rintro d1 p1 ⟨rfl,c1⟩;have e7:=aa (e6.w.ac c1);clear c1 e6 a2;rw[e8.w]at e7;have n6:=tt F Zm Zm;rw[l1.w]at G;unfold di at n6 G;generalize Lib.itoa F=f5 at *
    obtain⟨p4,f9⟩:=e7.w.aY;obtain⟨-,-,-,-,-,-,-,-,-,l7,-,-,-,-,-,q3,r0⟩:=f9.al;have f6:=f9.bc;unfold ai.sz at f6;simp only[YU,Yq]at f6;change p1.cell? _=some (Zs D.w)at l7;clear f9;have r6:¬(9223372036854775807<D.w.length+q.length):=Zm;have r7:¬(9223372036854775807<D.w.length+q.length+4):=Zm;have r8:¬(9223372036854775807<D.w.length+q.length+4+f5.length):=Zm;have r9:¬(9223372036854775807<D.w.length+q.length+4+f5.length+2):=Zm;clear f6;go_wp2;go_end0;rw[G.w];exact⟨rfl,((e7.w.g4 (K:=900000) (s:=q++[125,32,61,32]++f5++[59,10]) (iZ Zq) Zx).a2 Zx).fin⟩
end
section
variable {f n : Nat -> Prop} {c e l : Nat} {b : Zb} {a σ' : ai} {d k r h t : Zw} {g : PV} {j m : List Th} {i : Nat} {o q : Th}
def bB.ju(h:bB f c b e a g d):bB f c b (e+1) { a with aA:=a.aA+1 } g (d.setCell ⟨c,14,none⟩ (U (a.aA+1))):=by
 refine h.ae (σ':={ a with aA:=a.aA+1 }) (bv (i:=14) h.ap _) ((ao [c] d).aH (p:=⟨c,14,none⟩) Zq _) rfl rfl rfl rfl h.fin h.b8 ?_ ?_
 .have:=h.bc;grind [ai.sz]
 .have:=h.cn;grind
def aZ.ju(i:aZ f c b e a j k d):aZ f c b (e+1) { a with aA:=a.aA+1 } j k (d.setCell ⟨c,14,none⟩ (U (a.aA+1))):=by
 obtain⟨g,h⟩:=i.aY;exact i.call ⟨⟨g,h.ju⟩,zW h _⟩
def JE(b:cC a)(c:Int):cC { a with aA:=c }:=b
def QR(t:cd f c b e a d)(ok:cC a)(p:∀q∈a.A,q.aR.length<=1000)(b3:e+2000000<=1000000000):Calls prog 48 #[Zp c] d (GP f c b (e+2000000) (cJ b a) (.tuple #[]) d):=by
 have k:=aa (lJ t);replace ok:=aa ok;replace p:=aa p;obtain⟨g,A⟩:=t;obtain⟨R,w,a4,a5,a6,a7,a8,a9,b0,S,a0,a1,a2,v,a3,D,G⟩:=A.al;go_in;go_wp21;refine(jf k.w.aY 2 Je).mono ?_;rintro r O ⟨rfl,rfl⟩;go_wp21;refine(jf k.w.aY 2 Jc).mono ?_;rintro r O ⟨rfl,rfl⟩;cases C:aJ a 2 Je with
 |true=>
  have i:af (cJ b a=ih b a):=by show _=_;unfold cJ;simp_all
  go_wp21;refine bj k (Qp · Zm) λh j=>?_;go_wp2;go_end0;rw[i.w];exact⟨rfl,(j.w.a2 Zm).fin⟩
 |false=>
  cases E:aJ a 2 Jc with
  |true=>
   have i:af (cJ b a=iD b a):=by show _=_;simp_all[cJ]
   go_wp21;refine bj k (ZG · Zm) λh j=>?_;go_wp2;go_end0;rw[i.w];exact⟨rfl,(j.w.a2 Zm).fin⟩
  |false=>
   by_cases z:a.s.x.F=2
   .have B:((a.s.x.F:Int) != 2)=false:=Zu;have n:af (cJ b a=if a.s.x.text=Ja then iQ b { aV a.aA 24 a with aA:=(aV a.aA 24 a).aA+1 }else if a.s.x.text=Jo then jx b { aV a.aA 24 a with aA:=(aV a.aA 24 a).aA+1 }else if a.s.x.text=Jf then jl b { aV a.aA 24 a with aA:=(aV a.aA 24 a).aA+1 }else if a.s.x.text=Jh then iR b { aV a.aA 24 a with aA:=(aV a.aA 24 a).aA+1 }else ew a):=by
     show _=_;unfold cJ;rw[Y2 (by simp[C]),Y2 (by simp[E])];simp only[z];by_cases L:a.s.x.text=Ja
     .simp_all
     .by_cases M:a.s.x.text=Jo
      .simp_all
      .by_cases N:a.s.x.text=Jf;all_goals simp_all
    by_cases F:a.s.x.text=Ja\/a.s.x.text=Jo\/a.s.x.text=Jf\/a.s.x.text=Jh
    .rcases F with m|m|m|m;all_goals
      rw[m]at w n
      have i:=n.w
      simp at i
      have i:=aa i
      go_wp21
      refine bj k (rQ · a.aA 24) λh j=>?_
      obtain⟨P,o⟩:=j.w.aY
      obtain⟨-,-,-,-,-,-,-,-,-,-,-,-,-,v,-,D,G⟩:=o.al
      have y:=o.bc
      have b1:=o.cn.2
      unfold ai.sz at y
      have b2:IntKind.i64.wrap ((aV a.aA 24 a).aA+1)=(aV a.aA 24 a).aA+1:=by rw[IntKind.wrap_i64];omega
      have b4:-9223372036854775808<=(aV a.aA 24 a).aA+1:=Zm
      have b5:(aV a.aA 24 a).aA+1<=9223372036854775807:=Zm
      have l:=aa j.w.ju
      have I:=aa (JE (gx ok.w (dR a.aA 24 a).ar) ((aV a.aA 24 a).aA+1))
      have K:af (∀q∈(aV a.aA 24 a).A,q.aR.length<=1000):=aa (by rw[(dR a.aA 24 a).A];exact p.w)
      go_wp21
      first|refine(adV l.w.aY Zm).mono ?_|refine(RP l.w.aY Zm).mono ?_|refine(acZ l.w.aY Zm).mono ?_|refine(ad3 l.w.aY I.w K.w Zm).mono ?_
      rintro r c1 ⟨rfl,J,H⟩
      have u:=aa (l.w.call ⟨J,H⟩)
      go_wp2
      go_end0
      rw[i.w]
      exact⟨rfl,(u.w.a2 Zm).fin⟩
    .obtain⟨L,M,N,c0⟩:(a.s.x.text==Ja)=false/\(a.s.x.text==Jo)=false/\(a.s.x.text==Jf)=false/\(a.s.x.text==Jh)=false:=Zu;have b6:(a.s.x.text != Ja)=true:=Zu;have b7:(a.s.x.text != Jo)=true:=Zu;have b8:(a.s.x.text != Jf)=true:=Zu;have b9:(a.s.x.text != Jh)=true:=Zu;have i:af (cJ b a=ew a):=by show _=_;rw[n.w];simp_all
     go_wp21;refine bj k (sM ·) λh j=>?_;go_wp2;go_end0;rw[i.w];exact⟨rfl,(j.w.a2 Zm).fin⟩
   .have B:((a.s.x.F:Int) != 2)=true:=Zx;have i:af (cJ b a=ew a):=by show _=_;simp_all[cJ]
    go_wp21;refine bj k (sM ·) λh j=>?_;go_wp2;go_end0;rw[i.w];exact⟨rfl,(j.w.a2 Zm).fin⟩
end
section
variable {h t : Nat -> Prop} {c g r : Nat} {j : Zb} {a o : ai} {d v e w m : Zw} {b : PV} {q s : List Th} {i : Nat} {l u : Th}
def aff{d e:Type}:∀(b:List d) (a:List e) (i:Nat) (l:d) (c:e),a[i]? = some c->(b.set i l).zip a=(b.zip a).set i (l,c):=by
 intro b;induction b with
 |nil=>simp
 |cons h b g=>
  intro a i l c f;cases a with
  |nil=>simp
  |cons j a=>
   cases i<;>simp_all
def setOf(a:ai)(i:Nat)(b:Int):ai:={ a with A:=a.A.set i { a.A.getD i bP with of:=b } }
theorem bB.setOf{b}(l:bB h c j g a b d){i n D:Nat}(L:i<a.A.length)(w:b.rv=.slice (some ⟨n,0,none⟩) a.A.length D)(q:Int):bB h c j g (setOf a i q) b (d.setCell ⟨n,i*8+2,none⟩ (U q)):=by
 have K:b.rv.ownBlock=some n:=by rw[w];rfl
 have p:an [n] d (d.setCell ⟨n,i*8+2,none⟩ (U q)):=(ao [n] d).aH (p:=⟨n,i*8+2,none⟩) Zq _;have s:∀e,b.rv.ownBlock≠some e->e ∉ [n]:=λe m N=>by
  simp_all
 have y:∀e∈b.bC,b.rv.ownBlock≠some e:=λe m o=>l.ca e m (kM o);have G:i<b.ls.length:=by rw[l.av];omega
 have J:a.A[i]? = some (a.A.getD i bP):=Zg;have F:b.ls[i]? = some b.ls[i]:=Yd G;have E:(a.A.zip b.ls)[i]? = some (a.A.getD i bP,b.ls[i]):=Zg;have M:(sf a.A b.ls).length=a.A.length*8:=l.A.1;refine⟨(p.L c (au l.ap) (s c l.nd.r)).trans l.ap,?_,bw l.K p λe m=>s e (λo=>l.nd.rn e o m),bw l.aq p λe m=>s e (λo=>l.nd.rp e o m),l.am.bC p λe m=>s e (λo=>l.nd.rg e o m),?_,?_,l.nd,l.ca,l.bk,λe I=>Yr (l.a3 e I) p.aD,l.fin,l.b8,l.cH,?_,l.cn⟩
 .have z:=l.A;rw[w]at z ⊢;have A:=yq z (i:=i*8+2) Zm (U q);unfold sf at A;rw[xM (f:=λr:bD×(Zv×Zv)=>im r.1 r.2) (k:=8) (λ_=>rfl) (a.A.zip b.ls) i 2 _ ({ a.A.getD i bP with of:=q },b.ls[i]) _ Zm E rfl,<-aff a.A b.ls i _ _ F]at A;grind [YtjdhaegijjednaaGreatDoor.setOf,sf]
 .grind [YtjdhaegijjednaaGreatDoor.setOf,av]
 .intro x P r v u;unfold YtjdhaegijjednaaGreatDoor.setOf at v;simp only at v;rw[YP]at v;have O:∀t,a.A[x]? = some t->dL r.1 t.aR (d.setCell ⟨n,i*8+2,none⟩ (U q))/\dL r.2 t.bz (d.setCell ⟨n,i*8+2,none⟩ (U q)):=by
   intro t H;obtain⟨B,C⟩:=l.d8 x t r H u;exact⟨B.bC p λe m=>s e (y e (lM u (Y8 m))),C.bC p λe m=>s e (y e (lM u (Ya m)))⟩
  grind
 .have:=l.bc;grind [ai.sz,YtjdhaegijjednaaGreatDoor.setOf]
def gb(a:ai)(b:Zb):hI:=a.K.getD (ce a b).toNat iC
def qK:Nat->Nat->ai->ai
 |0,_,a=>a
 |k+1,i,a=>
  if(a.A.getD i bP).F=14 then
   if ce a (a.A.getD i bP).bl<0\/(gb a (a.A.getD i bP).bl).a7≠1 then cm 7 (a.A.getD i bP).y a
   else qK k (i+1) (setOf a i (gb a (a.A.getD i bP).bl).n)
  else qK k (i+1) a
def pC(a:ai):ai:=qK a.A.length 0 a
def aad(p:cd h c j g a d)(a7:g<=1000000000):Calls prog 49 #[Zp c] d (GP h c j g (pC a) (.tuple #[]) d):=by
 have a2:=aa (lJ p);have a6:=p.bc;unfold ai.sz at a6;have e7:a.A.length<=1000000000:=Zm;go_in;go_wp2;go_loopw [2] (λI c0=>∃(k:Nat) (o:ai),I=U k/\k<=a.A.length/\af (o.A.length=a.A.length)/\af (aZ h c j g o [] d c0)/\af (qK (a.A.length-k) k o=pC a)) (λI _=>a.A.length-(intOf I).toNat)
 case atStart=>exact⟨0,a,rfl,Zm,aa rfl,a2,aa rfl⟩
 case round=>
  obtain⟨k,f,rfl,e0,B,D,s⟩:=hrel;obtain⟨b,jv,a4,l,z⟩:=D.w.aY.sp;obtain⟨d1,d3,b4⟩:=bM l.A;obtain⟨-,-,-,-,-,-,x,y,-,-,-,-,-,-,-,a9,b2⟩:=l.al;rcases Yj k a.A.length with e2|d8
  .obtain⟨i,H⟩:∃i,f.A.getD k bP=i:=⟨_,rfl⟩;have e1:(0:Int)<=↑k:=Zm;have G:k<f.A.length:=by rw[B.w];omega
   have M:=aa (s.w.symm.trans (by rw[show a.A.length-k=(a.A.length-(k+1))+1 by omega,qK,H]));obtain⟨q,E,b9,w,-,J,-,-,-,-,-,K,L,c3,c4,b0⟩:=pE l G;rw[H]at J K L;rw[w]at x;rw[z]at y;have b1:(↑k:Int) < ↑f.A.length:=Zm;have P:=aa (rO (l.ah (ao [] wr).aU) a7 i.bl);rw[z]at P;have C:=aa l;by_cases R:i.F=14
   .have a8:(i.F==14)=true:=Zu;have t:=aa (M.w.trans (by rw[Y9 R]));go_wp2;refine cy (λe=>e.cell? (Zd c 8)=some (.slice jv f.K.length a4)/\e.cell? (Zd c 7)=some (.slice (some ⟨q,0,none⟩) f.A.length E)/\e.cell? ⟨q,k*8+6,none⟩=some (Zs i.bl)) ?_ λS=>?_
    .go_keep
    refine bI [0,1,2,3,4,5,6,7,8,9,10,11,12,13] ?_;iterate 14 (refine bK ?_)
    refine bJ ?_;refine cx 14 λO v=>?_;(go_simp;refine P.w.mono ?_;rintro d4 e9 ⟨rfl,rfl⟩);refine v.out _ _ ?_ (λS=>?_)
    .go_keep
    refine nz ?_;refine cw λO v=>?_;go_simp;refine v.out _ _ ?_;refine nz ?_;have u:=aa D.w.aU;generalize wr.drew=m at u ⊢;obtain⟨b,d0,d2,l,z⟩:=u.w.aY.sp;obtain⟨q,E,b9,w,-,J,-,c2,-,-,-,K,L,c3,c4,b0⟩:=pE l G;obtain⟨-,-,-,-,-,-,x,y,-,-,-,-,-,-,-,a9,b2⟩:=l.al;rw[H]at J c2 K L;rw[w]at x;have C:=aa l;have N:=aa w;by_cases d5:ce f i.bl<0
    .have s:af (pC a=cm 7 i.y f):=aa (t.w.trans Zu);rw[z]at y;go_wp21;refine bj u (mM · 7 i.y) λc1 A=>?_;go_wp2;go_end0;rw[s.w];exact⟨rfl,A.w.fin⟩
    .have b3:=uw (by omega:0<=ce f i.bl);obtain⟨F,a3,a1,-,c5,c6,-,f0,f1,d7⟩:=tp l b3;change m.cell? _=some (U (gb f i.bl).a7)at c5;change m.cell? _=some (U (gb f i.bl).n)at c6;rw[a1]at y;have d9:F≠q:=λa5=>l.nd.rn q (by rw[w];rfl) (by rw[a1,a5];rfl);generalize d6:ce f i.bl=r at *
     obtain⟨r,rfl⟩:∃b6:Nat,r=b6:=⟨r.toNat,Zm⟩;simp only[Int.toNat_natCast]at *
     have e5:(r:Int)<(f.K.length:Int):=Zm;have e4:decide ((r:Int)<0)=false:=Zq;have e6:(0:Int)<=r:=Zm;by_cases e8:(gb f i.bl).a7=1
     .have b5:((gb f i.bl).a7 != 1)=false:=Zu;have c8:af (qK (a.A.length-(k+1)) (k+1) (setOf f k (gb f i.bl).n)=pC a):=aa (t.w.trans (by simp_all[Y2])).symm;have c7:=aa (u.w.call ⟨⟨b,C.w.setOf G N.w (gb f i.bl).n⟩,wW ((ao [q] m).aH (p:=⟨q,k*8+2,none⟩) Zq (U (gb f i.bl).n)) (λb7 a0 _=>C.w.bk b7 (Y8 (kM (by simp at a0;rw[a0,N.w];rfl))))⟩);have c9:af ((setOf f k (gb f i.bl).n).A.length=a.A.length):=aa (by unfold setOf;simp only[YF];exact B.w);generalize e3:(gb f i.bl).n=b8 at *
      go_wp2;refine cy (λe=>e.cell? (Zd c 8)=some (.slice (some ⟨F,0,none⟩) f.K.length a3)/\e.cell? (Zd c 7)=some (.slice (some ⟨q,0,none⟩) f.A.length E)/\e.cell? ⟨F,r*4+2,none⟩=some (U b8)) ?_ λS=>?_
      .go_keep
      refine bI [0,1,2,3,4,5,6,7,8,9,10,11,12,13,14,15,16] ?_;iterate 17 (refine bK ?_)
      refine bJ ?_;refine cw λO v=>?_;go_simp;refine v.out _ _ ?_;refine nz ?_;go_wp2;grind [aa,aZ.aU,intOf]
     .have b5:((gb f i.bl).a7 != 1)=true:=Zu;have s:af (pC a=cm 7 i.y f):=aa (t.w.trans Zu);go_wp21;refine bj u (mM · 7 i.y) λc1 A=>?_;go_wp2;go_end0;rw[s.w];exact⟨rfl,A.w.fin⟩
   .have a8:(i.F==14)=false:=Zu;have t:=aa (M.w.trans (by rw[Y2 R])).symm;go_wp2;grind [intOf]
  .have b1:¬((↑k:Int) < ↑f.A.length):=by rw[B.w];omega
   have t:af (pC a=f):=aa (s.w.symm.trans (by simp_all[qK]));rw[b4]at x;go_wp2;go_end0;rw[t.w];exact⟨rfl,D.w.fin⟩
end
section
variable {g o : Nat -> Prop} {P f j : Nat} {h : Zb} {c u : ai} {a r b s t : Zw} {d : PV} {i k : List Th} {q : Nat} {e p : Th}
def aa7(a:Zw)(j:TypeId){v n c d}(h:dL v c a)(i:dL n d a)(J:c.length+d.length<=1000000000) :
  ∃e b,(Builtin.append_ #[24,24] j #[v,n]).run prog a=.ok e b/\dL e (c++d) b/\a.grownBy b v.ownBlock/\(e.ownBlock=v.ownBlock\/e.ownBlock=some a.heap.size):=by
 obtain⟨l,k,y,z,A⟩:=info_parts tc;have B:(U 0).cells.size=1:=rfl;unfold dL at *
 rw[Yq,List.map_append];rcases i.2 with⟨rfl,r⟩|⟨g,p,E,rfl,F,s,G,H,I,t⟩
 .have w:d=[]:=Yv.1 r;subst w;refine⟨v,a,run_append_owned_none (P:=prog) a 0 24 j 3 l 1 underlying24 k v c.length _ h,by simpa using h,HM ..,Y8 rfl⟩
 .obtain⟨e,b,x,C,q,_,o⟩:=run_append_own_at (P:=prog) a 0 24 j 3 l _ 1 8 underlying24 k y z A B Zm v c.length (c.map (U)) h ⟨g,0,none⟩ d.length p (d.map (U)) i.1 (by
   intro m D f;have u:(⟨g,0,none⟩:Addr).add m=⟨g,m,none⟩:=by unfold Addr.add;split<;>simp_all
   rw[u];exact dt s (by rw[i.1];exact t) f) (by intro D f;simp at f;obtain⟨_,_,rfl⟩:=f;rfl) Zn Zm (YV _)
  exact⟨e,b,x,C,q,o⟩
def aeM{g rest}{d:Oper}{e:Act}{Q a}(p:d.guard=none)(h i:Operand)
  (r:d.op=.call { callee:=.builtin .append,args:=#[h,i],argTypes:=#[24,24] }) {v y:Zv} {l m} (t:e.eval h=v) (w:e.eval i=y) (u:dL v l a) (x:dL y m a) (q:l.length+m.length<=1000000000)
  (n:∀ad c b,dL (.slice ad (l++m).length c) (l++m) b->a.grownBy b v.ownBlock->((Value.slice ad (l++m).length c).ownBlock=v.ownBlock\/(Value.slice ad (l++m).length c).ownBlock=some a.heap.size)->wpList prog g Q rest (e.put d.dst (.slice ad (l++m).length c)) b):wpList prog g Q (d::rest) e a:=by
 refine wpList_plain p λz o=>?_;obtain⟨A,b,s,f,k,j⟩:=aa7 a d.type u x q;obtain⟨ad,c,rfl⟩:=bM f;unfold Oper.wp execOp;simp only[r,resolve,invoke,builtin,Sem.run_bind,Sem.run_pure,Result.andThen_ok,List.map_toArray,List.map_cons,List.map_nil,t,w,s];exact o _ _ (n ad c b f k j)
def WP{ad f h a b c}(g:(Value.slice ad f a).ownBlock=(Value.slice none 0 0).ownBlock\/(Value.slice ad f a).ownBlock=some b)(d:(Value.slice ad h a).ownBlock=some c):c=b:=by
 cases ad with
 |none=>simp[Value.ownBlock]at d
 |some e=>
  simp[Value.ownBlock]at g d;omega
def pm{e a g h}(b:an [] a g)(c:an e g h)(i:∀k∈e,a.heap.size<=k):an [] a h:=
 ⟨c.os.trans b.os,c.dq.trans b.dq,c.dp.trans b.dp,Yz b.aD c.aD,λd f _=>(c.L d (Yr f b.aD) (λj=>by have:=i d j;omega)).trans (b.L d f Zq)⟩
def dh(a:bD):List Int:=if a.F=14\/a.F=9 then [a.of]else if a.F=12 then a.bz else if a.F=13 then a.bz++[a.d0]else []
abbrev jj(d:PV)(c:ai):Zv:=.agg #[d.rv,d.nv,d.pv,Zs c.w]
abbrev aa4(a:bD)(b:Zv×Zv):Obj:=.cells #[U a.F,U a.n,U a.of,b.1,b.2,U a.d0,Zs a.bl,U a.y] 117
def Uz(n:bB g P h f c d a){j:Nat}(b4:j<c.A.length)(d3:f<=1000000000)(d8:(c.A.getD j bP).bz.length<=1000):Calls prog 91 #[jj d c,U j] a λb3 b=>∃v,b3=.returned v/\an [] a b/\dL v (dh (c.A.getD j bP)) b/\∀i,v.ownBlock=some i->i∈d.bC\/a.heap.size<=i:=by
 obtain⟨c7,c9,b6⟩:=bM n.K;obtain⟨c8,d0,b7⟩:=bM n.aq;obtain⟨d2,d1,B,b9,x,e6,e7,e8,c4,c5,e9,f0,f1,f2,f3,-⟩:=pE n b4;have u:=(n.d8 j (c.A.getD j bP) B Zg x).2;have N:=(n.d8 j (c.A.getD j bP) B Zg x).1;obtain⟨jv,z,R⟩:=bM u;obtain⟨a6,b1,O⟩:=bM N;obtain⟨e4,e5⟩:=B;simp only at O R c4 c5 u;subst O R;have J:=n.bc;unfold ai.sz at J;generalize b8:c.A.getD j bP=e at *
 have d5:(0:Int)<=↑j:=Zm;have d6:(↑j:Int) < ↑c.A.length:=Zm;have E:=aa u;have a1:=aa (λi (k:(Value.slice jv e.bz.length z).ownBlock=some i)=>lM x (Ya k));clear n u N b8 x J;unfold jj;rw[b9,b6,b7];by_cases q:e.F=14\/e.F=9
 .have m:af (dh e=[e.of]):=by show _=_;unfold dh;simp_all
  by_cases p:e.F=14
  .have H:(e.F==14)=true:=Zu;clear p q;go_in;go_wp2;go_ret;rw[m.w];exact⟨_,rfl,(((ao [] a).H _).H _).H _,⟨rfl,Ya ⟨a.heap.size+1+1,1,#[U e.of],rfl,YV _,aQ Zq,Zq,Zn,rfl,rfl⟩⟩,λi k=>Ya (by simp[Value.ownBlock]at k;omega)⟩
  .have H:(e.F==14)=false:=Zu;have a7:(e.F==9)=true:=Zu;clear p q;go_in;go_wp2;go_ret;rw[m.w];exact⟨_,rfl,(((ao [] a).H _).H _).H _,⟨rfl,Ya ⟨a.heap.size+1+1,1,#[U e.of],rfl,YV _,aQ Zq,Zq,Zn,rfl,rfl⟩⟩,λi k=>Ya (by simp[Value.ownBlock]at k;omega)⟩
 .have H:(e.F==14)=false:=Zu;have a7:(e.F==9)=false:=Zu;by_cases A:e.F=12
  .have m:af (dh e=e.bz):=by show _=_;simp_all[dh]
   have a8:(e.F==12)=true:=Zu;clear q A;go_in;go_wp2;go_ret;rw[m.w];exact⟨_,rfl,((ao [] a).H _).H _,E.w.bC (((ao [] a).H _).H _) Zq,λi k=>Y8 (a1.w i k)⟩
  .have a8:(e.F==12)=false:=Zu;by_cases K:e.F=13
   .have m:af (dh e=e.bz++[e.d0]):=by show _=_;simp_all[dh]
    have a9:(e.F==13)=true:=Zu;obtain⟨e3,d4,d9,e0,e1⟩:=info_parts tc;have e2:(U 0).cells.size=1:=rfl;have C:=aa (λc1 c2=>E.w.bC (((ao [] a).H c1).H c2) Zq);clear q A K;go_in;go_wp2_with (at_builtin;(first|(refine aeM Zr _ _ Zr (l:=[]) (m:=e.bz) (v:=.slice none 0 0) (y:=.slice jv e.bz.length z) Zr Zr (xR _) (C.w ..) Zg ?_;intro G I s w o r;have a2:=aa ((((ao [] a).H _).H _).u (gt o));have M:s.heap[a.heap.size+1]? = some (aa4 e (.slice a6 e.aR.length b1,.slice jv e.bz.length z)):=((o.block _ Zq (by simp[Value.ownBlock])).trans (aQ Zq));obtain⟨f4,f5,f6,f7,f8,f9,g0,g1,g2,g3⟩:=Gz M;have a5:af (dL (.slice G e.bz.length I) e.bz s):=aa w;have F:=aa (λc0=>a5.w.bC ((ao [] s).H c0) Zq);have D:af (∀t,(Value.slice G e.bz.length I).ownBlock=some t->a.heap.size<=t):=aa (λt L=>(by have b2:=WP r L;simp at b2;omega));clear w o r M C)|(refine kl tc underlying24 (F.w _) [U e.d0] (heap_alloc_new s _) Zy Zm Zq (H:=s.heap.size+1) Zq ?_;intro i b0 c3 w o r b5;have a4:af (dL (.slice (some ⟨i,0,none⟩) (e.bz.length+1) b0) (e.bz++[e.d0]) c3):=aa (by grind [dL]);have a3:=aa (pm (a2.w.H _) (gt o) (λS d7=>D.w S Zu));have a0:af (a.heap.size<=i):=aa (r.elim (λp=>D.w i p) (λp=>Zm));clear w o r b5 F)));go_ret;rw[m.w];exact⟨_,rfl,a3.w,a4.w,λt L=>Ya (by have:=a0.w;simp_all[Value.ownBlock])⟩
   .have m:af (dh e=[]):=by show _=_;simp_all[dh]
    have a9:(e.F==13)=false:=Zu;clear q A K;go_in;go_wp2;go_ret;rw[m.w];exact⟨_,rfl,((ao [] a).H _).H _,xR _,λi k=>by simp[Value.ownBlock]at k⟩
end
section
variable {g o : Nat -> Prop} {P e l : Nat} {h : Zb} {a u : ai} {c s d b t : Zw} {f : PV} {k n : List Th} {i : Nat} {q r : Th}
def jV(c:List Int)(a:List Bool):List Bool:=c.foldl (λa b=>if 0<=b then a.set b.toNat true else a) a
def ji(a:ai):Nat->Nat->List Bool->List Bool
 |0,_,b=>b
 |m+1,c,b=>ji a m (c+1) (if b.getD c false=true then jV (dh (a.A.getD c bP)) b else b)
def hU(a:ai):Nat->List Bool->List Bool
 |0,b=>b
 |m+1,b=>hU a m (ji a a.A.length 0 b)
def rN(a:ai)(b:Nat):Bool:=(hU a a.A.length (jV (dh (a.A.getD b bP)) (List.replicate a.A.length false))).getD b false
def xa(a:ai):Prop:=∀b∈a.A,b.bz.length<=1000/\∀c∈dh b,c<a.A.length
theorem Dt(b:List Int):∀a:List Bool,(jV b a).length=a.length:=by
 induction b with
 |nil=>intro a;rfl
 |cons d b c=>
  intro a;unfold jV at *
  grind
theorem KS(a:ai):∀(b d:Nat) (c:List Bool),(ji a b d c).length=c.length:=by
 intro b;induction b<;>grind [ji,Dt]
abbrev lC(a:List Bool):Obj:=.cells (a.map Value.bool).toArray 4
def TG:(prog.info? 4).map (λi=>(i.zero,i.size,i.bytes))=some (some (.bool false),1,1):=Zk
def Vb(a:Nat):(Obj.cells (madeCells #[.bool false] a) 4)=lC (List.replicate a false):=by
 unfold lC madeCells;congr 1;grind
def La{a j:Nat}{b}(d:c.heap[a]? = some (lC b)):(c.setCell ⟨a,j,none⟩ (.bool true)).heap[a]? = some (lC (b.set j true)):=by
 have:=bv (i:=j) d (.bool true);simp_all
def ID{b:List Int}{a:Nat}{c:List Bool}(e:a<b.length):jV (b.drop a) c=jV (b.drop (a+1)) (if 0<=b.getD a 0 then c.set (b.getD a 0).toNat true else c):=by
 have d:b.drop a=b.getD a 0::b.drop (a+1):=by
  simp_all
 rw[d];rfl
def Ia{v b}{a:Nat}(f:dL v b c)(h:a<b.length):∃d e,v=.slice (some ⟨d,0,none⟩) b.length e/\c.cell? (Zd d a)=some (U (b.getD a 0))/\d<c.heap.size:=by
 obtain⟨d,e,k,g,_,j⟩:=mW f (i:=a) (x:=U (b.getD a 0)) Zg;simp_all
def Bg{d a:Nat}{b}(e:c.heap[d]? = some (lC b))(f:a<b.length):c.cell? (Zd d a)=some (.bool (b.getD a false)):=aS e Zg
def Im(a:bD):(dh a).length<=a.bz.length+1:=by
 grind [dh]
def RD(p:bB g P h e a f c){o:Nat}(a5:o<a.A.length)(i2:xa a)(g4:e<=1000000000):Calls prog 50 #[jj f a,U o] c λI d=>I=.returned (.bool (rN a o))/\an [] c d:=by
 obtain⟨b8,c3,c5⟩:=bM p.K;obtain⟨b9,c4,c7⟩:=bM p.aq;obtain⟨a0,a1,c8⟩:=bM p.A;have f7:=p.bc;unfold ai.sz at f7;have k1:a.A.length<=1000000000:=Zm;have c6:∀i,i<a.A.length->(a.A.getD i bP).bz.length<=1000/\∀C∈dh (a.A.getD i bP),C<a.A.length:=λi L=>i2 _ (by simp[L]);have b6:af (∀N i,an [] c N->i<a.A.length->Calls prog 91 #[.agg #[.slice a0 a.A.length a1,.slice b8 a.K.length c3,.slice b9 a.aq.length c4,Zs a.w],U i] N λI d=>∃v,I=.returned v/\an [] N d/\dL v (dh (a.A.getD i bP)) d/\∀l,v.ownBlock=some l->l<c.heap.size\/N.heap.size<=l):=aa (λN i i0 L=>by
  have:=Uz (p.ah i0) L g4 (c6 i L).1;unfold jj at this;rw[c8,c5,c7]at this;refine this.mono ?_;rintro I d ⟨v,g0,g1,g2,g3⟩;exact⟨v,g0,g1,g2,λl B=>(g3 l B).imp (λa7=>p.lt l (Ya a7)) id⟩)
 have R:=aa c6;unfold jj;rw[c8,c5,c7];go_in;go_wp21;refine(b6.w _ o ((ao [] c).H _) a5).mono ?_;rintro I b ⟨k4,rfl,c9,d1,-⟩;have b0:=(R.w o a5).2;have j6:(dh (a.A.getD o bP)).length<=2000:=by have:=Im (a.A.getD o bP);have:=(R.w o a5).1;omega
 have d5:af (rN a o=(hU a a.A.length (jV (dh (a.A.getD o bP)) (List.replicate a.A.length false))).getD o false):=aa rfl;generalize dh (a.A.getD o bP)=x at *
 have s:b.heap[c.heap.size]? = some (.cells #[.slice a0 a.A.length a1,.slice b8 a.K.length c3,.slice b9 a.aq.length c4,Zs a.w] 62):=(c9.L _ Zq Zq).trans (aQ rfl);obtain⟨e8,f2,rfl⟩:=bM d1;have c0:b.cell? (Zd c.heap.size 0)=some (.slice a0 a.A.length a1):=aS s rfl;have c1:=dw s;have c2:=au s;have d9:=aa (((ao [] c).H _).u c9);have d4:=aa s;have b5:=aa d1;have h7:=run_make_row' (P:=prog) 175 4 (.bool false) 1 underlying175 TG rfl .i64 .i64 a.A.length Zm Zm b;rw[Vb]at h7;have g6:(b.alloc (lC (List.replicate a.A.length false))).heap[b.heap.size]? = some (lC (List.replicate a.A.length false)):=aQ rfl;have e3:=aa (Yp (ao [b.heap.size] (b.alloc (lC (List.replicate a.A.length false)))) g6);have e0:=aa (b5.w.bC ((ao [] b).H (lC (List.replicate a.A.length false))) Zq);have b4:=aa (d9.w.H (lC (List.replicate a.A.length false)));have O:=aa ((((ao [] b).H (lC (List.replicate a.A.length false))).L _ c2 Zq).trans d4.w);have g8:af (∀l,(Value.slice e8 x.length f2).ownBlock=some l->l≠b.heap.size):=aa (λl B f6=>by have:=(hR b5.w B).2;omega);have i9:c.heap.size<b.heap.size:=c2;go_wp2;generalize i8:b.alloc (lC (List.replicate a.A.length false))=b1 at *
 go_loopw [7] (λq z=>∃(i:Nat) (k:List Bool),q=U i/\i<=x.length/\af (k.length=a.A.length)/\af (jV (x.drop i) k=jV x (List.replicate a.A.length false))/\af (an [b.heap.size] b1 z/\z.heap[b.heap.size]? = some (lC k))) (λq _=>x.length-(intOf q).toNat)
 case atStart=>exact⟨0,List.replicate a.A.length false,rfl,Zm,aa Zq,aa rfl,e3⟩
 case round=>
  obtain⟨i,k,rfl,L,F,J,j⟩:=hrel;rcases Yj i x.length with a2|h0
  .have j2:(0:Int)<=↑i:=Zm;have h3:(↑i:Int) < ↑x.length:=Zm;obtain⟨l,f1,M,g7,h2⟩:=Ia (e0.w.bC j.w.1 (λl B=>by simpa using g8.w l B)) a2;simp only[Value.slice.injEq]at M;obtain⟨rfl,-,rfl⟩:=M;have w:=aa ((ID a2).symm.trans J.w);have i1:=b0 (x.getD i 0) (by simp[a2]);generalize x.getD i 0=C at *
   by_cases K:0<=C
   .obtain⟨m,rfl⟩:∃m:Nat,C=m:=⟨C.toNat,Zm⟩;rw[Y9 K,Int.toNat_natCast]at w;have a8:m<k.length:=by rw[F.w];omega
    have f4:=Bg j.w.2 a8;have f8:=dw j.w.2;have e5:=aa (Yp (j.w.1.aH (p:=⟨b.heap.size,m,none⟩) Zq (.bool true)) (La (j:=m) j.w.2));have H:af ((k.set m true).length=a.A.length):=aa (by rw[YF];exact F.w);go_wp2;exact⟨⟨i+1,k.set m true,Zj,Zm,H,w,e5⟩,Zz⟩
   .rw[Y2 K]at w;go_wp2;exact⟨⟨i+1,k,Zj,Zm,F,w,j⟩,Zz⟩
  .have h3:¬((↑i:Int) < ↑x.length):=Zm;have w:af (k=jV x (List.replicate a.A.length false)):=aa (by rw[<-J.w,YR h0];rfl);have d6:af (rN a o=(hU a a.A.length k).getD o false):=aa (by rw[d5.w,<-w.w]);generalize g5:hU a a.A.length k=SR at *
   have d8:=aa g5;go_wp2;go_loopw [8] (λq z=>∃(r:Nat) (k:List Bool),q=U r/\r<=a.A.length/\af (k.length=a.A.length)/\af (hU a (a.A.length-r) k=SR)/\af (an [b.heap.size] b1 z/\z.heap[b.heap.size]? = some (lC k))) (λq _=>a.A.length-(intOf q).toNat)
   case atStart=>exact⟨0,k,rfl,Zm,F,d8,j⟩
   case round=>
    obtain⟨r,k,rfl,a4,F,J,j⟩:=hrel;have s:=(j.w.1.L _ (au O.w) Zx).trans O.w;have c0:wr.cell? (Zd c.heap.size 0)=some (.slice a0 a.A.length a1):=aS s rfl;have c1:=dw s;have f0:=au s;rcases Yj r a.A.length with a2|j0
    .have h6:(↑r:Int) < ↑a.A.length:=Zm;have w:af (hU a (a.A.length-(r+1)) (ji a a.A.length 0 k)=SR):=aa (by rw[<-J.w,show a.A.length-r=(a.A.length-(r+1))+1 by omega,hU]);go_wp2;go_loopw [9] (λq z=>∃(i:Nat) (u:List Bool),q=U i/\i<=a.A.length/\af (u.length=a.A.length)/\af (ji a (a.A.length-i) i u=ji a a.A.length 0 k)/\af (an [b.heap.size] b1 z/\z.heap[b.heap.size]? = some (lC u))) (λq _=>a.A.length-(intOf q).toNat)
     case atStart=>exact⟨0,k,rfl,Zm,F,aa rfl,j⟩
     case round=>
      obtain⟨n,u,rfl,j3,S,b2,j⟩:=hrel;have s:=(j.w.1.L _ (au O.w) Zx).trans O.w;have c0:=lx s;have c1:=dw s;have f0:=au s;rcases Yj n a.A.length with a3|j1
      .have j4:(0:Int)<=↑n:=Zm;have h4:(↑n:Int) < ↑a.A.length:=Zm;have h5:n<u.length:=by rw[S.w];exact a3
       have i5:=Bg j.w.2 h5;have i6:=dw j.w.2;have i3:=au j.w.2;have E:=aa (b2.w.symm.trans (by rw[show a.A.length-n=(a.A.length-(n+1))+1 by omega,ji]));generalize k2:u.getD n false=i4 at *
       cases i4 with
       |true=>
        simp only[if_true]at E
        have a6:=pm b4.w j.w.1 (λr a4=>by simp at a4;omega);have b0:=(R.w n a3).2;have j5:(dh (a.A.getD n bP)).length<=2000:=by have:=Im (a.A.getD n bP);have:=(R.w n a3).1;omega
        have e4:=aa (b6.w wr n a6 a3);go_wp21;refine e4.w.mono ?_;rintro I d3 ⟨k5,rfl,d0,d2,f9⟩;obtain⟨e9,f3,rfl⟩:=bM d2;generalize dh (a.A.getD n bP)=y at *
        have b7:=aa (Yp (j.w.1.u (d0.ak Zq)) ((d0.L _ i3 Zq).trans j.w.2));have e1:=aa d2;have g9:af (∀l,(Value.slice e9 y.length f3).ownBlock=some l->l≠b.heap.size):=aa (λl B f6=>by rcases f9 l B with a7|a7<;>omega);have e2:=aa (Yp (ao [b.heap.size] d3) b7.w.2);go_wp2;go_loopw [11] (λq z=>∃(t:Nat) (A:List Bool),q=U t/\t<=y.length/\af (A.length=a.A.length)/\af (jV (y.drop t) A=jV y u)/\af (an [b.heap.size] d3 z/\z.heap[b.heap.size]? = some (lC A))) (λq _=>y.length-(intOf q).toNat)
        case atStart=>exact⟨0,u,rfl,Zm,S,aa rfl,e2⟩
        case round=>
         obtain⟨t,A,rfl,j7,H,b3,D⟩:=hrel;rcases Yj t y.length with a9|h1
         .have j8:(0:Int)<=↑t:=Zm;have h8:(↑t:Int) < ↑y.length:=Zm;obtain⟨l,f1,M,g7,h2⟩:=Ia (e1.w.bC D.w.1 (λl B=>by simpa using g9.w l B)) a9;simp only[Value.slice.injEq]at M;obtain⟨rfl,-,rfl⟩:=M;have G:=aa ((ID a9).symm.trans b3.w);have i1:=b0 (y.getD t 0) (by simp[a9]);generalize y.getD t 0=C at *
          by_cases K:0<=C
          .obtain⟨m,rfl⟩:∃m:Nat,C=m:=⟨C.toNat,Zm⟩;rw[Y9 K,Int.toNat_natCast]at G;have a8:m<A.length:=by rw[H.w];omega
           have f4:=Bg D.w.2 a8;have f8:=dw D.w.2;have e6:=aa (Yp (D.w.1.aH (p:=⟨b.heap.size,m,none⟩) Zq (.bool true)) (La (j:=m) D.w.2));have d7:af ((A.set m true).length=a.A.length):=aa (by rw[YF];exact H.w);go_wp2;exact⟨⟨t+1,A.set m true,Zj,Zm,d7,G,e6⟩,Zz⟩
          .rw[Y2 K]at G;go_wp2;exact⟨⟨t+1,A,Zj,Zm,H,G,D⟩,Zz⟩
         .have h8:¬((↑t:Int) < ↑y.length):=Zm;have G:af (A=jV y u):=aa (by rw[<-b3.w,YR h1];rfl);rw[<-G.w]at E;have e7:=aa (Yp (b7.w.1.u D.w.1) D.w.2);go_wp2;exact⟨⟨n+1,A,Zj,Zm,H,aa E.w.symm,e7⟩,Zz⟩
       |false=>
        simp only[Ye,if_false]at E
        go_wp2;exact⟨⟨n+1,u,Zj,Zm,S,aa E.w.symm,j⟩,Zz⟩
      .have h4:¬((↑n:Int) < ↑a.A.length):=Zm;have E:af (u=ji a a.A.length 0 k):=aa (by rw[<-b2.w,show a.A.length-n=0 by omega,ji]);rw[<-E.w]at w;go_wp2;exact⟨⟨r+1,u,Zj,Zm,S,w,j⟩,Zz⟩
    .have h6:¬((↑r:Int) < ↑a.A.length):=Zm;have w:af (k=SR):=aa (by rw[<-J.w,show a.A.length-r=0 by omega,hU]);have h9:o<k.length:=by rw[F.w];exact a5
     have j9:(0:Int)<=↑o:=Zm;have k0:(↑o:Int) < ↑a.A.length:=Zm;have f5:=Bg j.w.2 h9;have i7:=dw j.w.2;have k3:=au j.w.2;rw[w.w]at f5;have a6:=aa (pm b4.w j.w.1 (λr a4=>by simp at a4;omega));go_wp2;go_ret;exact⟨by rw[d6.w];simp,a6.w⟩
end
section
variable {t : Zb} {a σ' b : ai}
def wD(b:σ'.s=a.s):bp a σ':=λ_=>⟨by rw[b],by rw[b]⟩
def EF(b:Nat)(c:List Int)(d:Zb)(a:ai):bp a (eh t b c d a).2.2.2:=λe=>by simp_all[us]
theorem EH(b:Nat)(e:List Int)(c:Zc)(d:Zb)(a:ai):bp a (eM t b e c d a).2.2:=λf=>by simp_all[yJ]
theorem EI(of:Int)(b:Nat)(d f:List Int)(c:Zc)(e:Zb)(a:ai):bp a (fa t of b d f c e a).2:=λg=>by simp_all[vh]
theorem EJ(b:Nat)(c:Zc)(d:List Int)(all:List ct)(e:Zb)(a:ai):bp a (fw t b c d all e a).2:=λf=>by simp_all[EZ]
def LA(b:Zc)(a:ai):bp a (jc t b a).2:=by
 unfold jc;split
 .exact(kb _).u ((br _ _ _).u (Br _ _))
 .exact fl a
def acE(a:ai):bp (aV a.aN 40 a) (ih t a):=by
 unfold ih;simp only;generalize e:bi t 2 (aj t 2 Je (aV a.aN 40 a))=b;have c:bp (aV a.aN 40 a) b.2:=by rw[<-e];exact(br _ _ _).u (tF _ _)
 generalize f:bV t (-2147483648) 4294967295 (aj t 4 [61] b.2)=v;have d:bp (aV a.aN 40 a) (aj t 4 [59] v.2):=by rw[<-f];exact c.u ((br _ _ _).u ((jF _ _ _).u (br _ _ _)))
 split
 .omega
 .exact d.u ((LE _ _ _).u (qR _ _))
def acM(a:ai):bp a (iQ t a):=by
 unfold iQ;simp only;generalize d:dv t [] true (aj t 2 Ja a)=b;have c:bp a b.2:=by rw[<-d];exact(br _ _ _).u (Bs _ _ _)
 split
 .omega
 .exact c.u (bp.u (wD (σ':={ b.2 with K:=b.2.K++[⟨b.1.x.text,1,b.1.r,b.1.x.y⟩] }) rfl) ((br _ _ _).u (qR _ _)))
def acF(a:ai):bp a (jx t a):=by
 unfold jx;simp only;generalize g:bi t 2 (aj t 2 Jo a)=b;have d:bp a b.2:=by rw[<-g];exact(br _ _ _).u (tF _ _)
 generalize f:eh t 13 [] (Jm++b.1.text++Jd) (aj t 4 Jv b.2)=c;have e:bp a c.2.2.2:=by rw[<-f];exact d.u ((br _ _ _).u (EF _ _ _ _))
 split
 .omega
 .exact e.u ((br _ _ _).u ((br _ _ _).u ((hj _ _).u ((wF _ _ _).u (qR _ _)))))
def acL(a:ai):bp a (jl t a):=by
 unfold jl;exact(br _ _ _).u ((tF _ _).u ((br _ _ _).u ((EH _ _ _ _ _).u ((br _ _ _).u ((br _ _ _).u ((hj _ _).u ((wF _ _ _).u (qR _ _))))))))
def acN(a:ai):bp a (iR t a):=by
 unfold iR;exact(br _ _ _).u ((tF _ _).u ((br _ _ _).u ((br _ _ _).u ((LG _).u ((wG _).u ((br _ _ _).u ((br _ _ _).u ((EI _ _ _ _ _ _ _).u ((LA _ _).u ((br _ _ _).u ((br _ _ _).u ((hj _ _).u ((wF _ _ _).u (qR _ _))))))))))))))
def acJ(a:ai):bp (aV a.am.length 4 a) (iD t a):=by
 unfold iD;simp only;generalize g:bi t 2 (aj t 2 Jc (aV a.am.length 4 a))=b;have c:bp (aV a.am.length 4 a) b.2:=by rw[<-g];exact(br _ _ _).u (tF _ _)
 generalize f:fw t 6 [] [] [] (Jj++b.1.text++Jd) (aj t 4 Jv b.2)=v;have d:bp (aV a.am.length 4 a) (aj t 4 Jl v.2):=by rw[<-f];exact c.u ((br _ _ _).u ((EJ _ _ _ _ _ _).u (br _ _ _)))
 have e:=d.u (qQ (t:=t) (aj t 4 Jl v.2).am _);exact e.u (wD rfl)
def oo(a:ai):Nat:=a.aN.toNat+a.aA.toNat+a.am.length
def QK(b:(cJ t a).s.e=0)(l:a.s.e=0)(m:0<=a.aN/\0<=a.aA)(o:a.s.x.F≠5):oo a+1<=oo (cJ t a):=by
 unfold cJ at *
 split at b
 .rename_i g;rw[Y9 g];obtain⟨d,f⟩:=PQ b;have:=f.t;have:=f.p;unfold oo;omega
 .rename_i g;rw[Y2 g];split at b
  .rename_i h;rw[Y9 h];obtain⟨d,f⟩:=PZ (t:=t) a;have:=d.c;have:=d.t;unfold oo;omega
  .rename_i h;rw[Y2 h];split at b
   .grind [ew,ny,ql,jT]
   .rename_i k;rw[Y2 k];simp only at b ⊢;have n:=(dR a.aA 24 a).jq;have v:∀j:ai,fi { aV a.aA 24 a with aA:=(aV a.aA 24 a).aA+1 } j->oo a+1<=oo j:=by
     intro j i;have q:=i.c;have r:=i.t;have u:=i.p;grind [oo]
    grind [Qc,PS,Qa,Qd]
end
section
variable {t : Zb} {a b c : ai}
def lc:ai:=⟨⟨dC,0,0⟩,[],[],[],[],0,0,[]⟩
def wu:PV:=⟨.slice none 0 0,.slice none 0 0,.slice none 0 0,.slice none 0 0,[]⟩
def ZL{X:Nat->Prop}(b:Zw)(c:∀a,X a->a<b.heap.size)(e:t.length<=2000):bB X b.heap.size t 0 lc wu (b.alloc (pA t lc.s (ul wu lc))):=by
 refine⟨aQ rfl,⟨rfl,Y8 ⟨rfl,rfl⟩⟩,⟨rfl,Y8 ⟨rfl,rfl⟩⟩,⟨rfl,Y8 ⟨rfl,rfl⟩⟩,⟨rfl,Y8 ⟨rfl,rfl⟩⟩,rfl,?_,?_,?_,?_,?_,YV _,by simp[lc,dC],e,by simp[lc,ai.sz],by simp[lc]⟩
 .grind [lc]
 .constructor<;>simp[wu,Value.ownBlock]
 .grind [PV.bC,wu]
 .grind [PV.b9,wu,Value.ownBlock,PV.bC]
 .intro a d;have:=c a d;simp;omega
end
section
variable {t : Zb} {a b c : ai}
def Wr(e:cC a)(c:bD):cC (dj c a):=by
 intro b g f;obtain⟨d,h⟩:=e b g f;refine⟨d,?_⟩;show b.n<((a.A++[c]).length:Int);grind
theorem DF(b:cC a)(c:Zb):cC (fP c a):=b
theorem IZ(f:cC a)(h:Nat)(e c:Int)(g:e=1->0<=c/\c<a.A.length):cC (iO a h e c):=by
 intro i b d;unfold iO at b;simp only at b;rcases List.mem_or_eq_of_mem_set b with b|rfl
 .exact f i b d
 .exact g d
theorem IY(b:cC a)(d:Zb)(c:Int):cC (eK d c a):=by
 unfold eK;simp only;split
 .exact IZ b _ 0 c Zq
 .exact b
def Wv(d:cC a)(c:Zb)(b:Int)(e:0<=b/\b<a.A.length):cC (eH c b a):=by
 grind [eH,IZ]
def Wl(c:cC a):cC (ih t a):=by
 unfold ih;simp only;generalize e:bi t 2 (aj t 2 Je (aV a.aN 40 a))=b;have d:cC b.2:=by rw[<-e];exact uH (gx c ((dR ..).u (aF ..)).ar) 2 Ze
 generalize f:bV t (-2147483648) 4294967295 (aj t 4 [61] b.2)=v;have g:cC (aj t 4 [59] v.2):=by rw[<-f];exact gx d ((aF ..).u ((io ..).u (aF ..))).ar
 grind [DF,IY]
def DE(e:cC a)(d:Zb)(b:bD)(c:Zb):cC (fP c (eH d a.A.length (dj b a))):=by
 refine DF (Wv (Wr e b) d _ ⟨Zm,?_⟩) c;show ((a.A.length:Nat):Int)<((a.A++[b]).length:Int);grind
def Wu:∀(c:Nat) (e:List Int) (d:Zc) (f:Zb) (a:ai),cC a->cC (eM t c e d f a).2.2:=by
 intro c;induction c with
 |zero=>intro e d f a b;exact b
 |succ c h=>
  intro e d f a b;unfold eM;split
  .exact b
  .simp only;have g:cC (aj t 4 [59] (dv t d false (aV e.length 12 a)).2):=gx b ((dR ..).ar.u ((ow ..).u (aF ..).ar));grind
theorem Wt(b:cC a):cC (jl t a):=by
 unfold jl;simp only;generalize d:bi t 2 (aj t 2 Jf a)=e;have c:cC e.2:=by rw[<-d];exact uH (gx b (aF _ _ _).ar) 2 Ze
 exact DE (gx (Wu _ _ _ _ _ (gx c (aF _ _ _).ar)) ((aF _ _ _).u (aF _ _ _)).ar) _ _ _
def Wo:∀(d:Nat) (b:List Int) (g:Zb) (a:ai),cC a->cC (eh t d b g a).2.2.2:=by
 intro d;induction d with
 |zero=>intro b g a c;exact c
 |succ d o=>
  intro b g a c;unfold eh;split
  .exact c
  .simp only;generalize m:bi t 2 (aV (aV b.length 12 a).aN 40 (aV b.length 12 a))=f;have h:cC f.2:=by rw[<-m];exact uH (gx c ((dR ..).u (dR ..)).ar) 2 Ze
   generalize n:bV t (-2147483648) 2147483647 (aj t 4 [61] f.2)=v;have i:cC v.2:=by rw[<-n];exact gx h ((aF ..).u (io ..)).ar
   generalize l:(if v.2.s.e=0/\b.contains v.1.1=true then cm 6 v.1.2 v.2 else v.2)=p
   have j:cC p:=by rw[<-l];exact gx i (na ..).ar
   split
   .omega
   .have k:=IY j f.1.text v.1.1;split
    .exact o _ _ _ (gx k (fR _).ar)
    omega
theorem Wn(d:cC a):cC (jx t a):=by
 unfold jx;simp only;generalize h:bi t 2 (aj t 2 Jo a)=b;have e:cC b.2:=by rw[<-h];exact uH (gx d (aF _ _ _).ar) 2 Ze
 generalize g:eh t 13 [] (Jm++b.1.text++Jd) (aj t 4 Jv b.2)=c;have f:cC c.2.2.2:=by rw[<-g];exact Wo _ _ _ _ (gx e (aF _ _ _).ar)
 split
 .omega
 .exact DE (gx f ((aF _ _ _).u (aF _ _ _)).ar) _ _ _
theorem Wy(of:Int):∀(d:Nat) (b g:List Int) (e:Zc) (f:Zb) (a:ai),cC a->cC (fa t of d b g e f a).2:=by
 intro d;induction d with
 |zero=>intro b g e f a c;exact c
 |succ d i=>
  intro b g e f a c;unfold fa;split
  .exact c
  .simp only;have h:cC (dy t e (dg t of (14-b.length) b [] a).2).2:=gx c ((rG (t:=t) of _ b [] a).1.ar.u (qs ..));grind
def xH(b:Zc)(a:ai):dl a (jc t b a).2:=by
 unfold jc;split
 .exact((fR _).u (aF ..)).ar.u (qs ..)
 .exact sr a
theorem Wx(e:cC a):cC (iR t a):=by
 unfold iR;simp only;generalize j:bi t 2 (aj t 2 Jh a)=d;have f:cC d.2:=by rw[<-j];exact uH (gx e (aF _ _ _).ar) 2 Ze
 generalize i:cG t (aj t 4 [40] (aj t 2 Jn d.2))=b;have g:cC b.2:=by rw[<-i];exact gx f (((aF _ _ _).u (aF _ _ _)).u (tE _)).ar
 have l:cC (aj t 4 Jv (aj t 4 [41] (dT t b.2).2)):=gx g ((nO _).u ((aF _ _ _).u (aF _ _ _))).ar;generalize dT t b.2=c at *
 generalize m:fa t b.1.1 14 [] [] [c.1.text] (Jr++d.1.text++Ji++b.1.2++[32]++c.1.text++Jx) (aj t 4 Jv (aj t 4 [41] c.2))=k;have h:cC k.2:=by grind [Wy]
 exact DE (gx h ((xH _ _).u ((aF _ _ _).u (aF _ _ _)).ar)) _ _ _
def Wq(d:cC a):cC (iD t a):=by
 unfold iD;simp only;generalize i:bi t 2 (aj t 2 Jc (aV a.am.length 4 a))=c;have b:cC c.2:=by rw[<-i];exact uH (gx d ((dR ..).u (aF ..)).ar) 2 Ze
 generalize h:fw t 6 [] [] [] (Jj++c.1.text++Jd) (aj t 4 Jv c.2)=v;have e:cC v.2:=by rw[<-h];exact gx b ((aF ..).ar.u (xJ ..))
 have f:cC (cM t (aj t 4 Jl v.2).am (aj t 4 Jl v.2)).2:=gx e ((aF (t:=t) 4 Jl v.2).ar.u (qt (t:=t) (aj t 4 Jl v.2).am _));exact λj g b=>f j g b
end
section
variable {t : Zb} {σ a b : ai}
def ua(σ:ai)(a:Int):Prop:=0<=a/\a<σ.A.length
theorem dl.av(b:dl σ a):σ.A.length<=a.A.length:=by
 grind [A]
def ua.ar{c}(b:ua σ c)(d:dl σ a):ua a c:=⟨b.1,by have:=d.av;have:=b.2;omega⟩
theorem yz(a:bD):ua (dj a σ) σ.A.length:=⟨Zm,by show ((σ.A.length:Nat):Int)<((σ.A++[a]).length:Int);grind⟩
def Ul(f:5<=σ.A.length):ua (cU t σ).2 (cU t σ).1.1:=by
 have b:∀(a:ai) (c:Int),dl σ a->0<=c->c<=4->ua a c:=λa c e d g=>⟨d,by have:=e.av;omega⟩;unfold cU;split
 .grind [sr]
 .split
  .exact yz _
  .split
   .exact b _ _ (fR σ).ar Zq Zq
   .split
    .exact b _ _ (fR σ).ar Zq Zq
    .split
     .exact b _ _ (fR σ).ar Zq Zq
     .split
      .unfold lF;split
       .exact b _ _ ((fR σ).u (fR _)).ar Zq Zq
       .split
        .exact b _ _ ((fR σ).u (fR _)).ar Zq Zq
        .exact b _ _ (fR σ).ar Zq Zq
      .exact b _ _ (yE σ).ar Zq Zq
def QD(b:5<=σ.A.length)(a:Zc)(all:Bool):ua (dv t a all σ).2 (dv t a all σ).1.r:=by
 unfold dv;split
 .grind [jX,yz]
 .unfold iJ;simp only;have c:=Ul (t:=t) b;split
  .exact yz _
  .split
   .exact yz _
   .split
    .exact yz _
    .exact c.ar (jE ..).ar
theorem Ww(c:cC σ)(e:5<=σ.A.length):cC (iQ t σ):=by
 unfold iQ;simp only;have f:=QD (t:=t) (σ:=aj t 2 Ja σ) e [] true;have d:cC (dv t [] true (aj t 2 Ja σ)).2:=gx c ((aF ..).ar.u (ow ..));generalize dv t [] true (aj t 2 Ja σ)=a at *
 split
 .omega
 .refine DF (gx (σ:={ a.2 with K:=a.2.K++[⟨a.1.x.text,1,a.1.r,a.1.x.y⟩] }) ?_ (aF ..).ar) _;intro h b g;simp only[Yn,Yc]at b;rcases b with b|rfl
  .exact d h b g
  .exact f
def Wm(a:cC σ)(c:5<=σ.A.length):cC (cJ t σ):=by
 have b:cC { aV σ.aA 24 σ with aA:=(aV σ.aA 24 σ).aA+1 }:=JE (gx a (dR σ.aA 24 σ).ar) _;have d:5<=({ aV σ.aA 24 σ with aA:=(aV σ.aA 24 σ).aA+1 }:ai).A.length:=by
  show 5<=(aV σ.aA 24 σ).A.length;rw[(dR σ.aA 24 σ).A];omega
 unfold cJ;split
 .exact Wl a
 .split
  .exact Wq a
  .split
   .exact gx a (yE σ).ar
   grind [Ww,Wn,Wt,Wx]
end
section
variable {t : Zb} {a σ' b : ai}
structure Rn(a:ai):Prop where
 g6:5<=a.A.length
 cH:∀r∈a.A,r.aR.length<=1000/\r.bz.length<=1000
def Rn.ar(c:Rn a)(e:dl a σ'):Rn σ':=by
 obtain⟨h,d,g⟩:=e.A;refine⟨by grind [g6],?_⟩;intro f b;rw[d]at b;rcases Yn.1 b with b|b
 .exact c.cH f b
 simp_all
def Rn.of(b:Rn a)(c:σ'.A=a.A):Rn σ':=⟨by rw[c];exact b.g6,by rw[c];exact b.cH⟩
def yx(c:Rn a)(b:Int):Rn (bi t b a).2:=c.of (qM b a)
def Eg(e:Rn a)(b:bD)(f:b.aR.length<=1000/\b.bz.length<=1000):Rn (dj b a):=by
 refine⟨by show 5<=(a.A++[b]).length;grind [Rn.g6],?_⟩;intro d c;rcases Yn.1 (show d∈a.A++[b]from c)with c|c
 .exact e.cH d c
 simp_all
theorem aaN(b:Rn a)(d:Zb)(c:Int):Rn (eK d c a):=by
 unfold eK iO;split<;>exact⟨b.g6,b.cH⟩
def Eh(b:Rn a)(d:Zb)(c:Int):Rn (eH d c a):=by
 unfold eH iO;split
 .exact⟨b.g6,b.cH⟩
 omega
theorem Bb(b:Rn a)(c:Zb):Rn (fP c a):=⟨b.g6,b.cH⟩
theorem aaJ(b:Rn a):Rn (ih t a):=by
 unfold ih;simp only;have c:Rn (bi t 2 (aj t 2 Je (aV a.aN 40 a))).2:=yx (b.ar ((dR ..).u (aF ..)).ar) 2;generalize bi t 2 (aj t 2 Je (aV a.aN 40 a))=d at *
 have e:Rn (aj t 4 [59] (bV t (-2147483648) 4294967295 (aj t 4 [61] d.2)).2):=c.ar ((aF ..).u ((io ..).u (aF ..))).ar;grind [Bb,aaN]
def aaR(c:Rn a):Rn (iQ t a):=by
 unfold iQ;simp only;have b:Rn (dv t [] true (aj t 2 Ja a)).2:=c.ar ((aF ..).ar.u (ow ..));generalize dv t [] true (aj t 2 Ja a)=d at *
 split
 .omega
 .exact⟨b.g6,b.cH⟩
theorem aaO(d:Rn a):Rn (iD t a):=by
 unfold iD;simp only;have e:Rn (bi t 2 (aj t 2 Jc (aV a.am.length 4 a))).2:=yx (d.ar ((dR ..).u (aF ..)).ar) 2;generalize bi t 2 (aj t 2 Jc (aV a.am.length 4 a))=c at *
 generalize g:fw t 6 [] [] [] (Jj++c.1.text++Jd) (aj t 4 Jv c.2)=v;have f:Rn v.2:=by rw[<-g];exact e.ar ((aF ..).ar.u (xJ ..))
 have b:Rn (cM t (aj t 4 Jl v.2).am (aj t 4 Jl v.2)).2:=f.ar ((aF (t:=t) 4 Jl v.2).ar.u (qt (t:=t) (aj t 4 Jl v.2).am _));exact⟨b.g6,b.cH⟩
def acT:∀(b:Nat) (c:List Int) (d:Zc) (e:Zb) (a:ai),(eM t b c d e a).1.length<=c.length+b:=by
 intro b;induction b with
 |zero=>intro c d e a;exact Y4 _
 |succ b f=>
  grind [eM,List.length_singleton]
def aaQ:∀(c:Nat) (e:List Int) (d:Zc) (f:Zb) (a:ai),Rn a->Rn (eM t c e d f a).2.2:=by
 intro c;induction c with
 |zero=>intro e d f a b;exact b
 |succ c h=>
  intro e d f a b;unfold eM;split
  .exact b
  .simp only;have g:Rn (aj t 4 [59] (dv t d false (aV e.length 12 a)).2):=b.ar ((dR ..).ar.u ((ow ..).u (aF ..).ar));grind
def aaP(c:Rn a):Rn (jl t a):=by
 unfold jl;simp only;have d:Rn (bi t 2 (aj t 2 Jf a)).2:=yx (c.ar (aF ..).ar) 2;generalize bi t 2 (aj t 2 Jf a)=b at *
 have g:=acT (t:=t) 14 [] [] (Jp++b.1.text++Jd) (aj t 4 Jv b.2);have e:=aaQ (t:=t) 14 [] [] (Jp++b.1.text++Jd) (aj t 4 Jv b.2) (d.ar (aF ..).ar);generalize eM t 14 [] [] (Jp++b.1.text++Jd) (aj t 4 Jv b.2)=f at *
 refine Bb (Eh (Eg (e.ar ((aF ..).u (aF ..)).ar) _ ⟨Zq,?_⟩) ..) _;grind
end
section
variable {c:Nat}{d:Zo}{a:Zw}{b:Type}
def Mm(g:Bool){f}(m:lr f){e:aW}(n:∀C∈tI g e.O,f.ok C)(x:fB d c (.typedef e))(t:∀{h:b} {p:Zw},f.J h p->∀o∈d,p.heap[o.1]? = some o.2){h}(i:f.J h a) :
  Calls prog (bif g then 336 else 337) #[Zp c,f.v] a (iT f a (cf f (tI g e.O) h)):=by
 obtain⟨L,M,B,_⟩:=fq (t i _ x);obtain⟨E,N,j⟩:=hX e.O;have I:=uL e.O j;have H:=uI e.O;have K:=Ai e.O j;have G:=Ah e.O;rw[j]at B;cases g
 case' false=>have l:=aa (yh m e.O n i)
 case' true=>have l:=aa (Do m e.O n i)
 all_goals
  dsimp only[cond]
  go_in
  go_wp21
  refine l.w.mono ?_
  rintro F O (⟨D,k,rfl,y,A⟩|⟨s,k,z,r,u,rfl,w⟩)
  rotate_left
  .exact aE (Ya ⟨s,k,z,r,u,rfl,w⟩)
  have q:=aa k
  go_wp2
  go_end0
  exact Y8 ⟨D,q.w,rfl,y,A⟩
def Mr(o:Bool){g}(H:lr g){D}{n:Zb}{d2}{e:hG}(a0:∀n∈e.flatMap λs=>tI o s.2.O,g.ok n)(b7:fB d c (.union n D d2 e))(R:∀{i:b} {m:Zw},g.J i m->∀a1∈d,m.heap[a1.1]? = some a1.2){i}(F:g.J i a) :
  Calls prog (bif o then 347 else 348) #[Zp c,g.v] a (iT g a (cf g (e.flatMap λs=>tI o s.2.O) i)):=by
 generalize hF:(λs:List Int×aW=>tI o s.2.O)=j at a0 ⊢;have N:=aa a0;obtain⟨f0,u,b4,d5,c7,b8⟩:=b7;obtain⟨_,e6,_⟩:=uk (R F _ b4);rcases c7 with⟨rfl,b3,_⟩|⟨t,b0,b1,rfl,⟨d4,e3⟩,c0,z⟩
 .have c5:e=[]:=Yv.1 b3;subst c5;have B:=aa F;cases o
  all_goals
   dsimp only[cond]
   go_in
   go_wp2
   go_loopw [11] (λh A=>h=U 0/\A=a) (λ_ _=>0)
   case atStart=>exact⟨rfl,rfl⟩
   case round=>
    obtain⟨rfl,rfl⟩:=hrel;go_wp2;go_end0;exact Y8 ⟨i,rfl,rfl,B.w,ao _ _⟩
 .have c6:∀(m:Zw) (l:b),g.J l m->∀h (S:h<e.length),∃p r q,m.cell? ⟨t,h*4,none⟩=some (.slice p r q)/\m.cell? ⟨t,h*4+1,none⟩=some (.string ⟨e[h].2.t.toArray⟩)/\m.cell? ⟨t,h*4+2,none⟩=some (U e[h].2.y)/\m.cell? ⟨t,h*4+3,none⟩=some (cW e[h].2.O):=by
   intro m l c8 h S;have x:=R c8 _ c0;have c1:h<u.length:=Zm;have w:=rP (c:=rB) (n:=4) (λ_=>rfl) (e.zip u) h;have k:h<(e.zip u).length:=Zu;obtain⟨p,r,q,d6⟩:∃D c P,u[h]=Value.slice D c P:=by rcases b8 h S c1 with⟨E,_⟩|⟨t,b0,b1,E,_⟩<;>exact⟨_,_,_,E⟩
   refine⟨p,r,q,dt x z ?_,dt x z ?_,dt x z ?_,dt x z ?_⟩
   .have:=w 0 k Zm;grind
   .have:=w 1 k Zm;grind
   .have:=w 2 k Zm;simpa using this
   .have:=w 3 k Zm;simpa using this
  have a6:=aa c6;have B:=aa F;cases o
  all_goals
   dsimp only[cond]
   go_in
   go_wp2
   go_loopw [11] (λh A=>∃(f:Nat) (l:b),h=U f/\f<=e.length/\af (g.J l A)/\an g.M a A/\af (cf g (e.flatMap j) i=cf g ((e.drop f).flatMap j) l)) (λh _=>e.length-(intOf h).toNat)
   case atStart=>exact⟨0,i,rfl,Zm,B,ao _ _,rfl⟩
   case round=>
    obtain⟨f,l,rfl,e2,C,k,K⟩:=hrel;rcases Yj f e.length with y|d9
    .obtain⟨p,r,q,e7,e8,e9,d1⟩:=a6.w _ _ C.w f y;obtain⟨a8,d3,G⟩:=hX e[f].2.O;have e4:=uL e[f].2.O G;have e5:=Ai e[f].2.O G;have d8:=uI e[f].2.O;have d7:=Ah e[f].2.O;rw[G]at d1;have e0:(0:Int)<=↑f:=Zm;have e1:(↑f:Int) < ↑e.length:=Zm;have L:af (cf g (e.flatMap j) i=cf g (j e[f]++(e.drop (f+1)).flatMap j) l):=by
      refine K.w.trans ?_;rw[Yk y,YD]
     have O:=aa (H.c7 C.w ((Below.refl _ _).alloc (Y4 _) (.cells #[.slice p r q,.string ⟨e[f].2.t.toArray⟩,U e[f].2.y,.iface a8 d3] 363)))
     go_wp21;first|refine(yh H e[f].2.O (λn I=>N.w n (by rw[<-hF];exact List.mem_flatMap.2 ⟨e[f],Yy y,I⟩)) O.w).mono ?_|refine(Do H e[f].2.O (λn I=>N.w n (by rw[<-hF];exact List.mem_flatMap.2 ⟨e[f],Yy y,I⟩)) O.w).mono ?_
     rintro E a3 (⟨a2,J,rfl,c2,c9⟩|⟨b2,J,c3,a9,b5,rfl,b6⟩);rotate_left
     .exact(show bodyPost prog Tryz.f348 (iT g a (cf g (e.flatMap j) i)) (Exit.panic _) _ a3 from aE (Ya ⟨b2,L.w.trans (yL (by rw[<-hF];exact J)),(k.H _).u c3,a9,by have:=k.aD;simp at b5;omega,rfl,b6⟩))
     have a7:=aa c2;have a4:af (cf g (e.flatMap j) i=cf g ((e.drop (f+1)).flatMap j) a2):=L.w.trans (yM (by rw[<-hF];exact J));have d0:an g.M a a3:=(k.H _).u c9;go_wp2;exact⟨⟨f+1,a2,Zj,Zm,a7,d0,a4⟩,Zz⟩
    .have c4:f=e.length:=Zm;subst c4;have b9:cf g (e.flatMap j) i=.ok l:=by
      refine K.w.trans ?_;rw[List.drop_length];rfl
     have a5:=aa b9;go_wp2;go_end0;exact Y8 ⟨l,a5.w,rfl,C.w,k⟩
end
def py(a:gg):List (Zb×Nat):=eV a.cu++eV a.cP
def gO(v:fH):List (Zb×Nat):=v.aq.flatMap py
def YZ{q:Type}{e}(r:lr e){b0 a9 d4}{n:Zb}{a:List fH}{g2}(f4:∀n∈a.flatMap gO,e.ok n)(e2:fB b0 a9 (.prog n d4 a g2))(J:∀{g:q} {h:Zw},e.J g h->∀b8∈b0,h.heap[b8.1]? = some b8.2){g m}(I:e.J g m) :
  Calls prog 352 #[Zp a9,e.v] m (iT e m (cf e (a.flatMap gO) g)):=by
 have a6:=aa f4;obtain⟨j4,u,d8,e1,f9,e3⟩:=e2;obtain⟨_,_,i6,_⟩:=nB (J I _ d8);rcases f9 with⟨rfl,d6,_⟩|⟨z,g8,g9,rfl,⟨h1,i2⟩,e5,B⟩
 .have b5:a=[]:=Yv.1 d6;subst b5;have D:=aa I;go_in;go_wp2;go_loopw [13] (λf t=>f=U 0/\t=m) (λ_ _=>0)
  case atStart=>simp
  case round=>
   obtain⟨rfl,rfl⟩:=hrel;go_wp2;go_end0;exact Y8 ⟨g,rfl,rfl,D.w,ao ..⟩
 .have f6:∀(h:Zw) (i:q),e.J i h->∀f (e7:f<a.length) (e8:f<u.length),h.cell? ⟨z,f*4,none⟩=some (.string ⟨a[f].t.toArray⟩)/\h.cell? ⟨z,f*4+1,none⟩=some (U a[f].y)/\h.cell? ⟨z,f*4+2,none⟩=some u[f]/\h.cell? ⟨z,f*4+3,none⟩=some (U a[f].num):=by
   intro h i O f e7 e8;have k:=J O _ e5;have j:=rP (c:=tK) (n:=4) (λ_=>rfl) (a.zip u) f;have l:f<(a.zip u).length:=Zg;refine⟨dt k B ?_,dt k B ?_,dt k B ?_,dt k B ?_⟩
   .exact(j 0 l Zm).trans Zq
   .exact(j 1 l Zm).trans Zq
   .exact(j 2 l Zm).trans Zq
   .exact(j 3 l Zm).trans Zq
  have d1:=aa f6;have c7:=aa e3;have c6:=aa e1;have D:=aa I;go_in;go_wp2;go_loopw [13] (λf t=>∃(b:Nat) (i:q),f=U b/\b<=a.length/\af (e.J i t)/\an e.M m t/\af (cf e (a.flatMap gO) g=cf e ((a.drop b).flatMap gO) i)) (λf _=>a.length-(intOf f).toNat)
  case atStart=>exact⟨0,g,rfl,Zm,D,ao ..,rfl⟩
  case round=>
   obtain⟨b,i,rfl,i1,y,l,a2⟩:=hrel;rcases Yj b a.length with w|h5
   .have b4:b<u.length:=by have:=c6.w;omega
    obtain⟨j0,j1,b9,j2⟩:=d1.w _ _ y.w b w b4;have h7:(0:Int)<=↑b:=Zm;have h8:(↑b:Int) < ↑a.length:=Zm;have c5:af (cf e (a.flatMap gO) g=cf e ((a[b].aq.drop 0).flatMap py++(a.drop (b+1)).flatMap gO) i):=by
     refine a2.w.trans ?_;rw[Yk w,YD,List.drop_zero];rfl
    have f8:=c7.w b w b4;rcases f8 with⟨G,d7,_⟩|⟨o,b1,h0,G,⟨h2,i3⟩,e6,x⟩
    .rw[G]at b9;have b5:a[b].aq=[]:=Yv.1 d7;have E:=aa (r.c7 y.w ((Below.refl ..).alloc (Y4 _) (.cells #[.string ⟨a[b].t.toArray⟩,U a[b].y,.slice none 0 0,U a[b].num] 367)));have S:=l.H (.cells #[.string ⟨a[b].t.toArray⟩,U a[b].y,.slice none 0 0,U a[b].num] 367);have C:af (cf e (a.flatMap gO) g=cf e ((a.drop (b+1)).flatMap gO) i):=by
      grind
     go_wp2;go_loopw [20] (λf t=>f=U 0/\t=wr.alloc (.cells #[.string ⟨a[b].t.toArray⟩,U a[b].y,.slice none 0 0,U a[b].num] 367)) (λ_ _=>0)
     case atStart=>simp
     case round=>
      obtain⟨rfl,rfl⟩:=hrel;go_wp2;exact⟨⟨b+1,i,Zr,Zm,E,S,C⟩,Zz⟩
    .rw[G]at b9;have f7:∀(h:Zw) (i:q),e.J i h->∀d (p:d<a[b].aq.length),h.cell? ⟨o,d*5,none⟩=some (.string ⟨a[b].aq[d].t.toArray⟩)/\h.cell? ⟨o,d*5+1,none⟩=some (U a[b].aq[d].y)/\h.cell? ⟨o,d*5+2,none⟩=some (cW a[b].aq[d].cu)/\h.cell? ⟨o,d*5+3,none⟩=some (cW a[b].aq[d].cP)/\h.cell? ⟨o,d*5+4,none⟩=some (U a[b].aq[d].num):=by
      intro h i O d p;have k:=J O _ e6;have j:=rP (c:=qF) (n:=5) (λ_=>rfl) a[b].aq d;exact⟨dt k x ((j 0 p Zm).trans Zq),dt k x ((j 1 p Zm).trans Zq),dt k x ((j 2 p Zm).trans Zq),dt k x ((j 3 p Zm).trans Zq),dt k x ((j 4 p Zm).trans Zq)⟩
     have d2:=aa f7;have E:=aa (r.c7 y.w ((Below.refl ..).alloc (Y4 _) (.cells #[.string ⟨a[b].t.toArray⟩,U a[b].y,.slice (some ⟨o,0,none⟩) a[b].aq.length b1,U a[b].num] 367)));have S:=l.H (.cells #[.string ⟨a[b].t.toArray⟩,U a[b].y,.slice (some ⟨o,0,none⟩) a[b].aq.length b1,U a[b].num] 367);go_wp2;go_loopw [20] (λf c1=>∃(d:Nat) (s:q),f=U d/\d<=a[b].aq.length/\af (e.J s c1)/\an e.M m c1/\af (cf e (a.flatMap gO) g=cf e ((a[b].aq.drop d).flatMap py++(a.drop (b+1)).flatMap gO) s)) (λf _=>a[b].aq.length-(intOf f).toNat)
     case atStart=>exact⟨0,i,rfl,Zm,E,S,c5⟩
     case round=>
      obtain⟨d,s,rfl,p,Jj,b7,a5⟩:=hrel;rcases Yj d a[b].aq.length with A|h6
      .obtain⟨i7,i8,g3,g4,i9⟩:=d2.w _ _ Jj.w d A;obtain⟨a7,c2,b2⟩:=hX a[b].aq[d].cu;obtain⟨a8,c3,b3⟩:=hX a[b].aq[d].cP;have i4:=uL a[b].aq[d].cu b2;have h3:=uI a[b].aq[d].cu;have i5:=uL a[b].aq[d].cP b3;have h4:=uI a[b].aq[d].cP;rw[b2]at g3;rw[b3]at g4;have h9:(0:Int)<=↑d:=Zm;have i0:(↑d:Int) < ↑a[b].aq.length:=Zm;have a4:af (cf e (a.flatMap gO) g=cf e (eV a[b].aq[d].cu++(eV a[b].aq[d].cP++((a[b].aq.drop (d+1)).flatMap py++(a.drop (b+1)).flatMap gO))) s):=by
        refine a5.w.trans ?_;rw[Yk A,YD];simp only[py,YN]
       have c9:=aa (yh r a[b].aq[d].cu (λn N=>a6.w n (List.mem_flatMap.2 ⟨a[b],Yy w,List.mem_flatMap.2 ⟨a[b].aq[d],Yy A,Yf _ N⟩⟩)) (r.c7 Jj.w ((Below.refl ..).alloc (Y4 _) (.cells #[.string ⟨a[b].aq[d].t.toArray⟩,U a[b].aq[d].y,.iface a7 c2,.iface a8 c3,U a[b].aq[d].num] 446))))
       have f5:=r.a3 Jj.w;have a1:=b7.H (.cells #[.string ⟨a[b].aq[d].t.toArray⟩,U a[b].aq[d].y,.iface a7 c2,.iface a8 c3,U a[b].aq[d].num] 446)
       go_wp21;refine c9.w.mono ?_;rintro d5 g6 (⟨g5,P,rfl,e9,b6⟩|⟨H,P,L,F,e0,rfl,K⟩);rotate_left
       .exact(show bodyPost prog Tryz.f352 (iT e m (cf e (a.flatMap gO) g)) (Exit.panic _) _ g6 from aE (Ya ⟨H,a4.w.trans (yL P),a1.u L,F,by have:=a1.aD;omega,rfl,K⟩))
       have d9:=(b6.L _ Zq (λf3=>by have:=f5 _ f3;omega)).trans (aQ rfl);obtain⟨_,_,_,j3,_,_⟩:=zB d9;have a3:af (cf e (a.flatMap gO) g=cf e (eV a[b].aq[d].cP++((a[b].aq.drop (d+1)).flatMap py++(a.drop (b+1)).flatMap gO)) g5):=a4.w.trans (yM P);have d0:=aa (yh r a[b].aq[d].cP (λn N=>a6.w n (List.mem_flatMap.2 ⟨a[b],Yy w,List.mem_flatMap.2 ⟨a[b].aq[d],Yy A,Ym _ N⟩⟩)) e9);have a0:=a1.u b6;go_wp21;refine d0.w.mono ?_;rintro d5 g7 (⟨c0,R,rfl,f0,g0⟩|⟨H,R,L,F,e0,rfl,K⟩);rotate_left
       .exact(show bodyPost prog Tryz.f352 (iT e m (cf e (a.flatMap gO) g)) (Exit.panic _) _ g7 from aE (Ya ⟨H,a3.w.trans (yL R),a0.u L,F,by have:=a0.aD;omega,rfl,K⟩))
       have d3:=aa f0;have c4:af (cf e (a.flatMap gO) g=cf e ((a[b].aq.drop (d+1)).flatMap py++(a.drop (b+1)).flatMap gO) c0):=a3.w.trans (yM R);have g1:=a0.u g0;go_wp2;exact⟨⟨d+1,c0,Zr,Zm,d3,g1,c4⟩,Zz⟩
      .have f1:d=a[b].aq.length:=Zm;subst f1;have C:af (cf e (a.flatMap gO) g=cf e ((a.drop (b+1)).flatMap gO) s):=by
        refine a5.w.trans ?_;simp
       go_wp2;exact⟨⟨b+1,s,Zr,Zm,Jj,b7,C⟩,Zz⟩
   .have f2:b=a.length:=Zm;subst f2;have e4:cf e (a.flatMap gO) g=.ok i:=by
     refine a2.w.trans ?_;rw[List.drop_length];rfl
    have c8:=aa e4;go_wp2;go_end0;exact Y8 ⟨i,c8.w,rfl,y.w,l⟩
section
variable {P:Program}{b d j o e h t:Nat}{f:List (Nat × Obj)}{i:Array Zv}{a:aC}{c:Zw}{g:Type}
def Gw{f a g}(j:c.heap[b]? = some (.cells i a g))(l:P.cellsOf a=e)(h:e≠0)(k:byteOfCell P P.depth a (o % e)=some f) :
  (byteOf ⟨b,o,none⟩).run P c=.ok (o / e*P.bytesOf a+f) c:=by
 have d:c.shape? b=some (a,i.size):=by simp[World.shape?,j]
 have m:(viewAt b).run P c=.ok none c:=by simp[viewAt,d]
 unfold byteOf;simp[noView,shape,Sem.run,m,d,l,h,k]
def Vp{y:Nat}{k v:Nat}{name:String}{N O f w}(n:c.heap[b]? = some (.cells i f w)){q}(E:P.info? t=some q){a:Method}(G:q.methods.find? (λa=>a.name==name)=some a)(I:a.path=#[⟨h,j,true⟩])(C:a.func=some (d,false))
  {l} (K:P.underlying h=some (.struct l)) {g} (D:l[j]? = some g) (J:g.type=k) (H:g.offset=o) (z:g.byteOffset=v) {x} (L:P.underlying k=some (.struct x)) {r} (F:P.info? k=some r) (M:r.size=0)
  (p:P.cellsOf f=e) (m:e≠0) (A:byteOfCell P P.depth f (0 % e)=some N) (B:byteOfCell P P.depth f (o % e)=some O) :
  (method (y+1) t (Zp b) name).run P c=.ok (d,.agg #[]) c:=by
 have s:=Gw (P:=P) (o:=0) n p m A;have u:=Gw (P:=P) (o:=o) n p m B;unfold method;simp only[Sem.run_bind,run_typeInfo _ E,Result.andThen_ok,G,I,C,follow,run_underlying K,D,Place.get,asAddr,fieldPlace,partAt,sizeOf,J,run_typeInfo _ F,Sem.run_pure,if_true,M,H,z,s,u,Nat.zero_add,receiverAt,run_underlying L,loadVar,isAgg]
 rfl
def Sl{e:Nat}(f:((P.underlying h).bind λa=>match a with|.struct c=>c[j]?|_=>none).map (λd=>(d.type,d.offset,d.byteOffset))=some (t,o,e)) :
  ∃c b,P.underlying h=some (.struct c)/\c[j]? = some b/\b.type=t/\b.offset=o/\b.byteOffset=e:=by
 cases g:P.underlying h<;>grind
def OV:∃a,prog.underlying 250=some (.struct a):=by
 simp
def gR:aC->List (Zb×Nat)
 |.const ..=>[]
 |.typedef a=>eV a.O
 |.enum ..=>[]
 |.struct _ _ c=>c.flatMap λa=>eV a.O
 |.union _ _ _ b=>b.flatMap λa=>eV a.2.O
 |.prog _ _ d _=>d.flatMap gO
def fZ:aC->List (Zb×Nat)
 |.const ..=>[]
 |.typedef a=>gy a.O
 |.enum ..=>[]
 |.struct _ _ c=>c.flatMap λa=>gy a.O
 |.union _ _ _ b=>b.flatMap λa=>gy a.2.O
 |.prog ..=>[]
def zP:aC->Nat
 |.typedef ..=>337
 |.struct ..=>345
 |.union ..=>348
 |.prog ..=>352
 |_=>332
def QF(a:aC)(args:Array Zv)(c:Zw):(callFunc (zP a) args).run prog c=.ok (.enter (zP a) args) c:=by cases a<;>kernel_rfl
def zO:aC->Nat
 |.typedef ..=>336
 |.struct ..=>344
 |.union ..=>347
 |.prog ..=>351
 |_=>331
def GQ(a:aC)(args:Array Zv)(c:Zw):(callFunc (zO a) args).run prog c=.ok (.enter (zO a) args) c:=by cases a<;>kernel_rfl
def zQ(b:Nat):aC->Zv
 |.const ..=>.agg #[]
 |.enum ..=>.agg #[]
 |_=>.pointer (some ⟨b,0,none⟩)
def zu{g e:Nat}{name:String}(r:c.heap[b]? = some (.cells i e))(v:Nat)
  (l:((prog.info? g).bind λj=>j.methods.find? (λf=>f.name==name)).map (λf=>(f.path,f.func))=some (#[⟨e,1,true⟩],some (d,false)):=by kernel_rfl)
  (m:((prog.underlying e).bind λa=>match a with|.struct h=>h[1]?|_=>none).map (λd=>(d.type,d.offset,d.byteOffset))=some (250,2,24):=by kernel_rfl)
  (o:prog.cellsOf e=3:=by kernel_rfl) (p:byteOfCell prog prog.depth e (0 % 3)=some 0:=by kernel_rfl) (q:byteOfCell prog prog.depth e (2 % 3)=some 24:=by kernel_rfl):(method (v+1) g (Zp b) name).run prog c=.ok (d,.agg #[]) c:=by
 obtain⟨j,f,w,x,y,z⟩:=Em l;obtain⟨h,F,A,B,C,D,E⟩:=Sl m;obtain⟨G,k⟩:=OV;obtain⟨H,s,u⟩:=Bm (P:=prog) (t:=250) (n:=0) Zk;exact Vp r w x y z A B C D E k s u o Zm p q
def QH     (h : fB f b a) (i : ∀ j ∈ f, c.heap[j.1]? = some j.2) (g : Nat) : (method (g + 1) (dI a) (.pointer (some ⟨b, 0, none⟩)) "Names").run Tryz.prog c = .ok (zP a, zQ b a) c := by
 cases a with
 |const t d v=>exact zu (i _ h) g
 |enum t d l=>
  obtain⟨p,o,k,_⟩:=h;exact zu (i _ k) g
 |typedef a=>kernel_rfl
 |struct t d l=>kernel_rfl
 |union t d e m=>kernel_rfl
 |prog t d q n=>kernel_rfl
def GS     (h : fB f b a) (i : ∀ j ∈ f, c.heap[j.1]? = some j.2) (g : Nat) : (method (g + 1) (dI a) (.pointer (some ⟨b, 0, none⟩)) "Leads").run Tryz.prog c = .ok (zO a, zQ b a) c := by
 cases a with
 |const t d v=>exact zu (i _ h) g
 |enum t d l=>
  obtain⟨p,o,k,_⟩:=h;exact zu (i _ k) g
 |typedef a=>kernel_rfl
 |struct t d l=>kernel_rfl
 |union t d e m=>kernel_rfl
 |prog t d q n=>kernel_rfl
def Yx{a:my g}{t}(b:Nat)(d:a.J t c):Calls prog 351 #[Zp b,a.v] c (iT a c (.ok t)):=by
 go_in;go_wp2;go_end0;exact Y8 ⟨t,rfl,rfl,d,ao ..⟩
def QG{d}(i:lr d){f}(m:∀n∈gR a,d.ok n)(l:fB f b a)(k:∀{t:g} {p:Zw},d.J t p->∀o∈f,p.heap[o.1]? = some o.2){t}(h:d.J t c) :
  Calls prog (zP a) #[zQ b a,d.v] c (iT d c (cf d (gR a) t)):=by
 cases a with
 |const t j v=>exact vP i h
 |enum t j q=>exact vP i h
 |typedef a=>exact Mm false i m l k h
 |struct t j q=>exact LS false i m l k h
 |union t j e r=>exact Mr false i m l k h
 |prog t j s n=>exact YZ i m l k h
def GR{d}(i:lr d){f}(m:∀n∈fZ a,d.ok n)(l:fB f b a)(k:∀{t:g} {p:Zw},d.J t p->∀o∈f,p.heap[o.1]? = some o.2){t}(h:d.J t c) :
  Calls prog (zO a) #[zQ b a,d.v] c (iT d c (cf d (fZ a) t)):=by
 cases a with
 |const t j v=>exact vO i h
 |enum t j q=>exact vO i h
 |typedef a=>exact Mm true i m l k h
 |struct t j q=>exact LS true i m l k h
 |union t j e r=>exact Mr true i m l k h
 |prog t j s n=>exact Yx b h
end
def ei:aC->Bool
 |.typedef ..=>true
 |.enum ..=>true
 |.struct ..=>true
 |.union ..=>true
 |_=>false
def uA:Option aC->Bool
 |some a=>ei a
 |none=>false
def Ua{l v i}(g:mn l v i)(k:Zw):Calls prog 126 #[v] k λm o=>m=.returned (.bool (uA i))/\o=k:=by
 cases i with
 |none=>
  have g:v=.nilIface:=g;subst g;have b:=Bu 157 225;have c:=Bu 157 227;have d:=Bu 157 229;have e:=Bu 157 231;go_in;go_wp2;go_ret;exact⟨rfl,rfl⟩
 |some j=>
  obtain⟨a,rfl,_⟩:=g;cases j with
  |const h f v=>
   dsimp only[dI];have b:=hE 223 a 157 225;have c:=hE 223 a 157 227;have d:=hE 223 a 157 229;have e:=hE 223 a 157 231;go_in;go_wp2;go_ret;exact⟨rfl,rfl⟩
  |typedef j=>
   dsimp only[dI];have b:=qU 225 a 157 225;have c:=hE 225 a 157 227;have d:=hE 225 a 157 229;have e:=hE 225 a 157 231;go_in;go_wp2;go_ret;exact⟨rfl,rfl⟩
  |enum h f n=>
   dsimp only[dI];have b:=hE 227 a 157 225;have c:=qU 227 a 157 227;have d:=hE 227 a 157 229;have e:=hE 227 a 157 231;go_in;go_wp2;go_ret;exact⟨rfl,rfl⟩
  |struct h f n=>
   dsimp only[dI];have b:=hE 229 a 157 225;have c:=hE 229 a 157 227;have d:=qU 229 a 157 229;have e:=hE 229 a 157 231;go_in;go_wp2;go_ret;exact⟨rfl,rfl⟩
  |union h f r p=>
   dsimp only[dI];have b:=hE 231 a 157 225;have c:=hE 231 a 157 227;have d:=hE 231 a 157 229;have e:=qU 231 a 157 231;go_in;go_wp2;go_ret;exact⟨rfl,rfl⟩
  |prog h f s q=>
   dsimp only[dI];have b:=hE 233 a 157 225;have c:=hE 233 a 157 227;have d:=hE 233 a 157 229;have e:=hE 233 a 157 231;go_in;go_wp2;go_ret;exact⟨rfl,rfl⟩
def po(c:St)(a:Zb×Nat):Except Mar.ay Unit:=match aO c.K a.1 with
 |some b=>if uA b then .ok ()else .error ⟨7,a.2⟩
 |none=>.error ⟨7,a.2⟩
def hO(a:Ad)(h:Za)(d:St)(e:Zo)(c:Nat):my Unit where
 f:=125
 e8:=#[]
 e7:=#[Zp c]
 bb:=λg _=>po d g
 J:=λ_ b=>Rd a h d b/\b.heap[c]? = some (.cells #[Zp a.R] 145)/\bW a.X e b
 M:=[]
 ok:=λ_=>True
def UM{c p h l e b}(a:Zb×Nat)(A:(hO c p h l e).J () b) :
  Calls prog 125 #[il a,Zp e] b (iT (hO c p h l e) b (po h a)):=by
 obtain⟨k,i,r⟩:=A;have j:=((Below.refl b.heap.size b).alloc (Y4 _) (.cells #[.string ⟨a.1.toArray⟩,U a.2] 160)).drew;have o:=k.ah j;obtain⟨E,F,G,H,I,K⟩:=k.al;have L:=k.lt.1;have C:=au i;have D:=bS i;have u:=aQ (w:=b) (o:=.cells #[.string ⟨a.1.toArray⟩,U a.2] 160) rfl;obtain⟨P,S,_⟩:=om u;have key:∃v d m,(Instr.lookup 148 (.map (some c.N)) (.string ⟨a.1.toArray⟩) false).run prog ((b.alloc (.cells #[.string ⟨a.1.toArray⟩,U a.2] 160)).drew)=.ok v ((b.alloc (.cells #[.string ⟨a.1.toArray⟩,U a.2] 160)).drew)/\mn m v d/\po h a=if uA d then .ok ()else .error ⟨7,a.2⟩:=by
  rcases AA o.nm a.1 false with⟨B,f⟩|⟨d,v,m,B,_,n,f⟩
  .simp only[Ye,if_false]at f
   exact⟨.nilIface,none,[],f,rfl,by grind [po,uA]⟩
  .simp only[Ye,if_false]at f
   grind [po]
 obtain⟨v,d,m,f,n,s⟩:=key;have x:=aa n;have q:=aa s;have y:af ((hO c p h l e).J () ((b.alloc (.cells #[.string ⟨a.1.toArray⟩,U a.2] 160)).drew)):=⟨o,(j.block _ C).trans i,r.ac (bT [] j) Zq⟩;have M:¬c.R=b.heap.size:=Zm;have O:¬e=b.heap.size:=Zm;clear k i r j o n s u;dsimp only[il];go_in;go_wp21;go_region_held2 (λg=>g.cell? (Zd e 0)=some (Zp c.R)/\g.cell? (Zd c.R 1)=some (.map (some c.N))/\g.cell? (Zd b.heap.size 0)=some (.string ⟨a.1.toArray⟩)) (go_keep)
  (first|(go_at_call 126;refine(Ua x.w _).mono ?_;rintro z g ⟨rfl,rfl⟩))
 all_goals
  cases t:uA d with
  |true=>
   go_wp2;go_end0;exact Y8 ⟨(),by rw[q.w,t];rfl,rfl,y.w,((ao _ b).H _).aU⟩
  |false=>
   go_wp2_with (go_at_call 70;refine(gZ _ _ _).mono ?_;rintro z g ⟨rfl,rfl⟩);exact aE (Ya ⟨⟨7,a.2⟩,by rw[q.w,t];rfl,(((ao _ b).H _).aU).H _,b.heap.size+1,Zm,rfl,aQ Zq⟩)
def UO(args:Array Zv)(a:Zw):(callFunc 125 args).run prog a=.ok (.enter 125 args) a:=Zk
def UN(c:Ad)(l:Za)(n:St)(d:Zo)(j:Nat):lr (hO c l n d j) where
 d1:=UO
 a3:=by intro k m _ o h;cases h
 c7:=by
  rintro k m p ⟨f,b,g⟩ a;exact⟨f.ah a,(a.block _ (au b)).trans b,g.ac (bT [] a) Zq⟩
 call:=λi _ e=>UM i e
abbrev sU(b:List aC)(c:List Nat):Zl:=(b.zip c).map λa=>Value.iface (dI a.1) (.pointer (some ⟨a.2,0,none⟩))
structure mm(bs:Zo)(sl:Zv)(ds:List aC)(ps:List Nat):Prop where
 av:ps.length=ds.length
 row:hn bs 157 sl ds.length (sU ds ps)
 da:∀i (h:i<ds.length) (h':i<ps.length),fB bs ps[i] ds[i]
def oy(b:St)(a:List aC):Except Mar.ay Unit:=cf (hO ⟨0,0,0,0,[]⟩ ⟨#[]⟩ b [] 0) (a.flatMap gR) ()
def UQ(d:Ad)(g:Za)(c:St)(e:Zo)(f:Nat):∀(a:List (Zb×Nat)) (b:Unit),cf (hO d g c e f) a b=cf (hO ⟨0,0,0,0,[]⟩ ⟨#[]⟩ c [] 0) a b:=by
 intro a;induction a<;>simp_all[cf,hO]
def US{c g d e A b p a}(L:Rd c g d a)(a2:bW c.X e a)(P:mm e A b p) :
  Calls prog 74 #[Zp c.R,A] a λl k=>(oy d b=.ok ()/\l=.returned (.tuple #[])/\an [] a k)\/(∃i,oy d b=.error i/\an [] a k/\fm a i.no i.y l k):=by
 have c7:=je;have z:=(Below.refl a.heap.size a).alloc (Y4 _) (.cells #[Zp c.R] 145);have N:=UN c g d e a.heap.size;have y:∀(j:Zw),(hO c g d e a.heap.size).J () j->∀o∈e,j.heap[o.1]? = some o.2:=λj m o b0=>(m.2.2 o b0).1;have I:af ((hO c g d e a.heap.size).J () (a.alloc (.cells #[Zp c.R] 145))):=⟨L.ah z,aQ rfl,a2.ac (bT [] z) Zq⟩;have a8:oy d b=cf (hO c g d e a.heap.size) (b.flatMap gR) ():=(UQ ..).symm;rw[a8];have H:=aa N;have x:=aa y;obtain⟨b1,b2,S⟩:=P;have w:=aa S;have F:=aa b1;rcases b2 with⟨rfl,M,_⟩|⟨K,b8,b9,rfl,⟨c1,c8⟩,a1,b4⟩
 .have a9:b=[]:=Yv.1 M;subst a9;go_in;go_wp2;go_loopw [8] (λh q=>h=U 0/\q=a.alloc (.cells #[Zp c.R] 145)) (λ_ _=>0)
  case atStart=>simp
  case round=>
   obtain⟨rfl,rfl⟩:=hrel;go_wp2;go_end0;exact Y8 ⟨rfl,rfl,(ao _ a).H _⟩
 .have b3:∀(j:Zw),(hO c g d e a.heap.size).J () j->∀h (a3:h<b.length) (a4:h<p.length),j.cell? (Zd K h)=some (.iface (dI b[h]) (.pointer (some ⟨p[h],0,none⟩))):=by
   intro j m h a3 a4;refine dt (y _ m _ a1) b4 ?_;grind
  have G:=aa b3;go_in;go_wp2;go_loopw [8] (λh q=>∃(f:Nat),h=U f/\f<=b.length/\af ((hO c g d e a.heap.size).J () q)/\an [] a q/\af (cf (hO c g d e a.heap.size) (b.flatMap gR) ()=cf (hO c g d e a.heap.size) ((b.drop f).flatMap gR) ())) (λh _=>b.length-(intOf h).toNat)
  case atStart=>exact⟨0,rfl,Zm,I,(ao _ a).H _,rfl⟩
  case round=>
   obtain⟨f,rfl,c6,r,n,C⟩:=hrel;rcases Yj f b.length with s|c3
   .have t:f<p.length:=by have:=F.w;omega
    have d1:=G.w _ r.w f s t;have c9:=QH (w.w f s t) (x.w _ r.w);have c2:=QF b[f];have c4:(0:Int)<=↑f:=Zm;have c5:(↑f:Int) < ↑b.length:=Zm;have v:af (cf (hO c g d e a.heap.size) (b.flatMap gR) ()=cf (hO c g d e a.heap.size) (gR b[f]++(b.drop (f+1)).flatMap gR) ()):=by
     grind [List.drop_eq_getElem_cons]
    have E:=aa (QG H.w (λ_ _=>trivial) (w.w f s t) (λm=>x.w _ m) r.w);go_wp21;refine E.w.mono ?_;rintro l B (⟨d2,u,rfl,a5,b5⟩|⟨i,u,a6,J,c0,rfl,O⟩);rotate_left
    .exact(show bodyPost prog Tryz.f74 (λl k=>(cf (hO c g d e a.heap.size) (b.flatMap gR) ()=.ok ()/\l=.returned (.tuple #[])/\an [] a k)\/(∃i,cf (hO c g d e a.heap.size) (b.flatMap gR) ()=.error i/\an [] a k/\fm a i.no i.y l k)) (Exit.panic _) _ B from aE (Ya ⟨i,v.w.trans (yL u),n.u a6,J,by have:=n.aD;omega,rfl,O⟩))
    have b7:=aa a5;have b6:af (cf (hO c g d e a.heap.size) (b.flatMap gR) ()=cf (hO c g d e a.heap.size) ((b.drop (f+1)).flatMap gR) ()):=v.w.trans (yM u);have d0:an [] a B:=n.u b5;go_wp2;grind [intOf]
   .have a7:f=b.length:=Zm;subst a7;have a0:cf (hO c g d e a.heap.size) (b.flatMap gR) ()=.ok ():=by
     refine C.w.trans ?_;rw[List.drop_length];rfl
    have D:=aa a0;go_wp2;go_end0;exact Y8 ⟨D.w,rfl,n⟩
section
variable {j:Ad}{m:Nat}{X:List Nat}{h:Zo}{g:List (Zb×Option aC)}{c:Zb}{n:Option aC}{b:Zc}{i u' l:Zw}{e:Zl}{σ:St}
def pW(X:List Nat)(m:Nat)(g:List (Zb×Option aC))(h:Zo)(e:Zl)(l:Zw):Prop:=
 (g.map (·.1)).Nodup/\bW X h l/\e.length=g.length/\l.heap[m]? = some (uJ (g.zip e |>.map λb=>(b.1.1,b.2)))/\∀a (c:a<g.length) (d:a<e.length),mn h e[a] g[a].2
def pW.ac{d a}(f:pW X m g h e l)(c:an a l d)(n:∀p∈a,p∈X)(o:m ∉ a):pW X m g h e d:=by
 obtain⟨q,i,j,b,k⟩:=f;exact⟨q,i.ac c n,j,(c.L _ (au b) o).trans b,k⟩
def WG(o:pW X m g h e l)(f:Zb)(r:aO g f=some n) :
  ∃v,mn h v n/\(Instr.lookup 148 (.map (some m)) (Zs f) false).run prog l=.ok v l:=by
 obtain⟨F,w,x,p,y⟩:=o;have q:IsKey .string (Zs f):=trivial;have z:=wj (g.zip e |>.map λa=>(a.1.1,a.2));have t:(zeroValue 157).run prog l=.ok .nilIface l:=Zk;rcases xX (P:=prog) (T:=148) (kt:=9) (et:=157) (d:=.string) Zk Zk q p Zm t false with⟨c,k⟩|⟨i,j,c,k,u⟩
 .exfalso;obtain⟨a,s,j,_⟩:=Dv r;obtain⟨b,A,rfl⟩:=List.getElem_of_mem s;have B:b<e.length:=Zm;have E:(⟨.string ⟨g[b].1.toArray⟩,e[b],b⟩:MapEntry)∈((g.zip e |>.map λa=>(a.1.1,a.2)).mapIdx λb a=>(⟨.string ⟨a.1.toArray⟩,a.2,b⟩:MapEntry)).toArray.toList:=by
   grind
  grind
 .simp only[List.toList_toArray,List.getElem?_mapIdx]at c;have C:i<g.length:=by
   grind
  have D:i<e.length:=Zm;rw[Yd Zu]at c;grind [Ap]
def kc(σ:St)(b:Zc):Nat:=σ.K.countP λa=>!b.contains a.1
def Qr(h:c ∉ b):∀(g:List (Zb×Option aC)),g.countP (λa=>!(b++[c]).contains a.1)<=g.countP (λa=>!b.contains a.1)/\((∃a∈g,a.1=c)->g.countP (λa=>!(b++[c]).contains a.1)<g.countP (λa=>!b.contains a.1)):=by
 intro g;induction g with
 |nil=>simp
 |cons d g f=>
  obtain⟨j,k⟩:=f;by_cases i:d.1=c
  .grind
  .have e:(!(b++[c]).contains d.1)=(!b.contains d.1):=Zg;rw[List.countP_cons,List.countP_cons,e];grind
def ad5(d:c ∉ b)(e:aO σ.K c=some n):kc σ (b++[c])<kc σ b:=by
 obtain⟨g,f,a,_⟩:=Dv e;exact(Qr d σ.K).2 ⟨g,f,a⟩
def pn(σ:St)(c:Zb):List (Zb×Nat):=match aO σ.K c with
 |some (some a)=>fZ a
 |_=>[]
def follow(σ:St):Nat->Zb->Zc->Zc
 |0,_,b=>b
 |k+1,c,b=>if b.contains c then b else (pn σ c).foldl (λb a=>follow σ k a.1 b) (b++[c])
def SK{k}(a:c∈b):follow σ k c b=b:=by
 cases k<;>simp_all[follow]
def SL{k:Nat}{a}(e:c ∉ b)(f:aO σ.K c=some (some a)):follow σ (k+1) c b=(fZ a).foldl (λb d=>follow σ k d.1 b) (b++[c]):=by
 simp_all[follow,pn]
structure tT where
 qb:Nat
 rb:Nat
 fb:Nat
 q:Nat
def tT.V(a:tT):Zv:=.func (.func 205) #[] #[Zp a.qb,Zp a.rb,Zp a.fb]
structure nV(j:Ad)(text:Za)(σ:St)(h:Zo)(e:Zl)(a:tT)(k:Nat)(b:Zc)(i:Zw):Prop where
 rd:Rd j text σ i
 nw:pW j.X j.N σ.K h e i
 vq:i.heap[a.qb]? = some (.cells #[.map (some a.q)] 103)
 vr:i.heap[a.rb]? = some (.cells #[Zp j.R] 145)
 vf:i.heap[a.fb]? = some (.cells #[a.V] 237)
 a5:eC a.q b i
 bk:dK j a.q
 bc:kc σ b<=k
def nV.ca{f a d}(c:nV j f σ h e a d b i):a.qb≠a.q/\a.rb≠a.q/\a.fb≠a.q:=by
 obtain⟨_,m,_,g⟩:=c.a5;have k:=c.vq;have l:=c.vr;grind [vf,uJ]
def nV.bm{g d}{o k':Nat}{f}(a:nV j g σ h e d o b i)(c:an [d.q] i u')(n:eC d.q f u')(l:kc σ f<=k'):nV j g σ h e d k' f u':=by
 obtain⟨p,r,s⟩:=a.ca;obtain⟨_,t,_,m⟩:=id a.a5;refine⟨a.rd.j9 c a.bk m,a.nw.ac c (by simp;exact a.bk.1) (by simp;exact λk=>a.bk.2.2.2.1 k.symm),(c.L _ (au a.vq) Zu).trans a.vq,(c.L _ (au a.vr) Zu).trans a.vr,(c.L _ (au a.vf) Zu).trans a.vf,n,a.bk,l⟩
def nV.ah{g a f}(c:nV j g σ h e a f b i)(d:Below i.heap.size i u'):nV j g σ h e a f b u':=
 c.bm (bT [a.q] d) (c.a5.ac (bT [] d) Zq) c.bc
def uy(j:Ad)(i:Za)(σ:St)(h:Zo)(e:Zl)(a:tT)(d:Nat):my (Zc) where
 f:=205
 e8:=#[]
 e7:=#[Zp a.qb,Zp a.rb,Zp a.fb]
 bb:=λc b=>.ok (follow σ d c.1 b)
 J:=nV j i σ h e a d
 M:=[a.q]
 ok:=λc=>∃g,aO σ.K c.1=some (some g)
theorem zX(j:Ad)(g:Za)(σ:St)(h:Zo)(e:Zl)(d:tT)(c:Nat):∀(a:List (Zb×Nat)) (b:Zc),cf (uy j g σ h e d c) a b=.ok (a.foldl (λb f=>follow σ c f.1 b) b):=by
 intro a;induction a<;>grind [cf,uy]
def SN(args:Array Zv)(i:Zw):(callFunc 205 args).run prog i=.ok (.enter 205 args) i:=Zk
end
def SM{e F}{σ:St}{t G b}{k:Nat}(M:∀a g,aO σ.K a=some (some g)->∀b5∈fZ g,∃a2,aO σ.K b5.1=some (some a2))
  (b4:∀k',k'<k->lr (uy e F σ t G b k')) {n c} (a:Zb×Nat) (b0:∃g,aO σ.K a.1=some (some g)) (u:nV e F σ t G b k n c) :
  Calls prog 205 #[il a,Zp b.qb,Zp b.rb,Zp b.fb] c (iT (uy e F σ t G b k) c (.ok (follow σ k a.1 n))):=by
 obtain⟨g,j⟩:=b0;have a5:=(Below.refl c.heap.size c).alloc (Y4 _) (.cells #[.string ⟨a.1.toArray⟩,U a.2] 160);have h:=u.ah a5;have A:=aQ (w:=c) (o:=.cells #[.string ⟨a.1.toArray⟩,U a.2] 160) rfl;have d4:=u.a5.lt;obtain⟨d7,d8,_⟩:=om A;have c0:=bS h.vq;rcases Et h.a5 a.1 with⟨y,b1⟩|⟨v,a7,b1⟩
 .obtain⟨m,d3,b2⟩:=h.a5.a4 y (U a.2);have c8:=ad5 y j;have d0:=u.bc;obtain⟨k',rfl⟩:∃k',k=k'+1:=⟨k-1,Zm⟩;have D:=jC (c.alloc (.cells #[.string ⟨a.1.toArray⟩,U a.2] 160)) b.q m;have d:=h.bm (k':=k') D b2 Zm;have B:=(D.L _ (au A) Zg).trans A;obtain⟨d5,d6,_⟩:=om B;have b9:=bS d.vr;have c7:=bS d.vf;have b7:=d.rd.al.2.1;have x:=d.ah (Below.refl ..).drew;obtain⟨v,a6,d1⟩:=WG x.nw a.1 j;obtain⟨b8,rfl,I⟩:=a6;have d2:=GS I (λE z=>(x.nw.2.1 E z).1);have c9:=GQ g;have S:=aa (GR (b4 k' Zm) (M a.1 g j) I (λ{n e0} b3 E z=>(b3.nw.2.1 E z).1) x);have r:=aa (SL (k:=k') y j);have P:af (an [b.q] c ((eG (c.alloc (.cells #[.string ⟨a.1.toArray⟩,U a.2] 160)) b.q m).drew)):=(((ao _ c).H _).u D).aU;have H:=d.ca;have a3:∀f,an [b.q] ((eG (c.alloc (.cells #[.string ⟨a.1.toArray⟩,U a.2] 160)) b.q m).drew) f->f.cell? (Zd b.rb 0)=some (Zp e.R)/\f.cell? (Zd e.R 1)=some (.map (some e.N))/\f.cell? (Zd c.heap.size 0)=some (.string ⟨a.1.toArray⟩)/\f.cell? (Zd b.fb 0)=some b.V:=by
   intro f a8;have l:=((ao _ (eG (c.alloc (.cells #[.string ⟨a.1.toArray⟩,U a.2] 160)) b.q m)).aU).u a8;obtain⟨_,e1,_,a9⟩:=id d.a5;have a4:=(d.rd.j9 l d.bk a9).al.2.1;obtain⟨b6,_,_⟩:=om ((l.L _ (au B) Zx).trans B);exact⟨bS ((l.L _ (au d.vr) (by simpa using H.2.1)).trans d.vr),a4,b6,bS ((l.L _ (au d.vf) (by simpa using H.2.2)).trans d.vf)⟩
  have L:=aa a3;dsimp only[il];go_in;go_wp21;go_region_held2 (λp=>p.cell? (Zd b.rb 0)=some (Zp e.R)/\p.cell? (Zd e.R 1)=some (.map (some e.N))/\p.cell? (Zd c.heap.size 0)=some (.string ⟨a.1.toArray⟩)/\p.cell? (Zd b.fb 0)=some b.V) (go_keep)
   (first|(refine S.w.mono ?_;rintro c1 f (⟨d9,i,rfl,J,C⟩|⟨c6,i,_⟩);rotate_left;(rw[zX]at i;cases i);have s:=aa J;have a1:=aa C;have a0:=aa i;obtain⟨c2,c3,c4,c5⟩:=L.w f C;clear J C i))
  all_goals
   go_wp2
   go_end0
   have K:=a0.w
   rw[zX]at K
   cases K
   exact Y8 ⟨_,by rw[r.w],rfl,s.w.bm (ao ..) s.w.a5 (by have:=s.w.bc;omega),P.w.u a1.w⟩
 .have r:=aa (SK (σ:=σ) (k:=k) a7);have O:=aa h;dsimp only[il];go_in;go_wp2;go_end0;exact Y8 ⟨n,by rw[r.w],rfl,O.w,(ao _ c).H _⟩
section
variable {A:Ad}{b:Nat}{bs:Zo}{d:aC}{vs:Zl}{c:Zw}{e:St}
def SO{text a}(k:∀g d,aO e.K g=some (some d)->∀i∈fZ d,∃l,aO e.K i.1=some (some l)):∀f,lr (uy A text e bs vs a f):=by
 intro f;induction f using Nat.strongRecOn with
 |ind f o=>
  refine⟨SN,?_,?_,?_⟩
  .intro j c b i h;simp only[uy,Yc]at h;subst h;exact b.a5.lt
  .intro j c q b m;exact nV.ah b m
  .intro j p g n b;exact SM k o g n b
def yO{a}(e:fB bs b d)(f:bW a bs c)(h:Nat) :
  (method (h + 1) (dI d) (.pointer (some ⟨b, 0, none⟩)) "Title").run Tryz.prog c = .ok (327, .agg #[.string ⟨(bQ d).1.toArray⟩, .int .i64 (bQ d).2]) c := by
 obtain⟨i,j⟩:=QJ e f;have g:(loadVar 160 ⟨b,0,none⟩).run prog c=.ok (.agg #[.string ⟨(bQ d).1.toArray⟩,U (bQ d).2]) c:=by go_simp
 rw[adE,g];rfl
def oF(e:St)(d:aC):Bool:=((fZ d).foldl (λb a=>follow e (kc e []) a.1 b) []).contains (bQ d).1
def abu{d b}(e:eC d b c)(a:Zb):∃v,(Instr.lookup 103 (.map (some d)) (Zs a) true).run prog c=.ok (.tuple #[v,.bool (b.contains a)]) c:=by
 rcases Et e a with⟨f,g⟩|⟨v,f,g⟩;all_goals simp_all
def aag{text}(w:Rd A text e c)(a4:pW A.X A.N e.K bs vs c)(o:fB bs b d)
  (F:∀a7 d,aO e.K a7=some (some d)->∀i∈fZ d,∃m,aO e.K i.1=some (some m)) (P:∀i∈fZ d,∃m,aO e.K i.1=some (some m)) :
  Calls prog 127 #[Zp A.R,.iface (dI d) (Zp b)] c λn t=>n=.returned (.bool (oF e d))/\an [] c t:=by
 have b7:=je;have b8:=mS;obtain⟨c2,c3,c4,c5⟩:=w.lt;obtain⟨a,g⟩:∃a:tT,a=⟨c.heap.size+2,c.heap.size,c.heap.size+3,c.heap.size+1⟩:=⟨_,rfl⟩;obtain⟨h,f⟩:∃h,h=(((c.alloc (.cells #[Zp A.R] 145)).alloc (.map #[] 0)).alloc (.cells #[.map (some (c.heap.size+1))] 103)).alloc (.cells #[a.V] 237):=⟨_,rfl⟩;have B:(c.alloc (.cells #[Zp A.R] 145)).heap.size=c.heap.size+1:=Zq;have C:((c.alloc (.cells #[Zp A.R] 145)).alloc (.map #[] 0)).heap.size=c.heap.size+2:=Zq;have b1:(((c.alloc (.cells #[Zp A.R] 145)).alloc (.map #[] 0)).alloc (.cells #[.map (some (c.heap.size+1))] 103)).heap.size=c.heap.size+3:=Zq;have a1:=w.ah ((Below.refl c.heap.size c).alloc (Y4 _) (.cells #[Zp A.R] 145));have y:=a1.ae (.map #[] 0);rw[B]at y;have c1:=((ao [] ((c.alloc (.cells #[Zp A.R] 145)).alloc (.map #[] 0))).H (.cells #[.map (some (c.heap.size+1))] 103)).H (.cells #[a.V] 237);have x:Below (c.heap.size+2) ((c.alloc (.cells #[Zp A.R] 145)).alloc (.map #[] 0)) h:=by
  rw[f];exact((Below.refl ..).alloc Zm _).alloc Zm _
 rw[<-C]at x;have a2:=y.ah x;have r:an [] c h:=by rw[f];exact((((ao [] c).H _).H _).H _).H _
 have l:nV (A.a1 (c.heap.size+1)) text e bs vs a (kc e []) [] h:=by
  refine⟨a2,?_,?_,?_,?_,?_,?_,Y4 _⟩
  .obtain⟨a8,K,L,v,M⟩:=a4;exact⟨a8,(K.a1 Zm).ac r Zq,L,(r.L _ (au v) Zq).trans v,M⟩
  .rw[g,f];dsimp only;exact(((ao [] _).H _).L _ Zm Zq).trans (aQ C.symm)
  .rw[g,f];dsimp only;exact((((((ao [] _).H _).H _).H _)).L _ Zm Zq).trans (aQ rfl)
  .rw[f,g];dsimp only;exact aQ b1.symm
  .refine⟨Zq,[],rfl,?_⟩;rw[g,f];dsimp only;exact((((ao [] _).H _).H _).L _ Zm Zq).trans (aQ B.symm)
  .rw[g];dsimp only;refine⟨by simp[Ad.a1],?_,?_,?_,?_⟩<;>simp only[Ad.a1]<;>omega
 have J:=bS l.vf;have O:=SO (A:=A.a1 (c.heap.size+1)) (text:=text) (bs:=bs) (vs:=vs) (a:=a) F (kc e []);have a0:=GS o (λs p=>(l.nw.2.1 s p).1);have b5:=GQ d;have H:=aa (GR O P o (λ{D c7} a3 s p=>(a3.nw.2.1 s p).1) l);have G:=aa r;subst f;subst g;dsimp only[tT.V]at J a0;go_in;go_wp21;refine H.w.mono ?_;rintro n b2 (⟨c6,q,rfl,k,a5⟩|⟨b4,q,_⟩);rotate_left
 .grind [zX]
 rw[zX]at q;cases q
 have a9:=bS k.vq;dsimp only at a9;have a6:=au k.vq;dsimp only at a6;have z:=k.ah (Below.refl ..).drew;have c0:=yO o z.nw.2.1;have b9:=xi;have b6:=zT 160;have b3:=aa k;have u:=aa z;have I:=aa a5;go_wp21;go_region_held2 (λt=>t.cell? ⟨c.heap.size+2,0,none⟩=some (.map (some (c.heap.size+1)))) (go_keep)
  (first|(go_at_call 327;refine(xh _ _ _).mono ?_;rintro n c9 ⟨rfl,j⟩;obtain⟨c8,S⟩:=abu (u.w.ah j).a5 (bQ d).1;have b0:=bS (u.w.ah j).vq;dsimp only at b0 S;have E:=aa j;clear j))
 all_goals
  go_wp2
  go_ret
  refine⟨oE (a:=decide ((bQ d).1∈(fZ d).foldl (λ(D:Zc) (i:Zb×Nat)=>follow e (kc e []) i.1 D) [])) (b:=oF e d) (by simp[oF]),?_⟩
  exact(G.w.b1 I.w (by grind [uy])).u (((ao [] b2).aU).u (bT [] E.w))
end
def ii(a:St):List aC->Except Mar.ay Unit
 |[]=>.ok ()
 |d::b=>if oF a d then .error ⟨9,(bQ d).2⟩else ii a b
def Rd.l3{a b e c d}(f:Rd a b e c)(g:an [] c d):Rd a b e d:=f.ac g Zq Zq Zq Zq Zq Zq Zq Zq
def Ss{f F b l w E a n d}(a0:Rd f F b d)(b6:pW f.X f.N b.K l w d)(a2:mm l E a n)
  (H:∀b7 m,aO b.K b7=some (some m)->∀u∈fZ m,∃p,aO b.K u.1=some (some p)) (a9:∀m∈a,∀u∈fZ m,∃p,aO b.K u.1=some (some p)) :
  Calls prog 75 #[Zp f.R,E] d λg h=>(ii b a=.ok ()/\g=.returned (.tuple #[])/\an [] d h)\/(∃i,ii b a=.error i/\an [] d h/\fm d i.no i.y g h):=by
 obtain⟨b1,b2,a3⟩:=a2;have z:=aa a3;have M:=aa b1;have I:=aa H;have J:=aa a9;have c5:∀(R C:Zv) (B:Zw),(Instr.field 160 (.agg #[R,C]) 1).run prog B=.ok C B:=λ_ _ _=>by kernel_rfl
 have d2:=xi;rcases b2 with⟨rfl,a1,_⟩|⟨S,c2,c3,rfl,⟨c4,d0⟩,a5,b4⟩
 .have b0:a=[]:=Yv.1 a1;subst b0;go_in;go_wp2;go_loopw [8] (λe k=>e=U 0/\k=d) (λ_ _=>0)
  case atStart=>simp
  case round=>
   obtain⟨rfl,rfl⟩:=hrel;go_wp2;go_end0;exact Y8 ⟨rfl,rfl,ao ..⟩
 .have b3:∀(v:Zw),pW f.X f.N b.K l w v->∀e (a6:e<a.length) (a7:e<n.length),v.cell? (Zd S e)=some (.iface (dI a[e]) (.pointer (some ⟨n[e],0,none⟩))):=by
   intro v b5 e a6 a7;refine dt (b5.2.1 _ a5).1 b4 ?_;grind
  have N:=aa b3;have O:=aa a0;have L:=aa b6;go_in;go_wp2;go_loopw [8] (λe k=>∃(c:Nat),e=U c/\c<=a.length/\af (Rd f F b k)/\af (pW f.X f.N b.K l w k)/\an [] d k/\af (ii b a=ii b (a.drop c))) (λe _=>a.length-(intOf e).toNat)
  case atStart=>exact⟨0,rfl,Zm,O,L,ao _ d,rfl⟩
  case round=>
   obtain⟨c,rfl,c9,A,o,D,x⟩:=hrel;rcases Yj c a.length with j|c6
   .have r:c<n.length:=by have:=M.w;omega
    have d4:=N.w _ o.w c j r;have c7:(0:Int)<=↑c:=Zm;have c8:(↑c:Int) < ↑a.length:=Zm;have y:af (ii b a=if oF b a[c]then .error ⟨9,(bQ a[c]).2⟩else ii b (a.drop (c+1))):=by
     refine x.w.trans ?_;rw[Yk j];rfl
    have K:=aa (aag A.w o.w (z.w c j r) I.w (J.w _ (Yy j)));go_wp21;refine K.w.mono ?_;rintro g b8 ⟨rfl,s⟩;have P:=aa (o.w.ac s Zq Zq);have c1:=aa (A.w.l3 s);have t:an [] d b8:=D.u s;cases d1:oF b a[c]with
    |true=>
     have d3:=yO (z.w c j r) P.w.2.1;go_wp2_with (first
      |(go_at_call 327;refine(xh _ _ _).mono ?_;rintro g b9 ⟨rfl,q⟩)
      |(go_at_call 70;refine(gZ _ _ _).mono ?_;rintro g h ⟨rfl,rfl⟩))
     exact(show bodyPost prog Tryz.f75 (λg h=>(ii b a=.ok ()/\g=.returned (.tuple #[])/\an [] d h)\/(∃i,ii b a=.error i/\an [] d h/\fm d i.no i.y g h)) (Exit.panic _) _ _ from aE (Ya ⟨⟨9,(bQ a[c]).2⟩,y.w.trans Zu,(by first|exact(t.u (bT [] q)).H _|exact(t.drew.trans (an.a8 [] q)).H _),b9.heap.size,by have:=t.aD;have:=q.size;omega,rfl,aQ rfl⟩))
    |false=>
     have c0:af (ii b a=ii b (a.drop (c+1))):=y.w.trans Zu;go_wp2;grind [intOf]
   .have a8:c=a.length:=Zm;subst a8;have a4:ii b a=.ok ():=by
     refine x.w.trans ?_;rw[List.drop_length];rfl
    have G:=aa a4;go_wp2;go_end0;exact Y8 ⟨G.w,rfl,D⟩
section
variable {d:Ad}{g:Bool}{a:Zb×Nat}{e:Unit}{f τ:Type}{b c:St}
def ro(d:Zb)(e:PX τ aW):Prop:=∀f b a g c,e f b=.ok (a,g,c)->a.t=d/\Kn b.K c.K
def tY(d:PX τ aW):Prop:=∀e b a f c,d e b=.ok (a,f,c)->(aO c.K a.t).isSome
theorem Le.kn(a:Le b c):Kn b.K c.K:=a.2.2.2.2.2
theorem yk(a:aW):ro a.t (dA (τ:=τ) a):=by
 intro f b d g c e;simp_all[dA,tW]
theorem yj{i g}{h:f->PX τ aW}(m:cD g)(l:∀d,ro i (h d)):ro i (aP g h):=by
 intro o b p r c a;cases e:g o b with
 |error q=>rw[bR e]at a;cases a
 |ok n=>
  obtain⟨d,s,t⟩:=n;rw[bf e]at a;obtain⟨j,k⟩:=l d _ _ _ _ _ a;exact⟨j,(m _ _ _ _ _ e).kn.u k⟩
theorem Ki{a:Zb}{b c:PX τ aW}(d:ro a b)(e:ro a c):ro a (if g then b else c):=Zg
theorem Ay{h}{e:f->PX τ aW}(i:∀d,tY (e d)):tY (aP h e):=by
 intro k b l n c a;cases g:h k b with
 |error m=>rw[bR g]at a;cases a
 |ok j=>obtain⟨d,o,p⟩:=j;rw[bf g]at a;exact i d _ _ _ _ _ a
theorem DH{a b:PX τ aW}(c:tY a)(d:tY b):tY (if g then a else b):=Zg
theorem QN{a}(d:iI a b=.ok (e,c)):(aO c.K a.text).isSome:=by
 grind [iI,Dr]
theorem JK{i}{o:Unit}(f:name i (iz d) e b=.ok (a,o,c)):(aO c.K a.1).isSome:=by
 unfold name at f;cases n:next i b with
 |error k=>simp_all[bR,cZ]
 |ok g=>
  obtain⟨h,j⟩:=g;rw[bf (bF n)]at f;cases m:((h.F:Int)==1)with
  |false=>simp_all[Bw]
  |true=>
   rw[m]at f;simp only[if_true]at f
   cases l:iI h j with
   |error k=>simp_all[bR,iz,cZ]
   |ok g=>
    obtain⟨v,p⟩:=g;rw[bf (show (iz d).bb h e j=.ok (v,e,p)from bF l)]at f;grind [dA,QN]
theorem Az{h}{g:Zb×Nat->PX Unit aW}(k:∀a,ro a.1 (g a)):tY (aP (name h (iz d)) g):=by
 intro m b n p c e;cases f:name h (iz d) m b with
 |error o=>rw[bR f]at e;cases e
 |ok l=>
  obtain⟨a,q,r⟩:=l;rw[bf f]at e;obtain⟨i,j⟩:=k a _ _ _ _ _ e;rw[i];exact j.1 _ (JK f)
theorem Kh(b:Za)(a:Zb×Nat)(c:Ty):ro a.1 (oq (τ:=τ) b a c):=by
 unfold oq;exact yj (fK (As _)) λ_=>yk ⟨a.1,a.2,_⟩
theorem Xi(c:Za)(b:Ty)(a:Zb×Nat):ro a.1 (rK (τ:=τ) c b a):=by
 unfold rK;refine yj (fK (uG _ _)) λd=>?_;unfold sS;refine Ki (Kh _ _ _) (yj (fK (uG _ _)) λe=>?_);unfold sT;exact Ki (Kh _ _ _) (yk ⟨a.1,a.2,b⟩)
theorem WE(d:Ad)(c:Za):tY (eY c (iz d)):=by
 unfold eY;refine Ay λb=>?_;unfold qp;refine DH (Az λa=>yj (fK (As _)) λ_=>yk ⟨a.1,a.2,_⟩) (Ay λb=>?_);unfold pb;refine DH (Az λa=>yj (fK (Dy _)) λ_=>yk ⟨a.1,a.2,_⟩) (Ay λe=>?_);unfold sR;refine Ay λb=>?_;unfold rJ;exact DH (Az λa=>yk ⟨a.1,a.2,_⟩) (Az λa=>Xi _ _ _)
theorem QC{f}{d:aW}(a:qq f b=.ok (d,c)):(aO c.K d.t).isSome:=by
 unfold qq kR at a;cases e:eY f (iz tq) () b with
 |error i=>simp_all
 |ok g=>obtain⟨h,j,k⟩:=g;rw[e]at a;cases a;exact WE _ _ _ _ _ _ _ e
theorem WA{e}(d:iK e b=.ok (a,c)):(aO c.K a.1).isSome:=by
 unfold iK kR at d;grind [JK]
end
section
variable {n:Zb×Nat}{a:Type}
def sw(e:PM a):Prop:=∀b d c,e b=.ok (d,c)->Kn b.K c.K
theorem ed.k{b:PM a}(d:ed b):sw b:=λf c g e=>(d f c g e).kn
def rq(n:Zb×Nat)(d:PM aC):Prop:=∀b a c,d b=.ok (a,c)->bQ a=n/\Kn b.K c.K
def qd(d:PM aC):Prop:=∀c b a,d c=.ok (b,a)->(aO a.K (bQ b).1).isSome/\Kn c.K a.K
def wH{a:aC}(c:bQ a=n):rq n (ret a):=by
 intro e b f d;grind [ret,tW]
def jm{e}{f:a->PM aC}(j:sw e)(i:∀c,rq n (f c)):rq n (aM e f):=by
 intro l m p b;cases d:e l with
 |error o=>rw[bO d]at b;cases b
 |ok k=>
  obtain⟨c,q⟩:=k;rw[aK d]at b;obtain⟨g,h⟩:=i c _ _ _ b;exact⟨g,(j _ _ _ d).u h⟩
def adG{c:Bool}{a b:PM aC}(d:rq n a)(e:rq n b):rq n (if c then a else b):=Zg
def va{e}{f:a->PM aC}(j:sw e)(i:∀c,qd (f c)):qd (aM e f):=by
 intro l m o b;cases d:e l with
 |error n=>rw[bO d]at b;cases b
 |ok k=>
  obtain⟨c,p⟩:=k;rw[aK d]at b;obtain⟨g,h⟩:=i c _ _ _ b;exact⟨g,(j _ _ _ d).u h⟩
def yK{e}{c:Zb×Nat->PM aC}(g:∀n,rq n (c n)):qd (aM (iK e) c):=by
 intro i j l a;cases b:iK e i with
 |error k=>rw[bO b]at a;cases a
 |ok h=>
  obtain⟨n,m⟩:=h;rw[aK b]at a;obtain⟨f,d⟩:=g n _ _ _ a;exact⟨by rw[f];exact d.1 _ (WA b),(tm _ _ _ _ b).kn.u d⟩
def adh(b:Za)(a:Nat):qd (ko b a):=by
 unfold ko;refine va (IQ _).k λ_=>yK λn=>?_;exact jm (eS _ _).k λ_=>jm (yf _ _).k λ_=>jm (eS _ _).k λ_=>wH rfl
def adl(e:Za)(g:Nat):qd (kB e g):=by
 unfold kB;refine va (yb _).k λ_=>?_;intro i j l a;cases b:qq e i with
 |error k=>rw[bO b]at a;cases a
 |ok h=>
  obtain⟨c,m⟩:=h;rw[aK b]at a;obtain⟨f,d⟩:=jm (n:=(c.t,c.y)) (eS _ _).k (λ_=>wH rfl) _ _ _ a;exact⟨by rw[f];exact d.1 _ (QC b),(IL _ _ _ _ b).kn.u d⟩
def adH(e:Za)(n:Zb×Nat):∀(b:Nat) (a:List (Zb×Nat×Int)) (c:List (Int×Int)),rq n (iB e n b a c):=by
 intro b;induction b with
 |zero=>intro a c g h o d;simp_all[iB,gU]
 |succ b k=>
  intro a c g h o d;cases f:jz e a.length c g with
  |error p=>simp_all[tj]
  |ok m=>
   obtain⟨l,q,s⟩:=m;rw[rW f]at d;obtain⟨i,j⟩:=jm (n:=n) (nH _ _).k (λr=>adG (k _ _) (show rq n (ot e n (a++[l]))from jm (eS _ _).k λ_=>jm (eS _ _).k λ_=>wH rfl)) _ _ _ d;exact⟨i,(IP _ _ _ _ _ _ _ f).kn.u j⟩
def adi(b:Za)(a:Nat):qd (ik b a):=by
 unfold ik;exact va (yb _).k λ_=>yK λn=>jm (eS _ _).k λ_=>adH _ _ _ _ _
def adk(b:Za)(a:Nat):qd (lf b a):=by
 unfold lf;exact va (yb _).k λ_=>yK λn=>jm (ye (Ar _ _ _ (IT _ _)) _).k λ_=>jm (eS _ _).k λ_=>wH rfl
def adm(b:Za)(a:Nat):qd (ez b a):=by
 unfold ez;refine va (yb _).k λ_=>yK λn=>?_;unfold oM;refine jm (eS _ _).k λ_=>jm (eS _ _).k λ_=>jm (IS _).k λd=>?_;unfold oN;refine jm (Av (Au _ _ _) _).k λc=>?_;unfold qV;refine jm (eS _ _).k λ_=>jm (eS _ _).k λ_=>jm (Av (II _ _ _ _) _).k λe=>?_;unfold lE oL;exact jm (eS _ _).k λ_=>jm (eS _ _).k λ_=>wH rfl
def Us(d:Za)(c:Int->Bool):sw (qC d c):=by
 intro e g k a;cases b:hx d c e.am e with
 |error h=>simp_all[AJ]
 |ok f=>
  obtain⟨j,i,l⟩:=f;rw[DN b]at a;cases a
  exact(yc _ _ _ _ _ _ _ b).kn
def Dm{j:Type}{e}{f:a->PM j}(h:sw e)(g:∀c,sw (f c)):sw (aM e f):=by
 intro k l n b;cases d:e k with
 |error m=>rw[bO d]at b;cases b
 |ok i=>obtain⟨c,o⟩:=i;rw[aK d]at b;exact(h _ _ _ d).u (g c _ _ _ b)
def Ur(a:Za):sw (rM a):=by
 unfold rM;exact Dm (eS _ _).k λ_=>Dm (Us _ _) λ_=>Dm (eS _ _).k λ_=>(ma _).k
def adj(c:Za)(b:Nat):qd (jZ c b):=by
 unfold jZ;refine va ?_ λ_=>yK λn=>?_
 .intro e d f a;exact(Dz _ _ _ _ _ _ a).kn
 .unfold qG;exact jm (ye (IR _) _).k λ_=>jm (Ur _) λ_=>wH rfl
def EM(b:Za):qd (ga b):=by
 unfold ga;refine va (qy _).k λd=>?_;intro e c f a;unfold eF at a;split at a
 .exact adh _ _ _ _ _ a
 split at a
 .exact adl _ _ _ _ _ a
 split at a
 .exact adi _ _ _ _ _ a
 split at a
 .exact adk _ _ _ _ _ a
 split at a
 .exact adm _ _ _ _ _ a
 split at a
 .exact adj _ _ _ _ _ a
 grind [gU]
end
def aeK(b:Za)(a:Zw):Calls prog 71 #[.string b] a λc d=>c=.returned (Zp a.heap.size)/\d=a.alloc (.cells #[.string b,U 0,U 0,.string ⟨#[]⟩,U 0,U 0,.bool false] 222):=by
 go_in;go_wp2;go_ret;simp
def fS:St:=⟨0,none,0,0,[],[]⟩
def lz(b:Za)(a:Zw):Zw:=
 (((a.alloc (.cells #[.string b,U 0,U 0,.string ⟨#[]⟩,U 0,U 0,.bool false] 222)).alloc (.map #[] 0)).alloc (.map #[] 0)).alloc
  (.cells #[Zp a.heap.size,.map (some (a.heap.size+1)),U 0,U 0,.map (some (a.heap.size+2))] 151)
def jv(a:Zw):Ad:=⟨a.heap.size+3,a.heap.size,a.heap.size+1,a.heap.size+2,[a.heap.size+3,a.heap.size,a.heap.size+1,a.heap.size+2]++List.range a.heap.size⟩
def Uw(b:Za){a}(g:Gl a)(h:b.size<=4000000000):Rd (jv a) b fS (lz b a)/\an [] a (lz b a)/\(lz b a).heap.size=a.heap.size+4:=by
 have i:(a.alloc (.cells #[.string b,U 0,U 0,.string ⟨#[]⟩,U 0,U 0,.bool false] 222)).heap.size=a.heap.size+1:=Zq;have j:((a.alloc (.cells #[.string b,U 0,U 0,.string ⟨#[]⟩,U 0,U 0,.bool false] 222)).alloc (.map #[] 0)).heap.size=a.heap.size+2:=Zq;have k:(((a.alloc (.cells #[.string b,U 0,U 0,.string ⟨#[]⟩,U 0,U 0,.bool false] 222)).alloc (.map #[] 0)).alloc (.map #[] 0)).heap.size=a.heap.size+3:=Zq;have l:(lz b a).heap.size=a.heap.size+4:=by unfold lz;simp
 have c:an [] a (lz b a):=((((ao [] a).H _).H _).H _).H _;have f:(lz b a).heap[a.heap.size]? = some (.cells #[.string b,U 0,U 0,.string ⟨#[]⟩,U 0,U 0,.bool false] 222):=
  ((((ao [] _).H _).H _).H _).L _ Zm Zq |>.trans (aQ rfl)
 have bN:(lz b a).heap[a.heap.size+1]? = some (.map #[] 0):=(((ao [] _).H _).H _).L _ Zm Zq |>.trans (aQ i.symm);have d:(lz b a).heap[a.heap.size+2]? = some (.map #[] 0):=((ao [] _).H _).L _ Zm Zq |>.trans (aQ j.symm);have e:(lz b a).heap[a.heap.size+3]? = some (.cells #[Zp a.heap.size,.map (some (a.heap.size+1)),U 0,U 0,.map (some (a.heap.size+2))] 151):=aQ k.symm;refine⟨⟨e,⟨YV _,_,_,_,_,f⟩,⟨by simp[fS],[],[],(by intro n m;grind),rfl,bN,Zq⟩,?_,?_,d,by simp[jv],g.ac c Zq Zq Zq,h,by simp[fS]⟩,c,l⟩
 .simp[jv]
 grind [jv]
section
def TJ:(prog.info? 157).map (λa=>(a.zero,a.size,a.bytes))=some (some .nilIface,1,16):=Zk
def Ld(a:aC):PM Unit:=λn=>.ok ((),{ n with K:=ep n.K (bQ a).1 a })
def eU(c:Za):Nat->List aC->PM (List aC)
 |0,_=>gU 0 0
 |k+1,a=>aM (hA c) λd=>if((d.F:Int)==0)then ret a else aM (ga c) λb=>aM (Ld b) λ_=>eU c k (a++[b])
def eP(c:Za):Except Mar.ay (List aC):=
 if 1200<c.size then .error ⟨1,0⟩else match eU c 69 [] fS with
 |.error b=>.error b
 |.ok (a,n)=>match oy n a with
  |.error b=>.error b
  |.ok _=>match ii n a with
   |.error b=>.error b
   |.ok _=>.ok a
structure kO(A:Ad)(c:Za)(e:Zw)(a:List aC)(b:List Nat)(j:Zo)(f:List Nat)(l:Zv)(n:St)(u:Zw):Prop where
 kp:an [A.R,A.S,A.N,A.P] e u
 rd:Rd (A.aw f) c n u
 aB:∀y∈f,e.heap.size<=y
 ae:∀g,l.ownBlock=some g->g∈f
 row:u.ownsRow e.heap.size 157 1 l a.length (sU a b)
 av:b.length=a.length
 d7:bW (A.aw f).X j u
 da:∀i (h:i<a.length) (h':i<b.length),fB j b[i] a[i]
section
variable {A : Ad} {c : Za} {e u u' : Zw} {a : List aC} {b : List Nat} {j : List (Nat × Obj)} {f : List Nat} {l : Zv} {n p o : St}
def kO.cS(g:kO A c e a b j f l n u):∃ad d,l=.slice ad a.length d:=by
 rcases g.row.2 with⟨rfl,k⟩|⟨i,d,h,rfl,_⟩;all_goals simp_all
def kO.bm{k}(s:Rd A c o e)(d:kO A c e a b j f l n u)(q:an k u u')(m:∀i∈k,i∈[A.R,A.S,A.N,A.P])(h:Rd (A.aw f) c p u'):kO A c e a b j f l p u':=by
 obtain⟨w,x,y,z⟩:=s.lt;have t:∀i∈k,i∈(A.aw f).X:=by
  intro i g;have g:=m i g;simp at g;rcases g with rfl|rfl|rfl|rfl
  .exact h.az.1
  .exact h.az.2.1
  .exact h.az.2.2.1
  .exact h.az.2.2.2
 refine⟨d.kp.u (q.ak m),h,d.aB,d.ae,bw d.row q ?_,d.av,d.d7.ac q t,d.da⟩;intro r v g;have g:=m _ g;have:=d.aB _ (d.ae r v);grind
def kO.ah(g:Rd A c o e)(m:kO A c e a b j f l n u)(d:Below u.heap.size u u'):kO A c e a b j f l n u':=m.bm g (bT [] d) Zq (m.rd.ah d)
theorem kO.h7(g:kO A c e a b j f l n u)(d:Obj):(u.alloc d).ownsRow e.heap.size 157 1 l a.length (sU a b):=bw g.row ((ao [] u).H d) Zq
theorem OM{w p:Zw}{g x h:Nat}{d bs'}(z:Rd A c o e)(i:kO A c e a b j f l n u)(H:fB bs' h d)(I:bW (A.aw f).X bs' u)(m:Below u.heap.size u w)
  (M:p.ownsRow e.heap.size 157 1 (.slice (some ⟨g,0,none⟩) (a.length+1) x) (a.length+1) (sU a b++[.iface (dI d) (Zp h)]))
  (r:w.grownBy p l.ownBlock) (B:l.ownBlock=some g\/g=w.heap.size) (L:g<p.heap.size) :
  kO A c e (a++[d]) (b++[h]) (j++bs') (g::f) (.slice (some ⟨g,0,none⟩) (a.length+1) x) n p:=by
 obtain⟨a0,_⟩:=hR M (g:=g) rfl;have q:=i.ah z m;have J:=I.ac (bT [] m) Zq;have D:∀h,l.ownBlock=some h->e.heap.size<=h/\h∈(A.aw f).X:=λh m=>⟨i.aB _ (i.ae h m),Yf _ (i.ae h m)⟩;have K:=gt r;refine⟨q.kp.b1 K ?_,vG z (du A f) q.rd r D B L,?_,?_,?_,by simp[i.av],(q.d7.b7 J).a9 r (λh m=>(D h m).2) B,?_⟩
 .simp_all
 .intro O v;rcases Yg.1 v with rfl|v
  .omega
  .exact i.aB O v
 .grind [Value.ownBlock]
 .have y:sU (a++[d]) (b++[h])=sU a b++[.iface (dI d) (Zp h)]:=by
   unfold sU;rw[List.zip_append i.av.symm,List.map_append];rfl
  simp_all
 .intro k P R;by_cases C:k<a.length
  .have s:k<b.length:=by rw[i.av];omega
   rw[List.getElem_append_left C,List.getElem_append_left s];exact(show mn (j++bs') (.iface (dI a[k]) (.pointer (some ⟨b[k],0,none⟩))) (some a[k])from tR (λN t=>Yf _ t) ⟨_,rfl,i.da k C s⟩).elim (λE G=>by simp_all)
  .have s:k=a.length:=Zg;have S:=i.av;rw[List.getElem_append_right Zm,List.getElem_append_right Zm];have y:k-a.length=0:=Zm;have F:k-b.length=0:=Zm;simp only[y,F,List.getElem_cons_zero];exact(show mn (j++bs') (.iface (dI d) (Zp h)) (some d)from tR (λN t=>Ym _ t) ⟨_,rfl,H⟩).elim (λE G=>by simp_all)
def kO.j3(v:Rd A c o e)(i:kO A c e a b j f l n u)(x:a.length<=1000):∃g,mm (j++g) l a b/\bW A.X (j++g) u:=by
 have E:∀k,e.heap.size<=k->k ∉ A.X:=λk F y=>by have:=v.a3 _ y;omega
 have z:bW A.X j u:=i.d7.bE (λN B=>Ym _ B);have r:∀g d (h:d<a.length) (q:d<b.length),fB (j++g) b[d] a[d]:=λg d h q=>
  (show mn (j++g) (.iface (dI a[d]) (.pointer (some ⟨b[d],0,none⟩))) (some a[d])from tR (λC s=>Yf _ s) ⟨_,rfl,i.da d h q⟩).elim (λD G=>by simp_all)
 rcases i.row.2 with⟨rfl,h⟩|⟨p,t,m,rfl,H,I,w,J,K,L⟩
 .have M:a=[]:=Yv.1 h;refine⟨[],⟨i.av,Y8 ⟨rfl,h,?_⟩,r []⟩,Zu⟩;simp_all
 .refine⟨[(p,.cells m 157)],⟨i.av,Ya ⟨p,t,m,rfl,⟨w,x⟩,Zq,?_⟩,r _⟩,?_⟩
  .grind
  .refine z.b7 ?_;intro C s;simp_all
end
end
section
variable {d:aC}{c:List aC}{e:Mar.ay}{b f g:St}
def EO{a}{h:Nat}{d:Mar.aX}(e:hA a b=.ok (d,g))(f:((d.F:Int)==0)=true):eU a (h+1) c b=.ok (c,g):=by
 simp only[eU];rw[aK e,f];rfl
theorem EP{a}{d:Nat}(f:hA a b=.error e):eU a (d+1) c b=.error e:=by
 simp_all[eU,bO]
def EN{a}{f:Nat}{d:Mar.aX}(h:hA a b=.ok (d,g))(j:((d.F:Int)==0)=false)(i:ga a g=.error e):eU a (f+1) c b=.error e:=by
 simp only[eU];grind [aK,bO]
def EQ{a}{f:Nat}{e:St}{h:Mar.aX}(i:hA a b=.ok (h,g))(k:((h.F:Int)==0)=false)(j:ga a g=.ok (d,e)) :
  eU a (f+1) c b=eU a f (c++[d]) { e with K:=ep e.K (bQ d).1 d }:=by
 simp only[eU];rw[aK i,k];exact aK j
structure od(b:St)(c:List aC):Prop where
 O:b.aA<=24
 co:b.aN<=40
 pr:b.am.length<=4
 bc:c.length<=b.aA+b.aN+b.am.length
 nm:∀n d,aO b.K n=some (some d)->d∈c\/∃t a v,d=.const t a v
def od.le(a:od b c)(j:Le b f):od f c:=by
 obtain⟨n,o,g,k,l,m⟩:=j;refine⟨k a.O,l a.co,by rw[g];exact a.pr,by rw[g];have:=a.bc;omega,λh d i=>?_⟩;rcases m.2 h d i with e|e
 .exact a.nm h d e
 simp_all
theorem od.b6{m}(e:od b c)(k:ga m b=.ok (d,f)):od { f with K:=ep f.K (bQ d).1 d } (c++[d]):=by
 have g:=ack k;have o:=(EM m _ _ _ k).2;have q:=g.up;have p:=e.bc;refine⟨g.O e.O,g.co e.co,g.pr e.pr,Zg,λh i a=>?_⟩;dsimp only at a;rw[Ao]at a;cases l:aO f.K h with
 |none=>simp_all
 |some r=>
  rw[l]at a;simp only[Option.map_some,Yu]at a;split at a
  .simp_all
  .subst a;rcases o.2 h i l with j|j
   .rcases e.nm h i j with n|n;all_goals simp_all
   simp_all
def Dn:∀(c:Ty) (b:Zb×Nat),b∈gy c->b∈eV c:=by
 intro c;induction c with
 |named i g=>intro b a;exact a
 |arr f h e d=>
  intro b a;cases e with
  |true=>exact d b (by simpa[gy]using a)
  |false=>simp[gy]at a
 |opt f d=>intro b a;simp[gy]at a
 |_=>intro b a;simp[gy]at a
def In(d:aC)(h:Zb×Nat)(a:h∈fZ d):h∈gR d:=by
 cases d with
 |const c b v=>simp[fZ]at a
 |typedef d=>exact Dn _ _ a
 |enum c b i=>simp[fZ]at a
 |struct c b i=>
  simp only[fZ,List.mem_flatMap]at a;obtain⟨g,f,e⟩:=a;exact List.mem_flatMap.2 ⟨g,f,Dn _ _ e⟩
 |union c b l j=>
  simp only[fZ,List.mem_flatMap]at a;obtain⟨g,f,e⟩:=a;exact List.mem_flatMap.2 ⟨g,f,Dn _ _ e⟩
 |prog c b m k=>simp[fZ]at a
def UU:∀(a:List (Zb×Nat)) (i:Unit),cf (hO ⟨0,0,0,0,[]⟩ ⟨#[]⟩ b [] 0) a i=.ok ()->∀h∈a,∃d,aO b.K h.1=some (some d):=by
 intro a;induction a with
 |nil=>simp
 |cons g a n=>
  intro i c h j;simp only[cf]at c;have k:(hO ⟨0,0,0,0,[]⟩ ⟨#[]⟩ b [] 0).bb g i=po b g:=rfl;rw[k]at c;cases f:po b g with
  |error e=>simp_all
  |ok v=>
   rw[f]at c;rcases Yg.1 j with rfl|j
   .unfold po at f;cases l:aO b.K h.1 with
    |none=>simp_all
    |some m=>
     rw[l]at f;cases m<;>simp_all[uA]
   grind
theorem Iy(f:oy b c=.ok ()):∀d∈c,∀a∈fZ d,∃e,aO b.K a.1=some (some e):=by
 intro d g a h;exact UU _ _ f a (List.mem_flatMap.2 ⟨d,g,In d a h⟩)
def UW(h:od b c)(j:oy b c=.ok ()):∀a d,aO b.K a=some (some d)->∀e∈fZ d,∃f,aO b.K e.1=some (some f):=by
 intro a d g e l;rcases h.nm a d g with k|⟨m,i,v,rfl⟩;all_goals grind [Iy,fZ]
def Mi:od fS []:=⟨by simp[fS],by simp[fS],by simp[fS],Zq,by grind [fS,aO]⟩
def QP{d a}(c:fW d a){e f}(g:Rd d e b f) :
  Calls prog 73 #[Zp a.R] f (zd [a.R,a.S,a.N,a.P] d e f (ga e b)):=by
 have:=QO g;rw[c.1,c.2.1,c.2.2.1,c.2.2.2]at this;exact this
end
section
variable {a:List aC}{b:Mar.ay}{c:St}
def wZ(i:Za)(c:Zw)(g:Ending)(d:Zw):Prop:=
 (∃a h j f,eP i=.ok a/\g=.returned h/\an [] c d/\mm f h a j/\∀e∈f,d.heap[e.1]? = some e.2/\c.heap.size<=e.1)\/(∃b,eP i=.error b/\an [] c d/\fm c b.no b.y g d)
def LZ{a:Za}(c:¬1200<a.size)(d:eU a 69 [] fS=.error b):eP a=.error b:=by unfold eP;rw[Y2 c,d]
def ads{d:Za}(e:¬1200<d.size)(f:eU d 69 [] fS=.ok (a,c))(g:oy c a=.error b):eP d=.error b:=by unfold eP;rw[Y2 e,f];simp only[g]
def adr{d:Za}(e:¬1200<d.size)(g:eU d 69 [] fS=.ok (a,c))(h:oy c a=.ok ())(f:ii c a=.error b):eP d=.error b:=by unfold eP;rw[Y2 e,g];simp only[h,f]
def adu{b:Za}(d:¬1200<b.size)(f:eU b 69 [] fS=.ok (a,c))(g:oy c a=.ok ())(e:ii c a=.ok ()):eP b=.ok a:=by unfold eP;rw[Y2 d,f];simp only[g,e]
def Gd(d:Za){c}(a7:Gl c):Calls prog 44 #[.string d] c (wZ d c):=by
 have j4:=mS;have j2:=So;have j1:=zT 160;have j7:=xi;by_cases e3:1200<d.size
 .have f3:af (eP d=.error ⟨1,0⟩):=by show _=_;simp_all[eP]
  have e4:(1200:Int) < ↑d.size:=Zm;go_in;go_wp2_with (go_at_call 70;refine(gZ _ _ _).mono ?_;rintro w c0 ⟨rfl,rfl⟩);exact aE (Ya ⟨⟨1,0⟩,f3.w,(by first|exact(ao [] c).H _|exact(an.refl [] c).drew.alloc _),c.heap.size,Y4 _,rfl,aQ rfl⟩)
 .obtain⟨b4,e1,j6⟩:=Uw d a7 Zm;have j5:¬(1200:Int) < ↑d.size:=Zm;have B:=aa e3;have i:=aa b4;have A:=aa e1;have c9:af (kO (jv c) d (lz d c) [] [] [] [] (.slice none 0 0) fS (lz d c)):=⟨ao ..,b4,Zq,(by intro g3 a7;cases a7),⟨rfl,Y8 ⟨rfl,rfl⟩⟩,rfl,(by intro z h;grind),Zq⟩;clear b4 e1 e3;go_in;go_wp2_with (first|(go_at_call 71;refine(aeK _ _).mono ?_;rintro w c0 ⟨rfl,rfl⟩));go_loopw [4] (λb9 h2=>∃(a:List aC) (s:List Nat) (o:Zo) (v:List Nat) (E:St),af (od E a)/\af (kO (jv c) d (lz d c) a s o v b9 E h2)/\af (eU d 69 [] fS=eU d (69-a.length) a E)) (λb9 _=>69-Aj b9)
  case atStart=>exact⟨[],[],[],[],fS,Mi,c9,rfl⟩
  case round=>
   obtain⟨a,s,o,v,E,u,l,f2⟩:=hrel;clear c9;obtain⟨ad,a1,rfl⟩:=l.w.cS;have j3:a.length<=68:=by have i5:=u.w.bc;have i6:=u.w.O;have i7:=u.w.co;have i8:=u.w.pr;omega
   have t:af (eU d 69 [] fS=eU d ((68-a.length)+1) a E):=by
    grind
   have g2:wr.cell? ⟨c.heap.size+3,0,none⟩=some (Zp c.heap.size):=l.w.rd.al.1;clear f2;go_wp21;refine(DS (du (jv c) v) l.w.rd).mono ?_;rintro w h4 ⟨b1,⟨c2,h6,r,rfl,e8⟩|⟨b,r,n,a5,rfl,q⟩⟩;rotate_left
   .have b8:=l.w.kp.aD;exact(show bodyPost prog Tryz.f44 (wZ d c) (Exit.panic _) _ h4 from aE (Ya ⟨b,LZ B.w (t.w.trans (EP r)),(A.w.b1 l.w.kp (by simp_all[jv])).b1 b1 (by simp_all[jv]),n,Zm,rfl,q⟩))
   have e:=aa (l.w.bm i.w b1 Zq e8);have P:=aa (u.w.le (yd _ _ _ _ r));clear b1 e8 l u;dsimp only[dx];cases b3:((c2.F:Int)==0)with
   |true=>
    have g6:((c2.F:Int) != 0)=false:=Zu;have d9:=t.w.trans (EO r b3);have L:=aa d9;obtain⟨G,a6,b0⟩:=e.w.j3 i.w Zm;have b5:=mx i.w.az e.w.rd;have f7:=aa (US b5 b0 a6);have f9:=aa b5;have c6:=aa b0;have F:=aa a6;clear d9 t b5 b0 a6;go_wp21;refine f7.w.mono ?_;rintro w k (⟨j,rfl,g⟩|⟨b,j,b2,n,a5,rfl,q⟩);rotate_left
    .have b8:=e.w.kp.aD;exact(show bodyPost prog Tryz.f44 (wZ d c) (Exit.panic _) _ k from aE (Ya ⟨b,ads B.w L.w j,(A.w.b1 e.w.kp (by simp_all[jv])).u b2,n,Zm,rfl,q⟩))
    have b6:=f9.w.l3 g;obtain⟨f1,a0,h3,d3,d4,d5,d6⟩:=b6.nm;have e6:pW (jv c).X (jv c).N h6.K ((o++G)++a0) h3 k:=⟨f1,(c6.w.ac g Zq).b7 d3,d4,d5,λx a2 a3=>tR (λz h=>Ym _ h) (d6 x a2 a3)⟩;have d8:mm ((o++G)++a0) (.slice ad a.length a1) a s:=⟨F.w.av,F.w.row.ak (λz h=>Yf _ h),λx a2 a3=>(show mn ((o++G)++a0) (.iface (dI a[x]) (.pointer (some ⟨s[x],0,none⟩))) (some a[x])from tR (λz h=>Yf _ h) ⟨_,rfl,F.w.da x a2 a3⟩).elim (λi1 j0=>by simp_all)⟩
    have f8:=aa (Ss b6 e6 d8 (UW P.w j) (Iy j));have c4:=aa (c6.w.ac g Zq);have M:=aa g;have c7:=aa j;clear b6 f1 d3 d4 d5 d6 e6 d8 g j;go_wp21;refine f8.w.mono ?_;rintro w h5 (⟨I,rfl,e2⟩|⟨b,I,b2,n,a5,rfl,q⟩);rotate_left
    .have b8:=e.w.kp.aD;have k0:=M.w.aD;exact(show bodyPost prog Tryz.f44 (wZ d c) (Exit.panic _) _ h5 from aE (Ya ⟨b,adr B.w L.w c7.w I,((A.w.b1 e.w.kp (by simp_all[jv])).u M.w).u b2,n,Zm,rfl,q⟩))
    have f4:=aa I;have O:=aa e2;clear I e2;go_wp2;go_ret;refine Y8 ⟨a,_,s,o++G,adu B.w L.w c7.w f4.w,rfl,?_,F.w,λz h=>⟨((c4.w.ac O.w Zq) z h).1,Nat.le_of_not_lt λg7=>((c4.w.ac O.w Zq) z h).2 (Ym _ (List.mem_range.2 g7))⟩⟩;exact((A.w.b1 e.w.kp (by simp_all[jv])).u M.w).u O.w
   |false=>
    have g6:((c2.F:Int) != 0)=true:=Zu;have j9:=r;go_wp21;refine(QP (du (jv c) v) e.w.rd).mono ?_;rintro w k ⟨g,⟨p,K,g0,g1,D,rfl,J,d7,e0⟩|⟨b,D,n,a5,rfl,q⟩⟩;rotate_left
    .have b8:=e.w.kp.aD;exact(show bodyPost prog Tryz.f44 (wZ d c) (Exit.panic _) _ k from aE (Ya ⟨b,LZ B.w (t.w.trans (EN r b3 D)),(A.w.b1 e.w.kp (by simp_all[jv])).b1 g (by simp_all[jv]),n,Zm,rfl,q⟩))
    have d0:=e.w.bm i.w g Zq J;have h9:=aa (P.w.b6 D);have h7:=aa (t.w.trans (EQ r b3 D));obtain⟨k2,g8⟩:=Option.isSome_iff_exists.1 (EM d _ _ _ D).1;have d1:=d0.ah i.w (Below.refl ..).drew;have a8:=e0.ac (bT [] (Below.refl k.heap.size k).drew) Zq;have h1:=yO d7 a8;have i2:k.cell? ⟨c.heap.size+3,1,none⟩=some (.map (some (c.heap.size+1))):=J.al.2.1;have c8:=aa d1;have c5:=aa a8;have c3:=aa d7;have k1:c.heap.size+3<k.heap.size:=J.lt.1;clear t g J e0 e P d0 d1 a8 g2;go_wp21;refine cy (λc0=>c0.cell? ⟨c.heap.size+3,1,none⟩=some (.map (some (c.heap.size+1)))) ?_ λg4=>?_
    .go_keep
    refine bI [0,1,2,3,4,7] ?_;iterate 6 (refine bK ?_)
    refine bJ ?_;refine cx 5 λR C=>?_;(go_simp;go_at_call 327;refine(xh _ _ _).mono ?_;rintro w c1 ⟨rfl,a4⟩;have m:=c8.w.ah i.w a4;have i3:c1.cell? ⟨c.heap.size+3,1,none⟩=some (.map (some (c.heap.size+1))):=m.rd.al.2.1;have a9:=c5.w.ac (bT [] a4) Zq;obtain⟨y,e7,e5⟩:=hZ.a5 m.rd.nm m.rd.az.2.2.1 g8 c3.w a9;have e9:=Rd.kJ m.rd e5;have d2:=aa (m.bm i.w (jC ..) (by simp_all[Ad.aw]) e9);have f5:=aa (a9.ac (jC c1 (c.heap.size+1) y) (by intro k4 f0;simp only[Yc]at f0;subst f0;exact m.rd.az.2.2.1));dsimp only[Ad.aw,jv]at e7;clear a4 m a9 e5 e9);refine C.out _ _ ?_ (λg4=>?_)
    .go_keep
    clear C R;refine nz ?_;refine pJ 6 ?_;refine cw λR C=>?_;go_simp;refine C.out _ _ ?_;clear C R;refine nz ?_;obtain⟨f,b7⟩:∃f,f=eG c1 (c.heap.size+1) y:=⟨_,rfl⟩;rw[<-b7];have S:af (kO (jv c) d (lz d c) a s o v (.slice ad a.length a1) { K with K:=ep K.K (bQ p).1 p } f):=by rw[b7];exact d2
    have f6:af (bW ((jv c).aw v).X g1 f):=Zu;clear d2 f5 e7 b7 h1 c8 c5;have g9:∀y,(f.alloc y).ownsRow (lz d c).heap.size 157 1 (.slice ad a.length a1) a.length (sU a s):=λy=>S.w.h7 y;have j8:(lz d c).heap.size<=f.heap.size:=S.w.kp.aD;have j:(a.length+1)*16<=140737488355328:=Zm;go_wp2_with (first
     |(at_builtin;refine kl TJ underlying99 (g9 _) [.iface (dI p) (.pointer (some ⟨g0,0,none⟩))] (heap_alloc_new f _) Zy j Zx (H:=f.heap.size+1) Zq ?_;intro g3 i4 k3 h0 g5 i9 e4))
    have i0:=aa (OM i.w S.w c3.w f6.w ((Below.refl f.heap.size f).alloc (Y4 _) _) h0 g5 Zu e4);have h8:af (eU d 69 [] fS=eU d (69-(a++[p]).length) (a++[p]) { K with K:=ep K.K (bQ p).1 p }):=by
     simp_all
    grind [Aj]
end
def Fw(a:Nat)(b:Zw):Calls prog 43 #[.iface 143 (Zp a)] b λc d=>c=.returned (.iface 143 (Zp a))/\d=b:=by
 have e:=qU 143 a 20 143;go_in;go_wp2;go_ret;simp
def Uh(a:Nat):Zb:=
 if((a:Int)==0)then Jk else if((a:Int)==1)then Jb else if((a:Int)==2)then Jq else if((a:Int)==3)then JG else Js
def lb:Ty->Zb
 |.named b _=>b
 |.plain a=>Uh a
 |_=>[118,111,105,100]
section
variable {a d:Zo}{c b:Type}
structure dD where
 e6:Int
 e4:Int
 h6:Option (List Int)
 b8:Bool
inductive ck where
 |hole
 |call (dest:Nat)
 |ret
 |fin
 |jump (dest:Nat)
 |num (n:dD)
 |text (n:Int) (f:Bool)
 |struct (n:Int) (f:Bool)
 |array (n:Int) (f:Bool) (dest:Nat)
 |again
 |choice (n:dD) (ways:List (Int×Nat×Nat)) (other:Option (Nat×Nat))
def cq[DecidableEq b](d:List (b×c))(a:b)(v:c):List (b×c):=if a∈d.map (·.1)then d.map λe=>if e.1=a then (a,v)else e else d++[(a,v)]
theorem Wj[DecidableEq b](a:List (b×c))(d:b)(v:c):(cq a d v).map (·.1)=if d∈a.map (·.1)then a.map (·.1)else a.map (·.1)++[d]:=by
 unfold cq;split
 .rw[List.map_map];apply List.map_congr_left;grind
 simp
def tn[DecidableEq b]{a:List (b×c)}(e:(a.map (·.1)).Nodup)(d:b)(v:c):((cq a d v).map (·.1)).Nodup:=by
 grind [Wj]
structure bh where
 ab:List ck
 cj:List (Zb×Nat)
 c4:List (Zb×dD)
 aL:List (Nat×Zb)
def aT(x:ck)(a:bh):bh:={ a with ab:=a.ab++[x] }
def dn(b:Nat)(c:ck)(a:bh):bh:={ a with ab:=a.ab.set b c }
def jR(b:Zb)(a:bh):bh:={ a with ab:=a.ab++[.call 0],aL:=a.aL++[(a.ab.length,b)] }
def yG(a:Zb)(b:bh):bh:=aT .fin (jR a b)
def dF(a:Nat):dD:=if a=0 then ⟨-2147483648,2147483647,none,false⟩else if a=1 then ⟨0,4294967295,none,false⟩else if a=4 then ⟨0,1,none,false⟩else ⟨-9223372036854775808,9223372036854775807,none,true⟩
def kg:Ty->Prop
 |.arr _ _ _=>False
 |.opt _=>False
 |_=>True
def ib:Ty->Prop
 |.arr a _ _=>kg a
 |.opt a=>kg a
 |_=>True
def dk:Ty->bh->bh
 |.named f _,a=>jR f a
 |.plain e,a=>aT (.num (dF e)) a
 |.opaq c b,a=>aT (.text c b) a
 |.str c b,a=>aT (.text c b) a
 |.arr d c b,a=>dn a.ab.length (.array c b ((dk d (aT .hole a)).ab.length+1)) (aT .again (dk d (aT .hole a)))
 |.opt d,a=>dn a.ab.length (.choice (dF 4) [(0,(dk d (aT .hole a)).ab.length,0),(1,a.ab.length+1,1)] none) (dk d (aT .hole a))
 |.void,a=>a
def vm:dD:=⟨0,0,none,false⟩
def iN(b:bh):Ty->dD
 |.named c _=>(aO b.c4 c).getD vm
 |.plain a=>dF a
 |_=>vm
def ly:Ty->Bool
 |.void=>true
 |_=>false
def gp(a:aW)(b:bh):Nat×Nat:=(b.ab.length,if ly a.O then 0 else 1)
def lR(a:aW)(b:bh):bh:=dk a.O b
def hP(a:List (Zb×Nat×Int)):dD:=⟨-2147483648,2147483647,if a=[]then none else some (a.map (·.2.2)),false⟩
def qS(b:List aW)(a:bh):bh:=b.foldl (λa c=>dk c.O a) (aT (.struct b.length true) a)
structure oe where
 s:bh
 c1:List (Int×Nat×Nat)
 df:Option (Nat×Nat)
 cs:List Nat
def cz(q:oe)(a:List Int×aW):oe:=
 { s:=aT (.jump 0) (lR a.2 q.s),c1:=a.1.foldl (λb c=>cq b c (gp a.2 q.s)) q.c1,df:=if a.1=[]then some (gp a.2 q.s)else q.df,cs:=q.cs++[(lR a.2 q.s).ab.length] }
def jS(c:List Nat)(a:bh):bh:=c.foldl (λa b=>dn b (.jump a.ab.length) a) a
def pL(d:aW)(c:List (List Int×aW))(b:bh):bh:=
 let a:=c.foldl cz ⟨aT .hole b,[],none,[]⟩
 jS a.cs (dn b.ab.length (.choice (iN b d.O) a.c1 a.df) a.s)
def kS(c:Zb)(b:Nat)(a:bh):bh:={ aT .ret a with cj:=cq a.cj c b }
def ht(c:aC)(a:bh):bh:=match c with
 |.typedef c=>kS c.t a.ab.length (dk c.O a)
 |.enum b _ d=>kS b a.ab.length (aT (.num (hP d)) { a with c4:=cq a.c4 b (hP d) })
 |.struct b _ d=>kS b a.ab.length (qS d a)
 |.union b _ f e=>kS b a.ab.length (pL f e a)
 |_=>a
def tg(a:bh):bh:=a.aL.foldl (λa b=>dn b.1 (.call ((aO a.cj b.2).getD 0)) a) a
def si:bh:=⟨[],[],[],[]⟩
def dJ(p:bh×List (Zb×Nat))(a:aC):bh×List (Zb×Nat):=
 if(aO p.1.cj (bQ a).1).isSome then (yG (bQ a).1 p.1,cq p.2 (bQ a).1 p.1.ab.length)else p
def nf(b:Ty)(a:bh):bh:=aT .fin (dk b a)
def dB(a:Int):Int:=a % 4294967296
def jY(b:bh×List (Int×Nat×Nat))(a:gg):bh×List (Int×Nat×Nat):=
 (nf a.cu (nf a.cP b.1),cq b.2 (dB a.num) (b.1.ab.length,(nf a.cP b.1).ab.length))
def tM(v:fH)(a:bh):bh×List (Int×Nat×Nat):=v.aq.foldl jY (a,[])
structure ki where
 lo:Int
 hi:Int
 vs:List (Int×List (Int×Nat×Nat))
def md(a:bh×ki)(v:fH):bh×ki:=
 ((tM v a.1).1,⟨min a.2.lo (dB v.num),max a.2.hi (dB v.num),cq a.2.vs (dB v.num) (tM v a.1).2⟩)
def wt(a:List fH)(b:bh):bh×ki:=
 a.foldl md (b,⟨(a.head?.map λv=>dB v.num).getD 0,(a.head?.map λv=>dB v.num).getD 0,[]⟩)
def gJ(q:bh×List (Int×ki))(b:aC):bh×List (Int×ki):=match b with
 |.prog _ _ a c=>((wt a q.1).1,cq q.2 (dB c) (wt a q.1).2)
 |_=>q
def EA(a:List aC):bh×List (Zb×Nat):=a.foldl dJ (a.foldl (λc b=>ht b c) si,[])
def AQ(a:List aC):bh×List (Int×ki):=a.foldl gJ ((EA a).1,[])
def gV(a:List aC):List ck×List (Zb×Nat):=((tg (AQ a).1).ab,(EA a).2)
def oz(a:List (Zv×Zv)):Obj:=.map (a.mapIdx λc b=>⟨b.1,b.2,c⟩).toArray a.length
abbrev rT(a:Nat):Zv:=U a
def jn(b:List (Int×Nat×Nat)):Obj:=oz (b.map λa=>(U a.1,.agg #[U a.2.1,U a.2.2]))
def kz(b:List (Zb×Nat)):Obj:=oz (b.map λa=>(.string ⟨a.1.toArray⟩,U a.2))
def FJ(a:Zo)(v:Zv):Option (List Int)->Prop
 |none=>v=.slice none 0 0
 |some b=>b≠[]/\hn a 2 v b.length (b.map λc=>Value.int .i64 c)
def hJ(a:Zo)(g:Zl)(b:dD):Prop:=∃c,g=[U b.e6,U b.e4,c,.bool b.b8]/\FJ a c b.h6/\∃d e f,c=.slice d e f
def pZ(a:Zo)(v:Zv):Option (Nat×Nat)->Prop
 |none=>v=.pointer none
 |some c=>∃b,v=.pointer (some ⟨b,0,none⟩)/\(b,Obj.cells #[.int .i64 c.1,.int .i64 c.2] 394)∈a
def ln(a:Zo)(v:Zv):ck->Prop
 |.hole=>∃h k,v=.iface h k
 |.call d=>v=.iface 271 (.agg #[.int .i64 d])
 |.ret=>v=.iface 257 (.agg #[])
 |.fin=>v=.iface 397 (.agg #[])
 |.jump d=>v=.iface 396 (.agg #[.int .i64 d])
 |.num b=>∃c,v=.iface 247 (.agg c.toArray)/\hJ a c b
 |.text b e=>v=.iface 379 (.agg #[.int .i64 b,.bool e])
 |.struct b e=>v=.iface 387 (.agg #[.int .i64 b,.bool e])
 |.array b e d=>v=.iface 449 (.agg #[.int .i64 b,.bool e,.int .i64 d])
 |.again=>v=.iface 450 (.agg #[])
 |.choice b j i=>∃c f g,v=.iface 392 (.agg (c++[.map (some f),g]).toArray)/\hJ a c b/\(f,jn j)∈a/\pZ a g i
def hn.a2(n:∀o∈a,o∈d){c v e f}(b:hn a c v e f):hn d c v e f:=by
 rcases b with b|⟨i,g,h,j,k,l,m⟩
 .exact Y8 b
 .exact Ya ⟨i,g,h,j,k,n _ l,m⟩
def hJ.a2(j:∀l∈a,l∈d){e c}(g:hJ a e c):hJ d e c:=by
 obtain⟨k,h,b,i⟩:=g;refine⟨k,h,?_,i⟩;cases f:c.h6 with
 |none=>rw[f]at b;exact b
 |some m=>rw[f]at b;exact⟨b.1,b.2.a2 j⟩
def ln.a2(b:∀r∈a,r∈d){v h}(e:ln a v h):ln d v h:=by
 cases h with
 |num o=>obtain⟨c,f,g⟩:=e;exact⟨c,f,g.a2 b⟩
 |choice o t p=>
  obtain⟨c,n,q,f,g,k,i⟩:=e;refine⟨c,n,q,f,g.a2 b,b _ k,?_⟩;cases p with
  |none=>exact i
  |some s=>obtain⟨j,l,m⟩:=i;exact⟨j,l,b _ m⟩
 |_=>exact e
def ln.n5{v x}(b:ln a v x):∃c g,v=.iface c g:=by
 cases x with
 |hole=>exact b
 |num f=>obtain⟨d,e,_⟩:=b;simp_all
 |choice f k i=>obtain⟨d,h,j,e,_⟩:=b;simp_all
 |_=>exact⟨_,_,b⟩
end
section
def eg(b:List aC):bh:=b.foldl (λs a=>ht a s) si
theorem xA(b:List aC)(a:aC):eg (b++[a])=ht a (eg b):=by simp[eg]
def kF(s:bh):Prop:=∀a∈s.aL,a.1<s.ab.length
variable {s : bh}
def mH(a:kF s)(d:ck):kF (aT d s):=λc b=>by
 have:=a c b;simp[aT];omega
def zI(a:kF s)(c:Nat)(e:ck):kF (dn c e s):=λd b=>by
 simp only[dn,YF];exact a d b
def GE(b:kF s)(d:Zb):kF (jR d s):=λc a=>by
 simp only[jR,Yn,Yc,Yq,YC,List.length_nil]at a ⊢;rcases a with a|rfl
 .have:=b c a;omega
 .simp
def xz:∀(c:Ty) (s:bh),kF s->kF (dk c s):=by
 intro c;induction c with
 |plain h=>intro s a;exact mH a _
 |named i g=>intro s a;exact GE a _
 |opaq e d=>intro s a;exact mH a _
 |str e d=>intro s a;exact mH a _
 |arr f e d b=>intro s a;exact zI (mH (b _ (mH a _)) _) _ _
 |opt f b=>intro s a;exact zI (b _ (mH a _)) _ _
 |void=>intro s a;exact a
def sP{h d:Type}(b:d->bh)(g:d->h->d)(i:∀a e,kF (b a)->kF (b (g a e))):∀(c:List h) (a:d),kF (b a)->kF (b (c.foldl g a)):=by
 intro c;induction c with
 |nil=>intro a f;exact f
 |cons e c j=>intro a f;exact j _ (i a e f)
def PP(h:aC)(s:bh)(b:kF s):kF (ht h s):=by
 have f:∀{m:bh} (l:Zb) (a:Nat),kF m->kF (kS l a m):=λl a p=>mH p .ret;cases h with
 |const a c o=>exact b
 |prog a c o g=>exact b
 |typedef h=>exact f _ _ (xz _ _ b)
 |enum j a i=>exact f _ _ (mH (s:={ s with c4:=cq s.c4 j (hP i) }) b _)
 |struct j a i=>exact f _ _ (sP (λk=>k) (λs (e:aW)=>dk e.O s) (λc (e:aW) d=>xz e.O c d) i _ (mH b _))
 |union j a q n=>exact f _ _ (sP (λk=>k) (λs (g:Nat)=>dn g (.jump s.ab.length) s) (λc g d=>zI d g _) _ _ (zI (sP oe.s cz (λc e d=>mH (xz e.2.O _ d) _) n _ (mH b _)) _ _))
def ZK{ds}:kF (AQ ds).1:=by
 refine sP Prod.fst gJ (λc b a=>?_) ds _ (sP Prod.fst dJ (λc b a=>?_) ds _ (sP (λf=>f) (λs (b:aC)=>ht b s) (λc b a=>PP b c a) ds _ (λi d=>by simp[si]at d)))
 .cases b with
  |prog g h e j=>exact sP Prod.fst md (λc v a=>sP Prod.fst jY (λc k a=>mH (xz _ _ (mH (xz _ _ a) _)) _) v.aq _ a) e _ a
  |_=>exact a
 .unfold dJ;split
  .exact mH (GE a _) _
  .exact a
end
section
variable {T et kt:TypeId}{d:TypeDesc}{f e:Type}
section
variable {P : Program} {w : Zw}
def abw(t:P.underlying T=some (.map kt et))(m:P.underlying kt=some d){a}(n:IsKey d a)(s:Instr.keyThatStays a a=pure a){f:Nat}{c h}
  (l:w.heap[f]? = some (.map c h)) (q:∀g∈c.toList,IsKey d g.key) (u:∃g∈c.toList,g.key=a) (v:Zv) :
  ∃(e:Nat) (b:MapEntry),c.toList[e]? = some b/\b.key=a/\
   (Instr.mapUpdate T (.map (some f)) a v).run P w=.ok () (eG w f (.map (c.modify e λb=>{ b with key:=a,val:=v }) h)):=by
 have p:=λo=>MapKept.run_checkKey (w:=w) m n o 9999;rcases findNow_spec n c.toList 0 q with⟨i,j⟩|⟨e,b,i,j,k⟩
 .grind
 .refine⟨e,b,j,k,?_⟩;have r:c[e]? = some b:=Zu;simp[Instr.mapUpdate,Instr.findKey,run_underlying t,run_underlying m,MapKept.run_getObj_map l,p,i,r,k,s,MapKept.run_setObj_map _ l,Result.andThen]
def EB(a:Za):Instr.keyThatStays (.string a) (.string a)=pure (.string a):=by
 unfold Instr.keyThatStays;rw[Y9 (by show (a==a)=true;simp_all[bytes_beq])]
def ach(a:Int):Instr.keyThatStays (U a) (U a)=pure (U a):=by
 unfold Instr.keyThatStays;rw[Y9 (by show ((IntKind.i64==IntKind.i64)&&(a==a))=true;simp)]
def uE[DecidableEq e](y:P.underlying T=some (.map kt et))(t:P.underlying kt=some d)(g:e->Zv)(i:f->Zv)(r:∀a,IsKey d (g a))(C:∀a,Instr.keyThatStays (g a) (g a)=pure (g a))(I:∀k q,g k=g q->k=q)
  {j:Nat} {b:List (e×f)} (s:w.heap[j]? = some (oz (b.map λc=>(g c.1,i c.2)))) (z:(b.map (·.1)).Nodup) (a:e) (v:f) :
  (Instr.mapUpdate T (.map (some j)) (g a) (i v)).run P w=.ok () (eG w j (oz ((cq b a v).map λc=>(g c.1,i c.2)))):=by
 have u:∀H∈((b.map λc=>(g c.1,i c.2)).mapIdx λh c=>(⟨c.1,c.2,h⟩:MapEntry)).toArray.toList,IsKey d H.key:=by
  grind
 by_cases x:a∈b.map (·.1)
 .obtain⟨c,F,R⟩:=YE.1 x;obtain⟨h,J,rfl⟩:=List.getElem_of_mem F;obtain⟨o,A,l,B,n⟩:=abw y t (r a) (C a) s u ⟨⟨g b[h].1,i b[h].2,h⟩,by
    grind,Zg⟩ (i v)
  rw[n];simp only[List.toList_toArray,List.getElem?_mapIdx]at l;have K:o<b.length:=by
   grind
  rw[Yd Zg]at l;simp at l;subst l;simp only at B;have D:h=o:=by
   have G:(b.map (·.1))[h]' Zg=(b.map (·.1))[o]' Zg:=Zg;exact wl z _ _ _ _ G
  subst D;refine Yo (λp=>Result.ok () (eG w j p)) ?_;unfold oz cq;rw[Y9 x];simp only[YU];refine Yo (λk=>Obj.map k _) ?_;apply Array.ext';simp only[Array.toList_modify];apply List.ext_getElem
  .simp
  .intro m M N;have L:m<b.length:=Zg;by_cases E:h=m
   .grind
   .have O:¬b[m].1=a:=λA=>E (wl z h m Zg Zg Zg);grind
 .have n:=AR y t (r a) s u (by
   grind) (i v)
  rw[n];refine Yo (λp=>Result.ok () (eG w j p)) ?_;unfold oz cq;grind
def ci[DecidableEq e](b:List (e×f))(a:e):Option f:=(b.find? λc=>c.1==a).map (·.2)
def Vt[DecidableEq e]{b:List (e×f)}{a:e}(d:∀c∈b,c.1≠a):ci b a=none:=by
 grind [ci]
theorem Vu[DecidableEq e]{a:List (e×f)}{c:e}(g:(a.map (·.1)).Nodup){b:e×f}(h:b∈a)(d:b.1=c):ci a c=some b.2:=by
 induction a with
 |nil=>grind
 |cons j k i=>
  grind [ci]
def xW(b:List (Zb×f))(a:Zb):aO b a=ci b a:=by
 unfold aO ci;grind
def xY[DecidableEq e](x:P.underlying T=some (.map kt et))(s:P.underlying kt=some d)(b:e->Zv)(g:f->Zv)(q:∀i,IsKey d (b i))(C:∀m n,b m=b n->m=n)
  {l:Nat} {c:List (e×f)} (r:w.heap[l]? = some (oz (c.map λa=>(b a.1,g a.2)))) (F:(c.map (·.1)).Nodup) {z} (y:(zeroValue et).run P w=.ok z w) (i:e) (j:Bool) :
  (Instr.lookup T (.map (some l)) (b i) j).run P w=.ok (match ci c i with
   |some v=>if j then .tuple #[g v,.bool true]else g v
   |none=>if j then .tuple #[z,.bool false]else z) w:=by
 have t:∀A∈((c.map λa=>(b a.1,g a.2)).mapIdx λh a=>(⟨a.1,a.2,h⟩:MapEntry)).toArray.toList,IsKey d A.key:=by
  grind
 rcases xX x s (q i) r t y j with⟨k,o⟩|⟨E,p,k,o,B⟩
 .rw[Vt (λa u p=>?_),o];obtain⟨h,D,rfl⟩:=List.getElem_of_mem u;refine k ⟨b c[h].1,g c[h].2,h⟩ ?_ Zg;grind
 .simp only[List.toList_toArray,List.getElem?_mapIdx]at k;grind [Vu]
end
def uZ(a b:Zb)(c:(Zs a)=Zs b):a=b:=by
 simp_all
def HZ(a b:Int)(c:(U a)=U b):a=b:=by
 simp_all
structure ee(w:Zw)(b:List Nat)(Fr c:Zo)(a:Zw):Prop where
 kp:an [] w a
 aB:∀y∈b,w.heap.size<=y
 lt:∀y∈b,y<a.heap.size
 nd:b.Nodup
 hf:bW b Fr a
 hb:bW b c a
 d5:(Fr.map (·.1)).Nodup
 fy:∀p∈Fr,w.heap.size<=p.1
 gA:∀p∈Fr,∀q∈c,p.1≠q.1
section
variable {w a u' : Zw} {b : List Nat} {Fr c : List (Nat × Obj)}
def ee.bm{h}(d:ee w b Fr c a)(e:an h a u')(g:∀f∈h,f∈b):ee w b Fr c u':=
 ⟨d.kp.b1 e (λf i=>Ya (d.aB f (g f i))),d.aB,λk j=>Yr (d.lt k j) e.aD,d.nd,d.hf.ac e g,d.hb.ac e g,d.d5,d.fy,d.gA⟩
def ee.ah(d:ee w b Fr c a)(e:Below a.heap.size a u'):ee w b Fr c u':=d.bm (bT [] e) Zq
def zk{A B:List Nat}{r:Option Nat}{h:Nat}(d:ee w (A++(r.toList++B)) Fr c a)(p:a.grownBy u' r)(n:r=some h\/h=a.heap.size)(y:h<u'.heap.size)(z:w.heap.size<=h):ee w (A++([h]++B)) Fr c u':=by
 have q:=gt p;have j:=d.bm q (λC i=>Ym _ (Yf _ i));have m:∀b∈A++([h]++B),b=h\/b∈A++(r.toList++B):=by
  grind
 have o:∀k:Zo,bW (A++(r.toList++B)) k a->∀f∈k,f.1 ∉ A++([h]++B):=by
  intro k l f g i;rcases m _ i with u|i
  .rcases n with t|t
   .exact(l f g).2 Zu
   .have:=au (l f g).1;omega
  .exact(l f g).2 i
 refine⟨j.kp,?_,?_,?_,λf g=>⟨(j.hf f g).1,o _ d.hf f g⟩,λf g=>⟨(j.hb f g).1,o _ d.hb f g⟩,d.d5,d.fy,d.gA⟩
 .intro b e;rcases m b e with rfl|e
  .omega
  .exact d.aB b e
 .intro b e;rcases m b e with rfl|e
  .omega
  .exact j.lt b e
 .rcases n with rfl|rfl
  .exact d.nd
  .have v:∀b∈A,b<a.heap.size:=λb e=>d.lt b (Yf _ e);have x:∀b∈B,b<a.heap.size:=λb e=>d.lt b (Ym _ (Ym _ e));have s:=d.nd;rw[YJ]at s ⊢;grind
def ee.H(e:ee w b Fr c a)(i:Obj):ee w b ((a.heap.size,i)::Fr) c (a.alloc i):=by
 have g:=e.bm ((ao [] a).H i) Zq;refine⟨g.kp,e.aB,g.lt,e.nd,?_,g.hb,?_,?_,?_⟩
 .intro f d;rcases Yg.1 d with rfl|d
  .exact⟨aQ rfl,λh=>by have:=e.lt _ h;omega⟩
  .exact g.hf f d
 .simp only[List.map_cons,List.nodup_cons];refine⟨?_,e.d5⟩;intro h;obtain⟨f,d,l⟩:=YE.1 h;have:=au (e.hf f d).1;omega
 .intro f d;rcases Yg.1 d with rfl|d
  .exact e.kp.aD
  .exact e.fy f d
 .intro f d k j;rcases Yg.1 d with rfl|d
  .have:=au (e.hb k j).1;omega
  .exact e.gA f d k j
theorem ee.dN{f:Nat}{o m:Obj}(d:ee w b ((f,o)::Fr) c a)(k:an [f] a u')(u:u'.heap[f]? = some m):ee w b ((f,m)::Fr) c u':=by
 have s:w.heap.size<=f:=d.fy (f,o) Zq;have p:=d.d5;simp only[List.map_cons,List.nodup_cons]at p;have t:f ∉ b:=(d.hf (f,o) Zq).2;refine⟨d.kp.b1 k Zu,d.aB,λr q=>Yr (d.lt r q) k.aD,d.nd,?_,?_,d.d5,?_,?_⟩
 .intro i e;rcases Yg.1 e with rfl|e
  .simp_all
  .obtain⟨g,l⟩:=d.hf i (Y5 _ e);exact⟨(k.L _ (au g) Zg).trans g,l⟩
 .intro j h;obtain⟨g,l⟩:=d.hb j h;exact⟨(k.L _ (au g) (by simp;exact λn=>d.gA (f,o) Zq j h n.symm)).trans g,l⟩
 .intro i e;rcases Yg.1 e with rfl|e
  .omega
  .exact d.fy i (Y5 _ e)
 .intro i e j h;rcases Yg.1 e with rfl|e
  .exact d.gA (f,o) Zq j h
  .exact d.gA i (Y5 _ e) j h
def ee.hv{i:Nat}{j:Obj}(d:ee w b ((i,j)::Fr) c a):ee w b Fr ((i,j)::c) a:=by
 have h:=d.d5;simp only[List.map_cons,List.nodup_cons]at h;refine⟨d.kp,d.aB,d.lt,d.nd,λf e=>d.hf f (Y5 _ e),?_,h.2,λf e=>d.fy f (Y5 _ e),?_⟩
 .intro f e;rcases Yg.1 e with rfl|e
  .exact d.hf _ Zq
  .exact d.hb f e
 .intro f e k g;rcases Yg.1 g with rfl|g
  .grind
  .exact d.gA f (Y5 _ e) k g
def ee.bE{Fr':Zo}(e:ee w b Fr c a)(g:∀d∈Fr',d∈Fr)(h:(Fr'.map (·.1)).Nodup):ee w b Fr' c a:=
 ⟨e.kp,e.aB,e.lt,e.nd,λd f=>e.hf d (g d f),e.hb,h,λd f=>e.fy d (g d f),λd f=>e.gA d (g d f)⟩
def ee.b0{f:Nat×Obj}(d:ee w b (f::Fr) c a):ee w b Fr c a:=d.bE (λ_ e=>Y5 _ e) (List.nodup_cons.1 d.d5).2
end
end
section
theorem DB{e d h:Type}[DecidableEq e](b:d->h)(c:List (e×d))(f:e)(v:d):(cq c f v).map (λa=>(a.1,b a.2))=cq (c.map λa=>(a.1,b a.2)) f (b v):=by
 have g:(c.map λa=>(a.1,b a.2)).map (·.1)=c.map (·.1):=Zq;unfold cq;rw[g];split
 .rw[List.map_map,List.map_map];apply List.map_congr_left;grind
 simp
def DC{a c:Type}[DecidableEq a]{e d v}{b:a×c}(f:b∈cq e d v):b∈e\/b=(d,v):=by
 unfold cq at f;grind
def Vs{a f:Type}[DecidableEq a]{d:List (a×f)}{c:a}{v:f}(b:ci d c=some v):∃e∈d,e.1=c/\e.2=v:=by
 unfold ci at b;rw[Option.map_eq_some_iff]at b;grind
structure iq where
 C:Nat
 B:Nat
 E:Nat
def hg(a:iq)(b ks:Zv):List Nat:=[a.C,a.B,a.E]++(b.ownBlock.toList++ks.ownBlock.toList)
abbrev rE(a:Nat×Zb):Zl:=[U a.1,.string ⟨a.2.toArray⟩]
def zi(c:Zo)(v:Zv)(b:dD):Prop:=∃a,v=.agg a.toArray/\hJ c a b
structure Cp(w:Zw)(a:iq)(Fr c:Zo)(s:bh)(b ks:Zv)(e:List (ck×Zv))(et:List (Zb×dD×Zv))(u:Zw):Prop where
 ae:ee w (hg a b ks) Fr c u
 ap:u.heap[a.C]? = some (.cells #[b,.map (some a.B),.map (some a.E),ks] 167)
 f0:u.heap[a.B]? = some (kz s.cj)
 hr:(s.cj.map (·.1)).Nodup
 fk:u.heap[a.E]? = some (oz (et.map λp=>(.string ⟨p.1.toArray⟩,p.2.2)))
 hk:(et.map (·.1)).Nodup
 h0:s.c4=et.map λp=>(p.1,p.2.1)
 h1:∀p∈et,zi c p.2.2 p.2.1
 row:u.ownsRow w.heap.size 273 1 b s.ab.length (e.map (·.2))
 hs:s.ab=e.map (·.1)
 hH:∀p∈e,ln c p.2 p.1
 hw:u.ownsRow w.heap.size 269 2 ks s.aL.length (s.aL.flatMap rE)
 bn:∀p∈c,w.heap.size<=p.1
def ej(w:Zw)(a:iq)(Fr c:Zo)(s:bh)(u:Zw):Prop:=∃d b ks e et,(∀f∈c,f∈d)/\Cp w a Fr d s b ks e et u
section
variable {w u u' : Zw} {a : iq} {Fr c : List (Nat × Obj)} {s : bh} {b ks : Zv} {e : List (ck × Zv)} {et : List (Zb × dD × Zv)}
def Cp.c9(d:Cp w a Fr c s b ks e et u):ej w a Fr c s u:=⟨c,b,ks,e,et,λ_ f=>f,d⟩
def Xu(a:iq)(b ks:Zv):a.C∈hg a b ks/\a.B∈hg a b ks/\a.E∈hg a b ks/\(∀c,b.ownBlock=some c->c∈hg a b ks)/\(∀c,ks.ownBlock=some c->c∈hg a b ks):=by
 grind [hg]
def Cp.hM(h:Cp w a Fr c s b ks e et u):a.C≠a.B/\a.C≠a.E/\a.B≠a.E/\(∀d,b.ownBlock=some d->d≠a.C/\d≠a.B/\d≠a.E)/\(∀d,ks.ownBlock=some d->d≠a.C/\d≠a.B/\d≠a.E/\b.ownBlock≠some d):=by
 have g:=h.ae.nd;unfold hg at g;rw[YJ,YJ]at g;obtain⟨f,⟨i,j,k⟩,l⟩:=g;simp only[List.nodup_cons,Yg,List.not_mem_nil,not_or,or_false]at f;refine⟨f.1.1,f.1.2,f.2.1,?_,?_⟩;all_goals grind
def Cp.e1{o}{n j:Zo}(d:Cp w a Fr c s b ks e et u)(i:an o u u')(h:∀y∈o,y ∉ hg a b ks)(p:∀g∈c,g∈j)(x:ee w (hg a b ks) n j u')(v:∀g∈j,w.heap.size<=g.1):Cp w a n j s b ks e et u':=by
 obtain⟨z,A,B,C,D⟩:=Xu a b ks;refine⟨x,(i.L _ (au d.ap) (λf=>h _ f z)).trans d.ap,(i.L _ (au d.f0) (λf=>h _ f A)).trans d.f0,d.hr,(i.L _ (au d.fk) (λf=>h _ f B)).trans d.fk,d.hk,d.h0,
  λg m=>?_,bw d.row i (λk l f=>h _ f (C k l)),d.hs,λg m=>(d.hH g m).a2 p,bw d.hw i (λk l f=>h _ f (D k l)),v⟩
 obtain⟨q,r,t⟩:=d.h1 g m;exact⟨q,r,t.a2 p⟩
def Cp.ah(d:Cp w a Fr c s b ks e et u)(f:Below u.heap.size u u'):Cp w a Fr c s b ks e et u':=d.e1 (bT [] f) Zq (λ_ g=>g) (d.ae.ah f) d.bn
def Cp.H(f:Cp w a Fr c s b ks e et u)(d:Obj):Cp w a ((u.heap.size,d)::Fr) c s b ks e et (u.alloc d):=f.e1 ((ao [] u).H d) Zq (λ_ g=>g) (f.ae.H d) f.bn
theorem Cp.dN{d:Nat}{o h:Obj}(f:Cp w a ((d,o)::Fr) c s b ks e et u)(g:an [d] u u')(i:u'.heap[d]? = some h):Cp w a ((d,h)::Fr) c s b ks e et u':=
 f.e1 g (by simpa using (f.ae.hf (d,o) Zq).2) (λ_ j=>j) (f.ae.dN g i) f.bn
def Cp.hv{f:Nat}{g:Obj}(d:Cp w a ((f,g)::Fr) c s b ks e et u):Cp w a Fr ((f,g)::c) s b ks e et u:=d.e1 (ao [] u) Zq (λ_ h=>Y5 _ h) d.ae.hv (List.forall_mem_cons.2 ⟨d.ae.fy (f,g) Zq,d.bn⟩)
def Cp.b0{g:Nat×Obj}(d:Cp w a (g::Fr) c s b ks e et u):Cp w a Fr c s b ks e et u:=d.e1 (ao [] u) Zq (λ_ f=>f) d.ae.b0 d.bn
def Cp.bE{Fr':Zo}(d:Cp w a Fr c s b ks e et u)(h:∀i∈Fr',i∈Fr)(f:(Fr'.map (·.1)).Nodup):Cp w a Fr' c s b ks e et u:=d.e1 (ao [] u) Zq (λ_ g=>g) (d.ae.bE h f) d.bn
def Cp.cS(f:Cp w a Fr c s b ks e et u):∃ad d,b=.slice ad s.ab.length d:=by
 rcases f.row.2 with⟨rfl,i⟩|⟨h,d,g,rfl,_⟩;all_goals simp_all
def Cp.lq(f:Cp w a Fr c s b ks e et u):∃ad d,ks=.slice ad s.aL.length d:=by
 rcases f.hw.2 with⟨rfl,i⟩|⟨h,d,g,rfl,_⟩;all_goals simp_all
def Cp.al(d:Cp w a Fr c s b ks e et u):u.cell? (Zd a.C 0)=some b/\u.cell? (Zd a.C 1)=some (.map (some a.B))/\u.cell? (Zd a.C 2)=some (.map (some a.E))/\u.cell? (Zd a.C 3)=some ks/\(∀f,u.frozen? ⟨a.C,f,none⟩=false)/\a.C<u.heap.size:=by
 refine⟨?_,?_,?_,?_,?_,au d.ap⟩<;>simp[World.cell?,World.frozen?,d.ap]
def No{q h:Zw}{g k:Nat}{r v}(f:Cp w a Fr c s b ks e et u)(P:ln c v r)(y:Below u.heap.size u q)
  (D:h.ownsRow w.heap.size 273 1 (.slice (some ⟨g,0,none⟩) (s.ab.length+1) k) (s.ab.length+1) (e.map (·.2)++[v]))
  (l:q.grownBy h b.ownBlock) (x:b.ownBlock=some g\/g=q.heap.size) (z:g<h.heap.size) :
  Cp w a Fr c (aT r s) (.slice (some ⟨g,0,none⟩) (s.ab.length+1) k) ks (e++[(r,v)]) et (h.setCell ⟨a.C,0,none⟩ (.slice (some ⟨g,0,none⟩) (s.ab.length+1) k)):=by
 obtain⟨F,_⟩:=hR D (g:=g) rfl;have d:=f.ah y;obtain⟨I,J,K,L,M⟩:=f.hM;have t:ee w (hg a (.slice (some ⟨g,0,none⟩) (s.ab.length+1) k) ks) Fr c h:=zk (A:=[a.C,a.B,a.E]) (B:=ks.ownBlock.toList) d.ae l x z F;have n:an [a.C] h (h.setCell ⟨a.C,0,none⟩ (.slice (some ⟨g,0,none⟩) (s.ab.length+1) k)):=(ao [a.C] h).aH Zq _;have m:=gt l;have p:∀j,j=a.C\/j=a.B\/j=a.E->j ∉ b.ownBlock.toList:=by
  grind
 have H:∀j,ks.ownBlock=some j->j ∉ b.ownBlock.toList:=by
  simp_all
 have R:g≠a.C:=by
  have:=t.nd;simp[hg,Value.ownBlock]at this;omega
 refine⟨t.bm n (by simp[hg]),bv (i:=0) ((m.L _ (au d.ap) (p _ (Y8 rfl))).trans d.ap) _,?_,f.hr,?_,f.hk,f.h0,f.h1,?_,?_,?_,?_,f.bn⟩
 .exact(n.L _ (by have:=au d.f0;have:=l.size;omega) Zg).trans ((m.L _ (au d.f0) (p _ (Ya (Y8 rfl)))).trans d.f0)
 .exact(n.L _ (by have:=au d.fk;have:=l.size;omega) Zg).trans ((m.L _ (au d.fk) (p _ (Ya (Ya rfl)))).trans d.fk)
 .grind [bw,Value.ownBlock,aT]
 .simp[aT,f.hs]
 .intro G o;rcases Yn.1 o with o|o
  .exact f.hH G o
  simp_all
 .exact bw (bw d.hw m H) n (λN O=>by simp_all)
def Nn{q h:Zw}{g l:Nat}{k}(f:Cp w a Fr c s b ks e et u)(v:Below u.heap.size u q)
  (z:h.ownsRow w.heap.size 269 2 (.slice (some ⟨g,0,none⟩) (s.aL.length+1) l) (s.aL.length+1) (s.aL.flatMap rE++rE k))
  (m:q.grownBy h ks.ownBlock) (t:ks.ownBlock=some g\/g=q.heap.size) (x:g<h.heap.size) :
  Cp w a Fr c { s with aL:=s.aL++[k] } b (.slice (some ⟨g,0,none⟩) (s.aL.length+1) l) e et (h.setCell ⟨a.C,3,none⟩ (.slice (some ⟨g,0,none⟩) (s.aL.length+1) l)):=by
 obtain⟨F,_⟩:=hR z (g:=g) rfl;have d:=f.ah v;obtain⟨H,I,J,K,L⟩:=f.hM;have y:ee w (hg a b (.slice (some ⟨g,0,none⟩) (s.aL.length+1) l)) Fr c h:=by
  have O:=zk (A:=[a.C,a.B,a.E]++b.ownBlock.toList) (B:=[]) (r:=ks.ownBlock) (by simpa[hg,YN]using d.ae) m t x F;grind [hg,Value.ownBlock]
 have o:an [a.C] h (h.setCell ⟨a.C,3,none⟩ (.slice (some ⟨g,0,none⟩) (s.aL.length+1) l)):=(ao [a.C] h).aH Zq _;have n:=gt m;have p:∀j,j=a.C\/j=a.B\/j=a.E->j ∉ ks.ownBlock.toList:=by
  grind
 have G:∀j,b.ownBlock=some j->j ∉ ks.ownBlock.toList:=by
  grind
 have P:g≠a.C:=by
  rcases t with D|D
  .simp_all
  .have:=au d.ap;omega
 refine⟨y.bm o (by simp[hg]),bv (i:=3) ((n.L _ (au d.ap) (p _ (Y8 rfl))).trans d.ap) _,?_,f.hr,?_,f.hk,f.h0,f.h1,?_,f.hs,f.hH,?_,f.bn⟩
 .exact(o.L _ (by have:=au d.f0;have:=m.size;omega) Zg).trans ((n.L _ (au d.f0) (p _ (Ya (Y8 rfl)))).trans d.f0)
 .exact(o.L _ (by have:=au d.fk;have:=m.size;omega) Zg).trans ((n.L _ (au d.fk) (p _ (Ya (Ya rfl)))).trans d.fk)
 .exact bw (bw d.row n G) o (λM N=>by simp_all)
 grind [bw,Value.ownBlock]
def wQ{i:Nat}{x v}(d:Cp w a Fr c s b ks e et u)(L:ln c v x)(K:i<s.ab.length) :
  ∃f g,b=.slice (some ⟨f,0,none⟩) s.ab.length g/\s.ab.length<=g/\u.frozen? ⟨f,i,none⟩=false/\(∃A,u.cell? (Zd f i)=some A)/\f<u.heap.size/\Cp w a Fr c (dn i x s) b ks (e.set i (x,v)) et (u.setCell ⟨f,i,none⟩ v):=by
 obtain⟨B,C,D,o,p⟩:=d.hM;rcases d.row.2 with⟨rfl,H⟩|⟨f,g,m,rfl,t,j,n,y,I,J⟩
 .omega
 .have k:f∈hg a (.slice (some ⟨f,0,none⟩) s.ab.length g) ks:=by simp[hg,Value.ownBlock]
  have h:an [f] u (u.setCell ⟨f,i,none⟩ v):=(ao [f] u).aH Zq _;obtain⟨E,F,G⟩:=o f rfl;refine⟨f,g,rfl,n,by simp[World.frozen?,j],⟨m[i]' Zm,?_⟩,au j,d.ae.bm h Zu,?_,?_,d.hr,?_,d.hk,d.h0,d.h1,⟨?_,Ya ⟨f,g,m.setIfInBounds i v,?_,t,bv j v,?_,y,?_,?_⟩⟩,?_,?_,?_,d.bn⟩
  .simp[World.cell?,j]
  .exact(h.L _ (au d.ap) Zg).trans d.ap
  .exact(h.L _ (au d.f0) Zg).trans d.f0
  .exact(h.L _ (au d.fk) Zg).trans d.fk
  .have:=d.row.1;simpa[dn]using this
  .simp[dn]
  .simpa[dn]using n
  .simp_all
  .grind [dn,List.take_set,List.map_set]
  .simp[dn,d.hs,List.map_set]
  .intro z l;rcases List.mem_or_eq_of_mem_set l with l|rfl
   .exact d.hH z l
   omega
  .exact bw d.hw h (λq r=>by
    have:=(p q r).2.2.2;intro k;simp at k;subst k;exact this rfl)
def Cp.o4(f:Cp w a Fr c s b ks e et u)(h:Zb)(g:Nat) :
  (Instr.mapUpdate 103 (.map (some a.B)) (Zs h) (U g)).run prog u=.ok () (eG u a.B (kz (cq s.cj h g)))/\
  Cp w a Fr c { s with cj:=cq s.cj h g } b ks e et (eG u a.B (kz (cq s.cj h g))):=by
 obtain⟨k,l,m,n,o⟩:=f.hM;have i:=jC u a.B (kz (cq s.cj h g));refine⟨uE (P:=prog) (T:=103) (kt:=9) (et:=3) (d:=.string) Zk Zk (λj:Zb=>Zs j) (λj:Nat=>U j) (λ_=>trivial) (λ_=>EB _) uZ f.f0 f.hr h g,?_⟩;refine⟨f.ae.bm i (by simp[hg]),?_,qH (au f.f0) _,tn f.hr ..,?_,f.hk,f.h0,f.h1,bw f.row i ?_,f.hs,f.hH,bw f.hw i ?_,f.bn⟩
 .grind [ap]
 .grind [fk]
 all_goals simp_all
def Cp.lQ(i:Cp w a Fr c s b ks e et u)(h:Zb)(f:Bool) :
  (Instr.lookup 103 (.map (some a.B)) (Zs h) f).run prog u=.ok (match aO s.cj h with
   |some v=>if f then .tuple #[.int .i64 v,.bool true]else .int .i64 v
   |none=>if f then .tuple #[.int .i64 0,.bool false]else .int .i64 0) u:=by
 rw[xW];have j:=xY (P:=prog) (T:=103) (kt:=9) (et:=3) (d:=.string) Zk Zk (λg:Zb=>Zs g) (λg:Nat=>U g) (λ_=>trivial) uZ i.f0 i.hr (z:=U 0) Zk h f;grind
def Cp.o7{v x}(f:Cp w a Fr c s b ks e et u)(t:zi c v x)(g:Zb) :
  ∃l,(Instr.mapUpdate 164 (.map (some a.E)) (Zs g) v).run prog u=.ok () (eG u a.E l)/\
  Cp w a Fr c { s with c4:=cq s.c4 g x } b ks e (cq et g (x,v)) (eG u a.E l):=by
 obtain⟨n,o,p,q,r⟩:=f.hM;have m:=uE (P:=prog) (T:=164) (kt:=9) (et:=247) (d:=.string) Zk Zk (λk:Zb=>Zs k) (λk:dD×Zv=>k.2) (λ_=>trivial) (λ_=>EB _) uZ f.fk f.hk g (x,v);refine⟨_,m,?_⟩;have i:=jC u a.E (oz ((cq et g (x,v)).map λh=>(.string ⟨h.1.toArray⟩,h.2.2)));refine⟨f.ae.bm i (by simp[hg]),?_,?_,f.hr,qH (au f.fk) _,tn f.hk ..,?_,?_,bw f.row i ?_,f.hs,f.hH,bw f.hw i ?_,f.bn⟩
 .grind [ap]
 .grind [f0]
 .show cq s.c4 g x=_;rw[f.h0];simp_all[DB]
 .intro h j;rcases DC j with j|rfl
  .exact f.h1 h j
  omega
 all_goals simp_all
def Cp.n9(g:Cp w a Fr c s b ks e et u)(f:Zb):∃v,(Instr.lookup 164 (.map (some a.E)) (Zs f) false).run prog u=.ok v u/\zi c v ((aO s.c4 f).getD vm):=by
 have l:=xY (P:=prog) (w:=u) (T:=164) (kt:=9) (et:=247) (d:=.string) Zk Zk (λh:Zb=>Zs h) (λh:dD×Zv=>h.2) (λ_=>trivial) uZ g.fk g.hk (z:=.agg #[U 0,U 0,.slice none 0 0,.bool false]) Zk f false;refine⟨_,l,?_⟩;have n:zi c (.agg #[U 0,U 0,.slice none 0 0,.bool false]) vm:=⟨[U 0,U 0,.slice none 0 0,.bool false],rfl,_,rfl,rfl,_,_,_,rfl⟩;have i:aO s.c4 f=(ci et f).map (·.1):=by
  rw[xW,g.h0];unfold ci;rw[List.find?_map];simp only[Option.map_map];rfl
 rw[i];cases j:ci et f with
 |none=>simp_all
 |some o=>
  obtain⟨m,k,_,rfl⟩:=Vs j;simpa using g.h1 m k
end
end
section
variable {d:Bool}{rs:hG}{a:Ty}{b c τ:Type}
def eJ(Q:b->Prop)(c:PM b):Prop:=∀d a e,c d=.ok (a,e)->Q a
def hd(Q:b->Prop)(d:PX τ b):Prop:=∀a f c e g,d a f=.ok (c,e,g)->Q c
def pT(c:τ->Prop)(f:PX τ b):Prop:=∀a g e d h,c a->f a g=.ok (e,d,h)->c d
theorem dX{Q:b->Prop}{a}(d:Q a):eJ Q (ret a):=by
 intro f c g e;grind [ret]
theorem kE{Q:b->Prop}(c a:Nat):eJ Q (gU c a):=by
 intro f d g e;grind [gU]
def mh{Q R f}{g:b->PM c}(i:eJ R f)(h:∀a,R a->eJ Q (g a)):eJ Q (aM f g):=by
 intro k l n d;cases e:f k with
 |error m=>rw[bO e]at d;cases d
 |ok j=>obtain⟨a,o⟩:=j;rw[aK e]at d;exact h a (i _ _ _ e) _ _ _ d
def aeR(a:PM b):eJ (λ_=>True) a:=λ_ _ _ _=>trivial
theorem be{Q e}{d:b->PM c}(f:∀a,eJ Q (d a)):eJ Q (aM e d):=mh (aeR e) λa _=>f a
def dW{Q:b->Prop}{a c:PM b}(e:eJ Q a)(f:eJ Q c):eJ Q (if d then a else c):=Zg
def jH{Q:b->Prop}{c}(e:Q c):hd Q (dA (τ:=τ) c):=by
 intro a h d g i f;grind [dA]
def ra{Q:b->Prop}{c:PM b}(f:eJ Q c):hd Q (lift (τ:=τ) c):=by
 intro a h j l m e;cases d:c h with
 |error k=>simp_all[cZ]
 |ok g=>obtain⟨i,n⟩:=g;rw[bF d]at e;cases e;exact f _ _ _ d
def mi{Q R g}{h:b->PX τ c}(j:hd R g)(i:∀d,R d->hd Q (h d)):hd Q (aP g h):=by
 intro a l m o q e;cases f:g a l with
 |error n=>rw[bR f]at e;cases e
 |ok k=>obtain⟨d,p,r⟩:=k;rw[bf f]at e;exact i d (j _ _ _ _ _ f) _ _ _ _ _ e
def ae9(a:PX τ b):hd (λ_=>True) a:=λ_ _ _ _ _ _=>trivial
def eQ{Q e}{d:b->PX τ c}(f:∀a,hd Q (d a)):hd Q (aP e d):=mi (ae9 e) λa _=>f a
def lH{Q:b->Prop}{a c:PX τ b}(e:hd Q a)(f:hd Q c):hd Q (if d then a else c):=Zg
def BJ{ρ:Type}{Q:b->Prop}{c:PX τ b}(f:hd Q c):hd Q (jA (ρ:=ρ) c):=by
 rintro⟨a,l⟩ h i m o e;cases d:c a h with
 |error k=>simp_all[uP]
 |ok g=>obtain⟨j,n,p⟩:=g;rw[uQ d]at e;cases e;exact f _ _ _ _ _ d
theorem Ab{I g}{h:b->PX τ c}(k:pT I g)(i:∀e,pT I (h e)):pT I (aP g h):=by
 intro a m n p r j d;cases f:g a m with
 |error o=>rw[bR f]at d;cases d
 |ok l=>obtain⟨e,q,s⟩:=l;rw[bf f]at d;exact i e _ _ _ _ _ (k _ _ _ _ _ j f) d
theorem xS{d}(c:PM b):pT d (lift (τ:=τ) c):=by
 intro a h j m n l f;cases e:c h with
 |error k=>simp_all[cZ]
 |ok g=>obtain⟨i,o⟩:=g;rw[bF e]at f;simp_all
theorem Di{c}(d:b):pT c (dA (τ:=τ) d):=by
 intro a i e h j f g;grind [dA]
theorem TX{b:τ->Prop}(d:Za)(pt:Nat){run:PX τ Unit}(e:pT b run):∀(a c:Nat),pT b (jQ d pt run a c):=by
 intro a;induction a<;>grind [xS,jQ,Ab,Di]
def Ib{a:τ->Prop}(b:Za)(pt:Nat){run:PX τ Unit}(c:pT a run):pT a (fp b pt run):=by
 grind [fp,Ab,xS,TX]
def MU{I:τ->Prop}{b:PX τ Unit}(e:pT I b){a:τ}(f:I a):eJ I (kZ b a):=by
 intro h i m d;cases c:b a h with
 |error k=>simp_all[yA]
 |ok g=>obtain⟨j,l,n⟩:=g;rw[tA c]at d;cases d;exact e _ _ _ _ _ f c
def MV{Q:b->Prop}{c:PX τ b}(g:hd Q c)(a:τ):eJ (λd=>Q d.1) (hD c a):=by
 intro h i m f;cases e:c a h with
 |error k=>simp_all[qN]
 |ok d=>obtain⟨j,l,n⟩:=d;rw[tB e]at f;cases f;exact g _ _ _ _ _ e
def MR{Q:b->Prop}{a:PX Unit b}(e:hd Q a):eJ Q (kR a):=by
 intro g h l d;cases c:a () g with
 |error j=>simp_all[Cm]
 |ok f=>obtain⟨i,k,m⟩:=f;rw[Cn c]at d;cases d;exact e _ _ _ _ _ c
def ha:Ty->Prop
 |.plain a=>a<=4
 |.named _ _=>True
 |_=>False
def kG:Ty->Prop
 |.plain b=>b<=4
 |.named _ _=>True
 |.opaq _ _=>True
 |.str _ _=>True
 |.arr a _ _=>ha a
 |.opt a=>ha a
 |.void=>False
def tN(a:Ty):Prop:=kG a\/a=.void
def FZ(b:ha a):kg a:=by cases a<;>simp[ha,kg]at *
theorem ha.jP(b:ha a):kG a:=by cases a<;>simp[ha,kG]at *<;>exact b
def kG.er(b:kG a):ib a:=by
 cases a with
 |arr c e d=>exact FZ b
 |opt c=>exact FZ b
 |_=>trivial
def tN.er(b:tN a):ib a:=by
 rcases b with b|rfl
 .exact b.er
 .trivial
def Ft(a:Za):eJ ha (pK a):=by
 unfold pK;refine be λb=>?_;unfold lh;refine dW (dX trivial) (dW (dX (by simp[ha])) (dW (dX (by simp[ha])) (dW (dX (by simp[ha])) (dW ?_ (kE _ _)))));exact be λc=>dW (dX (by simp[ha])) (be λ_=>dX (by simp[ha]))
def ae3(b:Za):eJ (λa:Ty×(Int->Bool)=>ha a.1) (oH b):=by
 unfold oH;refine be λc=>?_;unfold la;exact dW (be λ_=>dX trivial) (dW (dX (by simp[ha])) (dW (be λ_=>dX (by simp[ha])) (dW (dX (by simp[ha])) (kE _ _))))
def Fq(d:Za)(h:dU τ):hd (λb=>kG b.O) (eY d h):=by
 unfold eY;refine eQ λe=>?_;unfold qp;refine lH (eQ λa=>eQ λg=>jH trivial) (eQ λe=>?_);unfold pb;refine lH (eQ λa=>eQ λg=>jH trivial) (mi (ra (Ft d)) λi c=>?_);unfold sR;refine eQ λe=>?_;unfold rJ;refine lH (eQ λa=>jH c) (eQ λa=>?_);unfold rK;refine eQ λe=>?_;unfold sS;have f:hd (τ:=τ) (λb=>kG b.O) (oq d a i):=by
  unfold oq;exact eQ λg=>jH c
 refine lH f (eQ λj=>?_);unfold sT;exact lH f (jH c.jP)
def MP(d:Za)(c:dU τ):hd (λb=>tN b.O) (km d c):=by
 unfold km;refine mi (R:=λb=>tN b.O) (eQ λk=>?_) λb g=>eQ λ_=>jH g;unfold qk;refine lH (jH (Ya rfl)) ?_;intro a i e h j f;exact Y8 (Fq d c a i e h j f)
def pN(rs:hG):Prop:=∀a∈rs,tN a.2.O
def pN.fY(e:pN rs){d:List Int}{b:aW}(f:tN b.O):pN (rs++[(d,b)]):=by
 intro c a;rcases Yn.1 a with a|a
 .exact e c a
 simp_all
def aeS(c:Za)(a:pN rs):hd pN (mF c rs):=by
 unfold mF;exact eQ λe=>lH (eQ λ_=>mi (BJ (MP _ _)) λd b=>jH (a.fY b)) (jH a)
def aeU(d:Za)(f:Int->Bool):∀(a:Nat) {rs:hG},pN rs->hd pN (ig d f a rs):=by
 intro a;induction a with
 |zero=>intro rs _;exact ra (kE _ _)
 |succ a e=>
  intro rs b;unfold ig;exact eQ λg=>mi (BJ (MP _ _)) λh c=>eQ λi=>lH (e (b.fY c)) (aeS d (b.fY c))
def tO:aC->Prop
 |.typedef b=>kG b.O
 |.struct _ _ d=>∀c∈d,kG c.O
 |.union _ _ e a=>ha e.O/\pN a
 |_=>True
theorem ae0(e:Za)(h:Zb×Nat):∀(a:Nat) (c:List (Zb×Nat×Int)) (b:List (Int×Int)),eJ tO (iB e h a c b):=by
 intro a;induction a with
 |zero=>intro c b;exact kE _ _
 |succ a g=>
  intro c b j k p d;cases f:jz e c.length b j with
  |error l=>simp_all[tj]
  |ok i=>
   obtain⟨n,m,q⟩:=i;rw[rW f]at d;refine be (Q:=tO) (λo=>dW (g _ _) ?_) _ _ _ d;unfold ot;exact be λ_=>be λ_=>dX trivial
def aeW(f:Za):eJ tO (ga f):=by
 unfold ga;refine be λw=>?_;unfold eF;refine dW ?_ (dW ?_ (dW ?_ (dW ?_ (dW ?_ (dW ?_ (kE _ _))))))
 .unfold ko;exact be λ_=>be λg=>be λ_=>be λ_=>be λ_=>dX trivial
 .unfold kB;exact be λ_=>mh (MR (Fq _ _)) λk d=>be λ_=>dX d
 .grind [ik,be,ae0]
 .unfold lf;refine be λ_=>be λg=>mh (MU (I:=λe:List aW×Zc=>∀c∈e.1,kG c.O) (Ib _ _ ?_) Zq) λe l=>be λ_=>dX l;rintro⟨p,a⟩ o j u x s i;cases d:eY f (bA 0 0) a o with
  |error q=>simp_all[Bp]
  |ok h=>
   obtain⟨k,v,y⟩:=h;rw[yF d]at i;refine Ab (I:=λe:List aW×Zc=>∀c∈e.1,kG c.O) (xS _) (λ_=>Di ()) _ _ _ _ _ ?_ i;intro c b;rcases Yn.1 b with b|b
   .simp_all
   .simp only[Yc]at b;subst b;exact Fq _ _ _ _ _ _ _ d
 .unfold ez;refine be λ_=>be λg=>?_;unfold oM;refine be λ_=>be λ_=>mh (ae3 f) λh m=>?_;unfold oN;refine be λc=>?_;unfold qV;refine be λ_=>be λ_=>mh (MV (aeU f h.2 13 (rs:=[]) (by intro j r;grind)) _) λt n=>?_;unfold lE oL;exact be λ_=>be λ_=>dX ⟨m,n⟩
 .unfold jZ;refine be λ_=>be λg=>?_;unfold qG;exact be λ_=>be λ_=>dX trivial
def wU(b:List aC):Prop:=∀a∈b,tO a
def ae4(d:Za):∀(b:Nat) {ds:List aC},wU ds->eJ wU (eU d b ds):=by
 intro b;induction b with
 |zero=>intro ds _;exact kE _ _
 |succ b f=>
  intro ds c;unfold eU;refine be λi=>dW (dX c) (mh (aeW d) λg h=>be λ_=>f ?_);intro e a;rcases Yn.1 a with a|a
  .exact c e a
  simp_all
def Mb{b:Za}{ds}(a:eP b=.ok ds):wU ds:=by
 unfold eP at a;split at a
 .cases a
 .cases c:eU b 69 [] fS with
  |error h=>simp_all
  |ok e=>
   obtain⟨g,i⟩:=e;rw[c]at a;simp only at a;have d:=ae4 b 69 (ds:=[]) (by intro f d;grind) _ _ _ c;grind
def ey:Ty->Nat
 |.arr a _ _=>ey a+2
 |.opt a=>ey a+1
 |.void=>0
 |_=>1
theorem qW(a:Ty):∀b,(dk a b).ab.length=b.ab.length+ey a:=by
 induction a with
 |arr d f e c=>grind [dk,dn,aT,ey]
 |opt d c=>grind [dk,dn,aT,ey]
 |_=>intro b;simp[dk,aT,jR,ey]
def um(d:ib a):ey a<=3:=by
 cases a with
 |arr b e c=>cases b<;>simp[ib,kg,ey]at *
 |opt b=>cases b<;>simp[ib,kg,ey]at *
 |_=>simp[ey]
end
section
variable {e:Zb->Nat}{c:List Nat}{a:List ck}
structure Wk(b:Type) where
 ef:Nat->b->Except Mar.ay b
 num:dD->b->Except Mar.ay b
 text:Int->Bool->b->Except Mar.ay b
 a6:Int->Bool->b->Except Mar.ay (Nat×b)
 de:dD->(Int->Option Nat)->b->Except Mar.ay (Int×b)
def dD.c2(b:dD)(a:Int):Bool:=decide (b.e6<=a)&&decide (a<=b.e4)&&(match b.h6 with|none=>true|some l=>l.contains a)
def eW(b:dD)(d:List (Int×Nat×Nat))(c:Option (Nat×Nat))(a:Int):Option (Nat×Nat):=if b.c2 a then (match ci d a with|some q=>some q|none=>c)else none
structure gC where
 ag:Nat
 aL:List Nat
 cc:List (Nat×Nat)
section
variable {b : Type}
def eZ(h:Wk b)(q:ck)(a:gC)(f:b):Option (Except Mar.ay (gC×b)):=
 match q with
 |.hole=>none
 |.fin=>none
 |.call j=>if 1000<=a.aL.length then none else some (match h.ef a.aL.length f with
  |.ok c=>.ok ({ a with ag:=j,aL:=a.ag::a.aL },c)
  |.error d=>.error d)
 |.ret=>match a.aL with
  |[]=>none
  |g::o=>some (.ok ({ a with ag:=g,aL:=o },f))
 |.jump j=>some (.ok ({ a with ag:=j },f))
 |.num e=>some (match h.num e f with
  |.ok c=>.ok (a,c)
  |.error d=>.error d)
 |.text e i=>some (match h.text e i f with
  |.ok c=>.ok (a,c)
  |.error d=>.error d)
 |.struct e i=>some (match h.a6 e i f with
  |.ok (_,c)=>.ok (a,c)
  |.error d=>.error d)
 |.array e i j=>if 1000<=a.cc.length then none else some (match h.a6 e i f with
  |.ok (0,c)=>.ok ({ a with ag:=j },c)
  |.ok (g+1,c)=>.ok ({ a with cc:=(a.ag,g+1)::a.cc },c)
  |.error d=>.error d)
 |.again=>match a.cc with
  |[]=>none
  |(k,left)::m=>some (.ok (if 1<left then { a with ag:=k,cc:=(k,left-1)::m }else { a with cc:=m },f))
 |.choice e n l=>match h.de e (λg=>(eW e n l g).map (·.2)) f with
  |.ok (g,c)=>match eW e n l g with
   |some p=>some (.ok ({ a with ag:=p.1 },c))
   |none=>none
  |.error d=>some (.error d)
def mY(d:Wk b)(a:List ck):Nat->gC->b->Option (Except Mar.ay b)
 |0,_,_=>none
 |n+1,c,e=>match a[c.ag]? with
  |none=>none
  |some .fin=>some (.ok e)
  |some i=>match eZ d i { c with ag:=c.ag+1 } e with
   |none=>none
   |some (.error g)=>some (.error g)
   |some (.ok (h,f))=>mY d a n h f
def gf(c:Wk b)(a:List ck)(h:gC)(f:b)(j:Except Mar.ay (gC×b)):Prop:=
 ∃i,∀d e,(match j with|.ok (m',d')=>mY c a d m' d'|.error g=>some (.error g))=some e->mY c a (d+i) h f=some e
theorem FI(e:Wk b)(a:List ck)(d:gC)(c:b):gf e a d c (.ok (d,c)):=⟨0,λ_ _ f=>f⟩
theorem gf.u{c}{f g:gC}{d e:b}{r}(h:gf c a f d (.ok (g,e)))(i:gf c a g e r):gf c a f d r:=by
 obtain⟨k,m⟩:=h;obtain⟨j,l⟩:=i;exact⟨j+k,λo p n=>by grind⟩
theorem iV{f}{c:gC}{d:b}{e g}(j:a[c.ag]? = some e)(h:e≠.fin)(i:eZ f e { c with ag:=c.ag+1 } d=some g):gf f a c d g:=by
 refine⟨1,λl m k=>?_⟩;unfold mY;grind
def bg{a b:Type}(f:Except Mar.ay a)(e:a->Except Mar.ay b):Except Mar.ay b:=match f with
 |.ok c=>e c
 |.error d=>.error d
abbrev jo(b:Type):=b->Except Mar.ay b
def qJ(c:jo b):Nat->jo b
 |0,a=>.ok a
 |n+1,a=>bg (c a) (qJ c n)
def sO(a:Int):Option Nat:=if a=0 then some 0 else if a=1 then some 1 else none
def iP(c:Wk b)(nm:Zb->jo b):Ty->jo b
 |.named d _,a=>nm d a
 |.plain h,a=>c.num (dF h) a
 |.opaq d f,a=>c.text d f a
 |.str d f,a=>c.text d f a
 |.arr g d f,a=>bg (c.a6 d f a) λe=>qJ (iP c nm g) e.1 e.2
 |.opt g,a=>bg (c.de (dF 4) sO a) λe=>if e.1=1 then iP c nm g e.2 else .ok e.2
 |.void,a=>.ok a
def vN(c:Wk b)(nm:Zb->jo b):List Ty->jo b
 |[],a=>.ok a
 |t::d,a=>bg (iP c nm t a) (vN c nm d)
def lS(b:List (List Int×aW))(c:Int):Option Ty:=
 match b.reverse.find? (λa=>a.1.contains c)with
 |some a=>some a.2.O
 |none=>(b.reverse.find? (λa=>a.1.isEmpty)).map (·.2.O)
abbrev ir:=Zb->Option aC
def nN(a:ir):Ty->dD
 |.named d _=>match a d with
  |some (.enum _ _ c)=>hP c
  |_=>vm
 |.plain b=>dF b
 |_=>vm
def sJ(b:ir)(d:Ty)(c:List (List Int×aW))(a:Int):Option Nat:=if(nN b d).c2 a then (lS c a).map λe=>if ly e then 0 else 1 else none
def qr(c:Wk b)(f:ir)(nm:Zb->jo b):aC->jo b
 |.typedef i,a=>iP c nm i.O a
 |.enum _ _ d,a=>c.num (hP d) a
 |.struct _ _ d,a=>bg (c.a6 d.length true a) λe=>vN c nm (d.map (·.O)) e.2
 |.union _ _ h g,a=>bg (c.de (nN f h.O) (sJ f h.O g) a) λe=>match lS g e.1 with
  |some j=>iP c nm j e.2
  |none=>.error ⟨0,0⟩
 |_,_=>.error ⟨0,0⟩
def jh(a:Wk b)(d:ir):Nat->Nat->Zb->jo b
 |0,c,_,e=>bg (a.ef c e) λ_=>.error ⟨0,0⟩
 |g+1,c,i,e=>bg (a.ef c e) λf=>match d i with
  |some h=>qr a d (jh a d g (c+1)) h f
  |none=>.error ⟨0,0⟩
def pO(a:List ck)(e:Zb->Nat)(f:ir):Nat->Ty->Prop
 |p,.named b _=>a[p]? = some (.call (e b))/\(f b).isSome
 |p,.plain g=>a[p]? = some (.num (dF g))
 |p,.opaq b d=>a[p]? = some (.text b d)
 |p,.str b d=>a[p]? = some (.text b d)
 |p,.arr c b d=>a[p]? = some (.array b d (p+ey c+2))/\pO a e f (p+1) c/\a[p+1+ey c]? = some .again
 |p,.opt c=>a[p]? = some (.choice (dF 4) [(0,p+1+ey c,0),(1,p+1,1)] none)/\pO a e f (p+1) c
 |_,.void=>True
def yU(a:List ck)(e:Zb->Nat)(b:ir):Nat->List Ty->Prop
 |_,[]=>True
 |p,c::d=>pO a e b p c/\yU a e b (p+ey c) d
def xt(a:List Ty):Nat:=(a.map ey).sum
def BM(a:List ck)(e:Zb->Nat)(f:ir)(b:Nat):aC->Prop
 |.typedef k=>pO a e f b k.O/\a[b+ey k.O]? = some .ret
 |.enum _ _ d=>a[b]? = some (.num (hP d))/\a[b+1]? = some .ret
 |.struct _ _ d=>a[b]? = some (.struct d.length true)/\yU a e f (b+1) (d.map (·.O))/\a[b+1+xt (d.map (·.O))]? = some .ret
 |.union _ _ n m=>∃j h l,a[b]? = some (.choice (nN f n.O) j h)/\a[l]? = some .ret/\
   ∀g,match lS m g with
    |none=>ci j g=none/\h=none
    |some i=>∃c,(match ci j g with|some c=>some c|none=>h)=some c/\c.2=(if ly i then 0 else 1)/\pO a e f c.1 i/\a[c.1+ey i]? = some (.jump l)
 |_=>True
def jB(d:gC)(e:Except Mar.ay b):Except Mar.ay (gC×b):=match e with
 |.ok a=>.ok (d,a)
 |.error c=>.error c
theorem BW{e i j k f d}{g:jo b}(h:gf e a i f (jB j d))(l:∀c,d=.ok c->gf e a j c (jB k (g c))):gf e a i f (jB k (bg d g)):=by
 cases d with
 |error m=>exact h
 |ok c=>exact h.u (l c rfl)
theorem Tq(a:Int):(dF 4).c2 a=decide (a=0\/a=1):=by
 simp only[dD.c2,dF];grind
theorem MI(b c:Nat)(a:Int):eW (dF 4) [(0,b,0),(1,c,1)] none a=if a=0 then some (b,0)else if a=1 then some (c,1)else none:=by
 grind [eW,Tq,ci]
def EX(a b:Nat):(λc=>(eW (dF 4) [(0,a,0),(1,b,1)] none c).map (·.2))=sO:=by
 grind [MI,sO]
def Wk.ia(c:Wk b):Prop:=∀f v d a e,c.de f v d=.ok (a,e)->(v a).isSome
def tz{k}{l:ir}{nm:Zb->jo b}
  (o:∀h f d g,d.length<=c.length->(l h).isSome->a[f]? = some (.call (e h))->gf k a ⟨f,c,d⟩ g (jB ⟨f+1,c,d⟩ (nm h g))) :
  ∀(i:Ty) (f:Nat) (d:List (Nat×Nat)) (g:b),kg i->d.length<=c.length->pO a e l f i->gf k a ⟨f,c,d⟩ g (jB ⟨f+ey i,c,d⟩ (iP k nm i g)):=by
 intro i f d g r n j;cases i with
 |named h q=>exact o h f d g n j.2 j.1
 |plain s=>
  refine iV j Zq ?_;rfl
 |opaq h m=>
  refine iV j Zq ?_;rfl
 |str h m=>
  refine iV j Zq ?_;rfl
 |void=>exact FI k a _ g
 |arr p h m=>grind [kg]
 |opt p=>grind [kg]
def Ep{i:Wk b}(D:i.ia){x:ir}(G:c.length<=100){nm:Zb->jo b}
  (k:∀h d g f,g.length<=c.length->(x h).isSome->a[d]? = some (.call (e h))->gf i a ⟨d,c,g⟩ f (jB ⟨d+1,c,g⟩ (nm h f))) :
  ∀(o:Ty) (d:Nat) (g:List (Nat×Nat)) (f:b),ib o->g.length<c.length->pO a e x d o->gf i a ⟨d,c,g⟩ f (jB ⟨d+ey o,c,g⟩ (iP i nm o f)):=by
 intro o d g f v H l;cases o with
 |named h z=>exact tz k (.named h z) d g f trivial Zm l
 |plain u=>exact tz k (.plain u) d g f trivial Zm l
 |opaq h p=>exact tz k (.opaq h p) d g f trivial Zm l
 |str h p=>exact tz k (.str h p) d g f trivial Zm l
 |void=>exact tz k .void d g f trivial Zm l
 |arr n h p=>
  obtain⟨m,s,F⟩:=l;have y:¬1000<=g.length:=Zm;simp only[iP,ey];cases j:i.a6 h p f with
  |error B=>
   refine iV m Zq ?_;simp only[eZ,j,Y2 y];rfl
  |ok w=>
   obtain⟨lV,r⟩:=w;cases lV with
   |zero=>
    refine iV m Zq ?_;simp only[eZ,j,Y2 y];rfl
   |succ lV=>
    have t:gf i a ⟨d,c,g⟩ f (.ok (⟨d+1,c,(d+1,lV+1)::g⟩,r)):=by
     simp_all[iV,eZ]
    refine t.u ?_;clear t j;simp only[bg];have key:∀(q:Nat) (f:b),gf i a ⟨d+1,c,(d+1,q+1)::g⟩ f (jB ⟨d+(ey n+2),c,g⟩ (qJ (iP i nm n) (q+1) f)):=by
     intro q;induction q with
     |zero=>
      intro f;unfold qJ;refine BW (tz k n (d+1) _ f v Zg s) λA _=>?_;grind [iV,eZ,jB,qJ]
     |succ q J=>
      intro f;unfold qJ;refine BW (tz k n (d+1) _ f v Zg s) λA _=>?_;grind [gf.u,iV,eZ]
    simp_all
 |opt n=>
  obtain⟨m,s⟩:=l;simp only[iP,ey];cases j:i.de (dF 4) sO f with
  |error B=>
   refine iV m Zq ?_;simp only[eZ,EX,j];rfl
  |ok w=>
   obtain⟨u,r⟩:=w;have I:=D _ _ _ _ _ j;by_cases C:u=0
   .subst C;refine iV m Zq ?_;simp only[eZ,EX,j];grind [MI,bg,jB]
   .by_cases E:u=1
    .subst E;have t:gf i a ⟨d,c,g⟩ f (.ok (⟨d+1,c,g⟩,r)):=by
      refine iV m Zq ?_;simp only[eZ,EX,j];rfl
     refine t.u ?_;have:=tz k n (d+1) g r v Zm s;grind [bg]
    grind [sO]
def aa5{i:Wk b}(p:i.ia){l:ir}(n:c.length<=100){nm:Zb->jo b}
  (r:∀k f d g,d.length<=c.length->(l k).isSome->a[f]? = some (.call (e k))->gf i a ⟨f,c,d⟩ g (jB ⟨f+1,c,d⟩ (nm k g))) :
  ∀(h:List Ty) (f:Nat) (d:List (Nat×Nat)) (g:b),(∀j∈h,ib j)->d.length<c.length->yU a e l f h->gf i a ⟨f,c,d⟩ g (jB ⟨f+xt h,c,d⟩ (vN i nm h g)):=by
 intro h;induction h with
 |nil=>intro f d g _ _ _;exact FI i a _ g
 |cons j h u=>
  intro f d g q o ⟨m,t⟩;unfold vN;refine BW (Ep p n r j f d g (q j Zq) o m) λs _=>?_;grind [xt]
def rL:aC->List Ty
 |.typedef b=>[b.O]
 |.struct _ _ c=>c.map (·.O)
 |.union _ _ _ a=>a.map (·.2.O)
 |_=>[]
def Pa{a}{d:Int}{e}(b:lS a d=some e):e∈a.map (·.2.O):=by
 unfold lS at b;cases f:a.reverse.find? (λc=>c.1.contains d)with
 |some c=>
  grind
 |none=>
  rw[f]at b;simp only[Option.map_eq_some_iff]at b;grind
def aba{i:Wk b}(y:i.ia){o:ir}(a8:c.length+1<=100){g:Nat}{nm:Zb->jo b}
  (a2:∀k f d h,d.length<=c.length+1->(o k).isSome->a[f]? = some (.call (e k))->gf i a ⟨f,g::c,d⟩ h (jB ⟨f+1,g::c,d⟩ (nm k h)))
  (q:aC) (t:∀n m v,q≠.const n m v) (b1:∀n m v k,q≠.prog n m v k) (D:∀n∈rL q,ib n) (f:Nat) (d:List (Nat×Nat)) (a9:d.length<=c.length) (h:b) (p:BM a e o f q):gf i a ⟨f,g::c,d⟩ h (jB ⟨g,c,d⟩ (qr i o nm q h)):=by
 have B:(g::c).length<=100:=Zm;have C:d.length<(g::c).length:=Zg;have F:∀k f d h,d.length<=(g::c).length->(o k).isSome->a[f]? = some (.call (e k))->gf i a ⟨f,g::c,d⟩ h (jB ⟨f+1,g::c,d⟩ (nm k h)):=λk f d h b3=>a2 k f d h Zm;have R:∀(j:Nat) (l:b),a[j]? = some .ret->gf i a ⟨j,g::c,d⟩ l (.ok (⟨g,c,d⟩,l)):=by
  grind [iV,eZ]
 have x:∀(j:Nat) (z:Except Mar.ay b),a[j]? = some .ret->gf i a ⟨f,g::c,d⟩ h (jB ⟨j,g::c,d⟩ z)->gf i a ⟨f,g::c,d⟩ h (jB ⟨g,c,d⟩ z):=by
  intro j z M u;cases z with
  |error J=>exact u
  |ok l=>exact gf.u u (R j l M)
 cases q with
 |const n m v=>simp_all
 |prog n m v k=>grind
 |typedef m=>exact x _ _ p.2 (Ep y B F m.O f d h (D _ (by simp[rL])) C p.1)
 |enum n m N=>
  refine x _ _ p.2 (iV p.1 Zq ?_);rfl
 |struct n m N=>
  refine x _ _ p.2.2 ?_;simp only[qr];cases s:i.a6 N.length true h with
  |error I=>
   refine iV p.1 Zq ?_;simp only[eZ,s];rfl
  |ok j=>
   obtain⟨lV,l⟩:=j;have G:gf i a ⟨f,g::c,d⟩ h (.ok (⟨f+1,g::c,d⟩,l)):=by
    refine iV p.1 Zq ?_;simp only[eZ,s]
   exact G.u (aa5 y B F _ (f+1) d l D C p.2.1)
 |union n m w A=>
  obtain⟨P,O,I,S,a0,a1⟩:=p;have a5:(λr=>(eW (nN o w.O) P O r).map (·.2))=sJ o w.O A:=by
   funext r;grind [eW,sJ]
  refine x I _ a0 ?_;simp only[qr];cases s:i.de (nN o w.O) (sJ o w.O A) h with
  |error J=>
   refine iV S Zq ?_;simp only[eZ,a5,s];rfl
  |ok a6=>
   obtain⟨r,l⟩:=a6;have L:=y _ _ _ _ _ s;have K:=a1 r;unfold sJ at L;split at L
   .rename_i b0;cases E:lS A r with
    |none=>simp_all
    |some H=>
     rw[E]at K;obtain⟨j,M,b2,a3,a4⟩:=K;have b4:eW (nN o w.O) P O r=some j:=by
      simp_all[eW]
     have G:gf i a ⟨f,g::c,d⟩ h (.ok (⟨j.1,g::c,d⟩,l)):=by
      grind [iV,eZ]
     refine G.u ?_;simp only[bg,E];have t:=Ep y B F H j.1 d l (D H (Pa E)) C a3;cases u:iP i nm H l with
     |error J=>rw[u]at t;exact t
     |ok a7=>
      rw[u]at t;refine gf.u t (iV a4 Zq ?_);rfl
   grind
def BK(a:List ck)(e:Zb->Nat)(g:ir):Prop:=∀d b,g d=some b->(∀c f v,b≠.const c f v)/\(∀c f v d,b≠.prog c f v d)/\(∀c∈rL b,ib c)/\BM a e g (e d) b
def abb{i:Wk b}(z:i.ia)(y:∀r d,64<=r->∃l,i.ef r d=.error l){k}(A:BK a e k) :
  ∀(j:Nat) (c:List Nat) (g:Zb) (h:Nat) (f:List (Nat×Nat)) (d:b),64<=j+c.length->c.length<=70->j+c.length<=70->f.length<=c.length->(k g).isSome->a[h]? = some (.call (e g))->gf i a ⟨h,c,f⟩ d (jB ⟨h+1,c,f⟩ (jh i k j c.length g d)):=by
 intro j;induction j with
 |zero=>
  intro c g h f d F H I p _ m;obtain⟨l,E⟩:=y c.length d Zm;refine iV m Zq ?_;simp only[eZ,jh,E,bg,Y2 (show ¬1000<=c.length by omega)];rfl
 |succ j L=>
  intro c g h f d F H I p C m;have G:¬1000<=c.length:=Zm;simp only[jh];cases B:i.ef c.length d with
  |error l=>
   refine iV m Zq ?_;simp only[eZ,B,Y2 G];rfl
  |ok n=>
   have K:gf i a ⟨h,c,f⟩ d (.ok (⟨e g,(h+1)::c,f⟩,n)):=by
    simp_all[iV,eZ]
   refine K.u ?_;obtain⟨o,q⟩:=Option.isSome_iff_exists.1 C;obtain⟨u,v,x,w⟩:=A g o q;simp only[bg,q];refine aba z Zm ?_ o u v x (e g) f p n w;intro M N s t O D J;have:=L ((h+1)::c) M N s t Zg Zg Zg Zm D J;omega
def abc{f:Wk b}(o:f.ia)(n:∀c d,64<=c->∃j,f.ef c d=.error j){h}(p:BK a e h){g}{i:Nat}(l:(h g).isSome)(m:a[i]? = some (.call (e g)))(r:a[i+1]? = some .fin)(d:b) :
  ∃c,mY f a c ⟨i,[],[]⟩ d=some (jh f h 64 0 g d):=by
 obtain⟨c,k⟩:=abb o n p 64 [] g i [] d Zq Zq Zq Zq l m;cases s:jh f h 64 0 g d with
 |error j=>
  refine⟨0+c,k 0 _ ?_⟩;grind [jB]
 |ok q=>
  refine⟨1+c,k 1 _ ?_⟩;grind [jB,mY]
end
end
section
def cK(B:Zb->Nat)(s:bh):List ck:=s.aL.foldl (λb a=>b.set a.1 (.call (B a.2))) s.ab
def Wf(s:bh):Prop:=∀a∈s.aL,s.ab[a.1]? = some (.call 0)
theorem HC{d:Type}(e:Nat×Zb->d):∀(b:List (Nat×Zb)) (a:List d),(b.foldl (λa c=>a.set c.1 (e c)) a).length=a.length:=by
 intro b;induction b<;>simp_all
theorem HB{f:Type}(e:Nat×Zb->f):∀(c:List (Nat×Zb)) (a d:List f),(∀b∈c,b.1<a.length)->c.foldl (λa b=>a.set b.1 (e b)) (a++d)=c.foldl (λa b=>a.set b.1 (e b)) a++d:=by
 intro c;induction c with
 |nil=>simp
 |cons b c h=>
  intro a d g;simp only[YY];grind
def SI{e:Type}(f:Nat×Zb->e)(d:Nat)(g:e):∀(c:List (Nat×Zb)) (b:List e),(∀a∈c,a.1≠d)->c.foldl (λb a=>b.set a.1 (f a)) (b.set d g)=(c.foldl (λb a=>b.set a.1 (f a)) b).set d g:=by
 intro c;induction c with
 |nil=>simp
 |cons a c j=>
  intro b i;simp only[YY];rw[List.set_comm _ _ (λh=>i a Zq h.symm)];simp_all
section
variable {B : Zb -> Nat} {s : bh}
theorem Wf.lt(b:Wf s):∀a∈s.aL,a.1<s.ab.length:=by
 intro a c;have:=b a c;grind
theorem uB:(cK B s).length=s.ab.length:=HC ..
theorem Wf.a4(a:Wf s)(x:ck):Wf (aT x s):=by
 intro c b;have:=a c b;grind [aT]
theorem lZ(b:Wf s)(a:ck):cK B (aT a s)=cK B s++[a]:=HB _ _ _ _ b.lt
def Wf.call(b:Wf s)(d:Zb):Wf (jR d s):=by
 intro c a;simp only[jR,Yn,Yc]at a ⊢;rcases a with a|rfl
 .rw[Ys (b.lt c a)];exact b c a
 simp
theorem It(b:Wf s)(a:Zb):cK B (jR a s)=cK B s++[.call (B a)]:=by
 simp only[cK,jR,YS,YY,List.foldl_nil];simp_all[HB,Wf.lt,HC]
def lL(s:bh)(a:Nat):Prop:=∀b∈s.aL,b.1≠a
def Kl{a:Nat}{x}(b:Wf s)(g:s.ab[a]? = some x)(f:x≠.call 0):lL s a:=by
 intro d c e;have:=b d c;simp_all
theorem Wf.a5{i}(d:Wf s)(e:lL s i)(f:ck):Wf (dn i f s):=by
 intro b a;simp only[dn];rw[List.getElem?_set_ne (λc=>e b a c.symm)];exact d b a
def Al{a}(c:lL s a)(b:ck):cK B (dn a b s)=(cK B s).set a b:=SI _ a b _ _ c
def jD(B:Zb->Nat):Nat->Ty->List ck
 |_,.named a _=>[.call (B a)]
 |_,.plain d=>[.num (dF d)]
 |_,.opaq a b=>[.text a b]
 |_,.str a b=>[.text a b]
 |p,.arr c a b=>.array a b (p+ey c+2)::(jD B (p+1) c++[.again])
 |p,.opt c=>.choice (dF 4) [(0,p+1+ey c,0),(1,p+1,1)] none::jD B (p+1) c
 |_,.void=>[]
theorem sg(B:Zb->Nat)(a:Ty):∀b,(jD B b a).length=ey a:=by
 induction a<;>grind [jD,ey]
structure gq(s s':bh):Prop where
 wf:Wf s'
 bo:s'.cj=s.cj
 en:s'.c4=s.c4
 av:s.ab.length<=s'.ab.length
 op:∀i,i<s.ab.length->lL s i->lL s' i
 a3:∀i,i<s.ab.length->s'.ab[i]? = s.ab[i]?
theorem oP(a:Wf s)(x:ck):gq s (aT x s):=⟨a.a4 x,rfl,rfl,by simp[aT],λc _ b=>b,λc d=>by grind [aT]⟩
def gq.call(c:Wf s)(b:Zb):gq s (jR b s):=by
 refine⟨c.call b,rfl,rfl,by simp[jR],?_,λf d=>by grind [jR]⟩;intro f d e g a;simp only[jR,Yn,Yc]at a;rcases a with a|rfl
 .exact e g a
 omega
theorem gq.u{e f}(a:gq s e)(b:gq e f):gq s f:=
 ⟨b.wf,b.bo.trans a.bo,b.en.trans a.en,Yz a.av b.av,λd c g=>b.op d (Yr c a.av) (a.op d c g),λd c=>(b.a3 d (Yr c a.av)).trans (a.a3 d c)⟩
theorem gq.a5{b}{i:Nat}(a:gq s b)(g:s.ab.length<=i)(e:lL b i)(c:ck):gq s (dn i c b):=
 ⟨a.wf.a5 e c,a.bo,a.en,by simpa[dn]using a.av,a.op,λf d=>by simp only[dn];rw[List.getElem?_set_ne Zm];exact a.a3 f d⟩
def Dd(a:Wf s):lL (aT .hole s) s.ab.length:=Kl (a.a4 _) (x:=.hole) (by simp[aT]) Zq
def we(B:Zb->Nat)(f:Ty):∀(s:bh),Wf s->cK B (dk f s)=cK B s++jD B s.ab.length f/\gq s (dk f s):=by
 induction f with
 |named d p=>intro s a;exact⟨It a d,gq.call a d⟩
 |plain q=>intro s a;exact⟨lZ a _,oP a _⟩
 |opaq d l=>intro s a;exact⟨lZ a _,oP a _⟩
 |str d l=>intro s a;exact⟨lZ a _,oP a _⟩
 |void=>intro s a;exact⟨by simp[dk,jD],a,rfl,rfl,Y4 _,λ_ _ o=>o,λ_ _=>rfl⟩
 |arr c d l k=>
  intro s a;have i:=a.a4 .hole;obtain⟨j,b⟩:=k (aT .hole s) i;have g:(aT .hole s).ab.length=s.ab.length+1:=by simp[aT]
  have e:lL (dk c (aT .hole s)) s.ab.length:=b.op _ Zm (Dd a);have h:=(oP a .hole).u (b.u (oP b.wf .again));have n:lL (aT .again (dk c (aT .hole s))) s.ab.length:=e;refine⟨?_,h.a5 (Y4 _) n _⟩;simp only[dk];rw[Al n,lZ b.wf,j,lZ a,qW,g];have m:s.ab.length=(cK B s).length:=uB.symm;rw[show cK B s++[ck.hole]++jD B (s.ab.length+1) c++[ck.again]=cK B s++(ck.hole::(jD B (s.ab.length+1) c++[ck.again])) by simp];rw[List.set_append_right _ _ Zm];simp only[jD,m,Nat.sub_self,List.set_cons_zero];grind
 |opt c k=>
  intro s a;have i:=a.a4 .hole;obtain⟨j,b⟩:=k (aT .hole s) i;have g:(aT .hole s).ab.length=s.ab.length+1:=by simp[aT]
  have e:lL (dk c (aT .hole s)) s.ab.length:=b.op _ Zm (Dd a);have h:=(oP a .hole).u b;refine⟨?_,h.a5 (Y4 _) e _⟩;simp only[dk];rw[Al e,j,lZ a,qW,g];have m:s.ab.length=(cK B s).length:=uB.symm;simp_all[jD]
end
def lP(c:List ck)(d:Nat)(seg:List ck):Prop:=∀a b,seg[a]? = some b->c[d+a]? = some b
theorem lP.b7{b d}{a f:List ck}(g:lP b d (a++f)):lP b d a/\lP b (d+a.length) f:=by
 refine⟨λc e h=>g c e ?_,λc e h=>?_⟩
 .grind
 .rw[Nat.add_assoc];refine g (a.length+c) e ?_;grind
def lP.cons{a b}{c:ck}{d:List ck}(e:lP a b (c::d)):a[b]? = some c/\lP a (b+1) d:=by
 have f:lP a b ([c]++d):=e;obtain⟨g,h⟩:=f.b7;exact⟨by simpa using g 0 c Zq,Zm⟩
def OF{a b seg post:List ck}(c:a=b++seg++post):lP a b.length seg:=by
 intro e f d;grind
def zh(a:ir)(c:Ty):Prop:=∀b∈eV c,(a b.1).isSome
theorem Ck{j B i}(e:Ty):∀(b:Nat),zh i e->lP j b (jD B b e)->pO j B i b e:=by
 induction e with
 |named d m=>intro b c a;exact⟨a.cons.1,c (d,m) (by simp[eV])⟩
 |plain p=>intro b _ a;exact a.cons.1
 |opaq d k=>intro b _ a;exact a.cons.1
 |str d k=>intro b _ a;exact a.cons.1
 |void=>intro b _ _;trivial
 |arr o d k h=>
  intro b c a;obtain⟨f,g⟩:=a.cons;obtain⟨n,l⟩:=g.b7;rw[sg]at l;exact⟨f,h _ c n,l.cons.1⟩
 |opt o h=>
  intro b c a;obtain⟨f,g⟩:=a.cons;exact⟨f,h _ c g⟩
def tC(B:Zb->Nat):Nat->List Ty->List ck
 |_,[]=>[]
 |p,a::b=>jD B p a++tC B (p+ey a) b
def abk(B:Zb->Nat):∀(a:List Ty) (b:Nat),(tC B b a).length=xt a:=by
 intro a;induction a<;>grind [tC,xt,sg]
def Pq{e B d}:∀(c:List Ty) (a:Nat),(∀b∈c,zh d b)->lP e a (tC B a c)->yU e B d a c:=by
 intro c;induction c with
 |nil=>intro a _ _;trivial
 |cons b c k=>
  intro a g h;obtain⟨i,f⟩:=h.b7;rw[sg]at f;exact⟨Ck b a (g b Zq) i,k _ (λb j=>g b (Y5 _ j)) f⟩
def Is(B:Zb->Nat):∀(a:List Ty) (s:bh),Wf s->cK B (a.foldl (λs b=>dk b s) s)=cK B s++tC B s.ab.length a/\gq s (a.foldl (λs b=>dk b s) s):=by
 intro a;induction a with
 |nil=>intro s c;exact⟨by simp[tC],c,rfl,rfl,Y4 _,λ_ _ f=>f,λ_ _=>rfl⟩
 |cons b a g=>
  intro s c;obtain⟨h,d⟩:=we B b s c;obtain⟨i,e⟩:=g _ d.wf;refine⟨?_,d.u e⟩;grind [qW,tC]
abbrev oX(a:List Int×aW):Nat:=ey a.2.O+1
def gG(a:List (List Int×aW)):Nat:=(a.map oX).sum
def iM(B:Zb->Nat)(b:Nat):Nat->List (List Int×aW)->List ck
 |_,[]=>[]
 |p,a::c=>jD B p a.2.O++(.jump b::iM B b (p+oX a) c)
def ph:Nat->List (List Int×aW)->List Nat
 |_,[]=>[]
 |p,a::b=>(p+ey a.2.O)::ph (p+oX a) b
theorem Eq(B:Zb->Nat)(d:Nat):∀(a:List (List Int×aW)) (b:Nat),(iM B d b a).length=gG a:=by
 intro a;induction a with
 |nil=>intro b;rfl
 |cons c a e=>intro b;have:=e (b+oX c);simp only[iM,gG,Yq,sg,YC,List.map_cons,List.sum_cons]at this ⊢;grind
theorem abl(B:Zb->Nat)(c:Nat)(d:List Int×aW):∀(a:List (List Int×aW)) (b:Nat),iM B c b (a++[d])=iM B c b a++(jD B (b+gG a) d.2.O++[.jump c]):=by
 intro a;induction a with
 |nil=>grind [iM,gG]
 |cons e a f=>
  intro b;simp only[YX,iM,f,YN];rw[show b+oX e+gG a=b+gG (e::a) by simp[gG];omega]
theorem RG(c:List Int×aW):∀(a:List (List Int×aW)) (b:Nat),ph b (a++[c])=ph b a++[b+gG a+ey c.2.O]:=by
 intro a;induction a with
 |nil=>grind [ph,gG]
 |cons d a e=>
  intro b;simp only[YX,ph,e];rw[show b+oX d+gG a=b+gG (d::a) by simp[gG];omega]
theorem Pr{h B i}{f:List Int×aW}:∀(b d:List (List Int×aW)) (a:Nat),lP h a (iM B i a (b++f::d))->lP h (a+gG b) (jD B (a+gG b) f.2.O)/\h[a+gG b+ey f.2.O]? = some (.jump i):=by
 intro b;induction b with
 |nil=>
  intro d a c;simp only[YT,iM]at c;obtain⟨j,e⟩:=c.b7;rw[sg]at e;exact⟨by simpa[gG]using j,by simpa[gG]using e.cons.1⟩
 |cons g b k=>
  intro d a c;simp only[YX,iM]at c;have e:=c.b7.2.cons.2;rw[sg]at e;have:=k d (a+oX g) Zm;rw[show a+oX g+gG b=a+gG (g::b) by simp[gG];omega]at this;omega
theorem uF{d i:Type}[DecidableEq d](v:i)(b a:d)(c:List (d×i)):ci (cq c a v) b=if b=a then some v else ci c b:=by
 unfold cq;split
 .rename_i e;induction c with
  |nil=>simp_all
  |cons n c g=>
   by_cases l:n.1=a
   .by_cases f:b=a
    .subst f;simp[ci,l]
    .have o:ci (c.map λh=>if h.1=a then (a,v)else h) b=ci c b:=by
      clear g e;induction c with
      |nil=>rfl
      |cons p c m=>
       unfold ci at m ⊢;grind
     have j:(a==b)=false:=Zg;simp_all[ci]
   .have k:a∈c.map (·.1):=by
     grind
    have:=g k;unfold ci at this ⊢;grind
 .rename_i e;by_cases f:b=a
  .grind [ci]
  .have j:(a==b)=false:=Zg;grind [ci]
def UV{b:Int}(v:Nat×Nat):∀(a:List Int) (c:List (Int×Nat×Nat)),ci (a.foldl (λa d=>cq a d v) c) b=if a.contains b then some v else ci c b:=by
 intro a;induction a with
 |nil=>simp
 |cons d a e=>
  intro c;simp only[YY];rw[e,uF];grind
def mg(g:Nat)(c:List (List Int×aW))(f:List Int×aW->Bool)(d:Option (Nat×Nat)):Prop:=
 match c.reverse.find? f with
 |none=>d=none
 |some a=>∃b e,c=b++a::e/\d=some (g+gG b,if ly a.2.O then 0 else 1)
theorem MH{d b c e}(f:mg d b c e)(a:List Int×aW):mg d (b++[a]) c (if c a then some (d+gG b,if ly a.2.O then 0 else 1)else e):=by
 unfold mg at f ⊢;rw[List.reverse_append,List.reverse_singleton,List.singleton_append,List.find?_cons];grind
def UG(B:Zb->Nat)(a:oe)(k:Wf a.s)(o:a.c1=[])(f:a.df=none)(n:a.cs=[]):∀(d:Nat) (b:List (List Int×aW)),b.length=d->
  cK B (b.foldl cz a).s=cK B a.s++iM B 0 a.s.ab.length b/\gq a.s (b.foldl cz a).s/\(b.foldl cz a).cs=ph a.s.ab.length b/\
  (∀d,mg a.s.ab.length b (λc=>c.1.contains d) (ci (b.foldl cz a).c1 d))/\mg a.s.ab.length b (λc=>c.1.isEmpty) (b.foldl cz a).df:=by
 intro d;induction d with
 |zero=>
  intro b h;have:b=[]:=Yv.1 h;subst this;exact⟨by simp[iM],⟨k,rfl,rfl,Y4 _,λ_ _ f=>f,λ_ _=>rfl⟩,by simp[ph,n],λd=>by simp[mg,o,ci],by simp[mg,f]⟩
 |succ d p=>
  intro b h;have i:b≠[]:=Zg;obtain⟨e,c,rfl⟩:∃e c,b=e++[c]:=⟨b.dropLast,b.getLast i,(List.dropLast_concat_getLast i).symm⟩;obtain⟨l,g,r,m,t⟩:=p e Zu;have u:(e.foldl cz a).s.ab.length=a.s.ab.length+gG e:=by
   have:=Yo List.length l;grind [uB,Eq]
  obtain⟨v,j⟩:=we B c.2.O (e.foldl cz a).s g.wf;have w:=qW c.2.O (e.foldl cz a).s;simp only[YS,YY,List.foldl_nil];refine⟨?_,?_,?_,?_,?_⟩
  .grind [cz,lR,lZ,gq.wf,abl]
  .exact g.u (j.u (oP j.wf _))
  .simp_all[cz,lR,RG]
  .intro q;simp only[cz];rw[UV];have:=MH (m q) c;grind [gp]
  .simp only[cz];grind [MH,gp]
def UI(B:Zb->Nat)(e:Nat):∀(b:List (List Int×aW)) (a d:List ck) ,(ph a.length b).foldl (λf h=>f.set h (.jump e)) (a++(iM B 0 a.length b++d))=a++(iM B e a.length b++d):=by
 intro b;induction b with
 |nil=>intro a d;rfl
 |cons c b j=>
  intro a d;simp only[ph,iM,YY];have g:(a++(jD B a.length c.2.O++ck.jump 0::iM B 0 (a.length+oX c) b++d)).set (a.length+ey c.2.O) (.jump e)=(a++jD B a.length c.2.O++[ck.jump e])++(iM B 0 (a.length+oX c) b++d):=by
   simp_all[sg]
  rw[g];have i:(a++jD B a.length c.2.O++[ck.jump e]).length=a.length+oX c:=by grind [sg]
  grind
end
def RH(b:List Nat):∀(a:bh),(jS b a).ab=b.foldl (λe c=>e.set c (.jump a.ab.length)) a.ab/\(jS b a).aL=a.aL/\(jS b a).cj=a.cj/\(jS b a).c4=a.c4:=by
 induction b with
 |nil=>intro a;exact⟨rfl,rfl,rfl,rfl⟩
 |cons c b j=>
  intro a;obtain⟨d,g,h,i⟩:=j (dn c (.jump a.ab.length) a);have f:(dn c (.jump a.ab.length) a).ab.length=a.ab.length:=by simp[dn]
  rw[f]at d;exact⟨d,g,h,i⟩
def UJ(d:Zb->Nat)(c:List Nat):∀(a:bh),(∀b∈c,lL a b)->cK d (jS c a)=c.foldl (λf b=>f.set b (.jump a.ab.length)) (cK d a):=by
 induction c with
 |nil=>intro a _;rfl
 |cons b c i=>
  intro a e;have g:(dn b (.jump a.ab.length) a).ab.length=a.ab.length:=by simp[dn]
  have:=i (dn b (.jump a.ab.length) a) (λj h=>e j (Y5 _ h));rw[g,Al (e b Zq)]at this;exact this
def RT(c:List Nat):∀(b d:bh),gq b d->(∀a∈c,b.ab.length<=a)->(∀a∈c,lL d a)->gq b (jS c d):=by
 induction c with
 |nil=>intro b d e _ _;exact e
 |cons a c j=>
  intro b d e h i;exact j b _ (e.a5 (h a Zq) (i a Zq) _) (λg f=>h g (Y5 _ f)) (λg f=>i g (Y5 _ f))
def RF:∀(a:List (List Int×aW)) (b:Nat),∀c∈ph b a,b<=c:=by
 intro a;induction a<;>grind [ph]
def RI(b:oe)(m:Wf b.s)(o:b.cs=[]):∀(e:Nat) (a:List (List Int×aW)),a.length=e->Wf (a.foldl cz b).s/\∀d∈(a.foldl cz b).cs,(a.foldl cz b).s.ab[d]? = some (.jump 0):=by
 intro e;induction e with
 |zero=>
  simp_all
 |succ e l=>
  intro a h;have j:a≠[]:=Zg;obtain⟨c,f,rfl⟩:∃c f,a=c++[f]:=⟨a.dropLast,a.getLast j,(List.dropLast_concat_getLast j).symm⟩;obtain⟨k,n⟩:=l c Zu;obtain⟨_,i⟩:=we (λ_=>0) f.2.O (c.foldl cz b).s k;simp only[YS,YY,List.foldl_nil];refine⟨i.wf.a4 _,?_⟩;intro d g;simp only[cz,Yn,Yc]at g ⊢;rcases g with g|rfl
  .have h:d<(c.foldl cz b).s.ab.length:=by
    grind
   simp only[aT,lR];rw[Ys (Yr h i.av),i.a3 d h];grind
  .simp[aT,lR]
def Iw(c:Zb->Nat)(d:aW)(b:List (List Int×aW))(a:bh)(h:Wf a) :
  ∃s q,cK c (pL d b a)=cK c a++(.choice (iN a d.O) s q::iM c (a.ab.length+1+gG b) (a.ab.length+1) b)/\gq a (pL d b a)/\
   (∀p,mg (a.ab.length+1) b (λi=>i.1.contains p) (ci s p))/\mg (a.ab.length+1) b (λi=>i.1.isEmpty) q:=by
 have n:=h.a4 .hole;have u:(aT .hole a).ab.length=a.ab.length+1:=by simp[aT]
 obtain⟨j,g,k,l,m⟩:=UG c ⟨aT .hole a,[],none,[]⟩ n rfl rfl rfl b.length b rfl;obtain⟨_,t⟩:=RI ⟨aT .hole a,[],none,[]⟩ n rfl b.length b rfl;simp only[u]at j g k l m;have r:lL (b.foldl cz ⟨aT .hole a,[],none,[]⟩).s a.ab.length:=g.op _ Zm (Dd h);have y:(b.foldl cz ⟨aT .hole a,[],none,[]⟩).s.ab.length=a.ab.length+1+gG b:=by
  have:=Yo List.length j;grind [uB,Eq]
 have A:∀e∈(b.foldl cz ⟨aT .hole a,[],none,[]⟩).cs,a.ab.length+1<=e:=by
  intro e f;rw[k]at f;exact RF _ _ e f
 have w:=((oP h .hole).u g).a5 (Y4 _) r (.choice (iN a d.O) (b.foldl cz ⟨aT .hole a,[],none,[]⟩).c1 (b.foldl cz ⟨aT .hole a,[],none,[]⟩).df);have o:∀e∈(b.foldl cz ⟨aT .hole a,[],none,[]⟩).cs,lL (dn a.ab.length (.choice (iN a d.O) (b.foldl cz ⟨aT .hole a,[],none,[]⟩).c1 (b.foldl cz ⟨aT .hole a,[],none,[]⟩).df) (b.foldl cz ⟨aT .hole a,[],none,[]⟩).s) e:=by
  intro e f;have x:lL (b.foldl cz ⟨aT .hole a,[],none,[]⟩).s e:=Kl g.wf (t e f) Zq;exact x
 refine⟨_,_,?_,RT _ _ _ w (λe f=>by grind) o,l,m⟩;simp only[pL];rw[UJ c _ _ o,Al r,j,lZ h,k];have z:(dn a.ab.length (.choice (iN a d.O) (b.foldl cz ⟨aT .hole a,[],none,[]⟩).c1 (b.foldl cz ⟨aT .hole a,[],none,[]⟩).df) (b.foldl cz ⟨aT .hole a,[],none,[]⟩).s).ab.length=a.ab.length+1+gG b:=by simp[dn,y]
 rw[z];have B:a.ab.length=(cK c a).length:=uB.symm;have v:(cK c a++[ck.hole]++iM c 0 (a.ab.length+1) b).set a.ab.length (.choice (iN a d.O) (b.foldl cz ⟨aT .hole a,[],none,[]⟩).c1 (b.foldl cz ⟨aT .hole a,[],none,[]⟩).df)=(cK c a++[ck.choice (iN a d.O) (b.foldl cz ⟨aT .hole a,[],none,[]⟩).c1 (b.foldl cz ⟨aT .hole a,[],none,[]⟩).df])++(iM c 0 (a.ab.length+1) b++[]):=by
  simp_all
 rw[v];have C:(cK c a++[ck.choice (iN a d.O) (b.foldl cz ⟨aT .hole a,[],none,[]⟩).c1 (b.foldl cz ⟨aT .hole a,[],none,[]⟩).df]).length=a.ab.length+1:=Zg;have:=UI c (a.ab.length+1+gG b) b (cK c a++[ck.choice (iN a d.O) (b.foldl cz ⟨aT .hole a,[],none,[]⟩).c1 (b.foldl cz ⟨aT .hole a,[],none,[]⟩).df]) [];simp_all
def FG(a:ir)(b:aC):Prop:=∀c∈rL b,zh a c
def OB(b:ir)(c:bh):aC->Prop
 |.union _ _ a _=>iN c a.O=nN b a.O
 |_=>True
def Pb{c f q n e g h i}
  (r:∀d,mg f c (λa=>a.1.contains d) (ci q d)) (s:mg f c (λa=>a.1.isEmpty) n) (z:lP e f (iM g i f c)) (y:∀a∈c,zh h a.2.O) (d:Int) :
  match lS c d with
    |none=>ci q d=none/\n=none
    |some o=>∃b,(match ci q d with|some b=>some b|none=>n)=some b/\b.2=(if ly o then 0 else 1)/\pO e g h b.1 o/\e[b.1+ey o]? = some (.jump i):=by
 have k:=r d;have key:∀(j:List Int×aW->Bool) (p:Option (Nat×Nat)) (a:List Int×aW),c.reverse.find? j=some a->mg f c j p->∃b,p=some b/\b.2=(if ly a.2.O then 0 else 1)/\pO e g h b.1 a.2.O/\e[b.1+ey a.2.O]? = some (.jump i):=by
  intro j p a l m;unfold mg at m;rw[l]at m;obtain⟨u,v,w,t⟩:=m;refine⟨_,t,rfl,?_⟩;grind [Pr,Ck]
 unfold lS;cases l:c.reverse.find? (λa=>a.1.contains d)with
 |some a=>
  grind
 |none=>
  unfold mg at k;rw[l]at k;simp only[k];cases x:c.reverse.find? (λa=>a.1.isEmpty)with
  |none=>
   unfold mg at s;grind
  |some a=>
   grind
def Iu(B:Zb->Nat)(c:aC)(a:bh)(o:Wf a)(t:ei c=true) :
  ∃seg,cK B (ht c a)=cK B a++seg/\Wf (ht c a)/\(ht c a).cj=cq a.cj (bQ c).1 a.ab.length/\
   (∀(i:List ck) (e:ir),lP i a.ab.length seg->FG e c->OB e a c->BM i B e a.ab.length c):=by
 cases c with
 |const g l v=>simp[ei]at t
 |prog g l v F=>simp[ei]at t
 |typedef c=>
  obtain⟨h,d⟩:=we B c.O a o;refine⟨jD B a.ab.length c.O++[.ret],?_,d.wf.a4 _,?_,?_⟩
  .have:=lZ (B:=B) d.wf .ret;simp_all[ht,kS,cK]
  .simp only[ht,kS,d.bo];rfl
  .intro i e f p _;obtain⟨j,k⟩:=f.b7;rw[sg]at k;exact⟨Ck _ _ (p c.O (by simp[rL])) j,k.cons.1⟩
 |enum g l b=>
  have h:Wf { a with c4:=cq a.c4 g (hP b) }:=o;refine⟨[.num (hP b),.ret],?_,(h.a4 _).a4 _,rfl,?_⟩
  .simp only[ht,kS];show cK B (aT .ret (aT (.num (hP b)) { a with c4:=cq a.c4 g (hP b) }))=_;rw[lZ (h.a4 _),lZ h];grind [cK]
  .intro i e f _ _;exact⟨f.cons.1,f.cons.2.cons.1⟩
 |struct g l b=>
  have x:(aT (.struct b.length true) a).ab.length=a.ab.length+1:=by simp[aT]
  obtain⟨h,d⟩:=Is B (b.map (·.O)) (aT (.struct b.length true) a) (o.a4 _);have s:qS b a=(b.map (·.O)).foldl (λa g=>dk g a) (aT (.struct b.length true) a):=by
   grind [qS,List.foldl_map]
  rw[x]at h;have y:=(oP o (.struct b.length true)).u d;refine⟨.struct b.length true::(tC B (a.ab.length+1) (b.map (·.O))++[.ret]),?_,?_,?_,?_⟩
  .simp only[ht,kS];show cK B (aT .ret (qS b a))=_;grind [lZ,gq.wf]
  .show Wf (aT .ret (qS b a));rw[s];exact d.wf.a4 _
  .simp only[ht,kS];rw[s,y.bo];rfl
  .intro i e f p _;obtain⟨j,k⟩:=f.cons;obtain⟨r,n⟩:=k.b7;rw[abk]at n;exact⟨j,Pq _ _ p r,n.cons.1⟩
 |union g l q m=>
  obtain⟨w,u,h,d,z,A⟩:=Iw B q m a o;refine⟨.choice (iN a q.O) w u::(iM B (a.ab.length+1+gG m) (a.ab.length+1) m++[.ret]),?_,?_,?_,?_⟩
  .simp only[ht,kS];show cK B (aT .ret (pL q m a))=_;grind [lZ,gq.wf]
  .exact d.wf.a4 _
  .simp only[ht,kS,d.bo];rfl
  .intro i e f p C;obtain⟨j,k⟩:=f.cons;obtain⟨r,n⟩:=k.b7;rw[Eq]at n;have D:iN a q.O=nN e q.O:=C;rw[D]at j;exact⟨w,u,a.ab.length+1+gG m,j,n.cons.1,Pb z A r (λl E=>p _ (by simp[rL];grind))⟩
def QI(d:aC)(a:bh)(g:Wf a)(e:Zb):ci (ht d a).c4 e=match d with
  |.enum c _ b=>if e=c then some (hP b)else ci a.c4 e
  |_=>ci a.c4 e:=by
 cases d with
 |enum c f b=>exact uF ..
 |const c f v=>rfl
 |prog c f v e=>rfl
 |typedef d=>simp only[ht,kS,aT,(we (λ_=>0) d.O a g).2.en]
 |struct c f b=>
  have i:qS b a=(b.map (·.O)).foldl (λa c=>dk c a) (aT (.struct b.length true) a):=by grind [qS,List.foldl_map]
  simp only[ht,kS,aT,i];have:=((oP g (.struct b.length true)).u (Is (λ_=>0) (b.map (·.O)) (aT (.struct b.length true) a) (g.a4 _)).2).en;grind [aT]
 |union c f j h=>
  obtain⟨m,l,_,k,_⟩:=Iw (λ_=>0) j h a g;grind [ht,kS,aT,gq.en]
def GU{a:aC}(c:ei a=false)(b:bh):ht a b=b:=by cases a<;>simp[ei]at c<;>rfl
def GG(z:Zb->Nat):∀(v:Nat) (h:List aC),h.length=v->
  Wf (eg h)/\(∀p,(∀d∈h,ei d=true->(bQ d).1≠p)->ci (eg h).cj p=none)/\
  (∀b d a,h=b++d::a->ei d=true->(∀e∈a,ei e=true->(bQ e).1≠(bQ d).1)->ci (eg h).cj (bQ d).1=some (eg b).ab.length)/\
  (∀b a,h=b++a->∃C,cK z (eg h)=cK z (eg b)++C)/\
  (∀b q s r a,h=b++aC.enum q s r::a->(∀e∈a,ei e=true->(bQ e).1≠q)->ci (eg h).c4 q=some (hP r)):=by
 intro v;induction v with
 |zero=>
  intro h w;have:h=[]:=Yv.1 w;subst this;refine⟨(by intro v K;cases K),λp _=>rfl,?_,?_,?_⟩;all_goals simp
 |succ v N=>
  intro h w;have y:h≠[]:=by intro e;subst e;simp at w
  obtain⟨l,i,rfl⟩:∃l i,h=l++[i]:=⟨h.dropLast,h.getLast y,(List.dropLast_concat_getLast y).symm⟩;obtain⟨A,E,F,G,H⟩:=N l (by simpa using w);rw[xA];have split:∀(b:List aC) (d:aC) (a:List aC),l++[i]=b++d::a->(a=[]/\d=i/\b=l)\/∃c,a=c++[i]/\l=b++d::c:=by
   intro b d a g;by_cases f:a=[]
   .subst f;obtain⟨n,t⟩:=List.append_inj' g rfl;simp at t;exact Y8 ⟨rfl,t.symm,n.symm⟩
   .obtain⟨c,k,rfl⟩:∃c k,a=c++[k]:=⟨a.dropLast,a.getLast f,(List.dropLast_concat_getLast f).symm⟩;have j:l++[i]=(b++d::c)++[k]:=by rw[g];simp
    obtain⟨n,t⟩:=List.append_inj' j rfl;simp at t;exact Ya ⟨c,by rw[t],n⟩
  cases m:ei i with
  |false=>
   rw[GU m];refine⟨A,?_,?_,?_,?_⟩
   .intro p x;exact E p (λd B=>x d (Yf _ B))
   .intro b d a g u f;rcases split b d a g with⟨_,rfl,_⟩|⟨c,rfl,j⟩
    .rw[m]at u;cases u
    .exact F b d c j u (λe o=>f e (Yf _ o))
   .intro b a g;by_cases f:a=[]
    .subst f;refine⟨[],?_⟩;simp at g;rw[<-g,xA,GU m];simp
    .obtain⟨c,k,rfl⟩:∃c k,a=c++[k]:=⟨a.dropLast,a.getLast f,(List.dropLast_concat_getLast f).symm⟩;have j:l++[i]=(b++c)++[k]:=by rw[g];simp
     obtain⟨n,_⟩:=List.append_inj' j rfl;exact G b c n
   .intro b q s r a g f;rcases split b _ a g with⟨_,rfl,_⟩|⟨c,rfl,j⟩
    .simp[ei]at m
    .exact H b q s r c j (λe o=>f e (Yf _ o))
  |true=>
   obtain⟨seg,I,J,D,P⟩:=Iu z i (eg l) A m;refine⟨J,?_,?_,?_,?_⟩
   .intro p x;rw[D,uF,Y2 (λe=>x i Zq m e.symm)];exact E p (λd B=>x d (Yf _ B))
   .intro b d a g u f;rw[D,uF];rcases split b d a g with⟨_,rfl,rfl⟩|⟨c,rfl,j⟩
    .simp
    .rw[Y2 (λe=>f i Zq m e.symm)];exact F b d c j u (λe o=>f e (Yf _ o))
   .intro b a g;by_cases f:a=[]
    .subst f;refine⟨[],?_⟩;simp at g;rw[<-g,xA];simp
    .obtain⟨c,k,rfl⟩:∃c k,a=c++[k]:=⟨a.dropLast,a.getLast f,(List.dropLast_concat_getLast f).symm⟩;have j:l++[i]=(b++c)++[k]:=by rw[g];simp
     obtain⟨n,_⟩:=List.append_inj' j rfl;obtain⟨C,M⟩:=G b c n;exact⟨C++seg,by rw[I,M];simp⟩
   .intro b q s r a g f;rw[QI i _ A];rcases split b _ a g with⟨_,rfl,rfl⟩|⟨c,rfl,j⟩
    .simp
    .have L:=H b q s r c j (λe o=>f e (Yf _ o));have y:=f i Zq m;cases i with
     |enum S O R=>
      simp only;rw[Y2 (λe=>y (by rw[e];rfl))];omega
     |_=>exact L
section
variable {d:aC}{b:List aC}{c:Zb}{f:Type}
def UF(a:bh):(tg a).ab=cK (λc=>(ci a.cj c).getD 0) a:=by
 have key:∀(e:List (Nat×Zb)) (d:bh),d.cj=a.cj->(e.foldl (λa b=>dn b.1 (.call ((aO a.cj b.2).getD 0)) a) d).ab=e.foldl (λg b=>g.set b.1 (.call ((ci a.cj b.2).getD 0))) d.ab:=by
  intro e;induction e with
  |nil=>simp
  |cons b e h=>
   intro d f;simp only[YY];rw[h (dn b.1 (.call ((aO d.cj b.2).getD 0)) d) f,f,xW];rfl
 exact key a.aL a rfl
def acf(e:Zb->Nat)(b:bh)(u:Wf b):∀(k:Nat) (a:List aC),a.length=k->
  Wf (a.foldl dJ (b,[])).1/\(a.foldl dJ (b,[])).1.cj=b.cj/\(∃m,cK e (a.foldl dJ (b,[])).1=cK e b++m)/\
  (∀c g,ci (a.foldl dJ (b,[])).2 c=some g->(cK e (a.foldl dJ (b,[])).1)[g]? = some (.call (e c))/\(cK e (a.foldl dJ (b,[])).1)[g+1]? = some .fin/\(ci b.cj c).isSome)/\
  (∀d∈a,(ci b.cj (bQ d).1).isSome->(ci (a.foldl dJ (b,[])).2 (bQ d).1).isSome):=by
 intro k;induction k with
 |zero=>
  intro a j;have:a=[]:=Yv.1 j;subst this;exact⟨u,rfl,⟨[],Zq⟩,(by intro c g t;cases t),Zq⟩
 |succ k y=>
  intro a j;have r:a≠[]:=Zg;obtain⟨h,f,rfl⟩:∃h f,a=h++[f]:=⟨a.dropLast,a.getLast r,(List.dropLast_concat_getLast r).symm⟩;obtain⟨n,i,⟨m,p⟩,q,v⟩:=y h Zu;rw[YS];simp only[YY,List.foldl_nil];generalize h.foldl dJ (b,[])=l at n i p q v ⊢;unfold dJ;rw[xW,i];cases w:(ci b.cj (bQ f).1).isSome with
  |false=>
   simp only[Ye,if_false]
   refine⟨n,i,⟨m,p⟩,q,?_⟩;grind
  |true=>
   simp only[if_true]
   have z:=n.call (bQ f).1;have s:cK e (yG (bQ f).1 l.1)=cK e l.1++[.call (e (bQ f).1),.fin]:=by
    grind [yG,lZ,It]
   have j:(cK e l.1).length=l.1.ab.length:=uB;refine⟨z.a4 _,i,⟨m++[.call (e (bQ f).1),.fin],Zu⟩,?_,?_⟩
   .intro c g o;rw[uF]at o;rw[s];split at o
    .rename_i x;subst x;cases o
     refine⟨?_,?_,w⟩
     .grind
     .rw[Yw Zm,j];simp
    grind
   .intro d A B;rw[uF];split
    .rfl
    grind
theorem Fy{a}(b:Wf a):gq a a:=⟨b,rfl,rfl,Y4 _,λ_ _ c=>c,λ_ _=>rfl⟩
def Iv(b:Zb->Nat)(c:Ty)(a:bh)(e:Wf a):gq a (nf c a)/\cK b (nf c a)=cK b a++(jD b a.ab.length c++[.fin]):=by
 obtain⟨f,d⟩:=we b c a e;refine⟨d.u (oP d.wf _),?_⟩;grind [nf,lZ,gq.wf]
def CV{i:Type}(e:Zb->Nat)(c:bh×f->i->bh×f)(l:∀a b,Wf a.1->gq a.1 (c a b).1/\∃g,cK e (c a b).1=cK e a.1++g):∀(d:List i) (a:bh×f),Wf a.1->gq a.1 (d.foldl c a).1/\∃g,cK e (d.foldl c a).1=cK e a.1++g:=by
 intro d;induction d with
 |nil=>simp_all[Fy]
 |cons b d m=>
  intro a j;obtain⟨h,n,p⟩:=l a b j;obtain⟨k,o,q⟩:=m (c a b) h.wf;exact⟨h.u k,n++o,Zu⟩
def XV(c:Zb->Nat)(a:bh×List (Int×Nat×Nat))(b:gg)(g:Wf a.1):gq a.1 (jY a b).1/\∃i,cK c (jY a b).1=cK c a.1++i:=by
 obtain⟨d,e⟩:=Iv c b.cP a.1 g;obtain⟨h,f⟩:=Iv c b.cu _ d.wf;exact⟨d.u h,_,by show cK c (nf b.cu (nf b.cP a.1))=_;rw[f,e,YN]⟩
def aei(b:Zb->Nat)(a:bh×ki)(v:fH)(c:Wf a.1):gq a.1 (md a v).1/\∃d,cK b (md a v).1=cK b a.1++d:=CV b jY (XV b) v.aq (a.1,[]) c
def ZB(b:Zb->Nat)(a:bh×List (Int×ki))(d:aC)(c:Wf a.1):gq a.1 (gJ a d).1/\∃e,cK b (gJ a d).1=cK b a.1++e:=by
 cases d with
 |prog i g f h=>exact CV b md (aei b) f (a.1,_) c
 |_=>exact⟨Fy c,[],by simp[gJ]⟩
def ZI(c:Zb->Nat)(b:List aC)(a:bh)(d:Wf a):gq a (b.foldl gJ (a,[])).1/\∃e,cK c (b.foldl gJ (a,[])).1=cK c a++e:=CV c gJ (ZB c) b (a,[]) d
def ff(b:List aC):ir:=λc=>b.find? λd=>ei d&&decide ((bQ d).1=c)
def CM(a:ff b c=some d):ei d=true/\(bQ d).1=c/\∃f g,b=f++d::g:=by
 unfold ff at a;have e:=List.find?_some a;simp only[Bool.and_eq_true,decide_eq_true_eq]at e;exact⟨e.1,e.2,List.append_of_mem (List.mem_of_find?_eq_some a)⟩
def Ho(a:ff b c=none):∀d∈b,ei d=true->(bQ d).1≠c:=by
 grind [ff]
structure oT(b:List aC):Prop where
 nd:∀az d bs,b=az++d::bs->ei d=true->∀e∈bs,ei e=true->(bQ e).1≠(bQ d).1
 i8:∀d∈b,ei d=true->FG (ff b) d
 h8:∀az t a s arms bs c a',b=az++aC.union t a s arms::bs->s.O=.named c a'->∃as1 a2 ms as2,az=as1++aC.enum c a2 ms::as2
 mB:∀t a s arms,aC.union t a s arms∈b->ha s.O
 er:∀d∈b,∀t∈rL d,ib t
def oT.h2(i:oT b){c e:List aC}(j:b=c++d::e)(l:ei d=true):ff b (bQ d).1=some d:=by
 unfold ff;rw[j,List.find?_append];have:c.find? (λa=>ei a&&decide ((bQ a).1=(bQ d).1))=none:=by
  rw[List.find?_eq_none];intro a k f;simp only[Bool.and_eq_true,decide_eq_true_eq]at f;obtain⟨g,h,rfl⟩:=List.append_of_mem k;have:=i.nd g a (h++d::e) Zu f.1 d Zq l;simp_all
 grind
def SW{b d:List f}{a:Nat}{c}(e:b[a]? = some c):(b++d)[a]? = some c:=by
 grind
def Mn(g:oT b):∃e,BK (gV b).1 e (ff b)/\∀c,match ci (gV b).2 c with
  |none=>ff b c=none
  |some o=>(ff b c).isSome/\(gV b).1[o]? = some (.call (e c))/\(gV b).1[o+1]? = some .fin:=by
 refine⟨λc=>(ci (eg b).cj c).getD 0,?_⟩;obtain⟨G,H,w,I,_⟩:=GG (λc=>(ci (eg b).cj c).getD 0) b.length b rfl;obtain⟨a5,a6,⟨D,b3⟩,a7,b4⟩:=acf (λc=>(ci (eg b).cj c).getD 0) (eg b) G b.length b rfl;obtain⟨t,E,N⟩:=ZI (λc=>(ci (eg b).cj c).getD 0) b (b.foldl dJ (eg b,[])).1 a5;have R:(gV b).1=cK (λc=>(ci (eg b).cj c).getD 0) (b.foldl dJ (eg b,[])).1++E:=by
  show (tg (b.foldl gJ ((b.foldl dJ (eg b,[])).1,[])).1).ab=_;rw[UF,t.bo,a6,N]
 have a2:(gV b).2=(b.foldl dJ (eg b,[])).2:=rfl;rw[R,a2];generalize b0:(λc=>(ci (eg b).cj c).getD 0)=e at *
 refine⟨?_,?_⟩
 .intro c h O;obtain⟨j,a0,a,f,i⟩:=CM O;refine⟨?_,?_,g.er h Zg,?_⟩
  .grind [ei]
  .grind [ei]
  .have a1:=w a h f i j (g.nd a h f i j);have z:e c=(eg a).ab.length:=by
    grind
   rw[z];obtain⟨a8,_,_,_,a9⟩:=GG e a.length a rfl;obtain⟨seg,t,x,y,M⟩:=Iu e h (eg a) a8 j;obtain⟨a4,b1⟩:=I (a++[h]) f Zg;refine M _ _ ?_ (g.i8 h Zg j) ?_
   .have:(cK e (eg a)).length=(eg a).ab.length:=uB;rw[<-this];refine OF (post:=a4++D++E) ?_;grind [xA]
   .cases h with
    |union u p l r=>
     show iN (eg a) l.O=nN (ff b) l.O;have B:=g.mB u p l r (by rw[i];simp);cases C:l.O with
     |named k F=>
      obtain⟨s,q,n,v,P⟩:=g.h8 a u p l r f k F i C;have A:b=s++aC.enum k q n::(v++aC.union u p l r::f):=Zg;have K:ff b k=some (.enum k q n):=g.h2 A rfl;have L:ci (eg a).c4 k=some (hP n):=a9 s k q n v P (λJ m a3=>g.nd s _ _ A rfl J (Yf _ m) a3);simp only[iN,nN,K,xW,L,Option.getD_some]
     |plain b2=>rfl
     |_=>rw[C]at B;simp[ha]at B
    |_=>trivial
 .intro c;cases S:ci (b.foldl dJ (eg b,[])).2 c with
  |some o=>
   obtain⟨t,x,y⟩:=a7 c o S;have z:e c=(ci (eg b).cj c).getD 0:=Zg;refine⟨?_,Zg,SW x⟩;cases m:ff b c with
   |some d=>rfl
   |none=>
    rw[H c (Ho m)]at y;grind
  |none=>
   show ff b c=none;cases m:ff b c with
   |none=>rfl
   |some d=>
    obtain⟨j,a0,a,f,i⟩:=CM m;have a1:=w a d f i j (g.nd a d f i j);grind
end
def gm(a:Nat):Nat:=(a+3) / 4*4
def ip{f g:Type}{b}{c:f->Except Mar.ay g}{e}(d:bg b c=.ok e):∃a,b=.ok a/\c a=.ok e:=by
 cases b with
 |error h=>cases d
 |ok a=>exact⟨a,rfl,d⟩
section
structure xn{c:Type}(b:Wk c)(a:c->Prop):Prop where
 ef:∀k d d',a d->b.ef k d=.ok d'->a d'
 num:∀n d d',a d->b.num n d=.ok d'->a d'
 text:∀n f d d',a d->b.text n f d=.ok d'->a d'
 a6:∀n f d p,a d->b.a6 n f d=.ok p->a p.2
 de:∀n v d p,a d->b.de n v d=.ok p->a p.2
section
variable {c : Type} {b : Wk c} {a : c -> Prop} {nm : Zb -> jo c}
def TW{g:jo c}(l:∀b d,a b->g b=.ok d->a d):∀e b d,a b->qJ g e b=.ok d->a d:=by
 intro e;induction e with
 |zero=>intro b d h f;cases f;omega
 |succ e m=>
  intro b d h f;obtain⟨i,j,k⟩:=ip f;grind
theorem Dh(f:xn b a)(o:∀e c d,a c->nm e c=.ok d->a d)(n:Ty):∀c d,a c->iP b nm n c=.ok d->a d:=by
 induction n with
 |named e m=>exact o e
 |plain r=>exact f.num _
 |opaq e j=>exact f.text _ _
 |str e j=>exact f.text _ _
 |void=>intro c d h g;cases g;omega
 |arr p e j l=>
  intro c d h g;obtain⟨m,i,k⟩:=ip g;exact TW l _ _ _ (f.a6 _ _ _ _ h i) k
 |opt p l=>
  intro c d h g;obtain⟨m,i,k⟩:=ip g;have q:=f.de _ _ _ _ h i;grind
def TT(i:xn b a)(l:∀h c d,a c->nm h c=.ok d->a d):∀(e:List Ty) c d,a c->vN b nm e c=.ok d->a d:=by
 intro e;induction e with
 |nil=>intro c d g f;cases f;omega
 |cons o e m=>
  intro c d g f;obtain⟨n,j,k⟩:=ip f;grind [Dh]
theorem TU(h:xn b a){o}(m:∀n c d,a c->nm n c=.ok d->a d)(k:aC):∀c d,a c->qr b o nm k c=.ok d->a d:=by
 cases k with
 |const g f v=>intro c q _ e;cases e
 |prog g f v n=>intro c q _ e;cases e
 |typedef g=>exact Dh h m g.O
 |enum g f p=>exact h.num _
 |struct g f p=>
  intro c d j e;obtain⟨f,i,l⟩:=ip e;exact TT h m _ _ _ (h.a6 _ _ _ _ j i) l
 |union g f t r=>
  intro c d j e;obtain⟨f,i,l⟩:=ip e;have s:=h.de _ _ _ _ j i;grind [Dh]
def TV(j:xn b a){i}:∀(d g:Nat) (h:Zb) c e,a c->jh b i d g h c=.ok e->a e:=by
 intro d;induction d with
 |zero=>
  intro g h c q _ f;obtain⟨_,_,l⟩:=ip f;grind
 |succ d p=>
  intro g h c e m f;obtain⟨n,k,l⟩:=ip f;have o:=j.ef _ _ _ m k;grind [TU]
end
end
section
structure fV where
 F:Int
 n:Int
 s:Zb
 y:Int
 av:Int
structure ch where
 ag:Nat
 w:Zb
def dS(a:Int):Zb:=[UInt8.ofNat ((a % 4294967296).toNat / 16777216),UInt8.ofNat ((a % 4294967296).toNat / 65536),UInt8.ofNat ((a % 4294967296).toNat / 256),UInt8.ofNat (a % 4294967296).toNat]
def gF(b:Int)(c:Bool)(a:Int):Bool:=if c then decide (a=b)else decide (0<=a)&&decide (a<=b)
section
variable (v : List fV) (c b a : Nat)
def gL(e:Int)(d:fV->Bool)(a:ch):Except Mar.ay (fV×ch):=
 if b<=a.ag then .error ⟨15,a.ag⟩else match v[a.ag]? with
  |none=>.error ⟨12,a.ag⟩
  |some c=>if c.F=e/\d c=true then .ok (c,{ a with ag:=a.ag+1 })else .error ⟨12,a.ag⟩
def kA(c:Nat)(b:ch):Except Mar.ay ch:=if a<b.w.length+c then .error ⟨14,b.ag-1⟩else .ok b
def hY(c:Int)(b:ch):Except Mar.ay ch:=bg (kA a 4 b) λb=>.ok { b with w:=b.w++dS c }
def kY(a:Zb):Zb:=a++List.replicate (gm a.length-a.length) 0
def oB(c:Zb)(b:ch):Except Mar.ay ch:=bg (kA a (gm c.length) b) λb=>.ok { b with w:=b.w++kY c }
def mD(c:Int->Option Nat)(a:fV):Bool:=match c a.n with
 |some b=>decide (a.av=b)
 |none=>false
def cr:Wk ch where
 ef k d:=if c<=k then .error ⟨13,d.ag⟩else .ok d
 num n d:=bg (gL v b 1 (λg=>n.c2 g.n) d) λe=>bg (if n.b8 then hY a (e.1.n / 4294967296) e.2 else .ok e.2) λd=>hY a e.1.n d
 text n f d:=bg (gL v b 2 (λg=>gF n f g.s.length) d) λe=>bg (if f then .ok e.2 else hY a e.1.s.length e.2) λd=>oB a e.1.s d
 a6 n f d:=bg (gL v b 3 (λg=>gF n f g.av) d) λe=>bg (if f then .ok e.2 else hY a e.1.av e.2) λd=>.ok (e.1.av.toNat,d)
 de n w d:=bg (gL v b 4 (mD w) d) λe=>bg (hY a e.1.n e.2) λd=>.ok (e.1.n,d)
end
def jd(e:ir)(f:Zb)(v:List fV)(c b a:Nat):Except Mar.ay (Zb):=
 bg (jh (cr v c b a) e 64 0 f ⟨0,[]⟩) λd=>if d.ag<v.length then .error ⟨12,d.ag⟩else .ok d.w
theorem Fj(a:Int):(dS a).length=4:=rfl
end
def adg{v:List fV}{d:Nat}{e:Int}{c:fV->Bool}{a:ch}{b:fV×ch}(f:gL v d e c a=.ok b):a.ag<d/\v[a.ag]? = some b.1/\b.1.F=e/\c b.1=true/\b.2 = { a with ag:=a.ag+1 }:=by
 unfold gL at f;grind
def Fm{e:Nat}{d:Int}{a b:ch}(f:hY e d a=.ok b):b = { a with w:=a.w++dS d }/\b.w.length<=e:=by
 obtain⟨h,c,g⟩:=ip f;unfold kA at c;split at c
 .grind
 .cases c
  cases g<;>simp_all[Fj]
def XH{e:Nat}{a:Zb}{b c:ch}(f:oB e a b=.ok c):c = { b with w:=b.w++kY a }/\c.w.length<=e:=by
 obtain⟨h,d,g⟩:=ip f;unfold kA at d;split at d
 .grind
 .cases d
  cases g
  have i:(kY a).length=gm a.length:=by grind [kY,gm]
  simp_all
def QZ(v:List fV)(j l i:Nat):xn (cr v j l i) λc=>c.w.length<=i where
 ef k c e' he a:=by
  grind [cr]
 num n c e' he a:=by
  obtain⟨h,e,a⟩:=ip a;obtain⟨g,d,b⟩:=ip a;exact(Fm b).2
 text n f c e' he a:=by
  obtain⟨h,e,a⟩:=ip a;obtain⟨g,d,b⟩:=ip a;exact(XH b).2
 a6 n f c p' he a:=by
  obtain⟨h,e,a⟩:=ip a;obtain⟨_,_,_,_,m⟩:=adg e;obtain⟨g,d,b⟩:=ip a;cases b
  split at d
  .grind
  .exact(Fm d).2
 de n w c p' he a:=by
  obtain⟨h,e,a⟩:=ip a;obtain⟨g,d,b⟩:=ip a;cases b
  exact(Fm d).2
section
variable {d:iq}{e:Zo}{f:List (ck×Zv)}{h:List (Zb×dD×Zv)}{g i:Zv}{b:bh}{a c:Zw}
def TR:(prog.info? 273).map (λa=>(a.zero,a.size,a.bytes))=some (some .nilIface,1,16):=Zk
def TH:(prog.info? 269).map (λa=>(a.zero,a.size,a.bytes))=some (some (.agg #[U 0,.string ⟨#[]⟩]),2,24):=Zk
def nL{Fr v x}(l:Cp c d Fr e b i g f h a)(r:ln e v x)(a2:b.ab.length<1000000) :
  Calls prog 131 #[Zp d.C,v] a λo K=>o=.returned (U b.ab.length)/\∃J,Cp c d Fr e (aT x b) J g (f++[(x,v)]) h K:=by
 obtain⟨w,L,rfl⟩:=r.n5
 obtain⟨ad,n,rfl⟩:=l.cS;obtain⟨M,N,O,P,a1,D⟩:=l.al;have m:=aa l;have t:=aa r;have a3:c.heap.size<=a.heap.size:=l.ae.kp.aD;have G:∀j,(a.alloc j).ownsRow c.heap.size 273 1 (.slice ad b.ab.length n) b.ab.length (f.map (·.2)):=λj=>bw l.row ((ao [] a).H j) Zq;have A:(b.ab.length+1)*16<=140737488355328:=Zm;have y:∀j k,(a.alloc j).grownBy k (Value.slice ad b.ab.length n).ownBlock->k.cell? (Zd d.C 0)=some (.slice ad b.ab.length n)/\(∀I,k.frozen? ⟨d.C,I,none⟩=false)/\d.C<k.heap.size:=by
  intro j k z;have p:k.heap[d.C]? = some (.cells #[.slice ad b.ab.length n,.map (some d.B),.map (some d.E),g] 167):=
   (z.block _ Zx (λo=>(m.w.hM.2.2.2.1 _ o.symm).1 rfl)).trans ((((ao [] a).H j).L _ D Zq).trans m.w.ap)
  refine⟨?_,?_,au p⟩<;>simp[World.cell?,World.frozen?,p]
 have s:=aa y;go_in;go_wp2_with (first
  |(at_builtin;refine kl TR underlying102 (G _) [.iface w L] (heap_alloc_new a _) Zy A Zx (H:=a.heap.size+1) Zq ?_;intro S R a7 H q a0 F;obtain⟨a4,a5,a6⟩:=s.w _ _ q))
 go_ret;have u:=No m.w t.w ((Below.refl a.heap.size a).alloc (Y4 _) _) H q Zu F;exact⟨Zq,_,u⟩
def qw{Fr}(j:Cp c d Fr e b i g f h a) :
  Calls prog 128 #[Zp d.C] a λk l=>k=.returned (U b.ab.length)/\l=a:=by
 obtain⟨ad,q,rfl⟩:=j.cS;obtain⟨m,n,o,p,r,s⟩:=j.al;go_in;go_wp2;go_ret;simp
abbrev JW(a:dD)(b:Zv):Array Zv:=#[U a.e6,U a.e4,b,.bool a.b8]
def DM(a:Nat):(dF a).h6=none:=by
 grind [dF]
def CC(a:Nat)(c:Zw):Calls prog 207 #[U a] c λi m=>i=.returned (.agg (JW (dF a) (.slice none 0 0)))/\Below c.heap.size c m:=by
 have d:∀h,Below c.heap.size c (c.alloc h):=λh=>(Below.refl ..).alloc (Y4 _) _;by_cases e:a=0
 .have j:((a:Int)==0)=true:=Zg;have b:af (dF a=⟨-2147483648,2147483647,none,false⟩):=by show _=_;simp[dF,e]
  go_in;go_wp2;exact bodyPost_ret (v:=.agg #[U (-2147483648),U 2147483647,.slice none 0 0,.bool false]) (by simp[results,results207,go_sem]) rfl ⟨by rw[b.w],d _⟩
 .have j:((a:Int)==0)=false:=Zu;by_cases f:a=1
  .have k:((a:Int)==1)=true:=Zg;have b:af (dF a=⟨0,4294967295,none,false⟩):=by show _=_;simp[dF,f]
   go_in;go_wp2;exact bodyPost_ret (v:=.agg #[U 0,U 4294967295,.slice none 0 0,.bool false]) (by simp[results,results207,go_sem]) rfl ⟨by rw[b.w],d _⟩
  .have k:((a:Int)==1)=false:=Zg;by_cases g:a=4
   .have l:((a:Int)==4)=true:=Zg;have b:af (dF a=⟨0,1,none,false⟩):=by show _=_;simp[dF,g]
    go_in;go_wp2;exact bodyPost_ret (v:=.agg #[U 0,U 1,.slice none 0 0,.bool false]) (by simp[results,results207,go_sem]) rfl ⟨by rw[b.w],d _⟩
   .have l:((a:Int)==4)=false:=Zg;have b:af (dF a=⟨-9223372036854775808,9223372036854775807,none,true⟩):=by show _=_;simp[dF,e,f,g]
    go_in;go_wp2;exact bodyPost_ret (v:=.agg #[U (-9223372036854775808),U 9223372036854775807,.slice none 0 0,.bool true]) (by simp[results,results207,go_sem]) rfl ⟨by rw[b.w],d _⟩
end
section
variable {a:iq}{f:Zo}{h:List (ck×Zv)}{i:List (Zb×dD×Zv)}{d g:Zv}{c:bh}{b e:Zw}
def Xk(c:Nat×Zb):∀b∈rE c,b.oneCell'=true:=by
 intro b a;simp at a;rcases a with rfl|rfl<;>rfl
def Cp.n7{j Fr l}(k:Cp e a Fr f c g d h i b)(n:(b.alloc l).grownBy j d.ownBlock) :
  j.cell? (Zd a.C 3)=some d/\(∀p,j.frozen? ⟨a.C,p,none⟩=false)/\a.C<j.heap.size:=by
 have o:=au k.ap;have q:j.heap[a.C]? = some (.cells #[g,.map (some a.B),.map (some a.E),d] 167):=
  (n.block _ Zx (λm=>(k.hM.2.2.2.2 _ m.symm).1 rfl)).trans ((((ao [] b).H l).L _ o Zq).trans k.ap)
 grind [World.cell?,World.frozen?]
def PD{Fr}(n:Zb)(p:Cp e a Fr f c g d h i b)(D:c.ab.length<1000000)(O:c.aL.length<1000000) :
  Calls prog 206 #[Zp a.C,Zs n] b λs E=>s=.returned (.tuple #[])/\ej e a Fr f (jR n c) E:=by
 obtain⟨ad,r,rfl⟩:=p.lq;obtain⟨G,I,J,K,R,u⟩:=p.al;have z:Below b.heap.size b b.drew:=(Below.refl ..).drew;have w:=aa (nL (v:=.iface 271 (.agg #[U 0])) (x:=.call 0) (p.ah z) rfl D)
 have A:(c.aL.length+1)*24<=140737488355328:=Zm;go_in;go_wp21;refine cy (λF=>F.cell? (Zd a.C 3)=some (.slice ad c.aL.length r)) ?_ λq=>?_
 .go_keep
 refine bI [0,1,2,3,4,5,6,7,9] ?_;iterate 9 (refine bK ?_)
 refine bJ ?_;refine cx 8 λo m=>?_;(go_simp;go_at_call 131;refine w.w.mono ?_;rintro s l ⟨rfl,a4,j⟩;have j:=aa j;have P:l.cell? (Zd a.C 3)=some (.slice ad c.aL.length r):=j.w.al.2.2.2.1;have a0:e.heap.size<=l.heap.size:=j.w.ae.kp.aD;have S:a.C<l.heap.size:=j.w.al.2.2.2.2.2);refine m.out _ _ ?_ (λq=>?_)
 .go_keep
 refine nz ?_;refine pJ 10 ?_;refine cx 11 λo m=>?_;go_simp;refine m.out _ _ ?_ (λq=>?_)
 .go_keep
 refine nz ?_;refine cx 12 λo m=>?_;(refine mC TH underlying165 (bw j.w.hw ((ao [] l).H _) Zq) (rE (c.ab.length,n)) (heap_alloc_new l _) (Xk _) A Zx (H:=l.heap.size+1) Zq ?_;intro M L a5 B t N u;obtain⟨a1,a2,a3⟩:=j.w.n7 t);refine m.out _ _ ?_ (λq=>?_)
 .go_keep
 refine nz ?_;refine bI [13,14] ?_;iterate 2 (refine bK ?_)
 refine bJ ?_;refine cw λo m=>?_;go_simp;refine m.out _ _ ?_;refine nz ?_;have y:=Nn (k:=(c.ab.length,n)) j.w ((Below.refl l.heap.size l).alloc (Y4 _) _) B t Zu u;go_wp2;go_end0;exact⟨rfl,y.c9⟩
end
section
variable {b:iq}{c:Zo}{e:List (ck×Zv)}{f:List (Zb×dD×Zv)}{g h:Zv}{n:Nat}{s:bh}{a d:Zw}
def DK(c:Zo){n:dD}(a:n.h6=none):hJ c [U n.e6,U n.e4,.slice none 0 0,.bool n.b8] n:=⟨.slice none 0 0,rfl,by rw[a];rfl,_,_,_,rfl⟩
structure bH(s:bh)(n:Nat):Prop where
 ab:s.ab.length+n<1000000
 aL:s.aL.length<=s.ab.length
theorem bH.a4(a:bH s (n+1))(x:ck):bH (aT x s) n:=⟨by simp[aT];have:=a.ab;omega,by grind [aT,aL]⟩
def bH.call(a:bH s (n+1))(b:Zb):bH (jR b s) n:=⟨by simp[jR];have:=a.ab;omega,by grind [jR,aL]⟩
def bH.b5{b:Nat}(a:bH s n)(c:b<=n):bH s b:=⟨by have:=a.ab;omega,a.aL⟩
theorem bH.a5(a:bH s n)(i:Nat)(b:ck):bH (dn i b s) n:=⟨by simpa[dn]using a.ab,by simpa[dn]using a.aL⟩
def xf(c:Ty):∀{s:bh} {n:Nat},bH s (n+ey c)->bH (dk c s) n:=by
 induction c with
 |named c b=>intro s n a;exact a.call c
 |plain e=>intro s n a;exact a.a4 _
 |opaq e f=>intro s n a;exact a.a4 _
 |str e f=>intro s n a;exact a.a4 _
 |void=>intro s n a;exact a
 |arr g e f d=>intro s n a;exact(bH.a4 (d (bH.a4 (bH.b5 a (by simp only[ey];omega)) _)) _).a5 ..
 |opt g d=>intro s n a;exact(d (bH.a4 (bH.b5 a (by simp only[ey];omega)) _)).a5 ..
def aea{Fr}(i:Zb)(j:Nat)(p:Cp d b Fr c s h g e f a)(l:bH s 1) :
  Calls prog 129 #[Zp b.C,.iface 260 (.agg #[Zs i,U j])] a λk r=>k=.returned (.tuple #[])/\ej d b Fr c (jR i s) r:=by
 have v:=go (.iface 260 (.agg #[Zs i,U j])) 240 260 (.agg #[Zs i,U j]) true
 have t:=l.ab;have u:=l.aL;have q:∀m,Below a.heap.size a (a.alloc m):=λm=>(Below.refl ..).alloc (Y4 _) _;have n:=aa p;go_in;go_wp21;refine(PD i (n.w.ah (q _)) Zm Zm).mono ?_;rintro k w ⟨rfl,o⟩;go_wp2;go_end0;exact⟨rfl,o⟩
def aee{Fr}(i:Nat)(p:Cp d b Fr c s h g e f a)(k:bH s 1) :
  Calls prog 129 #[Zp b.C,.iface 372 (.agg #[U i])] a λj t=>j=.returned (.tuple #[])/\ej d b Fr c (aT (.num (dF i)) s) t:=by
 have z:=go (.iface 372 (.agg #[U i])) 240 260 (.agg #[.string ⟨#[]⟩,U 0]) false
 have A:=go (.iface 372 (.agg #[U i])) 240 372 (.agg #[U i]) true
 have u:=k.ab;have w:=k.aL;have q:∀l,Below a.heap.size a (a.alloc l):=λl=>(Below.refl ..).alloc (Y4 _) _;have m:=aa p;go_in;go_wp21;refine(CC i _).mono ?_;rintro j B ⟨rfl,r⟩;have n:=(m.w.ah (q _)).ah r;go_wp21;refine(nL (v:=.iface 247 (.agg (JW (dF i) (.slice none 0 0)))) (x:=.num (dF i)) n ⟨[U (dF i).e6,U (dF i).e4,.slice none 0 0,.bool (dF i).b8],rfl,DK _ (DM i)⟩ Zm).mono ?_
 rintro j D ⟨rfl,y,o⟩;go_wp2;go_end0;exact⟨rfl,o.c9⟩
def Mx(l:Bool){Fr}(n:Int)(i:Bool)(q:Cp d b Fr c s h g e f a)(k:bH s 1) :
  Calls prog 129 #[Zp b.C,.iface (bif l then 380 else 377) (.agg #[U n,.bool i])] a λj w=>j=.returned (.tuple #[])/\ej d b Fr c (aT (.text n i) s) w:=by
 cases l
 case' true=>
  have t:=go (.iface 380 (.agg #[U n,.bool i])) 240 260 (.agg #[.string ⟨#[]⟩,U 0]) false
  have u:=go (.iface 380 (.agg #[U n,.bool i])) 240 372 (.agg #[U 0]) false
  have v:=go (.iface 380 (.agg #[U n,.bool i])) 240 377 (.agg #[U 0,.bool false]) false
  have B:=go (.iface 380 (.agg #[U n,.bool i])) 240 380 (.agg #[U n,.bool i]) true
 case' false=>
  have t:=go (.iface 377 (.agg #[U n,.bool i])) 240 260 (.agg #[.string ⟨#[]⟩,U 0]) false
  have u:=go (.iface 377 (.agg #[U n,.bool i])) 240 372 (.agg #[U 0]) false
  have v:=go (.iface 377 (.agg #[U n,.bool i])) 240 377 (.agg #[U n,.bool i]) true
 all_goals
  dsimp only[cond]
  have y:=k.ab
  have z:=k.aL
  have r:∀m,Below a.heap.size a (a.alloc m):=λm=>(Below.refl ..).alloc (Y4 _) _
  have o:=aa q
  go_in
  go_wp21
  refine(nL (x:=.text n i) (o.w.ah (r _)) rfl Zm).mono ?_
  rintro j D ⟨rfl,A,p⟩
  go_wp2
  go_end0
  exact⟨rfl,p.c9⟩
def aeg{Fr}  (l:Cp d b Fr c s h g e f a) (i:bH s 1) :
  Calls prog 129 #[Zp b.C,.iface 444 (.agg #[])] a λk m=>k=.returned (.tuple #[])/\ej d b Fr c (s) m:=by
 have p:=go (.iface 444 (.agg #[])) 240 260 (.agg #[.string ⟨#[]⟩,U 0]) false
 have q:=go (.iface 444 (.agg #[])) 240 372 (.agg #[U 0]) false
 have r:=go (.iface 444 (.agg #[])) 240 377 (.agg #[U 0,.bool false]) false
 have t:=go (.iface 444 (.agg #[])) 240 380 (.agg #[U 0,.bool false]) false
 have u:=go (.iface 444 (.agg #[])) 240 382 (.agg #[.nilIface,U 0,.bool false]) false
 have v:=go (.iface 444 (.agg #[])) 240 385 (.agg #[.nilIface]) false
 have n:=i.ab;have o:=i.aL;have j:=aa l;go_in;go_wp2;go_end0;exact⟨rfl,j.w.c9⟩
def vj{Fr t}(l:kg t)(i:Cp d b Fr c s h g e f a)(j:bH s 1) :
  Calls prog 129 #[Zp b.C,cW t] a λm r=>m=.returned (.tuple #[])/\ej d b Fr c (dk t s) r:=by
 cases t with
 |named t q=>exact aea t q i j
 |plain o=>exact aee o i j
 |opaq n k=>exact Mx false n k i j
 |str n k=>exact Mx true n k i j
 |void=>exact aeg i j
 |arr p n k=>exact absurd l (by simp[kg])
 |opt p=>exact absurd l (by simp[kg])
end
section
variable {b:iq}{d:Zo}{a:bh}{c e:Zw}
theorem yv(b:ck)(a:bh):(aT b a).ab.length=a.ab.length+1:=by simp[aT]
def ss{Fr g:Zo}(n:∀f∈d,f∈g)(k:ej e b Fr g a c):ej e b Fr d a c:=by
 obtain⟨h,q,p,i,j,l,m⟩:=k;exact⟨h,q,p,i,j,λf o=>l f (n f o),m⟩
def ej.b0{m:Nat×Obj}{Fr:Zo}(i:ej e b (m::Fr) d a c):ej e b Fr d a c:=by
 obtain⟨f,n,l,g,h,j,k⟩:=i;exact⟨f,n,l,g,h,j,k.b0⟩
def Pl{Fr a2 a1 L M f}(h:Int)(g:Bool)(R:kg f)(z:Cp e b Fr d a a2 a1 L M c)(E:bH a 3) :
  Calls prog 208 #[Zp b.C,.agg #[cW f,U h,.bool g]] c λk a3=>k=.returned (.tuple #[])/\ej e b Fr d (dk (.arr f h g) a) a3:=by
 have s:=z.H (.cells #[cW f,U h,.bool g] 382);have b9:=E.ab;have a0:bH (aT .hole a) 2:=E.a4 _;have b2:ey f<=1:=by cases f<;>simp[kg,ey]at *
 have F:=qW f (aT .hole a);have D:(aT .hole a).ab.length=a.ab.length+1:=by simp[aT]
 obtain⟨a4,r,A⟩:=hX f;have I:=aa A;rw[A]at s ⊢;clear z;go_in;go_wp21;refine(nL (v:=.iface 449 (.agg #[U 0,.bool false,U 0])) (x:=.hole) s ⟨_,_,rfl⟩ Zm).mono ?_
 rintro k c5 ⟨rfl,c2,n⟩;obtain⟨u,w,x,y⟩:=fq (n.ae.hf _ Yb).1;go_wp21;have p:=vj R n (a0.b5 Zm);rw[I.w]at p;refine p.mono ?_;rintro k c6 ⟨rfl,a5,c3,c1,b0,b1,B,t⟩;clear p n u w x y;go_wp21;refine(nL (v:=.iface 450 (.agg #[])) (x:=.again) t rfl Zm).mono ?_
 rintro k c7 ⟨rfl,c4,j⟩;clear t;obtain⟨u,w,x,y⟩:=fq (j.ae.hf _ Yb).1;have S:(aT .again (dk f (aT .hole a))).ab.length=a.ab.length+ey f+2:=by rw[yv,F,D];omega
 obtain⟨a6,a7,a8,a9,b5,b8⟩:=j.al;obtain⟨N,K,rfl,b3,b4,⟨c9,c0⟩,b6,o⟩:=wQ (i:=a.ab.length) (x:=.array h g ((dk f (aT .hole a)).ab.length+1)) (v:=.iface 449 (.agg #[U h,.bool g,U ((aT .again (dk f (aT .hole a))).ab.length:Int)])) (j.ah (Below.refl ..).drew) (by simp[ln,aT]) Zm
 have o:=aa o;have H:=aa (qw (j.ah (Below.refl ..).drew));have b7:(a.ab.length:Int)<((aT .again (dk f (aT .hole a))).ab.length:Int):=Zm;have G:=aa B;clear j B S F D;generalize P:(aT .again (dk f (aT .hole a))).ab.length=J at *
 clear P;go_wp21;refine cy (λq=>q.cell? (Zd b.C 0)=some (.slice (some ⟨N,0,none⟩) J K)/\q.cell? (Zd c.heap.size 1)=some (U h)/\q.cell? (Zd c.heap.size 2)=some (.bool g)) ?_ λO=>?_
 .go_keep
 refine bI [0,1,2,3,4,5,6,7] ?_;iterate 8 (refine bK ?_)
 refine bJ ?_;refine cx 8 λm l=>?_;(go_simp;go_at_call 128;refine H.w.mono ?_;rintro k c8 ⟨rfl,rfl⟩);refine l.out _ _ ?_ (λO=>?_)
 .go_keep
 clear l m;refine nz ?_;refine bI [9,10,11] ?_;iterate 3 (refine bK ?_)
 refine bJ ?_;refine cw λm l=>?_;go_simp;refine l.out _ _ ?_;clear l m;refine nz ?_;go_wp2;go_end0;exact⟨rfl,(ss G.w o.w.c9).b0⟩
end
section
variable {e:iq}{g:Zo}{h:List (ck×Zv)}{et:List (Zb×dD×Zv)}{j k:Zv}{b t:Ty}{a:bh}{f c:Zw}
def Ff{W:Zw}{m:Nat}{l}(e:W.heap[m]? = some (jn l))(f:(l.map (·.1)).Nodup)(b:Int)(c a:Nat) :
  (Instr.mapUpdate 389 (.map (some m)) (.int .i64 b) (.agg #[.int .i64 c,.int .i64 a])).run prog W=.ok () (eG W m (jn (cq l b (c,a)))):=
 uE (P:=prog) (T:=389) (kt:=2) (et:=394) (d:=.int .i64) Zk Zk (λb:Int=>.int .i64 b) (λa:Nat×Nat=>.agg #[.int .i64 a.1,.int .i64 a.2]) (λ_=>rfl) (λ_=>ach _) HZ e f b (c,a)
def Qf(c:Zw):Calls prog 207 #[.int .i64 4] c λa b=>a=.returned (.agg #[.int .i64 0,.int .i64 1,.slice none 0 0,.bool false])/\Below c.heap.size c b:=CC 4 c
def Va(c:Zw)(b:Obj):c.heap.size<(c.alloc b).heap.size:=Zq
def Xt{Fr}(a5:kg b)(H:Cp c e Fr g a k j h et f)(K:bH a 2) :
  Calls prog 209 #[Zp e.C,.agg #[cW b]] f λp b4=>p=.returned (.tuple #[])/\ej c e Fr g (dk (.opt b) a) b4:=by
 have d6:=mS;have E:=H.H (.cells #[cW b] 385);have d7:=K.ab;have a9:bH (aT .hole a) 1:=K.a4 _;have c7:ey b<=1:=by cases b<;>simp[kg,ey]at *
 have b1:=qW b (aT .hole a);have a8:(aT .hole a).ab.length=a.ab.length+1:=by simp[aT]
 obtain⟨b6,P,I⟩:=hX b;have a0:=aa I;rw[I]at E ⊢;clear H;go_in;go_wp21;refine(nL (v:=.iface 392 (.agg #[.int .i64 0,.int .i64 0,.slice none 0 0,.bool false,.map none,.pointer none])) (x:=.hole) E ⟨_,_,rfl⟩ Zm).mono ?_
 rintro p e3 ⟨rfl,e1,u⟩;have a1:=bS (u.ae.hf _ Yb).1;go_wp21;have z:=vj a5 u (a9.b5 Zm);rw[a0.w]at z;refine z.mono ?_;rintro p d ⟨rfl,b7,e2,e0,c3,c4,J,F⟩;clear z u a1;have a6:(dk b (aT .hole a)).ab.length=a.ab.length+1+ey b:=Zm;have w:=F.H (.map #[] 0);have b3:=Ff (W:=d.alloc (.map #[] 0)) (m:=d.heap.size) (l:=[]) (aQ rfl) Zq 0 (dk b (aT .hole a)).ab.length 0;obtain⟨W1,A⟩:∃W1,W1=eG (d.alloc (.map #[] 0)) d.heap.size (jn (cq [] 0 ((dk b (aT .hole a)).ab.length,0))):=⟨_,rfl⟩;have L:an [d.heap.size] (d.alloc (.map #[] 0)) W1:=by grind [jC]
 have s:W1.heap[d.heap.size]? = some (jn [(0,(dk b (aT .hole a)).ab.length,0)]):=by rw[A];exact qH (Va ..) _
 have G:=w.dN L s;rw[<-A,show (((0:Nat)):Int)=0 from rfl]at b3;have N:=Ff (W:=W1) (m:=d.heap.size) s Zq 1 (a.ab.length+1) 1;obtain⟨r,B⟩:∃r,r=eG W1 d.heap.size (jn (cq [(0,(dk b (aT .hole a)).ab.length,0)] 1 (a.ab.length+1,1))):=⟨_,rfl⟩;have M:an [d.heap.size] W1 r:=by grind [jC]
 have O:r.heap[d.heap.size]? = some (jn [(0,(dk b (aT .hole a)).ab.length,0),(1,a.ab.length+1,1)]):=by rw[B];exact qH (au s) _
 have o:=(G.dN M O).hv;rw[<-B,show (((1:Nat)):Int)=1 from rfl]at N;rw[show (((a.ab.length+1:Nat)):Int)=(a.ab.length:Int)+1 by omega]at N;have S:=aa (qw w);obtain⟨b8,b9,c0,c1,d1,d5⟩:=o.al;obtain⟨ad,a2,rfl⟩:=o.cS;have d4:(a.ab.length:Int)<((dk b (aT .hole a)).ab.length:Int):=Zm;have d3:a.ab.length<(dk b (aT .hole a)).ab.length:=Zm;have o:=aa o;have R:=aa J;have d8:a.ab.length<1000000:=Zm;clear w G F J s O L M A B a6 b1 a8;generalize c6:(dk b (aT .hole a)).ab.length=D at *
 go_wp21;refine S.w.mono ?_;rintro p e4 ⟨rfl,rfl⟩;go_wp21;refine cy (λb5=>b5.cell? (Zd e.C 0)=some (.slice ad D a2)) ?_ λa3=>?_
 .go_keep
 refine bI [0,1,2,3,4,6] ?_;iterate 6 (refine bK ?_)
 refine bJ ?_;refine cx 5 λt q=>?_;(go_simp;go_at_call 207;refine(Qf _).mono ?_;rintro p e5 ⟨rfl,a4⟩;have x:=(o.w.ah (Below.refl ..).drew).ah a4;have c8:=x.al.1;obtain⟨c5,c2,b0,c9,d0,⟨e6,d9⟩,d2,y⟩:=wQ (i:=a.ab.length) (x:=.choice (dF 4) [(0,D,0),(1,a.ab.length+1,1)] none) (v:=.iface 392 (.agg #[.int .i64 0,.int .i64 1,.slice none 0 0,.bool false,.map (some d.heap.size),.pointer none])) x ⟨[.int .i64 0,.int .i64 1,.slice none 0 0,.bool false],d.heap.size,.pointer none,rfl,DK (n:=dF 4) _ (DM 4),Zq,rfl⟩ Zm;have y:=aa y;clear x;cases b0)
 refine q.out _ _ ?_ (λa3=>?_)
 .go_keep
 clear q t;refine nz ?_;refine bI [7,8,9] ?_;iterate 3 (refine bK ?_)
 refine bJ ?_;refine cw λt q=>?_;go_simp;refine q.out _ _ ?_;clear q t;refine nz ?_;go_wp2;go_end0;exact⟨rfl,(ss (λb2 a7=>Y5 _ (R.w b2 a7)) y.w.c9).b0⟩
def ad8{Fr}(i:Int)(d:Bool)(t:kg b)(q:Cp c e Fr g a k j h et f)(u:bH a 3) :
  Calls prog 129 #[Zp e.C,.iface 382 (.agg #[cW b,.int .i64 i,.bool d])] f λp w=>p=.returned (.tuple #[])/\ej c e Fr g (dk (.arr b i d) a) w:=by
 obtain⟨l,m,o⟩:=hX b;have r:=aa o;rw[o];have y:=go (.iface 382 (.agg #[.iface l m,.int .i64 i,.bool d])) 240 260 (.agg #[.string ⟨#[]⟩,.int .i64 0]) false
 have z:=go (.iface 382 (.agg #[.iface l m,.int .i64 i,.bool d])) 240 372 (.agg #[.int .i64 0]) false
 have A:=go (.iface 382 (.agg #[.iface l m,.int .i64 i,.bool d])) 240 377 (.agg #[.int .i64 0,.bool false]) false
 have B:=go (.iface 382 (.agg #[.iface l m,.int .i64 i,.bool d])) 240 380 (.agg #[.int .i64 0,.bool false]) false
 have D:=go (.iface 382 (.agg #[.iface l m,.int .i64 i,.bool d])) 240 382 (.agg #[.iface l m,.int .i64 i,.bool d]) true
 have s:∀b,Below f.heap.size f (f.alloc b):=λb=>(Below.refl ..).alloc (Y4 _) _;have n:=λv=>Pl i d t (q.ah (s v)) u;rw[r.w]at n;have n:=aa n;clear q o;go_in;go_wp21;refine(n.w _).mono ?_;rintro p E ⟨rfl,x⟩;go_wp2;go_end0;simp_all
def aec{Fr}(r:kg b)(o:Cp c e Fr g a k j h et f)(s:bH a 2) :
  Calls prog 129 #[Zp e.C,.iface 385 (.agg #[cW b])] f λn u=>n=.returned (.tuple #[])/\ej c e Fr g (dk (.opt b) a) u:=by
 obtain⟨d,i,m⟩:=hX b;have p:=aa m;rw[m];have w:=go (.iface 385 (.agg #[.iface d i])) 240 260 (.agg #[.string ⟨#[]⟩,.int .i64 0]) false
 have x:=go (.iface 385 (.agg #[.iface d i])) 240 372 (.agg #[.int .i64 0]) false
 have y:=go (.iface 385 (.agg #[.iface d i])) 240 377 (.agg #[.int .i64 0,.bool false]) false
 have z:=go (.iface 385 (.agg #[.iface d i])) 240 380 (.agg #[.int .i64 0,.bool false]) false
 have A:=go (.iface 385 (.agg #[.iface d i])) 240 382 (.agg #[.nilIface,.int .i64 0,.bool false]) false
 have B:=go (.iface 385 (.agg #[.iface d i])) 240 385 (.agg #[.iface d i]) true
 have q:∀b,Below f.heap.size f (f.alloc b):=λb=>(Below.refl ..).alloc (Y4 _) _;have l:=λt=>Xt r (o.ah (q t)) s;rw[p.w]at l;have l:=aa l;clear o m;go_in;go_wp21;refine(l.w _).mono ?_;rintro n D ⟨rfl,v⟩;go_wp2;go_end0;simp_all
def zK{Fr}(n:ib t)(d:Cp c e Fr g a k j h et f)(i:bH a 3) :
  Calls prog 129 #[Zp e.C,cW t] f λo r=>o=.returned (.tuple #[])/\ej c e Fr g (dk t a) r:=by
 cases t with
 |arr b m l=>exact ad8 m l n d i
 |opt b=>exact aec n d (i.b5 Zm)
 |named t q=>exact vj (t:=.named t q) trivial d (i.b5 Zm)
 |plain p=>exact vj (t:=.plain p) trivial d (i.b5 Zm)
 |opaq m l=>exact vj (t:=.opaq m l) trivial d (i.b5 Zm)
 |str m l=>exact vj (t:=.str m l) trivial d (i.b5 Zm)
 |void=>exact vj (t:=.void) trivial d (i.b5 Zm)
def CG{Fr}(l:ib t)(i:Cp c e Fr g a k j h et f)(m:bH a 4) :
  Calls prog 134 #[Zp e.C,cW t] f λb u=>b=.returned (.int .i64 a.ab.length)/\ej c e Fr g (nf t a) u:=by
 have s:(dk t a).ab.length<1000000:=by
  have A:=qW t a;have B:=um l;have D:=m.ab;omega
 have d:=aa (zK l i (m.b5 Zm));obtain⟨x,w,q⟩:=hX t;rw[q]at d ⊢;go_in;go_wp21;refine(qw i).mono ?_;rintro b H ⟨rfl,rfl⟩;go_wp21;refine d.w.mono ?_;rintro b I ⟨rfl,p,F,E,y,z,r,n⟩;go_wp21;refine(nL (v:=.iface 397 (.agg #[])) (x:=.fin) n rfl s).mono ?_
 rintro b J ⟨rfl,G,o⟩;go_wp2;go_ret;exact⟨rfl,p,_,_,_,_,r,o⟩
end
section
variable {a:iq}{b:Nat}{bs:Zo}{e:List (ck×Zv)}{f:List (Zb×dD×Zv)}{ks g:Zv}{d:Obj}{s:bh}{u w:Zw}
def ej.f3{Fr}(e:ej w a Fr bs s u)(c:w.heap[b]? = some d):u.heap[b]? = some d:=by
 obtain⟨_,_,_,_,_,_,f⟩:=e;exact(f.ae.kp.L _ (au c) Zq).trans c
def Cp.f3{Fr}(c:Cp w a Fr bs s g ks e f u)(h:w.heap[b]? = some d):u.heap[b]? = some d:=c.c9.f3 h
def Ei(b:List Ty):∀{s:bh} {n:Nat},(∀a∈b,ib a)->bH s (n+3*b.length)->bH (b.foldl (λs a=>dk a s) s) n:=by
 induction b with
 |nil=>simp
 |cons a b f=>
  intro s n c d;have g:=um (c a Zq);exact f (λa e=>c a (Y5 _ e)) (xf a (d.b5 Zg))
def acY{Fr E a4 N d}(a9:fB E b (.struct N a4 d))(K:∀L∈E,w.heap[L.1]? = some L.2)(c1:∀j∈d,ib j.O)(F:Cp w a Fr bs s g ks e f u)(J:bH s (4+3*d.length)) :
  Calls prog 132 #[Zp a.C,Zp b] u λl c8=>l=.returned (.tuple #[])/\ej w a Fr bs (qS d s) c8:=by
 obtain⟨e7,a7,b9⟩:=a9;have H:=K _ a7;obtain⟨e3,e4,e5,_⟩:=fq (F.f3 H);have B:=aa (λ(v:Zw) (m:ej w a Fr bs (aT (.struct d.length true) s) v)=>fq (m.f3 H));have e2:=J.ab;have b6:bH (aT (.struct d.length true) s) (3+3*d.length):=bH.a4 (J.b5 Zm) _;have a0:=aa b6;have D:=aa c1;have A:=aa F;rcases b9 with⟨rfl,a6,_⟩|⟨m,d2,d3,rfl,⟨d6,e1⟩,b1,t⟩
 .have b5:d=[]:=Yv.1 a6;subst b5;go_in;go_wp21;refine(nL (x:=.struct 0 true) A.w rfl Zm).mono ?_;rintro l O ⟨rfl,c7,k⟩;obtain⟨c4,c5,c6,_⟩:=B.w _ k.c9;have z:=aa k.c9;go_wp2;go_loopw [21] (λh y=>h=U 0/\y=O) (λ_ _=>0)
  case atStart=>simp
  case round=>
   obtain⟨rfl,rfl⟩:=hrel;go_wp2;go_end0;exact⟨rfl,z.w⟩
 .have b2:=K _ b1;have b8:∀(v:Zw) (M:bh),ej w a Fr bs M v->∀h (I:h<d.length),v.cell? ⟨m,h*3,none⟩=some (.string ⟨d[h].t.toArray⟩)/\v.cell? ⟨m,h*3+1,none⟩=some (U d[h].y)/\v.cell? ⟨m,h*3+2,none⟩=some (cW d[h].O):=by
   intro v M a5 h I;have q:=a5.f3 b2;have b0:=rP (c:=mJ) (n:=3) (λ_=>rfl) d h;refine⟨dt q t ?_,dt q t ?_,dt q t ?_⟩
   .have:=b0 0 I Zm;simp_all
   .simp_all
   simp_all
  have S:=aa b8;go_in;go_wp21;refine(nL (x:=.struct d.length true) A.w rfl Zm).mono ?_;rintro l O ⟨rfl,c7,k⟩;obtain⟨c4,c5,c6,_⟩:=B.w _ k.c9;have z:=aa k.c9;go_wp2;go_loopw [21] (λh y=>∃(i:Nat),h=U i/\i<=d.length/\af (ej w a Fr bs ((d.take i).foldl (λs j=>dk j.O s) (aT (.struct d.length true) s)) y)) (λh _=>d.length-(intOf h).toNat)
  case atStart=>grind
  case round=>
   obtain⟨i,rfl,e0,p⟩:=hrel;rcases Yj i d.length with r|d7
   .obtain⟨e8,e9,c3⟩:=S.w _ _ p.w i r;obtain⟨d0,f1,G⟩:=hX d[i].O;have a1:=aa G;rw[G]at c3;have d8:(0:Int)<=↑i:=Zm;have d9:(↑i:Int) < ↑d.length:=Zm;obtain⟨d1,f0,e6,d4,d5,a8,a2⟩:=p.w;have b7:bH ((d.take i).foldl (λs j=>dk j.O s) (aT (.struct d.length true) s)) 3:=by
     have l:=Ei ((d.take i).map (·.O)) (s:=aT (.struct d.length true) s) (n:=3) (by intro N c0;obtain⟨j,b4,rfl⟩:=YE.1 c0;exact D.w j (List.mem_of_mem_take b4)) (a0.w.b5 Zg);grind [List.foldl_map]
    have o:=λc2=>zK (D.w d[i] (Yy r)) (a2.ah ((Below.refl wr.heap.size wr).alloc (Y4 _) c2)) b7;rw[a1.w]at o;have o:=aa o;have R:=aa a8;go_wp21;refine(o.w _).mono ?_;rintro l c9 ⟨rfl,a3⟩;have P:af (ej w a Fr bs ((d.take (i+1)).foldl (λs j=>dk j.O s) (aT (.struct d.length true) s)) c9):=by
     rw[Yt r,YS];exact ss R.w a3
    go_wp2;exact⟨⟨i+1,Zr,Zm,P⟩,Zz⟩
   .have b3:i=d.length:=Zm;subst b3;go_wp2;go_end0;refine⟨rfl,?_⟩;have:=p.w;rw[YG]at this;exact this
end
section
variable {a:iq}{d:Zo}{f:List (ck×Zv)}{g:List (Zb×dD×Zv)}{h i:Zv}{c:bh}{b e:Zw}
abbrev qB(e d:Int)(a:Option Addr)(b c:Nat)(f:Bool):Zl:=[U e,U d,.slice a b c,.bool f]
def hJ.bz{b i}(f:hJ d b i):∃h g a c e j,b=qB h g a c e j:=by
 obtain⟨l,k,_,m,n,o,rfl⟩:=f;simp_all
def abq{Fr t}(I:ha t)(y:Cp e a Fr d c i h f g b) :
  Calls prog 210 #[Zp a.C,cW t] b λx O=>∃n m p q r o,x=.returned (.agg (qB n m p q r o).toArray)/\hJ d (qB n m p q r o) (iN c t)/\Below b.heap.size b O:=by
 have G:∀l,Below b.heap.size b (b.alloc l):=λl=>(Below.refl ..).alloc (Y4 _) _;have w:∀l B,Below b.heap.size b ((b.alloc l).alloc B):=λl B=>(G l).alloc Zq _;cases t with
 |named s k=>
  have N:=go (.iface 260 (.agg #[Zs s,U k])) 240 260 (.agg #[Zs s,U k]) true
  have F:=(y.ah (w (.cells #[U 0,U 0,.slice none 0 0,.bool false] 247) (.cells #[Zs s,U k] 260))).ah (Below.refl ..).drew;obtain⟨v,a5,a2,rfl,z⟩:=F.n9 s;obtain⟨n,m,p,q,r,o,rfl⟩:=z.bz;obtain⟨R,S,a0,a1,a4,H⟩:=y.al;have E:=aa z;dsimp only[cW];go_in;go_wp2;go_region;go_wp2;refine bodyPost_ret (v:=.agg #[U n,U m,.slice p q r,.bool o]) (by simp[results,results210,go_sem]) rfl ⟨n,m,p,q,r,o,rfl,E.w,?_⟩;exact(w ..).drew
 |plain j=>
  have N:=go (.iface 372 (.agg #[U j])) 240 260 (.agg #[.string ⟨#[]⟩,U 0]) false
  have b0:=go (.iface 372 (.agg #[U j])) 240 372 (.agg #[U j]) true
  dsimp only[cW];go_in;go_wp21;refine(CC j _).mono ?_;rintro x P ⟨rfl,A⟩;have u:P.heap[b.heap.size]? = some (.cells #[U 0,U 0,.slice none 0 0,.bool false] 247):=
   (A.block _ Zx).trans ((Below.heap_alloc _ _ _ Zq).trans (aQ rfl))
  obtain⟨a6,a7,a8,a9,a3⟩:=lG u;have H:=au u;obtain⟨J,K,L,M,_⟩:=lG (Es (k':=U (dF j).e6) (t':=U (dF j).e4) (n':=.slice none 0 0) (a':=.bool (dF j).b8) u);have D:=aa (((((w ..).trans (A.mono Zx)).setCell (p:=⟨b.heap.size,0,none⟩) (Y4 _) (U (dF j).e6)).setCell (p:=⟨b.heap.size,1,none⟩) (Y4 _) (U (dF j).e4)).setCell (p:=⟨b.heap.size,2,none⟩) (Y4 _) (.slice none 0 0) |>.setCell (p:=⟨b.heap.size,3,none⟩) (Y4 _) (.bool (dF j).b8));go_wp2;exact bodyPost_ret (v:=.agg #[U (dF j).e6,U (dF j).e4,.slice none 0 0,.bool (dF j).b8]) (by simp[results,results210,go_sem,J,K,L,M]) rfl ⟨(dF j).e6,(dF j).e4,none,0,0,(dF j).b8,rfl,DK _ (DM j),D.w⟩
 |_=>simp[ha]at I
def Pf{Fr}{j:aW}{ca cn cc}(S:ib j.O)(D:Cp e a Fr d c i h f g b)(R:bH c 3) :
  Calls prog 211 #[Zp a.C,.agg #[.slice ca cn cc,Zs j.t,U j.y,cW j.O]] b λq a2=>q=.returned (.agg #[U (gp j c).1,U (gp j c).2])/\ej e a Fr d (lR j c) a2:=by
 have m:=(D.H (.cells #[.slice ca cn cc,Zs j.t,U j.y,cW j.O] 363)).H (.cells #[U 0,U 0] 394);have l:=aa (qw m);have n:=m.H (.cells #[U c.ab.length,U 1] 394);cases x:ly j.O with
 |true=>
  have y:j.O=.void:=by cases E:j.O<;>rw[E]at x<;>simp[ly]at x
  have F:=go (.iface 444 (.agg #[])) 240 444 (.agg #[]) true
  have r:af (gp j c=(c.ab.length,0)):=by show _=_;simp[gp,y,ly]
  have G:af (lR j c=c):=by show _=_;simp[lR,y,dk]
  rw[y]at m n l ⊢;dsimp only[cW]at m n l ⊢;have H:=aa D;go_in;go_wp21;refine l.w.mono ?_;rintro q a3 ⟨rfl,rfl⟩;go_wp2;refine bodyPost_ret (v:=.agg #[U c.ab.length,U 0]) (by simp[results,results211,go_sem]) rfl ⟨by rw[r.w];rfl,?_⟩;rw[G.w];exact((((H.w.H _).H _).H _).b0.b0.b0).c9
 |false=>
  have F:∀w,(Instr.typeAssert (cW j.O) 240 444 true).run prog w=.ok (.tuple #[.agg #[],.bool false]) w:=by
   intro w;cases E:j.O with
   |void=>grind [ly]
   |_=>kernel_rfl
  have r:af (gp j c=(c.ab.length,1)):=by show _=_;simp[gp,x]
  obtain⟨a4,b6,O⟩:=hX j.O;have o:=zK S n R;rw[O]at m n l F o ⊢;have o:=aa o;go_in;go_wp21;refine l.w.mono ?_;rintro q a3 ⟨rfl,rfl⟩;go_wp21;refine o.w.mono ?_;rintro q k ⟨rfl,a5,b5,b4,b1,b2,P,s⟩;have a0:=(s.ae.hf _ Yb).1;have A:=(s.ae.hf _ (Y5 _ Yb)).1;have B:=s.b0;simp only[World.size_alloc,Nat.add_assoc]at a0 A B;have J:k.cell? ⟨b.heap.size+2,0,none⟩=some (U c.ab.length)/\k.cell? ⟨b.heap.size+2,1,none⟩=some (U 1):=by grind [World.cell?]
  have N:k.cell? ⟨b.heap.size+1,0,none⟩=some (U 0)/\k.cell? ⟨b.heap.size+1,1,none⟩=some (U 0)/\∀z,k.frozen? ⟨b.heap.size+1,z,none⟩=false:=by simp_all[World.cell?,World.frozen?]
  obtain⟨a6,a7⟩:=J;obtain⟨a8,a9,b0⟩:=N;have a1:=bv (i:=1) (bv (i:=0) A (U c.ab.length)) (U 1);have K:((k.setCell ⟨b.heap.size+1,0,none⟩ (U c.ab.length)).setCell ⟨b.heap.size+1,1,none⟩ (U 1)).cell? ⟨b.heap.size+1,0,none⟩=some (U c.ab.length)/\((k.setCell ⟨b.heap.size+1,0,none⟩ (U c.ab.length)).setCell ⟨b.heap.size+1,1,none⟩ (U 1)).cell? ⟨b.heap.size+1,1,none⟩=some (U 1):=by simp_all[World.cell?]
  obtain⟨L,M⟩:=K;have u:=B.dN (((ao [b.heap.size+1] k).aH (p:=⟨b.heap.size+1,0,none⟩) Zq (U c.ab.length)).aH (p:=⟨b.heap.size+1,1,none⟩) Zq (U 1)) a1;have u:=aa u;have b3:=au A;have I:=aa P;go_wp2;refine bodyPost_ret (v:=.agg #[U c.ab.length,U 1]) (by simp[results,results211,go_sem,L,M]) rfl ⟨by rw[r.w];rfl,?_⟩;exact ss I.w u.w.b0.b0.c9
end
section
variable {b:List Int}{a:Zv}{u v2 v3:Zw}
abbrev wg(a:Zv):Obj:=.cells #[U (-2147483648),U 2147483647,a,.bool false] 247
abbrev wP:Obj:=.cells #[U 0,U 0,.slice none 0 0,.bool false] 247
structure pV(u:Zw)(k:Nat)(b:List Int)(a:Zv)(v:Zw):Prop where
 ae:ee u ([u.heap.size+1]++(a.ownBlock.toList++[])) [(u.heap.size,wP)] [] v
 ap:v.heap[u.heap.size+1]? = some (wg a)
 row:v.ownsRow u.heap.size 2 1 a k (b.map λn=>U n)
 nn:k=0->a=.slice none 0 0
theorem pV.b6{v}{c g d:Nat}{n:Int}(e:pV u c b a v)(h:Below v.heap.size v v2)
  (m:v3.ownsRow u.heap.size 2 1 (.slice (some ⟨g,0,none⟩) (c+1) d) (c+1) ((b.map λn=>U n)++[U n])) (j:v2.grownBy v3 a.ownBlock) (p:a.ownBlock=some g\/g=v2.heap.size) (s:g<v3.heap.size) :
  pV u (c+1) (b++[n]) (.slice (some ⟨g,0,none⟩) (c+1) d) (v3.setCell ⟨u.heap.size+1,2,none⟩ (.slice (some ⟨g,0,none⟩) (c+1) d)):=by
 obtain⟨x,_⟩:=hR m (g:=g) rfl;have o:=e.ae.ah h;have r:=gt j;have l:=zk (A:=[u.heap.size+1]) (B:=[]) o j p s x;have k:an [u.heap.size+1] v3 (v3.setCell ⟨u.heap.size+1,2,none⟩ (.slice (some ⟨g,0,none⟩) (c+1) d)):=(ao [u.heap.size+1] v3).aH Zq _;have t:=e.ae.nd;have w:=l.nd;simp at t w;have q:u.heap.size+1 ∉ a.ownBlock.toList:=by
  simp_all
 have f:v2.heap[u.heap.size+1]? = some (wg a):=(h.block _ (au e.ap)).trans e.ap;refine⟨l.bm k Zq,bv (i:=2) ((r.L _ (au f) q).trans f) _,?_,Zm⟩;have:=bw m k (by
  grind [Value.ownBlock])
 simp_all
def pV.cS{v d}(e:pV u d b a v):∃ad c,a=.slice ad d c:=by
 rcases e.row.2 with⟨rfl,h⟩|⟨g,c,f,rfl,_⟩;all_goals simp_all
def pV.f1{v h}(c:pV u h b a v)(d:Below v.heap.size v v2)(f:v2.grownBy v3 a.ownBlock):v3.heap[u.heap.size+1]? = some (wg a):=by
 have g:=au c.ap;have e:=c.ae.nd;have j:=d.size;simp at e;exact(f.block _ Zm (λi=>e.1 Zg)).trans ((d.block _ g).trans c.ap)
def IF(u:Zw):pV u 0 [] (.slice none 0 0) ((u.alloc wP).alloc (wg (.slice none 0 0))):=by
 have b:(u.alloc wP).heap.size=u.heap.size+1:=Zq;refine⟨⟨((ao [] u).H _).H _,?_,?_,by simp[Value.ownBlock],?_,?_,Zq,Zq,Zq⟩,aQ b.symm,⟨Zq,Y8 ⟨rfl,rfl⟩⟩,λ_=>rfl⟩
 .grind [Value.ownBlock]
 .simp_all[Value.ownBlock]
 .intro c a;simp only[Yc]at a;subst a;refine⟨(Below.heap_alloc _ _ _ Zq).trans (aQ rfl),by simp[Value.ownBlock]⟩
 .intro c a;grind
def NS(u:Zw)(k:List (Zb×Nat×Int))(j:Ending)(e:Zw):Prop:=∃d c g h i f b,j=.returned (.agg (qB d c g h i f).toArray)/\hJ b (qB d c g h i f) (hP k)/\Below u.heap.size u e/\∀a∈b,e.heap[a.1]? = some a.2/\u.heap.size<=a.1
def Vo{G A a5 e1 c}(c2:fB G A (.enum e1 a5 c))(z:∀p∈G,u.heap[p.1]? = some p.2) :
  Calls prog 130 #[Zp A] u (NS u c):=by
 obtain⟨d5,h,b8,f7,d3,c3⟩:=c2;have L:=z _ b8;obtain⟨f9,g0,g1,_⟩:=fq L;have a4:=aa (IF u);have c7:=au L;have kU:∀(a:Zv) (v:Zw),pV u c.length (c.map (·.2.2)) a v->c.length<=1000->∃g i j o,a=.slice g i j/\hJ o (qB (-2147483648) 2147483647 g i j false) (hP c)/\(∀p∈o,p.1≠u.heap.size/\v.heap[p.1]? = some p.2/\u.heap.size<=p.1):=by
  intro a v f f6;rcases f.row.2 with⟨rfl,C⟩|⟨q,I,B,rfl,e7,e8,e9,f0,f1,f2⟩
  .have l:c=[]:=Yv.1 C;subst l;exact⟨none,0,0,[],rfl,⟨_,rfl,Zr,_,_,_,rfl⟩,Zq⟩
  .refine⟨_,_,_,[(q,.cells B 2)],rfl,⟨_,rfl,?_,_,_,_,rfl⟩,?_⟩
   .simp only[hP];by_cases l:c=[]
    .have:=f.nn Zu;grind
    .rw[Y2 l];refine⟨Zu,Ya ⟨q,I,B,Zq,⟨Zu,Zu⟩,Zq,?_⟩⟩;simp_all
   .intro p y;simp only[Yc]at y;subst y;have:=f.ae.hf (u.heap.size,wP) Zq;grind
 have a1:=aa kU;have e4:((u.alloc wP).alloc (wg (.slice none 0 0))).cell? (Zd A 2)=some d5:=by
  rw[World.cell?_of_block (w:=u) (((IF u).ae.kp.L _ c7 Zq))];omega
 rcases d3 with⟨rfl,C,_⟩|⟨q,I,B,rfl,⟨e6,d0⟩,M,d4⟩
 .have l:c=[]:=Yv.1 C;subst l;go_in;go_wp2;go_loopw [12] (λd E=>d=U 0/\E=(u.alloc wP).alloc (wg (.slice none 0 0))) (λ_ _=>0)
  case atStart=>simp
  case round=>
   obtain⟨rfl,rfl⟩:=hrel;go_wp2;refine bodyPost_ret (v:=.agg #[U (-2147483648),U 2147483647,.slice none 0 0,.bool false]) (by simp[results,results130,go_sem]) rfl ⟨-2147483648,2147483647,none,0,0,false,[],rfl,⟨_,rfl,Zr,_,_,_,rfl⟩,?_,Zq⟩;exact((Below.refl ..).alloc (Y4 _) _).alloc Zq _
 .have d2:∀(v:Zw),an [] u v->∀d (N:d<c.length) (O:d<h.length),v.cell? (Zd q d)=some (.pointer (some ⟨h[d],0,none⟩))/\v.cell? ⟨h[d],2,none⟩=some (U c[d].2.2)/\h[d]<u.heap.size/\u.cell? ⟨h[d],2,none⟩=some (U c[d].2.2):=by
   intro v P d N O;have c4:=(P.L _ (au (z _ M)) Zq).trans (z _ M);have s:=z _ (c3 d N O);have c1:=(P.L _ (au s) Zq).trans s;exact⟨dt c4 d4 Zq,(fq c1).2.2.1,au s,(fq s).2.2.1⟩
  have a3:=aa d2;go_in;go_wp2;go_loopw [12] (λd E=>∃(b:Nat) (a:Zv),d=U b/\b<=c.length/\af (pV u b ((c.take b).map (·.2.2)) a E)) (λd _=>c.length-(intOf d).toNat)
  case atStart=>exact⟨0,_,rfl,Zm,a4⟩
  case round=>
   obtain⟨b,a,rfl,x,e⟩:=hrel;rcases Yj b c.length with c8|f3
   .obtain⟨g2,g3,e0,g4⟩:=a3.w _ e.w.ae.kp b c8 Zm;obtain⟨ad,a6,rfl⟩:=e.w.cS;obtain⟨a8,a9,b0,b1,b2⟩:=lG e.w.ap;have f4:(0:Int)<=↑b:=Zm;have f5:(↑b:Int) < ↑c.length:=Zm;have c6:(b+1)*8<=140737488355328:=Zm;have f8:u.heap.size<=wr.heap.size:=e.w.ae.kp.aD;have lY:u.heap.size+1<wr.heap.size:=au e.w.ap;go_wp21;refine cy (λS=>S.cell? ⟨u.heap.size+1,2,none⟩=some (.slice ad b a6)/\S.cell? ⟨h[b],2,none⟩=some (U c[b].2.2)) ?_ λK=>?_
    .go_keep
    refine bI [0,1,2,3,4,5] ?_;iterate 6 (refine bK ?_)
    refine bJ ?_;refine cx 6 λF k=>?_;go_simp;refine k.out _ _ ?_ (λK=>?_)
    .go_keep
    refine nz ?_;refine cx 7 λF k=>?_;(refine mC HV underlying245 (bw (e.w.row) (((ao [] wr).H _).aU) Zq) [U c[b].2.2] (heap_alloc_new wr _) Zy c6 Zx (H:=wr.heap.size+1) Zq ?_;intro b3 a7 e2 d1 t b7 c9;have r:Below wr.heap.size wr (wr.alloc (.cells #[U c[b].2.2] 2)).drew:=((Below.refl ..).alloc (Y4 _) _).drew;obtain⟨h0,h1,h2,h3,h5⟩:=lG (e.w.f1 r t);have h6:=au (e.w.f1 r t);have h4:e2.cell? ⟨h[b],2,none⟩=some (U c[b].2.2):=by rw[World.cell?_of_block (w:=u) (((e.w.ae.ah r).kp.b1 (gt t) (by intro g R;exact Ya (e.w.ae.aB _ (by simp at R ⊢;exact Ya R)))).L _ e0 Zq)];omega);refine k.out _ _ ?_ (λK=>?_)
    .go_keep
    refine nz ?_;refine pJ 8 ?_;refine cw λF k=>?_;go_simp;refine k.out _ _ ?_;refine nz ?_;have e3:=aa (e.w.b6 (n:=c[b].2.2) r d1 t (by simpa using b7) c9);go_wp2;refine⟨⟨b+1,.slice (some ⟨b3,0,none⟩) (b+1) a7,Zr,Zm,?_⟩,Zz⟩;grind [List.take_succ_eq_append_getElem]
   .have c5:b=c.length:=Zm;subst c5;have f:=e.w;rw[YG]at f;obtain⟨g,i,j,o,rfl,b6,c0⟩:=a1.w _ _ f d0;obtain⟨a8,a9,b0,b1,b2⟩:=lG f.ap;have D:=(f.ae.hf _ Yb).1;obtain⟨g5,g6,g7,g8,g9⟩:=lG D;have e5:=au D;obtain⟨d6,d7,d8,d9,_⟩:=lG (Es (k':=U (-2147483648)) (t':=U 2147483647) (n':=.slice g i j) (a':=.bool false) D);have m:=aa f.ae.kp;have a2:=aa b6;have a0:=aa c0;go_wp2;refine bodyPost_ret (v:=.agg #[U (-2147483648),U 2147483647,.slice g i j,.bool false]) (by simp[results,results130,go_sem,d6,d7,d8,d9]) rfl ⟨-2147483648,2147483647,g,i,j,false,o,rfl,a2.w,?_,?_⟩
    .have b9:Below u.heap.size u wr:=⟨m.w.os,m.w.dq,m.w.dp,m.w.aD,λb x=>m.w.L b x Zq⟩;exact(((b9.setCell (p:=⟨u.heap.size,0,none⟩) (Y4 _) _).setCell (p:=⟨u.heap.size,1,none⟩) (Y4 _) _).setCell (p:=⟨u.heap.size,2,none⟩) (Y4 _) _).setCell (p:=⟨u.heap.size,3,none⟩) (Y4 _) _
    .intro p y;obtain⟨b4,J,b5⟩:=a0.w p y;refine⟨?_,b5⟩;have x:an [u.heap.size] wr ((((wr.setCell ⟨u.heap.size,0,none⟩ (U (-2147483648))).setCell ⟨u.heap.size,1,none⟩ (U 2147483647)).setCell ⟨u.heap.size,2,none⟩ (.slice g i j)).setCell ⟨u.heap.size,3,none⟩ (.bool false)):=
      ((((ao [u.heap.size] wr).aH (p:=⟨u.heap.size,0,none⟩) Zq _).aH (p:=⟨u.heap.size,1,none⟩) Zq _).aH (p:=⟨u.heap.size,2,none⟩) Zq _).aH (p:=⟨u.heap.size,3,none⟩) Zq _
     exact(x.L _ (au J) (by simpa using b4)).trans J
end
section
variable {b u d : Zw} {e : List Nat} {Fr c : List (Nat × Obj)}
def ee.df{n}(a:ee b e Fr c u)(k:an n u d)(m:∀g∈n,b.heap.size<=g/\g ∉ e/\(∀f∈Fr,f.1≠g)/\(∀f∈c,f.1≠g)):ee b e Fr c d:=by
 refine⟨a.kp.b1 k (λg i=>Ya (m g i).1),a.aB,λp o=>Yr (a.lt p o) k.aD,a.nd,?_,?_,a.d5,a.fy,a.gA⟩
 .intro f j;obtain⟨h,l⟩:=a.hf f j;exact⟨(k.L _ (au h) (λi=>(m _ i).2.2.1 f j rfl)).trans h,l⟩
 .intro f j;obtain⟨h,l⟩:=a.hb f j;exact⟨(k.L _ (au h) (λi=>(m _ i).2.2.2 f j rfl)).trans h,l⟩
def ee.jI(f:ee b e Fr c u){g:Nat}{h}(m:u.heap[g]? = some h)(o:b.heap.size<=g)(n:g ∉ e)(l:∀d∈Fr,d.1≠g)(k:∀d∈c,d.1≠g):ee b e ((g,h)::Fr) c u:=by
 refine⟨f.kp,f.aB,f.lt,f.nd,?_,f.hb,?_,?_,?_⟩
 .intro d a;rcases Yg.1 a with rfl|a
  .simp_all
  .exact f.hf d a
 .grind [d5]
 .intro d a;rcases Yg.1 a with rfl|a
  .omega
  .exact f.fy d a
 .intro d a j i;rcases Yg.1 a with rfl|a
  .grind
  .exact f.gA d a j i
def ee.kd{j:Zo}(i:ee b e Fr c u)(l:Below u.heap.size u d)(k:∀f∈j,d.heap[f.1]? = some f.2/\u.heap.size<=f.1):ee b e Fr (j++c) d:=by
 have a:=i.ah l;refine⟨a.kp,a.aB,a.lt,a.nd,a.hf,?_,a.d5,a.fy,?_⟩
 .intro f g;rcases Yn.1 g with g|g
  .refine⟨(k f g).1,λm=>?_⟩;have:=i.lt _ m;grind
  .exact a.hb f g
 .intro f g n h;rcases Yn.1 h with h|h
  .have:=au (i.hf f g).1;grind
  .exact a.gA f g n h
end
section
variable {b u d : Zw} {a : iq} {Fr c : List (Nat × Obj)} {s : bh} {f ks : Zv} {h : List (ck × Zv)} {i : List (Zb × dD × Zv)}
def Nm{k:Zo}(g:Cp b a Fr c s f ks h i u)(m:Below u.heap.size u d)(l:∀e∈k,d.heap[e.1]? = some e.2/\u.heap.size<=e.1):Cp b a Fr (k++c) s f ks h i d:=
 g.e1 (bT [] m) Zq (λ_ j=>Ym _ j) (g.ae.kd m l) (List.forall_mem_append.2 ⟨λe j=>Yz g.ae.kp.aD (l e j).2,g.bn⟩)
def sq(d:Zo)(e:Zv)(a:List Nat):Prop:=
 (d=[]/\e=.slice none 0 0/\a=[])\/∃f b c,d=[(f,.cells c 3)]/\e=.slice (some ⟨f,0,none⟩) a.length b/\a.length<=b/\b<=maxLen/\c.size=b/\c.toList.take a.length=a.map rT
def sq.cS{c b l}(d:sq c b l):∃ad a,b=.slice ad l.length a:=by
 rcases d with⟨_,rfl,rfl⟩|⟨f,a,e,_,rfl,_⟩;all_goals simp
def sq.j4{e g d}(n:sq e g d)(j:Cp b a (e++Fr) c s f ks h i u):u.ownsRow b.heap.size 3 1 g d.length (d.map rT):=by
 refine⟨Zq,?_⟩;rcases n with⟨_,rfl,rfl⟩|⟨m,k,l,rfl,rfl,o,p,q,r⟩
 .simp
 .exact Ya ⟨m,k,l,rfl,j.ae.fy _ Yb,(j.ae.hf _ Yb).1,o,p,Zm,Zu⟩
def sq.a9{x r l}{o k:Zw}{g q F:Nat}(H:sq x r l)(M:Cp b a (x++Fr) c s f ks h i u)(I:Below u.heap.size u o)
  (C:k.ownsRow b.heap.size 3 1 (.slice (some ⟨g,0,none⟩) (l.length+1) q) (l.length+1) ((l.map rT)++[U F])) (J:o.grownBy k r.ownBlock) (t:r.ownBlock=some g\/g=o.heap.size) :
  ∃y,sq y (.slice (some ⟨g,0,none⟩) (l.length+1) q) (l++[F])/\Cp b a (y++Fr) c s f ks h i k:=by
 obtain⟨D,a6⟩:=hR C (g:=g) rfl;rcases C.2 with⟨a1,_⟩|⟨S,O,z,m,_,G,a7,N,a8,a9⟩
 .omega
 cases m
 have e:=M.ah I;have n:=gt J;refine⟨[(g,.cells z 3)],Ya ⟨g,q,z,rfl,Zq,Zu,N,Zm,Zu⟩,?_⟩;rcases H with⟨rfl,rfl,rfl⟩|⟨a0,P,R,rfl,rfl,a2,a3,a4,a5⟩
 .simp only[Value.ownBlock]at t n;have L:g=o.heap.size:=by
   simp_all
  have A:an [] o k:=n.ak Zq;have w:ee b (hg a f ks) Fr c k:=e.ae.bm A Zq;refine e.e1 A Zq (λ_ d=>d) (w.jI G D ?_ ?_ ?_) e.bn
  .intro v;have:=e.ae.lt _ v;omega
  .intro j d;have:=au (e.ae.hf j d).1;omega
  .intro j d;have:=au (e.ae.hb j d).1;omega
 .simp only[Value.ownBlock,Yu,Option.toList_some]at t n;rcases t with rfl|L
  .grind [Cp.dN]
  .have B:=e.ae.d5;simp only[YX,YT,List.map_cons,List.nodup_cons]at B;have K:=e.ae.hf _ Yb;have p:=e.b0;have w:ee b (hg a f ks) Fr c k:=p.ae.df n (by
    intro b0 E;simp only[Yc]at E;subst E;refine⟨e.ae.fy _ Yb,K.2,?_,?_⟩
    .intro j d m;exact B.1 (by rw[<-m];exact List.mem_map_of_mem d)
    .intro j d m;exact e.ae.gA _ Yb j d m.symm)
   refine p.e1 n Zu (λ_ d=>d) (w.jI G D ?_ ?_ ?_) e.bn
   .intro v;have:=e.ae.lt _ v;omega
   .intro j d;have:=au (p.ae.hf j d).1;omega
   .intro j d;have:=au (p.ae.hb j d).1;omega
end
section
variable {A B e:Zo}{z:TypeId}{a:iq}{d j:Nat}{p r w y h i:Zv}{f:List (ck×Zv)}{g:List (Zb×dD×Zv)}{o s:Obj}{l D t u:Nat×Obj}{c:bh}{k m b:Zw}
def Cp.d3(d:Cp b a (A++l::B) e c i h f g k):Cp b a (l::(A++B)) e c i h f g k:=by
 refine d.bE (λm j=>List.perm_middle.mem_iff.2 j) ?_;have:=d.ae.d5;grind [List.perm_middle]
def Cp.c6(d:Cp b a (l::(A++B)) e c i h f g k):Cp b a (A++l::B) e c i h f g k:=by
 refine d.bE (λm j=>List.perm_middle.mem_iff.1 j) ?_;have:=d.ae.d5;grind [List.perm_middle]
def Cp.g2(d:Cp b a A e c i h f g k)(j:A.Perm B):Cp b a B e c i h f g k:=by
 refine d.bE (λm l=>j.mem_iff.2 l) ?_;have:=d.ae.d5;grind
def Cp.m8(d:Cp b a (l::D::(A++B)) e c i h f g k):Cp b a (A++l::D::B) e c i h f g k:=
 d.g2 (List.perm_middle.trans (List.perm_middle.cons l)).symm
def yV(d:Cp b a (A++(j,o)::B) e c i h f g k)(l:an [j] k m)(n:m.heap[j]? = some s):Cp b a (A++(j,s)::B) e c i h f g m:=(d.d3.dN l n).c6
def Cp.p1(d:Cp b a (A++t::u::(j,o)::B) e c i h f g k)(l:an [j] k m)(n:m.heap[j]? = some s):Cp b a (A++t::u::(j,s)::B) e c i h f g m:=by
 have:=yV (A:=A++[t,u]) (B:=B) (by simpa using d) l n;simp_all
def Cp.p2{d:Nat×Obj}(l:Cp b a (A++t::u::d::(j,o)::B) e c i h f g k)(n:an [j] k m)(p:m.heap[j]? = some s):Cp b a (A++t::u::d::(j,s)::B) e c i h f g m:=by
 have:=yV (A:=A++[t,u,d]) (B:=B) (by simpa using l) n p;simp_all
def Cp.ks(d:Cp b a (A++l::D::B) e c i h f g k):Cp b a (A++B) (l::e) c i h f g k:=
 (Cp.hv (d.g2 (List.perm_middle.trans (List.perm_middle.cons l)))).b0
abbrev qo(b a:Int)(x:Option Addr)(e f:Nat)(d:Bool)(j:Nat)(c:Zv):Array Zv:=#[U b,U a,.slice x e f,.bool d,.map (some j),c]
structure zp(b:Zw)(a:iq)(Fr e:Zo)(C:Zv->Array Zv)(S j:Nat)(q:oe)(esl:Zv)(ur:Zw):Prop where
 nd:(q.c1.map (·.1)).Nodup
 ex:∃bs' ov E i h f g,(∀l∈e,l∈bs')/\pZ bs' ov q.df/\(∃pa,ov=.pointer pa)/\sq E esl q.cs/\Cp b a (E++((j,jn q.c1)::(S,.cells (C ov) 392)::Fr)) bs' q.s i h f g ur
def kT{a c:Zv}(e:b.heap[d]? = some (.cells #[p,r,w,y,a,c] z)) :
  b.cell? (Zd d 0)=some p/\b.cell? (Zd d 1)=some r/\b.cell? (Zd d 2)=some w/\b.cell? (Zd d 3)=some y/\b.cell? (Zd d 4)=some a/\b.cell? (Zd d 5)=some c/\(∀f,b.frozen? ⟨d,f,none⟩=false)/\d<b.heap.size:=by
 refine⟨?_,?_,?_,?_,?_,?_,?_,au e⟩<;>simp[World.cell?,World.frozen?,e]
theorem iy(c:b.heap[d]? = some (.cells #[p,r] z)) :
  b.cell? (Zd d 0)=some p/\b.cell? (Zd d 1)=some r/\(∀a,b.frozen? ⟨d,a,none⟩=false)/\d<b.heap.size:=by
 grind [World.cell?,World.frozen?]
def zG(a:b.heap[d]? = some (.cells #[p,r,w,y] z)) :
  b.cell? (Zd d 0)=some p/\b.cell? (Zd d 1)=some r/\b.cell? (Zd d 2)=some w/\b.cell? (Zd d 3)=some y/\(∀c,b.frozen? ⟨d,c,none⟩=false)/\d<b.heap.size:=by
 refine⟨?_,?_,?_,?_,?_,au a⟩<;>simp[World.cell?,World.frozen?,a]
def pZ.a2{a:Zo}(g:∀l∈e,l∈a){v o}(b:pZ e v o):pZ a v o:=by
 cases o with
 |none=>exact b
 |some h=>obtain⟨d,c,f⟩:=b;exact⟨d,c,g _ f⟩
def aaX{b:oe}{a:Nat}{c:List Int×aW}(e:tN c.2.O)(d:bH b.s (a+4)):bH (cz b c).s a:=by
 have f:=um e.er;exact bH.a4 (xf _ (d.b5 Zm)) _
def Ej:∀(a:List (List Int×aW)) {q:oe} {n:Nat},pN a->bH q.s (n+4*a.length)->bH (a.foldl cz q).s n:=by
 intro a;induction a with
 |nil=>simp
 |cons f a e=>
  intro q n b c;exact e (λg d=>b g (Y5 _ d)) (aaX (b f Zq) (c.b5 Zg))
def Hk:∀(a:List (List Int×aW)) (b:oe),(a.foldl cz b).cs.length=b.cs.length+a.length:=by
 intro a;induction a<;>grind [cz]
def Pk:∀(a:List (List Int×aW)) (b:oe),b.s.ab.length<=(a.foldl cz b).s.ab.length:=by
 intro a;induction a with
 |nil=>simp
 |cons d a c=>
  grind [cz,yv,lR,qW]
theorem RJ:∀(a:List (List Int×aW)) (b:oe),(∀c∈b.cs,c<b.s.ab.length)->∀c∈(a.foldl cz b).cs,c<(a.foldl cz b).s.ab.length:=by
 intro a;induction a with
 |nil=>simp
 |cons e a d=>
  grind [cz,yv,lR,qW]
theorem xG(a:List Nat):∀c:bh,(jS a c).ab.length=c.ab.length:=by
 induction a with
 |nil=>intro c;rfl
 |cons b a d=>
  intro c;have:=d (dn b (.jump c.ab.length) c);simp only[dn,YF]at this;exact this
def RE(b:List Nat)(a:Nat)(c:bh):jS (b++[a]) c=dn a (.jump c.ab.length) (jS b c):=by
 grind [xG,jS]
def Dg:(prog.info? 3).map (λa=>(a.zero,a.size,a.bytes))=some (some (U 0),1,8):=Zk
end
set_option maxHeartbeats 8000000 in
def ad2{k l1:Zw}{q Fr K g s2 k6 n2 h9 h4 h3 m5 s6 y a}(o5:fB h4 h3 (.union s6 m5 y a))(b6:∀p∈h4,k.heap[p.1]? = some p.2)(q0:ha y.O)(k4:pN a)(c9:Cp k q Fr K g s2 k6 n2 h9 l1)(g0:bH g (8+4*a.length)) :
  Calls prog 133 #[Zp q.C,Zp h3] l1 λj s7=>j=.returned (.tuple #[])/\ej k q Fr K (pL y a g) s7:=by
 have v8:=mS;obtain⟨h2,c7,n8,u2,d5,j2⟩:=o5;have i9:=b6 _ n8;have g5:=aa (λ(v:Zw) (g1:an [] k v)=>kT ((g1.L _ (au i9) Zq).trans i9));obtain⟨q5,q6,q7,q8,k5,q9,_,_⟩:=g5.w _ c9.ae.kp;obtain⟨w7,v0,w4,w5,w6⟩:=info_parts Dg;obtain⟨t0,y2,i4⟩:=hX y.O;have b3:=abq q0 c9;rw[i4]at k5 b3;have w0:=g0.ab;have b3:=aa b3;have g4:=aa c9;have m3:af (bH (aT .hole g) (7+4*a.length)):=bH.a4 (g0.b5 Zm) _;have e2:=aa k4;clear c9 k4 g0 i4;go_in;go_wp21;refine b3.w.mono ?_;rintro j B ⟨z,s,l,E,F,D,rfl,d1,i8⟩;have P:=((g4.w.ah i8).H (.map #[] 0)).H (.cells (qo z s l E F D B.heap.size (.pointer none)) 392);have q2:(B.alloc (.map #[] 0)).heap.size=B.heap.size+1:=Zq;rw[q2]at P;have a9:=aa (nL (v:=.iface 392 (.agg (qo z s l E F D B.heap.size (.pointer none)))) (x:=.hole) P ⟨_,_,rfl⟩ Zm)
 have l8:=aa d1;clear P d1 i8 b3;go_wp21;refine a9.w.mono ?_;rintro j l3 ⟨rfl,s4,c5⟩;have b0:Cp k q ((B.heap.size,.map #[] 0)::(B.heap.size+1,.cells (qo z s l E F D B.heap.size (.pointer none)) 392)::Fr) K (aT .hole g) s4 k6 _ h9 l3:=Cp.c6 (A:=[_]) c5;have h0:af (zp k q Fr K (qo z s l E F D B.heap.size) (B.heap.size+1) B.heap.size ⟨aT .hole g,[],none,[]⟩ (.slice none 0 0) l3):=⟨Zq,K,.pointer none,[],_,_,_,_,λ_ n=>n,rfl,⟨_,rfl⟩,Y8 ⟨rfl,rfl,rfl⟩,b0⟩;obtain⟨q5,q6,q7,q8,k5,q9,_,_⟩:=g5.w _ c5.ae.kp;have v7:a.length<=1000:=by rcases d5 with⟨_,f2,_⟩|⟨_,_,_,_,⟨_,d0⟩,_⟩<;>omega
 have k1:∀(v:Zw),an [] k v->∀f (s:f<a.length),∃r w,h2=.slice (some ⟨r,0,none⟩) a.length w/\a.length<=w/\∃t u,v.cell? ⟨r,f*4,none⟩=some (.slice t a[f].1.length u)/\v.cell? ⟨r,f*4+1,none⟩=some (.string ⟨a[f].2.t.toArray⟩)/\v.cell? ⟨r,f*4+2,none⟩=some (U a[f].2.y)/\v.cell? ⟨r,f*4+3,none⟩=some (cW a[f].2.O)/\
   a[f].1.length<=1000/\∀(S:Zw),an [] k S->∀e (x:e<a[f].1.length),∃H,t=some ⟨H,0,none⟩/\a[f].1.length<=u/\S.cell? (Zd H e)=some (U a[f].1[e]):=by
  intro v g1 f s;have o8:f<c7.length:=Zm;rcases d5 with⟨_,f2,_⟩|⟨r,w,n1,p9,⟨f5,v9⟩,f6,d6⟩
  .omega
  .have d4:=(g1.L _ (au (b6 _ f6)) Zq).trans (b6 _ f6);have d3:=rP (c:=rB) (n:=4) (λ_=>rfl) (a.zip c7) f;have d7:f<(a.zip c7).length:=Zx;have o2:∃t u,c7[f]=Value.slice t a[f].1.length u/\a[f].1.length<=1000/\∀(S:Zw),an [] k S->∀e (x:e<a[f].1.length),∃H,t=some ⟨H,0,none⟩/\a[f].1.length<=u/\S.cell? (Zd H e)=some (U a[f].1[e]):=by
    rcases j2 f s o8 with⟨j,e5,_⟩|⟨n6,t3,t5,j,⟨e6,e7⟩,e8,h7⟩
    .exact⟨none,0,by rw[j,e5],Zm,λS _ e x=>by omega⟩
    .refine⟨_,_,j,e7,λS q3 e x=>⟨n6,rfl,e6,?_⟩⟩;exact dt ((q3.L _ (au (b6 _ e8)) Zq).trans (b6 _ e8)) h7 Zq
   obtain⟨t,u,o4,j0,d2⟩:=o2;refine⟨r,w,p9,f5,t,u,dt d4 d6 ?_,dt d4 d6 ?_,dt d4 d6 ?_,dt d4 d6 ?_,j0,d2⟩
   .have:=d3 0 d7 Zm;simpa[o4]using this
   .have:=d3 1 d7 Zm;simpa using this
   .have:=d3 2 d7 Zm;simpa using this
   .have:=d3 3 d7 Zm;simpa using this
 obtain⟨t1,t2,f4⟩:∃ad w,h2=.slice ad a.length w:=by
  rcases d5 with⟨j,f2,_⟩|⟨r,w,n1,j,_⟩
  .exact⟨none,0,by rw[j,f2]⟩
  .exact⟨_,_,j⟩
 subst f4;have m2:=aa k1;have w8:=aa c5.ae.kp;clear k1 c5 b0 j2 d5 a9;generalize u0:B.heap.size=i at *
 go_wp21;go_loopw [32,6] (λf n5 b8=>∃d:Nat,f=U d/\d<=a.length/\af (zp k q Fr K (qo z s l E F D i) (i+1) i ((a.take d).foldl cz ⟨aT .hole g,[],none,[]⟩) n5 b8)) (λf _ _=>a.length-(intOf f).toNat)
 case atStart=>exact⟨0,rfl,Zm,h0⟩
 case round=>
  rename Zw=>l4;obtain⟨d,rfl,v6,c6⟩:=hrel;clear h0;rcases Yj d a.length with a5|u9
  .have k0:bH ((a.take d).foldl cz ⟨aT .hole g,[],none,[]⟩).s 7:=Ej (a.take d) (q:=⟨aT .hole g,[],none,[]⟩) (λl q4=>e2.w l (List.mem_of_mem_take q4)) (m3.w.b5 Zg);have b5:((a.take d).foldl cz ⟨aT .hole g,[],none,[]⟩).cs.length=d:=by rw[Hk];grind
   obtain⟨b7,e4,r1,c0,s3,g2,n3,f1,a3,a7,⟨a8,rfl⟩,N,I⟩:=c6.w;have j9:(a.take (d+1)).foldl cz ⟨aT .hole g,[],none,[]⟩=cz ((a.take d).foldl cz ⟨aT .hole g,[],none,[]⟩) a[d]:=by rw[Yt a5,YS];rfl
   have g8:=aa j9;clear j9 c6;generalize p6:(a.take d).foldl cz ⟨aT .hole g,[],none,[]⟩=b at *
   obtain⟨r,w,f4,f5,t,u,x1,x2,x3,r3,j0,d2⟩:=m2.w _ I.ae.kp d a5;cases f4
   obtain⟨g9,l2,d0⟩:=hX a[d].2.O;have s9:=aa d0;have v1:(0:Int)<=↑d:=Zm;have v2:(↑d:Int) < ↑a.length:=Zm;have P:=I.H (.cells #[.slice t a[d].1.length u,.string ⟨a[d].2.t.toArray⟩,U a[d].2.y,cW a[d].2.O] 363);have b2:=Pf (ca:=t) (cn:=a[d].1.length) (cc:=u) (e2.w a[d] (Yy a5)).er P (k0.b5 Zm);rw[d0]at r3 b2 P;have b2:=aa b2;have m0:=aa a7;have c3:=aa N;have c2:=aa a3;have l9:=aa b7;have l6:=aa d2;obtain⟨e9,f0,rfl⟩:=N.cS;clear I P a7 N a3 b7 d2 d0;go_wp21;refine b2.w.mono ?_;rintro j b9 ⟨rfl,h5,x8,d8,t7,c8,i7,b0⟩;have G:=b0.H (.cells #[U (gp a[d].2 b.s).1,U (gp a[d].2 b.s).2] 394);have p8:bH (lR a[d].2 b.s) 1:=xf _ (k0.b5 (by have:=um (e2.w a[d] (Yy a5)).er;omega));have a9:=aa (nL (v:=.iface 396 (.agg #[U 0])) (x:=.jump 0) G rfl (by have:=p8.ab;omega))
   have d9:=aa i7;clear b0 G b2 i7;go_wp21;refine a9.w.mono ?_;rintro j a0 ⟨rfl,x9,G⟩;have a1:=G.m8;have j7:∀g3,(a0.alloc g3).ownsRow k.heap.size 3 1 (.slice e9 d f0) d (b.cs.map rT):=by
    intro g3;have:=c3.w.j4 a1;rw[b5]at this;exact bw this ((ao [] a0).H g3) Zq
   have w1:k.heap.size<=a0.heap.size:=a1.ae.kp.aD;have p3:(d+1)*8<=140737488355328:=Zm;have a1:=aa a1;clear G a9;go_wp2_with (first
    |(at_builtin;refine kl Dg underlying24 (j7 _) [.int .i64 (lR a[d].2 b.s).ab.length] (heap_alloc_new a0 _) Zy p3 Zx (H:=a0.heap.size+1) Zq ?_;intro t9 t4 y0 j8 j4 i6 p4;obtain⟨c1,i2,b1⟩:=c3.w.a9 a1.w ((Below.refl a0.heap.size a0).alloc (Y4 _) _) (by rw[b5];exact j8) (by rw[b5];exact j4) (by rw[b5];simpa using i6);obtain⟨r4,r5,r6,r7,r8,r9⟩:=zG (b1.ae.hf _ (Ym _ (Y5 _ Yb))).1;have b1:=aa b1;have g6:=aa i2;clear i2 a1 j7 j8 j4 i6 p4)
    |fail)
   go_loopw [49] (λf b8=>∃e:Nat,f=U e/\e<=a[d].1.length/\af ((((a[d].1.take e).foldl (λo m=>cq o m (gp a[d].2 b.s)) b.c1).map (·.1)).Nodup/\∃O L,Cp k q (c1++((b9.heap.size,.cells #[U (gp a[d].2 b.s).1,U (gp a[d].2 b.s).2] 394)::(l4.heap.size,.cells #[.slice t a[d].1.length u,.string ⟨a[d].2.t.toArray⟩,U a[d].2.y,.iface g9 l2] 363)::(i,jn ((a[d].1.take e).foldl (λo m=>cq o m (gp a[d].2 b.s)) b.c1))::(i+1,.cells (qo z s l E F D i (.pointer a8)) 392)::Fr)) h5 (aT (.jump 0) (lR a[d].2 b.s)) O d8 L c8 b8)) (λf _=>a[d].1.length-(intOf f).toNat)
   case atStart=>exact⟨0,rfl,Zm,l9.w,_,_,b1.w⟩
   case round=>
    obtain⟨e,rfl,x,J⟩:=hrel;clear b1;rcases Yj e a[d].1.length with a4|p1
    .obtain⟨R,O,L,h⟩:=J.w;obtain⟨H,o0,u1,o3⟩:=l6.w _ h.ae.kp e a4;obtain⟨w9,x0,_,_⟩:=iy (h.ae.hf _ (Ym _ Yb)).1;obtain⟨_,_,_,_,k8,_,_,_⟩:=kT (h.ae.hf _ (Ym _ (Y5 _ (Y5 _ (Y5 _ Yb))))).1;have f8:=(h.ae.hf _ (Ym _ (Y5 _ (Y5 _ Yb)))).1;have r2:=Ff f8 R a[d].1[e] (gp a[d].2 b.s).1 (gp a[d].2 b.s).2;have j3:(a[d].1.take (e+1)).foldl (λo m=>cq o m (gp a[d].2 b.s)) b.c1=cq ((a[d].1.take e).foldl (λo m=>cq o m (gp a[d].2 b.s)) b.c1) a[d].1[e] (gp a[d].2 b.s):=by rw[Yt a4,YS];rfl
     have j6:af ((((a[d].1.take (e+1)).foldl (λo m=>cq o m (gp a[d].2 b.s)) b.c1).map (·.1)).Nodup/\∃O L,Cp k q (c1++((b9.heap.size,.cells #[U (gp a[d].2 b.s).1,U (gp a[d].2 b.s).2] 394)::(l4.heap.size,.cells #[.slice t a[d].1.length u,.string ⟨a[d].2.t.toArray⟩,U a[d].2.y,.iface g9 l2] 363)::(i,jn ((a[d].1.take (e+1)).foldl (λo m=>cq o m (gp a[d].2 b.s)) b.c1))::(i+1,.cells (qo z s l E F D i (.pointer a8)) 392)::Fr)) h5 (aT (.jump 0) (lR a[d].2 b.s)) O d8 L c8 (eG wr i (jn (cq ((a[d].1.take e).foldl (λo m=>cq o m (gp a[d].2 b.s)) b.c1) a[d].1[e] ((gp a[d].2 b.s).1,(gp a[d].2 b.s).2))))):=by
      rw[j3];exact⟨tn R ..,O,L,h.p1 (jC ..) (qH (au f8) _)⟩
     have o9:(0:Int)<=↑e:=Zm;have p0:(↑e:Int) < ↑a[d].1.length:=Zm;obtain⟨h1,i5⟩:∃h1,h1=eG wr i (jn (cq ((a[d].1.take e).foldl (λo m=>cq o m (gp a[d].2 b.s)) b.c1) a[d].1[e] ((gp a[d].2 b.s).1,(gp a[d].2 b.s).2))):=⟨_,rfl⟩;rw[<-i5]at r2 j6;clear i5 J h f8 j3 R;subst o0;go_wp2;exact⟨⟨e+1,Zr,Zm,j6⟩,Zz⟩
    .have f7:e=a[d].1.length:=Zm;subst f7;obtain⟨R,O,L,h⟩:=J.w;rw[YG]at R h;obtain⟨r4,r5,r6,r7,r8,r9⟩:=zG (h.ae.hf _ (Ym _ (Y5 _ Yb))).1;have f3:=(h.ae.hf _ (Ym _ (Y5 _ (Y5 _ (Y5 _ Yb))))).1;obtain⟨_,_,_,_,k8,s0,s1,s5⟩:=kT f3;have e1:=aa f3;have h:=aa h;have g7:=aa R;have h8:(b.cs.length+1:Nat)=d+1:=Zm;clear J R f3;by_cases a6:a[d].1=[]
     .have j5:a[d].1.length=0:=by rw[a6];rfl
      have n9:((a[d].1.length:Int)==0)=true:=by rw[j5];rfl
      have a2:=aa (h.w.p2 ((ao [i+1] wr).aH (p:=⟨i+1,5,none⟩) Zq (Zp b9.heap.size)) (bv (i:=5) e1.w (Zp b9.heap.size))).ks;have e0:=aa a6;clear h e1 a6 j5;go_wp2;refine⟨⟨d+1,Zr,Zm,?_⟩,Zz⟩;show zp k q Fr K (qo z s l E F D i) (i+1) i ..;rw[g8.w];refine⟨g7.w,_,Zp b9.heap.size,c1,O,d8,L,c8,λp n=>Y5 _ (d9.w p (c2.w p n)),?_,⟨_,rfl⟩,?_,a2.w⟩
      .simp only[cz,e0.w,if_true]
       exact⟨_,rfl,Yb⟩
      .have:=g6.w;rw[h8]at this;exact this
     .have n9:((a[d].1.length:Int)==0)=false:=by
       have:a[d].1.length≠0:=λj=>a6 (Yv.1 j);simp;omega
      have a2:=aa h.w.ks;have e0:=aa a6;clear h e1 a6;go_wp2;refine⟨⟨d+1,Zr,Zm,?_⟩,Zz⟩;show zp k q Fr K (qo z s l E F D i) (i+1) i ..;rw[g8.w];refine⟨g7.w,_,.pointer a8,c1,O,d8,L,c8,λp n=>Y5 _ (d9.w p (c2.w p n)),?_,⟨_,rfl⟩,?_,a2.w⟩
      .simp only[cz,e0.w,if_false]
       exact m0.w.a2 (λp n=>Y5 _ (d9.w p n))
      .have:=g6.w;rw[h8]at this;exact this
  .have p2:d=a.length:=Zm;subst p2;have p7:=Pk a ⟨aT .hole g,[],none,[]⟩;have f9:=RJ a ⟨aT .hole g,[],none,[]⟩ Zq;have b5:(a.foldl cz ⟨aT .hole g,[],none,[]⟩).cs.length=a.length:=by rw[Hk];simp
   obtain⟨b7,e4,r1,c0,s3,g2,n3,f1,a3,a7,⟨a8,rfl⟩,N,I⟩:=c6.w;rw[YG]at b7 a7 N I;have m4:af (pL y a g=jS (a.foldl cz ⟨aT .hole g,[],none,[]⟩).cs (dn g.ab.length (.choice (iN g y.O) (a.foldl cz ⟨aT .hole g,[],none,[]⟩).c1 (a.foldl cz ⟨aT .hole g,[],none,[]⟩).df) (a.foldl cz ⟨aT .hole g,[],none,[]⟩).s)):=rfl;clear c6;generalize p6:a.foldl cz ⟨aT .hole g,[],none,[]⟩=b at *
   rw[yv]at p7;obtain⟨m6,m7,m8,m9,o7,a5⟩:=I.al;obtain⟨x4,x5,x6,x7,k8,s0,s1,s5⟩:=kT (I.ae.hf _ (Ym _ (Y5 _ Yb))).1;obtain⟨r,w,q1,f5,u6,⟨y3,w2⟩,f6,G⟩:=wQ (i:=g.ab.length) (x:=.choice (iN g y.O) b.c1 b.df) (v:=.iface 392 (.agg (qo z s l E F D i (.pointer a8)))) (I.ks.ah (Below.refl ..).drew) ⟨qB z s l E F D,i,.pointer a8,rfl,l8.w.a2 (λp n=>Y5 _ (a3 p n)),Yb,a7.a2 (λp n=>Y5 _ n)⟩ Zm
   have v3:(g.ab.length:Int)<(b.s.ab.length:Int):=Zm;obtain⟨e9,f0,rfl⟩:=N.cS;have c3:=aa N;have c2:=aa a3;have G:=aa G;cases q1
   clear I N a3 a7 b7;have p5:∀(e:Nat),e<b.cs.length->∃j:Nat,b.cs[e]? = some j/\j<b.s.ab.length:=λe x=>⟨b.cs[e],Zq,f9 _ (Yy x)⟩;have j1:∀(v:Zw) (l0:bh) (h6:Zo) (k9 k7:Zv) (M:List (ck×Zv)) (i0:List (Zb×dD×Zv)),Cp k q (c0++Fr) h6 l0 k9 k7 M i0 v->∀(e:Nat) (x:e<b.cs.length),∃H,e9=some ⟨H,0,none⟩/\b.cs.length<=f0/\v.cell? (Zd H e)=some (U b.cs[e]):=by
    intro v l0 h6 k9 k7 M i0 r0 e x;rcases c3.w with⟨_,_,e5⟩|⟨i1,n0,t6,rfl,e6,e7,e8,h7,n4⟩
    .rw[e5]at x;simp at x
    .cases e6
     exact⟨i1,rfl,e7,dt (xs:=b.cs.map rT) (r0.ae.hf _ Yb).1 (by simpa using n4) (by simp[x])⟩
   have l7:=aa j1;have m1:=aa f9;clear j1 p5 f9;go_wp2;go_region;go_wp2;go_loopw [74] (λf b8=>∃e:Nat,f=U e/\e<=b.cs.length/\af (∃M,Cp k q (c0++Fr) ((i,jn b.c1)::e4) (jS (b.cs.take e) (dn g.ab.length (.choice (iN g y.O) b.c1 b.df) b.s)) (.slice (some ⟨r,0,none⟩) b.s.ab.length w) g2 M f1 b8)) (λf _=>b.cs.length-(intOf f).toNat)
   case atStart=>exact⟨0,rfl,Zm,_,G.w⟩
   case round=>
    obtain⟨e,rfl,x,J⟩:=hrel;clear G;rcases Yj e b.cs.length with a4|p1
    .obtain⟨M,h⟩:=J.w;obtain⟨H,o6,u3,o3⟩:=l7.w _ _ _ _ _ _ _ h e a4;have i3:(jS (b.cs.take e) (dn g.ab.length (.choice (iN g y.O) b.c1 b.df) b.s)).ab.length=b.s.ab.length:=by rw[xG];simp[dn]
     have k3:jS (b.cs.take (e+1)) (dn g.ab.length (.choice (iN g y.O) b.c1 b.df) b.s)=dn b.cs[e] (.jump b.s.ab.length) (jS (b.cs.take e) (dn g.ab.length (.choice (iN g y.O) b.c1 b.df) b.s)):=by
      rw[Yt a4,RE];simp[dn]
     have u4:=m1.w _ (Yy a4);obtain⟨m6,m7,m8,m9,o7,a5⟩:=h.al;obtain⟨i1,n0,k2,o1,u7,⟨y4,w3⟩,u8,a2⟩:=wQ (i:=b.cs[e]) (x:=.jump b.s.ab.length) (v:=.iface 396 (.agg #[U b.s.ab.length])) (h.ah (Below.refl ..).drew) rfl Zm
     have c4:=qw (h.ah (Below.refl ..).drew);rw[i3]at c4 k2 o1;cases k2
     have d1:af (∃M,Cp k q (c0++Fr) ((i,jn b.c1)::e4) (jS (b.cs.take (e+1)) (dn g.ab.length (.choice (iN g y.O) b.c1 b.df) b.s)) (.slice (some ⟨r,0,none⟩) b.s.ab.length w) g2 M f1 (wr.drew.setCell ⟨r,b.cs[e],none⟩ (.iface 396 (.agg #[U b.s.ab.length])))):=by
      rw[k3];exact⟨_,a2⟩
     have c4:=aa c4;have o9:(0:Int)<=↑e:=Zm;have p0:(↑e:Int) < ↑b.cs.length:=Zm;have v4:(↑e:Int) < ↑a.length:=Zm;have v5:(↑(b.cs[e]):Int) < ↑b.s.ab.length:=Zm;subst o6;clear J h a2 k3 i3;generalize u5:b.cs[e]=t8 at *
     go_wp21;refine cy (λs8=>s8.cell? (Zd q.C 0)=some (.slice (some ⟨r,0,none⟩) b.s.ab.length w)) ?_ λn7=>?_
     .go_keep
     refine bI [0,1,2,3,4,5] ?_;iterate 6 (refine bK ?_)
     refine bJ ?_;refine cx 6 λe3 b4=>?_;(go_simp;go_at_call 128;refine c4.w.mono ?_;rintro j y1 ⟨rfl,rfl⟩);refine b4.out _ _ ?_ (λn7=>?_)
     .go_keep
     clear b4 e3;refine nz ?_;refine bI [7,8,9] ?_;iterate 3 (refine bK ?_)
     refine bJ ?_;refine cw λe3 b4=>?_;go_simp;refine b4.out _ _ ?_;clear b4 e3;refine nz ?_;go_wp2;exact⟨⟨e+1,Zr,Zm,d1⟩,Zz⟩
    .have f7:e=b.cs.length:=Zm;subst f7;obtain⟨M,h⟩:=J.w;rw[YG]at h;have l5:=aa (h.bE (Fr':=Fr) (λp n=>Ym _ n) (by have:=h.ae.d5;rw[List.map_append,YJ]at this;exact this.2.1)).c9;clear J h;go_wp2;go_end0;refine⟨rfl,?_⟩;rw[m4.w];exact ss (λp n=>Y5 _ (c2.w p n)) l5.w
end Go.Proofs.YtjdhaegijjednaaGreatDoor
