import Derived.Test.YtjdhaegijjednaaGreatDoorT2
import Derived.Deep.CutBlock
import Derived.Deep.DeepCutAuto
import Derived.Laws.OwnMore
import Derived.Deep.OwnRows
set_option linter.all false
set_option maxRecDepth 100000
set_option maxHeartbeats 4000000
namespace Go.Proofs.YtjdhaegijjednaaGreatDoor
open Go.RowKit
open Go.Proofs.Tryz
section
variable {g j : Nat -> Prop} {f h : Nat} {d : List UInt8} {a : ac} {c : World} {i : PV}
def GV(g:Nat->Prop)(f:Nat)(d:List UInt8)(h:Nat)(i:PV)(e:ac)(v:Value)(c:World)(b:Ending)(a:World):Prop:=b=.returned v/\bg g f d h e i a/\Fr g c a
def kH(b:bg g f d h a i c)(j e:Int):Calls prog 51 #[.pointer (some ⟨f,0,none⟩),.int .i64 j,.int .i64 e] c (GV g f d h i (bp j e a) (.tuple #[]) c):=by
 refine(uM b.aD j e).mono ?_;rintro m n ⟨rfl,l,k⟩;exact⟨rfl,b.b6 (s:=⟨a.s.x,_,_⟩) l k b.fin b.c2,b.fr k⟩
def FU(b:bg g f d h a i c):Calls prog 84 #[.pointer (some ⟨f,0,none⟩)] c (GV g f d h i (dd a) (.tuple #[]) c):=by
 refine(uy b.aD).mono ?_;rintro k l ⟨rfl,j,e⟩;exact⟨rfl,b.b6 (s:=jQ a.s) j e b.fin b.c2,b.fr e⟩
def vz(b:bg g f d h a i c):Calls prog 47 #[.pointer (some ⟨f,0,none⟩)] c (GV g f d h i (aJ d a) (.tuple #[]) c):=by
 refine(vy b.aD b.fin b.c6).mono ?_;rintro k l ⟨rfl,j,e⟩;exact⟨rfl,b.b6 (s:=qe d a.s) j e (vw b.fin) (vx b.c6),b.fr e⟩
def ml(k:bg g f d h a i c)(b:Nat)(e:List UInt8):Calls prog 81 #[.pointer (some ⟨f,0,none⟩),.int .i64 b,.string ⟨e.toArray⟩] c λj l=>j=.returned (.bool (ay a b e))/\l=c:=xI k.aD b e
def oV(b:bg g f d h a i c)(e:Nat)(j:List UInt8):Calls prog 141 #[.pointer (some ⟨f,0,none⟩),.int .i64 e,.string ⟨j.toArray⟩] c (GV g f d h i (ab d e j a) (.tuple #[]) c):=by
 refine(Em b.aD b.fin b.c6 e j).mono ?_;rintro n o ⟨rfl,m,k,l⟩;exact⟨rfl,b.b6 m k l (Ek b.c6 b.c2),b.fr k⟩
def bg.G(k:bg g f d h a i c)(e:Obj):bg (ad g c.heap.size) f d h a i (c.alloc e):=by
 refine k.hy ((ah [] c).G e) (by simp) ?_ ?_
 .intro j b;rcases b with b|rfl
  .exact Y8 b
  .exact Ya (Y4 _)
 .intro j b;have l:(c.alloc e).heap.size=c.heap.size+1:=by simp
  rcases b with b|rfl
  .have:=k.bh j b;omega
  .omega
def bg.bo{b:Nat}(j:bg (ad g b) f d h a i c):bg g f d h a i c:=j.hy (ah [] c) (by simp) (λb e=>Y8 (Y8 e)) (λb e=>j.bh b (Y8 e))
def GN(g:Nat->Prop)(f:Nat)(d:List UInt8)(h:Nat)(i:PV)(a:(Int×Int)×ac)(c:World)(b:Ending)(e:World):Prop:=GV g f d h i a.2 (.tuple #[.int .i64 a.1.1,.int .i64 a.1.2]) c b e
def zl(M:bg g f d h a i c)(k m:Int)(c3:h<=1000000000):Calls prog 143 #[.pointer (some ⟨f,0,none⟩),.int .i64 k,.int .i64 m] c (GN g f d h i (aW d k m a) c):=by
 obtain⟨d5,d7,d8,d9,e0,e1,b8,b9,c0,b3,d6,b4,b5,b6,b7,e4,e8⟩:=M.am;have w:=Z M;have l:U (bg (ad g c.heap.size) f d h a i (c.alloc (oW a.s.x))/\Fr g c (c.alloc (oW a.s.x))/\(c.alloc (oW a.s.x)).heap[c.heap.size]? = some (oW a.s.x)):=Z ⟨M.G _,(iN g c).G _,aK rfl⟩;clear M b8 c0 b3 b4 b5 b6 b7;by_cases z:a.s.e=0
 .have c5:(a.s.e != 0)=false:=by rw[z];rfl
  by_cases C:a.s.x.H=3
  .have E:U (aW d k m a=ei d k m a.s.x.n a):=by show _=_;unfold aW;rw[Y2 (by simpa using z),Y9 C]
   have c7:((a.s.x.H:Int)==3)=true:=by rw[C];rfl
   clear C z;go_in;go_wp2_with fail;refine(ml (w.j.G _) 2 [84,82,85,69]).mono ?_;rintro t D ⟨rfl,rfl⟩;go_wp2_with fail;refine(ml (w.j.G _) 2 [70,65,76,83,69]).mono ?_;rintro t D ⟨rfl,rfl⟩;by_cases o:a.s.x.n<k\/m<a.s.x.n
   .have r:U (aW d k m a=((0,0),bp 8 a.s.x.w a)):=by show _=_;rw[E.j];unfold ei;rw[Y9 o]
    have y:¬(a.s.x.n<k)->m<a.s.x.n:=λq=>o.resolve_left q;by_cases A:a.s.x.n<k
    .clear o y;go_wp2_with fail;refine(kH l.j.1 8 a.s.x.w).mono ?_;rintro t u ⟨rfl,j,b⟩;have p:=Z (Yp j.bo (l.j.2.1.u b.bo));clear j b;go_wp2;go_ret2;rw[r.j];exact⟨rfl,p.j⟩
    .have F:=y A;clear o y;go_wp2_with fail;refine(kH l.j.1 8 a.s.x.w).mono ?_;rintro t u ⟨rfl,j,b⟩;have p:=Z (Yp j.bo (l.j.2.1.u b.bo));clear j b;go_wp2;go_ret2;rw[r.j];exact⟨rfl,p.j⟩
   .have r:U (aW d k m a=((a.s.x.n,(a.s.x.w:Int)),aJ d a)):=by show _=_;rw[E.j];unfold ei;rw[Y2 o]
    have A:¬(a.s.x.n<k):=λq=>o (Y8 q);have F:¬(m<a.s.x.n):=λq=>o (Ya q);clear o;go_wp2_with fail;refine(vz l.j.1).mono ?_;rintro t u ⟨rfl,j,b⟩;have B:u.heap[c.heap.size]? = some (oW a.s.x):=(b.K _ (aj l.j.2.2) kB).trans l.j.2.2;obtain⟨a1,a2,a3,a4,a5,a6,a7,a8⟩:=dY B;have p:=Z (Yp j.bo (l.j.2.1.u b.bo));clear j b B;go_wp2;go_region;go_wp2;go_ret2;rw[r.j];exact⟨rfl,p.j.1.aA (ah [] _).a9,p.j.2.a9⟩
  .have c7:((a.s.x.H:Int)==3)=false:=by rw[Yi];omega
   cases S:ay a 2 [84,82,85,69]with
   |true=>
    have E:U (aW d k m a=ei d k m 1 a):=by show _=_;unfold aW;rw[Y2 (by simpa using z),Y2 C,Y9 S]
    clear C z;go_in;go_wp2_with fail;refine(ml (w.j.G _) 2 [84,82,85,69]).mono ?_;rintro t D ⟨rfl,rfl⟩;go_wp2_with fail;refine(ml (w.j.G _) 2 [70,65,76,83,69]).mono ?_;rintro t D ⟨rfl,rfl⟩;by_cases o:1<k\/m<1
    .have r:U (aW d k m a=((0,0),bp 8 a.s.x.w a)):=by show _=_;rw[E.j];unfold ei;rw[Y9 o]
     have y:¬(1<k)->m<1:=λq=>o.resolve_left q;by_cases A:1<k
     .clear o y;go_wp2_with fail;refine(kH l.j.1 8 a.s.x.w).mono ?_;rintro t u ⟨rfl,j,b⟩;have p:=Z (Yp j.bo (l.j.2.1.u b.bo));clear j b;go_wp2;go_ret2;rw[r.j];exact⟨rfl,p.j⟩
     .have F:=y A;clear o y;go_wp2_with fail;refine(kH l.j.1 8 a.s.x.w).mono ?_;rintro t u ⟨rfl,j,b⟩;have p:=Z (Yp j.bo (l.j.2.1.u b.bo));clear j b;go_wp2;go_ret2;rw[r.j];exact⟨rfl,p.j⟩
    .have r:U (aW d k m a=((1,(a.s.x.w:Int)),aJ d a)):=by show _=_;rw[E.j];unfold ei;rw[Y2 o]
     have A:¬(1<k):=λq=>o (Y8 q);have F:¬(m<1):=λq=>o (Ya q);clear o;go_wp2_with fail;refine(vz l.j.1).mono ?_;rintro t u ⟨rfl,j,b⟩;have B:u.heap[c.heap.size]? = some (oW a.s.x):=(b.K _ (aj l.j.2.2) kB).trans l.j.2.2;obtain⟨a1,a2,a3,a4,a5,a6,a7,a8⟩:=dY B;have p:=Z (Yp j.bo (l.j.2.1.u b.bo));clear j b B;go_wp2;go_region;go_wp2;go_ret2;rw[r.j];exact⟨rfl,p.j.1.aA (ah [] _).a9,p.j.2.a9⟩
   |false=>
    cases hF:ay a 2 [70,65,76,83,69]with
    |true=>
     have E:U (aW d k m a=ei d k m 0 a):=by show _=_;unfold aW;rw[Y2 (by simpa using z),Y2 C,Y2 (by simp[S]),Y9 hF]
     clear C z;go_in;go_wp2_with fail;refine(ml (w.j.G _) 2 [84,82,85,69]).mono ?_;rintro t D ⟨rfl,rfl⟩;go_wp2_with fail;refine(ml (w.j.G _) 2 [70,65,76,83,69]).mono ?_;rintro t D ⟨rfl,rfl⟩;by_cases o:0<k\/m<0
     .have r:U (aW d k m a=((0,0),bp 8 a.s.x.w a)):=by show _=_;rw[E.j];unfold ei;rw[Y9 o]
      have y:¬(0<k)->m<0:=λq=>o.resolve_left q;by_cases A:0<k
      .clear o y;go_wp2_with fail;refine(kH l.j.1 8 a.s.x.w).mono ?_;rintro t u ⟨rfl,j,b⟩;have p:=Z (Yp j.bo (l.j.2.1.u b.bo));clear j b;go_wp2;go_ret2;rw[r.j];exact⟨rfl,p.j⟩
      .have F:=y A;clear o y;go_wp2_with fail;refine(kH l.j.1 8 a.s.x.w).mono ?_;rintro t u ⟨rfl,j,b⟩;have p:=Z (Yp j.bo (l.j.2.1.u b.bo));clear j b;go_wp2;go_ret2;rw[r.j];exact⟨rfl,p.j⟩
     .have r:U (aW d k m a=((0,(a.s.x.w:Int)),aJ d a)):=by show _=_;rw[E.j];unfold ei;rw[Y2 o]
      have A:¬(0<k):=λq=>o (Y8 q);have F:¬(m<0):=λq=>o (Ya q);clear o;go_wp2_with fail;refine(vz l.j.1).mono ?_;rintro t u ⟨rfl,j,b⟩;have B:u.heap[c.heap.size]? = some (oW a.s.x):=(b.K _ (aj l.j.2.2) kB).trans l.j.2.2;obtain⟨a1,a2,a3,a4,a5,a6,a7,a8⟩:=dY B;have p:=Z (Yp j.bo (l.j.2.1.u b.bo));clear j b B;go_wp2;go_region;go_wp2;go_ret2;rw[r.j];exact⟨rfl,p.j.1.aA (ah [] _).a9,p.j.2.a9⟩
    |false=>
     have N:U (aW d k m a=if a.s.x.H=1 then if bA a a.s.x.text<0\/(bO a).bb≠0 then ((0,0),bp 7 a.s.x.w a)else ei d k m (bO a).n a else ((0,0),dd a)):=by show _=_;unfold aW;rw[Y2 (by simpa using z),Y2 C,Y2 (by simp[S]),Y2 (by simp[hF])]
     clear C z;by_cases I:a.s.x.H=1
     .have c6:((a.s.x.H:Int)==1)=true:=by rw[I];rfl
      obtain⟨gT,c1,b1⟩:=bY w.j.F;have P:=Z (λd2=>ox (w.j.aA (((ah [] c).G d2).a9)) c3 a.s.x.text);rw[b1]at P b9;have G:U (aW d k m a=if bA a a.s.x.text<0\/(bO a).bb≠0 then ((0,0),bp 7 a.s.x.w a)else ei d k m (bO a).n a):=by show _=_;rw[N.j,Y9 I]
      clear I N;go_in;go_wp2_with fail;refine(ml (w.j.G _) 2 [84,82,85,69]).mono ?_;rintro t D ⟨rfl,rfl⟩;go_wp2_with fail;refine(ml (w.j.G _) 2 [70,65,76,83,69]).mono ?_;rintro t D ⟨rfl,rfl⟩;go_wp2_with fail;refine cS (λb2=>b2.cell? ⟨f,8,none⟩=some (.slice gT a.F.length c1)/\b2.cell? ⟨c.heap.size,1,none⟩=some (.string ⟨a.s.x.text.toArray⟩)) (L:=8) (by kernel_rfl) rfl (by kernel_rfl) (by kernel_rfl) ?_ (λc2=>?_)
      .go_keep
      refine bI [0,1,2,3,4,5,6] ?_;iterate 7 (refine bP (v:=?_) rfl (by kernel_rfl) (λ_ _ _ q=>q) (by kernel_rfl) (by assumption) ?_ ?_;rotate_left;focus (intro c c4;(try dsimp only at c4);go_simp;(try with_reducible rfl));(try simp only[aL,aM,List.set]))
      refine bJ ?_;refine ck 7 (by kernel_rfl) rfl λO J=>?_;(go_simp;refine(P.j _).mono ?_;rintro t e9 ⟨rfl,rfl⟩);refine J.out _ _ ?_ (λc2=>?_)
      .go_keep
      clear J O;(try simp only[aL,aM,List.set]);refine cQ (by kernel_rfl) rfl λO J=>?_;go_simp;refine J.out _ _ ?_;clear J O;(try simp only[aL,aM,List.set]);have b0:U (bg (ad g c.heap.size) f d h a i (c.alloc (oW a.s.x)).drew/\Fr g c (c.alloc (oW a.s.x)).drew/\(c.alloc (oW a.s.x)).drew.heap[c.heap.size]? = some (oW a.s.x)):=Z ⟨l.j.1.aA (ah [] _).a9,l.j.2.1.a9,l.j.2.2⟩;clear l;have l:=b0;clear b0 P;by_cases R:bA a a.s.x.text<0
      .have r:U (aW d k m a=((0,0),bp 7 a.s.x.w a)):=by show _=_;rw[G.j,Y9 (Y8 R)]
       clear G;go_wp2_with fail;refine(kH l.j.1 7 a.s.x.w).mono ?_;rintro t u ⟨rfl,j,b⟩;have p:=Z (Yp j.bo (l.j.2.1.u b.bo));clear j b;go_wp2;go_ret2;rw[r.j];exact⟨rfl,p.j⟩
      .have c9:=rx (by omega:0<=bA a a.s.x.text);obtain⟨e3,e2,a0,-,d3,d4,-,f0,f1,e5⟩:=oC w.j c9;rw[b1]at a0;simp at a0;obtain⟨rfl,rfl⟩:=a0;change c.cell? _=some (.int .i64 (bO a).bb)at d3;change c.cell? _=some (.int .i64 (bO a).n)at d4;generalize c8:bA a a.s.x.text=K at *
       obtain⟨K,rfl⟩:∃d1:Nat,K=d1:=⟨K.toNat,by omega⟩;simp only[Int.toNat_natCast]at *
       have e7:(K:Int)<(a.F.length:Int):=by omega
       have e6:¬((K:Int)<0):=R;clear c8 R;by_cases H:(bO a).bb=0
       .have a9:U (aW d k m a=ei d k m (bO a).n a):=by show _=_;rw[G.j,Y2 (by rintro(q|q);omega;exact q H)]
        have d0:((bO a).bb != 0)=false:=by rw[H];rfl
        clear G H;by_cases o:(bO a).n<k\/m<(bO a).n
        .have r:U (aW d k m a=((0,0),bp 8 a.s.x.w a)):=by show _=_;rw[a9.j];unfold ei;rw[Y9 o]
         have y:¬((bO a).n<k)->m<(bO a).n:=λq=>o.resolve_left q;by_cases A:(bO a).n<k
         .clear o y;go_wp2_with fail;refine(kH l.j.1 8 a.s.x.w).mono ?_;rintro t u ⟨rfl,j,b⟩;have p:=Z (Yp j.bo (l.j.2.1.u b.bo));clear j b;go_wp2;go_ret2;rw[r.j];exact⟨rfl,p.j⟩
         .have F:=y A;clear o y;go_wp2_with fail;refine(kH l.j.1 8 a.s.x.w).mono ?_;rintro t u ⟨rfl,j,b⟩;have p:=Z (Yp j.bo (l.j.2.1.u b.bo));clear j b;go_wp2;go_ret2;rw[r.j];exact⟨rfl,p.j⟩
        .have r:U (aW d k m a=(((bO a).n,(a.s.x.w:Int)),aJ d a)):=by show _=_;rw[a9.j];unfold ei;rw[Y2 o]
         have A:¬((bO a).n<k):=λq=>o (Y8 q);have F:¬(m<(bO a).n):=λq=>o (Ya q);clear o;go_wp2_with fail;refine(vz l.j.1).mono ?_;rintro t u ⟨rfl,j,b⟩;have B:u.heap[c.heap.size]? = some (oW a.s.x):=(b.K _ (aj l.j.2.2) kB).trans l.j.2.2;obtain⟨a1,a2,a3,a4,a5,a6,a7,a8⟩:=dY B;have p:=Z (Yp j.bo (l.j.2.1.u b.bo));clear j b B;go_wp2;go_region;go_wp2;go_ret2;rw[r.j];exact⟨rfl,p.j.1.aA (ah [] _).a9,p.j.2.a9⟩
       .have r:U (aW d k m a=((0,0),bp 7 a.s.x.w a)):=by show _=_;rw[G.j,Y9 (Ya H)]
        have d0:((bO a).bb != 0)=true:=by simpa using H
        clear G H;go_wp2_with fail;refine(kH l.j.1 7 a.s.x.w).mono ?_;rintro t u ⟨rfl,j,b⟩;have p:=Z (Yp j.bo (l.j.2.1.u b.bo));clear j b;go_wp2;go_ret2;rw[r.j];exact⟨rfl,p.j⟩
     .have c6:((a.s.x.H:Int)==1)=false:=by rw[Yi];omega
      have r:U (aW d k m a=((0,0),dd a)):=by show _=_;rw[N.j,Y2 I]
      clear I;go_in;go_wp2_with fail;refine(ml (w.j.G _) 2 [84,82,85,69]).mono ?_;rintro t D ⟨rfl,rfl⟩;go_wp2_with fail;refine(ml (w.j.G _) 2 [70,65,76,83,69]).mono ?_;rintro t D ⟨rfl,rfl⟩;go_wp2_with fail;refine(FU (w.j.G _)).mono ?_;rintro t u ⟨rfl,j,b⟩;have p:=Z (Yp j.bo (((iN g c).G _).u b.bo));clear j b;go_wp2;go_ret2;rw[r.j];exact⟨rfl,p.j⟩
 .have c5:(a.s.e != 0)=true:=by simpa using z
  have r:U (aW d k m a=((0,0),a)):=by show _=_;unfold aW;rw[Y9 z]
  clear z;go_in;go_wp2;go_ret2;rw[r.j];exact⟨rfl,w.j,iN _ _⟩
end
section
variable {g j : Nat -> Prop} {f d : Nat} {b : List UInt8} {a : ac} {c : World} {h : PV}
def ua(m:bu g f b d a c)(i e:Int)(k:d<=1000000000):Calls prog 143 #[.pointer (some ⟨f,0,none⟩),.int .i64 i,.int .i64 e] c (GP g f b d (aW b i e a).2 (.tuple #[.int .i64 (aW b i e a).1.1,.int .i64 (aW b i e a).1.2]) c):=by
 obtain⟨h,l⟩:=m;exact(zl l i e k).mono λn o j=>⟨j.1,⟨h,j.2.1⟩,j.2.2⟩
def th(c:World):dR (.slice none 0 0) [] c:=⟨rfl,Y8 ⟨rfl,rfl⟩⟩
def DJ(c:World):ky (.slice none 0 0) [] c:=⟨rfl,Y8 ⟨rfl,rfl⟩⟩
def nD(m:bu g f b d a c)(e:be)(k:e.b2=[])(l:e.c0=[])(i:d<=1000000000):Calls prog 46 #[.pointer (some ⟨f,0,none⟩),.agg #[.int .i64 e.H,.int .i64 e.n,.int .i64 e.of,.slice none 0 0,.slice none 0 0,.int .i64 e.gz,.string ⟨e.ca.toArray⟩,.int .i64 e.w]] c (GP g f b (d+1) (bK e a) (.int .i64 a.y.length) c):=
 CQ m (λ_ h=>h) e (.slice none 0 0) (.slice none 0 0) (by rw[k];exact th c) (by rw[l];exact th c) (by intro o j;simp[Value.ownBlock]at j) i
def Bq(C:bu g f b d a c)(a4:d<=1000000000):Calls prog 218 #[.pointer (some ⟨f,0,none⟩)] c (GP g f b (d+1) (ci b a).2 (.tuple #[.int .i64 (ci b a).1.1,.string ⟨(ci b a).1.2.toArray⟩]) c):=by
 have z:=Z (iL C);obtain⟨h,A⟩:=C;obtain⟨a9,b1,b2,b3,b4,b5,a0,a1,a2,N,b0,O,P,R,S,b6,b7⟩:=A.am;clear A a0 a1 a2 N O P R S;by_cases l:a.s.e=0
 .have a5:(a.s.e != 0)=false:=by rw[l];rfl
  have m:=Z (z.j.G (oW a.s.x));by_cases n:a.s.x.H=1
  .have j:U (ci b a=((((aJ b a).y.length:Int),a.s.x.text),bK (nB a.s.x.text a.s.x.w) (aJ b a))):=by show _=_;unfold ci;rw[Y2 (by simpa using l),Y9 n]
   have a6:((a.s.x.H:Int)==1)=true:=by rw[n];rfl
   clear n l;go_in;go_wp2_with fail;refine aB m (gJ ·) λp k=>?_;obtain⟨F,G,H,I,J,K,L,M⟩:=k.j.am (i:=0) rfl;go_wp2_with fail;refine aB k (nD · (nB a.s.x.text a.s.x.w) rfl rfl a4) λE o=>?_;clear F G H I J K L M;obtain⟨F,G,H,I,J,K,L,M⟩:=o.j.am (i:=0) rfl;go_wp2;go_region;go_wp2;go_ret2;rw[j.j];exact⟨rfl,o.j.a9.fin⟩
  .have a6:((a.s.x.H:Int)==1)=false:=by rw[Yi];omega
   by_cases r:a.s.x.H=2
   .have a7:((a.s.x.H:Int)==2)=true:=by rw[r];rfl
    have q:U (ci b a=if a.s.x.text=[105,110,116]then ((0,[105,110,116]),aJ b a)else if a.s.x.text=[104,121,112,101,114]then ((2,[104,121,112,101,114]),aJ b a)else if a.s.x.text=[98,111,111,108]then ((4,[98,111,111,108]),aJ b a)else if a.s.x.text=[117,110,115,105,103,110,101,100]then iJ b (aJ b a)else ((0,[]),dd a)):=by show _=_;unfold ci;rw[Y2 (by simpa using l),Y2 n];simp only[r,true_and]
    clear n r l;cases t:(a.s.x.text==[105,110,116])with
    |true=>
     have j:U (ci b a=((0,[105,110,116]),aJ b a)):=by show _=_;rw[q.j,Y9 (by simpa using t)]
     go_in;go_wp2_with fail;refine aB m (gJ ·) λp k=>?_;go_wp2;go_ret2;rw[j.j];exact⟨rfl,(k.j.a4 (by omega)).fin⟩
    |false=>
     cases u:(a.s.x.text==[104,121,112,101,114])with
     |true=>
      have j:U (ci b a=((2,[104,121,112,101,114]),aJ b a)):=by show _=_;rw[q.j,Y2 (by simpa using t),Y9 (by simpa using u)]
      go_in;go_wp2_with fail;refine aB m (gJ ·) λp k=>?_;go_wp2;go_ret2;rw[j.j];exact⟨rfl,(k.j.a4 (by omega)).fin⟩
     |false=>
      cases y:(a.s.x.text==[98,111,111,108])with
      |true=>
       have j:U (ci b a=((4,[98,111,111,108]),aJ b a)):=by show _=_;rw[q.j,Y2 (by simpa using t),Y2 (by simpa using u),Y9 (by simpa using y)]
       go_in;go_wp2_with fail;refine aB m (gJ ·) λp k=>?_;go_wp2;go_ret2;rw[j.j];exact⟨rfl,(k.j.a4 (by omega)).fin⟩
      |false=>
       cases D:(a.s.x.text==[117,110,115,105,103,110,101,100])with
       |true=>
        have v:U (ci b a=iJ b (aJ b a)):=by show _=_;rw[q.j,Y2 (by simpa using t),Y2 (by simpa using u),Y2 (by simpa using y),Y9 (by simpa using D)]
        go_in;go_wp2_with fail;refine aB m (gJ ·) λp k=>?_;go_wp2_with fail;refine(gd k.j.a3 2 [104,121,112,101,114]).mono ?_;rintro a3 a8 ⟨rfl,rfl⟩;go_wp2_with fail;refine(gd k.j.a3 2 [105,110,116]).mono ?_;rintro a3 a8 ⟨rfl,rfl⟩;cases w:ay (aJ b a) 2 [104,121,112,101,114]with
        |true=>
         have j:U (ci b a=((3,[117,110,115,105,103,110,101,100,32,104,121,112,101,114]),aJ b (aJ b a))):=by show _=_;rw[v.j];unfold iJ;rw[Y9 w]
         go_wp2_with fail;refine aB k (gJ ·) λE o=>?_;go_wp2;go_ret2;rw[j.j];exact⟨rfl,(o.j.a4 (by omega)).fin⟩
        |false=>
         cases B:ay (aJ b a) 2 [105,110,116]with
         |true=>
          have j:U (ci b a=((1,[117,110,115,105,103,110,101,100]),aJ b (aJ b a))):=by show _=_;rw[v.j];unfold iJ;rw[Y2 (by simp[w]),Y9 B]
          go_wp2_with fail;refine aB k (gJ ·) λE o=>?_;go_wp2;go_ret2;rw[j.j];exact⟨rfl,(o.j.a4 (by omega)).fin⟩
         |false=>
          have j:U (ci b a=((1,[117,110,115,105,103,110,101,100]),aJ b a)):=by show _=_;rw[v.j];unfold iJ;rw[Y2 (by simp[w]),Y2 (by simp[B])]
          go_wp2;go_ret2;rw[j.j];exact⟨rfl,(k.j.a4 (by omega)).fin⟩
       |false=>
        have j:U (ci b a=((0,[]),dd a)):=by show _=_;rw[q.j,Y2 (by simpa using t),Y2 (by simpa using u),Y2 (by simpa using y),Y2 (by simpa using D)]
        go_in;go_wp2_with fail;refine aB m (oe ·) λp k=>?_;go_wp2;go_ret2;rw[j.j];exact⟨rfl,(k.j.a4 (by omega)).fin⟩
   .have a7:((a.s.x.H:Int)==2)=false:=by rw[Yi];omega
    have j:U (ci b a=((0,[]),dd a)):=by show _=_;unfold ci;rw[Y2 (by simpa using l),Y2 n];simp only[r,false_and,if_false]
    clear n r l;go_in;go_wp2_with fail;refine aB m (oe ·) λp k=>?_;go_wp2;go_ret2;rw[j.j];exact⟨rfl,(k.j.a4 (by omega)).fin⟩
 .have a5:(a.s.e != 0)=true:=by simpa using l
  have j:U (ci b a=((0,[]),a)):=by show _=_;unfold ci;rw[Y9 l]
  clear l;go_in;go_wp2;go_ret2;rw[j.j];exact⟨rfl,(z.j.a4 (by omega)).fin⟩
def rh(r:bu g f b d a c)(j:Bool)(o:d<=1000000000):Calls prog 217 #[.pointer (some ⟨f,0,none⟩),.bool j] c (GP g f b d (bq b j a).2 (.int .i64 (bq b j a).1) c):=by
 have m:=Z (iL r);clear r;cases j with
 |true=>
  have i:U (bq b true a=((aW b 1 1000 (ab b 4 [91] a)).1.1,ab b 4 [93] (aW b 1 1000 (ab b 4 [91] a)).2)):=by show _=_;unfold bq;rw[Y9 rfl]
  go_in;go_wp2_with fail;refine aB m (cC · 4 [91]) λt e=>?_;go_wp2_with fail;refine aB e (ua · 1 1000 o) λs h=>?_;go_wp2_with fail;refine aB h (cC · 4 [93]) λu l=>?_;go_wp2;go_ret;rw[i.j];exact⟨rfl,l.j.fin⟩
 |false=>
  go_in;go_wp2_with fail;refine aB m (cC · 4 [60]) λt e=>?_;go_wp2_with fail;refine(gd e.j.a3 4 [62]).mono ?_;rintro v w ⟨rfl,rfl⟩;generalize q:ab b 4 [60] a=k at *
  have n:=Z q;clear q;cases p:ay k 4 [62]with
  |true=>
   have i:U (bq b false a=(4294967295,ab b 4 [62] k)):=by show _=_;unfold bq;rw[Y2 (by simp),n.j];simp only[p,if_true]
   go_wp2_with fail;refine aB e (cC · 4 [62]) λs h=>?_;go_wp2;go_ret;rw[i.j];exact⟨rfl,h.j.fin⟩
  |false=>
   have i:U (bq b false a=((aW b 0 4294967295 k).1.1,ab b 4 [62] (aW b 0 4294967295 k).2)):=by show _=_;unfold bq;rw[Y2 (by simp),n.j];simp[p]
   go_wp2_with fail;refine aB e (ua · 0 4294967295 o) λs h=>?_;go_wp2_with fail;refine aB h (cC · 4 [62]) λu l=>?_;go_wp2;go_ret;rw[i.j];exact⟨rfl,l.j.fin⟩
end
section
variable {g h : Nat -> Prop} {d c : Nat} {t : List UInt8} {b : ac} {a : World} {f : PV}
def bu.c2(h:bu g d t c b a):b.s.x.text.length<=2000:=by obtain⟨f,e⟩:=h;exact e.c2
def bu.b0(h:bu g d t c b a):b.sz<=c:=by obtain⟨f,e⟩:=h;exact e.b0
def bu.sp(l:bu g d t c b a):∃(f:PV) (gT:Option Addr) (j:Nat),bg g d t c b f a/\f.nv=.slice gT b.F.length j:=by
 obtain⟨f,e⟩:=l;obtain⟨h,i,k⟩:=bY e.F;exact⟨f,h,i,e,k⟩
def Sz(h:bu g d t c b a):(cK t b).1.text.length<=2000:=by obtain⟨f,e⟩:=h;exact(zr e.c6 e.c2).1
def aE.cv{h:List Th}{i R:Nat}{y:ef}{l:World}(k:aE g d t c b h l a)(j:h[i]? = some (.obj R (oW y)))(f:ef):(rV a R (.int .i64 f.H) (.string ⟨f.text.toArray⟩) (.int .i64 f.w) (.int .i64 f.fin) (.int .i64 f.n) (.int .i64 f.e)).heap[R]? = some (oW f):=tR (k.w _ (Yh j))
def tF(b7:bu g d t c b a){v:Value}{names:List (List UInt8)}(c9:ky v names a)(d1:∀c2,v.ownBlock=some c2->g c2)(e3:names.length<=1000000)(all:Bool)(d8:c<=1000000000):Calls prog 216 #[.pointer (some ⟨d,0,none⟩),v,.bool all] a (GW g d t c (bW t names all b) a):=by
 have b9:=Z ((iL b7).G oZ);have r:=Z (Sz b7);clear b7;go_in;go_wp2_with fail;refine(zs b9.j.a3).mono ?_;rintro c4 b8 ⟨⟨rfl,d2,b6⟩,-⟩;have e0:U (ky v names b8):=Z (oD (c9.bz ((ah [] a).G oZ) (by simp)) b6 (λd7 d9=>Y8 (d1 d7 d9)));have c0:=Z (b9.j.call ⟨d2,b6⟩);clear d2 b6 c9 d1;generalize e1:cK t b=e2 at *
 obtain⟨h,l⟩:=e2;simp only at c0 r;have j:=Z (c0.j.G (oW h));have q:U (bW t names all b=if l.s.e=0/\(if all=true then decide (0<=bA l h.text)else names.contains h.text)=true then (h,bp 6 h.w l)else (h,l)):=by show _=_;unfold bW;rw[e1]
 have c1:=Z (IK ((e0.j.bz ((ah [] b8).G (oW h)) (by simp)).ct) (by omega) h.text);go_wp2_with fail;refine c1.j.mono ?_;rintro c4 d4 ⟨rfl,d0⟩;rw[<-d0]at j;clear c1 d0;obtain⟨f,gT,d6,w,c8⟩:=j.j.a3.sp;have a0:=Z (ox (w.aA (ah [] d4).a9) d8 h.text);rw[c8]at a0;obtain⟨a1,a7,a8,a9,b0,b1,b2,P,b3,a2,c3,a3,a4,a5,a6,c6,c7⟩:=w.am;rw[c8]at P;obtain⟨F,G,H,I,J,K,M,N⟩:=j.j.am (i:=0) rfl;obtain⟨x,y,z,A,B,C,D,E⟩:=j.j.am (i:=1) (R:=a.heap.size) (x:=cd) rfl;clear w a1 a7 a8 a9 b0 b1 b2 b3 a2 a3 a4 a5 a6;cases all with
 |true=>
  simp only[if_true]at q
  go_wp2_with fail;refine cS (λd3=>d3.cell? ⟨d,8,none⟩=some (.slice gT l.F.length d6)/\d3.cell? ⟨b8.heap.size,1,none⟩=some (.string ⟨h.text.toArray⟩)) (L:=9) (by kernel_rfl) rfl (by kernel_rfl) (by kernel_rfl) ?_ (λc5=>?_)
  .go_keep
  refine bI [0,1,2,3,4,5,6] ?_;iterate 7 (refine bP (v:=?_) rfl (by kernel_rfl) (λ_ _ _ u=>u) (by kernel_rfl) (by assumption) ?_ ?_;rotate_left;focus (intro a b4;(try dsimp only at b4);go_simp;(try with_reducible rfl));(try simp only[aL,aM,List.set]))
  refine bJ ?_;refine ck 7 (by kernel_rfl) rfl λS O=>?_;(go_simp;refine a0.j.mono ?_;rintro c4 d5 ⟨rfl,rfl⟩);refine O.out _ _ ?_ (λc5=>?_)
  .go_keep
  clear O S;(try simp only[aL,aM,List.set]);refine tk (i:=8) (v:=?_) rfl (by kernel_rfl) (λ_ _ _ u=>u) (by kernel_rfl) (by assumption) ?_ ?_;rotate_left
  .intro a b4;(try dsimp only at b4);go_simp;(try with_reducible rfl)
  (try simp only[aL,aM,List.set]);refine cQ (by kernel_rfl) rfl λS O=>?_;go_simp;refine O.out _ _ ?_;clear O S;(try simp only[aL,aM,List.set]);have m:=Z j.j.a9;clear j a0 c5 F G H I J K M N x y z A B C D E P c3 c6 c7;generalize d4.drew=e4 at m ⊢;have j:=m;clear m;obtain⟨f,w⟩:=j.j.a3;obtain⟨a1,a7,a8,a9,b0,b1,b2,P,b3,a2,c3,a3,a4,a5,a6,c6,c7⟩:=w.am;obtain⟨F,G,H,I,J,K,M,N⟩:=j.j.am (i:=0) rfl;obtain⟨x,y,z,A,B,C,D,E⟩:=j.j.am (i:=1) (R:=a.heap.size) (x:=cd) rfl;clear w a1 a7 a8 a9 b0 b1 b2 P b3 a2 a3 a4 a5 a6;generalize decide (0<=bA l h.text)=k at *
  by_cases n:l.s.e=0
  .have b5:(l.s.e==0)=true:=by rw[n];rfl
   cases p:k with
   |true=>
    have o:U (bW t names true b=(h,bp 6 h.w l)):=by show _=_;rw[q.j];rw[p,Y9 ⟨n,rfl⟩]
    clear n;subst p;go_wp2_with fail;refine aB j (iV · 6 h.w) λd5 m=>?_;clear F G H I J K M N x y z A B C D E;obtain⟨F,G,H,I,J,K,M,N⟩:=m.j.am (i:=0) rfl;obtain⟨x,y,z,A,B,C,D,E⟩:=m.j.am (i:=1) (R:=a.heap.size) (x:=cd) rfl;go_wp2;refine nC (R:=a.heap.size) (x:=h) (by rfl) (by rfl) rfl (m.j.cv (i:=1) (R:=a.heap.size) (y:=cd) rfl h) ?_;rw[o.j];exact⟨rfl,(m.j.dN (i:=1) (R:=a.heap.size) (y:=cd) rfl h).fin.1,(m.j.dN (i:=1) (R:=a.heap.size) (y:=cd) rfl h).fin.2,r.j⟩
   |false=>
    have o:U (bW t names true b=(h,l)):=by show _=_;rw[q.j];rw[p,Y2 (by simp)]
    clear n;subst p;go_wp2;refine nC (R:=a.heap.size) (x:=h) (by rfl) (by rfl) rfl (j.j.cv (i:=1) (R:=a.heap.size) (y:=cd) rfl h) ?_;rw[o.j];exact⟨rfl,(j.j.dN (i:=1) (R:=a.heap.size) (y:=cd) rfl h).fin.1,(j.j.dN (i:=1) (R:=a.heap.size) (y:=cd) rfl h).fin.2,r.j⟩
  .have b5:(l.s.e==0)=false:=by rw[Yi];exact n
   have o:U (bW t names true b=(h,l)):=by show _=_;rw[q.j];rw[Y2 (λu=>n u.1)]
   clear n;go_wp2;refine nC (R:=a.heap.size) (x:=h) (by rfl) (by rfl) rfl (j.j.cv (i:=1) (R:=a.heap.size) (y:=cd) rfl h) ?_;rw[o.j];exact⟨rfl,(j.j.dN (i:=1) (R:=a.heap.size) (y:=cd) rfl h).fin.1,(j.j.dN (i:=1) (R:=a.heap.size) (y:=cd) rfl h).fin.2,r.j⟩
 |false=>
  simp only[Ye,if_false]at q
  generalize names.contains h.text=k at *
  by_cases n:l.s.e=0
  .have b5:(l.s.e==0)=true:=by rw[n];rfl
   cases p:k with
   |true=>
    have o:U (bW t names false b=(h,bp 6 h.w l)):=by show _=_;rw[q.j];rw[p,Y9 ⟨n,rfl⟩]
    clear n;subst p;go_wp2_with fail;refine aB j (iV · 6 h.w) λd5 m=>?_;clear F G H I J K M N x y z A B C D E;obtain⟨F,G,H,I,J,K,M,N⟩:=m.j.am (i:=0) rfl;obtain⟨x,y,z,A,B,C,D,E⟩:=m.j.am (i:=1) (R:=a.heap.size) (x:=cd) rfl;go_wp2;refine nC (R:=a.heap.size) (x:=h) (by rfl) (by rfl) rfl (m.j.cv (i:=1) (R:=a.heap.size) (y:=cd) rfl h) ?_;rw[o.j];exact⟨rfl,(m.j.dN (i:=1) (R:=a.heap.size) (y:=cd) rfl h).fin.1,(m.j.dN (i:=1) (R:=a.heap.size) (y:=cd) rfl h).fin.2,r.j⟩
   |false=>
    have o:U (bW t names false b=(h,l)):=by show _=_;rw[q.j];rw[p,Y2 (by simp)]
    clear n;subst p;go_wp2;refine nC (R:=a.heap.size) (x:=h) (by rfl) (by rfl) rfl (j.j.cv (i:=1) (R:=a.heap.size) (y:=cd) rfl h) ?_;rw[o.j];exact⟨rfl,(j.j.dN (i:=1) (R:=a.heap.size) (y:=cd) rfl h).fin.1,(j.j.dN (i:=1) (R:=a.heap.size) (y:=cd) rfl h).fin.2,r.j⟩
  .have b5:(l.s.e==0)=false:=by rw[Yi];exact n
   have o:U (bW t names false b=(h,l)):=by show _=_;rw[q.j];rw[Y2 (λu=>n u.1)]
   clear n;go_wp2;refine nC (R:=a.heap.size) (x:=h) (by rfl) (by rfl) rfl (j.j.cv (i:=1) (R:=a.heap.size) (y:=cd) rfl h) ?_;rw[o.j];exact⟨rfl,(j.j.dN (i:=1) (R:=a.heap.size) (y:=cd) rfl h).fin.1,(j.j.dN (i:=1) (R:=a.heap.size) (y:=cd) rfl h).fin.2,r.j⟩
end
section
variable {d g : Nat -> Prop} {e c : Nat} {t : List UInt8} {a : ac} {b : World} {f : PV}
def vP(c b d:Int)(a:ac):(ei t c b d a).1.1=0\/(c<=(ei t c b d a).1.1/\(ei t c b d a).1.1<=b):=by
 unfold ei;split
 .exact Y8 rfl
 .right;simp only;omega
def sh(c b:Int)(a:ac):(aW t c b a).1.1=0\/(c<=(aW t c b a).1.1/\(aW t c b a).1.1<=b):=by
 unfold aW;split
 .exact Y8 rfl
 .split
  .exact vP _ _ _ _
  .split
   .exact vP _ _ _ _
   .split
    .exact vP _ _ _ _
    .split
     .split
      .exact Y8 rfl
      .exact vP _ _ _ _
     .exact Y8 rfl
def re(b:Bool)(a:ac):0<=(bq t b a).1/\(bq t b a).1<=4294967295:=by
 unfold bq;split
 .have:=sh (t:=t) 1 1000 (ab t 4 [91] a);simp only;omega
 .simp only;split
  .simp
  .have:=sh (t:=t) 0 4294967295 (ab t 4 [60] a);simp only;omega
def jA(a:Int)(b:-10000000000<=a)(c:a<=10000000000):(bC a).length<=13:=by
 unfold bC Lib.itoa;split
 .have:=sS 10 a.natAbs (by omega);simp;omega
 .have:=sS 10 a.toNat (by omega);omega
def Jt(f:bu d e t c a b):(ci t a).1.2.length<=2000:=by
 have:=f.c2;unfold ci iJ;repeat' split
 all_goals simp
 all_goals omega
abbrev GT(a:jh):Value:=.tuple #[.int .i64 a.r,.string ⟨a.d5.toArray⟩,.string ⟨a.fA.toArray⟩,.agg (du a.x)]
def GD(d:Nat->Prop)(e:Nat)(t:List UInt8)(c:Nat)(a:jh×ac)(b:World)(g:Ending)(f:World):Prop:=g=.returned (GT a.1)/\bu d e t c a.2 f/\Fr d b f/\a.1.d5.length<=2002/\a.1.fA.length<=20/\a.1.x.text.length<=2000
def oG{c:Func}{Q:Ending->World->Prop}{a:Act}{R i0 i1 i2 i3:Nat}{v0 v1 v2:Value}{x:ef}(n:c.results=#[.tmp i0,.tmp i1,.tmp i2,.cell i3 112])(d:a.tmps.getD i0 undef=v0)(f:a.tmps.getD i1 undef=v1)(h:a.tmps.getD i2 undef=v2)(j:a.tmps.getD i3 undef=.pointer (some ⟨R,0,none⟩))(l:a.defers=[])(u:b.heap[R]? = some (oW x))(m:Q (.returned (.tuple #[v0,v1,v2,.agg (du x)])) b):bodyPost prog c Q .ret a b:=by
 refine bodyPost_ret (v:=.tuple #[v0,v1,v2,.agg (du x)]) ?_ l m;unfold results;rw[n];obtain⟨o,p,q,r,s,t,w,y⟩:=dY u;have e:a.tmps[i0]?.getD undef=v0:=by simpa using d
 have g:a.tmps[i1]?.getD undef=v1:=by simpa using f
 have i:a.tmps[i2]?.getD undef=v2:=by simpa using h
 have k:a.tmps[i3]?.getD undef=.pointer (some ⟨R,0,none⟩):=by simpa using j
 simp[e,g,i,k,go_sem,o,p,q,r,s,t]
def aE.b8{f:List Th}{i R:Nat}{g:Obj}{k:World}(j:aE d e t c a f k b)(h:f[i]? = some (.obj R g)):b.heap[R]? = some g:=j.w _ (Yh h)
def Jn{f g:Nat}{c d:List UInt8}(b:ay a f c=true)(e:c≠d):ay a g d=false:=by
 unfold ay hD at *
 simp at b;simp[b,e]
def xp(d5:bu d e t c a b){v:Value}{names:List (List UInt8)}(e1:ky v names b)(e2:∀L,v.ownBlock=some L->d L)(c8:names.length<=1000000)(all:Bool)(g5:c+10<=1000000000):Calls prog 148 #[.pointer (some ⟨e,0,none⟩),v,.bool all] b (GD d e t (c+2) (bR t names all a) b):=by
 have d8:=Z ((iL d5).G (oW cd));have x:=Z (Yp e1 e2);have g6:=d5.c2;clear d5 e1 e2;go_in;go_wp2_with fail;refine(gd d8.j.a3 2 [111,112,97,113,117,101]).mono ?_;rintro p g7 ⟨rfl,I⟩;have a0:=d8;rw[<-I]at a0;clear I;go_wp2_with fail;refine(gd a0.j.a3 2 [115,116,114,105,110,103]).mono ?_;rintro p e5 ⟨rfl,rfl⟩;have g3:¬(9223372036854775807<a.s.x.text.length+1):=by omega
 have g0:=hW a.s.x.text [32];obtain⟨f,d9⟩:=a0.j.a3;obtain⟨e6,d0,f3,f4,f5,f6,f7,f8,f9,e7,e8,e9,f0,f1,f2,d1,d3⟩:=d9.am;clear d9 e6 f3 f4 f5 f6 f7 f8 f9 e7 e8 e9 f0 f1 f2;cases M:ay a 2 [111,112,97,113,117,101]with
 |true=>
  have H:ay a 2 [115,116,114,105,110,103]=false:=Jn M (by decide);rw[H];go_wp2_with fail;refine aB a0 (gJ ·) λe3 u=>?_;clear d0 d1 d3;go_wp2_with fail;refine(tF u.j.a3 (oD x.j.1 u.j.fr x.j.2) (λL a1=>Y8 (x.j.2 L a1)) c8 all (by omega)).mono ?_;rintro p d6 ⟨rfl,J,m,r⟩;have w:=Z (u.j.call ⟨J,m⟩);clear J m;generalize G:bW t names all (aJ t a)=a2 at *
  obtain⟨g,h⟩:=a2;have D:=Z G;simp only at w r;clear G;have A:=Z (w.j.G (oW g));go_wp2_with fail;refine(gd A.j.a3 4 [91]).mono ?_;rintro p e4 ⟨rfl,I⟩;have q:=A;rw[<-I]at q;clear I;cases N:ay h 4 [91]with
  |true=>
   have o:U (bR t names all a=(⟨(bq t true h).2.y.length,a.s.x.text++[32],[91]++bC (bq t true h).1++[93],g⟩,bK (ek 6 (bq t true h).1) (bq t true h).2)):=by
    show _=_;unfold bR;rw[Y9 (by simp[M,H])];unfold gt;simp only[D.j,M,H,N];simp
   go_wp2_with fail;refine aB q (rh · true (by omega)) λc4 B=>?_;have c0:=re (t:=t) true h;generalize c1:bq t true h=E at *
   obtain⟨n,K⟩:=E;simp only at *
   go_wp2_with fail;refine(ju n (by omega) (by omega) _).mono ?_;rintro p c5 ⟨rfl,m⟩;have C:=Z (B.j.O m);clear m;go_wp2_with fail;refine aB C (nD · (ek 6 n) rfl rfl (by omega)) λb9 k=>?_;obtain⟨b1,b2,b3,b4,b5,b6,b7,b8⟩:=k.j.am (i:=0) rfl;obtain⟨a3,a4,a5,a6,a7,a8,a9,b0⟩:=k.j.am (i:=1) (R:=b.heap.size) (x:=cd) rfl;have F:=jA n (by omega) (by omega);unfold bC at F o;generalize Lib.itoa n=j at *
   have O:=hW [91] j;have P:=hW ([91]++j) [93];have c2:¬(9223372036854775807<1+j.length):=by omega
   have c3:¬(9223372036854775807<1+j.length+1):=by omega
   go_wp2;go_region;go_wp2;have l:=Z ((k.j.dN (i:=1) (R:=b.heap.size) (y:=cd) rfl g).a9.a4 (N':=c+2) (by omega));refine oG (i0:=6) (i1:=7) (i2:=8) (i3:=9) (R:=b.heap.size) (x:=g) (v0:=.int .i64 K.y.length) (v1:=.string ⟨(a.s.x.text++[32]).toArray⟩) (v2:=.string ⟨([91]++j++[93]).toArray⟩) ?_ ?_ ?_ ?_ ?_ ?_ ?_ ?_
   .rfl
   .rfl
   .rfl
   .exact Yo Value.string P
   .rfl
   .rfl
   .exact l.j.b8 (i:=1) rfl
   .rw[o.j];exact⟨rfl,l.j.fin.1,l.j.fin.2,by simp;omega,by simp;omega,r⟩
  |false=>
   have o:U (bR t names all a=(⟨(bq t false h).2.y.length,a.s.x.text++[32],[60]++bC (bq t false h).1++[62],g⟩,bK (ek 7 (bq t false h).1) (bq t false h).2)):=by
    show _=_;unfold bR;rw[Y9 (by simp[M,H])];unfold gt;simp only[D.j,M,H,N];simp
   go_wp2_with fail;refine aB q (rh · false (by omega)) λc4 B=>?_;have c0:=re (t:=t) false h;generalize c1:bq t false h=E at *
   obtain⟨n,K⟩:=E;simp only at *
   go_wp2_with fail;refine(ju n (by omega) (by omega) _).mono ?_;rintro p c5 ⟨rfl,m⟩;have C:=Z (B.j.O m);clear m;go_wp2_with fail;refine aB C (nD · (ek 7 n) rfl rfl (by omega)) λb9 k=>?_;obtain⟨b1,b2,b3,b4,b5,b6,b7,b8⟩:=k.j.am (i:=0) rfl;obtain⟨a3,a4,a5,a6,a7,a8,a9,b0⟩:=k.j.am (i:=1) (R:=b.heap.size) (x:=cd) rfl;have F:=jA n (by omega) (by omega);unfold bC at F o;generalize Lib.itoa n=j at *
   have O:=hW [60] j;have P:=hW ([60]++j) [62];have c2:¬(9223372036854775807<1+j.length):=by omega
   have c3:¬(9223372036854775807<1+j.length+1):=by omega
   go_wp2;go_region;go_wp2;have l:=Z ((k.j.dN (i:=1) (R:=b.heap.size) (y:=cd) rfl g).a9.a4 (N':=c+2) (by omega));refine oG (i0:=6) (i1:=7) (i2:=8) (i3:=9) (R:=b.heap.size) (x:=g) (v0:=.int .i64 K.y.length) (v1:=.string ⟨(a.s.x.text++[32]).toArray⟩) (v2:=.string ⟨([60]++j++[62]).toArray⟩) ?_ ?_ ?_ ?_ ?_ ?_ ?_ ?_
   .rfl
   .rfl
   .rfl
   .exact Yo Value.string P
   .rfl
   .rfl
   .exact l.j.b8 (i:=1) rfl
   .rw[o.j];exact⟨rfl,l.j.fin.1,l.j.fin.2,by simp;omega,by simp;omega,r⟩
 |false=>
  cases H:ay a 2 [115,116,114,105,110,103]with
  |true=>
   go_wp2_with fail;refine aB a0 (gJ ·) λe3 u=>?_;clear d0 d1 d3;go_wp2_with fail;refine(tF u.j.a3 (oD x.j.1 u.j.fr x.j.2) (λL a1=>Y8 (x.j.2 L a1)) c8 all (by omega)).mono ?_;rintro p d6 ⟨rfl,J,m,r⟩;have w:=Z (u.j.call ⟨J,m⟩);clear J m;generalize G:bW t names all (aJ t a)=a2 at *
   obtain⟨g,h⟩:=a2;have D:=Z G;simp only at w r;clear G;have A:=Z (w.j.G (oW g));go_wp2_with fail;refine(gd A.j.a3 4 [91]).mono ?_;rintro p e4 ⟨rfl,I⟩;have q:=A;rw[<-I]at q;clear I;cases N:ay h 4 [91]with
   |true=>
    have o:U (bR t names all a=(⟨(bq t false h).2.y.length,a.s.x.text++[32],[60]++bC (bq t false h).1++[62],g⟩,bK (ek 8 (bq t false h).1) (bq t false h).2)):=by
     show _=_;unfold bR;rw[Y9 (by simp[M,H])];unfold gt;simp only[D.j,M,H,N];simp
    go_wp2_with fail;refine aB q (rh · false (by omega)) λc4 B=>?_;have c0:=re (t:=t) false h;generalize c1:bq t false h=E at *
    obtain⟨n,K⟩:=E;simp only at *
    go_wp2_with fail;refine(ju n (by omega) (by omega) _).mono ?_;rintro p c5 ⟨rfl,m⟩;have C:=Z (B.j.O m);clear m;go_wp2_with fail;refine aB C (nD · (ek 8 n) rfl rfl (by omega)) λb9 k=>?_;obtain⟨b1,b2,b3,b4,b5,b6,b7,b8⟩:=k.j.am (i:=0) rfl;obtain⟨a3,a4,a5,a6,a7,a8,a9,b0⟩:=k.j.am (i:=1) (R:=b.heap.size) (x:=cd) rfl;have F:=jA n (by omega) (by omega);unfold bC at F o;generalize Lib.itoa n=j at *
    have O:=hW [60] j;have P:=hW ([60]++j) [62];have c2:¬(9223372036854775807<1+j.length):=by omega
    have c3:¬(9223372036854775807<1+j.length+1):=by omega
    go_wp2;go_region;go_wp2;have l:=Z ((k.j.dN (i:=1) (R:=b.heap.size) (y:=cd) rfl g).a9.a4 (N':=c+2) (by omega));refine oG (i0:=6) (i1:=7) (i2:=8) (i3:=9) (R:=b.heap.size) (x:=g) (v0:=.int .i64 K.y.length) (v1:=.string ⟨(a.s.x.text++[32]).toArray⟩) (v2:=.string ⟨([60]++j++[62]).toArray⟩) ?_ ?_ ?_ ?_ ?_ ?_ ?_ ?_
    .rfl
    .rfl
    .rfl
    .exact Yo Value.string P
    .rfl
    .rfl
    .exact l.j.b8 (i:=1) rfl
    .rw[o.j];exact⟨rfl,l.j.fin.1,l.j.fin.2,by simp;omega,by simp;omega,r⟩
   |false=>
    have o:U (bR t names all a=(⟨(bq t false h).2.y.length,a.s.x.text++[32],[60]++bC (bq t false h).1++[62],g⟩,bK (ek 8 (bq t false h).1) (bq t false h).2)):=by
     show _=_;unfold bR;rw[Y9 (by simp[M,H])];unfold gt;simp only[D.j,M,H,N];simp
    go_wp2_with fail;refine aB q (rh · false (by omega)) λc4 B=>?_;have c0:=re (t:=t) false h;generalize c1:bq t false h=E at *
    obtain⟨n,K⟩:=E;simp only at *
    go_wp2_with fail;refine(ju n (by omega) (by omega) _).mono ?_;rintro p c5 ⟨rfl,m⟩;have C:=Z (B.j.O m);clear m;go_wp2_with fail;refine aB C (nD · (ek 8 n) rfl rfl (by omega)) λb9 k=>?_;obtain⟨b1,b2,b3,b4,b5,b6,b7,b8⟩:=k.j.am (i:=0) rfl;obtain⟨a3,a4,a5,a6,a7,a8,a9,b0⟩:=k.j.am (i:=1) (R:=b.heap.size) (x:=cd) rfl;have F:=jA n (by omega) (by omega);unfold bC at F o;generalize Lib.itoa n=j at *
    have O:=hW [60] j;have P:=hW ([60]++j) [62];have c2:¬(9223372036854775807<1+j.length):=by omega
    have c3:¬(9223372036854775807<1+j.length+1):=by omega
    go_wp2;go_region;go_wp2;have l:=Z ((k.j.dN (i:=1) (R:=b.heap.size) (y:=cd) rfl g).a9.a4 (N':=c+2) (by omega));refine oG (i0:=6) (i1:=7) (i2:=8) (i3:=9) (R:=b.heap.size) (x:=g) (v0:=.int .i64 K.y.length) (v1:=.string ⟨(a.s.x.text++[32]).toArray⟩) (v2:=.string ⟨([60]++j++[62]).toArray⟩) ?_ ?_ ?_ ?_ ?_ ?_ ?_ ?_
    .rfl
    .rfl
    .rfl
    .exact Yo Value.string P
    .rfl
    .rfl
    .exact l.j.b8 (i:=1) rfl
    .rw[o.j];exact⟨rfl,l.j.fin.1,l.j.fin.2,by simp;omega,by simp;omega,r⟩
  |false=>
   clear d0 d1 d3 g0 g3;have c6:U (bR t names all a=gq t names all a):=by show _=_;unfold bR;rw[Y2 (by simp[M,H])]
   have g1:=Jt a0.j.a3;go_wp2_with fail;refine aB a0 (Bq · (by omega)) λe3 u=>?_;generalize e0:ci t a=g4 at *
   obtain⟨⟨S,z⟩,d7⟩:=g4;have c7:=Z e0;simp only at u g1;clear e0;go_wp2_with fail;refine(gd u.j.a3 4 [42]).mono ?_;rintro p e5 ⟨rfl,rfl⟩;cases c9:ay d7 4 [42]with
   |true=>
    go_wp2_with fail;refine aB u (gJ ·) λd6 w=>?_;go_wp2_with fail;refine(tF w.j.a3 (oD x.j.1 w.j.fr x.j.2) (λL a1=>Y8 (x.j.2 L a1)) c8 all (by omega)).mono ?_;rintro p g8 ⟨rfl,J,m,r⟩;have A:=Z (w.j.call ⟨J,m⟩);clear J m;generalize G:bW t names all (aJ t d7)=a2 at *
    obtain⟨g,h⟩:=a2;have D:=Z G;simp only at A r;clear G;have q:=Z (A.j.G (oW g));go_wp2_with fail;refine aB q (nD · (dI 11 0 S) rfl rfl (by omega)) λb9 k=>?_;obtain⟨b1,b2,b3,b4,b5,b6,b7,b8⟩:=k.j.am (i:=0) rfl;obtain⟨a3,a4,a5,a6,a7,a8,a9,b0⟩:=k.j.am (i:=1) (R:=b.heap.size) (x:=cd) rfl;have O:=hW z [32,42];have c2:¬(9223372036854775807<z.length+2):=by omega
    have o:U (bR t names all a=(⟨h.y.length,z++[32,42],[],g⟩,bK (dI 11 0 S) h)):=by
     show _=_;rw[c6.j];unfold gq;simp only[c7.j,D.j,c9];simp
    go_wp2;go_region;go_wp2;have l:=Z ((k.j.dN (i:=1) (R:=b.heap.size) (y:=cd) rfl g).a9.a4 (N':=c+2) (by omega));refine oG (i0:=6) (i1:=7) (i2:=8) (i3:=9) (R:=b.heap.size) (x:=g) (v0:=.int .i64 h.y.length) (v1:=.string ⟨(z++[32,42]).toArray⟩) (v2:=.string ⟨([]:List UInt8).toArray⟩) ?_ ?_ ?_ ?_ ?_ ?_ ?_ ?_
    .rfl
    .rfl
    .exact Yo Value.string O
    .rfl
    .rfl
    .rfl
    .exact l.j.b8 (i:=1) rfl
    .rw[o.j];exact⟨rfl,l.j.fin.1,l.j.fin.2,by simp;omega,by simp;try omega,r⟩
   |false=>
    go_wp2_with fail;refine(tF u.j.a3 (oD x.j.1 u.j.fr x.j.2) (λL a1=>Y8 (x.j.2 L a1)) c8 all (by omega)).mono ?_;rintro p d6 ⟨rfl,J,m,r⟩;have w:=Z (u.j.call ⟨J,m⟩);clear J m;generalize G:bW t names all (d7)=a2 at *
    obtain⟨g,h⟩:=a2;have D:=Z G;simp only at w r;clear G;have A:=Z (w.j.G (oW g));go_wp2_with fail;refine(gd A.j.a3 4 [91]).mono ?_;rintro p e4 ⟨rfl,I⟩;have q:=A;rw[<-I]at q;clear I;go_wp2_with fail;refine(gd q.j.a3 4 [60]).mono ?_;rintro p e5 ⟨rfl,rfl⟩;have O:=hW z [32];have c2:¬(9223372036854775807<z.length+1):=by omega
    cases N:ay h 4 [91]with
    |true=>
     have o:U (bR t names all a=(⟨(bq t true h).2.y.length,z++[32],[91]++bC (bq t true h).1++[93],g⟩,bK (dI 9 (bq t true h).1 S) (bq t true h).2)):=by
      show _=_;rw[c6.j];unfold gq;simp only[c7.j,D.j,c9,N];(try simp only[d4]);simp
     go_wp2_with fail;refine aB q (rh · true (by omega)) λc4 B=>?_;have c0:=re (t:=t) true h;generalize c1:bq t true h=E at *
     obtain⟨n,K⟩:=E;simp only at *
     go_wp2_with fail;refine(ju n (by omega) (by omega) _).mono ?_;rintro p c5 ⟨rfl,m⟩;have C:=Z (B.j.O m);clear m;go_wp2_with fail;refine aB C (nD · (dI 9 n S) rfl rfl (by omega)) λb9 k=>?_;obtain⟨b1,b2,b3,b4,b5,b6,b7,b8⟩:=k.j.am (i:=0) rfl;obtain⟨a3,a4,a5,a6,a7,a8,a9,b0⟩:=k.j.am (i:=1) (R:=b.heap.size) (x:=cd) rfl;have F:=jA n (by omega) (by omega);unfold bC at F o;generalize Lib.itoa n=j at *
     have P:=hW [91] j;have d2:=hW ([91]++j) [93];have c3:¬(9223372036854775807<1+j.length):=by omega
     have g2:¬(9223372036854775807<1+j.length+1):=by omega
     go_wp2;go_region;go_wp2;have l:=Z ((k.j.dN (i:=1) (R:=b.heap.size) (y:=cd) rfl g).a9.a4 (N':=c+2) (by omega));refine oG (i0:=6) (i1:=7) (i2:=8) (i3:=9) (R:=b.heap.size) (x:=g) (v0:=.int .i64 K.y.length) (v1:=.string ⟨(z++[32]).toArray⟩) (v2:=.string ⟨([91]++j++[93]:List UInt8).toArray⟩) ?_ ?_ ?_ ?_ ?_ ?_ ?_ ?_
     .rfl
     .rfl
     .exact Yo Value.string O
     .exact Yo Value.string d2
     .rfl
     .rfl
     .exact l.j.b8 (i:=1) rfl
     .rw[o.j];exact⟨rfl,l.j.fin.1,l.j.fin.2,by simp;omega,by simp;try omega,r⟩
    |false=>
     cases d4:ay h 4 [60]with
     |true=>
      have o:U (bR t names all a=(⟨(bq t false h).2.y.length,z++[32],[60]++bC (bq t false h).1++[62],g⟩,bK (dI 10 (bq t false h).1 S) (bq t false h).2)):=by
       show _=_;rw[c6.j];unfold gq;simp only[c7.j,D.j,c9,N];(try simp only[d4]);simp
      go_wp2_with fail;refine aB q (rh · false (by omega)) λc4 B=>?_;have c0:=re (t:=t) false h;generalize c1:bq t false h=E at *
      obtain⟨n,K⟩:=E;simp only at *
      go_wp2_with fail;refine(ju n (by omega) (by omega) _).mono ?_;rintro p c5 ⟨rfl,m⟩;have C:=Z (B.j.O m);clear m;go_wp2_with fail;refine aB C (nD · (dI 10 n S) rfl rfl (by omega)) λb9 k=>?_;obtain⟨b1,b2,b3,b4,b5,b6,b7,b8⟩:=k.j.am (i:=0) rfl;obtain⟨a3,a4,a5,a6,a7,a8,a9,b0⟩:=k.j.am (i:=1) (R:=b.heap.size) (x:=cd) rfl;have F:=jA n (by omega) (by omega);unfold bC at F o;generalize Lib.itoa n=j at *
      have P:=hW [60] j;have d2:=hW ([60]++j) [62];have c3:¬(9223372036854775807<1+j.length):=by omega
      have g2:¬(9223372036854775807<1+j.length+1):=by omega
      go_wp2;go_region;go_wp2;have l:=Z ((k.j.dN (i:=1) (R:=b.heap.size) (y:=cd) rfl g).a9.a4 (N':=c+2) (by omega));refine oG (i0:=6) (i1:=7) (i2:=8) (i3:=9) (R:=b.heap.size) (x:=g) (v0:=.int .i64 K.y.length) (v1:=.string ⟨(z++[32]).toArray⟩) (v2:=.string ⟨([60]++j++[62]:List UInt8).toArray⟩) ?_ ?_ ?_ ?_ ?_ ?_ ?_ ?_
      .rfl
      .rfl
      .exact Yo Value.string O
      .exact Yo Value.string d2
      .rfl
      .rfl
      .exact l.j.b8 (i:=1) rfl
      .rw[o.j];exact⟨rfl,l.j.fin.1,l.j.fin.2,by simp;omega,by simp;try omega,r⟩
     |false=>
      have k:=q;obtain⟨b1,b2,b3,b4,b5,b6,b7,b8⟩:=k.j.am (i:=0) rfl;obtain⟨a3,a4,a5,a6,a7,a8,a9,b0⟩:=k.j.am (i:=1) (R:=b.heap.size) (x:=cd) rfl;have o:U (bR t names all a=(⟨S,z++[32],[],g⟩,h)):=by
       show _=_;rw[c6.j];unfold gq;simp only[c7.j,D.j,c9,N,d4];simp
      go_wp2;go_region;go_wp2;have l:=Z ((k.j.dN (i:=1) (R:=b.heap.size) (y:=cd) rfl g).a9.a4 (N':=c+2) (by omega));refine oG (i0:=6) (i1:=7) (i2:=8) (i3:=9) (R:=b.heap.size) (x:=g) (v0:=.int .i64 S) (v1:=.string ⟨(z++[32]).toArray⟩) (v2:=.string ⟨([]:List UInt8).toArray⟩) ?_ ?_ ?_ ?_ ?_ ?_ ?_ ?_
      .rfl
      .rfl
      .exact Yo Value.string O
      .rfl
      .rfl
      .rfl
      .exact l.j.b8 (i:=1) rfl
      .rw[o.j];exact⟨rfl,l.j.fin.1,l.j.fin.2,by simp;omega,by simp;try omega,r⟩
end
section
variable {g j : Nat -> Prop} {a f : Nat} {t : List UInt8} {b : ac} {d h : World} {c : PV}
def bg.ax{u:Nat}{σ':ac}{r:World}(e:bg g a t f b c d)(p:r.heap[a]? = some (lB t σ'.s (pB c σ')))(i:ai [a] d r)(o:σ'.y=b.y)(A:σ'.F=b.F)(B:σ'.ak=b.ak)(C:σ'.aa=b.aa)(E:σ'.s.x.fin<=t.length)(I:σ'.s.x.text.length<=2000)(G:σ'.sz<=u)(D:0<=σ'.a1/\0<=σ'.ae):bg g a t u σ' c r:=by
 have m:∀{v:Value},v.ownBlock≠some a->∀h,v.ownBlock=some h->h ∉ [a]:=λH h l k=>by
  simp only[Yc]at k;exact H (by rw[l,k])
 have w:∀j,j∈c.bz->j ∉ [a]:=λj p k=>by
  simp only[Yc]at k;exact e.cq j p (by rw[k];simp[PV.b7])
 refine⟨p,o▸aY e.y i (m e.nd.r),A▸aY e.F i (m e.nd.n),B▸aY e.ak i (m e.nd.p),C▸e.aa.bz i (m e.nd.g),o▸e.bc,?_,e.nd,e.cq,e.b1,λj J=>Yr (e.bh j J) i.a2,E,I,e.c6,G,D⟩;intro K M L F q;obtain⟨y,z⟩:=e.gb K M L (o▸F) q;exact⟨y.bz i λh l=>w h (hx q (Y8 l)),z.bz i λh l=>w h (hx q (Ya l))⟩
def bg.g1{h:ByteArray}{s:List UInt8}{K:Nat}(e:bg g a t f b c d)(j:h=⟨(b.j++s).toArray⟩)(k:s.length<=K):bg g a t (f+K) (dW s b) c (d.setCell ⟨a,10,none⟩ (.string h)):=by
 subst j;refine e.ax (σ':=dW s b) (bv (i:=10) e.aD _) ((ah [a] d).a6 (p:=⟨a,10,none⟩) (by simp) _) rfl rfl rfl rfl e.fin e.c2 ?_ e.cn;have:=e.b0;unfold ac.sz dW at *
 simp only[Yq];omega
def aE.g1{i:List Th}{e:ByteArray}{s:List UInt8}{K:Nat}(k:aE g a t f b i h d)(l:e=⟨(b.j++s).toArray⟩)(m:s.length<=K):aE g a t (f+K) (dW s b) i h (d.setCell ⟨a,10,none⟩ (.string e)):=by
 obtain⟨c,j⟩:=k.a3;exact k.call ⟨⟨c,j.g1 l m⟩,uO j _⟩
def fs{a b:ByteArray}(c:a.data.toList=b.data.toList):a=b:=by
 cases a
 cases b
 simp only[ByteArray.mk.injEq];exact Array.toList_inj.1 c
def GM(a4:bu g a t f b d)(d7:f+10000<=1000000000):Calls prog 82 #[.pointer (some ⟨a,0,none⟩)] d (GP g a t (f+10000) (fO t b) (.tuple #[]) d):=by
 have a7:=Z (iL a4);obtain⟨c,k⟩:=a4;obtain⟨E,M,N,O,P,R,S,a0,a1,F,G,H,I,J,K,a2,a3⟩:=k.am;go_in;go_wp2_with fail;refine aB a7 (kI · b.a1 40) λe3 a8=>?_;go_wp2_with fail;refine aB a8 (cC · 2 [99,111,110,115,116]) λe4 x=>?_;go_wp2_with fail;refine(rm x.j.a3 2 (by omega)).mono ?_;rintro b2 c5 ⟨rfl,c4,u,c3⟩;have y:=Z (x.j.call ⟨c4,u⟩);generalize c0:aH t 2 _=w at *
 obtain⟨h,a6⟩:=w;have D:=Z c0;simp only at y c3;have a9:=Z (y.j.G (oW h));go_wp2_with fail;refine aB a9 (cC · 4 [61]) λe5 b0=>?_;go_wp2_with fail;refine aB b0 (ua · (-2147483648) 4294967295 (by omega)) λe6 z=>?_;have c2:=sh (t:=t) (-2147483648) 4294967295 (ab t 4 [61] a6);generalize c1:aW t (-2147483648) 4294967295 (ab t 4 [61] a6)=w at *
 obtain⟨⟨j,d5⟩,d4⟩:=w;have C:=Z c1;simp only at z c2;go_wp2_with fail;refine aB z (cC · 4 [59]) λe7 p=>?_;generalize b5:ab t 4 [59] d4=l at *
 have B:=Z b5;obtain⟨c,k⟩:=p.j.a3;obtain⟨E,M,N,O,P,R,S,a0,a1,F,G,H,I,J,K,a2,a3⟩:=k.am;by_cases o:l.s.e=0
 .have b8:(l.s.e != 0)=false:=by rw[o];rfl
  have n:U (fO t b=dW ([99,111,110,115,116,32]++h.text++[32,61,32]++bC j++[59,10]) (dB h.text j l)):=by
   show _=_;unfold fO;simp only[D.j,C.j,B.j,o];simp
  go_wp2_with fail;refine(ju j (by omega) (by omega) _).mono ?_;rintro b2 e8 ⟨rfl,u⟩;have A:=Z (p.j.O u);obtain⟨c6,c7,c8,c9,d0,d1,d2,d3⟩:=A.j.am (i:=0) rfl;go_wp2_with fail;refine aB A (Bs · h.text j (by omega)) λe9 q=>?_;obtain⟨c6,c7,c8,c9,d0,d1,d2,d3⟩:=q.j.am (i:=0) rfl;obtain⟨c,k⟩:=q.j.a3;obtain⟨E,M,N,O,P,R,S,a0,a1,F,G,H,I,J,K,a2,a3⟩:=k.am;have b3:=k.b0;unfold ac.sz at b3;have b9:=jA j (by omega) (by omega);unfold bC at b9 n;generalize Lib.itoa j=r at *
  generalize dB h.text j l=m at *
  have d8:¬(9223372036854775807<m.j.length+6):=by omega
  have d9:¬(9223372036854775807<m.j.length+6+h.text.length):=by omega
  have e0:¬(9223372036854775807<m.j.length+6+h.text.length+3):=by omega
  have e1:¬(9223372036854775807<m.j.length+6+h.text.length+3+r.length):=by omega
  have e2:¬(9223372036854775807<m.j.length+6+h.text.length+3+r.length+2):=by omega
  go_wp2;refine cS (λa5=>a5.cell? ⟨a,10,none⟩=some (.string ⟨m.j.toArray⟩)/\a5.cell? ⟨c5.heap.size,1,none⟩=some (.string ⟨h.text.toArray⟩)) (L:=17) (by kernel_rfl) rfl (by kernel_rfl) (by kernel_rfl) ?_ (λd6=>?_)
  .go_keep
  refine bI [0,1,2,3,4,5,6,7,8,9,10,11,12,13,14,15,16] ?_;iterate 17 (refine bP (v:=?_) rfl (by kernel_rfl) (λ_ _ _ b4=>b4) (by kernel_rfl) (by assumption) ?_ ?_;rotate_left;focus (intro d b7;(try dsimp only at b7);go_simp;(try with_reducible rfl));(try simp only[aL,aM,List.set]))
  refine bJ ?_;refine cQ (by kernel_rfl) rfl λb1 b6=>?_;go_simp;refine b6.out _ _ ?_;(try simp only[aL,aM,List.set]);go_end0;rw[n.j];exact⟨rfl,((q.j.g1 (K:=5000) (s:=[99,111,110,115,116,32]++h.text++[32,61,32]++r++[59,10]) (fs (by simp)) (by simp;omega)).a9.a4 (by omega)).fin⟩
 .have b8:(l.s.e != 0)=true:=by simpa using o
  have n:U (fO t b=l):=by
   show _=_;unfold fO;simp only[D.j,C.j,B.j];rw[Y9 o]
  go_wp2;go_end0;rw[n.j];exact⟨rfl,(p.j.a4 (by omega)).fin⟩
end
section
variable {c f : Nat -> Prop} {a d : Nat} {t : List UInt8} {b : ac} {w g : World} {e : PV}
def RG(p:bu c a t d b w)(g8:d+10000<=1000000000):Calls prog 86 #[.pointer (some ⟨a,0,none⟩)] w (GP c a t (d+10000) (gi t b) (.tuple #[]) w):=by
 have d3:=Z (iL p);go_in;go_wp2_with fail;refine aB d3 (cC · 2 [116,121,112,101,100,101,102]) λh5 a7=>?_;go_wp2_with fail;refine(xp a7.j.a3 (names:=[]) (DJ _) (by intro o r;simp[Value.ownBlock]at r) (by simp) true (by omega)).mono ?_;rintro g7 j ⟨rfl,f8,f3,f4,f5,f6⟩;have R:=Z (a7.j.call ⟨f8,f3⟩);generalize e6:bR t [] true (ab t 2 [116,121,112,101,100,101,102] b)=f9 at *
 obtain⟨⟨y,q,K,f⟩,g⟩:=f9;have a9:=Z e6;simp only at R f4 f5 f6;have C:=Z (R.j.G (oW f));obtain⟨e,h⟩:=R.j.a3;obtain⟨b0,b7,b8,b9,c0,c1,c2,a1,c3,b1,b2,b3,b4,b5,b6,c7,e1⟩:=h.am;by_cases u:g.s.e=0
 .have r:(g.s.e != 0)=false:=by rw[u];rfl
  have a0:U (gi t b=dW ([116,121,112,101,100,101,102,32]++q++f.text++K++[59,10]) (ab t 4 [59] { g with F:=g.F++[⟨f.text,1,y,f.w⟩] })):=by
   show _=_;unfold gi;simp only[a9.j,u];simp
  go_wp2;generalize d7:j.alloc (oW f)=k at *
  obtain⟨e,gT,E,h,x⟩:=C.j.a3.sp;obtain⟨b0,b7,b8,b9,c0,c1,c2,a1,c3,b1,b2,b3,b4,b5,b6,c7,g9⟩:=h.am;rw[x]at a1;obtain⟨g0,g1,g2,g3,g4,g5,g6,d2⟩:=C.j.am (i:=0) rfl;obtain⟨f2,d8,e8,e9,f0⟩:=info_parts Bf;have a3:=h.b0;unfold ac.sz at a3;have d9:g.F.length+1<=maxLen:=by unfold maxLen;omega
  have e0:(g.F.length+1)*40<=140737488355328:=by omega
  have f1:(Value.agg #[.string ⟨#[]⟩,.int .i64 0,.int .i64 0,.int .i64 0]).cells.size=4:=by decide
  have e5:∀d1∈hG ⟨f.text,1,y,f.w⟩,d1.oneCell'=true:=by
   intro d1 d0;simp[hG]at d0;rcases d0 with rfl|rfl|rfl|rfl<;>rfl
  have e3:(Value.slice gT g.F.length E).ownBlock≠some a:=by rw[<-x];exact h.nd.n
  have e4:∀o,(Value.slice gT g.F.length E).ownBlock=some o->o<k.heap.size/\o≠j.heap.size:=λo r=>⟨(gK h.F (by rw[x];exact r)).2,λu=>h.b1 o (Y8 (he (by rw[x];exact r))) (by rw[u];exact Ya ⟨_,Yb,rfl⟩)⟩;have e7:=Z (x▸h.F);have m:=Z (Yp x (Yp e3 e4));have D:=Z (λf7=>(((ah [] k).G f7).a9));have I:=Z h;refine cS (λz=>z.cell? ⟨a,8,none⟩=some (.slice gT g.F.length E)/\z.cell? ⟨j.heap.size,1,none⟩=some (.string ⟨f.text.toArray⟩)/\z.cell? ⟨j.heap.size,2,none⟩=some (.int .i64 f.w)) (L:=17) (by kernel_rfl) rfl (by kernel_rfl) (by kernel_rfl) ?_ (λa4=>?_)
  .go_keep
  refine bI [0,1,2,3,4,5,6,7,8,9,10,11] ?_;iterate 12 (refine bP (v:=?_) rfl (by kernel_rfl) (λ_ _ _ F=>F) (by kernel_rfl) (by assumption) ?_ ?_;rotate_left;focus (intro w G;(try dsimp only at G);go_simp;(try with_reducible rfl));(try simp only[aL,aM,List.set]))
  refine bJ ?_;refine ck 12 (by kernel_rfl) rfl λJ l=>?_;go_simp;refine l.out _ _ ?_ (λa4=>?_)
  .go_keep
  (try simp only[aL,aM,List.set]);refine ck 13 (by kernel_rfl) rfl λJ l=>?_;(refine step_append_lies _ (by rfl) _ _ _ (by rfl) 0 119 f2 _ 4 40 underlying59 d8 e8 e9 f0 f1 (by omega) (.slice gT g.F.length E) g.F.length (g.F.flatMap hG) (by rfl) (aY e7.j (D.j _) (by simp)) ⟨k.heap.size,0,none⟩ 1 1 (hG ⟨f.text,1,y,f.w⟩) (by rfl) (by rfl) (World.news_of_block (cs:=(hG ⟨f.text,1,y,f.w⟩).toArray) (t:=119) (fr:=(0,0)) (aK (w:=k) (by simp))) e5 (by omega) d9 e0 (by omega) (k.heap.size+1) (by simp) ?_;intro c5 c4 A c9 M c6 e2;have O:=(I.j.aA (D.j _)).js M m.j.2.1;have i6:A.cell? ⟨a,8,none⟩=some (.slice gT g.F.length E):=(by rw[<-m.j.1];exact aS O rfl);have i7:=cG O;have i8:=aj O;have a6:A.heap[j.heap.size]? = some (oW f):=((M.block _ (by simp;omega) (λa2=>(m.j.2.2 _ a2.symm).2 rfl)).trans (((D.j _).K _ d2 (by simp)).trans (C.j.b8 (i:=0) rfl)));obtain⟨h8,h9,i0,i1,i2,i3,i4,i5⟩:=dY a6;have H:=Z (Yp M (Yp c6 (Yp c9 a6)));clear M c6 c9 O a6);refine l.out _ _ ?_ (λa4=>?_)
  .go_keep
  (try simp only[aL,aM,List.set]);refine bI [14,15,16] ?_;iterate 3 (refine bP (v:=?_) rfl (by kernel_rfl) (λ_ _ _ F=>F) (by kernel_rfl) (by assumption) ?_ ?_;rotate_left;focus (intro w G;(try dsimp only at G);go_simp;(try with_reducible rfl));(try simp only[aL,aM,List.set]))
  refine bJ ?_;refine cQ (by kernel_rfl) rfl λJ l=>?_;go_simp;refine l.out _ _ ?_;(try simp only[aL,aM,List.set]);have c8:=H.j.1;rw[<-m.j.1]at c8;have d5:=Z ((I.j.aA (D.j _)).l6 (m:=⟨f.text,1,y,f.w⟩) c8 H.j.2.2.1 (by rw[m.j.1];exact H.j.2.1.imp id (λa2=>by rw[a2];simp)) e2);have d4:U (Fr (gU c [.obj j.heap.size (oW f)]) k (A.setCell ⟨a,8,none⟩ (.slice (some ⟨c5,0,none⟩) (g.F.length+1) c4))):=by
   have d6:Fr (gU c [.obj j.heap.size (oW f)]) k A:=((iN _ k).c7 (D.j _) (by simp)).c7 (eL H.j.1) (λP N a5=>absurd a5 (I.j.b1 P (Y8 (he (by rw[m.j.1];simpa using N)))));exact d6.c7 ((ah [a] A).a6 (p:=⟨a,8,none⟩) (by simp) _) (λP N a5=>absurd a5 (I.j.b1 P (Y8 (by simp only[Yc]at N;rw[N];simp[PV.b7]))))
  have a8:=Z (C.j.call ⟨⟨_,d5.j⟩,d4.j⟩);generalize d7:A.setCell ⟨a,8,none⟩ (.slice (some ⟨c5,0,none⟩) (g.F.length+1) c4)=h6 at a8 ⊢;go_wp2_with fail;refine aB a8 (cC · 4 [59]) λh7 S=>?_;generalize ab t 4 [59] { g with F:=g.F++[⟨f.text,1,y,f.w⟩] } = B at *
  obtain⟨g0,g1,g2,g3,g4,g5,g6,d2⟩:=S.j.am (i:=0) rfl;obtain⟨e,h⟩:=S.j.a3;obtain⟨b0,b7,b8,b9,c0,c1,c2,a1,c3,b1,b2,b3,b4,b5,b6,c7,e1⟩:=h.am;have a3:=h.b0;unfold ac.sz at a3;have h0:¬(9223372036854775807<B.j.length+8):=by omega
  have h1:¬(9223372036854775807<B.j.length+8+q.length):=by omega
  have h2:¬(9223372036854775807<B.j.length+8+q.length+f.text.length):=by omega
  have h3:¬(9223372036854775807<B.j.length+8+q.length+f.text.length+K.length):=by omega
  have h4:¬(9223372036854775807<B.j.length+8+q.length+f.text.length+K.length+2):=by omega
  go_wp2;refine cS (λz=>z.cell? ⟨a,10,none⟩=some (.string ⟨B.j.toArray⟩)/\z.cell? ⟨j.heap.size,1,none⟩=some (.string ⟨f.text.toArray⟩)) (L:=18) (by kernel_rfl) rfl (by kernel_rfl) (by kernel_rfl) ?_ (λa4=>?_)
  .go_keep
  refine bI [0,1,2,3,4,5,6,7,8,9,10,11,12,13,14,15,16,17] ?_;iterate 18 (refine bP (v:=?_) rfl (by kernel_rfl) (λ_ _ _ F=>F) (by kernel_rfl) (by assumption) ?_ ?_;rotate_left;focus (intro w G;(try dsimp only at G);go_simp;(try with_reducible rfl));(try simp only[aL,aM,List.set]))
  refine bJ ?_;refine cQ (by kernel_rfl) rfl λJ l=>?_;go_simp;refine l.out _ _ ?_;(try simp only[aL,aM,List.set]);go_end0;rw[a0.j];exact⟨rfl,((S.j.g1 (K:=5000) (s:=[116,121,112,101,100,101,102,32]++q++f.text++K++[59,10]) (fs (by simp)) (by simp;omega)).a9.a4 (by omega)).fin⟩
 .have r:(g.s.e != 0)=true:=by simpa using u
  have a0:U (gi t b=g):=by
   show _=_;unfold gi;simp only[a9.j];rw[Y9 u]
  go_wp2;go_end0;rw[a0.j];exact⟨rfl,(C.j.a4 (by omega)).fin⟩
end
section
variable {g r : Nat -> Prop} {e h n : Nat} {c : List UInt8} {d p : ac} {f k o j l : World} {q : PV} {b : List Th} {i : Nat} {a m : Th}
def uZ{b:List Th}{i a:Nat}{c:Th}(e:a≠i)(d:b[a]? = some c):c∈b.eraseIdx i:=List.mem_eraseIdx_iff_getElem?.2 ⟨a,e,d⟩
def aE.h3(q:aE g e c h d b k f)(p:b[i]? = some a):aE (gU g (b.eraseIdx i)) e c h d [a] f f:=by
 refine⟨q.a3.cc ?_,iN _ _,?_,?_,?_⟩
 .rintro r (l|⟨m,j,l⟩)
  .rcases l with l|⟨m,j,l⟩
   .exact Y8 l
   .exact Ya ⟨m,List.mem_of_mem_eraseIdx j,l⟩
  .simp at j;subst j;exact Ya ⟨m,Yh p,l⟩
 .intro m j;simp at j;subst j;exact q.w m (Yh p)
 .intro m j r l o;simp at j;subst j;rcases o with o|⟨s,n,o⟩
  .exact q.aQ m (Yh p) r l o
  .obtain⟨t,x,n⟩:=List.mem_eraseIdx_iff_getElem?.1 n;exact q.c8 i t m s (λu=>x u.symm) p n r l o
 .intro t z m s y j n;have v:=(YB.1 j).1;have w:=(YB.1 n).1;simp at v w;omega
def aE.c7(C:aE g e c h d b k f)(M:b[i]? = some a)(r:aE (gU g (b.eraseIdx i)) e c n p [m] f o):aE g e c n p (b.set i m) k o:=by
 have N:=(YB.1 M).1;have w:m∈[m]:=by simp
 have A:∀(l:Nat) (j:Th),(b.set i m)[l]? = some j->(l=i/\j=m)\/(l≠i/\b[l]? = some j):=by
  intro l j s;rw[YP]at s;split at s
  .rename_i r;simp[N]at s;exact Y8 ⟨r.symm,s.symm⟩
  .rename_i r;exact Ya ⟨λL=>r L.symm,s⟩
 have H:∀j∈b.set i m,j=m\/∃l,l≠i/\b[l]? = some j:=by
  intro j q;obtain⟨l,s⟩:=List.getElem?_of_mem q;rcases A l j s with⟨_,r⟩|⟨E,z⟩
  .exact Y8 r
  .exact Ya ⟨l,E,z⟩
 refine⟨r.a3.cc ?_,C.fr.u (r.fr.cc λ_ _ B=>Y8 B),?_,?_,?_⟩
 .rintro D (t|⟨j,q,t⟩)
  .exact Y8 (Y8 t)
  .rcases H j q with rfl|⟨l,s,q⟩
   .exact Ya ⟨j,w,t⟩
   .exact Y8 (Ya ⟨j,uZ s q,t⟩)
 .intro j q;rcases H j q with rfl|⟨l,s,q⟩
  .exact r.w j w
  .exact(C.w j (Yh q)).fr r.fr λy x=>Ya ⟨j,uZ s q,x⟩
 .intro j q D t B;rcases H j q with rfl|⟨l,s,q⟩
  .exact r.aQ j w D t (Y8 B)
  .exact C.aQ j (Yh q) D t B
 .intro l I j u K q J y x G;rcases A l j q with⟨rfl,rfl⟩|⟨E,z⟩
  .rcases A I u J with⟨v,_⟩|⟨v,F⟩
   .exact K v.symm
   .exact r.aQ j w y x (Ya ⟨u,uZ v F,G⟩)
  .rcases A I u J with⟨v,rfl⟩|⟨v,F⟩
   .exact r.aQ u w y G (Ya ⟨j,uZ E z,x⟩)
   .exact C.c8 l I j u K z F y x G
def aE.bZ{m:TypeId}{p C n a r q:Nat}{v:Value}{D u:List Value}(B:aE g e c h d b k f)(z:b[i]? = some (.row m p v C D))(t:ai [] f j)(A:l.ownsRow 0 m p (.slice (some ⟨a,0,none⟩) n r) n u)(o:j.grownBy l v.ownBlock)(x:v.ownBlock=some a\/a=q)(E:j.heap.size=q):aE g e c h d (b.set i (.row m p (.slice (some ⟨a,0,none⟩) n r) n u)) k l:=by
 have F:=t.a2;refine(B.O t).b6 z (eL o) (λa o=>by simpa[Th.ch]using o) A ?_;intro w y;have m:w=a:=by simpa[Th.ch,ea]using y.symm
 subst m;rcases x with s|s
 .exact Y8 s
 .right;omega
def aE.j7{m o n:Nat}{v:Value}{a:List Int}{p:Int}(x:aE g e c h d b k f)(t:b[i]? = some (cW v a))(u:ai [] f j)(w:l.ownsRow 0 3 1 (.slice (some ⟨m,0,none⟩) (a.length+1) o) (a.length+1) (a.map (Value.int .i64)++[.int .i64 p]))(s:j.grownBy l v.ownBlock)(r:v.ownBlock=some m\/m=n)(q:j.heap.size=n):aE g e c h d (b.set i (cW (.slice (some ⟨m,0,none⟩) (a.length+1) o) (a++[p]))) k l:=by
 have:=x.bZ t u w s r q;simpa[cW]using this
def aE.h8{m o n:Nat}{v:Value}{a:List (List UInt8)}{p:List UInt8}(x:aE g e c h d b k f)(t:b[i]? = some (bE v a))(u:ai [] f j)(w:l.ownsRow 0 9 1 (.slice (some ⟨m,0,none⟩) (a.length+1) o) (a.length+1) ((a.map λy=>Value.string ⟨y.toArray⟩)++[.string ⟨p.toArray⟩]))(s:j.grownBy l v.ownBlock)(r:v.ownBlock=some m\/m=n)(q:j.heap.size=n):aE g e c h d (b.set i (bE (.slice (some ⟨m,0,none⟩) (a.length+1) o) (a++[p]))) k l:=by
 have:=x.bZ t u w s r q;simpa[bE]using this
def oy:(prog.info? 3).map (λi=>(i.zero,i.size,i.bytes))=some (some (.int .i64 0),1,8):=by kernel_rfl
def pO:(prog.info? 9).map (λi=>(i.zero,i.size,i.bytes))=some (some (.string ⟨#[]⟩),1,16):=by kernel_rfl
def Db(n:bu g e c h d f)(l:h<=1000000000):Calls prog 215 #[.pointer (some ⟨e,0,none⟩)] f (GP g e c (h+1) (eC c d).2 (.tuple #[.int .i64 (eC c d).1.1,.string ⟨(eC c d).1.2.toArray⟩]) f):=by
 have a:=Z (iL n);go_in;go_wp2_with fail;refine(gd a.j.a3 2 [118,111,105,100]).mono ?_;rintro o r ⟨rfl,rfl⟩;cases k:ay d 2 [118,111,105,100]with
 |true=>
  have i:U (eC c d=((-1,[118,111,105,100]),aJ c d)):=by show _=_;unfold eC;rw[Y9 k]
  go_wp2_with fail;refine aB a (gJ ·) λj b=>?_;go_wp2;go_ret2;rw[i.j];exact⟨rfl,(b.j.a4 (by omega)).fin⟩
 |false=>
  have i:U (eC c d=ci c d):=by show _=_;unfold eC;rw[Y2 (by simp[k])]
  go_wp2_with fail;refine aB a (Bq · l) λj b=>?_;generalize ci c d=m at *
  obtain⟨⟨q,p⟩,s⟩:=m;go_wp2;go_ret2;rw[i.j];exact⟨rfl,b.j.fin⟩
end
section
variable {g m : Nat -> Prop} {f d k : Nat} {t : List UInt8} {h q : ac} {w j b p c : World} {l : PV} {L : List Th} {i : Nat} {a o : Th}
def aE.b9(c:aE g f t d h L j w)(b:L[i]? = some a):a.At w:=c.w _ (Yh b)
def qX{b:Nat}(d:L[i]? = some a)(c:a.ch=some b):gU g L b:=Ya ⟨a,Yh d,c⟩
def NJ{b:Func}{Q:Ending->World->Prop}{a:Act}{R i0 i1:Nat}{v0:Value}{x:ef}(i:b.results=#[.tmp i0,.cell i1 112])(c:a.tmps.getD i0 undef=v0)(e:a.tmps.getD i1 undef=.pointer (some ⟨R,0,none⟩))(g:a.defers=[])(p:w.heap[R]? = some (oW x))(h:Q (.returned (.tuple #[v0,.agg (du x)])) w):bodyPost prog b Q .ret a w:=by
 refine bodyPost_ret (v:=.tuple #[v0,.agg (du x)]) ?_ g h;unfold results;rw[i];obtain⟨j,k,l,m,n,o,q,r⟩:=dY p;have d:a.tmps[i0]?.getD undef=v0:=by simpa using c
 have f:a.tmps[i1]?.getD undef=.pointer (some ⟨R,0,none⟩):=by simpa using e
 simp[d,f,go_sem,j,k,l,m,n,o]
def EF(g:Nat->Prop)(f:Nat)(t:List UInt8)(d:Nat)(h:List (List UInt8))(a:ef×ac)(w:World)(e:Ending)(b:World):Prop:=∃c,e=.returned (.tuple #[c,.agg (du a.1)])/\aE g f t d a.2 [bE c (h++[a.1.text])] w b/\a.1.text.length<=2000
def zV{v:Value}{names:List (List UInt8)}(H:aE g f t d h [bE v names] w w)(N:names.length<=1000000)(K:d<=1000000000):Calls prog 214 #[.pointer (some ⟨f,0,none⟩),v] w (EF g f t d names (bW t names false h) w):=by
 obtain⟨gT,A,rfl⟩:=bY (H.w _ Yb);have o:=Z (H.G (oW cd));go_in;go_wp2_with fail;refine(tF o.j.a3 (names:=names) (o.j.b9 (i:=1) rfl) (λa9 j=>qX (i:=1) rfl j) N false K).mono ?_;rintro b0 c ⟨rfl,a7,a5,G⟩;have s:=Z (o.j.call ⟨a7,a5⟩);generalize b2:bW t names false h=a8 at *
 obtain⟨a,e6⟩:=a8;simp only at s G;have m:=Z (s.j.G (oW a));go_wp2;generalize b1:c.alloc (oW a)=l at *
 obtain⟨d8,d9,e0,e1,e2,e3,e4,e5⟩:=m.j.am (i:=0) rfl;obtain⟨b3,b4,b5,b6,b7,b8,b9,c0⟩:=m.j.am (i:=1) (R:=w.heap.size) (x:=cd) rfl;obtain⟨F,M,a1,a2,a3⟩:=info_parts pO;have a4:(Value.string ⟨#[]⟩).cells.size=1:=rfl;have a0:U (l.ownsRow 0 9 1 (.slice gT names.length A) names.length (names.map λr=>Value.string ⟨r.toArray⟩)):=Z (m.j.b9 (i:=2) rfl);have x:=Z (λa6=>(((ah [] l).G a6).a9));have O:names.length+1<=maxLen:=by unfold maxLen;omega
 have P:(names.length+1)*16<=140737488355328:=by omega
 refine cS (λb=>b.cell? ⟨c.heap.size,0,none⟩=some (.int .i64 a.H)/\b.cell? ⟨c.heap.size,1,none⟩=some (.string ⟨a.text.toArray⟩)/\b.cell? ⟨c.heap.size,2,none⟩=some (.int .i64 a.w)/\b.cell? ⟨c.heap.size,3,none⟩=some (.int .i64 a.fin)/\b.cell? ⟨c.heap.size,4,none⟩=some (.int .i64 a.n)/\b.cell? ⟨c.heap.size,5,none⟩=some (.int .i64 a.e)) (L:=7) (by kernel_rfl) rfl (by kernel_rfl) (by kernel_rfl) ?_ (λB=>?_)
 .go_keep
 refine bI [0,1,2,5] ?_;iterate 4 (refine bP (v:=?_) rfl (by kernel_rfl) (λ_ _ _ j=>j) (by kernel_rfl) (by assumption) ?_ ?_;rotate_left;focus (intro w q;(try dsimp only at q);go_simp;(try with_reducible rfl));(try simp only[aL,aM,List.set]))
 refine bJ ?_;refine ck 3 (by kernel_rfl) rfl λz k=>?_;go_simp;refine k.out _ _ ?_ (λB=>?_)
 .go_keep
 (try simp only[aL,aM,List.set]);refine ck 4 (by kernel_rfl) rfl λz k=>?_;(refine step_append_lies _ (by rfl) _ _ _ (by rfl) 0 9 F _ 1 16 underlying30 M a1 a2 a3 a4 (by omega) (.slice gT names.length A) names.length (names.map λr=>Value.string ⟨r.toArray⟩) (by rfl) (aY a0.j (x.j _) (by simp)) ⟨l.heap.size,0,none⟩ 1 1 [.string ⟨a.text.toArray⟩] (by rfl) (by rfl) (World.news_of_block (cs:=#[.string ⟨a.text.toArray⟩]) (t:=9) (fr:=(0,0)) (aK (w:=l) (by simp))) (by simp[Value.oneCell']) (by omega) O P (by omega) (l.heap.size+1) (by simp) ?_;intro J I c9 E D C S;have p:=Z (m.j.h8 (i:=2) rfl (x.j _) E D C (by simp));obtain⟨d0,d1,d2,d3,d4,d5,d6,d7⟩:=p.j.am (i:=0) rfl;obtain⟨c1,c2,c3,c4,c5,c6,c7,c8⟩:=p.j.am (i:=1) (R:=w.heap.size) (x:=cd) rfl;clear E D C S);refine k.out _ _ ?_ (λB=>?_)
 .go_keep
 (try simp only[aL,aM,List.set]);refine tk (i:=6) (v:=?_) rfl (by kernel_rfl) (λ_ _ _ j=>j) (by kernel_rfl) (by assumption) ?_ ?_;rotate_left
 .intro w q;(try dsimp only at q);go_simp;(try with_reducible rfl)
 (try simp only[aL,aM,List.set]);refine cQ (by kernel_rfl) rfl λz k=>?_;go_simp;refine k.out _ _ ?_;(try simp only[aL,aM,List.set]);go_wp2;have u:=Z (p.j.dN (i:=1) (R:=w.heap.size) (y:=cd) rfl a);refine NJ (i0:=4) (i1:=5) (R:=w.heap.size) (x:=a) (v0:=.slice (some ⟨J,0,none⟩) (names.length+1) I) ?_ ?_ ?_ ?_ ?_ ?_
 .rfl
 .rfl
 .rfl
 .rfl
 .exact u.j.b8 (i:=1) rfl
 .exact⟨_,rfl,u.j.bo.bo,G⟩
end
section
variable {c r : Nat -> Prop} {h f q : Nat} {t : List UInt8} {a k : ac} {b x d m o : World} {j : PV} {p : List Th} {i : Nat} {u w : Th}
def No(c b d:Int)(a:ac):(ei t c b d a).2.aa=a.aa:=by
 unfold ei;split<;>rfl
def Ee(c b:Int)(a:ac):(aW t c b a).2.aa=a.aa:=by
 unfold aW;repeat' split
 all_goals first|rfl|exact No _ _ _ _
structure nQ(v:Value)(l:List Int)(n:Int)(g cap:Nat)(w5 d:World):Prop where
 q7:∃w6,ai [] w5 w6/\w6.grownBy d v.ownBlock/\(v.ownBlock=some g\/g=w6.heap.size)
 ax:d.ownsRow 0 3 1 (.slice (some ⟨g,0,none⟩) (l.length+1) cap) (l.length+1) (l.map (Value.int .i64)++[.int .i64 n])
 lt:g<d.heap.size
def zB(c:Nat->Prop)(h:Nat)(t:List UInt8)(f:Nat)(j:PV)(v:Value)(k:List Int)(a:Int×ac)(b:World)(l:Ending)(d:World):Prop:=∃e i g,l=.returned (.tuple #[.slice (some ⟨i,0,none⟩) (k.length+1) g,.int .i64 a.1])/\bg c h t f a.2 j e/\Fr c b e/\nQ v k a.1 i g e d
def Md(b9:bg c h t f a j b){v:Value}{l:List Int}(a8:dR v l b)(P:(∀a6,v.ownBlock=some a6->c a6)\/(v=j.gv/\l=a.aa))(d7:l.length<=1000000)(b6:f<=1000000000):Calls prog 147 #[.pointer (some ⟨h,0,none⟩),v] b (zB c h t f j v l (bD t l a) b):=by
 have L:U (∀k d,bg c h t f k j d->k.aa=a.aa->Fr c b d->dR v l d):=Z (λk d b3 b4 b5=>by
  rcases P with P|⟨b0,b1⟩
  .exact oD a8 b5 P
  .rw[b0,b1,<-b4];exact b3.aa)
 obtain⟨gT,u,rfl⟩:=bY a8;obtain⟨a2,O,R,S,a0⟩:=info_parts oy;have a1:(Value.int .i64 0).cells.size=1:=rfl;have a3:=Z (Yp b9 (iN c b));go_in;go_wp2_with fail;refine(oV a3.j.1 4 [61]).mono ?_;rintro F m ⟨rfl,r,p⟩;have a4:=Z (Yp r (a3.j.2.u p));go_wp2_with fail;refine(zl a4.j.1 0 4294967295 b6).mono ?_;rintro F o ⟨rfl,r,p⟩;have w:=Z (Yp r (a4.j.2.u p));have G:=Ee (t:=t) 0 4294967295 (ab t 4 [61] a);generalize b8:aW t 0 4294967295 (ab t 4 [61] a)=c0 at *
 obtain⟨⟨n,a5⟩,E⟩:=c0;have N:=Z b8;simp only at w G;change E.aa=a.aa at G;have a9:=Z (tf (L.j _ _ w.j.1 G w.j.2).ct (by omega) n);go_wp2_with fail;refine a9.j.mono ?_;rintro F e0 ⟨rfl,rfl⟩;obtain⟨c1,c8,c9,d0,d1,d2,d3,d4,d5,c2,c3,c4,c5,c6,c7,d6,d8⟩:=w.j.1.am;by_cases M:E.s.e=0
 .have b7:(E.s.e==0)=true:=by rw[M];rfl
  cases a7:l.contains n with
  |true=>
   have H:U (bD t l a=(n,ab t 4 [59] (bp 6 a5 E))):=by
    show _=_;unfold bD;simp only[N.j,a7,M];simp
   go_wp2_with fail;refine(kH w.j.1 6 a5).mono ?_;rintro F d9 ⟨rfl,r,p⟩;have x:=Z (Yp r (w.j.2.u p));go_wp2_with fail;refine(oV x.j.1 4 [59]).mono ?_;rintro F g ⟨rfl,r,p⟩;have i:=Z (Yp r (x.j.2.u p));have J:U (∀q,(g.alloc q).ownsRow 0 3 1 (.slice gT l.length u) l.length (l.map (Value.int .i64))):=Z (λq=>aY (L.j _ _ i.j.1 G i.j.2) ((ah [] g).G q) (by simp));go_wp2_with (at_builtin;go_must (refine wpList_append_lies _ (by rfl) _ _ _ (by rfl) 0 3 a2 _ 1 8 underlying24 O R S a0 a1 (by omega) (.slice gT l.length u) l.length (l.map (Value.int .i64)) (by rfl) (J.j _) ⟨g.heap.size,0,none⟩ 1 1 [.int .i64 n] (by rfl) (by rfl) (World.news_of_block (cs:=#[.int .i64 n]) (t:=3) (fr:=(0,0)) (heap_alloc_new g _)) (by simp[Value.oneCell']) (by omega) (by unfold maxLen;omega) (by omega) (by simp) (g.heap.size+1) (by simp) ?_;intro z y K D B A C;have I:U (nQ (.slice gT l.length u) l n z y g K):=Z ⟨⟨_,(ah [] g).G _,B,by simpa using A⟩,D,C⟩;clear D B A C));go_ret2;rw[H.j];exact⟨g,z,y,rfl,i.j.1,i.j.2,I.j⟩
  |false=>
   have H:U (bD t l a=(n,ab t 4 [59] E)):=by
    show _=_;unfold bD;simp only[N.j,a7];simp
   have x:=w;go_wp2_with fail;refine(oV x.j.1 4 [59]).mono ?_;rintro F g ⟨rfl,r,p⟩;have i:=Z (Yp r (x.j.2.u p));have J:U (∀q,(g.alloc q).ownsRow 0 3 1 (.slice gT l.length u) l.length (l.map (Value.int .i64))):=Z (λq=>aY (L.j _ _ i.j.1 G i.j.2) ((ah [] g).G q) (by simp));go_wp2_with (at_builtin;go_must (refine wpList_append_lies _ (by rfl) _ _ _ (by rfl) 0 3 a2 _ 1 8 underlying24 O R S a0 a1 (by omega) (.slice gT l.length u) l.length (l.map (Value.int .i64)) (by rfl) (J.j _) ⟨g.heap.size,0,none⟩ 1 1 [.int .i64 n] (by rfl) (by rfl) (World.news_of_block (cs:=#[.int .i64 n]) (t:=3) (fr:=(0,0)) (heap_alloc_new g _)) (by simp[Value.oneCell']) (by omega) (by unfold maxLen;omega) (by omega) (by simp) (g.heap.size+1) (by simp) ?_;intro z y K D B A C;have I:U (nQ (.slice gT l.length u) l n z y g K):=Z ⟨⟨_,(ah [] g).G _,B,by simpa using A⟩,D,C⟩;clear D B A C));go_ret2;rw[H.j];exact⟨g,z,y,rfl,i.j.1,i.j.2,I.j⟩
 .have b7:(E.s.e==0)=false:=by rw[Yi];exact M
  have H:U (bD t l a=(n,ab t 4 [59] E)):=by
   show _=_;unfold bD;simp only[N.j];rw[Y2 (λb2=>M b2.1)]
  have x:=w;go_wp2_with fail;refine(oV x.j.1 4 [59]).mono ?_;rintro F g ⟨rfl,r,p⟩;have i:=Z (Yp r (x.j.2.u p));have J:U (∀q,(g.alloc q).ownsRow 0 3 1 (.slice gT l.length u) l.length (l.map (Value.int .i64))):=Z (λq=>aY (L.j _ _ i.j.1 G i.j.2) ((ah [] g).G q) (by simp));go_wp2_with (at_builtin;go_must (refine wpList_append_lies _ (by rfl) _ _ _ (by rfl) 0 3 a2 _ 1 8 underlying24 O R S a0 a1 (by omega) (.slice gT l.length u) l.length (l.map (Value.int .i64)) (by rfl) (J.j _) ⟨g.heap.size,0,none⟩ 1 1 [.int .i64 n] (by rfl) (by rfl) (World.news_of_block (cs:=#[.int .i64 n]) (t:=3) (fr:=(0,0)) (heap_alloc_new g _)) (by simp[Value.oneCell']) (by omega) (by unfold maxLen;omega) (by omega) (by simp) (g.heap.size+1) (by simp) ?_;intro z y K D B A C;have I:U (nQ (.slice gT l.length u) l n z y g K):=Z ⟨⟨_,(ah [] g).G _,B,by simpa using A⟩,D,C⟩;clear D B A C));go_ret2;rw[H.j];exact⟨g,z,y,rfl,i.j.1,i.j.2,I.j⟩
def EK(c:Nat->Prop)(h:Nat)(t:List UInt8)(f:Nat)(i:List Int)(a:Int×ac)(b:World)(g:Ending)(d:World):Prop:=∃e,g=.returned (.tuple #[e,.int .i64 a.1])/\aE c h t f a.2 [cW e (i++[a.1])] b d
def ys{v:Value}{l:List Int}(d:aE c h t f a [cW v l] b b)(p:l.length<=1000000)(n:f<=1000000000):Calls prog 147 #[.pointer (some ⟨h,0,none⟩),v] b (EK c h t f l (bD t l a) b):=by
 obtain⟨j,o⟩:=d.a3;refine(Md o (v:=v) (l:=l) (d.b9 (i:=0) rfl) (Y8 λu m=>qX (i:=0) rfl m) p n).mono ?_;rintro x C ⟨A,y,w,rfl,s,g,⟨B,q,k,e⟩,r,z⟩;exact⟨_,rfl,(d.call ⟨⟨j,s⟩,g⟩).j7 (i:=0) rfl q r k e rfl⟩
end
section
variable {e j : Nat -> Prop} {c d h : Nat} {f : List UInt8} {σ t : ac} {b o m p q : World} {a : PV} {g : List Th} {i : Nat} {k l : Th}
def bG(σ:ac):Prop:=∀a∈σ.F,a.bb=1->0<=a.n/\a.n<σ.y.length
def tO{a:PV}(m:bg e c f d σ a b){i:Nat}(u:i<σ.y.length):∃g p o,a.rv=.slice (some ⟨g,0,none⟩) σ.y.length p/\a.ls[i]? = some o/\b.cell? ⟨g,i*8,none⟩=some (.int .i64 (σ.y.getD i cT).H)/\b.cell? ⟨g,i*8+1,none⟩=some (.int .i64 (σ.y.getD i cT).n)/\b.cell? ⟨g,i*8+2,none⟩=some (.int .i64 (σ.y.getD i cT).of)/\b.cell? ⟨g,i*8+3,none⟩=some o.1/\b.cell? ⟨g,i*8+4,none⟩=some o.2/\b.cell? ⟨g,i*8+5,none⟩=some (.int .i64 (σ.y.getD i cT).gz)/\b.cell? ⟨g,i*8+6,none⟩=some (.string ⟨(σ.y.getD i cT).ca.toArray⟩)/\b.cell? ⟨g,i*8+7,none⟩=some (.int .i64 (σ.y.getD i cT).w)/\(∀i,b.frozen? ⟨g,i,none⟩=false)/\g<b.heap.size/\g≠c:=by
 have D:i<a.ls.length:=by rw[m.bc];exact u
 have z:σ.y[i]? = some (σ.y.getD i cT):=by simp[u]
 have t:a.ls[i]? = some a.ls[i]:=Yd D;have y:(σ.y.zip a.ls)[i]? = some (σ.y.getD i cT,a.ls[i]):=by rw[List.getElem?_zip_eq_some];exact⟨z,t⟩
 have o:=λh k=>ry (f:=λm:be×(Value×Value)=>kP m.1 m.2) (k:=8) (λ_=>rfl) (σ.y.zip a.ls) i h k;have w:=m.y;unfold mv at w;have q:=λh k (v:Value) (l:(kP (σ.y.getD i cT) a.ls[i])[h]? = some v)=>kf w (x:=v) (o h k |>.trans (by rw[y];exact l));obtain⟨g,p,l,I,C,E⟩:=q 0 (by omega) _ rfl;have j:∀h (k:h<8) (v:Value) (l:(kP (σ.y.getD i cT) a.ls[i])[h]? = some v),b.cell? ⟨g,i*8+h,none⟩=some v:=by
  intro h k v F;obtain⟨H,G,s,A,_⟩:=q h k v F;rw[l]at s;simp at s;rw[s.1];exact A
 exact⟨g,p,a.ls[i],l,t,j 0 (by omega) _ rfl,j 1 (by omega) _ rfl,j 2 (by omega) _ rfl,j 3 (by omega) _ rfl,j 4 (by omega) _ rfl,j 5 (by omega) _ rfl,j 6 (by omega) _ rfl,j 7 (by omega) _ rfl,C,E,λB=>m.nd.r (by rw[l,B];rfl)⟩
def yg(a:0<=bA σ σ.s.x.text):bO σ∈σ.F:=by
 have:=rx a;unfold bO;simp[this]
end
section
variable {k m : Nat -> Prop} {d g l : Nat} {b : List UInt8} {σ r : ac} {c q a j f : World} {h : PV} {L : List Th} {i : Nat} {o p : Th}
def LY(d7:bu k d b g σ c)(ok:bG σ)(e6:g<=1000000000)(C:σ.s.e=0/\σ.s.x.H=1):Calls prog 151 #[.pointer (some ⟨d,0,none⟩)] c (GP k d b g (bS b σ).2 (.tuple #[.int .i64 (bS b σ).1.1,.string ⟨(bS b σ).1.2.toArray⟩]) c):=by
 have c6:=Z C;clear C;have a7:=Z ((iL d7).G (oW σ.s.x));obtain⟨h,t⟩:=d7;obtain⟨I,R,S,a0,a1,a2,G,r,a3,J,K,M,N,O,P,H,e8⟩:=t.am;have e9:=yg (σ:=σ);clear t G r a3 J M N O P;go_in;go_wp2;generalize e7:c.alloc (oW σ.s.x)=j at *
 clear e7 I R S a0 a1 a2 K H e8;obtain⟨h,gT,e4,t,c4⟩:=a7.j.a3.sp;have c0:=Z (ox (t.aA (ah [] j).a9) e6 σ.s.x.text);rw[c4]at c0;obtain⟨I,R,S,a0,a1,a2,G,r,a3,J,K,M,N,O,P,H,b0⟩:=t.am;rw[c4]at r;obtain⟨b2,b3,b4,b5,b6,b7,b8,b9⟩:=a7.j.am (i:=0) rfl;clear I R S a0 a1 a2 G a3 J K M N O P t;refine cS (λa=>a.cell? ⟨d,8,none⟩=some (.slice gT σ.F.length e4)/\a.cell? ⟨c.heap.size,1,none⟩=some (.string ⟨σ.s.x.text.toArray⟩)) (L:=8) (by kernel_rfl) rfl (by kernel_rfl) (by kernel_rfl) ?_ (λy=>?_)
 .go_keep
 refine bI [0,1,2,3,4,5,6] ?_;iterate 7 (refine bP (v:=?_) rfl (by kernel_rfl) (λ_ _ _ l=>l) (by kernel_rfl) (by assumption) ?_ ?_;rotate_left;focus (intro c D;(try dsimp only at D);go_simp;(try with_reducible rfl));(try simp only[aL,aM,List.set]))
 refine bJ ?_;refine ck 7 (by kernel_rfl) rfl λw m=>?_;(go_simp;refine c0.j.mono ?_;rintro f9 f ⟨rfl,rfl⟩);refine m.out _ _ ?_ (λy=>?_)
 .go_keep
 clear m w;(try simp only[aL,aM,List.set]);refine cQ (by kernel_rfl) rfl λw m=>?_;go_simp;refine m.out _ _ ?_;clear m w;(try simp only[aL,aM,List.set]);have z:=Z a7.j.a9;clear a7 c0 y b2 b3 b4 b5 b6 b7 b8 b9 r H b0 c4;generalize j.drew=f at z ⊢;obtain⟨h,t⟩:=z.j.a3;obtain⟨I,R,S,a0,a1,a2,G,r,a3,J,K,M,N,O,P,H,b0⟩:=t.am;obtain⟨b2,b3,b4,b5,b6,b7,b8,b9⟩:=z.j.am (i:=0) rfl;clear I R S a0 a1 a2 a3 J M N O P;have c5:=Z t;clear t;have C:=c6.j;clear c6;have a8:U (bS b σ=if bA σ σ.s.x.text<0\/(bO σ).bb≠1\/(fF σ (bO σ).n).H≠5 then ((0,[]),bp 7 σ.s.x.w σ)else (((bO σ).n,σ.s.x.text),aJ b σ)):=by show _=_;unfold bS;rw[Y9 C]
 have g3:(σ.s.e==0)=true:=by rw[C.1];rfl
 have g4:((σ.s.x.H:Int)==1)=true:=by rw[C.2];rfl
 clear C;by_cases d0:bA σ σ.s.x.text<0
 .have B:U (bS b σ=((0,[]),bp 7 σ.s.x.w σ)):=by show _=_;rw[a8.j,Y9 (Y8 d0)]
  go_wp2;go_region;have A:=Z z.j.a9;go_wp2_with fail;refine aB A (iV · 7 σ.s.x.w) λb1 u=>?_;go_wp2;go_ret2;rw[B.j];exact⟨rfl,u.j.fin⟩
 .have d4:=rx (by omega:0<=bA σ σ.s.x.text);obtain⟨a4,c7,f1,-,d8,a6,-,d9,e0,g5⟩:=oC c5.j d4;change f.cell? _=some (.int .i64 (bO σ).bb)at d8;change f.cell? _=some (.int .i64 (bO σ).n)at a6;rw[f1]at r;have c3:=ok _ (e9 (by omega));have e1:=Z d4;generalize d2:bA σ σ.s.x.text=q at *
  obtain⟨q,rfl⟩:∃o:Nat,q=o:=⟨q.toNat,by omega⟩;simp only[Int.toNat_natCast]at *
  have g7:(q:Int)<(σ.F.length:Int):=by omega
  have g6:decide ((q:Int)<0)=false:=by simp
  have e3:=Z d2;clear d2 d0;by_cases E:(bO σ).bb=1
  .have f2:((bO σ).bb != 1)=false:=by rw[E];rfl
   obtain⟨f3,f4⟩:=c3 E;obtain⟨o,a5⟩:∃o:Nat,(bO σ).n=o:=⟨(bO σ).n.toNat,by omega⟩;obtain⟨c9,e5,g9,f0,-,f5,-,-,-,-,-,-,-,f6,f7,g8⟩:=tO c5.j (i:=o) (by omega);rw[a5]at a6 f4;rw[f0]at G;have d5:fF σ (bO σ).n=σ.y.getD o cT:=by unfold fF;rw[a5];rfl
   generalize d3:(σ.y.getD o cT).H=F at *
   have e2:=Z a5;have a9:U (bS b σ=if F≠5 then ((0,[]),bp 7 σ.s.x.w σ)else (((o:Int),σ.s.x.text),aJ b σ)):=by
    show _=_;rw[a8.j,d5,d3,a5];by_cases p:F=5
    .rw[Y2 (by rintro(l|l|l);omega;exact l E;exact l p),Y2 (by simpa using p)]
    .rw[Y9 (Ya (Ya p)),Y9 p]
   clear E a5 d5 c3 f3 d3 a8;go_wp2;refine cS (λa=>a.cell? ⟨d,8,none⟩=some (.slice (some ⟨a4,0,none⟩) σ.F.length c7)/\a.cell? ⟨d,7,none⟩=some (.slice (some ⟨c9,0,none⟩) σ.y.length e5)/\a.cell? ⟨a4,q*4+1,none⟩=some (.int .i64 (bO σ).bb)/\a.cell? ⟨a4,q*4+2,none⟩=some (.int .i64 o)/\a.cell? ⟨c9,o*8,none⟩=some (.int .i64 F)) (L:=33) (by kernel_rfl) rfl (by kernel_rfl) (by kernel_rfl) ?_ (λy=>?_)
   .go_keep
   refine bI [0,1,2,3,4,5,6,7,8,9,10,11,12,13,14,15,16,17,18,19,20,21,22,23,24,25,26,27,28,29,30,31,32] ?_;iterate 33 (refine bP (v:=?_) rfl (by kernel_rfl) (λ_ _ _ l=>l) (by kernel_rfl) (by assumption) ?_ ?_;rotate_left;focus (intro c D;(try dsimp only at D);go_simp;(try with_reducible rfl));(try simp only[aL,aM,List.set]))
   refine bJ ?_;refine cQ (by kernel_rfl) rfl λw m=>?_;go_simp;refine m.out _ _ ?_;clear m w;(try simp only[aL,aM,List.set]);clear y;by_cases p:F=5
   .have B:U (bS b σ=(((o:Int),σ.s.x.text),aJ b σ)):=by show _=_;rw[a9.j,Y2 (by simpa using p)]
    subst p;clear a9;have A:=Z z.j.a9;go_wp2_with fail;refine aB A (gJ ·) λb1 u=>?_;clear G r K H b0 b2 b3 b4 b5 b6 b7 b8 b9 d8 a6 d9 e0 f5 f6 f7;obtain⟨b2,b3,b4,b5,b6,b7,b8,b9⟩:=u.j.am (i:=0) rfl;obtain⟨f8,c2⟩:=u.j.a3;obtain⟨-,-,-,-,-,-,-,r,-,-,-,-,-,-,-,H,b0⟩:=c2.am;obtain⟨c1,c8,d6,-,-,a6,-,d9,e0,-⟩:=oC c2 (i:=q) e1.j;have d1:((aJ b σ).F.getD q gW).n=o:=by
     rw[<-e2.j];unfold bO;rw[e3.j];rfl
    rw[d1]at a6;rw[d6]at r;change b1.cell? _=some (.slice (some ⟨c1,0,none⟩) σ.F.length c8)at r;clear c2 d6 d1;go_wp2;refine cS (λa=>a.cell? ⟨d,8,none⟩=some (.slice (some ⟨c1,0,none⟩) σ.F.length c8)/\a.cell? ⟨c1,q*4+2,none⟩=some (.int .i64 o)/\a.cell? ⟨c.heap.size,1,none⟩=some (.string ⟨σ.s.x.text.toArray⟩)) (L:=12) (by kernel_rfl) rfl (by kernel_rfl) (by kernel_rfl) ?_ (λy=>?_)
    .go_keep
    refine bI [0,1,2,3,4,5,6,7,8,9,10,11] ?_;iterate 12 (refine bP (v:=?_) rfl (by kernel_rfl) (λ_ _ _ l=>l) (by kernel_rfl) (by assumption) ?_ ?_;rotate_left;focus (intro c D;(try dsimp only at D);go_simp;(try with_reducible rfl));(try simp only[aL,aM,List.set]))
    refine bJ ?_;refine cQ (by kernel_rfl) rfl λw m=>?_;go_simp;refine m.out _ _ ?_;clear m w;(try simp only[aL,aM,List.set]);clear y;go_wp2;go_ret2;rw[B.j];exact⟨rfl,u.j.a9.fin⟩
   .have B:U (bS b σ=((0,[]),bp 7 σ.s.x.w σ)):=by show _=_;rw[a9.j,Y9 p]
    have g0:(F != 5)=true:=by simpa using p
    have g1:(F==5)=false:=by simpa using p
    have g2:decide (F=5)=false:=by simpa using p
    clear a9;have A:=Z z.j.a9;go_wp2_with fail;refine aB A (iV · 7 σ.s.x.w) λb1 u=>?_;go_wp2;go_ret2;rw[B.j];exact⟨rfl,u.j.fin⟩
  .have B:U (bS b σ=((0,[]),bp 7 σ.s.x.w σ)):=by show _=_;rw[a8.j,Y9 (Ya (Y8 E))]
   have f2:((bO σ).bb != 1)=true:=by simpa using E
   clear E c3;go_wp2;refine cS (λa=>a.cell? ⟨d,8,none⟩=some (.slice (some ⟨a4,0,none⟩) σ.F.length c7)/\a.cell? ⟨a4,q*4+1,none⟩=some (.int .i64 (bO σ).bb)) (L:=33) (by kernel_rfl) rfl (by kernel_rfl) (by kernel_rfl) ?_ (λy=>?_)
   .go_keep
   refine bI [0,1,2,3,4,5,6,7,8,9,10,11,12,13,14] ?_;iterate 15 (refine bP (v:=?_) rfl (by kernel_rfl) (λ_ _ _ l=>l) (by kernel_rfl) (by assumption) ?_ ?_;rotate_left;focus (intro c D;(try dsimp only at D);go_simp;(try with_reducible rfl));(try simp only[aL,aM,List.set]))
   refine bJ ?_;refine bI [15,16,17,18,19,20,21,22,23,24,25,26,27,28,29,30,31,32] ?_;iterate 18 (refine Pz rfl (by kernel_rfl) (λ_ _ _ l=>l) (by kernel_rfl) (by assumption) ?_;(try simp only[aL,aM,List.set]))
   refine bJ ?_;refine cQ (by kernel_rfl) rfl λw m=>?_;go_simp;refine m.out _ _ ?_;clear m w;(try simp only[aL,aM,List.set]);clear y;have A:=Z z.j.a9;go_wp2_with fail;refine aB A (iV · 7 σ.s.x.w) λb1 u=>?_;go_wp2;go_ret2;rw[B.j];exact⟨rfl,u.j.fin⟩
end
section
variable {f m : Nat -> Prop} {c d l : Nat} {a : List UInt8} {σ q : ac} {b p h j k : World} {g : PV} {L : List Th} {i : Nat} {n o : Th}
def Ma(b5:bu f c a d σ b)(ok:bG σ)(c2:d<=1000000000)(q:¬(σ.s.e=0/\σ.s.x.H=1)):Calls prog 151 #[.pointer (some ⟨c,0,none⟩)] b (GP f c a d (bS a σ).2 (.tuple #[.int .i64 (bS a σ).1.1,.string ⟨(bS a σ).1.2.toArray⟩]) b):=by
 have b7:=Z q;have G:=Z ((iL b5).G (oW σ.s.x));obtain⟨g,p⟩:=b5;obtain⟨P,a4,a5,a6,a7,a8,a9,H,b0,R,S,a0,a1,a2,a3,b1,d1⟩:=p.am;have d2:=yg (σ:=σ);go_in;go_wp2;generalize c8:b.alloc (oW σ.s.x)=j at *
 obtain⟨g,gT,b9,p,b3⟩:=G.j.a3.sp;have O:=Z (ox (p.aA (ah [] j).a9) c2 σ.s.x.text);rw[b3]at O;obtain⟨P,a4,a5,a6,a7,a8,a9,H,b0,R,S,a0,a1,a2,a3,b1,c6⟩:=p.am;rw[b3]at H;obtain⟨y,z,A,B,C,D,E,F⟩:=G.j.am (i:=0) rfl;refine cS (λh=>h.cell? ⟨c,8,none⟩=some (.slice gT σ.F.length b9)/\h.cell? ⟨b.heap.size,1,none⟩=some (.string ⟨σ.s.x.text.toArray⟩)) (L:=8) (by kernel_rfl) rfl (by kernel_rfl) (by kernel_rfl) ?_ (λc1=>?_)
 .go_keep
 refine bI [0,1,2,3,4,5,6] ?_;iterate 7 (refine bP (v:=?_) rfl (by kernel_rfl) (λ_ _ _ n=>n) (by kernel_rfl) (by assumption) ?_ ?_;rotate_left;focus (intro b c3;(try dsimp only at c3);go_simp;(try with_reducible rfl));(try simp only[aL,aM,List.set]))
 refine bJ ?_;refine ck 7 (by kernel_rfl) rfl λb8 J=>?_;(go_simp;refine O.j.mono ?_;rintro c0 k ⟨rfl,rfl⟩);refine J.out _ _ ?_ (λc1=>?_)
 .go_keep
 (try simp only[aL,aM,List.set]);refine cQ (by kernel_rfl) rfl λb8 J=>?_;go_simp;refine J.out _ _ ?_;(try simp only[aL,aM,List.set]);have o:=Z G.j.a9;generalize j.drew=k at o ⊢;obtain⟨g,p⟩:=o.j.a3;obtain⟨P,a4,a5,a6,a7,a8,a9,H,b0,R,S,a0,a1,a2,a3,b1,c6⟩:=p.am;obtain⟨y,z,A,B,C,D,E,F⟩:=o.j.am (i:=0) rfl;have c7:=Z p;have q:=b7.j;by_cases r:σ.s.e=0
 .have c4:(σ.s.e==0)=true:=by rw[r];rfl
  have d0:σ.s.x.H≠1:=λn=>q ⟨r,n⟩;have c9:((σ.s.x.H:Int)==1)=false:=by rw[Yi];omega
  by_cases I:σ.s.x.H=2
  .have c5:((σ.s.x.H:Int)==2)=true:=by rw[I];rfl
   have u:U (bS a σ=if σ.s.x.text=[105,110,116]\/σ.s.x.text=[117,110,115,105,103,110,101,100]\/σ.s.x.text=[98,111,111,108]then if σ.s.x.text=[105,110,116]then ((0,[105,110,116]),aJ a σ)else if σ.s.x.text=[98,111,111,108]then ((4,[98,111,111,108]),aJ a σ)else if ay (aJ a σ) 2 [105,110,116]=true then ((1,[117,110,115,105,103,110,101,100]),aJ a (aJ a σ))else ((1,[117,110,115,105,103,110,101,100]),aJ a σ)else ((0,[]),dd σ)):=by
    show _=_;unfold bS;rw[Y2 q];simp only[r,I,true_and]
   cases w:(σ.s.x.text==[105,110,116])with
   |true=>
    have m:U (bS a σ=((0,[105,110,116]),aJ a σ)):=by show _=_;rw[u.j,Y9 (Y8 (by simpa using w)),Y9 (by simpa using w)]
    go_wp2_with fail;refine aB o (gJ ·) λt l=>?_;obtain⟨y,z,A,B,C,D,E,F⟩:=l.j.am (i:=0) rfl;go_wp2;go_ret2;rw[m.j];exact⟨rfl,l.j.fin⟩
   |false=>
    cases K:(σ.s.x.text==[117,110,115,105,103,110,101,100])with
    |true=>
     have b2:¬(σ.s.x.text=[98,111,111,108]):=by
      intro n;rw[n]at K;exact absurd K (by decide)
     have M:(σ.s.x.text==[98,111,111,108])=false:=by simpa using b2
     have N:U (bS a σ=if ay (aJ a σ) 2 [105,110,116]=true then ((1,[117,110,115,105,103,110,101,100]),aJ a (aJ a σ))else ((1,[117,110,115,105,103,110,101,100]),aJ a σ)):=by show _=_;rw[u.j,Y9 (Ya (Y8 (by simpa using K))),Y2 (by simpa using w),Y2 b2]
     go_wp2_with fail;refine aB o (gJ ·) λt l=>?_;obtain⟨y,z,A,B,C,D,E,F⟩:=l.j.am (i:=0) rfl;go_wp2_with fail;refine(gd l.j.a3 2 [105,110,116]).mono ?_;rintro c0 d4 ⟨rfl,rfl⟩;cases b4:ay (aJ a σ) 2 [105,110,116]with
     |true=>
      have m:U (bS a σ=((1,[117,110,115,105,103,110,101,100]),aJ a (aJ a σ))):=by show _=_;rw[N.j,Y9 b4]
      go_wp2_with fail;refine aB l (gJ ·) λd3 b6=>?_;go_wp2;go_ret2;rw[m.j];exact⟨rfl,b6.j.fin⟩
     |false=>
      have m:U (bS a σ=((1,[117,110,115,105,103,110,101,100]),aJ a σ)):=by show _=_;rw[N.j,Y2 (by simp[b4])]
      go_wp2;go_ret2;rw[m.j];exact⟨rfl,l.j.fin⟩
    |false=>
     cases M:(σ.s.x.text==[98,111,111,108])with
     |true=>
      have m:U (bS a σ=((4,[98,111,111,108]),aJ a σ)):=by show _=_;rw[u.j,Y9 (Ya (Ya (by simpa using M))),Y2 (by simpa using w),Y9 (by simpa using M)]
      go_wp2_with fail;refine aB o (gJ ·) λt l=>?_;obtain⟨y,z,A,B,C,D,E,F⟩:=l.j.am (i:=0) rfl;go_wp2;go_ret2;rw[m.j];exact⟨rfl,l.j.fin⟩
     |false=>
      have m:U (bS a σ=((0,[]),dd σ)):=by show _=_;rw[u.j,Y2 (by rintro(n|n|n)<;>simp_all)]
      go_wp2_with fail;refine aB o (oe ·) λt l=>?_;go_wp2;go_ret2;rw[m.j];exact⟨rfl,l.j.fin⟩
  .have c5:((σ.s.x.H:Int)==2)=false:=by rw[Yi];omega
   have m:U (bS a σ=((0,[]),dd σ)):=by show _=_;unfold bS;rw[Y2 q,Y2 (λn=>I n.2.1)]
   go_wp2_with fail;refine aB o (oe ·) λt l=>?_;go_wp2;go_ret2;rw[m.j];exact⟨rfl,l.j.fin⟩
 .have c4:(σ.s.e==0)=false:=by rw[Yi];exact r
  have m:U (bS a σ=((0,[]),dd σ)):=by show _=_;unfold bS;rw[Y2 q,Y2 (λn=>r n.1)]
  go_wp2_with fail;refine aB o (oe ·) λt l=>?_;go_wp2;go_ret2;rw[m.j];exact⟨rfl,l.j.fin⟩
def Mb(i:bu f c a d σ b)(ok:bG σ)(h:d<=1000000000):Calls prog 151 #[.pointer (some ⟨c,0,none⟩)] b (GP f c a d (bS a σ).2 (.tuple #[.int .i64 (bS a σ).1.1,.string ⟨(bS a σ).1.2.toArray⟩]) b):=by
 by_cases g:σ.s.e=0/\σ.s.x.H=1
 .exact LY i ok h g
 .exact Ma i ok h g
end
section
variable {e m : Nat -> Prop} {d c k : Nat} {t : List UInt8} {a q : ac} {b p f g h : World} {l : PV} {j : List Th} {i : Nat} {n o : Th}
def EG(e:Nat->Prop)(d:Nat)(t:List UInt8)(c:Nat)(a:(Int×List UInt8×List (List UInt8))×ac)(b:World)(h:Ending)(f:World):Prop:=∃g,h=.returned (.tuple #[.int .i64 a.1.1,.string ⟨a.1.2.1.toArray⟩,g])/\aE e d t c a.2 [bE g a.1.2.2] b f/\a.1.2.1.length<=5000
def wP{v:Value}{names:List (List UInt8)}(B:aE e d t c a [bE v names] b b)(O:names.length<=1000000)(M:c+10<=1000000000):Calls prog 154 #[.pointer (some ⟨d,0,none⟩),v] b (EG e d t (c+2) (cf t names a) b):=by
 obtain⟨gT,w,rfl⟩:=bY (B.w _ Yb);have k:=Z B;go_in;go_wp2_with fail;refine(gd k.j.a3 2 [118,111,105,100]).mono ?_;rintro K c2 ⟨rfl,rfl⟩;cases A:ay a 2 [118,111,105,100]with
 |true=>
  have p:U (cf t names a=((-1,[118,111,105,100,59,32],names),ab t 4 [59] (aJ t a))):=by show _=_;unfold cf;rw[Y9 A]
  go_wp2_with fail;refine aB k (gJ ·) λg l=>?_;go_wp2_with fail;refine aB l (cC · 4 [59]) λh n=>?_;go_wp2;go_ret3;rw[p.j];exact⟨_,rfl,n.j.a4 (by omega),by simp⟩
 |false=>
  go_wp2_with fail;refine(xp k.j.a3 (names:=names) (k.j.b9 (i:=0) rfl) (λb5 L=>qX (i:=0) rfl L) O false M).mono ?_;rintro K g ⟨rfl,b1,a7,a8,a9,b0⟩;have l:=Z (k.j.call ⟨b1,a7⟩);generalize a1:bR t names false a=b2 at *
  obtain⟨⟨b3,m,q,f⟩,b4⟩:=b2;have p:U (cf t names a=((b3,m++f.text++q++[59,32],names++[f.text]),ab t 4 [59] b4)):=by show _=_;unfold cf;rw[Y2 (by simp[A])];simp only[a1]
  simp only at l a8 a9 b0;have n:=Z (l.j.G (oW f));go_wp2_with fail;refine aB n (cC · 4 [59]) λj o=>?_;obtain⟨C,D,E,F,G,H,I,J⟩:=o.j.am (i:=0) rfl;obtain⟨a6,N,a2,a3,a4⟩:=info_parts pO;have a5:(Value.string ⟨#[]⟩).cells.size=1:=rfl;have a0:U (∀r,(j.alloc r).ownsRow 0 9 1 (.slice gT names.length w) names.length (names.map λs=>Value.string ⟨s.toArray⟩)):=Z (λr=>aY (o.j.b9 (i:=1) rfl) ((ah [] j).G r) (by simp));have P:names.length+1<=maxLen:=by unfold maxLen;omega
  have R:(names.length+1)*16<=140737488355328:=by omega
  go_wp2_with (at_builtin;go_must (refine wpList_append_lies _ (by rfl) _ _ _ (by rfl) 0 9 a6 _ 1 16 underlying30 N a2 a3 a4 a5 (by omega) (.slice gT names.length w) names.length (names.map λs=>Value.string ⟨s.toArray⟩) (by rfl) (a0.j _) ⟨j.heap.size,0,none⟩ 1 1 [.string ⟨f.text.toArray⟩] (by rfl) (by rfl) (World.news_of_block (cs:=#[.string ⟨f.text.toArray⟩]) (t:=9) (fr:=(0,0)) (heap_alloc_new j _)) (by simp[Value.oneCell']) (by omega) P R (by simp) (j.heap.size+1) (by simp) ?_;intro b7 b6 c1 z y x S;have u:=Z (o.j.h8 (i:=1) rfl ((ah [] j).G _) z y x (by simp));clear z y x S C D E F G H I J;obtain⟨C,D,E,F,G,H,I,J⟩:=u.j.am (i:=0) rfl));have b8:¬(9223372036854775807<m.length+f.text.length):=by omega
  have b9:¬(9223372036854775807<m.length+f.text.length+q.length):=by omega
  have c0:¬(9223372036854775807<m.length+f.text.length+q.length+2):=by omega
  go_region;go_wp2;go_ret3;rw[p.j];refine⟨_,?_,u.j.a9.bo,by simp;omega⟩;simp;exact fs (by simp)
end
section
variable {t : List UInt8} {b c d : ac}
def aN(b c:ac):Prop:=b.s.e≠0->c.s.e=b.s.e/\c.s.a=b.s.a
def ee(b:ac):aN b b:=λ_=>⟨rfl,rfl⟩
def aN.u(i:aN b c)(j:aN c d):aN b d:=λe=>by
 obtain⟨a,f⟩:=i e;obtain⟨g,h⟩:=j (by rw[a];exact e);exact⟨g.trans a,h.trans f⟩
def kj(c a:Int)(b:ac):aN b (bp c a b):=λd=>by simp[bp,hp,d]
def qr(b:ac):aN b (dd b):=λa=>by
 unfold dd jQ lZ hp;simp[a]
def ha(b:ac):aN b (aJ t b):=λ_=>⟨rfl,rfl⟩
def aP(a:Nat)(c:List UInt8)(b:ac):aN b (ab t a c b):=by
 unfold ab mG;split
 .exact λ_=>⟨rfl,rfl⟩
 .exact qr b
def sb(b:ac):aN b (cK t b).2:=by
 unfold cK im;split
 .exact ee b
 .split
  .exact λ_=>⟨rfl,rfl⟩
  .exact qr b
def oK(a:Int)(b:ac):aN b (aH t a b).2:=by
 unfold aH;split
 .exact sb b
 .split
  .exact(sb b).u (kj _ _ _)
  .exact(sb b).u λ_=>⟨rfl,rfl⟩
def Dw(c a:Int)(b:ac):aN b (ar c a b):=by
 unfold ar iW;split
 .split
  .exact(qr b).u (kj _ _ _)
  .exact qr b
 .split
  .exact kj _ _ _
  .exact ee b
def rB{n m:Int}(c:m<=n)(b:ac):(ar n m b).s.e≠0:=by
 unfold ar iW;generalize (if b.s.e=0/\b.s.x.H=5 then dd b else b)=f
 by_cases a:f.s.e=0
 .rw[Y9 ⟨a,c⟩];simp[bp,hp,a]
 .rw[Y2 (λd=>a d.1)];exact a
def Bl{c:Nat}{d:List UInt8}(a:ay b c d=true):b.s.e=0:=by
 unfold ay hD at a;simp at a;exact a.1
def tj{c:Nat}{d:List UInt8}(a:b.s.e≠0):ay b c d=false:=by
 unfold ay hD;simp[a]
def wl(c a d:Int)(b:ac):aN b (ei t c a d b).2:=by
 unfold ei;split
 .exact kj _ _ _
 .exact ha b
def hc(c a:Int)(b:ac):aN b (aW t c a b).2:=by
 unfold aW;split
 .exact ee b
 .split
  .exact wl _ _ _ _
  .split
   .exact wl _ _ _ _
   .split
    .exact wl _ _ _ _
    .split
     .split
      .exact kj _ _ _
      .exact wl _ _ _ _
     .exact qr b
def fu(a:be)(b:ac):aN b (bK a b):=λ_=>⟨rfl,rfl⟩
def mB(a:List UInt8)(b:ac):aN b (dW a b):=λ_=>⟨rfl,rfl⟩
def Dy(c:List UInt8)(a:Int)(b:ac):aN b (dB c a b):=by
 unfold dB;simp only;split<;>exact λ_=>⟨rfl,rfl⟩
def sa(c:List UInt8)(a:Int)(b:ac):aN b (cY c a b):=by
 unfold cY;split<;>exact λ_=>⟨rfl,rfl⟩
def Qq(b:ac):aN b (iJ t b).2:=by
 unfold iJ;split
 .exact ha b
 .split
  .exact ha b
  .exact ee b
def Dx(b:ac):aN b (ci t b).2:=by
 unfold ci;split
 .exact ee b
 .split
  .exact(ha b).u (fu _ _)
  .split
   .exact ha b
   .split
    .exact ha b
    .split
     .exact ha b
     .split
      .exact(ha b).u (Qq _)
      .exact qr b
def kQ(a:Bool)(b:ac):aN b (bq t a b).2:=by
 unfold bq;split
 .exact(aP _ _ _).u ((hc _ _ _).u (aP _ _ _))
 .simp only;split
  .exact(aP _ _ _).u (aP _ _ _)
  .exact(aP _ _ _).u ((hc _ _ _).u (aP _ _ _))
def lL(d:List (List UInt8))(all:Bool)(b:ac):aN b (bW t d all b).2:=by
 unfold bW;simp only;generalize e:cK t b=a;have c:aN b a.2:=by rw[<-e];exact sb b
 generalize (if all=true then decide (0<=bA a.2 a.1.text)else d.contains a.1.text)=f
 split
 .exact c.u (kj _ _ _)
 .exact c
def Qj(d:List (List UInt8))(all e:Bool)(b:ac):aN b (gt t d all e b).2:=by
 unfold gt;simp only;generalize g:bW t d all (aJ t b)=f;have a:aN b f.2:=by rw[<-g];exact(ha _).u (lL _ _ _)
 by_cases c:ay f.2 4 [91]=true/\e=true
 .rw[Y9 c];exact a.u ((kQ _ _).u (fu _ _))
 .rw[Y2 c];exact a.u ((kQ _ _).u (fu _ _))
def Qi(i:List (List UInt8))(all:Bool)(b:ac):aN b (gq t i all b).2:=by
 unfold gq;simp only;generalize j:ci t b=c;have e:aN b c.2:=by rw[<-j];exact Dx _
 by_cases f:ay c.2 4 [42]=true
 .rw[Y9 f];exact e.u ((ha _).u ((lL _ _ _).u (fu _ _)))
 .rw[Y2 f];generalize k:bW t i all c.2=d;have a:aN b d.2:=by rw[<-k];exact e.u (lL _ _ _)
  by_cases g:ay d.2 4 [91]=true
  .rw[Y9 g];exact a.u ((kQ _ _).u (fu _ _))
  .rw[Y2 g];by_cases h:ay d.2 4 [60]=true
   .rw[Y9 h];exact a.u ((kQ _ _).u (fu _ _))
   .rw[Y2 h];exact a
def wk(a:List (List UInt8))(all:Bool)(b:ac):aN b (bR t a all b).2:=by
 unfold bR;split
 .exact Qj _ _ _ _
 .exact Qi _ _ _
def DA(b:ac):aN b (bS t b).2:=by
 unfold bS;split
 .split
  .exact kj _ _ _
  .exact ha b
 .split
  .split
   .exact ha b
   .split
    .exact ha b
    .split
     .exact(ha b).u (ha _)
     .exact ha b
  .exact qr b
def wj(a:List (List UInt8))(b:ac):aN b (cf t a b).2:=by
 unfold cf;split
 .exact(ha b).u (aP _ _ _)
 .exact(wk _ _ _).u (aP _ _ _)
def rZ(b:ac):aN b (eC t b).2:=by
 unfold eC;split
 .exact ha b
 .exact Dx b
def kk(a:Prop)[Decidable a](d c:Int)(b:ac):aN b (if a then bp d c b else b):=by
 split
 .exact kj _ _ _
 .exact ee b
def mA(a:List Int)(b:ac):aN b (bD t a b).2:=by
 unfold bD;exact(aP _ _ _).u ((hc _ _ _).u ((kk _ _ _ _).u (aP _ _ _)))
def Sm(b c:ac):Prop:=c = { b with s:=c.s }
def Sm.u(a:Sm b c)(e:Sm c d):Sm b d:=by
 unfold Sm at *
 rw[e,a]
def wf(c a:Int)(b:ac):Sm b (bp c a b):=rfl
def tT(b:ac):Sm b (dd b):=rfl
def eD(b:ac):Sm b (aJ t b):=rfl
def an(a:Nat)(c:List UInt8)(b:ac):Sm b (ab t a c b):=rfl
def jd(b:ac):Sm b (cK t b).2:=rfl
def jE(a:Prop)[Decidable a](d c:Int)(b:ac):Sm b (if a then bp d c b else b):=by
 split<;>rfl
def cx(c a:Int)(b:ac):Sm b (ar c a b):=by
 unfold ar iW;repeat' split
 all_goals rfl
def fW(c a:Int)(b:ac):Sm b (aW t c a b).2:=by
 unfold aW ei;repeat' split
 all_goals rfl
def oJ(b:ac):Sm b (bS t b).2:=by
 unfold bS;repeat' split
 all_goals rfl
def Sm.y(a:Sm b c):c.y=b.y:=by rw[a]
def Sm.F(a:Sm b c):c.F=b.F:=by rw[a]
def Sm.aa(a:Sm b c):c.aa=b.aa:=by rw[a]
end
section
variable {f p : Nat -> Prop} {d c o : Nat} {t : List UInt8} {a g : ac} {b u j l k : World} {h : PV} {n : List Th} {i : Nat} {q r : Th}
def jD:Value->Nat
 |.slice _ a _=>a
 |_=>0
def gV(of:Int)(v:(Int×Int)×ac):ac:=if v.2.s.e=0/\4<of/\(fF v.2 of).b2.contains v.1.1=false then bp 8 v.1.2 v.2 else v.2
def fK(d:List Int)(c b:Int)(a:ac):ac:=if a.s.e=0/\d.contains c=true then bp 6 b a else a
def wZ(t:List UInt8)(of:Int)(c:List Int)(d:List UInt8)(b:Int)(a:ac):(List Int×List UInt8)×ac:=
 if ay (ab t 4 [58] a) 2 [99,97,115,101]=true then bU t of (14-(c++[b]).length) (c++[b]) (d++[99,97,115,101,32]++bC b++[58,32]) (ab t 4 [58] a)
 else ((c++[b],d++[99,97,115,101,32]++bC b++[58,32]),ab t 4 [58] a)
def Ae{of:Int}{b:Nat}{c:List Int}{d:List UInt8}(f:a.s.e≠0):bU t of b c d a=((c,d),a):=by
 cases b with
 |zero=>rfl
 |succ b=>unfold bU;rw[Y9 f]
def Gf{of:Int}{nums:List Int}{out:List UInt8}{v:(Int×Int)×ac}(d:a.s.e=0)(f:nums.length<=12)(e:aW t (eS of) (eR of) (ab t 2 [99,97,115,101] (ar nums.length 12 a))=v):bU t of (14-nums.length) nums out a=wZ t of nums out v.1.1 (fK nums v.1.1 v.1.2 (gV of v)):=by
 have b:14-nums.length=(13-nums.length)+1:=by omega
 have c:14-(nums++[v.1.1]).length=13-nums.length:=by simp
 unfold wZ;rw[c,b];rw[bU,Y2 (by simpa using d)];simp only[e];rfl
def EH(f:Nat->Prop)(d:Nat)(t:List UInt8)(c:Nat)(a:(List Int×List UInt8)×ac)(b:World)(g:Ending)(j:World):Prop:=∃e,g=.returned (.tuple #[e,.string ⟨a.1.2.toArray⟩])/\aE f d t c a.2 [cW e a.1.1] b j/\a.1.2.length<=400/\a.1.1.length<=13
def Gi{v:Value}{w:List Int}(m:aE f d t c a [cW v w] b b)(of:Int)(g5:0<=of/\(4<of->of<a.y.length))(h1:∀b4∈a.y,b4.b2.length<=1000)(f8:w.length<=12)(f1:c<=1000000000):Calls prog 153 #[.pointer (some ⟨d,0,none⟩),.int .i64 of,v] b (EH f d t c (bU t of (14-w.length) w [] a) b):=by
 obtain⟨gT,B,rfl⟩:=bY (m.w _ Yb);obtain⟨j,rfl⟩:∃j:Nat,of=j:=⟨of.toNat,by omega⟩;have d2:=Z m;obtain⟨h7,f7,h3,h4,h5⟩:=info_parts oy;have h6:(Value.int .i64 0).cells.size=1:=rfl;go_in;go_wp2;go_loopw [2,8] (λv R i3=>∃(gT:Option Addr) (B:Nat) (n:List Int) (x:List UInt8) (g:ac),v=.slice gT n.length B/\R=.string ⟨x.toArray⟩/\n.length<=12/\x.length<=20*n.length/\U (aE f d t c g [cW (.slice gT n.length B) n] b i3)/\U (bU t j (14-n.length) n x g=bU t j (14-w.length) w [] a)/\U (g.y=a.y)) (λv _ _=>14-jD v)
 case atStart=>exact⟨gT,B,w,[],a,rfl,rfl,f8,by simp,d2,Z rfl,Z rfl⟩
 case round=>
  obtain⟨gT,B,n,x,A,rfl,rfl,g0,g1,a6,b7,e1⟩:=hrel;obtain⟨h,E⟩:=a6.j.a3;obtain⟨i5,j1,j2,j3,j4,j5,c1,j6,j7,i6,a8,i7,i8,i9,j0,G,b2⟩:=E.am;by_cases a1:A.s.e=0
  .have f2:(A.s.e==0)=true:=by rw[a1];rfl
   have d7:=Z a1;go_wp2_with fail;refine aB a6 (kI · n.length 12) λl d3=>?_;go_wp2_with fail;refine aB d3 (cC · 2 [99,97,115,101]) λk d4=>?_;have g1:(-2147483648:Int)<=eS j:=by unfold eS;split<;>omega
   have k0:eR j<=(4294967295:Int):=by unfold eR;split<;>(try split)<;>omega
   go_upto_block 2 with fail;go_cut [9,10] (λh9 f6 wc=>h9=.int .i64 (eS j)/\f6=.int .i64 (eR j)/\wc=k);case first=>
    by_cases D:(j:Int)=1
    .have P:eS j=0:=by unfold eS;rw[Y9 (Y8 D)]
     have O:eR j=4294967295:=by unfold eR;rw[Y9 D]
     have e9:((j:Int)==1)=true:=by rw[D];rfl
     have C:=Z (Yp P O);go_wp2;go_meet;rw[C.j.1,C.j.2];exact⟨rfl,rfl,rfl⟩
    .have e9:((j:Int)==1)=false:=by rw[Yi];exact D
     by_cases z:(j:Int)=4
     .have P:eS j=0:=by unfold eS;rw[Y9 (Ya z)]
      have O:eR j=1:=by unfold eR;rw[Y2 D,Y9 z]
      have f0:((j:Int)==4)=true:=by rw[z];rfl
      have C:=Z (Yp P O);go_wp2;go_meet;rw[C.j.1,C.j.2];exact⟨rfl,rfl,rfl⟩
     .have P:eS j = -2147483648:=by unfold eS;rw[Y2 (by omega)]
      have O:eR j=2147483647:=by unfold eR;rw[Y2 D,Y2 z]
      have f0:((j:Int)==4)=false:=by rw[Yi];exact z
      have C:=Z (Yp P O);go_wp2;go_meet;rw[C.j.1,C.j.2];exact⟨rfl,rfl,rfl⟩
   case rest=>
    obtain⟨rfl,rfl,rfl⟩:=hcut;go_wp2_with fail;refine aB d4 (ua · (eS j) (eR j) f1) λi4 J=>?_;have d0:=sh (t:=t) (eS j) (eR j) (ab t 2 [99,97,115,101] (ar n.length 12 A));have b8:=Z (Gf (t:=t) (of:=j) (nums:=n) (out:=x) d7.j g0 rfl);have c9:=Z ((aP (t:=t) 2 [99,97,115,101] (ar n.length 12 A)).u (hc (t:=t) (eS j) (eR j) _));have a3:=Z ((((cx n.length 12 A).u (an (t:=t) 2 [99,97,115,101] _)).u (fW (t:=t) (eS j) (eR j) _)).y.trans e1.j);generalize aW t (eS j) (eR j) (ab t 2 [99,97,115,101] (ar n.length 12 A))=b4 at *
    obtain⟨⟨o,q⟩,p⟩:=b4;simp only at J d0 b8 c9 a3;have k3:(-2147483648:Int)<=o/\o<=4294967295:=by have:=d0;omega
    obtain⟨h,E⟩:=J.j.a3;obtain⟨-,-,-,-,-,-,c1,-,-,-,a8,-,-,-,-,G,b2⟩:=E.am;have b9:=Z E;go_upto_region 15 with fail;go_cut [48] (λa7 wc=>a7=.bool (decide (p.s.e=0/\(4:Int)<j))/\wc=i4);case first=>
     by_cases F:p.s.e=0
     .have f3:(p.s.e==0)=true:=by rw[F];rfl
      by_cases N:(4:Int)<j
      .have u:U (decide (p.s.e=0/\(4:Int)<j)=true):=Z (by simp[F,N]);go_wp2;go_meet;exact⟨by rw[u.j],rfl⟩
      .have u:U (decide (p.s.e=0/\(4:Int)<j)=false):=Z (by simp[N]);go_wp2;go_meet;exact⟨by rw[u.j],rfl⟩
     .have f3:(p.s.e==0)=false:=by rw[Yi];exact F
      have u:U (decide (p.s.e=0/\(4:Int)<j)=false):=Z (by simp[F]);go_wp2;go_meet;exact⟨by rw[u.j],rfl⟩
    case rest=>
     obtain⟨rfl,rfl⟩:=hcut;generalize g8:decide (p.s.e=0/\(4:Int)<j)=i1;have u:=Z g8;go_upto_if 48 with fail;go_cut [] (λwc=>U (aE f d t c (gV j ((o,q),p)) [cW (.slice gT n.length B) n] b wc));case first=>
      cases i1 with
      |false=>
       have z:U (gV j ((o,q),p)=p):=Z (by unfold gV;rw[Y2 (λy=>of_decide_eq_false u.j ⟨y.1,y.2.1⟩)]);go_wp2;go_meet;rw[z.j];exact J
      |true=>
       obtain⟨F,N⟩:=of_decide_eq_true u.j;have d8:=Z F;have b1:j<p.y.length:=by rw[a3.j];have:=g5.2 N;omega
       obtain⟨j9,j8,i0,h2,g7,-,-,-,l0,-,-,-,-,l1,l2,-⟩:=tO b9.j (i:=j) b1;have f9:=(b9.j.gb j (p.y.getD j cT) i0 (by simp[b1]) g7).1;have c8:U (fF p j=p.y.getD j cT):=Z rfl;have h0:(p.y.getD j cT).b2.length<=1000000000:=(by have:=h1 (p.y.getD j cT) (by rw[<-a3.j];simp[b1]);omega);have k1:((j:Int)<(p.y.length:Int)):=by omega
       have d9:=Z N;rw[h2]at c1;have e7:=Z (tf (dR.ct f9) h0 o);go_wp2_with fail;refine e7.j.mono ?_;rintro a9 b5 ⟨rfl,rfl⟩;cases c6:(p.y.getD j cT).b2.contains o with
       |true=>
        have z:U (gV j ((o,q),p)=p):=Z (by unfold gV;rw[Y2 (λy=>by simp only at y;rw[c8.j,c6]at y;exact absurd y.2.2 (by simp))]);go_wp2;go_meet;rw[z.j];exact J
       |false=>
        have z:U (gV j ((o,q),p)=bp 8 q p):=Z (by unfold gV;rw[Y9 ⟨d8.j,d9.j,by simp only;rw[c8.j];exact c6⟩]);go_wp2_with fail;refine aB J (iV · 8 q) λd1 K=>?_;go_wp2;go_meet;rw[z.j];exact K
     case rest=>
      rename World=>k7;have S:=hcut;have e4:U (aN (ar n.length 12 A) (gV j ((o,q),p))):=Z (c9.j.u (by unfold gV;split;exact kj 8 q p;exact ee _));have e0:U ((gV j ((o,q),p)).y=a.y):=Z (by unfold gV;split<;>exact a3.j);generalize gV j ((o,q),p)=r at *
      obtain⟨h,E⟩:=S.j.a3;obtain⟨-,-,-,-,-,-,-,-,-,-,a8,-,-,-,-,G,b2⟩:=E.am;have e8:=Z (tf (dR.ct (S.j.b9 (i:=0) rfl)) (by omega) o);go_wp2_with fail;refine e8.j.mono ?_;rintro a9 b5 ⟨rfl,rfl⟩;generalize f5:n.contains o=L at *
      have c0:=Z f5;go_upto_region 20 with fail;go_cut [75] (λa7 wc=>a7=.bool (decide (r.s.e=0)&&L)/\wc=b5);case first=>
       by_cases a2:r.s.e=0
       .have f4:(r.s.e==0)=true:=by rw[a2];rfl
        have u:U ((decide (r.s.e=0)&&L)=L):=Z (by simp[a2]);go_wp2;go_meet;exact⟨by rw[u.j],rfl⟩
       .have f4:(r.s.e==0)=false:=by rw[Yi];exact a2
        have u:U ((decide (r.s.e=0)&&L)=false):=Z (by simp[a2]);go_wp2;go_meet;exact⟨by rw[u.j],rfl⟩
      case rest=>
       obtain⟨rfl,rfl⟩:=hcut;generalize g9:(decide (r.s.e=0)&&L)=i2;have u:=Z g9;go_upto_if 75 with fail;go_cut [] (λwc=>U (aE f d t c (fK n o q r) [cW (.slice gT n.length B) n] b wc));case first=>
        cases i2 with
        |false=>
         have b0:U (fK n o q r=r):=Z (by unfold fK;rw[Y2 (λy=>by have:=u.j;rw[<-c0.j,y.2,decide_eq_true y.1]at this;exact absurd this (by decide))]);go_wp2;go_meet;rw[b0.j];exact S
        |true=>
         have b0:U (fK n o q r=bp 6 q r):=Z (by unfold fK;rw[Y9 (by have:=u.j;rw[<-c0.j]at this;simpa using this)]);go_wp2_with fail;refine aB S (iV · 6 q) λd1 K=>?_;go_wp2;go_meet;rw[b0.j];exact K
       case rest=>
        rename World=>d1;have K:=hcut;have e3:U (aN (ar n.length 12 A) (fK n o q r)):=Z (e4.j.u (by unfold fK;split;exact kj 6 q r;exact ee _));have e6:U ((fK n o q r).y=a.y):=Z (by unfold fK;split<;>exact e0.j);generalize fK n o q r=I at *
        have e5:=Z (e3.j.u (aP (t:=t) 4 [58] I));go_wp2_with fail;refine aB K (cC · 4 [58]) λH b6=>?_;(try clear a8 G b2);have g6:U (∀R,(H.alloc R).ownsRow 0 3 1 (.slice gT n.length B) n.length (n.map (Value.int .i64))):=Z (λR=>aY (b6.j.b9 (i:=0) rfl) ((ah [] H).G R) (by simp));have g3:n.length+1<=maxLen:=by unfold maxLen;omega
        go_wp2_with (at_builtin;go_must (refine wpList_append_lies _ (by rfl) _ _ _ (by rfl) 0 3 h7 _ 1 8 underlying24 f7 h3 h4 h5 h6 (by omega) (.slice gT n.length B) n.length (n.map (Value.int .i64)) (by rfl) (g6.j _) ⟨H.heap.size,0,none⟩ 1 1 [.int .i64 o] (by rfl) (by rfl) (World.news_of_block (cs:=#[.int .i64 o]) (t:=3) (fr:=(0,0)) (heap_alloc_new H _)) (by simp[Value.oneCell']) (by omega) g3 (by omega) (by simp) (H.heap.size+1) (by simp) ?_;intro c3 c2 k8 c7 c5 c4 g2;have d5:=Z (b6.j.j7 (i:=0) rfl ((ah [] H).G _) c7 c5 c4 (by simp));clear c7 c5 c4 g2));refine(ju o (by omega) (by omega) _).mono ?_;rintro a9 k9 ⟨rfl,h8⟩;have a4:=Z (d5.j.O h8);have g4:=jA o (by omega) (by omega);have a0:=Z (b7.j.symm.trans b8.j);unfold wZ at a0;unfold bC at g4 a0;generalize Lib.itoa o=M at *
        have k4:¬(9223372036854775807<x.length+5):=by omega
        have k5:¬(9223372036854775807<x.length+5+M.length):=by omega
        have k6:¬(9223372036854775807<x.length+5+M.length+2):=by omega
        go_wp2_with fail;refine(gd a4.j.a3 2 [99,97,115,101]).mono ?_;rintro a9 b5 ⟨rfl,rfl⟩;cases b3:ay (ab t 4 [58] I) 2 [99,97,115,101]with
        |true=>
         have k2:n.length<12:=by
          rcases Yj n.length 12 with y|y
          .exact y
          .have G:=rB (n:=n.length) (m:=12) (by omega) A;exact absurd (Bl b3) (by rw[(e5.j G).1];exact G)
         have a5:U (bU t j (14-(n++[o]).length) (n++[o]) (x++[99,97,115,101,32]++M++[58,32]) (ab t 4 [58] I)=bU t j (14-w.length) w [] a):=Z (a0.j.trans (by rw[Y9 b3])).symm;have e2:U ((ab t 4 [58] I).y=a.y):=Z e6.j;go_wp2;refine⟨⟨some ⟨c3,0,none⟩,c2,n++[o],x++[99,97,115,101,32]++M++[58,32],ab t 4 [58] I,by simp,?_,by simp;omega,by simp;omega,?_,a5,e2⟩,by simp[jD];omega⟩
         .exact Yo Value.string (fs (by simp))
         .have:=a4.j;simp only[List.set]at this;exact Z (by simpa using this)
        |false=>
         have a5:U (bU t j (14-w.length) w [] a=((n++[o],x++[99,97,115,101,32]++M++[58,32]),ab t 4 [58] I)):=Z (a0.j.trans (by rw[Y2 (by simp[b3])]));go_wp2;go_ret2;rw[a5.j];refine⟨.slice (some ⟨c3,0,none⟩) (n.length+1) c2,?_,a4.j,by simp;omega,by simp;omega⟩;simp;exact fs (by simp)
  .have f2:(A.s.e==0)=false:=by rw[Yi];exact a1
   have d6:U (bU t j (14-w.length) w [] a=((n,x),A)):=Z (b7.j.symm.trans (Ae a1));go_wp2;go_ret2;rw[d6.j];exact⟨_,rfl,a6.j,by simp;omega,by simp;omega⟩
end
section
variable {X o : Nat -> Prop} {d b N' : Nat} {t : List UInt8} {a j : ac} {c f k l q : World} {g : PV} {L : List Th} {i : Nat} {h p : Th}
def aE.nil(i:aE X d t b a L f c):aE X d t b a (cW (.slice none 0 0) []::L) f c:=by
 refine⟨i.a3.cc ?_,i.fr,?_,?_,?_⟩
 .rintro m (h|⟨g,e,h⟩)
  .exact Y8 h
  .rcases Yg.1 e with rfl|e
   .simp[Th.ch,Value.ownBlock]at h
   .exact Ya ⟨g,e,h⟩
 .intro g e;rcases Yg.1 e with rfl|e
  .exact th c
  .exact i.w g e
 .intro g e m h;rcases Yg.1 e with rfl|e
  .simp[Th.ch,Value.ownBlock]at h
  .exact i.aQ g e m h
 .intro k l g p r e j q n o;cases k with
  |zero=>simp at e;subst e;simp[Th.ch,Value.ownBlock]at n
  |succ k=>
   cases l with
   |zero=>simp at j;subst j;simp[Th.ch,Value.ownBlock]at o
   |succ l=>exact i.c8 k l g p (by omega) (by simpa using e) (by simpa using j) q n o
def aE.lv(i:aE X d t b a L f c):aE X d t b a (bE (.slice none 0 0) []::L) f c:=by
 refine⟨i.a3.cc ?_,i.fr,?_,?_,?_⟩
 .rintro m (h|⟨g,e,h⟩)
  .exact Y8 h
  .rcases Yg.1 e with rfl|e
   .simp[Th.ch,Value.ownBlock]at h
   .exact Ya ⟨g,e,h⟩
 .intro g e;rcases Yg.1 e with rfl|e
  .exact DJ c
  .exact i.w g e
 .intro g e m h;rcases Yg.1 e with rfl|e
  .simp[Th.ch,Value.ownBlock]at h
  .exact i.aQ g e m h
 .intro k l g p r e j q n o;cases k with
  |zero=>simp at e;subst e;simp[Th.ch,Value.ownBlock]at n
  |succ k=>
   cases l with
   |zero=>simp at j;subst j;simp[Th.ch,Value.ownBlock]at o
   |succ l=>exact i.c8 k l g p (by omega) (by simpa using e) (by simpa using j) q n o
def aE.k4{j:Th}(m:aE X d t b a (h::j::L) f c):aE X d t b a (j::h::L) f c:=by
 have o:∀e,e∈j::h::L->e∈h::j::L:=by
  intro e i;simp only[Yg]at i ⊢;rcases i with l|l|l
  .exact Ya (Y8 l)
  .exact Y8 l
  .exact Ya (Ya l)
 refine⟨m.a3.cc ?_,m.fr,λe i=>m.w e (o e i),λe i=>m.aQ e (o e i),?_⟩
 .rintro x (n|⟨e,i,n⟩)
  .exact Y8 n
  .exact Ya ⟨e,o e i,n⟩
 .intro g s e q y i r;have p:∀g:Nat,∃k,(g=0->k=1)/\(g=1->k=0)/\(g≠0->g≠1->k=g)/\(j::h::L)[g]? = (h::j::L)[k]?:=by
   intro g;match g with
   |0=>exact⟨1,by simp⟩
   |1=>exact⟨0,by simp⟩
   |g+2=>exact⟨g+2,by simp⟩
  obtain⟨k,z,A,B,v⟩:=p g;obtain⟨u,C,D,E,w⟩:=p s;exact m.c8 k u e q (by omega) (v▸i) (w▸r)
def oH{o p:Value}(g:be)(m:aE X d t b a (cW o g.b2::cW p g.c0::L) f c)(w:b<=1000000000):Calls prog 46 #[.pointer (some ⟨d,0,none⟩),.agg #[.int .i64 g.H,.int .i64 g.n,.int .i64 g.of,o,p,.int .i64 g.gz,.string ⟨g.ca.toArray⟩,.int .i64 g.w]] c λq k=>q=.returned (.int .i64 a.y.length)/\aE X d t (b+1) (bK g a) L f k:=by
 refine(CQ (X:=gU X L) m.a3 ?_ g o p (m.b9 (i:=0) rfl) (m.b9 (i:=1) rfl) ?_ w).mono ?_
 .rintro j (e|⟨h,l,e⟩)
  .exact Y8 e
  .exact Ya ⟨h,by simp[l],e⟩
 .intro j e;have s:∀(i:Nat) h,(i=0\/i=1)->(cW o g.b2::cW p g.c0::L)[i]? = some h->h.ch=some j->¬gU X L j:=by
   rintro i h D l r (A|⟨u,x,y⟩)
   .exact m.aQ h (Yh l) j r A
   .obtain⟨B,z⟩:=List.getElem?_of_mem x;exact m.c8 i (B+2) h u (by omega) l (by simpa using z) j r y
  rcases e with e|e
  .exact⟨qX (i:=0) rfl e,s 0 _ (Y8 rfl) rfl e⟩
  .exact⟨qX (i:=1) rfl e,s 1 _ (Ya rfl) rfl e⟩
 .rintro q E ⟨rfl,C,v⟩;refine⟨rfl,m.bo.bo.call ⟨C,v.cc ?_⟩⟩;rintro j _ (e|⟨h,l,e⟩)
  .exact Y8 e
  .exact Ya ⟨h,by simp[l],e⟩
def pI(t:List UInt8)(d:List Int)(f:List UInt8)(c:ef)(b:Int)(a:ac):Bool×List Int×List UInt8×ac:=
 if a.s.e≠0 then (true,d,f,a)
 else if ay (dB c.text b a) 4 [44]=true then di t (13-(d++[b]).length) (d++[b]) (f++c.text++[32,61,32]++bC b++[44,32]) (aJ t (dB c.text b a))else (false,d++[b],f++c.text++[32,61,32]++bC b,dB c.text b a)
def HH{d:List Int}{f:List UInt8}{c:ef}{b:Int}(g:a.s.e=0):pI t d f c b a=if ay (dB c.text b a) 4 [44]=true then di t (13-(d++[b]).length) (d++[b]) (f++c.text++[32,61,32]++bC b++[44,32]) (aJ t (dB c.text b a))else (false,d++[b],f++c.text++[32,61,32]++bC b,dB c.text b a):=by
 unfold pI;rw[Y2 (by simpa using g)]
def pH{b:Nat}{c:List Int}{d:List UInt8}(f:a.s.e≠0):di t b c d a=(false,c,d,a):=by
 cases b with
 |zero=>rfl
 |succ b=>unfold di;rw[Y9 f]
def HG{nums:List Int}{out:List UInt8}{b:ef×ac}{v:(Int×Int)×ac}(e:a.s.e=0)(h:nums.length<=12)(f:aH t 2 (ar (ar nums.length 12 a).a1 40 (ar nums.length 12 a))=b)(g:aW t (-2147483648) 2147483647 (ab t 4 [61] b.2)=v):di t (13-nums.length) nums out a=pI t nums out b.1 v.1.1 (fK nums v.1.1 v.1.2 v.2):=by
 have c:13-nums.length=(12-nums.length)+1:=by omega
 have d:13-(nums++[v.1.1]).length=12-nums.length:=by simp
 unfold pI;rw[d,c];rw[di,Y2 (by simpa using e)];simp only[f,g];rfl
def oq(t:List UInt8)(b:List UInt8)(a:Bool×List Int×List UInt8×ac):ac:=
 if a.1=true then a.2.2.2
 else dW (a.2.2.1++[32,125,59,10]) (cY b (ab t 4 [59] (ab t 4 [125] a.2.2.2)).y.length (bK ⟨5,0,0,a.2.1,[],0,[],0⟩ (ab t 4 [59] (ab t 4 [125] a.2.2.2))))
def AJ{d:List UInt8}{b:List Int}{c:List UInt8}{a:ac}:oq t d (false,b,c,a)=dW (c++[32,125,59,10]) (cY d (ab t 4 [59] (ab t 4 [125] a)).y.length (bK ⟨5,0,0,b,[],0,[],0⟩ (ab t 4 [59] (ab t 4 [125] a)))):=rfl
def AK{d:List UInt8}{b:List Int}{c:List UInt8}{a:ac}:oq t d (true,b,c,a)=a:=rfl
def HK(i5:bu X d t b a c)(j2:b+100000<=1000000000):Calls prog 87 #[.pointer (some ⟨d,0,none⟩)] c (GP X d t (b+100000) (gG t a) (.tuple #[]) c):=by
 have f6:=Z (iL i5);obtain⟨i2,h0,h8,h9,i0⟩:=info_parts oy;have i1:(Value.int .i64 0).cells.size=1:=rfl;go_in;go_wp2_with fail;refine aB f6 (cC · 2 [101,110,117,109]) λl G=>?_;go_wp2_with fail;refine(rm G.j.a3 2 (by omega)).mono ?_;rintro F c9 ⟨rfl,c8,S,a8⟩;have H:=Z (G.j.call ⟨c8,S⟩);generalize c7:aH t 2 _=a1 at *
 obtain⟨n,f5⟩:=a1;have g2:=Z c7;simp only at H a8;have b7:=Z (H.j.G (oW n));go_wp2_with fail;refine aB b7 (cC · 4 [123]) λk9 a3=>?_;obtain⟨a9,b0,b1,b2,b3,b4,b5,b6⟩:=a3.j.am (i:=0) rfl;have j8:¬(9223372036854775807<5+n.text.length):=by omega
 have j9:¬(9223372036854775807<5+n.text.length+3):=by omega
 have a5:U (gG t a=oq t n.text (di t 13 [] ([101,110,117,109,32]++n.text++[32,123,32]) (ab t 4 [123] f5))):=by
  show _=_;unfold gG oq;simp only[g2.j]
 generalize j3:ab t 4 [123] f5=d1 at *
 have w:=Z (a3.j.nil);go_wp2;go_loopw [3,4] (λa0 v j0=>∃(gT:Option Addr) (O:Nat) (f:List Int) (h:List UInt8) (j:ac),v=.slice gT f.length O/\a0=.string ⟨h.toArray⟩/\f.length<=12/\h.length<=2100+2100*f.length/\U (aE X d t (b+1+2*f.length) j [cW (.slice gT f.length O) f,.obj c9.heap.size (oW n)] c j0)/\U (di t (13-f.length) f h j=di t 13 [] ([101,110,117,109,32]++n.text++[32,123,32]) d1)) (λ_ v _=>14-jD v)
 case atStart=>exact⟨none,0,[],[101,110,117,109,32]++n.text++[32,123,32],d1,rfl,Yo Value.string (fs (by simp)),by simp,by simp;omega,w,Z rfl⟩
 case round=>
  obtain⟨gT,O,f,h,u,rfl,rfl,h1,j6,c3,a4⟩:=hrel;obtain⟨g,q⟩:=c3.j.a3;obtain⟨d4,d9,e0,e1,e2,e3,e4,e5,e6,d5,a6,d6,c5,d7,d8,z,R⟩:=q.am;by_cases a7:u.s.e=0
  .have g7:(u.s.e==0)=true:=by rw[a7];rfl
   have g1:=Z a7;go_wp2_with fail;refine aB c3 (kI · f.length 12) λl0 G=>?_;obtain⟨g,q⟩:=G.j.a3;obtain⟨-,-,-,-,-,-,-,-,-,-,-,-,c5,-,-,z,R⟩:=q.am;go_wp2_with fail;refine aB G (kI · (ar f.length 12 u).a1 40) λl1 d3=>?_;have f3:=(Dw (ar f.length 12 u).a1 40 (ar f.length 12 u)).u (oK (t:=t) 2 _);go_wp2_with fail;have j5:=a8;refine(rm d3.j.a3 2 (by omega)).mono ?_;rintro F l2 ⟨rfl,c8,S,a8⟩;have H:=Z (d3.j.call ⟨c8,S⟩);generalize c7:aH t 2 (ar (ar f.length 12 u).a1 40 (ar f.length 12 u))=a1 at *
   obtain⟨p,d0⟩:=a1;have g3:=Z c7;simp only at H a8;(try simp only at f3);have b7:=Z (H.j.G (oW p));go_wp2_with fail;refine aB b7 (cC · 4 [61]) λj1 a3=>?_;go_wp2_with fail;refine aB a3 (ua · (-2147483648) 2147483647 (by omega)) λk4 w=>?_;have h6:=sh (t:=t) (-2147483648) 2147483647 (ab t 4 [61] d0);have N:=Z (HG (t:=t) (nums:=f) (out:=h) g1.j h1 g3.j rfl);have f4:=Z (f3.u ((aP (t:=t) 4 [61] d0).u (hc (t:=t) (-2147483648) 2147483647 _)));(try simp only at N);generalize aW t (-2147483648) 2147483647 (ab t 4 [61] d0)=a1 at *
   obtain⟨⟨k,x⟩,o⟩:=a1;simp only at w h6 N f4;have g4:=Z (tf (dR.ct (w.j.b9 (i:=1) rfl)) (by omega) k);go_wp2_with fail;refine g4.j.mono ?_;rintro F k5 ⟨rfl,h7⟩;subst h7;obtain⟨g,q⟩:=w.j.a3;obtain⟨-,-,-,-,-,-,-,-,-,-,a6,-,-,-,-,z,R⟩:=q.am;by_cases r:o.s.e=0
   .have g8:(o.s.e==0)=true:=by rw[r];rfl
    have g9:(o.s.e != 0)=false:=by rw[r];rfl
    cases e8:f.contains k with
    |true=>
     have P:fK f k x o=bp 6 x o:=by unfold fK;rw[Y9 ⟨r,e8⟩]
     have f1:(bp 6 x o).s.e≠0:=by simp[bp,hp,r]
     have A:=Z (a5.j.trans (Yo (oq t n.text) (a4.j.symm.trans (N.j.trans (by rw[P];unfold pI;rw[Y9 f1]:_=(true,f,h,bp 6 x o))))));go_wp2_with fail;refine aB w (iV · 6 x) λC I=>?_;generalize bp 6 x o=D at *
     have j4:(D.s.e != 0)=true:=by simpa using f1
     obtain⟨g,q⟩:=I.j.a3;obtain⟨-,-,-,-,-,-,-,-,-,-,a6,-,-,-,-,z,R⟩:=q.am;go_wp2;go_end0;rw[A.j,AK];exact⟨rfl,(I.j.a4 (by omega)).fin⟩
    |false=>
     have P:fK f k x o=o:=by unfold fK;rw[Y2 (λB=>by rw[e8]at B;exact absurd B.2 (by simp))]
     have j7:f.length<12:=by
      rcases Yj f.length 12 with B|B
      .exact B
      .have z:=rB (n:=f.length) (m:=12) (by omega) u;exact absurd r (by rw[(f4.j z).1];exact z)
     have A:=Z (a4.j.symm.trans (N.j.trans ((Yo (pI t f h p k) P).trans (HH r))));obtain⟨a9,b0,b1,b2,b3,b4,b5,b6⟩:=w.j.am (i:=0) rfl;go_wp2_with fail;refine aB w (Bs · p.text k (by omega)) λC I=>?_;generalize dB p.text k o=D at *
     have h5:U (∀a0,(C.alloc a0).ownsRow 0 3 1 (.slice gT f.length O) f.length (f.map (Value.int .i64))):=Z (λa0=>aY (I.j.b9 (i:=1) rfl) ((ah [] C).G a0) (by simp));have h3:f.length+1<=maxLen:=by unfold maxLen;omega
     go_wp2_with (at_builtin;go_must (refine wpList_append_lies _ (by rfl) _ _ _ (by rfl) 0 3 i2 _ 1 8 underlying24 h0 h8 h9 i0 i1 (by omega) (.slice gT f.length O) f.length (f.map (Value.int .i64)) (by rfl) (h5.j _) ⟨C.heap.size,0,none⟩ 1 1 [.int .i64 k] (by rfl) (by rfl) (World.news_of_block (cs:=#[.int .i64 k]) (t:=3) (fr:=(0,0)) (heap_alloc_new C _)) (by simp[Value.oneCell']) (by omega) h3 (by omega) (by simp) (C.heap.size+1) (by simp) ?_;intro g6 g5 k6 f2 e9 e7 h2;have f8:=Z (I.j.j7 (i:=1) rfl ((ah [] C).G _) f2 e9 e7 (by simp));clear f2 e9 e7 h2));refine(ju k (by omega) (by omega) _).mono ?_;rintro F k7 ⟨rfl,S⟩;have b8:=Z (f8.j.O S);have h4:=jA k (by omega) (by omega);unfold bC at h4 A;generalize Lib.itoa k=y at *
     obtain⟨a9,b0,b1,b2,b3,b4,b5,b6⟩:=b8.j.am (i:=0) rfl;have k0:¬(9223372036854775807<h.length+p.text.length):=by omega
     have k1:¬(9223372036854775807<h.length+p.text.length+3):=by omega
     have k2:¬(9223372036854775807<h.length+p.text.length+3+y.length):=by omega
     go_wp2_with fail;refine(gd b8.j.a3 4 [44]).mono ?_;rintro F j1 ⟨rfl,rfl⟩;have d2:=Z (b8.j.bo);cases f0:ay D 4 [44]with
     |true=>
      have g0:U (di t (13-(f++[k]).length) (f++[k]) (h++p.text++[32,61,32]++y++[44,32]) (aJ t D)=di t 13 [] ([101,110,117,109,32]++n.text++[32,123,32]) d1):=Z (A.j.trans (by rw[Y9 f0])).symm;go_wp2_with fail;refine aB d2 (gJ ·) λk8 f7=>?_;have k3:¬(9223372036854775807<h.length+p.text.length+3+y.length+2):=by omega
      go_wp2;refine⟨⟨some ⟨g6,0,none⟩,g5,f++[k],h++p.text++[32,61,32]++y++[44,32],aJ t D,by simp,?_,by simp;omega,by simp;omega,?_,g0⟩,by simp[jD];omega⟩
      .exact Yo Value.string (fs (by simp))
      .have:=f7.j.a4 (N':=b+1+2*(f++[k]).length) (by simp;omega);exact Z (by simpa using this)
     |false=>
      have c2:=Z (a5.j.trans ((Yo (oq t n.text) (A.j.trans (by rw[Y2 (by simp[f0])]:_=(false,f++[k],h++p.text++[32,61,32]++y,D)))).trans AJ));go_wp2_with fail;refine aB d2 (cC · 4 [125]) λi6 b9=>?_;go_wp2_with fail;refine aB b9 (cC · 4 [59]) λi7 c0=>?_;have c1:=Z (c0.j);generalize ab t 4 [59] (ab t 4 [125] D)=E at *
      go_wp2_with fail;refine(oH (L:=[.obj c9.heap.size (oW n)]) ⟨5,0,0,f++[k],[],0,[],0⟩ (c1.j.nil.k4) (by omega)).mono ?_;rintro F i8 ⟨rfl,c4⟩;have J:=Z c4;obtain⟨a9,b0,b1,b2,b3,b4,b5,b6⟩:=J.j.am (i:=0) rfl;go_wp2_with fail;refine aB J (oO · n.text E.y.length (by omega)) λi9 M=>?_;generalize cY n.text E.y.length (bK ⟨5,0,0,f++[k],[],0,[],0⟩ E)=a2 at *
      obtain⟨g,q⟩:=M.j.a3;obtain⟨d4,d9,e0,e1,e2,e3,e4,e5,e6,d5,a6,d6,c5,d7,d8,z,R⟩:=q.am;have c6:=q.b0;unfold ac.sz at c6;have i3:¬(9223372036854775807<a2.j.length+(h.length+p.text.length+3+y.length)):=by omega
      have i4:¬(9223372036854775807<a2.j.length+(h.length+p.text.length+3+y.length)+4):=by omega
      go_wp2;go_end0;rw[c2.j];exact⟨rfl,((M.j.g1 (K:=50000) (s:=h++p.text++[32,61,32]++y++[32,125,59,10]) (fs (by simp)) (by simp;omega)).a4 (by omega)).fin⟩
   .have g8:(o.s.e==0)=false:=by rw[Yi];exact r
    have g9:(o.s.e != 0)=true:=by simpa using r
    have P:fK f k x o=o:=by unfold fK;rw[Y2 (λB=>r B.1)]
    have A:=Z (a5.j.trans (Yo (oq t n.text) (a4.j.symm.trans (N.j.trans (by rw[P];unfold pI;rw[Y9 r]:_=(true,f,h,o))))));go_wp2;go_end0;rw[A.j,AK];exact⟨rfl,(w.j.a4 (by omega)).fin⟩
  .have g7:(u.s.e==0)=false:=by rw[Yi];exact a7
   have f9:=Z (a4.j.symm.trans (pH a7));have c2:=Z (a5.j.trans ((Yo (oq t n.text) f9.j).trans AJ));go_wp2_with fail;refine aB c3 (cC · 4 [125]) λi6 b9=>?_;go_wp2_with fail;refine aB b9 (cC · 4 [59]) λi7 c0=>?_;have c1:=Z (c0.j);generalize ab t 4 [59] (ab t 4 [125] u)=E at *
   go_wp2_with fail;refine(oH (L:=[.obj c9.heap.size (oW n)]) ⟨5,0,0,f,[],0,[],0⟩ (c1.j.nil.k4) (by omega)).mono ?_;rintro F i8 ⟨rfl,c4⟩;have J:=Z c4;obtain⟨a9,b0,b1,b2,b3,b4,b5,b6⟩:=J.j.am (i:=0) rfl;go_wp2_with fail;refine aB J (oO · n.text E.y.length (by omega)) λi9 M=>?_;generalize cY n.text E.y.length (bK ⟨5,0,0,f,[],0,[],0⟩ E)=a2 at *
   obtain⟨g,q⟩:=M.j.a3;obtain⟨d4,d9,e0,e1,e2,e3,e4,e5,e6,d5,a6,d6,c5,d7,d8,z,R⟩:=q.am;have c6:=q.b0;unfold ac.sz at c6;have i3:¬(9223372036854775807<a2.j.length+h.length):=by omega
   have i4:¬(9223372036854775807<a2.j.length+h.length+4):=by omega
   go_wp2;go_end0;rw[c2.j];exact⟨rfl,((M.j.g1 (K:=50000) (s:=h++[32,125,59,10]) (fs (by simp)) (by simp;omega)).a4 (by omega)).fin⟩
end
section
variable {f l : Nat -> Prop} {d c N' : Nat} {t : List UInt8} {b h : ac} {g q p k u : World} {j : PV} {L : List Th} {i : Nat} {a o : Th}
def zc(t:List UInt8)(c:List Int)(e:List (List UInt8))(d:List UInt8)(a:jh)(b:ac):List Int×List UInt8×ac:=
 if ay b 4 [125]=true then (c++[a.r],d++a.d5++a.x.text++a.fA++[59,32],b)
 else dJ t (14-(c++[a.r]).length) (c++[a.r]) (e++[a.x.text]) (d++a.d5++a.x.text++a.fA++[59,32]) b
def tW{a:Nat}{d:List Int}{g:List (List UInt8)}{c:List UInt8}(f:b.s.e≠0):dJ t a d g c b=(d,c,b):=by
 cases a with
 |zero=>rfl
 |succ a=>unfold dJ;rw[Y9 f]
def Qu{a:List Int}{names:List (List UInt8)}{out:List UInt8}{c:jh×ac}(f:b.s.e=0)(h:a.length<=13)(g:bR t names false (ar a.length 12 b)=c):dJ t (14-a.length) a names out b=zc t a names out c.1 (ab t 4 [59] c.2):=by
 have d:14-a.length=(13-a.length)+1:=by omega
 have e:14-(a++[c.1.r]).length=13-a.length:=by simp
 unfold zc;rw[e,d];rw[dJ,Y2 (by simpa using f)];simp only[g]
def wn(t:List UInt8)(b:List UInt8)(a:List Int×List UInt8×ac):ac:=
 dW (a.2.1++[125,59,10]) (cY b (ab t 4 [59] (ab t 4 [125] a.2.2)).y.length (bK ⟨12,0,0,[],a.1,0,[],0⟩ (ab t 4 [59] (ab t 4 [125] a.2.2))))
def QB(j2:bu f d t c b g)(k6:c+100000<=1000000000):Calls prog 88 #[.pointer (some ⟨d,0,none⟩)] g (GP f d t (c+100000) (gx t b) (.tuple #[]) g):=by
 have g4:=Z (iL j2);obtain⟨i6,h6,i2,i3,i4⟩:=info_parts oy;have i5:(Value.int .i64 0).cells.size=1:=rfl;obtain⟨j3,j4,j5,j6,j7⟩:=info_parts pO;have j8:(Value.string ⟨#[]⟩).cells.size=1:=rfl;go_in;go_wp2_with fail;refine aB g4 (cC · 2 [115,116,114,117,99,116]) λk G=>?_;go_wp2_with fail;refine(rm G.j.a3 2 (by omega)).mono ?_;rintro b4 b6 ⟨rfl,c8,c7,g1⟩;have b1:=Z (G.j.call ⟨c8,c7⟩);generalize i0:aH t 2 _=c9 at *
 obtain⟨q,g3⟩:=c9;have g8:=Z i0;simp only at b1 g1;have b2:=Z (b1.j.G (oW q));go_wp2_with fail;refine aB b2 (cC · 4 [123]) λl8 H=>?_;obtain⟨a2,a3,a4,a5,a6,a7,a8,a9⟩:=H.j.am (i:=0) rfl;have l1:¬(9223372036854775807<7+q.text.length):=by omega
 have l2:¬(9223372036854775807<7+q.text.length+3):=by omega
 have d4:U (gx t b=wn t q.text (dJ t 14 [] [] ([115,116,114,117,99,116,32]++q.text++[32,123,32]) (ab t 4 [123] g3))):=by
  show _=_;unfold gx wn;simp only[g8.j]
 generalize k7:ab t 4 [123] g3=d0 at *
 have J:=Z (H.j.lv.nil);go_wp2;go_loopw [3,4,5] (λz v j9 k4=>∃(gT:Option Addr) (C:Nat) (s:Option Addr) (u:Nat) (l:List Int) (o:List (List UInt8)) (p:List UInt8) (h:ac),v=.slice gT l.length C/\j9=.slice s o.length u/\z=.string ⟨p.toArray⟩/\l.length<=13/\U (o.length=l.length)/\(h.s.e=0->l.length<=12)/\p.length<=2100+5000*l.length/\U (aE f d t (c+1+3*l.length) h [cW (.slice gT l.length C) l,bE (.slice s o.length u) o,.obj b6.heap.size (oW q)] g k4)/\U (dJ t (14-l.length) l o p h=dJ t 14 [] [] ([115,116,114,117,99,116,32]++q.text++[32,123,32]) d0)) (λ_ v _ _=>15-jD v)
 case atStart=>exact⟨none,0,none,0,[],[],[115,116,114,117,99,116,32]++q.text++[32,123,32],d0,rfl,rfl,Yo Value.string (fs (by simp)),by simp,Z rfl,by simp,by simp;omega,J,Z rfl⟩
 case round=>
  obtain⟨gT,C,s,u,l,o,p,A,rfl,rfl,rfl,h9,b5,h7,l0,c1,d3⟩:=hrel;obtain⟨j,D⟩:=c1.j.a3;obtain⟨d6,e3,e4,e5,e6,e7,e8,e9,f0,d7,d8,d9,e0,e1,e2,R,f3⟩:=D.am;by_cases P:A.s.e=0
  .have h5:(A.s.e==0)=true:=by rw[P];rfl
   have g6:=Z P;have k8:=h7 P;go_wp2_with fail;refine aB c1 (kI · l.length 12) λk5 G=>?_;have k9:=g1;go_wp2_with fail;have h3:ky (.slice s o.length u) o k5:=G.j.b9 (i:=1) (a:=bE (.slice s o.length u) o) rfl;have h4:∀c2,(Value.slice s o.length u).ownBlock=some c2->gU f [cW (.slice gT l.length C) l,bE (.slice s o.length u) o,.obj b6.heap.size (oW q)] c2:=λc2 c5=>qX (i:=1) (a:=bE (.slice s o.length u) o) rfl c5;have g9:=Z (xp G.j.a3 h3 h4 (by have:=b5.j;omega) false (by omega));refine g9.j.mono ?_;rintro b4 l9 ⟨rfl,c8,c7,i9,j0,j1⟩;have d1:=Z (G.j.call ⟨c8,c7⟩);have g0:=wk (t:=t) o false (ar l.length 12 A);have d5:=Z (Qu (t:=t) (names:=o) (out:=p) g6.j h9 rfl);generalize bR t o false (ar l.length 12 A)=c9 at *
   obtain⟨⟨w,x,y,r⟩,g2⟩:=c9;simp only at d1 i9 j0 j1 g0 d5;have b1:=Z (d1.j.G (oW r));have i1:=Z (g0.u (aP (t:=t) 4 [59] g2));go_wp2_with fail;refine aB b1 (cC · 4 [59]) λI b2=>?_;generalize ab t 4 [59] g2=B at *
   have f8:U (∀z,(I.alloc z).ownsRow 0 3 1 (.slice gT l.length C) l.length (l.map (Value.int .i64))):=Z (λz=>aY (b2.j.b9 (i:=1) (a:=cW (.slice gT l.length C) l) rfl) ((ah [] I).G z) (by simp));have f5:l.length+1<=maxLen:=by unfold maxLen;omega
   have f6:o.length+1<=maxLen:=by have:=b5.j;unfold maxLen;omega
   have f7:(o.length+1)*16<=140737488355328:=by have:=b5.j;omega
   go_wp2_with (at_builtin;(first|(refine wpList_append_lies _ (by rfl) _ _ _ (by rfl) 0 3 i6 _ 1 8 underlying24 h6 i2 i3 i4 i5 (by omega) (.slice gT l.length C) l.length (l.map (Value.int .i64)) (by rfl) (f8.j _) ⟨I.heap.size,0,none⟩ 1 1 [.int .i64 w] (by rfl) (by rfl) (World.news_of_block (cs:=#[.int .i64 w]) (t:=3) (fr:=(0,0)) (heap_alloc_new I _)) (by simp[Value.oneCell']) (by omega) f5 (by omega) (by simp) (I.heap.size+1) (by simp) ?_;intro h1 h0 E a0 S O c6;have H:=Z (b2.j.j7 (i:=1) rfl ((ah [] I).G _) a0 S O (by simp));clear a0 S O c6 f8 f5;(obtain⟨a2,a3,a4,a5,a6,a7,a8,a9⟩:=H.j.am (i:=0) rfl);have f9:U (∀z,(E.alloc z).ownsRow 0 9 1 (.slice s o.length u) o.length (o.map λa1=>Value.string ⟨a1.toArray⟩)):=Z (λz=>aY (H.j.b9 (i:=2) (a:=bE (.slice s o.length u) o) rfl) ((ah [] E).G z) (by simp)))|(refine wpList_append_lies _ (by rfl) _ _ _ (by rfl) 0 9 j3 _ 1 16 underlying30 j4 j5 j6 j7 j8 (by omega) (.slice s o.length u) o.length (o.map λa1=>Value.string ⟨a1.toArray⟩) (by rfl) (f9.j _) ⟨E.heap.size,0,none⟩ 1 1 [.string ⟨(r.text).toArray⟩] (by rfl) (by rfl) (World.news_of_block (cs:=#[.string ⟨(r.text).toArray⟩]) (t:=9) (fr:=(0,0)) (heap_alloc_new E _)) (by simp[Value.oneCell']) (by omega) f6 f7 (by simp) (E.heap.size+1) (by simp) ?_;intro f2 f1 l7 a0 S O c6;have J:=Z (H.j.h8 (i:=2) rfl ((ah [] E).G _) a0 S O (by simp));clear a0 S O c6 f9 f6 f7;(clear a2 a3 a4 a5 a6 a7 a8 a9;obtain⟨a2,a3,a4,a5,a6,a7,a8,a9⟩:=J.j.am (i:=0) rfl;have l3:¬(9223372036854775807<p.length+x.length):=(by omega);have l4:¬(9223372036854775807<p.length+x.length+r.text.length):=(by omega);have l5:¬(9223372036854775807<p.length+x.length+r.text.length+y.length):=(by omega);have l6:¬(9223372036854775807<p.length+x.length+r.text.length+y.length+2):=(by omega)))));have d2:=Z J.j.bo;refine(gd J.j.a3 4 [125]).mono ?_;rintro b4 E ⟨rfl,rfl⟩;have b3:=Z (d3.j.symm.trans d5.j);unfold zc at b3;simp only at b3;cases f4:ay B 4 [125]with
   |true=>
    have b9:=Z (d4.j.trans (Yo (wn t q.text) (b3.j.trans (by rw[Y9 f4]:_=(l++[w],p++x++r.text++y++[59,32],B)))));go_wp2_with fail;refine aB d2 (cC · 4 [125]) λk0 b7=>?_;go_wp2_with fail;refine aB b7 (cC · 4 [59]) λk1 b8=>?_;have c0:U (gx t b=dW (p++x++r.text++y++[59,32]++[125,59,10]) (cY q.text (ab t 4 [59] (ab t 4 [125] B)).y.length (bK ⟨12,0,0,[],l++[w],0,[],0⟩ (ab t 4 [59] (ab t 4 [125] B))))):=Z b9.j;generalize ab t 4 [59] (ab t 4 [125] B)=F at *
    go_wp2_with fail;refine(oH (L:=[bE (.slice (some ⟨f2,0,none⟩) (o.length+1) f1) (o++[r.text]),.obj b6.heap.size (oW q)]) ⟨12,0,0,[],l++[w],0,[],0⟩ (b8.j.nil) (by omega)).mono ?_;rintro b4 k2 ⟨rfl,c3⟩;have M:=Z c3;obtain⟨a2,a3,a4,a5,a6,a7,a8,a9⟩:=M.j.am (i:=1) rfl;go_wp2_with fail;refine aB M (oO · q.text F.y.length (by omega)) λk3 N=>?_;generalize cY q.text F.y.length (bK ⟨12,0,0,[],l++[w],0,[],0⟩ F)=b0 at *
    obtain⟨j,D⟩:=N.j.a3;obtain⟨d6,e3,e4,e5,e6,e7,e8,e9,f0,d7,d8,d9,e0,e1,e2,R,f3⟩:=D.am;have c4:=D.b0;unfold ac.sz at c4;have i7:¬(9223372036854775807<b0.j.length+(p.length+x.length+r.text.length+y.length+2)):=by omega
    have i8:¬(9223372036854775807<b0.j.length+(p.length+x.length+r.text.length+y.length+2)+3):=by omega
    go_wp2;go_end0;rw[c0.j];exact⟨rfl,((N.j.g1 (K:=90000) (s:=p++x++r.text++y++[59,32]++[125,59,10]) (fs (by simp)) (by simp;omega)).a4 (by omega)).fin⟩
   |false=>
    have g5:U (dJ t (14-(l++[w]).length) (l++[w]) (o++[r.text]) (p++x++r.text++y++[59,32]) B=dJ t 14 [] [] ([115,116,114,117,99,116,32]++q.text++[32,123,32]) d0):=Z (b3.j.trans (by rw[Y2 (by simp[f4])])).symm;have h8:B.s.e=0->(l++[w]).length<=12:=by
     intro h2;rcases Yj l.length 12 with c5|c5
     .simp;omega
     .have R:=rB (n:=l.length) (m:=12) (by omega) A;exact absurd h2 (by rw[(i1.j R).1];exact R)
    have g7:U ((o++[r.text]).length=(l++[w]).length):=Z (by have:=b5.j;simp;omega);go_wp2;refine⟨⟨some ⟨h1,0,none⟩,h0,some ⟨f2,0,none⟩,f1,l++[w],o++[r.text],p++x++r.text++y++[59,32],B,by simp,by simp,?_,by simp;omega,g7,h8,by simp;omega,?_,g5⟩,by simp[jD];omega⟩
    .exact Yo Value.string (fs (by simp))
    .have:=d2.j.a4 (N':=c+1+3*(l++[w]).length) (by simp;omega);exact Z (by simpa using this)
  .have h5:(A.s.e==0)=false:=by rw[Yi];exact P
   have b9:=Z (d4.j.trans (Yo (wn t q.text) (d3.j.symm.trans (tW P))));go_wp2_with fail;refine aB c1 (cC · 4 [125]) λk0 b7=>?_;go_wp2_with fail;refine aB b7 (cC · 4 [59]) λk1 b8=>?_;have c0:U (gx t b=dW (p++[125,59,10]) (cY q.text (ab t 4 [59] (ab t 4 [125] A)).y.length (bK ⟨12,0,0,[],l,0,[],0⟩ (ab t 4 [59] (ab t 4 [125] A))))):=Z b9.j;generalize ab t 4 [59] (ab t 4 [125] A)=F at *
   go_wp2_with fail;refine(oH (L:=[bE (.slice s o.length u) o,.obj b6.heap.size (oW q)]) ⟨12,0,0,[],l,0,[],0⟩ (b8.j.nil) (by omega)).mono ?_;rintro b4 k2 ⟨rfl,c3⟩;have M:=Z c3;obtain⟨a2,a3,a4,a5,a6,a7,a8,a9⟩:=M.j.am (i:=1) rfl;go_wp2_with fail;refine aB M (oO · q.text F.y.length (by omega)) λk3 N=>?_;generalize cY q.text F.y.length (bK ⟨12,0,0,[],l,0,[],0⟩ F)=b0 at *
   obtain⟨j,D⟩:=N.j.a3;obtain⟨d6,e3,e4,e5,e6,e7,e8,e9,f0,d7,d8,d9,e0,e1,e2,R,f3⟩:=D.am;have c4:=D.b0;unfold ac.sz at c4;have i7:¬(9223372036854775807<b0.j.length+p.length):=by omega
   have i8:¬(9223372036854775807<b0.j.length+p.length+3):=by omega
   go_wp2;go_end0;rw[c0.j];exact⟨rfl,((N.j.g1 (K:=90000) (s:=p++[125,59,10]) (fs (by simp)) (by simp;omega)).a4 (by omega)).fin⟩
end
section
variable {t : List UInt8} {σ a b : ac}
structure cz(σ a:ac):Prop where
 y:∃l,a.y=σ.y++l/\∀r∈l,r.b2=[]/\r.c0=[]
 F:a.F=σ.F
 kd:a.a1=σ.a1/\a.ae=σ.ae/\a.aa=σ.aa/\a.ak=σ.ak/\a.j=σ.j
def Sm.kd(b:Sm σ a):a.a1=σ.a1/\a.ae=σ.ae/\a.aa=σ.aa/\a.ak=σ.ak/\a.j=σ.j:=by
 rw[b];exact⟨rfl,rfl,rfl,rfl,rfl⟩
def Sm.al(b:Sm σ a):cz σ a:=⟨⟨[],by rw[b.y];simp,by simp⟩,b.F,b.kd⟩
def nO(σ:ac):cz σ σ:=⟨⟨[],by simp,by simp⟩,rfl,rfl,rfl,rfl,rfl,rfl⟩
def cz.u(o:cz σ a)(s:cz a b):cz σ b:=by
 obtain⟨⟨w,p,q⟩,r,e,f,g,h,i⟩:=o;obtain⟨⟨x,t,u⟩,v,j,k,l,m,n⟩:=s;refine⟨⟨w++x,by rw[t,p,YN],?_⟩,v.trans r,j.trans e,k.trans f,l.trans g,m.trans h,n.trans i⟩;intro d c;rcases Yn.1 c with c|c
 .exact q d c
 .exact u d c
def rt(a:be)(c:a.b2=[])(d:a.c0=[])(σ:ac):cz σ (bK a σ):=⟨⟨[a],rfl,by intro e b;simp at b;subst b;exact⟨c,d⟩⟩,rfl,rfl,rfl,rfl,rfl,rfl⟩
def HR(σ:ac):cz σ (iJ t σ).2:=by
 unfold iJ;split
 .exact(eD σ).al
 .split
  .exact(eD σ).al
  .exact nO σ
def xv(σ:ac):cz σ (ci t σ).2:=by
 unfold ci;split
 .exact nO σ
 .split
  .exact(eD σ).al.u (rt _ rfl rfl _)
  .split
   .exact(eD σ).al
   .split
    .exact(eD σ).al
    .split
     .exact(eD σ).al
     .split
      .exact(eD σ).al.u (HR _)
      .exact(tT σ).al
def mx(a:Bool)(σ:ac):Sm σ (bq t a σ).2:=by
 unfold bq;split
 .exact(an _ _ _).u ((fW _ _ _).u (an _ _ _))
 .simp only;split
  .exact(an _ _ _).u (an _ _ _)
  .exact(an _ _ _).u ((fW _ _ _).u (an _ _ _))
def gZ(c:List (List UInt8))(all:Bool)(σ:ac):Sm σ (bW t c all σ).2:=by
 unfold bW;simp only;generalize d:cK t σ=a;have b:Sm σ a.2:=by rw[<-d];exact jd σ
 generalize (if all=true then decide (0<=bA a.2 a.1.text)else c.contains a.1.text)=e
 split
 .exact b.u (wf _ _ _)
 .exact b
def HO(c:List (List UInt8))(all d:Bool)(σ:ac):cz σ (gt t c all d σ).2:=by
 unfold gt;simp only;generalize f:bW t c all (aJ t σ)=e;have a:cz σ e.2:=by rw[<-f];exact((eD _).u (gZ _ _ _)).al
 by_cases b:ay e.2 4 [91]=true/\d=true
 .rw[Y9 b];exact a.u ((mx _ _).al.u (rt _ rfl rfl _))
 .rw[Y2 b];exact a.u ((mx _ _).al.u (rt _ rfl rfl _))
def HN(h:List (List UInt8))(all:Bool)(σ:ac):cz σ (gq t h all σ).2:=by
 unfold gq;simp only;generalize i:ci t σ=b;have d:cz σ b.2:=by rw[<-i];exact xv _
 by_cases e:ay b.2 4 [42]=true
 .rw[Y9 e];exact d.u ((eD _).al.u ((gZ _ _ _).al.u (rt _ rfl rfl _)))
 .rw[Y2 e];generalize j:bW t h all b.2=c;have a:cz σ c.2:=by rw[<-j];exact d.u (gZ _ _ _).al
  by_cases f:ay c.2 4 [91]=true
  .rw[Y9 f];exact a.u ((mx _ _).al.u (rt _ rfl rfl _))
  .rw[Y2 f];by_cases g:ay c.2 4 [60]=true
   .rw[Y9 g];exact a.u ((mx _ _).al.u (rt _ rfl rfl _))
   .rw[Y2 g];exact a
def kG(a:List (List UInt8))(all:Bool)(σ:ac):cz σ (bR t a all σ).2:=by
 unfold bR;split
 .exact HO _ _ _ _
 .exact HN _ _ _
def mi(a:List (List UInt8))(σ:ac):cz σ (cf t a σ).2:=by
 unfold cf;split
 .exact((eD σ).u (an _ _ _)).al
 .exact(kG _ _ _).u (an _ _ _).al
def PA(of:Int)(v:(Int×Int)×ac):Sm v.2 (gV of v):=by
 unfold gV;split<;>rfl
def PB(c:List Int)(b a:Int)(σ:ac):Sm σ (fK c b a σ):=by
 unfold fK;split<;>rfl
def Qd(of:Int)(v:(Int×Int)×ac):aN v.2 (gV of v):=by
 unfold gV;split
 .exact kj _ _ _
 .exact ee _
def Qe(c:List Int)(b a:Int)(σ:ac):aN σ (fK c b a σ):=by
 unfold fK;split
 .exact kj _ _ _
 .exact ee _
def mY(of:Int):∀(c:Nat) (a:List Int) (d:List UInt8) (σ:ac),Sm σ (bU t of c a d σ).2/\aN σ (bU t of c a d σ).2/\a.length<=(bU t of c a d σ).1.1.length/\(σ.s.e=0->0<c->a.length<(bU t of c a d σ).1.1.length)/\((bU t of c a d σ).2.s.e=0->0<c->(bU t of c a d σ).1.1.length<=12):=by
 intro c;induction c with
 |zero=>intro a d σ;exact⟨rfl,ee σ,Y4 _,λ_ b=>absurd b (by omega),λ_ b=>absurd b (by omega)⟩
 |succ c w=>
  intro a d σ;by_cases f:σ.s.e=0
  .unfold bU;rw[Y2 (by simpa using f)];simp only;generalize l:aW t (eS of) (eR of) (ab t 2 [99,97,115,101] (ar a.length 12 σ))=v;have x:Sm σ v.2:=by rw[<-l];exact(cx _ _ _).u ((an _ _ _).u (fW _ _ _))
   have y:aN (ar a.length 12 σ) v.2:=by rw[<-l];exact(aP _ _ _).u (hc _ _ _)
   have h:=x.u ((PA of v).u ((PB a v.1.1 v.1.2 _).u (an (t:=t) 4 [58] _)));have z:=y.u ((Qd of v).u ((Qe a v.1.1 v.1.2 _).u (aP (t:=t) 4 [58] _)));change Sm σ (ab t 4 [58] (fK a v.1.1 v.1.2 (gV of v)))at h;have p:(if(if v.2.s.e=0/\4<of/\(fF v.2 of).b2.contains v.1.1=false then bp 8 v.1.2 v.2 else v.2).s.e=0/\a.contains v.1.1=true then bp 6 v.1.2 (if v.2.s.e=0/\4<of/\(fF v.2 of).b2.contains v.1.1=false then bp 8 v.1.2 v.2 else v.2)else (if v.2.s.e=0/\4<of/\(fF v.2 of).b2.contains v.1.1=false then bp 8 v.1.2 v.2 else v.2))=fK a v.1.1 v.1.2 (gV of v):=rfl
   rw[p];generalize ab t 4 [58] (fK a v.1.1 v.1.2 (gV of v))=i at *
   have k:i.s.e=0->a.length<12:=by
    intro q;rcases Yj a.length 12 with b|b
    .exact b
    .have j:=rB (n:=a.length) (m:=12) (by omega) σ;exact absurd q (by rw[(z j).1];exact j)
   by_cases g:ay i 2 [99,97,115,101]=true
   .rw[Y9 g];obtain⟨r,A,o,B,u⟩:=w (a++[v.1.1]) (d++[99,97,115,101,32]++bC v.1.1++[58,32]) i;refine⟨h.u r,λb=>absurd f b,?_,?_,?_⟩
    .rw[Yq,List.length_singleton]at o;omega
    .rw[Yq,List.length_singleton]at o;intro _ _;omega
    .intro b _;cases c with
     |zero=>
      have:=k (Bl g);simp[bU];omega
     |succ c=>exact u b (by omega)
   .rw[Y2 g];refine⟨h,λb=>absurd f b,by simp,by simp,?_⟩;intro b _;have:=k b;simp;omega
  .rw[Ae f];refine⟨rfl,ee σ,Y4 _,λb=>absurd b f,λb=>absurd b f⟩
def eB(e:bG σ)(c:cz σ a):bG a:=by
 intro h b f;rw[c.F]at b;obtain⟨j,g,_⟩:=c.y;obtain⟨d,i⟩:=e h b f;rw[g,Yq];exact⟨d,by omega⟩
def pX(e:bG σ)(d:Int)(f:d≠1):bG (aH t d σ).2:=by
 unfold aH;have b:=eB e (jd (t:=t) σ).al;split
 .exact b
 .split
  .exact eB b (wf _ _ _).al
  .intro g a c;simp only[Yn,Yc]at a;rcases a with a|rfl
   .exact b g a c
   .exact absurd c f
def mw(a:Int)(σ:ac):(aH t a σ).2.y=σ.y:=by
 unfold aH;split
 .rfl
 .split<;>rfl
def Mc(c:bG σ):0<=(bS t σ).1.1/\(4<(bS t σ).1.1->(bS t σ).1.1<σ.y.length):=by
 unfold bS;split
 .split
  .exact⟨by simp,by simp⟩
  .rename_i f b;have d:0<=bA σ σ.s.x.text:=by
    rcases Int.lt_or_le (bA σ σ.s.x.text) 0 with a|a
    .exact absurd (Y8 a) b
    .exact a
   have a:(bO σ).bb=1:=Classical.byContradiction λe=>b (Ya (Y8 e));have:=c _ (yg d) a;exact⟨this.1,λ_=>this.2⟩
 .split
  .split
   .exact⟨by simp,by simp⟩
   .split
    .exact⟨by simp,by simp⟩
    .split<;>exact⟨by simp,by simp⟩
  .exact⟨by simp,by simp⟩
def LW(a:σ.s.x.text.length<=2000):(bS t σ).1.2.length<=2000:=by
 unfold bS;split
 .split
  .simp
  .exact a
 .split
  .split
   .simp
   .split
    .simp
    .split<;>simp
  .simp
end
section
variable {t : List UInt8} {a b d : ac}
structure ed(a b:ac):Prop where
 c:a.a1<=b.a1
 t:a.ae<=b.ae
 p:a.aa.length<=b.aa.length
def nM(a:ac):ed a a:=⟨Int.le_refl _,Int.le_refl _,Y4 _⟩
def ed.u(e:ed a b)(f:ed b d):ed a d:=⟨Int.le_trans e.c f.c,Int.le_trans e.t f.t,Yz e.p f.p⟩
def cz.c5(f:cz a b):ed a b:=by
 obtain⟨_,_,c,d,e,_⟩:=f;exact⟨by rw[c];exact Int.le_refl _,by rw[d];exact Int.le_refl _,by rw[e];exact Y4 _⟩
def Sm.c5(c:Sm a b):ed a b:=c.al.c5
def rj(b:Int)(a:ac):ed a (aH t b a).2:=by
 unfold aH;split
 .exact(jd a).c5
 .split
  .exact((jd a).u (wf _ _ _)).c5
  .exact⟨Int.le_refl _,Int.le_refl _,Y4 _⟩
def Am(c:List UInt8)(b:Int)(a:ac):ed a (dB c b a)/\(dB c b a).a1=a.a1+1:=by
 unfold dB gw;simp only;split
 .exact⟨⟨by simp only;omega,Int.le_refl _,Y4 _⟩,rfl⟩
 .exact⟨⟨by simp only;omega,Int.le_refl _,Y4 _⟩,rfl⟩
def xi(c:List UInt8)(b:Int)(a:ac):ed a (cY c b a):=by
 unfold cY gw;split
 .exact⟨Int.le_refl _,Int.le_refl _,Y4 _⟩
 .exact nM a
def xh(b:be)(a:ac):ed a (bK b a):=⟨Int.le_refl _,Int.le_refl _,Y4 _⟩
def uF(b:List UInt8)(a:ac):ed a (dW b a):=⟨Int.le_refl _,Int.le_refl _,Y4 _⟩
def Gm(g:(fO t a).s.e=0):a.a1+1<=(fO t a).a1/\ed a (fO t a):=by
 unfold fO at *
 simp only at *
 generalize j:aH t 2 (ab t 2 [99,111,110,115,116] (ar a.a1 40 a))=b at *
 have h:ed a b.2:=by rw[<-j];exact((cx _ _ _).u (an _ _ _)).c5.u (rj _ _)
 generalize k:aW t (-2147483648) 4294967295 (ab t 4 [61] b.2)=v at *
 have f:ed a (ab t 4 [59] v.2):=by
  refine h.u ?_;rw[<-k];exact((an _ _ _).u ((fW _ _ _).u (an _ _ _))).c5
 split
 .rename_i d;rw[Y9 d]at g;exact absurd g d
 .obtain⟨l,m⟩:=Am b.1.text v.1.1 (ab t 4 [59] v.2);have i:=f.u (l.u (uF ([99,111,110,115,116,32]++b.1.text++[32,61,32]++bC v.1.1++[59,10]) _));refine⟨?_,i⟩;show a.a1+1<=(dB b.1.text v.1.1 (ab t 4 [59] v.2)).a1;rw[m];have:=f.c;omega
def Gx(a:ac):ed a (gi t a):=by
 unfold gi;simp only;generalize d:bR t [] true (ab t 2 [116,121,112,101,100,101,102] a)=c;have b:ed a c.2:=by rw[<-d];exact(an _ _ _).c5.u (kG _ _ _).c5
 split
 .exact b
 .exact b.u ⟨Int.le_refl _,Int.le_refl _,Y4 _⟩
def Gw:∀(b:Nat) (d:List Int) (c:List (List UInt8)) (e:List UInt8) (a:ac),ed a (dJ t b d c e a).2.2:=by
 intro b;induction b with
 |zero=>intro d c e a;exact nM a
 |succ b i=>
  intro d c e a;unfold dJ;split
  .exact nM a
  .simp only;generalize h:bR t c false (ar d.length 12 a)=g;have f:ed a (ab t 4 [59] g.2):=by rw[<-h];exact((cx _ _ _).al.u ((kG _ _ _).u (an _ _ _).al)).c5
   split
   .exact f
   .exact f.u (i _ _ _ _)
def Gv(a:ac):ed a (gx t a):=by
 unfold gx;exact(an _ _ _).c5.u ((rj _ _).u ((an _ _ _).c5.u ((Gw _ _ _ _ _).u (((an _ _ _).u (an _ _ _)).c5.u ((xh _ _).u ((xi _ _ _).u (uF _ _)))))))
def Gq:∀(c:Nat) (b:List Int) (f:List UInt8) (a:ac),ed a (di t c b f a).2.2.2:=by
 intro c;induction c with
 |zero=>intro b f a;exact nM a
 |succ c o=>
  intro b f a;unfold di;split
  .exact nM a
  .simp only;generalize m:aH t 2 (ar (ar b.length 12 a).a1 40 (ar b.length 12 a))=d;have j:ed a d.2:=by rw[<-m];exact((cx _ _ _).u (cx _ _ _)).c5.u (rj _ _)
   generalize n:aW t (-2147483648) 2147483647 (ab t 4 [61] d.2)=v;have k:ed a v.2:=by rw[<-n];exact j.u ((an _ _ _).u (fW _ _ _)).c5
   generalize l:(if v.2.s.e=0/\b.contains v.1.1=true then bp 6 v.1.2 v.2 else v.2)=i
   have g:ed a i:=by rw[<-l];exact k.u (jE _ _ _ _).c5
   split
   .exact g
   .have h:=g.u (Am d.1.text v.1.1 i).1;split
    .exact h.u ((eD _).c5.u (o _ _ _))
    .exact h
def Gp(a:ac):ed a (gG t a):=by
 unfold gG;simp only;generalize g:aH t 2 (ab t 2 [101,110,117,109] a)=b;have e:ed a b.2:=by rw[<-g];exact(an _ _ _).c5.u (rj _ _)
 generalize f:di t 13 [] ([101,110,117,109,32]++b.1.text++[32,123,32]) (ab t 4 [123] b.2)=d;have c:ed a d.2.2.2:=by rw[<-f];exact e.u ((an _ _ _).c5.u (Gq _ _ _ _))
 split
 .exact c
 .exact c.u (((an _ _ _).u (an _ _ _)).c5.u ((xh _ _).u ((xi _ _ _).u (uF _ _))))
def Gz(of:Int):∀(c:Nat) (b f:List Int) (d:List (List UInt8)) (e:List UInt8) (a:ac),ed a (dP t of c b f d e a).2:=by
 intro c;induction c with
 |zero=>intro b f d e a;exact nM a
 |succ c h=>
  intro b f d e a;unfold dP;split
  .exact nM a
  .simp only;have g:ed a (cf t d (bU t of (14-b.length) b [] a).2).2:=(mY (t:=t) of _ b [] a).1.c5.u (mi _ _).c5;split
   .exact g.u (h _ _ _ _ _)
   .exact g
def Gn(b:List (List UInt8))(a:ac):ed a (go t b a).2:=by
 unfold go;split
 .exact((eD _).u (an _ _ _)).c5.u (mi _ _).c5
 .exact nM a
def Gy(a:ac):ed a (fX t a):=by
 unfold fX;exact(an _ _ _).c5.u ((rj _ _).u (((an _ _ _).u (an _ _ _)).c5.u ((oJ _).c5.u ((jd _).c5.u (((an _ _ _).u (an _ _ _)).c5.u ((Gz _ _ _ _ _ _ _).u ((Gn _ _).u (((an _ _ _).u (an _ _ _)).c5.u ((xh _ _).u ((xi _ _ _).u (uF _ _)))))))))))
def sW(a:ac):cz a (eC t a).2:=by
 unfold eC;split
 .exact(eD a).al
 .exact xv a
def ni(b:List Int)(a:ac):cz a (bD t b a).2:=by
 unfold bD;exact((an _ _ _).u ((fW _ _ _).u ((jE _ _ _ _).u (an _ _ _)))).al
def HQ:∀(b:Nat) (c:List bj) (e:List (List UInt8)) (d:List Int) (f:List UInt8) (a:ac),cz a (eZ t b c e d f a).2:=by
 intro b;induction b with
 |zero=>intro c e d f a;exact nO a
 |succ b r=>
  intro c e d f a;unfold eZ;split
  .exact nO a
  .simp only;generalize q:eC t (ar c.length 8 a)=j;have k:cz a j.2:=by rw[<-q];exact(cx _ _ _).al.u (sW _)
   generalize o:bW t e false j.2=i;have l:cz a i.2:=by rw[<-o];exact k.u (gZ _ _ _).al
   generalize n:eC t (ab t 4 [40] i.2)=g;have m:cz a g.2:=by rw[<-n];exact l.u ((an _ _ _).al.u (sW _))
   generalize p:bD t d (ab t 4 [41] g.2)=s;have h:cz a s.2:=by rw[<-p];exact m.u ((an _ _ _).al.u (ni _ _))
   split
   .exact h
   .exact h.u (r _ _ _ _ _)
def AN(b:List (List UInt8))(c:List Int)(a:ac):cz a (eG t b c a).2:=by
 unfold eG;exact(an _ _ _).al.u ((gZ _ _ _).al.u ((an _ _ _).al.u ((HQ _ _ _ _ _ _).u ((an _ _ _).al.u (ni _ _)))))
def sX:∀(c:Nat) (d:List (List UInt8)) (b:List Int) (all:List bj) (e:List UInt8) (a:ac),cz a (eq t c d b all e a).2:=by
 intro c;induction c with
 |zero=>intro d b all e a;exact nO a
 |succ c g=>
  intro d b all e a;unfold eq;split
  .exact nO a
  .simp only;have f:cz a (eG t d b (ar b.length 4 a)).2:=(cx _ _ _).al.u (AN _ _ _);split
   .exact f
   .exact f.u (g _ _ _ _ _)
def Gu(a:ac):ed a (gu t a)/\(gu t a).aa.length=a.aa.length+1:=by
 have j:ed a (ab t 4 [123] (aH t 2 (ab t 2 [112,114,111,103,114,97,109] (ar a.aa.length 4 a))).2):=((cx _ _ _).u (an _ _ _)).c5.u ((rj _ _).u (an _ _ _).c5);have i:(ab t 4 [123] (aH t 2 (ab t 2 [112,114,111,103,114,97,109] (ar a.aa.length 4 a))).2).aa=a.aa:=by
  show (aH t 2 (ab t 2 [112,114,111,103,114,97,109] (ar a.aa.length 4 a))).2.aa=_;have h:=((cx a.aa.length 4 a).u (an (t:=t) 2 [112,114,111,103,114,97,109] _)).kd.2.2.1;unfold aH;split
  .exact h
  .split<;>exact h
 unfold gu;simp only;generalize aH t 2 (ab t 2 [112,114,111,103,114,97,109] (ar a.aa.length 4 a))=b at *
 generalize k:eq t 6 [] [] [] ([112,114,111,103,114,97,109,32]++b.1.text++[32,123,32]) (ab t 4 [123] b.2)=v;have d:=sX (t:=t) 6 [] [] [] ([112,114,111,103,114,97,109,32]++b.1.text++[32,123,32]) (ab t 4 [123] b.2);rw[k]at d;have e:=d.u ((an (t:=t) 4 [125] v.2).al.u (ni (t:=t) (ab t 4 [125] v.2).aa _));have f:=j.u e.c5;have g:(bD t (ab t 4 [125] v.2).aa (ab t 4 [125] v.2)).2.aa=a.aa:=e.kd.2.2.1.trans i;refine⟨⟨f.c,f.t,?_⟩,?_⟩
 .simp[dW,g]
 .simp[dW,g]
end
section
variable {g n : Nat -> Prop} {f c N' : Nat} {t : List UInt8} {b h : ac} {d l o m p : World} {j : PV} {L : List Th} {i : Nat} {a a' : Th}
def aE.p0{a:List UInt8}{e:Nat}(h:aE g f t c b (.obj e (.cells #[.string ⟨a.toArray⟩] 9)::L) l d):aE g f t c b (bE (.slice (some ⟨e,0,none⟩) [a].length 1) [a]::L) l d:=by
 have j:=h.b6 (i:=0) (a':=bE (.slice (some ⟨e,0,none⟩) [a].length 1) [a]) rfl (ah [] d) (by simp) ⟨rfl,Ya ⟨e,1,#[.string ⟨a.toArray⟩],rfl,YV _,h.b8 (i:=0) rfl,by simp,by unfold maxLen;omega,rfl,rfl⟩⟩ (λm k=>Y8 k);exact j
def qy{of:Int}{a:Nat}{d g:List Int}{c:List (List UInt8)}{f:List UInt8}(h:b.s.e≠0):dP t of a d g c f b=((d,g,c,f),b):=by
 cases a with
 |zero=>rfl
 |succ a=>unfold dP;rw[Y9 h]
def FI(a:List (List UInt8))(b:ac):(cf t a b).1.2.2.length<=a.length+1:=by
 unfold cf;split
 .simp
 .simp
def zj(t:List UInt8)(of:Int)(e:Nat)(d:List Int)(c:List UInt8)(b:(List Int×List UInt8)×ac)(a:(Int×List UInt8×List (List UInt8))×ac):(List Int×List Int×List (List UInt8)×List UInt8)×ac:=
 if ay a.2 2 [99,97,115,101]=true then dP t of e b.1.1 (jX b.1.1.length a.1.1 d) a.1.2.2 (c++b.1.2++a.1.2.1) a.2 else ((b.1.1,jX b.1.1.length a.1.1 d,a.1.2.2,c++b.1.2++a.1.2.1),a.2)
def RJ{of:Int}{k:Nat}{d parts:List Int}{f:List (List UInt8)}{out:List UInt8}{c:(List Int×List UInt8)×ac}{a:(Int×List UInt8×List (List UInt8))×ac}(g:b.s.e=0)(i:bU t of (14-d.length) d [] b=c)(h:cf t f c.2=a):dP t of (k+1) d parts f out b=zj t of k parts out c a:=by
 unfold zj;rw[dP,Y2 (by simpa using g)];simp only[i,h]
def oQ(t:List UInt8)(b:List UInt8)(of:Int)(a:(List Int×List Int×List (List UInt8)×List UInt8)×ac):ac:=
 dW (a.1.2.2.2++(go t a.1.2.2.1 a.2).1.2++[125,59,10]) (cY b (ab t 4 [59] (ab t 4 [125] (go t a.1.2.2.1 a.2).2)).y.length (bK ⟨13,0,of,a.1.1,a.1.2.1,(go t a.1.2.2.1 a.2).1.1,[],0⟩ (ab t 4 [59] (ab t 4 [125] (go t a.1.2.2.1 a.2).2))))
def RO(q2:bu g f t c b d)(ok:bG b)(o9:∀N∈b.y,N.b2.length<=1000)(r0:c+200000<=1000000000):Calls prog 89 #[.pointer (some ⟨f,0,none⟩)] d (GP g f t (c+200000) (fX t b) (.tuple #[]) d):=by
 have l3:=Z (iL q2);have m3:=Z o9;have k7:=Z (eB (pX (t:=t) (eB ok (an (t:=t) 2 [117,110,105,111,110] b).al) 2 (by decide)) (((an (t:=t) 2 [115,119,105,116,99,104] _).u (an (t:=t) 4 [40] _)).al));have q3:=Z (mw (t:=t) 2 (ab t 2 [117,110,105,111,110] b));obtain⟨p5,n8,p1,p2,p3⟩:=info_parts oy;have p4:(Value.int .i64 0).cells.size=1:=rfl;go_in;go_wp2_with fail;refine aB l3 (cC · 2 [117,110,105,111,110]) λm i0=>?_;go_wp2_with fail;refine(rm i0.j.a3 2 (by omega)).mono ?_;rintro F b3 ⟨rfl,h1,g7,f1⟩;have i1:=Z (i0.j.call ⟨h1,g7⟩);generalize a1:aH t 2 (ab t 2 [117,110,105,111,110] b)=N at *
 obtain⟨n,a2⟩:=N;have m4:=Z a1;simp only at i1 f1;have l6:=Z (i1.j.G (oW n));have r3:=f1;go_wp2_with fail;refine aB l6 (cC · 2 [115,119,105,116,99,104]) λt6 l7=>?_;go_wp2_with fail;refine aB l7 (cC · 4 [40]) λt7 i2=>?_;have d1:U (fX t b=oQ t n.text (bS t (ab t 4 [40] (ab t 2 [115,119,105,116,99,104] a2))).1.1 (dP t (bS t (ab t 4 [40] (ab t 2 [115,119,105,116,99,104] a2))).1.1 14 [] [] [(cK t (bS t (ab t 4 [40] (ab t 2 [115,119,105,116,99,104] a2))).2).1.text] ([117,110,105,111,110,32]++n.text++[32,115,119,105,116,99,104,32,40]++(bS t (ab t 4 [40] (ab t 2 [115,119,105,116,99,104] a2))).1.2++[32]++(cK t (bS t (ab t 4 [40] (ab t 2 [115,119,105,116,99,104] a2))).2).1.text++[41,32,123,32]) (ab t 4 [123] (ab t 4 [41] (cK t (bS t (ab t 4 [40] (ab t 2 [115,119,105,116,99,104] a2))).2).2)))):=by
  show _=_;unfold fX oQ;simp only[m4.j]
 have k8:U ((ab t 4 [40] (ab t 2 [115,119,105,116,99,104] a2)).y=b.y):=Z q3.j;generalize ab t 4 [40] (ab t 2 [115,119,105,116,99,104] a2)=l1 at *
 have f0:=Mc (t:=t) k7.j;have o6:=LW (t:=t) i2.j.a3.c2;have k4:=Z ((oJ (t:=t) l1).y.trans k8.j);go_wp2_with fail;refine aB i2 (Mb · k7.j (by omega)) λt8 g0=>?_;generalize bS t l1=q1 at *
 obtain⟨⟨of,a8⟩,l2⟩:=q1;simp only at g0 f0 o6 k4 d1;rw[k8.j]at f0;go_wp2_with fail;refine(zs g0.j.a3).mono ?_;rintro F b4 ⟨⟨rfl,h1,g7⟩,f1⟩;have i3:=Z (g0.j.call ⟨h1,g7⟩);have k5:=Z ((jd (t:=t) l2).y.trans k4.j);generalize cK t l2=wr at *
 obtain⟨y,C⟩:=wr;simp only at i3 f1 d1 k5;have l8:=Z (i3.j.G (oW y));go_wp2_with fail;refine aB l8 (cC · 4 [41]) λt2 l4=>?_;go_wp2_with fail;refine aB l4 (cC · 4 [123]) λq6 f9=>?_;have k3:U ((ab t 4 [123] (ab t 4 [41] C)).y=b.y):=Z k5.j;generalize ab t 4 [123] (ab t 4 [41] C)=h9 at *
 obtain⟨f2,d0,f3,f4,f5,f6,f7,f8⟩:=f9.j.am (i:=0) rfl;obtain⟨s4,s5,s6,s7,s8,s9,t0,t1⟩:=f9.j.am (i:=1) rfl;have r6:¬(9223372036854775807<6+n.text.length):=by omega
 have r7:¬(9223372036854775807<6+n.text.length+9):=by omega
 have r8:¬(9223372036854775807<6+n.text.length+9+a8.length):=by omega
 have r9:¬(9223372036854775807<6+n.text.length+9+a8.length+1):=by omega
 have s0:¬(9223372036854775807<6+n.text.length+9+a8.length+1+y.text.length):=by omega
 have s1:¬(9223372036854775807<6+n.text.length+9+a8.length+1+y.text.length+4):=by omega
 have l5:=Z ((f9.j.G (.cells #[.string ⟨y.text.toArray⟩] 9)).p0.nil.nil);go_wp2;go_loopw [6,7,8,9] (λc8 v c9 q7 h6=>∃(gT:Option Addr) (c1:Nat) (d2:Option Addr) (e8:Nat) (S:Option Addr) (a0:Nat) (p u:List Int) (q:List (List UInt8)) (l:List UInt8) (h:ac) (E:Nat),v=.slice gT p.length c1/\c9=.slice d2 u.length e8/\q7=.slice S q.length a0/\c8=.string ⟨l.toArray⟩/\p.length<=13/\U (u.length=p.length)/\U (q.length<=1+p.length)/\(h.s.e=0->p.length<=12)/\l.length<=9000+6000*p.length/\U (14<=p.length+E)/\U (4<of->of<h.y.length)/\U (∀N∈h.y,N.b2.length<=1000)/\U (aE g f t (c+1+2*p.length) h [cW (.slice gT p.length c1) p,cW (.slice d2 u.length e8) u,bE (.slice S q.length a0) q,.obj b4.heap.size (oW y),.obj b3.heap.size (oW n)] d h6)/\U (dP t of E p u q l h=dP t of 14 [] [] [y.text] ([117,110,105,111,110,32]++n.text++[32,115,119,105,116,99,104,32,40]++a8++[32]++y.text++[41,32,123,32]) h9)) (λ_ v _ _ _=>15-jD v)
 case atStart=>exact⟨none,0,none,0,some ⟨q6.heap.size,0,none⟩,1,[],[],[y.text],[117,110,105,111,110,32]++n.text++[32,115,119,105,116,99,104,32,40]++a8++[32]++y.text++[41,32,123,32],h9,14,rfl,rfl,rfl,Yo Value.string (fs (by simp)),by simp,Z rfl,Z (by simp),by simp,by simp;omega,Z (by simp),Z (by rw[k3.j];exact f0.2),Z (by rw[k3.j];exact m3.j),l5,Z rfl⟩
 case round=>
  obtain⟨gT,c1,d2,e8,S,a0,p,u,q,l,A,E,rfl,rfl,rfl,rfl,r1,o8,b2,n9,r2,j5,j9,k2,b1,i5⟩:=hrel;obtain⟨j,D⟩:=b1.j.a3;obtain⟨d3,e0,e1,e2,e3,e4,e5,e6,e7,d4,d5,d6,d7,d8,d9,e9,c6⟩:=D.am;by_cases c5:A.s.e=0
  .have n4:(A.s.e==0)=true:=by rw[c5];rfl
   have i7:=Z c5;have o0:=n9 c5;have i4:=mY (t:=t) of (14-p.length) p [] A;have m5:=Z (Gi (b1.j.h3 (i:=0) (a:=cW (.slice gT p.length c1) p) rfl) of ⟨f0.1,j9.j⟩ k2.j o0 (by omega));go_wp2_with fail;refine m5.j.mono ?_;rintro F t3 ⟨k9,rfl,R,q0,k6⟩;obtain⟨j0,j2,g6⟩:=bY (R.w _ Yb);subst g6;have G:=Z (b1.j.c7 (i:=0) (a:=cW (.slice gT p.length c1) p) rfl R);generalize n5:bU t of (14-p.length) p [] A=m6 at *
   have m1:=Z n5;obtain⟨⟨o,x⟩,a9⟩:=m6;simp only at G q0 k6 i4;obtain⟨m8,q8,q9,m9,n0⟩:=i4;have r4:=m9 i7.j (by omega);have o4:=λa7=>n0 a7 (by omega);have i9:U (a9.y=A.y):=Z m8.y;have b8:=Z (wP (G.j.h3 (i:=2) (a:=bE (.slice S q.length a0) q) rfl) (by have:=b2.j;omega) (by omega));have b0:=Z (Yp (mi (t:=t) q a9) (Yp (wj (t:=t) q a9) (FI (t:=t) q a9)));go_wp2_with fail;refine b8.j.mono ?_;rintro F t4 ⟨d0,rfl,R,c7⟩;obtain⟨b9,c2,g6⟩:=bY (R.w _ Yb);subst g6;have M:=Z (G.j.c7 (i:=2) (a:=bE (.slice S q.length a0) q) rfl R);have i6:=Z (λE=>RJ (k:=E) (parts:=u) (out:=l) i7.j m1.j (rfl:cf t q a9=_));generalize cf t q a9=c0 at *
   obtain⟨⟨J,z,r⟩,w⟩:=c0;simp only at M c7 i6 b0;go_wp2;go_loopw [8] (λc9 h6=>∃(ad:Option Addr) (j1:Nat) (k:List Int),c9=.slice ad k.length j1/\k.length<=o.length/\U (k++List.replicate (o.length-k.length) J=jX o.length J u)/\U (aE g f t (c+1+2*p.length+2) w [cW (.slice j0 o.length j2) o,cW (.slice ad k.length j1) k,bE (.slice b9 r.length c2) r,.obj b4.heap.size (oW y),.obj b3.heap.size (oW n)] d h6)) (λc9 _=>20-jD c9)
   case atStart=>exact⟨d2,e8,u,rfl,by have:=o8.j;omega,Z rfl,M⟩
   case round=>
    obtain⟨g2,g3,k,rfl,r5,i8,a3⟩:=hrel;by_cases c6:k.length<o.length
    .have o2:(k.length:Int)<(o.length:Int):=by omega
     have m2:U ((k++[J])++List.replicate (o.length-(k++[J]).length) J=jX o.length J u):=Z (by
      rw[<-i8.j,show o.length-k.length=(o.length-(k++[J]).length)+1 by simp;omega,List.replicate_succ];simp)
     have k0:U (∀c8,(wr.alloc c8).ownsRow 0 3 1 (.slice g2 k.length g3) k.length (k.map (Value.int .i64))):=Z (λc8=>aY (a3.j.b9 (i:=1) rfl) ((ah [] wr).G c8) (by simp));have j8:k.length+1<=maxLen:=by unfold maxLen;omega
     go_wp2_with (at_builtin;(refine wpList_append_lies _ (by rfl) _ _ _ (by rfl) 0 3 p5 _ 1 8 underlying24 n8 p1 p2 p3 p4 (by omega) (.slice g2 k.length g3) k.length (k.map (Value.int .i64)) (by rfl) (k0.j _) ⟨wr.heap.size,0,none⟩ 1 1 [.int .i64 J] (by rfl) (by rfl) (World.news_of_block (cs:=#[.int .i64 J]) (t:=3) (fr:=(0,0)) (heap_alloc_new wr _)) (by simp[Value.oneCell']) (by omega) j8 (by omega) (by simp) (wr.heap.size+1) (by simp) ?_;intro n1 m7 t5 k1 j6 j4 o3;have l9:=Z (a3.j.j7 (i:=1) rfl ((ah [] wr).G _) k1 j6 j4 (by simp));clear k1 j6 j4 o3 k0 j8;skip));refine⟨⟨some ⟨n1,0,none⟩,m7,k++[J],by simp,by simp;omega,m2,?_⟩,by simp[jD];omega⟩;have:=l9.j;exact Z (by simpa using this)
    .have o2:¬((k.length:Int)<(o.length:Int)):=by omega
     have n6:U (jX o.length J u=k):=Z (by rw[<-i8.j,show o.length-k.length=0 by omega];simp);have s2:¬(9223372036854775807<l.length+x.length):=by omega
     have s3:¬(9223372036854775807<l.length+x.length+z.length):=by omega
     go_wp2_with fail;refine(gd a3.j.a3 2 [99,97,115,101]).mono ?_;rintro F l0 ⟨rfl,rfl⟩;obtain⟨E,rfl⟩:∃p6,E=p6+1:=⟨E-1,by have:=j5.j;omega⟩;have b6:=Z (i5.j.symm.trans (i6.j E));unfold zj at b6;simp only at b6;rw[n6.j]at b6;cases j7:ay w 2 [99,97,115,101]with
     |true=>
      have m0:U (dP t of E o k r (l++x++z) w=dP t of 14 [] [] [y.text] ([117,110,105,111,110,32]++n.text++[32,115,119,105,116,99,104,32,40]++a8++[32]++y.text++[41,32,123,32]) h9):=Z (b6.j.trans (by rw[Y9 j7])).symm;have n3:w.s.e=0->a9.s.e=0:=λa7=>Classical.byContradiction λj3=>j3 ((b0.j.2.1 j3).1.symm.trans a7);have g5:U (r.length<=1+o.length):=Z (by have:=b0.j.2.2;have:=b2.j;omega);have n7:U (14<=o.length+E):=Z (by have:=j5.j;omega);have o5:U (4<of->of<w.y.length):=Z (λa7=>by
       obtain⟨p9,g4,_⟩:=b0.j.1.y;have:=j9.j a7;rw[g4,i9.j,Yq];omega)
      have p0:U (∀N∈w.y,N.b2.length<=1000):=Z (λN a1=>by
       obtain⟨p9,g4,n2⟩:=b0.j.1.y;rw[g4,i9.j]at a1;rcases Yn.1 a1 with a1|a1
       .exact k2.j N a1
       .rw[(n2 N a1).1];simp)
      have a4:=Z (a3.j.a4 (N':=c+1+2*o.length) (by omega));have o7:U (k.length=o.length):=Z (by omega);have o1:(l++x++z).length<=9000+6000*o.length:=by simp;omega
      go_wp2;exact⟨⟨j0,j2,g2,g3,b9,c2,o,k,r,l++x++z,w,E,rfl,rfl,rfl,Yo Value.string (fs (by simp)),k6,o7,g5,λa7=>o4 (n3 a7),o1,n7,o5,p0,a4,m0⟩,by simp[jD];omega⟩
     |false=>
      have b7:=Z (d1.j.trans (Yo (oQ t n.text of) (b6.j.trans (by rw[Y2 (by simp[j7])]:_=((o,k,r,l++x++z),w)))));have g5:U (r.length<=1+o.length):=Z (by have:=b0.j.2.2;have:=b2.j;omega);have b2:=g5;go_wp2_with fail;refine(gd a3.j.a3 2 [100,101,102,97,117,108,116]).mono ?_;rintro F l0 ⟨rfl,rfl⟩;cases c4:ay w 2 [100,101,102,97,117,108,116]with
      |true=>
       go_wp2_with fail;refine aB a3 (gJ ·) λk9 g1=>?_;go_wp2_with fail;refine aB g1 (cC · 4 [58]) λq4 a4=>?_;have b8:=Z (wP (a4.j.h3 (i:=2) (a:=bE (.slice b9 (r).length c2) (r)) rfl) (by have:=b2.j;omega) (by omega));go_wp2_with fail;refine b8.j.mono ?_;rintro F q5 ⟨h7,rfl,R,c7⟩;have b5:=Z (a4.j.c7 (i:=2) (a:=bE (.slice b9 (r).length c2) (r)) rfl R);have O:U (fX t b=dW (l++x++z++([100,101,102,97,117,108,116,58,32]++(cf t (r) (ab t 4 [58] (aJ t w))).1.2.1)++[125,59,10]) (cY n.text (ab t 4 [59] (ab t 4 [125] (cf t (r) (ab t 4 [58] (aJ t w))).2)).y.length (bK ⟨13,0,of,o,k,(cf t (r) (ab t 4 [58] (aJ t w))).1.1,[],0⟩ (ab t 4 [59] (ab t 4 [125] (cf t (r) (ab t 4 [58] (aJ t w))).2))))):=Z (b7.j.trans (by unfold oQ go;simp only[c4,if_true]))
       generalize cf t (r) (ab t 4 [58] (aJ t w))=c0 at *
       obtain⟨⟨c3,P,h0⟩,h8⟩:=c0;simp only at b5 c7 O;have p7:¬(9223372036854775807<(l.length+x.length+z.length)+9):=by omega
       have p8:¬(9223372036854775807<(l.length+x.length+z.length)+9+P.length):=by omega
       go_wp2_with fail;refine aB b5 (cC · 4 [125]) λh2 G=>?_;go_wp2_with fail;refine aB G (cC · 4 [59]) λh3 M=>?_;generalize ab t 4 [59] (ab t 4 [125] h8)=B at *
       go_wp2_with fail;refine(oH (L:=[bE h7 h0,.obj b4.heap.size (oW y),.obj b3.heap.size (oW n)]) ⟨13,0,of,o,k,c3,[],0⟩ M.j (by omega)).mono ?_;rintro F h4 ⟨rfl,a5⟩;have H:=Z a5;obtain⟨f2,d0,f3,f4,f5,f6,f7,f8⟩:=H.j.am (i:=2) rfl;go_wp2_with fail;refine aB H (oO · n.text B.y.length (by omega)) λh5 I=>?_;generalize cY n.text B.y.length (bK ⟨13,0,of,o,k,c3,[],0⟩ B)=C at *
       obtain⟨j,D⟩:=I.j.a3;obtain⟨d3,e0,e1,e2,e3,e4,e5,e6,e7,d4,d5,d6,d7,d8,d9,e9,c6⟩:=D.am;have a6:=D.b0;unfold ac.sz at a6;have g8:¬(9223372036854775807<C.j.length+((l.length+x.length+z.length)+9+P.length)):=by omega
       have g9:¬(9223372036854775807<C.j.length+((l.length+x.length+z.length)+9+P.length)+3):=by omega
       go_wp2;go_end0;rw[O.j];exact⟨rfl,((I.j.g1 (K:=150000) (s:=l++x++z++([100,101,102,97,117,108,116,58,32]++P)++[125,59,10]) (fs (by simp)) (by simp;omega)).a4 (by omega)).fin⟩
      |false=>
       have O:U (fX t b=dW (l++x++z++[]++[125,59,10]) (cY n.text (ab t 4 [59] (ab t 4 [125] w)).y.length (bK ⟨13,0,of,o,k,-2,[],0⟩ (ab t 4 [59] (ab t 4 [125] w))))):=Z (b7.j.trans (by unfold oQ go;simp only[c4,Ye,if_false]))
       go_wp2_with fail;refine aB a3 (cC · 4 [125]) λh2 G=>?_;go_wp2_with fail;refine aB G (cC · 4 [59]) λh3 M=>?_;generalize ab t 4 [59] (ab t 4 [125] w)=B at *
       go_wp2_with fail;refine(oH (L:=[bE (.slice b9 (r).length c2) (r),.obj b4.heap.size (oW y),.obj b3.heap.size (oW n)]) ⟨13,0,of,o,k,(-2),[],0⟩ M.j (by omega)).mono ?_;rintro F h4 ⟨rfl,a5⟩;have H:=Z a5;obtain⟨f2,d0,f3,f4,f5,f6,f7,f8⟩:=H.j.am (i:=2) rfl;go_wp2_with fail;refine aB H (oO · n.text B.y.length (by omega)) λh5 I=>?_;generalize cY n.text B.y.length (bK ⟨13,0,of,o,k,(-2),[],0⟩ B)=C at *
       obtain⟨j,D⟩:=I.j.a3;obtain⟨d3,e0,e1,e2,e3,e4,e5,e6,e7,d4,d5,d6,d7,d8,d9,e9,c6⟩:=D.am;have a6:=D.b0;unfold ac.sz at a6;have g8:¬(9223372036854775807<C.j.length+(l.length+x.length+z.length)):=by omega
       have g9:¬(9223372036854775807<C.j.length+(l.length+x.length+z.length)+3):=by omega
       go_wp2;go_end0;rw[O.j];exact⟨rfl,((I.j.g1 (K:=150000) (s:=l++x++z++[]++[125,59,10]) (fs (by simp)) (by simp;omega)).a4 (by omega)).fin⟩
  .have n4:(A.s.e==0)=false:=by rw[Yi];exact c5
   have b7:=Z (d1.j.trans (Yo (oQ t n.text of) (i5.j.symm.trans (qy c5))));go_wp2_with fail;refine(gd b1.j.a3 2 [100,101,102,97,117,108,116]).mono ?_;rintro F l0 ⟨rfl,rfl⟩;cases c4:ay A 2 [100,101,102,97,117,108,116]with
   |true=>
    go_wp2_with fail;refine aB b1 (gJ ·) λk9 g1=>?_;go_wp2_with fail;refine aB g1 (cC · 4 [58]) λq4 a4=>?_;have b8:=Z (wP (a4.j.h3 (i:=2) (a:=bE (.slice S (q).length a0) (q)) rfl) (by have:=b2.j;omega) (by omega));go_wp2_with fail;refine b8.j.mono ?_;rintro F q5 ⟨h7,rfl,R,c7⟩;have b5:=Z (a4.j.c7 (i:=2) (a:=bE (.slice S (q).length a0) (q)) rfl R);have O:U (fX t b=dW (l++([100,101,102,97,117,108,116,58,32]++(cf t (q) (ab t 4 [58] (aJ t A))).1.2.1)++[125,59,10]) (cY n.text (ab t 4 [59] (ab t 4 [125] (cf t (q) (ab t 4 [58] (aJ t A))).2)).y.length (bK ⟨13,0,of,p,u,(cf t (q) (ab t 4 [58] (aJ t A))).1.1,[],0⟩ (ab t 4 [59] (ab t 4 [125] (cf t (q) (ab t 4 [58] (aJ t A))).2))))):=Z (b7.j.trans (by unfold oQ go;simp only[c4,if_true]))
    generalize cf t (q) (ab t 4 [58] (aJ t A))=c0 at *
    obtain⟨⟨c3,P,h0⟩,h8⟩:=c0;simp only at b5 c7 O;have p7:¬(9223372036854775807<l.length+9):=by omega
    have p8:¬(9223372036854775807<l.length+9+P.length):=by omega
    go_wp2_with fail;refine aB b5 (cC · 4 [125]) λh2 G=>?_;go_wp2_with fail;refine aB G (cC · 4 [59]) λh3 M=>?_;generalize ab t 4 [59] (ab t 4 [125] h8)=B at *
    go_wp2_with fail;refine(oH (L:=[bE h7 h0,.obj b4.heap.size (oW y),.obj b3.heap.size (oW n)]) ⟨13,0,of,p,u,c3,[],0⟩ M.j (by omega)).mono ?_;rintro F h4 ⟨rfl,a5⟩;have H:=Z a5;obtain⟨f2,d0,f3,f4,f5,f6,f7,f8⟩:=H.j.am (i:=2) rfl;go_wp2_with fail;refine aB H (oO · n.text B.y.length (by omega)) λh5 I=>?_;generalize cY n.text B.y.length (bK ⟨13,0,of,p,u,c3,[],0⟩ B)=C at *
    obtain⟨j,D⟩:=I.j.a3;obtain⟨d3,e0,e1,e2,e3,e4,e5,e6,e7,d4,d5,d6,d7,d8,d9,e9,c6⟩:=D.am;have a6:=D.b0;unfold ac.sz at a6;have g8:¬(9223372036854775807<C.j.length+(l.length+9+P.length)):=by omega
    have g9:¬(9223372036854775807<C.j.length+(l.length+9+P.length)+3):=by omega
    go_wp2;go_end0;rw[O.j];exact⟨rfl,((I.j.g1 (K:=150000) (s:=l++([100,101,102,97,117,108,116,58,32]++P)++[125,59,10]) (fs (by simp)) (by simp;omega)).a4 (by omega)).fin⟩
   |false=>
    have O:U (fX t b=dW (l++[]++[125,59,10]) (cY n.text (ab t 4 [59] (ab t 4 [125] A)).y.length (bK ⟨13,0,of,p,u,-2,[],0⟩ (ab t 4 [59] (ab t 4 [125] A))))):=Z (b7.j.trans (by unfold oQ go;simp only[c4,Ye,if_false]))
    go_wp2_with fail;refine aB b1 (cC · 4 [125]) λh2 G=>?_;go_wp2_with fail;refine aB G (cC · 4 [59]) λh3 M=>?_;generalize ab t 4 [59] (ab t 4 [125] A)=B at *
    go_wp2_with fail;refine(oH (L:=[bE (.slice S (q).length a0) (q),.obj b4.heap.size (oW y),.obj b3.heap.size (oW n)]) ⟨13,0,of,p,u,(-2),[],0⟩ M.j (by omega)).mono ?_;rintro F h4 ⟨rfl,a5⟩;have H:=Z a5;obtain⟨f2,d0,f3,f4,f5,f6,f7,f8⟩:=H.j.am (i:=2) rfl;go_wp2_with fail;refine aB H (oO · n.text B.y.length (by omega)) λh5 I=>?_;generalize cY n.text B.y.length (bK ⟨13,0,of,p,u,(-2),[],0⟩ B)=C at *
    obtain⟨j,D⟩:=I.j.a3;obtain⟨d3,e0,e1,e2,e3,e4,e5,e6,e7,d4,d5,d6,d7,d8,d9,e9,c6⟩:=D.am;have a6:=D.b0;unfold ac.sz at a6;have g8:¬(9223372036854775807<C.j.length+l.length):=by omega
    have g9:¬(9223372036854775807<C.j.length+l.length+3):=by omega
    go_wp2;go_end0;rw[O.j];exact⟨rfl,((I.j.g1 (K:=150000) (s:=l++[]++[125,59,10]) (fs (by simp)) (by simp;omega)).a4 (by omega)).fin⟩
end
section
variable {f:bj->bj}
variable {l u : Nat -> Prop} {h g q : Nat} {t : List UInt8} {b z : ac} {c m y n o : World} {r : PV} {d : List Th} {i : Nat} {a w : Th}
def hI:bj:=⟨0,0,0,0,0⟩
def Bh:(prog.info? 288).map (λi=>(i.zero,i.size,i.bytes))=some (some (.agg #[.int .i64 0,.int .i64 0,.int .i64 0,.int .i64 0,.int .i64 0]),5,40):=by kernel_rfl
def MK{b:List bj}{ad:Option Addr}{d e:Nat}(a:(eE (.slice ad d e) b).At c):d=b.length:=by
 have f:c.ownsRow 0 288 5 (.slice ad d e) b.length (b.flatMap eh):=a;rcases f.2 with⟨a,j⟩|⟨i,g,h,a,_⟩
 .simp at a;omega
 .simp at a;exact a.2.1
def aE.k2{n u o k j:Nat}{e:List bj}{v:Value}{p':bj}(s:aE l h t g b d m c)(r:d[i]? = some (eE (.slice (some ⟨n,0,none⟩) u o) e))(A:k<e.length)(z:j<5)(C:eh p'=(eh (e.getD k hI)).set j v):aE l h t g b (d.set i (eE (.slice (some ⟨n,0,none⟩) u o) (e.set k p'))) m (c.setCell ⟨n,k*5+j,none⟩ v):=by
 have B:=MK (s.b9 (a:=eE (.slice (some ⟨n,0,none⟩) u o) e) r);subst B;have w:c.ownsRow 0 288 5 (.slice (some ⟨n,0,none⟩) e.length o) e.length (e.flatMap eh):=s.b9 (a:=eE (.slice (some ⟨n,0,none⟩) e.length o) e) r;have D:(e.flatMap eh).length=e.length*5:=w.1;refine s.b6 r ((ah [n] c).a6 (p:=⟨n,k*5+j,none⟩) (by simp) v) (λy q=>by simp at q;rw[q];rfl) ?_ (λy q=>Y8 q);have x:=tH w (i:=k*5+j) (by omega) v;rw[ta (f:=eh) (k:=5) (λ_=>rfl) e k j (e.getD k hI) p' v z (by simp[A]) C]at x;show World.ownsRow _ 0 _ 5 _ (e.set k p').length _;rw[YF];exact x
def vK{a:List bj}{ad:Option Addr}{j g k:Nat}(n:(eE (.slice ad j g) a).At c)(s:k<a.length):∃b,ad=some ⟨b,0,none⟩/\(∀i,c.frozen? ⟨b,i,none⟩=false)/\b<c.heap.size/\c.cell? ⟨b,k*5,none⟩=some (.int .i64 (a.getD k hI).prog)/\c.cell? ⟨b,k*5+1,none⟩=some (.int .i64 (a.getD k hI).d1):=by
 have l:c.ownsRow 0 288 5 (.slice ad j g) a.length (a.flatMap eh):=n;have m:=λu r=>ry (f:=eh) (k:=5) (λ_=>rfl) a k u r;have h:a[k]? = some (a.getD k hI):=by simp[s]
 obtain⟨b,v,d,o,q,t⟩:=kf l (m 0 (by omega) |>.trans (by rw[h];rfl));obtain⟨x,w,e,p,_⟩:=kf l (m 1 (by omega) |>.trans (by rw[h];rfl));rw[d]at e;simp at d e;obtain⟨rfl,rfl⟩:=e;exact⟨b,d.1,q,t,o,p⟩
def aE.l0{k:List Th}(f:Nat->Nat)(u:∀e j,e<k.length->j<k.length->e≠j->f e≠f j)(p:∀e a,k[e]? = some a->d[f e]? = some a)(n:aE l h t g b d m c):aE l h t g b k m c:=by
 have q:∀a∈k,a∈d:=by
  intro a i;obtain⟨e,v⟩:=List.getElem?_of_mem i;exact Yh (p e a v)
 refine⟨n.a3.cc ?_,n.fr,λa i=>n.w a (q a i),λa i=>n.aQ a (q a i),?_⟩
 .rintro x (o|⟨a,i,o⟩)
  .exact Y8 o
  .exact Ya ⟨a,q a i,o⟩
 .intro e j a r w i s;exact n.c8 (f e) (f j) a r (u e j (YB.1 i).1 (YB.1 s).1 w) (p e a i) (p j r s)
def aE.m4(i:aE l h t g b d m c):aE l h t g b (eE (.slice none 0 0) []::d) m c:=by
 refine⟨i.a3.cc ?_,i.fr,?_,?_,?_⟩
 .rintro o (f|⟨e,a,f⟩)
  .exact Y8 f
  .rcases Yg.1 a with rfl|a
   .simp[Th.ch,Value.ownBlock]at f
   .exact Ya ⟨e,a,f⟩
 .intro e a;rcases Yg.1 a with rfl|a
  .exact⟨rfl,Y8 ⟨rfl,rfl⟩⟩
  .exact i.w e a
 .intro e a o f;rcases Yg.1 a with rfl|a
  .simp[Th.ch,Value.ownBlock]at f
  .exact i.aQ e a o f
 .intro k n e r u a j s p q;cases k with
  |zero=>simp at a;subst a;simp[Th.ch,Value.ownBlock]at p
  |succ k=>
   cases n with
   |zero=>simp at j;subst j;simp[Th.ch,Value.ownBlock]at q
   |succ n=>exact i.c8 k n e r (by omega) (by simpa using a) (by simpa using j) s p q
def aE.o4{e j f:Nat}{v:Value}{a:List bj}{k:bj}(x:aE l h t g b d m c)(s:d[i]? = some (eE v a))(u:ai [] c n)(w:o.ownsRow 0 288 5 (.slice (some ⟨e,0,none⟩) (a.length+1) j) (a.length+1) (a.flatMap eh++eh k))(r:n.grownBy o v.ownBlock)(q:v.ownBlock=some e\/e=f)(p:n.heap.size=f):aE l h t g b (d.set i (eE (.slice (some ⟨e,0,none⟩) (a.length+1) j) (a++[k]))) m o:=by
 have:=x.bZ s u w r q p;simpa[eE]using this
def wa{b:List bj}{a:Nat}(c:a<b.length):((b.take a).map f++b.drop a).set a (f (b.getD a hI))=(b.take (a+1)).map f++b.drop (a+1):=by
 have d:b.drop a=b.getD a hI::b.drop (a+1):=by
  rw[Yk c];simp[c]
 rw[d,List.set_append_right _ _ (by simp;omega)];have:a-((b.take a).map f).length=0:=by simp;omega
 rw[this,List.set_cons_zero];rw[Yt c,List.map_append];simp[c]
def uQ{b:List bj}{a:Nat}(c:a<b.length):((b.take a).map f++b.drop a).getD a hI=b.getD a hI:=by
 have d:b.drop a=b.getD a hI::b.drop (a+1):=by
  rw[Yk c];simp[c]
 rw[d,List.getD_eq_getElem?_getD,Yw (by simp;omega)];have:a-((b.take a).map f).length=0:=by simp;omega
 rw[this];simp
def rF{a:List bj}{b:Nat}:((a.take b).map f++a.drop b).length=a.length:=by
 simp;omega
def yB(t:List UInt8)(e:List bj)(i:List (List UInt8))(h:List Int)(g:List UInt8)(d:Int×List UInt8)(f:ef)(a:Int×List UInt8)(c:Int)(b:ac):(List bj×List UInt8)×ac:=
 if ay b 4 [125]=true then ((e++[⟨0,0,c,a.1,d.1⟩],g++d.2++[32]++f.text++[40]++a.2++[41,32,61,32]++bC c++[59,32]),b)
 else eZ t (10-(e++[(⟨0,0,c,a.1,d.1⟩:bj)]).length) (e++[⟨0,0,c,a.1,d.1⟩]) (i++[f.text]) (h++[c]) (g++d.2++[32]++f.text++[40]++a.2++[41,32,61,32]++bC c++[59,32]) b
def CG{a:Nat}{c:List bj}{h:List (List UInt8)}{g:List Int}{d:List UInt8}(f:b.s.e≠0):eZ t a c h g d b=((c,d),b):=by
 cases a with
 |zero=>rfl
 |succ a=>unfold eZ;rw[Y9 f]
def MP{c:List bj}{h:List (List UInt8)}{g:List Int}{out:List UInt8}{e a:(Int×List UInt8)×ac}{f:ef×ac}{d:Int×ac}(k:b.s.e=0)(p:c.length<=9)(o:eC t (ar c.length 8 b)=e)(m:bW t h false e.2=f)(l:eC t (ab t 4 [40] f.2)=a)(n:bD t g (ab t 4 [41] a.2)=d):eZ t (10-c.length) c h g out b=yB t c h g out e.1 f.1 a.1 d.1 d.2:=by
 have i:10-c.length=(9-c.length)+1:=by omega
 have j:10-(c++[(⟨0,0,d.1,a.1.1,e.1.1⟩:bj)]).length=9-c.length:=by simp
 unfold yB;rw[j,i];rw[eZ,Y2 (by simpa using k)];simp only[o,m,l,n]
def CZ(a:b.s.x.text.length<=2000):(eC t b).1.2.length<=2000:=by
 unfold eC;split
 .simp
 .unfold ci iJ;split
  .simp
  .split
   .exact a
   .split
    .simp
    .split
     .simp
     .split
      .simp
      .split
       .split
        .simp
        .split<;>simp
       .simp
def si(t:List UInt8)(d:List UInt8)(b:List Int)(a:(List bj×List UInt8)×ac):sE×ac:=
 (⟨d,(bD t b (ab t 4 [125] a.2)).1,a.1.1.map (λc=>{ c with d1:=(bD t b (ab t 4 [125] a.2)).1 }),a.1.2++[125,32,61,32]++bC (bD t b (ab t 4 [125] a.2)).1++[59,32]⟩,(bD t b (ab t 4 [125] a.2)).2)
def CK{b:Func}{Q:Ending->World->Prop}{a:Act}{i0 i1 i2 i3:Nat}{v0 v1 v2 v3:Value}(n:b.results=#[.tmp i0,.tmp i1,.tmp i2,.tmp i3])(d:a.tmps.getD i0 undef=v0)(f:a.tmps.getD i1 undef=v1)(h:a.tmps.getD i2 undef=v2)(j:a.tmps.getD i3 undef=v3)(l:a.defers=[])(m:Q (.returned (.tuple #[v0,v1,v2,v3])) c):bodyPost prog b Q .ret a c:=by
 refine bodyPost_ret (v:=.tuple #[v0,v1,v2,v3]) ?_ l m;unfold results;rw[n];have e:a.tmps[i0]?.getD undef=v0:=by simpa using d
 have g:a.tmps[i1]?.getD undef=v1:=by simpa using f
 have i:a.tmps[i2]?.getD undef=v2:=by simpa using h
 have k:a.tmps[i3]?.getD undef=v3:=by simpa using j
 simp[e,g,i,k,go_sem]
def tC(a:List Int)(b:ac):0<=(bD t a b).1/\(bD t a b).1<=4294967295:=by
 unfold bD;have:=sh (t:=t) 0 4294967295 (ab t 4 [61] b);simp only;omega
end
section
variable {g r : Nat -> Prop} {d b N' : Nat} {t : List UInt8} {j k : ac} {c w n p h : World} {o : PV} {q : List Th} {i : Nat} {a u : Th}
def EL(g:Nat->Prop)(d:Nat)(t:List UInt8)(b:Nat)(j:List (List UInt8))(k:List Int)(a:sE×ac)(c:World)(i:Ending)(n:World):Prop:=∃h f e,i=.returned (.tuple #[h,f,e,.string ⟨a.1.j.toArray⟩])/\aE g d t b a.2 [bE h (j++[a.1.ca]),cW f (k++[a.1.num]),eE e a.1.l] c n/\a.1.j.length<=100000/\a.1.l.length<=9
def Sj{v d1:Value}{C:List (List UInt8)}{r:List Int}(m:aE g d t b j [bE v C,cW d1 r] c c)(r2:C.length<=1000)(r3:r.length<=1000)(r0:b+100<=1000000000):Calls prog 146 #[.pointer (some ⟨d,0,none⟩),v,d1] c (EL g d t (b+20) C r (eG t C r j) c):=by
 obtain⟨g9,h2,rfl⟩:=bY (m.w _ Yb);obtain⟨c0,c2,rfl⟩:=bY (m.w _ (Y5 _ Yb));have j7:=Z m;obtain⟨e8,l9,m8,m9,n0⟩:=info_parts Bh;have n1:(Value.agg #[.int .i64 0,.int .i64 0,.int .i64 0,.int .i64 0,.int .i64 0]).cells.size=5:=by decide
 go_in;go_wp2_with fail;refine aB j7 (cC · 2 [118,101,114,115,105,111,110]) λp f3=>?_;have e1:=Z (zV (f3.j.h3 (i:=0) (a:=bE (.slice g9 C.length h2) C) rfl) (by omega) (by omega));go_wp2_with fail;refine e1.j.mono ?_;rintro P h ⟨j0,rfl,J,n5⟩;obtain⟨b9,c1,c8⟩:=bY (J.w _ Yb);subst c8;have f4:=Z (f3.j.c7 (i:=0) (a:=bE (.slice g9 C.length h2) C) rfl J);generalize m7:bW t C false (ab t 2 [118,101,114,115,105,111,110] j)=o6 at *
 have k9:=Z m7;obtain⟨y,j4⟩:=o6;simp only at f4 n5;have j8:=Z (f4.j.G (oW y));go_wp2_with fail;refine aB j8 (cC · 4 [123]) λt9 f5=>?_;obtain⟨o7,o8,o9,p0,p1,p2,p3,p4⟩:=f5.j.am (i:=0) rfl;have r7:¬(9223372036854775807<8+y.text.length):=by omega
 have r9:¬(9223372036854775807<8+y.text.length+3):=by omega
 have g6:U (eG t C r j=si t y.text r (eZ t 10 [] [] [] ([118,101,114,115,105,111,110,32]++y.text++[32,123,32]) (ab t 4 [123] j4))):=by
  show _=_;unfold eG si;simp only[k9.j]
 generalize r1:ab t 4 [123] j4=f0 at *
 have j9:=Z (f5.j.nil.lv.m4);go_wp2;go_loopw [11,12,13,14] (λd0 n7 o2 n8 d3=>∃(gT:Option Addr) (M:Nat) (a9:Option Addr) (b1:Nat) (b0:Option Addr) (b2:Nat) (l:List bj) (B:List (List UInt8)) (x:List Int) (q:List UInt8) (k:ac),n7=.slice gT l.length M/\o2=.slice a9 B.length b1/\n8=.slice b0 x.length b2/\d0=.string ⟨q.toArray⟩/\l.length<=9/\U (B.length=l.length)/\U (x.length=l.length)/\(k.s.e=0->l.length<=8)/\q.length<=2100+7000*l.length/\U (aE g d t (b+2*l.length) k [eE (.slice gT l.length M) l,bE (.slice a9 B.length b1) B,cW (.slice b0 x.length b2) x,.obj h.heap.size (oW y),bE (.slice b9 (C++[y.text]).length c1) (C++[y.text]),cW (.slice c0 r.length c2) r] c d3)/\U (eZ t (10-l.length) l B x q k=eZ t 10 [] [] [] ([118,101,114,115,105,111,110,32]++y.text++[32,123,32]) f0)) (λ_ v _ _ _=>15-jD v)
 case atStart=>exact⟨none,0,none,0,none,0,[],[],[],[118,101,114,115,105,111,110,32]++y.text++[32,123,32],f0,rfl,rfl,rfl,Yo Value.string (fs (by simp)),by simp,Z rfl,Z rfl,by simp,by simp;omega,j9,Z rfl⟩
 case round=>
  obtain⟨gT,M,a9,b1,b0,b2,l,B,x,q,a0,rfl,rfl,rfl,rfl,m4,i5,h7,m0,r6,e0,g5⟩:=hrel;obtain⟨o,l5⟩:=e0.j.a3;obtain⟨p5,q2,q3,q4,q5,q6,q7,q8,q9,p6,p7,p8,p9,q0,q1,e3,S⟩:=l5.am;by_cases c3:a0.s.e=0
  .have l6:(a0.s.e==0)=true:=by rw[c3];rfl
   have k2:=Z c3;have r4:=m0 c3;go_wp2_with fail;refine aB e0 (kI · l.length 8) λu0 f6=>?_;have n9:=CZ (t:=t) f6.j.a3.c2;have i6:=rZ (t:=t) (ar l.length 8 a0);go_wp2_with fail;refine aB f6 (Db · (by omega)) λj3 f9=>?_;generalize a5:eC t (ar l.length 8 a0)=a7 at *
   have k5:=Z a5;obtain⟨⟨I,F⟩,j5⟩:=a7;simp only at f9 n9 i6;have g0:=Z (f9.j.G (oW cd));have e1:=Z (zV (g0.j.h3 (i:=2) (a:=bE (.slice a9 B.length b1) B) rfl) (by have:=i5.j;omega) (by omega));have i7:=i6.u (lL (t:=t) B false j5);go_wp2_with fail;refine e1.j.mono ?_;rintro P u1 ⟨j1,rfl,J,n6⟩;obtain⟨g7,h0,c8⟩:=bY (J.w _ Yb);subst c8;have d7:=Z (g0.j.c7 (i:=2) (a:=bE (.slice a9 B.length b1) B) rfl J);generalize a5:bW t B false j5=a7 at *
   have k6:=Z a5;obtain⟨z,j6⟩:=a7;simp only at d7 n6 i7;have k0:=Z (d7.j.dN (i:=0) (R:=j3.heap.size) (y:=cd) rfl z);obtain⟨s7,s8,s9,t0,t1,t2,t3,t4⟩:=d7.j.am (i:=0) (R:=j3.heap.size) (x:=cd) rfl;go_wp2_with fail;refine aB k0 (cC · 4 [40]) λo1 g1=>?_;have o0:=CZ (t:=t) g1.j.a3.c2;have i8:=(i7.u (aP (t:=t) 4 [40] j6)).u (rZ (t:=t) _);go_wp2_with fail;refine aB g1 (Db · (by omega)) λt5 g2=>?_;generalize a5:eC t (ab t 4 [40] j6)=a7 at *
   have k7:=Z a5;obtain⟨⟨H,K⟩,f1⟩:=a7;simp only at g2 o0 i8;go_wp2_with fail;refine aB g2 (cC · 4 [41]) λt6 g3=>?_;have b8:=Z (ys (g3.j.h3 (i:=3) (a:=cW (.slice b0 x.length b2) x) rfl) (by have:=h7.j;omega) (by omega));have c7:=tC (t:=t) x (ab t 4 [41] f1);have i9:=Z ((i8.u (aP (t:=t) 4 [41] f1)).u (mA (t:=t) x _));go_wp2_with fail;refine b8.j.mono ?_;rintro P t7 ⟨j2,rfl,J⟩;obtain⟨g8,h1,c8⟩:=bY (J.w _ Yb);subst c8;have g4:=Z (g3.j.c7 (i:=3) (a:=cW (.slice b0 x.length b2) x) rfl J);generalize a5:bD t x (ab t 4 [41] f1)=a7 at *
   have k8:=Z a5;obtain⟨w,a8⟩:=a7;simp only at g4 c7 i9;go_wp2_with fail;refine(ju w (by omega) (by omega) _).mono ?_;rintro P b3 ⟨rfl,c9⟩;have f7:=Z (g4.j.O c9);have b7:=Z (g5.j.symm.trans (MP (out:=q) k2.j m4 k5.j k6.j k7.j k8.j));unfold yB at b7;simp only at b7;have h9:U (∀d0,(b3.alloc d0).ownsRow 0 288 5 (.slice gT l.length M) l.length (l.flatMap eh)):=Z (λd0=>aY (f7.j.b9 (i:=1) (a:=eE (.slice gT l.length M) l) rfl) ((ah [] b3).G d0) (by simp));have h6:l.length+1<=maxLen:=by unfold maxLen;omega
   have h8:∀d1∈eh ⟨0,0,w,H,I⟩,d1.oneCell'=true:=by
    intro d1 i4;simp[eh]at i4;rcases i4 with rfl|rfl|rfl|rfl<;>rfl
   have m6:=jA w (by omega) (by omega);unfold bC at m6 b7;generalize Lib.itoa w=N at *
   have s0:¬(9223372036854775807<q.length+F.length):=by omega
   have s1:¬(9223372036854775807<q.length+F.length+1):=by omega
   have s2:¬(9223372036854775807<q.length+F.length+1+z.text.length):=by omega
   have s3:¬(9223372036854775807<q.length+F.length+1+z.text.length+1):=by omega
   have s4:¬(9223372036854775807<q.length+F.length+1+z.text.length+1+K.length):=by omega
   have s5:¬(9223372036854775807<q.length+F.length+1+z.text.length+1+K.length+4):=by omega
   have s6:¬(9223372036854775807<q.length+F.length+1+z.text.length+1+K.length+4+N.length):=by omega
   have r8:¬(9223372036854775807<q.length+F.length+1+z.text.length+1+K.length+4+N.length+2):=by omega
   go_wp2_with (at_builtin;(refine wpList_append_lies _ (by rfl) _ _ _ (by rfl) 0 288 e8 _ 5 40 underlying60 l9 m8 m9 n0 n1 (by omega) (.slice gT l.length M) l.length (l.flatMap eh) (by rfl) (h9.j _) ⟨b3.heap.size,0,none⟩ 1 1 (eh ⟨0,0,w,H,I⟩) (by rfl) (by rfl) (World.news_of_block (cs:=(eh ⟨0,0,w,H,I⟩).toArray) (t:=288) (fr:=(0,0)) (heap_alloc_new b3 _)) h8 (by omega) h6 (by omega) (by simp) (b3.heap.size+1) (by simp) ?_;intro d5 d4 t8 i0 h4 h3 m5;have d6:=Z (f7.j.o4 (i:=1) rfl ((ah [] b3).G _) i0 h4 h3 (by simp));clear i0 h4 h3 m5 h9 h6 h8;obtain⟨o7,o8,o9,p0,p1,p2,p3,p4⟩:=d6.j.am (i:=0) rfl));refine(gd d6.j.a3 4 [125]).mono ?_;rintro P o1 ⟨rfl,rfl⟩;have f8:=Z d6.j.bo;cases h5:ay a8 4 [125]with
   |true=>
    have L:=Z (g6.j.trans (Yo (si t y.text r) (b7.j.trans (by rw[Y9 h5]:_=((l++[⟨0,0,w,H,I⟩],q++F++[32]++z.text++[40]++K++[41,32,61,32]++N++[59,32]),a8)))));have m3:l.length+1=(l++[(⟨0,0,w,H,I⟩:bj)]).length:=by simp
    have b4:=Z (f8.j.a4 (N':=b+2*(l.length+1)) (by omega));generalize l++[(⟨0,0,w,H,I⟩:bj)]=E at *
    simp only[List.set]at b4;rw[m3]at b4 ⊢;have r5:E.length<=9:=by omega
    go_wp2_with fail;refine aB b4 (cC · 4 [125]) λo3 b5=>?_;have b8:=Z (ys (b5.j.h3 (i:=5) (a:=cW (.slice c0 r.length c2) r) rfl) (by omega) (by omega));have c7:=tC (t:=t) r (ab t 4 [125] a8);go_wp2_with fail;refine b8.j.mono ?_;rintro P o4 ⟨d2,rfl,J⟩;have b6:=Z (b5.j.c7 (i:=5) (a:=cW (.slice c0 r.length c2) r) rfl J);unfold si at L;generalize bD t r (ab t 4 [125] a8)=e9 at *
    obtain⟨u,f2⟩:=e9;simp only at b6 c7 L;go_wp2;go_loopw [24] (λa6 d3=>∃(n:Nat) (A:List bj),a6=.int .i64 n/\n<=(E).length/\U (A=((E).take n).map (λG=>{ G with d1:=u })++(E).drop n)/\U (aE g d t (b+2*(E).length) f2 [eE (.slice (some ⟨d5,0,none⟩) (E).length d4) A,bE (.slice g7 (B++[z.text]).length h0) (B++[z.text]),cW (.slice g8 (x++[w]).length h1) (x++[w]),.obj h.heap.size (oW y),bE (.slice b9 (C++[y.text]).length c1) (C++[y.text]),cW d2 (r++[u])] c d3)) (λa6 _=>(E).length-(intOf a6).toNat)
    case atStart=>exact⟨0,E,rfl,by omega,Z (by simp),b6⟩
    case round=>
     obtain⟨n,A,rfl,c5,a2,a1⟩:=hrel;rcases Yj n (E).length with S|c4
     .have m2:(0:Int)<=↑n:=by omega
      have e6:(↑n:Int) < ↑(E).length:=by omega
      have c6:n<A.length:=by rw[a2.j,rF];exact S
      obtain⟨l1,e4,l7,l8,-,l3⟩:=vK (a1.j.b9 (i:=0) (a:=eE (.slice (some ⟨d5,0,none⟩) (E).length d4) A) rfl) c6;cases e4
      have a3:U (A.set n { A.getD n hI with d1:=u } = ((E).take (n+1)).map (λG=>{ G with d1:=u })++(E).drop (n+1)):=Z (by
       have e2:=wa (f:=λG:bj=>{ G with d1:=u }) S;rw[a2.j,uQ S];exact e2)
      have d8:=Z (a1.j.k2 (i:=0) (k:=n) (j:=1) (p':={ A.getD n hI with d1:=u }) (v:=.int .i64 u) rfl c6 (by omega) rfl);go_wp2;exact⟨⟨n+1,_,by go_num,by omega,a3,d8⟩,by simp[intOf];omega⟩
     .have e6:¬((↑n:Int) < ↑(E).length):=by omega
      have a3:U (A=(E).map (λG=>{ G with d1:=u })):=Z (by
       rw[a2.j,List.take_of_length_le c4,YR c4,YH])
      go_wp2_with fail;refine(ju u (by omega) (by omega) _).mono ?_;rintro P o5 ⟨rfl,c9⟩;have d9:=Z (a1.j.O c9);have e7:=jA u (by omega) (by omega);unfold bC at e7 L;generalize Lib.itoa u=a4 at *
      have n2:¬(9223372036854775807<(q.length+F.length+1+z.text.length+1+K.length+4+N.length+2)+4):=by omega
      have n3:¬(9223372036854775807<(q.length+F.length+1+z.text.length+1+K.length+4+N.length+2)+4+a4.length):=by omega
      have n4:¬(9223372036854775807<(q.length+F.length+1+z.text.length+1+K.length+4+N.length+2)+4+a4.length+2):=by omega
      go_wp2;refine CK (i0:=6) (i1:=7) (i2:=8) (i3:=9) (v0:=.slice b9 (C.length+1) c1) (v1:=d2) (v2:=.slice (some ⟨d5,0,none⟩) (E).length d4) (v3:=.string ⟨(q++F++[32]++z.text++[40]++K++[41,32,61,32]++N++[59,32]++[125,32,61,32]++a4++[59,32]).toArray⟩) ?_ ?_ ?_ ?_ ?_ ?_ ?_
      .rfl
      .rfl
      .rfl
      .rfl
      .exact Yo Value.string (fs (by simp))
      .rfl
      .rw[L.j];refine⟨_,_,_,rfl,?_,by simp;omega,by simp;omega⟩;rw[<-a3.j];exact(d9.j.a4 (by omega)).l0 (λD=>match D with|0=>4|1=>5|_=>0) (by intro D n e5 c5;simp at e5 c5;match D,n with|0,0=>simp|0,1=>simp|0,2=>simp|1,0=>simp|1,1=>simp|1,2=>simp|2,0=>simp|2,1=>simp|2,2=>simp|D+3,_=>omega|_,n+3=>omega) (by intro D l0 O;match D with|0=>simpa using O|1=>simpa using O|2=>simpa using O|D+3=>simp at O)
   |false=>
    have k1:U (eZ t (10-(l++[(⟨0,0,w,H,I⟩:bj)]).length) (l++[⟨0,0,w,H,I⟩]) (B++[z.text]) (x++[w]) (q++F++[32]++z.text++[40]++K++[41,32,61,32]++N++[59,32]) a8=eZ t 10 [] [] [] ([118,101,114,115,105,111,110,32]++y.text++[32,123,32]) f0):=Z (b7.j.trans (by rw[Y2 (by simp[h5])])).symm;have m1:a8.s.e=0->(l++[(⟨0,0,w,H,I⟩:bj)]).length<=8:=by
     intro l4;rcases Yj l.length 8 with l2|l2
     .simp;omega
     .have e3:=rB (n:=l.length) (m:=8) (by omega) a0;exact absurd l4 (by rw[(i9.j e3).1];exact e3)
    have k3:U ((B++[z.text]).length=(l++[(⟨0,0,w,H,I⟩:bj)]).length):=Z (by have:=i5.j;simp;omega);have k4:U ((x++[w]).length=(l++[(⟨0,0,w,H,I⟩:bj)]).length):=Z (by have:=h7.j;simp;omega);have b4:=Z (f8.j.a4 (N':=b+2*(l++[(⟨0,0,w,H,I⟩:bj)]).length) (by simp;omega));go_wp2;refine⟨⟨some ⟨d5,0,none⟩,d4,g7,h0,g8,h1,l++[⟨0,0,w,H,I⟩],B++[z.text],x++[w],q++F++[32]++z.text++[40]++K++[41,32,61,32]++N++[59,32],a8,by simp,by simp,by simp,?_,by simp;omega,k3,k4,m1,by simp;omega,?_,k1⟩,by simp[jD];omega⟩
    .exact Yo Value.string (fs (by simp))
    .have:=b4.j;exact Z (by simpa using this)
  .have l6:(a0.s.e==0)=false:=by rw[Yi];exact c3
   have L:=Z (g6.j.trans (Yo (si t y.text r) (g5.j.symm.trans (CG c3))));go_wp2_with fail;refine aB e0 (cC · 4 [125]) λo3 b5=>?_;have b8:=Z (ys (b5.j.h3 (i:=5) (a:=cW (.slice c0 r.length c2) r) rfl) (by omega) (by omega));have c7:=tC (t:=t) r (ab t 4 [125] a0);go_wp2_with fail;refine b8.j.mono ?_;rintro P o4 ⟨d2,rfl,J⟩;have b6:=Z (b5.j.c7 (i:=5) (a:=cW (.slice c0 r.length c2) r) rfl J);unfold si at L;generalize bD t r (ab t 4 [125] a0)=e9 at *
   obtain⟨u,f2⟩:=e9;simp only at b6 c7 L;go_wp2;go_loopw [24] (λa6 d3=>∃(n:Nat) (A:List bj),a6=.int .i64 n/\n<=(l).length/\U (A=((l).take n).map (λG=>{ G with d1:=u })++(l).drop n)/\U (aE g d t (b+2*(l).length) f2 [eE (.slice gT (l).length M) A,bE (.slice a9 B.length b1) B,cW (.slice b0 x.length b2) x,.obj h.heap.size (oW y),bE (.slice b9 (C++[y.text]).length c1) (C++[y.text]),cW d2 (r++[u])] c d3)) (λa6 _=>(l).length-(intOf a6).toNat)
   case atStart=>exact⟨0,l,rfl,by omega,Z (by simp),b6⟩
   case round=>
    obtain⟨n,A,rfl,c5,a2,a1⟩:=hrel;rcases Yj n (l).length with S|c4
    .have m2:(0:Int)<=↑n:=by omega
     have e6:(↑n:Int) < ↑(l).length:=by omega
     have c6:n<A.length:=by rw[a2.j,rF];exact S
     obtain⟨l1,e4,l7,l8,-,l3⟩:=vK (a1.j.b9 (i:=0) (a:=eE (.slice gT (l).length M) A) rfl) c6;cases e4
     have a3:U (A.set n { A.getD n hI with d1:=u } = ((l).take (n+1)).map (λG=>{ G with d1:=u })++(l).drop (n+1)):=Z (by
      have e2:=wa (f:=λG:bj=>{ G with d1:=u }) S;rw[a2.j,uQ S];exact e2)
     have d8:=Z (a1.j.k2 (i:=0) (k:=n) (j:=1) (p':={ A.getD n hI with d1:=u }) (v:=.int .i64 u) rfl c6 (by omega) rfl);go_wp2;exact⟨⟨n+1,_,by go_num,by omega,a3,d8⟩,by simp[intOf];omega⟩
    .have e6:¬((↑n:Int) < ↑(l).length):=by omega
     have a3:U (A=(l).map (λG=>{ G with d1:=u })):=Z (by
      rw[a2.j,List.take_of_length_le c4,YR c4,YH])
     go_wp2_with fail;refine(ju u (by omega) (by omega) _).mono ?_;rintro P o5 ⟨rfl,c9⟩;have d9:=Z (a1.j.O c9);have e7:=jA u (by omega) (by omega);unfold bC at e7 L;generalize Lib.itoa u=a4 at *
     have n2:¬(9223372036854775807<q.length+4):=by omega
     have n3:¬(9223372036854775807<q.length+4+a4.length):=by omega
     have n4:¬(9223372036854775807<q.length+4+a4.length+2):=by omega
     go_wp2;refine CK (i0:=6) (i1:=7) (i2:=8) (i3:=9) (v0:=.slice b9 (C.length+1) c1) (v1:=d2) (v2:=.slice gT (l).length M) (v3:=.string ⟨(q++[125,32,61,32]++a4++[59,32]).toArray⟩) ?_ ?_ ?_ ?_ ?_ ?_ ?_
     .rfl
     .rfl
     .rfl
     .rfl
     .exact Yo Value.string (fs (by simp))
     .rfl
     .rw[L.j];refine⟨_,_,_,rfl,?_,by simp;omega,by simp;omega⟩;rw[<-a3.j];exact(d9.j.a4 (by omega)).l0 (λD=>match D with|0=>4|1=>5|_=>0) (by intro D n e5 c5;simp at e5 c5;match D,n with|0,0=>simp|0,1=>simp|0,2=>simp|1,0=>simp|1,1=>simp|1,2=>simp|2,0=>simp|2,1=>simp|2,2=>simp|D+3,_=>omega|_,n+3=>omega) (by intro D l0 O;match D with|0=>simpa using O|1=>simpa using O|2=>simpa using O|D+3=>simp at O)
end
section
variable {j q : Nat -> Prop} {P h p : Nat} {t : List UInt8} {a w : ac} {b o d u f : World} {c : PV} {k : List Th} {i : Nat} {g r : Th}
def Ba(b:World)(a:Option Nat):b.grownBy b a:=⟨rfl,rfl,rfl,Y4 _,λ_ _ _=>rfl⟩
def ML(d:List bj):∀b∈d.flatMap eh,b.oneCell'=true:=by
 intro b c;obtain⟨e,_,a⟩:=List.mem_flatMap.1 c;simp[eh]at a;rcases a with rfl|rfl|rfl|rfl|rfl<;>rfl
def OH(b:World)(i:TypeId){v m:Value}{c a:List bj}(g:b.ownsRow 0 288 5 v c.length (c.flatMap eh))(h:b.ownsRow 0 288 5 m a.length (a.flatMap eh))(I:c.length+a.length<=1000000000) :
  ∃e d,(Builtin.append_ #[60,60] i #[v,m]).run prog b=.ok e d/\d.ownsRow 0 288 5 e (c++a).length ((c++a).flatMap eh)/\b.grownBy d v.ownBlock/\(e.ownBlock=v.ownBlock\/e.ownBlock=some b.heap.size):=by
 obtain⟨k,j,y,z,A⟩:=info_parts Bh;have B:(Value.agg #[.int .i64 0,.int .i64 0,.int .i64 0,.int .i64 0,.int .i64 0]).cells.size=5:=by decide
 rw[Yq,YK];rcases h.2 with⟨rfl,q⟩|⟨f,o,D,rfl,E,r,F,G,H,s⟩
 .have u:a=[]:=Yv.1 q;subst u;refine⟨v,b,run_append_owned_none (P:=prog) b 0 60 i 288 k 5 underlying60 j v c.length _ g,by simpa using g,Ba _ _,Y8 rfl⟩
 .obtain⟨e,d,w,C,p,_,n⟩:=run_append_own_at (P:=prog) b 0 60 i 288 k _ 5 40 underlying60 j y z A B (by omega) v c.length (c.flatMap eh) g ⟨f,0,none⟩ a.length o (a.flatMap eh) h.1 (by
   intro l J x;have t:(⟨f,0,none⟩:Addr).add l=⟨f,l,none⟩:=by unfold Addr.add;split<;>simp_all
   rw[t];exact cw r (by rw[h.1];exact s) x) (ML a) (by unfold maxLen;omega) (by omega) (YV _)
  exact⟨e,d,w,C,p,n⟩
def zv{f:Array Oper}{rest:List Oper}{c:Oper}{g:Act}{Q:Exit->Act->World->Prop}{b:World}(p:c.guard=none)(h i:Operand)
  (r:c.op=.call { callee:=.builtin .append,args:=#[h,i],argTypes:=#[60,60] }) {v y:Value} {l m:List bj} (t:g.eval h=v) (w:g.eval i=y) (u:b.ownsRow 0 288 5 v l.length (l.flatMap eh)) (x:b.ownsRow 0 288 5 y m.length (m.flatMap eh)) (q:l.length+m.length<=1000000000)
  (n:∀ad a d,d.ownsRow 0 288 5 (.slice ad (l++m).length a) (l++m).length ((l++m).flatMap eh)->b.grownBy d v.ownBlock->((Value.slice ad (l++m).length a).ownBlock=v.ownBlock\/(Value.slice ad (l++m).length a).ownBlock=some b.heap.size)->wpList prog f Q rest (g.put c.dst (.slice ad (l++m).length a)) d):wpList prog f Q (c::rest) g b:=by
 refine wpList_plain p λz o=>?_;obtain⟨A,d,s,e,k,j⟩:=OH b c.type u x q;obtain⟨ad,a,rfl⟩:=bY e;unfold Oper.wp execOp;simp only[r,resolve,invoke,builtin,Sem.run_bind,Sem.run_pure,Result.andThen_ok,List.map_toArray,List.map_cons,List.map_nil,t,w,s];exact o _ _ (n ad a d e k j)
def aE.o5{v:Value}{l c:List bj}{ad:Option Addr}{d:Nat}(u:aE j P t h a k o b)(r:k[i]? = some (eE v l))(s:f.ownsRow 0 288 5 (.slice ad c.length d) c.length (c.flatMap eh))(m:b.grownBy f v.ownBlock)(p:(Value.slice ad c.length d).ownBlock=v.ownBlock\/(Value.slice ad c.length d).ownBlock=some b.heap.size):aE j P t h a (k.set i (eE (.slice ad c.length d) c)) o f:=by
 refine u.b6 r (eL m) (λn m=>by simpa[Th.ch]using m) s ?_;intro n q;have e:(Value.slice ad c.length d).ownBlock=some n:=q;rcases p with g|g
 .left;rw[g]at e;exact e
 .right;rw[g]at e;simp at e;omega
def bg.l7{c:PV}{f:World}{ms:List bj}{ad:Option Addr}{q:Nat}(e:bg j P t h a c b)(y:b.grownBy f c.pv.ownBlock)(r:f.ownsRow 0 288 5 (.slice ad (a.ak++ms).length q) (a.ak++ms).length ((a.ak++ms).flatMap eh))(x:(Value.slice ad (a.ak++ms).length q).ownBlock=c.pv.ownBlock\/(Value.slice ad (a.ak++ms).length q).ownBlock=some b.heap.size) :
  bu j P t (h+ms.length) { a with ak:=a.ak++ms } (f.setCell ⟨P,9,none⟩ (.slice ad (a.ak++ms).length q)):=by
 rcases r.2 with⟨J,v⟩|⟨a1,S,a0,z,w,G,_⟩
 .have s:a.ak=[]:=by
   rw[Yq]at v;exact Yv.1 (by omega)
  have o:ms=[]:=by
   rw[Yq]at v;exact Yv.1 (by omega)
  subst o;have A:=eL y;have M:ai [P] f (f.setCell ⟨P,9,none⟩ (.slice none 0 0)):=(ah [P] f).a6 (p:=⟨P,9,none⟩) (by simp) _;have m:ai (c.pv.ownBlock.toList++[P]) b (f.setCell ⟨P,9,none⟩ (.slice none 0 0)):=A.cons M (λO o=>by simp_all) (λO o=>by simp_all);have p:∀d,c.pv.ownBlock≠some d->d≠P->d ∉ c.pv.ownBlock.toList++[P]:=λd F w=>by simp[F,w]
  have N:∀d∈c.bz,c.pv.ownBlock≠some d/\d≠P:=λd g=>⟨λk=>e.cq d g (iv k),λk=>e.cq d g (by rw[k];simp[PV.b7])⟩;have H:f.heap[P]? = b.heap[P]?:=A.K P (aj e.aD) (by simpa using e.nd.p);rw[J];have C:∀d,d∈({ c with pv:=.slice none 0 0 }:PV).b7 P->d∈c.b7 P:=by
   intro d g;simp only[PV.b7,Yg,Yn,Option.mem_toList]at g ⊢;rcases g with l|l|l|l|l
   .exact Y8 l
   .exact Ya (Y8 l)
   .exact Ya (Ya (Y8 l))
   .simp[Value.ownBlock]at l
   .exact Ya (Ya (Ya (Ya l)))
  refine⟨{ c with pv:=.slice none 0 0 },bv (i:=9) (H.trans e.aD) _,aY e.y m λd g=>p d (λk=>e.nd.rp d g k) (λk=>e.nd.r (by rw[g,k])),aY e.F m λd g=>p d (λk=>e.nd.np d g k) (λk=>e.nd.n (by rw[g,k])),?_,e.aa.bz m λd g=>p d (λk=>e.nd.pg d k g) (λk=>e.nd.g (by rw[g,k])),e.bc,?_,?_,λd g o=>e.cq d g (C d o),λd g=>e.b1 d (g.imp (C d) id),λd L=>Yr (e.bh d L) m.a2,e.fin,e.c2,e.c6,?_,e.cn⟩
  .simp only[s,YH];exact⟨rfl,Y8 ⟨rfl,rfl⟩⟩
  .intro i R B K s;obtain⟨D,E⟩:=e.gb i R B K s;have u:=λd g=>N d (hx s g);exact⟨D.bz m λd g=>p d (u d (Y8 g)).1 (u d (Y8 g)).2,E.bz m λd g=>p d (u d (Ya g)).1 (u d (Ya g)).2⟩
  .exact⟨e.nd.r,e.nd.n,by simp[Value.ownBlock],e.nd.g,e.nd.rn,by simp[Value.ownBlock],e.nd.rg,by simp[Value.ownBlock],e.nd.ng,by simp[Value.ownBlock]⟩
  .have:=e.b0;unfold ac.sz at *
   simp only[YH,List.length_nil];omega
 .have I:(a.ak++ms).length=a.ak.length+ms.length:=Yq;simp only[Value.slice.injEq]at z;obtain⟨rfl,-,rfl⟩:=z;rw[I]at r x ⊢;rw[YK]at r;refine⟨_,e.n5 y r ?_ (aj G)⟩;rcases x with l|l
  .exact Y8 l.symm
  .right;simpa[ea]using l
def zn(t:List UInt8)(c:List (List UInt8))(a:List Int)(all:List bj)(b:List UInt8)(v:sE×ac):(List bj×List UInt8)×ac:=
 if ay v.2 4 [125]=true then ((all++v.1.l,b++v.1.j),v.2)else eq t (6-(a++[v.1.num]).length) (c++[v.1.ca]) (a++[v.1.num]) (all++v.1.l) (b++v.1.j) v.2
def zm{b:Nat}{f:List (List UInt8)}{g:List Int}{all:List bj}{c:List UInt8}(d:a.s.e≠0):eq t b f g all c a=((all,c),a):=by
 cases b with
 |zero=>rfl
 |succ b=>unfold eq;rw[Y9 d]
def Sa{c:List (List UInt8)}{b:List Int}{all:List bj}{out:List UInt8}{v:sE×ac}(f:a.s.e=0)(h:b.length<=5)(g:eG t c b (ar b.length 4 a)=v):eq t (6-b.length) c b all out a=zn t c b all out v:=by
 have d:6-b.length=(5-b.length)+1:=by omega
 have e:6-(b++[v.1.num]).length=5-b.length:=by simp
 unfold zn;rw[e,d];rw[eq,Y2 (by simpa using f)];simp only[g]
def Qk:∀(b:Nat) (c:List bj) (f:List (List UInt8)) (d:List Int) (e:List UInt8) (a:ac),aN a (eZ t b c f d e a).2:=by
 intro b;cases b with
 |zero=>intro c f d e a;exact ee a
 |succ b=>
  intro c f d e a g;rw[CG g];exact⟨rfl,rfl⟩
def Qr(b:List (List UInt8))(c:List Int)(a:ac):aN a (eG t b c a).2:=by
 unfold eG;exact(aP _ _ _).u ((lL _ _ _).u ((aP _ _ _).u ((Qk _ _ _ _ _ _).u ((aP _ _ _).u (mA _ _)))))
end
section
variable {d w : Nat -> Prop} {b g N' : Nat} {t : List UInt8} {c j : ac} {h r k q u : World} {o : PV} {L R : List Th} {i : Nat} {a x : Th}
def Eu(i:aE d b t g c (L++R) r h):aE (gU d R) b t g c L h h:=by
 refine⟨i.a3.cc ?_,iN _ _,λe a=>i.w e (Yf _ a),?_,?_⟩
 .rintro k ((f|⟨e,a,f⟩)|⟨e,a,f⟩)
  .exact Y8 f
  .exact Ya ⟨e,Ym _ a,f⟩
  .exact Ya ⟨e,Yf _ a,f⟩
 .rintro e a k f (m|⟨l,j,m⟩)
  .exact i.aQ e (Yf _ a) k f m
  .obtain⟨n,p⟩:=List.getElem?_of_mem a;obtain⟨o,w⟩:=List.getElem?_of_mem j;have v:=(YB.1 p).1;exact i.c8 n (L.length+o) e l (by omega) (by rw[Ys v];exact p) (by rw[Yw (by omega)];simpa using w) k f m
 .intro n o e l u a j;have q:=(YB.1 a).1;have s:=(YB.1 j).1;exact i.c8 n o e l u (by rw[Ys q];exact a) (by rw[Ys s];exact j)
def Et{o:List Th}(u:aE d b t g c (L++R) r h)(f:aE (gU d R) b t N' j o h k):aE d b t N' j (o++R) r k:=by
 have y:∀e∈R,e.At k:=λe a=>(u.w e (Ym _ a)).fr f.fr λn m=>Ya ⟨e,a,m⟩;refine⟨f.a3.cc ?_,u.fr.u (f.fr.cc λ_ _ s=>Y8 s),?_,?_,?_⟩
 .rintro v (i|⟨e,a,i⟩)
  .exact Y8 (Y8 i)
  .rcases Yn.1 a with a|a
   .exact Ya ⟨e,a,i⟩
   .exact Y8 (Ya ⟨e,a,i⟩)
 .intro e a;rcases Yn.1 a with a|a
  .exact f.w e a
  .exact y e a
 .intro e a v i s;rcases Yn.1 a with a|a
  .exact f.aQ e a v i (Y8 s)
  .exact u.aQ e (Ym _ a) v i s
 .intro w x e p z a l n m q;rw[List.getElem?_append]at a l;split at a
  .split at l
   .exact f.c8 w x e p z a l n m q
   .exact f.aQ e (Yh a) n m (Ya ⟨p,Yh l,q⟩)
  .split at l
   .exact f.aQ p (Yh l) n q (Ya ⟨e,Yh a,m⟩)
   .rename_i A B;exact u.c8 (L.length+(w-o.length)) (L.length+(x-o.length)) e p (by omega) (by rw[Yw (by omega)];simpa using a) (by rw[Yw (by omega)];simpa using l) n m q
def aE.m5{o:PV}{j:ac}{q l k:World}{n m:Nat}{v:Int}(E:aE d b t g c L r q)(e:bg (gU d L) b t g j o l)(B:Fr (gU d L) q l)(C:j.aa=c.aa)(y:nQ o.gv c.aa v n m l k) :
  k.heap[b]? = some (lB t j.s (pB o j))/\aE d b t (g+1) { j with aa:=j.aa++[v] } L r (k.setCell ⟨b,15,none⟩ (.slice (some ⟨n,0,none⟩) (j.aa.length+1) m)):=by
 obtain⟨⟨F,u,h,z⟩,w,D⟩:=y;have x:=e.aA u;rw[<-C]at w;refine⟨x.js h e.nd.g,E.call ⟨⟨_,x.n6 h w z D⟩,?_⟩⟩;have A:Fr (gU d L) q k:=(B.c7 u (by simp)).c7 (eL h) (λf a i=>absurd i (e.b1 f (Y8 (jn (by simpa using a)))));exact A.c7 ((ah [b] k).a6 (p:=⟨b,15,none⟩) (by simp) _) (λf a i=>absurd i (e.b1 f (Y8 (by simp only[Yc]at a;rw[a];simp[PV.b7]))))
def Cn(b1:bg d b t g c o h){v:Value}{l:List Int}(R:dR v l h)(N:(∀a8,v.ownBlock=some a8->d a8)\/(v=o.gv/\l=c.aa))(d8:l.length<=1000000000)(d3:g<=1000000000):Calls prog 147 #[.pointer (some ⟨b,0,none⟩),v] h (zB d b t g o v l (bD t l c) h):=by
 have M:U (∀j k,bg d b t g j o k->j.aa=c.aa->Fr d h k->dR v l k):=Z (λj k d0 d1 d2=>by
  rcases N with N|⟨c7,c8⟩
  .exact oD R d2 N
  .rw[c7,c8,<-d1];exact d0.aa)
 obtain⟨gT,r,rfl⟩:=bY R;obtain⟨a3,P,S,a0,a1⟩:=info_parts oy;have a2:(Value.int .i64 0).cells.size=1:=rfl;have a4:=Z (Yp b1 (iN d h));clear b1 R N;go_in;go_wp2_with fail;refine(oV a4.j.1 4 [61]).mono ?_;rintro G q ⟨rfl,i,f⟩;have a5:=Z (Yp i (a4.j.2.u f));clear i f;go_wp2_with fail;refine(zl a5.j.1 0 4294967295 d3).mono ?_;rintro G u ⟨rfl,i,f⟩;have w:=Z (Yp i (a5.j.2.u f));clear i f;have H:=Ee (t:=t) 0 4294967295 (ab t 4 [61] c);generalize b0:aW t 0 4294967295 (ab t 4 [61] c)=d7 at *
 obtain⟨⟨n,a7⟩,F⟩:=d7;have O:=Z b0;simp only at w H;change F.aa=c.aa at H;clear b0;have a6:=Z (tf (M.j _ _ w.j.1 H w.j.2).ct (by omega) n);go_wp2_with fail;refine a6.j.mono ?_;rintro G e0 ⟨rfl,rfl⟩;obtain⟨b2,b9,c0,c1,c2,c3,c4,c5,c6,b3,b4,b5,b6,b7,b8,d5,d6⟩:=w.j.1.am;clear a6 b2 b9 c0 c1 c2 c3 c4 c5 c6 b3 b5 b6 b7 b8;by_cases E:F.s.e=0
 .have d4:(F.s.e==0)=true:=by rw[E];rfl
  cases a9:l.contains n with
  |true=>
   have I:U (bD t l c=(n,ab t 4 [59] (bp 6 a7 F))):=by
    show _=_;unfold bD;simp only[O.j,a9,E];simp
   clear E;go_wp2_with fail;refine(kH w.j.1 6 a7).mono ?_;rintro G d9 ⟨rfl,i,f⟩;have x:=Z (Yp i (w.j.2.u f));clear i f;clear b4 d5 d6;go_wp2_with fail;refine(oV x.j.1 4 [59]).mono ?_;rintro G a ⟨rfl,i,f⟩;have m:=Z (Yp i (x.j.2.u f));clear i f;have K:U (∀p,(a.alloc p).ownsRow 0 3 1 (.slice gT l.length r) l.length (l.map (Value.int .i64))):=Z (λp=>aY (M.j _ _ m.j.1 H m.j.2) ((ah [] a).G p) (by simp));go_wp2_with (at_builtin;go_must (refine wpList_append_lies _ (by rfl) _ _ _ (by rfl) 0 3 a3 _ 1 8 underlying24 P S a0 a1 a2 (by omega) (.slice gT l.length r) l.length (l.map (Value.int .i64)) (by rfl) (K.j _) ⟨a.heap.size,0,none⟩ 1 1 [.int .i64 n] (by rfl) (by rfl) (World.news_of_block (cs:=#[.int .i64 n]) (t:=3) (fr:=(0,0)) (heap_alloc_new a _)) (by simp[Value.oneCell']) (by omega) (by unfold maxLen;omega) (by omega) (by simp) (a.heap.size+1) (by simp) ?_;intro z y L D B A C;have J:U (nQ (.slice gT l.length r) l n z y a L):=Z ⟨⟨_,(ah [] a).G _,B,by simpa using A⟩,D,C⟩;clear D B A C));go_ret2;rw[I.j];exact⟨a,z,y,rfl,m.j.1,m.j.2,J.j⟩
  |false=>
   have I:U (bD t l c=(n,ab t 4 [59] F)):=by
    show _=_;unfold bD;simp only[O.j,a9];simp
   clear E;have x:=w;go_wp2_with fail;refine(oV x.j.1 4 [59]).mono ?_;rintro G a ⟨rfl,i,f⟩;have m:=Z (Yp i (x.j.2.u f));clear i f;have K:U (∀p,(a.alloc p).ownsRow 0 3 1 (.slice gT l.length r) l.length (l.map (Value.int .i64))):=Z (λp=>aY (M.j _ _ m.j.1 H m.j.2) ((ah [] a).G p) (by simp));go_wp2_with (at_builtin;go_must (refine wpList_append_lies _ (by rfl) _ _ _ (by rfl) 0 3 a3 _ 1 8 underlying24 P S a0 a1 a2 (by omega) (.slice gT l.length r) l.length (l.map (Value.int .i64)) (by rfl) (K.j _) ⟨a.heap.size,0,none⟩ 1 1 [.int .i64 n] (by rfl) (by rfl) (World.news_of_block (cs:=#[.int .i64 n]) (t:=3) (fr:=(0,0)) (heap_alloc_new a _)) (by simp[Value.oneCell']) (by omega) (by unfold maxLen;omega) (by omega) (by simp) (a.heap.size+1) (by simp) ?_;intro z y L D B A C;have J:U (nQ (.slice gT l.length r) l n z y a L):=Z ⟨⟨_,(ah [] a).G _,B,by simpa using A⟩,D,C⟩;clear D B A C));go_ret2;rw[I.j];exact⟨a,z,y,rfl,m.j.1,m.j.2,J.j⟩
 .have d4:(F.s.e==0)=false:=by rw[Yi];exact E
  have I:U (bD t l c=(n,ab t 4 [59] F)):=by
   show _=_;unfold bD;simp only[O.j];rw[Y2 (λc9=>E c9.1)]
  clear E;have x:=w;go_wp2_with fail;refine(oV x.j.1 4 [59]).mono ?_;rintro G a ⟨rfl,i,f⟩;have m:=Z (Yp i (x.j.2.u f));clear i f;have K:U (∀p,(a.alloc p).ownsRow 0 3 1 (.slice gT l.length r) l.length (l.map (Value.int .i64))):=Z (λp=>aY (M.j _ _ m.j.1 H m.j.2) ((ah [] a).G p) (by simp));go_wp2_with (at_builtin;go_must (refine wpList_append_lies _ (by rfl) _ _ _ (by rfl) 0 3 a3 _ 1 8 underlying24 P S a0 a1 a2 (by omega) (.slice gT l.length r) l.length (l.map (Value.int .i64)) (by rfl) (K.j _) ⟨a.heap.size,0,none⟩ 1 1 [.int .i64 n] (by rfl) (by rfl) (World.news_of_block (cs:=#[.int .i64 n]) (t:=3) (fr:=(0,0)) (heap_alloc_new a _)) (by simp[Value.oneCell']) (by omega) (by unfold maxLen;omega) (by omega) (by simp) (a.heap.size+1) (by simp) ?_;intro z y L D B A C;have J:U (nQ (.slice gT l.length r) l n z y a L):=Z ⟨⟨_,(ah [] a).G _,B,by simpa using A⟩,D,C⟩;clear D B A C));go_ret2;rw[I.j];exact⟨a,z,y,rfl,m.j.1,m.j.2,J.j⟩
def rO(t:List UInt8)(v:(List bj×List UInt8)×ac):ac:=
 dW (v.1.2++[125,32,61,32]++bC (bD t (ab t 4 [125] v.2).aa (ab t 4 [125] v.2)).1++[59,10]) { (bD t (ab t 4 [125] v.2).aa (ab t 4 [125] v.2)).2 with aa:=(bD t (ab t 4 [125] v.2).aa (ab t 4 [125] v.2)).2.aa++[(bD t (ab t 4 [125] v.2).aa (ab t 4 [125] v.2)).1],ak:=(bD t (ab t 4 [125] v.2).aa (ab t 4 [125] v.2)).2.ak++v.1.1.map (λa=>{ a with prog:=(bD t (ab t 4 [125] v.2).aa (ab t 4 [125] v.2)).1 }) }
def Do(a:List Int)(c:ac):Sm c (bD t a c).2:=by
 unfold bD;exact(an _ _ _).u ((fW _ _ _).u ((jE _ _ _ _).u (an _ _ _)))
def Nb(p:bu d b t g c h)(s9:g+1000000<=1000000000):Calls prog 83 #[.pointer (some ⟨b,0,none⟩)] h (GP d b t (g+1000000) (gu t c) (.tuple #[]) h):=by
 have k2:=Z (iL p);obtain⟨s5,i3⟩:=p;obtain⟨s6,s8,l0⟩:=bY i3.aa;obtain⟨-,-,-,-,-,-,-,-,-,-,-,-,-,-,a2,o2,p4⟩:=i3.am;rw[l0]at a2;clear i3 l0;go_in;go_wp2_with fail;refine aB k2 (kI · c.aa.length 4) λq k3=>?_;clear a2 o2 p4;go_wp2_with fail;refine aB k3 (cC · 2 [112,114,111,103,114,97,109]) λu g6=>?_;go_wp2_with fail;refine(rm g6.j.a3 2 (by omega)).mono ?_;rintro e1 b5 ⟨rfl,l4,b4,q4⟩;have g7:=Z (g6.j.call ⟨l4,b4⟩);clear l4 b4;generalize l3:aH t 2 (ab t 2 [112,114,111,103,114,97,109] (ar c.aa.length 4 c))=r1 at *
 obtain⟨F,l6⟩:=r1;have m2:=Z l3;simp only at g7 q4;clear l3;have k4:=Z (g7.j.G (oW F));go_wp2_with fail;refine aB k4 (cC · 4 [123]) λt8 g8=>?_;obtain⟨r7,r8,r9,s0,s1,s2,s3,s4⟩:=g8.j.am (i:=0) rfl;have t2:¬(9223372036854775807<8+F.text.length):=by omega
 have t3:¬(9223372036854775807<8+F.text.length+3):=by omega
 have e7:U (gu t c=rO t (eq t 6 [] [] [] ([112,114,111,103,114,97,109,32]++F.text++[32,123,32]) (ab t 4 [123] l6))):=by
  show _=_;unfold gu rO;simp only[m2.j]
 generalize o1:ab t 4 [123] l6=k1 at *
 clear o1;have k5:=Z (g8.j.m4.nil.lv);go_wp2;go_loopw [3,4,5,6] (λq7 v j8 r6 f9=>∃(gT:Option Addr) (c4:Nat) (b9:Option Addr) (c5:Nat) (J:Option Addr) (M:Nat) (z:List (List UInt8)) (k:List Int) (all:List bj) (B:List UInt8) (j:ac),v=.slice gT z.length c4/\j8=.slice b9 k.length c5/\r6=.slice J all.length M/\q7=.string ⟨B.toArray⟩/\k.length<=5/\U (z.length=k.length)/\U (all.length<=9*k.length)/\(j.s.e=0->k.length<=4)/\B.length<=2100+100000*k.length/\U (aE d b t (g+1+20*k.length) j [bE (.slice gT z.length c4) z,cW (.slice b9 k.length c5) k,eE (.slice J all.length M) all,.obj b5.heap.size (oW F)] h f9)/\U (eq t (6-k.length) z k all B j=eq t 6 [] [] [] ([112,114,111,103,114,97,109,32]++F.text++[32,123,32]) k1)) (λ_ _ j8 _ _=>15-jD j8)
 case atStart=>exact⟨none,0,none,0,none,0,[],[],[],[112,114,111,103,114,97,109,32]++F.text++[32,123,32],k1,rfl,rfl,rfl,Yo Value.string (fs (by simp)),by simp,Z rfl,Z (by simp),by simp,by simp;omega,k5,Z rfl⟩
 case round=>
  obtain⟨gT,c4,b9,c5,J,M,z,k,all,B,d8,rfl,rfl,rfl,rfl,p3,l2,g5,i6,t1,g0,e6⟩:=hrel;clear k5 g8 k4 g7 g6 k3 k2 r7 r8 r9 s0 s1 s2 s3 s4;obtain⟨o,k9⟩:=g0.j.a3;obtain⟨m4,m8,m9,n0,n1,n2,n3,n4,c3,f2,h9,m5,m6,m7,a2,e2,a1⟩:=k9.am;clear k9 m4 m8 m9 n0 n1 n2 n3 n4 c3 f2 m5 m6 m7 a2;by_cases d3:d8.s.e=0
  .have S:(d8.s.e==0)=true:=by rw[d3];rfl
   have l8:=Z d3;have t0:=i6 d3;clear d3 i6;go_wp2_with fail;refine aB g0 (kI · k.length 4) λt9 g9=>?_;clear h9 e2 a1;have e0:=Z (e6.j.symm.trans (Sa (all:=all) (out:=B) l8.j p3 rfl));have l5:=Z (Qr (t:=t) z k (ar k.length 4 d8));have k6:=Z (Sj (Eu (L:=[bE (.slice gT z.length c4) z,cW (.slice b9 k.length c5) k]) (R:=[eE (.slice J all.length M) all,.obj b5.heap.size (oW F)]) g9.j) (by have:=l2.j;omega) (by omega) (by omega));go_wp2_with fail;refine k6.j.mono ?_;rintro e1 u0 ⟨t7,t6,t5,rfl,f8,q6,q5⟩;clear k6;obtain⟨g1,g3,p9⟩:=bY (f8.w _ Yb);obtain⟨g2,g4,p8⟩:=bY (f8.w _ (Y5 _ Yb));obtain⟨k7,k8,p1⟩:=bY (f8.w _ (Y5 _ (Y5 _ Yb)));subst p9 p8 p1;have e3:=Z (Et (L:=[bE (.slice gT z.length c4) z,cW (.slice b9 k.length c5) k]) (R:=[eE (.slice J all.length M) all,.obj b5.heap.size (oW F)]) g9.j f8);clear f8;generalize eG t z k (ar k.length 4 d8)=r2 at *
   obtain⟨⟨nm,nu,G,b0⟩,d9⟩:=r2;unfold zn at e0;simp only at e3 q6 q5 e0 l5;have t4:¬(9223372036854775807<B.length+b0.length):=by omega
   go_wp2_with (at_builtin;(refine zv (by rfl) _ _ (by rfl) (l:=all) (m:=G) (v:=.slice J all.length M) (y:=.slice k7 G.length k8) (by rfl) (by rfl) (e3.j.b9 (i:=3) (a:=eE (.slice J all.length M) all) rfl) (e3.j.b9 (i:=2) (a:=eE (.slice k7 G.length k8) G) rfl) (by have:=g5.j;omega) ?_;intro c0 c6 u1 b3 b2 b1;have h0:=Z (e3.j.o5 (i:=3) (v:=.slice J all.length M) (l:=all) rfl b3 b2 b1);clear b3 b2 b1));refine(gd h0.j.a3 4 [125]).mono ?_;rintro e1 r3 ⟨rfl,rfl⟩;have h1:U (aE d b t (g+1+20*k.length+20) d9 [bE (.slice g1 (z++[nm]).length g3) (z++[nm]),cW (.slice g2 (k++[nu]).length g4) (k++[nu]),eE (.slice c0 (all++G).length c6) (all++G),.obj b5.heap.size (oW F)] h r3):=Z (h0.j.l0 (λa9=>match a9 with|0=>0|1=>1|2=>3|_=>4) (by intro a9 r o9 i7;simp at o9 i7;match a9,r with|0,0=>simp|0,1=>simp|0,2=>simp|0,3=>simp|1,0=>simp|1,1=>simp|1,2=>simp|1,3=>simp|2,0=>simp|2,1=>simp|2,2=>simp|2,3=>simp|3,0=>simp|3,1=>simp|3,2=>simp|3,3=>simp|a9+4,_=>omega|_,r+4=>omega) (by intro a9 s7 f5;match a9 with|0=>simpa using f5|1=>simpa using f5|2=>simpa using f5|3=>simpa using f5|a9+4=>simp at f5));clear h0 e3 g9 g0;cases l1:ay d9 4 [125]with
   |true=>
    have H:=Z (e7.j.trans (Yo (rO t) (e0.j.trans (by rw[Y9 l1]:_=((all++G,B++b0),d9)))));have p2:all.length+G.length=(all++G).length:=by simp
    have j0:(all++G).length<=100:=by have:=g5.j;simp;omega
    have h2:=Z (h1.j.a4 (N':=g+1+20*5) (by omega));clear e6 e7 e0 h1;generalize all++G=D at *
    rw[p2];go_wp2_with fail;refine aB h2 (cC · 4 [125]) λr4 e4=>?_;(try clear h9 e2 a1);unfold rO at H;simp only at H;generalize ab t 4 [125] d9=C at *
    obtain⟨h6,O⟩:=e4.j.a3;obtain⟨h8,i1,a0⟩:=bY O.aa;obtain⟨-,-,-,-,-,-,-,-,-,-,-,-,-,-,a2,i4,i9⟩:=O.am;rw[a0]at a2;have f4:=O.b0;unfold ac.sz at f4;have f1:=Z (Cn O (v:=.slice h8 C.aa.length i1) (l:=C.aa) (a0▸O.aa) (Ya ⟨a0.symm,rfl⟩) (by omega) (by omega));have j1:=tC (t:=t) C.aa C;have P:=Do (t:=t) C.aa C;have h4:=Z a0;clear O a0 f4;go_wp2_with fail;refine f1.j.mono ?_;rintro e1 j9 ⟨r5,n6,n5,rfl,d6,f3,a3⟩;clear f1;generalize bD t C.aa C=j4 at *
    obtain⟨A,x⟩:=j4;simp only at d6 j1 H a3 P;rw[<-h4.j]at a3;obtain⟨a5,c8⟩:=e4.j.m5 d6 f3 P.aa a3;have j5:j9.cell? ⟨b,15,none⟩=some h6.gv:=aS a5 rfl;have j6:=cG a5;have j7:=aj a5;rw[P.aa]at c8;have e5:=Z c8;have h5:=Z P.aa;have m1:=Z P;clear c8 a5 d6 f3 a3 a2 i4 i9 P;go_wp2;go_loopw [11] (λd5 f9=>∃(r:Nat) (w:List bj),d5=.int .i64 r/\r<=(D).length/\U (w=((D).take r).map (λp=>{ p with prog:=A })++(D).drop r)/\U (aE d b t (g+1+20*5+1) { x with aa:=C.aa++[A] } [bE (.slice g1 (z++[nm]).length g3) (z++[nm]),cW (.slice g2 (k++[nu]).length g4) (k++[nu]),eE (.slice c0 (D).length c6) w,.obj b5.heap.size (oW F)] h f9)) (λd5 _=>(D).length-(intOf d5).toNat)
    case atStart=>exact⟨0,D,rfl,by omega,Z (by simp),Z (e5.j.a4 (by omega))⟩
    case round=>
     obtain⟨r,w,rfl,i7,a4,I⟩:=hrel;clear e5 j5 j6 j7;rcases Yj r (D).length with a1|f6
     .have p0:(0:Int)<=↑r:=by omega
      have i8:(↑r:Int) < ↑(D).length:=by omega
      have f7:r<w.length:=by rw[a4.j,rF];exact a1
      obtain⟨n7,i5,o6,o7,n9,-⟩:=vK (I.j.b9 (i:=2) (a:=eE (.slice c0 (D).length c6) w) rfl) f7;cases i5
      have b8:U (w.set r { w.getD r hI with prog:=A } = ((D).take (r+1)).map (λp=>{ p with prog:=A })++(D).drop (r+1)):=Z (by
       have i2:=wa (f:=λp:bj=>{ p with prog:=A }) a1;rw[a4.j,uQ a1];exact i2)
      have h3:=Z (I.j.k2 (i:=2) (k:=r) (j:=0) (p':={ w.getD r hI with prog:=A }) (v:=.int .i64 A) rfl f7 (by omega) rfl);go_wp2;exact⟨⟨r+1,_,by go_num,by omega,b8,h3⟩,by simp[intOf];omega⟩
     .have i8:¬((↑r:Int) < ↑(D).length):=by omega
      have b8:U (w=(D).map (λp=>{ p with prog:=A })):=Z (by
       rw[a4.j,List.take_of_length_le f6,YR f6,YH])
      have p7:w.length<=100:=by rw[a4.j,rF];exact j0
      obtain⟨f0,N⟩:=I.j.a3;obtain⟨c1,c7,a8⟩:=bY N.ak;obtain⟨-,-,-,-,-,-,-,-,c3,-,-,-,-,-,-,o4,p6⟩:=N.am;rw[a8]at c3;have d1:=N.b0;unfold ac.sz at d1;change wr.cell? _=some (.slice c1 x.ak.length c7)at c3;have j3:U (wr.ownsRow 0 288 5 (.slice c1 x.ak.length c7) x.ak.length (x.ak.flatMap eh)):=Z (a8▸N.ak);have E:=Z (Yp N a8);have o5:x.ak.length<=g+200:=by simp only at d1;omega
      clear N a8 d1;go_wp2_with (at_builtin;(refine zv (by rfl) _ _ (by rfl) (l:=x.ak) (m:=w) (v:=.slice c1 x.ak.length c7) (y:=.slice c0 (D).length c6) (by rfl) (by rfl) j3.j (I.j.b9 (i:=2) (a:=eE (.slice c0 (D).length c6) w) rfl) (by omega) ?_;intro h7 i0 d7 b3 b2 b1;have a7:wr.grownBy d7 f0.pv.ownBlock:=(by rw[E.j.2];exact b2);have a6:=E.j.1.js a7 E.j.1.nd.p;have q8:d7.cell? ⟨b,9,none⟩=some f0.pv:=aS a6 rfl;have q9:=cG a6;have r0:=aj a6;have e9:=E.j.1.l7 (ms:=w) a7 b3 (by rw[E.j.2];exact b1);have e8:=(((iN (gU d [bE (.slice g1 (z++[nm]).length g3) (z++[nm]),cW (.slice g2 (k++[nu]).length g4) (k++[nu]),eE (.slice c0 (D).length c6) w,.obj b5.heap.size (oW F)]) wr).c7 (eL a7) (λc2 S d4=>absurd d4 (E.j.1.b1 c2 (Y8 (iv (by simpa using S)))))).c7 ((ah [b] d7).a6 (p:=⟨b,9,none⟩) (by simp) (.slice h7 (x.ak++w).length i0)) (λc2 S d4=>absurd d4 (E.j.1.b1 c2 (Y8 (by simp only[Yc]at S;rw[S];simp[PV.b7])))));have b6:=Z (I.j.call ⟨e9,e8⟩);clear b3 b2 b1 a7 a6 e9 e8));simp only[Yq]at b6;refine(ju A (by omega) (by omega) _).mono ?_;rintro e1 k0 ⟨rfl,b4⟩;have b7:=Z (b6.j.O b4);clear b4 b6 I;rw[b8.j]at b7;have j2:=jA A (by omega) (by omega);rw[h5.j]at H;unfold bC at j2 H;generalize Lib.itoa A=c9 at *
      obtain⟨m3,d2⟩:=b7.j.a3;obtain⟨-,-,-,-,-,-,-,-,-,f2,-,-,-,-,-,o3,p5⟩:=d2.am;have d0:=d2.b0;unfold ac.sz at d0;simp only[YU,Yq]at d0;change k0.cell? _=some (.string ⟨x.j.toArray⟩)at f2;clear d2;have q0:¬(9223372036854775807<x.j.length+(B.length+b0.length)):=by omega
      have q1:¬(9223372036854775807<x.j.length+(B.length+b0.length)+4):=by omega
      have q2:¬(9223372036854775807<x.j.length+(B.length+b0.length)+4+c9.length):=by omega
      have q3:¬(9223372036854775807<x.j.length+(B.length+b0.length)+4+c9.length+2):=by omega
      clear d0;go_wp2;go_end0;rw[H.j];exact⟨rfl,((b7.j.g1 (K:=900000) (s:=B++b0++[125,32,61,32]++c9++[59,10]) (fs (by simp)) (by simp;omega)).a4 (by simp;omega)).fin⟩
   |false=>
    have l7:U (eq t (6-(k++[nu]).length) (z++[nm]) (k++[nu]) (all++G) (B++b0) d9=eq t 6 [] [] [] ([112,114,111,103,114,97,109,32]++F.text++[32,123,32]) k1):=Z (e0.j.trans (by rw[Y2 (by simp[l1])])).symm;have o8:d9.s.e=0->(k++[nu]).length<=4:=by
     intro o0;rcases Yj k.length 4 with n8|n8
     .simp;omega
     .have e2:=rB (n:=k.length) (m:=4) (by omega) d8;exact absurd o0 (by rw[(l5.j e2).1];exact e2)
    have l9:U ((z++[nm]).length=(k++[nu]).length):=Z (by have:=l2.j;simp;omega);have m0:U ((all++G).length<=9*(k++[nu]).length):=Z (by have:=g5.j;simp;omega);have h2:=Z (h1.j.a4 (N':=g+1+20*(k++[nu]).length) (by simp;omega));clear e6 e7 e0;go_wp2;refine⟨⟨g1,g3,g2,g4,c0,c6,z++[nm],k++[nu],all++G,B++b0,d9,by simp,by simp,by simp,?_,by simp;omega,l9,m0,o8,by simp;omega,h2,l7⟩,by simp[jD];omega⟩;exact Yo Value.string (fs (by simp))
  .have S:(d8.s.e==0)=false:=by rw[Yi];exact d3
   have H:=Z (e7.j.trans (Yo (rO t) (e6.j.symm.trans (zm d3))));clear d3 e6 e7 i6;have j0:all.length<=100:=by have:=g5.j;omega
   go_wp2_with fail;refine aB g0 (cC · 4 [125]) λr4 e4=>?_;(try clear h9 e2 a1);unfold rO at H;simp only at H;generalize ab t 4 [125] d8=C at *
   obtain⟨h6,O⟩:=e4.j.a3;obtain⟨h8,i1,a0⟩:=bY O.aa;obtain⟨-,-,-,-,-,-,-,-,-,-,-,-,-,-,a2,i4,i9⟩:=O.am;rw[a0]at a2;have f4:=O.b0;unfold ac.sz at f4;have f1:=Z (Cn O (v:=.slice h8 C.aa.length i1) (l:=C.aa) (a0▸O.aa) (Ya ⟨a0.symm,rfl⟩) (by omega) (by omega));have j1:=tC (t:=t) C.aa C;have P:=Do (t:=t) C.aa C;have h4:=Z a0;clear O a0 f4;go_wp2_with fail;refine f1.j.mono ?_;rintro e1 j9 ⟨r5,n6,n5,rfl,d6,f3,a3⟩;clear f1;generalize bD t C.aa C=j4 at *
   obtain⟨A,x⟩:=j4;simp only at d6 j1 H a3 P;rw[<-h4.j]at a3;obtain⟨a5,c8⟩:=e4.j.m5 d6 f3 P.aa a3;have j5:j9.cell? ⟨b,15,none⟩=some h6.gv:=aS a5 rfl;have j6:=cG a5;have j7:=aj a5;rw[P.aa]at c8;have e5:=Z c8;have h5:=Z P.aa;have m1:=Z P;clear c8 a5 d6 f3 a3 a2 i4 i9 P;go_wp2;go_loopw [11] (λd5 f9=>∃(r:Nat) (w:List bj),d5=.int .i64 r/\r<=(all).length/\U (w=((all).take r).map (λp=>{ p with prog:=A })++(all).drop r)/\U (aE d b t (g+1+20*5+1) { x with aa:=C.aa++[A] } [bE (.slice gT z.length c4) z,cW (.slice b9 k.length c5) k,eE (.slice J (all).length M) w,.obj b5.heap.size (oW F)] h f9)) (λd5 _=>(all).length-(intOf d5).toNat)
   case atStart=>exact⟨0,all,rfl,by omega,Z (by simp),Z (e5.j.a4 (by omega))⟩
   case round=>
    obtain⟨r,w,rfl,i7,a4,I⟩:=hrel;clear e5 j5 j6 j7;rcases Yj r (all).length with a1|f6
    .have p0:(0:Int)<=↑r:=by omega
     have i8:(↑r:Int) < ↑(all).length:=by omega
     have f7:r<w.length:=by rw[a4.j,rF];exact a1
     obtain⟨n7,i5,o6,o7,n9,-⟩:=vK (I.j.b9 (i:=2) (a:=eE (.slice J (all).length M) w) rfl) f7;cases i5
     have b8:U (w.set r { w.getD r hI with prog:=A } = ((all).take (r+1)).map (λp=>{ p with prog:=A })++(all).drop (r+1)):=Z (by
      have i2:=wa (f:=λp:bj=>{ p with prog:=A }) a1;rw[a4.j,uQ a1];exact i2)
     have h3:=Z (I.j.k2 (i:=2) (k:=r) (j:=0) (p':={ w.getD r hI with prog:=A }) (v:=.int .i64 A) rfl f7 (by omega) rfl);go_wp2;exact⟨⟨r+1,_,by go_num,by omega,b8,h3⟩,by simp[intOf];omega⟩
    .have i8:¬((↑r:Int) < ↑(all).length):=by omega
     have b8:U (w=(all).map (λp=>{ p with prog:=A })):=Z (by
      rw[a4.j,List.take_of_length_le f6,YR f6,YH])
     have p7:w.length<=100:=by rw[a4.j,rF];exact j0
     obtain⟨f0,N⟩:=I.j.a3;obtain⟨c1,c7,a8⟩:=bY N.ak;obtain⟨-,-,-,-,-,-,-,-,c3,-,-,-,-,-,-,o4,p6⟩:=N.am;rw[a8]at c3;have d1:=N.b0;unfold ac.sz at d1;change wr.cell? _=some (.slice c1 x.ak.length c7)at c3;have j3:U (wr.ownsRow 0 288 5 (.slice c1 x.ak.length c7) x.ak.length (x.ak.flatMap eh)):=Z (a8▸N.ak);have E:=Z (Yp N a8);have o5:x.ak.length<=g+200:=by simp only at d1;omega
     clear N a8 d1;go_wp2_with (at_builtin;(refine zv (by rfl) _ _ (by rfl) (l:=x.ak) (m:=w) (v:=.slice c1 x.ak.length c7) (y:=.slice J (all).length M) (by rfl) (by rfl) j3.j (I.j.b9 (i:=2) (a:=eE (.slice J (all).length M) w) rfl) (by omega) ?_;intro h7 i0 d7 b3 b2 b1;have a7:wr.grownBy d7 f0.pv.ownBlock:=(by rw[E.j.2];exact b2);have a6:=E.j.1.js a7 E.j.1.nd.p;have q8:d7.cell? ⟨b,9,none⟩=some f0.pv:=aS a6 rfl;have q9:=cG a6;have r0:=aj a6;have e9:=E.j.1.l7 (ms:=w) a7 b3 (by rw[E.j.2];exact b1);have e8:=(((iN (gU d [bE (.slice gT z.length c4) z,cW (.slice b9 k.length c5) k,eE (.slice J (all).length M) w,.obj b5.heap.size (oW F)]) wr).c7 (eL a7) (λc2 S d4=>absurd d4 (E.j.1.b1 c2 (Y8 (iv (by simpa using S)))))).c7 ((ah [b] d7).a6 (p:=⟨b,9,none⟩) (by simp) (.slice h7 (x.ak++w).length i0)) (λc2 S d4=>absurd d4 (E.j.1.b1 c2 (Y8 (by simp only[Yc]at S;rw[S];simp[PV.b7])))));have b6:=Z (I.j.call ⟨e9,e8⟩);clear b3 b2 b1 a7 a6 e9 e8));simp only[Yq]at b6;refine(ju A (by omega) (by omega) _).mono ?_;rintro e1 k0 ⟨rfl,b4⟩;have b7:=Z (b6.j.O b4);clear b4 b6 I;rw[b8.j]at b7;have j2:=jA A (by omega) (by omega);rw[h5.j]at H;unfold bC at j2 H;generalize Lib.itoa A=c9 at *
     obtain⟨m3,d2⟩:=b7.j.a3;obtain⟨-,-,-,-,-,-,-,-,-,f2,-,-,-,-,-,o3,p5⟩:=d2.am;have d0:=d2.b0;unfold ac.sz at d0;simp only[YU,Yq]at d0;change k0.cell? _=some (.string ⟨x.j.toArray⟩)at f2;clear d2;have q0:¬(9223372036854775807<x.j.length+B.length):=by omega
     have q1:¬(9223372036854775807<x.j.length+B.length+4):=by omega
     have q2:¬(9223372036854775807<x.j.length+B.length+4+c9.length):=by omega
     have q3:¬(9223372036854775807<x.j.length+B.length+4+c9.length+2):=by omega
     clear d0;go_wp2;go_end0;rw[H.j];exact⟨rfl,((b7.j.g1 (K:=900000) (s:=B++[125,32,61,32]++c9++[59,10]) (fs (by simp)) (by simp;omega)).a4 (by simp;omega)).fin⟩
end
section
variable {g n : Nat -> Prop} {c f l : Nat} {b : List UInt8} {a σ' : ac} {d k r e t : World} {h : PV} {j m : List Th} {i : Nat} {o q : Th}
def bg.iP(e:bg g c b f a h d):bg g c b (f+1) { a with ae:=a.ae+1 } h (d.setCell ⟨c,14,none⟩ (.int .i64 (a.ae+1))):=by
 refine e.ax (σ':={ a with ae:=a.ae+1 }) (bv (i:=14) e.aD _) ((ah [c] d).a6 (p:=⟨c,14,none⟩) (by simp) _) rfl rfl rfl rfl e.fin e.c2 ?_ ?_
 .have:=e.b0;have:=e.cn;unfold ac.sz at *
  simp only;omega
 .have:=e.cn;simp only;omega
def aE.iP(i:aE g c b f a j k d):aE g c b (f+1) { a with ae:=a.ae+1 } j k (d.setCell ⟨c,14,none⟩ (.int .i64 (a.ae+1))):=by
 obtain⟨h,e⟩:=i.a3;exact i.call ⟨⟨h,e.iP⟩,uO e _⟩
def tw(b:bG a)(c:Int):bG { a with ae:=c }:=b
def Ht(M:bu g c b f a d)(ok:bG a)(v:∀p∈a.y,p.b2.length<=1000)(b7:f+2000000<=1000000000):Calls prog 48 #[.pointer (some ⟨c,0,none⟩)] d (GP g c b (f+2000000) (bH b a) (.tuple #[]) d):=by
 have o:=Z (iL M);replace ok:=Z ok;replace v:=Z v;obtain⟨h,O⟩:=M;obtain⟨a3,a9,b0,b1,b2,b3,b4,b5,b6,a4,a5,a6,a7,y,a8,A,B⟩:=O.am;go_in;go_wp2_with fail;refine(gd o.j.a3 2 [99,111,110,115,116]).mono ?_;rintro N a2 ⟨rfl,rfl⟩;go_wp2_with fail;refine(gd o.j.a3 2 [112,114,111,103,114,97,109]).mono ?_;rintro N a2 ⟨rfl,rfl⟩;cases z:ay a 2 [99,111,110,115,116]with
 |true=>
  have l:U (bH b a=fO b a):=by show _=_;unfold bH;rw[Y9 z]
  go_wp2_with fail;refine aB o (GM · (by omega)) λe i=>?_;go_wp2;go_end0;rw[l.j];exact⟨rfl,(i.j.a4 (by omega)).fin⟩
 |false=>
  cases K:ay a 2 [112,114,111,103,114,97,109]with
  |true=>
   have l:U (bH b a=gu b a):=by show _=_;unfold bH;rw[Y2 (by simp[z]),Y9 K]
   go_wp2_with fail;refine aB o (Nb · (by omega)) λe i=>?_;go_wp2;go_end0;rw[l.j];exact⟨rfl,(i.j.a4 (by omega)).fin⟩
  |false=>
   by_cases H:a.s.x.H=2
   .have P:((a.s.x.H:Int) != 2)=false:=by rw[H];rfl
    have w:U (bH b a=if a.s.x.text=[116,121,112,101,100,101,102]then gi b { ar a.ae 24 a with ae:=(ar a.ae 24 a).ae+1 }else if a.s.x.text=[101,110,117,109]then gG b { ar a.ae 24 a with ae:=(ar a.ae 24 a).ae+1 }else if a.s.x.text=[115,116,114,117,99,116]then gx b { ar a.ae 24 a with ae:=(ar a.ae 24 a).ae+1 }else if a.s.x.text=[117,110,105,111,110]then fX b { ar a.ae 24 a with ae:=(ar a.ae 24 a).ae+1 }else dd a):=by
     show _=_;unfold bH;rw[Y2 (by simp[z]),Y2 (by simp[K])];simp only[H];by_cases j:a.s.x.text=[116,121,112,101,100,101,102]
     .rw[Y2 (by simp[j]),Y9 j,Y9 j]
     .by_cases k:a.s.x.text=[101,110,117,109]
      .rw[Y2 (by simp[k]),Y2 j,Y9 k,Y2 j,Y9 k]
      .by_cases n:a.s.x.text=[115,116,114,117,99,116]
       .rw[Y2 (by simp[n]),Y2 j,Y2 k,Y9 n,Y2 j,Y2 k,Y9 n]
       .by_cases q:a.s.x.text=[117,110,105,111,110]
        .rw[Y2 (by simp[q]),Y2 j,Y2 k,Y2 n,Y2 j,Y2 k,Y2 n,Y9 q]
        .rw[Y9 (Ya ⟨j,k,n,q⟩),Y2 j,Y2 k,Y2 n,Y2 q]
    cases j:(a.s.x.text==[116,121,112,101,100,101,102])with
    |true=>
     have R:(a.s.x.text != [116,121,112,101,100,101,102])=false:=by simp[bne,j]
     have l:U (bH b a=gi b { ar a.ae 24 a with ae:=(ar a.ae 24 a).ae+1 }):=by show _=_;rw[w.j,Y9 (by simpa using j)]
     go_wp2_with fail;refine aB o (kI · a.ae 24) λe i=>?_;obtain⟨E,m⟩:=i.j.a3;obtain⟨-,-,-,-,-,-,-,-,-,-,-,-,-,y,-,A,B⟩:=m.am;have u:=m.b0;have F:=m.cn.2;unfold ac.sz at u;have G:IntKind.i64.wrap ((ar a.ae 24 a).ae+1)=(ar a.ae 24 a).ae+1:=by rw[IntKind.wrap_i64];omega
     have I:-9223372036854775808<=(ar a.ae 24 a).ae+1:=by omega
     have J:(ar a.ae 24 a).ae+1<=9223372036854775807:=by omega
     have r:=Z i.j.iP;have C:=Z (tw (eB ok.j (cx a.ae 24 a).al) ((ar a.ae 24 a).ae+1));have D:U (∀p∈(ar a.ae 24 a).y,p.b2.length<=1000):=Z (by rw[(cx a.ae 24 a).y];exact v.j);go_wp2_with fail;refine aB r (RG · (by omega)) λL t=>?_;go_wp2;go_end0;rw[l.j];exact⟨rfl,(t.j.a4 (by omega)).fin⟩
    |false=>
     have R:(a.s.x.text != [116,121,112,101,100,101,102])=true:=by simp[bne,j]
     cases k:(a.s.x.text==[101,110,117,109])with
     |true=>
      have S:(a.s.x.text != [101,110,117,109])=false:=by simp[bne,k]
      have l:U (bH b a=gG b { ar a.ae 24 a with ae:=(ar a.ae 24 a).ae+1 }):=by show _=_;rw[w.j,Y2 (by simpa using j),Y9 (by simpa using k)]
      go_wp2_with fail;refine aB o (kI · a.ae 24) λe i=>?_;obtain⟨E,m⟩:=i.j.a3;obtain⟨-,-,-,-,-,-,-,-,-,-,-,-,-,y,-,A,B⟩:=m.am;have u:=m.b0;have F:=m.cn.2;unfold ac.sz at u;have G:IntKind.i64.wrap ((ar a.ae 24 a).ae+1)=(ar a.ae 24 a).ae+1:=by rw[IntKind.wrap_i64];omega
      have I:-9223372036854775808<=(ar a.ae 24 a).ae+1:=by omega
      have J:(ar a.ae 24 a).ae+1<=9223372036854775807:=by omega
      have r:=Z i.j.iP;have C:=Z (tw (eB ok.j (cx a.ae 24 a).al) ((ar a.ae 24 a).ae+1));have D:U (∀p∈(ar a.ae 24 a).y,p.b2.length<=1000):=Z (by rw[(cx a.ae 24 a).y];exact v.j);go_wp2_with fail;refine aB r (HK · (by omega)) λL t=>?_;go_wp2;go_end0;rw[l.j];exact⟨rfl,(t.j.a4 (by omega)).fin⟩
     |false=>
      have S:(a.s.x.text != [101,110,117,109])=true:=by simp[bne,k]
      cases n:(a.s.x.text==[115,116,114,117,99,116])with
      |true=>
       have a0:(a.s.x.text != [115,116,114,117,99,116])=false:=by simp[bne,n]
       have l:U (bH b a=gx b { ar a.ae 24 a with ae:=(ar a.ae 24 a).ae+1 }):=by show _=_;rw[w.j,Y2 (by simpa using j),Y2 (by simpa using k),Y9 (by simpa using n)]
       go_wp2_with fail;refine aB o (kI · a.ae 24) λe i=>?_;obtain⟨E,m⟩:=i.j.a3;obtain⟨-,-,-,-,-,-,-,-,-,-,-,-,-,y,-,A,B⟩:=m.am;have u:=m.b0;have F:=m.cn.2;unfold ac.sz at u;have G:IntKind.i64.wrap ((ar a.ae 24 a).ae+1)=(ar a.ae 24 a).ae+1:=by rw[IntKind.wrap_i64];omega
       have I:-9223372036854775808<=(ar a.ae 24 a).ae+1:=by omega
       have J:(ar a.ae 24 a).ae+1<=9223372036854775807:=by omega
       have r:=Z i.j.iP;have C:=Z (tw (eB ok.j (cx a.ae 24 a).al) ((ar a.ae 24 a).ae+1));have D:U (∀p∈(ar a.ae 24 a).y,p.b2.length<=1000):=Z (by rw[(cx a.ae 24 a).y];exact v.j);go_wp2_with fail;refine aB r (QB · (by omega)) λL t=>?_;go_wp2;go_end0;rw[l.j];exact⟨rfl,(t.j.a4 (by omega)).fin⟩
      |false=>
       have a0:(a.s.x.text != [115,116,114,117,99,116])=true:=by simp[bne,n]
       cases q:(a.s.x.text==[117,110,105,111,110])with
       |true=>
        have a1:(a.s.x.text != [117,110,105,111,110])=false:=by simp[bne,q]
        have l:U (bH b a=fX b { ar a.ae 24 a with ae:=(ar a.ae 24 a).ae+1 }):=by show _=_;rw[w.j,Y2 (by simpa using j),Y2 (by simpa using k),Y2 (by simpa using n),Y9 (by simpa using q)]
        go_wp2_with fail;refine aB o (kI · a.ae 24) λe i=>?_;obtain⟨E,m⟩:=i.j.a3;obtain⟨-,-,-,-,-,-,-,-,-,-,-,-,-,y,-,A,B⟩:=m.am;have u:=m.b0;have F:=m.cn.2;unfold ac.sz at u;have G:IntKind.i64.wrap ((ar a.ae 24 a).ae+1)=(ar a.ae 24 a).ae+1:=by rw[IntKind.wrap_i64];omega
        have I:-9223372036854775808<=(ar a.ae 24 a).ae+1:=by omega
        have J:(ar a.ae 24 a).ae+1<=9223372036854775807:=by omega
        have r:=Z i.j.iP;have C:=Z (tw (eB ok.j (cx a.ae 24 a).al) ((ar a.ae 24 a).ae+1));have D:U (∀p∈(ar a.ae 24 a).y,p.b2.length<=1000):=Z (by rw[(cx a.ae 24 a).y];exact v.j);go_wp2_with fail;refine aB r (RO · C.j D.j (by omega)) λL t=>?_;go_wp2;go_end0;rw[l.j];exact⟨rfl,(t.j.a4 (by omega)).fin⟩
       |false=>
        have a1:(a.s.x.text != [117,110,105,111,110])=true:=by simp[bne,q]
        have l:U (bH b a=dd a):=by show _=_;rw[w.j,Y2 (by simpa using j),Y2 (by simpa using k),Y2 (by simpa using n),Y2 (by simpa using q)]
        go_wp2_with fail;refine aB o (oe ·) λe i=>?_;go_wp2;go_end0;rw[l.j];exact⟨rfl,(i.j.a4 (by omega)).fin⟩
   .have P:((a.s.x.H:Int) != 2)=true:=by simp;omega
    have l:U (bH b a=dd a):=by show _=_;unfold bH;rw[Y2 (by simp[z]),Y2 (by simp[K]),Y9 (Y8 H)]
    go_wp2_with fail;refine aB o (oe ·) λe i=>?_;go_wp2;go_end0;rw[l.j];exact⟨rfl,(i.j.a4 (by omega)).fin⟩
end
section
variable {j s : Nat -> Prop} {d g q : Nat} {l : List UInt8} {a o : ac} {c u e w m : World} {b : PV} {L r : List Th} {i : Nat} {h t : Th}
def ST{e f:Type}:∀(d:List e) (a:List f) (i:Nat) (h:e) (b:f),a[i]? = some b->(d.set i h).zip a=(d.zip a).set i (h,b):=by
 intro d;induction d with
 |nil=>intro a i h b _;simp
 |cons j d g=>
  intro a i h b c;cases a with
  |nil=>simp at c
  |cons k a=>
   cases i with
   |zero=>simp at c;subst c;simp
   |succ i=>simp at c;simp[g a i h b c]
def lG(a:ac)(i:Nat)(b:Int):ac:={ a with y:=a.y.set i { a.y.getD i cT with of:=b } }
def bg.qW{b:PV}(h:bg j d l g a b c){i n I:Nat}(v:i<a.y.length)(B:b.rv=.slice (some ⟨n,0,none⟩) a.y.length I)(r:Int):bg j d l g (lG a i r) b (c.setCell ⟨n,i*8+2,none⟩ (.int .i64 r)):=by
 have K:b.rv.ownBlock=some n:=by rw[B];rfl
 have q:ai [n] c (c.setCell ⟨n,i*8+2,none⟩ (.int .i64 r)):=(ah [n] c).a6 (p:=⟨n,i*8+2,none⟩) (by simp) _;have t:∀e,b.rv.ownBlock≠some e->e ∉ [n]:=λe m A=>by
  simp only[Yc]at A;exact m (by rw[K,A])
 have E:∀e∈b.bz,b.rv.ownBlock≠some e:=λe m o=>h.cq e m (hR o);have M:i<b.ls.length:=by rw[h.bc];exact v
 have y:a.y[i]? = some (a.y.getD i cT):=by simp[v]
 have z:b.ls[i]? = some b.ls[i]:=Yd M;have J:(a.y.zip b.ls)[i]? = some (a.y.getD i cT,b.ls[i]):=by rw[List.getElem?_zip_eq_some];exact⟨y,z⟩
 have R:(mv a.y b.ls).length=a.y.length*8:=h.y.1;refine⟨(q.K d (aj h.aD) (t d h.nd.r)).trans h.aD,?_,aY h.F q λe m=>t e (λo=>h.nd.rn e o m),aY h.ak q λe m=>t e (λo=>h.nd.rp e o m),h.aa.bz q λe m=>t e (λo=>h.nd.rg e o m),?_,?_,h.nd,h.cq,h.b1,λe O=>Yr (h.bh e O) q.a2,h.fin,h.c2,h.c6,?_,h.cn⟩
 .have F:=h.y;rw[B]at F ⊢;have x:=tH F (i:=i*8+2) (by omega) (.int .i64 r);unfold mv at x;rw[ta (f:=λs:be×(Value×Value)=>kP s.1 s.2) (k:=8) (λ_=>rfl) (a.y.zip b.ls) i 2 _ ({ a.y.getD i cT with of:=r },b.ls[i]) _ (by omega) J rfl,<-ST a.y b.ls i _ _ z]at x;unfold lG mv;simp only[YF];exact x
 .unfold lG;simp only[YF];exact h.bc
 .intro C P s p w;unfold lG at p;simp only at p;rw[YP]at p;have D:∀u,a.y[C]? = some u->dR s.1 u.b2 (c.setCell ⟨n,i*8+2,none⟩ (.int .i64 r))/\dR s.2 u.c0 (c.setCell ⟨n,i*8+2,none⟩ (.int .i64 r)):=by
   intro u N;obtain⟨G,H⟩:=h.gb C u s N w;exact⟨G.bz q λe m=>t e (E e (hx w (Y8 m))),H.bz q λe m=>t e (E e (hx w (Ya m)))⟩
  split at p
  .rename_i L;subst L;simp[v]at p;subst p;have:=D _ y;simpa[v]using this
  .exact D P p
 .have:=h.b0;unfold ac.sz lG at *
  simp only[YF];exact this
def fj(a:ac)(b:List UInt8):df:=a.F.getD (bA a b).toNat gW
def mt:Nat->Nat->ac->ac
 |0,_,a=>a
 |k+1,i,a=>
  if(a.y.getD i cT).H=14 then
   if bA a (a.y.getD i cT).ca<0\/(fj a (a.y.getD i cT).ca).bb≠1 then bp 7 (a.y.getD i cT).w a
   else mt k (i+1) (lG a i (fj a (a.y.getD i cT).ca).n)
  else mt k (i+1) a
def lD(a:ac):ac:=mt a.y.length 0 a
def NI(p:bu j d l g a c)(b6:g<=1000000000):Calls prog 49 #[.pointer (some ⟨d,0,none⟩)] c (GP j d l g (lD a) (.tuple #[]) c):=by
 have a7:=Z (iL p);have b4:=p.b0;unfold ac.sz at b4;have f2:a.y.length<=1000000000:=by omega
 go_in;go_wp2;go_loopw [2] (λO d0=>∃(i:Nat) (o:ac),O=.int .i64 i/\i<=a.y.length/\U (o.y.length=a.y.length)/\U (aE j d l g o [] c d0)/\U (mt (a.y.length-i) i o=lD a)) (λO _=>a.y.length-(intOf O).toNat)
 case atStart=>exact⟨0,a,rfl,by omega,Z rfl,a7,Z rfl⟩
 case round=>
  obtain⟨i,f,rfl,e6,z,A,t⟩:=hrel;obtain⟨b,gT,b2,k,E⟩:=A.j.a3.sp;obtain⟨d8,e0,c4⟩:=bY k.y;obtain⟨-,-,-,-,-,-,B,C,-,-,-,-,-,-,-,b8,c1⟩:=k.am;rcases Yj i a.y.length with c2|e4
  .obtain⟨h,N⟩:∃h,f.y.getD i cT=h:=⟨_,rfl⟩;have e7:(0:Int)<=↑i:=by omega
   have M:i<f.y.length:=by rw[z.j];exact c2
   have a0:=Z (t.j.symm.trans (by rw[show a.y.length-i=(a.y.length-(i+1))+1 by omega,mt,N]));obtain⟨q,I,c9,y,-,P,-,-,-,-,-,R,S,d3,d4,b9⟩:=tO k M;rw[N]at P R S;rw[y]at B;rw[E]at C;have c0:(↑i:Int) < ↑f.y.length:=by omega
   have a3:=Z (ox (k.aA (ah [] wr).a9) b6 h.ca);rw[E]at a3;have H:=Z k;by_cases D:h.H=14
   .have b7:(h.H==14)=true:=by rw[D];rfl
    have r:=Z (a0.j.trans (by rw[Y9 D]));go_wp2;refine cS (λe=>e.cell? ⟨d,8,none⟩=some (.slice gT f.F.length b2)/\e.cell? ⟨d,7,none⟩=some (.slice (some ⟨q,0,none⟩) f.y.length I)/\e.cell? ⟨q,i*8+6,none⟩=some (.string ⟨h.ca.toArray⟩)) (L:=15) (by kernel_rfl) rfl (by kernel_rfl) (by kernel_rfl) ?_ (λa4=>?_)
    .go_keep
    refine bI [0,1,2,3,4,5,6,7,8,9,10,11,12,13] ?_;iterate 14 (refine bP (v:=?_) rfl (by kernel_rfl) (λ_ _ _ u=>u) (by kernel_rfl) (by assumption) ?_ ?_;rotate_left;focus (intro c K;(try dsimp only at K);go_simp;(try with_reducible rfl));(try simp only[aL,aM,List.set]))
    refine bJ ?_;refine ck 14 (by kernel_rfl) rfl λa2 x=>?_;(go_simp;refine a3.j.mono ?_;rintro e1 f3 ⟨rfl,rfl⟩);refine x.out _ _ ?_ (λa4=>?_)
    .go_keep
    (try simp only[aL,aM,List.set]);refine cQ (by kernel_rfl) rfl λa2 x=>?_;go_simp;refine x.out _ _ ?_;(try simp only[aL,aM,List.set]);have w:=Z A.j.a9;generalize wr.drew=m at w ⊢;obtain⟨b,d7,d9,k,E⟩:=w.j.a3.sp;obtain⟨q,I,c9,y,-,P,-,d2,-,-,-,R,S,d3,d4,b9⟩:=tO k M;obtain⟨-,-,-,-,-,-,B,C,-,-,-,-,-,-,-,b8,c1⟩:=k.am;rw[N]at P d2 R S;rw[y]at B;have H:=Z k;have a1:=Z y;by_cases b5:bA f h.ca<0
    .have t:U (lD a=bp 7 h.w f):=Z (r.j.trans (by rw[Y9 (Y8 b5)]));rw[E]at C;go_wp2_with fail;refine aB w (iV · 7 h.w) λd1 G=>?_;go_wp2;go_end0;rw[t.j];exact⟨rfl,G.j.fin⟩
    .have c3:=rx (by omega:0<=bA f h.ca);obtain⟨J,b1,a6,-,d5,d6,-,f4,f5,e3⟩:=oC k c3;change m.cell? _=some (.int .i64 (fj f h.ca).bb)at d5;change m.cell? _=some (.int .i64 (fj f h.ca).n)at d6;rw[a6]at C;have e5:J≠q:=λb3=>k.nd.rn q (by rw[y];rfl) (by rw[a6,b3];rfl);generalize e2:bA f h.ca=s at *
     obtain⟨s,rfl⟩:∃c6:Nat,s=c6:=⟨s.toNat,by omega⟩;simp only[Int.toNat_natCast]at *
     have f0:(s:Int)<(f.F.length:Int):=by omega
     have e9:decide ((s:Int)<0)=false:=by simp
     have f1:(0:Int)<=s:=by omega
     by_cases F:(fj f h.ca).bb=1
     .have c5:((fj f h.ca).bb != 1)=false:=by rw[F];rfl
      have a9:U (mt (a.y.length-(i+1)) (i+1) (lG f i (fj f h.ca).n)=lD a):=Z (r.j.trans (by rw[Y2 (by rintro(u|u);omega;exact u F)])).symm;have a8:=Z (w.j.call ⟨⟨b,H.j.qW M a1.j (fj f h.ca).n⟩,sq ((ah [q] m).a6 (p:=⟨q,i*8+2,none⟩) (by simp) (.int .i64 (fj f h.ca).n)) (λc7 a5 _=>H.j.b1 c7 (Y8 (hR (by simp at a5;rw[a5,a1.j];rfl))))⟩);have b0:U ((lG f i (fj f h.ca).n).y.length=a.y.length):=Z (by unfold lG;simp only[YF];exact z.j);generalize e8:(fj f h.ca).n=c8 at *
      go_wp2;refine cS (λe=>e.cell? ⟨d,8,none⟩=some (.slice (some ⟨J,0,none⟩) f.F.length b1)/\e.cell? ⟨d,7,none⟩=some (.slice (some ⟨q,0,none⟩) f.y.length I)/\e.cell? ⟨J,s*4+2,none⟩=some (.int .i64 c8)) (L:=17) (by kernel_rfl) rfl (by kernel_rfl) (by kernel_rfl) ?_ (λa4=>?_)
      .go_keep
      refine bI [0,1,2,3,4,5,6,7,8,9,10,11,12,13,14,15,16] ?_;iterate 17 (refine bP (v:=?_) rfl (by kernel_rfl) (λ_ _ _ u=>u) (by kernel_rfl) (by assumption) ?_ ?_;rotate_left;focus (intro c K;(try dsimp only at K);go_simp;(try with_reducible rfl));(try simp only[aL,aM,List.set]))
      refine bJ ?_;refine cQ (by kernel_rfl) rfl λa2 x=>?_;go_simp;refine x.out _ _ ?_;(try simp only[aL,aM,List.set]);go_wp2;exact⟨⟨i+1,_,by go_num,by omega,b0,Z a8.j.a9,a9⟩,by simp[intOf];omega⟩
     .have c5:((fj f h.ca).bb != 1)=true:=by simpa using F
      have t:U (lD a=bp 7 h.w f):=Z (r.j.trans (by rw[Y9 (Ya F)]));go_wp2_with fail;refine aB w (iV · 7 h.w) λd1 G=>?_;go_wp2;go_end0;rw[t.j];exact⟨rfl,G.j.fin⟩
   .have b7:(h.H==14)=false:=by rw[Yi];exact D
    have r:=Z (a0.j.trans (by rw[Y2 D])).symm;go_wp2;exact⟨⟨i+1,f,by go_num,by omega,z,A,r⟩,by simp[intOf];omega⟩
  .have c0:¬((↑i:Int) < ↑f.y.length):=by rw[z.j];omega
   have r:U (lD a=f):=Z (t.j.symm.trans (by rw[show a.y.length-i=0 by omega,mt]));rw[c4]at B;go_wp2;go_end0;rw[r.j];exact⟨rfl,A.j.fin⟩
end
section
variable {g k : Nat -> Prop} {P f i : Nat} {t : List UInt8} {c u : ac} {a q b r s : World} {d : PV} {h j : List Th} {p : Nat} {e o : Th}
def OG(a:World)(j:TypeId){v n:Value}{c d:List Int}(h:dR v c a)(i:dR n d a)(J:c.length+d.length<=1000000000) :
  ∃e b,(Builtin.append_ #[24,24] j #[v,n]).run prog a=.ok e b/\dR e (c++d) b/\a.grownBy b v.ownBlock/\(e.ownBlock=v.ownBlock\/e.ownBlock=some a.heap.size):=by
 obtain⟨l,k,y,z,A⟩:=info_parts oy;have B:(Value.int .i64 0).cells.size=1:=rfl;unfold dR at *
 rw[Yq,List.map_append];rcases i.2 with⟨rfl,r⟩|⟨g,p,E,rfl,F,s,G,H,I,t⟩
 .have w:d=[]:=Yv.1 r;subst w;refine⟨v,a,run_append_owned_none (P:=prog) a 0 24 j 3 l 1 underlying24 k v c.length _ h,by simpa using h,Ba _ _,Y8 rfl⟩
 .obtain⟨e,b,x,C,q,_,o⟩:=run_append_own_at (P:=prog) a 0 24 j 3 l _ 1 8 underlying24 k y z A B (by omega) v c.length (c.map (Value.int .i64)) h ⟨g,0,none⟩ d.length p (d.map (Value.int .i64)) i.1 (by
   intro m D f;have u:(⟨g,0,none⟩:Addr).add m=⟨g,m,none⟩:=by unfold Addr.add;split<;>simp_all
   rw[u];exact cw s (by rw[i.1];exact t) f) (by intro D f;simp at f;obtain⟨_,_,rfl⟩:=f;rfl) (by unfold maxLen;omega) (by omega) (YV _)
  exact⟨e,b,x,C,q,o⟩
def SD{g:Array Oper}{rest:List Oper}{d:Oper}{e:Act}{Q:Exit->Act->World->Prop}{a:World}(p:d.guard=none)(h i:Operand)
  (r:d.op=.call { callee:=.builtin .append,args:=#[h,i],argTypes:=#[24,24] }) {v y:Value} {l m:List Int} (t:e.eval h=v) (w:e.eval i=y) (u:dR v l a) (x:dR y m a) (q:l.length+m.length<=1000000000)
  (n:∀ad c b,dR (.slice ad (l++m).length c) (l++m) b->a.grownBy b v.ownBlock->((Value.slice ad (l++m).length c).ownBlock=v.ownBlock\/(Value.slice ad (l++m).length c).ownBlock=some a.heap.size)->wpList prog g Q rest (e.put d.dst (.slice ad (l++m).length c)) b):wpList prog g Q (d::rest) e a:=by
 refine wpList_plain p λz o=>?_;obtain⟨A,b,s,f,k,j⟩:=OG a d.type u x q;obtain⟨ad,c,rfl⟩:=bY f;unfold Oper.wp execOp;simp only[r,resolve,invoke,builtin,Sem.run_bind,Sem.run_pure,Result.andThen_ok,List.map_toArray,List.map_cons,List.map_nil,t,w,s];exact o _ _ (n ad c b f k j)
def LR{ad:Option Addr}{f h a b c:Nat}(g:(Value.slice ad f a).ownBlock=(Value.slice none 0 0).ownBlock\/(Value.slice ad f a).ownBlock=some b)(d:(Value.slice ad h a).ownBlock=some c):c=b:=by
 cases ad with
 |none=>simp[Value.ownBlock]at d
 |some e=>
  simp[Value.ownBlock]at g d;omega
def lm{e:List Nat}{a g h:World}(b:ai [] a g)(c:ai e g h)(i:∀k∈e,a.heap.size<=k):ai [] a h:=
 ⟨c.os.trans b.os,c.d9.trans b.d9,c.d8.trans b.d8,Yz b.a2 c.a2,λd f _=>(c.K d (Yr f b.a2) (λj=>by have:=i d j;omega)).trans (b.K d f (by simp))⟩
def cu(a:be):List Int:=if a.H=14\/a.H=9 then [a.of]else if a.H=12 then a.c0 else if a.H=13 then a.c0++[a.gz]else []
abbrev mz(d:PV)(c:ac):Value:=.agg #[d.rv,d.nv,d.pv,.string ⟨c.j.toArray⟩]
abbrev OE(a:be)(b:Value×Value):Obj:=.cells #[.int .i64 a.H,.int .i64 a.n,.int .i64 a.of,b.1,b.2,.int .i64 a.gz,.string ⟨a.ca.toArray⟩,.int .i64 a.w] 117
def JK(p:bg g P t f c d a){k:Nat}(F:k<c.y.length)(e2:f<=1000000000)(e5:(c.y.getD k cT).c0.length<=1000):Calls prog 91 #[mz d c,.int .i64 k] a λb4 b=>∃v,b4=.returned v/\ai [] a b/\dR v (cu (c.y.getD k cT)) b/\∀h,v.ownBlock=some h->h∈d.bz\/a.heap.size<=h:=by
 obtain⟨d4,d6,b9⟩:=bY p.F;obtain⟨d5,d7,c0⟩:=bY p.ak;obtain⟨e1,d8,G,c2,A,e8,e9,f0,d2,d3,f1,f2,f3,f4,f5,-⟩:=tO p F;have z:=(p.gb k (c.y.getD k cT) G (by simp[F]) A).2;have R:=(p.gb k (c.y.getD k cT) G (by simp[F]) A).1;obtain⟨gT,C,a0⟩:=bY z;obtain⟨a7,b2,S⟩:=bY R;obtain⟨e6,e7⟩:=G;simp only at S a0 d2 d3 z;subst S a0;have N:=p.b0;unfold ac.sz at N;generalize c1:c.y.getD k cT=e at *
 have e3:(0:Int)<=↑k:=by omega
 have e4:(↑k:Int) < ↑c.y.length:=by omega
 have J:=Z z;have a3:=Z (λh (m:(Value.slice gT e.c0.length C).ownBlock=some h)=>hx A (Ya m));clear p z R c1 A N;unfold mz;rw[c2,b9,c0];by_cases j:e.H=14\/e.H=9
 .have n:U (cu e=[e.of]):=by show _=_;unfold cu;rw[Y9 j]
  by_cases i:e.H=14
  .have M:(e.H==14)=true:=by rw[i];rfl
   clear i j;go_in;go_wp2;go_ret;rw[n.j];exact⟨_,rfl,(((ah [] a).G _).G _).G _,⟨rfl,Ya ⟨a.heap.size+1+1,1,#[.int .i64 e.of],rfl,YV _,aK (by simp),by simp,by unfold maxLen;omega,rfl,rfl⟩⟩,λh m=>Ya (by simp[Value.ownBlock]at m;omega)⟩
  .have M:(e.H==14)=false:=by rw[Yi];exact i
   have a8:(e.H==9)=true:=by rw[j.resolve_left i];rfl
   clear i j;go_in;go_wp2;go_ret;rw[n.j];exact⟨_,rfl,(((ah [] a).G _).G _).G _,⟨rfl,Ya ⟨a.heap.size+1+1,1,#[.int .i64 e.of],rfl,YV _,aK (by simp),by simp,by unfold maxLen;omega,rfl,rfl⟩⟩,λh m=>Ya (by simp[Value.ownBlock]at m;omega)⟩
 .have M:(e.H==14)=false:=by rw[Yi];exact λi=>j (Y8 i)
  have a8:(e.H==9)=false:=by rw[Yi];exact λi=>j (Ya i)
  by_cases o:e.H=12
  .have n:U (cu e=e.c0):=by show _=_;unfold cu;rw[Y2 j,Y9 o]
   have a9:(e.H==12)=true:=by rw[o];rfl
   clear j o;go_in;go_wp2;go_ret;rw[n.j];exact⟨_,rfl,((ah [] a).G _).G _,J.j.bz (((ah [] a).G _).G _) (by simp),λh m=>Y8 (a3.j h m)⟩
  .have a9:(e.H==12)=false:=by rw[Yi];exact o
   by_cases q:e.H=13
   .have n:U (cu e=e.c0++[e.gz]):=by show _=_;unfold cu;rw[Y2 j,Y2 o,Y9 q]
    have b0:(e.H==13)=true:=by rw[q];rfl
    obtain⟨c7,b5,c3,c4,c5⟩:=info_parts oy;have c6:(Value.int .i64 0).cells.size=1:=rfl;have H:=Z (λc9 d0=>J.j.bz (((ah [] a).G c9).G d0) (by simp));have b8:e.c0.length+1<=maxLen:=by unfold maxLen;omega
    clear j o q;go_in;go_wp2_with (at_builtin;(first|(refine SD (by rfl) _ _ (by rfl) (l:=[]) (m:=e.c0) (v:=.slice none 0 0) (y:=.slice gT e.c0.length C) (by rfl) (by rfl) (th _) (H.j _ _) (by simp;omega) ?_;intro B D s w r u;have K:=Z ((((ah [] a).G _).G _).u (eL r));have O:s.heap[a.heap.size+1]? = some (OE e (.slice a7 e.b2.length b2,.slice gT e.c0.length C)):=((r.block _ (by simp) (by simp[Value.ownBlock])).trans (aK (by simp)));obtain⟨f6,f7,f8,f9,g0,g1,g2,g3,g4,g5⟩:=Ag O;have a6:U (dR (.slice B e.c0.length D) e.c0 s):=Z w;have L:=Z (λc8=>a6.j.bz ((ah [] s).G c8) (by simp));have I:U (∀x,(Value.slice B e.c0.length D).ownBlock=some x->a.heap.size<=x):=Z (λx E=>(by have b3:=LR u E;simp at b3;omega));clear w r u O H)|(refine wpList_append_lies _ (by rfl) _ _ _ (by rfl) 0 3 c7 _ 1 8 underlying24 b5 c3 c4 c5 c6 (by omega) (.slice B e.c0.length D) e.c0.length (e.c0.map (Value.int .i64)) (by rfl) (L.j _) ⟨s.heap.size,0,none⟩ 1 1 [.int .i64 e.gz] (by rfl) (by rfl) (World.news_of_block (cs:=#[.int .i64 e.gz]) (t:=3) (fr:=(0,0)) (heap_alloc_new s _)) (by simp[Value.oneCell']) (by omega) b8 (by omega) (by simp) (s.heap.size+1) (by simp) ?_;intro h b1 d1 w r u b6;have a5:U (dR (.slice (some ⟨h,0,none⟩) (e.c0.length+1) b1) (e.c0++[e.gz]) d1):=Z (by unfold dR;rw[Yq,List.map_append];exact w);have a4:=Z (lm (K.j.G _) (eL r) (λa1 b7=>I.j a1 (by simpa using b7)));have a2:U (a.heap.size<=h):=Z (u.elim (λi=>I.j h i) (λi=>(by have:=K.j.a2;omega)));clear w r u b6 L)));go_ret;rw[n.j];exact⟨_,rfl,a4.j,a5.j,λx E=>Ya (by have:=a2.j;simp[Value.ownBlock]at E;omega)⟩
   .have n:U (cu e=[]):=by show _=_;unfold cu;rw[Y2 j,Y2 o,Y2 q]
    have b0:(e.H==13)=false:=by rw[Yi];exact q
    clear j o q;go_in;go_wp2;go_ret;rw[n.j];exact⟨_,rfl,((ah [] a).G _).G _,th _,λh m=>by simp[Value.ownBlock]at m⟩
end
section
variable {g o : Nat -> Prop} {P e l : Nat} {h : List UInt8} {a u : ac} {c s d b t : World} {f : PV} {k n : List Th} {i : Nat} {q r : Th}
def hq(c:List Int)(a:List Bool):List Bool:=c.foldl (λa b=>if 0<=b then a.set b.toNat true else a) a
def gM(a:ac):Nat->Nat->List Bool->List Bool
 |0,_,b=>b
 |m+1,c,b=>gM a m (c+1) (if b.getD c false=true then hq (cu (a.y.getD c cT)) b else b)
def fM(a:ac):Nat->List Bool->List Bool
 |0,b=>b
 |m+1,b=>fM a m (gM a a.y.length 0 b)
def mh(a:ac)(b:Nat):Bool:=(fM a a.y.length (hq (cu (a.y.getD b cT)) (List.replicate a.y.length false))).getD b false
def sv(a:ac):Prop:=∀b∈a.y,b.c0.length<=1000/\∀c∈cu b,c<a.y.length
def xV(b:List Int):∀a:List Bool,(hq b a).length=a.length:=by
 induction b with
 |nil=>intro a;rfl
 |cons d b c=>
  intro a;unfold hq at *
  rw[YY,c];split<;>simp
def CN(a:ac):∀(b d:Nat) (c:List Bool),(gM a b d c).length=c.length:=by
 intro b;induction b with
 |zero=>intro d c;rfl
 |succ b e=>
  intro d c;unfold gM;rw[e];split
  .exact xV _ _
  .rfl
abbrev ii(a:List Bool):Obj:=.cells (a.map Value.bool).toArray 4
def IX:(prog.info? 4).map (λi=>(i.zero,i.size,i.bytes))=some (some (.bool false),1,1):=by kernel_rfl
def Ki(a:Nat):(Obj.cells (madeCells #[.bool false] a) 4)=ii (List.replicate a false):=by
 unfold ii madeCells;congr 1;apply Array.ext
 .simp
 .intro i b c;simp[Nat.mod_one]
def CT{a j:Nat}{b:List Bool}(d:c.heap[a]? = some (ii b)):(c.setCell ⟨a,j,none⟩ (.bool true)).heap[a]? = some (ii (b.set j true)):=by
 have:=bv (i:=j) d (.bool true);rw[this];simp[ii,List.map_set]
def BD{b:List Int}{a:Nat}{c:List Bool}(d:a<b.length):hq (b.drop a) c=hq (b.drop (a+1)) (if 0<=b.getD a 0 then c.set (b.getD a 0).toNat true else c):=by
 have e:b.drop a=b.getD a 0::b.drop (a+1):=by
  rw[Yk d];simp[d]
 rw[e];rfl
def Bi{v:Value}{d:List Int}{b:Nat}(f:dR v d c)(h:b<d.length):∃a e,v=.slice (some ⟨a,0,none⟩) d.length e/\c.cell? ⟨a,b,none⟩=some (.int .i64 (d.getD b 0))/\a<c.heap.size:=by
 obtain⟨a,e,k,g,_,j⟩:=kf f (i:=b) (x:=.int .i64 (d.getD b 0)) (by simp[h]);exact⟨a,e,k,g,j⟩
def vW{d a:Nat}{b:List Bool}(e:c.heap[d]? = some (ii b))(f:a<b.length):c.cell? ⟨d,a,none⟩=some (.bool (b.getD a false)):=aS e (by simp[f])
def Bu(a:be):(cu a).length<=a.c0.length+1:=by
 unfold cu;repeat' split
 all_goals simp
def AH(p:bg g P h e a f c){o:Nat}(a5:o<a.y.length)(i2:sv a)(g4:e<=1000000000):Calls prog 50 #[mz f a,.int .i64 o] c λI d=>I=.returned (.bool (mh a o))/\ai [] c d:=by
 obtain⟨a7,a9,c5⟩:=bY p.F;obtain⟨a8,b0,c7⟩:=bY p.ak;obtain⟨K,L,c8⟩:=bY p.y;have f7:=p.b0;unfold ac.sz at f7;have k4:a.y.length<=1000000000:=by omega
 have c6:∀i,i<a.y.length->(a.y.getD i cT).c0.length<=1000/\∀C∈cu (a.y.getD i cT),C<a.y.length:=λi N=>i2 _ (by simp[N]);have c0:U (∀R i,ai [] c R->i<a.y.length->Calls prog 91 #[.agg #[.slice K a.y.length L,.slice a7 a.F.length a9,.slice a8 a.ak.length b0,.string ⟨a.j.toArray⟩],.int .i64 i] R λI d=>∃v,I=.returned v/\ai [] R d/\dR v (cu (a.y.getD i cT)) d/\∀l,v.ownBlock=some l->l<c.heap.size\/R.heap.size<=l):=Z (λR i i0 N=>by
  have:=JK (p.aA i0) N g4 (c6 i N).1;unfold mz at this;rw[c8,c5,c7]at this;refine this.mono ?_;rintro I d ⟨v,g0,g1,g2,g3⟩;exact⟨v,g0,g1,g2,λl B=>(g3 l B).imp (λb1=>p.lt l (Ya b1)) id⟩)
 have a0:=Z c6;unfold mz;rw[c8,c5,c7];go_in;go_wp2_with fail;refine(c0.j _ o ((ah [] c).G _) a5).mono ?_;rintro I b ⟨k7,rfl,c9,d1,-⟩;have b4:=(a0.j o a5).2;have j9:(cu (a.y.getD o cT)).length<=2000:=by have:=Bu (a.y.getD o cT);have:=(a0.j o a5).1;omega
 have d5:U (mh a o=(fM a a.y.length (hq (cu (a.y.getD o cT)) (List.replicate a.y.length false))).getD o false):=Z rfl;generalize cu (a.y.getD o cT)=x at *
 have q:b.heap[c.heap.size]? = some (.cells #[.slice K a.y.length L,.slice a7 a.F.length a9,.slice a8 a.ak.length b0,.string ⟨a.j.toArray⟩] 62):=(c9.K _ (by simp) (by simp)).trans (aK rfl);obtain⟨e8,f2,rfl⟩:=bY d1;have c2:b.cell? ⟨c.heap.size,0,none⟩=some (.slice K a.y.length L):=aS q rfl;have c3:=cG q;have c4:=aj q;have d9:=Z (((ah [] c).G _).u c9);have d4:=Z q;have b9:=Z d1;have h7:=run_make_row' (P:=prog) 175 4 (.bool false) 1 underlying175 IX rfl .i64 .i64 a.y.length (by omega) (by omega) b;rw[Ki]at h7;have g6:(b.alloc (ii (List.replicate a.y.length false))).heap[b.heap.size]? = some (ii (List.replicate a.y.length false)):=aK rfl;have e3:=Z (Yp (ah [b.heap.size] (b.alloc (ii (List.replicate a.y.length false)))) g6);have e0:=Z (b9.j.bz ((ah [] b).G (ii (List.replicate a.y.length false))) (by simp));have b8:=Z (d9.j.G (ii (List.replicate a.y.length false)));have S:=Z ((((ah [] b).G (ii (List.replicate a.y.length false))).K _ c4 (by simp)).trans d4.j);have g8:U (∀l,(Value.slice e8 x.length f2).ownBlock=some l->l≠b.heap.size):=Z (λl B f6=>by have:=(gK b9.j B).2;omega);have j2:c.heap.size<b.heap.size:=c4;go_wp2;generalize j1:b.alloc (ii (List.replicate a.y.length false))=b5 at *
 go_loopw [7] (λr z=>∃(i:Nat) (k:List Bool),r=.int .i64 i/\i<=x.length/\U (k.length=a.y.length)/\U (hq (x.drop i) k=hq x (List.replicate a.y.length false))/\U (ai [b.heap.size] b5 z/\z.heap[b.heap.size]? = some (ii k))) (λr _=>x.length-(intOf r).toNat)
 case atStart=>exact⟨0,List.replicate a.y.length false,rfl,by omega,Z (by simp),Z rfl,e3⟩
 case round=>
  obtain⟨i,k,rfl,N,F,J,j⟩:=hrel;rcases Yj i x.length with a2|h0
  .have j5:(0:Int)<=↑i:=by omega
   have h3:(↑i:Int) < ↑x.length:=by omega
   obtain⟨l,f1,O,g7,h2⟩:=Bi (e0.j.bz j.j.1 (λl B=>by simpa using g8.j l B)) a2;simp only[Value.slice.injEq]at O;obtain⟨rfl,-,rfl⟩:=O;have w:=Z ((BD a2).symm.trans J.j);have i1:=b4 (x.getD i 0) (by simp[a2]);generalize x.getD i 0=C at *
   by_cases M:0<=C
   .obtain⟨m,rfl⟩:∃m:Nat,C=m:=⟨C.toNat,by omega⟩;rw[Y9 M,Int.toNat_natCast]at w;have b2:m<k.length:=by rw[F.j];omega
    have f4:=vW j.j.2 b2;have f8:=cG j.j.2;have e5:=Z (Yp (j.j.1.a6 (p:=⟨b.heap.size,m,none⟩) (by simp) (.bool true)) (CT (j:=m) j.j.2));have H:U ((k.set m true).length=a.y.length):=Z (by rw[YF];exact F.j);go_wp2;exact⟨⟨i+1,k.set m true,by go_num,by omega,H,w,e5⟩,by simp[intOf];omega⟩
   .rw[Y2 M]at w;go_wp2;exact⟨⟨i+1,k,by go_num,by omega,F,w,j⟩,by simp[intOf];omega⟩
  .have h3:¬((↑i:Int) < ↑x.length):=by omega
   have w:U (k=hq x (List.replicate a.y.length false)):=Z (by rw[<-J.j,YR h0];rfl);have d6:U (mh a o=(fM a a.y.length k).getD o false):=Z (by rw[d5.j,<-w.j]);generalize g5:fM a a.y.length k=SR at *
   have d8:=Z g5;go_wp2;go_loopw [8] (λr z=>∃(s:Nat) (k:List Bool),r=.int .i64 s/\s<=a.y.length/\U (k.length=a.y.length)/\U (fM a (a.y.length-s) k=SR)/\U (ai [b.heap.size] b5 z/\z.heap[b.heap.size]? = some (ii k))) (λr _=>a.y.length-(intOf r).toNat)
   case atStart=>exact⟨0,k,rfl,by omega,F,d8,j⟩
   case round=>
    obtain⟨s,k,rfl,a4,F,J,j⟩:=hrel;have q:=(j.j.1.K _ (aj S.j) (by simp;omega)).trans S.j;have c2:wr.cell? ⟨c.heap.size,0,none⟩=some (.slice K a.y.length L):=aS q rfl;have c3:=cG q;have f0:=aj q;rcases Yj s a.y.length with a2|j3
    .have h6:(↑s:Int) < ↑a.y.length:=by omega
     have w:U (fM a (a.y.length-(s+1)) (gM a a.y.length 0 k)=SR):=Z (by rw[<-J.j,show a.y.length-s=(a.y.length-(s+1))+1 by omega,fM]);go_wp2;go_loopw [9] (λr z=>∃(i:Nat) (u:List Bool),r=.int .i64 i/\i<=a.y.length/\U (u.length=a.y.length)/\U (gM a (a.y.length-i) i u=gM a a.y.length 0 k)/\U (ai [b.heap.size] b5 z/\z.heap[b.heap.size]? = some (ii u))) (λr _=>a.y.length-(intOf r).toNat)
     case atStart=>exact⟨0,k,rfl,by omega,F,Z rfl,j⟩
     case round=>
      obtain⟨n,u,rfl,j6,a1,b6,j⟩:=hrel;have q:=(j.j.1.K _ (aj S.j) (by simp;omega)).trans S.j;have c2:wr.cell? ⟨c.heap.size,0,none⟩=some (.slice K a.y.length L):=aS q rfl;have i5:wr.cell? ⟨c.heap.size,1,none⟩=some (.slice a7 a.F.length a9):=aS q rfl;have i6:wr.cell? ⟨c.heap.size,2,none⟩=some (.slice a8 a.ak.length b0):=aS q rfl;have i7:wr.cell? ⟨c.heap.size,3,none⟩=some (.string ⟨a.j.toArray⟩):=aS q rfl;have c3:=cG q;have f0:=aj q;rcases Yj n a.y.length with a3|j4
      .have j7:(0:Int)<=↑n:=by omega
       have h4:(↑n:Int) < ↑a.y.length:=by omega
       have h5:n<u.length:=by rw[a1.j];exact a3
       have i8:=vW j.j.2 h5;have i9:=cG j.j.2;have i3:=aj j.j.2;have E:=Z (b6.j.symm.trans (by rw[show a.y.length-n=(a.y.length-(n+1))+1 by omega,gM]));generalize k5:u.getD n false=i4 at *
       cases i4 with
       |true=>
        simp only[if_true]at E
        have a6:=lm b8.j j.j.1 (λs a4=>by simp at a4;omega);have b4:=(a0.j n a3).2;have j8:(cu (a.y.getD n cT)).length<=2000:=by have:=Bu (a.y.getD n cT);have:=(a0.j n a3).1;omega
        have e4:=Z (c0.j wr n a6 a3);go_wp2_with fail;refine e4.j.mono ?_;rintro I d3 ⟨k8,rfl,d0,d2,f9⟩;obtain⟨e9,f3,rfl⟩:=bY d2;generalize cu (a.y.getD n cT)=y at *
        have c1:=Z (Yp (j.j.1.u (d0.af (by simp))) ((d0.K _ i3 (by simp)).trans j.j.2));have e1:=Z d2;have g9:U (∀l,(Value.slice e9 y.length f3).ownBlock=some l->l≠b.heap.size):=Z (λl B f6=>by rcases f9 l B with b1|b1<;>omega);have e2:=Z (Yp (ah [b.heap.size] d3) c1.j.2);go_wp2;go_loopw [11] (λr z=>∃(t:Nat) (A:List Bool),r=.int .i64 t/\t<=y.length/\U (A.length=a.y.length)/\U (hq (y.drop t) A=hq y u)/\U (ai [b.heap.size] d3 z/\z.heap[b.heap.size]? = some (ii A))) (λr _=>y.length-(intOf r).toNat)
        case atStart=>exact⟨0,u,rfl,by omega,a1,Z rfl,e2⟩
        case round=>
         obtain⟨t,A,rfl,k0,H,b7,D⟩:=hrel;rcases Yj t y.length with b3|h1
         .have k1:(0:Int)<=↑t:=by omega
          have h8:(↑t:Int) < ↑y.length:=by omega
          obtain⟨l,f1,O,g7,h2⟩:=Bi (e1.j.bz D.j.1 (λl B=>by simpa using g9.j l B)) b3;simp only[Value.slice.injEq]at O;obtain⟨rfl,-,rfl⟩:=O;have G:=Z ((BD b3).symm.trans b7.j);have i1:=b4 (y.getD t 0) (by simp[b3]);generalize y.getD t 0=C at *
          by_cases M:0<=C
          .obtain⟨m,rfl⟩:∃m:Nat,C=m:=⟨C.toNat,by omega⟩;rw[Y9 M,Int.toNat_natCast]at G;have b2:m<A.length:=by rw[H.j];omega
           have f4:=vW D.j.2 b2;have f8:=cG D.j.2;have e6:=Z (Yp (D.j.1.a6 (p:=⟨b.heap.size,m,none⟩) (by simp) (.bool true)) (CT (j:=m) D.j.2));have d7:U ((A.set m true).length=a.y.length):=Z (by rw[YF];exact H.j);go_wp2;exact⟨⟨t+1,A.set m true,by go_num,by omega,d7,G,e6⟩,by simp[intOf];omega⟩
          .rw[Y2 M]at G;go_wp2;exact⟨⟨t+1,A,by go_num,by omega,H,G,D⟩,by simp[intOf];omega⟩
         .have h8:¬((↑t:Int) < ↑y.length):=by omega
          have G:U (A=hq y u):=Z (by rw[<-b7.j,YR h1];rfl);rw[<-G.j]at E;have e7:=Z (Yp (c1.j.1.u D.j.1) D.j.2);go_wp2;exact⟨⟨n+1,A,by go_num,by omega,H,Z E.j.symm,e7⟩,by simp[intOf];omega⟩
       |false=>
        simp only[Ye,if_false]at E
        go_wp2;exact⟨⟨n+1,u,by go_num,by omega,a1,Z E.j.symm,j⟩,by simp[intOf];omega⟩
      .have h4:¬((↑n:Int) < ↑a.y.length):=by omega
       have E:U (u=gM a a.y.length 0 k):=Z (by rw[<-b6.j,show a.y.length-n=0 by omega,gM]);rw[<-E.j]at w;go_wp2;exact⟨⟨s+1,u,by go_num,by omega,a1,w,j⟩,by simp[intOf];omega⟩
    .have h6:¬((↑s:Int) < ↑a.y.length):=by omega
     have w:U (k=SR):=Z (by rw[<-J.j,show a.y.length-s=0 by omega,fM]);have h9:o<k.length:=by rw[F.j];exact a5
     have k2:(0:Int)<=↑o:=by omega
     have k3:(↑o:Int) < ↑a.y.length:=by omega
     have f5:=vW j.j.2 h9;have j0:=cG j.j.2;have k6:=aj j.j.2;rw[w.j]at f5;have a6:=Z (lm b8.j j.j.1 (λs a4=>by simp at a4;omega));go_wp2;go_ret;exact⟨by rw[d6.j];simp,a6.j⟩
end
section
variable {t : List UInt8} {a σ' b : ac}
def rY(b:σ'.s=a.s):aN a σ':=λ_=>⟨by rw[b],by rw[b]⟩
def yX(c:Nat)(d:List Int)(e:List UInt8)(a:ac):aN a (di t c d e a).2.2.2:=λb=>by rw[pH b];exact⟨rfl,rfl⟩
def yZ(c:Nat)(f:List Int)(d:List (List UInt8))(e:List UInt8)(a:ac):aN a (dJ t c f d e a).2.2:=λb=>by rw[tW b];exact⟨rfl,rfl⟩
def za(of:Int)(c:Nat)(e g:List Int)(d:List (List UInt8))(f:List UInt8)(a:ac):aN a (dP t of c e g d f a).2:=λb=>by rw[qy b];exact⟨rfl,rfl⟩
def zb(c:Nat)(d:List (List UInt8))(e:List Int)(all:List bj)(f:List UInt8)(a:ac):aN a (eq t c d e all f a).2:=λb=>by rw[zm b];exact⟨rfl,rfl⟩
def Du(b:List (List UInt8))(a:ac):aN a (go t b a).2:=by
 unfold go;split
 .exact(ha _).u ((aP _ _ _).u (wj _ _))
 .exact ee a
def Qg(a:ac):aN (ar a.a1 40 a) (fO t a):=by
 unfold fO;simp only;generalize e:aH t 2 (ab t 2 [99,111,110,115,116] (ar a.a1 40 a))=c;have d:aN (ar a.a1 40 a) c.2:=by rw[<-e];exact(aP _ _ _).u (oK _ _)
 generalize f:aW t (-2147483648) 4294967295 (ab t 4 [61] c.2)=v;have b:aN (ar a.a1 40 a) (ab t 4 [59] v.2):=by rw[<-f];exact d.u ((aP _ _ _).u ((hc _ _ _).u (aP _ _ _)))
 split
 .exact b
 .exact b.u ((Dy _ _ _).u (mB _ _))
def Qn(a:ac):aN a (gi t a):=by
 unfold gi;simp only;generalize d:bR t [] true (ab t 2 [116,121,112,101,100,101,102] a)=b;have c:aN a b.2:=by rw[<-d];exact(aP _ _ _).u (wk _ _ _)
 split
 .exact c
 .exact c.u (aN.u (rY (σ':={ b.2 with F:=b.2.F++[⟨b.1.x.text,1,b.1.r,b.1.x.w⟩] }) rfl) ((aP _ _ _).u (mB _ _)))
def Qh(a:ac):aN a (gG t a):=by
 unfold gG;simp only;generalize g:aH t 2 (ab t 2 [101,110,117,109] a)=b;have e:aN a b.2:=by rw[<-g];exact(aP _ _ _).u (oK _ _)
 generalize f:di t 13 [] ([101,110,117,109,32]++b.1.text++[32,123,32]) (ab t 4 [123] b.2)=d;have c:aN a d.2.2.2:=by rw[<-f];exact e.u ((aP _ _ _).u (yX _ _ _ _))
 split
 .exact c
 .exact c.u ((aP _ _ _).u ((aP _ _ _).u ((fu _ _).u ((sa _ _ _).u (mB _ _)))))
def Qm(a:ac):aN a (gx t a):=by
 unfold gx;exact(aP _ _ _).u ((oK _ _).u ((aP _ _ _).u ((yZ _ _ _ _ _).u ((aP _ _ _).u ((aP _ _ _).u ((fu _ _).u ((sa _ _ _).u (mB _ _))))))))
def Qo(a:ac):aN a (fX t a):=by
 unfold fX;exact(aP _ _ _).u ((oK _ _).u ((aP _ _ _).u ((aP _ _ _).u ((DA _).u ((sb _).u ((aP _ _ _).u ((aP _ _ _).u ((za _ _ _ _ _ _ _).u ((Du _ _).u ((aP _ _ _).u ((aP _ _ _).u ((fu _ _).u ((sa _ _ _).u (mB _ _))))))))))))))
def Ql(a:ac):aN (ar a.aa.length 4 a) (gu t a):=by
 unfold gu;simp only;generalize g:aH t 2 (ab t 2 [112,114,111,103,114,97,109] (ar a.aa.length 4 a))=b;have c:aN (ar a.aa.length 4 a) b.2:=by rw[<-g];exact(aP _ _ _).u (oK _ _)
 generalize f:eq t 6 [] [] [] ([112,114,111,103,114,97,109,32]++b.1.text++[32,123,32]) (ab t 4 [123] b.2)=v;have d:aN (ar a.aa.length 4 a) (ab t 4 [125] v.2):=by rw[<-f];exact c.u ((aP _ _ _).u ((zb _ _ _ _ _ _).u (aP _ _ _)))
 have e:=d.u (mA (t:=t) (ab t 4 [125] v.2).aa _);exact e.u (rY rfl)
def kF(a:ac):Nat:=a.a1.toNat+a.ae.toNat+a.aa.length
def Hm(b:(bH t a).s.e=0)(q:a.s.e=0)(v:0<=a.a1/\0<=a.ae)(u:a.s.x.H≠5):kF a+1<=kF (bH t a):=by
 unfold bH at *
 split at b
 .rename_i h;rw[Y9 h];obtain⟨f,g⟩:=Gm b;have:=g.t;have:=g.p;unfold kF;omega
 .rename_i h;rw[Y2 h];split at b
  .rename_i i;rw[Y9 i];obtain⟨f,g⟩:=Gu (t:=t) a;have:=f.c;have:=f.t;unfold kF;omega
  .rename_i i;rw[Y2 i];split at b
   .have:(dd a).s.e≠0:=by simp[dd,jQ,lZ,hp,q,u]
    exact absurd b this
   .rename_i r;rw[Y2 r];simp only at b ⊢;have j:=(cx a.ae 24 a).kd;have d:∀l:ac,ed { ar a.ae 24 a with ae:=(ar a.ae 24 a).ae+1 } l->kF a+1<=kF l:=by
     intro l k;have m:=k.c;have n:=k.t;have o:=k.p;simp only at m n o;rw[j.1]at m;rw[j.2.1]at n;rw[j.2.2.1]at o;unfold kF;omega
    split
    .exact d _ (Gx _)
    .split
     .exact d _ (Gp _)
     .split
      .exact d _ (Gv _)
      .exact d _ (Gy _)
end
section
variable {t : List UInt8} {a b c : ac}
def il:ac:=⟨⟨cd,0,0⟩,[],[],[],[],0,0,[]⟩
def qk:PV:=⟨.slice none 0 0,.slice none 0 0,.slice none 0 0,.slice none 0 0,[]⟩
def Nh{X:Nat->Prop}(c:World)(d:∀b,X b->b<c.heap.size)(f:t.length<=2000):bg X c.heap.size t 0 il qk (c.alloc (lB t il.s (pB qk il))):=by
 refine⟨aK rfl,⟨rfl,Y8 ⟨rfl,rfl⟩⟩,⟨rfl,Y8 ⟨rfl,rfl⟩⟩,⟨rfl,Y8 ⟨rfl,rfl⟩⟩,⟨rfl,Y8 ⟨rfl,rfl⟩⟩,rfl,?_,?_,?_,?_,?_,YV _,by simp[il,cd],f,by simp[il,ac.sz],by simp[il]⟩
 .intro h j i e;simp[il]at e
 .constructor<;>simp[qk,Value.ownBlock]
 .intro b a;simp[PV.bz,qk]at a
 .intro b a g;have:=d b g;rcases a with a|a
  .simp[PV.b7,qk,Value.ownBlock]at a;omega
  .simp[PV.bz,qk]at a
 .intro b a;have:=d b a;simp;omega
end
section
variable {t : List UInt8} {a b c : ac}
def Lv(e:bG a)(c:be):bG (bK c a):=by
 intro b g f;obtain⟨d,h⟩:=e b g f;refine⟨d,?_⟩;show b.n<((a.y++[c]).length:Int);rw[Yq];simp only[List.length_singleton];omega
def yi(b:bG a)(c:List UInt8):bG (dW c a):=b
def BW(f:bG a)(h:Nat)(e c:Int)(g:e=1->0<=c/\c<a.y.length):bG (gw a h e c):=by
 intro i b d;unfold gw at b;simp only at b;rcases List.mem_or_eq_of_mem_set b with b|rfl
 .exact f i b d
 .exact g d
def BV(b:bG a)(d:List UInt8)(c:Int):bG (dB d c a):=by
 unfold dB;simp only;split
 .exact BW b _ 0 c (by simp)
 .exact b
def Ly(c:bG a)(e:List UInt8)(b:Int)(d:0<=b/\b<a.y.length):bG (cY e b a):=by
 unfold cY;split
 .exact BW c _ 1 b (λ_=>d)
 .exact c
def Lq(d:bG a):bG (fO t a):=by
 unfold fO;simp only;generalize f:aH t 2 (ab t 2 [99,111,110,115,116] (ar a.a1 40 a))=c;have e:bG c.2:=by rw[<-f];exact pX (eB d ((cx _ _ _).u (an _ _ _)).al) 2 (by decide)
 generalize g:aW t (-2147483648) 4294967295 (ab t 4 [61] c.2)=v;have b:bG (ab t 4 [59] v.2):=by rw[<-g];exact eB e ((an _ _ _).u ((fW _ _ _).u (an _ _ _))).al
 split
 .exact b
 .exact yi (BV b _ _) _
def yh(e:bG a)(d:List UInt8)(b:be)(c:List UInt8):bG (dW c (cY d a.y.length (bK b a))):=by
 refine yi (Ly (Lv e b) d _ ⟨by omega,?_⟩) c;show ((a.y.length:Nat):Int)<((a.y++[b]).length:Int);rw[Yq];simp only[List.length_singleton];omega
def Lx:∀(c:Nat) (e:List Int) (d:List (List UInt8)) (f:List UInt8) (a:ac),bG a->bG (dJ t c e d f a).2.2:=by
 intro c;induction c with
 |zero=>intro e d f a b;exact b
 |succ c h=>
  intro e d f a b;unfold dJ;split
  .exact b
  .simp only;have g:bG (ab t 4 [59] (bR t d false (ar e.length 12 a)).2):=eB b ((cx _ _ _).al.u ((kG _ _ _).u (an _ _ _).al));split
   .exact g
   .exact h _ _ _ _ g
def Lw(b:bG a):bG (gx t a):=by
 unfold gx;simp only;generalize d:aH t 2 (ab t 2 [115,116,114,117,99,116] a)=e;have c:bG e.2:=by rw[<-d];exact pX (eB b (an _ _ _).al) 2 (by decide)
 exact yh (eB (Lx _ _ _ _ _ (eB c (an _ _ _).al)) ((an _ _ _).u (an _ _ _)).al) _ _ _
def Lt:∀(d:Nat) (b:List Int) (g:List UInt8) (a:ac),bG a->bG (di t d b g a).2.2.2:=by
 intro d;induction d with
 |zero=>intro b g a c;exact c
 |succ d o=>
  intro b g a c;unfold di;split
  .exact c
  .simp only;generalize m:aH t 2 (ar (ar b.length 12 a).a1 40 (ar b.length 12 a))=f;have j:bG f.2:=by rw[<-m];exact pX (eB c ((cx _ _ _).u (cx _ _ _)).al) 2 (by decide)
   generalize n:aW t (-2147483648) 2147483647 (ab t 4 [61] f.2)=v;have k:bG v.2:=by rw[<-n];exact eB j ((an _ _ _).u (fW _ _ _)).al
   generalize l:(if v.2.s.e=0/\b.contains v.1.1=true then bp 6 v.1.2 v.2 else v.2)=p
   have h:bG p:=by rw[<-l];exact eB k (jE _ _ _ _).al
   split
   .exact h
   .have i:=BV h f.1.text v.1.1;split
    .exact o _ _ _ (eB i (eD _).al)
    .exact i
def Ls(e:bG a):bG (gG t a):=by
 unfold gG;simp only;generalize h:aH t 2 (ab t 2 [101,110,117,109] a)=b;have f:bG b.2:=by rw[<-h];exact pX (eB e (an _ _ _).al) 2 (by decide)
 generalize g:di t 13 [] ([101,110,117,109,32]++b.1.text++[32,123,32]) (ab t 4 [123] b.2)=d;have c:bG d.2.2.2:=by rw[<-g];exact Lt _ _ _ _ (eB f (an _ _ _).al)
 split
 .exact c
 .exact yh (eB c ((an _ _ _).u (an _ _ _)).al) _ _ _
def LB(of:Int):∀(d:Nat) (b g:List Int) (e:List (List UInt8)) (f:List UInt8) (a:ac),bG a->bG (dP t of d b g e f a).2:=by
 intro d;induction d with
 |zero=>intro b g e f a c;exact c
 |succ d i=>
  intro b g e f a c;unfold dP;split
  .exact c
  .simp only;have h:bG (cf t e (bU t of (14-b.length) b [] a).2).2:=eB c ((mY (t:=t) of _ b [] a).1.al.u (mi _ _));split
   .exact i _ _ _ _ _ h
   .exact h
def sV(b:List (List UInt8))(a:ac):cz a (go t b a).2:=by
 unfold go;split
 .exact((eD _).u (an _ _ _)).al.u (mi _ _)
 .exact nO a
def LA(e:bG a):bG (fX t a):=by
 unfold fX;simp only;generalize k:aH t 2 (ab t 2 [117,110,105,111,110] a)=d;have f:bG d.2:=by rw[<-k];exact pX (eB e (an _ _ _).al) 2 (by decide)
 generalize j:bS t (ab t 4 [40] (ab t 2 [115,119,105,116,99,104] d.2))=b;have g:bG b.2:=by rw[<-j];exact eB f (((an _ _ _).u (an _ _ _)).u (oJ _)).al
 have h:bG (ab t 4 [123] (ab t 4 [41] (cK t b.2).2)):=eB g ((jd _).u ((an _ _ _).u (an _ _ _))).al;generalize cK t b.2=c at *
 generalize l:dP t b.1.1 14 [] [] [c.1.text] ([117,110,105,111,110,32]++d.1.text++[32,115,119,105,116,99,104,32,40]++b.1.2++[32]++c.1.text++[41,32,123,32]) (ab t 4 [123] (ab t 4 [41] c.2))=m;have i:bG m.2:=by rw[<-l];exact LB _ _ _ _ _ _ _ h
 exact yh (eB i ((sV _ _).u ((an _ _ _).u (an _ _ _)).al)) _ _ _
def Lu(d:bG a):bG (gu t a):=by
 unfold gu;simp only;generalize i:aH t 2 (ab t 2 [112,114,111,103,114,97,109] (ar a.aa.length 4 a))=c;have b:bG c.2:=by rw[<-i];exact pX (eB d ((cx _ _ _).u (an _ _ _)).al) 2 (by decide)
 generalize h:eq t 6 [] [] [] ([112,114,111,103,114,97,109,32]++c.1.text++[32,123,32]) (ab t 4 [123] c.2)=v;have e:bG v.2:=by rw[<-h];exact eB b ((an _ _ _).al.u (sX _ _ _ _ _ _))
 have f:bG (bD t (ab t 4 [125] v.2).aa (ab t 4 [125] v.2)).2:=eB e ((an (t:=t) 4 [125] v.2).al.u (ni (t:=t) (ab t 4 [125] v.2).aa _));exact λj g b=>f j g b
end
section
variable {t : List UInt8} {σ a b : ac}
def pt(σ:ac)(a:Int):Prop:=0<=a/\a<σ.y.length
def cz.bc(b:cz σ a):σ.y.length<=a.y.length:=by
 obtain⟨d,c,_⟩:=b.y;rw[c,Yq];omega
def pt.al{c:Int}(b:pt σ c)(d:cz σ a):pt a c:=⟨b.1,by have:=d.bc;have:=b.2;omega⟩
def tN(a:be):pt (bK a σ) σ.y.length:=⟨by omega,by show ((σ.y.length:Nat):Int)<((σ.y++[a]).length:Int);rw[Yq];simp only[List.length_singleton];omega⟩
def Jw(f:5<=σ.y.length):pt (ci t σ).2 (ci t σ).1.1:=by
 have b:∀(a:ac) (c:Int),cz σ a->0<=c->c<=4->pt a c:=λa c e d g=>⟨d,by have:=e.bc;omega⟩;unfold ci;split
 .exact b _ _ (nO σ) (by simp) (by simp)
 .split
  .exact tN _
  .split
   .exact b _ _ (eD σ).al (by simp) (by simp)
   .split
    .exact b _ _ (eD σ).al (by simp) (by simp)
    .split
     .exact b _ _ (eD σ).al (by simp) (by simp)
     .split
      .unfold iJ;split
       .exact b _ _ ((eD σ).u (eD _)).al (by simp) (by simp)
       .split
        .exact b _ _ ((eD σ).u (eD _)).al (by simp) (by simp)
        .exact b _ _ (eD σ).al (by simp) (by simp)
      .exact b _ _ (tT σ).al (by simp) (by simp)
def Ha(b:5<=σ.y.length)(a:List (List UInt8))(all:Bool):pt (bR t a all σ).2 (bR t a all σ).1.r:=by
 unfold bR;split
 .unfold gt;simp only;split<;>exact tN _
 .unfold gq;simp only;have c:=Jw (t:=t) b;split
  .exact tN _
  .split
   .exact tN _
   .split
    .exact tN _
    .exact c.al (gZ _ _ _).al
def Lz(d:bG σ)(e:5<=σ.y.length):bG (gi t σ):=by
 unfold gi;simp only;have f:=Ha (t:=t) (σ:=ab t 2 [116,121,112,101,100,101,102] σ) e [] true;have c:bG (bR t [] true (ab t 2 [116,121,112,101,100,101,102] σ)).2:=eB d ((an _ _ _).al.u (kG _ _ _));generalize bR t [] true (ab t 2 [116,121,112,101,100,101,102] σ)=a at *
 split
 .exact c
 .refine yi (eB (σ:={ a.2 with F:=a.2.F++[⟨a.1.x.text,1,a.1.r,a.1.x.w⟩] }) ?_ (an _ _ _).al) _;intro h b g;simp only[Yn,Yc]at b;rcases b with b|rfl
  .exact c h b g
  .exact f
def Lr(a:bG σ)(c:5<=σ.y.length):bG (bH t σ):=by
 have b:bG { ar σ.ae 24 σ with ae:=(ar σ.ae 24 σ).ae+1 }:=tw (eB a (cx σ.ae 24 σ).al) _;have d:5<=({ ar σ.ae 24 σ with ae:=(ar σ.ae 24 σ).ae+1 }:ac).y.length:=by
  show 5<=(ar σ.ae 24 σ).y.length;rw[(cx σ.ae 24 σ).y];exact c
 unfold bH;split
 .exact Lq a
 .split
  .exact Lu a
  .split
   .exact eB a (tT σ).al
   .simp only;split
    .exact Lz b d
    .split
     .exact Ls b
     .split
      .exact Lw b
      .exact LA b
end
section
variable {t : List UInt8} {a σ' b : ac}
structure Rn(a:ac):Prop where
 hv:5<=a.y.length
 c6:∀r∈a.y,r.b2.length<=1000/\r.c0.length<=1000
def Rn.al(d:Rn a)(g:cz a σ'):Rn σ':=by
 obtain⟨h,f,e⟩:=g.y;refine⟨by rw[f,Yq];have:=d.hv;omega,?_⟩;intro c b;rw[f]at b;rcases Yn.1 b with b|b
 .exact d.c6 c b
 .rw[(e c b).1,(e c b).2];simp
def Rn.of(b:Rn a)(c:σ'.y=a.y):Rn σ':=⟨by rw[c];exact b.hv,by rw[c];exact b.c6⟩
def tM(c:Rn a)(b:Int):Rn (aH t b a).2:=c.of (mw b a)
def yE(d:Rn a)(c:be)(f:c.b2.length<=1000/\c.c0.length<=1000):Rn (bK c a):=by
 refine⟨by show 5<=(a.y++[c]).length;rw[Yq];have:=d.hv;omega,?_⟩;intro e b;rcases Yn.1 (show e∈a.y++[c]from b)with b|b
 .exact d.c6 e b
 .simp at b;subst b;exact f
def Ol(b:Rn a)(d:List UInt8)(c:Int):Rn (dB d c a):=by
 unfold dB gw;split<;>exact⟨b.hv,b.c6⟩
def yF(b:Rn a)(d:List UInt8)(c:Int):Rn (cY d c a):=by
 unfold cY gw;split
 .exact⟨b.hv,b.c6⟩
 .exact b
def vS(b:Rn a)(c:List UInt8):Rn (dW c a):=⟨b.hv,b.c6⟩
def Oh(c:Rn a):Rn (fO t a):=by
 unfold fO;simp only;have d:Rn (aH t 2 (ab t 2 [99,111,110,115,116] (ar a.a1 40 a))).2:=tM (c.al ((cx _ _ _).u (an _ _ _)).al) 2;generalize aH t 2 (ab t 2 [99,111,110,115,116] (ar a.a1 40 a))=e at *
 have b:Rn (ab t 4 [59] (aW t (-2147483648) 4294967295 (ab t 4 [61] e.2)).2):=d.al ((an _ _ _).u ((fW _ _ _).u (an _ _ _))).al;split
 .exact b
 .exact vS (Ol b _ _) _
def Op(c:Rn a):Rn (gi t a):=by
 unfold gi;simp only;have b:Rn (bR t [] true (ab t 2 [116,121,112,101,100,101,102] a)).2:=c.al ((an _ _ _).al.u (kG _ _ _));split
 .exact b
 .exact⟨b.hv,b.c6⟩
def Om(d:Rn a):Rn (gu t a):=by
 unfold gu;simp only;have e:Rn (aH t 2 (ab t 2 [112,114,111,103,114,97,109] (ar a.aa.length 4 a))).2:=tM (d.al ((cx _ _ _).u (an _ _ _)).al) 2;generalize aH t 2 (ab t 2 [112,114,111,103,114,97,109] (ar a.aa.length 4 a))=c at *
 generalize g:eq t 6 [] [] [] ([112,114,111,103,114,97,109,32]++c.1.text++[32,123,32]) (ab t 4 [123] c.2)=v;have f:Rn v.2:=by rw[<-g];exact e.al ((an _ _ _).al.u (sX _ _ _ _ _ _))
 have b:Rn (bD t (ab t 4 [125] v.2).aa (ab t 4 [125] v.2)).2:=f.al ((an (t:=t) 4 [125] v.2).al.u (ni (t:=t) (ab t 4 [125] v.2).aa _));exact⟨b.hv,b.c6⟩
def Qt:∀(d:Nat) (b:List Int) (c:List (List UInt8)) (e:List UInt8) (a:ac),(dJ t d b c e a).1.length<=b.length+d:=by
 intro d;induction d with
 |zero=>intro b c e a;exact Y4 _
 |succ d f=>
  intro b c e a;unfold dJ;split
  .simp
  .simp only;split
   .simp
   .have:=f (b++[(bR t c false (ar b.length 12 a)).1.r]) (c++[(bR t c false (ar b.length 12 a)).1.x.text]) (e++(bR t c false (ar b.length 12 a)).1.d5++(bR t c false (ar b.length 12 a)).1.x.text++(bR t c false (ar b.length 12 a)).1.fA++[59,32]) (ab t 4 [59] (bR t c false (ar b.length 12 a)).2);rw[Yq,List.length_singleton]at this;omega
def Oo:∀(c:Nat) (e:List Int) (d:List (List UInt8)) (f:List UInt8) (a:ac),Rn a->Rn (dJ t c e d f a).2.2:=by
 intro c;induction c with
 |zero=>intro e d f a b;exact b
 |succ c h=>
  intro e d f a b;unfold dJ;split
  .exact b
  .simp only;have g:Rn (ab t 4 [59] (bR t d false (ar e.length 12 a)).2):=b.al ((cx _ _ _).al.u ((kG _ _ _).u (an _ _ _).al));split
   .exact g
   .exact h _ _ _ _ g
def On(d:Rn a):Rn (gx t a):=by
 unfold gx;simp only;have e:Rn (aH t 2 (ab t 2 [115,116,114,117,99,116] a)).2:=tM (d.al (an _ _ _).al) 2;generalize aH t 2 (ab t 2 [115,116,114,117,99,116] a)=b at *
 have g:=Qt (t:=t) 14 [] [] ([115,116,114,117,99,116,32]++b.1.text++[32,123,32]) (ab t 4 [123] b.2);have f:=Oo (t:=t) 14 [] [] ([115,116,114,117,99,116,32]++b.1.text++[32,123,32]) (ab t 4 [123] b.2) (e.al (an _ _ _).al);generalize dJ t 14 [] [] ([115,116,114,117,99,116,32]++b.1.text++[32,123,32]) (ab t 4 [123] b.2)=c at *
 refine vS (yF (yE (f.al ((an _ _ _).u (an _ _ _)).al) _ ⟨by simp,?_⟩) _ _) _;simp only[List.length_nil]at g;show c.1.length<=1000;omega
end
end Go.Proofs.YtjdhaegijjednaaGreatDoor
namespace Go.Proofs.YtjdhaegijjednaaGreatDoor
open Go.RowKit
open Go.MapKept
open Go.Proofs.Tryz
section
variable {g e:Nat}{a:gy}{f:List (Nat×Obj)}{b:aG}{n:List UInt8}{c:World}{d:Type}
def RE{a:eV d}(s:hh a)(z:∀n∈cg b.L,a.ok n)(w:dx f e (.typedef b))(r:∀{g:d} {l:World},a.J g l->∀k∈f,l.heap[k.1]? = some k.2){g:d}(i:a.J g c) :
  Calls prog 337 #[.pointer (some ⟨e,0,none⟩),a.v] c (fv a c (aZ a (cg b.L) g)):=by
 obtain⟨H,I,B,_⟩:=dT (r i _ w);obtain⟨D,K,j⟩:=fm b.L;have G:=qc b.L j;have F:=pY b.L;rw[j]at B;have m:=Z (tA s b.L z i);go_in;go_wp2_with fail;refine m.j.mono ?_;rintro E L (⟨C,h,rfl,x,A⟩|⟨q,h,y,p,t,rfl,u⟩);rotate_left
 .exact aq (Ya ⟨q,h,y,p,t,rfl,u⟩)
 have o:=Z h;go_wp2;go_end0;exact Y8 ⟨C,o.j,rfl,x,A⟩
def RL{h:eV d}(K:hh h){d1:aG}(c4:∀n∈a.flatMap λb=>cg b.2.L,h.ok n)(b4:dx f e (.union n g d1 a))(J:∀{k:d} {o:World},h.J k o->∀N∈f,o.heap[N.1]? = some N.2){k:d}(C:h.J k c) :
  Calls prog 348 #[.pointer (some ⟨e,0,none⟩),h.v] c (fv h c (aZ h (a.flatMap λb=>cg b.2.L) k)):=by
 have a1:=Z c4;obtain⟨e6,t,b0,d4,c6,b5⟩:=b4;obtain⟨_,e2,_⟩:=oh (J C _ b0);rcases c6 with⟨rfl,a9,_⟩|⟨s,a6,a7,rfl,⟨d3,e0⟩,b7,x⟩
 .have c3:a=[]:=Yv.1 a9;subst c3;have z:=Z C;go_in;go_wp2;go_loopw [11] (λi y=>i=.int .i64 0/\y=c) (λ_ _=>0)
  case atStart=>exact⟨rfl,rfl⟩
  case round=>
   obtain⟨rfl,rfl⟩:=hrel;go_wp2;go_end0;exact Y8 ⟨k,rfl,rfl,z.j,ah _ _⟩
 .have c5:∀(o:World) (m:d),h.J m o->∀i (L:i<a.length),∃p r q,o.cell? ⟨s,i*4,none⟩=some (.slice p r q)/\o.cell? ⟨s,i*4+1,none⟩=some (.string ⟨a[i].2.t.toArray⟩)/\o.cell? ⟨s,i*4+2,none⟩=some (.int .i64 a[i].2.w)/\o.cell? ⟨s,i*4+3,none⟩=some (bX a[i].2.L):=by
   intro o m c7 i L;have w:=J c7 _ b7;have b8:i<t.length:=by omega
   have u:=lk (c:=iS) (n:=4) (λ_=>rfl) (a.zip t) i;have l:i<(a.zip t).length:=by simp;omega
   obtain⟨p,r,q,b3⟩:∃g e H,t[i]=Value.slice g e H:=by rcases b5 i L b8 with⟨B,_⟩|⟨s,a6,a7,B,_⟩<;>exact⟨_,_,_,B⟩
   refine⟨p,r,q,cw w x ?_,cw w x ?_,cw w x ?_,cw w x ?_⟩
   .have:=u 0 l (by omega);simpa[b3]using this
   .have:=u 1 l (by omega);simpa using this
   .have:=u 2 l (by omega);simpa using this
   .have:=u 3 l (by omega);simpa using this
  have a2:=Z c5;have z:=Z C;go_in;go_wp2;go_loopw [11] (λi y=>∃(j:Nat) (m:d),i=.int .i64 j/\j<=a.length/\U (h.J m y)/\ai h.M c y/\U (aZ h (a.flatMap λb=>cg b.2.L) k=aZ h ((a.drop j).flatMap λb=>cg b.2.L) m)) (λi _=>a.length-(intOf i).toNat)
  case atStart=>exact⟨0,k,rfl,by omega,z,ah _ _,rfl⟩
  case round=>
   obtain⟨j,m,rfl,d9,A,l,F⟩:=hrel;rcases Yj j a.length with D|d6
   .obtain⟨p,r,q,e3,e4,e5,d0⟩:=a2.j _ _ A.j j D;obtain⟨a4,d2,I⟩:=fm a[j].2.L;have e1:=qc a[j].2.L I;have d5:=pY a[j].2.L;rw[I]at d0;have d7:(0:Int)<=↑j:=by omega
    have d8:(↑j:Int) < ↑a.length:=by omega
    have G:U (aZ h (a.flatMap λb=>cg b.2.L) k=aZ h (cg a[j].2.L++(a.drop (j+1)).flatMap λb=>cg b.2.L) m):=by
     refine F.j.trans ?_;rw[Yk D,YD]
    have a0:=Z (tA K a[j].2.L (λn c2=>a1.j n (List.mem_flatMap.2 ⟨a[j],Yy D,c2⟩)) (K.dl A.j ((Below.refl _ _).alloc (Y4 _) (.cells #[.slice p r q,.string ⟨a[j].2.t.toArray⟩,.int .i64 a[j].2.w,.iface a4 d2] 363))))
    go_wp2_with fail;refine a0.j.mono ?_;rintro B P (⟨O,E,rfl,b9,c8⟩|⟨a8,E,c0,a5,b1,rfl,b2⟩);rotate_left
    .exact(show bodyPost prog Tryz.f348 (fv h c (aZ h (a.flatMap λb=>cg b.2.L) k)) (Exit.panic _) _ P from aq (Ya ⟨a8,G.j.trans (qt E),(l.G _).u c0,a5,by have:=l.a2;simp at b1;omega,rfl,b2⟩))
    have a3:=Z b9;have R:U (aZ h (a.flatMap λb=>cg b.2.L) k=aZ h ((a.drop (j+1)).flatMap λb=>cg b.2.L) O):=G.j.trans (qu E);have c9:ai h.M c P:=(l.G _).u c8;go_wp2;exact⟨⟨j+1,O,by go_num,by omega,a3,c9,R⟩,by simp[intOf];omega⟩
   .have c1:j=a.length:=by omega
    subst c1;have b6:aZ h (a.flatMap λb=>cg b.2.L) k=.ok m:=by
     refine F.j.trans ?_;rw[List.drop_length];rfl
    have S:=Z b6;go_wp2;go_end0;exact Y8 ⟨m,S.j,rfl,A.j,l⟩
def RD{a:eV d}(s:hh a)(z:∀n∈cI b.L,a.ok n)(w:dx f e (.typedef b))(r:∀{g:d} {l:World},a.J g l->∀k∈f,l.heap[k.1]? = some k.2){g:d}(i:a.J g c) :
  Calls prog 336 #[.pointer (some ⟨e,0,none⟩),a.v] c (fv a c (aZ a (cI b.L) g)):=by
 obtain⟨H,I,B,_⟩:=dT (r i _ w);obtain⟨D,K,j⟩:=fm b.L;have G:=uV b.L j;have F:=uU b.L;rw[j]at B;have m:=Z (xN s b.L z i);go_in;go_wp2_with fail;refine m.j.mono ?_;rintro E L (⟨C,h,rfl,x,A⟩|⟨q,h,y,p,t,rfl,u⟩);rotate_left
 .exact aq (Ya ⟨q,h,y,p,t,rfl,u⟩)
 have o:=Z h;go_wp2;go_end0;exact Y8 ⟨C,o.j,rfl,x,A⟩
def RK{h:eV d}(K:hh h){d1:aG}(c4:∀n∈a.flatMap λb=>cI b.2.L,h.ok n)(b4:dx f e (.union n g d1 a))(J:∀{k:d} {o:World},h.J k o->∀N∈f,o.heap[N.1]? = some N.2){k:d}(C:h.J k c) :
  Calls prog 347 #[.pointer (some ⟨e,0,none⟩),h.v] c (fv h c (aZ h (a.flatMap λb=>cI b.2.L) k)):=by
 have a1:=Z c4;obtain⟨e6,t,b0,d4,c6,b5⟩:=b4;obtain⟨_,e2,_⟩:=oh (J C _ b0);rcases c6 with⟨rfl,a9,_⟩|⟨s,a6,a7,rfl,⟨d3,e0⟩,b7,x⟩
 .have c3:a=[]:=Yv.1 a9;subst c3;have z:=Z C;go_in;go_wp2;go_loopw [11] (λi y=>i=.int .i64 0/\y=c) (λ_ _=>0)
  case atStart=>exact⟨rfl,rfl⟩
  case round=>
   obtain⟨rfl,rfl⟩:=hrel;go_wp2;go_end0;exact Y8 ⟨k,rfl,rfl,z.j,ah _ _⟩
 .have c5:∀(o:World) (m:d),h.J m o->∀i (L:i<a.length),∃p r q,o.cell? ⟨s,i*4,none⟩=some (.slice p r q)/\o.cell? ⟨s,i*4+1,none⟩=some (.string ⟨a[i].2.t.toArray⟩)/\o.cell? ⟨s,i*4+2,none⟩=some (.int .i64 a[i].2.w)/\o.cell? ⟨s,i*4+3,none⟩=some (bX a[i].2.L):=by
   intro o m c7 i L;have w:=J c7 _ b7;have b8:i<t.length:=by omega
   have u:=lk (c:=iS) (n:=4) (λ_=>rfl) (a.zip t) i;have l:i<(a.zip t).length:=by simp;omega
   obtain⟨p,r,q,b3⟩:∃g e H,t[i]=Value.slice g e H:=by rcases b5 i L b8 with⟨B,_⟩|⟨s,a6,a7,B,_⟩<;>exact⟨_,_,_,B⟩
   refine⟨p,r,q,cw w x ?_,cw w x ?_,cw w x ?_,cw w x ?_⟩
   .have:=u 0 l (by omega);simpa[b3]using this
   .have:=u 1 l (by omega);simpa using this
   .have:=u 2 l (by omega);simpa using this
   .have:=u 3 l (by omega);simpa using this
  have a2:=Z c5;have z:=Z C;go_in;go_wp2;go_loopw [11] (λi y=>∃(j:Nat) (m:d),i=.int .i64 j/\j<=a.length/\U (h.J m y)/\ai h.M c y/\U (aZ h (a.flatMap λb=>cI b.2.L) k=aZ h ((a.drop j).flatMap λb=>cI b.2.L) m)) (λi _=>a.length-(intOf i).toNat)
  case atStart=>exact⟨0,k,rfl,by omega,z,ah _ _,rfl⟩
  case round=>
   obtain⟨j,m,rfl,d9,A,l,F⟩:=hrel;rcases Yj j a.length with D|d6
   .obtain⟨p,r,q,e3,e4,e5,d0⟩:=a2.j _ _ A.j j D;obtain⟨a4,d2,I⟩:=fm a[j].2.L;have e1:=uV a[j].2.L I;have d5:=uU a[j].2.L;rw[I]at d0;have d7:(0:Int)<=↑j:=by omega
    have d8:(↑j:Int) < ↑a.length:=by omega
    have G:U (aZ h (a.flatMap λb=>cI b.2.L) k=aZ h (cI a[j].2.L++(a.drop (j+1)).flatMap λb=>cI b.2.L) m):=by
     refine F.j.trans ?_;rw[Yk D,YD]
    have a0:=Z (xN K a[j].2.L (λn c2=>a1.j n (List.mem_flatMap.2 ⟨a[j],Yy D,c2⟩)) (K.dl A.j ((Below.refl _ _).alloc (Y4 _) (.cells #[.slice p r q,.string ⟨a[j].2.t.toArray⟩,.int .i64 a[j].2.w,.iface a4 d2] 363))))
    go_wp2_with fail;refine a0.j.mono ?_;rintro B P (⟨O,E,rfl,b9,c8⟩|⟨a8,E,c0,a5,b1,rfl,b2⟩);rotate_left
    .exact(show bodyPost prog Tryz.f347 (fv h c (aZ h (a.flatMap λb=>cI b.2.L) k)) (Exit.panic _) _ P from aq (Ya ⟨a8,G.j.trans (qt E),(l.G _).u c0,a5,by have:=l.a2;simp at b1;omega,rfl,b2⟩))
    have a3:=Z b9;have R:U (aZ h (a.flatMap λb=>cI b.2.L) k=aZ h ((a.drop (j+1)).flatMap λb=>cI b.2.L) O):=G.j.trans (qu E);have c9:ai h.M c P:=(l.G _).u c8;go_wp2;exact⟨⟨j+1,O,by go_num,by omega,a3,c9,R⟩,by simp[intOf];omega⟩
   .have c1:j=a.length:=by omega
    subst c1;have b6:aZ h (a.flatMap λb=>cI b.2.L) k=.ok m:=by
     refine F.j.trans ?_;rw[List.drop_length];rfl
    have S:=Z b6;go_wp2;go_end0;exact Y8 ⟨m,S.j,rfl,A.j,l⟩
end
def lz(a:eu):List (List UInt8×Nat):=cg a.dr++cg a.c4
def fc(v:eJ):List (List UInt8×Nat):=v.ak.flatMap lz
def MT{q:Type}{e:eV q}(r:hh e){b3:List (Nat×Obj)}{b2 d5:Nat}{n:List UInt8}{a:List eJ}{g3:Int}(f5:∀n∈a.flatMap fc,e.ok n)(e3:dx b3 b2 (.prog n d5 a g3))(K:∀{g:q} {h:World},e.J g h->∀c0∈b3,h.heap[c0.1]? = some c0.2){g:q}{m:World}(J:e.J g m) :
  Calls prog 352 #[.pointer (some ⟨b2,0,none⟩),e.v] m (fv e m (aZ e (a.flatMap fc) g)):=by
 have a9:=Z f5;obtain⟨j5,u,d9,e2,g0,e4⟩:=e3;obtain⟨_,_,i7,_⟩:=jT (K J _ d9);rcases g0 with⟨rfl,d7,_⟩|⟨A,g9,h0,rfl,⟨h2,i3⟩,e6,C⟩
 .have P:a=[]:=Yv.1 d7;subst P;have E:=Z J;go_in;go_wp2;go_loopw [13] (λf t=>f=.int .i64 0/\t=m) (λ_ _=>0)
  case atStart=>exact⟨rfl,rfl⟩
  case round=>
   obtain⟨rfl,rfl⟩:=hrel;go_wp2;go_end0;exact Y8 ⟨g,rfl,rfl,E.j,ah _ _⟩
 .have f7:∀(h:World) (i:q),e.J i h->∀f (e8:f<a.length) (e9:f<u.length),h.cell? ⟨A,f*4,none⟩=some (.string ⟨a[f].t.toArray⟩)/\h.cell? ⟨A,f*4+1,none⟩=some (.int .i64 a[f].w)/\h.cell? ⟨A,f*4+2,none⟩=some u[f]/\h.cell? ⟨A,f*4+3,none⟩=some (.int .i64 a[f].num):=by
   intro h i R f e8 e9;have k:=K R _ e6;have j:=lk (c:=mE) (n:=4) (λ_=>rfl) (a.zip u) f;have l:f<(a.zip u).length:=by simp;omega
   refine⟨cw k C ?_,cw k C ?_,cw k C ?_,cw k C ?_⟩
   .exact(j 0 l (by omega)).trans (by simp)
   .exact(j 1 l (by omega)).trans (by simp)
   .exact(j 2 l (by omega)).trans (by simp)
   .exact(j 3 l (by omega)).trans (by simp)
  have d2:=Z f7;have c8:=Z e4;have c7:=Z e2;have E:=Z J;go_in;go_wp2;go_loopw [13] (λf t=>∃(b:Nat) (i:q),f=.int .i64 b/\b<=a.length/\U (e.J i t)/\ai e.M m t/\U (aZ e (a.flatMap fc) g=aZ e ((a.drop b).flatMap fc) i)) (λf _=>a.length-(intOf f).toNat)
  case atStart=>exact⟨0,g,rfl,by omega,E,ah _ _,rfl⟩
  case round=>
   obtain⟨b,i,rfl,i2,y,l,a4⟩:=hrel;rcases Yj b a.length with w|h6
   .have b7:b<u.length:=by have:=c7.j;omega
    obtain⟨j1,j2,c1,j3⟩:=d2.j _ _ y.j b w b7;have h8:(0:Int)<=↑b:=by omega
    have h9:(↑b:Int) < ↑a.length:=by omega
    have a6:U (aZ e (a.flatMap fc) g=aZ e ((a[b].ak.drop 0).flatMap lz++(a.drop (b+1)).flatMap fc) i):=by
     refine a4.j.trans ?_;rw[Yk w,YD,List.drop_zero];rfl
    have f9:=c8.j b w b7;rcases f9 with⟨H,d8,_⟩|⟨o,b4,h1,H,⟨h3,i4⟩,e7,x⟩
    .rw[H]at c1;have P:a[b].ak=[]:=Yv.1 d8;have F:=Z (r.dl y.j ((Below.refl _ _).alloc (Y4 _) (.cells #[.string ⟨a[b].t.toArray⟩,.int .i64 a[b].w,.slice none 0 0,.int .i64 a[b].num] 367)));have a1:=l.G (.cells #[.string ⟨a[b].t.toArray⟩,.int .i64 a[b].w,.slice none 0 0,.int .i64 a[b].num] 367);have D:U (aZ e (a.flatMap fc) g=aZ e ((a.drop (b+1)).flatMap fc) i):=by
      refine a6.j.trans ?_;rw[P];rfl
     go_wp2;go_loopw [20] (λf t=>f=.int .i64 0/\t=wr.alloc (.cells #[.string ⟨a[b].t.toArray⟩,.int .i64 a[b].w,.slice none 0 0,.int .i64 a[b].num] 367)) (λ_ _=>0)
     case atStart=>exact⟨rfl,rfl⟩
     case round=>
      obtain⟨rfl,rfl⟩:=hrel;go_wp2;exact⟨⟨b+1,i,by go_num,by omega,F,a1,D⟩,by simp[intOf];omega⟩
    .rw[H]at c1;have f8:∀(h:World) (i:q),e.J i h->∀d (p:d<a[b].ak.length),h.cell? ⟨o,d*5,none⟩=some (.string ⟨a[b].ak[d].t.toArray⟩)/\h.cell? ⟨o,d*5+1,none⟩=some (.int .i64 a[b].ak[d].w)/\h.cell? ⟨o,d*5+2,none⟩=some (bX a[b].ak[d].dr)/\h.cell? ⟨o,d*5+3,none⟩=some (bX a[b].ak[d].c4)/\h.cell? ⟨o,d*5+4,none⟩=some (.int .i64 a[b].ak[d].num):=by
      intro h i R d p;have k:=K R _ e7;have j:=lk (c:=kN) (n:=5) (λ_=>rfl) a[b].ak d;exact⟨cw k x ((j 0 p (by omega)).trans (by simp)),cw k x ((j 1 p (by omega)).trans (by simp)),cw k x ((j 2 p (by omega)).trans (by simp)),cw k x ((j 3 p (by omega)).trans (by simp)),cw k x ((j 4 p (by omega)).trans (by simp))⟩
     have d3:=Z f8;have F:=Z (r.dl y.j ((Below.refl _ _).alloc (Y4 _) (.cells #[.string ⟨a[b].t.toArray⟩,.int .i64 a[b].w,.slice (some ⟨o,0,none⟩) a[b].ak.length b4,.int .i64 a[b].num] 367)));have a1:=l.G (.cells #[.string ⟨a[b].t.toArray⟩,.int .i64 a[b].w,.slice (some ⟨o,0,none⟩) a[b].ak.length b4,.int .i64 a[b].num] 367);go_wp2;go_loopw [20] (λf c3=>∃(d:Nat) (s:q),f=.int .i64 d/\d<=a[b].ak.length/\U (e.J s c3)/\ai e.M m c3/\U (aZ e (a.flatMap fc) g=aZ e ((a[b].ak.drop d).flatMap lz++(a.drop (b+1)).flatMap fc) s)) (λf _=>a[b].ak.length-(intOf f).toNat)
     case atStart=>exact⟨0,i,rfl,by omega,F,a1,a6⟩
     case round=>
      obtain⟨d,s,rfl,p,z,b9,a8⟩:=hrel;rcases Yj d a[b].ak.length with B|h7
      .obtain⟨i8,i9,g4,g5,j0⟩:=d3.j _ _ z.j d B;obtain⟨b0,c4,b5⟩:=fm a[b].ak[d].dr;obtain⟨b1,c5,b6⟩:=fm a[b].ak[d].c4;have i5:=qc a[b].ak[d].dr b5;have h4:=pY a[b].ak[d].dr;have i6:=qc a[b].ak[d].c4 b6;have h5:=pY a[b].ak[d].c4;rw[b5]at g4;rw[b6]at g5;have i0:(0:Int)<=↑d:=by omega
       have i1:(↑d:Int) < ↑a[b].ak.length:=by omega
       have a7:U (aZ e (a.flatMap fc) g=aZ e (cg a[b].ak[d].dr++(cg a[b].ak[d].c4++((a[b].ak.drop (d+1)).flatMap lz++(a.drop (b+1)).flatMap fc))) s):=by
        refine a8.j.trans ?_;rw[Yk B,YD];simp only[lz,YN]
       have d0:=Z (tA r a[b].ak[d].dr (λn O=>a9.j n (List.mem_flatMap.2 ⟨a[b],Yy w,List.mem_flatMap.2 ⟨a[b].ak[d],Yy B,Yf _ O⟩⟩)) (r.dl z.j ((Below.refl _ _).alloc (Y4 _) (.cells #[.string ⟨a[b].ak[d].t.toArray⟩,.int .i64 a[b].ak[d].w,.iface b0 c4,.iface b1 c5,.int .i64 a[b].ak[d].num] 446))))
       have f6:=r.bh z.j;have a3:=b9.G (.cells #[.string ⟨a[b].ak[d].t.toArray⟩,.int .i64 a[b].ak[d].w,.iface b0 c4,.iface b1 c5,.int .i64 a[b].ak[d].num] 446)
       go_wp2_with fail;refine d0.j.mono ?_;rintro d6 g7 (⟨g6,S,rfl,f0,b8⟩|⟨I,S,N,G,e1,rfl,L⟩);rotate_left
       .exact(show bodyPost prog Tryz.f352 (fv e m (aZ e (a.flatMap fc) g)) (Exit.panic _) _ g7 from aq (Ya ⟨I,a7.j.trans (qt S),a3.u N,G,by have:=a3.a2;omega,rfl,L⟩))
       have e0:=(b8.K _ (by simp) (λf4=>by have:=f6 _ f4;omega)).trans (aK rfl);obtain⟨_,_,_,j4,_,_⟩:=uC e0;have a5:U (aZ e (a.flatMap fc) g=aZ e (cg a[b].ak[d].c4++((a[b].ak.drop (d+1)).flatMap lz++(a.drop (b+1)).flatMap fc)) g6):=a7.j.trans (qu S);have d1:=Z (tA r a[b].ak[d].c4 (λn O=>a9.j n (List.mem_flatMap.2 ⟨a[b],Yy w,List.mem_flatMap.2 ⟨a[b].ak[d],Yy B,Ym _ O⟩⟩)) f0);have a2:=a3.u b8;go_wp2_with fail;refine d1.j.mono ?_;rintro d6 g8 (⟨c2,a0,rfl,f1,g1⟩|⟨I,a0,N,G,e1,rfl,L⟩);rotate_left
       .exact(show bodyPost prog Tryz.f352 (fv e m (aZ e (a.flatMap fc) g)) (Exit.panic _) _ g8 from aq (Ya ⟨I,a5.j.trans (qt a0),a2.u N,G,by have:=a2.a2;omega,rfl,L⟩))
       have d4:=Z f1;have c6:U (aZ e (a.flatMap fc) g=aZ e ((a[b].ak.drop (d+1)).flatMap lz++(a.drop (b+1)).flatMap fc) c2):=a5.j.trans (qu a0);have g2:=a2.u g1;go_wp2;exact⟨⟨d+1,c2,by go_num,by omega,d4,g2,c6⟩,by simp[intOf];omega⟩
      .have f2:d=a[b].ak.length:=by omega
       subst f2;have D:U (aZ e (a.flatMap fc) g=aZ e ((a.drop (b+1)).flatMap fc) s):=by
        refine a8.j.trans ?_;rw[List.drop_length];rfl
       go_wp2;exact⟨⟨b+1,s,by go_num,by omega,z,b9,D⟩,by simp[intOf];omega⟩
   .have f3:b=a.length:=by omega
    subst f3;have e5:aZ e (a.flatMap fc) g=.ok i:=by
     refine a4.j.trans ?_;rw[List.drop_length];rfl
    have c9:=Z e5;go_wp2;go_end0;exact Y8 ⟨i,c9.j,rfl,y.j,l⟩
section
variable {P:Program}{b idx o s st t:Nat}{d:List (Nat × Obj)}{g:Array Value}{a:ao}{c:World}{e:Type}
def Ac{e:Nat}{a:TypeId}{f:Nat×Nat}(i:c.heap[b]? = some (.cells g a f))(k:P.cellsOf a=s)(h:s≠0)(j:byteOfCell P P.depth a (o % s)=some e) :
  (byteOf ⟨b,o,none⟩).run P c=.ok (o / s*P.bytesOf a+e) c:=by
 have d:c.shape? b=some (a,g.size):=by simp[World.shape?,i]
 have l:(viewAt b).run P c=.ok none c:=by simp[viewAt,d]
 unfold byteOf;simp[noView,shape,Sem.run,l,d,k,h,j]
def va{w:Nat}{f h r:Nat}{name:String}{n1 n2:Nat}{d:TypeId}{u:Nat×Nat}(k:c.heap[b]? = some (.cells g d u)){m:TypeInfo}(C:P.info? t=some m){a:Method}(E:m.methods.find? (λa=>a.name==name)=some a)(G:a.path=#[⟨st,idx,true⟩])(A:a.func=some (h,false))
  {i:Array Field} (I:P.underlying st=some (.struct i)) {e:Field} (B:i[idx]? = some e) (H:e.type=f) (F:e.offset=o) (x:e.byteOffset=r) {v:Array Field} (J:P.underlying f=some (.struct v)) {n:TypeInfo} (D:P.info? f=some n) (K:n.size=0)
  (l:P.cellsOf d=s) (j:s≠0) (y:byteOfCell P P.depth d (0 % s)=some n1) (z:byteOfCell P P.depth d (o % s)=some n2) :
  (method (w+1) t (.pointer (some ⟨b,0,none⟩)) name).run P c=.ok (h,.agg #[]) c:=by
 have p:=Ac (P:=P) (o:=0) k l j y;have q:=Ac (P:=P) (o:=o) k l j z;unfold method;simp only[Sem.run_bind,run_typeInfo _ C,Result.andThen_ok,E,G,A,follow,run_underlying I,B,Place.get,asAddr,fieldPlace,partAt,sizeOf,H,run_typeInfo _ D,Sem.run_pure,if_true,K,F,x,p,q,Nat.zero_add,receiverAt,run_underlying J,loadVar,isAgg]
 rfl
def uN{y:Nat}(b:((P.underlying st).bind λa=>match a with|.struct c=>c[idx]?|_=>none).map (λe=>(e.type,e.offset,e.byteOffset))=some (t,o,y)) :
  ∃c d,P.underlying st=some (.struct c)/\c[idx]? = some d/\d.type=t/\d.offset=o/\d.byteOffset=y:=by
 cases g:P.underlying st with
 |none=>rw[g]at b;cases b
 |some a=>
  rw[g]at b;simp only[Option.bind_some]at b;cases a with
  |struct c=>
   simp only at b;cases f:c[idx]? with
   |none=>rw[f]at b;cases b
   |some d=>
    rw[f]at b;simp only[Option.map_some,Yu,Prod.mk.injEq]at b;exact⟨c,d,rfl,f,b.1,b.2.1,b.2.2⟩
  |_=>cases b
def uw:∃c,prog.underlying 250=some (.struct c):=by
 have b:(prog.underlying 250).map (λa=>match a with|.struct _=>true|_=>false)=some true:=by kernel_rfl
 cases d:prog.underlying 250 with
 |none=>rw[d]at b;cases b
 |some a=>
  rw[d]at b;cases a with
  |struct c=>exact⟨c,rfl⟩
  |_=>cases b
def gn:ao->List (List UInt8×Nat)
 |.const ..=>[]
 |.typedef a=>cg a.L
 |.enum ..=>[]
 |.struct _ _ c=>c.flatMap λa=>cg a.L
 |.union _ _ _ b=>b.flatMap λa=>cg a.2.L
 |.prog _ _ d _=>d.flatMap fc
def eK:ao->List (List UInt8×Nat)
 |.const ..=>[]
 |.typedef a=>cI a.L
 |.enum ..=>[]
 |.struct _ _ c=>c.flatMap λa=>cI a.L
 |.union _ _ _ b=>b.flatMap λa=>cI a.2.L
 |.prog ..=>[]
def uK:ao->Nat
 |.typedef ..=>337
 |.struct ..=>345
 |.union ..=>348
 |.prog ..=>352
 |_=>332
def Hc(a:ao)(args:Array Value)(c:World):(callFunc (uK a) args).run prog c=.ok (.enter (uK a) args) c:=by cases a<;>kernel_rfl
def uJ:ao->Nat
 |.typedef ..=>336
 |.struct ..=>344
 |.union ..=>347
 |.prog ..=>351
 |_=>331
def Av(a:ao)(args:Array Value)(c:World):(callFunc (uJ a) args).run prog c=.ok (.enter (uJ a) args) c:=by cases a<;>kernel_rfl
def uL(b:Nat):ao->Value
 |.const ..=>.agg #[]
 |.enum ..=>.agg #[]
 |_=>.pointer (some ⟨b,0,none⟩)
def He     (x : dx d b a) (z : ∀ p ∈ d, c.heap[p.1]? = some p.2) (H : Nat) : (method (H + 1) (cE a) (.pointer (some ⟨b, 0, none⟩)) "Names").run Tryz.prog c = .ok (uK a, uL b a) c := by
 cases a with
 |const t e v=>
  obtain ⟨F, I, j, k, l, m⟩ := rQ (P := Tryz.prog) (t := 223) (name := "Names") (p := #[⟨343, 1, true⟩]) (f := some (332, false)) (by kernel_rfl)
  obtain⟨C,B,n,q,r,u,w⟩:=uN (P:=prog) (st:=343) (idx:=1) (t:=250) (o:=2) (y:=24) (by kernel_rfl);obtain⟨D,g⟩:=uw;obtain⟨G,h,i⟩:=qq (P:=prog) (t:=250) (n:=0) (by kernel_rfl);exact va (s:=3) (n1:=0) (n2:=24) (z _ x) j k l m n q r u w g h i (by kernel_rfl) (by omega) (by kernel_rfl) (by kernel_rfl)
 |enum t e J=>
  obtain⟨M,L,E,_⟩:=x
  obtain ⟨F, I, j, k, l, m⟩ := rQ (P := Tryz.prog) (t := 227) (name := "Names") (p := #[⟨253, 1, true⟩]) (f := some (332, false)) (by kernel_rfl)
  obtain⟨C,B,n,q,r,u,w⟩:=uN (P:=prog) (st:=253) (idx:=1) (t:=250) (o:=2) (y:=24) (by kernel_rfl);obtain⟨D,g⟩:=uw;obtain⟨G,h,i⟩:=qq (P:=prog) (t:=250) (n:=0) (by kernel_rfl);exact va (s:=3) (n1:=0) (n2:=24) (z _ E) j k l m n q r u w g h i (by kernel_rfl) (by omega) (by kernel_rfl) (by kernel_rfl)
 |typedef a=>kernel_rfl
 |struct t e J=>kernel_rfl
 |union t e s K=>kernel_rfl
 |prog t e N A=>kernel_rfl
def Ax     (x : dx d b a) (z : ∀ p ∈ d, c.heap[p.1]? = some p.2) (H : Nat) : (method (H + 1) (cE a) (.pointer (some ⟨b, 0, none⟩)) "Leads").run Tryz.prog c = .ok (uJ a, uL b a) c := by
 cases a with
 |const t e v=>
  obtain ⟨F, I, j, k, l, m⟩ := rQ (P := Tryz.prog) (t := 223) (name := "Leads") (p := #[⟨343, 1, true⟩]) (f := some (331, false)) (by kernel_rfl)
  obtain⟨C,B,n,q,r,u,w⟩:=uN (P:=prog) (st:=343) (idx:=1) (t:=250) (o:=2) (y:=24) (by kernel_rfl);obtain⟨D,g⟩:=uw;obtain⟨G,h,i⟩:=qq (P:=prog) (t:=250) (n:=0) (by kernel_rfl);exact va (s:=3) (n1:=0) (n2:=24) (z _ x) j k l m n q r u w g h i (by kernel_rfl) (by omega) (by kernel_rfl) (by kernel_rfl)
 |enum t e J=>
  obtain⟨M,L,E,_⟩:=x
  obtain ⟨F, I, j, k, l, m⟩ := rQ (P := Tryz.prog) (t := 227) (name := "Leads") (p := #[⟨253, 1, true⟩]) (f := some (331, false)) (by kernel_rfl)
  obtain⟨C,B,n,q,r,u,w⟩:=uN (P:=prog) (st:=253) (idx:=1) (t:=250) (o:=2) (y:=24) (by kernel_rfl);obtain⟨D,g⟩:=uw;obtain⟨G,h,i⟩:=qq (P:=prog) (t:=250) (n:=0) (by kernel_rfl);exact va (s:=3) (n1:=0) (n2:=24) (z _ E) j k l m n q r u w g h i (by kernel_rfl) (by omega) (by kernel_rfl) (by kernel_rfl)
 |typedef a=>kernel_rfl
 |struct t e J=>kernel_rfl
 |union t e s K=>kernel_rfl
 |prog t e N A=>kernel_rfl
def MS{a:eV e}{t:e}(b:Nat)(d:a.J t c):Calls prog 351 #[.pointer (some ⟨b,0,none⟩),a.v] c (fv a c (.ok t)):=by
 go_in;go_wp2;go_end0;exact Y8 ⟨t,rfl,rfl,d,ah _ _⟩
def Hd{f:eV e}(h:hh f){d:List (Nat×Obj)}(l:∀m∈gn a,f.ok m)(k:dx d b a)(j:∀{t:e} {o:World},f.J t o->∀n∈d,o.heap[n.1]? = some n.2){t:e}(g:f.J t c) :
  Calls prog (uK a) #[uL b a,f.v] c (fv f c (aZ f (gn a) t)):=by
 cases a with
 |const t i v=>exact qZ h g
 |enum t i p=>exact qZ h g
 |typedef a=>exact RE h l k j g
 |struct t i p=>exact Qw h l k j g
 |union t i s q=>exact RL h l k j g
 |prog t i r m=>exact MT h l k j g
def Aw{f:eV e}(h:hh f){d:List (Nat×Obj)}(l:∀m∈eK a,f.ok m)(k:dx d b a)(j:∀{t:e} {o:World},f.J t o->∀n∈d,o.heap[n.1]? = some n.2){t:e}(g:f.J t c) :
  Calls prog (uJ a) #[uL b a,f.v] c (fv f c (aZ f (eK a) t)):=by
 cases a with
 |const t i v=>exact qY h g
 |enum t i p=>exact qY h g
 |typedef a=>exact RD h l k j g
 |struct t i p=>exact Qv h l k j g
 |union t i s q=>exact RK h l k j g
 |prog t i r m=>exact MS b g
end
def iX:ao->Bool
 |.typedef ..=>true
 |.enum ..=>true
 |.struct ..=>true
 |.union ..=>true
 |_=>false
def oA:Option ao->Bool
 |some a=>iX a
 |none=>false
def Jo{m:List (Nat×Obj)}{v:Value}{j:Option ao}(h:jk m v j)(l:World):Calls prog 126 #[v] l λn p=>n=.returned (.bool (oA j))/\p=l:=by
 cases j with
 |none=>
  have h:v=.nilIface:=h;subst h;have c:=wo 157 225 λa=>by kernel_rfl
  have d:=wo 157 227 λa=>by kernel_rfl
  have e:=wo 157 229 λa=>by kernel_rfl
  have f:=wo 157 231 λa=>by kernel_rfl
  go_in;go_wp2;go_ret;exact⟨rfl,rfl⟩
 |some k=>
  obtain⟨b,rfl,_⟩:=h;cases k with
  |const i g v=>
   dsimp only[cE];have c:=en 223 b 157 225 λa=>by kernel_rfl
   have d:=en 223 b 157 227 λa=>by kernel_rfl
   have e:=en 223 b 157 229 λa=>by kernel_rfl
   have f:=en 223 b 157 231 λa=>by kernel_rfl
   go_in;go_wp2;go_ret;exact⟨rfl,rfl⟩
  |typedef k=>
   dsimp only[cE];have c:=mC 225 b 157 225 λa=>by kernel_rfl
   have d:=en 225 b 157 227 λa=>by kernel_rfl
   have e:=en 225 b 157 229 λa=>by kernel_rfl
   have f:=en 225 b 157 231 λa=>by kernel_rfl
   go_in;go_wp2;go_ret;exact⟨rfl,rfl⟩
  |enum i g o=>
   dsimp only[cE];have c:=en 227 b 157 225 λa=>by kernel_rfl
   have d:=mC 227 b 157 227 λa=>by kernel_rfl
   have e:=en 227 b 157 229 λa=>by kernel_rfl
   have f:=en 227 b 157 231 λa=>by kernel_rfl
   go_in;go_wp2;go_ret;exact⟨rfl,rfl⟩
  |struct i g o=>
   dsimp only[cE];have c:=en 229 b 157 225 λa=>by kernel_rfl
   have d:=en 229 b 157 227 λa=>by kernel_rfl
   have e:=mC 229 b 157 229 λa=>by kernel_rfl
   have f:=en 229 b 157 231 λa=>by kernel_rfl
   go_in;go_wp2;go_ret;exact⟨rfl,rfl⟩
  |union i g s q=>
   dsimp only[cE];have c:=en 231 b 157 225 λa=>by kernel_rfl
   have d:=en 231 b 157 227 λa=>by kernel_rfl
   have e:=en 231 b 157 229 λa=>by kernel_rfl
   have f:=mC 231 b 157 231 λa=>by kernel_rfl
   go_in;go_wp2;go_ret;exact⟨rfl,rfl⟩
  |prog i g t r=>
   dsimp only[cE];have c:=en 233 b 157 225 λa=>by kernel_rfl
   have d:=en 233 b 157 227 λa=>by kernel_rfl
   have e:=en 233 b 157 229 λa=>by kernel_rfl
   have f:=en 233 b 157 231 λa=>by kernel_rfl
   go_in;go_wp2;go_ret;exact⟨rfl,rfl⟩
def jy(c:St)(a:List UInt8×Nat):Except Mar.a5 Unit:=match az c.F a.1 with
 |some b=>if oA b then .ok ()else .error ⟨7,a.2⟩
 |none=>.error ⟨7,a.2⟩
def fC(a:Ad)(h:ByteArray)(d:St)(e:List (Nat×Obj))(c:Nat):eV Unit where
 f:=125
 f2:=#[]
 f1:=#[.pointer (some ⟨c,0,none⟩)]
 ba:=λg _=>jy d g
 J:=λ_ b=>Rd a h d b/\b.heap[c]? = some (.cells #[.pointer (some ⟨a.R,0,none⟩)] 145)/\bn a.X e b
 M:=[]
 ok:=λ_=>True
def JT{c:Ad}{q:ByteArray}{h:St}{n:List (Nat×Obj)}{f:Nat}{b:World}(a:List UInt8×Nat)(B:(fC c q h n f).J () b) :
  Calls prog 125 #[fT a,.pointer (some ⟨f,0,none⟩)] b (fv (fC c q h n f) b (jy h a)):=by
 obtain⟨m,j,s⟩:=B;have k:=((Below.refl b.heap.size b).alloc (Y4 _) (.cells #[.string ⟨a.1.toArray⟩,.int .i64 a.2] 160)).drew;have p:=m.aA k;obtain⟨E,F,G,H,I,K⟩:=m.am;have L:=m.lt.1;have C:=aj j;have D:=bM j;have x:=aK (w:=b) (o:=.cells #[.string ⟨a.1.toArray⟩,.int .i64 a.2] 160) rfl;obtain⟨P,S,_⟩:=kD x;have key:∃v d i,(Instr.lookup 148 (.map (some c.N)) (.string ⟨a.1.toArray⟩) false).run prog ((b.alloc (.cells #[.string ⟨a.1.toArray⟩,.int .i64 a.2] 160)).drew)=.ok v ((b.alloc (.cells #[.string ⟨a.1.toArray⟩,.int .i64 a.2] 160)).drew)/\jk i v d/\jy h a=if oA d then .ok ()else .error ⟨7,a.2⟩:=by
  rcases vo p.nm a.1 false with⟨o,e⟩|⟨d,v,i,o,_,l,e⟩
  .simp only[Ye,if_false]at e
   exact⟨.nilIface,none,[],e,rfl,by simp only[jy,o,oA];rfl⟩
  .simp only[Ye,if_false]at e
   exact⟨v,d,i,e,l,by simp only[jy,o]⟩
 obtain⟨v,d,i,e,l,t⟩:=key;have y:=Z l;have r:=Z t;have z:U ((fC c q h n f).J () ((b.alloc (.cells #[.string ⟨a.1.toArray⟩,.int .i64 a.2] 160)).drew)):=⟨p,(k.block _ C).trans j,s.O (bt [] k) (by simp)⟩;have M:¬c.R=b.heap.size:=by omega
 have O:¬f=b.heap.size:=by omega
 clear m j s k p l t x;dsimp only[fT];go_in;go_wp2_with fail;go_region_held2 (λg=>g.cell? ⟨f,0,none⟩=some (.pointer (some ⟨c.R,0,none⟩))/\g.cell? ⟨c.R,1,none⟩=some (.map (some c.N))/\g.cell? ⟨b.heap.size,0,none⟩=some (.string ⟨a.1.toArray⟩)) (go_keep)
  (first|(go_at_call 126;refine(Jo y.j _).mono ?_;rintro A g ⟨rfl,rfl⟩))
 all_goals
  cases u:oA d with
  |true=>
   go_wp2;go_end0;exact Y8 ⟨(),by rw[r.j,u];rfl,rfl,z.j,((ah _ b).G _).a9⟩
  |false=>
   go_wp2_with (go_at_call 70;refine(gO _ _ _).mono ?_;rintro A g ⟨rfl,rfl⟩);exact aq (Ya ⟨⟨7,a.2⟩,by rw[r.j,u];rfl,(((ah _ b).G _).a9).G _,b.heap.size+1,by omega,rfl,aK (by simp)⟩)
end Go.Proofs.YtjdhaegijjednaaGreatDoor
