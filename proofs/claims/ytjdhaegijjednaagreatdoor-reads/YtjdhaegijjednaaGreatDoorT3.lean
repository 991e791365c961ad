import Derived.Test.YtjdhaegijjednaaGreatDoorT2
import Derived.Deep.CutBlock
import Derived.Deep.DeepCutAuto
import Derived.Laws.OwnMore
import Derived.Deep.OwnRows
set_option linter.all false
set_option maxRecDepth 100000
set_option maxHeartbeats 4000000
namespace Go.Proofs.YtjdhaegijjednaaGreatDoor
open Go.RowKit
open Go.Proofs.Tryz
variable {g j : Nat -> Prop} {f d : Nat} {b : List UInt8} {a : ac} {c : World} {h : PV}
def tT(m:bt g f b d a c)(i e:Int)(k:d<=1000000000):Calls prog 143 #[.pointer (some ⟨f,0,none⟩),.int .i64 i,.int .i64 e] c (GP g f b d (aV b i e a).2 (.tuple #[.int .i64 (aV b i e a).1.1,.int .i64 (aV b i e a).1.2]) c):=by
 obtain⟨h,l⟩:=m;exact(ze l i e k).mono λn o j=>⟨j.1,⟨h,j.2.1⟩,j.2.2⟩
def ta(c:World):dQ (.slice none 0 0) [] c:=⟨rfl,Y8 ⟨rfl,rfl⟩⟩
def DC(c:World):km (.slice none 0 0) [] c:=⟨rfl,Y8 ⟨rfl,rfl⟩⟩
def nt(m:bt g f b d a c)(e:bc)(k:e.a0=[])(l:e.bY=[])(i:d<=1000000000):Calls prog 46 #[.pointer (some ⟨f,0,none⟩),.agg #[.int .i64 e.f,.int .i64 e.n,.int .i64 e.of,.slice none 0 0,.slice none 0 0,.int .i64 e.eV,.string ⟨e.a8.toArray⟩,.int .i64 e.m]] c (GP g f b (d+1) (bJ e a) (.int .i64 a.e.length) c):=
 CJ m (λ_ h=>h) e (.slice none 0 0) (.slice none 0 0) (by rw[k];exact ta c) (by rw[l];exact ta c) (by intro o j;simp[Value.ownBlock]at j) i
def Bj(C:bt g f b d a c)(a4:d<=1000000000):Calls prog 218 #[.pointer (some ⟨f,0,none⟩)] c (GP g f b (d+1) (ch b a).2 (.tuple #[.int .i64 (ch b a).1.1,.string ⟨(ch b a).1.2.toArray⟩]) c):=by
 have z:=Z (iF C);obtain⟨h,A⟩:=C;obtain⟨a9,b1,b2,b3,b4,b5,a0,a1,a2,N,b0,O,P,R,S,b6,b7⟩:=A.r;clear A a0 a1 a2 N O P R S;by_cases l:a.s.e=0
 .have a5:(a.s.e != 0)=false:=by rw[l];rfl
  have m:=Z (z.b.d (oW a.s.x));by_cases n:a.s.x.f=1
  .have j:U (ch b a=((((aI b a).e.length:Int),a.s.x.text),bJ (nr a.s.x.text a.s.x.m) (aI b a))):=by show _=_;unfold ch;rw[Y2 (by simpa using l),Y9 n]
   have a6:((a.s.x.f:Int)==1)=true:=by rw[n];rfl
   clear n l;go_in;go_wp2_with fail;refine aA m (gG ·) λp k=>?_;obtain⟨F,G,H,I,J,K,L,M⟩:=k.b.r (i:=0) rfl;go_wp2_with fail;refine aA k (nt · (nr a.s.x.text a.s.x.m) rfl rfl a4) λE o=>?_;clear F G H I J K L M;obtain⟨F,G,H,I,J,K,L,M⟩:=o.b.r (i:=0) rfl;go_wp2;go_region;go_wp2;go_ret2;rw[j.b];exact⟨rfl,o.b.ae.fin⟩
  .have a6:((a.s.x.f:Int)==1)=false:=by rw[Yi];omega
   by_cases r:a.s.x.f=2
   .have a7:((a.s.x.f:Int)==2)=true:=by rw[r];rfl
    have q:U (ch b a=if a.s.x.text=[105,110,116]then ((0,[105,110,116]),aI b a)else if a.s.x.text=[104,121,112,101,114]then ((2,[104,121,112,101,114]),aI b a)else if a.s.x.text=[98,111,111,108]then ((4,[98,111,111,108]),aI b a)else if a.s.x.text=[117,110,115,105,103,110,101,100]then iD b (aI b a)else ((0,[]),da a)):=by show _=_;unfold ch;rw[Y2 (by simpa using l),Y2 n];simp only[r,true_and]
    clear n r l;cases t:(a.s.x.text==[105,110,116])with
    |true=>
     have j:U (ch b a=((0,[105,110,116]),aI b a)):=by show _=_;rw[q.b,Y9 (by simpa using t)]
     go_in;go_wp2_with fail;refine aA m (gG ·) λp k=>?_;go_wp2;go_ret2;rw[j.b];exact⟨rfl,(k.b.L (by omega)).fin⟩
    |false=>
     cases u:(a.s.x.text==[104,121,112,101,114])with
     |true=>
      have j:U (ch b a=((2,[104,121,112,101,114]),aI b a)):=by show _=_;rw[q.b,Y2 (by simpa using t),Y9 (by simpa using u)]
      go_in;go_wp2_with fail;refine aA m (gG ·) λp k=>?_;go_wp2;go_ret2;rw[j.b];exact⟨rfl,(k.b.L (by omega)).fin⟩
     |false=>
      cases y:(a.s.x.text==[98,111,111,108])with
      |true=>
       have j:U (ch b a=((4,[98,111,111,108]),aI b a)):=by show _=_;rw[q.b,Y2 (by simpa using t),Y2 (by simpa using u),Y9 (by simpa using y)]
       go_in;go_wp2_with fail;refine aA m (gG ·) λp k=>?_;go_wp2;go_ret2;rw[j.b];exact⟨rfl,(k.b.L (by omega)).fin⟩
      |false=>
       cases D:(a.s.x.text==[117,110,115,105,103,110,101,100])with
       |true=>
        have v:U (ch b a=iD b (aI b a)):=by show _=_;rw[q.b,Y2 (by simpa using t),Y2 (by simpa using u),Y2 (by simpa using y),Y9 (by simpa using D)]
        go_in;go_wp2_with fail;refine aA m (gG ·) λp k=>?_;go_wp2_with fail;refine(ga k.b.J 2 [104,121,112,101,114]).mono ?_;rintro a3 a8 ⟨rfl,rfl⟩;go_wp2_with fail;refine(ga k.b.J 2 [105,110,116]).mono ?_;rintro a3 a8 ⟨rfl,rfl⟩;cases w:ax (aI b a) 2 [104,121,112,101,114]with
        |true=>
         have j:U (ch b a=((3,[117,110,115,105,103,110,101,100,32,104,121,112,101,114]),aI b (aI b a))):=by show _=_;rw[v.b];unfold iD;rw[Y9 w]
         go_wp2_with fail;refine aA k (gG ·) λE o=>?_;go_wp2;go_ret2;rw[j.b];exact⟨rfl,(o.b.L (by omega)).fin⟩
        |false=>
         cases B:ax (aI b a) 2 [105,110,116]with
         |true=>
          have j:U (ch b a=((1,[117,110,115,105,103,110,101,100]),aI b (aI b a))):=by show _=_;rw[v.b];unfold iD;rw[Y2 (by simp[w]),Y9 B]
          go_wp2_with fail;refine aA k (gG ·) λE o=>?_;go_wp2;go_ret2;rw[j.b];exact⟨rfl,(o.b.L (by omega)).fin⟩
         |false=>
          have j:U (ch b a=((1,[117,110,115,105,103,110,101,100]),aI b a)):=by show _=_;rw[v.b];unfold iD;rw[Y2 (by simp[w]),Y2 (by simp[B])]
          go_wp2;go_ret2;rw[j.b];exact⟨rfl,(k.b.L (by omega)).fin⟩
       |false=>
        have j:U (ch b a=((0,[]),da a)):=by show _=_;rw[q.b,Y2 (by simpa using t),Y2 (by simpa using u),Y2 (by simpa using y),Y2 (by simpa using D)]
        go_in;go_wp2_with fail;refine aA m (nY ·) λp k=>?_;go_wp2;go_ret2;rw[j.b];exact⟨rfl,(k.b.L (by omega)).fin⟩
   .have a7:((a.s.x.f:Int)==2)=false:=by rw[Yi];omega
    have j:U (ch b a=((0,[]),da a)):=by show _=_;unfold ch;rw[Y2 (by simpa using l),Y2 n];simp only[r,false_and,if_false]
    clear n r l;go_in;go_wp2_with fail;refine aA m (nY ·) λp k=>?_;go_wp2;go_ret2;rw[j.b];exact⟨rfl,(k.b.L (by omega)).fin⟩
 .have a5:(a.s.e != 0)=true:=by simpa using l
  have j:U (ch b a=((0,[]),a)):=by show _=_;unfold ch;rw[Y9 l]
  clear l;go_in;go_wp2;go_ret2;rw[j.b];exact⟨rfl,(z.b.L (by omega)).fin⟩
def qX(r:bt g f b d a c)(j:Bool)(o:d<=1000000000):Calls prog 217 #[.pointer (some ⟨f,0,none⟩),.bool j] c (GP g f b d (bp b j a).2 (.int .i64 (bp b j a).1) c):=by
 have m:=Z (iF r);clear r;cases j with
 |true=>
  have i:U (bp b true a=((aV b 1 1000 (ab b 4 [91] a)).1.1,ab b 4 [93] (aV b 1 1000 (ab b 4 [91] a)).2)):=by show _=_;unfold bp;rw[Y9 rfl]
  go_in;go_wp2_with fail;refine aA m (cB · 4 [91]) λt e=>?_;go_wp2_with fail;refine aA e (tT · 1 1000 o) λs h=>?_;go_wp2_with fail;refine aA h (cB · 4 [93]) λu l=>?_;go_wp2;go_ret;rw[i.b];exact⟨rfl,l.b.fin⟩
 |false=>
  go_in;go_wp2_with fail;refine aA m (cB · 4 [60]) λt e=>?_;go_wp2_with fail;refine(ga e.b.J 4 [62]).mono ?_;rintro v w ⟨rfl,rfl⟩;generalize q:ab b 4 [60] a=k at *
  have n:=Z q;clear q;cases p:ax k 4 [62]with
  |true=>
   have i:U (bp b false a=(4294967295,ab b 4 [62] k)):=by show _=_;unfold bp;rw[Y2 (by simp),n.b];simp only[p,if_true]
   go_wp2_with fail;refine aA e (cB · 4 [62]) λs h=>?_;go_wp2;go_ret;rw[i.b];exact⟨rfl,h.b.fin⟩
  |false=>
   have i:U (bp b false a=((aV b 0 4294967295 k).1.1,ab b 4 [62] (aV b 0 4294967295 k).2)):=by show _=_;unfold bp;rw[Y2 (by simp),n.b];simp[p]
   go_wp2_with fail;refine aA e (tT · 0 4294967295 o) λs h=>?_;go_wp2_with fail;refine aA h (cB · 4 [62]) λu l=>?_;go_wp2;go_ret;rw[i.b];exact⟨rfl,l.b.fin⟩
variable {h j : Nat -> Prop} {f d : Nat} {c : List UInt8} {b : ac} {a : World} {g : PV}
def bt.b1(i:bt h f c d b a):b.s.x.text.length<=2000:=by obtain⟨g,e⟩:=i;exact e.b1
def bt.aP(i:bt h f c d b a):b.sz<=d:=by obtain⟨g,e⟩:=i;exact e.aP
def bt.sp(m:bt h f c d b a):∃(g:PV) (gQ:Option Addr) (k:Nat),bf h f c d b g a/\g.nv=.slice gQ b.g.length k:=by
 obtain⟨g,e⟩:=m;obtain⟨i,j,l⟩:=bX e.g;exact⟨g,i,j,e,l⟩
def Sk(i:bt h f c d b a):(cJ c b).1.text.length<=2000:=by obtain⟨g,e⟩:=i;exact(zk e.b5 e.b1).1
def aD.bn{j:List Th}{i R:Nat}{y:ee}{m:World}(l:aD h f c d b j m a)(k:j[i]? = some (.obj R (oW y)))(g:ee):(rP a R (.int .i64 g.f) (.string ⟨g.text.toArray⟩) (.int .i64 g.m) (.int .i64 g.fin) (.int .i64 g.n) (.int .i64 g.e)).heap[R]? = some (oW g):=tK (l.m _ (Yh k))
def tw(b7:bt h f c d b a){v:Value}{names:List (List UInt8)}(c9:km v names a)(d1:∀c2,v.ownBlock=some c2->h c2)(e3:names.length<=1000000)(all:Bool)(d8:d<=1000000000):Calls prog 216 #[.pointer (some ⟨f,0,none⟩),v,.bool all] a (GW h f c d (bV c names all b) a):=by
 have b9:=Z ((iF b7).d oZ);have t:=Z (Sk b7);clear b7;go_in;go_wp2_with fail;refine(zl b9.b.J).mono ?_;rintro c4 b8 ⟨⟨rfl,d2,b6⟩,-⟩;have e0:U (km v names b8):=Z (ox (c9.aC ((ah [] a).d oZ) (by simp)) b6 (λd7 d9=>Y8 (d1 d7 d9)));have c0:=Z (b9.b.call ⟨d2,b6⟩);clear d2 b6 c9 d1;generalize e1:cJ c b=e2 at *
 obtain⟨j,m⟩:=e2;simp only at c0 t;have k:=Z (c0.b.d (oW j));have r:U (bV c names all b=if m.s.e=0/\(if all=true then decide (0<=bz m j.text)else names.contains j.text)=true then (j,bo 6 j.m m)else (j,m)):=by show _=_;unfold bV;rw[e1]
 have c1:=Z (IC ((e0.b.aC ((ah [] b8).d (oW j)) (by simp)).bk) (by omega) j.text);go_wp2_with fail;refine c1.b.mono ?_;rintro c4 d4 ⟨rfl,d0⟩;rw[<-d0]at k;clear c1 d0;obtain⟨g,gQ,d6,w,c8⟩:=k.b.J.sp;have a0:=Z (ol (w.t (ah [] d4).ae) d8 j.text);rw[c8]at a0;obtain⟨a1,a7,a8,a9,b0,b1,b2,P,b3,a2,c3,a3,a4,a5,a6,c6,c7⟩:=w.r;rw[c8]at P;obtain⟨F,G,H,I,J,K,M,N⟩:=k.b.r (i:=0) rfl;obtain⟨x,y,z,A,B,C,D,E⟩:=k.b.r (i:=1) (R:=a.heap.size) (x:=bZ) rfl;clear w a1 a7 a8 a9 b0 b1 b2 b3 a2 a3 a4 a5 a6;cases all with
 |true=>
  simp only[if_true]at r
  go_wp2_with fail;refine cR (λd3=>d3.cell? ⟨f,8,none⟩=some (.slice gQ m.g.length d6)/\d3.cell? ⟨b8.heap.size,1,none⟩=some (.string ⟨j.text.toArray⟩)) (L:=9) (by kernel_rfl) rfl (by kernel_rfl) (by kernel_rfl) ?_ (λc5=>?_)
  .go_keep
  refine bH [0,1,2,3,4,5,6] ?_;iterate 7 (refine bO (v:=?_) rfl (by kernel_rfl) (λ_ _ _ u=>u) (by kernel_rfl) (by assumption) ?_ ?_;rotate_left;focus (intro a b4;(try dsimp only at b4);go_simp;(try with_reducible rfl));(try simp only[aK,aL,List.set]))
  refine bI ?_;refine cj 7 (by kernel_rfl) rfl λS O=>?_;(go_simp;refine a0.b.mono ?_;rintro c4 d5 ⟨rfl,rfl⟩);refine O.out _ _ ?_ (λc5=>?_)
  .go_keep
  clear O S;(try simp only[aK,aL,List.set]);refine tk (i:=8) (v:=?_) rfl (by kernel_rfl) (λ_ _ _ u=>u) (by kernel_rfl) (by assumption) ?_ ?_;rotate_left
  .intro a b4;(try dsimp only at b4);go_simp;(try with_reducible rfl)
  (try simp only[aK,aL,List.set]);refine cP (by kernel_rfl) rfl λS O=>?_;go_simp;refine O.out _ _ ?_;clear O S;(try simp only[aK,aL,List.set]);have n:=Z k.b.ae;clear k a0 c5 F G H I J K M N x y z A B C D E P c3 c6 c7;generalize d4.drew=e4 at n ⊢;have k:=n;clear n;obtain⟨g,w⟩:=k.b.J;obtain⟨a1,a7,a8,a9,b0,b1,b2,P,b3,a2,c3,a3,a4,a5,a6,c6,c7⟩:=w.r;obtain⟨F,G,H,I,J,K,M,N⟩:=k.b.r (i:=0) rfl;obtain⟨x,y,z,A,B,C,D,E⟩:=k.b.r (i:=1) (R:=a.heap.size) (x:=bZ) rfl;clear w a1 a7 a8 a9 b0 b1 b2 P b3 a2 a3 a4 a5 a6;generalize decide (0<=bz m j.text)=l at *
  by_cases o:m.s.e=0
  .have b5:(m.s.e==0)=true:=by rw[o];rfl
   cases q:l with
   |true=>
    have p:U (bV c names true b=(j,bo 6 j.m m)):=by show _=_;rw[r.b];rw[q,Y9 ⟨o,rfl⟩]
    clear o;subst q;go_wp2_with fail;refine aA k (iP · 6 j.m) λd5 n=>?_;clear F G H I J K M N x y z A B C D E;obtain⟨F,G,H,I,J,K,M,N⟩:=n.b.r (i:=0) rfl;obtain⟨x,y,z,A,B,C,D,E⟩:=n.b.r (i:=1) (R:=a.heap.size) (x:=bZ) rfl;go_wp2;refine ns (R:=a.heap.size) (x:=j) (by rfl) (by rfl) rfl (n.b.bn (i:=1) (R:=a.heap.size) (y:=bZ) rfl j) ?_;rw[p.b];exact⟨rfl,(n.b.co (i:=1) (R:=a.heap.size) (y:=bZ) rfl j).fin.1,(n.b.co (i:=1) (R:=a.heap.size) (y:=bZ) rfl j).fin.2,t.b⟩
   |false=>
    have p:U (bV c names true b=(j,m)):=by show _=_;rw[r.b];rw[q,Y2 (by simp)]
    clear o;subst q;go_wp2;refine ns (R:=a.heap.size) (x:=j) (by rfl) (by rfl) rfl (k.b.bn (i:=1) (R:=a.heap.size) (y:=bZ) rfl j) ?_;rw[p.b];exact⟨rfl,(k.b.co (i:=1) (R:=a.heap.size) (y:=bZ) rfl j).fin.1,(k.b.co (i:=1) (R:=a.heap.size) (y:=bZ) rfl j).fin.2,t.b⟩
  .have b5:(m.s.e==0)=false:=by rw[Yi];exact o
   have p:U (bV c names true b=(j,m)):=by show _=_;rw[r.b];rw[Y2 (λu=>o u.1)]
   clear o;go_wp2;refine ns (R:=a.heap.size) (x:=j) (by rfl) (by rfl) rfl (k.b.bn (i:=1) (R:=a.heap.size) (y:=bZ) rfl j) ?_;rw[p.b];exact⟨rfl,(k.b.co (i:=1) (R:=a.heap.size) (y:=bZ) rfl j).fin.1,(k.b.co (i:=1) (R:=a.heap.size) (y:=bZ) rfl j).fin.2,t.b⟩
 |false=>
  simp only[Ye,if_false]at r
  generalize names.contains j.text=l at *
  by_cases o:m.s.e=0
  .have b5:(m.s.e==0)=true:=by rw[o];rfl
   cases q:l with
   |true=>
    have p:U (bV c names false b=(j,bo 6 j.m m)):=by show _=_;rw[r.b];rw[q,Y9 ⟨o,rfl⟩]
    clear o;subst q;go_wp2_with fail;refine aA k (iP · 6 j.m) λd5 n=>?_;clear F G H I J K M N x y z A B C D E;obtain⟨F,G,H,I,J,K,M,N⟩:=n.b.r (i:=0) rfl;obtain⟨x,y,z,A,B,C,D,E⟩:=n.b.r (i:=1) (R:=a.heap.size) (x:=bZ) rfl;go_wp2;refine ns (R:=a.heap.size) (x:=j) (by rfl) (by rfl) rfl (n.b.bn (i:=1) (R:=a.heap.size) (y:=bZ) rfl j) ?_;rw[p.b];exact⟨rfl,(n.b.co (i:=1) (R:=a.heap.size) (y:=bZ) rfl j).fin.1,(n.b.co (i:=1) (R:=a.heap.size) (y:=bZ) rfl j).fin.2,t.b⟩
   |false=>
    have p:U (bV c names false b=(j,m)):=by show _=_;rw[r.b];rw[q,Y2 (by simp)]
    clear o;subst q;go_wp2;refine ns (R:=a.heap.size) (x:=j) (by rfl) (by rfl) rfl (k.b.bn (i:=1) (R:=a.heap.size) (y:=bZ) rfl j) ?_;rw[p.b];exact⟨rfl,(k.b.co (i:=1) (R:=a.heap.size) (y:=bZ) rfl j).fin.1,(k.b.co (i:=1) (R:=a.heap.size) (y:=bZ) rfl j).fin.2,t.b⟩
  .have b5:(m.s.e==0)=false:=by rw[Yi];exact o
   have p:U (bV c names false b=(j,m)):=by show _=_;rw[r.b];rw[Y2 (λu=>o u.1)]
   clear o;go_wp2;refine ns (R:=a.heap.size) (x:=j) (by rfl) (by rfl) rfl (k.b.bn (i:=1) (R:=a.heap.size) (y:=bZ) rfl j) ?_;rw[p.b];exact⟨rfl,(k.b.co (i:=1) (R:=a.heap.size) (y:=bZ) rfl j).fin.1,(k.b.co (i:=1) (R:=a.heap.size) (y:=bZ) rfl j).fin.2,t.b⟩
variable {d g : Nat -> Prop} {e c : Nat} {t : List UInt8} {a : ac} {b : World} {f : PV}
def vI(c b d:Int)(a:ac):(eh t c b d a).1.1=0\/(c<=(eh t c b d a).1.1/\(eh t c b d a).1.1<=b):=by
 unfold eh;split
 .exact Y8 rfl
 .right;simp only;omega
def sa(c b:Int)(a:ac):(aV t c b a).1.1=0\/(c<=(aV t c b a).1.1/\(aV t c b a).1.1<=b):=by
 unfold aV;split
 .exact Y8 rfl
 .split
  .exact vI _ _ _ _
  .split
   .exact vI _ _ _ _
   .split
    .exact vI _ _ _ _
    .split
     .split
      .exact Y8 rfl
      .exact vI _ _ _ _
     .exact Y8 rfl
def qW(b:Bool)(a:ac):0<=(bp t b a).1/\(bp t b a).1<=4294967295:=by
 unfold bp;split
 .have:=sa (t:=t) 1 1000 (ab t 4 [91] a);simp only;omega
 .simp only;split
  .simp
  .have:=sa (t:=t) 0 4294967295 (ab t 4 [60] a);simp only;omega
def ju(a:Int)(b:-10000000000<=a)(c:a<=10000000000):(bB a).length<=13:=by
 unfold bB Lib.itoa;split
 .have:=sM 10 a.natAbs (by omega);simp;omega
 .have:=sM 10 a.toNat (by omega);omega
def Jk(f:bt d e t c a b):(ch t a).1.2.length<=2000:=by
 have:=f.b1;unfold ch iD;repeat' split
 all_goals simp
 all_goals omega
abbrev GJ(a:jb):Value:=.tuple #[.int .i64 a.r,.string ⟨a.cW.toArray⟩,.string ⟨a.dR.toArray⟩,.agg (dt a.x)]
def GD(d:Nat->Prop)(e:Nat)(t:List UInt8)(c:Nat)(a:jb×ac)(b:World)(g:Ending)(f:World):Prop:=g=.returned (GJ a.1)/\bt d e t c a.2 f/\Fr d b f/\a.1.cW.length<=2002/\a.1.dR.length<=20/\a.1.x.text.length<=2000
def oA{c:Func}{Q:Ending->World->Prop}{a:Act}{R i0 i1 i2 i3:Nat}{v0 v1 v2:Value}{x:ee}(n:c.results=#[.tmp i0,.tmp i1,.tmp i2,.cell i3 112])(d:a.tmps.getD i0 undef=v0)(f:a.tmps.getD i1 undef=v1)(h:a.tmps.getD i2 undef=v2)(j:a.tmps.getD i3 undef=.pointer (some ⟨R,0,none⟩))(l:a.defers=[])(u:b.heap[R]? = some (oW x))(m:Q (.returned (.tuple #[v0,v1,v2,.agg (dt x)])) b):bodyPost prog c Q .ret a b:=by
 refine bodyPost_ret (v:=.tuple #[v0,v1,v2,.agg (dt x)]) ?_ l m;unfold results;rw[n];obtain⟨o,p,q,r,s,t,w,y⟩:=dX u;have e:a.tmps[i0]?.getD undef=v0:=by simpa using d
 have g:a.tmps[i1]?.getD undef=v1:=by simpa using f
 have i:a.tmps[i2]?.getD undef=v2:=by simpa using h
 have k:a.tmps[i3]?.getD undef=.pointer (some ⟨R,0,none⟩):=by simpa using j
 simp[e,g,i,k,go_sem,o,p,q,r,s,t]
def aD.a6{f:List Th}{i R:Nat}{g:Obj}{k:World}(j:aD d e t c a f k b)(h:f[i]? = some (.obj R g)):b.heap[R]? = some g:=j.m _ (Yh h)
def Je{f g:Nat}{c d:List UInt8}(b:ax a f c=true)(e:c≠d):ax a g d=false:=by
 unfold ax hx at *
 simp at b;simp[b,e]
def xi(d5:bt d e t c a b){v:Value}{names:List (List UInt8)}(e1:km v names b)(e2:∀L,v.ownBlock=some L->d L)(c8:names.length<=1000000)(all:Bool)(g5:c+10<=1000000000):Calls prog 148 #[.pointer (some ⟨e,0,none⟩),v,.bool all] b (GD d e t (c+2) (bQ t names all a) b):=by
 have d8:=Z ((iF d5).d (oW bZ));have x:=Z (Yp e1 e2);have g6:=d5.b1;clear d5 e1 e2;go_in;go_wp2_with fail;refine(ga d8.b.J 2 [111,112,97,113,117,101]).mono ?_;rintro p g7 ⟨rfl,I⟩;have a0:=d8;rw[<-I]at a0;clear I;go_wp2_with fail;refine(ga a0.b.J 2 [115,116,114,105,110,103]).mono ?_;rintro p e5 ⟨rfl,rfl⟩;have g3:¬(9223372036854775807<a.s.x.text.length+1):=by omega
 have g0:=hQ a.s.x.text [32];obtain⟨f,d9⟩:=a0.b.J;obtain⟨e6,d0,f3,f4,f5,f6,f7,f8,f9,e7,e8,e9,f0,f1,f2,d1,d3⟩:=d9.r;clear d9 e6 f3 f4 f5 f6 f7 f8 f9 e7 e8 e9 f0 f1 f2;cases M:ax a 2 [111,112,97,113,117,101]with
 |true=>
  have H:ax a 2 [115,116,114,105,110,103]=false:=Je M (by decide);rw[H];go_wp2_with fail;refine aA a0 (gG ·) λe3 u=>?_;clear d0 d1 d3;go_wp2_with fail;refine(tw u.b.J (ox x.b.1 u.b.fr x.b.2) (λL a1=>Y8 (x.b.2 L a1)) c8 all (by omega)).mono ?_;rintro p d6 ⟨rfl,J,m,r⟩;have w:=Z (u.b.call ⟨J,m⟩);clear J m;generalize G:bV t names all (aI t a)=a2 at *
  obtain⟨g,h⟩:=a2;have D:=Z G;simp only at w r;clear G;have A:=Z (w.b.d (oW g));go_wp2_with fail;refine(ga A.b.J 4 [91]).mono ?_;rintro p e4 ⟨rfl,I⟩;have q:=A;rw[<-I]at q;clear I;cases N:ax h 4 [91]with
  |true=>
   have o:U (bQ t names all a=(⟨(bp t true h).2.e.length,a.s.x.text++[32],[91]++bB (bp t true h).1++[93],g⟩,bJ (ej 6 (bp t true h).1) (bp t true h).2)):=by
    show _=_;unfold bQ;rw[Y9 (by simp[M,H])];unfold gq;simp only[D.b,M,H,N];simp
   go_wp2_with fail;refine aA q (qX · true (by omega)) λc4 B=>?_;have c0:=qW (t:=t) true h;generalize c1:bp t true h=E at *
   obtain⟨n,K⟩:=E;simp only at *
   go_wp2_with fail;refine(jo n (by omega) (by omega) _).mono ?_;rintro p c5 ⟨rfl,m⟩;have C:=Z (B.b.h m);clear m;go_wp2_with fail;refine aA C (nt · (ej 6 n) rfl rfl (by omega)) λb9 k=>?_;obtain⟨b1,b2,b3,b4,b5,b6,b7,b8⟩:=k.b.r (i:=0) rfl;obtain⟨a3,a4,a5,a6,a7,a8,a9,b0⟩:=k.b.r (i:=1) (R:=b.heap.size) (x:=bZ) rfl;have F:=ju n (by omega) (by omega);unfold bB at F o;generalize Lib.itoa n=j at *
   have O:=hQ [91] j;have P:=hQ ([91]++j) [93];have c2:¬(9223372036854775807<1+j.length):=by omega
   have c3:¬(9223372036854775807<1+j.length+1):=by omega
   go_wp2;go_region;go_wp2;have l:=Z ((k.b.co (i:=1) (R:=b.heap.size) (y:=bZ) rfl g).ae.L (N':=c+2) (by omega));refine oA (i0:=6) (i1:=7) (i2:=8) (i3:=9) (R:=b.heap.size) (x:=g) (v0:=.int .i64 K.e.length) (v1:=.string ⟨(a.s.x.text++[32]).toArray⟩) (v2:=.string ⟨([91]++j++[93]).toArray⟩) ?_ ?_ ?_ ?_ ?_ ?_ ?_ ?_
   .rfl
   .rfl
   .rfl
   .exact Yo Value.string P
   .rfl
   .rfl
   .exact l.b.a6 (i:=1) rfl
   .rw[o.b];exact⟨rfl,l.b.fin.1,l.b.fin.2,by simp;omega,by simp;omega,r⟩
  |false=>
   have o:U (bQ t names all a=(⟨(bp t false h).2.e.length,a.s.x.text++[32],[60]++bB (bp t false h).1++[62],g⟩,bJ (ej 7 (bp t false h).1) (bp t false h).2)):=by
    show _=_;unfold bQ;rw[Y9 (by simp[M,H])];unfold gq;simp only[D.b,M,H,N];simp
   go_wp2_with fail;refine aA q (qX · false (by omega)) λc4 B=>?_;have c0:=qW (t:=t) false h;generalize c1:bp t false h=E at *
   obtain⟨n,K⟩:=E;simp only at *
   go_wp2_with fail;refine(jo n (by omega) (by omega) _).mono ?_;rintro p c5 ⟨rfl,m⟩;have C:=Z (B.b.h m);clear m;go_wp2_with fail;refine aA C (nt · (ej 7 n) rfl rfl (by omega)) λb9 k=>?_;obtain⟨b1,b2,b3,b4,b5,b6,b7,b8⟩:=k.b.r (i:=0) rfl;obtain⟨a3,a4,a5,a6,a7,a8,a9,b0⟩:=k.b.r (i:=1) (R:=b.heap.size) (x:=bZ) rfl;have F:=ju n (by omega) (by omega);unfold bB at F o;generalize Lib.itoa n=j at *
   have O:=hQ [60] j;have P:=hQ ([60]++j) [62];have c2:¬(9223372036854775807<1+j.length):=by omega
   have c3:¬(9223372036854775807<1+j.length+1):=by omega
   go_wp2;go_region;go_wp2;have l:=Z ((k.b.co (i:=1) (R:=b.heap.size) (y:=bZ) rfl g).ae.L (N':=c+2) (by omega));refine oA (i0:=6) (i1:=7) (i2:=8) (i3:=9) (R:=b.heap.size) (x:=g) (v0:=.int .i64 K.e.length) (v1:=.string ⟨(a.s.x.text++[32]).toArray⟩) (v2:=.string ⟨([60]++j++[62]).toArray⟩) ?_ ?_ ?_ ?_ ?_ ?_ ?_ ?_
   .rfl
   .rfl
   .rfl
   .exact Yo Value.string P
   .rfl
   .rfl
   .exact l.b.a6 (i:=1) rfl
   .rw[o.b];exact⟨rfl,l.b.fin.1,l.b.fin.2,by simp;omega,by simp;omega,r⟩
 |false=>
  cases H:ax a 2 [115,116,114,105,110,103]with
  |true=>
   go_wp2_with fail;refine aA a0 (gG ·) λe3 u=>?_;clear d0 d1 d3;go_wp2_with fail;refine(tw u.b.J (ox x.b.1 u.b.fr x.b.2) (λL a1=>Y8 (x.b.2 L a1)) c8 all (by omega)).mono ?_;rintro p d6 ⟨rfl,J,m,r⟩;have w:=Z (u.b.call ⟨J,m⟩);clear J m;generalize G:bV t names all (aI t a)=a2 at *
   obtain⟨g,h⟩:=a2;have D:=Z G;simp only at w r;clear G;have A:=Z (w.b.d (oW g));go_wp2_with fail;refine(ga A.b.J 4 [91]).mono ?_;rintro p e4 ⟨rfl,I⟩;have q:=A;rw[<-I]at q;clear I;cases N:ax h 4 [91]with
   |true=>
    have o:U (bQ t names all a=(⟨(bp t false h).2.e.length,a.s.x.text++[32],[60]++bB (bp t false h).1++[62],g⟩,bJ (ej 8 (bp t false h).1) (bp t false h).2)):=by
     show _=_;unfold bQ;rw[Y9 (by simp[M,H])];unfold gq;simp only[D.b,M,H,N];simp
    go_wp2_with fail;refine aA q (qX · false (by omega)) λc4 B=>?_;have c0:=qW (t:=t) false h;generalize c1:bp t false h=E at *
    obtain⟨n,K⟩:=E;simp only at *
    go_wp2_with fail;refine(jo n (by omega) (by omega) _).mono ?_;rintro p c5 ⟨rfl,m⟩;have C:=Z (B.b.h m);clear m;go_wp2_with fail;refine aA C (nt · (ej 8 n) rfl rfl (by omega)) λb9 k=>?_;obtain⟨b1,b2,b3,b4,b5,b6,b7,b8⟩:=k.b.r (i:=0) rfl;obtain⟨a3,a4,a5,a6,a7,a8,a9,b0⟩:=k.b.r (i:=1) (R:=b.heap.size) (x:=bZ) rfl;have F:=ju n (by omega) (by omega);unfold bB at F o;generalize Lib.itoa n=j at *
    have O:=hQ [60] j;have P:=hQ ([60]++j) [62];have c2:¬(9223372036854775807<1+j.length):=by omega
    have c3:¬(9223372036854775807<1+j.length+1):=by omega
    go_wp2;go_region;go_wp2;have l:=Z ((k.b.co (i:=1) (R:=b.heap.size) (y:=bZ) rfl g).ae.L (N':=c+2) (by omega));refine oA (i0:=6) (i1:=7) (i2:=8) (i3:=9) (R:=b.heap.size) (x:=g) (v0:=.int .i64 K.e.length) (v1:=.string ⟨(a.s.x.text++[32]).toArray⟩) (v2:=.string ⟨([60]++j++[62]).toArray⟩) ?_ ?_ ?_ ?_ ?_ ?_ ?_ ?_
    .rfl
    .rfl
    .rfl
    .exact Yo Value.string P
    .rfl
    .rfl
    .exact l.b.a6 (i:=1) rfl
    .rw[o.b];exact⟨rfl,l.b.fin.1,l.b.fin.2,by simp;omega,by simp;omega,r⟩
   |false=>
    have o:U (bQ t names all a=(⟨(bp t false h).2.e.length,a.s.x.text++[32],[60]++bB (bp t false h).1++[62],g⟩,bJ (ej 8 (bp t false h).1) (bp t false h).2)):=by
     show _=_;unfold bQ;rw[Y9 (by simp[M,H])];unfold gq;simp only[D.b,M,H,N];simp
    go_wp2_with fail;refine aA q (qX · false (by omega)) λc4 B=>?_;have c0:=qW (t:=t) false h;generalize c1:bp t false h=E at *
    obtain⟨n,K⟩:=E;simp only at *
    go_wp2_with fail;refine(jo n (by omega) (by omega) _).mono ?_;rintro p c5 ⟨rfl,m⟩;have C:=Z (B.b.h m);clear m;go_wp2_with fail;refine aA C (nt · (ej 8 n) rfl rfl (by omega)) λb9 k=>?_;obtain⟨b1,b2,b3,b4,b5,b6,b7,b8⟩:=k.b.r (i:=0) rfl;obtain⟨a3,a4,a5,a6,a7,a8,a9,b0⟩:=k.b.r (i:=1) (R:=b.heap.size) (x:=bZ) rfl;have F:=ju n (by omega) (by omega);unfold bB at F o;generalize Lib.itoa n=j at *
    have O:=hQ [60] j;have P:=hQ ([60]++j) [62];have c2:¬(9223372036854775807<1+j.length):=by omega
    have c3:¬(9223372036854775807<1+j.length+1):=by omega
    go_wp2;go_region;go_wp2;have l:=Z ((k.b.co (i:=1) (R:=b.heap.size) (y:=bZ) rfl g).ae.L (N':=c+2) (by omega));refine oA (i0:=6) (i1:=7) (i2:=8) (i3:=9) (R:=b.heap.size) (x:=g) (v0:=.int .i64 K.e.length) (v1:=.string ⟨(a.s.x.text++[32]).toArray⟩) (v2:=.string ⟨([60]++j++[62]).toArray⟩) ?_ ?_ ?_ ?_ ?_ ?_ ?_ ?_
    .rfl
    .rfl
    .rfl
    .exact Yo Value.string P
    .rfl
    .rfl
    .exact l.b.a6 (i:=1) rfl
    .rw[o.b];exact⟨rfl,l.b.fin.1,l.b.fin.2,by simp;omega,by simp;omega,r⟩
  |false=>
   clear d0 d1 d3 g0 g3;have c6:U (bQ t names all a=gn t names all a):=by show _=_;unfold bQ;rw[Y2 (by simp[M,H])]
   have g1:=Jk a0.b.J;go_wp2_with fail;refine aA a0 (Bj · (by omega)) λe3 u=>?_;generalize e0:ch t a=g4 at *
   obtain⟨⟨S,z⟩,d7⟩:=g4;have c7:=Z e0;simp only at u g1;clear e0;go_wp2_with fail;refine(ga u.b.J 4 [42]).mono ?_;rintro p e5 ⟨rfl,rfl⟩;cases c9:ax d7 4 [42]with
   |true=>
    go_wp2_with fail;refine aA u (gG ·) λd6 w=>?_;go_wp2_with fail;refine(tw w.b.J (ox x.b.1 w.b.fr x.b.2) (λL a1=>Y8 (x.b.2 L a1)) c8 all (by omega)).mono ?_;rintro p g8 ⟨rfl,J,m,r⟩;have A:=Z (w.b.call ⟨J,m⟩);clear J m;generalize G:bV t names all (aI t d7)=a2 at *
    obtain⟨g,h⟩:=a2;have D:=Z G;simp only at A r;clear G;have q:=Z (A.b.d (oW g));go_wp2_with fail;refine aA q (nt · (dH 11 0 S) rfl rfl (by omega)) λb9 k=>?_;obtain⟨b1,b2,b3,b4,b5,b6,b7,b8⟩:=k.b.r (i:=0) rfl;obtain⟨a3,a4,a5,a6,a7,a8,a9,b0⟩:=k.b.r (i:=1) (R:=b.heap.size) (x:=bZ) rfl;have O:=hQ z [32,42];have c2:¬(9223372036854775807<z.length+2):=by omega
    have o:U (bQ t names all a=(⟨h.e.length,z++[32,42],[],g⟩,bJ (dH 11 0 S) h)):=by
     show _=_;rw[c6.b];unfold gn;simp only[c7.b,D.b,c9];simp
    go_wp2;go_region;go_wp2;have l:=Z ((k.b.co (i:=1) (R:=b.heap.size) (y:=bZ) rfl g).ae.L (N':=c+2) (by omega));refine oA (i0:=6) (i1:=7) (i2:=8) (i3:=9) (R:=b.heap.size) (x:=g) (v0:=.int .i64 h.e.length) (v1:=.string ⟨(z++[32,42]).toArray⟩) (v2:=.string ⟨([]:List UInt8).toArray⟩) ?_ ?_ ?_ ?_ ?_ ?_ ?_ ?_
    .rfl
    .rfl
    .exact Yo Value.string O
    .rfl
    .rfl
    .rfl
    .exact l.b.a6 (i:=1) rfl
    .rw[o.b];exact⟨rfl,l.b.fin.1,l.b.fin.2,by simp;omega,by simp;try omega,r⟩
   |false=>
    go_wp2_with fail;refine(tw u.b.J (ox x.b.1 u.b.fr x.b.2) (λL a1=>Y8 (x.b.2 L a1)) c8 all (by omega)).mono ?_;rintro p d6 ⟨rfl,J,m,r⟩;have w:=Z (u.b.call ⟨J,m⟩);clear J m;generalize G:bV t names all (d7)=a2 at *
    obtain⟨g,h⟩:=a2;have D:=Z G;simp only at w r;clear G;have A:=Z (w.b.d (oW g));go_wp2_with fail;refine(ga A.b.J 4 [91]).mono ?_;rintro p e4 ⟨rfl,I⟩;have q:=A;rw[<-I]at q;clear I;go_wp2_with fail;refine(ga q.b.J 4 [60]).mono ?_;rintro p e5 ⟨rfl,rfl⟩;have O:=hQ z [32];have c2:¬(9223372036854775807<z.length+1):=by omega
    cases N:ax h 4 [91]with
    |true=>
     have o:U (bQ t names all a=(⟨(bp t true h).2.e.length,z++[32],[91]++bB (bp t true h).1++[93],g⟩,bJ (dH 9 (bp t true h).1 S) (bp t true h).2)):=by
      show _=_;rw[c6.b];unfold gn;simp only[c7.b,D.b,c9,N];(try simp only[d4]);simp
     go_wp2_with fail;refine aA q (qX · true (by omega)) λc4 B=>?_;have c0:=qW (t:=t) true h;generalize c1:bp t true h=E at *
     obtain⟨n,K⟩:=E;simp only at *
     go_wp2_with fail;refine(jo n (by omega) (by omega) _).mono ?_;rintro p c5 ⟨rfl,m⟩;have C:=Z (B.b.h m);clear m;go_wp2_with fail;refine aA C (nt · (dH 9 n S) rfl rfl (by omega)) λb9 k=>?_;obtain⟨b1,b2,b3,b4,b5,b6,b7,b8⟩:=k.b.r (i:=0) rfl;obtain⟨a3,a4,a5,a6,a7,a8,a9,b0⟩:=k.b.r (i:=1) (R:=b.heap.size) (x:=bZ) rfl;have F:=ju n (by omega) (by omega);unfold bB at F o;generalize Lib.itoa n=j at *
     have P:=hQ [91] j;have d2:=hQ ([91]++j) [93];have c3:¬(9223372036854775807<1+j.length):=by omega
     have g2:¬(9223372036854775807<1+j.length+1):=by omega
     go_wp2;go_region;go_wp2;have l:=Z ((k.b.co (i:=1) (R:=b.heap.size) (y:=bZ) rfl g).ae.L (N':=c+2) (by omega));refine oA (i0:=6) (i1:=7) (i2:=8) (i3:=9) (R:=b.heap.size) (x:=g) (v0:=.int .i64 K.e.length) (v1:=.string ⟨(z++[32]).toArray⟩) (v2:=.string ⟨([91]++j++[93]:List UInt8).toArray⟩) ?_ ?_ ?_ ?_ ?_ ?_ ?_ ?_
     .rfl
     .rfl
     .exact Yo Value.string O
     .exact Yo Value.string d2
     .rfl
     .rfl
     .exact l.b.a6 (i:=1) rfl
     .rw[o.b];exact⟨rfl,l.b.fin.1,l.b.fin.2,by simp;omega,by simp;try omega,r⟩
    |false=>
     cases d4:ax h 4 [60]with
     |true=>
      have o:U (bQ t names all a=(⟨(bp t false h).2.e.length,z++[32],[60]++bB (bp t false h).1++[62],g⟩,bJ (dH 10 (bp t false h).1 S) (bp t false h).2)):=by
       show _=_;rw[c6.b];unfold gn;simp only[c7.b,D.b,c9,N];(try simp only[d4]);simp
      go_wp2_with fail;refine aA q (qX · false (by omega)) λc4 B=>?_;have c0:=qW (t:=t) false h;generalize c1:bp t false h=E at *
      obtain⟨n,K⟩:=E;simp only at *
      go_wp2_with fail;refine(jo n (by omega) (by omega) _).mono ?_;rintro p c5 ⟨rfl,m⟩;have C:=Z (B.b.h m);clear m;go_wp2_with fail;refine aA C (nt · (dH 10 n S) rfl rfl (by omega)) λb9 k=>?_;obtain⟨b1,b2,b3,b4,b5,b6,b7,b8⟩:=k.b.r (i:=0) rfl;obtain⟨a3,a4,a5,a6,a7,a8,a9,b0⟩:=k.b.r (i:=1) (R:=b.heap.size) (x:=bZ) rfl;have F:=ju n (by omega) (by omega);unfold bB at F o;generalize Lib.itoa n=j at *
      have P:=hQ [60] j;have d2:=hQ ([60]++j) [62];have c3:¬(9223372036854775807<1+j.length):=by omega
      have g2:¬(9223372036854775807<1+j.length+1):=by omega
      go_wp2;go_region;go_wp2;have l:=Z ((k.b.co (i:=1) (R:=b.heap.size) (y:=bZ) rfl g).ae.L (N':=c+2) (by omega));refine oA (i0:=6) (i1:=7) (i2:=8) (i3:=9) (R:=b.heap.size) (x:=g) (v0:=.int .i64 K.e.length) (v1:=.string ⟨(z++[32]).toArray⟩) (v2:=.string ⟨([60]++j++[62]:List UInt8).toArray⟩) ?_ ?_ ?_ ?_ ?_ ?_ ?_ ?_
      .rfl
      .rfl
      .exact Yo Value.string O
      .exact Yo Value.string d2
      .rfl
      .rfl
      .exact l.b.a6 (i:=1) rfl
      .rw[o.b];exact⟨rfl,l.b.fin.1,l.b.fin.2,by simp;omega,by simp;try omega,r⟩
     |false=>
      have k:=q;obtain⟨b1,b2,b3,b4,b5,b6,b7,b8⟩:=k.b.r (i:=0) rfl;obtain⟨a3,a4,a5,a6,a7,a8,a9,b0⟩:=k.b.r (i:=1) (R:=b.heap.size) (x:=bZ) rfl;have o:U (bQ t names all a=(⟨S,z++[32],[],g⟩,h)):=by
       show _=_;rw[c6.b];unfold gn;simp only[c7.b,D.b,c9,N,d4];simp
      go_wp2;go_region;go_wp2;have l:=Z ((k.b.co (i:=1) (R:=b.heap.size) (y:=bZ) rfl g).ae.L (N':=c+2) (by omega));refine oA (i0:=6) (i1:=7) (i2:=8) (i3:=9) (R:=b.heap.size) (x:=g) (v0:=.int .i64 S) (v1:=.string ⟨(z++[32]).toArray⟩) (v2:=.string ⟨([]:List UInt8).toArray⟩) ?_ ?_ ?_ ?_ ?_ ?_ ?_ ?_
      .rfl
      .rfl
      .exact Yo Value.string O
      .rfl
      .rfl
      .rfl
      .exact l.b.a6 (i:=1) rfl
      .rw[o.b];exact⟨rfl,l.b.fin.1,l.b.fin.2,by simp;omega,by simp;try omega,r⟩
variable {g j : Nat -> Prop} {a f : Nat} {t : List UInt8} {b : ac} {d h : World} {c : PV}
def bf.G{u:Nat}{σ':ac}{r:World}(e:bf g a t f b c d)(p:r.heap[a]? = some (lu t σ'.s (pu c σ')))(i:ai [a] d r)(o:σ'.e=b.e)(A:σ'.g=b.g)(B:σ'.u=b.u)(C:σ'.o=b.o)(E:σ'.s.x.fin<=t.length)(I:σ'.s.x.text.length<=2000)(G:σ'.sz<=u)(D:0<=σ'.D/\0<=σ'.j):bf g a t u σ' c r:=by
 have m:∀{v:Value},v.ownBlock≠some a->∀h,v.ownBlock=some h->h ∉ [a]:=λH h l k=>by
  simp only[Yc]at k;exact H (by rw[l,k])
 have w:∀j,j∈c.aC->j ∉ [a]:=λj p k=>by
  simp only[Yc]at k;exact e.bg j p (by rw[k];simp[PV.a5])
 refine⟨p,o▸aX e.e i (m e.H.r),A▸aX e.g i (m e.H.n),B▸aX e.u i (m e.H.p),C▸e.o.aC i (m e.H.g),o▸e.ak,?_,e.H,e.bg,e.aZ,λj J=>Yr (e.al j J) i.F,E,I,e.b5,G,D⟩;intro K M L F q;obtain⟨y,z⟩:=e.et K M L (o▸F) q;exact⟨y.aC i λh l=>w h (hr q (Y8 l)),z.aC i λh l=>w h (hr q (Ya l))⟩
def bf.e4{h:ByteArray}{s:List UInt8}{K:Nat}(e:bf g a t f b c d)(j:h=⟨(b.b++s).toArray⟩)(k:s.length<=K):bf g a t (f+K) (dV s b) c (d.setCell ⟨a,10,none⟩ (.string h)):=by
 subst j;refine e.G (σ':=dV s b) (bu (i:=10) e.I _) ((ah [a] d).O (p:=⟨a,10,none⟩) (by simp) _) rfl rfl rfl rfl e.fin e.b1 ?_ e.cn;have:=e.aP;unfold ac.sz dV at *
 simp only[Yq];omega
def aD.e4{i:List Th}{e:ByteArray}{s:List UInt8}{K:Nat}(k:aD g a t f b i h d)(l:e=⟨(b.b++s).toArray⟩)(m:s.length<=K):aD g a t (f+K) (dV s b) i h (d.setCell ⟨a,10,none⟩ (.string e)):=by
 obtain⟨c,j⟩:=k.J;exact k.call ⟨⟨c,j.e4 l m⟩,uH j _⟩
def fo{a b:ByteArray}(c:a.data.toList=b.data.toList):a=b:=by
 cases a
 cases b
 simp only[ByteArray.mk.injEq];exact Array.toList_inj.1 c
def GE(a4:bt g a t f b d)(d7:f+10000<=1000000000):Calls prog 82 #[.pointer (some ⟨a,0,none⟩)] d (GP g a t (f+10000) (fL t b) (.tuple #[]) d):=by
 have a7:=Z (iF a4);obtain⟨c,k⟩:=a4;obtain⟨E,M,N,O,P,R,S,a0,a1,F,G,H,I,J,K,a2,a3⟩:=k.r;go_in;go_wp2_with fail;refine aA a7 (kC · b.D 40) λe3 a8=>?_;go_wp2_with fail;refine aA a8 (cB · 2 [99,111,110,115,116]) λe4 x=>?_;go_wp2_with fail;refine(re x.b.J 2 (by omega)).mono ?_;rintro b2 c5 ⟨rfl,c4,u,c3⟩;have y:=Z (x.b.call ⟨c4,u⟩);generalize c0:aG t 2 _=w at *
 obtain⟨h,a6⟩:=w;have D:=Z c0;simp only at y c3;have a9:=Z (y.b.d (oW h));go_wp2_with fail;refine aA a9 (cB · 4 [61]) λe5 b0=>?_;go_wp2_with fail;refine aA b0 (tT · (-2147483648) 4294967295 (by omega)) λe6 z=>?_;have c2:=sa (t:=t) (-2147483648) 4294967295 (ab t 4 [61] a6);generalize c1:aV t (-2147483648) 4294967295 (ab t 4 [61] a6)=w at *
 obtain⟨⟨j,d5⟩,d4⟩:=w;have C:=Z c1;simp only at z c2;go_wp2_with fail;refine aA z (cB · 4 [59]) λe7 p=>?_;generalize b5:ab t 4 [59] d4=l at *
 have B:=Z b5;obtain⟨c,k⟩:=p.b.J;obtain⟨E,M,N,O,P,R,S,a0,a1,F,G,H,I,J,K,a2,a3⟩:=k.r;by_cases o:l.s.e=0
 .have b8:(l.s.e != 0)=false:=by rw[o];rfl
  have n:U (fL t b=dV ([99,111,110,115,116,32]++h.text++[32,61,32]++bB j++[59,10]) (dA h.text j l)):=by
   show _=_;unfold fL;simp only[D.b,C.b,B.b,o];simp
  go_wp2_with fail;refine(jo j (by omega) (by omega) _).mono ?_;rintro b2 e8 ⟨rfl,u⟩;have A:=Z (p.b.h u);obtain⟨c6,c7,c8,c9,d0,d1,d2,d3⟩:=A.b.r (i:=0) rfl;go_wp2_with fail;refine aA A (Bl · h.text j (by omega)) λe9 q=>?_;obtain⟨c6,c7,c8,c9,d0,d1,d2,d3⟩:=q.b.r (i:=0) rfl;obtain⟨c,k⟩:=q.b.J;obtain⟨E,M,N,O,P,R,S,a0,a1,F,G,H,I,J,K,a2,a3⟩:=k.r;have b3:=k.aP;unfold ac.sz at b3;have b9:=ju j (by omega) (by omega);unfold bB at b9 n;generalize Lib.itoa j=r at *
  generalize dA h.text j l=m at *
  have d8:¬(9223372036854775807<m.b.length+6):=by omega
  have d9:¬(9223372036854775807<m.b.length+6+h.text.length):=by omega
  have e0:¬(9223372036854775807<m.b.length+6+h.text.length+3):=by omega
  have e1:¬(9223372036854775807<m.b.length+6+h.text.length+3+r.length):=by omega
  have e2:¬(9223372036854775807<m.b.length+6+h.text.length+3+r.length+2):=by omega
  go_wp2;refine cR (λa5=>a5.cell? ⟨a,10,none⟩=some (.string ⟨m.b.toArray⟩)/\a5.cell? ⟨c5.heap.size,1,none⟩=some (.string ⟨h.text.toArray⟩)) (L:=17) (by kernel_rfl) rfl (by kernel_rfl) (by kernel_rfl) ?_ (λd6=>?_)
  .go_keep
  refine bH [0,1,2,3,4,5,6,7,8,9,10,11,12,13,14,15,16] ?_;iterate 17 (refine bO (v:=?_) rfl (by kernel_rfl) (λ_ _ _ b4=>b4) (by kernel_rfl) (by assumption) ?_ ?_;rotate_left;focus (intro d b7;(try dsimp only at b7);go_simp;(try with_reducible rfl));(try simp only[aK,aL,List.set]))
  refine bI ?_;refine cP (by kernel_rfl) rfl λb1 b6=>?_;go_simp;refine b6.out _ _ ?_;(try simp only[aK,aL,List.set]);go_end0;rw[n.b];exact⟨rfl,((q.b.e4 (K:=5000) (s:=[99,111,110,115,116,32]++h.text++[32,61,32]++r++[59,10]) (fo (by simp)) (by simp;omega)).ae.L (by omega)).fin⟩
 .have b8:(l.s.e != 0)=true:=by simpa using o
  have n:U (fL t b=l):=by
   show _=_;unfold fL;simp only[D.b,C.b,B.b];rw[Y9 o]
  go_wp2;go_end0;rw[n.b];exact⟨rfl,(p.b.L (by omega)).fin⟩
variable {c f : Nat -> Prop} {a d : Nat} {t : List UInt8} {b : ac} {w g : World} {e : PV}
def Rx(p:bt c a t d b w)(g8:d+10000<=1000000000):Calls prog 86 #[.pointer (some ⟨a,0,none⟩)] w (GP c a t (d+10000) (gf t b) (.tuple #[]) w):=by
 have d3:=Z (iF p);go_in;go_wp2_with fail;refine aA d3 (cB · 2 [116,121,112,101,100,101,102]) λh5 a7=>?_;go_wp2_with fail;refine(xi a7.b.J (names:=[]) (DC _) (by intro o r;simp[Value.ownBlock]at r) (by simp) true (by omega)).mono ?_;rintro g7 j ⟨rfl,f8,f3,f4,f5,f6⟩;have R:=Z (a7.b.call ⟨f8,f3⟩);generalize e6:bQ t [] true (ab t 2 [116,121,112,101,100,101,102] b)=f9 at *
 obtain⟨⟨y,q,K,f⟩,g⟩:=f9;have a9:=Z e6;simp only at R f4 f5 f6;have C:=Z (R.b.d (oW f));obtain⟨e,h⟩:=R.b.J;obtain⟨b0,b7,b8,b9,c0,c1,c2,a1,c3,b1,b2,b3,b4,b5,b6,c7,e1⟩:=h.r;by_cases u:g.s.e=0
 .have r:(g.s.e != 0)=false:=by rw[u];rfl
  have a0:U (gf t b=dV ([116,121,112,101,100,101,102,32]++q++f.text++K++[59,10]) (ab t 4 [59] { g with g:=g.g++[⟨f.text,1,y,f.m⟩] })):=by
   show _=_;unfold gf;simp only[a9.b,u];simp
  go_wp2;generalize d7:j.alloc (oW f)=k at *
  obtain⟨e,gQ,E,h,x⟩:=C.b.J.sp;obtain⟨b0,b7,b8,b9,c0,c1,c2,a1,c3,b1,b2,b3,b4,b5,b6,c7,g9⟩:=h.r;rw[x]at a1;obtain⟨g0,g1,g2,g3,g4,g5,g6,d2⟩:=C.b.r (i:=0) rfl;obtain⟨f2,d8,e8,e9,f0⟩:=info_parts AX;have a3:=h.aP;unfold ac.sz at a3;have d9:g.g.length+1<=maxLen:=by unfold maxLen;omega
  have e0:(g.g.length+1)*40<=140737488355328:=by omega
  have f1:(Value.agg #[.string ⟨#[]⟩,.int .i64 0,.int .i64 0,.int .i64 0]).cells.size=4:=by decide
  have e5:∀d1∈hz ⟨f.text,1,y,f.m⟩,d1.oneCell'=true:=by
   intro d1 d0;simp[hz]at d0;rcases d0 with rfl|rfl|rfl|rfl<;>rfl
  have e3:(Value.slice gQ g.g.length E).ownBlock≠some a:=by rw[<-x];exact h.H.n
  have e4:∀o,(Value.slice gQ g.g.length E).ownBlock=some o->o<k.heap.size/\o≠j.heap.size:=λo r=>⟨(gH h.g (by rw[x];exact r)).2,λu=>h.aZ o (Y8 (ha (by rw[x];exact r))) (by rw[u];exact Ya ⟨_,Yb,rfl⟩)⟩;have e7:=Z (x▸h.g);have m:=Z (Yp x (Yp e3 e4));have D:=Z (λf7=>(((ah [] k).d f7).ae));have I:=Z h;refine cR (λz=>z.cell? ⟨a,8,none⟩=some (.slice gQ g.g.length E)/\z.cell? ⟨j.heap.size,1,none⟩=some (.string ⟨f.text.toArray⟩)/\z.cell? ⟨j.heap.size,2,none⟩=some (.int .i64 f.m)) (L:=17) (by kernel_rfl) rfl (by kernel_rfl) (by kernel_rfl) ?_ (λa4=>?_)
  .go_keep
  refine bH [0,1,2,3,4,5,6,7,8,9,10,11] ?_;iterate 12 (refine bO (v:=?_) rfl (by kernel_rfl) (λ_ _ _ F=>F) (by kernel_rfl) (by assumption) ?_ ?_;rotate_left;focus (intro w G;(try dsimp only at G);go_simp;(try with_reducible rfl));(try simp only[aK,aL,List.set]))
  refine bI ?_;refine cj 12 (by kernel_rfl) rfl λJ l=>?_;go_simp;refine l.out _ _ ?_ (λa4=>?_)
  .go_keep
  (try simp only[aK,aL,List.set]);refine cj 13 (by kernel_rfl) rfl λJ l=>?_;(refine step_append_lies _ (by rfl) _ _ _ (by rfl) 0 119 f2 _ 4 40 underlying59 d8 e8 e9 f0 f1 (by omega) (.slice gQ g.g.length E) g.g.length (g.g.flatMap hz) (by rfl) (aX e7.b (D.b _) (by simp)) ⟨k.heap.size,0,none⟩ 1 1 (hz ⟨f.text,1,y,f.m⟩) (by rfl) (by rfl) (World.news_of_block (cs:=(hz ⟨f.text,1,y,f.m⟩).toArray) (t:=119) (fr:=(0,0)) (aJ (w:=k) (by simp))) e5 (by omega) d9 e0 (by omega) (k.heap.size+1) (by simp) ?_;intro c5 c4 A c9 M c6 e2;have O:=(I.b.t (D.b _)).h0 M m.b.2.1;have i6:A.cell? ⟨a,8,none⟩=some (.slice gQ g.g.length E):=(by rw[<-m.b.1];exact aR O rfl);have i7:=cF O;have i8:=aj O;have a6:A.heap[j.heap.size]? = some (oW f):=((M.block _ (by simp;omega) (λa2=>(m.b.2.2 _ a2.symm).2 rfl)).trans (((D.b _).i _ d2 (by simp)).trans (C.b.a6 (i:=0) rfl)));obtain⟨h8,h9,i0,i1,i2,i3,i4,i5⟩:=dX a6;have H:=Z (Yp M (Yp c6 (Yp c9 a6)));clear M c6 c9 O a6);refine l.out _ _ ?_ (λa4=>?_)
  .go_keep
  (try simp only[aK,aL,List.set]);refine bH [14,15,16] ?_;iterate 3 (refine bO (v:=?_) rfl (by kernel_rfl) (λ_ _ _ F=>F) (by kernel_rfl) (by assumption) ?_ ?_;rotate_left;focus (intro w G;(try dsimp only at G);go_simp;(try with_reducible rfl));(try simp only[aK,aL,List.set]))
  refine bI ?_;refine cP (by kernel_rfl) rfl λJ l=>?_;go_simp;refine l.out _ _ ?_;(try simp only[aK,aL,List.set]);have c8:=H.b.1;rw[<-m.b.1]at c8;have d5:=Z ((I.b.t (D.b _)).kw (m:=⟨f.text,1,y,f.m⟩) c8 H.b.2.2.1 (by rw[m.b.1];exact H.b.2.1.imp id (λa2=>by rw[a2];simp)) e2);have d4:U (Fr (gR c [.obj j.heap.size (oW f)]) k (A.setCell ⟨a,8,none⟩ (.slice (some ⟨c5,0,none⟩) (g.g.length+1) c4))):=by
   have d6:Fr (gR c [.obj j.heap.size (oW f)]) k A:=((iH _ k).b6 (D.b _) (by simp)).b6 (eJ H.b.1) (λP N a5=>absurd a5 (I.b.aZ P (Y8 (ha (by rw[m.b.1];simpa using N)))));exact d6.b6 ((ah [a] A).O (p:=⟨a,8,none⟩) (by simp) _) (λP N a5=>absurd a5 (I.b.aZ P (Y8 (by simp only[Yc]at N;rw[N];simp[PV.a5]))))
  have a8:=Z (C.b.call ⟨⟨_,d5.b⟩,d4.b⟩);generalize d7:A.setCell ⟨a,8,none⟩ (.slice (some ⟨c5,0,none⟩) (g.g.length+1) c4)=h6 at a8 ⊢;go_wp2_with fail;refine aA a8 (cB · 4 [59]) λh7 S=>?_;generalize ab t 4 [59] { g with g:=g.g++[⟨f.text,1,y,f.m⟩] } = B at *
  obtain⟨g0,g1,g2,g3,g4,g5,g6,d2⟩:=S.b.r (i:=0) rfl;obtain⟨e,h⟩:=S.b.J;obtain⟨b0,b7,b8,b9,c0,c1,c2,a1,c3,b1,b2,b3,b4,b5,b6,c7,e1⟩:=h.r;have a3:=h.aP;unfold ac.sz at a3;have h0:¬(9223372036854775807<B.b.length+8):=by omega
  have h1:¬(9223372036854775807<B.b.length+8+q.length):=by omega
  have h2:¬(9223372036854775807<B.b.length+8+q.length+f.text.length):=by omega
  have h3:¬(9223372036854775807<B.b.length+8+q.length+f.text.length+K.length):=by omega
  have h4:¬(9223372036854775807<B.b.length+8+q.length+f.text.length+K.length+2):=by omega
  go_wp2;refine cR (λz=>z.cell? ⟨a,10,none⟩=some (.string ⟨B.b.toArray⟩)/\z.cell? ⟨j.heap.size,1,none⟩=some (.string ⟨f.text.toArray⟩)) (L:=18) (by kernel_rfl) rfl (by kernel_rfl) (by kernel_rfl) ?_ (λa4=>?_)
  .go_keep
  refine bH [0,1,2,3,4,5,6,7,8,9,10,11,12,13,14,15,16,17] ?_;iterate 18 (refine bO (v:=?_) rfl (by kernel_rfl) (λ_ _ _ F=>F) (by kernel_rfl) (by assumption) ?_ ?_;rotate_left;focus (intro w G;(try dsimp only at G);go_simp;(try with_reducible rfl));(try simp only[aK,aL,List.set]))
  refine bI ?_;refine cP (by kernel_rfl) rfl λJ l=>?_;go_simp;refine l.out _ _ ?_;(try simp only[aK,aL,List.set]);go_end0;rw[a0.b];exact⟨rfl,((S.b.e4 (K:=5000) (s:=[116,121,112,101,100,101,102,32]++q++f.text++K++[59,10]) (fo (by simp)) (by simp;omega)).ae.L (by omega)).fin⟩
 .have r:(g.s.e != 0)=true:=by simpa using u
  have a0:U (gf t b=g):=by
   show _=_;unfold gf;simp only[a9.b];rw[Y9 u]
  go_wp2;go_end0;rw[a0.b];exact⟨rfl,(C.b.L (by omega)).fin⟩
variable {g r : Nat -> Prop} {e h n : Nat} {c : List UInt8} {d p : ac} {f j o i k : World} {q : PV} {b : List Th} {a : Nat} {m l : Th}
def uS{b:List Th}{a c:Nat}{d:Th}(f:c≠a)(e:b[c]? = some d):d∈b.eraseIdx a:=List.mem_eraseIdx_iff_getElem?.2 ⟨c,f,e⟩
def aD.gk(q:aD g e c h d b j f)(p:b[a]? = some m):aD (gR g (b.eraseIdx a)) e c h d [m] f f:=by
 refine⟨q.J.a9 ?_,iH _ _,?_,?_,?_⟩
 .rintro r (k|⟨l,i,k⟩)
  .rcases k with k|⟨l,i,k⟩
   .exact Y8 k
   .exact Ya ⟨l,List.mem_of_mem_eraseIdx i,k⟩
  .simp at i;subst i;exact Ya ⟨l,Yh p,k⟩
 .intro l i;simp at i;subst i;exact q.m l (Yh p)
 .intro l i r k o;simp at i;subst i;rcases o with o|⟨s,n,o⟩
  .exact q.E l (Yh p) r k o
  .obtain⟨t,x,n⟩:=List.mem_eraseIdx_iff_getElem?.1 n;exact q.b7 a t l s (λu=>x u.symm) p n r k o
 .intro t z l s y i n;have v:=(YB.1 i).1;have w:=(YB.1 n).1;simp at v w;omega
def aD.b6(C:aD g e c h d b j f)(M:b[a]? = some m)(r:aD (gR g (b.eraseIdx a)) e c n p [l] f o):aD g e c n p (b.set a l) j o:=by
 have N:=(YB.1 M).1;have w:l∈[l]:=by simp
 have A:∀(k:Nat) (i:Th),(b.set a l)[k]? = some i->(k=a/\i=l)\/(k≠a/\b[k]? = some i):=by
  intro k i s;rw[YP]at s;split at s
  .rename_i r;simp[N]at s;exact Y8 ⟨r.symm,s.symm⟩
  .rename_i r;exact Ya ⟨λL=>r L.symm,s⟩
 have H:∀i∈b.set a l,i=l\/∃k,k≠a/\b[k]? = some i:=by
  intro i q;obtain⟨k,s⟩:=List.getElem?_of_mem q;rcases A k i s with⟨_,r⟩|⟨E,z⟩
  .exact Y8 r
  .exact Ya ⟨k,E,z⟩
 refine⟨r.J.a9 ?_,C.fr.a (r.fr.a9 λ_ _ B=>Y8 B),?_,?_,?_⟩
 .rintro D (t|⟨i,q,t⟩)
  .exact Y8 (Y8 t)
  .rcases H i q with rfl|⟨k,s,q⟩
   .exact Ya ⟨i,w,t⟩
   .exact Y8 (Ya ⟨i,uS s q,t⟩)
 .intro i q;rcases H i q with rfl|⟨k,s,q⟩
  .exact r.m i w
  .exact(C.m i (Yh q)).fr r.fr λy x=>Ya ⟨i,uS s q,x⟩
 .intro i q D t B;rcases H i q with rfl|⟨k,s,q⟩
  .exact r.E i w D t (Y8 B)
  .exact C.E i (Yh q) D t B
 .intro k I i u K q J y x G;rcases A k i q with⟨rfl,rfl⟩|⟨E,z⟩
  .rcases A I u J with⟨v,_⟩|⟨v,F⟩
   .exact K v.symm
   .exact r.E i w y x (Ya ⟨u,uS v F,G⟩)
  .rcases A I u J with⟨v,rfl⟩|⟨v,F⟩
   .exact r.E u w y G (Ya ⟨i,uS E z,x⟩)
   .exact C.b7 k I i u K z F y x G
def aD.aN{m:TypeId}{p C n l r q:Nat}{v:Value}{D u:List Value}(B:aD g e c h d b j f)(z:b[a]? = some (.row m p v C D))(t:ai [] f i)(A:k.ownsRow 0 m p (.slice (some ⟨l,0,none⟩) n r) n u)(o:i.grownBy k v.ownBlock)(x:v.ownBlock=some l\/l=q)(E:i.heap.size=q):aD g e c h d (b.set a (.row m p (.slice (some ⟨l,0,none⟩) n r) n u)) j k:=by
 have F:=t.F;refine(B.h t).a4 z (eJ o) (λl o=>by simpa[Th.bb]using o) A ?_;intro w y;have m:w=l:=by simpa[Th.bb,dZ]using y.symm
 subst m;rcases x with s|s
 .exact Y8 s
 .right;omega
def aD.h8{m o n:Nat}{v:Value}{l:List Int}{p:Int}(x:aD g e c h d b j f)(t:b[a]? = some (cV v l))(u:ai [] f i)(w:k.ownsRow 0 3 1 (.slice (some ⟨m,0,none⟩) (l.length+1) o) (l.length+1) (l.map (Value.int .i64)++[.int .i64 p]))(s:i.grownBy k v.ownBlock)(r:v.ownBlock=some m\/m=n)(q:i.heap.size=n):aD g e c h d (b.set a (cV (.slice (some ⟨m,0,none⟩) (l.length+1) o) (l++[p]))) j k:=by
 have:=x.aN t u w s r q;simpa[cV]using this
def aD.g0{m o n:Nat}{v:Value}{l:List (List UInt8)}{p:List UInt8}(x:aD g e c h d b j f)(t:b[a]? = some (bD v l))(u:ai [] f i)(w:k.ownsRow 0 9 1 (.slice (some ⟨m,0,none⟩) (l.length+1) o) (l.length+1) ((l.map λy=>Value.string ⟨y.toArray⟩)++[.string ⟨p.toArray⟩]))(s:i.grownBy k v.ownBlock)(r:v.ownBlock=some m\/m=n)(q:i.heap.size=n):aD g e c h d (b.set a (bD (.slice (some ⟨m,0,none⟩) (l.length+1) o) (l++[p]))) j k:=by
 have:=x.aN t u w s r q;simpa[bD]using this
def om:(prog.info? 3).map (λa=>(a.zero,a.size,a.bytes))=some (some (.int .i64 0),1,8):=by kernel_rfl
def pI:(prog.info? 9).map (λa=>(a.zero,a.size,a.bytes))=some (some (.string ⟨#[]⟩),1,16):=by kernel_rfl
def CU(n:bt g e c h d f)(l:h<=1000000000):Calls prog 215 #[.pointer (some ⟨e,0,none⟩)] f (GP g e c (h+1) (eA c d).2 (.tuple #[.int .i64 (eA c d).1.1,.string ⟨(eA c d).1.2.toArray⟩]) f):=by
 have a:=Z (iF n);go_in;go_wp2_with fail;refine(ga a.b.J 2 [118,111,105,100]).mono ?_;rintro o r ⟨rfl,rfl⟩;cases k:ax d 2 [118,111,105,100]with
 |true=>
  have j:U (eA c d=((-1,[118,111,105,100]),aI c d)):=by show _=_;unfold eA;rw[Y9 k]
  go_wp2_with fail;refine aA a (gG ·) λi b=>?_;go_wp2;go_ret2;rw[j.b];exact⟨rfl,(b.b.L (by omega)).fin⟩
 |false=>
  have j:U (eA c d=ch c d):=by show _=_;unfold eA;rw[Y2 (by simp[k])]
  go_wp2_with fail;refine aA a (Bj · l) λi b=>?_;generalize ch c d=m at *
  obtain⟨⟨q,p⟩,s⟩:=m;go_wp2;go_ret2;rw[j.b];exact⟨rfl,b.b.fin⟩
variable {g m : Nat -> Prop} {f d k : Nat} {t : List UInt8} {h q : ac} {w j b p c : World} {l : PV} {L : List Th} {i : Nat} {a o : Th}
def aD.a7(c:aD g f t d h L j w)(b:L[i]? = some a):a.At w:=c.m _ (Yh b)
def qR{b:Nat}(d:L[i]? = some a)(c:a.bb=some b):gR g L b:=Ya ⟨a,Yh d,c⟩
def NA{b:Func}{Q:Ending->World->Prop}{a:Act}{R i0 i1:Nat}{v0:Value}{x:ee}(i:b.results=#[.tmp i0,.cell i1 112])(c:a.tmps.getD i0 undef=v0)(e:a.tmps.getD i1 undef=.pointer (some ⟨R,0,none⟩))(g:a.defers=[])(p:w.heap[R]? = some (oW x))(h:Q (.returned (.tuple #[v0,.agg (dt x)])) w):bodyPost prog b Q .ret a w:=by
 refine bodyPost_ret (v:=.tuple #[v0,.agg (dt x)]) ?_ g h;unfold results;rw[i];obtain⟨j,k,l,m,n,o,q,r⟩:=dX p;have d:a.tmps[i0]?.getD undef=v0:=by simpa using c
 have f:a.tmps[i1]?.getD undef=.pointer (some ⟨R,0,none⟩):=by simpa using e
 simp[d,f,go_sem,j,k,l,m,n,o]
def Ey(g:Nat->Prop)(f:Nat)(t:List UInt8)(d:Nat)(h:List (List UInt8))(a:ee×ac)(w:World)(e:Ending)(b:World):Prop:=∃c,e=.returned (.tuple #[c,.agg (dt a.1)])/\aD g f t d a.2 [bD c (h++[a.1.text])] w b/\a.1.text.length<=2000
def zO{v:Value}{names:List (List UInt8)}(H:aD g f t d h [bD v names] w w)(N:names.length<=1000000)(K:d<=1000000000):Calls prog 214 #[.pointer (some ⟨f,0,none⟩),v] w (Ey g f t d names (bV t names false h) w):=by
 obtain⟨gQ,A,rfl⟩:=bX (H.m _ Yb);have o:=Z (H.d (oW bZ));go_in;go_wp2_with fail;refine(tw o.b.J (names:=names) (o.b.a7 (i:=1) rfl) (λa9 j=>qR (i:=1) rfl j) N false K).mono ?_;rintro b0 c ⟨rfl,a7,a5,G⟩;have s:=Z (o.b.call ⟨a7,a5⟩);generalize b2:bV t names false h=a8 at *
 obtain⟨a,e6⟩:=a8;simp only at s G;have m:=Z (s.b.d (oW a));go_wp2;generalize b1:c.alloc (oW a)=l at *
 obtain⟨d8,d9,e0,e1,e2,e3,e4,e5⟩:=m.b.r (i:=0) rfl;obtain⟨b3,b4,b5,b6,b7,b8,b9,c0⟩:=m.b.r (i:=1) (R:=w.heap.size) (x:=bZ) rfl;obtain⟨F,M,a1,a2,a3⟩:=info_parts pI;have a4:(Value.string ⟨#[]⟩).cells.size=1:=rfl;have a0:U (l.ownsRow 0 9 1 (.slice gQ names.length A) names.length (names.map λr=>Value.string ⟨r.toArray⟩)):=Z (m.b.a7 (i:=2) rfl);have x:=Z (λa6=>(((ah [] l).d a6).ae));have O:names.length+1<=maxLen:=by unfold maxLen;omega
 have P:(names.length+1)*16<=140737488355328:=by omega
 refine cR (λb=>b.cell? ⟨c.heap.size,0,none⟩=some (.int .i64 a.f)/\b.cell? ⟨c.heap.size,1,none⟩=some (.string ⟨a.text.toArray⟩)/\b.cell? ⟨c.heap.size,2,none⟩=some (.int .i64 a.m)/\b.cell? ⟨c.heap.size,3,none⟩=some (.int .i64 a.fin)/\b.cell? ⟨c.heap.size,4,none⟩=some (.int .i64 a.n)/\b.cell? ⟨c.heap.size,5,none⟩=some (.int .i64 a.e)) (L:=7) (by kernel_rfl) rfl (by kernel_rfl) (by kernel_rfl) ?_ (λB=>?_)
 .go_keep
 refine bH [0,1,2,5] ?_;iterate 4 (refine bO (v:=?_) rfl (by kernel_rfl) (λ_ _ _ j=>j) (by kernel_rfl) (by assumption) ?_ ?_;rotate_left;focus (intro w q;(try dsimp only at q);go_simp;(try with_reducible rfl));(try simp only[aK,aL,List.set]))
 refine bI ?_;refine cj 3 (by kernel_rfl) rfl λz k=>?_;go_simp;refine k.out _ _ ?_ (λB=>?_)
 .go_keep
 (try simp only[aK,aL,List.set]);refine cj 4 (by kernel_rfl) rfl λz k=>?_;(refine step_append_lies _ (by rfl) _ _ _ (by rfl) 0 9 F _ 1 16 underlying30 M a1 a2 a3 a4 (by omega) (.slice gQ names.length A) names.length (names.map λr=>Value.string ⟨r.toArray⟩) (by rfl) (aX a0.b (x.b _) (by simp)) ⟨l.heap.size,0,none⟩ 1 1 [.string ⟨a.text.toArray⟩] (by rfl) (by rfl) (World.news_of_block (cs:=#[.string ⟨a.text.toArray⟩]) (t:=9) (fr:=(0,0)) (aJ (w:=l) (by simp))) (by simp[Value.oneCell']) (by omega) O P (by omega) (l.heap.size+1) (by simp) ?_;intro J I c9 E D C S;have p:=Z (m.b.g0 (i:=2) rfl (x.b _) E D C (by simp));obtain⟨d0,d1,d2,d3,d4,d5,d6,d7⟩:=p.b.r (i:=0) rfl;obtain⟨c1,c2,c3,c4,c5,c6,c7,c8⟩:=p.b.r (i:=1) (R:=w.heap.size) (x:=bZ) rfl;clear E D C S);refine k.out _ _ ?_ (λB=>?_)
 .go_keep
 (try simp only[aK,aL,List.set]);refine tk (i:=6) (v:=?_) rfl (by kernel_rfl) (λ_ _ _ j=>j) (by kernel_rfl) (by assumption) ?_ ?_;rotate_left
 .intro w q;(try dsimp only at q);go_simp;(try with_reducible rfl)
 (try simp only[aK,aL,List.set]);refine cP (by kernel_rfl) rfl λz k=>?_;go_simp;refine k.out _ _ ?_;(try simp only[aK,aL,List.set]);go_wp2;have u:=Z (p.b.co (i:=1) (R:=w.heap.size) (y:=bZ) rfl a);refine NA (i0:=4) (i1:=5) (R:=w.heap.size) (x:=a) (v0:=.slice (some ⟨J,0,none⟩) (names.length+1) I) ?_ ?_ ?_ ?_ ?_ ?_
 .rfl
 .rfl
 .rfl
 .rfl
 .exact u.b.a6 (i:=1) rfl
 .exact⟨_,rfl,u.b.az.az,G⟩
variable {c r : Nat -> Prop} {h f q : Nat} {t : List UInt8} {a k : ac} {b x d m o : World} {j : PV} {p : List Th} {i : Nat} {u w : Th}
def Nc(c b d:Int)(a:ac):(eh t c b d a).2.o=a.o:=by
 unfold eh;split<;>rfl
def DX(c b:Int)(a:ac):(aV t c b a).2.o=a.o:=by
 unfold aV;repeat' split
 all_goals first|rfl|exact Nc _ _ _ _
structure nK(v:Value)(l:List Int)(n:Int)(g cap:Nat)(w5 d:World):Prop where
 o6:∃w6,ai [] w5 w6/\w6.grownBy d v.ownBlock/\(v.ownBlock=some g\/g=w6.heap.size)
 G:d.ownsRow 0 3 1 (.slice (some ⟨g,0,none⟩) (l.length+1) cap) (l.length+1) (l.map (Value.int .i64)++[.int .i64 n])
 K:g<d.heap.size
def zu(c:Nat->Prop)(h:Nat)(t:List UInt8)(f:Nat)(j:PV)(v:Value)(k:List Int)(a:Int×ac)(b:World)(l:Ending)(d:World):Prop:=∃e i g,l=.returned (.tuple #[.slice (some ⟨i,0,none⟩) (k.length+1) g,.int .i64 a.1])/\bf c h t f a.2 j e/\Fr c b e/\nK v k a.1 i g e d
def LU(b9:bf c h t f a j b){v:Value}{l:List Int}(a8:dQ v l b)(P:(∀a6,v.ownBlock=some a6->c a6)\/(v=j.gv/\l=a.o))(d7:l.length<=1000000)(b6:f<=1000000000):Calls prog 147 #[.pointer (some ⟨h,0,none⟩),v] b (zu c h t f j v l (bC t l a) b):=by
 have L:U (∀k d,bf c h t f k j d->k.o=a.o->Fr c b d->dQ v l d):=Z (λk d b3 b4 b5=>by
  rcases P with P|⟨b0,b1⟩
  .exact ox a8 b5 P
  .rw[b0,b1,<-b4];exact b3.o)
 obtain⟨gQ,u,rfl⟩:=bX a8;obtain⟨a2,O,R,S,a0⟩:=info_parts om;have a1:(Value.int .i64 0).cells.size=1:=rfl;have a3:=Z (Yp b9 (iH c b));go_in;go_wp2_with fail;refine(oP a3.b.1 4 [61]).mono ?_;rintro F m ⟨rfl,r,p⟩;have a4:=Z (Yp r (a3.b.2.a p));go_wp2_with fail;refine(ze a4.b.1 0 4294967295 b6).mono ?_;rintro F o ⟨rfl,r,p⟩;have w:=Z (Yp r (a4.b.2.a p));have G:=DX (t:=t) 0 4294967295 (ab t 4 [61] a);generalize b8:aV t 0 4294967295 (ab t 4 [61] a)=c0 at *
 obtain⟨⟨n,a5⟩,E⟩:=c0;have N:=Z b8;simp only at w G;change E.o=a.o at G;have a9:=Z (sY (L.b _ _ w.b.1 G w.b.2).bk (by omega) n);go_wp2_with fail;refine a9.b.mono ?_;rintro F e0 ⟨rfl,rfl⟩;obtain⟨c1,c8,c9,d0,d1,d2,d3,d4,d5,c2,c3,c4,c5,c6,c7,d6,d8⟩:=w.b.1.r;by_cases M:E.s.e=0
 .have b7:(E.s.e==0)=true:=by rw[M];rfl
  cases a7:l.contains n with
  |true=>
   have H:U (bC t l a=(n,ab t 4 [59] (bo 6 a5 E))):=by
    show _=_;unfold bC;simp only[N.b,a7,M];simp
   go_wp2_with fail;refine(kB w.b.1 6 a5).mono ?_;rintro F d9 ⟨rfl,r,p⟩;have x:=Z (Yp r (w.b.2.a p));go_wp2_with fail;refine(oP x.b.1 4 [59]).mono ?_;rintro F g ⟨rfl,r,p⟩;have i:=Z (Yp r (x.b.2.a p));have J:U (∀q,(g.alloc q).ownsRow 0 3 1 (.slice gQ l.length u) l.length (l.map (Value.int .i64))):=Z (λq=>aX (L.b _ _ i.b.1 G i.b.2) ((ah [] g).d q) (by simp));go_wp2_with (at_builtin;go_must (refine wpList_append_lies _ (by rfl) _ _ _ (by rfl) 0 3 a2 _ 1 8 underlying24 O R S a0 a1 (by omega) (.slice gQ l.length u) l.length (l.map (Value.int .i64)) (by rfl) (J.b _) ⟨g.heap.size,0,none⟩ 1 1 [.int .i64 n] (by rfl) (by rfl) (World.news_of_block (cs:=#[.int .i64 n]) (t:=3) (fr:=(0,0)) (heap_alloc_new g _)) (by simp[Value.oneCell']) (by omega) (by unfold maxLen;omega) (by omega) (by simp) (g.heap.size+1) (by simp) ?_;intro z y K D B A C;have I:U (nK (.slice gQ l.length u) l n z y g K):=Z ⟨⟨_,(ah [] g).d _,B,by simpa using A⟩,D,C⟩;clear D B A C));go_ret2;rw[H.b];exact⟨g,z,y,rfl,i.b.1,i.b.2,I.b⟩
  |false=>
   have H:U (bC t l a=(n,ab t 4 [59] E)):=by
    show _=_;unfold bC;simp only[N.b,a7];simp
   have x:=w;go_wp2_with fail;refine(oP x.b.1 4 [59]).mono ?_;rintro F g ⟨rfl,r,p⟩;have i:=Z (Yp r (x.b.2.a p));have J:U (∀q,(g.alloc q).ownsRow 0 3 1 (.slice gQ l.length u) l.length (l.map (Value.int .i64))):=Z (λq=>aX (L.b _ _ i.b.1 G i.b.2) ((ah [] g).d q) (by simp));go_wp2_with (at_builtin;go_must (refine wpList_append_lies _ (by rfl) _ _ _ (by rfl) 0 3 a2 _ 1 8 underlying24 O R S a0 a1 (by omega) (.slice gQ l.length u) l.length (l.map (Value.int .i64)) (by rfl) (J.b _) ⟨g.heap.size,0,none⟩ 1 1 [.int .i64 n] (by rfl) (by rfl) (World.news_of_block (cs:=#[.int .i64 n]) (t:=3) (fr:=(0,0)) (heap_alloc_new g _)) (by simp[Value.oneCell']) (by omega) (by unfold maxLen;omega) (by omega) (by simp) (g.heap.size+1) (by simp) ?_;intro z y K D B A C;have I:U (nK (.slice gQ l.length u) l n z y g K):=Z ⟨⟨_,(ah [] g).d _,B,by simpa using A⟩,D,C⟩;clear D B A C));go_ret2;rw[H.b];exact⟨g,z,y,rfl,i.b.1,i.b.2,I.b⟩
 .have b7:(E.s.e==0)=false:=by rw[Yi];exact M
  have H:U (bC t l a=(n,ab t 4 [59] E)):=by
   show _=_;unfold bC;simp only[N.b];rw[Y2 (λb2=>M b2.1)]
  have x:=w;go_wp2_with fail;refine(oP x.b.1 4 [59]).mono ?_;rintro F g ⟨rfl,r,p⟩;have i:=Z (Yp r (x.b.2.a p));have J:U (∀q,(g.alloc q).ownsRow 0 3 1 (.slice gQ l.length u) l.length (l.map (Value.int .i64))):=Z (λq=>aX (L.b _ _ i.b.1 G i.b.2) ((ah [] g).d q) (by simp));go_wp2_with (at_builtin;go_must (refine wpList_append_lies _ (by rfl) _ _ _ (by rfl) 0 3 a2 _ 1 8 underlying24 O R S a0 a1 (by omega) (.slice gQ l.length u) l.length (l.map (Value.int .i64)) (by rfl) (J.b _) ⟨g.heap.size,0,none⟩ 1 1 [.int .i64 n] (by rfl) (by rfl) (World.news_of_block (cs:=#[.int .i64 n]) (t:=3) (fr:=(0,0)) (heap_alloc_new g _)) (by simp[Value.oneCell']) (by omega) (by unfold maxLen;omega) (by omega) (by simp) (g.heap.size+1) (by simp) ?_;intro z y K D B A C;have I:U (nK (.slice gQ l.length u) l n z y g K):=Z ⟨⟨_,(ah [] g).d _,B,by simpa using A⟩,D,C⟩;clear D B A C));go_ret2;rw[H.b];exact⟨g,z,y,rfl,i.b.1,i.b.2,I.b⟩
def ED(c:Nat->Prop)(h:Nat)(t:List UInt8)(f:Nat)(i:List Int)(a:Int×ac)(b:World)(g:Ending)(d:World):Prop:=∃e,g=.returned (.tuple #[e,.int .i64 a.1])/\aD c h t f a.2 [cV e (i++[a.1])] b d
def yk{v:Value}{l:List Int}(d:aD c h t f a [cV v l] b b)(p:l.length<=1000000)(n:f<=1000000000):Calls prog 147 #[.pointer (some ⟨h,0,none⟩),v] b (ED c h t f l (bC t l a) b):=by
 obtain⟨j,o⟩:=d.J;refine(LU o (v:=v) (l:=l) (d.a7 (i:=0) rfl) (Y8 λu m=>qR (i:=0) rfl m) p n).mono ?_;rintro x C ⟨A,y,w,rfl,s,g,⟨B,q,k,e⟩,r,z⟩;exact⟨_,rfl,(d.call ⟨⟨j,s⟩,g⟩).h8 (i:=0) rfl q r k e rfl⟩
variable {f k : Nat -> Prop} {d e j : Nat} {g : List UInt8} {a u : ac} {c p o q t : World} {b : PV} {h : List Th} {i : Nat} {l m : Th}
def bF(a:ac):Prop:=∀b∈a.g,b.ag=1->0<=b.n/\b.n<a.e.length
def tH{b:PV}(o:bf f d g e a b c){i:Nat}(w:i<a.e.length):∃h q p,b.rv=.slice (some ⟨h,0,none⟩) a.e.length q/\b.ls[i]? = some p/\c.cell? ⟨h,i*8,none⟩=some (.int .i64 (a.e.getD i cS).f)/\c.cell? ⟨h,i*8+1,none⟩=some (.int .i64 (a.e.getD i cS).n)/\c.cell? ⟨h,i*8+2,none⟩=some (.int .i64 (a.e.getD i cS).of)/\c.cell? ⟨h,i*8+3,none⟩=some p.1/\c.cell? ⟨h,i*8+4,none⟩=some p.2/\c.cell? ⟨h,i*8+5,none⟩=some (.int .i64 (a.e.getD i cS).eV)/\c.cell? ⟨h,i*8+6,none⟩=some (.string ⟨(a.e.getD i cS).a8.toArray⟩)/\c.cell? ⟨h,i*8+7,none⟩=some (.int .i64 (a.e.getD i cS).m)/\(∀i,c.frozen? ⟨h,i,none⟩=false)/\h<c.heap.size/\h≠d:=by
 have E:i<b.ls.length:=by rw[o.ak];exact w
 have A:a.e[i]? = some (a.e.getD i cS):=by simp[w]
 have u:b.ls[i]? = some b.ls[i]:=Yd E;have z:(a.e.zip b.ls)[i]? = some (a.e.getD i cS,b.ls[i]):=by rw[List.getElem?_zip_eq_some];exact⟨A,u⟩
 have p:=λj l=>ro (f:=λo:bc×(Value×Value)=>kJ o.1 o.2) (k:=8) (λ_=>rfl) (a.e.zip b.ls) i j l;have y:=o.e;unfold mo at y;have s:=λj l (v:Value) (m:(kJ (a.e.getD i cS) b.ls[i])[j]? = some v)=>jY y (x:=v) (p j l |>.trans (by rw[z];exact m));obtain⟨h,q,m,J,D,F⟩:=s 0 (by omega) _ rfl;have k:∀j (l:j<8) (v:Value) (m:(kJ (a.e.getD i cS) b.ls[i])[j]? = some v),c.cell? ⟨h,i*8+j,none⟩=some v:=by
  intro j l v G;obtain⟨I,H,t,B,_⟩:=s j l v G;rw[m]at t;simp at t;rw[t.1];exact B
 exact⟨h,q,b.ls[i],m,u,k 0 (by omega) _ rfl,k 1 (by omega) _ rfl,k 2 (by omega) _ rfl,k 3 (by omega) _ rfl,k 4 (by omega) _ rfl,k 5 (by omega) _ rfl,k 6 (by omega) _ rfl,k 7 (by omega) _ rfl,D,F,λC=>o.H.r (by rw[m,C];rfl)⟩
def xZ(b:0<=bz a a.s.x.text):bM a∈a.g:=by
 have:=rm b;unfold bM;simp[this]
variable {k m : Nat -> Prop} {d g l : Nat} {b : List UInt8} {σ r : ac} {c q a j f : World} {h : PV} {L : List Th} {i : Nat} {o p : Th}
def LP(d7:bt k d b g σ c)(ok:bF σ)(e6:g<=1000000000)(C:σ.s.e=0/\σ.s.x.f=1):Calls prog 151 #[.pointer (some ⟨d,0,none⟩)] c (GP k d b g (bR b σ).2 (.tuple #[.int .i64 (bR b σ).1.1,.string ⟨(bR b σ).1.2.toArray⟩]) c):=by
 have c6:=Z C;clear C;have a7:=Z ((iF d7).d (oW σ.s.x));obtain⟨h,t⟩:=d7;obtain⟨I,R,S,a0,a1,a2,G,r,a3,J,K,M,N,O,P,H,e8⟩:=t.r;have e9:=xZ (σ:=σ);clear t G r a3 J M N O P;go_in;go_wp2;generalize e7:c.alloc (oW σ.s.x)=j at *
 clear e7 I R S a0 a1 a2 K H e8;obtain⟨h,gQ,e4,t,c4⟩:=a7.b.J.sp;have c0:=Z (ol (t.t (ah [] j).ae) e6 σ.s.x.text);rw[c4]at c0;obtain⟨I,R,S,a0,a1,a2,G,r,a3,J,K,M,N,O,P,H,b0⟩:=t.r;rw[c4]at r;obtain⟨b2,b3,b4,b5,b6,b7,b8,b9⟩:=a7.b.r (i:=0) rfl;clear I R S a0 a1 a2 G a3 J K M N O P t;refine cR (λa=>a.cell? ⟨d,8,none⟩=some (.slice gQ σ.g.length e4)/\a.cell? ⟨c.heap.size,1,none⟩=some (.string ⟨σ.s.x.text.toArray⟩)) (L:=8) (by kernel_rfl) rfl (by kernel_rfl) (by kernel_rfl) ?_ (λy=>?_)
 .go_keep
 refine bH [0,1,2,3,4,5,6] ?_;iterate 7 (refine bO (v:=?_) rfl (by kernel_rfl) (λ_ _ _ l=>l) (by kernel_rfl) (by assumption) ?_ ?_;rotate_left;focus (intro c D;(try dsimp only at D);go_simp;(try with_reducible rfl));(try simp only[aK,aL,List.set]))
 refine bI ?_;refine cj 7 (by kernel_rfl) rfl λw m=>?_;(go_simp;refine c0.b.mono ?_;rintro f9 f ⟨rfl,rfl⟩);refine m.out _ _ ?_ (λy=>?_)
 .go_keep
 clear m w;(try simp only[aK,aL,List.set]);refine cP (by kernel_rfl) rfl λw m=>?_;go_simp;refine m.out _ _ ?_;clear m w;(try simp only[aK,aL,List.set]);have z:=Z a7.b.ae;clear a7 c0 y b2 b3 b4 b5 b6 b7 b8 b9 r H b0 c4;generalize j.drew=f at z ⊢;obtain⟨h,t⟩:=z.b.J;obtain⟨I,R,S,a0,a1,a2,G,r,a3,J,K,M,N,O,P,H,b0⟩:=t.r;obtain⟨b2,b3,b4,b5,b6,b7,b8,b9⟩:=z.b.r (i:=0) rfl;clear I R S a0 a1 a2 a3 J M N O P;have c5:=Z t;clear t;have C:=c6.b;clear c6;have a8:U (bR b σ=if bz σ σ.s.x.text<0\/(bM σ).ag≠1\/(fC σ (bM σ).n).f≠5 then ((0,[]),bo 7 σ.s.x.m σ)else (((bM σ).n,σ.s.x.text),aI b σ)):=by show _=_;unfold bR;rw[Y9 C]
 have g3:(σ.s.e==0)=true:=by rw[C.1];rfl
 have g4:((σ.s.x.f:Int)==1)=true:=by rw[C.2];rfl
 clear C;by_cases d0:bz σ σ.s.x.text<0
 .have B:U (bR b σ=((0,[]),bo 7 σ.s.x.m σ)):=by show _=_;rw[a8.b,Y9 (Y8 d0)]
  go_wp2;go_region;have A:=Z z.b.ae;go_wp2_with fail;refine aA A (iP · 7 σ.s.x.m) λb1 u=>?_;go_wp2;go_ret2;rw[B.b];exact⟨rfl,u.b.fin⟩
 .have d4:=rm (by omega:0<=bz σ σ.s.x.text);obtain⟨a4,c7,f1,-,d8,a6,-,d9,e0,g5⟩:=ow c5.b d4;change f.cell? _=some (.int .i64 (bM σ).ag)at d8;change f.cell? _=some (.int .i64 (bM σ).n)at a6;rw[f1]at r;have c3:=ok _ (e9 (by omega));have e1:=Z d4;generalize d2:bz σ σ.s.x.text=q at *
  obtain⟨q,rfl⟩:∃o:Nat,q=o:=⟨q.toNat,by omega⟩;simp only[Int.toNat_natCast]at *
  have g7:(q:Int)<(σ.g.length:Int):=by omega
  have g6:decide ((q:Int)<0)=false:=by simp
  have e3:=Z d2;clear d2 d0;by_cases E:(bM σ).ag=1
  .have f2:((bM σ).ag != 1)=false:=by rw[E];rfl
   obtain⟨f3,f4⟩:=c3 E;obtain⟨o,a5⟩:∃o:Nat,(bM σ).n=o:=⟨(bM σ).n.toNat,by omega⟩;obtain⟨c9,e5,g9,f0,-,f5,-,-,-,-,-,-,-,f6,f7,g8⟩:=tH c5.b (i:=o) (by omega);rw[a5]at a6 f4;rw[f0]at G;have d5:fC σ (bM σ).n=σ.e.getD o cS:=by unfold fC;rw[a5];rfl
   generalize d3:(σ.e.getD o cS).f=F at *
   have e2:=Z a5;have a9:U (bR b σ=if F≠5 then ((0,[]),bo 7 σ.s.x.m σ)else (((o:Int),σ.s.x.text),aI b σ)):=by
    show _=_;rw[a8.b,d5,d3,a5];by_cases p:F=5
    .rw[Y2 (by rintro(l|l|l);omega;exact l E;exact l p),Y2 (by simpa using p)]
    .rw[Y9 (Ya (Ya p)),Y9 p]
   clear E a5 d5 c3 f3 d3 a8;go_wp2;refine cR (λa=>a.cell? ⟨d,8,none⟩=some (.slice (some ⟨a4,0,none⟩) σ.g.length c7)/\a.cell? ⟨d,7,none⟩=some (.slice (some ⟨c9,0,none⟩) σ.e.length e5)/\a.cell? ⟨a4,q*4+1,none⟩=some (.int .i64 (bM σ).ag)/\a.cell? ⟨a4,q*4+2,none⟩=some (.int .i64 o)/\a.cell? ⟨c9,o*8,none⟩=some (.int .i64 F)) (L:=33) (by kernel_rfl) rfl (by kernel_rfl) (by kernel_rfl) ?_ (λy=>?_)
   .go_keep
   refine bH [0,1,2,3,4,5,6,7,8,9,10,11,12,13,14,15,16,17,18,19,20,21,22,23,24,25,26,27,28,29,30,31,32] ?_;iterate 33 (refine bO (v:=?_) rfl (by kernel_rfl) (λ_ _ _ l=>l) (by kernel_rfl) (by assumption) ?_ ?_;rotate_left;focus (intro c D;(try dsimp only at D);go_simp;(try with_reducible rfl));(try simp only[aK,aL,List.set]))
   refine bI ?_;refine cP (by kernel_rfl) rfl λw m=>?_;go_simp;refine m.out _ _ ?_;clear m w;(try simp only[aK,aL,List.set]);clear y;by_cases p:F=5
   .have B:U (bR b σ=(((o:Int),σ.s.x.text),aI b σ)):=by show _=_;rw[a9.b,Y2 (by simpa using p)]
    subst p;clear a9;have A:=Z z.b.ae;go_wp2_with fail;refine aA A (gG ·) λb1 u=>?_;clear G r K H b0 b2 b3 b4 b5 b6 b7 b8 b9 d8 a6 d9 e0 f5 f6 f7;obtain⟨b2,b3,b4,b5,b6,b7,b8,b9⟩:=u.b.r (i:=0) rfl;obtain⟨f8,c2⟩:=u.b.J;obtain⟨-,-,-,-,-,-,-,r,-,-,-,-,-,-,-,H,b0⟩:=c2.r;obtain⟨c1,c8,d6,-,-,a6,-,d9,e0,-⟩:=ow c2 (i:=q) e1.b;have d1:((aI b σ).g.getD q gT).n=o:=by
     rw[<-e2.b];unfold bM;rw[e3.b];rfl
    rw[d1]at a6;rw[d6]at r;change b1.cell? _=some (.slice (some ⟨c1,0,none⟩) σ.g.length c8)at r;clear c2 d6 d1;go_wp2;refine cR (λa=>a.cell? ⟨d,8,none⟩=some (.slice (some ⟨c1,0,none⟩) σ.g.length c8)/\a.cell? ⟨c1,q*4+2,none⟩=some (.int .i64 o)/\a.cell? ⟨c.heap.size,1,none⟩=some (.string ⟨σ.s.x.text.toArray⟩)) (L:=12) (by kernel_rfl) rfl (by kernel_rfl) (by kernel_rfl) ?_ (λy=>?_)
    .go_keep
    refine bH [0,1,2,3,4,5,6,7,8,9,10,11] ?_;iterate 12 (refine bO (v:=?_) rfl (by kernel_rfl) (λ_ _ _ l=>l) (by kernel_rfl) (by assumption) ?_ ?_;rotate_left;focus (intro c D;(try dsimp only at D);go_simp;(try with_reducible rfl));(try simp only[aK,aL,List.set]))
    refine bI ?_;refine cP (by kernel_rfl) rfl λw m=>?_;go_simp;refine m.out _ _ ?_;clear m w;(try simp only[aK,aL,List.set]);clear y;go_wp2;go_ret2;rw[B.b];exact⟨rfl,u.b.ae.fin⟩
   .have B:U (bR b σ=((0,[]),bo 7 σ.s.x.m σ)):=by show _=_;rw[a9.b,Y9 p]
    have g0:(F != 5)=true:=by simpa using p
    have g1:(F==5)=false:=by simpa using p
    have g2:decide (F=5)=false:=by simpa using p
    clear a9;have A:=Z z.b.ae;go_wp2_with fail;refine aA A (iP · 7 σ.s.x.m) λb1 u=>?_;go_wp2;go_ret2;rw[B.b];exact⟨rfl,u.b.fin⟩
  .have B:U (bR b σ=((0,[]),bo 7 σ.s.x.m σ)):=by show _=_;rw[a8.b,Y9 (Ya (Y8 E))]
   have f2:((bM σ).ag != 1)=true:=by simpa using E
   clear E c3;go_wp2;refine cR (λa=>a.cell? ⟨d,8,none⟩=some (.slice (some ⟨a4,0,none⟩) σ.g.length c7)/\a.cell? ⟨a4,q*4+1,none⟩=some (.int .i64 (bM σ).ag)) (L:=33) (by kernel_rfl) rfl (by kernel_rfl) (by kernel_rfl) ?_ (λy=>?_)
   .go_keep
   refine bH [0,1,2,3,4,5,6,7,8,9,10,11,12,13,14] ?_;iterate 15 (refine bO (v:=?_) rfl (by kernel_rfl) (λ_ _ _ l=>l) (by kernel_rfl) (by assumption) ?_ ?_;rotate_left;focus (intro c D;(try dsimp only at D);go_simp;(try with_reducible rfl));(try simp only[aK,aL,List.set]))
   refine bI ?_;refine bH [15,16,17,18,19,20,21,22,23,24,25,26,27,28,29,30,31,32] ?_;iterate 18 (refine Pq rfl (by kernel_rfl) (λ_ _ _ l=>l) (by kernel_rfl) (by assumption) ?_;(try simp only[aK,aL,List.set]))
   refine bI ?_;refine cP (by kernel_rfl) rfl λw m=>?_;go_simp;refine m.out _ _ ?_;clear m w;(try simp only[aK,aL,List.set]);clear y;have A:=Z z.b.ae;go_wp2_with fail;refine aA A (iP · 7 σ.s.x.m) λb1 u=>?_;go_wp2;go_ret2;rw[B.b];exact⟨rfl,u.b.fin⟩
variable {f m : Nat -> Prop} {c d l : Nat} {a : List UInt8} {σ q : ac} {b p h j k : World} {g : PV} {L : List Th} {i : Nat} {n o : Th}
def LR(b5:bt f c a d σ b)(ok:bF σ)(c2:d<=1000000000)(q:¬(σ.s.e=0/\σ.s.x.f=1)):Calls prog 151 #[.pointer (some ⟨c,0,none⟩)] b (GP f c a d (bR a σ).2 (.tuple #[.int .i64 (bR a σ).1.1,.string ⟨(bR a σ).1.2.toArray⟩]) b):=by
 have b7:=Z q;have G:=Z ((iF b5).d (oW σ.s.x));obtain⟨g,p⟩:=b5;obtain⟨P,a4,a5,a6,a7,a8,a9,H,b0,R,S,a0,a1,a2,a3,b1,d1⟩:=p.r;have d2:=xZ (σ:=σ);go_in;go_wp2;generalize c8:b.alloc (oW σ.s.x)=j at *
 obtain⟨g,gQ,b9,p,b3⟩:=G.b.J.sp;have O:=Z (ol (p.t (ah [] j).ae) c2 σ.s.x.text);rw[b3]at O;obtain⟨P,a4,a5,a6,a7,a8,a9,H,b0,R,S,a0,a1,a2,a3,b1,c6⟩:=p.r;rw[b3]at H;obtain⟨y,z,A,B,C,D,E,F⟩:=G.b.r (i:=0) rfl;refine cR (λh=>h.cell? ⟨c,8,none⟩=some (.slice gQ σ.g.length b9)/\h.cell? ⟨b.heap.size,1,none⟩=some (.string ⟨σ.s.x.text.toArray⟩)) (L:=8) (by kernel_rfl) rfl (by kernel_rfl) (by kernel_rfl) ?_ (λc1=>?_)
 .go_keep
 refine bH [0,1,2,3,4,5,6] ?_;iterate 7 (refine bO (v:=?_) rfl (by kernel_rfl) (λ_ _ _ n=>n) (by kernel_rfl) (by assumption) ?_ ?_;rotate_left;focus (intro b c3;(try dsimp only at c3);go_simp;(try with_reducible rfl));(try simp only[aK,aL,List.set]))
 refine bI ?_;refine cj 7 (by kernel_rfl) rfl λb8 J=>?_;(go_simp;refine O.b.mono ?_;rintro c0 k ⟨rfl,rfl⟩);refine J.out _ _ ?_ (λc1=>?_)
 .go_keep
 (try simp only[aK,aL,List.set]);refine cP (by kernel_rfl) rfl λb8 J=>?_;go_simp;refine J.out _ _ ?_;(try simp only[aK,aL,List.set]);have o:=Z G.b.ae;generalize j.drew=k at o ⊢;obtain⟨g,p⟩:=o.b.J;obtain⟨P,a4,a5,a6,a7,a8,a9,H,b0,R,S,a0,a1,a2,a3,b1,c6⟩:=p.r;obtain⟨y,z,A,B,C,D,E,F⟩:=o.b.r (i:=0) rfl;have c7:=Z p;have q:=b7.b;by_cases r:σ.s.e=0
 .have c4:(σ.s.e==0)=true:=by rw[r];rfl
  have d0:σ.s.x.f≠1:=λn=>q ⟨r,n⟩;have c9:((σ.s.x.f:Int)==1)=false:=by rw[Yi];omega
  by_cases I:σ.s.x.f=2
  .have c5:((σ.s.x.f:Int)==2)=true:=by rw[I];rfl
   have u:U (bR a σ=if σ.s.x.text=[105,110,116]\/σ.s.x.text=[117,110,115,105,103,110,101,100]\/σ.s.x.text=[98,111,111,108]then if σ.s.x.text=[105,110,116]then ((0,[105,110,116]),aI a σ)else if σ.s.x.text=[98,111,111,108]then ((4,[98,111,111,108]),aI a σ)else if ax (aI a σ) 2 [105,110,116]=true then ((1,[117,110,115,105,103,110,101,100]),aI a (aI a σ))else ((1,[117,110,115,105,103,110,101,100]),aI a σ)else ((0,[]),da σ)):=by
    show _=_;unfold bR;rw[Y2 q];simp only[r,I,true_and]
   cases w:(σ.s.x.text==[105,110,116])with
   |true=>
    have m:U (bR a σ=((0,[105,110,116]),aI a σ)):=by show _=_;rw[u.b,Y9 (Y8 (by simpa using w)),Y9 (by simpa using w)]
    go_wp2_with fail;refine aA o (gG ·) λt l=>?_;obtain⟨y,z,A,B,C,D,E,F⟩:=l.b.r (i:=0) rfl;go_wp2;go_ret2;rw[m.b];exact⟨rfl,l.b.fin⟩
   |false=>
    cases K:(σ.s.x.text==[117,110,115,105,103,110,101,100])with
    |true=>
     have b2:¬(σ.s.x.text=[98,111,111,108]):=by
      intro n;rw[n]at K;exact absurd K (by decide)
     have M:(σ.s.x.text==[98,111,111,108])=false:=by simpa using b2
     have N:U (bR a σ=if ax (aI a σ) 2 [105,110,116]=true then ((1,[117,110,115,105,103,110,101,100]),aI a (aI a σ))else ((1,[117,110,115,105,103,110,101,100]),aI a σ)):=by show _=_;rw[u.b,Y9 (Ya (Y8 (by simpa using K))),Y2 (by simpa using w),Y2 b2]
     go_wp2_with fail;refine aA o (gG ·) λt l=>?_;obtain⟨y,z,A,B,C,D,E,F⟩:=l.b.r (i:=0) rfl;go_wp2_with fail;refine(ga l.b.J 2 [105,110,116]).mono ?_;rintro c0 d4 ⟨rfl,rfl⟩;cases b4:ax (aI a σ) 2 [105,110,116]with
     |true=>
      have m:U (bR a σ=((1,[117,110,115,105,103,110,101,100]),aI a (aI a σ))):=by show _=_;rw[N.b,Y9 b4]
      go_wp2_with fail;refine aA l (gG ·) λd3 b6=>?_;go_wp2;go_ret2;rw[m.b];exact⟨rfl,b6.b.fin⟩
     |false=>
      have m:U (bR a σ=((1,[117,110,115,105,103,110,101,100]),aI a σ)):=by show _=_;rw[N.b,Y2 (by simp[b4])]
      go_wp2;go_ret2;rw[m.b];exact⟨rfl,l.b.fin⟩
    |false=>
     cases M:(σ.s.x.text==[98,111,111,108])with
     |true=>
      have m:U (bR a σ=((4,[98,111,111,108]),aI a σ)):=by show _=_;rw[u.b,Y9 (Ya (Ya (by simpa using M))),Y2 (by simpa using w),Y9 (by simpa using M)]
      go_wp2_with fail;refine aA o (gG ·) λt l=>?_;obtain⟨y,z,A,B,C,D,E,F⟩:=l.b.r (i:=0) rfl;go_wp2;go_ret2;rw[m.b];exact⟨rfl,l.b.fin⟩
     |false=>
      have m:U (bR a σ=((0,[]),da σ)):=by show _=_;rw[u.b,Y2 (by rintro(n|n|n)<;>simp_all)]
      go_wp2_with fail;refine aA o (nY ·) λt l=>?_;go_wp2;go_ret2;rw[m.b];exact⟨rfl,l.b.fin⟩
  .have c5:((σ.s.x.f:Int)==2)=false:=by rw[Yi];omega
   have m:U (bR a σ=((0,[]),da σ)):=by show _=_;unfold bR;rw[Y2 q,Y2 (λn=>I n.2.1)]
   go_wp2_with fail;refine aA o (nY ·) λt l=>?_;go_wp2;go_ret2;rw[m.b];exact⟨rfl,l.b.fin⟩
 .have c4:(σ.s.e==0)=false:=by rw[Yi];exact r
  have m:U (bR a σ=((0,[]),da σ)):=by show _=_;unfold bR;rw[Y2 q,Y2 (λn=>r n.1)]
  go_wp2_with fail;refine aA o (nY ·) λt l=>?_;go_wp2;go_ret2;rw[m.b];exact⟨rfl,l.b.fin⟩
def LS(i:bt f c a d σ b)(ok:bF σ)(h:d<=1000000000):Calls prog 151 #[.pointer (some ⟨c,0,none⟩)] b (GP f c a d (bR a σ).2 (.tuple #[.int .i64 (bR a σ).1.1,.string ⟨(bR a σ).1.2.toArray⟩]) b):=by
 by_cases g:σ.s.e=0/\σ.s.x.f=1
 .exact LP i ok h g
 .exact LR i ok h g
variable {e m : Nat -> Prop} {d c k : Nat} {t : List UInt8} {a q : ac} {b p f g h : World} {l : PV} {j : List Th} {i : Nat} {n o : Th}
def Ez(e:Nat->Prop)(d:Nat)(t:List UInt8)(c:Nat)(a:(Int×List UInt8×List (List UInt8))×ac)(b:World)(h:Ending)(f:World):Prop:=∃g,h=.returned (.tuple #[.int .i64 a.1.1,.string ⟨a.1.2.1.toArray⟩,g])/\aD e d t c a.2 [bD g a.1.2.2] b f/\a.1.2.1.length<=5000
def wH{v:Value}{names:List (List UInt8)}(B:aD e d t c a [bD v names] b b)(O:names.length<=1000000)(M:c+10<=1000000000):Calls prog 154 #[.pointer (some ⟨d,0,none⟩),v] b (Ez e d t (c+2) (ce t names a) b):=by
 obtain⟨gQ,w,rfl⟩:=bX (B.m _ Yb);have k:=Z B;go_in;go_wp2_with fail;refine(ga k.b.J 2 [118,111,105,100]).mono ?_;rintro K c2 ⟨rfl,rfl⟩;cases A:ax a 2 [118,111,105,100]with
 |true=>
  have p:U (ce t names a=((-1,[118,111,105,100,59,32],names),ab t 4 [59] (aI t a))):=by show _=_;unfold ce;rw[Y9 A]
  go_wp2_with fail;refine aA k (gG ·) λg l=>?_;go_wp2_with fail;refine aA l (cB · 4 [59]) λh n=>?_;go_wp2;go_ret3;rw[p.b];exact⟨_,rfl,n.b.L (by omega),by simp⟩
 |false=>
  go_wp2_with fail;refine(xi k.b.J (names:=names) (k.b.a7 (i:=0) rfl) (λb5 L=>qR (i:=0) rfl L) O false M).mono ?_;rintro K g ⟨rfl,b1,a7,a8,a9,b0⟩;have l:=Z (k.b.call ⟨b1,a7⟩);generalize a1:bQ t names false a=b2 at *
  obtain⟨⟨b3,m,q,f⟩,b4⟩:=b2;have p:U (ce t names a=((b3,m++f.text++q++[59,32],names++[f.text]),ab t 4 [59] b4)):=by show _=_;unfold ce;rw[Y2 (by simp[A])];simp only[a1]
  simp only at l a8 a9 b0;have n:=Z (l.b.d (oW f));go_wp2_with fail;refine aA n (cB · 4 [59]) λj o=>?_;obtain⟨C,D,E,F,G,H,I,J⟩:=o.b.r (i:=0) rfl;obtain⟨a6,N,a2,a3,a4⟩:=info_parts pI;have a5:(Value.string ⟨#[]⟩).cells.size=1:=rfl;have a0:U (∀r,(j.alloc r).ownsRow 0 9 1 (.slice gQ names.length w) names.length (names.map λs=>Value.string ⟨s.toArray⟩)):=Z (λr=>aX (o.b.a7 (i:=1) rfl) ((ah [] j).d r) (by simp));have P:names.length+1<=maxLen:=by unfold maxLen;omega
  have R:(names.length+1)*16<=140737488355328:=by omega
  go_wp2_with (at_builtin;go_must (refine wpList_append_lies _ (by rfl) _ _ _ (by rfl) 0 9 a6 _ 1 16 underlying30 N a2 a3 a4 a5 (by omega) (.slice gQ names.length w) names.length (names.map λs=>Value.string ⟨s.toArray⟩) (by rfl) (a0.b _) ⟨j.heap.size,0,none⟩ 1 1 [.string ⟨f.text.toArray⟩] (by rfl) (by rfl) (World.news_of_block (cs:=#[.string ⟨f.text.toArray⟩]) (t:=9) (fr:=(0,0)) (heap_alloc_new j _)) (by simp[Value.oneCell']) (by omega) P R (by simp) (j.heap.size+1) (by simp) ?_;intro b7 b6 c1 z y x S;have u:=Z (o.b.g0 (i:=1) rfl ((ah [] j).d _) z y x (by simp));clear z y x S C D E F G H I J;obtain⟨C,D,E,F,G,H,I,J⟩:=u.b.r (i:=0) rfl));have b8:¬(9223372036854775807<m.length+f.text.length):=by omega
  have b9:¬(9223372036854775807<m.length+f.text.length+q.length):=by omega
  have c0:¬(9223372036854775807<m.length+f.text.length+q.length+2):=by omega
  go_region;go_wp2;go_ret3;rw[p.b];refine⟨_,?_,u.b.ae.az,by simp;omega⟩;simp;exact fo (by simp)
variable {c : List UInt8} {b d f : ac}
def aM(b d:ac):Prop:=b.s.e≠0->d.s.e=b.s.e/\d.s.a=b.s.a
def ed(b:ac):aM b b:=λ_=>⟨rfl,rfl⟩
def aM.a(i:aM b d)(j:aM d f):aM b f:=λc=>by
 obtain⟨a,e⟩:=i c;obtain⟨g,h⟩:=j (by rw[a];exact c);exact⟨g.trans a,h.trans e⟩
def kc(c a:Int)(b:ac):aM b (bo c a b):=λd=>by simp[bo,hl,d]
def ql(b:ac):aM b (da b):=λa=>by
 unfold da jK lT hl;simp[a]
def gX(b:ac):aM b (aI c b):=λ_=>⟨rfl,rfl⟩
def aO(a:Nat)(d:List UInt8)(b:ac):aM b (ab c a d b):=by
 unfold ab mA;split
 .exact λ_=>⟨rfl,rfl⟩
 .exact ql b
def rV(b:ac):aM b (cJ c b).2:=by
 unfold cJ ie;split
 .exact ed b
 .split
  .exact λ_=>⟨rfl,rfl⟩
  .exact ql b
def oE(a:Int)(b:ac):aM b (aG c a b).2:=by
 unfold aG;split
 .exact rV b
 .split
  .exact(rV b).a (kc _ _ _)
  .exact(rV b).a λ_=>⟨rfl,rfl⟩
def Dp(c a:Int)(b:ac):aM b (ar c a b):=by
 unfold ar iQ;split
 .split
  .exact(ql b).a (kc _ _ _)
  .exact ql b
 .split
  .exact kc _ _ _
  .exact ed b
def rt{n m:Int}(c:m<=n)(b:ac):(ar n m b).s.e≠0:=by
 unfold ar iQ;generalize (if b.s.e=0/\b.s.x.f=5 then da b else b)=f
 by_cases a:f.s.e=0
 .rw[Y9 ⟨a,c⟩];simp[bo,hl,a]
 .rw[Y2 (λd=>a d.1)];exact a
def Be{c:Nat}{d:List UInt8}(a:ax b c d=true):b.s.e=0:=by
 unfold ax hx at a;simp at a;exact a.1
def tb{c:Nat}{d:List UInt8}(a:b.s.e≠0):ax b c d=false:=by
 unfold ax hx;simp[a]
def we(d a e:Int)(b:ac):aM b (eh c d a e b).2:=by
 unfold eh;split
 .exact kc _ _ _
 .exact gX b
def gY(d a:Int)(b:ac):aM b (aV c d a b).2:=by
 unfold aV;split
 .exact ed b
 .split
  .exact we _ _ _ _
  .split
   .exact we _ _ _ _
   .split
    .exact we _ _ _ _
    .split
     .split
      .exact kc _ _ _
      .exact we _ _ _ _
     .exact ql b
def fq(a:bc)(b:ac):aM b (bJ a b):=λ_=>⟨rfl,rfl⟩
def mv(a:List UInt8)(b:ac):aM b (dV a b):=λ_=>⟨rfl,rfl⟩
def Dr(c:List UInt8)(a:Int)(b:ac):aM b (dA c a b):=by
 unfold dA;simp only;split<;>exact λ_=>⟨rfl,rfl⟩
def rU(c:List UInt8)(a:Int)(b:ac):aM b (cX c a b):=by
 unfold cX;split<;>exact λ_=>⟨rfl,rfl⟩
def Qh(b:ac):aM b (iD c b).2:=by
 unfold iD;split
 .exact gX b
 .split
  .exact gX b
  .exact ed b
def Dq(b:ac):aM b (ch c b).2:=by
 unfold ch;split
 .exact ed b
 .split
  .exact(gX b).a (fq _ _)
  .split
   .exact gX b
   .split
    .exact gX b
    .split
     .exact gX b
     .split
      .exact(gX b).a (Qh _)
      .exact ql b
def kK(a:Bool)(b:ac):aM b (bp c a b).2:=by
 unfold bp;split
 .exact(aO _ _ _).a ((gY _ _ _).a (aO _ _ _))
 .simp only;split
  .exact(aO _ _ _).a (aO _ _ _)
  .exact(aO _ _ _).a ((gY _ _ _).a (aO _ _ _))
def lF(e:List (List UInt8))(all:Bool)(b:ac):aM b (bV c e all b).2:=by
 unfold bV;simp only;generalize f:cJ c b=a;have d:aM b a.2:=by rw[<-f];exact rV b
 generalize (if all=true then decide (0<=bz a.2 a.1.text)else e.contains a.1.text)=g
 split
 .exact d.a (kc _ _ _)
 .exact d
def Qa(e:List (List UInt8))(all f:Bool)(b:ac):aM b (gq c e all f b).2:=by
 unfold gq;simp only;generalize h:bV c e all (aI c b)=g;have a:aM b g.2:=by rw[<-h];exact(gX _).a (lF _ _ _)
 by_cases d:ax g.2 4 [91]=true/\f=true
 .rw[Y9 d];exact a.a ((kK _ _).a (fq _ _))
 .rw[Y2 d];exact a.a ((kK _ _).a (fq _ _))
def PZ(j:List (List UInt8))(all:Bool)(b:ac):aM b (gn c j all b).2:=by
 unfold gn;simp only;generalize k:ch c b=d;have f:aM b d.2:=by rw[<-k];exact Dq _
 by_cases g:ax d.2 4 [42]=true
 .rw[Y9 g];exact f.a ((gX _).a ((lF _ _ _).a (fq _ _)))
 .rw[Y2 g];generalize l:bV c j all d.2=e;have a:aM b e.2:=by rw[<-l];exact f.a (lF _ _ _)
  by_cases h:ax e.2 4 [91]=true
  .rw[Y9 h];exact a.a ((kK _ _).a (fq _ _))
  .rw[Y2 h];by_cases i:ax e.2 4 [60]=true
   .rw[Y9 i];exact a.a ((kK _ _).a (fq _ _))
   .rw[Y2 i];exact a
def wb(a:List (List UInt8))(all:Bool)(b:ac):aM b (bQ c a all b).2:=by
 unfold bQ;split
 .exact Qa _ _ _ _
 .exact PZ _ _ _
def Dt(b:ac):aM b (bR c b).2:=by
 unfold bR;split
 .split
  .exact kc _ _ _
  .exact gX b
 .split
  .split
   .exact gX b
   .split
    .exact gX b
    .split
     .exact(gX b).a (gX _)
     .exact gX b
  .exact ql b
def wa(a:List (List UInt8))(b:ac):aM b (ce c a b).2:=by
 unfold ce;split
 .exact(gX b).a (aO _ _ _)
 .exact(wb _ _ _).a (aO _ _ _)
def rT(b:ac):aM b (eA c b).2:=by
 unfold eA;split
 .exact gX b
 .exact Dq b
def ke(a:Prop)[Decidable a](d c:Int)(b:ac):aM b (if a then bo d c b else b):=by
 split
 .exact kc _ _ _
 .exact ed b
def mu(a:List Int)(b:ac):aM b (bC c a b).2:=by
 unfold bC;exact(aO _ _ _).a ((gY _ _ _).a ((ke _ _ _ _).a (aO _ _ _)))
def Sm(b d:ac):Prop:=d = { b with s:=d.s }
def Sm.a(a:Sm b d)(c:Sm d f):Sm b f:=by
 unfold Sm at *
 rw[c,a]
def vW(c a:Int)(b:ac):Sm b (bo c a b):=rfl
def tM(b:ac):Sm b (da b):=rfl
def eB(b:ac):Sm b (aI c b):=rfl
def an(a:Nat)(d:List UInt8)(b:ac):Sm b (ab c a d b):=rfl
def iX(b:ac):Sm b (cJ c b).2:=rfl
def jy(a:Prop)[Decidable a](d c:Int)(b:ac):Sm b (if a then bo d c b else b):=by
 split<;>rfl
def cw(c a:Int)(b:ac):Sm b (ar c a b):=by
 unfold ar iQ;repeat' split
 all_goals rfl
def fT(d a:Int)(b:ac):Sm b (aV c d a b).2:=by
 unfold aV eh;repeat' split
 all_goals rfl
def oD(b:ac):Sm b (bR c b).2:=by
 unfold bR;repeat' split
 all_goals rfl
def Sm.e(a:Sm b d):d.e=b.e:=by rw[a]
def Sm.g(a:Sm b d):d.g=b.g:=by rw[a]
def Sm.o(a:Sm b d):d.o=b.o:=by rw[a]
variable {f p : Nat -> Prop} {d c o : Nat} {t : List UInt8} {a g : ac} {b u j l k : World} {h : PV} {n : List Th} {i : Nat} {q r : Th}
def jx:Value->Nat
 |.slice _ a _=>a
 |_=>0
def gS(of:Int)(v:(Int×Int)×ac):ac:=if v.2.s.e=0/\4<of/\(fC v.2 of).a0.contains v.1.1=false then bo 8 v.1.2 v.2 else v.2
def fH(d:List Int)(c b:Int)(a:ac):ac:=if a.s.e=0/\d.contains c=true then bo 6 b a else a
def wS(t:List UInt8)(of:Int)(c:List Int)(d:List UInt8)(b:Int)(a:ac):(List Int×List UInt8)×ac:=
 if ax (ab t 4 [58] a) 2 [99,97,115,101]=true then bT t of (14-(c++[b]).length) (c++[b]) (d++[99,97,115,101,32]++bB b++[58,32]) (ab t 4 [58] a)
 else ((c++[b],d++[99,97,115,101,32]++bB b++[58,32]),ab t 4 [58] a)
def zW{of:Int}{b:Nat}{c:List Int}{d:List UInt8}(f:a.s.e≠0):bT t of b c d a=((c,d),a):=by
 cases b with
 |zero=>rfl
 |succ b=>unfold bT;rw[Y9 f]
def FX{of:Int}{nums:List Int}{out:List UInt8}{v:(Int×Int)×ac}(d:a.s.e=0)(f:nums.length<=12)(e:aV t (eQ of) (eP of) (ab t 2 [99,97,115,101] (ar nums.length 12 a))=v):bT t of (14-nums.length) nums out a=wS t of nums out v.1.1 (fH nums v.1.1 v.1.2 (gS of v)):=by
 have b:14-nums.length=(13-nums.length)+1:=by omega
 have c:14-(nums++[v.1.1]).length=13-nums.length:=by simp
 unfold wS;rw[c,b];rw[bT,Y2 (by simpa using d)];simp only[e];rfl
def EA(f:Nat->Prop)(d:Nat)(t:List UInt8)(c:Nat)(a:(List Int×List UInt8)×ac)(b:World)(g:Ending)(j:World):Prop:=∃e,g=.returned (.tuple #[e,.string ⟨a.1.2.toArray⟩])/\aD f d t c a.2 [cV e a.1.1] b j/\a.1.2.length<=400/\a.1.1.length<=13
def Ga{v:Value}{w:List Int}(m:aD f d t c a [cV v w] b b)(of:Int)(g5:0<=of/\(4<of->of<a.e.length))(h1:∀b4∈a.e,b4.a0.length<=1000)(f8:w.length<=12)(f1:c<=1000000000):Calls prog 153 #[.pointer (some ⟨d,0,none⟩),.int .i64 of,v] b (EA f d t c (bT t of (14-w.length) w [] a) b):=by
 obtain⟨gQ,B,rfl⟩:=bX (m.m _ Yb);obtain⟨j,rfl⟩:∃j:Nat,of=j:=⟨of.toNat,by omega⟩;have d2:=Z m;obtain⟨h7,f7,h3,h4,h5⟩:=info_parts om;have h6:(Value.int .i64 0).cells.size=1:=rfl;go_in;go_wp2;go_loopw [2,8] (λv R i3=>∃(gQ:Option Addr) (B:Nat) (n:List Int) (x:List UInt8) (g:ac),v=.slice gQ n.length B/\R=.string ⟨x.toArray⟩/\n.length<=12/\x.length<=20*n.length/\U (aD f d t c g [cV (.slice gQ n.length B) n] b i3)/\U (bT t j (14-n.length) n x g=bT t j (14-w.length) w [] a)/\U (g.e=a.e)) (λv _ _=>14-jx v)
 case atStart=>exact⟨gQ,B,w,[],a,rfl,rfl,f8,by simp,d2,Z rfl,Z rfl⟩
 case round=>
  obtain⟨gQ,B,n,x,A,rfl,rfl,g0,g1,a6,b7,e1⟩:=hrel;obtain⟨h,E⟩:=a6.b.J;obtain⟨i5,j1,j2,j3,j4,j5,c1,j6,j7,i6,a8,i7,i8,i9,j0,G,b2⟩:=E.r;by_cases a1:A.s.e=0
  .have f2:(A.s.e==0)=true:=by rw[a1];rfl
   have d7:=Z a1;go_wp2_with fail;refine aA a6 (kC · n.length 12) λl d3=>?_;go_wp2_with fail;refine aA d3 (cB · 2 [99,97,115,101]) λk d4=>?_;have g1:(-2147483648:Int)<=eQ j:=by unfold eQ;split<;>omega
   have k0:eP j<=(4294967295:Int):=by unfold eP;split<;>(try split)<;>omega
   go_upto_block 2 with fail;go_cut [9,10] (λh9 f6 wc=>h9=.int .i64 (eQ j)/\f6=.int .i64 (eP j)/\wc=k);case first=>
    by_cases D:(j:Int)=1
    .have P:eQ j=0:=by unfold eQ;rw[Y9 (Y8 D)]
     have O:eP j=4294967295:=by unfold eP;rw[Y9 D]
     have e9:((j:Int)==1)=true:=by rw[D];rfl
     have C:=Z (Yp P O);go_wp2;go_meet;rw[C.b.1,C.b.2];exact⟨rfl,rfl,rfl⟩
    .have e9:((j:Int)==1)=false:=by rw[Yi];exact D
     by_cases z:(j:Int)=4
     .have P:eQ j=0:=by unfold eQ;rw[Y9 (Ya z)]
      have O:eP j=1:=by unfold eP;rw[Y2 D,Y9 z]
      have f0:((j:Int)==4)=true:=by rw[z];rfl
      have C:=Z (Yp P O);go_wp2;go_meet;rw[C.b.1,C.b.2];exact⟨rfl,rfl,rfl⟩
     .have P:eQ j = -2147483648:=by unfold eQ;rw[Y2 (by omega)]
      have O:eP j=2147483647:=by unfold eP;rw[Y2 D,Y2 z]
      have f0:((j:Int)==4)=false:=by rw[Yi];exact z
      have C:=Z (Yp P O);go_wp2;go_meet;rw[C.b.1,C.b.2];exact⟨rfl,rfl,rfl⟩
   case rest=>
    obtain⟨rfl,rfl,rfl⟩:=hcut;go_wp2_with fail;refine aA d4 (tT · (eQ j) (eP j) f1) λi4 J=>?_;have d0:=sa (t:=t) (eQ j) (eP j) (ab t 2 [99,97,115,101] (ar n.length 12 A));have b8:=Z (FX (t:=t) (of:=j) (nums:=n) (out:=x) d7.b g0 rfl);have c9:=Z ((aO (t:=t) 2 [99,97,115,101] (ar n.length 12 A)).a (gY (t:=t) (eQ j) (eP j) _));have a3:=Z ((((cw n.length 12 A).a (an (t:=t) 2 [99,97,115,101] _)).a (fT (t:=t) (eQ j) (eP j) _)).e.trans e1.b);generalize aV t (eQ j) (eP j) (ab t 2 [99,97,115,101] (ar n.length 12 A))=b4 at *
    obtain⟨⟨o,q⟩,p⟩:=b4;simp only at J d0 b8 c9 a3;have k3:(-2147483648:Int)<=o/\o<=4294967295:=by have:=d0;omega
    obtain⟨h,E⟩:=J.b.J;obtain⟨-,-,-,-,-,-,c1,-,-,-,a8,-,-,-,-,G,b2⟩:=E.r;have b9:=Z E;go_upto_region 15 with fail;go_cut [48] (λa7 wc=>a7=.bool (decide (p.s.e=0/\(4:Int)<j))/\wc=i4);case first=>
     by_cases F:p.s.e=0
     .have f3:(p.s.e==0)=true:=by rw[F];rfl
      by_cases N:(4:Int)<j
      .have u:U (decide (p.s.e=0/\(4:Int)<j)=true):=Z (by simp[F,N]);go_wp2;go_meet;exact⟨by rw[u.b],rfl⟩
      .have u:U (decide (p.s.e=0/\(4:Int)<j)=false):=Z (by simp[N]);go_wp2;go_meet;exact⟨by rw[u.b],rfl⟩
     .have f3:(p.s.e==0)=false:=by rw[Yi];exact F
      have u:U (decide (p.s.e=0/\(4:Int)<j)=false):=Z (by simp[F]);go_wp2;go_meet;exact⟨by rw[u.b],rfl⟩
    case rest=>
     obtain⟨rfl,rfl⟩:=hcut;generalize g8:decide (p.s.e=0/\(4:Int)<j)=i1;have u:=Z g8;go_upto_if 48 with fail;go_cut [] (λwc=>U (aD f d t c (gS j ((o,q),p)) [cV (.slice gQ n.length B) n] b wc));case first=>
      cases i1 with
      |false=>
       have z:U (gS j ((o,q),p)=p):=Z (by unfold gS;rw[Y2 (λy=>of_decide_eq_false u.b ⟨y.1,y.2.1⟩)]);go_wp2;go_meet;rw[z.b];exact J
      |true=>
       obtain⟨F,N⟩:=of_decide_eq_true u.b;have d8:=Z F;have b1:j<p.e.length:=by rw[a3.b];have:=g5.2 N;omega
       obtain⟨j9,j8,i0,h2,g7,-,-,-,l0,-,-,-,-,l1,l2,-⟩:=tH b9.b (i:=j) b1;have f9:=(b9.b.et j (p.e.getD j cS) i0 (by simp[b1]) g7).1;have c8:U (fC p j=p.e.getD j cS):=Z rfl;have h0:(p.e.getD j cS).a0.length<=1000000000:=(by have:=h1 (p.e.getD j cS) (by rw[<-a3.b];simp[b1]);omega);have k1:((j:Int)<(p.e.length:Int)):=by omega
       have d9:=Z N;rw[h2]at c1;have e7:=Z (sY (dQ.bk f9) h0 o);go_wp2_with fail;refine e7.b.mono ?_;rintro a9 b5 ⟨rfl,rfl⟩;cases c6:(p.e.getD j cS).a0.contains o with
       |true=>
        have z:U (gS j ((o,q),p)=p):=Z (by unfold gS;rw[Y2 (λy=>by simp only at y;rw[c8.b,c6]at y;exact absurd y.2.2 (by simp))]);go_wp2;go_meet;rw[z.b];exact J
       |false=>
        have z:U (gS j ((o,q),p)=bo 8 q p):=Z (by unfold gS;rw[Y9 ⟨d8.b,d9.b,by simp only;rw[c8.b];exact c6⟩]);go_wp2_with fail;refine aA J (iP · 8 q) λd1 K=>?_;go_wp2;go_meet;rw[z.b];exact K
     case rest=>
      rename World=>k7;have S:=hcut;have e4:U (aM (ar n.length 12 A) (gS j ((o,q),p))):=Z (c9.b.a (by unfold gS;split;exact kc 8 q p;exact ed _));have e0:U ((gS j ((o,q),p)).e=a.e):=Z (by unfold gS;split<;>exact a3.b);generalize gS j ((o,q),p)=r at *
      obtain⟨h,E⟩:=S.b.J;obtain⟨-,-,-,-,-,-,-,-,-,-,a8,-,-,-,-,G,b2⟩:=E.r;have e8:=Z (sY (dQ.bk (S.b.a7 (i:=0) rfl)) (by omega) o);go_wp2_with fail;refine e8.b.mono ?_;rintro a9 b5 ⟨rfl,rfl⟩;generalize f5:n.contains o=L at *
      have c0:=Z f5;go_upto_region 20 with fail;go_cut [75] (λa7 wc=>a7=.bool (decide (r.s.e=0)&&L)/\wc=b5);case first=>
       by_cases a2:r.s.e=0
       .have f4:(r.s.e==0)=true:=by rw[a2];rfl
        have u:U ((decide (r.s.e=0)&&L)=L):=Z (by simp[a2]);go_wp2;go_meet;exact⟨by rw[u.b],rfl⟩
       .have f4:(r.s.e==0)=false:=by rw[Yi];exact a2
        have u:U ((decide (r.s.e=0)&&L)=false):=Z (by simp[a2]);go_wp2;go_meet;exact⟨by rw[u.b],rfl⟩
      case rest=>
       obtain⟨rfl,rfl⟩:=hcut;generalize g9:(decide (r.s.e=0)&&L)=i2;have u:=Z g9;go_upto_if 75 with fail;go_cut [] (λwc=>U (aD f d t c (fH n o q r) [cV (.slice gQ n.length B) n] b wc));case first=>
        cases i2 with
        |false=>
         have b0:U (fH n o q r=r):=Z (by unfold fH;rw[Y2 (λy=>by have:=u.b;rw[<-c0.b,y.2,decide_eq_true y.1]at this;exact absurd this (by decide))]);go_wp2;go_meet;rw[b0.b];exact S
        |true=>
         have b0:U (fH n o q r=bo 6 q r):=Z (by unfold fH;rw[Y9 (by have:=u.b;rw[<-c0.b]at this;simpa using this)]);go_wp2_with fail;refine aA S (iP · 6 q) λd1 K=>?_;go_wp2;go_meet;rw[b0.b];exact K
       case rest=>
        rename World=>d1;have K:=hcut;have e3:U (aM (ar n.length 12 A) (fH n o q r)):=Z (e4.b.a (by unfold fH;split;exact kc 6 q r;exact ed _));have e6:U ((fH n o q r).e=a.e):=Z (by unfold fH;split<;>exact e0.b);generalize fH n o q r=I at *
        have e5:=Z (e3.b.a (aO (t:=t) 4 [58] I));go_wp2_with fail;refine aA K (cB · 4 [58]) λH b6=>?_;(try clear a8 G b2);have g6:U (∀R,(H.alloc R).ownsRow 0 3 1 (.slice gQ n.length B) n.length (n.map (Value.int .i64))):=Z (λR=>aX (b6.b.a7 (i:=0) rfl) ((ah [] H).d R) (by simp));have g3:n.length+1<=maxLen:=by unfold maxLen;omega
        go_wp2_with (at_builtin;go_must (refine wpList_append_lies _ (by rfl) _ _ _ (by rfl) 0 3 h7 _ 1 8 underlying24 f7 h3 h4 h5 h6 (by omega) (.slice gQ n.length B) n.length (n.map (Value.int .i64)) (by rfl) (g6.b _) ⟨H.heap.size,0,none⟩ 1 1 [.int .i64 o] (by rfl) (by rfl) (World.news_of_block (cs:=#[.int .i64 o]) (t:=3) (fr:=(0,0)) (heap_alloc_new H _)) (by simp[Value.oneCell']) (by omega) g3 (by omega) (by simp) (H.heap.size+1) (by simp) ?_;intro c3 c2 k8 c7 c5 c4 g2;have d5:=Z (b6.b.h8 (i:=0) rfl ((ah [] H).d _) c7 c5 c4 (by simp));clear c7 c5 c4 g2));refine(jo o (by omega) (by omega) _).mono ?_;rintro a9 k9 ⟨rfl,h8⟩;have a4:=Z (d5.b.h h8);have g4:=ju o (by omega) (by omega);have a0:=Z (b7.b.symm.trans b8.b);unfold wS at a0;unfold bB at g4 a0;generalize Lib.itoa o=M at *
        have k4:¬(9223372036854775807<x.length+5):=by omega
        have k5:¬(9223372036854775807<x.length+5+M.length):=by omega
        have k6:¬(9223372036854775807<x.length+5+M.length+2):=by omega
        go_wp2_with fail;refine(ga a4.b.J 2 [99,97,115,101]).mono ?_;rintro a9 b5 ⟨rfl,rfl⟩;cases b3:ax (ab t 4 [58] I) 2 [99,97,115,101]with
        |true=>
         have k2:n.length<12:=by
          rcases Yj n.length 12 with y|y
          .exact y
          .have G:=rt (n:=n.length) (m:=12) (by omega) A;exact absurd (Be b3) (by rw[(e5.b G).1];exact G)
         have a5:U (bT t j (14-(n++[o]).length) (n++[o]) (x++[99,97,115,101,32]++M++[58,32]) (ab t 4 [58] I)=bT t j (14-w.length) w [] a):=Z (a0.b.trans (by rw[Y9 b3])).symm;have e2:U ((ab t 4 [58] I).e=a.e):=Z e6.b;go_wp2;refine⟨⟨some ⟨c3,0,none⟩,c2,n++[o],x++[99,97,115,101,32]++M++[58,32],ab t 4 [58] I,by simp,?_,by simp;omega,by simp;omega,?_,a5,e2⟩,by simp[jx];omega⟩
         .exact Yo Value.string (fo (by simp))
         .have:=a4.b;simp only[List.set]at this;exact Z (by simpa using this)
        |false=>
         have a5:U (bT t j (14-w.length) w [] a=((n++[o],x++[99,97,115,101,32]++M++[58,32]),ab t 4 [58] I)):=Z (a0.b.trans (by rw[Y2 (by simp[b3])]));go_wp2;go_ret2;rw[a5.b];refine⟨.slice (some ⟨c3,0,none⟩) (n.length+1) c2,?_,a4.b,by simp;omega,by simp;omega⟩;simp;exact fo (by simp)
  .have f2:(A.s.e==0)=false:=by rw[Yi];exact a1
   have d6:U (bT t j (14-w.length) w [] a=((n,x),A)):=Z (b7.b.symm.trans (zW a1));go_wp2;go_ret2;rw[d6.b];exact⟨_,rfl,a6.b,by simp;omega,by simp;omega⟩
variable {X o : Nat -> Prop} {d b N' : Nat} {t : List UInt8} {a j : ac} {c f k l q : World} {g : PV} {L : List Th} {i : Nat} {h p : Th}
def aD.nil(i:aD X d t b a L f c):aD X d t b a (cV (.slice none 0 0) []::L) f c:=by
 refine⟨i.J.a9 ?_,i.fr,?_,?_,?_⟩
 .rintro m (h|⟨g,e,h⟩)
  .exact Y8 h
  .rcases Yg.1 e with rfl|e
   .simp[Th.bb,Value.ownBlock]at h
   .exact Ya ⟨g,e,h⟩
 .intro g e;rcases Yg.1 e with rfl|e
  .exact ta c
  .exact i.m g e
 .intro g e m h;rcases Yg.1 e with rfl|e
  .simp[Th.bb,Value.ownBlock]at h
  .exact i.E g e m h
 .intro k l g p r e j q n o;cases k with
  |zero=>simp at e;subst e;simp[Th.bb,Value.ownBlock]at n
  |succ k=>
   cases l with
   |zero=>simp at j;subst j;simp[Th.bb,Value.ownBlock]at o
   |succ l=>exact i.b7 k l g p (by omega) (by simpa using e) (by simpa using j) q n o
def aD.j9(i:aD X d t b a L f c):aD X d t b a (bD (.slice none 0 0) []::L) f c:=by
 refine⟨i.J.a9 ?_,i.fr,?_,?_,?_⟩
 .rintro m (h|⟨g,e,h⟩)
  .exact Y8 h
  .rcases Yg.1 e with rfl|e
   .simp[Th.bb,Value.ownBlock]at h
   .exact Ya ⟨g,e,h⟩
 .intro g e;rcases Yg.1 e with rfl|e
  .exact DC c
  .exact i.m g e
 .intro g e m h;rcases Yg.1 e with rfl|e
  .simp[Th.bb,Value.ownBlock]at h
  .exact i.E g e m h
 .intro k l g p r e j q n o;cases k with
  |zero=>simp at e;subst e;simp[Th.bb,Value.ownBlock]at n
  |succ k=>
   cases l with
   |zero=>simp at j;subst j;simp[Th.bb,Value.ownBlock]at o
   |succ l=>exact i.b7 k l g p (by omega) (by simpa using e) (by simpa using j) q n o
def aD.jm{j:Th}(m:aD X d t b a (h::j::L) f c):aD X d t b a (j::h::L) f c:=by
 have o:∀e,e∈j::h::L->e∈h::j::L:=by
  intro e i;simp only[Yg]at i ⊢;rcases i with l|l|l
  .exact Ya (Y8 l)
  .exact Y8 l
  .exact Ya (Ya l)
 refine⟨m.J.a9 ?_,m.fr,λe i=>m.m e (o e i),λe i=>m.E e (o e i),?_⟩
 .rintro x (n|⟨e,i,n⟩)
  .exact Y8 n
  .exact Ya ⟨e,o e i,n⟩
 .intro g s e q y i r;have p:∀g:Nat,∃k,(g=0->k=1)/\(g=1->k=0)/\(g≠0->g≠1->k=g)/\(j::h::L)[g]? = (h::j::L)[k]?:=by
   intro g;match g with
   |0=>exact⟨1,by simp⟩
   |1=>exact⟨0,by simp⟩
   |g+2=>exact⟨g+2,by simp⟩
  obtain⟨k,z,A,B,v⟩:=p g;obtain⟨u,C,D,E,w⟩:=p s;exact m.b7 k u e q (by omega) (v▸i) (w▸r)
def oB{o p:Value}(g:bc)(m:aD X d t b a (cV o g.a0::cV p g.bY::L) f c)(w:b<=1000000000):Calls prog 46 #[.pointer (some ⟨d,0,none⟩),.agg #[.int .i64 g.f,.int .i64 g.n,.int .i64 g.of,o,p,.int .i64 g.eV,.string ⟨g.a8.toArray⟩,.int .i64 g.m]] c λq k=>q=.returned (.int .i64 a.e.length)/\aD X d t (b+1) (bJ g a) L f k:=by
 refine(CJ (X:=gR X L) m.J ?_ g o p (m.a7 (i:=0) rfl) (m.a7 (i:=1) rfl) ?_ w).mono ?_
 .rintro j (e|⟨h,l,e⟩)
  .exact Y8 e
  .exact Ya ⟨h,by simp[l],e⟩
 .intro j e;have s:∀(i:Nat) h,(i=0\/i=1)->(cV o g.a0::cV p g.bY::L)[i]? = some h->h.bb=some j->¬gR X L j:=by
   rintro i h D l r (A|⟨u,x,y⟩)
   .exact m.E h (Yh l) j r A
   .obtain⟨B,z⟩:=List.getElem?_of_mem x;exact m.b7 i (B+2) h u (by omega) l (by simpa using z) j r y
  rcases e with e|e
  .exact⟨qR (i:=0) rfl e,s 0 _ (Y8 rfl) rfl e⟩
  .exact⟨qR (i:=1) rfl e,s 1 _ (Ya rfl) rfl e⟩
 .rintro q E ⟨rfl,C,v⟩;refine⟨rfl,m.az.az.call ⟨C,v.a9 ?_⟩⟩;rintro j _ (e|⟨h,l,e⟩)
  .exact Y8 e
  .exact Ya ⟨h,by simp[l],e⟩
def pC(t:List UInt8)(d:List Int)(f:List UInt8)(c:ee)(b:Int)(a:ac):Bool×List Int×List UInt8×ac:=
 if a.s.e≠0 then (true,d,f,a)
 else if ax (dA c.text b a) 4 [44]=true then dh t (13-(d++[b]).length) (d++[b]) (f++c.text++[32,61,32]++bB b++[44,32]) (aI t (dA c.text b a))else (false,d++[b],f++c.text++[32,61,32]++bB b,dA c.text b a)
def Hz{d:List Int}{f:List UInt8}{c:ee}{b:Int}(g:a.s.e=0):pC t d f c b a=if ax (dA c.text b a) 4 [44]=true then dh t (13-(d++[b]).length) (d++[b]) (f++c.text++[32,61,32]++bB b++[44,32]) (aI t (dA c.text b a))else (false,d++[b],f++c.text++[32,61,32]++bB b,dA c.text b a):=by
 unfold pC;rw[Y2 (by simpa using g)]
def pB{b:Nat}{c:List Int}{d:List UInt8}(f:a.s.e≠0):dh t b c d a=(false,c,d,a):=by
 cases b with
 |zero=>rfl
 |succ b=>unfold dh;rw[Y9 f]
def Hy{nums:List Int}{out:List UInt8}{b:ee×ac}{v:(Int×Int)×ac}(e:a.s.e=0)(h:nums.length<=12)(f:aG t 2 (ar (ar nums.length 12 a).D 40 (ar nums.length 12 a))=b)(g:aV t (-2147483648) 2147483647 (ab t 4 [61] b.2)=v):dh t (13-nums.length) nums out a=pC t nums out b.1 v.1.1 (fH nums v.1.1 v.1.2 v.2):=by
 have c:13-nums.length=(12-nums.length)+1:=by omega
 have d:13-(nums++[v.1.1]).length=12-nums.length:=by simp
 unfold pC;rw[d,c];rw[dh,Y2 (by simpa using e)];simp only[f,g];rfl
def oh(t:List UInt8)(b:List UInt8)(a:Bool×List Int×List UInt8×ac):ac:=
 if a.1=true then a.2.2.2
 else dV (a.2.2.1++[32,125,59,10]) (cX b (ab t 4 [59] (ab t 4 [125] a.2.2.2)).e.length (bJ ⟨5,0,0,a.2.1,[],0,[],0⟩ (ab t 4 [59] (ab t 4 [125] a.2.2.2))))
def AC{d:List UInt8}{b:List Int}{c:List UInt8}{a:ac}:oh t d (false,b,c,a)=dV (c++[32,125,59,10]) (cX d (ab t 4 [59] (ab t 4 [125] a)).e.length (bJ ⟨5,0,0,b,[],0,[],0⟩ (ab t 4 [59] (ab t 4 [125] a)))):=rfl
def AD{d:List UInt8}{b:List Int}{c:List UInt8}{a:ac}:oh t d (true,b,c,a)=a:=rfl
def HC(i5:bt X d t b a c)(j2:b+100000<=1000000000):Calls prog 87 #[.pointer (some ⟨d,0,none⟩)] c (GP X d t (b+100000) (gD t a) (.tuple #[]) c):=by
 have f6:=Z (iF i5);obtain⟨i2,h0,h8,h9,i0⟩:=info_parts om;have i1:(Value.int .i64 0).cells.size=1:=rfl;go_in;go_wp2_with fail;refine aA f6 (cB · 2 [101,110,117,109]) λl G=>?_;go_wp2_with fail;refine(re G.b.J 2 (by omega)).mono ?_;rintro F c9 ⟨rfl,c8,S,a8⟩;have H:=Z (G.b.call ⟨c8,S⟩);generalize c7:aG t 2 _=a1 at *
 obtain⟨n,f5⟩:=a1;have g2:=Z c7;simp only at H a8;have b7:=Z (H.b.d (oW n));go_wp2_with fail;refine aA b7 (cB · 4 [123]) λk9 a3=>?_;obtain⟨a9,b0,b1,b2,b3,b4,b5,b6⟩:=a3.b.r (i:=0) rfl;have j8:¬(9223372036854775807<5+n.text.length):=by omega
 have j9:¬(9223372036854775807<5+n.text.length+3):=by omega
 have a5:U (gD t a=oh t n.text (dh t 13 [] ([101,110,117,109,32]++n.text++[32,123,32]) (ab t 4 [123] f5))):=by
  show _=_;unfold gD oh;simp only[g2.b]
 generalize j3:ab t 4 [123] f5=d1 at *
 have w:=Z (a3.b.nil);go_wp2;go_loopw [3,4] (λa0 v j0=>∃(gQ:Option Addr) (O:Nat) (f:List Int) (h:List UInt8) (j:ac),v=.slice gQ f.length O/\a0=.string ⟨h.toArray⟩/\f.length<=12/\h.length<=2100+2100*f.length/\U (aD X d t (b+1+2*f.length) j [cV (.slice gQ f.length O) f,.obj c9.heap.size (oW n)] c j0)/\U (dh t (13-f.length) f h j=dh t 13 [] ([101,110,117,109,32]++n.text++[32,123,32]) d1)) (λ_ v _=>14-jx v)
 case atStart=>exact⟨none,0,[],[101,110,117,109,32]++n.text++[32,123,32],d1,rfl,Yo Value.string (fo (by simp)),by simp,by simp;omega,w,Z rfl⟩
 case round=>
  obtain⟨gQ,O,f,h,u,rfl,rfl,h1,j6,c3,a4⟩:=hrel;obtain⟨g,q⟩:=c3.b.J;obtain⟨d4,d9,e0,e1,e2,e3,e4,e5,e6,d5,a6,d6,c5,d7,d8,z,R⟩:=q.r;by_cases a7:u.s.e=0
  .have g7:(u.s.e==0)=true:=by rw[a7];rfl
   have g1:=Z a7;go_wp2_with fail;refine aA c3 (kC · f.length 12) λl0 G=>?_;obtain⟨g,q⟩:=G.b.J;obtain⟨-,-,-,-,-,-,-,-,-,-,-,-,c5,-,-,z,R⟩:=q.r;go_wp2_with fail;refine aA G (kC · (ar f.length 12 u).D 40) λl1 d3=>?_;have f3:=(Dp (ar f.length 12 u).D 40 (ar f.length 12 u)).a (oE (t:=t) 2 _);go_wp2_with fail;have j5:=a8;refine(re d3.b.J 2 (by omega)).mono ?_;rintro F l2 ⟨rfl,c8,S,a8⟩;have H:=Z (d3.b.call ⟨c8,S⟩);generalize c7:aG t 2 (ar (ar f.length 12 u).D 40 (ar f.length 12 u))=a1 at *
   obtain⟨p,d0⟩:=a1;have g3:=Z c7;simp only at H a8;(try simp only at f3);have b7:=Z (H.b.d (oW p));go_wp2_with fail;refine aA b7 (cB · 4 [61]) λj1 a3=>?_;go_wp2_with fail;refine aA a3 (tT · (-2147483648) 2147483647 (by omega)) λk4 w=>?_;have h6:=sa (t:=t) (-2147483648) 2147483647 (ab t 4 [61] d0);have N:=Z (Hy (t:=t) (nums:=f) (out:=h) g1.b h1 g3.b rfl);have f4:=Z (f3.a ((aO (t:=t) 4 [61] d0).a (gY (t:=t) (-2147483648) 2147483647 _)));(try simp only at N);generalize aV t (-2147483648) 2147483647 (ab t 4 [61] d0)=a1 at *
   obtain⟨⟨k,x⟩,o⟩:=a1;simp only at w h6 N f4;have g4:=Z (sY (dQ.bk (w.b.a7 (i:=1) rfl)) (by omega) k);go_wp2_with fail;refine g4.b.mono ?_;rintro F k5 ⟨rfl,h7⟩;subst h7;obtain⟨g,q⟩:=w.b.J;obtain⟨-,-,-,-,-,-,-,-,-,-,a6,-,-,-,-,z,R⟩:=q.r;by_cases r:o.s.e=0
   .have g8:(o.s.e==0)=true:=by rw[r];rfl
    have g9:(o.s.e != 0)=false:=by rw[r];rfl
    cases e8:f.contains k with
    |true=>
     have P:fH f k x o=bo 6 x o:=by unfold fH;rw[Y9 ⟨r,e8⟩]
     have f1:(bo 6 x o).s.e≠0:=by simp[bo,hl,r]
     have A:=Z (a5.b.trans (Yo (oh t n.text) (a4.b.symm.trans (N.b.trans (by rw[P];unfold pC;rw[Y9 f1]:_=(true,f,h,bo 6 x o))))));go_wp2_with fail;refine aA w (iP · 6 x) λC I=>?_;generalize bo 6 x o=D at *
     have j4:(D.s.e != 0)=true:=by simpa using f1
     obtain⟨g,q⟩:=I.b.J;obtain⟨-,-,-,-,-,-,-,-,-,-,a6,-,-,-,-,z,R⟩:=q.r;go_wp2;go_end0;rw[A.b,AD];exact⟨rfl,(I.b.L (by omega)).fin⟩
    |false=>
     have P:fH f k x o=o:=by unfold fH;rw[Y2 (λB=>by rw[e8]at B;exact absurd B.2 (by simp))]
     have j7:f.length<12:=by
      rcases Yj f.length 12 with B|B
      .exact B
      .have z:=rt (n:=f.length) (m:=12) (by omega) u;exact absurd r (by rw[(f4.b z).1];exact z)
     have A:=Z (a4.b.symm.trans (N.b.trans ((Yo (pC t f h p k) P).trans (Hz r))));obtain⟨a9,b0,b1,b2,b3,b4,b5,b6⟩:=w.b.r (i:=0) rfl;go_wp2_with fail;refine aA w (Bl · p.text k (by omega)) λC I=>?_;generalize dA p.text k o=D at *
     have h5:U (∀a0,(C.alloc a0).ownsRow 0 3 1 (.slice gQ f.length O) f.length (f.map (Value.int .i64))):=Z (λa0=>aX (I.b.a7 (i:=1) rfl) ((ah [] C).d a0) (by simp));have h3:f.length+1<=maxLen:=by unfold maxLen;omega
     go_wp2_with (at_builtin;go_must (refine wpList_append_lies _ (by rfl) _ _ _ (by rfl) 0 3 i2 _ 1 8 underlying24 h0 h8 h9 i0 i1 (by omega) (.slice gQ f.length O) f.length (f.map (Value.int .i64)) (by rfl) (h5.b _) ⟨C.heap.size,0,none⟩ 1 1 [.int .i64 k] (by rfl) (by rfl) (World.news_of_block (cs:=#[.int .i64 k]) (t:=3) (fr:=(0,0)) (heap_alloc_new C _)) (by simp[Value.oneCell']) (by omega) h3 (by omega) (by simp) (C.heap.size+1) (by simp) ?_;intro g6 g5 k6 f2 e9 e7 h2;have f8:=Z (I.b.h8 (i:=1) rfl ((ah [] C).d _) f2 e9 e7 (by simp));clear f2 e9 e7 h2));refine(jo k (by omega) (by omega) _).mono ?_;rintro F k7 ⟨rfl,S⟩;have b8:=Z (f8.b.h S);have h4:=ju k (by omega) (by omega);unfold bB at h4 A;generalize Lib.itoa k=y at *
     obtain⟨a9,b0,b1,b2,b3,b4,b5,b6⟩:=b8.b.r (i:=0) rfl;have k0:¬(9223372036854775807<h.length+p.text.length):=by omega
     have k1:¬(9223372036854775807<h.length+p.text.length+3):=by omega
     have k2:¬(9223372036854775807<h.length+p.text.length+3+y.length):=by omega
     go_wp2_with fail;refine(ga b8.b.J 4 [44]).mono ?_;rintro F j1 ⟨rfl,rfl⟩;have d2:=Z (b8.b.az);cases f0:ax D 4 [44]with
     |true=>
      have g0:U (dh t (13-(f++[k]).length) (f++[k]) (h++p.text++[32,61,32]++y++[44,32]) (aI t D)=dh t 13 [] ([101,110,117,109,32]++n.text++[32,123,32]) d1):=Z (A.b.trans (by rw[Y9 f0])).symm;go_wp2_with fail;refine aA d2 (gG ·) λk8 f7=>?_;have k3:¬(9223372036854775807<h.length+p.text.length+3+y.length+2):=by omega
      go_wp2;refine⟨⟨some ⟨g6,0,none⟩,g5,f++[k],h++p.text++[32,61,32]++y++[44,32],aI t D,by simp,?_,by simp;omega,by simp;omega,?_,g0⟩,by simp[jx];omega⟩
      .exact Yo Value.string (fo (by simp))
      .have:=f7.b.L (N':=b+1+2*(f++[k]).length) (by simp;omega);exact Z (by simpa using this)
     |false=>
      have c2:=Z (a5.b.trans ((Yo (oh t n.text) (A.b.trans (by rw[Y2 (by simp[f0])]:_=(false,f++[k],h++p.text++[32,61,32]++y,D)))).trans AC));go_wp2_with fail;refine aA d2 (cB · 4 [125]) λi6 b9=>?_;go_wp2_with fail;refine aA b9 (cB · 4 [59]) λi7 c0=>?_;have c1:=Z (c0.b);generalize ab t 4 [59] (ab t 4 [125] D)=E at *
      go_wp2_with fail;refine(oB (L:=[.obj c9.heap.size (oW n)]) ⟨5,0,0,f++[k],[],0,[],0⟩ (c1.b.nil.jm) (by omega)).mono ?_;rintro F i8 ⟨rfl,c4⟩;have J:=Z c4;obtain⟨a9,b0,b1,b2,b3,b4,b5,b6⟩:=J.b.r (i:=0) rfl;go_wp2_with fail;refine aA J (oI · n.text E.e.length (by omega)) λi9 M=>?_;generalize cX n.text E.e.length (bJ ⟨5,0,0,f++[k],[],0,[],0⟩ E)=a2 at *
      obtain⟨g,q⟩:=M.b.J;obtain⟨d4,d9,e0,e1,e2,e3,e4,e5,e6,d5,a6,d6,c5,d7,d8,z,R⟩:=q.r;have c6:=q.aP;unfold ac.sz at c6;have i3:¬(9223372036854775807<a2.b.length+(h.length+p.text.length+3+y.length)):=by omega
      have i4:¬(9223372036854775807<a2.b.length+(h.length+p.text.length+3+y.length)+4):=by omega
      go_wp2;go_end0;rw[c2.b];exact⟨rfl,((M.b.e4 (K:=50000) (s:=h++p.text++[32,61,32]++y++[32,125,59,10]) (fo (by simp)) (by simp;omega)).L (by omega)).fin⟩
   .have g8:(o.s.e==0)=false:=by rw[Yi];exact r
    have g9:(o.s.e != 0)=true:=by simpa using r
    have P:fH f k x o=o:=by unfold fH;rw[Y2 (λB=>r B.1)]
    have A:=Z (a5.b.trans (Yo (oh t n.text) (a4.b.symm.trans (N.b.trans (by rw[P];unfold pC;rw[Y9 r]:_=(true,f,h,o))))));go_wp2;go_end0;rw[A.b,AD];exact⟨rfl,(w.b.L (by omega)).fin⟩
  .have g7:(u.s.e==0)=false:=by rw[Yi];exact a7
   have f9:=Z (a4.b.symm.trans (pB a7));have c2:=Z (a5.b.trans ((Yo (oh t n.text) f9.b).trans AC));go_wp2_with fail;refine aA c3 (cB · 4 [125]) λi6 b9=>?_;go_wp2_with fail;refine aA b9 (cB · 4 [59]) λi7 c0=>?_;have c1:=Z (c0.b);generalize ab t 4 [59] (ab t 4 [125] u)=E at *
   go_wp2_with fail;refine(oB (L:=[.obj c9.heap.size (oW n)]) ⟨5,0,0,f,[],0,[],0⟩ (c1.b.nil.jm) (by omega)).mono ?_;rintro F i8 ⟨rfl,c4⟩;have J:=Z c4;obtain⟨a9,b0,b1,b2,b3,b4,b5,b6⟩:=J.b.r (i:=0) rfl;go_wp2_with fail;refine aA J (oI · n.text E.e.length (by omega)) λi9 M=>?_;generalize cX n.text E.e.length (bJ ⟨5,0,0,f,[],0,[],0⟩ E)=a2 at *
   obtain⟨g,q⟩:=M.b.J;obtain⟨d4,d9,e0,e1,e2,e3,e4,e5,e6,d5,a6,d6,c5,d7,d8,z,R⟩:=q.r;have c6:=q.aP;unfold ac.sz at c6;have i3:¬(9223372036854775807<a2.b.length+h.length):=by omega
   have i4:¬(9223372036854775807<a2.b.length+h.length+4):=by omega
   go_wp2;go_end0;rw[c2.b];exact⟨rfl,((M.b.e4 (K:=50000) (s:=h++[32,125,59,10]) (fo (by simp)) (by simp;omega)).L (by omega)).fin⟩
variable {f l : Nat -> Prop} {d c N' : Nat} {t : List UInt8} {b h : ac} {g q p k u : World} {j : PV} {L : List Th} {i : Nat} {a o : Th}
def yV(t:List UInt8)(c:List Int)(e:List (List UInt8))(d:List UInt8)(a:jb)(b:ac):List Int×List UInt8×ac:=
 if ax b 4 [125]=true then (c++[a.r],d++a.cW++a.x.text++a.dR++[59,32],b)
 else dI t (14-(c++[a.r]).length) (c++[a.r]) (e++[a.x.text]) (d++a.cW++a.x.text++a.dR++[59,32]) b
def tP{a:Nat}{d:List Int}{g:List (List UInt8)}{c:List UInt8}(f:b.s.e≠0):dI t a d g c b=(d,c,b):=by
 cases a with
 |zero=>rfl
 |succ a=>unfold dI;rw[Y9 f]
def Ql{a:List Int}{names:List (List UInt8)}{out:List UInt8}{c:jb×ac}(f:b.s.e=0)(h:a.length<=13)(g:bQ t names false (ar a.length 12 b)=c):dI t (14-a.length) a names out b=yV t a names out c.1 (ab t 4 [59] c.2):=by
 have d:14-a.length=(13-a.length)+1:=by omega
 have e:14-(a++[c.1.r]).length=13-a.length:=by simp
 unfold yV;rw[e,d];rw[dI,Y2 (by simpa using f)];simp only[g]
def wg(t:List UInt8)(b:List UInt8)(a:List Int×List UInt8×ac):ac:=
 dV (a.2.1++[125,59,10]) (cX b (ab t 4 [59] (ab t 4 [125] a.2.2)).e.length (bJ ⟨12,0,0,[],a.1,0,[],0⟩ (ab t 4 [59] (ab t 4 [125] a.2.2))))
def Qs(j2:bt f d t c b g)(k6:c+100000<=1000000000):Calls prog 88 #[.pointer (some ⟨d,0,none⟩)] g (GP f d t (c+100000) (gt t b) (.tuple #[]) g):=by
 have g4:=Z (iF j2);obtain⟨i6,h6,i2,i3,i4⟩:=info_parts om;have i5:(Value.int .i64 0).cells.size=1:=rfl;obtain⟨j3,j4,j5,j6,j7⟩:=info_parts pI;have j8:(Value.string ⟨#[]⟩).cells.size=1:=rfl;go_in;go_wp2_with fail;refine aA g4 (cB · 2 [115,116,114,117,99,116]) λk G=>?_;go_wp2_with fail;refine(re G.b.J 2 (by omega)).mono ?_;rintro b4 b6 ⟨rfl,c8,c7,g1⟩;have b1:=Z (G.b.call ⟨c8,c7⟩);generalize i0:aG t 2 _=c9 at *
 obtain⟨q,g3⟩:=c9;have g8:=Z i0;simp only at b1 g1;have b2:=Z (b1.b.d (oW q));go_wp2_with fail;refine aA b2 (cB · 4 [123]) λl8 H=>?_;obtain⟨a2,a3,a4,a5,a6,a7,a8,a9⟩:=H.b.r (i:=0) rfl;have l1:¬(9223372036854775807<7+q.text.length):=by omega
 have l2:¬(9223372036854775807<7+q.text.length+3):=by omega
 have d4:U (gt t b=wg t q.text (dI t 14 [] [] ([115,116,114,117,99,116,32]++q.text++[32,123,32]) (ab t 4 [123] g3))):=by
  show _=_;unfold gt wg;simp only[g8.b]
 generalize k7:ab t 4 [123] g3=d0 at *
 have J:=Z (H.b.j9.nil);go_wp2;go_loopw [3,4,5] (λz v j9 k4=>∃(gQ:Option Addr) (C:Nat) (s:Option Addr) (u:Nat) (l:List Int) (o:List (List UInt8)) (p:List UInt8) (h:ac),v=.slice gQ l.length C/\j9=.slice s o.length u/\z=.string ⟨p.toArray⟩/\l.length<=13/\U (o.length=l.length)/\(h.s.e=0->l.length<=12)/\p.length<=2100+5000*l.length/\U (aD f d t (c+1+3*l.length) h [cV (.slice gQ l.length C) l,bD (.slice s o.length u) o,.obj b6.heap.size (oW q)] g k4)/\U (dI t (14-l.length) l o p h=dI t 14 [] [] ([115,116,114,117,99,116,32]++q.text++[32,123,32]) d0)) (λ_ v _ _=>15-jx v)
 case atStart=>exact⟨none,0,none,0,[],[],[115,116,114,117,99,116,32]++q.text++[32,123,32],d0,rfl,rfl,Yo Value.string (fo (by simp)),by simp,Z rfl,by simp,by simp;omega,J,Z rfl⟩
 case round=>
  obtain⟨gQ,C,s,u,l,o,p,A,rfl,rfl,rfl,h9,b5,h7,l0,c1,d3⟩:=hrel;obtain⟨j,D⟩:=c1.b.J;obtain⟨d6,e3,e4,e5,e6,e7,e8,e9,f0,d7,d8,d9,e0,e1,e2,R,f3⟩:=D.r;by_cases P:A.s.e=0
  .have h5:(A.s.e==0)=true:=by rw[P];rfl
   have g6:=Z P;have k8:=h7 P;go_wp2_with fail;refine aA c1 (kC · l.length 12) λk5 G=>?_;have k9:=g1;go_wp2_with fail;have h3:km (.slice s o.length u) o k5:=G.b.a7 (i:=1) (a:=bD (.slice s o.length u) o) rfl;have h4:∀c2,(Value.slice s o.length u).ownBlock=some c2->gR f [cV (.slice gQ l.length C) l,bD (.slice s o.length u) o,.obj b6.heap.size (oW q)] c2:=λc2 c5=>qR (i:=1) (a:=bD (.slice s o.length u) o) rfl c5;have g9:=Z (xi G.b.J h3 h4 (by have:=b5.b;omega) false (by omega));refine g9.b.mono ?_;rintro b4 l9 ⟨rfl,c8,c7,i9,j0,j1⟩;have d1:=Z (G.b.call ⟨c8,c7⟩);have g0:=wb (t:=t) o false (ar l.length 12 A);have d5:=Z (Ql (t:=t) (names:=o) (out:=p) g6.b h9 rfl);generalize bQ t o false (ar l.length 12 A)=c9 at *
   obtain⟨⟨w,x,y,r⟩,g2⟩:=c9;simp only at d1 i9 j0 j1 g0 d5;have b1:=Z (d1.b.d (oW r));have i1:=Z (g0.a (aO (t:=t) 4 [59] g2));go_wp2_with fail;refine aA b1 (cB · 4 [59]) λI b2=>?_;generalize ab t 4 [59] g2=B at *
   have f8:U (∀z,(I.alloc z).ownsRow 0 3 1 (.slice gQ l.length C) l.length (l.map (Value.int .i64))):=Z (λz=>aX (b2.b.a7 (i:=1) (a:=cV (.slice gQ l.length C) l) rfl) ((ah [] I).d z) (by simp));have f5:l.length+1<=maxLen:=by unfold maxLen;omega
   have f6:o.length+1<=maxLen:=by have:=b5.b;unfold maxLen;omega
   have f7:(o.length+1)*16<=140737488355328:=by have:=b5.b;omega
   go_wp2_with (at_builtin;(first|(refine wpList_append_lies _ (by rfl) _ _ _ (by rfl) 0 3 i6 _ 1 8 underlying24 h6 i2 i3 i4 i5 (by omega) (.slice gQ l.length C) l.length (l.map (Value.int .i64)) (by rfl) (f8.b _) ⟨I.heap.size,0,none⟩ 1 1 [.int .i64 w] (by rfl) (by rfl) (World.news_of_block (cs:=#[.int .i64 w]) (t:=3) (fr:=(0,0)) (heap_alloc_new I _)) (by simp[Value.oneCell']) (by omega) f5 (by omega) (by simp) (I.heap.size+1) (by simp) ?_;intro h1 h0 E a0 S O c6;have H:=Z (b2.b.h8 (i:=1) rfl ((ah [] I).d _) a0 S O (by simp));clear a0 S O c6 f8 f5;(obtain⟨a2,a3,a4,a5,a6,a7,a8,a9⟩:=H.b.r (i:=0) rfl);have f9:U (∀z,(E.alloc z).ownsRow 0 9 1 (.slice s o.length u) o.length (o.map λa1=>Value.string ⟨a1.toArray⟩)):=Z (λz=>aX (H.b.a7 (i:=2) (a:=bD (.slice s o.length u) o) rfl) ((ah [] E).d z) (by simp)))|(refine wpList_append_lies _ (by rfl) _ _ _ (by rfl) 0 9 j3 _ 1 16 underlying30 j4 j5 j6 j7 j8 (by omega) (.slice s o.length u) o.length (o.map λa1=>Value.string ⟨a1.toArray⟩) (by rfl) (f9.b _) ⟨E.heap.size,0,none⟩ 1 1 [.string ⟨(r.text).toArray⟩] (by rfl) (by rfl) (World.news_of_block (cs:=#[.string ⟨(r.text).toArray⟩]) (t:=9) (fr:=(0,0)) (heap_alloc_new E _)) (by simp[Value.oneCell']) (by omega) f6 f7 (by simp) (E.heap.size+1) (by simp) ?_;intro f2 f1 l7 a0 S O c6;have J:=Z (H.b.g0 (i:=2) rfl ((ah [] E).d _) a0 S O (by simp));clear a0 S O c6 f9 f6 f7;(clear a2 a3 a4 a5 a6 a7 a8 a9;obtain⟨a2,a3,a4,a5,a6,a7,a8,a9⟩:=J.b.r (i:=0) rfl;have l3:¬(9223372036854775807<p.length+x.length):=(by omega);have l4:¬(9223372036854775807<p.length+x.length+r.text.length):=(by omega);have l5:¬(9223372036854775807<p.length+x.length+r.text.length+y.length):=(by omega);have l6:¬(9223372036854775807<p.length+x.length+r.text.length+y.length+2):=(by omega)))));have d2:=Z J.b.az;refine(ga J.b.J 4 [125]).mono ?_;rintro b4 E ⟨rfl,rfl⟩;have b3:=Z (d3.b.symm.trans d5.b);unfold yV at b3;simp only at b3;cases f4:ax B 4 [125]with
   |true=>
    have b9:=Z (d4.b.trans (Yo (wg t q.text) (b3.b.trans (by rw[Y9 f4]:_=(l++[w],p++x++r.text++y++[59,32],B)))));go_wp2_with fail;refine aA d2 (cB · 4 [125]) λk0 b7=>?_;go_wp2_with fail;refine aA b7 (cB · 4 [59]) λk1 b8=>?_;have c0:U (gt t b=dV (p++x++r.text++y++[59,32]++[125,59,10]) (cX q.text (ab t 4 [59] (ab t 4 [125] B)).e.length (bJ ⟨12,0,0,[],l++[w],0,[],0⟩ (ab t 4 [59] (ab t 4 [125] B))))):=Z b9.b;generalize ab t 4 [59] (ab t 4 [125] B)=F at *
    go_wp2_with fail;refine(oB (L:=[bD (.slice (some ⟨f2,0,none⟩) (o.length+1) f1) (o++[r.text]),.obj b6.heap.size (oW q)]) ⟨12,0,0,[],l++[w],0,[],0⟩ (b8.b.nil) (by omega)).mono ?_;rintro b4 k2 ⟨rfl,c3⟩;have M:=Z c3;obtain⟨a2,a3,a4,a5,a6,a7,a8,a9⟩:=M.b.r (i:=1) rfl;go_wp2_with fail;refine aA M (oI · q.text F.e.length (by omega)) λk3 N=>?_;generalize cX q.text F.e.length (bJ ⟨12,0,0,[],l++[w],0,[],0⟩ F)=b0 at *
    obtain⟨j,D⟩:=N.b.J;obtain⟨d6,e3,e4,e5,e6,e7,e8,e9,f0,d7,d8,d9,e0,e1,e2,R,f3⟩:=D.r;have c4:=D.aP;unfold ac.sz at c4;have i7:¬(9223372036854775807<b0.b.length+(p.length+x.length+r.text.length+y.length+2)):=by omega
    have i8:¬(9223372036854775807<b0.b.length+(p.length+x.length+r.text.length+y.length+2)+3):=by omega
    go_wp2;go_end0;rw[c0.b];exact⟨rfl,((N.b.e4 (K:=90000) (s:=p++x++r.text++y++[59,32]++[125,59,10]) (fo (by simp)) (by simp;omega)).L (by omega)).fin⟩
   |false=>
    have g5:U (dI t (14-(l++[w]).length) (l++[w]) (o++[r.text]) (p++x++r.text++y++[59,32]) B=dI t 14 [] [] ([115,116,114,117,99,116,32]++q.text++[32,123,32]) d0):=Z (b3.b.trans (by rw[Y2 (by simp[f4])])).symm;have h8:B.s.e=0->(l++[w]).length<=12:=by
     intro h2;rcases Yj l.length 12 with c5|c5
     .simp;omega
     .have R:=rt (n:=l.length) (m:=12) (by omega) A;exact absurd h2 (by rw[(i1.b R).1];exact R)
    have g7:U ((o++[r.text]).length=(l++[w]).length):=Z (by have:=b5.b;simp;omega);go_wp2;refine⟨⟨some ⟨h1,0,none⟩,h0,some ⟨f2,0,none⟩,f1,l++[w],o++[r.text],p++x++r.text++y++[59,32],B,by simp,by simp,?_,by simp;omega,g7,h8,by simp;omega,?_,g5⟩,by simp[jx];omega⟩
    .exact Yo Value.string (fo (by simp))
    .have:=d2.b.L (N':=c+1+3*(l++[w]).length) (by simp;omega);exact Z (by simpa using this)
  .have h5:(A.s.e==0)=false:=by rw[Yi];exact P
   have b9:=Z (d4.b.trans (Yo (wg t q.text) (d3.b.symm.trans (tP P))));go_wp2_with fail;refine aA c1 (cB · 4 [125]) λk0 b7=>?_;go_wp2_with fail;refine aA b7 (cB · 4 [59]) λk1 b8=>?_;have c0:U (gt t b=dV (p++[125,59,10]) (cX q.text (ab t 4 [59] (ab t 4 [125] A)).e.length (bJ ⟨12,0,0,[],l,0,[],0⟩ (ab t 4 [59] (ab t 4 [125] A))))):=Z b9.b;generalize ab t 4 [59] (ab t 4 [125] A)=F at *
   go_wp2_with fail;refine(oB (L:=[bD (.slice s o.length u) o,.obj b6.heap.size (oW q)]) ⟨12,0,0,[],l,0,[],0⟩ (b8.b.nil) (by omega)).mono ?_;rintro b4 k2 ⟨rfl,c3⟩;have M:=Z c3;obtain⟨a2,a3,a4,a5,a6,a7,a8,a9⟩:=M.b.r (i:=1) rfl;go_wp2_with fail;refine aA M (oI · q.text F.e.length (by omega)) λk3 N=>?_;generalize cX q.text F.e.length (bJ ⟨12,0,0,[],l,0,[],0⟩ F)=b0 at *
   obtain⟨j,D⟩:=N.b.J;obtain⟨d6,e3,e4,e5,e6,e7,e8,e9,f0,d7,d8,d9,e0,e1,e2,R,f3⟩:=D.r;have c4:=D.aP;unfold ac.sz at c4;have i7:¬(9223372036854775807<b0.b.length+p.length):=by omega
   have i8:¬(9223372036854775807<b0.b.length+p.length+3):=by omega
   go_wp2;go_end0;rw[c0.b];exact⟨rfl,((N.b.e4 (K:=90000) (s:=p++[125,59,10]) (fo (by simp)) (by simp;omega)).L (by omega)).fin⟩
variable {t : List UInt8} {a b c : ac}
structure cy(a b:ac):Prop where
 e:∃l,b.e=a.e++l/\∀r∈l,r.a0=[]/\r.bY=[]
 g:b.g=a.g
 ir:b.D=a.D/\b.j=a.j/\b.o=a.o/\b.u=a.u/\b.b=a.b
def Sm.ir(c:Sm a b):b.D=a.D/\b.j=a.j/\b.o=a.o/\b.u=a.u/\b.b=a.b:=by
 rw[c];exact⟨rfl,rfl,rfl,rfl,rfl⟩
def Sm.p(c:Sm a b):cy a b:=⟨⟨[],by rw[c.e];simp,by simp⟩,c.g,c.ir⟩
def nI(a:ac):cy a a:=⟨⟨[],by simp,by simp⟩,rfl,rfl,rfl,rfl,rfl,rfl⟩
def cy.a(p:cy a b)(t:cy b c):cy a c:=by
 obtain⟨⟨x,q,r⟩,s,f,g,h,i,j⟩:=p;obtain⟨⟨y,u,v⟩,w,k,l,m,n,o⟩:=t;refine⟨⟨x++y,by rw[u,q,YN],?_⟩,w.trans s,k.trans f,l.trans g,m.trans h,n.trans i,o.trans j⟩;intro e d;rcases Yn.1 d with d|d
 .exact r e d
 .exact v e d
def rk(b:bc)(d:b.a0=[])(e:b.bY=[])(a:ac):cy a (bJ b a):=⟨⟨[b],rfl,by intro f c;simp at c;subst c;exact⟨d,e⟩⟩,rfl,rfl,rfl,rfl,rfl,rfl⟩
def HJ(a:ac):cy a (iD t a).2:=by
 unfold iD;split
 .exact(eB a).p
 .split
  .exact(eB a).p
  .exact nI a
def xn(a:ac):cy a (ch t a).2:=by
 unfold ch;split
 .exact nI a
 .split
  .exact(eB a).p.a (rk _ rfl rfl _)
  .split
   .exact(eB a).p
   .split
    .exact(eB a).p
    .split
     .exact(eB a).p
     .split
      .exact(eB a).p.a (HJ _)
      .exact(tM a).p
def mq(b:Bool)(a:ac):Sm a (bp t b a).2:=by
 unfold bp;split
 .exact(an _ _ _).a ((fT _ _ _).a (an _ _ _))
 .simp only;split
  .exact(an _ _ _).a (an _ _ _)
  .exact(an _ _ _).a ((fT _ _ _).a (an _ _ _))
def gW(d:List (List UInt8))(all:Bool)(a:ac):Sm a (bV t d all a).2:=by
 unfold bV;simp only;generalize e:cJ t a=b;have c:Sm a b.2:=by rw[<-e];exact iX a
 generalize (if all=true then decide (0<=bz b.2 b.1.text)else d.contains b.1.text)=f
 split
 .exact c.a (vW _ _ _)
 .exact c
def HG(d:List (List UInt8))(all e:Bool)(a:ac):cy a (gq t d all e a).2:=by
 unfold gq;simp only;generalize g:bV t d all (aI t a)=f;have b:cy a f.2:=by rw[<-g];exact((eB _).a (gW _ _ _)).p
 by_cases c:ax f.2 4 [91]=true/\e=true
 .rw[Y9 c];exact b.a ((mq _ _).p.a (rk _ rfl rfl _))
 .rw[Y2 c];exact b.a ((mq _ _).p.a (rk _ rfl rfl _))
def HF(i:List (List UInt8))(all:Bool)(a:ac):cy a (gn t i all a).2:=by
 unfold gn;simp only;generalize j:ch t a=c;have e:cy a c.2:=by rw[<-j];exact xn _
 by_cases f:ax c.2 4 [42]=true
 .rw[Y9 f];exact e.a ((eB _).p.a ((gW _ _ _).p.a (rk _ rfl rfl _)))
 .rw[Y2 f];generalize k:bV t i all c.2=d;have b:cy a d.2:=by rw[<-k];exact e.a (gW _ _ _).p
  by_cases g:ax d.2 4 [91]=true
  .rw[Y9 g];exact b.a ((mq _ _).p.a (rk _ rfl rfl _))
  .rw[Y2 g];by_cases h:ax d.2 4 [60]=true
   .rw[Y9 h];exact b.a ((mq _ _).p.a (rk _ rfl rfl _))
   .rw[Y2 h];exact b
def kA(b:List (List UInt8))(all:Bool)(a:ac):cy a (bQ t b all a).2:=by
 unfold bQ;split
 .exact HG _ _ _ _
 .exact HF _ _ _
def mb(b:List (List UInt8))(a:ac):cy a (ce t b a).2:=by
 unfold ce;split
 .exact((eB a).a (an _ _ _)).p
 .exact(kA _ _ _).a (an _ _ _).p
def Pr(of:Int)(v:(Int×Int)×ac):Sm v.2 (gS of v):=by
 unfold gS;split<;>rfl
def Ps(d:List Int)(c b:Int)(a:ac):Sm a (fH d c b a):=by
 unfold fH;split<;>rfl
def PS(of:Int)(v:(Int×Int)×ac):aM v.2 (gS of v):=by
 unfold gS;split
 .exact kc _ _ _
 .exact ed _
def PT(d:List Int)(c b:Int)(a:ac):aM a (fH d c b a):=by
 unfold fH;split
 .exact kc _ _ _
 .exact ed _
def mS(of:Int):∀(d:Nat) (b:List Int) (f:List UInt8) (a:ac),Sm a (bT t of d b f a).2/\aM a (bT t of d b f a).2/\b.length<=(bT t of d b f a).1.1.length/\(a.s.e=0->0<d->b.length<(bT t of d b f a).1.1.length)/\((bT t of d b f a).2.s.e=0->0<d->(bT t of d b f a).1.1.length<=12):=by
 intro d;induction d with
 |zero=>intro b f a;exact⟨rfl,ed a,Y4 _,λ_ c=>absurd c (by omega),λ_ c=>absurd c (by omega)⟩
 |succ d x=>
  intro b f a;by_cases g:a.s.e=0
  .unfold bT;rw[Y2 (by simpa using g)];simp only;generalize o:aV t (eQ of) (eP of) (ab t 2 [99,97,115,101] (ar b.length 12 a))=v;have y:Sm a v.2:=by rw[<-o];exact(cw _ _ _).a ((an _ _ _).a (fT _ _ _))
   have z:aM (ar b.length 12 a) v.2:=by rw[<-o];exact(aO _ _ _).a (gY _ _ _)
   have i:=y.a ((Pr of v).a ((Ps b v.1.1 v.1.2 _).a (an (t:=t) 4 [58] _)));have A:=z.a ((PS of v).a ((PT b v.1.1 v.1.2 _).a (aO (t:=t) 4 [58] _)));change Sm a (ab t 4 [58] (fH b v.1.1 v.1.2 (gS of v)))at i;have q:(if(if v.2.s.e=0/\4<of/\(fC v.2 of).a0.contains v.1.1=false then bo 8 v.1.2 v.2 else v.2).s.e=0/\b.contains v.1.1=true then bo 6 v.1.2 (if v.2.s.e=0/\4<of/\(fC v.2 of).a0.contains v.1.1=false then bo 8 v.1.2 v.2 else v.2)else (if v.2.s.e=0/\4<of/\(fC v.2 of).a0.contains v.1.1=false then bo 8 v.1.2 v.2 else v.2))=fH b v.1.1 v.1.2 (gS of v):=rfl
   rw[q];generalize ab t 4 [58] (fH b v.1.1 v.1.2 (gS of v))=j at *
   have l:j.s.e=0->b.length<12:=by
    intro r;rcases Yj b.length 12 with c|c
    .exact c
    .have k:=rt (n:=b.length) (m:=12) (by omega) a;exact absurd r (by rw[(A k).1];exact k)
   by_cases h:ax j 2 [99,97,115,101]=true
   .rw[Y9 h];obtain⟨u,B,p,C,w⟩:=x (b++[v.1.1]) (f++[99,97,115,101,32]++bB v.1.1++[58,32]) j;refine⟨i.a u,λc=>absurd g c,?_,?_,?_⟩
    .rw[Yq,List.length_singleton]at p;omega
    .rw[Yq,List.length_singleton]at p;intro _ _;omega
    .intro c _;cases d with
     |zero=>
      have:=l (Be h);simp[bT];omega
     |succ d=>exact w c (by omega)
   .rw[Y2 h];refine⟨i,λc=>absurd g c,by simp,by simp,?_⟩;intro c _;have:=l c;simp;omega
  .rw[zW g];refine⟨rfl,ed a,Y4 _,λc=>absurd c g,λc=>absurd c g⟩
def ez(f:bF a)(d:cy a b):bF b:=by
 intro i c g;rw[d.g]at c;obtain⟨k,h,_⟩:=d.e;obtain⟨e,j⟩:=f i c g;rw[h,Yq];exact⟨e,by omega⟩
def pR(f:bF a)(e:Int)(g:e≠1):bF (aG t e a).2:=by
 unfold aG;have c:=ez f (iX (t:=t) a).p;split
 .exact c
 .split
  .exact ez c (vW _ _ _).p
  .intro h b d;simp only[Yn,Yc]at b;rcases b with b|rfl
   .exact c h b d
   .exact absurd d g
def mp(b:Int)(a:ac):(aG t b a).2.e=a.e:=by
 unfold aG;split
 .rfl
 .split<;>rfl
def LT(d:bF a):0<=(bR t a).1.1/\(4<(bR t a).1.1->(bR t a).1.1<a.e.length):=by
 unfold bR;split
 .split
  .exact⟨by simp,by simp⟩
  .rename_i g c;have e:0<=bz a a.s.x.text:=by
    rcases Int.lt_or_le (bz a a.s.x.text) 0 with b|b
    .exact absurd (Y8 b) c
    .exact b
   have b:(bM a).ag=1:=Classical.byContradiction λf=>c (Ya (Y8 f));have:=d _ (xZ e) b;exact⟨this.1,λ_=>this.2⟩
 .split
  .split
   .exact⟨by simp,by simp⟩
   .split
    .exact⟨by simp,by simp⟩
    .split<;>exact⟨by simp,by simp⟩
  .exact⟨by simp,by simp⟩
def LN(b:a.s.x.text.length<=2000):(bR t a).1.2.length<=2000:=by
 unfold bR;split
 .split
  .simp
  .exact b
 .split
  .split
   .simp
   .split
    .simp
    .split<;>simp
  .simp
variable {t : List UInt8} {a b d : ac}
structure ec(a b:ac):Prop where
 c:a.D<=b.D
 t:a.j<=b.j
 p:a.o.length<=b.o.length
def nG(a:ac):ec a a:=⟨Int.le_refl _,Int.le_refl _,Y4 _⟩
def ec.a(e:ec a b)(f:ec b d):ec a d:=⟨Int.le_trans e.c f.c,Int.le_trans e.t f.t,Yz e.p f.p⟩
def cy.b4(f:cy a b):ec a b:=by
 obtain⟨_,_,c,d,e,_⟩:=f;exact⟨by rw[c];exact Int.le_refl _,by rw[d];exact Int.le_refl _,by rw[e];exact Y4 _⟩
def Sm.b4(c:Sm a b):ec a b:=c.p.b4
def qZ(b:Int)(a:ac):ec a (aG t b a).2:=by
 unfold aG;split
 .exact(iX a).b4
 .split
  .exact((iX a).a (vW _ _ _)).b4
  .exact⟨Int.le_refl _,Int.le_refl _,Y4 _⟩
def Af(c:List UInt8)(b:Int)(a:ac):ec a (dA c b a)/\(dA c b a).D=a.D+1:=by
 unfold dA gs;simp only;split
 .exact⟨⟨by simp only;omega,Int.le_refl _,Y4 _⟩,rfl⟩
 .exact⟨⟨by simp only;omega,Int.le_refl _,Y4 _⟩,rfl⟩
def xb(c:List UInt8)(b:Int)(a:ac):ec a (cX c b a):=by
 unfold cX gs;split
 .exact⟨Int.le_refl _,Int.le_refl _,Y4 _⟩
 .exact nG a
def xa(b:bc)(a:ac):ec a (bJ b a):=⟨Int.le_refl _,Int.le_refl _,Y4 _⟩
def uy(b:List UInt8)(a:ac):ec a (dV b a):=⟨Int.le_refl _,Int.le_refl _,Y4 _⟩
def Gd(g:(fL t a).s.e=0):a.D+1<=(fL t a).D/\ec a (fL t a):=by
 unfold fL at *
 simp only at *
 generalize j:aG t 2 (ab t 2 [99,111,110,115,116] (ar a.D 40 a))=b at *
 have h:ec a b.2:=by rw[<-j];exact((cw _ _ _).a (an _ _ _)).b4.a (qZ _ _)
 generalize k:aV t (-2147483648) 4294967295 (ab t 4 [61] b.2)=v at *
 have f:ec a (ab t 4 [59] v.2):=by
  refine h.a ?_;rw[<-k];exact((an _ _ _).a ((fT _ _ _).a (an _ _ _))).b4
 split
 .rename_i d;rw[Y9 d]at g;exact absurd g d
 .obtain⟨l,m⟩:=Af b.1.text v.1.1 (ab t 4 [59] v.2);have i:=f.a (l.a (uy ([99,111,110,115,116,32]++b.1.text++[32,61,32]++bB v.1.1++[59,10]) _));refine⟨?_,i⟩;show a.D+1<=(dA b.1.text v.1.1 (ab t 4 [59] v.2)).D;rw[m];have:=f.c;omega
def Gp(a:ac):ec a (gf t a):=by
 unfold gf;simp only;generalize d:bQ t [] true (ab t 2 [116,121,112,101,100,101,102] a)=c;have b:ec a c.2:=by rw[<-d];exact(an _ _ _).b4.a (kA _ _ _).b4
 split
 .exact b
 .exact b.a ⟨Int.le_refl _,Int.le_refl _,Y4 _⟩
def Gn:∀(b:Nat) (d:List Int) (c:List (List UInt8)) (e:List UInt8) (a:ac),ec a (dI t b d c e a).2.2:=by
 intro b;induction b with
 |zero=>intro d c e a;exact nG a
 |succ b i=>
  intro d c e a;unfold dI;split
  .exact nG a
  .simp only;generalize h:bQ t c false (ar d.length 12 a)=g;have f:ec a (ab t 4 [59] g.2):=by rw[<-h];exact((cw _ _ _).p.a ((kA _ _ _).a (an _ _ _).p)).b4
   split
   .exact f
   .exact f.a (i _ _ _ _)
def Gm(a:ac):ec a (gt t a):=by
 unfold gt;exact(an _ _ _).b4.a ((qZ _ _).a ((an _ _ _).b4.a ((Gn _ _ _ _ _).a (((an _ _ _).a (an _ _ _)).b4.a ((xa _ _).a ((xb _ _ _).a (uy _ _)))))))
def Gg:∀(c:Nat) (b:List Int) (f:List UInt8) (a:ac),ec a (dh t c b f a).2.2.2:=by
 intro c;induction c with
 |zero=>intro b f a;exact nG a
 |succ c o=>
  intro b f a;unfold dh;split
  .exact nG a
  .simp only;generalize m:aG t 2 (ar (ar b.length 12 a).D 40 (ar b.length 12 a))=d;have j:ec a d.2:=by rw[<-m];exact((cw _ _ _).a (cw _ _ _)).b4.a (qZ _ _)
   generalize n:aV t (-2147483648) 2147483647 (ab t 4 [61] d.2)=v;have k:ec a v.2:=by rw[<-n];exact j.a ((an _ _ _).a (fT _ _ _)).b4
   generalize l:(if v.2.s.e=0/\b.contains v.1.1=true then bo 6 v.1.2 v.2 else v.2)=i
   have g:ec a i:=by rw[<-l];exact k.a (jy _ _ _ _).b4
   split
   .exact g
   .have h:=g.a (Af d.1.text v.1.1 i).1;split
    .exact h.a ((eB _).b4.a (o _ _ _))
    .exact h
def Gf(a:ac):ec a (gD t a):=by
 unfold gD;simp only;generalize g:aG t 2 (ab t 2 [101,110,117,109] a)=b;have e:ec a b.2:=by rw[<-g];exact(an _ _ _).b4.a (qZ _ _)
 generalize f:dh t 13 [] ([101,110,117,109,32]++b.1.text++[32,123,32]) (ab t 4 [123] b.2)=d;have c:ec a d.2.2.2:=by rw[<-f];exact e.a ((an _ _ _).b4.a (Gg _ _ _ _))
 split
 .exact c
 .exact c.a (((an _ _ _).a (an _ _ _)).b4.a ((xa _ _).a ((xb _ _ _).a (uy _ _))))
def Gr(of:Int):∀(c:Nat) (b f:List Int) (d:List (List UInt8)) (e:List UInt8) (a:ac),ec a (dO t of c b f d e a).2:=by
 intro c;induction c with
 |zero=>intro b f d e a;exact nG a
 |succ c h=>
  intro b f d e a;unfold dO;split
  .exact nG a
  .simp only;have g:ec a (ce t d (bT t of (14-b.length) b [] a).2).2:=(mS (t:=t) of _ b [] a).1.b4.a (mb _ _).b4;split
   .exact g.a (h _ _ _ _ _)
   .exact g
def Ge(b:List (List UInt8))(a:ac):ec a (gj t b a).2:=by
 unfold gj;split
 .exact((eB _).a (an _ _ _)).b4.a (mb _ _).b4
 .exact nG a
def Gq(a:ac):ec a (fU t a):=by
 unfold fU;exact(an _ _ _).b4.a ((qZ _ _).a (((an _ _ _).a (an _ _ _)).b4.a ((oD _).b4.a ((iX _).b4.a (((an _ _ _).a (an _ _ _)).b4.a ((Gr _ _ _ _ _ _ _).a ((Ge _ _).a (((an _ _ _).a (an _ _ _)).b4.a ((xa _ _).a ((xb _ _ _).a (uy _ _)))))))))))
def sQ(a:ac):cy a (eA t a).2:=by
 unfold eA;split
 .exact(eB a).p
 .exact xn a
def mY(b:List Int)(a:ac):cy a (bC t b a).2:=by
 unfold bC;exact((an _ _ _).a ((fT _ _ _).a ((jy _ _ _ _).a (an _ _ _)))).p
def HI:∀(b:Nat) (c:List bi) (e:List (List UInt8)) (d:List Int) (f:List UInt8) (a:ac),cy a (eX t b c e d f a).2:=by
 intro b;induction b with
 |zero=>intro c e d f a;exact nI a
 |succ b r=>
  intro c e d f a;unfold eX;split
  .exact nI a
  .simp only;generalize q:eA t (ar c.length 8 a)=j;have k:cy a j.2:=by rw[<-q];exact(cw _ _ _).p.a (sQ _)
   generalize o:bV t e false j.2=i;have l:cy a i.2:=by rw[<-o];exact k.a (gW _ _ _).p
   generalize n:eA t (ab t 4 [40] i.2)=g;have m:cy a g.2:=by rw[<-n];exact l.a ((an _ _ _).p.a (sQ _))
   generalize p:bC t d (ab t 4 [41] g.2)=s;have h:cy a s.2:=by rw[<-p];exact m.a ((an _ _ _).p.a (mY _ _))
   split
   .exact h
   .exact h.a (r _ _ _ _ _)
def AG(b:List (List UInt8))(c:List Int)(a:ac):cy a (eE t b c a).2:=by
 unfold eE;exact(an _ _ _).p.a ((gW _ _ _).p.a ((an _ _ _).p.a ((HI _ _ _ _ _ _).a ((an _ _ _).p.a (mY _ _)))))
def sR:∀(c:Nat) (d:List (List UInt8)) (b:List Int) (all:List bi) (e:List UInt8) (a:ac),cy a (ep t c d b all e a).2:=by
 intro c;induction c with
 |zero=>intro d b all e a;exact nI a
 |succ c g=>
  intro d b all e a;unfold ep;split
  .exact nI a
  .simp only;have f:cy a (eE t d b (ar b.length 4 a)).2:=(cw _ _ _).p.a (AG _ _ _);split
   .exact f
   .exact f.a (g _ _ _ _ _)
def Gk(a:ac):ec a (gr t a)/\(gr t a).o.length=a.o.length+1:=by
 have j:ec a (ab t 4 [123] (aG t 2 (ab t 2 [112,114,111,103,114,97,109] (ar a.o.length 4 a))).2):=((cw _ _ _).a (an _ _ _)).b4.a ((qZ _ _).a (an _ _ _).b4);have i:(ab t 4 [123] (aG t 2 (ab t 2 [112,114,111,103,114,97,109] (ar a.o.length 4 a))).2).o=a.o:=by
  show (aG t 2 (ab t 2 [112,114,111,103,114,97,109] (ar a.o.length 4 a))).2.o=_;have h:=((cw a.o.length 4 a).a (an (t:=t) 2 [112,114,111,103,114,97,109] _)).ir.2.2.1;unfold aG;split
  .exact h
  .split<;>exact h
 unfold gr;simp only;generalize aG t 2 (ab t 2 [112,114,111,103,114,97,109] (ar a.o.length 4 a))=b at *
 generalize k:ep t 6 [] [] [] ([112,114,111,103,114,97,109,32]++b.1.text++[32,123,32]) (ab t 4 [123] b.2)=v;have d:=sR (t:=t) 6 [] [] [] ([112,114,111,103,114,97,109,32]++b.1.text++[32,123,32]) (ab t 4 [123] b.2);rw[k]at d;have e:=d.a ((an (t:=t) 4 [125] v.2).p.a (mY (t:=t) (ab t 4 [125] v.2).o _));have f:=j.a e.b4;have g:(bC t (ab t 4 [125] v.2).o (ab t 4 [125] v.2)).2.o=a.o:=e.ir.2.2.1.trans i;refine⟨⟨f.c,f.t,?_⟩,?_⟩
 .simp[dV,g]
 .simp[dV,g]
variable {g n : Nat -> Prop} {f c N' : Nat} {t : List UInt8} {b h : ac} {d l o m p : World} {j : PV} {L : List Th} {i : Nat} {a a' : Th}
def aD.nU{a:List UInt8}{e:Nat}(h:aD g f t c b (.obj e (.cells #[.string ⟨a.toArray⟩] 9)::L) l d):aD g f t c b (bD (.slice (some ⟨e,0,none⟩) [a].length 1) [a]::L) l d:=by
 have j:=h.a4 (i:=0) (a':=bD (.slice (some ⟨e,0,none⟩) [a].length 1) [a]) rfl (ah [] d) (by simp) ⟨rfl,Ya ⟨e,1,#[.string ⟨a.toArray⟩],rfl,YV _,h.a6 (i:=0) rfl,by simp,by unfold maxLen;omega,rfl,rfl⟩⟩ (λm k=>Y8 k);exact j
def qs{of:Int}{a:Nat}{d g:List Int}{c:List (List UInt8)}{f:List UInt8}(h:b.s.e≠0):dO t of a d g c f b=((d,g,c,f),b):=by
 cases a with
 |zero=>rfl
 |succ a=>unfold dO;rw[Y9 h]
def FB(a:List (List UInt8))(b:ac):(ce t a b).1.2.2.length<=a.length+1:=by
 unfold ce;split
 .simp
 .simp
def zc(t:List UInt8)(of:Int)(e:Nat)(d:List Int)(c:List UInt8)(b:(List Int×List UInt8)×ac)(a:(Int×List UInt8×List (List UInt8))×ac):(List Int×List Int×List (List UInt8)×List UInt8)×ac:=
 if ax a.2 2 [99,97,115,101]=true then dO t of e b.1.1 (jR b.1.1.length a.1.1 d) a.1.2.2 (c++b.1.2++a.1.2.1) a.2 else ((b.1.1,jR b.1.1.length a.1.1 d,a.1.2.2,c++b.1.2++a.1.2.1),a.2)
def RA{of:Int}{k:Nat}{d parts:List Int}{f:List (List UInt8)}{out:List UInt8}{c:(List Int×List UInt8)×ac}{a:(Int×List UInt8×List (List UInt8))×ac}(g:b.s.e=0)(i:bT t of (14-d.length) d [] b=c)(h:ce t f c.2=a):dO t of (k+1) d parts f out b=zc t of k parts out c a:=by
 unfold zc;rw[dO,Y2 (by simpa using g)];simp only[i,h]
def oK(t:List UInt8)(b:List UInt8)(of:Int)(a:(List Int×List Int×List (List UInt8)×List UInt8)×ac):ac:=
 dV (a.1.2.2.2++(gj t a.1.2.2.1 a.2).1.2++[125,59,10]) (cX b (ab t 4 [59] (ab t 4 [125] (gj t a.1.2.2.1 a.2).2)).e.length (bJ ⟨13,0,of,a.1.1,a.1.2.1,(gj t a.1.2.2.1 a.2).1.1,[],0⟩ (ab t 4 [59] (ab t 4 [125] (gj t a.1.2.2.1 a.2).2))))
def RF(q2:bt g f t c b d)(ok:bF b)(o9:∀N∈b.e,N.a0.length<=1000)(r0:c+200000<=1000000000):Calls prog 89 #[.pointer (some ⟨f,0,none⟩)] d (GP g f t (c+200000) (fU t b) (.tuple #[]) d):=by
 have l3:=Z (iF q2);have m3:=Z o9;have k7:=Z (ez (pR (t:=t) (ez ok (an (t:=t) 2 [117,110,105,111,110] b).p) 2 (by decide)) (((an (t:=t) 2 [115,119,105,116,99,104] _).a (an (t:=t) 4 [40] _)).p));have q3:=Z (mp (t:=t) 2 (ab t 2 [117,110,105,111,110] b));obtain⟨p5,n8,p1,p2,p3⟩:=info_parts om;have p4:(Value.int .i64 0).cells.size=1:=rfl;go_in;go_wp2_with fail;refine aA l3 (cB · 2 [117,110,105,111,110]) λm i0=>?_;go_wp2_with fail;refine(re i0.b.J 2 (by omega)).mono ?_;rintro F b3 ⟨rfl,h1,g7,f1⟩;have i1:=Z (i0.b.call ⟨h1,g7⟩);generalize a1:aG t 2 (ab t 2 [117,110,105,111,110] b)=N at *
 obtain⟨n,a2⟩:=N;have m4:=Z a1;simp only at i1 f1;have l6:=Z (i1.b.d (oW n));have r3:=f1;go_wp2_with fail;refine aA l6 (cB · 2 [115,119,105,116,99,104]) λt6 l7=>?_;go_wp2_with fail;refine aA l7 (cB · 4 [40]) λt7 i2=>?_;have d1:U (fU t b=oK t n.text (bR t (ab t 4 [40] (ab t 2 [115,119,105,116,99,104] a2))).1.1 (dO t (bR t (ab t 4 [40] (ab t 2 [115,119,105,116,99,104] a2))).1.1 14 [] [] [(cJ t (bR t (ab t 4 [40] (ab t 2 [115,119,105,116,99,104] a2))).2).1.text] ([117,110,105,111,110,32]++n.text++[32,115,119,105,116,99,104,32,40]++(bR t (ab t 4 [40] (ab t 2 [115,119,105,116,99,104] a2))).1.2++[32]++(cJ t (bR t (ab t 4 [40] (ab t 2 [115,119,105,116,99,104] a2))).2).1.text++[41,32,123,32]) (ab t 4 [123] (ab t 4 [41] (cJ t (bR t (ab t 4 [40] (ab t 2 [115,119,105,116,99,104] a2))).2).2)))):=by
  show _=_;unfold fU oK;simp only[m4.b]
 have k8:U ((ab t 4 [40] (ab t 2 [115,119,105,116,99,104] a2)).e=b.e):=Z q3.b;generalize ab t 4 [40] (ab t 2 [115,119,105,116,99,104] a2)=l1 at *
 have f0:=LT (t:=t) k7.b;have o6:=LN (t:=t) i2.b.J.b1;have k4:=Z ((oD (t:=t) l1).e.trans k8.b);go_wp2_with fail;refine aA i2 (LS · k7.b (by omega)) λt8 g0=>?_;generalize bR t l1=q1 at *
 obtain⟨⟨of,a8⟩,l2⟩:=q1;simp only at g0 f0 o6 k4 d1;rw[k8.b]at f0;go_wp2_with fail;refine(zl g0.b.J).mono ?_;rintro F b4 ⟨⟨rfl,h1,g7⟩,f1⟩;have i3:=Z (g0.b.call ⟨h1,g7⟩);have k5:=Z ((iX (t:=t) l2).e.trans k4.b);generalize cJ t l2=wr at *
 obtain⟨y,C⟩:=wr;simp only at i3 f1 d1 k5;have l8:=Z (i3.b.d (oW y));go_wp2_with fail;refine aA l8 (cB · 4 [41]) λt2 l4=>?_;go_wp2_with fail;refine aA l4 (cB · 4 [123]) λq6 f9=>?_;have k3:U ((ab t 4 [123] (ab t 4 [41] C)).e=b.e):=Z k5.b;generalize ab t 4 [123] (ab t 4 [41] C)=h9 at *
 obtain⟨f2,d0,f3,f4,f5,f6,f7,f8⟩:=f9.b.r (i:=0) rfl;obtain⟨s4,s5,s6,s7,s8,s9,t0,t1⟩:=f9.b.r (i:=1) rfl;have r6:¬(9223372036854775807<6+n.text.length):=by omega
 have r7:¬(9223372036854775807<6+n.text.length+9):=by omega
 have r8:¬(9223372036854775807<6+n.text.length+9+a8.length):=by omega
 have r9:¬(9223372036854775807<6+n.text.length+9+a8.length+1):=by omega
 have s0:¬(9223372036854775807<6+n.text.length+9+a8.length+1+y.text.length):=by omega
 have s1:¬(9223372036854775807<6+n.text.length+9+a8.length+1+y.text.length+4):=by omega
 have l5:=Z ((f9.b.d (.cells #[.string ⟨y.text.toArray⟩] 9)).nU.nil.nil);go_wp2;go_loopw [6,7,8,9] (λc8 v c9 q7 h6=>∃(gQ:Option Addr) (c1:Nat) (d2:Option Addr) (e8:Nat) (S:Option Addr) (a0:Nat) (p u:List Int) (q:List (List UInt8)) (l:List UInt8) (h:ac) (E:Nat),v=.slice gQ p.length c1/\c9=.slice d2 u.length e8/\q7=.slice S q.length a0/\c8=.string ⟨l.toArray⟩/\p.length<=13/\U (u.length=p.length)/\U (q.length<=1+p.length)/\(h.s.e=0->p.length<=12)/\l.length<=9000+6000*p.length/\U (14<=p.length+E)/\U (4<of->of<h.e.length)/\U (∀N∈h.e,N.a0.length<=1000)/\U (aD g f t (c+1+2*p.length) h [cV (.slice gQ p.length c1) p,cV (.slice d2 u.length e8) u,bD (.slice S q.length a0) q,.obj b4.heap.size (oW y),.obj b3.heap.size (oW n)] d h6)/\U (dO t of E p u q l h=dO t of 14 [] [] [y.text] ([117,110,105,111,110,32]++n.text++[32,115,119,105,116,99,104,32,40]++a8++[32]++y.text++[41,32,123,32]) h9)) (λ_ v _ _ _=>15-jx v)
 case atStart=>exact⟨none,0,none,0,some ⟨q6.heap.size,0,none⟩,1,[],[],[y.text],[117,110,105,111,110,32]++n.text++[32,115,119,105,116,99,104,32,40]++a8++[32]++y.text++[41,32,123,32],h9,14,rfl,rfl,rfl,Yo Value.string (fo (by simp)),by simp,Z rfl,Z (by simp),by simp,by simp;omega,Z (by simp),Z (by rw[k3.b];exact f0.2),Z (by rw[k3.b];exact m3.b),l5,Z rfl⟩
 case round=>
  obtain⟨gQ,c1,d2,e8,S,a0,p,u,q,l,A,E,rfl,rfl,rfl,rfl,r1,o8,b2,n9,r2,j5,j9,k2,b1,i5⟩:=hrel;obtain⟨j,D⟩:=b1.b.J;obtain⟨d3,e0,e1,e2,e3,e4,e5,e6,e7,d4,d5,d6,d7,d8,d9,e9,c6⟩:=D.r;by_cases c5:A.s.e=0
  .have n4:(A.s.e==0)=true:=by rw[c5];rfl
   have i7:=Z c5;have o0:=n9 c5;have i4:=mS (t:=t) of (14-p.length) p [] A;have m5:=Z (Ga (b1.b.gk (i:=0) (a:=cV (.slice gQ p.length c1) p) rfl) of ⟨f0.1,j9.b⟩ k2.b o0 (by omega));go_wp2_with fail;refine m5.b.mono ?_;rintro F t3 ⟨k9,rfl,R,q0,k6⟩;obtain⟨j0,j2,g6⟩:=bX (R.m _ Yb);subst g6;have G:=Z (b1.b.b6 (i:=0) (a:=cV (.slice gQ p.length c1) p) rfl R);generalize n5:bT t of (14-p.length) p [] A=m6 at *
   have m1:=Z n5;obtain⟨⟨o,x⟩,a9⟩:=m6;simp only at G q0 k6 i4;obtain⟨m8,q8,q9,m9,n0⟩:=i4;have r4:=m9 i7.b (by omega);have o4:=λa7=>n0 a7 (by omega);have i9:U (a9.e=A.e):=Z m8.e;have b8:=Z (wH (G.b.gk (i:=2) (a:=bD (.slice S q.length a0) q) rfl) (by have:=b2.b;omega) (by omega));have b0:=Z (Yp (mb (t:=t) q a9) (Yp (wa (t:=t) q a9) (FB (t:=t) q a9)));go_wp2_with fail;refine b8.b.mono ?_;rintro F t4 ⟨d0,rfl,R,c7⟩;obtain⟨b9,c2,g6⟩:=bX (R.m _ Yb);subst g6;have M:=Z (G.b.b6 (i:=2) (a:=bD (.slice S q.length a0) q) rfl R);have i6:=Z (λE=>RA (k:=E) (parts:=u) (out:=l) i7.b m1.b (rfl:ce t q a9=_));generalize ce t q a9=c0 at *
   obtain⟨⟨J,z,r⟩,w⟩:=c0;simp only at M c7 i6 b0;go_wp2;go_loopw [8] (λc9 h6=>∃(ad:Option Addr) (j1:Nat) (k:List Int),c9=.slice ad k.length j1/\k.length<=o.length/\U (k++List.replicate (o.length-k.length) J=jR o.length J u)/\U (aD g f t (c+1+2*p.length+2) w [cV (.slice j0 o.length j2) o,cV (.slice ad k.length j1) k,bD (.slice b9 r.length c2) r,.obj b4.heap.size (oW y),.obj b3.heap.size (oW n)] d h6)) (λc9 _=>20-jx c9)
   case atStart=>exact⟨d2,e8,u,rfl,by have:=o8.b;omega,Z rfl,M⟩
   case round=>
    obtain⟨g2,g3,k,rfl,r5,i8,a3⟩:=hrel;by_cases c6:k.length<o.length
    .have o2:(k.length:Int)<(o.length:Int):=by omega
     have m2:U ((k++[J])++List.replicate (o.length-(k++[J]).length) J=jR o.length J u):=Z (by
      rw[<-i8.b,show o.length-k.length=(o.length-(k++[J]).length)+1 by simp;omega,List.replicate_succ];simp)
     have k0:U (∀c8,(wr.alloc c8).ownsRow 0 3 1 (.slice g2 k.length g3) k.length (k.map (Value.int .i64))):=Z (λc8=>aX (a3.b.a7 (i:=1) rfl) ((ah [] wr).d c8) (by simp));have j8:k.length+1<=maxLen:=by unfold maxLen;omega
     go_wp2_with (at_builtin;(refine wpList_append_lies _ (by rfl) _ _ _ (by rfl) 0 3 p5 _ 1 8 underlying24 n8 p1 p2 p3 p4 (by omega) (.slice g2 k.length g3) k.length (k.map (Value.int .i64)) (by rfl) (k0.b _) ⟨wr.heap.size,0,none⟩ 1 1 [.int .i64 J] (by rfl) (by rfl) (World.news_of_block (cs:=#[.int .i64 J]) (t:=3) (fr:=(0,0)) (heap_alloc_new wr _)) (by simp[Value.oneCell']) (by omega) j8 (by omega) (by simp) (wr.heap.size+1) (by simp) ?_;intro n1 m7 t5 k1 j6 j4 o3;have l9:=Z (a3.b.h8 (i:=1) rfl ((ah [] wr).d _) k1 j6 j4 (by simp));clear k1 j6 j4 o3 k0 j8;skip));refine⟨⟨some ⟨n1,0,none⟩,m7,k++[J],by simp,by simp;omega,m2,?_⟩,by simp[jx];omega⟩;have:=l9.b;exact Z (by simpa using this)
    .have o2:¬((k.length:Int)<(o.length:Int)):=by omega
     have n6:U (jR o.length J u=k):=Z (by rw[<-i8.b,show o.length-k.length=0 by omega];simp);have s2:¬(9223372036854775807<l.length+x.length):=by omega
     have s3:¬(9223372036854775807<l.length+x.length+z.length):=by omega
     go_wp2_with fail;refine(ga a3.b.J 2 [99,97,115,101]).mono ?_;rintro F l0 ⟨rfl,rfl⟩;obtain⟨E,rfl⟩:∃p6,E=p6+1:=⟨E-1,by have:=j5.b;omega⟩;have b6:=Z (i5.b.symm.trans (i6.b E));unfold zc at b6;simp only at b6;rw[n6.b]at b6;cases j7:ax w 2 [99,97,115,101]with
     |true=>
      have m0:U (dO t of E o k r (l++x++z) w=dO t of 14 [] [] [y.text] ([117,110,105,111,110,32]++n.text++[32,115,119,105,116,99,104,32,40]++a8++[32]++y.text++[41,32,123,32]) h9):=Z (b6.b.trans (by rw[Y9 j7])).symm;have n3:w.s.e=0->a9.s.e=0:=λa7=>Classical.byContradiction λj3=>j3 ((b0.b.2.1 j3).1.symm.trans a7);have g5:U (r.length<=1+o.length):=Z (by have:=b0.b.2.2;have:=b2.b;omega);have n7:U (14<=o.length+E):=Z (by have:=j5.b;omega);have o5:U (4<of->of<w.e.length):=Z (λa7=>by
       obtain⟨p9,g4,_⟩:=b0.b.1.e;have:=j9.b a7;rw[g4,i9.b,Yq];omega)
      have p0:U (∀N∈w.e,N.a0.length<=1000):=Z (λN a1=>by
       obtain⟨p9,g4,n2⟩:=b0.b.1.e;rw[g4,i9.b]at a1;rcases Yn.1 a1 with a1|a1
       .exact k2.b N a1
       .rw[(n2 N a1).1];simp)
      have a4:=Z (a3.b.L (N':=c+1+2*o.length) (by omega));have o7:U (k.length=o.length):=Z (by omega);have o1:(l++x++z).length<=9000+6000*o.length:=by simp;omega
      go_wp2;exact⟨⟨j0,j2,g2,g3,b9,c2,o,k,r,l++x++z,w,E,rfl,rfl,rfl,Yo Value.string (fo (by simp)),k6,o7,g5,λa7=>o4 (n3 a7),o1,n7,o5,p0,a4,m0⟩,by simp[jx];omega⟩
     |false=>
      have b7:=Z (d1.b.trans (Yo (oK t n.text of) (b6.b.trans (by rw[Y2 (by simp[j7])]:_=((o,k,r,l++x++z),w)))));have g5:U (r.length<=1+o.length):=Z (by have:=b0.b.2.2;have:=b2.b;omega);have b2:=g5;go_wp2_with fail;refine(ga a3.b.J 2 [100,101,102,97,117,108,116]).mono ?_;rintro F l0 ⟨rfl,rfl⟩;cases c4:ax w 2 [100,101,102,97,117,108,116]with
      |true=>
       go_wp2_with fail;refine aA a3 (gG ·) λk9 g1=>?_;go_wp2_with fail;refine aA g1 (cB · 4 [58]) λq4 a4=>?_;have b8:=Z (wH (a4.b.gk (i:=2) (a:=bD (.slice b9 (r).length c2) (r)) rfl) (by have:=b2.b;omega) (by omega));go_wp2_with fail;refine b8.b.mono ?_;rintro F q5 ⟨h7,rfl,R,c7⟩;have b5:=Z (a4.b.b6 (i:=2) (a:=bD (.slice b9 (r).length c2) (r)) rfl R);have O:U (fU t b=dV (l++x++z++([100,101,102,97,117,108,116,58,32]++(ce t (r) (ab t 4 [58] (aI t w))).1.2.1)++[125,59,10]) (cX n.text (ab t 4 [59] (ab t 4 [125] (ce t (r) (ab t 4 [58] (aI t w))).2)).e.length (bJ ⟨13,0,of,o,k,(ce t (r) (ab t 4 [58] (aI t w))).1.1,[],0⟩ (ab t 4 [59] (ab t 4 [125] (ce t (r) (ab t 4 [58] (aI t w))).2))))):=Z (b7.b.trans (by unfold oK gj;simp only[c4,if_true]))
       generalize ce t (r) (ab t 4 [58] (aI t w))=c0 at *
       obtain⟨⟨c3,P,h0⟩,h8⟩:=c0;simp only at b5 c7 O;have p7:¬(9223372036854775807<(l.length+x.length+z.length)+9):=by omega
       have p8:¬(9223372036854775807<(l.length+x.length+z.length)+9+P.length):=by omega
       go_wp2_with fail;refine aA b5 (cB · 4 [125]) λh2 G=>?_;go_wp2_with fail;refine aA G (cB · 4 [59]) λh3 M=>?_;generalize ab t 4 [59] (ab t 4 [125] h8)=B at *
       go_wp2_with fail;refine(oB (L:=[bD h7 h0,.obj b4.heap.size (oW y),.obj b3.heap.size (oW n)]) ⟨13,0,of,o,k,c3,[],0⟩ M.b (by omega)).mono ?_;rintro F h4 ⟨rfl,a5⟩;have H:=Z a5;obtain⟨f2,d0,f3,f4,f5,f6,f7,f8⟩:=H.b.r (i:=2) rfl;go_wp2_with fail;refine aA H (oI · n.text B.e.length (by omega)) λh5 I=>?_;generalize cX n.text B.e.length (bJ ⟨13,0,of,o,k,c3,[],0⟩ B)=C at *
       obtain⟨j,D⟩:=I.b.J;obtain⟨d3,e0,e1,e2,e3,e4,e5,e6,e7,d4,d5,d6,d7,d8,d9,e9,c6⟩:=D.r;have a6:=D.aP;unfold ac.sz at a6;have g8:¬(9223372036854775807<C.b.length+((l.length+x.length+z.length)+9+P.length)):=by omega
       have g9:¬(9223372036854775807<C.b.length+((l.length+x.length+z.length)+9+P.length)+3):=by omega
       go_wp2;go_end0;rw[O.b];exact⟨rfl,((I.b.e4 (K:=150000) (s:=l++x++z++([100,101,102,97,117,108,116,58,32]++P)++[125,59,10]) (fo (by simp)) (by simp;omega)).L (by omega)).fin⟩
      |false=>
       have O:U (fU t b=dV (l++x++z++[]++[125,59,10]) (cX n.text (ab t 4 [59] (ab t 4 [125] w)).e.length (bJ ⟨13,0,of,o,k,-2,[],0⟩ (ab t 4 [59] (ab t 4 [125] w))))):=Z (b7.b.trans (by unfold oK gj;simp only[c4,Ye,if_false]))
       go_wp2_with fail;refine aA a3 (cB · 4 [125]) λh2 G=>?_;go_wp2_with fail;refine aA G (cB · 4 [59]) λh3 M=>?_;generalize ab t 4 [59] (ab t 4 [125] w)=B at *
       go_wp2_with fail;refine(oB (L:=[bD (.slice b9 (r).length c2) (r),.obj b4.heap.size (oW y),.obj b3.heap.size (oW n)]) ⟨13,0,of,o,k,(-2),[],0⟩ M.b (by omega)).mono ?_;rintro F h4 ⟨rfl,a5⟩;have H:=Z a5;obtain⟨f2,d0,f3,f4,f5,f6,f7,f8⟩:=H.b.r (i:=2) rfl;go_wp2_with fail;refine aA H (oI · n.text B.e.length (by omega)) λh5 I=>?_;generalize cX n.text B.e.length (bJ ⟨13,0,of,o,k,(-2),[],0⟩ B)=C at *
       obtain⟨j,D⟩:=I.b.J;obtain⟨d3,e0,e1,e2,e3,e4,e5,e6,e7,d4,d5,d6,d7,d8,d9,e9,c6⟩:=D.r;have a6:=D.aP;unfold ac.sz at a6;have g8:¬(9223372036854775807<C.b.length+(l.length+x.length+z.length)):=by omega
       have g9:¬(9223372036854775807<C.b.length+(l.length+x.length+z.length)+3):=by omega
       go_wp2;go_end0;rw[O.b];exact⟨rfl,((I.b.e4 (K:=150000) (s:=l++x++z++[]++[125,59,10]) (fo (by simp)) (by simp;omega)).L (by omega)).fin⟩
  .have n4:(A.s.e==0)=false:=by rw[Yi];exact c5
   have b7:=Z (d1.b.trans (Yo (oK t n.text of) (i5.b.symm.trans (qs c5))));go_wp2_with fail;refine(ga b1.b.J 2 [100,101,102,97,117,108,116]).mono ?_;rintro F l0 ⟨rfl,rfl⟩;cases c4:ax A 2 [100,101,102,97,117,108,116]with
   |true=>
    go_wp2_with fail;refine aA b1 (gG ·) λk9 g1=>?_;go_wp2_with fail;refine aA g1 (cB · 4 [58]) λq4 a4=>?_;have b8:=Z (wH (a4.b.gk (i:=2) (a:=bD (.slice S (q).length a0) (q)) rfl) (by have:=b2.b;omega) (by omega));go_wp2_with fail;refine b8.b.mono ?_;rintro F q5 ⟨h7,rfl,R,c7⟩;have b5:=Z (a4.b.b6 (i:=2) (a:=bD (.slice S (q).length a0) (q)) rfl R);have O:U (fU t b=dV (l++([100,101,102,97,117,108,116,58,32]++(ce t (q) (ab t 4 [58] (aI t A))).1.2.1)++[125,59,10]) (cX n.text (ab t 4 [59] (ab t 4 [125] (ce t (q) (ab t 4 [58] (aI t A))).2)).e.length (bJ ⟨13,0,of,p,u,(ce t (q) (ab t 4 [58] (aI t A))).1.1,[],0⟩ (ab t 4 [59] (ab t 4 [125] (ce t (q) (ab t 4 [58] (aI t A))).2))))):=Z (b7.b.trans (by unfold oK gj;simp only[c4,if_true]))
    generalize ce t (q) (ab t 4 [58] (aI t A))=c0 at *
    obtain⟨⟨c3,P,h0⟩,h8⟩:=c0;simp only at b5 c7 O;have p7:¬(9223372036854775807<l.length+9):=by omega
    have p8:¬(9223372036854775807<l.length+9+P.length):=by omega
    go_wp2_with fail;refine aA b5 (cB · 4 [125]) λh2 G=>?_;go_wp2_with fail;refine aA G (cB · 4 [59]) λh3 M=>?_;generalize ab t 4 [59] (ab t 4 [125] h8)=B at *
    go_wp2_with fail;refine(oB (L:=[bD h7 h0,.obj b4.heap.size (oW y),.obj b3.heap.size (oW n)]) ⟨13,0,of,p,u,c3,[],0⟩ M.b (by omega)).mono ?_;rintro F h4 ⟨rfl,a5⟩;have H:=Z a5;obtain⟨f2,d0,f3,f4,f5,f6,f7,f8⟩:=H.b.r (i:=2) rfl;go_wp2_with fail;refine aA H (oI · n.text B.e.length (by omega)) λh5 I=>?_;generalize cX n.text B.e.length (bJ ⟨13,0,of,p,u,c3,[],0⟩ B)=C at *
    obtain⟨j,D⟩:=I.b.J;obtain⟨d3,e0,e1,e2,e3,e4,e5,e6,e7,d4,d5,d6,d7,d8,d9,e9,c6⟩:=D.r;have a6:=D.aP;unfold ac.sz at a6;have g8:¬(9223372036854775807<C.b.length+(l.length+9+P.length)):=by omega
    have g9:¬(9223372036854775807<C.b.length+(l.length+9+P.length)+3):=by omega
    go_wp2;go_end0;rw[O.b];exact⟨rfl,((I.b.e4 (K:=150000) (s:=l++([100,101,102,97,117,108,116,58,32]++P)++[125,59,10]) (fo (by simp)) (by simp;omega)).L (by omega)).fin⟩
   |false=>
    have O:U (fU t b=dV (l++[]++[125,59,10]) (cX n.text (ab t 4 [59] (ab t 4 [125] A)).e.length (bJ ⟨13,0,of,p,u,-2,[],0⟩ (ab t 4 [59] (ab t 4 [125] A))))):=Z (b7.b.trans (by unfold oK gj;simp only[c4,Ye,if_false]))
    go_wp2_with fail;refine aA b1 (cB · 4 [125]) λh2 G=>?_;go_wp2_with fail;refine aA G (cB · 4 [59]) λh3 M=>?_;generalize ab t 4 [59] (ab t 4 [125] A)=B at *
    go_wp2_with fail;refine(oB (L:=[bD (.slice S (q).length a0) (q),.obj b4.heap.size (oW y),.obj b3.heap.size (oW n)]) ⟨13,0,of,p,u,(-2),[],0⟩ M.b (by omega)).mono ?_;rintro F h4 ⟨rfl,a5⟩;have H:=Z a5;obtain⟨f2,d0,f3,f4,f5,f6,f7,f8⟩:=H.b.r (i:=2) rfl;go_wp2_with fail;refine aA H (oI · n.text B.e.length (by omega)) λh5 I=>?_;generalize cX n.text B.e.length (bJ ⟨13,0,of,p,u,(-2),[],0⟩ B)=C at *
    obtain⟨j,D⟩:=I.b.J;obtain⟨d3,e0,e1,e2,e3,e4,e5,e6,e7,d4,d5,d6,d7,d8,d9,e9,c6⟩:=D.r;have a6:=D.aP;unfold ac.sz at a6;have g8:¬(9223372036854775807<C.b.length+l.length):=by omega
    have g9:¬(9223372036854775807<C.b.length+l.length+3):=by omega
    go_wp2;go_end0;rw[O.b];exact⟨rfl,((I.b.e4 (K:=150000) (s:=l++[]++[125,59,10]) (fo (by simp)) (by simp;omega)).L (by omega)).fin⟩
section
variable {f:bi->bi}
variable {l u : Nat -> Prop} {h g q : Nat} {t : List UInt8} {b z : ac} {c m y n o : World} {r : PV} {d : List Th} {i : Nat} {a w : Th}
def hB:bi:=⟨0,0,0,0,0⟩
def AZ:(prog.info? 288).map (λi=>(i.zero,i.size,i.bytes))=some (some (.agg #[.int .i64 0,.int .i64 0,.int .i64 0,.int .i64 0,.int .i64 0]),5,40):=by kernel_rfl
def MB{b:List bi}{ad:Option Addr}{d e:Nat}(a:(eC (.slice ad d e) b).At c):d=b.length:=by
 have f:c.ownsRow 0 288 5 (.slice ad d e) b.length (b.flatMap eg):=a;rcases f.2 with⟨a,j⟩|⟨i,g,h,a,_⟩
 .simp at a;omega
 .simp at a;exact a.2.1
def aD.i9{n u o k j:Nat}{e:List bi}{v:Value}{p':bi}(s:aD l h t g b d m c)(r:d[i]? = some (eC (.slice (some ⟨n,0,none⟩) u o) e))(A:k<e.length)(z:j<5)(C:eg p'=(eg (e.getD k hB)).set j v):aD l h t g b (d.set i (eC (.slice (some ⟨n,0,none⟩) u o) (e.set k p'))) m (c.setCell ⟨n,k*5+j,none⟩ v):=by
 have B:=MB (s.a7 (a:=eC (.slice (some ⟨n,0,none⟩) u o) e) r);subst B;have w:c.ownsRow 0 288 5 (.slice (some ⟨n,0,none⟩) e.length o) e.length (e.flatMap eg):=s.a7 (a:=eC (.slice (some ⟨n,0,none⟩) e.length o) e) r;have D:(e.flatMap eg).length=e.length*5:=w.1;refine s.a4 r ((ah [n] c).O (p:=⟨n,k*5+j,none⟩) (by simp) v) (λy q=>by simp at q;rw[q];rfl) ?_ (λy q=>Y8 q);have x:=tA w (i:=k*5+j) (by omega) v;rw[sU (f:=eg) (k:=5) (λ_=>rfl) e k j (e.getD k hB) p' v z (by simp[A]) C]at x;show World.ownsRow _ 0 _ 5 _ (e.set k p').length _;rw[YF];exact x
def vD{a:List bi}{ad:Option Addr}{j g k:Nat}(n:(eC (.slice ad j g) a).At c)(s:k<a.length):∃b,ad=some ⟨b,0,none⟩/\(∀i,c.frozen? ⟨b,i,none⟩=false)/\b<c.heap.size/\c.cell? ⟨b,k*5,none⟩=some (.int .i64 (a.getD k hB).prog)/\c.cell? ⟨b,k*5+1,none⟩=some (.int .i64 (a.getD k hB).cv):=by
 have l:c.ownsRow 0 288 5 (.slice ad j g) a.length (a.flatMap eg):=n;have m:=λu r=>ro (f:=eg) (k:=5) (λ_=>rfl) a k u r;have h:a[k]? = some (a.getD k hB):=by simp[s]
 obtain⟨b,v,d,o,q,t⟩:=jY l (m 0 (by omega) |>.trans (by rw[h];rfl));obtain⟨x,w,e,p,_⟩:=jY l (m 1 (by omega) |>.trans (by rw[h];rfl));rw[d]at e;simp at d e;obtain⟨rfl,rfl⟩:=e;exact⟨b,d.1,q,t,o,p⟩
def aD.ko{k:List Th}(f:Nat->Nat)(u:∀e j,e<k.length->j<k.length->e≠j->f e≠f j)(p:∀e a,k[e]? = some a->d[f e]? = some a)(n:aD l h t g b d m c):aD l h t g b k m c:=by
 have q:∀a∈k,a∈d:=by
  intro a i;obtain⟨e,v⟩:=List.getElem?_of_mem i;exact Yh (p e a v)
 refine⟨n.J.a9 ?_,n.fr,λa i=>n.m a (q a i),λa i=>n.E a (q a i),?_⟩
 .rintro x (o|⟨a,i,o⟩)
  .exact Y8 o
  .exact Ya ⟨a,q a i,o⟩
 .intro e j a r w i s;exact n.b7 (f e) (f j) a r (u e j (YB.1 i).1 (YB.1 s).1 w) (p e a i) (p j r s)
def aD.k8(i:aD l h t g b d m c):aD l h t g b (eC (.slice none 0 0) []::d) m c:=by
 refine⟨i.J.a9 ?_,i.fr,?_,?_,?_⟩
 .rintro o (f|⟨e,a,f⟩)
  .exact Y8 f
  .rcases Yg.1 a with rfl|a
   .simp[Th.bb,Value.ownBlock]at f
   .exact Ya ⟨e,a,f⟩
 .intro e a;rcases Yg.1 a with rfl|a
  .exact⟨rfl,Y8 ⟨rfl,rfl⟩⟩
  .exact i.m e a
 .intro e a o f;rcases Yg.1 a with rfl|a
  .simp[Th.bb,Value.ownBlock]at f
  .exact i.E e a o f
 .intro k n e r u a j s p q;cases k with
  |zero=>simp at a;subst a;simp[Th.bb,Value.ownBlock]at p
  |succ k=>
   cases n with
   |zero=>simp at j;subst j;simp[Th.bb,Value.ownBlock]at q
   |succ n=>exact i.b7 k n e r (by omega) (by simpa using a) (by simpa using j) s p q
def aD.m8{e j f:Nat}{v:Value}{a:List bi}{k:bi}(x:aD l h t g b d m c)(s:d[i]? = some (eC v a))(u:ai [] c n)(w:o.ownsRow 0 288 5 (.slice (some ⟨e,0,none⟩) (a.length+1) j) (a.length+1) (a.flatMap eg++eg k))(r:n.grownBy o v.ownBlock)(q:v.ownBlock=some e\/e=f)(p:n.heap.size=f):aD l h t g b (d.set i (eC (.slice (some ⟨e,0,none⟩) (a.length+1) j) (a++[k]))) m o:=by
 have:=x.aN s u w r q p;simpa[eC]using this
def vT{b:List bi}{a:Nat}(c:a<b.length):((b.take a).map f++b.drop a).set a (f (b.getD a hB))=(b.take (a+1)).map f++b.drop (a+1):=by
 have d:b.drop a=b.getD a hB::b.drop (a+1):=by
  rw[Yk c];simp[c]
 rw[d,List.set_append_right _ _ (by simp;omega)];have:a-((b.take a).map f).length=0:=by simp;omega
 rw[this,List.set_cons_zero];rw[Yt c,List.map_append];simp[c]
def uJ{b:List bi}{a:Nat}(c:a<b.length):((b.take a).map f++b.drop a).getD a hB=b.getD a hB:=by
 have d:b.drop a=b.getD a hB::b.drop (a+1):=by
  rw[Yk c];simp[c]
 rw[d,List.getD_eq_getElem?_getD,Yw (by simp;omega)];have:a-((b.take a).map f).length=0:=by simp;omega
 rw[this];simp
def rz{a:List bi}{b:Nat}:((a.take b).map f++a.drop b).length=a.length:=by
 simp;omega
def yu(t:List UInt8)(e:List bi)(i:List (List UInt8))(h:List Int)(g:List UInt8)(d:Int×List UInt8)(f:ee)(a:Int×List UInt8)(c:Int)(b:ac):(List bi×List UInt8)×ac:=
 if ax b 4 [125]=true then ((e++[⟨0,0,c,a.1,d.1⟩],g++d.2++[32]++f.text++[40]++a.2++[41,32,61,32]++bB c++[59,32]),b)
 else eX t (10-(e++[(⟨0,0,c,a.1,d.1⟩:bi)]).length) (e++[⟨0,0,c,a.1,d.1⟩]) (i++[f.text]) (h++[c]) (g++d.2++[32]++f.text++[40]++a.2++[41,32,61,32]++bB c++[59,32]) b
def Cz{a:Nat}{c:List bi}{h:List (List UInt8)}{g:List Int}{d:List UInt8}(f:b.s.e≠0):eX t a c h g d b=((c,d),b):=by
 cases a with
 |zero=>rfl
 |succ a=>unfold eX;rw[Y9 f]
def MG{c:List bi}{h:List (List UInt8)}{g:List Int}{out:List UInt8}{e a:(Int×List UInt8)×ac}{f:ee×ac}{d:Int×ac}(k:b.s.e=0)(p:c.length<=9)(o:eA t (ar c.length 8 b)=e)(m:bV t h false e.2=f)(l:eA t (ab t 4 [40] f.2)=a)(n:bC t g (ab t 4 [41] a.2)=d):eX t (10-c.length) c h g out b=yu t c h g out e.1 f.1 a.1 d.1 d.2:=by
 have i:10-c.length=(9-c.length)+1:=by omega
 have j:10-(c++[(⟨0,0,d.1,a.1.1,e.1.1⟩:bi)]).length=9-c.length:=by simp
 unfold yu;rw[j,i];rw[eX,Y2 (by simpa using k)];simp only[o,m,l,n]
def CS(a:b.s.x.text.length<=2000):(eA t b).1.2.length<=2000:=by
 unfold eA;split
 .simp
 .unfold ch iD;split
  .simp
  .split
   .exact a
   .split
    .simp
    .split
     .simp
     .split
      .simp
      .split
       .split
        .simp
        .split<;>simp
       .simp
def sb(t:List UInt8)(d:List UInt8)(b:List Int)(a:(List bi×List UInt8)×ac):sx×ac:=
 (⟨d,(bC t b (ab t 4 [125] a.2)).1,a.1.1.map (λc=>{ c with cv:=(bC t b (ab t 4 [125] a.2)).1 }),a.1.2++[125,32,61,32]++bB (bC t b (ab t 4 [125] a.2)).1++[59,32]⟩,(bC t b (ab t 4 [125] a.2)).2)
def CD{b:Func}{Q:Ending->World->Prop}{a:Act}{i0 i1 i2 i3:Nat}{v0 v1 v2 v3:Value}(n:b.results=#[.tmp i0,.tmp i1,.tmp i2,.tmp i3])(d:a.tmps.getD i0 undef=v0)(f:a.tmps.getD i1 undef=v1)(h:a.tmps.getD i2 undef=v2)(j:a.tmps.getD i3 undef=v3)(l:a.defers=[])(m:Q (.returned (.tuple #[v0,v1,v2,v3])) c):bodyPost prog b Q .ret a c:=by
 refine bodyPost_ret (v:=.tuple #[v0,v1,v2,v3]) ?_ l m;unfold results;rw[n];have e:a.tmps[i0]?.getD undef=v0:=by simpa using d
 have g:a.tmps[i1]?.getD undef=v1:=by simpa using f
 have i:a.tmps[i2]?.getD undef=v2:=by simpa using h
 have k:a.tmps[i3]?.getD undef=v3:=by simpa using j
 simp[e,g,i,k,go_sem]
def tt(a:List Int)(b:ac):0<=(bC t a b).1/\(bC t a b).1<=4294967295:=by
 unfold bC;have:=sa (t:=t) 0 4294967295 (ab t 4 [61] b);simp only;omega
end
variable {g r : Nat -> Prop} {d b N' : Nat} {t : List UInt8} {j k : ac} {c w n p h : World} {o : PV} {q : List Th} {i : Nat} {a u : Th}
def EE(g:Nat->Prop)(d:Nat)(t:List UInt8)(b:Nat)(j:List (List UInt8))(k:List Int)(a:sx×ac)(c:World)(i:Ending)(n:World):Prop:=∃h f e,i=.returned (.tuple #[h,f,e,.string ⟨a.1.b.toArray⟩])/\aD g d t b a.2 [bD h (j++[a.1.a8]),cV f (k++[a.1.num]),eC e a.1.l] c n/\a.1.b.length<=100000/\a.1.l.length<=9
def RZ{v d1:Value}{C:List (List UInt8)}{r:List Int}(m:aD g d t b j [bD v C,cV d1 r] c c)(r2:C.length<=1000)(r3:r.length<=1000)(r0:b+100<=1000000000):Calls prog 146 #[.pointer (some ⟨d,0,none⟩),v,d1] c (EE g d t (b+20) C r (eE t C r j) c):=by
 obtain⟨g9,h2,rfl⟩:=bX (m.m _ Yb);obtain⟨c0,c2,rfl⟩:=bX (m.m _ (Y5 _ Yb));have j7:=Z m;obtain⟨e8,l9,m8,m9,n0⟩:=info_parts AZ;have n1:(Value.agg #[.int .i64 0,.int .i64 0,.int .i64 0,.int .i64 0,.int .i64 0]).cells.size=5:=by decide
 go_in;go_wp2_with fail;refine aA j7 (cB · 2 [118,101,114,115,105,111,110]) λp f3=>?_;have e1:=Z (zO (f3.b.gk (i:=0) (a:=bD (.slice g9 C.length h2) C) rfl) (by omega) (by omega));go_wp2_with fail;refine e1.b.mono ?_;rintro P h ⟨j0,rfl,J,n5⟩;obtain⟨b9,c1,c8⟩:=bX (J.m _ Yb);subst c8;have f4:=Z (f3.b.b6 (i:=0) (a:=bD (.slice g9 C.length h2) C) rfl J);generalize m7:bV t C false (ab t 2 [118,101,114,115,105,111,110] j)=o6 at *
 have k9:=Z m7;obtain⟨y,j4⟩:=o6;simp only at f4 n5;have j8:=Z (f4.b.d (oW y));go_wp2_with fail;refine aA j8 (cB · 4 [123]) λt9 f5=>?_;obtain⟨o7,o8,o9,p0,p1,p2,p3,p4⟩:=f5.b.r (i:=0) rfl;have r7:¬(9223372036854775807<8+y.text.length):=by omega
 have r9:¬(9223372036854775807<8+y.text.length+3):=by omega
 have g6:U (eE t C r j=sb t y.text r (eX t 10 [] [] [] ([118,101,114,115,105,111,110,32]++y.text++[32,123,32]) (ab t 4 [123] j4))):=by
  show _=_;unfold eE sb;simp only[k9.b]
 generalize r1:ab t 4 [123] j4=f0 at *
 have j9:=Z (f5.b.nil.j9.k8);go_wp2;go_loopw [11,12,13,14] (λd0 n7 o2 n8 d3=>∃(gQ:Option Addr) (M:Nat) (a9:Option Addr) (b1:Nat) (b0:Option Addr) (b2:Nat) (l:List bi) (B:List (List UInt8)) (x:List Int) (q:List UInt8) (k:ac),n7=.slice gQ l.length M/\o2=.slice a9 B.length b1/\n8=.slice b0 x.length b2/\d0=.string ⟨q.toArray⟩/\l.length<=9/\U (B.length=l.length)/\U (x.length=l.length)/\(k.s.e=0->l.length<=8)/\q.length<=2100+7000*l.length/\U (aD g d t (b+2*l.length) k [eC (.slice gQ l.length M) l,bD (.slice a9 B.length b1) B,cV (.slice b0 x.length b2) x,.obj h.heap.size (oW y),bD (.slice b9 (C++[y.text]).length c1) (C++[y.text]),cV (.slice c0 r.length c2) r] c d3)/\U (eX t (10-l.length) l B x q k=eX t 10 [] [] [] ([118,101,114,115,105,111,110,32]++y.text++[32,123,32]) f0)) (λ_ v _ _ _=>15-jx v)
 case atStart=>exact⟨none,0,none,0,none,0,[],[],[],[118,101,114,115,105,111,110,32]++y.text++[32,123,32],f0,rfl,rfl,rfl,Yo Value.string (fo (by simp)),by simp,Z rfl,Z rfl,by simp,by simp;omega,j9,Z rfl⟩
 case round=>
  obtain⟨gQ,M,a9,b1,b0,b2,l,B,x,q,a0,rfl,rfl,rfl,rfl,m4,i5,h7,m0,r6,e0,g5⟩:=hrel;obtain⟨o,l5⟩:=e0.b.J;obtain⟨p5,q2,q3,q4,q5,q6,q7,q8,q9,p6,p7,p8,p9,q0,q1,e3,S⟩:=l5.r;by_cases c3:a0.s.e=0
  .have l6:(a0.s.e==0)=true:=by rw[c3];rfl
   have k2:=Z c3;have r4:=m0 c3;go_wp2_with fail;refine aA e0 (kC · l.length 8) λu0 f6=>?_;have n9:=CS (t:=t) f6.b.J.b1;have i6:=rT (t:=t) (ar l.length 8 a0);go_wp2_with fail;refine aA f6 (CU · (by omega)) λj3 f9=>?_;generalize a5:eA t (ar l.length 8 a0)=a7 at *
   have k5:=Z a5;obtain⟨⟨I,F⟩,j5⟩:=a7;simp only at f9 n9 i6;have g0:=Z (f9.b.d (oW bZ));have e1:=Z (zO (g0.b.gk (i:=2) (a:=bD (.slice a9 B.length b1) B) rfl) (by have:=i5.b;omega) (by omega));have i7:=i6.a (lF (t:=t) B false j5);go_wp2_with fail;refine e1.b.mono ?_;rintro P u1 ⟨j1,rfl,J,n6⟩;obtain⟨g7,h0,c8⟩:=bX (J.m _ Yb);subst c8;have d7:=Z (g0.b.b6 (i:=2) (a:=bD (.slice a9 B.length b1) B) rfl J);generalize a5:bV t B false j5=a7 at *
   have k6:=Z a5;obtain⟨z,j6⟩:=a7;simp only at d7 n6 i7;have k0:=Z (d7.b.co (i:=0) (R:=j3.heap.size) (y:=bZ) rfl z);obtain⟨s7,s8,s9,t0,t1,t2,t3,t4⟩:=d7.b.r (i:=0) (R:=j3.heap.size) (x:=bZ) rfl;go_wp2_with fail;refine aA k0 (cB · 4 [40]) λo1 g1=>?_;have o0:=CS (t:=t) g1.b.J.b1;have i8:=(i7.a (aO (t:=t) 4 [40] j6)).a (rT (t:=t) _);go_wp2_with fail;refine aA g1 (CU · (by omega)) λt5 g2=>?_;generalize a5:eA t (ab t 4 [40] j6)=a7 at *
   have k7:=Z a5;obtain⟨⟨H,K⟩,f1⟩:=a7;simp only at g2 o0 i8;go_wp2_with fail;refine aA g2 (cB · 4 [41]) λt6 g3=>?_;have b8:=Z (yk (g3.b.gk (i:=3) (a:=cV (.slice b0 x.length b2) x) rfl) (by have:=h7.b;omega) (by omega));have c7:=tt (t:=t) x (ab t 4 [41] f1);have i9:=Z ((i8.a (aO (t:=t) 4 [41] f1)).a (mu (t:=t) x _));go_wp2_with fail;refine b8.b.mono ?_;rintro P t7 ⟨j2,rfl,J⟩;obtain⟨g8,h1,c8⟩:=bX (J.m _ Yb);subst c8;have g4:=Z (g3.b.b6 (i:=3) (a:=cV (.slice b0 x.length b2) x) rfl J);generalize a5:bC t x (ab t 4 [41] f1)=a7 at *
   have k8:=Z a5;obtain⟨w,a8⟩:=a7;simp only at g4 c7 i9;go_wp2_with fail;refine(jo w (by omega) (by omega) _).mono ?_;rintro P b3 ⟨rfl,c9⟩;have f7:=Z (g4.b.h c9);have b7:=Z (g5.b.symm.trans (MG (out:=q) k2.b m4 k5.b k6.b k7.b k8.b));unfold yu at b7;simp only at b7;have h9:U (∀d0,(b3.alloc d0).ownsRow 0 288 5 (.slice gQ l.length M) l.length (l.flatMap eg)):=Z (λd0=>aX (f7.b.a7 (i:=1) (a:=eC (.slice gQ l.length M) l) rfl) ((ah [] b3).d d0) (by simp));have h6:l.length+1<=maxLen:=by unfold maxLen;omega
   have h8:∀d1∈eg ⟨0,0,w,H,I⟩,d1.oneCell'=true:=by
    intro d1 i4;simp[eg]at i4;rcases i4 with rfl|rfl|rfl|rfl<;>rfl
   have m6:=ju w (by omega) (by omega);unfold bB at m6 b7;generalize Lib.itoa w=N at *
   have s0:¬(9223372036854775807<q.length+F.length):=by omega
   have s1:¬(9223372036854775807<q.length+F.length+1):=by omega
   have s2:¬(9223372036854775807<q.length+F.length+1+z.text.length):=by omega
   have s3:¬(9223372036854775807<q.length+F.length+1+z.text.length+1):=by omega
   have s4:¬(9223372036854775807<q.length+F.length+1+z.text.length+1+K.length):=by omega
   have s5:¬(9223372036854775807<q.length+F.length+1+z.text.length+1+K.length+4):=by omega
   have s6:¬(9223372036854775807<q.length+F.length+1+z.text.length+1+K.length+4+N.length):=by omega
   have r8:¬(9223372036854775807<q.length+F.length+1+z.text.length+1+K.length+4+N.length+2):=by omega
   go_wp2_with (at_builtin;(refine wpList_append_lies _ (by rfl) _ _ _ (by rfl) 0 288 e8 _ 5 40 underlying60 l9 m8 m9 n0 n1 (by omega) (.slice gQ l.length M) l.length (l.flatMap eg) (by rfl) (h9.b _) ⟨b3.heap.size,0,none⟩ 1 1 (eg ⟨0,0,w,H,I⟩) (by rfl) (by rfl) (World.news_of_block (cs:=(eg ⟨0,0,w,H,I⟩).toArray) (t:=288) (fr:=(0,0)) (heap_alloc_new b3 _)) h8 (by omega) h6 (by omega) (by simp) (b3.heap.size+1) (by simp) ?_;intro d5 d4 t8 i0 h4 h3 m5;have d6:=Z (f7.b.m8 (i:=1) rfl ((ah [] b3).d _) i0 h4 h3 (by simp));clear i0 h4 h3 m5 h9 h6 h8;obtain⟨o7,o8,o9,p0,p1,p2,p3,p4⟩:=d6.b.r (i:=0) rfl));refine(ga d6.b.J 4 [125]).mono ?_;rintro P o1 ⟨rfl,rfl⟩;have f8:=Z d6.b.az;cases h5:ax a8 4 [125]with
   |true=>
    have L:=Z (g6.b.trans (Yo (sb t y.text r) (b7.b.trans (by rw[Y9 h5]:_=((l++[⟨0,0,w,H,I⟩],q++F++[32]++z.text++[40]++K++[41,32,61,32]++N++[59,32]),a8)))));have m3:l.length+1=(l++[(⟨0,0,w,H,I⟩:bi)]).length:=by simp
    have b4:=Z (f8.b.L (N':=b+2*(l.length+1)) (by omega));generalize l++[(⟨0,0,w,H,I⟩:bi)]=E at *
    simp only[List.set]at b4;rw[m3]at b4 ⊢;have r5:E.length<=9:=by omega
    go_wp2_with fail;refine aA b4 (cB · 4 [125]) λo3 b5=>?_;have b8:=Z (yk (b5.b.gk (i:=5) (a:=cV (.slice c0 r.length c2) r) rfl) (by omega) (by omega));have c7:=tt (t:=t) r (ab t 4 [125] a8);go_wp2_with fail;refine b8.b.mono ?_;rintro P o4 ⟨d2,rfl,J⟩;have b6:=Z (b5.b.b6 (i:=5) (a:=cV (.slice c0 r.length c2) r) rfl J);unfold sb at L;generalize bC t r (ab t 4 [125] a8)=e9 at *
    obtain⟨u,f2⟩:=e9;simp only at b6 c7 L;go_wp2;go_loopw [24] (λa6 d3=>∃(n:Nat) (A:List bi),a6=.int .i64 n/\n<=(E).length/\U (A=((E).take n).map (λG=>{ G with cv:=u })++(E).drop n)/\U (aD g d t (b+2*(E).length) f2 [eC (.slice (some ⟨d5,0,none⟩) (E).length d4) A,bD (.slice g7 (B++[z.text]).length h0) (B++[z.text]),cV (.slice g8 (x++[w]).length h1) (x++[w]),.obj h.heap.size (oW y),bD (.slice b9 (C++[y.text]).length c1) (C++[y.text]),cV d2 (r++[u])] c d3)) (λa6 _=>(E).length-(intOf a6).toNat)
    case atStart=>exact⟨0,E,rfl,by omega,Z (by simp),b6⟩
    case round=>
     obtain⟨n,A,rfl,c5,a2,a1⟩:=hrel;rcases Yj n (E).length with S|c4
     .have m2:(0:Int)<=↑n:=by omega
      have e6:(↑n:Int) < ↑(E).length:=by omega
      have c6:n<A.length:=by rw[a2.b,rz];exact S
      obtain⟨l1,e4,l7,l8,-,l3⟩:=vD (a1.b.a7 (i:=0) (a:=eC (.slice (some ⟨d5,0,none⟩) (E).length d4) A) rfl) c6;cases e4
      have a3:U (A.set n { A.getD n hB with cv:=u } = ((E).take (n+1)).map (λG=>{ G with cv:=u })++(E).drop (n+1)):=Z (by
       have e2:=vT (f:=λG:bi=>{ G with cv:=u }) S;rw[a2.b,uJ S];exact e2)
      have d8:=Z (a1.b.i9 (i:=0) (k:=n) (j:=1) (p':={ A.getD n hB with cv:=u }) (v:=.int .i64 u) rfl c6 (by omega) rfl);go_wp2;exact⟨⟨n+1,_,by go_num,by omega,a3,d8⟩,by simp[intOf];omega⟩
     .have e6:¬((↑n:Int) < ↑(E).length):=by omega
      have a3:U (A=(E).map (λG=>{ G with cv:=u })):=Z (by
       rw[a2.b,List.take_of_length_le c4,YR c4,YH])
      go_wp2_with fail;refine(jo u (by omega) (by omega) _).mono ?_;rintro P o5 ⟨rfl,c9⟩;have d9:=Z (a1.b.h c9);have e7:=ju u (by omega) (by omega);unfold bB at e7 L;generalize Lib.itoa u=a4 at *
      have n2:¬(9223372036854775807<(q.length+F.length+1+z.text.length+1+K.length+4+N.length+2)+4):=by omega
      have n3:¬(9223372036854775807<(q.length+F.length+1+z.text.length+1+K.length+4+N.length+2)+4+a4.length):=by omega
      have n4:¬(9223372036854775807<(q.length+F.length+1+z.text.length+1+K.length+4+N.length+2)+4+a4.length+2):=by omega
      go_wp2;refine CD (i0:=6) (i1:=7) (i2:=8) (i3:=9) (v0:=.slice b9 (C.length+1) c1) (v1:=d2) (v2:=.slice (some ⟨d5,0,none⟩) (E).length d4) (v3:=.string ⟨(q++F++[32]++z.text++[40]++K++[41,32,61,32]++N++[59,32]++[125,32,61,32]++a4++[59,32]).toArray⟩) ?_ ?_ ?_ ?_ ?_ ?_ ?_
      .rfl
      .rfl
      .rfl
      .rfl
      .exact Yo Value.string (fo (by simp))
      .rfl
      .rw[L.b];refine⟨_,_,_,rfl,?_,by simp;omega,by simp;omega⟩;rw[<-a3.b];exact(d9.b.L (by omega)).ko (λD=>match D with|0=>4|1=>5|_=>0) (by intro D n e5 c5;simp at e5 c5;match D,n with|0,0=>simp|0,1=>simp|0,2=>simp|1,0=>simp|1,1=>simp|1,2=>simp|2,0=>simp|2,1=>simp|2,2=>simp|D+3,_=>omega|_,n+3=>omega) (by intro D l0 O;match D with|0=>simpa using O|1=>simpa using O|2=>simpa using O|D+3=>simp at O)
   |false=>
    have k1:U (eX t (10-(l++[(⟨0,0,w,H,I⟩:bi)]).length) (l++[⟨0,0,w,H,I⟩]) (B++[z.text]) (x++[w]) (q++F++[32]++z.text++[40]++K++[41,32,61,32]++N++[59,32]) a8=eX t 10 [] [] [] ([118,101,114,115,105,111,110,32]++y.text++[32,123,32]) f0):=Z (b7.b.trans (by rw[Y2 (by simp[h5])])).symm;have m1:a8.s.e=0->(l++[(⟨0,0,w,H,I⟩:bi)]).length<=8:=by
     intro l4;rcases Yj l.length 8 with l2|l2
     .simp;omega
     .have e3:=rt (n:=l.length) (m:=8) (by omega) a0;exact absurd l4 (by rw[(i9.b e3).1];exact e3)
    have k3:U ((B++[z.text]).length=(l++[(⟨0,0,w,H,I⟩:bi)]).length):=Z (by have:=i5.b;simp;omega);have k4:U ((x++[w]).length=(l++[(⟨0,0,w,H,I⟩:bi)]).length):=Z (by have:=h7.b;simp;omega);have b4:=Z (f8.b.L (N':=b+2*(l++[(⟨0,0,w,H,I⟩:bi)]).length) (by simp;omega));go_wp2;refine⟨⟨some ⟨d5,0,none⟩,d4,g7,h0,g8,h1,l++[⟨0,0,w,H,I⟩],B++[z.text],x++[w],q++F++[32]++z.text++[40]++K++[41,32,61,32]++N++[59,32],a8,by simp,by simp,by simp,?_,by simp;omega,k3,k4,m1,by simp;omega,?_,k1⟩,by simp[jx];omega⟩
    .exact Yo Value.string (fo (by simp))
    .have:=b4.b;exact Z (by simpa using this)
  .have l6:(a0.s.e==0)=false:=by rw[Yi];exact c3
   have L:=Z (g6.b.trans (Yo (sb t y.text r) (g5.b.symm.trans (Cz c3))));go_wp2_with fail;refine aA e0 (cB · 4 [125]) λo3 b5=>?_;have b8:=Z (yk (b5.b.gk (i:=5) (a:=cV (.slice c0 r.length c2) r) rfl) (by omega) (by omega));have c7:=tt (t:=t) r (ab t 4 [125] a0);go_wp2_with fail;refine b8.b.mono ?_;rintro P o4 ⟨d2,rfl,J⟩;have b6:=Z (b5.b.b6 (i:=5) (a:=cV (.slice c0 r.length c2) r) rfl J);unfold sb at L;generalize bC t r (ab t 4 [125] a0)=e9 at *
   obtain⟨u,f2⟩:=e9;simp only at b6 c7 L;go_wp2;go_loopw [24] (λa6 d3=>∃(n:Nat) (A:List bi),a6=.int .i64 n/\n<=(l).length/\U (A=((l).take n).map (λG=>{ G with cv:=u })++(l).drop n)/\U (aD g d t (b+2*(l).length) f2 [eC (.slice gQ (l).length M) A,bD (.slice a9 B.length b1) B,cV (.slice b0 x.length b2) x,.obj h.heap.size (oW y),bD (.slice b9 (C++[y.text]).length c1) (C++[y.text]),cV d2 (r++[u])] c d3)) (λa6 _=>(l).length-(intOf a6).toNat)
   case atStart=>exact⟨0,l,rfl,by omega,Z (by simp),b6⟩
   case round=>
    obtain⟨n,A,rfl,c5,a2,a1⟩:=hrel;rcases Yj n (l).length with S|c4
    .have m2:(0:Int)<=↑n:=by omega
     have e6:(↑n:Int) < ↑(l).length:=by omega
     have c6:n<A.length:=by rw[a2.b,rz];exact S
     obtain⟨l1,e4,l7,l8,-,l3⟩:=vD (a1.b.a7 (i:=0) (a:=eC (.slice gQ (l).length M) A) rfl) c6;cases e4
     have a3:U (A.set n { A.getD n hB with cv:=u } = ((l).take (n+1)).map (λG=>{ G with cv:=u })++(l).drop (n+1)):=Z (by
      have e2:=vT (f:=λG:bi=>{ G with cv:=u }) S;rw[a2.b,uJ S];exact e2)
     have d8:=Z (a1.b.i9 (i:=0) (k:=n) (j:=1) (p':={ A.getD n hB with cv:=u }) (v:=.int .i64 u) rfl c6 (by omega) rfl);go_wp2;exact⟨⟨n+1,_,by go_num,by omega,a3,d8⟩,by simp[intOf];omega⟩
    .have e6:¬((↑n:Int) < ↑(l).length):=by omega
     have a3:U (A=(l).map (λG=>{ G with cv:=u })):=Z (by
      rw[a2.b,List.take_of_length_le c4,YR c4,YH])
     go_wp2_with fail;refine(jo u (by omega) (by omega) _).mono ?_;rintro P o5 ⟨rfl,c9⟩;have d9:=Z (a1.b.h c9);have e7:=ju u (by omega) (by omega);unfold bB at e7 L;generalize Lib.itoa u=a4 at *
     have n2:¬(9223372036854775807<q.length+4):=by omega
     have n3:¬(9223372036854775807<q.length+4+a4.length):=by omega
     have n4:¬(9223372036854775807<q.length+4+a4.length+2):=by omega
     go_wp2;refine CD (i0:=6) (i1:=7) (i2:=8) (i3:=9) (v0:=.slice b9 (C.length+1) c1) (v1:=d2) (v2:=.slice gQ (l).length M) (v3:=.string ⟨(q++[125,32,61,32]++a4++[59,32]).toArray⟩) ?_ ?_ ?_ ?_ ?_ ?_ ?_
     .rfl
     .rfl
     .rfl
     .rfl
     .exact Yo Value.string (fo (by simp))
     .rfl
     .rw[L.b];refine⟨_,_,_,rfl,?_,by simp;omega,by simp;omega⟩;rw[<-a3.b];exact(d9.b.L (by omega)).ko (λD=>match D with|0=>4|1=>5|_=>0) (by intro D n e5 c5;simp at e5 c5;match D,n with|0,0=>simp|0,1=>simp|0,2=>simp|1,0=>simp|1,1=>simp|1,2=>simp|2,0=>simp|2,1=>simp|2,2=>simp|D+3,_=>omega|_,n+3=>omega) (by intro D l0 O;match D with|0=>simpa using O|1=>simpa using O|2=>simpa using O|D+3=>simp at O)
variable {k r : Nat -> Prop} {P j q : Nat} {d : List UInt8} {a w : ac} {b p f u g : World} {c : PV} {o : List Th} {i : Nat} {h t : Th}
def AT(b:World)(a:Option Nat):b.grownBy b a:=⟨rfl,rfl,rfl,Y4 _,λ_ _ _=>rfl⟩
def MC(d:List bi):∀b∈d.flatMap eg,b.oneCell'=true:=by
 intro b c;obtain⟨e,_,a⟩:=List.mem_flatMap.1 c;simp[eg]at a;rcases a with rfl|rfl|rfl|rfl|rfl<;>rfl
def Oy(b:World)(i:TypeId){v m:Value}{c a:List bi}(g:b.ownsRow 0 288 5 v c.length (c.flatMap eg))(h:b.ownsRow 0 288 5 m a.length (a.flatMap eg))(I:c.length+a.length<=1000000000) :
  ∃d f,(Builtin.append_ #[60,60] i #[v,m]).run prog b=.ok d f/\f.ownsRow 0 288 5 d (c++a).length ((c++a).flatMap eg)/\b.grownBy f v.ownBlock/\(d.ownBlock=v.ownBlock\/d.ownBlock=some b.heap.size):=by
 obtain⟨k,j,y,z,A⟩:=info_parts AZ;have B:(Value.agg #[.int .i64 0,.int .i64 0,.int .i64 0,.int .i64 0,.int .i64 0]).cells.size=5:=by decide
 rw[Yq,YK];rcases h.2 with⟨rfl,q⟩|⟨e,o,D,rfl,E,r,F,G,H,s⟩
 .have u:a=[]:=Yv.1 q;subst u;refine⟨v,b,run_append_owned_none (P:=prog) b 0 60 i 288 k 5 underlying60 j v c.length _ g,by simpa using g,AT _ _,Y8 rfl⟩
 .obtain⟨d,f,w,C,p,_,n⟩:=run_append_own_at (P:=prog) b 0 60 i 288 k _ 5 40 underlying60 j y z A B (by omega) v c.length (c.flatMap eg) g ⟨e,0,none⟩ a.length o (a.flatMap eg) h.1 (by
   intro l J x;have t:(⟨e,0,none⟩:Addr).add l=⟨e,l,none⟩:=by unfold Addr.add;split<;>simp_all
   rw[t];exact cu r (by rw[h.1];exact s) x) (MC a) (by unfold maxLen;omega) (by omega) (YV _)
  exact⟨d,f,w,C,p,n⟩
def zo{e:Array Oper}{rest:List Oper}{c:Oper}{h:Act}{Q:Exit->Act->World->Prop}{b:World}(p:c.guard=none)(g i:Operand)
  (r:c.op=.call { callee:=.builtin .append,args:=#[g,i],argTypes:=#[60,60] }) {v y:Value} {l m:List bi} (t:h.eval g=v) (w:h.eval i=y) (u:b.ownsRow 0 288 5 v l.length (l.flatMap eg)) (x:b.ownsRow 0 288 5 y m.length (m.flatMap eg)) (q:l.length+m.length<=1000000000)
  (n:∀ad a f,f.ownsRow 0 288 5 (.slice ad (l++m).length a) (l++m).length ((l++m).flatMap eg)->b.grownBy f v.ownBlock->((Value.slice ad (l++m).length a).ownBlock=v.ownBlock\/(Value.slice ad (l++m).length a).ownBlock=some b.heap.size)->wpList prog e Q rest (h.put c.dst (.slice ad (l++m).length a)) f):wpList prog e Q (c::rest) h b:=by
 refine wpList_plain p λz o=>?_;obtain⟨A,f,s,d,k,j⟩:=Oy b c.type u x q;obtain⟨ad,a,rfl⟩:=bX d;unfold Oper.wp execOp;simp only[r,resolve,invoke,builtin,Sem.run_bind,Sem.run_pure,Result.andThen_ok,List.map_toArray,List.map_cons,List.map_nil,t,w,s];exact o _ _ (n ad a f d k j)
def aD.m9{v:Value}{l c:List bi}{ad:Option Addr}{e:Nat}(u:aD k P d j a o p b)(s:o[i]? = some (eC v l))(t:g.ownsRow 0 288 5 (.slice ad c.length e) c.length (c.flatMap eg))(m:b.grownBy g v.ownBlock)(q:(Value.slice ad c.length e).ownBlock=v.ownBlock\/(Value.slice ad c.length e).ownBlock=some b.heap.size):aD k P d j a (o.set i (eC (.slice ad c.length e) c)) p g:=by
 refine u.a4 s (eJ m) (λn m=>by simpa[Th.bb]using m) t ?_;intro n r;have f:(Value.slice ad c.length e).ownBlock=some n:=r;rcases q with h|h
 .left;rw[h]at f;exact f
 .right;rw[h]at f;simp at f;omega
def bf.kT{c:PV}{g:World}{ms:List bi}{ad:Option Addr}{r:Nat}(f:bf k P d j a c b)(y:b.grownBy g c.pv.ownBlock)(s:g.ownsRow 0 288 5 (.slice ad (a.u++ms).length r) (a.u++ms).length ((a.u++ms).flatMap eg))(x:(Value.slice ad (a.u++ms).length r).ownBlock=c.pv.ownBlock\/(Value.slice ad (a.u++ms).length r).ownBlock=some b.heap.size) :
  bt k P d (j+ms.length) { a with u:=a.u++ms } (g.setCell ⟨P,9,none⟩ (.slice ad (a.u++ms).length r)):=by
 rcases s.2 with⟨J,v⟩|⟨a1,S,a0,z,w,G,_⟩
 .have t:a.u=[]:=by
   rw[Yq]at v;exact Yv.1 (by omega)
  have p:ms=[]:=by
   rw[Yq]at v;exact Yv.1 (by omega)
  subst p;have A:=eJ y;have M:ai [P] g (g.setCell ⟨P,9,none⟩ (.slice none 0 0)):=(ah [P] g).O (p:=⟨P,9,none⟩) (by simp) _;have o:ai (c.pv.ownBlock.toList++[P]) b (g.setCell ⟨P,9,none⟩ (.slice none 0 0)):=A.cons M (λO p=>by simp_all) (λO p=>by simp_all);have q:∀e,c.pv.ownBlock≠some e->e≠P->e ∉ c.pv.ownBlock.toList++[P]:=λe F w=>by simp[F,w]
  have N:∀e∈c.aC,c.pv.ownBlock≠some e/\e≠P:=λe h=>⟨λl=>f.bg e h (io l),λl=>f.bg e h (by rw[l];simp[PV.a5])⟩;have H:g.heap[P]? = b.heap[P]?:=A.i P (aj f.I) (by simpa using f.H.p);rw[J];have C:∀e,e∈({ c with pv:=.slice none 0 0 }:PV).a5 P->e∈c.a5 P:=by
   intro e h;simp only[PV.a5,Yg,Yn,Option.mem_toList]at h ⊢;rcases h with m|m|m|m|m
   .exact Y8 m
   .exact Ya (Y8 m)
   .exact Ya (Ya (Y8 m))
   .simp[Value.ownBlock]at m
   .exact Ya (Ya (Ya (Ya m)))
  refine⟨{ c with pv:=.slice none 0 0 },bu (i:=9) (H.trans f.I) _,aX f.e o λe h=>q e (λl=>f.H.rp e h l) (λl=>f.H.r (by rw[h,l])),aX f.g o λe h=>q e (λl=>f.H.np e h l) (λl=>f.H.n (by rw[h,l])),?_,f.o.aC o λe h=>q e (λl=>f.H.pg e l h) (λl=>f.H.g (by rw[h,l])),f.ak,?_,?_,λe h p=>f.bg e h (C e p),λe h=>f.aZ e (h.imp (C e) id),λe L=>Yr (f.al e L) o.F,f.fin,f.b1,f.b5,?_,f.cn⟩
  .simp only[t,YH];exact⟨rfl,Y8 ⟨rfl,rfl⟩⟩
  .intro i R B K t;obtain⟨D,E⟩:=f.et i R B K t;have u:=λe h=>N e (hr t h);exact⟨D.aC o λe h=>q e (u e (Y8 h)).1 (u e (Y8 h)).2,E.aC o λe h=>q e (u e (Ya h)).1 (u e (Ya h)).2⟩
  .exact⟨f.H.r,f.H.n,by simp[Value.ownBlock],f.H.g,f.H.rn,by simp[Value.ownBlock],f.H.rg,by simp[Value.ownBlock],f.H.ng,by simp[Value.ownBlock]⟩
  .have:=f.aP;unfold ac.sz at *
   simp only[YH,List.length_nil];omega
 .have I:(a.u++ms).length=a.u.length+ms.length:=Yq;simp only[Value.slice.injEq]at z;obtain⟨rfl,-,rfl⟩:=z;rw[I]at s x ⊢;rw[YK]at s;refine⟨_,f.ms y s ?_ (aj G)⟩;rcases x with m|m
  .exact Y8 m.symm
  .right;simpa[dZ]using m
def zg(d:List UInt8)(c:List (List UInt8))(a:List Int)(all:List bi)(b:List UInt8)(v:sx×ac):(List bi×List UInt8)×ac:=
 if ax v.2 4 [125]=true then ((all++v.1.l,b++v.1.b),v.2)else ep d (6-(a++[v.1.num]).length) (c++[v.1.a8]) (a++[v.1.num]) (all++v.1.l) (b++v.1.b) v.2
def zf{b:Nat}{g:List (List UInt8)}{h:List Int}{all:List bi}{c:List UInt8}(f:a.s.e≠0):ep d b g h all c a=((all,c),a):=by
 cases b with
 |zero=>rfl
 |succ b=>unfold ep;rw[Y9 f]
def RR{c:List (List UInt8)}{b:List Int}{all:List bi}{out:List UInt8}{v:sx×ac}(g:a.s.e=0)(i:b.length<=5)(h:eE d c b (ar b.length 4 a)=v):ep d (6-b.length) c b all out a=zg d c b all out v:=by
 have e:6-b.length=(5-b.length)+1:=by omega
 have f:6-(b++[v.1.num]).length=5-b.length:=by simp
 unfold zg;rw[f,e];rw[ep,Y2 (by simpa using g)];simp only[h]
def Qb:∀(b:Nat) (c:List bi) (g:List (List UInt8)) (e:List Int) (f:List UInt8) (a:ac),aM a (eX d b c g e f a).2:=by
 intro b;cases b with
 |zero=>intro c g e f a;exact ed a
 |succ b=>
  intro c g e f a h;rw[Cz h];exact⟨rfl,rfl⟩
def Qi(b:List (List UInt8))(c:List Int)(a:ac):aM a (eE d b c a).2:=by
 unfold eE;exact(aO _ _ _).a ((lF _ _ _).a ((aO _ _ _).a ((Qb _ _ _ _ _ _).a ((aO _ _ _).a (mu _ _)))))
variable {d w : Nat -> Prop} {b g N' : Nat} {t : List UInt8} {c j : ac} {h r k q u : World} {o : PV} {L R : List Th} {i : Nat} {a x : Th}
def Em(i:aD d b t g c (L++R) r h):aD (gR d R) b t g c L h h:=by
 refine⟨i.J.a9 ?_,iH _ _,λe a=>i.m e (Yf _ a),?_,?_⟩
 .rintro k ((f|⟨e,a,f⟩)|⟨e,a,f⟩)
  .exact Y8 f
  .exact Ya ⟨e,Ym _ a,f⟩
  .exact Ya ⟨e,Yf _ a,f⟩
 .rintro e a k f (m|⟨l,j,m⟩)
  .exact i.E e (Yf _ a) k f m
  .obtain⟨n,p⟩:=List.getElem?_of_mem a;obtain⟨o,w⟩:=List.getElem?_of_mem j;have v:=(YB.1 p).1;exact i.b7 n (L.length+o) e l (by omega) (by rw[Ys v];exact p) (by rw[Yw (by omega)];simpa using w) k f m
 .intro n o e l u a j;have q:=(YB.1 a).1;have s:=(YB.1 j).1;exact i.b7 n o e l u (by rw[Ys q];exact a) (by rw[Ys s];exact j)
def El{o:List Th}(u:aD d b t g c (L++R) r h)(f:aD (gR d R) b t N' j o h k):aD d b t N' j (o++R) r k:=by
 have y:∀e∈R,e.At k:=λe a=>(u.m e (Ym _ a)).fr f.fr λn m=>Ya ⟨e,a,m⟩;refine⟨f.J.a9 ?_,u.fr.a (f.fr.a9 λ_ _ s=>Y8 s),?_,?_,?_⟩
 .rintro v (i|⟨e,a,i⟩)
  .exact Y8 (Y8 i)
  .rcases Yn.1 a with a|a
   .exact Ya ⟨e,a,i⟩
   .exact Y8 (Ya ⟨e,a,i⟩)
 .intro e a;rcases Yn.1 a with a|a
  .exact f.m e a
  .exact y e a
 .intro e a v i s;rcases Yn.1 a with a|a
  .exact f.E e a v i (Y8 s)
  .exact u.E e (Ym _ a) v i s
 .intro w x e p z a l n m q;rw[List.getElem?_append]at a l;split at a
  .split at l
   .exact f.b7 w x e p z a l n m q
   .exact f.E e (Yh a) n m (Ya ⟨p,Yh l,q⟩)
  .split at l
   .exact f.E p (Yh l) n q (Ya ⟨e,Yh a,m⟩)
   .rename_i A B;exact u.b7 (L.length+(w-o.length)) (L.length+(x-o.length)) e p (by omega) (by rw[Yw (by omega)];simpa using a) (by rw[Yw (by omega)];simpa using l) n m q
def aD.k9{o:PV}{j:ac}{q l k:World}{n m:Nat}{v:Int}(E:aD d b t g c L r q)(e:bf (gR d L) b t g j o l)(B:Fr (gR d L) q l)(C:j.o=c.o)(y:nK o.gv c.o v n m l k) :
  k.heap[b]? = some (lu t j.s (pu o j))/\aD d b t (g+1) { j with o:=j.o++[v] } L r (k.setCell ⟨b,15,none⟩ (.slice (some ⟨n,0,none⟩) (j.o.length+1) m)):=by
 obtain⟨⟨F,u,h,z⟩,w,D⟩:=y;have x:=e.t u;rw[<-C]at w;refine⟨x.h0 h e.H.g,E.call ⟨⟨_,x.mJ h w z D⟩,?_⟩⟩;have A:Fr (gR d L) q k:=(B.b6 u (by simp)).b6 (eJ h) (λf a i=>absurd i (e.aZ f (Y8 (jh (by simpa using a)))));exact A.b6 ((ah [b] k).O (p:=⟨b,15,none⟩) (by simp) _) (λf a i=>absurd i (e.aZ f (Y8 (by simp only[Yc]at a;rw[a];simp[PV.a5]))))
def Cg(b1:bf d b t g c o h){v:Value}{l:List Int}(R:dQ v l h)(N:(∀a8,v.ownBlock=some a8->d a8)\/(v=o.gv/\l=c.o))(d8:l.length<=1000000000)(d3:g<=1000000000):Calls prog 147 #[.pointer (some ⟨b,0,none⟩),v] h (zu d b t g o v l (bC t l c) h):=by
 have M:U (∀j k,bf d b t g j o k->j.o=c.o->Fr d h k->dQ v l k):=Z (λj k d0 d1 d2=>by
  rcases N with N|⟨c7,c8⟩
  .exact ox R d2 N
  .rw[c7,c8,<-d1];exact d0.o)
 obtain⟨gQ,r,rfl⟩:=bX R;obtain⟨a3,P,S,a0,a1⟩:=info_parts om;have a2:(Value.int .i64 0).cells.size=1:=rfl;have a4:=Z (Yp b1 (iH d h));clear b1 R N;go_in;go_wp2_with fail;refine(oP a4.b.1 4 [61]).mono ?_;rintro G q ⟨rfl,i,f⟩;have a5:=Z (Yp i (a4.b.2.a f));clear i f;go_wp2_with fail;refine(ze a5.b.1 0 4294967295 d3).mono ?_;rintro G u ⟨rfl,i,f⟩;have w:=Z (Yp i (a5.b.2.a f));clear i f;have H:=DX (t:=t) 0 4294967295 (ab t 4 [61] c);generalize b0:aV t 0 4294967295 (ab t 4 [61] c)=d7 at *
 obtain⟨⟨n,a7⟩,F⟩:=d7;have O:=Z b0;simp only at w H;change F.o=c.o at H;clear b0;have a6:=Z (sY (M.b _ _ w.b.1 H w.b.2).bk (by omega) n);go_wp2_with fail;refine a6.b.mono ?_;rintro G e0 ⟨rfl,rfl⟩;obtain⟨b2,b9,c0,c1,c2,c3,c4,c5,c6,b3,b4,b5,b6,b7,b8,d5,d6⟩:=w.b.1.r;clear a6 b2 b9 c0 c1 c2 c3 c4 c5 c6 b3 b5 b6 b7 b8;by_cases E:F.s.e=0
 .have d4:(F.s.e==0)=true:=by rw[E];rfl
  cases a9:l.contains n with
  |true=>
   have I:U (bC t l c=(n,ab t 4 [59] (bo 6 a7 F))):=by
    show _=_;unfold bC;simp only[O.b,a9,E];simp
   clear E;go_wp2_with fail;refine(kB w.b.1 6 a7).mono ?_;rintro G d9 ⟨rfl,i,f⟩;have x:=Z (Yp i (w.b.2.a f));clear i f;clear b4 d5 d6;go_wp2_with fail;refine(oP x.b.1 4 [59]).mono ?_;rintro G a ⟨rfl,i,f⟩;have m:=Z (Yp i (x.b.2.a f));clear i f;have K:U (∀p,(a.alloc p).ownsRow 0 3 1 (.slice gQ l.length r) l.length (l.map (Value.int .i64))):=Z (λp=>aX (M.b _ _ m.b.1 H m.b.2) ((ah [] a).d p) (by simp));go_wp2_with (at_builtin;go_must (refine wpList_append_lies _ (by rfl) _ _ _ (by rfl) 0 3 a3 _ 1 8 underlying24 P S a0 a1 a2 (by omega) (.slice gQ l.length r) l.length (l.map (Value.int .i64)) (by rfl) (K.b _) ⟨a.heap.size,0,none⟩ 1 1 [.int .i64 n] (by rfl) (by rfl) (World.news_of_block (cs:=#[.int .i64 n]) (t:=3) (fr:=(0,0)) (heap_alloc_new a _)) (by simp[Value.oneCell']) (by omega) (by unfold maxLen;omega) (by omega) (by simp) (a.heap.size+1) (by simp) ?_;intro z y L D B A C;have J:U (nK (.slice gQ l.length r) l n z y a L):=Z ⟨⟨_,(ah [] a).d _,B,by simpa using A⟩,D,C⟩;clear D B A C));go_ret2;rw[I.b];exact⟨a,z,y,rfl,m.b.1,m.b.2,J.b⟩
  |false=>
   have I:U (bC t l c=(n,ab t 4 [59] F)):=by
    show _=_;unfold bC;simp only[O.b,a9];simp
   clear E;have x:=w;go_wp2_with fail;refine(oP x.b.1 4 [59]).mono ?_;rintro G a ⟨rfl,i,f⟩;have m:=Z (Yp i (x.b.2.a f));clear i f;have K:U (∀p,(a.alloc p).ownsRow 0 3 1 (.slice gQ l.length r) l.length (l.map (Value.int .i64))):=Z (λp=>aX (M.b _ _ m.b.1 H m.b.2) ((ah [] a).d p) (by simp));go_wp2_with (at_builtin;go_must (refine wpList_append_lies _ (by rfl) _ _ _ (by rfl) 0 3 a3 _ 1 8 underlying24 P S a0 a1 a2 (by omega) (.slice gQ l.length r) l.length (l.map (Value.int .i64)) (by rfl) (K.b _) ⟨a.heap.size,0,none⟩ 1 1 [.int .i64 n] (by rfl) (by rfl) (World.news_of_block (cs:=#[.int .i64 n]) (t:=3) (fr:=(0,0)) (heap_alloc_new a _)) (by simp[Value.oneCell']) (by omega) (by unfold maxLen;omega) (by omega) (by simp) (a.heap.size+1) (by simp) ?_;intro z y L D B A C;have J:U (nK (.slice gQ l.length r) l n z y a L):=Z ⟨⟨_,(ah [] a).d _,B,by simpa using A⟩,D,C⟩;clear D B A C));go_ret2;rw[I.b];exact⟨a,z,y,rfl,m.b.1,m.b.2,J.b⟩
 .have d4:(F.s.e==0)=false:=by rw[Yi];exact E
  have I:U (bC t l c=(n,ab t 4 [59] F)):=by
   show _=_;unfold bC;simp only[O.b];rw[Y2 (λc9=>E c9.1)]
  clear E;have x:=w;go_wp2_with fail;refine(oP x.b.1 4 [59]).mono ?_;rintro G a ⟨rfl,i,f⟩;have m:=Z (Yp i (x.b.2.a f));clear i f;have K:U (∀p,(a.alloc p).ownsRow 0 3 1 (.slice gQ l.length r) l.length (l.map (Value.int .i64))):=Z (λp=>aX (M.b _ _ m.b.1 H m.b.2) ((ah [] a).d p) (by simp));go_wp2_with (at_builtin;go_must (refine wpList_append_lies _ (by rfl) _ _ _ (by rfl) 0 3 a3 _ 1 8 underlying24 P S a0 a1 a2 (by omega) (.slice gQ l.length r) l.length (l.map (Value.int .i64)) (by rfl) (K.b _) ⟨a.heap.size,0,none⟩ 1 1 [.int .i64 n] (by rfl) (by rfl) (World.news_of_block (cs:=#[.int .i64 n]) (t:=3) (fr:=(0,0)) (heap_alloc_new a _)) (by simp[Value.oneCell']) (by omega) (by unfold maxLen;omega) (by omega) (by simp) (a.heap.size+1) (by simp) ?_;intro z y L D B A C;have J:U (nK (.slice gQ l.length r) l n z y a L):=Z ⟨⟨_,(ah [] a).d _,B,by simpa using A⟩,D,C⟩;clear D B A C));go_ret2;rw[I.b];exact⟨a,z,y,rfl,m.b.1,m.b.2,J.b⟩
def rI(t:List UInt8)(v:(List bi×List UInt8)×ac):ac:=
 dV (v.1.2++[125,32,61,32]++bB (bC t (ab t 4 [125] v.2).o (ab t 4 [125] v.2)).1++[59,10]) { (bC t (ab t 4 [125] v.2).o (ab t 4 [125] v.2)).2 with o:=(bC t (ab t 4 [125] v.2).o (ab t 4 [125] v.2)).2.o++[(bC t (ab t 4 [125] v.2).o (ab t 4 [125] v.2)).1],u:=(bC t (ab t 4 [125] v.2).o (ab t 4 [125] v.2)).2.u++v.1.1.map (λa=>{ a with prog:=(bC t (ab t 4 [125] v.2).o (ab t 4 [125] v.2)).1 }) }
def Dh(a:List Int)(c:ac):Sm c (bC t a c).2:=by
 unfold bC;exact(an _ _ _).a ((fT _ _ _).a ((jy _ _ _ _).a (an _ _ _)))
def MS(p:bt d b t g c h)(s9:g+1000000<=1000000000):Calls prog 83 #[.pointer (some ⟨b,0,none⟩)] h (GP d b t (g+1000000) (gr t c) (.tuple #[]) h):=by
 have k2:=Z (iF p);obtain⟨s5,i3⟩:=p;obtain⟨s6,s8,l0⟩:=bX i3.o;obtain⟨-,-,-,-,-,-,-,-,-,-,-,-,-,-,a2,o2,p4⟩:=i3.r;rw[l0]at a2;clear i3 l0;go_in;go_wp2_with fail;refine aA k2 (kC · c.o.length 4) λq k3=>?_;clear a2 o2 p4;go_wp2_with fail;refine aA k3 (cB · 2 [112,114,111,103,114,97,109]) λu g6=>?_;go_wp2_with fail;refine(re g6.b.J 2 (by omega)).mono ?_;rintro e1 b5 ⟨rfl,l4,b4,q4⟩;have g7:=Z (g6.b.call ⟨l4,b4⟩);clear l4 b4;generalize l3:aG t 2 (ab t 2 [112,114,111,103,114,97,109] (ar c.o.length 4 c))=r1 at *
 obtain⟨F,l6⟩:=r1;have m2:=Z l3;simp only at g7 q4;clear l3;have k4:=Z (g7.b.d (oW F));go_wp2_with fail;refine aA k4 (cB · 4 [123]) λt8 g8=>?_;obtain⟨r7,r8,r9,s0,s1,s2,s3,s4⟩:=g8.b.r (i:=0) rfl;have t2:¬(9223372036854775807<8+F.text.length):=by omega
 have t3:¬(9223372036854775807<8+F.text.length+3):=by omega
 have e7:U (gr t c=rI t (ep t 6 [] [] [] ([112,114,111,103,114,97,109,32]++F.text++[32,123,32]) (ab t 4 [123] l6))):=by
  show _=_;unfold gr rI;simp only[m2.b]
 generalize o1:ab t 4 [123] l6=k1 at *
 clear o1;have k5:=Z (g8.b.k8.nil.j9);go_wp2;go_loopw [3,4,5,6] (λq7 v j8 r6 f9=>∃(gQ:Option Addr) (c4:Nat) (b9:Option Addr) (c5:Nat) (J:Option Addr) (M:Nat) (z:List (List UInt8)) (k:List Int) (all:List bi) (B:List UInt8) (j:ac),v=.slice gQ z.length c4/\j8=.slice b9 k.length c5/\r6=.slice J all.length M/\q7=.string ⟨B.toArray⟩/\k.length<=5/\U (z.length=k.length)/\U (all.length<=9*k.length)/\(j.s.e=0->k.length<=4)/\B.length<=2100+100000*k.length/\U (aD d b t (g+1+20*k.length) j [bD (.slice gQ z.length c4) z,cV (.slice b9 k.length c5) k,eC (.slice J all.length M) all,.obj b5.heap.size (oW F)] h f9)/\U (ep t (6-k.length) z k all B j=ep t 6 [] [] [] ([112,114,111,103,114,97,109,32]++F.text++[32,123,32]) k1)) (λ_ _ j8 _ _=>15-jx j8)
 case atStart=>exact⟨none,0,none,0,none,0,[],[],[],[112,114,111,103,114,97,109,32]++F.text++[32,123,32],k1,rfl,rfl,rfl,Yo Value.string (fo (by simp)),by simp,Z rfl,Z (by simp),by simp,by simp;omega,k5,Z rfl⟩
 case round=>
  obtain⟨gQ,c4,b9,c5,J,M,z,k,all,B,d8,rfl,rfl,rfl,rfl,p3,l2,g5,i6,t1,g0,e6⟩:=hrel;clear k5 g8 k4 g7 g6 k3 k2 r7 r8 r9 s0 s1 s2 s3 s4;obtain⟨o,k9⟩:=g0.b.J;obtain⟨m4,m8,m9,n0,n1,n2,n3,n4,c3,f2,h9,m5,m6,m7,a2,e2,a1⟩:=k9.r;clear k9 m4 m8 m9 n0 n1 n2 n3 n4 c3 f2 m5 m6 m7 a2;by_cases d3:d8.s.e=0
  .have S:(d8.s.e==0)=true:=by rw[d3];rfl
   have l8:=Z d3;have t0:=i6 d3;clear d3 i6;go_wp2_with fail;refine aA g0 (kC · k.length 4) λt9 g9=>?_;clear h9 e2 a1;have e0:=Z (e6.b.symm.trans (RR (all:=all) (out:=B) l8.b p3 rfl));have l5:=Z (Qi (t:=t) z k (ar k.length 4 d8));have k6:=Z (RZ (Em (L:=[bD (.slice gQ z.length c4) z,cV (.slice b9 k.length c5) k]) (R:=[eC (.slice J all.length M) all,.obj b5.heap.size (oW F)]) g9.b) (by have:=l2.b;omega) (by omega) (by omega));go_wp2_with fail;refine k6.b.mono ?_;rintro e1 u0 ⟨t7,t6,t5,rfl,f8,q6,q5⟩;clear k6;obtain⟨g1,g3,p9⟩:=bX (f8.m _ Yb);obtain⟨g2,g4,p8⟩:=bX (f8.m _ (Y5 _ Yb));obtain⟨k7,k8,p1⟩:=bX (f8.m _ (Y5 _ (Y5 _ Yb)));subst p9 p8 p1;have e3:=Z (El (L:=[bD (.slice gQ z.length c4) z,cV (.slice b9 k.length c5) k]) (R:=[eC (.slice J all.length M) all,.obj b5.heap.size (oW F)]) g9.b f8);clear f8;generalize eE t z k (ar k.length 4 d8)=r2 at *
   obtain⟨⟨nm,nu,G,b0⟩,d9⟩:=r2;unfold zg at e0;simp only at e3 q6 q5 e0 l5;have t4:¬(9223372036854775807<B.length+b0.length):=by omega
   go_wp2_with (at_builtin;(refine zo (by rfl) _ _ (by rfl) (l:=all) (m:=G) (v:=.slice J all.length M) (y:=.slice k7 G.length k8) (by rfl) (by rfl) (e3.b.a7 (i:=3) (a:=eC (.slice J all.length M) all) rfl) (e3.b.a7 (i:=2) (a:=eC (.slice k7 G.length k8) G) rfl) (by have:=g5.b;omega) ?_;intro c0 c6 u1 b3 b2 b1;have h0:=Z (e3.b.m9 (i:=3) (v:=.slice J all.length M) (l:=all) rfl b3 b2 b1);clear b3 b2 b1));refine(ga h0.b.J 4 [125]).mono ?_;rintro e1 r3 ⟨rfl,rfl⟩;have h1:U (aD d b t (g+1+20*k.length+20) d9 [bD (.slice g1 (z++[nm]).length g3) (z++[nm]),cV (.slice g2 (k++[nu]).length g4) (k++[nu]),eC (.slice c0 (all++G).length c6) (all++G),.obj b5.heap.size (oW F)] h r3):=Z (h0.b.ko (λa9=>match a9 with|0=>0|1=>1|2=>3|_=>4) (by intro a9 r o9 i7;simp at o9 i7;match a9,r with|0,0=>simp|0,1=>simp|0,2=>simp|0,3=>simp|1,0=>simp|1,1=>simp|1,2=>simp|1,3=>simp|2,0=>simp|2,1=>simp|2,2=>simp|2,3=>simp|3,0=>simp|3,1=>simp|3,2=>simp|3,3=>simp|a9+4,_=>omega|_,r+4=>omega) (by intro a9 s7 f5;match a9 with|0=>simpa using f5|1=>simpa using f5|2=>simpa using f5|3=>simpa using f5|a9+4=>simp at f5));clear h0 e3 g9 g0;cases l1:ax d9 4 [125]with
   |true=>
    have H:=Z (e7.b.trans (Yo (rI t) (e0.b.trans (by rw[Y9 l1]:_=((all++G,B++b0),d9)))));have p2:all.length+G.length=(all++G).length:=by simp
    have j0:(all++G).length<=100:=by have:=g5.b;simp;omega
    have h2:=Z (h1.b.L (N':=g+1+20*5) (by omega));clear e6 e7 e0 h1;generalize all++G=D at *
    rw[p2];go_wp2_with fail;refine aA h2 (cB · 4 [125]) λr4 e4=>?_;(try clear h9 e2 a1);unfold rI at H;simp only at H;generalize ab t 4 [125] d9=C at *
    obtain⟨h6,O⟩:=e4.b.J;obtain⟨h8,i1,a0⟩:=bX O.o;obtain⟨-,-,-,-,-,-,-,-,-,-,-,-,-,-,a2,i4,i9⟩:=O.r;rw[a0]at a2;have f4:=O.aP;unfold ac.sz at f4;have f1:=Z (Cg O (v:=.slice h8 C.o.length i1) (l:=C.o) (a0▸O.o) (Ya ⟨a0.symm,rfl⟩) (by omega) (by omega));have j1:=tt (t:=t) C.o C;have P:=Dh (t:=t) C.o C;have h4:=Z a0;clear O a0 f4;go_wp2_with fail;refine f1.b.mono ?_;rintro e1 j9 ⟨r5,n6,n5,rfl,d6,f3,a3⟩;clear f1;generalize bC t C.o C=j4 at *
    obtain⟨A,x⟩:=j4;simp only at d6 j1 H a3 P;rw[<-h4.b]at a3;obtain⟨a5,c8⟩:=e4.b.k9 d6 f3 P.o a3;have j5:j9.cell? ⟨b,15,none⟩=some h6.gv:=aR a5 rfl;have j6:=cF a5;have j7:=aj a5;rw[P.o]at c8;have e5:=Z c8;have h5:=Z P.o;have m1:=Z P;clear c8 a5 d6 f3 a3 a2 i4 i9 P;go_wp2;go_loopw [11] (λd5 f9=>∃(r:Nat) (w:List bi),d5=.int .i64 r/\r<=(D).length/\U (w=((D).take r).map (λp=>{ p with prog:=A })++(D).drop r)/\U (aD d b t (g+1+20*5+1) { x with o:=C.o++[A] } [bD (.slice g1 (z++[nm]).length g3) (z++[nm]),cV (.slice g2 (k++[nu]).length g4) (k++[nu]),eC (.slice c0 (D).length c6) w,.obj b5.heap.size (oW F)] h f9)) (λd5 _=>(D).length-(intOf d5).toNat)
    case atStart=>exact⟨0,D,rfl,by omega,Z (by simp),Z (e5.b.L (by omega))⟩
    case round=>
     obtain⟨r,w,rfl,i7,a4,I⟩:=hrel;clear e5 j5 j6 j7;rcases Yj r (D).length with a1|f6
     .have p0:(0:Int)<=↑r:=by omega
      have i8:(↑r:Int) < ↑(D).length:=by omega
      have f7:r<w.length:=by rw[a4.b,rz];exact a1
      obtain⟨n7,i5,o6,o7,n9,-⟩:=vD (I.b.a7 (i:=2) (a:=eC (.slice c0 (D).length c6) w) rfl) f7;cases i5
      have b8:U (w.set r { w.getD r hB with prog:=A } = ((D).take (r+1)).map (λp=>{ p with prog:=A })++(D).drop (r+1)):=Z (by
       have i2:=vT (f:=λp:bi=>{ p with prog:=A }) a1;rw[a4.b,uJ a1];exact i2)
      have h3:=Z (I.b.i9 (i:=2) (k:=r) (j:=0) (p':={ w.getD r hB with prog:=A }) (v:=.int .i64 A) rfl f7 (by omega) rfl);go_wp2;exact⟨⟨r+1,_,by go_num,by omega,b8,h3⟩,by simp[intOf];omega⟩
     .have i8:¬((↑r:Int) < ↑(D).length):=by omega
      have b8:U (w=(D).map (λp=>{ p with prog:=A })):=Z (by
       rw[a4.b,List.take_of_length_le f6,YR f6,YH])
      have p7:w.length<=100:=by rw[a4.b,rz];exact j0
      obtain⟨f0,N⟩:=I.b.J;obtain⟨c1,c7,a8⟩:=bX N.u;obtain⟨-,-,-,-,-,-,-,-,c3,-,-,-,-,-,-,o4,p6⟩:=N.r;rw[a8]at c3;have d1:=N.aP;unfold ac.sz at d1;change wr.cell? _=some (.slice c1 x.u.length c7)at c3;have j3:U (wr.ownsRow 0 288 5 (.slice c1 x.u.length c7) x.u.length (x.u.flatMap eg)):=Z (a8▸N.u);have E:=Z (Yp N a8);have o5:x.u.length<=g+200:=by simp only at d1;omega
      clear N a8 d1;go_wp2_with (at_builtin;(refine zo (by rfl) _ _ (by rfl) (l:=x.u) (m:=w) (v:=.slice c1 x.u.length c7) (y:=.slice c0 (D).length c6) (by rfl) (by rfl) j3.b (I.b.a7 (i:=2) (a:=eC (.slice c0 (D).length c6) w) rfl) (by omega) ?_;intro h7 i0 d7 b3 b2 b1;have a7:wr.grownBy d7 f0.pv.ownBlock:=(by rw[E.b.2];exact b2);have a6:=E.b.1.h0 a7 E.b.1.H.p;have q8:d7.cell? ⟨b,9,none⟩=some f0.pv:=aR a6 rfl;have q9:=cF a6;have r0:=aj a6;have e9:=E.b.1.kT (ms:=w) a7 b3 (by rw[E.b.2];exact b1);have e8:=(((iH (gR d [bD (.slice g1 (z++[nm]).length g3) (z++[nm]),cV (.slice g2 (k++[nu]).length g4) (k++[nu]),eC (.slice c0 (D).length c6) w,.obj b5.heap.size (oW F)]) wr).b6 (eJ a7) (λc2 S d4=>absurd d4 (E.b.1.aZ c2 (Y8 (io (by simpa using S)))))).b6 ((ah [b] d7).O (p:=⟨b,9,none⟩) (by simp) (.slice h7 (x.u++w).length i0)) (λc2 S d4=>absurd d4 (E.b.1.aZ c2 (Y8 (by simp only[Yc]at S;rw[S];simp[PV.a5])))));have b6:=Z (I.b.call ⟨e9,e8⟩);clear b3 b2 b1 a7 a6 e9 e8));simp only[Yq]at b6;refine(jo A (by omega) (by omega) _).mono ?_;rintro e1 k0 ⟨rfl,b4⟩;have b7:=Z (b6.b.h b4);clear b4 b6 I;rw[b8.b]at b7;have j2:=ju A (by omega) (by omega);rw[h5.b]at H;unfold bB at j2 H;generalize Lib.itoa A=c9 at *
      obtain⟨m3,d2⟩:=b7.b.J;obtain⟨-,-,-,-,-,-,-,-,-,f2,-,-,-,-,-,o3,p5⟩:=d2.r;have d0:=d2.aP;unfold ac.sz at d0;simp only[YU,Yq]at d0;change k0.cell? _=some (.string ⟨x.b.toArray⟩)at f2;clear d2;have q0:¬(9223372036854775807<x.b.length+(B.length+b0.length)):=by omega
      have q1:¬(9223372036854775807<x.b.length+(B.length+b0.length)+4):=by omega
      have q2:¬(9223372036854775807<x.b.length+(B.length+b0.length)+4+c9.length):=by omega
      have q3:¬(9223372036854775807<x.b.length+(B.length+b0.length)+4+c9.length+2):=by omega
      clear d0;go_wp2;go_end0;rw[H.b];exact⟨rfl,((b7.b.e4 (K:=900000) (s:=B++b0++[125,32,61,32]++c9++[59,10]) (fo (by simp)) (by simp;omega)).L (by simp;omega)).fin⟩
   |false=>
    have l7:U (ep t (6-(k++[nu]).length) (z++[nm]) (k++[nu]) (all++G) (B++b0) d9=ep t 6 [] [] [] ([112,114,111,103,114,97,109,32]++F.text++[32,123,32]) k1):=Z (e0.b.trans (by rw[Y2 (by simp[l1])])).symm;have o8:d9.s.e=0->(k++[nu]).length<=4:=by
     intro o0;rcases Yj k.length 4 with n8|n8
     .simp;omega
     .have e2:=rt (n:=k.length) (m:=4) (by omega) d8;exact absurd o0 (by rw[(l5.b e2).1];exact e2)
    have l9:U ((z++[nm]).length=(k++[nu]).length):=Z (by have:=l2.b;simp;omega);have m0:U ((all++G).length<=9*(k++[nu]).length):=Z (by have:=g5.b;simp;omega);have h2:=Z (h1.b.L (N':=g+1+20*(k++[nu]).length) (by simp;omega));clear e6 e7 e0;go_wp2;refine⟨⟨g1,g3,g2,g4,c0,c6,z++[nm],k++[nu],all++G,B++b0,d9,by simp,by simp,by simp,?_,by simp;omega,l9,m0,o8,by simp;omega,h2,l7⟩,by simp[jx];omega⟩;exact Yo Value.string (fo (by simp))
  .have S:(d8.s.e==0)=false:=by rw[Yi];exact d3
   have H:=Z (e7.b.trans (Yo (rI t) (e6.b.symm.trans (zf d3))));clear d3 e6 e7 i6;have j0:all.length<=100:=by have:=g5.b;omega
   go_wp2_with fail;refine aA g0 (cB · 4 [125]) λr4 e4=>?_;(try clear h9 e2 a1);unfold rI at H;simp only at H;generalize ab t 4 [125] d8=C at *
   obtain⟨h6,O⟩:=e4.b.J;obtain⟨h8,i1,a0⟩:=bX O.o;obtain⟨-,-,-,-,-,-,-,-,-,-,-,-,-,-,a2,i4,i9⟩:=O.r;rw[a0]at a2;have f4:=O.aP;unfold ac.sz at f4;have f1:=Z (Cg O (v:=.slice h8 C.o.length i1) (l:=C.o) (a0▸O.o) (Ya ⟨a0.symm,rfl⟩) (by omega) (by omega));have j1:=tt (t:=t) C.o C;have P:=Dh (t:=t) C.o C;have h4:=Z a0;clear O a0 f4;go_wp2_with fail;refine f1.b.mono ?_;rintro e1 j9 ⟨r5,n6,n5,rfl,d6,f3,a3⟩;clear f1;generalize bC t C.o C=j4 at *
   obtain⟨A,x⟩:=j4;simp only at d6 j1 H a3 P;rw[<-h4.b]at a3;obtain⟨a5,c8⟩:=e4.b.k9 d6 f3 P.o a3;have j5:j9.cell? ⟨b,15,none⟩=some h6.gv:=aR a5 rfl;have j6:=cF a5;have j7:=aj a5;rw[P.o]at c8;have e5:=Z c8;have h5:=Z P.o;have m1:=Z P;clear c8 a5 d6 f3 a3 a2 i4 i9 P;go_wp2;go_loopw [11] (λd5 f9=>∃(r:Nat) (w:List bi),d5=.int .i64 r/\r<=(all).length/\U (w=((all).take r).map (λp=>{ p with prog:=A })++(all).drop r)/\U (aD d b t (g+1+20*5+1) { x with o:=C.o++[A] } [bD (.slice gQ z.length c4) z,cV (.slice b9 k.length c5) k,eC (.slice J (all).length M) w,.obj b5.heap.size (oW F)] h f9)) (λd5 _=>(all).length-(intOf d5).toNat)
   case atStart=>exact⟨0,all,rfl,by omega,Z (by simp),Z (e5.b.L (by omega))⟩
   case round=>
    obtain⟨r,w,rfl,i7,a4,I⟩:=hrel;clear e5 j5 j6 j7;rcases Yj r (all).length with a1|f6
    .have p0:(0:Int)<=↑r:=by omega
     have i8:(↑r:Int) < ↑(all).length:=by omega
     have f7:r<w.length:=by rw[a4.b,rz];exact a1
     obtain⟨n7,i5,o6,o7,n9,-⟩:=vD (I.b.a7 (i:=2) (a:=eC (.slice J (all).length M) w) rfl) f7;cases i5
     have b8:U (w.set r { w.getD r hB with prog:=A } = ((all).take (r+1)).map (λp=>{ p with prog:=A })++(all).drop (r+1)):=Z (by
      have i2:=vT (f:=λp:bi=>{ p with prog:=A }) a1;rw[a4.b,uJ a1];exact i2)
     have h3:=Z (I.b.i9 (i:=2) (k:=r) (j:=0) (p':={ w.getD r hB with prog:=A }) (v:=.int .i64 A) rfl f7 (by omega) rfl);go_wp2;exact⟨⟨r+1,_,by go_num,by omega,b8,h3⟩,by simp[intOf];omega⟩
    .have i8:¬((↑r:Int) < ↑(all).length):=by omega
     have b8:U (w=(all).map (λp=>{ p with prog:=A })):=Z (by
      rw[a4.b,List.take_of_length_le f6,YR f6,YH])
     have p7:w.length<=100:=by rw[a4.b,rz];exact j0
     obtain⟨f0,N⟩:=I.b.J;obtain⟨c1,c7,a8⟩:=bX N.u;obtain⟨-,-,-,-,-,-,-,-,c3,-,-,-,-,-,-,o4,p6⟩:=N.r;rw[a8]at c3;have d1:=N.aP;unfold ac.sz at d1;change wr.cell? _=some (.slice c1 x.u.length c7)at c3;have j3:U (wr.ownsRow 0 288 5 (.slice c1 x.u.length c7) x.u.length (x.u.flatMap eg)):=Z (a8▸N.u);have E:=Z (Yp N a8);have o5:x.u.length<=g+200:=by simp only at d1;omega
     clear N a8 d1;go_wp2_with (at_builtin;(refine zo (by rfl) _ _ (by rfl) (l:=x.u) (m:=w) (v:=.slice c1 x.u.length c7) (y:=.slice J (all).length M) (by rfl) (by rfl) j3.b (I.b.a7 (i:=2) (a:=eC (.slice J (all).length M) w) rfl) (by omega) ?_;intro h7 i0 d7 b3 b2 b1;have a7:wr.grownBy d7 f0.pv.ownBlock:=(by rw[E.b.2];exact b2);have a6:=E.b.1.h0 a7 E.b.1.H.p;have q8:d7.cell? ⟨b,9,none⟩=some f0.pv:=aR a6 rfl;have q9:=cF a6;have r0:=aj a6;have e9:=E.b.1.kT (ms:=w) a7 b3 (by rw[E.b.2];exact b1);have e8:=(((iH (gR d [bD (.slice gQ z.length c4) z,cV (.slice b9 k.length c5) k,eC (.slice J (all).length M) w,.obj b5.heap.size (oW F)]) wr).b6 (eJ a7) (λc2 S d4=>absurd d4 (E.b.1.aZ c2 (Y8 (io (by simpa using S)))))).b6 ((ah [b] d7).O (p:=⟨b,9,none⟩) (by simp) (.slice h7 (x.u++w).length i0)) (λc2 S d4=>absurd d4 (E.b.1.aZ c2 (Y8 (by simp only[Yc]at S;rw[S];simp[PV.a5])))));have b6:=Z (I.b.call ⟨e9,e8⟩);clear b3 b2 b1 a7 a6 e9 e8));simp only[Yq]at b6;refine(jo A (by omega) (by omega) _).mono ?_;rintro e1 k0 ⟨rfl,b4⟩;have b7:=Z (b6.b.h b4);clear b4 b6 I;rw[b8.b]at b7;have j2:=ju A (by omega) (by omega);rw[h5.b]at H;unfold bB at j2 H;generalize Lib.itoa A=c9 at *
     obtain⟨m3,d2⟩:=b7.b.J;obtain⟨-,-,-,-,-,-,-,-,-,f2,-,-,-,-,-,o3,p5⟩:=d2.r;have d0:=d2.aP;unfold ac.sz at d0;simp only[YU,Yq]at d0;change k0.cell? _=some (.string ⟨x.b.toArray⟩)at f2;clear d2;have q0:¬(9223372036854775807<x.b.length+B.length):=by omega
     have q1:¬(9223372036854775807<x.b.length+B.length+4):=by omega
     have q2:¬(9223372036854775807<x.b.length+B.length+4+c9.length):=by omega
     have q3:¬(9223372036854775807<x.b.length+B.length+4+c9.length+2):=by omega
     clear d0;go_wp2;go_end0;rw[H.b];exact⟨rfl,((b7.b.e4 (K:=900000) (s:=B++[125,32,61,32]++c9++[59,10]) (fo (by simp)) (by simp;omega)).L (by simp;omega)).fin⟩
variable {g n : Nat -> Prop} {c f l : Nat} {b : List UInt8} {a σ' : ac} {d k r e t : World} {h : PV} {j m : List Th} {i : Nat} {o q : Th}
def bf.g5(e:bf g c b f a h d):bf g c b (f+1) { a with j:=a.j+1 } h (d.setCell ⟨c,14,none⟩ (.int .i64 (a.j+1))):=by
 refine e.G (σ':={ a with j:=a.j+1 }) (bu (i:=14) e.I _) ((ah [c] d).O (p:=⟨c,14,none⟩) (by simp) _) rfl rfl rfl rfl e.fin e.b1 ?_ ?_
 .have:=e.aP;have:=e.cn;unfold ac.sz at *
  simp only;omega
 .have:=e.cn;simp only;omega
def aD.g5(i:aD g c b f a j k d):aD g c b (f+1) { a with j:=a.j+1 } j k (d.setCell ⟨c,14,none⟩ (.int .i64 (a.j+1))):=by
 obtain⟨h,e⟩:=i.J;exact i.call ⟨⟨h,e.g5⟩,uH e _⟩
def to(b:bF a)(c:Int):bF { a with j:=c }:=b
def Hl(M:bt g c b f a d)(ok:bF a)(v:∀p∈a.e,p.a0.length<=1000)(b7:f+2000000<=1000000000):Calls prog 48 #[.pointer (some ⟨c,0,none⟩)] d (GP g c b (f+2000000) (bG b a) (.tuple #[]) d):=by
 have o:=Z (iF M);replace ok:=Z ok;replace v:=Z v;obtain⟨h,O⟩:=M;obtain⟨a3,a9,b0,b1,b2,b3,b4,b5,b6,a4,a5,a6,a7,y,a8,A,B⟩:=O.r;go_in;go_wp2_with fail;refine(ga o.b.J 2 [99,111,110,115,116]).mono ?_;rintro N a2 ⟨rfl,rfl⟩;go_wp2_with fail;refine(ga o.b.J 2 [112,114,111,103,114,97,109]).mono ?_;rintro N a2 ⟨rfl,rfl⟩;cases z:ax a 2 [99,111,110,115,116]with
 |true=>
  have l:U (bG b a=fL b a):=by show _=_;unfold bG;rw[Y9 z]
  go_wp2_with fail;refine aA o (GE · (by omega)) λe i=>?_;go_wp2;go_end0;rw[l.b];exact⟨rfl,(i.b.L (by omega)).fin⟩
 |false=>
  cases K:ax a 2 [112,114,111,103,114,97,109]with
  |true=>
   have l:U (bG b a=gr b a):=by show _=_;unfold bG;rw[Y2 (by simp[z]),Y9 K]
   go_wp2_with fail;refine aA o (MS · (by omega)) λe i=>?_;go_wp2;go_end0;rw[l.b];exact⟨rfl,(i.b.L (by omega)).fin⟩
  |false=>
   by_cases H:a.s.x.f=2
   .have P:((a.s.x.f:Int) != 2)=false:=by rw[H];rfl
    have w:U (bG b a=if a.s.x.text=[116,121,112,101,100,101,102]then gf b { ar a.j 24 a with j:=(ar a.j 24 a).j+1 }else if a.s.x.text=[101,110,117,109]then gD b { ar a.j 24 a with j:=(ar a.j 24 a).j+1 }else if a.s.x.text=[115,116,114,117,99,116]then gt b { ar a.j 24 a with j:=(ar a.j 24 a).j+1 }else if a.s.x.text=[117,110,105,111,110]then fU b { ar a.j 24 a with j:=(ar a.j 24 a).j+1 }else da a):=by
     show _=_;unfold bG;rw[Y2 (by simp[z]),Y2 (by simp[K])];simp only[H];by_cases j:a.s.x.text=[116,121,112,101,100,101,102]
     .rw[Y2 (by simp[j]),Y9 j,Y9 j]
     .by_cases k:a.s.x.text=[101,110,117,109]
      .rw[Y2 (by simp[k]),Y2 j,Y9 k,Y2 j,Y9 k]
      .by_cases n:a.s.x.text=[115,116,114,117,99,116]
       .rw[Y2 (by simp[n]),Y2 j,Y2 k,Y9 n,Y2 j,Y2 k,Y9 n]
       .by_cases q:a.s.x.text=[117,110,105,111,110]
        .rw[Y2 (by simp[q]),Y2 j,Y2 k,Y2 n,Y2 j,Y2 k,Y2 n,Y9 q]
        .rw[Y9 (Ya ⟨j,k,n,q⟩),Y2 j,Y2 k,Y2 n,Y2 q]
    cases j:(a.s.x.text==[116,121,112,101,100,101,102])with
    |true=>
     have R:(a.s.x.text != [116,121,112,101,100,101,102])=false:=by simp[bne,j]
     have l:U (bG b a=gf b { ar a.j 24 a with j:=(ar a.j 24 a).j+1 }):=by show _=_;rw[w.b,Y9 (by simpa using j)]
     go_wp2_with fail;refine aA o (kC · a.j 24) λe i=>?_;obtain⟨E,m⟩:=i.b.J;obtain⟨-,-,-,-,-,-,-,-,-,-,-,-,-,y,-,A,B⟩:=m.r;have u:=m.aP;have F:=m.cn.2;unfold ac.sz at u;have G:IntKind.i64.wrap ((ar a.j 24 a).j+1)=(ar a.j 24 a).j+1:=by rw[IntKind.wrap_i64];omega
     have I:-9223372036854775808<=(ar a.j 24 a).j+1:=by omega
     have J:(ar a.j 24 a).j+1<=9223372036854775807:=by omega
     have r:=Z i.b.g5;have C:=Z (to (ez ok.b (cw a.j 24 a).p) ((ar a.j 24 a).j+1));have D:U (∀p∈(ar a.j 24 a).e,p.a0.length<=1000):=Z (by rw[(cw a.j 24 a).e];exact v.b);go_wp2_with fail;refine aA r (Rx · (by omega)) λL t=>?_;go_wp2;go_end0;rw[l.b];exact⟨rfl,(t.b.L (by omega)).fin⟩
    |false=>
     have R:(a.s.x.text != [116,121,112,101,100,101,102])=true:=by simp[bne,j]
     cases k:(a.s.x.text==[101,110,117,109])with
     |true=>
      have S:(a.s.x.text != [101,110,117,109])=false:=by simp[bne,k]
      have l:U (bG b a=gD b { ar a.j 24 a with j:=(ar a.j 24 a).j+1 }):=by show _=_;rw[w.b,Y2 (by simpa using j),Y9 (by simpa using k)]
      go_wp2_with fail;refine aA o (kC · a.j 24) λe i=>?_;obtain⟨E,m⟩:=i.b.J;obtain⟨-,-,-,-,-,-,-,-,-,-,-,-,-,y,-,A,B⟩:=m.r;have u:=m.aP;have F:=m.cn.2;unfold ac.sz at u;have G:IntKind.i64.wrap ((ar a.j 24 a).j+1)=(ar a.j 24 a).j+1:=by rw[IntKind.wrap_i64];omega
      have I:-9223372036854775808<=(ar a.j 24 a).j+1:=by omega
      have J:(ar a.j 24 a).j+1<=9223372036854775807:=by omega
      have r:=Z i.b.g5;have C:=Z (to (ez ok.b (cw a.j 24 a).p) ((ar a.j 24 a).j+1));have D:U (∀p∈(ar a.j 24 a).e,p.a0.length<=1000):=Z (by rw[(cw a.j 24 a).e];exact v.b);go_wp2_with fail;refine aA r (HC · (by omega)) λL t=>?_;go_wp2;go_end0;rw[l.b];exact⟨rfl,(t.b.L (by omega)).fin⟩
     |false=>
      have S:(a.s.x.text != [101,110,117,109])=true:=by simp[bne,k]
      cases n:(a.s.x.text==[115,116,114,117,99,116])with
      |true=>
       have a0:(a.s.x.text != [115,116,114,117,99,116])=false:=by simp[bne,n]
       have l:U (bG b a=gt b { ar a.j 24 a with j:=(ar a.j 24 a).j+1 }):=by show _=_;rw[w.b,Y2 (by simpa using j),Y2 (by simpa using k),Y9 (by simpa using n)]
       go_wp2_with fail;refine aA o (kC · a.j 24) λe i=>?_;obtain⟨E,m⟩:=i.b.J;obtain⟨-,-,-,-,-,-,-,-,-,-,-,-,-,y,-,A,B⟩:=m.r;have u:=m.aP;have F:=m.cn.2;unfold ac.sz at u;have G:IntKind.i64.wrap ((ar a.j 24 a).j+1)=(ar a.j 24 a).j+1:=by rw[IntKind.wrap_i64];omega
       have I:-9223372036854775808<=(ar a.j 24 a).j+1:=by omega
       have J:(ar a.j 24 a).j+1<=9223372036854775807:=by omega
       have r:=Z i.b.g5;have C:=Z (to (ez ok.b (cw a.j 24 a).p) ((ar a.j 24 a).j+1));have D:U (∀p∈(ar a.j 24 a).e,p.a0.length<=1000):=Z (by rw[(cw a.j 24 a).e];exact v.b);go_wp2_with fail;refine aA r (Qs · (by omega)) λL t=>?_;go_wp2;go_end0;rw[l.b];exact⟨rfl,(t.b.L (by omega)).fin⟩
      |false=>
       have a0:(a.s.x.text != [115,116,114,117,99,116])=true:=by simp[bne,n]
       cases q:(a.s.x.text==[117,110,105,111,110])with
       |true=>
        have a1:(a.s.x.text != [117,110,105,111,110])=false:=by simp[bne,q]
        have l:U (bG b a=fU b { ar a.j 24 a with j:=(ar a.j 24 a).j+1 }):=by show _=_;rw[w.b,Y2 (by simpa using j),Y2 (by simpa using k),Y2 (by simpa using n),Y9 (by simpa using q)]
        go_wp2_with fail;refine aA o (kC · a.j 24) λe i=>?_;obtain⟨E,m⟩:=i.b.J;obtain⟨-,-,-,-,-,-,-,-,-,-,-,-,-,y,-,A,B⟩:=m.r;have u:=m.aP;have F:=m.cn.2;unfold ac.sz at u;have G:IntKind.i64.wrap ((ar a.j 24 a).j+1)=(ar a.j 24 a).j+1:=by rw[IntKind.wrap_i64];omega
        have I:-9223372036854775808<=(ar a.j 24 a).j+1:=by omega
        have J:(ar a.j 24 a).j+1<=9223372036854775807:=by omega
        have r:=Z i.b.g5;have C:=Z (to (ez ok.b (cw a.j 24 a).p) ((ar a.j 24 a).j+1));have D:U (∀p∈(ar a.j 24 a).e,p.a0.length<=1000):=Z (by rw[(cw a.j 24 a).e];exact v.b);go_wp2_with fail;refine aA r (RF · C.b D.b (by omega)) λL t=>?_;go_wp2;go_end0;rw[l.b];exact⟨rfl,(t.b.L (by omega)).fin⟩
       |false=>
        have a1:(a.s.x.text != [117,110,105,111,110])=true:=by simp[bne,q]
        have l:U (bG b a=da a):=by show _=_;rw[w.b,Y2 (by simpa using j),Y2 (by simpa using k),Y2 (by simpa using n),Y2 (by simpa using q)]
        go_wp2_with fail;refine aA o (nY ·) λe i=>?_;go_wp2;go_end0;rw[l.b];exact⟨rfl,(i.b.L (by omega)).fin⟩
   .have P:((a.s.x.f:Int) != 2)=true:=by simp;omega
    have l:U (bG b a=da a):=by show _=_;unfold bG;rw[Y2 (by simp[z]),Y2 (by simp[K]),Y9 (Y8 H)]
    go_wp2_with fail;refine aA o (nY ·) λe i=>?_;go_wp2;go_end0;rw[l.b];exact⟨rfl,(i.b.L (by omega)).fin⟩
variable {j s : Nat -> Prop} {d g q : Nat} {l : List UInt8} {a o : ac} {c u e w m : World} {b : PV} {L r : List Th} {i : Nat} {h t : Th}
def SJ{e f:Type}:∀(d:List e) (a:List f) (i:Nat) (h:e) (b:f),a[i]? = some b->(d.set i h).zip a=(d.zip a).set i (h,b):=by
 intro d;induction d with
 |nil=>intro a i h b _;simp
 |cons j d g=>
  intro a i h b c;cases a with
  |nil=>simp at c
  |cons k a=>
   cases i with
   |zero=>simp at c;subst c;simp
   |succ i=>simp at c;simp[g a i h b c]
def lA(a:ac)(i:Nat)(b:Int):ac:={ a with e:=a.e.set i { a.e.getD i cS with of:=b } }
def bf.n7{b:PV}(h:bf j d l g a b c){i n I:Nat}(v:i<a.e.length)(B:b.rv=.slice (some ⟨n,0,none⟩) a.e.length I)(r:Int):bf j d l g (lA a i r) b (c.setCell ⟨n,i*8+2,none⟩ (.int .i64 r)):=by
 have K:b.rv.ownBlock=some n:=by rw[B];rfl
 have q:ai [n] c (c.setCell ⟨n,i*8+2,none⟩ (.int .i64 r)):=(ah [n] c).O (p:=⟨n,i*8+2,none⟩) (by simp) _;have t:∀e,b.rv.ownBlock≠some e->e ∉ [n]:=λe m A=>by
  simp only[Yc]at A;exact m (by rw[K,A])
 have E:∀e∈b.aC,b.rv.ownBlock≠some e:=λe m o=>h.bg e m (hL o);have M:i<b.ls.length:=by rw[h.ak];exact v
 have y:a.e[i]? = some (a.e.getD i cS):=by simp[v]
 have z:b.ls[i]? = some b.ls[i]:=Yd M;have J:(a.e.zip b.ls)[i]? = some (a.e.getD i cS,b.ls[i]):=by rw[List.getElem?_zip_eq_some];exact⟨y,z⟩
 have R:(mo a.e b.ls).length=a.e.length*8:=h.e.1;refine⟨(q.i d (aj h.I) (t d h.H.r)).trans h.I,?_,aX h.g q λe m=>t e (λo=>h.H.rn e o m),aX h.u q λe m=>t e (λo=>h.H.rp e o m),h.o.aC q λe m=>t e (λo=>h.H.rg e o m),?_,?_,h.H,h.bg,h.aZ,λe O=>Yr (h.al e O) q.F,h.fin,h.b1,h.b5,?_,h.cn⟩
 .have F:=h.e;rw[B]at F ⊢;have x:=tA F (i:=i*8+2) (by omega) (.int .i64 r);unfold mo at x;rw[sU (f:=λs:bc×(Value×Value)=>kJ s.1 s.2) (k:=8) (λ_=>rfl) (a.e.zip b.ls) i 2 _ ({ a.e.getD i cS with of:=r },b.ls[i]) _ (by omega) J rfl,<-SJ a.e b.ls i _ _ z]at x;unfold lA mo;simp only[YF];exact x
 .unfold lA;simp only[YF];exact h.ak
 .intro C P s p w;unfold lA at p;simp only at p;rw[YP]at p;have D:∀u,a.e[C]? = some u->dQ s.1 u.a0 (c.setCell ⟨n,i*8+2,none⟩ (.int .i64 r))/\dQ s.2 u.bY (c.setCell ⟨n,i*8+2,none⟩ (.int .i64 r)):=by
   intro u N;obtain⟨G,H⟩:=h.et C u s N w;exact⟨G.aC q λe m=>t e (E e (hr w (Y8 m))),H.aC q λe m=>t e (E e (hr w (Ya m)))⟩
  split at p
  .rename_i L;subst L;simp[v]at p;subst p;have:=D _ y;simpa[v]using this
  .exact D P p
 .have:=h.aP;unfold ac.sz lA at *
  simp only[YF];exact this
def fh(a:ac)(b:List UInt8):de:=a.g.getD (bz a b).toNat gT
def mm:Nat->Nat->ac->ac
 |0,_,a=>a
 |k+1,i,a=>
  if(a.e.getD i cS).f=14 then
   if bz a (a.e.getD i cS).a8<0\/(fh a (a.e.getD i cS).a8).ag≠1 then bo 7 (a.e.getD i cS).m a
   else mm k (i+1) (lA a i (fh a (a.e.getD i cS).a8).n)
  else mm k (i+1) a
def lx(a:ac):ac:=mm a.e.length 0 a
def Nz(p:bt j d l g a c)(b6:g<=1000000000):Calls prog 49 #[.pointer (some ⟨d,0,none⟩)] c (GP j d l g (lx a) (.tuple #[]) c):=by
 have a7:=Z (iF p);have b4:=p.aP;unfold ac.sz at b4;have f2:a.e.length<=1000000000:=by omega
 go_in;go_wp2;go_loopw [2] (λO d0=>∃(i:Nat) (o:ac),O=.int .i64 i/\i<=a.e.length/\U (o.e.length=a.e.length)/\U (aD j d l g o [] c d0)/\U (mm (a.e.length-i) i o=lx a)) (λO _=>a.e.length-(intOf O).toNat)
 case atStart=>exact⟨0,a,rfl,by omega,Z rfl,a7,Z rfl⟩
 case round=>
  obtain⟨i,f,rfl,e6,z,A,t⟩:=hrel;obtain⟨b,gQ,b2,k,E⟩:=A.b.J.sp;obtain⟨d8,e0,c4⟩:=bX k.e;obtain⟨-,-,-,-,-,-,B,C,-,-,-,-,-,-,-,b8,c1⟩:=k.r;rcases Yj i a.e.length with c2|e4
  .obtain⟨h,N⟩:∃h,f.e.getD i cS=h:=⟨_,rfl⟩;have e7:(0:Int)<=↑i:=by omega
   have M:i<f.e.length:=by rw[z.b];exact c2
   have a0:=Z (t.b.symm.trans (by rw[show a.e.length-i=(a.e.length-(i+1))+1 by omega,mm,N]));obtain⟨q,I,c9,y,-,P,-,-,-,-,-,R,S,d3,d4,b9⟩:=tH k M;rw[N]at P R S;rw[y]at B;rw[E]at C;have c0:(↑i:Int) < ↑f.e.length:=by omega
   have a3:=Z (ol (k.t (ah [] wr).ae) b6 h.a8);rw[E]at a3;have H:=Z k;by_cases D:h.f=14
   .have b7:(h.f==14)=true:=by rw[D];rfl
    have r:=Z (a0.b.trans (by rw[Y9 D]));go_wp2;refine cR (λe=>e.cell? ⟨d,8,none⟩=some (.slice gQ f.g.length b2)/\e.cell? ⟨d,7,none⟩=some (.slice (some ⟨q,0,none⟩) f.e.length I)/\e.cell? ⟨q,i*8+6,none⟩=some (.string ⟨h.a8.toArray⟩)) (L:=15) (by kernel_rfl) rfl (by kernel_rfl) (by kernel_rfl) ?_ (λa4=>?_)
    .go_keep
    refine bH [0,1,2,3,4,5,6,7,8,9,10,11,12,13] ?_;iterate 14 (refine bO (v:=?_) rfl (by kernel_rfl) (λ_ _ _ u=>u) (by kernel_rfl) (by assumption) ?_ ?_;rotate_left;focus (intro c K;(try dsimp only at K);go_simp;(try with_reducible rfl));(try simp only[aK,aL,List.set]))
    refine bI ?_;refine cj 14 (by kernel_rfl) rfl λa2 x=>?_;(go_simp;refine a3.b.mono ?_;rintro e1 f3 ⟨rfl,rfl⟩);refine x.out _ _ ?_ (λa4=>?_)
    .go_keep
    (try simp only[aK,aL,List.set]);refine cP (by kernel_rfl) rfl λa2 x=>?_;go_simp;refine x.out _ _ ?_;(try simp only[aK,aL,List.set]);have w:=Z A.b.ae;generalize wr.drew=m at w ⊢;obtain⟨b,d7,d9,k,E⟩:=w.b.J.sp;obtain⟨q,I,c9,y,-,P,-,d2,-,-,-,R,S,d3,d4,b9⟩:=tH k M;obtain⟨-,-,-,-,-,-,B,C,-,-,-,-,-,-,-,b8,c1⟩:=k.r;rw[N]at P d2 R S;rw[y]at B;have H:=Z k;have a1:=Z y;by_cases b5:bz f h.a8<0
    .have t:U (lx a=bo 7 h.m f):=Z (r.b.trans (by rw[Y9 (Y8 b5)]));rw[E]at C;go_wp2_with fail;refine aA w (iP · 7 h.m) λd1 G=>?_;go_wp2;go_end0;rw[t.b];exact⟨rfl,G.b.fin⟩
    .have c3:=rm (by omega:0<=bz f h.name);obtain⟨J,b1,a6,-,d5,d6,-,f4,f5,e3⟩:=ow k c3;change m.cell? _=some (.int .i64 (fh f h.a8).ag)at d5;change m.cell? _=some (.int .i64 (fh f h.a8).n)at d6;rw[a6]at C;have e5:J≠q:=λb3=>k.H.rn q (by rw[y];rfl) (by rw[a6,b3];rfl);generalize e2:bz f h.a8=s at *
     obtain⟨s,rfl⟩:∃c6:Nat,s=c6:=⟨s.toNat,by omega⟩;simp only[Int.toNat_natCast]at *
     have f0:(s:Int)<(f.g.length:Int):=by omega
     have e9:decide ((s:Int)<0)=false:=by simp
     have f1:(0:Int)<=s:=by omega
     by_cases F:(fh f h.a8).ag=1
     .have c5:((fh f h.a8).ag != 1)=false:=by rw[F];rfl
      have a9:U (mm (a.e.length-(i+1)) (i+1) (lA f i (fh f h.a8).n)=lx a):=Z (r.b.trans (by rw[Y2 (by rintro(u|u);omega;exact u F)])).symm;have a8:=Z (w.b.call ⟨⟨b,H.b.n7 M a1.b (fh f h.a8).n⟩,si ((ah [q] m).O (p:=⟨q,i*8+2,none⟩) (by simp) (.int .i64 (fh f h.a8).n)) (λc7 a5 _=>H.b.aZ c7 (Y8 (hL (by simp at a5;rw[a5,a1.b];rfl))))⟩);have b0:U ((lA f i (fh f h.a8).n).e.length=a.e.length):=Z (by unfold lA;simp only[YF];exact z.b);generalize e8:(fh f h.a8).n=c8 at *
      go_wp2;refine cR (λe=>e.cell? ⟨d,8,none⟩=some (.slice (some ⟨J,0,none⟩) f.g.length b1)/\e.cell? ⟨d,7,none⟩=some (.slice (some ⟨q,0,none⟩) f.e.length I)/\e.cell? ⟨J,s*4+2,none⟩=some (.int .i64 c8)) (L:=17) (by kernel_rfl) rfl (by kernel_rfl) (by kernel_rfl) ?_ (λa4=>?_)
      .go_keep
      refine bH [0,1,2,3,4,5,6,7,8,9,10,11,12,13,14,15,16] ?_;iterate 17 (refine bO (v:=?_) rfl (by kernel_rfl) (λ_ _ _ u=>u) (by kernel_rfl) (by assumption) ?_ ?_;rotate_left;focus (intro c K;(try dsimp only at K);go_simp;(try with_reducible rfl));(try simp only[aK,aL,List.set]))
      refine bI ?_;refine cP (by kernel_rfl) rfl λa2 x=>?_;go_simp;refine x.out _ _ ?_;(try simp only[aK,aL,List.set]);go_wp2;exact⟨⟨i+1,_,by go_num,by omega,b0,Z a8.b.ae,a9⟩,by simp[intOf];omega⟩
     .have c5:((fh f h.a8).ag != 1)=true:=by simpa using F
      have t:U (lx a=bo 7 h.m f):=Z (r.b.trans (by rw[Y9 (Ya F)]));go_wp2_with fail;refine aA w (iP · 7 h.m) λd1 G=>?_;go_wp2;go_end0;rw[t.b];exact⟨rfl,G.b.fin⟩
   .have b7:(h.f==14)=false:=by rw[Yi];exact D
    have r:=Z (a0.b.trans (by rw[Y2 D])).symm;go_wp2;exact⟨⟨i+1,f,by go_num,by omega,z,A,r⟩,by simp[intOf];omega⟩
  .have c0:¬((↑i:Int) < ↑f.e.length):=by rw[z.b];omega
   have r:U (lx a=f):=Z (t.b.symm.trans (by rw[show a.e.length-i=0 by omega,mm]));rw[c4]at B;go_wp2;go_end0;rw[r.b];exact⟨rfl,A.b.fin⟩
variable {g k : Nat -> Prop} {P f i : Nat} {t : List UInt8} {c u : ac} {a q b r s : World} {d : PV} {h j : List Th} {p : Nat} {e o : Th}
def Ox(a:World)(j:TypeId){v n:Value}{c d:List Int}(h:dQ v c a)(i:dQ n d a)(J:c.length+d.length<=1000000000) :
  ∃e b,(Builtin.append_ #[24,24] j #[v,n]).run prog a=.ok e b/\dQ e (c++d) b/\a.grownBy b v.ownBlock/\(e.ownBlock=v.ownBlock\/e.ownBlock=some a.heap.size):=by
 obtain⟨l,k,y,z,A⟩:=info_parts om;have B:(Value.int .i64 0).cells.size=1:=rfl;unfold dQ at *
 rw[Yq,List.map_append];rcases i.2 with⟨rfl,r⟩|⟨g,p,E,rfl,F,s,G,H,I,t⟩
 .have w:d=[]:=Yv.1 r;subst w;refine⟨v,a,run_append_owned_none (P:=prog) a 0 24 j 3 l 1 underlying24 k v c.length _ h,by simpa using h,AT _ _,Y8 rfl⟩
 .obtain⟨e,b,x,C,q,_,o⟩:=run_append_own_at (P:=prog) a 0 24 j 3 l _ 1 8 underlying24 k y z A B (by omega) v c.length (c.map (Value.int .i64)) h ⟨g,0,none⟩ d.length p (d.map (Value.int .i64)) i.1 (by
   intro m D f;have u:(⟨g,0,none⟩:Addr).add m=⟨g,m,none⟩:=by unfold Addr.add;split<;>simp_all
   rw[u];exact cu s (by rw[i.1];exact t) f) (by intro D f;simp at f;obtain⟨_,_,rfl⟩:=f;rfl) (by unfold maxLen;omega) (by omega) (YV _)
  exact⟨e,b,x,C,q,o⟩
def Sq{g:Array Oper}{rest:List Oper}{d:Oper}{e:Act}{Q:Exit->Act->World->Prop}{a:World}(p:d.guard=none)(h i:Operand)
  (r:d.op=.call { callee:=.builtin .append,args:=#[h,i],argTypes:=#[24,24] }) {v y:Value} {l m:List Int} (t:e.eval h=v) (w:e.eval i=y) (u:dQ v l a) (x:dQ y m a) (q:l.length+m.length<=1000000000)
  (n:∀ad c b,dQ (.slice ad (l++m).length c) (l++m) b->a.grownBy b v.ownBlock->((Value.slice ad (l++m).length c).ownBlock=v.ownBlock\/(Value.slice ad (l++m).length c).ownBlock=some a.heap.size)->wpList prog g Q rest (e.put d.dst (.slice ad (l++m).length c)) b):wpList prog g Q (d::rest) e a:=by
 refine wpList_plain p λz o=>?_;obtain⟨A,b,s,f,k,j⟩:=Ox a d.type u x q;obtain⟨ad,c,rfl⟩:=bX f;unfold Oper.wp execOp;simp only[r,resolve,invoke,builtin,Sem.run_bind,Sem.run_pure,Result.andThen_ok,List.map_toArray,List.map_cons,List.map_nil,t,w,s];exact o _ _ (n ad c b f k j)
def LI{ad:Option Addr}{f h a b c:Nat}(g:(Value.slice ad f a).ownBlock=(Value.slice none 0 0).ownBlock\/(Value.slice ad f a).ownBlock=some b)(d:(Value.slice ad h a).ownBlock=some c):c=b:=by
 cases ad with
 |none=>simp[Value.ownBlock]at d
 |some e=>
  simp[Value.ownBlock]at g d;omega
def lg{e:List Nat}{a g h:World}(b:ai [] a g)(c:ai e g h)(i:∀k∈e,a.heap.size<=k):ai [] a h:=
 ⟨c.os.trans b.os,c.c2.trans b.c2,c.c1.trans b.c1,Yz b.F c.F,λd f _=>(c.i d (Yr f b.F) (λj=>by have:=i d j;omega)).trans (b.i d f (by simp))⟩
def ct(a:bc):List Int:=if a.f=14\/a.f=9 then [a.of]else if a.f=12 then a.bY else if a.f=13 then a.bY++[a.eV]else []
abbrev mt(d:PV)(c:ac):Value:=.agg #[d.rv,d.nv,d.pv,.string ⟨c.b.toArray⟩]
abbrev Ov(a:bc)(b:Value×Value):Obj:=.cells #[.int .i64 a.f,.int .i64 a.n,.int .i64 a.of,b.1,b.2,.int .i64 a.eV,.string ⟨a.a8.toArray⟩,.int .i64 a.m] 117
def JB(p:bf g P t f c d a){k:Nat}(F:k<c.e.length)(e2:f<=1000000000)(e5:(c.e.getD k cS).bY.length<=1000):Calls prog 91 #[mt d c,.int .i64 k] a λb4 b=>∃v,b4=.returned v/\ai [] a b/\dQ v (ct (c.e.getD k cS)) b/\∀h,v.ownBlock=some h->h∈d.aC\/a.heap.size<=h:=by
 obtain⟨d4,d6,b9⟩:=bX p.g;obtain⟨d5,d7,c0⟩:=bX p.u;obtain⟨e1,d8,G,c2,A,e8,e9,f0,d2,d3,f1,f2,f3,f4,f5,-⟩:=tH p F;have z:=(p.et k (c.e.getD k cS) G (by simp[F]) A).2;have R:=(p.et k (c.e.getD k cS) G (by simp[F]) A).1;obtain⟨gQ,C,a0⟩:=bX z;obtain⟨a7,b2,S⟩:=bX R;obtain⟨e6,e7⟩:=G;simp only at S a0 d2 d3 z;subst S a0;have N:=p.aP;unfold ac.sz at N;generalize c1:c.e.getD k cS=e at *
 have e3:(0:Int)<=↑k:=by omega
 have e4:(↑k:Int) < ↑c.e.length:=by omega
 have J:=Z z;have a3:=Z (λh (m:(Value.slice gQ e.bY.length C).ownBlock=some h)=>hr A (Ya m));clear p z R c1 A N;unfold mt;rw[c2,b9,c0];by_cases j:e.f=14\/e.f=9
 .have n:U (ct e=[e.of]):=by show _=_;unfold ct;rw[Y9 j]
  by_cases i:e.f=14
  .have M:(e.f==14)=true:=by rw[i];rfl
   clear i j;go_in;go_wp2;go_ret;rw[n.b];exact⟨_,rfl,(((ah [] a).d _).d _).d _,⟨rfl,Ya ⟨a.heap.size+1+1,1,#[.int .i64 e.of],rfl,YV _,aJ (by simp),by simp,by unfold maxLen;omega,rfl,rfl⟩⟩,λh m=>Ya (by simp[Value.ownBlock]at m;omega)⟩
  .have M:(e.f==14)=false:=by rw[Yi];exact i
   have a8:(e.f==9)=true:=by rw[j.resolve_left i];rfl
   clear i j;go_in;go_wp2;go_ret;rw[n.b];exact⟨_,rfl,(((ah [] a).d _).d _).d _,⟨rfl,Ya ⟨a.heap.size+1+1,1,#[.int .i64 e.of],rfl,YV _,aJ (by simp),by simp,by unfold maxLen;omega,rfl,rfl⟩⟩,λh m=>Ya (by simp[Value.ownBlock]at m;omega)⟩
 .have M:(e.f==14)=false:=by rw[Yi];exact λi=>j (Y8 i)
  have a8:(e.f==9)=false:=by rw[Yi];exact λi=>j (Ya i)
  by_cases o:e.f=12
  .have n:U (ct e=e.bY):=by show _=_;unfold ct;rw[Y2 j,Y9 o]
   have a9:(e.f==12)=true:=by rw[o];rfl
   clear j o;go_in;go_wp2;go_ret;rw[n.b];exact⟨_,rfl,((ah [] a).d _).d _,J.b.aC (((ah [] a).d _).d _) (by simp),λh m=>Y8 (a3.b h m)⟩
  .have a9:(e.f==12)=false:=by rw[Yi];exact o
   by_cases q:e.f=13
   .have n:U (ct e=e.bY++[e.eV]):=by show _=_;unfold ct;rw[Y2 j,Y2 o,Y9 q]
    have b0:(e.f==13)=true:=by rw[q];rfl
    obtain⟨c7,b5,c3,c4,c5⟩:=info_parts om;have c6:(Value.int .i64 0).cells.size=1:=rfl;have H:=Z (λc9 d0=>J.b.aC (((ah [] a).d c9).d d0) (by simp));have b8:e.bY.length+1<=maxLen:=by unfold maxLen;omega
    clear j o q;go_in;go_wp2_with (at_builtin;(first|(refine Sq (by rfl) _ _ (by rfl) (l:=[]) (m:=e.bY) (v:=.slice none 0 0) (y:=.slice gQ e.bY.length C) (by rfl) (by rfl) (ta _) (H.b _ _) (by simp;omega) ?_;intro B D s w r u;have K:=Z ((((ah [] a).d _).d _).a (eJ r));have O:s.heap[a.heap.size+1]? = some (Ov e (.slice a7 e.a0.length b2,.slice gQ e.bY.length C)):=((r.block _ (by simp) (by simp[Value.ownBlock])).trans (aJ (by simp)));obtain⟨f6,f7,f8,f9,g0,g1,g2,g3,g4,g5⟩:=zY O;have a6:U (dQ (.slice B e.bY.length D) e.bY s):=Z w;have L:=Z (λc8=>a6.b.aC ((ah [] s).d c8) (by simp));have I:U (∀x,(Value.slice B e.bY.length D).ownBlock=some x->a.heap.size<=x):=Z (λx E=>(by have b3:=LI u E;simp at b3;omega));clear w r u O H)|(refine wpList_append_lies _ (by rfl) _ _ _ (by rfl) 0 3 c7 _ 1 8 underlying24 b5 c3 c4 c5 c6 (by omega) (.slice B e.bY.length D) e.bY.length (e.bY.map (Value.int .i64)) (by rfl) (L.b _) ⟨s.heap.size,0,none⟩ 1 1 [.int .i64 e.eV] (by rfl) (by rfl) (World.news_of_block (cs:=#[.int .i64 e.eV]) (t:=3) (fr:=(0,0)) (heap_alloc_new s _)) (by simp[Value.oneCell']) (by omega) b8 (by omega) (by simp) (s.heap.size+1) (by simp) ?_;intro h b1 d1 w r u b6;have a5:U (dQ (.slice (some ⟨h,0,none⟩) (e.bY.length+1) b1) (e.bY++[e.eV]) d1):=Z (by unfold dQ;rw[Yq,List.map_append];exact w);have a4:=Z (lg (K.b.d _) (eJ r) (λa1 b7=>I.b a1 (by simpa using b7)));have a2:U (a.heap.size<=h):=Z (u.elim (λi=>I.b h i) (λi=>(by have:=K.b.F;omega)));clear w r u b6 L)));go_ret;rw[n.b];exact⟨_,rfl,a4.b,a5.b,λx E=>Ya (by have:=a2.b;simp[Value.ownBlock]at E;omega)⟩
   .have n:U (ct e=[]):=by show _=_;unfold ct;rw[Y2 j,Y2 o,Y2 q]
    have b0:(e.f==13)=false:=by rw[Yi];exact q
    clear j o q;go_in;go_wp2;go_ret;rw[n.b];exact⟨_,rfl,((ah [] a).d _).d _,ta _,λh m=>by simp[Value.ownBlock]at m⟩
variable {g o : Nat -> Prop} {P e l : Nat} {h : List UInt8} {a u : ac} {c s d b t : World} {f : PV} {k n : List Th} {i : Nat} {q r : Th}
def hm(c:List Int)(a:List Bool):List Bool:=c.foldl (λa b=>if 0<=b then a.set b.toNat true else a) a
def gJ(a:ac):Nat->Nat->List Bool->List Bool
 |0,_,b=>b
 |m+1,c,b=>gJ a m (c+1) (if b.getD c false=true then hm (ct (a.e.getD c cS)) b else b)
def fJ(a:ac):Nat->List Bool->List Bool
 |0,b=>b
 |m+1,b=>fJ a m (gJ a a.e.length 0 b)
def ma(a:ac)(b:Nat):Bool:=(fJ a a.e.length (hm (ct (a.e.getD b cS)) (List.replicate a.e.length false))).getD b false
def sn(a:ac):Prop:=∀b∈a.e,b.bY.length<=1000/\∀c∈ct b,c<a.e.length
def xO(b:List Int):∀a:List Bool,(hm b a).length=a.length:=by
 induction b with
 |nil=>intro a;rfl
 |cons d b c=>
  intro a;unfold hm at *
  rw[YY,c];split<;>simp
def CG(a:ac):∀(b d:Nat) (c:List Bool),(gJ a b d c).length=c.length:=by
 intro b;induction b with
 |zero=>intro d c;rfl
 |succ b e=>
  intro d c;unfold gJ;rw[e];split
  .exact xO _ _
  .rfl
abbrev ia(a:List Bool):Obj:=.cells (a.map Value.bool).toArray 4
def IO:(prog.info? 4).map (λi=>(i.zero,i.size,i.bytes))=some (some (.bool false),1,1):=by kernel_rfl
def JZ(a:Nat):(Obj.cells (madeCells #[.bool false] a) 4)=ia (List.replicate a false):=by
 unfold ia madeCells;congr 1;apply Array.ext
 .simp
 .intro i b c;simp[Nat.mod_one]
def CM{a j:Nat}{b:List Bool}(d:c.heap[a]? = some (ia b)):(c.setCell ⟨a,j,none⟩ (.bool true)).heap[a]? = some (ia (b.set j true)):=by
 have:=bu (i:=j) d (.bool true);rw[this];simp[ia,List.map_set]
def Bw{b:List Int}{a:Nat}{c:List Bool}(d:a<b.length):hm (b.drop a) c=hm (b.drop (a+1)) (if 0<=b.getD a 0 then c.set (b.getD a 0).toNat true else c):=by
 have e:b.drop a=b.getD a 0::b.drop (a+1):=by
  rw[Yk d];simp[d]
 rw[e];rfl
def Ba{v:Value}{d:List Int}{b:Nat}(f:dQ v d c)(h:b<d.length):∃a e,v=.slice (some ⟨a,0,none⟩) d.length e/\c.cell? ⟨a,b,none⟩=some (.int .i64 (d.getD b 0))/\a<c.heap.size:=by
 obtain⟨a,e,k,g,_,j⟩:=jY f (i:=b) (x:=.int .i64 (d.getD b 0)) (by simp[h]);exact⟨a,e,k,g,j⟩
def vP{d a:Nat}{b:List Bool}(e:c.heap[d]? = some (ia b))(f:a<b.length):c.cell? ⟨d,a,none⟩=some (.bool (b.getD a false)):=aR e (by simp[f])
def Bn(a:bc):(ct a).length<=a.bY.length+1:=by
 unfold ct;repeat' split
 all_goals simp
def AA(p:bf g P h e a f c){o:Nat}(a5:o<a.e.length)(i2:sn a)(g4:e<=1000000000):Calls prog 50 #[mt f a,.int .i64 o] c λI d=>I=.returned (.bool (ma a o))/\ai [] c d:=by
 obtain⟨a7,a9,c5⟩:=bX p.g;obtain⟨a8,b0,c7⟩:=bX p.u;obtain⟨K,L,c8⟩:=bX p.e;have f7:=p.aP;unfold ac.sz at f7;have k4:a.e.length<=1000000000:=by omega
 have c6:∀i,i<a.e.length->(a.e.getD i cS).bY.length<=1000/\∀C∈ct (a.e.getD i cS),C<a.e.length:=λi N=>i2 _ (by simp[N]);have c0:U (∀R i,ai [] c R->i<a.e.length->Calls prog 91 #[.agg #[.slice K a.e.length L,.slice a7 a.g.length a9,.slice a8 a.u.length b0,.string ⟨a.b.toArray⟩],.int .i64 i] R λI d=>∃v,I=.returned v/\ai [] R d/\dQ v (ct (a.e.getD i cS)) d/\∀l,v.ownBlock=some l->l<c.heap.size\/R.heap.size<=l):=Z (λR i i0 N=>by
  have:=JB (p.t i0) N g4 (c6 i N).1;unfold mt at this;rw[c8,c5,c7]at this;refine this.mono ?_;rintro I d ⟨v,g0,g1,g2,g3⟩;exact⟨v,g0,g1,g2,λl B=>(g3 l B).imp (λb1=>p.K l (Ya b1)) id⟩)
 have a0:=Z c6;unfold mt;rw[c8,c5,c7];go_in;go_wp2_with fail;refine(c0.b _ o ((ah [] c).d _) a5).mono ?_;rintro I b ⟨k7,rfl,c9,d1,-⟩;have b4:=(a0.b o a5).2;have j9:(ct (a.e.getD o cS)).length<=2000:=by have:=Bn (a.e.getD o cS);have:=(a0.b o a5).1;omega
 have d5:U (ma a o=(fJ a a.e.length (hm (ct (a.e.getD o cS)) (List.replicate a.e.length false))).getD o false):=Z rfl;generalize ct (a.e.getD o cS)=x at *
 have q:b.heap[c.heap.size]? = some (.cells #[.slice K a.e.length L,.slice a7 a.g.length a9,.slice a8 a.u.length b0,.string ⟨a.b.toArray⟩] 62):=(c9.i _ (by simp) (by simp)).trans (aJ rfl);obtain⟨e8,f2,rfl⟩:=bX d1;have c2:b.cell? ⟨c.heap.size,0,none⟩=some (.slice K a.e.length L):=aR q rfl;have c3:=cF q;have c4:=aj q;have d9:=Z (((ah [] c).d _).a c9);have d4:=Z q;have b9:=Z d1;have h7:=run_make_row' (P:=prog) 175 4 (.bool false) 1 underlying175 IO rfl .i64 .i64 a.e.length (by omega) (by omega) b;rw[JZ]at h7;have g6:(b.alloc (ia (List.replicate a.e.length false))).heap[b.heap.size]? = some (ia (List.replicate a.e.length false)):=aJ rfl;have e3:=Z (Yp (ah [b.heap.size] (b.alloc (ia (List.replicate a.e.length false)))) g6);have e0:=Z (b9.b.aC ((ah [] b).d (ia (List.replicate a.e.length false))) (by simp));have b8:=Z (d9.b.d (ia (List.replicate a.e.length false)));have S:=Z ((((ah [] b).d (ia (List.replicate a.e.length false))).i _ c4 (by simp)).trans d4.b);have g8:U (∀l,(Value.slice e8 x.length f2).ownBlock=some l->l≠b.heap.size):=Z (λl B f6=>by have:=(gH b9.b B).2;omega);have j2:c.heap.size<b.heap.size:=c4;go_wp2;generalize j1:b.alloc (ia (List.replicate a.e.length false))=b5 at *
 go_loopw [7] (λr z=>∃(i:Nat) (k:List Bool),r=.int .i64 i/\i<=x.length/\U (k.length=a.e.length)/\U (hm (x.drop i) k=hm x (List.replicate a.e.length false))/\U (ai [b.heap.size] b5 z/\z.heap[b.heap.size]? = some (ia k))) (λr _=>x.length-(intOf r).toNat)
 case atStart=>exact⟨0,List.replicate a.e.length false,rfl,by omega,Z (by simp),Z rfl,e3⟩
 case round=>
  obtain⟨i,k,rfl,N,F,J,j⟩:=hrel;rcases Yj i x.length with a2|h0
  .have j5:(0:Int)<=↑i:=by omega
   have h3:(↑i:Int) < ↑x.length:=by omega
   obtain⟨l,f1,O,g7,h2⟩:=Ba (e0.b.aC j.b.1 (λl B=>by simpa using g8.b l B)) a2;simp only[Value.slice.injEq]at O;obtain⟨rfl,-,rfl⟩:=O;have w:=Z ((Bw a2).symm.trans J.b);have i1:=b4 (x.getD i 0) (by simp[a2]);generalize x.getD i 0=C at *
   by_cases M:0<=C
   .obtain⟨m,rfl⟩:∃m:Nat,C=m:=⟨C.toNat,by omega⟩;rw[Y9 M,Int.toNat_natCast]at w;have b2:m<k.length:=by rw[F.b];omega
    have f4:=vP j.b.2 b2;have f8:=cF j.b.2;have e5:=Z (Yp (j.b.1.O (p:=⟨b.heap.size,m,none⟩) (by simp) (.bool true)) (CM (j:=m) j.b.2));have H:U ((k.set m true).length=a.e.length):=Z (by rw[YF];exact F.b);go_wp2;exact⟨⟨i+1,k.set m true,by go_num,by omega,H,w,e5⟩,by simp[intOf];omega⟩
   .rw[Y2 M]at w;go_wp2;exact⟨⟨i+1,k,by go_num,by omega,F,w,j⟩,by simp[intOf];omega⟩
  .have h3:¬((↑i:Int) < ↑x.length):=by omega
   have w:U (k=hm x (List.replicate a.e.length false)):=Z (by rw[<-J.b,YR h0];rfl);have d6:U (ma a o=(fJ a a.e.length k).getD o false):=Z (by rw[d5.b,<-w.b]);generalize g5:fJ a a.e.length k=SR at *
   have d8:=Z g5;go_wp2;go_loopw [8] (λr z=>∃(s:Nat) (k:List Bool),r=.int .i64 s/\s<=a.e.length/\U (k.length=a.e.length)/\U (fJ a (a.e.length-s) k=SR)/\U (ai [b.heap.size] b5 z/\z.heap[b.heap.size]? = some (ia k))) (λr _=>a.e.length-(intOf r).toNat)
   case atStart=>exact⟨0,k,rfl,by omega,F,d8,j⟩
   case round=>
    obtain⟨s,k,rfl,a4,F,J,j⟩:=hrel;have q:=(j.b.1.i _ (aj S.b) (by simp;omega)).trans S.b;have c2:wr.cell? ⟨c.heap.size,0,none⟩=some (.slice K a.e.length L):=aR q rfl;have c3:=cF q;have f0:=aj q;rcases Yj s a.e.length with a2|j3
    .have h6:(↑s:Int) < ↑a.e.length:=by omega
     have w:U (fJ a (a.e.length-(s+1)) (gJ a a.e.length 0 k)=SR):=Z (by rw[<-J.b,show a.e.length-s=(a.e.length-(s+1))+1 by omega,fJ]);go_wp2;go_loopw [9] (λr z=>∃(i:Nat) (u:List Bool),r=.int .i64 i/\i<=a.e.length/\U (u.length=a.e.length)/\U (gJ a (a.e.length-i) i u=gJ a a.e.length 0 k)/\U (ai [b.heap.size] b5 z/\z.heap[b.heap.size]? = some (ia u))) (λr _=>a.e.length-(intOf r).toNat)
     case atStart=>exact⟨0,k,rfl,by omega,F,Z rfl,j⟩
     case round=>
      obtain⟨n,u,rfl,j6,a1,b6,j⟩:=hrel;have q:=(j.b.1.i _ (aj S.b) (by simp;omega)).trans S.b;have c2:wr.cell? ⟨c.heap.size,0,none⟩=some (.slice K a.e.length L):=aR q rfl;have i5:wr.cell? ⟨c.heap.size,1,none⟩=some (.slice a7 a.g.length a9):=aR q rfl;have i6:wr.cell? ⟨c.heap.size,2,none⟩=some (.slice a8 a.u.length b0):=aR q rfl;have i7:wr.cell? ⟨c.heap.size,3,none⟩=some (.string ⟨a.b.toArray⟩):=aR q rfl;have c3:=cF q;have f0:=aj q;rcases Yj n a.e.length with a3|j4
      .have j7:(0:Int)<=↑n:=by omega
       have h4:(↑n:Int) < ↑a.e.length:=by omega
       have h5:n<u.length:=by rw[a1.b];exact a3
       have i8:=vP j.b.2 h5;have i9:=cF j.b.2;have i3:=aj j.b.2;have E:=Z (b6.b.symm.trans (by rw[show a.e.length-n=(a.e.length-(n+1))+1 by omega,gJ]));generalize k5:u.getD n false=i4 at *
       cases i4 with
       |true=>
        simp only[if_true]at E
        have a6:=lg b8.b j.b.1 (λs a4=>by simp at a4;omega);have b4:=(a0.b n a3).2;have j8:(ct (a.e.getD n cS)).length<=2000:=by have:=Bn (a.e.getD n cS);have:=(a0.b n a3).1;omega
        have e4:=Z (c0.b wr n a6 a3);go_wp2_with fail;refine e4.b.mono ?_;rintro I d3 ⟨k8,rfl,d0,d2,f9⟩;obtain⟨e9,f3,rfl⟩:=bX d2;generalize ct (a.e.getD n cS)=y at *
        have c1:=Z (Yp (j.b.1.a (d0.l (by simp))) ((d0.i _ i3 (by simp)).trans j.b.2));have e1:=Z d2;have g9:U (∀l,(Value.slice e9 y.length f3).ownBlock=some l->l≠b.heap.size):=Z (λl B f6=>by rcases f9 l B with b1|b1<;>omega);have e2:=Z (Yp (ah [b.heap.size] d3) c1.b.2);go_wp2;go_loopw [11] (λr z=>∃(t:Nat) (A:List Bool),r=.int .i64 t/\t<=y.length/\U (A.length=a.e.length)/\U (hm (y.drop t) A=hm y u)/\U (ai [b.heap.size] d3 z/\z.heap[b.heap.size]? = some (ia A))) (λr _=>y.length-(intOf r).toNat)
        case atStart=>exact⟨0,u,rfl,by omega,a1,Z rfl,e2⟩
        case round=>
         obtain⟨t,A,rfl,k0,H,b7,D⟩:=hrel;rcases Yj t y.length with b3|h1
         .have k1:(0:Int)<=↑t:=by omega
          have h8:(↑t:Int) < ↑y.length:=by omega
          obtain⟨l,f1,O,g7,h2⟩:=Ba (e1.b.aC D.b.1 (λl B=>by simpa using g9.b l B)) b3;simp only[Value.slice.injEq]at O;obtain⟨rfl,-,rfl⟩:=O;have G:=Z ((Bw b3).symm.trans b7.b);have i1:=b4 (y.getD t 0) (by simp[b3]);generalize y.getD t 0=C at *
          by_cases M:0<=C
          .obtain⟨m,rfl⟩:∃m:Nat,C=m:=⟨C.toNat,by omega⟩;rw[Y9 M,Int.toNat_natCast]at G;have b2:m<A.length:=by rw[H.b];omega
           have f4:=vP D.b.2 b2;have f8:=cF D.b.2;have e6:=Z (Yp (D.b.1.O (p:=⟨b.heap.size,m,none⟩) (by simp) (.bool true)) (CM (j:=m) D.b.2));have d7:U ((A.set m true).length=a.e.length):=Z (by rw[YF];exact H.b);go_wp2;exact⟨⟨t+1,A.set m true,by go_num,by omega,d7,G,e6⟩,by simp[intOf];omega⟩
          .rw[Y2 M]at G;go_wp2;exact⟨⟨t+1,A,by go_num,by omega,H,G,D⟩,by simp[intOf];omega⟩
         .have h8:¬((↑t:Int) < ↑y.length):=by omega
          have G:U (A=hm y u):=Z (by rw[<-b7.b,YR h1];rfl);rw[<-G.b]at E;have e7:=Z (Yp (c1.b.1.a D.b.1) D.b.2);go_wp2;exact⟨⟨n+1,A,by go_num,by omega,H,Z E.b.symm,e7⟩,by simp[intOf];omega⟩
       |false=>
        simp only[Ye,if_false]at E
        go_wp2;exact⟨⟨n+1,u,by go_num,by omega,a1,Z E.b.symm,j⟩,by simp[intOf];omega⟩
      .have h4:¬((↑n:Int) < ↑a.e.length):=by omega
       have E:U (u=gJ a a.e.length 0 k):=Z (by rw[<-b6.b,show a.e.length-n=0 by omega,gJ]);rw[<-E.b]at w;go_wp2;exact⟨⟨s+1,u,by go_num,by omega,a1,w,j⟩,by simp[intOf];omega⟩
    .have h6:¬((↑s:Int) < ↑a.e.length):=by omega
     have w:U (k=SR):=Z (by rw[<-J.b,show a.e.length-s=0 by omega,fJ]);have h9:o<k.length:=by rw[F.b];exact a5
     have k2:(0:Int)<=↑o:=by omega
     have k3:(↑o:Int) < ↑a.e.length:=by omega
     have f5:=vP j.b.2 h9;have j0:=cF j.b.2;have k6:=aj j.b.2;rw[w.b]at f5;have a6:=Z (lg b8.b j.b.1 (λs a4=>by simp at a4;omega));go_wp2;go_ret;exact⟨by rw[d6.b];simp,a6.b⟩
variable {t : List UInt8} {a σ' b : ac}
def rS(b:σ'.s=a.s):aM a σ':=λ_=>⟨by rw[b],by rw[b]⟩
def yQ(c:Nat)(d:List Int)(e:List UInt8)(a:ac):aM a (dh t c d e a).2.2.2:=λb=>by rw[pB b];exact⟨rfl,rfl⟩
def yS(c:Nat)(f:List Int)(d:List (List UInt8))(e:List UInt8)(a:ac):aM a (dI t c f d e a).2.2:=λb=>by rw[tP b];exact⟨rfl,rfl⟩
def yT(of:Int)(c:Nat)(e g:List Int)(d:List (List UInt8))(f:List UInt8)(a:ac):aM a (dO t of c e g d f a).2:=λb=>by rw[qs b];exact⟨rfl,rfl⟩
def yU(c:Nat)(d:List (List UInt8))(e:List Int)(all:List bi)(f:List UInt8)(a:ac):aM a (ep t c d e all f a).2:=λb=>by rw[zf b];exact⟨rfl,rfl⟩
def Dn(b:List (List UInt8))(a:ac):aM a (gj t b a).2:=by
 unfold gj;split
 .exact(gX _).a ((aO _ _ _).a (wa _ _))
 .exact ed a
def PW(a:ac):aM (ar a.D 40 a) (fL t a):=by
 unfold fL;simp only;generalize e:aG t 2 (ab t 2 [99,111,110,115,116] (ar a.D 40 a))=c;have d:aM (ar a.D 40 a) c.2:=by rw[<-e];exact(aO _ _ _).a (oE _ _)
 generalize f:aV t (-2147483648) 4294967295 (ab t 4 [61] c.2)=v;have b:aM (ar a.D 40 a) (ab t 4 [59] v.2):=by rw[<-f];exact d.a ((aO _ _ _).a ((gY _ _ _).a (aO _ _ _)))
 split
 .exact b
 .exact b.a ((Dr _ _ _).a (mv _ _))
def Qe(a:ac):aM a (gf t a):=by
 unfold gf;simp only;generalize d:bQ t [] true (ab t 2 [116,121,112,101,100,101,102] a)=b;have c:aM a b.2:=by rw[<-d];exact(aO _ _ _).a (wb _ _ _)
 split
 .exact c
 .exact c.a (aM.a (rS (σ':={ b.2 with g:=b.2.g++[⟨b.1.x.text,1,b.1.r,b.1.x.m⟩] }) rfl) ((aO _ _ _).a (mv _ _)))
def PY(a:ac):aM a (gD t a):=by
 unfold gD;simp only;generalize g:aG t 2 (ab t 2 [101,110,117,109] a)=b;have e:aM a b.2:=by rw[<-g];exact(aO _ _ _).a (oE _ _)
 generalize f:dh t 13 [] ([101,110,117,109,32]++b.1.text++[32,123,32]) (ab t 4 [123] b.2)=d;have c:aM a d.2.2.2:=by rw[<-f];exact e.a ((aO _ _ _).a (yQ _ _ _ _))
 split
 .exact c
 .exact c.a ((aO _ _ _).a ((aO _ _ _).a ((fq _ _).a ((rU _ _ _).a (mv _ _)))))
def Qd(a:ac):aM a (gt t a):=by
 unfold gt;exact(aO _ _ _).a ((oE _ _).a ((aO _ _ _).a ((yS _ _ _ _ _).a ((aO _ _ _).a ((aO _ _ _).a ((fq _ _).a ((rU _ _ _).a (mv _ _))))))))
def Qf(a:ac):aM a (fU t a):=by
 unfold fU;exact(aO _ _ _).a ((oE _ _).a ((aO _ _ _).a ((aO _ _ _).a ((Dt _).a ((rV _).a ((aO _ _ _).a ((aO _ _ _).a ((yT _ _ _ _ _ _ _).a ((Dn _ _).a ((aO _ _ _).a ((aO _ _ _).a ((fq _ _).a ((rU _ _ _).a (mv _ _))))))))))))))
def Qc(a:ac):aM (ar a.o.length 4 a) (gr t a):=by
 unfold gr;simp only;generalize g:aG t 2 (ab t 2 [112,114,111,103,114,97,109] (ar a.o.length 4 a))=b;have c:aM (ar a.o.length 4 a) b.2:=by rw[<-g];exact(aO _ _ _).a (oE _ _)
 generalize f:ep t 6 [] [] [] ([112,114,111,103,114,97,109,32]++b.1.text++[32,123,32]) (ab t 4 [123] b.2)=v;have d:aM (ar a.o.length 4 a) (ab t 4 [125] v.2):=by rw[<-f];exact c.a ((aO _ _ _).a ((yU _ _ _ _ _ _).a (aO _ _ _)))
 have e:=d.a (mu (t:=t) (ab t 4 [125] v.2).o _);exact e.a (rS rfl)
def kz(a:ac):Nat:=a.D.toNat+a.j.toNat+a.o.length
def He(b:(bG t a).s.e=0)(q:a.s.e=0)(v:0<=a.D/\0<=a.j)(u:a.s.x.f≠5):kz a+1<=kz (bG t a):=by
 unfold bG at *
 split at b
 .rename_i h;rw[Y9 h];obtain⟨f,g⟩:=Gd b;have:=g.t;have:=g.p;unfold kz;omega
 .rename_i h;rw[Y2 h];split at b
  .rename_i i;rw[Y9 i];obtain⟨f,g⟩:=Gk (t:=t) a;have:=f.c;have:=f.t;unfold kz;omega
  .rename_i i;rw[Y2 i];split at b
   .have:(da a).s.e≠0:=by simp[da,jK,lT,hl,q,u]
    exact absurd b this
   .rename_i r;rw[Y2 r];simp only at b ⊢;have j:=(cw a.j 24 a).ir;have d:∀l:ac,ec { ar a.j 24 a with j:=(ar a.j 24 a).j+1 } l->kz a+1<=kz l:=by
     intro l k;have m:=k.c;have n:=k.t;have o:=k.p;simp only at m n o;rw[j.1]at m;rw[j.2.1]at n;rw[j.2.2.1]at o;unfold kz;omega
    split
    .exact d _ (Gp _)
    .split
     .exact d _ (Gf _)
     .split
      .exact d _ (Gm _)
      .exact d _ (Gq _)
variable {a : List UInt8} {b c d : ac}
def ic:ac:=⟨⟨bZ,0,0⟩,[],[],[],[],0,0,[]⟩
def qe:PV:=⟨.slice none 0 0,.slice none 0 0,.slice none 0 0,.slice none 0 0,[]⟩
def MW{X:Nat->Prop}(d:World)(e:∀c,X c->c<d.heap.size)(g:a.length<=2000):bf X d.heap.size a 0 ic qe (d.alloc (lu a ic.s (pu qe ic))):=by
 refine⟨aJ rfl,⟨rfl,Y8 ⟨rfl,rfl⟩⟩,⟨rfl,Y8 ⟨rfl,rfl⟩⟩,⟨rfl,Y8 ⟨rfl,rfl⟩⟩,⟨rfl,Y8 ⟨rfl,rfl⟩⟩,rfl,?_,?_,?_,?_,?_,YV _,by simp[ic,bZ],g,by simp[ic,ac.sz],by simp[ic]⟩
 .intro i k j f;simp[ic]at f
 .constructor<;>simp[qe,Value.ownBlock]
 .intro c b;simp[PV.aC,qe]at b
 .intro c b h;have:=e c h;rcases b with b|b
  .simp[PV.a5,qe,Value.ownBlock]at b;omega
  .simp[PV.aC,qe]at b
 .intro c b;have:=e c b;simp;omega
variable {t : List UInt8} {a b c : ac}
def Lm(e:bF a)(c:bc):bF (bJ c a):=by
 intro b g f;obtain⟨d,h⟩:=e b g f;refine⟨d,?_⟩;show b.n<((a.e++[c]).length:Int);rw[Yq];simp only[List.length_singleton];omega
def yb(b:bF a)(c:List UInt8):bF (dV c a):=b
def BP(f:bF a)(h:Nat)(e c:Int)(g:e=1->0<=c/\c<a.e.length):bF (gs a h e c):=by
 intro i b d;unfold gs at b;simp only at b;rcases List.mem_or_eq_of_mem_set b with b|rfl
 .exact f i b d
 .exact g d
def BO(b:bF a)(d:List UInt8)(c:Int):bF (dA d c a):=by
 unfold dA;simp only;split
 .exact BP b _ 0 c (by simp)
 .exact b
def Lp(c:bF a)(e:List UInt8)(b:Int)(d:0<=b/\b<a.e.length):bF (cX e b a):=by
 unfold cX;split
 .exact BP c _ 1 b (λ_=>d)
 .exact c
def Lh(d:bF a):bF (fL t a):=by
 unfold fL;simp only;generalize f:aG t 2 (ab t 2 [99,111,110,115,116] (ar a.D 40 a))=c;have e:bF c.2:=by rw[<-f];exact pR (ez d ((cw _ _ _).a (an _ _ _)).p) 2 (by decide)
 generalize g:aV t (-2147483648) 4294967295 (ab t 4 [61] c.2)=v;have b:bF (ab t 4 [59] v.2):=by rw[<-g];exact ez e ((an _ _ _).a ((fT _ _ _).a (an _ _ _))).p
 split
 .exact b
 .exact yb (BO b _ _) _
def ya(e:bF a)(d:List UInt8)(b:bc)(c:List UInt8):bF (dV c (cX d a.e.length (bJ b a))):=by
 refine yb (Lp (Lm e b) d _ ⟨by omega,?_⟩) c;show ((a.e.length:Nat):Int)<((a.e++[b]).length:Int);rw[Yq];simp only[List.length_singleton];omega
def Lo:∀(c:Nat) (e:List Int) (d:List (List UInt8)) (f:List UInt8) (a:ac),bF a->bF (dI t c e d f a).2.2:=by
 intro c;induction c with
 |zero=>intro e d f a b;exact b
 |succ c h=>
  intro e d f a b;unfold dI;split
  .exact b
  .simp only;have g:bF (ab t 4 [59] (bQ t d false (ar e.length 12 a)).2):=ez b ((cw _ _ _).p.a ((kA _ _ _).a (an _ _ _).p));split
   .exact g
   .exact h _ _ _ _ g
def Ln(b:bF a):bF (gt t a):=by
 unfold gt;simp only;generalize d:aG t 2 (ab t 2 [115,116,114,117,99,116] a)=e;have c:bF e.2:=by rw[<-d];exact pR (ez b (an _ _ _).p) 2 (by decide)
 exact ya (ez (Lo _ _ _ _ _ (ez c (an _ _ _).p)) ((an _ _ _).a (an _ _ _)).p) _ _ _
def Lk:∀(d:Nat) (b:List Int) (g:List UInt8) (a:ac),bF a->bF (dh t d b g a).2.2.2:=by
 intro d;induction d with
 |zero=>intro b g a c;exact c
 |succ d o=>
  intro b g a c;unfold dh;split
  .exact c
  .simp only;generalize m:aG t 2 (ar (ar b.length 12 a).D 40 (ar b.length 12 a))=f;have j:bF f.2:=by rw[<-m];exact pR (ez c ((cw _ _ _).a (cw _ _ _)).p) 2 (by decide)
   generalize n:aV t (-2147483648) 2147483647 (ab t 4 [61] f.2)=v;have k:bF v.2:=by rw[<-n];exact ez j ((an _ _ _).a (fT _ _ _)).p
   generalize l:(if v.2.s.e=0/\b.contains v.1.1=true then bo 6 v.1.2 v.2 else v.2)=p
   have h:bF p:=by rw[<-l];exact ez k (jy _ _ _ _).p
   split
   .exact h
   .have i:=BO h f.1.text v.1.1;split
    .exact o _ _ _ (ez i (eB _).p)
    .exact i
def Lj(e:bF a):bF (gD t a):=by
 unfold gD;simp only;generalize h:aG t 2 (ab t 2 [101,110,117,109] a)=b;have f:bF b.2:=by rw[<-h];exact pR (ez e (an _ _ _).p) 2 (by decide)
 generalize g:dh t 13 [] ([101,110,117,109,32]++b.1.text++[32,123,32]) (ab t 4 [123] b.2)=d;have c:bF d.2.2.2:=by rw[<-g];exact Lk _ _ _ _ (ez f (an _ _ _).p)
 split
 .exact c
 .exact ya (ez c ((an _ _ _).a (an _ _ _)).p) _ _ _
def Ls(of:Int):∀(d:Nat) (b g:List Int) (e:List (List UInt8)) (f:List UInt8) (a:ac),bF a->bF (dO t of d b g e f a).2:=by
 intro d;induction d with
 |zero=>intro b g e f a c;exact c
 |succ d i=>
  intro b g e f a c;unfold dO;split
  .exact c
  .simp only;have h:bF (ce t e (bT t of (14-b.length) b [] a).2).2:=ez c ((mS (t:=t) of _ b [] a).1.p.a (mb _ _));split
   .exact i _ _ _ _ _ h
   .exact h
def sP(b:List (List UInt8))(a:ac):cy a (gj t b a).2:=by
 unfold gj;split
 .exact((eB _).a (an _ _ _)).p.a (mb _ _)
 .exact nI a
def Lr(e:bF a):bF (fU t a):=by
 unfold fU;simp only;generalize k:aG t 2 (ab t 2 [117,110,105,111,110] a)=d;have f:bF d.2:=by rw[<-k];exact pR (ez e (an _ _ _).p) 2 (by decide)
 generalize j:bR t (ab t 4 [40] (ab t 2 [115,119,105,116,99,104] d.2))=b;have g:bF b.2:=by rw[<-j];exact ez f (((an _ _ _).a (an _ _ _)).a (oD _)).p
 have h:bF (ab t 4 [123] (ab t 4 [41] (cJ t b.2).2)):=ez g ((iX _).a ((an _ _ _).a (an _ _ _))).p;generalize cJ t b.2=c at *
 generalize l:dO t b.1.1 14 [] [] [c.1.text] ([117,110,105,111,110,32]++d.1.text++[32,115,119,105,116,99,104,32,40]++b.1.2++[32]++c.1.text++[41,32,123,32]) (ab t 4 [123] (ab t 4 [41] c.2))=m;have i:bF m.2:=by rw[<-l];exact Ls _ _ _ _ _ _ _ h
 exact ya (ez i ((sP _ _).a ((an _ _ _).a (an _ _ _)).p)) _ _ _
def Ll(d:bF a):bF (gr t a):=by
 unfold gr;simp only;generalize i:aG t 2 (ab t 2 [112,114,111,103,114,97,109] (ar a.o.length 4 a))=c;have b:bF c.2:=by rw[<-i];exact pR (ez d ((cw _ _ _).a (an _ _ _)).p) 2 (by decide)
 generalize h:ep t 6 [] [] [] ([112,114,111,103,114,97,109,32]++c.1.text++[32,123,32]) (ab t 4 [123] c.2)=v;have e:bF v.2:=by rw[<-h];exact ez b ((an _ _ _).p.a (sR _ _ _ _ _ _))
 have f:bF (bC t (ab t 4 [125] v.2).o (ab t 4 [125] v.2)).2:=ez e ((an (t:=t) 4 [125] v.2).p.a (mY (t:=t) (ab t 4 [125] v.2).o _));exact λj g b=>f j g b
variable {t : List UInt8} {σ a b : ac}
def pl(σ:ac)(a:Int):Prop:=0<=a/\a<σ.e.length
def cy.ak(b:cy σ a):σ.e.length<=a.e.length:=by
 obtain⟨d,c,_⟩:=b.e;rw[c,Yq];omega
def pl.p{c:Int}(b:pl σ c)(d:cy σ a):pl a c:=⟨b.1,by have:=d.ak;have:=b.2;omega⟩
def tG(a:bc):pl (bJ a σ) σ.e.length:=⟨by omega,by show ((σ.e.length:Nat):Int)<((σ.e++[a]).length:Int);rw[Yq];simp only[List.length_singleton];omega⟩
def Jn(f:5<=σ.e.length):pl (ch t σ).2 (ch t σ).1.1:=by
 have b:∀(a:ac) (c:Int),cy σ a->0<=c->c<=4->pl a c:=λa c e d g=>⟨d,by have:=e.ak;omega⟩;unfold ch;split
 .exact b _ _ (nI σ) (by simp) (by simp)
 .split
  .exact tG _
  .split
   .exact b _ _ (eB σ).p (by simp) (by simp)
   .split
    .exact b _ _ (eB σ).p (by simp) (by simp)
    .split
     .exact b _ _ (eB σ).p (by simp) (by simp)
     .split
      .unfold iD;split
       .exact b _ _ ((eB σ).a (eB _)).p (by simp) (by simp)
       .split
        .exact b _ _ ((eB σ).a (eB _)).p (by simp) (by simp)
        .exact b _ _ (eB σ).p (by simp) (by simp)
      .exact b _ _ (tM σ).p (by simp) (by simp)
def GQ(b:5<=σ.e.length)(a:List (List UInt8))(all:Bool):pl (bQ t a all σ).2 (bQ t a all σ).1.r:=by
 unfold bQ;split
 .unfold gq;simp only;split<;>exact tG _
 .unfold gn;simp only;have c:=Jn (t:=t) b;split
  .exact tG _
  .split
   .exact tG _
   .split
    .exact tG _
    .exact c.p (gW _ _ _).p
def Lq(d:bF σ)(e:5<=σ.e.length):bF (gf t σ):=by
 unfold gf;simp only;have f:=GQ (t:=t) (σ:=ab t 2 [116,121,112,101,100,101,102] σ) e [] true;have c:bF (bQ t [] true (ab t 2 [116,121,112,101,100,101,102] σ)).2:=ez d ((an _ _ _).p.a (kA _ _ _));generalize bQ t [] true (ab t 2 [116,121,112,101,100,101,102] σ)=a at *
 split
 .exact c
 .refine yb (ez (σ:={ a.2 with g:=a.2.g++[⟨a.1.x.text,1,a.1.r,a.1.x.m⟩] }) ?_ (an _ _ _).p) _;intro h b g;simp only[Yn,Yc]at b;rcases b with b|rfl
  .exact c h b g
  .exact f
def Li(a:bF σ)(c:5<=σ.e.length):bF (bG t σ):=by
 have b:bF { ar σ.j 24 σ with j:=(ar σ.j 24 σ).j+1 }:=to (ez a (cw σ.j 24 σ).p) _;have d:5<=({ ar σ.j 24 σ with j:=(ar σ.j 24 σ).j+1 }:ac).e.length:=by
  show 5<=(ar σ.j 24 σ).e.length;rw[(cw σ.j 24 σ).e];exact c
 unfold bG;split
 .exact Lh a
 .split
  .exact Ll a
  .split
   .exact ez a (tM σ).p
   .simp only;split
    .exact Lq b d
    .split
     .exact Lj b
     .split
      .exact Ln b
      .exact Lr b
variable {t : List UInt8} {a b c : ac}
structure Rn(a:ac):Prop where
 fY:5<=a.e.length
 b5:∀r∈a.e,r.a0.length<=1000/\r.bY.length<=1000
def Rn.p(e:Rn a)(h:cy a b):Rn b:=by
 obtain⟨i,g,f⟩:=h.e;refine⟨by rw[g,Yq];have:=e.fY;omega,?_⟩;intro d c;rw[g]at c;rcases Yn.1 c with c|c
 .exact e.b5 d c
 .rw[(f d c).1,(f d c).2];simp
def Rn.of(c:Rn a)(d:b.e=a.e):Rn b:=⟨by rw[d];exact c.fY,by rw[d];exact c.b5⟩
def tF(c:Rn a)(b:Int):Rn (aG t b a).2:=c.of (mp b a)
def yx(d:Rn a)(c:bc)(f:c.a0.length<=1000/\c.bY.length<=1000):Rn (bJ c a):=by
 refine⟨by show 5<=(a.e++[c]).length;rw[Yq];have:=d.fY;omega,?_⟩;intro e b;rcases Yn.1 (show e∈a.e++[c]from b)with b|b
 .exact d.b5 e b
 .simp at b;subst b;exact f
def Oc(b:Rn a)(d:List UInt8)(c:Int):Rn (dA d c a):=by
 unfold dA gs;split<;>exact⟨b.fY,b.b5⟩
def yy(b:Rn a)(d:List UInt8)(c:Int):Rn (cX d c a):=by
 unfold cX gs;split
 .exact⟨b.fY,b.b5⟩
 .exact b
def vL(b:Rn a)(c:List UInt8):Rn (dV c a):=⟨b.fY,b.b5⟩
def NY(c:Rn a):Rn (fL t a):=by
 unfold fL;simp only;have d:Rn (aG t 2 (ab t 2 [99,111,110,115,116] (ar a.D 40 a))).2:=tF (c.p ((cw _ _ _).a (an _ _ _)).p) 2;generalize aG t 2 (ab t 2 [99,111,110,115,116] (ar a.D 40 a))=e at *
 have b:Rn (ab t 4 [59] (aV t (-2147483648) 4294967295 (ab t 4 [61] e.2)).2):=d.p ((an _ _ _).a ((fT _ _ _).a (an _ _ _))).p;split
 .exact b
 .exact vL (Oc b _ _) _
def Og(c:Rn a):Rn (gf t a):=by
 unfold gf;simp only;have b:Rn (bQ t [] true (ab t 2 [116,121,112,101,100,101,102] a)).2:=c.p ((an _ _ _).p.a (kA _ _ _));split
 .exact b
 .exact⟨b.fY,b.b5⟩
def Od(d:Rn a):Rn (gr t a):=by
 unfold gr;simp only;have e:Rn (aG t 2 (ab t 2 [112,114,111,103,114,97,109] (ar a.o.length 4 a))).2:=tF (d.p ((cw _ _ _).a (an _ _ _)).p) 2;generalize aG t 2 (ab t 2 [112,114,111,103,114,97,109] (ar a.o.length 4 a))=c at *
 generalize g:ep t 6 [] [] [] ([112,114,111,103,114,97,109,32]++c.1.text++[32,123,32]) (ab t 4 [123] c.2)=v;have f:Rn v.2:=by rw[<-g];exact e.p ((an _ _ _).p.a (sR _ _ _ _ _ _))
 have b:Rn (bC t (ab t 4 [125] v.2).o (ab t 4 [125] v.2)).2:=f.p ((an (t:=t) 4 [125] v.2).p.a (mY (t:=t) (ab t 4 [125] v.2).o _));exact⟨b.fY,b.b5⟩
def Qk:∀(d:Nat) (b:List Int) (c:List (List UInt8)) (e:List UInt8) (a:ac),(dI t d b c e a).1.length<=b.length+d:=by
 intro d;induction d with
 |zero=>intro b c e a;exact Y4 _
 |succ d f=>
  intro b c e a;unfold dI;split
  .simp
  .simp only;split
   .simp
   .have:=f (b++[(bQ t c false (ar b.length 12 a)).1.r]) (c++[(bQ t c false (ar b.length 12 a)).1.x.text]) (e++(bQ t c false (ar b.length 12 a)).1.cW++(bQ t c false (ar b.length 12 a)).1.x.text++(bQ t c false (ar b.length 12 a)).1.dR++[59,32]) (ab t 4 [59] (bQ t c false (ar b.length 12 a)).2);rw[Yq,List.length_singleton]at this;omega
def Of:∀(c:Nat) (e:List Int) (d:List (List UInt8)) (f:List UInt8) (a:ac),Rn a->Rn (dI t c e d f a).2.2:=by
 intro c;induction c with
 |zero=>intro e d f a b;exact b
 |succ c h=>
  intro e d f a b;unfold dI;split
  .exact b
  .simp only;have g:Rn (ab t 4 [59] (bQ t d false (ar e.length 12 a)).2):=b.p ((cw _ _ _).p.a ((kA _ _ _).a (an _ _ _).p));split
   .exact g
   .exact h _ _ _ _ g
def Oe(d:Rn a):Rn (gt t a):=by
 unfold gt;simp only;have e:Rn (aG t 2 (ab t 2 [115,116,114,117,99,116] a)).2:=tF (d.p (an _ _ _).p) 2;generalize aG t 2 (ab t 2 [115,116,114,117,99,116] a)=b at *
 have g:=Qk (t:=t) 14 [] [] ([115,116,114,117,99,116,32]++b.1.text++[32,123,32]) (ab t 4 [123] b.2);have f:=Of (t:=t) 14 [] [] ([115,116,114,117,99,116,32]++b.1.text++[32,123,32]) (ab t 4 [123] b.2) (e.p (an _ _ _).p);generalize dI t 14 [] [] ([115,116,114,117,99,116,32]++b.1.text++[32,123,32]) (ab t 4 [123] b.2)=c at *
 refine vL (yy (yx (f.p ((an _ _ _).a (an _ _ _)).p) _ ⟨by simp,?_⟩) _ _) _;simp only[List.length_nil]at g;show c.1.length<=1000;omega
end Go.Proofs.YtjdhaegijjednaaGreatDoor
namespace Go.Proofs.YtjdhaegijjednaaGreatDoor
open Go.RowKit
open Go.MapKept
open Go.Proofs.Tryz
section
variable {g e:Nat}{a:gu}{f:List (Nat×Obj)}{b:aF}{n:List UInt8}{c:World}{d:Type}
def Rv{a:eT d}(s:hd a)(z:∀n∈cf b.k,a.ok n)(w:dw f e (.typedef b))(r:∀{g:d} {l:World},a.J g l->∀k∈f,l.heap[k.1]? = some k.2){g:d}(i:a.J g c) :
  Calls prog 337 #[.pointer (some ⟨e,0,none⟩),a.v] c (fs a c (aY a (cf b.k) g)):=by
 obtain⟨H,I,B,_⟩:=dS (r i _ w);obtain⟨D,K,j⟩:=fk b.k;have G:=pV b.k j;have F:=pS b.k;rw[j]at B;have m:=Z (tq s b.k z i);go_in;go_wp2_with fail;refine m.b.mono ?_;rintro E L (⟨C,h,rfl,x,A⟩|⟨q,h,y,p,t,rfl,u⟩);rotate_left
 .exact aq (Ya ⟨q,h,y,p,t,rfl,u⟩)
 have o:=Z h;go_wp2;go_end0;exact Y8 ⟨C,o.b,rfl,x,A⟩
def RC{h:eT d}(K:hd h){d1:aF}(c4:∀n∈a.flatMap λb=>cf b.2.k,h.ok n)(b4:dw f e (.union n g d1 a))(J:∀{k:d} {o:World},h.J k o->∀N∈f,o.heap[N.1]? = some N.2){k:d}(C:h.J k c) :
  Calls prog 348 #[.pointer (some ⟨e,0,none⟩),h.v] c (fs h c (aY h (a.flatMap λb=>cf b.2.k) k)):=by
 have a1:=Z c4;obtain⟨e6,t,b0,d4,c6,b5⟩:=b4;obtain⟨_,e2,_⟩:=oa (J C _ b0);rcases c6 with⟨rfl,a9,_⟩|⟨s,a6,a7,rfl,⟨d3,e0⟩,b7,x⟩
 .have c3:a=[]:=Yv.1 a9;subst c3;have z:=Z C;go_in;go_wp2;go_loopw [11] (λi y=>i=.int .i64 0/\y=c) (λ_ _=>0)
  case atStart=>exact⟨rfl,rfl⟩
  case round=>
   obtain⟨rfl,rfl⟩:=hrel;go_wp2;go_end0;exact Y8 ⟨k,rfl,rfl,z.b,ah _ _⟩
 .have c5:∀(o:World) (m:d),h.J m o->∀i (L:i<a.length),∃p r q,o.cell? ⟨s,i*4,none⟩=some (.slice p r q)/\o.cell? ⟨s,i*4+1,none⟩=some (.string ⟨a[i].2.t.toArray⟩)/\o.cell? ⟨s,i*4+2,none⟩=some (.int .i64 a[i].2.m)/\o.cell? ⟨s,i*4+3,none⟩=some (bW a[i].2.k):=by
   intro o m c7 i L;have w:=J c7 _ b7;have b8:i<t.length:=by omega
   have u:=lc (c:=iM) (n:=4) (λ_=>rfl) (a.zip t) i;have l:i<(a.zip t).length:=by simp;omega
   obtain⟨p,r,q,b3⟩:∃g e H,t[i]=Value.slice g e H:=by rcases b5 i L b8 with⟨B,_⟩|⟨s,a6,a7,B,_⟩<;>exact⟨_,_,_,B⟩
   refine⟨p,r,q,cu w x ?_,cu w x ?_,cu w x ?_,cu w x ?_⟩
   .have:=u 0 l (by omega);simpa[b3]using this
   .have:=u 1 l (by omega);simpa using this
   .have:=u 2 l (by omega);simpa using this
   .have:=u 3 l (by omega);simpa using this
  have a2:=Z c5;have z:=Z C;go_in;go_wp2;go_loopw [11] (λi y=>∃(j:Nat) (m:d),i=.int .i64 j/\j<=a.length/\U (h.J m y)/\ai h.M c y/\U (aY h (a.flatMap λb=>cf b.2.k) k=aY h ((a.drop j).flatMap λb=>cf b.2.k) m)) (λi _=>a.length-(intOf i).toNat)
  case atStart=>exact⟨0,k,rfl,by omega,z,ah _ _,rfl⟩
  case round=>
   obtain⟨j,m,rfl,d9,A,l,F⟩:=hrel;rcases Yj j a.length with D|d6
   .obtain⟨p,r,q,e3,e4,e5,d0⟩:=a2.b _ _ A.b j D;obtain⟨a4,d2,I⟩:=fk a[j].2.k;have e1:=pV a[j].2.k I;have d5:=pS a[j].2.k;rw[I]at d0;have d7:(0:Int)<=↑j:=by omega
    have d8:(↑j:Int) < ↑a.length:=by omega
    have G:U (aY h (a.flatMap λb=>cf b.2.k) k=aY h (cf a[j].2.k++(a.drop (j+1)).flatMap λb=>cf b.2.k) m):=by
     refine F.b.trans ?_;rw[Yk D,YD]
    have a0:=Z (tq K a[j].2.k (λn c2=>a1.b n (List.mem_flatMap.2 ⟨a[j],Yy D,c2⟩)) (K.ca A.b ((Below.refl _ _).alloc (Y4 _) (.cells #[.slice p r q,.string ⟨a[j].2.t.toArray⟩,.int .i64 a[j].2.m,.iface a4 d2] 363))))
    go_wp2_with fail;refine a0.b.mono ?_;rintro B P (⟨O,E,rfl,b9,c8⟩|⟨a8,E,c0,a5,b1,rfl,b2⟩);rotate_left
    .exact(show bodyPost prog Tryz.f348 (fs h c (aY h (a.flatMap λb=>cf b.2.k) k)) (Exit.panic _) _ P from aq (Ya ⟨a8,G.b.trans (qn E),(l.d _).a c0,a5,by have:=l.F;simp at b1;omega,rfl,b2⟩))
    have a3:=Z b9;have R:U (aY h (a.flatMap λb=>cf b.2.k) k=aY h ((a.drop (j+1)).flatMap λb=>cf b.2.k) O):=G.b.trans (qo E);have c9:ai h.M c P:=(l.d _).a c8;go_wp2;exact⟨⟨j+1,O,by go_num,by omega,a3,c9,R⟩,by simp[intOf];omega⟩
   .have c1:j=a.length:=by omega
    subst c1;have b6:aY h (a.flatMap λb=>cf b.2.k) k=.ok m:=by
     refine F.b.trans ?_;rw[List.drop_length];rfl
    have S:=Z b6;go_wp2;go_end0;exact Y8 ⟨m,S.b,rfl,A.b,l⟩
def Ru{a:eT d}(s:hd a)(z:∀n∈cH b.k,a.ok n)(w:dw f e (.typedef b))(r:∀{g:d} {l:World},a.J g l->∀k∈f,l.heap[k.1]? = some k.2){g:d}(i:a.J g c) :
  Calls prog 336 #[.pointer (some ⟨e,0,none⟩),a.v] c (fs a c (aY a (cH b.k) g)):=by
 obtain⟨H,I,B,_⟩:=dS (r i _ w);obtain⟨D,K,j⟩:=fk b.k;have G:=uO b.k j;have F:=uN b.k;rw[j]at B;have m:=Z (xG s b.k z i);go_in;go_wp2_with fail;refine m.b.mono ?_;rintro E L (⟨C,h,rfl,x,A⟩|⟨q,h,y,p,t,rfl,u⟩);rotate_left
 .exact aq (Ya ⟨q,h,y,p,t,rfl,u⟩)
 have o:=Z h;go_wp2;go_end0;exact Y8 ⟨C,o.b,rfl,x,A⟩
def RB{h:eT d}(K:hd h){d1:aF}(c4:∀n∈a.flatMap λb=>cH b.2.k,h.ok n)(b4:dw f e (.union n g d1 a))(J:∀{k:d} {o:World},h.J k o->∀N∈f,o.heap[N.1]? = some N.2){k:d}(C:h.J k c) :
  Calls prog 347 #[.pointer (some ⟨e,0,none⟩),h.v] c (fs h c (aY h (a.flatMap λb=>cH b.2.k) k)):=by
 have a1:=Z c4;obtain⟨e6,t,b0,d4,c6,b5⟩:=b4;obtain⟨_,e2,_⟩:=oa (J C _ b0);rcases c6 with⟨rfl,a9,_⟩|⟨s,a6,a7,rfl,⟨d3,e0⟩,b7,x⟩
 .have c3:a=[]:=Yv.1 a9;subst c3;have z:=Z C;go_in;go_wp2;go_loopw [11] (λi y=>i=.int .i64 0/\y=c) (λ_ _=>0)
  case atStart=>exact⟨rfl,rfl⟩
  case round=>
   obtain⟨rfl,rfl⟩:=hrel;go_wp2;go_end0;exact Y8 ⟨k,rfl,rfl,z.b,ah _ _⟩
 .have c5:∀(o:World) (m:d),h.J m o->∀i (L:i<a.length),∃p r q,o.cell? ⟨s,i*4,none⟩=some (.slice p r q)/\o.cell? ⟨s,i*4+1,none⟩=some (.string ⟨a[i].2.t.toArray⟩)/\o.cell? ⟨s,i*4+2,none⟩=some (.int .i64 a[i].2.m)/\o.cell? ⟨s,i*4+3,none⟩=some (bW a[i].2.k):=by
   intro o m c7 i L;have w:=J c7 _ b7;have b8:i<t.length:=by omega
   have u:=lc (c:=iM) (n:=4) (λ_=>rfl) (a.zip t) i;have l:i<(a.zip t).length:=by simp;omega
   obtain⟨p,r,q,b3⟩:∃g e H,t[i]=Value.slice g e H:=by rcases b5 i L b8 with⟨B,_⟩|⟨s,a6,a7,B,_⟩<;>exact⟨_,_,_,B⟩
   refine⟨p,r,q,cu w x ?_,cu w x ?_,cu w x ?_,cu w x ?_⟩
   .have:=u 0 l (by omega);simpa[b3]using this
   .have:=u 1 l (by omega);simpa using this
   .have:=u 2 l (by omega);simpa using this
   .have:=u 3 l (by omega);simpa using this
  have a2:=Z c5;have z:=Z C;go_in;go_wp2;go_loopw [11] (λi y=>∃(j:Nat) (m:d),i=.int .i64 j/\j<=a.length/\U (h.J m y)/\ai h.M c y/\U (aY h (a.flatMap λb=>cH b.2.k) k=aY h ((a.drop j).flatMap λb=>cH b.2.k) m)) (λi _=>a.length-(intOf i).toNat)
  case atStart=>exact⟨0,k,rfl,by omega,z,ah _ _,rfl⟩
  case round=>
   obtain⟨j,m,rfl,d9,A,l,F⟩:=hrel;rcases Yj j a.length with D|d6
   .obtain⟨p,r,q,e3,e4,e5,d0⟩:=a2.b _ _ A.b j D;obtain⟨a4,d2,I⟩:=fk a[j].2.k;have e1:=uO a[j].2.k I;have d5:=uN a[j].2.k;rw[I]at d0;have d7:(0:Int)<=↑j:=by omega
    have d8:(↑j:Int) < ↑a.length:=by omega
    have G:U (aY h (a.flatMap λb=>cH b.2.k) k=aY h (cH a[j].2.k++(a.drop (j+1)).flatMap λb=>cH b.2.k) m):=by
     refine F.b.trans ?_;rw[Yk D,YD]
    have a0:=Z (xG K a[j].2.k (λn c2=>a1.b n (List.mem_flatMap.2 ⟨a[j],Yy D,c2⟩)) (K.ca A.b ((Below.refl _ _).alloc (Y4 _) (.cells #[.slice p r q,.string ⟨a[j].2.t.toArray⟩,.int .i64 a[j].2.m,.iface a4 d2] 363))))
    go_wp2_with fail;refine a0.b.mono ?_;rintro B P (⟨O,E,rfl,b9,c8⟩|⟨a8,E,c0,a5,b1,rfl,b2⟩);rotate_left
    .exact(show bodyPost prog Tryz.f347 (fs h c (aY h (a.flatMap λb=>cH b.2.k) k)) (Exit.panic _) _ P from aq (Ya ⟨a8,G.b.trans (qn E),(l.d _).a c0,a5,by have:=l.F;simp at b1;omega,rfl,b2⟩))
    have a3:=Z b9;have R:U (aY h (a.flatMap λb=>cH b.2.k) k=aY h ((a.drop (j+1)).flatMap λb=>cH b.2.k) O):=G.b.trans (qo E);have c9:ai h.M c P:=(l.d _).a c8;go_wp2;exact⟨⟨j+1,O,by go_num,by omega,a3,c9,R⟩,by simp[intOf];omega⟩
   .have c1:j=a.length:=by omega
    subst c1;have b6:aY h (a.flatMap λb=>cH b.2.k) k=.ok m:=by
     refine F.b.trans ?_;rw[List.drop_length];rfl
    have S:=Z b6;go_wp2;go_end0;exact Y8 ⟨m,S.b,rfl,A.b,l⟩
end
def lq(a:es):List (List UInt8×Nat):=cf a.cc++cf a.b3
def eZ(v:eH):List (List UInt8×Nat):=v.u.flatMap lq
def MK{q:Type}{e:eT q}(r:hd e){b3:List (Nat×Obj)}{b2 d5:Nat}{n:List UInt8}{a:List eH}{g3:Int}(f5:∀n∈a.flatMap eZ,e.ok n)(e3:dw b3 b2 (.prog n d5 a g3))(K:∀{g:q} {h:World},e.J g h->∀c0∈b3,h.heap[c0.1]? = some c0.2){g:q}{m:World}(J:e.J g m) :
  Calls prog 352 #[.pointer (some ⟨b2,0,none⟩),e.v] m (fs e m (aY e (a.flatMap eZ) g)):=by
 have a9:=Z f5;obtain⟨j5,u,d9,e2,g0,e4⟩:=e3;obtain⟨_,_,i7,_⟩:=jN (K J _ d9);rcases g0 with⟨rfl,d7,_⟩|⟨A,g9,h0,rfl,⟨h2,i3⟩,e6,C⟩
 .have P:a=[]:=Yv.1 d7;subst P;have E:=Z J;go_in;go_wp2;go_loopw [13] (λf t=>f=.int .i64 0/\t=m) (λ_ _=>0)
  case atStart=>exact⟨rfl,rfl⟩
  case round=>
   obtain⟨rfl,rfl⟩:=hrel;go_wp2;go_end0;exact Y8 ⟨g,rfl,rfl,E.b,ah _ _⟩
 .have f7:∀(h:World) (i:q),e.J i h->∀f (e8:f<a.length) (e9:f<u.length),h.cell? ⟨A,f*4,none⟩=some (.string ⟨a[f].t.toArray⟩)/\h.cell? ⟨A,f*4+1,none⟩=some (.int .i64 a[f].m)/\h.cell? ⟨A,f*4+2,none⟩=some u[f]/\h.cell? ⟨A,f*4+3,none⟩=some (.int .i64 a[f].num):=by
   intro h i R f e8 e9;have k:=K R _ e6;have j:=lc (c:=my) (n:=4) (λ_=>rfl) (a.zip u) f;have l:f<(a.zip u).length:=by simp;omega
   refine⟨cu k C ?_,cu k C ?_,cu k C ?_,cu k C ?_⟩
   .exact(j 0 l (by omega)).trans (by simp)
   .exact(j 1 l (by omega)).trans (by simp)
   .exact(j 2 l (by omega)).trans (by simp)
   .exact(j 3 l (by omega)).trans (by simp)
  have d2:=Z f7;have c8:=Z e4;have c7:=Z e2;have E:=Z J;go_in;go_wp2;go_loopw [13] (λf t=>∃(b:Nat) (i:q),f=.int .i64 b/\b<=a.length/\U (e.J i t)/\ai e.M m t/\U (aY e (a.flatMap eZ) g=aY e ((a.drop b).flatMap eZ) i)) (λf _=>a.length-(intOf f).toNat)
  case atStart=>exact⟨0,g,rfl,by omega,E,ah _ _,rfl⟩
  case round=>
   obtain⟨b,i,rfl,i2,y,l,a4⟩:=hrel;rcases Yj b a.length with w|h6
   .have b7:b<u.length:=by have:=c7.b;omega
    obtain⟨j1,j2,c1,j3⟩:=d2.b _ _ y.b b w b7;have h8:(0:Int)<=↑b:=by omega
    have h9:(↑b:Int) < ↑a.length:=by omega
    have a6:U (aY e (a.flatMap eZ) g=aY e ((a[b].u.drop 0).flatMap lq++(a.drop (b+1)).flatMap eZ) i):=by
     refine a4.b.trans ?_;rw[Yk w,YD,List.drop_zero];rfl
    have f9:=c8.b b w b7;rcases f9 with⟨H,d8,_⟩|⟨o,b4,h1,H,⟨h3,i4⟩,e7,x⟩
    .rw[H]at c1;have P:a[b].u=[]:=Yv.1 d8;have F:=Z (r.ca y.b ((Below.refl _ _).alloc (Y4 _) (.cells #[.string ⟨a[b].t.toArray⟩,.int .i64 a[b].m,.slice none 0 0,.int .i64 a[b].num] 367)));have a1:=l.d (.cells #[.string ⟨a[b].t.toArray⟩,.int .i64 a[b].m,.slice none 0 0,.int .i64 a[b].num] 367);have D:U (aY e (a.flatMap eZ) g=aY e ((a.drop (b+1)).flatMap eZ) i):=by
      refine a6.b.trans ?_;rw[P];rfl
     go_wp2;go_loopw [20] (λf t=>f=.int .i64 0/\t=wr.alloc (.cells #[.string ⟨a[b].t.toArray⟩,.int .i64 a[b].m,.slice none 0 0,.int .i64 a[b].num] 367)) (λ_ _=>0)
     case atStart=>exact⟨rfl,rfl⟩
     case round=>
      obtain⟨rfl,rfl⟩:=hrel;go_wp2;exact⟨⟨b+1,i,by go_num,by omega,F,a1,D⟩,by simp[intOf];omega⟩
    .rw[H]at c1;have f8:∀(h:World) (i:q),e.J i h->∀d (p:d<a[b].u.length),h.cell? ⟨o,d*5,none⟩=some (.string ⟨a[b].u[d].t.toArray⟩)/\h.cell? ⟨o,d*5+1,none⟩=some (.int .i64 a[b].u[d].m)/\h.cell? ⟨o,d*5+2,none⟩=some (bW a[b].u[d].cc)/\h.cell? ⟨o,d*5+3,none⟩=some (bW a[b].u[d].b3)/\h.cell? ⟨o,d*5+4,none⟩=some (.int .i64 a[b].u[d].num):=by
      intro h i R d p;have k:=K R _ e7;have j:=lc (c:=kH) (n:=5) (λ_=>rfl) a[b].u d;exact⟨cu k x ((j 0 p (by omega)).trans (by simp)),cu k x ((j 1 p (by omega)).trans (by simp)),cu k x ((j 2 p (by omega)).trans (by simp)),cu k x ((j 3 p (by omega)).trans (by simp)),cu k x ((j 4 p (by omega)).trans (by simp))⟩
     have d3:=Z f8;have F:=Z (r.ca y.b ((Below.refl _ _).alloc (Y4 _) (.cells #[.string ⟨a[b].t.toArray⟩,.int .i64 a[b].m,.slice (some ⟨o,0,none⟩) a[b].u.length b4,.int .i64 a[b].num] 367)));have a1:=l.d (.cells #[.string ⟨a[b].t.toArray⟩,.int .i64 a[b].m,.slice (some ⟨o,0,none⟩) a[b].u.length b4,.int .i64 a[b].num] 367);go_wp2;go_loopw [20] (λf c3=>∃(d:Nat) (s:q),f=.int .i64 d/\d<=a[b].u.length/\U (e.J s c3)/\ai e.M m c3/\U (aY e (a.flatMap eZ) g=aY e ((a[b].u.drop d).flatMap lq++(a.drop (b+1)).flatMap eZ) s)) (λf _=>a[b].u.length-(intOf f).toNat)
     case atStart=>exact⟨0,i,rfl,by omega,F,a1,a6⟩
     case round=>
      obtain⟨d,s,rfl,p,z,b9,a8⟩:=hrel;rcases Yj d a[b].u.length with B|h7
      .obtain⟨i8,i9,g4,g5,j0⟩:=d3.b _ _ z.b d B;obtain⟨b0,c4,b5⟩:=fk a[b].u[d].cc;obtain⟨b1,c5,b6⟩:=fk a[b].u[d].b3;have i5:=pV a[b].u[d].cc b5;have h4:=pS a[b].u[d].cc;have i6:=pV a[b].u[d].b3 b6;have h5:=pS a[b].u[d].b3;rw[b5]at g4;rw[b6]at g5;have i0:(0:Int)<=↑d:=by omega
       have i1:(↑d:Int) < ↑a[b].u.length:=by omega
       have a7:U (aY e (a.flatMap eZ) g=aY e (cf a[b].u[d].cc++(cf a[b].u[d].b3++((a[b].u.drop (d+1)).flatMap lq++(a.drop (b+1)).flatMap eZ))) s):=by
        refine a8.b.trans ?_;rw[Yk B,YD];simp only[lq,YN]
       have d0:=Z (tq r a[b].u[d].cc (λn O=>a9.b n (List.mem_flatMap.2 ⟨a[b],Yy w,List.mem_flatMap.2 ⟨a[b].u[d],Yy B,Yf _ O⟩⟩)) (r.ca z.b ((Below.refl _ _).alloc (Y4 _) (.cells #[.string ⟨a[b].u[d].t.toArray⟩,.int .i64 a[b].u[d].m,.iface b0 c4,.iface b1 c5,.int .i64 a[b].u[d].num] 446))))
       have f6:=r.al z.b;have a3:=b9.d (.cells #[.string ⟨a[b].u[d].t.toArray⟩,.int .i64 a[b].u[d].m,.iface b0 c4,.iface b1 c5,.int .i64 a[b].u[d].num] 446)
       go_wp2_with fail;refine d0.b.mono ?_;rintro d6 g7 (⟨g6,S,rfl,f0,b8⟩|⟨I,S,N,G,e1,rfl,L⟩);rotate_left
       .exact(show bodyPost prog Tryz.f352 (fs e m (aY e (a.flatMap eZ) g)) (Exit.panic _) _ g7 from aq (Ya ⟨I,a7.b.trans (qn S),a3.a N,G,by have:=a3.F;omega,rfl,L⟩))
       have e0:=(b8.i _ (by simp) (λf4=>by have:=f6 _ f4;omega)).trans (aJ rfl);obtain⟨_,_,_,j4,_,_⟩:=uv e0;have a5:U (aY e (a.flatMap eZ) g=aY e (cf a[b].u[d].b3++((a[b].u.drop (d+1)).flatMap lq++(a.drop (b+1)).flatMap eZ)) g6):=a7.b.trans (qo S);have d1:=Z (tq r a[b].u[d].b3 (λn O=>a9.b n (List.mem_flatMap.2 ⟨a[b],Yy w,List.mem_flatMap.2 ⟨a[b].u[d],Yy B,Ym _ O⟩⟩)) f0);have a2:=a3.a b8;go_wp2_with fail;refine d1.b.mono ?_;rintro d6 g8 (⟨c2,a0,rfl,f1,g1⟩|⟨I,a0,N,G,e1,rfl,L⟩);rotate_left
       .exact(show bodyPost prog Tryz.f352 (fs e m (aY e (a.flatMap eZ) g)) (Exit.panic _) _ g8 from aq (Ya ⟨I,a5.b.trans (qn a0),a2.a N,G,by have:=a2.F;omega,rfl,L⟩))
       have d4:=Z f1;have c6:U (aY e (a.flatMap eZ) g=aY e ((a[b].u.drop (d+1)).flatMap lq++(a.drop (b+1)).flatMap eZ) c2):=a5.b.trans (qo a0);have g2:=a2.a g1;go_wp2;exact⟨⟨d+1,c2,by go_num,by omega,d4,g2,c6⟩,by simp[intOf];omega⟩
      .have f2:d=a[b].u.length:=by omega
       subst f2;have D:U (aY e (a.flatMap eZ) g=aY e ((a.drop (b+1)).flatMap eZ) s):=by
        refine a8.b.trans ?_;rw[List.drop_length];rfl
       go_wp2;exact⟨⟨b+1,s,by go_num,by omega,z,b9,D⟩,by simp[intOf];omega⟩
   .have f3:b=a.length:=by omega
    subst f3;have e5:aY e (a.flatMap eZ) g=.ok i:=by
     refine a4.b.trans ?_;rw[List.drop_length];rfl
    have c9:=Z e5;go_wp2;go_end0;exact Y8 ⟨i,c9.b,rfl,y.b,l⟩
section
variable {P:Program}{c idx o s st t:Nat}{d:List (Nat × Obj)}{g:Array Value}{a:ao}{b:World}{e:Type}
def zV{e:Nat}{a:TypeId}{f:Nat×Nat}(i:b.heap[c]? = some (.cells g a f))(k:P.cellsOf a=s)(h:s≠0)(j:byteOfCell P P.depth a (o % s)=some e) :
  (byteOf ⟨c,o,none⟩).run P b=.ok (o / s*P.bytesOf a+e) b:=by
 have d:b.shape? c=some (a,g.size):=by simp[World.shape?,i]
 have l:(viewAt c).run P b=.ok none b:=by simp[viewAt,d]
 unfold byteOf;simp[noView,shape,Sem.run,l,d,k,h,j]
def uT{w:Nat}{f h r:Nat}{name:String}{n1 n2:Nat}{d:TypeId}{u:Nat×Nat}(k:b.heap[c]? = some (.cells g d u)){m:TypeInfo}(C:P.info? t=some m){a:Method}(E:m.methods.find? (λa=>a.name==name)=some a)(G:a.path=#[⟨st,idx,true⟩])(A:a.func=some (h,false))
  {i:Array Field} (I:P.underlying st=some (.struct i)) {e:Field} (B:i[idx]? = some e) (H:e.type=f) (F:e.offset=o) (x:e.byteOffset=r) {v:Array Field} (J:P.underlying f=some (.struct v)) {n:TypeInfo} (D:P.info? f=some n) (K:n.size=0)
  (l:P.cellsOf d=s) (j:s≠0) (y:byteOfCell P P.depth d (0 % s)=some n1) (z:byteOfCell P P.depth d (o % s)=some n2) :
  (method (w+1) t (.pointer (some ⟨c,0,none⟩)) name).run P b=.ok (h,.agg #[]) b:=by
 have p:=zV (P:=P) (o:=0) k l j y;have q:=zV (P:=P) (o:=o) k l j z;unfold method;simp only[Sem.run_bind,run_typeInfo _ C,Result.andThen_ok,E,G,A,follow,run_underlying I,B,Place.get,asAddr,fieldPlace,partAt,sizeOf,H,run_typeInfo _ D,Sem.run_pure,if_true,K,F,x,p,q,Nat.zero_add,receiverAt,run_underlying J,loadVar,isAgg]
 rfl
def uG{y:Nat}(b:((P.underlying st).bind λa=>match a with|.struct c=>c[idx]?|_=>none).map (λe=>(e.type,e.offset,e.byteOffset))=some (t,o,y)) :
  ∃c d,P.underlying st=some (.struct c)/\c[idx]? = some d/\d.type=t/\d.offset=o/\d.byteOffset=y:=by
 cases g:P.underlying st with
 |none=>rw[g]at b;cases b
 |some a=>
  rw[g]at b;simp only[Option.bind_some]at b;cases a with
  |struct c=>
   simp only at b;cases f:c[idx]? with
   |none=>rw[f]at b;cases b
   |some d=>
    rw[f]at b;simp only[Option.map_some,Yu,Prod.mk.injEq]at b;exact⟨c,d,rfl,f,b.1,b.2.1,b.2.2⟩
  |_=>cases b
def un:∃c,prog.underlying 250=some (.struct c):=by
 have b:(prog.underlying 250).map (λa=>match a with|.struct _=>true|_=>false)=some true:=by kernel_rfl
 cases d:prog.underlying 250 with
 |none=>rw[d]at b;cases b
 |some a=>
  rw[d]at b;cases a with
  |struct c=>exact⟨c,rfl⟩
  |_=>cases b
def gi:ao->List (List UInt8×Nat)
 |.const ..=>[]
 |.typedef a=>cf a.k
 |.enum ..=>[]
 |.struct _ _ c=>c.flatMap λa=>cf a.k
 |.union _ _ _ b=>b.flatMap λa=>cf a.2.k
 |.prog _ _ d _=>d.flatMap eZ
def eI:ao->List (List UInt8×Nat)
 |.const ..=>[]
 |.typedef a=>cH a.k
 |.enum ..=>[]
 |.struct _ _ c=>c.flatMap λa=>cH a.k
 |.union _ _ _ b=>b.flatMap λa=>cH a.2.k
 |.prog ..=>[]
def uD:ao->Nat
 |.typedef ..=>337
 |.struct ..=>345
 |.union ..=>348
 |.prog ..=>352
 |_=>332
def GS(a:ao)(args:Array Value)(b:World):(callFunc (uD a) args).run prog b=.ok (.enter (uD a) args) b:=by cases a<;>kernel_rfl
def uC:ao->Nat
 |.typedef ..=>336
 |.struct ..=>344
 |.union ..=>347
 |.prog ..=>351
 |_=>331
def An(a:ao)(args:Array Value)(b:World):(callFunc (uC a) args).run prog b=.ok (.enter (uC a) args) b:=by cases a<;>kernel_rfl
def uE(c:Nat):ao->Value
 |.const ..=>.agg #[]
 |.enum ..=>.agg #[]
 |_=>.pointer (some ⟨c,0,none⟩)
def GU     (x : dw d c a) (z : ∀ p ∈ d, b.heap[p.1]? = some p.2) (H : Nat) : (method (H + 1) (cD a) (.pointer (some ⟨c, 0, none⟩)) "Names").run Tryz.prog b = .ok (uD a, uE c a) b := by
 cases a with
 |const t e v=>
  obtain ⟨F, I, j, k, l, m⟩ := rK (P := Tryz.prog) (t := 223) (name := "Names") (p := #[⟨343, 1, true⟩]) (f := some (332, false)) (by kernel_rfl)
  obtain⟨C,B,n,q,r,u,w⟩:=uG (P:=prog) (st:=343) (idx:=1) (t:=250) (o:=2) (y:=24) (by kernel_rfl);obtain⟨D,g⟩:=un;obtain⟨G,h,i⟩:=qk (P:=prog) (t:=250) (n:=0) (by kernel_rfl);exact uT (s:=3) (n1:=0) (n2:=24) (z _ x) j k l m n q r u w g h i (by kernel_rfl) (by omega) (by kernel_rfl) (by kernel_rfl)
 |enum t e J=>
  obtain⟨M,L,E,_⟩:=x
  obtain ⟨F, I, j, k, l, m⟩ := rK (P := Tryz.prog) (t := 227) (name := "Names") (p := #[⟨253, 1, true⟩]) (f := some (332, false)) (by kernel_rfl)
  obtain⟨C,B,n,q,r,u,w⟩:=uG (P:=prog) (st:=253) (idx:=1) (t:=250) (o:=2) (y:=24) (by kernel_rfl);obtain⟨D,g⟩:=un;obtain⟨G,h,i⟩:=qk (P:=prog) (t:=250) (n:=0) (by kernel_rfl);exact uT (s:=3) (n1:=0) (n2:=24) (z _ E) j k l m n q r u w g h i (by kernel_rfl) (by omega) (by kernel_rfl) (by kernel_rfl)
 |typedef a=>kernel_rfl
 |struct t e J=>kernel_rfl
 |union t e s K=>kernel_rfl
 |prog t e N A=>kernel_rfl
def Ap     (x : dw d c a) (z : ∀ p ∈ d, b.heap[p.1]? = some p.2) (H : Nat) : (method (H + 1) (cD a) (.pointer (some ⟨c, 0, none⟩)) "Leads").run Tryz.prog b = .ok (uC a, uE c a) b := by
 cases a with
 |const t e v=>
  obtain ⟨F, I, j, k, l, m⟩ := rK (P := Tryz.prog) (t := 223) (name := "Leads") (p := #[⟨343, 1, true⟩]) (f := some (331, false)) (by kernel_rfl)
  obtain⟨C,B,n,q,r,u,w⟩:=uG (P:=prog) (st:=343) (idx:=1) (t:=250) (o:=2) (y:=24) (by kernel_rfl);obtain⟨D,g⟩:=un;obtain⟨G,h,i⟩:=qk (P:=prog) (t:=250) (n:=0) (by kernel_rfl);exact uT (s:=3) (n1:=0) (n2:=24) (z _ x) j k l m n q r u w g h i (by kernel_rfl) (by omega) (by kernel_rfl) (by kernel_rfl)
 |enum t e J=>
  obtain⟨M,L,E,_⟩:=x
  obtain ⟨F, I, j, k, l, m⟩ := rK (P := Tryz.prog) (t := 227) (name := "Leads") (p := #[⟨253, 1, true⟩]) (f := some (331, false)) (by kernel_rfl)
  obtain⟨C,B,n,q,r,u,w⟩:=uG (P:=prog) (st:=253) (idx:=1) (t:=250) (o:=2) (y:=24) (by kernel_rfl);obtain⟨D,g⟩:=un;obtain⟨G,h,i⟩:=qk (P:=prog) (t:=250) (n:=0) (by kernel_rfl);exact uT (s:=3) (n1:=0) (n2:=24) (z _ E) j k l m n q r u w g h i (by kernel_rfl) (by omega) (by kernel_rfl) (by kernel_rfl)
 |typedef a=>kernel_rfl
 |struct t e J=>kernel_rfl
 |union t e s K=>kernel_rfl
 |prog t e N A=>kernel_rfl
def MJ{a:eT e}{t:e}(c:Nat)(d:a.J t b):Calls prog 351 #[.pointer (some ⟨c,0,none⟩),a.v] b (fs a b (.ok t)):=by
 go_in;go_wp2;go_end0;exact Y8 ⟨t,rfl,rfl,d,ah _ _⟩
def GT{f:eT e}(h:hd f){d:List (Nat×Obj)}(l:∀m∈gi a,f.ok m)(k:dw d c a)(j:∀{t:e} {o:World},f.J t o->∀n∈d,o.heap[n.1]? = some n.2){t:e}(g:f.J t b) :
  Calls prog (uD a) #[uE c a,f.v] b (fs f b (aY f (gi a) t)):=by
 cases a with
 |const t i v=>exact qT h g
 |enum t i p=>exact qT h g
 |typedef a=>exact Rv h l k j g
 |struct t i p=>exact Qn h l k j g
 |union t i s q=>exact RC h l k j g
 |prog t i r m=>exact MK h l k j g
def Ao{f:eT e}(h:hd f){d:List (Nat×Obj)}(l:∀m∈eI a,f.ok m)(k:dw d c a)(j:∀{t:e} {o:World},f.J t o->∀n∈d,o.heap[n.1]? = some n.2){t:e}(g:f.J t b) :
  Calls prog (uC a) #[uE c a,f.v] b (fs f b (aY f (eI a) t)):=by
 cases a with
 |const t i v=>exact qS h g
 |enum t i p=>exact qS h g
 |typedef a=>exact Ru h l k j g
 |struct t i p=>exact Qm h l k j g
 |union t i s q=>exact RB h l k j g
 |prog t i r m=>exact MJ c g
end
def iR:ao->Bool
 |.typedef ..=>true
 |.enum ..=>true
 |.struct ..=>true
 |.union ..=>true
 |_=>false
def oq:Option ao->Bool
 |some a=>iR a
 |none=>false
def Jf{m:List (Nat×Obj)}{v:Value}{j:Option ao}(h:je m v j)(l:World):Calls prog 126 #[v] l λn p=>n=.returned (.bool (oq j))/\p=l:=by
 cases j with
 |none=>
  have h:v=.nilIface:=h;subst h;have c:=wh 157 225 λa=>by kernel_rfl
  have d:=wh 157 227 λa=>by kernel_rfl
  have e:=wh 157 229 λa=>by kernel_rfl
  have f:=wh 157 231 λa=>by kernel_rfl
  go_in;go_wp2;go_ret;exact⟨rfl,rfl⟩
 |some k=>
  obtain⟨b,rfl,_⟩:=h;cases k with
  |const i g v=>
   dsimp only[cD];have c:=el 223 b 157 225 λa=>by kernel_rfl
   have d:=el 223 b 157 227 λa=>by kernel_rfl
   have e:=el 223 b 157 229 λa=>by kernel_rfl
   have f:=el 223 b 157 231 λa=>by kernel_rfl
   go_in;go_wp2;go_ret;exact⟨rfl,rfl⟩
  |typedef k=>
   dsimp only[cD];have c:=mw 225 b 157 225 λa=>by kernel_rfl
   have d:=el 225 b 157 227 λa=>by kernel_rfl
   have e:=el 225 b 157 229 λa=>by kernel_rfl
   have f:=el 225 b 157 231 λa=>by kernel_rfl
   go_in;go_wp2;go_ret;exact⟨rfl,rfl⟩
  |enum i g o=>
   dsimp only[cD];have c:=el 227 b 157 225 λa=>by kernel_rfl
   have d:=mw 227 b 157 227 λa=>by kernel_rfl
   have e:=el 227 b 157 229 λa=>by kernel_rfl
   have f:=el 227 b 157 231 λa=>by kernel_rfl
   go_in;go_wp2;go_ret;exact⟨rfl,rfl⟩
  |struct i g o=>
   dsimp only[cD];have c:=el 229 b 157 225 λa=>by kernel_rfl
   have d:=el 229 b 157 227 λa=>by kernel_rfl
   have e:=mw 229 b 157 229 λa=>by kernel_rfl
   have f:=el 229 b 157 231 λa=>by kernel_rfl
   go_in;go_wp2;go_ret;exact⟨rfl,rfl⟩
  |union i g s q=>
   dsimp only[cD];have c:=el 231 b 157 225 λa=>by kernel_rfl
   have d:=el 231 b 157 227 λa=>by kernel_rfl
   have e:=el 231 b 157 229 λa=>by kernel_rfl
   have f:=mw 231 b 157 231 λa=>by kernel_rfl
   go_in;go_wp2;go_ret;exact⟨rfl,rfl⟩
  |prog i g t r=>
   dsimp only[cD];have c:=el 233 b 157 225 λa=>by kernel_rfl
   have d:=el 233 b 157 227 λa=>by kernel_rfl
   have e:=el 233 b 157 229 λa=>by kernel_rfl
   have f:=el 233 b 157 231 λa=>by kernel_rfl
   go_in;go_wp2;go_ret;exact⟨rfl,rfl⟩
def js(c:St)(a:List UInt8×Nat):Except Mar.M Unit:=match ay c.g a.1 with
 |some b=>if oq b then .ok ()else .error ⟨7,a.2⟩
 |none=>.error ⟨7,a.2⟩
def fy(a:Ad)(h:ByteArray)(d:St)(e:List (Nat×Obj))(c:Nat):eT Unit where
 f:=125
 d4:=#[]
 d3:=#[.pointer (some ⟨c,0,none⟩)]
 af:=λg _=>js d g
 J:=λ_ b=>Rd a h d b/\b.heap[c]? = some (.cells #[.pointer (some ⟨a.R,0,none⟩)] 145)/\bm a.X e b
 M:=[]
 ok:=λ_=>True
def JK{c:Ad}{q:ByteArray}{h:St}{n:List (Nat×Obj)}{f:Nat}{b:World}(a:List UInt8×Nat)(B:(fy c q h n f).J () b) :
  Calls prog 125 #[fQ a,.pointer (some ⟨f,0,none⟩)] b (fs (fy c q h n f) b (js h a)):=by
 obtain⟨m,j,s⟩:=B;have k:=((Below.refl b.heap.size b).alloc (Y4 _) (.cells #[.string ⟨a.1.toArray⟩,.int .i64 a.2] 160)).drew;have p:=m.t k;obtain⟨E,F,G,H,I,K⟩:=m.r;have L:=m.K.1;have C:=aj j;have D:=bL j;have x:=aJ (w:=b) (o:=.cells #[.string ⟨a.1.toArray⟩,.int .i64 a.2] 160) rfl;obtain⟨P,S,_⟩:=kx x;have key:∃v d i,(Instr.lookup 148 (.map (some c.N)) (.string ⟨a.1.toArray⟩) false).run prog ((b.alloc (.cells #[.string ⟨a.1.toArray⟩,.int .i64 a.2] 160)).drew)=.ok v ((b.alloc (.cells #[.string ⟨a.1.toArray⟩,.int .i64 a.2] 160)).drew)/\je i v d/\js h a=if oq d then .ok ()else .error ⟨7,a.2⟩:=by
  rcases vh p.nm a.1 false with⟨o,e⟩|⟨d,v,i,o,_,l,e⟩
  .simp only[Ye,if_false]at e
   exact⟨.nilIface,none,[],e,rfl,by simp only[js,o,oq];rfl⟩
  .simp only[Ye,if_false]at e
   exact⟨v,d,i,e,l,by simp only[js,o]⟩
 obtain⟨v,d,i,e,l,t⟩:=key;have y:=Z l;have r:=Z t;have z:U ((fy c q h n f).J () ((b.alloc (.cells #[.string ⟨a.1.toArray⟩,.int .i64 a.2] 160)).drew)):=⟨p,(k.block _ C).trans j,s.h (br [] k) (by simp)⟩;have M:¬c.R=b.heap.size:=by omega
 have O:¬f=b.heap.size:=by omega
 clear m j s k p l t x;dsimp only[fQ];go_in;go_wp2_with fail;go_region_held2 (λg=>g.cell? ⟨f,0,none⟩=some (.pointer (some ⟨c.R,0,none⟩))/\g.cell? ⟨c.R,1,none⟩=some (.map (some c.N))/\g.cell? ⟨b.heap.size,0,none⟩=some (.string ⟨a.1.toArray⟩)) (go_keep)
  (first|(go_at_call 126;refine(Jf y.b _).mono ?_;rintro A g ⟨rfl,rfl⟩))
 all_goals
  cases u:oq d with
  |true=>
   go_wp2;go_end0;exact Y8 ⟨(),by rw[r.b,u];rfl,rfl,z.b,((ah _ b).d _).ae⟩
  |false=>
   go_wp2_with (go_at_call 70;refine(gL _ _ _).mono ?_;rintro A g ⟨rfl,rfl⟩);exact aq (Ya ⟨⟨7,a.2⟩,by rw[r.b,u];rfl,(((ah _ b).d _).ae).d _,b.heap.size+1,by omega,rfl,aJ (by simp)⟩)
def JM(args:Array Value)(a:World):(callFunc 125 args).run prog a=.ok (.enter 125 args) a:=by kernel_rfl
def JL(c:Ad)(l:ByteArray)(n:St)(d:List (Nat×Obj))(j:Nat):hd (fy c l n d j) where
 e0:=JM
 al:=by intro k m _ o h;cases h
 ca:=by
  rintro k m p ⟨f,b,g⟩ a;exact⟨f.t a,(a.block _ (aj b)).trans b,g.h (br [] a) (by simp)⟩
 call:=λi _ e=>JK i e
abbrev iO(b:List ao)(c:List Nat):List Value:=(b.zip c).map λa=>Value.iface (cD a.1) (.pointer (some ⟨a.2,0,none⟩))
structure jd(bs:List (Nat×Obj))(sl:Value)(ds:List ao)(ps:List Nat):Prop where
 ak:ps.length=ds.length
 row:fv bs 157 sl ds.length (iO ds ps)
 cr:∀i (h:i<ds.length) (h':i<ps.length),dw bs ps[i] ds[i]
def kD(b:St)(a:List ao):Except Mar.M Unit:=aY (fy ⟨0,0,0,0,[]⟩ ⟨#[]⟩ b [] 0) (a.flatMap gi) ()
def JP(e:Ad)(h:ByteArray)(a:St)(f:List (Nat×Obj))(g:Nat):∀(d:List (List UInt8×Nat)) (b:Unit),aY (fy e h a f g) d b=aY (fy ⟨0,0,0,0,[]⟩ ⟨#[]⟩ a [] 0) d b:=by
 intro d;induction d with
 |nil=>intro b;rfl
 |cons c d k=>
  intro b;simp only[aY];have i:(fy e h a f g).af c b=js a c:=rfl;have j:(fy ⟨0,0,0,0,[]⟩ ⟨#[]⟩ a [] 0).af c b=js a c:=rfl;rw[i,j];cases js a c with
  |ok l=>exact k l
  |error m=>rfl
def JR{c:Ad}{g:ByteArray}{d:St}{e:List (Nat×Obj)}{B:Value}{b:List ao}{o:List Nat}{a:World}(N:Rd c g d a)(a4:bm c.X e a)(a0:jd e B b o) :
  Calls prog 74 #[.pointer (some ⟨c.R,0,none⟩),B] a λl k=>(kD d b=.ok ()/\l=.returned (.tuple #[])/\ai [] a k)\/(∃i,kD d b=.error i/\ai [] a k/\fe a i.no i.m l k):=by
 have c8:=jq;have A:=(Below.refl a.heap.size a).alloc (Y4 _) (.cells #[.pointer (some ⟨c.R,0,none⟩)] 145);have P:=JL c g d e a.heap.size;have z:∀(j:World),(fy c g d e a.heap.size).J () j->∀q∈e,j.heap[q.1]? = some q.2:=λj n q b2=>(n.2.2 q b2).1;have J:U ((fy c g d e a.heap.size).J () (a.alloc (.cells #[.pointer (some ⟨c.R,0,none⟩)] 145))):=⟨N.t A,aJ rfl,a4.h (br [] A) (by simp)⟩;have b0:kD d b=aY (fy c g d e a.heap.size) (b.flatMap gi) ():=(JP _ _ _ _ _ _ _).symm;rw[b0];have I:=Z P;have y:=Z z;obtain⟨b3,b4,a1⟩:=a0;have x:=Z a1;have G:=Z b3;rcases b4 with⟨rfl,O,_⟩|⟨M,b9,c0,rfl,⟨c2,c9⟩,a3,b6⟩
 .have b1:b=[]:=Yv.1 O;subst b1;go_in;go_wp2;go_loopw [8] (λh r=>h=.int .i64 0/\r=a.alloc (.cells #[.pointer (some ⟨c.R,0,none⟩)] 145)) (λ_ _=>0)
  case atStart=>exact⟨rfl,rfl⟩
  case round=>
   obtain⟨rfl,rfl⟩:=hrel;go_wp2;go_end0;exact Y8 ⟨rfl,rfl,(ah _ a).d _⟩
 .have b5:∀(j:World),(fy c g d e a.heap.size).J () j->∀h (a5:h<b.length) (a6:h<o.length),j.cell? ⟨M,h,none⟩=some (.iface (cD b[h]) (.pointer (some ⟨o[h],0,none⟩))):=by
   intro j n h a5 a6;refine cu (z _ n _ a3) b6 ?_;have m:h<(iO b o).length:=by simp;omega
   rw[Yd m];simp
  have H:=Z b5;go_in;go_wp2;go_loopw [8] (λh r=>∃(f:Nat),h=.int .i64 f/\f<=b.length/\U ((fy c g d e a.heap.size).J () r)/\ai [] a r/\U (aY (fy c g d e a.heap.size) (b.flatMap gi) ()=aY (fy c g d e a.heap.size) ((b.drop f).flatMap gi) ())) (λh _=>b.length-(intOf h).toNat)
  case atStart=>exact⟨0,rfl,by omega,J,(ah _ a).d _,rfl⟩
  case round=>
   obtain⟨f,rfl,c7,s,m,v⟩:=hrel;rcases Yj f b.length with p|c4
   .have t:f<o.length:=by have:=G.b;omega
    have d1:=H.b _ s.b f p t;have d0:=GU (x.b f p t) (y.b _ s.b);have c3:=GS b[f];have c5:(0:Int)<=↑f:=by omega
    have c6:(↑f:Int) < ↑b.length:=by omega
    have w:U (aY (fy c g d e a.heap.size) (b.flatMap gi) ()=aY (fy c g d e a.heap.size) (gi b[f]++(b.drop (f+1)).flatMap gi) ()):=by
     refine v.b.trans ?_;rw[Yk p,YD]
    have F:=Z (GT I.b (λ_ _=>trivial) (x.b f p t) (λn=>y.b _ n) s.b);go_wp2_with fail;refine F.b.mono ?_;rintro l C (⟨d2,u,rfl,a7,b7⟩|⟨i,u,a8,L,c1,rfl,S⟩);rotate_left
    .exact(show bodyPost prog Tryz.f74 (λl k=>(aY (fy c g d e a.heap.size) (b.flatMap gi) ()=.ok ()/\l=.returned (.tuple #[])/\ai [] a k)\/(∃i,aY (fy c g d e a.heap.size) (b.flatMap gi) ()=.error i/\ai [] a k/\fe a i.no i.m l k)) (Exit.panic _) _ C from aq (Ya ⟨i,w.b.trans (qn u),m.a a8,L,by have:=m.F;omega,rfl,S⟩))
    have K:=Z a7;have D:U (aY (fy c g d e a.heap.size) (b.flatMap gi) ()=aY (fy c g d e a.heap.size) ((b.drop (f+1)).flatMap gi) ()):=w.b.trans (qo u);have b8:ai [] a C:=m.a b7;go_wp2;exact⟨⟨f+1,by go_num,by omega,K,b8,D⟩,by simp[intOf];omega⟩
   .have a9:f=b.length:=by omega
    subst a9;have a2:aY (fy c g d e a.heap.size) (b.flatMap gi) ()=.ok ():=by
     refine v.b.trans ?_;rw[List.drop_length];rfl
    have E:=Z a2;go_wp2;go_end0;exact Y8 ⟨E.b,rfl,m⟩
section
variable {l:Ad}{n:Nat}{o:List Nat}{i:List (Nat×Obj)}{h:List (List UInt8×Option ao)}{e:List UInt8}{r:Option ao}{b:List (List UInt8)}{j p m:World}{g:List Value}{c:St}
def lL(o:List Nat)(n:Nat)(h:List (List UInt8×Option ao))(i:List (Nat×Obj))(g:List Value)(m:World):Prop:=
 (h.map (·.1)).Nodup/\bm o i m/\g.length=h.length/\m.heap[n]? = some (pT (h.zip g |>.map λb=>(b.1.1,b.2)))/\∀a (c:a<h.length) (d:a<g.length),je i g[a] h[a].2
def lL.h{d:World}{a:List Nat}(e:lL o n h i g m)(c:ai a m d)(l:∀q∈a,q∈o)(p:n ∉ a):lL o n h i g d:=by
 obtain⟨r,f,j,b,k⟩:=e;exact⟨r,f.h c l,j,(c.i _ (aj b) p).trans b,k⟩
def LA(t:lL o n h i g m)(k:List UInt8)(s:ay h k=some r) :
  ∃v,je i v r/\(Instr.lookup 148 (.map (some n)) (.string ⟨k.toArray⟩) false).run prog m=.ok v m:=by
 obtain⟨D,E,F,u,w⟩:=t;have z:IsKey .string (.string ⟨k.toArray⟩):=trivial;have x:=rE (h.zip g |>.map λa=>(a.1.1,a.2));have C:(zeroValue 157).run prog m=.ok .nilIface m:=by kernel_rfl
 rcases tg (P:=prog) (T:=148) (kt:=9) (et:=157) (d:=.string) (by kernel_rfl) (by kernel_rfl) z u (by simpa using x) C false with⟨b,j⟩|⟨e,l,b,j,q⟩
 .exfalso;obtain⟨a,B,l,_⟩:=xQ s;obtain⟨c,G,rfl⟩:=List.getElem_of_mem B;have H:c<g.length:=by omega
  have A:(⟨.string ⟨h[c].1.toArray⟩,g[c],c⟩:MapEntry)∈((h.zip g |>.map λa=>(a.1.1,a.2)).mapIdx λc a=>(⟨.string ⟨a.1.toArray⟩,a.2,c⟩:MapEntry)).toArray.toList:=by
   simp only[List.toList_toArray];rw[List.mem_mapIdx];exact⟨c,by simp;omega,by simp⟩
  exact b _ A (by rw[l])
 .simp only[List.toList_toArray,List.getElem?_mapIdx]at b;have f:e<h.length:=by
   by_cases f:e<h.length
   .exact f
   .rw[YA (by simp;omega)]at b;cases b
  have y:e<g.length:=by omega
  rw[Yd (by simp;omega)]at b;simp at b;subst b;simp at j q;have p:=xL D (Yy f) j;rw[s]at p;cases p
  exact⟨g[e],w e f y,by simpa using q⟩
def hp(c:St)(b:List (List UInt8)):Nat:=c.g.countP λa=>!b.contains a.1
def GF(k:e ∉ b):∀(h:List (List UInt8×Option ao)),h.countP (λa=>!(b++[e]).contains a.1)<=h.countP (λa=>!b.contains a.1)/\((∃a∈h,a.1=e)->h.countP (λa=>!(b++[e]).contains a.1)<h.countP (λa=>!b.contains a.1)):=by
 intro h;induction h with
 |nil=>exact⟨by simp,by rintro⟨a,d,_⟩;cases d⟩
 |cons c h m=>
  obtain⟨n,l⟩:=m;by_cases f:c.1=e
  .have g:(!(b++[e]).contains c.1)=false:=by simp[f]
   have j:(!b.contains c.1)=true:=by rw[f];simpa using k
   rw[List.countP_cons_of_neg (by show ¬((!(b++[e]).contains c.1)=true);rw[g];simp),List.countP_cons_of_pos (by exact j)];exact⟨by omega,λ_=>by omega⟩
  .have g:(!(b++[e]).contains c.1)=(!b.contains c.1):=by simp[f]
   rw[List.countP_cons,List.countP_cons,g];refine⟨by omega,?_⟩;rintro⟨a,d,i⟩;rcases Yg.1 d with rfl|d
   .exact absurd i f
   .have:=l ⟨a,d,i⟩;omega
def RH(d:e ∉ b)(f:ay c.g e=some r):hp c (b++[e])<hp c b:=by
 obtain⟨h,g,a,_⟩:=xQ f;exact(GF d c.g).2 ⟨h,g,a⟩
def lh(c:St)(e:List UInt8):List (List UInt8×Nat):=match ay c.g e with
 |some (some a)=>eI a
 |_=>[]
def follow(c:St):Nat->List UInt8->List (List UInt8)->List (List UInt8)
 |0,_,b=>b
 |k+1,e,b=>if b.contains e then b else (lh c e).foldl (λb a=>follow c k a.1 b) (b++[e])
def Ih{k:Nat}(a:e∈b):follow c k e b=b:=by
 cases k with
 |zero=>rfl
 |succ k=>simp only[follow];rw[Y9 (by simpa using a)]
def Ii{k:Nat}{a:ao}(d:e ∉ b)(f:ay c.g e=some (some a)):follow c (k+1) e b=(eI a).foldl (λb g=>follow c k g.1 b) (b++[e]):=by
 simp only[follow,lh,f];rw[Y2 (by simpa using d)]
structure kh where
 qb:Nat
 rb:Nat
 fb:Nat
 q:Nat
def kh.V(a:kh):Value:=.func (.func 205) #[] #[.pointer (some ⟨a.qb,0,none⟩),.pointer (some ⟨a.rb,0,none⟩),.pointer (some ⟨a.fb,0,none⟩)]
structure ki(l:Ad)(text:ByteArray)(c:St)(i:List (Nat×Obj))(g:List Value)(a:kh)(k:Nat)(b:List (List UInt8))(j:World):Prop where
 rd:Rd l text c j
 nw:lL l.X l.N c.g i g j
 vq:j.heap[a.qb]? = some (.cells #[.map (some a.q)] 103)
 vr:j.heap[a.rb]? = some (.cells #[.pointer (some ⟨l.R,0,none⟩)] 145)
 vf:j.heap[a.fb]? = some (.cells #[a.V] 237)
 aH:dp a.q b j
 aZ:cT l a.q
 aP:hp c b<=k
def ki.bg{o:ByteArray}{a:kh}{n:Nat}(e:ki l o c i g a n b j):a.qb≠a.q/\a.rb≠a.q/\a.fb≠a.q:=by
 obtain⟨_,p,_,f⟩:=e.aH;have h:=e.vq;have k:=e.vr;have m:=e.vf;unfold pT at f;refine⟨?_,?_,?_⟩
 .intro d;rw[d,f]at h;cases h
 .intro d;rw[d,f]at k;cases k
 .intro d;rw[d,f]at m;cases m
def ki.a4{h:ByteArray}{e:kh}{r k':Nat}{f:List (List UInt8)}(a:ki l h c i g e r b j)(d:ai [e.q] j p)(o:dp e.q f p)(m:hp c f<=k'):ki l h c i g e k' f p:=by
 obtain⟨s,t,u⟩:=a.bg;obtain⟨_,v,_,n⟩:=id a.aH;refine⟨a.rd.j2 d a.aZ n,a.nw.h d (by simp;exact a.aZ.1) (by simp;exact λk=>a.aZ.2.2.2.1 k.symm),(d.i _ (aj a.vq) (by simpa using s)).trans a.vq,(d.i _ (aj a.vr) (by simpa using t)).trans a.vr,(d.i _ (aj a.vf) (by simpa using u)).trans a.vf,o,a.aZ,m⟩
def ki.t{h:ByteArray}{a:kh}{f:Nat}(d:ki l h c i g a f b j)(e:Below j.heap.size j p):ki l h c i g a f b p:=
 d.a4 (br [a.q] e) (d.aH.h (br [] e) (by simp)) d.aP
def pG(l:Ad)(j:ByteArray)(c:St)(i:List (Nat×Obj))(g:List Value)(a:kh)(d:Nat):eT (List (List UInt8)) where
 f:=205
 d4:=#[]
 d3:=#[.pointer (some ⟨a.qb,0,none⟩),.pointer (some ⟨a.rb,0,none⟩),.pointer (some ⟨a.fb,0,none⟩)]
 af:=λe b=>.ok (follow c d e.1 b)
 J:=ki l j c i g a d
 M:=[a.q]
 ok:=λe=>∃h,ay c.g e.1=some (some h)
def uI(l:Ad)(k:ByteArray)(c:St)(i:List (Nat×Obj))(g:List Value)(f:kh)(d:Nat):∀(a:List (List UInt8×Nat)) (b:List (List UInt8)),aY (pG l k c i g f d) a b=.ok (a.foldl (λb j=>follow c d j.1 b) b):=by
 intro a;induction a with
 |nil=>intro b;rfl
 |cons e a h=>intro b;simp only[aY,pG,YY];exact h _
def Ik(args:Array Value)(j:World):(callFunc 205 args).run prog j=.ok (.enter 205 args) j:=by kernel_rfl
end
def Ij{e:Ad}{F:ByteArray}{σ:St}{t:List (Nat×Obj)}{G:List Value}{b:kh}{k:Nat}(M:∀a g,ay σ.g a=some (some g)->∀b5∈eI g,∃a2,ay σ.g b5.1=some (some a2))
  (b4:∀k',k'<k->hd (pG e F σ t G b k')) {n:List (List UInt8)} {c:World} (a:List UInt8×Nat) (b0:∃g,ay σ.g a.1=some (some g)) (u:ki e F σ t G b k n c) :
  Calls prog 205 #[fQ a,.pointer (some ⟨b.qb,0,none⟩),.pointer (some ⟨b.rb,0,none⟩),.pointer (some ⟨b.fb,0,none⟩)] c (fs (pG e F σ t G b k) c (.ok (follow σ k a.1 n))):=by
 obtain⟨g,j⟩:=b0;have a5:=(Below.refl c.heap.size c).alloc (Y4 _) (.cells #[.string ⟨a.1.toArray⟩,.int .i64 a.2] 160);have h:=u.t a5;have A:=aJ (w:=c) (o:=.cells #[.string ⟨a.1.toArray⟩,.int .i64 a.2] 160) rfl;have d4:=u.aH.K;obtain⟨d7,d8,_⟩:=kx A;have c0:=bL h.vq;rcases yG h.aH a.1 with⟨y,b1⟩|⟨v,a7,b1⟩
 .obtain⟨m,d3,b2⟩:=h.aH.bn y (.int .i64 a.2);have c8:=RH y j;have d0:=u.aP;obtain⟨k',rfl⟩:∃k',k=k'+1:=⟨k-1,by omega⟩;have D:=gV (c.alloc (.cells #[.string ⟨a.1.toArray⟩,.int .i64 a.2] 160)) b.q m;have d:=h.a4 (k':=k') D b2 (by omega);have B:=(D.i _ (aj A) (by simp;omega)).trans A;obtain⟨d5,d6,_⟩:=kx B;have b9:=bL d.vr;have c7:=bL d.vf;have b7:=d.rd.r.2.1;have x:=d.t (Below.refl _ _).drew;obtain⟨v,a6,d1⟩:=LA x.nw a.1 j;obtain⟨b8,rfl,I⟩:=a6;have d2:=Ap I (λE z=>(x.nw.2.1 E z).1);have c9:=An g;have S:=Z (Ao (b4 k' (by omega)) (M a.1 g j) I (λ{n e0} b3 E z=>(b3.nw.2.1 E z).1) x);have r:=Z (Ii (k:=k') y j);have P:U (ai [b.q] c ((dm (c.alloc (.cells #[.string ⟨a.1.toArray⟩,.int .i64 a.2] 160)) b.q m).drew)):=(((ah _ c).d _).a D).ae;have H:=d.bg;have a3:∀f,ai [b.q] ((dm (c.alloc (.cells #[.string ⟨a.1.toArray⟩,.int .i64 a.2] 160)) b.q m).drew) f->f.cell? ⟨b.rb,0,none⟩=some (.pointer (some ⟨e.R,0,none⟩))/\f.cell? ⟨e.R,1,none⟩=some (.map (some e.N))/\f.cell? ⟨c.heap.size,0,none⟩=some (.string ⟨a.1.toArray⟩)/\f.cell? ⟨b.fb,0,none⟩=some b.V:=by
   intro f a8;have l:=((ah _ (dm (c.alloc (.cells #[.string ⟨a.1.toArray⟩,.int .i64 a.2] 160)) b.q m)).ae).a a8;obtain⟨_,e1,_,a9⟩:=id d.aH;have a4:=(d.rd.j2 l d.aZ a9).r.2.1;obtain⟨b6,_,_⟩:=kx ((l.i _ (aj B) (by simp;omega)).trans B);exact⟨bL ((l.i _ (aj d.vr) (by simpa using H.2.1)).trans d.vr),a4,b6,bL ((l.i _ (aj d.vf) (by simpa using H.2.2)).trans d.vf)⟩
  have L:=Z a3;dsimp only[fQ];go_in;go_wp2_with fail;go_region_held2 (λp=>p.cell? ⟨b.rb,0,none⟩=some (.pointer (some ⟨e.R,0,none⟩))/\p.cell? ⟨e.R,1,none⟩=some (.map (some e.N))/\p.cell? ⟨c.heap.size,0,none⟩=some (.string ⟨a.1.toArray⟩)/\p.cell? ⟨b.fb,0,none⟩=some b.V) (go_keep)
   (first|(refine S.b.mono ?_;rintro c1 f (⟨d9,i,rfl,J,C⟩|⟨c6,i,_⟩);rotate_left;(rw[uI]at i;cases i);have s:=Z J;have a1:=Z C;have a0:=Z i;obtain⟨c2,c3,c4,c5⟩:=L.b f C;clear J C i))
  all_goals
   go_wp2
   go_end0
   have K:=a0.b
   rw[uI]at K
   cases K
   exact Y8 ⟨_,by rw[r.b],rfl,s.b.a4 (ah _ _) s.b.aH (by have:=s.b.aP;omega),P.b.a a1.b⟩
 .have r:=Z (Ih (σ:=σ) (k:=k) a7);have O:=Z h;dsimp only[fQ];go_in;go_wp2;go_end0;exact Y8 ⟨n,by rw[r.b],rfl,O.b,(ah _ c).d _⟩
end Go.Proofs.YtjdhaegijjednaaGreatDoor
