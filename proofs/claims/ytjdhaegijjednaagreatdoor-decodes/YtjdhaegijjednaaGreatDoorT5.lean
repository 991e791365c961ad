import Derived.Test.YtjdhaegijjednaaGreatDoorT4
import Derived.Laws.IdiomStrings
import Derived.Test.YtjdhaegijjednaaGreatDoorRows
import Derived.Test.YtjdhaegijjednaaGreatDoorTie
import Derived.Test.YtjdhaegijjednaaGreatDoorCards
import Derived.ProofKit
import Derived.LaidMore
import Derived.OpenShut
import Derived.Stop.Joined
import Derived.LaidHandle
import Derived.SevenTiedAt
import Derived.Shelf.Vars
import Derived.ShutString
import Derived.ChangeOld
import Derived.Deep.Slices
set_option linter.all false
set_option maxRecDepth 100000
set_option maxHeartbeats 4000000
namespace Go.Proofs.YtjdhaegijjednaaGreatDoor
open Go.RowKit Go.MapKept Go.Proofs.Tryz
def acz{j d}(g:eR (aI j)=.error d){c}(o:Gl c)(n:c.cell? (Zd 1 0)=some (eM 55)):Calls prog 16 #[Zs j] c λa s=>ap [] c s/\a=.returned (.tuple #[.pointer none,.bool true]):=by
 have l:=U g;have m:=U (Rh g o);have k:=U n;clear o g n;go_in;go_wp21;refine m.i.mono ?_;rintro a t ⟨h,v,rfl,f⟩;go_wp21;refine(Is j t).mono ?_;rintro a u ⟨b,e⟩;unfold qI at e;rw[l.i]at e;obtain⟨rfl,w⟩:=e;have x:((d.no:Int) != 0)=true:=Zu;have i:=U (((ar [] u).A (ma (.slice none 0 0) (.slice none 0 0) (.slice none 0 0) (.string ⟨#[]⟩))));have q:=U (Hh (pa (pa (pa k.i h) b) i.i) (((b.u i.i).al _ (ay f) Zq).trans f) (by omega:(d.no:Int)≠0));have p:=U (h.u b);unfold GI;clear f h b m k l;go_wp21;refine q.i.mono ?_;rintro a y ⟨rfl,r⟩;go_wp2;go_ret2;exact⟨(p.i.u i.i).u r,rfl⟩
def fP(a:Int)(b:Nat):Nat:=(if a<0 then -(a+1)else a).toNat % b
def Cd(a:Int)(b:Nat)(h:-9223372036854775808<=a)(i:a<=9223372036854775807)(j:0<b)(l:b<=1000000000)(d:Zw):Calls prog 18 #[Y a,Y b] d λe f=>e=.returned (Y (fP a b))/\f=d:=by
 have k:(b:Int)≠0:=Zm;by_cases g:a<0
 .have c:af ((fP a b:Int) = -(a+1).tmod b):=by
   show _=_;rw[<-Int.neg_tmod];unfold fP;grind
  go_in;go_wp2;go_ret;exact⟨by rw[c.i];rfl,rfl⟩
 .have c:af ((fP a b:Int)=a % b):=by
   show _=_;unfold fP;grind
  go_in;go_wp2;go_ret;exact⟨by rw[c.i];rfl,rfl⟩
def zA(b:Int){a:Nat}(c:0<a):fP b a<a:=Nat.mod_lt _ c
structure dj where
 w:Int
 n:Int
 s:Zb
 y:Int
 am:Int
abbrev cX(x:dj):Zl:=[Y x.w,Y x.n,Zs x.s,Y x.y,Y x.am]
structure fl where
 av:Zc
 aK:List dj
 a4:Zb
 a:Int
 b:Int
 c:Int
 bv:List Nat
 ev:List Nat
abbrev vX(a:Nat):Zv:=Zp a
def fy(a:fl)(b:Int):Zb:=if a.av=[]then []else a.av.getD (fP b a.av.length) []
def afm{d v b}{a:Nat}(f:oO v b d)(h:a<b.length):∃c e,v=.slice (some ⟨c,0,none⟩) b.length e/\d.cell? (Zd c a)=some (.string ⟨(b.getD a []).toArray⟩)/\c<d.heap.size:=by
 obtain⟨c,e,k,g,_,j⟩:=nG f (i:=a) (x:=.string ⟨(b.getD a []).toArray⟩) Zg;simp_all
def wi{w:Zw}{b:Nat}{f:Zv}{s:fl}{rest:Zl}(i:w.heap[b]?=some (.cells (f::rest).toArray 35))(k:oO f s.av w)(a:Int)(r:-9223372036854775808<=a)(t:a<=9223372036854775807)(x:s.av.length<=1000000000):Calls prog 15 #[Zp b,Y a] w λp c=>p=.returned (.string ⟨(fy s a).toArray⟩)/\ap [] w c:=by
 have o:w.cell? (Zd b 0)=some f:=aB i rfl;have B:=ay i;by_cases q:s.av=[]
 .have d:af (fy s a=[]):=U (by unfold fy;simp_all);obtain⟨ad,g,rfl⟩:=aV k;have y:s.av.length=0:=Zu;rw[y]at o;go_in;go_wp2;go_ret;exact⟨by rw[d.i];rfl,ar [] w⟩
 .have j:0<s.av.length:=YM.2 q;have v:fP a s.av.length<s.av.length:=zA a j;obtain⟨h,g,rfl,C,D⟩:=afm k v;have d:af (fy s a=s.av.getD (fP a s.av.length) []):=U (by unfold fy;simp_all);have n:=U (Cd a s.av.length r t j x);have G:((s.av.length:Int)==0)=false:=Zu;have E:(0:Int)<=↑(fP a s.av.length):=Zm;have F:(↑(fP a s.av.length):Int) < ↑s.av.length:=Zm;generalize fP a s.av.length=l at *
  generalize s.av.getD l []=z at *
  go_in;go_wp2;refine bJ (λc=>c.cell? (Zd b 0)=some (.slice (some ⟨h,0,none⟩) s.av.length g)/\c.cell? (Zd h l)=some (Zs z)) ?_ λu=>?_
  .go_keep
  refine bc [0,1,2,3,4,5,6,7,8,9] ?_;iterate 10 (refine bh ?_)
  refine be ?_;refine bI 10 λm e=>?_;(go_simp;refine(n.i _).mono ?_;rintro A H ⟨rfl,rfl⟩);refine e.out _ _ ?_ (λu=>?_)
  .go_keep
  refine nz ?_;refine bc [11,12] ?_;iterate 2 (refine bh ?_)
  refine be ?_;refine bL λm e=>?_;go_simp;refine e.out _ _ ?_;refine nz ?_;go_wp2;go_ret;exact⟨by rw[d.i];rfl,(ar [] w).ag⟩
section
variable {e l : Zw} {d : Nat} {s : fl} {h k g f : Zv} {R : List Th}
structure dK where
 w:Int
 x:Int
 a:Int
 b:Int
 c:Int
 s:Zb
abbrev di(d:dK):Array Zv:=#[Y d.w,Y d.x,Y d.a,Y d.b,Y d.c,Zs d.s]
abbrev agX(d:Nat)(s:fl)(h k g f:Zv):Th:=.obj d (.cells #[h,k,Zs s.a4,Y s.a,Y s.b,Y s.c,g,f] 35)
abbrev gD(v:Zv)(a:List dj):Th:=.row 52 5 v a.length (a.flatMap cX)
abbrev uy(b:TypeId)(v:Zv)(a:List Nat):Th:=.row b 1 v a.length (a.map vX)
abbrev wL(d:Nat)(s:fl)(h k g f:Zv)(R:List Th):List Th:=agX d s h k g f::cO h s.av::gD k s.aK::uy 37 g s.bv::uy 48 f s.ev::R
def af6(A:bA (wL d s h k g f R) l e)(b:dK)(J:b.w=1)(K:s.av.length<=100000):Calls prog 24 #[Zp d,.agg (di b)] e λC F=>C=.returned (.bool true)/\∃E,bA (wL d { s with av:=s.av++[b.s] } E k g f R) l F:=by
 have n:=U (A.A (.cells (di b) 27));obtain⟨ix,m,rfl⟩:=aV (A.bC (i:=1) (a:=cO h s.av) rfl);go_in;have c:=n.i.aL (i:=1) (R:=d) rfl;have q:(e.alloc (.cells (di b) 27)).cell? (Zd d 0)=some (.slice ix s.av.length m):=aB c rfl;have r:=bi c;have t:=ay c;have y:af (∀o,((e.alloc (.cells (di b) 27)).alloc o).ownsRow 0 9 1 (.slice ix s.av.length m) s.av.length (s.av.map λs=>Zs s)):=U (λo=>cf (n.i.bC (i:=2) (a:=cO (.slice ix s.av.length m) s.av) rfl) ((ar [] (e.alloc (.cells (di b) 27))).A o) Zq);go_wp2_with (at_builtin;(refine kE (B:=e.heap.size+1) ue underlying30 (y.i _) [.string ⟨(b.s).toArray⟩] (bl Zq) Zy Zm Zq (H:=e.heap.size+2) Zq ?_;intro v u G z x w D;have p:=U (n.i.gU (i:=2) rfl ((ar [] (e.alloc (.cells (di b) 27))).A _) z x w Zq);clear z x w D y q r t;have c:=p.i.aL (i:=1) (R:=d) rfl;have q:G.cell? (Zd d 0)=some (.slice ix s.av.length m):=aB c rfl;have r:=bi c;have t:=ay c;clear c));go_wp2;go_ret;have I:=(p.i.aq (i:=1) (j:=0) rfl (.slice (some ⟨v,0,none⟩) (s.av.length+1) u)).au;exact⟨rfl,.slice (some ⟨v,0,none⟩) (s.av.length+1) u,Zu⟩
end
section
variable {w h : Zw} {d : Nat} {s : fl} {k g f e : Zv} {R : List Th}
def af5(m:bA (wL d s k g f e R) h w)(a:dK)(i:a.w≠1)(j:a.w≠2)(l:a.w≠3):Calls prog 24 #[Zp d,.agg (di a)] w λc n=>c=.returned (.bool false)/\bA (wL d s k g f e R) h n:=by
 have b:=U (m.A (.cells (di a) 27));have o:(a.w==1)=false:=by simpa using i
 have p:(a.w==2)=false:=by simpa using j
 have q:(a.w==3)=false:=by simpa using l
 go_in;go_wp2;go_ret;exact⟨rfl,b.i.au⟩
def zf(s:fl)(c:dK):fl:=if(fy s c.a).length+(fy s c.b).length > 65536 then s else { s with av:=s.av++[fy s c.a++fy s c.b] }
abbrev kW(d:dK):Prop:=(-9223372036854775808<=d.x/\d.x<=9223372036854775807)/\(-9223372036854775808<=d.a/\d.a<=9223372036854775807)/\(-9223372036854775808<=d.b/\d.b<=9223372036854775807)/\(-9223372036854775808<=d.c/\d.c<=9223372036854775807)
def af4(S:bA (wL d s k g f e R) h w)(c:dK)(a6:kW c)(b7:c.w=3)(b8:s.av.length<=100000)(c1:∀o∈s.av,o.length<=1000000000):Calls prog 24 #[Zp d,.agg (di c)] w λa5 y=>a5=.returned (.bool true)/\∃b1,bA (wL d (zf s c) b1 g f e R) h y:=by
 have u:=U (S.A (.cells (di c) 27));obtain⟨ix,m,rfl⟩:=aV (S.bC (i:=1) (a:=cO k s.av) rfl);have P:∀E,(fy s E).length<=1000000000:=λE=>by
  grind [fy]
 have b9:=P c.a;have c0:=P c.b;obtain⟨-,I,K,-⟩:=a6;have b5:(c.w==1)=false:=Zu;have b6:(c.w==2)=false:=Zu;have a1:=U (wi (w:=w.alloc (.cells (di c) 27)) (s:=s) (u.i.aL (i:=1) (R:=d) rfl) (u.i.bC (i:=2) (a:=cO (.slice ix s.av.length m) s.av) rfl) c.a I.1 I.2 Zm);have a2:af (∀q,bA (.obj w.heap.size (.cells (di c) 27)::wL d s (.slice ix s.av.length m) g f e R) h q->Calls prog 15 #[Zp d,Y c.b] q λx y=>x=.returned (.string ⟨(fy s c.b).toArray⟩)/\ap [] q y):=U (λq a0=>wi (s:=s) (a0.aL (i:=1) (R:=d) rfl) (a0.bC (i:=2) (a:=cO (.slice ix s.av.length m) s.av) rfl) c.b K.1 K.2 Zm);have z:af (zf s c=if(fy s c.a).length+(fy s c.b).length > 65536 then s else { s with av:=s.av++[fy s c.a++fy s c.b] }):=U rfl
 generalize fy s c.a=r at *
 generalize fy s c.b=t at *
 go_in;go_wp21;refine a1.i.mono ?_;rintro x b2 ⟨rfl,a9⟩;have v:=U (u.i.ae a9);generalize w.heap.size=a4 at *
 obtain⟨c2,c3,c4,c5,c6,c7,of,c8⟩:=fu (v.i.aL (i:=0) (R:=a4) rfl);have a3:=U (a2.i b2 v.i);go_wp21;refine a3.i.mono ?_;rintro x n ⟨rfl,b0⟩;have p:=U (v.i.ae b0);by_cases L:r.length+t.length > 65536
 .have a7:(65536:Int) < ↑r.length+↑t.length:=Zm;go_wp2;go_ret;rw[z.i,Y9 L];exact⟨rfl,_,p.i.au⟩
 .have a7:¬(65536:Int) < ↑r.length+↑t.length:=Zm;have l:=p.i.aL (i:=1) (R:=d) rfl;have B:n.cell? (Zd d 0)=some (.slice ix s.av.length m):=aB l rfl;have C:=bi l;have D:=ay l;have N:af (∀o,(n.alloc o).ownsRow 0 9 1 (.slice ix s.av.length m) s.av.length (s.av.map λs=>Zs s)):=U (λo=>cf (p.i.bC (i:=2) (a:=cO (.slice ix s.av.length m) s.av) rfl) ((ar [] n).A o) Zq);go_wp2_with (at_builtin;(refine kE ue underlying30 (N.i _) [.string ⟨(r++t).toArray⟩] (heap_alloc_new n _) Zy Zm Zq (H:=n.heap.size+1) Zq ?_;intro G F b3 O M J a8;have A:=U (p.i.gU (i:=2) rfl ((ar [] n).A _) O M J Zq);clear O M J a8 N B C D;have l:=A.i.aL (i:=1) (R:=d) rfl;have B:b3.cell? (Zd d 0)=some (.slice ix s.av.length m):=aB l rfl;have C:=bi l;have D:=ay l;clear l));go_wp2;go_ret;have b4:=(A.i.aq (i:=1) (j:=0) rfl (.slice (some ⟨G,0,none⟩) (s.av.length+1) F)).au;rw[z.i,Y2 L];exact⟨rfl,.slice (some ⟨G,0,none⟩) (s.av.length+1) F,Zu⟩
end
section
variable {w j : Zw} {d : Nat} {s : fl} {g h f e : Zv} {R : List Th}
def LB(w:Zw)(a:TypeId)(c:Za):ap [] w (Lib.bytesWorld w a c):=by
 have b:=((ar [] w).ag).A (.cells (Lib.bytesCells w a c) a);refine⟨b.os,b.dt,b.ds,by rw[Lib.bytesWorld_size];omega,λe d _=>Lib.bytesWorld_at_old w a c e d⟩
def uA(a:Zb)(b c:Int):Zb:=if a=[]then []else a.set (fP b a.length) (UInt8.ofNat (c % 256).toNat)
def af7(I:bA (wL d s g h f e R) j w)(k:dK)(N:kW k)(a2:k.w=2)(b5:s.av.length<=100000)(M:fy s k.a=[]):Calls prog 24 #[Zp d,.agg (di k)] w λL a7=>L=.returned (.bool true)/\∃a6,bA (wL d { s with av:=s.av++[[]] } a6 h f e R) j a7:=by
 have n:=U (I.A (.cells (di k) 27));obtain⟨ix,m,rfl⟩:=aV (I.bC (i:=1) (a:=cO g s.av) rfl);obtain⟨-,C,b1,-⟩:=N;have b0:(k.w==1)=false:=by rw[a2];rfl
 have t:=U (wi (w:=w.alloc (.cells (di k) 27)) (s:=s) (n.i.aL (i:=1) (R:=d) rfl) (n.i.bC (i:=2) (a:=cO (.slice ix s.av.length m) s.av) rfl) k.a C.1 C.2 Zm);rw[M]at t;go_in;go_wp21;refine t.i.mono ?_;rintro a9 b ⟨rfl,a5⟩;have q:=U (n.i.ae a5);generalize w.heap.size=K at *
 obtain⟨b6,b7,b8,b9,c0,c1,of,c2⟩:=fu (q.i.aL (i:=0) (R:=K) rfl);have S:=Lib.run_convert_string_bytes (P:=prog) b 9 97 5 ⟨#[]⟩ (u:=.string) Zk Zk Zk;have O:=run_convert_bytes_back (Lib.bytesWorld b 5 ⟨#[]⟩) 97 9 5 ⟨b.heap.size,0,none⟩ (grownCap b 0 0 5) [] underlying97 underlying5 underlying9 (λa4 a1=>by simp at a1);have o:=U (q.i.ae (LB b 5 ⟨#[]⟩));generalize a0:grownCap b 0 0 5=B at *
 generalize b2:Lib.bytesWorld b 5 ⟨#[]⟩=c at *
 have b4:(convert 9 97 (.string ⟨#[]⟩)).run prog b=.ok (.slice (some ⟨b.heap.size,0,none⟩) 0 B) c:=by rw[<-a0];exact S
 have b3:(convert 97 9 (.slice (some ⟨b.heap.size,0,none⟩) 0 B)).run prog c=.ok (.string ⟨#[]⟩) c:=O;have l:=o.i.aL (i:=1) (R:=d) rfl;have v:c.cell? ⟨d,0,none⟩=some (.slice ix s.av.length m):=aB l rfl;have x:=bi l;have y:=ay l;have F:af (∀p,(c.alloc p).ownsRow 0 9 1 (.slice ix s.av.length m) s.av.length (s.av.map λs=>Zs s)):=U (λp=>cf (o.i.bC (i:=2) (a:=cO (.slice ix s.av.length m) s.av) rfl) ((ar [] c).A p) Zq);go_wp2_with (at_builtin;(refine kE ue underlying30 (F.i _) [.string ⟨(([]:Zb)).toArray⟩] (heap_alloc_new c _) Zy Zm Zq (H:=c.heap.size+1) Zq ?_;intro A z a8 G E D a3;have r:=U (o.i.gU (i:=2) rfl ((ar [] c).A _) G E D Zq);clear G E D a3 F v x y;have l:=r.i.aL (i:=1) (R:=d) rfl;have v:a8.cell? ⟨d,0,none⟩=some (.slice ix s.av.length m):=aB l rfl;have x:=bi l;have y:=ay l;clear l));go_wp2;go_ret;have J:=(r.i.aq (i:=1) (j:=0) rfl (.slice (some ⟨A,0,none⟩) (s.av.length+1) z)).au;exact⟨rfl,.slice (some ⟨A,0,none⟩) (s.av.length+1) z,by simpa using J⟩
def af8(b6:bA (wL d s g h f e R) j w)(n:dK)(c4:kW n)(c7:n.w=2)(f1:s.av.length<=100000){k:Zb}(d2:fy s n.a=k)(a5:k≠[])(d3:k.length<=1000000000):Calls prog 24 #[Zp d,.agg (di n)] w λa2 B=>a2=.returned (.bool true)/\∃e0,bA (wL d { s with av:=s.av++[uA k n.b n.c] } e0 h f e R) j B:=by
 have D:=U (b6.A (.cells (di n) 27));obtain⟨ix,z,rfl⟩:=aV (b6.bC (i:=1) (a:=cO g s.av) rfl);obtain⟨-,a6,a8,e5⟩:=c4;have e3:(n.w==1)=false:=by rw[c7];rfl
 have L:=U (wi (w:=w.alloc (.cells (di n) 27)) (s:=s) (D.i.aL (i:=1) (R:=d) rfl) (D.i.bC (i:=2) (a:=cO (.slice ix s.av.length z) s.av) rfl) n.a a6.1 a6.2 Zm);rw[d2]at L;have b5:0<k.length:=YM.2 a5;have c8:fP n.b k.length<k.length:=zA n.b b5;have c3:=U (Cd n.b k.length a8.1 a8.2 b5 d3);have b9:af (uA k n.b n.c=k.set (fP n.b k.length) (UInt8.ofNat (n.c % 256).toNat)):=U (by unfold uA;rw[Y2 a5]);have e9:(0:Int)<=↑(fP n.b k.length):=Zm;have f0:(↑(fP n.b k.length):Int) < ↑k.length:=Zm;have e8:(0:Int) < ↑k.length:=Zm;generalize fP n.b k.length=o at *
 go_in;go_wp21;refine L.i.mono ?_;rintro a1 l ⟨rfl,d4⟩;have E:=U (D.i.ae d4);generalize w.heap.size=A at *
 obtain⟨d5,d6,d7,b7,b8,d8,of,d9⟩:=fu (E.i.aL (i:=0) (R:=A) rfl);have e7:(convert 9 97 (Zs k)).run prog l=.ok (.slice (some ⟨l.heap.size,0,none⟩) k.length (grownCap l k.length 0 5)) (Lib.bytesWorld l 5 ⟨k.toArray⟩):=Lib.run_convert_string_bytes (P:=prog) l 9 97 5 ⟨k.toArray⟩ (u:=.string) Zk Zk Zk;have C:=U (LB l 5 ⟨k.toArray⟩);have J:af (∀m,m<k.length->(Lib.bytesWorld l 5 ⟨k.toArray⟩).cell? ⟨l.heap.size,m,none⟩=some (.int .u8 (k.getD m 0).toNat)):=U (λm t=>Lib.bytesWorld_cell l 5 ⟨k.toArray⟩ m t);have f3:=pa b7 C.i;have f4:=pa b8 C.i;have a0:=J.i o c8;have e4:(Lib.bytesWorld l 5 ⟨k.toArray⟩).frozen? ⟨l.heap.size,o,none⟩=false:=by
  have b2:=Lib.bytesWorld_at_new l 5 ⟨k.toArray⟩;have f2:o<(Lib.bytesCells l 5 ⟨k.toArray⟩).size:=by
   rcases Yj o (Lib.bytesCells l 5 ⟨k.toArray⟩).size with q|q
   .exact q
   .simp[World.cell?,b2,YO q]at a0
  simp[World.frozen?,b2];omega
 generalize grownCap l k.length 0 5=a4 at *
 generalize Lib.bytesWorld l 5 ⟨k.toArray⟩=y at *
 obtain⟨d5,d6,d7,b7,b8,d8,of,d9⟩:=fu (E.i.aL (i:=0) (R:=A) rfl);go_wp2;refine bJ (λB=>B.cell? ⟨A,3,none⟩=some (Y n.b)/\B.cell? ⟨A,4,none⟩=some (Y n.c)) ?_ λc5=>?_
 .go_keep
 refine bc [0,1,2,3,4,6,7,8] ?_;iterate 8 (refine bh ?_)
 refine be ?_;refine bI 5 λc0 I=>?_;(go_simp;refine(c3.i _).mono ?_;rintro a2 f5 ⟨rfl,rfl⟩);refine I.out _ _ ?_ (λc5=>?_)
 .go_keep
 refine nz ?_;refine pz 9 ?_;refine bL λc0 I=>?_;go_simp;refine I.out _ _ ?_;refine nz ?_;have d1:IntKind.wrap .u8 n.c=((UInt8.ofNat (n.c % 256).toNat).toNat:Int):=by
  rw[IntKind.wrap_u8];have q:(n.c % 256).toNat<256:=Zm;simp;omega
 rw[d1];generalize UInt8.ofNat (n.c % 256).toNat=v at *
 have d0:∀m,m<k.length->((y.setCell ⟨l.heap.size,o,none⟩ (.int .u8 (v.toNat:Int))).drew).cell? ⟨l.heap.size,m,none⟩=some (.int .u8 ((k.set o v).getD m 0).toNat):=by
  intro m t;by_cases b0:m=o
  .subst b0;have q:(y.setCell ⟨l.heap.size,m,none⟩ (.int .u8 (v.toNat:Int))).cell? ⟨l.heap.size,m,none⟩=some (.int .u8 (v.toNat:Int)):=World.cell?_setCell_same _ _ _ a0;have G:(k.set m v).getD m 0=v:=by simp[t]
   rw[G];exact q
  .have b1:¬o=m:=λa1=>b0 a1.symm;have q:(y.setCell ⟨l.heap.size,o,none⟩ (.int .u8 (v.toNat:Int))).cell? ⟨l.heap.size,m,none⟩=y.cell? ⟨l.heap.size,m,none⟩:=World.cell?_setCell_other _ _ _ _ (by simp[b1]);have G:(k.set o v).getD m 0=k.getD m 0:=by simp[b1]
   rw[G];exact q.trans (J.i m t)
 have c1:ap [] l (y.setCell ⟨l.heap.size,o,none⟩ (.int .u8 (v.toNat:Int))).drew:=(qa C.i ((ar [l.heap.size] y).a6 (p:=⟨l.heap.size,o,none⟩) Zq _) Zq).ag;have F:=U (E.i.ae c1);generalize (y.setCell ⟨l.heap.size,o,none⟩ (.int .u8 (v.toNat:Int))).drew=r at *
 have e6:(convert 97 9 (.slice (some ⟨l.heap.size,0,none⟩) k.length a4)).run prog r=.ok (.string ⟨(k.set o v).toArray⟩) r:=by
  have q:=run_convert_bytes_back r 97 9 5 ⟨l.heap.size,0,none⟩ a4 (k.set o v) underlying97 underlying5 underlying9 (λm t=>by
   have c6:(⟨l.heap.size,0,none⟩:Addr).add m=⟨l.heap.size,m,none⟩:=by unfold Addr.add;split<;>simp_all
   rw[c6,d0 m (by simpa using t)];simp at t;simp[t])
  rw[YF]at q;exact q
 generalize k.set o v=e2 at *
 have x:=F.i.aL (i:=1) (R:=d) rfl;have M:r.cell? ⟨d,0,none⟩=some (.slice ix s.av.length z):=aB x rfl;have N:=bi x;have O:=ay x;have b3:af (∀k,(r.alloc k).ownsRow 0 9 1 (.slice ix s.av.length z) s.av.length (s.av.map λs=>Zs s)):=U (λk=>cf (F.i.bC (i:=2) (a:=cO (.slice ix s.av.length z) s.av) rfl) ((ar [] r).A k) Zq);go_wp2_with (at_builtin;(refine kE ue underlying30 (b3.i _) [.string ⟨(e2).toArray⟩] (heap_alloc_new r _) Zy Zm Zq (H:=r.heap.size+1) Zq ?_;intro a3 S e1 b4 a9 a7 c9;have K:=U (F.i.gU (i:=2) rfl ((ar [] r).A _) b4 a9 a7 Zq);clear b4 a9 a7 c9 b3 M N O;have x:=K.i.aL (i:=1) (R:=d) rfl;have M:e1.cell? ⟨d,0,none⟩=some (.slice ix s.av.length z):=aB x rfl;have N:=bi x;have O:=ay x;clear x));go_wp2;go_ret;have c2:=(K.i.aq (i:=1) (j:=0) rfl (.slice (some ⟨a3,0,none⟩) (s.av.length+1) S)).au;rw[b9.i];exact⟨rfl,.slice (some ⟨a3,0,none⟩) (s.av.length+1) S,by simpa using c2⟩
end
section
variable {l k : Zw} {e : Nat} {d : fl} {m h g f : Zv} {R : List Th}
def py(d:fl)(e:dK):Option fl:=
 if e.w=1 then some { d with av:=d.av++[e.s] }
 else if e.w=2 then some { d with av:=d.av++[uA (fy d e.a) e.b e.c] }
 else if e.w=3 then some (zf d e)
 else none
def ww(d:fl)(e:Nat)(h g f:Zv)(R:List Th)(k:Zw)(i:Option fl)(b:Ending)(c:Zw):Prop:=match i with
 |some j=>b=.returned (.bool true)/\∃a,bA (wL e j a h g f R) k c
 |none=>b=.returned (.bool false)/\∃a,bA (wL e d a h g f R) k c
def afV(c:∀b∈d.av,b.length<=1000000000)(a:Int):(fy d a).length<=1000000000:=by
 grind [fy]
def af3(n:bA (wL e d m h g f R) k l)(i:dK)(r:kW i)(q:d.av.length<=100000)(s:∀v∈d.av,v.length<=1000000000):Calls prog 24 #[Zp e,.agg (di i)] l (ww d e h g f R k (py d i)):=by
 unfold py;by_cases o:i.w=1
 .rw[Y9 o];exact af6 n i o q
 .rw[Y2 o];by_cases j:i.w=2
  .rw[Y9 j];by_cases t:fy d i.a=[]
   .have:uA (fy d i.a) i.b i.c=[]:=by unfold uA;simp_all
    rw[this];exact af7 n i r j q t
   .exact af8 n i r j q rfl t (afV s i.a)
  .rw[Y2 j];by_cases p:i.w=3
   .rw[Y9 p];exact af4 n i r p q s
   .rw[Y2 p];refine(af5 n i o j p).mono ?_;rintro w x ⟨rfl,u⟩;exact⟨rfl,m,u⟩
def abC(q:bA (wL e d m h g f R) k l)(n:dK)(o:n.w=7):Calls prog 14 #[Zp e,.agg (di n)] l λt u=>t=.returned (.bool true)/\bA (wL e { d with a:=n.a,b:=n.b,c:=n.c } m h g f R) k u:=by
 have r:=U q;have p:=q.aL (i:=0) (R:=e) rfl;have v:=aE p;have w:=bi p;have x:=ay p;have y:(n.w==4)=false:=by rw[o];rfl
 have z:(n.w==5)=false:=by rw[o];rfl
 have A:(n.w==6)=false:=by rw[o];rfl
 go_in;go_wp2;go_ret;have s:=((((r.i.aq (i:=0) (j:=3) rfl (Y n.a)).aq (i:=0) (j:=4) rfl (Y n.b)).aq (i:=0) (j:=5) rfl (Y n.c)).A (.cells (di n) 27)).au;exact⟨rfl,s⟩
def abD(c:bA (wL e d m h g f R) k l)(a:dK)(y:a.w=8):Calls prog 14 #[Zp e,.agg (di a)] l λo p=>o=.returned (.bool true)/\bA (wL e { d with a4:=a.s } m h g f R) k p:=by
 have n:=U c;have b:=c.aL (i:=0) (R:=e) rfl;have r:l.cell? (Zd e 2)=some (Zs d.a4):=aB b rfl;have s:=bi b;have t:=ay b;have u:(a.w==4)=false:=Zu;have v:(a.w==5)=false:=Zu;have w:(a.w==6)=false:=Zu;have x:(a.w==7)=false:=Zu;go_in;go_wp2;go_ret;have q:=((n.i.aq (i:=0) (j:=2) rfl (Zs a.s)).A (.cells (di a) 27)).au;simp_all
end
section
variable {c g : Zw} {a : Nat} {b : fl} {h f e d : Zv} {R : List Th}
def abF(m:bA (wL a b h f e d R) g c)(k:dK)(z:k.w=6):Calls prog 14 #[Zp a,.agg (di k)] c λp q=>p=.returned (.bool true)/\bA (wL a { b with aK:=[] } h (.slice none 0 0) e d R) g q:=by
 have n:=U m;have l:=m.aL (i:=0) (R:=a) rfl;have s:c.cell? (Zd a 1)=some f:=aB l rfl;have t:=bi l;have u:=ay l;have v:(k.w==4)=false:=Zu;have w:(k.w==5)=false:=Zu;go_in;go_wp2;go_ret;have o:=((n.i.aq (i:=0) (j:=1) rfl (.slice none 0 0)).A (.cells (di k) 27)).au;have r:=o.b5 (i:=2) (a':=gD (.slice none 0 0) []) rfl (ar [] _) Zq ⟨rfl,Y8 ⟨rfl,rfl⟩⟩ (λx y=>by grind [Th.aG,Value.ownBlock]);simp_all
def abH(s:bA (wL a b h f e d R) g c)(i:dK)(p:kW i)(q:b.av.length<=100000)(r:∀t∈b.av,t.length<=1000000000)(A:i.w≠4)(B:i.w≠5)(C:i.w≠6)(D:i.w≠7)(E:i.w≠8):Calls prog 14 #[Zp a,.agg (di i)] c (ww b a f e d R g (py b i)):=by
 have o:=U (af3 ((s.A (.cells (di i) 27)).au) i p q r);have u:(i.w==4)=false:=Zu;have v:(i.w==5)=false:=Zu;have w:(i.w==6)=false:=Zu;have x:(i.w==7)=false:=Zu;have y:(i.w==8)=false:=Zu;go_in;go_wp21;refine o.i.mono ?_;intro z G j;unfold ww at j;cases k:py b i with
 |some F=>
  rw[k]at j;obtain⟨rfl,n⟩:=j;have l:=U n;have m:=U k;go_wp2;go_ret;unfold ww;rw[m.i];exact⟨rfl,l.i⟩
 |none=>
  rw[k]at j;obtain⟨rfl,n⟩:=j;have l:=U n;have m:=U k;go_wp2;go_ret;unfold ww;rw[m.i];exact⟨rfl,l.i⟩
end
section
variable {w l : Zw} {e : Nat} {d : fl} {h k g f : Zv} {R : List Th}
def Fc:(prog.info? 52).map (λa=>(a.zero,a.size,a.bytes))=some (some (.agg #[Y 0,Y 0,.string ⟨#[]⟩,Y 0,Y 0]),5,48):=Zk
def abE(v:bA (wL e d h k g f R) l w)(m:dK)(a7:m.w=4)(a8:d.aK.length<=100000):Calls prog 14 #[Zp e,.agg (di m)] w λI p=>I=.returned (.bool true)/\∃N,bA (wL e { d with aK:=d.aK++[⟨m.a,m.b,m.s,0,m.c⟩] } h N g f R) l p:=by
 have t:=U (v.A (.cells (di m) 27));obtain⟨ix,r,rfl⟩:=aV (v.bC (i:=2) (a:=gD k d.aK) rfl);have J:(d.aK.length+1)*48<=140737488355328:=Zm;have L:∀o∈cX ⟨m.a,m.b,m.s,0,m.c⟩,o.oneCell'=true:=by
  intro o G;simp[cX]at G;rcases G with rfl|rfl|rfl|rfl|rfl<;>rfl
 have n:=v.aL (i:=0) (R:=e) rfl;have a0:w.cell? (Zd e 1)=some (.slice ix d.aK.length r):=aB n rfl;have a1:=bi n;have a2:=ay n;go_in;go_wp2;generalize a6:w.heap.size=q at *
 generalize w.alloc (.cells (di m) 27)=o at *
 obtain⟨a9,b0,b1,b2,b3,b4,of,b5⟩:=fu (t.i.aL (i:=0) (R:=q) rfl);have n:=t.i.aL (i:=1) (R:=e) rfl;have a3:o.cell? (Zd e 1)=some (.slice ix d.aK.length r):=aB n rfl;have a4:=bi n;have a5:=ay n;have M:af (o.ownsRow 0 52 5 (.slice ix d.aK.length r) d.aK.length (d.aK.flatMap cX)):=U (t.i.bC (i:=3) (a:=gD (.slice ix d.aK.length r) d.aK) rfl);have x:=U (λP=>(((ar [] o).A P).ag));refine bJ (λp=>p.cell? (Zd e 1)=some (.slice ix d.aK.length r)/\p.cell? (Zd q 2)=some (Y m.a)/\p.cell? (Zd q 3)=some (Y m.b)/\p.cell? (Zd q 4)=some (Y m.c)/\p.cell? (Zd q 5)=some (Zs m.s)) ?_ λC=>?_
 .go_keep
 refine bc [0,1,2,3,4,5,6,7,8,9,10,11,12,13] ?_;iterate 14 (refine bh ?_)
 refine be ?_;refine bI 14 λy s=>?_;go_simp;refine s.out _ _ ?_ (λC=>?_)
 .go_keep
 refine nz ?_;refine bI 15 λy s=>?_;(refine lR (B:=o.heap.size) Fc underlying31 (cf M.i (x.i _) Zq) (cX ⟨m.a,m.b,m.s,0,m.c⟩) (bl (w:=o) Zq) L J Zm (H:=o.heap.size+1) Zq ?_;intro A z O F E D K;have u:=U (t.i.a3 (i:=3) rfl (x.i _) F E D Zq);obtain⟨b9,c0,c1,c2,c3,c4,c5,c6⟩:=fu (u.i.aL (i:=0) (R:=q) rfl);have n:=u.i.aL (i:=1) (R:=e) rfl;have b6:O.cell? (Zd e 1)=some (.slice ix d.aK.length r):=aB n rfl;have b7:=bi n;have b8:=ay n;clear F E D K n);refine s.out _ _ ?_ (λC=>?_)
 .go_keep
 refine nz ?_;refine bc [16,17] ?_;iterate 2 (refine bh ?_)
 refine be ?_;refine bL λy s=>?_;go_simp;refine s.out _ _ ?_;refine nz ?_;go_wp2;go_ret;have S:=(u.i.aq (i:=1) (j:=1) rfl (.slice (some ⟨A,0,none⟩) (d.aK.length+1) z)).au;exact⟨rfl,.slice (some ⟨A,0,none⟩) (d.aK.length+1) z,Zg⟩
end
section
variable {e j : Zw} {c : Nat} {b : fl} {h d g f : Zv} {R : List Th}
def abB(l:bA (wL c b h d g f R) j e)(k:dK)(x:k.w=5)(w:b.aK=[]):Calls prog 14 #[Zp c,.agg (di k)] e λq s=>q=.returned (.bool true)/\bA (wL c b h d g f R) j s:=by
 have n:=U (l.A (.cells (di k) 27));obtain⟨ix,p,rfl⟩:=aV (l.bC (i:=2) (a:=gD d b.aK) rfl);have m:=l.aL (i:=0) (R:=c) rfl;have o:e.cell? (Zd c 1)=some (.slice ix b.aK.length p):=aB m rfl;have r:b.aK.length=0:=Zu;rw[r]at o;have t:=bi m;have u:=ay m;have v:(k.w==4)=false:=Zu;go_in;go_wp2;go_ret;exact⟨rfl,n.i.au⟩
end
section
variable {b j : Zw} {d : Nat} {f : fl} {h i g e : Zv} {c : List Th}
theorem er.aw(k:bA (wL d f h i g e c) j b)(a:Obj):bA (wL d f h i g e (c++[.obj b.heap.size a])) j (b.alloc a):=(k.A a).id
def er.c7{a:Th}(k:bA (wL d f h i g e (c++[a])) j b):bA (wL d f h i g e c) j b:=IK (L:=wL d f h i g e c) k
def er.hm{a k}(l:bA (wL d f h i g e (c++[.obj a k])) j b):b.heap[a]?=some k:=l.y (.obj a k) Zq
end
section
variable {e f : Zw} {v : Zv} {d : List dK}
def yq(e:Zw)(d f:Nat)(g:dK):Prop:=e.cell? (Zd d f)=some (Y g.w)/\e.cell? ⟨d,f+1,none⟩=some (Y g.x)/\e.cell? ⟨d,f+2,none⟩=some (Y g.a)/\e.cell? ⟨d,f+3,none⟩=some (Y g.b)/\e.cell? ⟨d,f+4,none⟩=some (Y g.c)/\e.cell? ⟨d,f+5,none⟩=some (Zs g.s)
def qL(e:Zw)(v:Zv)(d:List dK):Prop:=∃ad a,v=.slice ad d.length a/\d.length<=a/\a<=maxLen/\∀c g,d[c]?=some g->∃b f,ad=some ⟨b,f,none⟩/\yq e b (f+c*6) g
def yq.ae{b g h}(i:yq e b g h)(j:ap [] e f):yq f b g h:=by
 obtain⟨d,k,l,m,n,o⟩:=i;have a:∀c,f.cell? (Zd b c)=e.cell? (Zd b c):=λc=>World.cell?_of_block (j.al b (iZ d) Zq);exact⟨(a _).trans d,(a _).trans k,(a _).trans l,(a _).trans m,(a _).trans n,(a _).trans o⟩
def qL.ae(c:qL e v d)(o:ap [] e f):qL f v d:=by
 obtain⟨ad,a,g,h,i,j⟩:=c;refine⟨ad,a,g,h,i,λn q m=>?_⟩;obtain⟨b,p,k,l⟩:=j n q m;exact⟨b,p,k,l.ae o⟩
def rK(d:List dK):Nat:=(d.map (·.s.length)).sum
def afv{a:Nat}(b:a<d.length):rK (d.take (a+1))=rK (d.take a)+d[a].s.length:=by
 unfold rK;rw[Yt b,List.map_append,List.sum_append];rfl
def afu(d:List dK)(a:Nat):rK (d.take a)<=rK d:=by
 grind [List.take_append_drop,rK]
def Yx:∀(d:List dK),∀a∈d,a.s.length<=rK d:=by
 intro d;induction d<;>grind [rK]
def rH(d:List dK):Bool:=decide (d.length+rK d<=16384)
def aez(q:qL e v d)(A:∀j∈d,j.s.length<=1000000000000000000):Calls prog 11 #[v] e λp f=>p=.returned (.bool (rH d))/\f=e:=by
 obtain⟨ad,F,rfl,P,I,z⟩:=q;have n:=U z;have o:=U A;by_cases x:d.length<=16384
 .have y:¬(16384:Int) < ↑d.length:=Zm;go_in;go_wp2;go_loopw [3,4] (λC i D=>∃a b:Nat,i=Y a/\a<=d.length/\C=Y b/\b<=16384/\af (b=d.length+rK (d.take a))/\D=e) (λ_ i _=>d.length-(intOf i).toNat)
  case atStart=>exact⟨0,d.length,rfl,Zm,rfl,x,Zr,rfl⟩
  case round=>
   obtain⟨a,b,rfl,L,rfl,O,m,rfl⟩:=hrel;rcases Yj a d.length with h|J
   .obtain⟨G,j,rfl,r⟩:=n.i a d[a] (Yd h);obtain⟨-,-,-,-,-,a0⟩:=r;have M:(0:Int)<=(a:Int):=Zm;have N:(a:Int)<(d.length:Int):=Zm;have H:=o.i d[a] (Yy h);have l:=U (afv h);have E:=U (afu d (a+1));generalize d[a]=k at *
    generalize R:k.s.length=c at *
    have S:k.s.toArray.size=c:=Zm;by_cases t:b+c<=16384
    .have u:¬(16384:Int) < ↑b+↑c:=Zm;have B:IntKind.i64.wrap ((b:Int)+(c:Int))=(b:Int)+(c:Int):=by rw[IntKind.wrap_i64];omega
     go_wp2;exact⟨⟨a+1,b+c,Zr,h,Zr,t,by show _=_;rw[l.i,m.i];omega,trivial⟩,Zz⟩
    .have u:(16384:Int) < ↑b+↑c:=Zm;have B:IntKind.i64.wrap ((b:Int)+(c:Int))=(b:Int)+(c:Int):=by rw[IntKind.wrap_i64];omega
     have g:af (rH d=false):=by
      grind [af.i,rH]
     go_wp2;go_ret;exact⟨by rw[g.i];rfl,rfl⟩
   .have w:a=d.length:=Zm;subst w;have K:¬((d.length:Int)<(d.length:Int)):=Zm;have g:af (rH d=true):=by
     grind [af.i,rH]
    go_wp2;go_ret;exact⟨by rw[g.i];rfl,rfl⟩
 .have y:(16384:Int) < ↑d.length:=Zm;have g:af (rH d=false):=by
   show _=_;grind [rH]
  go_in;go_wp2;go_ret;exact⟨by rw[g.i];rfl,rfl⟩
end
section
variable {b c : Zw} {v : Zv} {a : List dK}
abbrev HH:Obj:=.cells #[.slice none 0 0,.slice none 0 0,.string ⟨#[]⟩,Y 0,Y 0,Y 0,.slice none 0 0,.slice none 0 0] 35
def agA(e:Nat->Zw->Prop)(m:qL b v a)(P:a.length<=16384)(u:e 0 (b.alloc HH))(o:∀f g,e f g->ap [] b g)(B:∀f g j,e f g->f<16384->j∈a->Calls prog 13 #[Zp b.heap.size,.agg (di j)] g λl C=>l=.returned (.bool true)/\e (f+1) C):Calls prog 12 #[v] b λt c=>t=.returned (Y (-1))/\ap [] b c:=by
 have q:=U m;obtain⟨ad,H,rfl,R,K,-⟩:=m;have E:=U u;have k:=U o;have r:=U B;go_in;go_wp2;go_loopw [4] (λi D=>∃d:Nat,i=Y d/\d<=a.length/\af (e d D)) (λi _=>a.length-(intOf i).toNat)
 case atStart=>grind
 case round=>
  obtain⟨d,rfl,o,h⟩:=hrel;rcases Yj d a.length with p|L
  .have y:=q.i.ae (k.i d wr h.i);obtain⟨G,I,n,-,-,A⟩:=y;simp only[Value.slice.injEq,true_and]at n;obtain⟨rfl,rfl⟩:=n;obtain⟨J,j,rfl,x⟩:=A d a[d] (Yd p);have s:=U (r.i d wr a[d] h.i Zm (Yy p));obtain⟨S,a0,a1,a2,a3,a4⟩:=x;have N:(0:Int)<=(d:Int):=Zm;have O:(d:Int)<(a.length:Int):=Zm;generalize a[d]=a6 at *
   go_wp21;refine s.i.mono ?_;rintro l a5 ⟨rfl,w⟩;have F:=U w;go_wp2;grind [intOf]
  .have z:d=a.length:=Zm;subst z;have M:¬((a.length:Int)<(a.length:Int)):=Zm;go_wp2;go_ret;exact⟨rfl,k.i _ _ h.i⟩
end
section
variable {w e : Zw} {v : Zv} {d : List dK}
abbrev ql(d:dK):Zl:=[Y d.w,Y d.x,Y d.a,Y d.b,Y d.c,Zs d.s]
abbrev Ha(v:Zv)(d:List dK):Th:=.row 27 6 v d.length (d.flatMap ql)
def WK:(prog.info? 27).map (λa=>(a.zero,a.size,a.bytes))=some (some (.agg #[Y 0,Y 0,Y 0,Y 0,Y 0,.string ⟨#[]⟩]),6,56):=Zk
def abv{o n}(c:w.ownsRow o n 6 v d.length (d.flatMap ql)):qL w v d:=by
 have z:=λy a h=>ub (f:=ql) (k:=6) (λ_=>rfl) d y a h;have q:=c;obtain⟨G,c⟩:=c;rcases c with⟨rfl,r⟩|⟨g,p,B,rfl,F,k,s,t,D,E⟩
 .have u:d=[]:=Yv.1 r;subst u;exact⟨none,0,rfl,Zq,Zq,λe m i=>by simp at i⟩
 .refine⟨some ⟨g,0,none⟩,p,rfl,s,t,λe m i=>⟨g,0,rfl,?_⟩⟩;have b:∀a,a<6->∀j,(ql m)[a]?=some j->w.cell? ⟨g,e*6+a,none⟩=some j:=λa h j x=>by
   obtain⟨C,A,l,k,_⟩:=nG q ((z e a h).trans (by rw[i];exact x));simp at l;obtain⟨rfl,_⟩:=l;exact k
  rw[Nat.zero_add];exact⟨b 0 Zm _ rfl,b 1 Zm _ rfl,b 2 Zm _ rfl,b 3 Zm _ rfl,b 4 Zm _ rfl,b 5 Zm _ rfl⟩
def zb(b:List Int)(a:Int):Bool:=decide (a<9)||b.contains a
def kq(a:List Int)(d:List dK):List dK:=d.filter λb=>zb a b.w
def adP(b:List Int){a:Nat}(e:a<d.length):kq b (d.take (a+1))=kq b (d.take a)++if zb b d[a].w then [d[a]]else []:=by
 unfold kq;rw[Yt e,List.filter_append];congr 1;by_cases c:zb b d[a].w<;>simp[c]
def NP(a:List Int)(d:List dK):(kq a d).length<=d.length:=List.length_filter_le ..
def ab0{kv}{ks:List Int}(A:qL w v d)(c6:∀g∈d,g.s.length<=1000000000000000000)(O:sb w kv ks.length 1 λi=>Y (ks.getD i 0))(e8:ks.length<=1000)
  (c7:∀h S E,ap [] w h->qL h S E->E.length<=16384->(∀g∈E,g∈d/\(g.w<9\/g.w∈ks)/\g.s.length<=16384)->Calls prog 12 #[S] h λz d1=>z=.returned (Y (-1))/\ap [] h d1) :
  Calls prog 10 #[v,kv] w λz e=>z=.returned (.bool true)/\ap [] w e:=by
 have r:=U (aez A c6);have a1:=U A;have a3:=U c7;have a0:=U O;obtain⟨ad,d7,rfl,f2,e2,-⟩:=A;obtain⟨d6,e0,rfl,-⟩:=O;cases q:rH d with
 |false=>
  rw[q]at r;go_in;go_wp21;refine r.i.mono ?_;rintro K I ⟨rfl,rfl⟩;go_wp2;go_ret;exact⟨rfl,ar [] _⟩
 |true=>
  rw[q]at r;have a2:=U q;have b8:d.length<=16384:=by
   unfold rH at q;simp at q;omega
  go_in;go_wp21;refine r.i.mono ?_;rintro K I ⟨rfl,rfl⟩;go_wp2;go_loopw [6,7] (λc9 i G=>∃(a:Nat) (ix:Option Addr) (l:Nat),i=Y a/\a<=d.length/\c9=.slice ix (kq ks (d.take a)).length l/\af (bA [Ha (.slice ix (kq ks (d.take a)).length l) (kq ks (d.take a))] I G)) (λ_ i _=>d.length-(intOf i).toNat)
  case atStart=>exact⟨0,none,0,rfl,Zm,rfl,(si I).cons (ar [] _) ⟨rfl,Y8 ⟨rfl,rfl⟩⟩ (λb1 b5=>by simp[Th.aG,Value.ownBlock]at b5)⟩
  case round=>
   obtain⟨a,ix,l,rfl,e5,rfl,f⟩:=hrel;rcases Yj a d.length with t|e3
   .have b4:=a1.i.ae f.i.fr;obtain⟨d4,d8,o,-,-,c1⟩:=b4;simp only[Value.slice.injEq,true_and]at o;obtain⟨rfl,rfl⟩:=o;obtain⟨b1,g,rfl,b3⟩:=c1 a d[a] (Yd t);obtain⟨f3,f4,f5,f6,f7,f8⟩:=b3;have e6:(0:Int)<=(a:Int):=Zm;have e7:(a:Int)<(d.length:Int):=Zm;have j:=U (adP ks t);have c3:af ((kq ks (d.take a)).length<=16384):=U (Yz (NP ..) (by rw[YW];omega));generalize d[a]=c at *
    go_wp2;go_loopw [9,10] (λa8 D G=>∃(b:Nat) (k:Bool),D=Y b/\b<=ks.length/\a8=.bool k/\af (k=(decide (c.w<9)||(ks.take b).contains c.w))/\G=wr) (λ_ D _=>ks.length-(intOf D).toNat)
    case atStart=>exact⟨0,decide (c.w<9),rfl,Zm,rfl,by show _=_;simp,rfl⟩
    case round=>
     obtain⟨b,k,rfl,e9,rfl,u,rfl⟩:=hrel;rcases Yj b ks.length with m|e4
     .have f0:(0:Int)<=(b:Int):=Zm;have f1:(b:Int)<(ks.length:Int):=Zm;cases k with
      |true=>
       have n:af (true=(decide (c.w<9)||(ks.take (b+1)).contains c.w)):=by
        show _=_;rw[Yt m,List.contains_append,<-Bool.or_assoc,<-u.i];rfl
       go_wp2;exact⟨⟨b+1,true,Zj,m,rfl,n,trivial⟩,Zz⟩
      |false=>
       obtain⟨d5,d9,C⟩:=a0.i;obtain⟨o,C⟩:=C;simp only[Value.slice.injEq,true_and]at o;obtain⟨rfl,rfl⟩:=o;obtain⟨gk,rfl,F⟩:=C b m;have F:=pa F f.i.fr;simp only[Nat.mul_one,show ks.getD b 0=ks[b] by simp[m]]at F;have n:af ((c.w==ks[b])=(decide (c.w<9)||(ks.take (b+1)).contains c.w)):=by
        show _=_;rw[Yt m,List.contains_append,<-Bool.or_assoc,<-u.i];by_cases c5:c.w=ks[b]<;>simp[c5]
       generalize ks[b]=d2 at *
       generalize e1:(c.w==d2)=a9 at *
       go_wp2;exact⟨⟨b+1,a9,Zj,m,rfl,n,trivial⟩,Zz⟩
     .have c0:b=ks.length:=Zm;subst c0;have b6:¬((ks.length:Int)<(ks.length:Int)):=Zm;have n:af (k=zb ks c.w):=by
       show _=_;rw[u.i,YG];rfl
      rw[<-n.i]at j;cases k with
      |false=>
       simp only[Ye,if_false,YH]at j
       go_wp2;exact⟨⟨a+1,ix,l,Zj,t,by rw[j.i],by show bA ..;rw[j.i];exact f.i⟩,Zz⟩
      |true=>
       simp only[if_true]at j
       have d3:af (∀y:dK,(ql y).length=6):=U (λ_=>rfl);have c2:∀h∈ql c,h.oneCell'=true:=by
        intro h R;simp[ql]at R;rcases R with rfl|rfl|rfl|rfl|rfl|rfl<;>rfl
       have x:af ((kq ks (d.take a)).length+1=(kq ks (d.take (a+1))).length/\(kq ks (d.take a)).flatMap ql++ql c=(kq ks (d.take (a+1))).flatMap ql):=by
        show _/\_;rw[j.i];simp
       have J:=U (λd0=>cf (f.i.bC (i:=0) (a:=Ha (.slice ix (kq ks (d.take a)).length l) (kq ks (d.take a))) rfl) ((ar [] wr).A d0) Zq);have c4:((kq ks (d.take a)).length+1)*56<=140737488355328:=by have:=c3.i;omega
       go_wp2_with (at_builtin;(refine kE (B:=wr.heap.size) WK underlying22 (J.i _) (ql c) (bl (w:=wr) Zq) c2 c4 Zm (H:=wr.heap.size+1) Zq ?_;intro b2 b0 g0 P N M b9;have a6:=U (f.i.a3 (i:=0) rfl ((ar [] wr).A _) P N M Zq);clear P N M b9 J));exact⟨⟨a+1,some ⟨b2,0,none⟩,b0,Zj,t,by rw[x.i.1],by show bA ..;have:=a6.i;rw[x.i.2,x.i.1]at this;exact this⟩,Zz⟩
   .have b7:a=d.length:=Zm;subst b7;have b6:¬((d.length:Int)<(d.length:Int)):=Zm;rw[YG]at f;rw[YG];have a7:=U (a3.i wr _ (kq ks d) f.i.fr (abv (f.i.bC (i:=0) (a:=Ha (.slice ix (kq ks d).length l) (kq ks d)) rfl)) (Yz (NP ..) b8) (λg p=>by
     unfold kq at p;rw[List.mem_filter]at p;refine⟨p.1,?_,?_⟩
     .have:=p.2;unfold zb at this;simpa using this
     .have L:=a2.i;unfold rH at L;simp at L;have:=Yx d g p.1;omega))
    have a4:=U f.i.fr;go_wp21;refine a7.i.mono ?_;rintro K f9 ⟨rfl,c8⟩;have a5:=U (a4.i.u c8);go_wp2;go_ret;exact⟨rfl,a5.i⟩
end
section
variable {e h : Zw} {g : Nat} {d : fl} {o q m l : Zv} {R : List Th}
def aaO(d:List dj):∀b∈d.flatMap cX,b.oneCell'=true:=by
 intro b c;obtain⟨e,_,a⟩:=List.mem_flatMap.1 c;simp[cX]at a;rcases a with rfl|rfl|rfl|rfl|rfl<;>rfl
def ahd{j rest}{b:Oper}{f:Act}{Q}{e:Zw}(t:b.guard=none)(d k:Operand)
  (v:b.op=.call { callee:=.builtin .append,args:=#[d,k],argTypes:=#[31,31] }) {l:Zv} {a:List dj} (x:f.eval d=.slice none 0 0) (y:f.eval k=l) (i:e.ownsRow 0 52 5 l a.length (a.flatMap cX)) (R:a.length<=1000000) (S:0<a.length)
  (q:∀g c,c.ownsRow 0 52 5 (.slice (some ⟨e.heap.size,0,none⟩) a.length g) a.length (a.flatMap cX)->e.grownBy c none->wpList prog j Q rest (f.put b.dst (.slice (some ⟨e.heap.size,0,none⟩) a.length g)) c):wpList prog j Q (b::rest) f e:=by
 refine wpList_plain t λE r=>?_;obtain⟨D,u,z,A,B⟩:=info_parts Fc;have C:(Value.agg #[Y 0,Y 0,.string ⟨#[]⟩,Y 0,Y 0]).cells.size=5:=Zr;rcases i.2 with⟨rfl,I⟩|⟨n,g,G,rfl,J,K,L,M,N,O⟩
 .omega
 .obtain⟨a1,c,w,h,p,_,F⟩:=run_append_own_at (P:=prog) e 0 31 b.type 52 D _ 5 48 underlying31 u z A B C Zm (.slice none 0 0) 0 [] ⟨rfl,Y8 ⟨rfl,rfl⟩⟩ ⟨n,0,none⟩ a.length g (a.flatMap cX) i.1 (by
   grind [Addr.add,pt]) (aaO a) Zm Zm (YV _)
  rw[Nat.zero_add,YT]at h;rcases h.2 with⟨rfl,a0⟩|⟨o,m,H,rfl,_⟩
  .omega
  .have s:o=e.heap.size:=by
    grind [Value.ownBlock]
   subst s;unfold Oper.wp execOp;simp only[v,resolve,invoke,builtin,Sem.run_bind,Sem.run_pure,Result.andThen_ok,List.map_toArray,List.map_cons,List.map_nil,x,y,w];exact r _ _ (q m c h p)
def BM:dj:=⟨0,0,[],0,0⟩
def AL(a:dj)(b c:Int):dj:={ a with n:=IntKind.i64.wrap (a.n+b),am:=IntKind.i64.wrap (a.am+c) }
def tQ(d:List dj)(e:dK):List dj:=d.set (fP e.a d.length) (AL (d.getD (fP e.a d.length) BM) e.b e.c)
def Mx{v:Zv}{c:List dj}{b j:Nat}(g:e.ownsRow 0 52 5 (.slice (some ⟨b,0,none⟩) c.length j) c.length (c.flatMap cX)){a:Nat}{d}(h:c[a]?=some d):e.cell? ⟨b,a*5+1,none⟩=some (Y d.n)/\e.cell? ⟨b,a*5+4,none⟩=some (Y d.am)/\(∀a,e.frozen? ⟨b,a,none⟩=false)/\b<e.heap.size:=by
 have i:=λm l=>ub (f:=cX) (k:=5) (λ_=>rfl) c a m l;obtain⟨q,o,x,s,u,w⟩:=nG g (i 1 Zm |>.trans (by rw[h];rfl));obtain⟨r,p,y,t,_⟩:=nG g (i 4 Zm |>.trans (by rw[h];rfl));simp_all
def er.k5{m:List Th}{c d i j:Nat}{b:List dj}{l x':dj}{v}(o:bA (gD (.slice (some ⟨c,0,none⟩) b.length d) b::m) h e)(n:b[i]?=some l)(u:j<5)(t:cX x'=(cX l).set j v):bA (gD (.slice (some ⟨c,0,none⟩) (b.set i x').length d) (b.set i x')::m) h (e.setCell ⟨c,i*5+j,none⟩ v):=by
 have x:=(YB.1 n).1;have w:=o.bC (i:=0) (a:=gD (.slice (some ⟨c,0,none⟩) b.length d) b) rfl;have q:e.ownsRow 0 52 5 (.slice (some ⟨c,0,none⟩) b.length d) b.length (b.flatMap cX):=w;have y:(b.flatMap cX).length=b.length*5:=q.1;have r:=zw q (i:=i*5+j) Zm v;rw[yY (f:=cX) (k:=5) (λ_=>rfl) b i j l x' v u n t]at r;refine o.b5 (i:=0) (a':=gD (.slice (some ⟨c,0,none⟩) (b.set i x').length d) (b.set i x')) rfl ((ar [c] e).a6 (p:=⟨c,i*5+j,none⟩) Zq v) (λs g=>by simp at g;subst g;simp[Th.aG,fO]) ?_ (λs g=>Y8 (by simpa[Th.aG,fO]using g));show World.ownsRow ..;rw[YF];exact r
def abA(K:bA (wL g d o q m l R) h e)(f:dK)(O:kW f)(d5:f.w=5)(b7:d.aK.length<=100000)(b6:d.aK≠[]):Calls prog 14 #[Zp g,.agg (di f)] e λN s=>N=.returned (.bool true)/\∃b8,bA (wL g { d with aK:=tQ d.aK f } o b8 m l R) h s:=by
 have C:=U (K.A (.cells (di f) 27));obtain⟨ix,u,rfl⟩:=aV (K.bC (i:=2) (a:=gD q d.aK) rfl);have J:0<d.aK.length:=YM.2 b6;have d9:(0:Int) < ↑d.aK.length:=Zm;have d8:fP f.a d.aK.length<d.aK.length:=zA f.a J;have b4:=U (Cd f.a d.aK.length O.2.1.1 O.2.1.2 J Zm);have a1:af (d.aK[fP f.a d.aK.length]?=some (d.aK.getD (fP f.a d.aK.length) BM)):=U Zg;have b1:af (tQ d.aK f=d.aK.set (fP f.a d.aK.length) (AL (d.aK.getD (fP f.a d.aK.length) BM) f.b f.c)):=U rfl;have d6:(0:Int)<=↑(fP f.a d.aK.length):=Zm;have d7:(↑(fP f.a d.aK.length):Int) < ↑d.aK.length:=Zm;generalize fP f.a d.aK.length=r at *
 generalize d.aK.getD r BM=k at *
 have b3:=U J;have b2:=U b7;have p:=K.aL (i:=0) (R:=g) rfl;have c7:e.cell? (Zd g 1)=some (.slice ix d.aK.length u):=aB p rfl;have c8:=bi p;have c9:=ay p;have d0:(f.w==4)=false:=Zu;go_in;go_wp2;generalize d3:e.heap.size=x at *
 generalize e.alloc (.cells (di f) 27)=b0 at *
 obtain⟨a3,a4,a5,a6,a7,a8,of,a9⟩:=fu (C.i.aL (i:=0) (R:=x) rfl);have p:=C.i.aL (i:=1) (R:=g) rfl;have F:b0.cell? (Zd g 1)=some (.slice ix d.aK.length u):=aB p rfl;have G:=bi p;have H:=ay p;refine bJ (λs=>s.cell? (Zd g 1)=some (.slice ix d.aK.length u)/\s.cell? (Zd x 2)=some (Y f.a)) ?_ λI=>?_
 .go_keep
 refine bc [0,1,2,3,4,5,6] ?_;iterate 7 (refine bh ?_)
 refine be ?_;refine bI 7 λB w=>?_;(go_simp;refine(b4.i _).mono ?_;rintro N e0 ⟨rfl,rfl⟩);refine w.out _ _ ?_ (λI=>?_)
 .go_keep
 refine nz ?_;refine bL λB w=>?_;go_simp;refine w.out _ _ ?_;refine nz ?_;have z:=U C.i.ag;generalize b0.drew=A at *
 have p:=z.i.aL (i:=1) (R:=g) rfl;have F:A.cell? (Zd g 1)=some (.slice ix d.aK.length u):=aB p rfl;have G:=bi p;have H:=ay p;have a0:af (A.ownsRow 0 52 5 (.slice ix d.aK.length u) d.aK.length (d.aK.flatMap cX)):=U (z.i.bC (i:=3) (a:=gD (.slice ix d.aK.length u) d.aK) rfl);go_wp2_with (at_builtin;(refine ahd Zr _ _ Zr Zr Zr a0.i (by have:=b2.i;omega) b3.i ?_;intro y b9 S P;have D:=U (z.i.cons (a:=gD (.slice (some ⟨A.heap.size,0,none⟩) d.aK.length y) d.aK) (nt P) S (λd2 d4=>by grind [Th.aG,fO]));clear S P a0 F G H z;generalize A.heap.size=t at *));obtain⟨c2,c3,c4,c5⟩:=Mx (v:=.nilIface) (D.i.bC (i:=0) (a:=gD (.slice (some ⟨t,0,none⟩) d.aK.length y) d.aK) rfl) a1.i;obtain⟨a3,a4,a5,a6,a7,a8,of,a9⟩:=fu (D.i.aL (i:=1) (R:=x) rfl);refine bJ (λs=>s.cell? ⟨t,r*5+1,none⟩=some (Y k.n)/\s.cell? (Zd x 3)=some (Y f.b)) ?_ λI=>?_
 .go_keep
 refine bc [0,1,2,3,4,5,6,7,8,9,10,11] ?_;iterate 12 (refine bh ?_)
 refine be ?_;refine bL λB w=>?_;go_simp;refine w.out _ _ ?_;refine nz ?_;have E:=U (D.i.k5 (j:=1) (x':={ k with n:=IntKind.i64.wrap (k.n+f.b) }) (v:=Y (IntKind.i64.wrap (k.n+f.b))) a1.i Zm rfl).ag;generalize (b9.setCell ⟨t,r*5+1,none⟩ (Y (IntKind.i64.wrap (k.n+f.b)))).drew=c0 at *
 have a2:af ((d.aK.set r { k with n:=IntKind.i64.wrap (k.n+f.b) })[r]?=some { k with n:=IntKind.i64.wrap (k.n+f.b) }):=U (by
  simp_all)
 obtain⟨c2,c3,c4,c5⟩:=Mx (v:=.nilIface) (E.i.bC (i:=0) (a:=gD (.slice (some ⟨t,0,none⟩) (d.aK.set r { k with n:=IntKind.i64.wrap (k.n+f.b) }).length y) (d.aK.set r { k with n:=IntKind.i64.wrap (k.n+f.b) })) rfl) a2.i;obtain⟨a3,a4,a5,a6,a7,a8,of,a9⟩:=fu (E.i.aL (i:=1) (R:=x) rfl);go_wp2;refine bJ (λs=>s.cell? ⟨t,r*5+4,none⟩=some (Y k.am)/\s.cell? (Zd x 4)=some (Y f.c)) ?_ λI=>?_
 .go_keep
 refine bc [0,1,2,3,4,5,6,7,8,9,10,11] ?_;iterate 12 (refine bh ?_)
 refine be ?_;refine bL λB w=>?_;go_simp;refine w.out _ _ ?_;refine nz ?_;have L:=U (E.i.k5 (j:=4) (x':=AL k f.b f.c) (v:=Y (IntKind.i64.wrap (k.am+f.c))) a2.i Zm rfl).ag;generalize (c0.setCell ⟨t,r*5+4,none⟩ (Y (IntKind.i64.wrap (k.am+f.c)))).drew=c1 at *
 have p:=L.i.aL (i:=2) (R:=g) rfl;have F:c1.cell? (Zd g 1)=some (.slice ix d.aK.length u):=aB p rfl;have G:=bi p;have H:=ay p;go_wp2;go_ret;have M:=L.i.aq (i:=2) (j:=1) rfl (.slice (some ⟨t,0,none⟩) d.aK.length y);have b5:(d.aK.set r { k with n:=IntKind.i64.wrap (k.n+f.b) }).set r (AL k f.b f.c)=tQ d.aK f:=by rw[b1.i,List.set_set]
 rw[b5]at M;have d1:(tQ d.aK f).length=d.aK.length:=Zg;refine⟨rfl,.slice (some ⟨t,0,none⟩) (tQ d.aK f).length y,?_⟩;have c6:=(M.aW 3).au;simp_all
end
section
variable {j i : Zw} {e : Nat} {d : fl} {k l h g : Zv} {f : List Th}
def oh(d:fl)(e:dK):Option fl:=
 if e.w=4 then some { d with aK:=d.aK++[⟨e.a,e.b,e.s,0,e.c⟩] }
 else if e.w=5 then some { d with aK:=if d.aK=[]then d.aK else tQ d.aK e }
 else if e.w=6 then some { d with aK:=[] }
 else if e.w=7 then some { d with a:=e.a,b:=e.b,c:=e.c }
 else if e.w=8 then some { d with a4:=e.s }
 else py d e
def HV(d:fl)(e:Nat)(h g:Zv)(f:List Th)(i:Zw)(k:Option fl)(c:Ending)(j:Zw):Prop:=match k with
 |some l=>c=.returned (.bool true)/\∃a b,bA (wL e l a b h g f) i j
 |none=>c=.returned (.bool false)/\∃a b,bA (wL e d a b h g f) i j
structure uK(d:fl):Prop where
 av:d.av.length<=100000
 eC:∀x∈d.av,x.length<=1000000000
 aK:d.aK.length<=100000
 bv:d.bv.length<=100000
 ev:d.ev.length<=100000
def zv(c:bA (wL e d k l h g f) i j)(a:dK)(v:kW a)(u:uK d):Calls prog 14 #[Zp e,.agg (di a)] j (HV d e h g f i (oh d a)):=by
 unfold oh;by_cases q:a.w=4
 .rw[Y9 q];refine(abE c a q u.aK).mono ?_;rintro m n ⟨rfl,w,b⟩;exact⟨rfl,_,_,b⟩
 rw[Y2 q];by_cases o:a.w=5
 .rw[Y9 o];by_cases p:d.aK=[]
  .rw[Y9 p];refine(abB c a o p).mono ?_;rintro m n ⟨rfl,b⟩;exact⟨rfl,_,_,b⟩
  .rw[Y2 p];refine(abA c a v o u.aK p).mono ?_;rintro m n ⟨rfl,w,b⟩;exact⟨rfl,_,_,b⟩
 rw[Y2 o];by_cases r:a.w=6
 .rw[Y9 r];refine(abF c a r).mono ?_;rintro m n ⟨rfl,b⟩;exact⟨rfl,_,_,b⟩
 rw[Y2 r];by_cases s:a.w=7
 .rw[Y9 s];refine(abC c a s).mono ?_;rintro m n ⟨rfl,b⟩;exact⟨rfl,_,_,b⟩
 rw[Y2 s];by_cases t:a.w=8
 .rw[Y9 t];refine(abD c a t).mono ?_;rintro m n ⟨rfl,b⟩;exact⟨rfl,_,_,b⟩
 rw[Y2 t];refine(abH c a v u.av u.eC q o r s t).mono ?_;intro m n b;unfold ww at b;unfold HV;cases x:py d a with
 |some y=>
  grind
 |none=>
  grind
end
def AA(b:fl):Prop:=∀a∈b.aK,-9223372036854775808<=a.n/\a.n<=9223372036854775807
def ahg(a:Int):-9223372036854775808<=IntKind.i64.wrap a/\IntKind.i64.wrap a<=9223372036854775807:=by
 rw[IntKind.wrap_i64];omega
def af9{a b}{c:dK}(d:py a c=some b):b.aK=a.aK:=by
 grind [py,zf]
def abI{f g e}(h:kW e)(d:AA f)(b:oh f e=some g):AA g:=by
 unfold oh at b;split at b
 .cases b
  intro c a;rcases Yn.1 a with a|a
  .exact d c a
  simp_all
 split at b
 .cases b
  intro c a;dsimp only at a;split at a
  .simp_all
  .rcases List.mem_or_eq_of_mem_set a with a|rfl
   .exact d c a
   .exact ahg _
 split at b
 .cases b
  intro c a;grind
 split at b
 .cases b;exact d
 split at b
 .cases b;exact d
 .intro c a;rw[af9 b]at a;exact d c a
section
variable {d c : Zw} {b : Nat} {s g : fl} {h j f e : Zv} {R : List Th}
def aeV(r:bA (wL b s h j f e R) c d)(a:dK)(o:kW a)(p:uK s)(q:oh s a=some g):Calls prog 13 #[Zp b,.agg (di a)] d λm u=>m=.returned (.bool true)/\∃k l,bA (wL b g k l f e R) c u:=by
 have i:=U (zv (r.aw (.cells (di a) 27)) a o p);rw[q]at i;clear r o p q;go_in;go_wp21;refine i.i.mono ?_;rintro m v ⟨rfl,k,l,n⟩;have t:=U n;clear n i;go_wp2;go_ret;exact⟨rfl,k,l,t.i.c7⟩
def MW{a:dK}(b:a.w=9):oh s a=none:=by grind [oh,py]
def ae2(G:bA (wL b s h j f e R) c d)(g:dK)(m:kW g)(t:uK s)(B:g.w=9){J}(C:eR (aI (fy s g.a))=.error J)(A:Gl c)(z:c.cell? (Zd 1 0)=some (eM 55)):Calls prog 13 #[Zp b,.agg (di g)] d λq a0=>q=.returned (.bool true)/\∃k l,bA (wL b s k l f e R) c a0:=by
 have p:=U (zv (G.aw (.cells (di g) 27)) g m t);rw[MW B]at p;have x:=U (λ(u:Zw) k l (H:bA (wL b s k l f e (R++[.obj d.heap.size (.cells (di g) 27)])) c u)=>wi (s:=s) (H.aL (i:=0) (R:=b) rfl) (H.bC (i:=1) (a:=cO k s.av) rfl) g.a m.2.1.1 m.2.1.2 (by have:=t.av;omega));have v:=U (λ(u:Zw) (D:ap [] c u)=>acz C (A.ae D Zq Zq Zq) (pa z D));generalize fy s g.a=tx at *
 have a5:(g.w==9)=true:=Zu;clear G m t C A z B;go_in;go_wp21;refine p.i.mono ?_;rintro q a1 ⟨rfl,k,l,r⟩;have n:=U r;have y:=U (x.i a1 k l r);clear r p x;obtain⟨K,L,M,N,O,P,of,S⟩:=fu n.i.hm;generalize d.heap.size=a3 at *
 go_wp21;refine y.i.mono ?_;rintro a4 a2 ⟨rfl,E⟩;have o:=U (n.i.ae E);have w:=U (v.i a2 o.i.fr);clear n y v E K L M N O P of S;go_wp21;refine w.i.mono ?_;rintro q a6 ⟨F,rfl⟩;have I:=U (o.i.ae F);clear o w F;go_wp2;go_ret;exact⟨rfl,k,l,I.i.c7⟩
end
section
variable {i j : Zw} {b : Nat} {d e : fl} {g h f c : Zv} {a : List Th}
def WP:(prog.info? 37).map (λa=>(a.zero,a.size,a.bytes))=some (some (.pointer none),1,8):=Zk
end
section
variable {d g : Zw} {c : Nat} {b k : fl} {h j e f : Zv} {R : List Th}
def MV{a:dK}(c:a.w<=0\/10<=a.w):oh b a=none:=by
 unfold oh py;grind
def aeT(u:bA (wL c b h j e f R) g d)(k:dK)(w:kW k)(x:uK b)(y:k.w<=0\/10<=k.w/\k.w<=14)(H:b.bv=[]):Calls prog 13 #[Zp c,.agg (di k)] d λs z=>s=.returned (.bool true)/\∃m o,bA (wL c b m o e f R) g z:=by
 obtain⟨ix,r,rfl⟩:=aV (u.bC (i:=3) (a:=uy 37 e b.bv) rfl);have q:=U (zv (u.aw (.cells (di k) 27)) k w x);rw[MV (y.imp_right And.left)]at q;have G:(k.w==9)=false:=Zg;have F:¬(14:Int)<k.w:=Zm;have I:b.bv.length=0:=Zu;have v:af (∀n:Zw,n.cell? (Zd c 6)=some (.slice ix b.bv.length r)->n.cell? (Zd c 6)=some (.slice ix 0 r)):=U (λn t=>by simp_all);go_in;go_wp21;refine q.i.mono ?_;rintro s A ⟨rfl,m,o,t⟩;have l:=U t;obtain⟨J,K,L,M,N,O,of,P⟩:=fu l.i.hm;have p:=l.i.aL (i:=0) (R:=c) rfl;have B:=v.i A (aB p rfl);have C:=bi p;have E:=ay p;generalize d.heap.size=D at *
 go_wp2;go_ret;exact⟨rfl,m,o,l.i.c7⟩
def Ng{f v}{a:List Nat}{c:Nat}(g:d.ownsRow 0 f 1 v a.length (a.map vX))(j:c<a.length):∃b e,v=.slice (some ⟨b,0,none⟩) a.length e/\d.cell? (Zd b c)=some (vX (a.getD c 0))/\b<d.heap.size:=by
 obtain⟨b,e,l,h,_,k⟩:=nG g (i:=c) (x:=vX (a.getD c 0)) (by simp[j]);exact⟨b,e,l,h,k⟩
end
section
variable {i j : Zw} {b : Nat} {d h : fl} {f g e c : Zv} {a : List Th}
def Pr{h i:Th}(j:h∈a):h∈wL b d f g e c (a++[i]):=Y5 _ (Y5 _ (Y5 _ (Y5 _ (Y5 _ (Yf _ j)))))
end
section
structure Wp where
 rv:Zv
 nv:Zv
 pv:Zv
 ov:Zv
 d:Nat
 f:Nat
 z:Nat
 lv:Zv
structure Ws where
 b:Zb
 e:Int
 wh:Int
abbrev Da(p:Wp)(s:Ws):Obj:=.cells #[p.rv,p.nv,p.pv,p.ov,Y p.d,Y p.f,Y p.z,p.lv,Zs s.b,Y 0,Y s.e,Y s.wh] 203
structure gK(c:Zw)(a:Nat)(p:Wp)(s:Ws)(w:Zw):Prop where
 fr:ap [] c w
 bY:c.heap.size<=a
 aw:w.heap[a]?=some (Da p s)
variable {c w w' : Zw} {a : Nat} {p : Wp} {s g : Ws}
def gK.ae(b:gK c a p s w)(d:ap [] w w'):gK c a p s w':=⟨b.fr.u d,b.bY,(d.al _ (ay b.aw) Zq).trans b.aw⟩
def gK.b5(b:gK c a p s w)(e:ap [a] w w')(d:w'.heap[a]?=some (Da p g)):gK c a p g w':=⟨qa b.fr e (by simpa using b.bY),b.bY,d⟩
def gK.K(g:gK c a p s w):w.cell? (Zd a 0)=some p.rv/\w.cell? (Zd a 1)=some p.nv/\w.cell? (Zd a 2)=some p.pv/\w.cell? (Zd a 3)=some p.ov/\w.cell? (Zd a 4)=some (Y p.d)/\w.cell? (Zd a 5)=some (Y p.f)/\w.cell? (Zd a 6)=some (Y p.z)/\w.cell? (Zd a 7)=some p.lv/\w.cell? (Zd a 8)=some (Zs s.b)/\w.cell? (Zd a 10)=some (Y s.e)/\w.cell? (Zd a 11)=some (Y s.wh)/\(∀h,w.frozen? ⟨a,h,none⟩=false)/\a<w.heap.size:=
 ⟨aB g.aw rfl,aB g.aw rfl,aB g.aw rfl,aB g.aw rfl,aB g.aw rfl,aB g.aw rfl,aB g.aw rfl,aB g.aw rfl,aB g.aw rfl,aB g.aw rfl,aB g.aw rfl,bi g.aw,ay g.aw⟩
structure hL(c:Zw)(a:Nat)(p:Wp)(w1:Zw)(s:Ws)(w:Zw):Prop where
 y:gK c a p s w
 kp:ap [a] w1 w
theorem oQ(b:gK c a p s w):hL c a p w s w:=⟨b,ar ..⟩
def hL.ae{e}(d:hL c a p e s w)(b:ap [] w w'):hL c a p e s w':=⟨d.y.ae b,d.kp.u (b.aZ Zq)⟩
def hL.b5{e}(d:hL c a p e s w)(b:ap [a] w w')(f:w'.heap[a]?=some (Da p g)):hL c a p e g w':=⟨d.y.b5 b f,d.kp.u b⟩
def An(c:Zw)(a:Nat)(p:Wp)(w:Zw)(g:Ws)(v:Zv)(b:Ending)(w':Zw):Prop:=b=.returned v/\hL c a p w g w'
def kP{f:Zw}{d:Nat}{args:Array Zv}{v:Zv}{Q:Ending->Zw->Prop}(e:af (hL c a p f s w))(h:gK c a p s w->Calls prog d args w (An c a p w g v))(i:∀w',af (hL c a p f g w')->af (ap [a] w w')->Q (.returned v) w'):Calls prog d args w Q:=
 (h e.i.y).mono λ_ w' ⟨j,b⟩=>j▸i w' (U ⟨b.y,e.i.kp.u b.kp⟩) (U b.kp)
def rl(e a:Int)(s:Ws):Ws:=if s.e=0 then { s with e:=e,wh:=a }else s
def qC(e b:Int)(f:gK c a p s w):Calls prog 107 #[Zp a,Y e,Y b] w (An c a p w (rl e b s) (.tuple #[])):=by
 obtain⟨-,-,-,-,-,-,-,-,-,k,l,m,n⟩:=f.K;have g:=U (oQ f);by_cases h:s.e=0
 .have d:af (rl e b s = { s with e:=e,wh:=b }):=Y9 h;have j:(s.e==0)=true:=Zg;go_in;go_wp2;go_end0;rw[d.i];exact⟨rfl,g.i.b5 (((ar [a] w).a6 (p:=⟨a,10,none⟩) Zq _).a6 (p:=⟨a,11,none⟩) Zq _) (ci (i:=11) (ci (i:=10) f.aw (Y e)) (Y b))⟩
 .have d:af (rl e b s=s):=Y2 h;have j:(s.e==0)=false:=Zg;go_in;go_wp2;go_end0;rw[d.i];exact⟨rfl,g.i⟩
def RK(a:Int):bits .and .i64 a 255=a % 256:=by
 have key:(BitVec.ofInt 64 a &&& BitVec.ofInt 64 255).toNat=(a % ((2 ^ 64:Nat):Int)).toNat % 2 ^ 8:=by rw[BitVec.toNat_and,BitVec.toNat_ofInt,show (BitVec.ofInt 64 255).toNat=2 ^ 8-1 by rfl,Nat.and_two_pow_sub_one_eq_mod]
 show IntKind.i64.wrap ((BitVec.ofInt 64 a &&& BitVec.ofInt 64 255).toNat:Nat)=_;grind [IntKind.wrap_i64]
def IU(a:Int):bits .and .i64 a 4294967295=a % 4294967296:=by
 have key:(BitVec.ofInt 64 a &&& BitVec.ofInt 64 4294967295).toNat=(a % ((2 ^ 64:Nat):Int)).toNat % 2 ^ 32:=by rw[BitVec.toNat_and,BitVec.toNat_ofInt,show (BitVec.ofInt 64 4294967295).toNat=2 ^ 32-1 by rfl,Nat.and_two_pow_sub_one_eq_mod]
 show IntKind.i64.wrap ((BitVec.ofInt 64 a &&& BitVec.ofInt 64 4294967295).toNat:Nat)=_;grind [IntKind.wrap_i64]
def Tp(w:Zw)(a b c d:Int):(convert 97 9 (.slice (some ⟨w.heap.size,0,none⟩) 4 4)).run prog (w.alloc (.cells #[.int .u8 a,.int .u8 b,.int .u8 c,.int .u8 d] 5))=.ok (.string ⟨#[a.toNat.toUInt8,b.toNat.toUInt8,c.toNat.toUInt8,d.toNat.toUInt8]⟩) (w.alloc (.cells #[.int .u8 a,.int .u8 b,.int .u8 c,.int .u8 d] 5)):=by
 rw[run_convert_bytes_string _ 97 9 5 _ 4 4 underlying97 underlying5 underlying9];have e:=run_loadCells_list (P:=prog) (w.alloc (.cells #[.int .u8 a,.int .u8 b,.int .u8 c,.int .u8 d] 5)) ⟨w.heap.size,0,none⟩ ([a,b,c,d].map (Value.int .u8)) (λg v f=>by
  grind [World.cell?_alloc_mark,Addr.add])
 rw[run_bytesToString _ _ 4 4 _ e];rfl
def PD(a:Nat)(h:a<4294967296)(w:Zw):Calls prog 161 #[Y a] w λc w'=>c=.returned (.string ⟨(dL a).toArray⟩)/\ap [] w w':=by
 have f:=RK;have g:=Tp;go_in;go_wp2;go_ret;refine⟨?_,(ar [] w).A _⟩;have d:∀b:Nat,UInt8.ofNat (b % 256)=UInt8.ofNat b:=λb=>UInt8.toNat_inj.1 Zq;have e:((a:Int) % 4294967296).toNat=a:=Zm;simp_all[dL]
def OH:Zv->Nat
 |.string a=>a.size
 |_=>0
def abN(b:Zb)(m:b.length<=1000000000000)(w:Zw):Calls prog 174 #[Zs b] w λh w'=>h=.returned (.string ⟨(lr b).toArray⟩)/\w'=w:=by
 go_in;go_wp2;go_loop [0] (λv=>∃a:Zb,v=Zs a/\a.length<=cy b.length/\a=b++List.replicate (a.length-b.length) 0) (λv=>cy b.length-OH v);case atStart=>exact⟨b,rfl,by unfold cy;omega,Zq⟩
 case round=>
  obtain⟨a,rfl,l,c⟩:=hrel;have k:=U c;have o:b.length<=a.length:=Zg;have n:cy b.length<=1000000000003:=by unfold cy;omega
  have e:=mw a [0];have r:¬(9223372036854775807<a.length+1):=Zm;clear c;by_cases p:a.length % 4=0
  .have j:(a.length:Int) % 4=0:=Zm;have f:af (lr b=a):=by
    grind [cy,lr]
   go_wp2;go_ret;rw[f.i];simp
  .have j:((a.length:Int) % 4==0)=false:=Zg;have q:¬(a.length:Int) % 4=0:=Zm;have d:a++[0]=b++List.replicate ((a++[0]).length-b.length) 0:=by
    have:(a++[0]).length-b.length=(a.length-b.length)+1:=Zg;grind [List.replicate_succ',af.i]
   have g:=U d;clear d;have i:(a++[0]).length<=cy b.length:=by grind [cy]
   go_wp2;refine⟨⟨a++[0],Yo Value.string e,i,g.i⟩,?_⟩;show cy b.length-OH (.string (⟨a.toArray⟩++⟨#[0]⟩))<cy b.length-a.length;rw[e];show cy b.length-(a++[0]).length<cy b.length-a.length;grind
end
section
variable {g d f : Zw} {c : Nat} {p : Wp} {a h : Ws}
def vY(f:Nat)(c:Zb)(d:Int)(a:Ws):Ws:={ (if a.e=0/\f<a.b.length+c.length then rl 14 d a else a)with b:=a.b++c }
def Vd(d c:Int)(a:Ws):(rl d c a).b=a.b:=by unfold rl;grind
def hL.k3{h}(f:hL g c p h a d)(e:Zb):hL g c p h { a with b:=e } (d.setCell ⟨c,8,none⟩ (Zs e)):=
 f.b5 ((ar [c] d).a6 (p:=⟨c,8,none⟩) Zq _) (ci (i:=8) f.y.aw (Zs e))
def Af(h:Zb)(k:Int)(F:h.length<=1000000000000)(D:a.b.length<=1000000000000)(I:p.z<=1000000000)(j:gK g c p a d):Calls prog 173 #[Zp c,Zs h,Y k] d (An g c p d (vY p.z h k a) (.tuple #[])):=by
 obtain⟨-,-,-,-,-,-,A,-,n,y,-,s,t⟩:=j.K;have u:=U (oQ j);clear j;have G:¬(9223372036854775807<a.b.length+h.length):=Zm;have E:=mw a.b h;have H:IntKind.i64.wrap ((a.b.length:Int)+h.length)=a.b.length+h.length:=by rw[IntKind.wrap_i64];omega
 go_in;go_upto_region 0 with fail;go_cut [26] (λv wc=>v=.bool (decide (a.e=0/\p.z<a.b.length+h.length))/\wc=d.drew);case first=>
  by_cases r:a.e=0
  .have B:(a.e==0)=true:=by simp[r]
   refine bJ (λf=>f.cell? (Zd c 10)=some (Y a.e)/\f.cell? (Zd c 8)=some (Zs a.b)/\f.cell? (Zd c 6)=some (Y p.z)) ?_ λC=>?_
   .go_keep
   clear r;refine bc [0,1,2,3] ?_;iterate 4 (refine bh ?_)
   refine be ?_;refine tk (i:=4) (v:=.bool true) rfl Zk (λ_ _ _ j=>j) Zk Zt ?_ ?_
   .intro d l;(try dsimp only at l);go_simp;(try with_reducible rfl);all_goals (try omega)
   refine nz ?_;refine bc [5,6,7,8,9,10,11,12] ?_;iterate 8 (refine bh ?_)
   refine be ?_;refine tk (i:=13) (v:=Y (a.b.length+h.length)) rfl Zk (λ_ _ _ j=>j) Zk Zt ?_ ?_
   .intro d l;(try dsimp only at l);go_simp;(try with_reducible rfl);all_goals (try omega)
   refine nz ?_;refine bc [14,15,16,17,18] ?_;iterate 5 (refine bh ?_)
   refine be ?_;refine tk (i:=19) (v:=.bool (decide ((p.z:Int)<(a.b.length:Int)+(h.length:Int)))) rfl Zk (λ_ _ _ j=>j) Zk Zt ?_ ?_
   .intro d l;(try dsimp only at l);go_simp;(try with_reducible rfl);all_goals (try omega)
   refine nz ?_;refine bL λc x=>?_;go_simp;refine x.out _ _ ?_;clear x c;refine nz ?_;go_wp2;go_meet;refine⟨Yo Value.bool (decide_eq_decide.2 ?_),rfl⟩;grind
  .have B:(a.e==0)=false:=by simp[r]
   go_region;go_wp2;go_meet;grind
 case rest=>
  obtain⟨rfl,rfl⟩:=hcut;have m:=U (u.i.ae (ar [] d).ag);generalize d.drew=J at m ⊢;clear A n y s t u;by_cases o:a.e=0/\p.z<a.b.length+h.length
  .have q:af (vY p.z h k a = { rl 14 k a with b:=a.b++h }):=by show _=_;unfold vY;simp_all
   rw[decide_eq_true o];clear o;go_wp21;refine kP m (qC 14 k) λK w _=>?_;obtain⟨-,-,-,-,-,-,-,-,n,-,-,s,t⟩:=w.i.y.K;rw[Vd]at n;go_wp2;go_end0;rw[q.i];exact⟨rfl,w.i.k3 _⟩
  .have q:af (vY p.z h k a = { a with b:=a.b++h }):=by show _=_;unfold vY;grind
   rw[decide_eq_false o];clear o;obtain⟨-,-,-,-,-,-,-,-,n,-,-,s,t⟩:=m.i.y.K;go_wp2;go_end0;rw[q.i];exact⟨rfl,m.i.k3 _⟩
end
section
variable {f : Nat -> Prop} {e d : Nat} {g : Zb} {a : ah} {b : Zw} {c : PV}
def gb(b:bt)(a:Int):Bool:=if b.w=0 then decide (-2147483648<=a)&&decide (a<=2147483647)else if b.w=1 then decide (0<=a)&&decide (a<=4294967295)else if b.w=4 then (a==0||a==1)else if b.w=5 then b.aH.contains a else true
def Mz{f:Type}{d:List f}{c}{e:f}(g:af (∀b∈d.take c,b≠e))(h:c<d.length)(i:d[c]≠e):af (∀b∈d.take (c+1),b≠e):=λb a=>by
 rw[Yt h,Yn]at a;rcases a with a|a
 .exact g.i b a
 simp_all
def Bg(p:bw f e g d a c b){k:Nat}(w:k<a.h.length)(S:(a.h.getD k bz).aH.length<=1000000000)(j:Int):Calls prog 172 #[gp c a,Y k,Y j] b λB I=>B=.returned (.bool (gb (a.h.getD k bz) j))/\ap [] b I:=by
 obtain⟨C,A,F,x,l,a0,-,-,K,-,-,-,-,a1,a2,-⟩:=nI p w;have u:a.h[k]?=some (a.h.getD k bz):=Zg;have t:=U ((p.dr k _ F u l).1.bH);generalize a.h.getD k bz=h at *
 have P:(k:Int)<(a.h.length:Int):=Zm;unfold gp;rw[x];generalize a.h.length=G at *
 clear p x w l u;obtain⟨ad,M,l,n⟩:=t.i;rw[l]at K;have n:=U n;clear t;go_in;go_wp2;all_goals try (go_ret;refine⟨pq ?_,(ar [] b).A _⟩;simp_all[gb]<;>omega)
 .have N:(h.w==5)=true:=‹_›;have s:af (gb h j=h.aH.contains j):=by show _=_;simp_all[gb]
  go_loopw [7] (λv H=>∃i:Nat,v=Y i/\i<=h.aH.length/\af (∀J∈h.aH.take i,J≠j)/\H=b.alloc (ma (.slice (some ⟨C,0,none⟩) G A) c.nv c.pv (Zs a.i))) (λv _=>h.aH.length-(intOf v).toNat)
  case atStart=>exact⟨0,rfl,Zm,Zu,rfl⟩
  case round=>
   obtain⟨i,rfl,R,o,rfl⟩:=hrel;rcases Yj i h.aH.length with r|O
   .obtain⟨L,rfl,y⟩:=n.i i r;rw[Nat.mul_one,show h.aH.getD i 0=h.aH[i] by grind]at y;have a3:=iZ y;have E:(↑i:Int) < ↑h.aH.length:=Zm;by_cases q:h.aH[i]=j
    .have D:(h.aH[i]==j)=true:=Zg;have m:af (h.aH.contains j=true):=Zg;clear q;go_wp2;go_ret;exact⟨by rw[s.i,m.i];rfl,(ar [] b).A _⟩
    .have D:(h.aH[i]==j)=false:=Zu;have z:=Mz o r q;clear o q;go_wp2;exact⟨⟨i+1,Zr,r,z,trivial⟩,Zz⟩
   .have E:¬((i:Int)<(h.aH.length:Int)):=Zm;have m:af (h.aH.contains j=false):=by
     have:=o.i;grind
    go_wp2;go_ret;exact⟨by rw[s.i,m.i];rfl,(ar [] b).A _⟩
end
section
variable {e : Nat -> Prop} {c b : Nat} {f : Zb} {g : ah} {w : Zw} {d : PV}
def oX:List Int->List Int->Int->Option Int
 |a::d,c::e,b=>if a=b then some c else oX d e b
 |_,_,_=>none
def DN{e:Int}:∀{c d:List Int} {b:Nat},af (∀f∈c.take b,f≠e)->oX c d e=oX (c.drop b) (d.drop b) e
 |_,_,0,_=>by simp
 |[],d,b+1,_=>by rfl
 |a::c,[],b+1,_=>by simp[oX]
 |a::c,i::d,b+1,g=>by
  have h:a≠e:=g.i a Zq;simp only[oX,Y2 h,List.drop_succ_cons];exact DN λf j=>g.i f Zg
def fs(a:bt)(c:Int):Int×Bool:=match oX a.aH a.aC c with
 |some b=>(b,true)
 |none=>(a.dV,a.dV != -2)
def IZ{a:bt}{i:Zv×Zv}(r:cI i.1 a.aH w)(s:cI i.2 a.aC w)(u:a.aC.length=a.aH.length)(O:a.aH.length<=1000000000)(c:Int):Calls prog 234 #[.agg (ew a i).toArray,Y c] w λE J=>E=.returned (.tuple #[Y (fs a c).1,.bool (fs a c).2])/\ap [] w J:=by
 obtain⟨ad,C,t,k⟩:=r.bH;obtain⟨B,D,h,l⟩:=s.bH;obtain⟨P,R⟩:=i;simp only at t h;subst t h;have k:=U k;have l:=U l;have z:=U u;clear r s u;unfold ew;go_in;go_wp2;generalize n:w.alloc _=o;have g:af (ap [] w o):=by subst n;exact(ar [] w).A _
 have x:o.heap[w.heap.size]?=some (.cells #[Y a.w,Y a.n,Y a.of,.slice ad a.aH.length C,.slice B a.aC.length D,Y a.dV,Zs a.a4,Y a.y] 117):=by subst n;exact bl rfl
 have S:=aE x;clear n x;go_loopw [6] (λv I=>∃b:Nat,v=Y b/\b<=a.aH.length/\af (∀y∈a.aH.take b,y≠c)/\I=o) (λv _=>a.aH.length-(intOf v).toNat)
 case atStart=>exact⟨0,rfl,Zm,(by intro y H;simp at H),rfl⟩
 case round=>
  obtain⟨b,rfl,M,f,rfl⟩:=hrel;rcases Yj b a.aH.length with e|F
  .have m:b<a.aC.length:=by have:=z.i;omega
   obtain⟨K,rfl,q⟩:=k.i b e;obtain⟨L,rfl,p⟩:=l.i b m;rw[Nat.mul_one,show a.aH.getD b 0=a.aH[b] by simp[e]]at q;rw[Nat.mul_one,show a.aC.getD b 0=a.aC[b] by simp[m]]at p;replace q:=g.i.a5 Zq q;replace p:=g.i.a5 Zq p;have G:(↑b:Int) < ↑a.aH.length:=Zm;have N:(↑b:Int) < ↑a.aC.length:=Zm;by_cases d:a.aH[b]=c
   .have h:(a.aH[b]==c)=true:=by simp[d]
    have j:af (fs a c=(a.aC[b],true)):=by
     show _=_;unfold fs;rw[DN f,Yk e,Yk m];simp[oX,d]
    clear d;go_wp2;go_ret2;rw[j.i];exact⟨rfl,g.i⟩
   .have h:(a.aH[b]==c)=false:=by simpa using d
    have A:=Mz f e d;clear f d;go_wp2;exact⟨⟨b+1,Zj,e,A,trivial⟩,Zz⟩
  .have G:¬((b:Int)<(a.aH.length:Int)):=Zm;have j:af (fs a c=(a.dV,a.dV != -2)):=by
    show _=_;unfold fs;rw[DN f,List.drop_of_length_le F];rfl
   go_wp2;go_region;go_wp2;go_ret2;rw[j.i];exact⟨rfl,g.i.ag⟩
end
section
variable {c:Int}{o:Wp}{a:Except Mar.ac cv}
variable {r : Nat -> Prop} {q p : Nat} {t : Zb} {d : ah} {b j g : Zw} {k : PV} {h : Nat} {s : Ws} {v : List dj} {l : Zv} {m f i : Nat}
abbrev eb(k:PV)(d:ah)(l:Zv)(m f i:Nat):Wp:=⟨k.rv,k.nv,k.pv,Zs d.i,m,f,i,l⟩
def bG:dj:=⟨0,0,[],0,0⟩
def sQ{a o:Nat}{p}(r:b.ownsRow o p 5 l v.length (v.flatMap cX))(t:a<v.length):∃d j,l=.slice (some ⟨d,0,none⟩) v.length j/\b.cell? ⟨d,a*5,none⟩=some (Y (v.getD a bG).w)/\b.cell? ⟨d,a*5+1,none⟩=some (Y (v.getD a bG).n)/\b.cell? ⟨d,a*5+2,none⟩=some (.string ⟨(v.getD a bG).s.toArray⟩)/\b.cell? ⟨d,a*5+3,none⟩=some (Y (v.getD a bG).y)/\b.cell? ⟨d,a*5+4,none⟩=some (Y (v.getD a bG).am):=by
 have q:v[a]?=some (v.getD a bG):=by simp[t]
 have n:=λe i (c:Zv) (h:(cX (v.getD a bG))[e]?=some c)=>nG r (x:=c) ((ub (f:=cX) (k:=5) (λ_=>rfl) v a e i).trans (by rw[q];exact h));obtain⟨d,j,m,y,-⟩:=n 0 Zm _ rfl;have g:∀e (i:e<5) (c:Zv) (h:(cX (v.getD a bG))[e]?=some c),b.cell? ⟨d,a*5+e,none⟩=some c:=by
  intro e i c h;obtain⟨w,u,k,s,-⟩:=n e i c h;rw[m]at k;simp at k;rw[k.1];exact s
 exact⟨d,j,m,g 0 Zm _ rfl,g 1 Zm _ rfl,g 2 Zm _ rfl,g 3 Zm _ rfl,g 4 Zm _ rfl⟩
def Db(a:Int)(b:Zw):Calls prog 161 #[Y (a % 4294967296)] b λd e=>d=.returned (.string ⟨(dL a).toArray⟩)/\ap [] b e:=by
 have c:=PD (a % 4294967296).toNat Zm b;rw[show (((a % 4294967296).toNat:Nat):Int)=a % 4294967296 by omega,show dL (a % 4294967296)=dL a by grind [dL,Int.emod_emod]]at c;exact c
def PC{a:Int}(e:0<=a)(f:a<4294967296)(b:Zw):Calls prog 161 #[Y a] b λd g=>d=.returned (.string ⟨(dL a).toArray⟩)/\ap [] b g:=by
 have c:=Db a b;rw[Int.emod_eq_of_lt e f]at c;exact c
def Pn(o:s.e≠0)(a g p:Int)(c:gK j h (eb k d l m f i) s b):Calls prog 106 #[Zp h,Y a,Y g,Y p] b (An j h (eb k d l m f i) b s (Y g)):=by
 obtain⟨-,-,-,-,-,-,-,-,-,q,-,-,t⟩:=c.K;have r:(s.e != 0)=true:=Zu;have n:=U (oQ c);clear c o;go_in;go_wp2;go_ret;exact⟨rfl,n.i⟩
def sd(j:Zw)(h:Nat)(o:Wp)(b:Zw)(a:Except Mar.ac cv)(c:Int)(g:Zw):Prop:=match a with
 |.ok d=>c=d.O/\hL j h o b ⟨d.i,0,0⟩ g/\d.O<=o.f/\d.i.length<=o.z
 |.error e=>∃i,hL j h o b ⟨i,e.no,e.y⟩ g/\(e.no:Int)≠0
def kX(j:Zw)(h:Nat)(o:Wp)(b:Zw)(a:Except Mar.ac cv)(d:Ending)(e:Zw):Prop:=∃c,d=.returned (Y c)/\sd j h o b a c e
theorem sd.c1{i}(d:sd j h o b a c g)(f:ap [h] i b):sd j h o i a c g:=by
 cases a with
 |ok m=>exact⟨d.1,⟨d.2.1.y,f.u d.2.1.kp⟩,d.2.2⟩
 |error n=>obtain⟨k,e,l⟩:=d;exact⟨k,⟨e.y,f.u e.kp⟩,l⟩
def sd.kp(d:sd j h o b a c g):ap [h] b g:=by
 cases a with
 |ok i=>exact d.2.1.kp
 |error k=>obtain⟨f,e,l⟩:=d;exact e.kp
def im(i b:Nat)(a c:Zb):Except Mar.ac cv:=if i<a.length+c.length then .error ⟨14,b⟩else .ok ⟨b+1,a++c⟩
def zk{d:Nat}{e i:Zb}(a:hL j h o b (vY o.z i d ⟨e,0,0⟩) g)(m:d<o.f)(l:c=d+1):sd j h o b (im o.z d e i) c g:=by
 subst l;unfold im vY rl at *
 by_cases k:o.z<e.length+i.length
 .simp only[k,and_true,if_true]at a ⊢
  exact⟨_,a,Zq⟩
 .simp only[k,and_false,if_false]at a ⊢
  exact⟨rfl,a,m,Zu⟩
def xn(a:bt)(b:dj)(i c:Nat)(d:Zb):Except Mar.ac cv:=if b.w=1/\gb a b.n=true then im i c d ((if a.w=2\/a.w=3 then dL (b.n / 4294967296)else [])++dL b.n)else .error ⟨12,c⟩
def xV(a:bt)(b:dj)(i c:Nat)(d:Zb):Except Mar.ac cv:=if b.w=2/\(b.s.length:Int)<=a.n/\(a.w=6->(b.s.length:Int)=a.n)then im i c d ((if a.w=6 then []else dL b.s.length)++lr b.s)else .error ⟨12,c⟩
def agC(u:bw r q t p d k j)(z:j.ownsRow 0 52 5 l v.length (v.flatMap cX)){e c:Nat}(M:e<d.h.length)(N:(d.h.getD e bz).w≠14)(b6:f<=1000000000)(A:f<=c\/v.length<=c)(K:Nat){H:Zb}(o:gK j h (eb k d l m f i) ⟨H,0,0⟩ b):Calls prog 106 #[Zp h,Y e,Y c,Y K] b (kX j h (eb k d l m f i) b (.error ⟨if f<=c then 15 else 12,c⟩)):=by
 obtain⟨I,a2,a5,a6,a7,a8,a9,J,b0,a3,a4,b2,b3⟩:=o.K;obtain⟨b4,b1,F,O,C,c3,c4,c5,c6,c7,c8,c9,d0,d1,d2,d3⟩:=nI (u.az o.fr) M;have x:d.h[e]?=some (d.h.getD e bz):=Zg;obtain⟨D,E⟩:=u.dr e _ F x C;obtain⟨S,a0,g⟩:=aV D;obtain⟨P,R,y⟩:=aV E;obtain⟨c1,c2⟩:=F;simp only at g y;subst g y;skip;have b7:(e:Int)<(d.h.length:Int):=Zm;have G:=U (oQ o);simp only[O]at I;generalize d.h.getD e bz=a at *
 clear u o D E x C;have b8:(a.w==14)=false:=Zu;obtain⟨b9,c0,B⟩:=aV z;simp only[B]at J;clear z B N;have w:=U (G.i.ae ((ar [] b).A (.cells #[Y a.w,Y a.n,Y a.of,.slice S a.aH.length a0,.slice P a.aC.length R,Y a.dV,Zs a.a4,Y a.y] 117)));by_cases g:f<=c
 .have L:(f:Int)<=c:=Zm;rw[Y9 g];clear g A;go_in;go_wp21;refine kP w (qC 15 c) λa1 s _=>?_;go_wp2;go_ret;exact⟨_,rfl,_,s.i,Zq⟩
 .have L:¬(f:Int)<=c:=Zm;have b5:(v.length:Int)<=c:=Zm;rw[Y2 g];clear g A;go_in;go_wp21;refine kP w (qC 12 c) λa1 s _=>?_;go_wp2;go_ret;exact⟨_,rfl,_,s.i,Zq⟩
def agD(P:bw r q t p d k j)(b5:j.ownsRow 0 52 5 l v.length (v.flatMap cX)){n:Nat}(o:n<d.h.length)(h0:0<=(d.h.getD n bz).w/\(d.h.getD n bz).w<=5)(b7:(d.h.getD n bz).aH.length<=1000000000)(g6:f<=1000000000)(e3:i<=1000000000)(e d9:Nat){z:Zb}(g5:z.length<=i)(e1:e<f)(e2:e<v.length)(N:gK j h (eb k d l m f i) ⟨z,0,0⟩ b):Calls prog 106 #[Zp h,Y n,Y e,Y d9] b (kX j h (eb k d l m f i) b (xn (d.h.getD n bz) (v.getD e bG) i e z)):=by
 obtain⟨B,K,L,M,d0,d1,d2,a8,d3,c8,c9,a0,a1⟩:=N.K;obtain⟨e0,d4,c0,a3,u,f2,f3,f4,f5,f6,f7,f8,f9,g0,g1,g2⟩:=nI (P.az N.fr) o;have b0:d.h[n]?=some (d.h.getD n bz):=Zg;obtain⟨b8,b9⟩:=P.dr n _ c0 b0 u;obtain⟨e8,e9,b2⟩:=aV b8;obtain⟨e6,e7,b3⟩:=aV b9;obtain⟨h6,h7⟩:=c0;simp only at b2 b3;subst b2 b3;have c5:=U (λ(g:Zw) (C:ap [] j g) (e5:Int)=>Bg (P.az C) o b7 e5);have g8:(n:Int)<(d.h.length:Int):=Zm;have x:=U (oQ N);simp only[a3]at B;generalize d.h.getD n bz=a at *
 clear P N b8 b9 b0 u;clear b7;obtain⟨h5,h4,b6,A,w,G,a5,a6⟩:=sQ b5 e2;replace A:=x.i.y.fr.a5 Zq A;replace w:=x.i.y.fr.a5 Zq w;replace G:=x.i.y.fr.a5 Zq G;replace a5:=x.i.y.fr.a5 Zq a5;replace a6:=x.i.y.fr.a5 Zq a6;have f1:=iZ A;simp only[b6]at a8;have g3:¬(f:Int)<=e:=Zm;have g4:¬(v.length:Int)<=e:=Zm;have h1:(a.w==14)=false:=Zg;generalize v.getD e bG=c at *
 clear b5 b6;go_in;go_upto_region 16 with fail;generalize C:World.alloc (World.alloc b _) _=g;have J:af (hL j h (eb k d l m f i) b ⟨z,0,0⟩ g):=by subst C;exact(x.i.ae ((ar [] b).A _)).ae ((ar [] _).A _)
 have a2:g.heap[b.heap.size]?=some (.cells (ew a (.slice e8 a.aH.length e9,.slice e6 a.aC.length e7)).toArray 117):=by
  subst C;exact(((ar [] _).A _).al _ Zq Zq).trans (bl rfl)
 have R:g.heap[b.heap.size+1]?=some (.cells (cX c).toArray 52):=by
  subst C;exact bl Zq
 clear B K L M d0 d1 d2 a8 d3 c8 c9 a0 a1 f2 f3 f4 f5 f6 f7 f8 f9 g0 g1 g2 A w G a5 a6 f1 C x;have c1:g.cell? (Zd b.heap.size 0)=some (Y a.w):=aB a2 rfl;have f0:g.cell? (Zd b.heap.size 1)=some (Y a.n):=aB a2 rfl;have A:g.cell? ⟨b.heap.size+1,0,none⟩=some (Y c.w):=aB R rfl;have w:g.cell? ⟨b.heap.size+1,1,none⟩=some (Y c.n):=aB R rfl;have G:g.cell? ⟨b.heap.size+1,2,none⟩=some (Zs c.s):=aB R rfl;go_upto_if 80 with fail;go_cut [79,80] (λ_ y wc=>y=.bool true/\g=wc);case first=>
  go_wp2;all_goals
   go_meet;simp_all<;>omega
 case rest=>
 obtain⟨rfl,rfl⟩:=hcut;obtain⟨B,K,L,M,-,-,-,-,-,-,-,a0,a1⟩:=J.i.y.K;simp only[a3]at B;have I:=U (c5.i _ J.i.y.fr.ag c.n);unfold gp at I;simp only[a3]at I;go_wp2;refine bJ (λF=>F.cell? (Zd h 0)=some (.slice (some ⟨e0,0,none⟩) d.h.length d4)/\F.cell? (Zd h 1)=some k.nv/\F.cell? (Zd h 2)=some k.pv/\F.cell? (Zd h 3)=some (Zs d.i)/\F.cell? ⟨b.heap.size+1,1,none⟩=some (Y c.n)) ?_ λb4=>?_
 .go_keep
 refine bc [0,1,2,3,4,5,6] ?_;iterate 7 (refine bh ?_)
 refine be ?_;refine bI 7 λh D=>?_;(go_simp;refine I.i.mono ?_;rintro b1 a4 ⟨rfl,s⟩;have d5:=s.a5 Zq B;have d6:=s.a5 Zq K;have d7:=s.a5 Zq L;have d8:=s.a5 Zq M;have a9:=s.a5 Zq w);refine D.out _ _ ?_ (λb4=>?_)
 .go_keep
 clear D h;refine nz ?_;refine bL λh D=>?_;go_simp;refine D.out _ _ ?_;clear D h;refine nz ?_;have a7:=U ((J.i.ae (ar [] g).ag).ae s);replace c1:=s.a5 Zq c1;replace A:=s.a5 Zq A;replace w:=a9;clear d5 d6 d7 d8 a9 B K L M a0 a1 I J b4 a2 R f0 G s;go_upto_region 24 with fail;go_cut [11,101] (λ_ y wc=>y=.bool (decide (¬(c.w=1/\gb a c.n=true)))/\a4=wc);case first=>
  go_wp2;all_goals
   go_meet;refine⟨Yo Value.bool ?_,rfl⟩;rw[Bool.eq_iff_iff];simp_all
 case rest=>
 obtain⟨rfl,rfl⟩:=hcut;by_cases u:c.w=1/\gb a c.n=true
 .rw[decide_eq_false (not_not_intro u)];have H:af (xn a c i e z=im i e z ((if a.w=2\/a.w=3 then dL (c.n / 4294967296)else [])++dL c.n)):=Y9 u
  have h3:=IU;clear u;go_upto_region 28 with fail;go_cut [79,113] (λ_ y wc=>y=.bool (decide (a.w=2\/a.w=3))/\a4=wc);case first=>
   go_wp2;all_goals
    go_meet;refine⟨Yo Value.bool ?_,rfl⟩;rw[Bool.eq_iff_iff];simp_all
  case rest=>
  obtain⟨rfl,rfl⟩:=hcut;generalize E:(if a.w=2\/a.w=3 then dL (c.n / 4294967296)else [])=o at H
  go_upto_if 113 with fail;go_cut [12] (λy wc=>y=Zs o/\af (ap [] a4 wc));case first=>
   by_cases O:a.w=2\/a.w=3
   .rw[decide_eq_true O];rw[Y9 O]at E;subst E;go_wp21;refine(Db _ _).mono ?_;rintro b1 c2 ⟨rfl,S⟩;go_wp2;go_meet;exact⟨rfl,U S⟩
   .rw[decide_eq_false O];rw[Y2 O]at E;subst E;go_wp2;go_meet;simp_all[U,ar]
  case rest=>
  obtain⟨rfl,S⟩:=hcut;rename Zw=>c2;have c6:=U (a7.i.ae S.i);replace w:=S.i.a5 Zq w;go_wp21;refine(Db _ _).mono ?_;rintro b1 h8 ⟨rfl,e4⟩;have c7:=U (c6.i.ae e4);have g9:=mw o (dL c.n);have h2:¬(9223372036854775807<o.length+(dL c.n).length):=by
   have:o.length<=4:=by grind [dL]
   simp[dL];omega
  have g7:o.length<=4:=by rw[<-E];split<;>simp[dL]
  go_wp21;refine kP c7 (Af (o++dL c.n) e (by simp[dL];omega) Zg e3) λh9 c4 _=>?_;go_wp2;go_ret;rw[H.i];exact⟨_,rfl,zk c4.i e1 Zr⟩
 .rw[decide_eq_true u];have H:af (xn a c i e z=.error ⟨12,e⟩):=Y2 u;go_wp21;refine kP a7 (qC 12 e) λc2 c3 _=>?_;go_wp2;go_ret;rw[H.i];exact⟨_,rfl,_,c3.i,Zq⟩
def agG(I:bw r q t p d k j)(a0:j.ownsRow 0 52 5 l v.length (v.flatMap cX)){o:Nat}(y:o<d.h.length)(f3:5<(d.h.getD o bz).w/\(d.h.getD o bz).w<=8)(f6:(d.h.getD o bz).n<=4294967295)(e9:f<=1000000000)(c7:i<=1000000000)(e c1:Nat){x:Zb}(e8:x.length<=i)(c4:e<f)(c5:e<v.length)(E:gK j h (eb k d l m f i) ⟨x,0,0⟩ b):Calls prog 106 #[Zp h,Y o,Y e,Y c1] b (kX j h (eb k d l m f i) b (xV (d.h.getD o bz) (v.getD e bG) i e x)):=by
 obtain⟨N,b0,b3,b4,b5,b6,b7,O,b8,b1,b2,b9,c0⟩:=E.K;obtain⟨e5,e4,a5,c6,s,d3,d4,d5,d6,d7,d8,d9,e0,e1,e2,e3⟩:=nI (I.az E.fr) y;have P:d.h[o]?=some (d.h.getD o bz):=Zg;obtain⟨a3,a4⟩:=I.dr o _ a5 P s;obtain⟨d0,d1,R⟩:=aV a3;obtain⟨c8,c9,S⟩:=aV a4;obtain⟨g1,g2⟩:=a5;simp only at R S;subst R S;skip;have f1:(o:Int)<(d.h.length:Int):=Zm;have u:=U (oQ E);simp only[c6]at N;generalize d.h.getD o bz=a at *
 clear I E a3 a4 P s;obtain⟨g0,f9,a2,C,H,A,K,L⟩:=sQ a0 c5;replace C:=u.i.y.fr.a5 Zq C;replace H:=u.i.y.fr.a5 Zq H;replace A:=u.i.y.fr.a5 Zq A;replace K:=u.i.y.fr.a5 Zq K;replace L:=u.i.y.fr.a5 Zq L;have d2:=iZ C;simp only[a2]at O;have e6:¬(f:Int)<=e:=Zm;have e7:¬(v.length:Int)<=e:=Zm;have f4:(a.w==14)=false:=Zg;generalize v.getD e bG=c at *
 clear a0 a2;go_in;go_upto_region 16 with fail;generalize F:World.alloc (World.alloc b _) _=g;have M:af (hL j h (eb k d l m f i) b ⟨x,0,0⟩ g):=by subst F;exact(u.i.ae ((ar [] b).A _)).ae ((ar [] _).A _)
 have a1:g.heap[b.heap.size]?=some (.cells (ew a (.slice d0 a.aH.length d1,.slice c8 a.aC.length c9)).toArray 117):=by
  subst F;exact(((ar [] _).A _).al _ Zq Zq).trans (bl rfl)
 have J:g.heap[b.heap.size+1]?=some (.cells (cX c).toArray 52):=by
  subst F;exact bl Zq
 clear N b0 b3 b4 b5 b6 b7 O b8 b1 b2 b9 c0 d3 d4 d5 d6 d7 d8 d9 e0 e1 e2 e3 C H A K L d2 F u;have g3:g.cell? (Zd b.heap.size 0)=some (Y a.w):=aB a1 rfl;have g4:g.cell? (Zd b.heap.size 1)=some (Y a.n):=aB a1 rfl;have C:g.cell? ⟨b.heap.size+1,0,none⟩=some (Y c.w):=aB J rfl;have H:g.cell? ⟨b.heap.size+1,1,none⟩=some (Y c.n):=aB J rfl;have A:g.cell? ⟨b.heap.size+1,2,none⟩=some (Zs c.s):=aB J rfl;go_upto_if 80 with fail;go_cut [80] (λw wc=>w=.bool false/\g=wc);case first=>
  go_wp2;all_goals
   go_meet;simp_all<;>omega
 case rest=>
 obtain⟨rfl,rfl⟩:=hcut;go_upto_if 130 with fail;go_cut [79,130] (λ_ w wc=>w=.bool true/\g=wc);case first=>
  go_wp2;all_goals
   go_meet;simp_all<;>omega
 case rest=>
 obtain⟨rfl,rfl⟩:=hcut;go_upto_region 35 with fail;go_cut [79,157] (λ_ w wc=>w=.bool (decide (¬(c.w=2/\(c.s.length:Int)<=a.n/\(a.w=6->(c.s.length:Int)=a.n))))/\g=wc);case first=>
  go_wp2;all_goals
   go_meet;refine⟨Yo Value.bool ?_,rfl⟩;rw[Bool.eq_iff_iff];simp_all<;>omega
 case rest=>
 obtain⟨rfl,rfl⟩:=hcut;by_cases s:c.w=2/\(c.s.length:Int)<=a.n/\(a.w=6->(c.s.length:Int)=a.n)
 .rw[decide_eq_false (not_not_intro s)];have D:af (xV a c i e x=im i e x ((if a.w=6 then []else dL c.s.length)++lr c.s)):=Y9 s
  have f8:c.s.length<=4294967295:=Zm;clear s;generalize B:(if a.w=6 then []else dL c.s.length)=y at D
  have f0:y.length<=4:=by rw[<-B];split<;>simp[dL]
  have f5:(lr c.s).length<=c.s.length+4:=by grind [lr,cy]
  go_upto_if 164 with fail;go_cut [13] (λw wc=>w=Zs y/\af (ap [] g wc));case first=>
   by_cases z:a.w=6
   .rw[Y9 z]at B;subst B;have c3:(a.w != 6)=false:=by simp[z]
    clear z;go_wp2;go_meet;simp_all[U,ar]
   .rw[Y2 z]at B;subst B;have c3:(a.w != 6)=true:=by simp[z]
    clear z;go_wp21;refine(PD c.s.length Zm _).mono ?_;rintro c2 a6 ⟨rfl,G⟩;go_wp2;go_meet;exact⟨rfl,U G⟩
  case rest=>
  obtain⟨rfl,G⟩:=hcut;rename Zw=>a6;have a9:=U (M.i.ae G.i);replace A:=G.i.a5 Zq A;go_wp21;refine(abN c.s Zm _).mono ?_;rintro c2 g5 ⟨rfl,rfl⟩;have f2:=mw y (lr c.s);have f7:¬(9223372036854775807<y.length+(lr c.s).length):=Zm;go_wp21;refine kP a9 (Af (y++lr c.s) e Zg Zg c7) λg6 a8 _=>?_;go_wp2;go_ret;rw[D.i];exact⟨_,rfl,zk a8.i c4 Zr⟩
 .rw[decide_eq_true s];have D:af (xV a c i e x=.error ⟨12,e⟩):=Y2 s;go_wp21;refine kP M (qC 12 e) λa6 a7 _=>?_;go_wp2;go_ret;rw[D.i];exact⟨_,rfl,_,a7.i,Zq⟩
def agH(G:bw r q t p d k j)(a3:j.ownsRow 0 52 5 l v.length (v.flatMap cX)){e:Nat}(a4:e<d.h.length)(e7:8<(d.h.getD e bz).w/\(d.h.getD e bz).w≠14)(e5:f<=1000000000)(f0:i<=1000000000)(s R:Nat){x:Zb}(e4:x.length<=i)(e9:s<f)(c1:s<v.length)(y:gK j h (eb k d l m f i) ⟨x,0,0⟩ b){M}
  (a2:∀u,k.ls[e]?=some u->∀J,gK j h (eb k d l m f i) ⟨x,0,0⟩ J->Calls prog 175 #[Zp h,.agg (ew (d.h.getD e bz) u).toArray,Y s,Y R] J (kX j h (eb k d l m f i) J M)) :
  Calls prog 106 #[Zp h,Y e,Y s,Y R] b (kX j h (eb k d l m f i) b M):=by
 obtain⟨O,b0,b3,b4,b5,b6,b7,P,b8,b1,b2,b9,c0⟩:=y.K;obtain⟨e1,d9,u,c2,I,c8,c9,d0,d1,d2,d3,d4,d5,d6,d7,d8⟩:=nI (G.az y.fr) a4;have S:d.h[e]?=some (d.h.getD e bz):=by simp[a4]
 obtain⟨a6,a7⟩:=G.dr e _ u S I;obtain⟨c5,c6,a0⟩:=aV a6;obtain⟨c3,c4,a1⟩:=aV a7;obtain⟨f3,f4⟩:=u;simp only at a0 a1;subst a0 a1;have a9:=U (a2 _ I);have e6:(e:Int)<(d.h.length:Int):=Zm;have o:=U (oQ y);simp only[c2]at O;generalize d.h.getD e bz=a at *
 clear G y a6 a7 S I;clear a2;obtain⟨f2,f1,a5,w,B,C,K,L⟩:=sQ a3 c1;replace w:=o.i.y.fr.a5 Zq w;replace B:=o.i.y.fr.a5 Zq B;replace C:=o.i.y.fr.a5 Zq C;replace K:=o.i.y.fr.a5 Zq K;replace L:=o.i.y.fr.a5 Zq L;have c7:=iZ w;simp only[a5]at P;have e2:¬(f:Int)<=s:=Zm;have e3:¬(v.length:Int)<=s:=Zm;have e8:(a.w==14)=false:=Zx;generalize v.getD s bG=A at *
 clear a3 a5;go_in;go_upto_region 16 with fail;generalize z:World.alloc (World.alloc b _) _=g;have N:af (hL j h (eb k d l m f i) b ⟨x,0,0⟩ g):=by subst z;exact(o.i.ae ((ar [] b).A _)).ae ((ar [] _).A _)
 have F:g.heap[b.heap.size]?=some (.cells (ew a (.slice c5 a.aH.length c6,.slice c3 a.aC.length c4)).toArray 117):=by
  subst z;exact(((ar [] _).A _).al _ Zq Zq).trans (bl rfl)
 have H:g.heap[b.heap.size+1]?=some (.cells (cX A).toArray 52):=by
  subst z;exact bl Zq
 clear O b0 b3 b4 b5 b6 b7 P b8 b1 b2 b9 c0 c8 c9 d0 d1 d2 d3 d4 d5 d6 d7 d8 w B C K L c7 z o;have f5:g.cell? (Zd b.heap.size 0)=some (Y a.w):=aB F rfl;have f6:g.cell? (Zd b.heap.size 1)=some (Y a.n):=aB F rfl;have w:g.cell? ⟨b.heap.size+1,0,none⟩=some (Y A.w):=aB H rfl;have B:g.cell? ⟨b.heap.size+1,1,none⟩=some (Y A.n):=aB H rfl;have C:g.cell? ⟨b.heap.size+1,2,none⟩=some (Zs A.s):=aB H rfl;go_upto_if 80 with fail;go_cut [80] (λD wc=>D=.bool false/\g=wc);case first=>
  go_wp2;all_goals
   go_meet;simp_all<;>omega
 case rest=>
 obtain⟨rfl,rfl⟩:=hcut;go_upto_if 130 with fail;go_cut [130] (λD wc=>D=.bool false/\g=wc);case first=>
  go_wp2;all_goals
   go_meet;simp_all<;>omega
 case rest=>
 obtain⟨rfl,rfl⟩:=hcut;have f7:=aE F;go_wp21;refine(a9.i _ N.i.y).mono ?_;intro e0 f8 E;obtain⟨c,rfl,E⟩:=E;have a8:=U E;go_wp2;go_ret;exact⟨_,rfl,a8.i.c1 N.i.kp⟩
end
section
variable {o : Nat -> Prop} {m l : Nat} {q : Zb} {k : ah} {a f d : Zw} {h : PV} {c : Nat} {p : Ws} {v : List dj} {g : Zv} {j e b : Nat}
def ii{a:Type}(c:Nat->a->Except Mar.ac a):Nat->Nat->a->Except Mar.ac a
 |_,0,b=>.ok b
 |i,d+1,b=>aA (c i b) (ii c (i+1) d)
abbrev sM(a:bt)(b:dj):Prop:=b.w=3/\(a.w=9->b.am=a.n)/\(a.w=10->0<=b.am/\b.am<=a.n)/\(a.w=12->b.am=a.aC.length)
def vH(e:bt)(c:dj)(b a:Nat)(d:Zb)(f:Nat->cv->Except Mar.ac cv):Except Mar.ac cv:=
 if sM e c then aA (if e.w=10 then im b a d (dL c.am)else .ok ⟨a+1,d⟩) (ii f 0 c.am.toNat)else .error ⟨12,a⟩
def xq(a:bt)(b:Nat):Int:=if a.w=12 then a.aC.getD b 0 else a.of
def Pz(c1:f.ownsRow 0 52 5 g v.length (v.flatMap cX)){i:bt}{M:Zv×Zv}(d2:cI M.1 i.aH f)(a8:cI M.2 i.aC f)(h3:e<=1000000000)(g0:b<=1000000000)(h7:0<=i.n/\i.n<=4294967295)(h8:i.aC.length<=1000000)
  {m b6:Nat} {q:Zb} (f6:q.length<=b) (c8:m<e) (f8:m<v.length) (t:gK f c (eb h k g j e b) ⟨q,0,0⟩ a) (f7:i.w=9\/i.w=10\/i.w=12)
  {p:Nat->cv->Except Mar.ac cv} (d0:sM i (v.getD m bG)->∀l s a9,l<(v.getD m bG).am.toNat->s.O<=e->s.i.length<=b->gK f c (eb h k g j e b) ⟨s.i,0,0⟩ a9->Calls prog 106 #[Zp c,Y (xq i l),Y s.O,Y b6] a9 (kX f c (eb h k g j e b) a9 (p l s))) :
  Calls prog 175 #[Zp c,.agg (ew i M).toArray,Y m,Y b6] a (kX f c (eb h k g j e b) a (vH i (v.getD m bG) b m q p)):=by
 obtain⟨e1,e2,e4,e5,e6,a4,e7,b5,e8,a3,e3,e9,f0⟩:=t.K;have d6:=U a8.bH;obtain⟨g4,g5,b8⟩:=aV d2;obtain⟨g2,g3,b9⟩:=aV a8;obtain⟨i2,i3⟩:=M;simp only at b8 b9;subst b8 b9;obtain⟨i0,h9,C,D,b0,b1,b2,F⟩:=sQ c1 f8;have y:=U (oQ t);replace D:=y.i.y.fr.a5 Zq D;replace b0:=y.i.y.fr.a5 Zq b0;replace b1:=y.i.y.fr.a5 Zq b1;replace b2:=y.i.y.fr.a5 Zq b2;replace F:=y.i.y.fr.a5 Zq F;have g9:=iZ D;simp only[C]at b5;have h1:(m:Int)<v.length:=Zm;generalize v.getD m bG=o at *
 have S:=U d0;clear d2 a8 t d0 c1;go_in;go_upto_region 3 with fail;generalize L:World.alloc (World.alloc a _) _=d;have a0:af (hL f c (eb h k g j e b) a ⟨q,0,0⟩ d):=by subst L;exact(y.i.ae ((ar [] a).A _)).ae ((ar [] _).A _)
 have I:d.heap[a.heap.size]?=some (.cells (ew i (.slice g4 i.aH.length g5,.slice g2 i.aC.length g3)).toArray 117):=by
  subst L;exact(((ar [] _).A _).al _ Zq Zq).trans (bl rfl)
 have J:d.heap[a.heap.size+1]?=some (.cells (cX o).toArray 52):=by
  subst L;exact bl Zq
 have h2:c≠a.heap.size/\c≠a.heap.size+1:=Zm;clear e1 e2 e4 e5 e6 a4 e7 b5 e8 a3 e3 e9 f0 D b0 b1 b2 F g9 L y C;have g6:=aE I;have A:d.cell? (Zd a.heap.size 1)=some (Y i.n):=aB I rfl;have D:d.cell? ⟨a.heap.size+1,0,none⟩=some (Y o.w):=aB J rfl;have F:d.cell? ⟨a.heap.size+1,4,none⟩=some (Y o.am):=aB J rfl;go_upto_if 28 with fail;go_cut [27,28] (λ_ z wc=>z=.bool true/\d=wc);case first=>
  go_wp2;all_goals
   go_meet;simp_all<;>omega
 case rest=>
 obtain⟨rfl,rfl⟩:=hcut;go_upto_region 7 with fail;go_cut [11] (λz wc=>z=.bool (decide (¬sM i o))/\d=wc);case first=>
  as_aux_lemma=>
   go_wp2;all_goals
    go_meet;refine⟨Yo Value.bool ?_,rfl⟩;rw[Bool.eq_iff_iff];simp_all[sM]<;>omega
 case rest=>
 obtain⟨rfl,rfl⟩:=hcut;by_cases x:sM i o
 .rw[decide_eq_false (not_not_intro x)];have B:af (vH i o b m q p=aA (if i.w=10 then im b m q (dL o.am)else .ok ⟨m+1,q⟩) (ii p 0 o.am.toNat)):=Y9 x
  have d1:0<=o.am/\o.am<=4294967295:=by
   obtain⟨-,f5,w,u⟩:=x;rcases f7 with t|t|t
   .have:=f5 t;omega
   .have:=w t;omega
   .have:=u t;omega
  have f4:=U x.2.2.2;have S:=U (S.i x);clear x D;generalize K:(if i.w=10 then im b m q (dL o.am)else Except.ok ⟨m+1,q⟩)=A at B
  go_upto_if 84 with fail;go_cut [] (λwc=>af (sd f c (eb h k g j e b) a A (m+1) wc)/\af (ap [c] d wc));case first=>
   by_cases w:i.w=10
   .have f2:(i.w==10)=true:=by simp[w]
    rw[Y9 w]at K;subst K;clear w;go_wp21;refine(PC d1.1 Zm _).mono ?_;rintro f1 g7 ⟨rfl,d3⟩;have O:=U (a0.i.ae d3);go_wp21;refine kP O (Af (dL o.am) m (by simp[dL]) (by simp only;omega) g0) λg8 G g1=>?_;go_wp2;go_meet;exact⟨U (zk G.i c8 rfl),U ((d3.aZ Zq).u g1.i)⟩
   .have f2:(i.w==10)=false:=by simp[w]
    rw[Y2 w]at K;subst K;clear w;go_wp2;go_meet;exact⟨U ⟨rfl,a0.i,c8,f6⟩,U (ar ..)⟩
  case rest=>
  obtain⟨d9,d7⟩:=hcut;rename Zw=>i5;obtain⟨n,C⟩:=Int.eq_ofNat_of_zero_le d1.1;rw[C,Int.toNat_natCast]at B;go_wp2;go_loopw [10,12] (λz a2 d4=>∃(a1:Int) (l:Nat) (N:Except Mar.ac cv),z=Y a1/\a2=Y l/\l<=n/\af (sd f c (eb h k g j e b) a N a1 d4)/\af (aA N (ii p l (n-l))=aA A (ii p 0 n))/\af (ap [c] d d4)) (λ_ a2 _=>n-(intOf a2).toNat)
  case atStart=>exact⟨_,0,A,rfl,rfl,Zm,d9,U rfl,d7⟩
  case round=>
   obtain⟨a1,l,N,rfl,rfl,h5,R,H,P⟩:=hrel;have a5:=(P.i.al _ (ay I) Zx).trans I;have c2:=(P.i.al _ (ay J) Zx).trans J;have g6:wr.cell? (Zd a.heap.size 0)=some (Y i.w):=aB a5 rfl;have i4:=aE a5;have F:wr.cell? ⟨a.heap.size+1,4,none⟩=some (Y n):=C▸aB c2 rfl;clear a5 c2;cases N with
   |error b7=>
    obtain⟨e0,r,c6⟩:=R.i;obtain⟨-,-,-,-,-,-,-,-,-,a3,-,-,-⟩:=r.y.K;have h4:((b7.no:Int)==0)=false:=by simpa using c6
    have E:af (aA A (ii p 0 n)=.error b7):=U H.i.symm;by_cases a6:(l:Int)<n;all_goals
     go_wp2;go_ret;rw[B.i,E.i];exact⟨_,rfl,e0,r,c6⟩
   |ok s=>
    obtain⟨rfl,r,c4,c5⟩:=R.i;obtain⟨-,-,-,-,-,-,-,-,-,a3,-,-,-⟩:=r.y.K;by_cases a6:l<n
    .have f9:(l:Int)<n:=Zm;have E:af (aA (p l s) (ii p (l+1) (n-(l+1)))=aA A (ii p 0 n)):=by
      show _=_;rw[<-H.i,show n-l=(n-(l+1))+1 by omega];rfl
     have b4:=U (S.i l s wr (by rw[C];exact a6) c4 c5 r.y);have d8:=U r.kp;have d5:=U r.y.fr;clear r R H;go_upto_if 108 with fail;go_cut [13] (λz wc=>z=Y (xq i l)/\wr=wc);case first=>
      by_cases u:i.w=12
      .have f3:(i.w==12)=true:=by simp[u]
       have c7:l<i.aC.length:=by have:=f4.i u;omega
       have h6:(l:Int)<i.aC.length:=Zm;obtain⟨ad,h0,c3,c9⟩:=d6.i;simp only[Value.slice.injEq,true_and]at c3;obtain⟨rfl,rfl⟩:=c3;obtain⟨i1,rfl,b3⟩:=c9 l c7;rw[Nat.mul_one]at b3;replace b3:=d5.i.a5 Zq b3;have a7:xq i l=i.aC.getD l 0:=Y9 u;clear u c9;go_wp2;go_meet;exact⟨by rw[a7];simp[c7],rfl⟩
      .have f3:(i.w==12)=false:=by simp[u]
       have a7:xq i l=i.of:=Y2 u;clear u;go_wp2;go_meet;exact⟨by rw[a7],rfl⟩
     case rest=>
     obtain⟨rfl,rfl⟩:=hcut;go_wp21;refine b4.i.mono ?_;rintro f1 g8 ⟨a4,rfl,c0⟩;have G:=U c0;clear c0 b4;go_wp2;exact⟨⟨a4,l+1,_,rfl,Zj,a6,U (G.i.c1 d8.i),E,U (P.i.u G.i.kp)⟩,Zz⟩
    .have f9:¬(l:Int)<n:=Zm;have E:af (aA A (ii p 0 n)=.ok s):=by
      show _=_;rw[<-H.i,show n-l=0 by omega];rfl
     go_wp2;go_ret;rw[B.i,E.i];exact⟨_,rfl,rfl,r,c4,c5⟩
 .rw[decide_eq_true x];have B:af (vH i o b m q p=.error ⟨12,m⟩):=Y2 x;go_wp21;refine kP a0 (qC 12 m) λg7 O _=>?_;go_wp2;go_ret;rw[B.i];exact⟨_,rfl,_,O.i,Zq⟩
end
section
variable {m : Nat -> Prop} {l k : Nat} {o : Zb} {f : ah} {w e d : Zw} {h : PV} {a : Nat} {p : Ws} {v : List dj} {i : Zv} {j g b : Nat}
def ry(ok:Prop)[Decidable ok](e:Int)(g:dj)(b c:Nat)(d:Zb)(f:cv->Except Mar.ac cv):Except Mar.ac cv:=
 if ok then aA (im b c d (dL e)) (λa=>if g.am=1 then f a else .ok a)else .error ⟨12,c⟩
abbrev sS(a:dj):Prop:=a.w=4/\0<=a.am/\a.am<=1/\a.n=a.am
def ag0(a7:e.ownsRow 0 52 5 i v.length (v.flatMap cX)){n:bt}{H:Zv×Zv}(b4:cI H.1 n.aH e)(b5:cI H.2 n.aC e)(f3:g<=1000000000)(e0:b<=1000000000)
  {m a5:Nat} {p:Zb} (f2:p.length<=b) (d7:m<g) (d8:m<v.length) (M:gK e a (eb h f i j g b) ⟨p,0,0⟩ w) (x:n.w=11)
  {o:cv->Except Mar.ac cv} (b3:∀l O,l.O<=g->l.i.length<=b->gK e a (eb h f i j g b) ⟨l.i,0,0⟩ O->Calls prog 106 #[Zp a,Y n.of,Y l.O,Y a5] O (kX e a (eb h f i j g b) O (o l))) :
  Calls prog 175 #[Zp a,.agg (ew n H).toArray,Y m,Y a5] w (kX e a (eb h f i j g b) w (ry (sS (v.getD m bG)) (v.getD m bG).am (v.getD m bG) b m p o)):=by
 obtain⟨c1,c2,c5,c6,c7,c8,a3,a4,c9,c3,c4,d0,d1⟩:=M.K;skip;obtain⟨e3,e4,q⟩:=aV b4;obtain⟨e1,e2,a6⟩:=aV b5;obtain⟨g1,g2⟩:=H;simp only at q a6;subst q a6;obtain⟨g0,f9,b2,s,R,S,a0,z⟩:=sQ a7 d8;have r:=U (oQ M);replace s:=r.i.y.fr.a5 Zq s;replace R:=r.i.y.fr.a5 Zq R;replace S:=r.i.y.fr.a5 Zq S;replace a0:=r.i.y.fr.a5 Zq a0;replace z:=r.i.y.fr.a5 Zq z;have e8:=iZ s;simp only[b2]at a4;have f0:(m:Int)<v.length:=Zm;generalize v.getD m bG=k at *
 have b7:=U b3;clear b4 b5 M b3 a7;go_in;go_upto_region 3 with fail;generalize F:World.alloc (World.alloc w _) _=d;have K:af (hL e a (eb h f i j g b) w ⟨p,0,0⟩ d):=by subst F;exact(r.i.ae ((ar [] w).A _)).ae ((ar [] _).A _)
 have E:d.heap[w.heap.size]?=some (.cells (ew n (.slice e3 n.aH.length e4,.slice e1 n.aC.length e2)).toArray 117):=by
  subst F;exact(((ar [] _).A _).al _ Zq Zq).trans (bl rfl)
 have u:d.heap[w.heap.size+1]?=some (.cells (cX k).toArray 52):=by
  subst F;exact bl Zq
 have f1:a≠w.heap.size/\a≠w.heap.size+1:=Zm;clear c1 c2 c5 c6 c7 c8 a3 a4 c9 c3 c4 d0 d1 s R S a0 z e8 F r b2;have e5:d.cell? (Zd w.heap.size 0)=some (Y n.w):=aB E rfl;have s:=aE u;have z:d.cell? ⟨w.heap.size+1,4,none⟩=some (Y k.am):=aB u rfl;have f8:(n.w==9)=false:=by simp[x]
 have f5:(n.w==10)=false:=by simp[x]
 have f7:(n.w==12)=false:=by simp[x]
 have f6:(n.w==11)=true:=by simp[x]
 clear x;go_upto_region 21 with fail;go_cut [140] (λb9 wc=>b9=.bool (decide (¬sS k))/\d=wc);case first=>
  as_aux_lemma=>
   go_wp2;all_goals
    go_meet;refine⟨Yo Value.bool ?_,rfl⟩;rw[Bool.eq_iff_iff];simp_all[sS]<;>omega
 case rest=>
 obtain⟨rfl,rfl⟩:=hcut;by_cases y:sS k
 .rw[decide_eq_false (not_not_intro y)];have t:af (ry (sS k) k.am k b m p o=aA (im b m p (dL k.am)) (λl=>if k.am=1 then o l else .ok l)):=Y9 y
  obtain⟨-,d9,f4,-⟩:=y;have b8:=U (λ(_:k.am=1)=>b7.i);go_wp21;refine(PC d9 Zm _).mono ?_;rintro d2 e6 ⟨rfl,G⟩;have B:=U (K.i.ae G);go_wp21;refine kP B (Af (dL k.am) m (by simp[dL]) (by simp only;omega) e0) λP a1 N=>?_;have a9:=(((G.aZ (M':=[a]) Zq).u N.i).al _ (ay u) Zx).trans u;have a8:=(((G.aZ (M':=[a]) Zq).u N.i).al _ (ay E) Zx).trans E;replace z:P.cell? ⟨w.heap.size+1,4,none⟩=some (Y k.am):=aB a9 rfl;have g3:P.cell? (Zd w.heap.size 2)=some (Y n.of):=aB a8 rfl;have D:=U (zk a1.i d7 (c:=m+1) rfl);have e9:=U a1.i.y;clear a9 a8 u E e5 s G N B K;generalize im b m p _=I at *
  by_cases q:k.am=1
  .have d3:(k.am==1)=true:=by simp[q]
   cases I with
   |error L=>
    obtain⟨c0,C,b1⟩:=D.i;have A:af (aA (Except.error L) (λl=>if k.am=1 then o l else .ok l)=.error L):=U rfl
    go_wp21;refine kP (U C) (Pn b1 _ _ _) λe7 J _=>?_;go_wp2;go_ret;rw[t.i];exact⟨_,rfl,c0,J.i,b1⟩
   |ok l=>
    obtain⟨b0,C,d5,d6⟩:=D.i;have a2:=U (b8.i q l P d5 d6 C.y);rw[<-b0]at a2;clear b0 D;have A:af (aA (Except.ok l) (λl=>if k.am=1 then o l else .ok l)=o l):=by show (if k.am=1 then _ else _)=_;rw[Y9 q]
    have b6:=U C.kp;go_wp21;refine a2.i.mono ?_;rintro d2 e7 ⟨a3,rfl,d4⟩;have J:=U d4;go_wp2;go_ret;rw[t.i,A.i];exact⟨_,rfl,J.i.c1 b6.i⟩
  .have d3:(k.am==1)=false:=by simp[q]
   have A:af (aA I (λl=>if k.am=1 then o l else .ok l)=I):=by
    show _=_;cases I with
    |error L=>rfl
    |ok l=>show (if k.am=1 then _ else _)=_;rw[Y2 q]
   go_wp2;go_ret;rw[t.i,A.i];exact⟨_,rfl,D.i⟩
 .rw[decide_eq_true y];have t:af (ry (sS k) k.am k b m p o=.error ⟨12,m⟩):=Y2 y;go_wp21;refine kP K (qC 12 m) λe6 B _=>?_;go_wp2;go_ret;rw[t.i];exact⟨_,rfl,_,B.i,Zq⟩
abbrev oA(c:Bool)(b:Int×Bool)(a:dj):Prop:=a.w=4/\c=true/\b.2=true/\0<=a.am/\a.am<=1/\(b.1 = -1↔a.am=0)
def ag1(c3:bw m l o k f h e)(e2:e.ownsRow 0 52 5 i v.length (v.flatMap cX)){r:bt}{a8:Zv×Zv}(c4:cI a8.1 r.aH e)(c5:cI a8.2 r.aC e)(j5:g<=1000000000)(h6:b<=1000000000)(e8:r.aC.length=r.aH.length)(e9:r.aH.length<=1000000000){B:Nat}(e6:r.of=B)(h2:B<f.h.length)(h3:(f.h.getD B bz).aH.length<=1000000000)
  {p e0:Nat} {z:Zb} (j4:z.length<=b) (h4:p<g) (h5:p<v.length) (c1:gK e a (eb h f i j g b) ⟨z,0,0⟩ w) (F:r.w=13)
  {x:cv->Except Mar.ac cv} (f1:oA (gb (f.h.getD B bz) (v.getD p bG).n) (fs r (v.getD p bG).n) (v.getD p bG)->(v.getD p bG).am=1->∀q t,q.O<=g->q.i.length<=b->gK e a (eb h f i j g b) ⟨q.i,0,0⟩ t->Calls prog 106 #[Zp a,Y (fs r (v.getD p bG).n).1,Y q.O,Y e0] t (kX e a (eb h f i j g b) t (x q))) :
  Calls prog 175 #[Zp a,.agg (ew r a8).toArray,Y p,Y e0] w (kX e a (eb h f i j g b) w (ry (oA (gb (f.h.getD B bz) (v.getD p bG).n) (fs r (v.getD p bG).n) (v.getD p bG)) (v.getD p bG).n (v.getD p bG) b p z x)):=by
 have d6:=U (λ(d:Zw) (u:ap [] e d) (c8:Int)=>Bg (c3.az u) h2 h3 c8);have d4:=U (λ(d:Zw) (u:ap [] e d) (c8:Int)=>IZ (w:=d) (cI.a8 c4 u Zq) (cI.a8 c5 u Zq) e8 e9 c8);obtain⟨f8,g6,f0⟩:=aV c3.h;have f5:=U e6;clear e8 e6 e9;obtain⟨J,a3,a4,a5,g3,g4,d8,d9,g5,g1,g2,b7,b8⟩:=c1.K;skip;obtain⟨i2,i3,A⟩:=aV c4;obtain⟨h8,h9,e1⟩:=aV c5;obtain⟨i0,i1⟩:=a8;simp only at A e1;subst A e1;obtain⟨k3,k2,e7,H,y,d0,d1,O⟩:=sQ e2 h5;have C:=U (oQ c1);replace H:=C.i.y.fr.a5 Zq H;replace y:=C.i.y.fr.a5 Zq y;replace d0:=C.i.y.fr.a5 Zq d0;replace d1:=C.i.y.fr.a5 Zq d1;replace O:=C.i.y.fr.a5 Zq O;have i5:=iZ H;simp only[e7]at d9;have j2:(p:Int)<v.length:=Zm;generalize v.getD p bG=n at *
 have b3:=U f1;clear c4 c5 c1 f1 e2;go_in;go_upto_region 3 with fail;generalize u:World.alloc (World.alloc w _) _=d;have a0:af (hL e a (eb h f i j g b) w ⟨z,0,0⟩ d):=by subst u;exact(C.i.ae ((ar [] w).A _)).ae ((ar [] _).A _)
 have M:d.heap[w.heap.size]?=some (.cells (ew r (.slice i2 r.aH.length i3,.slice h8 r.aC.length h9)).toArray 117):=by
  subst u;exact(((ar [] _).A _).al _ Zq Zq).trans (bl rfl)
 have a6:d.heap[w.heap.size+1]?=some (.cells (cX n).toArray 52):=by
  subst u;exact bl Zq
 have j3:a≠w.heap.size/\a≠w.heap.size+1:=Zm;clear J a3 a4 a5 g3 g4 d8 d9 g5 g1 g2 b7 b8 H y d0 d1 O i5 u C e7;have c9:d.cell? (Zd w.heap.size 0)=some (Y r.w):=aB M rfl;have a9:d.cell? (Zd w.heap.size 2)=some (Y B):=f5.i▸aB M rfl;have y:d.cell? ⟨w.heap.size+1,1,none⟩=some (Y n.n):=aB a6 rfl;have k1:(r.w==9)=false:=by simp[F]
 have j7:(r.w==10)=false:=by simp[F]
 have j9:(r.w==12)=false:=by simp[F]
 have j8:(r.w==11)=false:=by simp[F]
 have k0:(r.w==13)=true:=by simp[F]
 clear F c3;obtain⟨J,a3,a4,a5,-,-,-,-,-,-,-,b7,b8⟩:=a0.i.y.K;simp only[f0]at J;have S:=U (d6.i _ a0.i.y.fr.ag n.n);unfold gp at S;simp only[f0]at S;generalize gb (f.h.getD B bz) n.n=K at *
 go_upto_region 28 with fail;go_cut [14] (λb6 wc=>b6=.bool K/\af (ap [] d wc));case first=>
  refine bJ (λt=>t.cell? (Zd a 0)=some (.slice f8 f.h.length g6)/\t.cell? (Zd a 1)=some h.nv/\t.cell? (Zd a 2)=some h.pv/\t.cell? (Zd a 3)=some (Zs f.i)/\t.cell? (Zd w.heap.size 2)=some (Y B)/\t.cell? ⟨w.heap.size+1,1,none⟩=some (Y n.n)) ?_ λg9=>?_
  .go_keep
  refine bc [0,1,2,3,4,5,6,7] ?_;iterate 8 (refine bh ?_)
  refine be ?_;refine bI 8 λa L=>?_;(go_simp;refine S.i.mono ?_;rintro b9 b1 ⟨rfl,s⟩;have i6:=s.a5 Zq J;have i7:=s.a5 Zq a3;have i8:=s.a5 Zq a4;have i9:=s.a5 Zq a5;have j0:=s.a5 Zq y;have j1:=s.a5 Zq a9);refine L.out _ _ ?_ (λg9=>?_)
  .go_keep
  clear L a;refine nz ?_;refine bL λa L=>?_;go_simp;refine L.out _ _ ?_;clear L a;refine nz ?_;go_wp2;go_meet;exact⟨rfl,U ((ar [] d).ag.u s)⟩
 case rest=>
 obtain⟨rfl,s⟩:=hcut;rename Zw=>b1;have b4:=U (a0.i.ae s.i);have a7:=(s.i.al _ (ay a6) Zq).trans a6;have c2:=(s.i.al _ (ay M) Zq).trans M;clear J a3 a4 a5 b7 b8 S d6 c9 a9 y a6 M a0 s;have c9:=aE c2;have a9:b1.cell? (Zd w.heap.size 2)=some (Y r.of):=aB c2 rfl;have y:b1.cell? ⟨w.heap.size+1,1,none⟩=some (Y n.n):=aB a7 rfl;have d5:=U (d4.i b1 b4.i.y.fr n.n);clear d4 c2;go_wp21;refine d5.i.mono ?_;rintro b9 N ⟨rfl,c6⟩;have b5:=U (b4.i.ae c6);have E:=(c6.al _ (ay a7) Zq).trans a7;have H:N.cell? ⟨w.heap.size+1,0,none⟩=some (Y n.w):=aB E rfl;replace y:N.cell? ⟨w.heap.size+1,1,none⟩=some (Y n.n):=aB E rfl;have O:N.cell? ⟨w.heap.size+1,4,none⟩=some (Y n.am):=aB E rfl;clear d5 c9 a9 a7 c6 b4;generalize fs r n.n=f9 at *
 obtain⟨D,a2⟩:=f9;simp only at b3;go_upto_region 30 with fail;go_cut [14,15,16,206] (λ_ h7 _ b6 wc=>h7=Y D/\b6=.bool (decide (¬oA K (D,a2) n))/\N=wc);case first=>
  as_aux_lemma=>
   go_wp2;all_goals
    go_meet;refine⟨Zu,Yo Value.bool ?_,rfl⟩;rw[Bool.eq_iff_iff];first
     |(simp_all[oA];done)
     |(simp_all[oA]<;>omega)
     |grind [oA]
     |(simp_all[oA];grind)
     |(by_cases i0:D = -1<;>by_cases i1:n.am=0<;>simp_all[oA])
 case rest=>
 obtain⟨rfl,rfl,rfl⟩:=hcut;have j6:=IU;by_cases G:oA K (D,a2) n
 .rw[decide_eq_false (not_not_intro G)];have I:af (ry (oA K (D,a2) n) n.n n b p z x=aA (im b p z (dL n.n)) (λq=>if n.am=1 then x q else .ok q)):=Y9 G
  have f7:=U (b3.i G);clear G b3;go_wp21;refine(Db _ _).mono ?_;rintro b9 k4 ⟨rfl,c7⟩;have d2:=U (b5.i.ae c7);go_wp21;refine kP d2 (Af (dL n.n) p (by simp[dL]) (by simp only;omega) h6) λf3 d3 f2=>?_;have e3:=(((c7.aZ (M':=[a]) Zq).u f2.i).al _ (ay E) Zx).trans E;replace O:f3.cell? ⟨w.heap.size+1,4,none⟩=some (Y n.am):=aB e3 rfl;have a1:=U (zk d3.i h4 (c:=p+1) rfl);clear e3 E H y c7 f2 d2 b5 d3;generalize im b p z _=b0 at *
  by_cases A:n.am=1
  .have g7:(n.am==1)=true:=by simp[A]
   cases b0 with
   |error c0=>
    obtain⟨g0,R,e5⟩:=a1.i;have P:af (aA (Except.error c0) (λq=>if n.am=1 then x q else .ok q)=.error c0):=U rfl
    go_wp21;refine kP (U R) (Pn e5 _ _ _) λi4 b2 _=>?_;go_wp2;go_ret;rw[I.i];exact⟨_,rfl,g0,b2.i,e5⟩
   |ok q=>
    obtain⟨e4,R,h0,h1⟩:=a1.i;have d7:=U (f7.i A q f3 h0 h1 R.y);rw[<-e4]at d7;clear e4 a1;have P:af (aA (Except.ok q) (λq=>if n.am=1 then x q else .ok q)=x q):=by show (if n.am=1 then _ else _)=_;rw[Y9 A]
    have f6:=U R.kp;go_wp21;refine d7.i.mono ?_;rintro b9 i4 ⟨d8,rfl,g8⟩;have b2:=U g8;go_wp2;go_ret;rw[I.i,P.i];exact⟨_,rfl,b2.i.c1 f6.i⟩
  .have g7:(n.am==1)=false:=by simp[A]
   have P:af (aA b0 (λq=>if n.am=1 then x q else .ok q)=b0):=by
    show _=_;cases b0 with
    |error c0=>rfl
    |ok q=>show (if n.am=1 then _ else _)=_;rw[Y2 A]
   go_wp2;go_ret;rw[I.i,P.i];exact⟨_,rfl,a1.i⟩
 .rw[decide_eq_true G];have I:af (ry (oA K (D,a2) n) n.n n b p z x=.error ⟨12,p⟩):=Y2 G;go_wp21;refine kP b5 (qC 12 p) λN f4 _=>?_;go_wp2;go_ret;rw[I.i];exact⟨_,rfl,_,f4.i,Zq⟩
end
section
variable {l : Nat -> Prop} {k j : Nat} {m : Zb} {a : ah} {h f p : Zw} {d : PV} {c : Nat} {o : Ws} {v : List dj} {g : Zv} {b e i : Nat}
def agF(x:bw l k m j a d f){p:Nat}(N:p<a.h.length)(O:(a.h.getD p bz).w=14)(c0:e<=1000000000)(u o:Nat)(b9:o<=64){B:Zb}(s:gK f c (eb d a g b e i) ⟨B,0,0⟩ h){D}
  (E:o<b->∀y,gK f c (eb d a g b e i) ⟨B,0,0⟩ y->Calls prog 106 #[Zp c,Y (a.h.getD p bz).of,Y u,Y ((o+1:Nat):Int)] y (kX f c (eb d a g b e i) y D)) :
  Calls prog 106 #[Zp c,Y p,Y u,Y o] h (kX f c (eb d a g b e i) h (if b<=o then .error ⟨13,u⟩else D)):=by
 have z:=U E;clear E;obtain⟨L,a4,a7,a8,a9,b0,b1,b2,b3,a5,a6,b5,b6⟩:=s.K;obtain⟨b8,b4,I,P,F,c5,c6,c7,c8,c9,d0,d1,d2,d3,d4,d5⟩:=nI (x.az s.fr) N;have C:a.h[p]?=some (a.h.getD p bz):=Zg;obtain⟨G,H⟩:=x.dr p _ I C F;obtain⟨a0,a1,r⟩:=aV G;obtain⟨R,S,t⟩:=aV H;obtain⟨c3,c4⟩:=I;simp only at r t;subst r t;skip;have c1:(p:Int)<(a.h.length:Int):=Zm;have J:=U (oQ s);simp only[P]at L;generalize a.h.getD p bz=q at *
 clear x s G H C F;have c2:(q.w==14)=true:=Zg;have v:=U (J.i.ae ((ar [] h).A (.cells #[Y q.w,Y q.n,Y q.of,.slice a0 q.aH.length a1,.slice R q.aC.length S,Y q.dV,Zs q.a4,Y q.y] 117)));clear O;by_cases r:b<=o
 .have M:(b:Int)<=o:=Zm;rw[Y9 r];clear r;go_in;go_wp21;refine kP v (qC 13 u) λa2 w _=>?_;go_wp2;go_ret;exact⟨_,rfl,_,w.i,Zq⟩
 .have M:¬(b:Int)<=o:=Zm;rw[Y2 r];have A:=U (z.i Zm _ v.i.y);rw[show (((o+1:Nat):Int))=(o:Int)+1 by omega]at A;have K:=U v.i.kp;clear r z;go_in;go_wp21;refine A.i.mono ?_;rintro b7 a2 ⟨a3,rfl,t⟩;have w:=U t;go_wp2;go_ret;exact⟨_,rfl,w.i.c1 K.i⟩
end
section
variable {g:Bool}{b:dJ}{f:bt}{j h:Type}
variable {v : List dj} {i d e a : Nat} {c : Zb}
abbrev gN(a:dj):fD:=⟨a.w,a.n,a.s,a.y,a.am⟩
def qs(v:List dj)(d a:Nat)(b:Except Mar.ac cv):Except Mar.ac cv:=if d<=a\/v.length<=a then .error ⟨if d<=a then 15 else 12,a⟩else b
def CO(h:Int)(f:fD->Bool)(e:fD×cv->Except Mar.ac j):aA (hb (v.map gN) d h f ⟨a,c⟩) e=if d<=a\/v.length<=a then .error ⟨if d<=a then 15 else 12,a⟩else if(v.getD a bG).w=h/\f (gN (v.getD a bG))=true then e (gN (v.getD a bG),⟨a+1,c⟩)else .error ⟨12,a⟩:=by
 unfold hb;by_cases b:d<=a
 .simp[b,aA]
 by_cases g:v.length<=a
 .simp[b,g,aA]
 have i:(v.map gN)[a]?=some (gN (v.getD a bG)):=Zu;simp only[b,g,i,if_false,or_self]
 split<;>rfl
theorem Cj(b:Zb)(d:cv->Except Mar.ac j):aA (im e a c b) d=if e<c.length+b.length then .error ⟨14,a⟩else d ⟨a+1,c++b⟩:=by unfold im;split<;>rfl
theorem Ac(b:Int):ky e b ⟨a+1,c⟩=im e a c (dL b):=by
 grind [ky,lX,im,Dc,aA]
theorem Nj(b d:Zb):(if e<c.length+b.length then Except.error ⟨14,a⟩else im e a (c++b) d)=im e a c (b++d):=by
 unfold im;simp only[Yq,YN];repeat' split
 all_goals (first|rfl|(exfalso;omega))
def Ut(m:b.bB=decide (f.w=2\/f.w=3))(h:∀g∈v,gb f g.n=b.br g.n):(fm (v.map gN) i d e).num b ⟨a,c⟩=qs v d a (xn f (v.getD a bG) e a c):=by
 show aA (hb (v.map gN) d 1 _ ⟨a,c⟩) _=_;rw[CO];unfold qs;split
 .rfl
 rename_i k;have j:v.getD a bG∈v:=Zu;unfold xn;rw[h _ j];split
 .by_cases l:f.w=2\/f.w=3
  .simp_all[Ac,Cj,Nj]
  simp_all[aA,Ac]
 rfl
def Uy{b:Int}(m:f.w=6↔g=true)(n:f.n=b):(fm (v.map gN) i d e).text b g ⟨a,c⟩=qs v d a (xV f (v.getD a bG) e a c):=by
 show aA (hb (v.map gN) d 2 _ ⟨a,c⟩) _=_;rw[CO];unfold qs;split
 .rfl
 unfold xV;have k:((v.getD a bG).w=2/\gV b g (gN (v.getD a bG)).s.length=true)↔((v.getD a bG).w=2/\((v.getD a bG).s.length:Int)<=f.n/\(f.w=6->((v.getD a bG).s.length:Int)=f.n)):=by
  grind [gV]
 simp only[k];split
 .have o:∀(h:Zb) (j:Zb),vT e j ⟨a+1,h⟩=im e a h (lr j):=λh j=>by
   grind [lr,cy,vT,lX,im,aA]
  by_cases l:f.w=6
  .simp_all[aA]
  simp_all[Ac,Cj,Nj]
 rfl
def KE{b}(f:Nat×cv->Except Mar.ac j):aA ((fm (v.map gN) i d e).bH b g ⟨a,c⟩) f=if d<=a\/v.length<=a then .error ⟨if d<=a then 15 else 12,a⟩else if(v.getD a bG).w=3/\gV b g (v.getD a bG).am=true then aA (if g then .ok ⟨a+1,c⟩else im e a c (dL (v.getD a bG).am)) (λh=>f ((v.getD a bG).am.toNat,h))else .error ⟨12,a⟩:=by
 show aA (aA (hb (v.map gN) d 3 _ ⟨a,c⟩) _) _=_;rw[CO];split
 .rfl
 split
 .cases g
  .simp only[Ye,if_false,Ac,Cj]
   split<;>rfl
  rfl
 rfl
def KD{g}(f:Int×cv->Except Mar.ac j):aA ((fm (v.map gN) i d e).cg b g ⟨a,c⟩) f=if d<=a\/v.length<=a then .error ⟨if d<=a then 15 else 12,a⟩else if(v.getD a bG).w=4/\mZ g (gN (v.getD a bG))=true then aA (im e a c (dL (v.getD a bG).n)) (λh=>f ((v.getD a bG).n,h))else .error ⟨12,a⟩:=by
 show aA (aA (hb (v.map gN) d 4 _ ⟨a,c⟩) _) _=_;rw[CO];split
 .rfl
 split
 .simp only[Ac,Cj];split<;>rfl
 rfl
def BA(a:eU h):∀(b d:Nat) (c:h),ii (λ_=>a) d b c=hE a b c
 |0,_,_=>rfl
 |b+1,d,c=>by
  show aA (a c) (ii (λ_=>a) (d+1) b)=aA (a c) (hE a b);congr 1;funext c;exact BA a b (d+1) c
def LV(e:Wk h)(nm:Zb->eU h)(c:List Ty):∀(b a:Nat) (d:h),b+a=c.length->ii (λg=>dY e nm (c.getD g .void)) a b d=lQ e nm (c.drop a) d
 |0,a,d,f=>by rw[List.drop_of_length_le Zm];rfl
 |b+1,a,d,f=>by
  rw[Yk Zm];show aA (dY e nm (c.getD a .void) d) _=aA (dY e nm c[a] d) _;rw[show c.getD a .void=c[a] by simp[show a<c.length by omega]];congr 1;funext d;exact LV e nm c b (a+1) d Zm
end
section
variable {u:eU cv}{D':cv->Except Mar.ac cv}{g:Int}{c:bt}
section
variable {z : Nat -> Prop} {y w : Nat} {q : Zb} {f : ah} {l h A : Zw} {i : PV} {m : Nat} {v : List dj} {j : Zv} {o d e : Nat} {t : fB} {r : Nl} {Kn : Zb -> Prop}
def kc:Ty->Prop
 |.plain d=>d<=4
 |.opaq a _=>0<=a/\a<=4294967295
 |.str a c=>c=false/\0<=a/\a<=4294967295
 |.arr b a _=>(0<=a/\a<=4294967295)/\b≠.void/\kc b
 |.opt b=>b≠.void/\kc b
 |_=>True
def lG:aD->Prop
 |.typedef c=>c.H≠.void/\kc c.H
 |.enum _ _ b=>b≠[]/\∀a∈b,-2147483648<=a.2.2/\a.2.2<=2147483647
 |.struct _ _ b=>b.length<=1000/\∀a∈b,a.H≠.void/\kc a.H
 |.union _ _ _ d=>((dd d).map (·.1)).Nodup/\∀c∈d,kc c.2.H
 |_=>False
structure Tb(rows:List bt)(r:Nl)(t:fB)(Kn:Zb->Prop):Prop where
 cU:∀k:Nat,k<=4->rows[k]?=some ⟨k,0,0,[],[],0,[],0⟩
 b8:∀c∈rows,c.aH.length<=1000/\c.aC.length<=1000
 hK:∀(s:Zb) (a:Nat) (g:Int) (c:bt),Kn s->rows[g.toNat]?=some c->c.w=14->c.a4=s->∃df,t s=some df/\kb rows r df c.of/\(∀p∈jo df,Kn p.1)/\lG df
 hu:∀(s q:Zb) (b:Nat) ms,aP r s=some (some (.enum q b ms))->t s=some (.enum q b ms)
 enum:∀(s q:Zb) (b:Nat) ms,aP r s=some (some (.enum q b ms))->lG (.enum q b ms)
structure Cx(z:Nat->Prop)(y w:Nat)(q:Zb)(f:ah)(h:Zw)(i:PV)(v:List dj)(j:Zv)(d e:Nat)(t:fB)(r:Nl)(Kn:Zb->Prop):Prop where
 hV:bw z y q w f i h
 hN:h.ownsRow 0 52 5 j v.length (v.flatMap cX)
 hf:d<=1000000000
 hz:e<=1000000000
 kv:∀x∈v,-9223372036854775808<=x.n/\x.n<=9223372036854775807
 tb:Tb f.h r t Kn
def wF(h:Zw)(m:Nat)(i:PV)(f:ah)(j:Zv)(o d e b:Nat)(g:Int)(u:eU cv):Prop:=∀a l,a.O<=d->a.i.length<=e->gK h m (eb i f j o d e) ⟨a.i,0,0⟩ l->
 Calls prog 106 #[Zp m,Y g,Y a.O,Y b] l (kX h m (eb i f j o d e) l (u a))
def sH{a:List bt}{g:Nat}(b:a[g]?=some c):g<a.length/\a.getD g bz=c:=by
 grind
def Hw(b:Cx z y w q f h i v j d e t r Kn)(x:0<=g)(D:f.h[g.toNat]?=some c)(G:c.w≠14){k:Nat}(B:∀a,u a=qs v d a.O (D' a))
  (s:∀a l,a.O<d->a.O<v.length->a.i.length<=e->gK h m (eb i f j o d e) ⟨a.i,0,0⟩ l->Calls prog 106 #[Zp m,Y g,Y a.O,Y k] l (kX h m (eb i f j o d e) l (D' a))):wF h m i f j o d e k g u:=by
 intro a l E A p;obtain⟨H,rfl⟩:=Int.eq_ofNat_of_zero_le x;obtain⟨C,F⟩:=sH D;rw[B];unfold qs;by_cases n:d<=a.O\/v.length<=a.O
 .rw[Y9 n];exact agC b.hV b.hN C Zu b.hf n k p
 .rw[Y2 n];exact s a l Zm Zm A p
def agR(a:Cx z y w q f h i v j d e t r Kn)(s:0<=g)(k:f.h[g.toNat]?=some c)(H:0<=c.w/\c.w<=5){n:dJ}(G:n.bB=decide (c.w=2\/c.w=3))(E:∀u∈v,gb c u.n=n.br u.n){p}:wF h m i f j o d e p g ((fm (v.map gN) o d e).num n):=by
 refine Hw a s k Zm (D':=λb=>xn c (v.getD b.O bG) e b.O b.i) (λb=>Ut G E) λb l x A B C=>?_;obtain⟨J,rfl⟩:=Int.eq_ofNat_of_zero_le s;obtain⟨F,D⟩:=sH k;have I:=a.tb.b8 c (Yh k);have:=agD a.hV a.hN F Zu Zg a.hf a.hz b.O p B x A C;rw[D]at this;exact this
def agS(b:Cx z y w q f h i v j d e t r Kn)(s:0<=g)(u:f.h[g.toNat]?=some c)(I:5<c.w/\c.w<=8){k:Int}{p:Bool}(G:c.w=6↔p=true)(F:c.n=k)(H:k<=4294967295){n}:wF h m i f j o d e n g ((fm (v.map gN) o d e).text k p):=by
 refine Hw b s u Zm (D':=λa=>xV c (v.getD a.O bG) e a.O a.i) (λa=>Uy G F) λa l x A B C=>?_;obtain⟨J,rfl⟩:=Int.eq_ofNat_of_zero_le s;obtain⟨E,D⟩:=sH u;have:=agG b.hV b.hN E Zu Zu b.hf b.hz a.O n B x A C;rw[D]at this;exact this
def CZ(b:Cx z y w q f h i v j d e t r Kn)(s:0<=g)(p:f.h[g.toNat]?=some c)(G:8<c.w/\c.w≠14){n:Nat}(E:∀a,u a=qs v d a.O (D' a))
  (C:∀a k l,a.O<d->a.O<v.length->a.i.length<=e->cI k.1 c.aH h->cI k.2 c.aC h->gK h m (eb i f j o d e) ⟨a.i,0,0⟩ l->Calls prog 175 #[Zp m,.agg (ew c k).toArray,Y a.O,Y n] l (kX h m (eb i f j o d e) l (D' a))):wF h m i f j o d e n g u:=by
 refine Hw b s p G.2 E λa l x A B D=>?_;obtain⟨M,rfl⟩:=Int.eq_ofNat_of_zero_le s;obtain⟨H,F⟩:=sH p;refine agH b.hV b.hN H Zu b.hf b.hz a.O n B x A D λk I N J=>?_;obtain⟨K,L⟩:=b.hV.dr M c k p I;rw[F];exact C a k N x A B K L J
end
end
section
variable {z : Nat -> Prop} {P y : Nat} {t : Zb} {q : ah} {s x A : Zw} {u : PV} {K : Nat} {v : List dj} {w : Zv} {d m h : Nat} {f : fB} {o : Nl} {Kn : Zb -> Prop}
def Wq{a:Nat}(d:a<=4){b:Int}(c:-9223372036854775808<=b/\b<=9223372036854775807):gb ⟨a,0,0,[],[],0,[],0⟩ b=(dy a).br b:=by
 have:a=0\/a=1\/a=2\/a=3\/a=4:=Zm;rw[Bool.eq_iff_iff];rcases this with rfl|rfl|rfl|rfl|rfl<;>simp[gb,dy,dJ.br]<;>omega
def Lk{a}(c:lG (.enum t P a))(b:Int):gb (ri a) b=(hn a).br b:=by
 obtain⟨d,e⟩:=c;rw[Bool.eq_iff_iff];simp only[gb,hn,dJ.br,d,if_false,Bool.and_eq_true,decide_eq_true_eq]
 grind
def IV{f g:Int}:∀{d e:List Int},oX d e f=some g->∃c:Nat,d[c]?=some f/\e[c]?=some g
 |a::d,h::e,b=>by
  unfold oX at b;split at b
  .rename_i k;cases b
   exact⟨0,Zg,Zq⟩
  .obtain⟨c,i,j⟩:=IV b;exact⟨c+1,Zu,Zu⟩
def IW{e:Int}:∀{c d:List Int},c.length=d.length->oX c d e=none->e ∉ c
 |[],_,_,_=>by simp
 |a::c,f::d,h,b=>by
  unfold oX at b;split at b
  .cases b
  .rename_i g;have:=IW Zu b;grind
def Gi{b d a}(c:dA b d a):(a = -1↔kH d=true)/\a≠-2:=by
 cases d with
 |void=>have:a = -1:=c;subst this;simp[kH]
 |plain e=>have g:a=e:=c.1;simp[kH];omega
 |_=>have f:=c.1;simp[kH];omega
def ML{c:List (List Int×aU)}{b:Int}{a:List Int×aU}(e:a∈c)(d:b∈a.1):(b,a.2)∈dd c:=List.mem_flatMap.2 ⟨a,e,YE.2 ⟨b,d,rfl⟩⟩
def RR{b c}{j:List Int}{f of:Int}(B:((dd c).map (·.1)).Nodup)(F:j.length=(dd c).length)(H:∀(h:Nat) (r:Int) (p:Int×aU),j[h]?=some r->(dd c)[h]?=some p->dA b p.2.H r)
  (k:match jp c with|none=>f = -2|some d=>dA b d.H f) (C:∀a∈c,a.1=[]->jp c=some a.2) (i:Int):match iy c i with
   |none=>(fs ⟨13,0,of,(dd c).map (·.1),j,f,[],0⟩ i).2=false
   |some v=>(fs ⟨13,0,of,(dd c).map (·.1),j,f,[],0⟩ i).2=true/\dA b v (fs ⟨13,0,of,(dd c).map (·.1),j,f,[],0⟩ i).1/\∃a∈c,a.2.H=v:=by
 unfold fs;simp only;cases s:oX ((dd c).map (·.1)) j i with
 |some r=>
  obtain⟨h,e,D⟩:=IV s;rw[List.getElem?_map]at e;cases n:(dd c)[h]? with
  |none=>simp_all
  |some p=>
   rw[n]at e;simp only[Option.map_some,Yu]at e;obtain⟨a,g,z⟩:=List.mem_flatMap.1 (Yh n);obtain⟨q,G,rfl⟩:=YE.1 z;simp only at e;subst e;have m:∃l,c.reverse.find? (λa=>a.1.contains q)=some l:=by
    cases t:c.reverse.find? (λa=>a.1.contains q)<;>grind
   obtain⟨l,m⟩:=m;have x:l∈c:=Zg;have y:q∈l.1:=Zg;obtain⟨u,o⟩:=List.getElem?_of_mem (ML x y);have w:u=h:=by
    have I:=(YB.1 o).1;have J:=(YB.1 n).1;refine xm B u h Zu Zu ?_;simp_all
   subst w;rw[n]at o;simp only[Yu,Prod.mk.injEq,true_and]at o;unfold iy;grind
 |none=>
  have A:=IW Zg s;have m:c.reverse.find? (λa=>a.1.contains i)=none:=by
   rw[List.find?_eq_none];intro a g E;exact A (YE.2 ⟨_,ML (by simpa using g) Zu,rfl⟩)
  unfold iy;rw[m];simp only;cases t:c.reverse.find? (λa=>a.1.isEmpty)with
  |none=>
   have:jp c=none:=by
    unfold jp;rw[List.find?_eq_none.2 (λa g=>List.find?_eq_none.1 t a Zu)];rfl
   simp_all
  |some a=>
   have g:a∈c:=Zg;have e:a.1=[]:=Zg;rw[C a g e]at k;have k:dA b a.2.H f:=k;exact⟨by have:=(Gi k).2;simp_all,k,a,g,rfl⟩
theorem IP(b a:Int):gV b true a=true↔a=b:=by simp[gV]
end
def Gh{b d a}(c:dA b d a):-1<=a:=by
 cases d with
 |void=>have:a = -1:=c;omega
 |plain e=>have:a=e:=c.1;omega
 |_=>have:=c.1;omega
abbrev nP(a:Int):Prop:=-9223372036854775808<=a/\a<=9223372036854775807
structure yz{l:Type}(b:List bt)(c:Wk l)(g:Nat->Int->eU l->Prop):Prop where
 num:∀{dp:Nat} {i:Int} {r:bt} {n:dJ},0<=i->b[i.toNat]?=some r->0<=r.w/\r.w<=5->n.bB=decide (r.w=2\/r.w=3)->(n.bB=false->(n.c4<0↔r.w=0\/r.w=5))->(∀k,nP k->gb r k=n.br k)->g dp i (c.num n)
 i4:∀{dp:Nat} {i:Int} {r:bt} {n:Int} {fx:Bool},0<=i->b[i.toNat]?=some r->5<r.w/\r.w<=8->(r.w=6↔fx=true)->r.n=n->0<=n/\n<=4294967295->g dp i (c.text n fx)
 arr:∀{dp:Nat} {i j n:Int} {fx:Bool} {D:eU l},0<=i->b[i.toNat]?=some (cY (if fx then 9 else 10) n j)->0<=n/\n<=4294967295->g dp j D->g dp i λe=>aA (c.bH n fx e) λp=>hE D p.1 p.2
 opt:∀{dp:Nat} {i j:Int} {D:eU l},0<=i->b[i.toNat]?=some (cY 11 0 j)->g dp j D->g dp i λe=>aA (c.cg (dy 4) jK e) λp=>if p.1=1 then D p.2 else .ok p.2
 str:∀{dp:Nat} {i:Int} {parts:List Int} {D:Nat->eU l},0<=i->b[i.toNat]?=some ⟨12,0,0,[],parts,0,[],0⟩->parts.length<=1000->(∀j,j<parts.length->g dp (parts.getD j 0) (D j))->g dp i λe=>aA (c.bH parts.length true e) λp=>ii D 0 parts.length p.2
 j0:∀{dp:Nat} {i:Int} {r:bt} {io:Nat} {n:dJ} {va:Int->Option Nat} {D:Int->eU l},0<=i->b[i.toNat]?=some r->r.w=13->r.of=io->io<b.length->r.aC.length=r.aH.length->n.bB=false->(n.c4<0↔(b.getD io bz).w=0\/(b.getD io bz).w=5)->(∀k,(fs r k).2=true->-1<=(fs r k).1)->(∀k,va k=if gb (b.getD io bz) k=true/\(fs r k).2=true then some (if(fs r k).1<0 then 0 else 1)else none)->(∀k,gb (b.getD io bz) k=true->(fs r k).2=true->if(fs r k).1<0 then D k=(λe=>.ok e)else g dp (fs r k).1 (D k))->g dp i λe=>aA (c.cg n va e) λp=>D p.1 p.2
 hK:∀{dp:Nat} {i:Int} {r:bt} {D:eU l},0<=i->b[i.toNat]?=some r->r.w=14->dp<=64->(dp<64->g (dp+1) r.of D)->g dp i λe=>aA (c.cW dp e) D
section
variable {l : Type} {b : List bt} {c : Wk l} {g : Nat -> Int -> eU l -> Prop} {f : fB} {o : Nl} {Kn : Zb -> Prop}
def abk(k:yz b c g)(I:Tb b o f Kn){z p}(B:∀(j:Zb) (r:bt) (a:Int),0<=a->Kn j->b[a.toNat]?=some r->r.w=14->r.a4=j->g p a (fo c f z p j)):∀(i:Ty),kc i->i≠.void->(∀n∈gq i,Kn n.1)->∀a,dA b i a->g p a (dY c (fo c f z p) i):=by
 intro i;induction i with
 |void=>intro _ D;exact absurd rfl D
 |plain h=>
  rintro - - - a ⟨rfl,s⟩;have E:h=0\/h=1\/h=2\/h=3\/h=4:=Zm;refine k.num (r:=⟨h,0,0,[],[],0,[],0⟩) Zm (by simpa using I.cU h s) Zx ?_ ?_ λJ G=>Wq s G<;>rcases E with rfl|rfl|rfl|rfl|rfl<;>simp[dy]
 |named j C=>
  rintro - - m a ⟨d,r,e,s,F,-⟩;exact B j r a d (m (j,C) (by simp[gq])) e s F
 |opaq A q=>
  rintro l - - a ⟨d,e⟩;exact k.i4 d e (by cases q<;>simp[fQ]) (by cases q<;>simp[fQ]) rfl l
 |str A q=>
  rintro⟨rfl,t⟩ - - a ⟨d,e⟩;exact k.i4 d e (by simp[fQ]) (by simp[fQ]) rfl t
 |arr H A q x=>
  rintro⟨t,v,l⟩-m a ⟨d,y,e,u⟩;exact k.arr d e t (x l v (λn w=>m n w) y u)
 |opt H x=>
  rintro⟨v,l⟩-m a ⟨d,y,e,u⟩;exact k.opt d e (x l v (λn w=>m n w) y u)
def FW(B:yz b c g)(H:Tb b o f Kn){v dp}(a7:∀(y:Zb) (a0:bt) (s:Int),0<=s->Kn y->b[s.toNat]?=some a0->a0.w=14->a0.a4=y->g dp s (fo c f v dp y))(x:aD)(j:lG x)(R:∀p∈jo x,Kn p.1)(s:Int)(k:kb b o x s):g dp s (iA c f (fo c f v dp) x):=by
 have K:=abk B H a7;cases x with
 |const h u m=>exact j.elim
 |prog h u m d1=>exact j.elim
 |typedef h=>exact K h.H j.2 j.1 R s k.1
 |enum h u e=>exact B.num k.1 k.2 (by simp[ri]) rfl (λ_=>by simp[hn,ri]) λI _=>Lk (t:=h) (P:=u) j I
 |struct h u e=>
  obtain⟨O,S,k,F,r⟩:=k;have:=B.str (dp:=dp) (D:=λi=>dY c (fo c f v dp) ((e.map (·.H)).getD i .void)) O k (by have:=j.1;omega) λi a3=>by
   have E:i<e.length:=Zm;rw[show S.getD i 0=S[i] by simp[a3],show (e.map (·.H)).getD i .void=e[i].H by simp[E]];have a6:=j.2 e[i] (Yy E);exact K e[i].H a6.2 a6.1 (λp r=>R p (List.mem_flatMap.2 ⟨_,Yy E,r⟩)) _ (r i _ _ (Yd a3) (Yd E))
  rw[F]at this;rw[show iA c f (fo c f v dp) (.struct h u e)=λm=>aA (c.bH e.length true m) λp=>ii (λi=>dY c (fo c f v dp) ((e.map (·.H)).getD i .void)) 0 e.length p.2 from funext λm=>by
   show aA (c.bH e.length true m) _=_;congr 1;funext p;exact(LV _ _ (e.map (·.H)) e.length 0 _ Zq).symm]
  exact this
 |union h u G A=>
  obtain⟨O,of,S,c6,k,b8,F,r,b4,c3⟩:=k;have J:=RR (of:=of) j.1 F r b4 c3;obtain⟨w,b6,b5,b9,c0,c2⟩:∃w:Nat,of=w/\w<b.length/\(∀d,gb (b.getD w bz) d=(kN f G.H).br d)/\((kN f G.H).c4<0↔(b.getD w bz).w=0\/(b.getD w bz).w=5)/\(kN f G.H).bB=false:=by
   rcases b8 with⟨d,L,a4,rfl⟩|⟨y,c4,d2,c5,e,L,c9,a1,b3⟩
   .have b7:d<=4:=Zm;obtain⟨N,C⟩:=sH (H.cU d b7);refine⟨d,rfl,N,λI=>?_,?_⟩<;>rw[C,L]
    .rw[Bool.eq_iff_iff];rcases a4 with rfl|rfl|rfl<;>simp[kN,gb,dy,dJ.br]<;>omega
    .rcases a4 with rfl|rfl|rfl<;>simp[kN,dy]
   .obtain⟨N,C⟩:=sH b3;have M:kN f G.H=hn e:=by
     rw[L];show (match f y with|some (.enum _ _ e)=>hn e|_=>yc)=_;rw[H.hu _ _ _ _ a1]
    exact⟨of.toNat,Zm,N,λI=>by rw[C,M];exact Lk (H.enum _ _ _ _ a1) I,by rw[C,M];simp[hn,ri],by rw[M];rfl⟩
  subst b6;refine B.j0 (D:=λd m=>match iy A d with|some z=>dY c (fo c f v dp) z m|none=>.error ⟨0,0⟩) O k rfl rfl b5 (by simp[F]) c2 c0 (λd b1=>?_) (λd=>?_) λd c8 b2=>?_
  .have a:=J d;generalize fs _ d=q at *
   cases n:iy A d with
   |none=>
    rw[n]at a;have a:q.2=false:=a;rw[b1]at a;cases a
   |some z=>
    rw[n]at a;exact Gh a.2.1
  .have a:=J d;unfold tK;rw[<-b9];generalize fs _ d=q at *
   generalize gb _ d=c7 at *
   cases n:iy A d with
   |none=>
    rw[n]at a;have a:q.2=false:=a;simp[a]
   |some z=>
    rw[n]at a;obtain⟨a8,l,-⟩:=a;have a9:=Gi l;have b0:q.1<0↔kH z=true:=by
     rw[<-a9.1];have:=Gh l;omega
    simp only[a8,b0,and_true,Option.map_some]
  .have a:=J d;generalize fs _ d=q at *
   cases n:iy A d with
   |none=>
    rw[n]at a;have a:q.2=false:=a;rw[b2]at a;cases a
   |some z=>
    rw[n]at a;obtain⟨-,l,h,a2,rfl⟩:=a;split
    .rename_i a5;have:kH h.2.H=true:=(Gi l).1.1 (by have:=Gh l;omega);funext m;cases d0:h.2.H<;>simp_all[kH,dY]
    .rename_i a5;exact K h.2.H (j.2 h a2) (λc1=>a5 (by rw[c1]at l;have:q.1 = -1:=l;omega)) (λp r=>R p (List.mem_flatMap.2 ⟨h,a2,r⟩)) _ l
def MP(k:yz b c g)(q:Tb b o f Kn):∀(e dp:Nat),e+dp=64->∀(d:Zb) (a:bt) (h:Int),0<=h->Kn d->b[h.toNat]?=some a->a.w=14->a.a4=d->g dp h (fo c f e dp d):=by
 intro e;induction e with
 |zero=>
  intro dp w d a h m p j i n;exact k.hK m j i Zm λy=>by omega
 |succ e x=>
  intro dp w d a h m p j i n;obtain⟨l,s,u,t,v⟩:=q.hK d 0 h a p j i n;have:=k.hK (dp:=dp) (D:=λr=>match f d with|some l=>iA c f (fo c f e (dp+1)) l r|none=>.error ⟨0,0⟩) m j i Zm λ_=>by
   rw[s];exact FW k q (x (dp+1) Zm) l v t a.of u
  exact this
end
section
variable {z : Nat -> Prop} {P y : Nat} {t : Zb} {q : ah} {x : Zw} {u : PV} {K : Nat} {v : List dj} {w : Zv} {d m h : Nat} {f : fB} {o : Nl} {Kn : Zb -> Prop}
def vok(b:Cx z P y t q x u v w m h f o Kn)(c5:d<=64):yz q.h (fm (v.map gN) d m h) (wF x K u q w d m h) where
 num:=by
  intro r M N p j i G B _ b5;exact agR b j i G B λe a2=>b5 e.n (b.kv e a2)
 i4:=by
  intro r M N p l j i G a2 b7 a1;exact agS b j i G a2 b7 a1.2
 arr:=by
  intro r M C p l k j i a1 g;refine CZ b j i (by cases l<;>simp[cY]) (D':=λa=>vH (cY (if l then 9 else 10) p C) (v.getD a.O bG) h a.O a.i λ_=>k) (λa=>?_) λa a4 s A n E H I F=>?_
  .show aA ((fm (v.map gN) d m h).bH p l ⟨a.O,a.i⟩) _=_;rw[KE];unfold qs vH;congr 1;have D:sM (cY (if l then 9 else 10) p C) (v.getD a.O bG)↔((v.getD a.O bG).w=3/\gV p l (v.getD a.O bG).am=true):=by
    cases l<;>simp[sM,cY,gV]
   simp only[D];rw[show ii (λ_=>k) 0 (v.getD a.O bG).am.toNat=hE _ _ from funext λa=>BA _ _ _ a];cases l<;>rfl
  .refine Pz b.hN H I b.hf b.hz a1 (by simp[cY]) E A n F (by cases l<;>simp[cY]) λ_ c3 L J _ O R B=>?_;have b2:xq (cY (if l then 9 else 10) p C) c3=C:=by cases l<;>simp[xq,cY]
   rw[b2];exact g L J O R B
 opt:=by
  intro r M C k j i g;refine CZ b j i (by simp[cY]) (D':=λa=>ry (sS (v.getD a.O bG)) (v.getD a.O bG).am (v.getD a.O bG) h a.O a.i k) (λa=>?_) λa a4 s A n E H I F=>?_
  .show aA ((fm (v.map gN) d m h).cg (dy 4) jK ⟨a.O,a.i⟩) _=_;rw[KD];unfold qs ry;congr 1;have D:((v.getD a.O bG).w=4/\mZ jK (gN (v.getD a.O bG))=true)↔sS (v.getD a.O bG):=by
    generalize v.getD a.O bG=e;unfold mZ jK sS;simp only;by_cases a9:e.n=0
    .simp[a9];omega
    .by_cases b0:e.n=1
     .simp[b0];omega
     .simp[a9,b0];omega
   simp only[D];split
   .rename_i c;rw[c.2.2.2]
   .rfl
  .exact ag0 b.hN H I b.hf b.hz E A n F rfl g
 str:=by
  intro r M a0 k j i a8 g;refine CZ b j i Zq (D':=λa=>vH ⟨12,0,0,[],a0,0,[],0⟩ (v.getD a.O bG) h a.O a.i k) (λa=>?_) λa a4 s A n E H I F=>?_
  .show aA ((fm (v.map gN) d m h).bH a0.length true ⟨a.O,a.i⟩) _=_;rw[KE];unfold qs vH;congr 1;have D:sM ⟨12,0,0,[],a0,0,[],0⟩ (v.getD a.O bG)↔((v.getD a.O bG).w=3/\gV a0.length true (v.getD a.O bG).am=true):=by
    rw[IP];simp[sM]
   simp only[D];split
   .rename_i c;have c0:=(IP ..).1 c.2;rw[c0,Int.toNat_natCast];rfl
   .rfl
  .refine Pz b.hN H I b.hf b.hz Zq (by simp only;omega) E A n F Zq λc C L J c7 O R B=>?_;have b6:C<a0.length:=by
    have:=c.2.2.2 rfl;simp only at this;omega
   exact g C b6 L J O R B
 j0:=by
  intro r M N a3 p b1 k j i G b8 a7 b9 _ _ S c1 g;refine CZ b j i Zm (D':=λa=>ry (oA (gb (q.h.getD a3 bz) (v.getD a.O bG).n) (fs N (v.getD a.O bG).n) (v.getD a.O bG)) (v.getD a.O bG).n (v.getD a.O bG) h a.O a.i (k (v.getD a.O bG).n)) (λa=>?_) λa a4 s A n E H I F=>?_
  .show aA ((fm (v.map gN) d m h).cg p b1 ⟨a.O,a.i⟩) _=_;rw[KD];unfold qs ry;congr 1;generalize v.getD a.O bG=e at *
   have S:=S e.n;have g:=g e.n;have D:(e.w=4/\mZ b1 (gN e)=true)↔oA (gb (q.h.getD a3 bz) e.n) (fs N e.n) e:=by
    unfold mZ oA;simp only;rw[c1 e.n];generalize gb _ e.n=b3 at *
    generalize fs N e.n=a5 at *
    cases b3
    .simp
    cases n:a5.2
    .simp
    have:=S n;by_cases b4:a5.1<0<;>simp[b4]<;>omega
   simp only[D];split
   .rename_i c;congr 1;funext L;split
    .rfl
    .have:=g c.2.1 c.2.2.1;rw[Y9 (by have:=c.2.2.2;omega)]at this;rw[this]
   .rfl
  .have c9:=b.tb.b8 _ (Yh i);refine ag1 b.hV b.hN H I b.hf b.hz b9 Zm b8 a7 (by have:=b.tb.b8 (q.h.getD a3 bz) (by simp[a7]);omega) E A n F G λc c8 L J O R B=>?_;have g:=g _ c.2.1 c.2.2.1;have S:=S _ c.2.2.1;rw[Y2 (by have:=c.2.2.2;omega)]at g;exact g L J O R B
 hK:=by
  intro r M N k j i G c6 g a s A n B;obtain⟨p,rfl⟩:=Int.eq_ofNat_of_zero_le j;obtain⟨a8,a6⟩:=sH i;have:=agF b.hV a8 (by rw[a6];exact G) b.hf a.O r Zm B (D:=k a) (λc4 J c2=>by rw[a6];exact g Zm a J A n c2);show Calls _ _ _ _ (kX _ _ _ _ (aA (if d<=r then .error ⟨13,a.O⟩else .ok a) k))
  by_cases c:d<=r
  .rw[Y9 c]at this ⊢;exact this
  .rw[Y2 c]at this ⊢;exact this
end
section
variable {l : Nat -> Prop} {k h : Nat} {n : Zb} {a : ah} {b o e : Zw} {f : PV} {K : Nat} {v : List dj} {g : Zv} {d i j : Nat} {c : fB} {m : Nl} {Kn : Zb -> Prop}
abbrev kI(a b c:Int):Prop:=0<=a/\a<=64/\0<=b/\b<=10000/\0<=c/\c<=100000
abbrev nA(a b c:Int):Zv:=.agg #[Y a,Y b,Y c]
def LZ(a c d:Int)(b:Zw):Calls prog 62 #[nA a c d] b λe f=>e=.returned (.bool (decide (kI a c d)))/\ap [] b f:=by
 go_in;go_wp2;all_goals
  go_ret;refine⟨pq ?_,(ar [] b).A _⟩;rw[Bool.eq_iff_iff];simp[kI];try omega
def ez(a:ah)(b:Zb):Int:=if bW a b<0\/(a.F.getD (bW a b).toNat iM).a1≠1 then -1 else (a.F.getD (bW a b).toNat iM).n
def Pb(i:bw l k n h a f b)(A:h<=1000000000)(d:Zb):Calls prog 61 #[gp f a,Zs d] b λg D=>g=.returned (Y (ez a d))/\ap [] b D:=by
 obtain⟨G,I,p⟩:=aV i.F;have e:=U (λC=>sE (i.az ((ar [] b).A C)) A d);unfold gp;rw[p]at e ⊢;have s:=U i;clear i;by_cases t:bW a d<0
 .have c:af (ez a d = -1):=Y9 (Y8 t);go_in;go_wp21;refine(e.i _).mono ?_;rintro g x ⟨rfl,rfl⟩;go_wp2;go_ret;exact⟨by rw[c.i];rfl,(ar [] b).A _⟩
 .have o:=vA (by omega:0<=bW a d);obtain⟨J,H,m,E,y,z,F,M,N,-⟩:=un s.i o;rw[p]at m;simp only[Value.slice.injEq,true_and]at m;obtain⟨rfl,rfl⟩:=m;have u:ez a d=if(a.F.getD (bW a d).toNat iM).a1≠1 then -1 else (a.F.getD (bW a d).toNat iM).n:=by
   unfold ez;omega
  have r:=U u;obtain⟨q,v⟩:=Int.eq_ofNat_of_zero_le (by omega:0<=bW a d);rw[v]at e r y z o;simp only[Int.toNat_natCast]at r y z o;generalize a.F.getD q iM=j at *
  have K:¬(q:Int)<0:=Zm;have L:(q:Int)<a.F.length:=Zm;clear v t p u E F s;by_cases w:j.a1=1
  .have B:(j.a1 != 1)=false:=Zg;have c:af (ez a d=j.n):=Zu;clear w;go_in;go_wp21;refine(e.i _).mono ?_;rintro g x ⟨rfl,rfl⟩;go_wp2;go_ret;exact⟨by rw[c.i];rfl,(ar [] b).A _⟩
  .have B:(j.a1 != 1)=true:=Zg;have c:af (ez a d = -1):=Zu;clear w;go_in;go_wp21;refine(e.i _).mono ?_;rintro g x ⟨rfl,rfl⟩;go_wp2;go_ret;exact⟨by rw[c.i];rfl,(ar [] b).A _⟩
def vw:Except Mar.ac (Zb)->Zv
 |.ok b=>.tuple #[.string ⟨b.toArray⟩,.int .i64 0,.int .i64 0]
 |.error a=>.tuple #[.string ⟨#[]⟩,.int .i64 a.no,.int .i64 a.y]
def tu(b:Except Mar.ac (Zb)):Prop:=∀a,b=.error a->(a.no:Int)≠0
def Qw(o:Zw)(K:Nat)(d:Wp)(b:Zw)(f:Except Mar.ac (Zb))(e:Zw):Prop:=match f with
 |.ok a=>hL o K d b ⟨a,0,0⟩ e
 |.error c=>∃a,hL o K d b ⟨a,c.no,c.y⟩ e/\(c.no:Int)≠0
def Uz(x:Cx l k h n a b f v g i j c m Kn){a5 M r}(R:wF b (b.heap.size+2) f a g d i j M a5 r):Calls prog 63 #[gp f a,Y a5,g,nA d i j,Y M] b λN z=>ap [] b z/\N=.returned (vw (aA (r ⟨0,[]⟩) λo=>if o.O<v.length then .error ⟨12,o.O⟩else .ok o.i))/\tu (aA (r ⟨0,[]⟩) λo=>if o.O<v.length then .error ⟨12,o.O⟩else .ok o.i):=by
 obtain⟨b8,c3,a4⟩:=aV x.hV.h;obtain⟨b6,c1,a2⟩:=aV x.hV.F;obtain⟨b7,c2,a3⟩:=aV x.hV.ao;obtain⟨c6,c7,a1⟩:=aV x.hN;have I:=U R;generalize p:(aA (r ⟨0,[]⟩) λo=>if o.O<v.length then Except.error ⟨12,o.O⟩else Except.ok o.i)=y
 have J:=U p;clear p;unfold gp nA;rw[a4,a2,a3,a1];go_in;go_wp21;generalize H:World.alloc (World.alloc (World.alloc b _) _) _=e;have D:af (hL b (b.heap.size+2) (eb f a g d i j) e ⟨[],0,0⟩ e):=by
  refine U (oQ ⟨?_,Zm,?_⟩)
  .subst H;exact(((ar [] b).A _).A _).A _
  .subst H;simp only[eb,Da,a4,a2,a3,a1];exact bl Zq
 have a0:ap [] b e:=D.i.y.fr;have b5:=U a0;clear H a0;have L:=U (I.i ⟨0,[]⟩ e Zq Zq D.i.y);refine L.i.mono ?_;rintro N c8 ⟨t,rfl,P⟩;have A:=U P;generalize r ⟨0,[]⟩=b1 at *
 clear P L I R D;go_upto_if 27 with fail;go_cut [] (λwc=>af (Qw b (b.heap.size+2) (eb f a g d i j) e y wc));case first=>
  have p:=J.i;cases b1 with
  |error u=>
   obtain⟨E,s,w⟩:=A.i;have p:Except.error u=y:=p;subst p;by_cases G:t<v.length
   .go_wp21;refine kP (U s) (qC 12 t) λb2 B _=>?_;go_wp2;go_meet;refine U ⟨E,?_,w⟩;have:=B.i;simp_all[rl]
   .go_wp2;go_meet;exact U ⟨E,s,w⟩
  |ok o=>
   obtain⟨F,s,-,-⟩:=A.i;have p:(if o.O<v.length then Except.error ⟨12,o.O⟩else Except.ok o.i)=y:=p
   subst p;by_cases G:o.O<v.length
   .have a9:t<v.length:=Zm;have a6:=U F;clear F;go_wp21;refine kP (U s) (qC 12 t) λb2 B _=>?_;go_wp2;go_meet;rw[Y9 G];refine U ⟨o.i,?_,Zq⟩;have:=B.i;unfold rl at this;rw[Y9 rfl,a6.i]at this;omega
   .have a9:¬t<v.length:=Zm;clear F;go_wp2;go_meet;rw[Y2 G];exact U s
 case rest=>
 rename Zw=>b3;clear A J;cases y with
 |ok a7=>
  have q:hL b (b.heap.size+2) (eb f a g d i j) e ⟨a7,0,0⟩ b3:=hcut.i;obtain⟨-,-,-,-,-,-,-,-,c0,a8,-,-,b0⟩:=q.y.K;have C:=U q.y.fr;clear hcut q;go_wp2;go_ret3;exact⟨C.i,rfl,λ_ O=>by cases O⟩
 |error u=>
  obtain⟨E,q,w⟩:=hcut.i;obtain⟨-,-,-,-,-,-,-,-,-,a8,b9,-,b0⟩:=q.y.K;have c5:((u.no:Int) != 0)=true:=Zu;have C:=U q.y.fr;have b4:=U w;clear hcut q w;go_wp2;refine bJ (λz=>z.cell? ⟨b.heap.size+1+1,10,none⟩=some (Y u.no)/\z.cell? ⟨b.heap.size+1+1,11,none⟩=some (Y u.y)) ?_ λc4=>?_
  .go_keep
  refine bc [0,1,2,3,4,5,6,7,8,9] ?_;iterate 10 (refine bh ?_)
  refine be ?_;refine bL λK S=>?_;go_simp;refine S.out _ _ ?_;clear S K;refine nz ?_;go_wp2;go_ret3;exact⟨C.i.ag,rfl,λ_ O=>by simp_all⟩
def Cx.ae(d:Cx l k h n a b f v g i j c m Kn)(o:ap [] b e):Cx l k h n a e f v g i j c m Kn:=⟨d.hV.az o,cf d.hN o Zq,d.hf,d.hz,d.kv,d.tb⟩
def Qt(w:bw l k n h a f b)(a6:h<=1000000000)(O:b.ownsRow 0 52 5 g v.length (v.flatMap cX))(a5:∀c1∈v,-9223372036854775808<=c1.n/\c1.n<=9223372036854775807)(G:Tb a.h m c Kn)(p:Zb)(b4:0<=ez a p->∃r,c p=some r/\kb a.h m r (ez a p)/\(∀e3∈jo r,Kn e3.1)/\lG r)(i j o:Int):Calls prog 35 #[gp f a,Zs p,g,nA i j o] b λt a0=>ap [] b a0/\t=.returned (if ez a p<0 then .tuple #[.string ⟨#[]⟩,Y 10,Y (-1)]else if ¬kI i j o then .tuple #[.string ⟨#[]⟩,Y 11,Y (-1)]else vw (jr c p (v.map gN) i.toNat j.toNat o.toNat))/\(0<=ez a p->kI i j o->tu (jr c p (v.map gN) i.toNat j.toNat o.toNat)):=by
 have D:=U (λ(e:Zw) (R:ap [] b e)=>Pb (w.az R) a6 p);have a2:=U (λ(e:Zw)=>LZ i j o e);have z:af (0<=ez a p->kI i j o->i≠0->∀e,ap [] b e->Calls prog 63 #[gp f a,Y (ez a p),g,nA i j o,Y 1] e λt a0=>ap [] e a0/\t=.returned (vw (jr c p (v.map gN) i.toNat j.toNat o.toNat))/\tu (jr c p (v.map gN) i.toNat j.toNat o.toNat)):=by
  intro u s q e R;obtain⟨r,d7,d9,d8,e0⟩:=b4 u;have a4:=(⟨w,O,Zm,Zm,a5,G⟩:Cx l k h n a b f v g j.toNat o.toNat c m Kn).ae R;have a3:=vok (K:=e.heap.size+2) (d:=i.toNat) a4 Zm;have c9:=FW a3 G (dp:=1) (MP a3 G 63 1 rfl) r e0 d8 _ d9;have:=Uz a4 c9;have A:(aA (iA (fm (v.map gN) i.toNat j.toNat o.toNat) c (fo (fm (v.map gN) i.toNat j.toNat o.toNat) c 63 1) r ⟨0,[]⟩) λA=>if A.O<v.length then Except.error ⟨12,A.O⟩else Except.ok A.i)=jr c p (v.map gN) i.toNat j.toNat o.toNat:=by
   unfold jr;show _=aA (aA (if i.toNat<=0 then .error ⟨13,0⟩else .ok (⟨0,[]⟩:cv)) (λd6=>match c p with|some r=>iA _ c _ r d6|none=>.error ⟨0,0⟩)) _
   rw[Y2 Zm,d7];simp only[YU];rfl
  rw[A,show ((i.toNat:Nat):Int)=i by omega,show ((j.toNat:Nat):Int)=j by omega,show ((o.toNat:Nat):Int)=o by omega]at this;exact this
 have a1:af (i=0->vw (jr c p (v.map gN) i.toNat j.toNat o.toNat)=.tuple #[.string ⟨#[]⟩,Y 13,Y 0]):=by
  intro q;subst q;rfl
 obtain⟨d2,d5,b2⟩:=aV w.h;obtain⟨d0,d3,a9⟩:=aV w.F;obtain⟨d1,d4,b0⟩:=aV w.ao;obtain⟨e7,e8,a8⟩:=aV O;unfold gp at D z ⊢;rw[b2,a9,b0]at D z ⊢;rw[a8]at z ⊢;have c2:af (i=0->tu (jr c p (v.map gN) i.toNat j.toNat o.toNat)):=by
  intro q;subst q;intro e5 E;cases E
  simp
 have c5:∃L M N,vw (jr c p (v.map gN) i.toNat j.toNat o.toNat)=.tuple #[.string L,Y M,Y N]:=by
  cases jr c p (v.map gN) i.toNat j.toNat o.toNat<;>exact⟨_,_,_,rfl⟩
 generalize vw (jr c p (v.map gN) i.toNat j.toNat o.toNat)=e9 at *
 generalize tu (jr c p (v.map gN) i.toNat j.toNat o.toNat)=f0 at *
 obtain⟨L,M,N,rfl⟩:=c5;generalize ez a p=b9 at *
 clear w a6 O a5 G b4 b2 a9 b0 a8;generalize b1:(if b9<0 then _ else _:Zv)=b8
 have H:=U b1;clear b1;go_in;go_wp21;generalize F:World.alloc (World.alloc b _) _=e;have I:af (e.heap[b.heap.size]?=some (ma (.slice d2 a.h.length d5) (.slice d0 a.F.length d3) (.slice d1 a.ao.length d4) (Zs a.i))):=by
  subst F;exact(((ar [] _).A _).al _ Zq Zq).trans (bl rfl)
 have x:af (e.heap[b.heap.size+1]?=some (.cells #[Y i,Y j,Y o] 73)):=by
  subst F;exact bl Zq
 have J:af (ap [] b e):=by subst F;exact((ar [] b).A _).A _
 clear F;refine(D.i e J.i).mono ?_;rintro t e4 ⟨rfl,S⟩;have a7:=(S.al _ (ay x.i) Zq).trans x.i;have b6:=aE a7;go_wp21;refine(a2.i e4).mono ?_;rintro t c0 ⟨rfl,b5⟩;have C:=U (S.u b5);have P:=(C.i.al _ (ay x.i) Zq).trans x.i;have b3:=(C.i.al _ (ay I.i) Zq).trans I.i;clear b6 a7 S b5 D a2;have b6:c0.cell? ⟨b.heap.size+1,0,none⟩=some (Y i):=aB P rfl;have e6:=aE P;have f1:=aE b3;have y:=U (J.i.u C.i);clear P b3 I x J C;by_cases u:b9<0
 .go_wp2;go_ret3;exact⟨y.i,by rw[<-H.i,Y9 u];rfl,λE=>absurd u Zm⟩
 by_cases s:kI i j o
 .have B:af (b8=.tuple #[.string L,Y M,Y N]):=by show _=_;rw[<-H.i,Y2 u,Y2 (not_not_intro s)]
  rw[decide_eq_true s];by_cases q:i=0
  .have e1:(i==0)=true:=by simp[q]
   have c3:=U (a1.i q);have c4:=U (c2.i q);clear q;go_wp2;go_ret3;exact⟨y.i,by rw[B.i,c3.i];rfl,λ_ _=>c4.i⟩
  .have e1:(i==0)=false:=by simp[q]
   have c8:=U (z.i Zm s q c0 y.i);clear z a1 q s;go_wp21;refine c8.i.mono ?_;rintro t f2 ⟨e2,rfl,b7⟩;have c7:=U b7;clear b7;have c6:=U (y.i.u e2);go_wp2;go_ret3;exact⟨c6.i,by rw[B.i];rfl,λ_ _=>c7.i⟩
 .rw[decide_eq_false s];have B:af (b8=.tuple #[.string ⟨#[]⟩,Y 11,Y (-1)]):=by show _=_;rw[<-H.i,Y2 u,Y9 s]
  go_wp2;go_ret3;exact⟨y.i,by rw[B.i];rfl,λ_ E=>absurd E s⟩
end
section
variable {a : ah}
theorem La{b:Nat}{c}(d:a.h[b]?=some c):(dH a).h[b]?=some (ha a c):=by
 show (a.h.map (ha a))[b]?=_;simp_all
def sI{c:Nat}{b}(d:a.h[c]?=some b)(e:b.w≠14):(dH a).h[c]?=some b:=by
 simp_all[La,ha]
theorem dA.cw:∀{g:Ty} {d:Int},dA a.h g d->dA (dH a).h g d:=by
 intro g;induction g with
 |plain e=>intro d b;exact b
 |named p l=>rintro d ⟨c,o,b,e,m,n⟩;exact⟨c,_,La b,by simp_all[ha]⟩
 |opaq j f=>rintro d ⟨c,b⟩;exact⟨c,sI b (by cases f<;>simp[fQ])⟩
 |str j f=>rintro d ⟨c,b⟩;exact⟨c,sI b (by simp[fQ])⟩
 |arr k j f h=>rintro d ⟨c,i,b,e⟩;exact⟨c,i,sI b (by cases f<;>simp[cY]),h e⟩
 |opt k h=>rintro d ⟨c,i,b,e⟩;exact⟨c,i,sI b (by simp[cY]),h e⟩
 |void=>intro d b;exact b
theorem lJ.cw{c d of}(b:lJ a.h c d of):lJ (dH a).h c d of:=by
 rcases b with b|⟨l,e,m,f,k,g,h,i,j⟩
 .exact Y8 b
 .exact Ya ⟨l,e,m,f,k,g,h,i,sI j Zq⟩
theorem kb.cw{p e o}(d:kb a.h p e o):kb (dH a).h p e o:=by
 cases e with
 |const b c f=>exact d
 |prog b c f e=>exact d
 |typedef e=>exact⟨d.1.cw,d.2⟩
 |enum b c f=>exact⟨d.1,sI d.2 Zq⟩
 |struct b c f=>
  obtain⟨g,n,h,i,j⟩:=d;exact⟨g,n,sI h Zq,i,λk m l b c=>(j k m l b c).cw⟩
 |union b c f t=>
  obtain⟨g,of,n,q,h,i,j,r,u,s⟩:=d;refine⟨g,of,n,q,sI h Zq,i.cw,j,λk m l b c=>(r k m l b c).cw,?_,s⟩;grind [dA.cw]
end
section
variable {c : Zb} {a : List aD} {d : cq} {b : St} {σ : ah}
def Wh.h2(g:Wh c a d b σ){i e j}(f:vb c b d σ i e j):e∈a:=by
 obtain⟨k,h,-⟩:=f.y;have:e∈d.nl.filterMap lA:=List.mem_filterMap.2 ⟨_,Yh h,by simp[lA,f.H]⟩;rw[g.nl]at this;simp_all
def Wh.hg(i:Wh c a d b σ)(j:mY a){g f k}(e:vb c b d σ g f k):dG a g=some f:=by
 obtain⟨l,m,h⟩:=List.append_of_mem (i.h2 e);rw[<-e.gI];exact j.hg h e.H
def No(a:bt):(ha σ a).w=a.w/\(ha σ a).a4=a.a4/\(ha σ a).aH=a.aH/\(ha σ a).aC=a.aC:=by
 unfold ha;grind
def Wh.tb(e:Wh c a d b σ)(E:mh b a)(y:mY a)(z:∀k∈a,eh k=true->lG k):Tb (dH σ).h d.nl (dG a) λl=>fp b l=true:=by
 have B:b.F=d.nl:=by rw[e.q.nl,e.pd];simp
 have key:∀l,fp b l=true->∃o,dG a l=some o/\kb (dH σ).h d.nl o (gm σ l).n/\(∀v∈jo o,fp b v.1=true)/\lG o:=λl p=>by
  obtain⟨k,s,f⟩:=e.f2 p;have A:=e.h2 f;refine⟨k,e.hg y f,by rw[f.a4];exact f.g2.cw,λv F=>E v (List.mem_flatMap.2 ⟨k,A,F⟩),z k A f.H⟩
 have D:∀(g c:Zb) (h:Nat) j,aP d.nl g=some (some (.enum c h j))->dG a g=some (.enum c h j)/\lG (.enum c h j):=λg c h j i=>by
  have p:fp b g=true:=by unfold fp;rw[B,i];rfl
  obtain⟨k,s,f⟩:=e.f2 p;have m:=f.kz;rw[B,i]at m;cases m
  exact⟨e.hg y f,z _ (e.h2 f) f.H⟩
 refine⟨λG m=>?_,λs u=>?_,λg H C s J u m p=>?_,λg c h j i=>(D g c h j i).1,λg c h j i=>(D g c h j i).2⟩
 .obtain⟨K,i⟩:=e.q.cU;refine sI ?_ Zg;rw[i];match G,m with
  |0,_=>rfl
  |1,_=>rfl
  |2,_=>rfl
  |3,_=>rfl
  |4,_=>rfl
 .obtain⟨n,t,rfl⟩:=YE.1 u;obtain⟨-,-,w,x⟩:=No (σ:=σ) n;rw[w,x];exact e.rn.b8 n t
 .have r:(σ.h.map (ha σ))[C.toNat]?=some s:=u;rw[List.getElem?_map]at r;cases t:σ.h[C.toNat]? with
  |none=>simp_all
  |some n=>
   rw[t]at r;simp only[Option.map_some,Yu]at r;subst r;obtain⟨w,x,-,-⟩:=No (σ:=σ) n;have I:n.w=14:=Zm;simp_all[ha]
def Pa(a:Zb):ez (dH σ) a=if bW σ a<0\/(gm σ a).a1≠1 then -1 else (gm σ a).n:=rfl
def Wh.lO(g:Wh c a d b σ)(o:mh b a)(m:mY a)(n:∀e∈a,eh e=true->lG e){f}(l:0<=ez (dH σ) f):∃i,dG a f=some i/\kb (dH σ).h d.nl i (ez (dH σ) f)/\(∀j∈jo i,fp b j.1=true)/\lG i:=by
 rw[Pa]at l ⊢;by_cases p:bW σ f<0\/(gm σ f).a1≠1
 .omega
 rw[Y2 p];rcases CT g.q g.pd f with⟨r,-⟩|⟨-,t⟩
 .obtain⟨e,u,h⟩:=g.f2 r;have k:=g.h2 h;exact⟨e,g.hg m h,by rw[h.a4];exact h.g2.cw,λj s=>o j (List.mem_flatMap.2 ⟨e,k,s⟩),n e k h.H⟩
 omega
def Wh.kT(e:Wh c a d b σ)(l:mY a)(f:Zb):ez (dH σ) f<0↔bS (ff a).2 f=none:=by
 obtain⟨w,-,o⟩:=Ho l;have o:=o f;have p:bS (ff a).2 f=none↔dG a f=none:=by
  grind
 have t:b.F=d.nl:=by rw[e.q.nl,e.pd];simp
 rw[p,Pa];rcases CT e.q e.pd f with⟨g,-,-,-,-,-,-,-,-,-,i⟩|⟨g,i⟩
 .obtain⟨h,B,k⟩:=e.f2 g;rw[Y2 i,e.hg l k,k.a4];have:=k.aa.1;simp_all
 .rw[Y9 i];refine⟨λ_=>?_,λ_=>by decide⟩;cases q:dG a f with
  |none=>rfl
  |some h=>
   obtain⟨u,v,x,y,z⟩:=EG q;have s:h∈d.nl.filterMap lA:=by
    rw[e.nl];simp_all
   obtain⟨j,m,A⟩:=List.mem_filterMap.1 s;have n:j.2=some h:=by
    grind [lA]
   have r:j.1=f:=(e.gI j m h n u).symm.trans v;have:=Bz e.q.nm.nd m r;unfold fp at g;rw[t,this,n]at g;have g:eh h=false:=g;simp_all
end
section
variable {b : Zb} {a : List aD} {d : cq} {c : St} {e : ah}
theorem OZ{b:Zb×Option aD}{a}(c:lA b=some a):b.2=some a/\eh a=true:=by
 grind [lA]
def OW:∀(c:Nl),(∀d∈c,∀a,d.2=some a->eh a=true->(cd a).1=d.1)->(c.map (·.1)).Nodup->((c.filterMap lA).map λa=>(cd a).1).Nodup
 |[],_,_=>by simp
 |d::k,i,b=>by
  rw[List.map_cons,List.nodup_cons]at b;have j:=OW k (λf e=>i f (Y5 _ e)) b.2;rw[List.filterMap_cons];split
  .omega
  .rename_i a m;rw[List.map_cons,List.nodup_cons];refine⟨λh=>b.1 ?_,j⟩;obtain⟨l,g,o⟩:=YE.1 h;obtain⟨f,e,n⟩:=List.mem_filterMap.1 g;grind [OZ]
theorem Wh.nd(i:Wh b a d c e):∀j f g,a=j++f::g->eh f=true->∀h∈g,eh h=true->(cd h).1≠(cd f).1:=by
 intro j f g k l h m n o;have:=OW d.nl i.gI i.q.nm.nd;rw[i.nl,k,List.filter_append,List.filter_cons_of_pos l,List.map_append,List.map_cons]at this;grind
def Wh.mW(h:Wh b a d c e){f:Zb}(k:fp c f=true):(dG a f).isSome:=by
 obtain⟨i,l,g⟩:=h.f2 k;cases j:dG a f with
 |some _=>rfl
 |none=>exact absurd g.gI (KK j i (h.h2 g) g.H)
def uY(a:List aD):Prop:=∀c b f e i l d g,a=c++aD.union b f e i::l->e.H=.named d g->∃j h m k,c=j++aD.enum d h m::k
def Wh.l0(h:Wh b a d c e)(t:mh c a)(r:yi a)(u:uY a):mY a where
 nd:=h.nd
 h3:=λj n x w f m k=>h.mW (t m (List.mem_flatMap.2 ⟨j,n,by
  cases j with
  |typedef j=>simp only[sA,Yc]at f;subst f;exact k
  |struct g i v=>obtain⟨p,o,rfl⟩:=YE.1 f;exact List.mem_flatMap.2 ⟨p,o,k⟩
  |union g i s q=>obtain⟨p,o,rfl⟩:=YE.1 f;exact List.mem_flatMap.2 ⟨p,o,k⟩
  |const g i l=>cases f
  |enum g i l=>cases f
  |prog g i l j=>cases f⟩))
 hu:=u;lp:=λb g s q k=>(r _ k).1;e6:=λj n w f=>by
  have h:=r j n;cases j with
  |typedef j=>simp only[sA,Yc]at f;subst f;exact lF.e6 h
  |struct g i v=>obtain⟨m,k,rfl⟩:=YE.1 f;exact lF.e6 (h m k)
  |union g i s q=>
   obtain⟨m,k,rfl⟩:=YE.1 f;rcases h.2 m k with h|h
   .exact lF.e6 h
   .rw[h];trivial
  |const g i l=>cases f
  |enum g i l=>cases f
  |prog g i l j=>cases f
end
section
variable {a : Za}
def yB(i:PM aD):Prop:=∀d a m,i d=.ok (a,m)->∀k e c g b f,a=.union k e c g->c.H=.named b f->∃l h j,aP d.F b=some (some (.enum l h j))
def Ag{h:Type}{d}{e:h->PM aD}(m:ee d)(l:∀b,yB (e b)):yB (aN d e):=by
 intro s u z a q b p j g i k n;cases c:d s with
 |error v=>rw[dv c]at a;cases a
 |ok o=>
  obtain⟨r,A⟩:=o;rw[bK c]at a;obtain⟨y,t,x,f⟩:=l r _ _ _ a q b p j g i k n;rcases(m _ _ _ c).kn.2 g _ f with f|⟨_,_,_,w⟩;all_goals simp_all
theorem ahD{f}(g:eJ (λc=>∀e a d b,c≠.union e a d b) f):yB f:=λj c k i e a d b _ _ h _=>absurd h (g j c k i e a d b)
def adQ{k s:St}{m:Ty×(Int->Bool)}(c:qu a k=.ok (m,s)){b d}(p:m.1=.named b d):∃h e g,aP k.F b=some (some (.enum h e g)):=by
 unfold qu at c;cases i:next a k with
 |error t=>rw[dv i]at c;cases c
 |ok q=>
  obtain⟨j,n⟩:=q;rw[bK i]at c;have f:∃h e g,aP n.F b=some (some (.enum h e g)):=by
   by_cases l:((j.w:Int)==1)=true
   .rw[GH l]at c;cases v:nh j n<;>grind [nh,dv,bK,ret]
   .have o:eJ (λr:Ty×(Int->Bool)=>∀b d,r.1≠.named b d) (lx a j):=by
     unfold lx;rw[Y2 l];refine dT (dU Zq) (dT (ba λ_=>dU Zq) (dT (dU Zq) (kQ _ _)))
    exact absurd p (o _ _ _ c b d)
  obtain⟨h,e,g,f⟩:=f;rcases(ro a _ _ _ i).kn.2 b _ f with f|⟨_,_,_,u⟩;all_goals simp_all
theorem ahE(i:Nat):yB (iQ a i):=by
 unfold iQ;refine Ag (zm i) λ_=>Ag (ui a) λn=>?_;unfold qz;refine Ag (eY _ _) λ_=>Ag (eY _ _) λ_=>?_;intro p h u b g d c e t q k l;cases f:qu a p with
 |error r=>rw[dv f]at b;cases b
 |ok o=>
  obtain⟨j,v⟩:=o;rw[bK f]at b;have m:eJ (λh=>∀g d c e,h=.union g d c e->c.H=j.1) (qA a n j):=by
   unfold qA;refine ba λs=>?_;unfold rM;grind [ba,tf,pB,dU]
  exact adQ f ((m _ _ _ b g d c e k).symm.trans l)
theorem ahA(m:Zb×Nat):∀(c:Nat) (e:List (Zb×Nat×Int)) (d:List (Int×Int)),eJ (λb=>∀i f h g,b≠.union i f h g) (ki a m c e d):=by
 intro c;induction c with
 |zero=>intro e d;exact kQ _ _
 |succ c l=>
  intro e d o b t j;cases k:kK a e.length d o with
  |error p=>simp_all[vL]
  |ok n=>
   obtain⟨r,q,u⟩:=n;rw[vM k]at j;refine ba (Q:=λb=>∀i f h g,b≠.union i f h g) (λs=>dT (l _ _) ?_) _ _ _ j;grind [pW,ba,dU]
theorem Ks{b:Mar.aT}(h:b.text≠Jh):eJ (λe=>∀g c f d,e≠.union g c f d) (fI a b):=by
 unfold fI;refine dT ?_ (dT ?_ (dT ?_ (dT ?_ ?_)))
 .grind [lg,ba,dU]
 .grind [lC,ba,dU]
 .grind [kF,ba,ahA]
 .grind [mc,ba,dU]
 .rw[Y2 Zu];refine dT ?_ (kQ _ _);grind [lu,ba,sT,dU]
theorem Kt{b:Mar.aT}(c:b.text=Jh):fI a b=iQ a b.y:=by
 unfold fI;grind
def ahC:yB (fJ a):=by
 unfold fJ;refine Ag (ro a) λb=>?_;by_cases c:b.text=Jh;all_goals grind [Kt,ahE,ahD,Ks]
def yp(e:St):Prop:=∀b a,aP e.F b=some (some a)->(∀d c v,a≠.const d c v)->(cd a).1=b
def yp.kn{d e:St}(f:yp d)(i:Kn d.F e.F):yp e:=λc a h g=>by
 rcases i.2 c a h with b|⟨k,j,v,b⟩
 .exact f c a b g
 simp_all
theorem uY.cP{j g}{h:aD}(u:uY g)(w:oP j g)(x:yp j)(v:∀e c b d a f,h=.union e c b d->b.H=.named a f->∃i l p,aP j.F a=some (some (.enum i l p))):uY (g++[h]):=by
 intro k e c b d q a f r o;rcases List.eq_nil_or_concat q with rfl|⟨m,z,rfl⟩
 .obtain⟨t,C⟩:=List.append_inj' r rfl;subst t;obtain⟨i,l,p,n⟩:=v e c b d a f Zu o;have F:i=a:=x a _ n Zq;rcases w.nm a _ n with y|⟨_,_,_,E⟩
  .obtain⟨A,B,D⟩:=List.append_of_mem y;grind
  simp_all
 .have s:g++[h]=(k++aD.union e c b d::m)++[z]:=Zu;exact u k e c b d m a f (List.append_inj' s rfl).1 o
def afX:∀(i:Nat) (f:List aD) (e:St) (j:List aD) (r:St),oP e f->yp e->uY f->ey a i f e=.ok (j,r)->uY j:=by
 intro i;induction i with
 |zero=>simp_all[ey,hU]
 |succ i z=>
  intro f e j r v w y c;cases h:hp a e with
  |error t=>simp_all[OQ]
  |ok k=>
   obtain⟨q,A⟩:=k;have o:=zo a _ _ _ h;by_cases g:((q.w:Int)==0)=true
   .rw[OP h g]at c;simp_all
   .have g:((q.w:Int)==0)=false:=Zu;cases d:fJ a A with
    |error t=>rw[OO h g d]at c;cases c
    |ok k=>
     obtain⟨C,B⟩:=k;rw[OR h g d]at c;have l:=v.le o;have m:=w.kn o.kn;refine z _ _ _ _ (l.cP d) ?_ (y.cP l m (ahC _ _ _ d)) c;have x:=m.kn (Hc a _ _ _ d).2;intro p s b u;dsimp only at b;rw[By]at b;cases n:aP B.F p with
     |none=>simp_all
     |some D=>
      rw[n]at b;simp only[Option.map_some,Yu]at b;split at b
      .simp_all
      .subst b;exact x p s n u
def OT{c}(b:eR a=.ok c):uY c:=by
 unfold eR at b;split at b
 .cases b
 split at b
 .cases b
 .rename_i e p f;have d:e=c:=by
   grind
  subst d;exact afX 69 [] fR _ _ OY (by intro g m b;simp[fR,aP]at b) (by intro k o h n j l g i d;simp at d) f
end
section
variable {a : Za}
def tG(a:Ty):Prop:=a≠.void/\kc a
def hx.z{a}(b:hx a):tG a:=by cases a<;>simp[hx,tG,kc]at *<;>exact b
def PO(b:Int->Bool):eJ (λd:Int×Nat=>b d.1=true) (jT a b):=by
 unfold jT;refine ba λf=>ba λc=>?_;by_cases e:b c=true;all_goals simp_all[dU,kQ]
def PJ:eJ (λb:Int×Bool=>b.2=false/\0<=b.1/\b.1<=4294967295) (rq a):=by
 unfold rq;refine ba λ_=>ba λd=>dT (dU ⟨rfl,Ze,Ze⟩) (mJ (PO _) λb c=>ba λ_=>dU ⟨rfl,?_⟩);simpa[dS]using c
def PI:eJ (λb:Int×Bool=>0<=b.1/\b.1<=4294967295) (pP a):=by
 unfold pP;refine ba λh=>dT (mJ (PO _) λb g=>ba λ_=>dU ?_) (λe c f d=>(PJ e c f d).2);grind [dS]
def HJ{τ:Type}(i:fg τ):hB (λd=>tG d.H) (ig a i):=by
 unfold ig;refine eS λf=>?_;unfold qZ;refine mg (eS λc=>mK (rT PI) λh b=>jU ⟨Zq,b⟩) (eS λf=>?_);unfold ra;refine mg (eS λc=>mK (rT PJ) λh b=>jU ⟨Zq,b⟩) (mK (rT (HK a)) λj e=>?_);unfold vo;refine eS λf=>?_;unfold tV;refine mg (eS λc=>jU ⟨Zq,e.z⟩) (eS λc=>?_);unfold tW;refine eS λf=>?_;unfold vp;have g:hB (τ:=τ) (λd=>tG d.H) (pc a c j):=by
  unfold pc;exact mK (rT PI) λh b=>jU ⟨Zq,b,e.z⟩
 refine mg g (eS λk=>?_);unfold vt;exact mg g (jU e.z)
def PG{k:Type}(c:fg k):hB (λb=>kc b.H) (lb a c):=by
 unfold lb;refine mK (R:=λb=>kc b.H) (eS λl=>?_) λb f=>eS λ_=>jU f;unfold sq;refine mg (jU trivial) ?_;intro g i d h j e;exact(HJ c g i d h j e).2
def tm(b:it):Prop:=∀a∈b,kc a.2.H
def tm.d9{c}(f:tm c){e:List Int}{b:aU}(g:kc b.H):tm (c++[(e,b)]):=by
 intro d a;rcases Yn.1 a with a|a
 .exact f d a
 simp_all
def ahj{c}(b:tm c):hB tm (oY a c):=by
 unfold oY;exact eS λf=>mg (eS λ_=>mK (Dd (PG _)) λe d=>jU (b.d9 d)) (jU b)
def ahl(f:Int->Bool):∀(b:Nat) {rs:it},tm rs->hB tm (jJ a f b rs):=by
 intro b;induction b with
 |zero=>intro rs _;exact rT (kQ _ _)
 |succ b e=>
  intro rs c;unfold jJ;exact eS λg=>mK (Dd (PG _)) λh d=>eS λi=>mg (e (c.d9 d)) (ahj (c.d9 d))
def yh:aD->Prop
 |.typedef c=>tG c.H
 |.enum _ _ a=>a≠[]
 |.struct _ _ a=>∀d∈a,tG d.H
 |.union _ _ _ b=>tm b
 |_=>True
theorem ahr(h:Zb×Nat):∀(b:Nat) (d:List (Zb×Nat×Int)) (c:List (Int×Int)),eJ yh (ki a h b d c):=by
 intro b;induction b with
 |zero=>intro d c;exact kQ _ _
 |succ b g=>
  intro d c j k p e;cases f:kK a d.length c j with
  |error l=>simp_all[vL]
  |ok i=>
   obtain⟨n,m,q⟩:=i;rw[vM f]at e;refine ba (Q:=yh) (λo=>dT (g _ _) ?_) _ _ _ e;unfold pW;exact ba λ_=>ba λ_=>dU (by simp[yh])
def ahp:eJ yh (fJ a):=by
 unfold fJ;refine ba λv=>?_;unfold fI;refine dT ?_ (dT ?_ (dT ?_ (dT ?_ (dT ?_ (dT ?_ (kQ _ _))))))
 .unfold lg;exact ba λ_=>ba λf=>ba λ_=>ba λ_=>ba λ_=>dU trivial
 .unfold lC;exact ba λ_=>mJ (PH (HJ _)) λj d=>ba λ_=>dU d
 .grind [kF,ba,ahr]
 .unfold mc;refine ba λ_=>ba λf=>mJ (PK (I:=λe:List aU×Zc=>∀c∈e.1,tG c.H) (Lw _ _ ?_) Zq) λe k=>ba λ_=>dU k;rintro⟨o,m⟩ n i t w r h;cases d:ig a (cK 0 0) m n with
  |error p=>simp_all[CH]
  |ok g=>
   obtain⟨j,u,x⟩:=g;rw[CI d]at h;refine Bo (I:=λe:List aU×Zc=>∀c∈e.1,tG c.H) (zd _) (λ_=>Ff ()) _ _ _ _ _ ?_ h;intro c b;rcases Yn.1 b with b|b
   .simp_all
   .simp only[Yc]at b;subst b;exact HJ _ _ _ _ _ _ d
 .unfold iQ;refine ba λ_=>ba λf=>?_;unfold qz;refine ba λ_=>ba λ_=>ba λg=>?_;unfold qA;refine ba λc=>?_;unfold rM;refine ba λ_=>ba λ_=>mJ (PL (ahl g.2 13 (rs:=[]) (by intro i q;grind)) _) λs l=>?_;unfold tf pB;exact ba λ_=>ba λ_=>dU l
 .unfold lu;refine ba λ_=>ba λf=>?_;unfold sT;exact ba λ_=>ba λ_=>dU trivial
end
section
variable {a b τ:Type}
section
variable {text : Za}
def Hx(e:τ->Prop)(f:a->τ->Prop)(g:PX τ a):Prop:=∀c h b d i,e c->g c h=.ok (b,d,i)->f b d
def pZ{h:Type}{f R S e}{g:a->PX τ h}(j:Hx f R e)(i:∀b,Hx (R b) S (g b)):Hx f S (aQ e g):=by
 intro m n o q s k c;cases d:e m n with
 |error p=>rw[eW d]at c;cases c
 |ok l=>obtain⟨b,r,t⟩:=l;rw[dX d]at c;exact i b _ _ _ _ _ (j _ _ _ _ _ k d) c
def xe{b}(c:PM a):Hx b (λ_=>b) (lift (τ:=τ) c):=λg i d h j f e=>zd c g i d h j f e
theorem Bn{c:τ->Prop}{d:a->τ->Prop}{e}(g:∀b,c b->d e b):Hx c d (eG e):=by
 intro b k f j l h i;grind [eG]
def EZ{b:τ->Prop}{c:a->τ->Prop}{f:Bool}{d e:PX τ a}(g:Hx b c d)(h:Hx b c e):Hx b c (if f then d else e):=Zg
def Ln{d:b->Prop}(e:PX τ a):Hx (λc:τ×b=>d c.2) (λ_ c=>d c.2) (km e):=by
 rintro⟨i,o⟩ j k p r n g;cases f:e i j with
 |error m=>simp_all[xr]
 |ok h=>obtain⟨l,q,s⟩:=h;rw[xt f]at g;grind
def WB{P:b->Prop}{R:a->b->Prop}{c:PX b a}(h:Hx P R c):Hx (λd:τ×b=>P d.2) (λe d=>R e d.2) (og c):=by
 rintro⟨o,k⟩ l e p r i g;cases f:c k l with
 |error n=>simp_all[BX]
 |ok j=>obtain⟨m,q,s⟩:=j;rw[BY f]at g;cases g;exact h _ _ _ _ _ i f
def qP(a:List Int)(b:List (Int×Int)):Prop:=b.map (·.1)=a/\a.Nodup
def WA(b:List Int)(g:Int->Bool):Hx (qP b) (λf=>qP (b++[f])) (il text g):=by
 unfold il;refine pZ (xe _) λh=>pZ (R:=λ_=>qP (b++[h.1])) ?_ λ_=>Bn λp a=>a;intro n t i o u e a;unfold pu nX at a;split at a
 .rename_i q c;cases a
  dsimp only at c;split at c
  .grind
  .rename_i k;cases c
   obtain⟨rfl,d⟩:=e;refine⟨Zq,YJ.2 ⟨d,Zq,λr l s m j=>?_⟩⟩;simp_all
 grind
def Wz(c:List Int)(j:Int->Bool):∀(d:Nat) (b:List Int),Hx (qP (c++b)) (λe=>qP (c++e)) (kf text j d b):=by
 intro d;induction d with
 |zero=>intro b f m g k n _ a;simp only[kf]at a;cases a
 |succ d s=>
  intro b f m g k n o a;cases i:cu text Jg m with
  |error r=>simp_all[Ef]
  |ok l=>
   obtain⟨l,q⟩:=l;by_cases h:12<=f.length
   .rw[Eg i h]at a;cases a
   .rw[Eh i h]at a;unfold AQ at a;refine pZ (S:=λe p=>qP (c++e) p) (WA (c++b) j) (λt=>pZ (xe _) λ_=>pZ (xe _) λu=>EZ ?_ ?_) f q g k n o a;all_goals grind [Bn]
def Wy(f:Int->Bool):∀(c:Nat) (a:it),Hx (λd:fG=>qP ((dd a).map (·.1)) d.2) (λh d=>qP ((dd h).map (·.1)) d.2) (jJ text f c a):=by
 intro c;induction c with
 |zero=>intro a g o j n p _ b;simp only[jJ]at b;cases b
 |succ c m=>
  intro a;unfold jJ;refine pZ (WB (P:=qP ((dd a).map (·.1))) (R:=λe=>qP ((dd a).map (·.1)++e)) ?_) λe=>pZ (Ln _) λk=>pZ (xe _) λi=>EZ ?_ ?_
  .have:=Wz (text:=text) ((dd a).map (·.1)) f 13 [];rw[YH]at this;exact this
  .grind [BW]
  .unfold oY;refine pZ (xe _) λi=>EZ (pZ (xe _) λ_=>pZ (Ln _) λl=>Bn λg b=>?_) (Bn λg b=>?_);all_goals grind [BW]
theorem ahx(h:Nat):eJ (λg=>∀l a k b,g=.union l a k b->((dd b).map (·.1)).Nodup) (iQ text h):=by
 unfold iQ;refine ba λ_=>ba λq=>?_;unfold qz;refine ba λ_=>ba λ_=>ba λe=>?_;unfold qA;refine ba λi=>?_;unfold rM;refine ba λ_=>ba λ_=>mJ (R:=λf:it×fG=>((dd f.1).map (·.1)).Nodup) ?_ λf p=>?_
 .intro m a s d;cases c:jJ text e.2 13 [] (i.2,[]) m with
  |error o=>simp_all[rE]
  |ok j=>
   obtain⟨n,r,t⟩:=j;rw[Cw c]at d;cases d
   exact(Wy e.2 13 [] _ _ _ _ _ ⟨rfl,List.nodup_nil⟩ c).2
 grind [tf,pB,ba,dU]
end
end
section
variable {e : Za}
def yg(b:aD):Prop:=yh b/\∀c d e a,b=.union c d e a->((dd a).map (·.1)).Nodup
def aho:eJ yg (fJ e):=by
 intro b a g f;refine⟨ahp b a g f,?_⟩;have:eJ (λa=>∀c h i d,a=.union c h i d->((dd d).map (·.1)).Nodup) (fJ e):=by
  unfold fJ;refine ba λl=>?_;by_cases k:l.text=Jh
  .grind [Kt,ahx]
  .intro b a g f c h i d j;exact absurd j (Ks k b a g f c h i d)
 exact this b a g f
def ahw:∀(c:Nat) {a:List aD},(∀b∈a,yg b)->eJ (λa=>∀b∈a,yg b) (ey e c a):=by
 intro c;induction c with
 |zero=>intro a _;exact kQ _ _
 |succ c f=>
  intro a d;unfold ey;refine ba λh=>dT (dU d) (mJ aho λb g=>ba λ_=>f ?_);grind
def OU{a}(c:eR e=.ok a):∀d∈a,yg d:=by
 unfold eR at c;split at c
 .cases c
 split at c
 .cases c
 .rename_i f b h;have g:f=a:=by
   grind
  subst g;exact ahw 69 Zq _ _ _ h
variable {c : Zb} {a : List aD} {d : cq} {f : St} {b : ah}
def Wh.row(k:Wh c a d f b){e:aD}(x:e∈a)(o:eh e=true):∃g,kb b.h d.nl e g:=by
 have s:e∈d.nl.filterMap lA:=by
  rw[k.nl];simp_all
 obtain⟨w,t,u⟩:=List.mem_filterMap.1 s;obtain⟨p,-⟩:=OZ u;obtain⟨g,l⟩:=List.getElem?_of_mem t;have m:=xd l;rw[<-k.q.nm.am]at m;have v:b.F[g]?=some b.F[g]:=Yd m;have r:=(k.q.nm.f9 g w _ l v).2;rw[p]at r;refine⟨b.F[g].n,?_⟩;cases e with
 |const h i j=>cases o
 |prog h i j e=>cases o
 |typedef e=>simp_all
 |enum h i j=>simp_all
 |struct h i j=>simp_all
 |union h i j e=>simp_all
def Wh.k8(k:Wh c a d f b)(t:∀e∈a,yg e):∀e∈a,eh e=true->lG e:=by
 intro e m l;obtain⟨x,n⟩:=k.row m l;obtain⟨i,u⟩:=t e m;cases e with
 |const g h j=>cases l
 |prog g h j e=>cases l
 |typedef e=>exact i
 |enum g h v=>
  refine⟨i,λo s=>?_⟩;have:=(k.q.dM _ _ n.2).2.2.2 rfl o.2.2 (YE.2 ⟨o,s,rfl⟩);simpa[dS]using this
 |struct g h v=>
  obtain⟨-,y,r,w,-⟩:=n;have:=(k.rn.b8 _ (Yh r)).2;exact⟨Zu,i⟩
 |union g h j p=>exact⟨u g h j p rfl,i⟩
end
section
variable {s:bb}
section
def Cg(s:bb):Prop:=∀a∈s.L,mq a
def pY{h d:Type}{I:d->Prop}{f:d->h->d}:∀(c:List h) {b:d},I b->(∀b a,a∈c->I b->I (f b a))->I (c.foldl f b)
 |[],_,e,_=>e
 |a::c,b,e,g=>pY c (g b a Zq e) λb j i=>g b j (Y5 _ i)
theorem Cg.aW(b:Cg s){x}(d:mq x):Cg (bg x s):=by
 intro c a;rcases Yn.1 a with a|a
 .exact b c a
 simp_all
theorem Cg.aq(c:Cg s)(i:Nat){b}(e:mq b):Cg (dD i b s):=by
 intro d a;rcases List.mem_or_eq_of_mem_set a with a|rfl
 .exact c d a
 omega
def Cg.call(b:Cg s)(c:Zb):Cg (ke c s):=by
 intro d a;rcases Yn.1 a with a|a
 .exact b d a
 .rw[Yc.1 a];trivial
def Cg.eZ:∀(d:Ty) {s:bb},Cg s->kc d->Cg (dZ d s):=by
 intro d;induction d with
 |named c h=>intro s a _;exact a.call c
 |plain i=>intro s a _;exact a.aW trivial
 |opaq c f=>intro s a b;exact a.aW b
 |str c f=>intro s a b;exact a.aW b.2
 |arr g c f e=>intro s a b;exact((e (a.aW (x:=.hole) trivial) b.2.2).aW (x:=.again) trivial).aq _ b.1
 |opt g e=>intro s a b;exact(e (a.aW (x:=.hole) trivial) b.2).aq _ (by simp[mq])
 |void=>intro s a _;exact a
def Cg.union(h:Cg s)(m:aU){d:List (List Int×aU)}(i:∀c∈d,kc c.2.H):Cg (rN m d s):=by
 unfold rN;have a:=pY (I:=λe:lM=>Cg e.s/\(e.c5.map (·.1)).Nodup) (f:=ck) d (b:=⟨bg .hole s,[],none,[]⟩) ⟨h.aW (x:=.hole) trivial,List.nodup_nil⟩ λe c k a=>⟨(a.1.eZ _ (i c k)).aW (x:=.jump 0) trivial,pY (I:=λg:List (Int×Nat×Nat)=>(g.map (·.1)).Nodup) c.1 a.2 λg o _ j=>uj j _ _⟩;exact pY (I:=Cg) _ (a.1.aq _ a.2) λs n _ l=>l.aq _ trivial
def Cg.def(b:Cg s){c:aD}(f:eh c=true->lG c):Cg (hP c s):=by
 have e:∀{s:bb} (h:Zb) (a:Nat),Cg s->Cg (lf h a s):=λh a b=>b.aW (x:=.ret) trivial;cases c with
 |const a d i=>exact b
 |prog a d i c=>exact b
 |typedef c=>exact e _ _ (b.eZ _ (f rfl).2)
 |enum a d g=>exact e _ _ (Cg.aW (s:={ s with cZ:=cM s.cZ a (hn g) }) b trivial)
 |struct a d g=>exact e _ _ (pY (I:=Cg) g (b.aW (by have:=(f rfl).1;simp only[mq];omega)) λs l j k=>k.eZ _ ((f rfl).2 l j).2)
 |union a d m n=>exact e _ _ (b.union m (f rfl).2)
def Il:aD->Prop
 |.prog _ _ b _=>∀v∈b,∀a∈v.ao,kc a.c0/\kc a.cw
 |_=>True
def Pe{c:List aD}(n:∀b∈c,eh b=true->lG b)(m:∀b∈c,Il b):∀x∈(ff c).1,mq x:=by
 have j:Cg (c.foldl (λs b=>hP b s) sY):=pY (I:=Cg) c (by intro x q;cases q) λs b d f=>f.def (n b d);have k:Cg (GL c).1:=pY (I:=λa:bb×List (Zb×Nat)=>Cg a.1) c j λa b _ e=>by
  unfold eH;split
  .exact(e.call _).aW trivial
  omega
 have l:Cg (Ch c).1:=pY (I:=λa:bb×List (Int×jj)=>Cg a.1) c k λa b d e=>by
  unfold hD;split
  .rename_i r u;have i:=m _ d;exact pY (I:=λa:bb×jj=>Cg a.1) r e λw v g o=>pY (I:=λa:bb×List (Int×Nat×Nat)=>Cg a.1) v.ao o λy a h p=>(((p.eZ _ (i v g a h).1).aW (x:=.fin) trivial).eZ _ (i v g a h).2).aW (x:=.fin) trivial
  omega
 exact pY (I:=Cg) _ l λs t _ f=>f.aq _ trivial
end
end
section
variable {c d b:Type}{σ:St}
section
variable {a : Za}
def PN:eJ (λd=>kc d/\ji d) (rF a):=by
 unfold rF;exact ba λf=>dT (dU ⟨trivial,trivial⟩) (λσ c e b=>by
  have b:=HK a σ c e b;exact⟨b.z.2,by cases c<;>simp[hx,ji]at *⟩)
def Dz(a:gJ):Prop:=(kc a.c0/\ji a.c0)/\kc a.cw/\ji a.cw
def DJ(v:gh):Prop:=v.ao.length<=8/\∀a∈v.ao,Dz a
def qM:aD->Prop
 |.prog _ _ a _=>a≠[]/\a.length<=4/\∀v∈a,DJ v
 |_=>True
def qM.x:∀{a:aD},qM a->Il a
 |.prog ..,b=>λv d e c=>⟨((b.2.2 v d).2 e c).1.1,((b.2.2 v d).2 e c).2.1⟩
 |.const ..,_=>trivial
 |.typedef _,_=>trivial
 |.enum ..,_=>trivial
 |.struct ..,_=>trivial
 |.union ..,_=>trivial
def qM.dM:∀{c:aD},qM c->wB c
 |.prog ..,a=>⟨a.1,a.2.1,λv b=>⟨(a.2.2 v b).1,λe d=>⟨((a.2.2 v b).2 e d).2.2,((a.2.2 v b).2 e d).1.2⟩⟩⟩
 |.const ..,_=>trivial
 |.typedef _,_=>trivial
 |.enum ..,_=>trivial
 |.struct ..,_=>trivial
 |.union ..,_=>trivial
def ahs:hB Dz (om a):=by
 unfold om;exact mK (rT PN) λg c=>eS λf=>eS λ_=>mK (rT PN) λd b=>eS λ_=>eS λe=>jU ⟨b,c⟩
def aeB{Q:c->Prop}{d:List c}{b}(e:∀a∈d,Q a)(f:Q b):∀a∈d++[b],Q a:=by
 grind
def Bu{d}{e f:b}{g:St}{a:c}(h:lift d e σ=.ok (a,f,g)):d σ=.ok (a,g)/\f=e:=by
 unfold lift at h;grind
def yI{i:Type}{e:PX b c}{d:c->PX b i}{g:b}{f:i×b×St}(k:aQ e d g σ=.ok f):∃a h j,e g σ=.ok (a,h,j)/\d a h j=.ok f:=by
 grind [aQ]
def So{rq}{run:PX b Unit}(i:b->List d)(Q:d->Prop)(B:∀e σ f h,run e σ=.ok ((),f,h)->∃g,i f=i e++[g]/\Q g):∀(k c:Nat) (e:b) (σ:St) (f:b) (h:St),lS a rq run k c e σ=.ok ((),f,h)->c<=rq->∃l,i f=i e++l/\(∀g∈l,Q g)/\c+l.length<=rq/\(c=0->l≠[]):=by
 intro k;induction k with
 |zero=>intro c e σ f h j _;cases j
 |succ k D=>
  intro c e σ f h j A;unfold lS at j;obtain⟨p,w,H,m,n⟩:=yI j;have v:w=e/\(c=0->p=false):=by
   split at m
   .cases m<;>simp_all
   .rename_i r;exact⟨(Bu m).2,λq=>absurd q r⟩
  obtain⟨rfl,C⟩:=v;cases p with
  |true=>
   cases n<;>simp_all
  |false=>
   simp only[Ye,if_false]at n
   obtain⟨g,E,I,s,t⟩:=yI n;obtain⟨-,rfl⟩:=Bu s;obtain⟨_,F,J,o,u⟩:=yI t;obtain⟨o,rfl⟩:=Bu o;have z:c<rq:=by
    grind [gQ]
   obtain⟨_,G,K,x,y⟩:=yI u;grind
def JO{h:Type}{rq:Nat}{run:PX (List d×h) Unit}{Q:d->Prop}(m:∀g σ f i,run g σ=.ok ((),f,i)->∃c,f.1=g.1++[c]/\Q c)(n:h):eJ (λb=>b.1≠[]/\b.1.length<=rq/\∀c∈b.1,Q c) (lw (ib a rq run) ([],n)):=by
 intro σ b i e;unfold lw at e;split at e
 .rename_i f u j;cases e
  obtain⟨_,s,v,k,l⟩:=yI j;obtain⟨-,rfl⟩:=Bu k;obtain⟨t,o,p,q,r⟩:=So (·.1) Q m _ _ _ _ _ _ l (YV _);simp_all
 grind
def ahy:hB DJ (oC a):=by
 unfold oC;refine eS λ_=>eS λj=>?_;unfold Ab;refine mK (rT (JO (Q:=Dz) ?_ _)) λk e=>eS λi=>jU e.2;rintro⟨l,g⟩ σ ⟨n,o⟩ p b;cases c:om a g σ with
 |error h=>simp_all[Hy]
 |ok f=>
  obtain⟨d,m,q⟩:=f;rw[Hz c]at b;cases b
  exact⟨d,rfl,ahs _ _ _ _ _ c⟩
theorem ahB(h:Zb×Nat):∀(b:Nat) (d:List (Zb×Nat×Int)) (c:List (Int×Int)),eJ qM (ki a h b d c):=by
 intro b;induction b with
 |zero=>intro d c;exact kQ _ _
 |succ b g=>
  intro d c σ j o e;cases f:kK a d.length c σ with
  |error k=>simp_all[vL]
  |ok i=>
   obtain⟨m,l,p⟩:=i;rw[vM f]at e;refine ba (Q:=qM) (λn=>dT (g _ _) ?_) _ _ _ e;unfold pW;exact ba λ_=>ba λ_=>dU trivial
def ahn:eJ qM (fJ a):=by
 unfold fJ;refine ba λq=>?_;unfold fI;refine dT ?_ (dT ?_ (dT ?_ (dT ?_ (dT ?_ (dT ?_ (kQ _ _))))))
 .unfold lg;exact ba λ_=>ba λb=>ba λ_=>ba λ_=>ba λ_=>dU trivial
 .unfold lC;exact ba λ_=>ba λc=>ba λ_=>dU trivial
 .grind [kF,ba,ahB]
 .unfold mc;exact ba λ_=>ba λb=>ba λh=>ba λ_=>dU trivial
 .unfold iQ;refine ba λ_=>ba λb=>?_;unfold qz;refine ba λ_=>ba λ_=>ba λf=>?_;unfold qA;refine ba λk=>?_;unfold rM;refine ba λ_=>ba λ_=>ba λm=>?_;unfold tf pB;exact ba λ_=>ba λ_=>dU trivial
 .unfold lu;refine ba λ_=>ba λb=>?_;unfold sT;refine mJ (JO (Q:=DJ) ?_ _) λh g=>ba λ_=>dU g;rintro⟨l,i⟩ σ ⟨o,p⟩ r d;cases e:oC a i σ with
  |error j=>simp_all[Gb]
  |ok f=>
   obtain⟨c,n,s⟩:=f;rw[Gc e]at d;cases d
   exact⟨c,rfl,ahy _ _ _ _ _ e⟩
def ahv:∀(d:Nat) {b:List aD},(∀c∈b,qM c)->eJ (λb=>∀c∈b,qM c) (ey a d b):=by
 intro d;induction d with
 |zero=>intro b _;exact kQ _ _
 |succ d g=>
  intro b e;unfold ey;exact ba λh=>dT (dU e) (mJ ahn λc f=>ba λ_=>g (aeB e f))
def Hd{c}(b:eR a=.ok c):∀d∈c,qM d:=by
 unfold eR at b;split at b
 .cases b
 split at b
 .cases b
 .rename_i e σ g;have f:e=c:=by
   grind
  subst f;exact ahv 69 Zq _ _ _ g
end
end
section
variable {b j : Zw} {e a : Nat} {s c : fl} {h i g f : Zv} {d : List Th} {o : dK}
structure mS(a:Nat)(s:fl):Prop where
 av:s.av.length<=a
 eC:∀x∈s.av,x.length<=1000000000
 aK:s.aK.length<=50000+a
 bv:s.bv.length<=a
 ev:s.ev.length<=a
def mS.bm(b:mS a s)(e:a<=16384):uK s:=
 ⟨by have:=b.av;omega,λd c=>by have:=b.eC d c;omega,by have:=b.aK;omega,by have:=b.bv;omega,by have:=b.ev;omega⟩
def mS.up(b:mS a s):mS (a+1) s:=
 ⟨by have:=b.av;omega,b.eC,by have:=b.aK;omega,by have:=b.bv;omega,by have:=b.ev;omega⟩
def mS.text(c:mS a s)(b:Int):(fy s b).length<=1000000000:=by
 unfold fy;split
 .simp
 .rename_i d;have e:=zA b (YM.2 d);exact c.eC _ Zg
def mS.aR(b:mS a s){d:Zb}(f:d.length<=1000000000):mS (a+1) { s with av:=s.av++[d] }:=
 ⟨by have:=b.av;simp_all,λe c=>by
  rcases Yn.1 c with c|c
  .exact b.eC e c
  simp_all,b.up.aK,b.up.bv,b.up.ev⟩
def agh(a:Zb)(b c:Int):(uA a b c).length=a.length:=by
 grind [uA]
def mS.ns(e:mS a s)(g:o.s.length<=16384)(d:oh s o=some c):mS (a+1) c/\c.bv=s.bv/\c.ev=s.ev:=by
 have b:=e.up;unfold oh at d;split at d
 .cases d
  exact⟨⟨b.av,b.eC,by have:=e.aK;grind,b.bv,b.ev⟩,rfl,rfl⟩
 split at d
 .cases d
  refine⟨⟨b.av,b.eC,?_,b.bv,b.ev⟩,rfl,rfl⟩;show (if s.aK=[]then s.aK else tQ s.aK o).length<=_
  split;all_goals simp_all[aK,tQ]
 split at d
 .cases d
  exact⟨⟨b.av,b.eC,Zq,b.bv,b.ev⟩,rfl,rfl⟩
 split at d
 .cases d
  exact⟨⟨b.av,b.eC,b.aK,b.bv,b.ev⟩,rfl,rfl⟩
 split at d
 .cases d
  exact⟨⟨b.av,b.eC,b.aK,b.bv,b.ev⟩,rfl,rfl⟩
 unfold py at d;split at d
 .cases d
  exact⟨e.aR Zm,rfl,rfl⟩
 split at d
 .cases d
  exact⟨e.aR (by rw[agh];exact e.text _),rfl,rfl⟩
 split at d
 .cases d
  unfold zf;split
  .simp_all
  .rename_i f;exact⟨e.aR Zg,rfl,rfl⟩
 simp_all
def abG(b:1<=o.w)(d:o.w<=8):∃c,oh s o=some c:=by
 have:o.w=1\/o.w=2\/o.w=3\/o.w=4\/o.w=5\/o.w=6\/o.w=7\/o.w=8:=Zm;unfold oh py;rcases this with a|a|a|a|a|a|a|a<;>simp[a]
def ag2(b:Zw):bA (wL b.heap.size ⟨[],[],[],0,0,0,[],[]⟩ (.slice none 0 0) (.slice none 0 0) (.slice none 0 0) (.slice none 0 0) []) b (b.alloc HH):=by
 have a:∀(d:TypeId) (e:Nat) (c:List Th),bA c b b->bA (.row d e (.slice none 0 0) 0 []::c) b b:=λd e c g=>g.cons (ar [] b) ⟨Zq,Y8 ⟨rfl,rfl⟩⟩ (λh f=>by simp[Th.aG,Value.ownBlock]at f);exact(a 9 1 _ (a 52 5 _ (a 37 1 _ (a 48 1 _ (si b))))).A HH
end
section
variable {dep:Nat}{a:List aD}
def Uq(v:List fD)(dep b c:Nat):(fm v dep b c).g9:=by
 intro i k d h e a;obtain⟨j,g,a⟩:=bX a;obtain⟨f,_,a⟩:=bX a;grind [td,mZ]
def Up(v:List fD)(d e:Nat)(f:dep<=64):∀a b,64<=a->∃c,(fm v dep d e).cW a b=.error c:=λ_ _ g=>⟨_,Y9 Zm⟩
def Uu(h:mY a){e:Zb}{f}(k:bS (ff a).2 e=some f)(v:List fD)(b d:Nat)(j:dep<=64):∃g,mG (fm v dep b d) (ff a).1 g ⟨f,[],[]⟩ ⟨0,[]⟩=some (fo (fm v dep b d) (dG a) 64 0 e ⟨0,[]⟩):=by
 obtain⟨m,i,l⟩:=Ho h;have c:=l e;rw[k]at c;exact NL (Uq v dep b d) (Up v b d j) i c.1 c.2.1 c.2.2 _
def Qs{h:Zw}{l k}(x:tE l k a)(g:∀b∈l,h.heap[b.1]?=some b.2)(y:mY a)(z:∀E∈(ff a).1,mq E)(j:Zb){n v}(B:oL h n v)(dep c d:Int):Calls prog 33 #[Zp k,Zs j,n,.agg #[Y dep,Y c,Y d]] h (Dl h (hq (ff a).2 j dep c d) (jr (dG a) j v dep.toNat c.toNat d.toNat)):=by
 obtain⟨K,O,I,S,G,u,N,e⟩:=x;obtain⟨a0,a1,a2,rfl⟩:=e.L.h7;refine Kc false (Q:=λ_ i v _=>v=Zs i) (g _ u) (g _ e.an) e.nd (λb H f m=>?_) λ_ _ _ _ _ _ _ C _ _=>C;obtain⟨A,o,J,s,M,D,P⟩:=On f;obtain⟨dep,rfl⟩:=Int.eq_ofNat_of_zero_le o;obtain⟨c,rfl⟩:=Int.eq_ofNat_of_zero_le s;obtain⟨d,rfl⟩:=Int.eq_ofNat_of_zero_le D;obtain⟨F,w⟩:=Uu y A v c d (dep:=dep) Zm;refine(Qr e.L (λb f=>(m.al _ (ay (g b f)) Zq).trans (g b f)) z Zm Zm (B.ae m) w).mono ?_;rintro L R (⟨i,p,q,r⟩|t)
 .exact Y8 ⟨i,_,p,q,r,⟨_,rfl⟩,rfl⟩
 .exact Ya t
end
section
variable {w c a : Zw} {v : List dj} {b : Zv}
def LM(a b c:Int)(w:Zw):Calls prog 31 #[Y a,Y b,Y c] w λd e=>d=.returned (.tuple #[nA a b c,nA a b c])/\ap [] w e:=by
 go_in;go_wp2;refine bodyPost_ret (v:=.tuple #[nA a b c,nA a b c]) ?_ rfl ⟨rfl,?_⟩
 .simp[results,results31,go_sem]
 .exact((ar [] w).A _).A _
abbrev Bh(w:Zw)(a b:Nat)(c d e f g:Zv):Zw:=((((w.setCell ⟨a,b,none⟩ c).setCell ⟨a,b+1,none⟩ d).setCell ⟨a,b+2,none⟩ e).setCell ⟨a,b+3,none⟩ f).setCell ⟨a,b+4,none⟩ g
def zg(w:Zw)(a b:Nat)(c d e f g:Zv):ap [a] w (Bh w a b c d e f g):=(((((ar [a] w).a6 (p:=⟨a,b,none⟩) Zq _).a6 (p:=⟨a,b+1,none⟩) Zq _).a6 (p:=⟨a,b+2,none⟩) Zq _).a6 (p:=⟨a,b+3,none⟩) Zq _).a6 (p:=⟨a,b+4,none⟩) Zq _
theorem adZ{d:Type}{b:List d}{a:Nat}(e:a<b.length)(c:d):(b.set a c).take (a+1)=b.take a++[c]:=by
 rw[Yt Zu];have:(b.set a c).take a=b.take a:=by
  apply List.ext_getElem?;grind
 simp_all
def yX{w:Zw}{g o:Nat}{a j k}(b c d e f:Zv)(l:w.heap[g]?=some (.cells a j k))(m:o+5<=a.size):∃h:Array Zv,(Bh w g o b c d e f).heap[g]?=some (.cells h j k)/\h.size=a.size/\h.toList.take (o+5)=a.toList.take o++[b,c,d,e,f]:=by
 refine⟨_,ci (i:=o+4) (ci (i:=o+3) (ci (i:=o+2) (ci (i:=o+1) (ci (i:=o) l b) c) d) e) f,Zq,?_⟩;simp only[Array.set!_eq_setIfInBounds,Array.toList_setIfInBounds];grind [adZ]
def AM:Zl:=[Y (-7),Y 0,.string ⟨#[]⟩,Y 0,Y 0]
def od(v:List dj):Zl:=v.flatMap cX++(AM++AM)
def QH(v:List dj)(w:Zw)(c:Ending)(b:Zw):Prop:=∃a,c=.returned (.slice (some ⟨w.heap.size,0,none⟩) v.length (v.length+2))/\ap [] w b/\b.heap[w.heap.size]?=some (.cells a 87)/\a.toList=od v
def Wj(y:w.ownsRow 0 52 5 b v.length (v.flatMap cX))(d6:v.length<=1000000):Calls prog 32 #[b] w (QH v w):=by
 obtain⟨d8,d9,b4⟩:=aV y;have M:=U y;subst b4;clear y;obtain⟨b7,b1,b5,b6,d7⟩:=info_parts Ls;have z:=run_makeSlice (P:=prog) w 76 87 b7 _ underlying76 b1 b5 .i64 .i64 ((v.length:Int)+2) ((v.length:Int)+2) Zm Zm Zg Zg Zm;rw[b6,show ((v.length:Int)+2).toNat=v.length+2 by omega]at z;have A:=size_madeCells (Value.agg #[Y 0,Y 0,.string ⟨#[]⟩,Y 0,Y 0]).cells ((v.length+2)*5);generalize madeCells (Value.agg #[Y 0,Y 0,.string ⟨#[]⟩,Y 0,Y 0]).cells ((v.length+2)*5)=k at z A;have B:af (ap [] w (w.alloc (.cells k 87))/\(w.alloc (.cells k 87)).heap[w.heap.size]?=some (.cells k 87)):=U ⟨(ar [] w).A _,bl rfl⟩;have O:=U A;clear A;go_in;go_wp2;generalize w.alloc (.cells k 87)=e7 at *
 clear z;go_loopw [5] (λu a=>∃(c:Nat) (i:Array Zv),u=Y c/\c<=v.length/\af (ap [] w a/\a.heap[w.heap.size]?=some (.cells i 87)/\i.size=(v.length+2)*5/\i.toList.take (c*5)=(v.take c).flatMap cX)) (λu _=>v.length-(intOf u).toNat)
 case atStart=>exact⟨0,k,rfl,Zm,U ⟨B.i.1,B.i.2,O.i,Zq⟩⟩
 case round=>
  obtain⟨c,i,rfl,d2,t⟩:=hrel;obtain⟨g,f,j,h⟩:=t.i;have e:∀r,r<i.size->∃a1,wr.cell? (Zd w.heap.size r)=some a1:=λr d0=>⟨i[r],aB f Zq⟩;have S:=bi f;have a0:=ay f;rcases Yj c v.length with E|d1
  .have b3:(c:Int)<v.length:=Zm;have d5:(c:Int)<(v.length:Int)+2:=Zm;obtain⟨l,e0,F,b8,b9,c0,c1,c2⟩:=sQ (cf M.i g Zq) E;simp only[Value.slice.injEq,true_and]at F;obtain⟨rfl,rfl⟩:=F;obtain⟨a3,H⟩:=e (c*5) Zm;obtain⟨a4,I⟩:=e (c*5+1) Zm;obtain⟨a5,J⟩:=e (c*5+2) Zm;obtain⟨a6,K⟩:=e (c*5+3) Zm;obtain⟨a7,L⟩:=e (c*5+4) Zm;have G:v.take (c+1)=v.take c++[v.getD c bG]:=Zu;have N:=U G;generalize v.getD c bG=d at *
   clear e G f j h g;go_wp2;refine bJ (λm=>m.cell? ⟨l,c*5,none⟩=some (Y d.w)/\m.cell? ⟨l,c*5+1,none⟩=some (Y d.n)/\m.cell? ⟨l,c*5+2,none⟩=some (Zs d.s)/\m.cell? ⟨l,c*5+3,none⟩=some (Y d.y)/\m.cell? ⟨l,c*5+4,none⟩=some (Y d.am)) ?_ λb0=>?_
   .go_keep
   refine bc [0,1,2,3,4,5,6,7,8,9,10,11,12,13,14,15,16,17,18,19,20,21,22,23,24,25,26,27,28] ?_;iterate 29 (refine bh ?_)
   refine be ?_;refine bL λR D=>?_;go_simp;refine D.out _ _ ?_;clear D R;refine nz ?_;obtain⟨g,f,j,h⟩:=t.i;obtain⟨n,p,x,q⟩:=yX (o:=c*5) (Y d.w) (Y d.n) (Zs d.s) (Y d.y) (Y d.am) f Zm;have C:af (ap [] w (Bh wr w.heap.size (c*5) (Y d.w) (Y d.n) (Zs d.s) (Y d.y) (Y d.am)).drew/\(Bh wr w.heap.size (c*5) (Y d.w) (Y d.n) (Zs d.s) (Y d.y) (Y d.am)).drew.heap[w.heap.size]?=some (.cells n 87)/\n.size=(v.length+2)*5/\n.toList.take ((c+1)*5)=(v.take (c+1)).flatMap cX):=by
    refine U ⟨(qa g (zg ..) Zq).ag,p,x.trans j,?_⟩;rw[show (c+1)*5=c*5+5 by omega,q,h,N.i];simp
   clear g f j h p x q H I J K L b8 b9 c0 c1 c2 S a0 b0;generalize World.drew _=e6 at C ⊢;go_wp2;exact⟨⟨c+1,n,Zr,E,C⟩,Zz⟩
  .have b2:c=v.length:=Zm;subst b2;have b3:¬(v.length:Int)<v.length:=Zm;have d3:(v.length:Int)<(v.length:Int)+2:=Zm;have d4:(v.length:Int)+1<(v.length:Int)+2:=Zm;obtain⟨a3,H⟩:=e (v.length*5) Zm;obtain⟨a4,I⟩:=e (v.length*5+1) Zm;obtain⟨a5,J⟩:=e (v.length*5+2) Zm;obtain⟨a6,K⟩:=e (v.length*5+3) Zm;obtain⟨a7,L⟩:=e (v.length*5+4) Zm;obtain⟨c4,e1⟩:=e ((v.length+1)*5) Zm;obtain⟨c5,e2⟩:=e ((v.length+1)*5+1) Zm;obtain⟨c6,e3⟩:=e ((v.length+1)*5+2) Zm;obtain⟨c7,e4⟩:=e ((v.length+1)*5+3) Zm;obtain⟨c8,e5⟩:=e ((v.length+1)*5+4) Zm;clear e f j h g;go_wp2;go_ret;obtain⟨g,f,j,h⟩:=t.i;obtain⟨c3,p,x,q⟩:=yX (o:=v.length*5) (Y (-7)) (Y 0) (.string ⟨#[]⟩) (Y 0) (Y 0) f Zm;obtain⟨a2,a8,c9,a9⟩:=yX (o:=(v.length+1)*5) (Y (-7)) (Y 0) (.string ⟨#[]⟩) (Y 0) (Y 0) p Zm;refine⟨a2,rfl,qa (qa g (zg ..) Zq) (zg ..) Zq,a8,?_⟩;rw[List.take_of_length_le Zx,show (v.length+1)*5=v.length*5+5 by omega,q,h,YG]at a9;simp_all[od,AM]
end
section
variable {a g e : Zw} {v : List dj} {d : Zv} {b : Nat} {c : Array Zv}
def vQ:∀v:List dj,(v.flatMap cX).length=v.length*5
 |[]=>rfl
 |x::a=>by rw[YD,Yq,vQ a];simp;omega
def We(j:a.heap[b]?=some (.cells c 87))(k:c.toList=od v){d:Nat}(m:d<v.length):a.cell? ⟨b,d*5,none⟩=some (Y (v.getD d bG).w)/\a.cell? ⟨b,d*5+1,none⟩=some (Y (v.getD d bG).n)/\a.cell? ⟨b,d*5+2,none⟩=some (.string ⟨(v.getD d bG).s.toArray⟩)/\a.cell? ⟨b,d*5+3,none⟩=some (Y (v.getD d bG).y)/\a.cell? ⟨b,d*5+4,none⟩=some (Y (v.getD d bG).am):=by
 have i:v[d]?=some (v.getD d bG):=Zg;have e:∀g,g<5->∀h,(cX (v.getD d bG))[g]?=some h->a.cell? ⟨b,d*5+g,none⟩=some h:=λg l h o=>by
  refine aB j ?_;rw[<-Array.getElem?_toList,k];unfold od;rw[Ys (by rw[vQ];omega),ub (f:=cX) (k:=5) (λ_=>rfl) v d g l,i];grind
 exact⟨e 0 Zm _ rfl,e 1 Zm _ rfl,e 2 Zm _ rfl,e 3 Zm _ rfl,e 4 Zm _ rfl⟩
def Li(d:a.heap[b]?=some (.cells c 87))(h:c.toList=od v)(k:v.length<=1000000):oL a (.slice (some ⟨b,0,none⟩) v.length (v.length+2)) (v.map gN):=by
 refine⟨some ⟨b,0,none⟩,v.length+2,Zq,Zq,Yz (show v.length+2<=1000002 by omega) Ze,λg j e=>?_⟩;have f:g<v.length:=by
  rcases Yj g v.length with d|d
  .exact d
  .rw[YA (by simpa using d)]at e;cases e
 have i:j=gN (v.getD g bG):=by
  simp[f]at e;simp[f,e]
 subst i;have:=We d h f;refine⟨b,0,rfl,?_⟩;rw[Nat.zero_add];exact this
def NN{z}(o:a.ownsRow 0 52 5 d v.length (v.flatMap cX))(u:oL a z (v.map gN))(a3:v.length<=1000000):Calls prog 38 #[z,d] a λH f=>H=.returned (.bool true)/\ap [] a f:=by
 obtain⟨a4,a5,K⟩:=aV o;have F:=U o;have q:=U u;obtain⟨ad,S,rfl,-⟩:=u;subst K;rw[YU]at q ⊢;clear o;go_in;go_wp2;go_loopw [5] (λm e=>∃c:Nat,m=Y c/\c<=v.length/\af (ap [] a e)) (λm _=>v.length-(intOf m).toNat)
 case atStart=>exact⟨0,rfl,Zm,U (ar [] a)⟩
 case round=>
  obtain⟨c,rfl,a2,j⟩:=hrel;rcases Yj c v.length with p|a1
  .have J:(c:Int)<v.length:=Zm;obtain⟨k,a6,x,L,M,N,O,P⟩:=sQ (cf F.i j.i Zq) p;simp only[Value.slice.injEq,true_and]at x;obtain⟨rfl,rfl⟩:=x;obtain⟨R,a0,t,-,-,y⟩:=q.i.ae j.i;simp only[Value.slice.injEq]at t;obtain⟨rfl,-,rfl⟩:=t;obtain⟨b,l,rfl,A,B,C,D,E⟩:=y c (gN (v.getD c bG)) (by simp[p]);simp only[gN]at A B C D E;clear y;generalize v.getD c bG=g at *
   go_wp2;refine bJ (λf=>f.cell? ⟨k,c*5,none⟩=some (Y g.w)/\f.cell? ⟨k,c*5+1,none⟩=some (Y g.n)/\f.cell? ⟨k,c*5+2,none⟩=some (Zs g.s)/\f.cell? ⟨k,c*5+3,none⟩=some (Y g.y)/\f.cell? ⟨k,c*5+4,none⟩=some (Y g.am)/\f.cell? ⟨b,l+c*5,none⟩=some (Y g.w)/\f.cell? ⟨b,l+c*5+1,none⟩=some (Y g.n)/\f.cell? ⟨b,l+c*5+2,none⟩=some (Zs g.s)/\f.cell? ⟨b,l+c*5+3,none⟩=some (Y g.y)/\f.cell? ⟨b,l+c*5+4,none⟩=some (Y g.am)) ?_ λI=>?_
   .go_keep
   refine bc [0,1,2,3,4,5,6,7,8,9] ?_;iterate 10 (refine bh ?_)
   refine be ?_;refine tk (i:=10) (v:=.bool false) rfl Zk (λ_ _ _ h=>h) Zk Zt ?_ ?_
   .intro a i;(try dsimp only at i);go_simp;(try with_reducible rfl);all_goals (try omega)
   refine nz ?_;refine bc [11,12,13,14,15,16,17,18,19,20,21] ?_;iterate 11 (refine bh ?_)
   refine be ?_;refine tk (i:=22) (v:=.bool false) rfl Zk (λ_ _ _ h=>h) Zk Zt ?_ ?_
   .intro a i;(try dsimp only at i);go_simp;(try with_reducible rfl);all_goals (try omega)
   refine nz ?_;refine bc [23,24,25,26,27,28,29,30,31,32,33,34] ?_;iterate 12 (refine bh ?_)
   refine be ?_;refine tk (i:=35) (v:=.bool false) rfl Zk (λ_ _ _ h=>h) Zk Zt ?_ ?_
   .intro a i;(try dsimp only at i);go_simp;(try with_reducible rfl);all_goals (try omega)
   refine nz ?_;refine bc [36,37,38,39,40,41,42,43,44,45,46,47] ?_;iterate 12 (refine bh ?_)
   refine be ?_;refine tk (i:=48) (v:=.bool false) rfl Zk (λ_ _ _ h=>h) Zk Zt ?_ ?_
   .intro a i;(try dsimp only at i);go_simp;(try with_reducible rfl);all_goals (try omega)
   refine nz ?_;refine bc [49,50,51,52,53,54,55,56,57,58,59,60] ?_;iterate 12 (refine bh ?_)
   refine be ?_;refine tk (i:=61) (v:=.bool false) rfl Zk (λ_ _ _ h=>h) Zk Zt ?_ ?_
   .intro a i;(try dsimp only at i);go_simp;(try with_reducible rfl);all_goals (try omega)
   refine nz ?_;refine bL λG w=>?_;go_simp;refine w.out _ _ ?_;clear w G;refine nz ?_;have r:=U j.i.ag;clear L M N O P A B C D E I j;generalize World.drew _=a7 at r ⊢;go_wp2;exact⟨⟨c+1,Zj,p,r⟩,Zz⟩
  .have J:¬(c:Int)<v.length:=Zm;go_wp2;go_ret;exact⟨rfl,j.i⟩
end
section
variable {w e c : Zw} {v : List dj} {d : Zv} {a : Nat} {b : Array Zv}
def Wi(a:b.toList=od v):b.size=(v.length+2)*5:=by
 rw[<-Array.length_toList,a];unfold od AM;rw[Yq,vQ];simp;omega
def Wg(c:w.heap[a]?=some (.cells b 87))(d:b.toList=od v):w.cell? ⟨a,v.length*5,none⟩=some (Y (-7))/\w.cell? ⟨a,(v.length+1)*5,none⟩=some (Y (-7)):=by
 constructor
 .refine aB c ?_;rw[<-Array.getElem?_toList,d];unfold od;rw[Yw (by rw[vQ];omega),vQ,Nat.sub_self];rfl
 .refine aB c ?_;rw[<-Array.getElem?_toList,d];unfold od;rw[Yw (by rw[vQ];omega),vQ,show (v.length+1)*5-v.length*5=5 by omega];rfl
def ae3(q:w.ownsRow 0 52 5 d v.length (v.flatMap cX))(k:w.heap[a]?=some (.cells b 87))(l:b.toList=od v)(x:v.length<=1000000):Calls prog 34 #[.slice (some ⟨a,0,none⟩) v.length (v.length+2),d] w λu G=>u=.returned (.bool true)/\ap [a] w G:=by
 obtain⟨a2,a3,F⟩:=aV q;have t:=U (NN q (Li k l x) x);have i:=U (Yp k (Yp l (Wi l)));subst F;clear q k l;have S:(0:Int)<=(v.length:Int)+2:=by omega
 have a0:(v.length:Int)<(v.length:Int)+2:=by omega
 have a1:(v.length:Int)+1<(v.length:Int)+2:=by omega
 go_in;go_wp21;refine t.i.mono ?_;rintro u a9 ⟨rfl,g⟩;have f:=(g.al _ (ay i.i.1) (by simp)).trans i.i.1;obtain⟨H,I⟩:=Wg f i.i.2.1;have s:=U (Yp (g.aZ (M':=[a]) (by simp)) f);have y:=U i.i.2.2;clear g f t i;go_wp2;go_loopw [9] (λp c=>∃(e:Nat) (j:Array Zv),p=Y e/\e<=v.length+2/\af (ap [a] w c/\c.heap[a]?=some (.cells j 87)/\j.size=(v.length+2)*5)) (λp _=>v.length+2-(intOf p).toNat)
 case atStart=>exact⟨0,b,rfl,by omega,U ⟨s.i.1,s.i.2,y.i⟩⟩
 case round=>
  obtain⟨e,j,rfl,R,n⟩:=hrel;rcases Yj e (v.length+2)with E|P
  .have D:(e:Int)<(v.length:Int)+2:=by omega
   obtain⟨g,f,r⟩:=n.i;have h:∀m,m<j.size->∃z,wr.cell? (Zd a m)=some z:=λm k=>⟨j[m],aB f (by simp[k])⟩;have J:=bi f;obtain⟨K,a4⟩:=h (e*5) (by omega);obtain⟨L,a5⟩:=h (e*5+1) (by omega);obtain⟨M,a6⟩:=h (e*5+2) (by omega);obtain⟨N,a7⟩:=h (e*5+3) (by omega);obtain⟨O,a8⟩:=h (e*5+4) (by omega);clear h f r g;go_wp2;obtain⟨g,f,r⟩:=n.i;obtain⟨A,B,C,-⟩:=yX (o:=e*5) (Y (-7)) (Y 0) (.string ⟨#[]⟩) (Y 0) (Y 0) f (by omega);exact⟨⟨e+1,A,by go_num,E,U ⟨g.u (zg _ _ _ _ _ _ _ _),B,C.trans r⟩⟩,by simp[intOf];omega⟩
  .have D:¬(e:Int)<(v.length:Int)+2:=by omega
   go_wp2;go_ret;exact⟨rfl,n.i.1⟩
end
section
variable {i : Nat -> Prop} {h f : Nat} {j : Zb} {σ : ah} {w k a : Zw} {c : PV} {v : List dj} {e : Zv} {g : Nl} {Kn : Zb -> Prop} {d : Nat} {b : Array Zv}
def oc(d:List aD)(e:Zb)(v:List dj)(a b c:Int):Zb:=match hq (ff d).2 e a b c with
 |.error _=>[]
 |.ok _=>match jr (dG d) e (v.map gN) a.toNat b.toNat c.toNat with
  |.ok f=>f
  |.error _=>[]
def vv(σ:ah)(e:List aD)(d:Zb)(v:List dj)(a b c:Int):Zv:=if ez σ d<0 then .tuple #[.string ⟨#[]⟩,Y 10,Y (-1)]else if ¬kI a b c then .tuple #[.string ⟨#[]⟩,Y 11,Y (-1)]else vw (jr (dG e) d (v.map gN) a.toNat b.toNat c.toNat)
def CJ{d}{b:Zb}{e f g:Int}{k}(j:ez σ b<0↔bS (ff d).2 b=none)(a:hq (ff d).2 b e f g=.ok k):¬ez σ b<0/\kI e f g:=by
 unfold hq at a;cases c:bS (ff d).2 b with
 |none=>rw[c]at a;cases a
 |some l=>
  rw[c]at a;dsimp only at a;refine⟨λh=>(by rw[j.1 h]at c;cases c),?_⟩;split at a
  .rename_i i;simp[kO]at i;unfold kI;omega
  .cases a
def Oo{d}{b:Zb}{g h i:Int}{f}(j:ez σ b<0↔bS (ff d).2 b=none)(a:hq (ff d).2 b g h i=.error f):(f=10/\ez σ b<0)\/(f=11/\¬ez σ b<0/\¬kI g h i):=by
 unfold hq at a;cases c:bS (ff d).2 b with
 |none=>rw[c]at a;cases a;exact .inl ⟨rfl,j.2 c⟩
 |some m=>
  rw[c]at a;dsimp only at a;have l:¬ez σ b<0:=λe=>by rw[j.1 e]at c;cases c
  split at a
  .cases a
  .rename_i k;cases a
   refine .inr ⟨rfl,l,λe=>k ?_⟩;unfold kI at e;simp[kO];omega
def Ux{h c e f g o}(q:Dl w (hq (ff h).2 c e f g) (jr (dG h) c (v.map gN) e.toNat f.toNat g.toNat) o a)(s:ez σ c<0↔bS (ff h).2 c=none)(B:w.cell? (Zd 1 0)=some (eM 55))(C:1≠d)(H:d<w.heap.size):ap [] w a/\∃z t u,o=.returned (.tuple #[.string ⟨(oc h c v e f g).toArray⟩,u])/\vv σ h c v e f g=.tuple #[.string ⟨(oc h c v e f g).toArray⟩,Y z,Y t]/\
  ((0<=ez σ c->kI e f g->tu (jr (dG h) c (v.map gN) e.toNat f.toNat g.toNat))->∀b,ap [d] a b->Calls prog 27 #[u,Y z,Y t] b λo F=>o=.returned (.bool true)/\ap [] b F):=by
 obtain⟨y,q⟩:=q;refine⟨y,?_⟩;have r:∀b,ap [d] a b->b.cell? (Zd 1 0)=some (eM 55):=λb i=>i.a5 (by simpa using C) (y.a5 Zq B);rcases q with⟨J,j,rfl⟩|⟨E,G,_,j,m,rfl,rfl⟩|⟨E,p,A,j,m,rfl,I,x⟩
 .have n:oc h c v e f g=[]:=by simp[oc,j]
  rw[n];rcases Oo s j with⟨rfl,k⟩|⟨rfl,k,l⟩
  .exact⟨10,-1,_,rfl,by unfold vv;rw[Y9 k],λ_ b i=>CQ (r b i) 10 Ze⟩
  .exact⟨11,-1,_,rfl,by unfold vv;rw[Y2 k,Y9 l],λ_ b i=>CQ (r b i) 11 Ze⟩
 .have n:oc h c v e f g=G:=by simp[oc,j,m]
  obtain⟨k,l⟩:=CJ s j;rw[n];exact⟨0,0,_,rfl,by unfold vv;rw[Y2 k,Y2 (not_not_intro l),m];rfl,λ_ b i=>Hi 0 b⟩
 .have n:oc h c v e f g=[]:=by simp[oc,j,m]
  obtain⟨k,l⟩:=CJ s j;rw[n];refine⟨p.no,p.y,_,rfl,by unfold vv;rw[Y2 k,Y2 (not_not_intro l),m];rfl,λD b i=>Hh (r b i) ((i.al A (ay x) Zx).trans x) (D Zm l p m)⟩
def UA{S E:Nat}{o f3}(f9:w.heap[S]?=some (.cells #[Zp E,c.rv,c.nv,c.pv,Zs σ.i] 67))(f7:tE f3 E o)(c7:∀t∈f3,w.heap[t.1]?=some t.2)(f8:mY o)(g0:∀P∈(ff o).1,mq P)
  (K:bw i h j f σ c w) (f6:f<=1000000000) (L:w.ownsRow 0 52 5 e v.length (v.flatMap cX)) (f5:∀P∈v,-9223372036854775808<=P.n/\P.n<=9223372036854775807) (b1:v.length<=1000000) (g9:Tb σ.h g (dG o) Kn) (m:Zb) (g3:0<=ez σ m->∃a8,dG o m=some a8/\kb σ.h g a8 (ez σ m)/\(∀t∈jo a8,Kn t.1)/\lG a8) (g4:ez σ m<0↔bS (ff o).2 m=none) (c5:w.cell? (Zd 1 0)=some (eM 55)) (d k l:Int) :
  Calls prog 20 #[Zp S,Zs m,e,Y d,Y k,Y l] w λI p=>I=.returned (.tuple #[.string ⟨(oc o m v d k l).toArray⟩,.bool true])/\ap [] w p:=by
 have e7:=U (LM d k l w);have e6:=U (λa (r:ap [] w a)=>Wj (cf L r Zq) b1);have e4:=U (λa (r:ap [] w a) i1 (c6:oL a i1 (v.map gN))=>Qs f7 (λt g1=>(r.al t.1 (ay (c7 t g1)) Zq).trans (c7 t g1)) f8 g0 m c6 d k l);have e9:=U (λa (r:ap [] w a) (C:Nat) (b:Array Zv) (s:a.heap[C]?=some (Obj.cells b 87)) (c3:b.toList=od v)=>ae3 (w:=a) (cf L r Zq) s c3 b1);have B:=U (λa (r:ap [] w a)=>Qt (K.az r) f6 (cf L r Zq) f5 g9 m g3 d k l);have h5:1<w.heap.size:=by
  rcases Yj 1 w.heap.size with s|s
  .exact s
  .simp[World.cell?,YO s]at c5
 have f1:=U (λ(a i9:Zw) (H:Ending) (r:ap [] w a) (C:Nat) (j3:w.heap.size<=C) (h4:C<a.heap.size) (s:Dl a (hq (ff o).2 m d k l) (jr (dG o) m (v.map gN) d.toNat k.toNat l.toNat) H i9)=>Ux (σ:=σ) s g4 (r.a5 Zq c5) Zm h4);have a0:=U f9;obtain⟨b9,c2,h9⟩:=aV K.h;obtain⟨b7,c0,h7⟩:=aV K.F;obtain⟨b8,c1,h8⟩:=aV K.ao;obtain⟨j5,j6,c6⟩:=aV L;have d5:=U (λ(a:Zw) (C:Nat) (b:Array Zv) (s:a.heap[C]?=some (Obj.cells b 87)) (c3:b.toList=od v)=>Li s c3 b1);clear f9 f7 c7 f8 g0 K f6 L f5 b1 g9 g3 g4 c5 h5;have B:af (∀a,ap [] w a->Calls prog 35 #[gp c σ,Zs m,e,nA d k l] a λI p=>ap [] a p/\I=.returned (vv σ o m v d k l)/\(0<=ez σ m->kI d k l->tu (jr (dG o) m (v.map gN) d.toNat k.toNat l.toNat))):=B;unfold gp at B;rw[h9,h7,h8]at B a0;subst c6;generalize (0<=ez σ m->kI d k l->tu (jr (dG o) m (v.map gN) d.toNat k.toNat l.toNat))=k1 at *
 generalize vv σ o m v d k l=j0 at *
 generalize oc o m v d k l=P at *
 generalize hq (ff o).2 m d k l=j8 at *
 generalize jr (dG o) m (v.map gN) d.toNat k.toNat l.toNat=g8 at *
 go_in;go_wp21;refine e7.i.mono ?_;rintro I n ⟨rfl,g6⟩;have d8:=U g6;clear g6 e7;go_wp21;generalize b0:World.alloc (World.alloc n _) _=a;have a2:af (ap [] w a):=by subst b0;exact(d8.i.A _).A _
 have b4:af (a.heap[n.heap.size]?=some (.cells #[Y d,Y k,Y l] 72)):=by
  subst b0;exact(((ar [] _).A _).al _ Zq Zq).trans (bl rfl)
 have a3:af (a.heap[n.heap.size+1]?=some (.cells #[Y d,Y k,Y l] 73)):=by
  subst b0;exact bl Zq
 have k0:n.heap.size+1<a.heap.size:=ay a3.i;clear b0;refine(e6.i a a2.i).mono ?_;rintro I d3 ⟨b,rfl,b2,a9,c4⟩;have G:=U (a2.i.u b2);have a1:=U a9;have d6:=U c4;have z:=U ((G.i.al _ (ay a0.i) Zq).trans a0.i);have a4:=U ((b2.al _ (ay b4.i) Zq).trans b4.i);have b5:=U ((b2.al _ (ay a3.i) Zq).trans a3.i);have e5:=U (e4.i d3.drew G.i.ag _ (d5.i d3.drew a.heap.size b a9 c4));have i2:d3.cell? (Zd S 0)=some (Zp E):=aB z.i rfl;have c8:=aE a4.i;have h0:=U (ay a9);have f2:=U (show w.heap.size<=a.heap.size from a2.i.aX);clear a9 c4 b2 e6 e4 d5 b4 a3 d8 a2 a0;go_wp21;refine bJ (λp=>p.cell? (Zd S 0)=some (Zp E)/\p.cell? (Zd n.heap.size 0)=some (Y d)/\p.cell? (Zd n.heap.size 1)=some (Y k)/\p.cell? (Zd n.heap.size 2)=some (Y l)) ?_ λJ=>?_
 .go_keep
 refine bc [0,1,2,3,4,5,6] ?_;iterate 7 (refine bh ?_)
 refine be ?_;refine bI 7 λx q=>?_;(go_simp;go_at_call 33;refine e5.i.mono ?_;rintro H O f4;obtain⟨D,j7,j1,j2,rfl,h3,g2⟩:=f1.i _ _ _ G.i.ag _ f2.i h0.i f4;have b3:=U (G.i.ag.u D);have R:=U ((D.al _ (ay z.i) Zq).trans z.i);have a5:=U ((D.al _ (ay a4.i) Zq).trans a4.i);have b6:=U ((D.al _ (ay b5.i) Zq).trans b5.i);have d4:=U ((D.al _ (ay a1.i) Zq).trans a1.i);subst h3;have d7:=U g2;have c9:O.cell? (Zd S 0)=some (Zp E):=aB R.i rfl;have d0:O.cell? (Zd n.heap.size 0)=some (Y d):=aB a5.i rfl;have d1:O.cell? (Zd n.heap.size 1)=some (Y k):=aB a5.i rfl;have d2:O.cell? (Zd n.heap.size 2)=some (Y l):=aB a5.i rfl;clear D f4 g2 f1 e5);refine q.out _ _ ?_ (λJ=>?_)
 .go_keep
 clear q x;refine nz ?_;refine bc [8,9,10,11] ?_;iterate 4 (refine bh ?_)
 refine be ?_;refine bL λx q=>?_;go_simp;refine q.out _ _ ?_;clear q x;refine nz ?_;clear c9 d0 d1 d2 c8 i2 J;have f0:=U (e9.i O b3.i a.heap.size b d4.i d6.i);go_wp21;refine f0.i.mono ?_;rintro H y ⟨rfl,M⟩;have d9:=U (show ap [] w y from b3.i.f8 M (λj4 h6=>.inr (by rw[Yc.1 h6];exact f2.i)));have h2:=ay z.i;have e2:S≠a.heap.size:=by
  rintro rfl;have:=z.i.symm.trans a1.i;simp at this
 have A:=U ((M.al _ (ay R.i) (by simpa using e2)).trans R.i);have a6:=U ((M.al _ (ay b6.i) Zx).trans b6.i);have e1:=U M;have e8:=U (B.i y.drew d9.i.ag);have c9:y.cell? (Zd S 1)=some (.slice b9 σ.h.length c2):=aB A.i rfl;have d0:y.cell? (Zd S 2)=some (.slice b7 σ.F.length c0):=aB A.i rfl;have d1:y.cell? (Zd S 3)=some (.slice b8 σ.ao.length c1):=aB A.i rfl;have d2:y.cell? (Zd S 4)=some (Zs σ.i):=aB A.i rfl;have c8:y.cell? ⟨n.heap.size+1,0,none⟩=some (Y d):=aB a6.i rfl;have i0:=aE a6.i;clear M e9 f0 B R a5 b6 d4 a4 b5 z a1 d6 G b3 h2 e2;go_wp21;refine bJ (λp=>p.cell? (Zd S 1)=some (.slice b9 σ.h.length c2)/\p.cell? (Zd S 2)=some (.slice b7 σ.F.length c0)/\p.cell? (Zd S 3)=some (.slice b8 σ.ao.length c1)/\p.cell? (Zd S 4)=some (Zs σ.i)/\p.cell? ⟨n.heap.size+1,0,none⟩=some (Y d)/\p.cell? ⟨n.heap.size+1,1,none⟩=some (Y k)/\p.cell? ⟨n.heap.size+1,2,none⟩=some (Y l)) ?_ λJ=>?_
 .go_keep
 refine bc [0,1,2,3,4,5,6] ?_;iterate 7 (refine bh ?_)
 refine be ?_;refine bI 7 λx q=>?_;(go_simp;go_at_call 35;refine e8.i.mono ?_;rintro H u ⟨N,rfl,g5⟩;have e0:=U (d9.i.ag.u N);have e3:=U (d7.i g5 u ((e1.i.ag).u (N.aZ Zq)));have F:=(N.al _ (ay A.i) Zq).trans A.i;have a7:=(N.al _ (ay a6.i) Zq).trans a6.i;have g8:u.cell? (Zd S 1)=some (.slice b9 σ.h.length c2):=aB F rfl;have i3:u.cell? (Zd S 2)=some (.slice b7 σ.F.length c0):=aB F rfl;have i4:u.cell? (Zd S 3)=some (.slice b8 σ.ao.length c1):=aB F rfl;have i5:u.cell? (Zd S 4)=some (Zs σ.i):=aB F rfl;have i6:u.cell? ⟨n.heap.size+1,0,none⟩=some (Y d):=aB a7 rfl;have i7:u.cell? ⟨n.heap.size+1,1,none⟩=some (Y k):=aB a7 rfl;have i8:u.cell? ⟨n.heap.size+1,2,none⟩=some (Y l):=aB a7 rfl;clear N g5 d7 e8 F a7 e1);refine q.out _ _ ?_ (λJ=>?_)
 .go_keep
 clear q x;refine nz ?_;refine bc [8,9,10,11,12,13] ?_;iterate 6 (refine bh ?_)
 refine be ?_;refine bL λx q=>?_;go_simp;refine q.out _ _ ?_;clear q x;refine nz ?_;clear c9 d0 d1 d2 c8 i0 g8 i3 i4 i5 i6 i7 i8 J;go_wp21;refine e3.i.mono ?_;rintro H j9 ⟨rfl,g7⟩;have h1:=U (e0.i.u g7);clear g7 e0 e3;go_wp2;go_ret2;exact⟨rfl,h1.i⟩
end
section
variable {h : Nat -> Prop} {g e : Nat} {c : Zb} {d : ah} {a : Zw} {b : PV} {v : List dj} {f : Zv}
def UB{S s:Nat}{i t y w}(l:eR (aI c)=.ok i)(j:Wh c i y w d)(r:mh w i)
  (G:a.heap[S]?=some (.cells #[Zp s,b.rv,b.nv,b.pv,.string ⟨(dH d).i.toArray⟩] 67)) (E:tE t s i) (L:∀u∈t,a.heap[u.1]?=some u.2)
  (F:bw h g c e (dH d) b a) (D:e<=1000000000) (J:a.ownsRow 0 52 5 f v.length (v.flatMap cX)) (C:∀x∈v,-9223372036854775808<=x.n/\x.n<=9223372036854775807) (K:v.length<=1000000) (m:Zb) (I:a.cell? (Zd 1 0)=some (eM 55)) (n o p:Int) :
  Calls prog 20 #[Zp S,Zs m,f,Y n,Y o,Y p] a λA M=>A=.returned (.tuple #[.string ⟨(oc i m v n o p).toArray⟩,.bool true])/\ap [] a M:=by
 have k:=j.l0 r (He l) (OT l);have q:=j.k8 (OU l);exact UA G E L k (Pe q λz H=>(Hd l z H).x) F D J C K (j.tb r k q) m (λB=>j.lO r k q B) (j.kT k m) I n o p
end
def DE(S:Nat)(d:Zw):Prop:=∃c b f h a m l g k j e,eR (aI c)=.ok b/\Wh c b k j e/\mh j b/\d.heap[S]?=some (.cells #[Zp f,a.rv,a.nv,a.pv,.string ⟨(dH e).i.toArray⟩] 67)/\tE h f b/\(∀i∈h,d.heap[i.1]?=some i.2)/\bw m l c g (dH e) a d/\g<=1000000000
def yu(b:List Th)(d:Zw)(S:Nat):Prop:=∀a,ap [] d a->(∀c∈b,c.At a)->DE S a
def Xb{i d b c:Zw}{S:Nat}(f:ap [] i b)(e:ap [] i c)(m:d.heap.size<=S)(n:S<b.heap.size)(k:∀j∈rr d b,j.At c):ap (List.range d.heap.size) b c:=by
 have l:∀a,d.heap.size<=a->a<b.heap.size->c.heap[a]?=b.heap[a]?:=λa g h=>by
  rw[Array.getElem?_eq_getElem h];exact k _ (aaU g (Array.getElem?_eq_getElem h))
 refine⟨e.os.trans f.os.symm,e.dt.trans f.dt.symm,e.ds.trans f.ds.symm,?_,λa g h=>l a Zu g⟩;grind
def acw{D a3}(B:eR (aI D)=.ok a3){c}(a5:Gl c):Calls prog 16 #[Zs D] c λw O=>ap [] c O/\∃S,w=.returned (.tuple #[Zp S,.bool true])/\c.heap.size<=S/\∀P,ap [] P O->yu (rr c O) P S:=by
 have a0:=U B;have a2:=U (Rj B (λb5 b8=>(Hd B b5 b8).dM) a5);clear a5 B;go_in;go_wp21;refine a2.i.mono ?_;rintro w c5 ⟨v,b4,rfl,J,a6,H,-,a4⟩;go_wp21;refine(Is D c5).mono ?_;rintro w k ⟨K,G⟩;unfold qI at G;rw[a0.i]at G;obtain⟨b2,g,b3,b1,b0,a8,c3,b,rfl,i,A,x,h,y,z⟩:=G;obtain⟨o,r,u⟩:=aV i.h;obtain⟨m,p,s⟩:=aV i.F;obtain⟨n,q,t⟩:=aV i.ao;have a9:=U (Yp a6 (Yp (λd j=>(⟨(K.al _ (ay (H d j)) Zq).trans (H d j),a4 d j⟩:k.heap[d.1]?=some d.2/\c.heap.size<=d.1)) (Yp i (Yp A (Yp x (Yp h (Yp y (Yp (λa (e:a<c.heap.size)=>z a (Yr e J.aX)) (Yp u (Yp s t))))))))));have E:=U (J.u K);have c1:=U (((ar [] k).A (ma (.slice o g.h.length r) (.slice m g.F.length p) (.slice n g.ao.length q) (Zs g.i))));unfold gp;rw[u,s,t];clear u s t i A x h y z a6 H a4 J K a2;go_wp21;refine(Hi 0 _).mono ?_;rintro w f ⟨rfl,L⟩;have l:=(L.al k.heap.size Zq Zq).trans (bl rfl);obtain⟨c6,R,c7,c8⟩:f.cell? (Zd k.heap.size 0)=some (.slice o g.h.length r)/\f.cell? (Zd k.heap.size 1)=some (.slice m g.F.length p)/\f.cell? (Zd k.heap.size 2)=some (.slice n g.ao.length q)/\f.cell? (Zd k.heap.size 3)=some (Zs g.i):=⟨aB l rfl,aB l rfl,aB l rfl,aB l rfl⟩;have c9:=bi l;have a1:=U (c1.i.u L);have d0:=ay l;clear l L;go_wp2;go_ret2;obtain⟨b6,F,i,A,rfl,h,y,z,u,s,t⟩:=a9.i;have C:=a1.i.u ((ar [] f).A (.cells #[Zp v,.slice o (dH b).h.length r,.slice m (dH b).F.length p,.slice n (dH b).ao.length q,.string ⟨(dH b).i.toArray⟩] 67));have I:c.heap.size<=f.heap.size:=Yz E.i.aX a1.i.aX;refine⟨E.i.u C,f.heap.size,rfl,I,λP c0 c4 c2 b9=>?_⟩;have M:=Xb c0 c2 I Zq b9;have a7:∀a N,c.heap.size<=a->(f.alloc (.cells #[Zp v,.slice o (dH b).h.length r,.slice m (dH b).F.length p,.slice n (dH b).ao.length q,.string ⟨(dH b).i.toArray⟩] 67)).heap[a]?=some N->c4.heap[a]?=some N:=λa N x h=>(M.al _ (ay h) (by simpa using x)).trans h;refine⟨D,a3,v,b4,b2,λa=>a<c.heap.size,b1,b0,a8,c3,b,a0.i,h,y,?_,b6,λd j=>a7 _ _ (F d j).2 ((C.al _ (ay (F d j).1) Zq).trans (F d j).1),?_,A⟩
 .rw[u,s,t];exact a7 _ _ I (bl rfl)
 .have b7:=i.az C;have R:c.heap.size<=(f.alloc (.cells #[Zp v,.slice o (dH b).h.length r,.slice m (dH b).F.length p,.slice n (dH b).ao.length q,.string ⟨(dH b).i.toArray⟩] 67)).heap.size:=Yz E.i.aX C.aX;exact bw.f3 (X:=λa=>a<c.heap.size) (b7.f3 (ar [] _) Zq (λa e=>Y8 (z a e)) (λa e=>Yr e R)) M Zq (λa e=>Y8 e) (λa e=>Yr e (Yz R M.aX))
section
variable {c d : Zw} {b : Nat} {s k : fl} {g h f e : Zv} {R : List Th}
def aeX(B:bA (wL b s g h f e R) d c)(k:dK)(t:kW k)(u:uK s)(a4:k.w=9){b2}(a7:eR (aI (fy s k.a))=.ok b2)(a2:Gl d):Calls prog 13 #[Zp b,.agg (di k)] c λy c5=>y=.returned (.bool true)/\∃S n o c4 E,bA (wL b { s with bv:=s.bv++[S] } n o c4 e (R++E)) d c5/\yu E d S:=by
 obtain⟨ix,p,rfl⟩:=aV (B.bC (i:=3) (a:=uy 37 f s.bv) rfl);have x:=U (zv (B.aw (.cells (di k) 27)) k t u);rw[MW a4]at x;have J:=U (λ(C:Zw) n o (a9:bA (wL b s n o (.slice ix s.bv.length p) e (R++[.obj c.heap.size (.cells (di k) 27)])) d C)=>wi (s:=s) (a9.aL (i:=0) (R:=b) rfl) (a9.bC (i:=1) (a:=cO n s.av) rfl) k.a t.2.1.1 t.2.1.2 (by have:=u.av;omega));have G:=U (λ(C:Zw) (b6:ap [] d C)=>acw a7 (a2.ae b6 Zq Zq Zq));have b5:(s.bv.length+1)*8<=140737488355328:=by have:=u.bv;omega
 generalize fy s k.a=tx at *
 have d0:(k.w==9)=true:=Zu;clear B t u a7 a2 a4;go_in;go_wp21;refine x.i.mono ?_;rintro y c6 ⟨rfl,n,o,z⟩;have w:=U z;have K:=U (J.i c6 n o z);clear z x J;obtain⟨b7,b8,b9,c0,c1,c2,of,c3⟩:=fu w.i.hm;generalize c.heap.size=c8 at *
 go_wp21;refine K.i.mono ?_;rintro c9 v ⟨rfl,a8⟩;have q:=U (w.i.ae a8);have I:=U (G.i v q.i.fr);clear w K G a8 b7 b8 b9 c0 c1 c2 of c3;go_wp21;refine I.i.mono ?_;rintro y l ⟨A,S,rfl,b3,a0⟩;have r:=U (show bA (wL b s n o (.slice ix s.bv.length p) e (R++rr v l)) d l from q.i.c7.io A);have b0:af (yu (rr v l) d S):=a0 d (q.i.fr.u A);clear q I A b3 a0;have m:=r.i.aL (i:=0) (R:=b) rfl;have L:l.cell? (Zd b 6)=some (.slice ix s.bv.length p):=aB m rfl;have M:=bi m;have N:=ay m;clear m;have a5:af (∀D,(l.alloc D).ownsRow 0 37 1 (.slice ix s.bv.length p) s.bv.length (s.bv.map vX)):=U (λD=>cf (r.i.bC (i:=3) (a:=uy 37 (.slice ix s.bv.length p) s.bv) rfl) ((ar [] l).A D) Zq);go_wp2_with (at_builtin;(refine kE WP underlying32 (a5.i _) [vX S] (heap_alloc_new l _) Zy b5 Zq (H:=l.heap.size+1) Zq ?_;intro P O c7 a6 a3 a1 b4;have F:=U (r.i.a3 (i:=3) rfl ((ar [] l).A _) a6 a3 a1 Zq);clear a6 a3 a1 b4 a5 L M N r;have m:=F.i.aL (i:=0) (R:=b) rfl;have L:c7.cell? (Zd b 6)=some (.slice ix s.bv.length p):=aB m rfl;have M:=bi m;have N:=ay m;clear m));go_wp2;go_ret;have b1:=F.i.aq (i:=0) (j:=6) rfl (.slice (some ⟨P,0,none⟩) (s.bv.length+1) O);exact⟨rfl,S,n,o,.slice (some ⟨P,0,none⟩) (s.bv.length+1) O,rr v l,by simpa[wL,uy]using b1,b0.i⟩
def Uo(f:List aD)(e:Zb)(v:List dj)(a b c:Int):(oc f e v a b c).length<=1000000000:=by
 unfold oc;split
 .simp
 .rename_i l k;split
  .rename_i m h;obtain⟨i,g,d⟩:=bX h;split at d
   .grind
   cases d
   have j:=Fd (Ur (v.map gN) a.toNat b.toNat c.toNat) 64 0 e ⟨0,[]⟩ _ (YV _) g;grind [hq,kO]
  simp
def UC{S}{v:List dj}{g}(j:DE S c)(u:c.ownsRow 0 52 5 g v.length (v.flatMap cX))(q:∀a∈v,-9223372036854775808<=a.n/\a.n<=9223372036854775807)(w:v.length<=1000000)(f:Zb)(t:c.cell? (Zd 1 0)=some (eM 55))(b d e:Int):∃a:Zb,a.length<=1000000000/\Calls prog 20 #[Zp S,Zs f,g,Y b,Y d,Y e] c λi x=>i=.returned (.tuple #[Zs a,.bool true])/\ap [] c x:=by
 obtain⟨G,h,y,E,C,D,B,A,z,F,H,k,l,m,n,o,p,r,s⟩:=j;exact⟨_,Uo h f v b d e,UB k l m n o p r s u q w f t b d e⟩
end
section
variable {j c : Zw} {d f : Nat} {a l : fl} {h i g e : Zv} {b : List Th} {k : dK}
def Dh(d:Nat)(c:Zw)(f:Nat)(j:Zw):Prop:=∃a h i g e b,bA (wL d a h i g e b) c j/\mS f a/\AA a/\∀S∈a.bv,yu b c S
end
section
structure Dq where
 rv:Zv
 nv:Zv
 pv:Zv
 ov:Zv
 d:Nat
 f:Nat
 z:Nat
 b:Zb
structure Ds where
 l:List dj
 p:Nat
 e:Int
 wh:Int
abbrev rh(q:Dq)(s:Ds)(a:Zv):Array Zv:=#[q.rv,q.nv,q.pv,q.ov,Y q.d,Y q.f,Y q.z,a,Zs q.b,Y s.p,Y s.e,Y s.wh]
abbrev wW(q:Dq)(s:Ds)(a:Zv):Obj:=.cells (rh q s a) 203
def Dw(c:Nat)(q:Dq)(R:List Th)(g:Zw)(s:Ds)(w:Zw):Prop:=∃a,bA (.obj c (wW q s a)::gD a s.l::R) g w
section
variable {g w h : Zw} {c : Nat} {q : Dq} {s m : Ds} {R : List Th}
def Dw.ae(a:Dw c q R g s w)(b:ap [] w h):Dw c q R g s h:=a.imp λ_ a=>a.ae b
theorem Dw.aw(a:Dw c q R g s w)(b:Obj):Dw c q (R++[.obj w.heap.size b]) g s (w.alloc b):=a.imp λ_ a=>(a.A b).id
def Dw.c7{a:Th}(b:Dw c q (R++[a]) g s w):Dw c q R g s w:=b.imp λd b=>IK (L:=.obj c (wW q s d)::gD d s.l::R) b
def Dw.fr(a:Dw c q R g s w):ap [] g w:=a.elim λ_ a=>a.fr
theorem Dw.br{a}{d:Obj}(b:Dw c q R g s w)(e:Th.obj a d∈R):w.heap[a]?=some d:=b.elim λ_ b=>b.y (.obj a d) (Y5 _ (Y5 _ e))
def Dw.op(d:Dw c q R g s w):∃ad b,bA (.obj c (wW q s (.slice ad s.l.length b))::gD (.slice ad s.l.length b) s.l::R) g w:=by
 obtain⟨e,d⟩:=d;obtain⟨ad,b,rfl⟩:=aV (d.bC (i:=1) (a:=gD e s.l) rfl);exact⟨ad,b,d⟩
def Dw.K(d:Dw c q R g s w):∃ad a,(∀i,w.cell? (Zd c i)=(rh q s (.slice ad s.l.length a))[i]?)/\(∀i,w.frozen? ⟨c,i,none⟩=false)/\c<w.heap.size:=by
 obtain⟨ad,a,d⟩:=d.op;have b:=d.aL (i:=0) (R:=c) rfl;exact⟨ad,a,aE b,bi b,ay b⟩
def Dw.i1(a:Dw c q R g s w)(b:Nat):Dw c q R g { s with p:=b } (w.setCell ⟨c,9,none⟩ (Y b)):=a.imp λ_ a=>a.aq (i:=0) (j:=9) rfl (Y b)
def uN(c:Nat)(q:Dq)(R:List Th)(g:Zw)(m:Ds)(v:Zv)(a:Ending)(h:Zw):Prop:=a=.returned v/\Dw c q R g m h
def fK{a args v}{Q:Ending->Zw->Prop}(i:af (Dw c q R g s w))(b:Dw c q R g s w->Calls prog a args w (uN c q R g m v))(d:∀h,af (Dw c q R g m h)->Q (.returned v) h):Calls prog a args w Q:=
 (b i.i).mono λ_ h ⟨e,f⟩=>e▸d h (U f)
def hC(e a:Int)(s:Ds):Ds:=if s.e=0 then { s with e:=e,wh:=a }else s
def pT(e d:Int)(b:Dw c q R g s w):Calls prog 107 #[Zp c,Y e,Y d] w (uN c q R g (hC e d s) (.tuple #[])):=by
 obtain⟨ad,m,l,n,o⟩:=b.K;have k:=U b;unfold hC;by_cases a:s.e=0
 .have f:(s.e==0)=true:=by simp[a]
  rw[Y9 a];clear a;go_in;go_wp2;go_end0;obtain⟨h,b⟩:=b;exact⟨rfl,h,(b.aq (i:=0) (j:=10) rfl (Y e)).aq (i:=0) (j:=11) rfl (Y d)⟩
 .have f:(s.e==0)=false:=by simp[a]
  rw[Y2 a];clear a;go_in;go_wp2;go_end0;exact⟨rfl,b⟩
def eX(a:Zb)(s:Ds):Nat×Ds:=if s.e≠0 then (0,s)else if a.length<s.p+4 then (0,{ s with e:=16,wh:=s.p })else (du ((a.drop s.p).take 4),{ s with p:=s.p+4 })
def wV(G:q.b.length<=1000000000)(O:s.p<=1000000000)(r:Dw c q R g s w):Calls prog 176 #[Zp c] w (uN c q R g (eX q.b s).2 (Y (eX q.b s).1)):=by
 obtain⟨ad,m,j,k,l⟩:=r.K;have d:=U r;unfold eX;clear r;by_cases f:s.e=0
 .have x:(s.e==0)=true:=by simp[f]
  have y:(s.e != 0)=false:=by simp[f]
  rw[Y2 (not_not_intro f)];have u:=U f;clear f;by_cases n:q.b.length<s.p+4
  .have A:(q.b.length:Int)-s.p<4:=Zm;rw[Y9 n];clear n;go_in;go_wp2;go_region;have d:=U (d.i.ae (ar [] w).ag);go_wp21;refine fK d (pT 16 s.p) λE d=>?_;unfold hC at d;rw[Y9 u.i]at d;obtain⟨ad,m,j,k,l⟩:=d.i.K;go_wp2;go_ret;exact⟨rfl,d.i⟩
  .have A:¬(q.b.length:Int)-s.p<4:=Zm;rw[Y2 n];go_in;go_wp2;go_region;have d:=U (d.i.ae (ar [] w).ag);generalize w.drew=E at *
   clear j k l;obtain⟨ad,m,j,k,l⟩:=d.i.K;go_wp2;go_loopw [3,4] (λi o D=>∃a:Nat,o=Y a/\a<=4/\i=Y (du ((q.b.drop s.p).take a))/\af (Dw c q R g s D)) (λ_ o _=>4-(intOf o).toNat)
   case atStart=>exact⟨0,rfl,Zm,by simp[du],d⟩
   case round=>
    obtain⟨a,rfl,L,rfl,d⟩:=hrel;clear j k l;obtain⟨ad,m,j,k,l⟩:=d.i.K;rcases Yj a 4 with C|I
    .have N:s.p+a<q.b.length:=Zm;have B:af (du ((q.b.drop s.p).take (a+1))=du ((q.b.drop s.p).take a)*256+q.b[s.p+a].toNat):=U (by rw[Yt Zx,DV];simp);have H:du ((q.b.drop s.p).take a)<256 ^ 3:=Yr (DU _ _ rfl) (Nat.pow_le_pow_right Zm Zx);have M:(a:Int)<4:=Zm;have a2:=q.b[s.p+a].toNat_lt;have J:0<=(s.p:Int)+a/\(s.p:Int)+a<q.b.length:=Zm;have P:IntKind.i64.wrap ((s.p:Int)+a)=s.p+a:=by rw[IntKind.wrap_i64];omega
     have K:∀z,(⟨q.b.toArray⟩:Za)[((s.p:Int)+a).toNat]'z=q.b[s.p+a]:=λ_=>rfl;generalize du ((q.b.drop s.p).take a)=i at *
     have S:IntKind.i64.wrap (256*(i:Int))=256*i:=by rw[IntKind.wrap_i64];omega
     have a0:IntKind.i64.wrap (q.b[s.p+a].toNat:Int)=q.b[s.p+a].toNat:=by rw[IntKind.wrap_i64];omega
     have a1:IntKind.i64.wrap (256*(i:Int)+q.b[s.p+a].toNat)=256*i+q.b[s.p+a].toNat:=by rw[IntKind.wrap_i64];omega
     go_wp2;refine bJ (λh=>h.cell? (Zd c 8)=some (Zs q.b)/\h.cell? (Zd c 9)=some (Y s.p)) ?_ λF=>?_
     .go_keep
     refine bc [0,1,2,3,4,5,6,7,8,9,10,11,12,13,14] ?_;iterate 15 (refine bh ?_)
     refine be ?_;refine bL λv t=>?_;go_simp;refine t.out _ _ ?_;clear t v;refine nz ?_;go_wp2;exact⟨⟨a+1,Zj,C,by rw[B.i];exact Yo _ Zm,U (d.i.ae (ar [] _).ag)⟩,Zz⟩
    .obtain rfl:a=4:=Zm;go_wp2;go_ret;exact⟨rfl,d.i.i1 _⟩
 .have x:(s.e==0)=false:=by simp[f]
  have y:(s.e != 0)=true:=by simp[f]
  rw[Y9 f];clear f;go_in;go_wp2;go_region;have d:=U (d.i.ae (ar [] w).ag);go_wp2;go_ret;exact⟨rfl,d.i⟩
def la(a:dj)(s:Ds):Ds:={ s with l:=s.l++[a] }
def abn(c:dj):∀b∈cX c,b.oneCell'=true:=by
 intro b a;simp[cX]at a;rcases a with rfl|rfl|rfl|rfl|rfl<;>rfl
def pS(f:dj)(D:s.l.length<=100000)(k:Dw c q R g s w):Calls prog 178 #[Zp c,.agg (cX f).toArray] w (uN c q R g (la f s) (.tuple #[])):=by
 obtain⟨z,k⟩:=k;obtain⟨ad,r,rfl⟩:=aV (k.bC (i:=1) (a:=gD z s.l) rfl);have d:=U (k.A (.cells (cX f).toArray 52)).ag;have m:=aB (d.i.aL (i:=1) (R:=c) rfl) (i:=7) rfl;have n:=aE (d.i.aL (i:=0) (R:=w.heap.size) rfl);clear k;go_in;go_wp2;generalize w.alloc _=A at *
 refine bJ (λh=>h.cell? (Zd c 7)=some (.slice ad s.l.length r)/\∀b,h.cell? (Zd w.heap.size b)=(cX f).toArray[b]?) ?_ λo=>?_
 .exact⟨m,n⟩
 generalize A.drew=p at *
 refine bc [0,1,2,3,4] ?_;iterate 5 (refine bh ?_)
 refine be ?_;refine bI 5 λi e=>?_;(go_simp;have d:=U (d.i.A (.cells (cX f).toArray 52));have m:=aB (d.i.aL (i:=2) (R:=c) rfl) (i:=7) rfl;have n:=aE (d.i.aL (i:=1) (R:=w.heap.size) rfl));refine e.out _ _ ?_ (λo=>?_)
 .go_keep
 clear e i;refine nz ?_;refine bI 6 λi e=>?_;(refine lR (B:=p.heap.size) Fc underlying31 (d.i.bC (i:=3) rfl) (cX f) (heap_alloc_new p _) (abn f) Zm (YV _) rfl ?_;intro u t F y x v E;have d:=U (d.i.a3 (i:=3) rfl (ar [] _) y x v rfl);have m:=aB (d.i.aL (i:=2) (R:=c) rfl) (i:=7) rfl;have n:=aE (d.i.aL (i:=1) (R:=w.heap.size) rfl));refine e.out _ _ ?_ (λo=>?_)
 .go_keep
 clear e i;refine nz ?_;refine bL λi e=>?_;go_simp;refine e.out _ _ ?_;clear e i;refine nz ?_;have C:=bi (d.i.aL (i:=2) (R:=c) rfl);go_wp2;go_end0;exact⟨rfl,_,by simpa[la,gD]using (d.i.aq (i:=2) (j:=7) rfl (.slice (some ⟨u,0,none⟩) (s.l.length+1) t)).au.au⟩
def lZ(b:bt)(a:Nat):Int:=if 2147483647<a/\(b.w=0\/b.w=5)then (a:Int)-4294967296 else a
end
section
variable {r : Nat -> Prop} {o N : Nat} {t : Zb} {k : ah} {w : Zw} {n : PV}
def NZ(c:bw r o t N k n w){a:Nat}(d:a<k.h.length){b:Nat}(m:b<4294967296):Calls prog 177 #[gp n k,Y a,Y b] w λf h=>f=.returned (Y (lZ (k.h.getD a bz) b))/\ap [] w h:=by
 obtain⟨j,i,q,e,g,u,-,-,v,-,-,-,-,x,y,-⟩:=nI c d;generalize k.h.getD a bz=p at *
 have l:(a:Int)<(k.h.length:Int):=Zm;unfold gp;rw[e];generalize k.h.length=s at *
 clear c e d g;go_in;go_wp2;all_goals
  go_ret;refine⟨?_,(ar [] w).A _⟩;unfold lZ;simp_all;try omega
end
end
section
variable {h f d : Zw} {c : Nat} {q : Dq} {a i : Ds} {g : List Th}
def jn(b:Zb)(rq:Int)(a:Ds):Nat×Ds:=((eX b a).1,if(eX b a).2.e=0/\rq<(eX b a).1 then hC 19 a.p (eX b a).2 else (eX b a).2)
def Kk(z:q.b.length<=1000000000)(A:a.p<=1000000000)(rq:Int)(n:Dw c q g h a f):Calls prog 180 #[Zp c,Y rq] f (uN c q g h (jn q.b rq a).2 (Y (jn q.b rq a).1)):=by
 obtain⟨ad,w,r,s,t⟩:=n.K;have d:=U n;clear n;generalize j:jn q.b rq a=v;unfold jn at j;have o:=U j;clear j;go_in;go_wp21;refine fK d (wV z A) λC d=>?_;generalize eX q.b a=B at *
 obtain⟨m,k⟩:=B;dsimp only at *
 clear r s t;obtain⟨ad,w,r,s,t⟩:=d.i.K;by_cases i:k.e=0/\rq<m
 .have u:(k.e==0)=true:=by simp[i.1]
  have j:af (v=(m,hC 19 a.p k)):=U (by rw[<-o.i,Y9 i]);have y:=i.2;clear i;go_wp21;refine fK d (pT 19 a.p) λD d=>?_;go_wp2;go_ret;rw[j.i];exact⟨rfl,d.i⟩
 .have j:af (v=(m,k)):=U (by rw[<-o.i,Y2 i]);by_cases l:k.e=0
  .have u:(k.e==0)=true:=by simp[l]
   have y:¬rq<m:=λx=>i ⟨l,x⟩;clear i l;go_wp2;go_ret;rw[j.i];exact⟨rfl,d.i⟩
  .have u:(k.e==0)=false:=by simp[l]
   clear i l;go_wp2;go_ret;rw[j.i];exact⟨rfl,d.i⟩
def qx(c:Zb)(b:Nat)(a:Ds):Ds:=if a.e≠0 then a else if c.length<a.p+cy b then { a with e:=16,wh:=a.p }else
 match iV b (((c.drop a.p).take (cy b)).drop b)with
 |some d=>⟨a.l++[⟨2,0,((c.drop a.p).take (cy b)).take b,a.p,0⟩],a.p+cy b,17,a.p+d⟩
 |none=>⟨a.l++[⟨2,0,((c.drop a.p).take (cy b)).take b,a.p,0⟩],a.p+cy b,a.e,a.wh⟩
def Ca(c:Zb)(b:Nat)(a:Ds)(f:Nat)(d g:Int):Prop:=(d=0/\g=a.wh/\iV b (c.drop b)=iV (b+f) (c.drop (b+f)))\/∃e,iV b (c.drop b)=some e/\d=17/\g=a.p+e
def Ky(b4:q.b.length<=1000000000)(c1:a.p<=1000000000)(a1:a.l.length<=100000){n:Nat}(c0:n<4294967296)(O:Dw c q g h a f):Calls prog 179 #[Zp c,Y n] f (uN c q g h (qx q.b n a) (.tuple #[])):=by
 obtain⟨ad,B,r,s,t⟩:=O.K;have e:=U O;clear O;generalize M:qx q.b n a=b1;unfold qx at M;have w:=U M;clear M;obtain⟨m,z,c2,a3⟩:∃m:Nat,af (cy n=n+m)/\m<4/\(4-(n:Int) % 4) % 4=m:=⟨cy n-n,U (by unfold cy;omega),by unfold cy;omega,by unfold cy;omega⟩;have c4:IntKind.i64.wrap ((n:Int)+m)=n+m:=by rw[IntKind.wrap_i64];omega
 have c5:IntKind.i64.wrap ((q.b.length:Int)-a.p)=q.b.length-a.p:=by rw[IntKind.wrap_i64];omega
 have c6:IntKind.i64.wrap ((a.p:Int)+n)=a.p+n:=by rw[IntKind.wrap_i64];omega
 go_in;go_upto_region 1 with fail;simp only[a3];clear a3;by_cases x:a.e=0
 .have a4:(a.e==0)=true:=by simp[x]
  have a5:(a.e != 0)=false:=by simp[x]
  have H:=U (w.i.symm.trans (Y2 (not_not_intro x)));have J:=U x;clear x w;by_cases N:q.b.length<a.p+cy n
  .have L:(q.b.length:Int)-a.p<n+m:=by have:=z.i;omega
   have w:=U (H.i.trans (Y9 N));clear N H;refine bJ (λd=>d.cell? (Zd c 10)=some (Y a.e)/\d.cell? (Zd c 8)=some (Zs q.b)/\d.cell? (Zd c 9)=some (Y a.p)) ?_ λR=>?_
   .go_keep
   refine bc [0,1,2,3,4,5,6,7,8,9,10,11,12,13,14,15,16,17,18,19] ?_;iterate 20 (refine bh ?_)
   refine be ?_;refine bL λD y=>?_;go_simp;refine y.out _ _ ?_;clear y D;refine nz ?_;have e:=U (e.i.ae (ar [] f).ag);go_wp21;refine fK e (pT 16 a.p) λb2 e=>?_;unfold hC at e;rw[Y9 J.i]at e;obtain⟨ad,B,r,s,t⟩:=e.i.K;go_wp2;go_end0;rw[w.i];exact⟨rfl,e.i⟩
  .have L:¬(q.b.length:Int)-a.p<n+m:=by have:=z.i;omega
   have w:=U (H.i.trans (Y2 N));clear H;refine bJ (λd=>d.cell? (Zd c 10)=some (Y a.e)/\d.cell? (Zd c 8)=some (Zs q.b)/\d.cell? (Zd c 9)=some (Y a.p)) ?_ λR=>?_
   .go_keep
   refine bc [0,1,2,3,4,5,6,7,8,9,10,11,12,13,14,15,16,17,18,19] ?_;iterate 20 (refine bh ?_)
   refine be ?_;refine bL λD y=>?_;go_simp;refine y.out _ _ ?_;clear y D;refine nz ?_;have e:=U (e.i.ae (ar [] f).ag);generalize f.drew=P at *
   clear r s t;obtain⟨ad,B,r,s,t⟩:=e.i.K;have c3:0<=(a.p:Int)/\(a.p:Int)<=a.p+n/\(a.p:Int)+n<=q.b.length:=by have:=z.i;omega
   have hcut:(⟨q.b.toArray⟩:Za).extract a.p ((a.p:Int)+n).toNat=⟨(((q.b.drop a.p).take (cy n)).take n).toArray⟩:=by
    rw[show ((a.p:Int)+n).toNat=a.p+n by omega,Ki,List.take_take,Nat.min_eq_left (by have:=z.i;omega)]
   go_wp2;have e:=U (e.i.ae (ar [] P).ag);refine bJ (λd=>d.cell? (Zd c 8)=some (Zs q.b)/\d.cell? (Zd c 9)=some (Y a.p)) ?_ λR=>?_
   .go_keep
   refine bc [0,1,2,3,4,5,6,7,8,9,10,11,12,13,14,15,16,17,18,19,20] ?_;iterate 21 (refine bh ?_)
   refine be ?_;refine bL λD y=>?_;(go_simp;refine fK e (pS ⟨2,0,((q.b.drop a.p).take (cy n)).take n,a.p,0⟩ a1) λb2 e=>?_);refine y.out _ _ ?_;clear y D;refine nz ?_;unfold la at e;clear r s t;obtain⟨ad,B,r,s,t⟩:=e.i.K;have e:=U (e.i.i1 (a.p+n));generalize S:(q.b.drop a.p).take (cy n)=o at *
   have K:af (o.length=n+m/\∀F (k:a.p+F<q.b.length) (a7:F<o.length),o[F]=q.b[a.p+F]):=U (by subst S;have:=z.i;exact⟨Zx,λF k a7=>by simp⟩);have u:af (Ca o n a 0 0 a.wh):=U (Y8 ⟨rfl,rfl,rfl⟩);rw[J.i]at e;clear S;go_wp2;go_loopw [5] (λA P=>∃(i:Nat) (j v:Int),A=Y i/\i<=m/\af (Ca o n a i j v)/\af (Dw c q g h ⟨a.l++[⟨2,0,o.take n,a.p,0⟩],a.p+n+i,j,v⟩ P)) (λA _=>m-(intOf A).toNat)
   case atStart=>exact⟨0,0,a.wh,rfl,Zm,u,e⟩
   case round=>
    clear e u r s t;obtain⟨i,j,v,rfl,b8,u,e⟩:=hrel;obtain⟨ad,B,r,s,t⟩:=e.i.K;rcases Yj i m with a2|b5
    .have a1:a.p+n+i<q.b.length:=by have:=z.i;omega
     have b9:(i:Int)<m:=Zm;have b6:0<=(a.p:Int)+n+i/\(a.p:Int)+n+i<q.b.length:=Zm;have b7:∀k,(⟨q.b.toArray⟩:Za)[((a.p:Int)+n+i).toNat]'k=q.b[a.p+n+i]:=λ_=>rfl;have c7:IntKind.i64.wrap ((a.p:Int)+n+i+1)=a.p+n+i+1:=by rw[IntKind.wrap_i64];omega
     go_upto_region 9 with fail;have e:=U (e.i.ae (ar [] wr).ag);go_region;generalize wr.drew=c8 at *
     clear r s t;obtain⟨ad,B,r,s,t⟩:=e.i.K;have E:n+i<o.length:=by have:=K.i.1;omega
     have I:o[n+i]=q.b[a.p+n+i]:=by rw[K.i.2 (n+i) Zm E];congr 1;omega
     by_cases C:q.b[a.p+n+i]=0
     .have b0:((q.b[a.p+n+i].toNat:Int) != 0)=false:=by simp[C]
      have u:af (Ca o n a (i+1) j v):=U (u.i.imp (λ⟨a8,L,a9⟩=>⟨a8,L,JK (i:=n+i) E a9 (I.trans C)⟩) id);have e:=U (e.i.i1 (a.p+n+(i+1)));clear C I E;go_wp2;exact⟨⟨i+1,j,v,Zj,a2,u,e⟩,Zz⟩
     .have b0:((q.b[a.p+n+i].toNat:Int) != 0)=true:=by
       have:q.b[a.p+n+i].toNat≠0:=λk=>C (UInt8.toNat_inj.1 (by simpa using k));simpa using this
      have a0:=(JJ (n:=n) E · (by rw[I];exact C));have u:af (Ca o n a (i+1) (if j=0 then 17 else j) (if j=0 then ((a.p+n+i:Nat):Int)else v)):=U (by
       rcases u.i with⟨rfl,rfl,k⟩|⟨A,k,rfl,rfl⟩
       .exact Ya ⟨n+i,a0 k,rfl,Zx⟩
       .exact Ya ⟨A,k,rfl,rfl⟩)
      clear C I E a0;go_wp21;refine fK e (pT 17 ((a.p+n+i:Nat):Int)) λc9 e=>?_;have G:hC 17 ((a.p+n+i:Nat):Int) ⟨a.l++[⟨2,0,o.take n,a.p,0⟩],a.p+n+i,j,v⟩=⟨a.l++[⟨2,0,o.take n,a.p,0⟩],a.p+n+i,if j=0 then 17 else j,if j=0 then ((a.p+n+i:Nat):Int)else v⟩:=by
       unfold hC;by_cases k:j=0<;>simp[k]
      rw[G]at e;generalize (if j=0 then (17:Int)else j)=a6 at *
      generalize (if j=0 then ((a.p+n+i:Nat):Int)else v)=b3 at *
      clear r s t G;obtain⟨ad,B,r,s,t⟩:=e.i.K;have e:=U (e.i.i1 (a.p+n+(i+1)));go_wp2;exact⟨⟨i+1,a6,b3,Zj,a2,u,e⟩,Zz⟩
    .obtain rfl:i=m:=Zm;have G:af (b1=⟨a.l++[⟨2,0,o.take n,a.p,0⟩],a.p+n+i,j,v⟩):=U (by
      rw[w.i,z.i,<-Nat.add_assoc];rcases u.i with⟨rfl,rfl,k⟩|⟨A,k,rfl,rfl⟩
      .rw[k,List.drop_of_length_le (by have:=K.i.1;omega)];simp[iV,J.i]
      .rw[k])
     go_wp2;go_end0;rw[G.i];exact⟨rfl,e.i⟩
 .have a4:(a.e==0)=false:=by simp[x]
  have a5:(a.e != 0)=true:=by simp[x]
  have w:=U (w.i.symm.trans (Y9 x));clear x;go_region;have e:=U (e.i.ae (ar [] f).ag);go_wp2;go_end0;rw[w.i];exact⟨rfl,e.i⟩
end
section
variable {u : Nat -> Prop} {t r : Nat} {v : Zb} {d : ah} {o j k : Zw} {f : PV} {c : Nat} {s : Ds} {g a h : Nat} {b : Zb} {m : List Th}
abbrev dR(f:PV)(d:ah)(g a h:Nat)(b:Zb):Dq:=⟨f.rv,f.nv,f.pv,Zs d.i,g,a,h,b⟩
def mm(c:Nat)(d:Dq)(m:List Th)(j:Zw)(Q:Ds->Prop)(b:Ending)(e:Zw):Prop:=b=.returned (.tuple #[])/\∃a,Q a/\Dw c d m j a e
def Nn{d}(b:s.e≠0)(h g:Int)(a:Dw c d m j s o):Calls prog 108 #[Zp c,Y h,Y g] o (uN c d m j s (.tuple #[])):=by
 obtain⟨ad,k,i,l,n⟩:=a.K;have p:(s.e != 0)=true:=by simpa using b
 have f:=U a;clear a b;go_in;go_wp2;go_end0;exact⟨rfl,f.i⟩
def xo(a:bt)(b:Zb)(s:Ds):Ds:=la ⟨1,lZ a (eX b s).1,[],0,0⟩ (if(eX b s).2.e=0/\gb a (lZ a (eX b s).1)=false then hC 18 s.p (eX b s).2 else (eX b s).2)
def qv(b:Zb)(s:Ds):Ds:=if b.length<s.p+8 then hC 16 s.p s else s
def yb(b:Zb)(s:Ds):Ds:=la ⟨1,lq ((eX b (qv b s)).1*4294967296+(eX b (eX b (qv b s)).2).1),[],0,0⟩ (eX b (eX b (qv b s)).2).2
def sL(a:bt)(b:Zb)(s:Ds):Ds:=if a.w=2\/a.w=3 then yb b s else if a.w<=5 then xo a b s else if a.w=6 then qx b a.n.toNat s else qx b (jn b a.n s).1 (jn b a.n s).2
def aby{a c:Nat}(f:a<4294967296)(g:c<4294967296):bits .or .i64 (wrap64 ((a:Int)*4294967296)) c=lq (a*4294967296+c):=by
 have d:(BitVec.ofInt 64 (wrap64 ((a:Int)*4294967296))).toNat=a*4294967296:=by
  rw[BitVec.toNat_ofInt];unfold wrap64;omega
 have e:(BitVec.ofInt 64 (c:Int)).toNat=c:=by
  rw[BitVec.toNat_ofInt];omega
 have key:(BitVec.ofInt 64 (wrap64 ((a:Int)*4294967296)) ||| BitVec.ofInt 64 (c:Int)).toNat=a*4294967296+c:=by
  rw[BitVec.toNat_or,d,e];have:=Nat.shiftLeft_add_eq_or_of_lt (i:=32) (b:=c) Zm a;rw[Nat.shiftLeft_eq]at this;exact this.symm
 show IntKind.i64.wrap ((BitVec.ofInt 64 (wrap64 ((a:Int)*4294967296)) ||| BitVec.ofInt 64 (c:Int)).toNat:Nat)=_;rw[key,IntKind.wrap_i64];unfold lq;split<;>omega
def sF(b:Zb)(s:Ds):(eX b s).1<4294967296:=by
 unfold eX;split
 .simp
 .split
  .simp
  .exact Yr (DU _ _ rfl) (Yz (Nat.pow_le_pow_right Zm (show _<=4 by simp;omega)) Zm)
def xb(b:Zb){s:Ds}(a:s.p<=b.length):(eX b s).2.p<=b.length/\(eX b s).2.l=s.l:=by
 unfold eX;split
 .exact⟨a,rfl⟩
 .split
  .exact⟨a,rfl⟩
  .exact⟨Zx,rfl⟩
def Kf(b:Zb)(c:Int){s:Ds}(a:s.p<=b.length):(jn b c s).2.p<=b.length/\(jn b c s).2.l=s.l:=by
 unfold jn hC;split
 .split<;>exact xb b a
 .exact xb b a
def acy(a3:bw u t v r d f j){N:Nat}(a9:N<d.h.length){n:bt}(c1:d.h.getD N bz=n)(f6:n.w≠14/\0<=n.w)(f8:n.aH.length<=1000000000)(b0:n.w=6->0<=n.n/\n.n<=4294967295)(i1:a<=100000)(h8:b.length<=100000000)(c5:Nat)(d2:s.e=0)(b9:s.p<=b.length)(i4:s.l.length<=a)(b1:Dw c (dR f d g a h b) m j s o){Q:Ds->Prop}
  (hF:a<=s.l.length->Q (hC 15 s.p s)) (d1:s.l.length<a->n.w<=8->Q (sL n b s))
  (c9:s.l.length<a->8<n.w->∀q a8 E,f.ls[N]?=some q->Dw c (dR f d g a h b) a8 j s E->Calls prog 181 #[Zp c,.agg (ew n q).toArray,Y c5] E (mm c (dR f d g a h b) a8 j Q)) :
  Calls prog 108 #[Zp c,Y N,Y c5] o (mm c (dR f d g a h b) m j Q):=by
 obtain⟨ad,K,w,z,A⟩:=b1.K;obtain⟨h7,h6,c2,a5,B,g5,g6,g7,g8,g9,h0,h1,h2,h3,h4,h5⟩:=nI (a3.az b1.fr) a9;have c6:d.h[N]?=some (d.h.getD N bz):=by simp[a9]
 obtain⟨d5,d6⟩:=a3.dr N _ c2 c6 B;have e6:=U (λ(k:Zw) (a4:ap [] j k) (C:Int)=>Bg (a3.az a4) a9 (by rw[c1];exact f8) C);have e7:=U (λ(k:Zw) (a4:ap [] j k) {C:Nat} (L:C<4294967296)=>NZ (a3.az a4) a9 L);have I:=U (λH S a8 E=>c9 H S c2 a8 E B);rw[c1]at *
 obtain⟨e1,e2,H⟩:=aV d5;obtain⟨d7,d8,S⟩:=aV d6;obtain⟨a6,O⟩:=c2;simp only at H S;subst H S;have i2:(N:Int)<(d.h.length:Int):=Zm;have i:=U (b1.aw (.cells (ew n (.slice e1 n.aH.length e2,.slice d7 n.aC.length d8)).toArray 117));simp only[rh,a5]at w;have i3:(n.w==14)=false:=by simpa using f6.1
 have h9:(s.e != 0)=false:=by simp[d2]
 clear a3 b1 d5 d6 c6 B c9 c1;go_in;go_upto_region 6 with fail;generalize a4:o.alloc _=k at *
 clear w z A g5 g6 g7 g8 g9 h0 h1 h2 h3 h4 h5;obtain⟨ad,K,w,z,A⟩:=i.i.K;have x:=i.i.br (Ym m Yb);have f0:k.cell? (Zd c 7)=some (.slice ad s.l.length K):=w 7;have e9:k.cell? (Zd c 5)=some (Y a):=w 5;refine bJ (λE=>E.cell? (Zd c 7)=some (.slice ad s.l.length K)/\E.cell? (Zd c 5)=some (Y a)) ?_ λd0=>?_
 .go_keep
 refine bc [0,1,2,3,4,5,6,7,8,9] ?_;iterate 10 (refine bh ?_)
 refine be ?_;refine bL λb5 a2=>?_;go_simp;refine a2.out _ _ ?_;clear a2 b5;refine nz ?_;have i:=U (i.i.ae (ar [] k).ag);have x:=(((ar [] k).ag).al _ (ay x) Zq).trans x;generalize k.drew=D at *
 clear w z A f0 e9 d0 a4;obtain⟨ad,K,w,z,A⟩:=i.i.K;have e3:D.cell? (Zd o.heap.size 0)=some (Y n.w):=aB x rfl;by_cases H:a<=s.l.length
 .have f3:(a:Int)<=s.l.length:=Zm;have y:=U (hF H);go_wp21;refine fK i (pT 15 s.p) λa7 i=>?_;go_wp2;go_end0;exact⟨rfl,_,y.i,i.i.c7⟩
 .have f3:¬(a:Int)<=s.l.length:=Zm;have d4:s.l.length<a:=Zm;have I:=U (I.i d4);have F:=U (d1 d4);clear hF d1 H;have c3:D.cell? (Zd o.heap.size 1)=some (Y n.n):=aB x rfl;have i0:(s.e==0)=true:=by simp[d2]
  go_upto_if 76 with fail;go_cut [76] (λG wc=>G=.bool (decide (n.w=0\/n.w=1\/n.w=4\/n.w=5))/\D=wc);case first=>
   go_wp2;all_goals
    go_meet;refine⟨Yo Value.bool ?_,rfl⟩;rw[Bool.eq_iff_iff];simp_all
  case rest=>
  obtain⟨rfl,rfl⟩:=hcut;by_cases L:n.w=0\/n.w=1\/n.w=4\/n.w=5
  .rw[decide_eq_true L];have y:af (Q (xo n b s)):=U (by have:=F.i Zm;unfold sL at this;rwa[Y2 Zm,Y9 Zm]at this);clear L F I;generalize x:xo n b s=g2 at y;unfold xo at x;have J:=U x;clear x;go_wp21;refine fK i (wV (q:=dR f d g a h b) (by dsimp only;omega) Zm) λa7 i=>?_;have f7:=sF b s;have d3:=U (xb b b9);dsimp only at *
   generalize eX b s=P at *
   obtain⟨C,a1⟩:=P;dsimp only at *
   clear w z A e3 c3 x;obtain⟨ad,K,w,z,A⟩:=i.i.K;simp only[rh,a5]at w;have b6:=U (e7.i a7 i.i.fr f7);unfold gp at b6;simp only[a5]at b6;go_wp21;refine b6.i.mono ?_;rintro c7 b2 ⟨rfl,f9⟩;have i:=U (i.i.ae f9);clear w z A;obtain⟨ad,K,w,z,A⟩:=i.i.K;simp only[rh,a5]at w;have b7:=U (e6.i b2 i.i.fr (lZ n C));unfold gp at b7;simp only[a5]at b7;generalize lZ n C=c4 at *
   go_wp21;refine b7.i.mono ?_;rintro c7 e5 ⟨rfl,g0⟩;have i:=U (i.i.ae g0);clear w z A;obtain⟨ad,K,w,z,A⟩:=i.i.K;generalize gb n c4=c8 at *
   go_upto_region 18 with fail;go_cut [105] (λG wc=>G=.bool (decide (a1.e=0/\c8=false))/\e5=wc);case first=>
    go_wp2;all_goals
     go_meet;refine⟨Yo Value.bool ?_,rfl⟩;rw[Bool.eq_iff_iff];simp_all
   case rest=>
   obtain⟨rfl,rfl⟩:=hcut;by_cases B:a1.e=0/\c8=false
   .rw[decide_eq_true B];have J:=U (J.i.symm.trans (Yo (la _) (Y9 B)));clear B;go_wp21;refine fK i (pT 18 s.p) λg3 i=>?_;go_wp21;refine fK i (pS ⟨1,c4,[],0,0⟩ ?_) λg4 i=>?_
    .have:=d3.i.2;unfold hC;split<;>simp only[this]<;>omega
    go_wp2;go_end0;exact⟨rfl,_,y.i,J.i▸i.i.c7⟩
   .rw[decide_eq_false B];have J:=U (J.i.symm.trans (Yo (la _) (Y2 B)));clear B;go_wp21;refine fK i (pS ⟨1,c4,[],0,0⟩ (by have:=d3.i.2;simp only[this];omega)) λg4 i=>?_;go_wp2;go_end0;exact⟨rfl,_,y.i,J.i▸i.i.c7⟩
  .rw[decide_eq_false L];go_upto_if 113 with fail;go_cut [113] (λG wc=>G=.bool (decide (n.w=2\/n.w=3))/\D=wc);case first=>
    go_wp2;all_goals
     go_meet;refine⟨Yo Value.bool ?_,rfl⟩;rw[Bool.eq_iff_iff];simp_all
   case rest=>
   obtain⟨rfl,rfl⟩:=hcut;by_cases M:n.w=2\/n.w=3
   .rw[decide_eq_true M];have y:af (Q (yb b s)):=U (by have:=F.i Zm;unfold sL at this;rwa[Y9 M]at this);clear L M F I e3 c3 x;generalize x:yb b s=g2 at y;unfold yb at x;have J:=U x;clear x;have f1:D.cell? (Zd c 8)=some (Zs b):=w 8;have f2:D.cell? (Zd c 9)=some (Y s.p):=w 9;have i5:IntKind.i64.wrap ((b.length:Int)-s.p)=b.length-s.p:=by rw[IntKind.wrap_i64];omega
    go_upto_region 23 with fail;go_cut [126] (λG wc=>G=.bool (decide (b.length<s.p+8))/\wc=D.drew);case first=>
     refine bJ (λE=>E.cell? (Zd c 8)=some (Zs b)/\E.cell? (Zd c 9)=some (Y s.p)) ?_ λd0=>?_
     .go_keep
     refine bc [0,1,2,3,4,5,6,7,8,9] ?_;iterate 10 (refine bh ?_)
     refine be ?_;refine bL λb5 a2=>?_;go_simp;refine a2.out _ _ ?_;clear a2 b5;refine nz ?_;go_wp2;go_meet;exact⟨Yo Value.bool (decide_eq_decide.2 Zm),rfl⟩
    case rest=>
    obtain⟨rfl,rfl⟩:=hcut;have i:=U (i.i.ae (ar [] D).ag);generalize D.drew=i9 at *
    clear w z A f1 f2;obtain⟨ad,K,w,z,A⟩:=i.i.K;go_upto_if 126 with fail;go_cut [] (λwc=>af (Dw c (dR f d g a h b) (m++[.obj o.heap.size (.cells (ew n (.slice e1 n.aH.length e2,.slice d7 n.aC.length d8)).toArray 117)]) j (qv b s) wc));case first=>
     by_cases a0:b.length<s.p+8
     .rw[decide_eq_true a0];have b3:af (qv b s=hC 16 s.p s):=U (Y9 a0);clear a0;go_wp21;refine fK i (pT 16 s.p) λb2 i=>?_;go_wp2;go_meet;rw[b3.i];exact i
     .rw[decide_eq_false a0];have b3:af (qv b s=s):=U (Y2 a0);clear a0;go_wp2;go_meet;rw[b3.i];exact i
    case rest=>
    have c0:(qv b s).p<=b.length/\(qv b s).l=s.l:=by unfold qv hC;split<;>(try split)<;>exact⟨b9,rfl⟩
    generalize qv b s=e4 at *
    have i:=hcut;have a6:=sF b e4;have O:=xb b c0.1;go_wp21;refine fK i (wV (q:=dR f d g a h b) (by dsimp only;omega) Zm) λb2 i=>?_;dsimp only at *
    generalize eX b e4=P at *
    obtain⟨C,a1⟩:=P;dsimp only at *
    have d9:=sF b a1;have e0:=xb b O.1;go_wp21;refine fK i (wV (q:=dR f d g a h b) (by dsimp only;omega) Zm) λe5 i=>?_;dsimp only at *
    generalize eX b a1=P at *
    obtain⟨g1,i8⟩:=P;dsimp only at *
    have b4:=U (e0.2.trans (O.2.trans c0.2));clear O e0 c0;go_wp21;rw[aby a6 d9];refine fK i (pS ⟨1,lq (C*4294967296+g1),[],0,0⟩ (by rw[b4.i];omega)) λg3 i=>?_;go_wp2;go_end0;exact⟨rfl,_,y.i,J.i▸i.i.c7⟩
   .rw[decide_eq_false M];by_cases R:n.w=6
    .have f4:(n.w==6)=true:=by simp[R]
     have y:af (Q (qx b n.n.toNat s)):=U (by have:=F.i Zm;unfold sL at this;rwa[Y2 M,Y2 Zm,Y9 R]at this);replace b0:=b0 R;obtain⟨C,f5⟩:=Int.eq_ofNat_of_zero_le b0.1;rw[f5]at c3 y b0;clear R L M F I;go_wp21;refine fK i (Ky (q:=dR f d g a h b) (by dsimp only;omega) Zm Zm Zm) λa7 i=>?_;go_wp2;go_end0;exact⟨rfl,_,y.i,i.i.c7⟩
    .have f4:(n.w==6)=false:=by simp[R]
     go_upto_if 150 with fail;go_cut [150] (λG wc=>G=.bool (decide (n.w=7\/n.w=8))/\D=wc);case first=>
      go_wp2;all_goals
       go_meet;refine⟨Yo Value.bool ?_,rfl⟩;rw[Bool.eq_iff_iff];simp_all
     case rest=>
     obtain⟨rfl,rfl⟩:=hcut;by_cases b8:n.w=7\/n.w=8
     .rw[decide_eq_true b8];have y:af (Q (qx b (jn b n.n s).1 (jn b n.n s).2)):=U (by have:=F.i Zm;unfold sL at this;rwa[Y2 M,Y2 Zm,Y2 R]at this);clear R b8 L M F I;have a6:=sF b s;have O:=Kf b n.n b9;go_wp21;refine fK i (Kk (q:=dR f d g a h b) (by dsimp only;omega) Zm n.n) λa7 i=>?_;dsimp only at *
      rw[show (eX b s).1=(jn b n.n s).1 from rfl]at a6;generalize jn b n.n s=P at *
      obtain⟨C,a1⟩:=P;dsimp only at *
      have b4:=U O.2;have d9:=O.1;clear O;go_wp21;refine fK i (Ky (q:=dR f d g a h b) (by dsimp only;omega) Zm (by rw[b4.i];omega) a6) λb2 i=>?_;go_wp2;go_end0;exact⟨rfl,_,y.i,i.i.c7⟩
     .rw[decide_eq_false b8];have e8:=U (I.i Zm _ _ i.i);have i6:=aE x;clear I F;go_wp21;refine e8.i.mono ?_;rintro c7 a7 ⟨rfl,i7,H,S⟩;have y:=U H;have i:=U S;go_wp2;go_end0;exact⟨rfl,_,y.i,i.i.c7⟩
end
section
variable {g:Bool}{a:dJ}{f:bt}
section
variable {b : Zb} {c dp : Nat} {d : bP}
abbrev nR(a:kB):dj:=⟨a.w,a.n,a.s,a.y,a.am⟩
abbrev dl(d:bP):Ds:=⟨d.a0.map nR,d.aa,0,0⟩
def gT(b:Zb)(c:Nat)(f:Except Mar.ac bP)(g:Ds):Prop:=match f with
 |.ok d=>g=dl d/\d.aa<=b.length/\d.a0.length<=c
 |.error a=>(a.no:Int)≠0/\g.e=a.no/\g.wh=a.y
def Ae(h:d.aa<=b.length):match jf b d with
  |.ok (g,a)=>eX b (dl d)=(g,dl a)/\a.aa<=b.length/\a.a0=d.a0
  |.error c=>eX b (dl d)=(0,{ dl d with e:=c.no,wh:=c.y })/\c=⟨16,d.aa⟩:=by
 unfold jf md eX;by_cases f:b.length<d.aa+4
 .simp[f,aA]
 .simp[f,aA];omega
def Kg(l:d.aa<=b.length)(a:Int):match ie b a false d with
  |.ok (c,f)=>jn b a (dl d)=(c,dl f)/\f.aa<=b.length/\f.a0=d.a0
  |.error g=>(g.no:Int)≠0/\(jn b a (dl d)).2.e=g.no/\(jn b a (dl d)).2.wh=g.y:=by
 have i:=Ae l;unfold ie jn;cases k:jf b d with
 |error g=>
  rw[k]at i;obtain⟨h,rfl⟩:=i;simp[h,aA]
 |ok o=>
  obtain⟨c,f⟩:=o;rw[k]at i;obtain⟨h,m,n⟩:=i;by_cases j:(c:Int)<=a
  .have:¬a<c:=Zm;simp[h,aA,j,this,m,n]
  .have:a<c:=Zm;simp[h,aA,j,this,hC]
def vk{b:Type}{a:bP->Except Mar.ac b}(e:d.a0.length<c):aA (ft c d) a=a d:=by
 unfold ft;rw[Y2 Zm];rfl
def sn{x}{y:dj}(a:d.aa<=b.length)(f:d.a0.length<c)(e:y=nR x):gT b c (.ok (dq x d)) (la y (dl d)):=⟨by simp[la,dq,e],a,by simp[dq];omega⟩
def NX{k:Nat}(g:k<4294967296)(d:a.c4<0↔f.w=0\/f.w=5):lZ f k=fM a k:=by
 unfold lZ fM;by_cases b:a.c4<0
 .have:=d.1 b;by_cases c:k<2147483648
  .simp[b,c];omega
  .simp[b,c,this];omega
 .have:¬(f.w=0\/f.w=5):=λe=>b (d.2 e);simp[b,this]
def aa2(r:d.aa<=b.length)(j:d.a0.length<c)(t:a.bB=false)(s:a.c4<0↔f.w=0\/f.w=5)(q:∀k,-9223372036854775808<=k/\k<=9223372036854775807->gb f k=a.br k):gT b c ((bk b dp c).num a d) (xo f b (dl d)):=by
 show gT b c (aA (ft c d) _) _;rw[vk j];unfold nF xo;rw[t];have e:=Ae r;have h:=sF b (dl d);simp only[Ye,if_false]
 cases l:jf b d with
 |error w=>
  rw[l]at e;obtain⟨g,rfl⟩:=e;simp[g,aA,gT,la]
 |ok u=>
  obtain⟨k,v⟩:=u;rw[l]at e;obtain⟨g,n,o⟩:=e;rw[g]at h ⊢;have m:=NX (k:=k) h s;have p:-9223372036854775808<=fM a k/\fM a k<=9223372036854775807:=by unfold fM;simp only at h;split<;>(try split)<;>omega
  rw[m,q _ p];cases i:a.br (fM a k)with
  |true=>simp only[aA,i,if_true];simp only[Bool.true_eq_false,and_false,if_false];exact sn n (by rw[o];exact j) rfl
  |false=>simp[aA,i,gT,la,hC]
def ag3(o:d.aa<=b.length)(g:d.a0.length<c)(n:a.bB=true)(m:∀e,-9223372036854775808<=e/\e<=9223372036854775807->a.br e=true):gT b c ((bk b dp c).num a d) (yb b (dl d)):=by
 show gT b c (aA (ft c d) _) _;rw[vk g];unfold nF md yb qv;rw[n];simp only[if_true]
 by_cases f:b.length<d.aa+8
 .simp[f,aA,hC,eX,la,gT]
 .have h:eX b (dl d)=(du ((b.drop d.aa).take 4),{ dl d with p:=d.aa+4 }):=by
   unfold eX;rw[Y2 Zq,Y2 Zx]
  have i:eX b { dl d with p:=d.aa+4 } = (du ((b.drop (d.aa+4)).take 4),{ dl d with p:=d.aa+8 }):=by
   unfold eX;rw[Y2 Zq,Y2 Zx]
  have j:du ((b.drop d.aa).take 8)=du ((b.drop d.aa).take 4)*4294967296+du ((b.drop (d.aa+4)).take 4):=by
   rw[show (b.drop d.aa).take 8=(b.drop d.aa).take 4++(b.drop (d.aa+4)).take 4 by rw[show 8=4+4 from rfl,List.take_add,List.drop_drop]];exact Sj Zx
  have k:-9223372036854775808<=lq (du ((b.drop d.aa).take 8))/\lq (du ((b.drop d.aa).take 8))<=9223372036854775807:=by
   have:=AN (l:=(b.drop d.aa).take 8) Zx;unfold lq;split<;>omega
  simp only[f,if_false,aA,m _ k,if_true]
  rw[h];simp only;rw[i];simp only;rw[<-j];exact sn (d:={ d with aa:=d.aa+8 }) Zx g rfl
def OV(h:d.aa<=b.length)(g:d.a0.length<c)(a:Nat):gT b c (aA (qm b a d) λf=>.ok (dq ⟨2,0,f.1,0,d.aa⟩ f.2)) (qx b a (dl d)):=by
 unfold qm md qx;by_cases e:b.length<d.aa+cy a
 .simp[e,aA,gT]
 .simp only[e,if_false,aA]
  simp only[ne_eq,not_true,if_false]
  cases iV a (((b.drop d.aa).take (cy a)).drop a)with
  |some i=>exact⟨Zq,rfl,Zq⟩
  |none=>exact sn (d:={ d with aa:=d.aa+cy a }) Zx g rfl
def afk{a}{c:Ds}(d:c.e≠0):qx b a c=c:=by unfold qx;rw[Y9 d]
def agn{a:Int}(m:d.aa<=b.length)(k:d.a0.length<c)(u:5<f.w)(l:f.w=6↔g=true)(p:f.n=a):gT b c ((bk b dp c).text a g d) (sL f b (dl d)):=by
 show gT b c (aA (ft c d) _) _;rw[vk k];unfold sL;rw[Y2 Zm,Y2 Zm,p];cases g with
 |true=>
  rw[Y9 (l.2 rfl)];exact OV m k a.toNat
 |false=>
  rw[Y2 (λo=>by cases l.1 o)];have i:=Kg m a;cases n:ie b a false d with
  |error t=>
   rw[n]at i;obtain⟨e,h,j⟩:=i;rw[afk (by rw[h];exact e)];exact⟨e,h,j⟩
  |ok r=>
   obtain⟨q,s⟩:=r;rw[n]at i;obtain⟨e,h,j⟩:=i;rw[e];exact OV h (by rw[j];exact k) q
def Xy{a:Int}(k:d.aa<=b.length)(i:d.a0.length<c){j:Nat}{n:Ds}(h:(if g then (a.toNat,dl d)else jn b a (dl d))=(j,n)){D}:∃m,gT b c m (la ⟨3,0,[],0,j⟩ n)/\(aA ((bk b dp c).bH a g d) λe=>hE D e.1 e.2)=aA m (ii (λ_=>D) 0 j):=by
 have o:(aA ((bk b dp c).bH a g d) λe=>hE D e.1 e.2)=aA (ie b a g d) λe=>hE D e.1 (dq ⟨3,0,[],e.1,0⟩ e.2):=by
  show aA (aA (ft c d) _) _=_;rw[vk i];cases ie b a g d<;>rfl
 rw[o];cases g with
 |true=>
  cases h
  exact⟨_,sn k i rfl,(BA D ..).symm⟩
 |false=>
  have f:=Kg k a;simp only[Ye,if_false]at h
  rw[h]at f;cases l:ie b a false d with
  |error p=>
   rw[l]at f;exact⟨.error p,f,rfl⟩
  |ok t=>
   obtain⟨v,u⟩:=t;rw[l]at f;obtain⟨q,r,s⟩:=f;cases q
   exact⟨_,sn r (by rw[s];exact i) rfl,(BA D ..).symm⟩
end
end
section
variable {i : ah} {k e m : Zw} {f : PV} {d : Nat} {g a h dp o : Nat} {b : Zb} {j : List Th} {c : bP} {r : bt} {q : Zv × Zv}
def abT(b5:cI q.1 r.aH e)(b6:cI q.2 r.aC e)(e1:0<=r.n/\r.n<=4294967295)(d8:a<=100000)(d7:b.length<=100000000){w}(N:r.w=if w then 9 else 10)(b3:c.aa<=b.length)(O:c.a0.length<a){D:eU bP}
  (a8:∀v a4 c1,v.aa<=b.length->v.a0.length<=a->Dw d (dR f i g a h b) a4 e (dl v) c1->Calls prog 108 #[Zp d,Y r.of,Y dp] c1 (mm d (dR f i g a h b) a4 e (gT b a (D v)))) (R:Dw d (dR f i g a h b) j e (dl c) k) :
  Calls prog 181 #[Zp d,.agg (ew r q).toArray,Y dp] k (mm d (dR f i g a h b) j e (gT b a (aA ((bk b o a).bH r.n w c) λb8=>hE D b8.1 b8.2))):=by
 obtain⟨a1,a2,F⟩:=aV b5;obtain⟨S,a0,G⟩:=aV b6;obtain⟨e2,e3⟩:=q;simp only at F G;subst F G;have p:=U (R.aw (.cells (ew r (.slice a1 r.aH.length a2,.slice S r.aC.length a0)).toArray 117));have c5:=U a8;have M:=Kf b r.n (s:=dl c) b3;have H:=sF b (dl c);rw[show (eX b (dl c)).1=(jn b r.n (dl c)).1 from rfl]at H;generalize z:(if w then (r.n.toNat,dl c)else jn b r.n (dl c))=c7
 obtain⟨t,J⟩:=c7;obtain⟨c0,b4,b1⟩:=Xy (dp:=o) b3 O z (D:=D);rw[b1];have e0:t<4294967296/\J.l.length<a:=by
  cases w with
  |true=>cases z;exact⟨by simp only at *;omega,by simpa using O⟩
  |false=>
   simp only[Ye,if_false]at z
   rw[z]at M H;exact⟨H,by rw[M.2];simpa using O⟩
 generalize a9:aA c0 (ii (λ_=>D) 0 t)=K;have y:=U a9;have x:=U b4;have a3:=U z;obtain⟨ad,a5,B,C,E⟩:=R.K;have d3:(r.w==9)=w:=by cases w<;>simp[N]
 have d2:(r.w==10) = !w:=by cases w<;>simp[N]
 clear N;clear a9 b1 b4 R a8 b5 b6 z M H;go_in;go_upto_region 3 with fail;generalize k.alloc _=m at *
 clear B C E;obtain⟨ad,a5,B,C,E⟩:=p.i.K;have b0:=p.i.br (Ym j Yb);have b9:=aE b0;go_upto_if 22 with fail;go_cut [22] (λL wc=>L=.bool true/\m=wc);case first=>
  go_wp2;all_goals
   go_meet;simp_all
 case rest=>
 obtain⟨rfl,rfl⟩:=hcut;go_upto_if 29 with fail;go_cut [7] (λL wc=>L=Y t/\af (Dw d (dR f i g a h b) (j++[.obj k.heap.size (.cells (ew r (.slice a1 r.aH.length a2,.slice S r.aC.length a0)).toArray 117)]) e J wc));case first=>
  cases w
  .have c3:af (jn b r.n (dl c)=(t,J)):=U a3.i;go_wp21;refine fK p (Kk (q:=dR f i g a h b) (by dsimp only;omega) (by dsimp only;omega) r.n) λd1 p=>?_;dsimp only at p ⊢;rw[c3.i]at p ⊢;go_wp2;go_meet;exact⟨rfl,p⟩
  .have a6:=a3.i;simp only[if_true,Prod.mk.injEq]at a6
   obtain⟨rfl,rfl⟩:=a6;go_wp2;go_meet;exact⟨Yo _ Zm,p⟩
 case rest=>
 obtain⟨rfl,p⟩:=hcut;rename Zw=>d1;go_wp21;refine fK p (pS ⟨3,0,[],0,t⟩ Zm) λe4 p=>?_;generalize la ⟨3,0,[],0,t⟩ J=c9 at *
 clear B C E b0 b9;go_wp2;go_loopw [8] (λP m=>∃(u:Nat) (A:Ds) (I:Except Mar.ac bP),P=Y u/\u<=t/\af (gT b a I A)/\af (aA I (ii (λ_=>D) u (t-u))=K)/\af (Dw d (dR f i g a h b) (j++[.obj k.heap.size (.cells (ew r (.slice a1 r.aH.length a2,.slice S r.aC.length a0)).toArray 117)]) e A m)) (λP _=>t-(intOf P).toNat)
 case atStart=>exact⟨0,c9,c0,rfl,Zm,x,y,p⟩
 case round=>
  clear p x y;obtain⟨u,A,I,rfl,d9,x,y,p⟩:=hrel;obtain⟨ad,a5,B,C,E⟩:=p.i.K;have b9:=aE (p.i.br (Ym j Yb));cases I with
  |error d6=>
   have d4:(A.e==0)=false:=by rw[x.i.2.1];simpa using x.i.1
   by_cases b2:(u:Int)<t;all_goals
    go_wp2;go_end0;exact⟨rfl,A,y.i▸x.i,p.i.c7⟩
  |ok v=>
   obtain⟨rfl,F,G⟩:=x.i;by_cases b2:u<t
   .have c8:(u:Int)<t:=Zm;have c6:=U (c5.i v _ _ F G p.i);have y:af (aA (D v) (ii (λ_=>D) (u+1) (t-(u+1)))=K):=U (by rw[<-y.i,show t-u=(t-(u+1))+1 by omega];rfl);go_wp21;refine c6.i.mono ?_;rintro d5 e5 ⟨rfl,d0,a7,b7⟩;have c4:=U a7;have p:=U b7;clear a7 b7;go_wp2;exact⟨⟨u+1,d0,_,Zj,b2,c4,y,p⟩,Zz⟩
   .have c8:¬(u:Int)<t:=Zm;have c2:af (K=.ok v):=U (by rw[<-y.i,show t-u=0 by omega];rfl);go_wp2;go_end0;exact⟨rfl,dl v,c2.i▸x.i,p.i.c7⟩
def abV(S:cI q.1 r.aH e)(a0:cI q.2 r.aC e)(c4:a<=100000)(c7:r.aC.length<=1000000)(A:r.w=12)(b5:c.aa<=b.length)(b3:c.a0.length<a){u:Nat->eU bP}
  (O:∀l s K a6,l<r.aC.length->s.aa<=b.length->s.a0.length<=a->Dw d (dR f i g a h b) K e (dl s) a6->Calls prog 108 #[Zp d,Y (r.aC.getD l 0),Y dp] a6 (mm d (dR f i g a h b) K e (gT b a (u l s)))) (I:Dw d (dR f i g a h b) j e (dl c) k) :
  Calls prog 181 #[Zp d,.agg (ew r q).toArray,Y dp] k (mm d (dR f i g a h b) j e (gT b a (ii u 0 r.aC.length (dq ⟨3,0,[],r.aC.length,0⟩ c)))):=by
 obtain⟨a4,a5,y⟩:=aV S;obtain⟨a2,a3,z,R⟩:=a0.bH;obtain⟨c9,d0⟩:=q;simp only at y z;subst y z;have n:=U (I.aw (.cells (ew r (.slice a4 r.aH.length a5,.slice a2 r.aC.length a3)).toArray 117));have a9:=U O;have b0:=U R;obtain⟨ad,b1,D,E,F⟩:=I.K;have c2:(r.w==9)=false:=by simp[A]
 have c0:(r.w==10)=false:=by simp[A]
 have c1:(r.w==12)=true:=by simp[A]
 have o:=U (sn (b:=b) (x:=⟨3,0,[],r.aC.length,0⟩) (y:=⟨3,0,[],0,r.aC.length⟩) b5 b3 rfl);generalize P:ii u 0 r.aC.length (dq ⟨3,0,[],r.aC.length,0⟩ c)=C;have p:af (aA (.ok (dq ⟨3,0,[],r.aC.length,0⟩ c)) (ii u 0 r.aC.length)=C):=U P;generalize Except.ok (dq ⟨3,0,[],r.aC.length,0⟩ c)=b6 at *
 clear P I O S a0 R A;go_in;go_upto_region 3 with fail;generalize k.alloc _=m at *
 clear D E F;obtain⟨ad,b1,D,E,F⟩:=n.i.K;have J:=aE (n.i.br (Ym j Yb));go_wp21;refine fK n (pS ⟨3,0,[],0,r.aC.length⟩ Zx) λd1 n=>?_;generalize la ⟨3,0,[],0,r.aC.length⟩ (dl c)=b7 at *
 clear D E F J;go_wp2;go_loopw [9] (λH m=>∃(l:Nat) (w:Ds) (t:Except Mar.ac bP),H=Y l/\l<=r.aC.length/\af (gT b a t w)/\af (aA t (ii u l (r.aC.length-l))=C)/\af (Dw d (dR f i g a h b) (j++[.obj k.heap.size (.cells (ew r (.slice a4 r.aH.length a5,.slice a2 r.aC.length a3)).toArray 117)]) e w m)) (λH _=>r.aC.length-(intOf H).toNat)
 case atStart=>exact⟨0,b7,b6,rfl,Zm,o,p,n⟩
 case round=>
  clear n o p;obtain⟨l,w,t,rfl,c6,o,p,n⟩:=hrel;rcases Yj l r.aC.length with v|c5
  .obtain⟨c8,rfl,B⟩:=b0.i l v;have G:r.aC.getD l 0=r.aC[l]:=by simp[v]
   rw[Nat.mul_one,G]at B;have B:=n.i.fr.a5 Zq B;have J:=aE (n.i.br (Ym j Yb));have b4:(l:Int)<r.aC.length:=Zm;have M:r.aC.length-l=(r.aC.length-(l+1))+1:=Zm;rw[M]at p;clear M;cases t with
   |error b2=>
    have b9:=U o.i.1;go_wp21;refine fK n (Nn (by rw[o.i.2.1];exact o.i.1) _ _) λd2 n=>?_;go_wp2;exact⟨⟨l+1,w,.error b2,Zj,v,o,p,n⟩,Zz⟩
   |ok s=>
    obtain⟨rfl,y,z⟩:=o.i;have L:=U (a9.i l s _ _ v y z n.i);rw[G]at L;clear G;go_wp21;refine L.i.mono ?_;rintro c3 d3 ⟨rfl,b8,N,a1⟩;have a8:=U N;have n:=U a1;clear N a1;go_wp2;exact⟨⟨l+1,b8,_,Zj,v,a8,p,n⟩,Zz⟩
  .have b4:¬(l:Int)<r.aC.length:=Zm;have J:=aE (n.i.br (Ym j Yb));have a7:af (C=t):=U (by rw[<-p.i,show r.aC.length-l=0 by omega];cases t<;>rfl);go_wp2;go_end0;exact⟨rfl,w,a7.i▸o.i,n.i.c7⟩
def abU(a0:cI q.1 r.aH e)(a1:cI q.2 r.aC e)(c7:a<=100000)(c6:b.length<=100000000)(A:r.w=11)(b3:c.aa<=b.length)(S:c.a0.length<a){B:eU bP}
  (P:∀t L a5,t.aa<=b.length->t.a0.length<=a->Dw d (dR f i g a h b) L e (dl t) a5->Calls prog 108 #[Zp d,Y r.of,Y dp] a5 (mm d (dR f i g a h b) L e (gT b a (B t)))) (K:Dw d (dR f i g a h b) j e (dl c) k) :
  Calls prog 181 #[Zp d,.agg (ew r q).toArray,Y dp] k (mm d (dR f i g a h b) j e (gT b a (aA ((bk b o a).cg (dy 4) jK c) λp=>if p.1=1 then B p.2 else .ok p.2))):=by
 obtain⟨b6,b7,u⟩:=aV a0;obtain⟨b4,b5,G⟩:=aV a1;obtain⟨c8,c9⟩:=q;simp only at u G;subst u G;have n:=U (K.aw (.cells (ew r (.slice b6 r.aH.length b7,.slice b4 r.aC.length b5)).toArray 117));have a7:=U P;obtain⟨ad,F,v,w,z⟩:=K.K;have c4:(r.w==9)=false:=by simp[A]
 have c1:(r.w==10)=false:=by simp[A]
 have c3:(r.w==12)=false:=by simp[A]
 have c2:(r.w==11)=true:=by simp[A]
 have M:(aA ((bk b o a).cg (dy 4) jK c) λp=>if p.1=1 then B p.2 else Except.ok p.2)=aA (jf b c) λp=>match jK p.1 with|none=>.error ⟨18,c.aa⟩|some l=>if(p.1:Int)=1 then B (dq ⟨4,p.1,[],l,0⟩ p.2)else .ok (dq ⟨4,p.1,[],l,0⟩ p.2):=by
  show aA (aA (ft a c) _) _=_;rw[vk S];cases jf b c with
  |error a9=>rfl
  |ok p=>
   show aA (match jK (fM (dy 4) p.1)with|none=>_|some l=>_) _=_;rw[show fM (dy 4) p.1=(p.1:Int)from rfl];show _=(match jK p.1 with|none=>_|some l=>_);cases jK (p.1:Int)with
   |none=>rfl
   |some l=>rfl
 rw[M];generalize R:aA (jf b c) _=C;have s:=U R;have I:=Ae b3;have H:=sF b (dl c);clear R M K P a0 a1 A;go_in;go_upto_region 3 with fail;generalize k.alloc _=m at *
 clear v w z;obtain⟨ad,F,v,w,z⟩:=n.i.K;have a4:=aE (n.i.br (Ym j Yb));go_wp21;refine fK n (wV (q:=dR f i g a h b) (by dsimp only;omega) (by dsimp only;omega)) λd0 n=>?_;dsimp only at n H ⊢;clear v w z a4;cases J:jf b c with
 |error a9=>
  rw[J]at I s;obtain⟨u,rfl⟩:=I;have s:af (C=.error ⟨16,c.aa⟩):=U s.i.symm;rw[u]at n ⊢;clear J u H;obtain⟨ad,F,v,w,z⟩:=n.i.K;go_wp21;refine fK n (pS ⟨4,0,[],0,0⟩ Zx) λb9 n=>?_;go_wp2;go_end0;exact⟨rfl,_,by rw[s.i];exact⟨Zq,rfl,rfl⟩,n.i.c7⟩
 |ok p=>
  obtain⟨l,t⟩:=p;rw[J]at I s;obtain⟨u,G,N⟩:=I;have s:af ((match jK l with|none=>.error ⟨18,c.aa⟩|some a3=>if(l:Int)=1 then B (dq ⟨4,l,[],a3,0⟩ t)else .ok (dq ⟨4,l,[],a3,0⟩ t))=C):=s
  have b2:t.a0.length<a:=by rw[N];exact S
  rw[u]at n H ⊢;dsimp only at H;clear J u N;obtain⟨ad,F,v,w,z⟩:=n.i.K;by_cases A:1<l
  .have b1:(1:Int)<l:=Zm;have D:((l:Int)==1)=false:=Zx;have s:af (C=.error ⟨18,c.aa⟩):=U (by rw[<-s.i,show jK l=none by unfold jK;rw[Y2 Zm,Y2 Zm]]);clear A;go_wp21;refine fK n (pT 18 c.aa) λb9 n=>?_;go_wp21;refine fK n (pS ⟨4,l,[],0,l⟩ (by simp[hC];omega)) λc0 n=>?_;go_wp2;go_end0;exact⟨rfl,_,by rw[s.i];exact⟨Zq,rfl,rfl⟩,n.i.c7⟩
  .have b1:¬(1:Int)<l:=Zm;go_wp21;refine fK n (pS ⟨4,l,[],0,l⟩ Zx) λc0 n=>?_;have E:=U (sn (x:=⟨4,l,[],l,0⟩) (y:=⟨4,l,[],0,l⟩) G b2 rfl);rw[E.i.1]at n;have a4:=aE (n.i.br (Ym j Yb));clear v w z;obtain⟨ad,F,v,w,z⟩:=n.i.K;by_cases D:l=1
   .have b0:((l:Int)==1)=true:=by simp[D]
    have s:af (C=B (dq ⟨4,l,[],l,0⟩ t)):=U (by rw[<-s.i,D];rfl);have a8:=U (a7.i _ _ _ E.i.2.1 E.i.2.2 n.i);clear D;go_wp21;refine a8.i.mono ?_;rintro c5 d1 ⟨rfl,b8,O,a2⟩;have a6:=U O;have n:=U a2;clear O a2;go_wp2;go_end0;exact⟨rfl,b8,by rw[s.i];exact a6.i,n.i.c7⟩
   .have b0:((l:Int)==1)=false:=Zx;have s:af (C=.ok (dq ⟨4,l,[],l,0⟩ t)):=U (by rw[<-s.i,show l=0 by omega];rfl);clear D;go_wp2;go_end0;exact⟨rfl,_,by rw[s.i];exact⟨rfl,E.i.2⟩,n.i.c7⟩
end
section
variable {r : Nat -> Prop} {q o : Nat} {t : Zb} {c : ah} {w g m : Zw} {i : PV} {e : Nat} {f d j dp u : Nat} {b : Zb} {k : List Th} {h : bP} {a : bt} {n : Zv × Zv}
def JW{c}{b:Nat->Option Zv}(g:ap [] w c)(f:e<w.heap.size)(d:∀a,w.cell? (Zd e a)=b a):∀a,c.cell? (Zd e a)=b a:=λa=>by
 rw[<-d a];simp only[World.cell?];rw[g.al e f Zq]
def zX(b:Zb)(d a:bt)(e:Int->eU bP)(h:bP):Except Mar.ac bP:=aA (jf b h) λc=>
 if gb d (lZ d c.1)=true/\(fs a (lZ d c.1)).2=true then (if(fs a (lZ d c.1)).1<0 then .ok (dq ⟨4,lZ d c.1,[],0,0⟩ c.2)else e (lZ d c.1) (dq ⟨4,lZ d c.1,[],1,0⟩ c.2))else .error ⟨18,h.aa⟩
def abW(b3:bw r q t o c i g)(c6:cI n.1 a.aH g)(c7:cI n.2 a.aC g)(i7:d<=100000)(i6:b.length<=100000000)(f1:a.aC.length=a.aH.length)(f2:a.aH.length<=1000000000){I:Nat}(e8:a.of=I)(e6:I<c.h.length)(e7:(c.h.getD I bz).aH.length<=1000000000)(a3:a.w=13)(f0:h.aa<=b.length)(e9:h.a0.length<d){D:Int->eU bP}
  (e2:∀v u d9 R,gb (c.h.getD I bz) v=true->(fs a v).2=true->0<=(fs a v).1->u.aa<=b.length->u.a0.length<=d->Dw e (dR i c f d j b) d9 g (dl u) R->Calls prog 108 #[Zp e,Y (fs a v).1,Y dp] R (mm e (dR i c f d j b) d9 g (gT b d (D v u)))) (d2:Dw e (dR i c f d j b) k g (dl h) w) :
  Calls prog 181 #[Zp e,.agg (ew a n).toArray,Y dp] w (mm e (dR i c f d j b) k g (gT b d (zX b (c.h.getD I bz) a D h))):=by
 have b6:=U (λ(m:Zw) (a4:ap [] g m) (P:Int)=>Bg (b3.az a4) e6 e7 P);have b7:=U (λ(m:Zw) (a4:ap [] g m) (P:Nat) (h3:P<4294967296)=>NZ (b3.az a4) e6 h3);have e0:=U (λ(m:Zw) (a4:ap [] g m) (P:Int)=>IZ (w:=m) (cI.a8 c6 a4 Zq) (cI.a8 c7 a4 Zq) f1 f2 P);obtain⟨b8,c0,f3⟩:=aV b3.h;unfold gp at b6 b7;obtain⟨j2,d3,d4,d0,d1⟩:=i;simp only at f3;subst f3;obtain⟨g1,g2,A⟩:=aV c6;obtain⟨f9,g0,E⟩:=aV c7;obtain⟨j0,j1⟩:=n;simp only at A E;subst A E;have p:=U (d2.aw (.cells (ew a (.slice g1 a.aH.length g2,.slice f9 a.aC.length g0)).toArray 117));have a0:=U e2;obtain⟨ad,a2,B,L,G⟩:=d2.K;have i4:(a.w==9)=false:=by simp[a3]
 have i0:(a.w==10)=false:=by simp[a3]
 have i2:(a.w==12)=false:=by simp[a3]
 have i1:(a.w==11)=false:=by simp[a3]
 have i3:(a.w==13)=true:=by simp[a3]
 generalize e3:zX b (c.h.getD I bz) a D h=b2;have d6:=U e3;have d8:=U (Ae f0);have c3:=sF b (dl h);have d7:=U e8;generalize c.h.getD I bz=g3 at *
 clear e3 d2 e2 c6 c7 a3 b3 f1 f2 e7 e8;go_in;go_upto_region 3 with fail;generalize w.alloc _=m at *
 clear B L G;obtain⟨ad,a2,B,L,G⟩:=p.i.K;have d5:=aE (p.i.br (Ym k Yb));go_wp21;refine fK p (wV (by dsimp only;omega) (by dsimp only;omega)) λg4 p=>?_;dsimp only at p c3 ⊢;have c5:(eX b (dl h)).2.l.length<d:=by rw[(xb b f0).2];simpa using e9
 generalize eX b (dl h)=h0 at *
 obtain⟨P,J⟩:=h0;dsimp only at p c3 c5 ⊢;clear B L G d5;go_upto_region 28 with fail;have p:=U (p.i.ae (ar [] g4).ag);obtain⟨ad,a2,B,L,G⟩:=p.i.K;have M:g4.drew.cell? (Zd w.heap.size 2)=some (Y I):=d7.i▸aB (p.i.br (Ym k Yb)) rfl;have K:=U (b7.i _ p.i.fr P c3);refine bJ (λR=>(∀b0,R.cell? (Zd e b0)=(rh (dR ⟨.slice b8 c.h.length c0,d3,d4,d0,d1⟩ c f d j b) J (.slice ad J.l.length a2))[b0]?)/\R.cell? (Zd w.heap.size 2)=some (Y I)) ?_ λa8=>?_
 .exact⟨B,M⟩
 refine bc [0,1,2,3,4,5,6] ?_;iterate 7 (refine bh ?_)
 refine be ?_;refine bI 7 λS H=>?_;(go_simp;refine K.i.mono ?_;rintro c1 g5 ⟨rfl,c8⟩;have p:=U (p.i.ae c8);have B:=JW c8 G B;have M:=c8.a5 Zq M);refine H.out _ _ ?_ (λa8=>?_)
 .go_keep
 clear H S;refine nz ?_;refine bL λS H=>?_;go_simp;refine H.out _ _ ?_;clear H S;refine nz ?_;clear K b7 a8 L G;generalize f4:lZ g3 P=z at *
 go_upto_region 29 with fail;have p:=U (p.i.ae (ar [] g5).ag);clear B M;obtain⟨ad,a2,B,L,G⟩:=p.i.K;have M:g5.drew.cell? (Zd w.heap.size 2)=some (Y I):=d7.i▸aB (p.i.br (Ym k Yb)) rfl;have K:=U (b6.i _ p.i.fr z);refine bJ (λR=>(∀b0,R.cell? (Zd e b0)=(rh (dR ⟨.slice b8 c.h.length c0,d3,d4,d0,d1⟩ c f d j b) J (.slice ad J.l.length a2))[b0]?)/\R.cell? (Zd w.heap.size 2)=some (Y I)) ?_ λa8=>?_
 .exact⟨B,M⟩
 refine bc [0,1,2,3,4,5,6] ?_;iterate 7 (refine bh ?_)
 refine be ?_;refine bI 7 λS H=>?_;(go_simp;refine K.i.mono ?_;rintro c1 j3 ⟨rfl,c9⟩;have p:=U (p.i.ae c9);have B:=JW c9 G B;have M:=c9.a5 Zq M);refine H.out _ _ ?_ (λa8=>?_)
 .go_keep
 clear H S;refine nz ?_;refine bL λS H=>?_;go_simp;refine H.out _ _ ?_;clear H S;refine nz ?_;clear K b6 a8 L G B M;generalize c4:gb g3 z=a7 at *
 have d5:=aE (p.i.br (Ym k Yb));have K:=U (e0.i _ p.i.fr z);unfold ew at K;go_wp21;refine K.i.mono ?_;rintro c1 h6 ⟨rfl,f6⟩;have p:=U (p.i.ae f6);clear K e0 d5 f6;have a0:=U (a0.i z);rw[c4]at a0;generalize e5:fs a z=g9 at *
 obtain⟨b9,a6⟩:=g9;dsimp only at a0 ⊢;have a1:af ((J.e≠0/\∀N:Ds,N.e=J.e->N.wh=J.wh->gT b d b2 N)\/∃u,J=dl u/\u.aa<=b.length/\u.a0.length<d/\b2=if a7=true/\a6=true then (if b9<0 then .ok (dq ⟨4,z,[],0,0⟩ u)else D z (dq ⟨4,z,[],1,0⟩ u))else .error ⟨18,h.aa⟩):=U (by
  have b4:=d8.i;have a9:=d6.i;unfold zX at a9;cases f5:jf b h with
  |error i5=>
   rw[f5]at b4 a9;obtain⟨A,rfl⟩:=b4;cases A
   exact Y8 ⟨Zq,λN A E=>by rw[<-a9];exact⟨Zq,A,E⟩⟩
  |ok h4=>
   obtain⟨i9,u⟩:=h4;rw[f5]at b4 a9;obtain⟨A,E,c2⟩:=b4;cases A
   refine Ya ⟨u,rfl,E,by rw[c2];exact e9,?_⟩;rw[<-a9];simp only[aA,f4,c4,e5])
 clear d6 d8 f4 c4 e5;obtain⟨ad,a2,B,L,G⟩:=p.i.K;go_upto_region 31 with fail;go_cut [13,15,144] (λ_ _ g8 wc=>g8=.bool (decide (J.e=0/\¬(a7=true/\a6=true)))/\h6=wc);case first=>
  go_wp2;all_goals
   go_meet;refine⟨Yo Value.bool ?_,rfl⟩;rw[Bool.eq_iff_iff];simp_all
 case rest=>
 obtain⟨rfl,rfl⟩:=hcut;go_upto_if 144 with fail;go_cut [] (λwc=>af (∃O,Dw e (dR ⟨.slice b8 c.h.length c0,d3,d4,d0,d1⟩ c f d j b) (k++[.obj w.heap.size (.cells (ew a (.slice g1 a.aH.length g2,.slice f9 a.aC.length g0)).toArray 117)]) g O wc/\O.l.length<d/\((O.e≠0/\∀N:Ds,N.e=O.e->N.wh=O.wh->gT b d b2 N)\/∃u,O=dl u/\u.aa<=b.length/\u.a0.length<d/\(a7=true/\a6=true)/\b2=if b9<0 then .ok (dq ⟨4,z,[],0,0⟩ u)else D z (dq ⟨4,z,[],1,0⟩ u))))
 case first=>
  by_cases F:J.e=0/\¬(a7=true/\a6=true)
  .rw[decide_eq_true F];have a5:=U F;clear F;go_wp21;refine fK p (pT 18 h.aa) λh7 p=>?_;go_wp2;go_meet;refine U ⟨_,p.i,by unfold hC;split<;>exact c5,Y8 ?_⟩;unfold hC;rw[Y9 a5.i.1];refine⟨Zq,λN A E=>?_⟩;rcases a1.i with⟨C,-⟩|⟨u,rfl,-,-,C⟩
   .exact absurd a5.i.1 C
   .rw[C,Y2 a5.i.2];exact⟨Zq,A,E⟩
  .rw[decide_eq_false F];have a5:=U F;clear F;go_wp2;go_meet;refine U ⟨_,p.i,c5,a1.i.imp id ?_⟩;rintro⟨u,rfl,A,E,c2⟩;have F:a7=true/\a6=true:=Classical.not_not.1 λC=>a5.i ⟨rfl,C⟩;exact⟨u,rfl,A,E,F,by rw[c2,Y9 F]⟩
 case rest=>
 obtain⟨O,f7,i8,e4⟩:=hcut.i;have p:=U f7;have a1:=U e4;clear B L G e4 hcut f7;rename Zw=>h7;by_cases h2:b9<0
 .go_wp21;refine fK p (pS ⟨4,z,[],0,0⟩ Zm) λh8 p=>?_;go_wp2;go_end0;refine⟨rfl,_,?_,p.i.c7⟩;rcases a1.i with⟨-,C⟩|⟨u,rfl,A,E,-,C⟩
  .exact C _ rfl rfl
  .rw[C,Y9 h2];exact sn A E rfl
 .go_wp21;refine fK p (pS ⟨4,z,[],0,1⟩ Zm) λh8 p=>?_;rcases a1.i with⟨h1,C⟩|⟨u,rfl,A,E,F,C⟩
  .have b5:=U C;clear C;go_wp21;refine fK p (Nn (s:=la ⟨4,z,[],0,1⟩ O) h1 _ _) λh9 p=>?_;go_wp2;go_end0;exact⟨rfl,la ⟨4,z,[],0,1⟩ O,b5.i _ rfl rfl,p.i.c7⟩
  .have b1:=sn (x:=⟨4,z,[],1,0⟩) (y:=⟨4,z,[],0,1⟩) A E rfl;rw[b1.1]at p;have g7:=U (a0.i _ _ _ F.1 F.2 Zm b1.2.1 b1.2.2 p.i);have b5:=U (C.trans (Y2 Zm));clear b1 C F a1 a0;go_wp21;refine g7.i.mono ?_;rintro c1 h9 ⟨rfl,h5,e1,f8⟩;have g6:=U e1;have p:=U f8;clear e1 f8;go_wp2;go_end0;exact⟨rfl,h5,by rw[b5.i];exact g6.i,p.i.c7⟩
def acx(u:bw r q t o c i g){h:Nat}(C:h<c.h.length)(F:c.h.getD h bz=a)(D:a.w=14)(b1:dp<=64){l:Ds}(R:l.e=0)(s:Dw e (dR i c f d j b) k g l w){Q:Ds->Prop}(P:f<=dp->Q (hC 13 l.p l))
  (B:dp<f->∀v K,Dw e (dR i c f d j b) v g l K->Calls prog 108 #[Zp e,Y a.of,Y ((dp+1:Nat):Int)] K (mm e (dR i c f d j b) v g Q)) :
  Calls prog 108 #[Zp e,Y h,Y dp] w (mm e (dR i c f d j b) k g Q):=by
 obtain⟨ad,a6,N,a7,a8⟩:=s.K;obtain⟨b0,a5,J,S,E,b9,c0,c1,c2,c3,c4,c5,c6,c7,c8,c9⟩:=nI (u.az s.fr) C;have y:c.h[h]?=some (c.h.getD h bz):=by simp[C]
 obtain⟨G,H⟩:=u.dr h _ J y E;rw[F]at *
 obtain⟨a2,a3,n⟩:=aV G;obtain⟨a0,a1,z⟩:=aV H;obtain⟨b5,b6⟩:=J;simp only at n z;subst n z;have b3:(h:Int)<(c.h.length:Int):=Zm;have m:=U (s.aw (.cells (ew a (.slice a2 a.aH.length a3,.slice a0 a.aC.length a1)).toArray 117));simp only[rh,S]at N;have b4:(a.w==14)=true:=by simp[D]
 have b2:(l.e != 0)=false:=by simp[R]
 clear u s G H y E F D;by_cases n:f<=dp
 .have O:(f:Int)<=dp:=Zm;have M:=U (P n);go_in;go_wp21;refine fK m (pT 13 l.p) λb7 m=>?_;go_wp2;go_end0;exact⟨rfl,_,M.i,m.i.c7⟩
 .have O:¬(f:Int)<=dp:=Zm;have x:=U (B Zm _ _ m.i);rw[show (((dp+1:Nat):Int))=(dp:Int)+1 by omega]at x;clear B;go_in;go_wp21;refine x.i.mono ?_;rintro a9 b8 ⟨rfl,a4,A,I⟩;have L:=U A;have m:=U I;clear A I;go_wp2;go_end0;exact⟨rfl,a4,L.i,m.i.c7⟩
end
section
variable {k : Nat -> Prop} {j i : Nat} {m : Zb} {a : ah} {c e n : Zw} {g : PV} {J : Nat} {d f z : Nat} {b : Zb} {h : fB} {l : Nl} {Kn : Zb -> Prop}
def DC(e:Zw)(J:Nat)(g:PV)(a:ah)(d f z:Nat)(b:Zb)(k:Nat)(l:Int)(j:eU bP):Prop:=∀h i c,h.aa<=b.length->h.a0.length<=f->Dw J (dR g a d f z b) i e (dl h) c->
 Calls prog 108 #[Zp J,Y l,Y k] c (mm J (dR g a d f z b) i e (gT b f (j h)))
def xE(y:bw k j m i a g e)(S:Tb a.h l h Kn)(H:f<=100000)(G:b.length<=100000000){x:Int}{o:bt}(B:0<=x)(w:a.h[x.toNat]?=some o)(r:o.w≠14/\0<=o.w)(E:o.w=6->0<=o.n/\o.n<=4294967295){u:Nat}{s:eU bP}(hF:∀n,f<=n.a0.length->s n=.error ⟨15,n.aa⟩)(F:∀n,n.aa<=b.length->n.a0.length<f->o.w<=8->gT b f (s n) (sL o b (dl n)))
  (D:8<o.w->∀n p t c,n.aa<=b.length->n.a0.length<f->cI p.1 o.aH e->cI p.2 o.aC e->Dw J (dR g a d f z b) t e (dl n) c->Calls prog 181 #[Zp J,.agg (ew o p).toArray,Y u] c (mm J (dR g a d f z b) t e (gT b f (s n)))):DC e J g a d f z b u x s:=by
 intro n t c v C O;obtain⟨R,rfl⟩:=Int.eq_ofNat_of_zero_le B;obtain⟨K,I⟩:=sH w;have a1:=S.b8 o (Yh w);refine acy y K I r Zm E H G u rfl v (by simpa using C) O (λq=>?_) (λq r=>F n v (by simpa using q) r) λq r p A a0 L P=>?_
 .rw[hF n (by simpa using q)];exact⟨Zq,rfl,rfl⟩
 .obtain⟨M,N⟩:=y.dr R o p w L;exact D r n p A a0 v (by simpa using q) M N P
def xa{a:bP}(b:f<=a.a0.length):ft f a=.error ⟨15,a.aa⟩:=Y9 b
def rok(G:bw k j m i a g e)(H:Tb a.h l h Kn)(y:f<=100000)(B:b.length<=100000000)(d2:d<=64):yz a.h (bk b d f) (DC e J g a d f z b) where
 num:=by
  intro w S r a0 t s C R b5 b2;refine xE G H y B t s Zm Zm (λn o=>by show aA (ft f n) _=_;rw[xa o];rfl) (λn q p _=>?_) λo=>by omega
  unfold sL;by_cases a7:r.w=2\/r.w=3
  .rw[Y9 a7];rw[decide_eq_true a7]at R;exact ag3 q p R λa9 C=>by rw[<-b2 a9 C];unfold gb;simp[show r.w≠0 by omega,show r.w≠1 by omega,show r.w≠4 by omega,show r.w≠5 by omega]
  .rw[Y2 a7,Y9 C.2];rw[decide_eq_false a7]at R;exact aa2 q p R (b5 R) b2
 i4:=by
  intro w S r a0 a6 t s C c0 a2 c1;exact xE G H y B t s Zm (λ_=>by rw[a2];exact c1) (λn o=>by show aA (ft f n) _=_;rw[xa o];rfl) (λn q p _=>agn q p C.1 c0 a2) λo=>by omega
 arr:=by
  intro w S a3 a0 a6 u t s a2 x;refine xE G H y B t s (by cases a6<;>simp[cY]) (λ_=>a2) (λn o=>by show aA (aA (ft f n) _) _=_;rw[xa o];rfl) (λn _ _ o=>by cases a6<;>simp[cY]at o) λ_ n b0 a5 c q p M N D=>?_;exact abT (r:=cY (if a6 then 9 else 10) a0 a3) M N a2 y B rfl q p (λL A F I K E=>x L A F I K E) D
 opt:=by
  intro w S a3 u t s x;refine xE G H y B t s (by simp[cY]) (by simp[cY]) (λn o=>by show aA (aA (ft f n) _) _=_;rw[xa o];rfl) (λn _ _ o=>by simp[cY]at o) λ_ n b0 a5 c q p M N D=>?_;exact abU (r:=cY 11 0 a3) M N y B rfl q p (λL A F I K E=>x L A F I K E) D
 str:=by
  intro w S a4 u t s b4 x;refine xE G H y B t s Zq Zq (λn o=>by show aA (aA (ft f n) _) _=_;rw[xa o];rfl) (λn _ _ o=>by simp at o) λ_ n b0 a5 c q p M N D=>?_;have:=abV (r:=⟨12,0,0,[],a4,0,[],0⟩) (dp:=w) M N y (by simp only;omega) rfl q p (λa3 L A F c4 I K E=>x a3 c4 L A F I K E) D;rw[show (aA ((bk b d f).bH a4.length true n) λO=>ii u 0 a4.length O.2)=ii u 0 a4.length (dq ⟨3,0,[],a4.length,0⟩ n) by show aA (aA (ft f n) _) _=_;rw[vk p];simp[ie,aA]];exact this
 j0:=by
  intro w S r a8 a0 b7 u t s C c5 b3 c6 R c7 _ c8 x;have b5:=H.b8 _ (Yh s);have d3:=H.b8 (a.h.getD a8 bz) (by simp[b3]);refine xE G H y B t s Zm Zm (λn o=>by show aA (aA (ft f n) _) _=_;rw[xa o];rfl) (λn _ _ o=>by omega) λ_ n b0 a5 c q p M N D=>?_;have:=abW (dp:=w) G M N y B c6 Zm c5 b3 Zm C q p (D:=u) (λv L A F I K d0 b8 b9 E=>by have:=x v I K;rw[Y2 Zm]at this;exact this L A F b8 b9 E) D;rw[show (aA ((bk b d f).cg a0 b7 n) λO=>u O.1 O.2)=zX b (a.h.getD a8 bz) r u n by
   show aA (aA (ft f n) _) _=_;rw[vk p];unfold zX;have b6:=Ae q;have b1:=sF b (dl n);cases c9:jf b n with
   |error d1=>rfl
   |ok O=>
    rw[c9]at b6;rw[b6.1]at b1;show aA (match b7 (fM a0 O.1)with|none=>_|some a9=>_) _=(if _ then _ else _)
    rw[<-NX b1 c7];generalize lZ (a.h.getD a8 bz) O.1=v;rw[c8 v];by_cases P:gb (a.h.getD a8 bz) v=true/\(fs r v).2=true
    .rw[Y9 P,Y9 P];have:=x v P.1 P.2;by_cases a1:(fs r v).1<0
     .rw[Y9 a1]at this;rw[Y9 a1,Y9 a1];show u v _=_;rw[this]
     .rw[Y2 a1,Y2 a1];rfl
    .rw[Y2 P,Y2 P];rfl]
  exact this
 hK:=by
  intro w S r u t s C c2 x n a5 c q p D;obtain⟨a9,rfl⟩:=Int.eq_ofNat_of_zero_le t;obtain⟨b4,c3⟩:=sH s;show Calls _ _ _ _ (mm _ _ _ _ (gT b f (aA (if d<=w then .error ⟨13,n.aa⟩else .ok n) u)))
  refine acx G b4 c3 C c2 rfl D (λo=>by rw[Y9 o];exact⟨Zq,rfl,rfl⟩) λo A F E=>?_;rw[Y2 Zm];exact x Zm n A F q p E
end
section
variable {m : Nat -> Prop} {l k : Nat} {n : Zb} {d : ah} {b q h : Zw} {e : PV} {f g j : Nat} {c : Zb} {o : fB} {p : Nl} {Kn : Zb -> Prop}
def vi{b:Type}:Except Mar.ac b->Except (Int×Int) b
 |.ok c=>.ok c
 |.error a=>.error (a.no,a.y)
def tq(b:Zw)(g:Except (Int×Int) (List kB))(c:Ending)(e:Zw):Prop:=match g with
 |.ok f=>∃d,c=.returned (.tuple #[d,.int .i64 0,.int .i64 0])/\bA [gD d (f.map nR)] b e
 |.error a=>c=.returned (.tuple #[.slice none 0 0,.int .i64 a.1,.int .i64 a.2])/\ap [] b e/\a.1≠0
def tq.f8{f g i}(e:ap [] b h)(a:tq h f g i):tq b f g i:=by
 have:=e.aX;cases f with
 |ok p=>
  obtain⟨n,k,d⟩:=a;exact⟨n,k,e.u d.fr,d.y,λj l c m=>Yz this (d.bY j l c m),d.cc⟩
 |error o=>exact⟨a.1,e.u a.2.1,a.2.2⟩
def TQ(C:bw m l n k d e b){i J v}(L:DC b (b.heap.size+2) e d f g j c J i v):Calls prog 64 #[gp e d,Y i,Zs c,nA f g j,Y J] b (tq b (vi (aA (v ⟨0,[]⟩) λt=>if t.aa<c.length then .error ⟨20,t.aa⟩else .ok t.a0))):=by
 obtain⟨a4,a7,F⟩:=aV C.h;obtain⟨a2,a5,D⟩:=aV C.F;obtain⟨a3,a6,E⟩:=aV C.ao;have H:=U L;generalize p:vi (aA (v ⟨0,[]⟩) λt=>if t.aa<c.length then Except.error ⟨20,t.aa⟩else Except.ok t.a0)=G
 have I:=U p;clear p;unfold gp nA;rw[F,D,E];go_in;go_wp21;generalize O:World.alloc (World.alloc (World.alloc b _) _) _=h;have q:af (Dw (b.heap.size+2) (dR e d f g j c) [] b (dl ⟨0,[]⟩) h):=U (by
  have r:=((si b).ae (((ar [] b).A (ma (.slice a4 d.h.length a7) (.slice a2 d.F.length a5) (.slice a3 d.ao.length a6) (Zs d.i))).A (.cells #[Y f,Y g,Y j] 73))).cons (a:=gD (.slice none 0 0) []) (ar [] _) ⟨Zq,Y8 ⟨rfl,rfl⟩⟩ (by intro a8 a9;cases a9);have r:=r.A (wW (dR e d f g j c) (dl ⟨0,[]⟩) (.slice none 0 0));simp only[wW,rh,dR,F,D,E]at r;refine⟨.slice none 0 0,?_⟩;simp only[wW,rh,dR,F,D,E];subst O;simpa using r)
 clear O;refine(H.i ⟨0,[]⟩ [] h Zq Zq q.i).mono ?_;rintro b3 b5 ⟨rfl,s,K,P⟩;have u:=U K;have q:=U P;generalize v ⟨0,[]⟩=b1 at *
 clear K P H L;obtain⟨ad,y,x,z,A⟩:=q.i.K;have a0:af ((s.e≠0/\G=.error (s.e,s.wh))\/∃o,s=dl o/\G=if o.aa<c.length then .error (20,o.aa)else .ok o.a0):=U (by
  rw[<-I.i];cases b1 with
  |error a8=>exact Y8 ⟨by rw[u.i.2.1];exact u.i.1,by rw[u.i.2.1,u.i.2.2];rfl⟩
  |ok o=>exact Ya ⟨o,u.i.1,by show vi (if _ then _ else _)=_;split<;>rfl⟩)
 clear I u;rcases a0.i with⟨B,p⟩|⟨o,rfl,p⟩;case' inr=>
  by_cases N:o.aa<c.length;case' pos=>
   have p:G=.error ((hC 20 o.aa (dl o)).e,(hC 20 o.aa (dl o)).wh):=p.trans (Y9 N);have b0:(o.aa:Int)<c.length:=Zm;go_wp21;refine fK q (pT 20 o.aa) λb6 q=>?_;clear x z A;obtain⟨ad,y,x,z,A⟩:=q.i.K;have B:(hC 20 o.aa (dl o)).e≠0:=by simp[hC]
   generalize hC 20 o.aa (dl o)=s at *
  case' neg=>
   rw[Y2 N]at p;subst p;have b0:¬(o.aa:Int)<c.length:=Zm;clear x z A;obtain⟨ad,y,r⟩:=q.i.op;have x:=aE (r.aL (i:=0) (R:=b.heap.size+2) rfl);have w:=U r.au;clear r;go_wp2;go_ret3;exact⟨.slice ad o.a0.length y,rfl,by simpa using w.i⟩
 all_goals
  subst p;have b2:(s.e != 0)=true:=by simpa using B
  have w:=U (Yp q.i.fr.ag B);go_wp2;refine bJ (λS=>S.cell? ⟨b.heap.size+1+1,10,none⟩=some (Y s.e)/\S.cell? ⟨b.heap.size+1+1,11,none⟩=some (Y s.wh)) ?_ λb4=>?_
  .go_keep
  refine bc [0,1,2,3,4,5,6,7,8,9] ?_;iterate 10 (refine bh ?_)
  refine be ?_;refine bL λa1 M=>?_;go_simp;refine M.out _ _ ?_;clear M a1;refine nz ?_;go_wp2;go_ret3;exact⟨rfl,w.i.1,w.i.2⟩
end
section
variable {l : Nat -> Prop} {k i : Nat} {m : Zb} {a : ah} {g n c : Zw} {h : PV} {e : fB} {j : Nl} {Kn : Zb -> Prop}
def iW(a:ah)(e:fB)(b g:Zb)(c d f:Int):Except (Int×Int) (List kB):=if ez a b<0 then .error (10,-1)else if ¬kI c d f then .error (11,-1)else vi (pf e b g c.toNat d.toNat f.toNat)
def Qk(v:bw l k m i a h g)(a1:i<=1000000000)(E:Tb a.h j e Kn)(p b:Zb)(a8:0<=ez a p->∃s,e p=some s/\kb a.h j s (ez a p)/\(∀c7∈jo s,Kn c7.1)/\lG s)(n o z:Int):Calls prog 36 #[gp h a,Zs p,Zs b,nA n o z] g (tq g (iW a e p b n o z)):=by
 have A:=U (λ(c:Zw) (N:ap [] g c)=>Pb (v.az N) a1 p);have S:=U (λ(c:Zw)=>LZ n o z c);have x:af (0<=ez a p->kI n o z->b.length<=z->n≠0->∀c,ap [] g c->Calls prog 64 #[gp h a,Y (ez a p),Zs b,nA n o z,Y 1] c (tq c (iW a e p b n o z))):=by
  intro B r M t c N;obtain⟨s,c2,c4,c3,c5⟩:=a8 B;have a2:=v.az N;have a0:=rok (J:=c.heap.size+2) (d:=n.toNat) (f:=o.toNat) (z:=z.toNat) (b:=b) a2 E Zm Zm Zm;have:=TQ a2 (FW a0 E (dp:=1) (MP a0 E 63 1 rfl) s c5 c3 _ c4);have u:iW a e p b n o z=vi (aA (iA (bk b n.toNat o.toNat) e (fo (bk b n.toNat o.toNat) e 63 1) s ⟨0,[]⟩) λu=>if u.aa<b.length then Except.error ⟨20,u.aa⟩else Except.ok u.a0):=by
   unfold iW pf;rw[Y2 Zm,Y2 (not_not_intro r),Y2 Zm];show vi (aA (aA (if n.toNat<=0 then .error ⟨13,0⟩else .ok (⟨0,[]⟩:bP)) (λc0=>match e p with|some s=>iA _ e _ s c0|none=>.error ⟨0,0⟩)) _)=_
   rw[Y2 Zm,c2];rfl
  rw[u];rw[show ((n.toNat:Nat):Int)=n by omega,show ((o.toNat:Nat):Int)=o by omega,show ((z.toNat:Nat):Int)=z by omega]at this;exact this
 obtain⟨b6,b9,a6⟩:=aV v.h;obtain⟨b4,b7,a4⟩:=aV v.F;obtain⟨b5,b8,a5⟩:=aV v.ao;unfold gp at A x ⊢;rw[a6,a4,a5]at A x ⊢;have q:af (iW a e p b n o z=if ez a p<0 then .error (10,-1)else if ¬kI n o z then .error (11,-1)else if z<b.length then .error (14,0)else if n=0 then .error (13,0)else iW a e p b n o z):=U (by
  unfold iW;split
  .rfl
  split
  .rfl
  rename_i r;split
  .unfold pf;rw[Y9 Zm];rfl
  split
  .rename_i t;unfold pf;rw[Y2 Zm,t];rfl
  .rfl)
 generalize iW a e p b n o z=c8 at *
 generalize ez a p=c9 at *
 clear v a1 E a8 a6 a4 a5;go_in;go_wp21;generalize D:World.alloc (World.alloc g _) _=c;have F:af (c.heap[g.heap.size]?=some (ma (.slice b6 a.h.length b9) (.slice b4 a.F.length b7) (.slice b5 a.ao.length b8) (Zs a.i))):=by
  subst D;exact(((ar [] _).A _).al _ Zq Zq).trans (bl rfl)
 have w:af (c.heap[g.heap.size+1]?=some (.cells #[Y n,Y o,Y z] 73)):=by
  subst D;exact bl Zq
 have G:af (ap [] g c):=by subst D;exact((ar [] g).A _).A _
 clear D;refine(A.i c G.i).mono ?_;rintro I d0 ⟨rfl,O⟩;have a3:=(O.al _ (ay w.i) Zq).trans w.i;have b0:=aE a3;go_wp21;refine(S.i d0).mono ?_;rintro I b1 ⟨rfl,a9⟩;have y:=U (O.u a9);have L:=(y.i.al _ (ay w.i) Zq).trans w.i;have a7:=(y.i.al _ (ay F.i) Zq).trans F.i;clear b0 a3 O a9 A S;have b0:b1.cell? ⟨g.heap.size+1,0,none⟩=some (Y n):=aB L rfl;have d2:=aE L;have d3:=aE a7;have H:=U (G.i.u y.i);clear L a7 F w G y;have q:=q.i;by_cases B:c9<0;case' pos=>rw[Y9 B]at q
 case' neg=>
  rw[Y2 B]at q;by_cases r:kI n o z;case' neg=>
   rw[Y9 r]at q;rw[decide_eq_false r]
  case' pos=>
   rw[Y2 (not_not_intro r)]at q;rw[decide_eq_true r];by_cases M:z<b.length;case' pos=>
    rw[Y9 M]at q;clear r
   case' neg=>
    rw[Y2 M]at q;by_cases t:n=0;case' pos=>
     have c6:(n==0)=true:=by simp[t]
     rw[Y9 t]at q;clear t r
    case' neg=>
     have c6:(n==0)=false:=by simp[t]
     have R:=U (x.i Zm r Zm t b1 H.i);clear x q t r;go_wp21;refine R.i.mono ?_;intro I d4 C;have b2:=U (C.f8 H.i);have b3:∃P u K,I=.returned (.tuple #[P,Y u,Y K]):=by
      cases c8 with
      |ok d1=>obtain⟨P,c1,-⟩:=C;exact⟨_,_,_,c1⟩
      |error K=>exact⟨_,_,_,C.1⟩
     obtain⟨P,u,K,rfl⟩:=b3;clear C R;go_wp2;go_ret3;exact b2.i
 all_goals
  subst q;clear x;go_wp2;go_ret3;exact⟨rfl,H.i,Zq⟩
end
section
def PB(n:dJ){v:Nat}(a:v<4294967296):nP (fM n v):=by
 unfold fM;split
 .split<;>constructor<;>omega
 .constructor<;>omega
def aa9{b n}{d e:bP}{v:Int}(f:nF b n d=.ok (v,e)):nP v:=by
 obtain⟨rfl,a,-⟩:=xp f;split at a
 .rename_i c;rw[Y9 c];have:=AN a;unfold lq;split<;>constructor<;>omega
 .rename_i c;rw[Y2 c];exact PB n (ss a)
def BT{b:bP}{x:kB}(c:∀x∈b.a0,nP x.n)(d:nP x.n):∀y∈(dq x b).a0,nP y.n:=by
 intro y a;rcases Yn.1 a with a|a
 .exact c y a
 .rw[Yc.1 a];exact d
def TD(b:Zb)(o q:Nat):vc (bk b o q) λj=>∀x∈j.a0,nP x.n where
 cW k j d' hd a:=by
  simp only[bk]at a;split at a
  .cases a
  .cases a;exact hd
 num n j d' hd a:=by
  obtain⟨g,h,i⟩:=bX a;clear a;obtain⟨rfl,-⟩:=tO h;obtain⟨d,c,a⟩:=bX i;have c:nF b n g=.ok (d.1,d.2):=c;split at a
  .cases a
   exact BT (by rw[(xp c).2.2.2.1];exact hd) (aa9 c)
  .cases a
 text n f j d' hd a:=by
  obtain⟨g,h,i⟩:=bX a;clear a;obtain⟨rfl,-⟩:=tO h;obtain⟨d,c,a⟩:=bX i;obtain⟨e,p,a⟩:=bX a;cases a
  obtain⟨_,l,_,_⟩:=nZ (show ie b n f g=.ok (d.1,d.2)from c);obtain⟨_,_,_,m,_⟩:=zx (show qm b d.1 d.2=.ok (e.1,e.2)from p);exact BT (by rw[m,l];exact hd) (by simp[nP])
 bH n f j d hd a:=by
  obtain⟨g,h,i⟩:=bX a;clear a;obtain⟨rfl,-⟩:=tO h;obtain⟨e,c,a⟩:=bX i;cases a
  obtain⟨_,l,_,_⟩:=nZ (show ie b n f g=.ok (e.1,e.2)from c);exact BT (by rw[l];exact hd) (by simp[nP])
 cg n v j d hd a:=by
  obtain⟨g,h,i⟩:=bX a;clear a;obtain⟨rfl,-⟩:=tO h;obtain⟨e,c,a⟩:=bX i;split at a
  .cases a
  .cases a
   obtain⟨r,s,_,m,_⟩:=oD (show jf b g=.ok (e.1,e.2)from c);exact BT (by rw[m];exact hd) (PB n (by rw[r];exact ss s))
def TP{E n b}{a d g:Nat}{c}(e:pf E n b a d g=.ok c):∀x∈c,nP x.n:=by
 obtain⟨_,f⟩:=Ko e;exact Fd (TD b a d) 64 0 n ⟨0,[]⟩ _ Zq f
section
variable {d c : Zw} {r : Except (Int × Int) (List kB)} {e : Ending} {σ : ah} {E : fB} {n b : Zb} {x y z : Int}
def qY:Except (Int×Int) (List kB)->List dj
 |.ok a=>a.map nR
 |.error _=>[]
def wS:Except (Int×Int) (List kB)->Int×Int
 |.ok _=>(0,0)
 |.error a=>a
theorem tq.h(b:tq d r e c):(∃g,e=.returned (.tuple #[g,Y (wS r).1,Y (wS r).2])/\bA [gD g (qY r)] d c)/\∀f,r=.error f->f.1≠0:=by
 cases r with
 |ok i=>exact⟨b,λ_ b=>by cases b⟩
 |error f=>exact⟨⟨_,b.1,(si d).cons (a:=gD (.slice none 0 0) []) b.2.1 ⟨Zq,Y8 ⟨rfl,rfl⟩⟩ (by intro f b;cases b)⟩,λ_ h=>by cases h;exact b.2.2⟩
def Tz{e}(a:iW σ E n b x y z=.ok e):pf E n b x.toNat y.toNat z.toNat=.ok e/\y<=10000:=by
 unfold iW at a;split at a
 .cases a
 split at a
 .cases a
 rename_i g;cases d:pf E n b x.toNat y.toNat z.toNat with
 |error f=>rw[d]at a;cases a
 |ok c=>rw[d]at a;cases a;exact⟨rfl,Zm⟩
def Ev:(qY (iW σ E n b x y z)).length<=10000/\∀c∈qY (iW σ E n b x y z),nP c.n:=by
 cases e:iW σ E n b x y z with
 |error h=>exact⟨by simp[qY],λc a=>by cases a⟩
 |ok j=>
  obtain⟨d,i⟩:=Tz e;refine⟨by have:=TO d;simp only[qY,YU];omega,λc a=>?_⟩;obtain⟨g,f,rfl⟩:=YE.1 a;exact TP d g f
end
end
section
variable {i : Nat -> Prop} {g f : Nat} {k : Zb} {σ : ah} {b l a : Zw} {h : PV} {v : List dj} {e : Zv} {j : Nl} {Kn : Zb -> Prop} {d : TypeId} {c : Nat}
def aaY(a:b.ownsRow c d 5 e v.length (v.flatMap cX)):oL b e (v.map gN):=by
 obtain⟨-,o⟩:=id a;rcases o with⟨rfl,n⟩|⟨i,l,u,rfl,-,-,p,q,-⟩
 .rw[List.eq_nil_of_length_eq_zero n];exact⟨none,0,rfl,Zq,Zq,λg j f=>by simp at f⟩
 .refine⟨some ⟨i,0,none⟩,l,Zq,by simpa using p,q,λg j f=>?_⟩;have h:g<v.length:=by
   rcases Yj g v.length with a|a
   .exact a
   .rw[YA (by simpa using a)]at f;cases f
  have r:j=gN (v.getD g bG):=by
   simp[h]at f;simp[h,f]
  subst r;obtain⟨s,t,m,k⟩:=sQ a h;cases m
  refine⟨i,0,rfl,?_⟩;rw[Nat.zero_add];exact k
def TJ{h g m j k l p}(q:HS b (hq (ff h).2 g j k l) (pf (dG h) g m j.toNat k.toNat l.toNat) p a)(u:ez σ g<0↔bS (ff h).2 g=none)(C:b.cell? (Zd 1 0)=some (eM 55))(w:∀c,iW σ (dG h) g m j k l=.error c->c.1≠0):ap [] b a/\∃v x,p=.returned (.tuple #[v,x])/\a.ownsRow b.heap.size 87 5 v (qY (iW σ (dG h) g m j k l)).length ((qY (iW σ (dG h) g m j k l)).flatMap cX)/\
  ∀e,ap [] a e->Calls prog 27 #[x,Y (wS (iW σ (dG h) g m j k l)).1,Y (wS (iW σ (dG h) g m j k l)).2] e λp F=>p=.returned (.bool true)/\ap [] e F:=by
 obtain⟨z,q⟩:=q;refine⟨z,?_⟩;have s:∀e,ap [] a e->e.cell? (Zd 1 0)=some (eM 55):=λe f=>pa C (z.u f);unfold iW at w ⊢;have r:∀(a:Zw) A d,a.ownsRow A d 5 (.slice none 0 0) 0 []:=λ_ _ _=>⟨rfl,Y8 ⟨rfl,rfl⟩⟩;rcases q with⟨I,o,rfl⟩|⟨E,J,v,o,t,rfl,D⟩|⟨E,G,B,o,t,rfl,H,y⟩
 .rcases Oo u o with⟨rfl,i⟩|⟨rfl,i,n⟩
  .rw[Y9 i];exact⟨_,_,rfl,r ..,λe f=>CQ (s e f) 10 Ze⟩
  .rw[Y2 i,Y9 n];exact⟨_,_,rfl,r ..,λe f=>CQ (s e f) 11 Ze⟩
 .obtain⟨i,n⟩:=CJ u o;rw[Y2 i,Y2 (not_not_intro n),t];exact⟨v,_,rfl,by simpa[vi,qY,List.flatMap_map]using D,λe f=>Hi 0 e⟩
 .obtain⟨i,n⟩:=CJ u o;rw[Y2 i,Y2 (not_not_intro n),t]at w ⊢;exact⟨_,_,rfl,r ..,λe f=>Hh (s e f) ((f.al B (ay y) Zq).trans y) (w _ rfl)⟩
end
section
variable {i : Nat -> Prop} {h f : Nat} {j : Zb} {σ : ah} {c k a : Zw} {e : PV} {v : List dj} {d : Zv} {g : Nl} {Kn : Zb -> Prop}
def TR{S L:Nat}{s d4}(a6:c.heap[S]?=some (.cells #[Zp L,e.rv,e.nv,e.pv,Zs σ.i] 67))(d8:tE d4 L s)(c0:∀A∈d4,c.heap[A.1]?=some A.2)(d9:mY s)(t:∀x∈(ff s).1,mq x)
  (R:bw i h j f σ e c) (d7:f<=1000000000) (f4:Tb σ.h g (dG s) Kn) (n b:Zb) (e0:b.length<=maxLen) (e8:0<=ez σ n->∃a5,dG s n=some a5/\kb σ.h g a5 (ez σ n)/\(∀A∈jo a5,Kn A.1)/\lG a5) (e9:ez σ n<0↔bS (ff s).2 n=none) (a7:c.cell? (Zd 1 0)=some (eM 55)) (x y z:Int) :
  Calls prog 21 #[Zp S,Zs n,Zs b,Y x,Y y,Y z] c λd6 m=>∃d,d6=.returned (.tuple #[d,.bool true])/\bA [gD d (qY (iW σ (dG s) n b x y z))] c m:=by
 have d2:=U (LM x y z c);have a4:=U (λa (a9:ap [] c a)=>(Qk (R.az a9) d7 f4 n b e8 x y z).mono λ_ _ C=>C.h);have b7:=U (λi1 a (a9:ap [] c a)=>(Qj d8 (λA e4=>(a9.al A.1 (ay (c0 A e4)) Zq).trans (c0 A e4)) d9 t n b x y z e0).mono λ_ _ C=>TJ (σ:=σ) C e9 (pa a7 a9) i1);have j2:=(Ev (σ:=σ) (E:=dG s) (n:=n) (b:=b) (x:=x) (y:=y) (z:=z)).1;obtain⟨g0,g6,e6⟩:=aV R.h;obtain⟨f8,g4,e3⟩:=aV R.F;obtain⟨f9,g5,e5⟩:=aV R.ao;have H:=U a6;clear a6 d8 c0 d9 t R d7 f4 e8 e9 a7 e0;generalize (∀k,iW σ (dG s) n b x y z=.error k->k.1≠0)=k1 at *
 generalize iW σ (dG s) n b x y z=u at *
 generalize qY u=p at *
 generalize (wS u).1=g9 at *
 generalize (wS u).2=h0 at *
 unfold gp at a4;rw[e6,e3,e5]at a4 H;clear e6 e3 e5;go_in;go_wp21;refine d2.i.mono ?_;rintro d6 w ⟨rfl,D⟩;have c7:=U D;clear D d2;go_wp21;generalize a8:World.alloc (World.alloc w _) _=a;have a1:af (ap [] c a):=by subst a8;exact(c7.i.A _).A _
 have b5:af (a.heap[w.heap.size]?=some (.cells #[Y x,Y y,Y z] 72)):=by
  subst a8;exact(((ar [] _).A _).al _ Zq Zq).trans (bl rfl)
 have a2:af (a.heap[w.heap.size+1]?=some (.cells #[Y x,Y y,Y z] 73)):=by
  subst a8;exact bl Zq
 clear a8 c7;have a0:=U ((a1.i.al _ (ay H.i) Zq).trans H.i);have d3:=U (a4.i a.drew a1.i.ag);have g1:=aE a0.i;have c2:=aE a2.i;clear a4 H;refine bJ (λm=>m.cell? (Zd S 1)=some (.slice g0 σ.h.length g6)/\m.cell? (Zd S 2)=some (.slice f8 σ.F.length g4)/\m.cell? (Zd S 3)=some (.slice f9 σ.ao.length g5)/\m.cell? (Zd S 4)=some (Zs σ.i)/\m.cell? ⟨w.heap.size+1,0,none⟩=some (Y x)/\m.cell? ⟨w.heap.size+1,1,none⟩=some (Y y)/\m.cell? ⟨w.heap.size+1,2,none⟩=some (Y z)) ?_ λP=>?_
 .go_keep
 refine bc [0,1,2,3,4,5,6] ?_;iterate 7 (refine bh ?_)
 refine be ?_;refine bI 7 λB q=>?_;(go_simp;go_at_call 36;refine d3.i.mono ?_;rintro O G ⟨⟨d,rfl,K⟩,f0⟩;have a3:=U K;have c8:=U (a1.i.ag.u K.fr);have b1:=U ((K.fr.al _ (ay a0.i) Zq).trans a0.i);have d0:=(K.fr.al _ (ay a2.i) Zq).trans a2.i;have c9:=U ((K.fr.al _ (ay b5.i) Zq).trans b5.i);have g3:=aE b1.i;have i2:=aE d0;have b7:=U (b7.i f0);clear K d3 d0 g1 c2);refine q.out _ _ ?_ (λP=>?_)
 .go_keep
 clear q B;refine nz ?_;refine bc [8,9,10,11,12,13] ?_;iterate 6 (refine bh ?_)
 refine be ?_;refine bL λB q=>?_;go_simp;refine q.out _ _ ?_;clear q B;refine nz ?_;clear g3 i2 P b5 a2 a0 f0;have c5:af (bA [gD d p] c G):=U ⟨c8.i,a3.i.y,λr h4 b a6=>Yz a1.i.aX (a3.i.bY r h4 b a6),a3.i.cc⟩;clear a3;go_wp2;go_loopw [19] (λr a=>∃F:Nat,r=Y F/\F<=2/\af (ap [] G a)) (λr _=>2-(intOf r).toNat)
 case atStart=>exact⟨0,rfl,Zm,U (ar [] G)⟩
 case round=>
  obtain⟨F,rfl,j4,I⟩:=hrel;rcases Yj F 2 with h7|a7
  .have h5:(F:Int)<2:=Zm;have d1:=U (b7.i wr.drew (c8.i.u I.i).ag);have b2:=U ((I.i.al _ (ay b1.i) Zq).trans b1.i);have b6:=U ((I.i.al _ (ay c9.i) Zq).trans c9.i);have i3:wr.cell? (Zd S 0)=some (Zp L):=aB b2.i rfl;have c2:=aE b6.i;go_wp21;refine bJ (λm=>m.cell? (Zd S 0)=some (Zp L)/\m.cell? (Zd w.heap.size 0)=some (Y x)/\m.cell? (Zd w.heap.size 1)=some (Y y)/\m.cell? (Zd w.heap.size 2)=some (Y z)) ?_ λP=>?_
   .go_keep
   refine bc [0,1,2,3,4,5,6] ?_;iterate 7 (refine bh ?_)
   refine be ?_;refine bI 7 λB q=>?_;(go_simp;go_at_call 37;refine d1.i.mono ?_;rintro O c3 ⟨b0,v,i9,rfl,b8,e7⟩;obtain⟨f5,j9,i0⟩:=aV b8;subst i0;have b3:=U b8;have c6:=U e7;have b4:=U (I.i.ag.u b0);have f2:c3.cell? (Zd S 0)=some (Zp L):=aB ((b0.al _ (ay b2.i) Zq).trans b2.i) rfl;have f3:=aE ((b0.al _ (ay b6.i) Zq).trans b6.i);clear b0 b8 e7 d1 i3 c2);refine q.out _ _ ?_ (λP=>?_)
   .go_keep
   clear q B;refine nz ?_;refine bc [8,9,10,11] ?_;iterate 4 (refine bh ?_)
   refine be ?_;refine bL λB q=>?_;go_simp;refine q.out _ _ ?_;clear q B;refine nz ?_;clear f2 f3 P;go_wp21;refine(c6.i c3 (ar [] c3)).mono ?_;rintro O k0 ⟨rfl,f1⟩;have M:=U f1;clear f1 c6;go_wp21;refine(NN (cf (c5.i.bC (i:=0) (a:=gD d p) rfl) (b4.i.u M.i) Zq) (aaY (cf b3.i M.i Zq)) Zm).mono ?_;rintro O f6 ⟨rfl,c1⟩;have f7:af (ap [] G f6/\(p.length≠0->∃k N,f5=some ⟨k,0,none⟩/\G.heap.size<=k/\f6.heap[k]?=some (.cells N 87)/\p.length*5<=N.size)):=U ⟨(b4.i.u M.i).u c1,λh2=>by
    obtain⟨-,C|⟨k,i5,g8,O,t,e1,j1,-,h3,-⟩⟩:=b3.i
    .exact absurd C.2 h2
    cases O
    exact⟨k,g8,rfl,Yz I.i.aX t,((M.i.u c1).al _ (ay e1) Zq).trans e1,by rw[h3];omega⟩⟩
   clear b4 M c1 b3;go_wp2;go_loopw [24] (λr a=>∃l:Nat,r=Y l/\l<=p.length/\af (ap [] G a/\(p.length≠0->∃k N,f5=some ⟨k,0,none⟩/\G.heap.size<=k/\a.heap[k]?=some (.cells N 87)/\p.length*5<=N.size))) (λr _=>p.length-(intOf r).toNat)
   case atStart=>exact⟨0,rfl,Zm,f7⟩
   case round=>
    obtain⟨l,rfl,j3,c4⟩:=hrel;rcases Yj l p.length with h8|a7
    .have h6:(l:Int)<p.length:=Zm;obtain⟨D,e2⟩:=c4.i;obtain⟨k,d5,rfl,t,J,b9⟩:=e2 Zm;have u:∀n,n<d5.size->∃g2,wr.cell? (Zd k n)=some g2:=λn C=>⟨d5[n],aB J (by simp[C])⟩;have i4:=bi J;obtain⟨i6,f2⟩:=u (l*5) Zm;obtain⟨g9,f3⟩:=u (l*5+1) Zm;obtain⟨h0,j6⟩:=u (l*5+2) Zm;obtain⟨i7,j7⟩:=u (l*5+3) Zm;obtain⟨i8,j8⟩:=u (l*5+4) Zm;have H:=U (Yp D (Yp t (Yp J b9)));clear u J b9 D t e2;go_wp2;obtain⟨D,t,J,b9⟩:=H.i;obtain⟨g7,h1,j0,-⟩:=yX (o:=l*5) (Y (-7)) (Y 0) (.string ⟨#[]⟩) (Y 0) (Y 0) J Zm;exact⟨⟨l+1,Zj,h8,U ⟨D.f8 (zg ..) (λj5 h9=>.inr (by rw[Yc.1 h9];exact t)),λ_=>⟨k,g7,rfl,t,h1,Zm⟩⟩⟩,Zz⟩
    .have h6:¬(l:Int)<p.length:=Zm;go_wp2;exact⟨⟨F+1,Zj,h7,U c4.i.1⟩,Zz⟩
  .have h5:¬(F:Int)<2:=Zm;go_wp2;go_ret2;exact⟨d,rfl,c5.i.ae I.i⟩
end
section
variable {d e : Zw} {a : Nat} {s g : fl} {k l h f : Zv} {R : List Th}
def TS{S}(a:DE S d)(j f:Zb)(v:f.length<=1000000000)(x:d.cell? (Zd 1 0)=some (eM 55))(e l m:Int):∃i:List dj,i.length<=10000/\(∀e∈i,nP e.n)/\Calls prog 21 #[Zp S,Zs j,Zs f,Y e,Y l,Y m] d λo y=>∃k,o=.returned (.tuple #[k,.bool true])/\bA [gD k i] d y:=by
 obtain⟨I,G,z,F,D,E,C,B,A,H,J,c,a,h,q,r,s,t,u⟩:=a;have b:=a.l0 h (He c) (OT c);have g:=a.k8 (OU c);exact⟨_,Ev.1,Ev.2,TR q r s b (Pe g λn w=>(Hd c n w).x) t u (a.tb h b g) j f (Yz v Ze) (λp=>a.lO h b g p) (a.kT b j) x e l m⟩
def aeN(d4:bA (wL a s k l h f R) e d)(m:dK)(G:kW m)(a5:uK s)(z:m.w<=0\/m.w=11\/m.w=12)(e7:s.bv≠[])(d1:∀S∈s.bv,yu R e S)(f3:AA s)(g3:(fy s m.a).length<=1000000000)(c9:e.cell? (Zd 1 0)=some (eM 55)):Calls prog 13 #[Zp a,.agg (di m)] d λc6 q=>c6=.returned (.bool true)/\∃g w x,bA (wL a g w x h f R) e q/\(g=s\/(∃A,g = { s with av:=s.av++[A] }/\A.length<=1000000000)\/∃E,g = { s with aK:=E }/\E.length<=10000/\∀A∈E,nP A.n):=by
 have d0:0<s.bv.length:=YM.2 e7;have a9:fP m.x s.bv.length<s.bv.length:=zA m.x d0;obtain⟨J,a2,rfl,-,-⟩:=Ng (d4.bC (i:=3) (a:=uy 37 h s.bv) rfl) a9;have c1:=U (zv (d4.aw (.cells (di m) 27)) m G a5);rw[MV Zm]at c1;have d8:=U (λ(I:Zw) w x (u:bA (wL a s w x (.slice (some ⟨J,0,none⟩) s.bv.length a2) f (R++[.obj d.heap.size (.cells (di m) 27)])) e I)=>wi (s:=s) (u.aL (i:=0) (R:=a) rfl) (u.bC (i:=1) (a:=cO w s.av) rfl) m.a G.2.1.1 G.2.1.2 (by have:=a5.av;omega));have b3:=U (Cd m.x s.bv.length G.1.1 G.1.2 d0 (by have:=a5.bv;omega));have d7:=U (λ(I:Zw) w x (u:bA (wL a s w x (.slice (some ⟨J,0,none⟩) s.bv.length a2) f (R++[.obj d.heap.size (.cells (di m) 27)])) e I)=>Ng (u.bC (i:=3) (a:=uy 37 (.slice (some ⟨J,0,none⟩) s.bv.length a2) s.bv) rfl) a9);have b4:=U (λ(I:Zw) w x (u:bA (wL a s w x (.slice (some ⟨J,0,none⟩) s.bv.length a2) f (R++[.obj d.heap.size (.cells (di m) 27)])) e I)=>UC (d1 (s.bv.getD (fP m.x s.bv.length) 0) (by simp[a9]) I u.fr λt c8=>u.y t (Pr c8)) (u.bC (i:=2) (a:=gD x s.aK) rfl) f3 (by have:=a5.aK;omega) s.a4 (pa c9 u.fr) s.a s.b s.c);have b2:=U (λ(I:Zw) w x (u:bA (wL a s w x (.slice (some ⟨J,0,none⟩) s.bv.length a2) f (R++[.obj d.heap.size (.cells (di m) 27)])) e I)=>TS (d1 (s.bv.getD (fP m.x s.bv.length) 0) (by simp[a9]) I u.fr λt c8=>u.y t (Pr c8)) s.a4 (fy s m.a) (by have:=g3;omega) (pa c9 u.fr) s.a s.b s.c);have g5:(s.av.length+1)*16<=140737488355328:=by have:=a5.av;omega
 have h5:(m.w==9)=false:=Zx;have h1:(m.w==10)=false:=Zx;have b1:=U z;have h3:¬(14:Int)<m.w:=Zm;have h9:((s.bv.length:Int)==0)=false:=Zx;have h7:(0:Int)<=↑(fP m.x s.bv.length):=Zm;have h8:(↑(fP m.x s.bv.length):Int) < ↑s.bv.length:=Zm;generalize fP m.x s.bv.length=f6 at *
 generalize s.bv.getD f6 0=S at *
 generalize fy s m.a=tx at *
 clear d4 G a5 e7 d0 a9 z d1 f3 c9;go_in;go_wp21;refine c1.i.mono ?_;rintro c6 d5 ⟨rfl,w,x,a7⟩;obtain⟨b6,b7,rfl⟩:=aV (a7.bC (i:=1) (a:=cO w s.av) rfl);obtain⟨d9,e2,rfl⟩:=aV (a7.bC (i:=2) (a:=gD x s.aK) rfl);have a1:=U a7;obtain⟨h6,g8,f4,c5,c7⟩:=d7.i d5 _ _ a7;simp only[Value.slice.injEq,Yu,Addr.mk.injEq,and_true,true_and]at f4;obtain⟨rfl,rfl⟩:=f4;clear a7 c1 d7;obtain⟨K,L,M,N,O,P,of,a0⟩:=fu a1.i.hm;have o:=a1.i.aL (i:=0) (R:=a) rfl;have c3:d5.cell? (Zd a 6)=some (.slice (some ⟨J,0,none⟩) s.bv.length a2):=aB o rfl;have C:=bi o;have D:=ay o;clear o;have b5:=U (d8.i d5.drew _ _ a1.i.ag);clear d8;generalize d.heap.size=c4 at *
 go_wp2;refine bJ (λq=>q.cell? (Zd a 6)=some (.slice (some ⟨J,0,none⟩) s.bv.length a2)/\q.cell? (Zd c4 1)=some (Y m.x)/\q.cell? (Zd J f6)=some (vX S)) ?_ λa3=>?_
 .go_keep
 refine bc [0,1,2,3,4,5,6,7,8,9,10] ?_;iterate 11 (refine bh ?_)
 refine be ?_;refine bI 11 λr p=>?_;(go_simp;refine(b3.i _).mono ?_;rintro c6 i0 ⟨rfl,rfl⟩);refine p.out _ _ ?_ (λa3=>?_)
 .go_keep
 clear p r;refine nz ?_;refine bc [12,13] ?_;iterate 2 (refine bh ?_)
 refine be ?_;refine bL λr p=>?_;go_simp;refine p.out _ _ ?_;clear p r;refine nz ?_;go_wp21;refine b5.i.mono ?_;rintro e4 f8 ⟨rfl,b8⟩;have v:=U (a1.i.ag.ae b8);rcases b1.i with z|z|z
 .have e5:(m.w==11)=false:=Zx;have g2:(m.w==12)=false:=Zx;have h2:(m.w==13)=false:=Zx;have h4:(m.w==14)=false:=Zx;clear a1 b5 b8 K L M N O P of a0 c3 C D c5 c7 b3 b4 b2 z b1;obtain⟨K,L,M,N,O,P,of,a0⟩:=fu v.i.hm;go_wp2;go_ret;exact⟨rfl,s,_,_,v.i.c7,Y8 rfl⟩
 rotate_left
 .have e5:(m.w==11)=false:=by rw[z];rfl
  have g2:(m.w==12)=true:=by rw[z];rfl
  clear z b1 b4;obtain⟨E,f0,G,a8⟩:=b2.i f8.drew _ _ v.i.ag;have b9:=U (Yp f0 G);have a6:=U a8;clear f0 G a8 b2;clear a1 b5 b8 K L M N O P of a0 c3 C D c5 c7 b3;obtain⟨K,L,M,N,O,P,of,a0⟩:=fu v.i.hm;have o:=v.i.aL (i:=0) (R:=a) rfl;have c2:=aE o;have C:=bi o;have D:=ay o;clear o;go_wp21;refine bJ (λq=>q.cell? (Zd a 2)=some (Zs s.a4)/\q.cell? (Zd a 3)=some (Y s.a)/\q.cell? (Zd a 4)=some (Y s.b)/\q.cell? (Zd a 5)=some (Y s.c)) ?_ λa3=>?_
  .go_keep
  refine bc [0,1,2,3,4,5,6,7,8,9,10,11,12,13,14,15,16,17,18] ?_;iterate 19 (refine bh ?_)
  refine be ?_;refine bI 19 λr p=>?_;(go_simp;refine a6.i.mono ?_;rintro e4 y ⟨g6,rfl,b0⟩;obtain⟨d2,d3,rfl⟩:=aV (b0.bC (i:=0) (a:=gD g6 E) rfl);have F:=U ((v.i.ag.cons b0.fr (b0.y _ Yb) (b0.bY _ Yb)).aW 2);clear v a6 b0 K L M N O P of a0 c2 C D;have B:=F.i.aL (i:=0) (R:=a) rfl;have e3:=aE B;have g9:=bi B;have h0:=ay B;clear B);refine p.out _ _ ?_ (λa3=>?_)
  .go_keep
  clear p r;refine nz ?_;refine bc [20,21,22,23,24] ?_;iterate 5 (refine bh ?_)
  refine be ?_;refine bI 25 λr p=>?_;go_simp;refine p.out _ _ ?_ (λa3=>?_)
  .have a4:=aE ((F.i.aq (i:=0) (j:=1) rfl (.slice d2 E.length d3)).aL (i:=0) (R:=a) rfl);exact⟨a4 2,a4 3,a4 4,a4 5⟩
  clear p r;refine nz ?_;refine bL λr p=>?_;go_simp;refine p.out _ _ ?_;clear p r;refine nz ?_;go_wp2;go_ret;have c0:=F.i.aq (i:=0) (j:=1) rfl (.slice d2 E.length d3);exact⟨rfl,{ s with aK:=E },_,.slice d2 E.length d3,er.c7 (a:=.obj c4 (.cells (di m) 27)) (by simpa[wL]using c0),Ya (Ya ⟨E,rfl,b9.i⟩)⟩
 have e5:(m.w==11)=true:=by rw[z];rfl
 clear z b1;obtain⟨A,f5,a8⟩:=b4.i f8.drew _ _ v.i.ag;have b9:=U f5;have a6:=U a8;clear f5 a8;clear a1 b5 b8 K L M N O P of a0 c3 C D c5 c7 b3 b4 b2;obtain⟨K,L,M,N,O,P,of,a0⟩:=fu v.i.hm;have o:=v.i.aL (i:=0) (R:=a) rfl;have c2:=aE o;have C:=bi o;have D:=ay o;clear o;go_wp21;refine bJ (λq=>q.cell? (Zd a 1)=some (.slice d9 s.aK.length e2)/\q.cell? (Zd a 2)=some (Zs s.a4)/\q.cell? (Zd a 3)=some (Y s.a)/\q.cell? (Zd a 4)=some (Y s.b)/\q.cell? (Zd a 5)=some (Y s.c)) ?_ λa3=>?_
 .go_keep
 refine bc [0,1,2,3,4,5,6,7,8,9,10,11,12,13,14,15,16,17,18,19,20] ?_;iterate 21 (refine bh ?_)
 refine be ?_;refine bI 21 λr p=>?_;(go_simp;refine a6.i.mono ?_;rintro e4 y ⟨rfl,f7⟩;have F:=U (v.i.ag.ae f7);have B:=F.i.aL (i:=0) (R:=a) rfl;have e3:y.cell? (Zd a 1)=some (.slice d9 s.aK.length e2):=aB B rfl;have f9:y.cell? (Zd a 2)=some (Zs s.a4):=aB B rfl;have g0:y.cell? (Zd a 3)=some (Y s.a):=aB B rfl;have a4:y.cell? (Zd a 4)=some (Y s.b):=aB B rfl;have g1:y.cell? (Zd a 5)=some (Y s.c):=aB B rfl;clear B f7);refine p.out _ _ ?_ (λa3=>?_)
 .go_keep
 clear p r;refine nz ?_;refine bc [22,23,24,25] ?_;iterate 4 (refine bh ?_)
 refine be ?_;refine bL λr p=>?_;go_simp;refine p.out _ _ ?_;clear p r;refine nz ?_;clear v a6 K L M N O P of a0 c2 C D e3 f9 g0 a4 g1 a3;have o:=F.i.aL (i:=0) (R:=a) rfl;have e0:y.cell? (Zd a 0)=some (.slice b6 s.av.length b7):=aB o rfl;have C:=bi o;have D:=ay o;clear o;have f1:af (∀A,(y.alloc A).ownsRow 0 9 1 (.slice b6 s.av.length b7) s.av.length (s.av.map λs=>Zs s)):=U (λA=>cf (F.i.bC (i:=1) (a:=cO (.slice b6 s.av.length b7) s.av) rfl) ((ar [] y).A A) Zq);go_wp2_with (at_builtin;(refine kE ue underlying30 (f1.i _) [Zs A] (heap_alloc_new y _) Zy g5 Zq (H:=y.heap.size+1) Zq ?_;intro e6 e1 g7 f2 e9 e8 g4;have d6:=U (F.i.gU (i:=1) rfl ((ar [] y).A _) f2 e9 e8 Zq);clear f2 e9 e8 g4 f1 e0 C D F;have o:=d6.i.aL (i:=0) (R:=a) rfl;have e0:g7.cell? (Zd a 0)=some (.slice b6 s.av.length b7):=aB o rfl;have C:=bi o;have D:=ay o;clear o));go_wp2;go_ret;have c0:=d6.i.aq (i:=0) (j:=0) rfl (.slice (some ⟨e6,0,none⟩) (s.av.length+1) e1);exact⟨rfl,_,.slice (some ⟨e6,0,none⟩) (s.av.length+1) e1,_,er.c7 (a:=.obj c4 (.cells (di m) 27)) (by simpa[wL]using c0),Ya (Y8 ⟨A,rfl,b9.i⟩)⟩
end
section
variable {a g : Zw} {h e : Nat} {s f : fl} {i j d b : Zv} {c : List Th} {o : dK}
def aeO(l:Dh h g e a)(P:e<=16384)(o:dK)(t:kW o)(z:o.s.length<=16384)(a4:o.w<9\/o.w=9\/o.w=11\/o.w=12)(F:Gl g)(E:g.cell? (Zd 1 0)=some (eM 55)):Calls prog 13 #[Zp h,.agg (di o)] a λr u=>r=.returned (.bool true)/\Dh h g (e+1) u:=by
 obtain⟨s,i,j,d,b,c,x,k,q,p⟩:=l;have w:=k.bm P;by_cases D:o.w=9
 .cases G:eR (aI (fy s o.a))with
  |error a3=>
   refine(ae2 x o t w D G F E).mono ?_;rintro r u ⟨rfl,m,n,l⟩;exact⟨rfl,s,m,n,d,b,c,l,k.up,q,p⟩
  |ok a2=>
   refine(aeX x o t w D G F).mono ?_;rintro r u ⟨rfl,S,m,n,R,a0,l,z⟩;refine⟨rfl,_,m,n,R,b,_,l,⟨k.up.av,k.up.eC,k.up.aK,by have:=k.bv;simp;omega,k.up.ev⟩,q,λL v K J H=>?_⟩;rcases Yn.1 v with v|v
   .exact p L v K J λy A=>H y (Yf _ A)
   .rw[Yc.1 v];exact z K J λy A=>H y (Ym _ A)
 by_cases O:o.w<=0\/o.w=11\/o.w=12
 .by_cases I:s.bv=[]
  .refine(aeT x o t w Zm I).mono ?_;rintro r u ⟨rfl,m,n,l⟩;exact⟨rfl,s,m,n,d,b,c,l,k.up,q,p⟩
  .refine(aeN x o t w O I p q (k.text o.a) E).mono ?_;rintro r u ⟨rfl,f,m,n,l,rfl|⟨a7,rfl,C⟩|⟨a6,rfl,a5,C⟩⟩
   .exact⟨rfl,f,m,n,d,b,c,l,k.up,q,p⟩
   .exact⟨rfl,_,m,n,d,b,c,l,k.aR C,q,p⟩
   .exact⟨rfl,_,m,n,d,b,c,l,⟨k.up.av,k.up.eC,by dsimp only;omega,k.up.bv,k.up.ev⟩,C,p⟩
 .obtain⟨f,B⟩:=abG (s:=s) (o:=o) Zm Zm;refine(aeV x o t w B).mono ?_;rintro r u ⟨rfl,m,n,l⟩;obtain⟨M,N,a1⟩:=k.ns z B;exact⟨rfl,f,m,n,d,b,c,l,M,abI t q B,by rw[N];exact p⟩
def Ql{v h}(m:qL a v h)(n:∀o∈h,kW o)(u:∀o∈h,o.s.length<=1000000000000000000)(r:Gl a)(q:a.cell? (Zd 1 0)=some (eM 55)):Calls prog 6 #[v] a λA M=>A=.returned (.bool true)/\ap [] a M:=by
 have g:ap [] a (a.alloc (.cells #[Y 9,Y 11,Y 12] 3)):=(ar [] a).A _;have p:(a.alloc (.cells #[Y 9,Y 11,Y 12] 3)).heap[a.heap.size]?=some (.cells #[Y 9,Y 11,Y 12] 3):=bl rfl;have l:=U (ab0 (kv:=.slice (some ⟨a.heap.size,0,none⟩) 3 3) (ks:=[9,11,12]) (m.ae g) u ⟨_,_,rfl,λK G=>⟨a.heap.size,rfl,aB p (by match K,G with|0,_=>rfl|1,_=>rfl|2,_=>rfl)⟩⟩ Zq (λk S R H E I F=>by
  have t:=g.u H;refine agA (Dh k.heap.size k) E I ⟨_,_,_,_,_,_,ag2 k,⟨Zq,Zq,Zq,Zq,Zq⟩,(by intro x f;cases f),Zq⟩ (λe x f=>?_) (λe x o f P J=>?_)
  .obtain⟨s,i,j,d,b,c,L,_⟩:=f;exact L.fr
  .obtain⟨B,C,D⟩:=F o J;exact aeO f Zm o (n o B) D (by simpa using C) (r.ae t Zq Zq Zq) (pa q t)))
 have z:=U g;obtain⟨ad,N,rfl,-⟩:=m;clear n u r q g p;go_in;go_wp21;refine l.i.mono ?_;rintro O a0 ⟨rfl,w⟩;have y:=U (z.i.u w);clear l w;go_wp2;go_ret;exact⟨rfl,y.i⟩
end
end Go.Proofs.YtjdhaegijjednaaGreatDoor
