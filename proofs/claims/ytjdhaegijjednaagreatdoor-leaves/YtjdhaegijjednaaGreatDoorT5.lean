import Derived.Test.YtjdhaegijjednaaGreatDoorT4
import Derived.Laws.IdiomStrings
import Derived.RangeFuncNested
import Derived.RangeFuncBound
import Derived.RangeFuncCalls
import Derived.RangeFuncLeaves
import Derived.Shelf.Abstract
import Derived.Shelf.RegionOpen
import Derived.WalkKit
import Derived.OwnWalkIn
import Derived.TacticsInMore
import Derived.LoopNIn
import Derived.LoopIn
import Derived.Maps.AppendAt
set_option linter.all false
set_option maxRecDepth 100000
set_option maxHeartbeats 4000000
namespace Go.Proofs.YtjdhaegijjednaaGreatDoor
open Go.RowKit Go.MapKept Go.Proofs.Tryz
def ac3{j d}(g:eW (aJ j)=.error d){c}(o:Gl c)(n:c.cell? (Zd 1 0)=some (eS 55)):Calls prog 16 #[Zs j] c λa s=>ap [] c s/\a=.returned (.tuple #[.pointer none,.bool true]):=by
 have l:=U g;have m:=U (RJ g o);have k:=U n;clear o g n;go_in;go_wp21;refine m.i.mono ?_;rintro a t ⟨h,v,rfl,f⟩;go_wp21;refine(IL j t).mono ?_;rintro a u ⟨b,e⟩;unfold qY at e;rw[l.i]at e;obtain⟨rfl,w⟩:=e;have x:((d.no:Int) != 0)=true:=Zu;have i:=U (((ar [] u).A (mr (.slice none 0 0) (.slice none 0 0) (.slice none 0 0) (.string ⟨#[]⟩))));have q:=U (HA (px (px (px k.i h) b) i.i) (((b.u i.i).ak _ (ay f) Zq).trans f) (by omega:(d.no:Int)≠0));have p:=U (h.u b);unfold He;clear f h b m k l;go_wp21;refine q.i.mono ?_;rintro a y ⟨rfl,r⟩;go_wp2;go_ret2;exact⟨(p.i.u i.i).u r,rfl⟩
def fU(a:Int)(b:Nat):Nat:=(if a<0 then -(a+1)else a).toNat % b
def Cz(a:Int)(b:Nat)(h:-9223372036854775808<=a)(i:a<=9223372036854775807)(j:0<b)(l:b<=1000000000)(d:Zw):Calls prog 18 #[Y a,Y b] d λe f=>e=.returned (Y (fU a b))/\f=d:=by
 have k:(b:Int)≠0:=Zm;by_cases g:a<0
 .have c:af ((fU a b:Int) = -(a+1).tmod b):=by
   show _=_;rw[<-Int.neg_tmod];unfold fU;grind
  go_in;go_wp2;go_ret;exact⟨by rw[c.i];rfl,rfl⟩
 .have c:af ((fU a b:Int)=a % b):=by
   show _=_;unfold fU;grind
  go_in;go_wp2;go_ret;exact⟨by rw[c.i];rfl,rfl⟩
def zN(b:Int){a:Nat}(c:0<a):fU b a<a:=Nat.mod_lt _ c
structure cF where
 w:Int
 n:Int
 s:Zb
 y:Int
 am:Int
abbrev cy(x:cF):Zl:=[Y x.w,Y x.n,Zs x.s,Y x.y,Y x.am]
structure fq where
 av:Zc
 aO:List cF
 a5:Zb
 a:Int
 b:Int
 c:Int
 bB:List Nat
 eG:List Nat
abbrev wt(a:Nat):Zv:=Zp a
def fF(a:fq)(b:Int):Zb:=if a.av=[]then []else a.av.getD (fU b a.av.length) []
def afQ{d v b}{a:Nat}(f:pj v b d)(h:a<b.length):∃c e,v=.slice (some ⟨c,0,none⟩) b.length e/\d.cell? (Zd c a)=some (.string ⟨(b.getD a []).toArray⟩)/\c<d.heap.size:=by
 obtain⟨c,e,k,g,_,j⟩:=nW f (i:=a) (x:=.string ⟨(b.getD a []).toArray⟩) Zg;simp_all
def wA{w:Zw}{b:Nat}{f:Zv}{s:fq}{rest:Zl}(i:w.heap[b]?=some (.cells (f::rest).toArray 35))(k:pj f s.av w)(a:Int)(r:-9223372036854775808<=a)(t:a<=9223372036854775807)(x:s.av.length<=1000000000):Calls prog 15 #[Zp b,Y a] w λp c=>p=.returned (.string ⟨(fF s a).toArray⟩)/\ap [] w c:=by
 have o:w.cell? (Zd b 0)=some f:=aC i rfl;have B:=ay i;by_cases q:s.av=[]
 .have d:af (fF s a=[]):=U (by unfold fF;simp_all);obtain⟨ad,g,rfl⟩:=aW k;have y:s.av.length=0:=Zu;rw[y]at o;go_in;go_wp2;go_ret;exact⟨by rw[d.i];rfl,ar [] w⟩
 .have j:0<s.av.length:=YM.2 q;have v:fU a s.av.length<s.av.length:=zN a j;obtain⟨h,g,rfl,C,D⟩:=afQ k v;have d:af (fF s a=s.av.getD (fU a s.av.length) []):=U (by unfold fF;simp_all);have n:=U (Cz a s.av.length r t j x);have G:((s.av.length:Int)==0)=false:=Zu;have E:(0:Int)<=↑(fU a s.av.length):=Zm;have F:(↑(fU a s.av.length):Int) < ↑s.av.length:=Zm;generalize fU a s.av.length=l at *
  generalize s.av.getD l []=z at *
  go_in;go_wp2;refine bJ (λc=>c.cell? (Zd b 0)=some (.slice (some ⟨h,0,none⟩) s.av.length g)/\c.cell? (Zd h l)=some (Zs z)) ?_ λu=>?_
  .go_keep
  refine bf [0,1,2,3,4,5,6,7,8,9] ?_;iterate 10 (refine bi ?_)
  refine bg ?_;refine bI 10 λm e=>?_;(go_simp;refine(n.i _).mono ?_;rintro A H ⟨rfl,rfl⟩);refine e.out _ _ ?_ (λu=>?_)
  .go_keep
  refine nz ?_;refine bf [11,12] ?_;iterate 2 (refine bi ?_)
  refine bg ?_;refine bL λm e=>?_;go_simp;refine e.out _ _ ?_;refine nz ?_;go_wp2;go_ret;exact⟨by rw[d.i];rfl,(ar [] w).ag⟩
section
variable {e l : Zw} {d : Nat} {s : fq} {h k g f : Zv} {R : List Th}
structure dJ where
 w:Int
 x:Int
 a:Int
 b:Int
 c:Int
 s:Zb
abbrev dl(d:dJ):Array Zv:=#[Y d.w,Y d.x,Y d.a,Y d.b,Y d.c,Zs d.s]
abbrev ahu(d:Nat)(s:fq)(h k g f:Zv):Th:=.obj d (.cells #[h,k,Zs s.a5,Y s.a,Y s.b,Y s.c,g,f] 35)
abbrev fX(v:Zv)(a:List cF):Th:=.row 52 5 v a.length (a.flatMap cy)
abbrev uN(b:TypeId)(v:Zv)(a:List Nat):Th:=.row b 1 v a.length (a.map wt)
abbrev wL(d:Nat)(s:fq)(h k g f:Zv)(R:List Th):List Th:=ahu d s h k g f::cS h s.av::fX k s.aO::uN 37 g s.bB::uN 48 f s.eG::R
def agB(A:bA (wL d s h k g f R) l e)(b:dJ)(J:b.w=1)(K:s.av.length<=100000):Calls prog 24 #[Zp d,.agg (dl b)] e λC F=>C=.returned (.bool true)/\∃E,bA (wL d { s with av:=s.av++[b.s] } E k g f R) l F:=by
 have n:=U (A.A (.cells (dl b) 27));obtain⟨iE,m,rfl⟩:=aW (A.bv (i:=1) (a:=cS h s.av) rfl);go_in;have c:=n.i.aR (i:=1) (R:=d) rfl;have q:(e.alloc (.cells (dl b) 27)).cell? (Zd d 0)=some (.slice iE s.av.length m):=aC c rfl;have r:=bl c;have t:=ay c;have y:af (∀o,((e.alloc (.cells (dl b) 27)).alloc o).ownsRow 0 9 1 (.slice iE s.av.length m) s.av.length (s.av.map λs=>Zs s)):=U (λo=>bQ (n.i.bv (i:=2) (a:=cS (.slice iE s.av.length m) s.av) rfl) ((ar [] (e.alloc (.cells (dl b) 27))).A o) Zq);go_wp2_with (at_builtin;(refine ku (B:=e.heap.size+1) ut underlying30 (y.i _) [.string ⟨(b.s).toArray⟩] (be Zq) Zy Zm Zq (H:=e.heap.size+2) Zq ?_;intro v u G z x w D;have p:=U (n.i.gU (i:=2) rfl ((ar [] (e.alloc (.cells (dl b) 27))).A _) z x w Zq);clear z x w D y q r t;have c:=p.i.aR (i:=1) (R:=d) rfl;have q:G.cell? (Zd d 0)=some (.slice iE s.av.length m):=aC c rfl;have r:=bl c;have t:=ay c;clear c));go_wp2;go_ret;have I:=(p.i.aq (i:=1) (j:=0) rfl (.slice (some ⟨v,0,none⟩) (s.av.length+1) u)).au;exact⟨rfl,.slice (some ⟨v,0,none⟩) (s.av.length+1) u,Zu⟩
end
section
variable {w h : Zw} {d : Nat} {s : fq} {k g f e : Zv} {R : List Th}
def agA(m:bA (wL d s k g f e R) h w)(a:dJ)(i:a.w≠1)(j:a.w≠2)(l:a.w≠3):Calls prog 24 #[Zp d,.agg (dl a)] w λc n=>c=.returned (.bool false)/\bA (wL d s k g f e R) h n:=by
 have b:=U (m.A (.cells (dl a) 27));have o:(a.w==1)=false:=by simpa using i
 have p:(a.w==2)=false:=by simpa using j
 have q:(a.w==3)=false:=by simpa using l
 go_in;go_wp2;go_ret;exact⟨rfl,b.i.au⟩
def zt(s:fq)(c:dJ):fq:=if(fF s c.a).length+(fF s c.b).length > 65536 then s else { s with av:=s.av++[fF s c.a++fF s c.b] }
abbrev ln(d:dJ):Prop:=(-9223372036854775808<=d.x/\d.x<=9223372036854775807)/\(-9223372036854775808<=d.a/\d.a<=9223372036854775807)/\(-9223372036854775808<=d.b/\d.b<=9223372036854775807)/\(-9223372036854775808<=d.c/\d.c<=9223372036854775807)
def agz(S:bA (wL d s k g f e R) h w)(c:dJ)(a6:ln c)(b7:c.w=3)(b8:s.av.length<=100000)(c1:∀o∈s.av,o.length<=1000000000):Calls prog 24 #[Zp d,.agg (dl c)] w λa5 y=>a5=.returned (.bool true)/\∃b1,bA (wL d (zt s c) b1 g f e R) h y:=by
 have u:=U (S.A (.cells (dl c) 27));obtain⟨iE,m,rfl⟩:=aW (S.bv (i:=1) (a:=cS k s.av) rfl);have P:∀E,(fF s E).length<=1000000000:=λE=>by
  grind [fF]
 have b9:=P c.a;have c0:=P c.b;obtain⟨-,I,K,-⟩:=a6;have b5:(c.w==1)=false:=Zu;have b6:(c.w==2)=false:=Zu;have a1:=U (wA (w:=w.alloc (.cells (dl c) 27)) (s:=s) (u.i.aR (i:=1) (R:=d) rfl) (u.i.bv (i:=2) (a:=cS (.slice iE s.av.length m) s.av) rfl) c.a I.1 I.2 Zm);have a2:af (∀q,bA (.obj w.heap.size (.cells (dl c) 27)::wL d s (.slice iE s.av.length m) g f e R) h q->Calls prog 15 #[Zp d,Y c.b] q λx y=>x=.returned (.string ⟨(fF s c.b).toArray⟩)/\ap [] q y):=U (λq a0=>wA (s:=s) (a0.aR (i:=1) (R:=d) rfl) (a0.bv (i:=2) (a:=cS (.slice iE s.av.length m) s.av) rfl) c.b K.1 K.2 Zm);have z:af (zt s c=if(fF s c.a).length+(fF s c.b).length > 65536 then s else { s with av:=s.av++[fF s c.a++fF s c.b] }):=U rfl
 generalize fF s c.a=r at *
 generalize fF s c.b=t at *
 go_in;go_wp21;refine a1.i.mono ?_;rintro x b2 ⟨rfl,a9⟩;have v:=U (u.i.ae a9);generalize w.heap.size=a4 at *
 obtain⟨c2,c3,c4,c5,c6,c7,of,c8⟩:=fs (v.i.aR (i:=0) (R:=a4) rfl);have a3:=U (a2.i b2 v.i);go_wp21;refine a3.i.mono ?_;rintro x n ⟨rfl,b0⟩;have p:=U (v.i.ae b0);by_cases L:r.length+t.length > 65536
 .have a7:(65536:Int) < ↑r.length+↑t.length:=Zm;go_wp2;go_ret;rw[z.i,Y9 L];exact⟨rfl,_,p.i.au⟩
 .have a7:¬(65536:Int) < ↑r.length+↑t.length:=Zm;have l:=p.i.aR (i:=1) (R:=d) rfl;have B:n.cell? (Zd d 0)=some (.slice iE s.av.length m):=aC l rfl;have C:=bl l;have D:=ay l;have N:af (∀o,(n.alloc o).ownsRow 0 9 1 (.slice iE s.av.length m) s.av.length (s.av.map λs=>Zs s)):=U (λo=>bQ (p.i.bv (i:=2) (a:=cS (.slice iE s.av.length m) s.av) rfl) ((ar [] n).A o) Zq);go_wp2_with (at_builtin;(refine ku ut underlying30 (N.i _) [.string ⟨(r++t).toArray⟩] (heap_alloc_new n _) Zy Zm Zq (H:=n.heap.size+1) Zq ?_;intro G F b3 O M J a8;have A:=U (p.i.gU (i:=2) rfl ((ar [] n).A _) O M J Zq);clear O M J a8 N B C D;have l:=A.i.aR (i:=1) (R:=d) rfl;have B:b3.cell? (Zd d 0)=some (.slice iE s.av.length m):=aC l rfl;have C:=bl l;have D:=ay l;clear l));go_wp2;go_ret;have b4:=(A.i.aq (i:=1) (j:=0) rfl (.slice (some ⟨G,0,none⟩) (s.av.length+1) F)).au;rw[z.i,Y2 L];exact⟨rfl,.slice (some ⟨G,0,none⟩) (s.av.length+1) F,Zu⟩
end
section
variable {w j : Zw} {d : Nat} {s : fq} {g h f e : Zv} {R : List Th}
def LS(w:Zw)(a:TypeId)(c:Za):ap [] w (Lib.bytesWorld w a c):=by
 have b:=((ar [] w).ag).A (.cells (Lib.bytesCells w a c) a);refine⟨b.os,b.dt,b.ds,by rw[Lib.bytesWorld_size];omega,λe d _=>Lib.bytesWorld_at_old w a c e d⟩
def uP(a:Zb)(b c:Int):Zb:=if a=[]then []else a.set (fU b a.length) (UInt8.ofNat (c % 256).toNat)
def agC(I:bA (wL d s g h f e R) j w)(k:dJ)(N:ln k)(a2:k.w=2)(b5:s.av.length<=100000)(M:fF s k.a=[]):Calls prog 24 #[Zp d,.agg (dl k)] w λL a7=>L=.returned (.bool true)/\∃a6,bA (wL d { s with av:=s.av++[[]] } a6 h f e R) j a7:=by
 have n:=U (I.A (.cells (dl k) 27));obtain⟨iE,m,rfl⟩:=aW (I.bv (i:=1) (a:=cS g s.av) rfl);obtain⟨-,C,b1,-⟩:=N;have b0:(k.w==1)=false:=by rw[a2];rfl
 have t:=U (wA (w:=w.alloc (.cells (dl k) 27)) (s:=s) (n.i.aR (i:=1) (R:=d) rfl) (n.i.bv (i:=2) (a:=cS (.slice iE s.av.length m) s.av) rfl) k.a C.1 C.2 Zm);rw[M]at t;go_in;go_wp21;refine t.i.mono ?_;rintro a9 b ⟨rfl,a5⟩;have q:=U (n.i.ae a5);generalize w.heap.size=K at *
 obtain⟨b6,b7,b8,b9,c0,c1,of,c2⟩:=fs (q.i.aR (i:=0) (R:=K) rfl);have S:=Lib.run_convert_string_bytes (P:=prog) b 9 97 5 ⟨#[]⟩ (u:=.string) Zk Zk Zk;have O:=run_convert_bytes_back (Lib.bytesWorld b 5 ⟨#[]⟩) 97 9 5 ⟨b.heap.size,0,none⟩ (grownCap b 0 0 5) [] underlying97 underlying5 underlying9 (λa4 a1=>by simp at a1);have o:=U (q.i.ae (LS b 5 ⟨#[]⟩));generalize a0:grownCap b 0 0 5=B at *
 generalize b2:Lib.bytesWorld b 5 ⟨#[]⟩=c at *
 have b4:(convert 9 97 (.string ⟨#[]⟩)).run prog b=.ok (.slice (some ⟨b.heap.size,0,none⟩) 0 B) c:=by rw[<-a0];exact S
 have b3:(convert 97 9 (.slice (some ⟨b.heap.size,0,none⟩) 0 B)).run prog c=.ok (.string ⟨#[]⟩) c:=O;have l:=o.i.aR (i:=1) (R:=d) rfl;have v:c.cell? ⟨d,0,none⟩=some (.slice iE s.av.length m):=aC l rfl;have x:=bl l;have y:=ay l;have F:af (∀p,(c.alloc p).ownsRow 0 9 1 (.slice iE s.av.length m) s.av.length (s.av.map λs=>Zs s)):=U (λp=>bQ (o.i.bv (i:=2) (a:=cS (.slice iE s.av.length m) s.av) rfl) ((ar [] c).A p) Zq);go_wp2_with (at_builtin;(refine ku ut underlying30 (F.i _) [.string ⟨(([]:Zb)).toArray⟩] (heap_alloc_new c _) Zy Zm Zq (H:=c.heap.size+1) Zq ?_;intro A z a8 G E D a3;have r:=U (o.i.gU (i:=2) rfl ((ar [] c).A _) G E D Zq);clear G E D a3 F v x y;have l:=r.i.aR (i:=1) (R:=d) rfl;have v:a8.cell? ⟨d,0,none⟩=some (.slice iE s.av.length m):=aC l rfl;have x:=bl l;have y:=ay l;clear l));go_wp2;go_ret;have J:=(r.i.aq (i:=1) (j:=0) rfl (.slice (some ⟨A,0,none⟩) (s.av.length+1) z)).au;exact⟨rfl,.slice (some ⟨A,0,none⟩) (s.av.length+1) z,by simpa using J⟩
def agD(b6:bA (wL d s g h f e R) j w)(n:dJ)(c4:ln n)(c7:n.w=2)(f1:s.av.length<=100000){k:Zb}(d2:fF s n.a=k)(a5:k≠[])(d3:k.length<=1000000000):Calls prog 24 #[Zp d,.agg (dl n)] w λa2 B=>a2=.returned (.bool true)/\∃e0,bA (wL d { s with av:=s.av++[uP k n.b n.c] } e0 h f e R) j B:=by
 have D:=U (b6.A (.cells (dl n) 27));obtain⟨iE,z,rfl⟩:=aW (b6.bv (i:=1) (a:=cS g s.av) rfl);obtain⟨-,a6,a8,e5⟩:=c4;have e3:(n.w==1)=false:=by rw[c7];rfl
 have L:=U (wA (w:=w.alloc (.cells (dl n) 27)) (s:=s) (D.i.aR (i:=1) (R:=d) rfl) (D.i.bv (i:=2) (a:=cS (.slice iE s.av.length z) s.av) rfl) n.a a6.1 a6.2 Zm);rw[d2]at L;have b5:0<k.length:=YM.2 a5;have c8:fU n.b k.length<k.length:=zN n.b b5;have c3:=U (Cz n.b k.length a8.1 a8.2 b5 d3);have b9:af (uP k n.b n.c=k.set (fU n.b k.length) (UInt8.ofNat (n.c % 256).toNat)):=U (by unfold uP;rw[Y2 a5]);have e9:(0:Int)<=↑(fU n.b k.length):=Zm;have f0:(↑(fU n.b k.length):Int) < ↑k.length:=Zm;have e8:(0:Int) < ↑k.length:=Zm;generalize fU n.b k.length=o at *
 go_in;go_wp21;refine L.i.mono ?_;rintro a1 l ⟨rfl,d4⟩;have E:=U (D.i.ae d4);generalize w.heap.size=A at *
 obtain⟨d5,d6,d7,b7,b8,d8,of,d9⟩:=fs (E.i.aR (i:=0) (R:=A) rfl);have e7:(convert 9 97 (Zs k)).run prog l=.ok (.slice (some ⟨l.heap.size,0,none⟩) k.length (grownCap l k.length 0 5)) (Lib.bytesWorld l 5 ⟨k.toArray⟩):=Lib.run_convert_string_bytes (P:=prog) l 9 97 5 ⟨k.toArray⟩ (u:=.string) Zk Zk Zk;have C:=U (LS l 5 ⟨k.toArray⟩);have J:af (∀m,m<k.length->(Lib.bytesWorld l 5 ⟨k.toArray⟩).cell? ⟨l.heap.size,m,none⟩=some (.int .u8 (k.getD m 0).toNat)):=U (λm t=>Lib.bytesWorld_cell l 5 ⟨k.toArray⟩ m t);have f3:=px b7 C.i;have f4:=px b8 C.i;have a0:=J.i o c8;have e4:(Lib.bytesWorld l 5 ⟨k.toArray⟩).frozen? ⟨l.heap.size,o,none⟩=false:=by
  have b2:=Lib.bytesWorld_at_new l 5 ⟨k.toArray⟩;have f2:o<(Lib.bytesCells l 5 ⟨k.toArray⟩).size:=by
   rcases Yj o (Lib.bytesCells l 5 ⟨k.toArray⟩).size with q|q
   .exact q
   .simp[World.cell?,b2,YO q]at a0
  simp[World.frozen?,b2];omega
 generalize grownCap l k.length 0 5=a4 at *
 generalize Lib.bytesWorld l 5 ⟨k.toArray⟩=y at *
 obtain⟨d5,d6,d7,b7,b8,d8,of,d9⟩:=fs (E.i.aR (i:=0) (R:=A) rfl);go_wp2;refine bJ (λB=>B.cell? ⟨A,3,none⟩=some (Y n.b)/\B.cell? ⟨A,4,none⟩=some (Y n.c)) ?_ λc5=>?_
 .go_keep
 refine bf [0,1,2,3,4,6,7,8] ?_;iterate 8 (refine bi ?_)
 refine bg ?_;refine bI 5 λc0 I=>?_;(go_simp;refine(c3.i _).mono ?_;rintro a2 f5 ⟨rfl,rfl⟩);refine I.out _ _ ?_ (λc5=>?_)
 .go_keep
 refine nz ?_;refine pN 9 ?_;refine bL λc0 I=>?_;go_simp;refine I.out _ _ ?_;refine nz ?_;have d1:IntKind.wrap .u8 n.c=((UInt8.ofNat (n.c % 256).toNat).toNat:Int):=by
  rw[IntKind.wrap_u8];have q:(n.c % 256).toNat<256:=Zm;simp;omega
 rw[d1];generalize UInt8.ofNat (n.c % 256).toNat=v at *
 have d0:∀m,m<k.length->((y.setCell ⟨l.heap.size,o,none⟩ (.int .u8 (v.toNat:Int))).drew).cell? ⟨l.heap.size,m,none⟩=some (.int .u8 ((k.set o v).getD m 0).toNat):=by
  intro m t;by_cases b0:m=o
  .subst b0;have q:(y.setCell ⟨l.heap.size,m,none⟩ (.int .u8 (v.toNat:Int))).cell? ⟨l.heap.size,m,none⟩=some (.int .u8 (v.toNat:Int)):=World.cell?_setCell_same _ _ _ a0;have G:(k.set m v).getD m 0=v:=by simp[t]
   rw[G];exact q
  .have b1:¬o=m:=λa1=>b0 a1.symm;have q:(y.setCell ⟨l.heap.size,o,none⟩ (.int .u8 (v.toNat:Int))).cell? ⟨l.heap.size,m,none⟩=y.cell? ⟨l.heap.size,m,none⟩:=World.cell?_setCell_other _ _ _ _ (by simp[b1]);have G:(k.set o v).getD m 0=k.getD m 0:=by simp[b1]
   rw[G];exact q.trans (J.i m t)
 have c1:ap [] l (y.setCell ⟨l.heap.size,o,none⟩ (.int .u8 (v.toNat:Int))).drew:=(qr C.i ((ar [l.heap.size] y).a6 (p:=⟨l.heap.size,o,none⟩) Zq _) Zq).ag;have F:=U (E.i.ae c1);generalize (y.setCell ⟨l.heap.size,o,none⟩ (.int .u8 (v.toNat:Int))).drew=r at *
 have e6:(convert 97 9 (.slice (some ⟨l.heap.size,0,none⟩) k.length a4)).run prog r=.ok (.string ⟨(k.set o v).toArray⟩) r:=by
  have q:=run_convert_bytes_back r 97 9 5 ⟨l.heap.size,0,none⟩ a4 (k.set o v) underlying97 underlying5 underlying9 (λm t=>by
   have c6:(⟨l.heap.size,0,none⟩:Addr).add m=⟨l.heap.size,m,none⟩:=by unfold Addr.add;split<;>simp_all
   rw[c6,d0 m (by simpa using t)];simp at t;simp[t])
  rw[YF]at q;exact q
 generalize k.set o v=e2 at *
 have x:=F.i.aR (i:=1) (R:=d) rfl;have M:r.cell? ⟨d,0,none⟩=some (.slice iE s.av.length z):=aC x rfl;have N:=bl x;have O:=ay x;have b3:af (∀k,(r.alloc k).ownsRow 0 9 1 (.slice iE s.av.length z) s.av.length (s.av.map λs=>Zs s)):=U (λk=>bQ (F.i.bv (i:=2) (a:=cS (.slice iE s.av.length z) s.av) rfl) ((ar [] r).A k) Zq);go_wp2_with (at_builtin;(refine ku ut underlying30 (b3.i _) [.string ⟨(e2).toArray⟩] (heap_alloc_new r _) Zy Zm Zq (H:=r.heap.size+1) Zq ?_;intro a3 S e1 b4 a9 a7 c9;have K:=U (F.i.gU (i:=2) rfl ((ar [] r).A _) b4 a9 a7 Zq);clear b4 a9 a7 c9 b3 M N O;have x:=K.i.aR (i:=1) (R:=d) rfl;have M:e1.cell? ⟨d,0,none⟩=some (.slice iE s.av.length z):=aC x rfl;have N:=bl x;have O:=ay x;clear x));go_wp2;go_ret;have c2:=(K.i.aq (i:=1) (j:=0) rfl (.slice (some ⟨a3,0,none⟩) (s.av.length+1) S)).au;rw[b9.i];exact⟨rfl,.slice (some ⟨a3,0,none⟩) (s.av.length+1) S,by simpa using c2⟩
end
section
variable {l k : Zw} {e : Nat} {d : fq} {m h g f : Zv} {R : List Th}
def pM(d:fq)(e:dJ):Option fq:=
 if e.w=1 then some { d with av:=d.av++[e.s] }
 else if e.w=2 then some { d with av:=d.av++[uP (fF d e.a) e.b e.c] }
 else if e.w=3 then some (zt d e)
 else none
def wM(d:fq)(e:Nat)(h g f:Zv)(R:List Th)(k:Zw)(i:Option fq)(b:Ending)(c:Zw):Prop:=match i with
 |some j=>b=.returned (.bool true)/\∃a,bA (wL e j a h g f R) k c
 |none=>b=.returned (.bool false)/\∃a,bA (wL e d a h g f R) k c
def agq(c:∀b∈d.av,b.length<=1000000000)(a:Int):(fF d a).length<=1000000000:=by
 grind [fF]
def agy(n:bA (wL e d m h g f R) k l)(i:dJ)(r:ln i)(q:d.av.length<=100000)(s:∀v∈d.av,v.length<=1000000000):Calls prog 24 #[Zp e,.agg (dl i)] l (wM d e h g f R k (pM d i)):=by
 unfold pM;by_cases o:i.w=1
 .rw[Y9 o];exact agB n i o q
 .rw[Y2 o];by_cases j:i.w=2
  .rw[Y9 j];by_cases t:fF d i.a=[]
   .have:uP (fF d i.a) i.b i.c=[]:=by unfold uP;simp_all
    rw[this];exact agC n i r j q t
   .exact agD n i r j q rfl t (agq s i.a)
  .rw[Y2 j];by_cases p:i.w=3
   .rw[Y9 p];exact agz n i r p q s
   .rw[Y2 p];refine(agA n i o j p).mono ?_;rintro w x ⟨rfl,u⟩;exact⟨rfl,m,u⟩
def ab6(q:bA (wL e d m h g f R) k l)(n:dJ)(o:n.w=7):Calls prog 14 #[Zp e,.agg (dl n)] l λt u=>t=.returned (.bool true)/\bA (wL e { d with a:=n.a,b:=n.b,c:=n.c } m h g f R) k u:=by
 have r:=U q;have p:=q.aR (i:=0) (R:=e) rfl;have v:=aE p;have w:=bl p;have x:=ay p;have y:(n.w==4)=false:=by rw[o];rfl
 have z:(n.w==5)=false:=by rw[o];rfl
 have A:(n.w==6)=false:=by rw[o];rfl
 go_in;go_wp2;go_ret;have s:=((((r.i.aq (i:=0) (j:=3) rfl (Y n.a)).aq (i:=0) (j:=4) rfl (Y n.b)).aq (i:=0) (j:=5) rfl (Y n.c)).A (.cells (dl n) 27)).au;exact⟨rfl,s⟩
def ab7(c:bA (wL e d m h g f R) k l)(a:dJ)(y:a.w=8):Calls prog 14 #[Zp e,.agg (dl a)] l λo p=>o=.returned (.bool true)/\bA (wL e { d with a5:=a.s } m h g f R) k p:=by
 have n:=U c;have b:=c.aR (i:=0) (R:=e) rfl;have r:l.cell? (Zd e 2)=some (Zs d.a5):=aC b rfl;have s:=bl b;have t:=ay b;have u:(a.w==4)=false:=Zu;have v:(a.w==5)=false:=Zu;have w:(a.w==6)=false:=Zu;have x:(a.w==7)=false:=Zu;go_in;go_wp2;go_ret;have q:=((n.i.aq (i:=0) (j:=2) rfl (Zs a.s)).A (.cells (dl a) 27)).au;simp_all
end
section
variable {c g : Zw} {a : Nat} {b : fq} {h f e d : Zv} {R : List Th}
def ab9(m:bA (wL a b h f e d R) g c)(k:dJ)(z:k.w=6):Calls prog 14 #[Zp a,.agg (dl k)] c λp q=>p=.returned (.bool true)/\bA (wL a { b with aO:=[] } h (.slice none 0 0) e d R) g q:=by
 have n:=U m;have l:=m.aR (i:=0) (R:=a) rfl;have s:c.cell? (Zd a 1)=some f:=aC l rfl;have t:=bl l;have u:=ay l;have v:(k.w==4)=false:=Zu;have w:(k.w==5)=false:=Zu;go_in;go_wp2;go_ret;have o:=((n.i.aq (i:=0) (j:=1) rfl (.slice none 0 0)).A (.cells (dl k) 27)).au;have r:=o.b6 (i:=2) (a':=fX (.slice none 0 0) []) rfl (ar [] _) Zq ⟨rfl,Y8 ⟨rfl,rfl⟩⟩ (λx y=>by grind [Th.aH,Value.ownBlock]);simp_all
def acb(s:bA (wL a b h f e d R) g c)(i:dJ)(p:ln i)(q:b.av.length<=100000)(r:∀t∈b.av,t.length<=1000000000)(A:i.w≠4)(B:i.w≠5)(C:i.w≠6)(D:i.w≠7)(E:i.w≠8):Calls prog 14 #[Zp a,.agg (dl i)] c (wM b a f e d R g (pM b i)):=by
 have o:=U (agy ((s.A (.cells (dl i) 27)).au) i p q r);have u:(i.w==4)=false:=Zu;have v:(i.w==5)=false:=Zu;have w:(i.w==6)=false:=Zu;have x:(i.w==7)=false:=Zu;have y:(i.w==8)=false:=Zu;go_in;go_wp21;refine o.i.mono ?_;intro z G j;unfold wM at j;cases k:pM b i with
 |some F=>
  rw[k]at j;obtain⟨rfl,n⟩:=j;have l:=U n;have m:=U k;go_wp2;go_ret;unfold wM;rw[m.i];exact⟨rfl,l.i⟩
 |none=>
  rw[k]at j;obtain⟨rfl,n⟩:=j;have l:=U n;have m:=U k;go_wp2;go_ret;unfold wM;rw[m.i];exact⟨rfl,l.i⟩
end
section
variable {w l : Zw} {e : Nat} {d : fq} {h k g f : Zv} {R : List Th}
def BE:(prog.info? 52).map (λa=>(a.zero,a.size,a.bytes))=some (some (.agg #[Y 0,Y 0,.string ⟨#[]⟩,Y 0,Y 0]),5,48):=Zk
def ab8(v:bA (wL e d h k g f R) l w)(m:dJ)(a7:m.w=4)(a8:d.aO.length<=100000):Calls prog 14 #[Zp e,.agg (dl m)] w λI p=>I=.returned (.bool true)/\∃N,bA (wL e { d with aO:=d.aO++[⟨m.a,m.b,m.s,0,m.c⟩] } h N g f R) l p:=by
 have t:=U (v.A (.cells (dl m) 27));obtain⟨iE,r,rfl⟩:=aW (v.bv (i:=2) (a:=fX k d.aO) rfl);have J:(d.aO.length+1)*48<=140737488355328:=Zm;have L:∀o∈cy ⟨m.a,m.b,m.s,0,m.c⟩,o.oneCell'=true:=by
  intro o G;simp[cy]at G;rcases G with rfl|rfl|rfl|rfl|rfl<;>rfl
 have n:=v.aR (i:=0) (R:=e) rfl;have a0:w.cell? (Zd e 1)=some (.slice iE d.aO.length r):=aC n rfl;have a1:=bl n;have a2:=ay n;go_in;go_wp2;generalize a6:w.heap.size=q at *
 generalize w.alloc (.cells (dl m) 27)=o at *
 obtain⟨a9,b0,b1,b2,b3,b4,of,b5⟩:=fs (t.i.aR (i:=0) (R:=q) rfl);have n:=t.i.aR (i:=1) (R:=e) rfl;have a3:o.cell? (Zd e 1)=some (.slice iE d.aO.length r):=aC n rfl;have a4:=bl n;have a5:=ay n;have M:af (o.ownsRow 0 52 5 (.slice iE d.aO.length r) d.aO.length (d.aO.flatMap cy)):=U (t.i.bv (i:=3) (a:=fX (.slice iE d.aO.length r) d.aO) rfl);have x:=U (λP=>(((ar [] o).A P).ag));refine bJ (λp=>p.cell? (Zd e 1)=some (.slice iE d.aO.length r)/\p.cell? (Zd q 2)=some (Y m.a)/\p.cell? (Zd q 3)=some (Y m.b)/\p.cell? (Zd q 4)=some (Y m.c)/\p.cell? (Zd q 5)=some (Zs m.s)) ?_ λC=>?_
 .go_keep
 refine bf [0,1,2,3,4,5,6,7,8,9,10,11,12,13] ?_;iterate 14 (refine bi ?_)
 refine bg ?_;refine bI 14 λy s=>?_;go_simp;refine s.out _ _ ?_ (λC=>?_)
 .go_keep
 refine nz ?_;refine bI 15 λy s=>?_;(refine mh (B:=o.heap.size) BE underlying31 (bQ M.i (x.i _) Zq) (cy ⟨m.a,m.b,m.s,0,m.c⟩) (be (w:=o) Zq) L J Zm (H:=o.heap.size+1) Zq ?_;intro A z O F E D K;have u:=U (t.i.a4 (i:=3) rfl (x.i _) F E D Zq);obtain⟨b9,c0,c1,c2,c3,c4,c5,c6⟩:=fs (u.i.aR (i:=0) (R:=q) rfl);have n:=u.i.aR (i:=1) (R:=e) rfl;have b6:O.cell? (Zd e 1)=some (.slice iE d.aO.length r):=aC n rfl;have b7:=bl n;have b8:=ay n;clear F E D K n);refine s.out _ _ ?_ (λC=>?_)
 .go_keep
 refine nz ?_;refine bf [16,17] ?_;iterate 2 (refine bi ?_)
 refine bg ?_;refine bL λy s=>?_;go_simp;refine s.out _ _ ?_;refine nz ?_;go_wp2;go_ret;have S:=(u.i.aq (i:=1) (j:=1) rfl (.slice (some ⟨A,0,none⟩) (d.aO.length+1) z)).au;exact⟨rfl,.slice (some ⟨A,0,none⟩) (d.aO.length+1) z,Zg⟩
end
section
variable {e j : Zw} {c : Nat} {b : fq} {h d g f : Zv} {R : List Th}
def ab5(l:bA (wL c b h d g f R) j e)(k:dJ)(x:k.w=5)(w:b.aO=[]):Calls prog 14 #[Zp c,.agg (dl k)] e λq s=>q=.returned (.bool true)/\bA (wL c b h d g f R) j s:=by
 have n:=U (l.A (.cells (dl k) 27));obtain⟨iE,p,rfl⟩:=aW (l.bv (i:=2) (a:=fX d b.aO) rfl);have m:=l.aR (i:=0) (R:=c) rfl;have o:e.cell? (Zd c 1)=some (.slice iE b.aO.length p):=aC m rfl;have r:b.aO.length=0:=Zu;rw[r]at o;have t:=bl m;have u:=ay m;have v:(k.w==4)=false:=Zu;go_in;go_wp2;go_ret;exact⟨rfl,n.i.au⟩
end
section
variable {b j : Zw} {d : Nat} {f : fq} {h i g e : Zv} {c : List Th}
theorem ey.aw(k:bA (wL d f h i g e c) j b)(a:Obj):bA (wL d f h i g e (c++[.obj b.heap.size a])) j (b.alloc a):=(k.A a).h9
def ey.c7{a:Th}(k:bA (wL d f h i g e (c++[a])) j b):bA (wL d f h i g e c) j b:=JN (L:=wL d f h i g e c) k
def ey.g5{a k}(l:bA (wL d f h i g e (c++[.obj a k])) j b):b.heap[a]?=some k:=l.y (.obj a k) Zq
end
section
variable {e f : Zw} {v : Zv} {d : List dJ}
def yF(e:Zw)(d f:Nat)(g:dJ):Prop:=e.cell? (Zd d f)=some (Y g.w)/\e.cell? ⟨d,f+1,none⟩=some (Y g.x)/\e.cell? ⟨d,f+2,none⟩=some (Y g.a)/\e.cell? ⟨d,f+3,none⟩=some (Y g.b)/\e.cell? ⟨d,f+4,none⟩=some (Y g.c)/\e.cell? ⟨d,f+5,none⟩=some (Zs g.s)
def rc(e:Zw)(v:Zv)(d:List dJ):Prop:=∃ad a,v=.slice ad d.length a/\d.length<=a/\a<=maxLen/\∀c g,d[c]?=some g->∃b f,ad=some ⟨b,f,none⟩/\yF e b (f+c*6) g
def yF.ae{b g h}(i:yF e b g h)(j:ap [] e f):yF f b g h:=by
 obtain⟨d,k,l,m,n,o⟩:=i;have a:∀c,f.cell? (Zd b c)=e.cell? (Zd b c):=λc=>World.cell?_of_block (j.ak b (iI d) Zq);exact⟨(a _).trans d,(a _).trans k,(a _).trans l,(a _).trans m,(a _).trans n,(a _).trans o⟩
def rc.ae(c:rc e v d)(o:ap [] e f):rc f v d:=by
 obtain⟨ad,a,g,h,i,j⟩:=c;refine⟨ad,a,g,h,i,λn q m=>?_⟩;obtain⟨b,p,k,l⟩:=j n q m;exact⟨b,p,k,l.ae o⟩
def rZ(d:List dJ):Nat:=(d.map (·.s.length)).sum
def afZ{a:Nat}(b:a<d.length):rZ (d.take (a+1))=rZ (d.take a)+d[a].s.length:=by
 unfold rZ;rw[Yt b,List.map_append,List.sum_append];rfl
def afY(d:List dJ)(a:Nat):rZ (d.take a)<=rZ d:=by
 grind [List.take_append_drop,rZ]
def aac:∀(d:List dJ),∀a∈d,a.s.length<=rZ d:=by
 intro d;induction d<;>grind [rZ]
def rW(d:List dJ):Bool:=decide (d.length+rZ d<=16384)
def ae3(q:rc e v d)(A:∀j∈d,j.s.length<=1000000000000000000):Calls prog 11 #[v] e λp f=>p=.returned (.bool (rW d))/\f=e:=by
 obtain⟨ad,F,rfl,P,I,z⟩:=q;have n:=U z;have o:=U A;by_cases x:d.length<=16384
 .have y:¬(16384:Int) < ↑d.length:=Zm;go_in;go_wp2;go_loopw [3,4] (λC i D=>∃a b:Nat,i=Y a/\a<=d.length/\C=Y b/\b<=16384/\af (b=d.length+rZ (d.take a))/\D=e) (λ_ i _=>d.length-(intOf i).toNat)
  case atStart=>exact⟨0,d.length,rfl,Zm,rfl,x,Zr,rfl⟩
  case round=>
   obtain⟨a,b,rfl,L,rfl,O,m,rfl⟩:=hrel;rcases Yj a d.length with h|J
   .obtain⟨G,j,rfl,r⟩:=n.i a d[a] (Yd h);obtain⟨-,-,-,-,-,a0⟩:=r;have M:(0:Int)<=(a:Int):=Zm;have N:(a:Int)<(d.length:Int):=Zm;have H:=o.i d[a] (Yy h);have l:=U (afZ h);have E:=U (afY d (a+1));generalize d[a]=k at *
    generalize R:k.s.length=c at *
    have S:k.s.toArray.size=c:=Zm;by_cases t:b+c<=16384
    .have u:¬(16384:Int) < ↑b+↑c:=Zm;have B:IntKind.i64.wrap ((b:Int)+(c:Int))=(b:Int)+(c:Int):=by rw[IntKind.wrap_i64];omega
     go_wp2;exact⟨⟨a+1,b+c,Zr,h,Zr,t,by show _=_;rw[l.i,m.i];omega,trivial⟩,Zz⟩
    .have u:(16384:Int) < ↑b+↑c:=Zm;have B:IntKind.i64.wrap ((b:Int)+(c:Int))=(b:Int)+(c:Int):=by rw[IntKind.wrap_i64];omega
     have g:af (rW d=false):=by
      grind [af.i,rW]
     go_wp2;go_ret;exact⟨by rw[g.i];rfl,rfl⟩
   .have w:a=d.length:=Zm;subst w;have K:¬((d.length:Int)<(d.length:Int)):=Zm;have g:af (rW d=true):=by
     grind [af.i,rW]
    go_wp2;go_ret;exact⟨by rw[g.i];rfl,rfl⟩
 .have y:(16384:Int) < ↑d.length:=Zm;have g:af (rW d=false):=by
   show _=_;grind [rW]
  go_in;go_wp2;go_ret;exact⟨by rw[g.i];rfl,rfl⟩
end
section
variable {b c : Zw} {v : Zv} {a : List dJ}
abbrev HZ:Obj:=.cells #[.slice none 0 0,.slice none 0 0,.string ⟨#[]⟩,Y 0,Y 0,Y 0,.slice none 0 0,.slice none 0 0] 35
def ag7(e:Nat->Zw->Prop)(m:rc b v a)(P:a.length<=16384)(u:e 0 (b.alloc HZ))(o:∀f g,e f g->ap [] b g)(B:∀f g j,e f g->f<16384->j∈a->Calls prog 13 #[Zp b.heap.size,.agg (dl j)] g λl C=>l=.returned (.bool true)/\e (f+1) C):Calls prog 12 #[v] b λt c=>t=.returned (Y (-1))/\ap [] b c:=by
 have q:=U m;obtain⟨ad,H,rfl,R,K,-⟩:=m;have E:=U u;have k:=U o;have r:=U B;go_in;go_wp2;go_loopw [4] (λi D=>∃d:Nat,i=Y d/\d<=a.length/\af (e d D)) (λi _=>a.length-(intOf i).toNat)
 case atStart=>grind
 case round=>
  obtain⟨d,rfl,o,h⟩:=hrel;rcases Yj d a.length with p|L
  .have y:=q.i.ae (k.i d wr h.i);obtain⟨G,I,n,-,-,A⟩:=y;simp only[Value.slice.injEq,true_and]at n;obtain⟨rfl,rfl⟩:=n;obtain⟨J,j,rfl,x⟩:=A d a[d] (Yd p);have s:=U (r.i d wr a[d] h.i Zm (Yy p));obtain⟨S,a0,a1,a2,a3,a4⟩:=x;have N:(0:Int)<=(d:Int):=Zm;have O:(d:Int)<(a.length:Int):=Zm;generalize a[d]=a6 at *
   go_wp21;refine s.i.mono ?_;rintro l a5 ⟨rfl,w⟩;have F:=U w;go_wp2;grind [intOf]
  .have z:d=a.length:=Zm;subst z;have M:¬((a.length:Int)<(a.length:Int)):=Zm;go_wp2;go_ret;exact⟨rfl,k.i _ _ h.i⟩
end
section
variable {w e : Zw} {v : Zv} {d : List dJ}
abbrev qB(d:dJ):Zl:=[Y d.w,Y d.x,Y d.a,Y d.b,Y d.c,Zs d.s]
abbrev Hs(v:Zv)(d:List dJ):Th:=.row 27 6 v d.length (d.flatMap qB)
def Xb:(prog.info? 27).map (λa=>(a.zero,a.size,a.bytes))=some (some (.agg #[Y 0,Y 0,Y 0,Y 0,Y 0,.string ⟨#[]⟩]),6,56):=Zk
def abZ{o n}(c:w.ownsRow o n 6 v d.length (d.flatMap qB)):rc w v d:=by
 have z:=λy a h=>uq (f:=qB) (k:=6) (λ_=>rfl) d y a h;have q:=c;obtain⟨G,c⟩:=c;rcases c with⟨rfl,r⟩|⟨g,p,B,rfl,F,k,s,t,D,E⟩
 .have u:d=[]:=Yv.1 r;subst u;exact⟨none,0,rfl,Zq,Zq,λe m i=>by simp at i⟩
 .refine⟨some ⟨g,0,none⟩,p,rfl,s,t,λe m i=>⟨g,0,rfl,?_⟩⟩;have b:∀a,a<6->∀j,(qB m)[a]?=some j->w.cell? ⟨g,e*6+a,none⟩=some j:=λa h j x=>by
   obtain⟨C,A,l,k,_⟩:=nW q ((z e a h).trans (by rw[i];exact x));simp at l;obtain⟨rfl,_⟩:=l;exact k
  rw[Nat.zero_add];exact⟨b 0 Zm _ rfl,b 1 Zm _ rfl,b 2 Zm _ rfl,b 3 Zm _ rfl,b 4 Zm _ rfl,b 5 Zm _ rfl⟩
def zp(b:List Int)(a:Int):Bool:=decide (a<9)||b.contains a
def kI(a:List Int)(d:List dJ):List dJ:=d.filter λb=>zp a b.w
def ael(b:List Int){a:Nat}(e:a<d.length):kI b (d.take (a+1))=kI b (d.take a)++if zp b d[a].w then [d[a]]else []:=by
 unfold kI;rw[Yt e,List.filter_append];congr 1;by_cases c:zp b d[a].w<;>simp[c]
def Ok(a:List Int)(d:List dJ):(kI a d).length<=d.length:=List.length_filter_le ..
def acv{kv}{ks:List Int}(A:rc w v d)(c6:∀g∈d,g.s.length<=1000000000000000000)(O:su w kv ks.length 1 λi=>Y (ks.getD i 0))(e8:ks.length<=1000)
  (c7:∀h S E,ap [] w h->rc h S E->E.length<=16384->(∀g∈E,g∈d/\(g.w<9\/g.w∈ks)/\g.s.length<=16384)->Calls prog 12 #[S] h λz d1=>z=.returned (Y (-1))/\ap [] h d1) :
  Calls prog 10 #[v,kv] w λz e=>z=.returned (.bool true)/\ap [] w e:=by
 have r:=U (ae3 A c6);have a1:=U A;have a3:=U c7;have a0:=U O;obtain⟨ad,d7,rfl,f2,e2,-⟩:=A;obtain⟨d6,e0,rfl,-⟩:=O;cases q:rW d with
 |false=>
  rw[q]at r;go_in;go_wp21;refine r.i.mono ?_;rintro K I ⟨rfl,rfl⟩;go_wp2;go_ret;exact⟨rfl,ar [] _⟩
 |true=>
  rw[q]at r;have a2:=U q;have b8:d.length<=16384:=by
   unfold rW at q;simp at q;omega
  go_in;go_wp21;refine r.i.mono ?_;rintro K I ⟨rfl,rfl⟩;go_wp2;go_loopw [6,7] (λc9 i G=>∃(a:Nat) (iE:Option Addr) (l:Nat),i=Y a/\a<=d.length/\c9=.slice iE (kI ks (d.take a)).length l/\af (bA [Hs (.slice iE (kI ks (d.take a)).length l) (kI ks (d.take a))] I G)) (λ_ i _=>d.length-(intOf i).toNat)
  case atStart=>exact⟨0,none,0,rfl,Zm,rfl,(rk I).cons (ar [] _) ⟨rfl,Y8 ⟨rfl,rfl⟩⟩ (λb1 b5=>by simp[Th.aH,Value.ownBlock]at b5)⟩
  case round=>
   obtain⟨a,iE,l,rfl,e5,rfl,f⟩:=hrel;rcases Yj a d.length with t|e3
   .have b4:=a1.i.ae f.i.fr;obtain⟨d4,d8,o,-,-,c1⟩:=b4;simp only[Value.slice.injEq,true_and]at o;obtain⟨rfl,rfl⟩:=o;obtain⟨b1,g,rfl,b3⟩:=c1 a d[a] (Yd t);obtain⟨f3,f4,f5,f6,f7,f8⟩:=b3;have e6:(0:Int)<=(a:Int):=Zm;have e7:(a:Int)<(d.length:Int):=Zm;have j:=U (ael ks t);have c3:af ((kI ks (d.take a)).length<=16384):=U (Yz (Ok ..) (by rw[YW];omega));generalize d[a]=c at *
    go_wp2;go_loopw [9,10] (λa8 D G=>∃(b:Nat) (k:Bool),D=Y b/\b<=ks.length/\a8=.bool k/\af (k=(decide (c.w<9)||(ks.take b).contains c.w))/\G=wr) (λ_ D _=>ks.length-(intOf D).toNat)
    case atStart=>exact⟨0,decide (c.w<9),rfl,Zm,rfl,by show _=_;simp,rfl⟩
    case round=>
     obtain⟨b,k,rfl,e9,rfl,u,rfl⟩:=hrel;rcases Yj b ks.length with m|e4
     .have f0:(0:Int)<=(b:Int):=Zm;have f1:(b:Int)<(ks.length:Int):=Zm;cases k with
      |true=>
       have n:af (true=(decide (c.w<9)||(ks.take (b+1)).contains c.w)):=by
        show _=_;rw[Yt m,List.contains_append,<-Bool.or_assoc,<-u.i];rfl
       go_wp2;exact⟨⟨b+1,true,Zj,m,rfl,n,trivial⟩,Zz⟩
      |false=>
       obtain⟨d5,d9,C⟩:=a0.i;obtain⟨o,C⟩:=C;simp only[Value.slice.injEq,true_and]at o;obtain⟨rfl,rfl⟩:=o;obtain⟨gk,rfl,F⟩:=C b m;have F:=px F f.i.fr;simp only[Nat.mul_one,show ks.getD b 0=ks[b] by simp[m]]at F;have n:af ((c.w==ks[b])=(decide (c.w<9)||(ks.take (b+1)).contains c.w)):=by
        show _=_;rw[Yt m,List.contains_append,<-Bool.or_assoc,<-u.i];by_cases c5:c.w=ks[b]<;>simp[c5]
       generalize ks[b]=d2 at *
       generalize e1:(c.w==d2)=a9 at *
       go_wp2;exact⟨⟨b+1,a9,Zj,m,rfl,n,trivial⟩,Zz⟩
     .have c0:b=ks.length:=Zm;subst c0;have b6:¬((ks.length:Int)<(ks.length:Int)):=Zm;have n:af (k=zp ks c.w):=by
       show _=_;rw[u.i,YG];rfl
      rw[<-n.i]at j;cases k with
      |false=>
       simp only[Ye,if_false,YH]at j
       go_wp2;exact⟨⟨a+1,iE,l,Zj,t,by rw[j.i],by show bA ..;rw[j.i];exact f.i⟩,Zz⟩
      |true=>
       simp only[if_true]at j
       have d3:af (∀y:dJ,(qB y).length=6):=U (λ_=>rfl);have c2:∀h∈qB c,h.oneCell'=true:=by
        intro h R;simp[qB]at R;rcases R with rfl|rfl|rfl|rfl|rfl|rfl<;>rfl
       have x:af ((kI ks (d.take a)).length+1=(kI ks (d.take (a+1))).length/\(kI ks (d.take a)).flatMap qB++qB c=(kI ks (d.take (a+1))).flatMap qB):=by
        show _/\_;rw[j.i];simp
       have J:=U (λd0=>bQ (f.i.bv (i:=0) (a:=Hs (.slice iE (kI ks (d.take a)).length l) (kI ks (d.take a))) rfl) ((ar [] wr).A d0) Zq);have c4:((kI ks (d.take a)).length+1)*56<=140737488355328:=by have:=c3.i;omega
       go_wp2_with (at_builtin;(refine ku (B:=wr.heap.size) Xb underlying22 (J.i _) (qB c) (be (w:=wr) Zq) c2 c4 Zm (H:=wr.heap.size+1) Zq ?_;intro b2 b0 g0 P N M b9;have a6:=U (f.i.a4 (i:=0) rfl ((ar [] wr).A _) P N M Zq);clear P N M b9 J));exact⟨⟨a+1,some ⟨b2,0,none⟩,b0,Zj,t,by rw[x.i.1],by show bA ..;have:=a6.i;rw[x.i.2,x.i.1]at this;exact this⟩,Zz⟩
   .have b7:a=d.length:=Zm;subst b7;have b6:¬((d.length:Int)<(d.length:Int)):=Zm;rw[YG]at f;rw[YG];have a7:=U (a3.i wr _ (kI ks d) f.i.fr (abZ (f.i.bv (i:=0) (a:=Hs (.slice iE (kI ks d).length l) (kI ks d)) rfl)) (Yz (Ok ..) b8) (λg p=>by
     unfold kI at p;rw[List.mem_filter]at p;refine⟨p.1,?_,?_⟩
     .have:=p.2;unfold zp at this;simpa using this
     .have L:=a2.i;unfold rW at L;simp at L;have:=aac d g p.1;omega))
    have a4:=U f.i.fr;go_wp21;refine a7.i.mono ?_;rintro K f9 ⟨rfl,c8⟩;have a5:=U (a4.i.u c8);go_wp2;go_ret;exact⟨rfl,a5.i⟩
end
section
variable {e h : Zw} {g : Nat} {d : fq} {o q m l : Zv} {R : List Th}
def abi(d:List cF):∀b∈d.flatMap cy,b.oneCell'=true:=by
 intro b c;obtain⟨e,_,a⟩:=List.mem_flatMap.1 c;simp[cy]at a;rcases a with rfl|rfl|rfl|rfl|rfl<;>rfl
def ahK{j rest}{b:Oper}{f:Act}{Q}{e:Zw}(t:b.guard=none)(d k:Operand)
  (v:b.op=.call { callee:=.builtin .append,args:=#[d,k],argTypes:=#[31,31] }) {l:Zv} {a:List cF} (x:f.eval d=.slice none 0 0) (y:f.eval k=l) (i:e.ownsRow 0 52 5 l a.length (a.flatMap cy)) (R:a.length<=1000000) (S:0<a.length)
  (q:∀g c,c.ownsRow 0 52 5 (.slice (some ⟨e.heap.size,0,none⟩) a.length g) a.length (a.flatMap cy)->e.grownBy c none->wpList prog j Q rest (f.put b.dst (.slice (some ⟨e.heap.size,0,none⟩) a.length g)) c):wpList prog j Q (b::rest) f e:=by
 refine wpList_plain t λE r=>?_;obtain⟨D,u,z,A,B⟩:=info_parts BE;have C:(Value.agg #[Y 0,Y 0,.string ⟨#[]⟩,Y 0,Y 0]).cells.size=5:=Zr;rcases i.2 with⟨rfl,I⟩|⟨n,g,G,rfl,J,K,L,M,N,O⟩
 .omega
 .obtain⟨a1,c,w,h,p,_,F⟩:=run_append_own_at (P:=prog) e 0 31 b.type 52 D _ 5 48 underlying31 u z A B C Zm (.slice none 0 0) 0 [] ⟨rfl,Y8 ⟨rfl,rfl⟩⟩ ⟨n,0,none⟩ a.length g (a.flatMap cy) i.1 (by
   grind [Addr.add,oK]) (abi a) Zm Zm (YV _)
  rw[Nat.zero_add,YT]at h;rcases h.2 with⟨rfl,a0⟩|⟨o,m,H,rfl,_⟩
  .omega
  .have s:o=e.heap.size:=by
    grind [Value.ownBlock]
   subst s;unfold Oper.wp execOp;simp only[v,resolve,invoke,builtin,Sem.run_bind,Sem.run_pure,Result.andThen_ok,List.map_toArray,List.map_cons,List.map_nil,x,y,w];exact r _ _ (q m c h p)
def Cf:cF:=⟨0,0,[],0,0⟩
def AZ(a:cF)(b c:Int):cF:={ a with n:=IntKind.i64.wrap (a.n+b),am:=IntKind.i64.wrap (a.am+c) }
def ue(d:List cF)(e:dJ):List cF:=d.set (fU e.a d.length) (AZ (d.getD (fU e.a d.length) Cf) e.b e.c)
def MP{v:Zv}{c:List cF}{b j:Nat}(g:e.ownsRow 0 52 5 (.slice (some ⟨b,0,none⟩) c.length j) c.length (c.flatMap cy)){a:Nat}{d}(h:c[a]?=some d):e.cell? ⟨b,a*5+1,none⟩=some (Y d.n)/\e.cell? ⟨b,a*5+4,none⟩=some (Y d.am)/\(∀a,e.frozen? ⟨b,a,none⟩=false)/\b<e.heap.size:=by
 have i:=λm l=>uq (f:=cy) (k:=5) (λ_=>rfl) c a m l;obtain⟨q,o,x,s,u,w⟩:=nW g (i 1 Zm |>.trans (by rw[h];rfl));obtain⟨r,p,y,t,_⟩:=nW g (i 4 Zm |>.trans (by rw[h];rfl));simp_all
def ey.k1{m:List Th}{c d i j:Nat}{b:List cF}{l x':cF}{v}(o:bA (fX (.slice (some ⟨c,0,none⟩) b.length d) b::m) h e)(n:b[i]?=some l)(u:j<5)(t:cy x'=(cy l).set j v):bA (fX (.slice (some ⟨c,0,none⟩) (b.set i x').length d) (b.set i x')::m) h (e.setCell ⟨c,i*5+j,none⟩ v):=by
 have x:=(YB.1 n).1;have w:=o.bv (i:=0) (a:=fX (.slice (some ⟨c,0,none⟩) b.length d) b) rfl;have q:e.ownsRow 0 52 5 (.slice (some ⟨c,0,none⟩) b.length d) b.length (b.flatMap cy):=w;have y:(b.flatMap cy).length=b.length*5:=q.1;have r:=zJ q (i:=i*5+j) Zm v;rw[zm (f:=cy) (k:=5) (λ_=>rfl) b i j l x' v u n t]at r;refine o.b6 (i:=0) (a':=fX (.slice (some ⟨c,0,none⟩) (b.set i x').length d) (b.set i x')) rfl ((ar [c] e).a6 (p:=⟨c,i*5+j,none⟩) Zq v) (λs g=>by simp at g;subst g;simp[Th.aH,fS]) ?_ (λs g=>Y8 (by simpa[Th.aH,fS]using g));show World.ownsRow ..;rw[YF];exact r
def ab4(K:bA (wL g d o q m l R) h e)(f:dJ)(O:ln f)(d5:f.w=5)(b7:d.aO.length<=100000)(b6:d.aO≠[]):Calls prog 14 #[Zp g,.agg (dl f)] e λN s=>N=.returned (.bool true)/\∃b8,bA (wL g { d with aO:=ue d.aO f } o b8 m l R) h s:=by
 have C:=U (K.A (.cells (dl f) 27));obtain⟨iE,u,rfl⟩:=aW (K.bv (i:=2) (a:=fX q d.aO) rfl);have J:0<d.aO.length:=YM.2 b6;have d9:(0:Int) < ↑d.aO.length:=Zm;have d8:fU f.a d.aO.length<d.aO.length:=zN f.a J;have b4:=U (Cz f.a d.aO.length O.2.1.1 O.2.1.2 J Zm);have a1:af (d.aO[fU f.a d.aO.length]?=some (d.aO.getD (fU f.a d.aO.length) Cf)):=U Zg;have b1:af (ue d.aO f=d.aO.set (fU f.a d.aO.length) (AZ (d.aO.getD (fU f.a d.aO.length) Cf) f.b f.c)):=U rfl;have d6:(0:Int)<=↑(fU f.a d.aO.length):=Zm;have d7:(↑(fU f.a d.aO.length):Int) < ↑d.aO.length:=Zm;generalize fU f.a d.aO.length=r at *
 generalize d.aO.getD r Cf=k at *
 have b3:=U J;have b2:=U b7;have p:=K.aR (i:=0) (R:=g) rfl;have c7:e.cell? (Zd g 1)=some (.slice iE d.aO.length u):=aC p rfl;have c8:=bl p;have c9:=ay p;have d0:(f.w==4)=false:=Zu;go_in;go_wp2;generalize d3:e.heap.size=x at *
 generalize e.alloc (.cells (dl f) 27)=b0 at *
 obtain⟨a3,a4,a5,a6,a7,a8,of,a9⟩:=fs (C.i.aR (i:=0) (R:=x) rfl);have p:=C.i.aR (i:=1) (R:=g) rfl;have F:b0.cell? (Zd g 1)=some (.slice iE d.aO.length u):=aC p rfl;have G:=bl p;have H:=ay p;refine bJ (λs=>s.cell? (Zd g 1)=some (.slice iE d.aO.length u)/\s.cell? (Zd x 2)=some (Y f.a)) ?_ λI=>?_
 .go_keep
 refine bf [0,1,2,3,4,5,6] ?_;iterate 7 (refine bi ?_)
 refine bg ?_;refine bI 7 λB w=>?_;(go_simp;refine(b4.i _).mono ?_;rintro N e0 ⟨rfl,rfl⟩);refine w.out _ _ ?_ (λI=>?_)
 .go_keep
 refine nz ?_;refine bL λB w=>?_;go_simp;refine w.out _ _ ?_;refine nz ?_;have z:=U C.i.ag;generalize b0.drew=A at *
 have p:=z.i.aR (i:=1) (R:=g) rfl;have F:A.cell? (Zd g 1)=some (.slice iE d.aO.length u):=aC p rfl;have G:=bl p;have H:=ay p;have a0:af (A.ownsRow 0 52 5 (.slice iE d.aO.length u) d.aO.length (d.aO.flatMap cy)):=U (z.i.bv (i:=3) (a:=fX (.slice iE d.aO.length u) d.aO) rfl);go_wp2_with (at_builtin;(refine ahK Zr _ _ Zr Zr Zr a0.i (by have:=b2.i;omega) b3.i ?_;intro y b9 S P;have D:=U (z.i.cons (a:=fX (.slice (some ⟨A.heap.size,0,none⟩) d.aO.length y) d.aO) (kV P) S (λd2 d4=>by grind [Th.aH,fS]));clear S P a0 F G H z;generalize A.heap.size=t at *));obtain⟨c2,c3,c4,c5⟩:=MP (v:=.nilIface) (D.i.bv (i:=0) (a:=fX (.slice (some ⟨t,0,none⟩) d.aO.length y) d.aO) rfl) a1.i;obtain⟨a3,a4,a5,a6,a7,a8,of,a9⟩:=fs (D.i.aR (i:=1) (R:=x) rfl);refine bJ (λs=>s.cell? ⟨t,r*5+1,none⟩=some (Y k.n)/\s.cell? (Zd x 3)=some (Y f.b)) ?_ λI=>?_
 .go_keep
 refine bf [0,1,2,3,4,5,6,7,8,9,10,11] ?_;iterate 12 (refine bi ?_)
 refine bg ?_;refine bL λB w=>?_;go_simp;refine w.out _ _ ?_;refine nz ?_;have E:=U (D.i.k1 (j:=1) (x':={ k with n:=IntKind.i64.wrap (k.n+f.b) }) (v:=Y (IntKind.i64.wrap (k.n+f.b))) a1.i Zm rfl).ag;generalize (b9.setCell ⟨t,r*5+1,none⟩ (Y (IntKind.i64.wrap (k.n+f.b)))).drew=c0 at *
 have a2:af ((d.aO.set r { k with n:=IntKind.i64.wrap (k.n+f.b) })[r]?=some { k with n:=IntKind.i64.wrap (k.n+f.b) }):=U (by
  simp_all)
 obtain⟨c2,c3,c4,c5⟩:=MP (v:=.nilIface) (E.i.bv (i:=0) (a:=fX (.slice (some ⟨t,0,none⟩) (d.aO.set r { k with n:=IntKind.i64.wrap (k.n+f.b) }).length y) (d.aO.set r { k with n:=IntKind.i64.wrap (k.n+f.b) })) rfl) a2.i;obtain⟨a3,a4,a5,a6,a7,a8,of,a9⟩:=fs (E.i.aR (i:=1) (R:=x) rfl);go_wp2;refine bJ (λs=>s.cell? ⟨t,r*5+4,none⟩=some (Y k.am)/\s.cell? (Zd x 4)=some (Y f.c)) ?_ λI=>?_
 .go_keep
 refine bf [0,1,2,3,4,5,6,7,8,9,10,11] ?_;iterate 12 (refine bi ?_)
 refine bg ?_;refine bL λB w=>?_;go_simp;refine w.out _ _ ?_;refine nz ?_;have L:=U (E.i.k1 (j:=4) (x':=AZ k f.b f.c) (v:=Y (IntKind.i64.wrap (k.am+f.c))) a2.i Zm rfl).ag;generalize (c0.setCell ⟨t,r*5+4,none⟩ (Y (IntKind.i64.wrap (k.am+f.c)))).drew=c1 at *
 have p:=L.i.aR (i:=2) (R:=g) rfl;have F:c1.cell? (Zd g 1)=some (.slice iE d.aO.length u):=aC p rfl;have G:=bl p;have H:=ay p;go_wp2;go_ret;have M:=L.i.aq (i:=2) (j:=1) rfl (.slice (some ⟨t,0,none⟩) d.aO.length y);have b5:(d.aO.set r { k with n:=IntKind.i64.wrap (k.n+f.b) }).set r (AZ k f.b f.c)=ue d.aO f:=by rw[b1.i,List.set_set]
 rw[b5]at M;have d1:(ue d.aO f).length=d.aO.length:=Zg;refine⟨rfl,.slice (some ⟨t,0,none⟩) (ue d.aO f).length y,?_⟩;have c6:=(M.aX 3).au;simp_all
end
section
variable {j i : Zw} {e : Nat} {d : fq} {k l h g : Zv} {f : List Th}
def oF(d:fq)(e:dJ):Option fq:=
 if e.w=4 then some { d with aO:=d.aO++[⟨e.a,e.b,e.s,0,e.c⟩] }
 else if e.w=5 then some { d with aO:=if d.aO=[]then d.aO else ue d.aO e }
 else if e.w=6 then some { d with aO:=[] }
 else if e.w=7 then some { d with a:=e.a,b:=e.b,c:=e.c }
 else if e.w=8 then some { d with a5:=e.s }
 else pM d e
def Io(d:fq)(e:Nat)(h g:Zv)(f:List Th)(i:Zw)(k:Option fq)(c:Ending)(j:Zw):Prop:=match k with
 |some l=>c=.returned (.bool true)/\∃a b,bA (wL e l a b h g f) i j
 |none=>c=.returned (.bool false)/\∃a b,bA (wL e d a b h g f) i j
structure uZ(d:fq):Prop where
 av:d.av.length<=100000
 e1:∀x∈d.av,x.length<=1000000000
 aO:d.aO.length<=100000
 bB:d.bB.length<=100000
 eG:d.eG.length<=100000
def zI(c:bA (wL e d k l h g f) i j)(a:dJ)(v:ln a)(u:uZ d):Calls prog 14 #[Zp e,.agg (dl a)] j (Io d e h g f i (oF d a)):=by
 unfold oF;by_cases q:a.w=4
 .rw[Y9 q];refine(ab8 c a q u.aO).mono ?_;rintro m n ⟨rfl,w,b⟩;exact⟨rfl,_,_,b⟩
 rw[Y2 q];by_cases o:a.w=5
 .rw[Y9 o];by_cases p:d.aO=[]
  .rw[Y9 p];refine(ab5 c a o p).mono ?_;rintro m n ⟨rfl,b⟩;exact⟨rfl,_,_,b⟩
  .rw[Y2 p];refine(ab4 c a v o u.aO p).mono ?_;rintro m n ⟨rfl,w,b⟩;exact⟨rfl,_,_,b⟩
 rw[Y2 o];by_cases r:a.w=6
 .rw[Y9 r];refine(ab9 c a r).mono ?_;rintro m n ⟨rfl,b⟩;exact⟨rfl,_,_,b⟩
 rw[Y2 r];by_cases s:a.w=7
 .rw[Y9 s];refine(ab6 c a s).mono ?_;rintro m n ⟨rfl,b⟩;exact⟨rfl,_,_,b⟩
 rw[Y2 s];by_cases t:a.w=8
 .rw[Y9 t];refine(ab7 c a t).mono ?_;rintro m n ⟨rfl,b⟩;exact⟨rfl,_,_,b⟩
 rw[Y2 t];refine(acb c a v u.av u.e1 q o r s t).mono ?_;intro m n b;unfold wM at b;unfold Io;cases x:pM d a with
 |some y=>
  grind
 |none=>
  grind
end
def AN(b:fq):Prop:=∀a∈b.aO,-9223372036854775808<=a.n/\a.n<=9223372036854775807
def ahN(a:Int):-9223372036854775808<=IntKind.i64.wrap a/\IntKind.i64.wrap a<=9223372036854775807:=by
 rw[IntKind.wrap_i64];omega
def agE{a b}{c:dJ}(d:pM a c=some b):b.aO=a.aO:=by
 grind [pM,zt]
def acd{f g e}(h:ln e)(d:AN f)(b:oF f e=some g):AN g:=by
 unfold oF at b;split at b
 .cases b
  intro c a;rcases Yn.1 a with a|a
  .exact d c a
  simp_all
 split at b
 .cases b
  intro c a;dsimp only at a;split at a
  .simp_all
  .rcases List.mem_or_eq_of_mem_set a with a|rfl
   .exact d c a
   .exact ahN _
 split at b
 .cases b
  intro c a;grind
 split at b
 .cases b;exact d
 split at b
 .cases b;exact d
 .intro c a;rw[agE b]at a;exact d c a
section
variable {d c : Zw} {b : Nat} {s g : fq} {h j f e : Zv} {R : List Th}
def afp(r:bA (wL b s h j f e R) c d)(a:dJ)(o:ln a)(p:uZ s)(q:oF s a=some g):Calls prog 13 #[Zp b,.agg (dl a)] d λm u=>m=.returned (.bool true)/\∃k l,bA (wL b g k l f e R) c u:=by
 have i:=U (zI (r.aw (.cells (dl a) 27)) a o p);rw[q]at i;clear r o p q;go_in;go_wp21;refine i.i.mono ?_;rintro m v ⟨rfl,k,l,n⟩;have t:=U n;clear n i;go_wp2;go_ret;exact⟨rfl,k,l,t.i.c7⟩
def Nv{a:dJ}(b:a.w=9):oF s a=none:=by grind [oF,pM]
def afw(G:bA (wL b s h j f e R) c d)(g:dJ)(m:ln g)(t:uZ s)(B:g.w=9){J}(C:eW (aJ (fF s g.a))=.error J)(A:Gl c)(z:c.cell? (Zd 1 0)=some (eS 55)):Calls prog 13 #[Zp b,.agg (dl g)] d λq a0=>q=.returned (.bool true)/\∃k l,bA (wL b s k l f e R) c a0:=by
 have p:=U (zI (G.aw (.cells (dl g) 27)) g m t);rw[Nv B]at p;have x:=U (λ(u:Zw) k l (H:bA (wL b s k l f e (R++[.obj d.heap.size (.cells (dl g) 27)])) c u)=>wA (s:=s) (H.aR (i:=0) (R:=b) rfl) (H.bv (i:=1) (a:=cS k s.av) rfl) g.a m.2.1.1 m.2.1.2 (by have:=t.av;omega));have v:=U (λ(u:Zw) (D:ap [] c u)=>ac3 C (A.ae D Zq Zq Zq) (px z D));generalize fF s g.a=tx at *
 have a5:(g.w==9)=true:=Zu;clear G m t C A z B;go_in;go_wp21;refine p.i.mono ?_;rintro q a1 ⟨rfl,k,l,r⟩;have n:=U r;have y:=U (x.i a1 k l r);clear r p x;obtain⟨K,L,M,N,O,P,of,S⟩:=fs n.i.g5;generalize d.heap.size=a3 at *
 go_wp21;refine y.i.mono ?_;rintro a4 a2 ⟨rfl,E⟩;have o:=U (n.i.ae E);have w:=U (v.i a2 o.i.fr);clear n y v E K L M N O P of S;go_wp21;refine w.i.mono ?_;rintro q a6 ⟨F,rfl⟩;have I:=U (o.i.ae F);clear o w F;go_wp2;go_ret;exact⟨rfl,k,l,I.i.c7⟩
end
section
variable {i j : Zw} {b : Nat} {d e : fq} {g h f c : Zv} {a : List Th}
def Xg:(prog.info? 37).map (λa=>(a.zero,a.size,a.bytes))=some (some (.pointer none),1,8):=Zk
end
section
variable {d g : Zw} {c : Nat} {b k : fq} {h j e f : Zv} {R : List Th}
def Nu{a:dJ}(c:a.w<=0\/10<=a.w):oF b a=none:=by
 unfold oF pM;grind
def afn(u:bA (wL c b h j e f R) g d)(k:dJ)(w:ln k)(x:uZ b)(y:k.w<=0\/10<=k.w/\k.w<=14)(H:b.bB=[]):Calls prog 13 #[Zp c,.agg (dl k)] d λs z=>s=.returned (.bool true)/\∃m o,bA (wL c b m o e f R) g z:=by
 obtain⟨iE,r,rfl⟩:=aW (u.bv (i:=3) (a:=uN 37 e b.bB) rfl);have q:=U (zI (u.aw (.cells (dl k) 27)) k w x);rw[Nu (y.imp_right And.left)]at q;have G:(k.w==9)=false:=Zg;have F:¬(14:Int)<k.w:=Zm;have I:b.bB.length=0:=Zu;have v:af (∀n:Zw,n.cell? (Zd c 6)=some (.slice iE b.bB.length r)->n.cell? (Zd c 6)=some (.slice iE 0 r)):=U (λn t=>by simp_all);go_in;go_wp21;refine q.i.mono ?_;rintro s A ⟨rfl,m,o,t⟩;have l:=U t;obtain⟨J,K,L,M,N,O,of,P⟩:=fs l.i.g5;have p:=l.i.aR (i:=0) (R:=c) rfl;have B:=v.i A (aC p rfl);have C:=bl p;have E:=ay p;generalize d.heap.size=D at *
 go_wp2;go_ret;exact⟨rfl,m,o,l.i.c7⟩
def ND{f v}{a:List Nat}{c:Nat}(g:d.ownsRow 0 f 1 v a.length (a.map wt))(j:c<a.length):∃b e,v=.slice (some ⟨b,0,none⟩) a.length e/\d.cell? (Zd b c)=some (wt (a.getD c 0))/\b<d.heap.size:=by
 obtain⟨b,e,l,h,_,k⟩:=nW g (i:=c) (x:=wt (a.getD c 0)) (by simp[j]);exact⟨b,e,l,h,k⟩
end
section
variable {i j : Zw} {b : Nat} {d h : fq} {f g e c : Zv} {a : List Th}
def PP{h i:Th}(j:h∈a):h∈wL b d f g e c (a++[i]):=Y5 _ (Y5 _ (Y5 _ (Y5 _ (Y5 _ (Yf _ j)))))
end
section
structure Wp where
 rv:Zv
 nv:Zv
 pv:Zv
 ov:Zv
 d:Nat
 f:Nat
 z:Nat
 lv:Zv
structure Ws where
 b:Zb
 e:Int
 wh:Int
abbrev Dv(p:Wp)(s:Ws):Obj:=.cells #[p.rv,p.nv,p.pv,p.ov,Y p.d,Y p.f,Y p.z,p.lv,Zs s.b,Y 0,Y s.e,Y s.wh] 203
structure gO(c:Zw)(a:Nat)(p:Wp)(s:Ws)(w:Zw):Prop where
 fr:ap [] c w
 bX:c.heap.size<=a
 aw:w.heap[a]?=some (Dv p s)
variable {c w w' : Zw} {a : Nat} {p : Wp} {s g : Ws}
def gO.ae(b:gO c a p s w)(d:ap [] w w'):gO c a p s w':=⟨b.fr.u d,b.bX,(d.ak _ (ay b.aw) Zq).trans b.aw⟩
def gO.b6(b:gO c a p s w)(e:ap [a] w w')(d:w'.heap[a]?=some (Dv p g)):gO c a p g w':=⟨qr b.fr e (by simpa using b.bX),b.bX,d⟩
def gO.K(g:gO c a p s w):w.cell? (Zd a 0)=some p.rv/\w.cell? (Zd a 1)=some p.nv/\w.cell? (Zd a 2)=some p.pv/\w.cell? (Zd a 3)=some p.ov/\w.cell? (Zd a 4)=some (Y p.d)/\w.cell? (Zd a 5)=some (Y p.f)/\w.cell? (Zd a 6)=some (Y p.z)/\w.cell? (Zd a 7)=some p.lv/\w.cell? (Zd a 8)=some (Zs s.b)/\w.cell? (Zd a 10)=some (Y s.e)/\w.cell? (Zd a 11)=some (Y s.wh)/\(∀h,w.frozen? ⟨a,h,none⟩=false)/\a<w.heap.size:=
 ⟨aC g.aw rfl,aC g.aw rfl,aC g.aw rfl,aC g.aw rfl,aC g.aw rfl,aC g.aw rfl,aC g.aw rfl,aC g.aw rfl,aC g.aw rfl,aC g.aw rfl,aC g.aw rfl,bl g.aw,ay g.aw⟩
structure hQ(c:Zw)(a:Nat)(p:Wp)(w1:Zw)(s:Ws)(w:Zw):Prop where
 y:gO c a p s w
 kp:ap [a] w1 w
theorem pm(b:gO c a p s w):hQ c a p w s w:=⟨b,ar ..⟩
def hQ.ae{e}(d:hQ c a p e s w)(b:ap [] w w'):hQ c a p e s w':=⟨d.y.ae b,d.kp.u (b.aZ Zq)⟩
def hQ.b6{e}(d:hQ c a p e s w)(b:ap [a] w w')(f:w'.heap[a]?=some (Dv p g)):hQ c a p e g w':=⟨d.y.b6 b f,d.kp.u b⟩
def AB(c:Zw)(a:Nat)(p:Wp)(w:Zw)(g:Ws)(v:Zv)(b:Ending)(w':Zw):Prop:=b=.returned v/\hQ c a p w g w'
def lg{f:Zw}{d:Nat}{args:Array Zv}{v:Zv}{Q:Ending->Zw->Prop}(e:af (hQ c a p f s w))(h:gO c a p s w->Calls prog d args w (AB c a p w g v))(i:∀w',af (hQ c a p f g w')->af (ap [a] w w')->Q (.returned v) w'):Calls prog d args w Q:=
 (h e.i.y).mono λ_ w' ⟨j,b⟩=>j▸i w' (U ⟨b.y,e.i.kp.u b.kp⟩) (U b.kp)
def rE(e a:Int)(s:Ws):Ws:=if s.e=0 then { s with e:=e,wh:=a }else s
def qS(e b:Int)(f:gO c a p s w):Calls prog 107 #[Zp a,Y e,Y b] w (AB c a p w (rE e b s) (.tuple #[])):=by
 obtain⟨-,-,-,-,-,-,-,-,-,k,l,m,n⟩:=f.K;have g:=U (pm f);by_cases h:s.e=0
 .have d:af (rE e b s = { s with e:=e,wh:=b }):=Y9 h;have j:(s.e==0)=true:=Zg;go_in;go_wp2;go_end0;rw[d.i];exact⟨rfl,g.i.b6 (((ar [a] w).a6 (p:=⟨a,10,none⟩) Zq _).a6 (p:=⟨a,11,none⟩) Zq _) (ci (i:=11) (ci (i:=10) f.aw (Y e)) (Y b))⟩
 .have d:af (rE e b s=s):=Y2 h;have j:(s.e==0)=false:=Zg;go_in;go_wp2;go_end0;rw[d.i];exact⟨rfl,g.i⟩
def Sl(a:Int):bits .and .i64 a 255=a % 256:=by
 have key:(BitVec.ofInt 64 a &&& BitVec.ofInt 64 255).toNat=(a % ((2 ^ 64:Nat):Int)).toNat % 2 ^ 8:=by rw[BitVec.toNat_and,BitVec.toNat_ofInt,show (BitVec.ofInt 64 255).toNat=2 ^ 8-1 by rfl,Nat.and_two_pow_sub_one_eq_mod]
 show IntKind.i64.wrap ((BitVec.ofInt 64 a &&& BitVec.ofInt 64 255).toNat:Nat)=_;grind [IntKind.wrap_i64]
def JV(a:Int):bits .and .i64 a 4294967295=a % 4294967296:=by
 have key:(BitVec.ofInt 64 a &&& BitVec.ofInt 64 4294967295).toNat=(a % ((2 ^ 64:Nat):Int)).toNat % 2 ^ 32:=by rw[BitVec.toNat_and,BitVec.toNat_ofInt,show (BitVec.ofInt 64 4294967295).toNat=2 ^ 32-1 by rfl,Nat.and_two_pow_sub_one_eq_mod]
 show IntKind.i64.wrap ((BitVec.ofInt 64 a &&& BitVec.ofInt 64 4294967295).toNat:Nat)=_;grind [IntKind.wrap_i64]
def TR(w:Zw)(a b c d:Int):(convert 97 9 (.slice (some ⟨w.heap.size,0,none⟩) 4 4)).run prog (w.alloc (.cells #[.int .u8 a,.int .u8 b,.int .u8 c,.int .u8 d] 5))=.ok (.string ⟨#[a.toNat.toUInt8,b.toNat.toUInt8,c.toNat.toUInt8,d.toNat.toUInt8]⟩) (w.alloc (.cells #[.int .u8 a,.int .u8 b,.int .u8 c,.int .u8 d] 5)):=by
 rw[run_convert_bytes_string _ 97 9 5 _ 4 4 underlying97 underlying5 underlying9];have e:=run_loadCells_list (P:=prog) (w.alloc (.cells #[.int .u8 a,.int .u8 b,.int .u8 c,.int .u8 d] 5)) ⟨w.heap.size,0,none⟩ ([a,b,c,d].map (Value.int .u8)) (λg v f=>by
  grind [World.cell?_alloc_mark,Addr.add])
 rw[run_bytesToString _ _ 4 4 _ e];rfl
def Qd(a:Nat)(h:a<4294967296)(w:Zw):Calls prog 161 #[Y a] w λc w'=>c=.returned (.string ⟨(dM a).toArray⟩)/\ap [] w w':=by
 have f:=Sl;have g:=TR;go_in;go_wp2;go_ret;refine⟨?_,(ar [] w).A _⟩;have d:∀b:Nat,UInt8.ofNat (b % 256)=UInt8.ofNat b:=λb=>UInt8.toNat_inj.1 Zq;have e:((a:Int) % 4294967296).toNat=a:=Zm;simp_all[dM]
def Pc:Zv->Nat
 |.string a=>a.size
 |_=>0
def aci(b:Zb)(m:b.length<=1000000000000)(w:Zw):Calls prog 174 #[Zs b] w λh w'=>h=.returned (.string ⟨(lJ b).toArray⟩)/\w'=w:=by
 go_in;go_wp2;go_loop [0] (λv=>∃a:Zb,v=Zs a/\a.length<=cB b.length/\a=b++List.replicate (a.length-b.length) 0) (λv=>cB b.length-Pc v);case atStart=>exact⟨b,rfl,by unfold cB;omega,Zq⟩
 case round=>
  obtain⟨a,rfl,l,c⟩:=hrel;have k:=U c;have o:b.length<=a.length:=Zg;have n:cB b.length<=1000000000003:=by unfold cB;omega
  have e:=mQ a [0];have r:¬(9223372036854775807<a.length+1):=Zm;clear c;by_cases p:a.length % 4=0
  .have j:(a.length:Int) % 4=0:=Zm;have f:af (lJ b=a):=by
    grind [cB,lJ]
   go_wp2;go_ret;rw[f.i];simp
  .have j:((a.length:Int) % 4==0)=false:=Zg;have q:¬(a.length:Int) % 4=0:=Zm;have d:a++[0]=b++List.replicate ((a++[0]).length-b.length) 0:=by
    have:(a++[0]).length-b.length=(a.length-b.length)+1:=Zg;grind [List.replicate_succ',af.i]
   have g:=U d;clear d;have i:(a++[0]).length<=cB b.length:=by grind [cB]
   go_wp2;refine⟨⟨a++[0],Yo Value.string e,i,g.i⟩,?_⟩;show cB b.length-Pc (.string (⟨a.toArray⟩++⟨#[0]⟩))<cB b.length-a.length;rw[e];show cB b.length-(a++[0]).length<cB b.length-a.length;grind
end
section
variable {g d f : Zw} {c : Nat} {p : Wp} {a h : Ws}
def wu(f:Nat)(c:Zb)(d:Int)(a:Ws):Ws:={ (if a.e=0/\f<a.b.length+c.length then rE 14 d a else a)with b:=a.b++c }
def Vu(d c:Int)(a:Ws):(rE d c a).b=a.b:=by unfold rE;grind
def hQ.kN{h}(f:hQ g c p h a d)(e:Zb):hQ g c p h { a with b:=e } (d.setCell ⟨c,8,none⟩ (Zs e)):=
 f.b6 ((ar [c] d).a6 (p:=⟨c,8,none⟩) Zq _) (ci (i:=8) f.y.aw (Zs e))
def As(h:Zb)(k:Int)(F:h.length<=1000000000000)(D:a.b.length<=1000000000000)(I:p.z<=1000000000)(j:gO g c p a d):Calls prog 173 #[Zp c,Zs h,Y k] d (AB g c p d (wu p.z h k a) (.tuple #[])):=by
 obtain⟨-,-,-,-,-,-,A,-,n,y,-,s,t⟩:=j.K;have u:=U (pm j);clear j;have G:¬(9223372036854775807<a.b.length+h.length):=Zm;have E:=mQ a.b h;have H:IntKind.i64.wrap ((a.b.length:Int)+h.length)=a.b.length+h.length:=by rw[IntKind.wrap_i64];omega
 go_in;go_upto_region 0 with fail;go_cut [26] (λv wc=>v=.bool (decide (a.e=0/\p.z<a.b.length+h.length))/\wc=d.drew);case first=>
  by_cases r:a.e=0
  .have B:(a.e==0)=true:=by simp[r]
   refine bJ (λf=>f.cell? (Zd c 10)=some (Y a.e)/\f.cell? (Zd c 8)=some (Zs a.b)/\f.cell? (Zd c 6)=some (Y p.z)) ?_ λC=>?_
   .go_keep
   clear r;refine bf [0,1,2,3] ?_;iterate 4 (refine bi ?_)
   refine bg ?_;refine tk (i:=4) (v:=.bool true) rfl Zk (λ_ _ _ j=>j) Zk Zt ?_ ?_
   .intro d l;(try dsimp only at l);go_simp;(try with_reducible rfl);all_goals (try omega)
   refine nz ?_;refine bf [5,6,7,8,9,10,11,12] ?_;iterate 8 (refine bi ?_)
   refine bg ?_;refine tk (i:=13) (v:=Y (a.b.length+h.length)) rfl Zk (λ_ _ _ j=>j) Zk Zt ?_ ?_
   .intro d l;(try dsimp only at l);go_simp;(try with_reducible rfl);all_goals (try omega)
   refine nz ?_;refine bf [14,15,16,17,18] ?_;iterate 5 (refine bi ?_)
   refine bg ?_;refine tk (i:=19) (v:=.bool (decide ((p.z:Int)<(a.b.length:Int)+(h.length:Int)))) rfl Zk (λ_ _ _ j=>j) Zk Zt ?_ ?_
   .intro d l;(try dsimp only at l);go_simp;(try with_reducible rfl);all_goals (try omega)
   refine nz ?_;refine bL λc x=>?_;go_simp;refine x.out _ _ ?_;clear x c;refine nz ?_;go_wp2;go_meet;refine⟨Yo Value.bool (decide_eq_decide.2 ?_),rfl⟩;grind
  .have B:(a.e==0)=false:=by simp[r]
   go_region;go_wp2;go_meet;grind
 case rest=>
  obtain⟨rfl,rfl⟩:=hcut;have m:=U (u.i.ae (ar [] d).ag);generalize d.drew=J at m ⊢;clear A n y s t u;by_cases o:a.e=0/\p.z<a.b.length+h.length
  .have q:af (wu p.z h k a = { rE 14 k a with b:=a.b++h }):=by show _=_;unfold wu;simp_all
   rw[decide_eq_true o];clear o;go_wp21;refine lg m (qS 14 k) λK w _=>?_;obtain⟨-,-,-,-,-,-,-,-,n,-,-,s,t⟩:=w.i.y.K;rw[Vu]at n;go_wp2;go_end0;rw[q.i];exact⟨rfl,w.i.kN _⟩
  .have q:af (wu p.z h k a = { a with b:=a.b++h }):=by show _=_;unfold wu;grind
   rw[decide_eq_false o];clear o;obtain⟨-,-,-,-,-,-,-,-,n,-,-,s,t⟩:=m.i.y.K;go_wp2;go_end0;rw[q.i];exact⟨rfl,m.i.kN _⟩
end
section
variable {f : Nat -> Prop} {e d : Nat} {g : Zb} {a : ai} {b : Zw} {c : PV}
def gg(b:bt)(a:Int):Bool:=if b.w=0 then decide (-2147483648<=a)&&decide (a<=2147483647)else if b.w=1 then decide (0<=a)&&decide (a<=4294967295)else if b.w=4 then (a==0||a==1)else if b.w=5 then b.aI.contains a else true
def MR{f:Type}{d:List f}{c}{e:f}(g:af (∀b∈d.take c,b≠e))(h:c<d.length)(i:d[c]≠e):af (∀b∈d.take (c+1),b≠e):=λb a=>by
 rw[Yt h,Yn]at a;rcases a with a|a
 .exact g.i b a
 simp_all
def Bv(p:bw f e g d a c b){k:Nat}(w:k<a.h.length)(S:(a.h.getD k bz).aI.length<=1000000000)(j:Int):Calls prog 172 #[gt c a,Y k,Y j] b λB I=>B=.returned (.bool (gg (a.h.getD k bz) j))/\ap [] b I:=by
 obtain⟨C,A,F,x,l,a0,-,-,K,-,-,-,-,a1,a2,-⟩:=nY p w;have u:a.h[k]?=some (a.h.getD k bz):=Zg;have t:=U ((p.dp k _ F u l).1.bH);generalize a.h.getD k bz=h at *
 have P:(k:Int)<(a.h.length:Int):=Zm;unfold gt;rw[x];generalize a.h.length=G at *
 clear p x w l u;obtain⟨ad,M,l,n⟩:=t.i;rw[l]at K;have n:=U n;clear t;go_in;go_wp2;all_goals try (go_ret;refine⟨pJ ?_,(ar [] b).A _⟩;simp_all[gg]<;>omega)
 .have N:(h.w==5)=true:=‹_›;have s:af (gg h j=h.aI.contains j):=by show _=_;simp_all[gg]
  go_loopw [7] (λv H=>∃i:Nat,v=Y i/\i<=h.aI.length/\af (∀J∈h.aI.take i,J≠j)/\H=b.alloc (mr (.slice (some ⟨C,0,none⟩) G A) c.nv c.pv (Zs a.i))) (λv _=>h.aI.length-(intOf v).toNat)
  case atStart=>exact⟨0,rfl,Zm,Zu,rfl⟩
  case round=>
   obtain⟨i,rfl,R,o,rfl⟩:=hrel;rcases Yj i h.aI.length with r|O
   .obtain⟨L,rfl,y⟩:=n.i i r;rw[Nat.mul_one,show h.aI.getD i 0=h.aI[i] by grind]at y;have a3:=iI y;have E:(↑i:Int) < ↑h.aI.length:=Zm;by_cases q:h.aI[i]=j
    .have D:(h.aI[i]==j)=true:=Zg;have m:af (h.aI.contains j=true):=Zg;clear q;go_wp2;go_ret;exact⟨by rw[s.i,m.i];rfl,(ar [] b).A _⟩
    .have D:(h.aI[i]==j)=false:=Zu;have z:=MR o r q;clear o q;go_wp2;exact⟨⟨i+1,Zr,r,z,trivial⟩,Zz⟩
   .have E:¬((i:Int)<(h.aI.length:Int)):=Zm;have m:af (h.aI.contains j=false):=by
     have:=o.i;grind
    go_wp2;go_ret;exact⟨by rw[s.i,m.i];rfl,(ar [] b).A _⟩
end
section
variable {e : Nat -> Prop} {c b : Nat} {f : Zb} {g : ai} {w : Zw} {d : PV}
def pt:List Int->List Int->Int->Option Int
 |a::d,c::e,b=>if a=b then some c else pt d e b
 |_,_,_=>none
def Eg{e:Int}:∀{c d:List Int} {b:Nat},af (∀f∈c.take b,f≠e)->pt c d e=pt (c.drop b) (d.drop b) e
 |_,_,0,_=>by simp
 |[],d,b+1,_=>by rfl
 |a::c,[],b+1,_=>by simp[pt]
 |a::c,i::d,b+1,g=>by
  have h:a≠e:=g.i a Zq;simp only[pt,Y2 h,List.drop_succ_cons];exact Eg λf j=>g.i f Zg
def fy(a:bt)(c:Int):Int×Bool:=match pt a.aI a.aB c with
 |some b=>(b,true)
 |none=>(a.dR,a.dR != -2)
def Ka{a:bt}{i:Zv×Zv}(r:cO i.1 a.aI w)(s:cO i.2 a.aB w)(u:a.aB.length=a.aI.length)(O:a.aI.length<=1000000000)(c:Int):Calls prog 234 #[.agg (eB a i).toArray,Y c] w λE J=>E=.returned (.tuple #[Y (fy a c).1,.bool (fy a c).2])/\ap [] w J:=by
 obtain⟨ad,C,t,k⟩:=r.bH;obtain⟨B,D,h,l⟩:=s.bH;obtain⟨P,R⟩:=i;simp only at t h;subst t h;have k:=U k;have l:=U l;have z:=U u;clear r s u;unfold eB;go_in;go_wp2;generalize n:w.alloc _=o;have g:af (ap [] w o):=by subst n;exact(ar [] w).A _
 have x:o.heap[w.heap.size]?=some (.cells #[Y a.w,Y a.n,Y a.of,.slice ad a.aI.length C,.slice B a.aB.length D,Y a.dR,Zs a.a5,Y a.y] 117):=by subst n;exact be rfl
 have S:=aE x;clear n x;go_loopw [6] (λv I=>∃b:Nat,v=Y b/\b<=a.aI.length/\af (∀y∈a.aI.take b,y≠c)/\I=o) (λv _=>a.aI.length-(intOf v).toNat)
 case atStart=>exact⟨0,rfl,Zm,(by intro y H;simp at H),rfl⟩
 case round=>
  obtain⟨b,rfl,M,f,rfl⟩:=hrel;rcases Yj b a.aI.length with e|F
  .have m:b<a.aB.length:=by have:=z.i;omega
   obtain⟨K,rfl,q⟩:=k.i b e;obtain⟨L,rfl,p⟩:=l.i b m;rw[Nat.mul_one,show a.aI.getD b 0=a.aI[b] by simp[e]]at q;rw[Nat.mul_one,show a.aB.getD b 0=a.aB[b] by simp[m]]at p;replace q:=g.i.a2 Zq q;replace p:=g.i.a2 Zq p;have G:(↑b:Int) < ↑a.aI.length:=Zm;have N:(↑b:Int) < ↑a.aB.length:=Zm;by_cases d:a.aI[b]=c
   .have h:(a.aI[b]==c)=true:=by simp[d]
    have j:af (fy a c=(a.aB[b],true)):=by
     show _=_;unfold fy;rw[Eg f,Yk e,Yk m];simp[pt,d]
    clear d;go_wp2;go_ret2;rw[j.i];exact⟨rfl,g.i⟩
   .have h:(a.aI[b]==c)=false:=by simpa using d
    have A:=MR f e d;clear f d;go_wp2;exact⟨⟨b+1,Zj,e,A,trivial⟩,Zz⟩
  .have G:¬((b:Int)<(a.aI.length:Int)):=Zm;have j:af (fy a c=(a.dR,a.dR != -2)):=by
    show _=_;unfold fy;rw[Eg f,List.drop_of_length_le F];rfl
   go_wp2;go_region;go_wp2;go_ret2;rw[j.i];exact⟨rfl,g.i.ag⟩
end
section
variable {c:Int}{o:Wp}{a:Except Mar.ac cw}
variable {r : Nat -> Prop} {q p : Nat} {t : Zb} {d : ai} {b j g : Zw} {k : PV} {h : Nat} {s : Ws} {v : List cF} {l : Zv} {m f i : Nat}
abbrev ed(k:PV)(d:ai)(l:Zv)(m f i:Nat):Wp:=⟨k.rv,k.nv,k.pv,Zs d.i,m,f,i,l⟩
def bC:cF:=⟨0,0,[],0,0⟩
def rK{a o:Nat}{p}(r:b.ownsRow o p 5 l v.length (v.flatMap cy))(t:a<v.length):∃d j,l=.slice (some ⟨d,0,none⟩) v.length j/\b.cell? ⟨d,a*5,none⟩=some (Y (v.getD a bC).w)/\b.cell? ⟨d,a*5+1,none⟩=some (Y (v.getD a bC).n)/\b.cell? ⟨d,a*5+2,none⟩=some (.string ⟨(v.getD a bC).s.toArray⟩)/\b.cell? ⟨d,a*5+3,none⟩=some (Y (v.getD a bC).y)/\b.cell? ⟨d,a*5+4,none⟩=some (Y (v.getD a bC).am):=by
 have q:v[a]?=some (v.getD a bC):=by simp[t]
 have n:=λe i (c:Zv) (h:(cy (v.getD a bC))[e]?=some c)=>nW r (x:=c) ((uq (f:=cy) (k:=5) (λ_=>rfl) v a e i).trans (by rw[q];exact h));obtain⟨d,j,m,y,-⟩:=n 0 Zm _ rfl;have g:∀e (i:e<5) (c:Zv) (h:(cy (v.getD a bC))[e]?=some c),b.cell? ⟨d,a*5+e,none⟩=some c:=by
  intro e i c h;obtain⟨w,u,k,s,-⟩:=n e i c h;rw[m]at k;simp at k;rw[k.1];exact s
 exact⟨d,j,m,g 0 Zm _ rfl,g 1 Zm _ rfl,g 2 Zm _ rfl,g 3 Zm _ rfl,g 4 Zm _ rfl⟩
def Dx(a:Int)(b:Zw):Calls prog 161 #[Y (a % 4294967296)] b λd e=>d=.returned (.string ⟨(dM a).toArray⟩)/\ap [] b e:=by
 have c:=Qd (a % 4294967296).toNat Zm b;rw[show (((a % 4294967296).toNat:Nat):Int)=a % 4294967296 by omega,show dM (a % 4294967296)=dM a by grind [dM,Int.emod_emod]]at c;exact c
def Qc{a:Int}(e:0<=a)(f:a<4294967296)(b:Zw):Calls prog 161 #[Y a] b λd g=>d=.returned (.string ⟨(dM a).toArray⟩)/\ap [] b g:=by
 have c:=Dx a b;rw[Int.emod_eq_of_lt e f]at c;exact c
def PK(o:s.e≠0)(a g p:Int)(c:gO j h (ed k d l m f i) s b):Calls prog 106 #[Zp h,Y a,Y g,Y p] b (AB j h (ed k d l m f i) b s (Y g)):=by
 obtain⟨-,-,-,-,-,-,-,-,-,q,-,-,t⟩:=c.K;have r:(s.e != 0)=true:=Zu;have n:=U (pm c);clear c o;go_in;go_wp2;go_ret;exact⟨rfl,n.i⟩
def sv(j:Zw)(h:Nat)(o:Wp)(b:Zw)(a:Except Mar.ac cw)(c:Int)(g:Zw):Prop:=match a with
 |.ok d=>c=d.O/\hQ j h o b ⟨d.i,0,0⟩ g/\d.O<=o.f/\d.i.length<=o.z
 |.error e=>∃i,hQ j h o b ⟨i,e.no,e.y⟩ g/\(e.no:Int)≠0
def lq(j:Zw)(h:Nat)(o:Wp)(b:Zw)(a:Except Mar.ac cw)(d:Ending)(e:Zw):Prop:=∃c,d=.returned (Y c)/\sv j h o b a c e
theorem sv.c2{i}(d:sv j h o b a c g)(f:ap [h] i b):sv j h o i a c g:=by
 cases a with
 |ok m=>exact⟨d.1,⟨d.2.1.y,f.u d.2.1.kp⟩,d.2.2⟩
 |error n=>obtain⟨k,e,l⟩:=d;exact⟨k,⟨e.y,f.u e.kp⟩,l⟩
def sv.kp(d:sv j h o b a c g):ap [h] b g:=by
 cases a with
 |ok i=>exact d.2.1.kp
 |error k=>obtain⟨f,e,l⟩:=d;exact e.kp
def it(i b:Nat)(a c:Zb):Except Mar.ac cw:=if i<a.length+c.length then .error ⟨14,b⟩else .ok ⟨b+1,a++c⟩
def zx{d:Nat}{e i:Zb}(a:hQ j h o b (wu o.z i d ⟨e,0,0⟩) g)(m:d<o.f)(l:c=d+1):sv j h o b (it o.z d e i) c g:=by
 subst l;unfold it wu rE at *
 by_cases k:o.z<e.length+i.length
 .simp only[k,and_true,if_true]at a ⊢
  exact⟨_,a,Zq⟩
 .simp only[k,and_false,if_false]at a ⊢
  exact⟨rfl,a,m,Zu⟩
def xC(a:bt)(b:cF)(i c:Nat)(d:Zb):Except Mar.ac cw:=if b.w=1/\gg a b.n=true then it i c d ((if a.w=2\/a.w=3 then dM (b.n / 4294967296)else [])++dM b.n)else .error ⟨12,c⟩
def yj(a:bt)(b:cF)(i c:Nat)(d:Zb):Except Mar.ac cw:=if b.w=2/\(b.s.length:Int)<=a.n/\(a.w=6->(b.s.length:Int)=a.n)then it i c d ((if a.w=6 then []else dM b.s.length)++lJ b.s)else .error ⟨12,c⟩
def ag9(u:bw r q t p d k j)(z:j.ownsRow 0 52 5 l v.length (v.flatMap cy)){e c:Nat}(M:e<d.h.length)(N:(d.h.getD e bz).w≠14)(b6:f<=1000000000)(A:f<=c\/v.length<=c)(K:Nat){H:Zb}(o:gO j h (ed k d l m f i) ⟨H,0,0⟩ b):Calls prog 106 #[Zp h,Y e,Y c,Y K] b (lq j h (ed k d l m f i) b (.error ⟨if f<=c then 15 else 12,c⟩)):=by
 obtain⟨I,a2,a5,a6,a7,a8,a9,J,b0,a3,a4,b2,b3⟩:=o.K;obtain⟨b4,b1,F,O,C,c3,c4,c5,c6,c7,c8,c9,d0,d1,d2,d3⟩:=nY (u.az o.fr) M;have x:d.h[e]?=some (d.h.getD e bz):=Zg;obtain⟨D,E⟩:=u.dp e _ F x C;obtain⟨S,a0,g⟩:=aW D;obtain⟨P,R,y⟩:=aW E;obtain⟨c1,c2⟩:=F;simp only at g y;subst g y;skip;have b7:(e:Int)<(d.h.length:Int):=Zm;have G:=U (pm o);simp only[O]at I;generalize d.h.getD e bz=a at *
 clear u o D E x C;have b8:(a.w==14)=false:=Zu;obtain⟨b9,c0,B⟩:=aW z;simp only[B]at J;clear z B N;have w:=U (G.i.ae ((ar [] b).A (.cells #[Y a.w,Y a.n,Y a.of,.slice S a.aI.length a0,.slice P a.aB.length R,Y a.dR,Zs a.a5,Y a.y] 117)));by_cases g:f<=c
 .have L:(f:Int)<=c:=Zm;rw[Y9 g];clear g A;go_in;go_wp21;refine lg w (qS 15 c) λa1 s _=>?_;go_wp2;go_ret;exact⟨_,rfl,_,s.i,Zq⟩
 .have L:¬(f:Int)<=c:=Zm;have b5:(v.length:Int)<=c:=Zm;rw[Y2 g];clear g A;go_in;go_wp21;refine lg w (qS 12 c) λa1 s _=>?_;go_wp2;go_ret;exact⟨_,rfl,_,s.i,Zq⟩
def aha(P:bw r q t p d k j)(b5:j.ownsRow 0 52 5 l v.length (v.flatMap cy)){n:Nat}(o:n<d.h.length)(h0:0<=(d.h.getD n bz).w/\(d.h.getD n bz).w<=5)(b7:(d.h.getD n bz).aI.length<=1000000000)(g6:f<=1000000000)(e3:i<=1000000000)(e d9:Nat){z:Zb}(g5:z.length<=i)(e1:e<f)(e2:e<v.length)(N:gO j h (ed k d l m f i) ⟨z,0,0⟩ b):Calls prog 106 #[Zp h,Y n,Y e,Y d9] b (lq j h (ed k d l m f i) b (xC (d.h.getD n bz) (v.getD e bC) i e z)):=by
 obtain⟨B,K,L,M,d0,d1,d2,a8,d3,c8,c9,a0,a1⟩:=N.K;obtain⟨e0,d4,c0,a3,u,f2,f3,f4,f5,f6,f7,f8,f9,g0,g1,g2⟩:=nY (P.az N.fr) o;have b0:d.h[n]?=some (d.h.getD n bz):=Zg;obtain⟨b8,b9⟩:=P.dp n _ c0 b0 u;obtain⟨e8,e9,b2⟩:=aW b8;obtain⟨e6,e7,b3⟩:=aW b9;obtain⟨h6,h7⟩:=c0;simp only at b2 b3;subst b2 b3;have c5:=U (λ(g:Zw) (C:ap [] j g) (e5:Int)=>Bv (P.az C) o b7 e5);have g8:(n:Int)<(d.h.length:Int):=Zm;have x:=U (pm N);simp only[a3]at B;generalize d.h.getD n bz=a at *
 clear P N b8 b9 b0 u;clear b7;obtain⟨h5,h4,b6,A,w,G,a5,a6⟩:=rK b5 e2;replace A:=x.i.y.fr.a2 Zq A;replace w:=x.i.y.fr.a2 Zq w;replace G:=x.i.y.fr.a2 Zq G;replace a5:=x.i.y.fr.a2 Zq a5;replace a6:=x.i.y.fr.a2 Zq a6;have f1:=iI A;simp only[b6]at a8;have g3:¬(f:Int)<=e:=Zm;have g4:¬(v.length:Int)<=e:=Zm;have h1:(a.w==14)=false:=Zg;generalize v.getD e bC=c at *
 clear b5 b6;go_in;go_upto_region 16 with fail;generalize C:World.alloc (World.alloc b _) _=g;have J:af (hQ j h (ed k d l m f i) b ⟨z,0,0⟩ g):=by subst C;exact(x.i.ae ((ar [] b).A _)).ae ((ar [] _).A _)
 have a2:g.heap[b.heap.size]?=some (.cells (eB a (.slice e8 a.aI.length e9,.slice e6 a.aB.length e7)).toArray 117):=by
  subst C;exact(((ar [] _).A _).ak _ Zq Zq).trans (be rfl)
 have R:g.heap[b.heap.size+1]?=some (.cells (cy c).toArray 52):=by
  subst C;exact be Zq
 clear B K L M d0 d1 d2 a8 d3 c8 c9 a0 a1 f2 f3 f4 f5 f6 f7 f8 f9 g0 g1 g2 A w G a5 a6 f1 C x;have c1:g.cell? (Zd b.heap.size 0)=some (Y a.w):=aC a2 rfl;have f0:g.cell? (Zd b.heap.size 1)=some (Y a.n):=aC a2 rfl;have A:g.cell? ⟨b.heap.size+1,0,none⟩=some (Y c.w):=aC R rfl;have w:g.cell? ⟨b.heap.size+1,1,none⟩=some (Y c.n):=aC R rfl;have G:g.cell? ⟨b.heap.size+1,2,none⟩=some (Zs c.s):=aC R rfl;go_upto_if 80 with fail;go_cut [79,80] (λ_ y wc=>y=.bool true/\g=wc);case first=>
  go_wp2;all_goals
   go_meet;simp_all<;>omega
 case rest=>
 obtain⟨rfl,rfl⟩:=hcut;obtain⟨B,K,L,M,-,-,-,-,-,-,-,a0,a1⟩:=J.i.y.K;simp only[a3]at B;have I:=U (c5.i _ J.i.y.fr.ag c.n);unfold gt at I;simp only[a3]at I;go_wp2;refine bJ (λF=>F.cell? (Zd h 0)=some (.slice (some ⟨e0,0,none⟩) d.h.length d4)/\F.cell? (Zd h 1)=some k.nv/\F.cell? (Zd h 2)=some k.pv/\F.cell? (Zd h 3)=some (Zs d.i)/\F.cell? ⟨b.heap.size+1,1,none⟩=some (Y c.n)) ?_ λb4=>?_
 .go_keep
 refine bf [0,1,2,3,4,5,6] ?_;iterate 7 (refine bi ?_)
 refine bg ?_;refine bI 7 λh D=>?_;(go_simp;refine I.i.mono ?_;rintro b1 a4 ⟨rfl,s⟩;have d5:=s.a2 Zq B;have d6:=s.a2 Zq K;have d7:=s.a2 Zq L;have d8:=s.a2 Zq M;have a9:=s.a2 Zq w);refine D.out _ _ ?_ (λb4=>?_)
 .go_keep
 clear D h;refine nz ?_;refine bL λh D=>?_;go_simp;refine D.out _ _ ?_;clear D h;refine nz ?_;have a7:=U ((J.i.ae (ar [] g).ag).ae s);replace c1:=s.a2 Zq c1;replace A:=s.a2 Zq A;replace w:=a9;clear d5 d6 d7 d8 a9 B K L M a0 a1 I J b4 a2 R f0 G s;go_upto_region 24 with fail;go_cut [11,101] (λ_ y wc=>y=.bool (decide (¬(c.w=1/\gg a c.n=true)))/\a4=wc);case first=>
  go_wp2;all_goals
   go_meet;refine⟨Yo Value.bool ?_,rfl⟩;rw[Bool.eq_iff_iff];simp_all
 case rest=>
 obtain⟨rfl,rfl⟩:=hcut;by_cases u:c.w=1/\gg a c.n=true
 .rw[decide_eq_false (not_not_intro u)];have H:af (xC a c i e z=it i e z ((if a.w=2\/a.w=3 then dM (c.n / 4294967296)else [])++dM c.n)):=Y9 u
  have h3:=JV;clear u;go_upto_region 28 with fail;go_cut [79,113] (λ_ y wc=>y=.bool (decide (a.w=2\/a.w=3))/\a4=wc);case first=>
   go_wp2;all_goals
    go_meet;refine⟨Yo Value.bool ?_,rfl⟩;rw[Bool.eq_iff_iff];simp_all
  case rest=>
  obtain⟨rfl,rfl⟩:=hcut;generalize E:(if a.w=2\/a.w=3 then dM (c.n / 4294967296)else [])=o at H
  go_upto_if 113 with fail;go_cut [12] (λy wc=>y=Zs o/\af (ap [] a4 wc));case first=>
   by_cases O:a.w=2\/a.w=3
   .rw[decide_eq_true O];rw[Y9 O]at E;subst E;go_wp21;refine(Dx _ _).mono ?_;rintro b1 c2 ⟨rfl,S⟩;go_wp2;go_meet;exact⟨rfl,U S⟩
   .rw[decide_eq_false O];rw[Y2 O]at E;subst E;go_wp2;go_meet;simp_all[U,ar]
  case rest=>
  obtain⟨rfl,S⟩:=hcut;rename Zw=>c2;have c6:=U (a7.i.ae S.i);replace w:=S.i.a2 Zq w;go_wp21;refine(Dx _ _).mono ?_;rintro b1 h8 ⟨rfl,e4⟩;have c7:=U (c6.i.ae e4);have g9:=mQ o (dM c.n);have h2:¬(9223372036854775807<o.length+(dM c.n).length):=by
   have:o.length<=4:=by grind [dM]
   simp[dM];omega
  have g7:o.length<=4:=by rw[<-E];split<;>simp[dM]
  go_wp21;refine lg c7 (As (o++dM c.n) e (by simp[dM];omega) Zg e3) λh9 c4 _=>?_;go_wp2;go_ret;rw[H.i];exact⟨_,rfl,zx c4.i e1 Zr⟩
 .rw[decide_eq_true u];have H:af (xC a c i e z=.error ⟨12,e⟩):=Y2 u;go_wp21;refine lg a7 (qS 12 e) λc2 c3 _=>?_;go_wp2;go_ret;rw[H.i];exact⟨_,rfl,_,c3.i,Zq⟩
def ahd(I:bw r q t p d k j)(a0:j.ownsRow 0 52 5 l v.length (v.flatMap cy)){o:Nat}(y:o<d.h.length)(f3:5<(d.h.getD o bz).w/\(d.h.getD o bz).w<=8)(f6:(d.h.getD o bz).n<=4294967295)(e9:f<=1000000000)(c7:i<=1000000000)(e c1:Nat){x:Zb}(e8:x.length<=i)(c4:e<f)(c5:e<v.length)(E:gO j h (ed k d l m f i) ⟨x,0,0⟩ b):Calls prog 106 #[Zp h,Y o,Y e,Y c1] b (lq j h (ed k d l m f i) b (yj (d.h.getD o bz) (v.getD e bC) i e x)):=by
 obtain⟨N,b0,b3,b4,b5,b6,b7,O,b8,b1,b2,b9,c0⟩:=E.K;obtain⟨e5,e4,a5,c6,s,d3,d4,d5,d6,d7,d8,d9,e0,e1,e2,e3⟩:=nY (I.az E.fr) y;have P:d.h[o]?=some (d.h.getD o bz):=Zg;obtain⟨a3,a4⟩:=I.dp o _ a5 P s;obtain⟨d0,d1,R⟩:=aW a3;obtain⟨c8,c9,S⟩:=aW a4;obtain⟨g1,g2⟩:=a5;simp only at R S;subst R S;skip;have f1:(o:Int)<(d.h.length:Int):=Zm;have u:=U (pm E);simp only[c6]at N;generalize d.h.getD o bz=a at *
 clear I E a3 a4 P s;obtain⟨g0,f9,a2,C,H,A,K,L⟩:=rK a0 c5;replace C:=u.i.y.fr.a2 Zq C;replace H:=u.i.y.fr.a2 Zq H;replace A:=u.i.y.fr.a2 Zq A;replace K:=u.i.y.fr.a2 Zq K;replace L:=u.i.y.fr.a2 Zq L;have d2:=iI C;simp only[a2]at O;have e6:¬(f:Int)<=e:=Zm;have e7:¬(v.length:Int)<=e:=Zm;have f4:(a.w==14)=false:=Zg;generalize v.getD e bC=c at *
 clear a0 a2;go_in;go_upto_region 16 with fail;generalize F:World.alloc (World.alloc b _) _=g;have M:af (hQ j h (ed k d l m f i) b ⟨x,0,0⟩ g):=by subst F;exact(u.i.ae ((ar [] b).A _)).ae ((ar [] _).A _)
 have a1:g.heap[b.heap.size]?=some (.cells (eB a (.slice d0 a.aI.length d1,.slice c8 a.aB.length c9)).toArray 117):=by
  subst F;exact(((ar [] _).A _).ak _ Zq Zq).trans (be rfl)
 have J:g.heap[b.heap.size+1]?=some (.cells (cy c).toArray 52):=by
  subst F;exact be Zq
 clear N b0 b3 b4 b5 b6 b7 O b8 b1 b2 b9 c0 d3 d4 d5 d6 d7 d8 d9 e0 e1 e2 e3 C H A K L d2 F u;have g3:g.cell? (Zd b.heap.size 0)=some (Y a.w):=aC a1 rfl;have g4:g.cell? (Zd b.heap.size 1)=some (Y a.n):=aC a1 rfl;have C:g.cell? ⟨b.heap.size+1,0,none⟩=some (Y c.w):=aC J rfl;have H:g.cell? ⟨b.heap.size+1,1,none⟩=some (Y c.n):=aC J rfl;have A:g.cell? ⟨b.heap.size+1,2,none⟩=some (Zs c.s):=aC J rfl;go_upto_if 80 with fail;go_cut [80] (λw wc=>w=.bool false/\g=wc);case first=>
  go_wp2;all_goals
   go_meet;simp_all<;>omega
 case rest=>
 obtain⟨rfl,rfl⟩:=hcut;go_upto_if 130 with fail;go_cut [79,130] (λ_ w wc=>w=.bool true/\g=wc);case first=>
  go_wp2;all_goals
   go_meet;simp_all<;>omega
 case rest=>
 obtain⟨rfl,rfl⟩:=hcut;go_upto_region 35 with fail;go_cut [79,157] (λ_ w wc=>w=.bool (decide (¬(c.w=2/\(c.s.length:Int)<=a.n/\(a.w=6->(c.s.length:Int)=a.n))))/\g=wc);case first=>
  go_wp2;all_goals
   go_meet;refine⟨Yo Value.bool ?_,rfl⟩;rw[Bool.eq_iff_iff];simp_all<;>omega
 case rest=>
 obtain⟨rfl,rfl⟩:=hcut;by_cases s:c.w=2/\(c.s.length:Int)<=a.n/\(a.w=6->(c.s.length:Int)=a.n)
 .rw[decide_eq_false (not_not_intro s)];have D:af (yj a c i e x=it i e x ((if a.w=6 then []else dM c.s.length)++lJ c.s)):=Y9 s
  have f8:c.s.length<=4294967295:=Zm;clear s;generalize B:(if a.w=6 then []else dM c.s.length)=y at D
  have f0:y.length<=4:=by rw[<-B];split<;>simp[dM]
  have f5:(lJ c.s).length<=c.s.length+4:=by grind [lJ,cB]
  go_upto_if 164 with fail;go_cut [13] (λw wc=>w=Zs y/\af (ap [] g wc));case first=>
   by_cases z:a.w=6
   .rw[Y9 z]at B;subst B;have c3:(a.w != 6)=false:=by simp[z]
    clear z;go_wp2;go_meet;simp_all[U,ar]
   .rw[Y2 z]at B;subst B;have c3:(a.w != 6)=true:=by simp[z]
    clear z;go_wp21;refine(Qd c.s.length Zm _).mono ?_;rintro c2 a6 ⟨rfl,G⟩;go_wp2;go_meet;exact⟨rfl,U G⟩
  case rest=>
  obtain⟨rfl,G⟩:=hcut;rename Zw=>a6;have a9:=U (M.i.ae G.i);replace A:=G.i.a2 Zq A;go_wp21;refine(aci c.s Zm _).mono ?_;rintro c2 g5 ⟨rfl,rfl⟩;have f2:=mQ y (lJ c.s);have f7:¬(9223372036854775807<y.length+(lJ c.s).length):=Zm;go_wp21;refine lg a9 (As (y++lJ c.s) e Zg Zg c7) λg6 a8 _=>?_;go_wp2;go_ret;rw[D.i];exact⟨_,rfl,zx a8.i c4 Zr⟩
 .rw[decide_eq_true s];have D:af (yj a c i e x=.error ⟨12,e⟩):=Y2 s;go_wp21;refine lg M (qS 12 e) λa6 a7 _=>?_;go_wp2;go_ret;rw[D.i];exact⟨_,rfl,_,a7.i,Zq⟩
def ahe(G:bw r q t p d k j)(a3:j.ownsRow 0 52 5 l v.length (v.flatMap cy)){e:Nat}(a4:e<d.h.length)(e7:8<(d.h.getD e bz).w/\(d.h.getD e bz).w≠14)(e5:f<=1000000000)(f0:i<=1000000000)(s R:Nat){x:Zb}(e4:x.length<=i)(e9:s<f)(c1:s<v.length)(y:gO j h (ed k d l m f i) ⟨x,0,0⟩ b){M}
  (a2:∀u,k.ls[e]?=some u->∀J,gO j h (ed k d l m f i) ⟨x,0,0⟩ J->Calls prog 175 #[Zp h,.agg (eB (d.h.getD e bz) u).toArray,Y s,Y R] J (lq j h (ed k d l m f i) J M)) :
  Calls prog 106 #[Zp h,Y e,Y s,Y R] b (lq j h (ed k d l m f i) b M):=by
 obtain⟨O,b0,b3,b4,b5,b6,b7,P,b8,b1,b2,b9,c0⟩:=y.K;obtain⟨e1,d9,u,c2,I,c8,c9,d0,d1,d2,d3,d4,d5,d6,d7,d8⟩:=nY (G.az y.fr) a4;have S:d.h[e]?=some (d.h.getD e bz):=by simp[a4]
 obtain⟨a6,a7⟩:=G.dp e _ u S I;obtain⟨c5,c6,a0⟩:=aW a6;obtain⟨c3,c4,a1⟩:=aW a7;obtain⟨f3,f4⟩:=u;simp only at a0 a1;subst a0 a1;have a9:=U (a2 _ I);have e6:(e:Int)<(d.h.length:Int):=Zm;have o:=U (pm y);simp only[c2]at O;generalize d.h.getD e bz=a at *
 clear G y a6 a7 S I;clear a2;obtain⟨f2,f1,a5,w,B,C,K,L⟩:=rK a3 c1;replace w:=o.i.y.fr.a2 Zq w;replace B:=o.i.y.fr.a2 Zq B;replace C:=o.i.y.fr.a2 Zq C;replace K:=o.i.y.fr.a2 Zq K;replace L:=o.i.y.fr.a2 Zq L;have c7:=iI w;simp only[a5]at P;have e2:¬(f:Int)<=s:=Zm;have e3:¬(v.length:Int)<=s:=Zm;have e8:(a.w==14)=false:=Zx;generalize v.getD s bC=A at *
 clear a3 a5;go_in;go_upto_region 16 with fail;generalize z:World.alloc (World.alloc b _) _=g;have N:af (hQ j h (ed k d l m f i) b ⟨x,0,0⟩ g):=by subst z;exact(o.i.ae ((ar [] b).A _)).ae ((ar [] _).A _)
 have F:g.heap[b.heap.size]?=some (.cells (eB a (.slice c5 a.aI.length c6,.slice c3 a.aB.length c4)).toArray 117):=by
  subst z;exact(((ar [] _).A _).ak _ Zq Zq).trans (be rfl)
 have H:g.heap[b.heap.size+1]?=some (.cells (cy A).toArray 52):=by
  subst z;exact be Zq
 clear O b0 b3 b4 b5 b6 b7 P b8 b1 b2 b9 c0 c8 c9 d0 d1 d2 d3 d4 d5 d6 d7 d8 w B C K L c7 z o;have f5:g.cell? (Zd b.heap.size 0)=some (Y a.w):=aC F rfl;have f6:g.cell? (Zd b.heap.size 1)=some (Y a.n):=aC F rfl;have w:g.cell? ⟨b.heap.size+1,0,none⟩=some (Y A.w):=aC H rfl;have B:g.cell? ⟨b.heap.size+1,1,none⟩=some (Y A.n):=aC H rfl;have C:g.cell? ⟨b.heap.size+1,2,none⟩=some (Zs A.s):=aC H rfl;go_upto_if 80 with fail;go_cut [80] (λD wc=>D=.bool false/\g=wc);case first=>
  go_wp2;all_goals
   go_meet;simp_all<;>omega
 case rest=>
 obtain⟨rfl,rfl⟩:=hcut;go_upto_if 130 with fail;go_cut [130] (λD wc=>D=.bool false/\g=wc);case first=>
  go_wp2;all_goals
   go_meet;simp_all<;>omega
 case rest=>
 obtain⟨rfl,rfl⟩:=hcut;have f7:=aE F;go_wp21;refine(a9.i _ N.i.y).mono ?_;intro e0 f8 E;obtain⟨c,rfl,E⟩:=E;have a8:=U E;go_wp2;go_ret;exact⟨_,rfl,a8.i.c2 N.i.kp⟩
end
section
variable {o : Nat -> Prop} {m l : Nat} {q : Zb} {k : ai} {a f d : Zw} {h : PV} {c : Nat} {p : Ws} {v : List cF} {g : Zv} {j e b : Nat}
def ip{a:Type}(c:Nat->a->Except Mar.ac a):Nat->Nat->a->Except Mar.ac a
 |_,0,b=>.ok b
 |i,d+1,b=>aA (c i b) (ip c (i+1) d)
abbrev tc(a:bt)(b:cF):Prop:=b.w=3/\(a.w=9->b.am=a.n)/\(a.w=10->0<=b.am/\b.am<=a.n)/\(a.w=12->b.am=a.aB.length)
def vW(e:bt)(c:cF)(b a:Nat)(d:Zb)(f:Nat->cw->Except Mar.ac cw):Except Mar.ac cw:=
 if tc e c then aA (if e.w=10 then it b a d (dM c.am)else .ok ⟨a+1,d⟩) (ip f 0 c.am.toNat)else .error ⟨12,a⟩
def xF(a:bt)(b:Nat):Int:=if a.w=12 then a.aB.getD b 0 else a.of
def PZ(c1:f.ownsRow 0 52 5 g v.length (v.flatMap cy)){i:bt}{M:Zv×Zv}(d2:cO M.1 i.aI f)(a8:cO M.2 i.aB f)(h3:e<=1000000000)(g0:b<=1000000000)(h7:0<=i.n/\i.n<=4294967295)(h8:i.aB.length<=1000000)
  {m b6:Nat} {q:Zb} (f6:q.length<=b) (c8:m<e) (f8:m<v.length) (t:gO f c (ed h k g j e b) ⟨q,0,0⟩ a) (f7:i.w=9\/i.w=10\/i.w=12)
  {p:Nat->cw->Except Mar.ac cw} (d0:tc i (v.getD m bC)->∀l s a9,l<(v.getD m bC).am.toNat->s.O<=e->s.i.length<=b->gO f c (ed h k g j e b) ⟨s.i,0,0⟩ a9->Calls prog 106 #[Zp c,Y (xF i l),Y s.O,Y b6] a9 (lq f c (ed h k g j e b) a9 (p l s))) :
  Calls prog 175 #[Zp c,.agg (eB i M).toArray,Y m,Y b6] a (lq f c (ed h k g j e b) a (vW i (v.getD m bC) b m q p)):=by
 obtain⟨e1,e2,e4,e5,e6,a4,e7,b5,e8,a3,e3,e9,f0⟩:=t.K;have d6:=U a8.bH;obtain⟨g4,g5,b8⟩:=aW d2;obtain⟨g2,g3,b9⟩:=aW a8;obtain⟨i2,i3⟩:=M;simp only at b8 b9;subst b8 b9;obtain⟨i0,h9,C,D,b0,b1,b2,F⟩:=rK c1 f8;have y:=U (pm t);replace D:=y.i.y.fr.a2 Zq D;replace b0:=y.i.y.fr.a2 Zq b0;replace b1:=y.i.y.fr.a2 Zq b1;replace b2:=y.i.y.fr.a2 Zq b2;replace F:=y.i.y.fr.a2 Zq F;have g9:=iI D;simp only[C]at b5;have h1:(m:Int)<v.length:=Zm;generalize v.getD m bC=o at *
 have S:=U d0;clear d2 a8 t d0 c1;go_in;go_upto_region 3 with fail;generalize L:World.alloc (World.alloc a _) _=d;have a0:af (hQ f c (ed h k g j e b) a ⟨q,0,0⟩ d):=by subst L;exact(y.i.ae ((ar [] a).A _)).ae ((ar [] _).A _)
 have I:d.heap[a.heap.size]?=some (.cells (eB i (.slice g4 i.aI.length g5,.slice g2 i.aB.length g3)).toArray 117):=by
  subst L;exact(((ar [] _).A _).ak _ Zq Zq).trans (be rfl)
 have J:d.heap[a.heap.size+1]?=some (.cells (cy o).toArray 52):=by
  subst L;exact be Zq
 have h2:c≠a.heap.size/\c≠a.heap.size+1:=Zm;clear e1 e2 e4 e5 e6 a4 e7 b5 e8 a3 e3 e9 f0 D b0 b1 b2 F g9 L y C;have g6:=aE I;have A:d.cell? (Zd a.heap.size 1)=some (Y i.n):=aC I rfl;have D:d.cell? ⟨a.heap.size+1,0,none⟩=some (Y o.w):=aC J rfl;have F:d.cell? ⟨a.heap.size+1,4,none⟩=some (Y o.am):=aC J rfl;go_upto_if 28 with fail;go_cut [27,28] (λ_ z wc=>z=.bool true/\d=wc);case first=>
  go_wp2;all_goals
   go_meet;simp_all<;>omega
 case rest=>
 obtain⟨rfl,rfl⟩:=hcut;go_upto_region 7 with fail;go_cut [11] (λz wc=>z=.bool (decide (¬tc i o))/\d=wc);case first=>
  as_aux_lemma=>
   go_wp2;all_goals
    go_meet;refine⟨Yo Value.bool ?_,rfl⟩;rw[Bool.eq_iff_iff];simp_all[tc]<;>omega
 case rest=>
 obtain⟨rfl,rfl⟩:=hcut;by_cases x:tc i o
 .rw[decide_eq_false (not_not_intro x)];have B:af (vW i o b m q p=aA (if i.w=10 then it b m q (dM o.am)else .ok ⟨m+1,q⟩) (ip p 0 o.am.toNat)):=Y9 x
  have d1:0<=o.am/\o.am<=4294967295:=by
   obtain⟨-,f5,w,u⟩:=x;rcases f7 with t|t|t
   .have:=f5 t;omega
   .have:=w t;omega
   .have:=u t;omega
  have f4:=U x.2.2.2;have S:=U (S.i x);clear x D;generalize K:(if i.w=10 then it b m q (dM o.am)else Except.ok ⟨m+1,q⟩)=A at B
  go_upto_if 84 with fail;go_cut [] (λwc=>af (sv f c (ed h k g j e b) a A (m+1) wc)/\af (ap [c] d wc));case first=>
   by_cases w:i.w=10
   .have f2:(i.w==10)=true:=by simp[w]
    rw[Y9 w]at K;subst K;clear w;go_wp21;refine(Qc d1.1 Zm _).mono ?_;rintro f1 g7 ⟨rfl,d3⟩;have O:=U (a0.i.ae d3);go_wp21;refine lg O (As (dM o.am) m (by simp[dM]) (by simp only;omega) g0) λg8 G g1=>?_;go_wp2;go_meet;exact⟨U (zx G.i c8 rfl),U ((d3.aZ Zq).u g1.i)⟩
   .have f2:(i.w==10)=false:=by simp[w]
    rw[Y2 w]at K;subst K;clear w;go_wp2;go_meet;exact⟨U ⟨rfl,a0.i,c8,f6⟩,U (ar ..)⟩
  case rest=>
  obtain⟨d9,d7⟩:=hcut;rename Zw=>i5;obtain⟨n,C⟩:=Int.eq_ofNat_of_zero_le d1.1;rw[C,Int.toNat_natCast]at B;go_wp2;go_loopw [10,12] (λz a2 d4=>∃(a1:Int) (l:Nat) (N:Except Mar.ac cw),z=Y a1/\a2=Y l/\l<=n/\af (sv f c (ed h k g j e b) a N a1 d4)/\af (aA N (ip p l (n-l))=aA A (ip p 0 n))/\af (ap [c] d d4)) (λ_ a2 _=>n-(intOf a2).toNat)
  case atStart=>exact⟨_,0,A,rfl,rfl,Zm,d9,U rfl,d7⟩
  case round=>
   obtain⟨a1,l,N,rfl,rfl,h5,R,H,P⟩:=hrel;have a5:=(P.i.ak _ (ay I) Zx).trans I;have c2:=(P.i.ak _ (ay J) Zx).trans J;have g6:wr.cell? (Zd a.heap.size 0)=some (Y i.w):=aC a5 rfl;have i4:=aE a5;have F:wr.cell? ⟨a.heap.size+1,4,none⟩=some (Y n):=C▸aC c2 rfl;clear a5 c2;cases N with
   |error b7=>
    obtain⟨e0,r,c6⟩:=R.i;obtain⟨-,-,-,-,-,-,-,-,-,a3,-,-,-⟩:=r.y.K;have h4:((b7.no:Int)==0)=false:=by simpa using c6
    have E:af (aA A (ip p 0 n)=.error b7):=U H.i.symm;by_cases a6:(l:Int)<n;all_goals
     go_wp2;go_ret;rw[B.i,E.i];exact⟨_,rfl,e0,r,c6⟩
   |ok s=>
    obtain⟨rfl,r,c4,c5⟩:=R.i;obtain⟨-,-,-,-,-,-,-,-,-,a3,-,-,-⟩:=r.y.K;by_cases a6:l<n
    .have f9:(l:Int)<n:=Zm;have E:af (aA (p l s) (ip p (l+1) (n-(l+1)))=aA A (ip p 0 n)):=by
      show _=_;rw[<-H.i,show n-l=(n-(l+1))+1 by omega];rfl
     have b4:=U (S.i l s wr (by rw[C];exact a6) c4 c5 r.y);have d8:=U r.kp;have d5:=U r.y.fr;clear r R H;go_upto_if 108 with fail;go_cut [13] (λz wc=>z=Y (xF i l)/\wr=wc);case first=>
      by_cases u:i.w=12
      .have f3:(i.w==12)=true:=by simp[u]
       have c7:l<i.aB.length:=by have:=f4.i u;omega
       have h6:(l:Int)<i.aB.length:=Zm;obtain⟨ad,h0,c3,c9⟩:=d6.i;simp only[Value.slice.injEq,true_and]at c3;obtain⟨rfl,rfl⟩:=c3;obtain⟨i1,rfl,b3⟩:=c9 l c7;rw[Nat.mul_one]at b3;replace b3:=d5.i.a2 Zq b3;have a7:xF i l=i.aB.getD l 0:=Y9 u;clear u c9;go_wp2;go_meet;exact⟨by rw[a7];simp[c7],rfl⟩
      .have f3:(i.w==12)=false:=by simp[u]
       have a7:xF i l=i.of:=Y2 u;clear u;go_wp2;go_meet;exact⟨by rw[a7],rfl⟩
     case rest=>
     obtain⟨rfl,rfl⟩:=hcut;go_wp21;refine b4.i.mono ?_;rintro f1 g8 ⟨a4,rfl,c0⟩;have G:=U c0;clear c0 b4;go_wp2;exact⟨⟨a4,l+1,_,rfl,Zj,a6,U (G.i.c2 d8.i),E,U (P.i.u G.i.kp)⟩,Zz⟩
    .have f9:¬(l:Int)<n:=Zm;have E:af (aA A (ip p 0 n)=.ok s):=by
      show _=_;rw[<-H.i,show n-l=0 by omega];rfl
     go_wp2;go_ret;rw[B.i,E.i];exact⟨_,rfl,rfl,r,c4,c5⟩
 .rw[decide_eq_true x];have B:af (vW i o b m q p=.error ⟨12,m⟩):=Y2 x;go_wp21;refine lg a0 (qS 12 m) λg7 O _=>?_;go_wp2;go_ret;rw[B.i];exact⟨_,rfl,_,O.i,Zq⟩
end
section
variable {m : Nat -> Prop} {l k : Nat} {o : Zb} {f : ai} {w e d : Zw} {h : PV} {a : Nat} {p : Ws} {v : List cF} {i : Zv} {j g b : Nat}
def rN(ok:Prop)[Decidable ok](e:Int)(g:cF)(b c:Nat)(d:Zb)(f:cw->Except Mar.ac cw):Except Mar.ac cw:=
 if ok then aA (it b c d (dM e)) (λa=>if g.am=1 then f a else .ok a)else .error ⟨12,c⟩
abbrev tl(a:cF):Prop:=a.w=4/\0<=a.am/\a.am<=1/\a.n=a.am
def ahx(a7:e.ownsRow 0 52 5 i v.length (v.flatMap cy)){n:bt}{H:Zv×Zv}(b4:cO H.1 n.aI e)(b5:cO H.2 n.aB e)(f3:g<=1000000000)(e0:b<=1000000000)
  {m a5:Nat} {p:Zb} (f2:p.length<=b) (d7:m<g) (d8:m<v.length) (M:gO e a (ed h f i j g b) ⟨p,0,0⟩ w) (x:n.w=11)
  {o:cw->Except Mar.ac cw} (b3:∀l O,l.O<=g->l.i.length<=b->gO e a (ed h f i j g b) ⟨l.i,0,0⟩ O->Calls prog 106 #[Zp a,Y n.of,Y l.O,Y a5] O (lq e a (ed h f i j g b) O (o l))) :
  Calls prog 175 #[Zp a,.agg (eB n H).toArray,Y m,Y a5] w (lq e a (ed h f i j g b) w (rN (tl (v.getD m bC)) (v.getD m bC).am (v.getD m bC) b m p o)):=by
 obtain⟨c1,c2,c5,c6,c7,c8,a3,a4,c9,c3,c4,d0,d1⟩:=M.K;skip;obtain⟨e3,e4,q⟩:=aW b4;obtain⟨e1,e2,a6⟩:=aW b5;obtain⟨g1,g2⟩:=H;simp only at q a6;subst q a6;obtain⟨g0,f9,b2,s,R,S,a0,z⟩:=rK a7 d8;have r:=U (pm M);replace s:=r.i.y.fr.a2 Zq s;replace R:=r.i.y.fr.a2 Zq R;replace S:=r.i.y.fr.a2 Zq S;replace a0:=r.i.y.fr.a2 Zq a0;replace z:=r.i.y.fr.a2 Zq z;have e8:=iI s;simp only[b2]at a4;have f0:(m:Int)<v.length:=Zm;generalize v.getD m bC=k at *
 have b7:=U b3;clear b4 b5 M b3 a7;go_in;go_upto_region 3 with fail;generalize F:World.alloc (World.alloc w _) _=d;have K:af (hQ e a (ed h f i j g b) w ⟨p,0,0⟩ d):=by subst F;exact(r.i.ae ((ar [] w).A _)).ae ((ar [] _).A _)
 have E:d.heap[w.heap.size]?=some (.cells (eB n (.slice e3 n.aI.length e4,.slice e1 n.aB.length e2)).toArray 117):=by
  subst F;exact(((ar [] _).A _).ak _ Zq Zq).trans (be rfl)
 have u:d.heap[w.heap.size+1]?=some (.cells (cy k).toArray 52):=by
  subst F;exact be Zq
 have f1:a≠w.heap.size/\a≠w.heap.size+1:=Zm;clear c1 c2 c5 c6 c7 c8 a3 a4 c9 c3 c4 d0 d1 s R S a0 z e8 F r b2;have e5:d.cell? (Zd w.heap.size 0)=some (Y n.w):=aC E rfl;have s:=aE u;have z:d.cell? ⟨w.heap.size+1,4,none⟩=some (Y k.am):=aC u rfl;have f8:(n.w==9)=false:=by simp[x]
 have f5:(n.w==10)=false:=by simp[x]
 have f7:(n.w==12)=false:=by simp[x]
 have f6:(n.w==11)=true:=by simp[x]
 clear x;go_upto_region 21 with fail;go_cut [140] (λb9 wc=>b9=.bool (decide (¬tl k))/\d=wc);case first=>
  as_aux_lemma=>
   go_wp2;all_goals
    go_meet;refine⟨Yo Value.bool ?_,rfl⟩;rw[Bool.eq_iff_iff];simp_all[tl]<;>omega
 case rest=>
 obtain⟨rfl,rfl⟩:=hcut;by_cases y:tl k
 .rw[decide_eq_false (not_not_intro y)];have t:af (rN (tl k) k.am k b m p o=aA (it b m p (dM k.am)) (λl=>if k.am=1 then o l else .ok l)):=Y9 y
  obtain⟨-,d9,f4,-⟩:=y;have b8:=U (λ(_:k.am=1)=>b7.i);go_wp21;refine(Qc d9 Zm _).mono ?_;rintro d2 e6 ⟨rfl,G⟩;have B:=U (K.i.ae G);go_wp21;refine lg B (As (dM k.am) m (by simp[dM]) (by simp only;omega) e0) λP a1 N=>?_;have a9:=(((G.aZ (M':=[a]) Zq).u N.i).ak _ (ay u) Zx).trans u;have a8:=(((G.aZ (M':=[a]) Zq).u N.i).ak _ (ay E) Zx).trans E;replace z:P.cell? ⟨w.heap.size+1,4,none⟩=some (Y k.am):=aC a9 rfl;have g3:P.cell? (Zd w.heap.size 2)=some (Y n.of):=aC a8 rfl;have D:=U (zx a1.i d7 (c:=m+1) rfl);have e9:=U a1.i.y;clear a9 a8 u E e5 s G N B K;generalize it b m p _=I at *
  by_cases q:k.am=1
  .have d3:(k.am==1)=true:=by simp[q]
   cases I with
   |error L=>
    obtain⟨c0,C,b1⟩:=D.i;have A:af (aA (Except.error L) (λl=>if k.am=1 then o l else .ok l)=.error L):=U rfl
    go_wp21;refine lg (U C) (PK b1 _ _ _) λe7 J _=>?_;go_wp2;go_ret;rw[t.i];exact⟨_,rfl,c0,J.i,b1⟩
   |ok l=>
    obtain⟨b0,C,d5,d6⟩:=D.i;have a2:=U (b8.i q l P d5 d6 C.y);rw[<-b0]at a2;clear b0 D;have A:af (aA (Except.ok l) (λl=>if k.am=1 then o l else .ok l)=o l):=by show (if k.am=1 then _ else _)=_;rw[Y9 q]
    have b6:=U C.kp;go_wp21;refine a2.i.mono ?_;rintro d2 e7 ⟨a3,rfl,d4⟩;have J:=U d4;go_wp2;go_ret;rw[t.i,A.i];exact⟨_,rfl,J.i.c2 b6.i⟩
  .have d3:(k.am==1)=false:=by simp[q]
   have A:af (aA I (λl=>if k.am=1 then o l else .ok l)=I):=by
    show _=_;cases I with
    |error L=>rfl
    |ok l=>show (if k.am=1 then _ else _)=_;rw[Y2 q]
   go_wp2;go_ret;rw[t.i,A.i];exact⟨_,rfl,D.i⟩
 .rw[decide_eq_true y];have t:af (rN (tl k) k.am k b m p o=.error ⟨12,m⟩):=Y2 y;go_wp21;refine lg K (qS 12 m) λe6 B _=>?_;go_wp2;go_ret;rw[t.i];exact⟨_,rfl,_,B.i,Zq⟩
abbrev oR(c:Bool)(b:Int×Bool)(a:cF):Prop:=a.w=4/\c=true/\b.2=true/\0<=a.am/\a.am<=1/\(b.1 = -1↔a.am=0)
def ahy(c3:bw m l o k f h e)(e2:e.ownsRow 0 52 5 i v.length (v.flatMap cy)){r:bt}{a8:Zv×Zv}(c4:cO a8.1 r.aI e)(c5:cO a8.2 r.aB e)(j5:g<=1000000000)(h6:b<=1000000000)(e8:r.aB.length=r.aI.length)(e9:r.aI.length<=1000000000){B:Nat}(e6:r.of=B)(h2:B<f.h.length)(h3:(f.h.getD B bz).aI.length<=1000000000)
  {p e0:Nat} {z:Zb} (j4:z.length<=b) (h4:p<g) (h5:p<v.length) (c1:gO e a (ed h f i j g b) ⟨z,0,0⟩ w) (F:r.w=13)
  {x:cw->Except Mar.ac cw} (f1:oR (gg (f.h.getD B bz) (v.getD p bC).n) (fy r (v.getD p bC).n) (v.getD p bC)->(v.getD p bC).am=1->∀q t,q.O<=g->q.i.length<=b->gO e a (ed h f i j g b) ⟨q.i,0,0⟩ t->Calls prog 106 #[Zp a,Y (fy r (v.getD p bC).n).1,Y q.O,Y e0] t (lq e a (ed h f i j g b) t (x q))) :
  Calls prog 175 #[Zp a,.agg (eB r a8).toArray,Y p,Y e0] w (lq e a (ed h f i j g b) w (rN (oR (gg (f.h.getD B bz) (v.getD p bC).n) (fy r (v.getD p bC).n) (v.getD p bC)) (v.getD p bC).n (v.getD p bC) b p z x)):=by
 have d6:=U (λ(d:Zw) (u:ap [] e d) (c8:Int)=>Bv (c3.az u) h2 h3 c8);have d4:=U (λ(d:Zw) (u:ap [] e d) (c8:Int)=>Ka (w:=d) (cO.a8 c4 u Zq) (cO.a8 c5 u Zq) e8 e9 c8);obtain⟨f8,g6,f0⟩:=aW c3.h;have f5:=U e6;clear e8 e6 e9;obtain⟨J,a3,a4,a5,g3,g4,d8,d9,g5,g1,g2,b7,b8⟩:=c1.K;skip;obtain⟨i2,i3,A⟩:=aW c4;obtain⟨h8,h9,e1⟩:=aW c5;obtain⟨i0,i1⟩:=a8;simp only at A e1;subst A e1;obtain⟨k3,k2,e7,H,y,d0,d1,O⟩:=rK e2 h5;have C:=U (pm c1);replace H:=C.i.y.fr.a2 Zq H;replace y:=C.i.y.fr.a2 Zq y;replace d0:=C.i.y.fr.a2 Zq d0;replace d1:=C.i.y.fr.a2 Zq d1;replace O:=C.i.y.fr.a2 Zq O;have i5:=iI H;simp only[e7]at d9;have j2:(p:Int)<v.length:=Zm;generalize v.getD p bC=n at *
 have b3:=U f1;clear c4 c5 c1 f1 e2;go_in;go_upto_region 3 with fail;generalize u:World.alloc (World.alloc w _) _=d;have a0:af (hQ e a (ed h f i j g b) w ⟨z,0,0⟩ d):=by subst u;exact(C.i.ae ((ar [] w).A _)).ae ((ar [] _).A _)
 have M:d.heap[w.heap.size]?=some (.cells (eB r (.slice i2 r.aI.length i3,.slice h8 r.aB.length h9)).toArray 117):=by
  subst u;exact(((ar [] _).A _).ak _ Zq Zq).trans (be rfl)
 have a6:d.heap[w.heap.size+1]?=some (.cells (cy n).toArray 52):=by
  subst u;exact be Zq
 have j3:a≠w.heap.size/\a≠w.heap.size+1:=Zm;clear J a3 a4 a5 g3 g4 d8 d9 g5 g1 g2 b7 b8 H y d0 d1 O i5 u C e7;have c9:d.cell? (Zd w.heap.size 0)=some (Y r.w):=aC M rfl;have a9:d.cell? (Zd w.heap.size 2)=some (Y B):=f5.i▸aC M rfl;have y:d.cell? ⟨w.heap.size+1,1,none⟩=some (Y n.n):=aC a6 rfl;have k1:(r.w==9)=false:=by simp[F]
 have j7:(r.w==10)=false:=by simp[F]
 have j9:(r.w==12)=false:=by simp[F]
 have j8:(r.w==11)=false:=by simp[F]
 have k0:(r.w==13)=true:=by simp[F]
 clear F c3;obtain⟨J,a3,a4,a5,-,-,-,-,-,-,-,b7,b8⟩:=a0.i.y.K;simp only[f0]at J;have S:=U (d6.i _ a0.i.y.fr.ag n.n);unfold gt at S;simp only[f0]at S;generalize gg (f.h.getD B bz) n.n=K at *
 go_upto_region 28 with fail;go_cut [14] (λb6 wc=>b6=.bool K/\af (ap [] d wc));case first=>
  refine bJ (λt=>t.cell? (Zd a 0)=some (.slice f8 f.h.length g6)/\t.cell? (Zd a 1)=some h.nv/\t.cell? (Zd a 2)=some h.pv/\t.cell? (Zd a 3)=some (Zs f.i)/\t.cell? (Zd w.heap.size 2)=some (Y B)/\t.cell? ⟨w.heap.size+1,1,none⟩=some (Y n.n)) ?_ λg9=>?_
  .go_keep
  refine bf [0,1,2,3,4,5,6,7] ?_;iterate 8 (refine bi ?_)
  refine bg ?_;refine bI 8 λa L=>?_;(go_simp;refine S.i.mono ?_;rintro b9 b1 ⟨rfl,s⟩;have i6:=s.a2 Zq J;have i7:=s.a2 Zq a3;have i8:=s.a2 Zq a4;have i9:=s.a2 Zq a5;have j0:=s.a2 Zq y;have j1:=s.a2 Zq a9);refine L.out _ _ ?_ (λg9=>?_)
  .go_keep
  clear L a;refine nz ?_;refine bL λa L=>?_;go_simp;refine L.out _ _ ?_;clear L a;refine nz ?_;go_wp2;go_meet;exact⟨rfl,U ((ar [] d).ag.u s)⟩
 case rest=>
 obtain⟨rfl,s⟩:=hcut;rename Zw=>b1;have b4:=U (a0.i.ae s.i);have a7:=(s.i.ak _ (ay a6) Zq).trans a6;have c2:=(s.i.ak _ (ay M) Zq).trans M;clear J a3 a4 a5 b7 b8 S d6 c9 a9 y a6 M a0 s;have c9:=aE c2;have a9:b1.cell? (Zd w.heap.size 2)=some (Y r.of):=aC c2 rfl;have y:b1.cell? ⟨w.heap.size+1,1,none⟩=some (Y n.n):=aC a7 rfl;have d5:=U (d4.i b1 b4.i.y.fr n.n);clear d4 c2;go_wp21;refine d5.i.mono ?_;rintro b9 N ⟨rfl,c6⟩;have b5:=U (b4.i.ae c6);have E:=(c6.ak _ (ay a7) Zq).trans a7;have H:N.cell? ⟨w.heap.size+1,0,none⟩=some (Y n.w):=aC E rfl;replace y:N.cell? ⟨w.heap.size+1,1,none⟩=some (Y n.n):=aC E rfl;have O:N.cell? ⟨w.heap.size+1,4,none⟩=some (Y n.am):=aC E rfl;clear d5 c9 a9 a7 c6 b4;generalize fy r n.n=f9 at *
 obtain⟨D,a2⟩:=f9;simp only at b3;go_upto_region 30 with fail;go_cut [14,15,16,206] (λ_ h7 _ b6 wc=>h7=Y D/\b6=.bool (decide (¬oR K (D,a2) n))/\N=wc);case first=>
  as_aux_lemma=>
   go_wp2;all_goals
    go_meet;refine⟨Zu,Yo Value.bool ?_,rfl⟩;rw[Bool.eq_iff_iff];first
     |(simp_all[oR];done)
     |(simp_all[oR]<;>omega)
     |grind [oR]
     |(simp_all[oR];grind)
     |(by_cases i0:D = -1<;>by_cases i1:n.am=0<;>simp_all[oR])
 case rest=>
 obtain⟨rfl,rfl,rfl⟩:=hcut;have j6:=JV;by_cases G:oR K (D,a2) n
 .rw[decide_eq_false (not_not_intro G)];have I:af (rN (oR K (D,a2) n) n.n n b p z x=aA (it b p z (dM n.n)) (λq=>if n.am=1 then x q else .ok q)):=Y9 G
  have f7:=U (b3.i G);clear G b3;go_wp21;refine(Dx _ _).mono ?_;rintro b9 k4 ⟨rfl,c7⟩;have d2:=U (b5.i.ae c7);go_wp21;refine lg d2 (As (dM n.n) p (by simp[dM]) (by simp only;omega) h6) λf3 d3 f2=>?_;have e3:=(((c7.aZ (M':=[a]) Zq).u f2.i).ak _ (ay E) Zx).trans E;replace O:f3.cell? ⟨w.heap.size+1,4,none⟩=some (Y n.am):=aC e3 rfl;have a1:=U (zx d3.i h4 (c:=p+1) rfl);clear e3 E H y c7 f2 d2 b5 d3;generalize it b p z _=b0 at *
  by_cases A:n.am=1
  .have g7:(n.am==1)=true:=by simp[A]
   cases b0 with
   |error c0=>
    obtain⟨g0,R,e5⟩:=a1.i;have P:af (aA (Except.error c0) (λq=>if n.am=1 then x q else .ok q)=.error c0):=U rfl
    go_wp21;refine lg (U R) (PK e5 _ _ _) λi4 b2 _=>?_;go_wp2;go_ret;rw[I.i];exact⟨_,rfl,g0,b2.i,e5⟩
   |ok q=>
    obtain⟨e4,R,h0,h1⟩:=a1.i;have d7:=U (f7.i A q f3 h0 h1 R.y);rw[<-e4]at d7;clear e4 a1;have P:af (aA (Except.ok q) (λq=>if n.am=1 then x q else .ok q)=x q):=by show (if n.am=1 then _ else _)=_;rw[Y9 A]
    have f6:=U R.kp;go_wp21;refine d7.i.mono ?_;rintro b9 i4 ⟨d8,rfl,g8⟩;have b2:=U g8;go_wp2;go_ret;rw[I.i,P.i];exact⟨_,rfl,b2.i.c2 f6.i⟩
  .have g7:(n.am==1)=false:=by simp[A]
   have P:af (aA b0 (λq=>if n.am=1 then x q else .ok q)=b0):=by
    show _=_;cases b0 with
    |error c0=>rfl
    |ok q=>show (if n.am=1 then _ else _)=_;rw[Y2 A]
   go_wp2;go_ret;rw[I.i,P.i];exact⟨_,rfl,a1.i⟩
 .rw[decide_eq_true G];have I:af (rN (oR K (D,a2) n) n.n n b p z x=.error ⟨12,p⟩):=Y2 G;go_wp21;refine lg b5 (qS 12 p) λN f4 _=>?_;go_wp2;go_ret;rw[I.i];exact⟨_,rfl,_,f4.i,Zq⟩
end
section
variable {l : Nat -> Prop} {k j : Nat} {m : Zb} {a : ai} {h f p : Zw} {d : PV} {c : Nat} {o : Ws} {v : List cF} {g : Zv} {b e i : Nat}
def ahc(x:bw l k m j a d f){p:Nat}(N:p<a.h.length)(O:(a.h.getD p bz).w=14)(c0:e<=1000000000)(u o:Nat)(b9:o<=64){B:Zb}(s:gO f c (ed d a g b e i) ⟨B,0,0⟩ h){D}
  (E:o<b->∀y,gO f c (ed d a g b e i) ⟨B,0,0⟩ y->Calls prog 106 #[Zp c,Y (a.h.getD p bz).of,Y u,Y ((o+1:Nat):Int)] y (lq f c (ed d a g b e i) y D)) :
  Calls prog 106 #[Zp c,Y p,Y u,Y o] h (lq f c (ed d a g b e i) h (if b<=o then .error ⟨13,u⟩else D)):=by
 have z:=U E;clear E;obtain⟨L,a4,a7,a8,a9,b0,b1,b2,b3,a5,a6,b5,b6⟩:=s.K;obtain⟨b8,b4,I,P,F,c5,c6,c7,c8,c9,d0,d1,d2,d3,d4,d5⟩:=nY (x.az s.fr) N;have C:a.h[p]?=some (a.h.getD p bz):=Zg;obtain⟨G,H⟩:=x.dp p _ I C F;obtain⟨a0,a1,r⟩:=aW G;obtain⟨R,S,t⟩:=aW H;obtain⟨c3,c4⟩:=I;simp only at r t;subst r t;skip;have c1:(p:Int)<(a.h.length:Int):=Zm;have J:=U (pm s);simp only[P]at L;generalize a.h.getD p bz=q at *
 clear x s G H C F;have c2:(q.w==14)=true:=Zg;have v:=U (J.i.ae ((ar [] h).A (.cells #[Y q.w,Y q.n,Y q.of,.slice a0 q.aI.length a1,.slice R q.aB.length S,Y q.dR,Zs q.a5,Y q.y] 117)));clear O;by_cases r:b<=o
 .have M:(b:Int)<=o:=Zm;rw[Y9 r];clear r;go_in;go_wp21;refine lg v (qS 13 u) λa2 w _=>?_;go_wp2;go_ret;exact⟨_,rfl,_,w.i,Zq⟩
 .have M:¬(b:Int)<=o:=Zm;rw[Y2 r];have A:=U (z.i Zm _ v.i.y);rw[show (((o+1:Nat):Int))=(o:Int)+1 by omega]at A;have K:=U v.i.kp;clear r z;go_in;go_wp21;refine A.i.mono ?_;rintro b7 a2 ⟨a3,rfl,t⟩;have w:=U t;go_wp2;go_ret;exact⟨_,rfl,w.i.c2 K.i⟩
end
section
variable {g:Bool}{b:dI}{f:bt}{j h:Type}
variable {v : List cF} {i d e a : Nat} {c : Zb}
abbrev gN(a:cF):dW:=⟨a.w,a.n,a.s,a.y,a.am⟩
def qI(v:List cF)(d a:Nat)(b:Except Mar.ac cw):Except Mar.ac cw:=if d<=a\/v.length<=a then .error ⟨if d<=a then 15 else 12,a⟩else b
def Dh(h:Int)(f:dW->Bool)(e:dW×cw->Except Mar.ac j):aA (hh (v.map gN) d h f ⟨a,c⟩) e=if d<=a\/v.length<=a then .error ⟨if d<=a then 15 else 12,a⟩else if(v.getD a bC).w=h/\f (gN (v.getD a bC))=true then e (gN (v.getD a bC),⟨a+1,c⟩)else .error ⟨12,a⟩:=by
 unfold hh;by_cases b:d<=a
 .simp[b,aA]
 by_cases g:v.length<=a
 .simp[b,g,aA]
 have i:(v.map gN)[a]?=some (gN (v.getD a bC)):=Zu;simp only[b,g,i,if_false,or_self]
 split<;>rfl
theorem CE(b:Zb)(d:cw->Except Mar.ac j):aA (it e a c b) d=if e<c.length+b.length then .error ⟨14,a⟩else d ⟨a+1,c++b⟩:=by unfold it;split<;>rfl
theorem Aq(b:Int):kM e b ⟨a+1,c⟩=it e a c (dM b):=by
 grind [kM,mo,it,Dy,aA]
theorem NG(b d:Zb):(if e<c.length+b.length then Except.error ⟨14,a⟩else it e a (c++b) d)=it e a c (b++d):=by
 unfold it;simp only[Yq,YN];repeat' split
 all_goals (first|rfl|(exfalso;omega))
def UK(m:b.bD=decide (f.w=2\/f.w=3))(h:∀g∈v,gg f g.n=b.br g.n):(ft (v.map gN) i d e).num b ⟨a,c⟩=qI v d a (xC f (v.getD a bC) e a c):=by
 show aA (hh (v.map gN) d 1 _ ⟨a,c⟩) _=_;rw[Dh];unfold qI;split
 .rfl
 rename_i k;have j:v.getD a bC∈v:=Zu;unfold xC;rw[h _ j];split
 .by_cases l:f.w=2\/f.w=3
  .simp_all[Aq,CE,NG]
  simp_all[aA,Aq]
 rfl
def UP{b:Int}(m:f.w=6↔g=true)(n:f.n=b):(ft (v.map gN) i d e).text b g ⟨a,c⟩=qI v d a (yj f (v.getD a bC) e a c):=by
 show aA (hh (v.map gN) d 2 _ ⟨a,c⟩) _=_;rw[Dh];unfold qI;split
 .rfl
 unfold yj;have k:((v.getD a bC).w=2/\gY b g (gN (v.getD a bC)).s.length=true)↔((v.getD a bC).w=2/\((v.getD a bC).s.length:Int)<=f.n/\(f.w=6->((v.getD a bC).s.length:Int)=f.n)):=by
  grind [gY]
 simp only[k];split
 .have o:∀(h:Zb) (j:Zb),wm e j ⟨a+1,h⟩=it e a h (lJ j):=λh j=>by
   grind [lJ,cB,wm,mo,it,aA]
  by_cases l:f.w=6
  .simp_all[aA]
  simp_all[Aq,CE,NG]
 rfl
def KW{b}(f:Nat×cw->Except Mar.ac j):aA ((ft (v.map gN) i d e).bH b g ⟨a,c⟩) f=if d<=a\/v.length<=a then .error ⟨if d<=a then 15 else 12,a⟩else if(v.getD a bC).w=3/\gY b g (v.getD a bC).am=true then aA (if g then .ok ⟨a+1,c⟩else it e a c (dM (v.getD a bC).am)) (λh=>f ((v.getD a bC).am.toNat,h))else .error ⟨12,a⟩:=by
 show aA (aA (hh (v.map gN) d 3 _ ⟨a,c⟩) _) _=_;rw[Dh];split
 .rfl
 split
 .cases g
  .simp only[Ye,if_false,Aq,CE]
   split<;>rfl
  rfl
 rfl
def KV{g}(f:Int×cw->Except Mar.ac j):aA ((ft (v.map gN) i d e).cg b g ⟨a,c⟩) f=if d<=a\/v.length<=a then .error ⟨if d<=a then 15 else 12,a⟩else if(v.getD a bC).w=4/\nF g (gN (v.getD a bC))=true then aA (it e a c (dM (v.getD a bC).n)) (λh=>f ((v.getD a bC).n,h))else .error ⟨12,a⟩:=by
 show aA (aA (hh (v.map gN) d 4 _ ⟨a,c⟩) _) _=_;rw[Dh];split
 .rfl
 split
 .simp only[Aq,CE];split<;>rfl
 rfl
def BT(a:eY h):∀(b d:Nat) (c:h),ip (λ_=>a) d b c=hJ a b c
 |0,_,_=>rfl
 |b+1,d,c=>by
  show aA (a c) (ip (λ_=>a) (d+1) b)=aA (a c) (hJ a b);congr 1;funext c;exact BT a b (d+1) c
def Mn(e:Wk h)(nm:Zb->eY h)(c:List Ty):∀(b a:Nat) (d:h),b+a=c.length->ip (λg=>ea e nm (c.getD g .void)) a b d=mg e nm (c.drop a) d
 |0,a,d,f=>by rw[List.drop_of_length_le Zm];rfl
 |b+1,a,d,f=>by
  rw[Yk Zm];show aA (ea e nm (c.getD a .void) d) _=aA (ea e nm c[a] d) _;rw[show c.getD a .void=c[a] by simp[show a<c.length by omega]];congr 1;funext d;exact Mn e nm c b (a+1) d Zm
end
section
variable {u:eY cw}{D':cw->Except Mar.ac cw}{g:Int}{c:bt}
section
variable {z : Nat -> Prop} {y w : Nat} {q : Zb} {f : ai} {l h A : Zw} {i : PV} {m : Nat} {v : List cF} {j : Zv} {o d e : Nat} {t : fG} {r : Nl} {Kn : Zb -> Prop}
def ko:Ty->Prop
 |.plain d=>d<=4
 |.opaq a _=>0<=a/\a<=4294967295
 |.str a c=>c=false/\0<=a/\a<=4294967295
 |.arr b a _=>(0<=a/\a<=4294967295)/\b≠.void/\ko b
 |.opt b=>b≠.void/\ko b
 |_=>True
def lV:aD->Prop
 |.typedef c=>c.H≠.void/\ko c.H
 |.enum _ _ b=>b≠[]/\∀a∈b,-2147483648<=a.2.2/\a.2.2<=2147483647
 |.struct _ _ b=>b.length<=1000/\∀a∈b,a.H≠.void/\ko a.H
 |.union _ _ _ d=>((dh d).map (·.1)).Nodup/\∀c∈d,ko c.2.H
 |_=>False
structure Tb(rows:List bt)(r:Nl)(t:fG)(Kn:Zb->Prop):Prop where
 cV:∀k:Nat,k<=4->rows[k]?=some ⟨k,0,0,[],[],0,[],0⟩
 b9:∀c∈rows,c.aI.length<=1000/\c.aB.length<=1000
 hD:∀(s:Zb) (a:Nat) (g:Int) (c:bt),Kn s->rows[g.toNat]?=some c->c.w=14->c.a5=s->∃df,t s=some df/\kl rows r df c.of/\(∀p∈ju df,Kn p.1)/\lV df
 ho:∀(s q:Zb) (b:Nat) ms,aP r s=some (some (.enum q b ms))->t s=some (.enum q b ms)
 enum:∀(s q:Zb) (b:Nat) ms,aP r s=some (some (.enum q b ms))->lV (.enum q b ms)
structure Cx(z:Nat->Prop)(y w:Nat)(q:Zb)(f:ai)(h:Zw)(i:PV)(v:List cF)(j:Zv)(d e:Nat)(t:fG)(r:Nl)(Kn:Zb->Prop):Prop where
 hV:bw z y q w f i h
 hN:h.ownsRow 0 52 5 j v.length (v.flatMap cy)
 hf:d<=1000000000
 hz:e<=1000000000
 kf:∀x∈v,-9223372036854775808<=x.n/\x.n<=9223372036854775807
 tb:Tb f.h r t Kn
def wV(h:Zw)(m:Nat)(i:PV)(f:ai)(j:Zv)(o d e b:Nat)(g:Int)(u:eY cw):Prop:=∀a l,a.O<=d->a.i.length<=e->gO h m (ed i f j o d e) ⟨a.i,0,0⟩ l->
 Calls prog 106 #[Zp m,Y g,Y a.O,Y b] l (lq h m (ed i f j o d e) l (u a))
def sW{a:List bt}{g:Nat}(b:a[g]?=some c):g<a.length/\a.getD g bz=c:=by
 grind
def HP(b:Cx z y w q f h i v j d e t r Kn)(x:0<=g)(D:f.h[g.toNat]?=some c)(G:c.w≠14){k:Nat}(B:∀a,u a=qI v d a.O (D' a))
  (s:∀a l,a.O<d->a.O<v.length->a.i.length<=e->gO h m (ed i f j o d e) ⟨a.i,0,0⟩ l->Calls prog 106 #[Zp m,Y g,Y a.O,Y k] l (lq h m (ed i f j o d e) l (D' a))):wV h m i f j o d e k g u:=by
 intro a l E A p;obtain⟨H,rfl⟩:=Int.eq_ofNat_of_zero_le x;obtain⟨C,F⟩:=sW D;rw[B];unfold qI;by_cases n:d<=a.O\/v.length<=a.O
 .rw[Y9 n];exact ag9 b.hV b.hN C Zu b.hf n k p
 .rw[Y2 n];exact s a l Zm Zm A p
def aho(a:Cx z y w q f h i v j d e t r Kn)(s:0<=g)(k:f.h[g.toNat]?=some c)(H:0<=c.w/\c.w<=5){n:dI}(G:n.bD=decide (c.w=2\/c.w=3))(E:∀u∈v,gg c u.n=n.br u.n){p}:wV h m i f j o d e p g ((ft (v.map gN) o d e).num n):=by
 refine HP a s k Zm (D':=λb=>xC c (v.getD b.O bC) e b.O b.i) (λb=>UK G E) λb l x A B C=>?_;obtain⟨J,rfl⟩:=Int.eq_ofNat_of_zero_le s;obtain⟨F,D⟩:=sW k;have I:=a.tb.b9 c (Yh k);have:=aha a.hV a.hN F Zu Zg a.hf a.hz b.O p B x A C;rw[D]at this;exact this
def ahp(b:Cx z y w q f h i v j d e t r Kn)(s:0<=g)(u:f.h[g.toNat]?=some c)(I:5<c.w/\c.w<=8){k:Int}{p:Bool}(G:c.w=6↔p=true)(F:c.n=k)(H:k<=4294967295){n}:wV h m i f j o d e n g ((ft (v.map gN) o d e).text k p):=by
 refine HP b s u Zm (D':=λa=>yj c (v.getD a.O bC) e a.O a.i) (λa=>UP G F) λa l x A B C=>?_;obtain⟨J,rfl⟩:=Int.eq_ofNat_of_zero_le s;obtain⟨E,D⟩:=sW u;have:=ahd b.hV b.hN E Zu Zu b.hf b.hz a.O n B x A C;rw[D]at this;exact this
def Du(b:Cx z y w q f h i v j d e t r Kn)(s:0<=g)(p:f.h[g.toNat]?=some c)(G:8<c.w/\c.w≠14){n:Nat}(E:∀a,u a=qI v d a.O (D' a))
  (C:∀a k l,a.O<d->a.O<v.length->a.i.length<=e->cO k.1 c.aI h->cO k.2 c.aB h->gO h m (ed i f j o d e) ⟨a.i,0,0⟩ l->Calls prog 175 #[Zp m,.agg (eB c k).toArray,Y a.O,Y n] l (lq h m (ed i f j o d e) l (D' a))):wV h m i f j o d e n g u:=by
 refine HP b s p G.2 E λa l x A B D=>?_;obtain⟨M,rfl⟩:=Int.eq_ofNat_of_zero_le s;obtain⟨H,F⟩:=sW p;refine ahe b.hV b.hN H Zu b.hf b.hz a.O n B x A D λk I N J=>?_;obtain⟨K,L⟩:=b.hV.dp M c k p I;rw[F];exact C a k N x A B K L J
end
end
section
variable {z : Nat -> Prop} {P y : Nat} {t : Zb} {q : ai} {s x A : Zw} {u : PV} {K : Nat} {v : List cF} {w : Zv} {d m h : Nat} {f : fG} {o : Nl} {Kn : Zb -> Prop}
def WI{a:Nat}(d:a<=4){b:Int}(c:-9223372036854775808<=b/\b<=9223372036854775807):gg ⟨a,0,0,[],[],0,[],0⟩ b=(dy a).br b:=by
 have:a=0\/a=1\/a=2\/a=3\/a=4:=Zm;rw[Bool.eq_iff_iff];rcases this with rfl|rfl|rfl|rfl|rfl<;>simp[gg,dy,dI.br]<;>omega
def LC{a}(c:lV (.enum t P a))(b:Int):gg (rB a) b=(hr a).br b:=by
 obtain⟨d,e⟩:=c;rw[Bool.eq_iff_iff];simp only[gg,hr,dI.br,d,if_false,Bool.and_eq_true,decide_eq_true_eq]
 grind
def JW{f g:Int}:∀{d e:List Int},pt d e f=some g->∃c:Nat,d[c]?=some f/\e[c]?=some g
 |a::d,h::e,b=>by
  unfold pt at b;split at b
  .rename_i k;cases b
   exact⟨0,Zg,Zq⟩
  .obtain⟨c,i,j⟩:=JW b;exact⟨c+1,Zu,Zu⟩
def JX{e:Int}:∀{c d:List Int},c.length=d.length->pt c d e=none->e ∉ c
 |[],_,_,_=>by simp
 |a::c,f::d,h,b=>by
  unfold pt at b;split at b
  .cases b
  .rename_i g;have:=JX Zu b;grind
def GE{b d a}(c:dA b d a):(a = -1↔kU d=true)/\a≠-2:=by
 cases d with
 |void=>have:a = -1:=c;subst this;simp[kU]
 |plain e=>have g:a=e:=c.1;simp[kU];omega
 |_=>have f:=c.1;simp[kU];omega
def Nh{c:List (List Int×aV)}{b:Int}{a:List Int×aV}(e:a∈c)(d:b∈a.1):(b,a.2)∈dh c:=List.mem_flatMap.2 ⟨a,e,YE.2 ⟨b,d,rfl⟩⟩
def Sv{b c}{j:List Int}{f of:Int}(B:((dh c).map (·.1)).Nodup)(F:j.length=(dh c).length)(H:∀(h:Nat) (r:Int) (p:Int×aV),j[h]?=some r->(dh c)[h]?=some p->dA b p.2.H r)
  (k:match jv c with|none=>f = -2|some d=>dA b d.H f) (C:∀a∈c,a.1=[]->jv c=some a.2) (i:Int):match iF c i with
   |none=>(fy ⟨13,0,of,(dh c).map (·.1),j,f,[],0⟩ i).2=false
   |some v=>(fy ⟨13,0,of,(dh c).map (·.1),j,f,[],0⟩ i).2=true/\dA b v (fy ⟨13,0,of,(dh c).map (·.1),j,f,[],0⟩ i).1/\∃a∈c,a.2.H=v:=by
 unfold fy;simp only;cases s:pt ((dh c).map (·.1)) j i with
 |some r=>
  obtain⟨h,e,D⟩:=JW s;rw[List.getElem?_map]at e;cases n:(dh c)[h]? with
  |none=>simp_all
  |some p=>
   rw[n]at e;simp only[Option.map_some,Yu]at e;obtain⟨a,g,z⟩:=List.mem_flatMap.1 (Yh n);obtain⟨q,G,rfl⟩:=YE.1 z;simp only at e;subst e;have m:∃l,c.reverse.find? (λa=>a.1.contains q)=some l:=by
    cases t:c.reverse.find? (λa=>a.1.contains q)<;>grind
   obtain⟨l,m⟩:=m;have x:l∈c:=Zg;have y:q∈l.1:=Zg;obtain⟨u,o⟩:=List.getElem?_of_mem (Nh x y);have w:u=h:=by
    have I:=(YB.1 o).1;have J:=(YB.1 n).1;refine xB B u h Zu Zu ?_;simp_all
   subst w;rw[n]at o;simp only[Yu,Prod.mk.injEq,true_and]at o;unfold iF;grind
 |none=>
  have A:=JX Zg s;have m:c.reverse.find? (λa=>a.1.contains i)=none:=by
   rw[List.find?_eq_none];intro a g E;exact A (YE.2 ⟨_,Nh (by simpa using g) Zu,rfl⟩)
  unfold iF;rw[m];simp only;cases t:c.reverse.find? (λa=>a.1.isEmpty)with
  |none=>
   have:jv c=none:=by
    unfold jv;rw[List.find?_eq_none.2 (λa g=>List.find?_eq_none.1 t a Zu)];rfl
   simp_all
  |some a=>
   have g:a∈c:=Zg;have e:a.1=[]:=Zg;rw[C a g e]at k;have k:dA b a.2.H f:=k;exact⟨by have:=(GE k).2;simp_all,k,a,g,rfl⟩
theorem JQ(b a:Int):gY b true a=true↔a=b:=by simp[gY]
end
def GC{b d a}(c:dA b d a):-1<=a:=by
 cases d with
 |void=>have:a = -1:=c;omega
 |plain e=>have:a=e:=c.1;omega
 |_=>have:=c.1;omega
abbrev pT(a:Int):Prop:=-9223372036854775808<=a/\a<=9223372036854775807
structure yO{l:Type}(b:List bt)(c:Wk l)(g:Nat->Int->eY l->Prop):Prop where
 num:∀{dp:Nat} {i:Int} {r:bt} {n:dI},0<=i->b[i.toNat]?=some r->0<=r.w/\r.w<=5->n.bD=decide (r.w=2\/r.w=3)->(n.bD=false->(n.c4<0↔r.w=0\/r.w=5))->(∀k,pT k->gg r k=n.br k)->g dp i (c.num n)
 i2:∀{dp:Nat} {i:Int} {r:bt} {n:Int} {fx:Bool},0<=i->b[i.toNat]?=some r->5<r.w/\r.w<=8->(r.w=6↔fx=true)->r.n=n->0<=n/\n<=4294967295->g dp i (c.text n fx)
 arr:∀{dp:Nat} {i j n:Int} {fx:Bool} {D:eY l},0<=i->b[i.toNat]?=some (dd (if fx then 9 else 10) n j)->0<=n/\n<=4294967295->g dp j D->g dp i λe=>aA (c.bH n fx e) λp=>hJ D p.1 p.2
 opt:∀{dp:Nat} {i j:Int} {D:eY l},0<=i->b[i.toNat]?=some (dd 11 0 j)->g dp j D->g dp i λe=>aA (c.cg (dy 4) jP e) λp=>if p.1=1 then D p.2 else .ok p.2
 str:∀{dp:Nat} {i:Int} {parts:List Int} {D:Nat->eY l},0<=i->b[i.toNat]?=some ⟨12,0,0,[],parts,0,[],0⟩->parts.length<=1000->(∀j,j<parts.length->g dp (parts.getD j 0) (D j))->g dp i λe=>aA (c.bH parts.length true e) λp=>ip D 0 parts.length p.2
 j0:∀{dp:Nat} {i:Int} {r:bt} {io:Nat} {n:dI} {va:Int->Option Nat} {D:Int->eY l},0<=i->b[i.toNat]?=some r->r.w=13->r.of=io->io<b.length->r.aB.length=r.aI.length->n.bD=false->(n.c4<0↔(b.getD io bz).w=0\/(b.getD io bz).w=5)->(∀k,(fy r k).2=true->-1<=(fy r k).1)->(∀k,va k=if gg (b.getD io bz) k=true/\(fy r k).2=true then some (if(fy r k).1<0 then 0 else 1)else none)->(∀k,gg (b.getD io bz) k=true->(fy r k).2=true->if(fy r k).1<0 then D k=(λe=>.ok e)else g dp (fy r k).1 (D k))->g dp i λe=>aA (c.cg n va e) λp=>D p.1 p.2
 hD:∀{dp:Nat} {i:Int} {r:bt} {D:eY l},0<=i->b[i.toNat]?=some r->r.w=14->dp<=64->(dp<64->g (dp+1) r.of D)->g dp i λe=>aA (c.cY dp e) D
section
variable {l : Type} {b : List bt} {c : Wk l} {g : Nat -> Int -> eY l -> Prop} {f : fG} {o : Nl} {Kn : Zb -> Prop}
def abP(k:yO b c g)(I:Tb b o f Kn){z p}(B:∀(j:Zb) (r:bt) (a:Int),0<=a->Kn j->b[a.toNat]?=some r->r.w=14->r.a5=j->g p a (fu c f z p j)):∀(i:Ty),ko i->i≠.void->(∀n∈gu i,Kn n.1)->∀a,dA b i a->g p a (ea c (fu c f z p) i):=by
 intro i;induction i with
 |void=>intro _ D;exact absurd rfl D
 |plain h=>
  rintro - - - a ⟨rfl,s⟩;have E:h=0\/h=1\/h=2\/h=3\/h=4:=Zm;refine k.num (r:=⟨h,0,0,[],[],0,[],0⟩) Zm (by simpa using I.cV h s) Zx ?_ ?_ λJ G=>WI s G<;>rcases E with rfl|rfl|rfl|rfl|rfl<;>simp[dy]
 |named j C=>
  rintro - - m a ⟨d,r,e,s,F,-⟩;exact B j r a d (m (j,C) (by simp[gu])) e s F
 |opaq A q=>
  rintro l - - a ⟨d,e⟩;exact k.i2 d e (by cases q<;>simp[fV]) (by cases q<;>simp[fV]) rfl l
 |str A q=>
  rintro⟨rfl,t⟩ - - a ⟨d,e⟩;exact k.i2 d e (by simp[fV]) (by simp[fV]) rfl t
 |arr H A q x=>
  rintro⟨t,v,l⟩-m a ⟨d,y,e,u⟩;exact k.arr d e t (x l v (λn w=>m n w) y u)
 |opt H x=>
  rintro⟨v,l⟩-m a ⟨d,y,e,u⟩;exact k.opt d e (x l v (λn w=>m n w) y u)
def Gq(B:yO b c g)(H:Tb b o f Kn){v dp}(a7:∀(y:Zb) (a0:bt) (s:Int),0<=s->Kn y->b[s.toNat]?=some a0->a0.w=14->a0.a5=y->g dp s (fu c f v dp y))(x:aD)(j:lV x)(R:∀p∈ju x,Kn p.1)(s:Int)(k:kl b o x s):g dp s (iH c f (fu c f v dp) x):=by
 have K:=abP B H a7;cases x with
 |const h u m=>exact j.elim
 |prog h u m d1=>exact j.elim
 |typedef h=>exact K h.H j.2 j.1 R s k.1
 |enum h u e=>exact B.num k.1 k.2 (by simp[rB]) rfl (λ_=>by simp[hr,rB]) λI _=>LC (t:=h) (P:=u) j I
 |struct h u e=>
  obtain⟨O,S,k,F,r⟩:=k;have:=B.str (dp:=dp) (D:=λi=>ea c (fu c f v dp) ((e.map (·.H)).getD i .void)) O k (by have:=j.1;omega) λi a3=>by
   have E:i<e.length:=Zm;rw[show S.getD i 0=S[i] by simp[a3],show (e.map (·.H)).getD i .void=e[i].H by simp[E]];have a6:=j.2 e[i] (Yy E);exact K e[i].H a6.2 a6.1 (λp r=>R p (List.mem_flatMap.2 ⟨_,Yy E,r⟩)) _ (r i _ _ (Yd a3) (Yd E))
  rw[F]at this;rw[show iH c f (fu c f v dp) (.struct h u e)=λm=>aA (c.bH e.length true m) λp=>ip (λi=>ea c (fu c f v dp) ((e.map (·.H)).getD i .void)) 0 e.length p.2 from funext λm=>by
   show aA (c.bH e.length true m) _=_;congr 1;funext p;exact(Mn _ _ (e.map (·.H)) e.length 0 _ Zq).symm]
  exact this
 |union h u G A=>
  obtain⟨O,of,S,c6,k,b8,F,r,b4,c3⟩:=k;have J:=Sv (of:=of) j.1 F r b4 c3;obtain⟨w,b6,b5,b9,c0,c2⟩:∃w:Nat,of=w/\w<b.length/\(∀d,gg (b.getD w bz) d=(lc f G.H).br d)/\((lc f G.H).c4<0↔(b.getD w bz).w=0\/(b.getD w bz).w=5)/\(lc f G.H).bD=false:=by
   rcases b8 with⟨d,L,a4,rfl⟩|⟨y,c4,d2,c5,e,L,c9,a1,b3⟩
   .have b7:d<=4:=Zm;obtain⟨N,C⟩:=sW (H.cV d b7);refine⟨d,rfl,N,λI=>?_,?_⟩<;>rw[C,L]
    .rw[Bool.eq_iff_iff];rcases a4 with rfl|rfl|rfl<;>simp[lc,gg,dy,dI.br]<;>omega
    .rcases a4 with rfl|rfl|rfl<;>simp[lc,dy]
   .obtain⟨N,C⟩:=sW b3;have M:lc f G.H=hr e:=by
     rw[L];show (match f y with|some (.enum _ _ e)=>hr e|_=>yr)=_;rw[H.ho _ _ _ _ a1]
    exact⟨of.toNat,Zm,N,λI=>by rw[C,M];exact LC (H.enum _ _ _ _ a1) I,by rw[C,M];simp[hr,rB],by rw[M];rfl⟩
  subst b6;refine B.j0 (D:=λd m=>match iF A d with|some z=>ea c (fu c f v dp) z m|none=>.error ⟨0,0⟩) O k rfl rfl b5 (by simp[F]) c2 c0 (λd b1=>?_) (λd=>?_) λd c8 b2=>?_
  .have a:=J d;generalize fy _ d=q at *
   cases n:iF A d with
   |none=>
    rw[n]at a;have a:q.2=false:=a;rw[b1]at a;cases a
   |some z=>
    rw[n]at a;exact GC a.2.1
  .have a:=J d;unfold tY;rw[<-b9];generalize fy _ d=q at *
   generalize gg _ d=c7 at *
   cases n:iF A d with
   |none=>
    rw[n]at a;have a:q.2=false:=a;simp[a]
   |some z=>
    rw[n]at a;obtain⟨a8,l,-⟩:=a;have a9:=GE l;have b0:q.1<0↔kU z=true:=by
     rw[<-a9.1];have:=GC l;omega
    simp only[a8,b0,and_true,Option.map_some]
  .have a:=J d;generalize fy _ d=q at *
   cases n:iF A d with
   |none=>
    rw[n]at a;have a:q.2=false:=a;rw[b2]at a;cases a
   |some z=>
    rw[n]at a;obtain⟨-,l,h,a2,rfl⟩:=a;split
    .rename_i a5;have:kU h.2.H=true:=(GE l).1.1 (by have:=GC l;omega);funext m;cases d0:h.2.H<;>simp_all[kU,ea]
    .rename_i a5;exact K h.2.H (j.2 h a2) (λc1=>a5 (by rw[c1]at l;have:q.1 = -1:=l;omega)) (λp r=>R p (List.mem_flatMap.2 ⟨h,a2,r⟩)) _ l
def Nm(k:yO b c g)(q:Tb b o f Kn):∀(e dp:Nat),e+dp=64->∀(d:Zb) (a:bt) (h:Int),0<=h->Kn d->b[h.toNat]?=some a->a.w=14->a.a5=d->g dp h (fu c f e dp d):=by
 intro e;induction e with
 |zero=>
  intro dp w d a h m p j i n;exact k.hD m j i Zm λy=>by omega
 |succ e x=>
  intro dp w d a h m p j i n;obtain⟨l,s,u,t,v⟩:=q.hD d 0 h a p j i n;have:=k.hD (dp:=dp) (D:=λr=>match f d with|some l=>iH c f (fu c f e (dp+1)) l r|none=>.error ⟨0,0⟩) m j i Zm λ_=>by
   rw[s];exact Gq k q (x (dp+1) Zm) l v t a.of u
  exact this
end
section
variable {z : Nat -> Prop} {P y : Nat} {t : Zb} {q : ai} {x : Zw} {u : PV} {K : Nat} {v : List cF} {w : Zv} {d m h : Nat} {f : fG} {o : Nl} {Kn : Zb -> Prop}
def vok(b:Cx z P y t q x u v w m h f o Kn)(c5:d<=64):yO q.h (ft (v.map gN) d m h) (wV x K u q w d m h) where
 num:=by
  intro r M N p j i G B _ b5;exact aho b j i G B λe a2=>b5 e.n (b.kf e a2)
 i2:=by
  intro r M N p l j i G a2 b7 a1;exact ahp b j i G a2 b7 a1.2
 arr:=by
  intro r M C p l k j i a1 g;refine Du b j i (by cases l<;>simp[dd]) (D':=λa=>vW (dd (if l then 9 else 10) p C) (v.getD a.O bC) h a.O a.i λ_=>k) (λa=>?_) λa a4 s A n E H I F=>?_
  .show aA ((ft (v.map gN) d m h).bH p l ⟨a.O,a.i⟩) _=_;rw[KW];unfold qI vW;congr 1;have D:tc (dd (if l then 9 else 10) p C) (v.getD a.O bC)↔((v.getD a.O bC).w=3/\gY p l (v.getD a.O bC).am=true):=by
    cases l<;>simp[tc,dd,gY]
   simp only[D];rw[show ip (λ_=>k) 0 (v.getD a.O bC).am.toNat=hJ _ _ from funext λa=>BT _ _ _ a];cases l<;>rfl
  .refine PZ b.hN H I b.hf b.hz a1 (by simp[dd]) E A n F (by cases l<;>simp[dd]) λ_ c3 L J _ O R B=>?_;have b2:xF (dd (if l then 9 else 10) p C) c3=C:=by cases l<;>simp[xF,dd]
   rw[b2];exact g L J O R B
 opt:=by
  intro r M C k j i g;refine Du b j i (by simp[dd]) (D':=λa=>rN (tl (v.getD a.O bC)) (v.getD a.O bC).am (v.getD a.O bC) h a.O a.i k) (λa=>?_) λa a4 s A n E H I F=>?_
  .show aA ((ft (v.map gN) d m h).cg (dy 4) jP ⟨a.O,a.i⟩) _=_;rw[KV];unfold qI rN;congr 1;have D:((v.getD a.O bC).w=4/\nF jP (gN (v.getD a.O bC))=true)↔tl (v.getD a.O bC):=by
    generalize v.getD a.O bC=e;unfold nF jP tl;simp only;by_cases a9:e.n=0
    .simp[a9];omega
    .by_cases b0:e.n=1
     .simp[b0];omega
     .simp[a9,b0];omega
   simp only[D];split
   .rename_i c;rw[c.2.2.2]
   .rfl
  .exact ahx b.hN H I b.hf b.hz E A n F rfl g
 str:=by
  intro r M a0 k j i a8 g;refine Du b j i Zq (D':=λa=>vW ⟨12,0,0,[],a0,0,[],0⟩ (v.getD a.O bC) h a.O a.i k) (λa=>?_) λa a4 s A n E H I F=>?_
  .show aA ((ft (v.map gN) d m h).bH a0.length true ⟨a.O,a.i⟩) _=_;rw[KW];unfold qI vW;congr 1;have D:tc ⟨12,0,0,[],a0,0,[],0⟩ (v.getD a.O bC)↔((v.getD a.O bC).w=3/\gY a0.length true (v.getD a.O bC).am=true):=by
    rw[JQ];simp[tc]
   simp only[D];split
   .rename_i c;have c0:=(JQ ..).1 c.2;rw[c0,Int.toNat_natCast];rfl
   .rfl
  .refine PZ b.hN H I b.hf b.hz Zq (by simp only;omega) E A n F Zq λc C L J c7 O R B=>?_;have b6:C<a0.length:=by
    have:=c.2.2.2 rfl;simp only at this;omega
   exact g C b6 L J O R B
 j0:=by
  intro r M N a3 p b1 k j i G b8 a7 b9 _ _ S c1 g;refine Du b j i Zm (D':=λa=>rN (oR (gg (q.h.getD a3 bz) (v.getD a.O bC).n) (fy N (v.getD a.O bC).n) (v.getD a.O bC)) (v.getD a.O bC).n (v.getD a.O bC) h a.O a.i (k (v.getD a.O bC).n)) (λa=>?_) λa a4 s A n E H I F=>?_
  .show aA ((ft (v.map gN) d m h).cg p b1 ⟨a.O,a.i⟩) _=_;rw[KV];unfold qI rN;congr 1;generalize v.getD a.O bC=e at *
   have S:=S e.n;have g:=g e.n;have D:(e.w=4/\nF b1 (gN e)=true)↔oR (gg (q.h.getD a3 bz) e.n) (fy N e.n) e:=by
    unfold nF oR;simp only;rw[c1 e.n];generalize gg _ e.n=b3 at *
    generalize fy N e.n=a5 at *
    cases b3
    .simp
    cases n:a5.2
    .simp
    have:=S n;by_cases b4:a5.1<0<;>simp[b4]<;>omega
   simp only[D];split
   .rename_i c;congr 1;funext L;split
    .rfl
    .have:=g c.2.1 c.2.2.1;rw[Y9 (by have:=c.2.2.2;omega)]at this;rw[this]
   .rfl
  .have c9:=b.tb.b9 _ (Yh i);refine ahy b.hV b.hN H I b.hf b.hz b9 Zm b8 a7 (by have:=b.tb.b9 (q.h.getD a3 bz) (by simp[a7]);omega) E A n F G λc c8 L J O R B=>?_;have g:=g _ c.2.1 c.2.2.1;have S:=S _ c.2.2.1;rw[Y2 (by have:=c.2.2.2;omega)]at g;exact g L J O R B
 hD:=by
  intro r M N k j i G c6 g a s A n B;obtain⟨p,rfl⟩:=Int.eq_ofNat_of_zero_le j;obtain⟨a8,a6⟩:=sW i;have:=ahc b.hV a8 (by rw[a6];exact G) b.hf a.O r Zm B (D:=k a) (λc4 J c2=>by rw[a6];exact g Zm a J A n c2);show Calls _ _ _ _ (lq _ _ _ _ (aA (if d<=r then .error ⟨13,a.O⟩else .ok a) k))
  by_cases c:d<=r
  .rw[Y9 c]at this ⊢;exact this
  .rw[Y2 c]at this ⊢;exact this
end
section
variable {l : Nat -> Prop} {k h : Nat} {n : Zb} {a : ai} {b o e : Zw} {f : PV} {K : Nat} {v : List cF} {g : Zv} {d i j : Nat} {c : fG} {m : Nl} {Kn : Zb -> Prop}
abbrev kW(a b c:Int):Prop:=0<=a/\a<=64/\0<=b/\b<=10000/\0<=c/\c<=100000
abbrev nQ(a b c:Int):Zv:=.agg #[Y a,Y b,Y c]
def Mr(a c d:Int)(b:Zw):Calls prog 62 #[nQ a c d] b λe f=>e=.returned (.bool (decide (kW a c d)))/\ap [] b f:=by
 go_in;go_wp2;all_goals
  go_ret;refine⟨pJ ?_,(ar [] b).A _⟩;rw[Bool.eq_iff_iff];simp[kW];try omega
def eD(a:ai)(b:Zb):Int:=if bY a b<0\/(a.G.getD (bY a b).toNat iT).a1≠1 then -1 else (a.G.getD (bY a b).toNat iT).n
def Py(i:bw l k n h a f b)(A:h<=1000000000)(d:Zb):Calls prog 61 #[gt f a,Zs d] b λg D=>g=.returned (Y (eD a d))/\ap [] b D:=by
 obtain⟨G,I,p⟩:=aW i.G;have e:=U (λC=>sT (i.az ((ar [] b).A C)) A d);unfold gt;rw[p]at e ⊢;have s:=U i;clear i;by_cases t:bY a d<0
 .have c:af (eD a d = -1):=Y9 (Y8 t);go_in;go_wp21;refine(e.i _).mono ?_;rintro g x ⟨rfl,rfl⟩;go_wp2;go_ret;exact⟨by rw[c.i];rfl,(ar [] b).A _⟩
 .have o:=vP (by omega:0<=bY a d);obtain⟨J,H,m,E,y,z,F,M,N,-⟩:=uC s.i o;rw[p]at m;simp only[Value.slice.injEq,true_and]at m;obtain⟨rfl,rfl⟩:=m;have u:eD a d=if(a.G.getD (bY a d).toNat iT).a1≠1 then -1 else (a.G.getD (bY a d).toNat iT).n:=by
   unfold eD;omega
  have r:=U u;obtain⟨q,v⟩:=Int.eq_ofNat_of_zero_le (by omega:0<=bY a d);rw[v]at e r y z o;simp only[Int.toNat_natCast]at r y z o;generalize a.G.getD q iT=j at *
  have K:¬(q:Int)<0:=Zm;have L:(q:Int)<a.G.length:=Zm;clear v t p u E F s;by_cases w:j.a1=1
  .have B:(j.a1 != 1)=false:=Zg;have c:af (eD a d=j.n):=Zu;clear w;go_in;go_wp21;refine(e.i _).mono ?_;rintro g x ⟨rfl,rfl⟩;go_wp2;go_ret;exact⟨by rw[c.i];rfl,(ar [] b).A _⟩
  .have B:(j.a1 != 1)=true:=Zg;have c:af (eD a d = -1):=Zu;clear w;go_in;go_wp21;refine(e.i _).mono ?_;rintro g x ⟨rfl,rfl⟩;go_wp2;go_ret;exact⟨by rw[c.i];rfl,(ar [] b).A _⟩
def vL:Except Mar.ac (Zb)->Zv
 |.ok b=>.tuple #[.string ⟨b.toArray⟩,.int .i64 0,.int .i64 0]
 |.error a=>.tuple #[.string ⟨#[]⟩,.int .i64 a.no,.int .i64 a.y]
def tK(b:Except Mar.ac (Zb)):Prop:=∀a,b=.error a->(a.no:Int)≠0
def QT(o:Zw)(K:Nat)(d:Wp)(b:Zw)(f:Except Mar.ac (Zb))(e:Zw):Prop:=match f with
 |.ok a=>hQ o K d b ⟨a,0,0⟩ e
 |.error c=>∃a,hQ o K d b ⟨a,c.no,c.y⟩ e/\(c.no:Int)≠0
def UQ(x:Cx l k h n a b f v g i j c m Kn){a5 M r}(R:wV b (b.heap.size+2) f a g d i j M a5 r):Calls prog 63 #[gt f a,Y a5,g,nQ d i j,Y M] b λN z=>ap [] b z/\N=.returned (vL (aA (r ⟨0,[]⟩) λo=>if o.O<v.length then .error ⟨12,o.O⟩else .ok o.i))/\tK (aA (r ⟨0,[]⟩) λo=>if o.O<v.length then .error ⟨12,o.O⟩else .ok o.i):=by
 obtain⟨b8,c3,a4⟩:=aW x.hV.h;obtain⟨b6,c1,a2⟩:=aW x.hV.G;obtain⟨b7,c2,a3⟩:=aW x.hV.ao;obtain⟨c6,c7,a1⟩:=aW x.hN;have I:=U R;generalize p:(aA (r ⟨0,[]⟩) λo=>if o.O<v.length then Except.error ⟨12,o.O⟩else Except.ok o.i)=y
 have J:=U p;clear p;unfold gt nQ;rw[a4,a2,a3,a1];go_in;go_wp21;generalize H:World.alloc (World.alloc (World.alloc b _) _) _=e;have D:af (hQ b (b.heap.size+2) (ed f a g d i j) e ⟨[],0,0⟩ e):=by
  refine U (pm ⟨?_,Zm,?_⟩)
  .subst H;exact(((ar [] b).A _).A _).A _
  .subst H;simp only[ed,Dv,a4,a2,a3,a1];exact be Zq
 have a0:ap [] b e:=D.i.y.fr;have b5:=U a0;clear H a0;have L:=U (I.i ⟨0,[]⟩ e Zq Zq D.i.y);refine L.i.mono ?_;rintro N c8 ⟨t,rfl,P⟩;have A:=U P;generalize r ⟨0,[]⟩=b1 at *
 clear P L I R D;go_upto_if 27 with fail;go_cut [] (λwc=>af (QT b (b.heap.size+2) (ed f a g d i j) e y wc));case first=>
  have p:=J.i;cases b1 with
  |error u=>
   obtain⟨E,s,w⟩:=A.i;have p:Except.error u=y:=p;subst p;by_cases G:t<v.length
   .go_wp21;refine lg (U s) (qS 12 t) λb2 B _=>?_;go_wp2;go_meet;refine U ⟨E,?_,w⟩;have:=B.i;simp_all[rE]
   .go_wp2;go_meet;exact U ⟨E,s,w⟩
  |ok o=>
   obtain⟨F,s,-,-⟩:=A.i;have p:(if o.O<v.length then Except.error ⟨12,o.O⟩else Except.ok o.i)=y:=p
   subst p;by_cases G:o.O<v.length
   .have a9:t<v.length:=Zm;have a6:=U F;clear F;go_wp21;refine lg (U s) (qS 12 t) λb2 B _=>?_;go_wp2;go_meet;rw[Y9 G];refine U ⟨o.i,?_,Zq⟩;have:=B.i;unfold rE at this;rw[Y9 rfl,a6.i]at this;omega
   .have a9:¬t<v.length:=Zm;clear F;go_wp2;go_meet;rw[Y2 G];exact U s
 case rest=>
 rename Zw=>b3;clear A J;cases y with
 |ok a7=>
  have q:hQ b (b.heap.size+2) (ed f a g d i j) e ⟨a7,0,0⟩ b3:=hcut.i;obtain⟨-,-,-,-,-,-,-,-,c0,a8,-,-,b0⟩:=q.y.K;have C:=U q.y.fr;clear hcut q;go_wp2;go_ret3;exact⟨C.i,rfl,λ_ O=>by cases O⟩
 |error u=>
  obtain⟨E,q,w⟩:=hcut.i;obtain⟨-,-,-,-,-,-,-,-,-,a8,b9,-,b0⟩:=q.y.K;have c5:((u.no:Int) != 0)=true:=Zu;have C:=U q.y.fr;have b4:=U w;clear hcut q w;go_wp2;refine bJ (λz=>z.cell? ⟨b.heap.size+1+1,10,none⟩=some (Y u.no)/\z.cell? ⟨b.heap.size+1+1,11,none⟩=some (Y u.y)) ?_ λc4=>?_
  .go_keep
  refine bf [0,1,2,3,4,5,6,7,8,9] ?_;iterate 10 (refine bi ?_)
  refine bg ?_;refine bL λK S=>?_;go_simp;refine S.out _ _ ?_;clear S K;refine nz ?_;go_wp2;go_ret3;exact⟨C.i.ag,rfl,λ_ O=>by simp_all⟩
def Cx.ae(d:Cx l k h n a b f v g i j c m Kn)(o:ap [] b e):Cx l k h n a e f v g i j c m Kn:=⟨d.hV.az o,bQ d.hN o Zq,d.hf,d.hz,d.kf,d.tb⟩
def QQ(w:bw l k n h a f b)(a6:h<=1000000000)(O:b.ownsRow 0 52 5 g v.length (v.flatMap cy))(a5:∀c1∈v,-9223372036854775808<=c1.n/\c1.n<=9223372036854775807)(G:Tb a.h m c Kn)(p:Zb)(b4:0<=eD a p->∃r,c p=some r/\kl a.h m r (eD a p)/\(∀e3∈ju r,Kn e3.1)/\lV r)(i j o:Int):Calls prog 35 #[gt f a,Zs p,g,nQ i j o] b λt a0=>ap [] b a0/\t=.returned (if eD a p<0 then .tuple #[.string ⟨#[]⟩,Y 10,Y (-1)]else if ¬kW i j o then .tuple #[.string ⟨#[]⟩,Y 11,Y (-1)]else vL (jx c p (v.map gN) i.toNat j.toNat o.toNat))/\(0<=eD a p->kW i j o->tK (jx c p (v.map gN) i.toNat j.toNat o.toNat)):=by
 have D:=U (λ(e:Zw) (R:ap [] b e)=>Py (w.az R) a6 p);have a2:=U (λ(e:Zw)=>Mr i j o e);have z:af (0<=eD a p->kW i j o->i≠0->∀e,ap [] b e->Calls prog 63 #[gt f a,Y (eD a p),g,nQ i j o,Y 1] e λt a0=>ap [] e a0/\t=.returned (vL (jx c p (v.map gN) i.toNat j.toNat o.toNat))/\tK (jx c p (v.map gN) i.toNat j.toNat o.toNat)):=by
  intro u s q e R;obtain⟨r,d7,d9,d8,e0⟩:=b4 u;have a4:=(⟨w,O,Zm,Zm,a5,G⟩:Cx l k h n a b f v g j.toNat o.toNat c m Kn).ae R;have a3:=vok (K:=e.heap.size+2) (d:=i.toNat) a4 Zm;have c9:=Gq a3 G (dp:=1) (Nm a3 G 63 1 rfl) r e0 d8 _ d9;have:=UQ a4 c9;have A:(aA (iH (ft (v.map gN) i.toNat j.toNat o.toNat) c (fu (ft (v.map gN) i.toNat j.toNat o.toNat) c 63 1) r ⟨0,[]⟩) λA=>if A.O<v.length then Except.error ⟨12,A.O⟩else Except.ok A.i)=jx c p (v.map gN) i.toNat j.toNat o.toNat:=by
   unfold jx;show _=aA (aA (if i.toNat<=0 then .error ⟨13,0⟩else .ok (⟨0,[]⟩:cw)) (λd6=>match c p with|some r=>iH _ c _ r d6|none=>.error ⟨0,0⟩)) _
   rw[Y2 Zm,d7];simp only[YU];rfl
  rw[A,show ((i.toNat:Nat):Int)=i by omega,show ((j.toNat:Nat):Int)=j by omega,show ((o.toNat:Nat):Int)=o by omega]at this;exact this
 have a1:af (i=0->vL (jx c p (v.map gN) i.toNat j.toNat o.toNat)=.tuple #[.string ⟨#[]⟩,Y 13,Y 0]):=by
  intro q;subst q;rfl
 obtain⟨d2,d5,b2⟩:=aW w.h;obtain⟨d0,d3,a9⟩:=aW w.G;obtain⟨d1,d4,b0⟩:=aW w.ao;obtain⟨e7,e8,a8⟩:=aW O;unfold gt at D z ⊢;rw[b2,a9,b0]at D z ⊢;rw[a8]at z ⊢;have c2:af (i=0->tK (jx c p (v.map gN) i.toNat j.toNat o.toNat)):=by
  intro q;subst q;intro e5 E;cases E
  simp
 have c5:∃L M N,vL (jx c p (v.map gN) i.toNat j.toNat o.toNat)=.tuple #[.string L,Y M,Y N]:=by
  cases jx c p (v.map gN) i.toNat j.toNat o.toNat<;>exact⟨_,_,_,rfl⟩
 generalize vL (jx c p (v.map gN) i.toNat j.toNat o.toNat)=e9 at *
 generalize tK (jx c p (v.map gN) i.toNat j.toNat o.toNat)=f0 at *
 obtain⟨L,M,N,rfl⟩:=c5;generalize eD a p=b9 at *
 clear w a6 O a5 G b4 b2 a9 b0 a8;generalize b1:(if b9<0 then _ else _:Zv)=b8
 have H:=U b1;clear b1;go_in;go_wp21;generalize F:World.alloc (World.alloc b _) _=e;have I:af (e.heap[b.heap.size]?=some (mr (.slice d2 a.h.length d5) (.slice d0 a.G.length d3) (.slice d1 a.ao.length d4) (Zs a.i))):=by
  subst F;exact(((ar [] _).A _).ak _ Zq Zq).trans (be rfl)
 have x:af (e.heap[b.heap.size+1]?=some (.cells #[Y i,Y j,Y o] 73)):=by
  subst F;exact be Zq
 have J:af (ap [] b e):=by subst F;exact((ar [] b).A _).A _
 clear F;refine(D.i e J.i).mono ?_;rintro t e4 ⟨rfl,S⟩;have a7:=(S.ak _ (ay x.i) Zq).trans x.i;have b6:=aE a7;go_wp21;refine(a2.i e4).mono ?_;rintro t c0 ⟨rfl,b5⟩;have C:=U (S.u b5);have P:=(C.i.ak _ (ay x.i) Zq).trans x.i;have b3:=(C.i.ak _ (ay I.i) Zq).trans I.i;clear b6 a7 S b5 D a2;have b6:c0.cell? ⟨b.heap.size+1,0,none⟩=some (Y i):=aC P rfl;have e6:=aE P;have f1:=aE b3;have y:=U (J.i.u C.i);clear P b3 I x J C;by_cases u:b9<0
 .go_wp2;go_ret3;exact⟨y.i,by rw[<-H.i,Y9 u];rfl,λE=>absurd u Zm⟩
 by_cases s:kW i j o
 .have B:af (b8=.tuple #[.string L,Y M,Y N]):=by show _=_;rw[<-H.i,Y2 u,Y2 (not_not_intro s)]
  rw[decide_eq_true s];by_cases q:i=0
  .have e1:(i==0)=true:=by simp[q]
   have c3:=U (a1.i q);have c4:=U (c2.i q);clear q;go_wp2;go_ret3;exact⟨y.i,by rw[B.i,c3.i];rfl,λ_ _=>c4.i⟩
  .have e1:(i==0)=false:=by simp[q]
   have c8:=U (z.i Zm s q c0 y.i);clear z a1 q s;go_wp21;refine c8.i.mono ?_;rintro t f2 ⟨e2,rfl,b7⟩;have c7:=U b7;clear b7;have c6:=U (y.i.u e2);go_wp2;go_ret3;exact⟨c6.i,by rw[B.i];rfl,λ_ _=>c7.i⟩
 .rw[decide_eq_false s];have B:af (b8=.tuple #[.string ⟨#[]⟩,Y 11,Y (-1)]):=by show _=_;rw[<-H.i,Y2 u,Y9 s]
  go_wp2;go_ret3;exact⟨y.i,by rw[B.i];rfl,λ_ E=>absurd E s⟩
end
section
variable {a : ai}
theorem Lt{b:Nat}{c}(d:a.h[b]?=some c):(dG a).h[b]?=some (hg a c):=by
 show (a.h.map (hg a))[b]?=_;simp_all
def sX{c:Nat}{b}(d:a.h[c]?=some b)(e:b.w≠14):(dG a).h[c]?=some b:=by
 simp_all[Lt,hg]
theorem dA.cv:∀{g:Ty} {d:Int},dA a.h g d->dA (dG a).h g d:=by
 intro g;induction g with
 |plain e=>intro d b;exact b
 |named p l=>rintro d ⟨c,o,b,e,m,n⟩;exact⟨c,_,Lt b,by simp_all[hg]⟩
 |opaq j f=>rintro d ⟨c,b⟩;exact⟨c,sX b (by cases f<;>simp[fV])⟩
 |str j f=>rintro d ⟨c,b⟩;exact⟨c,sX b (by simp[fV])⟩
 |arr k j f h=>rintro d ⟨c,i,b,e⟩;exact⟨c,i,sX b (by cases f<;>simp[dd]),h e⟩
 |opt k h=>rintro d ⟨c,i,b,e⟩;exact⟨c,i,sX b (by simp[dd]),h e⟩
 |void=>intro d b;exact b
theorem lY.cv{c d of}(b:lY a.h c d of):lY (dG a).h c d of:=by
 rcases b with b|⟨l,e,m,f,k,g,h,i,j⟩
 .exact Y8 b
 .exact Ya ⟨l,e,m,f,k,g,h,i,sX j Zq⟩
theorem kl.cv{p e o}(d:kl a.h p e o):kl (dG a).h p e o:=by
 cases e with
 |const b c f=>exact d
 |prog b c f e=>exact d
 |typedef e=>exact⟨d.1.cv,d.2⟩
 |enum b c f=>exact⟨d.1,sX d.2 Zq⟩
 |struct b c f=>
  obtain⟨g,n,h,i,j⟩:=d;exact⟨g,n,sX h Zq,i,λk m l b c=>(j k m l b c).cv⟩
 |union b c f t=>
  obtain⟨g,of,n,q,h,i,j,r,u,s⟩:=d;refine⟨g,of,n,q,sX h Zq,i.cv,j,λk m l b c=>(r k m l b c).cv,?_,s⟩;grind [dA.cv]
end
section
variable {c : Zb} {a : List aD} {d : cq} {b : St} {σ : ai}
def Wh.h1(g:Wh c a d b σ){i e j}(f:vv c b d σ i e j):e∈a:=by
 obtain⟨k,h,-⟩:=f.y;have:e∈d.nl.filterMap lP:=List.mem_filterMap.2 ⟨_,Yh h,by simp[lP,f.H]⟩;rw[g.nl]at this;simp_all
def Wh.he(i:Wh c a d b σ)(j:nD a){g f k}(e:vv c b d σ g f k):dL a g=some f:=by
 obtain⟨l,m,h⟩:=List.append_of_mem (i.h1 e);rw[<-e.gD];exact j.he h e.H
def NK(a:bt):(hg σ a).w=a.w/\(hg σ a).a5=a.a5/\(hg σ a).aI=a.aI/\(hg σ a).aB=a.aB:=by
 unfold hg;grind
def Wh.tb(e:Wh c a d b σ)(E:my b a)(y:nD a)(z:∀k∈a,ei k=true->lV k):Tb (dG σ).h d.nl (dL a) λl=>fv b l=true:=by
 have B:b.G=d.nl:=by rw[e.q.nl,e.pd];simp
 have key:∀l,fv b l=true->∃o,dL a l=some o/\kl (dG σ).h d.nl o (gq σ l).n/\(∀v∈ju o,fv b v.1=true)/\lV o:=λl p=>by
  obtain⟨k,s,f⟩:=e.f2 p;have A:=e.h1 f;refine⟨k,e.he y f,by rw[f.a5];exact f.g0.cv,λv F=>E v (List.mem_flatMap.2 ⟨k,A,F⟩),z k A f.H⟩
 have D:∀(g c:Zb) (h:Nat) j,aP d.nl g=some (some (.enum c h j))->dL a g=some (.enum c h j)/\lV (.enum c h j):=λg c h j i=>by
  have p:fv b g=true:=by unfold fv;rw[B,i];rfl
  obtain⟨k,s,f⟩:=e.f2 p;have m:=f.kj;rw[B,i]at m;cases m
  exact⟨e.he y f,z _ (e.h1 f) f.H⟩
 refine⟨λG m=>?_,λs u=>?_,λg H C s J u m p=>?_,λg c h j i=>(D g c h j i).1,λg c h j i=>(D g c h j i).2⟩
 .obtain⟨K,i⟩:=e.q.cV;refine sX ?_ Zg;rw[i];match G,m with
  |0,_=>rfl
  |1,_=>rfl
  |2,_=>rfl
  |3,_=>rfl
  |4,_=>rfl
 .obtain⟨n,t,rfl⟩:=YE.1 u;obtain⟨-,-,w,x⟩:=NK (σ:=σ) n;rw[w,x];exact e.rn.b9 n t
 .have r:(σ.h.map (hg σ))[C.toNat]?=some s:=u;rw[List.getElem?_map]at r;cases t:σ.h[C.toNat]? with
  |none=>simp_all
  |some n=>
   rw[t]at r;simp only[Option.map_some,Yu]at r;subst r;obtain⟨w,x,-,-⟩:=NK (σ:=σ) n;have I:n.w=14:=Zm;simp_all[hg]
def Px(a:Zb):eD (dG σ) a=if bY σ a<0\/(gq σ a).a1≠1 then -1 else (gq σ a).n:=rfl
def Wh.k9(g:Wh c a d b σ)(o:my b a)(m:nD a)(n:∀e∈a,ei e=true->lV e){f}(l:0<=eD (dG σ) f):∃i,dL a f=some i/\kl (dG σ).h d.nl i (eD (dG σ) f)/\(∀j∈ju i,fv b j.1=true)/\lV i:=by
 rw[Px]at l ⊢;by_cases p:bY σ f<0\/(gq σ f).a1≠1
 .omega
 rw[Y2 p];rcases Dm g.q g.pd f with⟨r,-⟩|⟨-,t⟩
 .obtain⟨e,u,h⟩:=g.f2 r;have k:=g.h1 h;exact⟨e,g.he m h,by rw[h.a5];exact h.g0.cv,λj s=>o j (List.mem_flatMap.2 ⟨e,k,s⟩),n e k h.H⟩
 omega
def Wh.kq(e:Wh c a d b σ)(l:nD a)(f:Zb):eD (dG σ) f<0↔bT (fi a).2 f=none:=by
 obtain⟨w,-,o⟩:=HH l;have o:=o f;have p:bT (fi a).2 f=none↔dL a f=none:=by
  grind
 have t:b.G=d.nl:=by rw[e.q.nl,e.pd];simp
 rw[p,Px];rcases Dm e.q e.pd f with⟨g,-,-,-,-,-,-,-,-,-,i⟩|⟨g,i⟩
 .obtain⟨h,B,k⟩:=e.f2 g;rw[Y2 i,e.he l k,k.a5];have:=k.aa.1;simp_all
 .rw[Y9 i];refine⟨λ_=>?_,λ_=>by decide⟩;cases q:dL a f with
  |none=>rfl
  |some h=>
   obtain⟨u,v,x,y,z⟩:=EY q;have s:h∈d.nl.filterMap lP:=by
    rw[e.nl];simp_all
   obtain⟨j,m,A⟩:=List.mem_filterMap.1 s;have n:j.2=some h:=by
    grind [lP]
   have r:j.1=f:=(e.gD j m h n u).symm.trans v;have:=BS e.q.nm.nd m r;unfold fv at g;rw[t,this,n]at g;have g:ei h=false:=g;simp_all
end
section
variable {b : Zb} {a : List aD} {d : cq} {c : St} {e : ai}
theorem Pw{b:Zb×Option aD}{a}(c:lP b=some a):b.2=some a/\ei a=true:=by
 grind [lP]
def Pt:∀(c:Nl),(∀d∈c,∀a,d.2=some a->ei a=true->(ce a).1=d.1)->(c.map (·.1)).Nodup->((c.filterMap lP).map λa=>(ce a).1).Nodup
 |[],_,_=>by simp
 |d::k,i,b=>by
  rw[List.map_cons,List.nodup_cons]at b;have j:=Pt k (λf e=>i f (Y5 _ e)) b.2;rw[List.filterMap_cons];split
  .omega
  .rename_i a m;rw[List.map_cons,List.nodup_cons];refine⟨λh=>b.1 ?_,j⟩;obtain⟨l,g,o⟩:=YE.1 h;obtain⟨f,e,n⟩:=List.mem_filterMap.1 g;grind [Pw]
theorem Wh.nd(i:Wh b a d c e):∀j f g,a=j++f::g->ei f=true->∀h∈g,ei h=true->(ce h).1≠(ce f).1:=by
 intro j f g k l h m n o;have:=Pt d.nl i.gD i.q.nm.nd;rw[i.nl,k,List.filter_append,List.filter_cons_of_pos l,List.map_append,List.map_cons]at this;grind
def Wh.l8(h:Wh b a d c e){f:Zb}(k:fv c f=true):(dL a f).isSome:=by
 obtain⟨i,l,g⟩:=h.f2 k;cases j:dL a f with
 |some _=>rfl
 |none=>exact absurd g.gD (Lc j i (h.h1 g) g.H)
def vt(a:List aD):Prop:=∀c b f e i l d g,a=c++aD.union b f e i::l->e.H=.named d g->∃j h m k,c=j++aD.enum d h m::k
def Wh.la(h:Wh b a d c e)(t:my c a)(r:yx a)(u:vt a):nD a where
 nd:=h.nd
 h2:=λj n x w f m k=>h.l8 (t m (List.mem_flatMap.2 ⟨j,n,by
  cases j with
  |typedef j=>simp only[sP,Yc]at f;subst f;exact k
  |struct g i v=>obtain⟨p,o,rfl⟩:=YE.1 f;exact List.mem_flatMap.2 ⟨p,o,k⟩
  |union g i s q=>obtain⟨p,o,rfl⟩:=YE.1 f;exact List.mem_flatMap.2 ⟨p,o,k⟩
  |const g i l=>cases f
  |enum g i l=>cases f
  |prog g i l j=>cases f⟩))
 ho:=u;k6:=λb g s q k=>(r _ k).1;e6:=λj n w f=>by
  have h:=r j n;cases j with
  |typedef j=>simp only[sP,Yc]at f;subst f;exact lU.e6 h
  |struct g i v=>obtain⟨m,k,rfl⟩:=YE.1 f;exact lU.e6 (h m k)
  |union g i s q=>
   obtain⟨m,k,rfl⟩:=YE.1 f;rcases h.2 m k with h|h
   .exact lU.e6 h
   .rw[h];trivial
  |const g i l=>cases f
  |enum g i l=>cases f
  |prog g i l j=>cases f
end
section
variable {a : Za}
def yQ(i:PM aD):Prop:=∀d a m,i d=.ok (a,m)->∀k e c g b f,a=.union k e c g->c.H=.named b f->∃l h j,aP d.G b=some (some (.enum l h j))
def Au{h:Type}{d}{e:h->PM aD}(m:eg d)(l:∀b,yQ (e b)):yQ (aN d e):=by
 intro s u z a q b p j g i k n;cases c:d s with
 |error v=>rw[dv c]at a;cases a
 |ok o=>
  obtain⟨r,A⟩:=o;rw[bK c]at a;obtain⟨y,t,x,f⟩:=l r _ _ _ a q b p j g i k n;rcases(m _ _ _ c).kn.2 g _ f with f|⟨_,_,_,w⟩;all_goals simp_all
theorem aia{f}(g:eQ (λc=>∀e a d b,c≠.union e a d b) f):yQ f:=λj c k i e a d b _ _ h _=>absurd h (g j c k i e a d b)
def aem{k s:St}{m:Ty×(Int->Bool)}(c:qK a k=.ok (m,s)){b d}(p:m.1=.named b d):∃h e g,aP k.G b=some (some (.enum h e g)):=by
 unfold qK at c;cases i:next a k with
 |error t=>rw[dv i]at c;cases c
 |ok q=>
  obtain⟨j,n⟩:=q;rw[bK i]at c;have f:∃h e g,aP n.G b=some (some (.enum h e g)):=by
   by_cases l:((j.w:Int)==1)=true
   .rw[Hd l]at c;cases v:nJ j n<;>grind [nJ,dv,bK,ret]
   .have o:eQ (λr:Ty×(Int->Bool)=>∀b d,r.1≠.named b d) (lM a j):=by
     unfold lM;rw[Y2 l];refine dU (dV Zq) (dU (ba λ_=>dV Zq) (dU (dV Zq) (lh _ _)))
    exact absurd p (o _ _ _ c b d)
  obtain⟨h,e,g,f⟩:=f;rcases(rG a _ _ _ i).kn.2 b _ f with f|⟨_,_,_,u⟩;all_goals simp_all
theorem aib(i:Nat):yQ (iX a i):=by
 unfold iX;refine Au (zz i) λ_=>Au (ux a) λn=>?_;unfold qP;refine Au (fe _ _) λ_=>Au (fe _ _) λ_=>?_;intro p h u b g d c e t q k l;cases f:qK a p with
 |error r=>rw[dv f]at b;cases b
 |ok o=>
  obtain⟨j,v⟩:=o;rw[bK f]at b;have m:eQ (λh=>∀g d c e,h=.union g d c e->c.H=j.1) (qQ a n j):=by
   unfold qQ;refine ba λs=>?_;unfold sb;grind [ba,tA,pP,dV]
  exact aem f ((m _ _ _ b g d c e k).symm.trans l)
theorem ah7(m:Zb×Nat):∀(c:Nat) (e:List (Zb×Nat×Int)) (d:List (Int×Int)),eQ (λb=>∀i f h g,b≠.union i f h g) (kC a m c e d):=by
 intro c;induction c with
 |zero=>intro e d;exact lh _ _
 |succ c l=>
  intro e d o b t j;cases k:kY a e.length d o with
  |error p=>simp_all[wa]
  |ok n=>
   obtain⟨r,q,u⟩:=n;rw[wb k]at j;refine ba (Q:=λb=>∀i f h g,b≠.union i f h g) (λs=>dU (l _ _) ?_) _ _ _ j;grind [qn,ba,dV]
theorem KL{b:Mar.aU}(h:b.text≠Jh):eQ (λe=>∀g c f d,e≠.union g c f d) (fO a b):=by
 unfold fO;refine dU ?_ (dU ?_ (dU ?_ (dU ?_ ?_)))
 .grind [lz,ba,dV]
 .grind [lR,ba,dV]
 .grind [kS,ba,ah7]
 .grind [mu,ba,dV]
 .rw[Y2 Zu];refine dU ?_ (lh _ _);grind [lK,ba,tm,dV]
theorem KM{b:Mar.aU}(c:b.text=Jh):fO a b=iX a b.y:=by
 unfold fO;grind
def ah9:yQ (fP a):=by
 unfold fP;refine Au (rG a) λb=>?_;by_cases c:b.text=Jh;all_goals grind [KM,aib,aia,KL]
def yD(e:St):Prop:=∀b a,aP e.G b=some (some a)->(∀d c v,a≠.const d c v)->(ce a).1=b
def yD.kn{d e:St}(f:yD d)(i:Kn d.G e.G):yD e:=λc a h g=>by
 rcases i.2 c a h with b|⟨k,j,v,b⟩
 .exact f c a b g
 simp_all
theorem vt.cG{j g}{h:aD}(u:vt g)(w:pl j g)(x:yD j)(v:∀e c b d a f,h=.union e c b d->b.H=.named a f->∃i l p,aP j.G a=some (some (.enum i l p))):vt (g++[h]):=by
 intro k e c b d q a f r o;rcases List.eq_nil_or_concat q with rfl|⟨m,z,rfl⟩
 .obtain⟨t,C⟩:=List.append_inj' r rfl;subst t;obtain⟨i,l,p,n⟩:=v e c b d a f Zu o;have F:i=a:=x a _ n Zq;rcases w.nm a _ n with y|⟨_,_,_,E⟩
  .obtain⟨A,B,D⟩:=List.append_of_mem y;grind
  simp_all
 .have s:g++[h]=(k++aD.union e c b d::m)++[z]:=Zu;exact u k e c b d m a f (List.append_inj' s rfl).1 o
def ags:∀(i:Nat) (f:List aD) (e:St) (j:List aD) (r:St),pl e f->yD e->vt f->eC a i f e=.ok (j,r)->vt j:=by
 intro i;induction i with
 |zero=>simp_all[eC,hZ]
 |succ i z=>
  intro f e j r v w y c;cases h:ht a e with
  |error t=>simp_all[Pl]
  |ok k=>
   obtain⟨q,A⟩:=k;have o:=zB a _ _ _ h;by_cases g:((q.w:Int)==0)=true
   .rw[Pk h g]at c;simp_all
   .have g:((q.w:Int)==0)=false:=Zu;cases d:fP a A with
    |error t=>rw[Pj h g d]at c;cases c
    |ok k=>
     obtain⟨C,B⟩:=k;rw[Pm h g d]at c;have l:=v.le o;have m:=w.kn o.kn;refine z _ _ _ _ (l.cG d) ?_ (y.cG l m (ah9 _ _ _ d)) c;have x:=m.kn (Hu a _ _ _ d).2;intro p s b u;dsimp only at b;rw[BR]at b;cases n:aP B.G p with
     |none=>simp_all
     |some D=>
      rw[n]at b;simp only[Option.map_some,Yu]at b;split at b
      .simp_all
      .subst b;exact x p s n u
def Po{c}(b:eW a=.ok c):vt c:=by
 unfold eW at b;split at b
 .cases b
 split at b
 .cases b
 .rename_i e p f;have d:e=c:=by
   grind
  subst d;exact ags 69 [] fW _ _ Pv (by intro g m b;simp[fW,aP]at b) (by intro k o h n j l g i d;simp at d) f
end
section
variable {a : Za}
def tU(a:Ty):Prop:=a≠.void/\ko a
def hB.z{a}(b:hB a):tU a:=by cases a<;>simp[hB,tU,ko]at *<;>exact b
def Qn(b:Int->Bool):eQ (λd:Int×Nat=>b d.1=true) (jZ a b):=by
 unfold jZ;refine ba λf=>ba λc=>?_;by_cases e:b c=true;all_goals simp_all[dV,lh]
def Qj:eQ (λb:Int×Bool=>b.2=false/\0<=b.1/\b.1<=4294967295) (rH a):=by
 unfold rH;refine ba λ_=>ba λd=>dU (dV ⟨rfl,Ze,Ze⟩) (nf (Qn _) λb c=>ba λ_=>dV ⟨rfl,?_⟩);simpa[dT]using c
def Qi:eQ (λb:Int×Bool=>0<=b.1/\b.1<=4294967295) (qg a):=by
 unfold qg;refine ba λh=>dU (nf (Qn _) λb g=>ba λ_=>dV ?_) (λe c f d=>(Qj e c f d).2);grind [dT]
def Ib{τ:Type}(i:fj τ):hE (λd=>tU d.H) (il a i):=by
 unfold il;refine eX λf=>?_;unfold ru;refine mx (eX λc=>nh (sj Qi) λh b=>ka ⟨Zq,b⟩) (eX λf=>?_);unfold rx;refine mx (eX λc=>nh (sj Qj) λh b=>ka ⟨Zq,b⟩) (nh (sj (Ic a)) λj e=>?_);unfold vG;refine eX λf=>?_;unfold uj;refine mx (eX λc=>ka ⟨Zq,e.z⟩) (eX λc=>?_);unfold uk;refine eX λf=>?_;unfold vH;have g:hE (τ:=τ) (λd=>tU d.H) (pz a c j):=by
  unfold pz;exact nh (sj Qi) λh b=>ka ⟨Zq,b,e.z⟩
 refine mx g (eX λk=>?_);unfold vI;exact mx g (ka e.z)
def Qg{k:Type}(c:fj k):hE (λb=>ko b.H) (lw a c):=by
 unfold lw;refine nh (R:=λb=>ko b.H) (eX λl=>?_) λb f=>eX λ_=>ka f;unfold sG;refine mx (ka trivial) ?_;intro g i d h j e;exact(Ib c g i d h j e).2
def tE(b:iy):Prop:=∀a∈b,ko a.2.H
def tE.d8{c}(f:tE c){e:List Int}{b:aV}(g:ko b.H):tE (c++[(e,b)]):=by
 intro d a;rcases Yn.1 a with a|a
 .exact f d a
 simp_all
def ahQ{c}(b:tE c):hE tE (pu a c):=by
 unfold pu;exact eX λf=>mx (eX λ_=>nh (Dz (Qg _)) λe d=>ka (b.d8 d)) (ka b)
def ahS(f:Int->Bool):∀(b:Nat) {rs:iy},tE rs->hE tE (jO a f b rs):=by
 intro b;induction b with
 |zero=>intro rs _;exact sj (lh _ _)
 |succ b e=>
  intro rs c;unfold jO;exact eX λg=>nh (Dz (Qg _)) λh d=>eX λi=>mx (e (c.d8 d)) (ahQ (c.d8 d))
def yw:aD->Prop
 |.typedef c=>tU c.H
 |.enum _ _ a=>a≠[]
 |.struct _ _ a=>∀d∈a,tU d.H
 |.union _ _ _ b=>tE b
 |_=>True
theorem ahY(h:Zb×Nat):∀(b:Nat) (d:List (Zb×Nat×Int)) (c:List (Int×Int)),eQ yw (kC a h b d c):=by
 intro b;induction b with
 |zero=>intro d c;exact lh _ _
 |succ b g=>
  intro d c j k p e;cases f:kY a d.length c j with
  |error l=>simp_all[wa]
  |ok i=>
   obtain⟨n,m,q⟩:=i;rw[wb f]at e;refine ba (Q:=yw) (λo=>dU (g _ _) ?_) _ _ _ e;unfold qn;exact ba λ_=>ba λ_=>dV (by simp[yw])
def ahW:eQ yw (fP a):=by
 unfold fP;refine ba λv=>?_;unfold fO;refine dU ?_ (dU ?_ (dU ?_ (dU ?_ (dU ?_ (dU ?_ (lh _ _))))))
 .unfold lz;exact ba λ_=>ba λf=>ba λ_=>ba λ_=>ba λ_=>dV trivial
 .unfold lR;exact ba λ_=>nf (Qh (Ib _)) λj d=>ba λ_=>dV d
 .grind [kS,ba,ahY]
 .unfold mu;refine ba λ_=>ba λf=>nf (Qk (I:=λe:List aV×Zc=>∀c∈e.1,tU c.H) (LN _ _ ?_) Zq) λe k=>ba λ_=>dV k;rintro⟨o,m⟩ n i t w r h;cases d:il a (cQ 0 0) m n with
  |error p=>simp_all[Da]
  |ok g=>
   obtain⟨j,u,x⟩:=g;rw[Db d]at h;refine BG (I:=λe:List aV×Zc=>∀c∈e.1,tU c.H) (zr _) (λ_=>FB ()) _ _ _ _ _ ?_ h;intro c b;rcases Yn.1 b with b|b
   .simp_all
   .simp only[Yc]at b;subst b;exact Ib _ _ _ _ _ _ d
 .unfold iX;refine ba λ_=>ba λf=>?_;unfold qP;refine ba λ_=>ba λ_=>ba λg=>?_;unfold qQ;refine ba λc=>?_;unfold sb;refine ba λ_=>ba λ_=>nf (Ql (ahS g.2 13 (rs:=[]) (by intro i q;grind)) _) λs l=>?_;unfold tA pP;exact ba λ_=>ba λ_=>dV l
 .unfold lK;refine ba λ_=>ba λf=>?_;unfold tm;exact ba λ_=>ba λ_=>dV trivial
end
section
variable {a b τ:Type}
section
variable {text : Za}
def Hx(e:τ->Prop)(f:a->τ->Prop)(g:PX τ a):Prop:=∀c h b d i,e c->g c h=.ok (b,d,i)->f b d
def qq{h:Type}{f R S e}{g:a->PX τ h}(j:Hx f R e)(i:∀b,Hx (R b) S (g b)):Hx f S (aQ e g):=by
 intro m n o q s k c;cases d:e m n with
 |error p=>rw[fc d]at c;cases c
 |ok l=>obtain⟨b,r,t⟩:=l;rw[dZ d]at c;exact i b _ _ _ _ _ (j _ _ _ _ _ k d) c
def xt{b}(c:PM a):Hx b (λ_=>b) (lift (τ:=τ) c):=λg i d h j f e=>zr c g i d h j f e
theorem BD{c:τ->Prop}{d:a->τ->Prop}{e}(g:∀b,c b->d e b):Hx c d (eJ e):=by
 intro b k f j l h i;grind [eJ]
def Fv{b:τ->Prop}{c:a->τ->Prop}{f:Bool}{d e:PX τ a}(g:Hx b c d)(h:Hx b c e):Hx b c (if f then d else e):=Zg
def LF{d:b->Prop}(e:PX τ a):Hx (λc:τ×b=>d c.2) (λ_ c=>d c.2) (kG e):=by
 rintro⟨i,o⟩ j k p r n g;cases f:e i j with
 |error m=>simp_all[xG]
 |ok h=>obtain⟨l,q,s⟩:=h;rw[xH f]at g;grind
def WS{P:b->Prop}{R:a->b->Prop}{c:PX b a}(h:Hx P R c):Hx (λd:τ×b=>P d.2) (λe d=>R e d.2) (oE c):=by
 rintro⟨o,k⟩ l e p r i g;cases f:c k l with
 |error n=>simp_all[Cs]
 |ok j=>obtain⟨m,q,s⟩:=j;rw[Ct f]at g;cases g;exact h _ _ _ _ _ i f
def rj(a:List Int)(b:List (Int×Int)):Prop:=b.map (·.1)=a/\a.Nodup
def WR(b:List Int)(g:Int->Bool):Hx (rj b) (λf=>rj (b++[f])) (ir text g):=by
 unfold ir;refine qq (xt _) λh=>qq (R:=λ_=>rj (b++[h.1])) ?_ λ_=>BD λp a=>a;intro n t i o u e a;unfold pK ox at a;split at a
 .rename_i q c;cases a
  dsimp only at c;split at c
  .grind
  .rename_i k;cases c
   obtain⟨rfl,d⟩:=e;refine⟨Zq,YJ.2 ⟨d,Zq,λr l s m j=>?_⟩⟩;simp_all
 grind
def WQ(c:List Int)(j:Int->Bool):∀(d:Nat) (b:List Int),Hx (rj (c++b)) (λe=>rj (c++e)) (ky text j d b):=by
 intro d;induction d with
 |zero=>intro b f m g k n _ a;simp only[ky]at a;cases a
 |succ d s=>
  intro b f m g k n o a;cases i:cu text Jg m with
  |error r=>simp_all[EB]
  |ok l=>
   obtain⟨l,q⟩:=l;by_cases h:12<=f.length
   .rw[EC i h]at a;cases a
   .rw[ED i h]at a;unfold Bf at a;refine qq (S:=λe p=>rj (c++e) p) (WR (c++b) j) (λt=>qq (xt _) λ_=>qq (xt _) λu=>Fv ?_ ?_) f q g k n o a;all_goals grind [BD]
def WP(f:Int->Bool):∀(c:Nat) (a:iy),Hx (λd:fJ=>rj ((dh a).map (·.1)) d.2) (λh d=>rj ((dh h).map (·.1)) d.2) (jO text f c a):=by
 intro c;induction c with
 |zero=>intro a g o j n p _ b;simp only[jO]at b;cases b
 |succ c m=>
  intro a;unfold jO;refine qq (WS (P:=rj ((dh a).map (·.1))) (R:=λe=>rj ((dh a).map (·.1)++e)) ?_) λe=>qq (LF _) λk=>qq (xt _) λi=>Fv ?_ ?_
  .have:=WQ (text:=text) ((dh a).map (·.1)) f 13 [];rw[YH]at this;exact this
  .grind [Cr]
  .unfold pu;refine qq (xt _) λi=>Fv (qq (xt _) λ_=>qq (LF _) λl=>BD λg b=>?_) (BD λg b=>?_);all_goals grind [Cr]
theorem ah4(h:Nat):eQ (λg=>∀l a k b,g=.union l a k b->((dh b).map (·.1)).Nodup) (iX text h):=by
 unfold iX;refine ba λ_=>ba λq=>?_;unfold qP;refine ba λ_=>ba λ_=>ba λe=>?_;unfold qQ;refine ba λi=>?_;unfold sb;refine ba λ_=>ba λ_=>nf (R:=λf:iy×fJ=>((dh f.1).map (·.1)).Nodup) ?_ λf p=>?_
 .intro m a s d;cases c:jO text e.2 13 [] (i.2,[]) m with
  |error o=>simp_all[rT]
  |ok j=>
   obtain⟨n,r,t⟩:=j;rw[CQ c]at d;cases d
   exact(WP e.2 13 [] _ _ _ _ _ ⟨rfl,List.nodup_nil⟩ c).2
 grind [tA,pP,ba,dV]
end
end
section
variable {e : Za}
def yv(b:aD):Prop:=yw b/\∀c d e a,b=.union c d e a->((dh a).map (·.1)).Nodup
def ahV:eQ yv (fP e):=by
 intro b a g f;refine⟨ahW b a g f,?_⟩;have:eQ (λa=>∀c h i d,a=.union c h i d->((dh d).map (·.1)).Nodup) (fP e):=by
  unfold fP;refine ba λl=>?_;by_cases k:l.text=Jh
  .grind [KM,ah4]
  .intro b a g f c h i d j;exact absurd j (KL k b a g f c h i d)
 exact this b a g f
def ah3:∀(c:Nat) {a:List aD},(∀b∈a,yv b)->eQ (λa=>∀b∈a,yv b) (eC e c a):=by
 intro c;induction c with
 |zero=>intro a _;exact lh _ _
 |succ c f=>
  intro a d;unfold eC;refine ba λh=>dU (dV d) (nf ahV λb g=>ba λ_=>f ?_);grind
def Pp{a}(c:eW e=.ok a):∀d∈a,yv d:=by
 unfold eW at c;split at c
 .cases c
 split at c
 .cases c
 .rename_i f b h;have g:f=a:=by
   grind
  subst g;exact ah3 69 Zq _ _ _ h
variable {c : Zb} {a : List aD} {d : cq} {f : St} {b : ai}
def Wh.row(k:Wh c a d f b){e:aD}(x:e∈a)(o:ei e=true):∃g,kl b.h d.nl e g:=by
 have s:e∈d.nl.filterMap lP:=by
  rw[k.nl];simp_all
 obtain⟨w,t,u⟩:=List.mem_filterMap.1 s;obtain⟨p,-⟩:=Pw u;obtain⟨g,l⟩:=List.getElem?_of_mem t;have m:=xr l;rw[<-k.q.nm.am]at m;have v:b.G[g]?=some b.G[g]:=Yd m;have r:=(k.q.nm.f8 g w _ l v).2;rw[p]at r;refine⟨b.G[g].n,?_⟩;cases e with
 |const h i j=>cases o
 |prog h i j e=>cases o
 |typedef e=>simp_all
 |enum h i j=>simp_all
 |struct h i j=>simp_all
 |union h i j e=>simp_all
def Wh.k4(k:Wh c a d f b)(t:∀e∈a,yv e):∀e∈a,ei e=true->lV e:=by
 intro e m l;obtain⟨x,n⟩:=k.row m l;obtain⟨i,u⟩:=t e m;cases e with
 |const g h j=>cases l
 |prog g h j e=>cases l
 |typedef e=>exact i
 |enum g h v=>
  refine⟨i,λo s=>?_⟩;have:=(k.q.dK _ _ n.2).2.2.2 rfl o.2.2 (YE.2 ⟨o,s,rfl⟩);simpa[dT]using this
 |struct g h v=>
  obtain⟨-,y,r,w,-⟩:=n;have:=(k.rn.b9 _ (Yh r)).2;exact⟨Zu,i⟩
 |union g h j p=>exact⟨u g h j p rfl,i⟩
end
section
variable {s:bb}
section
def Cg(s:bb):Prop:=∀a∈s.L,mJ a
def qp{h d:Type}{I:d->Prop}{f:d->h->d}:∀(c:List h) {b:d},I b->(∀b a,a∈c->I b->I (f b a))->I (c.foldl f b)
 |[],_,e,_=>e
 |a::c,b,e,g=>qp c (g b a Zq e) λb j i=>g b j (Y5 _ i)
theorem Cg.aX(b:Cg s){x}(d:mJ x):Cg (bh x s):=by
 intro c a;rcases Yn.1 a with a|a
 .exact b c a
 simp_all
theorem Cg.aq(c:Cg s)(i:Nat){b}(e:mJ b):Cg (dD i b s):=by
 intro d a;rcases List.mem_or_eq_of_mem_set a with a|rfl
 .exact c d a
 omega
def Cg.call(b:Cg s)(c:Zb):Cg (kx c s):=by
 intro d a;rcases Yn.1 a with a|a
 .exact b d a
 .rw[Yc.1 a];trivial
def Cg.eI:∀(d:Ty) {s:bb},Cg s->ko d->Cg (eb d s):=by
 intro d;induction d with
 |named c h=>intro s a _;exact a.call c
 |plain i=>intro s a _;exact a.aX trivial
 |opaq c f=>intro s a b;exact a.aX b
 |str c f=>intro s a b;exact a.aX b.2
 |arr g c f e=>intro s a b;exact((e (a.aX (x:=.hole) trivial) b.2.2).aX (x:=.again) trivial).aq _ b.1
 |opt g e=>intro s a b;exact(e (a.aX (x:=.hole) trivial) b.2).aq _ (by simp[mJ])
 |void=>intro s a _;exact a
def Cg.union(h:Cg s)(m:aV){d:List (List Int×aV)}(i:∀c∈d,ko c.2.H):Cg (sd m d s):=by
 unfold sd;have a:=qp (I:=λe:mb=>Cg e.s/\(e.c5.map (·.1)).Nodup) (f:=ck) d (b:=⟨bh .hole s,[],none,[]⟩) ⟨h.aX (x:=.hole) trivial,List.nodup_nil⟩ λe c k a=>⟨(a.1.eI _ (i c k)).aX (x:=.jump 0) trivial,qp (I:=λg:List (Int×Nat×Nat)=>(g.map (·.1)).Nodup) c.1 a.2 λg o _ j=>uy j _ _⟩;exact qp (I:=Cg) _ (a.1.aq _ a.2) λs n _ l=>l.aq _ trivial
def Cg.def(b:Cg s){c:aD}(f:ei c=true->lV c):Cg (hT c s):=by
 have e:∀{s:bb} (h:Zb) (a:Nat),Cg s->Cg (ly h a s):=λh a b=>b.aX (x:=.ret) trivial;cases c with
 |const a d i=>exact b
 |prog a d i c=>exact b
 |typedef c=>exact e _ _ (b.eI _ (f rfl).2)
 |enum a d g=>exact e _ _ (Cg.aX (s:={ s with cZ:=cR s.cZ a (hr g) }) b trivial)
 |struct a d g=>exact e _ _ (qp (I:=Cg) g (b.aX (by have:=(f rfl).1;simp only[mJ];omega)) λs l j k=>k.eI _ ((f rfl).2 l j).2)
 |union a d m n=>exact e _ _ (b.union m (f rfl).2)
def IE:aD->Prop
 |.prog _ _ b _=>∀v∈b,∀a∈v.ao,ko a.c1/\ko a.cv
 |_=>True
def PB{c:List aD}(n:∀b∈c,ei b=true->lV b)(m:∀b∈c,IE b):∀x∈(fi c).1,mJ x:=by
 have j:Cg (c.foldl (λs b=>hT b s) tt):=qp (I:=Cg) c (by intro x q;cases q) λs b d f=>f.def (n b d);have k:Cg (Hh c).1:=qp (I:=λa:bb×List (Zb×Nat)=>Cg a.1) c j λa b _ e=>by
  unfold eK;split
  .exact(e.call _).aX trivial
  omega
 have l:Cg (CC c).1:=qp (I:=λa:bb×List (Int×jn)=>Cg a.1) c k λa b d e=>by
  unfold hH;split
  .rename_i r u;have i:=m _ d;exact qp (I:=λa:bb×jn=>Cg a.1) r e λw v g o=>qp (I:=λa:bb×List (Int×Nat×Nat)=>Cg a.1) v.ao o λy a h p=>(((p.eI _ (i v g a h).1).aX (x:=.fin) trivial).eI _ (i v g a h).2).aX (x:=.fin) trivial
  omega
 exact qp (I:=Cg) _ l λs t _ f=>f.aq _ trivial
end
end
section
variable {c d b:Type}{σ:St}
section
variable {a : Za}
def Qm:eQ (λd=>ko d/\jm d) (rU a):=by
 unfold rU;exact ba λf=>dU (dV ⟨trivial,trivial⟩) (λσ c e b=>by
  have b:=Ic a σ c e b;exact⟨b.z.2,by cases c<;>simp[hB,jm]at *⟩)
def DS(a:gM):Prop:=(ko a.c1/\jm a.c1)/\ko a.cv/\jm a.cv
def Ec(v:go):Prop:=v.ao.length<=8/\∀a∈v.ao,DS a
def re:aD->Prop
 |.prog _ _ a _=>a≠[]/\a.length<=4/\∀v∈a,Ec v
 |_=>True
def re.x:∀{a:aD},re a->IE a
 |.prog ..,b=>λv d e c=>⟨((b.2.2 v d).2 e c).1.1,((b.2.2 v d).2 e c).2.1⟩
 |.const ..,_=>trivial
 |.typedef _,_=>trivial
 |.enum ..,_=>trivial
 |.struct ..,_=>trivial
 |.union ..,_=>trivial
def re.dK:∀{c:aD},re c->wR c
 |.prog ..,a=>⟨a.1,a.2.1,λv b=>⟨(a.2.2 v b).1,λe d=>⟨((a.2.2 v b).2 e d).2.2,((a.2.2 v b).2 e d).1.2⟩⟩⟩
 |.const ..,_=>trivial
 |.typedef _,_=>trivial
 |.enum ..,_=>trivial
 |.struct ..,_=>trivial
 |.union ..,_=>trivial
def ahZ:hE DS (oI a):=by
 unfold oI;exact nh (sj Qm) λg c=>eX λf=>eX λ_=>nh (sj Qm) λd b=>eX λ_=>eX λe=>ka ⟨b,c⟩
def ae5{Q:c->Prop}{d:List c}{b}(e:∀a∈d,Q a)(f:Q b):∀a∈d++[b],Q a:=by
 grind
def BN{d}{e f:b}{g:St}{a:c}(h:lift d e σ=.ok (a,f,g)):d σ=.ok (a,g)/\f=e:=by
 unfold lift at h;grind
def yX{i:Type}{e:PX b c}{d:c->PX b i}{g:b}{f:i×b×St}(k:aQ e d g σ=.ok f):∃a h j,e g σ=.ok (a,h,j)/\d a h j=.ok f:=by
 grind [aQ]
def ST{rH}{run:PX b Unit}(i:b->List d)(Q:d->Prop)(B:∀e σ f h,run e σ=.ok ((),f,h)->∃g,i f=i e++[g]/\Q g):∀(k c:Nat) (e:b) (σ:St) (f:b) (h:St),mi a rH run k c e σ=.ok ((),f,h)->c<=rH->∃l,i f=i e++l/\(∀g∈l,Q g)/\c+l.length<=rH/\(c=0->l≠[]):=by
 intro k;induction k with
 |zero=>intro c e σ f h j _;cases j
 |succ k D=>
  intro c e σ f h j A;unfold mi at j;obtain⟨p,w,H,m,n⟩:=yX j;have v:w=e/\(c=0->p=false):=by
   split at m
   .cases m<;>simp_all
   .rename_i r;exact⟨(BN m).2,λq=>absurd q r⟩
  obtain⟨rfl,C⟩:=v;cases p with
  |true=>
   cases n<;>simp_all
  |false=>
   simp only[Ye,if_false]at n
   obtain⟨g,E,I,s,t⟩:=yX n;obtain⟨-,rfl⟩:=BN s;obtain⟨_,F,J,o,u⟩:=yX t;obtain⟨o,rfl⟩:=BN o;have z:c<rH:=by
    grind [gT]
   obtain⟨_,G,K,x,y⟩:=yX u;grind
def Kg{h:Type}{rH:Nat}{run:PX (List d×h) Unit}{Q:d->Prop}(m:∀g σ f i,run g σ=.ok ((),f,i)->∃c,f.1=g.1++[c]/\Q c)(n:h):eQ (λb=>b.1≠[]/\b.1.length<=rH/\∀c∈b.1,Q c) (lL (ih a rH run) ([],n)):=by
 intro σ b i e;unfold lL at e;split at e
 .rename_i f u j;cases e
  obtain⟨_,s,v,k,l⟩:=yX j;obtain⟨-,rfl⟩:=BN k;obtain⟨t,o,p,q,r⟩:=ST (·.1) Q m _ _ _ _ _ _ l (YV _);simp_all
 grind
def ah5:hE Ec (oT a):=by
 unfold oT;refine eX λ_=>eX λj=>?_;unfold Ap;refine nh (sj (Kg (Q:=DS) ?_ _)) λk e=>eX λi=>ka e.2;rintro⟨l,g⟩ σ ⟨n,o⟩ p b;cases c:oI a g σ with
 |error h=>simp_all[HQ]
 |ok f=>
  obtain⟨d,m,q⟩:=f;rw[HR c]at b;cases b
  exact⟨d,rfl,ahZ _ _ _ _ _ c⟩
theorem ah8(h:Zb×Nat):∀(b:Nat) (d:List (Zb×Nat×Int)) (c:List (Int×Int)),eQ re (kC a h b d c):=by
 intro b;induction b with
 |zero=>intro d c;exact lh _ _
 |succ b g=>
  intro d c σ j o e;cases f:kY a d.length c σ with
  |error k=>simp_all[wa]
  |ok i=>
   obtain⟨m,l,p⟩:=i;rw[wb f]at e;refine ba (Q:=re) (λn=>dU (g _ _) ?_) _ _ _ e;unfold qn;exact ba λ_=>ba λ_=>dV trivial
def ahU:eQ re (fP a):=by
 unfold fP;refine ba λq=>?_;unfold fO;refine dU ?_ (dU ?_ (dU ?_ (dU ?_ (dU ?_ (dU ?_ (lh _ _))))))
 .unfold lz;exact ba λ_=>ba λb=>ba λ_=>ba λ_=>ba λ_=>dV trivial
 .unfold lR;exact ba λ_=>ba λc=>ba λ_=>dV trivial
 .grind [kS,ba,ah8]
 .unfold mu;exact ba λ_=>ba λb=>ba λh=>ba λ_=>dV trivial
 .unfold iX;refine ba λ_=>ba λb=>?_;unfold qP;refine ba λ_=>ba λ_=>ba λf=>?_;unfold qQ;refine ba λk=>?_;unfold sb;refine ba λ_=>ba λ_=>ba λm=>?_;unfold tA pP;exact ba λ_=>ba λ_=>dV trivial
 .unfold lK;refine ba λ_=>ba λb=>?_;unfold tm;refine nf (Kg (Q:=Ec) ?_ _) λh g=>ba λ_=>dV g;rintro⟨l,i⟩ σ ⟨o,p⟩ r d;cases e:oT a i σ with
  |error j=>simp_all[Gw]
  |ok f=>
   obtain⟨c,n,s⟩:=f;rw[Gx e]at d;cases d
   exact⟨c,rfl,ah5 _ _ _ _ _ e⟩
def ah2:∀(d:Nat) {b:List aD},(∀c∈b,re c)->eQ (λb=>∀c∈b,re c) (eC a d b):=by
 intro d;induction d with
 |zero=>intro b _;exact lh _ _
 |succ d g=>
  intro b e;unfold eC;exact ba λh=>dU (dV e) (nf ahU λc f=>ba λ_=>g (ae5 e f))
def Hv{c}(b:eW a=.ok c):∀d∈c,re d:=by
 unfold eW at b;split at b
 .cases b
 split at b
 .cases b
 .rename_i e σ g;have f:e=c:=by
   grind
  subst f;exact ah2 69 Zq _ _ _ g
end
end
section
variable {b j : Zw} {e a : Nat} {s c : fq} {h i g f : Zv} {d : List Th} {o : dJ}
structure nt(a:Nat)(s:fq):Prop where
 av:s.av.length<=a
 e1:∀x∈s.av,x.length<=1000000000
 aO:s.aO.length<=50000+a
 bB:s.bB.length<=a
 eG:s.eG.length<=a
def nt.bm(b:nt a s)(e:a<=16384):uZ s:=
 ⟨by have:=b.av;omega,λd c=>by have:=b.e1 d c;omega,by have:=b.aO;omega,by have:=b.bB;omega,by have:=b.eG;omega⟩
def nt.up(b:nt a s):nt (a+1) s:=
 ⟨by have:=b.av;omega,b.e1,by have:=b.aO;omega,by have:=b.bB;omega,by have:=b.eG;omega⟩
def nt.text(c:nt a s)(b:Int):(fF s b).length<=1000000000:=by
 unfold fF;split
 .simp
 .rename_i d;have e:=zN b (YM.2 d);exact c.e1 _ Zg
def nt.aS(b:nt a s){d:Zb}(f:d.length<=1000000000):nt (a+1) { s with av:=s.av++[d] }:=
 ⟨by have:=b.av;simp_all,λe c=>by
  rcases Yn.1 c with c|c
  .exact b.e1 e c
  simp_all,b.up.aO,b.up.bB,b.up.eG⟩
def agM(a:Zb)(b c:Int):(uP a b c).length=a.length:=by
 grind [uP]
def nt.m4(e:nt a s)(g:o.s.length<=16384)(d:oF s o=some c):nt (a+1) c/\c.bB=s.bB/\c.eG=s.eG:=by
 have b:=e.up;unfold oF at d;split at d
 .cases d
  exact⟨⟨b.av,b.e1,by have:=e.aO;grind,b.bB,b.eG⟩,rfl,rfl⟩
 split at d
 .cases d
  refine⟨⟨b.av,b.e1,?_,b.bB,b.eG⟩,rfl,rfl⟩;show (if s.aO=[]then s.aO else ue s.aO o).length<=_
  split;all_goals simp_all[aO,ue]
 split at d
 .cases d
  exact⟨⟨b.av,b.e1,Zq,b.bB,b.eG⟩,rfl,rfl⟩
 split at d
 .cases d
  exact⟨⟨b.av,b.e1,b.aO,b.bB,b.eG⟩,rfl,rfl⟩
 split at d
 .cases d
  exact⟨⟨b.av,b.e1,b.aO,b.bB,b.eG⟩,rfl,rfl⟩
 unfold pM at d;split at d
 .cases d
  exact⟨e.aS Zm,rfl,rfl⟩
 split at d
 .cases d
  exact⟨e.aS (by rw[agM];exact e.text _),rfl,rfl⟩
 split at d
 .cases d
  unfold zt;split
  .simp_all
  .rename_i f;exact⟨e.aS Zg,rfl,rfl⟩
 simp_all
def aca(b:1<=o.w)(d:o.w<=8):∃c,oF s o=some c:=by
 have:o.w=1\/o.w=2\/o.w=3\/o.w=4\/o.w=5\/o.w=6\/o.w=7\/o.w=8:=Zm;unfold oF pM;rcases this with a|a|a|a|a|a|a|a<;>simp[a]
def ahz(b:Zw):bA (wL b.heap.size ⟨[],[],[],0,0,0,[],[]⟩ (.slice none 0 0) (.slice none 0 0) (.slice none 0 0) (.slice none 0 0) []) b (b.alloc HZ):=by
 have a:∀(d:TypeId) (e:Nat) (c:List Th),bA c b b->bA (.row d e (.slice none 0 0) 0 []::c) b b:=λd e c g=>g.cons (ar [] b) ⟨Zq,Y8 ⟨rfl,rfl⟩⟩ (λh f=>by simp[Th.aH,Value.ownBlock]at f);exact(a 9 1 _ (a 52 5 _ (a 37 1 _ (a 48 1 _ (rk b))))).A HZ
end
section
variable {dep:Nat}{a:List aD}
def UH(v:List dW)(dep b c:Nat):(ft v dep b c).g8:=by
 intro i k d h e a;obtain⟨j,g,a⟩:=bZ a;obtain⟨f,_,a⟩:=bZ a;grind [tz,nF]
def UG(v:List dW)(d e:Nat)(f:dep<=64):∀a b,64<=a->∃c,(ft v dep d e).cY a b=.error c:=λ_ _ g=>⟨_,Y9 Zm⟩
def UL(h:nD a){e:Zb}{f}(k:bT (fi a).2 e=some f)(v:List dW)(b d:Nat)(j:dep<=64):∃g,mZ (ft v dep b d) (fi a).1 g ⟨f,[],[]⟩ ⟨0,[]⟩=some (fu (ft v dep b d) (dL a) 64 0 e ⟨0,[]⟩):=by
 obtain⟨m,i,l⟩:=HH h;have c:=l e;rw[k]at c;exact Og (UH v dep b d) (UG v b d j) i c.1 c.2.1 c.2.2 _
def QP{h:Zw}{l k}(x:tS l k a)(g:∀b∈l,h.heap[b.1]?=some b.2)(y:nD a)(z:∀E∈(fi a).1,mJ E)(j:Zb){n v}(B:mC h n v)(dep c d:Int):Calls prog 33 #[Zp k,Zs j,n,.agg #[Y dep,Y c,Y d]] h (DH h (hu (fi a).2 j dep c d) (jx (dL a) j v dep.toNat c.toNat d.toNat)):=by
 obtain⟨K,O,I,S,G,u,N,e⟩:=x;obtain⟨a0,a1,a2,rfl⟩:=e.L.h6;refine Kx false (Q:=λ_ i v _=>v=Zs i) (g _ u) (g _ e.an) e.nd (λb H f m=>?_) λ_ _ _ _ _ _ _ C _ _=>C;obtain⟨A,o,J,s,M,D,P⟩:=OK f;obtain⟨dep,rfl⟩:=Int.eq_ofNat_of_zero_le o;obtain⟨c,rfl⟩:=Int.eq_ofNat_of_zero_le s;obtain⟨d,rfl⟩:=Int.eq_ofNat_of_zero_le D;obtain⟨F,w⟩:=UL y A v c d (dep:=dep) Zm;refine(QO e.L (λb f=>(m.ak _ (ay (g b f)) Zq).trans (g b f)) z Zm Zm (B.ae m) w).mono ?_;rintro L R (⟨i,p,q,r⟩|t)
 .exact Y8 ⟨i,_,p,q,r,⟨_,rfl⟩,rfl⟩
 .exact Ya t
end
section
variable {w c a : Zw} {v : List cF} {b : Zv}
def Me(a b c:Int)(w:Zw):Calls prog 31 #[Y a,Y b,Y c] w λd e=>d=.returned (.tuple #[nQ a b c,nQ a b c])/\ap [] w e:=by
 go_in;go_wp2;refine bodyPost_ret (v:=.tuple #[nQ a b c,nQ a b c]) ?_ rfl ⟨rfl,?_⟩
 .simp[results,results31,go_sem]
 .exact((ar [] w).A _).A _
abbrev Bw(w:Zw)(a b:Nat)(c d e f g:Zv):Zw:=((((w.setCell ⟨a,b,none⟩ c).setCell ⟨a,b+1,none⟩ d).setCell ⟨a,b+2,none⟩ e).setCell ⟨a,b+3,none⟩ f).setCell ⟨a,b+4,none⟩ g
def BJ(w:Zw)(a b:Nat)(c d e f g:Zv):ap [a] w (Bw w a b c d e f g):=(((((ar [a] w).a6 (p:=⟨a,b,none⟩) Zq _).a6 (p:=⟨a,b+1,none⟩) Zq _).a6 (p:=⟨a,b+2,none⟩) Zq _).a6 (p:=⟨a,b+3,none⟩) Zq _).a6 (p:=⟨a,b+4,none⟩) Zq _
theorem aeu{d:Type}{b:List d}{a:Nat}(e:a<b.length)(c:d):(b.set a c).take (a+1)=b.take a++[c]:=by
 rw[Yt Zu];have:(b.set a c).take a=b.take a:=by
  apply List.ext_getElem?;grind
 simp_all
def Bx{w:Zw}{g o:Nat}{a j k}(b c d e f:Zv)(l:w.heap[g]?=some (.cells a j k))(m:o+5<=a.size):∃h:Array Zv,(Bw w g o b c d e f).heap[g]?=some (.cells h j k)/\h.size=a.size/\h.toList.take (o+5)=a.toList.take o++[b,c,d,e,f]:=by
 refine⟨_,ci (i:=o+4) (ci (i:=o+3) (ci (i:=o+2) (ci (i:=o+1) (ci (i:=o) l b) c) d) e) f,Zq,?_⟩;simp only[Array.set!_eq_setIfInBounds,Array.toList_setIfInBounds];grind [aeu]
def Ba:Zl:=[Y (-7),Y 0,.string ⟨#[]⟩,Y 0,Y 0]
def oC(v:List cF):Zl:=v.flatMap cy++(Ba++Ba)
def Rh(v:List cF)(w:Zw)(c:Ending)(b:Zw):Prop:=∃a,c=.returned (.slice (some ⟨w.heap.size,0,none⟩) v.length (v.length+2))/\ap [] w b/\b.heap[w.heap.size]?=some (.cells a 87)/\a.toList=oC v
def WD(y:w.ownsRow 0 52 5 b v.length (v.flatMap cy))(d6:v.length<=1000000):Calls prog 32 #[b] w (Rh v w):=by
 obtain⟨d8,d9,b4⟩:=aW y;have M:=U y;subst b4;clear y;obtain⟨b7,b1,b5,b6,d7⟩:=info_parts BF;have z:=run_makeSlice (P:=prog) w 76 87 b7 _ underlying76 b1 b5 .i64 .i64 ((v.length:Int)+2) ((v.length:Int)+2) Zm Zm Zg Zg Zm;rw[b6,show ((v.length:Int)+2).toNat=v.length+2 by omega]at z;have A:=size_madeCells (Value.agg #[Y 0,Y 0,.string ⟨#[]⟩,Y 0,Y 0]).cells ((v.length+2)*5);generalize madeCells (Value.agg #[Y 0,Y 0,.string ⟨#[]⟩,Y 0,Y 0]).cells ((v.length+2)*5)=k at z A;have B:af (ap [] w (w.alloc (.cells k 87))/\(w.alloc (.cells k 87)).heap[w.heap.size]?=some (.cells k 87)):=U ⟨(ar [] w).A _,be rfl⟩;have O:=U A;clear A;go_in;go_wp2;generalize w.alloc (.cells k 87)=e7 at *
 clear z;go_loopw [5] (λu a=>∃(c:Nat) (i:Array Zv),u=Y c/\c<=v.length/\af (ap [] w a/\a.heap[w.heap.size]?=some (.cells i 87)/\i.size=(v.length+2)*5/\i.toList.take (c*5)=(v.take c).flatMap cy)) (λu _=>v.length-(intOf u).toNat)
 case atStart=>exact⟨0,k,rfl,Zm,U ⟨B.i.1,B.i.2,O.i,Zq⟩⟩
 case round=>
  obtain⟨c,i,rfl,d2,t⟩:=hrel;obtain⟨g,f,j,h⟩:=t.i;have e:∀r,r<i.size->∃a1,wr.cell? (Zd w.heap.size r)=some a1:=λr d0=>⟨i[r],aC f Zq⟩;have S:=bl f;have a0:=ay f;rcases Yj c v.length with E|d1
  .have b3:(c:Int)<v.length:=Zm;have d5:(c:Int)<(v.length:Int)+2:=Zm;obtain⟨l,e0,F,b8,b9,c0,c1,c2⟩:=rK (bQ M.i g Zq) E;simp only[Value.slice.injEq,true_and]at F;obtain⟨rfl,rfl⟩:=F;obtain⟨a3,H⟩:=e (c*5) Zm;obtain⟨a4,I⟩:=e (c*5+1) Zm;obtain⟨a5,J⟩:=e (c*5+2) Zm;obtain⟨a6,K⟩:=e (c*5+3) Zm;obtain⟨a7,L⟩:=e (c*5+4) Zm;have G:v.take (c+1)=v.take c++[v.getD c bC]:=Zu;have N:=U G;generalize v.getD c bC=d at *
   clear e G f j h g;go_wp2;refine bJ (λm=>m.cell? ⟨l,c*5,none⟩=some (Y d.w)/\m.cell? ⟨l,c*5+1,none⟩=some (Y d.n)/\m.cell? ⟨l,c*5+2,none⟩=some (Zs d.s)/\m.cell? ⟨l,c*5+3,none⟩=some (Y d.y)/\m.cell? ⟨l,c*5+4,none⟩=some (Y d.am)) ?_ λb0=>?_
   .go_keep
   refine bf [0,1,2,3,4,5,6,7,8,9,10,11,12,13,14,15,16,17,18,19,20,21,22,23,24,25,26,27,28] ?_;iterate 29 (refine bi ?_)
   refine bg ?_;refine bL λR D=>?_;go_simp;refine D.out _ _ ?_;clear D R;refine nz ?_;obtain⟨g,f,j,h⟩:=t.i;obtain⟨n,p,x,q⟩:=Bx (o:=c*5) (Y d.w) (Y d.n) (Zs d.s) (Y d.y) (Y d.am) f Zm;have C:af (ap [] w (Bw wr w.heap.size (c*5) (Y d.w) (Y d.n) (Zs d.s) (Y d.y) (Y d.am)).drew/\(Bw wr w.heap.size (c*5) (Y d.w) (Y d.n) (Zs d.s) (Y d.y) (Y d.am)).drew.heap[w.heap.size]?=some (.cells n 87)/\n.size=(v.length+2)*5/\n.toList.take ((c+1)*5)=(v.take (c+1)).flatMap cy):=by
    refine U ⟨(qr g (BJ ..) Zq).ag,p,x.trans j,?_⟩;rw[show (c+1)*5=c*5+5 by omega,q,h,N.i];simp
   clear g f j h p x q H I J K L b8 b9 c0 c1 c2 S a0 b0;generalize World.drew _=e6 at C ⊢;go_wp2;exact⟨⟨c+1,n,Zr,E,C⟩,Zz⟩
  .have b2:c=v.length:=Zm;subst b2;have b3:¬(v.length:Int)<v.length:=Zm;have d3:(v.length:Int)<(v.length:Int)+2:=Zm;have d4:(v.length:Int)+1<(v.length:Int)+2:=Zm;obtain⟨a3,H⟩:=e (v.length*5) Zm;obtain⟨a4,I⟩:=e (v.length*5+1) Zm;obtain⟨a5,J⟩:=e (v.length*5+2) Zm;obtain⟨a6,K⟩:=e (v.length*5+3) Zm;obtain⟨a7,L⟩:=e (v.length*5+4) Zm;obtain⟨c4,e1⟩:=e ((v.length+1)*5) Zm;obtain⟨c5,e2⟩:=e ((v.length+1)*5+1) Zm;obtain⟨c6,e3⟩:=e ((v.length+1)*5+2) Zm;obtain⟨c7,e4⟩:=e ((v.length+1)*5+3) Zm;obtain⟨c8,e5⟩:=e ((v.length+1)*5+4) Zm;clear e f j h g;go_wp2;go_ret;obtain⟨g,f,j,h⟩:=t.i;obtain⟨c3,p,x,q⟩:=Bx (o:=v.length*5) (Y (-7)) (Y 0) (.string ⟨#[]⟩) (Y 0) (Y 0) f Zm;obtain⟨a2,a8,c9,a9⟩:=Bx (o:=(v.length+1)*5) (Y (-7)) (Y 0) (.string ⟨#[]⟩) (Y 0) (Y 0) p Zm;refine⟨a2,rfl,qr (qr g (BJ ..) Zq) (BJ ..) Zq,a8,?_⟩;rw[List.take_of_length_le Zx,show (v.length+1)*5=v.length*5+5 by omega,q,h,YG]at a9;simp_all[oC,Ba]
end
section
variable {a g e : Zw} {v : List cF} {d : Zv} {b : Nat} {c : Array Zv}
def wj:∀v:List cF,(v.flatMap cy).length=v.length*5
 |[]=>rfl
 |x::a=>by rw[YD,Yq,wj a];simp;omega
def WA(j:a.heap[b]?=some (.cells c 87))(k:c.toList=oC v){d:Nat}(m:d<v.length):a.cell? ⟨b,d*5,none⟩=some (Y (v.getD d bC).w)/\a.cell? ⟨b,d*5+1,none⟩=some (Y (v.getD d bC).n)/\a.cell? ⟨b,d*5+2,none⟩=some (.string ⟨(v.getD d bC).s.toArray⟩)/\a.cell? ⟨b,d*5+3,none⟩=some (Y (v.getD d bC).y)/\a.cell? ⟨b,d*5+4,none⟩=some (Y (v.getD d bC).am):=by
 have i:v[d]?=some (v.getD d bC):=Zg;have e:∀g,g<5->∀h,(cy (v.getD d bC))[g]?=some h->a.cell? ⟨b,d*5+g,none⟩=some h:=λg l h o=>by
  refine aC j ?_;rw[<-Array.getElem?_toList,k];unfold oC;rw[Ys (by rw[wj];omega),uq (f:=cy) (k:=5) (λ_=>rfl) v d g l,i];grind
 exact⟨e 0 Zm _ rfl,e 1 Zm _ rfl,e 2 Zm _ rfl,e 3 Zm _ rfl,e 4 Zm _ rfl⟩
def LA(d:a.heap[b]?=some (.cells c 87))(h:c.toList=oC v)(k:v.length<=1000000):mC a (.slice (some ⟨b,0,none⟩) v.length (v.length+2)) (v.map gN):=by
 refine⟨some ⟨b,0,none⟩,v.length+2,Zq,Zq,Yz (show v.length+2<=1000002 by omega) Ze,λg j e=>?_⟩;have f:g<v.length:=by
  rcases Yj g v.length with d|d
  .exact d
  .rw[YA (by simpa using d)]at e;cases e
 have i:j=gN (v.getD g bC):=by
  simp[f]at e;simp[f,e]
 subst i;have:=WA d h f;refine⟨b,0,rfl,?_⟩;rw[Nat.zero_add];exact this
def Oi{z}(o:a.ownsRow 0 52 5 d v.length (v.flatMap cy))(u:mC a z (v.map gN))(a3:v.length<=1000000):Calls prog 38 #[z,d] a λH f=>H=.returned (.bool true)/\ap [] a f:=by
 obtain⟨a4,a5,K⟩:=aW o;have F:=U o;have q:=U u;obtain⟨ad,S,rfl,-⟩:=u;subst K;rw[YU]at q ⊢;clear o;go_in;go_wp2;go_loopw [5] (λm e=>∃c:Nat,m=Y c/\c<=v.length/\af (ap [] a e)) (λm _=>v.length-(intOf m).toNat)
 case atStart=>exact⟨0,rfl,Zm,U (ar [] a)⟩
 case round=>
  obtain⟨c,rfl,a2,j⟩:=hrel;rcases Yj c v.length with p|a1
  .have J:(c:Int)<v.length:=Zm;obtain⟨k,a6,x,L,M,N,O,P⟩:=rK (bQ F.i j.i Zq) p;simp only[Value.slice.injEq,true_and]at x;obtain⟨rfl,rfl⟩:=x;obtain⟨R,a0,t,-,-,y⟩:=q.i.ae j.i;simp only[Value.slice.injEq]at t;obtain⟨rfl,-,rfl⟩:=t;obtain⟨b,l,rfl,A,B,C,D,E⟩:=y c (gN (v.getD c bC)) (by simp[p]);simp only[gN]at A B C D E;clear y;generalize v.getD c bC=g at *
   go_wp2;refine bJ (λf=>f.cell? ⟨k,c*5,none⟩=some (Y g.w)/\f.cell? ⟨k,c*5+1,none⟩=some (Y g.n)/\f.cell? ⟨k,c*5+2,none⟩=some (Zs g.s)/\f.cell? ⟨k,c*5+3,none⟩=some (Y g.y)/\f.cell? ⟨k,c*5+4,none⟩=some (Y g.am)/\f.cell? ⟨b,l+c*5,none⟩=some (Y g.w)/\f.cell? ⟨b,l+c*5+1,none⟩=some (Y g.n)/\f.cell? ⟨b,l+c*5+2,none⟩=some (Zs g.s)/\f.cell? ⟨b,l+c*5+3,none⟩=some (Y g.y)/\f.cell? ⟨b,l+c*5+4,none⟩=some (Y g.am)) ?_ λI=>?_
   .go_keep
   refine bf [0,1,2,3,4,5,6,7,8,9] ?_;iterate 10 (refine bi ?_)
   refine bg ?_;refine tk (i:=10) (v:=.bool false) rfl Zk (λ_ _ _ h=>h) Zk Zt ?_ ?_
   .intro a i;(try dsimp only at i);go_simp;(try with_reducible rfl);all_goals (try omega)
   refine nz ?_;refine bf [11,12,13,14,15,16,17,18,19,20,21] ?_;iterate 11 (refine bi ?_)
   refine bg ?_;refine tk (i:=22) (v:=.bool false) rfl Zk (λ_ _ _ h=>h) Zk Zt ?_ ?_
   .intro a i;(try dsimp only at i);go_simp;(try with_reducible rfl);all_goals (try omega)
   refine nz ?_;refine bf [23,24,25,26,27,28,29,30,31,32,33,34] ?_;iterate 12 (refine bi ?_)
   refine bg ?_;refine tk (i:=35) (v:=.bool false) rfl Zk (λ_ _ _ h=>h) Zk Zt ?_ ?_
   .intro a i;(try dsimp only at i);go_simp;(try with_reducible rfl);all_goals (try omega)
   refine nz ?_;refine bf [36,37,38,39,40,41,42,43,44,45,46,47] ?_;iterate 12 (refine bi ?_)
   refine bg ?_;refine tk (i:=48) (v:=.bool false) rfl Zk (λ_ _ _ h=>h) Zk Zt ?_ ?_
   .intro a i;(try dsimp only at i);go_simp;(try with_reducible rfl);all_goals (try omega)
   refine nz ?_;refine bf [49,50,51,52,53,54,55,56,57,58,59,60] ?_;iterate 12 (refine bi ?_)
   refine bg ?_;refine tk (i:=61) (v:=.bool false) rfl Zk (λ_ _ _ h=>h) Zk Zt ?_ ?_
   .intro a i;(try dsimp only at i);go_simp;(try with_reducible rfl);all_goals (try omega)
   refine nz ?_;refine bL λG w=>?_;go_simp;refine w.out _ _ ?_;clear w G;refine nz ?_;have r:=U j.i.ag;clear L M N O P A B C D E I j;generalize World.drew _=a7 at r ⊢;go_wp2;exact⟨⟨c+1,Zj,p,r⟩,Zz⟩
  .have J:¬(c:Int)<v.length:=Zm;go_wp2;go_ret;exact⟨rfl,j.i⟩
end
section
variable {w e c : Zw} {v : List cF} {d : Zv} {a : Nat} {b : Array Zv}
def WC(a:b.toList=oC v):b.size=(v.length+2)*5:=by
 rw[<-Array.length_toList,a];unfold oC Ba;rw[Yq,wj];simp;omega
def WB(c:w.heap[a]?=some (.cells b 87))(d:b.toList=oC v):w.cell? ⟨a,v.length*5,none⟩=some (Y (-7))/\w.cell? ⟨a,(v.length+1)*5,none⟩=some (Y (-7)):=by
 constructor
 .refine aC c ?_;rw[<-Array.getElem?_toList,d];unfold oC;rw[Yw (by rw[wj];omega),wj,Nat.sub_self];rfl
 .refine aC c ?_;rw[<-Array.getElem?_toList,d];unfold oC;rw[Yw (by rw[wj];omega),wj,show (v.length+1)*5-v.length*5=5 by omega];rfl
def afx(q:w.ownsRow 0 52 5 d v.length (v.flatMap cy))(k:w.heap[a]?=some (.cells b 87))(l:b.toList=oC v)(x:v.length<=1000000):Calls prog 34 #[.slice (some ⟨a,0,none⟩) v.length (v.length+2),d] w λu G=>u=.returned (.bool true)/\ap [a] w G:=by
 obtain⟨a2,a3,F⟩:=aW q;have t:=U (Oi q (LA k l x) x);have i:=U (Yp k (Yp l (WC l)));subst F;clear q k l;have S:(0:Int)<=(v.length:Int)+2:=by omega
 have a0:(v.length:Int)<(v.length:Int)+2:=by omega
 have a1:(v.length:Int)+1<(v.length:Int)+2:=by omega
 go_in;go_wp21;refine t.i.mono ?_;rintro u a9 ⟨rfl,g⟩;have f:=(g.ak _ (ay i.i.1) (by simp)).trans i.i.1;obtain⟨H,I⟩:=WB f i.i.2.1;have s:=U (Yp (g.aZ (M':=[a]) (by simp)) f);have y:=U i.i.2.2;clear g f t i;go_wp2;go_loopw [9] (λp c=>∃(e:Nat) (j:Array Zv),p=Y e/\e<=v.length+2/\af (ap [a] w c/\c.heap[a]?=some (.cells j 87)/\j.size=(v.length+2)*5)) (λp _=>v.length+2-(intOf p).toNat)
 case atStart=>exact⟨0,b,rfl,by omega,U ⟨s.i.1,s.i.2,y.i⟩⟩
 case round=>
  obtain⟨e,j,rfl,R,n⟩:=hrel;rcases Yj e (v.length+2)with E|P
  .have D:(e:Int)<(v.length:Int)+2:=by omega
   obtain⟨g,f,r⟩:=n.i;have h:∀m,m<j.size->∃z,wr.cell? (Zd a m)=some z:=λm k=>⟨j[m],aC f (by simp[k])⟩;have J:=bl f;obtain⟨K,a4⟩:=h (e*5) (by omega);obtain⟨L,a5⟩:=h (e*5+1) (by omega);obtain⟨M,a6⟩:=h (e*5+2) (by omega);obtain⟨N,a7⟩:=h (e*5+3) (by omega);obtain⟨O,a8⟩:=h (e*5+4) (by omega);clear h f r g;go_wp2;obtain⟨g,f,r⟩:=n.i;obtain⟨A,B,C,-⟩:=Bx (o:=e*5) (Y (-7)) (Y 0) (.string ⟨#[]⟩) (Y 0) (Y 0) f (by omega);exact⟨⟨e+1,A,by go_num,E,U ⟨g.u (BJ _ _ _ _ _ _ _ _),B,C.trans r⟩⟩,by simp[intOf];omega⟩
  .have D:¬(e:Int)<(v.length:Int)+2:=by omega
   go_wp2;go_ret;exact⟨rfl,n.i.1⟩
end
section
variable {i : Nat -> Prop} {h f : Nat} {j : Zb} {σ : ai} {w k a : Zw} {c : PV} {v : List cF} {e : Zv} {g : Nl} {Kn : Zb -> Prop} {d : Nat} {b : Array Zv}
def oB(d:List aD)(e:Zb)(v:List cF)(a b c:Int):Zb:=match hu (fi d).2 e a b c with
 |.error _=>[]
 |.ok _=>match jx (dL d) e (v.map gN) a.toNat b.toNat c.toNat with
  |.ok f=>f
  |.error _=>[]
def vK(σ:ai)(e:List aD)(d:Zb)(v:List cF)(a b c:Int):Zv:=if eD σ d<0 then .tuple #[.string ⟨#[]⟩,Y 10,Y (-1)]else if ¬kW a b c then .tuple #[.string ⟨#[]⟩,Y 11,Y (-1)]else vL (jx (dL e) d (v.map gN) a.toNat b.toNat c.toNat)
def Dc{d}{b:Zb}{e f g:Int}{k}(j:eD σ b<0↔bT (fi d).2 b=none)(a:hu (fi d).2 b e f g=.ok k):¬eD σ b<0/\kW e f g:=by
 unfold hu at a;cases c:bT (fi d).2 b with
 |none=>rw[c]at a;cases a
 |some l=>
  rw[c]at a;dsimp only at a;refine⟨λh=>(by rw[j.1 h]at c;cases c),?_⟩;split at a
  .rename_i i;simp[lf]at i;unfold kW;omega
  .cases a
def OL{d}{b:Zb}{g h i:Int}{f}(j:eD σ b<0↔bT (fi d).2 b=none)(a:hu (fi d).2 b g h i=.error f):(f=10/\eD σ b<0)\/(f=11/\¬eD σ b<0/\¬kW g h i):=by
 unfold hu at a;cases c:bT (fi d).2 b with
 |none=>rw[c]at a;cases a;exact .inl ⟨rfl,j.2 c⟩
 |some m=>
  rw[c]at a;dsimp only at a;have l:¬eD σ b<0:=λe=>by rw[j.1 e]at c;cases c
  split at a
  .cases a
  .rename_i k;cases a
   refine .inr ⟨rfl,l,λe=>k ?_⟩;unfold kW at e;simp[lf];omega
def UO{h c e f g o}(q:DH w (hu (fi h).2 c e f g) (jx (dL h) c (v.map gN) e.toNat f.toNat g.toNat) o a)(s:eD σ c<0↔bT (fi h).2 c=none)(B:w.cell? (Zd 1 0)=some (eS 55))(C:1≠d)(H:d<w.heap.size):ap [] w a/\∃z t u,o=.returned (.tuple #[.string ⟨(oB h c v e f g).toArray⟩,u])/\vK σ h c v e f g=.tuple #[.string ⟨(oB h c v e f g).toArray⟩,Y z,Y t]/\
  ((0<=eD σ c->kW e f g->tK (jx (dL h) c (v.map gN) e.toNat f.toNat g.toNat))->∀b,ap [d] a b->Calls prog 27 #[u,Y z,Y t] b λo F=>o=.returned (.bool true)/\ap [] b F):=by
 obtain⟨y,q⟩:=q;refine⟨y,?_⟩;have r:∀b,ap [d] a b->b.cell? (Zd 1 0)=some (eS 55):=λb i=>i.a2 (by simpa using C) (y.a2 Zq B);rcases q with⟨J,j,rfl⟩|⟨E,G,_,j,m,rfl,rfl⟩|⟨E,p,A,j,m,rfl,I,x⟩
 .have n:oB h c v e f g=[]:=by simp[oB,j]
  rw[n];rcases OL s j with⟨rfl,k⟩|⟨rfl,k,l⟩
  .exact⟨10,-1,_,rfl,by unfold vK;rw[Y9 k],λ_ b i=>Dj (r b i) 10 Ze⟩
  .exact⟨11,-1,_,rfl,by unfold vK;rw[Y2 k,Y9 l],λ_ b i=>Dj (r b i) 11 Ze⟩
 .have n:oB h c v e f g=G:=by simp[oB,j,m]
  obtain⟨k,l⟩:=Dc s j;rw[n];exact⟨0,0,_,rfl,by unfold vK;rw[Y2 k,Y2 (not_not_intro l),m];rfl,λ_ b i=>HB 0 b⟩
 .have n:oB h c v e f g=[]:=by simp[oB,j,m]
  obtain⟨k,l⟩:=Dc s j;rw[n];refine⟨p.no,p.y,_,rfl,by unfold vK;rw[Y2 k,Y2 (not_not_intro l),m];rfl,λD b i=>HA (r b i) ((i.ak A (ay x) Zx).trans x) (D Zm l p m)⟩
def UR{S E:Nat}{o f3}(f9:w.heap[S]?=some (.cells #[Zp E,c.rv,c.nv,c.pv,Zs σ.i] 67))(f7:tS f3 E o)(c7:∀t∈f3,w.heap[t.1]?=some t.2)(f8:nD o)(g0:∀P∈(fi o).1,mJ P)
  (K:bw i h j f σ c w) (f6:f<=1000000000) (L:w.ownsRow 0 52 5 e v.length (v.flatMap cy)) (f5:∀P∈v,-9223372036854775808<=P.n/\P.n<=9223372036854775807) (b1:v.length<=1000000) (g9:Tb σ.h g (dL o) Kn) (m:Zb) (g3:0<=eD σ m->∃a8,dL o m=some a8/\kl σ.h g a8 (eD σ m)/\(∀t∈ju a8,Kn t.1)/\lV a8) (g4:eD σ m<0↔bT (fi o).2 m=none) (c5:w.cell? (Zd 1 0)=some (eS 55)) (d k l:Int) :
  Calls prog 20 #[Zp S,Zs m,e,Y d,Y k,Y l] w λI p=>I=.returned (.tuple #[.string ⟨(oB o m v d k l).toArray⟩,.bool true])/\ap [] w p:=by
 have e7:=U (Me d k l w);have e6:=U (λa (r:ap [] w a)=>WD (bQ L r Zq) b1);have e4:=U (λa (r:ap [] w a) i1 (c6:mC a i1 (v.map gN))=>QP f7 (λt g1=>(r.ak t.1 (ay (c7 t g1)) Zq).trans (c7 t g1)) f8 g0 m c6 d k l);have e9:=U (λa (r:ap [] w a) (C:Nat) (b:Array Zv) (s:a.heap[C]?=some (Obj.cells b 87)) (c3:b.toList=oC v)=>afx (w:=a) (bQ L r Zq) s c3 b1);have B:=U (λa (r:ap [] w a)=>QQ (K.az r) f6 (bQ L r Zq) f5 g9 m g3 d k l);have h5:1<w.heap.size:=by
  rcases Yj 1 w.heap.size with s|s
  .exact s
  .simp[World.cell?,YO s]at c5
 have f1:=U (λ(a i9:Zw) (H:Ending) (r:ap [] w a) (C:Nat) (j3:w.heap.size<=C) (h4:C<a.heap.size) (s:DH a (hu (fi o).2 m d k l) (jx (dL o) m (v.map gN) d.toNat k.toNat l.toNat) H i9)=>UO (σ:=σ) s g4 (r.a2 Zq c5) Zm h4);have a0:=U f9;obtain⟨b9,c2,h9⟩:=aW K.h;obtain⟨b7,c0,h7⟩:=aW K.G;obtain⟨b8,c1,h8⟩:=aW K.ao;obtain⟨j5,j6,c6⟩:=aW L;have d5:=U (λ(a:Zw) (C:Nat) (b:Array Zv) (s:a.heap[C]?=some (Obj.cells b 87)) (c3:b.toList=oC v)=>LA s c3 b1);clear f9 f7 c7 f8 g0 K f6 L f5 b1 g9 g3 g4 c5 h5;have B:af (∀a,ap [] w a->Calls prog 35 #[gt c σ,Zs m,e,nQ d k l] a λI p=>ap [] a p/\I=.returned (vK σ o m v d k l)/\(0<=eD σ m->kW d k l->tK (jx (dL o) m (v.map gN) d.toNat k.toNat l.toNat))):=B;unfold gt at B;rw[h9,h7,h8]at B a0;subst c6;generalize (0<=eD σ m->kW d k l->tK (jx (dL o) m (v.map gN) d.toNat k.toNat l.toNat))=k1 at *
 generalize vK σ o m v d k l=j0 at *
 generalize oB o m v d k l=P at *
 generalize hu (fi o).2 m d k l=j8 at *
 generalize jx (dL o) m (v.map gN) d.toNat k.toNat l.toNat=g8 at *
 go_in;go_wp21;refine e7.i.mono ?_;rintro I n ⟨rfl,g6⟩;have d8:=U g6;clear g6 e7;go_wp21;generalize b0:World.alloc (World.alloc n _) _=a;have a2:af (ap [] w a):=by subst b0;exact(d8.i.A _).A _
 have b4:af (a.heap[n.heap.size]?=some (.cells #[Y d,Y k,Y l] 72)):=by
  subst b0;exact(((ar [] _).A _).ak _ Zq Zq).trans (be rfl)
 have a3:af (a.heap[n.heap.size+1]?=some (.cells #[Y d,Y k,Y l] 73)):=by
  subst b0;exact be Zq
 have k0:n.heap.size+1<a.heap.size:=ay a3.i;clear b0;refine(e6.i a a2.i).mono ?_;rintro I d3 ⟨b,rfl,b2,a9,c4⟩;have G:=U (a2.i.u b2);have a1:=U a9;have d6:=U c4;have z:=U ((G.i.ak _ (ay a0.i) Zq).trans a0.i);have a4:=U ((b2.ak _ (ay b4.i) Zq).trans b4.i);have b5:=U ((b2.ak _ (ay a3.i) Zq).trans a3.i);have e5:=U (e4.i d3.drew G.i.ag _ (d5.i d3.drew a.heap.size b a9 c4));have i2:d3.cell? (Zd S 0)=some (Zp E):=aC z.i rfl;have c8:=aE a4.i;have h0:=U (ay a9);have f2:=U (show w.heap.size<=a.heap.size from a2.i.aG);clear a9 c4 b2 e6 e4 d5 b4 a3 d8 a2 a0;go_wp21;refine bJ (λp=>p.cell? (Zd S 0)=some (Zp E)/\p.cell? (Zd n.heap.size 0)=some (Y d)/\p.cell? (Zd n.heap.size 1)=some (Y k)/\p.cell? (Zd n.heap.size 2)=some (Y l)) ?_ λJ=>?_
 .go_keep
 refine bf [0,1,2,3,4,5,6] ?_;iterate 7 (refine bi ?_)
 refine bg ?_;refine bI 7 λx q=>?_;(go_simp;go_at_call 33;refine e5.i.mono ?_;rintro H O f4;obtain⟨D,j7,j1,j2,rfl,h3,g2⟩:=f1.i _ _ _ G.i.ag _ f2.i h0.i f4;have b3:=U (G.i.ag.u D);have R:=U ((D.ak _ (ay z.i) Zq).trans z.i);have a5:=U ((D.ak _ (ay a4.i) Zq).trans a4.i);have b6:=U ((D.ak _ (ay b5.i) Zq).trans b5.i);have d4:=U ((D.ak _ (ay a1.i) Zq).trans a1.i);subst h3;have d7:=U g2;have c9:O.cell? (Zd S 0)=some (Zp E):=aC R.i rfl;have d0:O.cell? (Zd n.heap.size 0)=some (Y d):=aC a5.i rfl;have d1:O.cell? (Zd n.heap.size 1)=some (Y k):=aC a5.i rfl;have d2:O.cell? (Zd n.heap.size 2)=some (Y l):=aC a5.i rfl;clear D f4 g2 f1 e5);refine q.out _ _ ?_ (λJ=>?_)
 .go_keep
 clear q x;refine nz ?_;refine bf [8,9,10,11] ?_;iterate 4 (refine bi ?_)
 refine bg ?_;refine bL λx q=>?_;go_simp;refine q.out _ _ ?_;clear q x;refine nz ?_;clear c9 d0 d1 d2 c8 i2 J;have f0:=U (e9.i O b3.i a.heap.size b d4.i d6.i);go_wp21;refine f0.i.mono ?_;rintro H y ⟨rfl,M⟩;have d9:=U (show ap [] w y from b3.i.eO M (λj4 h6=>.inr (by rw[Yc.1 h6];exact f2.i)));have h2:=ay z.i;have e2:S≠a.heap.size:=by
  rintro rfl;have:=z.i.symm.trans a1.i;simp at this
 have A:=U ((M.ak _ (ay R.i) (by simpa using e2)).trans R.i);have a6:=U ((M.ak _ (ay b6.i) Zx).trans b6.i);have e1:=U M;have e8:=U (B.i y.drew d9.i.ag);have c9:y.cell? (Zd S 1)=some (.slice b9 σ.h.length c2):=aC A.i rfl;have d0:y.cell? (Zd S 2)=some (.slice b7 σ.G.length c0):=aC A.i rfl;have d1:y.cell? (Zd S 3)=some (.slice b8 σ.ao.length c1):=aC A.i rfl;have d2:y.cell? (Zd S 4)=some (Zs σ.i):=aC A.i rfl;have c8:y.cell? ⟨n.heap.size+1,0,none⟩=some (Y d):=aC a6.i rfl;have i0:=aE a6.i;clear M e9 f0 B R a5 b6 d4 a4 b5 z a1 d6 G b3 h2 e2;go_wp21;refine bJ (λp=>p.cell? (Zd S 1)=some (.slice b9 σ.h.length c2)/\p.cell? (Zd S 2)=some (.slice b7 σ.G.length c0)/\p.cell? (Zd S 3)=some (.slice b8 σ.ao.length c1)/\p.cell? (Zd S 4)=some (Zs σ.i)/\p.cell? ⟨n.heap.size+1,0,none⟩=some (Y d)/\p.cell? ⟨n.heap.size+1,1,none⟩=some (Y k)/\p.cell? ⟨n.heap.size+1,2,none⟩=some (Y l)) ?_ λJ=>?_
 .go_keep
 refine bf [0,1,2,3,4,5,6] ?_;iterate 7 (refine bi ?_)
 refine bg ?_;refine bI 7 λx q=>?_;(go_simp;go_at_call 35;refine e8.i.mono ?_;rintro H u ⟨N,rfl,g5⟩;have e0:=U (d9.i.ag.u N);have e3:=U (d7.i g5 u ((e1.i.ag).u (N.aZ Zq)));have F:=(N.ak _ (ay A.i) Zq).trans A.i;have a7:=(N.ak _ (ay a6.i) Zq).trans a6.i;have g8:u.cell? (Zd S 1)=some (.slice b9 σ.h.length c2):=aC F rfl;have i3:u.cell? (Zd S 2)=some (.slice b7 σ.G.length c0):=aC F rfl;have i4:u.cell? (Zd S 3)=some (.slice b8 σ.ao.length c1):=aC F rfl;have i5:u.cell? (Zd S 4)=some (Zs σ.i):=aC F rfl;have i6:u.cell? ⟨n.heap.size+1,0,none⟩=some (Y d):=aC a7 rfl;have i7:u.cell? ⟨n.heap.size+1,1,none⟩=some (Y k):=aC a7 rfl;have i8:u.cell? ⟨n.heap.size+1,2,none⟩=some (Y l):=aC a7 rfl;clear N g5 d7 e8 F a7 e1);refine q.out _ _ ?_ (λJ=>?_)
 .go_keep
 clear q x;refine nz ?_;refine bf [8,9,10,11,12,13] ?_;iterate 6 (refine bi ?_)
 refine bg ?_;refine bL λx q=>?_;go_simp;refine q.out _ _ ?_;clear q x;refine nz ?_;clear c9 d0 d1 d2 c8 i0 g8 i3 i4 i5 i6 i7 i8 J;go_wp21;refine e3.i.mono ?_;rintro H j9 ⟨rfl,g7⟩;have h1:=U (e0.i.u g7);clear g7 e0 e3;go_wp2;go_ret2;exact⟨rfl,h1.i⟩
end
section
variable {h : Nat -> Prop} {g e : Nat} {c : Zb} {d : ai} {a : Zw} {b : PV} {v : List cF} {f : Zv}
def US{S s:Nat}{i t y w}(l:eW (aJ c)=.ok i)(j:Wh c i y w d)(r:my w i)
  (G:a.heap[S]?=some (.cells #[Zp s,b.rv,b.nv,b.pv,.string ⟨(dG d).i.toArray⟩] 67)) (E:tS t s i) (L:∀u∈t,a.heap[u.1]?=some u.2)
  (F:bw h g c e (dG d) b a) (D:e<=1000000000) (J:a.ownsRow 0 52 5 f v.length (v.flatMap cy)) (C:∀x∈v,-9223372036854775808<=x.n/\x.n<=9223372036854775807) (K:v.length<=1000000) (m:Zb) (I:a.cell? (Zd 1 0)=some (eS 55)) (n o p:Int) :
  Calls prog 20 #[Zp S,Zs m,f,Y n,Y o,Y p] a λA M=>A=.returned (.tuple #[.string ⟨(oB i m v n o p).toArray⟩,.bool true])/\ap [] a M:=by
 have k:=j.la r (Hw l) (Po l);have q:=j.k4 (Pp l);exact UR G E L k (PB q λz H=>(Hv l z H).x) F D J C K (j.tb r k q) m (λB=>j.k9 r k q B) (j.kq k m) I n o p
end
def DX(S:Nat)(d:Zw):Prop:=∃c b f h a m l g k j e,eW (aJ c)=.ok b/\Wh c b k j e/\my j b/\d.heap[S]?=some (.cells #[Zp f,a.rv,a.nv,a.pv,.string ⟨(dG e).i.toArray⟩] 67)/\tS h f b/\(∀i∈h,d.heap[i.1]?=some i.2)/\bw m l c g (dG e) a d/\g<=1000000000
def yJ(b:List Th)(d:Zw)(S:Nat):Prop:=∀a,ap [] d a->(∀c∈b,c.At a)->DX S a
def Xs{i d b c:Zw}{S:Nat}(f:ap [] i b)(e:ap [] i c)(m:d.heap.size<=S)(n:S<b.heap.size)(k:∀j∈rI d b,j.At c):ap (List.range d.heap.size) b c:=by
 have l:∀a,d.heap.size<=a->a<b.heap.size->c.heap[a]?=b.heap[a]?:=λa g h=>by
  rw[Array.getElem?_eq_getElem h];exact k _ (abo g (Array.getElem?_eq_getElem h))
 refine⟨e.os.trans f.os.symm,e.dt.trans f.dt.symm,e.ds.trans f.ds.symm,?_,λa g h=>l a Zu g⟩;grind
def ac0{D a3}(B:eW (aJ D)=.ok a3){c}(a5:Gl c):Calls prog 16 #[Zs D] c λw O=>ap [] c O/\∃S,w=.returned (.tuple #[Zp S,.bool true])/\c.heap.size<=S/\∀P,ap [] P O->yJ (rI c O) P S:=by
 have a0:=U B;have a2:=U (RL B (λb5 b8=>(Hv B b5 b8).dK) a5);clear a5 B;go_in;go_wp21;refine a2.i.mono ?_;rintro w c5 ⟨v,b4,rfl,J,a6,H,-,a4⟩;go_wp21;refine(IL D c5).mono ?_;rintro w k ⟨K,G⟩;unfold qY at G;rw[a0.i]at G;obtain⟨b2,g,b3,b1,b0,a8,c3,b,rfl,i,A,x,h,y,z⟩:=G;obtain⟨o,r,u⟩:=aW i.h;obtain⟨m,p,s⟩:=aW i.G;obtain⟨n,q,t⟩:=aW i.ao;have a9:=U (Yp a6 (Yp (λd j=>(⟨(K.ak _ (ay (H d j)) Zq).trans (H d j),a4 d j⟩:k.heap[d.1]?=some d.2/\c.heap.size<=d.1)) (Yp i (Yp A (Yp x (Yp h (Yp y (Yp (λa (e:a<c.heap.size)=>z a (Yr e J.aG)) (Yp u (Yp s t))))))))));have E:=U (J.u K);have c1:=U (((ar [] k).A (mr (.slice o g.h.length r) (.slice m g.G.length p) (.slice n g.ao.length q) (Zs g.i))));unfold gt;rw[u,s,t];clear u s t i A x h y z a6 H a4 J K a2;go_wp21;refine(HB 0 _).mono ?_;rintro w f ⟨rfl,L⟩;have l:=(L.ak k.heap.size Zq Zq).trans (be rfl);obtain⟨c6,R,c7,c8⟩:f.cell? (Zd k.heap.size 0)=some (.slice o g.h.length r)/\f.cell? (Zd k.heap.size 1)=some (.slice m g.G.length p)/\f.cell? (Zd k.heap.size 2)=some (.slice n g.ao.length q)/\f.cell? (Zd k.heap.size 3)=some (Zs g.i):=⟨aC l rfl,aC l rfl,aC l rfl,aC l rfl⟩;have c9:=bl l;have a1:=U (c1.i.u L);have d0:=ay l;clear l L;go_wp2;go_ret2;obtain⟨b6,F,i,A,rfl,h,y,z,u,s,t⟩:=a9.i;have C:=a1.i.u ((ar [] f).A (.cells #[Zp v,.slice o (dG b).h.length r,.slice m (dG b).G.length p,.slice n (dG b).ao.length q,.string ⟨(dG b).i.toArray⟩] 67));have I:c.heap.size<=f.heap.size:=Yz E.i.aG a1.i.aG;refine⟨E.i.u C,f.heap.size,rfl,I,λP c0 c4 c2 b9=>?_⟩;have M:=Xs c0 c2 I Zq b9;have a7:∀a N,c.heap.size<=a->(f.alloc (.cells #[Zp v,.slice o (dG b).h.length r,.slice m (dG b).G.length p,.slice n (dG b).ao.length q,.string ⟨(dG b).i.toArray⟩] 67)).heap[a]?=some N->c4.heap[a]?=some N:=λa N x h=>(M.ak _ (ay h) (by simpa using x)).trans h;refine⟨D,a3,v,b4,b2,λa=>a<c.heap.size,b1,b0,a8,c3,b,a0.i,h,y,?_,b6,λd j=>a7 _ _ (F d j).2 ((C.ak _ (ay (F d j).1) Zq).trans (F d j).1),?_,A⟩
 .rw[u,s,t];exact a7 _ _ I (be rfl)
 .have b7:=i.az C;have R:c.heap.size<=(f.alloc (.cells #[Zp v,.slice o (dG b).h.length r,.slice m (dG b).G.length p,.slice n (dG b).ao.length q,.string ⟨(dG b).i.toArray⟩] 67)).heap.size:=Yz E.i.aG C.aG;exact bw.f3 (X:=λa=>a<c.heap.size) (b7.f3 (ar [] _) Zq (λa e=>Y8 (z a e)) (λa e=>Yr e R)) M Zq (λa e=>Y8 e) (λa e=>Yr e (Yz R M.aG))
section
variable {c d : Zw} {b : Nat} {s k : fq} {g h f e : Zv} {R : List Th}
def afr(B:bA (wL b s g h f e R) d c)(k:dJ)(t:ln k)(u:uZ s)(a4:k.w=9){b2}(a7:eW (aJ (fF s k.a))=.ok b2)(a2:Gl d):Calls prog 13 #[Zp b,.agg (dl k)] c λy c5=>y=.returned (.bool true)/\∃S n o c4 E,bA (wL b { s with bB:=s.bB++[S] } n o c4 e (R++E)) d c5/\yJ E d S:=by
 obtain⟨iE,p,rfl⟩:=aW (B.bv (i:=3) (a:=uN 37 f s.bB) rfl);have x:=U (zI (B.aw (.cells (dl k) 27)) k t u);rw[Nv a4]at x;have J:=U (λ(C:Zw) n o (a9:bA (wL b s n o (.slice iE s.bB.length p) e (R++[.obj c.heap.size (.cells (dl k) 27)])) d C)=>wA (s:=s) (a9.aR (i:=0) (R:=b) rfl) (a9.bv (i:=1) (a:=cS n s.av) rfl) k.a t.2.1.1 t.2.1.2 (by have:=u.av;omega));have G:=U (λ(C:Zw) (b6:ap [] d C)=>ac0 a7 (a2.ae b6 Zq Zq Zq));have b5:(s.bB.length+1)*8<=140737488355328:=by have:=u.bB;omega
 generalize fF s k.a=tx at *
 have d0:(k.w==9)=true:=Zu;clear B t u a7 a2 a4;go_in;go_wp21;refine x.i.mono ?_;rintro y c6 ⟨rfl,n,o,z⟩;have w:=U z;have K:=U (J.i c6 n o z);clear z x J;obtain⟨b7,b8,b9,c0,c1,c2,of,c3⟩:=fs w.i.g5;generalize c.heap.size=c8 at *
 go_wp21;refine K.i.mono ?_;rintro c9 v ⟨rfl,a8⟩;have q:=U (w.i.ae a8);have I:=U (G.i v q.i.fr);clear w K G a8 b7 b8 b9 c0 c1 c2 of c3;go_wp21;refine I.i.mono ?_;rintro y l ⟨A,S,rfl,b3,a0⟩;have r:=U (show bA (wL b s n o (.slice iE s.bB.length p) e (R++rI v l)) d l from q.i.c7.ic A);have b0:af (yJ (rI v l) d S):=a0 d (q.i.fr.u A);clear q I A b3 a0;have m:=r.i.aR (i:=0) (R:=b) rfl;have L:l.cell? (Zd b 6)=some (.slice iE s.bB.length p):=aC m rfl;have M:=bl m;have N:=ay m;clear m;have a5:af (∀D,(l.alloc D).ownsRow 0 37 1 (.slice iE s.bB.length p) s.bB.length (s.bB.map wt)):=U (λD=>bQ (r.i.bv (i:=3) (a:=uN 37 (.slice iE s.bB.length p) s.bB) rfl) ((ar [] l).A D) Zq);go_wp2_with (at_builtin;(refine ku Xg underlying32 (a5.i _) [wt S] (heap_alloc_new l _) Zy b5 Zq (H:=l.heap.size+1) Zq ?_;intro P O c7 a6 a3 a1 b4;have F:=U (r.i.a4 (i:=3) rfl ((ar [] l).A _) a6 a3 a1 Zq);clear a6 a3 a1 b4 a5 L M N r;have m:=F.i.aR (i:=0) (R:=b) rfl;have L:c7.cell? (Zd b 6)=some (.slice iE s.bB.length p):=aC m rfl;have M:=bl m;have N:=ay m;clear m));go_wp2;go_ret;have b1:=F.i.aq (i:=0) (j:=6) rfl (.slice (some ⟨P,0,none⟩) (s.bB.length+1) O);exact⟨rfl,S,n,o,.slice (some ⟨P,0,none⟩) (s.bB.length+1) O,rI v l,by simpa[wL,uN]using b1,b0.i⟩
def UF(f:List aD)(e:Zb)(v:List cF)(a b c:Int):(oB f e v a b c).length<=1000000000:=by
 unfold oB;split
 .simp
 .rename_i l k;split
  .rename_i m h;obtain⟨i,g,d⟩:=bZ h;split at d
   .grind
   cases d
   have j:=Fy (UI (v.map gN) a.toNat b.toNat c.toNat) 64 0 e ⟨0,[]⟩ _ (YV _) g;grind [hu,lf]
  simp
def UT{S}{v:List cF}{g}(j:DX S c)(u:c.ownsRow 0 52 5 g v.length (v.flatMap cy))(q:∀a∈v,-9223372036854775808<=a.n/\a.n<=9223372036854775807)(w:v.length<=1000000)(f:Zb)(t:c.cell? (Zd 1 0)=some (eS 55))(b d e:Int):∃a:Zb,a.length<=1000000000/\Calls prog 20 #[Zp S,Zs f,g,Y b,Y d,Y e] c λi x=>i=.returned (.tuple #[Zs a,.bool true])/\ap [] c x:=by
 obtain⟨G,h,y,E,C,D,B,A,z,F,H,k,l,m,n,o,p,r,s⟩:=j;exact⟨_,UF h f v b d e,US k l m n o p r s u q w f t b d e⟩
end
section
variable {j c : Zw} {d f : Nat} {a l : fq} {h i g e : Zv} {b : List Th} {k : dJ}
def DD(d:Nat)(c:Zw)(f:Nat)(j:Zw):Prop:=∃a h i g e b,bA (wL d a h i g e b) c j/\nt f a/\AN a/\∀S∈a.bB,yJ b c S
end
section
structure Dq where
 rv:Zv
 nv:Zv
 pv:Zv
 ov:Zv
 d:Nat
 f:Nat
 z:Nat
 b:Zb
structure Ds where
 l:List cF
 p:Nat
 e:Int
 wh:Int
abbrev rA(q:Dq)(s:Ds)(a:Zv):Array Zv:=#[q.rv,q.nv,q.pv,q.ov,Y q.d,Y q.f,Y q.z,a,Zs q.b,Y s.p,Y s.e,Y s.wh]
abbrev xk(q:Dq)(s:Ds)(a:Zv):Obj:=.cells (rA q s a) 203
def Dw(c:Nat)(q:Dq)(R:List Th)(g:Zw)(s:Ds)(w:Zw):Prop:=∃a,bA (.obj c (xk q s a)::fX a s.l::R) g w
section
variable {g w h : Zw} {c : Nat} {q : Dq} {s m : Ds} {R : List Th}
def Dw.ae(a:Dw c q R g s w)(b:ap [] w h):Dw c q R g s h:=a.imp λ_ a=>a.ae b
theorem Dw.aw(a:Dw c q R g s w)(b:Obj):Dw c q (R++[.obj w.heap.size b]) g s (w.alloc b):=a.imp λ_ a=>(a.A b).h9
def Dw.c7{a:Th}(b:Dw c q (R++[a]) g s w):Dw c q R g s w:=b.imp λd b=>JN (L:=.obj c (xk q s d)::fX d s.l::R) b
def Dw.fr(a:Dw c q R g s w):ap [] g w:=a.elim λ_ a=>a.fr
theorem Dw.br{a}{d:Obj}(b:Dw c q R g s w)(e:Th.obj a d∈R):w.heap[a]?=some d:=b.elim λ_ b=>b.y (.obj a d) (Y5 _ (Y5 _ e))
def Dw.op(d:Dw c q R g s w):∃ad b,bA (.obj c (xk q s (.slice ad s.l.length b))::fX (.slice ad s.l.length b) s.l::R) g w:=by
 obtain⟨e,d⟩:=d;obtain⟨ad,b,rfl⟩:=aW (d.bv (i:=1) (a:=fX e s.l) rfl);exact⟨ad,b,d⟩
def Dw.K(d:Dw c q R g s w):∃ad a,(∀i,w.cell? (Zd c i)=(rA q s (.slice ad s.l.length a))[i]?)/\(∀i,w.frozen? ⟨c,i,none⟩=false)/\c<w.heap.size:=by
 obtain⟨ad,a,d⟩:=d.op;have b:=d.aR (i:=0) (R:=c) rfl;exact⟨ad,a,aE b,bl b,ay b⟩
def Dw.iZ(a:Dw c q R g s w)(b:Nat):Dw c q R g { s with p:=b } (w.setCell ⟨c,9,none⟩ (Y b)):=a.imp λ_ a=>a.aq (i:=0) (j:=9) rfl (Y b)
def vd(c:Nat)(q:Dq)(R:List Th)(g:Zw)(m:Ds)(v:Zv)(a:Ending)(h:Zw):Prop:=a=.returned v/\Dw c q R g m h
def fQ{a args v}{Q:Ending->Zw->Prop}(i:af (Dw c q R g s w))(b:Dw c q R g s w->Calls prog a args w (vd c q R g m v))(d:∀h,af (Dw c q R g m h)->Q (.returned v) h):Calls prog a args w Q:=
 (b i.i).mono λ_ h ⟨e,f⟩=>e▸d h (U f)
def hG(e a:Int)(s:Ds):Ds:=if s.e=0 then { s with e:=e,wh:=a }else s
def qk(e d:Int)(b:Dw c q R g s w):Calls prog 107 #[Zp c,Y e,Y d] w (vd c q R g (hG e d s) (.tuple #[])):=by
 obtain⟨ad,m,l,n,o⟩:=b.K;have k:=U b;unfold hG;by_cases a:s.e=0
 .have f:(s.e==0)=true:=by simp[a]
  rw[Y9 a];clear a;go_in;go_wp2;go_end0;obtain⟨h,b⟩:=b;exact⟨rfl,h,(b.aq (i:=0) (j:=10) rfl (Y e)).aq (i:=0) (j:=11) rfl (Y d)⟩
 .have f:(s.e==0)=false:=by simp[a]
  rw[Y2 a];clear a;go_in;go_wp2;go_end0;exact⟨rfl,b⟩
def fd(a:Zb)(s:Ds):Nat×Ds:=if s.e≠0 then (0,s)else if a.length<s.p+4 then (0,{ s with e:=16,wh:=s.p })else (du ((a.drop s.p).take 4),{ s with p:=s.p+4 })
def xj(G:q.b.length<=1000000000)(O:s.p<=1000000000)(r:Dw c q R g s w):Calls prog 176 #[Zp c] w (vd c q R g (fd q.b s).2 (Y (fd q.b s).1)):=by
 obtain⟨ad,m,j,k,l⟩:=r.K;have d:=U r;unfold fd;clear r;by_cases f:s.e=0
 .have x:(s.e==0)=true:=by simp[f]
  have y:(s.e != 0)=false:=by simp[f]
  rw[Y2 (not_not_intro f)];have u:=U f;clear f;by_cases n:q.b.length<s.p+4
  .have A:(q.b.length:Int)-s.p<4:=Zm;rw[Y9 n];clear n;go_in;go_wp2;go_region;have d:=U (d.i.ae (ar [] w).ag);go_wp21;refine fQ d (qk 16 s.p) λE d=>?_;unfold hG at d;rw[Y9 u.i]at d;obtain⟨ad,m,j,k,l⟩:=d.i.K;go_wp2;go_ret;exact⟨rfl,d.i⟩
  .have A:¬(q.b.length:Int)-s.p<4:=Zm;rw[Y2 n];go_in;go_wp2;go_region;have d:=U (d.i.ae (ar [] w).ag);generalize w.drew=E at *
   clear j k l;obtain⟨ad,m,j,k,l⟩:=d.i.K;go_wp2;go_loopw [3,4] (λi o D=>∃a:Nat,o=Y a/\a<=4/\i=Y (du ((q.b.drop s.p).take a))/\af (Dw c q R g s D)) (λ_ o _=>4-(intOf o).toNat)
   case atStart=>exact⟨0,rfl,Zm,by simp[du],d⟩
   case round=>
    obtain⟨a,rfl,L,rfl,d⟩:=hrel;clear j k l;obtain⟨ad,m,j,k,l⟩:=d.i.K;rcases Yj a 4 with C|I
    .have N:s.p+a<q.b.length:=Zm;have B:af (du ((q.b.drop s.p).take (a+1))=du ((q.b.drop s.p).take a)*256+q.b[s.p+a].toNat):=U (by rw[Yt Zx,Eo];simp);have H:du ((q.b.drop s.p).take a)<256 ^ 3:=Yr (En _ _ rfl) (Nat.pow_le_pow_right Zm Zx);have M:(a:Int)<4:=Zm;have a2:=q.b[s.p+a].toNat_lt;have J:0<=(s.p:Int)+a/\(s.p:Int)+a<q.b.length:=Zm;have P:IntKind.i64.wrap ((s.p:Int)+a)=s.p+a:=by rw[IntKind.wrap_i64];omega
     have K:∀z,(⟨q.b.toArray⟩:Za)[((s.p:Int)+a).toNat]'z=q.b[s.p+a]:=λ_=>rfl;generalize du ((q.b.drop s.p).take a)=i at *
     have S:IntKind.i64.wrap (256*(i:Int))=256*i:=by rw[IntKind.wrap_i64];omega
     have a0:IntKind.i64.wrap (q.b[s.p+a].toNat:Int)=q.b[s.p+a].toNat:=by rw[IntKind.wrap_i64];omega
     have a1:IntKind.i64.wrap (256*(i:Int)+q.b[s.p+a].toNat)=256*i+q.b[s.p+a].toNat:=by rw[IntKind.wrap_i64];omega
     go_wp2;refine bJ (λh=>h.cell? (Zd c 8)=some (Zs q.b)/\h.cell? (Zd c 9)=some (Y s.p)) ?_ λF=>?_
     .go_keep
     refine bf [0,1,2,3,4,5,6,7,8,9,10,11,12,13,14] ?_;iterate 15 (refine bi ?_)
     refine bg ?_;refine bL λv t=>?_;go_simp;refine t.out _ _ ?_;clear t v;refine nz ?_;go_wp2;exact⟨⟨a+1,Zj,C,by rw[B.i];exact Yo _ Zm,U (d.i.ae (ar [] _).ag)⟩,Zz⟩
    .obtain rfl:a=4:=Zm;go_wp2;go_ret;exact⟨rfl,d.i.iZ _⟩
 .have x:(s.e==0)=false:=by simp[f]
  have y:(s.e != 0)=true:=by simp[f]
  rw[Y9 f];clear f;go_in;go_wp2;go_region;have d:=U (d.i.ae (ar [] w).ag);go_wp2;go_ret;exact⟨rfl,d.i⟩
def lu(a:cF)(s:Ds):Ds:={ s with l:=s.l++[a] }
def Np(c:cF):∀b∈cy c,b.oneCell'=true:=by
 intro b a;simp[cy]at a;rcases a with rfl|rfl|rfl|rfl|rfl<;>rfl
def qj(f:cF)(D:s.l.length<=100000)(k:Dw c q R g s w):Calls prog 178 #[Zp c,.agg (cy f).toArray] w (vd c q R g (lu f s) (.tuple #[])):=by
 obtain⟨z,k⟩:=k;obtain⟨ad,r,rfl⟩:=aW (k.bv (i:=1) (a:=fX z s.l) rfl);have d:=U (k.A (.cells (cy f).toArray 52)).ag;have m:=aC (d.i.aR (i:=1) (R:=c) rfl) (i:=7) rfl;have n:=aE (d.i.aR (i:=0) (R:=w.heap.size) rfl);clear k;go_in;go_wp2;generalize w.alloc _=A at *
 refine bJ (λh=>h.cell? (Zd c 7)=some (.slice ad s.l.length r)/\∀b,h.cell? (Zd w.heap.size b)=(cy f).toArray[b]?) ?_ λo=>?_
 .exact⟨m,n⟩
 generalize A.drew=p at *
 refine bf [0,1,2,3,4] ?_;iterate 5 (refine bi ?_)
 refine bg ?_;refine bI 5 λi e=>?_;(go_simp;have d:=U (d.i.A (.cells (cy f).toArray 52));have m:=aC (d.i.aR (i:=2) (R:=c) rfl) (i:=7) rfl;have n:=aE (d.i.aR (i:=1) (R:=w.heap.size) rfl));refine e.out _ _ ?_ (λo=>?_)
 .go_keep
 clear e i;refine nz ?_;refine bI 6 λi e=>?_;(refine mh (B:=p.heap.size) BE underlying31 (d.i.bv (i:=3) rfl) (cy f) (heap_alloc_new p _) (Np f) Zm (YV _) rfl ?_;intro u t F y x v E;have d:=U (d.i.a4 (i:=3) rfl (ar [] _) y x v rfl);have m:=aC (d.i.aR (i:=2) (R:=c) rfl) (i:=7) rfl;have n:=aE (d.i.aR (i:=1) (R:=w.heap.size) rfl));refine e.out _ _ ?_ (λo=>?_)
 .go_keep
 clear e i;refine nz ?_;refine bL λi e=>?_;go_simp;refine e.out _ _ ?_;clear e i;refine nz ?_;have C:=bl (d.i.aR (i:=2) (R:=c) rfl);go_wp2;go_end0;exact⟨rfl,_,by simpa[lu,fX]using (d.i.aq (i:=2) (j:=7) rfl (.slice (some ⟨u,0,none⟩) (s.l.length+1) t)).au.au⟩
def mq(b:bt)(a:Nat):Int:=if 2147483647<a/\(b.w=0\/b.w=5)then (a:Int)-4294967296 else a
end
section
variable {r : Nat -> Prop} {o N : Nat} {t : Zb} {k : ai} {w : Zw} {n : PV}
def Ow(c:bw r o t N k n w){a:Nat}(d:a<k.h.length){b:Nat}(m:b<4294967296):Calls prog 177 #[gt n k,Y a,Y b] w λf h=>f=.returned (Y (mq (k.h.getD a bz) b))/\ap [] w h:=by
 obtain⟨j,i,q,e,g,u,-,-,v,-,-,-,-,x,y,-⟩:=nY c d;generalize k.h.getD a bz=p at *
 have l:(a:Int)<(k.h.length:Int):=Zm;unfold gt;rw[e];generalize k.h.length=s at *
 clear c e d g;go_in;go_wp2;all_goals
  go_ret;refine⟨?_,(ar [] w).A _⟩;unfold mq;simp_all;try omega
end
end
section
variable {h f d : Zw} {c : Nat} {q : Dq} {a i : Ds} {g : List Th}
def js(b:Zb)(rH:Int)(a:Ds):Nat×Ds:=((fd b a).1,if(fd b a).2.e=0/\rH<(fd b a).1 then hG 19 a.p (fd b a).2 else (fd b a).2)
def KF(z:q.b.length<=1000000000)(A:a.p<=1000000000)(rH:Int)(n:Dw c q g h a f):Calls prog 180 #[Zp c,Y rH] f (vd c q g h (js q.b rH a).2 (Y (js q.b rH a).1)):=by
 obtain⟨ad,w,r,s,t⟩:=n.K;have d:=U n;clear n;generalize j:js q.b rH a=v;unfold js at j;have o:=U j;clear j;go_in;go_wp21;refine fQ d (xj z A) λC d=>?_;generalize fd q.b a=B at *
 obtain⟨m,k⟩:=B;dsimp only at *
 clear r s t;obtain⟨ad,w,r,s,t⟩:=d.i.K;by_cases i:k.e=0/\rH<m
 .have u:(k.e==0)=true:=by simp[i.1]
  have j:af (v=(m,hG 19 a.p k)):=U (by rw[<-o.i,Y9 i]);have y:=i.2;clear i;go_wp21;refine fQ d (qk 19 a.p) λD d=>?_;go_wp2;go_ret;rw[j.i];exact⟨rfl,d.i⟩
 .have j:af (v=(m,k)):=U (by rw[<-o.i,Y2 i]);by_cases l:k.e=0
  .have u:(k.e==0)=true:=by simp[l]
   have y:¬rH<m:=λx=>i ⟨l,x⟩;clear i l;go_wp2;go_ret;rw[j.i];exact⟨rfl,d.i⟩
  .have u:(k.e==0)=false:=by simp[l]
   clear i l;go_wp2;go_ret;rw[j.i];exact⟨rfl,d.i⟩
def qN(c:Zb)(b:Nat)(a:Ds):Ds:=if a.e≠0 then a else if c.length<a.p+cB b then { a with e:=16,wh:=a.p }else
 match jb b (((c.drop a.p).take (cB b)).drop b)with
 |some d=>⟨a.l++[⟨2,0,((c.drop a.p).take (cB b)).take b,a.p,0⟩],a.p+cB b,17,a.p+d⟩
 |none=>⟨a.l++[⟨2,0,((c.drop a.p).take (cB b)).take b,a.p,0⟩],a.p+cB b,a.e,a.wh⟩
def Cv(c:Zb)(b:Nat)(a:Ds)(f:Nat)(d g:Int):Prop:=(d=0/\g=a.wh/\jb b (c.drop b)=jb (b+f) (c.drop (b+f)))\/∃e,jb b (c.drop b)=some e/\d=17/\g=a.p+e
def KQ(b4:q.b.length<=1000000000)(c1:a.p<=1000000000)(a1:a.l.length<=100000){n:Nat}(c0:n<4294967296)(O:Dw c q g h a f):Calls prog 179 #[Zp c,Y n] f (vd c q g h (qN q.b n a) (.tuple #[])):=by
 obtain⟨ad,B,r,s,t⟩:=O.K;have e:=U O;clear O;generalize M:qN q.b n a=b1;unfold qN at M;have w:=U M;clear M;obtain⟨m,z,c2,a3⟩:∃m:Nat,af (cB n=n+m)/\m<4/\(4-(n:Int) % 4) % 4=m:=⟨cB n-n,U (by unfold cB;omega),by unfold cB;omega,by unfold cB;omega⟩;have c4:IntKind.i64.wrap ((n:Int)+m)=n+m:=by rw[IntKind.wrap_i64];omega
 have c5:IntKind.i64.wrap ((q.b.length:Int)-a.p)=q.b.length-a.p:=by rw[IntKind.wrap_i64];omega
 have c6:IntKind.i64.wrap ((a.p:Int)+n)=a.p+n:=by rw[IntKind.wrap_i64];omega
 go_in;go_upto_region 1 with fail;simp only[a3];clear a3;by_cases x:a.e=0
 .have a4:(a.e==0)=true:=by simp[x]
  have a5:(a.e != 0)=false:=by simp[x]
  have H:=U (w.i.symm.trans (Y2 (not_not_intro x)));have J:=U x;clear x w;by_cases N:q.b.length<a.p+cB n
  .have L:(q.b.length:Int)-a.p<n+m:=by have:=z.i;omega
   have w:=U (H.i.trans (Y9 N));clear N H;refine bJ (λd=>d.cell? (Zd c 10)=some (Y a.e)/\d.cell? (Zd c 8)=some (Zs q.b)/\d.cell? (Zd c 9)=some (Y a.p)) ?_ λR=>?_
   .go_keep
   refine bf [0,1,2,3,4,5,6,7,8,9,10,11,12,13,14,15,16,17,18,19] ?_;iterate 20 (refine bi ?_)
   refine bg ?_;refine bL λD y=>?_;go_simp;refine y.out _ _ ?_;clear y D;refine nz ?_;have e:=U (e.i.ae (ar [] f).ag);go_wp21;refine fQ e (qk 16 a.p) λb2 e=>?_;unfold hG at e;rw[Y9 J.i]at e;obtain⟨ad,B,r,s,t⟩:=e.i.K;go_wp2;go_end0;rw[w.i];exact⟨rfl,e.i⟩
  .have L:¬(q.b.length:Int)-a.p<n+m:=by have:=z.i;omega
   have w:=U (H.i.trans (Y2 N));clear H;refine bJ (λd=>d.cell? (Zd c 10)=some (Y a.e)/\d.cell? (Zd c 8)=some (Zs q.b)/\d.cell? (Zd c 9)=some (Y a.p)) ?_ λR=>?_
   .go_keep
   refine bf [0,1,2,3,4,5,6,7,8,9,10,11,12,13,14,15,16,17,18,19] ?_;iterate 20 (refine bi ?_)
   refine bg ?_;refine bL λD y=>?_;go_simp;refine y.out _ _ ?_;clear y D;refine nz ?_;have e:=U (e.i.ae (ar [] f).ag);generalize f.drew=P at *
   clear r s t;obtain⟨ad,B,r,s,t⟩:=e.i.K;have c3:0<=(a.p:Int)/\(a.p:Int)<=a.p+n/\(a.p:Int)+n<=q.b.length:=by have:=z.i;omega
   have hcut:(⟨q.b.toArray⟩:Za).extract a.p ((a.p:Int)+n).toNat=⟨(((q.b.drop a.p).take (cB n)).take n).toArray⟩:=by
    rw[show ((a.p:Int)+n).toNat=a.p+n by omega,KD,List.take_take,Nat.min_eq_left (by have:=z.i;omega)]
   go_wp2;have e:=U (e.i.ae (ar [] P).ag);refine bJ (λd=>d.cell? (Zd c 8)=some (Zs q.b)/\d.cell? (Zd c 9)=some (Y a.p)) ?_ λR=>?_
   .go_keep
   refine bf [0,1,2,3,4,5,6,7,8,9,10,11,12,13,14,15,16,17,18,19,20] ?_;iterate 21 (refine bi ?_)
   refine bg ?_;refine bL λD y=>?_;(go_simp;refine fQ e (qj ⟨2,0,((q.b.drop a.p).take (cB n)).take n,a.p,0⟩ a1) λb2 e=>?_);refine y.out _ _ ?_;clear y D;refine nz ?_;unfold lu at e;clear r s t;obtain⟨ad,B,r,s,t⟩:=e.i.K;have e:=U (e.i.iZ (a.p+n));generalize S:(q.b.drop a.p).take (cB n)=o at *
   have K:af (o.length=n+m/\∀F (k:a.p+F<q.b.length) (a7:F<o.length),o[F]=q.b[a.p+F]):=U (by subst S;have:=z.i;exact⟨Zx,λF k a7=>by simp⟩);have u:af (Cv o n a 0 0 a.wh):=U (Y8 ⟨rfl,rfl,rfl⟩);rw[J.i]at e;clear S;go_wp2;go_loopw [5] (λA P=>∃(i:Nat) (j v:Int),A=Y i/\i<=m/\af (Cv o n a i j v)/\af (Dw c q g h ⟨a.l++[⟨2,0,o.take n,a.p,0⟩],a.p+n+i,j,v⟩ P)) (λA _=>m-(intOf A).toNat)
   case atStart=>exact⟨0,0,a.wh,rfl,Zm,u,e⟩
   case round=>
    clear e u r s t;obtain⟨i,j,v,rfl,b8,u,e⟩:=hrel;obtain⟨ad,B,r,s,t⟩:=e.i.K;rcases Yj i m with a2|b5
    .have a1:a.p+n+i<q.b.length:=by have:=z.i;omega
     have b9:(i:Int)<m:=Zm;have b6:0<=(a.p:Int)+n+i/\(a.p:Int)+n+i<q.b.length:=Zm;have b7:∀k,(⟨q.b.toArray⟩:Za)[((a.p:Int)+n+i).toNat]'k=q.b[a.p+n+i]:=λ_=>rfl;have c7:IntKind.i64.wrap ((a.p:Int)+n+i+1)=a.p+n+i+1:=by rw[IntKind.wrap_i64];omega
     go_upto_region 9 with fail;have e:=U (e.i.ae (ar [] wr).ag);go_region;generalize wr.drew=c8 at *
     clear r s t;obtain⟨ad,B,r,s,t⟩:=e.i.K;have E:n+i<o.length:=by have:=K.i.1;omega
     have I:o[n+i]=q.b[a.p+n+i]:=by rw[K.i.2 (n+i) Zm E];congr 1;omega
     by_cases C:q.b[a.p+n+i]=0
     .have b0:((q.b[a.p+n+i].toNat:Int) != 0)=false:=by simp[C]
      have u:af (Cv o n a (i+1) j v):=U (u.i.imp (λ⟨a8,L,a9⟩=>⟨a8,L,Kd (i:=n+i) E a9 (I.trans C)⟩) id);have e:=U (e.i.iZ (a.p+n+(i+1)));clear C I E;go_wp2;exact⟨⟨i+1,j,v,Zj,a2,u,e⟩,Zz⟩
     .have b0:((q.b[a.p+n+i].toNat:Int) != 0)=true:=by
       have:q.b[a.p+n+i].toNat≠0:=λk=>C (UInt8.toNat_inj.1 (by simpa using k));simpa using this
      have a0:=(Kc (n:=n) E · (by rw[I];exact C));have u:af (Cv o n a (i+1) (if j=0 then 17 else j) (if j=0 then ((a.p+n+i:Nat):Int)else v)):=U (by
       rcases u.i with⟨rfl,rfl,k⟩|⟨A,k,rfl,rfl⟩
       .exact Ya ⟨n+i,a0 k,rfl,Zx⟩
       .exact Ya ⟨A,k,rfl,rfl⟩)
      clear C I E a0;go_wp21;refine fQ e (qk 17 ((a.p+n+i:Nat):Int)) λc9 e=>?_;have G:hG 17 ((a.p+n+i:Nat):Int) ⟨a.l++[⟨2,0,o.take n,a.p,0⟩],a.p+n+i,j,v⟩=⟨a.l++[⟨2,0,o.take n,a.p,0⟩],a.p+n+i,if j=0 then 17 else j,if j=0 then ((a.p+n+i:Nat):Int)else v⟩:=by
       unfold hG;by_cases k:j=0<;>simp[k]
      rw[G]at e;generalize (if j=0 then (17:Int)else j)=a6 at *
      generalize (if j=0 then ((a.p+n+i:Nat):Int)else v)=b3 at *
      clear r s t G;obtain⟨ad,B,r,s,t⟩:=e.i.K;have e:=U (e.i.iZ (a.p+n+(i+1)));go_wp2;exact⟨⟨i+1,a6,b3,Zj,a2,u,e⟩,Zz⟩
    .obtain rfl:i=m:=Zm;have G:af (b1=⟨a.l++[⟨2,0,o.take n,a.p,0⟩],a.p+n+i,j,v⟩):=U (by
      rw[w.i,z.i,<-Nat.add_assoc];rcases u.i with⟨rfl,rfl,k⟩|⟨A,k,rfl,rfl⟩
      .rw[k,List.drop_of_length_le (by have:=K.i.1;omega)];simp[jb,J.i]
      .rw[k])
     go_wp2;go_end0;rw[G.i];exact⟨rfl,e.i⟩
 .have a4:(a.e==0)=false:=by simp[x]
  have a5:(a.e != 0)=true:=by simp[x]
  have w:=U (w.i.symm.trans (Y9 x));clear x;go_region;have e:=U (e.i.ae (ar [] f).ag);go_wp2;go_end0;rw[w.i];exact⟨rfl,e.i⟩
end
section
variable {u : Nat -> Prop} {t r : Nat} {v : Zb} {d : ai} {o j k : Zw} {f : PV} {c : Nat} {s : Ds} {g a h : Nat} {b : Zb} {m : List Th}
abbrev dS(f:PV)(d:ai)(g a h:Nat)(b:Zb):Dq:=⟨f.rv,f.nv,f.pv,Zs d.i,g,a,h,b⟩
def mF(c:Nat)(d:Dq)(m:List Th)(j:Zw)(Q:Ds->Prop)(b:Ending)(e:Zw):Prop:=b=.returned (.tuple #[])/\∃a,Q a/\Dw c d m j a e
def NJ{d}(b:s.e≠0)(h g:Int)(a:Dw c d m j s o):Calls prog 108 #[Zp c,Y h,Y g] o (vd c d m j s (.tuple #[])):=by
 obtain⟨ad,k,i,l,n⟩:=a.K;have p:(s.e != 0)=true:=by simpa using b
 have f:=U a;clear a b;go_in;go_wp2;go_end0;exact⟨rfl,f.i⟩
def xD(a:bt)(b:Zb)(s:Ds):Ds:=lu ⟨1,mq a (fd b s).1,[],0,0⟩ (if(fd b s).2.e=0/\gg a (mq a (fd b s).1)=false then hG 18 s.p (fd b s).2 else (fd b s).2)
def qL(b:Zb)(s:Ds):Ds:=if b.length<s.p+8 then hG 16 s.p s else s
def yq(b:Zb)(s:Ds):Ds:=lu ⟨1,lH ((fd b (qL b s)).1*4294967296+(fd b (fd b (qL b s)).2).1),[],0,0⟩ (fd b (fd b (qL b s)).2).2
def ta(a:bt)(b:Zb)(s:Ds):Ds:=if a.w=2\/a.w=3 then yq b s else if a.w<=5 then xD a b s else if a.w=6 then qN b a.n.toNat s else qN b (js b a.n s).1 (js b a.n s).2
def ab2{a c:Nat}(f:a<4294967296)(g:c<4294967296):bits .or .i64 (wrap64 ((a:Int)*4294967296)) c=lH (a*4294967296+c):=by
 have d:(BitVec.ofInt 64 (wrap64 ((a:Int)*4294967296))).toNat=a*4294967296:=by
  rw[BitVec.toNat_ofInt];unfold wrap64;omega
 have e:(BitVec.ofInt 64 (c:Int)).toNat=c:=by
  rw[BitVec.toNat_ofInt];omega
 have key:(BitVec.ofInt 64 (wrap64 ((a:Int)*4294967296)) ||| BitVec.ofInt 64 (c:Int)).toNat=a*4294967296+c:=by
  rw[BitVec.toNat_or,d,e];have:=Nat.shiftLeft_add_eq_or_of_lt (i:=32) (b:=c) Zm a;rw[Nat.shiftLeft_eq]at this;exact this.symm
 show IntKind.i64.wrap ((BitVec.ofInt 64 (wrap64 ((a:Int)*4294967296)) ||| BitVec.ofInt 64 (c:Int)).toNat:Nat)=_;rw[key,IntKind.wrap_i64];unfold lH;split<;>omega
def sU(b:Zb)(s:Ds):(fd b s).1<4294967296:=by
 unfold fd;split
 .simp
 .split
  .simp
  .exact Yr (En _ _ rfl) (Yz (Nat.pow_le_pow_right Zm (show _<=4 by simp;omega)) Zm)
def xp(b:Zb){s:Ds}(a:s.p<=b.length):(fd b s).2.p<=b.length/\(fd b s).2.l=s.l:=by
 unfold fd;split
 .exact⟨a,rfl⟩
 .split
  .exact⟨a,rfl⟩
  .exact⟨Zx,rfl⟩
def KA(b:Zb)(c:Int){s:Ds}(a:s.p<=b.length):(js b c s).2.p<=b.length/\(js b c s).2.l=s.l:=by
 unfold js hG;split
 .split<;>exact xp b a
 .exact xp b a
def ac2(a3:bw u t v r d f j){N:Nat}(a9:N<d.h.length){n:bt}(c1:d.h.getD N bz=n)(f6:n.w≠14/\0<=n.w)(f8:n.aI.length<=1000000000)(b0:n.w=6->0<=n.n/\n.n<=4294967295)(i1:a<=100000)(h8:b.length<=100000000)(c5:Nat)(d2:s.e=0)(b9:s.p<=b.length)(i4:s.l.length<=a)(b1:Dw c (dS f d g a h b) m j s o){Q:Ds->Prop}
  (hF:a<=s.l.length->Q (hG 15 s.p s)) (d1:s.l.length<a->n.w<=8->Q (ta n b s))
  (c9:s.l.length<a->8<n.w->∀q a8 E,f.ls[N]?=some q->Dw c (dS f d g a h b) a8 j s E->Calls prog 181 #[Zp c,.agg (eB n q).toArray,Y c5] E (mF c (dS f d g a h b) a8 j Q)) :
  Calls prog 108 #[Zp c,Y N,Y c5] o (mF c (dS f d g a h b) m j Q):=by
 obtain⟨ad,K,w,z,A⟩:=b1.K;obtain⟨h7,h6,c2,a5,B,g5,g6,g7,g8,g9,h0,h1,h2,h3,h4,h5⟩:=nY (a3.az b1.fr) a9;have c6:d.h[N]?=some (d.h.getD N bz):=by simp[a9]
 obtain⟨d5,d6⟩:=a3.dp N _ c2 c6 B;have e6:=U (λ(k:Zw) (a4:ap [] j k) (C:Int)=>Bv (a3.az a4) a9 (by rw[c1];exact f8) C);have e7:=U (λ(k:Zw) (a4:ap [] j k) {C:Nat} (L:C<4294967296)=>Ow (a3.az a4) a9 L);have I:=U (λH S a8 E=>c9 H S c2 a8 E B);rw[c1]at *
 obtain⟨e1,e2,H⟩:=aW d5;obtain⟨d7,d8,S⟩:=aW d6;obtain⟨a6,O⟩:=c2;simp only at H S;subst H S;have i2:(N:Int)<(d.h.length:Int):=Zm;have i:=U (b1.aw (.cells (eB n (.slice e1 n.aI.length e2,.slice d7 n.aB.length d8)).toArray 117));simp only[rA,a5]at w;have i3:(n.w==14)=false:=by simpa using f6.1
 have h9:(s.e != 0)=false:=by simp[d2]
 clear a3 b1 d5 d6 c6 B c9 c1;go_in;go_upto_region 6 with fail;generalize a4:o.alloc _=k at *
 clear w z A g5 g6 g7 g8 g9 h0 h1 h2 h3 h4 h5;obtain⟨ad,K,w,z,A⟩:=i.i.K;have x:=i.i.br (Ym m Yb);have f0:k.cell? (Zd c 7)=some (.slice ad s.l.length K):=w 7;have e9:k.cell? (Zd c 5)=some (Y a):=w 5;refine bJ (λE=>E.cell? (Zd c 7)=some (.slice ad s.l.length K)/\E.cell? (Zd c 5)=some (Y a)) ?_ λd0=>?_
 .go_keep
 refine bf [0,1,2,3,4,5,6,7,8,9] ?_;iterate 10 (refine bi ?_)
 refine bg ?_;refine bL λb5 a2=>?_;go_simp;refine a2.out _ _ ?_;clear a2 b5;refine nz ?_;have i:=U (i.i.ae (ar [] k).ag);have x:=(((ar [] k).ag).ak _ (ay x) Zq).trans x;generalize k.drew=D at *
 clear w z A f0 e9 d0 a4;obtain⟨ad,K,w,z,A⟩:=i.i.K;have e3:D.cell? (Zd o.heap.size 0)=some (Y n.w):=aC x rfl;by_cases H:a<=s.l.length
 .have f3:(a:Int)<=s.l.length:=Zm;have y:=U (hF H);go_wp21;refine fQ i (qk 15 s.p) λa7 i=>?_;go_wp2;go_end0;exact⟨rfl,_,y.i,i.i.c7⟩
 .have f3:¬(a:Int)<=s.l.length:=Zm;have d4:s.l.length<a:=Zm;have I:=U (I.i d4);have F:=U (d1 d4);clear hF d1 H;have c3:D.cell? (Zd o.heap.size 1)=some (Y n.n):=aC x rfl;have i0:(s.e==0)=true:=by simp[d2]
  go_upto_if 76 with fail;go_cut [76] (λG wc=>G=.bool (decide (n.w=0\/n.w=1\/n.w=4\/n.w=5))/\D=wc);case first=>
   go_wp2;all_goals
    go_meet;refine⟨Yo Value.bool ?_,rfl⟩;rw[Bool.eq_iff_iff];simp_all
  case rest=>
  obtain⟨rfl,rfl⟩:=hcut;by_cases L:n.w=0\/n.w=1\/n.w=4\/n.w=5
  .rw[decide_eq_true L];have y:af (Q (xD n b s)):=U (by have:=F.i Zm;unfold ta at this;rwa[Y2 Zm,Y9 Zm]at this);clear L F I;generalize x:xD n b s=g2 at y;unfold xD at x;have J:=U x;clear x;go_wp21;refine fQ i (xj (q:=dS f d g a h b) (by dsimp only;omega) Zm) λa7 i=>?_;have f7:=sU b s;have d3:=U (xp b b9);dsimp only at *
   generalize fd b s=P at *
   obtain⟨C,a1⟩:=P;dsimp only at *
   clear w z A e3 c3 x;obtain⟨ad,K,w,z,A⟩:=i.i.K;simp only[rA,a5]at w;have b6:=U (e7.i a7 i.i.fr f7);unfold gt at b6;simp only[a5]at b6;go_wp21;refine b6.i.mono ?_;rintro c7 b2 ⟨rfl,f9⟩;have i:=U (i.i.ae f9);clear w z A;obtain⟨ad,K,w,z,A⟩:=i.i.K;simp only[rA,a5]at w;have b7:=U (e6.i b2 i.i.fr (mq n C));unfold gt at b7;simp only[a5]at b7;generalize mq n C=c4 at *
   go_wp21;refine b7.i.mono ?_;rintro c7 e5 ⟨rfl,g0⟩;have i:=U (i.i.ae g0);clear w z A;obtain⟨ad,K,w,z,A⟩:=i.i.K;generalize gg n c4=c8 at *
   go_upto_region 18 with fail;go_cut [105] (λG wc=>G=.bool (decide (a1.e=0/\c8=false))/\e5=wc);case first=>
    go_wp2;all_goals
     go_meet;refine⟨Yo Value.bool ?_,rfl⟩;rw[Bool.eq_iff_iff];simp_all
   case rest=>
   obtain⟨rfl,rfl⟩:=hcut;by_cases B:a1.e=0/\c8=false
   .rw[decide_eq_true B];have J:=U (J.i.symm.trans (Yo (lu _) (Y9 B)));clear B;go_wp21;refine fQ i (qk 18 s.p) λg3 i=>?_;go_wp21;refine fQ i (qj ⟨1,c4,[],0,0⟩ ?_) λg4 i=>?_
    .have:=d3.i.2;unfold hG;split<;>simp only[this]<;>omega
    go_wp2;go_end0;exact⟨rfl,_,y.i,J.i▸i.i.c7⟩
   .rw[decide_eq_false B];have J:=U (J.i.symm.trans (Yo (lu _) (Y2 B)));clear B;go_wp21;refine fQ i (qj ⟨1,c4,[],0,0⟩ (by have:=d3.i.2;simp only[this];omega)) λg4 i=>?_;go_wp2;go_end0;exact⟨rfl,_,y.i,J.i▸i.i.c7⟩
  .rw[decide_eq_false L];go_upto_if 113 with fail;go_cut [113] (λG wc=>G=.bool (decide (n.w=2\/n.w=3))/\D=wc);case first=>
    go_wp2;all_goals
     go_meet;refine⟨Yo Value.bool ?_,rfl⟩;rw[Bool.eq_iff_iff];simp_all
   case rest=>
   obtain⟨rfl,rfl⟩:=hcut;by_cases M:n.w=2\/n.w=3
   .rw[decide_eq_true M];have y:af (Q (yq b s)):=U (by have:=F.i Zm;unfold ta at this;rwa[Y9 M]at this);clear L M F I e3 c3 x;generalize x:yq b s=g2 at y;unfold yq at x;have J:=U x;clear x;have f1:D.cell? (Zd c 8)=some (Zs b):=w 8;have f2:D.cell? (Zd c 9)=some (Y s.p):=w 9;have i5:IntKind.i64.wrap ((b.length:Int)-s.p)=b.length-s.p:=by rw[IntKind.wrap_i64];omega
    go_upto_region 23 with fail;go_cut [126] (λG wc=>G=.bool (decide (b.length<s.p+8))/\wc=D.drew);case first=>
     refine bJ (λE=>E.cell? (Zd c 8)=some (Zs b)/\E.cell? (Zd c 9)=some (Y s.p)) ?_ λd0=>?_
     .go_keep
     refine bf [0,1,2,3,4,5,6,7,8,9] ?_;iterate 10 (refine bi ?_)
     refine bg ?_;refine bL λb5 a2=>?_;go_simp;refine a2.out _ _ ?_;clear a2 b5;refine nz ?_;go_wp2;go_meet;exact⟨Yo Value.bool (decide_eq_decide.2 Zm),rfl⟩
    case rest=>
    obtain⟨rfl,rfl⟩:=hcut;have i:=U (i.i.ae (ar [] D).ag);generalize D.drew=i9 at *
    clear w z A f1 f2;obtain⟨ad,K,w,z,A⟩:=i.i.K;go_upto_if 126 with fail;go_cut [] (λwc=>af (Dw c (dS f d g a h b) (m++[.obj o.heap.size (.cells (eB n (.slice e1 n.aI.length e2,.slice d7 n.aB.length d8)).toArray 117)]) j (qL b s) wc));case first=>
     by_cases a0:b.length<s.p+8
     .rw[decide_eq_true a0];have b3:af (qL b s=hG 16 s.p s):=U (Y9 a0);clear a0;go_wp21;refine fQ i (qk 16 s.p) λb2 i=>?_;go_wp2;go_meet;rw[b3.i];exact i
     .rw[decide_eq_false a0];have b3:af (qL b s=s):=U (Y2 a0);clear a0;go_wp2;go_meet;rw[b3.i];exact i
    case rest=>
    have c0:(qL b s).p<=b.length/\(qL b s).l=s.l:=by unfold qL hG;split<;>(try split)<;>exact⟨b9,rfl⟩
    generalize qL b s=e4 at *
    have i:=hcut;have a6:=sU b e4;have O:=xp b c0.1;go_wp21;refine fQ i (xj (q:=dS f d g a h b) (by dsimp only;omega) Zm) λb2 i=>?_;dsimp only at *
    generalize fd b e4=P at *
    obtain⟨C,a1⟩:=P;dsimp only at *
    have d9:=sU b a1;have e0:=xp b O.1;go_wp21;refine fQ i (xj (q:=dS f d g a h b) (by dsimp only;omega) Zm) λe5 i=>?_;dsimp only at *
    generalize fd b a1=P at *
    obtain⟨g1,i8⟩:=P;dsimp only at *
    have b4:=U (e0.2.trans (O.2.trans c0.2));clear O e0 c0;go_wp21;rw[ab2 a6 d9];refine fQ i (qj ⟨1,lH (C*4294967296+g1),[],0,0⟩ (by rw[b4.i];omega)) λg3 i=>?_;go_wp2;go_end0;exact⟨rfl,_,y.i,J.i▸i.i.c7⟩
   .rw[decide_eq_false M];by_cases R:n.w=6
    .have f4:(n.w==6)=true:=by simp[R]
     have y:af (Q (qN b n.n.toNat s)):=U (by have:=F.i Zm;unfold ta at this;rwa[Y2 M,Y2 Zm,Y9 R]at this);replace b0:=b0 R;obtain⟨C,f5⟩:=Int.eq_ofNat_of_zero_le b0.1;rw[f5]at c3 y b0;clear R L M F I;go_wp21;refine fQ i (KQ (q:=dS f d g a h b) (by dsimp only;omega) Zm Zm Zm) λa7 i=>?_;go_wp2;go_end0;exact⟨rfl,_,y.i,i.i.c7⟩
    .have f4:(n.w==6)=false:=by simp[R]
     go_upto_if 150 with fail;go_cut [150] (λG wc=>G=.bool (decide (n.w=7\/n.w=8))/\D=wc);case first=>
      go_wp2;all_goals
       go_meet;refine⟨Yo Value.bool ?_,rfl⟩;rw[Bool.eq_iff_iff];simp_all
     case rest=>
     obtain⟨rfl,rfl⟩:=hcut;by_cases b8:n.w=7\/n.w=8
     .rw[decide_eq_true b8];have y:af (Q (qN b (js b n.n s).1 (js b n.n s).2)):=U (by have:=F.i Zm;unfold ta at this;rwa[Y2 M,Y2 Zm,Y2 R]at this);clear R b8 L M F I;have a6:=sU b s;have O:=KA b n.n b9;go_wp21;refine fQ i (KF (q:=dS f d g a h b) (by dsimp only;omega) Zm n.n) λa7 i=>?_;dsimp only at *
      rw[show (fd b s).1=(js b n.n s).1 from rfl]at a6;generalize js b n.n s=P at *
      obtain⟨C,a1⟩:=P;dsimp only at *
      have b4:=U O.2;have d9:=O.1;clear O;go_wp21;refine fQ i (KQ (q:=dS f d g a h b) (by dsimp only;omega) Zm (by rw[b4.i];omega) a6) λb2 i=>?_;go_wp2;go_end0;exact⟨rfl,_,y.i,i.i.c7⟩
     .rw[decide_eq_false b8];have e8:=U (I.i Zm _ _ i.i);have i6:=aE x;clear I F;go_wp21;refine e8.i.mono ?_;rintro c7 a7 ⟨rfl,i7,H,S⟩;have y:=U H;have i:=U S;go_wp2;go_end0;exact⟨rfl,_,y.i,i.i.c7⟩
end
section
variable {g:Bool}{a:dI}{f:bt}
section
variable {b : Zb} {c dp : Nat} {d : bP}
abbrev nR(a:kP):cF:=⟨a.w,a.n,a.s,a.y,a.am⟩
abbrev dn(d:bP):Ds:=⟨d.a0.map nR,d.aa,0,0⟩
def gW(b:Zb)(c:Nat)(f:Except Mar.ac bP)(g:Ds):Prop:=match f with
 |.ok d=>g=dn d/\d.aa<=b.length/\d.a0.length<=c
 |.error a=>(a.no:Int)≠0/\g.e=a.no/\g.wh=a.y
def Ar(h:d.aa<=b.length):match jj b d with
  |.ok (g,a)=>fd b (dn d)=(g,dn a)/\a.aa<=b.length/\a.a0=d.a0
  |.error c=>fd b (dn d)=(0,{ dn d with e:=c.no,wh:=c.y })/\c=⟨16,d.aa⟩:=by
 unfold jj mv fd;by_cases f:b.length<d.aa+4
 .simp[f,aA]
 .simp[f,aA];omega
def KB(l:d.aa<=b.length)(a:Int):match ik b a false d with
  |.ok (c,f)=>js b a (dn d)=(c,dn f)/\f.aa<=b.length/\f.a0=d.a0
  |.error g=>(g.no:Int)≠0/\(js b a (dn d)).2.e=g.no/\(js b a (dn d)).2.wh=g.y:=by
 have i:=Ar l;unfold ik js;cases k:jj b d with
 |error g=>
  rw[k]at i;obtain⟨h,rfl⟩:=i;simp[h,aA]
 |ok o=>
  obtain⟨c,f⟩:=o;rw[k]at i;obtain⟨h,m,n⟩:=i;by_cases j:(c:Int)<=a
  .have:¬a<c:=Zm;simp[h,aA,j,this,m,n]
  .have:a<c:=Zm;simp[h,aA,j,this,hG]
def vD{b:Type}{a:bP->Except Mar.ac b}(e:d.a0.length<c):aA (fB c d) a=a d:=by
 unfold fB;rw[Y2 Zm];rfl
def sE{x}{y:cF}(a:d.aa<=b.length)(f:d.a0.length<c)(e:y=nR x):gW b c (.ok (dr x d)) (lu y (dn d)):=⟨by simp[lu,dr,e],a,by simp[dr];omega⟩
def Ou{k:Nat}(g:k<4294967296)(d:a.c4<0↔f.w=0\/f.w=5):mq f k=fR a k:=by
 unfold mq fR;by_cases b:a.c4<0
 .have:=d.1 b;by_cases c:k<2147483648
  .simp[b,c];omega
  .simp[b,c,this];omega
 .have:¬(f.w=0\/f.w=5):=λe=>b (d.2 e);simp[b,this]
def abx(r:d.aa<=b.length)(j:d.a0.length<c)(t:a.bD=false)(s:a.c4<0↔f.w=0\/f.w=5)(q:∀k,-9223372036854775808<=k/\k<=9223372036854775807->gg f k=a.br k):gW b c ((bk b dp c).num a d) (xD f b (dn d)):=by
 show gW b c (aA (fB c d) _) _;rw[vD j];unfold nV xD;rw[t];have e:=Ar r;have h:=sU b (dn d);simp only[Ye,if_false]
 cases l:jj b d with
 |error w=>
  rw[l]at e;obtain⟨g,rfl⟩:=e;simp[g,aA,gW,lu]
 |ok u=>
  obtain⟨k,v⟩:=u;rw[l]at e;obtain⟨g,n,o⟩:=e;rw[g]at h ⊢;have m:=Ou (k:=k) h s;have p:-9223372036854775808<=fR a k/\fR a k<=9223372036854775807:=by unfold fR;simp only at h;split<;>(try split)<;>omega
  rw[m,q _ p];cases i:a.br (fR a k)with
  |true=>simp only[aA,i,if_true];simp only[Bool.true_eq_false,and_false,if_false];exact sE n (by rw[o];exact j) rfl
  |false=>simp[aA,i,gW,lu,hG]
def ahA(o:d.aa<=b.length)(g:d.a0.length<c)(n:a.bD=true)(m:∀e,-9223372036854775808<=e/\e<=9223372036854775807->a.br e=true):gW b c ((bk b dp c).num a d) (yq b (dn d)):=by
 show gW b c (aA (fB c d) _) _;rw[vD g];unfold nV mv yq qL;rw[n];simp only[if_true]
 by_cases f:b.length<d.aa+8
 .simp[f,aA,hG,fd,lu,gW]
 .have h:fd b (dn d)=(du ((b.drop d.aa).take 4),{ dn d with p:=d.aa+4 }):=by
   unfold fd;rw[Y2 Zq,Y2 Zx]
  have i:fd b { dn d with p:=d.aa+4 } = (du ((b.drop (d.aa+4)).take 4),{ dn d with p:=d.aa+8 }):=by
   unfold fd;rw[Y2 Zq,Y2 Zx]
  have j:du ((b.drop d.aa).take 8)=du ((b.drop d.aa).take 4)*4294967296+du ((b.drop (d.aa+4)).take 4):=by
   rw[show (b.drop d.aa).take 8=(b.drop d.aa).take 4++(b.drop (d.aa+4)).take 4 by rw[show 8=4+4 from rfl,List.take_add,List.drop_drop]];exact SP Zx
  have k:-9223372036854775808<=lH (du ((b.drop d.aa).take 8))/\lH (du ((b.drop d.aa).take 8))<=9223372036854775807:=by
   have:=Bb (l:=(b.drop d.aa).take 8) Zx;unfold lH;split<;>omega
  simp only[f,if_false,aA,m _ k,if_true]
  rw[h];simp only;rw[i];simp only;rw[<-j];exact sE (d:={ d with aa:=d.aa+8 }) Zx g rfl
def Pq(h:d.aa<=b.length)(g:d.a0.length<c)(a:Nat):gW b c (aA (qC b a d) λf=>.ok (dr ⟨2,0,f.1,0,d.aa⟩ f.2)) (qN b a (dn d)):=by
 unfold qC mv qN;by_cases e:b.length<d.aa+cB a
 .simp[e,aA,gW]
 .simp only[e,if_false,aA]
  simp only[ne_eq,not_true,if_false]
  cases jb a (((b.drop d.aa).take (cB a)).drop a)with
  |some i=>exact⟨Zq,rfl,Zq⟩
  |none=>exact sE (d:={ d with aa:=d.aa+cB a }) Zx g rfl
def afO{a}{c:Ds}(d:c.e≠0):qN b a c=c:=by unfold qN;rw[Y9 d]
def agU{a:Int}(m:d.aa<=b.length)(k:d.a0.length<c)(u:5<f.w)(l:f.w=6↔g=true)(p:f.n=a):gW b c ((bk b dp c).text a g d) (ta f b (dn d)):=by
 show gW b c (aA (fB c d) _) _;rw[vD k];unfold ta;rw[Y2 Zm,Y2 Zm,p];cases g with
 |true=>
  rw[Y9 (l.2 rfl)];exact Pq m k a.toNat
 |false=>
  rw[Y2 (λo=>by cases l.1 o)];have i:=KB m a;cases n:ik b a false d with
  |error t=>
   rw[n]at i;obtain⟨e,h,j⟩:=i;rw[afO (by rw[h];exact e)];exact⟨e,h,j⟩
  |ok r=>
   obtain⟨q,s⟩:=r;rw[n]at i;obtain⟨e,h,j⟩:=i;rw[e];exact Pq h (by rw[j];exact k) q
def ZA{a:Int}(k:d.aa<=b.length)(i:d.a0.length<c){j:Nat}{n:Ds}(h:(if g then (a.toNat,dn d)else js b a (dn d))=(j,n)){D}:∃m,gW b c m (lu ⟨3,0,[],0,j⟩ n)/\(aA ((bk b dp c).bH a g d) λe=>hJ D e.1 e.2)=aA m (ip (λ_=>D) 0 j):=by
 have o:(aA ((bk b dp c).bH a g d) λe=>hJ D e.1 e.2)=aA (ik b a g d) λe=>hJ D e.1 (dr ⟨3,0,[],e.1,0⟩ e.2):=by
  show aA (aA (fB c d) _) _=_;rw[vD i];cases ik b a g d<;>rfl
 rw[o];cases g with
 |true=>
  cases h
  exact⟨_,sE k i rfl,(BT D ..).symm⟩
 |false=>
  have f:=KB k a;simp only[Ye,if_false]at h
  rw[h]at f;cases l:ik b a false d with
  |error p=>
   rw[l]at f;exact⟨.error p,f,rfl⟩
  |ok t=>
   obtain⟨v,u⟩:=t;rw[l]at f;obtain⟨q,r,s⟩:=f;cases q
   exact⟨_,sE r (by rw[s];exact i) rfl,(BT D ..).symm⟩
end
end
section
variable {i : ai} {k e m : Zw} {f : PV} {d : Nat} {g a h dp o : Nat} {b : Zb} {j : List Th} {c : bP} {r : bt} {q : Zv × Zv}
def aco(b5:cO q.1 r.aI e)(b6:cO q.2 r.aB e)(e1:0<=r.n/\r.n<=4294967295)(d8:a<=100000)(d7:b.length<=100000000){w}(N:r.w=if w then 9 else 10)(b3:c.aa<=b.length)(O:c.a0.length<a){D:eY bP}
  (a8:∀v a4 c1,v.aa<=b.length->v.a0.length<=a->Dw d (dS f i g a h b) a4 e (dn v) c1->Calls prog 108 #[Zp d,Y r.of,Y dp] c1 (mF d (dS f i g a h b) a4 e (gW b a (D v)))) (R:Dw d (dS f i g a h b) j e (dn c) k) :
  Calls prog 181 #[Zp d,.agg (eB r q).toArray,Y dp] k (mF d (dS f i g a h b) j e (gW b a (aA ((bk b o a).bH r.n w c) λb8=>hJ D b8.1 b8.2))):=by
 obtain⟨a1,a2,F⟩:=aW b5;obtain⟨S,a0,G⟩:=aW b6;obtain⟨e2,e3⟩:=q;simp only at F G;subst F G;have p:=U (R.aw (.cells (eB r (.slice a1 r.aI.length a2,.slice S r.aB.length a0)).toArray 117));have c5:=U a8;have M:=KA b r.n (s:=dn c) b3;have H:=sU b (dn c);rw[show (fd b (dn c)).1=(js b r.n (dn c)).1 from rfl]at H;generalize z:(if w then (r.n.toNat,dn c)else js b r.n (dn c))=c7
 obtain⟨t,J⟩:=c7;obtain⟨c0,b4,b1⟩:=ZA (dp:=o) b3 O z (D:=D);rw[b1];have e0:t<4294967296/\J.l.length<a:=by
  cases w with
  |true=>cases z;exact⟨by simp only at *;omega,by simpa using O⟩
  |false=>
   simp only[Ye,if_false]at z
   rw[z]at M H;exact⟨H,by rw[M.2];simpa using O⟩
 generalize a9:aA c0 (ip (λ_=>D) 0 t)=K;have y:=U a9;have x:=U b4;have a3:=U z;obtain⟨ad,a5,B,C,E⟩:=R.K;have d3:(r.w==9)=w:=by cases w<;>simp[N]
 have d2:(r.w==10) = !w:=by cases w<;>simp[N]
 clear N;clear a9 b1 b4 R a8 b5 b6 z M H;go_in;go_upto_region 3 with fail;generalize k.alloc _=m at *
 clear B C E;obtain⟨ad,a5,B,C,E⟩:=p.i.K;have b0:=p.i.br (Ym j Yb);have b9:=aE b0;go_upto_if 22 with fail;go_cut [22] (λL wc=>L=.bool true/\m=wc);case first=>
  go_wp2;all_goals
   go_meet;simp_all
 case rest=>
 obtain⟨rfl,rfl⟩:=hcut;go_upto_if 29 with fail;go_cut [7] (λL wc=>L=Y t/\af (Dw d (dS f i g a h b) (j++[.obj k.heap.size (.cells (eB r (.slice a1 r.aI.length a2,.slice S r.aB.length a0)).toArray 117)]) e J wc));case first=>
  cases w
  .have c3:af (js b r.n (dn c)=(t,J)):=U a3.i;go_wp21;refine fQ p (KF (q:=dS f i g a h b) (by dsimp only;omega) (by dsimp only;omega) r.n) λd1 p=>?_;dsimp only at p ⊢;rw[c3.i]at p ⊢;go_wp2;go_meet;exact⟨rfl,p⟩
  .have a6:=a3.i;simp only[if_true,Prod.mk.injEq]at a6
   obtain⟨rfl,rfl⟩:=a6;go_wp2;go_meet;exact⟨Yo _ Zm,p⟩
 case rest=>
 obtain⟨rfl,p⟩:=hcut;rename Zw=>d1;go_wp21;refine fQ p (qj ⟨3,0,[],0,t⟩ Zm) λe4 p=>?_;generalize lu ⟨3,0,[],0,t⟩ J=c9 at *
 clear B C E b0 b9;go_wp2;go_loopw [8] (λP m=>∃(u:Nat) (A:Ds) (I:Except Mar.ac bP),P=Y u/\u<=t/\af (gW b a I A)/\af (aA I (ip (λ_=>D) u (t-u))=K)/\af (Dw d (dS f i g a h b) (j++[.obj k.heap.size (.cells (eB r (.slice a1 r.aI.length a2,.slice S r.aB.length a0)).toArray 117)]) e A m)) (λP _=>t-(intOf P).toNat)
 case atStart=>exact⟨0,c9,c0,rfl,Zm,x,y,p⟩
 case round=>
  clear p x y;obtain⟨u,A,I,rfl,d9,x,y,p⟩:=hrel;obtain⟨ad,a5,B,C,E⟩:=p.i.K;have b9:=aE (p.i.br (Ym j Yb));cases I with
  |error d6=>
   have d4:(A.e==0)=false:=by rw[x.i.2.1];simpa using x.i.1
   by_cases b2:(u:Int)<t;all_goals
    go_wp2;go_end0;exact⟨rfl,A,y.i▸x.i,p.i.c7⟩
  |ok v=>
   obtain⟨rfl,F,G⟩:=x.i;by_cases b2:u<t
   .have c8:(u:Int)<t:=Zm;have c6:=U (c5.i v _ _ F G p.i);have y:af (aA (D v) (ip (λ_=>D) (u+1) (t-(u+1)))=K):=U (by rw[<-y.i,show t-u=(t-(u+1))+1 by omega];rfl);go_wp21;refine c6.i.mono ?_;rintro d5 e5 ⟨rfl,d0,a7,b7⟩;have c4:=U a7;have p:=U b7;clear a7 b7;go_wp2;exact⟨⟨u+1,d0,_,Zj,b2,c4,y,p⟩,Zz⟩
   .have c8:¬(u:Int)<t:=Zm;have c2:af (K=.ok v):=U (by rw[<-y.i,show t-u=0 by omega];rfl);go_wp2;go_end0;exact⟨rfl,dn v,c2.i▸x.i,p.i.c7⟩
def acq(S:cO q.1 r.aI e)(a0:cO q.2 r.aB e)(c4:a<=100000)(c7:r.aB.length<=1000000)(A:r.w=12)(b5:c.aa<=b.length)(b3:c.a0.length<a){u:Nat->eY bP}
  (O:∀l s K a6,l<r.aB.length->s.aa<=b.length->s.a0.length<=a->Dw d (dS f i g a h b) K e (dn s) a6->Calls prog 108 #[Zp d,Y (r.aB.getD l 0),Y dp] a6 (mF d (dS f i g a h b) K e (gW b a (u l s)))) (I:Dw d (dS f i g a h b) j e (dn c) k) :
  Calls prog 181 #[Zp d,.agg (eB r q).toArray,Y dp] k (mF d (dS f i g a h b) j e (gW b a (ip u 0 r.aB.length (dr ⟨3,0,[],r.aB.length,0⟩ c)))):=by
 obtain⟨a4,a5,y⟩:=aW S;obtain⟨a2,a3,z,R⟩:=a0.bH;obtain⟨c9,d0⟩:=q;simp only at y z;subst y z;have n:=U (I.aw (.cells (eB r (.slice a4 r.aI.length a5,.slice a2 r.aB.length a3)).toArray 117));have a9:=U O;have b0:=U R;obtain⟨ad,b1,D,E,F⟩:=I.K;have c2:(r.w==9)=false:=by simp[A]
 have c0:(r.w==10)=false:=by simp[A]
 have c1:(r.w==12)=true:=by simp[A]
 have o:=U (sE (b:=b) (x:=⟨3,0,[],r.aB.length,0⟩) (y:=⟨3,0,[],0,r.aB.length⟩) b5 b3 rfl);generalize P:ip u 0 r.aB.length (dr ⟨3,0,[],r.aB.length,0⟩ c)=C;have p:af (aA (.ok (dr ⟨3,0,[],r.aB.length,0⟩ c)) (ip u 0 r.aB.length)=C):=U P;generalize Except.ok (dr ⟨3,0,[],r.aB.length,0⟩ c)=b6 at *
 clear P I O S a0 R A;go_in;go_upto_region 3 with fail;generalize k.alloc _=m at *
 clear D E F;obtain⟨ad,b1,D,E,F⟩:=n.i.K;have J:=aE (n.i.br (Ym j Yb));go_wp21;refine fQ n (qj ⟨3,0,[],0,r.aB.length⟩ Zx) λd1 n=>?_;generalize lu ⟨3,0,[],0,r.aB.length⟩ (dn c)=b7 at *
 clear D E F J;go_wp2;go_loopw [9] (λH m=>∃(l:Nat) (w:Ds) (t:Except Mar.ac bP),H=Y l/\l<=r.aB.length/\af (gW b a t w)/\af (aA t (ip u l (r.aB.length-l))=C)/\af (Dw d (dS f i g a h b) (j++[.obj k.heap.size (.cells (eB r (.slice a4 r.aI.length a5,.slice a2 r.aB.length a3)).toArray 117)]) e w m)) (λH _=>r.aB.length-(intOf H).toNat)
 case atStart=>exact⟨0,b7,b6,rfl,Zm,o,p,n⟩
 case round=>
  clear n o p;obtain⟨l,w,t,rfl,c6,o,p,n⟩:=hrel;rcases Yj l r.aB.length with v|c5
  .obtain⟨c8,rfl,B⟩:=b0.i l v;have G:r.aB.getD l 0=r.aB[l]:=by simp[v]
   rw[Nat.mul_one,G]at B;have B:=n.i.fr.a2 Zq B;have J:=aE (n.i.br (Ym j Yb));have b4:(l:Int)<r.aB.length:=Zm;have M:r.aB.length-l=(r.aB.length-(l+1))+1:=Zm;rw[M]at p;clear M;cases t with
   |error b2=>
    have b9:=U o.i.1;go_wp21;refine fQ n (NJ (by rw[o.i.2.1];exact o.i.1) _ _) λd2 n=>?_;go_wp2;exact⟨⟨l+1,w,.error b2,Zj,v,o,p,n⟩,Zz⟩
   |ok s=>
    obtain⟨rfl,y,z⟩:=o.i;have L:=U (a9.i l s _ _ v y z n.i);rw[G]at L;clear G;go_wp21;refine L.i.mono ?_;rintro c3 d3 ⟨rfl,b8,N,a1⟩;have a8:=U N;have n:=U a1;clear N a1;go_wp2;exact⟨⟨l+1,b8,_,Zj,v,a8,p,n⟩,Zz⟩
  .have b4:¬(l:Int)<r.aB.length:=Zm;have J:=aE (n.i.br (Ym j Yb));have a7:af (C=t):=U (by rw[<-p.i,show r.aB.length-l=0 by omega];cases t<;>rfl);go_wp2;go_end0;exact⟨rfl,w,a7.i▸o.i,n.i.c7⟩
def acp(a0:cO q.1 r.aI e)(a1:cO q.2 r.aB e)(c7:a<=100000)(c6:b.length<=100000000)(A:r.w=11)(b3:c.aa<=b.length)(S:c.a0.length<a){B:eY bP}
  (P:∀t L a5,t.aa<=b.length->t.a0.length<=a->Dw d (dS f i g a h b) L e (dn t) a5->Calls prog 108 #[Zp d,Y r.of,Y dp] a5 (mF d (dS f i g a h b) L e (gW b a (B t)))) (K:Dw d (dS f i g a h b) j e (dn c) k) :
  Calls prog 181 #[Zp d,.agg (eB r q).toArray,Y dp] k (mF d (dS f i g a h b) j e (gW b a (aA ((bk b o a).cg (dy 4) jP c) λp=>if p.1=1 then B p.2 else .ok p.2))):=by
 obtain⟨b6,b7,u⟩:=aW a0;obtain⟨b4,b5,G⟩:=aW a1;obtain⟨c8,c9⟩:=q;simp only at u G;subst u G;have n:=U (K.aw (.cells (eB r (.slice b6 r.aI.length b7,.slice b4 r.aB.length b5)).toArray 117));have a7:=U P;obtain⟨ad,F,v,w,z⟩:=K.K;have c4:(r.w==9)=false:=by simp[A]
 have c1:(r.w==10)=false:=by simp[A]
 have c3:(r.w==12)=false:=by simp[A]
 have c2:(r.w==11)=true:=by simp[A]
 have M:(aA ((bk b o a).cg (dy 4) jP c) λp=>if p.1=1 then B p.2 else Except.ok p.2)=aA (jj b c) λp=>match jP p.1 with|none=>.error ⟨18,c.aa⟩|some l=>if(p.1:Int)=1 then B (dr ⟨4,p.1,[],l,0⟩ p.2)else .ok (dr ⟨4,p.1,[],l,0⟩ p.2):=by
  show aA (aA (fB a c) _) _=_;rw[vD S];cases jj b c with
  |error a9=>rfl
  |ok p=>
   show aA (match jP (fR (dy 4) p.1)with|none=>_|some l=>_) _=_;rw[show fR (dy 4) p.1=(p.1:Int)from rfl];show _=(match jP p.1 with|none=>_|some l=>_);cases jP (p.1:Int)with
   |none=>rfl
   |some l=>rfl
 rw[M];generalize R:aA (jj b c) _=C;have s:=U R;have I:=Ar b3;have H:=sU b (dn c);clear R M K P a0 a1 A;go_in;go_upto_region 3 with fail;generalize k.alloc _=m at *
 clear v w z;obtain⟨ad,F,v,w,z⟩:=n.i.K;have a4:=aE (n.i.br (Ym j Yb));go_wp21;refine fQ n (xj (q:=dS f i g a h b) (by dsimp only;omega) (by dsimp only;omega)) λd0 n=>?_;dsimp only at n H ⊢;clear v w z a4;cases J:jj b c with
 |error a9=>
  rw[J]at I s;obtain⟨u,rfl⟩:=I;have s:af (C=.error ⟨16,c.aa⟩):=U s.i.symm;rw[u]at n ⊢;clear J u H;obtain⟨ad,F,v,w,z⟩:=n.i.K;go_wp21;refine fQ n (qj ⟨4,0,[],0,0⟩ Zx) λb9 n=>?_;go_wp2;go_end0;exact⟨rfl,_,by rw[s.i];exact⟨Zq,rfl,rfl⟩,n.i.c7⟩
 |ok p=>
  obtain⟨l,t⟩:=p;rw[J]at I s;obtain⟨u,G,N⟩:=I;have s:af ((match jP l with|none=>.error ⟨18,c.aa⟩|some a3=>if(l:Int)=1 then B (dr ⟨4,l,[],a3,0⟩ t)else .ok (dr ⟨4,l,[],a3,0⟩ t))=C):=s
  have b2:t.a0.length<a:=by rw[N];exact S
  rw[u]at n H ⊢;dsimp only at H;clear J u N;obtain⟨ad,F,v,w,z⟩:=n.i.K;by_cases A:1<l
  .have b1:(1:Int)<l:=Zm;have D:((l:Int)==1)=false:=Zx;have s:af (C=.error ⟨18,c.aa⟩):=U (by rw[<-s.i,show jP l=none by unfold jP;rw[Y2 Zm,Y2 Zm]]);clear A;go_wp21;refine fQ n (qk 18 c.aa) λb9 n=>?_;go_wp21;refine fQ n (qj ⟨4,l,[],0,l⟩ (by simp[hG];omega)) λc0 n=>?_;go_wp2;go_end0;exact⟨rfl,_,by rw[s.i];exact⟨Zq,rfl,rfl⟩,n.i.c7⟩
  .have b1:¬(1:Int)<l:=Zm;go_wp21;refine fQ n (qj ⟨4,l,[],0,l⟩ Zx) λc0 n=>?_;have E:=U (sE (x:=⟨4,l,[],l,0⟩) (y:=⟨4,l,[],0,l⟩) G b2 rfl);rw[E.i.1]at n;have a4:=aE (n.i.br (Ym j Yb));clear v w z;obtain⟨ad,F,v,w,z⟩:=n.i.K;by_cases D:l=1
   .have b0:((l:Int)==1)=true:=by simp[D]
    have s:af (C=B (dr ⟨4,l,[],l,0⟩ t)):=U (by rw[<-s.i,D];rfl);have a8:=U (a7.i _ _ _ E.i.2.1 E.i.2.2 n.i);clear D;go_wp21;refine a8.i.mono ?_;rintro c5 d1 ⟨rfl,b8,O,a2⟩;have a6:=U O;have n:=U a2;clear O a2;go_wp2;go_end0;exact⟨rfl,b8,by rw[s.i];exact a6.i,n.i.c7⟩
   .have b0:((l:Int)==1)=false:=Zx;have s:af (C=.ok (dr ⟨4,l,[],l,0⟩ t)):=U (by rw[<-s.i,show l=0 by omega];rfl);clear D;go_wp2;go_end0;exact⟨rfl,_,by rw[s.i];exact⟨rfl,E.i.2⟩,n.i.c7⟩
end
section
variable {r : Nat -> Prop} {q o : Nat} {t : Zb} {c : ai} {w g m : Zw} {i : PV} {e : Nat} {f d j dp u : Nat} {b : Zb} {k : List Th} {h : bP} {a : bt} {n : Zv × Zv}
def Kq{c}{b:Nat->Option Zv}(g:ap [] w c)(f:e<w.heap.size)(d:∀a,w.cell? (Zd e a)=b a):∀a,c.cell? (Zd e a)=b a:=λa=>by
 rw[<-d a];simp only[World.cell?];rw[g.ak e f Zq]
def Al(b:Zb)(d a:bt)(e:Int->eY bP)(h:bP):Except Mar.ac bP:=aA (jj b h) λc=>
 if gg d (mq d c.1)=true/\(fy a (mq d c.1)).2=true then (if(fy a (mq d c.1)).1<0 then .ok (dr ⟨4,mq d c.1,[],0,0⟩ c.2)else e (mq d c.1) (dr ⟨4,mq d c.1,[],1,0⟩ c.2))else .error ⟨18,h.aa⟩
def acr(b3:bw r q t o c i g)(c6:cO n.1 a.aI g)(c7:cO n.2 a.aB g)(i7:d<=100000)(i6:b.length<=100000000)(f1:a.aB.length=a.aI.length)(f2:a.aI.length<=1000000000){I:Nat}(e8:a.of=I)(e6:I<c.h.length)(e7:(c.h.getD I bz).aI.length<=1000000000)(a3:a.w=13)(f0:h.aa<=b.length)(e9:h.a0.length<d){D:Int->eY bP}
  (e2:∀v u d9 R,gg (c.h.getD I bz) v=true->(fy a v).2=true->0<=(fy a v).1->u.aa<=b.length->u.a0.length<=d->Dw e (dS i c f d j b) d9 g (dn u) R->Calls prog 108 #[Zp e,Y (fy a v).1,Y dp] R (mF e (dS i c f d j b) d9 g (gW b d (D v u)))) (d2:Dw e (dS i c f d j b) k g (dn h) w) :
  Calls prog 181 #[Zp e,.agg (eB a n).toArray,Y dp] w (mF e (dS i c f d j b) k g (gW b d (Al b (c.h.getD I bz) a D h))):=by
 have b6:=U (λ(m:Zw) (a4:ap [] g m) (P:Int)=>Bv (b3.az a4) e6 e7 P);have b7:=U (λ(m:Zw) (a4:ap [] g m) (P:Nat) (h3:P<4294967296)=>Ow (b3.az a4) e6 h3);have e0:=U (λ(m:Zw) (a4:ap [] g m) (P:Int)=>Ka (w:=m) (cO.a8 c6 a4 Zq) (cO.a8 c7 a4 Zq) f1 f2 P);obtain⟨b8,c0,f3⟩:=aW b3.h;unfold gt at b6 b7;obtain⟨j2,d3,d4,d0,d1⟩:=i;simp only at f3;subst f3;obtain⟨g1,g2,A⟩:=aW c6;obtain⟨f9,g0,E⟩:=aW c7;obtain⟨j0,j1⟩:=n;simp only at A E;subst A E;have p:=U (d2.aw (.cells (eB a (.slice g1 a.aI.length g2,.slice f9 a.aB.length g0)).toArray 117));have a0:=U e2;obtain⟨ad,a2,B,L,G⟩:=d2.K;have i4:(a.w==9)=false:=by simp[a3]
 have i0:(a.w==10)=false:=by simp[a3]
 have i2:(a.w==12)=false:=by simp[a3]
 have i1:(a.w==11)=false:=by simp[a3]
 have i3:(a.w==13)=true:=by simp[a3]
 generalize e3:Al b (c.h.getD I bz) a D h=b2;have d6:=U e3;have d8:=U (Ar f0);have c3:=sU b (dn h);have d7:=U e8;generalize c.h.getD I bz=g3 at *
 clear e3 d2 e2 c6 c7 a3 b3 f1 f2 e7 e8;go_in;go_upto_region 3 with fail;generalize w.alloc _=m at *
 clear B L G;obtain⟨ad,a2,B,L,G⟩:=p.i.K;have d5:=aE (p.i.br (Ym k Yb));go_wp21;refine fQ p (xj (by dsimp only;omega) (by dsimp only;omega)) λg4 p=>?_;dsimp only at p c3 ⊢;have c5:(fd b (dn h)).2.l.length<d:=by rw[(xp b f0).2];simpa using e9
 generalize fd b (dn h)=h0 at *
 obtain⟨P,J⟩:=h0;dsimp only at p c3 c5 ⊢;clear B L G d5;go_upto_region 28 with fail;have p:=U (p.i.ae (ar [] g4).ag);obtain⟨ad,a2,B,L,G⟩:=p.i.K;have M:g4.drew.cell? (Zd w.heap.size 2)=some (Y I):=d7.i▸aC (p.i.br (Ym k Yb)) rfl;have K:=U (b7.i _ p.i.fr P c3);refine bJ (λR=>(∀b0,R.cell? (Zd e b0)=(rA (dS ⟨.slice b8 c.h.length c0,d3,d4,d0,d1⟩ c f d j b) J (.slice ad J.l.length a2))[b0]?)/\R.cell? (Zd w.heap.size 2)=some (Y I)) ?_ λa8=>?_
 .exact⟨B,M⟩
 refine bf [0,1,2,3,4,5,6] ?_;iterate 7 (refine bi ?_)
 refine bg ?_;refine bI 7 λS H=>?_;(go_simp;refine K.i.mono ?_;rintro c1 g5 ⟨rfl,c8⟩;have p:=U (p.i.ae c8);have B:=Kq c8 G B;have M:=c8.a2 Zq M);refine H.out _ _ ?_ (λa8=>?_)
 .go_keep
 clear H S;refine nz ?_;refine bL λS H=>?_;go_simp;refine H.out _ _ ?_;clear H S;refine nz ?_;clear K b7 a8 L G;generalize f4:mq g3 P=z at *
 go_upto_region 29 with fail;have p:=U (p.i.ae (ar [] g5).ag);clear B M;obtain⟨ad,a2,B,L,G⟩:=p.i.K;have M:g5.drew.cell? (Zd w.heap.size 2)=some (Y I):=d7.i▸aC (p.i.br (Ym k Yb)) rfl;have K:=U (b6.i _ p.i.fr z);refine bJ (λR=>(∀b0,R.cell? (Zd e b0)=(rA (dS ⟨.slice b8 c.h.length c0,d3,d4,d0,d1⟩ c f d j b) J (.slice ad J.l.length a2))[b0]?)/\R.cell? (Zd w.heap.size 2)=some (Y I)) ?_ λa8=>?_
 .exact⟨B,M⟩
 refine bf [0,1,2,3,4,5,6] ?_;iterate 7 (refine bi ?_)
 refine bg ?_;refine bI 7 λS H=>?_;(go_simp;refine K.i.mono ?_;rintro c1 j3 ⟨rfl,c9⟩;have p:=U (p.i.ae c9);have B:=Kq c9 G B;have M:=c9.a2 Zq M);refine H.out _ _ ?_ (λa8=>?_)
 .go_keep
 clear H S;refine nz ?_;refine bL λS H=>?_;go_simp;refine H.out _ _ ?_;clear H S;refine nz ?_;clear K b6 a8 L G B M;generalize c4:gg g3 z=a7 at *
 have d5:=aE (p.i.br (Ym k Yb));have K:=U (e0.i _ p.i.fr z);unfold eB at K;go_wp21;refine K.i.mono ?_;rintro c1 h6 ⟨rfl,f6⟩;have p:=U (p.i.ae f6);clear K e0 d5 f6;have a0:=U (a0.i z);rw[c4]at a0;generalize e5:fy a z=g9 at *
 obtain⟨b9,a6⟩:=g9;dsimp only at a0 ⊢;have a1:af ((J.e≠0/\∀N:Ds,N.e=J.e->N.wh=J.wh->gW b d b2 N)\/∃u,J=dn u/\u.aa<=b.length/\u.a0.length<d/\b2=if a7=true/\a6=true then (if b9<0 then .ok (dr ⟨4,z,[],0,0⟩ u)else D z (dr ⟨4,z,[],1,0⟩ u))else .error ⟨18,h.aa⟩):=U (by
  have b4:=d8.i;have a9:=d6.i;unfold Al at a9;cases f5:jj b h with
  |error i5=>
   rw[f5]at b4 a9;obtain⟨A,rfl⟩:=b4;cases A
   exact Y8 ⟨Zq,λN A E=>by rw[<-a9];exact⟨Zq,A,E⟩⟩
  |ok h4=>
   obtain⟨i9,u⟩:=h4;rw[f5]at b4 a9;obtain⟨A,E,c2⟩:=b4;cases A
   refine Ya ⟨u,rfl,E,by rw[c2];exact e9,?_⟩;rw[<-a9];simp only[aA,f4,c4,e5])
 clear d6 d8 f4 c4 e5;obtain⟨ad,a2,B,L,G⟩:=p.i.K;go_upto_region 31 with fail;go_cut [13,15,144] (λ_ _ g8 wc=>g8=.bool (decide (J.e=0/\¬(a7=true/\a6=true)))/\h6=wc);case first=>
  go_wp2;all_goals
   go_meet;refine⟨Yo Value.bool ?_,rfl⟩;rw[Bool.eq_iff_iff];simp_all
 case rest=>
 obtain⟨rfl,rfl⟩:=hcut;go_upto_if 144 with fail;go_cut [] (λwc=>af (∃O,Dw e (dS ⟨.slice b8 c.h.length c0,d3,d4,d0,d1⟩ c f d j b) (k++[.obj w.heap.size (.cells (eB a (.slice g1 a.aI.length g2,.slice f9 a.aB.length g0)).toArray 117)]) g O wc/\O.l.length<d/\((O.e≠0/\∀N:Ds,N.e=O.e->N.wh=O.wh->gW b d b2 N)\/∃u,O=dn u/\u.aa<=b.length/\u.a0.length<d/\(a7=true/\a6=true)/\b2=if b9<0 then .ok (dr ⟨4,z,[],0,0⟩ u)else D z (dr ⟨4,z,[],1,0⟩ u))))
 case first=>
  by_cases F:J.e=0/\¬(a7=true/\a6=true)
  .rw[decide_eq_true F];have a5:=U F;clear F;go_wp21;refine fQ p (qk 18 h.aa) λh7 p=>?_;go_wp2;go_meet;refine U ⟨_,p.i,by unfold hG;split<;>exact c5,Y8 ?_⟩;unfold hG;rw[Y9 a5.i.1];refine⟨Zq,λN A E=>?_⟩;rcases a1.i with⟨C,-⟩|⟨u,rfl,-,-,C⟩
   .exact absurd a5.i.1 C
   .rw[C,Y2 a5.i.2];exact⟨Zq,A,E⟩
  .rw[decide_eq_false F];have a5:=U F;clear F;go_wp2;go_meet;refine U ⟨_,p.i,c5,a1.i.imp id ?_⟩;rintro⟨u,rfl,A,E,c2⟩;have F:a7=true/\a6=true:=Classical.not_not.1 λC=>a5.i ⟨rfl,C⟩;exact⟨u,rfl,A,E,F,by rw[c2,Y9 F]⟩
 case rest=>
 obtain⟨O,f7,i8,e4⟩:=hcut.i;have p:=U f7;have a1:=U e4;clear B L G e4 hcut f7;rename Zw=>h7;by_cases h2:b9<0
 .go_wp21;refine fQ p (qj ⟨4,z,[],0,0⟩ Zm) λh8 p=>?_;go_wp2;go_end0;refine⟨rfl,_,?_,p.i.c7⟩;rcases a1.i with⟨-,C⟩|⟨u,rfl,A,E,-,C⟩
  .exact C _ rfl rfl
  .rw[C,Y9 h2];exact sE A E rfl
 .go_wp21;refine fQ p (qj ⟨4,z,[],0,1⟩ Zm) λh8 p=>?_;rcases a1.i with⟨h1,C⟩|⟨u,rfl,A,E,F,C⟩
  .have b5:=U C;clear C;go_wp21;refine fQ p (NJ (s:=lu ⟨4,z,[],0,1⟩ O) h1 _ _) λh9 p=>?_;go_wp2;go_end0;exact⟨rfl,lu ⟨4,z,[],0,1⟩ O,b5.i _ rfl rfl,p.i.c7⟩
  .have b1:=sE (x:=⟨4,z,[],1,0⟩) (y:=⟨4,z,[],0,1⟩) A E rfl;rw[b1.1]at p;have g7:=U (a0.i _ _ _ F.1 F.2 Zm b1.2.1 b1.2.2 p.i);have b5:=U (C.trans (Y2 Zm));clear b1 C F a1 a0;go_wp21;refine g7.i.mono ?_;rintro c1 h9 ⟨rfl,h5,e1,f8⟩;have g6:=U e1;have p:=U f8;clear e1 f8;go_wp2;go_end0;exact⟨rfl,h5,by rw[b5.i];exact g6.i,p.i.c7⟩
def ac1(u:bw r q t o c i g){h:Nat}(C:h<c.h.length)(F:c.h.getD h bz=a)(D:a.w=14)(b1:dp<=64){l:Ds}(R:l.e=0)(s:Dw e (dS i c f d j b) k g l w){Q:Ds->Prop}(P:f<=dp->Q (hG 13 l.p l))
  (B:dp<f->∀v K,Dw e (dS i c f d j b) v g l K->Calls prog 108 #[Zp e,Y a.of,Y ((dp+1:Nat):Int)] K (mF e (dS i c f d j b) v g Q)) :
  Calls prog 108 #[Zp e,Y h,Y dp] w (mF e (dS i c f d j b) k g Q):=by
 obtain⟨ad,a6,N,a7,a8⟩:=s.K;obtain⟨b0,a5,J,S,E,b9,c0,c1,c2,c3,c4,c5,c6,c7,c8,c9⟩:=nY (u.az s.fr) C;have y:c.h[h]?=some (c.h.getD h bz):=by simp[C]
 obtain⟨G,H⟩:=u.dp h _ J y E;rw[F]at *
 obtain⟨a2,a3,n⟩:=aW G;obtain⟨a0,a1,z⟩:=aW H;obtain⟨b5,b6⟩:=J;simp only at n z;subst n z;have b3:(h:Int)<(c.h.length:Int):=Zm;have m:=U (s.aw (.cells (eB a (.slice a2 a.aI.length a3,.slice a0 a.aB.length a1)).toArray 117));simp only[rA,S]at N;have b4:(a.w==14)=true:=by simp[D]
 have b2:(l.e != 0)=false:=by simp[R]
 clear u s G H y E F D;by_cases n:f<=dp
 .have O:(f:Int)<=dp:=Zm;have M:=U (P n);go_in;go_wp21;refine fQ m (qk 13 l.p) λb7 m=>?_;go_wp2;go_end0;exact⟨rfl,_,M.i,m.i.c7⟩
 .have O:¬(f:Int)<=dp:=Zm;have x:=U (B Zm _ _ m.i);rw[show (((dp+1:Nat):Int))=(dp:Int)+1 by omega]at x;clear B;go_in;go_wp21;refine x.i.mono ?_;rintro a9 b8 ⟨rfl,a4,A,I⟩;have L:=U A;have m:=U I;clear A I;go_wp2;go_end0;exact⟨rfl,a4,L.i,m.i.c7⟩
end
section
variable {k : Nat -> Prop} {j i : Nat} {m : Zb} {a : ai} {c e n : Zw} {g : PV} {J : Nat} {d f z : Nat} {b : Zb} {h : fG} {l : Nl} {Kn : Zb -> Prop}
def DV(e:Zw)(J:Nat)(g:PV)(a:ai)(d f z:Nat)(b:Zb)(k:Nat)(l:Int)(j:eY bP):Prop:=∀h i c,h.aa<=b.length->h.a0.length<=f->Dw J (dS g a d f z b) i e (dn h) c->
 Calls prog 108 #[Zp J,Y l,Y k] c (mF J (dS g a d f z b) i e (gW b f (j h)))
def xS(y:bw k j m i a g e)(S:Tb a.h l h Kn)(H:f<=100000)(G:b.length<=100000000){x:Int}{o:bt}(B:0<=x)(w:a.h[x.toNat]?=some o)(r:o.w≠14/\0<=o.w)(E:o.w=6->0<=o.n/\o.n<=4294967295){u:Nat}{s:eY bP}(hF:∀n,f<=n.a0.length->s n=.error ⟨15,n.aa⟩)(F:∀n,n.aa<=b.length->n.a0.length<f->o.w<=8->gW b f (s n) (ta o b (dn n)))
  (D:8<o.w->∀n p t c,n.aa<=b.length->n.a0.length<f->cO p.1 o.aI e->cO p.2 o.aB e->Dw J (dS g a d f z b) t e (dn n) c->Calls prog 181 #[Zp J,.agg (eB o p).toArray,Y u] c (mF J (dS g a d f z b) t e (gW b f (s n)))):DV e J g a d f z b u x s:=by
 intro n t c v C O;obtain⟨R,rfl⟩:=Int.eq_ofNat_of_zero_le B;obtain⟨K,I⟩:=sW w;have a1:=S.b9 o (Yh w);refine ac2 y K I r Zm E H G u rfl v (by simpa using C) O (λq=>?_) (λq r=>F n v (by simpa using q) r) λq r p A a0 L P=>?_
 .rw[hF n (by simpa using q)];exact⟨Zq,rfl,rfl⟩
 .obtain⟨M,N⟩:=y.dp R o p w L;exact D r n p A a0 v (by simpa using q) M N P
def xo{a:bP}(b:f<=a.a0.length):fB f a=.error ⟨15,a.aa⟩:=Y9 b
def rok(G:bw k j m i a g e)(H:Tb a.h l h Kn)(y:f<=100000)(B:b.length<=100000000)(d2:d<=64):yO a.h (bk b d f) (DV e J g a d f z b) where
 num:=by
  intro w S r a0 t s C R b5 b2;refine xS G H y B t s Zm Zm (λn o=>by show aA (fB f n) _=_;rw[xo o];rfl) (λn q p _=>?_) λo=>by omega
  unfold ta;by_cases a7:r.w=2\/r.w=3
  .rw[Y9 a7];rw[decide_eq_true a7]at R;exact ahA q p R λa9 C=>by rw[<-b2 a9 C];unfold gg;simp[show r.w≠0 by omega,show r.w≠1 by omega,show r.w≠4 by omega,show r.w≠5 by omega]
  .rw[Y2 a7,Y9 C.2];rw[decide_eq_false a7]at R;exact abx q p R (b5 R) b2
 i2:=by
  intro w S r a0 a6 t s C c0 a2 c1;exact xS G H y B t s Zm (λ_=>by rw[a2];exact c1) (λn o=>by show aA (fB f n) _=_;rw[xo o];rfl) (λn q p _=>agU q p C.1 c0 a2) λo=>by omega
 arr:=by
  intro w S a3 a0 a6 u t s a2 x;refine xS G H y B t s (by cases a6<;>simp[dd]) (λ_=>a2) (λn o=>by show aA (aA (fB f n) _) _=_;rw[xo o];rfl) (λn _ _ o=>by cases a6<;>simp[dd]at o) λ_ n b0 a5 c q p M N D=>?_;exact aco (r:=dd (if a6 then 9 else 10) a0 a3) M N a2 y B rfl q p (λL A F I K E=>x L A F I K E) D
 opt:=by
  intro w S a3 u t s x;refine xS G H y B t s (by simp[dd]) (by simp[dd]) (λn o=>by show aA (aA (fB f n) _) _=_;rw[xo o];rfl) (λn _ _ o=>by simp[dd]at o) λ_ n b0 a5 c q p M N D=>?_;exact acp (r:=dd 11 0 a3) M N y B rfl q p (λL A F I K E=>x L A F I K E) D
 str:=by
  intro w S a4 u t s b4 x;refine xS G H y B t s Zq Zq (λn o=>by show aA (aA (fB f n) _) _=_;rw[xo o];rfl) (λn _ _ o=>by simp at o) λ_ n b0 a5 c q p M N D=>?_;have:=acq (r:=⟨12,0,0,[],a4,0,[],0⟩) (dp:=w) M N y (by simp only;omega) rfl q p (λa3 L A F c4 I K E=>x a3 c4 L A F I K E) D;rw[show (aA ((bk b d f).bH a4.length true n) λO=>ip u 0 a4.length O.2)=ip u 0 a4.length (dr ⟨3,0,[],a4.length,0⟩ n) by show aA (aA (fB f n) _) _=_;rw[vD p];simp[ik,aA]];exact this
 j0:=by
  intro w S r a8 a0 b7 u t s C c5 b3 c6 R c7 _ c8 x;have b5:=H.b9 _ (Yh s);have d3:=H.b9 (a.h.getD a8 bz) (by simp[b3]);refine xS G H y B t s Zm Zm (λn o=>by show aA (aA (fB f n) _) _=_;rw[xo o];rfl) (λn _ _ o=>by omega) λ_ n b0 a5 c q p M N D=>?_;have:=acr (dp:=w) G M N y B c6 Zm c5 b3 Zm C q p (D:=u) (λv L A F I K d0 b8 b9 E=>by have:=x v I K;rw[Y2 Zm]at this;exact this L A F b8 b9 E) D;rw[show (aA ((bk b d f).cg a0 b7 n) λO=>u O.1 O.2)=Al b (a.h.getD a8 bz) r u n by
   show aA (aA (fB f n) _) _=_;rw[vD p];unfold Al;have b6:=Ar q;have b1:=sU b (dn n);cases c9:jj b n with
   |error d1=>rfl
   |ok O=>
    rw[c9]at b6;rw[b6.1]at b1;show aA (match b7 (fR a0 O.1)with|none=>_|some a9=>_) _=(if _ then _ else _)
    rw[<-Ou b1 c7];generalize mq (a.h.getD a8 bz) O.1=v;rw[c8 v];by_cases P:gg (a.h.getD a8 bz) v=true/\(fy r v).2=true
    .rw[Y9 P,Y9 P];have:=x v P.1 P.2;by_cases a1:(fy r v).1<0
     .rw[Y9 a1]at this;rw[Y9 a1,Y9 a1];show u v _=_;rw[this]
     .rw[Y2 a1,Y2 a1];rfl
    .rw[Y2 P,Y2 P];rfl]
  exact this
 hD:=by
  intro w S r u t s C c2 x n a5 c q p D;obtain⟨a9,rfl⟩:=Int.eq_ofNat_of_zero_le t;obtain⟨b4,c3⟩:=sW s;show Calls _ _ _ _ (mF _ _ _ _ (gW b f (aA (if d<=w then .error ⟨13,n.aa⟩else .ok n) u)))
  refine ac1 G b4 c3 C c2 rfl D (λo=>by rw[Y9 o];exact⟨Zq,rfl,rfl⟩) λo A F E=>?_;rw[Y2 Zm];exact x Zm n A F q p E
end
section
variable {m : Nat -> Prop} {l k : Nat} {n : Zb} {d : ai} {b q h : Zw} {e : PV} {f g j : Nat} {c : Zb} {o : fG} {p : Nl} {Kn : Zb -> Prop}
def vB{b:Type}:Except Mar.ac b->Except (Int×Int) b
 |.ok c=>.ok c
 |.error a=>.error (a.no,a.y)
def tH(b:Zw)(g:Except (Int×Int) (List kP))(c:Ending)(e:Zw):Prop:=match g with
 |.ok f=>∃d,c=.returned (.tuple #[d,.int .i64 0,.int .i64 0])/\bA [fX d (f.map nR)] b e
 |.error a=>c=.returned (.tuple #[.slice none 0 0,.int .i64 a.1,.int .i64 a.2])/\ap [] b e/\a.1≠0
def tH.eO{f g i}(e:ap [] b h)(a:tH h f g i):tH b f g i:=by
 have:=e.aG;cases f with
 |ok p=>
  obtain⟨n,k,d⟩:=a;exact⟨n,k,e.u d.fr,d.y,λj l c m=>Yz this (d.bX j l c m),d.cd⟩
 |error o=>exact⟨a.1,e.u a.2.1,a.2.2⟩
def Us(C:bw m l n k d e b){i J v}(L:DV b (b.heap.size+2) e d f g j c J i v):Calls prog 64 #[gt e d,Y i,Zs c,nQ f g j,Y J] b (tH b (vB (aA (v ⟨0,[]⟩) λt=>if t.aa<c.length then .error ⟨20,t.aa⟩else .ok t.a0))):=by
 obtain⟨a4,a7,F⟩:=aW C.h;obtain⟨a2,a5,D⟩:=aW C.G;obtain⟨a3,a6,E⟩:=aW C.ao;have H:=U L;generalize p:vB (aA (v ⟨0,[]⟩) λt=>if t.aa<c.length then Except.error ⟨20,t.aa⟩else Except.ok t.a0)=G
 have I:=U p;clear p;unfold gt nQ;rw[F,D,E];go_in;go_wp21;generalize O:World.alloc (World.alloc (World.alloc b _) _) _=h;have q:af (Dw (b.heap.size+2) (dS e d f g j c) [] b (dn ⟨0,[]⟩) h):=U (by
  have r:=((rk b).ae (((ar [] b).A (mr (.slice a4 d.h.length a7) (.slice a2 d.G.length a5) (.slice a3 d.ao.length a6) (Zs d.i))).A (.cells #[Y f,Y g,Y j] 73))).cons (a:=fX (.slice none 0 0) []) (ar [] _) ⟨Zq,Y8 ⟨rfl,rfl⟩⟩ (by intro a8 a9;cases a9);have r:=r.A (xk (dS e d f g j c) (dn ⟨0,[]⟩) (.slice none 0 0));simp only[xk,rA,dS,F,D,E]at r;refine⟨.slice none 0 0,?_⟩;simp only[xk,rA,dS,F,D,E];subst O;simpa using r)
 clear O;refine(H.i ⟨0,[]⟩ [] h Zq Zq q.i).mono ?_;rintro b3 b5 ⟨rfl,s,K,P⟩;have u:=U K;have q:=U P;generalize v ⟨0,[]⟩=b1 at *
 clear K P H L;obtain⟨ad,y,x,z,A⟩:=q.i.K;have a0:af ((s.e≠0/\G=.error (s.e,s.wh))\/∃o,s=dn o/\G=if o.aa<c.length then .error (20,o.aa)else .ok o.a0):=U (by
  rw[<-I.i];cases b1 with
  |error a8=>exact Y8 ⟨by rw[u.i.2.1];exact u.i.1,by rw[u.i.2.1,u.i.2.2];rfl⟩
  |ok o=>exact Ya ⟨o,u.i.1,by show vB (if _ then _ else _)=_;split<;>rfl⟩)
 clear I u;rcases a0.i with⟨B,p⟩|⟨o,rfl,p⟩;case' inr=>
  by_cases N:o.aa<c.length;case' pos=>
   have p:G=.error ((hG 20 o.aa (dn o)).e,(hG 20 o.aa (dn o)).wh):=p.trans (Y9 N);have b0:(o.aa:Int)<c.length:=Zm;go_wp21;refine fQ q (qk 20 o.aa) λb6 q=>?_;clear x z A;obtain⟨ad,y,x,z,A⟩:=q.i.K;have B:(hG 20 o.aa (dn o)).e≠0:=by simp[hG]
   generalize hG 20 o.aa (dn o)=s at *
  case' neg=>
   rw[Y2 N]at p;subst p;have b0:¬(o.aa:Int)<c.length:=Zm;clear x z A;obtain⟨ad,y,r⟩:=q.i.op;have x:=aE (r.aR (i:=0) (R:=b.heap.size+2) rfl);have w:=U r.au;clear r;go_wp2;go_ret3;exact⟨.slice ad o.a0.length y,rfl,by simpa using w.i⟩
 all_goals
  subst p;have b2:(s.e != 0)=true:=by simpa using B
  have w:=U (Yp q.i.fr.ag B);go_wp2;refine bJ (λS=>S.cell? ⟨b.heap.size+1+1,10,none⟩=some (Y s.e)/\S.cell? ⟨b.heap.size+1+1,11,none⟩=some (Y s.wh)) ?_ λb4=>?_
  .go_keep
  refine bf [0,1,2,3,4,5,6,7,8,9] ?_;iterate 10 (refine bi ?_)
  refine bg ?_;refine bL λa1 M=>?_;go_simp;refine M.out _ _ ?_;clear M a1;refine nz ?_;go_wp2;go_ret3;exact⟨rfl,w.i.1,w.i.2⟩
end
section
variable {l : Nat -> Prop} {k i : Nat} {m : Zb} {a : ai} {g n c : Zw} {h : PV} {e : fG} {j : Nl} {Kn : Zb -> Prop}
def jt(a:ai)(e:fG)(b g:Zb)(c d f:Int):Except (Int×Int) (List kP):=if eD a b<0 then .error (10,-1)else if ¬kW c d f then .error (11,-1)else vB (pA e b g c.toNat d.toNat f.toNat)
def QH(v:bw l k m i a h g)(a1:i<=1000000000)(E:Tb a.h j e Kn)(p b:Zb)(a8:0<=eD a p->∃s,e p=some s/\kl a.h j s (eD a p)/\(∀c7∈ju s,Kn c7.1)/\lV s)(n o z:Int):Calls prog 36 #[gt h a,Zs p,Zs b,nQ n o z] g (tH g (jt a e p b n o z)):=by
 have A:=U (λ(c:Zw) (N:ap [] g c)=>Py (v.az N) a1 p);have S:=U (λ(c:Zw)=>Mr n o z c);have x:af (0<=eD a p->kW n o z->b.length<=z->n≠0->∀c,ap [] g c->Calls prog 64 #[gt h a,Y (eD a p),Zs b,nQ n o z,Y 1] c (tH c (jt a e p b n o z))):=by
  intro B r M t c N;obtain⟨s,c2,c4,c3,c5⟩:=a8 B;have a2:=v.az N;have a0:=rok (J:=c.heap.size+2) (d:=n.toNat) (f:=o.toNat) (z:=z.toNat) (b:=b) a2 E Zm Zm Zm;have:=Us a2 (Gq a0 E (dp:=1) (Nm a0 E 63 1 rfl) s c5 c3 _ c4);have u:jt a e p b n o z=vB (aA (iH (bk b n.toNat o.toNat) e (fu (bk b n.toNat o.toNat) e 63 1) s ⟨0,[]⟩) λu=>if u.aa<b.length then Except.error ⟨20,u.aa⟩else Except.ok u.a0):=by
   unfold jt pA;rw[Y2 Zm,Y2 (not_not_intro r),Y2 Zm];show vB (aA (aA (if n.toNat<=0 then .error ⟨13,0⟩else .ok (⟨0,[]⟩:bP)) (λc0=>match e p with|some s=>iH _ e _ s c0|none=>.error ⟨0,0⟩)) _)=_
   rw[Y2 Zm,c2];rfl
  rw[u];rw[show ((n.toNat:Nat):Int)=n by omega,show ((o.toNat:Nat):Int)=o by omega,show ((z.toNat:Nat):Int)=z by omega]at this;exact this
 obtain⟨b6,b9,a6⟩:=aW v.h;obtain⟨b4,b7,a4⟩:=aW v.G;obtain⟨b5,b8,a5⟩:=aW v.ao;unfold gt at A x ⊢;rw[a6,a4,a5]at A x ⊢;have q:af (jt a e p b n o z=if eD a p<0 then .error (10,-1)else if ¬kW n o z then .error (11,-1)else if z<b.length then .error (14,0)else if n=0 then .error (13,0)else jt a e p b n o z):=U (by
  unfold jt;split
  .rfl
  split
  .rfl
  rename_i r;split
  .unfold pA;rw[Y9 Zm];rfl
  split
  .rename_i t;unfold pA;rw[Y2 Zm,t];rfl
  .rfl)
 generalize jt a e p b n o z=c8 at *
 generalize eD a p=c9 at *
 clear v a1 E a8 a6 a4 a5;go_in;go_wp21;generalize D:World.alloc (World.alloc g _) _=c;have F:af (c.heap[g.heap.size]?=some (mr (.slice b6 a.h.length b9) (.slice b4 a.G.length b7) (.slice b5 a.ao.length b8) (Zs a.i))):=by
  subst D;exact(((ar [] _).A _).ak _ Zq Zq).trans (be rfl)
 have w:af (c.heap[g.heap.size+1]?=some (.cells #[Y n,Y o,Y z] 73)):=by
  subst D;exact be Zq
 have G:af (ap [] g c):=by subst D;exact((ar [] g).A _).A _
 clear D;refine(A.i c G.i).mono ?_;rintro I d0 ⟨rfl,O⟩;have a3:=(O.ak _ (ay w.i) Zq).trans w.i;have b0:=aE a3;go_wp21;refine(S.i d0).mono ?_;rintro I b1 ⟨rfl,a9⟩;have y:=U (O.u a9);have L:=(y.i.ak _ (ay w.i) Zq).trans w.i;have a7:=(y.i.ak _ (ay F.i) Zq).trans F.i;clear b0 a3 O a9 A S;have b0:b1.cell? ⟨g.heap.size+1,0,none⟩=some (Y n):=aC L rfl;have d2:=aE L;have d3:=aE a7;have H:=U (G.i.u y.i);clear L a7 F w G y;have q:=q.i;by_cases B:c9<0;case' pos=>rw[Y9 B]at q
 case' neg=>
  rw[Y2 B]at q;by_cases r:kW n o z;case' neg=>
   rw[Y9 r]at q;rw[decide_eq_false r]
  case' pos=>
   rw[Y2 (not_not_intro r)]at q;rw[decide_eq_true r];by_cases M:z<b.length;case' pos=>
    rw[Y9 M]at q;clear r
   case' neg=>
    rw[Y2 M]at q;by_cases t:n=0;case' pos=>
     have c6:(n==0)=true:=by simp[t]
     rw[Y9 t]at q;clear t r
    case' neg=>
     have c6:(n==0)=false:=by simp[t]
     have R:=U (x.i Zm r Zm t b1 H.i);clear x q t r;go_wp21;refine R.i.mono ?_;intro I d4 C;have b2:=U (C.eO H.i);have b3:∃P u K,I=.returned (.tuple #[P,Y u,Y K]):=by
      cases c8 with
      |ok d1=>obtain⟨P,c1,-⟩:=C;exact⟨_,_,_,c1⟩
      |error K=>exact⟨_,_,_,C.1⟩
     obtain⟨P,u,K,rfl⟩:=b3;clear C R;go_wp2;go_ret3;exact b2.i
 all_goals
  subst q;clear x;go_wp2;go_ret3;exact⟨rfl,H.i,Zq⟩
end
section
def Qb(n:dI){v:Nat}(a:v<4294967296):pT (fR n v):=by
 unfold fR;split
 .split<;>constructor<;>omega
 .constructor<;>omega
def abE{b n}{d e:bP}{v:Int}(f:nV b n d=.ok (v,e)):pT v:=by
 obtain⟨rfl,a,-⟩:=xE f;split at a
 .rename_i c;rw[Y9 c];have:=Bb a;unfold lH;split<;>constructor<;>omega
 .rename_i c;rw[Y2 c];exact Qb n (sI a)
def Co{b:bP}{x:kP}(c:∀x∈b.a0,pT x.n)(d:pT x.n):∀y∈(dr x b).a0,pT y.n:=by
 intro y a;rcases Yn.1 a with a|a
 .exact c y a
 .rw[Yc.1 a];exact d
def Uf(b:Zb)(o q:Nat):vw (bk b o q) λj=>∀x∈j.a0,pT x.n where
 cY k j d' hd a:=by
  simp only[bk]at a;split at a
  .cases a
  .cases a;exact hd
 num n j d' hd a:=by
  obtain⟨g,h,i⟩:=bZ a;clear a;obtain⟨rfl,-⟩:=uc h;obtain⟨d,c,a⟩:=bZ i;have c:nV b n g=.ok (d.1,d.2):=c;split at a
  .cases a
   exact Co (by rw[(xE c).2.2.2.1];exact hd) (abE c)
  .cases a
 text n f j d' hd a:=by
  obtain⟨g,h,i⟩:=bZ a;clear a;obtain⟨rfl,-⟩:=uc h;obtain⟨d,c,a⟩:=bZ i;obtain⟨e,p,a⟩:=bZ a;cases a
  obtain⟨_,l,_,_⟩:=oz (show ik b n f g=.ok (d.1,d.2)from c);obtain⟨_,_,_,m,_⟩:=zK (show qC b d.1 d.2=.ok (e.1,e.2)from p);exact Co (by rw[m,l];exact hd) (by simp[pT])
 bH n f j d hd a:=by
  obtain⟨g,h,i⟩:=bZ a;clear a;obtain⟨rfl,-⟩:=uc h;obtain⟨e,c,a⟩:=bZ i;cases a
  obtain⟨_,l,_,_⟩:=oz (show ik b n f g=.ok (e.1,e.2)from c);exact Co (by rw[l];exact hd) (by simp[pT])
 cg n v j d hd a:=by
  obtain⟨g,h,i⟩:=bZ a;clear a;obtain⟨rfl,-⟩:=uc h;obtain⟨e,c,a⟩:=bZ i;split at a
  .cases a
  .cases a
   obtain⟨r,s,_,m,_⟩:=oU (show jj b g=.ok (e.1,e.2)from c);exact Co (by rw[m];exact hd) (Qb n (by rw[r];exact sI s))
def Ur{E n b}{a d g:Nat}{c}(e:pA E n b a d g=.ok c):∀x∈c,pT x.n:=by
 obtain⟨_,f⟩:=KI e;exact Fy (Uf b a d) 64 0 n ⟨0,[]⟩ _ Zq f
section
variable {d c : Zw} {r : Except (Int × Int) (List kP)} {e : Ending} {σ : ai} {E : fG} {n b : Zb} {x y z : Int}
def sO:Except (Int×Int) (List kP)->List cF
 |.ok a=>a.map nR
 |.error _=>[]
def xg:Except (Int×Int) (List kP)->Int×Int
 |.ok _=>(0,0)
 |.error a=>a
theorem tH.h(b:tH d r e c):(∃g,e=.returned (.tuple #[g,Y (xg r).1,Y (xg r).2])/\bA [fX g (sO r)] d c)/\∀f,r=.error f->f.1≠0:=by
 cases r with
 |ok i=>exact⟨b,λ_ b=>by cases b⟩
 |error f=>exact⟨⟨_,b.1,(rk d).cons (a:=fX (.slice none 0 0) []) b.2.1 ⟨Zq,Y8 ⟨rfl,rfl⟩⟩ (by intro f b;cases b)⟩,λ_ h=>by cases h;exact b.2.2⟩
def Ua{e}(a:jt σ E n b x y z=.ok e):pA E n b x.toNat y.toNat z.toNat=.ok e/\y<=10000:=by
 unfold jt at a;split at a
 .cases a
 split at a
 .cases a
 rename_i g;cases d:pA E n b x.toNat y.toNat z.toNat with
 |error f=>rw[d]at a;cases a
 |ok c=>rw[d]at a;cases a;exact⟨rfl,Zm⟩
def Ub:(sO (jt σ E n b x y z)).length<=10000/\∀c∈sO (jt σ E n b x y z),pT c.n:=by
 cases e:jt σ E n b x y z with
 |error h=>exact⟨by simp[sO],λc a=>by cases a⟩
 |ok j=>
  obtain⟨d,i⟩:=Ua e;refine⟨by have:=Uq d;simp only[sO,YU];omega,λc a=>?_⟩;obtain⟨g,f,rfl⟩:=YE.1 a;exact Ur d g f
end
end
section
variable {i : Nat -> Prop} {g f : Nat} {k : Zb} {σ : ai} {b l a : Zw} {h : PV} {v : List cF} {e : Zv} {j : Nl} {Kn : Zb -> Prop} {d : TypeId} {c : Nat}
def MV(a:b.ownsRow c d 5 e v.length (v.flatMap cy)):mC b e (v.map gN):=by
 obtain⟨-,o⟩:=id a;rcases o with⟨rfl,n⟩|⟨i,l,u,rfl,-,-,p,q,-⟩
 .rw[List.eq_nil_of_length_eq_zero n];exact⟨none,0,rfl,Zq,Zq,λg j f=>by simp at f⟩
 .refine⟨some ⟨i,0,none⟩,l,Zq,by simpa using p,q,λg j f=>?_⟩;have h:g<v.length:=by
   rcases Yj g v.length with a|a
   .exact a
   .rw[YA (by simpa using a)]at f;cases f
  have r:j=gN (v.getD g bC):=by
   simp[h]at f;simp[h,f]
  subst r;obtain⟨s,t,m,k⟩:=rK a h;cases m
  refine⟨i,0,rfl,?_⟩;rw[Nat.zero_add];exact k
def Ul{h g m j k l p}(q:Il b (hu (fi h).2 g j k l) (pA (dL h) g m j.toNat k.toNat l.toNat) p a)(u:eD σ g<0↔bT (fi h).2 g=none)(C:b.cell? (Zd 1 0)=some (eS 55))(w:∀c,jt σ (dL h) g m j k l=.error c->c.1≠0):ap [] b a/\∃v x,p=.returned (.tuple #[v,x])/\a.ownsRow b.heap.size 87 5 v (sO (jt σ (dL h) g m j k l)).length ((sO (jt σ (dL h) g m j k l)).flatMap cy)/\
  ∀e,ap [] a e->Calls prog 27 #[x,Y (xg (jt σ (dL h) g m j k l)).1,Y (xg (jt σ (dL h) g m j k l)).2] e λp F=>p=.returned (.bool true)/\ap [] e F:=by
 obtain⟨z,q⟩:=q;refine⟨z,?_⟩;have s:∀e,ap [] a e->e.cell? (Zd 1 0)=some (eS 55):=λe f=>px C (z.u f);unfold jt at w ⊢;have r:∀(a:Zw) A d,a.ownsRow A d 5 (.slice none 0 0) 0 []:=λ_ _ _=>⟨rfl,Y8 ⟨rfl,rfl⟩⟩;rcases q with⟨I,o,rfl⟩|⟨E,J,v,o,t,rfl,D⟩|⟨E,G,B,o,t,rfl,H,y⟩
 .rcases OL u o with⟨rfl,i⟩|⟨rfl,i,n⟩
  .rw[Y9 i];exact⟨_,_,rfl,r ..,λe f=>Dj (s e f) 10 Ze⟩
  .rw[Y2 i,Y9 n];exact⟨_,_,rfl,r ..,λe f=>Dj (s e f) 11 Ze⟩
 .obtain⟨i,n⟩:=Dc u o;rw[Y2 i,Y2 (not_not_intro n),t];exact⟨v,_,rfl,by simpa[vB,sO,List.flatMap_map]using D,λe f=>HB 0 e⟩
 .obtain⟨i,n⟩:=Dc u o;rw[Y2 i,Y2 (not_not_intro n),t]at w ⊢;exact⟨_,_,rfl,r ..,λe f=>HA (s e f) ((f.ak B (ay y) Zq).trans y) (w _ rfl)⟩
end
section
variable {a:List dW}{w:Zw}
def ix(a:List dW):List dW:=a.filter λb=>b.w==2
def Ps{b:Nat}(d:b<a.length):ix (a.take (b+1))=ix (a.take b)++if a[b].w=2 then [a[b]]else []:=by
 unfold ix;rw[Yt d,List.filter_append];congr 1;by_cases c:a[b].w=2<;>simp[c]
def Nq(c:dW):∀b∈ez c,b.oneCell'=true:=by
 intro b a;simp only[ez,Yg,List.not_mem_nil,or_false]at a;rcases a with rfl|rfl|rfl|rfl|rfl<;>rfl
def Pr(a:List dW):(ix a).length<=a.length:=List.length_filter_le ..
def agF{H}(r:mC w H a)(c7:a.length<=10000):Calls prog 112 #[H] w λS J=>∃v,S=.returned v/\ap [] w J/\J.ownsRow w.heap.size 87 5 v (ix a).length ((ix a).flatMap ez):=by
 obtain⟨ad,b7,rfl,c8,c0,F⟩:=r;obtain⟨b0,a1,a6,a7,a8⟩:=info_parts BF;have L:=U F;clear F;go_in;go_wp21;have a9:(Value.agg #[Y 0,Y 0,.string ⟨#[]⟩,Y 0,Y 0]).cells.size=5:=Ze;go_loopw [3,8] (λb4 h I=>∃(b:Nat),h=Y b/\b<=a.length/\af (ap [] w I)/\af (I.ownsRow w.heap.size 87 5 b4 (ix (a.take b)).length ((ix (a.take b)).flatMap ez))) (λ_ h _=>a.length-(intOf h).toNat)
 case atStart=>exact⟨0,rfl,Zm,ar [] _,by show World.ownsRow ..;simpa[ix]using World.ownsRow_nil ..⟩
 case round=>
  obtain⟨b,rfl,c4,i,d⟩:=hrel;rcases Yj b a.length with p|c1
  .obtain⟨f,b1,rfl,o⟩:=L.i b a[b] (Yd p);have D:f<w.heap.size:=iI o.1;obtain⟨m,y,z,A,B⟩:yE wr f (b1+b*5) a[b]:=by
    obtain⟨m,y,z,A,B⟩:=o;have k:∀h,wr.cell? (Zd f h)=w.cell? (Zd f h):=λh=>World.cell?_of_block (i.i.ak f D Zq);exact⟨(k _).trans m,(k _).trans y,(k _).trans z,(k _).trans A,(k _).trans B⟩
   have c5:(0:Int)<=(b:Int):=Zm;have c6:(b:Int)<(a.length:Int):=Zm;have c3:f<wr.heap.size:=Yr D i.i.aG;obtain⟨P,R,rfl⟩:=uF d.i;clear o;generalize l:a[b]=c at m y z A B;by_cases e:c.w=2
   .have g:=Ps p;rw[l,Y9 e]at g;have a4:(ix (a.take b)).length<=10000:=Yz (Pr _) (by rw[YW];omega);have c9:=i.i.aG;have C:=U (λx q=>(lI d.i (g:=x) q).1);have n:=U (λb2 b3=>bQ d.i (((ar [] wr).A b2).A b3) Zq);have O:af (ez c=[Y 2,Y c.n,Zs c.s,Y c.y,Y c.am]):=by show _=_;rw[ez,e]
    have j:af ((ix (a.take b)).length+1=(ix (a.take (b+1))).length/\(ix (a.take b)).flatMap ez++ez c=(ix (a.take (b+1))).flatMap ez):=by
     show _/\_;rw[g];simp
    rw[e]at m;generalize a5:(ix (a.take b)).flatMap ez=b5 at n j;generalize r:(ix (a.take b)).length=G at n j a4 C ⊢;clear g d l e a5 r;go_wp2_with (at_builtin;go_must (refine wpList_append_lies _ Zr _ _ _ Zr w.heap.size 87 b0 _ 5 48 underlying76 a1 a6 a7 a8 a9 Zm (.slice P G R) G b5 Zr (n.i ..) ⟨wr.heap.size+1,0,none⟩ 1 1 (ez c) Zr Zr (by rw[O.i];exact World.news_of_block (cs:=#[Y 2,Y c.n,Zs c.s,Y c.y,Y c.am]) (t:=87) (fr:=(0,0)) (be (w:=wr.alloc _) Zq)) (Nq c) Zm Zn Zm Zx (wr.heap.size+2) Zq ?_;intro b9 b8 d0 u E a0 a3;rw[j.i.1,j.i.2]at u;have M:=U u;have K:=U (ap.eO ((i.i.A _).A _) (kV E) (λx q=>Ya (C.i x (by simpa using q))));clear u E a0 a3));exact⟨⟨b+1,Zj,Zm,K,by rw[j.i.1] ;exact M⟩,Zz⟩
   .have b6:(c.w==2)=false:=by simpa using e
    have g:=Ps p;rw[l,Y2 e,YH]at g;have N:=U g;clear g l e;go_wp2;exact⟨⟨b+1,Zj,Zm,i.i.A _,by show World.ownsRow ..;rw[N.i];exact bQ d.i ((ar [] wr).A _) Zq⟩,Zz⟩
  .have a2:b=a.length:=Zm;subst a2;have c2:¬((a.length:Int)<(a.length:Int)):=Zm;rw[YG]at d;go_wp2;go_ret;exact⟨_,rfl,i.i,d.i⟩
def abs:∀(e:List dW) (a:Nat) (d:dW) (b:Nat),e[a]?=some d->b<5->(e.flatMap ez)[a*5+b]?=(ez d)[b]?:=by
 intro e;induction e with
 |nil=>intro a d b c;simp at c
 |cons h i g=>
  intro a d b c f;rw[YD];cases a with
  |zero=>
   simp at c;subst c;rw[Ys Zx];simp
  |succ a=>
   rw[Yw Zx];have:=g a d b (by simpa using c) f;rw[<-this];congr 1;simp;omega
def abt{j i v}{b:List dW}(d:w.ownsRow j i 5 v b.length (b.flatMap ez)):mC w v b:=by
 obtain⟨q,d⟩:=d;rcases d with⟨rfl,l⟩|⟨c,k,t,rfl,x,o,m,n,u,h⟩
 .have r:b=[]:=Yv.1 l;subst r;exact⟨none,0,rfl,Zq,Zq,λf g e=>by simp at e⟩
 .refine⟨some ⟨c,0,none⟩,k,rfl,m,n,λf g e=>⟨c,0,rfl,?_⟩⟩;rw[<-q]at h;have key:∀a,a<5->∀v,(ez g)[a]?=some v->w.cell? ⟨c,0+f*5+a,none⟩=some v:=λa p v s=>by
   rw[Nat.zero_add];exact oK o h (by rw[abs b f g a e p,s])
  exact⟨key 0 Zm _ rfl,key 1 Zm _ rfl,key 2 Zm _ rfl,key 3 Zm _ rfl,key 4 Zm _ rfl⟩
end
end Go.Proofs.YtjdhaegijjednaaGreatDoor
namespace Go.Proofs.YtjdhaegijjednaaGreatDoor
open Go.RowKit Go.Shelf
open Go.Proofs.Tryz
section
variable {b c:Zw}{O a:Nat}
attribute [local go_sem] Oper.semAt_some
structure nr(a O:Nat)(b c:Zw):Prop where
 aG:b.heap.size<=c.heap.size
 ak:∀k,k<a->k≠O->c.heap[k]?=b.heap[k]?
theorem Iw(a O:Nat)(b:Zw):nr a O b b:=⟨Y4 _,λ_ _ _=>rfl⟩
theorem nr.u{d}(e:nr a O b c)(i:nr a O c d):nr a O b d:=⟨Yz e.aG i.aG,λh f g=>(i.ak h f g).trans (e.ak h f g)⟩
def nr.A(d:nr a O b c)(g:a<=b.heap.size)(i:Obj):nr a O b (c.alloc i):=
 ⟨Yz d.aG Zq,λh e f=>(Below.heap_alloc _ _ _ (Yr e (Yz g d.aG))).trans (d.ak h e f)⟩
def nr.a2(f:nr a O b c){d e:Nat}(h:d<a)(g:d≠O):c.cell? (Zd d e)=b.cell? (Zd d e):=World.cell?_of_block (f.ak d h g)
theorem Ru(b:Zw)(l:Nat)(e:Obj)(g:a<=l):nr a O b (b.putObj l e):=by
 refine⟨by simp[World.putObj],λd f _=>?_⟩;have c:l≠d:=Zm;simp[World.putObj,c]
def XH(E x a O:Nat)(ad:Option Addr)(G:Nat)(c:List dW)(a9:c.length<=10000)(e Jx:List dW->Zw->Prop)(d:Zw)(J:AbidesFrom d.heap.size e)
  (L:∀i j d,e i d->i.length<c.length->YieldAt Fence.wide 2 prog E #[.agg (ez j).toArray] d λf k=>
   (f=.returned (.bool true)/\e (i++[j]) k/\nr a O d k)\/(f=.returned (.bool false)/\Jx (i++[j]) k))
  (R:a<=d.heap.size) (a4:d.cell? (Zd x 0)=some (.slice ad c.length G)) (M:∀b j,c[b]?=some j->∃l h,ad=some ⟨l,h,none⟩/\l<a/\l≠O/\yE d l (h+b*5) j) (H:e [] d) :
  CallsIn Fence.wide 3 prog 113 #[.func (.yield E) #[] #[],Zp x] d λf k=>(∃v,f=.returned v)/\
   ((∃F,F=c/\e F k)\/(∃i,i <+: c/\Jx i k)):=by
 refine callsIn_of_wp func113 rfl trivial ?_ rfl;simp only[ntmps113,List.size_toArray,YC,List.length_nil,Nat.reduceAdd,Nat.reduceSub,Array.replicate_succ,Array.replicate_zero,List.push_toArray,List.append_toArray,YT,YX];gi_wp2;gi_loopw [7] (λq wr=>∃b:Nat,b<=c.length/\q=Y b/\e (c.take b) wr/\nr a O d wr) (λq _=>c.length-(intOf q).toNat);case atStart=>exact⟨0,YV _,rfl,H,Iw ..⟩
 case round=>
  obtain⟨b,a6,rfl,o,g⟩:=hrel;by_cases B:b<c.length
  .obtain⟨l,h,rfl,n,m,A⟩:=M b c[b] (Yd B);obtain⟨r,s,t,u,w⟩:yE wr l (h+b*5) c[b]:=by
    obtain⟨r,s,t,u,w⟩:=A;exact⟨(g.a2 n m).trans r,(g.a2 n m).trans s,(g.a2 n m).trans t,(g.a2 n m).trans u,(g.a2 n m).trans w⟩
   have b0:=g.aG;have a7:(0:Int)<=(b:Int):=Zm;have a8:(b:Int)<(c.length:Int):=Zm;have z:∀h,e (c.take b) (wr.alloc h):=λh=>J _ _ _ none o (World.grownBy_alloc ..) (λb1 f=>by cases f);obtain⟨a3,tmps,a1,a2,D,p⟩:=L _ c[b] (wr.alloc (.cells (ez c[b]).toArray 87)) (z _) (by rw[YW];omega);have C:c.take b++[c[b]]=c.take (b+1):=(Yt B).symm;rw[C]at p;have y:=U p;clear p C z A;generalize S:c[b]=j at r s t u w D y;clear S;dsimp only[ez]at D;gi_wp2;refine y.i.mono ?_;rintro f a0 (⟨rfl,I,N⟩|⟨rfl,K⟩)
   .gi_wp2;go_roundw;case rel=>exact⟨b+1,Zm,Zq,I,(g.A R _).u N⟩
    case measure=>simp[intOf];omega
   .gi_wp2;refine bodyPost_ret (results_none rfl ..) rfl ?_;exact⟨⟨_,rfl⟩,.inr ⟨_,List.take_prefix ..,K⟩⟩
  .have P:b=c.length:=Zm;subst P;have a5:¬((c.length:Int)<(c.length:Int)):=Zm;gi_wp2;go_end0;exact⟨⟨_,rfl⟩,.inl (by rw[YG]at o;first|exact o|exact⟨_,rfl,o⟩)⟩
def XU{f:Nat}{g:Zv}{e:List dW}{d:Zw}(y:e.length<=10000)(j:d.heap[f]?=some (.cells #[g] 76))(r:mC d g e)(s:∀a,g.ownBlock=some a->a≠O):SeqStopsK Fence.wide 3 prog 113 #[Zp f] (λh:dW=>#[Value.agg (ez h).toArray]) (nr d.heap.size O) (λH=>H=e) (λG=>G <+: e) e.length d:=λA l Jx m b q _ t o=>by
 obtain⟨ad,n,rfl,_,_,x⟩:=r;have u:=ay j;have v:=(b.cell (p:=⟨f,0,none⟩) u).trans (jQ j);refine XH A f d.heap.size O ad n e y l Jx m q t b.size v (λz h w=>?_) o;obtain⟨a,F,i,k,B,C,D,E⟩:=x z h w;have c:a<d.heap.size:=iI k;exact⟨a,F,i,c,s a (by rw[i];rfl),(b.cell (p:=⟨a,_,none⟩) c).trans k,(b.cell (p:=⟨a,_,none⟩) c).trans B,(b.cell (p:=⟨a,_,none⟩) c).trans C,(b.cell (p:=⟨a,_,none⟩) c).trans D,(b.cell (p:=⟨a,_,none⟩) c).trans E⟩
end
section
attribute [local go_sem] Oper.semAt_some
def Tk{b:Nat}{c:Zv}{d}{a:Zw}(e:a.heap[b]?=some (.cells #[c] d)):a.cell? (Zd b 0)=some c/\∀f,a.frozen? ⟨b,f,none⟩=false:=by
 constructor<;>simp[World.cell?,World.frozen?,e]
def MX{g:Zw}{k j r n v s}(l:g.ownsRow k j r v n s){i:Option Nat}{e:Nat}(q:∀f,i=some f->e<=f/\∃d:Obj,g.heap[f]?=some d/\d.isCells=false):∀a,v.ownBlock=some a->a ∉ i.toList:=by
 intro a b p;obtain⟨_,d,h,o⟩:=q a (by simpa using p);rcases l.2 with⟨c,_⟩|⟨w,t,u,c,_,m,_⟩
 .rw[c]at b;cases b
 .rw[c]at b;cases b;rw[m]at h;cases h;cases o
def LT{a b}(d:ap [] a b){D:Nat}(j:a.heap.size<=D){i}:ap [] a (b.putObj D i):=
 d.eO (M':=[D]) ⟨rfl,rfl,rfl,by simp[World.putObj],λh _ e=>by have f:D≠h:=λc=>e (by simp[c]);simp[World.putObj,f]⟩ (λk g=>Ya (by simp at g;omega))
def Gs{d:Zw}{b e:Nat}{c f n v g}(k:d.ownsRow b c f v n g)(l:e<=b):d.ownsRow e c f v n g:=by
 obtain⟨m,a⟩:=k;refine⟨m,?_⟩;rcases a with a|⟨j,h,i,a,o,p⟩
 .exact Y8 a
 .exact Ya ⟨j,h,i,a,Yz l o,p⟩
section
variable {a : Zw} {e : Nat} {n b : Zb} {c f g : Int} {d : List cF}
abbrev Bj(e:Nat)(n b:Zb)(c f g:Int):Array Zv:=#[Zp e,Zs n,Zs b,.agg #[Y c,Y f,Y g]]
def Ig(e:Nat)(n b:Zb)(c f g:Int)(d:List cF)(a:Zw):Prop:=∀h,ap [] a h->Calls prog 37 (Bj e n b c f g) h λj i=>ap [] h i/\∃v k,j=.returned (.tuple #[v,k])/\i.ownsRow h.heap.size 87 5 v d.length (d.flatMap cy)
def Rw(q:Ig e n b c f g d a)(B:d.length<=10000):Calls prog 67 (Bj e n b c f g) a λj l=>∃i v,j=.returned (.func (.func 113) #[] #[Zp i])/\ap [] a l /\
   a.heap.size<=i/\l.heap[i]?=some (.cells #[v] 76)/\l.ownsRow a.heap.size 87 5 v (ix (d.map gN)).length ((ix (d.map gN)).flatMap ez):=by
 have p:=U (λE=>q _ ((ar [] a).A E));have h:=U (λu v y z (A:World.ownsRow u z y 5 v d.length (d.flatMap cy))=>agF (MV A) (by simpa using B));clear q;generalize ix (d.map gN)=H at *
 go_in;go_wp21;refine(p.i _).mono ?_;rintro j G ⟨r,u,er,rfl,t⟩;have m:=U (((ar [] a).A _).u r);have h:=U (h.i _ _ _ _ t);clear r p t;go_wp21;refine h.i.mono ?_;rintro j w ⟨v,rfl,s,k⟩;have o:=U (m.i.u s);have C:=o.i.aG;have D:=m.i.aG;have x:=U k;obtain⟨ad,F,rfl⟩:=uF k;clear k s h;go_wp2;go_ret;exact⟨w.heap.size,_,rfl,o.i.A _,C,be rfl,Gs (bQ x.i ((ar [] w).A _) Zq) D⟩
def QU{P R S}(a1:Ig e n b P R S d a)(d3:d.length<=10000)(I:Int):Calls prog 39 ((Bj e n b P R S).push (Y I)) a λD c9=>∃v,D=.returned v/\ap [] a c9 /\
   c9.ownsRow a.heap.size 87 5 v ((ix (d.map gN)).take I.toNat).length (((ix (d.map gN)).take I.toNat).flatMap ez):=by
 have c1:=U (λf0 f1 f2=>(callsIn_wide (n:=3)).2 (Rw (λf5 H=>a1 f5 (((((ar [] a).A f0).A f1).A f2).u H)) d3));have d4:(ix (d.map gN)).length<=10000:=by have:=Pr (d.map gN);simp at this;omega
 clear a1;generalize ix (d.map gN)=f6 at *
 generalize c6:I.toNat=u;refine(callsIn_wide (n:=4)).1 ?_;refine callsIn_of_wp_marks func39 rfl trivial ?_ rfl;simp only[Bj,ntmps39,List.size_toArray,YC,List.length_nil,Nat.reduceAdd,Nat.reduceSub,Array.replicate_succ,Array.replicate_zero,List.push_toArray,List.append_toArray,YT,YX];by_cases g4:I<1;case' neg=>
  obtain rfl:I=u:=Zm;clear c6
 case' pos=>
  have d0:=U (show u=0 by omega);clear c6
 all_goals
  gi_wp2_with fail;refine⟨trivial,?_⟩;refine(c1.i _ _ _).mono ?_;rintro D o ⟨N,v,rfl,K,c3,c4,b4⟩;have f3:o.heap[a.heap.size+1+1]?=some (.cells #[.slice none 0 0] 76):=(K.ak _ Zq Zq).trans (be Zq);have e7:o.heap[a.heap.size+1]?=some (.cells #[Y u] 3):=by
   try rw[d0.i]
   exact(K.ak _ Zq Zq).trans ((Below.heap_alloc _ _ _ Zq).trans (be Zq))
  have g1:a.heap.size+3<=N:=by simpa using c3
  have d1:=XU (O:=a.heap.size+1+1) d4 c4 (abt b4) (λE r=>by have:=(lI b4 r).1;simp at this;omega);have d6:ap [] a o:=((((ar [] a).A _).A _).A _).u K;have g6:a.heap.size+3<=o.heap.size:=by simpa using K.aG
  clear K c3 c4 b4 c1;gi_wp2_with fail;refine wpIn_rangeFunc_ownH (w0:=o) rfl Zm (gf:=113) (lb:=#[Zp N]) rfl trivial (enters_of func113 Zk rfl)
   d1 (λz H=>z.u H) (λf b7 _ e9 c5 _ _ _=>Ru f b7 e9 c5) (Below.refl _ _) (λ_=>rfl)
   (λg f=>∃v,f.heap[a.heap.size+1+1]?=some (.cells #[v] 76)/\f.heap[a.heap.size+1]?=some (.cells #[Y u] 3)/\g.length<=u/\f.ownsRow o.heap.size 87 5 v g.length (g.flatMap ez)/\o.heap.size<=f.heap.size/\ap [] a f)
   (λa9 g f=>a9=.exit 0/\∃l c v,g=l++[c]/\l.length=u/\f.heap[a.heap.size+1+1]?=some (.cells #[v] 76)/\f.ownsRow o.heap.size 87 5 v l.length (l.flatMap ez)/\ap [] a f)
   ?hI ?hIx ?h0 (λc a7 f=>∃y a5 a6 a4,o.heap.size<=y/\f.heap[y]?=some (.cells (ez c).toArray 87)/\a7 = { tmps:=#[Zp e,Zs n,Zs b,.agg #[Y P,Y R,Y S],a5,undef,undef,undef,Zp a.heap.size,.pointer (some ⟨a.heap.size+1,0,none⟩),.slice none 0 0,.pointer (some ⟨a.heap.size+1+1,0,none⟩),Zp y,a4,a6,Zp e,Zs n,Zs b,.agg #[Y P,Y R,Y S],.func (.func 113) #[] #[Zp N],.agg (ez c).toArray,undef,undef,undef,undef,undef,undef,undef,undef,undef],defers:=[] }) ?hAx ?assign ?body ?done ?stop
  case hI=>
   rintro g b9 c0 c8 ⟨v,j,w,F,h,G,q⟩ r m;have k:=kV r;exact⟨v,(k.ak _ (ay j) (λz=>by have:=(m _ (by simpa using z)).1;omega)).trans j,(k.ak _ (ay w) (λz=>by have:=(m _ (by simpa using z)).1;omega)).trans w,F,bQ h k (MX h m),Yz G k.aG,q.eO k (λl x=>Ya (by have:=(m l (by simpa using x)).1;omega))⟩
  case hIx=>
   rintro a9 g b9 c0 c8 ⟨b1,l,c,v,a0,A,j,h,q⟩ r m;have k:=kV r;exact⟨b1,l,c,v,a0,A,(k.ak _ (ay j) (λz=>by have:=(m _ (by simpa using z)).1;omega)).trans j,bQ h k (MX h m),q.eO k (λl x=>Ya (by have:=(m l (by simpa using x)).1;omega))⟩
  case hAx=>
   rintro c a7 _ b9 c0 c8 ⟨y,a5,a6,a4,a0,M,A⟩ r m;exact⟨y,a5,a6,a4,a0,(r.block _ (ay M) (λD=>by obtain⟨_,e8,L,b1⟩:=m _ D.symm;rw[M]at L;cases L;cases b1)).trans M,A⟩
  case h0=>exact⟨_,f3,e7,YV _,World.ownsRow_nil _ _ _ _,Y4 _,d6⟩
  case stop=>
   rintro J a9 g f a1 d9 ⟨rfl,l,c,v,rfl,x,j,h,q⟩ B;obtain⟨ad,C,rfl⟩:=uF h;have c2:=jQ j;have e0:f6.take u=l:=by
    obtain⟨f4,m⟩:=d9;rw[<-m,<-x];simp
   subst x;gi_wp2;refine⟨Zq,.inl ⟨_,_,rfl,run_takeDeferred B,?_⟩⟩;refine⟨_,results_tmp rfl _ _ _,?_⟩;rw[e0];exact⟨_,rfl,LT (D:=J) q Zm,Gs (b:=o.heap.size) (ownsRow_putObj h _ B rfl) Zm⟩
  case done=>
   rintro J h5 f a1 rfl ⟨v,j,w,F,h,G,q⟩ B;obtain⟨ad,C,rfl⟩:=uF h;have c2:=jQ j;gi_wp2;refine⟨Zq,.inl ⟨_,_,rfl,run_takeDeferred B,?_⟩⟩;refine⟨_,results_tmp rfl _ _ _,?_⟩;rw[List.take_of_length_le F];exact⟨_,rfl,LT (D:=J) q Zm,Gs (b:=o.heap.size) (ownsRow_putObj h _ B rfl) Zm⟩
  case assign=>
   rintro b7 g c f N ⟨v,j,w,F,h,G,q⟩ B;gi_wp2;exact B _ _ ((KeepsOthers.alloc _ _).from _) ((Iw _ _ _).A G _) ⟨v,(Below.heap_alloc _ _ _ (ay j)).trans j,(Below.heap_alloc _ _ _ (ay w)).trans w,F,bQ h ((ar [] f).A _) Zq,Zx,q.A _⟩ ⟨f.heap.size,_,_,_,G,be rfl,rfl⟩
  case body=>
   rintro b7 g c a7 f c5 ⟨f4,m⟩ ⟨v,j,w,F,h,G,q⟩ ⟨y,a5,a6,a4,g0,M,rfl⟩ g2;obtain⟨ad,C,rfl⟩:=uF h;have c2:=jQ j;have f7:=jQ w;have b6:f.heap[y]?=some (.cells #[Y c.w,Y c.n,Zs c.s,Y c.y,Y c.am] 87):=M;have g9:=aE b6;have h1:=bl b6;have h2:=ay b6;by_cases d7:g.length=u
   .have d8:(g.length:Int)=(u:Int):=Zm;gi_wp2;exact⟨(KeepsOthers.refl _).from _,rfl,_,_,_,rfl,d7,j,h,q⟩
   .have d8:((g.length:Int)==(u:Int))=false:=Zx;have g5:¬(g.length:Int)=(u:Int):=Zm;obtain⟨e6,d5,e2,e3,e4⟩:=info_parts BF;have e5:(Value.agg #[Y 0,Y 0,.string ⟨#[]⟩,Y 0,Y 0]).cells.size=5:=Ze;have g3:g.length+1<=10000:=Zm;have a3:∀E,(Value.slice ad g.length C).ownBlock=some E->o.heap.size<=E:=λE r=>(lI h r).1;gi_wp2_with (gi_at_builtin;refine wpListIn_append_own _ rfl _ _ 76 rfl o.heap.size 87 e6 _ 5 48 underlying76 d5 e2 e3 e4 e5 Ze (.slice ad g.length C) g.length _ rfl (bQ h ((ar [] f).A _) Zq) ⟨f.heap.size,0,none⟩ 1 1 (ez c) rfl rfl (World.news_of_block (cs:=(ez c).toArray) (t:=87) (fr:=(0,0)) (be rfl)) (Nq c) Zn Zm Zx ?_;intro g8 b8 b5 b2 _;obtain⟨a8,b0,rfl⟩:=uF b5;have c7:b8.heap[a.heap.size+1+1]?=some (.cells #[.slice ad g.length C] 76):=(b2.block _ Zx (λD=>by have:=a3 _ D.symm;omega)).trans ((Below.heap_alloc _ _ _ (ay j)).trans j);obtain⟨h3,h4⟩:=Tk c7);have k:ap (Value.slice ad g.length C).ownBlock.toList f b8:=(((ar [] f).A _).aZ Zq).u (kV b2);have e1:=ci (i:=0) c7 (.slice a8 (g.length+1) b0);refine⟨?kf,⟨?ks,?kb⟩,.slice a8 (g.length+1) b0,by simpa using e1,?km,Zx,?kr,?kz,?kk⟩;case kf=>
     refine(((KeepsOthers.alloc _ _).trans (KeepsOthers.of_grownBy b2 (λg7 e8 a2 L=>?_))).trans (KeepsOthers.setCell _ _ _)).from _;have:=bQ h ((ar [] f).A (.cells (ez c).toArray 87)) Zq;rcases this.2 with⟨h0,_⟩|⟨E,f8,f9,h0,_,A,_⟩
     .rw[h0]at a2;cases a2
     .rw[h0]at a2;cases a2
      rw[A]at L;cases L
      rfl
    case ks=>have:=k.aG;simpa using this
    case kb=>intro H a0 A;exact(Below.heap_setCell _ _ _ _ (by simpa using A)).trans (k.ak H Zm (λb3=>by have:=a3 H (by simpa using b3);omega))
    case km=>exact(Below.heap_setCell _ _ _ _ Zq).trans ((k.ak _ (ay w) (λb3=>by have:=a3 _ (by simpa using b3);omega)).trans w)
    case kz=>have:=k.aG;simp;omega
    case kr=>
     have d2:=bQ b5 ((ar [a.heap.size+1+1] b8).a6 (p:=⟨a.heap.size+1+1,0,none⟩) Zq (.slice a8 (g.length+1) b0)) (λE r=>by have:=(lI b5 r).1;simp;omega);simpa using d2
    case kk=>exact(q.eO k (λl x=>Ya (by have:=a3 l (by simpa using x);omega))).c0 Zx _
end
end
end Go.Proofs.YtjdhaegijjednaaGreatDoor
namespace Go.Proofs.YtjdhaegijjednaaGreatDoor
open Go.RowKit Go.MapKept Go.Proofs.Tryz
section
variable {i : Nat -> Prop} {h f : Nat} {j : Zb} {σ : ai} {c k a : Zw} {d : PV} {v : List cF} {e : Zv} {g : Nl} {Kn : Zb -> Prop}
def oc(a:List cF):List cF:=a.filter λb=>b.w==2
def agT{b:List cF}{a:Nat}(c:a<b.length):oc (b.take (a+1))=oc (b.take a)++if(b.getD a bC).w=2 then [b.getD a bC]else []:=by
 unfold oc;rw[List.take_add_one,List.filter_append];congr 1;simp[c,List.filter_cons]
def txG(a:List cF)(b:Nat):(ix (a.map gN)).take b=((oc a).take b).map gN:=by
 unfold ix oc;rw[List.filter_map,List.map_take];rfl
def XI{S G:Nat}{u d1}(a8:c.heap[S]?=some (.cells #[Zp G,d.rv,d.nv,d.pv,Zs σ.i] 67))(d4:tS d1 G u)(b9:∀A∈d1,c.heap[A.1]?=some A.2)(d6:nD u)(d9:∀x∈(fi u).1,mJ x)
  (P:bw i h j f σ d c) (d3:f<=1000000000) (f3:Tb σ.h g (dL u) Kn) (n b:Zb) (d8:b.length<=maxLen) (e8:0<=eD σ n->∃a6,dL u n=some a6/\kl σ.h g a6 (eD σ n)/\(∀A∈ju a6,Kn A.1)/\lV a6) (e9:eD σ n<0↔bT (fi u).2 n=none) (e0:c.cell? (Zd 1 0)=some (eS 55)) (x y z t:Int) :
  Calls prog 22 #[Zp S,Zs n,Zs b,Y x,Y y,Y z,Y t] c λd2 o=>d2=.returned (.bool true)/\ap [] c o:=by
 have c9:=U (Me x y z c);have a5:=U (λa (K:ap [] c a)=>(QH (P.az K) d3 f3 n b e8 x y z).mono λ_ _ q=>q.h);have a4:=U (λh6 a (K:ap [] c a)=>(QG d4 (λA e5=>(K.ak A.1 (ay (b9 A e5)) Zq).trans (b9 A e5)) d6 d9 n b x y z d8).mono λ_ _ q=>Ul (σ:=σ) q e9 (px e0 K) h6);have g8:=(Ub (σ:=σ) (E:=dL u) (n:=n) (b:=b) (x:=x) (y:=y) (z:=z)).1;obtain⟨f8,g4,e7⟩:=aW P.h;obtain⟨f6,g2,e2⟩:=aW P.G;obtain⟨f7,g3,e6⟩:=aW P.ao;have a0:=U a8;clear a8 d4 b9 d6 d9 P d3 f3 e8 e9 e0 d8;generalize (∀a7,jt σ (dL u) n b x y z=.error a7->a7.1≠0)=k0 at *
 generalize jt σ (dL u) n b x y z=c1 at *
 generalize sO c1=k at *
 generalize (xg c1).1=i9 at *
 generalize (xg c1).2=j0 at *
 unfold gt at a5;rw[e7,e2,e6]at a5 a0;clear e7 e2 e6;go_in;go_wp21;refine c9.i.mono ?_;rintro d2 w ⟨rfl,f1⟩;have c6:=U f1;clear f1 c9;go_wp21;generalize a9:World.alloc (World.alloc w _) _=a;have a1:af (ap [] c a):=by subst a9;exact(c6.i.A _).A _
 have b5:af (a.heap[w.heap.size]?=some (.cells #[Y x,Y y,Y z] 72)):=by
  subst a9;exact(((ar [] _).A _).ak _ Zq Zq).trans (be rfl)
 have a2:af (a.heap[w.heap.size+1]?=some (.cells #[Y x,Y y,Y z] 73)):=by
  subst a9;exact be Zq
 clear a9 c6;have R:=U ((a1.i.ak _ (ay a0.i) Zq).trans a0.i);have d0:=U (a5.i a.drew a1.i.ag);have f9:=aE R.i;have c0:=aE a2.i;clear a5 a0;refine bJ (λo=>o.cell? (Zd S 1)=some (.slice f8 σ.h.length g4)/\o.cell? (Zd S 2)=some (.slice f6 σ.G.length g2)/\o.cell? (Zd S 3)=some (.slice f7 σ.ao.length g3)/\o.cell? (Zd S 4)=some (Zs σ.i)/\o.cell? ⟨w.heap.size+1,0,none⟩=some (Y x)/\o.cell? ⟨w.heap.size+1,1,none⟩=some (Y y)/\o.cell? ⟨w.heap.size+1,2,none⟩=some (Y z)) ?_ λO=>?_
 .go_keep
 refine bf [0,1,2,3,4,5,6] ?_;iterate 7 (refine bi ?_)
 refine bg ?_;refine bI 7 λB r=>?_;(go_simp;go_at_call 36;refine d0.i.mono ?_;rintro C c2 ⟨⟨e,rfl,L⟩,f0⟩;have a3:=U L;have b4:=U (a1.i.ag.u L.fr);have b1:=U ((L.fr.ak _ (ay R.i) Zq).trans R.i);have c8:=(L.fr.ak _ (ay a2.i) Zq).trans a2.i;have c7:=U ((L.fr.ak _ (ay b5.i) Zq).trans b5.i);have g0:=aE b1.i;have i0:=aE c8;have a4:=U (a4.i f0);clear L d0 c8 f9 c0);refine r.out _ _ ?_ (λO=>?_)
 .go_keep
 clear r B;refine nz ?_;refine bf [8,9,10,11,12,13] ?_;iterate 6 (refine bi ?_)
 refine bg ?_;refine bL λB r=>?_;go_simp;refine r.out _ _ ?_;clear r B;refine nz ?_;clear g0 i0 O b5 a2 R f0;have c4:af (bA [fX e k] c c2):=U ⟨b4.i,a3.i.y,λs g9 b a8=>Yz a1.i.aG (a3.i.bX s g9 b a8),a3.i.cd⟩;clear a3;obtain⟨h8,h9,rfl⟩:=aW (c4.i.bv (i:=0) (a:=fX e k) rfl);have c3:af (∀a,ap [] c a->Calls prog 39 #[Zp G,Zs n,Zs b,.agg #[Y x,Y y,Y z],Y t] a λC o=>∃v,C=.returned v/\ap [] a o/\o.ownsRow a.heap.size 87 5 v ((oc k).take t.toNat).length (((oc k).take t.toNat).flatMap cy)):=U (λa K=>by
  have:=QU (λi4 h7=>(a4.i i4 (K.u h7)).mono λ_ _ q=>⟨q.1,q.2.choose,q.2.choose_spec.choose,q.2.choose_spec.choose_spec.1,q.2.choose_spec.choose_spec.2.1⟩) g8 t;rw[txG]at this;simp only[YU,List.flatMap_map]at this;exact this)
 clear a4;go_wp2;go_loopw [20,21] (λi7 s a=>∃(m:Nat) (l:List cF) (F:Option Addr) (wc:Nat),i7=.slice F l.length wc/\s=Y m/\m<=k.length/\af (l=oc (k.take m)/\l.length<=t.toNat/\bA [fX (.slice F l.length wc) l] c2 a)) (λ_ s _=>k.length-(intOf s).toNat)
 case atStart=>exact⟨0,[],none,0,rfl,rfl,YV _,U ⟨rfl,YV _,(rk c2).cons (a:=fX (.slice none 0 0) []) (ar [] _) ⟨Zq,Y8 ⟨rfl,rfl⟩⟩ (by intro a7 q;cases q)⟩⟩
 case round=>
  obtain⟨m,l,F,wc,rfl,rfl,j1,p⟩:=hrel;by_cases h0:m<k.length/\(l.length:Int)<t
  .obtain⟨J,h4⟩:=h0;have j2:(m:Int)<k.length:=Zm;obtain⟨a7,i8,C,j5,j6,j7,j8,j9⟩:=rK (bQ (c4.i.bv (i:=0) (a:=fX (.slice h8 k.length h9) k) rfl) p.i.2.2.fr Zq) J;simp only[Value.slice.injEq,true_and]at C;obtain⟨rfl,rfl⟩:=C;have N:=U (agT J);generalize k.getD m bC=M at *
   have h3:(l.length+1)*48<=140737488355328:=by
    have D:=p.i.1;have E:(oc (k.take m)).length<=(k.take m).length:=List.length_filter_le ..;rw[<-D]at E;simp at E;omega
   by_cases I:M.w=2
   .have h1:(M.w==2)=true:=by simp[I]
    rw[Y9 I]at N;clear I;have e3:af (∀x,(wr.alloc x).ownsRow 0 52 5 (.slice F l.length wc) l.length (l.flatMap cy)):=U (λx=>bQ (p.i.2.2.bv (i:=0) (a:=fX (.slice F l.length wc) l) rfl) ((ar [] wr).A x) Zq);go_wp2_with (at_builtin;(refine ku BE underlying31 (e3.i _) (cy M) (heap_alloc_new wr _) (Np M) h3 Zq (H:=wr.heap.size+1) Zq ?_;intro g5 g1 i6 e4 e1 d7 h2;have f5:=U (p.i.2.2.a4 (i:=0) rfl ((ar [] wr).A _) e4 e1 d7 Zq);clear e4 e1 d7 h2 e3));go_wp2;exact⟨⟨m+1,l++[M],some ⟨g5,0,none⟩,g1,Zq,Zj,J,U ⟨by rw[N.i,p.i.1],Zx,by simpa[fX]using f5.i⟩⟩,Zz⟩
   .have h1:(M.w==2)=false:=by simp[I]
    rw[Y2 I,YH]at N;clear I;go_wp2;exact⟨⟨m+1,l,F,wc,rfl,Zj,J,U ⟨by rw[N.i];exact p.i.1,p.i.2⟩⟩,Zz⟩
  .have d5:af ((oc k).take t.toNat=l):=U (by
    obtain⟨D,E,-⟩:=p.i;by_cases J:m<k.length
    .have g6:l.length=t.toNat:=Zm;have g7:oc k=l++oc (k.drop m):=by
      rw[D];unfold oc;rw[<-List.filter_append,List.take_append_drop]
     rw[g7,<-g6,List.take_left'];rfl
    .rw[List.take_of_length_le Zm]at D;rw[<-D];exact List.take_of_length_le E)
   have b2:=U ((p.i.2.2.fr.ak _ (ay b1.i) Zq).trans b1.i);have b6:=U ((p.i.2.2.fr.ak _ (ay c7.i) Zq).trans c7.i);have b7:=U (c3.i wr.drew (b4.i.u p.i.2.2.fr).ag);rw[d5.i]at b7;have i1:wr.cell? (Zd S 0)=some (Zp G):=aC b2.i rfl;have c0:=aE b6.i;clear c3 d5;by_cases J:(m:Int)<k.length;case' pos=>have h4:¬(l.length:Int)<t:=Zm
   all_goals
    go_wp21;refine bJ (λo=>o.cell? (Zd S 0)=some (Zp G)/\o.cell? (Zd w.heap.size 0)=some (Y x)/\o.cell? (Zd w.heap.size 1)=some (Y y)/\o.cell? (Zd w.heap.size 2)=some (Y z)) ?_ λO=>?_
    .go_keep
    refine bf [0,1,2,3,4,5,6,7] ?_;iterate 8 (refine bi ?_)
    refine bg ?_;refine bI 8 λB r=>?_;(go_simp;go_at_call 39;refine b7.i.mono ?_;rintro C i5 ⟨v,rfl,b0,b8⟩;obtain⟨j3,j4,h5⟩:=aW b8;subst h5;have c5:=U b8;have b3:=U b0;have i2:i5.cell? (Zd S 0)=some (Zp G):=aC ((b0.ak _ (ay b2.i) Zq).trans b2.i) rfl;have i3:=aE ((b0.ak _ (ay b6.i) Zq).trans b6.i);clear b0 b8 b7 i1 c0);refine r.out _ _ ?_ (λO=>?_)
    .go_keep
    clear r B;refine nz ?_;refine bL λB r=>?_;go_simp;refine r.out _ _ ?_;clear r B;refine nz ?_;clear i2 i3 O;go_wp21;refine(Oi (bQ (p.i.2.2.bv (i:=0) (a:=fX (.slice F l.length wc) l) rfl) ((ar [] wr).ag.u b3.i) Zq) (MV c5.i) ?_).mono ?_
    .have D:=p.i.1;have E:(oc (k.take m)).length<=(k.take m).length:=List.length_filter_le ..;rw[<-D]at E;simp at E;omega
    rintro C i6 ⟨rfl,f2⟩;have f4:=U (((b4.i.u p.i.2.2.fr).ag.u b3.i).u f2);clear b3 f2 c5;go_wp2;go_ret;exact⟨rfl,f4.i⟩
end
section
variable {d e : Zw} {a : Nat} {s g : fq} {k l h f : Zv} {R : List Th}
def XS{S}(a:DX S d)(h e:Zb)(u:e.length<=1000000000)(w:d.cell? (Zd 1 0)=some (eS 55))(j k l i:Int):Calls prog 22 #[Zp S,Zs h,Zs e,Y j,Y k,Y l,Y i] d λn x=>n=.returned (.bool true)/\ap [] d x:=by
 obtain⟨H,F,y,E,C,D,B,A,z,G,I,c,a,g,p,q,r,s,t⟩:=a;have b:=a.la g (Hw c) (Po c);have f:=a.k4 (Pp c);exact XI p q r b (PB f λm v=>(Hv c m v).x) s t (a.tb g b f) h e (Yz u Ze) (λo=>a.k9 g b f o) (a.kq b h) w j k l i
def afk(c8:bA (wL a s k l h f R) e d)(m:dJ)(a1:ln m)(a2:uZ s)(t:m.w<=0\/m.w=11\/m.w=13)(e0:s.bB≠[])(c7:∀S∈s.bB,yJ R e S)(e6:AN s)(f8:(fF s m.a).length<=1000000000)(c5:e.cell? (Zd 1 0)=some (eS 55)):Calls prog 13 #[Zp a,.agg (dl m)] d λc2 p=>c2=.returned (.bool true)/\∃g u v,bA (wL a g u v h f R) e p/\(g=s\/∃D,g = { s with av:=s.av++[D] }/\D.length<=1000000000):=by
 have c6:0<s.bB.length:=YM.2 e0;have a5:fU m.x s.bB.length<s.bB.length:=zN m.x c6;obtain⟨F,P,rfl,-,-⟩:=ND (c8.bv (i:=3) (a:=uN 37 h s.bB) rfl) a5;have b5:=U (zI (c8.aw (.cells (dl m) 27)) m a1 a2);rw[Nu Zm]at b5;have d2:=U (λ(C:Zw) u v (q:bA (wL a s u v (.slice (some ⟨F,0,none⟩) s.bB.length P) f (R++[.obj d.heap.size (.cells (dl m) 27)])) e C)=>wA (s:=s) (q.aR (i:=0) (R:=a) rfl) (q.bv (i:=1) (a:=cS u s.av) rfl) m.a a1.2.1.1 a1.2.1.2 (by have:=a2.av;omega));have a9:=U (Cz m.x s.bB.length a1.1.1 a1.1.2 c6 (by have:=a2.bB;omega));have d1:=U (λ(C:Zw) u v (q:bA (wL a s u v (.slice (some ⟨F,0,none⟩) s.bB.length P) f (R++[.obj d.heap.size (.cells (dl m) 27)])) e C)=>ND (q.bv (i:=3) (a:=uN 37 (.slice (some ⟨F,0,none⟩) s.bB.length P) s.bB) rfl) a5);have b0:=U (λ(C:Zw) u v (q:bA (wL a s u v (.slice (some ⟨F,0,none⟩) s.bB.length P) f (R++[.obj d.heap.size (.cells (dl m) 27)])) e C)=>UT (c7 (s.bB.getD (fU m.x s.bB.length) 0) (by simp[a5]) C q.fr λy c4=>q.y y (PP c4)) (q.bv (i:=2) (a:=fX v s.aO) rfl) e6 (by have:=a2.aO;omega) s.a5 (px c5 q.fr) s.a s.b s.c);have a8:=U (λ(C:Zw) u v (q:bA (wL a s u v (.slice (some ⟨F,0,none⟩) s.bB.length P) f (R++[.obj d.heap.size (.cells (dl m) 27)])) e C)=>XS (c7 (s.bB.getD (fU m.x s.bB.length) 0) (by simp[a5]) C q.fr λy c4=>q.y y (PP c4)) s.a5 (fF s m.a) (by have:=f8;omega) (px c5 q.fr) s.a s.b s.c m.b);have g0:(s.av.length+1)*16<=140737488355328:=by have:=a2.av;omega
 have g6:(m.w==9)=false:=Zx;have g3:(m.w==10)=false:=Zx;have a7:=U t;have g4:¬(14:Int)<m.w:=Zm;have h0:((s.bB.length:Int)==0)=false:=Zx;have g8:(0:Int)<=↑(fU m.x s.bB.length):=Zm;have g9:(↑(fU m.x s.bB.length):Int) < ↑s.bB.length:=Zm;generalize fU m.x s.bB.length=e9 at *
 generalize s.bB.getD e9 0=S at *
 generalize fF s m.a=tx at *
 clear c8 a1 a2 e0 c6 a5 t c7 e6 c5;go_in;go_wp21;refine b5.i.mono ?_;rintro c2 c9 ⟨rfl,u,v,a4⟩;obtain⟨b2,b3,rfl⟩:=aW (a4.bv (i:=1) (a:=cS u s.av) rfl);obtain⟨d3,d6,rfl⟩:=aW (a4.bv (i:=2) (a:=fX v s.aO) rfl);have O:=U a4;obtain⟨g7,g2,e7,b9,c3⟩:=d1.i c9 _ _ a4;simp only[Value.slice.injEq,Yu,Addr.mk.injEq,and_true,true_and]at e7;obtain⟨rfl,rfl⟩:=e7;clear a4 b5 d1;obtain⟨G,I,J,K,L,M,of,N⟩:=fs O.i.g5;have n:=O.i.aR (i:=0) (R:=a) rfl;have b7:c9.cell? (Zd a 6)=some (.slice (some ⟨F,0,none⟩) s.bB.length P):=aC n rfl;have z:=bl n;have A:=ay n;clear n;have b1:=U (d2.i c9.drew _ _ O.i.ag);clear d2;generalize d.heap.size=b8 at *
 go_wp2;refine bJ (λp=>p.cell? (Zd a 6)=some (.slice (some ⟨F,0,none⟩) s.bB.length P)/\p.cell? (Zd b8 1)=some (Y m.x)/\p.cell? (Zd F e9)=some (wt S)) ?_ λa0=>?_
 .go_keep
 refine bf [0,1,2,3,4,5,6,7,8,9,10] ?_;iterate 11 (refine bi ?_)
 refine bg ?_;refine bI 11 λx o=>?_;(go_simp;refine(a9.i _).mono ?_;rintro c2 h1 ⟨rfl,rfl⟩);refine o.out _ _ ?_ (λa0=>?_)
 .go_keep
 clear o x;refine nz ?_;refine bf [12,13] ?_;iterate 2 (refine bi ?_)
 refine bg ?_;refine bL λx o=>?_;go_simp;refine o.out _ _ ?_;clear o x;refine nz ?_;go_wp21;refine b1.i.mono ?_;rintro d7 f0 ⟨rfl,b4⟩;have r:=U (O.i.ag.ae b4);rcases a7.i with t|t|t
 .have d8:(m.w==11)=false:=Zx;have f6:(m.w==12)=false:=Zx;have f7:(m.w==13)=false:=Zx;have g5:(m.w==14)=false:=Zx;clear O b1 b4 G I J K L M of N b7 z A b9 c3 a9 b0 a8 t a7;obtain⟨G,I,J,K,L,M,of,N⟩:=fs r.i.g5;go_wp2;go_ret;exact⟨rfl,s,_,_,r.i.c7,Y8 rfl⟩
 rotate_left
 .have d8:(m.w==11)=false:=by rw[t];rfl
  have f6:(m.w==12)=false:=by rw[t];rfl
  have f7:(m.w==13)=true:=by rw[t];rfl
  have a3:=U (a8.i f0.drew _ _ r.i.ag);clear t a7 b0 a8 O b1 b4 G I J K L M of N b7 z A b9 c3 a9;obtain⟨G,I,J,K,L,M,of,N⟩:=fs r.i.g5;have n:=r.i.aR (i:=0) (R:=a) rfl;have b6:=aE n;have z:=bl n;have A:=ay n;clear n;go_wp21;refine bJ (λp=>p.cell? (Zd a 2)=some (Zs s.a5)/\p.cell? (Zd a 3)=some (Y s.a)/\p.cell? (Zd a 4)=some (Y s.b)/\p.cell? (Zd a 5)=some (Y s.c)/\p.cell? (Zd b8 3)=some (Y m.b)) ?_ λa0=>?_
  .go_keep
  refine bf [0,1,2,3,4,5,6,7,8,9,10,11,12,13,14,15,16,17,18,19] ?_;iterate 20 (refine bi ?_)
  refine bg ?_;refine bI 20 λx o=>?_;(go_simp;refine a3.i.mono ?_;rintro d7 w ⟨rfl,a6⟩;have B:=U (r.i.ag.ae a6);have E:=B.i.aR (i:=0) (R:=a) rfl;have c0:=aE E;have c1:=(fs B.i.g5).2.2.2.1;clear E a6);refine o.out _ _ ?_ (λa0=>?_)
  .go_keep
  clear o x;refine nz ?_;refine bL λx o=>?_;go_simp;refine o.out _ _ ?_;clear o x;refine nz ?_;clear r a3 G I J K L M of N b6 z A c0 c1 a0;go_wp2;go_ret;exact⟨rfl,s,_,_,B.i.c7,Y8 rfl⟩
 have d8:(m.w==11)=true:=by rw[t];rfl
 clear t a7;obtain⟨D,e8,e2⟩:=b0.i f0.drew _ _ r.i.ag;have f1:=U e8;have a3:=U e2;clear e8 e2;clear O b1 b4 G I J K L M of N b7 z A b9 c3 a9 b0 a8;obtain⟨G,I,J,K,L,M,of,N⟩:=fs r.i.g5;have n:=r.i.aR (i:=0) (R:=a) rfl;have b6:=aE n;have z:=bl n;have A:=ay n;clear n;go_wp21;refine bJ (λp=>p.cell? (Zd a 1)=some (.slice d3 s.aO.length d6)/\p.cell? (Zd a 2)=some (Zs s.a5)/\p.cell? (Zd a 3)=some (Y s.a)/\p.cell? (Zd a 4)=some (Y s.b)/\p.cell? (Zd a 5)=some (Y s.c)) ?_ λa0=>?_
 .go_keep
 refine bf [0,1,2,3,4,5,6,7,8,9,10,11,12,13,14,15,16,17,18,19,20] ?_;iterate 21 (refine bi ?_)
 refine bg ?_;refine bI 21 λx o=>?_;(go_simp;refine a3.i.mono ?_;rintro d7 w ⟨rfl,a6⟩;have B:=U (r.i.ag.ae a6);have E:=B.i.aR (i:=0) (R:=a) rfl;have c0:w.cell? (Zd a 1)=some (.slice d3 s.aO.length d6):=aC E rfl;have f3:w.cell? (Zd a 2)=some (Zs s.a5):=aC E rfl;have c1:w.cell? (Zd a 3)=some (Y s.a):=aC E rfl;have f4:w.cell? (Zd a 4)=some (Y s.b):=aC E rfl;have f5:w.cell? (Zd a 5)=some (Y s.c):=aC E rfl;clear E a6);refine o.out _ _ ?_ (λa0=>?_)
 .go_keep
 clear o x;refine nz ?_;refine bf [22,23,24,25] ?_;iterate 4 (refine bi ?_)
 refine bg ?_;refine bL λx o=>?_;go_simp;refine o.out _ _ ?_;clear o x;refine nz ?_;clear r a3 G I J K L M of N b6 z A c0 f3 c1 f4 f5 a0;have n:=B.i.aR (i:=0) (R:=a) rfl;have d4:w.cell? (Zd a 0)=some (.slice b2 s.av.length b3):=aC n rfl;have z:=bl n;have A:=ay n;clear n;have e4:af (∀D,(w.alloc D).ownsRow 0 9 1 (.slice b2 s.av.length b3) s.av.length (s.av.map λs=>Zs s)):=U (λD=>bQ (B.i.bv (i:=1) (a:=cS (.slice b2 s.av.length b3) s.av) rfl) ((ar [] w).A D) Zq);go_wp2_with (at_builtin;(refine ku ut underlying30 (e4.i _) [Zs D] (heap_alloc_new w _) Zy g0 Zq (H:=w.heap.size+1) Zq ?_;intro d9 d5 g1 e5 e3 e1 f9;have d0:=U (B.i.gU (i:=1) rfl ((ar [] w).A _) e5 e3 e1 Zq);clear e5 e3 e1 f9 e4 d4 z A B;have n:=d0.i.aR (i:=0) (R:=a) rfl;have d4:g1.cell? (Zd a 0)=some (.slice b2 s.av.length b3):=aC n rfl;have z:=bl n;have A:=ay n;clear n));go_wp2;go_ret;have f2:=d0.i.aq (i:=0) (j:=0) rfl (.slice (some ⟨d9,0,none⟩) (s.av.length+1) d5);exact⟨rfl,_,.slice (some ⟨d9,0,none⟩) (s.av.length+1) d5,_,ey.c7 (a:=.obj b8 (.cells (dl m) 27)) (by simpa[wL]using f2),Ya ⟨D,rfl,f1.i⟩⟩
end
section
variable {a g : Zw} {h e : Nat} {s f : fq} {i j d b : Zv} {c : List Th} {o : dJ}
def afl(k:DD h g e a)(O:e<=16384)(o:dJ)(t:ln o)(z:o.s.length<=16384)(a4:o.w<9\/o.w=9\/o.w=11\/o.w=13)(E:Gl g)(D:g.cell? (Zd 1 0)=some (eS 55)):Calls prog 13 #[Zp h,.agg (dl o)] a λr u=>r=.returned (.bool true)/\DD h g (e+1) u:=by
 obtain⟨s,i,j,d,b,c,x,l,q,p⟩:=k;have w:=l.bm O;by_cases C:o.w=9
 .cases F:eW (aJ (fF s o.a))with
  |error a3=>
   refine(afw x o t w C F E D).mono ?_;rintro r u ⟨rfl,m,n,k⟩;exact⟨rfl,s,m,n,d,b,c,k,l.up,q,p⟩
  |ok a2=>
   refine(afr x o t w C F E).mono ?_;rintro r u ⟨rfl,S,m,n,R,a0,k,z⟩;refine⟨rfl,_,m,n,R,b,_,k,⟨l.up.av,l.up.e1,l.up.aO,by have:=l.bB;simp;omega,l.up.eG⟩,q,λK v J I G=>?_⟩;rcases Yn.1 v with v|v
   .exact p K v J I λy A=>G y (Yf _ A)
   .rw[Yc.1 v];exact z J I λy A=>G y (Ym _ A)
 by_cases N:o.w<=0\/o.w=11\/o.w=13
 .by_cases H:s.bB=[]
  .refine(afn x o t w Zm H).mono ?_;rintro r u ⟨rfl,m,n,k⟩;exact⟨rfl,s,m,n,d,b,c,k,l.up,q,p⟩
  .refine(afk x o t w N H p q (l.text o.a) D).mono ?_;rintro r u ⟨rfl,f,m,n,k,rfl|⟨a5,rfl,P⟩⟩
   .exact⟨rfl,f,m,n,d,b,c,k,l.up,q,p⟩
   .exact⟨rfl,_,m,n,d,b,c,k,l.aS P,q,p⟩
 .obtain⟨f,B⟩:=aca (s:=s) (o:=o) Zm Zm;refine(afp x o t w B).mono ?_;rintro r u ⟨rfl,m,n,k⟩;obtain⟨L,M,a1⟩:=l.m4 z B;exact⟨rfl,f,m,n,d,b,c,k,L,acd t q B,by rw[M];exact p⟩
def Rv{v h}(m:rc a v h)(n:∀o∈h,ln o)(u:∀o∈h,o.s.length<=1000000000000000000)(r:Gl a)(q:a.cell? (Zd 1 0)=some (eS 55)):Calls prog 7 #[v] a λA M=>A=.returned (.bool true)/\ap [] a M:=by
 have g:ap [] a (a.alloc (.cells #[Y 9,Y 11,Y 13] 3)):=(ar [] a).A _;have p:(a.alloc (.cells #[Y 9,Y 11,Y 13] 3)).heap[a.heap.size]?=some (.cells #[Y 9,Y 11,Y 13] 3):=be rfl;have l:=U (acv (kv:=.slice (some ⟨a.heap.size,0,none⟩) 3 3) (ks:=[9,11,13]) (m.ae g) u ⟨_,_,rfl,λK G=>⟨a.heap.size,rfl,aC p (by match K,G with|0,_=>rfl|1,_=>rfl|2,_=>rfl)⟩⟩ Zq (λk S R H E I F=>by
  have t:=g.u H;refine ag7 (DD k.heap.size k) E I ⟨_,_,_,_,_,_,ahz k,⟨Zq,Zq,Zq,Zq,Zq⟩,(by intro x f;cases f),Zq⟩ (λe x f=>?_) (λe x o f P J=>?_)
  .obtain⟨s,i,j,d,b,c,L,_⟩:=f;exact L.fr
  .obtain⟨B,C,D⟩:=F o J;exact afl f Zm o (n o B) D (by simpa using C) (r.ae t Zq Zq Zq) (px q t)))
 have z:=U g;obtain⟨ad,N,rfl,-⟩:=m;clear n u r q g p;go_in;go_wp21;refine l.i.mono ?_;rintro O a0 ⟨rfl,w⟩;have y:=U (z.i.u w);clear l w;go_wp2;go_ret;exact⟨rfl,y.i⟩
end
end Go.Proofs.YtjdhaegijjednaaGreatDoor
