import Derived.Test.YtjdhaegijjednaaGreatDoorT3
import Derived.Defers
import Derived.Recover
import Derived.Deep.CutBlock
import Derived.Deep.DeepCutAuto
set_option linter.all false
set_option maxRecDepth 100000
set_option maxHeartbeats 4000000
namespace Go.Proofs.YtjdhaegijjednaaGreatDoor
open Go.RowKit Go.MapKept Go.Proofs.Tryz
section
variable {b:iq}{a:Nat}{c:Zo}{e:List (ck×Zv)}{et:List (Zb×dD×Zv)}{f g:Zv}{s:bh}{u w:Zw}
def Cp.ob{Fr h}{j:dD}{v:Zv}(i:Cp w b Fr c s g f e (cq et h (j,v)) u):(Instr.lookup 164 (.map (some b.E)) (Zs h) false).run prog u=.ok v u:=by
 have k:=xY (P:=prog) (w:=u) (T:=164) (kt:=9) (et:=247) (d:=.string) Zk Zk (λa:Zb=>Zs a) (λa:dD×Zv=>a.2) (λ_=>trivial) uZ i.fk i.hk (z:=.agg #[U 0,U 0,.slice none 0 0,.bool false]) Zk h false;simp_all[uF]
def GT{Fr}{h:TypeId}(i:h=223\/h=233)(j:Cp w b Fr c s g f e et u) :
  Calls prog 76 #[Zp b.C,.iface h (Zp a)] u λl n=>l=.returned (.tuple #[])/\ej w b Fr c s n:=by
 have o:∀d,(Instr.typeAssert (.iface h (Zp a)) 157 225 true).run prog d=.ok (.tuple #[.pointer none,.bool false]) d:=by rcases i with rfl|rfl<;>(intro d;kernel_rfl)
 have p:∀d,(Instr.typeAssert (.iface h (Zp a)) 157 227 true).run prog d=.ok (.tuple #[.pointer none,.bool false]) d:=by rcases i with rfl|rfl<;>(intro d;kernel_rfl)
 have q:∀d,(Instr.typeAssert (.iface h (Zp a)) 157 229 true).run prog d=.ok (.tuple #[.pointer none,.bool false]) d:=by rcases i with rfl|rfl<;>(intro d;kernel_rfl)
 have r:∀d,(Instr.typeAssert (.iface h (Zp a)) 157 231 true).run prog d=.ok (.tuple #[.pointer none,.bool false]) d:=by rcases i with rfl|rfl<;>(intro d;kernel_rfl)
 have m:=aa (qw j);have k:=aa j.c9;clear j i;go_in;go_wp21;refine m.w.mono ?_;rintro l t ⟨rfl,rfl⟩;go_wp2;first
  |(go_end0;exact⟨rfl,k.out⟩)
  |exact bodyPost_ret (v:=.tuple #[]) (by simp[results,results76,go_sem]) rfl ⟨rfl,k.w⟩
def QQ{Fr a1 A}(i:fB a1 a A)(G:∀l∈a1,w.heap[l.1]? = some l.2)(o:tO A)(d:Cp w b Fr c s g f e et u)(t:bH s 5000) :
  Calls prog 76 #[Zp b.C,.iface (dI A) (Zp a)] u λh f4=>h=.returned (.tuple #[])/\ej w b Fr c (ht A s) f4:=by
 cases A
 all_goals dsimp only[dI]
 case const=>exact GT (Y8 rfl) d
 case prog=>exact GT (Ya rfl) d
 case' typedef A=>
  have b0:=qU 225 a 157 225;obtain⟨m,M,R⟩:=A;have K:=aa i;have a6:=t.ab;have z:=aa (qw d);obtain⟨f0,g8,f1,_⟩:=fq (d.f3 (G _ i));obtain⟨f7,F,c2⟩:=hX R;have y:=zK (show kG R from o).er d (t.b5 Zm);rw[c2]at f1 y;have y:=aa y;have g5:=um (show kG R from o).er;have O:(dk R s).ab.length<1000000:=by rw[qW];omega
  clear d i c2;go_in;go_wp21;refine z.w.mono ?_;rintro h b1 ⟨rfl,rfl⟩;go_wp21;refine y.w.mono ?_;rintro h b2 ⟨rfl,b9,a9,d0,c0,c1,J,H⟩
 case' enum m M ms=>
  have b0:=hE 227 a 157 225;have d1:=qU 227 a 157 227;have K:=aa i;have a6:=t.ab;have z:=aa (qw d);have e1:∃P,w.heap[a]? = some (.cells #[Zs m,U M,P] 253):=by obtain⟨P,h0,D,_⟩:=i;exact⟨P,G _ D⟩
  obtain⟨P,a3⟩:=e1;have S:=aa (λ(v:Zw) (e9:an [] w v)=>(fq ((e9.L _ (au a3) Zq).trans a3)).1);have f0:=S.w _ d.ae.kp;obtain⟨d6,d7,d8,d9,e2,e4⟩:=d.al;have d4:=aa (Vo (u:=u.drew) i (λl r=>d.f3 (G l r)));have d2:=aa d;clear d i a3;go_in;go_wp21;refine z.w.mono ?_;rintro h b1 ⟨rfl,rfl⟩;go_wp21;refine cy (λx=>x.cell? (Zd b.C 2)=some (.map (some b.E))/\x.cell? (Zd a 0)=some (Zs m)) ?_ λN=>?_
  .go_keep
  refine bI [0,1,2,3,4,5,6,7,8,9] ?_;iterate 10 (refine bK ?_)
  refine bJ ?_;refine cx 10 λp j=>?_;(go_simp;go_at_call 130;refine d4.w.mono ?_;rintro h f6 ⟨a7,a4,F,b5,b6,b4,d5,rfl,a2,c3,c5⟩;have L:=Nm (d2.w.ah (Below.refl ..).drew) c3 c5;have h2:=L.al.2.2.1;have h1:=S.w _ L.ae.kp;obtain⟨f2,c7,k⟩:=L.o7 (v:=.agg (qB a7 a4 F b5 b6 b4).toArray) (x:=hP ms) ⟨_,rfl,a2.a2 (λl r=>Yf _ r)⟩ m;have k:=aa k;have b7:=aa a2;clear L c3 c5 a2);refine j.out _ _ ?_ (λN=>?_)
  .go_keep
  clear j p;refine nz ?_;refine cw λp j=>?_;go_simp;refine j.out _ _ ?_;clear j p;refine nz ?_;obtain⟨b3,c9⟩:∃b3,b3=eG f6 b.E f2:=⟨_,rfl⟩;rw[<-c9]at k ⊢;clear c7 c9;have e3:=(k.w.ah (Below.refl ..).drew).ob;obtain⟨f9,g0,g1,g2,g3,g4⟩:=k.w.al;have g9:=S.w _ k.w.ae.kp;have b8:=aa (nL (v:=.iface 247 (.agg (qB a7 a4 F b5 b6 b4).toArray)) (x:=.num (hP ms)) (k.w.ah (Below.refl ..).drew) ⟨_,rfl,b7.w.a2 (λl r=>Yf _ r)⟩ (by show s.ab.length<1000000;omega))
  have O:(aT (.num (hP ms)) { s with c4:=cq s.c4 m (hP ms) }).ab.length<1000000:=by rw[yv];show s.ab.length+1<1000000;omega
  clear k b7;go_wp21;refine cy (λx=>x.cell? (Zd b.C 2)=some (.map (some b.E))/\x.cell? (Zd a 0)=some (Zs m)/\(Instr.lookup 164 (.map (some b.E)) (Zs m) false).run prog x=.ok (.agg (qB a7 a4 F b5 b6 b4).toArray) x) ?_ λN=>?_
  .go_keep
  refine bI [0,1,2,3,4,5,6,7,8,9,10,11] ?_;iterate 12 (refine bK ?_)
  refine bJ ?_;refine cw λp j=>?_;(go_simp;go_at_call 131;refine b8.w.mono ?_;rintro h b2 ⟨rfl,a9,H⟩);refine j.out _ _ ?_;clear j p;refine nz ?_;have J:∀l∈c,l∈d5++c:=λl r=>Ym _ r;clear b8 e3
 case' struct m M ms=>
  have e5:ms.length<=1000:=by
   obtain⟨_,_,D⟩:=i;rcases D with⟨_,e0,_⟩|⟨_,_,_,_,⟨_,D⟩,_⟩<;>omega
  have b0:=hE 229 a 157 225;have d1:=hE 229 a 157 227;have f3:=qU 229 a 157 229;have K:=aa i;have a6:=t.ab;have z:=aa (qw d);have y:=aa (acY i G (λa8 a5=>(o a8 a5).er) d (t.b5 Zm));have c8:bH (qS ms s) 1:=by
   have h:=Ei (ms.map (·.O)) (s:=aT (.struct ms.length true) s) (n:=1) (by intro m e7;obtain⟨a8,a5,rfl⟩:=YE.1 e7;exact(o a8 a5).er) (bH.a4 (t.b5 Zx) _);rw[List.foldl_map]at h;exact h
  have O:(qS ms s).ab.length<1000000:=by have:=c8.ab;omega
  clear d i o c8;go_in;go_wp21;refine z.w.mono ?_;rintro h b1 ⟨rfl,rfl⟩;go_wp21;refine y.w.mono ?_;rintro h b2 ⟨rfl,b9,a9,d0,c0,c1,J,H⟩
 case' union m M sel arms=>
  have e5:arms.length<=1000:=by
   obtain⟨_,_,_,_,D,_⟩:=i;rcases D with⟨_,e0,_⟩|⟨_,_,_,_,⟨_,D⟩,_⟩<;>omega
  obtain⟨e6,o⟩:=o;have b0:=hE 231 a 157 225;have d1:=hE 231 a 157 227;have f3:=hE 231 a 157 229;have h4:=qU 231 a 157 231;have K:=aa i;have a6:=t.ab;have z:=aa (qw d);have y:=aa (ad2 i G e6 o d (t.b5 Zm));have O:(pL sel arms s).ab.length<1000000:=by
   have h:=(Ej arms (q:=⟨aT .hole s,[],none,[]⟩) (n:=1) o (bH.a4 (t.b5 Zm) _)).ab;simp only[pL];rw[xG];simp only[dn,YF];omega
  clear d i o;go_in;go_wp21;refine z.w.mono ?_;rintro h b1 ⟨rfl,rfl⟩;go_wp21;refine y.w.mono ?_;rintro h b2 ⟨rfl,b9,a9,d0,c0,c1,J,H⟩
 all_goals
  go_wp21
  refine(nL (v:=.iface 257 (.agg #[])) (x:=.ret) H rfl O).mono ?_
  rintro h f5 ⟨rfl,h3,I⟩
  have c6:bW [] a1 f5.drew:=λl r=>⟨I.f3 (G l r),Zq⟩
  have e8:=yO K.w c6
  have g6:=xi
  have g7:=zT 160
  dsimp only[dI,bQ]at e8
  obtain⟨d6,d7,d8,d9,e2,e4⟩:=I.al
  have I:=aa I
  have d3:=aa J
  clear H J c6
  go_wp21
  refine cy (λx=>x.cell? (Zd b.C 1)=some (.map (some b.B))) ?_ λN=>?_
  .go_keep
  refine bI [0,1,2,3,4,7] ?_
  iterate 6 (refine bK ?_)
  refine bJ ?_
  refine cx 5 λp j=>?_
  (go_simp;go_at_call 327;refine(xh _ _ _).mono ?_;rintro h b3 ⟨rfl,c4⟩;have k:=(I.w.ah (Below.refl ..).drew).ah c4;have f8:=k.al.2.1;obtain⟨c7,a0⟩:=k.o4 m s.ab.length;have a0:=aa a0;clear k c4)
  refine j.out _ _ ?_ (λN=>?_)
  .go_keep
  clear j p
  refine nz ?_
  refine pJ 6 ?_
  refine cw λp j=>?_
  go_simp
  refine j.out _ _ ?_
  clear j p
  refine nz ?_
  go_wp2
  go_end0
  exact⟨rfl,ss d3.w a0.w.c9⟩
end
abbrev rU(a:bh)(c:List (Nat×Zb)):bh:=c.foldl (λa b=>dn b.1 (.call ((aO a.cj b.2).getD 0)) a) a
def Ix:∀(b:List (Nat×Zb)) (a:bh),(rU a b).ab.length=a.ab.length/\(rU a b).cj=a.cj/\(rU a b).aL=a.aL:=by
 intro b;induction b with
 |nil=>simp
 |cons c b d=>
  intro a;obtain⟨e,f,g⟩:=d (dn c.1 (.call ((aO a.cj c.2).getD 0)) a);grind [dn]
def UH{l I d Fr i a k w M j}(s:Cp l d Fr i a k w M j I)(a1:∀c2∈a.aL,c2.1<a.ab.length)(f4:a.ab.length<1000000)(f5:a.aL.length<1000000) :
  Calls prog 79 #[Zp d.C] I λA c4=>A=.returned (.tuple #[])/\∃b2,Cp l d Fr i (tg a) k w b2 j c4:=by
 obtain⟨c6,c7,c8,c9,e5,f3⟩:=s.al;have a7:af (tg a=rU a a.aL):=rfl;have a2:∀(v:Zw) (H:bh) (e:List (ck×Zv)),H.aL=a.aL->Cp l d Fr i H k w e j v->∀(b:Nat) (D:b<a.aL.length),∃o r,w=.slice (some ⟨o,0,none⟩) a.aL.length r/\a.aL.length<=r/\v.cell? ⟨o,b*2,none⟩=some (U a.aL[b].1)/\v.cell? ⟨o,b*2+1,none⟩=some (.string ⟨a.aL[b].2.toArray⟩):=by
  intro v H e t c3 b D;have F:=c3.hw;rw[t]at F;rcases F.2 with⟨_,d7⟩|⟨o,r,b1,A,_,S,b4,d8,d9,e0⟩
  .omega
  .have b7:=rP (c:=rE) (n:=2) (λ_=>rfl) a.aL b;have f1:(a.aL.flatMap rE).length=a.aL.length*2:=F.1;have a5:b1.toList.take (a.aL.flatMap rE).length=a.aL.flatMap rE:=Zu;refine⟨o,r,A,b4,dt S a5 ?_,dt S a5 ?_⟩
   .have:=b7 0 D Zm;simp_all
   simp_all
 have K:=aa a2;have J:=aa a1;obtain⟨a6,G,rfl⟩:=s.lq;have a9:af (∃e,Cp l d Fr i (rU a (a.aL.take 0)) k (.slice a6 a.aL.length G) e j I):=⟨M,s⟩;clear s a2 a1;go_in;go_wp2;go_loopw [9] (λu c5=>∃b:Nat,u=U b/\b<=a.aL.length/\af (∃e,Cp l d Fr i (rU a (a.aL.take b)) k (.slice a6 a.aL.length G) e j c5)) (λu _=>a.aL.length-(intOf u).toNat)
 case atStart=>grind
 case round=>
  obtain⟨b,rfl,D,p⟩:=hrel;clear a9;obtain⟨N,O,P⟩:=Ix (a.aL.take b) a;rcases Yj b a.aL.length with E|f0
  .obtain⟨e,q⟩:=p.w;obtain⟨b3,d0,c0,e2,f7,f8⟩:=K.w _ _ _ P q b E;cases c0
   have e3:=J.w _ (Yy E);obtain⟨h,c1⟩:∃h,h=(aO a.cj a.aL[b].2).getD 0:=⟨_,rfl⟩;have b8:b+1<=a.aL.length:=E;have t:rU a (a.aL.take (b+1))=dn a.aL[b].1 (.call h) (rU a (a.aL.take b)):=by
    grind [List.take_succ_eq_append_getElem]
   obtain⟨d1,d2,d3,d4,d5,d6⟩:=q.al;generalize a.aL[b].1=f at *
   generalize a.aL[b].2=g at *
   have z:=(q.ah ((Below.refl wr.heap.size wr).alloc (Y4 _) (.cells #[U f,Zs g] 269))).ah (Below.refl ..).drew;have a3:=z.lQ g false;rw[O]at a3;have f2:(Instr.lookup 103 (.map (some d.B)) (Zs g) false).run prog (wr.alloc (.cells #[U f,Zs g] 269)).drew=.ok (U h) (wr.alloc (.cells #[U f,Zs g] 269)).drew:=by
    grind
   obtain⟨R,b0,a4,b6,e4,⟨f9,f6⟩,e6,L⟩:=wQ (i:=f) (x:=.call h) (v:=.iface 271 (.agg #[U h])) z rfl Zm
   rw[N]at a4 b6;have b5:af (∃e,Cp l d Fr i (rU a (a.aL.take (b+1))) k (.slice (some ⟨b3,0,none⟩) a.aL.length G) e j ((wr.alloc (.cells #[U f,Zs g] 269)).drew.setCell ⟨R,f,none⟩ (.iface 271 (.agg #[U h])))):=by
    rw[t];exact⟨_,L⟩
   have e7:(0:Int)<=↑b:=Zm;have e8:(↑b:Int) < ↑a.aL.length:=Zm;have e9:(↑f:Int) < ↑a.ab.length:=Zm;subst a4;clear p q z L t a3 N O P c1 K J;go_wp21;refine cy (λm=>m.cell? (Zd d.C 0)=some (.slice (some ⟨R,0,none⟩) a.ab.length b0)/\m.cell? (Zd d.C 1)=some (.map (some d.B))/\m.cell? (Zd wr.heap.size 0)=some (U f)/\m.cell? (Zd wr.heap.size 1)=some (Zs g)/\(Instr.lookup 103 (.map (some d.B)) (Zs g) false).run prog m=.ok (U h) m) ?_ λe1=>?_
   .go_keep
   refine bI [0,1,2,3,4,5,6,7,8,9,10,11,12,13,14,15] ?_;iterate 16 (refine bK ?_)
   refine bJ ?_;refine cw λa8 a0=>?_;go_simp;refine a0.out _ _ ?_;clear a0 a8;refine nz ?_;go_wp2;exact⟨⟨b+1,Zr,b8,b5⟩,Zz⟩
  .have b9:b=a.aL.length:=Zm;subst b9;have y:=p.w;rw[YG]at y;have y:=aa y;clear p;go_wp2;go_end0;rw[a7.w];simp_all
section
variable {a:aC}{n:Nat}{s:bh}
def yY:aC->Prop
 |.struct _ _ b=>b.length<=1000
 |.union _ _ _ a=>a.length<=1000
 |_=>True
theorem QE{f e}(c:fB f e a):yY a:=by
 cases a with
 |struct j i h=>
  obtain⟨_,_,b⟩:=c;show h.length<=1000;rcases b with⟨_,g,_⟩|⟨_,_,_,_,⟨_,b⟩,_⟩<;>omega
 |union j i k d=>
  obtain⟨_,_,_,_,b,_⟩:=c;show d.length<=1000;rcases b with⟨_,g,_⟩|⟨_,_,_,_,⟨_,b⟩,_⟩<;>omega
 |_=>trivial
def zm(a:bH s (n+1))(c:Zb)(b:Nat):bH (kS c b s) n:=⟨(a.a4 .ret).ab,(a.a4 .ret).aL⟩
def Oy(b:bH s n)(a:List Nat):bH (jS a s) n:=by
 refine⟨by rw[xG];exact b.ab,?_⟩;rw[xG];have:(jS a s).aL=s.aL:=(RH a s).2.1;rw[this];exact b.aL
def Ox(f:tO a)(i:yY a)(b:bH s (n+4100)):bH (ht a s) n:=by
 cases a with
 |const c e v=>exact b.b5 Zm
 |prog c e t p=>exact b.b5 Zm
 |typedef a=>exact zm (xf _ (b.b5 (by have:=um (kG.er f);omega))) ..
 |enum c e d=>
  have j:bH { s with c4:=cq s.c4 c (hP d) } (n+2):=⟨by have:=b.ab;show s.ab.length+(n+2)<1000000;omega,b.aL⟩;exact zm (bH.a4 j _) ..
 |struct c e d=>
  have k:d.length<=1000:=i;refine zm ?_ ..;have h:=Ei (d.map (·.O)) (s:=aT (.struct d.length true) s) (n:=n+1) (by intro c m;obtain⟨o,l,rfl⟩:=YE.1 m;exact(f o l).er) (bH.a4 (b.b5 Zx) _);rw[List.foldl_map]at h;exact h
 |union c e r g=>
  have k:g.length<=1000:=i;refine zm ?_ ..;exact Oy (bH.a5 (Ej g (q:=⟨aT .hole s,[],none,[]⟩) (n:=n+1) f.2 (bH.a4 (b.b5 Zm) _)) ..) _
def FT:∀(b:List aC) {s:bh} {n:Nat},(∀a∈b,tO a)->(∀a∈b,yY a)->bH s (n+4100*b.length)->bH (b.foldl (λs a=>ht a s) s) n:=by
 intro b;induction b with
 |nil=>intro s n _ _ d;exact d
 |cons a b h=>
  intro s n f g d;exact h (λc e=>f c (Y5 _ e)) (λc e=>g c (Y5 _ e)) (Ox (f a Zq) (g a Zq) (d.b5 (by simp only[YC];omega)))
theorem Oz(b:bH s (n+2))(a:Zb):bH (yG a s) n:=bH.a4 (bH.call b a) _
def FW:∀(b:List aC) {p:bh×List (Zb×Nat)} {n:Nat},bH p.1 (n+2*b.length)->bH (b.foldl dJ p).1 n:=by
 intro b;induction b with
 |nil=>intro p n c;exact c
 |cons a b d=>
  intro p n c;refine d ?_;unfold dJ;split
  .exact Oz (c.b5 (by simp only[YC];omega)) _
  .exact c.b5 (by simp only[YC];omega)
def Lz:∀(b:List aC) {d:bh×List (Zb×Nat)},(d.2.map (·.1)).Nodup->((b.foldl dJ d).2.map (·.1)).Nodup:=by
 intro b;induction b with
 |nil=>intro d c;exact c
 |cons a b e=>
  intro d c;refine e ?_;unfold dJ;split
  .exact tn c ..
  .exact c
def adp(f:Za):∀(b:Nat) {ds:List aC},eJ (λc=>c.length<=ds.length+b) (eU f b ds):=by
 intro b;induction b with
 |zero=>intro ds;exact kE _ _
 |succ b e=>
  intro ds;unfold eU;refine be λg=>dW (dX Zm) (be λa=>be λ_=>?_);intro h c i d;have:=e (ds:=ds++[a]) _ _ _ d;simp at this;omega
theorem adt{c:Za}{ds}(a:eP c=.ok ds):ds.length<=69:=by
 unfold eP at a;split at a
 .cases a
 .cases b:eU c 69 [] fS with
  |error g=>rw[b]at a;cases a
  |ok e=>
   obtain⟨f,h⟩:=e;rw[b]at a;simp only at a;have d:=adp c 69 (ds:=[]) _ _ _ b;split at a
   .cases a
   .split at a
    .cases a
    .cases a
     simpa using d
abbrev vi(v:Zv)(s a:Option Nat):Obj:=.cells #[v,.map s,.map a] 106
def Qt(a:Zw):Cp a ⟨a.heap.size+3,a.heap.size+1,a.heap.size+2⟩ [(a.heap.size,vi (.slice none 0 0) none none)] [] si (.slice none 0 0) (.slice none 0 0) [] []
  ((((a.alloc (vi (.slice none 0 0) none none)).alloc (.map #[] 0)).alloc (.map #[] 0)).alloc (.cells #[.slice none 0 0,.map (some (a.heap.size+1)),.map (some (a.heap.size+2)),.slice none 0 0] 167)):=by
 have e:(a.alloc (vi (.slice none 0 0) none none)).heap.size=a.heap.size+1:=Zq;have f:((a.alloc (vi (.slice none 0 0) none none)).alloc (.map #[] 0)).heap.size=a.heap.size+2:=Zq;have g:(((a.alloc (vi (.slice none 0 0) none none)).alloc (.map #[] 0)).alloc (.map #[] 0)).heap.size=a.heap.size+3:=Zq;refine⟨⟨((((ao [] a).H _).H _).H _).H _,?_,?_,?_,?_,(by intro d b;grind),Zq,?_,Zq⟩,?_,?_,by simp[si],?_,Zq,Zr,Zq,⟨Zr,Y8 ⟨rfl,rfl⟩⟩,rfl,Zq,⟨Zr,Y8 ⟨rfl,rfl⟩⟩,Zq⟩
 .grind [hg,Value.ownBlock]
 .intro h c;simp[hg,Value.ownBlock]at c;simp;omega
 .simp[hg,Value.ownBlock]
 .intro d b;simp only[Yc]at b;subst b;refine⟨(Below.heap_alloc _ _ _ Zm).trans ((Below.heap_alloc _ _ _ Zm).trans ((Below.heap_alloc _ _ _ Zq).trans (aQ rfl))),?_⟩;simp[hg,Value.ownBlock]
 .simp
 .exact aQ g.symm
 .exact(Below.heap_alloc _ _ _ Zq).trans ((Below.heap_alloc _ _ _ Zq).trans (aQ e.symm))
 .exact(Below.heap_alloc _ _ _ Zq).trans (aQ f.symm)
def Og(e:Zo)(f:TypeId)(v:Zv)(n:Nat)(d:Zl):Prop:=
 (v=.slice none 0 0/\n=0/\d=[])\/∃c a b,v=.slice (some ⟨c,0,none⟩) n a/\n<=a/\(c,Obj.cells b f)∈e/\b.toList.take n=d
def pP(c:Zo)(v:Zv)(a:List ck):Prop:=∃b:List (ck×Zv),a=b.map (·.1)/\Og c 273 v a.length (b.map (·.2))/\(∀d∈b,ln c d.2 d.1)/\a.length<1000000
end
section
variable {a e:Zw}{m:Nat}{b:bh}
abbrev Kx(a:gg):Zl:=pu a.t a.y++[cW a.cu,cW a.cP,U a.num]
def pz(b:List (Int×Nat×Nat)):Obj:=oz (b.map λa=>(.int .u32 a.1,.agg #[U a.2.1,U a.2.2]))
def qX(b:List (Int×Nat×List (Int×Nat×Nat))):Obj:=oz (b.map λa=>(.int .u32 a.1,.map (some a.2.1)))
structure oS where
 lo:Int
 hi:Int
 m:Nat
 vs:List (Int×Nat×List (Int×Nat×Nat))
def uS(b:List (Int×oS)):Obj:=oz (b.map λa=>(.int .u32 a.1,.agg #[.int .u32 a.2.lo,.int .u32 a.2.hi,.map (some a.2.m)]))
def xk(b:Zo)(c:List (Int×Nat×List (Int×Nat×Nat))):Prop:=∀a∈c,(a.2.1,pz a.2.2)∈b
def qc(b:Zo)(a:oS):Prop:=(a.m,qX a.vs)∈b/\xk b a.vs
def xw(b:List (Int×Nat×List (Int×Nat×Nat))):List (Int×List (Int×Nat×Nat)):=b.map λa=>(a.1,a.2.2)
def zx(a:oS):ki:=⟨a.lo,a.hi,xw a.vs⟩
def xv(b:List (Int×oS)):List (Int×ki):=b.map λa=>(a.1,zx a.2)
def Ce(v:fH):Prop:=v.aq.length<=8/\∀a∈v.aq,ib a.cu/\ib a.cP
def vE:aC->Prop
 |.prog _ _ a _=>a≠[]/\a.length<=4/\∀v∈a,Ce v
 |_=>True
def EC(a:Int):Instr.keyThatStays (.int .u32 a) (.int .u32 a)=pure (.int .u32 a):=by
 unfold Instr.keyThatStays;rw[Y9 (by show ((IntKind.u32==IntKind.u32)&&(a==a))=true;simp)]
def EV(a b:Int)(c:(Value.int .u32 a)=.int .u32 b):a=b:=Zu
def CF(a:Int)(e:Zw):(convert 2 218 (U a)).run prog e=.ok (.int .u32 (dB a)) e:=Zk
def Yl{e}(g:a.heap[m]? = some (pz e))(h:(e.map (·.1)).Nodup)(c:Int)(f b:Nat) :
  (Instr.mapUpdate 399 (.map (some m)) (.int .u32 c) (.agg #[U f,U b])).run prog a=.ok () (eG a m (pz (cq e c (f,b)))):=
 uE (P:=prog) (T:=399) (kt:=218) (et:=429) (d:=.int .u32) Zk Zk (λc:Int=>.int .u32 c) (λb:Nat×Nat=>.agg #[U b.1,U b.2]) (λ_=>rfl) (λ_=>EC _) EV g h c (f,b)
def aek{c}(f:a.heap[m]? = some (qX c))(g:(c.map (·.1)).Nodup)(b:Int)(v:Nat)(e:List (Int×Nat×Nat)) :
  (Instr.mapUpdate 261 (.map (some m)) (.int .u32 b) (.map (some v))).run prog a=.ok () (eG a m (qX (cq c b (v,e)))):=
 uE (P:=prog) (T:=261) (kt:=218) (et:=399) (d:=.int .u32) Zk Zk (λb:Int=>.int .u32 b) (λh:Nat×List (Int×Nat×Nat)=>.map (some h.1)) (λ_=>rfl) (λ_=>EC _) EV f g b (v,e)
def ZJ{e}(f:a.heap[m]? = some (uS e))(g:(e.map (·.1)).Nodup)(c:Int)(b:oS) :
  (Instr.mapUpdate 104 (.map (some m)) (.int .u32 c) (.agg #[.int .u32 b.lo,.int .u32 b.hi,.map (some b.m)])).run prog a=.ok () (eG a m (uS (cq e c b))):=
 uE (P:=prog) (T:=104) (kt:=218) (et:=263) (d:=.int .u32) Zk Zk (λc:Int=>.int .u32 c) (λb:oS=>.agg #[.int .u32 b.lo,.int .u32 b.hi,.map (some b.m)]) (λ_=>rfl) (λ_=>EC _) EV f g c b
theorem Cb{c:Nat}{a}(e:ib a)(d:bH b (c+4)):bH (nf a b) c:=bH.a4 (xf a (d.b5 (by have:=um e;omega))) _
def FU:∀(a:List gg) {q:bh×List (Int×Nat×Nat)} {d:Nat},(∀b∈a,ib b.cu/\ib b.cP)->bH q.1 (d+8*a.length)->bH (a.foldl jY q).1 d:=by
 intro a;induction a with
 |nil=>simp
 |cons b a g=>
  intro q d c e;refine g (λh f=>c h (Y5 _ f)) ?_;exact Cb (c b Zq).1 (Cb (c b Zq).2 (e.b5 Zg))
def XZ:∀(a:List gg) {b:bh×List (Int×Nat×Nat)},(b.2.map (·.1)).Nodup->((a.foldl jY b).2.map (·.1)).Nodup:=by
 intro a;induction a with
 |nil=>simp
 |cons e a d=>intro b c;exact d (tn c ..)
def Kv{a:Nat}{g h b c d:Zv}{f}(i:e.heap[a]? = some (.cells #[g,h,b,c,d] f)) :
  e.cell? (Zd a 2)=some b/\e.cell? (Zd a 3)=some c/\e.cell? (Zd a 4)=some d:=by
 simp_all[World.cell?]
def NZ(e:Zw)(d:iq)(Fr f:Zo)(v:fH)(b:bh)(g:Ending)(i:Zw):Prop:=∃c a,g=.returned (.map (some c))/\(∀h∈f,h∈a)/\(c,pz (tM v b).2)∈a/\ej e d Fr a (tM v b).1 i
def aep{g m Fr o O N I J a2 p}{v:fH}(b1:hn a2 446 p v.aq.length (v.aq.flatMap Kx))(b3:∀i∈a2,e.heap[i.1]? = some i.2)(b2:Ce v)(a3:Cp e m Fr o b O N I J g)(d4:bH b 80) :
  Calls prog 212 #[Zp m.C,.agg #[Zs v.t,U v.y,p,U v.num]] g (NZ e m Fr o v b):=by
 have g1:=mS;have f6:=CF;have a0:=aa b2;have f3:=b2.1;have b6:=aa d4;have g3:e.heap.size<=g.heap.size:=a3.ae.kp.aD;have e5:af (ej e m ((g.heap.size+1,pz ((v.aq.take 0).foldl jY (b,[])).2)::Fr) o ((v.aq.take 0).foldl jY (b,[])).1 ((g.alloc (.cells #[Zs v.t,U v.y,p,U v.num] 367)).alloc (.map #[] 0))):=by
  have E:=(a3.ah ((Below.refl g.heap.size g).alloc (Y4 _) (.cells #[Zs v.t,U v.y,p,U v.num] 367))).H (.map #[] 0);have q:(g.alloc (.cells #[Zs v.t,U v.y,p,U v.num] 367)).heap.size=g.heap.size+1:=Zq;rw[q]at E;exact E.c9
 have c9:∀(a:Zw),an [] e a->∀f (a8:f<v.aq.length),∃h k,p=.slice (some ⟨h,0,none⟩) v.aq.length k/\v.aq.length<=k/\a.cell? ⟨h,f*5,none⟩=some (.string ⟨v.aq[f].t.toArray⟩)/\a.cell? ⟨h,f*5+1,none⟩=some (U v.aq[f].y)/\a.cell? ⟨h,f*5+2,none⟩=some (cW v.aq[f].cu)/\a.cell? ⟨h,f*5+3,none⟩=some (cW v.aq[f].cP)/\a.cell? ⟨h,f*5+4,none⟩=some (U v.aq[f].num):=by
  intro a F f a8;rcases b1 with⟨_,c5,_⟩|⟨h,k,c2,q,⟨E,_⟩,a7,z⟩
  .omega
  .have x:=(F.L _ (au (b3 _ a7)) Zq).trans (b3 _ a7);have d1:=rP (c:=Kx) (n:=5) (λ_=>rfl) v.aq f;refine⟨h,k,q,E,dt x z ?_,dt x z ?_,dt x z ?_,dt x z ?_,dt x z ?_⟩
   .have:=d1 0 a8 Zm;grind
   .simp_all
   .simp_all
   .simp_all
   simp_all
 obtain⟨e9,f0,rfl⟩:∃ad k,p=.slice ad v.aq.length k:=by
  rcases b1 with⟨q,c5,_⟩|⟨h,k,c2,q,_⟩;all_goals grind
 have b5:=aa c9;go_in;go_wp2;go_loopw [12] (λf e0=>∃d:Nat,f=U d/\d<=v.aq.length/\af (ej e m ((g.heap.size+1,pz ((v.aq.take d).foldl jY (b,[])).2)::Fr) o ((v.aq.take d).foldl jY (b,[])).1 e0)) (λf _=>v.aq.length-(intOf f).toNat)
 case atStart=>grind
 case round=>
  obtain⟨d,rfl,f8,u⟩:=hrel;rcases Yj d v.aq.length with a9|f7
  .have b0:bH ((v.aq.take d).foldl jY (b,[])).1 16:=FU (v.aq.take d) (λi y=>a0.w.2 i (List.mem_of_mem_take y)) (b6.w.b5 Zg);have d3:(((v.aq.take d).foldl jY (b,[])).2.map (·.1)).Nodup:=XZ _ Zq;have b7:af ((v.aq.take (d+1)).foldl jY (b,[])=jY ((v.aq.take d).foldl jY (b,[])) v.aq[d]):=by show _=_;grind [List.take_succ_eq_append_getElem]
   obtain⟨c0,d9,d5,c3,c4,K,l⟩:=u.w;generalize g2:(v.aq.take d).foldl jY (b,[])=j at *
   obtain⟨h,k,d0,f5,g6,g7,d6,d7,g8⟩:=b5.w _ l.ae.kp d a9;cases d0
   have L:=a0.w.2 v.aq[d] (Yy a9);obtain⟨G,P,a4⟩:=hX v.aq[d].cu;obtain⟨H,R,a5⟩:=hX v.aq[d].cP;rw[a4]at d6;rw[a5]at d7;have f9:(0:Int)<=↑d:=Zm;have g0:(↑d:Int) < ↑v.aq.length:=Zm;have b9:=aa ((l.H (.cells #[.string ⟨v.aq[d].t.toArray⟩,U v.aq[d].y,.iface G P,.iface H R,U v.aq[d].num] 446)).ah ((Below.refl ..).drew))
   have f4:g.heap.size+1≠wr.heap.size:=by
    have:=au (l.ae.hf _ Yb).1;omega
   have D:=CG L.2 b9.w (b0.b5 Zm);rw[a5]at D;have D:=aa D;have s:=λ(a:Zw) (o:Zo) O N I J (b8:Cp e m ((wr.heap.size,.cells #[.string ⟨v.aq[d].t.toArray⟩,U v.aq[d].y,.iface G P,.iface H R,U v.aq[d].num] 446)::(g.heap.size+1,pz j.2)::Fr) o (nf v.aq[d].cP j.1) O N I J a)=>CG L.1 b8 (Cb L.2 (b0.b5 Zm))
   rw[a4]at s;have s:=aa s;have b4:=aa K;go_wp21;refine cy (λS=>S.cell? (Zd wr.heap.size 2)=some (.iface G P)/\S.cell? (Zd wr.heap.size 3)=some (.iface H R)/\S.cell? (Zd wr.heap.size 4)=some (U v.aq[d].num)) ?_ λa6=>?_
   .simp
   refine bI [0,1,2,3,4,5,6,8,9,10] ?_;iterate 10 (refine bK ?_)
   refine bJ ?_;refine cx 7 λa1 w=>?_;(go_simp;go_at_call 134;refine D.w.mono ?_;rintro q h1 ⟨rfl,e6,g9,g4,e7,f1,c7,A⟩;have A:=aa A;have s:=aa (s.w _ _ _ _ _ _ A.w);obtain⟨e2,e3,e4⟩:=Kv (A.w.ae.hf _ Yb).1);refine w.out _ _ ?_ (λa6=>?_)
   .go_keep
   refine nz ?_;refine cx 11 λa1 w=>?_;(go_simp;go_at_call 134;refine s.w.mono ?_;rintro q e1 ⟨rfl,c1,h0,g5,e8,f2,c8,r⟩;have r:=aa r;obtain⟨e2,e3,e4⟩:=Kv (r.w.ae.hf _ Yb).1;have M:=(r.w.b0.ae.hf _ Yb).1;have d8:=Yl M d3 (dB v.aq[d].num) j.1.ab.length (nf v.aq[d].cP j.1).ab.length;have B:=r.w.b0.dN (jC ..) (qH (au M) (pz (cq j.2 (dB v.aq[d].num) (j.1.ab.length,(nf v.aq[d].cP j.1).ab.length))));obtain⟨a,F⟩:∃a,a=eG e1 (g.heap.size+1) (pz (cq j.2 (dB v.aq[d].num) (j.1.ab.length,(nf v.aq[d].cP j.1).ab.length))):=⟨_,rfl⟩;rw[<-F]at d8 B;have B:=aa B;clear r M F);refine w.out _ _ ?_ (λa6=>?_)
   .go_keep
   refine nz ?_;refine pJ 12 ?_;refine cw λa1 w=>?_;go_simp;refine w.out _ _ ?_;refine nz ?_;have c6:af (ej e m ((g.heap.size+1,pz ((v.aq.take (d+1)).foldl jY (b,[])).2)::Fr) o ((v.aq.take (d+1)).foldl jY (b,[])).1 a):=by
    rw[b7.w];exact⟨c1,_,_,_,_,λi y=>c8 i (c7 i (b4.w i y)),B.w⟩
   go_wp2;exact⟨⟨d+1,Zr,Zm,c6⟩,Zz⟩
  .have d2:d=v.aq.length:=Zm;subst d2;have u:=u.w;rw[YG]at u;obtain⟨c0,d9,d5,c3,c4,K,l⟩:=u;have l:=aa l;go_wp2;go_ret;exact⟨g.heap.size+1,_,rfl,λi y=>Y5 _ (K i y),Yb,l.w.hv.c9⟩
end
def rH{b d:Zw}{a c v}(g:b.cell? (Zd a c)=some v)(f:an [] b d):d.cell? (Zd a c)=some v:=by
 have e:a<b.heap.size:=by
  grind [World.cell?]
 have:=f.L a e Zq;grind [World.cell?]
section
variable {j:TypeId}{b:Nat}{e:Zo}{f g h:Zv}{d:Zw}
abbrev Fc(a:fH×Zv):Zl:=pu a.1.t a.1.y++[a.2,U a.1.num]
abbrev px(b a:Int)(c:Option Nat):Obj:=.cells #[.int .u32 b,.int .u32 a,.map c] 263
def FX:∀(a:List fH) {q:bh×ki} {b:Nat},(∀v∈a,Ce v)->bH q.1 (b+64*a.length)->bH (a.foldl md q).1 b:=by
 intro a;induction a with
 |nil=>simp
 |cons v a g=>
  intro q b c e;refine g (λh f=>c h (Y5 _ f)) ?_;have d:=c v Zq;exact FU v.aq (q:=(q.1,[])) d.2 (e.b5 (by have:=d.1;grind))
def Pv(b:List (Int×Nat×List (Int×Nat×Nat)))(a:Int)(v:Nat)(c:List (Int×Nat×Nat)):xw (cq b a (v,c))=cq (xw b) a c:=DB (λd:Nat×List (Int×Nat×Nat)=>d.2) b a (v,c)
theorem xk.a4{a:Zo}{d}(f:xk e d)(g:∀c∈e,c∈a)(h:Int){v:Nat}{x}(i:(v,pz x)∈a):xk a (cq d h (v,x)):=by
 intro c b;rcases DC b with b|rfl
 .exact g _ (f c b)
 omega
structure BY(d:Zw)(a:iq)(Fr e:Zo)(R:Nat)(Q:bh×ki)(lv:List (Int×Nat×List (Int×Nat×Nat)))(bk:Zo)(sl ks:Zv)(cv:List (ck×Zv))(et:List (Zb×dD×Zv))(ur:Zw):Prop where
 bE:∀p∈e,p∈bk
 m2:xk bk lv
 i2:xw lv=Q.2.vs
 nd:(lv.map (·.1)).Nodup
 cp:Cp d a ((R+1+1,px Q.2.lo Q.2.hi (some (R+1)))::(R+1,qX lv)::(R,px 0 0 none)::Fr) bk Q.1 sl ks cv et ur
def NU(d:Zw)(g:iq)(Fr e:Zo)(f:List fH)(c:bh)(h:Ending)(j:Zw):Prop:=∃(a:oS) (b:Zo),h=.returned (.agg #[.int .u32 a.lo,.int .u32 a.hi,.map (some a.m)])/\(∀i∈e,i∈b)/\qc b a/\zx a=(wt f c).2/\ej d g Fr b (wt f c).1 j
def AV{a:Zv}(c:d.heap[b]? = some (.cells #[f,g,h,a] j)) :
  d.cell? (Zd b 0)=some f/\d.cell? (Zd b 1)=some g/\d.cell? (Zd b 2)=some h/\d.cell? (Zd b 3)=some a:=by
 simp_all[World.cell?]
def tv(a:d.heap[b]? = some (.cells #[f,g,h] j)) :
  d.cell? (Zd b 0)=some f/\d.cell? (Zd b 1)=some g/\d.cell? (Zd b 2)=some h/\(∀c,d.frozen? ⟨b,c,none⟩=false)/\b<d.heap.size:=by
 refine⟨?_,?_,?_,?_,au a⟩<;>simp[World.cell?,World.frozen?,a]
def Bj{x y z}(a:d.heap[b]? = some (.cells #[f,g,h] j)):(((d.setCell ⟨b,0,none⟩ x).setCell ⟨b,1,none⟩ y).setCell ⟨b,2,none⟩ z).heap[b]? = some (.cells #[x,y,z] j):=bv (i:=2) (bv (i:=1) (bv (i:=0) a x) y) z
def Ig(a c e:Zv):an [b] d (((d.setCell ⟨b,0,none⟩ a).setCell ⟨b,1,none⟩ c).setCell ⟨b,2,none⟩ e):=
 (((ao [b] d).aH (p:=⟨b,0,none⟩) Zq _).aH (p:=⟨b,1,none⟩) Zq _).aH (p:=⟨b,2,none⟩) Zq _
def ZF{f s Fr l R P H I S b2 c7 a c5}(f9:fB S b (.prog c7 b2 a c5))(D:∀p∈S,d.heap[p.1]? = some p.2)(B:vE (.prog c7 b2 a c5))(z:Cp d s Fr e l R P H I f)(g4:bH l 400) :
  Calls prog 135 #[Zp s.C,Zp b] f (NU d s Fr e a l):=by
 have k8:=mS;have j4:=CF;obtain⟨h8,r,f6,j3,g6,c1⟩:=f9;obtain⟨g2,j5,g8⟩:=B;have g3:0<a.length:=YM.2 g2;have b9:=D _ f6;have f7:f.heap[b]? = _:=z.f3 b9;have j1:b<d.heap.size:=au b9;have l1:d.heap.size<=f.heap.size:=z.ae.kp.aD;obtain⟨k,a0,a1,rfl,⟨j2,_⟩,B,O⟩:∃k a0 a1,h8=.slice (some ⟨k,0,none⟩) a.length a0/\(a.length<=a0/\a.length<=1000)/\(k,Obj.cells a1 367)∈S/\a1.toList.take ((a.zip r).flatMap Fc).length=(a.zip r).flatMap Fc:=by
  rcases g6 with⟨_,i3,_⟩|z;all_goals omega
 have c0:∀(q:Zw),an [] d q->∀h (L:h<a.length) (M:h<r.length),q.cell? ⟨k,h*4,none⟩=some (.string ⟨a[h].t.toArray⟩)/\q.cell? ⟨k,h*4+1,none⟩=some (U a[h].y)/\q.cell? ⟨k,h*4+2,none⟩=some r[h]/\q.cell? ⟨k,h*4+3,none⟩=some (U a[h].num):=by
  intro q J h L M;have K:=(J.L _ (au (D _ B)) Zq).trans (D _ B);have g0:=rP (c:=Fc) (n:=4) (λ_=>rfl) (a.zip r) h;have g9:h<(a.zip r).length:=Zu;refine⟨dt K O ?_,dt K O ?_,dt K O ?_,dt K O ?_⟩
  .have:=g0 0 g9 Zm;grind
  .simp_all
  .simp_all
  simp_all
 have f8:∀h (L:h<a.length) (M:h<r.length),∃t u w,r[h]=.slice t u w:=by
  intro h L M;rcases c1 h L M with⟨a2,_⟩|⟨_,_,_,a2,_⟩<;>exact⟨_,_,_,a2⟩
 have k3:k<d.heap.size:=au (D _ B);obtain⟨e9,f0,f1,f2⟩:=c0 f z.ae.kp 0 g3 Zm;obtain⟨l2,l3,l4,l5⟩:=AV f7;simp only[Nat.zero_mul,Nat.zero_add]at e9 f0 f1 f2;have i5:b<f.heap.size:=Zm;have j7:k<f.heap.size:=Zm;have i6:b<f.heap.size+1:=Zm;have j8:k<f.heap.size+1:=Zm;have i7:b<f.heap.size+1+1:=Zm;have j9:k<f.heap.size+1+1:=Zm;have k0:k≠f.heap.size:=Zm;have i8:b≠f.heap.size:=Zm;have k1:k≠f.heap.size+1:=Zm;have i9:b≠f.heap.size+1:=Zm;have k2:k≠f.heap.size+1+1:=Zm;have j0:b≠f.heap.size+1+1:=Zm;have k9:(0:Int) < ↑a.length:=Zm;have k4:(a.head?.map λv=>dB v.num).getD 0=dB a[0].num:=by
  cases a with
  |nil=>simp_all
  |cons v m4=>rfl
 have d5:af (BY d s Fr e f.heap.size (l,⟨dB a[0].num,dB a[0].num,[]⟩) [] e R P H I (((f.alloc (px 0 0 none)).alloc (.map #[] 0)).alloc (px (dB a[0].num) (dB a[0].num) (some (f.heap.size+1))))):=by
  have b7:=((z.H (px 0 0 none)).H (.map #[] 0)).H (px (dB a[0].num) (dB a[0].num) (some (f.heap.size+1)));have i0:(f.alloc (px 0 0 none)).heap.size=f.heap.size+1:=Zq;have i1:((f.alloc (px 0 0 none)).alloc (.map #[] 0)).heap.size=f.heap.size+1+1:=Zq;rw[i1,i0]at b7;exact⟨λ_ m=>m,(by intro p m;cases m),rfl,Zq,b7⟩
 have c8:=aa c0;have c9:=aa f8;have d0:=aa c1;have b0:=aa g8;have d1:=aa g4;have d3:=aa D;go_in;go_wp2;go_loopw [27] (λh h7=>∃(g:Nat) (o:List (Int×Nat×List (Int×Nat×Nat))) (y:Zo) (R P:Zv) (H:List (ck×Zv)) (I:List (Zb×dD×Zv)),h=U g/\g<=a.length/\af (BY d s Fr e f.heap.size ((a.take g).foldl md (l,⟨dB a[0].num,dB a[0].num,[]⟩)) o y R P H I h7)) (λh _=>a.length-(intOf h).toNat)
 case atStart=>exact⟨0,_,_,_,_,_,_,rfl,Zm,d5⟩
 case round=>
  obtain⟨g,o,y,c6,c4,b3,b6,rfl,k5,j⟩:=hrel;rcases Yj g a.length with N|j6
  .have a7:g<r.length:=Zm;have g5:bH ((a.take g).foldl md (l,⟨dB a[0].num,dB a[0].num,[]⟩)).1 80:=FX (a.take g) (λv g7=>b0.w v (List.mem_of_mem_take g7)) (d1.w.b5 Zg);have d2:af ((a.take (g+1)).foldl md (l,⟨dB a[0].num,dB a[0].num,[]⟩)=md ((a.take g).foldl md (l,⟨dB a[0].num,dB a[0].num,[]⟩)) a[g]):=by show _=_;grind [List.take_succ_eq_append_getElem]
   generalize l0:(a.take g).foldl md (l,⟨dB a[0].num,dB a[0].num,[]⟩)=i at *
   obtain⟨t,u,w,c3⟩:=c9.w g N a7;obtain⟨l6,l7,h1,l8⟩:=c8.w _ j.w.cp.ae.kp g N a7;rw[c3]at h1;have c2:=d0.w g N a7;rw[c3]at c2;have k6:(0:Int)<=↑g:=Zm;have k7:(↑g:Int) < ↑a.length:=Zm;have a4:=(j.w.cp.ae.hf _ Yb).1;obtain⟨e0,e1,e2,e3,e4⟩:=tv a4;have i4:f.heap.size+1+1≠wr.heap.size:=Zm;have e5:=j.w.cp.dN ((ao [f.heap.size+1+1] _).aH (p:=⟨f.heap.size+1+1,0,none⟩) Zq (.int .u32 (min i.2.lo (dB a[g].num)))) (bv (i:=0) a4 _);have e6:=e5.dN ((ao [f.heap.size+1+1] _).aH (p:=⟨f.heap.size+1+1,1,none⟩) Zq (.int .u32 (max i.2.hi (dB a[g].num)))) (bv (i:=1) (bv (i:=0) a4 _) _);have e8:((wr.setCell ⟨f.heap.size+1+1,0,none⟩ (.int .u32 (min i.2.lo (dB a[g].num)))).setCell ⟨f.heap.size+1+1,1,none⟩ (.int .u32 (max i.2.hi (dB a[g].num)))).heap.size=wr.heap.size:=Zq;have b5:=e6.H (.cells #[.string ⟨a[g].t.toArray⟩,U a[g].y,.slice t u w,U a[g].num] 367);rw[e8]at b5;have b4:Cp d s ((wr.heap.size,(.cells #[.string ⟨a[g].t.toArray⟩,U a[g].y,.slice t u w,U a[g].num] 367))::(f.heap.size+1+1,px (min i.2.lo (dB a[g].num)) (max i.2.hi (dB a[g].num)) (some (f.heap.size+1)))::(f.heap.size+1,qX o)::(f.heap.size,px 0 0 none)::Fr) y i.1 c6 c4 b3 b6 _:=b5;have b1:=aa b4;have d7:=aa (aep c2 d3.w (b0.w a[g] (Yy N)) (b4.ah ((Below.refl ..).drew)) g5);go_wp21;refine cy (λE=>E.cell? ⟨f.heap.size+1+1,2,none⟩=some (.map (some (f.heap.size+1)))/\E.cell? (Zd wr.heap.size 0)=some (.string ⟨a[g].t.toArray⟩)/\E.cell? (Zd wr.heap.size 1)=some (U a[g].y)/\E.cell? (Zd wr.heap.size 2)=some (.slice t u w)/\E.cell? (Zd wr.heap.size 3)=some (U a[g].num)) ?_ λf3=>?_
   .exact⟨(tv (b1.w.b0.ae.hf _ Yb).1).2.2.1,AV (b1.w.ae.hf _ Yb).1⟩
   refine bI [0,1,2,3,4] ?_;iterate 5 (refine bK ?_)
   refine bJ ?_;refine cx 5 λd4 a3=>?_;(go_simp;go_at_call 212;refine d7.w.mono ?_;rintro a2 h9 ⟨G,i2,rfl,b8,f5,d8,h3,h0,d9,e7,a6,x⟩;obtain⟨m5,m6,m7,m8⟩:=AV (x.ae.hf _ Yb).1;obtain⟨m9,n0,n1,n2,n3⟩:=tv (x.b0.ae.hf _ Yb).1;have a8:=(x.b0.b0.ae.hf _ Yb).1;have h2:=aek a8 j.w.nd (dB a[g].num) G (tM a[g] i.1).2;have F:=yV (A:=[(f.heap.size+1+1,px (min i.2.lo (dB a[g].num)) (max i.2.hi (dB a[g].num)) (some (f.heap.size+1)))]) x.b0 (jC ..) (qH (au a8) (qX (cq o (dB a[g].num) (G,(tM a[g] i.1).2))));obtain⟨q,J⟩:∃q,q=eG h9 (f.heap.size+1) (qX (cq o (dB a[g].num) (G,(tM a[g] i.1).2))):=⟨_,rfl⟩;rw[<-J]at h2 F;have F:=aa F;clear x a8 J);refine a3.out _ _ ?_ (λf3=>?_)
   .go_keep
   refine nz ?_;refine cw λd4 a3=>?_;go_simp;refine a3.out _ _ ?_;refine nz ?_;have f4:af (BY d s Fr e f.heap.size ((a.take (g+1)).foldl md (l,⟨dB a[0].num,dB a[0].num,[]⟩)) (cq o (dB a[g].num) (G,(tM a[g] i.1).2)) d8 h3 h0 d9 e7 q):=by
    rw[d2.w];refine⟨λp m=>a6 p (b8 p (j.w.bE p m)),j.w.m2.a4 (λp m=>a6 p (b8 p m)) _ (a6 _ f5),?_,tn j.w.nd ..,F.w⟩;rw[Pv,j.w.i2];rfl
   go_wp2;exact⟨⟨g+1,_,_,_,_,_,_,Zr,Zm,f4⟩,Zz⟩
  .have g1:g=a.length:=Zm;subst g1;have j:=j.w;rw[YG]at j;have a9:af (wt a l=a.foldl md (l,⟨dB a[0].num,dB a[0].num,[]⟩)):=by
    grind [wt]
   generalize a.foldl md (l,⟨dB a[0].num,dB a[0].num,[]⟩)=i at *
   obtain⟨e0,e1,e2,e3,e4⟩:=tv (j.cp.ae.hf _ Yb).1;have a5:=(j.cp.b0.b0.ae.hf _ Yb).1;obtain⟨l9,m0,m1,m2,m3⟩:=tv a5;obtain⟨h4,h5,h6,_,_⟩:=tv (Bj (x:=.int .u32 i.2.lo) (y:=.int .u32 i.2.hi) (z:=.map (some (f.heap.size+1))) a5);have d6:=aa (yV (A:=[(f.heap.size+1,qX o)]) j.cp.b0 (Ig (.int .u32 i.2.lo) (.int .u32 i.2.hi) (.map (some (f.heap.size+1)))) (Bj a5));have j:=aa j;go_wp2;refine bodyPost_ret (v:=.agg #[.int .u32 i.2.lo,.int .u32 i.2.hi,.map (some (f.heap.size+1))]) (by simp[results,results135,go_sem,h4,h5,h6]) rfl ?_;refine⟨⟨i.2.lo,i.2.hi,f.heap.size+1,o⟩,(f.heap.size+1,qX o)::y,rfl,λp m=>Y5 _ (j.w.bE p m),⟨Yb,λp m=>Y5 _ (j.w.m2 p m)⟩,?_,?_⟩
   .rw[a9.w];show ki.mk i.2.lo i.2.hi (xw o)=i.2;rw[j.w.i2]
   .rw[a9.w];exact(Cp.hv (d6.w:Cp d s ((f.heap.size+1,qX o)::_::Fr) y i.1 c6 c4 b3 b6 _)).b0.c9
end
section
variable {f:iq}{c:Zo}{g:List (ck×Zv)}{et:List (Zb×dD×Zv)}{i h:Zv}{a:bh}{e b:Zw}
def XP{b:Zw}{e:Nat}{c}(g:b.heap[e]? = some (kz c))(h:(c.map (·.1)).Nodup)(a:Zb)(f:Nat) :
  (Instr.mapUpdate 103 (.map (some e)) (Zs a) (U f)).run prog b=.ok () (eG b e (kz (cq c a f))):=
 uE (P:=prog) (T:=103) (kt:=9) (et:=3) (d:=.string) Zk Zk (λa:Zb=>Zs a) (λa:Nat=>U a) (λ_=>trivial) (λ_=>EB _) uZ g h a f
def ej.d7{Fr}(h:ej b f Fr c a e)(g:Zo)(j:∀d∈g,b.heap[d.1]? = some d.2):bW [] g e:=λd i=>⟨h.f3 (j d i),Zq⟩
def Cp.nT{Fr}(j:Cp b f Fr c a h i g et e)(p:a.ab.length<1000000):∃l,pP l h a.ab/\(∀d∈c,d∈l)/\∀d∈l,e.heap[d.1]? = some d.2/\b.heap.size<=d.1:=by
 have t:∀d∈c,e.heap[d.1]? = some d.2/\b.heap.size<=d.1:=λd k=>⟨(j.ae.hb d k).1,j.bn d k⟩;rcases j.row.2 with⟨m,r⟩|⟨o,q,n,m,v,w,s,x,y,z⟩
 .refine⟨c,⟨g,j.hs,Y8 ⟨m,r,?_⟩,j.hH,p⟩,λ_ k=>k,t⟩;have:=j.row.1;simp_all
 .refine⟨(o,.cells n 273)::c,⟨g,j.hs,Ya ⟨o,q,n,m,s,Yb,?_⟩,λd k=>(j.hH d k).a2 (λ_ u=>Y5 _ u),p⟩,λ_ k=>Y5 _ k,?_⟩;all_goals grind
def NX(b:Zw)(f:iq)(Fr c:Zo)(e:List aC)(a:bh)(g:Ending)(i:Zw):Prop:=∃S d,g=.returned (.map (some S))/\(∀h∈c,h∈d)/\(S,kz (e.foldl dJ (a,[])).2)∈d/\ej b f Fr d (e.foldl dJ (a,[])).1 i
set_option maxHeartbeats 8000000 in
def adW{Fr D u d y}(c0:mm D u d y)(J:∀p∈D,b.heap[p.1]? = some p.2)(f6:d.length<=100)(b3:Cp b f Fr c a h i g et e)(c7:bH a 300) :
  Calls prog 77 #[Zp f.C,u] e (NX b f Fr c d a):=by
 have f5:=mS;have e8:=xi;obtain⟨f7,S,c2⟩:=c0;have a4:=aa c7;have d7:af (ej b f ((e.heap.size,kz ((d.take 0).foldl dJ (a,[])).2)::Fr) c ((d.take 0).foldl dJ (a,[])).1 (e.alloc (.map #[] 0))):=(b3.H (.map #[] 0)).c9;have b9:∀(v:Zw),an [] b v->∀k (c3:k<d.length) (c4:k<y.length),∃n m,u=.slice (some ⟨n,0,none⟩) d.length m/\d.length<=m/\v.cell? (Zd n k)=some (.iface (dI d[k]) (.pointer (some ⟨y[k],0,none⟩))):=by
  intro v d1 k c3 c4;rcases S with⟨_,b4,_⟩|⟨n,m,b0,q,⟨b5,_⟩,O,d0⟩
  .omega
  .exact⟨n,m,q,b5,dt ((d1.L _ (au (J _ O)) Zq).trans (J _ O)) d0 Zu⟩
 obtain⟨e3,e4,rfl⟩:∃ad m,u=.slice ad d.length m:=by
  rcases S with⟨q,b4,_⟩|⟨n,m,b0,q,_⟩;all_goals simp_all
 have a2:=aa b9;have a3:=aa c2;have a5:=aa J;go_in;go_wp2;go_loopw [14] (λk d5=>∃j:Nat,k=U j/\j<=d.length/\af (ej b f ((e.heap.size,kz ((d.take j).foldl dJ (a,[])).2)::Fr) c ((d.take j).foldl dJ (a,[])).1 d5)) (λk _=>d.length-(intOf k).toNat)
 case atStart=>grind
 case round=>
  obtain⟨j,rfl,f1,o⟩:=hrel;rcases Yj j d.length with P|f0
  .have R:j<y.length:=Zm;have c8:bH ((d.take j).foldl dJ (a,[])).1 100:=FW (d.take j) (p:=(a,[])) (a4.w.b5 Zg);have c6:(((d.take j).foldl dJ (a,[])).2.map (·.1)).Nodup:=Lz _ Zq;have c9:(d.take (j+1)).foldl dJ (a,[])=dJ ((d.take j).foldl dJ (a,[])) d[j]:=by grind [List.take_succ_eq_append_getElem]
   have L:=aa c9;obtain⟨a8,d4,d2,b1,b2,H,l⟩:=o.w;generalize x:(d.take j).foldl dJ (a,[])=p at *
   obtain⟨n,m,c1,e7,g1⟩:=a2.w _ l.ae.kp j P R;cases c1
   have f8:=yO (a3.w j P R) (l.c9.d7 D a5.w);have f2:(0:Int)<=↑j:=Zm;have f3:(↑j:Int) < ↑d.length:=Zm;have l:=aa l;have K:=aa H;go_wp21;refine(xh _ _ _).mono ?_;rintro q z ⟨rfl,b7⟩;have M:=l.w.ah b7;obtain⟨d8,d9,e0,e1,e9,f4⟩:=M.al;have e6:f.C≠z.heap.size:=Zm;have A:=(M.H (.cells #[.string ⟨(bQ d[j]).1.toArray⟩,U (bQ d[j]).2] 160)).ah ((Below.refl ..).drew);have w:=A.lQ (bQ d[j]).1 true;cases G:aO p.1.cj (bQ d[j]).1 with
   |none=>
    rw[G]at w;simp only[if_true]at w
    have F:af (ej b f ((e.heap.size,kz ((d.take (j+1)).foldl dJ (a,[])).2)::Fr) c ((d.take (j+1)).foldl dJ (a,[])).1 (z.alloc (.cells #[.string ⟨(bQ d[j]).1.toArray⟩,U (bQ d[j]).2] 160)).drew):=by
     rw[L.w];unfold dJ;rw[G];simp only[Option.isSome_none,Ye,if_false]
     exact ss K.w A.b0.c9
    go_wp21;go_region;go_wp2;exact⟨⟨j+1,Zr,Zm,F⟩,Zz⟩
   |some g0=>
    rw[G]at w;simp only[if_true]at w
    have a7:=aa (CG (t:=.named (bQ d[j]).1 (bQ d[j]).2) trivial (A.ah ((Below.refl ..).drew)) (c8.b5 Zm));have a1:af (dJ p d[j]=(yG (bQ d[j]).1 p.1,cq p.2 (bQ d[j]).1 p.1.ab.length)):=by
     show _=_;simp_all[dJ]
    go_wp21;go_region;go_wp21;refine cy (λa0=>a0.cell? (Zd z.heap.size 0)=some (.string ⟨(bQ d[j]).1.toArray⟩)/\a0.cell? (Zd z.heap.size 1)=some (U (bQ d[j]).2)) ?_ λb6=>?_
    .simp
    refine bI [0,1,2,3,4,5,6] ?_;iterate 7 (refine bK ?_)
    refine bJ ?_;refine cx 7 λa6 E=>?_;(go_simp;go_at_call 134;refine a7.w.mono ?_;rintro q d6 ⟨rfl,a9,g2,f9,e2,e5,b8,r⟩;obtain⟨g3,g4,_,_⟩:=iy (r.ae.hf _ Yb).1;have I:=(r.b0.ae.hf _ Yb).1;have d3:=XP I c6 (bQ d[j]).1 p.1.ab.length;have s:=r.b0.dN (jC ..) (qH (au I) (kz (cq p.2 (bQ d[j]).1 p.1.ab.length)));obtain⟨B,N⟩:∃B,B=eG d6 e.heap.size (kz (cq p.2 (bQ d[j]).1 p.1.ab.length)):=⟨_,rfl⟩;rw[<-N]at d3 s;have s:=aa s;clear r I N);refine E.out _ _ ?_ (λb6=>?_)
    .go_keep
    refine nz ?_;refine cw λa6 E=>?_;go_simp;refine E.out _ _ ?_;refine nz ?_;have F:af (ej b f ((e.heap.size,kz ((d.take (j+1)).foldl dJ (a,[])).2)::Fr) c ((d.take (j+1)).foldl dJ (a,[])).1 B):=by
     rw[L.w,a1.w];exact⟨a9,_,_,_,_,λp x=>b8 p (K.w p x),s.w⟩
    go_wp2;exact⟨⟨j+1,Zr,Zm,F⟩,Zz⟩
  .have c5:j=d.length:=Zm;subst c5;have o:=o.w;rw[YG]at o;obtain⟨a8,d4,d2,b1,b2,H,l⟩:=o;have l:=aa l;go_wp2;go_ret;exact⟨e.heap.size,_,rfl,λp x=>Y5 _ (H p x),Yb,l.w.hv.c9⟩
end
theorem FV:∀(l:List aC) {q:bh×List (Int×ki)} {b:Nat},(∀a∈l,vE a)->bH q.1 (b+256*l.length)->bH (l.foldl gJ q).1 b:=by
 intro l;induction l with
 |nil=>simp
 |cons a l g=>
  intro q b e c;refine g (λi f=>e i (Y5 _ f)) ?_;have d:=e a Zq;cases a with
  |prog m j h k=>exact FX h (q:=(q.1,_)) d.2.2 (c.b5 (by have:=d.2.1;grind))
  |_=>exact c.b5 (by simp only[YC];omega)
def qc.a2{b c:Zo}(e:∀a∈b,a∈c){f}(d:qc b f):qc c f:=⟨e _ d.1,λa g=>e _ (d.2 a g)⟩
def Pu(b:List (Int×oS))(a:Int)(c:oS):xv (cq b a c)=cq (xv b) a (zx c):=DB zx b a c
def Pp{a:aC}(h:∀e c f d,a≠.prog e c f d)(g:Nat)(b:Zw):(Instr.typeAssert (.iface (dI a) (Zp g)) 157 233 true).run prog b=.ok (.tuple #[.pointer none,.bool false]) b:=by
 cases a with
 |prog e c f d=>grind
 |_=>kernel_rfl
theorem ZA{a:aC}(g:∀e b f c,a≠.prog e b f c)(d:bh×List (Int×ki)):gJ d a=d:=by
 cases a with
 |prog e b f c=>grind
 |_=>rfl
structure zl(w:Zw)(a:iq)(Fr bs:Zo)(B:Nat)(Q:bh×List (Int×ki))(lp:List (Int×oS))(bk:Zo)(sl ks:Zv)(cv:List (ck×Zv))(et:List (Zb×dD×Zv))(ur:Zw):Prop where
 bE:∀p∈bs,p∈bk
 l2:∀p∈lp,qc bk p.2
 i2:xv lp=Q.2
 nd:(lp.map (·.1)).Nodup
 cp:Cp w a ((B,uS lp)::Fr) bk Q.1 sl ks cv et ur
def NV(k:Zw)(g:iq)(Fr h:Zo)(e:List aC)(f:bh)(i:Ending)(j:Zw):Prop:=∃d b a,i=.returned (.map (some d))/\(∀c∈h,c∈a)/\(d,uS b)∈a/\(∀c∈b,qc a c.2)/\xv b=(e.foldl gJ (f,[])).2/\(b.map (·.1)).Nodup/\ej k g Fr a (e.foldl gJ (f,[])).1 j
set_option maxHeartbeats 8000000 in
def ZH{k j:Zw}{d Fr m g D A x z a2 y b i}(K:mm a2 y b i)(P:∀f∈a2,k.heap[f.1]? = some f.2)(g7:b.length<=100)(d4:∀H∈b,vE H)(c5:Cp k d Fr m g D A x z j)(e0:bH g 27000) :
  Calls prog 78 #[Zp d.C,y] j (NV k d Fr m b g):=by
 have g6:=mS;have g1:=CF;obtain⟨g8,b2,d3⟩:=K;have b6:=aa e0;have a1:=aa d4;have f3:af (zl k d Fr m j.heap.size ((b.take 0).foldl gJ (g,[])) [] m D A x z (j.alloc (.map #[] 0))):=⟨λ_ e=>e,Zq,rfl,Zq,c5.H (.map #[] 0)⟩;have d1:∀(v:Zw),an [] k v->∀h (d5:h<b.length) (d6:h<i.length),∃n l,y=.slice (some ⟨n,0,none⟩) b.length l/\b.length<=l/\v.cell? (Zd n h)=some (.iface (dI b[h]) (.pointer (some ⟨i[h],0,none⟩))):=by
  intro v O h d5 d6;rcases b2 with⟨_,c6,_⟩|⟨n,l,c0,p,⟨c7,_⟩,a8,e3⟩
  .omega
  .exact⟨n,l,p,c7,dt ((O.L _ (au (P _ a8)) Zq).trans (P _ a8)) e3 Zu⟩
 obtain⟨f6,f7,rfl⟩:∃ad l,y=.slice ad b.length l:=by
  rcases b2 with⟨p,c6,_⟩|⟨n,l,c0,p,_⟩;all_goals grind
 have b4:=aa d1;have b5:=aa d3;have E:=aa P;go_in;go_wp2;go_loopw [12] (λh f0=>∃(a:Nat) (o:List (Int×oS)) (G:Zo) (D A:Zv) (x:List (ck×Zv)) (z:List (Zb×dD×Zv)),h=U a/\a<=b.length/\af (zl k d Fr m j.heap.size ((b.take a).foldl gJ (g,[])) o G D A x z f0)) (λh _=>b.length-(intOf h).toNat)
 case atStart=>grind
 case round=>
  obtain⟨a,o,G,e8,e4,c1,c3,rfl,g3,c⟩:=hrel;rcases Yj a b.length with M|g2
  .have b0:a<i.length:=Zm;have e1:bH ((b.take a).foldl gJ (g,[])).1 400:=FV (b.take a) (λH K=>a1.w H (List.mem_of_mem_take K)) (b6.w.b5 Zg);have b7:af ((b.take (a+1)).foldl gJ (g,[])=gJ ((b.take a).foldl gJ (g,[])) b[a]):=by show _=_;grind [List.take_succ_eq_append_getElem]
   generalize e:(b.take a).foldl gJ (g,[])=h0 at *
   obtain⟨n,l,d2,g0,S⟩:=b4.w _ c.w.cp.ae.kp a M b0;cases d2
   have g4:(0:Int)<=↑a:=Zm;have g5:(↑a:Int) < ↑b.length:=Zm;by_cases b1:∃r d s t,b[a]=.prog r d s t
   .obtain⟨r,g9,s,q,a7⟩:=b1;have L:=b5.w a M b0;have a9:=a1.w b[a] (Yy M);rw[a7]at L a9 S;have e2:=qU 233 (i[a]) 157 233;replace S:wr.cell? (Zd n a)=some (.iface 233 (.pointer (some ⟨i[a],0,none⟩))):=S
    have a6:∀(v:Zw),an [] k v->v.cell? ⟨i[a],3,none⟩=some (U q):=by
     intro v O;obtain⟨h1,f5,a4,_⟩:=L;exact(AV ((O.L _ (au (E.w _ a4)) Zq).trans (E.w _ a4))).2.2.2
    have f8:=a6 _ c.w.cp.ae.kp;have b3:=aa a6;have b9:=aa (ZF L E.w a9 (c.w.cp.ah ((Below.refl ..).drew)) e1);go_wp21;refine cy (λf1=>f1.cell? ⟨i[a],3,none⟩=some (U q)) ?_ λc8=>?_
    .go_keep
    refine bI [0,1,2,3,4,5,6,7] ?_;iterate 8 (refine bK ?_)
    refine bJ ?_;refine cx 8 λb8 I=>?_;(go_simp;go_at_call 135;refine b9.w.mono ?_;rintro p f2 ⟨B,f4,rfl,a5,d7,d0,e7,e9,e5,c2,c4,J,u⟩;have f9:=b3.w _ u.ae.kp;have N:=(u.ae.hf _ Yb).1;have e6:=ZJ N c.w.nd (dB q) B;have w:=u.dN (jC ..) (qH (au N) (uS (cq o (dB q) B)));obtain⟨F,a3⟩:∃F,F=eG f2 j.heap.size (uS (cq o (dB q) B)):=⟨_,rfl⟩;rw[<-a3]at e6 w;have w:=aa w;clear u N a3);refine I.out _ _ ?_ (λc8=>?_)
    .go_keep
    refine nz ?_;refine cw λb8 I=>?_;go_simp;refine I.out _ _ ?_;refine nz ?_;have c9:af (zl k d Fr m j.heap.size ((b.take (a+1)).foldl gJ (g,[])) (cq o (dB q) B) e7 e9 e5 c2 c4 F):=by
     rw[b7.w,a7];refine⟨λf e=>J f (a5 f (c.w.bE f e)),?_,?_,tn c.w.nd ..,w.w⟩
     .intro f e;rcases DC e with e|rfl
      .exact(c.w.l2 f e).a2 λa0 R=>J a0 (a5 a0 R)
      .exact d7.a2 J
     .rw[Pu,c.w.i2,d0];rfl
    go_wp2;grind [intOf]
   .have d9:∀r d s t,b[a]≠.prog r d s t:=λr d s t p=>b1 ⟨r,d,s,t,p⟩;have e2:=Pp d9 i[a];have c9:af (zl k d Fr m j.heap.size ((b.take (a+1)).foldl gJ (g,[])) o G e8 e4 c1 c3 wr):=by
     grind [af.w,ZA]
    go_wp2;grind [intOf]
  .have d8:a=b.length:=Zm;subst d8;have c:=c.w;rw[YG]at c;have c:=aa c;go_wp2;go_ret;exact⟨j.heap.size,o,_,rfl,λf e=>Y5 _ (c.w.bE f e),Yb,λf e=>(c.w.l2 f e).a2 λa0 R=>Y5 _ R,c.w.i2,c.w.nd,c.w.cp.hv.c9⟩
structure xj(bs:Zo)(v:Zv)(S P:Nat)(ds:List aC):Prop where
 ab:pP bs v (gV ds).1
 aA:(S,kz (gV ds).2)∈bs
 nd:((gV ds).2.map (·.1)).Nodup
 am:∃lp,(P,uS lp)∈bs/\(∀p∈lp,qc bs p.2)/\xv lp=(AQ ds).2/\(lp.map (·.1)).Nodup
def NY(d:Zw)(f:List aC)(g:Ending)(e:Zw):Prop:=∃v S b c,g=.returned (.agg #[v,.map (some S),.map (some b)])/\an [] d e/\xj c v S b f/\∀a∈c,e.heap[a.1]? = some a.2/\d.heap.size<=a.1
set_option maxHeartbeats 8000000 in
def OG{b:Zw}{M m ds o}(h:mm M m ds o)(B:∀p∈M,b.heap[p.1]? = some p.2)(e1:wU ds)(d1:∀e∈ds,vE e)(P:ds.length<=100) :
  Calls prog 45 #[m] b (NY b ds):=by
 have h7:=mS;have E:=aa h;have G:=aa d1;obtain⟨h8,R,c9⟩:=h;have d0:∀e∈ds,yY e:=by
  grind [List.getElem_of_mem,QE]
 have I:af (bH si (28000+5000+300+4100*ds.length)):=⟨by simp[si];omega,by simp[si]⟩;have F:=aa d0;have r:=aa e1;have a9:=aa (Qt b).c9;have c7:∀(v:Zw),an [] b v->∀c (d2:c<ds.length) (d3:c<o.length),∃g d,m=.slice (some ⟨g,0,none⟩) ds.length d/\ds.length<=d/\v.cell? (Zd g c)=some (.iface (dI ds[c]) (.pointer (some ⟨o[c],0,none⟩))):=by
  intro v e2 c d2 d3;rcases R with⟨_,c0,_⟩|⟨g,d,b7,f,⟨u,_⟩,N,e0⟩
  .omega
  .exact⟨g,d,f,u,dt ((e2.L _ (au (B _ N)) Zq).trans (B _ N)) e0 Zu⟩
 obtain⟨g4,g5,rfl⟩:∃ad d,m=.slice ad ds.length d:=by
  rcases R with⟨f,c0,_⟩|⟨g,d,b7,f,_⟩;all_goals grind
 have a3:=aa c7;have a4:=aa c9;have s:=aa B;go_in;go_wp2;go_loopw [14] (λc f1=>∃a:Nat,c=U a/\a<=ds.length/\af (ej b ⟨b.heap.size+3,b.heap.size+1,b.heap.size+2⟩ [(b.heap.size,vi (.slice none 0 0) none none)] [] (eg (ds.take a)) f1)) (λc _=>ds.length-(intOf c).toNat)
 case atStart=>exact⟨0,rfl,Zm,a9⟩
 case round=>
  obtain⟨a,rfl,h3,i⟩:=hrel;rcases Yj a ds.length with n|h2
  .have O:a<o.length:=Zm;have d8:bH (eg (ds.take a)) 5000:=FT (ds.take a) (λe h=>r.w e (List.mem_of_mem_take h)) (λe h=>F.w e (List.mem_of_mem_take h)) (I.w.b5 Zg);obtain⟨b6,e7,e5,b8,b9,c4,j⟩:=i.w;obtain⟨g,d,c8,h0,i2⟩:=a3.w _ j.ae.kp a n O;cases c8
   have b1:=aa (QQ (a4.w a n O) s.w (r.w ds[a] (Yy n)) j d8);have h4:(0:Int)<=↑a:=Zm;have h5:(↑a:Int) < ↑ds.length:=Zm;have a8:af (eg (ds.take (a+1))=ht ds[a] (eg (ds.take a))):=by show _=_;rw[Yt n,xA]
   go_wp21;refine b1.w.mono ?_;rintro f a0 ⟨rfl,t⟩;have a1:af (ej b ⟨b.heap.size+3,b.heap.size+1,b.heap.size+2⟩ [(b.heap.size,vi (.slice none 0 0) none none)] [] (eg (ds.take (a+1))) a0):=by
    rw[a8.w];exact ss Zq t
   go_wp2;exact⟨⟨a+1,Zr,Zm,a1⟩,Zz⟩
  .have d4:a=ds.length:=Zm;subst d4;have i:=i.w;rw[YG]at i;have J:bH (eg ds) 33000:=FT ds r.w F.w (I.w.b5 Zm);obtain⟨b6,e7,e5,b8,b9,c4,j⟩:=i;have K:af (bH (ds.foldl dJ (eg ds,[])).1 32000):=FW ds (p:=(eg ds,[])) (J.b5 Zm);have L:af (bH (ds.foldl gJ ((ds.foldl dJ (eg ds,[])).1,[])).1 100):=FV ds (q:=((ds.foldl dJ (eg ds,[])).1,[])) G.w (K.w.b5 Zm);have b4:=aa (adW E.w s.w P j (J.b5 Zm));go_wp21;refine b4.w.mono ?_;rintro f a0 ⟨S,f3,rfl,h9,c3,f4,i8,i0,g1,g6,c5,t⟩;have b3:=aa (ZH E.w s.w P G.w t (K.w.b5 Zm));have a7:=aa (c5 _ c3);go_wp21;refine b3.w.mono ?_;rintro f j0 ⟨l,e6,f5,rfl,d9,c2,d7,c6,d5,f6,i9,i1,g2,g7,A,b0⟩;have e3:=ZK (ds:=ds);have g9:=L.w.ab;have g8:=L.w.aL;have a5:af ((gV ds).1.length<1000000):=by
    have:=(Ix (ds.foldl gJ ((ds.foldl dJ (eg ds,[])).1,[])).1.aL (ds.foldl gJ ((ds.foldl dJ (eg ds,[])).1,[])).1).1;exact Nat.lt_of_le_of_lt (Nat.le_of_eq this) Zm
   have b2:=aa (UH b0 e3 Zm Zm);have a2:=aa c6;have a6:=aa d7;go_wp21;refine b2.w.mono ?_;rintro f j1 ⟨rfl,g3,k⟩;obtain⟨C,D,rfl⟩:=k.cS;obtain⟨f7,f8,f9,g0,h1,h6⟩:=k.al;have x:=(k.ae.hf _ Yb).1;obtain⟨i3,i4,i5,i6,i7⟩:=tv x;obtain⟨e8,e9,f0,_,_⟩:=tv (Bj (x:=.slice C (tg (ds.foldl gJ ((ds.foldl dJ (eg ds,[])).1,[])).1).ab.length D) (y:=.map (some S)) (z:=.map (some l)) x);have H:=aa (k.dN (Ig (.slice C (tg (ds.foldl gJ ((ds.foldl dJ (eg ds,[])).1,[])).1).ab.length D) (.map (some S)) (.map (some l))) (Bj x));go_wp2;refine bodyPost_ret (v:=.agg #[.slice C (tg (ds.foldl gJ ((ds.foldl dJ (eg ds,[])).1,[])).1).ab.length D,.map (some S),.map (some l)]) (by simp[results,results45,go_sem,e8,e9,f0]) rfl ?_;obtain⟨b5,u,w,c1⟩:=H.w.nT a5.w;exact⟨_,S,l,b5,rfl,H.w.ae.kp,⟨u,w _ (A _ (d9 _ a7.w)),Lz _ Zq,e6,w _ (A _ c2),λp d6=>(a6.w p d6).a2 λf2 e4=>w _ (A _ e4),a2.w,d5⟩,c1⟩
def JQ(a:TypeId)(d:Zv)(b:Zw)(c:a=143):(binOp BinOp.neq 20 (.iface a d) .nilIface).run prog b=.ok (.bool true) b:=by subst c;kernel_rfl
def JR(a:Zw):(binOp BinOp.neq 20 .nilIface .nilIface).run prog a=.ok (.bool false) a:=Zk
def ZV(f g:Addr)(a:Zw) :
  CallsD prog 42 #[.pointer (some f),.pointer (some g)] .returning a λc h i=>c=.returned (.tuple #[])/\h=.returning/\i=a:=by
 have d:=JR;refine callsD_of_wpS func42 rfl λb j e=>?_;apply wpS_seq;apply wpS_region;simp[wpOpsS,go_sem,recoverD,e,ntmps42,Exit.thenS];apply wpS_seq;apply wpS_region;simp[wpOpsS,go_sem,Exit.thenS,d];refine wpS_cond (t:=false) Zr ?_;simp only[Ye,if_false]
 refine wpS_of_wp (wp_skip ?_);cases b<;>simp_all[bodyPostS,results]
def ZU(b Q c:Nat)(j k:Zv)(e:List PanicEntry)(a:Zw)(p:a.cell? (Zd b 0)=some j)(q:a.cell? (Zd Q 0)=some k)(n:a.frozen? ⟨b,0,none⟩=false)(o:a.frozen? ⟨Q,0,none⟩=false)(r:b≠Q) :
  CallsD prog 42 #[Zp b,Zp Q] (.panicking ({ v:=.iface 143 (Zp c),recovered:=false }::e)) a λd h i=>
   d=.returned (.tuple #[])/\h=.panicking ({ v:=.iface 143 (Zp c),recovered:=true }::e)/\i=(a.setCell ⟨b,0,none⟩ (.pointer none)).setCell ⟨Q,0,none⟩ (.iface 143 (Zp c)):=by
 have f:=JQ 143;refine callsD_of_wpS func42 rfl λm l g=>?_;apply wpS_seq;apply wpS_region;simp[wpOpsS,go_sem,recoverD,g,ntmps42,Exit.thenS];apply wpS_seq;apply wpS_region;simp[wpOpsS,go_sem,Exit.thenS,f];refine wpS_cond (t:=true) (by simp_all[Act.eval]) ?_;simp only[if_true]
 refine wpS_of_wp ?_;go_wp21;refine(Fw c a).mono ?_;rintro d s ⟨rfl,rfl⟩;go_wp2;simp_all[bodyPostS,results]
section
variable {a b:Zo}{f:List ck}{c:List aC}{e:List Nat}{d:Zv}
def vI(a:Zo)(f:Nat)(c:List aC):Prop:=∃d e v S b,(f,Obj.cells #[d,v,.map (some S),.map (some b)] 109)∈a/\mm a d c e/\xj a v S b c
def NW(e:Zw)(c:List aC)(g:Ending)(f:Zw):Prop:=∃d a,g=.returned (.tuple #[Zp d,.nilIface])/\an [] e f/\vI a d c/\(∀b∈a,f.heap[b.1]? = some b.2)/\e.heap.size<=d/\∀b∈a,e.heap.size<=b.1
def mm.cS(i:mm a d c e):∃g h f,d=.slice g h f:=by
 rcases i.row with⟨b,_⟩|⟨l,j,k,b,_⟩<;>exact⟨_,_,_,b⟩
def pP.cS{v}(g:pP a v f):∃c d e,v=.slice c d e:=by
 obtain⟨k,_,h,_⟩:=g;rcases h with⟨b,_⟩|⟨l,i,j,b,_⟩<;>exact⟨_,_,_,b⟩
def mP:Obj->Bool
 |.cells _ a _=>(a != 53)&&(a != 55)
 |_=>true
def hn.cg(o:∀f∈a,mP f.2=true->f∈b){c:TypeId}{v e g}(p:((c != 53)&&(c != 55))=true)(d:hn a c v e g):hn b c v e g:=by
 rcases d with d|⟨j,h,i,k,l,m,n⟩
 .exact Y8 d
 .exact Ya ⟨j,h,i,k,l,o _ m p,n⟩
def fB.cg(c:∀u∈a,mP u.2=true->u∈b){h p}(i:fB a h p):fB b h p:=by
 have t:∀h s,vp a h s->vp b h s:=λh s w=>c _ w rfl;cases p with
 |const q o v=>exact t _ _ i
 |typedef p=>exact c _ i rfl
 |enum q o x=>obtain⟨d,e,f,g,l,m⟩:=i;exact⟨d,e,c _ f rfl,g,l.cg c rfl,λn j k=>t _ _ (m n j k)⟩
 |struct q o x=>obtain⟨d,f,g⟩:=i;exact⟨d,c _ f rfl,g.cg c rfl⟩
 |union q o A y=>obtain⟨d,r,f,g,l,m⟩:=i;exact⟨d,r,c _ f rfl,g,l.cg c rfl,λn j k=>(m n j k).cg c rfl⟩
 |prog q o B z=>obtain⟨d,r,f,g,l,m⟩:=i;exact⟨d,r,c _ f rfl,g,l.cg c rfl,λn j k=>(m n j k).cg c rfl⟩
def mm.cg(g:∀h∈a,mP h.2=true->h∈b)(f:mm a d c e):mm b d c e:=
 ⟨f.av,f.row.cg g rfl,λk i j=>(f.da k i j).cg g⟩
def hJ.cg(k:∀g∈a,mP g.2=true->g∈b){e d}(h:hJ a e d):hJ b e d:=by
 obtain⟨l,i,c,j⟩:=h;refine⟨l,i,?_,j⟩;cases f:d.h6 with
 |none=>rw[f]at c;exact c
 |some m=>rw[f]at c;exact⟨c.1,c.2.cg k rfl⟩
def ln.cg(c:∀j∈a,mP j.2=true->j∈b){v h}(e:ln a v h):ln b v h:=by
 cases h with
 |num p=>obtain⟨d,f,g⟩:=e;exact⟨d,f,g.cg c⟩
 |choice p t q=>
  obtain⟨d,o,r,f,g,l,i⟩:=e;refine⟨d,o,r,f,g.cg c,c _ l rfl,?_⟩;cases q with
  |none=>exact i
  |some s=>obtain⟨k,m,n⟩:=i;exact⟨k,m,c _ n rfl⟩
 |_=>exact e
def pP.cg(e:∀c∈a,mP c.2=true->c∈b){v}(o:pP a v f):pP b v f:=by
 obtain⟨i,p,d,q,r⟩:=o;refine⟨i,p,?_,λc s=>(q c s).cg e,r⟩;rcases d with d|⟨n,g,h,j,k,l,m⟩
 .exact Y8 d
 .exact Ya ⟨n,g,h,j,k,e _ l rfl,m⟩
def qc.cg(e:∀c∈a,mP c.2=true->c∈b){f}(d:qc a f):qc b f:=⟨e _ d.1 rfl,λc g=>e _ (d.2 c g) rfl⟩
def xj.cg(e:∀f∈a,mP f.2=true->f∈b){v S g}(d:xj a v S g c):xj b v S g c:=by
 obtain⟨m,h,i,j,k⟩:=d.am;exact⟨d.ab.cg e,e _ d.aA rfl,d.nd,m,e _ h rfl,λf l=>(i f l).cg e,j,k⟩
def Ou{B:Za}(b7:eP B=.ok c)(b6:∀a7∈c,vE a7){b}(u:Gl b):Calls prog 25 #[.string B] b (NW b c):=by
 have d3:=je;have F:Below b.heap.size b ((b.alloc (.cells #[.pointer none] 53)).alloc (.cells #[.nilIface] 55)):=((Below.refl _ _).alloc (Y4 _) _).alloc Zq _;have a6:=aa (Gd B (u.ah F));have a3:=aa b7;have L:((b.alloc (.cells #[.pointer none] 53)).alloc (.cells #[.nilIface] 55)).heap[b.heap.size]? = some (.cells #[.pointer none] 53):=(Below.heap_alloc _ _ _ Zq).trans (aQ rfl);have N:((b.alloc (.cells #[.pointer none] 53)).alloc (.cells #[.nilIface] 55)).heap[b.heap.size+1]? = some (.cells #[.nilIface] 55):=aQ Zq;go_enter_defers func25,ntmps25;go_wp21;refine a6.w.mono ?_;rintro r d7 (⟨a8,d4,c2,p,b8,rfl,b4,z,H⟩|⟨a9,b8,_⟩);rotate_left
 .simp_all
 obtain rfl:c=a8:=Zu;have I:=λa e=>(H a e).1;obtain⟨h,i,j,rfl⟩:=z.cS;have a5:=aa (OG z I (Mb a3.w) b6 (by grind [adt]));have E:=aa b4;have R:=aa z;have D:=aa I;have a1:af (∀a∈p,b.heap.size<=a.1):=aa λa e=>Yz Zg (H a e).2;go_wp21;refine a5.w.mono ?_;rintro r d ⟨v,S,f,q,rfl,K,G,J⟩;have b3:=λa e=>(J a e).1;obtain⟨k,l,m,rfl⟩:=G.ab.cS;have y:=aa (E.w.u K);have P:=aa G;have a0:=aa b3;have a2:af (∀a∈q,b.heap.size<=a.1):=aa λa e=>Yz (Yz Zg E.w.aD) (J a e).2;have a4:=aa K;have A:=(y.w.L _ (au L) Zq).trans L;have x:=(y.w.L _ (au N) Zq).trans N;have c5:=bS A;have c7:=bS x;have c9:∀o,d.frozen? ⟨b.heap.size,o,none⟩=false:=by grind [World.frozen?]
 have d1:∀o,d.frozen? ⟨b.heap.size+1,o,none⟩=false:=by grind [World.frozen?]
 have b9:=au x;have b2:af (∀g t,an [] b (((d.alloc (.cells #[.slice h i j,.slice k l m,.map (some S),.map (some f)] 109)).setCell ⟨b.heap.size,0,none⟩ g).setCell ⟨b.heap.size+1,0,none⟩ t)):=λg t=>(((bT [] F).u y.w |>.H _).b4 (p:=⟨b.heap.size,0,none⟩) (Y4 _) g).b4 (p:=⟨b.heap.size+1,0,none⟩) Zq t;have M:(d.alloc (.cells #[.slice h i j,.slice k l m,.map (some S),.map (some f)] 109)).heap[b.heap.size]? = some (.cells #[.pointer none] 53):=(Below.heap_alloc _ _ _ Zm).trans A;have c6:(d.alloc (.cells #[.slice h i j,.slice k l m,.map (some S),.map (some f)] 109)).cell? (Zd b.heap.size 0)=some (.pointer none):=bS M;have d0:∀o,(d.alloc (.cells #[.slice h i j,.slice k l m,.map (some S),.map (some f)] 109)).frozen? ⟨b.heap.size,o,none⟩=false:=by grind [World.frozen?]
 have O:∀g,((d.alloc (.cells #[.slice h i j,.slice k l m,.map (some S),.map (some f)] 109)).setCell ⟨b.heap.size,0,none⟩ g).heap[b.heap.size+1]? = some (.cells #[.nilIface] 55):=λg=>(Below.heap_setCell _ _ _ _ Zq).trans ((Below.heap_alloc _ _ _ b9).trans x);have c8:∀g,((d.alloc (.cells #[.slice h i j,.slice k l m,.map (some S),.map (some f)] 109)).setCell ⟨b.heap.size,0,none⟩ g).cell? ⟨b.heap.size+1,0,none⟩=some .nilIface:=λg=>bS (O g);have d2:∀g o,((d.alloc (.cells #[.slice h i j,.slice k l m,.map (some S),.map (some f)] 109)).setCell ⟨b.heap.size,0,none⟩ g).frozen? ⟨b.heap.size+1,o,none⟩=false:=by grind [World.frozen?]
 have C:af (vI ((d.heap.size,.cells #[.slice h i j,.slice k l m,.map (some S),.map (some f)] 109)::((p++q).filter λa=>mP a.2)) d.heap.size c/\∀g t,∀a∈((d.heap.size,.cells #[.slice h i j,.slice k l m,.map (some S),.map (some f)] 109)::((p++q).filter λa=>mP a.2):Zo),(((d.alloc (.cells #[.slice h i j,.slice k l m,.map (some S),.map (some f)] 109)).setCell ⟨b.heap.size,0,none⟩ g).setCell ⟨b.heap.size+1,0,none⟩ t).heap[a.1]? = some a.2):=by
  have b0:∀a∈p,mP a.2=true->a∈((d.heap.size,.cells #[.slice h i j,.slice k l m,.map (some S),.map (some f)] 109)::((p++q).filter λa=>mP a.2):Zo):=λa e u=>Y5 _ (List.mem_filter.2 ⟨Yf _ e,u⟩);have b1:∀a∈q,mP a.2=true->a∈((d.heap.size,.cells #[.slice h i j,.slice k l m,.map (some S),.map (some f)] 109)::((p++q).filter λa=>mP a.2):Zo):=λa e u=>Y5 _ (List.mem_filter.2 ⟨Ym _ e,u⟩);refine⟨⟨_,c2,_,S,f,Yb,R.w.cg b0,P.w.cg b1⟩,?_⟩;intro g t a e;rcases Yg.1 e with rfl|e
  .exact(Below.heap_setCell _ _ _ _ Zg).trans ((Below.heap_setCell _ _ _ _ Zg).trans (aQ rfl))
  .obtain⟨s,w⟩:=List.mem_filter.1 e;have n:d.heap[a.1]? = some a.2:=by
    rcases Yn.1 s with s|s
    .exact(a4.w.L _ (au (D.w a s)) Zq).trans (D.w a s)
    .exact a0.w a s
   have c0:a.1≠b.heap.size:=by
    intro r;rw[r,A]at n;injection n with n;rw[<-n]at w;exact absurd w Ze
   have c1:a.1≠b.heap.size+1:=by
    intro r;rw[r,x]at n;injection n with n;rw[<-n]at w;exact absurd w Ze
   exact(Below.heap_setCell _ _ _ _ c1).trans ((Below.heap_setCell _ _ _ _ c0).trans ((Below.heap_alloc _ _ _ (au n)).trans n))
 have c3:(((d.alloc (.cells #[.slice h i j,.slice k l m,.map (some S),.map (some f)] 109)).setCell ⟨b.heap.size,0,none⟩ (Zp d.heap.size)).setCell ⟨b.heap.size+1,0,none⟩ .nilIface).cell? (Zd b.heap.size 0)=some (Zp d.heap.size):=
  bS ((Below.heap_setCell _ _ _ _ Zq).trans (bv (i:=0) M _))
 have c4:(((d.alloc (.cells #[.slice h i j,.slice k l m,.map (some S),.map (some f)] 109)).setCell ⟨b.heap.size,0,none⟩ (Zp d.heap.size)).setCell ⟨b.heap.size+1,0,none⟩ .nilIface).cell? ⟨b.heap.size+1,0,none⟩=some .nilIface:=bS (bv (i:=0) (O _) _);have b5:b.heap.size<=d.heap.size:=Zm;go_wp2;refine leaves_cons (f:=42) (args:=#[Zp b.heap.size,.pointer (some ⟨b.heap.size+1,0,none⟩)]) Zq Zr ?_;refine(ZV _ _ _).mono ?_;rintro r d5 d6 ⟨rfl,rfl,rfl⟩;simp only[Leaves,settle];refine⟨.tuple #[Zp d.heap.size,.nilIface],by simp[results,results25,go_sem,c3,c4],?_⟩;refine⟨d.heap.size,_,rfl,b2.w _ _,C.w.1,C.w.2 _ _,b5,λa e=>?_⟩;rcases Yg.1 e with rfl|e
 .omega
 .rcases Yn.1 (List.mem_filter.1 e).1 with e|e
  .exact a1.w a e
  .exact a2.w a e
end
section
variable {a i kd p:Nat}
abbrev aI(t:Zb):Za:=⟨t.toArray⟩
structure FA(y:Mar.aX):Prop where
 dO:y.F<=4
 ie:Mar.et y.text=true->y.F=2
 pe:∀c,Mar.f9 c=true->y.text=[c]->y.F=4
def Ug:(Mar.iu.all λa=>match a with|c::_::_=>Mar.e5 c|_=>false)=true:=Zr
theorem Dl{a:Zb}(d:Mar.et a=true):∃b c f,a=b::c::f/\Mar.e5 b=true:=by
 have e:a∈Mar.iu:=by simpa[Mar.et]using d
 have:=List.all_eq_true.1 Ug a e;grind
def SA{j g}(b:Mar.c8 j a=.ok g):FA g/\g.y=a:=by
 unfold Mar.c8 at b;split at b
 .cases b
  exact⟨⟨Zq,λb=>(by grind [Dl]),λf _ b=>Zg⟩,rfl⟩
 .rename_i f t;split at b
  .rename_i k;have i:∀c,Mar.f9 c=true->Mar.bb (f::t)≠[c]:=λc e d=>by
    grind [Mar.bb,Mar.mz]
   unfold Mar.eB at b;split at b
   .cases b
   .split at b
    .cases b;exact⟨⟨Zq,λ_=>rfl,λc e d=>absurd d (i c e)⟩,rfl⟩
    .rename_i h;cases b
     exact⟨⟨Zq,λb=>absurd b h,λc e d=>absurd d (i c e)⟩,rfl⟩
  .split at b
   .rename_i m l;unfold Mar.gQ at b;split at b
    .cases b
     refine⟨⟨Zq,λh=>?_,λc e d=>?_⟩,rfl⟩;all_goals grind [Dl,Mar.bb,Mar.mz]
    grind
   .split at b
    .cases b
     exact⟨⟨Zq,λb=>(by grind [Dl]),λf _ b=>rfl⟩,rfl⟩
    grind
def SC{c f}(b:Mar.c8 c a=.error f):f.no≠0/\f.y=a:=by
 unfold Mar.c8 at b;split at b
 .cases b
 .split at b
  .unfold Mar.eB at b;grind
  .split at b
   .unfold Mar.gQ at b;grind
   grind
def Wd(c:Except Mar.ay (Mar.aX×Nat))(a:fI):Prop:=match c with
 |.ok (b,p)=>(a.F=b.F/\a.text=b.text/\a.n=b.n/\a.y=b.y/\a.fin=p)/\FA b
 |.error f=>a.F=5/\a.e=f.no/\a.y=f.y/\f.no≠0
def MJ(t:Zb)(p:Nat):Wd (pF t p) (hQ t p):=by
 unfold pF hQ gj;cases c:Mar.c8 (t.drop (p+Mar.eX (t.drop p))) (p+Mar.eX (t.drop p))with
 |ok d=>
  obtain⟨a,b⟩:=SA c;exact⟨⟨rfl,rfl,rfl,b.symm,rfl⟩,a⟩
 |error f=>
  obtain⟨a,b⟩:=SC c;exact⟨rfl,rfl,b.symm,a⟩
def dE(b:List bD):Ty->Int->Prop
 |.plain h,i=>i=h/\h<=4
 |.named j a,i=>0<=i/\∃e,b[i.toNat]? = some e/\e.F=14/\e.bl=j/\e.y=a
 |.opaq d f,i=>0<=i/\b[i.toNat]? = some (fu (if f then 6 else 7) d)
 |.str d _,i=>0<=i/\b[i.toNat]? = some (fu 8 d)
 |.arr g d f,i=>0<=i/\∃c,b[i.toNat]? = some (dP (if f then 9 else 10) d c)/\dE b g c
 |.opt g,i=>0<=i/\∃c,b[i.toNat]? = some (dP 11 0 c)/\dE b g c
 |.void,i=>i = -1
def qv{c:Type}{a d:List c}{b}(e:a[i]? = some b):(a++d)[i]? = some b:=by
 grind
theorem dE.b7{k}(l:List bD):∀{e:Ty} {i:Int},dE k e i->dE (k++l) e i:=by
 intro e;induction e with
 |plain d=>intro i b;exact b
 |named o a=>rintro i ⟨c,n,b,d⟩;exact⟨c,n,qv b,d⟩
 |opaq j f=>rintro i ⟨c,b⟩;exact⟨c,qv b⟩
 |str j f=>rintro i ⟨c,b⟩;exact⟨c,qv b⟩
 |arr m j f g=>rintro i ⟨c,h,b,d⟩;exact⟨c,h,qv b,g d⟩
 |opt m g=>rintro i ⟨c,h,b,d⟩;exact⟨c,h,qv b,g d⟩
 |void=>intro i b;exact b
abbrev Nl:=List (Zb×Option aC)
abbrev ut(a:List (Zb×Nat×Int)):bD:=⟨5,0,0,a.map (·.2.2),[],0,[],0⟩
def lm(h:List bD)(g:Nl)(e:Ty)(of:Int):Prop:=
 (∃b,e=.plain b/\(b=0\/b=1\/b=4)/\of=b)\/(∃d a t f c,e=.named d a/\4<of/\aO g d=some (some (.enum t f c))/\h[of.toNat]? = some (ut c))
def cY(b:List (List Int×aW)):List (Int×aW):=b.flatMap λa=>a.1.map λc=>(c,a.2)
def jb(b:List (List Int×aW)):Option aW:=(b.find? λa=>a.1.isEmpty).map (·.2)
def kN(b:List bD)(k:Nl)(e:aC)(i:Int):Prop:=match e with
 |.typedef e=>dE b e.O i/\0<=i
 |.enum _ _ h=>0<=i/\b[i.toNat]? = some (ut h)
 |.struct _ _ h=>0<=i/\∃c:List Int,b[i.toNat]? = some ⟨12,0,0,[],c,0,[],0⟩/\c.length=h.length/\∀(f:Nat) (p:Int) (g:aW),c[f]? = some p->h[f]? = some g->dE b g.O p
 |.union _ _ l d=>0<=i/\∃(of:Int) (c:List Int) (j:Int),b[i.toNat]? = some ⟨13,0,of,(cY d).map (·.1),c,j,[],0⟩/\lm b k l.O of/\
   c.length=(cY d).length/\(∀(f:Nat) (p:Int) (g:Int×aW),c[f]? = some p->(cY d)[f]? = some g->dE b g.2.O p)/\
   (match jb d with
   |none=>j = -2
   |some e=>dE b e.O j)/\∀a∈d,a.1=[]->jb d=some a.2
 |_=>False
def Kp(c d:Nl):Prop:=∀b a,aO c b=some (some a)->aO d b=some (some a)
theorem FH(a:Nl):Kp a a:=λ_ _ b=>b
theorem lm.b7{e c d f of}(b:lm e c f of)(m:List bD)(l:Kp c d):lm (e++m) d f of:=by
 rcases b with b|⟨o,a,t,g,n,h,i,j,k⟩
 .exact Y8 b
 .exact Ya ⟨o,a,t,g,n,h,i,l _ _ j,qv k⟩
theorem kN.b7{r o q d i}(c:kN r o d i)(e:List bD)(v:Kp o q):kN (r++e) q d i:=by
 cases d with
 |const a b f=>exact c
 |prog a b f d=>exact c
 |typedef d=>exact⟨c.1.b7 e,c.2⟩
 |enum a b f=>exact⟨c.1,qv c.2⟩
 |struct a b f=>
  obtain⟨g,n,h,j,k⟩:=c;exact⟨g,n,qv h,j,λl p m a b=>(k l p m a b).b7 e⟩
 |union a b f w=>
  obtain⟨g,of,n,s,h,j,k,t,x,u⟩:=c;refine⟨g,of,n,s,qv h,j.b7 e v,k,λl p m a b=>(t l p m a b).b7 e,?_,u⟩;grind [dE.b7]
def tQ(d:List bD)(c:Nl)(p:Zb×Option aC)(a:hI):Prop:=a.s=p.1/\match p.2 with
 |none=>a.a7=2
 |some (.const _ _ v)=>a.a7=0/\a.n=v
 |some (.prog ..)=>a.a7=2
 |some b=>a.a7=1/\a.y=(bQ b).2/\kN d c b a.n
theorem tQ.b7{l i j p k}(h:tQ l i p k)(c:List bD)(g:Kp i j):tQ (l++c) j p k:=by
 refine⟨h.1,?_⟩;have b:=h.2;split
 .simp_all
 .simp_all
 .simp_all
 .rename_i f n o m;rw[m]at b;cases f with
  |const a d e=>simp_all
  |prog a d e f=>grind
  |typedef f=>exact⟨b.1,b.2.1,b.2.2.b7 c g⟩
  |enum a d e=>exact⟨b.1,b.2.1,b.2.2.b7 c g⟩
  |struct a d e=>exact⟨b.1,b.2.1,b.2.2.b7 c g⟩
  |union a d e f=>exact⟨b.1,b.2.1,b.2.2.b7 c g⟩
structure ll(rows:List bD)(nl:Nl)(l:List hI):Prop where
 av:l.length=nl.length
 gY:∀(i:Nat) (p:Zb×Option aC) (r:hI),nl[i]? = some p->l[i]? = some r->tQ rows nl p r
 nd:(nl.map (·.1)).Nodup
def ll.kw{f b a}(d:ll f b a):a.map (·.s)=b.map (·.1):=by
 apply List.ext_getElem?;intro i;rw[List.getElem?_map,List.getElem?_map];rcases Yj i b.length with c|c
 .have e:i<a.length:=by rw[d.av];omega
  have:=d.gY i b[i] a[i] (Yd c) (Yd e);rw[Yd c,Yd e];simp[this.1]
 grind [av]
theorem ll.b7{f c d}(b:ll f c d)(e:List bD):ll (f++e) c d:=⟨b.av,λi p h a g=>(b.gY i p h a g).b7 e (FH c),b.nd⟩
theorem Su(b:Nl)(a:Zb):(aO b a=none/\pi (b.map (·.1)) a<0)\/(∃(i:Nat) (c:Option aC),aO b a=some c/\pi (b.map (·.1)) a=(i:Int)/\b[i]? = some (a,c)):=by
 unfold pi;induction b with
 |nil=>left;simp[aO]
 |cons p b h=>
  by_cases l:p.1=a
  .grind [aO]
  .have f:(p.1==a)=false:=Zu;have k:(a==p.1)=false:=Zg;have g:aO (p::b) a=aO b a:=by simp[aO,List.find?,f]
   rw[g];rcases h with⟨d,e⟩|⟨i,c,d,e,j⟩
   .grind
   .right;refine⟨i+1,c,d,?_,Zu⟩;grind
structure cB where
 dc:Nat
 nl:Nl
 pd:Nl
 o:Zb
 ps:List ct
 rf:List (Zb×Int)
 fz:List hI
def nM(b:List bD):List (Zb×Int):=b.filterMap λa=>if a.F=14 then some (a.bl,a.y)else none
def ZZ(b:List bD)(a:bD):nM (b++[a])=nM b++if a.F=14 then [(a.bl,a.y)]else []:=by
 grind [nM]
def nA:List bD:=[⟨0,0,0,[],[],0,[],0⟩,⟨1,0,0,[],[],0,[],0⟩,⟨2,0,0,[],[],0,[],0⟩,⟨3,0,0,[],[],0,[],0⟩,⟨4,0,0,[],[],0,[],0⟩]
def zn(b:Nat)(a:bD):Prop:=a.of<b/\(∀c∈a.bz,c<b)/\a.d0<b/\(a.F=5->∀c∈a.aR,dV (-2147483648) 2147483647 c=true)
def Fz(a:List hI)(e:Nl)(c:List hI):Prop:=(∃d,c=a++d)/\∀(b:Nat) (p:Zb×Option aC),b<a.length->e[b]? = some p->p.2≠none
def Fz.fY{c b a}(e:Fz c b a)(k:a.length=b.length)(p:Zb×Option aC)(d:hI):Fz c (b++[p]) (a++[d]):=by
 obtain⟨⟨i,l⟩,f⟩:=e;refine⟨⟨i++[d],Zu⟩,λh j g m=>f h j g ?_⟩;grind
theorem Fz.a5{a b c}(f:Fz a b c){e:Zb}(j:b[i]? = some (e,none))(d:aC)(r:hI):Fz a (ep b e d) (c.set i r):=by
 obtain⟨⟨g,m⟩,h⟩:=f;have k:a.length<=i:=by
  grind
 refine⟨⟨g.set (i-a.length) r,Zu⟩,λo p l n=>?_⟩;grind [ep]
structure Q(t:Zb)(b:cB)(st:St)(σ:ai):Prop where
 e:σ.s.e=0
 wd:Wd (fj t st.y st.nx) σ.s.x
 nl:st.K=b.nl++b.pd
 pd:b.pd=[]\/∃s,b.pd=[(s,none)]/\aO b.nl s=none
 nm:ll σ.A b.nl σ.K
 O:σ.aA=st.aA
 cn:σ.aN+b.dc=st.aN
 pg:σ.am=st.am.map (·.1)
 cX:∃l,σ.A=nA++l
 cg:∀(i:Nat) (r:bD),σ.A[i]? = some r->zn (max i 5) r
 ou:σ.w=b.o
 pr:σ.aq=b.ps
 eD:nM σ.A=b.rf
 fD:Fz b.fz b.nl σ.K
def cB.cF(b:cB)(a:List (Zb×Nat)):cB:={ b with rf:=b.rf++a.map λp=>(p.1,(p.2:Int)) }
theorem oO(b:cB):b.cF []=b:=by simp[cB.cF]
theorem vt(b:cB)(a c:List (Zb×Nat)):(b.cF a).cF c=b.cF (a++c):=by simp[cB.cF]
structure Er(f:Mar.ay)(σ:ai):Prop where
 e:σ.s.e=f.no
 a:σ.s.a=f.y
 z:f.no≠0
structure Bd(f:Mar.ay)(σ:ai):Prop where
 e:σ.s.e=0
 k:σ.s.x.F=5
 n:σ.s.x.e=f.no
 a:σ.s.x.y=f.y
 z:f.no≠0
variable {t : Zb} {st h : St} {σ g j : ai} {b : cB} {f : Mar.ay}
def Er.bG(b:Er f σ)(d:bp σ g):Er f g:=by
 obtain⟨a,c⟩:=d (by rw[b.e];have:=b.z;omega);exact⟨a.trans b.e,c.trans b.a,b.z⟩
theorem Er.ec(a:Er f σ):σ.s.e≠0:=by rw[a.e];have:=a.z;omega
def Q.bd(a:Q t b st σ)(c:fj t st.y st.nx=.error f):Bd f σ:=by
 have:=a.wd;rw[c]at this;exact⟨a.e,this.1,this.2.1,this.2.2.1,this.2.2.2⟩
def Bd.is(a:Bd f σ){l:Zb}(b:kd≠5):aJ σ kd l=false:=by
 grind [aJ,kq,k]
theorem Bd.hc(b:Bd f σ):Er f (ew σ):=by
 have:(ew σ).s=⟨σ.s.x,f.no,f.y⟩:=by
  show ny σ.s=_;unfold ny ql jT;rw[Y9 b.k,Y9 b.e,b.n,b.a]
 exact⟨Zg,Zg,b.z⟩
def Bd.hK(a:Bd f σ){l}(c:kd≠5):Er f (aj t kd l σ):=by
 have b:aj t kd l σ=ew σ:=by
  unfold aj qY ew;have:=a.is (l:=l) c;grind [aJ]
 rw[b];exact a.hc
def uD(kd:Nat)(a:Zb):Bool:=(kd==2&&Mar.et a)||(kd==4&&(a.length==1&&Mar.f9 (a.getD 0 0)))
def UK{a:Zb}(b:uD kd a=true):kd≠5:=by
 grind [uD]
def Q.is{d:Mar.aX}(h:Q t b st σ)(r:fj t st.y st.nx=.ok (d,p)){l:Zb}(f:uD kd l=true):aJ σ kd l=(d.text==l):=by
 have j:=h.wd;rw[r]at j;obtain⟨⟨n,o,-⟩,i⟩:=j;unfold aJ kq;rw[h.e,n,o];by_cases k:d.text=l
 .have s:d.F=kd:=by
   unfold uD at f;simp only[Bool.or_eq_true,Bool.and_eq_true,beq_iff_eq]at f;rcases f with⟨a,g⟩|⟨a,g,m⟩
   .rw[a];exact i.ie Zu
   .rw[a];obtain⟨c,q⟩:∃c,l=[c]:=by
     match l,g with
     |[c],_=>simp
    rw[q]at m k;exact i.pe c Zu k
  simp_all
 simp_all
theorem Q.ag{g:Mar.aX}(a:Q t b st σ)(f:fj t st.y st.nx=.ok (g,p)):Q t b { st with y:=p,nx:=none } (bq t σ):=by
 have c:=a.wd;rw[f]at c;obtain⟨⟨-,-,-,-,d⟩,-⟩:=c;refine⟨a.e,?_,a.nl,a.pd,a.nm,a.O,a.cn,a.pg,a.cX,a.cg,a.ou,a.pr,a.eD,a.fD⟩;show Wd (pF t p) (hQ t σ.s.x.fin);rw[d];exact MJ t p
theorem Q.g8{d:Mar.aX}(a:Q t b st σ)(f:fj t st.y st.nx=.ok (d,p)):Q t b { st with y:=p,nx:=some d } σ:=by
 have c:=a.wd;rw[f]at c;exact⟨a.e,c,a.nl,a.pd,a.nm,a.O,a.cn,a.pg,a.cX,a.cg,a.ou,a.pr,a.eD,a.fD⟩
def Q.h3(d:Q t b st σ)(a:Zb):(aO b.nl a=none/\ce σ a<0)\/(∃(i:Nat) (c:Option aC) (h:hI),aO b.nl a=some c/\ce σ a=(i:Int)/\b.nl[i]? = some (a,c)/\σ.K[i]? = some h/\tQ σ.A b.nl (a,c) h):=by
 have k:ce σ a=pi (b.nl.map (·.1)) a:=by unfold ce;rw[d.nm.kw]
 rw[k];rcases Su b.nl a with e|⟨i,c,e,j,f⟩
 .simp_all
 .right;have l:i<b.nl.length:=by
   grind
  have g:i<σ.K.length:=by rw[d.nm.av];omega
  exact⟨i,c,σ.K[i],e,j,f,Yd g,d.nm.gY i _ _ f (Yd g)⟩
end
section
variable {a kd p:Nat}{nl:Nl}{d h τ:Type}
variable {t : Zb} {st g : St} {σ i j σ1 σ2 : ai} {b c : cB} {f : Mar.ay}
def S(t:Zb)(b:d->cB->Prop)(e:Except Mar.ay (d×St))(σ:ai):Prop:=match e with
 |.ok (a,g)=>∃c,Q t c g σ/\b a c
 |.error f=>Er f σ
def Sx(t:Zb)(b:d->τ->cB->Prop)(e:Except Mar.ay (d×τ×St))(σ:ai):Prop:=match e with
 |.ok (a,h,g)=>∃c,Q t c g σ/\b a h c
 |.error f=>Er f σ
theorem gP{i R'}{e:PM d}{k:d->PM h}(b:S t i (e st) σ1)(l:bp σ1 σ2)(o:∀a g c,Q t c g σ1->i a c->S t R' (k a g) σ2):S t R' (aM e k st) σ2:=by
 unfold aM;cases j:e st with
 |ok p=>rw[j]at b;obtain⟨c,m,n⟩:=b;grind
 |error f=>rw[j]at b;exact Er.bG b l
theorem gh{j R'}{e:PX τ d}{l:d->PX τ h}{i}(b:Sx t j (e i st) σ1)(n:bp σ1 σ2)(q:∀a m g c,Q t c g σ1->j a m c->Sx t R' (l a m g) σ2):Sx t R' (aP e l i st) σ2:=by
 unfold aP;cases k:e i st with
 |ok r=>rw[k]at b;obtain⟨c,o,p⟩:=b;grind
 |error f=>rw[k]at b;exact Er.bG b n
theorem iH{g}{e:PM d}{i:τ}(b:S t g (e st) σ1):Sx t (λa l c=>g a c/\l=i) (lift e i st) σ1:=by
 unfold lift;cases h:e st with
 |ok m=>rw[h]at b;obtain⟨c,j,k⟩:=b;exact⟨c,j,k,rfl⟩
 |error f=>rw[h]at b;exact b
theorem S.ak{R b:d->cB->Prop}{e}(f:S t R e σ)(g:∀a c,R a c->b a c):S t b e σ:=by
 unfold S at *
 grind
theorem Sx.ak{R b:d->τ->cB->Prop}{e}(g:Sx t R e σ)(h:∀a f c,R a f c->b a f c):Sx t b e σ:=by
 unfold Sx at *
 grind
theorem S.ret{c:d->cB->Prop}{a}(e:Q t b st σ)(f:c a b):S t c (ret a st) σ:=⟨b,e,f⟩
theorem Sx.ret{c:d->τ->cB->Prop}{a e}(f:Q t b st σ)(g:c a e b):Sx t c (dA a e st) σ:=⟨b,f,g⟩
def UY(d:Q t b st σ)(a:Zb):(∀c,aO b.nl a=some c->aO st.K a=some c)/\(aO b.nl a=none->aO st.K a=none\/aO st.K a=some none):=by
 rw[d.nl];unfold aO;grind [Q.pd]
def pk(t:Zb)(st:St):(∃a p,fj t st.y st.nx=.ok (a,p))\/∃f,fj t st.y st.nx=.error f:=by
 cases b:fj t st.y st.nx<;>grind
def qA{a:Mar.aX}(b:fj t st.y st.nx=.ok (a,p)):next (aI t) st=.ok (a,{ st with y:=p,nx:=none }):=by
 simp_all[next]
theorem rY(a:fj t st.y st.nx=.error f):next (aI t) st=.error f:=by
 simp_all[next]
theorem uR{a:Mar.aX}(b:fj t st.y st.nx=.ok (a,p)):hA (aI t) st=.ok (a,{ st with y:=p,nx:=some a }):=by
 simp_all[hA]
theorem ys(a:fj t st.y st.nx=.error f):hA (aI t) st=.error f:=by
 simp_all[hA]
def Bi(c:Q t b st σ){l:Zb}(d:uD kd l=true):(∃f,iE (aI t) l st=.error f/\Bd f σ)\/∃g,iE (aI t) l st=.ok (aJ σ kd l,g)/\Q t b g σ:=by
 rcases pk t st with⟨e,p,a⟩|⟨f,a⟩
 .right;refine⟨_,?_,c.g8 a⟩;unfold iE;rw[uR a,c.is a d]
 .left;exact⟨f,by unfold iE;rw[ys a],c.bd a⟩
def lw(c:Q t b st σ){l:Zb}(i:uD kd l=true):(∃f,eu (aI t) l st=.error f/\Bd f σ)\/(∃g,eu (aI t) l st=.ok (true,g)/\aJ σ kd l=true/\Q t b g (bq t σ))\/∃g,eu (aI t) l st=.ok (false,g)/\aJ σ kd l=false/\Q t b g σ:=by
 rcases pk t st with⟨h,p,a⟩|⟨f,a⟩
 .right;have e:iE (aI t) l st=.ok (aJ σ kd l,{ st with y:=p,nx:=some h }):=by
   unfold iE;rw[uR a,c.is a i]
  cases d:aJ σ kd l with
  |true=>
   left;refine⟨{ st with y:=p,nx:=none },?_,rfl,c.ag a⟩;unfold eu aM;rw[e,d];rfl
  |false=>
   right;refine⟨{ st with y:=p,nx:=some h },?_,rfl,c.g8 a⟩;unfold eu aM;rw[e,d];rfl
 .left;refine⟨f,?_,c.bd a⟩;simp_all[eu,aM,iE,ys]
def qZ{a:Zb}(b:aJ σ kd a=true):aj t kd a σ=bq t σ:=by
 grind [aj,qY,bq,aJ]
theorem ME{a:Zb}(b:aJ σ kd a=false):aj t kd a σ=ew σ:=by
 grind [aj,qY,ew,aJ]
def Q.g5{a:Mar.aX}(c:Q t b st σ)(h:fj t st.y st.nx=.ok (a,p)):Er ⟨3,a.y⟩ (ew σ):=by
 have d:=c.wd;rw[h]at d;obtain⟨⟨i,j,k,f,l⟩,g⟩:=d;have:(ew σ).s=⟨σ.s.x,3,a.y⟩:=by
  show ny σ.s=_;unfold ny ql jT;have:=g.dO;rw[Y2 Zm,Y9 c.e,f]
 exact⟨Zu,Zg,Zq⟩
def gd(d:Q t b st σ){l:Zb}(h:uD kd l=true):S t (λ(j:Mar.aX) c=>c=b/\j.y=σ.s.x.y) (cI (aI t) l st) (aj t kd l σ):=by
 unfold cI aM;rcases pk t st with⟨k,p,a⟩|⟨f,a⟩
 .rw[qA a];have e:=d.is a h;have i:=d.wd;rw[a]at i;simp only;cases g:(k.text==l)with
  |true=>
   rw[g]at e;rw[Y9 rfl,qZ e];exact⟨b,d.ag a,rfl,i.1.2.2.2.1.symm⟩
  |false=>
   rw[g]at e;rw[Y2 Zq,ME e];exact d.g5 a
 .rw[rY a];exact(d.bd a).hK (UK h)
def Q.d2(c:Q t b st σ){e:Nat}(d:e≠0):Er ⟨e,a⟩ (cm e a σ):=by
 have:(cm e a σ).s=⟨σ.s.x,e,a⟩:=by
  unfold cm jT;rw[Y9 c.e]
 exact⟨Zg,Zg,d⟩
def FO(c:σ.s.e=0){e:Nat}(b:e≠0):Er ⟨e,a⟩ (cm e a σ):=by
 have:(cm e a σ).s=⟨σ.s.x,e,a⟩:=by
  simp_all[cm,jT]
 exact⟨Zg,Zg,b⟩
def Bd.f8(a:Bd f σ)(c b:Int):Er f (bV t c b σ).2:=by
 unfold bV;rw[Y2 (by simpa using a.e),Y2 (by rw[a.k];omega),Y2 (by rw[a.is Zm];simp),Y2 (by rw[a.is Zm];simp),Y2 (by rw[a.k];omega)];exact a.hc
def abP(j:Q t b st σ){i:Mar.aX}(m:fj t st.y st.nx=.ok (i,p))(g f d:Int) :
  S t (λ(l:Int×Nat) c=>c=b/\(hB t g f d σ).1=(l.1,(l.2:Int))/\l.1=d/\dV g f d=true) ((if dV g f d then ret (d,i.y)else gU 8 i.y) { st with y:=p,nx:=none }) (hB t g f d σ).2:=by
 have k:=j.wd;rw[m]at k;unfold hB;by_cases h:dV g f d=true
 .have:¬(d<g\/f<d):=by simp[dV]at h;omega
  rw[Y9 h,Y2 this];exact⟨b,j.ag m,rfl,by simp only;rw[k.1.2.2.2.1],rfl,h⟩
 .have:d<g\/f<d:=by simp[dV]at h;omega
  rw[Y2 h,Y9 this,k.1.2.2.2.1];exact j.d2 (e:=8) (a:=i.y) Zm
def yD(h:Q t b st σ)(g e:Int):S t (λ(i:Int×Nat) c=>c=b/\(bV t g e σ).1=(i.1,(i.2:Int))/\dV g e i.1=true) (jG (aI t) (dV g e) st) (bV t g e σ).2:=by
 unfold jG aM;rcases pk t st with⟨d,p,k⟩|⟨f,k⟩
 .rw[qA k];have z:=h.wd;rw[k]at z;obtain⟨⟨R,G,H,B,a0⟩,D⟩:=z;have C:=h.is k (kd:=2) (l:=JF) Zr;have hF:=h.is k (kd:=2) (l:=JC) Zr;unfold bV;rw[Y2 (by simpa using h.e)];simp only;unfold kX;have A:∀q,S t (λ(i:Int×Nat) c=>c=b/\(hB t g e q σ).1=(i.1,(i.2:Int))/\dV g e i.1=true) ((if dV g e q then ret (q,d.y)else gU 8 d.y) { st with y:=p,nx:=none }) (hB t g e q σ).2:=λq=>
   (abP h k g e q).ak λi c E=>⟨E.1,E.2.1,Zu⟩
  by_cases a5:d.F=3
  .rw[Y9 (c:=σ.s.x.F=3) Zm,Y9 (c:=((d.F:Int)==3)=true) Zu,H];exact A d.n
  .rw[Y2 (c:=σ.s.x.F=3) Zm,Y2 (c:=((d.F:Int)==3)=true) Zg];by_cases a4:d.F=1
   .have N:(d.text==JF)=false:=by
     simp only[Yi];intro o;have:=D.ie (by rw[o];rfl);omega
    have M:(d.text==JC)=false:=by
     simp only[Yi];intro o;have:=D.ie (by rw[o];rfl);omega
    rw[C,hF,N,M,Y9 (c:=σ.s.x.F=1) Zm,Y9 (c:=((d.F:Int)==1)=true) Zu];simp only[Ye,if_false]
    unfold mI;simp only;obtain⟨J,K⟩:=UY h d.text;rw[show aO ({ st with y:=p,nx:=none }:St).K d.text=aO st.K d.text from rfl];rw[G];rcases h.h3 d.text with⟨n,F⟩|⟨a3,O,m,n,F,a6,a7,L⟩
    .rw[Y9 (Y8 F),B];rcases K n with n|n
     .rw[n];exact h.d2 (e:=7) (a:=d.y) Zm
     .rw[n];exact h.d2 (e:=7) (a:=d.y) Zm
    .rw[J _ n];have I:dr σ=m:=by
      grind [dr]
     rw[I];have a1:¬ce σ d.text<0:=Zm;have a2:m.a7≠0->(ce σ d.text<0\/m.a7≠0):=Ya;have P:m.a7≠0->S t (λ(i:Int×Nat) c=>c=b/\(if ce σ d.text<0\/m.a7≠0 then ((0,0),cm 7 ↑σ.s.x.y σ)else hB t g e m.n σ).1=(i.1,(i.2:Int))/\dV g e i.1=true) (.error ⟨7,d.y⟩) (if ce σ d.text<0\/m.a7≠0 then ((0,0),cm 7 ↑σ.s.x.y σ)else hB t g e m.n σ).2:=λz=>by
      rw[Y9 (Ya z),B];exact h.d2 (e:=7) (a:=d.y) Zm
     have a8:=L.2;cases O with
     |none=>simp_all
     |some u=>
      cases u with
      |const a r v=>
       grind
      |prog a r j u=>simp_all
      |typedef u=>simp_all
      |enum a r j=>simp_all
      |struct a r j=>simp_all
      |union a r j u=>simp_all
   .rw[Y2 (c:=((d.F:Int)==1)=true) Zg,C,hF];by_cases y:(d.text==JF)=true
    .rw[Y9 y,Y9 y];exact A 1
    .rw[Y2 y,Y2 y];by_cases w:(d.text==JC)=true
     .rw[Y9 w,Y9 w];exact A 0
     .rw[Y2 w,Y2 w,Y2 Zm];exact h.g5 k
 .rw[rY k];exact(h.bd k).f8 g e
theorem Bd.dY(a:Bd f σ):Er f (dT t σ).2:=by
 unfold dT li;rw[Y2 (by simpa using a.e),Y2 (by rw[a.k];omega)];exact a.hc
def Bd.nY(a:Bd f σ)(c:Int):Er f (bi t c σ).2:=by
 have b:=a.dY (t:=t);unfold bi;rw[Y9 b.ec];omega
def Bd.jp(a:Bd f σ)(b:Zc)(all:Bool):Er f (cO t b all σ).2:=(a.dY (t:=t)).bG (by
 grind [cO,nP,fl])
def Fg{a:Mar.aX}(c:Q t b st σ)(h:fj t st.y st.nx=.ok (a,p))(m:a.F=1):(dT t σ).1.text=a.text/\(dT t σ).1.y=a.y/\(dT t σ).2=bq t σ:=by
 have d:=c.wd;rw[h]at d;obtain⟨⟨i,f,j,g,k⟩,l⟩:=d;unfold dT li;rw[Y2 (by simpa using c.e),Y9 Zm];exact⟨f,g,rfl⟩
def Fl{d:Mar.aX}(a:Q t b st σ)(f:fj t st.y st.nx=.ok (d,p))(m:d.F≠1):(dT t σ).2=ew σ:=by
 have c:=a.wd;rw[f]at c;obtain⟨⟨g,h,i,j,k⟩,l⟩:=c;unfold dT li;rw[Y2 (by simpa using a.e),Y2 Zm];rfl
theorem th(nl:Nl)(b a:Zb)(c:aO nl b=none):aO (nl++[(b,none)]) a=if a=b then some none else aO nl a:=by
 unfold aO at *
 grind
def Ut{a:Zb}(b:aO nl a=none):Kp nl (nl++[(a,none)]):=λc d e=>by
 rw[th nl a c b];grind
theorem An{a:Zb}(b:aO nl a=none):a ∉ nl.map (·.1):=by
 intro c;obtain⟨f,e,d⟩:=YE.1 c;unfold aO at b;have:nl.find? (λp=>p.1==a)=none:=by simpa using b
 grind
def ll.fY{i h}(d:ll i nl h){g:Zb}(k:aO nl g=none)(l a:Int):ll i (nl++[(g,none)]) (h++[⟨g,2,l,a⟩]):=by
 refine⟨by simp[d.av],?_,?_⟩
 .intro f p n b c;rcases Yj f nl.length with e|e
  .rw[Ys e]at b;rw[Ys (by rw[d.av];omega)]at c;have:=(d.gY f p n b c).b7 [] (Ut k);simp_all
  .rw[Yw e]at b;rw[Yw (by rw[d.av];omega),d.av]at c;match j:f-nl.length with
   |0=>
    rw[j]at b c;simp at b c;subst b;subst c;exact⟨rfl,rfl⟩
   |m+1=>simp_all
 .rw[List.map_append,YJ];grind [nd,An]
abbrev cB.a2(b:cB)(a:Zb):cB:={ b with nl:=b.nl++[(a,none)] }
def wz(j:Q t b st σ)(o:b.pd=[]):S t (λk c=>c=b.a2 k.1/\(bi t 2 σ).1.text=k.1/\(bi t 2 σ).1.y=k.2/\aO b.nl k.1=none/\(bi t 2 σ).2.K=σ.K++[⟨k.1,2,-1,k.2⟩]) (iK (aI t) st) (bi t 2 σ).2:=by
 unfold iK kR name aP lift;rcases pk t st with⟨g,p,h⟩|⟨f,h⟩
 .rw[qA h];simp only;by_cases r:g.F=1
  .obtain⟨s,u,x⟩:=Fg j h r;rw[Y9 Zu];have d:=j.ag h;have v:aO b.nl g.text=none/\ce (bq t σ) g.text<0\/(∃m,aO b.nl g.text=some m)/\0<=ce (bq t σ) g.text:=by
    rcases d.h3 g.text with i|⟨z,m,A,i,l,-⟩;all_goals simp_all
   have y:st.K=b.nl:=by rw[j.nl,o];simp
   have w:(iz tq).bb g () { st with y:=p,nx:=none } = match aO b.nl g.text with
     |none=>.ok ((),(),{ st with y:=p,nx:=none,K:=b.nl++[(g.text,none)] })
     |some _=>.error ⟨6,g.y⟩:=by
    show lift (iI g) () { st with y:=p,nx:=none } = _;unfold lift iI;grind
   rw[w];unfold bi;rw[x,Y2 (by simpa using d.e),s,u];rcases v with⟨i,l⟩|⟨⟨m,i⟩,l⟩
   .rw[i,Y2 Zm];refine⟨b.a2 g.text,⟨d.e,d.wd,?_,Y8 o,d.nm.fY i ..,d.O,d.cn,d.pg,d.cX,d.cg,d.ou,d.pr,d.eD,d.fD.fY d.nm.av ..⟩,rfl,s,u,i,rfl⟩;simp_all
   .rw[i,Y9 l];exact d.d2 (e:=6) (a:=g.y) Zm
  .rw[Y2 Zg];have q:=Fl j h r;have n:=j.g5 h;have:(bi t 2 σ).2=ew σ:=by
    unfold bi;rw[q,Y9 n.ec,q]
   rw[this];exact n
 .rw[rY h];exact(j.bd h).nY 2
def Bl(h:Q t b st σ)(d:Zc)(a l:Nat):Sx t (λk v c=>c=b/\(cO t d false σ).1.text=k.1/\(cO t d false σ).1.y=k.2/\v=d++[k.1]) (name (aI t) (bA a l) d st) (cO t d false σ).2:=by
 unfold name aP lift;rcases pk t st with⟨g,p,e⟩|⟨f,e⟩
 .rw[qA e];simp only;by_cases o:g.F=1
  .obtain⟨q,r,w⟩:=Fg h e o;rw[Y9 Zu];have n:=h.ag e;have s:(bA a l).bb g d { st with y:=p,nx:=none } = if d.contains g.text=true then .error ⟨6,g.y⟩else .ok ((),d++[g.text],{ st with y:=p,nx:=none }):=by
    show oI (oY g) d { st with y:=p,nx:=none } = _;unfold oI oY;grind
   rw[s];unfold cO;simp only[Ye,if_false]
   rw[w,q,r];by_cases j:d.contains g.text=true
   .rw[Y9 j,Y9 ⟨n.e,j⟩];exact n.d2 (e:=6) (a:=g.y) Zm
   .rw[Y2 j,Y2 (λi=>j i.2)];exact⟨b,Zu,rfl,q,r,rfl⟩
  .rw[Y2 Zg];have u:=Fl h e o;have m:=h.g5 e;have:(cO t d false σ).2=ew σ:=by
    unfold cO;simp only;rw[u,Y2 (λi=>m.ec i.1)];omega
   rw[this];exact m
 .rw[rY e];exact(h.bd e).jp d false
end
section
variable {i:Int}{r:bD}{h:Ty}{j n τ:Type}
variable {t : Zb} {st m : St} {a o p σ1 σ2 : ai} {g b : cB} {f : Mar.ay}
def Q.h4(b:Q t g st a):5<=a.A.length:=by
 obtain⟨d,c⟩:=b.cX;simp_all[nA]
theorem dE.lt{b:List bD}(m:5<=b.length)(a:dE b h i):i<b.length:=by
 have e:∀{r:bD},0<=i->b[i.toNat]? = some r->i<b.length:=λc d=>by
  grind
 cases h with
 |plain n=>have:=a.1;have:=a.2;omega
 |named o l=>obtain⟨c,r,d,-⟩:=a;simp_all
 |opaq g f=>exact e a.1 a.2
 |str g f=>exact e a.1 a.2
 |arr k g f=>obtain⟨c,j,d,-⟩:=a;simp_all
 |opt k=>obtain⟨c,j,d,-⟩:=a;simp_all
 |void=>have:i = -1:=a;omega
def Q.l5(b:Q t g st a)(k:zn (max a.A.length 5) r):Q t { g with rf:=g.rf++if r.F=14 then [(r.bl,r.y)]else [] } st (dj r a):=by
 refine⟨b.e,b.wd,b.nl,b.pd,b.nm.b7 [r],b.O,b.cn,b.pg,?_,?_,b.ou,b.pr,by show nM (a.A++[r])=_;rw[ZZ,b.eD],b.fD⟩
 .obtain⟨f,j⟩:=b.cX;exact⟨f++[r],by show a.A++[r]=_;simp_all⟩
 .intro i h d;rcases Yj i a.A.length with c|c
  .rw[show (dj r a).A=a.A++[r]from rfl,Ys c]at d;exact b.cg i h d
  .rw[show (dj r a).A=a.A++[r]from rfl,Yw c]at d;grind
def Q.row(b:Q t g st a)(c:zn (max a.A.length 5) r)(d:r.F≠14):Q t g st (dj r a):=by
 have:=b.l5 c;simp_all
def qL(a:ai)(r:bD):(dj r a).A[((a.A.length:Nat):Int).toNat]? = some r:=by
 show (a.A++[r])[_]? = _;simp
def Cu(a:Int)(f:Bool):Zb:=if f then [91]++di a++[93]else [60]++di a++[62]
def ux:Ty->Zb
 |.opaq _ _=>[111,112,97,113,117,101,32]
 |.str _ _=>[115,116,114,105,110,103,32]
 |.arr a _ _=>lb a++[32]
 |.opt a=>lb a++[32,42]
 |h=>lb h++[32]
def zy:Ty->Zb
 |.opaq a f=>Cu a f
 |.str a _=>Cu a false
 |.arr _ a f=>Cu a f
 |_=>[]
def xo(h:Ty):Prop:=(∃a,h=.plain a/\a<=4)\/∃c b,h=.named c b
def xo.d3(a:xo h):ux h=lb h++[32]/\zy h=[]:=by
 rcases a with⟨c,rfl,-⟩|⟨d,b,rfl⟩<;>exact⟨rfl,rfl⟩
def xo.gk{b}(a:xo h)(r:dE b h i):0<=i:=by
 rcases a with⟨d,rfl,-⟩|⟨e,c,rfl⟩
 .have:=r.1;omega
 .exact r.1
def Ew(f:Mar.ay)(a:ai):Prop:=Er f a\/Bd f a
def Sw(t:Zb)(c:j->cB->Prop)(r:Except Mar.ay (j×St))(a:ai):Prop:=match r with
 |.ok (d,m)=>∃b,Q t b m a/\c d b
 |.error f=>Ew f a
def Sy(t:Zb)(c:j->τ->cB->Prop)(r:Except Mar.ay (j×τ×St))(a:ai):Prop:=match r with
 |.ok (d,e,m)=>∃b,Q t b m a/\c d e b
 |.error f=>Ew f a
def vJ{c:j->τ->cB->Prop}{r:Except Mar.ay (j×τ×St)}(b:Sx t c r a):Sy t c r a:=by
 unfold Sx at b;split at b
 .exact b
 .exact Y8 b
theorem Cc{e R'}{c:PX τ j}{i:j->PX τ n}{d}(a:Sx t e (c d st) σ1)(l:bp σ1 σ2)(q:∀g k m b,Q t b m σ1->e g k b->Sy t R' (i g k m) σ2):Sy t R' (aP c i d st) σ2:=by
 unfold aP;cases h:c d st with
 |ok r=>rw[h]at a;obtain⟨b,o,p⟩:=a;grind
 |error f=>rw[h]at a;exact Y8 (Er.bG a l)
theorem Cd{e g}{c:PX τ j}{k:j->PX τ n}{d}(a:Sy t e (c d st) σ1)(p:bp σ1 σ2)(o:∀f,Bd f σ1->Er f σ2)(s:∀h l m b,Q t b m σ1->e h l b->Sx t g (k h l m) σ2):Sx t g (aP c k d st) σ2:=by
 unfold aP;cases i:c d st with
 |ok u=>rw[i]at a;obtain⟨b,q,r⟩:=a;grind
 |error f=>
  rw[i]at a;rcases a with a|a
  .exact Er.bG a p
  .exact o f a
theorem Gc{d e}{c:PM j}{i:j->PM n}(a:Sw t d (c st) σ1)(l:bp σ1 σ2)(k:∀f,Bd f σ1->Er f σ2)(q:∀g m b,Q t b m σ1->d g b->S t e (i g m) σ2):S t e (aM c i st) σ2:=by
 unfold aM;cases h:c st with
 |ok r=>rw[h]at a;obtain⟨b,o,p⟩:=a;grind
 |error f=>
  rw[h]at a;rcases a with a|a
  .exact Er.bG a l
  .exact k f a
theorem Gb{d}{c:PM j}{g:τ}(a:Sw t d (c st) σ1):Sy t (λh l b=>d h b/\l=g) (lift c g st) σ1:=by
 unfold lift;cases e:c st with
 |ok m=>rw[e]at a;obtain⟨b,i,k⟩:=a;exact⟨b,i,k,rfl⟩
 |error f=>rw[e]at a;exact a
def Bd.F(b:Bd f a):Er f (cU t a).2:=by
 unfold cU;have c:∀d,¬(a.s.x.F=2/\a.s.x.text=d):=λd g=>by rw[b.k]at g;omega
 rw[Y2 (by simpa using b.e),Y2 (by rw[b.k];omega),Y2 (c _),Y2 (c _),Y2 (c _),Y2 (c _)];exact b.hc
def Lr(o:Q t g st a):Sw t (λh b=>b=g.cF (eV h)/\xo h/\dE (cU t a).2.A h (cU t a).1.1/\(cU t a).1.2=lb h) (pK (aI t) st) (cU t a).2:=by
 unfold pK aM;rcases pk t st with⟨i,K,j⟩|⟨f,j⟩
 .rw[qA j];have E:=o.wd;rw[j]at E;obtain⟨⟨H,B,M,I,N⟩,J⟩:=E;have p:=o.ag j;unfold lh cU;rw[Y2 (by simpa using o.e)];have e:∀y,Mar.et y=true->((a.s.x.F=2/\a.s.x.text=y)↔(i.text==y)=true):=λy O=>by
   rw[H,B];simp only[beq_iff_eq];exact⟨λd=>d.2,λd=>⟨J.ie Zu,d⟩⟩
  simp only;by_cases P:i.F=1
  .rw[Y9 (c:=((i.F:Int)==1)=true) Zu,Y9 (c:=a.s.x.F=1) Zm];have D:=p.l5 (r:=qI a.s.x.text a.s.x.y) ⟨by simp[qI]<;>omega,by simp[qI],by simp[qI]<;>omega,by simp[qI]⟩;rw[Y9 (show (qI a.s.x.text a.s.x.y).F=14 from rfl)]at D;refine⟨_,D,by grind [cB.cF,eV,qI],Ya ⟨_,_,rfl⟩,⟨Zq,_,qL ..,rfl,B,by show ((a.s.x.y:Nat):Int)=_;rw[I]⟩,B⟩
  .rw[Y2 (c:=((i.F:Int)==1)=true) Zg,Y2 (c:=a.s.x.F=1) Zm];by_cases s:(i.text==Jk)=true
   .rw[Y9 s,Y9 ((e _ Zr).2 s)];exact⟨g,p,(oO g).symm,Y8 ⟨0,rfl,Zm⟩,⟨rfl,Zm⟩,rfl⟩
   .rw[Y2 s,Y2 (λd=>s ((e _ Zr).1 d))];by_cases u:(i.text==Jq)=true
    .rw[Y9 u,Y9 ((e _ Zr).2 u)];exact⟨g,p,(oO g).symm,Y8 ⟨2,rfl,Zm⟩,⟨rfl,Zm⟩,rfl⟩
    .rw[Y2 u,Y2 (λd=>u ((e _ Zr).1 d))];by_cases v:(i.text==Js)=true
     .rw[Y9 v,Y9 ((e _ Zr).2 v)];exact⟨g,p,(oO g).symm,Y8 ⟨4,rfl,Zm⟩,⟨rfl,Zm⟩,rfl⟩
     .rw[Y2 v,Y2 (λd=>v ((e _ Zr).1 d))];by_cases w:(i.text==Jb)=true
      .rw[Y9 w,Y9 ((e _ Zr).2 w)];unfold lF;rcases lw p (kd:=2) (l:=Jq) Zr with⟨G,q,k⟩|⟨F,q,k,z⟩|⟨F,q,k,z⟩
       .unfold aM;rw[q,Y2 (by rw[k.is Zm];simp),Y2 (by rw[k.is Zm];simp)];exact Ya k
       .unfold aM;rw[q,Y9 k];exact⟨g,z,(oO g).symm,Y8 ⟨3,rfl,Zm⟩,⟨rfl,Zm⟩,rfl⟩
       .rw[Y2 Zu];have d:∀(C:Bool->PM Ty),aM (eu (aI t) Jq) C { st with y:=K,nx:=none } = C false F:=λC=>by grind [aM]
        rw[d];simp only[Ye,if_false]
        unfold aM;rcases lw z (kd:=2) (l:=Jk) Zr with⟨G,m,n⟩|⟨L,m,n,A⟩|⟨L,m,n,A⟩
        .rw[m,Y2 (by rw[n.is Zm];simp)];exact Ya n
        .rw[m,Y9 n];exact⟨g,A,(oO g).symm,Y8 ⟨1,rfl,Zm⟩,⟨rfl,Zm⟩,rfl⟩
        .rw[m,Y2 Zu];exact⟨g,A,(oO g).symm,Y8 ⟨1,rfl,Zm⟩,⟨rfl,Zm⟩,rfl⟩
      .rw[Y2 w,Y2 (λd=>w ((e _ Zr).1 d))];exact Y8 (o.g5 j)
 .rw[rY j];exact Y8 (o.bd j).F
def Bd.nu(c:Bd f a):Er f (dz t false a).2:=by
 have b:=c.hK (t:=t) (kd:=4) (l:=[60]) Zm;unfold dz;rw[Y2 Zq];rw[Y2 (by rw[xT b.ec];simp)];exact(b.bG (jF _ _ _)).bG (br _ _ _)
theorem Ls(m:Q t g st a):S t (λh b=>b=g/\h=((dz t false a).1,false)) (pt (aI t) st) (dz t false a).2:=by
 unfold pt dz;rw[Y2 Zq];simp only;have n:=gd m (kd:=4) (l:=[60]) Zr;generalize aj t 4 [60] a=σ1 at *
 have p:bp σ1 (if aJ σ1 4 [62]=true then ((4294967295:Int),aj t 4 [62] σ1)else ((bV t 0 4294967295 σ1).1.1,aj t 4 [62] (bV t 0 4294967295 σ1).2)).2:=by
  split
  .exact br _ _ _
  .exact(jF _ _ _).u (br _ _ _)
 refine gP n p ?_;rintro v u j q ⟨rfl,-⟩;rcases lw q (kd:=4) (l:=[62]) Zr with⟨y,d,c⟩|⟨i,d,c,e⟩|⟨i,d,c,e⟩
 .unfold aM;rw[d,Y2 (by rw[c.is Zm];simp)];exact(c.f8 0 4294967295).bG (br _ _ _)
 .unfold aM;rw[d,Y9 c,qZ c];exact⟨j,e,rfl,rfl⟩
 .have k:∀(f:Bool->PM (Int×Bool)),aM (eu (aI t) [62]) f u=f false i:=λf=>by grind [aM]
  rw[k,Y2 Zu];simp only[Ye,if_false]
  refine gP (yD e 0 4294967295) (br _ _ _) ?_;rintro h z w r ⟨rfl,o,-⟩;refine gP (gd r (kd:=4) (l:=[62]) Zr) (fl _) ?_;rintro v A x s ⟨rfl,-⟩;exact S.ret s ⟨rfl,by rw[o]⟩
def Lo(m:Q t g st a)(h:aJ a 4 [91]=true):S t (λi b=>b=g/\i=((dz t true a).1,true)) (lT (aI t) st) (dz t true a).2:=by
 unfold lT dz;rw[Y9 rfl];simp only;rw[qZ h];rcases lw m (kd:=4) (l:=[91]) Zr with⟨s,e,c⟩|⟨j,e,c,f⟩|⟨j,e,c,f⟩
 .rw[c.is Zm]at h;grind
 .have k:∀(d:Bool->PM (Int×Bool)),aM (eu (aI t) [91]) d st=d true j:=λd=>by grind [aM]
  rw[k];simp only[if_true]
  refine gP (yD f 1 1000) (br _ _ _) ?_;rintro i u q o ⟨rfl,n,-⟩;refine gP (gd o (kd:=4) (l:=[93]) Zr) (fl _) ?_;rintro w v r p ⟨rfl,-⟩;exact S.ret p ⟨rfl,by rw[n]⟩
 simp_all
def Ln(f:Q t g st a)(k:aJ a 4 [91]=false):S t (λh b=>b=g/\h=((dz t false a).1,false)) (lT (aI t) st) (dz t false a).2:=by
 unfold lT;rcases lw f (kd:=4) (l:=[91]) Zr with⟨j,c,d⟩|⟨i,c,d,e⟩|⟨i,c,d,e⟩
 .unfold aM;rw[c];exact d.nu
 all_goals simp_all[aM,Ls]
structure wR(d:aW)(r:mj)(a:ai):Prop where
 x:r.x.text=d.t
 y:r.x.y=d.y
 d3:r.d3=ux d.O
 fc:r.fc=zy d.O
 hp:dE a.A d.O r.r
 gk:0<=r.r
def LH(b:Zc)(all d:Bool)(a:ai):bp (cO t b all (bq t a)).2 (jX t b all d a).2:=by
 unfold jX;generalize cO t b all (bq t a)=r;by_cases c:aJ r.2 4 [91]=true/\d=true
 .rw[Y9 c];exact(oJ _ _).u (hj _ _)
 .rw[Y2 c];exact(oJ _ _).u (hj _ _)
def LB(f:Zc)(all:Bool)(a:ai):bp (cU t a).2 (iJ t f all a).2:=by
 unfold iJ;simp only;generalize cU t a=b;by_cases d:aJ b.2 4 [42]=true
 .rw[Y9 d];exact(kb _).u ((pH _ _ _).u (hj _ _))
 .rw[Y2 d];generalize h:cO t f all b.2=r;have c:bp b.2 r.2:=by grind [pH]
  by_cases e:aJ r.2 4 [91]=true
  .rw[Y9 e];exact c.u ((oJ _ _).u (hj _ _))
  .rw[Y2 e];by_cases g:aJ r.2 4 [60]=true
   .rw[Y9 g];exact c.u ((oJ _ _).u (hj _ _))
   simp_all
def Bd.kf(c:Bd f a)(b:Zc)(all:Bool):Er f (iJ t b all a).2:=(c.F (t:=t)).bG (LB b all a)
def RR(d:Zc)(all:Bool)(b:Bd f (cU t a).2):Er f (iJ t d all a).2:=by
 unfold iJ;simp only;generalize cU t a=e at *
 rw[Y2 (by rw[b.is Zm];simp)];have c:=b.jp (t:=t) d all;rw[Y2 (by rw[xT c.ec];simp),Y2 (by rw[xT c.ec];simp)];omega
theorem Bd.jP(b:Bd f a)(c:Zc)(all:Bool):Er f (dv t c all a).2:=by
 unfold dv;rw[Y2 (by rw[b.is Zm,b.is Zm];simp)];exact b.kf c all
abbrev yX(τ:Type):=List (Zb×Nat)->(Zb×Nat)->τ->cB->Prop
abbrev Nq(τ:Type):=(Zb×Nat)->τ->cB->Prop
def vn(t:Zb)(e:dU τ)(h:τ)(d:Zc)(all:Bool)(g:cB)(f:Nq τ):Prop:=
 ∀st a,Q t g st a->Sx t (λc i b=>f c i b/\(cO t d all a).1.text=c.1/\(cO t d all a).1.y=c.2) (name (aI t) e h st) (cO t d all a).2
def abJ{h n c all}{i:yX τ}(s:vn t h n c all g (i []))(v:Q t g st (bq t a))(l:a.s.x.text=Jy)(C:aJ a 2 Ju=false) :
  Sx t (λd y b=>i (eV d.O) (d.t,d.y) y b/\wR d (jX t c all true a).1 (jX t c all true a).2) (qp (aI t) h true n st) (jX t c all true a).2:=by
 unfold qp;rw[Y9 rfl];refine gh (s _ _ v) (LH _ _ _ _) ?_;rintro D E F B m ⟨j,o,p⟩;unfold jX;simp only[and_true];generalize cO t c all (bq t a)=r at *
 have k:bp r.2 (if aJ r.2 4 [91]=true then ((⟨(dz t true r.2).2.A.length,a.s.x.text++[32],[91]++di (dz t true r.2).1++[93],r.1⟩:mj),dj (fu 6 (dz t true r.2).1) (dz t true r.2).2)else ((⟨(dz t false r.2).2.A.length,a.s.x.text++[32],[60]++di (dz t false r.2).1++[62],r.1⟩:mj),dj (fu (if aJ a 2 Ju=true then 8 else 7) (dz t false r.2).1) (dz t false r.2).2)).2:=by
  split
  .exact(oJ _ _).u (hj _ _)
  .exact(oJ _ _).u (hj _ _)
 by_cases e:aJ r.2 4 [91]=true
 .simp only[Y9 e]at k ⊢;refine gh (iH (Lo m e)) (hj _ _) ?_;rintro w z A q f ⟨⟨rfl,rfl⟩,rfl⟩;refine⟨_,f.row ⟨by simp[fu]<;>omega,by simp[fu],by simp[fu]<;>omega,by grind [fu]⟩ (by simp_all[fu]),j,?_⟩;exact⟨o,p,by rw[l];rfl,rfl,⟨Zq,qL _ _⟩,Zq⟩
 .have u:aJ r.2 4 [91]=false:=Zu;simp only[Y2 e]at k ⊢;refine gh (iH (Ln m u)) (hj _ _) ?_;rintro w z A q f ⟨⟨rfl,rfl⟩,rfl⟩;refine⟨_,f.row ⟨by simp[fu]<;>omega,by simp[fu],by simp[fu]<;>omega,by grind [fu]⟩ (by simp_all[fu]),j,?_⟩;rw[Y2 Zu];exact⟨o,p,by rw[l];rfl,rfl,⟨Zq,qL _ _⟩,Zq⟩
def abK{e h c all}{f:yX τ}(j:vn t e h c all g (f []))(l:Q t g st (bq t a))(m:a.s.x.text=Ju)(k:aJ a 2 Ju=true) :
  Sx t (λd p b=>f (eV d.O) (d.t,d.y) p b/\wR d (jX t c all false a).1 (jX t c all false a).2) (pb (aI t) e true h st) (jX t c all false a).2:=by
 unfold pb;rw[Y9 rfl];refine gh (j _ _ l) (LH _ _ _ _) ?_;rintro w z B u n ⟨i,q,s⟩;unfold jX;simp only[Ye,and_false,if_false]
 generalize cO t c all (bq t a)=r at *
 refine gh (iH (Ls n)) (hj _ _) ?_;rintro y A C v o ⟨⟨rfl,rfl⟩,rfl⟩;refine⟨_,o.row ⟨by simp[fu]<;>omega,by simp[fu],by simp[fu]<;>omega,by grind [fu]⟩ (by simp_all[fu]),i,?_⟩;rw[Y9 k];exact⟨q,s,by rw[m];rfl,rfl,⟨Zq,qL _ _⟩,Zq⟩
def dE.ar(b:dE a.A h i)(d:dl a o):dE o.A h i:=by
 obtain⟨e,c,-⟩:=d.A;rw[c];exact b.b7 e
def abH{J a1 e all}{K:yX τ}(M:∀a0,vn t J a1 e all (g.cF a0) (K a0))(a4:Q t g st a) :
  Sy t (λx a9 b=>K (eV x.O) (x.t,x.y) a9 b/\wR x (iJ t e all a).1 (iJ t e all a).2) (pb (aI t) J false a1 st) (iJ t e all a).2:=by
 unfold pb;rw[Y2 Zq];have i:=Lr a4;unfold aP lift;cases P:pK (aI t) st with
 |error f=>
  rw[P]at i;rcases i with i|i
  .exact Y8 (i.bG (LB e all a))
  .exact Y8 (RR e all i)
 |ok I=>
  rw[P]at i;obtain⟨b5,R,rfl,B,H,A⟩:=i;obtain⟨h,b8⟩:=I;simp only at R B H A ⊢;unfold sR;unfold iJ;simp only;generalize cU t a=d at *
  unfold aP lift;rcases lw R (kd:=4) (l:=[42]) Zr with⟨L,m,n⟩|⟨b0,m,n,D⟩|⟨b0,m,n,D⟩
  .rw[m,Y2 (c:=aJ d.2 4 [42]=true) (by rw[n.is Zm];simp)];have G:=n.jp (t:=t) e all;rw[Y2 (c:=aJ (cO t e all d.2).2 4 [91]=true) (by rw[xT G.ec];simp),Y2 (c:=aJ (cO t e all d.2).2 4 [60]=true) (by rw[xT G.ec];simp)];exact Y8 G
  .rw[m,Y9 n];simp only;unfold rJ;simp only[if_true]
   refine vJ (gh (M _ _ _ D) (hj _ _) ?_);rintro a8 b1 b3 a2 C ⟨p,v,w⟩;have y:=((fR (t:=t) d.2).u (jE (t:=t) e all _)).ar;have j:=H.ar y;generalize cO t e all (bq t d.2)=r at *
   have O:=j.lt C.h4;refine Sx.ret (C.row ⟨by simp[dP]<;>omega,by simp[dP],by simp[dP]<;>omega,by simp[dP]⟩ (by simp[dP])) ⟨p,v,w,?_,rfl,⟨Zq,_,qL _ _,j.b7 _⟩,Zq⟩;grind [ux]
  .rw[m,Y2 (c:=aJ d.2 4 [42]=true) Zu];simp only;unfold rJ;simp only[Ye,if_false]
   generalize a6:cO t e all d.2=r;have a7:bp r.2 (if aJ r.2 4 [91]=true then ((⟨(dz t true r.2).2.A.length,d.1.2++[32],[91]++di (dz t true r.2).1++[93],r.1⟩:mj),dj (dP 9 (dz t true r.2).1 d.1.1) (dz t true r.2).2)
     else if aJ r.2 4 [60]=true then ((⟨(dz t false r.2).2.A.length,d.1.2++[32],[60]++di (dz t false r.2).1++[62],r.1⟩:mj),dj (dP 10 (dz t false r.2).1 d.1.1) (dz t false r.2).2)
     else ((⟨d.1.1,d.1.2++[32],[],r.1⟩:mj),r.2)).2:=by
    split
    .exact(oJ _ _).u (hj _ _)
    .split
     .exact(oJ _ _).u (hj _ _)
     .exact fl _
   have N:=M _ _ _ D;have y:=(jE (t:=t) e all d.2).ar;have j:=H.ar y;rw[a6]at N y j;refine Cc N a7 ?_;rintro a8 b1 b3 a2 C ⟨p,v,w⟩;unfold rK aP lift;rcases Bi C (kd:=4) (l:=[91]) Zr with⟨L,E,k⟩|⟨b6,E,k⟩
   .rw[E,Y2 (c:=aJ r.2 4 [91]=true) (by rw[k.is Zm];simp),Y2 (c:=aJ r.2 4 [60]=true) (by rw[k.is Zm];simp)];exact Ya k
   .rw[E];simp only;unfold sS;by_cases q:aJ r.2 4 [91]=true
    .rw[Y9 q,Y9 q];unfold oq;refine vJ (gh (iH (Lo k q)) (hj _ _) ?_);rintro I b2 b4 a3 u ⟨⟨rfl,rfl⟩,rfl⟩;have s:=j.ar (qO (t:=t) true r.2).ar;have O:=s.lt u.h4;exact Sx.ret (u.row ⟨by simp[dP]<;>omega,by simp[dP],by simp[dP]<;>omega,by simp[dP]⟩ (by simp[dP])) ⟨p,v,w,by simp only[ux];rw[A],rfl,⟨Zq,_,qL _ _,s.b7 _⟩,Zq⟩
    .rw[Y2 q,Y2 q];have a5:aJ r.2 4 [91]=false:=Zu;unfold aP lift;rcases Bi k (kd:=4) (l:=[60]) Zr with⟨L,F,o⟩|⟨b7,F,o⟩
     .rw[F,Y2 (c:=aJ r.2 4 [60]=true) (by rw[o.is Zm];simp)];exact Ya o
     .rw[F];simp only;unfold sT;by_cases z:aJ r.2 4 [60]=true
      .rw[Y9 z,Y9 z];unfold oq;refine vJ (gh (iH (Ln o a5)) (hj _ _) ?_);rintro I b2 b4 a3 u ⟨⟨rfl,rfl⟩,rfl⟩;have s:=j.ar (qO (t:=t) false r.2).ar;have O:=s.lt u.h4;exact Sx.ret (u.row ⟨by simp[dP]<;>omega,by simp[dP],by simp[dP]<;>omega,by simp[dP]⟩ (by simp[dP])) ⟨p,v,w,by simp only[ux];rw[A],rfl,⟨Zq,_,qL _ _,s.b7 _⟩,Zq⟩
      .rw[Y2 z,Y2 z];exact⟨_,o,p,v,w,by rw[B.d3.1,A],B.d3.2.symm,j,B.gk j⟩
def Eu{n p e all}{G:yX τ}(s:∀o,vn t n p e all (g.cF o) (G o))(r:Q t g st a) :
  Sy t (λi v b=>G (eV i.O) (i.t,i.y) v b/\wR i (dv t e all a).1 (dv t e all a).2) (eY (aI t) n p st) (dv t e all a).2:=by
 unfold eY dv aP lift;rcases lw r (kd:=2) (l:=Jy) Zr with⟨q,f,c⟩|⟨w,f,c,j⟩|⟨w,f,c,j⟩
 .rw[f,Y2 (by rw[c.is Zm,c.is Zm];simp)];exact Y8 (c.kf e all)
 .rw[f,Y9 (Y8 c)];have m:a.s.x.text=Jy:=by grind [aJ,kq]
  have u:aJ a 2 Ju=false:=by unfold aJ kq;simp_all
  simp only;rw[c];exact vJ (abJ (by grind [oO]) j m u)
 .rw[f];simp only;unfold qp;simp only[Ye,if_false]
  unfold aP lift;rcases lw j (kd:=2) (l:=Ju) Zr with⟨q,h,d⟩|⟨y,h,d,k⟩|⟨y,h,d,k⟩
  .rw[h,Y2 (by rw[d.is Zm,d.is Zm];simp)];exact Y8 (d.kf e all)
  .rw[h,Y9 (Ya d)];have m:a.s.x.text=Ju:=by grind [aJ,kq]
   simp only;rw[c];exact vJ (abK (by grind [oO]) k m d)
  .rw[h,Y2 Zu];exact abH s k
def GC(d:Zc)(e f:Nat):vn t (bA e f) d d false g (λi h b=>b=g/\h=d++[i.1]):=λst a j=>(Bl j d e f).ak λi h b c=>⟨⟨c.1,c.2.2.2⟩,c.2.1,c.2.2.1⟩
end
section
variable {a i g:Nat}{d:aC}{j:PM aC}{nl:Nl}{r:hI}{q:Type}
variable {t : Zb} {st p : St} {f u w x y : ai} {E h : cB} {m : Mar.ay}
theorem Iz(nl:Nl)(a b:Zb)(d:aC)(c:(aO nl a).isSome):aO (ep nl a d) b=if b=a then some (some d)else aO nl b:=by
 unfold aO ep at *
 induction nl with
 |nil=>grind
 |cons g nl i=>
  by_cases j:g.1=a
  .have e:(g.1==a)=true:=Zu;by_cases h:b=a
   .simp_all
   .rw[Y2 h];have f:(g.1==b)=false:=Zg;simp only[List.map_cons,List.find?,e,if_true,f]
    clear i c;induction nl<;>grind
  grind
def Il{a:Zb}(d:aC)(e:aO nl a=some none):Kp nl (ep nl a d):=λb c f=>by
 rw[Iz nl a b d Zu];grind
theorem ll.a5{j l}(c:ll j nl l){a:Zb}(n:aO nl a=some none)(s:nl[i]? = some (a,none))(w:tQ j (ep nl a d) (a,some d) r):ll j (ep nl a d) (l.set i r):=by
 have o:=Il d n;have t:i<nl.length:=by
  grind
 refine⟨by simp[ep,c.av],?_,by rw[Lf];exact c.nd⟩;intro e g p b f;unfold ep at b;rw[List.getElem?_map]at b;rw[YP]at f;by_cases m:i=e
 .simp_all
 .rw[Y2 m]at f;cases k:nl[e]? with
  |none=>simp_all
  |some h=>
   rw[k]at b;have v:h.1≠a:=by
    intro q;have u:e<nl.length:=by
     grind
    have x:=List.pairwise_iff_getElem.1 c.nd;grind
   have:(h.1==a)=false:=Zu;simp only[Option.map_some,this,Ye,if_false,Yu]at b
   subst b;simpa using (c.gY e h p k f).b7 [] o
abbrev cB.a5(E:cB)(a:Zb)(d:aC):cB:={ E with nl:=ep E.nl a d }
def CT(d:Q t E st f){a:Zb}(c:aO E.nl a=some none):∃(i:Nat) (r:hI),ce f a=(i:Int)/\E.nl[i]? = some (a,none)/\f.K[i]? = some r/\r.s=a:=by
 rcases d.h3 a with⟨b,-⟩|⟨i,k,r,b,e,g,h,j⟩
 .simp_all
 .rw[b]at c;cases c
  exact⟨i,r,e,g,h,j.1⟩
def Q.i8(b:Q t E st f){s:Zb}(a:Nat)(v:Int)(e:aO E.nl s=some none)(d:E.pd=[])(l:E.dc=1):Q t { E.a5 s (.const s a v)with dc:=0 } { st with K:=ep st.K s (.const s a v) } (eK s v f):=by
 obtain⟨i,r,h,c,j,k⟩:=CT b e;have m:st.K=E.nl:=by rw[b.nl,d];simp
 have g:eK s v f = { iO f i 0 v with aN:=f.aN+1 }:=by
  unfold eK;rw[Y9 Zm,h];rfl
 rw[g];refine⟨b.e,b.wd,?_,Y8 d,?_,b.O,?_,b.pg,b.cX,b.cg,b.ou,b.pr,b.eD,b.fD.a5 c ..⟩
 .simp_all
 .refine b.nm.a5 e c ⟨?_,rfl,rfl⟩;simp_all
 .have:=b.cn;simp_all
def At(c:Zb)(a:Nat)(b:List hI):Prop:=∃r∈b,r.s=c/\r.y=a
theorem Ng{f b}(h:At f a b)(i:Nat)(g n:Int):At f a (b.set i { b.getD i iC with a7:=g,n:=n }):=by
 obtain⟨r,j,c,d⟩:=h;obtain⟨e,l,rfl⟩:=List.mem_iff_getElem.1 j;by_cases k:i=e
 .subst k;refine⟨{ b[i]with a7:=g,n:=n },?_,c,d⟩;grind [List.mem_iff_getElem]
 .refine⟨b[e],?_,c,d⟩;grind [List.mem_iff_getElem]
def At.oV{d}(e:At d a f.K)(c:Q t E st f)(b:f.K[i]? = some r)(m:r.s=d):r.y=a:=by
 obtain⟨p,g,j,k⟩:=e;obtain⟨n,l,rfl⟩:=List.mem_iff_getElem.1 g;have h:i<f.K.length:=by
  grind
 rw[Yd h]at b;cases b
 have o:(f.K.map (·.s)).Nodup:=by rw[c.nm.kw];exact c.nm.nd
 grind [List.pairwise_iff_getElem]
def Q.k1(a:Q t E st f){b:Zb}{n}(g:aO E.nl b=some none)(e:E.pd=[])(h:At b (bQ d).2 f.K)(p:ei d=true)(s:kN f.A (ep E.nl b d) d n):Q t (E.a5 b d) { st with K:=ep st.K b d } (eH b n f):=by
 obtain⟨i,r,o,c,k,l⟩:=CT a g;have q:st.K=E.nl:=by rw[a.nl,e];simp
 have h:=h.oV a k l;have j:eH b n f=iO f i 1 n:=by
  simp_all[eH]
 rw[j];refine⟨a.e,a.wd,?_,Y8 e,?_,a.O,a.cn,a.pg,a.cX,a.cg,a.ou,a.pr,a.eD,a.fD.a5 c ..⟩
 .simp_all
 .refine a.nm.a5 g c ⟨Zu,?_⟩;have m:{ f.K.getD i iC with a7:=1,n:=n } = { r with a7:=1,n:=n }:=Zg;rw[m];cases d<;>simp_all[ei]
theorem Q.a4(a:Q t E st f)(o:Zb):Q t { E with o:=E.o++o } st (fP o f):=⟨a.e,a.wd,a.nl,a.pd,a.nm,a.O,a.cn,a.pg,a.cX,a.cg,by show f.w++o=_;rw[a.ou],a.pr,a.eD,a.fD⟩
def Bd.d6(a:Bd m f)(d j:Int):Er m (aV d j f):=by
 have c:=a.hc;unfold aV;rw[Y9 ⟨a.e,a.k⟩];unfold mO;rw[Y2 (λb=>c.ec b.1)];omega
def Q.d6{e:Mar.aX}(c:Q t E st f)(i:fj t st.y st.nx=.ok (e,g))(b j:Int):aV b j f=if j<=b then cm 5 e.y f else f:=by
 have a:=c.wd;rw[i]at a;have:=a.2.dO;unfold aV;rw[Y2 (λh=>by have:=h.2;rw[a.1.1]at this;omega)];unfold mO;by_cases d:j<=b
 .rw[Y9 d,Y9 ⟨c.e,d⟩,a.1.2.2.2.1]
 grind
theorem uX{a:Zb}(b:aO nl a=none):ep (nl++[(a,none)]) a d=nl++[(a,some d)]:=by
 unfold ep;rw[List.map_append];congr 1
 .have c:=An b;conv=>rhs;rw[<-List.map_id nl]
  grind [List.map_congr_left]
 simp
def kU(j:PM aC):PM aC:=aM j λd=>aM (Ld d) λ_=>ret d
def sY(a:j st=.ok (d,p)):kU j st=.ok (d,{ p with K:=ep p.K (bQ d).1 d }):=by
 unfold kU aM;rw[a];rfl
theorem kV(a:j st=.error m):kU j st=.error m:=by
 simp_all[kU,aM]
def WM(c:¬40<=st.aN)(a:Nat)(b:Unit->PM q):aM (lA a) b st=b () { st with aN:=st.aN+1 }:=by
 simp_all[aM,lA,Y2]
def AE(c:¬24<=st.aA)(a:Nat)(b:Unit->PM q):aM (lB a) b st=b () { st with aA:=st.aA+1 }:=by
 simp_all[aM,lB,Y2]
def AD(c:24<=st.aA)(a:Nat)(b:Unit->PM q):aM (lB a) b st=.error ⟨5,a⟩:=by
 simp_all[aM,lB]
structure tP(E h:cB)(d:aC)(o:Zb)(ps:List ct):Prop where
 pd:h.pd=[]
 dc:h.dc=0
 fz:h.fz=E.fz
 o:h.o=E.o++o
 ps:h.ps=E.ps++ps
 rf:h.rf=E.rf++(gR d).map λg=>(g.1,(g.2:Int))
 nl:∃cs:Nl,h.nl=E.nl++((bQ d).1,some d)::cs/\∀c∈cs,∃a b v,c.2=some (.const a b v)
def CE(a:Zb)(v:Int):Zb:=[99,111,110,115,116,32]++a++JD++di v++[59,10]
def abE{j:Mar.aX}(k:Q t E st f)(r:E.pd=[])(D:E.dc=0)(u:fj t st.y st.nx=.ok (j,g))(F:aJ f 2 Je=true) :
  S t (λd h=>∃c a v,d=.const c a v/\tP E h d (CE c v) []) (kU (ko (aI t) j.y) { st with y:=g,nx:=none }) (ih t f):=by
 have b:=k.ag u;have o:=k.d6 u f.aN 40;have B:=k.cn;rw[D]at B;by_cases z:40<=st.aN
 .rw[Y9 Zm]at o;have i:ko (aI t) j.y { st with y:=g,nx:=none } = .error ⟨5,j.y⟩:=by
   simp_all[ko,aM,lA]
  rw[kV i];have:=acE (t:=t) f;rw[o]at this;exact(k.d2 (e:=5) (a:=j.y) Zm).bG this
 .rw[Y2 Zm]at o;have H:Q t { E with dc:=1 } { st with y:=g,nx:=none,aN:=st.aN+1 } (aj t 2 Je (aV f.aN 40 f)):=by
   rw[o,qZ F];exact⟨b.e,b.wd,b.nl,b.pd,b.nm,b.O,by have:=b.cn;simp_all,b.pg,b.cX,b.cg,b.ou,b.pr,b.eD,b.fD⟩
  unfold ih;simp only;generalize aj t 2 Je (aV f.aN 40 f)=q at *
  have i:S t (λd h=>∃c a v,d=.const c a v/\h = { E with dc:=1,nl:=E.nl++[(c,none)] }/\aO E.nl c=none/\(bi t 2 q).1.text=c/\(bV t (-2147483648) 4294967295 (aj t 4 [61] (bi t 2 q).2)).1.1=v) (ko (aI t) j.y { st with y:=g,nx:=none }) (aj t 4 [59] (bV t (-2147483648) 4294967295 (aj t 4 [61] (bi t 2 q).2)).2):=by
   unfold ko;rw[WM (st:={ st with y:=g,nx:=none }) z];refine gP (wz H r) ((br _ _ _).u ((jF _ _ _).u (br _ _ _))) ?_;rintro w a3 x p ⟨rfl,M,-,N,-⟩;refine gP (gd p (kd:=4) (l:=[61]) Zr) ((jF _ _ _).u (br _ _ _)) ?_;rintro L a4 R I ⟨rfl,-⟩;refine gP (yD I (-2147483648) 4294967295) (br _ _ _) ?_;rintro v a5 a0 J ⟨rfl,O,-⟩;refine gP (gd J (kd:=4) (l:=[59]) Zr) (fl _) ?_;rintro L a6 a1 K ⟨rfl,-⟩;exact S.ret K ⟨w.1,w.2,v.1,rfl,rfl,N,M,by rw[O]⟩
  generalize aj t 4 [59] (bV t (-2147483648) 4294967295 (aj t 4 [61] (bi t 2 q).2)).2=P at *
  cases n:ko (aI t) j.y { st with y:=g,nx:=none }with
  |error m=>
   rw[n]at i;have i:Er m P:=i;rw[kV n,Y9 i.ec];exact i
  |ok a2=>
   rw[n]at i;obtain⟨x,p,c,a,v,C,rfl,s,y,A⟩:=i;rw[sY n,Y2 (by simpa using p.e),y,A];rw[C];have G:=(p.i8 a v (by rw[th _ _ _ s,Y9 rfl]) r rfl).a4 (CE c v);exact⟨_,G,c,a,v,rfl,⟨r,rfl,rfl,rfl,Zq,by simp[gR],[],by show ep (E.nl++[(c,none)]) c _=_;rw[uX s];rfl,Zq⟩⟩
def PO(y:E.pd=[]):vn t (iz tq) () [] true E (λu _ h=>h = { E with pd:=[(u.1,none)] }/\aO E.nl u.1=none):=λst f k=>by
 unfold name aP lift;rcases pk t st with⟨c,g,e⟩|⟨m,e⟩
 .rw[qA e];simp only;by_cases s:c.F=1
  .obtain⟨v,w,d⟩:=Fg k e s;rw[Y9 Zu];have b:=k.ag e;have x:aO E.nl c.text=none/\ce (bq t f) c.text<0\/(∃n,aO E.nl c.text=some n)/\0<=ce (bq t f) c.text:=by
    rcases b.h3 c.text with j|⟨i,n,r,j,o,-⟩;all_goals simp_all
   have B:st.K=E.nl:=by rw[k.nl,y];simp
   have z:(iz tq).bb c () { st with y:=g,nx:=none } = match aO E.nl c.text with
     |none=>.ok ((),(),{ st with y:=g,nx:=none,K:=E.nl++[(c.text,none)] })
     |some _=>.error ⟨6,c.y⟩:=by
    show lift (iI c) () { st with y:=g,nx:=none } = _;unfold lift iI;grind
   rw[z];unfold cO;simp only[if_true]
   rw[d,v,w];rcases x with⟨j,o⟩|⟨⟨n,j⟩,o⟩
   .rw[j];have q:decide (0<=ce (bq t f) c.text)=false:=Zu;rw[Y2 (λl=>by simp_all)];refine⟨{ E with pd:=[(c.text,none)] },⟨by rw[d];exact b.e,by rw[d];exact b.wd,rfl,Ya ⟨_,rfl,j⟩,by rw[d];exact b.nm,by rw[d];exact b.O,by rw[d];exact b.cn,by rw[d];exact b.pg,by rw[d];exact b.cX,by rw[d];exact b.cg,by rw[d];exact b.ou,by rw[d];exact b.pr,by rw[d];exact b.eD,by rw[d];exact b.fD⟩,⟨rfl,j⟩,v,w⟩
   .rw[j];have q:decide (0<=ce (bq t f) c.text)=true:=Zu;rw[Y9 ⟨b.e,q⟩];exact b.d2 (e:=6) (a:=c.y) Zm
  .rw[Y2 Zg];have A:=Fl k e s;have p:=k.g5 e;have:(cO t [] true f).2=ew f:=by
    unfold cO;simp only;rw[A,Y2 (λl=>p.ec l.1)];omega
   rw[this];exact p
 .rw[rY e];exact(k.bd e).jp [] true
end
section
variable {nl:Nl}{o:Option aC}{b:Nat}
variable {t : Zb} {st f : St} {σ g h i j : ai} {E c : cB} {d : Mar.ay}
def UT(nl:Nl)(b a:Zb)(o:Option aC)(c:aO nl b=none):aO (nl++[(b,o)]) a=if a=b then some o else aO nl a:=by
 unfold aO at *
 grind
def Uu{a:Zb}(b:aO nl a=none):Kp nl (nl++[(a,o)]):=λc d e=>by
 rw[UT nl a c o b];grind
def ll.pI{d i}(c:ll d nl i){a:Zb}{j}(k:aO nl a=none)(m:tQ d (nl++[(a,o)]) (a,o) j):ll d (nl++[(a,o)]) (i++[j]):=by
 refine⟨by simp[c.av],?_,?_⟩
 .intro h b l f g;rcases Yj h nl.length with e|e
  .rw[Ys e]at f;rw[Ys (by rw[c.av];omega)]at g;have:=(c.gY h b l f g).b7 [] (Uu (o:=o) k);simp_all
  grind [av]
 .rw[List.map_append,YJ];grind [nd,An]
def iF(σ:ai):ai:={ aV σ.aA 24 σ with aA:=(aV σ.aA 24 σ).aA+1 }
def AT{h:Mar.aX}(c:Q t E st σ)(f:fj t st.y st.nx=.ok (h,b)){kw:Zb}(g:aJ σ 2 kw=true)(i:¬24<=st.aA):Q t E { st with y:=b,nx:=none,aA:=st.aA+1 } (aj t 2 kw (iF σ)):=by
 have a:=c.ag f;have d:=c.d6 f σ.aA 24;have j:=c.O;rw[Y2 Zm]at d;unfold iF;rw[d,qZ (σ:={ σ with aA:=σ.aA+1 }) g];exact⟨a.e,a.wd,a.nl,a.pd,a.nm,by show σ.aA+1=((st.aA+1:Nat):Int);omega,a.cn,a.pg,a.cX,a.cg,a.ou,a.pr,a.eD,a.fD⟩
def AU{d:Mar.aX}(c:Q t E st σ)(g:fj t st.y st.nx=.ok (d,b))(h:24<=st.aA):Er ⟨5,d.y⟩ (iF σ):=by
 have f:=c.d6 g σ.aA 24;have i:=c.O;rw[Y9 Zm]at f;have:=c.d2 (e:=5) (a:=d.y) Zm;unfold iF;rw[f];exact⟨this.e,this.a,this.z⟩
def EU(a:aW):Zb:=[116,121,112,101,100,101,102,32]++ux a.O++a.t++zy a.O++[59,10]
def abU{m:Mar.aX}(D:Q t E st σ)(x:E.pd=[])(J:E.dc=0)(H:fj t st.y st.nx=.ok (m,b))(K:aJ σ 2 Ja=true) :
  S t (λh c=>∃C,h=.typedef C/\tP E c h (EU C) []) (kU (kB (aI t) m.y) { st with y:=b,nx:=none }) (iQ t (iF σ)):=by
 by_cases p:24<=st.aA
 .have w:kB (aI t) m.y { st with y:=b,nx:=none } = .error ⟨5,m.y⟩:=AD (st:={ st with y:=b,nx:=none }) p _ _;rw[kV w];exact(AU D H p).bG (acM _)
 .have L:=AT D H K p;have w:kB (aI t) m.y { st with y:=b,nx:=none } = aM (qq (aI t)) (λh=>aM (cI (aI t) [59]) λ_=>ret (.typedef h)) { st with y:=b,nx:=none,aA:=st.aA+1 }:=AE (st:={ st with y:=b,nx:=none }) p _ _;unfold iQ;simp only;generalize aj t 2 Ja (iF σ)=N at *
  have g:=Eu (G:=λA I _ c=>c = { E.cF A with pd:=[(I.1,none)] }/\aO E.nl I.1=none) (λA=>PO (E:=E.cF A) x) L;generalize dv t [] true N=f at *
  cases u:eY (aI t) (iz tq) () { st with y:=b,nx:=none,aA:=st.aA+1 }with
  |error d=>
   rw[u]at g;have n:kB (aI t) m.y { st with y:=b,nx:=none } = .error d:=by
    simp_all[aM,qq,kR]
   rw[kV n];rcases g with g|g
   .rw[Y9 g.ec];exact g
   .rw[Y2 (by simpa using g.e)];have s:Bd d { f.2 with K:=f.2.K++[⟨f.1.x.text,1,f.1.r,f.1.x.y⟩] }:=⟨g.e,g.k,g.n,g.a,g.z⟩;exact(s.hK (t:=t) (kd:=4) (l:=[59]) Zm).bG (qR _ _)
  |ok y=>
   obtain⟨h,a0,M⟩:=y;rw[u]at g;obtain⟨O,q,⟨rfl,F⟩,ok⟩:=g;rw[Y2 (by simpa using q.e)];have j:=gd q (kd:=4) (l:=[59]) Zr;cases v:cI (aI t) [59] M with
   |error d=>
    rw[v]at j;have j:Er d (aj t 4 [59] f.2):=j;have n:kB (aI t) m.y { st with y:=b,nx:=none } = .error d:=by
     simp_all[aM,qq,kR]
    rw[kV n];have s:Er d (aj t 4 [59] { f.2 with K:=f.2.K++[⟨f.1.x.text,1,f.1.r,f.1.x.y⟩] }):=⟨j.e,j.a,j.z⟩;exact s.bG (qR _ _)
   |ok y=>
    obtain⟨a1,B⟩:=y;rw[v]at j;obtain⟨P,i,rfl,-⟩:=j;have n:kB (aI t) m.y { st with y:=b,nx:=none } = .ok (.typedef h,B):=by
     rw[w];unfold aM qq kR;rw[u];simp only;rw[v];rfl
    rw[sY n];have R:B.K=E.nl++[(h.t,none)]:=i.nl;simp only at F;refine⟨{ E.cF (eV h.O)with nl:=E.nl++[(h.t,some (.typedef h))],o:=E.o++EU h },?_,h,rfl,⟨x,J,rfl,rfl,by simp[cB.cF],rfl,[],rfl,Zq⟩⟩;refine⟨i.e,i.wd,?_,Y8 x,?_,i.O,i.cn,i.pg,i.cX,i.cg,?_,i.pr,i.eD,i.fD.fY i.nm.av _ _⟩
    .show ep B.K h.t _=_++E.pd;grind [uX]
    .show ll f.2.A _ (f.2.K++[_]);refine q.nm.pI F ⟨ok.x,rfl,?_,ok.hp,ok.gk⟩;show ((f.1.x.y:Nat):Int)=_;rw[ok.y];rfl
    .show f.2.w++_=_;have:=q.ou;simp only at this;rw[this,ok.d3,ok.fc,ok.x];rfl
def Bk(m:Q t E st σ)(g:List (Int×Int))(f:List Int)(p:g.map (·.1)=f)(d b:Int) :
  Sx t (λh k c=>c=E/\h=(bV t d b σ).1.1/\k.map (·.1)=f++[h]/\k.length=g.length+1/\dV d b h=true) (hx (aI t) (dV d b) g st) (if(bV t d b σ).2.s.e=0/\f.contains (bV t d b σ).1.1=true then cm 6 (bV t d b σ).1.2 (bV t d b σ).2 else (bV t d b σ).2):=by
 unfold hx;have q:=yD m d b;generalize bV t d b σ=v at *
 refine gh (iH q) (nQ _ _ _ _) ?_;rintro l u w r i ⟨⟨rfl,n,o⟩,rfl⟩;unfold aP oI nC;dsimp only;rw[p,n];simp only;by_cases e:f.contains l.1=true
 .rw[Y9 e,Y9 ⟨i.e,e⟩];exact i.d2 (e:=6) (a:=l.2) Zm
 .rw[Y2 e,Y2 (λj=>e j.2)];exact⟨_,i,rfl,rfl,Zg,Zq,o⟩
def mU(a:Zb×Nat×Int):Zb:=a.1++JD++di a.2.2
def kr(t:Zb)(a:Nat)(σ:ai):fI×ai:=bi t 2 (aV (aV a 12 σ).aN 40 (aV a 12 σ))
def iA(t:Zb)(a:Nat)(σ:ai):(Int×Int)×ai:=bV t (-2147483648) 2147483647 (aj t 4 [61] (kr t a σ).2)
def gw(t:Zb)(a:List Int)(σ:ai):ai:=if(iA t a.length σ).2.s.e=0/\a.contains (iA t a.length σ).1.1=true then cm 6 (iA t a.length σ).1.2 (iA t a.length σ).2 else (iA t a.length σ).2
def hu(t:Zb)(a:List Int)(σ:ai):ai:=if(gw t a σ).s.e≠0 then gw t a σ else eK (kr t a.length σ).1.text (iA t a.length σ).1.1 (gw t a σ)
def LF(a:List Int)(σ:ai):bp (aV a.length 12 σ) (gw t a σ):=by
 unfold gw;refine bp.u ?_ (nQ _ _ _ _);unfold iA kr;exact(LC _ _ _).u ((tF _ _).u ((br _ _ _).u (jF _ _ _)))
def wC(a:List Int)(σ:ai):bp (gw t a σ) (hu t a σ):=by
 grind [hu,fl,LE]
def abI(k:Q t E st σ)(x:E.pd=[])(J:E.dc=0)(l:List (Int×Int))(e:List Int)(K:l.map (·.1)=e)(m:Zb×Nat)(b1:aO E.nl m.1=some none)(a9:At m.1 m.2 σ.K) :
  Sx t (λf L c=>e.length<12/\(kr t e.length σ).1.text=f.1/\(iA t e.length σ).1.1=f.2.2/\L.map (·.1)=e++[f.2.2]/\(gw t e σ).s.e=0/\c.pd=[]/\c.dc=0/\c.fz=E.fz/\c.o=E.o/\c.ps=E.ps/\c.rf=E.rf/\c.nl=E.nl++[(f.1,some (.const f.1 f.2.1 f.2.2))]/\aO c.nl m.1=some none/\At m.1 m.2 (hu t e σ).K/\dV (-2147483648) 2147483647 f.2.2=true) (jz (aI t) e.length l st) (hu t e σ):=by
 unfold jz;rcases pk t st with⟨h,b,p⟩|⟨d,p⟩
 .have r:=k.d6 p e.length 12;have n:∀{j:Type} (g:Mar.aX->PX (List (Int×Int)) j),aP (lift (hA (aI t))) g l st=g h l { st with y:=b,nx:=some h }:=λg=>by
   grind [aP,lift,uR]
  rw[n];have i:=k.g8 p;by_cases D:12<=e.length
  .rw[Y9 Zm]at r;unfold aP lift ft;rw[Y9 D];have:=LF (t:=t) e σ;rw[r]at this;exact((k.d2 (e:=5) (a:=h.y) Zm).bG this).bG (wC _ _)
  .rw[Y2 Zm]at r;have C:∀{j:Type} (g:Unit->PX (List (Int×Int)) j),aP (lift (ft e.length 12 h.y)) g l { st with y:=b,nx:=some h } = g () l { st with y:=b,nx:=some h }:=λg=>by
    simp_all[aP,lift,ft,Y2]
   rw[C];have I:=k.cn;rw[J]at I;have w:=k.d6 p σ.aN 40;by_cases a8:40<=st.aN
   .rw[Y9 Zm]at w;have u:∀{j:Type} (g:Unit->PX (List (Int×Int)) j),aP (lift (lA h.y)) g l { st with y:=b,nx:=some h } = .error ⟨5,h.y⟩:=λg=>by
     simp_all[aP,lift,lA]
    rw[u];have F:=k.d2 (e:=5) (a:=h.y) Zm;refine Er.bG (σ:=gw t e σ) ?_ (wC _ _);unfold gw;refine Er.bG ?_ (nQ _ _ _ _);unfold iA kr;rw[r,w];exact F.bG ((tF _ _).u ((br _ _ _).u (jF _ _ _)))
   .rw[Y2 Zm]at w;have u:∀{j:Type} (g:Unit->PX (List (Int×Int)) j),aP (lift (lA h.y)) g l { st with y:=b,nx:=some h } = g () l { st with y:=b,nx:=some h,aN:=st.aN+1 }:=λg=>by
     simp_all[aP,lift,lA,Y2]
    rw[u];have M:Q t { E with dc:=1 } { st with y:=b,nx:=some h,aN:=st.aN+1 } σ:=⟨i.e,i.wd,i.nl,i.pd,i.nm,i.O,Zu,i.pg,i.cX,i.cg,i.ou,i.pr,i.eD,i.fD⟩;have G:kr t e.length σ=bi t 2 σ:=by unfold kr;simp_all
    have P:bp (kr t e.length σ).2 (hu t e σ):=by
     refine bp.u ?_ (wC _ _);unfold gw;refine bp.u ?_ (nQ _ _ _ _);unfold iA;exact(br _ _ _).u (jF _ _ _)
    have R:bp (aj t 4 [61] (kr t e.length σ).2) (hu t e σ):=by
     refine bp.u ?_ (wC _ _);unfold gw;refine bp.u ?_ (nQ _ _ _ _);grind [iA,jF]
    have y:=wz M x;rw[<-G]at y;refine gh (iH y) P ?_;rintro f b4 b7 a5 N ⟨⟨rfl,A,c0,a1,a2⟩,rfl⟩;refine gh (iH (gd N (kd:=4) (l:=[61]) Zr)) R ?_;rintro b9 b5 b8 a6 O ⟨⟨rfl,-⟩,rfl⟩;refine gh (Bk O _ e K (-2147483648) 2147483647) (wC e σ) ?_;rintro v b6 a0 a7 q ⟨rfl,B,a3,c1,a4⟩;have q:Q t _ a0 (gw t e σ):=q;have z:hu t e σ=eK (kr t e.length σ).1.text (iA t e.length σ).1.1 (gw t e σ):=by
     unfold hu;rw[Y2 (by simpa using q.e)]
    have b0:=q.i8 f.2 v (s:=f.1) (by simp_all[th]) x rfl;have b3:(gw t e σ).K=σ.K++[⟨f.1,2,-1,f.2⟩]:=by
     rw[<-a2];have:Sm (kr t e.length σ).2 (gw t e σ):=by
      unfold gw;refine Sm.u ?_ (na _ _ _ _);unfold iA;exact(aF _ _ _).u (io _ _ _)
     exact this.K
    have b2:m.1≠f.1:=λn=>by simp_all
    refine⟨{ (cB.a2 { E with dc:=1 } f.1).a5 f.1 (.const f.1 f.2 v)with dc:=0 },?_,Zm,A,B.symm,a3,q.e,x,rfl,rfl,rfl,rfl,rfl,?_,?_,?_,a4⟩
    .rw[z,A];rw[show (iA t e.length σ).1.1=v from B.symm];omega
    .exact uX a1
    .simp_all[Iz,th]
    .rw[z];unfold eK;simp only;split
     .grind [At,iO,Ng]
     grind [At]
 .have H:=k.bd p;have n:∀{j:Type} (g:Mar.aX->PX (List (Int×Int)) j),aP (lift (hA (aI t))) g l st=.error d:=λg=>by
   simp_all[aP,lift,ys]
  rw[n];exact((H.d6 e.length 12).bG (LF e σ)).bG (wC e σ)
end
section
variable {t : Zb} {st g : St} {a h i j k : ai} {b c : cB} {f : Mar.ay}
def pc(t:Zb)(a:Bool×List Int×Zb×ai):ai:=if a.1=true then a.2.2.2 else aj t 4 [59] (aj t 4 Jl a.2.2.2)
def EE(a:Bool×List Int×Zb×ai):bp a.2.2.2 (pc t a):=by
 unfold pc;split
 .exact fl _
 .exact(br _ _ _).u (br _ _ _)
def vV(h:a.s.e=0)(f:Nat)(b:List Int)(d:Zb):eh t (f+1) b d a=if(gw t b a).s.e≠0 then (true,b,d,gw t b a)
  else if aJ (hu t b a) 4 [44]=true then eh t f (b++[(iA t b.length a).1.1]) (d++(kr t b.length a).1.text++JD++di (iA t b.length a).1.1++[44,32]) (bq t (hu t b a))
  else (false,b++[(iA t b.length a).1.1],d++(kr t b.length a).1.text++JD++di (iA t b.length a).1.1,hu t b a):=by
 by_cases c:(gw t b a).s.e≠0
 .rw[Y9 c];conv=>lhs;unfold eh
  rw[Y2 Zm];simp only;exact Y9 c
 .rw[Y2 c];have g:hu t b a=eK (kr t b.length a).1.text (iA t b.length a).1.1 (gw t b a):=by
   simp_all[hu]
  rw[g];conv=>lhs;unfold eh
  rw[Y2 Zm];simp only;exact Y2 c
def xB(a:Zb×Nat×Int):Zb×Option aC:=(a.1,some (.const a.1 a.2.1 a.2.2))
def abG(h:Zb×Nat):∀(e:Nat) (d:List (Zb×Nat×Int)) (l:List (Int×Int)) (j:Zb) (st:St) (a:ai) (b:cB),Q t b st a->b.pd=[]->b.dc=0->d.length+e=13->d.length<=12->l.map (·.1)=d.map (·.2.2)->aO b.nl h.1=some none->At h.1 h.2 a.K->(∀m∈d.map (·.2.2),dV (-2147483648) 2147483647 m=true)->
  S t (λA c=>∃k g,A=.enum h.1 h.2 (d++k++[g])/\(eh t e (d.map (·.2.2)) j a).1=false/\(eh t e (d.map (·.2.2)) j a).2.1=(d++k++[g]).map (·.2.2)/\(eh t e (d.map (·.2.2)) j a).2.2.1=j++k.flatMap (λg=>mU g++[44,32])++mU g/\c.pd=[]/\c.dc=0/\c.fz=b.fz/\c.o=b.o/\c.ps=b.ps/\c.rf=b.rf/\c.nl=b.nl++(k++[g]).map xB/\aO c.nl h.1=some none/\At h.1 h.2 (pc t (eh t e (d.map (·.2.2)) j a)).K/\(∀m∈(d++k++[g]).map (·.2.2),dV (-2147483648) 2147483647 m=true)) (iB (aI t) h e d l st) (pc t (eh t e (d.map (·.2.2)) j a)):=by
 intro e;induction e with
 |zero=>omega
 |succ e b5=>
  intro d l j st a b B b4 a8 d6 d7 b0 b3 a7 d5;have i:=abI B b4 a8 l (d.map (·.2.2)) b0 h b3 a7;have b1:(d.map (·.2.2)).length=d.length:=Zq;rw[vV B.e];unfold iB;rw[b1]at i ⊢;cases E:jz (aI t) d.length l st with
  |error f=>
   rw[E]at i;have i:Er f (hu t (d.map (·.2.2)) a):=i;have C:(gw t (d.map (·.2.2)) a).s.e≠0:=by
    intro C;have D:=i.ec;unfold hu at D;rw[Y2 Zm]at D;grind [eK,iO]
   have a6:hu t (d.map (·.2.2)) a=gw t (d.map (·.2.2)) a:=by
    unfold hu;grind
   rw[a6]at i;rw[Y9 C];exact i.bG (EE (true,_,_,_))
  |ok b8=>
   obtain⟨g,b6,F⟩:=b8;rw[E]at i;obtain⟨G,b9,c6,H,I,c8,c9,x,y,J,K,L,M,z,v,w,c7⟩:=i;rw[Y2 Zm,H,I];dsimp only;generalize hu t (d.map (·.2.2)) a=c2 at *
   have b2:(d++[g]).map (·.2.2)=d.map (·.2.2)++[g.2.2]:=Zq;have a9:∀m∈(d++[g]).map (·.2.2),dV (-2147483648) 2147483647 m=true:=by
    grind
   rcases lw b9 (kd:=4) (l:=[44]) Zr with⟨d4,q,n⟩|⟨p,q,n,r⟩|⟨p,q,n,r⟩
   .unfold aM;rw[q,Y2 (by rw[n.is Zm];simp)];unfold pc;rw[Y2 Zq];exact(n.hK (t:=t) (kd:=4) (l:=Jl) Zm).bG (br _ _ _)
   .have u:∀(e:Bool->PM aC),aM (eu (aI t) [44]) e F=e true p:=λe=>by grind [aM]
    rw[u,Y9 n];simp only[if_true]
    rw[<-b2];have:=b5 (d++[g]) b6 (j++g.1++JD++di g.2.2++[44,32]) p (bq t c2) G r x y Zg Zg Zg v w a9;refine this.ak ?_;rintro A c3 ⟨k,b7,N,R,a0,a1,a2,a3,d0,d1,d2,d3,a4,a5,O,P⟩;refine⟨g::k,b7,by rw[N];simp,R,by rw[a0];simp,?_,a2,a3,Zg,Zg,Zg,Zg,by rw[a4,z];simp[xB],a5,O,by simpa using P⟩;rw[a1];simp[mU]
   .have u:∀(e:Bool->PM aC),aM (eu (aI t) [44]) e F=e false p:=λe=>by grind [aM]
    rw[u,Y2 Zg];simp only[Ye,if_false]
    unfold ot pc;rw[Y2 Zq];refine gP (gd r (kd:=4) (l:=Jl) Zr) (br _ _ _) ?_;rintro m d8 c4 c0 ⟨rfl,-⟩;refine gP (gd c0 (kd:=4) (l:=[59]) Zr) (fl _) ?_;rintro m d9 c5 c1 ⟨rfl,-⟩;exact S.ret c1 ⟨[],g,Zq,trivial,Zq,by simp[mU],x,y,J,K,L,M,by rw[z];rfl,v,w,Zg⟩
def Hn(c:Zb)(b:List (Zb×Nat×Int))(a:Zb×Nat×Int):Zb:=Jm++c++Jd++b.flatMap (λa=>mU a++[44,32])++mU a++[32,125,59,10]
theorem Cj(d:List hI)(a:Zb×Nat)(c b:Int):At a.1 a.2 (d++[⟨a.1,c,b,a.2⟩]):=⟨⟨a.1,c,b,a.2⟩,Zq,rfl,rfl⟩
def abF{n:Mar.aX}{j:Nat}(D:Q t b st a)(E:b.pd=[])(a2:b.dc=0)(v:fj t st.y st.nx=.ok (n,j))(a3:aJ a 2 Jo=true) :
  S t (λd c=>∃H K F g,d=.enum H K (F++[g])/\tP b c d (Hn H F g) []) (kU (ik (aI t) n.y) { st with y:=j,nx:=none }) (jx t (iF a)):=by
 by_cases u:24<=st.aA
 .have k:ik (aI t) n.y { st with y:=j,nx:=none } = .error ⟨5,n.y⟩:=AD (st:={ st with y:=j,nx:=none }) u _ _;rw[kV k];exact(AU D v u).bG (acF _)
 .have a6:=AT D v a3 u;have a4:ik (aI t) n.y { st with y:=j,nx:=none } = aM (iK (aI t)) (λe=>aM (cI (aI t) Jv) λ_=>iB (aI t) e 13 [] []) { st with y:=j,nx:=none,aA:=st.aA+1 }:=AE (st:={ st with y:=j,nx:=none }) u _ _;unfold jx;simp only;generalize aj t 2 Jo (iF a)=h at *
  have k:S t (λd c=>∃e:Zb×Nat,(bi t 2 h).1.text=e.1/\∃i g,d=.enum e.1 e.2 (i++[g])/\(eh t 13 [] (Jm++(bi t 2 h).1.text++Jd) (aj t 4 Jv (bi t 2 h).2)).1=false/\(eh t 13 [] (Jm++(bi t 2 h).1.text++Jd) (aj t 4 Jv (bi t 2 h).2)).2.1=(i++[g]).map (·.2.2)/\(eh t 13 [] (Jm++(bi t 2 h).1.text++Jd) (aj t 4 Jv (bi t 2 h).2)).2.2.1=Jm++e.1++Jd++i.flatMap (λg=>mU g++[44,32])++mU g/\c.pd=[]/\c.dc=0/\c.fz=b.fz/\c.o=b.o/\c.ps=b.ps/\c.rf=b.rf/\c.nl=b.nl++[(e.1,none)]++(i++[g]).map xB/\aO b.nl e.1=none/\aO c.nl e.1=some none/\At e.1 e.2 (pc t (eh t 13 [] (Jm++(bi t 2 h).1.text++Jd) (aj t 4 Jv (bi t 2 h).2))).K/\(∀I∈(i++[g]).map (·.2.2),dV (-2147483648) 2147483647 I=true))
    (ik (aI t) n.y { st with y:=j,nx:=none }) (pc t (eh t 13 [] (Jm++(bi t 2 h).1.text++Jd) (aj t 4 Jv (bi t 2 h).2))):=by
   rw[a4];refine gP (wz a6 E) ((br _ _ _).u ((EF _ _ _ _).u (EE _))) ?_;rintro e b7 w m ⟨rfl,J,b9,c0,c1⟩;refine gP (gd m (kd:=4) (l:=Jv) Zr) ((EF _ _ _ _).u (EE _)) ?_;rintro I a9 b1 y ⟨rfl,-⟩;have:=abG e 13 [] [] (Jm++(bi t 2 h).1.text++Jd) a9 (aj t 4 Jv (bi t 2 h).2) _ y E a2 Zq Zq rfl (by simp_all[th]) (by
    show At e.1 e.2 (bi t 2 h).2.K;grind [Cj]) Zq
   refine this.ak ?_;grind
  generalize eh t 13 [] (Jm++(bi t 2 h).1.text++Jd) (aj t 4 Jv (bi t 2 h).2)=s at *
  cases p:ik (aI t) n.y { st with y:=j,nx:=none }with
  |error f=>
   rw[p]at k;have k:Er f (pc t s):=k;rw[kV p];unfold pc at k;split at k
   .rename_i x;rw[Y9 x];exact k
   .rename_i x;rw[Y2 x];exact k.bG ((hj _ _).u ((wF _ _ _).u (qR _ _)))
  |ok a5=>
   obtain⟨d,b8⟩:=a5;rw[p]at k;obtain⟨w,m,e,J,i,g,rfl,M,N,O,z,P,R,a0,b3,b4,A,a1,B,q,L⟩:=k;rw[sY p,Y2 Zu,J,N,O];unfold pc at m q;rw[M]at m q;simp only[Ye,if_false]at m q
   generalize aj t 4 [59] (aj t 4 Jl s.2.2.2)=b0 at *
   have y:=m.row (r:=ut (i++[g])) ⟨by simp<;>omega,Zq,by simp<;>omega,λ_=>L⟩ Zq;have a7:=y.k1 (d:=.enum e.1 e.2 (i++[g])) (n:=b0.A.length) B z q rfl ⟨Zq,qL _ _⟩;have a8:=a7.a4 (Jm++e.1++Jd++i.flatMap (λg=>mU g++[44,32])++mU g++[32,125,59,10]);refine⟨_,a8,e.1,e.2,i,g,rfl,⟨z,P,R,by show w.o++_=_;rw[a0];rfl,Zu,by simp_all[gR],(i++[g]).map xB,?_,?_⟩⟩
   .show ep w.nl e.1 _=_;rw[A]at B ⊢;unfold ep;rw[List.map_append];have C:=uX (d:=.enum e.1 e.2 (i++[g])) a1;unfold ep at C;rw[C];rw[YN];congr 1;show _::_=_::_;congr 1;conv=>rhs;rw[<-List.map_id ((i++[g]).map xB)]
    apply List.map_congr_left;intro j v;have b5:j.1≠e.1:=λs=>by
     have G:=m.nm.nd;rw[A,List.map_append,YJ]at G;exact G.2.2 e.1 Zq e.1 (YE.2 ⟨j,v,s⟩) rfl
    simp_all
   .intro b2 p;obtain⟨b6,-,rfl⟩:=YE.1 p;exact⟨_,_,_,rfl⟩
end
section
variable {a h n c:Nat}{k i:Type}
variable {t : Zb} {st p : St} {b m q u o : ai} {f g : cB} {j : Mar.ay}
def iv(e:List bD)(b:List aW)(d:List Int):Prop:=d.length=b.length/\∀(a:Nat) (c:Int) (h:aW),d[a]? = some c->b[a]? = some h->dE e h.O c
def iv.ar{e:List aW}{f:List Int}(d:iv b.A e f)(j:dl b m):iv m.A e f:=⟨d.1,λi c h a g=>(d.2 i c h a g).ar j⟩
def iv.fY{g:List bD}{f:List aW}{k:List Int}(a:iv g f k){i:aW}{l:Int}(m:dE g i.O l):iv g (f++[i]) (k++[l]):=by
 refine⟨by simp[a.1],?_⟩;intro j c h e d;rcases Yj j f.length with b|b
 .rw[Ys b]at d;rw[Ys (by rw[a.1];omega)]at e;exact a.2 j c h e d
 .rw[Yw b]at d;rw[Yw (by rw[a.1];omega),a.1]at e;grind
theorem iv.lt{a:List bD}{d:List aW}{e:List Int}(g:5<=a.length)(b:iv a d e):∀f∈e,f<a.length:=by
 intro f j;obtain⟨c,h,rfl⟩:=List.mem_iff_getElem.1 j;have i:c<d.length:=by rw[<-b.1];omega
 exact(b.2 c _ _ (Yd h) (Yd i)).lt g
def pp(a:aW):Zb:=ux a.O++a.t++zy a.O++[59,32]
abbrev hh(t:Zb)(n:Nat)(a:Zc)(b:ai):mj×ai:=dv t a false (aV n 12 b)
theorem yI(g:b.s.e=0)(f:Nat)(a:List Int)(c:Zc)(d:Zb):eM t (f+1) a c d b =
  if aJ (aj t 4 [59] (hh t a.length c b).2) 4 Jl=true then (a++[(hh t a.length c b).1.r],d++(hh t a.length c b).1.d3++(hh t a.length c b).1.x.text++(hh t a.length c b).1.fc++[59,32],aj t 4 [59] (hh t a.length c b).2)
  else eM t f (a++[(hh t a.length c b).1.r]) (c++[(hh t a.length c b).1.x.text]) (d++(hh t a.length c b).1.d3++(hh t a.length c b).1.x.text++(hh t a.length c b).1.fc++[59,32]) (aj t 4 [59] (hh t a.length c b).2):=by
 simp_all[eM]
def LL(g:b.s.e=0)(d:Nat)(c:List Int)(a:Zc)(f:Zb):bp (aj t 4 [59] (hh t c.length a b).2) (eM t (d+1) c a f b).2.2:=by
 grind [yI,fl,EH]
def LK(g:b.s.e=0)(c:Nat)(a:List Int)(d:Zc)(f:Zb):bp (aV a.length 12 b) (eM t (c+1) a d f b).2.2:=((Bs _ _ _).u (br _ _ _)).u (LL g c a d f)
theorem Bd.pU(a:Bd j b)(c:Nat)(g:List Int)(d:Zc)(f:Zb):Er j (eM t (c+1) g d f b).2.2:=(a.d6 ..).bG (LK a.e c g d f)
def abL(o:Q t f st b)(a:fe)(l:List aW)(d:Zc):Sx t (λ_ c g=>∃h,g=f.cF (eV h.O)/\c=(l++[h],d++[h.t])/\wR h (dv t d false b).1 (dv t d false b).2) (mc (aI t) a (l,d) st) (aj t 4 [59] (dv t d false b).2):=by
 have e:=Eu (G:=λm n i g=>g=f.cF m/\i=d++[n.1]) (λm=>GC d a.q a.bx) o;unfold mc;simp only;generalize dv t d false b=s at *
 cases k:eY (aI t) (bA a.q a.bx) d st with
 |error j=>
  rw[k]at e;rcases e with e|e
  .exact e.bG (br _ _ _)
  .exact e.hK Zm
 |ok p=>
  obtain⟨h,i,x⟩:=p;rw[k]at e;obtain⟨u,q,⟨rfl,rfl⟩,ok⟩:=e;refine gh (iH (gd q (kd:=4) (l:=[59]) Zr)) (fl _) ?_;rintro z w y v r ⟨⟨rfl,-⟩,rfl⟩;exact⟨_,r,h,rfl,rfl,ok⟩
def Be(d:¬h<=n)(b:Unit->PX i k)(c:i)(st:St):aP (lift (ft n h a)) b c st=b () c st:=by
 unfold aP lift ft;rw[Y2 d]
def Bc(d:h<=n)(b:Unit->PX i k)(c:i)(st:St):aP (lift (ft n h a)) b c st=.error ⟨5,a⟩:=by
 simp_all[aP,lift,ft]
def DV{a:Mar.aX}(e:fj t st.y st.nx=.ok (a,c))(b:Mar.aX->PX i k)(d:i):aP (lift (hA (aI t))) b d st=b a d { st with y:=c,nx:=some a }:=by
 grind [aP,lift,uR]
def DU(c:fj t st.y st.nx=.error j)(a:Mar.aX->PX i k)(b:i):aP (lift (hA (aI t))) a b st=.error j:=by
 simp_all[aP,lift,ys]
def sI{c:Zb}{a:Bool}{e:St}(f:eu (aI t) c st=.ok (a,e))(b:Bool->PX i k)(d:i):aP (lift (eu (aI t) c)) b d st=b a d e:=by
 unfold aP lift;rw[f]
def zt{a:Zb}(b:eu (aI t) a st=.error j)(c:Bool->PX i k)(d:i):aP (lift (eu (aI t) a)) c d st=.error j:=by
 unfold aP lift;rw[b]
def Cr(a:Za)(pt:Nat)(run:PX i Unit)(b n:Nat):jQ a pt run (b+1) (n+1)=aP (lift (eu a Jl)) λc=>if c then dA ()else qm a pt run b (n+1):=by
 rfl
def Cq(b:Za)(pt:Nat)(run:PX i Unit)(a:Nat):jQ b pt run (a+1) 0=qm b pt run a 0:=by
 rfl
def abT(a:fe):∀(k:Nat) (i:List aW) (d:Zc) (h:List Int) (m:Zb) (st:St) (b:ai) (f:cB),Q t f st b->i.length+k=13->i.length<=12->iv b.A i h->
  Sx t (λ_ c g=>∃u,g=f.cF (u.flatMap λn=>eV n.O)/\c.1=i++u/\iv (eM t (k+1) h d m b).2.2.A (i++u) (eM t (k+1) h d m b).1/\(eM t (k+1) h d m b).2.1=m++u.flatMap pp/\(eM t (k+1) h d m b).2.2.K=b.K) (qm (aI t) 12 (mc (aI t) a) k i.length (i,d) st) (aj t 4 Jl (eM t (k+1) h d m b).2.2):=by
 intro k;induction k with
 |zero=>omega
 |succ k K=>
  intro i d h m st b f q a5 a6 z;have A:=(LK (t:=t) q.e (k+1) h d m).u (br (t:=t) 4 Jl _);unfold qm;rcases pk t st with⟨O,c,p⟩|⟨j,p⟩
  .rw[DV p];have y:=q.d6 p h.length 12;by_cases B:12<=i.length
   .rw[Bc B];rw[Y9 (by rw[z.1];omega)]at y;rw[y]at A;exact(q.d2 (e:=5) (a:=O.y) Zm).bG A
   .rw[Be B];rw[Y2 (by rw[z.1];omega)]at y;have C:hh t h.length d b=dv t d false b:=Zg;have M:=(LL (t:=t) q.e (k+1) h d m).u (br (t:=t) 4 Jl _);have p:=abL (q.g8 p) a i d;rw[<-C]at p;refine gh p M ?_;rintro N a7 a9 G L ⟨n,a4,rfl,ok⟩;have E:dl b (aj t 4 [59] (hh t h.length d b).2):=by rw[C];exact(ow _ _ _).u (aF _ _ _).ar
    rw[yI q.e];have D:iv (aj t 4 [59] (hh t h.length d b).2).A (i++[n]) (h++[(hh t h.length d b).1.r]):=(z.ar E).fY ok.hp;have I:m++(hh t h.length d b).1.d3++(hh t h.length d b).1.x.text++(hh t h.length d b).1.fc++[59,32]=m++pp n:=by rw[ok.d3,ok.fc,ok.x];simp[pp]
    have J:(hh t h.length d b).1.x.text=n.t:=ok.x;have H:=E.K;rw[I,J];generalize aj t 4 [59] (hh t h.length d b).2=o at *
    rw[Cr];rcases lw L (kd:=4) (l:=Jl) Zr with⟨a3,v,s⟩|⟨F,v,s,w⟩|⟨F,v,s,w⟩
    .rw[zt v,Y2 (by rw[s.is Zm];simp)];exact(s.pU k _ _ _).bG (br _ _ _)
    .rw[sI v,Y9 s,qZ s];exact⟨_,w,[n],Zu,rfl,D,Zq,H⟩
    .rw[sI v,Y2 Zu];simp only[Ye,if_false]
     have:=K (i++[n]) (d++[n.t]) (h++[(hh t h.length d b).1.r]) (m++pp n) F o G w Zg Zg D;rw[show (i++[n]).length=i.length+1 by simp]at this;refine this.ak ?_;rintro N a8 P ⟨u,R,S,a0,a1,a2⟩;refine⟨n::u,by grind [vt],Zu,?_,Zu,Zu⟩;simp_all
  .rw[DU p];exact((q.bd p).d6 _ _).bG A
def LR(b:Zb)(a:List aW):Zb:=Jp++b++Jd++a.flatMap pp++JB
def abS{p:Mar.aX}(G:Q t f st b)(A:f.pd=[])(a2:f.dc=0)(z:fj t st.y st.nx=.ok (p,c))(a4:aJ b 2 Jf=true) :
  S t (λd g=>∃J a i,d=.struct J a i/\tP f g d (LR J i) []) (kU (lf (aI t) p.y) { st with y:=c,nx:=none }) (jl t (iF b)):=by
 by_cases v:24<=st.aA
 .have q:lf (aI t) p.y { st with y:=c,nx:=none } = .error ⟨5,p.y⟩:=AD (st:={ st with y:=c,nx:=none }) v _ _;rw[kV q];exact(AU G z v).bG (acL _)
 .have a7:=AT G z a4 v;have a5:lf (aI t) p.y { st with y:=c,nx:=none } = aM (iK (aI t)) (λn=>aM (kZ (fp (aI t) 12 (mc (aI t) ⟨0,0,0,0,0,0⟩)) ([],[])) λc=>aM (cI (aI t) [59]) λ_=>ret (.struct n.1 n.2 c.1)) { st with y:=c,nx:=none,aA:=st.aA+1 }:=AE (st:={ st with y:=c,nx:=none }) v _ _;unfold jl;simp only;generalize aj t 2 Jf (iF b)=m at *
  generalize a3:eM t 14 [] [] (Jp++(bi t 2 m).1.text++Jd) (aj t 4 Jv (bi t 2 m).2)=e;have K:bp (aj t 4 Jv (bi t 2 m).2) e.2.2:=by grind [EH]
  have q:S t (λd g=>∃n:Zb×Nat,(bi t 2 m).1.text=n.1/\∃i,d=.struct n.1 n.2 i/\iv e.2.2.A i e.1/\e.2.1=Jp++n.1++Jd++i.flatMap pp/\g=(f.a2 n.1).cF (i.flatMap λd=>eV d.O)/\aO f.nl n.1=none/\At n.1 n.2 e.2.2.K)
    (lf (aI t) p.y { st with y:=c,nx:=none }) (aj t 4 [59] (aj t 4 Jl e.2.2)):=by
   rw[a5];refine gP (wz a7 A) ((br _ _ _).u (K.u ((br _ _ _).u (br _ _ _)))) ?_;rintro n C M x ⟨rfl,D,c0,b1,c1⟩;have w:Sx t (λ_ (c:List aW×Zc) g=>g=(f.a2 n.1).cF (c.1.flatMap λd=>eV d.O)/\iv e.2.2.A c.1 e.1/\e.2.1=Jp++n.1++Jd++c.1.flatMap pp/\e.2.2.K=(bi t 2 m).2.K) (fp (aI t) 12 (mc (aI t) ⟨0,0,0,0,0,0⟩) ([],[]) C) (aj t 4 Jl e.2.2):=by
    unfold fp;refine gh (iH (gd x (kd:=4) (l:=Jv) Zr)) (K.u (br _ _ _)) ?_;rintro L b0 a9 N s ⟨⟨rfl,-⟩,rfl⟩;rw[Cq];have:=abT ⟨0,0,0,0,0,0⟩ 13 [] [] [] (Jp++(bi t 2 m).1.text++Jd) a9 (aj t 4 Jv (bi t 2 m).2) _ s Zq Zq ⟨rfl,λH c h z=>by simp⟩;rw[a3]at this;refine this.ak ?_;rintro b0 b6 O ⟨b5,rfl,E,k,u,F⟩;simp only[YT]at E k;exact⟨by rw[E],Zu,Zu,F⟩
   have a1:S t (λ(c:List aW×Zc) g=>g=(f.a2 n.1).cF (c.1.flatMap λd=>eV d.O)/\iv e.2.2.A c.1 e.1/\e.2.1=Jp++n.1++Jd++c.1.flatMap pp/\e.2.2.K=(bi t 2 m).2.K) (kZ (fp (aI t) 12 (mc (aI t) ⟨0,0,0,0,0,0⟩)) ([],[]) C) (aj t 4 Jl e.2.2):=by
    unfold kZ;cases o:fp (aI t) 12 (mc (aI t) ⟨0,0,0,0,0,0⟩) ([],[]) C with
    |error j=>rw[o]at w;exact w
    |ok I=>rw[o]at w;exact w
   refine gP a1 (br _ _ _) ?_;rintro a6 b7 N s ⟨rfl,k,u,F⟩;refine gP (gd s (kd:=4) (l:=[59]) Zr) (fl _) ?_;rintro L b8 O B ⟨rfl,-⟩;exact S.ret B ⟨n,D,a6.1,rfl,k,u,rfl,b1,by grind [Cj]⟩
  cases o:lf (aI t) p.y { st with y:=c,nx:=none }with
  |error j=>
   rw[o]at q;rw[kV o];exact Er.bG q ((hj _ _).u ((wF _ _ _).u (qR _ _)))
  |ok I=>
   obtain⟨d,b9⟩:=I;rw[o]at q;obtain⟨M,x,n,D,i,rfl,k,u,rfl,P,y⟩:=q;rw[sY o,D,u];have k:iv (aj t 4 [59] (aj t 4 Jl e.2.2)).A i e.1:=k;have y:At n.1 n.2 (aj t 4 [59] (aj t 4 Jl e.2.2)).K:=y;generalize aj t 4 [59] (aj t 4 Jl e.2.2)=b2 at *
   have b3:=k.lt x.h4;have s:=x.row (r:=⟨12,0,0,[],e.1,0,[],0⟩) ⟨Zg,λL b4=>Zg,Zg,Zq⟩ Zq;have B:=s.k1 (d:=.struct n.1 n.2 i) (n:=b2.A.length) (by show aO (f.nl++_) _=_;simp_all[th]) A y rfl ⟨Zq,e.1,qL _ _,k.1,λH c h R a0=>(k.2 H c h R a0).b7 _⟩;have a8:=B.a4 (Jp++n.1++Jd++i.flatMap pp++JB);exact⟨_,a8,n.1,n.2,i,rfl,⟨A,a2,rfl,rfl,by simp[cB.cF],rfl,[],uX P,Zq⟩⟩
end
section
variable {g:Int}{p:Int->Bool}
variable {t : Zb} {d j : St} {b σ' m q r : ai} {f i : cB} {h : Mar.ay}
def sB(b:List bD)(of:Int)(p:Int->Bool):Prop:=
 (of=0/\p=dV (-2147483648) 2147483647)\/(of=1/\p=dV 0 4294967295)\/(of=4/\p=dV 0 1)\/(4<of/\∃a,b[of.toNat]? = some (ut a)/\p=mR a)
def Q.l6(a:Q t f d b)(e:0<=g)(h:g<=4):(hC b g).F=g:=by
 obtain⟨i,c⟩:=a.cX;unfold hC;rw[c];have:g=0\/g=1\/g=2\/g=3\/g=4:=Zm;rcases this with rfl|rfl|rfl|rfl|rfl<;>rfl
theorem se{a:bD}(c:b.A[g.toNat]? = some a):hC b g=a:=by
 grind [hC]
def aab(j:Q t f d b){i:Ty}(a:dE b.A i g)(k:0<=g):(hC b g).F≠5:=by
 cases i with
 |plain r=>have p:=a.1;have q:=a.2;rw[j.l6 k Zm];omega
 |named u o=>obtain⟨_,s,c,l,_⟩:=a;rw[se c,l];omega
 |opaq e h=>rw[se a.2];cases h<;>simp[fu]
 |str e h=>rw[se a.2];simp[fu]
 |arr n e h=>obtain⟨_,m,c,_⟩:=a;grind [se,dP]
 |opt n=>obtain⟨_,m,c,_⟩:=a;rw[se c];simp[dP]
 |void=>have:g = -1:=a;omega
def Bd.oU(c:Bd h b):Er h (cG t b).2:=by
 unfold cG;rw[Y2 (λa=>by grind [k]),Y2 (λa=>by grind [k])];exact c.hc
def abR(j:Q t f d b)(a4:f.pd=[]):Sw t (λw i=>i=f/\lm (cG t b).2.A f.nl w.1 (cG t b).1.1/\(cG t b).1.2=lb w.1/\sB (cG t b).2.A (cG t b).1.1 w.2) (oH (aI t) d) (cG t b).2:=by
 unfold oH aM;rcases pk t d with⟨a,p,s⟩|⟨h,s⟩
 .rw[qA s];have M:=j.wd;rw[s]at M;obtain⟨⟨S,a0,b1,a1,b2⟩,a3⟩:=M;have B:=j.ag s;simp only;unfold la cG;by_cases a5:a.F=1
  .rw[Y9 (c:=((a.F:Int)==1)=true) Zu,Y9 (c:=b.s.e=0/\b.s.x.F=1) ⟨j.e,Zm⟩];unfold aM mK;have b4:d.K=f.nl:=by rw[j.nl,a4];simp
   rw[show aO ({ d with y:=p,nx:=none }:St).K a.text=aO f.nl a.text by simp_all];rw[a0];have q:∀{o:Option (Option aC)},(∀k m D,o≠some (some (.enum k m D)))->(ce b a.text<0\/(dr b).a7≠1\/(hC b (dr b).n).F≠5)->
     Sw t (λ(w:Ty×(Int->Bool)) i=>i=f/\lm (if ce b a.text<0\/(dr b).a7≠1\/(hC b (dr b).n).F≠5 then (((0:Int),([]:Zb)),cm 7 ↑b.s.x.y b)else (((dr b).n,a.text),bq t b)).2.A f.nl w.1 (if ce b a.text<0\/(dr b).a7≠1\/(hC b (dr b).n).F≠5 then (((0:Int),([]:Zb)),cm 7 ↑b.s.x.y b)else (((dr b).n,a.text),bq t b)).1.1/\(if ce b a.text<0\/(dr b).a7≠1\/(hC b (dr b).n).F≠5 then (((0:Int),([]:Zb)),cm 7 ↑b.s.x.y b)else (((dr b).n,a.text),bq t b)).1.2=lb w.1/\sB (if ce b a.text<0\/(dr b).a7≠1\/(hC b (dr b).n).F≠5 then (((0:Int),([]:Zb)),cm 7 ↑b.s.x.y b)else (((dr b).n,a.text),bq t b)).2.A (if ce b a.text<0\/(dr b).a7≠1\/(hC b (dr b).n).F≠5 then (((0:Int),([]:Zb)),cm 7 ↑b.s.x.y b)else (((dr b).n,a.text),bq t b)).1.1 w.2)
     (.error ⟨7,a.y⟩) (if ce b a.text<0\/(dr b).a7≠1\/(hC b (dr b).n).F≠5 then (((0:Int),([]:Zb)),cm 7 ↑b.s.x.y b)else (((dr b).n,a.text),bq t b)).2:=λ_ a2=>by
    rw[Y9 a2,a1];exact Y8 (j.d2 (e:=7) (a:=a.y) Zm)
   rcases j.h3 a.text with⟨E,N⟩|⟨g,o,F,E,N,b7,b8,a6⟩
   .rw[E];exact q (o:=none) Zq (Y8 N)
   .have C:dr b=F:=by
     grind [dr]
    rw[E];have A:=a6.2;cases o with
    |none=>exact q (o:=some none) Zq (Ya (Y8 Zu))
    |some r=>
     cases r with
     |const k m v=>exact q (o:=some (some (.const k m v))) Zq (Ya (Y8 Zu))
     |prog k m c r=>exact q (o:=some (some (.prog k m c r))) Zq (Ya (Y8 Zu))
     |typedef r=>exact q (o:=some (some (.typedef r))) Zq (Ya (Ya (by rw[C];exact aab j A.2.2.1 A.2.2.2)))
     |struct k m c=>
      obtain⟨_,_,I,a7,u,_⟩:=A;exact q (o:=some (some (.struct k m c))) Zq (Ya (Ya (by rw[C,se u];simp)))
     |union k m c r=>
      obtain⟨_,_,I,of,a7,a9,u,_⟩:=A;exact q (o:=some (some (.union k m c r))) Zq (Ya (Ya (by rw[C,se u];simp)))
     |enum k m D=>
      obtain⟨b6,_,I,u⟩:=A;have b3:(hC b F.n).F=5:=by rw[se u]
      rw[C,Y2 Zm];have K:4<F.n:=by
       rcases Int.lt_or_le 4 F.n with L|L
       .omega
       .have:=j.l6 I L;omega
      exact⟨f,B,rfl,Ya ⟨_,_,k,m,D,rfl,K,E,u⟩,rfl,Ya (Ya (Ya ⟨K,D,u,rfl⟩))⟩
  .rw[Y2 (c:=((a.F:Int)==1)=true) Zg,Y2 (c:=b.s.e=0/\b.s.x.F=1) (λe=>a5 Zm)];have J:∀G,Mar.et G=true->a.text=G->b.s.x.F=2/\b.s.x.text=G:=λG b5 e=>⟨by rw[S];exact a3.ie Zu,Zu⟩;by_cases O:a.text=Jk
   .have e:=J _ Zr O;rw[Y9 (c:=(a.text==Jk)=true) Zu,Y9 (c:=b.s.e=0/\_) ⟨j.e,e.1,Y8 e.2⟩,Y9 e.2];exact⟨f,B,rfl,Y8 ⟨0,rfl,Y8 rfl,rfl⟩,rfl,Y8 ⟨rfl,rfl⟩⟩
   .rw[Y2 (c:=(a.text==Jk)=true) Zu];by_cases P:a.text=Jb
    .have e:=J _ Zr P;rw[Y9 (c:=(a.text==Jb)=true) Zu,Y9 (c:=b.s.e=0/\_) ⟨j.e,e.1,Ya (Y8 e.2)⟩,Y2 Zu,Y2 Zu];unfold aM;rcases lw B (kd:=2) (l:=Jk) Zr with⟨b0,y,z⟩|⟨a8,y,z,H⟩|⟨a8,y,z,H⟩
     .rw[y,Y2 (by rw[z.is Zm];simp)];exact Ya z
     .rw[y,Y9 z];exact⟨f,H,rfl,Y8 ⟨1,rfl,Ya (Y8 rfl),rfl⟩,rfl,Ya (Y8 ⟨rfl,rfl⟩)⟩
     .rw[y,Y2 Zu];exact⟨f,H,rfl,Y8 ⟨1,rfl,Ya (Y8 rfl),rfl⟩,rfl,Ya (Y8 ⟨rfl,rfl⟩)⟩
    .rw[Y2 (c:=(a.text==Jb)=true) Zu];by_cases R:a.text=Js
     .have e:=J _ Zr R;rw[Y9 (c:=(a.text==Js)=true) Zu,Y9 (c:=b.s.e=0/\_) ⟨j.e,e.1,Ya (Ya e.2)⟩,Y2 Zu,Y9 e.2];exact⟨f,B,rfl,Y8 ⟨4,rfl,Ya (Ya rfl),rfl⟩,rfl,Ya (Ya (Y8 ⟨rfl,rfl⟩))⟩
     .rw[Y2 (c:=(a.text==Js)=true) Zu,Y2 (c:=b.s.e=0/\_) (λe=>by
       simp_all)]
      exact Y8 (j.g5 s)
 .rw[rY s];exact Y8 (j.bd s).oU
def aed(e:Za){c b:Int}(l:∀f,p f=true->dV c b f=true)(d:St):jG e p d=match jG e (dV c b) d with
  |.ok (a,j)=>if p a.1 then .ok (a,j)else .error ⟨8,a.2⟩
  |.error h=>.error h:=by
 unfold jG aM;cases next e d with
 |error h=>rfl
 |ok a=>
  simp only;cases kX a.1 a.2 with
  |error h=>rfl
  |ok g=>
   simp only;by_cases i:p g.1=true
   .simp_all[ret]
   .rw[Y2 i];by_cases k:dV c b g.1=true;all_goals simp_all[ret,gU]
abbrev xC(of:Int)(v:(Int×Int)×ai):ai:=if v.2.s.e=0/\4<of/\(hC v.2 of).aR.contains v.1.1=false then cm 8 v.1.2 v.2 else v.2
abbrev xD(a:List Int)(v:(Int×Int)×ai)(b:ai):ai:=if b.s.e=0/\a.contains v.1.1=true then cm 6 v.1.2 b else b
def abC(w:Q t f d b){of:Int}(K:sB b.A of p)(q:List (Int×Int))(j:List Int)(B:q.map (·.1)=j) :
  Sx t (λa r i=>i=f/\a=(bV t (gu of) (gs of) b).1.1/\r.map (·.1)=j++[a]) (hx (aI t) p q d) (xD j (bV t (gu of) (gs of) b) (xC of (bV t (gu of) (gs of) b))):=by
 have u:of<=4->p=dV (gu of) (gs of)->Sx t (λa r i=>i=f/\a=(bV t (gu of) (gs of) b).1.1/\r.map (·.1)=j++[a]) (hx (aI t) p q d) (xD j (bV t (gu of) (gs of) b) (xC of (bV t (gu of) (gs of) b))):=by
  intro z g;have e:=Bk w q j B (gu of) (gs of);rw[g];unfold xD xC;rw[Y2 (c:=(bV t (gu of) (gs of) b).2.s.e=0/\4<of/\_) (λk=>by omega)];exact e.ak λa r i x=>⟨x.1,x.2.1,x.2.2.1⟩
 rcases K with⟨rfl,g⟩|⟨rfl,g⟩|⟨rfl,g⟩|⟨z,l,I,rfl⟩
 .exact u Zm g
 .exact u Zm g
 .exact u Zm g
 .have H:gu of = -2147483648:=by unfold gu;omega
  have F:gs of=2147483647:=by unfold gs;omega
  rw[H,F];have G:∀a,mR l a=true->dV (-2147483648) 2147483647 a=true:=λa O=>by
   have E:=w.cg _ (ut l) I;refine E.2.2.2 rfl a ?_;grind [mR]
  have e:=yD w (-2147483648) 2147483647;have P:(bV t (-2147483648) 2147483647 b).2.A=b.A:=(io _ _ _).A;have J:hC (bV t (-2147483648) 2147483647 b).2 of=ut l:=se Zu;unfold hx aP lift;rw[aed _ G];generalize bV t (-2147483648) 2147483647 b=v at *
  cases A:jG (aI t) (dV (-2147483648) 2147483647) d with
  |error h=>
   rw[A]at e;have e:Er h v.2:=e;simp only;refine e.bG ?_;exact(nQ _ _ _ _).u (nQ _ _ _ _)
  |ok L=>
   obtain⟨⟨a,n⟩,R⟩:=L;rw[A]at e;obtain⟨M,m,rfl,y,C⟩:=e;simp only at y C ⊢;have D:(hC v.2 of).aR.contains a=mR l a:=by
    rw[J];rw[Bool.eq_iff_iff];simp[mR]
   unfold xD xC;rw[y,D];cases N:mR l a with
   |false=>
    simp only[Ye,if_false]
    rw[Y9 (c:=v.2.s.e=0/\4<of/\True) ⟨m.e,z,trivial⟩];have:=m.d2 (e:=8) (a:=n) Zm;exact this.bG (nQ _ _ _ _)
   |true=>
    simp only[if_true]
    rw[Y2 (c:=v.2.s.e=0/\4<of/\_) (λk=>by grind)];unfold oI nC;dsimp only;rw[B];by_cases o:j.contains a=true
    .rw[Y9 o,Y9 ⟨m.e,o⟩];exact m.d2 (e:=6) (a:=n) Zm
    .rw[Y2 o,Y2 (λk=>o k.2)];exact⟨_,m,rfl,rfl,Zg⟩
def rF(a:Int):Zb:=JA++di a++[58,32]
abbrev rI(t:Zb)(of:Int)(a:Nat)(b:ai):(Int×Int)×ai:=bV t (gu of) (gs of) (aj t 2 Jg (aV a 12 b))
abbrev sQ(t:Zb)(of:Int)(a:List Int)(b:ai):ai:=aj t 4 [58] (xD a (rI t of a.length b) (xC of (rI t of a.length b)))
def Cw(f:b.s.e=0)(of:Int)(d:Nat)(a:List Int)(c:Zb):dg t of (d+1) a c b =
  if aJ (sQ t of a b) 2 Jg=true then dg t of d (a++[(rI t of a.length b).1.1]) (c++JA++di (rI t of a.length b).1.1++[58,32]) (sQ t of a b)
  else ((a++[(rI t of a.length b).1.1],c++JA++di (rI t of a.length b).1.1++[58,32]),sQ t of a b):=by
 conv=>lhs;unfold dg
 grind
def acD(c:b.s.e=0)(of:Int)(d:Nat)(a:List Int)(f:Zb):bp (sQ t of a b) (dg t of (d+1) a f b).2:=by
 rw[Cw c];grind [rG,fl]
def ED(of:Int)(a:List Int)(b:ai):bp (rI t of a.length b).2 (sQ t of a b):=(nQ _ _ _ _).u ((nQ _ _ _ _).u (br _ _ _))
def ab5(of:Int)(a:List Int)(b:ai):Sm b (sQ t of a b):=(dR ..).u ((aF ..).u ((io ..).u ((na ..).u ((na ..).u (aF ..)))))
def sB.of{of:Int}(a:sB b.A of p)(c:Sm b σ'):sB σ'.A of p:=by rw[c.A];exact a
def abD{of:Int}:∀(k n:Nat) (y:List Int) (l:List (Int×Int)) (c:List Int) (o:Zb) (d:St) (b:ai) (f:cB),Q t f d b->sB b.A of p->l.map (·.1)=c->(c.length<12\/aJ b 2 Jg=true)->c.length<=12->13<=c.length+k->13<=c.length+n->
  Sy t (λa1 b0 i=>i=f/\∃m,a1=y++m/\m≠[]/\b0.map (·.1)=c++m/\(dg t of k c o b).1.1=c++m/\(c++m).length<=12/\(dg t of k c o b).1.2=o++m.flatMap rF) (ja (aI t) p n y l d) (dg t of k c o b).2:=by
 intro k;induction k with
 |zero=>omega
 |succ k a9=>
  intro n y l c o d b f j K a4 b8 c2 b9 c0;obtain⟨n,rfl⟩:∃e,n=e+1:=⟨n-1,Zm⟩;have c1:l.length=c.length:=Zg;have x:=acD (t:=t) j.e of k c o;unfold ja;rcases pk t d with⟨z,b1,g⟩|⟨h,g⟩
  .have s:=j.d6 g c.length 12;have H:=j.is g (kd:=2) (l:=Jg) Zr;by_cases v:aJ b 2 Jg=true
   .have r:∀(e:Mar.aX->PX (List (Int×Int)) (List Int)),aP (lift (cI (aI t) Jg)) e l d=e z l { d with y:=b1,nx:=none }:=λe=>by
     unfold aP lift cI aM;rw[qA g];rw[H]at v;simp only;rw[Y9 v];rfl
    rw[r];by_cases a2:12<=c.length
    .rw[Bc Zm];rw[Y9 Zm]at s;have this:Er ⟨5,z.y⟩ (aV c.length 12 b):=by rw[s];exact j.d2 (e:=5) (a:=z.y) Zm
     exact Y8 (this.bG ((br _ _ _).u ((jF _ _ _).u ((ED of c b).u x))))
    .rw[Be Zm];rw[Y2 Zm]at s;have a3:rI t of c.length b=bV t (gu of) (gs of) (bq t b):=by unfold rI;rw[s,qZ v]
     have J:=abC (j.ag g) (p:=p) (of:=of) K l c a4;rw[<-a3]at J;refine Cc J ((br _ _ _).u x) ?_;rintro w c3 c4 b4 b2 ⟨rfl,a5,I⟩;refine Cc (iH (gd b2 (kd:=4) (l:=[58]) Zr)) x ?_;rintro c5 B M E C ⟨⟨rfl,-⟩,rfl⟩;have a7:=ab5 (t:=t) of c b;have a6:=K.of a7;rw[Cw j.e,<-a5];have C:Q t E M (sQ t of c b):=C;generalize sQ t of c b=D at *
     rcases Bi C (kd:=2) (l:=Jg) Zr with⟨b7,A,q⟩|⟨L,A,q⟩
     .unfold aP lift;rw[A,Y2 (by rw[q.is Zm];simp)];exact Ya q
     .have F:∀(e:Bool->PX (List (Int×Int)) (List Int)),aP (lift (iE (aI t) Jg)) e B M=e (aJ D 2 Jg) B L:=λe=>by
       unfold aP lift;rw[A]
      rw[F];by_cases u:aJ D 2 Jg=true
      .rw[Y9 u,Y9 u];have:=a9 n (y++[w]) B (c++[w]) (o++JA++di w++[58,32]) L D E q a6 I (Ya u) Zx Zx Zx;unfold Sy at this ⊢;split at this
       .obtain⟨b5,b3,rfl,m,N,b6,O,P,R,a0⟩:=this;exact⟨_,b3,rfl,w::m,by rw[N];simp,Zq,by rw[O];simp,by rw[P];simp,by simpa using R,by rw[a0];simp[rF]⟩
       omega
      .rw[Y2 u,Y2 u];exact⟨_,q,rfl,[w],rfl,Zq,I,rfl,Zx,by simp[rF]⟩
   .have a2:c.length<12:=Zg;rw[Y2 Zm]at s;have r:∀(e:Mar.aX->PX (List (Int×Int)) (List Int)),aP (lift (cI (aI t) Jg)) e l d=.error ⟨3,z.y⟩:=λe=>by
     unfold aP lift cI aM;rw[qA g];rw[H]at v;simp only;rw[Y2 v];rfl
    rw[r];have G:=j.g5 g;have a8:aj t 2 Jg (aV c.length 12 b)=ew b:=by grind [ME]
    rw[<-a8]at G;exact Y8 (G.bG ((jF _ _ _).u ((ED of c b).u x)))
  .have r:∀(e:Mar.aX->PX (List (Int×Int)) (List Int)),aP (lift (cI (aI t) Jg)) e l d=.error h:=λe=>by
    unfold aP lift cI aM;rw[rY g]
   rw[r];exact Y8 (((j.bd g).d6 c.length 12).bG ((br _ _ _).u ((jF _ _ _).u ((ED of c b).u x))))
def rC(a:aW):Zb:=match a.O with
 |.void=>[118,111,105,100,59,32]
 |_=>pp a
def Pd{a:aW}{d:List bD}(b:dE d a.O g)(e:0<=g):rC a=pp a:=by
 unfold rC;split
 .rename_i c;rw[c]at b;have:g = -1:=b;omega
 rfl
theorem Bd.de(a:Bd h b)(c:Zc):Er h (dy t c b).2:=by
 unfold dy;rw[Y2 (by rw[a.is Zm];simp)];exact(a.jP c false).bG (br _ _ _)
def Lm(u:Q t f d b)(a:Zc):Sx t (λm l i=>i=f.cF (eV m.O)/\dE (dy t a b).2.A m.O (dy t a b).1.1/\(dy t a b).1.2.1=rC m/\(dy t a b).1.2.2=l) (km (aI t) (bA 0 0) a d) (dy t a b).2:=by
 unfold km dy;rcases lw u (kd:=2) (l:=Jt) Zr with⟨s,g,j⟩|⟨p,g,j,n⟩|⟨p,g,j,n⟩
 .rw[Y2 (c:=aJ b 2 Jt=true) (by rw[j.is Zm];simp)];have k:∀(e:aW->PX (Zc) aW),aP (aP (lift (eu (aI t) Jt)) (qk (aI t) (bA 0 0))) e a d=.error s:=λe=>by
   unfold aP lift;rw[g]
  rw[k];exact(j.jP a false).bG (br _ _ _)
 .rw[Y9 (c:=aJ b 2 Jt=true) j];have k:∀(e:aW->PX (Zc) aW),aP (aP (lift (eu (aI t) Jt)) (qk (aI t) (bA 0 0))) e a d=e ⟨[],0,.void⟩ a p:=λe=>by
   unfold aP lift;rw[g];rfl
  rw[k];refine gh (iH (gd n (kd:=4) (l:=[59]) Zr)) (fl _) ?_;rintro A l z r o ⟨⟨rfl,-⟩,rfl⟩;exact Sx.ret o ⟨(oO _).symm,rfl,rfl,rfl⟩
 .rw[Y2 (c:=aJ b 2 Jt=true) Zu];simp only;have w:=Eu (G:=λq x l i=>i=f.cF q/\l=a++[x.1]) (λq=>GC a 0 0) n;generalize dv t a false b=B at *
  have k:∀(e:aW->PX (Zc) aW),aP (aP (lift (eu (aI t) Jt)) (qk (aI t) (bA 0 0))) e a d=aP (eY (aI t) (bA 0 0)) e a p:=λe=>by
   unfold aP lift;rw[g];rfl
  rw[k];refine Cd w (br _ _ _) (λh v=>v.hK Zm) ?_;rintro m l z r o ⟨⟨rfl,rfl⟩,ok⟩;refine gh (iH (gd o (kd:=4) (l:=[59]) Zr)) (fl _) ?_;rintro A D E C y ⟨⟨rfl,-⟩,rfl⟩;refine Sx.ret y ⟨rfl,ok.hp,?_,by rw[ok.x]⟩;rw[Pd ok.hp ok.gk,ok.d3,ok.fc,ok.x];rfl
end
section
variable {t : Zb} {c i : St} {b j k m n : ai} {g h : cB} {f : Mar.ay}
theorem Sy.ak{g f:Type}{R a:f->g->cB->Prop}{d:Except Mar.ay (f×g×St)}(i:Sy t R d b)(j:∀c e h,R c e h->a c e h):Sy t a d b:=by
 unfold Sy at *
 grind
def iv.oh{b:List bD}{d:List aW}{e:List Int}(i:iv b d e){c:aW}{f:Int}(h:dE b c.O f)(a:Nat):iv b (d++List.replicate a c) (e++List.replicate a f):=by
 induction a with
 |zero=>simp_all
 |succ a g=>
  have:=g.fY h;grind [List.replicate_succ']
def ui(a:List Int×aW):Zb:=(if a.1=[]then JI else a.1.flatMap rF)++rC a.2
def fv(t:Zb)(u:(List Int×List Int×Zc×Zb)×ai):(Int×Zb)×ai:=jc t u.1.2.2.1 u.2
theorem LM(a:(List Int×List Int×Zc×Zb)×ai):bp a.2 (fv t a).2:=LA _ _
theorem vg(h:b.s.e=0)(of:Int)(g:Nat)(a f:List Int)(c:Zc)(d:Zb):fa t of (g+1) a f c d b =
  if aJ (dy t c (dg t of (14-a.length) a [] b).2).2 2 Jg=true then fa t of g (dg t of (14-a.length) a [] b).1.1 (ox (dg t of (14-a.length) a [] b).1.1.length (dy t c (dg t of (14-a.length) a [] b).2).1.1 f) (dy t c (dg t of (14-a.length) a [] b).2).1.2.2 (d++(dg t of (14-a.length) a [] b).1.2++(dy t c (dg t of (14-a.length) a [] b).2).1.2.1) (dy t c (dg t of (14-a.length) a [] b).2).2
  else (((dg t of (14-a.length) a [] b).1.1,ox (dg t of (14-a.length) a [] b).1.1.length (dy t c (dg t of (14-a.length) a [] b).2).1.1 f,(dy t c (dg t of (14-a.length) a [] b).2).1.2.2,d++(dg t of (14-a.length) a [] b).1.2++(dy t c (dg t of (14-a.length) a [] b).2).1.2.1),(dy t c (dg t of (14-a.length) a [] b).2).2):=by
 simp_all[fa]
def acO(h:b.s.e=0)(of:Int)(d:Nat)(a g:List Int)(c:Zc)(f:Zb):bp (dy t c (dg t of (14-a.length) a [] b).2).2 (fa t of (d+1) a g c f b).2:=by
 grind [vg,EI,fl]
def Sq(b:List Int)(c:List Int)(d:Int)(a:List Int)(e:a.length=b.length):ox (b++c).length d a=a++List.replicate c.length d:=by
 grind [ox]
theorem AL(b:List (List Int×aW))(a:List Int)(c:aW):(cY (b++[(a,c)])).map (·.1)=(cY b).map (·.1)++a/\(cY (b++[(a,c)])).map (·.2)=(cY b).map (·.2)++List.replicate a.length c:=by
 simp_all[cY,Function.comp_def,List.map_const']
theorem CL{c:List (List Int×aW)}(d:jb c=none)(a:List Int)(b:aW):jb (c++[(a,b)])=if a=[]then some b else none:=by
 grind [jb]
theorem He{b:List (List Int×aW)}(c:jb b=none):∀a∈b,a.1≠[]:=by
 intro a d e;unfold jb at c;have:b.find? (λa=>a.1.isEmpty)=none:=by simpa using c
 grind
structure BL(arms:List (List Int×aW))(u:(List Int×List Int×Zc×Zb)×ai)(e:(Int×Zb)×ai)(w:Zb)(new:List (List Int×aW)):Prop where
 aR:(cY arms).map (·.1)=u.1.1
 bz:iv e.2.A ((cY arms).map (·.2)) u.1.2.1
 d0:match jb arms with
  |none=>e.1.1 = -2
  |some d=>dE e.2.A d.O e.1.1
 w:u.1.2.2.2++e.1.2=w++new.flatMap ui
 l1:∀a∈arms,a.1=[]->jb arms=some a.2
def abA{u:(List Int×List Int×Zc×Zb)×ai}(w:Q t g c u.2)(b:List (List Int×aW))(l:List (Int×Int))(v:Zb)(y:(cY b).map (·.1)=u.1.1)(q:jb b=none)(r:iv u.2.A ((cY b).map (·.2)) u.1.2.1)(s:List (List Int×aW))(N:u.1.2.2.2=v++s.flatMap ui) :
  Sy t (λm _ h=>∃k,h=g.cF (k.flatMap λi=>eV i.2.O)/\m=b++k/\BL m u (fv t u) v (s++k)) (mF (aI t) b (u.1.2.2.1,l) c) (fv t u).2:=by
 unfold mF fv jc;rcases lw w (kd:=2) (l:=JL) Zr with⟨L,d,e⟩|⟨D,d,e,j⟩|⟨D,d,e,j⟩
 .rw[zt d,Y2 (by rw[e.is Zm];simp)];exact Ya e
 .rw[sI d,Y9 e];simp only[if_true]
  refine vJ (gh (iH (gd j (kd:=4) (l:=[58]) Zr)) (Br _ _) ?_);rintro a0 P E G B ⟨⟨rfl,-⟩,rfl⟩;have a:=Lm B u.1.2.2.1;have z:dl u.2 (dy t u.1.2.2.1 (aj t 4 [58] (bq t u.2))).2:=((fR _).u (aF _ _ _)).ar.u (qs _ _);generalize dy t u.1.2.2.1 (aj t 4 [58] (bq t u.2))=F at *
  unfold aP jA;simp only;cases o:km (aI t) (bA 0 0) u.1.2.2.1 E with
  |error f=>rw[o]at a;exact a
  |ok A=>
   obtain⟨n,O,R⟩:=A;rw[o]at a;obtain⟨H,C,M,I,J,K⟩:=a;refine⟨_,C,[([],n)],Zu,rfl,?_⟩;have x:=AL b [] n;refine⟨Zu,by rw[x.2];simpa using r.ar z,?_,?_,?_⟩
   .grind [CL]
   .grind [ui]
   .intro i a p;rw[CL q,Y9 rfl];grind [He]
 .rw[sI d,Y2 Zu];simp only[Ye,if_false]
  exact⟨_,j,[],(oO _).symm,Zq,⟨y,r,Zg,Zu,λi a p=>absurd p (He q i a)⟩⟩
def Nh{u:(List Int×List Int×Zc×Zb)×ai}(a:Bd f u.2):Bd f (fv t u).2:=by
 unfold fv jc;rw[Y2 (by rw[a.is Zm];simp)];exact a
def abB{of:Int}{p:Int->Bool}:∀(o s:Nat) (a:List (List Int×aW)) (n:Zc) (l:List (Int×Int)) (k:List Int) (i:Zb) (c:St) (b:ai) (g:cB),Q t g c b->sB b.A of p->l.map (·.1)=(cY a).map (·.1)->(((cY a).map (·.1)).length<12\/aJ b 2 Jg=true)->((cY a).map (·.1)).length<=12->13<=((cY a).map (·.1)).length+o->13<=((cY a).map (·.1)).length+s->jb a=none->iv b.A ((cY a).map (·.2)) k->
  Sy t (λF _ h=>∃z,h=g.cF (z.flatMap λa5=>eV a5.2.O)/\F=a++z/\BL F (fa t of o ((cY a).map (·.1)) k n i b) (fv t (fa t of o ((cY a).map (·.1)) k n i b)) i z/\dl b (fv t (fa t of o ((cY a).map (·.1)) k n i b)).2) (ig (aI t) p s a (n,l) c) (fv t (fa t of o ((cY a).map (·.1)) k n i b)).2:=by
 intro o;induction o with
 |zero=>omega
 |succ o c1=>
  intro s a n l k i c b g H a2 b6 b5 b8 d7 d8 b4 a0;obtain⟨s,rfl⟩:∃c2,s=c2+1:=⟨s-1,Zm⟩;have E:=(acO (t:=t) H.e of o ((cY a).map (·.1)) k n i).u (LM (t:=t) _);have q:=abD (t:=t) (of:=of) (p:=p) (14-((cY a).map (·.1)).length) 13 [] l ((cY a).map (·.1)) [] c b g H a2 b6 b5 b8 Zm Zm;have c0:=(rG (t:=t) of (14-((cY a).map (·.1)).length) ((cY a).map (·.1)) [] b).1;rw[vg H.e]at E ⊢;have S:=a0.1;rw[YU,<-YU (f:=λc8:Int×aW=>c8.1)]at S;generalize b9:(cY a).map (·.1)=v at *
  generalize dg t of (14-v.length) v [] b=J at *
  unfold ig aP nI;simp only;have b3:cases (aI t) p l c=ja (aI t) p 13 [] l c:=rfl;rw[b3];cases N:ja (aI t) p 13 [] l c with
  |error f=>
   rw[N]at q;rcases q with q|q
   .exact Y8 (q.bG ((Br _ _).u E))
   .exact Y8 ((q.de n).bG E)
  |ok I=>
   obtain⟨d,a3,c7⟩:=I;rw[N]at q;obtain⟨c9,c4,rfl,e1,K,L,d1,a9,d2,M⟩:=q;simp only[YT]at K M;subst K;have A:=Lm c4 n;have C:dl b (dy t n J.2).2:=c0.ar.u (qs _ _);generalize dy t n J.2=m at *
   simp only;unfold jA;simp only;cases O:km (aI t) (bA 0 0) n c7 with
   |error f=>rw[O]at A;exact Y8 (Er.bG A E)
   |ok I=>
    obtain⟨j,D,e2⟩:=I;rw[O]at A;obtain⟨a4,c5,d6,a6,a7,a8⟩:=A;simp only;rw[a9,Sq v d m.1.1 k S,a7,a8,M];have B:=AL a d j;have a1:iv m.2.A ((cY (a++[(d,j)])).map (·.2)) (k++List.replicate d.length m.1.1):=by
     rw[B.2];exact(a0.ar C).oh a6 _
    have P:jb (a++[(d,j)])=none:=by rw[CL b4,Y2 L]
    rw[b9]at B;have R:i++d.flatMap rF++rC j=i++[(d,j)].flatMap ui:=by simp[ui,L]
    unfold lift;rcases Bi c5 (kd:=2) (l:=Jg) Zr with⟨d5,G,w⟩|⟨c6,G,w⟩
    .rw[G,Y2 (by rw[w.is Zm];simp)];exact Ya (Nh (u:=((v++d,k++List.replicate d.length m.1.1,D,i++d.flatMap rF++rC j),m.2)) w)
    .rw[G];simp only;by_cases y:aJ m.2 2 Jg=true
     .rw[Y9 y,Y9 y,<-B.1];have:=c1 s (a++[(d,j)]) D a3 (k++List.replicate d.length m.1.1) (i++d.flatMap rF++rC j) c6 m.2 a4 w (by
       obtain⟨e0,b7,-⟩:=C.A;rw[b7];rcases a2 with r|r|r|⟨r,c3,b1,b2⟩
       .exact Y8 r
       .exact Ya (Y8 r)
       .exact Ya (Ya (Y8 r))
       .exact Ya (Ya (Ya ⟨r,c3,qv b1,b2⟩))) Zg (Ya y) Zg (by grind [List.length_pos_iff]) (by grind [List.length_pos_iff]) P a1
      refine this.ak ?_;rintro F e3 d0 ⟨z,d3,d4,x,b0⟩;refine⟨(d,j)::z,by grind [vt],Zg,⟨x.aR,x.bz,x.d0,?_,x.l1⟩,C.u b0⟩;rw[x.w,R];simp
     .rw[Y2 y,Y2 y];have:=abA (t:=t) (u:=((v++d,k++List.replicate d.length m.1.1,D,i++d.flatMap rF++rC j),m.2)) w (a++[(d,j)]) a3 i B.1 P a1 [(d,j)] R;have d9:dl b (fv t ((v++d,k++List.replicate d.length m.1.1,D,i++d.flatMap rF++rC j),m.2)).2:=C.u (xH _ _);refine this.ak ?_;grind [vt]
end
section
variable {t : Zb} {st g : St} {a f h i j : ai} {b c : cB} {e : Mar.ay}
def Xj(a:ai):cO t [] false a=dT t a:=by
 unfold cO;simp
def lm.ar{b c d of}(e:lm a.A b d of)(h:dl a f)(i:Kp b c):lm f.A c d of:=by
 obtain⟨j,g,-⟩:=h.A;rw[g];exact e.b7 j i
theorem lm.lt{a e f of}(b:lm a e f of)(i:5<=a.length):of<a.length:=by
 rcases b with⟨j,-,c,d⟩|⟨l,g,m,h,k,-,c,-,d⟩;all_goals grind
def Mq(c:Zb)(a:aW)(b:List (List Int×aW)):Zb:=Jr++c++Ji++lb a.O++[32]++a.t++Jx++b.flatMap ui++JB
def abe{h k:Type}{i}{d:PX h k}{g}(b:Sx t i (d g st) a):S t (λf c=>i f.1 f.2 c) (hD d g st) a:=by
 unfold hD;cases j:d g st with
 |ok f=>rw[j]at b;exact b
 |error e=>rw[j]at b;exact b
def abf{h k:Type}{i}{d:PX h k}{g}(b:Sy t i (d g st) a):Sw t (λf c=>i f.1 f.2 c) (hD d g st) a:=by
 unfold hD;cases j:d g st with
 |ok f=>rw[j]at b;exact b
 |error e=>rw[j]at b;exact b
def abV{o:Mar.aX}{p:Nat}(R:Q t b st a)(y:b.pd=[])(b8:b.dc=0)(J:fj t st.y st.nx=.ok (o,p))(b9:aJ a 2 Jh=true) :
  S t (λd c=>∃a8 A j h,d=.union a8 A j h/\tP b c d (Mq a8 j h) []) (kU (ez (aI t) o.y) { st with y:=p,nx:=none }) (iR t (iF a)):=by
 by_cases w:24<=st.aA
 .have q:ez (aI t) o.y { st with y:=p,nx:=none } = .error ⟨5,o.y⟩:=AD (st:={ st with y:=p,nx:=none }) w _ _;rw[kV q];exact(AU R J w).bG (acN _)
 .have c3:=AT R J b9 w;have c0:ez (aI t) o.y { st with y:=p,nx:=none } = aM (iK (aI t)) (oM (aI t)) { st with y:=p,nx:=none,aA:=st.aA+1 }:=AE (st:={ st with y:=p,nx:=none }) w _ _;unfold iR;simp only;generalize aj t 2 Jh (iF a)=d8 at *
  generalize c1:bi t 2 d8=m;generalize a1:cG t (aj t 4 [40] (aj t 2 Jn m.2))=i;generalize G:dT t i.2=k;generalize b7:fa t i.1.1 14 [] [] [k.1.text] (Jr++m.1.text++Ji++i.1.2++[32]++k.1.text++Jx) (aj t 4 Jv (aj t 4 [41] k.2))=f;have d2:bp (fv t f).2 (aj t 4 [59] (aj t 4 Jl (fv t f).2)):=(br _ _ _).u (br _ _ _);have O:bp (aj t 4 Jv (aj t 4 [41] k.2)) (aj t 4 [59] (aj t 4 Jl (fv t f).2)):=by
   grind [bp.u,LM,EI]
  have a9:bp k.2 (aj t 4 [59] (aj t 4 Jl (fv t f).2)):=(br _ _ _).u ((br _ _ _).u O);have d1:bp i.2 (aj t 4 [59] (aj t 4 Jl (fv t f).2)):=by
   grind [bp.u,wG]
  have N:bp (aj t 4 [40] (aj t 2 Jn m.2)) (aj t 4 [59] (aj t 4 Jl (fv t f).2)):=by
   grind [bp.u,LG]
  have q:S t (λd c=>∃(g:Zb×Nat) (j:aW) (h:List (List Int×aW)),d=.union g.1 g.2 j h/\m.1.text=g.1/\lm (fv t f).2.A (b.nl++[(g.1,none)]) j.O i.1.1/\BL h f (fv t f) (Jr++g.1++Ji++lb j.O++[32]++j.t++Jx) h/\c=(b.a2 g.1).cF (h.flatMap λA=>eV A.2.O)/\aO b.nl g.1=none/\At g.1 g.2 (fv t f).2.K)
    (ez (aI t) o.y { st with y:=p,nx:=none }) (aj t 4 [59] (aj t 4 Jl (fv t f).2)):=by
   rw[c0];have a0:=wz c3 y;rw[c1]at a0;refine gP a0 ((br _ _ _).u ((br _ _ _).u N)) ?_;rintro g f5 b3 r ⟨rfl,P,g8,d5,g9⟩;unfold oM;refine gP (gd r (kd:=2) (l:=Jn) Zr) ((br _ _ _).u N) ?_;rintro n f7 e0 K ⟨rfl,-⟩;refine gP (gd K (kd:=4) (l:=[40]) Zr) N ?_;rintro n f8 e1 L ⟨rfl,-⟩;have a3:=abR L y;rw[a1]at a3;refine Gc a3 d1 (λe H=>?_) ?_
   .have:=H.dY (t:=t);rw[G]at this;exact this.bG a9
   rintro z f9 e2 M ⟨rfl,d6,h0,d7⟩;unfold oN;have a2:=Bl (t:=t) M [] 0 0;rw[Xj,G]at a2;refine gP (abe a2) a9 ?_;rintro a7 g0 e3 c5 ⟨rfl,b0,h1,b1⟩;unfold qV;refine gP (gd c5 (kd:=4) (l:=[41]) Zr) ((br _ _ _).u O) ?_;rintro n g1 e4 c6 ⟨rfl,-⟩;refine gP (gd c6 (kd:=4) (l:=Jv) Zr) O ?_;rintro n d3 e5 c7 ⟨rfl,-⟩;have a5:Sm i.2 (aj t 4 Jv (aj t 4 [41] k.2)):=by
    rw[<-G];rfl
   have E:=abB (t:=t) (of:=i.1.1) (p:=z.2) 14 13 [] a7.2 [] [] (Jr++m.1.text++Ji++i.1.2++[32]++k.1.text++Jx) d3 (aj t 4 Jv (aj t 4 [41] k.2)) _ c7 (d7.of a5) rfl (Y8 (by simp[cY])) (by simp[cY]) Zm Zm rfl ⟨rfl,λa6 p k J=>by grind⟩;rw[b1,show (List.map (λn:Int×aW=>n.1) (cY []))=[]from rfl]at E;rw[<-b0]at E;have F:=abf E;simp only[YT]at F;rw[b7]at F;rw[b1,<-b0];refine Gc F d2 (λe H=>(H.hK Zm).bG (br _ _ _)) ?_;rintro d0 g2 e6 c8 ⟨f4,g5,g6,g7,d4⟩;unfold lE oL;refine gP (gd c8 (kd:=4) (l:=Jl) Zr) (br _ _ _) ?_;rintro n g3 e7 c9 ⟨rfl,-⟩;refine gP (gd c9 (kd:=4) (l:=[59]) Zr) (fl _) ?_;rintro n f6 d9 c4 ⟨rfl,-⟩;have c2:dl i.2 (fv t f).2:=a5.ar.u d4;have f1:(fv t f).2.K=m.2.K:=by
    have:i.2.K=m.2.K:=by rw[<-a1];exact((aF _ _ _).u ((aF _ _ _).u (tE _))).K
    grind [dl.K]
   refine S.ret c4 ⟨g,⟨k.1.text,a7.1.2,z.1⟩,d0.1,Zr,P,d6.ar c2 (FH _),?_,Zg,d5,by grind [Cj]⟩;grind
  show S t _ _ (fP (f.1.2.2.2++(fv t f).1.2++JB) (eH m.1.text (aj t 4 [59] (aj t 4 Jl (fv t f).2)).A.length (dj ⟨13,0,i.1.1,f.1.1,f.1.2.1,(fv t f).1.1,[],0⟩ (aj t 4 [59] (aj t 4 Jl (fv t f).2)))));cases x:ez (aI t) o.y { st with y:=p,nx:=none }with
  |error e=>
   rw[x]at q;rw[kV x];exact Er.bG q ((hj _ _).u ((wF _ _ _).u (qR _ _)))
  |ok z=>
   obtain⟨d,g4⟩:=z;rw[x]at q;obtain⟨b3,r,g,j,h,rfl,P,u,s,rfl,b4,B⟩:=q;rw[sY x,P,s.w,<-s.aR];have u:lm (aj t 4 [59] (aj t 4 Jl (fv t f).2)).A (b.nl++[(g.1,none)]) j.O i.1.1:=u;have B:At g.1 g.2 (aj t 4 [59] (aj t 4 Jl (fv t f).2)).K:=B;have C:iv (aj t 4 [59] (aj t 4 Jl (fv t f).2)).A ((cY h).map (·.2)) f.1.2.1:=s.bz;have v:match jb h with
    |none=>(fv t f).1.1 = -2
    |some d=>dE (aj t 4 [59] (aj t 4 [125] (fv t f).2)).A d.O (fv t f).1.1:=s.d0
   have b5:=s.l1;generalize aj t 4 [59] (aj t 4 Jl (fv t f).2)=b2 at *
   generalize (fv t f).1.1=D at *
   have f0:=C.lt r.h4;have e9:D<b2.A.length:=by
    cases I:jb h with
    |none=>grind
    |some d=>rw[I]at v;exact dE.lt r.h4 v
   have f2:=u.lt r.h4;have K:=r.row (r:=⟨13,0,i.1.1,(cY h).map (·.1),f.1.2.1,D,[],0⟩) ⟨Zg,λn f3=>Zg,Zg,Zq⟩ Zq;have a4:aO (b.a2 g.1).nl g.1=some none:=by simp_all[th]
   have L:=K.k1 (d:=.union g.1 g.2 j h) (n:=b2.A.length) a4 y B rfl ⟨Zq,i.1.1,f.1.2.1,D,qL _ _,u.b7 _ (Il _ a4),by rw[C.1];simp,λa6 p k b6 e8=>(C.2 a6 p k.2 b6 Zu).b7 _,by
    cases I:jb h with
    |none=>simp_all
    |some d=>rw[I]at v;exact dE.b7 _ v,b5⟩
   have M:=L.a4 ((Jr++g.1++Ji++lb j.O++[32]++j.t++Jx)++h.flatMap ui++JB);exact⟨_,M,g.1,g.2,j,h,rfl,⟨y,b8,rfl,rfl,by simp[cB.cF],rfl,[],uX b4,Zq⟩⟩
end
section
variable {t : Zb} {st h : St} {a d i j g : ai} {b c : cB} {f : Mar.ay}
def Lq(f:Q t b st a)(l:List (Int×Int))(d:List Int)(i:l.map (·.1)=d):Sx t (λe j c=>c=b/\e=(cM t d a).1/\j.map (·.1)=d++[e]) (pf (aI t) l st) (cM t d a).2:=by
 unfold pf cM;simp only;refine gh (iH (gd f (kd:=4) (l:=[61]) Zr)) ((jF _ _ _).u ((nQ _ _ _ _).u (br _ _ _))) ?_;rintro p k w q m ⟨⟨rfl,-⟩,rfl⟩;refine gh (Bk m k d i 0 4294967295) (br _ _ _) ?_;rintro e u x r n ⟨rfl,g,h,-,-⟩;refine gh (iH (gd n (kd:=4) (l:=[59]) Zr)) (fl _) ?_;rintro p v y s o ⟨⟨rfl,-⟩,rfl⟩;exact Sx.ret o ⟨rfl,g,h⟩
theorem afg(b:Bd f a):Er f (fQ t a).2:=by
 unfold fQ;rw[Y2 (by rw[b.is Zm];simp)];exact b.F
def Lt(k:Q t b st a):Sw t (λh c=>c=b.cF (eV h)/\dE (fQ t a).2.A h (fQ t a).1.1/\(fQ t a).1.2=lb h) (pG (aI t) st) (fQ t a).2:=by
 unfold pG fQ;rcases lw k (kd:=2) (l:=Jt) Zr with⟨m,e,d⟩|⟨i,e,d,f⟩|⟨i,e,d,f⟩
 .unfold aM;rw[e,Y2 (by rw[d.is Zm];simp)];exact Y8 d.F
 .unfold aM;rw[e,Y9 d];exact⟨b,f,(oO b).symm,rfl,rfl⟩
 .have j:∀(g:Bool->PM Ty),aM (eu (aI t) Jt) g st=g false i:=λg=>by grind [aM]
  rw[j,Y2 Zu];simp only[Ye,if_false]
  have:=Lr f;unfold Sw at this ⊢;grind
def XL(d:List bD)(g:Int)(e:List (Int×gg))(f:List ct):Prop:=f.length=e.length/\∀(c:Nat) (b:Int×gg) (a:ct),e[c]? = some b->f[c]? = some a->a.prog=g/\a.e0=b.1/\a.kI=b.2.num/\dE d b.2.cP a.cP/\dE d b.2.cu a.cu
def Gg(b:List bD)(a:Int):XL b a [] []:=⟨rfl,λe c f d=>by simp⟩
theorem XL.b7{f:List bD}{e:Int}{g k:List (Int×gg)}{m n:List ct}(a:XL f e g m)(j:XL f e k n):XL f e (g++k) (m++n):=by
 refine⟨by simp[a.1,j.1],?_⟩;intro i h l b c;rcases Yj i g.length with d|d
 .rw[Ys d]at b;rw[Ys (by rw[a.1];omega)]at c;exact a.2 i h l b c
 .rw[Yw d]at b;rw[Yw (by rw[a.1];omega),a.1]at c;exact j.2 _ h l b c
def XL.ar{e:Int}{f:List (Int×gg)}{g:List ct}(b:XL a.A e f g)(c:dl a d):XL d.A e f g:=⟨b.1,λp h q n o=>by
 obtain⟨i,j,k,l,m⟩:=b.2 p h q n o;exact⟨i,j,k,l.ar c,m.ar c⟩⟩
def XL.e0{k:List bD}{j:Int}{e:List gg}{f:List ct}(g:XL k j (e.map λa=>(0,a)) f)(i:Int):XL k j (e.map λa=>(i,a)) (f.map λm=>{ m with e0:=i }):=by
 refine⟨by have:=g.1;simp_all,?_⟩;intro d o u b c;rw[List.getElem?_map]at b c;cases l:e[d]? with
 |none=>simp_all
 |some a=>
  cases h:f[d]? with
  |none=>simp_all
  |some n=>
   rw[l]at b;rw[h]at c;simp at b c;obtain⟨p,q,r,s,t⟩:=g.2 d (0,a) n Zu h;grind
def XL.prog{f:List bD}{g:List (Int×gg)}{b:List ct}(c:XL f 0 g b)(n:Int):XL f n g (b.map λj=>{ j with prog:=n }):=by
 refine⟨by have:=c.1;simp_all,?_⟩;intro e h r i a;rw[List.getElem?_map]at a;cases d:b[e]? with
 |none=>simp_all
 |some k=>
  rw[d]at a;simp at a;obtain⟨l,m,o,p,q⟩:=c.2 e h k i d;grind
def wo(a:gg):Zb:=lb a.cu++[32]++a.t++[40]++lb a.cP++JH++di a.num++[59,32]
abbrev oD(t:Zb)(b:Nat)(a:ai):(Int×Zb)×ai:=fQ t (aV b 8 a)
abbrev qE(t:Zb)(b:Nat)(c:Zc)(a:ai):fI×ai:=cO t c false (oD t b a).2
abbrev oC(t:Zb)(b:Nat)(c:Zc)(a:ai):(Int×Zb)×ai:=fQ t (aj t 4 [40] (qE t b c a).2)
abbrev hy(t:Zb)(b:Nat)(d:Zc)(c:List Int)(a:ai):Int×ai:=cM t c (aj t 4 [41] (oC t b d a).2)
abbrev AN(t:Zb)(b:List ct)(c:Zc)(d:List Int)(a:ai):List ct:=b++[⟨0,0,(hy t b.length c d a).1,(oC t b.length c a).1.1,(oD t b.length a).1.1⟩]
theorem DY(h:a.s.e=0)(g:Nat)(b:List ct)(c:Zc)(d:List Int)(f:Zb):gI t (g+1) b c d f a =
  if aJ (hy t b.length c d a).2 4 Jl=true then ((AN t b c d a,f++(oD t b.length a).1.2++[32]++(qE t b.length c a).1.text++[40]++(oC t b.length c a).1.2++JH++di (hy t b.length c d a).1++[59,32]),(hy t b.length c d a).2)
  else gI t g (AN t b c d a) (c++[(qE t b.length c a).1.text]) (d++[(hy t b.length c d a).1]) (f++(oD t b.length a).1.2++[32]++(qE t b.length c a).1.text++[40]++(oC t b.length c a).1.2++JH++di (hy t b.length c d a).1++[59,32]) (hy t b.length c d a).2:=by
 simp_all[gI]
def LI(b:Nat)(d:Zc)(c:List Int)(a:ai):bp (aV b 8 a) (hy t b d c a).2:=(wE _).u ((pH _ _ _).u ((br _ _ _).u ((wE _).u ((br _ _ _).u (qQ _ _)))))
def RW(b:Nat)(d:Zc)(c:List Int)(a:ai):dl a (hy t b d c a).2:=(dR ..).ar.u ((xI _).u ((jE ..).ar.u ((aF ..).ar.u ((xI _).u ((aF ..).ar.u (qt ..))))))
theorem EG(b:Nat)(c:List ct)(f:Zc)(d:List Int)(e:Zb)(a:ai):bp a (gI t b c f d e a).2:=λg=>by
 cases b<;>simp_all[gI]
def LJ(h:a.s.e=0)(f:Nat)(b:List ct)(d:Zc)(c:List Int)(g:Zb):bp (hy t b.length d c a).2 (gI t (f+1) b d c g a).2:=by
 grind [DY,fl,EG]
def abM(I:Q t b st a){e:Nat}(b0:aV e 8 a=a)(d:Zc)(i:List (Int×Int))(h:List Int)(M:i.map (·.1)=h) :
  Sx t (λg n c=>c=b.cF (py g)/\n.1=d++[g.t]/\n.2.map (·.1)=h++[g.num]/\(qE t e d a).1.text=g.t/\(hy t e d h a).1=g.num/\dE (hy t e d h a).2.A g.cu (oD t e a).1.1/\dE (hy t e d h a).2.A g.cP (oC t e d a).1.1/\(oD t e a).1.2=lb g.cu/\(oC t e d a).1.2=lb g.cP) (mb (aI t) (d,i) st) (hy t e d h a).2:=by
 unfold mb;have v:=Lt I;have H:oD t e a=fQ t a:=Zg;rw[<-H]at v;have s:bp (oC t e d a).2 (hy t e d h a).2:=(br _ _ _).u (qQ _ _);have u:bp (qE t e d a).2 (hy t e d h a).2:=(br _ _ _).u ((wE _).u s);have x:dl (oC t e d a).2 (hy t e d h a).2:=(aF _ _ _).ar.u (qt _ _);have a3:dl (oD t e a).2 (hy t e d h a).2:=(jE _ _ _).ar.u ((aF _ _ _).ar.u ((xI _).u x));refine Cd (Gb v) ((pH _ _ _).u u) (λf p=>(p.jp d false).bG u) ?_;rintro b3 b4 w y N ⟨⟨K,A,B⟩,rfl⟩;have k:=Bl N d 0 0;have J:Sx t (λq (n:gi) c=>c=y/\(qE t e d a).1.text=q.1/\n=(d++[q.1],i)) (jA (name (aI t) (bA 0 0)) (d,i) w) (qE t e d a).2:=by
  unfold jA;simp only;cases j:name (aI t) (bA 0 0) d w with
  |error f=>rw[j]at k;exact k
  |ok g=>
   rw[j]at k;obtain⟨z,r,rfl,o,a9,C⟩:=k;exact⟨_,r,rfl,o,by rw[C]⟩
 refine gh J u ?_;rintro q b5 b9 z r ⟨rfl,o,rfl⟩;refine gh (iH (gd r (kd:=4) (l:=[40]) Zr)) ((wE _).u s) ?_;rintro a2 b6 c0 a4 O ⟨⟨rfl,-⟩,rfl⟩;refine Cd (Gb (Lt O)) s (λf p=>(p.hK Zm).bG (qQ _ _)) ?_;rintro a8 b7 c1 a5 P ⟨⟨L,D,E⟩,rfl⟩;refine gh (iH (gd P (kd:=4) (l:=[41]) Zr)) (qQ _ _) ?_;rintro a2 b8 a1 a6 R ⟨⟨rfl,-⟩,rfl⟩;have m:=Lq R i h M;unfold aP nI;simp only;cases j:pf (aI t) i a1 with
 |error f=>rw[j]at m;exact m
 |ok g=>
  obtain⟨b1,b2,c2⟩:=g;rw[j]at m;obtain⟨a7,a0,rfl,F,G⟩:=m;exact⟨_,a0,by rw[L,K,vt];rfl,rfl,G,o,F.symm,A.ar a3,D.ar x,B,E⟩
def abN:∀(k:Nat) (j:List gg) (l:List ct) (d:Zc) (r:List (Int×Int)) (i:List Int) (m:Zb) (st:St) (a:ai) (b:cB),Q t b st a->r.map (·.1)=i->j.length+k=9->j.length<=8->XL a.A 0 (j.map λh=>(0,h)) l->
  Sx t (λ_ n c=>∃s,c=b.cF (s.flatMap py)/\n.1=j++s/\XL (gI t (k+1) l d i m a).2.A 0 ((j++s).map λh=>(0,h)) (gI t (k+1) l d i m a).1.1/\(gI t (k+1) l d i m a).1.2=m++s.flatMap wo/\dl a (gI t (k+1) l d i m a).2) (qm (aI t) 8 (nS (aI t)) k j.length (j,(d,r)) st) (aj t 4 Jl (gI t (k+1) l d i m a).2):=by
 intro k;induction k with
 |zero=>omega
 |succ k a5=>
  intro j l d r i m st a b p a2 c2 c3 z;have c4:l.length=j.length:=by have:=z.1;grind
  have K:=(LJ (t:=t) p.e (k+1) l d i m).u (br (t:=t) 4 Jl _);have A:=(LI (t:=t) l.length d i a).u K;unfold qm;rcases pk t st with⟨B,n,q⟩|⟨f,q⟩
  .rw[DV q];have v:=p.d6 q l.length 8;by_cases F:8<=j.length
   .rw[Bc F];rw[Y9 Zm]at v;rw[v]at A;exact(p.d2 (e:=5) (a:=B.y) Zm).bG A
   .rw[Be F];rw[Y2 Zm]at v;have w:=abM (p.g8 q) v d r i a2;have a4:Sx t (λ_ (n:List gg×gi) c=>∃h,c=b.cF (py h)/\n.1=j++[h]/\n.2.1=d++[h.t]/\n.2.2.map (·.1)=i++[h.num]/\(qE t l.length d a).1.text=h.t/\(hy t l.length d i a).1=h.num/\dE (hy t l.length d i a).2.A h.cu (oD t l.length a).1.1/\dE (hy t l.length d i a).2.A h.cP (oC t l.length d a).1.1/\(oD t l.length a).1.2=lb h.cu/\(oC t l.length d a).1.2=lb h.cP) (nS (aI t) (j,(d,r)) { st with y:=n,nx:=some B }) (hy t l.length d i a).2:=by
     unfold nS;simp only;cases G:mb (aI t) (d,r) { st with y:=n,nx:=some B }with
     |error f=>rw[G]at w;exact w
     |ok h=>
      rw[G]at w;obtain⟨N,a9,a1,P⟩:=w;exact⟨_,a9,h.1,a1,rfl,P⟩
    refine gh a4 K ?_;rintro b0 a6 c8 M a8 ⟨h,c0,C,D,E,R,S,b1,b2,b3,b4⟩;have y:=RW (t:=t) l.length d i a;rw[DY p.e];have H:XL (hy t l.length d i a).2.A 0 ((j++[h]).map λh=>(0,h)) (AN t l d i a):=by
     rw[List.map_append];refine(z.ar y).b7 ⟨rfl,?_⟩;intro I O c9 c1 z;match I with
     |0=>
      grind
     |I+1=>grind
    have a3:m++(oD t l.length a).1.2++[32]++(qE t l.length d a).1.text++[40]++(oC t l.length d a).1.2++JH++di (hy t l.length d i a).1++[59,32]=m++wo h:=by
     grind [wo]
    rw[a3,R,S];obtain⟨c5,c6,a7⟩:=a6;simp only at C D E;subst C;subst D;generalize AN t l d i a=J at *
    generalize (hy t l.length d i a).2=g at *
    rw[Cr];rcases lw a8 (kd:=4) (l:=Jl) Zr with⟨b9,u,o⟩|⟨L,u,o,x⟩|⟨L,u,o,x⟩
    .rw[zt u,Y2 (by rw[o.is Zm];simp)];exact(((o.d6 (J.length) 8).bG (LI _ _ _ _)).bG (LJ o.e k _ _ _ _)).bG (br _ _ _)
    .rw[sI u,Y9 o,qZ o];exact⟨_,x,[h],Zg,rfl,H,Zq,y⟩
    .rw[sI u,Y2 Zg];simp only[Ye,if_false]
     have:=a5 (j++[h]) J (d++[h.t]) a7 (i++[h.num]) (m++wo h) L g M x E Zg Zg H;rw[show (j++[h]).length=j.length+1 by simp]at this;refine this.ak ?_;rintro b0 c7 N ⟨s,b5,b6,b7,b8,a0⟩;refine⟨h::s,by grind [vt],Zg,?_,Zg,y.u a0⟩;grind
  .rw[DU q];exact((p.bd q).d6 _ _).bG A
end
section
variable {t : Zb} {st h : St} {b i j σ1 σ2 : ai} {c f : cB} {g : Mar.ay}
def tL(v:fH):Zb:=Jw++v.t++Jd++v.aq.flatMap wo++[125,32,61,32]++di v.num++[59,32]
def sk(v:fH):List (Int×gg):=v.aq.map λa=>(v.num,a)
def KZ{e:Type}{h}{c:PX e Unit}{d}(a:Sx t h (c d st) b):S t (λj f=>h () j f) (kZ c d st) b:=by
 unfold kZ;cases i:c d st with
 |ok j=>rw[i]at a;exact a
 |error g=>rw[i]at a;exact a
def abW(E:Q t c st b)(a:Zc)(i:List (Int×Int))(d:List Int)(K:i.map (·.1)=d) :
  Sx t (λv q f=>f=c.cF (gO v)/\q.1=a++[v.t]/\q.2.map (·.1)=d++[v.num]/\(fx t a d b).1.bl=v.t/\(fx t a d b).1.num=v.num/\(fx t a d b).1.w=tL v/\XL (fx t a d b).2.A 0 (sk v) (fx t a d b).1.l) (mf (aI t) (a,i) st) (fx t a d b).2:=by
 unfold mf fx;simp only;generalize I:cO t a false (aj t 2 Jz b)=h;generalize G:gI t 10 [] [] [] (Jw++h.1.text++Jd) (aj t 4 Jv h.2)=e;have x:bp (aj t 4 Jl e.2) (cM t d (aj t 4 Jl e.2)).2:=qQ _ _;have y:bp (aj t 4 Jv h.2) (aj t 4 Jl e.2):=by
  grind [bp.u,br,EG]
 refine gh (iH (gd E (kd:=2) (l:=Jz) Zr)) ?_ ?_
 .grind [bp.u,br,pH]
 rintro a3 b0 z A N ⟨⟨rfl,-⟩,rfl⟩;have j:=Bl N a 0 0;rw[I]at j;have F:Sx t (λn (q:gi) f=>f=A/\h.1.text=n.1/\q=(a++[n.1],i)) (jA (name (aI t) (bA 0 0)) (a,i) z) h.2:=by
  unfold jA;simp only;cases k:name (aI t) (bA 0 0) a z with
  |error g=>rw[k]at j;exact j
  |ok p=>
   rw[k]at j;obtain⟨u,s,rfl,r,a7,B⟩:=j;exact⟨_,s,rfl,r,by rw[B]⟩
 refine gh F ((br _ _ _).u (y.u x)) ?_;rintro n b1 a0 u s ⟨rfl,r,rfl⟩;unfold wN;have J:Sx t (λ_ (o:List gg×gi) f=>f=u.cF (o.1.flatMap py)/\XL e.2.A 0 (o.1.map λp=>(0,p)) e.1.1/\e.1.2=Jw++n.1++Jd++o.1.flatMap wo) (fp (aI t) 8 (nS (aI t)) ([],([],[])) a0) (aj t 4 Jl e.2):=by
  unfold fp;refine gh (iH (gd s (kd:=4) (l:=Jv) Zr)) y ?_;rintro a3 b4 a1 a4 O ⟨⟨rfl,-⟩,rfl⟩;rw[Cq];have:=abN (t:=t) 9 [] [] [] [] [] (Jw++h.1.text++Jd) a1 (aj t 4 Jv h.2) _ O rfl Zq Zq (Gg _ _);rw[G]at this;refine this.ak ?_;simp_all
 refine gh (iH (KZ J)) x ?_;rintro o b2 a2 a5 P ⟨⟨H,C,a8⟩,rfl⟩;have m:=Lq P i d K;unfold aP nI;simp only;cases k:pf (aI t) i a2 with
 |error g=>rw[k]at m;exact m
 |ok p=>
  obtain⟨M,a9,b3⟩:=p;rw[k]at m;obtain⟨a6,R,rfl,w,D⟩:=m;have L:(cM t d (aj t 4 Jl e.2)).2.A=e.2.A:=by
   have:=(qt (t:=t) d (aj t 4 Jl e.2)).A;unfold cM;simp only;exact((aF (t:=t) 4 [61] (aj t 4 Jl e.2)).u ((io _ _ _).u ((na _ _ _ _).u (aF _ _ _)))).A
  refine⟨_,R,H,rfl,D,r,w.symm,?_,?_⟩
  .grind [tL]
  .rw[<-w,L];exact C.e0 M
def RZ(a:Zc)(c:List Int)(b:ai):dl b (fx t a c b).2:=Ht ..
def LO(a:Zc)(c:List Int)(b:ai):bp b (fx t a c b).2:=by
 exact(br _ _ _).u ((pH _ _ _).u ((br _ _ _).u ((EG _ _ _ _ _ _).u ((br _ _ _).u (qQ _ _)))))
theorem BE(g:b.s.e=0)(f:Nat)(c:Zc)(a:List Int)(all:List ct)(d:Zb):fw t (f+1) c a all d b =
  if aJ (fx t c a (aV a.length 4 b)).2 4 Jl=true then ((all++(fx t c a (aV a.length 4 b)).1.l,d++(fx t c a (aV a.length 4 b)).1.w),(fx t c a (aV a.length 4 b)).2)
  else fw t f (c++[(fx t c a (aV a.length 4 b)).1.bl]) (a++[(fx t c a (aV a.length 4 b)).1.num]) (all++(fx t c a (aV a.length 4 b)).1.l) (d++(fx t c a (aV a.length 4 b)).1.w) (fx t c a (aV a.length 4 b)).2:=by
 simp_all[fw]
def LN(g:b.s.e=0)(d:Nat)(c:Zc)(a:List Int)(all:List ct)(f:Zb):bp (fx t c a (aV a.length 4 b)).2 (fw t (d+1) c a all f b).2:=by
 grind [BE,fl,EJ]
def abX:∀(j:Nat) (i:List fH) (h:Zc) (r:List (Int×Int)) (d:List Int) (all:List ct) (m:Zb) (st:St) (b:ai) (c:cB),Q t c st b->r.map (·.1)=d->d.length=i.length->i.length+j=5->i.length<=4->XL b.A 0 (i.flatMap sk) all->
  Sx t (λ_ n f=>∃s,f=c.cF (s.flatMap gO)/\n.1=i++s/\XL (fw t (j+1) h d all m b).2.A 0 ((i++s).flatMap sk) (fw t (j+1) h d all m b).1.1/\(fw t (j+1) h d all m b).1.2=m++s.flatMap tL/\dl b (fw t (j+1) h d all m b).2) (qm (aI t) 4 (mX (aI t)) j i.length (i,(h,r)) st) (aj t 4 Jl (fw t (j+1) h d all m b).2):=by
 intro j;induction j with
 |zero=>omega
 |succ j a3=>
  intro i h r d all m st b c p a0 c0 b8 b9 a2;have y:=(LN (t:=t) p.e (j+1) h d all m).u (br (t:=t) 4 Jl _);have B:=(LO (t:=t) h d (aV d.length 4 b)).u y;unfold qm;rcases pk t st with⟨C,n,q⟩|⟨g,q⟩
  .rw[DV q];have w:=p.d6 q d.length 4;by_cases G:4<=i.length
   .rw[Bc G];rw[Y9 Zm]at w;rw[w]at B;exact(p.d2 (e:=5) (a:=C.y) Zm).bG B
   .rw[Be G];rw[Y2 Zm]at w;rw[BE p.e];rw[BE p.e]at y;rw[w]at y ⊢;have x:=abW (p.g8 q) h r d a0;have A:=RZ (t:=t) h d b;generalize fx t h d b=k at *
    have a1:Sx t (λ_ (n:List fH×gi) f=>∃v,f=c.cF (gO v)/\n.1=i++[v]/\n.2.1=h++[v.t]/\n.2.2.map (·.1)=d++[v.num]/\k.1.bl=v.t/\k.1.num=v.num/\k.1.w=tL v/\XL k.2.A 0 (sk v) k.1.l) (mX (aI t) (i,(h,r)) { st with y:=n,nx:=some C }) k.2:=by
     unfold mX;simp only;cases H:mf (aI t) (h,r) { st with y:=n,nx:=some C }with
     |error g=>rw[H]at x;exact x
     |ok a7=>
      rw[H]at x;obtain⟨L,a9,S,M⟩:=x;exact⟨_,a9,a7.1,S,rfl,M⟩
    refine gh a1 y ?_;rintro b0 a5 c4 K a8 ⟨v,b7,D,E,F,N,O,P,b1⟩;rw[N,O,P];have I:XL k.2.A 0 ((i++[v]).flatMap sk) (all++k.1.l):=by
     rw[YK];refine(a2.ar A).b7 ?_;grind
    obtain⟨c1,c2,a6⟩:=a5;simp only at D E F;subst D;subst E;generalize k.1.l=a4 at *
    generalize k.2=σ2 at *
    rw[Cr];rcases lw a8 (kd:=4) (l:=Jl) Zr with⟨b6,u,o⟩|⟨J,u,o,z⟩|⟨J,u,o,z⟩
    .rw[zt u,Y2 (by rw[o.is Zm];simp)];exact(((o.d6 _ _).bG (LO _ _ _)).bG (LN o.e j _ (d++[v.num]) _ _)).bG (br _ _ _)
    .rw[sI u,Y9 o,qZ o];exact⟨_,z,[v],Zg,rfl,I,Zq,A⟩
    .rw[sI u,Y2 Zg];simp only[Ye,if_false]
     have:=a3 (i++[v]) (h++[v.t]) a6 (d++[v.num]) (all++a4) (m++tL v) J σ2 K z F Zg Zg Zg I;rw[show (i++[v]).length=i.length+1 by simp]at this;refine this.ak ?_;rintro b0 c3 L ⟨s,b2,b3,b4,b5,R⟩;refine⟨v::s,by grind [vt],Zg,?_,Zg,A.u R⟩;grind
  .rw[DU q];exact((p.bd q).d6 _ _).bG B
def yu(b:Zb)(c:List fH)(a:Int):Zb:=Jj++b++Jd++c.flatMap tL++[125,32,61,32]++di a++[59,10]
def Lg{d:Type}{a:List d}{b:Nat}{c}(e:a[b]? = some c):a.set b c=a:=by
 apply List.ext_getElem?;grind
def aaW{d:Type}(e:¬4<=st.am.length)(c:Nat)(a:Unit->PM d):aM (λb=>ft b.am.length 4 c b) a st=a () st:=by
 simp_all[aM,ft,Y2]
def aaV{d:Type}(e:4<=st.am.length)(a:Nat)(c:Unit->PM d):aM (λb=>ft b.am.length 4 a b) c st=.error ⟨5,a⟩:=by
 simp_all[aM,ft]
def abO{s:Mar.aX}{m:Nat}(C:Q t c st b)(x:c.pd=[])(c0:c.dc=0)(a1:fj t st.y st.nx=.ok (s,m))(c1:aJ b 2 Jc=true) :
  S t (λd f=>∃a5 a k h ps,d=.prog a5 a k h/\tP c f d (yu a5 k h) ps/\XL (iD t b).A h (k.flatMap sk) ps) (kU (jZ (aI t) s.y) { st with y:=m,nx:=none }) (iD t b):=by
 have c3:=C.ag a1;have E:=C.d6 a1 b.am.length 4;have e4:b.am.length=st.am.length:=by rw[C.pg];simp
 have a8:=acJ (t:=t) b;by_cases L:4<=st.am.length
 .rw[Y9 Zm]at E;have q:jZ (aI t) s.y { st with y:=m,nx:=none } = .error ⟨5,s.y⟩:=aaV (st:={ st with y:=m,nx:=none }) L _ _;rw[kV q];rw[E]at a8;exact(C.d2 (e:=5) (a:=s.y) Zm).bG a8
 .rw[Y2 Zm]at E;have c2:jZ (aI t) s.y { st with y:=m,nx:=none } = aM (iK (aI t)) (qG (aI t)) { st with y:=m,nx:=none }:=aaW (st:={ st with y:=m,nx:=none }) L _ _;unfold iD;simp only;rw[E,qZ c1];generalize c9:bi t 2 (bq t b)=A;generalize c8:fw t 6 [] [] [] (Jj++A.1.text++Jd) (aj t 4 Jv A.2)=v;have b0:bp (aj t 4 Jv A.2) (aj t 4 Jl v.2):=by
   grind [bp.u,br,EJ]
  have a7:bp (aj t 4 Jl v.2) (cM t (aj t 4 Jl v.2).am (aj t 4 Jl v.2)).2:=qQ _ _;have a2:Sm (aj t 4 Jl v.2) (cM t (aj t 4 Jl v.2).am (aj t 4 Jl v.2)).2:=by
   unfold cM;exact(aF _ _ _).u ((io _ _ _).u ((na _ _ _ _).u (aF _ _ _)))
  have q:S t (λd f=>∃(h:Zb×Nat) (k:List fH),d=.prog h.1 h.2 k (cM t (aj t 4 Jl v.2).am (aj t 4 Jl v.2)).1/\f=(c.a2 h.1).cF (k.flatMap gO)/\aO c.nl h.1=none/\XL v.2.A 0 (k.flatMap sk) v.1.1/\v.1.2=Jj++h.1++Jd++k.flatMap tL)
    (jZ (aI t) s.y { st with y:=m,nx:=none }) { (cM t (aj t 4 Jl v.2).am (aj t 4 Jl v.2)).2 with am:=(cM t (aj t 4 Jl v.2).am (aj t 4 Jl v.2)).2.am++[(cM t (aj t 4 Jl v.2).am (aj t 4 Jl v.2)).1] }:=by
   rw[c2];have M:=wz c3 x;rw[c9]at M;refine gP M ((br _ _ _).u (b0.u (a7.u (wD rfl)))) ?_;rintro h d4 b1 j ⟨rfl,e8,d7,d8,e9⟩;unfold qG;have b9:Sx t (λ_ (m:List fH×gi) f=>f=(c.a2 h.1).cF (m.1.flatMap gO)/\XL v.2.A 0 (m.1.flatMap sk) v.1.1/\v.1.2=Jj++h.1++Jd++m.1.flatMap tL) (fp (aI t) 4 (mX (aI t)) ([],([],[])) d4) (aj t 4 Jl v.2):=by
    unfold fp;refine gh (iH (gd j (kd:=4) (l:=Jv) Zr)) b0 ?_;rintro d7 e6 d6 J w ⟨⟨rfl,-⟩,rfl⟩;rw[Cq];have:=abX (t:=t) 5 [] [] [] [] [] (Jj++A.1.text++Jd) d6 (aj t 4 Jv A.2) _ w rfl rfl Zq Zq (Gg _ _);rw[c8]at this;refine this.ak ?_;simp_all
   refine gP (KZ b9) (a7.u (wD rfl)) ?_;rintro a4 e5 d9 d1 ⟨rfl,b4,b5⟩;unfold rM;generalize aj t 4 Jl v.2=i at *
   generalize hF:({ (cM t i.am i).2 with am:=(cM t i.am i).2.am++[(cM t i.am i).1] }:ai)=B;have d5:bp (aj t 4 [61] i) B:=by
    rw[<-hF];unfold cM;exact(jF _ _ _).u ((nQ _ _ _ _).u ((br _ _ _).u (wD rfl)))
   refine gP (σ1:=B) (gP (σ2:=B) (R':=λF f=>f=(c.a2 h.1).cF (a4.1.flatMap gO)/\F=(cM t i.am i).1) (gd d1 (kd:=4) (l:=[61]) Zr) d5 ?_) (fl B) ?_
   .rintro e7 y J w ⟨rfl,-⟩;have c4:y.am.map (·.1)=i.am:=w.pg.symm;have D:=Bk w y.am i.am c4 0 4294967295;have c5:=a2.am;unfold aM qC;rw[<-hF,c5];unfold cM;simp only;cases u:hx (aI t) (dV 0 4294967295) y.am y with
    |error g=>
     rw[u]at D;exact(Er.bG D (br _ _ _)).bG (wD rfl)
    |ok I=>
     obtain⟨F,a3,a6⟩:=I;rw[u]at D;obtain⟨e0,p,rfl,b6,b7,-,-⟩:=D;simp only;have d2:Q t _ { a6 with am:=a3 } { (if(bV t 0 4294967295 (aj t 4 [61] i)).2.s.e=0/\i.am.contains (bV t 0 4294967295 (aj t 4 [61] i)).1.1=true then cm 6 (bV t 0 4294967295 (aj t 4 [61] i)).1.2 (bV t 0 4294967295 (aj t 4 [61] i)).2 else (bV t 0 4294967295 (aj t 4 [61] i)).2)with am:=i.am++[F] }:=⟨p.e,p.wd,p.nl,p.pd,p.nm,p.O,p.cn,b7.symm,p.cX,p.cg,p.ou,p.pr,p.eD,p.fD⟩
     have r:=gd d2 (kd:=4) (l:=[59]) Zr;subst b6;cases N:cI (aI t) [59] { a6 with am:=a3 }with
     |error g=>
      rw[N]at r;have r:Er g _:=r;exact⟨r.e,r.a,r.z⟩
     |ok G=>
      rw[N]at r;obtain⟨e1,d3,rfl,-⟩:=r;exact⟨_,d3,rfl,rfl⟩
   .rintro F y J w ⟨rfl,rfl⟩;exact S.ret w ⟨h,a4.1,rfl,rfl,d8,b4,b5⟩
  cases u:jZ (aI t) s.y { st with y:=m,nx:=none }with
  |error g=>
   rw[u]at q;have q:Er g _:=q;rw[kV u];exact⟨q.e,q.a,q.z⟩
  |ok I=>
   obtain⟨d,a9⟩:=I;rw[u]at q;obtain⟨b1,j,h,k,rfl,rfl,b2,b3,e2⟩:=q;have c6:(cM t (aj t 4 Jl v.2).am (aj t 4 Jl v.2)).2.A=v.2.A:=a2.A;rw[sY u];generalize cM t (aj t 4 Jl v.2).am (aj t 4 Jl v.2)=n at *
   have P:aO (c.a2 h.1).nl h.1=some none:=by simp_all[th]
   have c7:a9.K=(c.a2 h.1).nl:=by rw[j.nl];simp[cB.cF,x]
   obtain⟨d0,G,e3,H,K,b8⟩:=CT j P;have R:=j.nm.a5 (d:=.prog h.1 h.2 k n.1) (r:=G) P H ⟨b8,by
    have:=j.nm.gY d0 _ _ H K;exact this.2⟩
   have O:=j.fD.a5 H (.prog h.1 h.2 k n.1) G;rw[Lg K]at R O;refine⟨{ ((c.a2 h.1).cF (k.flatMap gO)).a5 h.1 (.prog h.1 h.2 k n.1)with o:=c.o++yu h.1 k n.1,ps:=c.ps++v.1.1.map λm=>{ m with prog:=n.1 } },?_,h.1,h.2,k,n.1,_,rfl,⟨x,c0,rfl,rfl,rfl,rfl,[],uX b2,Zq⟩,?_⟩
   .refine⟨j.e,j.wd,?_,Y8 x,R,j.O,j.cn,j.pg,j.cX,j.cg,?_,?_,j.eD,O⟩
    .show ep a9.K h.1 _=ep _ h.1 _++c.pd;rw[c7,x,YH];rfl
    .show n.2.w++_=c.o++yu h.1 k n.1;have a0:n.2.w=c.o:=j.ou;grind [yu]
    .show n.2.aq++_=c.ps++_;have a0:n.2.aq=c.ps:=j.pr;rw[a0]
   .show XL n.2.A n.1 _ _;rw[c6];exact b3.prog _
end
section
variable {t : Zb} {b i : St} {a c h j m : ai} {f d : cB} {g : Mar.ay}
def eq(a c:ai):Prop:=∃b,c.A=a.A++b
theorem ri(a:ai):eq a a:=⟨[],Zq⟩
theorem eq.u(b:eq a c)(d:eq c h):eq a h:=by
 obtain⟨e,g⟩:=b;obtain⟨f,i⟩:=d;exact⟨e++f,Zu⟩
def dl.a9(b:dl a c):eq a c:=by obtain⟨e,d,-⟩:=b.A;exact⟨e,d⟩
def Td(b:c.A=a.A):eq a c:=⟨[],Zu⟩
def Da(b:bD)(a:ai):eq a (dj b a):=⟨[b],rfl⟩
def zY(b:Zb)(a:ai):eq a (fP b a):=ri _
def HK(c:Zb)(b:Int)(a:ai):eq a (eK c b a):=by
 unfold eK iO;split<;>exact⟨[],Zq⟩
def Db(c:Zb)(b:Int)(a:ai):eq a (eH c b a):=by
 unfold eH iO;split<;>exact⟨[],Zq⟩
def rS(b:Int)(a:ai):eq a (bi t b a).2:=Td (qM b a)
theorem SZ(a:ai):eq a (ih t a):=by
 unfold ih;simp only;generalize e:bi t 2 (aj t 2 Je (aV a.aN 40 a))=b;have c:eq a b.2:=by rw[<-e];exact((dR ..).u (aF ..)).ar.a9.u (rS ..)
 have d:eq a (aj t 4 [59] (bV t (-2147483648) 4294967295 (aj t 4 [61] b.2)).2):=c.u ((aF ..).u ((io ..).u (aF ..))).ar.a9;split
 .omega
 .exact d.u ((HK ..).u (zY ..))
def Tg(a:ai):eq a (iQ t a):=by
 unfold iQ;simp only;generalize d:dv t [] true (aj t 2 Ja a)=b;have c:eq a b.2:=by rw[<-d];exact((aF ..).ar.u (ow ..)).a9
 split
 .omega
 .exact c.u (ri _)
def HJ:∀(c:Nat) (b:List Int) (d:Zb) (a:ai),eq a (eh t c b d a).2.2.2:=by
 intro c;induction c with
 |zero=>intro b d a;exact ri _
 |succ c i=>
  intro b d a;by_cases h:a.s.e=0
  .rw[vV h];have f:eq a (gw t b a):=by
    unfold gw;refine eq.u ?_ (na ..).ar.a9;unfold iA kr;exact((dR ..).u (dR ..)).ar.a9.u ((rS ..).u ((aF ..).u (io ..)).ar.a9)
   have g:eq a (hu t b a):=by
    unfold hu;split
    .omega
    .exact f.u (HK ..)
   split
   .omega
   .split
    .exact g.u ((fR _).ar.a9.u (i ..))
    omega
  grind [us,ri]
def Tc(a:ai):eq a (jx t a):=by
 unfold jx;simp only;generalize g:bi t 2 (aj t 2 Jo a)=b;have d:eq a b.2:=by rw[<-g];exact(aF ..).ar.a9.u (rS ..)
 generalize f:eh t 13 [] (Jm++b.1.text++Jd) (aj t 4 Jv b.2)=c;have e:eq a c.2.2.2:=by rw[<-f];exact d.u ((aF ..).ar.a9.u (HJ ..))
 split
 .omega
 .exact e.u (((aF ..).u (aF ..)).ar.a9.u ((Da ..).u ((Db ..).u (zY ..))))
def Hs:∀(b:Nat) (d:List Int) (c:Zc) (f:Zb) (a:ai),eq a (eM t b d c f a).2.2:=by
 intro b;induction b with
 |zero=>intro d c f a;exact ri _
 |succ b i=>
  intro d c f a;by_cases h:a.s.e=0
  .rw[yI h];have g:eq a (aj t 4 [59] (hh t d.length c a).2):=((dR ..).ar.u ((ow ..).u (aF ..).ar)).a9;split
   .omega
   .exact g.u (i ..)
  grind [yJ,ri]
def Tf(a:ai):eq a (jl t a):=by
 exact(aF ..).ar.a9.u ((rS ..).u ((aF ..).ar.a9.u ((Hs ..).u (((aF ..).u (aF ..)).ar.a9.u ((Da ..).u ((Db ..).u (zY ..)))))))
def HL(of:Int):∀(c:Nat) (b g:List Int) (d:Zc) (f:Zb) (a:ai),eq a (fa t of c b g d f a).2:=by
 intro c;induction c with
 |zero=>intro b g d f a;exact ri _
 |succ c j=>
  intro b g d f a;by_cases i:a.s.e=0
  .rw[vg i];have h:eq a (dy t d (dg t of (14-b.length) b [] a).2).2:=((rG ..).1.ar.u (qs ..)).a9;split
   .exact h.u (j ..)
   omega
  grind [vh,ri]
def Ti(a:ai):eq a (iR t a):=by
 exact(aF ..).ar.a9.u ((rS ..).u (((aF ..).u ((aF ..).u ((tE _).u ((nO _).u ((aF ..).u (aF ..)))))).ar.a9.u ((HL ..).u ((xH ..).a9.u (((aF ..).u (aF ..)).ar.a9.u ((Da ..).u ((Db ..).u (zY ..))))))))
theorem Te(a:ai):eq a (iD t a):=by
 unfold iD;simp only;generalize g:bi t 2 (aj t 2 Jc (aV a.am.length 4 a))=b;have c:eq a b.2:=by rw[<-g];exact((dR ..).u (aF ..)).ar.a9.u (rS ..)
 generalize f:fw t 6 [] [] [] (Jj++b.1.text++Jd) (aj t 4 Jv b.2)=v;have d:eq a (aj t 4 Jl v.2):=by rw[<-f];exact c.u (((aF ..).ar.u ((xJ ..).u (aF ..).ar)).a9)
 have e:=d.u (qt (t:=t) (aj t 4 Jl v.2).am _).a9;exact e.u (ri _)
def xF(e:¬aJ a 2 Je=true)(f:¬aJ a 2 Jc=true)(h:a.s.x.F=2):cJ t a =
  if a.s.x.text=Ja then iQ t (iF a)else if a.s.x.text=Jo then jx t (iF a)else if a.s.x.text=Jf then jl t (iF a)else if a.s.x.text=Jh then iR t (iF a)else ew a:=by
 unfold cJ;rw[Y2 e,Y2 f];by_cases b:a.s.x.text=Ja
 .rw[Y2 Zu,Y9 b,Y9 b];rfl
 .by_cases c:a.s.x.text=Jo
  .rw[Y2 Zu,Y2 b,Y9 c,Y2 b,Y9 c];rfl
  .by_cases d:a.s.x.text=Jf
   .rw[Y2 Zu,Y2 b,Y2 c,Y9 d,Y2 b,Y2 c,Y9 d];rfl
   .by_cases g:a.s.x.text=Jh
    .rw[Y2 Zu,Y2 b,Y2 c,Y2 d,Y2 b,Y2 c,Y2 d,Y9 g];rfl
    simp_all
def xP(a:ai):eq a (iF a):=(dR a.aA 24 a).ar.a9
def Ta(a:ai):eq a (cJ t a):=by
 by_cases b:aJ a 2 Je=true
 .simp_all[cJ,SZ]
 .by_cases c:aJ a 2 Jc=true
  .simp_all[cJ,Te]
  .by_cases d:a.s.x.F=2
   .rw[xF b c d];split
    .exact(xP a).u (Tg _)
    .split
     .exact(xP a).u (Tc _)
     .split
      .exact(xP a).u (Tf _)
      .split
       .exact(xP a).u (Ti _)
       .exact(yE a).ar.a9
   .unfold cJ;rw[Y2 b,Y2 c,Y9 (Y8 d)];exact(yE a).ar.a9
def Ae:List (Zb×Nat×Int)->Zb
 |[]=>[]
 |[a]=>mU a
 |a::c::b=>mU a++[44,32]++Ae (c::b)
theorem Ub(a:List (Zb×Nat×Int))(b:Zb×Nat×Int):Ae (a++[b])=a.flatMap (λb=>mU b++[44,32])++mU b:=by
 induction a with
 |nil=>rfl
 |cons c a d=>
  cases a<;>grind [Ae]
def CJ:aC->Zb
 |.const a _ v=>CE a v
 |.typedef d=>EU d
 |.enum a _ b=>[101,110,117,109,32]++a++[32,123,32]++Ae b++[32,125,59,10]
 |.struct a _ b=>LR a b
 |.union a _ f c=>Mq a f c
 |.prog a _ g e=>yu a g e
def GH:aC->List (Int×Int×gg)
 |.prog _ _ c b=>(c.flatMap sk).map λa=>(b,a)
 |_=>[]
def YL(d:List bD)(e:List (Int×Int×gg))(f:List ct):Prop:=f.length=e.length/\∀(c:Nat) (a:Int×Int×gg) (b:ct),e[c]? = some a->f[c]? = some b->b.prog=a.1/\b.e0=a.2.1/\b.kI=a.2.2.num/\dE d a.2.2.cP b.cP/\dE d a.2.2.cu b.cu
def vL(a:List bD):YL a [] []:=⟨rfl,λd b e c=>by simp⟩
theorem YL.b7{e f j l m}(a:YL e f l)(i:YL e j m):YL e (f++j) (l++m):=by
 refine⟨by simp[a.1,i.1],?_⟩;intro h g k b c;rcases Yj h f.length with d|d
 .rw[Ys d]at b;rw[Ys (by rw[a.1];omega)]at c;exact a.2 h g k b c
 .rw[Yw d]at b;rw[Yw (by rw[a.1];omega),a.1]at c;exact i.2 _ g k b c
def YL.a9{e f}(b:YL a.A e f)(q:eq a c):YL c.A e f:=⟨b.1,λp g r m n=>by
 obtain⟨h,i,j,k,l⟩:=b.2 p g r m n;obtain⟨d,o⟩:=q;rw[o];exact⟨h,i,j,k.b7 d,l.b7 d⟩⟩
def XL.yl{h g b i}(d:XL h g b i):YL h (b.map λc=>(g,c)) i:=by
 refine⟨by simp[d.1],?_⟩;intro f c l a j;rw[List.getElem?_map]at a;cases e:b[f]? with
 |none=>simp_all
 |some k=>
  rw[e]at a;simp at a;subst a;exact d.2 f k l e j
def Sr{c:Mar.aX}{a:Nat}(d:fj t b.y b.nx=.ok (c,a)):kU (ga (aI t)) b=kU (eF (aI t) c) { b with y:=a,nx:=none }:=by
 unfold kU ga aM;rw[qA d]
def Lp(h:Q t f b a)(p:f.pd=[])(o:f.dc=0):S t (λj d=>∃u,tP f d j (CJ j) u/\YL (cJ t a).A (GH j) u) (kU (ga (aI t)) b) (cJ t a):=by
 rcases pk t b with⟨c,E,e⟩|⟨g,e⟩
 .rw[Sr e];have C:=h.wd;rw[e]at C;obtain⟨⟨F,G,a1,a2,a3⟩,I⟩:=C;have a5:=h.is e (kd:=2) (l:=Je) Zr;have a6:=h.is e (kd:=2) (l:=Jc) Zr;by_cases R:c.text=Je
  .have B:aJ a 2 Je=true:=Zu;have i:eF (aI t) c=ko (aI t) c.y:=by simp_all[eF]
   have n:cJ t a=ih t a:=by unfold cJ;simp_all
   rw[i,n];refine(abE h p o e B).ak ?_;rintro j d ⟨m,q,v,rfl,ok⟩;exact⟨[],ok,vL _⟩
  .have L:¬aJ a 2 Je=true:=Zu;by_cases a0:c.text=Jc
   .have B:aJ a 2 Jc=true:=Zu;have i:eF (aI t) c=jZ (aI t) c.y:=by unfold eF;simp_all
    have n:cJ t a=iD t a:=by simp_all[cJ]
    rw[i,n];refine(abO h p o e B).ak ?_;rintro j d ⟨m,q,b0,a8,u,rfl,ok,J⟩;exact⟨u,ok,J.yl⟩
   .have M:¬aJ a 2 Jc=true:=Zu;by_cases D:a.s.x.F=2
    .rw[xF L M D,G];by_cases w:c.text=Ja
     .have i:eF (aI t) c=kB (aI t) c.y:=by unfold eF;simp_all
      rw[i,Y9 w];refine(abU h p o e (by rw[h.is e Zr,w];rfl)).ak ?_;rintro j d ⟨O,rfl,ok⟩;exact⟨[],ok,vL _⟩
     .rw[Y2 w];by_cases y:c.text=Jo
      .have i:eF (aI t) c=ik (aI t) c.y:=by unfold eF;simp_all
       rw[i,Y9 y];refine(abF h p o e (by rw[h.is e Zr,y];rfl)).ak ?_;rintro j d ⟨m,q,K,a7,rfl,ok⟩;refine⟨[],?_,vL _⟩;grind [CJ,Hn,Ub]
      .rw[Y2 y];by_cases z:c.text=Jf
       .have i:eF (aI t) c=lf (aI t) c.y:=by unfold eF;simp_all
        rw[i,Y9 z];refine(abS h p o e (by rw[h.is e Zr,z];rfl)).ak ?_;rintro j d ⟨m,q,K,rfl,ok⟩;exact⟨[],ok,vL _⟩
       .rw[Y2 z];by_cases A:c.text=Jh
        .have i:eF (aI t) c=ez (aI t) c.y:=by unfold eF;simp_all
         rw[i,Y9 A];refine(abV h p o e (by rw[h.is e Zr,A];rfl)).ak ?_;rintro j d ⟨m,q,a9,N,rfl,ok⟩;exact⟨[],ok,vL _⟩
        .rw[Y2 A];have i:eF (aI t) c { b with y:=E,nx:=none } = .error ⟨3,c.y⟩:=by
          unfold eF;rw[Y2 Zu,Y2 Zu,Y2 Zu,Y2 Zu,Y2 Zu,Y2 Zu];rfl
         rw[kV i];exact h.g5 e
    .have s:∀m,Mar.et m=true->c.text≠m:=λm a4 P=>D (by rw[F];exact I.ie Zu);have n:cJ t a=ew a:=by simp_all[cJ]
     have i:eF (aI t) c { b with y:=E,nx:=none } = .error ⟨3,c.y⟩:=by
      unfold eF;rw[Y2 Zu,Y2 (by simpa using s Ja Zr),Y2 (by simpa using s Jo Zr),Y2 (by simpa using s Jf Zr),Y2 (by simpa using s Jh Zr),Y2 Zu];rfl
     rw[kV i,n];exact h.g5 e
 .have H:kU (ga (aI t)) b=.error g:=by
   simp_all[kU,ga,aM,rY]
  have r:=h.bd e;have n:cJ t a=ew a:=by
   unfold cJ;rw[Y2 (by rw[r.is Zm];simp),Y2 (by rw[r.is Zm];simp),Y9 (Y8 (by rw[r.k];omega))]
  rw[H,n];exact r.hc
end
section
variable {c b a:Nat}
variable {t : Zb} {i j : St} {σ σ' k l d : ai} {f g : cB} {h : Mar.ay}
theorem eq.av(a:eq σ σ'):σ.A.length<=σ'.A.length:=by
 obtain⟨c,b⟩:=a;simp_all
def sA(b c:Nat)(a:Int):Prop:=a<5\/((b:Int)<=a/\a+1=c)
theorem wk(σ:ai)(a:bD)(c:b<=σ.A.length):sA b (dj a σ).A.length σ.A.length:=Ya ⟨Zm,by show _=(((σ.A++[a]).length:Nat):Int);simp⟩
def Ij(σ:ai):sA σ.A.length (cU t σ).2.A.length (cU t σ).1.1:=by
 unfold cU;split
 .exact Y8 Zq
 .split
  .simp_all[wk,bq]
  .split
   .exact Y8 Zq
   .split
    .exact Y8 Zq
    .split
     .exact Y8 Zq
     .split
      .unfold lF;split
       .exact Y8 Zq
       .split<;>exact Y8 Zq
      .exact Y8 Zq
def CI(b:Zc)(all:Bool)(σ:ai):sA σ.A.length (dv t b all σ).2.A.length (dv t b all σ).1.r:=by
 unfold dv;split
 .unfold jX;simp only;have c:∀a,σ.A.length<=(dz t a (cO t b all (bq t σ)).2).2.A.length:=λa=>((fR _).u ((jE ..).u (qO ..))).ar.a9.av;grind [wk]
 .unfold iJ;simp only;have e:=Ij (t:=t) σ;have c:σ.A.length<=(cU t σ).2.A.length:=(CN σ).a9.av;split
  .exact wk _ _ (Yz c ((fR _).u (jE ..)).ar.a9.av)
  .have d:∀a,σ.A.length<=(dz t a (cO t b all (cU t σ).2).2).2.A.length:=λa=>Yz c ((jE ..).u (qO ..)).ar.a9.av;split
   .exact wk _ _ (d true)
   .split
    .exact wk _ _ (d false)
    .rw[(jE (t:=t) b all (cU t σ).2).A];omega
def Nw(b:Nat)(a:Int):Prop:=a<5\/(b:Int)<=a
def sA.nw{a}(d:sA b c a):Nw b a:=d.imp id And.left
theorem Nw.ak{d}(a:Nw c d)(e:b<=c):Nw b d:=a.imp id λa=>by omega
def Fh(a:Nat)(σ:ai):Prop:=a<=σ.A.length/\∀(c:Nat) (b:bD),σ.A[c]? = some b->a<=c->b.F≠14->∀d∈dh b,Nw a d
def Fh.of(b:Fh a σ)(c:σ'.A=σ.A):Fh a σ':=by unfold Fh;rw[c];exact b
def Fh.row(c:Fh a σ){r:bD}(i:r.F≠14->∀f∈dh r,Nw a f):Fh a (dj r σ):=by
 refine⟨by show a<=(σ.A++[r]).length;have:=c.1;grind,?_⟩;intro e h b g;rw[show (dj r σ).A=σ.A++[r]from rfl]at b;rcases Yj e σ.A.length with d|d
 .rw[Ys d]at b;exact c.2 e h b g
 grind
theorem Io(a b:Int)(c:a=6\/a=7\/a=8):dh (fu a b)=[]:=by rcases c with rfl|rfl|rfl<;>rfl
def Hv(b:Fh a σ):Fh a (cU t σ).2:=by
 unfold cU;split
 .exact b
 .split
  .exact(b.of (σ':=bq t σ) rfl).row (λc=>absurd rfl c)
  .split
   .exact b.of rfl
   .split
    .exact b.of rfl
    .split
     .exact b.of rfl
     .split
      .unfold lF;split
       .exact b.of rfl
       .split<;>exact b.of rfl
      .exact b.of rfl
def CR(f:Fh a σ)(h:Zc)(all:Bool):Fh a (dv t h all σ).2:=by
 unfold dv;split
 .unfold jX;simp only;have d:∀c,Fh a (dz t c (cO t h all (bq t σ)).2).2:=λc=>f.of ((fR _).u ((jE ..).u (qO ..))).A;split
  .exact(d true).row (λ_ e b=>by simp_all[Io])
  .exact(d false).row (λ_ e b=>by grind [Io])
 .unfold iJ;simp only;have g:=Hv (t:=t) f;have i:Nw a (cU t σ).1.1:=(Ij (t:=t) σ).nw.ak f.1;split
  .exact(g.of ((fR _).u (jE ..)).A).row (λ_ e b=>by simp[dh,dP]at b)
  .have d:∀c,Fh a (dz t c (cO t h all (cU t σ).2).2).2:=λc=>g.of ((jE ..).u (qO ..)).A;split
   .exact(d true).row (λ_ e b=>by grind [dh,dP])
   .split
    .exact(d false).row (λ_ e b=>by simp[dh,dP]at b)
    .exact g.of (jE ..).A
def Sh:∀(g:Nat) (b:List Int) (c:Zc) (h:Zb) (σ:ai),Fh a σ->(∀d∈b,Nw a d)->Fh a (eM t g b c h σ).2.2/\∀d∈(eM t g b c h σ).1,Nw a d:=by
 intro g;induction g with
 |zero=>intro b c h σ i k;exact⟨i,k⟩
 |succ g o=>
  intro b c h σ i k;by_cases l:σ.s.e=0
  .rw[yI l];have j:Fh a (aV b.length 12 σ):=i.of (dR ..).A;have m:Fh a (aj t 4 [59] (hh t b.length c σ).2):=(CR (t:=t) j c false).of (aF ..).A;have n:∀d∈b++[(hh t b.length c σ).1.r],Nw a d:=by
    intro d f;rcases Yn.1 f with f|f
    .simp_all
    .simp at f;subst f;exact(CI (t:=t) c false _).nw.ak j.1
   grind
  grind [yJ]
theorem Hu(c:Fh a σ)(b:Zc):Fh a (dy t b σ).2/\Nw a (dy t b σ).1.1:=by
 unfold dy;split
 .exact⟨c.of rfl,Y8 Zq⟩
 .exact⟨(CR (t:=t) c b false).of (aF ..).A,(CI (t:=t) b false _).nw.ak c.1⟩
def Si(of:Int):∀(c:Nat) (b d:List Int) (f:Zc) (g:Zb) (σ:ai),Fh a σ->(∀i∈d,Nw a i)->Fh a (fa t of c b d f g σ).2/\∀i∈(fa t of c b d f g σ).1.2.1,Nw a i:=by
 intro c;induction c with
 |zero=>intro b d f g σ h j;exact⟨h,j⟩
 |succ c m=>
  intro b d f g σ h j;by_cases k:σ.s.e=0
  .rw[vg k];have l:Fh a (dg t of (14-b.length) b [] σ).2:=h.of (rG ..).1.A;grind [Hu,ox]
  grind [vh]
def Sd(c:Fh a σ)(b:Zc):Fh a (jc t b σ).2/\Nw a (jc t b σ).1.1:=by
 unfold jc;split
 .have:=Hu (t:=t) (σ:=aj t 4 [58] (bq t σ)) (c.of rfl) b;omega
 .exact⟨c,Y8 Zq⟩
theorem Bf(a:Zb)(b:Int)(σ:ai):(eH a b σ).A=σ.A:=by
 grind [eH,iO]
def En(a:Zb)(b:Int)(σ:ai):(eK a b σ).A=σ.A:=by
 grind [eK,iO]
def Hw(b:Fh a σ):Fh a (fQ t σ).2:=by
 unfold fQ;split
 .exact b.of rfl
 .exact Hv b
def CS(b:Fh a σ)(c:List Int):Fh a (cM t c σ).2:=by
 exact b.of ((aF ..).u ((io ..).u ((na ..).u (aF ..)))).A
def Sf:∀(f:Nat) (b:List ct) (d:Zc) (c:List Int) (h:Zb) (σ:ai),Fh a σ->Fh a (gI t f b d c h σ).2:=by
 intro f;induction f with
 |zero=>intro b d c h σ g;exact g
 |succ f m=>
  intro b d c h σ g;by_cases k:σ.s.e=0
  .rw[DY k];have i:Fh a (oD t b.length σ).2:=Hw (g.of (dR ..).A);have j:Fh a (oC t b.length d σ).2:=Hw ((i.of (jE ..).A).of (aF ..).A);have l:Fh a (hy t b.length d c σ).2:=CS (j.of (aF ..).A) c;grind
  simp_all[gI]
def Sk(c:Fh a σ)(d:Zc)(b:List Int):Fh a (fx t d b σ).2:=by
 exact CS ((Sf _ _ _ _ _ _ ((c.of (aF ..).A).of ((jE ..).u (aF ..)).A)).of (aF ..).A) b
def Sj:∀(d:Nat) (c:Zc) (b:List Int) (all:List ct) (g:Zb) (σ:ai),Fh a σ->Fh a (fw t d c b all g σ).2:=by
 intro d;induction d with
 |zero=>intro c b all g σ f;exact f
 |succ d j=>
  intro c b all g σ f;by_cases h:σ.s.e=0
  .rw[BE h];have i:Fh a (fx t c b (aV b.length 4 σ)).2:=Sk (f.of (dR ..).A) c b;grind
  grind [EZ]
def Se:∀(c:Nat) (b:List Int) (f:Zb) (σ:ai),Fh a σ->Fh a (eh t c b f σ).2.2.2:=by
 intro c;induction c with
 |zero=>intro b f σ d;exact d
 |succ c j=>
  intro b f σ d;by_cases i:σ.s.e=0
  .rw[vV i];have g:Fh a (gw t b σ):=by
    unfold gw;refine Fh.of ?_ (na ..).A;unfold iA kr;exact Fh.of (Fh.of (Fh.of d ((dR ..).u (dR ..)).A) (qM ..)) ((aF ..).u (io ..)).A
   have h:Fh a (hu t b σ):=by
    unfold hu;split
    .omega
    .exact g.of (En ..)
   split
   .omega
   .split
    .exact j _ _ _ (h.of (fR _).A)
    omega
  grind [us]
def Sg(σ:ai):Fh σ.A.length σ:=⟨Y4 _,λc d b a=>by
 simp_all⟩
def Sb(σ:ai):Fh σ.A.length (cJ t σ):=by
 have i:=Sg σ;generalize σ.A.length=a at *
 by_cases m:aJ σ 2 Je=true
 .unfold cJ;rw[Y9 m];unfold ih;simp only;have j:Fh a (bi t 2 (aj t 2 Je (aV σ.aN 40 σ))).2:=Fh.of (i.of ((dR ..).u (aF ..)).A) (qM ..);generalize bi t 2 (aj t 2 Je (aV σ.aN 40 σ))=e at *
  have g:Fh a (aj t 4 [59] (bV t (-2147483648) 4294967295 (aj t 4 [61] e.2)).2):=j.of ((aF ..).u ((io ..).u (aF ..))).A;split
  .omega
  .exact(g.of (En ..)).of rfl
 .by_cases j:aJ σ 2 Jc=true
  .unfold cJ;rw[Y2 m,Y9 j];unfold iD;simp only;have g:Fh a (bi t 2 (aj t 2 Jc (aV σ.am.length 4 σ))).2:=Fh.of (i.of ((dR ..).u (aF ..)).A) (qM ..);generalize bi t 2 (aj t 2 Jc (aV σ.am.length 4 σ))=o at *
   have f:=Sj (t:=t) 6 [] [] [] (Jj++o.1.text++Jd) (aj t 4 Jv o.2) (g.of (aF ..).A);generalize fw t 6 [] [] [] (Jj++o.1.text++Jd) (aj t 4 Jv o.2)=v at *
   exact(CS (t:=t) (f.of (aF ..).A) (aj t 4 Jl v.2).am).of rfl
  .by_cases g:σ.s.x.F=2
   .rw[xF m j g];have n:Fh a (iF σ):=i.of (dR σ.aA 24 σ).A;generalize iF σ=d at *
    split
    .unfold iQ;simp only;have f:=CR (t:=t) (n.of (aF (t:=t) 2 Ja d).A) [] true;split
     .omega
     .exact f.of rfl
    .split
     .unfold jx;simp only;have f:Fh a (bi t 2 (aj t 2 Jo d)).2:=Fh.of (n.of (aF ..).A) (qM ..);generalize bi t 2 (aj t 2 Jo d)=e at *
      have k:=Se (t:=t) 13 [] (Jm++e.1.text++Jd) (aj t 4 Jv e.2) (f.of (aF ..).A);generalize eh t 13 [] (Jm++e.1.text++Jd) (aj t 4 Jv e.2)=h at *
      split
      .omega
      .refine Fh.of (Fh.of (Fh.row (k.of ((aF (t:=t) 4 Jl _).u (aF (t:=t) 4 [59] _)).A) (r:=⟨5,0,0,h.2.1,[],0,[],0⟩) ?_) (Bf ..)) rfl;grind [dh]
     .split
      .unfold jl;simp only;have f:Fh a (bi t 2 (aj t 2 Jf d)).2:=Fh.of (n.of (aF ..).A) (qM ..);generalize bi t 2 (aj t 2 Jf d)=e at *
       have k:=Sh (t:=t) 14 [] [] (Jp++e.1.text++Jd) (aj t 4 Jv e.2) (f.of (aF ..).A) Zq;generalize eM t 14 [] [] (Jp++e.1.text++Jd) (aj t 4 Jv e.2)=h at *
       refine Fh.of (Fh.of (Fh.row (k.1.of ((aF (t:=t) 4 Jl _).u (aF (t:=t) 4 [59] _)).A) (r:=⟨12,0,0,[],h.1,0,[],0⟩) ?_) (Bf ..)) rfl;grind [dh]
      .split
       .unfold iR;simp only;have f:Fh a (bi t 2 (aj t 2 Jh d)).2:=Fh.of (n.of (aF ..).A) (qM ..);generalize bi t 2 (aj t 2 Jh d)=e at *
        have k:Fh a (cG t (aj t 4 [40] (aj t 2 Jn e.2))).2:=f.of ((aF ..).u ((aF ..).u (tE _))).A;generalize cG t (aj t 4 [40] (aj t 2 Jn e.2))=b at *
        have p:Fh a (aj t 4 Jv (aj t 4 [41] (dT t b.2).2)):=k.of ((nO _).u ((aF ..).u (aF ..))).A;generalize dT t b.2=c at *
        have q:=Si (t:=t) b.1.1 14 [] [] [c.1.text] (Jr++e.1.text++Ji++b.1.2++[32]++c.1.text++Jx) _ p Zq;generalize fa t b.1.1 14 [] [] [c.1.text] (Jr++e.1.text++Ji++b.1.2++[32]++c.1.text++Jx) (aj t 4 Jv (aj t 4 [41] c.2))=l at *
        have r:=Sd (t:=t) q.1 l.1.2.2.1;generalize jc t l.1.2.2.1 l.2=h at *
        refine Fh.of (Fh.of (Fh.row (r.1.of ((aF (t:=t) 4 Jl _).u (aF (t:=t) 4 [59] _)).A) (r:=⟨13,0,b.1.1,l.1.1,l.1.2.1,h.1.1,[],0⟩) ?_) (Bf ..)) rfl;grind [dh]
       .exact i.of rfl
   .unfold cJ;rw[Y2 m,Y2 j,Y9 (Y8 g)];exact i.of rfl
end
section
variable {t : Zb} {f g : St} {σ σ' h i a σ0 : ai} {b c : cB} {d : Mar.ay}
def W1(σ0 σ:ai):Prop:=∀a∈σ.K,a.a7=1->a∈σ0.K
theorem OO(σ:ai):W1 σ σ:=λ_ a _=>a
def W1.of(a:W1 σ0 σ)(b:σ'.K=σ.K):W1 σ0 σ':=by unfold W1;rw[b];exact a
def wO(b:W1 σ0 σ):W1 σ0 (bi t 2 σ).2:=by
 unfold bi;split
 .exact b.of (nO σ).K
 .split
  .exact b.of ((nO σ).u (Bn ..)).K
  .intro c a d;rcases Yn.1 (show c∈(dT t σ).2.K++_ from a)with a|a
   .rw[(nO σ).K]at a;exact b c a d
   simp_all
def aev(e:W1 σ0 σ)(b:Nat)(d g:Int)(h:d≠1):W1 σ0 (iO σ b d g):=by
 intro c a f;rcases List.mem_or_eq_of_mem_set (show c∈σ.K.set b _ from a)with a|a
 .exact e c a f
 simp_all
theorem MC(a:W1 σ0 σ)(c:Zb)(b:Int):W1 σ0 (eK c b σ):=by
 unfold eK;split
 .exact(aev a _ 0 b Zm).of rfl
 .exact a.of rfl
def aew(d:W1 σ0 σ)(f:Zb)(e:Int):∀a∈(eH f e σ).K,a.a7=1->a∈σ0.K\/a.n=e:=by
 unfold eH;split
 .intro a b c;rcases List.mem_or_eq_of_mem_set (show a∈σ.K.set _ _ from b)with b|b
  .exact Y8 (d a b c)
  simp_all
 .intro a b c;exact Y8 (d a b c)
def aeu:∀(b:Nat) (a:List Int) (d:Zb) (σ:ai),W1 σ0 σ->W1 σ0 (eh t b a d σ).2.2.2:=by
 intro b;induction b with
 |zero=>intro a d σ c;exact c
 |succ b h=>
  intro a d σ c;by_cases g:σ.s.e=0
  .rw[vV g];have i:W1 σ0 (gw t a σ):=by
    unfold gw;refine W1.of ?_ (na ..).K;unfold iA kr;exact(wO (c.of ((dR ..).u (dR ..)).K)).of ((aF ..).u (io ..)).K
   have f:W1 σ0 (hu t a σ):=by
    grind [hu,MC]
   split
   .omega
   .split
    .exact h _ _ _ (f.of (fR _).K)
    omega
  grind [us]
def WH:∀(a:Nat) (c:List Int) (b:Zc) (d:Zb) (σ:ai),(eM t a c b d σ).2.2.K=σ.K:=by
 intro a;induction a with
 |zero=>intro c b d σ;rfl
 |succ a h=>
  intro c b d σ;by_cases f:σ.s.e=0
  .rw[yI f];have g:(aj t 4 [59] (hh t c.length b σ).2).K=σ.K:=((dR ..).ar.u ((ow ..).u (aF ..).ar)).K;grind
  .rw[yJ f]
def WI(of:Int):∀(b:Nat) (a f:List Int) (c:Zc) (d:Zb) (σ:ai),(fa t of b a f c d σ).2.K=σ.K:=by
 intro b;induction b with
 |zero=>intro a f c d σ;rfl
 |succ b i=>
  intro a f c d σ;by_cases g:σ.s.e=0
  .rw[vg g];have h:(dy t c (dg t of (14-a.length) a [] σ).2).2.K=σ.K:=((rG ..).1.ar.u (qs ..)).K;grind
  .rw[vh g]
def WF(σ:ai):∀b∈(cJ t σ).K,b.a7=1->b∈σ.K\/sA σ.A.length (cJ t σ).A.length b.n:=by
 have u:=OO σ;by_cases n:aJ σ 2 Je=true
 .unfold cJ;rw[Y9 n];intro b c e;refine Y8 ?_;unfold ih at c;simp only at c;have m:W1 σ (bi t 2 (aj t 2 Je (aV σ.aN 40 σ))).2:=wO (u.of ((dR ..).u (aF ..)).K);generalize bi t 2 (aj t 2 Je (aV σ.aN 40 σ))=d at *
  have i:W1 σ (aj t 4 [59] (bV t (-2147483648) 4294967295 (aj t 4 [61] d.2)).2):=m.of ((aF ..).u ((io ..).u (aF ..))).K;split at c
  .exact i b c e
  .exact MC i _ _ b c e
 .by_cases m:aJ σ 2 Jc=true
  .unfold cJ;rw[Y2 n,Y9 m];intro b c e;refine Y8 ?_;unfold iD at c;simp only at c;have i:W1 σ (bi t 2 (aj t 2 Jc (aV σ.am.length 4 σ))).2:=wO (u.of ((dR ..).u (aF ..)).K);generalize bi t 2 (aj t 2 Jc (aV σ.am.length 4 σ))=d at *
   have j:W1 σ (aj t 4 Jl (fw t 6 [] [] [] (Jj++d.1.text++Jd) (aj t 4 Jv d.2)).2):=i.of ((aF ..).ar.u ((xJ ..).u (aF ..).ar)).K;generalize fw t 6 [] [] [] (Jj++d.1.text++Jd) (aj t 4 Jv d.2)=v at *
   exact(j.of (qt (t:=t) (aj t 4 Jl v.2).am _).K) b c e
  .by_cases i:σ.s.x.F=2
   .rw[xF n m i];have p:W1 σ (iF σ):=u.of (dR σ.aA 24 σ).K;have L:σ.A.length<=(iF σ).A.length:=(xP σ).av;generalize iF σ=a at *
    have y:∀{h:ai} {b:bD} {q x:Zb},eq a h->W1 σ h->∀d∈(fP x (eH q h.A.length (dj b h))).K,d.a7=1->d∈σ.K\/sA σ.A.length (fP x (eH q h.A.length (dj b h))).A.length d.n:=by
     intro h b q x M I d w J;rcases aew (σ:=dj b h) (I.of rfl) q h.A.length d w J with k|k;all_goals grind [fP,Bf,wk,Nat.le_trans,eq.av]
    split
    .unfold iQ;simp only;have G:=CI (t:=t) [] true (aj t 2 Ja a);have e:W1 σ (dv t [] true (aj t 2 Ja a)).2:=p.of ((aF ..).ar.u (ow ..)).K;generalize dv t [] true (aj t 2 Ja a)=z at *
     intro b c k;split at c
     .exact Y8 (e b c k)
     .rename_i H;rw[Y2 H];rcases Yn.1 (show b∈z.2.K++_ from c)with c|c
      .exact Y8 (e b c k)
      .simp at c;subst c;right;refine G.imp id λC=>⟨?_,C.2⟩;have N:((a.A.length:Nat):Int)<=z.1.r:=C.1;grind
    .split
     .unfold jx;simp only;have j:W1 σ (bi t 2 (aj t 2 Jo a)).2:=wO (p.of (aF ..).K);have l:eq a (bi t 2 (aj t 2 Jo a)).2:=(aF ..).ar.a9.u (rS ..);generalize bi t 2 (aj t 2 Jo a)=b at *
      have o:=aeu (t:=t) (σ0:=σ) 13 [] (Jm++b.1.text++Jd) (aj t 4 Jv b.2) (j.of (aF ..).K);have s:=l.u ((aF (t:=t) 4 Jv b.2).ar.a9.u (HJ (t:=t) 13 [] (Jm++b.1.text++Jd) (aj t 4 Jv b.2)));generalize eh t 13 [] (Jm++b.1.text++Jd) (aj t 4 Jv b.2)=A at *
      split
      .intro d w k;exact Y8 (o d w k)
      .exact y (s.u ((aF (t:=t) 4 Jl _).u (aF (t:=t) 4 [59] _)).ar.a9) (o.of ((aF (t:=t) 4 Jl _).u (aF (t:=t) 4 [59] _)).K)
     .split
      .unfold jl;simp only;have j:W1 σ (bi t 2 (aj t 2 Jf a)).2:=wO (p.of (aF ..).K);have l:eq a (bi t 2 (aj t 2 Jf a)).2:=(aF ..).ar.a9.u (rS ..);generalize bi t 2 (aj t 2 Jf a)=b at *
       have o:=(j.of (aF (t:=t) 4 Jv b.2).K).of (WH (t:=t) 14 [] [] (Jp++b.1.text++Jd) (aj t 4 Jv b.2));have s:=l.u ((aF (t:=t) 4 Jv b.2).ar.a9.u (Hs (t:=t) 14 [] [] (Jp++b.1.text++Jd) (aj t 4 Jv b.2)));generalize eM t 14 [] [] (Jp++b.1.text++Jd) (aj t 4 Jv b.2)=A at *
       exact y (s.u ((aF (t:=t) 4 Jl _).u (aF (t:=t) 4 [59] _)).ar.a9) (o.of ((aF (t:=t) 4 Jl _).u (aF (t:=t) 4 [59] _)).K)
      .split
       .unfold iR;simp only;have j:W1 σ (bi t 2 (aj t 2 Jh a)).2:=wO (p.of (aF ..).K);have l:eq a (bi t 2 (aj t 2 Jh a)).2:=(aF ..).ar.a9.u (rS ..);generalize bi t 2 (aj t 2 Jh a)=b at *
        have D:Sm b.2 (cG t (aj t 4 [40] (aj t 2 Jn b.2))).2:=(aF ..).u ((aF ..).u (tE _));generalize cG t (aj t 4 [40] (aj t 2 Jn b.2))=g at *
        have E:Sm g.2 (aj t 4 Jv (aj t 4 [41] (dT t g.2).2)):=(nO _).u ((aF ..).u (aF ..));generalize dT t g.2=f at *
        have K:=WI (t:=t) g.1.1 14 [] [] [f.1.text] (Jr++b.1.text++Ji++g.1.2++[32]++f.1.text++Jx) (aj t 4 Jv (aj t 4 [41] f.2));have F:=HL (t:=t) g.1.1 14 [] [] [f.1.text] (Jr++b.1.text++Ji++g.1.2++[32]++f.1.text++Jx) (aj t 4 Jv (aj t 4 [41] f.2));generalize fa t g.1.1 14 [] [] [f.1.text] (Jr++b.1.text++Ji++g.1.2++[32]++f.1.text++Jx) (aj t 4 Jv (aj t 4 [41] f.2))=r at *
        have B:=xH (t:=t) r.1.2.2.1 r.2;generalize jc t r.1.2.2.1 r.2=A at *
        exact y (l.u ((D.u E).ar.a9.u (F.u (B.a9.u ((aF (t:=t) 4 Jl _).u (aF (t:=t) 4 [59] _)).ar.a9)))) ((((j.of (D.u E).K).of K).of B.K).of ((aF (t:=t) 4 Jl _).u (aF (t:=t) 4 [59] _)).K)
       .intro b c e;exact Y8 c
   .unfold cJ;rw[Y2 n,Y2 m,Y9 (Y8 i)];intro b c e;exact Y8 c
def RK:∀(a:Nat) (b:List Int) (c:Zb) (σ:ai),(eh t a b c σ).2.1.length<=b.length+a:=by
 intro a;induction a with
 |zero=>intro b c σ;exact Y4 _
 |succ a f=>
  intro b c σ;by_cases d:σ.s.e=0
  .rw[vV d];grind
  grind [us]
def aaM:∀(b:Nat) (a:List Int) (d:Zb) (σ:ai),Rn σ->Rn (eh t b a d σ).2.2.2:=by
 intro b;induction b with
 |zero=>intro a d σ c;exact c
 |succ b i=>
  intro a d σ c;by_cases h:σ.s.e=0
  .rw[vV h];have f:Rn (gw t a σ):=by
    unfold gw;refine Rn.of ?_ (na ..).A;unfold iA kr;exact Rn.of (Rn.of (Rn.of c ((dR ..).u (dR ..)).A) (qM ..)) ((aF ..).u (io ..)).A
   have g:Rn (hu t a σ):=by
    unfold hu;split
    .omega
    .exact f.of (En ..)
   split
   .omega
   .split
    .exact i _ _ _ (g.of (fR _).A)
    omega
  grind [us]
def aaL(b:Rn σ):Rn (jx t σ):=by
 unfold jx;simp only;have c:Rn (bi t 2 (aj t 2 Jo σ)).2:=yx (b.ar (aF ..).ar) 2;generalize bi t 2 (aj t 2 Jo σ)=a at *
 have f:=RK (t:=t) 13 [] (Jm++a.1.text++Jd) (aj t 4 Jv a.2);have d:=aaM (t:=t) 13 [] (Jm++a.1.text++Jd) (aj t 4 Jv a.2) (c.ar (aF ..).ar);generalize eh t 13 [] (Jm++a.1.text++Jd) (aj t 4 Jv a.2)=e at *
 split
 .omega
 .refine Bb (Eh (Eg (d.ar ((aF ..).u (aF ..)).ar) _ ⟨?_,Zq⟩) ..) _;grind
theorem PF(of:Int):∀(a:Nat) (b:List Int) (c:Zb) (σ:ai),(dg t of a b c σ).1.1.length<=b.length+a:=by
 intro a;induction a with
 |zero=>intro b c σ;exact Y4 _
 |succ a f=>
  intro b c σ;by_cases d:σ.s.e=0
  .rw[Cw d];split;all_goals grind
  simp_all[dg]
def adY(of:Int):∀(a:Nat) (b c:List Int) (d:Zc) (f:Zb) (σ:ai),b.length<=14->c.length<=14->(fa t of a b c d f σ).1.1.length<=14/\(fa t of a b c d f σ).1.2.1.length<=14:=by
 intro a;induction a with
 |zero=>intro b c d f σ g h;exact⟨g,h⟩
 |succ a j=>
  intro b c d f σ g h;by_cases i:σ.s.e=0
  .rw[vg i];grind [PF,ox]
  grind [vh]
def aaT(of:Int):∀(b:Nat) (a g:List Int) (c:Zc) (f:Zb) (σ:ai),Rn σ->Rn (fa t of b a g c f σ).2:=by
 intro b;induction b with
 |zero=>intro a g c f σ d;exact d
 |succ b j=>
  intro a g c f σ d;by_cases h:σ.s.e=0
  .rw[vg h];have i:Rn (dy t c (dg t of (14-a.length) a [] σ).2).2:=d.ar ((rG ..).1.ar.u (qs ..));grind
  grind [vh]
def aaS(d:Rn σ):Rn (iR t σ):=by
 unfold iR;simp only;have e:Rn (bi t 2 (aj t 2 Jh σ)).2:=yx (d.ar (aF ..).ar) 2;generalize bi t 2 (aj t 2 Jh σ)=c at *
 have f:Rn (cG t (aj t 4 [40] (aj t 2 Jn c.2))).2:=e.of ((aF ..).u ((aF ..).u (tE _))).A;generalize cG t (aj t 4 [40] (aj t 2 Jn c.2))=b at *
 have g:Rn (aj t 4 Jv (aj t 4 [41] (dT t b.2).2)):=f.of ((nO _).u ((aF ..).u (aF ..))).A;generalize dT t b.2=a at *
 have h:=aaT (t:=t) b.1.1 14 [] [] [a.1.text] (Jr++c.1.text++Ji++b.1.2++[32]++a.1.text++Jx) _ g;have i:=adY (t:=t) b.1.1 14 [] [] [a.1.text] (Jr++c.1.text++Ji++b.1.2++[32]++a.1.text++Jx) (aj t 4 Jv (aj t 4 [41] a.2)) Zq Zq;generalize fa t b.1.1 14 [] [] [a.1.text] (Jr++c.1.text++Ji++b.1.2++[32]++a.1.text++Jx) (aj t 4 Jv (aj t 4 [41] a.2))=j at *
 refine Bb (Eh (Eg ((h.ar (xH ..)).ar ((aF ..).u (aF ..)).ar) _ ⟨?_,?_⟩) ..) _;all_goals grind
def aaK(b:Rn σ):Rn (cJ t σ):=by
 by_cases c:aJ σ 2 Je=true
 .simp_all[cJ,aaJ]
 .by_cases d:aJ σ 2 Jc=true
  .simp_all[cJ,aaO]
  .by_cases e:σ.s.x.F=2
   .rw[xF c d e];have a:Rn (iF σ):=b.of (dR σ.aA 24 σ).A;split
    .exact aaR a
    .split
     .exact aaL a
     .split
      .exact aaP a
      .split
       .exact aaS a
       .exact b.of rfl
   .unfold cJ;rw[Y2 c,Y2 d,Y9 (Y8 e)];exact b.of rfl
end
section
variable {t : Zb} {g k : St} {e w x z A y : ai} {f l : cB} {u : Mar.ay} {h : List aC} {d : aC}
def lg(a:Zb×Option aC):Option aC:=match a.2 with
 |some d=>if ei d=true then some d else none
 |none=>none
structure Wh(t:Zb)(h:List aC)(f:cB)(g:St)(e:ai):Prop where
 q:Q t f g e
 pd:f.pd=[]
 dc:f.dc=0
 fz:f.fz=e.K
 o:f.o=h.flatMap CJ
 ps:YL e.A (h.flatMap GH) f.ps
 rf:f.rf=(h.flatMap gR).map λp=>(p.1,(p.2:Int))
 nl:f.nl.filterMap lg=h.filter ei
 jJ:∀p∈f.nl,p.2≠none
 g9:∀p∈f.nl,∀d,p.2=some d->ei d=true->(bQ d).1=p.1
 ij:∀(i j:Nat) (a b:hI),e.K[i]? = some a->e.K[j]? = some b->i≠j->a.a7=1->b.a7=1->a.n=b.n->a.n<5
 tr:∀(i:Nat) (r:bD),e.A[i]? = some r->r.F≠14->∀c∈dh r,5<=c->∀m∈e.K,m.a7=1->m.n≠c
 g7:cC e
 rn:Rn e
 ti:od g h
def wa{c:Type}{b:List c}{a:Nat}{d}(e:b[a]? = some d):a<b.length:=by
 grind
def Q.a7(m:Q t f g e){l:Nat}{c a}(p:f.nl[l]? = some c)(q:e.K[l]? = some a)(r:a.a7=1):∃d,c.2=some d/\ei d=true/\a.s=c.1/\a.y=(bQ d).2/\kN e.A f.nl d a.n:=by
 obtain⟨k,b⟩:=m.nm.gY l c a p q;cases o:c.2 with
 |none=>simp_all
 |some d=>
  rw[o]at b;cases d with
  |const h i j=>omega
  |prog h i j d=>omega
  |typedef d=>exact⟨_,rfl,rfl,k,b.2⟩
  |enum h i j=>exact⟨_,rfl,rfl,k,b.2⟩
  |struct h i j=>exact⟨_,rfl,rfl,k,b.2⟩
  |union h i j d=>exact⟨_,rfl,rfl,k,b.2⟩
def Q.k2(c:Q t f g e){d h:Nat}{a b}(i:e.K[d]? = some a)(j:e.K[h]? = some b)(k:a.s=b.s):d=h:=by
 have l:(e.K.map (·.s)).Nodup:=by rw[c.nm.kw];exact c.nm.nd
 grind [List.pairwise_iff_getElem]
theorem Wh.b6(c:Wh t h f g e)(a7:kU (ga (aI t)) g=.ok (d,k)):∃l,Wh t (h++[d]) l k (cJ t e):=by
 have b1:=Lp c.q c.pd c.dc;rw[a7]at b1;obtain⟨r,j,e1,ok,d8⟩:=b1;obtain⟨c5,M,a6⟩:=ok.nl;have a9:=Ta (t:=t) e;have a8:=j.fD.1;rw[ok.fz,c.fz]at a8;obtain⟨e0,d4⟩:=a8;have d3:e.K.length=f.nl.length:=c.q.nm.av;have a5:∀x∈r.nl,x.2≠none:=by
  intro x i;rw[M]at i;rcases Yn.1 i with i|i
  .exact c.jJ x i
  grind
 have L:∀(a:Nat) (b:hI),(cJ t e).K[a]? = some b->b.a7=1->a<e.K.length\/a=e.K.length:=by
  intro a b s A;rcases Yj a e.K.length with p|p
  .omega
  .right;have w:a<r.nl.length:=by rw[<-j.nm.av];grind
   obtain⟨b4,N⟩:∃b4,r.nl[a]? = some b4:=⟨_,Yd w⟩;obtain⟨c6,a4,S,-⟩:=j.a7 N s A;rcases Yj e.K.length a with D|D
   .exfalso;rw[M,Yw Zm]at N;obtain⟨b3,K⟩:∃b3,a-f.nl.length=b3+1:=⟨a-f.nl.length-1,Zm⟩;rw[K,List.getElem?_cons_succ]at N;obtain⟨c3,c4,e3,R⟩:=a6 _ (Yh N);rw[R]at a4;cases a4
    cases S
   omega
 have H:∀(a:Nat) (b:hI),a<e.K.length->(cJ t e).K[a]? = some b->e.K[a]? = some b:=by
  grind
 have a2:∀(b:hI),(cJ t e).K[e.K.length]? = some b->b.a7=1->sA e.A.length (cJ t e).A.length b.n:=by
  intro b s A;rcases WF (t:=t) e b (Yh s) A with p|p
  .exfalso;obtain⟨q,z,d0⟩:=List.mem_iff_getElem.1 p;have G:(cJ t e).K[q]? = some b:=Zg;have:=j.k2 s G rfl;omega
  omega
 have c8:ga (aI t) g=.ok (d,{ k with K:=k.K })\/True:=Ya trivial;have a0:∃P,ga (aI t) g=.ok (d,P)/\k = { P with K:=ep P.K (bQ d).1 d }:=by
  cases m:ga (aI t) g with
  |error u=>grind [kV]
  |ok e2=>
   rw[sY m]at a7;grind
 obtain⟨P,a0,c2⟩:=a0;have b5:=c.rn.g6;refine⟨{ r with fz:=(cJ t e).K },⟨⟨j.e,j.wd,j.nl,j.pd,j.nm,j.O,j.cn,j.pg,j.cX,j.cg,j.ou,j.pr,j.eD,⟨⟨[],Zq⟩,λq x _ i=>a5 x (Yh i)⟩⟩,ok.pd,ok.dc,rfl,?_,?_,?_,?_,a5,?_,?_,?_,Wm c.g7 b5,aaK c.rn,?_⟩⟩
 .show r.o=_;rw[ok.o,c.o];simp
 .show YL _ _ r.ps;rw[ok.ps,YK];exact(c.ps.a9 a9).b7 Zg
 .show r.rf=_;rw[ok.rf,c.rf];simp
 .show r.nl.filterMap lg=_;rw[M,List.filterMap_append,c.nl,List.filter_append];grind [lg,List.filterMap_eq_nil_iff,ei]
 .intro x i R a1 b2;have i:x∈r.nl:=i;rw[M]at i;rcases Yn.1 i with i|i
  .exact c.g9 x i R a1 b2
  .rcases Yg.1 i with rfl|i
   .grind
   .obtain⟨b,y,v,S⟩:=a6 x i;rw[S]at a1;cases a1
    cases b2
 .intro a q b y s E b8 I F b6;rcases L a b s I with w|w
  .rcases L q y E F with z|z
   .exact c.ij a q b y (H a b w s) (H q y z E) b8 I F b6
   .subst z;have d5:=c.g7 b (Yh (H a b w s)) I;rcases a2 y E F with p|p;all_goals omega
  .subst w;rcases L q y E F with z|z
   .have d6:=c.g7 y (Yh (H q y z E)) F;rcases a2 b s I with p|p;all_goals omega
   omega
 .intro a O a3 K C m b7 B b9 A;have J:=j.cg a O a3;have c7:C<(max a 5:Nat):=by
   unfold dh at m;split at m
   .simp at m;subst m;exact J.1
   .split at m
    .exact J.2.1 C m
    .split at m
     .rcases Yn.1 m with m|m
      .exact J.2.1 C m
      .simp at m;subst m;exact J.2.2.1
     grind
  have c9:=wa a3;obtain⟨q,z,d1⟩:=List.mem_iff_getElem.1 b9;have G:(cJ t e).K[q]? = some B:=Zg;intro c0;rcases L q B G A with p|p
  .have b0:=H q B p G;have d7:=c.g7 B (Yh b0) A;rcases Yj a e.A.length with w|w
   .have c1:e.A[a]? = some O:=by
     obtain⟨d9,d2⟩:=a9;grind
    exact c.tr a O c1 K C m b7 B (Yh b0) A c0
   .rcases(Sb (t:=t) e).2 a O a3 w K C m with D|D<;>omega
  .subst p;rcases a2 B G A with D|D;all_goals omega
 .rw[c2];exact c.ti.b6 a0
end
section
variable {f : Zb} {c k : St} {b l m p r o : ai} {g j : cB} {i : Mar.ay} {h : List aC} {d : aC}
def start(f:Zb):ai:={ lc with s:=⟨hQ f 0,0,0⟩,A:=nA }
def uv:cB:=⟨0,[],[],[],[],[],[]⟩
def aeA(f:Zb):Wh f [] uv fS (start f):=by
 have g:∀(a:Nat) (b:bD),nA[a]? = some b->zn (max a 5) b/\b.F≠14/\dh b=[]/\b.aR=[]/\b.bz=[]:=by
  intro a b c;have h:=wa c;have:a=0\/a=1\/a=2\/a=3\/a=4:=by simp[nA]at h;omega
  rcases this with rfl|rfl|rfl|rfl|rfl<;>(simp[nA]at c;subst c;refine⟨⟨Zq,Zq,Zq,Zq⟩,Zq,rfl,rfl,rfl⟩)
 refine⟨⟨rfl,MJ f 0,rfl,Y8 rfl,⟨rfl,λa i b e=>by simp[uv]at e,by simp[uv]⟩,rfl,rfl,rfl,⟨[],rfl⟩,λa b c=>(g a b c).1,rfl,rfl,rfl,⟨⟨[],rfl⟩,λr i l=>by simp[uv]at l⟩⟩,rfl,rfl,rfl,rfl,vL _,rfl,rfl,?_,?_,?_,?_,?_,?_,?_⟩
 .intro i e;simp[uv]at e
 .intro i e;simp[uv]at e
 .grind [start,lc]
 .intro a b c q n k;rw[(g a b c).2.2.1]at k;grind
 .intro s m;simp[start,lc]at m
 .refine⟨by simp[start,nA],?_⟩;intro b c;obtain⟨a,h⟩:=List.mem_iff_getElem?.1 c;obtain⟨-,-,-,o,p⟩:=g a b h;simp_all
 .exact⟨by simp[fS],by simp[fS],by simp[fS],Zq,λt d j=>by simp[fS,aO]at j⟩
def gK(b:ai)(a:bD):bD:=if a.F=14 then { a with of:=(gb b a.bl).n }else a
def iL(b:ai)(a:Nat):ai:={ b with A:=(b.A.take a).map (gK b)++b.A.drop a }
def XN(b:ai):iL b 0=b:=Zr
def XM(b:ai):iL b b.A.length = { b with A:=b.A.map (gK b) }:=by simp[iL]
def DR{a:Nat}{c}(d:b.A[a]? = some c):(iL b a).A.getD a bP=c:=by
 have e:=wa d;have f:((b.A.take a).map (gK b)).length=a:=Zg;simp_all[iL,Yw]
def Kt{a:Nat}{c}(d:b.A[a]? = some c):iL b (a+1) = { iL b a with A:=(iL b a).A.set a (gK b c) }:=by
 have e:=wa d;have f:((b.A.take a).map (gK b)).length=a:=Zg;simp_all[iL,Yk,List.take_succ]
def fh(c:St)(a:Zb):Bool:=match aO c.K a with
 |some b=>uA b
 |none=>false
theorem UR(c:St)(a:Zb×Nat):po c a=if fh c a.1=true then .ok ()else .error ⟨7,a.2⟩:=by
 unfold po fh;grind
def By(l:Q f g c b)(w:g.pd=[])(a:Zb):(fh c a=true/\∃(k:Nat) (d:aC) (e:hI),aO c.K a=some (some d)/\ei d=true/\g.nl[k]? = some (a,some d)/\b.K[k]? = some e/\e.a7=1/\gb b a=e/\¬(ce b a<0\/(gb b a).a7≠1))\/(fh c a=false/\(ce b a<0\/(gb b a).a7≠1)):=by
 have v:c.K=g.nl:=by rw[l.nl,w];simp
 unfold fh;rw[v];rcases l.h3 a with⟨o,s⟩|⟨k,x,e,o,s,p,q,t⟩
 .simp_all
 .have u:gb b a=e:=by
   grind [gb]
  rw[o];simp only;by_cases r:e.a7=1
  .obtain⟨d,m,n,-⟩:=l.a7 p q r;simp only at m;subst m;left;exact⟨n,k,d,e,rfl,n,p,q,r,u,Zu⟩
  .right;refine⟨?_,Ya Zu⟩;have y:=t.2;cases x with
   |none=>rfl
   |some d=>
    cases d with
    |const h i j=>rfl
    |prog h i j d=>rfl
    |typedef d=>omega
    |enum h i j=>omega
    |struct h i j=>omega
    |union h i j d=>omega
abbrev Am(c:St):my Unit:=hO ⟨0,0,0,0,[]⟩ ⟨#[]⟩ c [] 0
def adn(c:St)(a:Zb×Nat)(b:List (Zb×Nat)):cf (Am c) (a::b) ()=if fh c a.1=true then cf (Am c) b ()else .error ⟨7,a.2⟩:=by
 conv=>lhs;unfold cf
 have d:(Am c).bb a ()=po c a:=rfl;grind [UR]
def ZY(a:bD)(b:List bD):nM (a::b)=if a.F=14 then (a.bl,a.y)::nM b else nM b:=by
 unfold nM;grind
def aac(t:Q f g c b)(E:g.pd=[]):∀(o h:Nat) (l:List (Zb×Nat)),h+o=b.A.length->nM (b.A.drop h)=l.map (λm=>(m.1,(m.2:Int)))->
  match cf (Am c) l ()with
  |.error i=>Er i (qK o h (iL b h))
  |.ok _=>qK o h (iL b h)=iL b b.A.length/\∀m∈l,fh c m.1=true:=by
 intro o;induction o with
 |zero=>
  intro h l B k;have:h=b.A.length:=Zm;subst this;rw[List.drop_length]at k;have:l=[]:=by
   simp_all[nM]
  subst this;exact⟨rfl,Zq⟩
 |succ o I=>
  intro h l B k;have C:h<b.A.length:=Zm;obtain⟨j,p⟩:∃j,b.A[h]? = some j:=⟨_,Yd C⟩;have y:b.A.drop h=j::b.A.drop (h+1):=by
   grind [List.drop_eq_getElem_cons]
  rw[y,ZY]at k;unfold qK;rw[DR p];by_cases q:j.F=14
  .rw[Y9 q]at k ⊢;cases l with
   |nil=>grind
   |cons m l=>
    simp only[List.map_cons,List.cons.injEq,Prod.mk.injEq]at k;obtain⟨⟨u,x⟩,k⟩:=k;rw[adn];have A:ce (iL b h) j.bl=ce b j.bl:=rfl;have D:gb (iL b h) j.bl=gb b j.bl:=rfl;rw[A,D,u];rcases By t E m.1 with⟨r,J,d,K,-,-,-,-,-,G,w⟩|⟨r,v⟩
    .rw[Y9 r,Y2 w];have F:setOf (iL b h) h (gb b m.1).n=iL b (h+1):=by
      rw[<-u,Kt p];unfold setOf;rw[DR p];simp_all[gK]
     grind
    .rw[Y2 Zu,Y9 v,x];have z:(iL b h).s.e=0:=t.e;exact FO z (e:=7) (a:=m.2) Zm
  .rw[Y2 q]at k ⊢;have F:iL b h=iL b (h+1):=by
    rw[Kt p];unfold gK;rw[Y2 q];have:(iL b h).A.set h j=(iL b h).A:=by
     have H:=DR p;apply Lg;grind [iL]
    rw[this]
   grind
def dG(b:ai):ai:={ b with A:=b.A.map (gK b) }
def abQ(a:Wh f h g c b):match oy c h with
  |.error i=>Er i (pC b)
  |.ok _=>pC b=dG b/\∀d∈h.flatMap gR,fh c d.1=true:=by
 have:=aac a.q a.pd b.A.length 0 (h.flatMap gR) Zm (by rw[List.drop_zero,a.q.eD,a.rf]);rw[XN,XM]at this;exact this
end
end Go.Proofs.YtjdhaegijjednaaGreatDoor
namespace Go.Proofs.YtjdhaegijjednaaGreatDoor
open Go.RowKit
open Relation
open Go.Proofs.Tryz
section
variable {P:Nat->Prop}{a:List Bool}{y:Nat}
variable {σ : ai} {st : St}
def Re(σ:ai)(b y:Nat):Prop:=∃a,σ.A[b]? = some a/\(y:Int)∈dh a
abbrev Sn(a:List Bool)(b:Nat):Prop:=a.getD b false=true
def ab8{b}:Sn (a.set b true) y↔Sn a y\/(y=b/\b<a.length):=by
 grind
theorem wB:∀(b:List Int) (a:List Bool) (y:Nat),Sn (jV b a) y↔Sn a y\/((y:Int)∈b/\y<a.length):=by
 intro b;induction b with
 |nil=>intro a y;simp[jV]
 |cons c b f=>
  intro a y;have d:jV (c::b) a=jV b (if 0<=c then a.set c.toNat true else a):=rfl
  rw[d,f];by_cases e:0<=c
  .rw[Y9 e,ab8];simp only[YF,Yg];grind
  grind
def KU{a:Nat}(b:a<σ.A.length):σ.A[a]? = some (σ.A.getD a bP):=Zg
def Ek:∀(b c:Nat) (a:List Bool) (y:Nat),Sn a y->Sn (ji σ b c a) y:=by
 intro b;induction b<;>grind [ji,wB]
def aaZ:∀(d c:Nat) (a:List Bool) (b y:Nat),c<=b->b<c+d->Sn a b->Re σ b y->y<a.length->Sn (ji σ d c a) y:=by
 intro d;induction d with
 |zero=>omega
 |succ d m=>
  intro c a b y h i g f l;unfold ji;by_cases e:b=c
  .subst e;apply Ek;rw[Y9 g,wB];obtain⟨n,j,k⟩:=f;simp_all
  grind [Dt,wB]
def aaY(h:∀g y,P g->Re σ g y->P y):∀(c b:Nat) (a:List Bool),b+c<=σ.A.length->(∀y,Sn a y->P y)->∀y,Sn (ji σ c b a) y->P y:=by
 intro c;induction c with
 |zero=>intro b a _ d;exact d
 |succ c j=>
  intro b a k d;unfold ji;apply j (b+1) _ Zm;intro y f;split at f
  .rename_i i;rcases(wB ..).1 f with e|⟨e,-⟩
   .grind
   .exact h b y (d b i) ⟨_,KU Zm,e⟩
  grind
def aa2:∀(b:Nat) (a:List Bool) (y:Nat),Sn a y->Sn (hU σ b a) y:=by
 intro b;induction b with
 |zero=>intro a y c;exact c
 |succ b d=>intro a y c;exact d _ _ (Ek _ _ _ _ c)
def KT(e:∀d y,P d->Re σ d y->P y):∀(b:Nat) (a:List Bool),(∀y,Sn a y->P y)->∀y,Sn (hU σ b a) y->P y:=by
 intro b;induction b with
 |zero=>intro a c;exact c
 |succ b f=>intro a c;exact f _ (aaY e _ _ _ Zm c)
def aaU:∀(b:Nat) (a:List Bool),(hU σ b a).length=a.length:=by
 intro b;induction b<;>grind [hU,KS]
def lV:List Bool->Nat
 |[]=>0
 |b::a=>(if b then 1 else 0)+lV a
def PU(a:List Bool):lV a<=a.length:=by
 induction a with
 |nil=>exact Y4 _
 |cons b a c=>grind [lV]
def PW:∀(a b:List Bool),a.length=b.length->(∀y,Sn a y->Sn b y)->a≠b->lV a+1<=lV b:=by
 have p:∀(a b:List Bool),a.length=b.length->(∀y,Sn a y->Sn b y)->lV a<=lV b:=by
  intro a;induction a with
  |nil=>grind
  |cons c a h=>
   intro b j d;cases b with
   |nil=>grind
   |cons e b=>
    have k:=h b Zu (λy g=>d (y+1) g);have i:c=true->e=true:=λf=>d 0 (show (c::a).getD 0 false=true from f);simp only[lV];grind
 intro a;induction a with
 |nil=>grind
 |cons c a h=>
  intro b j d n;cases b with
  |nil=>grind
  |cons e b=>
   have m:a.length=b.length:=Zu;have o:∀y,Sn a y->Sn b y:=λy g=>d (y+1) g;have i:c=true->e=true:=λf=>d 0 (show (c::a).getD 0 false=true from f);simp only[lV];by_cases l:a=b;all_goals grind
theorem aa3(c:ji σ σ.A.length 0 a=a):∀b,hU σ b a=a:=by
 intro b;induction b<;>grind [hU]
def aa1:∀(b:Nat) (a:List Bool),ji σ σ.A.length 0 (hU σ b a)=hU σ b a\/lV a+b<=lV (hU σ b a):=by
 intro b;induction b with
 |zero=>intro a;exact Ya (Y4 _)
 |succ b g=>
  intro a;by_cases d:ji σ σ.A.length 0 a=a
  .grind [aa3]
  .have f:=PW a (ji σ σ.A.length 0 a) (KS ..).symm (λy e=>Ek _ _ _ _ e) (λc=>d c.symm);grind [hU]
def PY(b:Sn a y):1<=lV a:=by
 induction a generalizing y with
 |nil=>cases b
 |cons d a c=>
  cases y with
  |zero=>
   grind [lV]
  |succ y=>have:=c (y:=y) b;simp only[lV];omega
theorem aa0(i:a.length=σ.A.length){d}(e:Sn (hU σ σ.A.length a) d)(h:Re σ d y)(c:y<σ.A.length):Sn (hU σ σ.A.length a) y:=by
 have g:=aaU (σ:=σ) σ.A.length a;have j:ji σ σ.A.length 0 (hU σ σ.A.length a)=hU σ σ.A.length a:=by
  rcases aa1 (σ:=σ) σ.A.length a with b|b
  .exact b
  .have f:=PU (hU σ σ.A.length a);rw[g,i]at f;have l:lV a=0:=Zm;have k:∀y,¬Sn a y:=λy c=>by have:=PY c;omega
   exfalso;exact KT (σ:=σ) (P:=λ_=>False) (λ_ _ b _=>b) σ.A.length a (λy c=>k y c) d e
 rw[<-j];exact aaZ _ _ _ d y (YV _) Zg e h Zm
theorem KD(d:xa σ){f}(a:Re σ f y):y<σ.A.length:=by
 obtain⟨e,b,c⟩:=a;have:=(d e (Yh b)).2 y c;omega
def RC(f:xa σ){r:Nat}(d:r<σ.A.length):rN σ r=true↔TransGen (Re σ) r r:=by
 unfold rN;have j:(jV (dh (σ.A.getD r bP)) (List.replicate σ.A.length false)).length=σ.A.length:=by rw[Dt];simp
 have i:∀y,¬Sn (List.replicate σ.A.length false) y:=λy b=>by
  grind
 constructor
 .intro c;refine KT (σ:=σ) (P:=λy=>TransGen (Re σ) r y) (λn y e b=>TransGen.tail e b) σ.A.length _ ?_ r c;intro y b;rcases(wB ..).1 b with a|⟨a,-⟩
  .grind
  .exact TransGen.single ⟨_,KU d,a⟩
 .intro c;have all:∀y,TransGen (Re σ) r y->Sn (hU σ σ.A.length (jV (dh (σ.A.getD r bP)) (List.replicate σ.A.length false))) y:=by
   intro y b;induction b with
   |single a=>
    apply aa2;rw[wB];right;have k:=KD f a;obtain⟨m,g,h⟩:=a;simp_all
   |tail _ a l=>grind [aa0,KD]
  grind
def Ne(st:St)(c b:Zb):Prop:=∃a,(b,a)∈pn st c
def Kw(st:St)(a:Zb):Prop:=a∈st.K.map (·.1)
def ad4{a b:Zc}(d:∀c∈a,c∈b):kc st b<=kc st a:=by
 unfold kc;induction st.K<;>grind
def Ms{a}{b:Zb}(f:b ∉ a)(d:Kw st b):kc st (a++[b])+1<=kc st a:=by
 unfold kc Kw at *
 revert d;induction st.K with
 |nil=>simp
 |cons c e g=>
  intro d;have h:e.countP (λc=>!(a++[b]).contains c.1)<=e.countP (λc=>!a.contains c.1):=by
   simp_all[List.countP_mono_left]
  grind
structure Fo(st:St)(src:Zb->Prop)(t R:Zc):Prop where
 bE:∀x∈t,x∈R
 c2:∀n,src n->n∈R
 j6:∀x∈R,x∈t\/∃n,src n/\(x=n\/TransGen (Ne st) n x)
 cl:∀x∈R,x ∉ t->∀y,Ne st x y->y∈R
def HA{k:Nat}(q:∀c a,Kw st c->kc st a<=k->Fo st (λd=>d=c) a (follow st k c a)):∀(h:List (Zb×Nat)) (a:Zc),(∀d∈h,Kw st d.1)->kc st a<=k->Fo st (λc=>∃l,(c,l)∈h) a (h.foldl (λa d=>follow st k d.1 a) a):=by
 intro h;induction h with
 |nil=>intro a _ _;exact⟨λb f=>f,λc f=>Zu,λb f=>Y8 f,λb f e=>absurd f e⟩
 |cons d h s=>
  intro a n o;have i:=q d.1 a (n d Zq) o;have e:=s (follow st k d.1 a) (λb g=>n b Zg) (Yz (ad4 i.bE) o);rw[YY];refine⟨λb g=>e.bE b (i.bE b g),?_,?_,?_⟩
  .rintro c ⟨l,m⟩;rcases Yg.1 m with t|m
   .exact e.bE c (i.c2 c Zg)
   .exact e.c2 c ⟨l,m⟩
  .intro b g;rcases e.j6 b g with j|⟨c,⟨l,j⟩,u⟩
   .rcases i.j6 b j with v|⟨c,rfl,w⟩;all_goals grind
   grind
  .intro b g r y p;by_cases j:b∈follow st k d.1 a
   .exact e.bE y (i.cl b j r y p)
   .exact e.cl b g j y p
def SJ(o:∀a c,Ne st a c->Kw st c):∀(k:Nat) (a:Zb) (e:Zc),Kw st a->kc st e<=k->Fo st (λc=>c=a) e (follow st k a e):=by
 intro k;induction k with
 |zero=>
  intro a e l q;have:a∈e:=by
   rcases Classical.em (a∈e)with b|b
   .exact b
   .have:=Ms b l;omega
  exact⟨λd b=>b,λc f=>by subst f;exact this,λd b=>Y8 b,λd b h=>absurd b h⟩
 |succ k s=>
  intro a e l q;unfold follow;by_cases p:a∈e
  .rw[Y9 Zu];exact⟨λd b=>b,λc f=>by simp_all,λd b=>Y8 b,λd b h=>absurd b h⟩
  .rw[Y2 Zu];have g:=HA (k:=k) (λa e g h=>s a e g h) (pn st a) (e++[a]) (λc f=>o a c.1 ⟨c.2,f⟩) (by have:=Ms p l;omega);refine⟨λd i=>g.bE d (Yf _ i),λc f=>by subst f;exact g.bE _ Zq,?_,?_⟩
   .intro d i;rcases g.j6 d i with h|⟨c,f,j⟩
    .grind
    .right;refine⟨a,rfl,Ya ?_⟩;have m:Ne st a c:=f;rcases j with rfl|j
     .exact TransGen.single m
     .exact TransGen.trans (TransGen.single m) j
   .intro d i t y n;by_cases r:d=a
    .subst r;exact g.c2 y n
    .exact g.cl d i Zu y n
def aah(m:∀j a,Ne st j a->Kw st a){d}(o:pn st (bQ d).1=fZ d):oF st d=true↔TransGen (Ne st) (bQ d).1 (bQ d).1:=by
 unfold oF;have i:∀a c,(a,c)∈fZ d->Ne st (bQ d).1 a:=λa c h=>⟨c,Zu⟩;have e:=HA (k:=kc st []) (λj l e b=>SJ m _ j l e b) (fZ d) [] (λa g=>m _ _ (i a.1 a.2 g)) (Y4 _);generalize (fZ d).foldl (λl a=>follow st (kc st []) a.1 l) []=n at *
 rw[List.contains_iff_mem];constructor
 .intro h;rcases e.j6 _ h with b|⟨a,⟨c,g⟩,f⟩
  .grind
  .rcases f with f|f
   .rw[<-f]at g;exact TransGen.single (i _ _ g)
   .exact TransGen.trans (TransGen.single (i _ _ g)) f
 .intro h;have all:∀y,TransGen (Ne st) (bQ d).1 y->y∈n:=by
   intro y p;induction p with
   |single b=>
    obtain⟨c,b⟩:=b;rw[o]at b;exact e.c2 _ ⟨c,b⟩
   |tail _ b q=>exact e.cl _ q Zq _ b
  simp_all
end
section
variable {r:hI}{y:Nat}
variable {e : Zb} {st : St} {a : ai} {b : cB} {c : List aC}
def lI(st:St)(c:List aC):Prop:=∀a∈c.flatMap gR,fh st a.1=true
structure uc(e:Zb)(st:St)(b:cB)(a:ai)(n:Zb)(d:aC)(r:hI):Prop where
 lu:aO st.K n=some (some d)
 O:ei d=true
 y:∃i:Nat,b.nl[i]? = some (n,some d)/\a.K[i]? = some r
 a7:r.a7=1
 bl:gb a n=r
 hp:kN a.A b.nl d r.n
 gk:0<=r.n/\r.n<a.A.length
 g9:(bQ d).1=n
 p7:r.y=(bQ d).2
def Wh.gB(d:Wh e c b st a){j:Zb}(u:fh st j=true):∃f r,uc e st b a j f r:=by
 rcases By d.q d.pd j with⟨-,s,f,r,l,m,g,h,i,p,-⟩|⟨l,-⟩
 .obtain⟨t,k,-,-,n,o⟩:=d.q.a7 g h i;simp only[Yu]at k;subst k;exact⟨f,r,l,m,⟨s,g,h⟩,i,p,o,d.g7 r (Yh h) i,d.g9 _ (Yh g) f rfl m,n⟩
 simp_all
abbrev hW(a:ai)(b:Zb):Nat:=(gb a b).n.toNat
def uc.j2{d c}(f:uc e st b a d c r):pn st d=fZ c:=by
 unfold pn;rw[f.lu]
def Wh.ne(j:Wh e c b st a)(l:lI st c){h}{f:Zb×Nat}(d:f∈pn st h):fh st f.1=true:=by
 unfold pn at d;cases i:aO st.K h with
 |none=>simp_all
 |some m=>
  cases m with
  |none=>simp_all
  |some g=>
   rw[i]at d;simp only at d;rcases j.ti.nm h g i with k|⟨n,o,v,rfl⟩
   .exact l f (List.mem_flatMap.2 ⟨g,k,In g f d⟩)
   .simp[fZ]at d
def adQ{a:Zb}(c:fh st a=true):Kw st a:=by
 unfold fh aO at c;cases b:st.K.find? (λe=>e.1==a)with
 |none=>simp_all
 |some f=>
  have d:=List.mem_of_find?_eq_some b;have g:=List.find?_some b;exact YE.2 ⟨f,d,Zu⟩
def ZT{c:Nat}{b}(e:a.A[c]? = some b)(d:b.F=14)(f:(y:Int)=(gb a b.bl).n):Re (dG a) c y:=by
 refine⟨gK a b,?_,?_⟩
 .show (a.A.map (gK a))[c]? = _;simp_all
 simp_all[gK,dh]
def AX{c:Nat}{b}(e:a.A[c]? = some b)(d:b.F≠14)(f:(y:Int)∈dh b):Re (dG a) c y:=by
 refine⟨gK a b,?_,?_⟩
 .show (a.A.map (gK a))[c]? = _;simp_all
 simp_all[gK]
def Ea{d}(f:Re (dG a) d y):∃b,a.A[d]? = some b/\((b.F=14/\(y:Int)=(gb a b.bl).n)\/(b.F≠14/\(y:Int)∈dh b)):=by
 obtain⟨b,c,g⟩:=f;have c:(a.A.map (gK a))[d]? = some b:=c;rw[List.getElem?_map]at c;cases h:a.A[d]? with
 |none=>simp_all
 |some e=>
  rw[h]at c;simp only[Option.map_some,Yu]at c;subst c;refine⟨e,rfl,?_⟩;unfold gK at g;by_cases i:e.F=14;all_goals simp_all[dh]
def Wh.j0(t:Wh e c b st a):∀{h:Ty} {g:Int} {f:Zb×Nat},dE a.A h g->f∈gy h->fh st f.1=true->0<=g/\TransGen (Re (dG a)) g.toNat (hW a f.1):=by
 intro h;induction h with
 |plain z=>grind [gy]
 |named B v=>
  rintro g f ⟨j,A,k,l,m,-⟩ d n;simp[gy]at d;subst d;obtain⟨w,r,s⟩:=t.gB n;refine⟨j,TransGen.single (ZT k l ?_)⟩;rw[m];unfold hW;have:=s.gk;rw[s.bl];omega
 |opaq p i=>grind [gy]
 |str p i=>grind [gy]
 |arr q p i o=>
  rintro g f ⟨j,u,k,l⟩ d n;cases i with
  |false=>simp[gy]at d
  |true=>
   have d:f∈gy q:=by simpa[gy]using d
   obtain⟨x,m⟩:=o l d n;refine⟨j,TransGen.trans (TransGen.single (AX (y:=u.toNat) k (by simp[dP]) ?_)) m⟩;grind [dh,dP]
 |opt q o=>grind [gy]
 |void=>grind [gy]
def Wh.k6(o:Wh e c b st a){w h}(A:uc e st b a w h r){x:Zb×Nat}(d:x∈fZ h)(q:fh st x.1=true):TransGen (Re (dG a)) (hW a w) (hW a x.1):=by
 have M:hW a w=r.n.toNat:=by unfold hW;rw[A.bl]
 rw[M];have j:=A.hp;cases h with
 |const l n g=>exact j.elim
 |prog l n g h=>exact j.elim
 |typedef h=>exact(o.j0 j.1 d q).2
 |enum l n g=>simp[fZ]at d
 |struct l n R=>
  obtain⟨G,k,p,H,s⟩:=j;simp only[fZ,List.mem_flatMap]at d;obtain⟨N,K,d⟩:=d;obtain⟨f,t⟩:=List.mem_iff_getElem?.1 K;have u:f<k.length:=Zg;have v:=Yd u;obtain⟨z,i⟩:=o.j0 (s f _ N v t) d q;refine TransGen.trans (TransGen.single (AX (y:=(k[f]).toNat) p Zq ?_)) i;grind [dh]
 |union l n S E=>
  obtain⟨G,of,k,F,p,-,H,s,B,I⟩:=j;simp only[fZ,List.mem_flatMap]at d;obtain⟨m,C,d⟩:=d;by_cases D:m.1=[]
  .have J:=I m C D;rw[J]at B;obtain⟨z,i⟩:=o.j0 B d q;refine TransGen.trans (TransGen.single (AX (y:=F.toNat) p Zq ?_)) i;grind [dh]
  .obtain⟨g,O,P⟩:=List.exists_cons_of_ne_nil D;have L:(g,m.2)∈cY E:=List.mem_flatMap.2 ⟨m,C,YE.2 ⟨g,Zu,rfl⟩⟩;obtain⟨f,t⟩:=List.mem_iff_getElem?.1 L;have u:f<k.length:=Zg;have v:=Yd u;obtain⟨z,i⟩:=o.j0 (s f _ _ v t) d q;refine TransGen.trans (TransGen.single (AX (y:=(k[f]).toNat) p Zq ?_)) i;grind [dh]
def Wh.o2(f:Wh e c b st a)(k:lI st c){j:Zb}(o:fh st j=true){i}(p:TransGen (Ne st) j i):fh st i=true/\TransGen (Re (dG a)) (hW a j) (hW a i):=by
 induction p with
 |single d=>
  obtain⟨m,d⟩:=d;have g:=f.ne k d;obtain⟨n,r,h⟩:=f.gB o;rw[h.j2]at d;exact⟨g,f.k6 h d g⟩
 |tail _ d l=>
  obtain⟨m,d⟩:=d;have g:=f.ne k d;obtain⟨n,r,h⟩:=f.gB l.1;rw[h.j2]at d;exact⟨g,TransGen.trans l.2 (f.k6 h d g)⟩
def vB(st:St)(a:ai)(b:Zb)(d:Nat):Prop:=d=hW a b\/∃c,dE a.A c d/\∀e∈gy c,e∈pn st b
def Gu(g:Q e b st a){c:Nat}{f}(d:a.A[c]? = some f)(i:c<5):f.F≠14/\dh f=[]:=by
 obtain⟨j,h⟩:=g.cX;rw[h,Ys (by simp[nA];omega)]at d;have:c=0\/c=1\/c=2\/c=3\/c=4:=Zm;rcases this with rfl|rfl|rfl|rfl|rfl<;>(simp[nA]at d;subst d;exact⟨Zq,rfl⟩)
def Wh.l4(B:Wh e c b st a){i r}{g:Nat}(f:dE a.A r (g:Int))(x:∀p∈gy r,p∈pn st i)(D:Re (dG a) g y) :
  (∃n,Ne st i n/\(y:Int)=(gb a n).n)\/(vB st a i y/\∃(g:Nat) (j:bD),a.A[g]? = some j/\j.F≠14/\(y:Int)∈dh j):=by
 obtain⟨j,h,v⟩:=Ea D;have m:((g:Int)).toNat=g:=Zq;have o:j.F≠14->dh j=[]->False:=λF G=>by
  simp_all
 cases r with
 |plain L=>
  have H:=f.1;have I:=f.2;have E:=Gu B.q h Zm;simp_all
 |named n s=>
  obtain⟨-,M,t,u,J,-⟩:=f;rw[m,h]at t;cases t
  rcases v with⟨-,l⟩|⟨l,-⟩
  .left;exact⟨n,⟨s,x (n,s) (by simp[gy])⟩,Zu⟩
  omega
 |opaq i k=>
  have d:=f.2;rw[m,h]at d;cases d
  exact(o (by cases k<;>simp[fu]) (by cases k<;>rfl)).elim
 |str i k=>
  have d:=f.2;rw[m,h]at d;cases d
  exact(o (by simp[fu]) rfl).elim
 |arr A i k=>
  obtain⟨-,z,d,u⟩:=f;rw[m,h]at d;cases d
  cases k with
  |false=>exact(o (by simp[dP]) rfl).elim
  |true=>
   rcases v with⟨l,-⟩|⟨l,w⟩
   .simp[dP]at l
   .right;have K:(y:Int)=z:=by simpa[dh,dP]using w
    exact⟨Ya ⟨A,Zu,λp C=>x p (by simpa[gy]using C)⟩,g,_,h,l,w⟩
 |opt A=>
  obtain⟨-,z,d,u⟩:=f;rw[m,h]at d;cases d
  exact(o (by simp[dP]) rfl).elim
 |void=>have:(g:Int) = -1:=f;omega
def Wh.n6(A:Wh e c b st a){k:Zb}(a4:fh st k=true){w}(a2:vB st a k w)(D:Re (dG a) w y) :
  (∃P,Ne st k P/\(y:Int)=(gb a P).n)\/(vB st a k y/\∃(w:Nat) (u:bD),a.A[w]? = some u/\u.F≠14/\(y:Int)∈dh u):=by
 rcases a2 with rfl|⟨a8,d,a6⟩
 .obtain⟨l,r,v⟩:=A.gB a4;have O:hW a k=r.n.toNat:=by unfold hW;rw[v.bl]
  have a5:((hW a k:Nat):Int)=r.n:=by rw[O];have:=v.gk;omega
  have t:=v.j2;have d:=v.hp;obtain⟨u,m,I⟩:=Ea D;rw[O]at m;cases l with
  |const h p z=>exact d.elim
  |prog h p z l=>exact d.elim
  |typedef l=>exact A.l4 (by rw[a5];exact d.1) (λG g=>by rw[t];exact g) D
  |enum h p z=>
   have i:=d.2;grind [dh]
  |struct h p F=>
   obtain⟨S,H,i,a0,B⟩:=d;rw[m]at i;cases i
   rcases I with⟨q,-⟩|⟨q,J⟩
   .grind
   .right;have j:(y:Int)∈H:=by simpa[dh]using J
    obtain⟨f,C⟩:=List.mem_iff_getElem?.1 j;have s:f<F.length:=Zg;refine⟨Ya ⟨F[f].O,B f _ _ C (Yd s),λG g=>?_⟩,_,_,m,q,J⟩;rw[t];exact List.mem_flatMap.2 ⟨F[f],Yy s,g⟩
  |union h p a7 o=>
   obtain⟨S,of,H,R,i,-,a0,B,q,-⟩:=d;rw[m]at i;cases i
   rcases I with⟨K,-⟩|⟨K,L⟩
   .grind
   .right;refine⟨?_,_,_,m,K,L⟩;have j:(y:Int)∈H\/(y:Int)=R:=by simpa[dh]using L
    rcases j with j|j
    .obtain⟨f,C⟩:=List.mem_iff_getElem?.1 j;have s:f<(cY o).length:=Zg;obtain⟨E,N⟩:∃E,(cY o)[f]? = some E:=⟨_,Yd s⟩;refine Ya ⟨E.2.O,B f _ _ C N,λG g=>?_⟩;rw[t];obtain⟨x,a1,a3⟩:=List.mem_flatMap.1 (Yh N);obtain⟨z,-,rfl⟩:=YE.1 a3;exact List.mem_flatMap.2 ⟨x,a1,g⟩
    .cases n:jb o with
     |none=>simp_all
     |some l=>
      rw[n]at q;refine Ya ⟨l.O,Zu,λG g=>?_⟩;rw[t];unfold jb at n;cases M:o.find? (λh=>h.1.isEmpty)with
      |none=>simp_all
      |some x=>
       rw[M]at n;simp at n;subst n;exact List.mem_flatMap.2 ⟨x,List.mem_of_find?_eq_some M,g⟩
 .exact A.l4 d a6 D
def Wh.up(n:Wh e c b st a)(q:lI st c){f:Zb}(s:fh st f=true)(t:TransGen (Re (dG a)) (hW a f) y) :
  (∃g,TransGen (Ne st) f g/\fh st g=true/\y=hW a g)\/(∃d,(d=f\/TransGen (Ne st) f d)/\fh st d=true/\vB st a d y/\∃(i:Nat) (h:bD),a.A[i]? = some h/\h.F≠14/\(y:Int)∈dh h):=by
 have p:∀{d:Zb} {i y:Nat},(d=f\/TransGen (Ne st) f d)->fh st d=true->vB st a d i->Re (dG a) i y->
   (∃g,TransGen (Ne st) f g/\fh st g=true/\y=hW a g)\/(∃d,(d=f\/TransGen (Ne st) f d)/\fh st d=true/\vB st a d y/\∃(i:Nat) (h:bD),a.A[i]? = some h/\h.F≠14/\(y:Int)∈dh h):=by
  intro d i y m v r u;rcases n.n6 v r u with⟨g,j,A⟩|⟨k,l⟩
  .left;refine⟨g,?_,?_,?_⟩
   .rcases m with rfl|m
    .exact TransGen.single j
    .exact TransGen.tail m j
   .obtain⟨x,j⟩:=j;exact n.ne q j
   grind
  grind
 induction t with
 |single k=>exact p (Y8 rfl) s (Y8 rfl) k
 |tail _ k w=>
  rcases w with⟨g,l,o,rfl⟩|⟨d,l,o,z,-⟩
  .exact p (Ya l) o (Y8 rfl) k
  grind
def SB{a:Type}{r:a->a->Prop}{b c:a}(e:TransGen r b c):∃d,r b d:=by
 induction e<;>grind
def Wh.nX(f:Wh e c b st a)(n:lI st c){d:Zb}(l:fh st d=true):TransGen (Re (dG a)) (hW a d) (hW a d)↔TransGen (Ne st) d d:=by
 constructor
 .intro h;obtain⟨G,r,g⟩:=f.gB l;have K:hW a d=r.n.toNat:=by unfold hW;rw[g.bl]
  have J:5<=hW a d:=by
   rcases Yj (hW a d) 5 with j|j
   .exfalso;obtain⟨F,x⟩:=SB h;obtain⟨u,v,I⟩:=Ea x;obtain⟨D,E⟩:=Gu f.q v j;simp_all
   omega
  obtain⟨o,M,p⟩:=g.y;rcases f.up n l h with⟨B,j,k,m⟩|⟨O,-,-,-,C,u,k,m,w⟩
  .obtain⟨H,t,i⟩:=f.gB k;obtain⟨s,N,z⟩:=i.y;have L:hW a B=t.n.toNat:=by unfold hW;rw[i.bl]
   by_cases y:o=s
   .simp_all
   .exfalso;have A:=g.gk;have P:=i.gk;have:=f.ij o s r t p z y g.a7 i.a7 Zm;omega
  .exfalso;have A:=g.gk;exact f.tr C u k m _ w Zm r (Yh p) g.a7 Zm
 .intro h;exact(f.o2 n l h).2
def Wh.ld(f:Wh e c b st a)(v:lI st c):xa (dG a):=by
 intro r m;have m:r∈a.A.map (gK a):=m;obtain⟨n,i⟩:=List.mem_iff_getElem?.1 m;rw[List.getElem?_map]at i;cases j:a.A[n]? with
 |none=>simp_all
 |some g=>
  rw[j]at i;simp only[Option.map_some,Yu]at i;subst i;have w:(dG a).A.length=a.A.length:=by show (a.A.map _).length=_;simp
  have B:=wa j;have A:=f.rn.g6;have s:=f.rn.cH g (Yh j);have h:=f.q.cg n g j;rw[w];unfold gK;by_cases l:g.F=14
  .rw[Y9 l];refine⟨s.2,λk d=>?_⟩;simp[dh,l]at d;subst d;have p:(g.bl,g.y)∈nM a.A:=by
    unfold nM;grind
   rw[f.q.eD,f.rf]at p;obtain⟨y,x,o⟩:=YE.1 p;simp only[Prod.mk.injEq]at o;have t:=v y x;rw[o.1]at t;obtain⟨z,r,u⟩:=f.gB t;rw[u.bl];exact u.gk.2
  .rw[Y2 l];refine⟨s.2,λk d=>?_⟩;have:k<(max n 5:Nat):=by
    unfold dh at d;split at d
    .simp at d;subst d;exact h.1
    .split at d
     .exact h.2.1 k d
     .split at d
      .rcases Yn.1 d with d|d
       .exact h.2.1 k d
       .simp at d;subst d;exact h.2.2.1
      simp_all
   omega
def Wh.n0(h:Wh e c b st a)(i:lI st c){g d}(f:uc e st b a g d r)(l:fh st g=true):rN (dG a) r.n.toNat=oF st d:=by
 have p:(dG a).A.length=a.A.length:=by show (a.A.map _).length=_;simp
 have q:=f.gk;have n:=RC (h.ld i) (r:=r.n.toNat) Zm;have k:=aah (st:=st) (λg t j=>by obtain⟨m,j⟩:=j;exact adQ (h.ne i j)) (d:=d) (by rw[f.g9];exact f.j2);have o:=h.nX i l;have s:hW a g=r.n.toNat:=by unfold hW;rw[f.bl]
 rw[f.g9]at k;grind
end
end Go.Proofs.YtjdhaegijjednaaGreatDoor
namespace Go.Proofs.YtjdhaegijjednaaGreatDoor
open Go.RowKit Go.MapKept Go.Proofs.Tryz
section
variable {t : Zb} {b k : St} {σ g : ai} {c j : cB} {f : Mar.ay} {a : List aC} {d : aC} {h i : Nat}
def jL(t:Zb)(h:Nat)(σ:ai):Prop:=∃a c b,Wh t a c b σ/\eU (aI t) 69 [] fS=eU (aI t) (69-a.length) a b/\a.length=h
def yW(t:Zb)(σ:ai):Prop:=∃f,eU (aI t) 69 [] fS=.error f/\Er f σ
def UL(t:Zb):jL t 0 (start t):=⟨[],uv,fS,aeA t,rfl,rfl⟩
theorem jL.e(a:jL t h σ):σ.s.e=0:=by obtain⟨_,_,_,a,_⟩:=a;exact a.q.e
def jL.le(d:jL t h σ):h<=68:=by
 obtain⟨a,c,b,d,-,rfl⟩:=d;have e:=d.ti.O;have f:=d.ti.co;have g:=d.ti.pr;have i:=d.ti.bc;omega
def jL.g7(a:jL t h σ):cC σ/\Rn σ:=by obtain⟨_,_,_,a,_⟩:=a;exact⟨a.g7,a.rn⟩
theorem Wh.g8{f:Mar.aX}{e:Nat}(d:Wh t a c b σ)(g:fj t b.y b.nx=.ok (f,e)):Wh t a c { b with y:=e,nx:=some f } σ:=
 ⟨d.q.g8 g,d.pd,d.dc,d.fz,d.o,d.ps,d.rf,d.nl,d.jJ,d.g9,d.ij,d.tr,d.g7,d.rn,⟨d.ti.O,d.ti.co,d.ti.pr,d.ti.bc,d.ti.nm⟩⟩
theorem jL.b6(e:jL t h σ)(v:σ.s.x.F≠0):jL t (h+1) (cJ t σ)\/yW t (cJ t σ):=by
 have z:=e.le;obtain⟨a,c,b,e,m,rfl⟩:=e;rw[show 69-a.length=(68-a.length)+1 by omega]at m;rcases pk t b with⟨q,w,g⟩|⟨f,g⟩
 .have o:=e.q.wd;rw[g]at o;have p:((q.F:Int)==0)=false:=by
   rw[o.1.1]at v;simp_all
  have i:=e.g8 g;have n:=Lp i.q i.pd i.dc;cases l:ga (aI t) { b with y:=w,nx:=some q }with
  |error f=>
   rw[kV l]at n;exact Ya ⟨f,by rw[m];exact EN (uR g) p l,n⟩
  |ok y=>
   obtain⟨d,A⟩:=y;obtain⟨j,u⟩:=i.b6 (sY l);left;refine⟨a++[d],j,_,u,?_,Zq⟩;rw[m,EQ (uR g) p l];simp
 .have k:=e.q.bd g;right;refine⟨f,by grind [EP,ys],?_⟩;have r:cJ t σ=ew σ:=by
   unfold cJ;rw[Y2 (by rw[k.is Zm];simp),Y2 (by rw[k.is Zm];simp),Y9 (Y8 (by rw[k.k];omega))]
  rw[r];exact k.hc
theorem jL.fin(d:jL t h σ)(i:σ.s.x.F=0):∃a c b,Wh t a c b σ/\eU (aI t) 69 [] fS=.ok (a,b):=by
 have l:=d.le;obtain⟨a,c,b,d,g,rfl⟩:=d;rw[show 69-a.length=(68-a.length)+1 by omega]at g;rcases pk t b with⟨n,m,e⟩|⟨f,e⟩
 .have j:=d.q.wd;rw[e]at j;refine⟨a,c,_,d.g8 e,?_⟩;rw[g];exact EO (uR e) (by rw[j.1.1]at i;simp_all)
 .have k:=d.q.bd e;rw[k.k]at i;omega
def kj(t:Zb)(i:Nat)(g:ai):Prop:=
 (∃a c b σ,g=dG σ/\Wh t a c b σ/\lI b a/\eP (aI t)=(match ii b ((c.nl.drop i).filterMap lg)with|.error f=>.error f|.ok _=>.ok a))\/(∃f,eP (aI t)=.error f/\Er f g)
def LY(b:t.length<=1200):eP (aI t)=match eU (aI t) 69 [] fS with
  |.error f=>.error f
  |.ok (a,σ)=>match oy σ a with
   |.error f=>.error f
   |.ok _=>match ii σ a with
    |.error f=>.error f
    |.ok _=>.ok a:=by
 unfold eP;rw[Y2 (by show ¬1200<t.length;omega)];rfl
theorem Ry(b:St)(a:List aC):ii b a=ii b (a.filter ei):=by
 induction a with
 |nil=>rfl
 |cons d a h=>
  cases g:ei d with
  |true=>
   grind [ii]
  |false=>
   rw[List.filter_cons_of_neg Zg];conv=>lhs;unfold ii
   have:oF b d=false:=by
    unfold oF;have:fZ d=[]:=by
     cases d with
     |const c e f=>rfl
     |prog c e f d=>rfl
     |typedef d=>cases g
     |enum c e f=>rfl
     |struct c e f=>cases g
     |union c e f d=>cases g
    simp_all
   simp_all
def adJ(j:t.length<=1200)(g:Wh t a c b σ)(i:eU (aI t) 69 [] fS=.ok (a,b)):kj t 0 (pC σ):=by
 have e:=abQ g;have d:=LY (t:=t) j;rw[i]at d;simp only at d;cases h:oy b a with
 |error f=>
  rw[h]at e d;exact Ya ⟨f,d,e⟩
 |ok k=>
  rw[h]at e d;refine Y8 ⟨a,c,b,σ,e.1,g,e.2,?_⟩;grind [Wh.nl,Ry]
def adI(e:t.length<=1200)(c:yW t σ)(i:Nat):kj t i σ:=by
 obtain⟨f,b,d⟩:=c;have a:=LY (t:=t) e;rw[b]at a;exact Ya ⟨f,a,d⟩
theorem kj.ok(d:kj t i g)(h:g.s.e=0):∃a c b σ,g=dG σ/\Wh t a c b σ/\lI b a/\eP (aI t)=(match ii b ((c.nl.drop i).filterMap lg)with|.error f=>.error f|.ok _=>.ok a):=by
 rcases d with d|⟨f,-,d⟩;all_goals grind [Er.ec]
def kj.row(d:kj t i g)(h:g.s.e=0){r}(k:g.K[i]? = some r)(l:r.a7=1):0<=r.n/\r.n<g.A.length/\xa g:=by
 obtain⟨a,c,b,σ,rfl,d,f,-⟩:=d.ok h;have j:=d.g7 r (Yh k) l;refine⟨j.1,?_,d.ld f⟩;grind [dG]
theorem kj.b6(e:kj t i g)(F:g.s.e=0){k}(j:g.K[i]? = some k):kj t (i+1) (if k.a7=1/\rN g k.n.toNat=true then cm 9 k.y g else g):=by
 obtain⟨a,c,b,σ,rfl,e,w,h⟩:=e.ok F;have j:σ.K[i]? = some k:=j;have R:i<c.nl.length:=by rw[<-e.q.nm.av];grind
 obtain⟨f,o⟩:∃f,c.nl[i]? = some f:=⟨_,Yd R⟩;have N:c.nl.drop i=f::c.nl.drop (i+1):=by
  grind [List.drop_eq_getElem_cons]
 rw[N,List.filterMap_cons]at h;by_cases z:k.a7=1
 .obtain⟨d,a5,J,K,L,a6⟩:=e.q.a7 o j z;have y:lg f=some d:=by grind [lg]
  rw[y]at h;simp only[ii]at h;have S:b.K=c.nl:=by rw[e.q.nl,e.pd];simp
  have a7:f=(f.1,some d):=Zg;have m:fh b f.1=true:=by
   unfold fh;rw[S];rcases e.q.h3 f.1 with⟨B,a1⟩|⟨H,a4,C,B,a1,I,a2,a3⟩
   .exact absurd (YE.2 ⟨f,Yh o,rfl⟩) (An B)
   .have x:=e.q.k2 j a2 (by rw[K,a3.1]);subst x;rw[o]at I;simp only[Yu]at I;rw[B];have:a4=some d:=Zg;rw[this];exact J
  obtain⟨v,C,D⟩:=e.gB m;obtain⟨H,A,u⟩:=D.y;have a9:gb σ f.1=C:=D.bl;have a8:C.s=f.1:=(e.q.nm.gY H _ _ A u).1;have x:=e.q.k2 j u Zg;subst x;rw[j]at u;cases u
  rw[o]at A;simp only[Yu]at A;have O:v=d:=Zg;subst O;have P:=e.n0 w D m;rw[P];cases G:oF b v with
  |true=>
   rw[Y9 ⟨z,rfl⟩];rw[G]at h;simp only[if_true]at h
   right;refine⟨_,h,?_⟩;rw[L];exact FO F (e:=9) (a:=(bQ v).2) Zm
  |false=>
   rw[Y2 Zq];rw[G]at h;simp only[Ye,if_false]at h
   exact Y8 ⟨a,c,b,σ,rfl,e,w,h⟩
 .rw[Y2 (λE=>z E.1)];have y:lg f=none:=by
   unfold lg;cases a0:f.2 with
   |none=>rfl
   |some d=>
    simp only;cases m:ei d with
    |false=>simp
    |true=>
     exfalso;have M:=(e.q.nm.gY i f k o j).2;rw[a0]at M;cases d with
     |const l p r=>cases m
     |prog l p r d=>cases m
     |typedef d=>omega
     |enum l p r=>omega
     |struct l p r=>omega
     |union l p r d=>omega
  rw[y]at h;exact Y8 ⟨a,c,b,σ,rfl,e,w,h⟩
def vu(t:Zb)(g:ai):Prop:=match eP (aI t)with
 |.error f=>Er f g
 |.ok a=>g.s.e=0/\∃c b σ,g=dG σ/\Wh t a c b σ/\lI b a
theorem kj.fin(d:kj t i g)(h:g.K.length<=i\/g.s.e≠0):vu t g:=by
 unfold vu;rcases d with⟨a,c,b,σ,rfl,d,l,j⟩|⟨f,j,d⟩
 .have m:(dG σ).s.e=0:=d.q.e;have k:c.nl.drop i=[]:=by
   rw[List.drop_eq_nil_iff,<-d.q.nm.av];rcases h with h|h
   .exact h
   omega
  rw[k]at j;simp only[List.filterMap_nil,ii]at j;grind
 simp_all
end
section
variable {k:TypeId}{l h j:Option Addr}{o r m u:Zv}
variable {X : Nat -> Prop} {g d b : Nat} {t : Zb} {c : ai} {w : Zw} {f : PV}
def jL.up(a:jL t b c)(j:jL t (b+1) (cJ t c)):oo c+1<=oo (cJ t c):=by
 have m:=a.e;have f:=j.e;obtain⟨p,o,n,a,-⟩:=a;have s:=a.q.O;have l:=a.q.cn;rw[a.dc]at l;refine QK f m ⟨Zm,Zm⟩ ?_;intro k;rcases pk t n with⟨v,u,g⟩|⟨r,g⟩
 .have h:=a.q.wd;rw[g]at h;have:=h.2.dO;rw[h.1.1]at k;omega
 .have d:=a.q.bd g;have i:cJ t c=ew c:=by
   unfold cJ;rw[Y2 (by rw[d.is Zm];simp),Y2 (by rw[d.is Zm];simp),Y9 (Y8 (by rw[d.k];omega))]
  rw[i]at f;exact d.hc.ec f
theorem jL.cR(a:jL t b c):oo c<=68:=by
 obtain⟨g,f,e,a,-⟩:=a;have h:=a.ti.O;have i:=a.ti.co;have j:=a.ti.pr;have l:=a.q.O;have d:=a.q.cn;have k:c.am.length=e.am.length:=by rw[a.q.pg];simp
 rw[a.dc]at d;unfold oo;omega
def bN(b:Nat):Nat:=5+2000000*b
def Ps{d b:Nat}(a:d<=bN b):d+2000000<=bN (b+1):=by unfold bN at *;omega
def Cl{d b:Nat}(a:d<=bN b)(c:b<=68):d+2000000<=200000000:=by unfold bN at *;omega
def Ds(g:Nat)(w:Zw):Nat:=match w.cell? (Zd g 11),w.cell? (Zd g 13),w.cell? (Zd g 14),w.cell? (Zd g 15)with
 |some (.int _ b),some (.int _ a),some (.int _ t),some (.slice _ c _)=>if b=0 then 70-(a.toNat+t.toNat+c)else 0
 |_,_,_,_=>0
def IC(b:bB X g t d c f w):Ds g w=if c.s.e=0 then 70-oo c else 0:=by
 obtain⟨l,o,p,q,r,u,v,x,y,m,h,n,i,j,a,A,B⟩:=b.al;obtain⟨ad,z,k⟩:=bM b.am;rw[k]at a;unfold Ds;rw[h,i,j,a];rfl
def Ey:Zv:=.agg #[.slice none 0 0,.slice none 0 0,.slice none 0 0,.string ⟨#[]⟩]
abbrev nc(a b c d:Zv):Obj:=.cells #[a,b,c,d] 62
def pS(t:Zb)(l:Nat)(i:Ending)(m:Zw):Prop:=match eP (aI t)with
 |.error a=>i=.returned (.tuple #[Ey,.int .i64 a.no,.int .i64 a.y])/\a.no≠0
 |.ok h=>∃f b X g d k j c,i=.returned (.tuple #[jj f b,.int .i64 0,.int .i64 0])/\bB X g t d b f m/\d<=1000000000/\b=dG c/\Wh t h k j c/\lI j h/\∀e,e<l->X e
def Ba{Q:Ending->Zw->Prop}{a:Act}{R}{b c:Zv}(j:a.tmps.getD 2 undef=Zp R)(h:a.tmps.getD 3 undef=b)(i:a.tmps.getD 4 undef=c)(k:a.defers=[])(d:w.heap[R]? = some (nc o r m u))(l:Q (.returned (.tuple #[.agg #[o,r,m,u],b,c])) w):bodyPost prog Tryz.f26 Q .ret a w:=by
 refine bodyPost_ret (v:=.tuple #[.agg #[o,r,m,u],b,c]) ?_ k l;have n:w.cell? (Zd R 0)=some o:=aS d rfl;have p:w.cell? (Zd R 1)=some r:=aS d rfl;have q:w.cell? (Zd R 2)=some m:=aS d rfl;have s:w.cell? (Zd R 3)=some u:=aS d rfl;unfold results;have e:a.tmps[2]?.getD undef=Zp R:=by simpa using j
 have f:a.tmps[3]?.getD undef=b:=by simpa using h
 have g:a.tmps[4]?.getD undef=c:=by simpa using i
 simp[results26,e,f,g,go_sem,n,p,q,s]
def Ot(t:Zb)(w:Zw)(d:1200<t.length):Calls prog 26 #[Zs t] w λc a=>an [] w a/\pS t w.heap.size c a:=by
 have e:(1200:Int) < ↑t.length:=Zm;have b:af (eP (aI t)=.error ⟨1,0⟩):=by
  show _=_;unfold eP;rw[Y9 (by show 1200<t.length;omega)]
 clear d;go_in;go_wp2;refine Ba (R:=w.heap.size) rfl rfl rfl rfl (aQ rfl) ?_;refine⟨(ao [] w).H _,?_⟩;unfold pS;rw[b.w];exact⟨rfl,Zq⟩
def CX{w d:Zw}(a:Fr (λe=>e<w.heap.size) w d):an [] w d:=⟨a.os,a.dq,a.dp,a.aD,λb c _=>a.L b c c⟩
abbrev xN(w:Zw)(a:Nat)(b c d e:Zv):Zw:=(((w.setCell ⟨a,0,none⟩ b).setCell ⟨a,1,none⟩ c).setCell ⟨a,2,none⟩ d).setCell ⟨a,3,none⟩ e
def Ag(w:Zw)(a:Nat)(b c d e:Zv):an [a] w (xN w a b c d e):=((((ao [a] w).aH (p:=⟨a,0,none⟩) Zq _).aH (p:=⟨a,1,none⟩) Zq _).aH (p:=⟨a,2,none⟩) Zq _).aH (p:=⟨a,3,none⟩) Zq _
def CW{w:Zw}{a:Nat}{j h f e:Zv}(b c d g:Zv)(l:w.heap[a]? = some (.cells #[j,h,f,e] k)):(xN w a b c d g).heap[a]? = some (.cells #[b,c,d,g] k):=by
 have m:(w.setCell ⟨a,0,none⟩ b).heap[a]? = some (.cells #[b,h,f,e] k):=bv (i:=0) l b;have n:((w.setCell ⟨a,0,none⟩ b).setCell ⟨a,1,none⟩ c).heap[a]? = some (.cells #[b,c,f,e] k):=bv (i:=1) m c;have o:(((w.setCell ⟨a,0,none⟩ b).setCell ⟨a,1,none⟩ c).setCell ⟨a,2,none⟩ d).heap[a]? = some (.cells #[b,c,d,e] k):=bv (i:=2) n d;exact bv (i:=3) o g
def PN{e a}{p i n b:Nat}(z:bB X g t d c f e)(D:f.rv=.slice j c.A.length p)(B:f.nv=.slice l c.K.length i)(C:f.pv=.slice h c.aq.length n)(q:e.heap[b]? = some (.cells #[o,r,m,u] k))(s:an [] e a):a.cell? (Zd g 7)=some (.slice j c.A.length p)/\a.cell? (Zd g 8)=some (.slice l c.K.length i)/\a.cell? (Zd g 9)=some (.slice h c.aq.length n)/\a.cell? (Zd g 10)=some (Zs c.w)/\a.cell? (Zd b 2)=some m:=by
 obtain⟨E,K,L,M,N,O,w,x,y,v,F,G,H,I,J,P,R⟩:=(z.ah s).al;have A:=(s.L b (au q) Zq).trans q;exact⟨by rw[w,D],by rw[x,B],by rw[y,C],v,aS A rfl⟩
def SX{o k b i m}(hF:vu t c)(F:c.s.e=0)(p:bB X g t d c f o)(I:f.rv=.slice j c.A.length k)(G:f.nv=.slice l c.K.length b)(H:f.pv=.slice h c.aq.length i)(y:d<=1000000000)(E:X m){n:Nat}(r:∀a,a<n->X a):pS t n (.returned (.tuple #[.agg #[.slice j c.A.length k,.slice l c.K.length b,.slice h c.aq.length i,Zs c.w],U 0,U 0])) (xN o m (.slice j c.A.length k) (.slice l c.K.length b) (.slice h c.aq.length i) (Zs c.w)):=by
 unfold vu at hF;unfold pS;split
 .grind [Er.ec]
 .rename_i D A;rw[A]at hF;obtain⟨-,u,B,C,v,w,x⟩:=hF;refine⟨f,c,X,g,d,u,B,C,?_,?_,y,v,w,x,r⟩
  .simp_all
  .have q:=Ag o m (.slice j c.A.length k) (.slice l c.K.length b) (.slice h c.aq.length i) (Zs c.w);exact p.gE q (λn r=>by simp_all) (λ_=>Y8) (λa z=>Yr (p.a3 a z) q.aD)
def HI{w:Zw}{b}(hF:vu t c)(d:c.s.e≠0):pS t b (.returned (.tuple #[Ey,U c.s.e,U c.s.a])) w:=by
 grind [vu,pS,Er.e,Er.a]
def Ov(t:Zb)(w:Zw)(g2:t.length<=1200):Calls prog 26 #[Zs t] w λf4 F=>an [] w F/\pS t w.heap.size f4 F:=by
 have m1:¬(1200:Int) < ↑t.length:=Zm;have e8:=aa g2;have e5:af (aZ (λg=>g<w.heap.size) (w.heap.size+1) t 0 lc [.obj w.heap.size (nc (.slice none 0 0) (.slice none 0 0) (.slice none 0 0) (.string ⟨#[]⟩))] w ((w.alloc (nc (.slice none 0 0) (.slice none 0 0) (.slice none 0 0) (.string ⟨#[]⟩))).alloc (pA t lc.s (ul wu lc)))):=by
  have g5:=ZL (X:=λg=>g<w.heap.size+1) (t:=t) (w.alloc (nc (.slice none 0 0) (.slice none 0 0) (.slice none 0 0) (.string ⟨#[]⟩))) (λg m=>by simp;exact m) Zm;have j2:(w.alloc (nc (.slice none 0 0) (.slice none 0 0) (.slice none 0 0) (.string ⟨#[]⟩))).heap.size=w.heap.size+1:=Zq;rw[j2]at g5;refine⟨cd.bE ⟨_,g5⟩ ?_,?_,?_,?_,?_⟩
  .rintro g (m|⟨c5,y,m⟩)
   .exact Nat.lt_succ_of_lt m
   .simp at y;subst y;have:w.heap.size=g:=by simpa[Th.bZ]using m
    omega
  .exact wW (((ao [] w).H _).H _) Zq
  .intro c5 y;simp at y;subst y;exact(((ao [] _).H _).L _ Zq Zq).trans (aQ rfl)
  .intro c5 y g m g9;simp at y;subst y;have:w.heap.size=g:=by simpa[Th.bZ]using m
   have g9:g<w.heap.size:=g9;omega
  .intro c h0 c5 g i5 y m;match c,h0 with
   |0,0=>exact absurd rfl i5
   |0,h0+1=>simp at m
   |c+1,_=>simp at y
 have e6:af (∀b:Nat,b<=4->dj ⟨b,0,0,[],[],0,[],0⟩ { lc with A:=nA.take b } = { lc with A:=nA.take (b+1) }):=aa (λb i6=>by
  have:b=0\/b=1\/b=2\/b=3\/b=4:=Zm;rcases this with rfl|rfl|rfl|rfl|rfl<;>rfl)
 clear g2;go_in;go_wp2;go_loopw [6] (λe3 O=>∃b:Nat,e3=U b/\b<=5/\af (aZ (λg=>g<w.heap.size) (w.heap.size+1) t b { lc with A:=nA.take b } [.obj w.heap.size (nc (.slice none 0 0) (.slice none 0 0) (.slice none 0 0) (.string ⟨#[]⟩))] w O)) (λe3 _=>5-(intOf e3).toNat)
 case atStart=>exact⟨0,rfl,Zm,e5⟩
 case round=>
  obtain⟨b,rfl,i6,p⟩:=hrel;clear e5;rcases Yj b 5 with d9|d9
  .have f6:(↑b:Int)<=4:=Zm;go_wp21;refine bj p (yy · ⟨b,0,0,[],[],0,[],0⟩ rfl rfl Zm) λj7 I=>?_;rw[e6.w b Zm]at I;go_wp2;exact⟨⟨b+1,Zj,Zm,I⟩,Zz⟩
  .have f6:¬(↑b:Int)<=4:=Zm;have d9:b=5:=Zm;subst d9;go_wp21;refine bj p (jW ·) λj7 I=>?_;rw[show bq t { lc with A:=nA.take 5 } = start t from rfl]at I;have c2:af ((∃b,jL t b (start t)/\5<=bN b)\/(yW t (start t)/\5<=200000000)):=aa (Y8 ⟨0,UL t,Y4 _⟩);clear p e6 f6;go_upto_block 2 with fail;go_cut [] (λwc=>∃(i:ai) (d:Nat),d<=200000000/\af (aZ (λg=>g<w.heap.size) (w.heap.size+1) t d i [.obj w.heap.size (nc (.slice none 0 0) (.slice none 0 0) (.slice none 0 0) (.string ⟨#[]⟩))] w wc)/\af ((i.s.e=0/\kj t 0 (pC i))\/((i.s.e==0)=false/\kj t 0 i)));case first=>
    go_wp2;go_loopw [] (λO=>∃(i:ai) (d:Nat),af (aZ (λg=>g<w.heap.size) (w.heap.size+1) t d i [.obj w.heap.size (nc (.slice none 0 0) (.slice none 0 0) (.slice none 0 0) (.string ⟨#[]⟩))] w O)/\af ((∃b,jL t b i/\d<=bN b)\/(yW t i/\d<=200000000))) (λO=>Ds (w.heap.size+1) O)
    case atStart=>exact⟨start t,5,I,c2⟩
    case round=>
     obtain⟨i,d,p,A⟩:=hrel;clear I c2;obtain⟨f,jv,f1,k,-⟩:=p.w.aY.sp;have c0:=aa (IC k);obtain⟨a5,-,-,-,-,-,-,-,-,-,z,-,-,-,-,S,a0⟩:=k.al;clear k;rcases A.w with⟨b,v,N⟩|⟨i2,N⟩
     .have e:=v.e;rw[e]at z;by_cases b3:i.s.x.F=0
      .rw[b3]at a5;have b1:d<=200000000:=by have:=Cl N v.le;omega
       have u:af (kj t 0 (pC i)):=by
        obtain⟨l2,k9,m8,q,i1⟩:=v.fin b3;exact aa (adJ e8.w q i1)
       clear e b3 c0 N;go_wp2;go_meet;case rel=>exact⟨i,d,b1,p,aa (Y8 ⟨v.e,u.w⟩)⟩
      .have m0:((i.s.x.F:Int)==0)=false:=Zx;have g1:((i.s.x.F:Int) != 0)=true:=Zx;have g4:=v.le;have g7:=aa v.g7;have f0:=aa (v.b6 b3);have e9:=aa v;have i3:d+2000000<=1000000000:=Yz (Cl N g4) Ze;have l5:=v.cR;have e7:af (d+2000000<=bN (b+1)/\d+2000000<=200000000):=aa ⟨Ps N,Cl N g4⟩;clear v A e b3;go_wp21;refine bj p (QR · g7.w.1 (λo j0=>(g7.w.2.cH o j0).1) i3) λj8 J=>?_;go_wp2;refine⟨⟨cJ t i,d+2000000,J,?_⟩,?_⟩
       .rcases f0.w with q|q
        .exact aa (Y8 ⟨b+1,q,e7.w.1⟩)
        .exact aa (Ya ⟨q,e7.w.2⟩)
       .obtain⟨l0,i4⟩:=J.w.aY;rw[c0.w,IC i4,Y9 e9.w.e];rcases f0.w with q|⟨f5,-,q⟩
        .rw[Y9 q.e];have:=e9.w.up q;have:=q.cR;omega
        .rw[Y2 q.ec];omega
     .obtain⟨f5,f8,d6⟩:=i2;have e:(i.s.e==0)=false:=by have:=d6.ec;simp;exact this
      have u:af (kj t 0 i):=aa (adI e8.w ⟨f5,f8,d6⟩ 0);clear A d6 f8 c0;go_wp2;go_meet;case rel=>exact⟨i,d,N,p,aa (Ya ⟨e,u.w⟩)⟩
   case rest=>
    obtain⟨i,d,b1,p,A⟩:=hcut;clear I c2;obtain⟨f,jv,f1,k,-⟩:=p.w.aY.sp;obtain⟨-,-,-,-,-,-,-,-,-,-,z,-,-,-,-,S,a0⟩:=k.al;clear k;go_upto_if 46 with fail;go_cut [] (λwc=>∃G,af (aZ (λg=>g<w.heap.size) (w.heap.size+1) t d G [.obj w.heap.size (nc (.slice none 0 0) (.slice none 0 0) (.slice none 0 0) (.string ⟨#[]⟩))] w wc)/\af (kj t 0 G));case first=>
     rcases A.w with⟨e,b2⟩|⟨e,b2⟩
     .have m:(i.s.e==0)=true:=by rw[e];rfl
      have u:=aa b2;clear e b2 A;go_wp21;refine bj p (aad · (Yz b1 Ze)) λj8 J=>?_;go_wp2;go_meet;case rel=>exact⟨_,J,u⟩
     .have u:=aa b2;clear b2 A;go_wp2;go_meet;case rel=>exact⟨_,p,u⟩
    case rest=>
     obtain⟨G,J,u⟩:=hcut;clear p A z S a0;go_wp2;go_loopw [7] (λe1 O=>∃(c:Nat) (a:ai),e1=U c/\c<=G.K.length/\af (a.K.length=G.K.length)/\af (aZ (λg=>g<w.heap.size) (w.heap.size+1) t d a [.obj w.heap.size (nc (.slice none 0 0) (.slice none 0 0) (.slice none 0 0) (.string ⟨#[]⟩))] w O)/\af (kj t c a)) (λe1 _=>G.K.length-(intOf e1).toNat)
     case atStart=>exact⟨0,G,rfl,Zm,aa rfl,J,u⟩
     case round=>
      obtain⟨c,a,rfl,f9,P,K,L⟩:=hrel;clear J u;obtain⟨f,jv,f1,k,B⟩:=K.w.aY.sp;obtain⟨j,f3,D⟩:=bM k.A;obtain⟨h,f2,C⟩:=bM k.aq;obtain⟨a5,d1,d2,d3,d4,d5,a6,a7,a8,c6,z,c7,c8,c9,d0,S,a0⟩:=k.al;rw[D]at a6;rw[B]at a7;rw[C]at a8;have H:=aa k;have r:=aa (Yp D (Yp B C));have l:=K.w.b2 (i:=0) (R:=w.heap.size) rfl;have M:=aa l;have k7:=dw l;have k6:=lx l;have k8:=au l;clear k D B C l a5 d1 d2 d3 d4 d5 c8 c9 d0;have m4:w.heap.size≠w.heap.size+1:=Zm;by_cases e:a.s.e=0
      .rcases Yj c a.K.length with b9|d8
       .obtain⟨l3,l1,g8,k0,k1,k2,k3,k4,k5,l6⟩:=tp H.w b9;have e0:=r.w.2.1;rw[g8]at e0;simp only[Value.slice.injEq]at e0;obtain⟨rfl,-,rfl⟩:=e0;have d7:a.K[c]? = some (a.K.getD c iC):=by simp[b9]
        have b5:=aa (L.w.b6 e d7);have c4:=aa (L.w.row e d7);generalize j1:a.K.getD c iC=o at *
        have l7:(0:Int)<=↑c:=Zm;have l8:(↑c:Int) < ↑a.K.length:=Zm;have g0:af (c+1<=G.K.length):=aa (by rw[<-P.w];omega);have a2:=aa e;have l9:a.K.length<=200000000:=by have a9:=H.w.bc;unfold ai.sz at a9;omega
        rw[e]at z;clear L e d7 j1 g8 b9;by_cases a1:o.a7=1
        .have j3:(o.a7==1)=true:=by simpa using a1
         obtain⟨i8,i9,g3⟩:=c4.w a1;obtain⟨E,g1⟩:∃E:Nat,o.n=E:=⟨o.n.toNat,Zm⟩;have b6:af (kj t (c+1) (if rN a E=true then cm 9 o.y a else a)):=by
          have a9:=b5.w;rw[g1,Int.toNat_natCast]at a9;simp only[a1,true_and]at a9;exact aa a9
         have i7:E<a.A.length:=Zm;have h1:=aa g3;clear c4 b5 g3 i8 i9;go_wp2;have a3:=aa (K.w.H (.cells #[Zs o.s,U 1,U ↑E,U o.y] 119));clear a6 a7 a8 c6 z c7 S a0 k0 k1 k2 k3 k4 k5 k6 k7 k8 H r M;generalize l4:wr.heap.size=a4 at *
         generalize wr.alloc (.cells #[Zs o.s,U 1,U ↑E,U o.y] 119)=e4 at a3 ⊢;obtain⟨f,h3,h4,k,B⟩:=a3.w.aY.sp;obtain⟨j,f3,D⟩:=bM k.A;obtain⟨h,f2,C⟩:=bM k.aq;obtain⟨a5,d1,d2,d3,d4,d5,a6,a7,a8,c6,z,c7,c8,c9,d0,S,a0⟩:=k.al;rw[D]at a6;rw[B]at a7;rw[C]at a8;have b7:=aa (RD (k.ah (ao [] e4).aU) i7 h1.w (Yz b1 Ze));unfold jj at b7;rw[D,B,C]at b7;have l:=a3.w.b2 (i:=0) (R:=a4) rfl;have j4:=lx l;have j5:=dw l;have j6:=au l;have H:=aa k;have r:=aa (Yp D (Yp B C));have M:=aa l;clear k D B C l a5 d1 d2 d3 d4 d5 c8 c9 d0;refine cy (λF=>F.cell? ⟨w.heap.size+1,7,none⟩=some (.slice j a.A.length f3)/\F.cell? ⟨w.heap.size+1,8,none⟩=some (.slice h3 a.K.length h4)/\F.cell? ⟨w.heap.size+1,9,none⟩=some (.slice h a.aq.length f2)/\F.cell? ⟨w.heap.size+1,10,none⟩=some (Zs a.w)/\F.cell? (Zd a4 2)=some (U ↑E)) ?_ λf7=>?_
         .go_keep
         refine bI [0,1,2,3,4,5] ?_;iterate 6 (refine bK ?_)
         refine bJ ?_;refine cx 6 λc1 b0=>?_;(go_simp;refine b7.w.mono ?_;rintro f4 j9 ⟨rfl,e2⟩;have c3:=aa (a3.w.aU.ac e2);obtain⟨h7,h8,h9,h5,h6⟩:=PN (H.w.ah (ao [] e4).aU) r.w.1 r.w.2.1 r.w.2.2 (show (e4.drew).heap[a4]? = _ from M.w) e2);refine b0.out _ _ ?_ (λf7=>?_)
         .go_keep
         clear b0 c1;refine nz ?_;refine cw λc1 b0=>?_;go_simp;refine b0.out _ _ ?_;clear b0 c1;refine nz ?_;have l:=c3.w.b2 (i:=0) (R:=a4) rfl;have m5:j9.cell? (Zd a4 3)=some (U o.y):=aS l rfl;have m6:=dw l;have m7:=au l;have b8:=g0.w;clear l b7 f7 a6 a7 a8 c6 z c7 S a0 j4 j5 j6 H r M h7 h8 h9 h5 h6 a3 e2;cases m:rN a E with
         |true=>
          rw[m,Y9 rfl]at b6;go_wp21;refine bj c3 (mM · 9 o.y) λm9 h2=>?_;go_wp2;exact⟨⟨c+1,cm 9 o.y a,Zj,b8,P,aa h2.w.bY,b6⟩,Zz⟩
         |false=>
          rw[m,Y2 Zq]at b6;go_wp2;exact⟨⟨c+1,a,Zj,b8,P,aa c3.w.bY,b6⟩,Zz⟩
        .have j3:(o.a7==1)=false:=by simpa using a1
         rw[Y2 (λi0=>a1 i0.1)]at b5;clear c4 a1;go_wp2;have b8:=g0.w;exact⟨⟨c+1,a,Zj,b8,P,aa ((K.w.H _).bY),b5⟩,Zz⟩
       .have g6:¬(↑c:Int) < ↑a.K.length:=Zm;have b4:=aa (L.w.fin (Y8 d8));have a2:=aa e;rw[e]at z;clear L P f9 e d8;go_wp2;refine Ba (R:=w.heap.size) rfl rfl rfl rfl (CW _ _ _ _ M.w) ?_;refine⟨pm (CX K.w.fr) (Ag ..) Zq,?_⟩;exact SX b4.w a2.w H.w r.w.1 r.w.2.1 r.w.2.2 (Yz b1 Ze) (Ya ⟨_,Yc.2 rfl,rfl⟩) λg m=>Y8 m
      .have m2:(a.s.e==0)=false:=by simpa using e
       have m3:(a.s.e != 0)=true:=by simpa using e
       have b4:=aa (L.w.fin (Ya e));have a2:=aa e;clear L P f9 e;rcases Yj c a.K.length with b9|d8
       .have g6:(↑c:Int) < ↑a.K.length:=Zm;go_wp2;go_region;go_wp2;refine Ba (R:=w.heap.size) (w:=(xN wr w.heap.size (.slice none 0 0) (.slice none 0 0) (.slice none 0 0) (.string ⟨#[]⟩)).drew) rfl rfl rfl rfl (CW _ _ _ _ M.w) ?_;exact⟨(pm (CX K.w.fr) (Ag ..) Zq).aU,HI b4.w a2.w⟩
       .have g6:¬(↑c:Int) < ↑a.K.length:=Zm;go_wp2;go_region;go_wp2;refine Ba (R:=w.heap.size) (w:=(xN wr w.heap.size (.slice none 0 0) (.slice none 0 0) (.slice none 0 0) (.string ⟨#[]⟩)).drew) rfl rfl rfl rfl (CW _ _ _ _ M.w) ?_;exact⟨(pm (CX K.w.fr) (Ag ..) Zq).aU,HI b4.w a2.w⟩
def FR(t:Zb)(w:Zw):Calls prog 26 #[Zs t] w λc b=>an [] w b/\pS t w.heap.size c b:=by
 rcases Yj 1200 t.length with a|a
 .exact Ot t w a
 .exact Ov t w a
end
end Go.Proofs.YtjdhaegijjednaaGreatDoor
namespace Go.Proofs.YtjdhaegijjednaaGreatDoor
open Mar (m3)
open Go.Proofs.Tryz
abbrev nm(a:Zb):m3:=⟨1,a,0⟩
end Go.Proofs.YtjdhaegijjednaaGreatDoor
namespace Go.Proofs.YtjdhaegijjednaaGreatDoor
open Go.RowKit Go.MapKept Go.Proofs.Tryz
section
variable {b c:Nat}{a:List Int}
def Od(D:a.length<=1000)(x:a.length<=b)(f:Int)(i:Zw)(m:∀e (v:e<a.length),i.cell? (Zd c e)=some (U a[e])) :
  Calls prog 412 #[.slice (some ⟨c,0,none⟩) a.length b,U f] i λp u=>(∃e:Int,p=.returned (U e)/\decide (0<=e)=a.contains f)/\u=i:=by
 have o:=aa m;clear m;go_in;go_wp2;go_loopw [8] (λe t=>∃d:Nat,e=U d/\d<=a.length/\af (∀h∈a.take d,h≠f)/\t=i) (λe _=>a.length-(intOf e).toNat)
 case atStart=>exact⟨0,rfl,Zm,(by intro h g;grind),rfl⟩
 case round=>
  obtain⟨d,rfl,A,j,rfl⟩:=hrel;rcases Yj d a.length with l|y
  .have E:=o.w d l;have B:(0:Int)<=↑d:=Zm;have C:(↑d:Int) < ↑a.length:=Zm;by_cases k:f=a[d]
   .have q:(f==a[d])=true:=Zg;have z:af (a.contains f=true):=by show _=_;simp_all
    clear k;go_wp2;go_ret;simp_all
   .have q:(f==a[d])=false:=Zg;have n:af (∀h∈a.take (d+1),h≠f):=by
     intro h g;rw[Yt l]at g;rcases Yn.1 g with g|g
     .exact j.w h g
     grind
    clear k;go_wp2;exact⟨⟨d+1,Zr,Zm,n,trivial⟩,Zz⟩
  .have r:d=a.length:=Zm;subst r;have s:af (a.contains f=false):=by
    show _=_;have w:=j.w;grind
   clear j;go_wp2;go_ret;exact⟨⟨-1,rfl,by rw[s.w];simp⟩,rfl⟩
def Nk(l:a.length<=1000)(k:a.length<=b)(f:Int)(e:Zw)(m:∀d (o:d<a.length),e.cell? (Zd c d)=some (U a[d])) :
  Calls prog 408 #[.slice (some ⟨c,0,none⟩) a.length b,U f] e λg n=>g=.returned (.bool (a.contains f))/\n=e:=by
 have j:=aa (Od l k f e m);go_in;go_wp21;refine j.w.mono ?_;rintro g p ⟨⟨d,rfl,h⟩,rfl⟩;have i:=aa h;clear h;go_wp2;go_ret;refine⟨?_,rfl⟩;rw[<-i.w];rfl
end
section
variable {a:Zo}{w:Zw}
def Vi{v b}(k:FJ a v (some b))(h:∀i∈a,w.heap[i.1]? = some i.2):∃d c,v=.slice (some ⟨d,0,none⟩) b.length c/\b.length<=1000/\b.length<=c/\∀(f:Zw),an [] w f->∀e (o:e<b.length),f.cell? (Zd d e)=some (U b[e]):=by
 obtain⟨t,q⟩:=k;rcases q with⟨_,s,_⟩|⟨d,c,r,j,⟨l,m⟩,g,n⟩
 .simp_all
 .exact⟨d,c,j,m,l,λf p e o=>dt ((p.L _ (au (h _ g)) Zq).trans (h _ g)) n Zq⟩
def FL{m c}(t:hJ a m c)(b:Int)(z:∀r∈a,w.heap[r.1]? = some r.2) :
  Calls prog 355 #[.agg m.toArray,U b] w λn B=>n=.returned (.bool (c.c2 b))/\Below w.heap.size w B:=by
 have h:∀g,Below w.heap.size w (w.alloc g):=λg=>(Below.refl ..).alloc (Y4 _) _;have H:∀e,(binOp BinOp.eql 245 (.slice none 0 0) (.slice none 0 0)).run prog e=.ok (.bool true) e:=λe=>by kernel_rfl
 have I:∀(s:Addr) (p q:Nat) (e:Zw),(binOp BinOp.eql 245 (.slice (some s) p q) (.slice none 0 0)).run prog e=.ok (.bool false) e:=λs p q e=>by kernel_rfl
 obtain⟨J,rfl,f,C,D,E,rfl⟩:=t;by_cases k:c.e6<=b
 .by_cases l:b<=c.e4
  .cases i:c.h6 with
   |none=>
    rw[i]at f;have y:Value.slice C D E=.slice none 0 0:=f;cases y
    have d:af (c.c2 b=true):=by show _=_;simp[dD.c2,k,l,i]
    go_in;go_wp2;go_ret;refine⟨?_,h _⟩;rw[d.w];rfl
   |some A=>
    rw[i]at f;obtain⟨G,F,u,v,x,o⟩:=Vi f z;cases u
    have d:af (c.c2 b=A.contains b):=by show _=_;simp[dD.c2,k,l,i]
    have j:=λg=>Nk v x b (w.alloc g) (o _ ((ao [] w).H g));have j:=aa j;clear f o;go_in;go_wp2_with (go_at_call 408;refine(j.w _).mono ?_;rintro n K ⟨rfl,rfl⟩);go_ret;refine⟨?_,h _⟩;rw[d.w];simp
  .have d:af (c.c2 b=false):=by show _=_;simp[dD.c2,l]
   go_in;go_wp2;go_ret;refine⟨?_,h _⟩;rw[d.w];rfl
 .have d:af (c.c2 b=false):=by show _=_;simp[dD.c2,k]
  go_in;go_wp2;go_ret;refine⟨?_,h _⟩;rw[d.w];rfl
end
def TK:(prog.info? 87).map (λa=>(a.zero,a.size,a.bytes))=some (some (.agg #[U 0,U 0,.string ⟨#[]⟩,U 0,U 0]),5,48):=Zk
def ke(c:dD)(e:List (Int×Nat×Nat))(d:Option (Nat×Nat))(b:Int):Zv:=match eW c e d b with
 |some a=>.agg #[.int .i64 a.1,.int .i64 a.2]
 |none=>.agg #[.int .i64 0,.int .i64 0]
def aez{f:Zw}{h:Nat}{e}(i:f.heap[h]? = some (jn e))(j:(e.map (·.1)).Nodup)(a:Int) :
  (Instr.lookup 389 (.map (some h)) (.int .i64 a) true).run prog f=.ok (match ci e a with
   |some b=>.tuple #[.agg #[.int .i64 b.1,.int .i64 b.2],.bool true]
   |none=>.tuple #[.agg #[.int .i64 0,.int .i64 0],.bool false]) f:=by
 have c:=xY (P:=prog) (T:=389) (kt:=2) (et:=394) (d:=.int .i64) Zk Zk (λa:Int=>.int .i64 a) (λb:Nat×Nat=>.agg #[.int .i64 b.1,.int .i64 b.2]) (λ_=>rfl) HZ i j (z:=.agg #[.int .i64 0,.int .i64 0]) Zk a true;cases g:ci e a with
 |none=>rw[g]at c;exact c
 |some v=>rw[g]at c;exact c
def tD{a:Nat}{g h k' t':Zv}{b c}{d:Zw}(e:d.heap[a]? = some (.cells #[g,h] b c)):((d.setCell ⟨a,0,none⟩ k').setCell ⟨a,1,none⟩ t').heap[a]? = some (.cells #[k',t'] b c):=by
 have f:=bv (i:=0) e k';exact bv (i:=1) f t'
def OP{C M d}{F:Nat}{e J m}(P:hJ C M d)(S:(F,jn e)∈C)(E:pZ C J m)(b1:(e.map (·.1)).Nodup)(c:Int){w:Zw}(z:∀p∈C,w.heap[p.1]? = some p.2) :
  Calls prog 404 #[.agg (M++[.map (some F),J]).toArray,.int .i64 c] w λN b3=>N=.returned (.tuple #[ke d e m c,.bool (eW d e m c).isSome])/\Below w.heap.size w b3:=by
 obtain⟨c8,rfl,b0,b4,b5,b6,rfl⟩:=id P;obtain⟨G,rfl⟩:∃G,J=.pointer G:=by
  cases m with
  |none=>exact⟨_,E⟩
  |some b=>obtain⟨b7,a7,_⟩:=E;exact⟨_,a7⟩
 have R:∀A B,Below w.heap.size w ((w.alloc A).alloc B):=λA B=>((Below.refl ..).alloc (Y4 _) _).alloc Zq _;have a5:=aa (λA B=>FL P c (w:=(w.alloc A).alloc B) (λp a0=>((R A B).block _ (au (z p a0))).trans (z p a0)));go_in;go_wp21;refine(a5.w _ _).mono ?_;rintro N l ⟨rfl,D⟩;have b2:l.heap[w.heap.size]? = some (.cells #[.int .i64 d.e6,.int .i64 d.e4,.slice b4 b5 b6,.bool d.b8,.map (some F),.pointer G] 392):=(D.block _ Zx).trans ((Below.heap_alloc _ _ _ Zq).trans (aQ rfl));have n:l.heap[w.heap.size+1]? = some (.cells #[.int .i64 0,.int .i64 0] 394):=(D.block _ Zq).trans (aQ Zq);have k:Below w.heap.size w l:=(R ..).trans (D.mono Zx);have a9:l.heap[F]? = some (jn e):=(k.block _ (au (z _ S))).trans (z _ S);have I:=aez a9 b1 c;have c6:=k.size;have c7:=au n;have K:=aa E;have L:=aa z;clear D b0 E z;cases h:d.c2 c with
 |false=>
  have r:af (ke d e m c=.agg #[.int .i64 0,.int .i64 0]):=by show _=_;simp[ke,eW,h]
  have s:af ((eW d e m c).isSome=false):=by show _=_;simp[eW,h]
  have y:af (∀f g,Below w.heap.size w ((l.setCell ⟨w.heap.size+1,0,none⟩ f).setCell ⟨w.heap.size+1,1,none⟩ g)):=λf g=>(k.setCell (p:=⟨w.heap.size+1,0,none⟩) Zq f).setCell (p:=⟨w.heap.size+1,1,none⟩) Zq g;obtain⟨a1,a2,a3,a4⟩:=iy n;obtain⟨u,x,_,_⟩:=iy (tD (k':=.int .i64 0) (t':=.int .i64 0) n);clear k I;go_wp2;exact bodyPost_ret (v:=.tuple #[.agg #[.int .i64 0,.int .i64 0],.bool false]) (by simp[results,results404,go_sem,u,x]) rfl ⟨by rw[r.w,s.w],y.w ..⟩
 |true=>
  obtain⟨b8,b9,c0,c1,c2,c3,c4,c5⟩:=kT b2;cases i:ci e c with
  |some b=>
   rw[i]at I;have r:af (ke d e m c=.agg #[.int .i64 b.1,.int .i64 b.2]):=by show _=_;simp[ke,eW,h,i]
   have s:af ((eW d e m c).isSome=true):=by show _=_;simp[eW,h,i]
   have t:∀(o q:Zv) a,(((l.setCell ⟨w.heap.size+1,0,none⟩ o).setCell ⟨w.heap.size+1,1,none⟩ q).alloc a).heap[w.heap.size+1]? = some (.cells #[o,q] 394):=λo q a=>(Below.heap_alloc _ _ _ (au (tD n))).trans (tD n);have y:af (∀a f g,Below w.heap.size w (((l.setCell ⟨w.heap.size+1,0,none⟩ f).setCell ⟨w.heap.size+1,1,none⟩ g).alloc a)):=λa f g=>((k.setCell (p:=⟨w.heap.size+1,0,none⟩) Zq f).setCell (p:=⟨w.heap.size+1,1,none⟩) Zq g).alloc (by simp[World.setCell];omega) a;obtain⟨a1,a2,a3,a4⟩:=iy n;have j:=λa=>iy (t (.int .i64 (b.1:Int)) (.int .i64 (b.2:Int)) a);have u:=λa=>(j a).1;have x:=λa=>(j a).2.1;clear k j t h i;go_wp2;exact bodyPost_ret (v:=.tuple #[.agg #[.int .i64 b.1,.int .i64 b.2],.bool true]) (by simp[results,results404,go_sem,u,x]) rfl ⟨by rw[r.w,s.w],y.w ..⟩
  |none=>
   rw[i]at I;have t:∀(o q:Zv) a,(((l.setCell ⟨w.heap.size+1,0,none⟩ o).setCell ⟨w.heap.size+1,1,none⟩ q).alloc a).heap[w.heap.size+1]? = some (.cells #[o,q] 394):=λo q a=>(Below.heap_alloc _ _ _ (au (tD n))).trans (tD n);have y:af (∀a f g,Below w.heap.size w (((l.setCell ⟨w.heap.size+1,0,none⟩ f).setCell ⟨w.heap.size+1,1,none⟩ g).alloc a)):=λa f g=>((k.setCell (p:=⟨w.heap.size+1,0,none⟩) Zq f).setCell (p:=⟨w.heap.size+1,1,none⟩) Zq g).alloc (by simp[World.setCell];omega) a;obtain⟨a1,a2,a3,a4⟩:=iy n;cases m with
   |some b=>
    obtain⟨a6,H,O⟩:=K.w;cases H
    have a8:l.heap[a6]? = some (.cells #[.int .i64 b.1,.int .i64 b.2] 394):=(k.block _ (au (L.w _ O))).trans (L.w _ O);obtain⟨c9,d0,d1,d2⟩:=iy a8;have r:af (ke d e (some b) c=.agg #[.int .i64 b.1,.int .i64 b.2]):=by show _=_;simp[ke,eW,h,i]
    have s:af ((eW d e (some b) c).isSome=true):=by show _=_;simp[eW,h,i]
    have j:=λa=>iy (t (.int .i64 (b.1:Int)) (.int .i64 (b.2:Int)) a);have u:=λa=>(j a).1;have x:=λa=>(j a).2.1;clear k j t h i;go_wp2;exact bodyPost_ret (v:=.tuple #[.agg #[.int .i64 b.1,.int .i64 b.2],.bool true]) (by simp[results,results404,go_sem,u,x]) rfl ⟨by rw[r.w,s.w],y.w ..⟩
   |none=>
    have H:Value.pointer G=.pointer none:=K.w;cases H
    have r:af (ke d e none c=.agg #[.int .i64 0,.int .i64 0]):=by show _=_;simp[ke,eW,h,i]
    have s:af ((eW d e none c).isSome=false):=by show _=_;simp[eW,h,i]
    have j:=λa=>iy (t (.int .i64 0) (.int .i64 0) a);have u:=λa=>(j a).1;have x:=λa=>(j a).2.1;clear k j t h i;go_wp2;exact bodyPost_ret (v:=.tuple #[.agg #[.int .i64 0,.int .i64 0],.bool false]) (by simp[results,results404,go_sem,u,x]) rfl ⟨by rw[r.w,s.w],y.w ..⟩
section
def sv{i g:Type}(c:Zw)(h:Zo->i->Zw->Prop)(Fr:Zo)(f:Except Mar.ay (g×i))(j:g->Zv)(e:Ending)(u':Zw):Prop:=
 (∃b d,f=.ok (b,d)/\e=.returned (j b)/\h Fr d u')\/(∃a,f=.error a/\an [] c u'/\fm c a.no a.y e u')
def wK{i:Type}(a:Except Mar.ay i):Except Mar.ay (Unit×i):=bg a λd=>.ok ((),d)
structure dZ(i:Type)(c:Zw)(n:Zo) where
 W:Wk i
 T:TypeId
 D:Nat
 J:Zo->i->Zw->Prop
 cX:∀{Fr d u},J Fr d u->∃own bz,ee c own Fr bz u/\∀{Fr' u' M},an M u u'->(∀m∈M,m ∉ own)->ee c own Fr' bz u'->J Fr' d u'
 fE:Nat
 fN:Nat
 fT:Nat
 fL:Nat
 fA:Nat
 mE : ∀ k (u : World), (method (k + 1) T (.pointer (some ⟨D, 0, none⟩)) "Enter").run Tryz.prog u = .ok (fE, .pointer (some ⟨D, 0, none⟩)) u
 mN : ∀ k (u : World), (method (k + 1) T (.pointer (some ⟨D, 0, none⟩)) "Number").run Tryz.prog u = .ok (fN, .pointer (some ⟨D, 0, none⟩)) u
 mT : ∀ k (u : World), (method (k + 1) T (.pointer (some ⟨D, 0, none⟩)) "Text").run Tryz.prog u = .ok (fT, .pointer (some ⟨D, 0, none⟩)) u
 mL : ∀ k (u : World), (method (k + 1) T (.pointer (some ⟨D, 0, none⟩)) "List").run Tryz.prog u = .ok (fL, .pointer (some ⟨D, 0, none⟩)) u
 mA : ∀ k (u : World), (method (k + 1) T (.pointer (some ⟨D, 0, none⟩)) "Arm").run Tryz.prog u = .ok (fA, .pointer (some ⟨D, 0, none⟩)) u
 eE:∀(args:Array Zv) (u:Zw),(callFunc fE args).run prog u=.ok (.enter fE args) u
 eN:∀(args:Array Zv) (u:Zw),(callFunc fN args).run prog u=.ok (.enter fN args) u
 eT:∀(args:Array Zv) (u:Zw),(callFunc fT args).run prog u=.ok (.enter fT args) u
 eL:∀(args:Array Zv) (u:Zw),(callFunc fL args).run prog u=.ok (.enter fL args) u
 eA:∀(args:Array Zv) (u:Zw),(callFunc fA args).run prog u=.ok (.enter fA args) u
 cE:∀{Fr d u} (k:Nat),k<1000->J Fr d u->Calls prog fE #[Zp D,U k] u (sv c J Fr (wK (W.ef k d)) λ_=>.tuple #[])
 cN:∀{Fr d u cs a},hJ n cs a->J Fr d u->Calls prog fN #[Zp D,.agg cs.toArray] u (sv c J Fr (wK (W.num a d)) λ_=>.tuple #[])
 cT:∀{Fr d u} (a:Int) (f:Bool),0<=a->a<=4294967295->J Fr d u->Calls prog fT #[Zp D,.agg #[U a,.bool f]] u (sv c J Fr (wK (W.text a f d)) λ_=>.tuple #[])
 cL:∀{Fr d u} (a:Int) (f:Bool),0<=a->a<=4294967295->J Fr d u->Calls prog fL #[Zp D,.agg #[U a,.bool f]] u (sv c J Fr (W.a6 a f d) λv=>U v)
 cA:∀{Fr d u cs a m ws ov o},hJ n cs a->(m,jn ws)∈n->pZ n ov o->(ws.map (·.1)).Nodup->J Fr d u->Calls prog fA #[Zp D,.agg (cs++[.map (some m),ov]).toArray] u (sv c J Fr (W.de a (λk=>(eW a ws o k).map (·.2)) d) (ke a ws o))
 dO:∀{a f d k d'},0<=a->a<=4294967295->W.a6 a f d=.ok (k,d')->k<=4294967295
section
variable {i : Type} {c u u' : Zw} {n : List (Nat × Obj)} (b : dZ i c n) {Fr : List (Nat × Obj)} {d : i}
def dZ.kp(a:b.J Fr d u):an [] c u:=by
 obtain⟨g,f,e,_⟩:=b.cX a;exact e.kp
def dZ.ah(c:b.J Fr d u)(a:Below u.heap.size u u'):b.J Fr d u':=by
 obtain⟨h,g,f,e⟩:=b.cX c;exact e (bT [] a) Zq (f.ah a)
def dZ.H(c:b.J Fr d u)(a:Obj):b.J ((u.heap.size,a)::Fr) d (u.alloc a):=by
 obtain⟨h,g,f,e⟩:=b.cX c;exact e ((ao [] u).H a) Zq (f.H a)
def dZ.g2{a}(c:b.J Fr d u)(g:Fr.Perm a):b.J a d u:=by
 obtain⟨j,i,f,e⟩:=b.cX c;refine e (ao [] u) Zq (f.bE (λk h=>g.mem_iff.2 h) ?_);grind [ee.d5]
def dZ.bE{Fr':Zo}(a:b.J Fr d u)(g:∀h∈Fr',h∈Fr)(e:(Fr'.map (·.1)).Nodup):b.J Fr' d u:=by
 obtain⟨j,i,f,c⟩:=b.cX a;exact c (ao [] u) Zq (f.bE g e)
def dZ.kH(a:b.J Fr d u):(Fr.map (·.1)).Nodup:=by
 obtain⟨g,e,c,f⟩:=b.cX a;exact c.d5
def dZ.at(f:b.J Fr d u){p:Nat×Obj}(e:p∈Fr):u.heap[p.1]? = some p.2/\c.heap.size<=p.1:=by
 obtain⟨i,g,a,h⟩:=b.cX f;exact⟨(a.hf p e).1,a.fy p e⟩
theorem dZ.dN{a:Nat}{o f:Obj}(g:b.J ((a,o)::Fr) d u)(c:an [a] u u')(i:u'.heap[a]? = some f):b.J ((a,f)::Fr) d u':=by
 obtain⟨k,j,e,h⟩:=b.cX g;exact h c (by simpa using (e.hf (a,o) Zq).2) (e.dN c i)
def dZ.iU{A B:Zo}{a:Nat}{h c:Obj}(e:b.J (A++(a,h)::B) d u)(f:an [a] u u')(g:u'.heap[a]? = some c):b.J (A++(a,c)::B) d u':=
 b.g2 (b.dN (b.g2 e List.perm_middle) f g) List.perm_middle.symm
end
def oa(j:Zo)(h:TypeId)(e:Nat)(v:Zv)(a:Nat)(l:Zl):Prop:=
 (j=[]/\v=.slice none 0 0/\a=0/\l=[])\/∃d b c,j=[(d,.cells c h)]/\v=.slice (some ⟨d,0,none⟩) a b/\a<=b/\b<=maxLen/\c.size=b*e/\c.toList.take (a*e)=l
section
variable {i : Type} {c u : Zw} {n : List (Nat × Obj)} (b : dZ i c n) {Fr j : List (Nat × Obj)} {d : i} {h : TypeId} {e a : Nat} {v : Zv} {l : Zl}
def oa.cS(c:oa j h e v a l):∃ad b,v=.slice ad a b:=by
 rcases c with⟨_,rfl,rfl,_⟩|⟨f,b,d,_,rfl,_⟩;all_goals simp
def oa.j4(n:oa j h e v a l)(w:l.length=a*e)(t:b.J (j++Fr) d u):u.ownsRow c.heap.size h e v a l:=by
 refine⟨w,?_⟩;rcases n with⟨_,rfl,rfl,rfl⟩|⟨g,m,f,rfl,rfl,o,q,r,s⟩
 .simp
 .obtain⟨i,k⟩:=b.at t (p:=(g,.cells f h)) Zq;exact Ya ⟨g,m,f,rfl,k,i,o,q,r,s⟩
def oa.a9{p q:Zw}{g s:Nat}{H:Zl}(M:oa j h e v a l)(S:b.J (j++Fr) d u)(N:Below u.heap.size u p)
  (E:q.ownsRow c.heap.size h e (.slice (some ⟨g,0,none⟩) (a+1) s) (a+1) (l++H)) (O:p.grownBy q v.ownBlock) (t:v.ownBlock=some g\/g=p.heap.size) :
  ∃z,oa z h e (.slice (some ⟨g,0,none⟩) (a+1) s) (a+1) (l++H)/\b.J (z++Fr) d q:=by
 obtain⟨F,b4⟩:=hR E (g:=g) rfl;rcases E.2 with⟨a9,_⟩|⟨a7,a5,B,n,_,y,a1,a2,a3,a4⟩
 .omega
 cases n
 have r:=b.ah S N;have m:=gt O;refine⟨[(g,.cells B h)],Ya ⟨g,s,B,rfl,rfl,a1,a2,a3,a4⟩,?_⟩;rcases M with⟨rfl,rfl,rfl,rfl⟩|⟨a8,a6,L,rfl,rfl,b0,b1,b2,b3⟩
 .simp only[Value.ownBlock]at t m;have R:g=p.heap.size:=by
   simp_all
  have C:an [] p q:=m.ak Zq;obtain⟨I,A,f,w⟩:=b.cX r;refine w C Zq ((f.bm C Zq).jI y F ?_ ?_ ?_)
  .intro x;have:=f.lt _ x;omega
  .intro k i;have:=au (f.hf k i).1;omega
  .intro k i;have:=au (f.hb k i).1;omega
 .simp only[Value.ownBlock,Yu,Option.toList_some]at t m;rcases t with rfl|R
  .exact b.dN (o:=.cells L h) r m y
  .have D:=b.kH r;simp only[YX,YT,List.map_cons,List.nodup_cons]at D;obtain⟨I,A,f,w⟩:=b.cX r;have P:=f.hf _ Yb;have K:=f.b0;have a0:ee c I Fr A q:=K.df m (by
    intro b5 G;simp only[Yc]at G;subst G;refine⟨f.fy _ Yb,P.2,?_,?_⟩
    .intro k i n;exact D.1 (by rw[<-n];exact List.mem_map_of_mem i)
    .intro k i n;exact f.gA _ Yb k i n.symm)
   refine w m Zu (a0.jI y F ?_ ?_ ?_)
   .intro x;have:=f.lt _ x;omega
   .intro k i;have:=au (K.hf k i).1;omega
   .intro k i;have:=au (f.hb k i).1;omega
def oa.j5{f g:Zl}(i:oa j h e v (a+1) (f++g))(p:f.length=a*e):∃d c b,v=.slice (some ⟨d,0,none⟩) (a+1) c/\a+1<=c/\j=[(d,.cells b h)]/\b.toList.take ((a+1)*e)=f++g/\oa j h e (.slice (some ⟨d,0,none⟩) a c) a f:=by
 rcases i with⟨_,_,o,_⟩|⟨d,c,b,rfl,rfl,k,l,m,n⟩
 .omega
 .refine⟨d,c,b,rfl,k,rfl,n,Ya ⟨d,c,b,rfl,rfl,Zm,l,m,?_⟩⟩;have:b.toList.take (a*e)=(b.toList.take ((a+1)*e)).take (a*e):=by
   grind
  simp_all
end
end
section
abbrev oG(a:Nat×Nat):Zl:=[U a.1,U a.2]
abbrev rV{g:Type}{w:Zw}{k:Zo}(K:dZ g w k)(a:Nat)(f e:Zv)(c:Bool):Obj:=.cells #[.iface K.T (Zp K.D),U a,f,e,.bool c] 329
structure mt{g:Type}{w:Zw}{k:Zo}(K:dZ g w k)(Fr:Zo)(b:Nat)(m:gC)(c:Bool)(d:g)(h Er:Zo)(f e:Zv)(a:Zw):Prop where
 rc:oa h 3 1 f m.aL.length (m.aL.reverse.map rT)
 rr:oa Er 515 2 e m.cc.length (m.cc.reverse.flatMap oG)
 j:K.J (h++(Er++(b,rV K m.ag f e c)::Fr)) d a
def Mc{g:Type}{w k}(K:dZ g w k)(Fr:Zo)(b:Nat)(m:gC)(c:Bool)(d:g)(a:Zw):Prop:=∃h Er f e,mt K Fr b m c d h Er f e a
def mG{a:Nat}{b c d e f:Zv}{h}{w:Zw}(g:w.heap[a]? = some (.cells #[b,c,d,e,f] h)) :
  w.cell? (Zd a 0)=some b/\w.cell? (Zd a 1)=some c/\w.cell? (Zd a 2)=some d/\w.cell? (Zd a 3)=some e/\w.cell? (Zd a 4)=some f/\(∀i,w.frozen? ⟨a,i,none⟩=false)/\a<w.heap.size:=by
 refine⟨?_,?_,?_,?_,?_,?_,au g⟩<;>simp[World.cell?,World.frozen?,g]
section
variable {g : Type} {w a u' : Zw} {k : List (Nat × Obj)} {K : dZ g w k} {Fr : List (Nat × Obj)} {b : Nat} {m : gC} {c : Bool} {d : g} {h Er : List (Nat × Obj)} {f e : Zv}
theorem mt.ap(g:mt K Fr b m c d h Er f e a):a.heap[b]? = some (rV K m.ag f e c):=(K.at g.j (p:=(b,rV K m.ag f e c)) Zq).1
def mt.al(g:mt K Fr b m c d h Er f e a):a.cell? (Zd b 0)=some (.iface K.T (Zp K.D))/\a.cell? (Zd b 1)=some (U m.ag)/\a.cell? (Zd b 2)=some f/\a.cell? (Zd b 3)=some e/\a.cell? (Zd b 4)=some (.bool c)/\(∀i,a.frozen? ⟨b,i,none⟩=false)/\b<a.heap.size:=mG g.ap
def mt.ah(g:mt K Fr b m c d h Er f e a)(i:Below a.heap.size a u'):mt K Fr b m c d h Er f e u':=⟨g.rc,g.rr,K.ah g.j i⟩
def vK{A A' c:Zo}{b:Nat}{i e:Obj}(f:K.J (A++(A'++(b,i)::c)) d a)(g:an [b] a u')(h:u'.heap[b]? = some e):K.J (A++(A'++(b,e)::c)) d u':=by
 have:=K.iU (A:=A++A') (by simpa using f) g h;simpa using this
def mt.e3(g:mt K Fr b m c d h Er f e a)(p:Nat):mt K Fr b { m with ag:=p } c d h Er f e (a.setCell ⟨b,1,none⟩ (U p)):=
 ⟨g.rc,g.rr,vK g.j ((ao [b] a).aH (p:=⟨b,1,none⟩) Zq _) (bv (i:=1) g.ap _)⟩
def mt.i3(g:mt K Fr b m c d h Er f e a)(k:Bool):mt K Fr b m k d h Er f e (a.setCell ⟨b,4,none⟩ (.bool k)):=
 ⟨g.rc,g.rr,vK g.j ((ao [b] a).aH (p:=⟨b,4,none⟩) Zq _) (bv (i:=4) g.ap _)⟩
end
def Of{g:Type}{w a:Zw}{k:Zo}{K:dZ g w k}{Fr:Zo}{b:Nat}{m:gC}{c:Bool}{d:g}(i:Mc K Fr b m c d a) :
  Calls prog 362 #[.pointer (some ⟨b,2,none⟩)] a λj u'=>j=.returned (U m.aL.length)/\u'=a:=by
 obtain⟨h,Er,f,e,i⟩:=i;obtain⟨ad,r,rfl⟩:=i.rc.cS;obtain⟨l,n,o,p,q,s,t⟩:=i.al;clear i;go_in;go_wp2;go_ret;exact⟨rfl,rfl⟩
def Op{g:Type}{w a:Zw}{k:Zo}{K:dZ g w k}{Fr:Zo}{b:Nat}{m:gC}{c:Bool}{d:g}(p:Nat)(R:m.aL.length<1000)(l:Mc K Fr b m c d a) :
  Calls prog 363 #[.pointer (some ⟨b,2,none⟩),U p] a λD u'=>D=.returned (.tuple #[])/\Mc K Fr b { m with aL:=p::m.aL } c d u':=by
 obtain⟨h,Er,f,e,l⟩:=l;obtain⟨ad,s,rfl⟩:=l.rc.cS;obtain⟨I,J,L,M,N,O,P⟩:=l.al;have v:=l.rc.j4 K Zq l.j;have x:∀r,(a.alloc r).ownsRow w.heap.size 3 1 (.slice ad m.aL.length s) m.aL.length (m.aL.reverse.map rT):=λr=>bw v ((ao [] a).H r) Zq;have a0:w.heap.size<=a.heap.size:=(K.kp l.j).aD;have F:(m.aL.length+1)*8<=140737488355328:=Zm;have n:=aa l;clear l v;go_in;go_wp2_with (first
  |(at_builtin;refine kl Dg underlying24 (x _) [.int .i64 p] (heap_alloc_new a _) Zy F Zx (H:=a.heap.size+1) Zq ?_;intro E C H y u t S;obtain⟨A,z,q⟩:=n.w.rc.a9 K n.w.j ((Below.refl a.heap.size a).alloc (Y4 _) _) y u (by simpa using t);have o:=(K.at q (p:=(b,rV K m.ag (.slice ad m.aL.length s) e c)) Zq).1;obtain⟨a1,a2,a3,a4,a5,a6,a7⟩:=mG o;have G:=aa (vK q ((ao [b] H).aH (p:=⟨b,2,none⟩) Zq (.slice (some ⟨E,0,none⟩) (m.aL.length+1) C)) (bv (i:=2) o _));have B:=aa z;clear q z y u t x o))
 go_end0;refine⟨rfl,A,Er,_,e,?_,n.w.rr,G.w⟩;have:=B.w;simpa using this
def Oo{g:Type}{w a:Zw}{k:Zo}{K:dZ g w k}{Fr:Zo}{b:Nat}{m:gC}{c:Bool}{d:g}{p:Nat}{n:List Nat}(s:m.aL=p::n)(r:m.aL.length<=1000)(l:Mc K Fr b m c d a) :
  Calls prog 358 #[.pointer (some ⟨b,2,none⟩)] a λB u'=>B=.returned (U p)/\Mc K Fr b { m with aL:=n } c d u':=by
 obtain⟨h,Er,f,e,l⟩:=l;have q:=l.rc;rw[s]at q;simp only[YC,List.reverse_cons,List.map_append,List.map_cons,List.map_nil]at q;obtain⟨o,t,u,rfl,L,rfl,y,x⟩:=q.j5 Zq;obtain⟨D,E,F,G,H,I,J⟩:=l.al;have v:=(K.at l.j (p:=(o,.cells u 3)) Zq).1;have N:a.cell? (Zd o n.length)=some (U p):=dt (xs:=n.reverse.map rT++[rT p]) v (by simpa using y) (by rw[Yw Zq];simp);have M:n.length<1000:=by rw[s]at r;simp at r;omega
 have C:=aa (vK l.j ((ao [b] a).aH (p:=⟨b,2,none⟩) Zq (.slice (some ⟨o,0,none⟩) n.length t)) (bv (i:=2) l.ap _));have z:=aa x;have A:=aa l.rr;clear l q x v y s r;go_in;go_wp2;go_ret;exact⟨rfl,[(o,.cells u 3)],Er,.slice (some ⟨o,0,none⟩) n.length t,e,z.w,A.w,C.w⟩
end
section
variable {b:Nat}{f:Zo}{d:Bool}{c:gC}{a w:Zw}{e:Type}
def TO:(prog.info? 515).map (λa=>(a.zero,a.size,a.bytes))=some (some (.agg #[U 0,U 0]),2,16):=Zk
def Xn(c:Nat×Nat):∀a∈oG c,a.oneCell'=true:=by
 intro a b;simp at b;rcases b with rfl|rfl<;>rfl
def El(a:List (Nat×Nat)):(a.flatMap oG).length=a.length*2:=by
 induction a<;>grind
def FQ{g:dZ e w f}{Fr:Zo}{q:e}(p:Nat×Nat)(a9:c.cc.length<1000)(h:Mc g Fr b c d q a) :
  Calls prog 389 #[.pointer (some ⟨b,3,none⟩),.agg #[U p.1,U p.2]] a λr S=>r=.returned (.tuple #[])/\Mc g Fr b { c with cc:=p::c.cc } d q S:=by
 obtain⟨v,Er,o,b2,h⟩:=h;obtain⟨ad,n,rfl⟩:=h.rr.cS;obtain⟨a1,a2,a3,a4,a5,a6,a7⟩:=h.al;have s:g.J (Er++(v++(b,rV g c.ag o (.slice ad c.cc.length n) d)::Fr)) q a:=g.g2 h.j (List.perm_append_comm_assoc ..);have D:=h.rr.j4 g (by rw[El];simp) s;have b1:w.heap.size<=a.heap.size:=(g.kp h.j).aD;have N:(c.cc.length+1)*16<=140737488355328:=Zm;have m:=aa h;have I:=aa s;have x:=aa D;clear h D s;go_in;go_wp21;refine cy (λu=>u.cell? (Zd b 3)=some (.slice ad c.cc.length n)/\u.cell? (Zd a.heap.size 0)=some (U p.1)/\u.cell? (Zd a.heap.size 1)=some (U p.2)) ?_ λA=>?_
 .go_keep
 refine bI [0,1,2,3,4,5] ?_;iterate 6 (refine bK ?_)
 refine bJ ?_;refine cx 6 λl k=>?_;go_simp;refine k.out _ _ ?_ (λA=>?_)
 .go_keep
 clear k l;refine nz ?_;refine cx 7 λl k=>?_;(refine mC (B:=a.heap.size+1) TO underlying325 (bw x.w ((((ao [] a).H _).H _).aU) Zq) (oG p) (aQ (w:=a.alloc _) Zq) (Xn p) N Zx (H:=a.heap.size+2) Zq ?_;intro z K G O C a8 b0;have M:Below a.heap.size a ((a.alloc (.cells (oG p).toArray 515)).alloc (.cells (oG p).toArray 515)).drew:=(((Below.refl ..).alloc (Y4 _) _).alloc Zq _).drew;obtain⟨H,F,t⟩:=m.w.rr.a9 g I.w M O C Zu;have y:=(g.at t (p:=(b,rV g c.ag o (.slice ad c.cc.length n) d)) Zq).1;obtain⟨b7,b8,b9,c0,c1,c2,c3⟩:=mG y;have P:G.heap[a.heap.size]? = some (.cells (oG p).toArray 515):=(C.block _ Zx (λr=>by have L:=x.w;have:=hR L (g:=a.heap.size) r.symm;omega)).trans ((Below.heap_alloc _ _ _ Zq).trans (aQ rfl));obtain⟨b3,b4,b5,b6⟩:=iy P);refine k.out _ _ ?_ (λA=>?_)
 .go_keep
 clear k l;refine nz ?_;refine bI [8,9] ?_;iterate 2 (refine bK ?_)
 refine bJ ?_;refine cw λl k=>?_;go_simp;refine k.out _ _ ?_;clear k l;refine nz ?_;have E:=vK t ((ao [b] G).aH (p:=⟨b,3,none⟩) Zq (.slice (some ⟨z,0,none⟩) (c.cc.length+1) K)) (bv (i:=3) y _);have R:=aa (g.g2 E (List.perm_append_comm_assoc ..));have a0:=aa F;clear E t F;go_wp2;go_end0;refine⟨rfl,v,H,o,_,m.w.rc,?_,R.w⟩;grind [af.w]
def FP{l:dZ e w f}{Fr:Zo}{t:e}{p:Nat×Nat}{g:List (Nat×Nat)}(u:c.cc=p::g)(D:c.cc.length<=1000)(k:Mc l Fr b c d t a) :
  Calls prog 391 #[.pointer (some ⟨b,3,none⟩)] a λC I=>C=.returned (.agg #[U p.1,U p.2])/\Mc l Fr b { c with cc:=g } d t I:=by
 obtain⟨q,Er,B,a9,k⟩:=k;have n:=k.rr;rw[u]at n;simp only[YC,List.reverse_cons,YK,YD,List.flatMap_nil,YH]at n;obtain⟨h,s,o,rfl,S,rfl,E,x⟩:=n.j5 (by rw[El];simp);obtain⟨J,L,M,N,O,P,R⟩:=k.al;have m:=(l.at k.j (p:=(h,.cells o 515)) Zq).1;have a6:(g.reverse.flatMap oG).length=g.length*2:=by rw[El];simp
 have a4:a.cell? ⟨h,g.length*2,none⟩=some (U p.1):=dt (xs:=g.reverse.flatMap oG++oG p) m Zg Zu;have a5:a.cell? ⟨h,g.length*2+1,none⟩=some (U p.2):=dt (xs:=g.reverse.flatMap oG++oG p) m Zg Zu;have a3:g.length<1000:=Zg;have r:=vK (K:=l) (A:=q) (A':=[(h,.cells o 515)]) k.j ((ao [b] a).aH (p:=⟨b,3,none⟩) Zq (.slice (some ⟨h,0,none⟩) g.length s)) (bv (i:=3) k.ap _);have F:=aa (λG H=>l.ah (l.ah r ((Below.refl ..).alloc (Y4 _) G)) ((Below.refl ..).alloc (Y4 _) H));have y:=aa x;have z:=aa k.rc;have a7:b≠a.heap.size:=Zm;have a0:=au m;have a1:h≠a.heap.size:=Zm;have a2:h≠a.heap.size+1:=Zm;have a8:b≠a.heap.size+1:=Zm;clear k n x m E u D r;go_in;go_wp2;refine bodyPost_ret (v:=.agg #[U p.1,U p.2]) (by simp[results,results391,go_sem]) rfl ⟨rfl,?_⟩;exact⟨q,[(h,.cells o 515)],B,.slice (some ⟨h,0,none⟩) g.length s,z.w,y.w,F.w ..⟩
end
section
variable {a:Nat}{e:Zo}{f:Bool}{m:gC}{b w:Zw}{c:Type}
def nW(j:dZ c w e)(Fr:Zo)(a:Nat)(i:Except Mar.ay (gC×c))(g:Ending)(d:Zw):Prop:=
 (∃h f,i=.ok (h,f)/\g=.returned (.tuple #[])/\Mc j Fr a h false f d)\/(∃b,i=.error b/\an [] w d/\fm w b.no b.y g d)
def Mc.ah{u':Zw}{h:dZ c w e}{Fr:Zo}{d:c}(g:Mc h Fr a m f d b)(n:Below b.heap.size b u'):Mc h Fr a m f d u':=by
 obtain⟨i,j,k,l,g⟩:=g;exact⟨i,j,k,l,g.ah n⟩
def Mc.e3{h:dZ c w e}{Fr:Zo}{i:c}(d:Mc h Fr a m f i b)(g:Nat):Mc h Fr a { m with ag:=g } f i (b.setCell ⟨a,1,none⟩ (U g)):=by
 obtain⟨j,k,l,n,d⟩:=d;exact⟨j,k,l,n,d.e3 g⟩
def Mc.al{d:dZ c w e}{Fr:Zo}{i:c}(g:Mc d Fr a m f i b):∃h k,b.cell? (Zd a 0)=some (.iface d.T (Zp d.D))/\b.cell? (Zd a 1)=some (U m.ag)/\b.cell? (Zd a 2)=some h/\b.cell? (Zd a 3)=some k/\b.cell? (Zd a 4)=some (.bool f)/\(∀j,b.frozen? ⟨a,j,none⟩=false)/\a<b.heap.size:=by
 obtain⟨l,n,o,p,g⟩:=g;exact⟨_,_,g.al⟩
def BA{a:Except Mar.ay c}{e:Unit}{b:c}(d:wK a=.ok (e,b)):a=.ok b:=by
 cases a with
 |error g=>cases d
 |ok f=>cases d;rfl
def Bz{b:Except Mar.ay c}{a}(d:wK b=.error a):b=.error a:=by
 cases b with
 |error a=>cases d;rfl
 |ok e=>cases d
def Mc.i1{t:Type}{h:dZ c w e}{Fr:Zo}{r:c}{d:Nat}{args:Array Zv}{o:Except Mar.ay (t×c)}{q:t->Zv}(g:Mc h Fr a m f r b)
  (z:∀p,h.J p r b->Calls prog d args b (sv w h.J p o q)):Calls prog d args b λn l=>(∃i k,o=.ok (i,k)/\n=.returned (q i)/\Mc h Fr a m f k l)\/(∃d,o=.error d/\an [] w l/\fm w d.no d.y n l):=by
 obtain⟨u,Er,v,A,g⟩:=g;refine(z _ g.j).mono ?_;rintro n l (⟨i,k,s,x,y⟩|s)
 .exact Y8 ⟨i,k,s,x,u,Er,v,A,g.rc,g.rr,y⟩
 simp_all
def Oe{h:dZ c w e}{Fr:Zo}{d:c}(g:Nat)(f:Mc h Fr a m false d b) :
  Calls prog 375 #[.agg #[U g],Zp a] b (nW h Fr a (.ok ({ m with ag:=g },d))):=by
 obtain⟨s,u,k,l,n,o,p,q,r⟩:=f.al;have t:a≠b.heap.size:=Zm;have i:=aa (λj=>(f.e3 g).ah ((Below.refl ..).alloc (Y4 _) j));clear f;go_in;go_wp2;go_end0;exact Y8 ⟨_,d,rfl,rfl,i.w _⟩
def Ow{h:dZ c w e}{Fr:Zo}{f:c}{g:Nat}{j:List Nat}(o:m.aL=g::j)(n:m.aL.length<=1000)(i:Mc h Fr a m false f b) :
  Calls prog 357 #[.agg #[],Zp a] b (nW h Fr a (.ok ({ m with ag:=g,aL:=j },f))):=by
 have l:=aa (λp=>Oo o n (i.ah ((Below.refl ..).alloc (Y4 _) p)));clear i;go_in;go_wp21;refine(l.w _).mono ?_;rintro z B ⟨rfl,d⟩;obtain⟨y,A,q,r,s,t,u,v,x⟩:=d.al;have k:=aa (d.e3 g);clear d;go_wp2;go_end0;exact Y8 ⟨_,f,rfl,rfl,k.w⟩
def Ok{d:dZ c w e}{Fr:Zo}{l:c}{k:Zl}{f:dD}(p:hJ e k f)(n:Mc d Fr a m false l b) :
  Calls prog 356 #[.agg k.toArray,Zp a] b (nW d Fr a (bg (d.W.num f l) λv=>.ok (m,v))):=by
 obtain⟨a0,rfl,-,q,r,s,rfl⟩:=id p;have S:=d.mN;have R:=d.eN;have i:=n.ah ((Below.refl ..).alloc (Y4 _) (.cells #[U f.e6,U f.e4,.slice q r s,.bool f.b8] 247));obtain⟨N,a1,G,H,I,J,K,L,M⟩:=i.al;have u:=aa ((i.ah (Below.refl ..).drew).i1 λF C=>d.cN p C);clear n i;go_in;go_wp21;refine cy (λg=>g.cell? (Zd a 0)=some (.iface d.T (Zp d.D))/\g.cell? (Zd b.heap.size 0)=some (U f.e6)/\g.cell? (Zd b.heap.size 1)=some (U f.e4)/\g.cell? (Zd b.heap.size 2)=some (.slice q r s)/\g.cell? (Zd b.heap.size 3)=some (.bool f.b8)) ?_ λP=>?_
 .go_keep
 refine bI [0,1,2,3,4] ?_;iterate 5 (refine bK ?_)
 refine bJ ?_;refine cw λt o=>?_;(go_simp;refine u.w.mono ?_;rintro O a2 (⟨_,x,j,rfl,h⟩|⟨y,j,E,z,B,rfl,A⟩);rotate_left;exact aE (Ya ⟨y,by rw[Bz j];rfl,E,z,B,rfl,A⟩));refine o.out _ _ ?_;clear o t;refine nz ?_;have h:=aa h;go_wp2;go_end0;exact Y8 ⟨m,x,by rw[BA j];rfl,rfl,h.w⟩
def OH{d:dZ c w e}{Fr:Zo}{l:c}(f:Int)(g:Bool)(A:0<=f)(B:f<=4294967295)(n:Mc d Fr a m false l b) :
  Calls prog 368 #[.agg #[U f,.bool g],Zp a] b (nW d Fr a (bg (d.W.text f g l) λr=>.ok (m,r))):=by
 have P:=d.mT;have O:=d.eT;have i:=n.ah ((Below.refl ..).alloc (Y4 _) (.cells #[U f,.bool g] 379));obtain⟨L,R,E,F,G,H,I,J,K⟩:=i.al;have q:=aa ((i.ah (Below.refl ..).drew).i1 λC y=>d.cT f g A B y);clear n i;go_in;go_wp21;refine cy (λk=>k.cell? (Zd a 0)=some (.iface d.T (Zp d.D))/\k.cell? (Zd b.heap.size 0)=some (U f)/\k.cell? (Zd b.heap.size 1)=some (.bool g)) ?_ λN=>?_
 .go_keep
 refine bI [0,1,2,3,4,5] ?_;iterate 6 (refine bK ?_)
 refine bJ ?_;refine cw λp o=>?_;(go_simp;refine q.w.mono ?_;rintro M a0 (⟨S,s,j,rfl,h⟩|⟨t,j,z,u,x,rfl,v⟩);rotate_left;exact aE (Ya ⟨t,by rw[Bz j];rfl,z,u,x,rfl,v⟩));refine o.out _ _ ?_;clear o p;refine nz ?_;have h:=aa h;go_wp2;go_end0;exact Y8 ⟨m,s,by rw[BA j];rfl,rfl,h.w⟩
def OE{d:dZ c w e}{Fr:Zo}{l:c}(f:Int)(g:Bool)(z:0<=f)(A:f<=4294967295)(n:Mc d Fr a m false l b) :
  Calls prog 373 #[.agg #[U f,.bool g],Zp a] b (nW d Fr a (bg (d.W.a6 f g l) λB=>.ok (m,B.2))):=by
 have P:=d.mL;have O:=d.eL;have i:=n.ah ((Below.refl ..).alloc (Y4 _) (.cells #[U f,.bool g] 387));obtain⟨L,R,E,F,G,H,I,J,K⟩:=i.al;have q:=aa ((i.ah (Below.refl ..).drew).i1 λC x=>d.cL f g z A x);clear n i;go_in;go_wp21;refine cy (λk=>k.cell? (Zd a 0)=some (.iface d.T (Zp d.D))/\k.cell? (Zd b.heap.size 0)=some (U f)/\k.cell? (Zd b.heap.size 1)=some (.bool g)) ?_ λN=>?_
 .go_keep
 refine bI [0,1,2,3,4,5] ?_;iterate 6 (refine bK ?_)
 refine bJ ?_;refine cw λp o=>?_;(go_simp;refine q.w.mono ?_;rintro M a0 (⟨S,r,j,rfl,h⟩|⟨s,j,y,t,v,rfl,u⟩);rotate_left;exact aE (Ya ⟨s,by rw[j];rfl,y,t,v,rfl,u⟩));refine o.out _ _ ?_;clear o p;refine nz ?_;have h:=aa h;go_wp2;go_end0;exact Y8 ⟨m,r,by rw[j];rfl,rfl,h.w⟩
end
section
variable {a g c:Nat}{h:Zo}{f:List (Nat×Nat)}{b:gC}{d i:Zw}{e:Type}
def Mc.i3{g:dZ e i h}{Fr:Zo}{n:Bool}{j:e}(f:Mc g Fr a b n j d)(c:Bool):Mc g Fr a b c j (d.setCell ⟨a,4,none⟩ (.bool c)):=by
 obtain⟨k,c,l,m,f⟩:=f;exact⟨k,c,l,m,f.i3 _⟩
def NF{g:dZ e i h}{Fr:Zo}{j:e}(c:Mc g Fr a b false j d) :
  Calls prog 376 #[.agg #[],Zp a] d λl u'=>l=.returned (.tuple #[])/\Mc g Fr a b true j u':=by
 have m:=λf=>c.ah (u':=d.alloc f) ((Below.refl ..).alloc (Y4 _) f);obtain⟨u,w,n,o,p,q,r,s,t⟩:=c.al;have v:a≠d.heap.size:=Zm;have k:=aa (λf=>(c.i3 true).ah ((Below.refl ..).alloc (Y4 _) f));clear c m;go_in;go_wp2;go_end0;exact⟨rfl,k.w _⟩
def MZ{o:dZ e i h}{Fr:Zo}{l:e}(s:b.cc=(g,c+2)::f)(r:b.cc.length<=1000)(J:c+2<=4294967295)(p:Mc o Fr a b false l d) :
  Calls prog 390 #[.agg #[],Zp a] d (nW o Fr a (.ok ({ b with ag:=g,cc:=(g,c+1)::f },l))):=by
 have w:=aa (λm=>FP s r (p.ah ((Below.refl ..).alloc (Y4 _) m)));have y:f.length<1000:=Zg;clear p s r;go_in;go_wp21;refine(w.w _).mono ?_;rintro x n ⟨rfl,j⟩;obtain⟨G,L,z,A,B,C,D,E,F⟩:=j.al;have I:a≠n.heap.size:=Zm;have K:((c:Int)+2-1)=(c:Int)+1:=Zm;have u:=aa (λm=>FQ (g,c+1) y ((j.e3 g).ah (((Below.refl ..).alloc (Y4 _) m).drew)));clear j;go_wp21;refine cy (λt=>t.cell? (Zd n.heap.size 0)=some (U g)/\t.cell? (Zd n.heap.size 1)=some (U ((c:Int)+1))) ?_ λH=>?_
 .exact⟨(iy (aQ Zq)).1,(iy (aQ Zq)).2.1⟩
 refine bI [0,1,2,3] ?_;iterate 4 (refine bK ?_)
 refine bJ ?_;refine cw λv q=>?_;(go_simp;refine(u.w _).mono ?_;rintro x M ⟨rfl,k⟩);refine q.out _ _ ?_;clear q v;refine nz ?_;have k:=aa k;go_wp2;go_end0;exact Y8 ⟨_,l,rfl,rfl,k.w⟩
def MY{m:dZ e i h}{Fr:Zo}{l:e}(p:b.cc=(g,c)::f)(o:b.cc.length<=1000)(D:c<=1)(n:Mc m Fr a b false l d) :
  Calls prog 390 #[.agg #[],Zp a] d (nW m Fr a (.ok ({ b with cc:=f },l))):=by
 have s:=aa (λj=>FP p o (n.ah ((Below.refl ..).alloc (Y4 _) j)));clear n p o;go_in;go_wp21;refine(s.w _).mono ?_;rintro B q ⟨rfl,k⟩;obtain⟨A,E,t,u,v,w,x,y,z⟩:=k.al;have C:a≠q.heap.size:=Zm;have r:=aa (λj=>k.ah (u':=q.alloc j) ((Below.refl ..).alloc (Y4 _) j));clear k;go_wp2;go_end0;exact Y8 ⟨_,l,rfl,rfl,r.w _⟩
def Na{k:dZ e i h}{Fr:Zo}{l:e}{j:Nat×Nat}(p:b.cc=j::f)(o:b.cc.length<=1000)(r:j.2<=4294967295)(m:Mc k Fr a b false l d) :
  Calls prog 390 #[.agg #[],Zp a] d (nW k Fr a (.ok (if 1<j.2 then { b with ag:=j.1,cc:=(j.1,j.2-1)::f }else { b with cc:=f },l))):=by
 obtain⟨g,c⟩:=j;by_cases n:1<c
 .obtain⟨q,rfl⟩:∃q,c=q+2:=⟨c-2,Zm⟩;rw[Y9 n];exact MZ p o r m
 .rw[Y2 n];exact MY p o Zm m
end
end Go.Proofs.YtjdhaegijjednaaGreatDoor
