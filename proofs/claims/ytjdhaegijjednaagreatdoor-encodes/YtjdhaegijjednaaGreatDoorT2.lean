import Derived.Test.YtjdhaegijjednaaGreatDoorT1
import Derived.ChangeKeysEq
import Derived.Deep.AppendLies
import Derived.Deep.CutBlock
import Derived.Deep.DeepCutAuto
set_option linter.all false
set_option maxRecDepth 100000
set_option maxHeartbeats 4000000
namespace Go.Proofs.YtjdhaegijjednaaGreatDoor
open Go.RowKit Go.MapKept Go.Proofs.Tryz
section
variable {B:Mar.ay}{C ρ τ:Type}
def HU:(prog.info? 363).map (λa=>(a.zero,a.size,a.bytes))=some (some (.agg #[.slice none 0 0,.string ⟨#[]⟩,U 0,.nilIface]),4,64):=Zk
def jA(d:PX τ C):PX (τ×ρ) C:=λa c=>match d a.1 c with
 |.ok (b,D,t)=>.ok (b,(D,a.2),t)
 |.error B=>.error B
def nI(d:PX ρ C):PX (τ×ρ) C:=λa c=>match d a.2 c with
 |.ok (b,D,t)=>.ok (b,(a.1,D),t)
 |.error B=>.error B
def uQ{b:PX τ C}{o D:τ}{l:ρ}{c t:St}{a:C}(d:b o c=.ok (a,D,t)):jA b (o,l) c=.ok (a,(D,l),t):=by simp only[jA,d]
theorem uP{a:PX τ C}{o}{l:ρ}{c:St}(b:a o c=.error B):jA a (o,l) c=.error B:=by simp only[jA,b]
def yo{b:PX ρ C}{o:τ}{l F:ρ}{c t:St}{a:C}(d:b l c=.ok (a,F,t)):nI b (o,l) c=.ok (a,(o,F),t):=by simp only[nI,d]
theorem yn{a:PX ρ C}{o:τ}{l}{c:St}(b:a l c=.error B):nI a (o,l) c=.error B:=by simp only[nI,b]
abbrev gi:=Zc×List (Int×Int)
abbrev hG:=List (List Int×aW)
def mF(a:Za)(b:hG):PX gi hG:=aP (lift (eu a JL)) λd=>if d then
  aP (lift (cI a [58])) λ_=>aP (jA (km a (bA 0 0))) λc=>dA (b++[([],c)])else dA b
def ig(a:Za)(p:Int->Bool):Nat->hG->PX gi hG
 |0,_=>lift (gU 0 0)
 |k+1,d=>aP (nI (cases a p)) λb=>aP (jA (km a (bA 0 0))) λc=>aP (lift (iE a [99,97,115,101])) λe=>if e then ig a p k (d++[(b,c)])else mF a (d++[(b,c)])
def hD(b:PX τ C)(o:τ):PM (C×τ):=λc=>match b o c with
 |.ok (a,D,t)=>.ok ((a,D),t)
 |.error B=>.error B
def tB{b:PX τ C}{o D:τ}{c t:St}{a:C}(d:b o c=.ok (a,D,t)):hD b o c=.ok ((a,D),t):=by simp only[hD,d]
theorem qN{a:PX τ C}{o}{c:St}(b:a o c=.error B):hD a o c=.error B:=by simp only[hD,b]
def oL(a:Za)(n:Zb×Nat)(x:aW)(b:hG):PM aC:=aM (cI a Jl) λ_=>aM (cI a [59]) λ_=>ret (.union n.1 n.2 x b)
def lE(a:Za)(n:Zb×Nat)(x:aW)(b:hG×gi):PM aC:=oL a n x b.1
def qV(a:Za)(n:Zb×Nat)(f:Ty×(Int->Bool))(b:(Zb×Nat)×Zc):PM aC:=
 aM (cI a [41]) λ_=>aM (cI a Jv) λ_=>aM (hD (ig a f.2 13 []) (b.2,[])) (lE a n ⟨b.1.1,b.1.2,f.1⟩)
def oN(a:Za)(n:Zb×Nat)(f:Ty×(Int->Bool)):PM aC:=aM (hD (name a (bA 0 0)) []) (qV a n f)
def oM(a:Za)(n:Zb×Nat):PM aC:=aM (cI a Jn) λ_=>aM (cI a [40]) λ_=>aM (oH a) (oN a n)
def ez(a:Za)(b:Nat):PM aC:=aM (lB b) λ_=>aM (iK a) (oM a)
def PE{a p}:∀(e:Nat) (g:List Int) (l:List (Int×Int)) (c:St) (f:List Int) (F:List (Int×Int)) (t:St),ja a p e g l c=.ok (f,F,t)->l.length<F.length/\F.length<=12:=by
 intro e;induction e with
 |zero=>intro g l c f F t b;simp only[ja]at b;cases b
 |succ e w=>
  intro g l c f F t b;cases i:cI a Jg c with
  |error B=>simp_all[zC]
  |ok k=>
   obtain⟨k,r⟩:=k;by_cases j:12<=l.length
   .rw[zD i j]at b;cases b
   .rw[zE i j]at b;unfold zF at b;cases h:hx a p l r with
    |error B=>rw[bR h]at b;cases b
    |ok d=>
     obtain⟨n,x,s⟩:=d;rw[bf h]at b;have v:=DO h;cases o:cI a [58] s with
     |error B=>simp_all[bR,cZ]
     |ok m=>
      obtain⟨m,u⟩:=m;rw[bf (bF o)]at b;cases q:iE a Jg u with
      |error B=>simp_all[bR,cZ]
      |ok d=>
       obtain⟨d,y⟩:=d;rw[bf (bF q)]at b;cases d with
       |true=>
        grind
       |false=>
        simp only[Ye,if_false,dA]at b
        grind
theorem hn.ak{s b:Zo}{c v n d}(l:∀p∈s,p∈b)(a:hn s c v n d):hn b c v n d:=by
 rcases a with a|⟨g,e,f,h,i,j,k⟩
 .exact Y8 a
 .exact Ya ⟨g,e,f,h,i,l _ j,k⟩
theorem bW.b7{b s c q}(d:bW b s q)(e:bW b c q):bW b (s++c) q:=by
 intro p a;rcases Yn.1 a with a|a
 .exact d p a
 .exact e p a
abbrev rB(p:(List Int×aW)×Zv):Zl:=p.2::mJ p.1.2
structure iw(A:Ad)(a:Za)(q:Zw)(e f E nq:Nat)(v:Zv)(p:Int->Bool)(n:Zb×Nat)(x:aW)(j:hG)(w:Zl)(s:Zo)(r:List Nat)(o:Zc)(l:List (Int×Int))(z:Zv)(c:St)(u:Zw):Prop where
 kp:an [A.R,A.S,A.N] q u
 rd:Rd (A.aw r) a c u
 az:∀b∈[e,f,nq],b∈r
 nd:e≠f/\e≠nq/\f≠nq
 aB:∀y∈r,q.heap.size<=y
 ae:∀g,z.ownBlock=some g->g∈r/\g ∉ [e,f,nq]
 a5:eC f o u
 cl:bW (A.aw r).X (bA f E).bs u
 aR:dH nq l u
 gD:iS (A.aw r).X v p u
 ap:u.heap[e]? = some (.cells #[.string ⟨n.1.toArray⟩,U n.2,Zs x.t,U x.y,cW x.O,z] 358)
 row:u.ownsRow q.heap.size 363 4 z j.length ((j.zip w).flatMap rB)
 av:w.length=j.length
 d7:bW (A.aw r).X s u
 da:∀i (h:i<j.length) (h':i<w.length),hn s 2 w[i] j[i].1.length (j[i].1.map λn=>U n)
section
variable {A : Ad} {a : Za} {q u u' : Zw} {e f E nq : Nat} {v : Zv} {p : Int -> Bool} {n : Zb × Nat} {x : aW} {j : hG} {w : Zl} {s : List (Nat × Obj)} {r : List Nat} {o D : Zc} {l F : List (Int × Int)} {z : Zv} {c t G : St}
def iw.cS(d:iw A a q e f E nq v p n x j w s r o l z c u):∃ad b,z=.slice ad j.length b:=by
 rcases d.row.2 with⟨rfl,i⟩|⟨h,b,g,rfl,_⟩;all_goals simp_all
def iw.bk(h:Rd A a G q)(d:iw A a q e f E nq v p n x j w s r o l z c u){b:Nat}(g:b∈[e,f,nq]):dK (A.aw r) b:=by
 obtain⟨k,m,t,y⟩:=h.lt;have i:=d.aB _ (d.az b g);refine⟨Yf _ (d.az b g),?_,?_,?_,?_⟩<;>simp only[Ad.aw]<;>omega
def iw.bm{i}(C:Rd A a G q)(b:iw A a q e f E nq v p n x j w s r o l z c u)(g:an i u u')(m:∀d∈i,d=A.S\/d=f\/d=nq)(y:Rd (A.aw r) a t u')(K:eC f D u')(J:dH nq F u') :
  iw A a q e f E nq v p n x j w s r D F z t u':=by
 obtain⟨P,R,a0,a1⟩:=C.lt;obtain⟨L,M,N⟩:=b.nd;have a2:=b.aB _ (b.az e Zq);have k:∀d∈i,d∈(A.aw r).X:=by
  intro d h;rcases m d h with rfl|rfl|rfl
  .exact y.az.2.1
  .exact Yf _ (b.az _ Zq)
  .exact Yf _ (b.az _ Zq)
 refine⟨b.kp.b1 g ?_,y,b.az,b.nd,b.aB,b.ae,K,b.cl.ac g k,J,b.gD.ac g k,(g.L _ (au b.ap) ?_).trans b.ap,bw b.row g ?_,b.av,b.d7.ac g k,b.da⟩
 .intro d h;rcases m d h with rfl|rfl|rfl
  .simp
  .exact Ya (b.aB _ (b.az _ Zq))
  .exact Ya (b.aB _ (b.az _ Zq))
 .grind
 .intro B I h;have H:=b.ae B I;have O:=b.aB _ H.1;grind
def iw.b3(g:Rd A a G q)(b:iw A a q e f E nq v p n x j w s r o l z c u)(d:an [A.S] u u')(h:Rd (A.aw r) a t u'):iw A a q e f E nq v p n x j w s r o l z t u':=by
 have i:=g.lt.2.1;have m:=b.aB _ (b.az f Zq);have k:=b.aB _ (b.az nq Zq);exact b.bm g d Zq h (b.a5.ac d Zg) (b.aR.ac d Zg)
def iw.ah(d:Rd A a G q)(m:iw A a q e f E nq v p n x j w s r o l z c u)(b:Below u.heap.size u u'):iw A a q e f E nq v p n x j w s r o l z c u':=
 m.bm d (bT [] b) Zq (m.rd.ah b) (m.a5.ac (bT [] b) Zq) (m.aR.ac (bT [] b) Zq)
theorem Ge{H y:Zw}{g D:Nat}{cv}{cs:List Int}{d:aW}{bs'}(I:Rd A a G q)(h:iw A a q e f E nq v p n x j w s r o l z c u)(a7:bW (A.aw r).X bs' u)(a6:hn bs' 2 cv cs.length (cs.map λn=>U n))(i:Below u.heap.size u H)
  (a0:y.ownsRow q.heap.size 363 4 (.slice (some ⟨g,0,none⟩) (j.length+1) D) (j.length+1) ((j.zip w).flatMap rB++rB ((cs,d),cv)))
  (B:H.grownBy y z.ownBlock) (C:z.ownBlock=some g\/g=H.heap.size) (b0:g<y.heap.size) :
  iw A a q e f E nq v p n x (j++[(cs,d)]) (w++[cv]) (s++bs') (g::r) o l (.slice (some ⟨g,0,none⟩) (j.length+1) D) c (y.setCell ⟨e,5,none⟩ (.slice (some ⟨g,0,none⟩) (j.length+1) D)):=by
 obtain⟨c2,_⟩:=hR a0 (g:=g) rfl;have k:=h.ah I i;have a8:=a7.ac (bT [] i) Zq;have O:e∈[e,f,nq]:=Zq;have b2:f∈[e,f,nq]:=Zq;have b1:nq∈[e,f,nq]:=Zq;obtain⟨b4,b5,b6⟩:=h.nd;have c4:∀b∈[e,f,nq],q.heap.size<=b:=λb i=>h.aB _ (h.az b i);have a9:∀b∈[e,f,nq],b<H.heap.size:=λb i=>k.rd.a3 b (Yf _ (h.az b i));have c3:=B.size;have b7:g ∉ [e,f,nq]:=by
  rcases C with R|R
  .exact(h.ae g R).2
  grind
 have a1:∀b,z.ownBlock=some b->q.heap.size<=b/\b∈(A.aw r).X:=λb i=>⟨h.aB _ (h.ae b i).1,Yf _ (h.ae b i).1⟩;have F:=gt B;have m:an [e] y (y.setCell ⟨e,5,none⟩ (.slice (some ⟨g,0,none⟩) (j.length+1) D)):=(ao [e] y).aH Zq _;have P:∀b∈[e,f,nq],b ∉ z.ownBlock.toList:=by
  intro b i c1;exact(h.ae b Zu).2 i
 have K:∀b,z.ownBlock=some b->b∈(A.aw r).X:=λb i=>(a1 b i).2;have J:∀a3∈[e],a3∈(A.aw (g::r)).X:=by
  intro a3 a2;simp only[Yc]at a2;subst a2;exact Yf _ (Y5 _ (h.az _ O))
 refine⟨?_,?_,λb i=>Y5 _ (h.az b i),h.nd,?_,?_,?_,?_,?_,?_,?_,?_,by simp[h.av],?_,?_⟩
 .refine(k.kp.b1 F ?_).b1 m ?_;all_goals grind
 .exact I.b1 (du A (g::r)) (vG I (du A r) k.rd B a1 C b0) m (by
   simp_all)
 .intro b3 N;rcases Yg.1 N with rfl|N
  .omega
  .exact h.aB b3 N
 .grind [Value.ownBlock]
 .exact(k.a5.ac F (P _ b2)).ac m Zg
 .exact(k.cl.a9 B K C).ac m J
 .exact(k.aR.ac F (P _ b1)).ac m Zg
 .exact(k.gD.a9 B K C).ac m J
 .exact bv (i:=5) ((F.L _ (a9 _ O) (P _ O)).trans k.ap) _
 .have:=bw a0 m (by
   grind [Value.ownBlock])
  rw[List.zip_append (by exact h.av.symm),YK];simp_all
 .exact((k.d7.b7 a8).a9 B K C).ac m J
 .intro t b8 b9;by_cases S:t<j.length
  .have L:t<w.length:=by rw[h.av];omega
   rw[List.getElem_append_left S,List.getElem_append_left L];exact(h.da t S L).ak (λp M=>Yf _ M)
  .have L:t=j.length:=Zg;have c0:¬t<w.length:=by rw[h.av];omega
   rw[List.getElem_append_right Zm,List.getElem_append_right Zm];have a4:t-j.length=0:=Zm;have a5:t-w.length=0:=Zg;simp only[a4,a5,List.getElem_cons_zero];exact a6.ak (λp M=>Ym _ M)
theorem iw.fin(k:Rd A a G q)(d:iw A a q e f E nq v p n x j w s r o l z c u)(J:j.length<=1000){D:Except Mar.ay (aC×St)}(B:D=.ok (.union n.1 n.2 x j,c)):it [A.R,A.S,A.N] A a q D (.returned (Zp e)) u:=by
 have H:∀h,q.heap.size<=h->h ∉ A.X:=λh O K=>by have:=k.a3 _ K;omega
 have C:bW A.X s u:=d.d7.bE (λa4 L=>Ym _ L);have M:=Yp d.ap (H _ (d.aB _ (d.az e Zq)));refine⟨d.kp,Y8 ⟨.union n.1 n.2 x j,c,e,?_⟩⟩;rcases d.row.2 with⟨rfl,g⟩|⟨y,F,t,rfl,P,a0,I,a1,a2,a3⟩
 .have:j=[]:=Yv.1 g;subst this;refine⟨_::s,B,rfl,mx k.az d.rd,⟨.slice none 0 0,w,Yb,d.av,Y8 ⟨rfl,rfl,rfl⟩,λm g i=>(d.da m g i).ak (λp b=>Y5 _ b)⟩,?_⟩;intro p b;rcases Yg.1 b with rfl|b
  .grind
  .exact C p b
 .refine⟨_::(y,.cells t 363)::s,B,rfl,mx k.az d.rd,⟨_,w,Yb,d.av,Ya ⟨y,F,t,rfl,⟨I,J⟩,Zq,?_⟩,λm g i=>(d.da m g i).ak (λp b=>Y5 _ (Y5 _ b))⟩,?_⟩
  .grind
  .intro p b;rcases Yg.1 b with rfl|b
   .grind
   .rcases Yg.1 b with rfl|b
    .simp_all
    .exact C p b
end
end
section
variable {b j:Ad}{e k bx nq d:Nat}{D:TypeId}{g:List Nat}{r t l w:Zv}{q:Zo}{A:Zl}{m:List (Int×Int)}{n:Zb×Nat}{p:Int->Bool}{u:hG}{h:Zc}{c s a:Zw}{B C:Type}{f o z:St}
def abp(e:fW j b){c}(d:Rd j c f a) :
  Calls prog 197 #[Zp b.R] a (za j c a (oH c f)):=by
 have:=abo d;rw[e.1]at this;exact this
def PI(h:fW j b){c v e}(g:Rd j c f a)(i:iS j.X v p a)(l:dK j d)(k:dH d e a) :
  Calls prog 199 #[Zp b.R,.map (some d),v] a (re j c a d (cases c p e f)):=by
 have:=PH g i l k;rw[h.1]at this;exact this
def Cy(e:fW j b){c}(l:dK j d)(g:Rd j c f a)(k:eC d h a)(i:bW j.X (bA d bx).bs a) :
  Calls prog 185 #[Zp b.R,(bA d bx).v] a (mp [b.S,d] j c a (name c (bA 0 0) h f) il (eC d)):=by
 have:=DG (Cz (bx:=bx) l) g k i;rw[e.1,e.2.1]at this;exact this
def Gq(e:fW j b){c}(l:dK j d)(g:Rd j c f a)(k:eC d h a)(i:bW j.X (bA d bx).bs a) :
  Calls prog 200 #[Zp b.R,(bA d bx).v] a (mp [b.S,d] j c a (km c (bA 0 0) h f) lX (eC d)):=by
 have:=Pe (Cz (bx:=bx) l) g k i;rw[e.1,e.2.1]at this;exact this
def DQ(c:Zw)(nq:Nat):Nat:=match c.heap[nq]? with
 |some (.map a _)=>a.size
 |_=>0
def Kd(a:dH nq m c):DQ c nq=m.length:=by
 have d:c.heap[nq]? = some (.map (m.mapIdx λb p=>(⟨U p.1,U p.2,b⟩:MapEntry)).toArray m.length):=a;grind [DQ]
structure nt(b:Ad)(text:Za)(a:Zw)(e d bx:Nat)(v:Zv)(p:Int->Bool)(cells:Array Zv)(g:List Nat)(h:Zc)(f:St)(c:Zw):Prop where
 kp:an [b.R,b.S,b.N] a c
 rd:Rd (b.aw g) text f c
 az:e∈g/\d∈g/\e≠d
 aB:∀y∈g,a.heap.size<=y
 a5:eC d h c
 cl:bW (b.aw g).X (bA d bx).bs c
 gD:iS (b.aw g).X v p c
 ap:c.heap[e]? = some (.cells cells 358)
def nt.bm{m v q w n}(x:Rd b m z a)(i:nt b m a e d bx v p q g h f c)(k:an n c s)(r:∀j∈n,j=b.S\/j=d)(u:Rd (b.aw g) m o s)(y:eC d w s) :
  nt b m a e d bx v p q g w o s:=by
 have A:=x.lt.2.1;have B:=i.aB _ i.az.1;have t:∀j∈n,j∈(b.aw g).X:=by
  intro j l;rcases r j l with rfl|rfl
  .exact u.az.2.1
  .exact Yf _ i.az.2.1
 refine⟨i.kp.b1 k ?_,u,i.az,i.aB,y,i.cl.ac k t,i.gD.ac k t,(k.L _ (au i.ap) ?_).trans i.ap⟩
 .intro j l;rcases r j l with rfl|rfl
  .simp
  .exact Ya (i.aB _ i.az.2.1)
 .intro l;have:=i.az.2.2;grind
def nt.b3{j v k}(l:Rd b j z a)(i:nt b j a e d bx v p k g h f c)(m:an [b.S] c s)(n:Rd (b.aw g) j o s) :
  nt b j a e d bx v p k g h o s:=by
 have q:=l.lt.2.1;have r:=i.aB _ i.az.2.1;exact i.bm l m Zq n (i.a5.ac m Zg)
def nt.bk{j v k}(l:Rd b j z a)(i:nt b j a e d bx v p k g h f c):dK (b.aw g) d:=by
 obtain⟨n,o,q,r⟩:=l.lt;have m:=i.aB _ i.az.2.1;refine⟨Yf _ i.az.2.1,?_,?_,?_,?_⟩<;>simp only[Ad.aw]<;>omega
def Pz{d h b:Zv}(e:a.heap[k]? = some (.cells #[d,h,r,t,l,b] D)) :
  a.cell? (Zd k 2)=some r/\a.cell? (Zd k 3)=some t/\a.cell? (Zd k 4)=some l/\∀c,a.frozen? ⟨k,c,none⟩=false:=by
 simp_all[World.cell?,World.frozen?]
theorem nt.a4{s}{v k w u:Zv}(A:Rd b s z a)(j:nt b s a e d bx v p #[r,k,t,l,w,u] g h f c)(x y o:Zv) :
  nt b s a e d bx v p #[r,k,x,y,o,u] g h f (((c.setCell ⟨e,2,none⟩ x).setCell ⟨e,3,none⟩ y).setCell ⟨e,4,none⟩ o):=by
 have m:an [e] c (((c.setCell ⟨e,2,none⟩ x).setCell ⟨e,3,none⟩ y).setCell ⟨e,4,none⟩ o):=(((ao [e] c).aH (p:=⟨e,2,none⟩) Zq _).aH (p:=⟨e,3,none⟩) Zq _).aH (p:=⟨e,4,none⟩) Zq _;have D:=j.aB _ j.az.1;have q:∀x∈[e],x∈(b.aw g).X:=by
  intro x n;simp only[Yc]at n;subst n;exact Yf _ j.az.1
 refine⟨j.kp.b1 m Zu,A.b1 (du b g) j.rd m (λx n=>⟨Zu,q x n⟩),j.az,j.aB,j.a5.ac m (by have:=j.az.2.2;grind),j.cl.ac m q,j.gD.ac m q,?_⟩;have B:=bv (i:=2) j.ap x;have C:=bv (i:=3) B y;exact bv (i:=4) C o
theorem iw.h7{o v l i}(k:iw b o a e d bx nq v p n l i A q g h m w f c)(j:Obj) :
  (c.alloc j).ownsRow a.heap.size 363 4 w i.length ((i.zip A).flatMap rB):=bw k.row ((ao [] c).H j) Zq
def iw.f1{u l v i o k}(j:iw b u a e d bx nq v p n i o A q g h m w f c)(s:(c.alloc k).grownBy l w.ownBlock) :
  l.heap[e]? = some (.cells #[.string ⟨n.1.toArray⟩,U n.2,Zs i.t,U i.y,cW i.O,w] 358):=by
 have t:=au j.ap;exact(s.block _ Zx (λr=>(j.ae _ r.symm).2 Zq)).trans ((((ao [] c).H k).L _ t Zq).trans j.ap)
theorem ON{o v}{sel:aW}(I:Rd b o z a)(i:nt b o a e d bx v p #[.string ⟨n.1.toArray⟩,U n.2,Zs sel.t,U sel.y,cW sel.O,.slice none 0 0] g h f c) :
  iw b o a e d bx c.heap.size v p n sel [] [] [] (c.heap.size::g) h [] (.slice none 0 0) f (c.alloc (.map #[] 0)):=by
 have l:an [] c (c.alloc (.map #[] 0)):=(ao [] c).H _;have D:=au i.ap;have K:d<c.heap.size:=i.rd.a3 _ (Yf _ i.az.2.1);have L:=i.kp.aD;have r:∀q,bW (b.aw g).X q c->bW (b.aw (c.heap.size::g)).X q (c.alloc (.map #[] 0)):=λq j=>(j.a1 (Y4 _)).ac l Zq;refine⟨i.kp.H _,i.rd.ae _,?_,⟨i.az.2.2,Zm,Zm⟩,?_,(by intro H B;cases B),i.a5.ac l Zq,r _ i.cl,aQ rfl,?_,(l.L _ D Zq).trans i.ap,⟨rfl,Y8 ⟨rfl,rfl⟩⟩,rfl,(by intro p J;grind),Zq⟩
 .intro k j;simp at j;rcases j with rfl|rfl|rfl
  .exact Y5 _ i.az.1
  .exact Y5 _ i.az.2.1
  simp
 .intro G m;rcases Yg.1 m with rfl|m
  .omega
  .exact i.aB G m
 .obtain⟨q,t,F,E,u,w,x,y⟩:=i.gD;exact⟨q,t,F,E,u,r q w,x,λs A=>y s (A.bE λ_ C=>Y5 _ C)⟩
def uk{d h b:Zv}(e:a.heap[k]? = some (.cells #[d,h,r,t,l,b] D)) :
  a.cell? (Zd k 2)=some r/\a.cell? (Zd k 5)=some b/\∀c,a.frozen? ⟨k,c,none⟩=false:=by
 simp_all[World.cell?,World.frozen?]
def Gs(a:Za)(p:Int->Bool)(c:Nat)(u:hG)(b:List Int):PX gi hG:=aP (jA (km a (bA 0 0))) λl=>aP (lift (iE a Jg)) λd=>if d then ig a p c (u++[(b,l)])else mF a (u++[(b,l)])
def yB{e:Type}{a b:PX e B}{c d}(g:a c f=b d o):hD a c f=hD b d o:=by simp only[hD,g]
def xx{b c:PM B}{a:B->PM C}(d:b f=c o):aM b a f=aM c a o:=by simp only[aM,d]
def Pj{a:Za}{d:Nat}{b:List Int}{e:List (Int×Int)}{c:hG×gi->PM C}(g:cases a p m f=.ok (b,e,o)) :
  aM (hD (ig a p (d+1) u) (h,m)) c f=aM (hD (Gs a p d u b) (h,e)) c o:=by
 refine xx (yB ?_);simp only[ig];exact bf (yo g)
def Pi{b:Za}{d:Nat}{a:Mar.ay}{c:hG×gi->PM C}(e:cases b p m f=.error a) :
  aM (hD (ig b p (d+1) u) (h,m)) c f=.error a:=by
 refine bO (qN ?_);simp_all[ig,bR,yn]
def Kj(b:List Int)(l:aW)(r:Option Addr)(k t:Nat):∀c∈rB ((b,l),.slice r k t),c.oneCell'=true:=by
 intro c a;rcases Yg.1 a with rfl|a
 .rfl
 .exact Kk l c a
end
def ad1{a b k}(i:Nat){w}(g:Rd a b k w) :
  Calls prog 123 #[Zp a.R,U i] w (it [a.R,a.S,a.N] a b w (ez b i k)):=by
 have p3:=je;have p4:=mS;obtain⟨p8,p9,q0,q1⟩:=g.lt;go_in;go_wp21;refine(AC i g).mono ?_;rintro s q3 ⟨i1,⟨q2,r1,d3,rfl,m2⟩|⟨q,d3,m,c,rfl,d⟩⟩;rotate_left
 .exact aE (eI (i1.ak Zq) (ao [] _) (bO d3) c d)
 have e8:=i1.ak (M':=[a.R,a.S,a.N]) Zq;go_wp21;refine(yg m2).mono ?_;rintro s a1 ⟨i3,⟨l,o0,g4,rfl,m4⟩|⟨q,g4,m,c,rfl,d⟩⟩;rotate_left
 .exact aE (eI (e8.u (i3.ak Zq)) e8 ((aK d3).trans (bO g4)) c d)
 have h6:=e8.u (i3.ak (M':=[a.R,a.S,a.N]) Zq);have c5:af (ez b i k=oM b l o0):=(aK d3).trans (aK g4);dsimp only[il];have p7:=h6.aD;have m5:=m4.ae (.cells #[.string ⟨l.1.toArray⟩,U l.2,.string ⟨#[]⟩,U 0,.nilIface,.slice none 0 0] 358);have i7:=aQ (w:=a1) (o:=.cells #[.string ⟨l.1.toArray⟩,U l.2,.string ⟨#[]⟩,U 0,.nilIface,.slice none 0 0] 358) rfl;have e9:=h6.H (.cells #[.string ⟨l.1.toArray⟩,U l.2,.string ⟨#[]⟩,U 0,.nilIface,.slice none 0 0] 358);have f9:a1.heap.size ∉ [a.S]:=Zx;go_wp21;refine(gS (fX a _) _ m5).mono ?_;rintro s q4 ⟨f3,⟨q7,r2,c0,rfl,m6⟩|⟨q,c0,m,c,rfl,d⟩⟩;rotate_left
 .exact aE (eI (e9.u (f3.ak Zq)) e9 (c5.w.trans (bO c0)) c d)
 have i8:=(f3.L _ (au i7) f9).trans i7;have f0:=e9.u (f3.ak (M':=[a.R,a.S,a.N]) Zq);go_wp21;refine(gS (fX a _) _ m6).mono ?_;rintro s a4 ⟨G,⟨q8,c3,y,rfl,b8⟩|⟨q,y,m,c,rfl,d⟩⟩;rotate_left
 .exact aE (eI (f0.u (G.ak Zq)) f0 (c5.w.trans ((aK c0).trans (bO y))) c d)
 have i9:=(G.L _ (au i8) f9).trans i8;have f1:=f0.u (G.ak (M':=[a.R,a.S,a.N]) Zq);go_wp21;refine(abp (fX a _) b8).mono ?_;rintro s r ⟨x,⟨⟨u,I⟩,b3,v,D,rfl,b9,h9⟩|⟨q,D,m,c,rfl,d⟩⟩;rotate_left
 .exact aE (eI (f1.u (x.ak (by simp[Ad.a1]))) f1 (c5.w.trans ((aK c0).trans ((aK y).trans (bO D)))) c d)
 have j0:=(x.L _ (au i9) f9).trans i9;have k8:=f1.u (x.ak (M':=[a.R,a.S,a.N]) (by simp[Ad.a1]));have c6:af (ez b i k=oN b l (u,I) b3):=c5.w.trans ((aK c0).trans ((aK y).trans (aK D)));have l8:=au j0;dsimp only at h9 ⊢;obtain⟨e2,g6,h7⟩:∃e2 g6,cW u=.iface e2 g6:=by cases u<;>exact⟨_,_,rfl⟩
 rw[h7];go_wp21;refine(zv _).mono ?_;rintro s b2 ⟨a0,a2,rfl,i5,o9,p5,h5,h8,m9⟩;have l7:a0<b2.heap.size:=by
  obtain⟨_,_,_,f8⟩:=id h5;exact au f8
 have E:af (nt a b w a1.heap.size a0 a2 v I #[.string ⟨l.1.toArray⟩,U l.2,.string ⟨#[]⟩,U 0,.nilIface,.slice none 0 0] [a0,a1.heap.size] [] b3 b2):=by
  have f4:an [] r b2:=bT [] h8;have l0:∀M,bW (a.a1 a1.heap.size).X M r->bW (a.aw [a0,a1.heap.size]).X M b2:=λM d1=>(d1.a1 i5).ac f4 Zq;refine⟨k8.u (f4.ak Zq),b9.j8 h8 i5 l7,⟨Zq,Zq,Zm⟩,?_,h5,?_,?_,(f4.L _ l8 Zq).trans j0⟩
  .intro b0 n0;simp at n0;omega
  .intro m d1;simp only[bA,Yc]at d1;subst d1;refine⟨m9,?_⟩;simp[Ad.aw];refine⟨Zm,Zm,?_⟩;intro f8;have:=g.a3 _ f8;omega
  .obtain⟨M,q,n4,n3,k4,k5,k6,k7⟩:=h9;exact⟨M,q,n4,n3,k4,l0 M k5,k6,λj9 k9=>k7 j9 (k9.bE λ_ e=>Y5 _ e)⟩
 go_wp21;refine(Cy (bx:=a2) (du a _) (E.w.bk g) E.w.rd E.w.a5 E.w.cl).mono ?_;rintro s a9 ⟨O,⟨h,j2,c4,A,rfl,b1,i0⟩|⟨q,A,m,c,rfl,d⟩⟩;rotate_left
 .refine aE (eI (E.w.kp.b1 O ?_) E.w.kp (c6.w.trans (bO (qN A))) c d);intro c2 e;simp at e ⊢;rcases e with e|e
  .omega
  .exact Ya (by have:=E.w.aB _ E.w.az.2.1;omega)
 have c8:=aa ((E.w.bm g O Zq b1 i0).a4 g (.string ⟨h.1.toArray⟩) (U h.2) (.iface e2 g6))
 obtain⟨o5,o6,o7,p1⟩:=Pz (E.w.bm g O Zq b1 i0).ap;dsimp only[il];go_wp21;refine(gS (du a _) _ c8.w.rd).mono ?_;rintro s q5 ⟨i4,⟨r0,r3,d4,rfl,m7⟩|⟨q,d4,m,c,rfl,d⟩⟩;rotate_left
 .exact aE (eI (c8.w.kp.u (i4.ak Zq)) c8.w.kp (c6.w.trans ((aK (tB A)).trans (bO d4))) c d)
 have c9:=aa (c8.w.b3 g i4 m7);go_wp21;refine(gS (du a _) _ c9.w.rd).mono ?_;rintro s c1 ⟨i2,⟨q6,j4,g3,rfl,m3⟩|⟨q,g3,m,c,rfl,d⟩⟩;rotate_left
 .exact aE (eI (c9.w.kp.u (i2.ak Zq)) c9.w.kp (c6.w.trans ((aK (tB A)).trans ((aK d4).trans (bO g3)))) c d)
 have h3:=c9.w.b3 g i2 m3;rw[<-h7]at h3;have j8:=aa (ON (n:=l) (sel:=⟨h.1,h.2,u⟩) g h3);have j5:af (ez b i k=aM (hD (ig b I 13 []) (j2,[])) (lE b l ⟨h.1,h.2,u⟩) j4):=c6.w.trans ((aK (tB A)).trans ((aK d4).trans (aK g3)));go_wp2;go_loopw [10] (λm g5=>∃(b0:Bool) (j:hG) (h4:Zl) (M:Zo) (F:List Nat) (a8:Zc) (a3:List (Int×Int)) (j1:Zv) (d7:St),m=.bool b0/\j.length<=a3.length/\a3.length<=12/\af (iw a b w a1.heap.size a0 a2 c1.heap.size v I l ⟨h.1,h.2,u⟩ j h4 M F a8 a3 j1 d7 g5)/\
   af (ez b i k=aM (hD (if b0 then ig b I (13-j.length) j else mF b j) (a8,a3)) (lE b l ⟨h.1,h.2,u⟩) d7)) (λ_ g5=>13-DQ g5 c1.heap.size)
 case atStart=>exact⟨true,[],[],[],_,j2,[],_,j4,rfl,Zq,Zq,j8,j5⟩
 case round=>
  obtain⟨b0,j,h4,M,F,a8,a3,j1,d7,rfl,p6,p2,p,d8⟩:=hrel;obtain⟨ad,e4,rfl⟩:=p.w.cS;cases b0 with
  |false=>
   go_wp21;refine(rx (du a F) _ p.w.rd).mono ?_;rintro s a4 ⟨G,⟨h0,c3,y,rfl,b8⟩|⟨q,y,m,c,rfl,d⟩⟩;rotate_left
   .exact(show bodyPost prog Tryz.f123 (it [a.R,a.S,a.N] a b w (ez b i k)) (Exit.panic _) _ a4 from aE (eI (p.w.kp.u (G.ak Zq)) p.w.kp (d8.w.trans (bO (qN (bR (cZ y))))) c d))
   have C:=aa (p.w.b3 g G b8);cases h0 with
   |false=>
    have J:af (ez b i k=oL b l ⟨h.1,h.2,u⟩ j c3):=d8.w.trans (aK (tB ((bf (bF y)).trans rfl)));go_wp21;refine(gS (du a _) _ C.w.rd).mono ?_;rintro s g8 ⟨b6,⟨n5,o1,P,rfl,g1⟩|⟨q,P,m,c,rfl,d⟩⟩;rotate_left
    .exact(show bodyPost prog Tryz.f123 (it [a.R,a.S,a.N] a b w (ez b i k)) (Exit.panic _) _ g8 from aE (eI (C.w.kp.u (b6.ak Zq)) C.w.kp (J.w.trans (bO P)) c d))
    have L:=aa (C.w.b3 g b6 g1);go_wp21;refine(gS (du a _) _ L.w.rd).mono ?_;rintro s g9 ⟨b7,⟨n6,o2,a7,rfl,g2⟩|⟨q,a7,m,c,rfl,d⟩⟩;rotate_left
    .exact(show bodyPost prog Tryz.f123 (it [a.R,a.S,a.N] a b w (ez b i k)) (Exit.panic _) _ g9 from aE (eI (L.w.kp.u (b7.ak Zq)) L.w.kp (J.w.trans ((aK P).trans (bO a7))) c d))
    have e1:=aa (L.w.b3 g b7 g2);go_wp2;go_ret;exact e1.w.fin g Zm (J.w.trans ((aK P).trans (aK a7)))
   |true=>
    have J:af (ez b i k=aM (hD (aP (lift (cI b [58])) λ_=>aP (jA (km b (bA 0 0))) λn=>dA (j++[([],n)])) (a8,a3)) (lE b l ⟨h.1,h.2,u⟩) c3):=d8.w.trans (xx (yB (bf (bF y))));go_wp21;refine(gS (du a F) _ C.w.rd).mono ?_;rintro s a9 ⟨O,⟨q9,c4,A,rfl,b1⟩|⟨q,A,m,c,rfl,d⟩⟩;rotate_left
    .exact(show bodyPost prog Tryz.f123 (it [a.R,a.S,a.N] a b w (ez b i k)) (Exit.panic _) _ a9 from aE (eI (C.w.kp.u (O.ak Zq)) C.w.kp (J.w.trans (bO (qN (bR (cZ A))))) c d))
    have b4:=aa (C.w.b3 g O b1);have c7:af (ez b i k=aM (hD (aP (jA (km b (bA 0 0))) λn=>dA (j++[([],n)])) (a8,a3)) (lE b l ⟨h.1,h.2,u⟩) c4):=J.w.trans (xx (yB (bf (bF A))));have d2:Below a9.heap.size a9 a9.drew:=(Below.refl ..).drew;obtain⟨n1,n2,l2⟩:=uk b4.w.ap;have f:=aa (b4.w.ah g d2);have e0:=aa (Gq (bx:=a2) (du a F) (f.w.bk g Zq) f.w.rd f.w.a5 f.w.cl);have f5:(j.length+1)*64<=140737488355328:=Zm;go_wp21;refine cy (λg7=>g7.cell? (Zd a1.heap.size 5)=some (.slice ad j.length e4)) ?_ λa6=>?_
    .go_keep
    refine bI [0,1,2,3,4,5,6] ?_;iterate 7 (refine bK ?_)
    refine bJ ?_;refine cx 7 λa5 t=>?_;(go_simp;go_at_call 200;refine e0.w.mono ?_;rintro s r ⟨x,⟨n,d6,b3,D,rfl,b9,f2⟩|⟨q,D,m,c,rfl,d⟩⟩;rotate_left;exact(show bodyPost prog Tryz.f123 (it [a.R,a.S,a.N] a b w (ez b i k)) (Exit.panic _) _ r from aE (eI (f.w.kp.b1 x (by intro c2 e;simp at e ⊢;rcases e with e|e;exact Y8 (Ya (Y8 e));exact Ya (by have:=f.w.aB _ (f.w.az a0 Zq);omega))) f.w.kp (c7.w.trans (bO (qN (bR (uP D))))) c d));have z:=aa (f.w.bm g x Zq b9 f2 (f.w.aR.ac x (by have:=f.w.nd.2.2;have:=f.w.aB _ (f.w.az c1.heap.size Zq);simp[Ad.aw];omega)));obtain⟨n8,n9,l4⟩:=uk z.w.ap;have f6:=au z.w.ap;have m0:=Nat.ne_of_lt f6;have m8:=z.w.kp.aD;dsimp only[lX]);refine t.out _ _ ?_ (λa6=>?_)
    .go_keep
    refine nz ?_;refine pJ 8 ?_;refine cx 9 λa5 t=>?_;go_simp;refine t.out _ _ ?_ (λa6=>?_)
    .go_keep
    refine nz ?_;refine cx 10 λa5 t=>?_;(refine mC HU underlying356 (z.w.h7 _) (rB (([],n),.slice none 0 0)) (heap_alloc_new r _) (Kj [] n none 0 0) f5 Zx (H:=r.heap.size+1) Zq ?_;intro d0 k3 b2 g0 b5 l1 f7;obtain⟨n7,h0,l3⟩:=uk (z.w.f1 b5));refine t.out _ _ ?_ (λa6=>?_)
    .go_keep
    refine nz ?_;refine bI [11,12] ?_;iterate 2 (refine bK ?_)
    refine bJ ?_;refine cw λa5 t=>?_;go_simp;refine t.out _ _ ?_;refine nz ?_;have K:=aa (Ge (bs':=[]) (cs:=[]) (cv:=.slice none 0 0) (d:=n) g z.w (by intro I m1;cases m1) (Y8 ⟨rfl,rfl,rfl⟩) ((Below.refl r.heap.size r).alloc (Y4 _) _) g0 b5 Zu f7);have d9:af (ez b i k=oL b l ⟨h.1,h.2,u⟩ (j++[([],n)]) b3):=c7.w.trans (aK (tB ((bf (uQ D)).trans rfl)));go_wp21;refine(gS (du a _) _ K.w.rd).mono ?_;rintro s g8 ⟨b6,⟨n5,o1,P,rfl,g1⟩|⟨q,P,m,c,rfl,d⟩⟩;rotate_left
    .exact(show bodyPost prog Tryz.f123 (it [a.R,a.S,a.N] a b w (ez b i k)) (Exit.panic _) _ g8 from aE (eI (K.w.kp.u (b6.ak Zq)) K.w.kp (d9.w.trans (bO P)) c d))
    have L:=aa (K.w.b3 g b6 g1);go_wp21;refine(gS (du a _) _ L.w.rd).mono ?_;rintro s g9 ⟨b7,⟨n6,o2,a7,rfl,g2⟩|⟨q,a7,m,c,rfl,d⟩⟩;rotate_left
    .exact(show bodyPost prog Tryz.f123 (it [a.R,a.S,a.N] a b w (ez b i k)) (Exit.panic _) _ g9 from aE (eI (L.w.kp.u (b7.ak Zq)) L.w.kp (d9.w.trans ((aK P).trans (bO a7))) c d))
    have e1:=aa (L.w.b3 g b7 g2);go_wp2;go_ret;exact e1.w.fin g Zx (d9.w.trans ((aK P).trans (aK a7)))
  |true=>
   have h2:af (ez b i k=aM (hD (ig b I ((12-j.length)+1) j) (a8,a3)) (lE b l ⟨h.1,h.2,u⟩) d7):=by
    grind
   go_wp21;refine(PI (du a F) p.w.rd p.w.gD (p.w.bk g Zq) p.w.aR).mono ?_;rintro s a4 ⟨G,⟨B,d5,c3,e7,k1,y,rfl,b8,l9,i6,l5⟩|⟨q,y,m,c,rfl,d⟩⟩;rotate_left
   .exact(show bodyPost prog Tryz.f123 (it [a.R,a.S,a.N] a b w (ez b i k)) (Exit.panic _) _ a4 from aE (eI (p.w.kp.b1 G (by intro c2 e;simp at e ⊢;rcases e with e|e;exact Y8 (Ya (Y8 e));exact Ya (by have:=p.w.aB _ (p.w.az c1.heap.size Zq);omega))) p.w.kp (h2.w.trans (Pi y)) c d))
   have p0:=PE _ _ _ _ _ _ _ y;have C:=aa (p.w.bm g G (by intro c2 e;simp at e;rcases e with rfl|rfl;exact Y8 rfl;omega) b8 (p.w.a5.ac G (by have:=p.w.nd.2.2;have:=p.w.aB _ (p.w.az a0 Zq);simp[Ad.aw];omega)) l9);have o3:=Kd p.w.aR;have J:af (ez b i k=aM (hD (Gs b I (12-j.length) j B) (a8,d5)) (lE b l ⟨h.1,h.2,u⟩) c3):=h2.w.trans (Pj y);obtain⟨e3,e6,e5,rfl⟩:∃k0 m k2,e7=.slice k0 m k2:=by rcases i6 with⟨rfl,_⟩|⟨d0,e4,o8,rfl,_⟩<;>exact⟨_,_,_,rfl⟩
   have d2:Below a4.heap.size a4 a4.drew:=(Below.refl ..).drew;obtain⟨n1,n2,l2⟩:=uk C.w.ap;have f:=aa (C.w.ah g d2);have e0:=aa (Gq (bx:=a2) (du a F) (f.w.bk g Zq) f.w.rd f.w.a5 f.w.cl);have f5:(j.length+1)*64<=140737488355328:=Zm;have l6:∀r,an [a.S,a0] a4.drew r->bW (a.aw F).X k1 r:=λr x=>(l5.ac (bT [] d2) Zq).ac x (by intro c2 e;simp at e;rcases e with rfl|rfl;exact f.w.rd.az.2.1;exact Yf _ (f.w.az _ Zq));have j6:=aa l6;have j7:=aa i6;go_wp21;refine cy (λg7=>g7.cell? (Zd a1.heap.size 5)=some (.slice ad j.length e4)) ?_ λa6=>?_
   .go_keep
   refine bI [0,1,2,3,4,5,6,7] ?_;iterate 8 (refine bK ?_)
   refine bJ ?_;refine cx 8 λa5 t=>?_;(go_simp;go_at_call 200;refine e0.w.mono ?_;rintro s r ⟨x,⟨n,d6,b3,D,rfl,b9,f2⟩|⟨q,D,m,c,rfl,d⟩⟩;rotate_left;exact(show bodyPost prog Tryz.f123 (it [a.R,a.S,a.N] a b w (ez b i k)) (Exit.panic _) _ r from aE (eI (f.w.kp.b1 x (by intro c2 e;simp at e ⊢;rcases e with e|e;exact Y8 (Ya (Y8 e));exact Ya (by have:=f.w.aB _ (f.w.az a0 Zq);omega))) f.w.kp (J.w.trans (bO (qN (bR (uP D))))) c d));have z:=aa (f.w.bm g x Zq b9 f2 (f.w.aR.ac x (by have:=f.w.nd.2.2;have:=f.w.aB _ (f.w.az c1.heap.size Zq);simp[Ad.aw];omega)));obtain⟨n8,n9,l4⟩:=uk z.w.ap;have f6:=au z.w.ap;have m0:=Nat.ne_of_lt f6;have m8:=z.w.kp.aD;dsimp only[lX]);refine t.out _ _ ?_ (λa6=>?_)
   .go_keep
   refine nz ?_;refine pJ 9 ?_;refine cx 10 λa5 t=>?_;go_simp;refine t.out _ _ ?_ (λa6=>?_)
   .go_keep
   refine nz ?_;refine cx 11 λa5 t=>?_;(refine mC HU underlying356 (z.w.h7 _) (rB ((B,n),.slice e3 e6 e5)) (heap_alloc_new r _) (Kj B n e3 e6 e5) f5 Zx (H:=r.heap.size+1) Zq ?_;intro d0 k3 b2 g0 b5 l1 f7;obtain⟨n7,h0,l3⟩:=uk (z.w.f1 b5));refine t.out _ _ ?_ (λa6=>?_)
   .go_keep
   refine nz ?_;refine bI [12,13] ?_;iterate 2 (refine bK ?_)
   refine bJ ?_;refine cw λa5 t=>?_;go_simp;refine t.out _ _ ?_;refine nz ?_;have K:=aa (Ge (cs:=B) (cv:=.slice e3 e6 e5) (d:=n) g z.w (j6.w r x) (j7.w) ((Below.refl r.heap.size r).alloc (Y4 _) _) g0 b5 Zu f7);have h1:af (ez b i k=aM (hD (aP (lift (iE b Jg)) λb0=>if b0 then ig b I (12-j.length) (j++[(B,n)])else mF b (j++[(B,n)])) (d6,d5)) (lE b l ⟨h.1,h.2,u⟩) b3):=J.w.trans (xx (yB (bf (uQ D))))
   go_wp21;refine(Bh (du a (d0::F)) _ K.w.rd).mono ?_;rintro s a9 ⟨O,⟨j3,c4,A,rfl,b1⟩|⟨q,A,m,c,rfl,d⟩⟩;rotate_left
   .exact(show bodyPost prog Tryz.f123 (it [a.R,a.S,a.N] a b w (ez b i k)) (Exit.panic _) _ a9 from aE (eI (K.w.kp.u (O.ak Zq)) K.w.kp (h1.w.trans (bO (qN (bR (cZ A))))) c d))
   have b4:=aa (K.w.b3 g O b1);have c7:af (ez b i k=aM (hD (if j3=true then ig b I (13-(j++[(B,n)]).length) (j++[(B,n)])else mF b (j++[(B,n)])) (d6,d5)) (lE b l ⟨h.1,h.2,u⟩) c4):=by
    refine h1.w.trans (xx (yB ((bf (bF A)).trans ?_)));simp
   have o4:=Kd b4.w.aR;go_wp2;refine⟨⟨j3,j++[(B,n)],_,_,d0::F,d6,d5,_,c4,rfl,Zg,Zm,b4,c7⟩,?_⟩;omega
section
structure jr(a:Ad)(d:Za)(b:Zw)(c bx nq:Nat)(k:Zo)(e:List Nat)(g:Zc)(l:List (Int×Int))(h:St)(u:Zw):Prop where
 kp:an [a.R,a.S,a.N,c,nq] b u
 rd:Rd (a.aw e) d h u
 aB:∀y∈e,b.heap.size<=y
 a5:eC c g u
 cl:bW (a.aw e).X (bA c bx).bs u
 aR:dH nq l u
 ap:∀p∈k,u.heap[p.1]? = some p.2/\p.1∈e
section
variable {a : Ad} {d : Za} {b u j : Zw} {c bx nq : Nat} {k B' : List (Nat × Obj)} {e : List Nat} {g r : Zc} {l q : List (Int × Int)} {h n o : St}
theorem dK.aw{c}(b:dK a c)(e:List Nat):dK (a.aw e) c:=⟨Ym _ b.1,b.2.1,b.2.2.1,b.2.2.2.1,b.2.2.2.2⟩
def jr.bm{s}(t:Rd a d o b)(A:dK a c)(z:dK a nq)(i:jr a d b c bx nq k e g l h u)(w:an s u j)(v:∀m∈s,m∈[a.R,a.S,a.N,c,nq])(p:Rd (a.aw e) d n j)(E:eC c r j)(C:dH nq q j) :
  jr a d b c bx nq k e r q n j:=by
 obtain⟨G,H,I,J⟩:=t.lt;have L:=t.a3 _ A.1;have K:=t.a3 _ z.1;have B:∀m∈s,m∈(a.aw e).X:=by
  intro m f;have f:=v m f;simp at f;rcases f with rfl|rfl|rfl|rfl|rfl
  .exact p.az.1
  .exact p.az.2.1
  .exact p.az.2.2.1
  .exact Ym _ A.1
  .exact Ym _ z.1
 refine⟨i.kp.u (w.ak v),p,i.aB,E,i.cl.ac w B,C,?_⟩;intro F D;obtain⟨x,y⟩:=i.ap F D;refine⟨(w.L _ (au x) ?_).trans x,y⟩;intro f;have f:=v _ f;have:=i.aB _ y;grind
def jr.b3(q:Rd a d o b)(p:dK a c)(m:dK a nq)(i:jr a d b c bx nq k e g l h u)(f:an [a.S] u j)(r:Rd (a.aw e) d n j):jr a d b c bx nq k e g l n j:=
 i.bm q p m f Zq r (i.a5.ac f (by simp;exact p.2.2.1)) (i.aR.ac f (by simp;exact m.2.2.1))
def jr.he(q:Rd a d o b)(t:dK a c)(i:dK a nq)(s:c≠nq)(m:jr a d b c bx nq k e g l h u)(f:an [a.S,c] u j)(v:Rd (a.aw e) d n j)(w:eC c r j):jr a d b c bx nq k e r l n j:=
 m.bm q t i f Zq v w (m.aR.ac f (by simp;exact⟨i.2.2.1,λp=>s p.symm⟩))
def jr.i3(p:Rd a d o b)(i:dK a c)(s:dK a nq)(t:c≠nq)(m:jr a d b c bx nq k e g l h u)(f:an [a.S,nq] u j)(v:Rd (a.aw e) d n j)(r:dH nq q j):jr a d b c bx nq k e g q n j:=
 m.bm p i s f Zq v (m.a5.ac f (by simp;exact⟨i.2.2.1,t⟩)) r
def jr.H(m:jr a d b c bx nq k e g l h u)(n:Obj):jr a d b c bx nq ((u.heap.size,n)::k) (u.heap.size::e) g l h (u.alloc n):=by
 have f:an [] u (u.alloc n):=(ao [] u).H _;refine⟨m.kp.H _,m.rd.ae _,?_,m.a5.ac f Zq,(m.cl.a1 (Y4 _)).ac f Zq,m.aR.ac f Zq,?_⟩
 .intro r j;rcases Yg.1 j with rfl|j
  .exact m.kp.aD
  .exact m.aB r j
 .intro q i;rcases Yg.1 i with rfl|i
  .exact⟨aQ rfl,Yb⟩
  .obtain⟨o,p⟩:=m.ap q i;exact⟨(f.L _ (au o) Zq).trans o,Y5 _ p⟩
theorem jr.a4{q}(r:Rd a d o b)(x:dK a c)(w:dK a nq)(i:jr a d b c bx nq k e g l h u)(p:an q u j)(n:∀m∈q,m∈e)(v:∀s∈B',j.heap[s.1]? = some s.2/\s.1∈e):jr a d b c bx nq B' e g l h j:=by
 have z:=r.a3 _ x.1;have y:=r.a3 _ w.1;have t:∀m∈q,m∈(a.aw e).X:=λm f=>Yf _ (n m f);refine⟨i.kp.b1 p (λm f=>Ya (i.aB _ (n m f))),r.b1 (du a e) i.rd p (λm f=>⟨i.aB _ (n m f),t m f⟩),i.aB,i.a5.ac p ?_,i.cl.ac p t,i.aR.ac p ?_,v⟩
 .intro f;have:=i.aB _ (n _ f);omega
 .intro f;have:=i.aB _ (n _ f);omega
end
def mb(d:Za):PX gi gg:=aP (lift (pG d)) λe=>aP (jA (name d (bA 0 0))) λa=>aP (lift (cI d [40])) λ_=>aP (lift (pG d)) λb=>aP (lift (cI d [41])) λ_=>
 aP (nI (pf d)) λc=>dA ⟨a.1,a.2,e,b,c⟩
abbrev qF(c:gg):Zl:=pu c.t c.y++[cW c.cu,cW c.cP,U c.num]
def BS{k:Type}(a:Ad)(d:Za)(b:Zw)(c nq:Nat)(j:Except Mar.ay (k×gi×St))(m:k->Zv)(i:Ending)(e:Zw):Prop:=
 an [a.R,a.S,a.N,c,nq] b e/\((∃h g l n,j=.ok (h,(g,l),n)/\i=.returned (m h)/\Rd a d n e/\eC c g e/\dH nq l e)\/(∃f,j=.error f/\fm b f.no f.y i e))
def vx{i:Type}{a:Ad}{M' d b w1 g}{c nq:Nat}{h:Except Mar.ay (i×gi×St)}{j f}{e:Nat}
  (m:an [a.R,a.S,a.N,c,nq] b g) (n:an M' b w1) (o:h=.error f) (k:w1.heap.size<=e) (l:g.heap[e]? = some (.cells #[U f.no,U f.y] 179)) :
  BS a d b c nq h j (.panicked [{ v:=.iface 143 (Zp e),recovered:=false }]) g:=⟨m,Ya ⟨f,o,e,Yz n.aD k,rfl,l⟩⟩
def Lj{c a}(e:fW c a){d h b}(f:Rd c d h b) :
  Calls prog 269 #[Zp a.R] b (eR [a.S] c d b (pG d h) cW):=by
 have:=aby f;rw[e.1,e.2.1]at this;exact this
def Hj{e a}(f:fW e a){d h c l b}(g:Rd e d h b)(j:dK e c)(i:dH c l b) :
  Calls prog 204 #[Zp a.R,.map (some c)] b (mp [a.S,c] e d b (pf d l h) kW (dH c)):=by
 have:=RB g j i;rw[f.1,f.2.1]at this;exact this
def hX(a:Ty):∃b v,cW a=.iface b v:=by cases a<;>exact⟨_,_,rfl⟩
def zB{a:Nat}{f g c d e:Zv}{h}{b:Zw}(j:b.heap[a]? = some (.cells #[f,g,c,d,e] h)) :
  b.cell? (Zd a 0)=some f/\b.cell? (Zd a 1)=some g/\b.cell? (Zd a 2)=some c/\b.cell? (Zd a 3)=some d/\b.cell? (Zd a 4)=some e/\∀i,b.frozen? ⟨a,i,none⟩=false:=by
 simp_all[World.cell?,World.frozen?]
def XW{a d h c bx nq g l b}(j:Rd a d h b)(o:dK a c)(n:dK a nq)(S:c≠nq)(d6:eC c g b)(c7:bW a.X (bA c bx).bs b)(c9:dH nq l b) :
  Calls prog 256 #[Zp a.R,(bA c bx).v,.map (some nq)] b (BS a d b c nq (mb d (g,l) h) λp=>.agg (qF p).toArray):=by
 have c2:jr a d b c bx nq [] [] g l h b:=⟨ao ..,j,Zq,d6,c7,c9,Zq⟩;have D:=aa (c2.H (.cells #[.string ⟨#[]⟩,U 0,.nilIface,.nilIface,U 0] 446));go_in;go_wp21;refine(Lj (du a _) D.w.rd).mono ?_;rintro z e9 ⟨a4,⟨M,f4,K,rfl,d1⟩|⟨A,K,y,k,rfl,m⟩⟩;rotate_left
 .exact aE (vx (D.w.kp.u (a4.ak Zq)) D.w.kp (bR (cZ K)) k m)
 have q:=aa (D.w.b3 j o n a4 d1);obtain⟨J,N,c3⟩:=hX M;rw[c3];go_wp21;refine(Cy (bx:=bx) (du a _) (o.aw _) q.w.rd q.w.a5 q.w.cl).mono ?_;rintro z f ⟨P,⟨e,a2,e4,a0,rfl,b0,b1⟩|⟨A,a0,y,k,rfl,m⟩⟩;rotate_left
 .exact aE (vx (q.w.kp.u (P.ak Zq)) q.w.kp ((bf (bF K)).trans (bR (uP a0))) k m)
 have e8:b.heap.size<f.heap.size:=au ((q.w.he j o n S P b0 b1).ap (b.heap.size,.cells #[.string ⟨#[]⟩,U 0,.nilIface,.nilIface,U 0] 446) Yb).1;have E:=aa ((q.w.he j o n S P b0 b1).H (.cells #[.string ⟨e.1.toArray⟩,U e.2,.iface J N,.nilIface,U 0] 446))
 have t:af (mb d (g,l) h=aP (lift (cI d [40])) (λ_=>aP (lift (pG d)) λx=>aP (lift (cI d [41])) λ_=>aP (nI (pf d)) λr=>dA ⟨e.1,e.2,M,x,r⟩) (a2,l) e4):=(bf (bF K)).trans (bf (uQ a0));dsimp only[il];go_wp21;refine(gS (du a _) _ E.w.rd).mono ?_;rintro z f0 ⟨a5,⟨f2,f5,s,rfl,d2⟩|⟨A,s,y,k,rfl,m⟩⟩;rotate_left
 .exact aE (vx (E.w.kp.u (a5.ak Zq)) E.w.kp (t.w.trans (bR (cZ s))) k m)
 have F:=aa (E.w.b3 j o n a5 d2);go_wp21;refine(Lj (du a _) F.w.rd).mono ?_;rintro z b8 ⟨a6,⟨x,f6,B,rfl,d3⟩|⟨A,B,y,k,rfl,m⟩⟩;rotate_left
 .exact aE (vx (F.w.kp.u (a6.ak Zq)) F.w.kp (t.w.trans ((bf (bF s)).trans (bR (cZ B)))) k m)
 have G:=F.w.b3 j o n a6 d3;obtain⟨w,C,c4⟩:=hX x;rw[c4];obtain⟨b3,b4,b5,b6,b7,c8⟩:=zB (G.ap (f.heap.size,_) Yb).1;have H:=aa (G.a4 (B':=[(f.heap.size,.cells #[.string ⟨e.1.toArray⟩,U e.2,.iface J N,.iface w C,U 0] 446),(b.heap.size,.cells #[.string ⟨#[]⟩,U 0,.nilIface,.nilIface,U 0] 446)]) j o n ((ao [f.heap.size] b8).aH (p:=⟨f.heap.size,3,none⟩) Zq (.iface w C)) Zq (by
  intro p a9;simp only[Yg,List.not_mem_nil,or_false]at a9;rcases a9 with rfl|rfl
  .exact⟨bv (i:=3) (G.ap (f.heap.size,_) Yb).1 _,Zq⟩
  .have a3:=(G.ap (b.heap.size,.cells #[.string ⟨#[]⟩,U 0,.nilIface,.nilIface,U 0] 446) (Y5 _ Yb)).1;exact⟨(((ao [f.heap.size] b8).aH (p:=⟨f.heap.size,3,none⟩) Zq (.iface w C)).L _ (au a3) Zg).trans a3,Zq⟩))
 go_wp21;refine(gS (du a _) _ H.w.rd).mono ?_;rintro z f1 ⟨a7,⟨f3,f7,L,rfl,d4⟩|⟨A,L,y,k,rfl,m⟩⟩;rotate_left
 .exact aE (vx (H.w.kp.u (a7.ak Zq)) H.w.kp (t.w.trans ((bf (bF s)).trans ((bf (bF B)).trans (bR (cZ L))))) k m)
 have u:=aa (H.w.b3 j o n a7 d4);go_wp21;refine(Hj (du a _) u.w.rd (n.aw _) u.w.aR).mono ?_;rintro z e3 ⟨a8,⟨r,b2,b9,a1,rfl,d5,d0⟩|⟨A,a1,y,k,rfl,m⟩⟩;rotate_left
 .exact aE (vx (u.w.kp.u (a8.ak Zq)) u.w.kp (t.w.trans ((bf (bF s)).trans ((bf (bF B)).trans ((bf (bF L)).trans (bR (yn a1)))))) k m)
 have O:=u.w.i3 j o n S a8 d5 d0;have c0:af (mb d (g,l) h=.ok (⟨e.1,e.2,M,x,r⟩,(a2,b2),b9)):=t.w.trans ((bf (bF s)).trans ((bf (bF B)).trans ((bf (bF L)).trans ((bf (yo a1)).trans rfl))));have c6:=(O.ap (f.heap.size,_) Yb).1;have c5:=(O.ap (b.heap.size,.cells #[.string ⟨#[]⟩,U 0,.nilIface,.nilIface,U 0] 446) (Y5 _ Yb)).1;obtain⟨b3,b4,b5,b6,b7,c8⟩:=zB c6;obtain⟨d8,d9,e0,e1,e2,e5⟩:=zB c5;have e6:¬f.heap.size=b.heap.size:=Zm;have e7:¬b.heap.size=f.heap.size:=Zm;have c1:=aa O;dsimp only[kW];go_wp2;have d7:=(((((ao [f.heap.size,b.heap.size] e3).aH (p:=⟨f.heap.size,4,none⟩) Zq (U r)).aH (p:=⟨b.heap.size,0,none⟩) Zq (.string ⟨e.1.toArray⟩)).aH (p:=⟨b.heap.size,1,none⟩) Zq (U e.2)).aH (p:=⟨b.heap.size,2,none⟩) Zq (.iface J N)).aH (p:=⟨b.heap.size,3,none⟩) Zq (.iface w C) |>.aH (p:=⟨b.heap.size,4,none⟩) Zq (U r)
 have I:=c1.w.a4 (B':=[]) j o n d7 Zq Zq;refine bodyPost_ret (v:=.agg #[.string ⟨e.1.toArray⟩,U e.2,.iface J N,.iface w C,U r]) (by simp[results,results256,go_sem,d8,d9,e0,e1,e2,b3,b4,b5,b6,b7]) rfl ⟨I.kp,Y8 ⟨⟨e.1,e.2,M,x,r⟩,a2,b2,b9,c0.w,?_,mx j.az I.rd,I.a5,I.aR⟩⟩
 simp_all
end
section
structure gz(A:Ad)(j:Za)(h:Zw)(r o:TypeId)(q a c nq:Nat)(e:Zo)(n:Zb×Nat)(lV:Nat)(k:Zl)(s:Zo)(d:List Nat)(t:Zc)(l:List (Int×Int))(f:Zv)(v:St)(u:Zw):Prop where
 kp:an [A.R,A.S,A.N] h u
 rd:Rd (A.aw d) j v u
 az:∀b∈a::c::nq::e.map (·.1),b∈d
 nd:(a::c::nq::e.map (·.1)).Nodup
 aB:∀y∈d,h.heap.size<=y
 ae:∀g,f.ownBlock=some g->g∈d/\g ∉ a::c::nq::e.map (·.1)
 a5:eC c t u
 aR:dH nq l u
 ap:u.heap[a]? = some (.cells #[.string ⟨n.1.toArray⟩,U n.2,f,U 0] r)
 es:∀p∈e,u.heap[p.1]? = some p.2
 row:u.ownsRow h.heap.size o q f lV k
 d7:bW (A.aw d).X s u
section
variable {A : Ad} {j : Za} {h u u' : Zw} {r o : TypeId} {q a c nq : Nat} {e : List (Nat × Obj)} {n : Zb × Nat} {lV : Nat} {k : Zl} {s : List (Nat × Obj)} {d : List Nat} {t B : Zc} {l z : List (Int × Int)} {f : Zv} {v x w : St}
def gz.cS(g:gz A j h r o q a c nq e n lV k s d t l f v u):∃ad b,f=.slice ad lV b:=by
 rcases g.row.2 with⟨rfl,p⟩|⟨m,b,i,rfl,_⟩;all_goals simp_all
def gz.bk(i:Rd A j w h)(m:gz A j h r o q a c nq e n lV k s d t l f v u){b:Nat}(g:b∈d):dK (A.aw d) b:=by
 obtain⟨x,y,z,B⟩:=i.lt;have p:=m.aB _ g;refine⟨Yf _ g,?_,?_,?_,?_⟩<;>simp only[Ad.aw]<;>omega
def gz.ca(g:gz A j h r o q a c nq e n lV k s d t l f v u):a≠c/\a≠nq/\c≠nq/\(∀b∈e,b.1≠a/\b.1≠c/\b.1≠nq):=by
 have:=g.nd;grind
def gz.bm{C}(G:Rd A j w h)(b:gz A j h r o q a c nq e n lV k s d t l f v u)(i:an C u u')(D:∀m∈C,m∈[A.R,A.S,A.N,c,nq])(y:Rd (A.aw d) j x u')(M:eC c B u')(K:dH nq z u') :
  gz A j h r o q a c nq e n lV k s d B z f x u':=by
 obtain⟨a2,a3,a4,a5⟩:=G.lt;obtain⟨O,P,a0,a1⟩:=b.ca;have a6:=b.aB _ (b.az a Zq);have a8:=b.aB _ (b.az c Zq);have a7:=b.aB _ (b.az nq Zq);have I:∀m∈C,m∈(A.aw d).X:=by
  intro m g;have g:=D m g;simp at g;rcases g with rfl|rfl|rfl|rfl|rfl
  .exact y.az.1
  .exact y.az.2.1
  .exact y.az.2.2.1
  .exact Yf _ (b.az _ Zq)
  .exact Yf _ (b.az _ Zq)
 refine⟨b.kp.b1 i ?_,y,b.az,b.nd,b.aB,b.ae,M,K,(i.L _ (au b.ap) ?_).trans b.ap,?_,bw b.row i ?_,b.d7.ac i I⟩
 .grind
 .grind
 .intro E L;have p:=b.es E L;refine(i.L _ (au p) ?_).trans p;intro g;have g:=D _ g;have H:=b.aB _ (b.az E.1 Zg);grind
 .intro F J g;have g:=D _ g;have p:=b.ae F J;have H:=b.aB _ p.1;grind
def gz.b3(i:Rd A j w h)(b:gz A j h r o q a c nq e n lV k s d t l f v u)(g:an [A.S] u u')(m:Rd (A.aw d) j x u'):gz A j h r o q a c nq e n lV k s d t l f x u':=by
 have p:=i.lt.2.1;have z:=b.aB _ (b.az c Zq);have y:=b.aB _ (b.az nq Zq);exact b.bm i g Zq m (b.a5.ac g Zg) (b.aR.ac g Zg)
def gz.ah(g:Rd A j w h)(m:gz A j h r o q a c nq e n lV k s d t l f v u)(b:Below u.heap.size u u'):gz A j h r o q a c nq e n lV k s d t l f v u':=
 m.bm g (bT [] b) Zq (m.rd.ah b) (m.a5.ac (bT [] b) Zq) (m.aR.ac (bT [] b) Zq)
theorem gz.h7(g:gz A j h r o q a c nq e n lV k s d t l f v u)(b:Obj):(u.alloc b).ownsRow h.heap.size o q f lV k:=bw g.row ((ao [] u).H b) Zq
def gz.f1{i g}(b:gz A j h r o q a c nq e n lV k s d t l f v u)(p:(u.alloc g).grownBy i f.ownBlock):i.heap[a]? = some (.cells #[.string ⟨n.1.toArray⟩,U n.2,f,U 0] r):=by
 have w:=au b.ap;exact(p.block _ Zx (λm=>(b.ae _ m.symm).2 Zq)).trans ((((ao [] u).H g).L _ w Zq).trans b.ap)
def gz.i4{m i}(g:gz A j h r o q a c nq e n lV k s d t l f v u)(x:(u.alloc i).grownBy m f.ownBlock){p:Nat×Obj}(z:p∈e):m.heap[p.1]? = some p.2:=by
 have b:=g.es p z;have y:=au b;exact(x.block _ Zx (λw=>(g.ae _ w.symm).2 Zg)).trans ((((ao [] u).H i).L _ y Zq).trans b)
theorem Fv{F z:Zw}{g C:Nat}{R:Zl}{bs'}(G:Rd A j w h)(p:gz A j h r o q a c nq e n lV k s d t l f v u)(a3:bW (A.aw d).X bs' u)(m:Below u.heap.size u F)
  (N:z.ownsRow h.heap.size o q (.slice (some ⟨g,0,none⟩) (lV+1) C) (lV+1) (k++R))
  (D:F.grownBy z f.ownBlock) (H:f.ownBlock=some g\/g=F.heap.size) (a6:g<z.heap.size) :
  gz A j h r o q a c nq e n (lV+1) (k++R) (s++bs') (g::d) t l (.slice (some ⟨g,0,none⟩) (lV+1) C) v (z.setCell ⟨a,2,none⟩ (.slice (some ⟨g,0,none⟩) (lV+1) C)):=by
 obtain⟨b6,_⟩:=hR N (g:=g) rfl;have x:=p.ah G m;have a4:=a3.ac (bT [] m) Zq;obtain⟨b1,b2,b3,b4⟩:=p.ca;have K:a∈a::c::nq::e.map (·.1):=Zq;have a9:c∈a::c::nq::e.map (·.1):=Zq;have a8:nq∈a::c::nq::e.map (·.1):=Zq;have b8:∀b∈a::c::nq::e.map (·.1),h.heap.size<=b:=λb m=>p.aB _ (p.az b m);have M:∀b∈a::c::nq::e.map (·.1),b<F.heap.size:=λb m=>x.rd.a3 b (Yf _ (p.az b m));have b7:=D.size;have b5:g ∉ a::c::nq::e.map (·.1):=by
  rcases H with L|L
  .exact(p.ae g L).2
  grind
 have O:∀b,f.ownBlock=some b->h.heap.size<=b/\b∈(A.aw d).X:=λb m=>⟨p.aB _ (p.ae b m).1,Yf _ (p.ae b m).1⟩;have B:=gt D;have y:an [a] z (z.setCell ⟨a,2,none⟩ (.slice (some ⟨g,0,none⟩) (lV+1) C)):=(ao [a] z).aH Zq _;have E:∀b∈a::c::nq::e.map (·.1),b ∉ f.ownBlock.toList:=by
  intro b m I;exact(p.ae b Zg).2 m
 have a2:∀b,f.ownBlock=some b->b∈(A.aw d).X:=λb m=>(O b m).2;have a1:∀a0∈[a],a0∈(A.aw (g::d)).X:=by
  intro a0 P;simp only[Yc]at P;subst P;exact Yf _ (Y5 _ (p.az _ K))
 refine⟨?_,?_,λb m=>Y5 _ (p.az b m),p.nd,?_,?_,?_,?_,?_,?_,?_,?_⟩
 .refine(x.kp.b1 B ?_).b1 y ?_
  .grind
  grind
 .exact G.b1 (du A (g::d)) (vG G (du A d) x.rd D O H a6) y (by
   grind)
 .intro b0 J;rcases Yg.1 J with rfl|J
  .omega
  .exact p.aB b0 J
 .grind [Value.ownBlock]
 .exact(x.a5.ac B (E _ a9)).ac y Zg
 .exact(x.aR.ac B (E _ a8)).ac y Zg
 .exact bv (i:=2) ((B.L _ (M _ K) (E _ K)).trans x.ap) _
 .intro S a7;have I:S.1∈a::c::nq::e.map (·.1):=Zg;have a5:=M _ I;exact(y.L _ Zm Zg).trans ((B.L _ a5 (E _ I)).trans (x.es S a7))
 .exact bw N y (by
   grind [Value.ownBlock])
 .exact((x.d7.b7 a4).a9 D a2 H).ac y a1
def gz.j3(x:gz A j h r o q a c nq e n lV k s d t l f v u)(D:lV<=1000)(G:k.length=lV*q)(E:lV=0->k=[]):∃i,hn i o f lV k/\∀b∈i,u.heap[b.1]? = some b.2/\h.heap.size<=b.1/\b.1≠a:=by
 rcases x.row.2 with⟨rfl,p⟩|⟨g,y,m,rfl,z,B,C,H,I,J⟩
 .exact⟨[],Y8 ⟨rfl,p,E p⟩,Zq⟩
 .refine⟨[(g,.cells m o)],Ya ⟨g,y,m,rfl,⟨C,D⟩,Zq,?_⟩,?_⟩
  .simp_all
  .intro b w;simp only[Yc]at w;subst w;exact⟨B,z,λF=>(x.ae g rfl).2 Zu⟩
end
end
section
variable {a:Ad}{d:List gg}{e:gi}{b:Zw}{c:St}
def TN:(prog.info? 446).map (λa=>(a.zero,a.size,a.bytes))=some (some (.agg #[.string ⟨#[]⟩,U 0,.nilIface,.nilIface,U 0]),5,64):=Zk
def nS(f:Za):PX (List gg×gi) Unit:=λa c=>match mb f a.2 c with
 |.ok (b,e,g)=>.ok ((),(a.1++[b],e),g)
 |.error d=>.error d
def Fe{f}{b:gi}{g:St}{a:gg}(h:mb f e c=.ok (a,b,g)):nS f (d,e) c=.ok ((),(d++[a],b),g):=by simp only[nS,h]
theorem Fd{b a}(f:mb b e c=.error a):nS b (d,e) c=.error a:=by simp only[nS,f]
structure xm where
 VB:Nat
 rb:Nat
 cb:Nat
 nb:Nat
 q:Nat
 nq:Nat
 bx:Nat
abbrev xm.E(a:xm):Zo:=[(a.cb,.cells #[(bA a.q a.bx).v] 341),(a.nb,.cells #[.map (some a.nq)] 149)]
def BG(a:Ad)(j:Za)(b:Zw)(d:xm)(h:Zb×Nat)(g:Nat)(f:List Nat)(e:List gg×gi)(c:St)(k:Zw):Prop:=e.1.length=g/\
 ∃i,gz a j b 367 446 5 d.VB d.q d.nq d.E h e.1.length (e.1.flatMap qF) (bA d.q d.bx).bs f e.2.1 e.2.2 i c k
def XX{d}(j:fW d a){f e bx nq h g}(i:Rd d f c b)(o:dK d e)(m:dK d nq)(n:e≠nq)(p:eC e h b)(k:bW d.X (bA e bx).bs b)(l:dH nq g b) :
  Calls prog 256 #[Zp a.R,(bA e bx).v,.map (some nq)] b (BS d f b e nq (mb f (h,g) c) λq=>.agg (qF q).toArray):=by
 have:=XW i o m n p k l;rw[j.1]at this;exact this
def Xm(a:gg):∀d∈qF a,d.oneCell'=true:=by
 intro d c;simp at c;rcases c with rfl|rfl|rfl|rfl|rfl
 .rfl
 .rfl
 .obtain⟨e,v,b⟩:=hX a.cu;rw[b];rfl
 .obtain⟨e,v,b⟩:=hX a.cP;rw[b];rfl
 .rfl
def xO{a:Nat}{h i e f:Zv}{d}(g:b.heap[a]? = some (.cells #[h,i,e,f] d)):∀c,b.frozen? ⟨a,c,none⟩=false:=by
 intro c;simp[World.frozen?,g]
theorem ael{o n}{f:xm}{G}{z:Nat}{s b5}(m:Rd a o b5 b)(F:b.heap[f.rb]? = some (.cells #[Zp a.R] 145))(a9:f.rb ∉ [a.R,a.S,a.N])(C:z<1000)(P:BG a o b f G z s (d,e) c n) :
  Calls prog 255 #[Zp f.VB,Zp f.rb,Zp f.cb,Zp f.nb] n (nj a b (BG a o b f G (z+1)) (nS o (d,e) c)):=by
 obtain⟨w,e0,j⟩:=P;obtain⟨e1,c9⟩:=e;dsimp only at w j;have L:=aa w;have c5:d.length<1000:=Zm;clear w;obtain⟨ad,M,rfl⟩:=j.cS;have E:=au F;have x:=λ(v:Zw) (C:an [a.R,a.S,a.N] b v)=>bS ((C.L _ E a9).trans F);have A:=aa x;obtain⟨e2,e3,e4,e5⟩:=nB j.ap;have d7:=x _ j.kp;have b9:=bS (j.es (f.cb,.cells #[(bA f.q f.bx).v] 341) Zq);have d4:=bS (j.es (f.nb,.cells #[.map (some f.nq)] 149) Zq);have a2:Below n.heap.size n n.drew:=(Below.refl ..).drew;have h:=aa (j.ah m a2);have K:=aa (XX (bx:=f.bx) (du a s) h.w.rd (h.w.bk m (h.w.az f.q Zq)) (h.w.bk m (h.w.az f.nq Zq)) h.w.ca.2.2.1 h.w.a5 h.w.d7 h.w.aR);have a4:(d.length+1)*64<=140737488355328:=Zm;clear j x;go_in;go_wp21;refine cy (λp=>p.cell? (Zd f.VB 2)=some (.slice ad d.length M)/\p.cell? (Zd f.rb 0)=some (Zp a.R)/\p.cell? (Zd f.cb 0)=some (bA f.q f.bx).v/\p.cell? (Zd f.nb 0)=some (.map (some f.nq))) ?_ λu=>?_
 .go_keep
 refine bI [0,1,2,3,4] ?_;iterate 5 (refine bK ?_)
 refine bJ ?_;refine cx 5 λk i=>?_;(go_simp;go_at_call 256;refine K.w.mono ?_;rintro c2 r ⟨D,⟨t,b3,b2,b6,y,rfl,a8,b0,a6⟩|⟨c3,y,b8,a1,rfl,a3⟩⟩;rotate_left;exact aE (pR (h.w.kp.b1 D (by intro J b1;have:=h.w.aB _ (h.w.az f.q Zq);have:=h.w.aB _ (h.w.az f.nq Zq);grind [Ad.aw])) h.w.kp (Fd y) a1 a3);have g:=aa (h.w.bm m D (by grind [Ad.aw]) a8 b0 a6);obtain⟨e6,e7,e8,e9⟩:=nB g.w.ap;have d8:=A.w _ g.w.kp;have c0:=bS (g.w.es (f.cb,.cells #[(bA f.q f.bx).v] 341) Zq);have d5:=bS (g.w.es (f.nb,.cells #[.map (some f.nq)] 149) Zq);have d0:=au g.w.ap;have d3:=Yr E g.w.kp.aD;have d1:=au (g.w.es (f.cb,.cells #[(bA f.q f.bx).v] 341) Zq);have d2:=au (g.w.es (f.nb,.cells #[.map (some f.nq)] 149) Zq);have c8:=g.w.kp.aD;dsimp only[qF,pu,List.append_toArray,YX,YT]);refine i.out _ _ ?_ (λu=>?_)
 .go_keep
 clear i k;refine nz ?_;refine cx 6 λk i=>?_;go_simp;refine i.out _ _ ?_ (λu=>?_)
 .go_keep
 clear i k;refine nz ?_;refine cx 7 λk i=>?_;(refine mC TN underlying365 (g.w.h7 _) (qF t) (heap_alloc_new r _) (Xm t) a4 Zx (H:=r.heap.size+1) Zq ?_;intro B O b4 a7 l c4 a5;obtain⟨f0,f1,f2,f3⟩:=nB (g.w.f1 l);have c6:=xO (g.w.f1 l);have c1:=bS (g.w.i4 l (p:=(f.cb,.cells #[(bA f.q f.bx).v] 341)) Zq);have d6:=bS (g.w.i4 l (p:=(f.nb,.cells #[.map (some f.nq)] 149)) Zq);have d9:b4.cell? (Zd f.rb 0)=some (Zp a.R):=A.w _ (((g.w.kp.H _)).b1 (gt l) (by intro J b1;have a0:=g.w.ae J Zg;exact Ya (g.w.aB _ a0.1))));refine i.out _ _ ?_ (λu=>?_)
 .go_keep
 clear i k;refine nz ?_;refine pJ 8 ?_;refine cw λk i=>?_;go_simp;refine i.out _ _ ?_;clear i k;refine nz ?_;have b7:=Fv (bs':=[]) m g.w (by intro I c7;grind) ((Below.refl r.heap.size r).alloc (Y4 _) _) a7 l Zu a5;go_wp2;go_end0;refine Y8 ⟨B::s,(d++[t],(b3,b2)),b6,Fe y,rfl,by simp[L.w],.slice (some ⟨B,0,none⟩) (d.length+1) O,?_⟩;simp_all
end
section
variable {a:Ad}{nq b:Nat}{w:Zw}
def aem(args:Array Zv)(a:Zw):(callFunc 255 args).run prog a=.ok (.enter 255 args) a:=Zk
def aet{d l}(g:Rd a d l w)(b:xm)(m:w.heap[b.rb]? = some (.cells #[Zp a.R] 145))(n:b.rb ∉ [a.R,a.S,a.N])(j:Zb×Nat):zj (List gg×gi) a d w 8 where
 f:=255
 jN:=#[Zp b.VB,Zp b.rb,Zp b.cb,Zp b.nb]
 bb:=nS d
 J:=BG a d w b j
 d1:=aem
 rd:=by rintro _ _ _ _ _ ⟨_,_,c⟩;exact c.rd
 kp:=by rintro _ _ _ _ _ ⟨_,_,c⟩;exact c.kp
 b3:=by rintro _ _ _ _ _ _ _ ⟨e,k,c⟩ h i;exact⟨e,k,c.b3 g h i⟩
 call:=by
  grind [ael]
def wN(a:Za)(b:Zb×Nat):PX gi fH:=aP (lift (kZ (fp a 8 (nS a)) ([],([],[])))) λd=>aP (nI (pf a)) λc=>dA ⟨b.1,b.2,d.1,c⟩
def mf(a:Za):PX gi fH:=aP (lift (cI a Jz)) λ_=>aP (jA (name a (bA 0 0))) (wN a)
def BT(a:Ad)(l:Za)(w:Zw)(b nq:Nat)(h:Except Mar.ay (fH×gi×St))(f:Ending)(c:Zw):Prop:=
 an [a.R,a.S,a.N,b,nq] w c/\((∃v j g k i e,h=.ok (v,(j,g),k)/\f=.returned (.agg #[Zs v.t,.int .i64 v.y,i,.int .i64 v.num])/\Rd a l k c/\eC b j c/\dH nq g c/\hn e 446 i v.aq.length (v.aq.flatMap qF)/\bW a.X e c)\/(∃d,h=.error d/\fm w d.no d.y f c))
def zf{M' l w1 d}{e:Except Mar.ay (fH×gi×St)}{f}{c:Nat}
  (i:an [a.R,a.S,a.N,b,nq] w d) (j:an M' w w1) (k:e=.error f) (g:w1.heap.size<=c) (h:d.heap[c]? = some (.cells #[.int .i64 f.no,.int .i64 f.y] 179)) :
  BT a l w b nq e (.panicked [{ v:=.iface 143 (Zp c),recovered:=false }]) d:=⟨i,Ya ⟨f,k,c,Yz j.aD g,rfl,h⟩⟩
def UB:∀a:List gg,(a.flatMap qF).length=a.length*5:=by
 intro a;induction a<;>grind [List.length_cons]
def aen{k G bx F y}(h:Rd a k G w)(s:dK a b)(r:dK a nq)(g4:b≠nq)(h0:eC b F w)(f9:bW a.X (bA b bx).bs w)(g2:dH nq y w) :
  Calls prog 203 #[Zp a.R,(bA b bx).v,.map (some nq)] w (BT a k w b nq (mf k (F,y) G)):=by
 have k1:=je;have k2:=mS;have d0:jr a k w b bx nq [] [] F y G w:=⟨ao ..,h,Zq,h0,f9,g2,Zq⟩;have e5:(w.alloc (.cells #[Zp a.R] 145)).heap.size=w.heap.size+1:=Zq;have J:=(d0.H (.cells #[Zp a.R] 145)).H (.cells #[.string ⟨#[]⟩,.int .i64 0,.slice none 0 0,.int .i64 0] 367);rw[e5]at J;have z:=aa J;have i2:=bS (J.ap (w.heap.size,.cells #[Zp a.R] 145) Zq).1;clear d0 J e5;go_in;go_wp21;refine(gS (du a _) _ z.w.rd).mono ?_;rintro K l1 ⟨b3,⟨l2,l4,B,rfl,e0⟩|⟨a6,B,a4,p,rfl,q⟩⟩;rotate_left
 .exact aE (zf (z.w.kp.u (b3.ak Zq)) z.w.kp (bR (cZ B)) p q)
 have l:=aa (z.w.b3 h s r b3 e0);have i3:=bS (l.w.ap (w.heap.size,.cells #[Zp a.R] 145) Zq).1;clear b3 e0 z i2;go_wp21;refine(Cy (bx:=bx) (du a _) (s.aw _) l.w.rd l.w.a5 l.w.cl).mono ?_;rintro K e ⟨b4,⟨d,c6,c7,a1,rfl,e1,e6⟩|⟨a6,a1,a4,p,rfl,q⟩⟩;rotate_left
 .exact aE (zf (l.w.kp.u (b4.ak Zq)) l.w.kp ((bf (bF B)).trans (bR (uP a1))) p q)
 have f:=aa (l.w.he h s r g4 b4 e1 e6);have H:af (mf k (F,y) G=wN k d (c6,y) c7):=(bf (bF B)).trans (bf (uQ a1));have P:=(f.w.ap (w.heap.size,.cells #[Zp a.R] 145) Zq).1;clear b4 e1 e6 l i3 B a1;dsimp only[il];go_wp21;refine(zv _).mono ?_;rintro K c ⟨g,j,rfl,d9,f7,g6,a7,L,c2⟩;dsimp only[dU.v,bA];have h1:(e.alloc (.cells #[.string ⟨d.1.toArray⟩,.int .i64 d.2,.slice none 0 0,.int .i64 0] 367)).heap.size=e.heap.size+1:=Zq;have a3:=au P;have b7:g<c.heap.size:=by
  obtain⟨_,_,_,M⟩:=id a7;grind
 have d6:=au c2;have k6:=L.size;have b5:=bT [] L;have c1:=(b5.L _ Zm Zq).trans (aQ (w:=e) (o:=.cells #[.string ⟨d.1.toArray⟩,.int .i64 d.2,.slice none 0 0,.int .i64 0] 367) rfl);have e2:=(f.w.rd.ae (.cells #[.string ⟨d.1.toArray⟩,.int .i64 d.2,.slice none 0 0,.int .i64 0] 367)).j8 L d9 b7;obtain⟨i,m⟩:∃i,i=((c.alloc (.map #[] 0)).alloc (.cells #[(bA g j).v] 341)).alloc (.cells #[.map (some c.heap.size)] 149):=⟨_,rfl⟩;have b9:(c.alloc (.map #[] 0)).heap.size=c.heap.size+1:=Zq;have c0:((c.alloc (.map #[] 0)).alloc (.cells #[(bA g j).v] 341)).heap.size=c.heap.size+2:=Zq;have b8:=((e2.ae (.map #[] 0)).ae (.cells #[(bA g j).v] 341)).ae (.cells #[.map (some c.heap.size)] 149);rw[b9,c0,<-m]at b8;have D:an [] c i:=by rw[m];exact(((ao [] c).H _).H _).H _
 have d7:i.heap[c.heap.size]? = some (.map #[] 0):=by
  rw[m];exact((((ao [] _).H _).H _).L _ Zm Zq).trans (aQ rfl)
 have f8:i.heap[c.heap.size+1]? = some (.cells #[(bA g j).v] 341):=by
  rw[m];exact(((ao [] _).H _).L _ Zm Zq).trans (aQ b9.symm)
 have g3:i.heap[c.heap.size+2]? = some (.cells #[.map (some c.heap.size)] 149):=by
  rw[m];exact aQ c0.symm
 have c4:an [] e i:=(((ao [] e).H _).u b5).u D;have e4:w.heap.size ∉ [a.R,a.S,a.N]:=by obtain⟨h4,h5,a3,h6⟩:=h.lt;simp;omega
 have c9:af (gz (a.aw [w.heap.size+1,w.heap.size]) k e 367 446 5 e.heap.size g c.heap.size [(c.heap.size+1,.cells #[(bA g j).v] 341),(c.heap.size+2,.cells #[.map (some c.heap.size)] 149)] d 0 [] (bA g j).bs [c.heap.size+2,c.heap.size+1,c.heap.size,g,e.heap.size] [] [] (.slice none 0 0) c7 i):=by
  refine⟨c4.ak Zq,b8,?_,?_,?_,(by intro j2 g1;cases g1),?_,d7,(D.L _ (au c1) Zq).trans c1,?_,⟨rfl,Y8 ⟨rfl,rfl⟩⟩,?_⟩
  .simp
  .simp;omega
  .intro l3 h3;simp at h3;omega
  .have f4:eC g [] c:=a7;exact f4.ac D Zq
  .simp_all
  .intro t O;simp only[bA,Yc]at O;subst O;refine⟨(D.L _ d6 Zq).trans c2,?_⟩;have j5:=f.w.kp.aD;have j6:w.heap.size+1<e.heap.size:=au (f.w.ap (w.heap.size+1,.cells #[.string ⟨#[]⟩,.int .i64 0,.slice none 0 0,.int .i64 0] 367) Zq).1;simp[Ad.aw];refine⟨Zm,Zm,Zm,Zm,Zm,Zm,Zm,?_⟩;intro M;have:=h.a3 _ M;omega
 have c5:=bS ((c4.L _ a3 Zq).trans P);rw[m]at c5;clear b8 e2 d7 f8 g3 c1 a7 c2 L b5 D b7 d6 d9 f7 g6;dsimp only[dU.v,bA]at c5;go_wp21;rw[show ((c.alloc (.map #[] 0)).alloc (.cells #[.func (.func 251) #[] #[Zp j]] 341)).alloc (.cells #[.map (some c.heap.size)] 149)=i from m.symm];have c8:BG (a.aw [w.heap.size+1,w.heap.size]) k e ⟨e.heap.size,w.heap.size,c.heap.size+1,c.heap.size+2,g,c.heap.size,j⟩ d 0 [c.heap.size+2,c.heap.size+1,c.heap.size,g,e.heap.size] ([],([],[])) c7 i:=⟨rfl,_,c9.w⟩;refine(Cs 8 (aet f.w.rd ⟨e.heap.size,w.heap.size,c.heap.size+1,c.heap.size+2,g,c.heap.size,j⟩ P e4 d) Zm c8).mono ?_;rintro K i9 (⟨d1,⟨u,l0,k8⟩,l5,a2,rfl,k7,b6,d5,k9,a8⟩|⟨a6,a2,b6,a4,p,rfl,q⟩);rotate_left
 .exact aE (zf (f.w.kp.u (b6.ak (by simp[Ad.aw]))) f.w.kp (H.w.trans (bR (cZ (yA a2)))) p q)
 dsimp only at d5 a8;have k5:u.length<=8:=Zm;clear d5 b6;have d3:fW ((a.aw [w.heap.size+1,w.heap.size]).aw d1) a:=⟨rfl,rfl,rfl,rfl⟩;have n:an [a.R,a.S,a.N] e i9:=a8.kp;have i4:=bS ((n.L _ a3 e4).trans P);have g5:nq ∉ [a.R,a.S,a.N]:=by simp;exact⟨r.2.1,r.2.2.1,r.2.2.2.1⟩
 have g7:b ∉ [a.R,a.S,a.N]:=by simp;exact⟨s.2.1,s.2.2.1,s.2.2.2.1⟩
 have d8:=f.w.aR.ac n g5;have g0:dK ((a.aw [w.heap.size+1,w.heap.size]).aw d1) nq:=(r.aw _).aw _;have x:=aa a8;clear c9 c8 c5 m c4 h1 b9 c0;go_wp21;refine(Hj d3 x.w.rd g0 d8).mono ?_;rintro K j0 ⟨A,⟨C,e7,e9,c3,rfl,e3,d4⟩|⟨a6,c3,a4,p,rfl,q⟩⟩;rotate_left
 .exact aE (zf ((f.w.kp.u (n.ak Zq)).u (A.ak Zq)) (f.w.kp.u (n.ak (M':=[a.R,a.S,a.N,b,nq]) Zq)) (H.w.trans ((bf (bF (tA a2))).trans (bR (yn c3)))) p q)
 have j9:=h.lt.2.1;have k0:=h.a3 _ r.1;have b7:=h.a3 _ s.1;have a9:=(f.w.ap (w.heap.size+1,.cells #[.string ⟨#[]⟩,.int .i64 0,.slice none 0 0,.int .i64 0] 367) Zq).1;have h7:=au a9;have f5:w.heap.size+1 ∉ [a.R,a.S,a.N]:=by obtain⟨h4,h5,a3,h6⟩:=h.lt;grind
 have b0:=(n.L _ h7 f5).trans a9;have b1:=(A.L _ (au b0) Zg).trans b0;have b2:=(A.L _ (au x.w.ap) Zx).trans x.w.ap;obtain⟨h8,h9,i0,i1⟩:=nB b1;have j7:=xO b1;obtain⟨i5,i6,i7,i8⟩:=nB b2;have j8:=xO b2;obtain⟨ad,a5,rfl⟩:=x.w.cS;have f0:af (mf k (F,y) G=.ok (⟨d.1,d.2,u,C⟩,(c6,e7),e9)):=H.w.trans ((bf (bF (tA a2))).trans ((bf (yo c3)).trans rfl));have k3:¬e.heap.size=w.heap.size+1:=Zm;have k4:¬w.heap.size+1=e.heap.size:=Zm;have I:=aa A;have f2:=aa e3;have f1:=aa d4;clear A e3 d4 H a9 b0 d8 i4 b1 b2;dsimp only[kW];go_wp2;have E:=((((ao [e.heap.size,w.heap.size+1] j0).aH (p:=⟨e.heap.size,3,none⟩) Zq (.int .i64 C)).aH (p:=⟨w.heap.size+1,0,none⟩) Zq (.string ⟨d.1.toArray⟩)).aH (p:=⟨w.heap.size+1,1,none⟩) Zq (.int .i64 d.2)).aH (p:=⟨w.heap.size+1,2,none⟩) Zq (.slice ad u.length a5) |>.aH (p:=⟨w.heap.size+1,3,none⟩) Zq (.int .i64 C);obtain⟨f3,h2,f6⟩:=x.w.j3 Zm (UB u) Zu;have g9:=h.b1 d3 f2.w E (by
  intro j1 a0;simp only[Yg,List.not_mem_nil,or_false]at a0;rcases a0 with rfl|rfl
  .exact⟨Zm,Yf _ (x.w.az _ Zq)⟩
  grind [Ad.aw])
 have g8:=mx h.az (mx f.w.rd.az g9);refine bodyPost_ret (v:=.agg #[.string ⟨d.1.toArray⟩,.int .i64 d.2,.slice ad u.length a5,.int .i64 C]) (by simp[results,results203,go_sem,h8,h9,i0,i1,i5,i6,i7,i8]) rfl ⟨?_,Y8 ⟨⟨d.1,d.2,u,C⟩,c6,e7,e9,.slice ad u.length a5,f3,f0.w,rfl,g8,?_,?_,h2,?_⟩⟩
 .refine(((f.w.kp.u (n.ak Zq)).u (I.w.ak Zq)).b1 E ?_);intro j1 a0;simp only[Yg,List.not_mem_nil,or_false]at a0;omega
 .exact((f.w.a5.ac n g7).ac I.w Zu).ac E Zg
 .exact f1.w.ac E Zg
 .intro t O;obtain⟨d2,j3,j4⟩:=f6 t O;have e8:=au d2;refine⟨(E.L _ (Yr e8 I.w.aD) Zg).trans ((I.w.L _ e8 Zx).trans d2),?_⟩;intro M;have:=h.a3 _ M;omega
end
section
variable {b g:Ad}{f:Mar.ay}{j:List (Int×Int)}{p:Int->Bool}{e:List fH}{i:gi}{d:Zw}{c h:St}
def Rd.p5{o l}(a:Rd b o c d)(f:an [b.P] d l)(g:dH b.P j l):Rd b o { c with am:=j } l:=by
 obtain⟨E,F,L,M⟩:=a.lt;obtain⟨I,J,r,K,s,t⟩:=a.ca;have A:d.heap[b.P]? = some (.map (c.am.mapIdx λC p=>(⟨U p.1,U p.2,C⟩:MapEntry)).toArray c.am.length):=a.pr;have i:∀h v,d.cell? (Zd h 0)=some v->h≠b.P:=by
  intro h v k u;subst u;unfold World.cell? at k;rw[A]at k;cases k
 obtain⟨⟨N,w⟩,⟨_,_,x⟩,⟨_,_,y⟩⟩:=id a.gl;refine⟨(f.L _ E (by simp;exact r)).trans a.me,?_,a.nm.ac f (by simp;exact a.az.2.2.2) (by simp;exact t),a.az,λm B=>Yr (a.a3 m B) f.aD,g,a.np,a.gl.ac f (by simp[i _ _ w]) (by simp[i _ _ x]) (by simp[i _ _ y]),a.dO,a.bc⟩;obtain⟨z,e⟩:=a.sc;refine⟨z,?_⟩;have n:=f.L _ F (by simp;exact s);show match c.nx with|some m=>_|none=>_
 cases g:c.nx with
 |some m=>rw[g]at e;exact n.trans e
 |none=>rw[g]at e;obtain⟨D,H,G,q,e⟩:=e;exact⟨D,H,G,q,n.trans e⟩
def qC(d:Za)(p:Int->Bool):PM Int:=λc=>match hx d p c.am c with
 |.ok (b,a,h)=>.ok (b,{ h with am:=a })
 |.error f=>.error f
def DN{d}{b:Int}{a:List (Int×Int)}(e:hx d p c.am c=.ok (b,a,h)):qC d p c=.ok (b,{ h with am:=a }):=by simp only[qC,e]
theorem AJ{a}(b:hx a p c.am c=.error f):qC a p c=.error f:=by simp only[qC,b]
def WW{o v}(k:Rd b o c d)(y:iS b.X v p d) :
  Calls prog 250 #[Zp b.R,.map (some b.P),v] d (eR [b.S,b.P] b o d (qC o p c) kW):=by
 have t:=aa (Mu k y);have q:dH b.P c.am d:=k.pr;have z:b.P ∉ [b.S]:=by simp;exact λj=>k.ca.2.2.2.2.1 j.symm
 go_in;go_wp21;refine t.w.mono ?_;rintro j E ⟨e,⟨B,G,h,rfl,A⟩|⟨f,h,x,l,rfl,m⟩⟩;rotate_left
 .exact aE (fC (e.ak Zq) (ao [] _) (AJ (bR (cZ h))) l m)
 have r:=q.ac e z;have i:=aa (e.ak (M':=[b.S,b.P]) Zq);clear e q;go_wp21;refine(LV _ _ r).mono ?_;rintro j F ⟨g,⟨C,D,n,rfl,rfl,s⟩|⟨f,n,x,l,rfl,m⟩⟩;rotate_left
 .exact aE (fC (i.w.u (g.ak Zq)) i.w (AJ ((bf (bF h)).trans (bR (wx n)))) l m)
 have w:=aa (A.p5 g s);have u:=aa (i.w.u (g.ak (M':=[b.S,b.P]) Zq));clear r g s;go_wp2;go_ret;exact gX (a:=B.1) u.w (DN ((bf (bF h)).trans (bf (wy n)))) rfl w.w
def rM(a:Za):PM Int:=aM (cI a [61]) λ_=>aM (qC a (dV 0 4294967295)) λb=>aM (cI a [59]) λ_=>ret b
def Rz{q}(y:Rd b q c d) :
  Calls prog 204 #[Zp b.R,.map (some b.P)] d (eR [b.S,b.P] b q d (rM q c) kW):=by
 go_in;go_wp21;refine(vX _ y).mono ?_;rintro k D ⟨n,⟨H,J,h,rfl,x⟩|⟨f,h,r,e,rfl,g⟩⟩;rotate_left
 .exact aE (fC (n.ak Zq) (ao [] _) (bO h) e g)
 have s:=n.ak (M':=[b.S,b.P]) Zq;clear n;go_wp21;refine(vl _ _ _).mono ?_;rintro k E ⟨v,rfl,m,u⟩;have t:=u b.X x.a3;have z:=x.ah m;have i:=s.u (bT _ m);clear u m s;go_wp21;refine(WW z t).mono ?_;rintro k F ⟨o,⟨C,K,j,rfl,A⟩|⟨f,j,r,e,rfl,g⟩⟩;rotate_left
 .exact aE (fC (i.u o) i ((aK h).trans (bO j)) e g)
 have l:=i.u o;clear t i o;dsimp only[kW];go_wp21;refine(vX _ A).mono ?_;rintro k G ⟨w,⟨I,L,p,rfl,B⟩|⟨f,p,r,e,rfl,g⟩⟩;rotate_left
 .exact aE (fC (l.u (w.ak Zq)) l ((aK h).trans ((aK j).trans (bO p))) e g)
 go_wp2;go_ret;exact gX (a:=C) (l.u (w.ak Zq)) ((aK h).trans ((aK j).trans (aK p))) rfl B
def RA(a:fW g b){e}(f:Rd g e c d) :
  Calls prog 204 #[Zp b.R,.map (some b.P)] d (eR [b.S,b.P] g e d (rM e c) kW):=by
 have:=Rz f;rw[a.1,a.2.1,a.2.2.2]at this;exact this
def TS:(prog.info? 367).map (λa=>(a.zero,a.size,a.bytes))=some (some (.agg #[.string ⟨#[]⟩,U 0,.slice none 0 0,U 0]),4,56):=Zk
def mX(d:Za):PX (List fH×gi) Unit:=λp c=>match mf d p.2 c with
 |.ok (a,b,h)=>.ok ((),(p.1++[a],b),h)
 |.error f=>.error f
def DX{d}{b:gi}{a:fH}(f:mf d i c=.ok (a,b,h)):mX d (e,i) c=.ok ((),(e++[a],b),h):=by simp only[mX,f]
theorem DW{a}(b:mf a i c=.error f):mX a (e,i) c=.error f:=by simp only[mX,b]
structure xe where
 D:Nat
 db:Nat
 rb:Nat
 cb:Nat
 nb:Nat
 q:Nat
 nq:Nat
 bx:Nat
abbrev xe.E(a:xe):Zo:=[(a.db,.cells #[Zp a.D] 233),(a.cb,.cells #[(bA a.q a.bx).v] 341),(a.nb,.cells #[.map (some a.nq)] 149)]
abbrev tK(p:fH×Zv):Zl:=pu p.1.t p.1.y++[p.2,U p.1.num]
def AO(b:Ad)(l:Za)(d:Zw)(a:xe)(j:Zb×Nat)(i:Nat)(h:List Nat)(p:List fH×gi)(c:St)(m:Zw):Prop:=p.1.length=i/\
 ∃(k:Zv) (f:Zl) (g:Zo),gz b l d 267 367 4 a.D a.q a.nq a.E j p.1.length ((p.1.zip f).flatMap tK) ((bA a.q a.bx).bs++g) h p.2.1 p.2.2 k c m/\f.length=p.1.length/\
  ∀e (n:e<p.1.length) (o:e<f.length),hn g 446 f[e] p.1[e].aq.length (p.1[e].aq.flatMap qF)
def aeo(i:fW g b){e a bx nq f}(h:Rd g e c d)(o:dK g a)(m:dK g nq)(n:a≠nq)(p:eC a f d)(k:bW g.X (bA a bx).bs d)(l:dH nq j d) :
  Calls prog 203 #[Zp b.R,(bA a bx).v,.map (some nq)] d (BT g e d a nq (mf e (f,j) c)):=by
 have:=aen h o m n p k l;rw[i.1]at this;exact this
def Xo(f:fH)(c:Option Addr)(d e:Nat):∀b∈tK (f,.slice c d e),b.oneCell'=true:=by
 intro b a;simp at a;rcases a with rfl|rfl|rfl|rfl<;>rfl
theorem ZC{C A}{a:xe}{b6}{a4:Nat}{F e4}(x:Rd b C e4 d)(b5:d.heap[a.rb]? = some (.cells #[Zp b.R] 145))(d8:a.rb ∉ [b.R,b.S,b.N])(b2:a4<1000)(c9:AO b C d a b6 a4 F (e,i) c A) :
  Calls prog 202 #[Zp a.db,Zp a.rb,Zp a.cb,Zp a.nb] A (nj b d (AO b C d a b6 (a4+1)) (mX C (e,i) c)):=by
 obtain⟨P,h1,u,c4,l,y,M⟩:=c9;obtain⟨h2,j⟩:=i;dsimp only at P l y M;have c2:=aa P;have b9:=aa y;have c0:=aa M;have f7:e.length<1000:=Zm;clear P y M;obtain⟨ad,a8,rfl⟩:=l.cS;have b4:=au b5;have a2:=λ(v:Zw) (b2:an [b.R,b.S,b.N] d v)=>bS ((b2.L _ b4 d8).trans b5);have a5:=aa a2;obtain⟨h3,h4,h5,h6⟩:=nB l.ap;have g8:=a2 _ l.kp;have f1:=bS (l.es (a.db,.cells #[Zp a.D] 233) Zq);have e7:=bS (l.es (a.cb,.cells #[(bA a.q a.bx).v] 341) Zq);have g5:=bS (l.es (a.nb,.cells #[.map (some a.nq)] 149) Zq);have d1:Below A.heap.size A A.drew:=(Below.refl ..).drew;have h:=aa (l.ah x d1);have b8:=aa (aeo (bx:=a.bx) (du b F) h.w.rd (h.w.bk x (h.w.az a.q Zq)) (h.w.bk x (h.w.az a.nq Zq)) h.w.ca.2.2.1 h.w.a5 (λp z=>h.w.d7 p (Yf _ z)) h.w.aR);have d3:(e.length+1)*56<=140737488355328:=Zm;clear l a2;go_in;go_wp21;refine cy (λB=>B.cell? (Zd a.D 2)=some (.slice ad e.length a8)/\B.cell? (Zd a.db 0)=some (Zp a.D)/\B.cell? (Zd a.rb 0)=some (Zp b.R)/\B.cell? (Zd a.cb 0)=some (bA a.q a.bx).v/\B.cell? (Zd a.nb 0)=some (.map (some a.nq))) ?_ λJ=>?_
 .go_keep
 refine bI [0,1,2,3,4,5,6,7] ?_;iterate 8 (refine bK ?_)
 refine bJ ?_;refine cx 8 λm k=>?_;(go_simp;go_at_call 203;refine b8.w.mono ?_;rintro f4 E ⟨b3,⟨w,e2,e1,e5,c7,a7,a3,rfl,d7,d9,d5,a1,b0⟩|⟨f,a3,a6,d0,rfl,d2⟩⟩;rotate_left;exact aE (pR (h.w.kp.b1 b3 (by intro b7 e0;have:=h.w.aB _ (h.w.az a.q Zq);have:=h.w.aB _ (h.w.az a.nq Zq);grind [Ad.aw])) h.w.kp (DW a3) d0 d2);have g:=aa (h.w.bm x b3 (by grind [Ad.aw]) d7 d9 d5);obtain⟨r,t,s,rfl⟩:∃a a6 c5,c7=.slice a a6 c5:=(by rcases a1 with⟨rfl,_⟩|⟨G,a8,f0,rfl,_⟩<;>exact⟨_,_,_,rfl⟩);have c1:=aa b0;have c3:=aa a1;clear b0 a1;obtain⟨h7,h8,h9,i0⟩:=nB g.w.ap;have g9:=a5.w _ g.w.kp;have L:=g.w.es (a.db,.cells #[Zp a.D] 233) Zq;have K:=g.w.es (a.cb,.cells #[(bA a.q a.bx).v] 341) Zq;have a0:=g.w.es (a.nb,.cells #[.map (some a.nq)] 149) Zq;have f2:=bS L;have e8:=bS K;have g6:=bS a0;have g0:=au g.w.ap;have g4:=Yr b4 g.w.kp.aD;have g2:=au L;have g1:=au K;have g3:=au a0;have f9:=g.w.kp.aD;clear L K a0);refine k.out _ _ ?_ (λJ=>?_)
 .go_keep
 clear k m;refine nz ?_;refine cx 9 λm k=>?_;go_simp;refine k.out _ _ ?_ (λJ=>?_)
 .go_keep
 clear k m;refine nz ?_;refine cx 10 λm k=>?_;(refine mC TS underlying265 (g.w.h7 _) (tK (w,.slice r t s)) (heap_alloc_new E _) (Xo w r t s) d3 Zx (H:=E.heap.size+1) Zq ?_;intro G c6 e3 d6 n f6 d4;obtain⟨i1,i2,i3,i4⟩:=nB (g.w.f1 n);have f8:=xO (g.w.f1 n);have f3:=bS (g.w.i4 n (p:=(a.db,.cells #[Zp a.D] 233)) Zq);have e9:=bS (g.w.i4 n (p:=(a.cb,.cells #[(bA a.q a.bx).v] 341)) Zq);have g7:=bS (g.w.i4 n (p:=(a.nb,.cells #[.map (some a.nq)] 149)) Zq);have h0:e3.cell? (Zd a.rb 0)=some (Zp b.R):=a5.w _ (((g.w.kp.H _)).b1 (gt n) (by intro b7 e0;have I:=g.w.ae b7 Zg;exact Ya (g.w.aB _ I.1))));refine k.out _ _ ?_ (λJ=>?_)
 .go_keep
 clear k m;refine nz ?_;refine bI [11,12] ?_;iterate 2 (refine bK ?_)
 refine bJ ?_;refine cw λm k=>?_;go_simp;refine k.out _ _ ?_;clear k m;refine nz ?_;have e6:=Fv (bs':=a7) x g.w c1.w ((Below.refl E.heap.size E).alloc (Y4 _) _) d6 n Zu d4;go_wp2;go_end0;have y:=b9.w;refine Y8 ⟨G::F,(e++[w],(e2,e1)),e5,DX a3,rfl,by simp[c2.w],.slice (some ⟨G,0,none⟩) (e.length+1) c6,u++[.slice r t s],c4++a7,?_,Zg,?_⟩
 .have a9:((e++[w]).zip (u++[.slice r t s])).flatMap tK=(e.zip u).flatMap tK++tK (w,.slice r t s):=by
   rw[List.zip_append y.symm,YK];simp
  simp_all
 .intro o I f5;dsimp only at I ⊢;by_cases b1:o<e.length
  .have O:o<u.length:=Zm;rw[List.getElem_append_left O,List.getElem_append_left b1];exact(c0.w o b1 O).ak (λp z=>Yf _ z)
  .have O:o=e.length:=Zg;rw[List.getElem_append_right Zm,List.getElem_append_right Zm];have a9:o-e.length=0:=Zm;have c8:o-u.length=0:=Zm;simp only[a9,c8,List.getElem_cons_zero];exact c3.w.ak (λp z=>Ym _ z)
end
def ZD(args:Array Zv)(a:Zw):(callFunc 202 args).run prog a=.ok (.enter 202 args) a:=Zk
def XO{A c p d}(i:Rd A c p d)(a:xe)(q:d.heap[a.rb]? = some (.cells #[Zp A.R] 145))(r:a.rb ∉ [A.R,A.S,A.N])(n:Zb×Nat):zj (List fH×gi) A c d 4 where
 f:=202
 jN:=#[Zp a.db,Zp a.rb,Zp a.cb,Zp a.nb]
 bb:=mX c
 J:=AO A c d a n
 d1:=ZD
 rd:=by rintro _ _ _ _ _ ⟨_,_,_,_,b,_⟩;exact b.rd
 kp:=by rintro _ _ _ _ _ ⟨_,_,_,_,b,_⟩;exact b.kp
 b3:=by rintro _ _ _ _ _ _ _ ⟨h,o,g,e,b,j,k⟩ l m;exact⟨h,o,g,e,b.b3 i l m,j,k⟩
 call:=by
  grind [ZC]
def qG(a:Za)(b:Zb×Nat):PM aC:=aM (kZ (fp a 4 (mX a)) ([],([],[]))) λd=>aM (rM a) λc=>ret (.prog b.1 b.2 d.1 c)
def jZ(a:Za)(c:Nat):PM aC:=aM (λb=>ft b.am.length 4 c b) λ_=>aM (iK a) (qG a)
def UC:∀a:List (fH×Zv),(a.flatMap tK).length=a.length*4:=by
 intro a;induction a<;>grind
def ZE{A u f}(y:Nat){w}(n:Rd A u f w) :
  Calls prog 124 #[Zp A.R,U y] w (it [A.R,A.S,A.N,A.P] A u w (jZ u y f)):=by
 have j0:=je;have j1:=mS;have a7:=n.ae (.cells #[Zp A.R] 145);have b1:=aQ (w:=w) (o:=.cells #[Zp A.R] 145) rfl;obtain⟨k2,k3,k4,k5⟩:=n.lt;have i1:=bS b1;have i7:(w.alloc (.cells #[Zp A.R] 145)).cell? (Zd A.R 4)=some (.map (some A.P)):=a7.al.2.2.2.2.1;have j6:=Kf (show dH A.P f.am (w.alloc (.cells #[Zp A.R] 145))from a7.pr);go_in;go_wp21;by_cases d2:4<=f.am.length
 .refine(uV _ _ _ _ Zm).mono ?_;rintro g h6 ⟨⟨p,r,rfl,s⟩,c7⟩;exact aE (eI (f:=⟨5,y⟩) (((ao _ w).H _).u (bT _ c7)) ((ao [] w).H _) (bO (show ft f.am.length 4 y f=_ from Y9 d2)) r s)
 have d9:(λf:St=>ft f.am.length 4 y f) f=.ok ((),f):=Y2 d2;refine(uW _ _ _ _ Zm).mono ?_;rintro g h6 ⟨rfl,rfl⟩;go_wp21;refine(JJ (fX A _) a7).mono ?_;rintro g a ⟨a4,⟨c,b7,b2,rfl,a8⟩|⟨a2,b2,p,r,rfl,s⟩⟩;rotate_left
 .exact aE (eI (((ao _ w).H _).u (a4.ak Zq)) ((ao [] w).H _) ((aK d9).trans (bO b2)) r s)
 have E:an [A.R,A.S,A.N] w a:=((ao _ w).H _).u (a4.ak Zq);have H:=(a4.L _ (au b1) Zg).trans b1;have b4:=au H;have a1:af (jZ u y f=qG u c b7):=(aK d9).trans (aK b2);have b0:w.heap.size ∉ [A.R,A.S,A.N]:=Zg;dsimp only[il];go_wp21;obtain⟨x,G⟩:∃x,x=(a.alloc (.cells #[.string ⟨c.1.toArray⟩,U c.2,.slice none 0 0,U 0] 267)).alloc (.cells #[Zp a.heap.size] 233):=⟨_,rfl⟩;rw[<-G];have d6:(a.alloc (.cells #[.string ⟨c.1.toArray⟩,U c.2,.slice none 0 0,U 0] 267)).heap.size=a.heap.size+1:=Zq;have d4:=(a8.ae (.cells #[.string ⟨c.1.toArray⟩,U c.2,.slice none 0 0,U 0] 267)).ae (.cells #[Zp a.heap.size] 233);rw[d6,<-G]at d4;have j9:x.heap.size=a.heap.size+2:=Zu;have g4:an [] a x:=by rw[G];exact((ao [] a).H _).H _
 have c4:x.heap[a.heap.size]? = some (.cells #[.string ⟨c.1.toArray⟩,U c.2,.slice none 0 0,U 0] 267):=by
  rw[G];exact(((ao [] _).H _).L _ Zm Zq).trans (aQ rfl)
 have c9:x.heap[a.heap.size+1]? = some (.cells #[Zp a.heap.size] 233):=by
  rw[G];exact aQ d6.symm
 refine(zv _).mono ?_;rintro g b ⟨e,j,rfl,g9,i6,j8,c6,a3,e0⟩;dsimp only[dU.v,bA];have g6:e<b.heap.size:=by
  obtain⟨_,_,_,t⟩:=id c6;grind
 have g7:=au e0;have k0:=a3.size;have a5:=bT [] a3;have h0:=d4.j8 a3 g9 g6;have c5:=(a5.L _ (au c4) Zq).trans c4;have d0:=(a5.L _ (au c9) Zq).trans c9;obtain⟨h,q⟩:∃h,h=((b.alloc (.map #[] 0)).alloc (.cells #[(bA e j).v] 341)).alloc (.cells #[.map (some b.heap.size)] 149):=⟨_,rfl⟩;have d7:(b.alloc (.map #[] 0)).heap.size=b.heap.size+1:=Zq;have d8:((b.alloc (.map #[] 0)).alloc (.cells #[(bA e j).v] 341)).heap.size=b.heap.size+2:=Zq;have d5:=((h0.ae (.map #[] 0)).ae (.cells #[(bA e j).v] 341)).ae (.cells #[.map (some b.heap.size)] 149);rw[d7,d8,<-q]at d5;have I:an [] b h:=by rw[q];exact(((ao [] b).H _).H _).H _
 have g8:h.heap[b.heap.size]? = some (.map #[] 0):=by
  rw[q];exact((((ao [] _).H _).H _).L _ Zm Zq).trans (aQ rfl)
 have i8:h.heap[b.heap.size+1]? = some (.cells #[(bA e j).v] 341):=by
  rw[q];exact(((ao [] _).H _).L _ Zm Zq).trans (aQ d7.symm)
 have j2:h.heap[b.heap.size+2]? = some (.cells #[.map (some b.heap.size)] 149):=by
  rw[q];exact aQ d8.symm
 have e2:an [] a h:=(g4.u a5).u I;have f1:af (gz (A.aw [w.heap.size]) u a 267 367 4 a.heap.size e b.heap.size [(a.heap.size+1,.cells #[Zp a.heap.size] 233),(b.heap.size+1,.cells #[(bA e j).v] 341),(b.heap.size+2,.cells #[.map (some b.heap.size)] 149)] c 0 [] ((bA e j).bs++[]) [b.heap.size+2,b.heap.size+1,b.heap.size,e,a.heap.size+1,a.heap.size] [] [] (.slice none 0 0) b7 h):=by
  refine⟨e2.ak Zq,d5,?_,?_,?_,(by intro i4 g3;cases g3),?_,g8,(I.L _ (au c5) Zq).trans c5,?_,⟨rfl,Y8 ⟨rfl,rfl⟩⟩,?_⟩
  .simp
  .simp;omega
  .intro l6 h5;simp at h5;omega
  .have f8:eC e [] b:=c6;exact f8.ac I Zq
  .intro i d;simp only[Yg,List.not_mem_nil,or_false]at d;rcases d with rfl|rfl|rfl
   .exact(I.L _ (au d0) Zq).trans d0
   all_goals omega
  .intro i d;simp only[bA,YH,Yc]at d;subst d;refine⟨(I.L _ g7 Zq).trans e0,?_⟩;simp[Ad.aw];refine⟨Zm,Zm,Zm,Zm,Zm,Zm,Zm,?_⟩;intro t;have:=n.a3 _ t;omega
 have e4:=bS ((e2.L _ b4 Zq).trans H);rw[q]at e4;dsimp only[dU.v,bA]at e4;go_wp21;rw[show ((b.alloc (.map #[] 0)).alloc (.cells #[.func (.func 251) #[] #[Zp j]] 341)).alloc (.cells #[.map (some b.heap.size)] 149)=h from q.symm];have e9:AO (A.aw [w.heap.size]) u a ⟨a.heap.size,a.heap.size+1,w.heap.size,b.heap.size+1,b.heap.size+2,e,b.heap.size,j⟩ c 0 [b.heap.size+2,b.heap.size+1,b.heap.size,e,a.heap.size+1,a.heap.size] ([],([],[])) b7 h:=⟨rfl,_,[],[],f1.w,rfl,Zq⟩;refine(Cs 4 (XO (A:=A.aw [w.heap.size]) a8 ⟨a.heap.size,a.heap.size+1,w.heap.size,b.heap.size+1,b.heap.size+2,e,b.heap.size,j⟩ H b0 c) Zm e9).mono ?_;rintro g l (⟨b9,⟨e3,l1,k6⟩,l7,M,rfl,k1,d3,g5,b5,f4,f2,k,c8,d1⟩|⟨a2,M,d3,p,r,rfl,s⟩);rotate_left
 .exact aE (eI ((E.ak Zq).u (d3.ak (by simp[Ad.aw]))) E (a1.w.trans (bO (yA M))) r s)
 dsimp only at g5 k c8 d1;have j7:e3.length<=4:=Zm;have c3:fW ((A.aw [w.heap.size]).aw b9) A:=⟨rfl,rfl,rfl,rfl⟩;have F:an [A.R,A.S,A.N] a l:=k.kp;have l0:=bS ((F.L _ b4 b0).trans H);have i3:=bS (k.es (a.heap.size+1,.cells #[Zp a.heap.size] 233) Zq);have h8:l.cell? (Zd A.R 4)=some (.map (some A.P)):=k.rd.al.2.2.2.2.1;have K:=aa k;have b8:=aa c8;have e8:=aa d1;have g0:Below l.heap.size l l.drew:=(Below.refl ..).drew;have e7:=aa (RA c3 (k.rd.ah g0));go_wp21;have j3:¬a.heap.size=A.R:=Zm;have j4:¬a.heap.size=w.heap.size:=Zm;have j5:¬a.heap.size=a.heap.size+1:=Zm;have f9:∀m,an [A.S,A.P] l.drew m->m.cell? ⟨a.heap.size+1,0,none⟩=some (Zp a.heap.size)/\m.cell? (Zd w.heap.size 0)=some (Zp A.R)/\
   m.heap[a.heap.size]? = some (.cells #[.string ⟨c.1.toArray⟩,U c.2,b5,U 0] 267):=by
  intro m z;have a6:=((ao _ l).aU).u z;have c0:=k.es (a.heap.size+1,.cells #[Zp a.heap.size] 233) Zq;have c1:=(F.L _ b4 b0).trans H;exact⟨bS ((a6.L _ (au c0) Zg).trans c0),bS ((a6.L _ (au c1) Zg).trans c1),(a6.L _ (au k.ap) Zg).trans k.ap⟩
 have e5:=aa f9;go_region_held2 (λb6=>b6.cell? ⟨a.heap.size+1,0,none⟩=some (Zp a.heap.size)/\b6.cell? (Zd w.heap.size 0)=some (Zp A.R)/\b6.cell? (Zd A.R 4)=some (.map (some A.P))) (go_keep)
  (first
   |(go_at_call 204;refine e7.w.mono ?_;rintro g m ⟨z,⟨O,h7,b3,rfl,a9⟩|⟨a2,b3,p,r,rfl,s⟩⟩;rotate_left;exact aE (eI (((E.ak Zq).u (F.ak Zq)).u (((ao _ l).aU).u (z.ak Zq))) (E.u F) (a1.w.trans ((aK (tA M)).trans (bO b3))) r s);obtain⟨i2,i0,L⟩:=e5.w m z;have h9:m.cell? ⟨A.R,4,none⟩=some (.map (some A.P)):=a9.al.2.2.2.2.1;obtain⟨l2,l3,l4,l5⟩:=nB L;have i9:=xO L;have B:=aa (((ao [A.S,A.P] l).aU).u z);have f0:=aa a9;have e6:=aa L;clear z a9 L;dsimp only[kW]))
 all_goals
  go_wp2
  go_ret
  have a0:=(ao [a.heap.size] m).aH (p:=⟨a.heap.size,3,none⟩) Zq (U O)
  obtain⟨f3,h3,g2⟩:=K.w.j3 Zm (by rw[UC,List.length_zip,b8.w,Nat.min_self]) (by intro n;rw[Yv.1 n];rfl)
  have f7:a.heap.size∈((A.aw [w.heap.size]).aw b9).X:=Yf _ (K.w.az _ Zq)
  have h2:=n.b1 c3 f0.w a0 (by
   grind)
  have h1:=mx n.az (mx (A:=A.aw [w.heap.size]) a8.az h2)
  have g1:=bv (i:=3) e6.w (U O)
  have c2:∀p,w.heap.size<=p->p ∉ A.X:=λp c7 t=>by have:=n.a3 _ t;omega
  refine⟨?_,Y8 ⟨.prog c.1 c.2 e3 O,h7,a.heap.size,(a.heap.size,.cells #[.string ⟨c.1.toArray⟩,U c.2,b5,U O] 267)::(f3++f2),a1.w.trans ((aK (tA M)).trans ((aK b3).trans rfl)),rfl,h1,⟨b5,f4,Yb,b8.w,?_,?_⟩,?_⟩⟩
  .refine(((E.ak Zq).u (F.ak Zq)).u (B.w.ak Zq)).b1 a0 ?_;grind
  .exact h3.ak (λi d=>Y5 _ (Yf _ d))
  .intro e1 f5 f6;exact(e8.w e1 f5 f6).ak (λi d=>Y5 _ (Ym _ d))
  .intro i d;rcases Yg.1 d with rfl|d
   .exact⟨g1,c2 _ Zm⟩
   .rcases Yn.1 d with d|d
    .obtain⟨C,D,i5⟩:=g2 i d;have J:=au C;exact⟨(a0.L _ (Yr J B.w.aD) Zg).trans ((B.w.L _ J Zx).trans C),c2 _ Zm⟩
    .obtain⟨C,D⟩:=K.w.d7 i (Ym _ d);have J:=au C;have t:=K.w.rd.az;have k7:i.1≠A.S:=λg=>D (g▸t.2.1);have k8:i.1≠A.P:=λg=>D (g▸t.2.2.2);have k9:i.1≠a.heap.size:=λg=>D (g▸f7);exact⟨(a0.L _ (Yr J B.w.aD) Zg).trans ((B.w.L _ J Zx).trans C),λh4=>D (Ym _ (Ym _ h4))⟩
section
variable {c:Ad}{j:List Nat}{k:TypeId}{l:Nat}{b a:aC}{i:Except Mar.ay (aC×St)}{h g:Zw}{e d:St}
def fJ{f:Type}{c:PM f}{a:f->PM aC}(i:aM c a e=.ok (b,d))(j:∀g h,a g h=.ok (b,d)->dI b=k):dI b=k:=by
 cases l:c e<;>grind [bO,aK]
def wv{a}(c:ret a e=.ok (b,d))(f:dI a=k):dI b=k:=by
 grind [ret]
def Uj{c:Za}(b:ko c l e=.ok (a,d)):dI a=223:=
 fJ b λ_ _ b=>fJ b λ_ _ b=>fJ b λ_ _ b=>fJ b λ_ _ b=>fJ b λ_ _ b=>wv b rfl
def Up{c:Za}(b:kB c l e=.ok (a,d)):dI a=225:=
 fJ b λ_ _ b=>fJ b λ_ _ b=>fJ b λ_ _ b=>wv b rfl
def Um{h j}:∀(c:Nat) (g:List (Zb×Nat×Int)) (f:List (Int×Int)) (e d:St) (a:aC),iB h j c g f e=.ok (a,d)->dI a=227:=by
 intro c;induction c with
 |zero=>simp_all[iB,gU]
 |succ c n=>
  intro g f e d a b;cases i:jz h g.length f e with
  |error m=>simp_all[tj]
  |ok k=>
   obtain⟨p,o,q⟩:=k;rw[rW i]at b;refine fJ b λl r b=>?_;cases l with
   |true=>grind
   |false=>exact fJ b λ_ _ b=>fJ b λ_ _ b=>wv b rfl
def Uk{c:Za}(b:ik c l e=.ok (a,d)):dI a=227:=
 fJ b λ_ _ b=>fJ b λ_ _ b=>fJ b λ_ _ b=>Um _ _ _ _ _ _ b
def Uo{c:Za}(b:lf c l e=.ok (a,d)):dI a=229:=
 fJ b λ_ _ b=>fJ b λ_ _ b=>fJ b λ_ _ b=>fJ b λ_ _ b=>wv b rfl
def Uq{c:Za}(b:ez c l e=.ok (a,d)):dI a=231:=
 fJ b λ_ _ b=>fJ b λ_ _ b=>fJ b λ_ _ b=>fJ b λ_ _ b=>fJ b λ_ _ b=>fJ b λ_ _ b=>fJ b λ_ _ b=>fJ b λ_ _ b=>fJ b λ_ _ b=>fJ b λ_ _ b=>fJ b λ_ _ b=>wv b rfl
def Un{c:Za}(b:jZ c l e=.ok (a,d)):dI a=233:=
 fJ b λ_ _ b=>fJ b λ_ _ b=>fJ b λ_ _ b=>fJ b λ_ _ b=>wv b rfl
def eF(b:Za)(a:Mar.aX):PM aC:=
 if a.text==Je then ko b a.y
 else if a.text==Ja then kB b a.y
 else if a.text==Jo then ik b a.y
 else if a.text==Jf then lf b a.y
 else if a.text==Jh then ez b a.y
 else if a.text==Jc then jZ b a.y
 else gU 3 a.y
def ga(a:Za):PM aC:=aM (next a) (eF a)
def GY{b}{a:Mar.aX}(c:(a.text==Je)=true):eF b a=ko b a.y:=by simp_all[eF]
theorem GZ{b}{a:Mar.aX}(c:(a.text==Je)=false)(d:(a.text==Ja)=true):eF b a=kB b a.y:=by simp_all[eF]
theorem Ha{b}{a:Mar.aX}(c:(a.text==Je)=false)(d:(a.text==Ja)=false)(e:(a.text==Jo)=true):eF b a=ik b a.y:=by simp_all[eF]
theorem Hb{b}{a:Mar.aX}(c:(a.text==Je)=false)(d:(a.text==Ja)=false)(e:(a.text==Jo)=false)(f:(a.text==Jf)=true):eF b a=lf b a.y:=by simp_all[eF]
theorem Hc{b}{a:Mar.aX}(c:(a.text==Je)=false)(d:(a.text==Ja)=false)(e:(a.text==Jo)=false)(f:(a.text==Jf)=false)(g:(a.text==Jh)=true):eF b a=ez b a.y:=by simp_all[eF]
theorem Hd{b}{a:Mar.aX}(c:(a.text==Je)=false)(d:(a.text==Ja)=false)(e:(a.text==Jo)=false)(f:(a.text==Jf)=false)(g:(a.text==Jh)=false)(h:(a.text==Jc)=true):eF b a=jZ b a.y:=by simp_all[eF]
def QS{b}{a:Mar.aX}(c:(a.text==Je)=false)(d:(a.text==Ja)=false)(e:(a.text==Jo)=false)(f:(a.text==Jf)=false)(g:(a.text==Jh)=false)(h:(a.text==Jc)=false):eF b a=gU 3 a.y:=by simp_all[eF]
def zd(j:List Nat)(c:Ad)(l:Za)(h:Zw)(i:Except Mar.ay (aC×St))(k:Ending)(g:Zw):Prop:=
 an j h g/\((∃a d b f,i=.ok (a,d)/\k=.returned (.iface (dI a) (Zp b))/\Rd c l d g/\fB f b a/\bW c.X f g)\/(∃e,i=.error e/\fm h e.no e.y k g))
def su{M' m w1 f}{b:Nat}
  (e:an j h g) (k:an M' h w1) (l:i=.error f) (a:w1.heap.size<=b) (d:g.heap[b]? = some (.cells #[U f.no,U f.y] 179)) :
  zd j c m h i (.panicked [{ v:=.iface 143 (Zp b),recovered:=false }]) g:=⟨e,Ya ⟨f,l,b,Yz k.aD a,rfl,d⟩⟩
theorem vy{f b e}
  (p:an j h g) (q:i=.ok (a,d)) (m:dI a=k) (l:Rd c f d g) (n:fB e b a) (o:bW c.X e g):zd j c f h i (.returned (.iface k (Zp b))) g:=
 ⟨p,Y8 ⟨a,d,b,e,q,by rw[m],l,n,o⟩⟩
def QO{z}(A:Rd c z e h) :
  Calls prog 73 #[Zp c.R] h (zd [c.R,c.S,c.N,c.P] c z h (ga z e)):=by
 obtain⟨F,G,H,I,J,K⟩:=A.al;have D:=aa (uO A);go_in;go_wp21;refine D.w.mono ?_;rintro r C ⟨B,⟨m,d,y,rfl,E⟩|⟨s,y,b,k,rfl,l⟩⟩;rotate_left
 .exact aE (su (B.ak Zq) (ao [] _) (bO y) k l)
 have f:=aa ((B.H (.cells #[U m.F,Zs m.text,U m.n,U m.y] 154)).ak (M':=[c.R,c.S,c.N,c.P]) Zq);have Hx:=aa y;have t:=aa (E.ah ((Below.refl ..).alloc (Y4 _) (.cells #[U m.F,Zs m.text,U m.n,U m.y] 154)));dsimp only[dx];go_wp2_with (first
  |(go_at_call 70;refine(gZ _ _ _).mono ?_;rintro r g ⟨rfl,rfl⟩)
  |(go_at_call 119;refine(Qo _ t.w).mono ?_;rintro r w ⟨i,⟨a,x,u,v,j,rfl,q,o,p⟩|⟨s,j,b,k,rfl,l⟩⟩)
  |(go_at_call 120;refine(adU _ t.w).mono ?_;rintro r w ⟨i,⟨a,x,u,v,j,rfl,q,o,p⟩|⟨s,j,b,k,rfl,l⟩⟩)
  |(go_at_call 121;refine(RO _ t.w).mono ?_;rintro r w ⟨i,⟨a,x,u,v,j,rfl,q,o,p⟩|⟨s,j,b,k,rfl,l⟩⟩)
  |(go_at_call 122;refine(acX _ t.w).mono ?_;rintro r w ⟨i,⟨a,x,u,v,j,rfl,q,o,p⟩|⟨s,j,b,k,rfl,l⟩⟩)
  |(go_at_call 123;refine(ad1 _ t.w).mono ?_;rintro r w ⟨i,⟨a,x,u,v,j,rfl,q,o,p⟩|⟨s,j,b,k,rfl,l⟩⟩)
  |(go_at_call 124;refine(ZE _ t.w).mono ?_;rintro r w ⟨i,⟨a,x,u,v,j,rfl,q,o,p⟩|⟨s,j,b,k,rfl,l⟩⟩))
 .go_ret;exact vy (f.w.u (i.ak Zq)) ((aK Hx.w).trans (by rw[GY ‹_›];omega)) (Uj j) q o p
 .exact aE (su (f.w.u (i.ak Zq)) f.w ((aK Hx.w).trans (by rw[GY ‹_›];omega)) k l)
 .go_ret;exact vy (f.w.u (i.ak Zq)) ((aK Hx.w).trans (by simp_all[GZ])) (Up j) q o p
 .exact aE (su (f.w.u (i.ak Zq)) f.w ((aK Hx.w).trans (by simp_all[GZ])) k l)
 .go_ret;exact vy (f.w.u (i.ak Zq)) ((aK Hx.w).trans (by simp_all[Ha])) (Uk j) q o p
 .exact aE (su (f.w.u (i.ak Zq)) f.w ((aK Hx.w).trans (by simp_all[Ha])) k l)
 .go_ret;exact vy (f.w.u (i.ak Zq)) ((aK Hx.w).trans (by simp_all[Hb])) (Uo j) q o p
 .exact aE (su (f.w.u (i.ak Zq)) f.w ((aK Hx.w).trans (by simp_all[Hb])) k l)
 .go_ret;exact vy (f.w.u (i.ak Zq)) ((aK Hx.w).trans (by simp_all[Hc])) (Uq j) q o p
 .exact aE (su (f.w.u (i.ak Zq)) f.w ((aK Hx.w).trans (by simp_all[Hc])) k l)
 .go_ret;exact vy (f.w.u i) ((aK Hx.w).trans (by simp_all[Hd])) (Un j) q o p
 .exact aE (su (f.w.u i) f.w ((aK Hx.w).trans (by simp_all[Hd])) k l)
 .exact aE (su (M':=[c.R,c.S,c.N,c.P]) (w1:=C.alloc (.cells #[U m.F,Zs m.text,U m.n,U m.y] 154)) (f:=⟨3,m.y⟩) (f.w.H _) f.w ((aK Hx.w).trans (by rw[QS ‹_› ‹_› ‹_› ‹_› ‹_› ‹_›];rfl)) Zq (aQ Zq))
end
section
variable {P:Program}{b f g idx st t e:Nat}{d:TypeInfo}{a:Method}{c:Zw}
theorem Vq{name:String}(n:P.info? t=some d)(p:d.methods.find? (λa=>a.name==name)=some a)(r:a.path=#[⟨st,idx,true⟩])(l:a.func=some (f,false))
  {i} (v:P.underlying st=some (.struct i)) {h} (m:i[idx]? = some h) (u:h.type=e) (q:h.offset=0) {k} (w:P.underlying e=some (.struct k)) {j} (o:P.info? e=some j) (s:j.size≠0) :
  (method (g+1) t (Zp b) name).run P c=((loadVar e ⟨b,0,none⟩).run P c).andThen (λy x=>.ok (f,y) x):=by
 unfold method;simp only[Sem.run_bind,run_typeInfo _ n,Result.andThen_ok,p,r,l,follow,run_underlying v,m,Place.get,asAddr,fieldPlace,sizeOf,u,run_typeInfo _ o,Sem.run_pure,if_true,s,if_false,q,receiverAt,run_underlying w,Addr.add]
def Vr{o l p:Nat}{name:String}(v:P.info? t=some d)(z:d.methods.find? (λa=>a.name==name)=some a)(C:a.path=#[⟨st,idx,true⟩,⟨o,l,false⟩])(r:a.func=some (f,false))
  {j} (G:P.underlying st=some (.struct j)) {h} (s:j[idx]? = some h) (E:h.type=p) (A:h.offset=0) {n} (x:P.info? p=some n) (y:n.size≠0)
  {k} (H:P.underlying o=some (.struct k)) {i} (u:k[l]? = some i) (F:i.type=e) (B:i.offset=0) {q} (I:P.underlying e=some (.struct q)) {m} (w:P.info? e=some m) (D:m.size≠0) :
  (method (g+1) t (Zp b) name).run P c=((loadVar e ⟨b,0,none⟩).run P c).andThen (λK J=>.ok (f,K) J):=by
 unfold method;simp only[Sem.run_bind,run_typeInfo _ v,Result.andThen_ok,z,C,r,follow,run_underlying G,s,Place.get,asAddr,fieldPlace,sizeOf,E,run_typeInfo _ x,y,Sem.run_pure,if_true,if_false,A,run_underlying H,u,F,B,run_typeInfo _ w,D,receiverAt,run_underlying I,Addr.add,Ye]
def Em{t}{name:String}{p:Array FieldStep}{f:Option (FuncId×Bool)}(b:((P.info? t).bind λd=>d.methods.find? (λa=>a.name==name)).map (λa=>(a.path,a.func))=some (p,f)) :
  ∃d a,P.info? t=some d/\d.methods.find? (λa=>a.name==name)=some a/\a.path=p/\a.func=f:=by
 cases c:P.info? t<;>simp_all
def xK{o:Nat}(d:((P.underlying st).bind λc=>match c with|.struct a=>a[idx]?|_=>none).map (λf=>(f.type,f.offset))=some (t,o)) :
  ∃a b,P.underlying st=some (.struct a)/\a[idx]? = some b/\b.type=t/\b.offset=o:=by
 cases e:P.underlying st<;>grind
def Bm{n}(a:(P.info? t).map (·.size)=some n):∃d,P.info? t=some d/\d.size=n:=by
 simp_all
def yN(e g:TypeId)(b l:Nat)(c:Zw)
  (j : ((Tryz.prog.info? g).bind fun d => d.methods.find? (fun a => a.name == "Title")).map (fun a => (a.path, a.func)) = some (#[⟨e, 0, true⟩], some (327, false)))
  (k:((prog.underlying e).bind λi=>match i with|.struct h=>h[0]?|_=>none).map (λf=>(f.type,f.offset))=some (160,0)) :
  (method (l + 1) g (.pointer (some ⟨b, 0, none⟩)) "Title").run Tryz.prog c = ((loadVar 160 ⟨b, 0, none⟩).run Tryz.prog c).andThen (fun p m => .ok (327, p) m) := by
 obtain⟨d,a,y,z,A,B⟩:=Em j;obtain⟨h,q,C,D,E,F⟩:=xK k;obtain⟨u,s,r,_⟩:=xK (P:=prog) (st:=160) (idx:=0) (t:=9) (o:=0) Zk;obtain⟨v,w,x⟩:=Bm (P:=prog) (t:=160) (n:=2) Zk;grind [Vq]
def bQ:aC->Zb×Nat
 |.const t a _=>(t,a)
 |.typedef b=>(b.t,b.y)
 |.enum t a _=>(t,a)
 |.struct t a _=>(t,a)
 |.union t a _ _=>(t,a)
 |.prog t a _ _=>(t,a)
theorem adE (h : aC) (b e : Nat) (c : World) : (method (e + 1) (dI h) (.pointer (some ⟨b, 0, none⟩)) "Title").run Tryz.prog c = ((loadVar 160 ⟨b, 0, none⟩).run Tryz.prog c).andThen (fun E D => .ok (327, E) D) := by
 cases h with
 |const t g v=>exact yN 343 223 b e c Zk Zk
 |typedef h=>
  obtain ⟨d, a, n, q, r, s⟩ := Em (P := Tryz.prog) (t := 225) (name := "Title") (p := #[⟨244, 0, true⟩, ⟨242, 0, false⟩]) (f := some (327, false)) (by kernel_rfl)
  obtain⟨I,G,u,x,z,B⟩:=xK (P:=prog) (st:=244) (idx:=0) (t:=242) (o:=0) Zk;obtain⟨J,H,w,y,A,C⟩:=xK (P:=prog) (st:=242) (idx:=0) (t:=160) (o:=0) Zk;obtain⟨L,K,j,_⟩:=xK (P:=prog) (st:=160) (idx:=0) (t:=9) (o:=0) Zk;obtain⟨M,k,N⟩:=Bm (P:=prog) (t:=160) (n:=2) Zk;obtain⟨R,l,O⟩:=Bm (P:=prog) (t:=242) (n:=3) Zk;exact Vr n q r s u x z B l Zm w y A C j k Zm
 |enum t g m=>exact yN 253 227 b e c Zk Zk
 |struct t g m=>exact yN 353 229 b e c Zk Zk
 |union t g S F=>exact yN 358 231 b e c Zk Zk
 |prog t g a0 i=>exact yN 267 233 b e c Zk Zk
def xi(args:Array Zv)(a:Zw):(callFunc 327 args).run prog a=.ok (.enter 327 args) a:=Zk
def QJ{k i f}(d:fB i b f)(e:bW k i c):c.cell? (Zd b 0)=some (.string ⟨(bQ f).1.toArray⟩)/\c.cell? (Zd b 1)=some (U (bQ f).2):=by
 cases f with
 |const t g v=>have:=(e _ d).1;grind [World.cell?,bQ]
 |typedef f=>have:=(e _ d).1;grind [World.cell?,bQ]
 |enum t g l=>obtain⟨h,j,a,_⟩:=d;have:=(e _ a).1;simp_all[World.cell?,bQ]
 |struct t g l=>obtain⟨h,a,_⟩:=d;have:=(e _ a).1;grind [World.cell?,bQ]
 |union t g o m=>obtain⟨h,j,a,_⟩:=d;have:=(e _ a).1;simp_all[World.cell?,bQ]
 |prog t g p n=>obtain⟨h,j,a,_⟩:=d;have:=(e _ a).1;simp_all[World.cell?,bQ]
def xh(b:Za)(a:Int)(c:Zw) :
  Calls prog 327 #[.agg #[.string b,U a]] c λd e=>d=.returned (.agg #[.string b,U a])/\Below c.heap.size c e:=by
 go_in;go_wp2;exact bodyPost_ret (v:=.agg #[.string b,U a]) (by simp[results,results327,go_sem]) rfl ⟨rfl,((Below.refl ..).alloc (Y4 _) _).alloc Zq _⟩
end
section
variable {c d g a b:St}{f:aC}{e:Int}{i:Unit}{α h ρ τ:Type}
def Kn(b d:List (Zb×Option aC)):Prop:=(∀a,(aO b a).isSome->(aO d a).isSome)/\∀a f,aO d a=some (some f)->aO b a=some (some f)\/∃e c v,f=.const e c v
theorem tW(b:List (Zb×Option aC)):Kn b b:=⟨λ_ a=>a,λ_ _ a=>Y8 a⟩
theorem Kn.u{c d g:List (Zb×Option aC)}(h:Kn c d)(i:Kn d g):Kn c g:=⟨λa e=>i.1 a (h.1 a e),λa f e=>by
 rcases i.2 a f e with b|b
 .exact h.2 a f b
 .exact Ya b⟩
theorem Dr{c:List (Zb×Option aC)}{b:Zb×Option aC}(a:Zb):aO (c++[b]) a=match aO c a with|some o=>some o|none=>if b.1==a then some b.2 else none:=by
 grind [aO]
theorem Ao{c:Zb}(b:Zb):∀(a:List (Zb×Option aC)),aO (ep a c f) b=(aO a b).map (λd=>if b==c then some f else d):=by
 intro a;unfold aO ep;induction a<;>grind
def Le(a b:St):Prop:=a.aA<=b.aA/\a.aN<=b.aN/\b.am=a.am/\(a.aA<=24->b.aA<=24)/\(a.aN<=40->b.aN<=40)/\Kn a.K b.K
theorem vD(a:St):Le a a:=⟨Y4 _,Y4 _,rfl,id,id,tW _⟩
theorem Le.u(a:Le c d)(b:Le d g):Le c g:=⟨Yz a.1 b.1,Yz a.2.1 b.2.1,b.2.2.1.trans a.2.2.1,λe=>b.2.2.2.1 (a.2.2.2.1 e),λe=>b.2.2.2.2.1 (a.2.2.2.2.1 e),a.2.2.2.2.2.u b.2.2.2.2.2⟩
def ed(d:PM α):Prop:=∀a c b,d a=.ok (c,b)->Le a b
def cD(d:PX τ α):Prop:=∀e a c f b,d e a=.ok (c,f,b)->Le a b
theorem jg{g:PM α}{i:α->PM h}(k:ed g)(j:∀c,ed (i c)):ed (aM g i):=by
 intro a d b e;cases f:g a with
 |error m=>rw[bO f]at e;cases e
 |ok l=>obtain⟨c,n⟩:=l;rw[aK f]at e;exact(k _ _ _ f).u (j c _ _ _ e)
theorem ma(c:α):ed (ret c):=by intro a d b e;grind [ret,vD]
theorem rX(e f:Nat):ed (gU (α:=α) e f):=by intro a d b c;simp only[gU]at c;cases c
theorem tl{g:Prop}[Decidable g]{c d:PM α}(a:ed c)(b:ed d):ed (if g then c else d):=Zg
theorem gH{g:PX τ α}{i:α->PX τ h}(k:cD g)(j:∀c,cD (i c)):cD (aP g i):=by
 intro m a d o b e;cases f:g m a with
 |error n=>rw[bR f]at e;cases e
 |ok l=>obtain⟨c,p,q⟩:=l;rw[bf f]at e;exact(k _ _ _ _ _ f).u (j c _ _ _ _ _ e)
theorem fK{g:PM α}(h:ed g):cD (lift (τ:=τ) g):=by
 intro k a d l b e;cases f:g a with
 |error j=>rw[cZ f]at e;cases e
 |ok i=>obtain⟨c,m⟩:=i;rw[bF f]at e;cases e;exact h _ _ _ f
theorem ku(c:α):cD (dA (τ:=τ) c):=by intro f a d g b e;grind [dA,vD]
theorem Wg(e f:Nat):cD (Bw (τ:=τ) (α:=α) e f):=by intro g a d h b c;simp only[Bw]at c;cases c
theorem pq{g:Prop}[Decidable g]{c d:PX τ α}(a:cD c)(b:cD d):cD (if g then c else d):=Zg
theorem IW(g:τ->Except Mar.ay τ):cD (oI g):=by
 intro c a d h b e;cases f:g c<;>simp_all[wx,wy,vD]
theorem Aw{g:PX τ α}(h:cD g):cD (jA (ρ:=ρ) g):=by
 rintro⟨j,l⟩ a d m b e;cases f:g j a with
 |error k=>rw[uP f]at e;cases e
 |ok i=>obtain⟨c,n,o⟩:=i;rw[uQ f]at e;cases e;exact h _ _ _ _ _ f
theorem DA{g:PX ρ α}(h:cD g):cD (nI (τ:=τ) g):=by
 rintro⟨l,i⟩ a d m b e;cases f:g i a with
 |error k=>rw[yn f]at e;cases e
 |ok j=>obtain⟨c,n,o⟩:=j;rw[yo f]at e;cases e;exact h _ _ _ _ _ f
theorem ye{g:PX τ Unit}(i:cD g)(h:τ):ed (kZ g h):=by
 intro a d b e;cases f:g h a with
 |error k=>rw[yA f]at e;cases e
 |ok j=>obtain⟨c,l,m⟩:=j;rw[tA f]at e;cases e;exact i _ _ _ _ _ f
theorem Av{g:PX τ α}(i:cD g)(h:τ):ed (hD g h):=by
 intro a d b e;cases f:g h a with
 |error k=>rw[qN f]at e;cases e
 |ok j=>obtain⟨c,l,m⟩:=j;rw[tB f]at e;cases e;exact i _ _ _ _ _ f
theorem IJ{e:PX Unit α}(h:cD e):ed (kR e):=by
 intro a d b f;cases g:e () a with
 |error j=>grind [kR]
 |ok i=>obtain⟨c,k,l⟩:=i;simp only[kR,g]at f;cases f;exact h _ _ _ _ _ g
theorem yd(e:Za):ed (hA e):=by
 intro a d b c;unfold hA at c;split at c<;>cases c;exact⟨Y4 _,Y4 _,rfl,id,id,tW _⟩
theorem qy(e:Za):ed (next e):=by
 intro a d b c;unfold next at c
 split at c<;>cases c;exact⟨Y4 _,Y4 _,rfl,id,id,tW _⟩
theorem uG(f:Za)(h:Zb):ed (iE f h):=by
 intro a d b c;unfold iE at c;cases e:hA f a with
 |error i=>simp only[e]at c;cases c
 |ok g=>obtain⟨j,k⟩:=g;simp only[e]at c;cases c;exact yd _ _ _ _ e
theorem yb(e:Nat):ed (lB e):=by
 intro a d b c;unfold lB at c;split at c<;>cases c;exact⟨Nat.le_succ _,Y4 _,rfl,λ_=>by grind,id,tW _⟩
theorem IQ(e:Nat):ed (lA e):=by
 intro a d b c;unfold lA at c;split at c<;>cases c;exact⟨Y4 _,Nat.le_succ _,rfl,id,λ_=>by grind,tW _⟩
theorem Dz(c d g:Nat):ed (ft c d g):=by
 intro a f b e;grind [ft,vD]
theorem VP(h:Zb)(i:Zb)(c:Nat)(v:Int):ed (Du h (.const i c v)):=by
 intro a k b d;simp only[Du]at d;cases d
 refine⟨Y4 _,Y4 _,rfl,id,id,?_,?_⟩
 .grind [Ao]
 .intro g f e;dsimp only at e;rw[Ao]at e;cases j:aO a.K g<;>grind
theorem VC(d:Mar.aX):ed (mI d):=by
 intro a c b e;grind [mI,vD]
theorem VN(d:Mar.aX):ed (mK d):=by
 intro a c b e;grind [mK,vD]
theorem VL(k:Mar.aX):ed (iI k):=by
 intro a c b g;unfold iI at g;split at g<;>cases g;refine⟨Y4 _,Y4 _,rfl,id,id,?_,?_⟩
 .intro h i;dsimp only;rw[Dr];cases e:aO a.K h with
  |none=>rw[e]at i;cases i
  |some j=>rfl
 .intro h f d;dsimp only at d;rw[Dr]at d;cases e:aO a.K h with
  |none=>
   rw[e]at d;simp only at d;split at d<;>cases d
  |some j=>rw[e]at d;exact Y8 d
theorem nH(b:Za)(a:Zb):ed (eu b a):=by
 simp_all[eu,ma,qy,uG,jg]
theorem eS(b:Za)(a:Zb):ed (cI b a):=by
 simp[cI,ma,rX,qy,jg,tl]
theorem VV(a:Za)(b:Mar.aX):ed (lh a b):=by
 simp (maxDischargeDepth:=9) [lh,ma,rX,nH,jg,tl]
theorem IU(a:Za):ed (pK a):=by
 simp[pK,qy,VV,jg]
theorem VO(a:Mar.aX):ed (kX a):=by
 simp (maxDischargeDepth:=9) [kX,ma,rX,VC,tl]
theorem yf(b:Za)(a:Int->Bool):ed (jG b a):=by
 simp (maxDischargeDepth:=9) [jG,ma,rX,qy,VO,jg,tl]
theorem Dy(a:Za):ed (pt a):=by
 simp (maxDischargeDepth:=9) [pt,ma,nH,eS,yf,jg,tl]
theorem As(a:Za):ed (lT a):=by
 simp (maxDischargeDepth:=9) [lT,ma,nH,eS,yf,Dy,jg,tl]
theorem VU(a:Za):ed (pG a):=by
 simp_all[pG,ma,nH,IU,jg]
theorem yc(b:Za)(a:Int->Bool):cD (hx b a):=by
 simp[hx,ku,IW,yf,gH,fK]
theorem IN(a:Za):cD (pf a):=by
 simp (maxDischargeDepth:=9) [pf,ku,eS,yc,gH,fK]
theorem ya(c:Za)(a:dU τ)(b:∀d,cD (a.bb d)):cD (name c a):=by
 simp (maxDischargeDepth:=9) [name,ku,Wg,qy,gH,fK,pq,b]
theorem Dw(a:Mar.aX)(c d:Nat):cD ((bA c d).bb a):=IW _
theorem IM(b:Ad)(a:Mar.aX):cD ((iz b).bb a):=fK (VL a)
theorem IK(a:Za)(e:Zb×Nat)(b:Ty):cD (oq (τ:=τ) a e b):=by
 simp[oq,ku,As,gH,fK]
theorem VK(a:Za)(e:Zb×Nat)(b:Ty)(c:Bool):cD (sT (τ:=τ) a e b c):=by
 simp[sT,ku,IK,pq]
theorem VJ(a:Za)(e:Zb×Nat)(b:Ty)(c:Bool):cD (sS (τ:=τ) a e b c):=by
 simp (maxDischargeDepth:=9) [sS,uG,IK,VK,gH,fK,pq]
theorem VI(a:Za)(b:Ty)(e:Zb×Nat):cD (rK (τ:=τ) a b e):=by
 simp[rK,uG,VJ,gH,fK]
theorem VH(c:Za)(a:dU τ)(b:∀e,cD (a.bb e))(d:Ty)(f:Bool):cD (rJ c a d f):=by
 simp (maxDischargeDepth:=9) [rJ,ya,ku,VI,gH,pq,b]
theorem VG(b:Za)(a:dU τ)(e:∀d,cD (a.bb d))(c:Ty):cD (sR b a c):=by
 grind [sR,nH,VH,gH,fK]
theorem VF(c:Za)(a:dU τ)(b:∀d,cD (a.bb d))(e:Bool):cD (pb c a e):=by
 simp (maxDischargeDepth:=9) [pb,ya,ku,IU,Dy,VG,gH,fK,pq,b]
theorem VE(c:Za)(a:dU τ)(b:∀d,cD (a.bb d))(e:Bool):cD (qp c a e):=by
 simp (maxDischargeDepth:=9) [qp,ya,ku,nH,As,VF,gH,fK,pq,b]
theorem Dx(b:Za)(a:dU τ)(d:∀c,cD (a.bb c)) :cD (eY b a ):=by
 grind [eY,nH,VE,gH,fK]
theorem Vw(c:Za)(a:dU τ)(b:∀d,cD (a.bb d))(e:Bool):cD (qk c a e):=by
 simp[qk,ku,Dx,pq,b]
theorem Vv(c:Za)(a:dU τ)(b:∀d,cD (a.bb d)):cD (km c a):=by
 simp (maxDischargeDepth:=9) [km,ku,nH,eS,Vw,gH,fK,b]
theorem tm(a:Za):ed (iK a):=IJ (ya _ _ (IM _))
theorem IL(a:Za):ed (qq a):=IJ (Dx _ _ (IM _))
theorem Au(a:Za)(c d:Nat):cD (name a (bA c d)):=ya _ _ (λb=>Dw b c d)
theorem VD(a:Za)(c d:Nat):cD (eY a (bA c d)):=Dx _ _ (λb=>Dw b c d)
theorem IH(a:Za)(c d:Nat):cD (km a (bA c d)):=Vv _ _ (λb=>Dw b c d)
theorem IP(a:Za)(e:Nat):cD (jz a e):=by
 simp (maxDischargeDepth:=9) [jz,ku,yd,IQ,Dz,VP,eS,yc,tm,gH,fK]
theorem VM(b:Za)(e:Zb×Nat)(a:List (Zb×Nat×Int)):ed (ot b e a):=by
 simp[ot,ma,eS,jg]
theorem VQ(j:Za)(e:Zb×Nat):∀(c:Nat) (g:List (Zb×Nat×Int)) (d:List (Int×Int)),ed (iB j e c g d):=by
 intro c;induction c with
 |zero=>intro g d;exact rX _ _
 |succ c m=>
  intro g d a f b h;cases i:jz j g.length d a with
  |error l=>simp_all[tj]
  |ok k=>
   obtain⟨o,n,q⟩:=k;rw[rW i]at h;refine(IP _ _ _ _ _ _ _ i).u (jg (nH _ _) (λp=>?_) _ _ _ h);simp_all[tl,VM]
theorem IT(h:Za)(c:fe):cD (mc h c):=by
 rintro⟨k,j⟩ a d m b e;cases g:eY h (bA c.q c.bx) j a with
 |error l=>simp_all[Bp]
 |ok i=>
  obtain⟨f,n,o⟩:=i;rw[yF g]at e;exact(VD _ _ _ _ _ _ _ _ g).u (gH (fK (eS _ _)) (λ_=>ku _) _ _ _ _ _ e)
theorem IV{run:PX τ α}{j:PX (List α×τ) Unit}(n:cD run)(m:∀{g c k a b f},run c a=.ok (f,k,b)->j (g,c) a=.ok ((),(g++[f],k),b))(l:∀{g c a h},run c a=.error h->j (g,c) a=.error h):cD j:=by
 rintro⟨q,p⟩ a d r b e;cases i:run p a with
 |error h=>rw[l i]at e;cases e
 |ok o=>
  obtain⟨f,s,t⟩:=o;rw[m i]at e;cases e
  exact n _ _ _ _ _ i
theorem Vy(f:Za)(pt:Nat)(run:PX τ Unit)(c:cD run):∀a e,cD (jQ f pt run a e):=by
 intro a;induction a with
 |zero=>intro e;exact fK (rX _ _)
 |succ a d=>
  intro e;unfold jQ;refine gH ?_ λg=>?_
  .by_cases b:e=0
   .rw[Y9 b];exact ku _
   .rw[Y2 b];exact fK (nH _ _)
  .exact pq (ku _) (gH (fK (yd _)) λ_=>gH (fK (Dz _ _ _)) λ_=>gH c λ_=>d _)
theorem Ar(b:Za)(pt:Nat)(run:PX τ Unit)(a:cD run):cD (fp b pt run):=gH (fK (eS _ _)) λ_=>Vy _ _ _ a _ _
theorem VA(i:Za)(m:Int->Bool):∀(e:Nat) (f:List Int),cD (ja i m e f):=by
 intro e;induction e with
 |zero=>intro f;exact fK (rX _ _)
 |succ e k=>
  intro f l a d p b c;cases g:cI i Jg a with
  |error o=>simp_all[zC]
  |ok j=>
   obtain⟨j,n⟩:=j;by_cases h:12<=l.length
   .rw[zD g h]at c;cases c
   .rw[zE g h]at c;refine(eS _ _ _ _ _ g).u (?_:Le n b);exact gH (yc _ _) (λ_=>gH (fK (eS _ _)) λ_=>gH (fK (uG _ _)) λ_=>pq (k _) (ku _)) _ _ _ _ _ c
theorem Vz(b:Za)(a:Int->Bool):cD (cases b a):=VA _ _ _ _
theorem Vx(b:Za)(a:hG):cD (mF b a):=by
 simp (maxDischargeDepth:=9) [mF,ku,nH,eS,IH,gH,fK,pq,Aw]
theorem II(e:Za)(d:Int->Bool):∀(a:Nat) (b:hG),cD (ig e d a b):=by
 intro a;induction a with
 |zero=>intro b;exact fK (rX _ _)
 |succ a c=>
  intro b;unfold ig;exact gH (DA (Vz _ _)) λ_=>gH (Aw (IH _ _ _)) λ_=>gH (fK (uG _ _)) λ_=>pq (c _) (Vx _ _)
theorem VT(a:Za)(b:Mar.aX):ed (la a b):=by
 simp (maxDischargeDepth:=9) [la,ma,rX,VN,nH,jg,tl]
theorem IS(a:Za):ed (oH a):=by
 simp[oH,qy,VT,jg]
theorem VW(c:Za)(e:Zb×Nat)(b:aW)(a:hG):ed (oL c e b a):=by
 simp[oL,ma,eS,jg]
theorem VZ(c:Za)(e:Zb×Nat)(b:Ty×(Int->Bool))(a:(Zb×Nat)×Zc):ed (qV c e b a):=by
 unfold qV;repeat' (first|assumption|exact eS _ _|exact II _ _ _ _|exact VW _ _ _ _|refine jg ?_ ?_|refine Av ?_ _|(intro _))
theorem VY(b:Za)(e:Zb×Nat)(a:Ty×(Int->Bool)):ed (oN b e a):=by
 simp[oN,Au,VZ,jg,Av]
theorem VX(a:Za)(e:Zb×Nat):ed (oM a e):=by
 simp (maxDischargeDepth:=9) [oM,eS,IS,VY,jg]
theorem VS(a:Za):cD (mb a):=by
 simp (maxDischargeDepth:=9) [mb,ku,eS,VU,IN,Au,gH,fK,Aw,DA]
theorem We(a:Za):cD (nS a):=IV (VS a) Fe Fd
theorem Wc(a:Za):cD (fp a 8 (nS a)):=Ar _ _ _ (We _)
theorem Wa(a:Za)(e:Zb×Nat):cD (wN a e):=by
 simp (maxDischargeDepth:=9) [wN,ku,IN,Wc,gH,fK,DA,ye]
theorem Wb(a:Za):cD (mf a):=by
 simp (maxDischargeDepth:=9) [mf,eS,Au,Wa,gH,fK,Aw]
theorem VR(a:Za):cD (mX a):=IV (Wb a) DX DW
theorem IR(a:Za):cD (fp a 4 (mX a)):=Ar _ _ _ (VR _)
structure lO(a b:St):Prop where
 up:a.aA+a.aN+a.am.length<b.aA+b.aN+b.am.length
 O:a.aA<=24->b.aA<=24
 co:a.aN<=40->b.aN<=40
 pr:a.am.length<=4->b.am.length<=4
theorem lO.then(b:lO c d)(f:Le d g):lO c g:=by
 obtain⟨j,k,e,h,i,_⟩:=f;exact⟨by rw[e];have:=b.up;omega,λa=>h (b.O a),λa=>i (b.co a),λa=>by rw[e];exact b.pr a⟩
theorem Bq{d:Nat}(c:lB d a=.ok (i,b)):lO a b:=by
 unfold lB at c;split at c<;>cases c;exact⟨Zq,λ_=>by grind,id,id⟩
theorem acp{d:Nat}(c:lA d a=.ok (i,b)):lO a b:=by
 unfold lA at c;split at c<;>cases c;exact⟨Zq,id,λ_=>by grind,id⟩
theorem yH{g:PM α}{j:α->PM h}{d:h}(l:∀{c i},g a=.ok (c,i)->lO a i)(k:∀c,ed (j c))(e:aM g j a=.ok (d,b)):lO a b:=by
 cases f:g a with
 |error n=>rw[bO f]at e;cases e
 |ok m=>obtain⟨c,i⟩:=m;rw[aK f]at e;exact(l f).then (k c _ _ _ e)
theorem acj{e:Za}{d:Nat}(c:ko e d a=.ok (f,b)):lO a b:=by
 refine yH acp (λ_=>?_) c;grind [ma,eS,yf,tm,jg]
theorem acx{e:Za}{d:Nat}(c:kB e d a=.ok (f,b)):lO a b:=by
 refine yH Bq (λ_=>?_) c;grind [ma,eS,IL,jg]
theorem aco{e:Za}{d:Nat}(c:ik e d a=.ok (f,b)):lO a b:=by
 refine yH Bq (λ_=>?_) c;grind [eS,tm,VQ,jg]
theorem acw{e:Za}{d:Nat}(c:lf e d a=.ok (f,b)):lO a b:=by
 refine yH Bq (λ_=>?_) c;grind [ma,eS,tm,IT,Ar,jg,ye]
theorem acy{e:Za}{d:Nat}(c:ez e d a=.ok (f,b)):lO a b:=by
 refine yH Bq (λ_=>?_) c;grind [tm,VX,jg]
theorem acr{g:Za}{f:Int->Bool}(c:qC g f a=.ok (e,b)):a.aA<=b.aA/\a.aN<=b.aN/\b.am.length=a.am.length+1/\(a.aA<=24->b.aA<=24)/\(a.aN<=40->b.aN<=40):=by
 cases d:hx g f a.am a with
 |error i=>simp_all[AJ]
 |ok h=>
  obtain⟨p,o,q⟩:=h;rw[DN d]at c;cases c
  obtain⟨j,k,l,m,n,_⟩:=yc _ _ _ _ _ _ _ d;grind [DO]
theorem acn{f:Za}(c:rM f a=.ok (e,b)):a.aA<=b.aA/\a.aN<=b.aN/\b.am.length=a.am.length+1/\(a.aA<=24->b.aA<=24)/\(a.aN<=40->b.aN<=40):=by
 unfold rM at c;cases g:cI f [61] a with
 |error j=>rw[bO g]at c;cases c
 |ok d=>
  obtain⟨C,k⟩:=d;rw[aK g]at c;obtain⟨m,n,o,p,q,_⟩:=eS _ _ _ _ _ g;cases h:qC f (dV 0 4294967295) k with
  |error j=>rw[bO h]at c;cases c
  |ok d=>
   obtain⟨B,l⟩:=d;rw[aK h]at c;obtain⟨r,s,t,u,v⟩:=acr h;cases i:cI f [59] l with
   |error j=>rw[bO i]at c;cases c
   |ok d=>
    obtain⟨D,E⟩:=d;rw[aK i]at c;simp only[ret]at c;cases c
    obtain⟨w,x,y,z,A,_⟩:=eS _ _ _ _ _ i;grind
theorem act{g:Za}{d:Nat}(c:jZ g d a=.ok (f,b)):lO a b:=by
 unfold jZ at c;by_cases n:4<=a.am.length
 .rw[bO (m:=λa:St=>ft a.am.length 4 d a) (show ft a.am.length 4 d a=.error ⟨5,d⟩from Y9 n)]at c;cases c
 rw[aK (m:=λa:St=>ft a.am.length 4 d a) (show ft a.am.length 4 d a=.ok ((),a)from Y2 n)]at c;cases i:iK g a with
 |error m=>rw[bO i]at c;cases c
 |ok h=>
  obtain⟨e,y⟩:=h;rw[aK i]at c;unfold qG at c;obtain⟨A,B,p,q,r,_⟩:=tm _ _ _ _ i;cases j:kZ (fp g 4 (mX g)) ([],([],[])) y with
  |error m=>rw[bO j]at c;cases c
  |ok h=>
   obtain⟨o,z⟩:=h;rw[aK j]at c;obtain⟨C,D,s,t,u,_⟩:=ye (IR g) _ _ _ _ j;cases k:rM g z with
   |error m=>rw[bO k]at c;cases c
   |ok h=>
    obtain⟨H,I⟩:=h;rw[aK k]at c;simp only[ret]at c;cases c
    obtain⟨E,F,v,w,x⟩:=acn k;have G:b.am.length=a.am.length+1:=by rw[v,s,p]
    exact⟨Zm,λl=>w (t (q l)),λl=>x (u (r l)),λ_=>by omega⟩
theorem ack{i:Za}(c:ga i a=.ok (f,b)):lO a b:=by
 unfold ga at c;cases g:next i a with
 |error p=>rw[bO g]at c;cases c
 |ok l=>
  obtain⟨d,m⟩:=l;rw[aK g]at c;obtain⟨n,o,h,j,k,_⟩:=qy _ _ _ _ g;have e:lO m b:=by
   unfold eF at c;split at c
   .exact acj c
   split at c
   .exact acx c
   split at c
   .exact aco c
   split at c
   .exact acw c
   split at c
   .exact acy c
   split at c
   .exact act c
   .simp only[gU]at c;cases c
  have:=e.up;exact⟨by rw[h]at this;omega,λd=>e.O (j d),λd=>e.co (k d),λd=>e.pr (by rw[h];exact d)⟩
end
section
variable {b:TypeId}{c:Zv}{w:Zw}{a:Type}
structure my(a:Type) where
 f:Nat
 e8:Array Zv
 e7:Array Zv
 bb:Zb×Nat->a->Except Mar.ay a
 J:a->Zw->Prop
 M:List Nat
 ok:Zb×Nat->Prop
def my.v(b:my a):Zv:=.func (.func b.f) b.e8 b.e7
def iT(c:my a)(w:Zw)(f:Except Mar.ay a)(e:Ending)(b:Zw):Prop:=
 (∃g,f=.ok g/\e=.returned (.tuple #[])/\c.J g b/\an c.M w b)\/(∃d,f=.error d/\an c.M w b/\fm w d.no d.y e b)
structure lr{a:Type}(T:my a):Prop where
 d1:∀args W,(callFunc T.f args).run prog W=.ok (.enter T.f args) W
 a3:∀{t w},T.J t w->∀m∈T.M,m<w.heap.size
 c7:∀{t w w'},T.J t w->Below w.heap.size w w'->T.J t w'
 call:∀{t W} (n:Zb×Nat),T.ok n->T.J t W->Calls prog T.f (T.e8.push (il n)++T.e7) W (iT T W (T.bb n t))
def cf(c:my a):List (Zb×Nat)->a->Except Mar.ay a
 |[],b=>.ok b
 |n::e,b=>match c.bb n b with
  |.ok f=>cf c e f
  |.error d=>.error d
def eV:Ty->List (Zb×Nat)
 |.named c b=>[(c,b)]
 |.arr a _ _=>eV a
 |.opt a=>eV a
 |_=>[]
def gy:Ty->List (Zb×Nat)
 |.named d a=>[(d,a)]
 |.arr c _ b=>if b then gy c else []
 |_=>[]
def wi:Ty->Nat
 |.named ..=>360
 |.arr ..=>370
 |.opt ..=>372
 |_=>332
def xV:Ty->Nat
 |.named ..=>359
 |.arr ..=>369
 |.opt ..=>371
 |_=>331
def uK:Ty->Zv
 |.named e b=>.agg #[.string ⟨e.toArray⟩,.int .i64 b]
 |.arr a d c=>.agg #[cW a,.int .i64 d,.bool c]
 |.opt a=>.agg #[cW a]
 |_=>.agg #[]
def uL (a : Ty)   (d : cW a = .iface b c) (e : Nat) (w : World) : (method (e + 1) b c "Names").run Tryz.prog w = .ok (wi a, uK a) w := by
 cases a<;>cases d<;>kernel_rfl
def Ai (a : Ty)   (d : cW a = .iface b c) (e : Nat) (w : World) : (method (e + 1) b c "Leads").run Tryz.prog w = .ok (xV a, uK a) w := by
 cases a<;>cases d<;>kernel_rfl
def uI(a:Ty)(args:Array Zv)(w:Zw):(callFunc (wi a) args).run prog w=.ok (.enter (wi a) args) w:=by cases a<;>kernel_rfl
def Ah(a:Ty)(args:Array Zv)(w:Zw):(callFunc (xV a) args).run prog w=.ok (.enter (xV a) args) w:=by cases a<;>kernel_rfl
def vP{b:my a}(e:lr b){c:a}(d:b.J c w):Calls prog 332 #[.agg #[],b.v] w (iT b w (.ok c)):=by
 have f:=e.c7 d ((Below.refl w.heap.size w).alloc (Y4 _) (.cells #[] 250));go_in;go_wp2;go_end0;exact Y8 ⟨c,rfl,rfl,f,(ao _ w).H _⟩
def vO{b:my a}(e:lr b){c:a}(d:b.J c w):Calls prog 331 #[.agg #[],b.v] w (iT b w (.ok c)):=by
 have f:=e.c7 d ((Below.refl w.heap.size w).alloc (Y4 _) (.cells #[] 250));go_in;go_wp2;go_end0;exact Y8 ⟨c,rfl,rfl,f,(ao _ w).H _⟩
def Xs{d:my a}(i:lr d){e:a}(f:Ty)(g:d.J e w):Calls prog 371 #[.agg #[cW f],d.v] w (iT d w (.ok e)):=by
 obtain⟨b,c,h⟩:=hX f;rw[h];have j:=i.c7 g ((Below.refl w.heap.size w).alloc (Y4 _) (.cells #[.iface b c] 385))
 go_in;go_wp2;go_end0;exact Y8 ⟨e,rfl,rfl,j,(ao _ w).H _⟩
def LX{b}(c:Zb×Nat)(d:a):cf b [c] d=b.bb c d:=by
 grind [cf]
def WD{b:my a}(e:lr b){g:a}(d:Zb)(c:Nat)(o:b.ok (d,c))(j:b.J g w):Calls prog 360 #[.agg #[Zs d,U c],b.v] w (iT b w (b.bb (d,c) g)):=by
 have p:=e.c7 j ((Below.refl w.heap.size w).alloc (Y4 _) (.cells #[Zs d,U c] 260));have t:=e.d1;show Calls prog 360 #[.agg #[Zs d,U c],.func (.func b.f) b.e8 b.e7] w _;go_in;go_wp21;refine(e.call (d,c) o p).mono ?_;rintro s u (⟨r,f,rfl,m,q⟩|⟨i,f,n,h,k,rfl,l⟩);rotate_left
 .exact aE (Ya ⟨i,f,((ao _ w).H _).u n,h,by simp at k;omega,rfl,l⟩)
 go_wp2;go_end0;exact Y8 ⟨r,f,rfl,m,((ao _ w).H _).u q⟩
def WC{b:my a}(e:lr b){g:a}(d:Zb)(c:Nat)(o:b.ok (d,c))(j:b.J g w):Calls prog 359 #[.agg #[Zs d,U c],b.v] w (iT b w (b.bb (d,c) g)):=by
 have p:=e.c7 j ((Below.refl w.heap.size w).alloc (Y4 _) (.cells #[Zs d,U c] 260));have t:=e.d1;show Calls prog 359 #[.agg #[Zs d,U c],.func (.func b.f) b.e8 b.e7] w _;go_in;go_wp21;refine(e.call (d,c) o p).mono ?_;rintro s u (⟨r,f,rfl,m,q⟩|⟨i,f,n,h,k,rfl,l⟩);rotate_left
 .exact aE (Ya ⟨i,f,((ao _ w).H _).u n,h,by simp at k;omega,rfl,l⟩)
 go_wp2;go_end0;exact Y8 ⟨r,f,rfl,m,((ao _ w).H _).u q⟩
def yh{k}(g:lr k):∀(l:Ty) {e:a} {w:Zw},(∀i∈eV l,k.ok i)->k.J e w->Calls prog (wi l) #[uK l,k.v] w (iT k w (cf k (eV l) e)):=by
 intro l;induction l with
 |plain F=>intro e w _ d;exact vP g d
 |opaq i f=>intro e w _ d;exact vP g d
 |str i f=>intro e w _ d;exact vP g d
 |void=>intro e w _ d;exact vP g d
 |named i A=>intro e w n d;simp only[eV,LX];exact WD g i A (n _ (by simp[eV])) d
 |arr j i f y=>
  intro e w n d;obtain⟨b,c,m⟩:=hX j;have D:=uL j m;have C:=uI j;have u:=g.c7 d ((Below.refl w.heap.size w).alloc (Y4 _) (.cells #[.iface b c,U i,.bool f] 382))
  have o:=aa (y n u);simp only[wi,uK,eV];rw[m];go_in;go_wp21;refine o.w.mono ?_;rintro B E (⟨z,h,rfl,s,x⟩|⟨f,h,t,p,q,rfl,r⟩);rotate_left
  .exact aE (Ya ⟨f,h,((ao _ w).H _).u t,p,by simp at q;omega,rfl,r⟩)
  go_wp2;go_end0;exact Y8 ⟨z,h,rfl,s,((ao _ w).H _).u x⟩
 |opt j y=>
  intro e w n d;obtain⟨b,c,m⟩:=hX j;have D:=uL j m;have C:=uI j;have u:=g.c7 d ((Below.refl w.heap.size w).alloc (Y4 _) (.cells #[.iface b c] 385))
  have o:=aa (y n u);simp only[wi,uK,eV];rw[m];go_in;go_wp21;refine o.w.mono ?_;rintro B E (⟨z,h,rfl,s,x⟩|⟨f,h,t,p,q,rfl,r⟩);rotate_left
  .exact aE (Ya ⟨f,h,((ao _ w).H _).u t,p,by simp at q;omega,rfl,r⟩)
  go_wp2;go_end0;exact Y8 ⟨z,h,rfl,s,((ao _ w).H _).u x⟩
def Do{h}(f:lr h):∀(j:Ty) {e:a} {w:Zw},(∀g∈gy j,h.ok g)->h.J e w->Calls prog (xV j) #[uK j,h.v] w (iT h w (cf h (gy j) e)):=by
 intro j;induction j with
 |plain E=>intro e w _ d;exact vO f d
 |opaq g i=>intro e w _ d;exact vO f d
 |str g i=>intro e w _ d;exact vO f d
 |void=>intro e w _ d;exact vO f d
 |named g r=>intro e w l d;simp only[gy,LX];exact WC f g r (l _ (by simp[gy])) d
 |opt k p=>intro e w _ d;exact Xs f k d
 |arr k g i p=>
  intro e w l d;obtain⟨b,c,m⟩:=hX k;have D:=Ai k m;have C:=Ah k;have n:=f.c7 d ((Below.refl w.heap.size w).alloc (Y4 _) (.cells #[.iface b c,U g,.bool i] 382))
  simp only[xV,uK,gy];rw[m];cases i with
  |false=>
   go_in;go_wp2;go_end0;exact Y8 ⟨e,rfl,rfl,n,(ao _ w).H _⟩
  |true=>
   have q:=aa (p (by simpa[gy]using l) n);go_in;go_wp21;refine q.w.mono ?_;rintro B F (⟨A,o,rfl,x,z⟩|⟨i,o,y,s,t,rfl,u⟩);rotate_left
   .exact aE (Ya ⟨i,o,((ao _ w).H _).u y,s,by simp at t;omega,rfl,u⟩)
   go_wp2;go_end0;exact Y8 ⟨A,rfl,rfl,x,((ao _ w).H _).u z⟩
end
section
variable {b:Zw}{xs d:List (Zb×Nat)}{a:Type}
def LW{b}:∀(xs d:List (Zb×Nat)) (c:a),cf b (xs++d) c=match cf b xs c with|.ok t'=>cf b d t'|.error e=>.error e:=by
 intro xs;induction xs<;>grind [cf]
def yM{b}{c e:a}(f:cf b xs c=.ok e):cf b (xs++d) c=cf b d e:=by rw[LW,f]
def yL{b}{e:a}{c}(f:cf b xs e=.error c):cf b (xs++d) e=.error c:=by rw[LW,f]
def rP{e:Type}{c:e->Zl}{n:Nat}(g:∀d,(c d).length=n):∀(xs:List e) (a b:Nat) (f:a<xs.length) (_:b<n),(xs.flatMap c)[a*n+b]? = (c xs[a])[b]?:=by
 intro xs;induction xs with
 |nil=>simp
 |cons d xs i=>
  intro a b f h;rw[YD];cases a with
  |zero=>
   grind
  |succ a=>
   rw[Yw Zg];grind
theorem dt{c:Nat}{a e}{xs:Zl}(f:b.heap[c]? = some (.cells a e))(h:a.toList.take xs.length=xs){d:Nat}{v}(g:xs[d]? = some v):b.cell? (Zd c d)=some v:=by
 grind [KV]
def tI:Bool->Ty->List (Zb×Nat)
 |false=>eV
 |true=>gy
def LS(l:Bool){f}(x:lr f){H G a2}{n:Zb}{d:List aW}(K:∀n∈d.flatMap λm=>tI l m.O,f.ok n)(a9:fB H G (.struct n a2 d))(I:∀{h:a} {k:Zw},f.J h k->∀L∈H,k.heap[L.1]? = some L.2){h}(u:f.J h b) :
  Calls prog (bif l then 344 else 345) #[Zp G,f.v] b (iT f b (cf f (d.flatMap λm=>tI l m.O) h)):=by
 generalize hF:(λm:aW=>tI l m.O)=i at K ⊢;have E:=aa K;obtain⟨e2,a6,b8⟩:=a9;obtain⟨d7,d8,d9,_⟩:=fq (I u _ a6);rcases b8 with⟨rfl,a5,_⟩|⟨t,c4,c5,rfl,⟨c7,d4⟩,b2,A⟩
 .have b6:d=[]:=Yv.1 a5;subst b6;have r:=aa u;cases l
  all_goals
   dsimp only[cond]
   go_in
   go_wp2
   go_loopw [11] (λg q=>g=U 0/\q=b) (λ_ _=>0)
   case atStart=>exact⟨rfl,rfl⟩
   case round=>
    obtain⟨rfl,rfl⟩:=hrel;go_wp2;go_end0;exact Y8 ⟨h,rfl,rfl,r.w,ao _ _⟩
 .have b7:∀(k:Zw) (j:a),f.J j k->∀g (J:g<d.length),k.cell? ⟨t,g*3,none⟩=some (.string ⟨d[g].t.toArray⟩)/\k.cell? ⟨t,g*3+1,none⟩=some (U d[g].y)/\k.cell? ⟨t,g*3+2,none⟩=some (cW d[g].O):=by
   intro k j b9 g J;have y:=I b9 _ b2;have b0:=rP (c:=mJ) (n:=3) (λ_=>rfl) d g;exact⟨dt y A (by have:=b0 0 J Zm;simp_all),dt y A Zu,dt y A Zu⟩
  have S:=aa b7;have r:=aa u;cases l
  all_goals
   dsimp only[cond]
   go_in
   go_wp2
   go_loopw [11] (λg q=>∃(e:Nat) (j:a),g=U e/\e<=d.length/\af (f.J j q)/\an f.M b q/\af (cf f (d.flatMap i) h=cf f ((d.drop e).flatMap i) j)) (λg _=>d.length-(intOf g).toNat)
   case atStart=>exact⟨0,h,rfl,Zm,r,ao _ _,rfl⟩
   case round=>
    obtain⟨e,j,rfl,d3,s,p,C⟩:=hrel;rcases Yj e d.length with o|d0
    .obtain⟨e0,e1,c2⟩:=S.w _ _ s.w e o;obtain⟨a1,c3,w⟩:=hX d[e].O;have d5:=uL d[e].O w;have d6:=Ai d[e].O w;have c9:=uI d[e].O;have c8:=Ah d[e].O;rw[w]at c2;have d1:(0:Int)<=↑e:=Zm;have d2:(↑e:Int) < ↑d.length:=Zm;have D:af (cf f (d.flatMap i) h=cf f (i d[e]++(d.drop (e+1)).flatMap i) j):=by
      refine C.w.trans ?_;rw[Yk o,YD]
     have F:=aa (x.c7 s.w ((Below.refl _ _).alloc (Y4 _) (.cells #[.string ⟨d[e].t.toArray⟩,U d[e].y,.iface a1 c3] 242)))
     go_wp21;first|refine(yh x d[e].O (λn z=>E.w n (by rw[<-hF];exact List.mem_flatMap.2 ⟨d[e],Yy o,z⟩)) F.w).mono ?_|refine(Do x d[e].O (λn z=>E.w n (by rw[<-hF];exact List.mem_flatMap.2 ⟨d[e],Yy o,z⟩)) F.w).mono ?_
     rintro c6 O (⟨N,B,rfl,b3,c0⟩|⟨a4,B,b4,a3,a7,rfl,a8⟩);rotate_left
     .show bodyPost prog Tryz.f345 (iT f b (cf f (d.flatMap i) h)) (Exit.panic _) _ O;exact aE (Ya ⟨a4,D.w.trans (yL (by rw[<-hF];exact B)),(p.H _).u b4,a3,by have:=p.aD;simp at a7;omega,rfl,a8⟩)
     have a0:=aa b3;have P:af (cf f (d.flatMap i) h=cf f ((d.drop (e+1)).flatMap i) N):=D.w.trans (yM (by rw[<-hF];exact B));have c1:an f.M b O:=(p.H _).u c0;go_wp2;exact⟨⟨e+1,N,Zj,Zm,a0,c1,P⟩,Zz⟩
    .have b5:e=d.length:=Zm;subst b5;have b1:cf f (d.flatMap i) h=.ok j:=by
      refine C.w.trans ?_;rw[List.drop_length];rfl
     have R:=aa b1;go_wp2;go_end0;exact Y8 ⟨j,R.w,rfl,s.w,p⟩
end
section
variable {h:List Nat}{f c b g:Nat}{X j:Nat->Prop}{d:Zb}{l w w':Zw}
structure bD where
 F:Int
 n:Int
 of:Int
 aR:List Int
 bz:List Int
 d0:Int
 bl:Zb
 y:Int
structure hI where
 s:Zb
 a7:Int
 n:Int
 y:Int
structure ct where
 prog:Int
 e0:Int
 kI:Int
 cP:Int
 cu:Int
structure ai where
 s:nk
 A:List bD
 K:List hI
 aq:List ct
 w:Zb
 aN:Int
 aA:Int
 am:List Int
def bP:bD:=⟨0,0,0,[],[],0,[],0⟩
def iC:hI:=⟨[],0,0,0⟩
abbrev im(a:bD)(b:Zv×Zv):Zl:=[U a.F,U a.n,U a.of,b.1,b.2,U a.d0,Zs a.bl,U a.y]
abbrev mV(a:hI):Zl:=[Zs a.s,U a.a7,U a.n,U a.y]
abbrev gn(a:ct):Zl:=[U a.prog,U a.e0,U a.kI,U a.cP,U a.cu]
def sf(b:List bD)(c:List (Zv×Zv)):Zl:=(b.zip c).flatMap λa=>im a.1 a.2
def dL(v:Zv)(a:List Int)(w:Zw):Prop:=w.ownsRow 0 3 1 v a.length (a.map (U))
def oc(v:Zv)(a:Zc)(w:Zw):Prop:=w.ownsRow 0 9 1 v a.length (a.map λb=>Zs b)
structure PV where
 rv:Zv
 nv:Zv
 pv:Zv
 gv:Zv
 ls:List (Zv×Zv)
def PV.b9(a:PV)(c:Nat):List Nat:=c::(a.rv.ownBlock.toList++(a.nv.ownBlock.toList++(a.pv.ownBlock.toList++a.gv.ownBlock.toList)))
structure PV.Nd(V:PV)(c:Nat):Prop where
 r:V.rv.ownBlock≠some c
 n:V.nv.ownBlock≠some c
 p:V.pv.ownBlock≠some c
 g:V.gv.ownBlock≠some c
 rn:∀b,V.rv.ownBlock=some b->V.nv.ownBlock≠some b
 rp:∀b,V.rv.ownBlock=some b->V.pv.ownBlock≠some b
 rg:∀b,V.rv.ownBlock=some b->V.gv.ownBlock≠some b
 np:∀b,V.nv.ownBlock=some b->V.pv.ownBlock≠some b
 ng:∀b,V.nv.ownBlock=some b->V.gv.ownBlock≠some b
 pg:∀b,V.pv.ownBlock=some b->V.gv.ownBlock≠some b
def PV.bC(b:PV):List Nat:=b.ls.flatMap λa=>a.1.ownBlock.toList++a.2.ownBlock.toList
def ai.sz(a:ai):Nat:=a.A.length+a.K.length+a.aq.length+a.am.length+a.w.length+a.aN.toNat+a.aA.toNat
abbrev ul(a:PV)(b:ai):xd:=⟨a.rv,a.nv,a.pv,b.w,b.aN,b.aA,a.gv⟩
structure bB(X:Nat->Prop)(c:Nat)(d:Zb)(f:Nat)(σ:ai)(V:PV)(w:Zw):Prop where
 ap:w.heap[c]? = some (pA d σ.s (ul V σ))
 A:w.ownsRow 0 117 8 V.rv σ.A.length (sf σ.A V.ls)
 K:w.ownsRow 0 119 4 V.nv σ.K.length (σ.K.flatMap mV)
 aq:w.ownsRow 0 288 5 V.pv σ.aq.length (σ.aq.flatMap gn)
 am:dL V.gv σ.am w
 av:V.ls.length=σ.A.length
 d8:∀(i:Nat) r p,σ.A[i]? = some r->V.ls[i]? = some p->dL p.1 r.aR w/\dL p.2 r.bz w
 nd:V.Nd c
 ca:∀b∈V.bC,b ∉ V.b9 c
 bk:∀b,b∈V.b9 c\/b∈V.bC->¬X b
 a3:∀b,X b->b<w.heap.size
 fin:σ.s.x.fin<=d.length
 b8:σ.s.x.text.length<=2000
 cH:d.length<=2000
 bc:σ.sz<=f
 cn:0<=σ.aN/\0<=σ.aA
def cd(X:Nat->Prop)(c:Nat)(d:Zb)(f:Nat)(b:ai)(w:Zw):Prop:=∃a,bB X c d f b a w
structure Fr(X:Nat->Prop)(w w':Zw):Prop where
 os:w'.os=w.os
 dq:w'.tape=w.tape
 dp:w'.output=w.output
 aD:w.heap.size<=w'.heap.size
 L:∀k,k<w.heap.size->X k->w'.heap[k]? = w.heap[k]?
def ad(X:Nat->Prop)(b:Nat):Nat->Prop:=λa=>X a\/a=b
def rz:ad X b b:=Ya rfl
theorem nU(X:Nat->Prop)(w:Zw):Fr X w w:=⟨rfl,rfl,rfl,Y4 _,λ_ _ _=>rfl⟩
theorem Fr.u{v}(a:Fr X l v)(b:Fr X v w):Fr X l w:=
 ⟨b.os.trans a.os,b.dq.trans a.dq,b.dp.trans a.dp,Yz a.aD b.aD,λe c d=>(b.L e (Yr c a.aD) d).trans (a.L e c d)⟩
def Fr.bE(a:Fr j w w')(f:∀b,b<w.heap.size->X b->j b):Fr X w w':=⟨a.os,a.dq,a.dp,a.aD,λd c e=>a.L d c (f d c e)⟩
def Fr.bY(a:Fr (ad X b) w w'):Fr X w w':=a.bE λ_ _=>Y8
def wW(a:an h w w')(e:∀d∈h,d<w.heap.size->¬X d):Fr X w w':=⟨a.os,a.dq,a.dp,a.aD,λc b f=>a.L c b λg=>e c g b f⟩
def Fr.c6(a:Fr X l w)(b:an h w w')(g:∀e∈h,X e->l.heap.size<=e):Fr X l w':=
 ⟨b.os.trans a.os,b.dq.trans a.dq,b.dp.trans a.dp,Yz a.aD b.aD,λd c f=>(b.L d (Yr c a.aD) (λi=>by grind)).trans (a.L d c f)⟩
def Fr.H(b:Fr X l w)(a:Obj):Fr X l (w.alloc a):=b.c6 ((ao [] w).H a) Zq
theorem Fr.aU(a:Fr X l w):Fr X l w.drew:=a.c6 ((ao [] w).aU) Zq
theorem dL.bC{v a}(b:dL v a w)(d:an h w w')(c:∀g,v.ownBlock=some g->g ∉ h):dL v a w':=bw b d c
theorem oc.bC{v a}(b:oc v a w)(d:an h w w')(c:∀g,v.ownBlock=some g->g ∉ h):oc v a w':=bw b d c
def wn{b c f e v h}(a:w.ownsRow b c f v e h)(n:Fr X w w')(m:∀g,v.ownBlock=some g->X g):w'.ownsRow b c f v e h:=by
 refine⟨a.1,?_⟩;rcases a.2 with a|⟨g,i,j,rfl,k,d,l⟩
 .simp_all
 .exact Ya ⟨g,i,j,rfl,k,(n.L _ (au d) (m g rfl)).trans d,l⟩
theorem jM{a:PV}(b:a.nv.ownBlock=some g):g∈a.b9 c:=by simp[PV.b9,b]
theorem kM{a:PV}(b:a.rv.ownBlock=some g):g∈a.b9 c:=by simp[PV.b9,b]
theorem lN{a:PV}(b:a.pv.ownBlock=some g):g∈a.b9 c:=by simp[PV.b9,b]
theorem mw{a:PV}(b:a.gv.ownBlock=some g):g∈a.b9 c:=by simp[PV.b9,b]
def lM{b:PV}{d:Nat}{a}(c:b.ls[d]? = some a)(e:a.1.ownBlock=some g\/a.2.ownBlock=some g):g∈b.bC:=by
 refine List.mem_flatMap.2 ⟨a,Yh c,?_⟩;simp_all
theorem bB.lt{j h}(e:bB X c d f j h w):∀b,b∈h.b9 c\/b∈h.bC->b<w.heap.size:=by
 intro b a;rcases a with a|a
 .unfold PV.b9 at a;simp only[Yg,Yn,Option.mem_toList]at a;rcases a with rfl|a|a|a|a
  .exact au e.ap
  .exact(hR e.A a).2
  .exact(hR e.K a).2
  .exact(hR e.aq a).2
  .exact(hR e.am a).2
 .obtain⟨p,o,g⟩:=List.mem_flatMap.1 a;obtain⟨i,m,rfl⟩:=List.getElem_of_mem o;have n:i<j.A.length:=by rw[<-e.av];omega
  obtain⟨k,l⟩:=e.d8 i _ _ (Yd n) (Yd m);simp only[Yn,Option.mem_toList]at g;rcases g with g|g
  .exact(hR k g).2
  .exact(hR l g).2
def bB.gE{p l}(a:bB X c d f p l w)(k:an h w w')(s:∀A∈h,X A)(t:∀b,j b->X b\/w.heap.size<=b)(u:∀b,j b->b<w'.heap.size):bB j c d f p l w':=by
 have i:∀b,b∈l.b9 c\/b∈l.bC->b ∉ h:=λb m v=>a.bk b m (s b v);have D:=a.lt;refine⟨(k.L _ (au a.ap) (i c (Y8 (by simp[PV.b9])))).trans a.ap,bw a.A k λg e=>i g (Y8 (kM e)),bw a.K k λg e=>i g (Y8 (jM e)),bw a.aq k λg e=>i g (Y8 (lN e)),a.am.bC k λg e=>i g (Y8 (mw e)),a.av,?_,a.nd,a.ca,?_,u,a.fin,a.b8,a.cH,a.bc,a.cn⟩
 .intro z C B x n;obtain⟨q,r⟩:=a.d8 z C B x n;exact⟨q.bC k λg e=>i g (Ya (lM n (Y8 e))),r.bC k λg e=>i g (Ya (lM n (Ya e)))⟩
 .intro b m y;rcases t b y with o|o
  .exact a.bk b m o
  grind
def cd.gE{a}(g:cd X c d f a w)(n:an h w w')(i:∀o∈h,X o)(l:∀b,j b->X b\/w.heap.size<=b)(m:∀b,j b->b<w'.heap.size):cd j c d f a w':=by
 obtain⟨e,k⟩:=g;exact⟨e,k.gE n i l m⟩
def cd.a3{g}(a:cd X c d f g w):∀b,X b->b<w.heap.size:=by
 obtain⟨h,e⟩:=a;exact e.a3
def cd.H{h}(g:cd X c d f h w)(e:Obj):cd (ad X w.heap.size) c d f h (w.alloc e):=by
 refine g.gE ((ao [] w).H e) Zq ?_ ?_
 .intro b a;rcases a with a|rfl;all_goals simp_all
 .intro b a;have i:(w.alloc e).heap.size=w.heap.size+1:=Zq;rcases a with a|rfl
  .have:=g.a3 b a;omega
  omega
def cd.bE{h}(e:cd X c d f h w)(g:∀b,j b->X b):cd j c d f h w:=
 e.gE (ao [] w) Zq (λb a=>Y8 (g b a)) (λb a=>e.a3 b (g b a))
def cd.bY{a}(e:cd (ad X b) c d f a w):cd X c d f a w:=e.bE λ_=>Y8
def cd.ac{g}(a:cd X c d f g w)(e:an h w w')(i:∀k∈h,X k):cd X c d f g w':=
 a.gE e i (λ_=>Y8) (λb j=>Yr (a.a3 b j) e.aD)
theorem cd.aU{a}(b:cd X c d f a w):cd X c d f a w.drew:=b.ac ((ao [] w).aU) Zq
def cd.a2{N':Nat}{b}(g:cd X c d f b w)(h:f<=N'):cd X c d N' b w:=by
 obtain⟨e,a⟩:=g;exact⟨e,{ a with bc:=Yz a.bc h }⟩
def bB.al{g h}(b:bB X c d f g h w) :
  w.cell? (Zd c 1)=some (U g.s.x.F)/\w.cell? (Zd c 2)=some (Zs g.s.x.text)/\w.cell? (Zd c 3)=some (U g.s.x.y)/\w.cell? (Zd c 4)=some (U g.s.x.fin)/\w.cell? (Zd c 5)=some (U g.s.x.n)/\w.cell? (Zd c 6)=some (U g.s.x.e)/\w.cell? (Zd c 7)=some h.rv/\w.cell? (Zd c 8)=some h.nv/\w.cell? (Zd c 9)=some h.pv/\w.cell? (Zd c 10)=some (Zs g.w)/\w.cell? (Zd c 11)=some (U g.s.e)/\w.cell? (Zd c 12)=some (U g.s.a)/\w.cell? (Zd c 13)=some (U g.aN)/\w.cell? (Zd c 14)=some (U g.aA)/\w.cell? (Zd c 15)=some h.gv/\(∀i,w.frozen? ⟨c,i,none⟩=false)/\c<w.heap.size:=
 ⟨aS b.ap rfl,aS b.ap rfl,aS b.ap rfl,aS b.ap rfl,aS b.ap rfl,aS b.ap rfl,aS b.ap rfl,aS b.ap rfl,aS b.ap rfl,aS b.ap rfl,aS b.ap rfl,aS b.ap rfl,aS b.ap rfl,aS b.ap rfl,aS b.ap rfl,dw b.ap,au b.ap⟩
def bB.bm{o h s}(a:bB X c d f o h w)(k:w'.heap[c]? = some (pA d s (ul h o)))(e:an [c] w w')(t:s.x.fin<=d.length)(y:s.x.text.length<=2000):bB X c d f { o with s:=s } h w':=by
 have j:∀{v:Zv},v.ownBlock≠some c->∀g,v.ownBlock=some g->g ∉ [c]:=λD g i l=>by
  simp_all
 have p:∀b,b∈h.bC->b ∉ [c]:=λb k l=>by
  simp only[Yc]at l;exact a.ca b k (by rw[l];simp[PV.b9])
 refine⟨k,bw a.A e (j a.nd.r),bw a.K e (j a.nd.n),bw a.aq e (j a.nd.p),a.am.bC e (j a.nd.g),a.av,?_,a.nd,a.ca,a.bk,λb z=>Yr (a.a3 b z) e.aD,t,y,a.cH,a.bc,a.cn⟩;intro A C B u m;obtain⟨q,r⟩:=a.d8 A C B u m;exact⟨q.bC e λg i=>p g (lM m (Y8 i)),r.bC e λg i=>p g (lM m (Ya i))⟩
def bB.fr{i b}(e:bB X c d f i b w)(g:an [c] w w'):Fr X w w':=
 wW g λh a _=>by
  simp only[Yc]at a;exact e.bk h (Y8 (by rw[a];simp[PV.b9]))
end
section
def GP(h:Nat->Prop)(d:Nat)(c:Zb)(g:Nat)(f:ai)(v:Zv)(b:Zw)(e:Ending)(a:Zw):Prop:=e=.returned v/\cd h d c g f a/\Fr h b a
def cm(c b:Int)(a:ai):ai:={ a with s:=⟨a.s.x,(jT a.s.e a.s.a c b).1,(jT a.s.e a.s.a c b).2⟩ }
def ew(a:ai):ai:={ a with s:=ny a.s }
def bq(c:Zb)(a:ai):ai:={ a with s:=uN c a.s }
def aJ(a:ai)(b:Nat)(c:Zb):Bool:=kq a.s.x a.s.e b c
def aj(c:Zb)(b:Nat)(d:Zb)(a:ai):ai:={ a with s:=qY c a.s b d }
def dT(c:Zb)(a:ai):fI×ai:=((li c a.s).1,{ a with s:=(li c a.s).2 })
def ce(a:ai)(b:Zb):Int:=pi (a.K.map (·.s)) b
def AG{c:Zb}{a}(f:c.length<=2000):(hQ c a).text.length<=2000:=by
 unfold hQ;cases d:Mar.c8 (c.drop (gj c a)) (gj c a)with
 |error e=>simp
 |ok b=>
  have:=CU d;grind
def MD{c:Zb}{a:nk}{e f}(b:c.length<=2000)(d:a.x.text.length<=2000):(qY c a e f).x.text.length<=2000:=by
 unfold qY;split
 .exact AG b
 .exact d
def Fi{c:Zb}{a:nk}(d:c.length<=2000)(b:a.x.text.length<=2000):(li c a).1.text.length<=2000/\(li c a).2.x.text.length<=2000:=by
 unfold li;split
 .grind [dC]
 .split
  .exact⟨b,AG d⟩
  .exact⟨by simp[dC],b⟩
variable {h : Nat -> Prop} {d g : Nat} {c : Zb} {a : ai} {b : Zw}
def mM(m:cd h d c g a b)(i f:Int):Calls prog 51 #[Zp d,U i,U f] b (GP h d c g (cm i f a) (.tuple #[]) b):=by
 obtain⟨k,e⟩:=m;refine(zS e.ap i f).mono ?_;rintro n o ⟨rfl,l,j⟩;exact⟨rfl,⟨k,e.bm (s:=⟨a.s.x,_,_⟩) l j e.fin e.b8⟩,e.fr j⟩
def sM(k:cd h d c g a b):Calls prog 84 #[Zp d] b (GP h d c g (ew a) (.tuple #[]) b):=by
 obtain⟨i,e⟩:=k;refine(zw e.ap).mono ?_;rintro l m ⟨rfl,j,f⟩;exact⟨rfl,⟨i,e.bm (s:=ny a.s) j f e.fin e.b8⟩,e.fr f⟩
def jW(k:cd h d c g a b):Calls prog 47 #[Zp d] b (GP h d c g (bq c a) (.tuple #[]) b):=by
 obtain⟨i,e⟩:=k;refine(AH e.ap e.fin e.cH).mono ?_;rintro l m ⟨rfl,j,f⟩;exact⟨rfl,⟨i,e.bm (s:=uN c a.s) j f (AF e.fin) (AG e.cH)⟩,e.fr f⟩
def jf(k:cd h d c g a b)(e:Nat)(f:Zb):Calls prog 81 #[Zp d,U e,Zs f] b λi l=>i=.returned (.bool (aJ a e f))/\l=b:=by
 obtain⟨m,j⟩:=k;exact Dj j.ap e f
def ea(n:cd h d c g a b)(f:Nat)(i:Zb):Calls prog 141 #[Zp d,U f,Zs i] b (GP h d c g (aj c f i a) (.tuple #[]) b):=by
 obtain⟨k,e⟩:=n;refine(MF e.ap e.fin e.cH f i).mono ?_;rintro o p ⟨rfl,m,j,l⟩;exact⟨rfl,⟨k,e.bm m j l (MD e.cH e.b8)⟩,e.fr j⟩
def Fk(m:cd h d c g a b):Calls prog 152 #[Zp d] b λf n=>GP h d c g (dT c a).2 (.agg (gW (dT c a).1)) b f n/\(dT c a).1.text.length<=2000:=by
 obtain⟨j,e⟩:=m;refine(aeJ e.ap e.fin e.cH).mono ?_;rintro f o ⟨rfl,l,i,k⟩;exact⟨⟨rfl,⟨j,e.bm l i k (Fi e.cH e.b8).2⟩,e.fr i⟩,(Fi e.cH e.b8).1⟩
def sZ{e:Type}{f:e->Zl}{k:Nat}(g:∀d,(f d).length=k):∀(c:List e) (a b:Nat),b<k->(c.flatMap f)[a*k+b]? = (c[a]?).bind λd=>(f d)[b]?:=by
 intro c;induction c with
 |nil=>simp
 |cons d c i=>
  intro a b h;rw[YD];cases a with
  |zero=>grind
  |succ a=>
   rw[Yw Zg,g,show (a+1)*k+b-k=a*k+b by grind,i a b h];rfl
def mW{b:Zw}{j k n g v h}(e:b.ownsRow j k n v g h){i:Nat}{x}(f:h[i]? = some x):∃a c,v=.slice (some ⟨a,0,none⟩) g c/\b.cell? (Zd a i)=some x/\(∀i,b.frozen? ⟨a,i,none⟩=false)/\a<b.heap.size:=by
 have m:=(YB.1 f).1;rcases e.2 with⟨rfl,l⟩|⟨a,c,o,rfl,p,d,q,r,s,t⟩
 .rw[e.1,l]at m;omega
 .exact⟨a,c,rfl,dt d Zg f,dw d,au d⟩
def Dq{b:Zw}{h j e d v g}(l:b.ownsRow h j e v d g)(f:Nat->Zv)(o:∀a,a<d->g[a*e]? = some (f a)):rl b v d e f:=by
 rcases l.2 with⟨rfl,m⟩|⟨k,i,p,rfl,q,n,r,s,t,u⟩
 .subst m;exact⟨none,0,rfl,λa c=>absurd c Zm⟩
 .refine⟨_,i,rfl,λa c=>?_⟩;exact⟨k,rfl,dt n Zg (o a c)⟩
def dL.a6{v a}(d:dL v a b):rl b v a.length 1 λc=>U (a.getD c 0):=
 Dq d _ λc e=>by grind
def oc.a6{v a}(d:oc v a b):rl b v a.length 1 λc=>.string ⟨(a.getD c []).toArray⟩:=
 Dq d _ λc e=>by grind
def rO{i}(j:bB h d c g a i b)(q:g<=1000000000)(e:Zb):Calls prog 90 #[i.nv,Zs e] b λm p=>m=.returned (U (ce a e))/\p=b:=by
 have n:=j.bc;unfold ai.sz at n;refine Sv (l:=a.K.map (·.s)) ?_ Zg e;rw[YU];refine Dq j.K _ λo r=>?_;have:=sZ (f:=mV) (k:=4) (λ_=>rfl) a.K o 0 Zm;simp_all
def tp{u}(j:bB h d c g a u b){i:Nat}(K:i<a.K.length):∃e o,u.nv=.slice (some ⟨e,0,none⟩) a.K.length o/\b.cell? ⟨e,i*4,none⟩=some (.string ⟨(a.K.getD i iC).s.toArray⟩)/\b.cell? ⟨e,i*4+1,none⟩=some (U (a.K.getD i iC).a7)/\b.cell? ⟨e,i*4+2,none⟩=some (U (a.K.getD i iC).n)/\b.cell? ⟨e,i*4+3,none⟩=some (U (a.K.getD i iC).y)/\(∀i,b.frozen? ⟨e,i,none⟩=false)/\e<b.heap.size/\e≠d:=by
 have m:=λD B=>sZ (f:=mV) (k:=4) (λ_=>rfl) a.K i D B;have l:a.K[i]? = some (a.K.getD i iC):=Zg;obtain⟨e,o,p,v,A,C⟩:=mW j.K (m 0 Zm |>.trans (by rw[l];rfl));obtain⟨H,E,q,w,_⟩:=mW j.K (m 1 Zm |>.trans (by rw[l];rfl));obtain⟨I,F,r,x,_⟩:=mW j.K (m 2 Zm |>.trans (by rw[l];rfl));obtain⟨J,G,t,y,_⟩:=mW j.K (m 3 Zm |>.trans (by rw[l];rfl));rw[p]at q r t;simp at q r t;obtain⟨rfl,rfl⟩:=q;obtain⟨rfl,rfl⟩:=r;obtain⟨rfl,rfl⟩:=t;exact⟨e,o,p,v,w,x,y,A,C,λz=>j.nd.n (by rw[p,z];rfl)⟩
theorem uw{b}(c:0<=ce a b):(ce a b).toNat<a.K.length:=by
 unfold ce pi at *
 split at c
 .rename_i d;rw[Y9 d];grind [List.length_map]
 omega
end
section
variable {X : Nat -> Prop} {a d : Nat} {e : Zb} {b : ai} {c : Zw}
theorem fM(a c b:Nat):(Value.slice (some ⟨a,0,none⟩) c b).ownBlock=some a:=rfl
def bB.j1{k h}{g:Option Nat}{o:Nat}(m:bB X a e d b k c)(D:∀f,g=some f->f∈k.b9 a)(J:g≠some a)(B:c.grownBy h g)(I:g=some o\/o=c.heap.size)(j:Nat)(l:Zv) :
  o≠a/\(∀f,f∈k.b9 a\/f∈k.bC->g≠some f->o≠f)/\an [a] h (h.setCell ⟨a,j,none⟩ l)/\an (g.toList++[a]) c (h.setCell ⟨a,j,none⟩ l)/\(∀f,g≠some f->f≠a->f ∉ g.toList++[a])/\(∀f∈k.bC,g≠some f/\f≠a)/\h.heap[a]? = c.heap[a]?/\∀(v:Nat) (n:bD) (p:Zv×Zv),b.A[v]? = some n->k.ls[v]? = some p->dL p.1 n.aR (h.setCell ⟨a,j,none⟩ l)/\dL p.2 n.bz (h.setCell ⟨a,j,none⟩ l):=by
 have w:=gt B;have x:an [a] h (h.setCell ⟨a,j,none⟩ l):=(ao [a] h).aH (p:=⟨a,j,none⟩) Zq _;have K:=m.lt;have s:an (g.toList++[a]) c (h.setCell ⟨a,j,none⟩ l):=w.cons x (λF C=>by grind) (λF C=>by grind);have t:∀f,g≠some f->f≠a->f ∉ g.toList++[a]:=λf G H=>by simp_all
 have y:∀f∈k.bC,g≠some f/\f≠a:=λf i=>⟨λr=>m.ca f i (D f r),λr=>m.ca f i (by rw[r];simp[PV.b9])⟩;refine⟨?_,?_,x,s,t,y,w.L a (au m.ap) Zu,?_⟩
 .grind [PV.b9]
 .grind
 .intro j n p E u;obtain⟨z,A⟩:=m.d8 j n p E u;have q:=λf i=>y f (lM u i);exact⟨z.bC s λf i=>t f (q f (Y8 i)).1 (q f (Y8 i)).2,A.bC s λf i=>t f (q f (Ya i)).1 (q f (Ya i)).2⟩
def bB.k3{s u m}{q v:Nat}(f:bB X a e d b s c)(D:c.grownBy u s.nv.ownBlock)(G:u.ownsRow 0 119 4 (.slice (some ⟨q,0,none⟩) (b.K.length+1) v) (b.K.length+1) (b.K.flatMap mV++mV m))(A:s.nv.ownBlock=some q\/q=c.heap.size)(F:q<u.heap.size) :
  bB X a e (d+1) { b with K:=b.K++[m] } { s with nv:=.slice (some ⟨q,0,none⟩) (b.K.length+1) v } (u.setCell ⟨a,8,none⟩ (.slice (some ⟨q,0,none⟩) (b.K.length+1) v)):=by
 obtain⟨E,w,H,t,z,I,C,J⟩:=f.j1 (λg=>jM) f.nd.n D A ..;refine⟨bv (i:=8) (C.trans f.ap) _,bw f.A t λg h=>z g (f.nd.rn g h) (λk=>f.nd.r Zu),?_,bw f.aq t λg h=>z g (λk=>f.nd.np g k h) (λk=>f.nd.p Zu),f.am.bC t λg h=>z g (λk=>f.nd.ng g k h) (λk=>f.nd.g Zu),f.av,?_,?_,?_,?_,λg l=>Yr (f.a3 g l) t.aD,f.fin,f.b8,f.cH,?_,f.cn⟩
 .grind [bw,fM]
 .omega
 .refine⟨f.nd.r,?_,f.nd.p,f.nd.g,?_,f.nd.rp,f.nd.rg,?_,?_,f.nd.pg⟩
  .simp[fM,E]
  .intro g h k;exact w g (Y8 (kM h)) (f.nd.rn g h) (by simpa[fM]using k)
  .intro g h k;exact w g (Y8 (lN k)) (λx=>f.nd.np g x k) (by simpa[fM]using h)
  .intro g h k;exact w g (Y8 (mw k)) (λx=>f.nd.ng g x k) (by simpa[fM]using h)
 .intro g h o;have y:g∈s.bC:=h;unfold PV.b9 at o;simp only[fM,Yg,Yn,Option.mem_toList,Yu]at o;rcases o with j|j|j|j|j
  .grind
  .exact f.ca g y (kM j)
  .grind
  .exact f.ca g y (lN j)
  .exact f.ca g y (mw j)
 .intro g h l;rcases h with o|h
  .unfold PV.b9 at o;simp only[fM,Yg,Yn,Option.mem_toList,Yu]at o;rcases o with j|j|j|j|j
   .exact f.bk g (Y8 (by rw[j];simp[PV.b9])) l
   .exact f.bk g (Y8 (kM j)) l
   .rcases A with B|B
    .exact f.bk g (Y8 (jM Zg)) l
    .have:=f.a3 g l;omega
   .exact f.bk g (Y8 (lN j)) l
   .exact f.bk g (Y8 (mw j)) l
  .exact f.bk g (Ya h) l
 .have:=f.bc;grind [ai.sz]
def bB.m7{k z A}{v:bD}{l m}{r B:Nat}(g:bB A a e d b k c)(q:∀f,X f->A f)(N:dL l v.aR c)(h:dL m v.bz c)(O:∀f,l.ownBlock=some f\/m.ownBlock=some f->A f/\¬X f)(P:c.grownBy z k.rv.ownBlock)(S:z.ownsRow 0 117 8 (.slice (some ⟨r,0,none⟩) (b.A.length+1) B) (b.A.length+1) (sf b.A k.ls++im v (l,m)))(D:k.rv.ownBlock=some r\/r=c.heap.size)(a2:r<z.heap.size) :
  bB X a e (d+1) { b with A:=b.A++[v] } { k with rv:=.slice (some ⟨r,0,none⟩) (b.A.length+1) B,ls:=k.ls++[(l,m)] } (z.setCell ⟨a,7,none⟩ (.slice (some ⟨r,0,none⟩) (b.A.length+1) B)):=by
 obtain⟨R,C,a0,u,y,a3,M,a4⟩:=g.j1 (λf=>kM) g.nd.r P D ..;have I:∀f,l.ownBlock=some f\/m.ownBlock=some f->f ∉ k.b9 a/\r≠f:=by
  intro f h;have K:=(O f h).1;have a1:f ∉ k.b9 a:=λo=>g.bk f (Y8 o) K;refine⟨a1,λi=>?_⟩;rcases D with j|j
  .grind [kM]
  .have:=g.a3 f K;omega
 have J:∀f,l.ownBlock=some f\/m.ownBlock=some f->f ∉ k.rv.ownBlock.toList++[a]:=λf h=>y f (λi=>(I f h).1 (kM i)) (λi=>(I f h).1 (by rw[i];simp[PV.b9]));refine⟨bv (i:=7) (M.trans g.ap) _,?_,bw g.K u λf h=>y f (λi=>g.nd.rn f i h) (λi=>g.nd.n Zu),bw g.aq u λf h=>y f (λi=>g.nd.rp f i h) (λi=>g.nd.p Zu),g.am.bC u λf h=>y f (λi=>g.nd.rg f i h) (λi=>g.nd.g Zu),?_,?_,?_,?_,?_,λf p=>Yr (g.a3 f (q f p)) u.aD,g.fin,g.b8,g.cH,?_,g.cn⟩
 .have:=bw S a0 (λf h=>by grind [fM]);have j:sf (b.A++[v]) (k.ls++[(l,m)])=sf b.A k.ls++im v (l,m):=by
   unfold sf;rw[List.zip_append g.av.symm,YK];simp
  simp_all
 .simp[g.av]
 .intro F a6 a5 t s;simp only[List.getElem?_append]at t s;by_cases G:F<b.A.length
  .rw[Y9 G]at t;rw[Y9 (by rw[g.av];omega)]at s;grind
  .rw[Y2 G]at t;rw[Y2 (by rw[g.av];omega)]at s;have H:F-b.A.length=0:=by
    grind
   rw[H]at t;rw[g.av,H]at s;simp at t s;subst t s;exact⟨N.bC u λf h=>J f (Y8 h),h.bC u λf h=>J f (Ya h)⟩
 .refine⟨?_,g.nd.n,g.nd.p,g.nd.g,?_,?_,?_,g.nd.np,g.nd.ng,g.nd.pg⟩
  .simp[fM,R]
  .intro f h i;exact C f (Y8 (jM i)) (λw=>g.nd.rn f w i) (by simpa[fM]using h)
  .intro f h i;exact C f (Y8 (lN i)) (λw=>g.nd.rp f w i) (by simpa[fM]using h)
  .intro f h i;exact C f (Y8 (mw i)) (λw=>g.nd.rg f w i) (by simpa[fM]using h)
 .intro f h o;have E:f∈k.bC\/(l.ownBlock=some f\/m.ownBlock=some f):=by
   unfold PV.bC at h ⊢;grind
  unfold PV.b9 at o;simp only[fM,Yg,Yn,Option.mem_toList,Yu]at o;rcases E with x|x
  .rcases o with j|j|j|j|j
   .grind
   .grind
   .exact g.ca f x (jM j)
   .exact g.ca f x (lN j)
   .exact g.ca f x (mw j)
  grind [jM,lN,mw]
 .intro f h p;rcases h with o|h
  .unfold PV.b9 at o;simp only[fM,Yg,Yn,Option.mem_toList,Yu]at o;rcases o with j|j|j|j|j
   .exact g.bk f (Y8 (by rw[j];simp[PV.b9])) (q f p)
   .rcases D with L|L
    .exact g.bk f (Y8 (kM Zg)) (q f p)
    .have:=g.a3 f (q f p);omega
   .exact g.bk f (Y8 (jM j)) (q f p)
   .exact g.bk f (Y8 (lN j)) (q f p)
   .exact g.bk f (Y8 (mw j)) (q f p)
  .have E:f∈k.bC\/(l.ownBlock=some f\/m.ownBlock=some f):=by
    unfold PV.bC at h ⊢;grind
   rcases E with h|h
   .exact g.bk f (Ya h) (q f p)
   grind
 .have:=g.bc;grind [ai.sz]
def bB.m6{o s y}{n t:Nat}(f:bB X a e d b o c)(B:c.grownBy s o.gv.ownBlock)(E:s.ownsRow 0 3 1 (.slice (some ⟨n,0,none⟩) (b.am.length+1) t) (b.am.length+1) (b.am.map (U)++[U y]))(x:o.gv.ownBlock=some n\/n=c.heap.size)(D:n<s.heap.size) :
  bB X a e (d+1) { b with am:=b.am++[y] } { o with gv:=.slice (some ⟨n,0,none⟩) (b.am.length+1) t } (s.setCell ⟨a,15,none⟩ (.slice (some ⟨n,0,none⟩) (b.am.length+1) t)):=by
 obtain⟨C,u,F,q,w,G,A,H⟩:=f.j1 (λg=>mw) f.nd.g B x ..;refine⟨bv (i:=15) (A.trans f.ap) _,bw f.A q λg h=>w g (f.nd.rg g h) (λl=>f.nd.r Zu),bw f.K q λg h=>w g (f.nd.ng g h) (λl=>f.nd.n Zu),bw f.aq q λg h=>w g (f.nd.pg g h) (λl=>f.nd.p Zu),?_,f.av,?_,?_,?_,?_,λg k=>Yr (f.a3 g k) q.aD,f.fin,f.b8,f.cH,?_,f.cn⟩
 .grind [bw,fM,dL]
 .omega
 .refine⟨f.nd.r,f.nd.n,f.nd.p,?_,f.nd.rn,f.nd.rp,?_,f.nd.np,?_,?_⟩
  .simp[fM,C]
  .intro g h l;exact u g (Y8 (kM h)) (f.nd.rg g h) (by simpa[fM]using l)
  .intro g h l;exact u g (Y8 (jM h)) (f.nd.ng g h) (by simpa[fM]using l)
  .intro g h l;exact u g (Y8 (lN h)) (f.nd.pg g h) (by simpa[fM]using l)
 .intro g h m;have v:g∈o.bC:=h;unfold PV.b9 at m;simp only[fM,Yg,Yn,Option.mem_toList,Yu]at m;rcases m with j|j|j|j|j
  .grind
  .exact f.ca g v (kM j)
  .exact f.ca g v (jM j)
  .exact f.ca g v (lN j)
  grind
 .intro g h k;rcases h with m|h
  .unfold PV.b9 at m;simp only[fM,Yg,Yn,Option.mem_toList,Yu]at m;rcases m with j|j|j|j|j
   .exact f.bk g (Y8 (by rw[j];simp[PV.b9])) k
   .exact f.bk g (Y8 (kM j)) k
   .exact f.bk g (Y8 (jM j)) k
   .exact f.bk g (Y8 (lN j)) k
   .rcases x with z|z
    .exact f.bk g (Y8 (mw Zg)) k
    .have:=f.a3 g k;omega
  .exact f.bk g (Ya h) k
 .have:=f.bc;grind [ai.sz]
def bB.m4{s u}{o:List ct}{q v:Nat}(f:bB X a e d b s c)(D:c.grownBy u s.pv.ownBlock)(G:u.ownsRow 0 288 5 (.slice (some ⟨q,0,none⟩) (b.aq.length+o.length) v) (b.aq.length+o.length) (b.aq.flatMap gn++o.flatMap gn))(z:s.pv.ownBlock=some q\/q=c.heap.size)(F:q<u.heap.size) :
  bB X a e (d+o.length) { b with aq:=b.aq++o } { s with pv:=.slice (some ⟨q,0,none⟩) (b.aq.length+o.length) v } (u.setCell ⟨a,9,none⟩ (.slice (some ⟨q,0,none⟩) (b.aq.length+o.length) v)):=by
 obtain⟨E,w,H,t,y,I,C,J⟩:=f.j1 (λg=>lN) f.nd.p D z ..;refine⟨bv (i:=9) (C.trans f.ap) _,bw f.A t λg h=>y g (f.nd.rp g h) (λk=>f.nd.r Zu),bw f.K t λg h=>y g (f.nd.np g h) (λk=>f.nd.n Zu),?_,f.am.bC t λg h=>y g (λk=>f.nd.pg g k h) (λk=>f.nd.g Zu),f.av,?_,?_,?_,?_,λg l=>Yr (f.a3 g l) t.aD,f.fin,f.b8,f.cH,?_,f.cn⟩
 .grind [bw,fM]
 .omega
 .refine⟨f.nd.r,f.nd.n,?_,f.nd.g,f.nd.rn,?_,f.nd.rg,?_,f.nd.ng,?_⟩
  .simp[fM,E]
  .intro g h k;exact w g (Y8 (kM h)) (f.nd.rp g h) (by simpa[fM]using k)
  .intro g h k;exact w g (Y8 (jM h)) (f.nd.np g h) (by simpa[fM]using k)
  .intro g h k;exact w g (Y8 (mw k)) (λB=>f.nd.pg g B k) (by simpa[fM]using h)
 .intro g h m;have x:g∈s.bC:=h;unfold PV.b9 at m;simp only[fM,Yg,Yn,Option.mem_toList,Yu]at m;rcases m with j|j|j|j|j
  .grind
  .exact f.ca g x (kM j)
  .exact f.ca g x (jM j)
  .grind
  .exact f.ca g x (mw j)
 .intro g h l;rcases h with m|h
  .unfold PV.b9 at m;simp only[fM,Yg,Yn,Option.mem_toList,Yu]at m;rcases m with j|j|j|j|j
   .exact f.bk g (Y8 (by rw[j];simp[PV.b9])) l
   .exact f.bk g (Y8 (kM j)) l
   .exact f.bk g (Y8 (jM j)) l
   .rcases z with A|A
    .exact f.bk g (Y8 (lN Zg)) l
    .have:=f.a3 g l;omega
   .exact f.bk g (Y8 (mw j)) l
  .exact f.bk g (Ya h) l
 .have:=f.bc;grind [ai.sz]
end
section
variable {X d : Nat -> Prop} {c e : Nat} {f : Zb} {a : ai} {w : Zw}
def TP:(prog.info? 117).map (λa=>(a.zero,a.size,a.bytes))=some (some (.agg #[U 0,U 0,U 0,.slice none 0 0,.slice none 0 0,U 0,.string ⟨#[]⟩,U 0]),8,104):=Zk
def bB.ah{b h}(d:bB X c f e a b w)(g:an [] w h):bB X c f e a b h:=d.gE g Zq (λ_=>Y8) (λi j=>Yr (d.a3 i j) g.aD)
def bM{w:Zw}{c d f b v g}(e:w.ownsRow c d f v b g):∃ad a,v=.slice ad b a:=by
 rcases e.2 with⟨rfl,rfl⟩|⟨i,a,h,rfl,_⟩
 .exact⟨none,0,rfl⟩
 .exact⟨_,a,rfl⟩
def bB.i6{b h g}(d:bB X c f e a b w)(j:w.grownBy h g)(k:g≠some c):h.heap[c]? = some (pA f a.s (ul b a)):=(j.block c (au d.ap) (λi=>k i.symm)).trans d.ap
def Gz{b:Nat}{a c d e f g h i:Zv}{k}{w:Zw}(j:w.heap[b]? = some (.cells #[a,c,d,e,f,g,h,i] k)) :
  w.cell? (Zd b 0)=some a/\w.cell? (Zd b 1)=some c/\w.cell? (Zd b 2)=some d/\w.cell? (Zd b 3)=some e/\w.cell? (Zd b 4)=some f/\w.cell? (Zd b 5)=some g/\w.cell? (Zd b 6)=some h/\w.cell? (Zd b 7)=some i/\(∀l,w.frozen? ⟨b,l,none⟩=false)/\b<w.heap.size:=by
 refine⟨?_,?_,?_,?_,?_,?_,?_,?_,?_,au j⟩<;>simp[World.cell?,World.frozen?,j]
def dj(b:bD)(a:ai):ai:={ a with A:=a.A++[b] }
def KW(p:cd d c f e a w)(b1:∀b,X b->d b)(q:bD)(i j:Zv)(L:dL i q.aR w)(F:dL j q.bz w)(b2:∀b,i.ownBlock=some b\/j.ownBlock=some b->d b/\¬X b)(d6:e<=1000000000) :
  Calls prog 46 #[Zp c,.agg (im q (i,j)).toArray] w λa8 g=>a8=.returned (U a.A.length)/\cd X c f (e+1) (dj q a) g/\Fr d w g:=by
 obtain⟨c1,k⟩:=p;obtain⟨c2,c9,d0,d1,d2,d3,a6,d4,d5,c3,c4,c5,c6,c7,c8,d9,e1⟩:=k.al;have J:=k.bc;unfold ai.sz at J;have b3:(a.A.length+1)*104<=140737488355328:=Zm;have e0:(a.A.length:Int)+1-1=a.A.length:=Zm;obtain⟨z,A,C,R,a1,v,D,t⟩:=q;have d7:i.oneCell'=true:=by obtain⟨_,_,rfl⟩:=bM L;rfl
 have d8:j.oneCell'=true:=by obtain⟨_,_,rfl⟩:=bM F;rfl
 have b8:∀a2∈im ⟨z,A,C,R,a1,v,D,t⟩ (i,j),a2.oneCell'=true:=by
  intro a2 P;simp[im]at P;rcases P with rfl|rfl|rfl|rfl|rfl|rfl|rfl|rfl<;>first|rfl|assumption
 have c0:∀S a0,an [] w (((w.alloc S).alloc a0).drew):=λS a0=>(((ao [] w).H _).H _).aU;have h:=aa (Yp k (Yp L (Yp F (Yp b2 J))));have m:=aa c0;obtain⟨jv,u,y⟩:=bM k.A;rw[y]at a6;have b6:(Value.slice jv a.A.length u).ownBlock≠some c:=by rw[<-y];exact k.nd.r
 have b7:∀b,(Value.slice jv a.A.length u).ownBlock=some b->b<w.heap.size:=λb F=>(hR k.A Zu).2;have l:=aa (Yp y (Yp b6 b7));have b9:=aa (y▸k.A);have a4:=aa b1;show Calls _ _ #[_,.agg #[U z,U A,U C,i,j,U v,Zs D,U t]] ..;go_in;go_wp21;refine cy (λg=>g.cell? (Zd c 7)=some (.slice jv a.A.length u)/\g.cell? (Zd w.heap.size 0)=some (U z)/\g.cell? (Zd w.heap.size 1)=some (U A)/\g.cell? (Zd w.heap.size 2)=some (U C)/\g.cell? (Zd w.heap.size 3)=some i/\g.cell? (Zd w.heap.size 4)=some j/\g.cell? (Zd w.heap.size 5)=some (U v)/\g.cell? (Zd w.heap.size 6)=some (Zs D)/\g.cell? (Zd w.heap.size 7)=some (U t)) ?_ λK=>?_
 .go_keep
 refine bI [0,1,2,3,4,5,6] ?_;iterate 7 (refine bK ?_)
 refine bJ ?_;refine cx 7 λI n=>?_;go_simp;refine n.out _ _ ?_ (λK=>?_)
 .go_keep
 refine nz ?_;refine cx 8 λI n=>?_;(refine mC (B:=w.heap.size+1) TP underlying58 (bw b9.w (m.w ..) Zq) (im ⟨z,A,C,R,a1,v,D,t⟩ (i,j)) (aQ (w:=w.alloc _) Zq) b8 b3 Zm (H:=w.heap.size+2) Zq ?_;intro b0 a7 r O x M b4;have o:=(h.w.1.ah (m.w ..)).i6 x l.w.2.1;have f2:r.cell? (Zd c 7)=some (.slice jv a.A.length u):=(by rw[<-l.w.1];exact aS o rfl);have f3:=dw o;have f4:=au o;obtain⟨e2,e3,e4,e5,e6,e7,e8,e9,f0,f1⟩:=Gz (w:=r) (b:=w.heap.size) ((x.block _ Zx (λE=>by have:=l.w.2.2 _ E.symm;omega)).trans ((Below.heap_alloc _ _ _ Zq).trans (aQ rfl)));have s:=aa (Yp x (Yp M (Yp O o)));clear x M O o);refine n.out _ _ ?_ (λK=>?_)
 .go_keep
 refine nz ?_;refine bI [9,10,11] ?_;iterate 3 (refine bK ?_)
 refine bJ ?_;refine cw λI n=>?_;go_simp;refine n.out _ _ ?_;refine nz ?_;have N:=s.w.1;rw[<-l.w.1]at N;have a5:=aa ((h.w.1.ah (m.w ..)).m7 (X:=X) a4.w (h.w.2.1.bC (m.w ..) Zq) (h.w.2.2.1.bC (m.w ..) Zq) h.w.2.2.2.1 N s.w.2.2.1 (by rw[l.w.1];exact s.w.2.1.imp id (λE=>by rw[E];simp)) b4);have a3:af (Fr d w (r.setCell ⟨c,7,none⟩ (.slice (some ⟨b0,0,none⟩) (a.A.length+1) a7))):=by
  have a9:Fr d w r:=((nU d w).c6 (m.w ..) Zq).c6 (gt s.w.1) (λH b5 G=>absurd G (h.w.1.bk H (Y8 (kM (by rw[l.w.1];grind)))));exact a9.c6 ((ao [c] r).aH (p:=⟨c,7,none⟩) Zq _) (λH b5 G=>absurd G (h.w.1.bk H (Y8 (by grind [PV.b9]))))
 go_wp2;go_ret;refine⟨?_,⟨_,a5.w⟩,a3.w⟩;rfl
end
section
variable {d l : Nat -> Prop} {c g : Nat} {h : Zb} {a : ai} {b : Zw}
def xM{g:Type}{f:g->Zl}{k:Nat}(l:∀c,(f c).length=k):∀(b:List g) (a d:Nat) (c e:g) (v:Zv),d<k->b[a]? = some c->f e=(f c).set d v->(b.flatMap f).set (a*k+d) v=(b.set a e).flatMap f:=by
 intro b;induction b with
 |nil=>simp
 |cons h b n=>
  intro a d c e v m i j;cases a with
  |zero=>
   simp_all
  |succ a=>
   grind
def yq{f g}{k c a d:Nat}{e}(h:b.ownsRow f g k (.slice (some ⟨a,0,none⟩) c d) c e){i:Nat}(x:i<e.length)(v:Zv):(b.setCell ⟨a,i,none⟩ v).ownsRow f g k (.slice (some ⟨a,0,none⟩) c d) c (e.set i v):=by
 refine⟨by rw[YF];exact h.1,?_⟩;rcases h.2 with⟨s,t⟩|⟨r,p,q,j,l,m,n,o,u,w⟩
 .grind
 .simp at j;obtain⟨rfl,rfl⟩:=j;refine Ya ⟨a,d,_,rfl,l,bv m v,n,o,?_,?_⟩;all_goals grind [List.take_set]
def iO(a:ai)(b:Nat)(c n:Int):ai:={ a with K:=a.K.set b { a.K.getD b iC with a7:=c,n:=n } }
theorem bB.ms{o}(j:bB d c h g a o b){i m B:Nat}(I:i<a.K.length)(v:o.nv=.slice (some ⟨m,0,none⟩) a.K.length B)(q n:Int) :
  bB d c h g (iO a i q n) o ((b.setCell ⟨m,i*4+1,none⟩ (U q)).setCell ⟨m,i*4+2,none⟩ (U n)):=by
 have H:o.nv.ownBlock=some m:=by rw[v];rfl
 have p:an [m] b ((b.setCell ⟨m,i*4+1,none⟩ (U q)).setCell ⟨m,i*4+2,none⟩ (U n)):=((ao [m] b).aH (p:=⟨m,i*4+1,none⟩) Zq _).aH (p:=⟨m,i*4+2,none⟩) Zq _;have r:∀e,o.nv.ownBlock≠some e->e ∉ [m]:=λe l K=>by
  simp_all
 have w:∀e∈o.bC,o.nv.ownBlock≠some e:=λe l s=>j.ca e l (jM s);have J:(a.K.flatMap mV).length=a.K.length*4:=j.K.1;refine⟨(p.L c (au j.ap) (r c j.nd.n)).trans j.ap,bw j.A p λe l=>r e (j.nd.rn e l),?_,bw j.aq p λe l=>r e (λs=>j.nd.np e s l),j.am.bC p λe l=>r e (λs=>j.nd.ng e s l),j.av,?_,j.nd,j.ca,j.bk,λe E=>Yr (j.a3 e E) p.aD,j.fin,j.b8,j.cH,?_,j.cn⟩
 .have C:a.K[i]? = some (a.K.getD i iC):=Zg;have x:=j.K;rw[v]at x ⊢;have y:=yq (yq x (i:=i*4+1) Zm (U q)) (i:=i*4+2) Zg (U n);rw[xM (f:=mV) (k:=4) (λ_=>rfl) a.K i 1 (a.K.getD i iC) { a.K.getD i iC with a7:=q } _ Zm C rfl]at y;rw[xM (f:=mV) (k:=4) (λ_=>rfl) _ i 2 { a.K.getD i iC with a7:=q } { a.K.getD i iC with a7:=q,n:=n } _ Zm Zg rfl]at y;grind [List.set_set,iO]
 .intro F G u D t;obtain⟨z,A⟩:=j.d8 F G u D t;exact⟨z.bC p λe l=>r e (w e (lM t (Y8 l))),A.bC p λe l=>r e (w e (lM t (Ya l)))⟩
 .have:=j.bc;grind [ai.sz,iO]
def bB.l9{m}(e:bB d c h g a m b):bB d c h (g+1) { a with aN:=a.aN+1 } m (b.setCell ⟨c,13,none⟩ (U (a.aN+1))):=by
 have o:=bv (i:=13) e.ap (U (a.aN+1));have C:=e.bm (s:=a.s) (w':=b) e.ap (ao ..) e.fin e.b8;have i:an [c] b (b.setCell ⟨c,13,none⟩ (U (a.aN+1))):=(ao [c] b).aH (p:=⟨c,13,none⟩) Zq _;have l:∀{v:Zv},v.ownBlock≠some c->∀f,v.ownBlock=some f->f ∉ [c]:=λB f k p=>by
  simp_all
 have t:∀j,j∈m.bC->j ∉ [c]:=λj o p=>by
  simp only[Yc]at p;exact e.ca j o (by rw[p];simp[PV.b9])
 refine⟨o,bw e.A i (l e.nd.r),bw e.K i (l e.nd.n),bw e.aq i (l e.nd.p),e.am.bC i (l e.nd.g),e.av,?_,e.nd,e.ca,e.bk,λj z=>Yr (e.a3 j z) i.aD,e.fin,e.b8,e.cH,?_,?_⟩
 .intro r A u y q;obtain⟨w,x⟩:=e.d8 r A u y q;exact⟨w.bC i λf k=>t f (lM q (Y8 k)),x.bC i λf k=>t f (lM q (Ya k))⟩
 .have:=e.bc;grind [ai.sz]
 .have:=e.cn;grind
def eK(b:Zb)(d:Int)(a:ai):ai:=let c:=if 0<=ce a b then iO a (ce a b).toNat 0 d else a
 { c with aN:=c.aN+1 }
def eH(b:Zb)(c:Int)(a:ai):ai:=if 0<=ce a b then iO a (ce a b).toNat 1 c else a
def HD{f}(m:bB d c h g a f b){e q l i j:Nat}(n:f.nv=.slice (some ⟨e,0,none⟩) q l)(r s:Zv):Fr d b ((b.setCell ⟨e,i,none⟩ r).setCell ⟨e,j,none⟩ s):=
 wW (((ao [e] b).aH (p:=⟨e,i,none⟩) Zq _).aH (p:=⟨e,j,none⟩) Zq _) λo k _=>by
  simp only[Yc]at k;exact m.bk o (Y8 (jM (by rw[n,k];rfl)))
def wJ(w:cd d c h g a b)(e:Zb)(f:Int)(v:g<=1000000000):Calls prog 150 #[Zp c,Zs e,U f] b (GP d c h g (eH e f a) (.tuple #[]) b):=by
 obtain⟨q,j⟩:=w;obtain⟨y,F,G,H,I,J,K,t,L,z,A,B,C,D,E,P,a1⟩:=j.al;have o:=aa (rO j v e);by_cases l:0<=ce a e
 .have r:=uw l;obtain⟨N,M,p,-,a2,a3,-,a4,a5,R⟩:=tp j r;have n:af (eH e f a=iO a (ce a e).toNat 1 f):=Y9 l;have k:=aa (Yp (j.ms r p 1 f) (HD (i:=(ce a e).toNat*4+1) (j:=(ce a e).toNat*4+2) j p (U 1) (U f)));rw[p]at t o;generalize S:ce a e=m at *
  obtain⟨m,rfl⟩:∃s:Nat,m=s:=⟨m.toNat,Zm⟩;simp only[Int.toNat_natCast]at *
  have a0:(m:Int)<(a.K.length:Int):=Zm;go_in;go_wp21;refine o.w.mono ?_;rintro u x ⟨rfl,rfl⟩;go_wp2;go_end0;rw[n.w];exact⟨rfl,⟨q,k.w.1⟩,k.w.2⟩
 .have n:af (eH e f a=a):=Y2 l;have O:¬(0<=ce a e):=l;have k:=aa j;go_in;go_wp21;refine o.w.mono ?_;rintro u x ⟨rfl,rfl⟩;go_wp2;go_end0;rw[n.w];exact⟨rfl,⟨q,k.w⟩,nU ..⟩
def zW{e}(f:bB d c h g a e b){i:Nat}(j:Zv):Fr d b (b.setCell ⟨c,i,none⟩ j):=f.fr ((ao [c] b).aH (p:=⟨c,i,none⟩) Zq _)
def Ik(y:cd d c h g a b)(e:Zb)(j:Int)(x:g<=1000000000):Calls prog 145 #[Zp c,Zs e,U j] b (GP d c h (g+1) (eK e j a) (.tuple #[]) b):=by
 obtain⟨q,f⟩:=y;obtain⟨A,H,I,J,K,L,M,u,N,B,C,D,E,F,G,a3,a7⟩:=f.al;have n:=aa (rO f x e);have w:=f.bc;have P:=f.cn.1;unfold ai.sz at w;have R:IntKind.i64.wrap (a.aN+1)=a.aN+1:=by rw[IntKind.wrap_i64];omega
 have a1:-9223372036854775808<=a.aN+1:=Zm;have a2:a.aN+1<=9223372036854775807:=Zm;by_cases o:0<=ce a e
 .have r:=uw o;obtain⟨S,O,p,-,a8,a9,-,b0,b1,a4⟩:=tp f r;have m:af (eK e j a = { iO a (ce a e).toNat 0 j with aN:=a.aN+1 }):=by
   show _=_;unfold eK;rw[Y9 o];rfl
  have t:=f.ms r p 0 j;have k:=aa (Yp t.l9 ((HD (i:=(ce a e).toNat*4+1) (j:=(ce a e).toNat*4+2) f p (U 0) (U j)).u (zW t (i:=13) (U (a.aN+1)))));rw[p]at u n;generalize a5:ce a e=l at *
  obtain⟨l,rfl⟩:∃s:Nat,l=s:=⟨l.toNat,Zm⟩;simp only[Int.toNat_natCast]at *
  have a6:(l:Int)<(a.K.length:Int):=Zm;go_in;go_wp21;refine n.w.mono ?_;rintro v z ⟨rfl,rfl⟩;go_wp2;go_end0;rw[m.w];exact⟨rfl,⟨q,k.w.1⟩,k.w.2⟩
 .have m:af (eK e j a = { a with aN:=a.aN+1 }):=by
   show _=_;simp_all[eK,Y2]
  have a0:¬(0<=ce a e):=o;have k:=aa (Yp f.l9 (zW f (i:=13) (U (a.aN+1))));go_in;go_wp21;refine n.w.mono ?_;rintro v z ⟨rfl,rfl⟩;go_wp2;go_end0;rw[m.w];exact⟨rfl,⟨q,k.w.1⟩,k.w.2⟩
def mO(b pt:Int)(a:ai):ai:=if a.s.e=0/\pt<=b then cm 5 a.s.x.y a else a
def aV(b pt:Int)(a:ai):ai:=mO b pt (if a.s.e=0/\a.s.x.F=5 then ew a else a)
def rQ(v:cd d c h g a b)(f pt:Int):Calls prog 85 #[Zp c,U f,U pt] b (GP d c h g (aV f pt a) (.tuple #[]) b):=by
 by_cases N:a.s.e=0/\a.s.x.F=5
 .have q:af (aV f pt a=mO f pt (ew a)):=by show _=_;unfold aV;simp_all
  have E:=aa (sM v);obtain⟨j,n⟩:=v;obtain⟨F,-,-,-,-,-,-,-,-,-,z,-,-,-,-,C,D⟩:=n.al;have B:(a.s.e==0)=true:=Zu;have I:((a.s.x.F:Int)==5)=true:=Zu;go_in;go_wp21;refine E.w.mono ?_;rintro A O ⟨rfl,⟨j,n⟩,L⟩;obtain⟨-,-,G,-,-,-,-,-,-,-,z,-,-,-,-,C,D⟩:=n.al;have l:=aa n;have k:=aa L;generalize ew a=m at *
  by_cases p:m.s.e=0
  .have t:(m.s.e==0)=true:=Zu;by_cases J:pt<=f
   .have i:af (aV f pt a=cm 5 m.s.x.y m):=by
     show _=_;rw[q.w];simp_all[mO]
    have r:=aa (mM ⟨j,l.w⟩ 5 m.s.x.y);go_wp21;refine r.w.mono ?_;rintro A M ⟨rfl,w,u⟩;have o:=aa (Yp w u);go_wp2;go_end0;rw[i.w];exact⟨rfl,o.w.1,k.w.u o.w.2⟩
   .have K:decide (pt<=f)=false:=Zu;have i:af (aV f pt a=m):=by
     show _=_;rw[q.w];simp_all[mO,Y2]
    go_wp2;go_end0;rw[i.w];exact⟨rfl,⟨j,l.w⟩,k.w⟩
  .have t:(m.s.e==0)=false:=Zu;have i:af (aV f pt a=m):=by
    show _=_;rw[q.w];simp_all[mO]
   first
    |exact absurd y.w p
    |(clear p;go_wp2;go_end0;rw[i.w];exact⟨rfl, ⟨j, l.w⟩, k.w⟩)
 .have q:af (aV f pt a=mO f pt a):=by show _=_;unfold aV;grind
  obtain⟨j,n⟩:=v;obtain⟨F,-,G,-,-,-,-,-,-,-,z,-,-,-,-,C,D⟩:=n.al;have l:=aa n;have k:=aa (nU d b);by_cases H:a.s.e=0
  .have B:(a.s.e==0)=true:=Zu;have I:((a.s.x.F:Int)==5)=false:=Zg;have y:=aa H;go_in;by_cases p:a.s.e=0
   .have t:(a.s.e==0)=true:=Zm;by_cases J:pt<=f
    .have i:af (aV f pt a=cm 5 a.s.x.y a):=by
      simp_all[mO]
     have r:=aa (mM ⟨j,l.w⟩ 5 a.s.x.y);go_wp21;refine r.w.mono ?_;rintro A M ⟨rfl,w,u⟩;have o:=aa (Yp w u);go_wp2;go_end0;rw[i.w];exact⟨rfl,o.w.1,k.w.u o.w.2⟩
    .have K:decide (pt<=f)=false:=Zu;have i:af (aV f pt a=a):=by
      simp_all[mO]
     go_wp2;go_end0;rw[i.w];exact⟨rfl,⟨j,l.w⟩,k.w⟩
   .have t:(a.s.e==0)=false:=Zu;have i:af (aV f pt a=a):=by
     simp_all
    first
     |exact absurd y.w p
     |(clear p;go_wp2;go_end0;rw[i.w];exact⟨rfl, ⟨j, l.w⟩, k.w⟩)
  .have B:(a.s.e==0)=false:=Zu;have i:af (aV f pt a=a):=by
    simp_all[mO]
   go_in;go_wp2;go_end0;rw[i.w];exact⟨rfl,⟨j,l.w⟩,k.w⟩
end
section
variable {f g h i j k:Zv}
variable {d m : Nat -> Prop} {c l : Nat} {a : Zb} {b : ai} {w : Zw}
abbrev wA(w:Zw)(a:Nat)(f g h i j k:Zv):Zw:=(((((w.setCell ⟨a,0,none⟩ f).setCell ⟨a,1,none⟩ g).setCell ⟨a,2,none⟩ h).setCell ⟨a,3,none⟩ i).setCell ⟨a,4,none⟩ j).setCell ⟨a,5,none⟩ k
def Dk(w:Zw)(a:Nat)(f g h i j k:Zv):an [a] w (wA w a f g h i j k):=
 ((((((ao [a] w).aH (p:=⟨a,0,none⟩) Zq f).aH (p:=⟨a,1,none⟩) Zq g).aH (p:=⟨a,2,none⟩) Zq h).aH (p:=⟨a,3,none⟩) Zq i).aH (p:=⟨a,4,none⟩) Zq j).aH (p:=⟨a,5,none⟩) Zq k
def cd.h9{e}(m:cd d c a l b w)(n:d e):cd d c a l b (wA w e f g h i j k):=m.ac (Dk w e f g h i j k) (by simpa using n)
def Fr.h9{b}{a:Nat}(c:Fr d b w)(l:b.heap.size<=a):Fr d b (wA w a f g h i j k):=c.c6 (Dk w a f g h i j k) (λm e _=>by simp at e;omega)
abbrev oZ:Obj:=.cells #[U 0,.string ⟨#[]⟩,U 0,U 0,U 0,U 0] 112
abbrev oW(a:fI):Obj:=.cells (gW a) 112
def HW:(prog.info? 119).map (λa=>(a.zero,a.size,a.bytes))=some (some (.agg #[.string ⟨#[]⟩,U 0,U 0,U 0]),4,40):=Zk
def bi(a:Zb)(c:Int)(b:ai):fI×ai:=
 if(dT a b).2.s.e≠0 then dT a b
 else if 0<=ce (dT a b).2 (dT a b).1.text then ((dT a b).1,cm 6 (dT a b).1.y (dT a b).2)
 else ((dT a b).1,{ (dT a b).2 with K:=(dT a b).2.K++[⟨(dT a b).1.text,c,-1,(dT a b).1.y⟩] })
def GW(d:Nat->Prop)(c:Nat)(a:Zb)(l:Nat)(b:fI×ai)(w:Zw)(f:Ending)(e:Zw):Prop:=f=.returned (.agg (gW b.1))/\cd d c a l b.2 e/\Fr d w e/\b.1.text.length<=2000
def Ev{b:Nat}(a:fI)(c:w.heap[b]? = some oZ):(wA w b (U a.F) (Zs a.text) (U a.y) (U a.fin) (U a.n) (U a.e)).heap[b]? = some (oW a):=yC c
def UP{a:Nat}{b}(i:w.heap[a]? = some (oW b)):(loadVar 112 ⟨a,0,none⟩).run prog w=.ok (.agg (gW b)) w:=by
 obtain⟨c,d,e,f,g,h,j,k⟩:=fs i;simp[go_sem,c,d,e,f,g,h]
def sd{c:Func}{Q:Ending->Zw->Prop}{a:Act}{R b:Nat}{x:fI}(i:c.results=#[.cell b 112])(e:a.tmps.getD b undef=Zp R)(g:a.defers=[])(d:w.heap[R]? = some (oW x))(h:Q (.returned (.agg (gW x))) w):bodyPost prog c Q .ret a w:=by
 refine bodyPost_ret (v:=.agg (gW x)) ?_ g h;have:=UP d;unfold results;rw[i];obtain⟨j,k,l,m,n,o,p,q⟩:=fs d;have f:a.tmps[b]?.getD undef=Zp R:=by simpa using e
 simp[f,go_sem,j,k,l,m,n,o]
def vU(p:cd d c a l b w)(j:Int)(c5:l<=1000000000):Calls prog 142 #[Zp c,U j] w (GW d c a (l+1) (bi a j b) w):=by
 have c1:=aa (Fk (p.H oZ));have g6:c<w.heap.size:=by obtain⟨c0,A⟩:=p;exact au A.ap
 have b8:=aa p;go_in;go_wp21;refine c1.w.mono ?_;rintro a6 g ⟨⟨rfl,b4,a0⟩,d3⟩;have a8:w.heap.size<g.heap.size:=Yr Zq a0.aD;have a4:g.heap[w.heap.size]? = some oZ:=((a0.L _ Zq rz).trans (aQ rfl));obtain⟨i5,i6,i7,i8,i9,j0,j2,j4⟩:=fs a4;have L:=aa a4;generalize D:dT a b=d9 at *
 obtain⟨e,f⟩:=d9;simp only at *
 have O:=aa ((((nU d w).H oZ).u a0.bY));have a3:=aa b4;obtain⟨c0,A⟩:=b4;obtain⟨e8,f5,f6,f7,f8,f9,g0,c2,g1,e9,f0,f1,f2,f3,f4,g5,g7⟩:=A.al;obtain⟨jv,y,r⟩:=bM A.K;rw[r]at c2;have h:=aa A;have a2:=aa r;have N:=aa D;have M:=aa d3;by_cases S:f.s.e=0
 .have b0:(f.s.e != 0)=false:=Zu;have G:=aa (λE=>rO ((h.w.ah ((ao [] g).H E)).ah (ao [] _).aU) c5 e.text);rw[a2.w]at G;go_wp21;refine cy (λu=>u.cell? (Zd c 8)=some (.slice jv f.K.length y)/\u.cell? (Zd g.heap.size 1)=some (Zs e.text)) ?_ λH=>?_
  .go_keep
  refine bI [0,1,2,3,4,5,6] ?_;iterate 7 (refine bK ?_)
  refine bJ ?_;refine cx 7 λF i=>?_;(go_simp;refine(G.w _).mono ?_;rintro a6 h6 ⟨rfl,rfl⟩);refine i.out _ _ ?_ (λH=>?_)
  .go_keep
  refine nz ?_;refine cw λF i=>?_;go_simp;refine i.out _ _ ?_;refine nz ?_;have d6:=aa (λE=>(a3.w.H E).aU);by_cases P:0<=ce f e.text
  .have v:af (bi a j b=(e,cm 6 e.y f)):=by
    show _=_;unfold bi;rw[N.w,Y2 Zu,Y9 P]
   have G:=aa (λE=>mM (d6.w E) 6 e.y);go_wp21;refine(G.w _).mono ?_;rintro a6 b6 ⟨rfl,d7,a1⟩;have t:b6.heap[w.heap.size]? = some oZ:=(a1.L _ Zx (Y8 rz)).trans ((Below.heap_alloc _ _ _ a8).trans L.w);have K:b6.heap[g.heap.size]? = some (oW e):=(a1.L _ Zq rz).trans (aQ rfl);obtain⟨e0,e1,e2,e3,e4,e5,e6,e7⟩:=fs t;obtain⟨g8,g9,h0,h1,h2,h3,h4,h5⟩:=fs K;have Q:=aa (Yp d7 (Yp ((O.w.H _).aU.u a1.bY.bY) t));go_wp2;refine sd (R:=w.heap.size) (x:=e) Zr Zr rfl (Ev e Q.w.2.2) ?_;rw[v.w];exact⟨rfl,(Q.w.1.h9 (Y8 rz)).bY.bY.a2 Zm,Q.w.2.1.h9 (Y4 _),M.w⟩
  .have v:af (bi a j b=(e,{ f with K:=f.K++[⟨e.text,j,-1,e.y⟩] })):=by
    show _=_;unfold bi;rw[N.w,Y2 Zu,Y2 P]
   have g4:¬(0<=ce f e.text):=P;have r:=a2.w;have c4:=h.w.bc;unfold ai.sz at c4;have c6:(f.K.length+1)*40<=140737488355328:=Zm;have d1:∀b5∈mV ⟨e.text,j,-1,e.y⟩,b5.oneCell'=true:=by
    intro b5 b3;simp[mV]at b3;rcases b3 with rfl|rfl|rfl|rfl<;>rfl
   have c9:(Value.slice jv f.K.length y).ownBlock≠some c:=by rw[<-r];exact h.w.nd.n
   have d0:∀q,(Value.slice jv f.K.length y).ownBlock=some q->q<g.heap.size/\q≠w.heap.size:=λq b0=>⟨(hR h.w.K Zu).2,λS=>h.w.bk q (Y8 (jM Zu)) (by rw[S];exact rz)⟩;have d2:=aa (r▸h.w.K);have m:=aa (Yp r (Yp c9 d0));have x:=aa (λd4 d5=>((((ao [] g).H d4).aU.H d5).aU));go_wp21;refine cy (λu=>u.cell? (Zd c 8)=some (.slice jv f.K.length y)/\u.cell? (Zd g.heap.size 1)=some (Zs e.text)/\u.cell? (Zd g.heap.size 2)=some (U e.y)) ?_ λH=>?_
   .go_keep
   refine bI [0,1,2,3,4,5,6,7,8,9,10,11] ?_;iterate 12 (refine bK ?_)
   refine bJ ?_;refine cx 12 λF i=>?_;go_simp;refine i.out _ _ ?_ (λH=>?_)
   .go_keep
   refine nz ?_;refine cx 13 λF i=>?_;(refine mC (B:=g.heap.size+1) HW underlying59 (bw d2.w (x.w _ _) Zq) (mV ⟨e.text,j,-1,e.y⟩) (aQ (w:=(g.alloc _).drew) Zq) d1 c6 Zm (H:=g.heap.size+2) Zq ?_;intro a7 a5 k b2 C a9 c7;have I:=(h.w.ah (x.w _ _)).i6 C m.w.2.1;have j1:k.cell? (Zd c 8)=some (.slice jv f.K.length y):=(by rw[<-m.w.1];exact aS I rfl);have j3:=dw I;have j5:=au I;have t:k.heap[w.heap.size]? = some oZ:=((C.block _ Zx (λz=>(m.w.2.2 _ z.symm).2 rfl)).trans (((x.w _ _).L _ a8 Zq).trans L.w));have K:k.heap[g.heap.size]? = some (oW e):=((C.block _ Zx (λz=>by have:=(m.w.2.2 _ z.symm).1;omega)).trans ((Below.heap_alloc _ _ _ Zq).trans (aQ rfl)));obtain⟨h7,h8,h9,i0,i1,i2,i3,i4⟩:=fs K;obtain⟨e0,e1,e2,e3,e4,e5,e6,e7⟩:=fs t;have o:=aa (Yp C (Yp a9 (Yp b2 t)));clear C a9 b2 I t K);refine i.out _ _ ?_ (λH=>?_)
   .go_keep
   refine nz ?_;refine bI [14,15,16] ?_;iterate 3 (refine bK ?_)
   refine bJ ?_;refine cw λF i=>?_;go_simp;refine i.out _ _ ?_;refine nz ?_;have b1:=o.w.1;rw[<-m.w.1]at b1;have b9:=aa ((h.w.ah (x.w _ _)).k3 (m:=⟨e.text,j,-1,e.y⟩) b1 o.w.2.2.1 (by rw[m.w.1];exact o.w.2.1.imp id (λz=>by rw[z];simp)) c7);have b7:af (Fr d w (k.setCell ⟨c,8,none⟩ (.slice (some ⟨a7,0,none⟩) (f.K.length+1) a5))):=by
    have c3:Fr d w k:=(O.w.c6 (x.w _ _) Zq).c6 (gt o.w.1) (λJ c8 D=>absurd (Y8 D) (h.w.bk J (Y8 (jM (by rw[m.w.1];grind)))));exact c3.c6 ((ao [c] k).aH (p:=⟨c,8,none⟩) Zq _) (λJ c8 D=>absurd (Y8 D) (h.w.bk J (Y8 (by grind [PV.b9]))))
   have d8:af ((k.setCell ⟨c,8,none⟩ (.slice (some ⟨a7,0,none⟩) (f.K.length+1) a5)).heap[w.heap.size]? = some oZ):=aa (((ao [c] k).aH (p:=⟨c,8,none⟩) Zq _).L _ (au o.w.2.2.2) Zg |>.trans o.w.2.2.2);have g2:c≠g.heap.size:=Zm;have g3:c≠w.heap.size:=Zm;go_wp2;refine sd (R:=w.heap.size) (x:=e) Zr Zr rfl (Ev e d8.w) ?_;rw[v.w];exact⟨rfl,cd.bY (b:=w.heap.size) (cd.h9 ⟨_,b9.w⟩ rz),b7.w.h9 (Y4 _),M.w⟩
 .have b0:(f.s.e != 0)=true:=Zu;have v:af (bi a j b=(e,f)):=by
   show _=_;unfold bi;rw[N.w,Y9 S]
  go_wp2;refine sd (R:=w.heap.size) (x:=e) Zr Zr rfl ((Below.heap_alloc _ _ _ Zu).trans (Ev e L.w)) ?_;rw[v.w];exact⟨rfl,(((a3.w.h9 rz).H _).bY.bY).a2 Zm,(O.w.h9 (Y4 _)).H _,M.w⟩
end
section
variable {c p : Nat -> Prop} {d f N' : Nat} {t : Zb} {g l : ai} {w h w' : Zw}
inductive Th
 |obj (b:Nat) (o:Obj)
 |row (e:TypeId) (size:Nat) (v:Zv) (n:Nat) (xs:Zl)
def Th.bZ:Th->Option Nat
 |.obj a _=>some a
 |.row _ _ v _ _=>v.ownBlock
def Th.At(w:Zw):Th->Prop
 |.obj a d=>w.heap[a]? = some d
 |.row b e v c f=>w.ownsRow 0 b e v c f
abbrev eO(v:Zv)(a:List Int):Th:=.row 3 1 v a.length (a.map (U))
abbrev cV(v:Zv)(a:Zc):Th:=.row 9 1 v a.length (a.map λb=>Zs b)
abbrev gT(v:Zv)(a:List ct):Th:=.row 288 5 v a.length (a.flatMap gn)
def iY(c:Nat->Prop)(b:List Th):Nat->Prop:=λa=>c a\/∃d∈b,d.bZ=some a
def Th.At.fr{a:Th}(b:a.At w)(g:Fr c w w')(f:∀e,a.bZ=some e->c e):a.At w':=by
 cases a with
 |obj d j=>exact(g.L d (au b) (f d rfl)).trans b
 |row h k v i l=>exact wn b g f
def Th.At.ac{a:Th}{c}(b:a.At w)(g:an c w w')(f:∀e,a.bZ=some e->e ∉ c):a.At w':=by
 cases a with
 |obj d j=>exact(g.L d (au b) (f d rfl)).trans b
 |row h k v i l=>exact bw b g f
theorem Th.At.lt{a:Th}(d:a.At w):∀b,a.bZ=some b->b<w.heap.size:=by
 intro b c;cases a with
 |obj e h=>simp[Th.bZ]at c;subst c;exact au d
 |row f i v g j=>exact(hR d c).2
structure aZ(c:Nat->Prop)(d:Nat)(t:Zb)(f:Nat)(g:ai)(L:List Th)(h w:Zw):Prop where
 aY:cd (iY c L) d t f g w
 fr:Fr c h w
 y:∀a∈L,a.At w
 aB:∀a∈L,∀b,a.bZ=some b->¬c b
 c0:∀(i j:Nat) (a b:Th),i≠j->L[i]? = some a->L[j]? = some b->∀k,a.bZ=some k->b.bZ≠some k
theorem lJ(b:cd c d t f g w):aZ c d t f g [] w w:=⟨b.bE λh a=>by rcases a with a|⟨e,i,_⟩;all_goals grind,nU ..,Zq,Zq,Zq⟩
def aZ.a3{b}(i:aZ c d t f g b h w):∀a,c a->a<w.heap.size:=λa e=>i.aY.a3 a (Y8 e)
def aZ.call{a}(b:aZ c d t f g a h w)(e:cd (iY c a) d t N' l w'/\Fr (iY c a) w w'):aZ c d t N' l a h w':=
 ⟨e.1,b.fr.u (e.2.bE λ_ _=>Y8),λi j=>(b.y i j).fr e.2 λm k=>Ya ⟨i,j,k⟩,b.aB,b.c0⟩
def aZ.ac{a}(e:aZ c d t f g a h w)(b:an [] w w'):aZ c d t f g a h w':=e.call ⟨e.aY.ac b Zq,wW b Zq⟩
theorem aZ.aU{a}(b:aZ c d t f g a h w):aZ c d t f g a h w.drew:=b.ac (ao [] w).aU
def aZ.a2{b}(a:aZ c d t f g b h w)(e:f<=N'):aZ c d t N' g b h w:=⟨a.aY.a2 e,a.fr,a.y,a.aB,a.c0⟩
def aZ.H{p}(m:aZ c d t f g p h w)(i:Obj):aZ c d t f g (.obj w.heap.size i::p) h (w.alloc i):=by
 have u:an [] w (w.alloc i):=(ao [] w).H i;refine⟨(m.aY.H i).bE ?_,m.fr.H i,?_,?_,?_⟩
 .intro j b;rcases b with b|⟨e,a,b⟩
  .exact Y8 (Y8 b)
  .rcases Yg.1 a with rfl|a
   .simp[Th.bZ]at b;subst b;exact rz
   .exact Y8 (Ya ⟨e,a,b⟩)
 .intro e a;rcases Yg.1 a with rfl|a
  .exact aQ rfl
  .exact(m.y e a).ac u Zq
 .intro e a j b q;rcases Yg.1 a with rfl|a
  .simp[Th.bZ]at b;subst b;exact absurd (m.a3 _ q) Zm
  .exact m.aB e a j b q
 .intro o k e j r a b s l n;cases o with
  |zero=>
   cases k with
   |zero=>exact r rfl
   |succ k=>
    simp at a b;subst a;simp[Th.bZ]at l;subst l;exact absurd ((m.y j (Yh b)).lt _ n) Zm
  |succ o=>
   cases k with
   |zero=>
    simp at a b;subst b;simp[Th.bZ]at n;subst n;exact absurd ((m.y e (Yh a)).lt _ l) Zm
   |succ k=>exact m.c0 o k e j Zm (by simpa using a) (by simpa using b) s l n
def aZ.bm{u H}{i:Nat}{n a':Th}(j:aZ c d t f g u h w)(v:u[i]? = some n)(x:an H w w')(E:∀a∈H,n.bZ=some a)(J:a'.At w')(y:∀a,a'.bZ=some a->n.bZ=some a\/w.heap.size<=a):aZ c d t f g (u.set i a') h w':=by
 have G:=(YB.1 v).1;have B:=Yh v;have C:∀b∈u.set i a',b=a'\/∃m,m≠i/\u[m]? = some b:=by
  intro b e;obtain⟨m,l⟩:=List.getElem?_of_mem e;rw[YP]at l;split at l
  .simp[G]at l;exact Y8 l.symm
  .rename_i k;exact Ya ⟨m,λL=>k L.symm,l⟩
 refine⟨j.aY.gE x (λa p=>Ya ⟨n,B,E a p⟩) ?_ ?_,j.fr.c6 x (λa p q=>absurd q (j.aB n B a (E a p))),?_,?_,?_⟩
 .intro o F;rcases F with q|⟨b,e,r⟩
  .exact Y8 (Y8 q)
  .rcases C b e with rfl|⟨m,_,l⟩
   .rcases y o r with k|k
    .exact Y8 (Ya ⟨n,B,k⟩)
    .exact Ya k
   .exact Y8 (Ya ⟨b,Yh l,r⟩)
 .intro o F;rcases F with q|⟨b,e,r⟩
  .exact Yr (j.a3 o q) x.aD
  .rcases C b e with rfl|⟨m,_,l⟩
   .exact J.lt o r
   .exact Yr ((j.y b (Yh l)).lt o r) x.aD
 .intro b e;rcases C b e with rfl|⟨m,O,l⟩
  .exact J
  .exact(j.y b (Yh l)).ac x λa p N=>j.c0 m i b n O l v a p (E a N)
 .intro b e o r q;rcases C b e with rfl|⟨m,_,l⟩
  .rcases y o r with k|k
   .exact j.aB n B o k q
   .exact absurd (j.a3 o q) Zm
  .exact j.aB b (Yh l) o r q
 .intro m K b D A e s a p z;rw[YP]at e s;split at e
  .rename_i I;subst I;simp[G]at e;subst e;rw[Y2 A]at s;rcases y a p with k|k
   .exact j.c0 i K n D A v s a k z
   .exact absurd ((j.y D (Yh s)).lt a z) Zm
  .split at s
   .rename_i I M;subst M;simp[G]at s;subst s;rcases y a z with k|k
    .exact j.c0 m i b n A e v a p k
    .exact absurd ((j.y b (Yh e)).lt a p) Zm
   .exact j.c0 m K b D A e s a p z
def aZ.bY{j:List Th}{k:Th}(i:aZ c d t f g (k::j) h w):aZ c d t f g j h w:=by
 refine⟨i.aY.bE ?_,i.fr,λa b=>i.y a (Y5 _ b),λa b=>i.aB a (Y5 _ b),λn o a l q b m=>i.c0 (n+1) (o+1) a l Zm (by simpa using b) (by simpa using m)⟩;intro p e;rcases e with e|⟨a,b,e⟩
 .exact Y8 e
 .exact Ya ⟨a,Y5 _ b,e⟩
theorem aZ.fin{L}(a:aZ c d t f g L h w):cd c d t f g w/\Fr c h w:=⟨a.aY.bE λ_=>Y8,a.fr⟩
theorem aZ.dY{j}{i R:Nat}{y}(l:aZ c d t f g j h w)(k:j[i]? = some (.obj R (oW y)))(a:fI):aZ c d t f g (j.set i (.obj R (oW a))) h (wA w R (U a.F) (Zs a.text) (U a.y) (U a.fin) (U a.n) (U a.e)):=
 l.bm k (Dk ..) (λm b=>by simp at b;rw[b];rfl) (yC (l.y _ (Yh k))) (λm b=>Y8 b)
def aZ.al{a}{i R:Nat}{x}(j:aZ c d t f g a h w)(b:a[i]? = some (.obj R (oW x))) :
  w.cell? (Zd R 0)=some (U x.F)/\w.cell? (Zd R 1)=some (Zs x.text)/\w.cell? (Zd R 2)=some (U x.y)/\w.cell? (Zd R 3)=some (U x.fin)/\w.cell? (Zd R 4)=some (U x.n)/\w.cell? (Zd R 5)=some (U x.e)/\(∀i,w.frozen? ⟨R,i,none⟩=false)/\R<w.heap.size:=fs (j.y _ (Yh b))
def vQ{c:Nat->Prop}{d f N':Nat}{t:Zb}{g:ai}{a:List Th}{h w:Zw}{e:Nat}{args:Array Zv}{j:fI×ai}{Q:Ending->Zw->Prop}(i:af (aZ c d t f g a h w))(k:cd (iY c a) d t f g w->Calls prog e args w (GW (iY c a) d t N' j w))
  (m:∀b l w',af (j=(b,l))->b.text.length<=2000->af (aZ c d t N' l a h w')->Q (.returned (.agg (gW b))) w'):Calls prog e args w Q:=
 (k i.w.aY).mono λ_ w' ⟨n,q,o,p⟩=>n▸m _ _ w' (aa rfl) p (aa (i.w.call ⟨q,o⟩))
end
def bj{d:Nat->Prop}{c g h:Nat}{e:List UInt8}{l m:ai}{b:List Th}{k a:World}{i:Nat}{args:Array Value}{v:Value}{Q:Ending->World->Prop}
  (j:af (aZ d c e g l b k a)) (n:cd (iY d b) c e g l a->Calls Tryz.prog i args a (GP (iY d b) c e h m v a))
  (o:∀f,af (aZ d c e h m b k f)->Q (.returned v) f):Calls Tryz.prog i args a Q:=
 (n j.w.aY).mono λ_ f ⟨p,r,q⟩=>p▸o f (aa (j.w.call ⟨r,q⟩))
section
variable {L : List Th} {c d w' e f : Zw} {i : Nat} {a a' : Th}
structure bu(L:List Th)(d c:Zw):Prop where
 fr:an [] d c
 y:∀a∈L,a.At c
 aB:∀a∈L,∀b,a.bZ=some b->d.heap.size<=b
 c0:∀(i j:Nat) (a b:Th),i≠j->L[i]? = some a->L[j]? = some b->∀k,a.bZ=some k->b.bZ≠some k
theorem Gf(c:Zw):bu [] c c:=⟨ao [] c,Zq,Zq,Zq⟩
def bu.ac(b:bu L d c)(e:an [] c w'):bu L d w':=⟨b.fr.u e,λa f=>(b.y a f).ac e Zq,b.aB,b.c0⟩
theorem bu.aU(a:bu L d c):bu L d c.drew:=a.ac (ao [] c).aU
def bu.H(m:bu L d c)(k:Obj):bu (.obj c.heap.size k::L) d (c.alloc k):=by
 have l:an [] c (c.alloc k):=(ao [] c).H k;refine⟨m.fr.u l,?_,?_,?_⟩
 .intro a b;rcases Yg.1 b with rfl|b
  .exact aQ rfl
  .exact(m.y a b).ac l Zq
 .intro a b g e;rcases Yg.1 b with rfl|b
  .simp[Th.bZ]at e;subst e;exact m.fr.aD
  .exact m.aB a b g e
 .intro i f a g o b e n h j;cases i with
  |zero=>
   cases f with
   |zero=>omega
   |succ f=>
    simp at b e;subst b;simp[Th.bZ]at h;subst h;exact absurd ((m.y g (Yh e)).lt _ j) Zm
  |succ i=>
   cases f with
   |zero=>
    simp at b e;subst e;simp[Th.bZ]at j;subst j;exact absurd ((m.y a (Yh b)).lt _ h) Zm
   |succ f=>exact m.c0 i f a g Zm Zu Zu n h j
def bu.bm{t}(g:bu L d c)(m:L[i]? = some a)(x:an t c w')(v:∀b∈t,a.bZ=some b)(F:a'.At w')(s:∀b,a'.bZ=some b->a.bZ=some b\/c.heap.size<=b):bu (L.set i a') d w':=by
 have y:=(YB.1 m).1;have z:=Yh m;have A:∀e∈L.set i a',e=a'\/∃j,j≠i/\L[j]? = some e:=by
  intro e f;obtain⟨j,n⟩:=List.getElem?_of_mem f;grind
 refine⟨g.fr.b1 x (λb l=>Ya (g.aB a z b (v b l))),?_,?_,?_⟩
 .intro e f;rcases A e f with rfl|⟨j,E,n⟩
  .omega
  .exact(g.y e (Yh n)).ac x λb l D=>g.c0 j i e a E n m b l (v b D)
 .intro e f q w;rcases A e f with rfl|⟨j,_,n⟩
  .rcases s q w with h|h
   .exact g.aB a z q h
   .exact Yz g.fr.aD h
  .exact g.aB e (Yh n) q w
 .intro j B e r p f k b l o;rw[YP]at f k;split at f
  .rename_i u;subst u;simp[y]at f;subst f;rw[Y2 p]at k;rcases s b l with h|h
   .exact g.c0 i B a r p m k b h o
   .exact absurd ((g.y r (Yh k)).lt b o) Zm
  .split at k
   .rename_i u C;subst C;simp[y]at k;subst k;rcases s b o with h|h
    .exact g.c0 j i e a p f m b l h
    .exact absurd ((g.y e (Yh f)).lt b l) Zm
   .exact g.c0 j B e r p f k b l o
def bu.bY(f:bu (a::L) d c):bu L d c:=⟨f.fr,λb e=>f.y b (Y5 _ e),λb e=>f.aB b (Y5 _ e),λi h b g k e j=>f.c0 (i+1) (h+1) b g Zm Zu Zu⟩
theorem bu.a5{b j:Nat}{f:Array Zv}{e:TypeId}(h:bu L d c)(g:L[i]? = some (.obj b (.cells f e)))(v:Zv):bu (L.set i (.obj b (.cells (f.set! j v) e))) d (c.setCell ⟨b,j,none⟩ v):=
 h.bm g ((ao [b] c).aH (p:=⟨b,j,none⟩) Zq v) (λk a=>by simp at a;rw[a];rfl) (by have:=h.y _ (Yh g);exact bv this v) (λk a=>Y8 a)
def bu.b2{R a}(e:bu L d c)(b:L[i]? = some (.obj R a)):c.heap[R]? = some a:=e.y _ (Yh b)
def bu.bX(e:bu L d c)(b:L[i]? = some a):a.At c:=e.y _ (Yh b)
def bu.a9{b}{j w g a l k:Nat}{v x o}(u:bu L d c)(s:L[i]? = some (.row b j v w x))(n:an [] c e)(t:f.ownsRow 0 b j (.slice (some ⟨a,0,none⟩) g l) g o)(h:e.grownBy f v.ownBlock)(q:v.ownBlock=some a\/a=k)(y:e.heap.size=k):bu (L.set i (.row b j (.slice (some ⟨a,0,none⟩) g l) g o)) d f:=by
 have z:=n.aD;refine(u.ac n).bm s (gt h) (λa h=>by simpa[Th.bZ]using h) t ?_;intro p r;have b:p=a:=by simpa[Th.bZ,fM]using r.symm
 subst b;rcases q with m|m
 .exact Y8 m
 omega
def bu.ho{b h g:Nat}{v a j}(q:bu L d c)(n:L[i]? = some (cV v a))(o:an [] c e)(p:f.ownsRow 0 9 1 (.slice (some ⟨b,0,none⟩) (a.length+1) h) (a.length+1) ((a.map λr=>Zs r)++[Zs j]))(m:e.grownBy f v.ownBlock)(l:v.ownBlock=some b\/b=g)(k:e.heap.size=g):bu (L.set i (cV (.slice (some ⟨b,0,none⟩) (a.length+1) h) (a++[j]))) d f:=by
 have:=q.a9 n o p m l k;grind
def bu.j7{a:Th}{L:List Th}(f:bu (a::L) d c):bu (L++[a]) d c:=by
 refine⟨f.fr,λb g=>f.y b Zg,λb g=>f.aB b Zg,?_⟩;intro i p b h u g m r n o;have j:∀(i:Nat) (b:Th),(L++[a])[i]? = some b->∃e,(a::L)[e]? = some b/\((i<L.length/\e=i+1)\/(i=L.length/\e=0)):=by
  grind
 obtain⟨e,k,s⟩:=j i b g;obtain⟨q,l,t⟩:=j p h m;exact f.c0 e q b h Zm k l r n o
def OQ{a:Th}{L:List Th}(f:bu (L++[a]) d c):bu L d c:=by
 have h:∀(i:Nat) (b:Th),L[i]? = some b->(L++[a])[i]? = some b:=λi b m=>by
  grind
 exact⟨f.fr,λb e=>f.y b (Yf _ e),λb e=>f.aB b (Yf _ e),λi j b g l e k=>f.c0 i j b g l (h i b e) (h j g k)⟩
def bu.cons{a:Th}{L w'}(g:bu L d c)(h:an [] c w')(s:a.At w')(o:∀f,a.bZ=some f->c.heap.size<=f):bu (a::L) d w':=by
 have v:∀(i:Nat) (b:Th),L[i]? = some b->∀f,b.bZ=some f->f<c.heap.size:=λi b n f p=>(g.y b (Yh n)).lt _ p;refine⟨g.fr.u h,?_,?_,?_⟩
 .intro b e;rcases Yg.1 e with rfl|e
  .omega
  .exact(g.y b e).ac h Zq
 .intro b e k l;rcases Yg.1 e with rfl|e
  .exact Yz g.fr.aD (o k l)
  .exact g.aB b e k l
 .intro i j b m u e t r h q;cases i with
  |zero=>
   grind
  |succ i=>
   cases j with
   |zero=>
    grind
   |succ j=>exact g.c0 i j b m Zm Zu Zu r h q
theorem bu.a4{a:Th}{L:List Th}(h:bu (a::L) d c)(i:Nat):bu (L.set i a) d c:=by
 have l:∀b,b∈L.set i a->b∈a::L:=λb e=>by
  grind
 have k:∀(f:Nat) (b:Th),(L.set i a)[f]? = some b->∃g,(a::L)[g]? = some b/\((f=i/\g=0)\/(f≠i/\g=f+1)):=by
  grind
 refine⟨h.fr,λb e=>h.y b (l b e),λb e=>h.aB b (l b e),?_⟩;intro f s b j w e p m q r;obtain⟨g,n,u⟩:=k f b e;obtain⟨t,o,v⟩:=k s j p;exact h.c0 g t b j Zm n o m q r
def qz(c w':Zw):List Th:=(List.range (w'.heap.size-c.heap.size)).map λa=>.obj (c.heap.size+a) (w'.heap.getD (c.heap.size+a) (.map #[] 0))
def WN{c w':Zw}{a:Nat}{b}(e:c.heap.size<=a)(d:w'.heap[a]? = some b):Th.obj a b∈qz c w':=by
 have:=au d;refine YE.2 ⟨a-c.heap.size,List.mem_range.2 Zm,?_⟩;simp_all
def JU{c w'}{i:Nat}{a}(b:(qz c w')[i]? = some a):∃f,a=.obj (c.heap.size+i) f/\w'.heap[c.heap.size+i]? = some f:=by
 unfold qz at b;rw[List.getElem?_map]at b;cases e:(List.range (w'.heap.size-c.heap.size))[i]? with
 |none=>simp_all
 |some h=>
  rw[e]at b;cases b
  obtain⟨g,d⟩:=YB.1 e;simp at g d;subst d;refine⟨_,rfl,?_⟩;rw[Array.getD_eq_getD_getElem?,Array.getElem?_eq_getElem Zm];rfl
def bu.jJ{L w'}(m:bu L d c)(j:an [] c w'):bu (L++qz c w') d w':=by
 have s:∀(i:Nat) (a:Th) (f:Nat),L[i]? = some a->a.bZ=some f->f<c.heap.size:=λi a f g e=>(m.y a (Yh g)).lt _ e;have k:∀(i:Nat) (a:Th) (f:Nat),(qz c w')[i]? = some a->a.bZ=some f->f=c.heap.size+i:=λi a f g e=>by
  obtain⟨r,rfl,_⟩:=JU g;simpa[Th.bZ]using e.symm
 refine⟨m.fr.u j,λa b=>?_,λa b h e=>?_,λi q a h l b e f n o=>?_⟩
 .rcases Yn.1 b with b|b
  .exact(m.y a b).ac j Zq
  .obtain⟨i,g⟩:=List.getElem?_of_mem b;obtain⟨r,rfl,p⟩:=JU g;exact p
 .rcases Yn.1 b with b|b
  .exact m.aB a b h e
  .obtain⟨i,g⟩:=List.getElem?_of_mem b;have:=k i a h g e;have:=m.fr.aD;omega
 .rw[List.getElem?_append]at b e;split at b
  .split at e
   .exact m.c0 i q a h l b e f n o
   grind
  grind
end
def fP(b:Zb)(a:ai):ai:={ a with w:=a.w++b }
def di(a:Int):Zb:=(Lib.itoa a)
def hB(e:Zb)(d c b:Int)(a:ai):(Int×Int)×ai:=if b<d\/c<b then ((0,0),cm 8 a.s.x.y a)else ((b,a.s.x.y),bq e a)
def dr(a:ai):hI:=a.K.getD (ce a a.s.x.text).toNat iC
def bV(d:Zb)(c b:Int)(a:ai):(Int×Int)×ai:=
 if a.s.e≠0 then ((0,0),a)
 else if a.s.x.F=3 then hB d c b a.s.x.n a
 else if aJ a 2 JF=true then hB d c b 1 a
 else if aJ a 2 JC=true then hB d c b 0 a
 else if a.s.x.F=1 then
  if ce a a.s.x.text<0\/(dr a).a7≠0 then ((0,0),cm 7 a.s.x.y a)else hB d c b (dr a).n a
 else ((0,0),ew a)
def lF(b:Zb)(a:ai):(Int×Zb)×ai:=
 if aJ a 2 Jq=true then ((3,JG),bq b a)
 else if aJ a 2 Jk=true then ((1,Jb),bq b a)
 else ((1,Jb),a)
def qI(b:Zb)(a:Int):bD:=⟨14,0,-1,[],[],0,b,a⟩
def cU(b:Zb)(a:ai):(Int×Zb)×ai:=
 if a.s.e≠0 then ((0,[]),a)
 else if a.s.x.F=1 then (((bq b a).A.length,a.s.x.text),dj (qI a.s.x.text a.s.x.y) (bq b a))
 else if a.s.x.F=2/\a.s.x.text=Jk then ((0,Jk),bq b a)
 else if a.s.x.F=2/\a.s.x.text=Jq then ((2,Jq),bq b a)
 else if a.s.x.F=2/\a.s.x.text=Js then ((4,Js),bq b a)
 else if a.s.x.F=2/\a.s.x.text=Jb then lF b (bq b a)
 else ((0,[]),ew a)
def dz(a:Zb)(e:Bool)(d:ai):Int×ai:=
 if e=true then
  let b:=bV a 1 1000 (aj a 4 [91] d)
  (b.1.1,aj a 4 [93] b.2)
 else
  let c:=aj a 4 [60] d
  if aJ c 4 [62]=true then (4294967295,aj a 4 [62] c)
  else
   let b:=bV a 0 4294967295 c
   (b.1.1,aj a 4 [62] b.2)
def cO(c:Zb)(b:Zc)(all:Bool)(d:ai):fI×ai:=
 let a:=dT c d
 if a.2.s.e=0/\(if all=true then decide (0<=ce a.2 a.1.text)else b.contains a.1.text)=true then (a.1,cm 6 a.1.y a.2)else a
structure mj where
 r:Int
 d3:Zb
 fc:Zb
 x:fI
def fu(a b:Int):bD:=⟨a,b,0,[],[],0,[],0⟩
def dP(a b c:Int):bD:=⟨a,b,c,[],[],0,[],0⟩
def jX(c:Zb)(e:Zc)(all f:Bool)(d:ai):mj×ai:=
 let b:=cO c e all (bq c d)
 if aJ b.2 4 [91]=true/\f=true then
  let a:=dz c true b.2
  (⟨a.2.A.length,d.s.x.text++[32],[91]++di a.1++[93],b.1⟩,dj (fu 6 a.1) a.2)
 else
  let a:=dz c false b.2
  (⟨a.2.A.length,d.s.x.text++[32],[60]++di a.1++[62],b.1⟩,dj (fu (if aJ d 2 Ju=true then 8 else 7) a.1) a.2)
def iJ(d:Zb)(e:Zc)(all:Bool)(f:ai):mj×ai:=
 let b:=cU d f
 if aJ b.2 4 [42]=true then
  let a:=cO d e all (bq d b.2)
  (⟨a.2.A.length,b.1.2++[32,42],[],a.1⟩,dj (dP 11 0 b.1.1) a.2)
 else
  let a:=cO d e all b.2
  if aJ a.2 4 [91]=true then
   let c:=dz d true a.2
   (⟨c.2.A.length,b.1.2++[32],[91]++di c.1++[93],a.1⟩,dj (dP 9 c.1 b.1.1) c.2)
  else if aJ a.2 4 [60]=true then
   let c:=dz d false a.2
   (⟨c.2.A.length,b.1.2++[32],[60]++di c.1++[62],a.1⟩,dj (dP 10 c.1 b.1.1) c.2)
  else (⟨b.1.1,b.1.2++[32],[],a.1⟩,a.2)
def dv(c:Zb)(b:Zc)(all:Bool)(a:ai):mj×ai:=
 if aJ a 2 Jy=true\/aJ a 2 Ju=true then jX c b all (aJ a 2 Jy) a else iJ c b all a
def ih(a:Zb)(d:ai):ai:=
 let b:=bi a 2 (aj a 2 Je (aV d.aN 40 d))
 let v:=bV a (-2147483648) 4294967295 (aj a 4 [61] b.2)
 let c:=aj a 4 [59] v.2
 if c.s.e≠0 then c else fP ([99,111,110,115,116,32]++b.1.text++JD++di v.1.1++[59,10]) (eK b.1.text v.1.1 c)
def iQ(b:Zb)(c:ai):ai:=
 let a:=dv b [] true (aj b 2 Ja c)
 if a.2.s.e≠0 then a.2
 else fP ([116,121,112,101,100,101,102,32]++a.1.d3++a.1.x.text++a.1.fc++[59,10]) (aj b 4 [59] { a.2 with K:=a.2.K++[⟨a.1.x.text,1,a.1.r,a.1.x.y⟩] })
def eh(c:Zb):Nat->List Int->Zb->ai->Bool×List Int×Zb×ai
 |0,a,b,d=>(false,a,b,d)
 |k+1,a,b,d=>
  if d.s.e≠0 then (false,a,b,d)
  else
   let j:=aV a.length 12 d
   let f:=bi c 2 (aV j.aN 40 j)
   let v:=bV c (-2147483648) 2147483647 (aj c 4 [61] f.2)
   let g:=if v.2.s.e=0/\a.contains v.1.1=true then cm 6 v.1.2 v.2 else v.2
   if g.s.e≠0 then (true,a,b,g)
   else
    let h:=eK f.1.text v.1.1 g
    let i:=b++f.1.text++JD++di v.1.1
    if aJ h 4 [44]=true then eh c k (a++[v.1.1]) (i++[44,32]) (bq c h)else (false,a++[v.1.1],i,h)
def jx(a:Zb)(e:ai):ai:=
 let c:=bi a 2 (aj a 2 Jo e)
 let b:=eh a 13 [] (Jm++c.1.text++Jd) (aj a 4 Jv c.2)
 if b.1=true then b.2.2.2
 else
  let d:=aj a 4 [59] (aj a 4 Jl b.2.2.2)
  fP (b.2.2.1++[32,125,59,10]) (eH c.1.text d.A.length (dj ⟨5,0,0,b.2.1,[],0,[],0⟩ d))
def eM(f:Zb):Nat->List Int->Zc->Zb->ai->List Int×Zb×ai
 |0,b,_,d,c=>(b,d,c)
 |k+1,b,h,d,c=>
  if c.s.e≠0 then (b,d,c)
  else
   let a:=dv f h false (aV b.length 12 c)
   let g:=aj f 4 [59] a.2
   let i:=d++a.1.d3++a.1.x.text++a.1.fc++[59,32]
   if aJ g 4 Jl=true then (b++[a.1.r],i,g)else eM f k (b++[a.1.r]) (h++[a.1.x.text]) i g
def jl(a:Zb)(e:ai):ai:=
 let c:=bi a 2 (aj a 2 Jf e)
 let b:=eM a 14 [] [] (Jp++c.1.text++Jd) (aj a 4 Jv c.2)
 let d:=aj a 4 [59] (aj a 4 Jl b.2.2)
 fP (b.2.1++JB) (eH c.1.text d.A.length (dj ⟨12,0,0,[],b.1,0,[],0⟩ d))
def hC(b:ai)(a:Int):bD:=b.A.getD a.toNat bP
def cG(b:Zb)(a:ai):(Int×Zb)×ai:=
 if a.s.e=0/\a.s.x.F=1 then
  if ce a a.s.x.text<0\/(dr a).a7≠1\/(hC a (dr a).n).F≠5 then ((0,[]),cm 7 a.s.x.y a)
  else (((dr a).n,a.s.x.text),bq b a)
 else if a.s.e=0/\a.s.x.F=2/\(a.s.x.text=Jk\/a.s.x.text=Jb\/a.s.x.text=Js)then
  if a.s.x.text=Jk then ((0,Jk),bq b a)
  else if a.s.x.text=Js then ((4,Js),bq b a)
  else if aJ (bq b a) 2 Jk=true then ((1,Jb),bq b (bq b a))
  else ((1,Jb),bq b a)
 else ((0,[]),ew a)
def dy(b:Zb)(c:Zc)(d:ai):(Int×Zb×Zc)×ai:=
 if aJ d 2 Jt=true then ((-1,[118,111,105,100,59,32],c),aj b 4 [59] (bq b d))
 else
  let a:=dv b c false d
  ((a.1.r,a.1.d3++a.1.x.text++a.1.fc++[59,32],c++[a.1.x.text]),aj b 4 [59] a.2)
def gu(of:Int):Int:=if of=1\/of=4 then 0 else -2147483648
def gs(of:Int):Int:=if of=1 then 4294967295 else if of=4 then 1 else 2147483647
def dg(d:Zb)(of:Int):Nat->List Int->Zb->ai->(List Int×Zb)×ai
 |0,a,c,b=>((a,c),b)
 |k+1,a,c,b=>
  if b.s.e≠0 then ((a,c),b)
  else
   let v:=bV d (gu of) (gs of) (aj d 2 Jg (aV a.length 12 b))
   let f:=if v.2.s.e=0/\4<of/\(hC v.2 of).aR.contains v.1.1=false then cm 8 v.1.2 v.2 else v.2
   let i:=if f.s.e=0/\a.contains v.1.1=true then cm 6 v.1.2 f else f
   let g:=aj d 4 [58] i
   let h:=c++JA++di v.1.1++[58,32]
   if aJ g 2 Jg=true then dg d of k (a++[v.1.1]) h g else ((a++[v.1.1],h),g)
def ox(b:Nat)(c:Int)(a:List Int):List Int:=a++List.replicate (b-a.length) c
def fa(i:Zb)(of:Int):Nat->List Int->List Int->Zc->Zb->ai->(List Int×List Int×Zc×Zb)×ai
 |0,c,h,f,g,d=>((c,h,f,g),d)
 |k+1,c,h,f,g,d=>
  if d.s.e≠0 then ((c,h,f,g),d)
  else
   let b:=dg i of (14-c.length) c [] d
   let a:=dy i f b.2
   let l:=ox b.1.1.length a.1.1 h
   let j:=g++b.1.2++a.1.2.1
   if aJ a.2 2 Jg=true then fa i of k b.1.1 l a.1.2.2 j a.2 else ((b.1.1,l,a.1.2.2,j),a.2)
def jc(b:Zb)(d:Zc)(c:ai):(Int×Zb)×ai:=
 if aJ c 2 JL=true then
  let a:=dy b d (aj b 4 [58] (bq b c))
  ((a.1.1,JI++a.1.2.1),a.2)
 else ((-2,[]),c)
def iR(a:Zb)(h:ai):ai:=
 let f:=bi a 2 (aj a 2 Jh h)
 let c:=cG a (aj a 4 [40] (aj a 2 Jn f.2))
 let e:=dT a c.2
 let i:=aj a 4 Jv (aj a 4 [41] e.2)
 let b:=fa a c.1.1 14 [] [] [e.1.text] (Jr++f.1.text++Ji++c.1.2++[32]++e.1.text++Jx) i
 let d:=jc a b.1.2.2.1 b.2
 let g:=aj a 4 [59] (aj a 4 Jl d.2)
 fP (b.1.2.2.2++d.1.2++JB) (eH f.1.text g.A.length (dj ⟨13,0,c.1.1,b.1.1,b.1.2.1,d.1.1,[],0⟩ g))
def fQ(b:Zb)(a:ai):(Int×Zb)×ai:=if aJ a 2 Jt=true then ((-1,Jt),bq b a)else cU b a
def cM(a:Zb)(b:List Int)(c:ai):Int×ai:=
 let v:=bV a 0 4294967295 (aj a 4 [61] c)
 (v.1.1,aj a 4 [59] (if v.2.s.e=0/\b.contains v.1.1=true then cm 6 v.1.2 v.2 else v.2))
def gI(a:Zb):Nat->List ct->Zc->List Int->Zb->ai->(List ct×Zb)×ai
 |0,c,_,_,f,d=>((c,f),d)
 |k+1,c,n,l,f,d=>
  if d.s.e≠0 then ((c,f),d)
  else
   let i:=fQ a (aV c.length 8 d)
   let h:=cO a n false i.2
   let g:=fQ a (aj a 4 [40] h.2)
   let b:=cM a l (aj a 4 [41] g.2)
   let m:=f++i.1.2++[32]++h.1.text++[40]++g.1.2++JH++di b.1++[59,32]
   let j:=c++[⟨0,0,b.1,g.1.1,i.1.1⟩]
   if aJ b.2 4 Jl=true then ((j,m),b.2)else gI a k j (n++[h.1.text]) (l++[b.1]) m b.2
structure xl where
 bl:Zb
 num:Int
 l:List ct
 w:Zb
def fx(a:Zb)(e:Zc)(f:List Int)(h:ai):xl×ai:=
 let d:=cO a e false (aj a 2 Jz h)
 let c:=gI a 10 [] [] [] (Jw++d.1.text++Jd) (aj a 4 Jv d.2)
 let b:=cM a f (aj a 4 Jl c.2)
 (⟨d.1.text,b.1,c.1.1.map (λg=>{ g with e0:=b.1 }),c.1.2++[125,32,61,32]++di b.1++[59,32]⟩,b.2)
def fw(h:Zb):Nat->Zc->List Int->List ct->Zb->ai->(List ct×Zb)×ai
 |0,_,_,all,b,a=>((all,b),a)
 |k+1,f,c,all,b,a=>
  if a.s.e≠0 then ((all,b),a)
  else
   let v:=fx h f c (aV c.length 4 a)
   let d:=all++v.1.l
   let g:=b++v.1.w
   if aJ v.2 4 Jl=true then ((d,g),v.2)else fw h k (f++[v.1.bl]) (c++[v.1.num]) d g v.2
def iD(b:Zb)(d:ai):ai:=
 let c:=bi b 2 (aj b 2 Jc (aV d.am.length 4 d))
 let v:=fw b 6 [] [] [] (Jj++c.1.text++Jd) (aj b 4 Jv c.2)
 let e:=aj b 4 Jl v.2
 let a:=cM b e.am e
 fP (v.1.2++[125,32,61,32]++di a.1++[59,10]) { a.2 with am:=a.2.am++[a.1],aq:=a.2.aq++v.1.1.map (λf=>{ f with prog:=a.1 }) }
def cJ(b:Zb)(a:ai):ai:=
 if aJ a 2 Je=true then ih b a
 else if aJ a 2 Jc=true then iD b a
 else if a.s.x.F≠2\/(a.s.x.text≠Ja/\a.s.x.text≠Jo/\a.s.x.text≠Jf/\a.s.x.text≠Jh)then ew a
 else
  let d:=aV a.aA 24 a
  let c:ai:={ d with aA:=d.aA+1 }
  if a.s.x.text=Ja then iQ b c
  else if a.s.x.text=Jo then jx b c
  else if a.s.x.text=Jf then jl b c
  else iR b c
section
variable {g j : Nat -> Prop} {f h : Nat} {d : Zb} {a : ai} {c : Zw} {i : PV}
def GV(g:Nat->Prop)(f:Nat)(d:Zb)(h:Nat)(i:PV)(e:ai)(v:Zv)(c:Zw)(b:Ending)(a:Zw):Prop:=b=.returned v/\bB g f d h e i a/\Fr g c a
def CQ(b:bB g f d h a i c)(j e:Int):Calls prog 51 #[Zp f,U j,U e] c (GV g f d h i (cm j e a) (.tuple #[]) c):=by
 refine(zS b.ap j e).mono ?_;rintro m n ⟨rfl,l,k⟩;exact⟨rfl,b.bm (s:=⟨a.s.x,_,_⟩) l k b.fin b.b8,b.fr k⟩
def Pt(b:bB g f d h a i c):Calls prog 84 #[Zp f] c (GV g f d h i (ew a) (.tuple #[]) c):=by
 refine(zw b.ap).mono ?_;rintro k l ⟨rfl,j,e⟩;exact⟨rfl,b.bm (s:=ny a.s) j e b.fin b.b8,b.fr e⟩
def WR(b:bB g f d h a i c):Calls prog 47 #[Zp f] c (GV g f d h i (bq d a) (.tuple #[]) c):=by
 refine(AH b.ap b.fin b.cH).mono ?_;rintro k l ⟨rfl,j,e⟩;exact⟨rfl,b.bm (s:=uN d a.s) j e (AF b.fin) (AG b.cH),b.fr e⟩
def If(k:bB g f d h a i c)(b:Nat)(e:Zb):Calls prog 81 #[Zp f,U b,Zs e] c λj l=>j=.returned (.bool (aJ a b e))/\l=c:=Dj k.ap b e
def MG(b:bB g f d h a i c)(e:Nat)(j:Zb):Calls prog 141 #[Zp f,U e,Zs j] c (GV g f d h i (aj d e j a) (.tuple #[]) c):=by
 refine(MF b.ap b.fin b.cH e j).mono ?_;rintro n o ⟨rfl,m,k,l⟩;exact⟨rfl,b.bm m k l (MD b.cH b.b8),b.fr k⟩
def bB.H(k:bB g f d h a i c)(e:Obj):bB (ad g c.heap.size) f d h a i (c.alloc e):=by
 refine k.gE ((ao [] c).H e) Zq ?_ ?_
 .intro j b;rcases b with b|rfl;all_goals simp_all
 .intro j b;have l:(c.alloc e).heap.size=c.heap.size+1:=Zq;rcases b with b|rfl
  .have:=k.a3 j b;omega
  omega
def bB.bY{b}(j:bB (ad g b) f d h a i c):bB g f d h a i c:=j.gE (ao [] c) Zq (λb e=>Y8 (Y8 e)) (λb e=>j.a3 b (Y8 e))
def GN(g:Nat->Prop)(f:Nat)(d:Zb)(h:Nat)(i:PV)(a:(Int×Int)×ai)(c:Zw)(b:Ending)(e:Zw):Prop:=GV g f d h i a.2 (.tuple #[U a.1.1,U a.1.2]) c b e
def My(F:bB g f d h a i c)(m p:Int)(a2:h<=1000000000):Calls prog 143 #[Zp f,U m,U p] c (GN g f d h i (bV d m p a) c):=by
 obtain⟨c3,c5,c6,c7,c8,c9,-,S,-,-,c4,-,-,-,-,d2,d6⟩:=F.al;have t:=aa F;have b:af (bB (ad g c.heap.size) f d h a i (c.alloc (oW a.s.x))/\Fr g c (c.alloc (oW a.s.x))/\(c.alloc (oW a.s.x)).heap[c.heap.size]? = some (oW a.s.x)):=aa ⟨F.H _,(nU g c).H _,aQ rfl⟩;clear F;by_cases w:a.s.e=0
 .have a3:(a.s.e != 0)=false:=by rw[w];rfl
  have j:af (bV d m p a=if a.s.x.F=3 then hB d m p a.s.x.n a else if aJ a 2 JF then hB d m p 1 a else if aJ a 2 JC then hB d m p 0 a else if a.s.x.F=1 then if ce a a.s.x.text<0\/(dr a).a7≠0 then ((0,0),cm 7 a.s.x.y a)else hB d m p (dr a).n a else ((0,0),ew a)):=by show _=_;unfold bV;rw[Y2 (by simpa using w)]
  clear w;go_in;go_wp21;refine(If (t.w.H _) 2 JF).mono ?_;rintro r b2 ⟨rfl,rfl⟩;go_wp21;refine(If (t.w.H _) 2 JC).mono ?_;rintro r b2 ⟨rfl,rfl⟩;go_upto_block 0 with fail;go_cut [9,10,11] (λv _ _ wc=>∃k:Int,v=U k/\af (bV d m p a=hB d m p k a)/\af (bB (ad g c.heap.size) f d h a i wc/\Fr g c wc/\wc.heap[c.heap.size]? = some (oW a.s.x)));case first=>
   by_cases C:a.s.x.F=3
   .have a5:((a.s.x.F:Int)==3)=true:=by rw[C];rfl
    rw[Y9 C]at j;clear C;go_wp2;go_meet;case rel=>exact⟨_,rfl,j,b⟩
   have a5:((a.s.x.F:Int)==3)=false:=by rw[Yi];omega
   rw[Y2 C]at j;clear C;cases J:aJ a 2 JF with
   |true=>
    rw[J]at j;go_wp2;go_meet;case rel=>exact⟨_,rfl,j,b⟩
   |false=>
    cases hF:aJ a 2 JC with
    |true=>
     rw[J,hF]at j;go_wp2;go_meet;case rel=>exact⟨_,rfl,j,b⟩
    |false=>
     rw[J,hF]at j;simp only[Ye,if_false]at j
     by_cases B:a.s.x.F=1
     .have a4:((a.s.x.F:Int)==1)=true:=by rw[B];rfl
      obtain⟨jv,a0,N⟩:=bM t.w.K;have H:=aa (λb1=>rO (t.w.ah (((ao [] c).H b1).aU)) a2 a.s.x.text);rw[N]at H S;rw[Y9 B]at j;clear B;go_wp21;refine cy (λP=>P.cell? (Zd f 8)=some (.slice jv a.K.length a0)/\P.cell? (Zd c.heap.size 1)=some (Zs a.s.x.text)) ?_ λa1=>?_
      .go_keep
      refine bI [0,1,2,3,4,5,6] ?_;iterate 7 (refine bK ?_)
      refine bJ ?_;refine cx 7 λG D=>?_;(go_simp;refine(H.w _).mono ?_;rintro r e5 ⟨rfl,rfl⟩);refine D.out _ _ ?_ (λa1=>?_)
      .go_keep
      clear D G;refine nz ?_;refine cw λG D=>?_;go_simp;refine D.out _ _ ?_;clear D G;refine nz ?_;replace b:af (bB (ad g c.heap.size) f d h a i (c.alloc (oW a.s.x)).drew/\Fr g c (c.alloc (oW a.s.x)).drew/\(c.alloc (oW a.s.x)).drew.heap[c.heap.size]? = some (oW a.s.x)):=aa ⟨b.w.1.ah (ao [] _).aU,b.w.2.1.aU,b.w.2.2⟩;clear H;have L:=aa (CQ b.w.1 7 a.s.x.y);by_cases I:ce a a.s.x.text<0
      .rw[Y9 (Y8 I)]at j;go_wp21;refine L.w.mono ?_;rintro r E ⟨rfl,o,l⟩;have q:=aa (Yp o.bY (b.w.2.1.u l.bY));clear o l;go_wp2;go_ret2;rw[j.w];exact⟨rfl,q.w⟩
      .have a8:=uw (by omega:0<=ce a a.s.x.text);obtain⟨d1,d0,K,-,c1,c2,-,e6,e7,d3⟩:=tp t.w a8;rw[N]at K;simp at K;obtain⟨rfl,rfl⟩:=K;change c.cell? _=some (U (dr a).a7)at c1;change c.cell? _=some (U (dr a).n)at c2;generalize a7:ce a a.s.x.text=k at *
       obtain⟨k,rfl⟩:∃b0:Nat,k=b0:=⟨k.toNat,Zm⟩;simp only[Int.toNat_natCast]at *
       have d5:(k:Int)<(a.K.length:Int):=Zm;have d4:¬((k:Int)<0):=I;clear a7 I;by_cases z:(dr a).a7=0
       .rw[Y2 (by rintro(u|u);omega;exact u z)]at j;have a9:((dr a).a7 != 0)=false:=by rw[z];rfl
        clear z;go_wp2;go_meet;case rel=>exact⟨_,rfl,j,b⟩
       .rw[Y9 (Ya z)]at j;have a9:((dr a).a7 != 0)=true:=by simpa using z
        clear z;go_wp21;refine L.w.mono ?_;rintro r E ⟨rfl,o,l⟩;have q:=aa (Yp o.bY (b.w.2.1.u l.bY));clear o l;go_wp2;go_ret2;rw[j.w];exact⟨rfl,q.w⟩
     .have a4:((a.s.x.F:Int)==1)=false:=by rw[Yi];omega
      rw[Y2 B]at j;clear B;go_wp21;refine(Pt b.w.1).mono ?_;rintro r E ⟨rfl,o,l⟩;have q:=aa (Yp o.bY (b.w.2.1.u l.bY));clear o l;go_wp2;go_ret2;rw[j.w];exact⟨rfl,q.w⟩
  case rest=>
   obtain⟨k,rfl,A,b⟩:=hcut;obtain⟨b3,b4,b5,b6,b7,b8,b9,c0⟩:=fs b.w.2.2;unfold hB at A;by_cases y:k<m\/p<k
   .rw[Y9 y]at A;rcases(by omega:k<m\/¬k<m/\p<k)with M|⟨M,a6⟩;all_goals
     clear y
     go_wp21
     refine(CQ b.w.1 8 a.s.x.y).mono ?_
     rintro r E ⟨rfl,o,l⟩
     have q:=aa (Yp o.bY (b.w.2.1.u l.bY))
     clear o l
     go_wp2
     go_ret2
     rw[A.w]
     exact⟨rfl,q.w⟩
   .rw[Y2 y]at A;have M:¬(k<m):=λu=>y (Y8 u);have a6:¬(p<k):=λu=>y (Ya u);clear y;go_wp21;refine(WR b.w.1).mono ?_;rintro r E ⟨rfl,o,l⟩;have O:E.heap[c.heap.size]? = some (oW a.s.x):=(l.L _ (au b.w.2.2) rz).trans b.w.2.2;obtain⟨d7,d8,d9,e0,e1,e2,e3,e4⟩:=fs O;have q:=aa (Yp o.bY (b.w.2.1.u l.bY));clear o l O b3 b4 b5 b6 b7 b8 b9 c0;go_wp2;go_region;go_wp2;go_ret2;rw[A.w];exact⟨rfl,q.w.1.ah (ao [] _).aU,q.w.2.aU⟩
 .have a3:(a.s.e != 0)=true:=by simpa using w
  have R:af (bV d m p a=((0,0),a)):=by show _=_;unfold bV;rw[Y9 w]
  clear w;go_in;go_wp2;go_ret2;rw[R.w];exact⟨rfl,t.w,nU ..⟩
end
section
variable {g j : Nat -> Prop} {f d : Nat} {b : Zb} {a : ai} {c : Zw} {h : PV}
def yQ(m:cd g f b d a c)(i e:Int)(k:d<=1000000000):Calls prog 143 #[Zp f,U i,U e] c (GP g f b d (bV b i e a).2 (.tuple #[U (bV b i e a).1.1,U (bV b i e a).1.2]) c):=by
 obtain⟨h,l⟩:=m;exact(My l i e k).mono λn o j=>⟨j.1,⟨h,j.2.1⟩,j.2.2⟩
def xR(c:Zw):dL (.slice none 0 0) [] c:=⟨rfl,Y8 ⟨rfl,rfl⟩⟩
def LQ(c:Zw):oc (.slice none 0 0) [] c:=⟨rfl,Y8 ⟨rfl,rfl⟩⟩
def yy(l:cd g f b d a c)(e:bD)(j:e.aR=[])(k:e.bz=[])(i:d<=1000000000):Calls prog 46 #[Zp f,.agg #[U e.F,U e.n,U e.of,.slice none 0 0,.slice none 0 0,U e.d0,Zs e.bl,U e.y]] c (GP g f b (d+1) (dj e a) (U a.A.length) c):=
 KW l (λ_ h=>h) e (.slice none 0 0) (.slice none 0 0) (by rw[j];exact xR c) (by rw[k];exact xR c) (by grind [Value.ownBlock]) i
def Ii(v:cd g f b d a c)(H:d<=1000000000):Calls prog 218 #[Zp f] c (GP g f b (d+1) (cU b a).2 (.tuple #[U (cU b a).1.1,.string ⟨(cU b a).1.2.toArray⟩]) c):=by
 have r:=aa (lJ v);obtain⟨h,u⟩:=v;obtain⟨N,P,R,S,a0,a1,-,-,-,-,O,-,-,-,-,a2,a3⟩:=u.al;clear u;by_cases o:a.s.e=0
 .have I:(a.s.e != 0)=false:=Zu;have l:=aa (r.w.H (oW a.s.x));by_cases q:a.s.x.F=1
  .have j:af (cU b a=((((bq b a).A.length:Int),a.s.x.text),dj (qI a.s.x.text a.s.x.y) (bq b a))):=by show _=_;simp_all[cU]
   have J:((a.s.x.F:Int)==1)=true:=Zu;clear q o;go_in;go_wp21;refine bj l (jW ·) λn k=>?_;obtain⟨y,z,A,B,C,D,E,F⟩:=k.w.al (i:=0) rfl;go_wp21;refine bj k (yy · (qI a.s.x.text a.s.x.y) rfl rfl H) λw m=>?_;clear y z A B C D E F;obtain⟨y,z,A,B,C,D,E,F⟩:=m.w.al (i:=0) rfl;go_wp2;go_region;go_wp2;go_ret2;rw[j.w];exact⟨rfl,m.w.aU.fin⟩
  .have J:((a.s.x.F:Int)==1)=false:=Zg;by_cases t:a.s.x.F=2
   .have K:((a.s.x.F:Int)==2)=true:=Zu;have M:af (cU b a=if a.s.x.text=Jk then ((0,Jk),bq b a)else if a.s.x.text=Jq then ((2,Jq),bq b a)else if a.s.x.text=Js then ((4,Js),bq b a)else if a.s.x.text=Jb then lF b (bq b a)else ((0,[]),ew a)):=by show _=_;simp_all[cU]
    clear q t o;cases a6:(a.s.x.text==Jk)with
    |true=>
     have j:af (cU b a=((0,Jk),bq b a)):=Zu;go_in;go_wp21;refine bj l (jW ·) λn k=>?_;go_wp2;go_ret2;rw[j.w];exact⟨rfl,(k.w.a2 Zm).fin⟩
    |false=>
     cases a7:(a.s.x.text==Jq)with
     |true=>
      have j:af (cU b a=((2,Jq),bq b a)):=Zu;go_in;go_wp21;refine bj l (jW ·) λn k=>?_;go_wp2;go_ret2;rw[j.w];exact⟨rfl,(k.w.a2 Zm).fin⟩
     |false=>
      cases a8:(a.s.x.text==Js)with
      |true=>
       have j:af (cU b a=((4,Js),bq b a)):=Zu;go_in;go_wp21;refine bj l (jW ·) λn k=>?_;go_wp2;go_ret2;rw[j.w];exact⟨rfl,(k.w.a2 Zm).fin⟩
      |false=>
       cases a9:(a.s.x.text==Jb)with
       |true=>
        have p:af (cU b a=lF b (bq b a)):=Zg;go_in;go_wp21;refine bj l (jW ·) λn k=>?_;go_wp21;refine(jf k.w.aY 2 Jq).mono ?_;rintro G L ⟨rfl,rfl⟩;go_wp21;refine(jf k.w.aY 2 Jk).mono ?_;rintro G L ⟨rfl,rfl⟩;cases a4:aJ (bq b a) 2 Jq with
        |true=>
         have j:af (cU b a=((3,JG),bq b (bq b a))):=by show _=_;rw[p.w];unfold lF;simp_all
         go_wp21;refine bj k (jW ·) λw m=>?_;go_wp2;go_ret2;rw[j.w];exact⟨rfl,(m.w.a2 Zm).fin⟩
        |false=>
         cases a5:aJ (bq b a) 2 Jk with
         |true=>
          have j:af (cU b a=((1,Jb),bq b (bq b a))):=by show _=_;rw[p.w];unfold lF;simp_all
          go_wp21;refine bj k (jW ·) λw m=>?_;go_wp2;go_ret2;rw[j.w];exact⟨rfl,(m.w.a2 Zm).fin⟩
         |false=>
          have j:af (cU b a=((1,Jb),bq b a)):=by show _=_;rw[p.w];unfold lF;simp_all
          go_wp2;go_ret2;rw[j.w];exact⟨rfl,(k.w.a2 Zm).fin⟩
       |false=>
        have j:af (cU b a=((0,[]),ew a)):=Zu;go_in;go_wp21;refine bj l (sM ·) λn k=>?_;go_wp2;go_ret2;rw[j.w];exact⟨rfl,(k.w.a2 Zm).fin⟩
   .have K:((a.s.x.F:Int)==2)=false:=Zg;have j:af (cU b a=((0,[]),ew a)):=by show _=_;simp_all[cU]
    clear q t o;go_in;go_wp21;refine bj l (sM ·) λn k=>?_;go_wp2;go_ret2;rw[j.w];exact⟨rfl,(k.w.a2 Zm).fin⟩
 .have I:(a.s.e != 0)=true:=Zu;have j:af (cU b a=((0,[]),a)):=by show _=_;unfold cU;simp_all
  clear o;go_in;go_wp2;go_ret2;rw[j.w];exact⟨rfl,(r.w.a2 Zm).fin⟩
def PC(q:cd g f b d a c)(j:Bool)(o:d<=1000000000):Calls prog 217 #[Zp f,.bool j] c (GP g f b d (dz b j a).2 (U (dz b j a).1) c):=by
 have m:=aa (lJ q);clear q;cases j with
 |true=>
  have i:af (dz b true a=((bV b 1 1000 (aj b 4 [91] a)).1.1,aj b 4 [93] (bV b 1 1000 (aj b 4 [91] a)).2)):=Zr;go_in;go_wp21;refine bj m (ea · 4 [91]) λs e=>?_;go_wp21;refine bj e (yQ · 1 1000 o) λr h=>?_;go_wp21;refine bj h (ea · 4 [93]) λt l=>?_;go_wp2;go_ret;rw[i.w];exact⟨rfl,l.w.fin⟩
 |false=>
  go_in;go_wp21;refine bj m (ea · 4 [60]) λs e=>?_;go_wp21;refine(jf e.w.aY 4 [62]).mono ?_;rintro u w ⟨rfl,rfl⟩;generalize p:aj b 4 [60] a=k at *
  have n:=aa p;clear p;cases v:aJ k 4 [62]with
  |true=>
   have i:af (dz b false a=(4294967295,aj b 4 [62] k)):=by show _=_;unfold dz;rw[Y2 Zq,n.w];simp_all
   go_wp21;refine bj e (ea · 4 [62]) λr h=>?_;go_wp2;go_ret;rw[i.w];exact⟨rfl,h.w.fin⟩
  |false=>
   have i:af (dz b false a=((bV b 0 4294967295 k).1.1,aj b 4 [62] (bV b 0 4294967295 k).2)):=by show _=_;unfold dz;rw[Y2 Zq,n.w];grind
   go_wp21;refine bj e (yQ · 0 4294967295 o) λr h=>?_;go_wp21;refine bj h (ea · 4 [62]) λt l=>?_;go_wp2;go_ret;rw[i.w];exact⟨rfl,l.w.fin⟩
end
section
variable {g h : Nat -> Prop} {d c : Nat} {t : Zb} {b : ai} {a : Zw} {f : PV}
def cd.b8(h:cd g d t c b a):b.s.x.text.length<=2000:=by obtain⟨f,e⟩:=h;exact e.b8
def cd.bc(h:cd g d t c b a):b.sz<=c:=by obtain⟨f,e⟩:=h;exact e.bc
def cd.sp(i:cd g d t c b a):∃(f:PV) (jv:Option Addr) (e:Nat),bB g d t c b f a/\f.nv=.slice jv b.K.length e:=by
 obtain⟨f,h⟩:=i;obtain⟨j,k,l⟩:=bM h.K;grind
def aeH(h:cd g d t c b a):(dT t b).1.text.length<=2000:=by obtain⟨f,e⟩:=h;exact(Fi e.cH e.b8).1
theorem aZ.a4{f}{i R:Nat}{y k}(j:aZ g d t c b f k a)(h:f[i]? = some (.obj R (oW y)))(x:fI):(wA a R (U x.F) (Zs x.text) (U x.y) (U x.fin) (U x.n) (U x.e)).heap[R]? = some (oW x):=yC (j.y _ (Yh h))
def AM(S:cd g d t c b a){v names}(b3:oc v names a)(b5:∀a5,v.ownBlock=some a5->g a5)(c7:names.length<=1000000)(all:Bool)(c2:c<=1000000000):Calls prog 216 #[Zp d,v,.bool all] a (GW g d t c (cO t names all b) a):=by
 have a1:=aa ((lJ S).H oZ);have o:=aa (aeH S);clear S;go_in;go_wp21;refine(Fk a1.w.aY).mono ?_;rintro a8 a0 ⟨⟨rfl,b6,P⟩,-⟩;have c4:af (oc v names a0):=aa (wn (b3.bC ((ao [] a).H oZ) Zq) P (λc1 c3=>Y8 (b5 c1 c3)));have a2:=aa (a1.w.call ⟨b6,P⟩);clear b6 P b3 b5;generalize c5:dT t b=c6 at *
 obtain⟨h,l⟩:=c6;simp only at a2 o;have j:=aa (a2.w.H (oW h));have a3:af (cO t names all b=if l.s.e=0/\(if all=true then decide (0<=ce l h.text)else names.contains h.text)=true then (h,cm 6 h.y l)else (h,l)):=by show _=_;unfold cO;rw[c5]
 have a4:=aa (Tp ((c4.w.bC ((ao [] a0).H (oW h)) Zq).a6) Zm h.text);go_wp21;refine a4.w.mono ?_;rintro a8 b8 ⟨rfl,b4⟩;rw[<-b4]at j;clear a4 b4;obtain⟨f,jv,c0,q,b2⟩:=j.w.aY.sp;have N:=aa (rO (q.ah (ao [] b8).aU) c2 h.text);rw[b2]at N;obtain⟨-,-,-,-,-,-,-,a7,-,-,a6,-,-,-,-,b0,b1⟩:=q.al;rw[b2]at a7;obtain⟨C,D,E,F,G,H,I,J⟩:=j.w.al (i:=0) rfl;obtain⟨r,u,w,x,y,z,A,B⟩:=j.w.al (i:=1) (R:=a.heap.size) (x:=dC) rfl;clear q;cases all with
 |true=>
  simp only[if_true]at a3
  go_wp21;refine cy (λb7=>b7.cell? (Zd d 8)=some (.slice jv l.K.length c0)/\b7.cell? (Zd a0.heap.size 1)=some (Zs h.text)) ?_ λa9=>?_
  .go_keep
  refine bI [0,1,2,3,4,5,6] ?_;iterate 7 (refine bK ?_)
  refine bJ ?_;refine cx 7 λM K=>?_;(go_simp;refine N.w.mono ?_;rintro a8 b9 ⟨rfl,rfl⟩);refine K.out _ _ ?_ (λa9=>?_)
  .go_keep
  clear K M;refine nz ?_;refine pJ 8 ?_;refine cw λM K=>?_;go_simp;refine K.out _ _ ?_;clear K M;refine nz ?_;have m:=aa j.w.aU;clear j N a9 C D E F G H I J r u w x y z A B a7 a6 b0 b1;generalize b8.drew=c8 at m ⊢;have j:=m;clear m;obtain⟨f,q⟩:=j.w.aY;obtain⟨-,-,-,-,-,-,-,-,-,-,a6,-,-,-,-,b0,b1⟩:=q.al;obtain⟨C,D,E,F,G,H,I,J⟩:=j.w.al (i:=0) rfl;obtain⟨r,u,w,x,y,z,A,B⟩:=j.w.al (i:=1) (R:=a.heap.size) (x:=dC) rfl;clear q;generalize decide (0<=ce l h.text)=k at *
  by_cases p:l.s.e=0
  .have O:(l.s.e==0)=true:=Zu;cases L:k with
   |true=>
    have n:af (cO t names true b=(h,cm 6 h.y l)):=Zu;clear p;subst L;go_wp21;refine bj j (mM · 6 h.y) λb9 m=>?_;clear C D E F G H I J r u w x y z A B;obtain⟨C,D,E,F,G,H,I,J⟩:=m.w.al (i:=0) rfl;obtain⟨r,u,w,x,y,z,A,B⟩:=m.w.al (i:=1) (R:=a.heap.size) (x:=dC) rfl;go_wp2;refine sd (R:=a.heap.size) (x:=h) Zr Zr rfl (m.w.a4 (i:=1) (R:=a.heap.size) (y:=dC) rfl h) ?_;rw[n.w];exact⟨rfl,(m.w.dY (i:=1) (R:=a.heap.size) (y:=dC) rfl h).fin.1,(m.w.dY (i:=1) (R:=a.heap.size) (y:=dC) rfl h).fin.2,o.w⟩
   |false=>
    have n:af (cO t names true b=(h,l)):=Zu;clear p;subst L;go_wp2;refine sd (R:=a.heap.size) (x:=h) Zr Zr rfl (j.w.a4 (i:=1) (R:=a.heap.size) (y:=dC) rfl h) ?_;rw[n.w];exact⟨rfl,(j.w.dY (i:=1) (R:=a.heap.size) (y:=dC) rfl h).fin.1,(j.w.dY (i:=1) (R:=a.heap.size) (y:=dC) rfl h).fin.2,o.w⟩
  .have O:(l.s.e==0)=false:=Zu;have n:af (cO t names true b=(h,l)):=Zu;clear p;go_wp2;refine sd (R:=a.heap.size) (x:=h) Zr Zr rfl (j.w.a4 (i:=1) (R:=a.heap.size) (y:=dC) rfl h) ?_;rw[n.w];exact⟨rfl,(j.w.dY (i:=1) (R:=a.heap.size) (y:=dC) rfl h).fin.1,(j.w.dY (i:=1) (R:=a.heap.size) (y:=dC) rfl h).fin.2,o.w⟩
 |false=>
  simp only[Ye,if_false]at a3
  generalize names.contains h.text=k at *
  by_cases p:l.s.e=0
  .have O:(l.s.e==0)=true:=Zu;cases L:k with
   |true=>
    have n:af (cO t names false b=(h,cm 6 h.y l)):=Zu;clear p;subst L;go_wp21;refine bj j (mM · 6 h.y) λb9 m=>?_;clear C D E F G H I J r u w x y z A B;obtain⟨C,D,E,F,G,H,I,J⟩:=m.w.al (i:=0) rfl;obtain⟨r,u,w,x,y,z,A,B⟩:=m.w.al (i:=1) (R:=a.heap.size) (x:=dC) rfl;go_wp2;refine sd (R:=a.heap.size) (x:=h) Zr Zr rfl (m.w.a4 (i:=1) (R:=a.heap.size) (y:=dC) rfl h) ?_;rw[n.w];exact⟨rfl,(m.w.dY (i:=1) (R:=a.heap.size) (y:=dC) rfl h).fin.1,(m.w.dY (i:=1) (R:=a.heap.size) (y:=dC) rfl h).fin.2,o.w⟩
   |false=>
    have n:af (cO t names false b=(h,l)):=Zu;clear p;subst L;go_wp2;refine sd (R:=a.heap.size) (x:=h) Zr Zr rfl (j.w.a4 (i:=1) (R:=a.heap.size) (y:=dC) rfl h) ?_;rw[n.w];exact⟨rfl,(j.w.dY (i:=1) (R:=a.heap.size) (y:=dC) rfl h).fin.1,(j.w.dY (i:=1) (R:=a.heap.size) (y:=dC) rfl h).fin.2,o.w⟩
  .have O:(l.s.e==0)=false:=Zu;have n:af (cO t names false b=(h,l)):=Zu;clear p;go_wp2;refine sd (R:=a.heap.size) (x:=h) Zr Zr rfl (j.w.a4 (i:=1) (R:=a.heap.size) (y:=dC) rfl h) ?_;rw[n.w];exact⟨rfl,(j.w.dY (i:=1) (R:=a.heap.size) (y:=dC) rfl h).fin.1,(j.w.dY (i:=1) (R:=a.heap.size) (y:=dC) rfl h).fin.2,o.w⟩
end
section
variable {e g : Nat -> Prop} {d c : Nat} {t : Zb} {a : ai} {b : Zw} {f : PV}
theorem AW(c b d:Int)(a:ai):(hB t c b d a).1.1=0\/(c<=(hB t c b d a).1.1/\(hB t c b d a).1.1<=b):=by
 unfold hB;grind
theorem yP(c b:Int)(a:ai):(bV t c b a).1.1=0\/(c<=(bV t c b a).1.1/\(bV t c b a).1.1<=b):=by
 unfold bV;split
 .exact Y8 rfl
 .split
  .exact AW ..
  .split
   .exact AW ..
   .split
    .exact AW ..
    .split
     .split
      .exact Y8 rfl
      .exact AW ..
     .exact Y8 rfl
def PA(b:Bool)(a:ai):0<=(dz t b a).1/\(dz t b a).1<=4294967295:=by
 grind [dz,yP]
def tt(a:Int)(b:-10000000000<=a)(c:a<=10000000000):(di a).length<=13:=by
 unfold di Lib.itoa;split
 .have:=xE 10 a.natAbs Zm;grind
 .have:=xE 10 a.toNat Zm;omega
def Ui(f:cd e d t c a b):(cU t a).1.2.length<=2000:=by
 have:=f.b8;unfold cU lF;repeat' split
 all_goals simp
 omega
abbrev Qx(a:mj):Zv:=.tuple #[U a.r,Zs a.d3,Zs a.fc,.agg (gW a.x)]
def GD(e:Nat->Prop)(d:Nat)(t:Zb)(c:Nat)(a:mj×ai)(b:Zw)(g:Ending)(f:Zw):Prop:=g=.returned (Qx a.1)/\cd e d t c a.2 f/\Fr e b f/\a.1.d3.length<=2002/\a.1.fc.length<=20/\a.1.x.text.length<=2000
def AZ{f:Func}{Q:Ending->Zw->Prop}{a:Act}{R i0 i1 i2 i3:Nat}{c d e:Zv}{x:fI}(m:f.results=#[.tmp i0,.tmp i1,.tmp i2,.cell i3 112])(u:a.tmps.getD i0 undef=c)(w:a.tmps.getD i1 undef=d)(y:a.tmps.getD i2 undef=e)(z:a.tmps.getD i3 undef=Zp R)(k:a.defers=[])(t:b.heap[R]? = some (oW x))(l:Q (.returned (.tuple #[c,d,e,.agg (gW x)])) b):bodyPost prog f Q .ret a b:=by
 refine bodyPost_ret (v:=.tuple #[c,d,e,.agg (gW x)]) ?_ k l;unfold results;rw[m];obtain⟨n,o,p,q,r,s,A,B⟩:=fs t;have g:a.tmps[i0]?.getD undef=c:=Zu;have h:a.tmps[i1]?.getD undef=d:=Zu;have i:a.tmps[i2]?.getD undef=e:=Zu;have j:a.tmps[i3]?.getD undef=Zp R:=Zu;simp[g,h,i,j,go_sem,n,o,p,q,r,s]
def aZ.b2{f}{i R:Nat}{g k}(j:aZ e d t c a f k b)(h:f[i]? = some (.obj R g)):b.heap[R]? = some g:=j.y _ (Yh h)
def Ie{d e}{b c:Zb}(f:aJ a d b=true)(g:b≠c):aJ a e c=false:=by
 grind [aJ,kq]
def RS{i}{all b j:Bool}{k:fI}{e c f:ai}{d h:Int}{g:Zb}(n:cU t a=((h,g),e))(r:aJ e 4 [42]=false)(q:cO t i all e=(k,c))(p:aJ c 4 [91]=b)(o:aJ c 4 [60]=j)(m:dz t b c=(d,f))(l:(b||j)=true) :
  iJ t i all a=(⟨f.A.length,g++[32],(if b then [91]else [60])++di d++(if b then [93]else [62]),k⟩,dj (dP (if b then 9 else 10) d h) f):=by
 grind [iJ]
def Xh{h}{all d e i b:Bool}{j:fI}{f g:ai}{c:Int}(n:aJ a 2 Jy=d)(q:aJ a 2 Ju=e)(p:cO t h all (bq t a)=(j,f))(o:aJ f 4 [91]=i)(m:dz t b f=(c,g))(l:(d||e)=true)(k:(i&&d)=b) :
  dv t h all a=(⟨g.A.length,a.s.x.text++[32],(if b then [91]else [60])++di c++(if b then [93]else [62]),j⟩,dj (fu (if b then 6 else if e then 8 else 7) c) g):=by
 subst k;unfold dv;rw[Y9 Zu];grind [jX]
def Gj{i l f}{Q:Ending->Zw->Prop}(k:af (aZ e d t c a i l b))(o:c<=1000000000)(n:∀g m h,af (dz t f a=(g,m))->0<=g->g<=4294967295->af (aZ e d t c m i l h)->Q (.returned (U g)) h):Calls prog 217 #[Zp d,.bool f] b Q:=by
 have j:=PA (t:=t) f a;refine(PC k.w.aY f o).mono ?_;rintro r h ⟨rfl,q,p⟩;exact n _ _ _ (aa rfl) j.1 j.2 (aa (k.w.call ⟨q,p⟩))
def CH(a4:cd e d t c a b){v names}(c9:oc v names b)(d0:∀w,v.ownBlock=some w->e w)(a0:names.length<=1000000)(all:Bool)(e9:c+10<=1000000000):Calls prog 148 #[Zp d,v,.bool all] b (GD e d t (c+2) (dv t names all a) b):=by
 have c1:=aa ((lJ a4).H (oW dC));have p:=aa (Yp c9 d0);have f2:=a4.b8;clear a4 c9 d0;go_in;go_wp21;refine(jf c1.w.aY 2 Jy).mono ?_;rintro B f3 ⟨rfl,z⟩;have C:=c1;rw[<-z]at C;clear z;go_wp21;refine(jf C.w.aY 2 Ju).mono ?_;rintro B d3 ⟨rfl,rfl⟩;have e1:¬(9223372036854775807<a.s.x.text.length+1):=Zm;have d4:=lU a.s.x.text [32];obtain⟨f,c3⟩:=C.w.aY;obtain⟨-,c2,-,-,-,-,-,-,-,-,-,-,-,-,-,c4,c7⟩:=c3.al;clear c3;by_cases a2:(aJ a 2 Jy||aJ a 2 Ju)=true
 .rcases(show (aJ a 2 Jy=true/\aJ a 2 Ju=false)\/(aJ a 2 Jy=false/\aJ a 2 Ju=true) by
   cases q:aJ a 2 Jy
   .simp_all
   .exact Y8 ⟨rfl,Ie q Ze⟩)with⟨q,J⟩|⟨q,J⟩
  all_goals
   rw[q,J]
   clear a2
   go_wp21
   refine bj C (jW ·) λe3 u=>?_
   clear c2 c4 c7
   go_wp21
   refine vQ u (AM · (wn p.w.1 u.w.fr p.w.2) (λw I=>Y8 (p.w.2 w I)) a0 all Zm) λg j d1 E H D=>?_
   have A:=aa (D.w.H (oW g))
   go_wp21
   refine(jf A.w.aY 4 [91]).mono ?_
   rintro B e4 ⟨rfl,z⟩
   have l:=A
   rw[<-z]at l
   clear z
   cases x:aJ j 4 [91]
   all_goals
    go_wp21
    refine Gj l Zm λr e8 e5 S d8 d9 M=>?_
    have o:=aa (Xh q J E.w x S.w rfl rfl)
    go_wp21
    refine(sV r Zm Zm _).mono ?_
    rintro B e6 ⟨rfl,K⟩
    have N:=aa (M.w.ac K)
    clear K
    go_wp21
    refine bj N (yy · (fu _ r) rfl rfl Zm) λd2 m=>?_
    obtain⟨b3,b4,b5,b6,b7,b8,b9,c0⟩:=m.w.al (i:=0) rfl
    obtain⟨a5,a6,a7,a8,a9,b0,b1,b2⟩:=m.w.al (i:=1) (R:=b.heap.size) (x:=dC) rfl
    have a1:=tt r Zm Zm
    unfold di at a1 o
    generalize Lib.itoa r=n at *
    have c5:=λk=>lU k n
    have d5:=λk=>lU (k++n) [93]
    have d6:=λk=>lU (k++n) [62]
    have c8:¬(9223372036854775807<1+n.length):=Zm
    have e0:¬(9223372036854775807<1+n.length+1):=Zm
    go_wp2
    go_region
    go_wp2
    have h:=aa ((m.w.dY (i:=1) (R:=b.heap.size) (y:=dC) rfl g).aU.a2 (N':=c+2) Zm)
    refine AZ (i0:=6) (i1:=7) (i2:=8) (i3:=9) (R:=b.heap.size) (x:=g) rfl rfl rfl rfl rfl rfl (h.w.b2 (i:=1) rfl) ?_
    rw[o.w]
    exact⟨rfl,h.w.fin.1,h.w.fin.2,Zx,by simp;try omega,H⟩
 .obtain⟨q,J⟩:aJ a 2 Jy=false/\aJ a 2 Ju=false:=Zu;rw[q,J];clear c2 c4 c7 d4 e1;have O:af (dv t names all a=iJ t names all a):=by show _=_;simp_all[dv]
  have d7:=Ui C.w.aY;go_wp21;refine bj C (Ii · Zm) λe3 u=>?_;generalize c6:cU t a=e2 at *
  obtain⟨⟨L,F⟩,e7⟩:=e2;have P:=aa c6;simp only at u d7;clear c6;go_wp21;refine(jf u.w.aY 4 [42]).mono ?_;rintro B d3 ⟨rfl,rfl⟩;cases a3:aJ e7 4 [42]with
  |true=>
   go_wp21;refine bj u (jW ·) λd1 D=>?_;go_wp21;refine vQ D (AM · (wn p.w.1 D.w.fr p.w.2) (λw I=>Y8 (p.w.2 w I)) a0 all Zm) λg j f4 E H A=>?_;have l:=aa (A.w.H (oW g));go_wp21;refine bj l (yy · (dP 11 0 L) rfl rfl Zm) λd2 m=>?_;obtain⟨b3,b4,b5,b6,b7,b8,b9,c0⟩:=m.w.al (i:=0) rfl;obtain⟨a5,a6,a7,a8,a9,b0,b1,b2⟩:=m.w.al (i:=1) (R:=b.heap.size) (x:=dC) rfl;have c5:=lU F [32,42];have c8:¬(9223372036854775807<F.length+2):=Zm;have o:af (dv t names all a=(⟨j.A.length,F++[32,42],[],g⟩,dj (dP 11 0 L) j)):=by
    show _=_;rw[O.w];unfold iJ;simp only[P.w,E.w,a3];simp
   go_wp2;go_region;go_wp2;have h:=aa ((m.w.dY (i:=1) (R:=b.heap.size) (y:=dC) rfl g).aU.a2 (N':=c+2) Zm);refine AZ (i0:=6) (i1:=7) (i2:=8) (i3:=9) (R:=b.heap.size) (x:=g) rfl rfl rfl rfl rfl rfl (h.w.b2 (i:=1) rfl) ?_;rw[o.w];exact⟨rfl,h.w.fin.1,h.w.fin.2,Zu,by simp;try omega,H⟩
  |false=>
   go_wp21;refine vQ u (AM · (wn p.w.1 u.w.fr p.w.2) (λw I=>Y8 (p.w.2 w I)) a0 all Zm) λg j d1 E H D=>?_;have A:=aa (D.w.H (oW g));go_wp21;refine(jf A.w.aY 4 [91]).mono ?_;rintro B e4 ⟨rfl,z⟩;have l:=A;rw[<-z]at l;clear z;go_wp21;refine(jf l.w.aY 4 [60]).mono ?_;rintro B d3 ⟨rfl,rfl⟩;have c5:=lU F [32];have c8:¬(9223372036854775807<F.length+1):=Zm;by_cases a2:(aJ j 4 [91]||aJ j 4 [60])=true
   .rcases(show (aJ j 4 [91]=true/\aJ j 4 [60]=false)\/(aJ j 4 [91]=false/\aJ j 4 [60]=true) by
     cases q:aJ j 4 [91]
     .simp_all
     .exact Y8 ⟨rfl,Ie q Ze⟩)with⟨x,G⟩|⟨x,G⟩
    all_goals
     rw[x,G]
     clear a2
     go_wp21
     refine Gj l Zm λr e8 e5 S d8 d9 M=>?_
     have o:=aa (O.w.trans (RS P.w a3 E.w x G S.w rfl))
     go_wp21
     refine(sV r Zm Zm _).mono ?_
     rintro B e6 ⟨rfl,K⟩
     have N:=aa (M.w.ac K)
     clear K
     go_wp21
     refine bj N (yy · (dP _ r L) rfl rfl Zm) λd2 m=>?_
     obtain⟨b3,b4,b5,b6,b7,b8,b9,c0⟩:=m.w.al (i:=0) rfl
     obtain⟨a5,a6,a7,a8,a9,b0,b1,b2⟩:=m.w.al (i:=1) (R:=b.heap.size) (x:=dC) rfl
     have a1:=tt r Zm Zm
     unfold di at a1 o
     generalize Lib.itoa r=n at *
     have f0:=λk=>lU k n
     have d5:=λk=>lU (k++n) [93]
     have d6:=λk=>lU (k++n) [62]
     have e0:¬(9223372036854775807<1+n.length):=Zm
     have f1:¬(9223372036854775807<1+n.length+1):=Zm
     go_wp2
     go_region
     go_wp2
     have h:=aa ((m.w.dY (i:=1) (R:=b.heap.size) (y:=dC) rfl g).aU.a2 (N':=c+2) Zm)
     refine AZ (i0:=6) (i1:=7) (i2:=8) (i3:=9) (R:=b.heap.size) (x:=g) rfl rfl rfl rfl rfl rfl (h.w.b2 (i:=1) rfl) ?_
     rw[o.w]
     exact⟨rfl,h.w.fin.1,h.w.fin.2,Zx,by simp;try omega,H⟩
   .obtain⟨x,G⟩:aJ j 4 [91]=false/\aJ j 4 [60]=false:=Zu;rw[x,G];obtain⟨b3,b4,b5,b6,b7,b8,b9,c0⟩:=l.w.al (i:=0) rfl;obtain⟨a5,a6,a7,a8,a9,b0,b1,b2⟩:=l.w.al (i:=1) (R:=b.heap.size) (x:=dC) rfl;have o:af (dv t names all a=(⟨L,F++[32],[],g⟩,j)):=by
     show _=_;rw[O.w];unfold iJ;simp only[P.w,E.w,a3,x,G];simp
    go_wp2;go_region;go_wp2;have h:=aa ((l.w.dY (i:=1) (R:=b.heap.size) (y:=dC) rfl g).aU.a2 (N':=c+2) Zm);refine AZ (i0:=6) (i1:=7) (i2:=8) (i3:=9) (R:=b.heap.size) (x:=g) rfl rfl rfl rfl rfl rfl (h.w.b2 (i:=1) rfl) ?_;rw[o.w];exact⟨rfl,h.w.fin.1,h.w.fin.2,Zg,by simp;try omega,H⟩
end
section
variable {g j : Nat -> Prop} {a f : Nat} {t : Zb} {b : ai} {d h : Zw} {c : PV}
def bB.ae{u:Nat}{σ':ai}{r:Zw}(e:bB g a t f b c d)(o:r.heap[a]? = some (pA t σ'.s (ul c σ')))(i:an [a] d r)(m:σ'.A=b.A)(A:σ'.K=b.K)(B:σ'.aq=b.aq)(C:σ'.am=b.am)(E:σ'.s.x.fin<=t.length)(H:σ'.s.x.text.length<=2000)(G:σ'.sz<=u)(D:0<=σ'.aN/\0<=σ'.aA):bB g a t u σ' c r:=by
 have l:∀{v:Zv},v.ownBlock≠some a->∀h,v.ownBlock=some h->h ∉ [a]:=λM h k p=>by
  simp_all
 have w:∀j,j∈c.bC->j ∉ [a]:=λj o p=>by
  simp only[Yc]at p;exact e.ca j o (by rw[p];simp[PV.b9])
 refine⟨o,m▸bw e.A i (l e.nd.r),A▸bw e.K i (l e.nd.n),B▸bw e.aq i (l e.nd.p),C▸e.am.bC i (l e.nd.g),m▸e.av,?_,e.nd,e.ca,e.bk,λj I=>Yr (e.a3 j I) i.aD,E,H,e.cH,G,D⟩;intro J L K F q;obtain⟨y,z⟩:=e.d8 J L K (m▸F) q;exact⟨y.bC i λh k=>w h (lM q (Y8 k)),z.bC i λh k=>w h (lM q (Ya k))⟩
def bB.g4{h:Za}{s:Zb}{K:Nat}(e:bB g a t f b c d)(j:h=⟨(b.w++s).toArray⟩)(k:s.length<=K):bB g a t (f+K) (fP s b) c (d.setCell ⟨a,10,none⟩ (.string h)):=by
 subst j;refine e.ae (σ':=fP s b) (bv (i:=10) e.ap _) ((ao [a] d).aH (p:=⟨a,10,none⟩) Zq _) rfl rfl rfl rfl e.fin e.b8 ?_ e.cn;have:=e.bc;grind [ai.sz,fP]
def aZ.g4{i}{e:Za}{s:Zb}{K:Nat}(k:aZ g a t f b i h d)(l:e=⟨(b.w++s).toArray⟩)(m:s.length<=K):aZ g a t (f+K) (fP s b) i h (d.setCell ⟨a,10,none⟩ (.string e)):=by
 obtain⟨c,j⟩:=k.aY;exact k.call ⟨⟨c,j.g4 l m⟩,zW j _⟩
def iZ{a b:Za}(c:a.data.toList=b.data.toList):a=b:=by
 cases a<;>simp_all
def Qp(R:cd g a t f b d)(d0:f+10000<=1000000000):Calls prog 82 #[Zp a] d (GP g a t (f+10000) (ih t b) (.tuple #[]) d):=by
 have a1:=aa (lJ R);obtain⟨c,k⟩:=R;obtain⟨z,G,H,I,J,K,L,M,N,A,B,C,D,E,F,O,P⟩:=k.al;go_in;go_wp21;refine bj a1 (rQ · b.aN 40) λd7 a2=>?_;go_wp21;refine bj a2 (ea · 2 Je) λd8 a3=>?_;go_wp21;refine vQ a3 (vU · 2 Zm) λh a0 b7 y d6 a4=>?_;have a5:=aa (a4.w.H (oW h));go_wp21;refine bj a5 (ea · 4 [61]) λd9 a6=>?_;go_wp21;refine bj a6 (yQ · (-2147483648) 4294967295 Zm) λe0 u=>?_;have b4:=yP (t:=t) (-2147483648) 4294967295 (aj t 4 [61] a0);generalize b3:bV t (-2147483648) 4294967295 (aj t 4 [61] a0)=b6 at *
 obtain⟨⟨j,c7⟩,c6⟩:=b6;have x:=aa b3;simp only at u b4;go_wp21;refine bj u (ea · 4 [59]) λe1 p=>?_;generalize a9:aj t 4 [59] c6=l at *
 have w:=aa a9;obtain⟨c,k⟩:=p.w.aY;obtain⟨z,G,H,I,J,K,L,M,N,A,B,C,D,E,F,O,P⟩:=k.al;by_cases o:l.s.e=0
 .have b1:(l.s.e != 0)=false:=by rw[o];rfl
  have n:af (ih t b=fP ([99,111,110,115,116,32]++h.text++JD++di j++[59,10]) (eK h.text j l)):=by
   show _=_;unfold ih;simp only[y.w,x.w,w.w,o];simp
  go_wp21;refine(sV j Zm Zm _).mono ?_;rintro c8 e2 ⟨rfl,b5⟩;have v:=aa (p.w.ac b5);obtain⟨b8,b9,c0,c1,c2,c3,c4,c5⟩:=v.w.al (i:=0) rfl;go_wp21;refine bj v (Ik · h.text j Zm) λe3 q=>?_;obtain⟨b8,b9,c0,c1,c2,c3,c4,c5⟩:=q.w.al (i:=0) rfl;obtain⟨c,k⟩:=q.w.aY;obtain⟨z,G,H,I,J,K,L,M,N,A,B,C,D,E,F,O,P⟩:=k.al;have a8:=k.bc;unfold ai.sz at a8;have b2:=tt j Zm Zm;unfold di at b2 n;generalize Lib.itoa j=r at *
  generalize eK h.text j l=m at *
  have d1:¬(9223372036854775807<m.w.length+6):=Zm;have d2:¬(9223372036854775807<m.w.length+6+h.text.length):=Zm;have d3:¬(9223372036854775807<m.w.length+6+h.text.length+3):=Zm;have d4:¬(9223372036854775807<m.w.length+6+h.text.length+3+r.length):=Zm;have d5:¬(9223372036854775807<m.w.length+6+h.text.length+3+r.length+2):=Zm;go_wp2;refine cy (λS=>S.cell? (Zd a 10)=some (Zs m.w)/\S.cell? (Zd b7.heap.size 1)=some (Zs h.text)) ?_ λc9=>?_
  .go_keep
  refine bI [0,1,2,3,4,5,6,7,8,9,10,11,12,13,14,15,16] ?_;iterate 17 (refine bK ?_)
  refine bJ ?_;refine cw λa7 b0=>?_;go_simp;refine b0.out _ _ ?_;refine nz ?_;go_end0;rw[n.w];exact⟨rfl,((q.w.g4 (K:=5000) (s:=[99,111,110,115,116,32]++h.text++JD++r++[59,10]) (iZ Zq) Zx).aU.a2 Zm).fin⟩
 .have b1:(l.s.e != 0)=true:=by simpa using o
  have n:af (ih t b=l):=by
   show _=_;unfold ih;simp only[y.w,x.w,w.w];rw[Y9 o]
  go_wp2;go_end0;rw[n.w];exact⟨rfl,(p.w.a2 Zm).fin⟩
end
section
variable {d g : Nat -> Prop} {a e : Nat} {b : Zb} {c : ai} {w h : Zw} {f : PV}
def adV(p:cd d a b e c w)(f9:e+10000<=1000000000):Calls prog 86 #[Zp a] w (GP d a b (e+10000) (iQ b c) (.tuple #[]) w):=by
 have c9:=aa (lJ p);go_in;go_wp21;refine bj c9 (ea · 2 Ja) λg6 a1=>?_;go_wp21;refine(CH a1.w.aY (names:=[]) (LQ _) (by grind [Value.ownBlock]) Zq true Zm).mono ?_;rintro f8 k ⟨rfl,e9,e4,e5,e6,e7⟩;have L:=aa (a1.w.call ⟨e9,e4⟩);generalize e2:dv b [] true (aj b 2 Ja c)=f0 at *
 obtain⟨⟨z,q,E,g⟩,h⟩:=f0;have d1:=aa e2;simp only at L e5 e6 e7;have v:=aa (L.w.H (oW g));obtain⟨f,j⟩:=L.w.aY;obtain⟨a3,b0,b1,b2,b3,b4,b5,O,b6,a4,a5,a6,a7,a8,a9,c3,d6⟩:=j.al;by_cases c2:h.s.e=0
 .have c1:(h.s.e != 0)=false:=Zu;have N:af (iQ b c=fP ([116,121,112,101,100,101,102,32]++q++g.text++E++[59,10]) (aj b 4 [59] { h with K:=h.K++[⟨g.text,1,z,g.y⟩] })):=by
   grind [iQ,af.w]
  go_wp2;generalize d4:k.alloc (oW g)=l at *
  obtain⟨f,jv,F,j,I⟩:=v.w.aY.sp;obtain⟨a3,b0,b1,b2,b3,b4,b5,O,b6,a4,a5,a6,a7,a8,a9,c3,g0⟩:=j.al;rw[I]at O;obtain⟨f1,f2,f3,f4,f5,f6,f7,c8⟩:=v.w.al (i:=0) rfl;have P:=j.bc;unfold ai.sz at P;have d5:(h.K.length+1)*40<=140737488355328:=Zm;have e1:∀c7∈mV ⟨g.text,1,z,g.y⟩,c7.oneCell'=true:=by
   intro c7 c6;simp[mV]at c6;rcases c6 with rfl|rfl|rfl|rfl<;>rfl
  have d9:(Value.slice jv h.K.length F).ownBlock≠some a:=by rw[<-I];exact j.nd.n
  have e0:∀y,(Value.slice jv h.K.length F).ownBlock=some y->y<l.heap.size/\y≠k.heap.size:=λy c1=>⟨(hR j.K Zu).2,λc2=>j.bk y (Y8 (jM Zu)) (by rw[c2];exact Ya ⟨_,Yb,rfl⟩)⟩;have e3:=aa (I▸j.K);have o:=aa (Yp I (Yp d9 e0));have x:=aa (λe8=>(((ao [] l).H e8).aU));have C:=aa j;refine cy (λr=>r.cell? (Zd a 8)=some (.slice jv h.K.length F)/\r.cell? (Zd k.heap.size 1)=some (Zs g.text)/\r.cell? (Zd k.heap.size 2)=some (U g.y)) ?_ λR=>?_
  .go_keep
  refine bI [0,1,2,3,4,5,6,7,8,9,10,11] ?_;iterate 12 (refine bK ?_)
  refine bJ ?_;refine cx 12 λD m=>?_;go_simp;refine m.out _ _ ?_ (λR=>?_)
  .go_keep
  refine nz ?_;refine cx 13 λD m=>?_;(refine mC (B:=l.heap.size) HW underlying59 (bw e3.w (x.w _) Zq) (mV ⟨g.text,1,z,g.y⟩) (aQ (w:=l) Zq) e1 d5 Zm (H:=l.heap.size+1) Zq ?_;intro b9 b7 t c5 G c0 d7;have J:=(C.w.ah (x.w _)).i6 G o.w.2.1;have h7:t.cell? (Zd a 8)=some (.slice jv h.K.length F):=(by rw[<-o.w.1];exact aS J rfl);have h8:=dw J;have h9:=au J;have a0:t.heap[k.heap.size]? = some (oW g):=((G.block _ Zx (λb8=>(o.w.2.2 _ b8.symm).2 rfl)).trans (((x.w _).L _ c8 Zq).trans (v.w.b2 (i:=0) rfl)));obtain⟨g9,h0,h1,h2,h3,h4,h5,h6⟩:=fs a0;have A:=aa (Yp G (Yp c0 (Yp c5 a0)));clear G c0 c5 J a0);refine m.out _ _ ?_ (λR=>?_)
  .go_keep
  refine nz ?_;refine bI [14,15,16] ?_;iterate 3 (refine bK ?_)
  refine bJ ?_;refine cw λD m=>?_;go_simp;refine m.out _ _ ?_;refine nz ?_;have c4:=A.w.1;rw[<-o.w.1]at c4;have d2:=aa ((C.w.ah (x.w _)).k3 (m:=⟨g.text,1,z,g.y⟩) c4 A.w.2.2.1 (by rw[o.w.1];exact A.w.2.1.imp id (λb8=>by simp_all)) d7);have d0:af (Fr (iY d [.obj k.heap.size (oW g)]) l (t.setCell ⟨a,8,none⟩ (.slice (some ⟨b9,0,none⟩) (h.K.length+1) b7))):=by
   have d3:Fr (iY d [.obj k.heap.size (oW g)]) l t:=((nU _ l).c6 (x.w _) Zq).c6 (gt A.w.1) (λK d8 S=>absurd S (C.w.bk K (Y8 (jM (by rw[o.w.1];simp_all)))));exact d3.c6 ((ao [a] t).aH (p:=⟨a,8,none⟩) Zq _) (λK d8 S=>absurd S (C.w.bk K (Y8 (by grind [PV.b9]))))
  have a2:=aa (v.w.call ⟨⟨_,d2.w⟩,d0.w⟩);generalize d4:t.setCell ⟨a,8,none⟩ (.slice (some ⟨b9,0,none⟩) (h.K.length+1) b7)=g7 at a2 ⊢;go_wp21;refine bj a2 (ea · 4 [59]) λg8 M=>?_;generalize aj b 4 [59] { h with K:=h.K++[⟨g.text,1,z,g.y⟩] } = u at *
  obtain⟨f1,f2,f3,f4,f5,f6,f7,c8⟩:=M.w.al (i:=0) rfl;obtain⟨f,j⟩:=M.w.aY;obtain⟨a3,b0,b1,b2,b3,b4,b5,O,b6,a4,a5,a6,a7,a8,a9,c3,d6⟩:=j.al;have P:=j.bc;unfold ai.sz at P;have g1:¬(9223372036854775807<u.w.length+8):=Zm;have g2:¬(9223372036854775807<u.w.length+8+q.length):=Zm;have g3:¬(9223372036854775807<u.w.length+8+q.length+g.text.length):=Zm;have g4:¬(9223372036854775807<u.w.length+8+q.length+g.text.length+E.length):=Zm;have g5:¬(9223372036854775807<u.w.length+8+q.length+g.text.length+E.length+2):=Zm;go_wp2;refine cy (λr=>r.cell? (Zd a 10)=some (Zs u.w)/\r.cell? (Zd k.heap.size 1)=some (Zs g.text)) ?_ λR=>?_
  .go_keep
  refine bI [0,1,2,3,4,5,6,7,8,9,10,11,12,13,14,15,16,17] ?_;iterate 18 (refine bK ?_)
  refine bJ ?_;refine cw λD m=>?_;go_simp;refine m.out _ _ ?_;refine nz ?_;go_end0;rw[N.w];exact⟨rfl,((M.w.g4 (K:=5000) (s:=[116,121,112,101,100,101,102,32]++q++g.text++E++[59,10]) (iZ Zq) Zx).aU.a2 Zm).fin⟩
 .have c1:(h.s.e != 0)=true:=Zu;have N:af (iQ b c=h):=by
   show _=_;unfold iQ;simp only[d1.w];simp_all
  go_wp2;go_end0;rw[N.w];exact⟨rfl,(v.w.a2 Zm).fin⟩
end
section
variable {g r : Nat -> Prop} {e h n : Nat} {c : Zb} {d p : ai} {f k o j l : Zw} {q : PV} {b : List Th} {i : Nat} {a m : Th}
def Aq{b:List Th}{i a:Nat}{c}(e:a≠i)(d:b[a]? = some c):c∈b.eraseIdx i:=List.mem_eraseIdx_iff_getElem?.2 ⟨a,e,d⟩
def aZ.h5(p:aZ g e c h d b k f)(o:b[i]? = some a):aZ (iY g (b.eraseIdx i)) e c h d [a] f f:=by
 refine⟨p.aY.bE ?_,nU ..,?_,?_,?_⟩
 .rintro q (j|⟨m,l,j⟩)
  .rcases j with j|⟨m,l,j⟩
   .exact Y8 j
   .exact Ya ⟨m,List.mem_of_mem_eraseIdx l,j⟩
  .simp at l;subst l;exact Ya ⟨m,Yh o,j⟩
 .intro m l;simp at l;subst l;exact p.y m (Yh o)
 .intro m l q j n;simp at l;subst l;rcases n with n|⟨s,r,n⟩
  .exact p.aB m (Yh o) q j n
  .obtain⟨v,u,r⟩:=List.mem_eraseIdx_iff_getElem?.1 r;exact p.c0 i v m s (λt=>u t.symm) o r q j n
 grind
def aZ.c6(A:aZ g e c h d b k f)(K:b[i]? = some a)(r:aZ (iY g (b.eraseIdx i)) e c n p [m] f o):aZ g e c n p (b.set i m) k o:=by
 have M:=(YB.1 K).1;have u:m∈[m]:=Zq;have F:∀(q:Nat) (j:Th),(b.set i m)[q]? = some j->(q=i/\j=m)\/(q≠i/\b[q]? = some j):=by
  grind
 have E:∀j∈b.set i m,j=m\/∃q,q≠i/\b[q]? = some j:=by
  grind [List.getElem?_of_mem]
 refine⟨r.aY.bE ?_,A.fr.u (r.fr.bE λ_ _ z=>Y8 z),?_,?_,?_⟩
 .rintro B (s|⟨j,l,s⟩)
  .exact Y8 (Y8 s)
  .rcases E j l with rfl|⟨q,y,l⟩
   .exact Ya ⟨j,u,s⟩
   .exact Y8 (Ya ⟨j,Aq y l,s⟩)
 .intro j l;rcases E j l with rfl|⟨q,y,l⟩
  .exact r.y j u
  .exact(A.y j (Yh l)).fr r.fr λw v=>Ya ⟨j,Aq y l,v⟩
 .intro j l B s z;rcases E j l with rfl|⟨q,y,l⟩
  .exact r.aB j u B s (Y8 z)
  .exact A.aB j (Yh l) B s z
 .intro q G j t L l I w v D;rcases F q j l with⟨rfl,rfl⟩|⟨J,H⟩
  .rcases F G t I with⟨x,_⟩|⟨x,C⟩
   .omega
   .exact r.aB j u w v (Ya ⟨t,Aq x C,D⟩)
  .rcases F G t I with⟨x,rfl⟩|⟨x,C⟩
   .exact r.aB t u w D (Ya ⟨j,Aq J H,v⟩)
   .exact A.c0 q G j t L H C w v D
def aZ.a9{m}{p C n a r q:Nat}{v D u}(B:aZ g e c h d b k f)(z:b[i]? = some (.row m p v C D))(t:an [] f j)(A:l.ownsRow 0 m p (.slice (some ⟨a,0,none⟩) n r) n u)(o:j.grownBy l v.ownBlock)(x:v.ownBlock=some a\/a=q)(E:j.heap.size=q):aZ g e c h d (b.set i (.row m p (.slice (some ⟨a,0,none⟩) n r) n u)) k l:=by
 have F:=t.aD;refine(B.ac t).bm z (gt o) (λa o=>by simpa[Th.bZ]using o) A ?_;intro w y;have m:w=a:=by simpa[Th.bZ,fM]using y.symm
 subst m;rcases x with s|s
 .exact Y8 s
 omega
def aZ.i5{m o n:Nat}{v a p}(x:aZ g e c h d b k f)(t:b[i]? = some (eO v a))(u:an [] f j)(w:l.ownsRow 0 3 1 (.slice (some ⟨m,0,none⟩) (a.length+1) o) (a.length+1) (a.map (U)++[U p]))(s:j.grownBy l v.ownBlock)(r:v.ownBlock=some m\/m=n)(q:j.heap.size=n):aZ g e c h d (b.set i (eO (.slice (some ⟨m,0,none⟩) (a.length+1) o) (a++[p]))) k l:=by
 have:=x.a9 t u w s r q;grind
def aZ.ho{m o n:Nat}{v a p}(x:aZ g e c h d b k f)(t:b[i]? = some (cV v a))(u:an [] f j)(w:l.ownsRow 0 9 1 (.slice (some ⟨m,0,none⟩) (a.length+1) o) (a.length+1) ((a.map λy=>Zs y)++[Zs p]))(s:j.grownBy l v.ownBlock)(r:v.ownBlock=some m\/m=n)(q:j.heap.size=n):aZ g e c h d (b.set i (cV (.slice (some ⟨m,0,none⟩) (a.length+1) o) (a++[p]))) k l:=by
 have:=x.a9 t u w s r q;grind
def tc:(prog.info? 3).map (λi=>(i.zero,i.size,i.bytes))=some (some (U 0),1,8):=Zk
def td:(prog.info? 9).map (λi=>(i.zero,i.size,i.bytes))=some (some (.string ⟨#[]⟩),1,16):=Zk
def Lk(m:cd g e c h d f)(k:h<=1000000000):Calls prog 215 #[Zp e] f (GP g e c (h+1) (fQ c d).2 (.tuple #[U (fQ c d).1.1,.string ⟨(fQ c d).1.2.toArray⟩]) f):=by
 have a:=aa (lJ m);go_in;go_wp21;refine(jf a.w.aY 2 Jt).mono ?_;rintro n r ⟨rfl,rfl⟩;cases p:aJ d 2 Jt with
 |true=>
  have i:af (fQ c d=((-1,Jt),bq c d)):=by show _=_;unfold fQ;simp_all
  go_wp21;refine bj a (jW ·) λj b=>?_;go_wp2;go_ret2;rw[i.w];exact⟨rfl,(b.w.a2 Zm).fin⟩
 |false=>
  have i:af (fQ c d=cU c d):=by show _=_;simp_all[fQ]
  go_wp21;refine bj a (Ii · k) λj b=>?_;generalize cU c d=l at *
  obtain⟨⟨q,o⟩,s⟩:=l;go_wp2;go_ret2;rw[i.w];exact⟨rfl,b.w.fin⟩
end
section
variable {h p : Nat -> Prop} {g f m : Nat} {d : Zb} {k s : ai} {w l b r c : Zw} {o : PV} {j : List Th} {i : Nat} {a q : Th}
def aZ.bX(c:aZ h g d f k j l w)(b:j[i]? = some a):a.At w:=c.y _ (Yh b)
def vM{b}(d:j[i]? = some a)(c:a.bZ=some b):iY h j b:=Ya ⟨a,Yh d,c⟩
def aaf{b:Func}{Q:Ending->Zw->Prop}{a:Act}{R i0 i1:Nat}{v0:Zv}{x:fI}(i:b.results=#[.tmp i0,.cell i1 112])(c:a.tmps.getD i0 undef=v0)(e:a.tmps.getD i1 undef=Zp R)(g:a.defers=[])(p:w.heap[R]? = some (oW x))(h:Q (.returned (.tuple #[v0,.agg (gW x)])) w):bodyPost prog b Q .ret a w:=by
 refine bodyPost_ret (v:=.tuple #[v0,.agg (gW x)]) ?_ g h;unfold results;rw[i];obtain⟨j,k,l,m,n,o,q,r⟩:=fs p;have d:a.tmps[i0]?.getD undef=v0:=by simpa using c
 have f:a.tmps[i1]?.getD undef=Zp R:=by simpa using e
 simp[d,f,go_sem,j,k,l,m,n,o]
def NH(h:Nat->Prop)(g:Nat)(d:Zb)(f:Nat)(i:Zc)(a:fI×ai)(w:Zw)(e:Ending)(b:Zw):Prop:=∃c,e=.returned (.tuple #[c,.agg (gW a.1)])/\aZ h g d f a.2 [cV c (i++[a.1.text])] w b/\a.1.text.length<=2000
def Gk{v names}(D:aZ h g d f k [cV v names] w w)(K:names.length<=1000000)(J:f<=1000000000):Calls prog 214 #[Zp g,v] w (NH h g d f names (cO d names false k) w):=by
 obtain⟨jv,F,rfl⟩:=bM (D.y _ Yb);have o:=aa (D.H (oW dC));go_in;go_wp21;refine(AM o.w.aY (names:=names) (o.w.bX (i:=1) rfl) (λa2 I=>vM (i:=1) rfl I) K false J).mono ?_;rintro a3 c ⟨rfl,S,O,C⟩;have q:=aa (o.w.call ⟨S,O⟩);generalize a5:cO d names false k=a0 at *
 obtain⟨a,d9⟩:=a0;simp only at q C;have m:=aa (q.w.H (oW a));go_wp2;generalize a4:c.alloc (oW a)=l at *
 obtain⟨d1,d2,d3,d4,d5,d6,d7,d8⟩:=m.w.al (i:=0) rfl;obtain⟨a6,a7,a8,a9,b0,b1,b2,b3⟩:=m.w.al (i:=1) (R:=w.heap.size) (x:=dC) rfl;have N:af (l.ownsRow 0 9 1 (.slice jv names.length F) names.length (names.map λa1=>Zs a1)):=aa (m.w.bX (i:=2) rfl);have s:=aa (λP=>(((ao [] l).H P).aU));have L:(names.length+1)*16<=140737488355328:=Zm;refine cy (λb=>b.cell? (Zd c.heap.size 0)=some (U a.F)/\b.cell? (Zd c.heap.size 1)=some (Zs a.text)/\b.cell? (Zd c.heap.size 2)=some (U a.y)/\b.cell? (Zd c.heap.size 3)=some (U a.fin)/\b.cell? (Zd c.heap.size 4)=some (U a.n)/\b.cell? (Zd c.heap.size 5)=some (U a.e)) ?_ λu=>?_
 .go_keep
 refine bI [0,1,2,5] ?_;iterate 4 (refine bK ?_)
 refine bJ ?_;refine cx 3 λt j=>?_;go_simp;refine j.out _ _ ?_ (λu=>?_)
 .go_keep
 refine nz ?_;refine cx 4 λt j=>?_;(refine mC (B:=l.heap.size) td underlying30 (bw N.w (s.w _) Zq) [Zs a.text] (aQ (w:=l) Zq) Zy L Zm (H:=l.heap.size+1) Zq ?_;intro G E c2 A z x M;have p:=aa (m.w.ho (i:=2) rfl (s.w _) A z x Zq);obtain⟨c3,c4,c5,c6,c7,c8,c9,d0⟩:=p.w.al (i:=0) rfl;obtain⟨b4,b5,b6,b7,b8,b9,c0,c1⟩:=p.w.al (i:=1) (R:=w.heap.size) (x:=dC) rfl;clear A z x M);refine j.out _ _ ?_ (λu=>?_)
 .go_keep
 refine nz ?_;refine pJ 6 ?_;refine cw λt j=>?_;go_simp;refine j.out _ _ ?_;refine nz ?_;go_wp2;have r:=aa (p.w.dY (i:=1) (R:=w.heap.size) (y:=dC) rfl a);refine aaf (i0:=4) (i1:=5) (R:=w.heap.size) (x:=a) (v0:=.slice (some ⟨G,0,none⟩) (names.length+1) E) ?_ ?_ ?_ ?_ ?_ ?_
 .rfl
 .rfl
 .rfl
 .rfl
 .exact r.w.b2 (i:=1) rfl
 .exact⟨_,rfl,r.w.bY.bY,C⟩
end
section
variable {c r : Nat -> Prop} {h f q : Nat} {t : Zb} {a k : ai} {b x d m o : Zw} {j : PV} {p : List Th} {i : Nat} {u w : Th}
def ZR(c b d:Int)(a:ai):(hB t c b d a).2.am=a.am:=by
 unfold hB;split<;>rfl
def ad7(c b:Int)(a:ai):(bV t c b a).2.am=a.am:=by
 unfold bV;repeat' split
 all_goals first|rfl|exact ZR ..
structure BU(v:Zv)(l:List Int)(n:Int)(g cap:Nat)(w5 d:Zw):Prop where
 p6:∃w6,an [] w5 w6/\w6.grownBy d v.ownBlock/\(v.ownBlock=some g\/g=w6.heap.size)
 ae:d.ownsRow 0 3 1 (.slice (some ⟨g,0,none⟩) (l.length+1) cap) (l.length+1) (l.map (U)++[U n])
 lt:g<d.heap.size
def NN(c:Nat->Prop)(h:Nat)(t:Zb)(f:Nat)(j:PV)(v:Zv)(k:List Int)(a:Int×ai)(b:Zw)(l:Ending)(d:Zw):Prop:=∃e i g,l=.returned (.tuple #[.slice (some ⟨i,0,none⟩) (k.length+1) g,U a.1])/\bB c h t f a.2 j e/\Fr c b e/\BU v k a.1 i g e d
def Kc(a8:bB c h t f a j b){v l}(R:dL v l b)(B:(∀G,v.ownBlock=some G->c G)\/(v=j.gv/\l=a.am))(d1:l.length<=1000000000)(a5:f<=1000000000):Calls prog 147 #[Zp h,v] b (NN c h t f j v l (cM t l a) b):=by
 have L:af (∀k d,bB c h t f k j d->k.am=a.am->Fr c b d->dL v l d):=aa (λk d c8 c9 a4=>by
  rcases B with B|⟨c6,c7⟩
  .exact wn R a4 B
  grind [bB.am])
 obtain⟨jv,J,rfl⟩:=bM R;have D:=aa (Yp a8 (nU c b));go_in;go_wp21;refine(MG D.w.1 4 [61]).mono ?_;rintro x m ⟨rfl,q,p⟩;have E:=aa (Yp q (D.w.2.u p));go_wp21;refine(My E.w.1 0 4294967295 a5).mono ?_;rintro x o ⟨rfl,q,p⟩;have i:=aa (Yp q (E.w.2.u p));have y:=ad7 (t:=t) 0 4294967295 (aj t 4 [61] a);generalize a7:bV t 0 4294967295 (aj t 4 [61] a)=a9 at *
 obtain⟨⟨n,F⟩,g⟩:=a9;have a2:=aa a7;simp only at i y;change g.am=a.am at y;have a3:=aa (zZ (L.w _ _ i.w.1 y i.w.2).a6 Zm n);go_wp21;refine a3.w.mono ?_;rintro x d4 ⟨rfl,rfl⟩;obtain⟨b1,b8,b9,c0,c1,c2,c3,c4,c5,b2,b3,b4,b5,b6,b7,d0,d2⟩:=i.w.1.al;rcases(show (g.s.e=0/\l.contains n=true)\/(g.s.e=0/\l.contains n=false)\/g.s.e≠0 by grind)with⟨O,A⟩|⟨O,A⟩|O;case' inl=>
  have N:(g.s.e==0)=true:=Zu;have z:af (cM t l a=(n,aj t 4 [59] (cm 6 F g))):=by
   grind [cM,af.w]
  rw[A];go_wp21;refine(CQ i.w.1 6 F).mono ?_;rintro x d3 ⟨rfl,q,p⟩;have u:=aa (Yp q (i.w.2.u p))
 case' inr.inl=>
  have N:(g.s.e==0)=true:=Zu;have z:af (cM t l a=(n,aj t 4 [59] g)):=by
   grind [cM,af.w]
  have u:=i;rw[A]
 case' inr.inr=>
  have N:(g.s.e==0)=false:=Zu;have z:af (cM t l a=(n,aj t 4 [59] g)):=by
   show _=_;unfold cM;simp only[a2.w];simp_all
  have u:=i
 all_goals
  go_wp21
  refine(MG u.w.1 4 [59]).mono ?_
  rintro x r ⟨rfl,q,p⟩
  have w:=aa (Yp q (u.w.2.u p))
  have a6:af (∀C,(r.alloc C).ownsRow 0 3 1 (.slice jv l.length J) l.length (l.map (U))):=aa (λC=>bw (L.w _ _ w.w.1 y w.w.2) ((ao [] r).H C) Zq)
  go_wp2_with (at_builtin;go_must (refine kl tc underlying24 (a6.w _) [U n] (heap_alloc_new r _) Zy Zm Zq (H:=r.heap.size+1) Zq ?_;intro K I b0 a0 P M S;have a1:af (BU (.slice jv l.length J) l n K I r b0):=aa ⟨⟨_,(ao [] r).H _,P,by simpa using M⟩,a0,S⟩;clear a0 P M S))
  go_ret2
  rw[z.w]
  exact⟨r,K,I,rfl,w.w.1,w.w.2,a1.w⟩
def NM(c:Nat->Prop)(h:Nat)(t:Zb)(f:Nat)(i:List Int)(a:Int×ai)(b:Zw)(g:Ending)(d:Zw):Prop:=∃e,g=.returned (.tuple #[e,U a.1])/\aZ c h t f a.2 [eO e (i++[a.1])] b d
def Kb{v l}(d:aZ c h t f a [eO v l] b b)(y:l.length<=1000000)(n:f<=1000000000):Calls prog 147 #[Zp h,v] b (NM c h t f l (cM t l a) b):=by
 obtain⟨j,o⟩:=d.aY;refine(Kc o (v:=v) (l:=l) (d.bX (i:=0) rfl) (Y8 λs m=>vM (i:=0) rfl m) Zm n).mono ?_;rintro w C ⟨A,x,u,rfl,r,g,⟨B,p,k,e⟩,q,z⟩;exact⟨_,rfl,(d.call ⟨⟨j,r⟩,g⟩).i5 (i:=0) rfl p q k e rfl⟩
end
section
variable {e j : Nat -> Prop} {c d h : Nat} {f : Zb} {σ t : ai} {b o m p q : Zw} {a : PV} {g : List Th} {i : Nat} {k l : Th}
def cC(σ:ai):Prop:=∀a∈σ.K,a.a7=1->0<=a.n/\a.n<σ.A.length
def pE{a}(k:bB e c f d σ a b){i:Nat}(D:i<σ.A.length):∃g p l,a.rv=.slice (some ⟨g,0,none⟩) σ.A.length p/\a.ls[i]? = some l/\b.cell? ⟨g,i*8,none⟩=some (U (σ.A.getD i bP).F)/\b.cell? ⟨g,i*8+1,none⟩=some (U (σ.A.getD i bP).n)/\b.cell? ⟨g,i*8+2,none⟩=some (U (σ.A.getD i bP).of)/\b.cell? ⟨g,i*8+3,none⟩=some l.1/\b.cell? ⟨g,i*8+4,none⟩=some l.2/\b.cell? ⟨g,i*8+5,none⟩=some (U (σ.A.getD i bP).d0)/\b.cell? ⟨g,i*8+6,none⟩=some (.string ⟨(σ.A.getD i bP).bl.toArray⟩)/\b.cell? ⟨g,i*8+7,none⟩=some (U (σ.A.getD i bP).y)/\(∀i,b.frozen? ⟨g,i,none⟩=false)/\g<b.heap.size/\g≠c:=by
 have y:i<a.ls.length:=by rw[k.av];omega
 have B:σ.A[i]? = some (σ.A.getD i bP):=Zg;have t:a.ls[i]? = some a.ls[i]:=Yd y;have A:(σ.A.zip a.ls)[i]? = some (σ.A.getD i bP,a.ls[i]):=Zg;have l:=λj m=>sZ (f:=λk:bD×(Zv×Zv)=>im k.1 k.2) (k:=8) (λ_=>rfl) (σ.A.zip a.ls) i j m;have s:=k.A;unfold sf at s;have q:=λj m (v:Zv) (o:(im (σ.A.getD i bP) a.ls[i])[j]? = some v)=>mW s (x:=v) (l j m |>.trans Zu);obtain⟨g,p,o,C,w,z⟩:=q 0 Zm _ rfl;have h:∀j (m:j<8) (v:Zv) (o:(im (σ.A.getD i bP) a.ls[i])[j]? = some v),b.cell? ⟨g,i*8+j,none⟩=some v:=by
  simp_all
 exact⟨g,p,a.ls[i],o,t,h 0 Zm _ rfl,h 1 Zm _ rfl,h 2 Zm _ rfl,h 3 Zm _ rfl,h 4 Zm _ rfl,h 5 Zm _ rfl,h 6 Zm _ rfl,h 7 Zm _ rfl,w,z,λu=>k.nd.r (by rw[o,u];rfl)⟩
def DD(a:0<=ce σ σ.s.x.text):dr σ∈σ.K:=by
 grind [uw,dr]
end
section
variable {k o : Nat -> Prop} {c g m : Nat} {b : Zb} {σ t : ai} {d r a j f : Zw} {h : PV} {l : List Th} {i : Nat} {p q : Th}
def WX(c0:cd k c b g σ d)(ok:cC σ)(d6:g<=1000000000)(E:σ.s.e=0/\σ.s.x.F=1):Calls prog 151 #[Zp c] d (GP k c b g (cG b σ).2 (.tuple #[U (cG b σ).1.1,.string ⟨(cG b σ).1.2.toArray⟩]) d):=by
 have a8:=aa E;clear E;have D:=aa ((lJ c0).H (oW σ.s.x));obtain⟨h,p⟩:=c0;obtain⟨c7,c8,c9,d0,d1,d2,-,-,-,-,S,-,-,-,-,A,d8⟩:=p.al;have d9:=DD (σ:=σ);clear p;go_in;go_wp2;generalize d7:d.alloc (oW σ.s.x)=j at *
 clear d7 c7 c8 c9 d0 d1 d2 S A d8;obtain⟨h,jv,d3,p,a3⟩:=D.w.aY.sp;have R:=aa (rO (p.ah (ao [] j).aU) d6 σ.s.x.text);rw[a3]at R;obtain⟨-,-,-,-,-,-,-,t,-,-,-,-,-,-,-,A,G⟩:=p.al;rw[a3]at t;obtain⟨I,J,K,L,M,N,O,P⟩:=D.w.al (i:=0) rfl;clear p;refine cy (λa=>a.cell? (Zd c 8)=some (.slice jv σ.K.length d3)/\a.cell? (Zd d.heap.size 1)=some (Zs σ.s.x.text)) ?_ λu=>?_
 .go_keep
 refine bI [0,1,2,3,4,5,6] ?_;iterate 7 (refine bK ?_)
 refine bJ ?_;refine cx 7 λr l=>?_;(go_simp;refine R.w.mono ?_;rintro e9 f ⟨rfl,rfl⟩);refine l.out _ _ ?_ (λu=>?_)
 .go_keep
 clear l r;refine nz ?_;refine cw λr l=>?_;go_simp;refine l.out _ _ ?_;clear l r;refine nz ?_;have v:=aa D.w.aU;clear D R u I J K L M N O P t A G a3;generalize j.drew=f at v ⊢;obtain⟨h,p⟩:=v.w.aY;obtain⟨-,-,-,-,-,-,a9,t,-,-,S,-,-,-,-,A,G⟩:=p.al;obtain⟨I,J,K,L,M,N,O,P⟩:=v.w.al (i:=0) rfl;have a7:=aa p;clear p;have E:=a8.w;clear a8;have a5:af (cG b σ=if ce σ σ.s.x.text<0\/(dr σ).a7≠1\/(hC σ (dr σ).n).F≠5 then ((0,[]),cm 7 σ.s.x.y σ)else (((dr σ).n,σ.s.x.text),bq b σ)):=by show _=_;unfold cG;simp_all
 have f3:(σ.s.e==0)=true:=Zu;have f4:((σ.s.x.F:Int)==1)=true:=Zu;clear E;by_cases d5:ce σ σ.s.x.text<0
 .have y:af (cG b σ=((0,[]),cm 7 σ.s.x.y σ)):=Zu;go_wp2;go_region;have w:=aa v.w.aU;go_wp21;refine bj w (mM · 7 σ.s.x.y) λH q=>?_;go_wp2;go_ret2;rw[y.w];exact⟨rfl,q.w.fin⟩
 .have b7:=uw (by omega:0<=ce σ σ.s.x.text);obtain⟨B,b0,e1,-,c1,C,-,c2,c3,f5⟩:=tp a7.w b7;change f.cell? _=some (U (dr σ).a7)at c1;change f.cell? _=some (U (dr σ).n)at C;rw[e1]at t;have a2:=ok _ (d9 Zm);have c4:=aa b7;generalize b5:ce σ σ.s.x.text=o at *
  obtain⟨o,rfl⟩:∃m:Nat,o=m:=⟨o.toNat,Zm⟩;simp only[Int.toNat_natCast]at *
  have f7:(o:Int)<(σ.K.length:Int):=Zm;have f6:decide ((o:Int)<0)=false:=Zq;have c6:=aa b5;clear b5 d5;by_cases a4:(dr σ).a7=1
  .have e2:((dr σ).a7 != 1)=false:=Zu;obtain⟨e3,e4⟩:=a2 a4;obtain⟨m,F⟩:∃m:Nat,(dr σ).n=m:=⟨(dr σ).n.toNat,Zm⟩;obtain⟨b2,d4,f9,e0,-,e5,-,-,-,-,-,-,-,e6,e7,f8⟩:=pE a7.w (i:=m) Zm;rw[F]at C e4;rw[e0]at a9;have b8:hC σ (dr σ).n=σ.A.getD m bP:=by unfold hC;simp_all
   generalize b6:(σ.A.getD m bP).F=z at *
   have c5:=aa F;have a6:af (cG b σ=if z≠5 then ((0,[]),cm 7 σ.s.x.y σ)else (((m:Int),σ.s.x.text),bq b σ)):=by
    show _=_;rw[a5.w,b8,b6,F];by_cases b3:z=5
    .simp_all[Y2]
    simp_all
   clear a4 F b8 a2 e3 b6 a5;go_wp2;refine cy (λa=>a.cell? (Zd c 8)=some (.slice (some ⟨B,0,none⟩) σ.K.length b0)/\a.cell? (Zd c 7)=some (.slice (some ⟨b2,0,none⟩) σ.A.length d4)/\a.cell? ⟨B,o*4+1,none⟩=some (U (dr σ).a7)/\a.cell? ⟨B,o*4+2,none⟩=some (U m)/\a.cell? ⟨b2,m*8,none⟩=some (U z)) ?_ λu=>?_
   .go_keep
   refine bI [0,1,2,3,4,5,6,7,8,9,10,11,12,13,14,15,16,17,18,19,20,21,22,23,24,25,26,27,28,29,30,31,32] ?_;iterate 33 (refine bK ?_)
   refine bJ ?_;refine cw λr l=>?_;go_simp;refine l.out _ _ ?_;clear l r;refine nz ?_;clear u;by_cases b3:z=5
   .have y:af (cG b σ=(((m:Int),σ.s.x.text),bq b σ)):=Zu;subst b3;clear a6;have w:=aa v.w.aU;go_wp21;refine bj w (jW ·) λH q=>?_;clear a9 t S A G I J K L M N O P c1 C c2 c3 e5 e6 e7;obtain⟨I,J,K,L,M,N,O,P⟩:=q.w.al (i:=0) rfl;obtain⟨e8,a1⟩:=q.w.aY;obtain⟨-,-,-,-,-,-,-,t,-,-,-,-,-,-,-,A,G⟩:=a1.al;obtain⟨a0,b1,b9,-,-,C,-,c2,c3,-⟩:=tp a1 (i:=o) c4.w;have b4:((bq b σ).K.getD o iC).n=m:=by
     rw[<-c5.w];unfold dr;rw[c6.w];rfl
    rw[b4]at C;rw[b9]at t;change H.cell? _=some (.slice (some ⟨a0,0,none⟩) σ.K.length b1)at t;clear a1 b9 b4;go_wp2;refine cy (λa=>a.cell? (Zd c 8)=some (.slice (some ⟨a0,0,none⟩) σ.K.length b1)/\a.cell? ⟨a0,o*4+2,none⟩=some (U m)/\a.cell? (Zd d.heap.size 1)=some (Zs σ.s.x.text)) ?_ λu=>?_
    .go_keep
    refine bI [0,1,2,3,4,5,6,7,8,9,10,11] ?_;iterate 12 (refine bK ?_)
    refine bJ ?_;refine cw λr l=>?_;go_simp;refine l.out _ _ ?_;clear l r;refine nz ?_;clear u;go_wp2;go_ret2;rw[y.w];exact⟨rfl,q.w.aU.fin⟩
   .have y:af (cG b σ=((0,[]),cm 7 σ.s.x.y σ)):=Zu;have f0:(z != 5)=true:=Zu;have f1:(z==5)=false:=Zu;have f2:decide (z=5)=false:=Zm;clear a6;have w:=aa v.w.aU;go_wp21;refine bj w (mM · 7 σ.s.x.y) λH q=>?_;go_wp2;go_ret2;rw[y.w];exact⟨rfl,q.w.fin⟩
  .have y:af (cG b σ=((0,[]),cm 7 σ.s.x.y σ)):=Zu;have e2:((dr σ).a7 != 1)=true:=Zu;clear a4 a2;go_wp2;refine cy (λa=>a.cell? (Zd c 8)=some (.slice (some ⟨B,0,none⟩) σ.K.length b0)/\a.cell? ⟨B,o*4+1,none⟩=some (U (dr σ).a7)) ?_ λu=>?_
   .go_keep
   refine bI [0,1,2,3,4,5,6,7,8,9,10,11,12,13,14] ?_;iterate 15 (refine bK ?_)
   refine bJ ?_;refine bI [15,16,17,18,19,20,21,22,23,24,25,26,27,28,29,30,31,32] ?_;iterate 18 (refine skz ?_)
   refine bJ ?_;refine cw λr l=>?_;go_simp;refine l.out _ _ ?_;clear l r;refine nz ?_;clear u;have w:=aa v.w.aU;go_wp21;refine bj w (mM · 7 σ.s.x.y) λH q=>?_;go_wp2;go_ret2;rw[y.w];exact⟨rfl,q.w.fin⟩
end
section
variable {f n : Nat -> Prop} {c d m : Nat} {a : Zb} {σ r : ai} {b q h j k : Zw} {g : PV} {l : List Th} {i : Nat} {o p : Th}
def WZ(a4:cd f c a d σ b)(ok:cC σ)(b2:d<=1000000000)(D:¬(σ.s.e=0/\σ.s.x.F=1)):Calls prog 151 #[Zp c] b (GP f c a d (cG a σ).2 (.tuple #[U (cG a σ).1.1,.string ⟨(cG a σ).1.2.toArray⟩]) b):=by
 have a6:=aa D;have B:=aa ((lJ a4).H (oW σ.s.x));obtain⟨g,o⟩:=a4;obtain⟨G,N,O,P,R,S,a0,C,a1,H,I,J,K,L,M,a2,c5⟩:=o.al;have c6:=DD (σ:=σ);go_in;go_wp2;generalize c2:b.alloc (oW σ.s.x)=j at *
 obtain⟨g,jv,a8,o,a3⟩:=B.w.aY.sp;have F:=aa (rO (o.ah (ao [] j).aU) b2 σ.s.x.text);rw[a3]at F;obtain⟨G,N,O,P,R,S,a0,C,a1,H,I,J,K,L,M,a2,b6⟩:=o.al;rw[a3]at C;obtain⟨r,t,u,v,w,y,z,A⟩:=B.w.al (i:=0) rfl;refine cy (λh=>h.cell? (Zd c 8)=some (.slice jv σ.K.length a8)/\h.cell? (Zd b.heap.size 1)=some (Zs σ.s.x.text)) ?_ λb1=>?_
 .go_keep
 refine bI [0,1,2,3,4,5,6] ?_;iterate 7 (refine bK ?_)
 refine bJ ?_;refine cx 7 λa7 E=>?_;(go_simp;refine F.w.mono ?_;rintro a9 k ⟨rfl,rfl⟩);refine E.out _ _ ?_ (λb1=>?_)
 .go_keep
 refine nz ?_;refine cw λa7 E=>?_;go_simp;refine E.out _ _ ?_;refine nz ?_;have n:=aa B.w.aU;generalize j.drew=k at n ⊢;obtain⟨g,o⟩:=n.w.aY;obtain⟨G,N,O,P,R,S,a0,C,a1,H,I,J,K,L,M,a2,b6⟩:=o.al;obtain⟨r,t,u,v,w,y,z,A⟩:=n.w.al (i:=0) rfl;have c0:=aa o;have D:=a6.w;by_cases b5:σ.s.e=0
 .have b3:(σ.s.e==0)=true:=Zu;have c4:σ.s.x.F≠1:=λb0=>D ⟨b5,b0⟩;have c3:((σ.s.x.F:Int)==1)=false:=by rw[Yi];omega
  by_cases c1:σ.s.x.F=2
  .have b4:((σ.s.x.F:Int)==2)=true:=Zu;have q:af (cG a σ=if σ.s.x.text=Jk\/σ.s.x.text=Jb\/σ.s.x.text=Js then if σ.s.x.text=Jk then ((0,Jk),bq a σ)else if σ.s.x.text=Js then ((4,Js),bq a σ)else if aJ (bq a σ) 2 Jk=true then ((1,Jb),bq a (bq a σ))else ((1,Jb),bq a σ)else ((0,[]),ew σ)):=by
    show _=_;unfold cG;simp_all
   cases c8:(σ.s.x.text==Jk)with
   |true=>
    have m:af (cG a σ=((0,Jk),bq a σ)):=by show _=_;rw[q.w,Y9 (Y8 Zu),Y9 Zu]
    go_wp21;refine bj n (jW ·) λp l=>?_;obtain⟨r,t,u,v,w,y,z,A⟩:=l.w.al (i:=0) rfl;go_wp2;go_ret2;rw[m.w];exact⟨rfl,l.w.fin⟩
   |false=>
    cases c9:(σ.s.x.text==Jb)with
    |true=>
     have b7:¬(σ.s.x.text=Js):=by
      simp_all
     have b8:(σ.s.x.text==Js)=false:=Zu;have b9:af (cG a σ=if aJ (bq a σ) 2 Jk=true then ((1,Jb),bq a (bq a σ))else ((1,Jb),bq a σ)):=by show _=_;rw[q.w,Y9 (Ya (Y8 Zu)),Y2 Zu,Y2 b7]
     go_wp21;refine bj n (jW ·) λp l=>?_;obtain⟨r,t,u,v,w,y,z,A⟩:=l.w.al (i:=0) rfl;go_wp21;refine(jf l.w.aY 2 Jk).mono ?_;rintro a9 d1 ⟨rfl,rfl⟩;cases c7:aJ (bq a σ) 2 Jk with
     |true=>
      have m:af (cG a σ=((1,Jb),bq a (bq a σ))):=Zu;go_wp21;refine bj l (jW ·) λd0 a5=>?_;go_wp2;go_ret2;rw[m.w];exact⟨rfl,a5.w.fin⟩
     |false=>
      have m:af (cG a σ=((1,Jb),bq a σ)):=Zu;go_wp2;go_ret2;rw[m.w];exact⟨rfl,l.w.fin⟩
    |false=>
     cases b8:(σ.s.x.text==Js)with
     |true=>
      have m:af (cG a σ=((4,Js),bq a σ)):=by show _=_;rw[q.w,Y9 (Ya (Ya Zu)),Y2 Zu,Y9 Zu]
      go_wp21;refine bj n (jW ·) λp l=>?_;obtain⟨r,t,u,v,w,y,z,A⟩:=l.w.al (i:=0) rfl;go_wp2;go_ret2;rw[m.w];exact⟨rfl,l.w.fin⟩
     |false=>
      have m:af (cG a σ=((0,[]),ew σ)):=by show _=_;rw[q.w,Y2 Zu]
      go_wp21;refine bj n (sM ·) λp l=>?_;go_wp2;go_ret2;rw[m.w];exact⟨rfl,l.w.fin⟩
  .have b4:((σ.s.x.F:Int)==2)=false:=by rw[Yi];omega
   have m:af (cG a σ=((0,[]),ew σ)):=by show _=_;simp_all[cG]
   go_wp21;refine bj n (sM ·) λp l=>?_;go_wp2;go_ret2;rw[m.w];exact⟨rfl,l.w.fin⟩
 .have b3:(σ.s.e==0)=false:=Zu;have m:af (cG a σ=((0,[]),ew σ)):=by show _=_;simp_all[cG]
  go_wp21;refine bj n (sM ·) λp l=>?_;go_wp2;go_ret2;rw[m.w];exact⟨rfl,l.w.fin⟩
def Xa(i:cd f c a d σ b)(ok:cC σ)(h:d<=1000000000):Calls prog 151 #[Zp c] b (GP f c a d (cG a σ).2 (.tuple #[U (cG a σ).1.1,.string ⟨(cG a σ).1.2.toArray⟩]) b):=by
 by_cases g:σ.s.e=0/\σ.s.x.F=1
 .exact WX i ok h g
 .exact WZ i ok h g
end
section
variable {f n : Nat -> Prop} {e d l : Nat} {a : Zb} {b r : ai} {c q g h j : Zw} {m : PV} {k : List Th} {i : Nat} {o p : Th}
def NI(f:Nat->Prop)(e:Nat)(a:Zb)(d:Nat)(b:(Int×Zb×Zc)×ai)(c:Zw)(i:Ending)(g:Zw):Prop:=∃h,i=.returned (.tuple #[U b.1.1,.string ⟨b.1.2.1.toArray⟩,h])/\aZ f e a d b.2 [cV h b.1.2.2] c g/\b.1.2.1.length<=5000
def Gr{v names}(y:aZ f e a d b [cV v names] c c)(M:names.length<=1000000)(L:d+10<=1000000000):Calls prog 154 #[Zp e,v] c (NI f e a (d+2) (dy a names b) c):=by
 obtain⟨jv,I,rfl⟩:=bM (y.y _ Yb);have k:=aa y;go_in;go_wp21;refine(jf k.w.aY 2 Jt).mono ?_;rintro J b6 ⟨rfl,rfl⟩;cases b4:aJ b 2 Jt with
 |true=>
  have q:af (dy a names b=((-1,[118,111,105,100,59,32],names),aj a 4 [59] (bq a b))):=by show _=_;unfold dy;simp_all
  go_wp21;refine bj k (jW ·) λh m=>?_;go_wp21;refine bj m (ea · 4 [59]) λj o=>?_;go_wp2;go_ret3;rw[q.w];exact⟨_,rfl,o.w.a2 Zm,Zq⟩
 |false=>
  go_wp21;refine(CH k.w.aY (names:=names) (k.w.bX (i:=0) rfl) (λa7 K=>vM (i:=0) rfl K) M false L).mono ?_;rintro J h ⟨rfl,a2,R,S,a0,a1⟩;have m:=aa (k.w.call ⟨a2,R⟩);generalize b0:dv a names false b=a3 at *
  obtain⟨⟨a4,n,r,g⟩,a6⟩:=a3;have q:af (dy a names b=((a4,n++g.text++r++[59,32],names++[g.text]),aj a 4 [59] a6)):=by show _=_;simp_all[dy]
  simp only at m S a0 a1;have o:=aa (m.w.H (oW g));go_wp21;refine bj o (ea · 4 [59]) λl p=>?_;obtain⟨z,A,B,C,D,E,F,G⟩:=p.w.al (i:=0) rfl;have P:af (∀s,(l.alloc s).ownsRow 0 9 1 (.slice jv names.length I) names.length (names.map λa5=>Zs a5)):=aa (λs=>bw (p.w.bX (i:=1) rfl) ((ao [] l).H s) Zq);have N:(names.length+1)*16<=140737488355328:=Zm;go_wp2_with (at_builtin;go_must (refine kl td underlying30 (P.w _) [Zs g.text] (heap_alloc_new l _) Zy N Zq (H:=l.heap.size+1) Zq ?_;intro a9 a8 b5 x w u O;have t:=aa (p.w.ho (i:=1) rfl ((ao [] l).H _) x w u Zq);clear x w u O z A B C D E F G;obtain⟨z,A,B,C,D,E,F,G⟩:=t.w.al (i:=0) rfl));have b1:¬(9223372036854775807<n.length+g.text.length):=Zm;have b2:¬(9223372036854775807<n.length+g.text.length+r.length):=Zm;have b3:¬(9223372036854775807<n.length+g.text.length+r.length+2):=Zm;go_region;go_wp2;go_ret3;rw[q.w];refine⟨_,?_,t.w.aU.bY,Zg⟩;rfl
end
section
variable {t : Zb} {b c d : ai}
def bp(b c:ai):Prop:=b.s.e≠0->c.s.e=b.s.e/\c.s.a=b.s.a
theorem fl(b:ai):bp b b:=λ_=>⟨rfl,rfl⟩
theorem bp.u(a:bp b c)(f:bp c d):bp b d:=λe=>by
 obtain⟨g,h⟩:=a e;obtain⟨i,j⟩:=f Zm;omega
theorem nP(c a:Int)(b:ai):bp b (cm c a b):=λd=>by simp[cm,jT,d]
theorem uY(b:ai):bp b (ew b):=λa=>by
 grind [ew,ny,ql,jT]
theorem kb(b:ai):bp b (bq t b):=λ_=>⟨rfl,rfl⟩
theorem br(a:Nat)(c:Zb)(b:ai):bp b (aj t a c b):=by
 unfold aj qY;split
 .exact λ_=>⟨rfl,rfl⟩
 .exact uY b
theorem wG(b:ai):bp b (dT t b).2:=by
 unfold dT li;split
 .exact fl b
 .split
  .exact λ_=>⟨rfl,rfl⟩
  .exact uY b
def tF(a:Int)(b:ai):bp b (bi t a b).2:=by
 unfold bi;split
 .exact wG b
 .split
  .exact(wG b).u (nP _ _ _)
  .exact(wG b).u λ_=>⟨rfl,rfl⟩
def LC(c a:Int)(b:ai):bp b (aV c a b):=by
 unfold aV mO;split
 .split
  .exact(uY b).u (nP _ _ _)
  .exact uY b
 grind [nP,fl]
theorem vZ{n m:Int}(c:m<=n)(b:ai):(aV n m b).s.e≠0:=by
 unfold aV mO;generalize (if b.s.e=0/\b.s.x.F=5 then ew b else b)=a
 by_cases d:a.s.e=0;all_goals simp_all[cm,jT]
def TZ{a}{c:Zb}(d:aJ b a c=true):b.s.e=0:=by
 grind [aJ,kq]
def xT{a}{c:Zb}(d:b.s.e≠0):aJ b a c=false:=by
 unfold aJ kq;grind
theorem acK(c a d:Int)(b:ai):bp b (hB t c a d b).2:=by
 grind [hB,nP,kb]
theorem jF(c a:Int)(b:ai):bp b (bV t c a b).2:=by
 grind [bV,fl,acK,nP,uY]
def hj(a:bD)(b:ai):bp b (dj a b):=λ_=>⟨rfl,rfl⟩
def qR(a:Zb)(b:ai):bp b (fP a b):=λ_=>⟨rfl,rfl⟩
theorem LE(c:Zb)(a:Int)(b:ai):bp b (eK c a b):=by
 unfold eK;simp only;split<;>exact λ_=>⟨rfl,rfl⟩
def wF(c:Zb)(a:Int)(b:ai):bp b (eH c a b):=by
 unfold eH;split<;>exact λ_=>⟨rfl,rfl⟩
def acP(b:ai):bp b (lF t b).2:=by
 grind [lF,kb,fl]
theorem LD(b:ai):bp b (cU t b).2:=by
 unfold cU;split
 .exact fl b
 .split
  .exact(kb b).u (hj _ _)
  .split
   .exact kb b
   .split
    .exact kb b
    .split
     .exact kb b
     .split
      .exact(kb b).u (acP _)
      .exact uY b
def oJ(a:Bool)(b:ai):bp b (dz t a b).2:=by
 unfold dz;split
 .exact(br _ _ _).u ((jF _ _ _).u (br _ _ _))
 .simp only;split
  .exact(br _ _ _).u (br _ _ _)
  .exact(br _ _ _).u ((jF _ _ _).u (br _ _ _))
theorem pH(c:Zc)(all:Bool)(b:ai):bp b (cO t c all b).2:=by
 unfold cO;simp only;generalize e:dT t b=a;have d:bp b a.2:=by rw[<-e];exact wG b
 generalize (if all=true then decide (0<=ce a.2 a.1.text)else c.contains a.1.text)=f
 split
 .exact d.u (nP _ _ _)
 omega
theorem acH(d:Zc)(all e:Bool)(b:ai):bp b (jX t d all e b).2:=by
 unfold jX;simp only;generalize g:cO t d all (bq t b)=f;have a:bp b f.2:=by rw[<-g];exact(kb _).u (pH _ _ _)
 by_cases c:aJ f.2 4 [91]=true/\e=true
 .rw[Y9 c];exact a.u ((oJ _ _).u (hj _ _))
 .rw[Y2 c];exact a.u ((oJ _ _).u (hj _ _))
theorem acG(h:Zc)(all:Bool)(b:ai):bp b (iJ t h all b).2:=by
 unfold iJ;simp only;generalize j:cU t b=a;have d:bp b a.2:=by rw[<-j];exact LD _
 by_cases f:aJ a.2 4 [42]=true
 .rw[Y9 f];exact d.u ((kb _).u ((pH _ _ _).u (hj _ _)))
 .rw[Y2 f];generalize k:cO t h all a.2=c;have e:bp b c.2:=by rw[<-k];exact d.u (pH _ _ _)
  by_cases g:aJ c.2 4 [91]=true
  .rw[Y9 g];exact e.u ((oJ _ _).u (hj _ _))
  .rw[Y2 g];by_cases i:aJ c.2 4 [60]=true
   .rw[Y9 i];exact e.u ((oJ _ _).u (hj _ _))
   simp_all
def Bs(a:Zc)(all:Bool)(b:ai):bp b (dv t a all b).2:=by
 grind [dv,acH,acG]
theorem LG(b:ai):bp b (cG t b).2:=by
 unfold cG;split
 .grind [nP,kb]
 .split
  .split
   .exact kb b
   .split
    .exact kb b
    .split
     .exact(kb b).u (kb _)
     .exact kb b
  .exact uY b
def Br(a:Zc)(b:ai):bp b (dy t a b).2:=by
 unfold dy;split
 .exact(kb b).u (br _ _ _)
 .exact(Bs _ _ _).u (br _ _ _)
def wE(b:ai):bp b (fQ t b).2:=by
 grind [fQ,kb,LD]
def nQ(a:Prop)[Decidable a](d c:Int)(b:ai):bp b (if a then cm d c b else b):=by
 grind [nP,fl]
def qQ(a:List Int)(b:ai):bp b (cM t a b).2:=by
 unfold cM;exact(br _ _ _).u ((jF _ _ _).u ((nQ _ _ _ _).u (br _ _ _)))
def Sm(b c:ai):Prop:=c = { b with s:=c.s }
theorem Sm.u(a:Sm b c)(e:Sm c d):Sm b d:=by
 unfold Sm at *
 grind
def Bn(c a:Int)(b:ai):Sm b (cm c a b):=rfl
def yE(b:ai):Sm b (ew b):=rfl
def fR(b:ai):Sm b (bq t b):=rfl
def aF(a:Nat)(c:Zb)(b:ai):Sm b (aj t a c b):=rfl
def nO(b:ai):Sm b (dT t b).2:=rfl
def na(a:Prop)[Decidable a](d c:Int)(b:ai):Sm b (if a then cm d c b else b):=by
 split<;>rfl
def dR(c a:Int)(b:ai):Sm b (aV c a b):=by
 unfold aV mO;repeat' split
 all_goals rfl
def io(c a:Int)(b:ai):Sm b (bV t c a b).2:=by
 unfold bV hB;repeat' split
 all_goals rfl
def tE(b:ai):Sm b (cG t b).2:=by
 unfold cG;repeat' split
 all_goals rfl
theorem Sm.A(a:Sm b c):c.A=b.A:=by rw[a]
theorem Sm.K(a:Sm b c):c.K=b.K:=by rw[a]
theorem Sm.am(a:Sm b c):c.am=b.am:=by rw[a]
end
section
variable {f p : Nat -> Prop} {d c o : Nat} {t : Zb} {a g : ai} {b u j l k : Zw} {h : PV} {n : List Th} {i : Nat} {q r : Th}
def mZ:Zv->Nat
 |.slice _ a _=>a
 |_=>0
def jw(of:Int)(v:(Int×Int)×ai):ai:=if v.2.s.e=0/\4<of/\(hC v.2 of).aR.contains v.1.1=false then cm 8 v.1.2 v.2 else v.2
def hL(d:List Int)(c b:Int)(a:ai):ai:=if a.s.e=0/\d.contains c=true then cm 6 b a else a
def Cv(t:Zb)(of:Int)(c:List Int)(d:Zb)(b:Int)(a:ai):(List Int×Zb)×ai:=
 if aJ (aj t 4 [58] a) 2 Jg=true then dg t of (14-(c++[b]).length) (c++[b]) (d++JA++di b++[58,32]) (aj t 4 [58] a)
 else ((c++[b],d++JA++di b++[58,32]),aj t 4 [58] a)
def Gx{of b c d}(f:a.s.e≠0):dg t of b c d a=((c,d),a):=by
 cases b with
 |zero=>rfl
 |succ b=>unfold dg;rw[Y9 f]
def PG{of}{nums:List Int}{out}{v:(Int×Int)×ai}(d:a.s.e=0)(f:nums.length<=12)(e:bV t (gu of) (gs of) (aj t 2 Jg (aV nums.length 12 a))=v):dg t of (14-nums.length) nums out a=Cv t of nums out v.1.1 (hL nums v.1.1 v.1.2 (jw of v)):=by
 have b:14-nums.length=(13-nums.length)+1:=Zm;have c:14-(nums++[v.1.1]).length=13-nums.length:=Zq;unfold Cv;rw[c,b];rw[dg,Y2 (by simpa using d)];simp only[e];rfl
def NJ(f:Nat->Prop)(d:Nat)(t:Zb)(c:Nat)(a:(List Int×Zb)×ai)(b:Zw)(g:Ending)(j:Zw):Prop:=∃e,g=.returned (.tuple #[e,.string ⟨a.1.2.toArray⟩])/\aZ f d t c a.2 [eO e a.1.1] b j/\a.1.2.length<=400/\a.1.1.length<=13
def PJ{v u}(m:aZ f d t c a [eO v u] b b)(of:Int)(j6:0<=of/\(4<of->of<a.A.length))(g7:∀b1∈a.A,b1.aR.length<=1000)(f5:u.length<=12)(e8:c<=1000000000):Calls prog 153 #[Zp d,U of,v] b (NJ f d t c (dg t of (14-u.length) u [] a) b):=by
 obtain⟨jv,B,rfl⟩:=bM (m.y _ Yb);obtain⟨j,rfl⟩:∃j:Nat,of=j:=⟨of.toNat,Zm⟩;have c8:=aa m;go_in;go_wp2;go_loopw [2,8] (λv L h5=>∃(jv:Option Addr) (B:Nat) (n:List Int) (w:Zb) (g:ai),v=.slice jv n.length B/\L=Zs w/\n.length<=12/\w.length<=20*n.length/\af (aZ f d t c g [eO (.slice jv n.length B) n] b h5)/\af (dg t j (14-n.length) n w g=dg t j (14-u.length) u [] a)/\af (g.A=a.A)) (λv _ _=>14-mZ v)
 case atStart=>exact⟨jv,B,u,[],a,rfl,rfl,f5,Zq,c8,aa rfl,aa rfl⟩
 case round=>
  obtain⟨jv,B,n,w,y,rfl,rfl,f7,f8,a3,b5,d7⟩:=hrel;obtain⟨h,D⟩:=a3.w.aY;obtain⟨h7,i3,i4,i5,i6,i7,b8,i8,i9,h8,a5,h9,i0,i1,i2,I,b0⟩:=D.al;by_cases c2:y.s.e=0
  .have e9:(y.s.e==0)=true:=Zu;have d3:=aa c2;go_wp21;refine bj a3 (rQ · n.length 12) λl c9=>?_;go_wp21;refine bj c9 (ea · 2 Jg) λk d0=>?_;have f8:(-2147483648:Int)<=gu j:=by unfold gu;omega
   have j2:gs j<=(4294967295:Int):=by unfold gs;omega
   go_upto_block 2 with fail;go_cut [9,10] (λh1 f3 wc=>h1=U (gu j)/\f3=U (gs j)/\wc=k);case first=>
    by_cases e7:(j:Int)=1
    .have K:gu j=0:=by unfold gu;omega
     have J:gs j=4294967295:=by unfold gs;omega
     have e5:((j:Int)==1)=true:=by rw[e7];rfl
     have A:=aa (Yp K J);go_wp2;go_meet;rw[A.w.1,A.w.2];simp
    .have e5:((j:Int)==1)=false:=by rw[Yi];omega
     by_cases C:(j:Int)=4
     .have K:gu j=0:=by unfold gu;omega
      have J:gs j=1:=by unfold gs;omega
      have e6:((j:Int)==4)=true:=by rw[C];rfl
      have A:=aa (Yp K J);go_wp2;go_meet;rw[A.w.1,A.w.2];simp
     .have K:gu j = -2147483648:=by unfold gu;omega
      have J:gs j=2147483647:=by unfold gs;omega
      have e6:((j:Int)==4)=false:=by rw[Yi];omega
      have A:=aa (Yp K J);go_wp2;go_meet;rw[A.w.1,A.w.2];simp
   case rest=>
    obtain⟨rfl,rfl,rfl⟩:=hcut;go_wp21;refine bj d0 (yQ · (gu j) (gs j) e8) λh6 R=>?_;have g9:=yP (t:=t) (gu j) (gs j) (aj t 2 Jg (aV n.length 12 y));have b6:=aa (PG (t:=t) (of:=j) (nums:=n) (out:=w) d3.w f7 rfl);have c6:=aa ((br (t:=t) 2 Jg (aV n.length 12 y)).u (jF (t:=t) (gu j) (gs j) _));have P:=aa ((((dR n.length 12 y).u (aF (t:=t) 2 Jg _)).u (io (t:=t) (gu j) (gs j) _)).A.trans d7.w);generalize bV t (gu j) (gs j) (aj t 2 Jg (aV n.length 12 y))=b1 at *
    obtain⟨⟨o,q⟩,p⟩:=b1;simp only at R g9 b6 c6 P;have j5:(-2147483648:Int)<=o/\o<=4294967295:=Zm;obtain⟨h,D⟩:=R.w.aY;obtain⟨-,-,-,-,-,-,b8,-,-,-,a5,-,-,-,-,I,b0⟩:=D.al;have a2:=aa D;go_upto_region 15 with fail;go_cut [48] (λa4 wc=>a4=.bool (decide (p.s.e=0/\(4:Int)<j))/\wc=h6);case first=>
     by_cases H:p.s.e=0
     .have f0:(p.s.e==0)=true:=by rw[H];rfl
      by_cases O:(4:Int)<j
      .have z:af (decide (p.s.e=0/\(4:Int)<j)=true):=aa (by simp[H,O]);go_wp2;go_meet;simp_all
      .have z:af (decide (p.s.e=0/\(4:Int)<j)=false):=aa (by simp[O]);go_wp2;go_meet;simp_all
     .have f0:(p.s.e==0)=false:=by rw[Yi];omega
      have z:af (decide (p.s.e=0/\(4:Int)<j)=false):=aa (by simp[H]);go_wp2;go_meet;simp_all
    case rest=>
     obtain⟨rfl,rfl⟩:=hcut;generalize g4:decide (p.s.e=0/\(4:Int)<j)=h3;have z:=aa g4;go_upto_if 48 with fail;go_cut [] (λwc=>af (aZ f d t c (jw j ((o,q),p)) [eO (.slice jv n.length B) n] b wc));case first=>
      cases h3 with
      |false=>
       have C:af (jw j ((o,q),p)=p):=aa (by unfold jw;rw[Y2 (λx=>of_decide_eq_false z.w ⟨x.1,x.2.1⟩)]);go_wp2;go_meet;rw[C.w];omega
      |true=>
       obtain⟨H,O⟩:=of_decide_eq_true z.w;have d4:=aa H;have a9:j<p.A.length:=by rw[P.w];omega
       obtain⟨j1,j0,h2,g8,g3,-,-,-,k3,-,-,-,-,k4,k5,-⟩:=pE a2.w (i:=j) a9;have f6:=(a2.w.d8 j (p.A.getD j bP) h2 (by simp[a9]) g3).1;have c5:af (hC p j=p.A.getD j bP):=aa rfl;have g6:(p.A.getD j bP).aR.length<=1000000000:=(by have:=g7 (p.A.getD j bP) (by rw[<-P.w];simp[a9]);omega);have j3:((j:Int)<(p.A.length:Int)):=Zm;have d5:=aa O;rw[g8]at b8;have e3:=aa (zZ (dL.a6 f6) g6 o);go_wp21;refine e3.w.mono ?_;rintro a6 b2 ⟨rfl,rfl⟩;cases f4:(p.A.getD j bP).aR.contains o with
       |true=>
        have C:af (jw j ((o,q),p)=p):=aa (by unfold jw;rw[Y2 (λx=>by simp only at x;rw[c5.w,f4]at x;exact absurd x.2.2 Zq)]);go_wp2;go_meet;rw[C.w];omega
       |false=>
        have C:af (jw j ((o,q),p)=cm 8 q p):=aa (by unfold jw;rw[Y9 ⟨d4.w,d5.w,by simp only;rw[c5.w];omega⟩]);go_wp21;refine bj R (mM · 8 q) λc7 a0=>?_;go_wp2;go_meet;rw[C.w];omega
     case rest=>
      rename Zw=>k0;have S:=hcut;have e0:af (bp (aV n.length 12 y) (jw j ((o,q),p))):=aa (c6.w.u (by unfold jw;split;all_goals simp_all[nP,fl]));have d6:af ((jw j ((o,q),p)).A=a.A):=aa (by unfold jw;split<;>exact P.w);generalize jw j ((o,q),p)=r at *
      obtain⟨h,D⟩:=S.w.aY;obtain⟨-,-,-,-,-,-,-,-,-,-,a5,-,-,-,-,I,b0⟩:=D.al;have e4:=aa (zZ (dL.a6 (S.w.bX (i:=0) rfl)) Zm o);go_wp21;refine e4.w.mono ?_;rintro a6 b2 ⟨rfl,rfl⟩;generalize f2:n.contains o=F at *
      have b7:=aa f2;go_upto_region 20 with fail;go_cut [75] (λa4 wc=>a4=.bool (decide (r.s.e=0)&&F)/\wc=b2);case first=>
       by_cases a8:r.s.e=0
       .have f1:(r.s.e==0)=true:=by rw[a8];rfl
        have z:af ((decide (r.s.e=0)&&F)=F):=aa (by simp[a8]);go_wp2;go_meet;simp_all
       .have f1:(r.s.e==0)=false:=by rw[Yi];omega
        have z:af ((decide (r.s.e=0)&&F)=false):=aa (by simp[a8]);go_wp2;go_meet;simp_all
      case rest=>
       obtain⟨rfl,rfl⟩:=hcut;generalize g5:(decide (r.s.e=0)&&F)=h4;have z:=aa g5;go_upto_if 75 with fail;go_cut [] (λwc=>af (aZ f d t c (hL n o q r) [eO (.slice jv n.length B) n] b wc));case first=>
        cases h4 with
        |false=>
         have a7:af (hL n o q r=r):=aa (by unfold hL;rw[Y2 (λx=>by have:=z.w;rw[<-b7.w,x.2,decide_eq_true x.1]at this;exact absurd this Ze)]);go_wp2;go_meet;rw[a7.w];omega
        |true=>
         have a7:af (hL n o q r=cm 6 q r):=aa (by unfold hL;rw[Y9 (by have:=z.w;rw[<-b7.w]at this;simpa using this)]);go_wp21;refine bj S (mM · 6 q) λc7 a0=>?_;go_wp2;go_meet;rw[a7.w];omega
       case rest=>
        rename Zw=>c7;have a0:=hcut;have d9:af (bp (aV n.length 12 y) (hL n o q r)):=aa (e0.w.u (by unfold hL;split;all_goals simp_all[nP,fl]));have e2:af ((hL n o q r).A=a.A):=aa (by unfold hL;split<;>exact d6.w);generalize hL n o q r=E at *
        have e1:=aa (d9.w.u (br (t:=t) 4 [58] E));go_wp21;refine bj a0 (ea · 4 [58]) λM b3=>?_;(try clear a5 I b0);have g2:af (∀L,(M.alloc L).ownsRow 0 3 1 (.slice jv n.length B) n.length (n.map (U))):=aa (λL=>bw (b3.w.bX (i:=0) rfl) ((ao [] M).H L) Zq);go_wp2_with (at_builtin;go_must (refine kl tc underlying24 (g2.w _) [U o] (heap_alloc_new M _) Zy Zm Zq (H:=M.heap.size+1) Zq ?_;intro c0 b9 k1 c4 c3 c1 f9;have d1:=aa (b3.w.i5 (i:=0) rfl ((ao [] M).H _) c4 c3 c1 Zq);clear c4 c3 c1 f9));refine(sV o Zm Zm _).mono ?_;rintro a6 k2 ⟨rfl,h0⟩;have b4:=aa (d1.w.ac h0);have g1:=tt o Zm Zm;have N:=aa (b5.w.symm.trans b6.w);unfold Cv at N;unfold di at g1 N;generalize Lib.itoa o=G at *
        have j7:¬(9223372036854775807<w.length+5):=Zm;have j8:¬(9223372036854775807<w.length+5+G.length):=Zm;have j9:¬(9223372036854775807<w.length+5+G.length+2):=Zm;go_wp21;refine(jf b4.w.aY 2 Jg).mono ?_;rintro a6 b2 ⟨rfl,rfl⟩;cases g0:aJ (aj t 4 [58] E) 2 Jg with
        |true=>
         have j4:n.length<12:=by
          rcases Yj n.length 12 with x|x
          .exact x
          .have I:=vZ (n:=n.length) (m:=12) Zm y;exact absurd (TZ g0) (by rw[(e1.w I).1];omega)
         have a1:af (dg t j (14-(n++[o]).length) (n++[o]) (w++JA++G++[58,32]) (aj t 4 [58] E)=dg t j (14-u.length) u [] a):=aa (N.w.trans Zu).symm;have d8:af ((aj t 4 [58] E).A=a.A):=aa e2.w;go_wp2;refine⟨⟨some ⟨c0,0,none⟩,b9,n++[o],w++JA++G++[58,32],aj t 4 [58] E,Zq,?_,Zg,Zg,?_,a1,d8⟩,by simp[mZ];omega⟩
         .rfl
         simp_all
        |false=>
         have a1:af (dg t j (14-u.length) u [] a=((n++[o],w++JA++G++[58,32]),aj t 4 [58] E)):=aa (N.w.trans Zu);go_wp2;go_ret2;rw[a1.w];refine⟨.slice (some ⟨c0,0,none⟩) (n.length+1) b9,?_,b4.w,Zg,Zu⟩;rfl
  .have e9:(y.s.e==0)=false:=Zu;have d2:af (dg t j (14-u.length) u [] a=((n,w),y)):=aa (b5.w.symm.trans (Gx c2));go_wp2;go_ret2;rw[d2.w];exact⟨_,rfl,a3.w,Zx,Zx⟩
end
section
variable {X o : Nat -> Prop} {d b N' : Nat} {t : Zb} {a j : ai} {c f k l q : Zw} {g : PV} {L : List Th} {i : Nat} {h p : Th}
def aZ.nil(i:aZ X d t b a L f c):aZ X d t b a (eO (.slice none 0 0) []::L) f c:=by
 refine⟨i.aY.bE ?_,i.fr,?_,?_,?_⟩
 .rintro l (h|⟨g,e,h⟩)
  .exact Y8 h
  .rcases Yg.1 e with rfl|e
   .grind [Th.bZ,Value.ownBlock]
   .exact Ya ⟨g,e,h⟩
 .intro g e;rcases Yg.1 e with rfl|e
  .exact xR c
  .exact i.y g e
 .intro g e l h;rcases Yg.1 e with rfl|e
  .grind [Th.bZ,Value.ownBlock]
  .exact i.aB g e l h
 .intro j k g m r e q n o p;cases j with
  |zero=>grind [Th.bZ,Value.ownBlock]
  |succ j=>
   cases k with
   |zero=>grind [Th.bZ,Value.ownBlock]
   |succ k=>exact i.c0 j k g m Zm Zu Zu n o p
def aZ.ky(i:aZ X d t b a L f c):aZ X d t b a (cV (.slice none 0 0) []::L) f c:=by
 refine⟨i.aY.bE ?_,i.fr,?_,?_,?_⟩
 .rintro l (h|⟨g,e,h⟩)
  .exact Y8 h
  .rcases Yg.1 e with rfl|e
   .grind [Th.bZ,Value.ownBlock]
   .exact Ya ⟨g,e,h⟩
 .intro g e;rcases Yg.1 e with rfl|e
  .exact LQ c
  .exact i.y g e
 .intro g e l h;rcases Yg.1 e with rfl|e
  .grind [Th.bZ,Value.ownBlock]
  .exact i.aB g e l h
 .intro j k g m r e q n o p;cases j with
  |zero=>grind [Th.bZ,Value.ownBlock]
  |succ j=>
   cases k with
   |zero=>grind [Th.bZ,Value.ownBlock]
   |succ k=>exact i.c0 j k g m Zm Zu Zu n o p
def aZ.j7{j:Th}(l:aZ X d t b a (h::j::L) f c):aZ X d t b a (j::h::L) f c:=by
 have n:∀e,e∈j::h::L->e∈h::j::L:=by
  simp_all
 refine⟨l.aY.bE ?_,l.fr,λe i=>l.y e (n e i),λe i=>l.aB e (n e i),?_⟩
 .rintro w (m|⟨e,i,m⟩)
  .exact Y8 m
  .exact Ya ⟨e,n e i,m⟩
 .intro g r e p x i q;have o:∀g:Nat,∃k,(g=0->k=1)/\(g=1->k=0)/\(g≠0->g≠1->k=g)/\(j::h::L)[g]? = (h::j::L)[k]?:=by
   intro g;match g with
   |0=>simp
   |1=>simp
   |g+2=>simp
  obtain⟨k,y,z,A,u⟩:=o g;obtain⟨s,B,C,D,v⟩:=o r;exact l.c0 k s e p Zm (u▸i) (v▸q)
def ww{o p}(g:bD)(l:aZ X d t b a (eO o g.aR::eO p g.bz::L) f c)(w:b<=1000000000):Calls prog 46 #[Zp d,.agg #[U g.F,U g.n,U g.of,o,p,U g.d0,Zs g.bl,U g.y]] c λq k=>q=.returned (U a.A.length)/\aZ X d t (b+1) (dj g a) L f k:=by
 refine(KW (X:=iY X L) l.aY ?_ g o p (l.bX (i:=0) rfl) (l.bX (i:=1) rfl) ?_ w).mono ?_
 .rintro j (e|⟨h,m,e⟩)
  .exact Y8 e
  .exact Ya ⟨h,Zg,e⟩
 .intro j e;have s:∀(i:Nat) h,(i=0\/i=1)->(eO o g.aR::eO p g.bz::L)[i]? = some h->h.bZ=some j->¬iY X L j:=by
   rintro i h C m r (z|⟨u,x,y⟩)
   .exact l.aB h (Yh m) j r z
   .obtain⟨A,D⟩:=List.getElem?_of_mem x;exact l.c0 i (A+2) h u Zm m Zu j r y
  rcases e with e|e
  .exact⟨vM (i:=0) rfl e,s 0 _ (Y8 rfl) rfl e⟩
  .exact⟨vM (i:=1) rfl e,s 1 _ (Ya rfl) rfl e⟩
 .rintro q E ⟨rfl,B,v⟩;refine⟨rfl,l.bY.bY.call ⟨B,v.bE ?_⟩⟩;rintro j _ (e|⟨h,m,e⟩)
  .exact Y8 e
  .exact Ya ⟨h,Zg,e⟩
def uu(t:Zb)(d:List Int)(f:Zb)(c:fI)(b:Int)(a:ai):Bool×List Int×Zb×ai:=
 if a.s.e≠0 then (true,d,f,a)
 else if aJ (eK c.text b a) 4 [44]=true then eh t (13-(d++[b]).length) (d++[b]) (f++c.text++JD++di b++[44,32]) (bq t (eK c.text b a))else (false,d++[b],f++c.text++JD++di b,eK c.text b a)
def RM{d f c b}(g:a.s.e=0):uu t d f c b a=if aJ (eK c.text b a) 4 [44]=true then eh t (13-(d++[b]).length) (d++[b]) (f++c.text++JD++di b++[44,32]) (bq t (eK c.text b a))else (false,d++[b],f++c.text++JD++di b,eK c.text b a):=by
 simp_all[uu]
theorem us{b c d}(f:a.s.e≠0):eh t b c d a=(false,c,d,a):=by
 cases b<;>simp_all[eh]
def RL{nums:List Int}{out}{b:fI×ai}{v:(Int×Int)×ai}(g:a.s.e=0)(h:nums.length<=12)(e:bi t 2 (aV (aV nums.length 12 a).aN 40 (aV nums.length 12 a))=b)(f:bV t (-2147483648) 2147483647 (aj t 4 [61] b.2)=v):eh t (13-nums.length) nums out a=uu t nums out b.1 v.1.1 (hL nums v.1.1 v.1.2 v.2):=by
 have c:13-nums.length=(12-nums.length)+1:=Zm;have d:13-(nums++[v.1.1]).length=12-nums.length:=Zq;unfold uu;rw[d,c];rw[eh,Y2 Zm];simp only[e,f];rfl
def sW(t:Zb)(b:Zb)(a:Bool×List Int×Zb×ai):ai:=
 if a.1=true then a.2.2.2
 else fP (a.2.2.1++[32,125,59,10]) (eH b (aj t 4 [59] (aj t 4 Jl a.2.2.2)).A.length (dj ⟨5,0,0,a.2.1,[],0,[],0⟩ (aj t 4 [59] (aj t 4 Jl a.2.2.2))))
def Hl{d}{b:List Int}{c:Zb}{a:ai}:sW t d (false,b,c,a)=fP (c++[32,125,59,10]) (eH d (aj t 4 [59] (aj t 4 Jl a)).A.length (dj ⟨5,0,0,b,[],0,[],0⟩ (aj t 4 [59] (aj t 4 Jl a)))):=rfl
def Hm{d}{b:List Int}{c:Zb}{a:ai}:sW t d (true,b,c,a)=a:=rfl
def RP(i4:cd X d t b a c)(j2:b+100000<=1000000000):Calls prog 87 #[Zp d] c (GP X d t (b+100000) (jx t a) (.tuple #[]) c):=by
 have f4:=aa (lJ i4);obtain⟨i1,g8,h7,h8,h9⟩:=info_parts tc;have i0:(U 0).cells.size=1:=rfl;go_in;go_wp21;refine bj f4 (ea · 2 Jo) λl S=>?_;go_wp21;refine vQ S (vU · 2 Zm) λn f3 c7 g0 c5 a0=>?_;have b4:=aa (a0.w.H (oW n));go_wp21;refine bj b4 (ea · 4 Jv) λk9 a1=>?_;obtain⟨a6,a7,a8,a9,b0,b1,b2,b3⟩:=a1.w.al (i:=0) rfl;have j8:¬(9223372036854775807<5+n.text.length):=Zm;have j9:¬(9223372036854775807<5+n.text.length+3):=Zm;have a3:af (jx t a=sW t n.text (eh t 13 [] (Jm++n.text++Jd) (aj t 4 Jv f3))):=by
  show _=_;unfold jx sW;simp only[g0.w]
 generalize j3:aj t 4 Jv f3=c9 at *
 have w:=aa (a1.w.nil);go_wp2;go_loopw [3,4] (λP v j0=>∃(jv:Option Addr) (J:Nat) (f:List Int) (h:Zb) (j:ai),v=.slice jv f.length J/\P=Zs h/\f.length<=12/\h.length<=2100+2100*f.length/\af (aZ X d t (b+1+2*f.length) j [eO (.slice jv f.length J) f,.obj c7.heap.size (oW n)] c j0)/\af (eh t (13-f.length) f h j=eh t 13 [] (Jm++n.text++Jd) c9)) (λ_ v _=>14-mZ v)
 case atStart=>exact⟨none,0,[],Jm++n.text++Jd,c9,rfl,Yo Value.string (iZ Zq),Zq,Zx,w,aa rfl⟩
 case round=>
  obtain⟨jv,J,f,h,u,rfl,rfl,g9,j6,c0,a2⟩:=hrel;obtain⟨g,q⟩:=c0.w.aY;obtain⟨d2,d7,d8,d9,e0,e1,e2,e3,e4,d3,a4,d4,c2,d5,d6,z,O⟩:=q.al;by_cases a5:u.s.e=0
  .have g5:(u.s.e==0)=true:=by rw[a5];rfl
   have f9:=aa a5;go_wp21;refine bj c0 (rQ · f.length 12) λl0 S=>?_;obtain⟨g,q⟩:=S.w.aY;obtain⟨-,-,-,-,-,-,-,-,-,-,-,-,c2,-,-,z,O⟩:=q.al;go_wp21;refine bj S (rQ · (aV f.length 12 u).aN 40) λl1 d1=>?_;have f1:=(LC (aV f.length 12 u).aN 40 (aV f.length 12 u)).u (tF (t:=t) 2 _);go_wp21;have j5:=c5;refine(vU d1.w.aY 2 Zm).mono ?_;rintro M l2 ⟨rfl,i5,c4,c5⟩;have a0:=aa (d1.w.call ⟨i5,c4⟩);generalize h4:bi t 2 (aV (aV f.length 12 u).aN 40 (aV f.length 12 u))=c6 at *
   obtain⟨p,c8⟩:=c6;have g1:=aa h4;simp only at a0 c5;(try simp only at f1);have b4:=aa (a0.w.H (oW p));go_wp21;refine bj b4 (ea · 4 [61]) λj1 a1=>?_;go_wp21;refine bj a1 (yQ · (-2147483648) 2147483647 Zm) λk4 w=>?_;have h5:=yP (t:=t) (-2147483648) 2147483647 (aj t 4 [61] c8);have I:=aa (RL (t:=t) (nums:=f) (out:=h) f9.w g9 g1.w rfl);have f2:=aa (f1.u ((br (t:=t) 4 [61] c8).u (jF (t:=t) (-2147483648) 2147483647 _)));(try simp only at I);generalize bV t (-2147483648) 2147483647 (aj t 4 [61] c8)=c6 at *
   obtain⟨⟨k,x⟩,o⟩:=c6;simp only at w h5 I f2;have g2:=aa (zZ (dL.a6 (w.w.bX (i:=1) rfl)) Zm k);go_wp21;refine g2.w.mono ?_;rintro M k5 ⟨rfl,h6⟩;subst h6;obtain⟨g,q⟩:=w.w.aY;obtain⟨-,-,-,-,-,-,-,-,-,-,a4,-,-,-,-,z,O⟩:=q.al;by_cases r:o.s.e=0
   .have g6:(o.s.e==0)=true:=by rw[r];rfl
    have g7:(o.s.e != 0)=false:=by rw[r];rfl
    cases e6:f.contains k with
    |true=>
     have N:hL f k x o=cm 6 x o:=by unfold hL;rw[Y9 ⟨r,e6⟩]
     have e9:(cm 6 x o).s.e≠0:=by simp[cm,jT,r]
     have A:=aa (a3.w.trans (Yo (sW t n.text) (a2.w.symm.trans (I.w.trans (by rw[N];unfold uu;rw[Y9 e9]:_=(true,f,h,cm 6 x o))))));go_wp21;refine bj w (mM · 6 x) λC F=>?_;generalize cm 6 x o=D at *
     have j4:(D.s.e != 0)=true:=by simpa using e9
     obtain⟨g,q⟩:=F.w.aY;obtain⟨-,-,-,-,-,-,-,-,-,-,a4,-,-,-,-,z,O⟩:=q.al;go_wp2;go_end0;rw[A.w,Hm];exact⟨rfl,(F.w.a2 Zm).fin⟩
    |false=>
     have N:hL f k x o=o:=by unfold hL;rw[Y2 (λB=>by rw[e6]at B;exact absurd B.2 Zq)]
     have j7:f.length<12:=by
      rcases Yj f.length 12 with B|B
      .exact B
      .have z:=vZ (n:=f.length) (m:=12) Zm u;exact absurd r (by rw[(f2.w z).1];exact z)
     have A:=aa (a2.w.symm.trans (I.w.trans ((Yo (uu t f h p k) N).trans (RM r))));obtain⟨a6,a7,a8,a9,b0,b1,b2,b3⟩:=w.w.al (i:=0) rfl;go_wp21;refine bj w (Ik · p.text k Zm) λC F=>?_;generalize eK p.text k o=D at *
     have h3:af (∀P,(C.alloc P).ownsRow 0 3 1 (.slice jv f.length J) f.length (f.map (U))):=aa (λP=>bw (F.w.bX (i:=1) rfl) ((ao [] C).H P) Zq);have h1:f.length+1<=maxLen:=Zn;go_wp2_with (at_builtin;go_must (refine wpList_append_lies _ Zr _ _ _ Zr 0 3 i1 _ 1 8 underlying24 g8 h7 h8 h9 i0 Zm (.slice jv f.length J) f.length (f.map (U)) Zr (h3.w _) ⟨C.heap.size,0,none⟩ 1 1 [U k] Zr Zr (World.news_of_block (cs:=#[U k]) (t:=3) (fr:=(0,0)) (heap_alloc_new C _)) Zy Zm h1 Zm Zq (C.heap.size+1) Zq ?_;intro g4 g3 k6 f0 e7 e5 h0;have f6:=aa (F.w.i5 (i:=1) rfl ((ao [] C).H _) f0 e7 e5 Zq);clear f0 e7 e5 h0));refine(sV k Zm Zm _).mono ?_;rintro M k7 ⟨rfl,c4⟩;have b5:=aa (f6.w.ac c4);have h2:=tt k Zm Zm;unfold di at h2 A;generalize Lib.itoa k=y at *
     obtain⟨a6,a7,a8,a9,b0,b1,b2,b3⟩:=b5.w.al (i:=0) rfl;have k0:¬(9223372036854775807<h.length+p.text.length):=Zm;have k1:¬(9223372036854775807<h.length+p.text.length+3):=Zm;have k2:¬(9223372036854775807<h.length+p.text.length+3+y.length):=Zm;go_wp21;refine(jf b5.w.aY 4 [44]).mono ?_;rintro M j1 ⟨rfl,rfl⟩;have d0:=aa (b5.w.bY);cases e8:aJ D 4 [44]with
     |true=>
      have f8:af (eh t (13-(f++[k]).length) (f++[k]) (h++p.text++JD++y++[44,32]) (bq t D)=eh t 13 [] (Jm++n.text++Jd) c9):=aa (A.w.trans (by rw[Y9 e8])).symm;go_wp21;refine bj d0 (jW ·) λk8 f5=>?_;have k3:¬(9223372036854775807<h.length+p.text.length+3+y.length+2):=Zm;go_wp2;refine⟨⟨some ⟨g4,0,none⟩,g3,f++[k],h++p.text++JD++y++[44,32],bq t D,Zq,?_,Zx,Zx,?_,f8⟩,by simp[mZ];omega⟩
      .exact Yo Value.string (iZ Zq)
      .have:=f5.w.a2 (N':=b+1+2*(f++[k]).length) Zx;exact aa (by simpa using this)
     |false=>
      have b9:=aa (a3.w.trans ((Yo (sW t n.text) (A.w.trans (by rw[Y2 (by simp[e8])]:_=(false,f++[k],h++p.text++JD++y,D)))).trans Hl));go_wp21;refine bj d0 (ea · 4 Jl) λi6 b6=>?_;go_wp21;refine bj b6 (ea · 4 [59]) λi7 b7=>?_;have b8:=aa (b7.w);generalize aj t 4 [59] (aj t 4 Jl D)=E at *
      go_wp21;refine(ww (L:=[.obj c7.heap.size (oW n)]) ⟨5,0,0,f++[k],[],0,[],0⟩ (b8.w.nil.j7) Zm).mono ?_;rintro M i8 ⟨rfl,c1⟩;have G:=aa c1;obtain⟨a6,a7,a8,a9,b0,b1,b2,b3⟩:=G.w.al (i:=0) rfl;go_wp21;refine bj G (wJ · n.text E.A.length Zm) λi9 H=>?_;generalize eH n.text E.A.length (dj ⟨5,0,0,f++[k],[],0,[],0⟩ E)=R at *
      obtain⟨g,q⟩:=H.w.aY;obtain⟨d2,d7,d8,d9,e0,e1,e2,e3,e4,d3,a4,d4,c2,d5,d6,z,O⟩:=q.al;have c3:=q.bc;unfold ai.sz at c3;have i2:¬(9223372036854775807<R.w.length+(h.length+p.text.length+3+y.length)):=Zm;have i3:¬(9223372036854775807<R.w.length+(h.length+p.text.length+3+y.length)+4):=Zm;go_wp2;go_end0;rw[b9.w];exact⟨rfl,((H.w.g4 (K:=50000) (s:=h++p.text++JD++y++[32,125,59,10]) (iZ Zq) Zx).a2 Zm).fin⟩
   .have g6:(o.s.e==0)=false:=by rw[Yi];exact r
    have g7:(o.s.e != 0)=true:=by simpa using r
    have N:hL f k x o=o:=by unfold hL;rw[Y2 (λB=>r B.1)]
    have A:=aa (a3.w.trans (Yo (sW t n.text) (a2.w.symm.trans (I.w.trans (by rw[N];unfold uu;rw[Y9 r]:_=(true,f,h,o))))));go_wp2;go_end0;rw[A.w,Hm];exact⟨rfl,(w.w.a2 Zm).fin⟩
  .have g5:(u.s.e==0)=false:=by rw[Yi];exact a5
   have f7:=aa (a2.w.symm.trans (us a5));have b9:=aa (a3.w.trans ((Yo (sW t n.text) f7.w).trans Hl));go_wp21;refine bj c0 (ea · 4 Jl) λi6 b6=>?_;go_wp21;refine bj b6 (ea · 4 [59]) λi7 b7=>?_;have b8:=aa (b7.w);generalize aj t 4 [59] (aj t 4 Jl u)=E at *
   go_wp21;refine(ww (L:=[.obj c7.heap.size (oW n)]) ⟨5,0,0,f,[],0,[],0⟩ (b8.w.nil.j7) Zm).mono ?_;rintro M i8 ⟨rfl,c1⟩;have G:=aa c1;obtain⟨a6,a7,a8,a9,b0,b1,b2,b3⟩:=G.w.al (i:=0) rfl;go_wp21;refine bj G (wJ · n.text E.A.length Zm) λi9 H=>?_;generalize eH n.text E.A.length (dj ⟨5,0,0,f,[],0,[],0⟩ E)=R at *
   obtain⟨g,q⟩:=H.w.aY;obtain⟨d2,d7,d8,d9,e0,e1,e2,e3,e4,d3,a4,d4,c2,d5,d6,z,O⟩:=q.al;have c3:=q.bc;unfold ai.sz at c3;have i2:¬(9223372036854775807<R.w.length+h.length):=Zm;have i3:¬(9223372036854775807<R.w.length+h.length+4):=Zm;go_wp2;go_end0;rw[b9.w];exact⟨rfl,((H.w.g4 (K:=50000) (s:=h++[32,125,59,10]) (iZ Zq) Zx).a2 Zm).fin⟩
end
section
variable {f l : Nat -> Prop} {d c N' : Nat} {t : Zb} {b h : ai} {g q p k u : Zw} {j : PV} {L : List Th} {i : Nat} {a o : Th}
def EK(t:Zb)(c:List Int)(e:Zc)(d:Zb)(a:mj)(b:ai):List Int×Zb×ai:=
 if aJ b 4 Jl=true then (c++[a.r],d++a.d3++a.x.text++a.fc++[59,32],b)
 else eM t (14-(c++[a.r]).length) (c++[a.r]) (e++[a.x.text]) (d++a.d3++a.x.text++a.fc++[59,32]) b
theorem yJ{a d f c}(g:b.s.e≠0):eM t a d f c b=(d,c,b):=by
 cases a<;>simp_all[eM]
def acU{a:List Int}{names out}{c:mj×ai}(e:b.s.e=0)(g:a.length<=13)(f:dv t names false (aV a.length 12 b)=c):eM t (14-a.length) a names out b=EK t a names out c.1 (aj t 4 [59] c.2):=by
 have d:14-a.length=(13-a.length)+1:=Zm;simp_all[EK,eM]
def Bt(t:Zb)(b:Zb)(a:List Int×Zb×ai):ai:=
 fP (a.2.1++JB) (eH b (aj t 4 [59] (aj t 4 Jl a.2.2)).A.length (dj ⟨12,0,0,[],a.1,0,[],0⟩ (aj t 4 [59] (aj t 4 Jl a.2.2))))
def acZ(i9:cd f d t c b g)(k5:c+100000<=1000000000):Calls prog 88 #[Zp d] g (GP f d t (c+100000) (jl t b) (.tuple #[]) g):=by
 have g0:=aa (lJ i9);obtain⟨i1,h2,h7,h8,h9⟩:=info_parts tc;have i0:(U 0).cells.size=1:=rfl;obtain⟨j2,j3,j4,j5,j6⟩:=info_parts td;have j7:(Value.string ⟨#[]⟩).cells.size=1:=rfl;go_in;go_wp21;refine bj g0 (ea · 2 Jf) λk I=>?_;go_wp21;refine vQ I (vU · 2 Zm) λq f9 b4 g4 i5 b5=>?_;have b1:=aa (b5.w.H (oW q));go_wp21;refine bj b1 (ea · 4 Jv) λl7 G=>?_;obtain⟨a2,a3,a4,a5,a6,a7,a8,a9⟩:=G.w.al (i:=0) rfl;have l0:¬(9223372036854775807<7+q.text.length):=Zm;have l1:¬(9223372036854775807<7+q.text.length+3):=Zm;have d1:af (jl t b=Bt t q.text (eM t 14 [] [] (Jp++q.text++Jd) (aj t 4 Jv f9))):=by
  show _=_;unfold jl Bt;simp only[g4.w]
 generalize k6:aj t 4 Jv f9=c7 at *
 have J:=aa (G.w.ky.nil);go_wp2;go_loopw [3,4,5] (λz v j8 k3=>∃(jv:Option Addr) (C:Nat) (s:Option Addr) (u:Nat) (l:List Int) (o:Zc) (p:Zb) (h:ai),v=.slice jv l.length C/\j8=.slice s o.length u/\z=Zs p/\l.length<=13/\af (o.length=l.length)/\(h.s.e=0->l.length<=12)/\p.length<=2100+5000*l.length/\af (aZ f d t (c+1+3*l.length) h [eO (.slice jv l.length C) l,cV (.slice s o.length u) o,.obj b4.heap.size (oW q)] g k3)/\af (eM t (14-l.length) l o p h=eM t 14 [] [] (Jp++q.text++Jd) c7)) (λ_ v _ _=>15-mZ v)
 case atStart=>exact⟨none,0,none,0,[],[],Jp++q.text++Jd,c7,rfl,rfl,Yo Value.string (iZ Zq),Zq,aa rfl,Zq,Zx,J,aa rfl⟩
 case round=>
  obtain⟨jv,C,s,u,l,o,p,A,rfl,rfl,rfl,h5,b3,h3,k9,c0,d0⟩:=hrel;obtain⟨j,D⟩:=c0.w.aY;obtain⟨d3,e0,e1,e2,e3,e4,e5,e6,e7,d4,d5,d6,d7,d8,d9,R,f0⟩:=D.al;by_cases P:A.s.e=0
  .have h1:(A.s.e==0)=true:=by rw[P];rfl
   have g2:=aa P;have k7:=h3 P;go_wp21;refine bj c0 (rQ · l.length 12) λk4 I=>?_;have k8:=i5;go_wp21;have g9:oc (.slice s o.length u) o k4:=I.w.bX (i:=1) (a:=cV (.slice s o.length u) o) rfl;have h0:∀c1,(Value.slice s o.length u).ownBlock=some c1->iY f [eO (.slice jv l.length C) l,cV (.slice s o.length u) o,.obj b4.heap.size (oW q)] c1:=λc1 c5=>vM (i:=1) (a:=cV (.slice s o.length u) o) rfl c5;have g5:=aa (CH I.w.aY g9 h0 (by have:=b3.w;omega) false Zm);refine g5.w.mono ?_;rintro c3 l8 ⟨rfl,j0,i2,i6,i7,i8⟩;have c8:=aa (I.w.call ⟨j0,i2⟩);have f7:=Bs (t:=t) o false (aV l.length 12 A);have d2:=aa (acU (t:=t) (names:=o) (out:=p) g2.w h5 rfl);generalize dv t o false (aV l.length 12 A)=j1 at *
   obtain⟨⟨w,x,y,r⟩,f8⟩:=j1;simp only at c8 i6 i7 i8 f7 d2;have b5:=aa (c8.w.H (oW r));have h6:=aa (f7.u (br (t:=t) 4 [59] f8));go_wp21;refine bj b5 (ea · 4 [59]) λH b1=>?_;generalize aj t 4 [59] f8=B at *
   have f5:af (∀z,(H.alloc z).ownsRow 0 3 1 (.slice jv l.length C) l.length (l.map (U))):=aa (λz=>bw (b1.w.bX (i:=1) (a:=eO (.slice jv l.length C) l) rfl) ((ao [] H).H z) Zq);have f2:l.length+1<=maxLen:=Zn;have f3:o.length+1<=maxLen:=by have:=b3.w;unfold maxLen;omega
   have f4:(o.length+1)*16<=140737488355328:=by have:=b3.w;omega
   go_wp2_with (at_builtin;(first|(refine wpList_append_lies _ Zr _ _ _ Zr 0 3 i1 _ 1 8 underlying24 h2 h7 h8 h9 i0 Zm (.slice jv l.length C) l.length (l.map (U)) Zr (f5.w _) ⟨H.heap.size,0,none⟩ 1 1 [U w] Zr Zr (World.news_of_block (cs:=#[U w]) (t:=3) (fr:=(0,0)) (heap_alloc_new H _)) Zy Zm f2 Zm Zq (H.heap.size+1) Zq ?_;intro g7 g6 E a0 S O c6;have G:=aa (b1.w.i5 (i:=1) rfl ((ao [] H).H _) a0 S O Zq);clear a0 S O c6 f5 f2;(obtain⟨a2,a3,a4,a5,a6,a7,a8,a9⟩:=G.w.al (i:=0) rfl);have f6:af (∀z,(E.alloc z).ownsRow 0 9 1 (.slice s o.length u) o.length (o.map λa1=>Zs a1)):=aa (λz=>bw (G.w.bX (i:=2) (a:=cV (.slice s o.length u) o) rfl) ((ao [] E).H z) Zq))|(refine wpList_append_lies _ Zr _ _ _ Zr 0 9 j2 _ 1 16 underlying30 j3 j4 j5 j6 j7 Zm (.slice s o.length u) o.length (o.map λa1=>Zs a1) Zr (f6.w _) ⟨E.heap.size,0,none⟩ 1 1 [.string ⟨(r.text).toArray⟩] Zr Zr (World.news_of_block (cs:=#[.string ⟨(r.text).toArray⟩]) (t:=9) (fr:=(0,0)) (heap_alloc_new E _)) Zy Zm f3 f4 Zq (E.heap.size+1) Zq ?_;intro e9 e8 l6 a0 S O c6;have J:=aa (G.w.ho (i:=2) rfl ((ao [] E).H _) a0 S O Zq);clear a0 S O c6 f6 f3 f4;(clear a2 a3 a4 a5 a6 a7 a8 a9;obtain⟨a2,a3,a4,a5,a6,a7,a8,a9⟩:=J.w.al (i:=0) rfl;have l2:¬(9223372036854775807<p.length+x.length):=Zm;have l3:¬(9223372036854775807<p.length+x.length+r.text.length):=Zm;have l4:¬(9223372036854775807<p.length+x.length+r.text.length+y.length):=Zm;have l5:¬(9223372036854775807<p.length+x.length+r.text.length+y.length+2):=Zm))));have c9:=aa J.w.bY;refine(jf J.w.aY 4 Jl).mono ?_;rintro c3 E ⟨rfl,rfl⟩;have b2:=aa (d0.w.symm.trans d2.w);unfold EK at b2;simp only at b2;cases f1:aJ B 4 Jl with
   |true=>
    have b8:=aa (d1.w.trans (Yo (Bt t q.text) (b2.w.trans (by rw[Y9 f1]:_=(l++[w],p++x++r.text++y++[59,32],B)))));go_wp21;refine bj c9 (ea · 4 Jl) λj9 b6=>?_;go_wp21;refine bj b6 (ea · 4 [59]) λk0 b7=>?_;have b9:af (jl t b=fP (p++x++r.text++y++[59,32]++JB) (eH q.text (aj t 4 [59] (aj t 4 Jl B)).A.length (dj ⟨12,0,0,[],l++[w],0,[],0⟩ (aj t 4 [59] (aj t 4 Jl B))))):=aa b8.w;generalize aj t 4 [59] (aj t 4 Jl B)=F at *
    go_wp21;refine(ww (L:=[cV (.slice (some ⟨e9,0,none⟩) (o.length+1) e8) (o++[r.text]),.obj b4.heap.size (oW q)]) ⟨12,0,0,[],l++[w],0,[],0⟩ (b7.w.nil) Zm).mono ?_;rintro c3 k1 ⟨rfl,c2⟩;have M:=aa c2;obtain⟨a2,a3,a4,a5,a6,a7,a8,a9⟩:=M.w.al (i:=1) rfl;go_wp21;refine bj M (wJ · q.text F.A.length Zm) λk2 N=>?_;generalize eH q.text F.A.length (dj ⟨12,0,0,[],l++[w],0,[],0⟩ F)=b0 at *
    obtain⟨j,D⟩:=N.w.aY;obtain⟨d3,e0,e1,e2,e3,e4,e5,e6,e7,d4,d5,d6,d7,d8,d9,R,f0⟩:=D.al;have c4:=D.bc;unfold ai.sz at c4;have i3:¬(9223372036854775807<b0.w.length+(p.length+x.length+r.text.length+y.length+2)):=Zm;have i4:¬(9223372036854775807<b0.w.length+(p.length+x.length+r.text.length+y.length+2)+3):=Zm;go_wp2;go_end0;rw[b9.w];exact⟨rfl,((N.w.g4 (K:=90000) (s:=p++x++r.text++y++[59,32]++JB) (iZ Zq) Zx).a2 Zm).fin⟩
   |false=>
    have g1:af (eM t (14-(l++[w]).length) (l++[w]) (o++[r.text]) (p++x++r.text++y++[59,32]) B=eM t 14 [] [] (Jp++q.text++Jd) c7):=aa (b2.w.trans (by rw[Y2 (by simp[f1])])).symm;have h4:B.s.e=0->(l++[w]).length<=12:=by
     intro g8;rcases Yj l.length 12 with c5|c5
     .simp;omega
     .have R:=vZ (n:=l.length) (m:=12) Zm A;exact absurd g8 (by rw[(h6.w R).1];exact R)
    have g3:af ((o++[r.text]).length=(l++[w]).length):=aa (by have:=b3.w;simp;omega);go_wp2;refine⟨⟨some ⟨g7,0,none⟩,g6,some ⟨e9,0,none⟩,e8,l++[w],o++[r.text],p++x++r.text++y++[59,32],B,Zq,Zq,?_,Zx,g3,h4,Zx,?_,g1⟩,by simp[mZ];omega⟩
    .exact Yo Value.string (iZ Zq)
    .have:=c9.w.a2 (N':=c+1+3*(l++[w]).length) Zx;exact aa (by simpa using this)
  .have h1:(A.s.e==0)=false:=by rw[Yi];exact P
   have b8:=aa (d1.w.trans (Yo (Bt t q.text) (d0.w.symm.trans (yJ P))));go_wp21;refine bj c0 (ea · 4 Jl) λj9 b6=>?_;go_wp21;refine bj b6 (ea · 4 [59]) λk0 b7=>?_;have b9:af (jl t b=fP (p++JB) (eH q.text (aj t 4 [59] (aj t 4 Jl A)).A.length (dj ⟨12,0,0,[],l,0,[],0⟩ (aj t 4 [59] (aj t 4 Jl A))))):=aa b8.w;generalize aj t 4 [59] (aj t 4 Jl A)=F at *
   go_wp21;refine(ww (L:=[cV (.slice s o.length u) o,.obj b4.heap.size (oW q)]) ⟨12,0,0,[],l,0,[],0⟩ (b7.w.nil) Zm).mono ?_;rintro c3 k1 ⟨rfl,c2⟩;have M:=aa c2;obtain⟨a2,a3,a4,a5,a6,a7,a8,a9⟩:=M.w.al (i:=1) rfl;go_wp21;refine bj M (wJ · q.text F.A.length Zm) λk2 N=>?_;generalize eH q.text F.A.length (dj ⟨12,0,0,[],l,0,[],0⟩ F)=b0 at *
   obtain⟨j,D⟩:=N.w.aY;obtain⟨d3,e0,e1,e2,e3,e4,e5,e6,e7,d4,d5,d6,d7,d8,d9,R,f0⟩:=D.al;have c4:=D.bc;unfold ai.sz at c4;have i3:¬(9223372036854775807<b0.w.length+p.length):=Zm;have i4:¬(9223372036854775807<b0.w.length+p.length+3):=Zm;go_wp2;go_end0;rw[b9.w];exact⟨rfl,((N.w.g4 (K:=90000) (s:=p++JB) (iZ Zq) Zx).a2 Zm).fin⟩
end
section
variable {t : Zb} {σ a b : ai}
structure dl(σ a:ai):Prop where
 A:∃l,a.A=σ.A++l/\∀r∈l,r.aR=[]/\r.bz=[]
 K:a.K=σ.K
 jq:a.aN=σ.aN/\a.aA=σ.aA/\a.am=σ.am/\a.aq=σ.aq/\a.w=σ.w
def Sm.jq(b:Sm σ a):a.aN=σ.aN/\a.aA=σ.aA/\a.am=σ.am/\a.aq=σ.aq/\a.w=σ.w:=by
 rw[b];simp
def Sm.ar(b:Sm σ a):dl σ a:=⟨⟨[],by rw[b.A];simp,Zq⟩,b.K,b.jq⟩
theorem sr(σ:ai):dl σ σ:=⟨⟨[],Zq,Zq⟩,rfl,rfl,rfl,rfl,rfl,rfl⟩
theorem dl.u(m:dl σ a)(o:dl a b):dl σ b:=by
 obtain⟨⟨q,s,t⟩,n,c,d,e,f,g⟩:=m;obtain⟨⟨r,u,v⟩,p,h,i,j,k,l⟩:=o;refine⟨⟨q++r,Zu,?_⟩,p.trans n,h.trans c,i.trans d,j.trans e,k.trans f,l.trans g⟩;grind
def vY(a:bD)(b:a.aR=[])(c:a.bz=[])(σ:ai):dl σ (dj a σ):=⟨⟨[a],rfl,Zu⟩,rfl,rfl,rfl,rfl,rfl,rfl⟩
def RY(σ:ai):dl σ (lF t σ).2:=by
 unfold lF;split
 .exact(fR σ).ar
 .split
  .exact(fR σ).ar
  .exact sr σ
def CN(σ:ai):dl σ (cU t σ).2:=by
 unfold cU;split
 .exact sr σ
 .split
  .exact(fR σ).ar.u (vY _ rfl rfl _)
  .split
   .exact(fR σ).ar
   .split
    .exact(fR σ).ar
    .split
     .exact(fR σ).ar
     .split
      .exact(fR σ).ar.u (RY _)
      .exact(yE σ).ar
def qO(a:Bool)(σ:ai):Sm σ (dz t a σ).2:=by
 unfold dz;split
 .exact(aF ..).u ((io ..).u (aF ..))
 .simp only;split
  .rfl
  .exact(aF ..).u ((io ..).u (aF ..))
def jE(b:Zc)(all:Bool)(σ:ai):Sm σ (cO t b all σ).2:=by
 unfold cO;simp only;generalize d:dT t σ=a;have c:Sm σ a.2:=by rw[<-d];rfl
 generalize (if all=true then decide (0<=ce a.2 a.1.text)else b.contains a.1.text)=e
 split
 .exact c.u (Bn ..)
 omega
theorem RV(c:Zc)(all d:Bool)(σ:ai):dl σ (jX t c all d σ).2:=by
 unfold jX;simp only;generalize f:cO t c all (bq t σ)=e;have a:dl σ e.2:=by rw[<-f];exact((fR _).u (jE ..)).ar
 by_cases b:aJ e.2 4 [91]=true/\d=true
 .rw[Y9 b];exact a.u ((qO ..).ar.u (vY _ rfl rfl _))
 .rw[Y2 b];exact a.u ((qO ..).ar.u (vY _ rfl rfl _))
theorem RU(g:Zc)(all:Bool)(σ:ai):dl σ (iJ t g all σ).2:=by
 unfold iJ;simp only;generalize i:cU t σ=a;have c:dl σ a.2:=by rw[<-i];exact CN _
 by_cases e:aJ a.2 4 [42]=true
 .rw[Y9 e];exact c.u ((fR _).ar.u ((jE ..).ar.u (vY _ rfl rfl _)))
 .rw[Y2 e];generalize j:cO t g all a.2=b;have d:dl σ b.2:=by rw[<-j];exact c.u (jE ..).ar
  by_cases f:aJ b.2 4 [91]=true
  .rw[Y9 f];exact d.u ((qO ..).ar.u (vY _ rfl rfl _))
  .rw[Y2 f];by_cases h:aJ b.2 4 [60]=true
   .rw[Y9 h];exact d.u ((qO ..).ar.u (vY _ rfl rfl _))
   simp_all
def ow(a:Zc)(all:Bool)(σ:ai):dl σ (dv t a all σ).2:=by
 grind [dv,RV,RU]
def qs(a:Zc)(σ:ai):dl σ (dy t a σ).2:=by
 unfold dy;split
 .exact((fR σ).u (aF ..)).ar
 .exact(ow ..).u (aF ..).ar
def ab3(of:Int)(v:(Int×Int)×ai):Sm v.2 (jw of v):=by
 unfold jw;split<;>rfl
def ab4(c:List Int)(b a:Int)(σ:ai):Sm σ (hL c b a σ):=by
 unfold hL;split<;>rfl
def acB(of:Int)(v:(Int×Int)×ai):bp v.2 (jw of v):=by
 grind [jw,nP,fl]
def acC(c:List Int)(b a:Int)(σ:ai):bp σ (hL c b a σ):=by
 grind [hL,nP,fl]
theorem rG(of:Int):∀(c:Nat) (a:List Int) (d:Zb) (σ:ai),Sm σ (dg t of c a d σ).2/\bp σ (dg t of c a d σ).2/\a.length<=(dg t of c a d σ).1.1.length/\(σ.s.e=0->0<c->a.length<(dg t of c a d σ).1.1.length)/\((dg t of c a d σ).2.s.e=0->0<c->(dg t of c a d σ).1.1.length<=12):=by
 intro c;induction c with
 |zero=>intro a d σ;exact⟨rfl,fl σ,Y4 _,λ_ b=>absurd b Zm,λ_ b=>absurd b Zm⟩
 |succ c q=>
  intro a d σ;by_cases f:σ.s.e=0
  .unfold dg;rw[Y2 Zm];simp only;generalize j:bV t (gu of) (gs of) (aj t 2 [99,97,115,101] (aV a.length 12 σ))=v;have r:Sm σ v.2:=by rw[<-j];exact(dR _ _ _).u ((aF _ _ _).u (io _ _ _))
   have u:bp (aV a.length 12 σ) v.2:=by rw[<-j];exact(br _ _ _).u (jF _ _ _)
   have g:=r.u ((ab3 of v).u ((ab4 a v.1.1 v.1.2 _).u (aF (t:=t) 4 [58] _)));have w:=u.u ((acB of v).u ((acC a v.1.1 v.1.2 _).u (br (t:=t) 4 [58] _)));change Sm σ (aj t 4 [58] (hL a v.1.1 v.1.2 (jw of v)))at g;have k:(if(if v.2.s.e=0/\4<of/\(hC v.2 of).aR.contains v.1.1=false then cm 8 v.1.2 v.2 else v.2).s.e=0/\a.contains v.1.1=true then cm 6 v.1.2 (if v.2.s.e=0/\4<of/\(hC v.2 of).aR.contains v.1.1=false then cm 8 v.1.2 v.2 else v.2)else (if v.2.s.e=0/\4<of/\(hC v.2 of).aR.contains v.1.1=false then cm 8 v.1.2 v.2 else v.2))=hL a v.1.1 v.1.2 (jw of v):=rfl
   rw[k];generalize aj t 4 [58] (hL a v.1.1 v.1.2 (jw of v))=h at *
   have x:h.s.e=0->a.length<12:=by
    intro l;rcases Yj a.length 12 with b|b
    .exact b
    .have o:=vZ (n:=a.length) (m:=12) Zm σ;exact absurd l (by rw[(w o).1];omega)
   by_cases i:aJ h 2 [99,97,115,101]=true
   .rw[Y9 i];obtain⟨p,y,z,A,B⟩:=q (a++[v.1.1]) (d++[99,97,115,101,32]++di v.1.1++[58,32]) h;refine⟨g.u p,λb=>absurd f b,?_,?_,?_⟩
    .grind
    .grind
    .intro b _;cases c with
     |zero=>
      grind [dg]
     |succ c=>exact B b Zm
   .rw[Y2 i];refine⟨g,λb=>absurd f b,Zq,Zq,?_⟩;grind
  .rw[Gx f];refine⟨rfl,fl σ,Y4 _,λb=>absurd b f,λb=>absurd b f⟩
def gx(d:cC σ)(c:dl σ a):cC a:=by
 intro f b e;rw[c.K]at b;obtain⟨j,i,_⟩:=c.A;obtain⟨g,h⟩:=d f b e;grind
def uH(d:cC σ)(c:Int)(g:c≠1):cC (bi t c σ).2:=by
 unfold bi;have b:=gx d (nO (t:=t) σ).ar;split
 .omega
 .split
  .exact gx b (Bn ..).ar
  .intro f a e;simp only[Yn,Yc]at a;rcases a with a|rfl
   .exact b f a e
   simp_all
def qM(a:Int)(σ:ai):(bi t a σ).2.A=σ.A:=by
 unfold bi;split
 .rfl
 .split<;>rfl
def Xc(a:cC σ):0<=(cG t σ).1.1/\(4<(cG t σ).1.1->(cG t σ).1.1<σ.A.length):=by
 unfold cG;split
 .split
  .simp
  .rename_i f b;have c:0<=ce σ σ.s.x.text:=by
    omega
   have d:(dr σ).a7=1:=Classical.byContradiction λe=>b (Ya (Y8 e));have:=a _ (DD c) d;simp_all
 grind
def WV(a:σ.s.x.text.length<=2000):(cG t σ).1.2.length<=2000:=by
 grind [cG]
end
section
variable {t : Zb} {a b d : ai}
structure fi(a b:ai):Prop where
 c:a.aN<=b.aN
 t:a.aA<=b.aA
 p:a.am.length<=b.am.length
theorem sn(a:ai):fi a a:=⟨Int.le_refl _,Int.le_refl _,Y4 _⟩
theorem fi.u(e:fi a b)(f:fi b d):fi a d:=⟨Int.le_trans e.c f.c,Int.le_trans e.t f.t,Yz e.p f.p⟩
theorem dl.cR(c:dl a b):fi a b:=by
 obtain⟨_,_,d,e,f,_⟩:=c;exact⟨Zm,Zm,Zu⟩
theorem Sm.cR(c:Sm a b):fi a b:=c.ar.cR
def vT(b:Int)(a:ai):fi a (bi t b a).2:=by
 unfold bi;split
 .exact(nO a).cR
 .split
  .exact((nO a).u (Bn ..)).cR
  .exact⟨Int.le_refl _,Int.le_refl _,Y4 _⟩
def GF(c:Zb)(b:Int)(a:ai):fi a (eK c b a)/\(eK c b a).aN=a.aN+1:=by
 unfold eK iO;simp only;split
 .exact⟨⟨Zg,Int.le_refl _,Y4 _⟩,rfl⟩
 .exact⟨⟨Zg,Int.le_refl _,Y4 _⟩,rfl⟩
def CB(c:Zb)(b:Int)(a:ai):fi a (eH c b a):=by
 unfold eH iO;split
 .exact⟨Int.le_refl _,Int.le_refl _,Y4 _⟩
 .exact sn a
def CA(b:bD)(a:ai):fi a (dj b a):=⟨Int.le_refl _,Int.le_refl _,Y4 _⟩
def zJ(b:Zb)(a:ai):fi a (fP b a):=⟨Int.le_refl _,Int.le_refl _,Y4 _⟩
def PQ(k:(ih t a).s.e=0):a.aN+1<=(ih t a).aN/\fi a (ih t a):=by
 unfold ih at *
 simp only at *
 generalize h:bi t 2 (aj t 2 Je (aV a.aN 40 a))=b at *
 have d:fi a b.2:=by rw[<-h];exact((dR ..).u (aF ..)).cR.u (vT ..)
 generalize i:bV t (-2147483648) 4294967295 (aj t 4 [61] b.2)=v at *
 have f:fi a (aj t 4 [59] v.2):=by
  refine d.u ?_;rw[<-i];exact((aF ..).u ((io ..).u (aF ..))).cR
 split
 .simp_all
 .obtain⟨j,l⟩:=GF b.1.text v.1.1 (aj t 4 [59] v.2);have g:=f.u (j.u (zJ ([99,111,110,115,116,32]++b.1.text++JD++di v.1.1++[59,10]) _));refine⟨?_,g⟩;show a.aN+1<=(eK b.1.text v.1.1 (aj t 4 [59] v.2)).aN;simp_all[fi.c]
theorem Qc(a:ai):fi a (iQ t a):=by
 unfold iQ;simp only;generalize d:dv t [] true (aj t 2 Ja a)=b;have c:fi a b.2:=by rw[<-d];exact(aF ..).cR.u (ow ..).cR
 split
 .omega
 .exact c.u ⟨Int.le_refl _,Int.le_refl _,Y4 _⟩
def Qb:∀(b:Nat) (d:List Int) (c:Zc) (e:Zb) (a:ai),fi a (eM t b d c e a).2.2:=by
 intro b;induction b with
 |zero=>intro d c e a;exact sn a
 |succ b i=>
  intro d c e a;unfold eM;split
  .exact sn a
  .simp only;generalize h:dv t c false (aV d.length 12 a)=f;have g:fi a (aj t 4 [59] f.2):=by rw[<-h];exact((dR ..).ar.u ((ow ..).u (aF ..).ar)).cR
   split
   .omega
   .exact g.u (i ..)
theorem Qa(a:ai):fi a (jl t a):=by
 unfold jl;exact(aF ..).cR.u ((vT ..).u ((aF ..).cR.u ((Qb ..).u (((aF ..).u (aF ..)).cR.u ((CA ..).u ((CB ..).u (zJ ..)))))))
def PT:∀(c:Nat) (b:List Int) (f:Zb) (a:ai),fi a (eh t c b f a).2.2.2:=by
 intro c;induction c with
 |zero=>intro b f a;exact sn a
 |succ c o=>
  intro b f a;unfold eh;split
  .exact sn a
  .simp only;generalize m:bi t 2 (aV (aV b.length 12 a).aN 40 (aV b.length 12 a))=d;have h:fi a d.2:=by rw[<-m];exact((dR ..).u (dR ..)).cR.u (vT ..)
   generalize n:bV t (-2147483648) 2147483647 (aj t 4 [61] d.2)=v;have i:fi a v.2:=by rw[<-n];exact h.u ((aF ..).u (io ..)).cR
   generalize l:(if v.2.s.e=0/\b.contains v.1.1=true then cm 6 v.1.2 v.2 else v.2)=g
   have j:fi a g:=by rw[<-l];exact i.u (na ..).cR
   split
   .omega
   .have k:=j.u (GF d.1.text v.1.1 g).1;split
    .exact k.u ((fR _).cR.u (o ..))
    omega
theorem PS(a:ai):fi a (jx t a):=by
 unfold jx;simp only;generalize g:bi t 2 (aj t 2 Jo a)=b;have d:fi a b.2:=by rw[<-g];exact(aF ..).cR.u (vT ..)
 generalize f:eh t 13 [] (Jm++b.1.text++Jd) (aj t 4 Jv b.2)=c;have e:fi a c.2.2.2:=by rw[<-f];exact d.u ((aF ..).cR.u (PT ..))
 split
 .omega
 .exact e.u (((aF ..).u (aF ..)).cR.u ((CA ..).u ((CB ..).u (zJ ..))))
def Qe(of:Int):∀(c:Nat) (b f:List Int) (d:Zc) (e:Zb) (a:ai),fi a (fa t of c b f d e a).2:=by
 intro c;induction c with
 |zero=>intro b f d e a;exact sn a
 |succ c h=>
  intro b f d e a;unfold fa;split
  .exact sn a
  .simp only;have g:fi a (dy t d (dg t of (14-b.length) b [] a).2).2:=(rG (t:=t) of _ b [] a).1.cR.u (qs ..).cR;split
   .exact g.u (h ..)
   omega
def PR(b:Zc)(a:ai):fi a (jc t b a).2:=by
 unfold jc;split
 .exact((fR _).u (aF ..)).cR.u (qs ..).cR
 .exact sn a
theorem Qd(a:ai):fi a (iR t a):=by
 unfold iR;exact(aF ..).cR.u ((vT ..).u (((aF ..).u (aF ..)).cR.u ((tE _).cR.u ((nO _).cR.u (((aF ..).u (aF ..)).cR.u ((Qe ..).u ((PR ..).u (((aF ..).u (aF ..)).cR.u ((CA ..).u ((CB ..).u (zJ ..)))))))))))
def xI(a:ai):dl a (fQ t a).2:=by
 unfold fQ;split
 .exact(fR a).ar
 .exact CN a
def qt(b:List Int)(a:ai):dl a (cM t b a).2:=by
 unfold cM;exact((aF ..).u ((io ..).u ((na ..).u (aF ..)))).ar
def RX:∀(b:Nat) (c:List ct) (e:Zc) (d:List Int) (f:Zb) (a:ai),dl a (gI t b c e d f a).2:=by
 intro b;induction b with
 |zero=>intro c e d f a;exact sr a
 |succ b r=>
  intro c e d f a;unfold gI;split
  .exact sr a
  .simp only;generalize q:fQ t (aV c.length 8 a)=i;have j:dl a i.2:=by rw[<-q];exact(dR ..).ar.u (xI _)
   generalize o:cO t e false i.2=h;have k:dl a h.2:=by rw[<-o];exact j.u (jE ..).ar
   generalize n:fQ t (aj t 4 [40] h.2)=g;have l:dl a g.2:=by rw[<-n];exact k.u ((aF ..).ar.u (xI _))
   generalize p:cM t d (aj t 4 [41] g.2)=s;have m:dl a s.2:=by rw[<-p];exact l.u ((aF ..).ar.u (qt ..))
   split
   .omega
   .exact m.u (r ..)
def Ht(b:Zc)(c:List Int)(a:ai):dl a (fx t b c a).2:=by
 unfold fx;exact(aF ..).ar.u ((jE ..).ar.u ((aF ..).ar.u ((RX ..).u ((aF ..).ar.u (qt ..)))))
def xJ:∀(c:Nat) (d:Zc) (b:List Int) (all:List ct) (e:Zb) (a:ai),dl a (fw t c d b all e a).2:=by
 intro c;induction c with
 |zero=>intro d b all e a;exact sr a
 |succ c g=>
  intro d b all e a;unfold fw;split
  .exact sr a
  .simp only;have f:dl a (fx t d b (aV b.length 4 a)).2:=(dR ..).ar.u (Ht ..);split
   .omega
   .exact f.u (g ..)
def PZ(a:ai):fi a (iD t a)/\(iD t a).am.length=a.am.length+1:=by
 have i:fi a (aj t 4 Jv (bi t 2 (aj t 2 Jc (aV a.am.length 4 a))).2):=((dR ..).u (aF ..)).cR.u ((vT ..).u (aF ..).cR);have h:(aj t 4 Jv (bi t 2 (aj t 2 Jc (aV a.am.length 4 a))).2).am=a.am:=by
  show (bi t 2 (aj t 2 Jc (aV a.am.length 4 a))).2.am=_;have g:=((dR a.am.length 4 a).u (aF (t:=t) 2 Jc _)).jq.2.2.1;unfold bi;split
  .exact g
  .split<;>exact g
 unfold iD;simp only;generalize bi t 2 (aj t 2 Jc (aV a.am.length 4 a))=b at *
 generalize j:fw t 6 [] [] [] (Jj++b.1.text++Jd) (aj t 4 Jv b.2)=v;have d:=xJ (t:=t) 6 [] [] [] (Jj++b.1.text++Jd) (aj t 4 Jv b.2);rw[j]at d;have e:=d.u ((aF (t:=t) 4 Jl v.2).ar.u (qt (t:=t) (aj t 4 Jl v.2).am _));have f:=i.u e.cR;have k:(cM t (aj t 4 Jl v.2).am (aj t 4 Jl v.2)).2.am=a.am:=e.jq.2.2.1.trans h;refine⟨⟨f.c,f.t,?_⟩,?_⟩;all_goals simp_all[fP]
end
end Go.Proofs.YtjdhaegijjednaaGreatDoor
