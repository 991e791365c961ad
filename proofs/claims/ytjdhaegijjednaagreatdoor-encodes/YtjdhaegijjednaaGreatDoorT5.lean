import Derived.Test.YtjdhaegijjednaaGreatDoorT4
import Derived.Deep.LoopGhost
import Derived.Lib.AppendStr
import Derived.Laws.IdiomStrings
import Derived.Test.YtjdhaegijjednaaGreatDoorProg
import Derived.WalkKit
import Derived.LaidEql
import Derived.Stop.Asserts
import Derived.RowKitTokens
set_option linter.all false
set_option maxRecDepth 100000
set_option maxHeartbeats 4000000
namespace Go.Proofs.YtjdhaegijjednaaGreatDoor
open Go.RowKit Go.MapKept Go.Proofs.Tryz
section
variable {g : Type} {b d i : Zw} {h : List (Nat × Obj)} {a : dZ g b h} {Fr : List (Nat × Obj)} {c : Nat} {m : gC} {f : Bool} {e : g}
def Mc.H(g:Mc a Fr c m f e d)(n:Obj):Mc a ((d.heap.size,n)::Fr) c m f e (d.alloc n):=by
 obtain⟨o,Er,p,q,g⟩:=g;refine⟨o,Er,p,q,g.rc,g.rr,a.g2 (a.H g.j n) ?_⟩;have r:∀(b l:Nat×Obj) (h i k:Zo),(b::(h++(i++l::k))).Perm (h++(i++l::b::k)):=by
  intro b l h i k;rw[<-YN,<-YN];refine(List.perm_middle (a:=b) (l₁:=h++i) (l₂:=l::k)).symm.trans ?_;exact List.Perm.append_left _ (List.Perm.swap ..)
 simp_all
def Mc.b0{i:Nat×Obj}(b:Mc a (i::Fr) c m f e d):Mc a Fr c m f e d:=by
 obtain⟨g,Er,h,k,b⟩:=b;refine⟨g,Er,h,k,b.rc,b.rr,a.bE b.j ?_ ?_⟩
 .grind
 .have:=a.kH b.j;refine this.sublist (List.Sublist.map _ ?_);simp
def Mc.at{p:Nat×Obj}(b:Mc a Fr c m f e d)(i:p∈Fr):d.heap[p.1]? = some p.2:=by
 obtain⟨g,Er,h,k,b⟩:=b;exact(a.at b.j Zg).1
end
def PL{a:Nat}{c d e:Zv}{f}{b:Zw}(g:b.heap[a]? = some (.cells #[c,d,e] f)) :
  b.cell? (Zd a 0)=some c/\b.cell? (Zd a 1)=some d/\b.cell? (Zd a 2)=some e/\a<b.heap.size:=by
 grind [World.cell?]
def PK{a:Nat}{c:Zv}{d}{b:Zw}(e:b.heap[a]? = some (.cells #[c] d)):b.cell? (Zd a 0)=some c/\a<b.heap.size:=by
 grind [World.cell?]
def Ni{g:Type}{b d:Zw}{h:Zo}{a:dZ g b h}{Fr:Zo}{c:Nat}{m:gC}{e:g}(p:Nat)(k:m.aL.length<1000)(E:Mc a Fr c m false e d) :
  Calls prog 361 #[.agg #[U p],Zp c] d (nW a Fr c (bg (a.W.ef m.aL.length e) λJ=>.ok ({ m with ag:=p,aL:=m.ag::m.aL },J))):=by
 have a1:=a.mE;have a0:=a.eE;have n:=E.H (.cells #[U p] 271);have o:=n.ah (Below.refl ..).drew;obtain⟨B,G,u,v,w,x,y,z,A⟩:=n.al;have s:=aa (Of o);have t:=aa (o.i1 λS O=>a.cE m.aL.length k O);clear E n o;go_in;go_wp21;refine cy (λr=>r.cell? (Zd c 0)=some (.iface a.T (Zp a.D))) ?_ λF=>?_
 .go_keep
 refine bI [0,1,2,3,4,5,6,8,9] ?_;iterate 9 (refine bK ?_)
 refine bJ ?_;refine cx 7 λi f=>?_;(go_simp;go_at_call 362;refine s.w.mono ?_;rintro C R ⟨rfl,rfl⟩);refine f.out _ _ ?_ (λF=>?_)
 .go_keep
 clear f i;refine nz ?_;refine cw λi f=>?_;(go_simp;refine t.w.mono ?_;rintro C R (⟨a4,K,q,rfl,l⟩|⟨L,q,P,M,N,rfl,k⟩);rotate_left;exact aE (Ya ⟨L,by rw[Bz q];rfl,P,M,N,rfl,k⟩));refine f.out _ _ ?_;clear f i;refine nz ?_;obtain⟨B,G,u,v,w,x,y,z,A⟩:=l.al;have I:=aa (Op m.ag k (l.ah (Below.refl ..).drew));clear l s t;go_wp21;refine cy (λr=>r.cell? (Zd c 1)=some (U m.ag)) ?_ λF=>?_
 .go_keep
 refine bI [0,1,2,3,4,5,6] ?_;iterate 7 (refine bK ?_)
 refine bJ ?_;refine cw λi f=>?_;(go_simp;refine I.w.mono ?_;rintro C a5 ⟨rfl,j⟩);refine f.out _ _ ?_;clear f i;refine nz ?_;obtain⟨B,G,u,v,w,x,y,z,A⟩:=j.al;obtain⟨a2,a3⟩:=PK (j.at (p:=(d.heap.size,.cells #[U p] 271)) Zq);have H:=aa (j.e3 p).b0;clear j;go_wp2;go_end0;exact Y8 ⟨_,K,by rw[BA q];rfl,rfl,H.w⟩
section
variable {c:Nat}{e:Zo}{a:gC}{b f:Zw}{d:Type}
def Nf{g:dZ d f e}{Fr}{r:d}(h:Int)(i:Bool)(p:Nat)(I:0<=h)(J:h<=4294967295){C}(j:eZ g.W (.array h i p) a r=some C)(G:Mc g Fr c a false r b) :
  Calls prog 388 #[.agg #[U h,.bool i,U p],Zp c] b (nW g Fr c C):=by
 obtain⟨B,j⟩:a.cc.length<1000/\C=bg (g.W.a6 h i r) λk=>.ok (if k.1=0 then { a with ag:=p }else { a with cc:=(a.ag,k.1)::a.cc },k.2):=by
  simp only[eZ]at j;split at j
  .grind
  .refine⟨Zm,?_⟩;cases n:g.W.a6 h i r with
   |error F=>rw[n]at j;cases j;rfl
   |ok k=>
    obtain⟨t,a8⟩:=k;rw[n]at j;cases t with
    |zero=>cases j;rfl
    |succ t=>cases j;rfl
 subst j;have b0:=g.mL;have a9:=g.eL;have A:=G.H (.cells #[U h,.bool i,U p] 449);obtain⟨S,a5,K,L,M,N,O,P,R⟩:=A.al;have z:=aa ((A.ah (Below.refl ..).drew).i1 λa7 a3=>g.cL h i I J a3);clear G A;generalize s:(bg (g.W.a6 h i r) λk=>Except.ok (if k.1=0 then { a with ag:=p }else { a with cc:=(a.ag,k.1)::a.cc },k.2))=E
 go_in;go_wp21;refine cy (λo=>o.cell? (Zd c 0)=some (.iface g.T (Zp g.D))/\o.cell? (Zd b.heap.size 0)=some (U h)/\o.cell? (Zd b.heap.size 1)=some (.bool i)/\o.cell? (Zd b.heap.size 2)=some (U p)) ?_ λH=>?_
 .go_keep
 refine bI [0,1,2,3,4,5] ?_;iterate 6 (refine bK ?_)
 refine bJ ?_;refine cx 6 λq m=>?_;(go_simp;refine z.w.mono ?_;rintro F b6 (⟨a6,v,n,rfl,l⟩|⟨a0,n,a4,a1,a2,rfl,B⟩);rotate_left;exact aE (Ya ⟨a0,by rw[<-s,n];rfl,a4,a1,a2,rfl,B⟩);obtain⟨S,a5,K,L,M,N,O,P,R⟩:=l.al;obtain⟨b2,b3,b4,b5⟩:=PL (l.at (p:=(b.heap.size,.cells #[U h,.bool i,U p] 449)) Zq);have b1:=g.dO I J n;have l:=aa l;have u:=aa n;clear n);refine m.out _ _ ?_ (λH=>?_)
 .go_keep
 clear m q;refine nz ?_;refine cw λq m=>?_;go_simp;refine m.out _ _ ?_;clear m q;refine nz ?_;cases a6 with
 |zero=>
  have w:af (E=.ok ({ a with ag:=p },v)):=by show _=_;rw[<-s,u.w];rfl
  have x:=aa (l.w.e3 p).b0;clear s z u l;go_wp2;go_end0;exact Y8 ⟨_,v,w.w,rfl,x.w⟩
 |succ t=>
  have w:af (E=.ok ({ a with cc:=(a.ag,t+1)::a.cc },v)):=by show _=_;rw[<-s,u.w];rfl
  have x:=aa (FQ (a.ag,t+1) B (l.w.ah (Below.refl ..).drew));clear s z u l;go_wp21;refine cy (λo=>o.cell? (Zd c 1)=some (U a.ag)) ?_ λH=>?_
  .go_keep
  refine bI [0,1,2,3,4,5,6,7,8] ?_;iterate 9 (refine bK ?_)
  refine bJ ?_;refine cw λq m=>?_;(go_simp;refine x.w.mono ?_;rintro F b7 ⟨rfl,y⟩);refine m.out _ _ ?_;clear m q;refine nz ?_;have y:=aa y.b0;go_wp2;go_end0;exact Y8 ⟨_,v,w.w,rfl,y.w⟩
def Nj{h:dZ d f e}{Fr}{B:d}{A g}{l:Nat}{o u m}(F:hJ e A g)(b0:(l,jn o)∈e)(q:pZ e u m)(b2:(o.map (·.1)).Nodup){v}(H:eZ h.W (.choice g o m) a B=some v)(E:Mc h Fr c a false B b) :
  Calls prog 374 #[.agg (A++[.map (some l),u]).toArray,Zp c] b (nW h Fr c v):=by
 obtain⟨c1,rfl,b1,w,x,y,rfl⟩:=id F;obtain⟨n,rfl⟩:∃n,u=.pointer n:=by
  cases m with
  |none=>exact⟨_,q⟩
  |some i=>obtain⟨b5,b7,_⟩:=q;simp_all
 have c0:=h.mA;have b9:=zT 394;have b8:=h.eA;have s:=E.H (.cells #[U g.e6,U g.e4,.slice w x y,.bool g.b8,.map (some l),.pointer n] 392);obtain⟨a2,b3,N,O,P,R,S,a0,a1⟩:=s.al;have M:=aa ((s.ah (Below.refl ..).drew).i1 λb4 a8=>h.cA F b0 q b2 a8);have z:=aa H;clear E s b1 H q;go_in;go_wp21;refine cy (λj=>j.cell? (Zd c 0)=some (.iface h.T (Zp h.D))/\j.cell? (Zd b.heap.size 0)=some (U g.e6)/\j.cell? (Zd b.heap.size 1)=some (U g.e4)/\j.cell? (Zd b.heap.size 2)=some (.slice w x y)/\j.cell? (Zd b.heap.size 3)=some (.bool g.b8)/\j.cell? (Zd b.heap.size 4)=some (.map (some l))/\j.cell? (Zd b.heap.size 5)=some (.pointer n)) ?_ λa5=>?_
 .go_keep
 refine bI [0,1,2,3,4,5] ?_;iterate 6 (refine bK ?_)
 refine bJ ?_;refine cx 6 λr k=>?_;(go_simp;refine M.w.mono ?_;rintro b6 d1 (⟨I,C,t,rfl,p⟩|⟨a3,t,a9,a4,a7,rfl,a6⟩);rotate_left;exact aE (Ya ⟨a3,by grind [af.w,eZ],a9,a4,a7,rfl,a6⟩);obtain⟨i,G⟩:∃i,eW g o m I=some i:=(by have:=z.w;simp only[eZ,t]at this;grind);have J:af (v=.ok ({ a with ag:=i.1 },C)):=(by grind [af.w,eZ]);have K:ke g o m I=.agg #[U i.1,U i.2]:=(by simp[ke,G]);obtain⟨a2,b3,N,O,P,R,S,a0,a1⟩:=p.al;obtain⟨c3,c4,c5,c6,c7,c8,c9,d0⟩:=kT (p.at (p:=(b.heap.size,.cells #[U g.e6,U g.e4,.slice w x y,.bool g.b8,.map (some l),.pointer n] 392)) Zq);have L:=aa (p.e3 i.1).b0;clear p t G z;rw[K]);refine k.out _ _ ?_ (λa5=>?_)
 .go_keep
 clear k r;refine nz ?_;refine bI [7,8,9] ?_;iterate 3 (refine bK ?_)
 refine bJ ?_;refine cw λr k=>?_;go_simp;refine k.out _ _ ?_;clear k r;refine nz ?_;go_end0;exact Y8 ⟨_,C,J.w,rfl,L.w⟩
end
section
variable {c:Zo}{a:gC}{e:Zw}{b:Type}
def ns:ck->Prop
 |.text a _=>0<=a/\a<=4294967295
 |.struct a _=>0<=a/\a<=4294967295
 |.array a _ _=>0<=a/\a<=4294967295
 |.choice _ b _=>(b.map (·.1)).Nodup
 |_=>True
structure tX(a:gC):Prop where
 aL:a.aL.length<=1000
 cc:a.cc.length<=1000
 left:∀p∈a.cc,p.2<=4294967295
def tX.e3(b:tX a)(c:Nat):tX { a with ag:=c }:=⟨b.aL,b.cc,b.left⟩
def aci{Z:dZ b e c}{t}{m':gC}{d d':b}(v:ns t)(g:tX a)(f:eZ Z.W t a d=some (.ok (m',d'))):tX m':=by
 cases t with
 |hole=>cases f
 |fin=>cases f
 |call u=>
  simp only[eZ]at f;split at f
  .grind
  .rename_i z;cases k:Z.W.ef a.aL.length d with
   |error m=>simp_all
   |ok j=>rw[k]at f;cases f;exact⟨Zg,g.cc,g.left⟩
 |ret=>
  simp only[eZ]at f;cases l:a.aL with
  |nil=>simp_all
  |cons i D=>
   rw[l]at f;cases f
   have:=g.aL;rw[l]at this;exact⟨Zg,g.cc,g.left⟩
 |jump u=>cases f;exact g.e3 _
 |num h=>
  grind [eZ]
 |text h o=>
  grind [eZ]
 |struct h o=>
  grind [eZ]
 |array h o u=>
  simp only[eZ]at f;split at f
  .grind
  .rename_i z;cases k:Z.W.a6 h o d with
   |error m=>simp_all
   |ok j=>
    obtain⟨i,j⟩:=j;have C:=Z.dO v.1 v.2 k;rw[k]at f;cases i with
    |zero=>cases f;exact g.e3 _
    |succ i=>
     cases f
     refine⟨g.aL,Zg,?_⟩;intro r q;rcases Yg.1 q with rfl|q
     .omega
     .exact g.left r q
 |again=>
  simp only[eZ]at f;cases l:a.cc with
  |nil=>simp_all
  |cons r E=>
   obtain⟨m,B⟩:=r;rw[l]at f;have y:=g.cc;have p:=g.left;rw[l]at y p;simp only[Yu,Except.ok.injEq,Prod.mk.injEq]at f;obtain⟨rfl,rfl⟩:=f;split
   .refine⟨g.aL,Zm,?_⟩;intro s n;rcases Yg.1 n with rfl|n
    .have:=p (m,B) Zq;omega
    grind
   .exact⟨g.aL,Zg,λs n=>p s (Y5 _ n)⟩
 |choice h x w=>
  simp only[eZ]at f;cases k:Z.W.de h (λi=>(eW h x w i).map (·.2)) d with
  |error m=>simp_all
  |ok j=>
   obtain⟨i,j⟩:=j;rw[k]at f;simp only at f;cases A:eW h x w i with
   |none=>simp_all
   |some s=>rw[A]at f;cases f;exact g.e3 _
def ER{d:Except Mar.ay b}:(match d with|.ok c=>Except.ok (a,c)|.error e=>.error e)=bg d λc=>.ok (a,c):=by
 rfl
def OD(i:dZ b e c)(Fr:Zo)(g:Nat)(j:TypeId)(h:Zv)(f:Nat)(a:gC)(k:b)(m:Except Mar.ay (gC×b)):Prop:=
 (∀ l (d : World), (method (l + 1) j h "marshal/machine.run").run Tryz.prog d = .ok (f, h) d) ∧ (∀ (args : Array Value) (d : World), (callFunc f args).run Tryz.prog d = .ok (.enter f args) d) ∧ ∀ d, Mc i Fr g a false k d → Calls Tryz.prog f #[h, .pointer (some ⟨g, 0, none⟩)] d (nW i Fr g m)
def acv(m:dZ b e c)(Fr:Zo)(y:Nat){p v}{n:b}{w}(h:ln c v p)(k:ns p)(s:tX a)(f:eZ m.W p a n=some w):∃u x q,v=.iface u x/\OD m Fr y u x q a n w:=by
 cases p with
 |hole=>cases f
 |fin=>cases f
 |call o=>
  obtain rfl:=h;simp only[eZ]at f;split at f
  .grind
  .rename_i E;obtain rfl:=YQ f;refine⟨_,_,361,rfl,λ_ _=>by kernel_rfl,λ_ _=>by kernel_rfl,λj d=>?_⟩;have:=Ni o Zm d;rw[<-ER]at this;exact this
 |ret=>
  obtain rfl:=h;simp only[eZ]at f;cases l:a.aL with
  |nil=>simp_all
  |cons F G=>
   rw[l]at f;obtain rfl:=YQ f;exact⟨_,_,357,rfl,λ_ _=>by kernel_rfl,λ_ _=>by kernel_rfl,λj d=>Ow l s.aL d⟩
 |jump o=>
  obtain rfl:=h;obtain rfl:=YQ f;exact⟨_,_,375,rfl,λ_ _=>by kernel_rfl,λ_ _=>by kernel_rfl,λj d=>Oe o d⟩
 |num g=>
  obtain⟨z,rfl,r⟩:=h;obtain rfl:=YQ f;refine⟨_,_,356,rfl,λ_ _=>by kernel_rfl,λ_ _=>by kernel_rfl,λj d=>?_⟩;have:=Ok r d;rw[<-ER]at this;exact this
 |text g i=>
  obtain rfl:=h;obtain rfl:=YQ f;refine⟨_,_,368,rfl,λ_ _=>by kernel_rfl,λ_ _=>by kernel_rfl,λj d=>?_⟩;have:=OH g i k.1 k.2 d;rw[<-ER]at this;exact this
 |struct g i=>
  obtain rfl:=h;obtain rfl:=YQ f;refine⟨_,_,373,rfl,λ_ _=>by kernel_rfl,λ_ _=>by kernel_rfl,λj d=>?_⟩;have:=OE g i k.1 k.2 d;have A:(match m.W.a6 g i n with|.ok (_,d')=>Except.ok (a,d')|.error q=>.error q)=bg (m.W.a6 g i n) λt=>.ok (a,t.2):=by cases m.W.a6 g i n<;>rfl
  rw[<-A]at this;exact this
 |array g i o=>
  obtain rfl:=h;exact⟨_,_,388,rfl,λ_ _=>by kernel_rfl,λ_ _=>by kernel_rfl,λj d=>Nf g i o k.1 k.2 f d⟩
 |again=>
  obtain rfl:=h;simp only[eZ]at f;cases l:a.cc with
  |nil=>simp_all
  |cons t K=>
   rw[l]at f;obtain⟨C,D⟩:=t;obtain rfl:=YQ f;exact⟨_,_,390,rfl,λ_ _=>by kernel_rfl,λ_ _=>by kernel_rfl,λj d=>Na l s.cc (s.left (C,D) Zu) d⟩
 |choice g L I=>
  obtain⟨z,H,J,rfl,r,l,B⟩:=h;exact⟨_,_,374,rfl,λ_ _=>by kernel_rfl,λ_ _=>by kernel_rfl,λj d=>Nj r l B k f d⟩
end
section
variable {c : Type} {e b : Zw} {f : List (Nat × Obj)} {Z : dZ c e f} {Fr : List (Nat × Obj)} {g : Nat} {a : gC} {h : Bool} {d : c}
theorem Oh(c:Z.J Fr d b)(a:Nat):Mc Z Fr b.heap.size ⟨a,[],[]⟩ false d (b.alloc (rV Z a (.slice none 0 0) (.slice none 0 0) false)):=
 ⟨[],[],.slice none 0 0,.slice none 0 0,Y8 ⟨rfl,rfl,rfl,rfl⟩,Y8 ⟨rfl,rfl,rfl,rfl⟩,Z.H c _⟩
def Mc.bY(c:Mc Z Fr g a h d b):Z.J Fr d b:=by
 obtain⟨e,Er,f,k,c⟩:=c;refine Z.bE c.j (λm l=>by grind) ?_;have i:List.Sublist Fr (e++(Er++(g,rV Z a.ag f k h)::Fr)):=(List.sublist_cons_self ..).trans ((List.sublist_append_right ..).trans (List.sublist_append_right ..));exact(Z.kH c.j).sublist (i.map _)
def Mc.kp(c:Mc Z Fr g a h d b):an [] e b:=Z.kp c.bY
end
def FY{c:Type}{e f}(Z:dZ c e f)(Fr:Zo)(g:Nat)(i:List ck)(h:Except Mar.ay c)(j:Nat)(b:Zw):Prop:=
 ∃a d,(Mc Z Fr g a false d b/\tX a/\mY Z.W i j a d=some h)\/(h=.ok d/\Mc Z Fr g a true d b)
theorem KX{c:Type}{f g i a}{d:c}{e}(m:mY f g i a d=some e):∃h b,i=h+1/\g[a.ag]? = some b/\((b=.fin/\e=.ok d)\/(b≠.fin/\∃j,eZ f b { a with ag:=a.ag+1 } d=some j/\((∃l,j=.error l/\e=.error l)\/∃n k,j=.ok (n,k)/\mY f g h n k=some e))):=by
 cases i with
 |zero=>cases m
 |succ h=>
  unfold mY at m;grind
def OA{c:Type}{e b f}{Z:dZ c e f}{Fr d h v s}{start u:Nat}(d0:pP f v h)(G:∀q∈f,e.heap[q.1]? = some q.2)(a2:∀n∈h,ns n)(a4:Z.J Fr d b)(o:mY Z.W h u ⟨start,[],[]⟩ d=some s) :
  Calls prog 105 #[v,U start,.iface Z.T (Zp Z.D)] b (sv e Z.J Fr (wK s) λ_=>.tuple #[]):=by
 obtain⟨N,a1,a5,a7,e6⟩:=d0;obtain⟨l,p,rfl,S,a0⟩:∃l p,v=.slice (some ⟨l,0,none⟩) h.length p/\h.length<=p/\∀(m:Zw),an [] e m->∀H n,h[H]? = some n->∃r,ln f r n/\m.cell? (Zd l H)=some r/\l<m.heap.size:=by
  rcases a5 with⟨rfl,e2,_⟩|⟨l,p,c3,rfl,S,a6,e9⟩
  .grind [KX]
  .refine⟨l,p,rfl,S,λm B H n g=>?_⟩;have a3:m.heap[l]? = some (.cells c3 273):=(B.L _ (au (G _ a6)) Zq).trans (G _ a6);rw[a1,List.getElem?_map]at g;obtain⟨q,d6,rfl⟩:=Option.map_eq_some_iff.1 g;have e5:h.length=N.length:=Zu;refine⟨q.2,a7 q (Yh d6),dt (xs:=N.map (·.2)) a3 Zu Zu,au a3⟩
 have t:af (FY Z Fr b.heap.size h s u (b.alloc (rV Z start (.slice none 0 0) (.slice none 0 0) false))):=⟨_,d,Y8 ⟨Oh a4 start,⟨Zq,Zq,Zq⟩,o⟩⟩;have b0:=aa a0;have b1:=aa a2;clear a0 a4 o a2 a7 a1 a5 G;go_in;go_wp2;go_loopg [] u (λI m=>af (FY Z Fr b.heap.size h s I m));case atStart=>omega
 case round=>
  obtain⟨a,y,⟨i,C,o⟩|⟨rfl,i⟩⟩:=hrel.w
  .obtain⟨c2,d8,b5,b6,b7,b8,b9,c0,c1⟩:=i.al;obtain⟨a9,n,rfl,g,d2⟩:=KX o;obtain⟨r,F,e8,e4⟩:=b0.w _ i.kp _ _ g;have e7:a.ag<h.length:=by
    rcases Yj a.ag h.length with z|z
    .exact z
    .rw[YA z]at g;cases g
   have A:=b1.w n (Yh g);rcases d2 with⟨rfl,rfl⟩|⟨d3,f0,E,a8⟩
   .obtain rfl:=F
    have d5 : ∀ I (b : World), (method (I + 1) 397 (.agg #[]) "marshal/machine.run").run Tryz.prog b = .ok (376, .agg #[]) b := fun _ _ => by kernel_rfl
    have w:=aa (NF (i.e3 (a.ag+1)));clear i hrel t o g;go_wp21;refine w.w.mono ?_;rintro c5 d9 ⟨rfl,k⟩;have k:=aa k;go_wp2;go_roundg a9;case measure=>omega
    case rel=>exact⟨_,y,Ya ⟨rfl,k.w⟩⟩
   .obtain⟨e0,r,e1,rfl,d5,e3,R⟩:=acv Z Fr b.heap.size F A (C.e3 (a.ag+1)) E;have w:=aa (R _ (i.e3 (a.ag+1)));have b3:=aa E;have b2:=aa (λK x=>aci (Z:=Z) (m':=K) (d':=x) (d:=y) A (C.e3 (a.ag+1)));have M:=aa a8;clear i hrel t o g R a8 E d3 F A C;go_wp21;refine w.w.mono ?_;rintro c5 d9 (⟨K,x,g,rfl,k⟩|⟨c6,g,B,c8,d4,rfl,d1⟩);rotate_left
    .refine aE (Ya ⟨c6,?_,B,c8,d4,rfl,d1⟩);rcases M.w with⟨c7,j,rfl⟩|⟨d7,c4,j,_⟩
     .rw[g]at j;cases j;rfl
     .rw[g]at j;cases j
    have k:=aa k;have L:=aa g;clear g;go_wp2;go_roundg a9;case measure=>omega
    case rel=>
     rcases M.w with⟨c7,j,rfl⟩|⟨d7,c4,j,c9⟩
     .rw[L.w]at j;grind
     .have O:=L.w;rw[O]at j;cases j
      have P:=b3.w;rw[O]at P;exact⟨_,_,Y8 ⟨k.w,b2.w _ _ P,c9⟩⟩
  .obtain⟨c2,d8,b5,b6,b7,b8,b9,c0,c1⟩:=i.al;have b4:=aa i.bY;clear i hrel t;go_wp2;go_end0;exact Y8 ⟨(),y,rfl,rfl,b4.w⟩
section
variable {T:TypeId}{b:Nat}{c e f:Zv}{a:Zw}
def kC(a b:Int):Bool:=decide (0<=a)&&decide (a<=b)
def BD(b c:Int)(a:Zw):Calls prog 114 #[U b,U c] a λf g=>f=.returned (.bool (kC b c))/\g=a:=by
 by_cases e:0<=b
 .have d:af (kC b c=decide (b<=c)):=by show _=_;simp[kC,e]
  go_in;go_wp2;go_ret;exact⟨by rw[d.w];rfl,rfl⟩
 .have d:af (kC b c=false):=by show _=_;simp[kC,e]
  have h:b<0:=Zm;go_in;go_wp2;go_ret;exact⟨by rw[d.w];rfl,rfl⟩
def jk(e:List (Zb×Nat))(c:Zb)(a b f:Int):Except Nat Nat:=match ci e c with
 |none=>.error 10
 |some d=>if kC a 64&&kC b 10000&&kC f 100000 then .ok d else .error 11
def Ez:Except Nat Nat->Zv
 |.ok b=>.tuple #[.int .i64 b,.nilIface]
 |.error a=>.tuple #[.int .i64 0,.iface 122 (.int .i64 a)]
def acg{b:Zw}{e:Nat}{c}(f:b.heap[e]? = some (kz c))(g:(c.map (·.1)).Nodup)(a:Zb) :
  (Instr.lookup 103 (.map (some e)) (Zs a) true).run prog b=.ok (match ci c a with
   |some h=>.tuple #[.int .i64 h,.bool true]
   |none=>.tuple #[.int .i64 0,.bool false]) b:=by
 have i:=xY (P:=prog) (T:=103) (kt:=9) (et:=3) (d:=.string) Zk Zk (λa:Zb=>Zs a) (λa:Nat=>U a) (λ_=>trivial) uZ f g (z:=U 0) Zk a true;grind
def zH{g:Zv}(d:a.heap[b]? = some (.cells #[c,e,f,g] T)) :
  a.cell? (Zd b 0)=some c/\a.cell? (Zd b 1)=some e/\a.cell? (Zd b 2)=some f/\(∀h,a.frozen? ⟨b,h,none⟩=false)/\b<a.heap.size:=by
 refine⟨?_,?_,?_,?_,au d⟩<;>simp[World.cell?,World.frozen?,d]
def Gy(d:a.heap[b]? = some (.cells #[c,e,f] T)) :
  a.cell? (Zd b 0)=some c/\a.cell? (Zd b 1)=some e/\a.cell? (Zd b 2)=some f/\(∀g,a.frozen? ⟨b,g,none⟩=false)/\b<a.heap.size:=by
 refine⟨?_,?_,?_,?_,au d⟩<;>simp[World.cell?,World.frozen?,d]
def oA(a b c:Int):Bool:=kC a 64&&kC b 10000&&kC c 100000
def IE(d e f:Int)(a:Zw):Calls prog 104 #[.agg #[U d,U e,U f]] a λh m=>h=.returned (.bool (oA d e f))/\Below a.heap.size a m:=by
 have j:∀l,Below a.heap.size a (a.alloc l):=λl=>(Below.refl ..).alloc (Y4 _) _;cases b:kC d 64 with
 |false=>
  have c:af (oA d e f=false):=by show _=_;simp[oA,b]
  go_in;go_wp2_with (go_at_call 114;refine(BD _ _ _).mono ?_;rintro h k ⟨rfl,rfl⟩;simp only[b]);go_ret;exact⟨by rw[c.w];rfl,j _⟩
 |true=>
  cases g:kC e 10000 with
  |false=>
   have c:af (oA d e f=false):=by show _=_;simp[oA,b,g]
   go_in;go_wp2_with (go_at_call 114;refine(BD _ _ _).mono ?_;rintro h k ⟨rfl,rfl⟩;try simp only[b,g]);go_ret;exact⟨by rw[c.w];rfl,j _⟩
  |true=>
   cases i:kC f 100000 with
   |false=>
    have c:af (oA d e f=false):=by show _=_;simp[oA,b,g,i]
    go_in;go_wp2_with (go_at_call 114;refine(BD _ _ _).mono ?_;rintro h k ⟨rfl,rfl⟩;try simp only[b,g,i]);go_ret;exact⟨by rw[c.w];rfl,j _⟩
   |true=>
    have c:af (oA d e f=true):=by show _=_;simp[oA,b,g,i]
    go_in;go_wp2_with (go_at_call 114;refine(BD _ _ _).mono ?_;rintro h k ⟨rfl,rfl⟩;try simp only[b,g,i]);go_ret;exact⟨by rw[c.w];rfl,j _⟩
def Ly{t S x:Nat}{y v:Zv}{d}(q:a.heap[t]? = some (.cells #[y,v,.map (some S),.map (some x)] 109))(n:a.heap[S]? = some (kz d))(z:(d.map (·.1)).Nodup)(b:Zb)(g h i:Int) :
  Calls prog 59 #[Zp t,Zs b,.agg #[U g,U h,U i]] a λp B=>p=.returned (Ez (jk d b g h i))/\Below a.heap.size a B:=by
 obtain⟨c,e,f,D,E⟩:=zH q;have o:∀j,Below a.heap.size a (a.alloc j):=λj=>(Below.refl ..).alloc (Y4 _) _;have w:∀j,(Instr.lookup 103 (.map (some S)) (Zs b) true).run prog (a.alloc j)=.ok (match ci d b with
   |some A=>.tuple #[.int .i64 A,.bool true]
   |none=>.tuple #[.int .i64 0,.bool false]) (a.alloc j):=λj=>acg (((o j).block _ (au n)).trans n) z b
 cases l:ci d b with
 |none=>
  have k:af (jk d b g h i=.error 10):=by show _=_;simp[jk,l]
  simp only[l]at w;clear q n l;go_in;go_wp2;exact bodyPost_ret (v:=.tuple #[U 0,.iface 122 (U 10)]) (by simp[results,results59,go_sem]) rfl ⟨by rw[k.w];rfl,o _⟩
 |some s=>
  have k:af (jk d b g h i=if oA g h i then .ok s else .error 11):=by show _=_;simp[jk,oA,l]
  simp only[l]at w;clear q n l;cases u:oA g h i with
  |false=>
   have k:af (jk d b g h i=.error 11):=Zu;go_in;go_wp21;refine(IE _ _ _ _).mono ?_;rintro p C ⟨rfl,m⟩;rw[u];have r:=aa ((o _).trans (m.mono Zq));clear m;go_wp2;exact bodyPost_ret (v:=.tuple #[U 0,.iface 122 (U 11)]) (by simp[results,results59,go_sem]) rfl ⟨by rw[k.w];rfl,r.w⟩
  |true=>
   have k:af (jk d b g h i=.ok s):=Zu;go_in;go_wp21;refine(IE _ _ _ _).mono ?_;rintro p C ⟨rfl,m⟩;rw[u];have r:=aa ((o _).trans (m.mono Zq));clear m;go_wp2;exact bodyPost_ret (v:=.tuple #[U s,.nilIface]) (by simp[results,results59,go_sem]) rfl ⟨by rw[k.w];rfl,r.w⟩
end
def WK(b:Zv)(a:Zw):(binOp BinOp.neq 55 (.iface 122 b) .nilIface).run prog a=.ok (.bool true) a:=Zk
def WL(a:Zw):(binOp BinOp.neq 55 .nilIface .nilIface).run prog a=.ok (.bool false) a:=Zk
def Kr{g:Zw}{c f e b v h}(d:g.ownsRow c f e v b h):∃ad a,v=.slice ad b a:=by
 rcases d.2 with⟨rfl,k⟩|⟨j,a,i,rfl,_⟩;all_goals simp_all
def UA{g d h}{j k:Array Zv}(s:results d j=results d k):∀(a:List Deferred) (c:FrameMode) (e:Zw),Leaves g d j h a c e->Leaves g d k h a c e:=by
 intro a;induction a with
 |nil=>
  intro c e b;cases c with
  |run=>exact b
  |returning=>obtain⟨v,i,f⟩:=b;exact⟨v,Zu,f⟩
  |panicking q=>exact b
 |cons r a t=>
  intro c e b;obtain⟨p,n,l,m,args,i,f,o⟩:=b;refine⟨p,n,l,m,args,i,f,o.mono ?_⟩;grind
def ace{f e}{c d g:Int}{i}(a:jk f e c d g=.ok i):ci f e=some i/\0<=c/\c<=64/\0<=d/\d<=10000/\0<=g/\g<=100000:=by
 unfold jk at a;cases h:ci f e with
 |none=>rw[h]at a;cases a
 |some j=>
  rw[h]at a;simp only at a;split at a
  .rename_i b;cases a
   simp only[kC,Bool.and_eq_true,decide_eq_true_eq]at b;exact⟨rfl,b.1.1.1,b.1.1.2,b.1.2.1,b.1.2.2,b.2.1,b.2.2⟩
  .cases a
section
def qn(a:UInt8):Zv:=.int .u8 a.toNat
def Df:(prog.info? 5).map (λa=>(a.zero,a.size,a.bytes))=some (some (.int .u8 0),1,1):=Zk
section
variable {P : Program} (a : Zw)
def abd(n:Nat)(h i l d:TypeId)(e:TypeInfo)(p:P.underlying h=some (.slice d))(q:P.underlying i=some .string)(o:P.info? d=some e)(w:e.zero=some (.int .u8 0))
  (z:e.size=1) (y:e.bytes=1) (v:Zv) (c:Nat) (m:Zl) (t:a.ownsRow n d 1 v c m) (b:Za) (I:v=.slice none 0 0->0<b.size)
  (C:c+b.size<=maxLen) (F:c+b.size<=140737488355328) (E:n<=a.heap.size) :
  ∃g f j,(Builtin.append_ #[h,i] l #[v,.string b]).run P a=.ok (.slice (some ⟨g,0,none⟩) (c+b.size) f) j/\j.ownsRow n d 1 (.slice (some ⟨g,0,none⟩) (c+b.size) f) (c+b.size) (m++Lib.strCells b)/\a.grownBy j v.ownBlock/\(v.ownBlock=some g\/g=a.heap.size)/\g<j.heap.size:=by
 obtain⟨J,j,k,x,B,_⟩:=Lib.run_append_own_string (P:=P) a n h i l d e p q o w z y v c m t b C F E;have key:∃g f,J=.slice (some ⟨g,0,none⟩) (c+b.size) f/\(v.ownBlock=some g\/g=a.heap.size):=by
  have M:c+b.size<=9223372036854775807:=Zm;rcases t.2 with⟨rfl,rfl⟩|⟨s,r,A,rfl,_,G,L,_,K,_⟩
  .have u:=run_append_nil_string (P:=P) a h i l d e (.int .u8 0) p q o w b (I rfl) Zm Zg;grind
  .by_cases H:c+b.size<=r
   .have u:=Lib.run_append_room_string (P:=P) a h i l d e p q o z s c r A G b H Zm;rw[u]at k;injection k with k _;exact⟨_,_,k.symm,Y8 rfl⟩
   .have N:m.length=c:=Zg;have u:=Lib.run_append_grow_string (P:=P) a h i l d e (.int .u8 0) p q o w ⟨s,0,none⟩ c r m Zu (t.cells (g:=s) rfl) b Zm Zm (by rw[y];exact growslice_fits Zm Zm);grind
 obtain⟨g,f,rfl,D⟩:=key;exact⟨g,f,j,k,x,B,D,(hR x (g:=g) rfl).2⟩
def aeO{o rest}{h:Oper}{i:Act}{Q}(D:h.guard=none)(p q:Operand)(l m:TypeId)
  (F:h.op=.call { callee:=.builtin .append,args:=#[p,q],argTypes:=#[l,m] })
  (j:Nat) (f:TypeId) (g:TypeInfo) (K:P.underlying l=some (.slice f)) (L:P.underlying m=some .string) (E:P.info? f=some g) (N:g.zero=some (.int .u8 0))
  (J:g.size=1) (B:g.bytes=1) (v:Zv) (d:Nat) (n:Zl) (I:i.eval p=v) (G:a.ownsRow j f 1 v d n) (b:Za) (M:i.eval q=.string b) (s:v=.slice none 0 0->0<b.size)
  (y:d+b.size<=maxLen) (C:d+b.size<=140737488355328) (A:j<=a.heap.size)
  (r:∀c k e,e.ownsRow j f 1 (.slice (some ⟨c,0,none⟩) (d+b.size) k) (d+b.size) (n++Lib.strCells b)->a.grownBy e v.ownBlock->(v.ownBlock=some c\/c=a.heap.size)->c<e.heap.size->wpList P o Q rest (i.put h.dst (.slice (some ⟨c,0,none⟩) (d+b.size) k)) e):wpList P o Q (h::rest) i a:=by
 refine wpList_plain D λO z=>?_;obtain⟨c,k,e,H,t,u,w,x⟩:=abd (P:=P) a j l m h.type f g K L E N J B v d n G b s y C A;unfold Oper.wp execOp;simp only[F,resolve,invoke,builtin,Sem.run_bind,Sem.run_pure,Result.andThen_ok,List.map_toArray,List.map_cons,List.map_nil,I,M,H];exact z _ _ (r c k e t u w x)
end
def acR(a:Zb):Lib.strCells ⟨a.toArray⟩=a.map qn:=Zr
def Oa(g:Nat)(f:Zw)(v:Zv)(e:Nat)(j:Zl)(d:Nat)(i:Zl)(a h:Nat)(c:Zw):Prop:=∃b,Below f.heap.size f b/\c.ownsRow g 5 1 (.slice (some ⟨a,0,none⟩) (e+d) h) (e+d) (j++i)/\b.grownBy c v.ownBlock/\(v.ownBlock=some a\/a=b.heap.size)/\a<c.heap.size
def aeI(a:Nat)(c:a<4294967296):(dS a).map qn=[.int .u8 ((a:Int) / 16777216),.int .u8 ((a:Int) / 65536 % 256),.int .u8 ((a:Int) / 256 % 256),.int .u8 ((a:Int) % 256)]:=by
 have b:((a:Int) % 4294967296).toNat=a:=Zm;simp only[dS,b,List.map_cons,List.map_nil,qn,UInt8.toNat_ofNat'];grind
def OZ{d b}{c:Zw}{v g}(a:Nat)(r:a<4294967296)(h:c.ownsRow d 5 1 v b g)(C:d<=c.heap.size)(D:b<=1000000) :
  Calls prog 227 #[v,.int .u32 a] c λl A=>∃f e,l=.returned (.slice (some ⟨f,0,none⟩) (b+4) e)/\Oa d c v b g 4 ((dS a).map qn) f e A:=by
 obtain⟨ad,e,rfl⟩:=Kr h;obtain⟨z,n,u,w,x⟩:=info_parts Df;have y:(Value.int .u8 0).cells.size=1:=rfl;have o:b+4<=maxLen:=Zn;have p:(b+4)*1<=140737488355328:=Zm;have s:af (∀i,(c.alloc i).ownsRow d 5 1 (.slice ad b e) b g):=λi=>bw h ((ao [] c).H i) Zq;have j:=aa (aeI a r);clear h;go_in;go_wp2_with (at_builtin;refine wpList_append_lies _ Zr _ _ _ Zr d 5 z _ 1 1 underlying97 n u w x y Zm (.slice ad b e) b g Zr (s.w _) ⟨c.heap.size,0,none⟩ 4 4 [.int .u8 ((a:Int) / 16777216),.int .u8 ((a:Int) / 65536 % 256),.int .u8 ((a:Int) / 256 % 256),.int .u8 ((a:Int) % 256)] Zr Zr (World.news_of_block (cs:=#[.int .u8 ((a:Int) / 16777216),.int .u8 ((a:Int) / 65536 % 256),.int .u8 ((a:Int) / 256 % 256),.int .u8 ((a:Int) % 256)]) (t:=5) (fr:=(0,0)) (heap_alloc_new c _)) Zy Zm o p Zx (c.heap.size+1) Zq ?_;intro f k F E m B q);go_ret;exact⟨f,k,rfl,_,(Below.refl ..).alloc (Y4 _) _,by rw[j.w];omega,m,Zu,q⟩
end
section
def FK(c:Zw)(a b:Nat)(d:fV):Prop:=c.cell? (Zd a b)=some (U d.F)/\c.cell? ⟨a,b+1,none⟩=some (U d.n)/\c.cell? ⟨a,b+2,none⟩=some (Zs d.s)/\c.cell? ⟨a,b+3,none⟩=some (U d.y)/\c.cell? ⟨a,b+4,none⟩=some (U d.av)
def pX(c:Zw)(e:Zv)(v:List fV):Prop:=∃ad a,e=.slice ad v.length a/\v.length<=a/\a<=maxLen/\∀d g,v[d]? = some g->∃b f,ad=some ⟨b,f,none⟩/\FK c b (f+d*5) g
abbrev rZ(a:fV):Zl:=[U a.F,U a.n,Zs a.s,U a.y,U a.av]
structure dd(c:Zw)(b:Nat)(Fr:Zo)(e:Zv)(v:List fV)(dep fuel size:Nat)(a:ch)(d:Zv)(u:Zw):Prop where
 ae:ee c ([b]++(d.ownBlock.toList++[])) Fr [] u
 ap:u.heap[b]? = some (.cells #[e,U a.ag,U dep,U fuel,U size,d] 199)
 row:u.ownsRow c.heap.size 5 1 d a.w.length (a.w.map qn)
 i9:pX c e v
 bc:a.ag<=10000
 w:a.w.length<=100000
 hF:size<=100000/\fuel<=10000
def mo{i:Type}(c:Zw)(b:Nat)(Fr:Zo)(e:Zv)(v:List fV)(dep fuel size:Nat)(h:Except Mar.ay (i×ch))(j:i->Zv)(g:Ending)(u':Zw):Prop:=
 (∃d f k,h=.ok (d,f)/\g=.returned (j d)/\dd c b Fr e v dep fuel size f k u')\/(∃a,h=.error a/\an [] c u'/\fm c a.no a.y g u')
def FB{h:Type}{c u u' b Fr e v dep fuel size}{g:Except Mar.ay (h×ch)}{i f}{a:Nat}(m:g=.error f)(d:an [] c u)(j:an [] u u')(l:u.heap.size<=a)(k:u'.heap[a]? = some (.cells #[U f.no,U f.y] 179)) :
  mo c b Fr e v dep fuel size g i (.panicked [{ v:=.iface 143 (Zp a),recovered:=false }]) u':=
 Ya ⟨f,m,d.u j,a,Yz d.aD l,rfl,k⟩
section
variable {c u u' : Zw} {b : Nat} {Fr : List (Nat × Obj)} {e : Zv} {v : List fV} {dep fuel size : Nat} {a : ch} {d : Zv}
def dd.e1{i h}(f:dd c b Fr e v dep fuel size a d u)(k:an i u u')(j:∀m∈i,m ∉ [b]++(d.ownBlock.toList++[]))(l:ee c ([b]++(d.ownBlock.toList++[])) h [] u'):dd c b h e v dep fuel size a d u':=
 ⟨l,(k.L _ (au f.ap) (λg=>j _ g Zq)).trans f.ap,bw f.row k (λn o g=>j _ g Zg),f.i9,f.bc,f.w,f.hF⟩
def dd.ah(f:dd c b Fr e v dep fuel size a d u)(g:Below u.heap.size u u'):dd c b Fr e v dep fuel size a d u':=f.e1 (bT [] g) Zq (f.ae.ah g)
def dd.H(g:dd c b Fr e v dep fuel size a d u)(f:Obj):dd c b ((u.heap.size,f)::Fr) e v dep fuel size a d (u.alloc f):=g.e1 ((ao [] u).H f) Zq (g.ae.H f)
def dd.b0{g:Nat×Obj}(f:dd c b (g::Fr) e v dep fuel size a d u):dd c b Fr e v dep fuel size a d u:=f.e1 (ao [] u) Zq f.ae.b0
theorem dd.dN{f:Nat}{o i:Obj}(g:dd c b ((f,o)::Fr) e v dep fuel size a d u)(h:an [f] u u')(j:u'.heap[f]? = some i):dd c b ((f,i)::Fr) e v dep fuel size a d u':=
 g.e1 h (by simpa using (g.ae.hf (f,o) Zq).2) (g.ae.dN h j)
def dd.bE{Fr':Zo}(f:dd c b Fr e v dep fuel size a d u)(h:∀i∈Fr',i∈Fr)(g:(Fr'.map (·.1)).Nodup):dd c b Fr' e v dep fuel size a d u:=f.e1 (ao [] u) Zq (f.ae.bE h g)
def dd.cS(g:dd c b Fr e v dep fuel size a d u):∃ad f,d=.slice ad a.w.length f:=Kr g.row
def dd.oi(f:dd c b Fr e v dep fuel size a d u)(j:a.ag+1<=10000):dd c b Fr e v dep fuel size { a with ag:=a.ag+1 } d (u.setCell ⟨b,1,none⟩ (U ((a.ag:Int)+1))):=by
 have g:an [b] u (u.setCell ⟨b,1,none⟩ (U ((a.ag:Int)+1))):=(ao [b] u).aH Zq _;have h:=f.ae.nd;simp at h;refine⟨f.ae.bm g Zq,bv (i:=1) f.ap _,bw f.row g (λk l m=>?_),f.i9,j,f.w,f.hF⟩;simp_all
def dd.a9{n h:Zw}{g k f:Nat}{l:Zb}(j:dd c b Fr e v dep fuel size a d u)(r:Below u.heap.size u n)(F:a.w.length+f<=100000)(E:l.length=f)
  (C:h.ownsRow c.heap.size 5 1 (.slice (some ⟨g,0,none⟩) (a.w.length+f) k) (a.w.length+f) (a.w.map qn++l.map qn))
  (o:n.grownBy h d.ownBlock) (q:d.ownBlock=some g\/g=n.heap.size) (x:g<h.heap.size) :
  dd c b Fr e v dep fuel size { a with w:=a.w++l } (.slice (some ⟨g,0,none⟩) (a.w.length+f) k) (h.setCell ⟨b,5,none⟩ (.slice (some ⟨g,0,none⟩) (a.w.length+f) k)):=by
 obtain⟨D,_⟩:=hR C (g:=g) rfl;have m:=j.ah r;have t:=gt o;have p:=zk (A:=[b]) (B:=[]) m.ae o q x D;have w:an [b] h (h.setCell ⟨b,5,none⟩ (.slice (some ⟨g,0,none⟩) (a.w.length+f) k)):=(ao [b] h).aH Zq _;have y:=j.ae.nd;have z:=p.nd;simp at y z;have s:b ∉ d.ownBlock.toList:=by
  simp_all
 refine⟨p.bm w Zq,bv (i:=5) ((t.L _ (au m.ap) s).trans m.ap) _,?_,j.i9,j.bc,Zu,j.hF⟩;grind [bw,Value.ownBlock]
def dd.f1{j f}(g:dd c b Fr e v dep fuel size a d u)(h:Below u.heap.size u j)(k:j.grownBy f d.ownBlock):f.cell? (Zd b 5)=some d/\(∀m,f.frozen? ⟨b,m,none⟩=false)/\b<f.heap.size:=by
 have l:=au g.ap;have i:=g.ae.nd;have q:=h.size;simp at i;obtain⟨_,_,_,_,_,n,o,p⟩:=kT ((k.block _ Zm (λa=>i.1 Zg)).trans ((h.block _ l).trans g.ap));simp_all
end
def Hr{c u b Fr e v dep fuel size}{a:ch}{d}(g:Nat)(B:g<=4294967298)(w:1<=a.ag)(h:dd c b Fr e v dep fuel size a d u) :
  Calls prog 411 #[Zp b,U g] u (mo c b Fr e v dep fuel size (bg (kA size g a) λi=>.ok ((),i)) λ_=>.tuple #[]):=by
 obtain⟨n,o,p,q,r,s,A,D⟩:=kT h.ap;obtain⟨ad,t,rfl⟩:=h.cS;have C:=h.w;have y:=h.bc;obtain⟨E,z⟩:=h.hF;have k:=aa h;clear h;by_cases l:size<a.w.length+g
 .have j:af ((bg (kA size g a) λi=>Except.ok ((),i))=.error ⟨14,a.ag-1⟩):=by show _=_;simp[kA,l,bg]
  have m:(size:Int)-a.w.length<(g:Int):=Zm;have x:((a.ag:Int)-1)=((a.ag-1:Nat):Int):=Zm;go_in;go_wp2;go_region;go_wp2_with (go_at_call 70;refine(gZ _ _ _).mono ?_;rintro a F ⟨rfl,rfl⟩);exact aE (FB (u:=u) (f:=⟨14,a.ag-1⟩) j.w k.w.ae.kp (((ao [] u).aU).H _) (Y4 _) (aQ rfl))
 .have j:af ((bg (kA size g a) λi=>Except.ok ((),i))=.ok ((),a)):=by show _=_;simp[kA,l,bg]
  have m:(g:Int)<=(size:Int)-a.w.length:=Zm;go_in;go_wp2;go_region;go_wp2;go_end0;exact Y8 ⟨(),a,_,j.w,rfl,k.w.ah (Below.refl ..).drew⟩
def aeG(a:Int):dS ((a % 4294967296).toNat:Int)=dS a:=by
 grind [dS,Int.emod_emod_of_dvd]
end
def KR{e d}{a b:ch}{f:Unit}(c:(bg (kA e d a) λb=>Except.ok ((),b))=.ok (f,b)):b=a/\kA e d a=.ok a/\a.w.length+d<=e:=by
 unfold kA at c ⊢;split at c
 .cases c
 .rename_i g;cases c<;>simp_all
def KQ{e d b c}(a:(bg (kA e d b) λf=>Except.ok ((),f))=.error c):kA e d b=.error c:=by
 unfold kA at a ⊢;split at a
 .rename_i g;cases a<;>simp_all
 .cases a
def vW{y x f Fr w v l m e}{g:ch}{L}(b:Int)(E:1<=g.ag)(o:dd y f Fr w v l m e g L x) :
  Calls prog 405 #[Zp f,U b] x (mo y f Fr w v l m e (bg (hY e b g) λh=>.ok ((),h)) λ_=>.tuple #[]):=by
 have k:=aa (Hr 4 Zm E o);clear o;go_in;go_wp21;refine k.w.mono ?_;rintro C a5 (⟨_,i,a3,d,rfl,a⟩|⟨D,d,I,n,H,rfl,F⟩);rotate_left
 .exact aE (Ya ⟨D,by unfold hY;rw[KQ d];rfl,I,n,H,rfl,F⟩)
 obtain⟨rfl,u,a1⟩:=KR d;obtain⟨M,N,O,P,R,B,G,J⟩:=kT a.ap;have s:0<=b % 4294967296:=Int.emod_nonneg _ Zm;have K:b % 4294967296<4294967296:=Int.emod_lt_of_pos _ Zm;have a0:=a.w;have a2:=a.hF.1;have c:=OZ (b % 4294967296).toNat Zm a.row a.ae.kp.aD Zm;rw[aeG,Int.toNat_of_nonneg s]at c;have c:=aa c;have z:af ((bg (hY e b i) λh=>Except.ok ((),h))=.ok ((),{ i with w:=i.w++dS b })):=by
  show _=_;unfold hY;rw[u];rfl
 have a:=aa a;clear d k u s K;go_wp21;refine c.w.mono ?_;rintro C a6 ⟨n,S,rfl,a4,q,t,j,p,r⟩;obtain⟨a7,a8,a9⟩:=a.w.f1 q j;have A:=aa (a.w.a9 q Zm (Fj b) t j p r);clear t j p r c B G J;go_wp2;go_end0;exact Y8 ⟨(),_,_,z.w,rfl,A.w⟩
section
variable {a e f b:Nat}{g h:Zv}{d c:Zw}
def dd.again{Fr v k}(j:dd c a Fr g v e f b k h d):dd c a Fr g v e f b k h (d.setCell ⟨a,5,none⟩ h):=by
 have l:an [a] d (d.setCell ⟨a,5,none⟩ h):=(ao [a] d).aH Zq _;have m:=j.ae.nd;simp at m;refine⟨j.ae.bm l Zq,bv (i:=5) j.ap _,bw j.row l (λn o p=>?_),j.i9,j.bc,j.w,j.hF⟩;simp_all
def kx(a:ch)(c:Zb)(b:Nat):ch:={ a with w:=a.w++c++List.replicate b 0 }
def XG(a:ch)(b:Zb):kx a b 0 = { a with w:=a.w++b }:=by simp[kx]
def XF(a:ch)(c:Zb)(b:Nat):({ kx a c b with w:=(kx a c b).w++[0] }:ch)=kx a c (b+1):=by
 simp[kx,List.replicate_succ']
def Hp{Fr v}{G:ch}(i:Zb)(e7:i.length<=4294967295)(b7:1<=G.ag)(u:dd c a Fr g v e f b G h d) :
  Calls prog 410 #[Zp a,Zs i] d (mo c a Fr g v e f b (bg (oB b i G) λI=>.ok ((),I)) λ_=>.tuple #[]):=by
 have a7:((gm i.length:Nat):Int)=((i.length:Int)+3) / 4*4:=Zr;have c3:i.length<=gm i.length:=Zm;have c4:gm i.length<i.length+4:=Zm;have q:=Hr (gm i.length) Zm b7 u;rw[a7]at q;have q:=aa q;obtain⟨d3,c1,d0,d1,d2⟩:=info_parts Df;clear u;go_in;go_wp21;refine q.w.mono ?_;rintro d9 d5 (⟨_,j,O,y,rfl,m⟩|⟨b5,y,S,J,c0,rfl,b9⟩);rotate_left
 .exact aE (Ya ⟨b5,by unfold oB;rw[KQ y];rfl,S,J,c0,rfl,b9⟩)
 obtain⟨rfl,c5,e4⟩:=KR y;obtain⟨B,C,D,E,F,t,K,L⟩:=kT m.ap;have e3:=m.w;have e8:=m.hF.1;have b8:=m.ae.kp.aD;have c6:=aa m.row;have s:af ((bg (oB b i j) λI=>Except.ok ((),I))=.ok ((),kx j i (gm i.length-i.length))):=by
  grind [oB,bg,kx,kY]
 have m:=aa m;have b2:∀(d6:Zw) (z:Zv),dd c a Fr g v e f b (kx j i 0) z d6->True:=λ_ _ _=>trivial;clear y q c5 b2;by_cases a3:O=.slice none 0 0/\i=[]
 .obtain⟨rfl,rfl⟩:=a3;have p:=aa m.w.again;have R:kx j [] (gm ([]:Zb).length-([]:Zb).length)=j:=by simp[kx,gm]
  rw[R]at s;clear R a7 c3 c4;go_wp2;go_loopw [26] (λr P=>r=U 0/\af (P=d5.setCell ⟨a,5,none⟩ (.slice none 0 0))) (λ_ _=>0)
  case atStart=>simp_all
  case round=>
   obtain⟨rfl,c9⟩:=hrel;go_wp2;go_end0;exact Y8 ⟨(),_,_,s.w,rfl,by rw[c9.w];exact p.w⟩
 .have c7:O=.slice none 0 0->0<(⟨i.toArray⟩:Za).size:=by
   intro b6;have:i≠[]:=λu=>a3 ⟨b6,u⟩;exact YM.2 this
  have c8:(⟨i.toArray⟩:Za).size=i.length:=rfl;go_wp2_with (at_builtin;go_must (refine aeO _ Zr _ _ _ _ Zr c.heap.size 5 d3 underlying97 underlying9 c1 d0 d1 d2 O j.w.length (j.w.map qn) Zr c6.w ⟨i.toArray⟩ Zr c7 Zn Zm b8 ?_;intro J d7 e9 M o w a1;obtain⟨a8,a9,b0⟩:=m.w.f1 (Below.refl ..) o;rw[acR,c8]at M;have p:=m.w.a9 (Below.refl ..) Zm rfl M o w a1;rw[<-XG]at p;have p:=aa p;clear M o w a1 B C D E F t K L));have e6:af ((gm i.length-i.length:Nat)=gm i.length-i.length):=rfl;go_loopw [26] (λr P=>∃(k:Nat) (z:Zv),r=U k/\k<=gm i.length-i.length/\af (dd c a Fr g v e f b (kx j i k) z P)) (λr _=>(gm i.length-i.length)-(intOf r).toNat)
  case atStart=>grind
  case round=>
   obtain⟨k,z,rfl,S,n⟩:=hrel;clear p a8 a9 b0;rcases Yj k (gm i.length-i.length)with e2|e1
   .have c2:(k:Int)<((i.length:Int)+3) / 4*4-i.length:=Zm;obtain⟨b3,b4,rfl⟩:=n.w.cS;obtain⟨B,C,D,E,F,t,K,L⟩:=kT n.w.ap;have a4:(kx j i k).w.length=j.w.length+i.length+k:=by simp[kx];omega
    have e0:=n.w.ae.kp.aD;have a5:af (∀N,(wr.alloc N).ownsRow c.heap.size 5 1 (.slice b3 (kx j i k).w.length b4) (kx j i k).w.length ((kx j i k).w.map qn)):=λN=>bw n.w.row ((ao [] wr).H N) Zq;generalize x:(kx j i k).w.length=d4 at a5 t a4 n;have e5:d4+1<=100000:=Zm;have b1:=aa x;clear a4 x;go_wp2_with (at_builtin;go_must (refine kl Df underlying97 (a5.w _) [.int .u8 0] (heap_alloc_new wr _) Zy Zm Zx (H:=wr.heap.size+1) Zq ?_;intro J d8 f0 a6 o w a2;obtain⟨a8,a9,b0⟩:=n.w.f1 ((Below.refl ..).alloc (Y4 _) _) o;have x:=b1.w;subst x;have A:=n.w.a9 (l:=[0]) ((Below.refl ..).alloc (Y4 _) _) Zm rfl a6 o Zu a2;rw[XF]at A;have A:=aa A;clear a6 o w a2 B C D E F t K L));grind [intOf]
   .have a0:k=gm i.length-i.length:=Zm;have c2:¬((k:Int)<((i.length:Int)+3) / 4*4-i.length):=Zm;rw[<-a0]at s;clear a0;go_wp2;go_end0;exact Y8 ⟨(),_,_,s.w,rfl,n.w⟩
end
section
variable {b d a h:Nat}{j:fV->Zo}{g:Zv}{u c:Zw}
structure wV(c:Zw)(b:Nat)(Fr:Zo)(g:Zv)(v:List fV)(d a h:Nat)(fit:fV->Bool)(j:fV->Zo)(F:Nat)(post:Array Zv):Prop where
 d1:∀(args:Array Zv) (u:Zw),(callFunc F args).run prog u=.ok (.enter F args) u
 aL:∀{ex:Zo} {e:ch} {osl:Zv} {u:Zw} (x:fV),dd c b (ex++Fr) g v d a h e osl u->Calls prog F (#[.agg (rZ x).toArray]++post) u λen u'=>en=.returned (.bool (fit x))/\dd c b (ex++j x) g v d a h e osl u'
def FF(c:Zw)(b:Nat)(j:fV->Zo)(g:Zv)(v:List fV)(d a h:Nat)(m:Except Mar.ay (fV×ch))(l:Ending)(f:Zw):Prop:=
 (∃i k n,m=.ok (i,k)/\l=.returned (.agg (rZ i).toArray)/\dd c b (j i) g v d a h k n f)\/(∃e,m=.error e/\an [] c f/\fm c e.no e.y l f)
def ze{i v}{l:Except Mar.ay (fV×ch)}{f}{e:Nat}(p:l=.error f)(k:an [] c u)(m:an [] u i)(o:u.heap.size<=e)(n:i.heap[e]? = some (.cells #[U f.no,U f.y] 179)) :
  FF c b j g v d a h l (.panicked [{ v:=.iface 143 (Zp e),recovered:=false }]) i:=
 Ya ⟨f,p,k.u m,e,Yz k.aD o,rfl,n⟩
def abs{a:Nat}{d e f g h b0 b1 b2 b3 b4:Zv}{b}(j:c.heap[a]? = some (.cells #[d,e,f,g,h] b)) :
  (((((c.setCell ⟨a,0,none⟩ b0).setCell ⟨a,1,none⟩ b1).setCell ⟨a,2,none⟩ b2).setCell ⟨a,3,none⟩ b3).setCell ⟨a,4,none⟩ b4).heap[a]? = some (.cells #[b0,b1,b2,b3,b4] b):=by
 have k:=bv (i:=0) j b0;have l:=bv (i:=1) k b1;have m:=bv (i:=2) l b2;have n:=bv (i:=3) m b3;have o:=bv (i:=4) n b4;simp_all
def zR{Fr v e c1 t M a4}(w:Int)(hF:wV c b Fr g v d a h t j M a4)(o:dd c b Fr g v d a h e c1 u) :
  Calls prog 402 #[Zp b,U w,.func (.func M) #[] a4] u (FF c b j g v d a h (gL v a w t e)):=by
 obtain⟨c8,c9,d0,d1,d2,d3,e2,e5⟩:=kT o.ap;obtain⟨ad,a6,rfl,e7,d6,E⟩:=id o.i9;have e0:=o.bc;obtain⟨e6,e1⟩:=o.hF;have B:=aa o.ae.kp;by_cases C:a<=e.ag
 .have m:af (gL v a w t e=.error ⟨15,e.ag⟩):=by show _=_;simp[gL,C]
  have a8:(a:Int)<=(e.ag:Int):=Zm;clear o E hF;go_in;go_wp2;go_region;go_wp2_with (go_at_call 70;refine(gZ _ _ _).mono ?_;rintro e l ⟨rfl,rfl⟩);exact aE (ze (u:=u) (f:=⟨15,e.ag⟩) m.w B.w ((((ao [] u).H _).aU).H _) Zq (aQ Zq))
 .have a8:(e.ag:Int)<(a:Int):=Zm;cases q:v[e.ag]? with
  |none=>
   have b8:v.length<=e.ag:=by
    simp_all
   have m:af (gL v a w t e=.error ⟨12,e.ag⟩):=by show _=_;simp[gL,C,q]
   have a9:(v.length:Int)<=(e.ag:Int):=Zm;clear o E hF q;go_in;go_wp2;go_region;go_wp2;go_region;go_wp2_with (go_at_call 70;refine(gZ _ _ _).mono ?_;rintro e l ⟨rfl,rfl⟩);exact aE (ze (u:=u) (f:=⟨12,e.ag⟩) m.w B.w (((((ao [] u).H _).aU).aU).H _) Zq (aQ Zq))
  |some i=>
   have b8:e.ag<v.length:=by
    grind
   have a9:(e.ag:Int)<(v.length:Int):=Zm;have d5:(0:Int)<=(e.ag:Int):=Zm;obtain⟨k,x,rfl,H⟩:=E e.ag i q;have N:k<c.heap.size:=jy H.1;obtain⟨R,S,a0,a1,a2⟩:FK u k (x+e.ag*5) i:=by
    obtain⟨R,S,a0,a1,a2⟩:=H;have A:∀I,u.cell? (Zd k I)=c.cell? (Zd k I):=λI=>World.cell?_of_block (B.w.L k N Zq);exact⟨(A _).trans R,(A _).trans S,(A _).trans a0,(A _).trans a1,(A _).trans a2⟩
   have e3:k<u.heap.size:=Yr N B.w.aD;have y:=(o.H (.cells #[U 0,U 0,.string ⟨#[]⟩,U 0,U 0] 87)).H (.cells (rZ i).toArray 87);have P:(u.alloc (.cells #[U 0,U 0,.string ⟨#[]⟩,U 0,U 0] 87)).heap.size=u.heap.size+1:=Zq;rw[P]at y;have y:=aa (y.ah (((Below.refl ..).drew).drew).drew);clear P;clear o E H;go_in;go_wp2;go_region;go_wp2;go_region;go_wp21;refine cy (λl=>l.cell? (Zd b 0)=some (.slice (some ⟨k,x,none⟩) v.length a6)/\l.cell? (Zd b 1)=some (U e.ag)/\l.cell? ⟨k,x+e.ag*5,none⟩=some (U i.F)/\l.cell? ⟨k,x+e.ag*5+1,none⟩=some (U i.n)/\l.cell? ⟨k,x+e.ag*5+2,none⟩=some (Zs i.s)/\l.cell? ⟨k,x+e.ag*5+3,none⟩=some (U i.y)/\l.cell? ⟨k,x+e.ag*5+4,none⟩=some (U i.av)) ?_ λa7=>?_
   .go_keep
   refine bI [0,1,2,3,4,5,6,7,8,9] ?_;iterate 10 (refine bK ?_)
   refine bJ ?_;refine cx 10 λF z=>?_;go_simp;refine z.out _ _ ?_ (λa7=>?_)
   .go_keep
   clear z F;refine nz ?_;refine cw λF z=>?_;go_simp;refine z.out _ _ ?_;clear z F;refine nz ?_;by_cases O:i.F=w
   .subst O;have d9:=hF.d1;go_wp21;refine(hF.aL (ex:=[(u.heap.size+1,_),(u.heap.size,_)]) i y.w).mono ?_;rintro d4 c2 ⟨rfl,r⟩;cases D:t i with
    |false=>
     have m:af (gL v a i.F t e=.error ⟨12,e.ag⟩):=by show _=_;simp[gL,C,q,D]
     have b7:=aa r.ae.kp;obtain⟨b9,c0,_,_,_,_,_,_⟩:=kT r.ap;clear hF q r y D;go_wp2_with (go_at_call 70;refine(gZ _ _ _).mono ?_;rintro e l ⟨rfl,rfl⟩);exact aE (ze (u:=c2) (f:=⟨12,e.ag⟩) m.w b7.w ((ao [] _).H _) (Y4 _) (aQ rfl))
    |true=>
     have m:af (gL v a i.F t e=.ok (i,{ e with ag:=e.ag+1 })):=by show _=_;simp[gL,C,q,D]
     obtain⟨b9,c0,e8,e9,f0,f1,f2,f3⟩:=kT r.ap;have J:=r.ae.hf (u.heap.size+1,_) Yb;have K:=r.ae.hf (u.heap.size,_) (Y5 _ Yb);obtain⟨g1,g2,g3,g4,g5,g6,g7⟩:=mG J.1;obtain⟨f4,f5,f6,f7,f8,f9,g0⟩:=mG K.1;have b5:b≠u.heap.size+1:=λe=>J.2 Zm;have b6:b≠u.heap.size:=λe=>K.2 Zm;have d7:u.heap.size+1≠b:=λe=>b5 e.symm;have d8:u.heap.size≠b:=λe=>b6 e.symm;have G:=r.oi Zm;have a3:=(G.ae.hf (u.heap.size,_) (Y5 _ Yb)).1;have L:=abs (b0:=U i.F) (b1:=U i.n) (b2:=Zs i.s) (b3:=U i.y) (b4:=U i.av) a3;obtain⟨c3,c4,c5,c6,c7,_,_⟩:=mG L;have a5:=aa (G.b0.dN ((((((ao [u.heap.size] _).aH (p:=⟨u.heap.size,0,none⟩) Zq (U i.F)).aH (p:=⟨u.heap.size,1,none⟩) Zq (U i.n)).aH (p:=⟨u.heap.size,2,none⟩) Zq (Zs i.s)).aH (p:=⟨u.heap.size,3,none⟩) Zq (U i.y)).aH (p:=⟨u.heap.size,4,none⟩) Zq (U i.av)) L).b0;clear hF q r y G J K a3 D L;go_wp2;exact bodyPost_ret (v:=.agg (rZ i).toArray) (by simp[results,results402,go_sem,c3,c4,c5,c6,c7]) rfl (Y8 ⟨i,_,_,m.w,rfl,a5.w⟩)
   .have e4:(i.F==w)=false:=Zu;have m:af (gL v a w t e=.error ⟨12,e.ag⟩):=by show _=_;simp[gL,C,q,O]
    clear hF q;go_wp2_with (go_at_call 70;refine(gZ _ _ _).mono ?_;rintro e l ⟨rfl,rfl⟩);exact aE (ze (u:=u) (f:=⟨12,e.ag⟩) m.w B.w (((((((ao [] u).H _).H _).H _).aU).aU).aU) Zm (aQ Zq))
end
section
variable {D dep fuel size:Nat}{nsl:Zv}{w:Zw}
def SF{Fr:Zo}{v l g o}(h:hJ l g o)(e:∀a∈l,w.heap[a.1]? = some a.2)(d:Nat) :
  wV w D ((d,.cells g.toArray 247)::Fr) nsl v dep fuel size (λj=>o.c2 j.n) (λ_=>(d,.cells g.toArray 247)::Fr) 407 #[Zp d] where
 d1:=λ_ _=>by kernel_rfl
 aL:=by
  intro y u B f j b;obtain⟨A,rfl,z,r,s,t,rfl⟩:=id h;obtain⟨C,E,F,G,H,I⟩:=zG (b.ae.hf (d,_) (Ym _ Yb)).1;have m:∀c,Below f.heap.size f (f.alloc c):=λc=>(Below.refl ..).alloc (Y4 _) _;have k:=aa (λc=>FL h j.n (w:=f.alloc c) (λa i=>((m c).block _ (by have:=au (e a i);have:=b.ae.kp.aD;omega)).trans ((b.ae.kp.L _ (au (e a i)) Zq).trans (e a i))));have p:=aa b;clear b e h;show Calls prog _ #[_,_] ..;go_in;go_wp21;refine(k.w _).mono ?_;rintro x J ⟨rfl,n⟩;have q:=aa ((p.w.ah (m _)).ah n);clear n k;go_wp2;go_ret;exact⟨rfl,q.w⟩
def Fu(c:Int)(e:Bool)(a:Int)(w:Zw):Calls prog 367 #[.agg #[U c,.bool e],U a] w λj k=>j=.returned (.bool (gF c e a))/\Below w.heap.size w k:=by
 have d:∀i,Below w.heap.size w (w.alloc i):=λi=>(Below.refl ..).alloc (Y4 _) _;cases e with
 |true=>
  by_cases f:a=c
  .subst f;have b:af (gF a true a=true):=by show _=_;simp[gF]
   go_in;go_wp2;go_ret;exact⟨by rw[b.w];rfl,d _⟩
  .have b:af (gF c true a=false):=by show _=_;simp[gF,f]
   have l:(a==c)=false:=Zu;go_in;go_wp2;go_ret;exact⟨by rw[b.w];rfl,d _⟩
 |false=>
  by_cases g:0<=a
  .by_cases h:a<=c
   .have b:af (gF c false a=true):=by show _=_;simp[gF,g,h]
    go_in;go_wp2;go_ret;exact⟨by rw[b.w];rfl,d _⟩
   .have b:af (gF c false a=false):=by show _=_;simp[gF,h]
    go_in;go_wp2;go_ret;exact⟨by rw[b.w];rfl,d _⟩
  .have b:af (gF c false a=false):=by show _=_;simp[gF,g]
   go_in;go_wp2;go_ret;exact⟨by rw[b.w];rfl,d _⟩
def SG{Fr:Zo}{v}(c:Int)(b:Bool)(a:Nat) :
  wV w D ((a,.cells #[U c,.bool b] 375)::Fr) nsl v dep fuel size (λf=>gF c b f.s.length) (λ_=>(a,.cells #[U c,.bool b] 375)::Fr) 409 #[Zp a] where
 d1:=λ_ _=>by kernel_rfl
 aL:=by
  intro o m p e f d;obtain⟨q,r,t,u⟩:=iy (d.ae.hf (a,_) (Ym _ Yb)).1;have l:∀i,Below e.heap.size e (e.alloc i):=λi=>(Below.refl ..).alloc (Y4 _) _;have g:=aa (Fu c b f.s.length);have j:=aa d;clear d;show Calls prog _ #[_,_] ..;go_in;go_wp21;refine(g.w _).mono ?_;rintro n x ⟨rfl,h⟩;have k:=aa ((j.w.ah (l _)).ah h);clear h g;go_wp2;go_ret;exact⟨rfl,k.w⟩
def SE{Fr:Zo}{v}(c:Int)(b:Bool)(a:Nat) :
  wV w D ((a,.cells #[U c,.bool b] 375)::Fr) nsl v dep fuel size (λf=>gF c b f.av) (λ_=>(a,.cells #[U c,.bool b] 375)::Fr) 406 #[Zp a] where
 d1:=λ_ _=>by kernel_rfl
 aL:=by
  intro o m p e f d;obtain⟨q,r,s,t⟩:=iy (d.ae.hf (a,_) (Ym _ Yb)).1;have l:∀i,Below e.heap.size e (e.alloc i):=λi=>(Below.refl ..).alloc (Y4 _) _;have g:=aa (Fu c b f.av);have j:=aa d;clear d;show Calls prog _ #[_,_] ..;go_in;go_wp21;refine(g.w _).mono ?_;rintro n u ⟨rfl,h⟩;have k:=aa ((j.w.ah (l _)).ah h);clear h g;go_wp2;go_ret;exact⟨rfl,k.w⟩
end
section
variable {D dep fuel b size:Nat}{nsl c:Zv}{a w:Zw}
def dd.g2{Fr b v d}(e:dd w D Fr nsl v dep fuel size d c a)(f:Fr.Perm b):dd w D b nsl v dep fuel size d c a:=by
 refine e.bE (λh g=>f.mem_iff.2 g) ?_;have:=e.ae.d5;grind
def dd.mq{d}{e f:Zo}{v g}{l h:Obj}(i:dd w D (e++(b,l)::f) nsl v dep fuel size g c a)(j:an [b] a d)(k:d.heap[b]? = some h):dd w D (e++(b,h)::f) nsl v dep fuel size g c d:=
 ((i.g2 List.perm_middle).dN j k).g2 List.perm_middle.symm
def vk(c:dD)(e:List (Int×Nat×Nat))(d:Option (Nat×Nat))(b:Int):Array Zv:=match eW c e d b with
 |some a=>#[.int .i64 a.1,.int .i64 a.2]
 |none=>#[.int .i64 0,.int .i64 0]
def SD{Fr:Zo}{v u A h g z d}(B:hJ u A h)(K:(b,jn g)∈u)(x:pZ u z d)(R:(g.map (·.1)).Nodup)(y:∀p∈u,w.heap[p.1]? = some p.2)(q e:Nat)(G:Nat×Obj) :
  wV w D ((e,.cells #[U 0,U 0] 394)::G::(q,.cells (A++[.map (some b),z]).toArray 392)::Fr) nsl v dep fuel size (mD λs=>(eW h g d s).map (·.2)) (λf=>(e,.cells (vk h g d f.n) 394)::G::(q,.cells (A++[.map (some b),z]).toArray 392)::Fr) 403 #[Zp q,Zp e] where
 d1:=λ_ _=>by kernel_rfl
 aL:=by
  intro a3 I c a f r;obtain⟨a7,rfl,a5,S,a0,a1,rfl⟩:=id B;obtain⟨M,rfl⟩:∃M,z=.pointer M:=by
   cases d with
   |none=>exact⟨_,x⟩
   |some i=>obtain⟨q,a4,_⟩:=x;simp_all
  obtain⟨b5,b6,b7,b8,b9,c0,c1,c2⟩:=kT (r.ae.hf (q,_) (Ym _ (Y5 _ (Y5 _ Yb)))).1;have O:∀d,Below a.heap.size a (a.alloc d):=λd=>(Below.refl ..).alloc (Y4 _) _;have H:=aa (λL=>OP B K x R f.n (w:=a.alloc L) (λp C=>((O L).block _ (by have:=au (y p C);have:=r.ae.kp.aD;omega)).trans ((r.ae.kp.L _ (au (y p C)) Zq).trans (y p C))));have F:=aa (r.H (.cells (rZ f).toArray 87));clear r y B K x;show Calls prog _ #[_,_,_] ..;go_in;go_wp21;refine(H.w _).mono ?_;rintro a2 N ⟨rfl,J⟩;have l:=F.w.ah J;obtain⟨a8,a9,b0,b1,b2,b3,b4⟩:=mG (l.ae.hf _ Yb).1;have t:=(l.ae.hf (e,_) (Y5 _ (Ym _ Yb))).1;obtain⟨c3,c4,c5,c6⟩:=iy t;have P:a.heap.size≠e:=by
   have:=l.ae.d5;simp_all
  have a6:e≠a.heap.size:=λI=>P I.symm;clear H F J;cases k:eW h g d f.n with
  |none=>
   have o:ke h g d f.n=.agg #[U 0,U 0]:=by simp[ke,k]
   have n:vk h g d f.n=#[U 0,U 0]:=by simp[vk,k]
   have E:af (mD (λs=>(eW h g d s).map (·.2)) f=false):=by show _=_;simp[mD,k]
   have m:=tD (k':=U 0) (t':=U 0) t;have j:=(l.b0.mq (((ao [e] N).aH (p:=⟨e,0,none⟩) Zq (U 0)).aH (p:=⟨e,1,none⟩) Zq (U 0)) m);rw[<-n]at j;have j:=aa j;rw[o];simp only[Option.isSome_none];clear l t m o n k;go_wp2;go_ret;simp_all[af.w]
  |some i=>
   have o:ke h g d f.n=.agg #[U i.1,U i.2]:=by simp[ke,k]
   have n:vk h g d f.n=#[U i.1,U i.2]:=by simp[vk,k]
   have E:af (mD (λs=>(eW h g d s).map (·.2)) f=(f.av==(i.2:Int))):=by
    show _=_;simp[mD,k];rfl
   have m:=tD (k':=U (i.1:Int)) (t':=U (i.2:Int)) t;obtain⟨c7,c8,_,_⟩:=iy m;have j:=(l.b0.mq (((ao [e] N).aH (p:=⟨e,0,none⟩) Zq (U (i.1:Int))).aH (p:=⟨e,1,none⟩) Zq (U (i.2:Int))) m);rw[<-n]at j;have j:=aa j;rw[o];simp only[Option.isSome_some];clear l t m o n k;go_wp2;go_ret;exact⟨by rw[E.w];rfl,j.w⟩
end
section
variable {D dep fuel size:Nat}{nsl c:Zv}{u a:Zw}{b:Type}
theorem sj{v c b}{d:ch}{a}(e:gL v fuel c b d=.ok a):1<=a.2.ag/\a.1.F=c/\b a.1=true:=by
 grind [gL]
def ML{d}{a b:ch}(c:hY size d a=.ok b):b.ag=a.ag:=by
 obtain⟨e,f,g⟩:=ip c;grind [kA]
def BC{a}{c:b}{f:Unit}(d:(bg a λe=>Except.ok ((),e))=.ok (f,c)):a=.ok c:=by
 cases a with
 |error h=>cases d
 |ok g=>cases d;rfl
def BB{c:Except Mar.ay b}{a:Mar.ay}(d:(bg c λe=>Except.ok ((),e))=.error a):c=.error a:=by
 cases c with
 |error a=>cases d;rfl
 |ok f=>cases d
def Ns{Fr v b}(d:Nat)(s:d<1000000)(h:dd a D Fr nsl v dep fuel size b c u) :
  Calls prog 329 #[Zp D,U d] u (mo a D Fr nsl v dep fuel size (bg ((cr v dep fuel size).ef d b) λe=>.ok ((),e)) λ_=>.tuple #[]):=by
 obtain⟨l,m,n,o,p,q,r,t⟩:=kT h.ap;have i:=aa h;clear h;by_cases j:dep<=d
 .have g:af ((bg ((cr v dep fuel size).ef d b) λe=>Except.ok ((),e))=.error ⟨13,b.ag⟩):=by show _=_;simp[cr,j,bg]
  have k:(dep:Int)<=(d:Int):=Zm;go_in;go_wp2_with (go_at_call 70;refine(gZ _ _ _).mono ?_;rintro b w ⟨rfl,rfl⟩);exact aE (FB (u:=u) (f:=⟨13,b.ag⟩) g.w i.w.ae.kp ((ao [] _).H _) (Y4 _) (aQ rfl))
 .have g:af ((bg ((cr v dep fuel size).ef d b) λe=>Except.ok ((),e))=.ok ((),b)):=by show _=_;simp[cr,j,bg]
  have k:(d:Int)<(dep:Int):=Zm;go_in;go_wp2;go_end0;exact Y8 ⟨(),b,_,g.w,rfl,i.w⟩
def Nu{Fr v d K y e}(C:hJ K y e)(O:∀m∈K,a.heap[m.1]? = some m.2)(M:dd a D Fr nsl v dep fuel size d c u) :
  Calls prog 400 #[Zp D,.agg y.toArray] u (mo a D Fr nsl v dep fuel size (bg ((cr v dep fuel size).num e d) λr=>.ok ((),r)) λ_=>.tuple #[]):=by
 have b0:=je;have I:=aa (zR 1 (SF C O u.heap.size (D:=D) (Fr:=Fr) (nsl:=nsl) (v:=v) (dep:=dep) (fuel:=fuel) (size:=size)) (M.H (.cells y.toArray 247)));obtain⟨b1,rfl,a9,a6,a7,a8,rfl⟩:=id C;have t:af ((cr v dep fuel size).num e d=bg (gL v fuel 1 (λf=>e.c2 f.n) d) λm=>bg (if e.b8 then hY size (m.1.n / 4294967296) m.2 else .ok m.2) λd=>hY size m.1.n d):=rfl
 clear M O C;go_in;go_wp21;refine I.w.mono ?_;rintro B b9 (⟨f,z,b2,b,rfl,H⟩|⟨h,b,l,i,k,rfl,j⟩);rotate_left
 .exact aE (Ya ⟨h,by rw[t.w,b];rfl,l,i,k,rfl,j⟩)
 have N:=(sj b).1;have n:af ((cr v dep fuel size).num e d=bg (if e.b8 then hY size (f.n / 4294967296) z else .ok z) λd=>hY size f.n d):=by show _=_;rw[t.w,b];rfl
 have g:=H.H (.cells (rZ f).toArray 87);obtain⟨b4,b5,b6,P,b7,b8⟩:=zG (g.ae.hf _ (Y5 _ Yb)).1;have g:=aa g;clear b I t H;cases s:e.b8 with
 |true=>
  rw[s]at P;have J:=aa (vW (f.n / 4294967296) N g.w);go_wp21;refine J.w.mono ?_;rintro B c0 (⟨_,L,b3,b,rfl,w⟩|⟨h,b,l,i,k,rfl,j⟩);rotate_left
  .refine aE (Ya ⟨h,?_,l,i,k,rfl,j⟩);rw[n.w,s];simp only[if_true]
   rw[BB b];rfl
  have E:=BC b;have o:af ((cr v dep fuel size).num e d=hY size f.n L):=by show _=_;rw[n.w,s];simp only[if_true];rw[E];rfl
  have R:1<=L.ag:=by rw[ML E];omega
  obtain⟨S,a0,a1,a2,a3,a4,a5⟩:=mG (w.ae.hf _ Yb).1;have q:=aa (vW f.n R w);clear b E w J n g;go_wp21;refine q.w.mono ?_;rintro B G (⟨_,A,F,b,rfl,p⟩|⟨h,b,l,i,k,rfl,j⟩);rotate_left
  .exact aE (Ya ⟨h,by rw[o.w];omega,l,i,k,rfl,j⟩)
  have x:af (mo a D Fr nsl v dep fuel size (bg ((cr v dep fuel size).num e d) λr=>.ok ((),r)) (λ_=>.tuple #[]) (.returned (.tuple #[])) G):=Y8 ⟨(),A,F,by rw[o.w];omega,rfl,p.b0.b0⟩;clear b p q;go_wp2;go_end0;exact x.w
 |false=>
  rw[s]at P;have o:af ((cr v dep fuel size).num e d=hY size f.n z):=by show _=_;rw[n.w,s];rfl
  obtain⟨S,a0,a1,a2,a3,a4,a5⟩:=mG (g.w.ae.hf _ Yb).1;have q:=aa (vW f.n N g.w);clear g n;go_wp21;refine q.w.mono ?_;rintro B G (⟨_,A,F,b,rfl,p⟩|⟨h,b,l,i,k,rfl,j⟩);rotate_left
  .exact aE (Ya ⟨h,by rw[o.w];omega,l,i,k,rfl,j⟩)
  have x:af (mo a D Fr nsl v dep fuel size (bg ((cr v dep fuel size).num e d) λr=>.ok ((),r)) (λ_=>.tuple #[]) (.returned (.tuple #[])) G):=Y8 ⟨(),A,F,by rw[o.w];omega,rfl,p.b0.b0⟩;clear b p q;go_wp2;go_end0;exact x.w
end
section
variable {D dep fuel size:Nat}{b:Bool}{a:Int}{nsl d:Zv}{c w:Zw}
def Gi{c:Int}(e:a<=4294967295)(d:gF a b c=true):c<=4294967295:=by
 grind [gF]
def OU{c:Int}(e:0<=a)(d:gF a b c=true):0<=c:=by
 grind [gF]
def Nv{Fr v f}(a:Int)(b:Bool)(a4:0<=a)(N:a<=4294967295)(K:dd w D Fr nsl v dep fuel size f d c) :
  Calls prog 401 #[Zp D,.agg #[U a,.bool b]] c (mo w D Fr nsl v dep fuel size (bg ((cr v dep fuel size).text a b f) λr=>.ok ((),r)) λ_=>.tuple #[]):=by
 have a5:=je;have H:=aa (zR 2 (SG a b c.heap.size (w:=w) (D:=D) (Fr:=Fr) (nsl:=nsl) (v:=v) (dep:=dep) (fuel:=fuel) (size:=size)) (K.H (.cells #[U a,.bool b] 375)));have u:af ((cr v dep fuel size).text a b f=bg (gL v fuel 2 (λg=>gF a b g.s.length) f) λt=>bg (if b then .ok t.2 else hY size t.1.s.length t.2) λf=>oB size t.1.s f):=rfl
 clear K;go_in;go_wp21;refine H.w.mono ?_;rintro B b2 (⟨g,z,a6,e,rfl,G⟩|⟨i,e,m,j,l,rfl,k⟩);rotate_left
 .exact aE (Ya ⟨i,by rw[u.w,e];rfl,m,j,l,rfl,k⟩)
 have L:=(sj e).1;have M:g.s.length<=4294967295:=by have:=Gi N (sj e).2.2;grind
 have n:af ((cr v dep fuel size).text a b f=bg (if b then .ok z else hY size g.s.length z) λf=>oB size g.s f):=by show _=_;rw[u.w,e];rfl
 have h:=G.H (.cells (rZ g).toArray 87);obtain⟨a8,a9,b0,b1⟩:=iy (h.ae.hf _ (Y5 _ Yb)).1;have h:=aa h;clear e H u G;cases b with
 |true=>
  have o:af ((cr v dep fuel size).text a true f=oB size g.s z):=by show _=_;rw[n.w];rfl
  obtain⟨P,R,S,a0,a1,a2,a3⟩:=mG (h.w.ae.hf _ Yb).1;have q:=aa (Hp g.s M L h.w);clear h n;go_wp21;refine q.w.mono ?_;rintro B F (⟨_,A,E,e,rfl,p⟩|⟨i,e,m,j,l,rfl,k⟩);rotate_left
  .exact aE (Ya ⟨i,by rw[o.w];omega,m,j,l,rfl,k⟩)
  have y:af (mo w D Fr nsl v dep fuel size (bg ((cr v dep fuel size).text a true f) λr=>.ok ((),r)) (λ_=>.tuple #[]) (.returned (.tuple #[])) F):=Y8 ⟨(),A,E,by rw[o.w];omega,rfl,p.b0.b0⟩;clear e p q;go_wp2;go_end0;exact y.w
 |false=>
  have I:=aa (vW g.s.length L h.w);go_wp21;refine I.w.mono ?_;rintro B b3 (⟨_,J,a7,e,rfl,x⟩|⟨i,e,m,j,l,rfl,k⟩);rotate_left
  .refine aE (Ya ⟨i,?_,m,j,l,rfl,k⟩);rw[n.w];simp only[Ye,if_false]
   rw[BB e];rfl
  have C:=BC e;have o:af ((cr v dep fuel size).text a false f=oB size g.s J):=by show _=_;rw[n.w];simp only[Ye,if_false];rw[C];rfl
  have O:1<=J.ag:=by rw[ML C];omega
  obtain⟨P,R,S,a0,a1,a2,a3⟩:=mG (x.ae.hf _ Yb).1;have q:=aa (Hp g.s M O x);clear e C x I n h;go_wp21;refine q.w.mono ?_;rintro B F (⟨_,A,E,e,rfl,p⟩|⟨i,e,m,j,l,rfl,k⟩);rotate_left
  .exact aE (Ya ⟨i,by rw[o.w];omega,m,j,l,rfl,k⟩)
  have y:af (mo w D Fr nsl v dep fuel size (bg ((cr v dep fuel size).text a false f) λr=>.ok ((),r)) (λ_=>.tuple #[]) (.returned (.tuple #[])) F):=Y8 ⟨(),A,E,by rw[o.w];omega,rfl,p.b0.b0⟩;clear e p q;go_wp2;go_end0;exact y.w
def Nt{Fr v f}(a:Int)(b:Bool)(E:0<=a)(S:a<=4294967295)(A:dd w D Fr nsl v dep fuel size f d c) :
  Calls prog 399 #[Zp D,.agg #[U a,.bool b]] c (mo w D Fr nsl v dep fuel size ((cr v dep fuel size).a6 a b f) λH=>U H):=by
 have a0:=je;have x:=aa (zR 3 (SE a b c.heap.size (w:=w) (D:=D) (Fr:=Fr) (nsl:=nsl) (v:=v) (dep:=dep) (fuel:=fuel) (size:=size)) (A.H (.cells #[U a,.bool b] 375)));have m:af ((cr v dep fuel size).a6 a b f=bg (gL v fuel 3 (λe=>gF a b e.av) f) λl=>bg (if b then .ok l.2 else hY size l.1.av l.2) λf=>.ok (l.1.av.toNat,f)):=rfl
 clear A;go_in;go_wp21;refine x.w.mono ?_;rintro C a5 (⟨e,k,I,g,rfl,u⟩|⟨o,g,s,p,r,rfl,q⟩);rotate_left
 .exact aE (Ya ⟨o,by rw[m.w,g];rfl,s,p,r,rfl,q⟩)
 have G:=(sj g).1;have F:0<=e.av:=OU E (sj g).2.2;have t:af (((e.av.toNat:Nat):Int)=e.av):=Int.toNat_of_nonneg F;have i:af ((cr v dep fuel size).a6 a b f=bg (if b then .ok k else hY size e.av k) λf=>.ok (e.av.toNat,f)):=by show _=_;rw[m.w,g];rfl
 have h:=u.H (.cells (rZ e).toArray 87);obtain⟨a1,a2,a3,a4⟩:=iy (h.ae.hf _ (Y5 _ Yb)).1;have h:=aa h;clear g x m u;cases b with
 |true=>
  have n:af ((cr v dep fuel size).a6 a true f=.ok (e.av.toNat,k)):=by show _=_;rw[i.w];rfl
  obtain⟨K,L,M,N,O,P,R⟩:=mG (h.w.ae.hf _ Yb).1;clear i;go_wp2;go_ret;refine Y8 ⟨e.av.toNat,k,I,n.w,?_,h.w.b0.b0⟩;show _=Ending.returned (U ((e.av.toNat:Nat):Int));rw[t.w];rfl
 |false=>
  have y:=aa (vW e.av G h.w);go_wp21;refine y.w.mono ?_;rintro C a6 (⟨_,z,J,g,rfl,j⟩|⟨o,g,s,p,r,rfl,q⟩);rotate_left
  .refine aE (Ya ⟨o,?_,s,p,r,rfl,q⟩);rw[i.w];simp only[Ye,if_false]
   rw[BB g];rfl
  have B:=BC g;have n:af ((cr v dep fuel size).a6 a false f=.ok (e.av.toNat,z)):=by show _=_;rw[i.w];simp only[Ye,if_false];rw[B];rfl
  obtain⟨K,L,M,N,O,P,R⟩:=mG (j.ae.hf _ Yb).1;have j:=aa j;clear g B y i h;go_wp2;go_ret;refine Y8 ⟨e.av.toNat,z,J,n.w,?_,j.w.b0.b0⟩;show _=Ending.returned (U ((e.av.toNat:Nat):Int));rw[t.w];rfl
def Nr{Fr v h q l a}{m:Nat}{f k e}(A:hJ q l a)(O:(m,jn f)∈q)(r:pZ q k e)(a7:(f.map (·.1)).Nodup)(S:∀p∈q,w.heap[p.1]? = some p.2)(M:dd w D Fr nsl v dep fuel size h d c) :
  Calls prog 398 #[Zp D,.agg (l++[.map (some m),k]).toArray] c (mo w D Fr nsl v dep fuel size ((cr v dep fuel size).de a (λj=>(eW a f e j).map (·.2)) h) (ke a f e)):=by
 have b8:=je;have u:=((M.H (.cells (l++[.map (some m),k]).toArray 392)).H (.cells #[U 0,U 0] 394)).H (.cells #[U 0,U 0] 394);have P:(c.alloc (.cells (l++[.map (some m),k]).toArray 392)).heap.size=c.heap.size+1:=Zq;have R:((c.alloc (.cells (l++[.map (some m),k]).toArray 392)).alloc (.cells #[U 0,U 0] 394)).heap.size=c.heap.size+1+1:=Zq;rw[R,P]at u;have J:=aa (zR 4 (SD A O r a7 S c.heap.size (c.heap.size+1+1) (c.heap.size+1,.cells #[U 0,U 0] 394) (D:=D) (Fr:=Fr) (nsl:=nsl) (v:=v) (dep:=dep) (fuel:=fuel) (size:=size)) u);obtain⟨c0,rfl,b7,b2,b3,b4,rfl⟩:=id A;obtain⟨a0,rfl⟩:∃a0,k=.pointer a0:=by
  cases e with
  |none=>exact⟨_,r⟩
  |some b=>obtain⟨b5,b6,_⟩:=r;simp_all
 have s:af ((cr v dep fuel size).de a (λj=>(eW a f e j).map (·.2)) h=bg (gL v fuel 4 (mD λj=>(eW a f e j).map (·.2)) h) λp=>bg (hY size p.1.n p.2) λh=>.ok (p.1.n,h)):=rfl;clear M S A O r u P R;go_in;go_wp21;refine J.w.mono ?_;rintro a5 d7 (⟨i,a4,c1,g,rfl,n⟩|⟨y,g,E,z,C,rfl,B⟩);rotate_left
 .exact aE (Ya ⟨y,by rw[s.w,g];rfl,E,z,C,rfl,B⟩)
 have a6:=(sj g).1;have N:=(sj g).2.2;obtain⟨b,F⟩:∃b,eW a f e i.n=some b:=by
  simp only[mD]at N;cases b9:eW a f e i.n<;>simp_all
 have a2:af (ke a f e i.n=.agg #[U b.1,U b.2]):=by show _=_;simp[ke,F]
 have I:vk a f e i.n=#[U b.1,U b.2]:=by simp[vk,F]
 dsimp only at n;rw[I]at n;have t:af ((cr v dep fuel size).de a (λj=>(eW a f e j).map (·.2)) h=bg (hY size i.n a4) λh=>.ok (i.n,h)):=by show _=_;rw[s.w,g];rfl
 have x:=n.H (.cells (rZ i).toArray 87);have K:=aa (vW i.n a6 x);obtain⟨d0,d1,d2,d3,d4,d5,d6⟩:=mG (x.ae.hf _ Yb).1;clear g J s n N F I x;go_wp21;refine K.w.mono ?_;rintro a5 a9 (⟨_,L,a8,g,rfl,o⟩|⟨y,g,E,z,C,rfl,B⟩);rotate_left
 .exact aE (Ya ⟨y,by rw[t.w,BB g];rfl,E,z,C,rfl,B⟩)
 have a1:af ((cr v dep fuel size).de a (λj=>(eW a f e j).map (·.2)) h=.ok (i.n,L)):=by show _=_;rw[t.w,BC g];rfl
 have oW:=(o.ae.hf _ (Y5 _ Yb)).1;have G:=(o.ae.hf _ (Y5 _ (Y5 _ Yb))).1;obtain⟨c2,c3,c4,c5⟩:=iy oW;obtain⟨c6,c7,c8,c9⟩:=iy G;have H:=tD (k':=U (b.1:Int)) (t':=U (b.2:Int)) G;obtain⟨b0,b1,_,_⟩:=iy H;have a3:=aa (o.b0.b0.dN (((ao [c.heap.size+1] a9).aH (p:=⟨c.heap.size+1,0,none⟩) Zq (U (b.1:Int))).aH (p:=⟨c.heap.size+1,1,none⟩) Zq (U (b.2:Int))) H).b0.b0;clear g o oW G H K t;go_wp2;exact bodyPost_ret (v:=.agg #[U b.1,U b.2]) (by simp[results,results398,go_sem,b0,b1]) rfl (Y8 ⟨i.n,L,a8,a1.w,by rw[a2.w],a3.w⟩)
end
section
variable {D dep fuel size:Nat}{bs:Zo}{nsl:Zv}{u u' w:Zw}
def Rf{v}{b:Int}{f}{d e:ch}{c:Nat}(j:0<=b)(g:b<=4294967295)(a:(cr v dep fuel size).a6 b f d=.ok (c,e)):c<=4294967295:=by
 obtain⟨k,h,a⟩:=ip a;obtain⟨i,_,a⟩:=ip a;cases a
 have:=Gi g (sj h).2.2;omega
def yi{f:Type}{Fr:Zo}{v:List fV}{e:Except Mar.ay (f×ch)}{c:f->Zv}{d:Ending}(a:mo w D Fr nsl v dep fuel size e c d u'):sv w (λFr i u=>∃b,dd w D Fr nsl v dep fuel size i b u) Fr e c d u':=by
 rcases a with⟨g,h,b,j,k,l⟩|a
 .exact Y8 ⟨g,h,j,k,b,l⟩
 .exact Ya a
def Hg(hw:∀p∈bs,w.heap[p.1]? = some p.2)(D:Nat)(nsl:Zv)(v:List fV)(dep fuel size:Nat):dZ ch w bs where
 W:=cr v dep fuel size
 T:=197
 D:=D
 J:=λFr e u=>∃osl,dd w D Fr nsl v dep fuel size e osl u
 cX:=by
  rintro Fr d u ⟨osl,h⟩
  exact⟨_,_,h.ae,λhk hM ho=>⟨osl,h.e1 hk hM ho⟩⟩
 fE:=329
 fN:=400
 fT:=401
 fL:=399
 fA:=398
 mE:=λ_ _=>by kernel_rfl
 mN:=λ_ _=>by kernel_rfl
 mT:=λ_ _=>by kernel_rfl
 mL:=λ_ _=>by kernel_rfl
 mA:=λ_ _=>by kernel_rfl
 eE:=λ_ _=>by kernel_rfl
 eN:=λ_ _=>by kernel_rfl
 eT:=λ_ _=>by kernel_rfl
 eL:=λ_ _=>by kernel_rfl
 eA:=λ_ _=>by kernel_rfl
 cE:=by
  rintro Fr d u k hk ⟨osl,h⟩
  exact(Ns k Zm h).mono λe u'=>yi
 cN:=by
  rintro Fr d u cs n hN ⟨osl,h⟩
  exact(Nu hN hw h).mono λe u'=>yi
 cT:=by
  rintro Fr d u n f h0 h1 ⟨osl,h⟩
  exact(Nv n f h0 h1 h).mono λe u'=>yi
 cL:=by
  rintro Fr d u n f h0 h1 ⟨osl,h⟩
  exact(Nt n f h0 h1 h).mono λe u'=>yi
 cA:=by
  rintro Fr d u cs n m ws ov o hN hm ho nd ⟨osl,h⟩
  exact(Nr hN hm ho nd hw h).mono λe u'=>yi
 dO:=Rf
def Nz(a:an [] w u){v}(d:pX w nsl v)(c:size<=100000/\fuel<=10000):dd w u.heap.size [] nsl v dep fuel size ⟨0,[]⟩ (.slice none 0 0) (u.alloc (.cells #[nsl,U 0,U dep,U fuel,U size,.slice none 0 0] 199)):=by
 refine⟨⟨a.H _,?_,?_,?_,?_,?_,?_,?_,?_⟩,aQ rfl,⟨rfl,Y8 ⟨rfl,rfl⟩⟩,d,Zq,Zq,c⟩
 .intro g b;simp[Value.ownBlock]at b;subst b;exact a.aD
 .simp_all[Value.ownBlock]
 .simp[Value.ownBlock]
 .intro f e;grind
 .intro f e;grind
 all_goals simp
def Rg{Fr v a d}(f:dd w D Fr nsl v dep fuel size a d u)(u':Zw)(l:an [] u u'):(convert 97 9 d).run prog u'=.ok (Zs a.w) u':=by
 have m:=bw f.row l Zq;rcases m.2 with⟨rfl,g⟩|⟨b,e,n,rfl,o,h,p,q,r,s⟩
 .have j:a.w=[]:=Yv.1 g;rw[j,run_convert_bytes_string u' 97 9 5 none 0 0 underlying97 underlying5 underlying9];rfl
 .refine run_convert_bytes_back u' 97 9 5 ⟨b,0,none⟩ e a.w underlying97 underlying5 underlying9 λc k=>?_;have i:(⟨b,0,none⟩:Addr).add c=⟨b,c,none⟩:=by grind [Addr.add]
  rw[i];exact dt h (xs:=a.w.map qn) Zu (by rw[List.getElem?_map,Yd k];rfl)
def FC(w:Zw)(d:Except Mar.ay (Zb))(c:Ending)(u':Zw):Prop:=
 (∃b,d=.ok b/\c=.returned (Zs b)/\an [] w u')\/(∃a,d=.error a/\an [] w u'/\fm w a.no a.y c u')
def NQ{c:Except Mar.ay (Zb)}{f}{a:Nat}(h:c=.error f)(b:an [] w u)(d:an [] u u')(g:u.heap.size<=a)(e:u'.heap[a]? = some (.cells #[U f.no,U f.y] 179)) :
  FC w c (.panicked [{ v:=.iface 143 (Zp a),recovered:=false }]) u':=
 Ya ⟨f,h,b.u d,a,Yz b.aD g,rfl,e⟩
def Nx{m v a}{start G:Nat}{q}(g:pP bs v m)(B:∀C∈bs,w.heap[C.1]? = some C.2)(h:∀P∈m,ns P)(I:fuel<=10000)(L:size<=100000)(p:pX w nsl a)(A:mY (cr a dep fuel size) m G ⟨start,[],[]⟩ ⟨0,[]⟩=some q) :
  Calls prog 60 #[v,U start,nsl,.agg #[U dep,U fuel,U size]] w (FC w (bg q λb=>if b.ag<a.length then .error ⟨12,b.ag⟩else .ok b.w)):=by
 generalize z:(bg q λb=>if b.ag<a.length then Except.error ⟨12,b.ag⟩else .ok b.w)=l
 obtain⟨ad,n,rfl,a8,a4,_⟩:=id p;have D:=aa g;have k:=aa B;have E:=aa h;have F:=aa A;have o:=aa z;have t:af (∀f,(Hg k.w (w.heap.size+1) (.slice ad a.length n) a dep fuel size).J [] ⟨0,[]⟩ ((w.alloc f).alloc (.cells #[.slice ad a.length n,U 0,U dep,U fuel,U size,.slice none 0 0] 199))):=by
  intro f;have y:=Nz (u:=w.alloc f) ((ao [] w).H f) p (dep:=dep) (fuel:=fuel) (size:=size) ⟨L,I⟩;have b:(w.alloc f).heap.size=w.heap.size+1:=Zq;rw[b]at y;exact⟨_,y⟩
 clear g B h A z p;go_in;go_wp21;refine(OA (Z:=Hg k.w (w.heap.size+1) (.slice ad a.length n) a dep fuel size) (Fr:=[]) (d:=⟨0,[]⟩) D.w k.w E.w (t.w _) F.w).mono ?_;rintro b O (⟨_,c,i,rfl,b0,e⟩|⟨x,i,K,H,h,rfl,g⟩);rotate_left
 .exact aE (Ya ⟨x,by rw[<-o.w,Bz i];rfl,K,H,h,rfl,g⟩)
 have r:af (l=if c.ag<a.length then Except.error ⟨12,c.ag⟩else .ok c.w):=by show _=_;rw[<-o.w,BA i];rfl
 obtain⟨R,S,a0,a1,a2,a3,a7,a9⟩:=kT e.ap;have a5:=Rg e O (ao [] _);have a6:=e.bc;have s:=aa e.ae.kp;clear e i t o;by_cases M:c.ag<a.length
 .have j:af (l=.error ⟨12,c.ag⟩):=Zu;have N:(c.ag:Int)<(a.length:Int):=Zm;clear r;go_wp2_with (go_at_call 70;refine(gZ _ _ _).mono ?_;rintro b b1 ⟨rfl,rfl⟩);exact aE (NQ (f:=⟨12,c.ag⟩) j.w s.w ((ao [] _).H _) (Y4 _) (aQ rfl))
 .have j:af (l=.ok c.w):=Zu;have N:(a.length:Int)<=(c.ag:Int):=Zm;clear r M;go_wp2;go_ret;exact Y8 ⟨_,j.w,rfl,s.w⟩
end
section
variable {c b:Nat}{g d:Zv}{e:List (Zb×Nat)}{a:Zw}
def pX.ac{f v}(j:pX a d v)(o:an [] a f):pX f d v:=by
 obtain⟨ad,h,k,l,m,n⟩:=j;refine⟨ad,h,k,l,m,λq x p=>?_⟩;obtain⟨c,w,i,⟨g,r,s,t,u⟩⟩:=n q x p;have b:∀e,f.cell? (Zd c e)=a.cell? (Zd c e):=λe=>World.cell?_of_block (o.L c (jy g) Zq);exact⟨c,w,i,⟨(b _).trans g,(b _).trans r,(b _).trans s,(b _).trans t,(b _).trans u⟩⟩
def Hf(f g:Addr)(a:Zw) :
  CallsD prog 58 #[.pointer (some f),.pointer (some g)] .returning a λc h i=>c=.returned (.tuple #[])/\h=.returning/\i=a:=by
 have d:=JR;refine callsD_of_wpS func58 rfl λb j e=>?_;apply wpS_seq;apply wpS_region;simp[wpOpsS,go_sem,recoverD,e,ntmps58,Exit.thenS];apply wpS_seq;apply wpS_region;simp[wpOpsS,go_sem,Exit.thenS,d];refine wpS_cond (t:=false) Zr ?_;simp only[Ye,if_false]
 refine wpS_of_wp (wp_skip ?_);cases b<;>simp_all[bodyPostS,results]
def QV(b Q c:Nat)(j k:Zv)(e:List PanicEntry)(a:Zw)(p:a.cell? (Zd b 0)=some j)(q:a.cell? (Zd Q 0)=some k)(n:a.frozen? ⟨b,0,none⟩=false)(o:a.frozen? ⟨Q,0,none⟩=false)(r:b≠Q) :
  CallsD prog 58 #[Zp b,Zp Q] (.panicking ({ v:=.iface 143 (Zp c),recovered:=false }::e)) a λd h i=>
   d=.returned (.tuple #[])/\h=.panicking ({ v:=.iface 143 (Zp c),recovered:=true }::e)/\i=(a.setCell ⟨b,0,none⟩ (.string ⟨#[]⟩)).setCell ⟨Q,0,none⟩ (.iface 143 (Zp c)):=by
 have f:=JQ 143;refine callsD_of_wpS func58 rfl λm l g=>?_;apply wpS_seq;apply wpS_region;simp[wpOpsS,go_sem,recoverD,g,ntmps58,Exit.thenS];apply wpS_seq;apply wpS_region;simp[wpOpsS,go_sem,Exit.thenS,f];refine wpS_cond (t:=true) (by simp_all[Act.eval]) ?_;simp only[if_true]
 refine wpS_of_wp ?_;go_wp21;refine(Fw c a).mono ?_;rintro d s ⟨rfl,rfl⟩;go_wp2;simp_all[bodyPostS,results]
def vv(a:Zw)(f:Except Nat Nat)(i:Except Mar.ay (Zb))(b:Ending)(j:Zw):Prop:=an [] a j /\
 ((∃h,f=.error h/\b=.returned (.tuple #[.string ⟨#[]⟩,.iface 122 (U h)]))\/
  (∃e g,f=.ok e/\i=.ok g/\b=.returned (.tuple #[Zs g,.nilIface]))\/
  (∃e c d,f=.ok e/\i=.error c/\b=.returned (.tuple #[.string ⟨#[]⟩,.iface 143 (Zp d)])/\a.heap.size<=d/\j.heap[d]? = some (.cells #[U c.no,U c.y] 179)))
def NB{S}{v:Zv}(w:a.heap[c]? = some (.cells #[g,v,.map (some S),.map (some b)] 109))(x:a.heap[S]? = some (kz e))(O:(e.map (·.1)).Nodup)(y:Zb)(d:Zv)(m n o:Int){s}(G:jk e y m n o=.error s)(P:Except Mar.ay (Zb)) :
  Calls prog 33 #[Zp c,Zs y,d,.agg #[U m,U n,U o]] a (vv a (.error s) P):=by
 have a9:=je;have b0:=WK;have q:Below a.heap.size a (((a.alloc (.cells #[U m,U n,U o] 72)).alloc (.cells #[.string ⟨#[]⟩] 9)).alloc (.cells #[.nilIface] 55)):=(((Below.refl ..).alloc (Y4 _) _).alloc Zq _).alloc Zx _;have u:=aa (Ly ((q.block _ (au w)).trans w) ((q.block _ (au x)).trans x) O y m n o);rw[G]at u;have z:(((a.alloc (.cells #[U m,U n,U o] 72)).alloc (.cells #[.string ⟨#[]⟩] 9)).alloc (.cells #[.nilIface] 55)).heap[a.heap.size+1]? = some (.cells #[.string ⟨#[]⟩] 9):=(Below.heap_alloc _ _ _ Zq).trans (aQ Zq);have A:(((a.alloc (.cells #[U m,U n,U o] 72)).alloc (.cells #[.string ⟨#[]⟩] 9)).alloc (.cells #[.nilIface] 55)).heap[a.heap.size+1+1]? = some (.cells #[.nilIface] 55):=aQ Zq;clear w x G;go_enter_defers func33,ntmps33;go_wp21;refine u.w.mono ?_;rintro N j ⟨rfl,r⟩;have B:=(r.block _ (au z)).trans z;have t:=(r.block _ (au A)).trans A;have R:=bS B;have a2:=bS t;have a5:∀l,j.frozen? ⟨a.heap.size+1,l,none⟩=false:=by grind [World.frozen?]
 have a7:∀l,j.frozen? ⟨a.heap.size+1+1,l,none⟩=false:=by simp_all[World.frozen?]
 have b1:=au t;have K:=aa (q.trans (r.mono q.size));clear r u z A q;unfold Ez;go_wp2;have C:∀h,(j.setCell ⟨a.heap.size+1+1,0,none⟩ h).heap[a.heap.size+1]? = some (.cells #[.string ⟨#[]⟩] 9):=λh=>(Below.heap_setCell _ _ _ _ Zq).trans B;have D:∀h,(j.setCell ⟨a.heap.size+1+1,0,none⟩ h).heap[a.heap.size+1+1]? = some (.cells #[h] 55):=λh=>bv (i:=0) t h;have E:∀h i,((j.setCell ⟨a.heap.size+1+1,0,none⟩ h).setCell ⟨a.heap.size+1,0,none⟩ i).heap[a.heap.size+1]? = some (.cells #[i] 9):=λh i=>bv (i:=0) (C h) i;have F:∀h i,((j.setCell ⟨a.heap.size+1+1,0,none⟩ h).setCell ⟨a.heap.size+1,0,none⟩ i).heap[a.heap.size+1+1]? = some (.cells #[h] 55):=λh i=>(Below.heap_setCell _ _ _ _ Zq).trans (D h);have a0:=λh=>bS (C h);have a3:=λh=>bS (D h);have a1:=λh i=>bS (E h i);have a4:=λh i=>bS (F h i);have a6:∀h l,(j.setCell ⟨a.heap.size+1+1,0,none⟩ h).frozen? ⟨a.heap.size+1,l,none⟩=false:=Zu;have a8:∀h i l,((j.setCell ⟨a.heap.size+1+1,0,none⟩ h).setCell ⟨a.heap.size+1,0,none⟩ i).frozen? ⟨a.heap.size+1+1,l,none⟩=false:=Zu;have H:∀h i k,(((j.setCell ⟨a.heap.size+1+1,0,none⟩ h).setCell ⟨a.heap.size+1,0,none⟩ i).setCell ⟨a.heap.size+1+1,0,none⟩ k).cell? ⟨a.heap.size+1,0,none⟩=some i:=λh i k=>bS ((Below.heap_setCell _ _ _ _ Zq).trans (E h i));have I:∀h i k,(((j.setCell ⟨a.heap.size+1+1,0,none⟩ h).setCell ⟨a.heap.size+1,0,none⟩ i).setCell ⟨a.heap.size+1+1,0,none⟩ k).cell? ⟨a.heap.size+1+1,0,none⟩=some k:=λh i k=>bS (bv (i:=0) (F h i) k);have J:af (∀h i k,an [] a (((j.setCell ⟨a.heap.size+1+1,0,none⟩ h).setCell ⟨a.heap.size+1,0,none⟩ i).setCell ⟨a.heap.size+1+1,0,none⟩ k).drew):=λh i k=>((((bT [] K.w).b4 (p:=⟨a.heap.size+1+1,0,none⟩) Zg h).b4 (p:=⟨a.heap.size+1,0,none⟩) Zq i).b4 (p:=⟨a.heap.size+1+1,0,none⟩) Zg k).aU;have L:=aa H;have M:=aa I;clear B t C D E F H I;go_region;go_wp2;refine leaves_cons (f:=58) (args:=#[.pointer (some ⟨a.heap.size+1,0,none⟩),.pointer (some ⟨a.heap.size+1+1,0,none⟩)]) Zq Zr ?_;refine(Hf _ _ _).mono ?_;rintro N b2 b3 ⟨rfl,rfl,rfl⟩;simp only[Leaves,settle];refine⟨.tuple #[.string ⟨#[]⟩,.iface 122 (U s)],by simp[results,results33,go_sem,L.w,M.w],?_⟩
 exact⟨J.w ..,Y8 ⟨s,rfl,rfl⟩⟩
def Rb{d e}{c:Nat}{v}{b:Act}(j:c≠8)(k:c≠9)(i:bodyPostD prog Tryz.f33 d (.panic e) (b.put (some c) v) a):bodyPostD prog Tryz.f33 d (.panic e) b a:=by
 have f:results Tryz.f33 (b.put (some c) v).tmps=results Tryz.f33 b.tmps:=by
  have g:(b.put (some c) v).tmps[8]?.getD undef=b.tmps[8]?.getD undef:=by grind [Act.put]
  have h:(b.put (some c) v).tmps[9]?.getD undef=b.tmps[9]?.getD undef:=by grind [Act.put]
  simp only[results,results33];simp[g,h]
 exact UA f _ _ _ i
def Rj{b}{h:Except Mar.ay (Zb)}{p c:Nat}{f:Mar.ay}{d:Array Zv}(n:an [] a b)(e:b.heap[a.heap.size+1]? = some (.cells #[.string ⟨#[]⟩] 9))(g:b.heap[a.heap.size+1+1]? = some (.cells #[.nilIface] 55))(j:d.getD 8 undef=.pointer (some ⟨a.heap.size+1,0,none⟩))(k:d.getD 9 undef=.pointer (some ⟨a.heap.size+1+1,0,none⟩))(x:a.heap.size+1+1<c)(w:b.heap[c]? = some (.cells #[U f.no,U f.y] 179))(o:h=.error f) :
  bodyPostD prog Tryz.f33 (vv a (.ok p) h) (.panic [{ v:=.iface 143 (Zp c),recovered:=false }]) { tmps:=d,defers:=[{ target:=.fn (.func 58) #[.pointer (some ⟨a.heap.size+1,0,none⟩),.pointer (some ⟨a.heap.size+1+1,0,none⟩)],args:=#[] }] } b:=by
 have l:b.frozen? ⟨a.heap.size+1,0,none⟩=false:=by simp[World.frozen?,e]
 have m:b.frozen? ⟨a.heap.size+1+1,0,none⟩=false:=by simp[World.frozen?,g]
 refine leaves_cons (f:=58) (args:=#[.pointer (some ⟨a.heap.size+1,0,none⟩),.pointer (some ⟨a.heap.size+1+1,0,none⟩)]) Zq Zr ?_;refine(QV _ _ c _ _ [] b (bS e) (bS g) l m Zq).mono ?_;rintro u y z ⟨rfl,rfl,rfl⟩;have q:=bv (i:=0) e (.string ⟨#[]⟩);have r:(b.setCell ⟨a.heap.size+1,0,none⟩ (.string ⟨#[]⟩)).heap[a.heap.size+1+1]? = _:=(Below.heap_setCell _ _ _ _ Zq).trans g;have s:=bS ((Below.heap_setCell _ ⟨a.heap.size+1+1,0,none⟩ (.iface 143 (Zp c)) _ Zq).trans q)
 have t:=bS (bv (i:=0) r (.iface 143 (Zp c)))
 simp only[Leaves,settle,List.dropWhile_nil];rw[Array.getD_eq_getD_getElem?]at j k;refine⟨.tuple #[.string ⟨#[]⟩,.iface 143 (Zp c)],by simp[results,results33,go_sem,j,k,s,t],?_⟩
 refine⟨(n.b4 (p:=⟨a.heap.size+1,0,none⟩) Zq _).b4 (p:=⟨a.heap.size+1+1,0,none⟩) Zg _,Ya (Ya ⟨p,f,c,rfl,o,rfl,Zm,?_⟩)⟩;grind [Below.heap_setCell]
def ND{w:Zo}{S}{v:Zv}{P}(E:(c,Obj.cells #[g,v,.map (some S),.map (some b)] 109)∈w)(a0:(S,kz e)∈w)(f4:(e.map (·.1)).Nodup)(x:pP w v P)(r:∀p∈w,a.heap[p.1]? = some p.2)(F:∀f5∈P,ns f5)(a1:Zb){H}(b2:pX a d H)(h i j p d1:Nat)(b5:jk e a1 h i j=.ok p)(g6:h<=64)(f1:i<=10000)(f2:j<=100000){a7}(b4:mY (cr H h i j) P d1 ⟨p,[],[]⟩ ⟨0,[]⟩=some a7) :
  Calls prog 33 #[Zp c,Zs a1,d,.agg #[U h,U i,U j]] a (vv a (.ok p) (bg a7 λk=>if k.ag<H.length then .error ⟨12,k.ag⟩else .ok k.w)):=by
 generalize b1:(bg a7 λk=>if k.ag<H.length then Except.error ⟨12,k.ag⟩else .ok k.w)=g1
 have g7:=je;have g8:=WL;obtain⟨b9,c0,c1,rfl⟩:=x.cS;have n:Below a.heap.size a (((a.alloc (.cells #[U h,U i,U j] 72)).alloc (.cells #[.string ⟨#[]⟩] 9)).alloc (.cells #[.nilIface] 55)):=(((Below.refl ..).alloc (Y4 _) _).alloc Zq _).alloc Zx _;have N:=aa (Ly ((n.block _ (au (r _ E))).trans (r _ E)) ((n.block _ (au (r _ a0))).trans (r _ a0)) f4 a1 h i j);rw[b5]at N;have a3:(((a.alloc (.cells #[U h,U i,U j] 72)).alloc (.cells #[.string ⟨#[]⟩] 9)).alloc (.cells #[.nilIface] 55)).heap[a.heap.size]? = some (.cells #[U h,U i,U j] 72):=(Below.heap_alloc _ _ _ Zx).trans ((Below.heap_alloc _ _ _ Zq).trans (aQ rfl));have a4:(((a.alloc (.cells #[U h,U i,U j] 72)).alloc (.cells #[.string ⟨#[]⟩] 9)).alloc (.cells #[.nilIface] 55)).heap[a.heap.size+1]? = some (.cells #[.string ⟨#[]⟩] 9):=(Below.heap_alloc _ _ _ Zq).trans (aQ Zq);have a5:(((a.alloc (.cells #[U h,U i,U j] 72)).alloc (.cells #[.string ⟨#[]⟩] 9)).alloc (.cells #[.nilIface] 55)).heap[a.heap.size+1+1]? = some (.cells #[.nilIface] 55):=aQ Zq;have c5:=aa x;have t:=aa r;have c6:=aa F;have c9:=aa b4;have c4:=aa b1;have A:=aa E;have c8:=aa b2;clear a0 b5 x r F b4 b1 E b2;go_enter_defers func33,ntmps33;go_wp21;refine N.w.mono ?_;rintro k y ⟨rfl,q⟩;have g0:=aa (n.trans (q.mono n.size));have a6:=(q.block _ (au a5)).trans a5;have g2:=bS a6;have g3:∀f,y.frozen? ⟨a.heap.size+1+1,f,none⟩=false:=by simp_all[World.frozen?]
 have M:(y.setCell ⟨a.heap.size+1+1,0,none⟩ .nilIface).heap[a.heap.size]? = _:=(Below.heap_setCell _ _ _ _ Zg).trans ((q.block _ (au a3)).trans a3);have z:(y.setCell ⟨a.heap.size+1+1,0,none⟩ .nilIface).heap[a.heap.size+1]? = _:=(Below.heap_setCell _ _ _ _ Zq).trans ((q.block _ (au a4)).trans a4);have s:(y.setCell ⟨a.heap.size+1+1,0,none⟩ .nilIface).heap[a.heap.size+1+1]? = _:=bv (i:=0) a6 .nilIface;have o:=aa ((n.trans (q.mono n.size)).setCell (p:=⟨a.heap.size+1+1,0,none⟩) Zg .nilIface);clear q n a3 a4 a5 a6 N;unfold Ez;generalize f0:y.setCell ⟨a.heap.size+1+1,0,none⟩ .nilIface=O at M z s o;obtain⟨d9,e0,e1,e2,e3⟩:=Gy M;have f6:=bS z;have f7:=bS s;have e5:∀f,O.frozen? ⟨a.heap.size+1,f,none⟩=false:=by intro f;simp[World.frozen?,z]
 have e6:∀f,O.frozen? ⟨a.heap.size+1+1,f,none⟩=false:=by intro f;simp[World.frozen?,s]
 have c2:af (∀p∈w,O.drew.heap[p.1]? = some p.2):=λp b3=>(o.w.block _ (au (t.w p b3))).trans (t.w p b3);obtain⟨d4,d5,d6,d7,d8⟩:=zH ((o.w.block _ (au (t.w _ A.w))).trans (t.w _ A.w));have a8:=aa (Nx c5.w c2.w c6.w f1 f2 (c8.w.ac ((bT [] o.w).aU)) c9.w);rw[c4.w]at a8;have e8:=au (t.w _ A.w);simp only at e8;have g5:c≠a.heap.size+1:=Zm;have a9:=aa M;have B:=aa z;have C:=aa s;have b0:=aa (c2.w _ A.w);have f3:=au s;clear M z s;go_wp21;clear f0;refine cy (λK=>K.cell? (Zd c 1)=some (.slice b9 c0 c1)/\K.cell? (Zd a.heap.size 0)=some (U h)/\K.cell? (Zd a.heap.size 1)=some (U i)/\K.cell? (Zd a.heap.size 2)=some (U j)) ?_ λR=>?_
 .go_keep
 refine bI [0,1,2,3,4,5,6,7] ?_;iterate 8 (refine tkd (v:=?_) rfl Zk (λ_ _ _ e7=>Rb Ze Ze e7) Zk Zt ?_ ?_;rotate_left;focus (intro a e9;(try dsimp only at e9);go_simp;(try with_reducible rfl));(try simp only[afk,afl,List.set]))
 refine bJ ?_;refine cx 8 λu m=>?_;(go_simp;go_at_call 60;refine a8.w.mono ?_;rintro k L (⟨D,G,rfl,l⟩|⟨e4,G,l,g4,F,rfl,x⟩);rotate_left;exact Rj ((bT [] o.w).aU.u l) ((l.L _ (au B.w) Zq).trans B.w) ((l.L _ (au C.w) Zq).trans C.w) rfl rfl (Yr f3 F) x G;have I:=(l.L _ (au B.w) Zq).trans B.w;have J:=(l.L _ (au C.w) Zq).trans C.w;have b6:=(l.L _ (au a9.w) Zq).trans a9.w;have a2:=(l.L _ (au b0.w) Zq).trans b0.w;obtain⟨d9,e0,e1,e2,e3⟩:=Gy b6;obtain⟨d4,d5,d6,d7,d8⟩:=zH a2;have f6:=bS I;have f7:=bS J;have e5:∀f,L.frozen? ⟨a.heap.size+1,f,none⟩=false:=(by intro f;simp[World.frozen?,I]);have e6:∀f,L.frozen? ⟨a.heap.size+1+1,f,none⟩=false:=(by intro f;simp[World.frozen?,J]);have d2:=aa I;have d3:=aa J;have c7:=aa ((bT [] o.w).aU.u l);have d0:=aa G;have g9:∀c3,(L.setCell ⟨a.heap.size+1,0,none⟩ c3).cell? (Zd c 1)=some (.slice b9 c0 c1):=(λc3=>(zH ((Below.heap_setCell _ _ _ _ Zm).trans a2)).2.1);clear b6 I J a2 l G);refine m.out _ _ ?_ (λR=>?_)
 .go_keep
 clear m u;refine nz ?_;refine cx 9 λu m=>?_;go_simp;refine m.out _ _ ?_ (λR=>?_)
 .go_keep
 clear m u;refine nz ?_;refine cw λu m=>?_;go_simp;refine m.out _ _ ?_;clear m u;refine nz ?_;have b7:=bv (i:=0) d2.w (Zs D);have b8:(L.setCell ⟨a.heap.size+1,0,none⟩ (Zs D)).heap[a.heap.size+1+1]? = _:=(Below.heap_setCell _ _ _ _ Zq).trans d3.w;have f8:=aa (bS ((Below.heap_setCell _ ⟨a.heap.size+1+1,0,none⟩ .nilIface _ Zq).trans b7));have f9:=aa (bS (bv (i:=0) b8 .nilIface));clear b7 b8 R;go_wp2;refine leaves_cons (f:=58) (args:=#[.pointer (some ⟨a.heap.size+1,0,none⟩),.pointer (some ⟨a.heap.size+1+1,0,none⟩)]) Zq Zr ?_;refine(Hf _ _ _).mono ?_;rintro k h0 h1 ⟨rfl,rfl,rfl⟩;simp only[Leaves,settle];refine⟨.tuple #[Zs D,.nilIface],by simp[results,results33,go_sem,f8.w,f9.w],?_⟩;exact⟨(c7.w.b4 (p:=⟨a.heap.size+1,0,none⟩) Zq _).b4 (p:=⟨a.heap.size+1+1,0,none⟩) Zg _,Ya (Y8 ⟨p,D,rfl,d0.w,rfl⟩)⟩
end
end Go.Proofs.YtjdhaegijjednaaGreatDoor
namespace Go.Proofs.YtjdhaegijjednaaGreatDoor
open Go.RowKit Go.Extern.Stop Go.Stop Go.Extern
open Go.Proofs.Tryz
abbrev lY(a:Nat):Zv:=.pointer (some ⟨8,a,none⟩)
abbrev gc(c:Nat)(a:Addr)(b:Int):Zv:=.agg #[lY c,.pointer (some a),.int .u64 b]
abbrev tw(c:Nat)(a:Addr)(b:Int):Obj:=.cells #[lY c,.pointer (some a),.int .u64 b] 302
abbrev fg(a:Nat):Zv:=.iface 407 (.agg #[lY a])
def KP(b:Addr)(a:Zw):(ReflectliteValue.unpack (.iface 177 (.pointer (some b)))).run prog a=.ok (gc 177 ⟨a.heap.size,0,none⟩ 150) (a.alloc (.cells #[.pointer (some b)] 177)):=Zk
def KO (b : Addr) (a : World) : (ReflectliteValue.methodAny (ReflectliteValue.valueError "reflectlite.Value.Type" 0) (fun c _ _ _ => ReflectliteType.toType c) #[gc 177 b 150]).run Tryz.prog a = .ok (fg 177) a := by kernel_rfl
def Ef (c : Nat) (a : Value) (b : World) : (Go.method (c + 3) 407 (.agg #[a]) "Kind").run Tryz.prog b = .ok (321, a) b := by kernel_rfl
def Ed (c : Nat) (a : Value) (b : World) : (Go.method (c + 3) 407 (.agg #[a]) "Elem").run Tryz.prog b = .ok (380, .agg #[a]) b := by kernel_rfl
def Ee (c : Nat) (a : Value) (b : World) : (Go.method (c + 3) 407 (.agg #[a]) "Implements").run Tryz.prog b = .ok (381, .agg #[a]) b := by kernel_rfl
def Ec (c : Nat) (a : Value) (b : World) : (Go.method (c + 3) 407 (.agg #[a]) "AssignableTo").run Tryz.prog b = .ok (378, .agg #[a]) b := by kernel_rfl
def KK(a:Zw):((ReflectliteType.abiMethod λc=>(λb:Nat=>Value.int IntKind.u8 (b:Int)) <$> Rtype.kind c) #[lY 177]).run prog a=.ok (.int .u8 22) a:=Zk
def KJ(a:Zw):((ReflectliteType.abiMethod λc=>(λb:Nat=>Value.int IntKind.u8 (b:Int)) <$> Rtype.kind c) #[lY 143]).run prog a=.ok (.int .u8 22) a:=Zk
def KL(a:Addr)(b:Zw):(ReflectliteValue.parts (gc 177 a 150)).run prog b=.ok (some (177,a,150)) b:=Zk
def KI(b d:Addr)(a:Zw)(c:a.cell? b=some (.pointer (some d))) :
  (ReflectliteValue.method (ReflectliteValue.valueError "reflectlite.Value.IsNil" 0) ReflectliteValue.isNil #[gc 177 b 150]).run Tryz.prog a = .ok (.bool false) a := by
 change Sem.run prog (ReflectliteValue.parts (gc 177 b 150) >>= _) a=_;simp only[Sem.run_bind,KL,Result.andThen];simp[ReflectliteValue.isNil,loadVar,isAgg,underlying,underlying177,c,Result.andThen]
def KG(a:Zw):(ReflectliteType.method ReflectliteType.elem #[.agg #[lY 177]]).run prog a=.ok (fg 143) a:=Zk
def KH (a : World) : (ReflectliteType.relation "Implements" ReflectliteType.implements_ #[.agg #[lY 143], fg 55]).run Tryz.prog a = .ok (.bool true) a := by kernel_rfl
def aaE(v:Zv)(a:Zw):(ReflectliteType.typeOf #[.iface 143 v]).run prog a=.ok (fg 143) a:=Zk
def aai (a : World) : (ReflectliteType.relation "AssignableTo" ReflectliteType.assignableTo #[.agg #[lY 143], fg 143]).run Tryz.prog a = .ok (.bool true) a := by kernel_rfl
def aaG(b:Addr)(a:Zw):(ReflectliteValue.unpack (.iface 143 (.pointer (some b)))).run prog a=.ok (gc 143 ⟨a.heap.size,0,none⟩ 150) (a.alloc (.cells #[.pointer (some b)] 143)):=Zk
def aan(a:Zw):(Rtype.elem? 177).run prog a=.ok (some 143) a:=Zk
def aaw(a:Addr)(b:Zw):(ReflectliteValue.mk 143 a ReflectliteValue.flagAddr).run prog b=.ok (gc 143 a 406) b:=Zk
def aaq(b c:Addr)(a:Zw)(d:a.cell? b=some (.pointer (some c))) :
  (ReflectliteValue.method (ReflectliteValue.valueError "reflectlite.Value.Elem" 0) ReflectliteValue.elem #[gc 177 b 150]).run Tryz.prog a = .ok (gc 143 c 406) a := by
 change Sem.run prog (ReflectliteValue.parts (gc 177 b 150) >>= _) a=_;simp only[Sem.run_bind,KL,Result.andThen];simp[ReflectliteValue.elem,loadVar,isAgg,underlying,underlying177,d,Result.andThen,aan,aaw]
def aay(a:Addr)(b:Zw):(ReflectliteValue.parts (gc 143 a 406)).run prog b=.ok (some (143,a,406)) b:=Zk
def aaA(a:Addr)(b:Zw):(ReflectliteValue.parts (gc 143 a 150)).run prog b=.ok (some (143,a,150)) b:=Zk
def aal(a:Zw):(Rtype.directlyAssignable 143 143).run prog a=.ok true a:=Zk
def aaC(b c d:Addr)(f:Zv)(a:Zw)(e:a.cell? c=some (.pointer (some d)))(h:a.cell? b=some f)(g:a.frozen? b=false) :
  (ReflectliteValue.set #[gc 143 b 406,gc 143 c 150]).run prog a=.ok (.tuple #[]) (a.setCell b (.pointer (some d))):=by
 change Sem.run prog (ReflectliteValue.parts (gc 143 b 406) >>= λ_=>ReflectliteValue.parts (gc 143 c 150) >>= _) a=_;simp only[Sem.run_bind,aay,aaA,Result.andThen];simp[ReflectliteValue.flagAddr,loadVar,isAgg,underlying,underlying143,e,Result.andThen,aal,storeVar,Value.cells,storeCells,Addr.add];rw[run_store prog a b _ _ Zr];simp_all
def Eb := And.intro (@run_callFunc_extern Tryz.prog 155 _ (fun args => ReflectliteValue.unpack (args.getD 0 (.tuple #[]))) Tryz.func155 (by kernel_rfl) (by kernel_rfl) (by kernel_rfl) (by kernel_rfl)) (And.intro (@run_callFunc_extern Tryz.prog 156 _ (ReflectliteValue.methodAny (ReflectliteValue.valueError "reflectlite.Value.Type" 0) (fun a _ _ _ => ReflectliteType.toType a)) Tryz.func156 (by kernel_rfl) (by kernel_rfl) (by kernel_rfl) (by kernel_rfl)) (And.intro (@run_callFunc_extern Tryz.prog 157 _ (ReflectliteValue.method (ReflectliteValue.valueError "reflectlite.Value.IsNil" 0) ReflectliteValue.isNil) Tryz.func157 (by kernel_rfl) (by kernel_rfl) (by kernel_rfl) (by kernel_rfl)) (And.intro (@run_callFunc_extern Tryz.prog 321 _ (ReflectliteType.abiMethod fun a => do pure (.int .u8 (← Rtype.kind a))) Tryz.func321 (by kernel_rfl) (by kernel_rfl) (by kernel_rfl) (by kernel_rfl)) (And.intro (@run_callFunc_extern Tryz.prog 380 _ (ReflectliteType.method ReflectliteType.elem) Tryz.func380 (by kernel_rfl) (by kernel_rfl) (by kernel_rfl) (by kernel_rfl)) (And.intro (@run_callFunc_extern Tryz.prog 381 _ (ReflectliteType.relation "Implements" ReflectliteType.implements_) Tryz.func381 (by kernel_rfl) (by kernel_rfl) (by kernel_rfl) (by kernel_rfl)) (And.intro (@run_callFunc_extern Tryz.prog 219 _ ReflectliteType.typeOf Tryz.func219 (by kernel_rfl) (by kernel_rfl) (by kernel_rfl) (by kernel_rfl)) (And.intro (@run_callFunc_extern Tryz.prog 378 _ (ReflectliteType.relation "AssignableTo" ReflectliteType.assignableTo) Tryz.func378 (by kernel_rfl) (by kernel_rfl) (by kernel_rfl) (by kernel_rfl)) (And.intro (@run_callFunc_extern Tryz.prog 220 _ (ReflectliteValue.method (ReflectliteValue.valueError "reflectlite.Value.Elem" 0) ReflectliteValue.elem) Tryz.func220 (by kernel_rfl) (by kernel_rfl) (by kernel_rfl) (by kernel_rfl)) (@run_callFunc_extern Tryz.prog 221 _ ReflectliteValue.set Tryz.func221 (by kernel_rfl) (by kernel_rfl) (by kernel_rfl) (by kernel_rfl))))))))))
def aaI(b:Addr)(a:Zw):(ReflectliteValue.unpack (.iface 180 (.pointer (some b)))).run prog a=.ok (gc 180 ⟨a.heap.size,0,none⟩ 150) (a.alloc (.cells #[.pointer (some b)] 180)):=Zk
def aaF (b : Addr) (a : World) : (ReflectliteValue.methodAny (ReflectliteValue.valueError "reflectlite.Value.Type" 0) (fun c _ _ _ => ReflectliteType.toType c) #[gc 180 b 150]).run Tryz.prog a = .ok (fg 180) a := by kernel_rfl
def aav(a:Zw):((ReflectliteType.abiMethod λc=>(λb:Nat=>Value.int IntKind.u8 (b:Int)) <$> Rtype.kind c) #[lY 180]).run prog a=.ok (.int .u8 22) a:=Zk
def aau(a:Zw):((ReflectliteType.abiMethod λc=>(λb:Nat=>Value.int IntKind.u8 (b:Int)) <$> Rtype.kind c) #[lY 122]).run prog a=.ok (.int .u8 2) a:=Zk
def KM(a:Addr)(b:Zw):(ReflectliteValue.parts (gc 180 a 150)).run prog b=.ok (some (180,a,150)) b:=Zk
def aat(b c:Addr)(a:Zw)(d:a.cell? b=some (.pointer (some c))) :
  (ReflectliteValue.method (ReflectliteValue.valueError "reflectlite.Value.IsNil" 0) ReflectliteValue.isNil #[gc 180 b 150]).run Tryz.prog a = .ok (.bool false) a := by
 change Sem.run prog (ReflectliteValue.parts (gc 180 b 150) >>= _) a=_;simp only[Sem.run_bind,KM,Result.andThen];simp_all[ReflectliteValue.isNil,loadVar]
def aap(a:Zw):(ReflectliteType.method ReflectliteType.elem #[.agg #[lY 180]]).run prog a=.ok (fg 122) a:=Zk
def aas (a : World) : (ReflectliteType.relation "Implements" ReflectliteType.implements_ #[.agg #[lY 122], fg 55]).run Tryz.prog a = .ok (.bool true) a := by kernel_rfl
def KN(v:Zv)(a:Zw):(ReflectliteType.typeOf #[.iface 122 v]).run prog a=.ok (fg 122) a:=Zk
def aaj (a : World) : (ReflectliteType.relation "AssignableTo" ReflectliteType.assignableTo #[.agg #[lY 122], fg 122]).run Tryz.prog a = .ok (.bool true) a := by kernel_rfl
def aaH(b:Int)(a:Zw):(ReflectliteValue.unpack (.iface 122 (U b))).run prog a=.ok (gc 122 ⟨a.heap.size,0,none⟩ 130) (a.alloc (.cells #[U b] 122)):=Zk
def aao(a:Zw):(Rtype.elem? 180).run prog a=.ok (some 122) a:=Zk
def aax(a:Addr)(b:Zw):(ReflectliteValue.mk 122 a ReflectliteValue.flagAddr).run prog b=.ok (gc 122 a 386) b:=Zk
def aar(b c:Addr)(a:Zw)(d:a.cell? b=some (.pointer (some c))) :
  (ReflectliteValue.method (ReflectliteValue.valueError "reflectlite.Value.Elem" 0) ReflectliteValue.elem #[gc 180 b 150]).run Tryz.prog a = .ok (gc 122 c 386) a := by
 change Sem.run prog (ReflectliteValue.parts (gc 180 b 150) >>= _) a=_;simp only[Sem.run_bind,KM,Result.andThen];simp[ReflectliteValue.elem,loadVar,isAgg,underlying,underlying180,d,Result.andThen,aao,aax]
def aaz(a:Addr)(b:Zw):(ReflectliteValue.parts (gc 122 a 386)).run prog b=.ok (some (122,a,386)) b:=Zk
def aaB(a:Addr)(b:Zw):(ReflectliteValue.parts (gc 122 a 130)).run prog b=.ok (some (122,a,130)) b:=Zk
def aam(a:Zw):(Rtype.directlyAssignable 122 122).run prog a=.ok true a:=Zk
def aaD(b c:Addr)(d:Int)(f:Zv)(a:Zw)(e:a.cell? c=some (U d))(h:a.cell? b=some f)(g:a.frozen? b=false) :
  (ReflectliteValue.set #[gc 122 b 386,gc 122 c 130]).run prog a=.ok (.tuple #[]) (a.setCell b (U d)):=by
 change Sem.run prog (ReflectliteValue.parts (gc 122 b 386) >>= λ_=>ReflectliteValue.parts (gc 122 c 130) >>= _) a=_;simp only[Sem.run_bind,aaz,aaB,Result.andThen];simp[ReflectliteValue.flagAddr,loadVar,isAgg,underlying,underlying122,e,Result.andThen,aam,storeVar,Value.cells,storeCells,Addr.add];rw[run_store prog a b _ _ Zr];simp_all
def aak (a : World) : (ReflectliteType.relation "AssignableTo" ReflectliteType.assignableTo #[.agg #[lY 122], fg 143]).run Tryz.prog a = .ok (.bool false) a := by kernel_rfl
abbrev uj(a:Zw)(b:Addr):Zw:=(a.alloc (.cells #[.pointer (some b)] 177)).alloc (tw 177 ⟨a.heap.size,0,none⟩ 150)
def Pm(d a:Addr)(h:Zv)(b:Zw)(e:b.cell? (Zd 1 0)=some (fg 55))(f:b.cell? a=some h)(j:b.frozen? a=false) :
  Calls prog 92 #[.iface 143 (.pointer (some d)),.iface 177 (.pointer (some a))] b λi l=>i=.returned (.bool true)/\
   l=(((uj b a).alloc (tw 177 ⟨b.heap.size,0,none⟩ 150)).alloc (.cells #[.pointer (some d)] 143)).setCell a (.pointer (some d)):=by
 obtain⟨D,F,G,H,I,J,K,L,M,E⟩:=Eb;have z:=aaE;have t:=Ec;have m:=aai;have B:=aaG;have C:=KP;have A:=KO;have w:=Ef;have u:=Ed;have v:=Ee;have s:=KK;have r:=KJ;have n:=KG;have q:=KH;have x:=KI ⟨b.heap.size,0,none⟩ a (uj b a) Zq;have k:1<b.heap.size:=by
  rcases Yj 1 b.heap.size with c|c
  .exact c
  .simp[World.cell?,YO c]at e
 have p:(uj b a).cell? (Zd 1 0)=some (fg 55):=by
  rw[World.cell?_alloc_lt _ _ ⟨1,0,none⟩ Zx,World.cell?_alloc_lt _ _ ⟨1,0,none⟩ k];exact e
 have g:a.block<b.heap.size:=by
  rcases Yj a.block b.heap.size with c|c
  .exact c
  .simp[World.cell?,YO c]at f
 have o:=aaq ⟨b.heap.size,0,none⟩ a ((uj b a).alloc (tw 177 ⟨b.heap.size,0,none⟩ 150)) (by rw[World.cell?_alloc_lt _ _ ⟨b.heap.size,0,none⟩ Zx];simp);have y:=aaC a ⟨b.heap.size+1+1+1,0,none⟩ d h (((uj b a).alloc (tw 177 ⟨b.heap.size,0,none⟩ 150)).alloc (.cells #[.pointer (some d)] 143))
  (by rw[World.cell?_alloc_at _ _ _ _ Zq];rfl)
  (by rw[World.cell?_alloc_lt _ _ a Zx,World.cell?_alloc_lt _ _ a Zx,World.cell?_alloc_lt _ _ a Zx,World.cell?_alloc_lt _ _ a g];exact f)
  (by rw[World.frozen?_alloc_old _ _ a Zx,World.frozen?_alloc_old _ _ a Zx,World.frozen?_alloc_old _ _ a Zx,World.frozen?_alloc_old _ _ a (Nat.ne_of_lt g)];exact j)
 go_in;go_wp2;refine wp_loop_rounds 1 ?_;rw[rounds_succ];go_wp2;go_ret;exact⟨rfl,rfl⟩
end Go.Proofs.YtjdhaegijjednaaGreatDoor
namespace Go.Proofs.YtjdhaegijjednaaGreatDoor
open Go.RowKit Go.MapKept Go.Proofs.Tryz
def OK{a:Zw}(p:a.cell? (Zd 1 0)=some (fg 55)){b:Nat}{m f}(c:a.heap[b]? = some (.cells #[U m,U f] 179)) :
  Calls prog 52 #[.iface 143 (Zp b)] a λg r=>g=.returned (.tuple #[U m,U f])/\an [] a r:=by
 have v:1<a.heap.size:=by
  grind [World.cell?]
 have q:=au c;have j:(a.alloc (.cells #[.pointer none] 143)).cell? (Zd 1 0)=some (fg 55):=by grind [World.cell?_alloc_lt]
 have l:(a.alloc (.cells #[.pointer none] 143)).cell? (Zd a.heap.size 0)=some (.pointer none):=Zq;have h:(a.alloc (.cells #[.pointer none] 143)).frozen? ⟨a.heap.size,0,none⟩=false:=Zq;have e:=aa (Pm ⟨b,0,none⟩ ⟨a.heap.size,0,none⟩ (.pointer none) _ j l h);clear j l h p;go_in;go_wp21;refine e.w.mono ?_;rintro g n ⟨rfl,d⟩;have k:an [] a n:=by
  rw[d];exact(((((ao [] a).H _).H _).H _).H _ |>.H _).b4 (Y4 _) _
 have s:n.cell? (Zd a.heap.size 0)=some (Zp b):=by
  rw[d];refine bS (bv (i:=0) (cs:=#[.pointer none]) (T:=143) ?_ _);exact(((((ao [] (a.alloc (.cells #[.pointer none] 143))).H _).H _).H _ |>.H _).L a.heap.size Zq Zq).trans (aQ rfl)
 have o:=(k.L b q Zq).trans c;obtain⟨t,u,_⟩:=iy o;clear d e c;go_wp21;go_region;go_wp2;go_ret2;exact⟨rfl,k.aU⟩
def Oq{k:Za}{f}(B:eP k=.error f){a}(z:Gl a):Calls prog 25 #[.string k] a λd r=>an [] a r/\∃m,d=.returned (.tuple #[.pointer none,.iface 143 (Zp m)])/\r.heap[m]? = some (.cells #[U f.no,U f.y] 179):=by
 have L:=je;have n:Below a.heap.size a ((a.alloc (.cells #[.pointer none] 53)).alloc (.cells #[.nilIface] 55)):=((Below.refl _ _).alloc (Y4 _) _).alloc Zq _;have t:=aa (Gd k (z.ah n));have l:=aa B;have o:((a.alloc (.cells #[.pointer none] 53)).alloc (.cells #[.nilIface] 55)).heap[a.heap.size]? = some (.cells #[.pointer none] 53):=(Below.heap_alloc _ _ _ Zq).trans (aQ rfl);have q:((a.alloc (.cells #[.pointer none] 53)).alloc (.cells #[.nilIface] 55)).heap[a.heap.size+1]? = some (.cells #[.nilIface] 55):=aQ Zq;have s:=aa n;go_enter_defers func25,ntmps25;go_wp21;refine t.w.mono ?_;rintro d c (⟨H,N,M,G,g,_⟩|⟨u,g,e,b,K,rfl,x⟩)
 .exact absurd (l.w.symm.trans g) Zq
 have y:u=f:=by have I:=l.w.symm.trans g;simp_all
 subst y;have h:=(e.L _ (au o) Zq).trans o;have j:=(e.L _ (au q) Zq).trans q;have v:c.frozen? ⟨a.heap.size,0,none⟩=false:=by simp[World.frozen?,h]
 have w:c.frozen? ⟨a.heap.size+1,0,none⟩=false:=by simp[World.frozen?,j]
 have A:=(bT [] s.w).u e;refine leaves_cons (f:=42) (args:=#[Zp a.heap.size,.pointer (some ⟨a.heap.size+1,0,none⟩)]) Zq Zr ?_;refine(ZU _ _ b _ _ [] c (bS h) (bS j) v w Zq).mono ?_;rintro d O P ⟨rfl,rfl,rfl⟩;have C:=bv (i:=0) h (.pointer none);have D:(c.setCell ⟨a.heap.size,0,none⟩ (.pointer none)).heap[a.heap.size+1]? = _:=(Below.heap_setCell _ _ _ _ Zq).trans j;have E:=bS ((Below.heap_setCell _ ⟨a.heap.size+1,0,none⟩ (.iface 143 (Zp b)) _ Zq).trans C)
 have F:=bS (bv (i:=0) D (.iface 143 (Zp b)))
 simp only[Leaves,settle,List.dropWhile_nil];refine⟨.tuple #[.pointer none,.iface 143 (Zp b)],by simp[results,results25,go_sem,E,F],?_⟩
 refine⟨(A.b4 (p:=⟨a.heap.size,0,none⟩) Zq _).b4 (p:=⟨a.heap.size+1,0,none⟩) Zq _,b,rfl,?_⟩;have J:a.heap.size+2<=b:=Zu;exact(Below.heap_setCell _ _ _ _ Zg).trans ((Below.heap_setCell _ _ _ _ Zg).trans x)
def OL(a:Zw):Calls prog 52 #[.nilIface] a λb c=>b=.returned (.tuple #[U 0,U 0])/\c=a:=by
 go_in;go_wp2;go_ret2;simp
def DL(a:Int)(b:Zw):Calls prog 53 #[U a] b λc d=>c=.returned (U a)/\d=b:=by
 go_in;go_wp2;go_ret;simp
def Mg(d:Int)(b:Zw):Calls prog 27 #[.nilIface,U 0,U d] b λa e=>a=.returned (.bool true)/\an [] b e:=by
 have c:=aa (OL b);go_in;go_wp21;refine c.w.mono ?_;rintro a f ⟨rfl,rfl⟩;go_wp21;refine(DL 0 _).mono ?_;rintro a g ⟨rfl,rfl⟩;go_wp2;go_ret;simp_all[ao]
def Mf{b:Zw}(h:b.cell? (Zd 1 0)=some (fg 55)){e:Nat}{a d}(g:b.heap[e]? = some (.cells #[U a,U d] 179))(j:a≠0) :
  Calls prog 27 #[.iface 143 (Zp e),U a,U d] b λc i=>c=.returned (.bool true)/\an [] b i:=by
 have f:=aa (OK h g);have k:(a==0)=false:=Zu;go_in;go_wp21;refine f.w.mono ?_;rintro c m ⟨rfl,l⟩;go_wp21;refine(DL a _).mono ?_;rintro c n ⟨rfl,rfl⟩;go_wp2;go_ret;simp_all
end Go.Proofs.YtjdhaegijjednaaGreatDoor
namespace Go.Proofs.YtjdhaegijjednaaGreatDoor
open Go.RowKit Go.Extern.Stop Go.Stop Go.Extern
open Go.Proofs.Tryz
abbrev xu(a:Zw)(b:Addr):Zw:=(a.alloc (.cells #[.pointer (some b)] 180)).alloc (tw 180 ⟨a.heap.size,0,none⟩ 150)
def Pn(d:Int)(a:Addr)(h:Zv)(b:Zw)(e:b.cell? (Zd 1 0)=some (fg 55))(f:b.cell? a=some h)(j:b.frozen? a=false) :
  Calls prog 92 #[.iface 122 (U d),.iface 180 (.pointer (some a))] b λi l=>i=.returned (.bool true)/\
   l=(((xu b a).alloc (tw 180 ⟨b.heap.size,0,none⟩ 150)).alloc (.cells #[U d] 122)).setCell a (U d):=by
 obtain⟨D,F,G,H,I,J,K,L,M,E⟩:=Eb;have z:=KN;have t:=Ec;have m:=aaj;have B:=aaH;have C:=aaI;have A:=aaF;have w:=Ef;have u:=Ed;have v:=Ee;have s:=aav;have r:=aau;have n:=aap;have q:=aas;have x:=aat ⟨b.heap.size,0,none⟩ a (xu b a) Zq;have k:1<b.heap.size:=by
  rcases Yj 1 b.heap.size with c|c
  .exact c
  .simp[World.cell?,YO c]at e
 have p:(xu b a).cell? (Zd 1 0)=some (fg 55):=by
  rw[World.cell?_alloc_lt _ _ ⟨1,0,none⟩ Zx,World.cell?_alloc_lt _ _ ⟨1,0,none⟩ k];exact e
 have g:a.block<b.heap.size:=by
  rcases Yj a.block b.heap.size with c|c
  .exact c
  .simp[World.cell?,YO c]at f
 have o:=aar ⟨b.heap.size,0,none⟩ a ((xu b a).alloc (tw 180 ⟨b.heap.size,0,none⟩ 150)) (by rw[World.cell?_alloc_lt _ _ ⟨b.heap.size,0,none⟩ Zx];simp);have y:=aaD a ⟨b.heap.size+1+1+1,0,none⟩ d h (((xu b a).alloc (tw 180 ⟨b.heap.size,0,none⟩ 150)).alloc (.cells #[U d] 122))
  (by rw[World.cell?_alloc_at _ _ _ _ Zq];rfl)
  (by rw[World.cell?_alloc_lt _ _ a Zx,World.cell?_alloc_lt _ _ a Zx,World.cell?_alloc_lt _ _ a Zx,World.cell?_alloc_lt _ _ a g];exact f)
  (by rw[World.frozen?_alloc_old _ _ a Zx,World.frozen?_alloc_old _ _ a Zx,World.frozen?_alloc_old _ _ a Zx,World.frozen?_alloc_old _ _ a (Nat.ne_of_lt g)];exact j)
 go_in;go_wp2;refine wp_loop_rounds 1 ?_;rw[rounds_succ];go_wp2;go_ret;exact⟨rfl,rfl⟩
def ac6(b:Int)(a:Zw):(Instr.typeAssert (.iface 122 (U b)) 55 412 true).run prog a=.ok (.tuple #[.nilIface,.bool false]) a:=run_typeAssert_lacksB underlying412 Zk Zk _ _ a
def adb(b:Int)(a:Zw):(Instr.typeAssert (.iface 122 (U b)) 55 415 true).run prog a=.ok (.tuple #[.nilIface,.bool false]) a:=run_typeAssert_lacksB underlying415 Zk Zk _ _ a
def adc(b:Int)(a:Zw):(Instr.typeAssert (.iface 122 (U b)) 55 417 true).run prog a=.ok (.tuple #[.nilIface,.bool false]) a:=run_typeAssert_lacksB underlying417 Zk Zk _ _ a
def Po(e:Int)(c:Addr)(i:Zv)(a:Zw)(d:a.cell? (Zd 1 0)=some (fg 55))(h:a.cell? c=some i) :
  Calls prog 92 #[.iface 122 (U e),.iface 177 (.pointer (some c))] a λf j=>f=.returned (.bool false)/\an [] a j:=by
 obtain⟨C,E,F,G,H,I,J,K,L,D⟩:=Eb;have z:=KN;have r:=Ec;have k:=aak;have B:=KP;have A:=KO;have u:=Ef;have s:=Ed;have t:=Ee;have q:=KK;have p:=KJ;have l:=KG;have o:=KH;have v:=KI ⟨a.heap.size,0,none⟩ c (uj a c) Zq;have g:1<a.heap.size:=by
  rcases Yj 1 a.heap.size with b|b
  .exact b
  .simp[World.cell?,YO b]at d
 have m:(uj a c).cell? (Zd 1 0)=some (fg 55):=by
  rw[World.cell?_alloc_lt _ _ ⟨1,0,none⟩ Zx,World.cell?_alloc_lt _ _ ⟨1,0,none⟩ g];exact d
 have n:c.block<a.heap.size:=by
  rcases Yj c.block a.heap.size with b|b
  .exact b
  .simp[World.cell?,YO b]at h
 have w:=ac6;have x:=adb;have y:=adc;go_in;go_wp2;refine wp_loop_rounds 1 ?_;rw[rounds_succ];go_wp2;go_ret;exact⟨rfl,(((ao [] a).H _).H _).H _⟩
end Go.Proofs.YtjdhaegijjednaaGreatDoor
namespace Go.Proofs.YtjdhaegijjednaaGreatDoor
open Go.RowKit Go.MapKept Go.Proofs.Tryz
def OJ{b:Zw}(k:b.cell? (Zd 1 0)=some (fg 55))(d:Int) :
  Calls prog 52 #[.iface 122 (U d)] b λe t=>e=.returned (.tuple #[U d,U (-1)])/\an [] b t:=by
 have s:1<b.heap.size:=by
  grind [World.cell?]
 have l:(b.alloc (.cells #[.pointer none] 143)).cell? (Zd 1 0)=some (fg 55):=by grind [World.cell?_alloc_lt]
 have o:(b.alloc (.cells #[.pointer none] 143)).cell? (Zd b.heap.size 0)=some (.pointer none):=Zq;have g:=aa (Po d ⟨b.heap.size,0,none⟩ (.pointer none) _ l o);clear l o;go_in;go_wp21;refine g.w.mono ?_;rintro e a ⟨rfl,n⟩;have c:an [] b a:=((ao [] b).H _).u n;have r:a.cell? (Zd 1 0)=some (fg 55):=c.ba Zq k;have w:1<a.heap.size:=Yr s c.aD;clear g k n;have m:(a.alloc (.cells #[U 0] 122)).cell? (Zd 1 0)=some (fg 55):=by grind [World.cell?_alloc_lt]
 have p:(a.alloc (.cells #[U 0] 122)).cell? (Zd a.heap.size 0)=some (U 0):=Zq;have j:(a.alloc (.cells #[U 0] 122)).frozen? ⟨a.heap.size,0,none⟩=false:=Zq;have h:=aa (Pn d ⟨a.heap.size,0,none⟩ (U 0) _ m p j);clear m p j r;go_wp21;refine h.w.mono ?_;rintro e q ⟨rfl,f⟩;have v:an [] b q:=by
  rw[f];exact((((c.H _).H _).H _).H _ |>.H _).b4 c.aD _
 have u:q.cell? (Zd a.heap.size 0)=some (U d):=by
  rw[f];refine bS (bv (i:=0) (cs:=#[U 0]) (T:=122) ?_ _);exact(((((ao [] (a.alloc (.cells #[U 0] 122))).H _).H _).H _ |>.H _).L a.heap.size Zq Zq).trans (aQ rfl)
 clear f h c;go_wp21;go_ret2;simp_all
def Me{c:Zw}(d:c.cell? (Zd 1 0)=some (fg 55))(a:Int)(f:a≠0) :
  Calls prog 27 #[.iface 122 (U a),U a,U (-1)] c λb g=>b=.returned (.bool true)/\an [] c g:=by
 have e:=aa (OJ d a);have h:(a==0)=false:=Zu;clear d f;go_in;go_wp21;refine e.w.mono ?_;rintro b j ⟨rfl,i⟩;go_wp21;refine(DL a _).mono ?_;rintro b k ⟨rfl,rfl⟩;go_wp2;go_ret;simp_all
def ZX{j d}(g:eP (aI j)=.error d){c}(o:Gl c)(n:c.cell? (Zd 1 0)=some (fg 55)):Calls prog 16 #[Zs j] c λa s=>an [] c s/\a=.returned (.tuple #[.pointer none,.bool true]):=by
 have l:=aa g;have m:=aa (Oq g o);have k:=aa n;clear o g n;go_in;go_wp21;refine m.w.mono ?_;rintro a t ⟨h,v,rfl,f⟩;go_wp21;refine(FR j t).mono ?_;rintro a u ⟨b,e⟩;unfold pS at e;rw[l.w]at e;obtain⟨rfl,w⟩:=e;have x:((d.no:Int) != 0)=true:=Zu;have i:=aa (((ao [] u).H (nc (.slice none 0 0) (.slice none 0 0) (.slice none 0 0) (.string ⟨#[]⟩))));have q:=aa (Mf (rH (rH (rH k.w h) b) i.w) (((b.u i.w).L _ (au f) Zq).trans f) (by omega:(d.no:Int)≠0));have p:=aa (h.u b);unfold Ey;clear f h b m k l;go_wp21;refine q.w.mono ?_;rintro a y ⟨rfl,r⟩;go_wp2;go_ret2;exact⟨(p.w.u i.w).u r,rfl⟩
def fO(a:Int)(b:Nat):Nat:=(if a<0 then -(a+1)else a).toNat % b
def AP(a:Int)(b:Nat)(h:-9223372036854775808<=a)(i:a<=9223372036854775807)(j:0<b)(l:b<=1000000000)(d:Zw):Calls prog 18 #[U a,U b] d λe f=>e=.returned (U (fO a b))/\f=d:=by
 have k:(b:Int)≠0:=Zm;by_cases g:a<0
 .have c:af ((fO a b:Int) = -(a+1).tmod b):=by
   show _=_;rw[<-Int.neg_tmod];unfold fO;grind
  go_in;go_wp2;go_ret;exact⟨by rw[c.w];rfl,rfl⟩
 .have c:af ((fO a b:Int)=a % b):=by
   show _=_;unfold fO;grind
  go_in;go_wp2;go_ret;exact⟨by rw[c.w];rfl,rfl⟩
def yt(b:Int){a:Nat}(c:0<a):fO b a<a:=Nat.mod_lt _ c
structure el where
 F:Int
 n:Int
 s:Zb
 y:Int
 av:Int
abbrev dQ(x:el):Zl:=[U x.F,U x.n,Zs x.s,U x.y,U x.av]
structure fo where
 aG:Zc
 a0:List el
 bl:Zb
 a:Int
 b:Int
 c:Int
 bU:List Nat
 e9:List Nat
abbrev uT(a:Nat):Zv:=Zp a
def fU(a:fo)(b:Int):Zb:=if a.aG=[]then []else a.aG.getD (fO b a.aG.length) []
def acS{d v b}{a:Nat}(f:oc v b d)(h:a<b.length):∃c e,v=.slice (some ⟨c,0,none⟩) b.length e/\d.cell? (Zd c a)=some (.string ⟨(b.getD a []).toArray⟩)/\c<d.heap.size:=by
 obtain⟨c,e,k,g,_,j⟩:=mW f (i:=a) (x:=.string ⟨(b.getD a []).toArray⟩) Zg;simp_all
def vb{w:Zw}{b:Nat}{f:Zv}{s:fo}{rest:Zl}(i:w.heap[b]? = some (.cells (f::rest).toArray 35))(k:oc f s.aG w)(a:Int)(r:-9223372036854775808<=a)(t:a<=9223372036854775807)(x:s.aG.length<=1000000000) :
  Calls prog 15 #[Zp b,U a] w λp c=>p=.returned (.string ⟨(fU s a).toArray⟩)/\an [] w c:=by
 have o:w.cell? (Zd b 0)=some f:=aS i rfl;have B:=au i;by_cases q:s.aG=[]
 .have d:af (fU s a=[]):=aa (by unfold fU;simp_all);obtain⟨ad,g,rfl⟩:=bM k;have y:s.aG.length=0:=Zu;rw[y]at o;go_in;go_wp2;go_ret;exact⟨by rw[d.w];rfl,ao [] w⟩
 .have j:0<s.aG.length:=YM.2 q;have v:fO a s.aG.length<s.aG.length:=yt a j;obtain⟨h,g,rfl,C,D⟩:=acS k v;have d:af (fU s a=s.aG.getD (fO a s.aG.length) []):=aa (by unfold fU;simp_all);have n:=aa (AP a s.aG.length r t j x);have G:((s.aG.length:Int)==0)=false:=Zu;have E:(0:Int)<=↑(fO a s.aG.length):=Zm;have F:(↑(fO a s.aG.length):Int) < ↑s.aG.length:=Zm;generalize fO a s.aG.length=l at *
  generalize s.aG.getD l []=z at *
  go_in;go_wp2;refine cy (λc=>c.cell? (Zd b 0)=some (.slice (some ⟨h,0,none⟩) s.aG.length g)/\c.cell? (Zd h l)=some (Zs z)) ?_ λu=>?_
  .go_keep
  refine bI [0,1,2,3,4,5,6,7,8,9] ?_;iterate 10 (refine bK ?_)
  refine bJ ?_;refine cx 10 λm e=>?_;(go_simp;refine(n.w _).mono ?_;rintro A H ⟨rfl,rfl⟩);refine e.out _ _ ?_ (λu=>?_)
  .go_keep
  refine nz ?_;refine bI [11,12] ?_;iterate 2 (refine bK ?_)
  refine bJ ?_;refine cw λm e=>?_;go_simp;refine e.out _ _ ?_;refine nz ?_;go_wp2;go_ret;exact⟨by rw[d.w];rfl,(ao [] w).aU⟩
section
variable {e l : Zw} {d : Nat} {s : fo} {h k g f : Zv} {R : List Th}
structure dM where
 F:Int
 x:Int
 a:Int
 b:Int
 c:Int
 s:Zb
abbrev dm(d:dM):Array Zv:=#[U d.F,U d.x,U d.a,U d.b,U d.c,Zs d.s]
abbrev aex(d:Nat)(s:fo)(h k g f:Zv):Th:=.obj d (.cells #[h,k,Zs s.bl,U s.a,U s.b,U s.c,g,f] 35)
abbrev lD(v:Zv)(a:List el):Th:=.row 52 5 v a.length (a.flatMap dQ)
abbrev tG(b:TypeId)(v:Zv)(a:List Nat):Th:=.row b 1 v a.length (a.map uT)
abbrev wL(d:Nat)(s:fo)(h k g f:Zv)(R:List Th):List Th:=aex d s h k g f::cV h s.aG::lD k s.a0::tG 37 g s.bU::tG 48 f s.e9::R
def adA(A:bu (wL d s h k g f R) l e)(b:dM)(J:b.F=1)(K:s.aG.length<=100000):Calls prog 24 #[Zp d,.agg (dm b)] e λC F=>C=.returned (.bool true)/\∃E,bu (wL d { s with aG:=s.aG++[b.s] } E k g f R) l F:=by
 have n:=aa (A.H (.cells (dm b) 27));obtain⟨jv,m,rfl⟩:=bM (A.bX (i:=1) (a:=cV h s.aG) rfl);go_in;have c:=n.w.b2 (i:=1) (R:=d) rfl;have q:(e.alloc (.cells (dm b) 27)).cell? (Zd d 0)=some (.slice jv s.aG.length m):=aS c rfl;have r:=dw c;have t:=au c;have y:af (∀o,((e.alloc (.cells (dm b) 27)).alloc o).ownsRow 0 9 1 (.slice jv s.aG.length m) s.aG.length (s.aG.map λs=>Zs s)):=aa (λo=>bw (n.w.bX (i:=2) (a:=cV (.slice jv s.aG.length m) s.aG) rfl) ((ao [] (e.alloc (.cells (dm b) 27))).H o) Zq);go_wp2_with (at_builtin;(refine kl (B:=e.heap.size+1) td underlying30 (y.w _) [.string ⟨(b.s).toArray⟩] (aQ Zq) Zy Zm Zq (H:=e.heap.size+2) Zq ?_;intro v u G z x w D;have p:=aa (n.w.ho (i:=2) rfl ((ao [] (e.alloc (.cells (dm b) 27))).H _) z x w Zq);clear z x w D y q r t;have c:=p.w.b2 (i:=1) (R:=d) rfl;have q:G.cell? (Zd d 0)=some (.slice jv s.aG.length m):=aS c rfl;have r:=dw c;have t:=au c;clear c));go_wp2;go_ret;have I:=(p.w.a5 (i:=1) (j:=0) rfl (.slice (some ⟨v,0,none⟩) (s.aG.length+1) u)).bY;exact⟨rfl,.slice (some ⟨v,0,none⟩) (s.aG.length+1) u,Zu⟩
end
section
variable {w h : Zw} {d : Nat} {s : fo} {k g f e : Zv} {R : List Th}
def adz(m:bu (wL d s k g f e R) h w)(a:dM)(i:a.F≠1)(j:a.F≠2)(l:a.F≠3):Calls prog 24 #[Zp d,.agg (dm a)] w λc n=>c=.returned (.bool false)/\bu (wL d s k g f e R) h n:=by
 have b:=aa (m.H (.cells (dm a) 27));have o:(a.F==1)=false:=by simpa using i
 have p:(a.F==2)=false:=by simpa using j
 have q:(a.F==3)=false:=by simpa using l
 go_in;go_wp2;go_ret;exact⟨rfl,b.w.bY⟩
def xU(s:fo)(c:dM):fo:=if(fU s c.a).length+(fU s c.b).length > 65536 then s else { s with aG:=s.aG++[fU s c.a++fU s c.b] }
abbrev kL(d:dM):Prop:=(-9223372036854775808<=d.x/\d.x<=9223372036854775807)/\(-9223372036854775808<=d.a/\d.a<=9223372036854775807)/\(-9223372036854775808<=d.b/\d.b<=9223372036854775807)/\(-9223372036854775808<=d.c/\d.c<=9223372036854775807)
def ady(S:bu (wL d s k g f e R) h w)(c:dM)(a6:kL c)(b7:c.F=3)(b8:s.aG.length<=100000)(c1:∀o∈s.aG,o.length<=1000000000):Calls prog 24 #[Zp d,.agg (dm c)] w λa5 y=>a5=.returned (.bool true)/\∃b1,bu (wL d (xU s c) b1 g f e R) h y:=by
 have u:=aa (S.H (.cells (dm c) 27));obtain⟨jv,m,rfl⟩:=bM (S.bX (i:=1) (a:=cV k s.aG) rfl);have P:∀E,(fU s E).length<=1000000000:=λE=>by
  grind [fU]
 have b9:=P c.a;have c0:=P c.b;obtain⟨-,I,K,-⟩:=a6;have b5:(c.F==1)=false:=Zu;have b6:(c.F==2)=false:=Zu;have a1:=aa (vb (w:=w.alloc (.cells (dm c) 27)) (s:=s) (u.w.b2 (i:=1) (R:=d) rfl) (u.w.bX (i:=2) (a:=cV (.slice jv s.aG.length m) s.aG) rfl) c.a I.1 I.2 Zm);have a2:af (∀q,bu (.obj w.heap.size (.cells (dm c) 27)::wL d s (.slice jv s.aG.length m) g f e R) h q->Calls prog 15 #[Zp d,U c.b] q λx y=>x=.returned (.string ⟨(fU s c.b).toArray⟩)/\an [] q y):=aa (λq a0=>vb (s:=s) (a0.b2 (i:=1) (R:=d) rfl) (a0.bX (i:=2) (a:=cV (.slice jv s.aG.length m) s.aG) rfl) c.b K.1 K.2 Zm);have z:af (xU s c=if(fU s c.a).length+(fU s c.b).length > 65536 then s else { s with aG:=s.aG++[fU s c.a++fU s c.b] }):=aa rfl
 generalize fU s c.a=r at *
 generalize fU s c.b=t at *
 go_in;go_wp21;refine a1.w.mono ?_;rintro x b2 ⟨rfl,a9⟩;have v:=aa (u.w.ac a9);generalize w.heap.size=a4 at *
 obtain⟨c2,c3,c4,c5,c6,c7,of,c8⟩:=fs (v.w.b2 (i:=0) (R:=a4) rfl);have a3:=aa (a2.w b2 v.w);go_wp21;refine a3.w.mono ?_;rintro x n ⟨rfl,b0⟩;have p:=aa (v.w.ac b0);by_cases L:r.length+t.length > 65536
 .have a7:(65536:Int) < ↑r.length+↑t.length:=Zm;go_wp2;go_ret;rw[z.w,Y9 L];exact⟨rfl,_,p.w.bY⟩
 .have a7:¬(65536:Int) < ↑r.length+↑t.length:=Zm;have l:=p.w.b2 (i:=1) (R:=d) rfl;have B:n.cell? (Zd d 0)=some (.slice jv s.aG.length m):=aS l rfl;have C:=dw l;have D:=au l;have N:af (∀o,(n.alloc o).ownsRow 0 9 1 (.slice jv s.aG.length m) s.aG.length (s.aG.map λs=>Zs s)):=aa (λo=>bw (p.w.bX (i:=2) (a:=cV (.slice jv s.aG.length m) s.aG) rfl) ((ao [] n).H o) Zq);go_wp2_with (at_builtin;(refine kl td underlying30 (N.w _) [.string ⟨(r++t).toArray⟩] (heap_alloc_new n _) Zy Zm Zq (H:=n.heap.size+1) Zq ?_;intro G F b3 O M J a8;have A:=aa (p.w.ho (i:=2) rfl ((ao [] n).H _) O M J Zq);clear O M J a8 N B C D;have l:=A.w.b2 (i:=1) (R:=d) rfl;have B:b3.cell? (Zd d 0)=some (.slice jv s.aG.length m):=aS l rfl;have C:=dw l;have D:=au l;clear l));go_wp2;go_ret;have b4:=(A.w.a5 (i:=1) (j:=0) rfl (.slice (some ⟨G,0,none⟩) (s.aG.length+1) F)).bY;rw[z.w,Y2 L];exact⟨rfl,.slice (some ⟨G,0,none⟩) (s.aG.length+1) F,Zu⟩
end
section
variable {w j : Zw} {d : Nat} {s : fo} {g h f e : Zv} {R : List Th}
def Ih(w:Zw)(a:TypeId)(c:Za):an [] w (Lib.bytesWorld w a c):=by
 have b:=((ao [] w).aU).H (.cells (Lib.bytesCells w a c) a);refine⟨b.os,b.dq,b.dp,by rw[Lib.bytesWorld_size];omega,λe d _=>Lib.bytesWorld_at_old w a c e d⟩
def tH(a:Zb)(b c:Int):Zb:=if a=[]then []else a.set (fO b a.length) (UInt8.ofNat (c % 256).toNat)
def adB(I:bu (wL d s g h f e R) j w)(k:dM)(N:kL k)(a2:k.F=2)(b5:s.aG.length<=100000)(M:fU s k.a=[]):Calls prog 24 #[Zp d,.agg (dm k)] w λL a7=>L=.returned (.bool true)/\∃a6,bu (wL d { s with aG:=s.aG++[[]] } a6 h f e R) j a7:=by
 have n:=aa (I.H (.cells (dm k) 27));obtain⟨jv,m,rfl⟩:=bM (I.bX (i:=1) (a:=cV g s.aG) rfl);obtain⟨-,C,b1,-⟩:=N;have b0:(k.F==1)=false:=by rw[a2];rfl
 have t:=aa (vb (w:=w.alloc (.cells (dm k) 27)) (s:=s) (n.w.b2 (i:=1) (R:=d) rfl) (n.w.bX (i:=2) (a:=cV (.slice jv s.aG.length m) s.aG) rfl) k.a C.1 C.2 Zm);rw[M]at t;go_in;go_wp21;refine t.w.mono ?_;rintro a9 b ⟨rfl,a5⟩;have q:=aa (n.w.ac a5);generalize w.heap.size=K at *
 obtain⟨b6,b7,b8,b9,c0,c1,of,c2⟩:=fs (q.w.b2 (i:=0) (R:=K) rfl);have S:=Lib.run_convert_string_bytes (P:=prog) b 9 97 5 ⟨#[]⟩ (u:=.string) Zk Zk Zk;have O:=run_convert_bytes_back (Lib.bytesWorld b 5 ⟨#[]⟩) 97 9 5 ⟨b.heap.size,0,none⟩ (grownCap b 0 0 5) [] underlying97 underlying5 underlying9 (λa4 a1=>by simp at a1);have o:=aa (q.w.ac (Ih b 5 ⟨#[]⟩));generalize a0:grownCap b 0 0 5=B at *
 generalize b2:Lib.bytesWorld b 5 ⟨#[]⟩=c at *
 have b4:(convert 9 97 (.string ⟨#[]⟩)).run prog b=.ok (.slice (some ⟨b.heap.size,0,none⟩) 0 B) c:=by rw[<-a0];exact S
 have b3:(convert 97 9 (.slice (some ⟨b.heap.size,0,none⟩) 0 B)).run prog c=.ok (.string ⟨#[]⟩) c:=O;have l:=o.w.b2 (i:=1) (R:=d) rfl;have v:c.cell? ⟨d,0,none⟩=some (.slice jv s.aG.length m):=aS l rfl;have x:=dw l;have y:=au l;have F:af (∀p,(c.alloc p).ownsRow 0 9 1 (.slice jv s.aG.length m) s.aG.length (s.aG.map λs=>Zs s)):=aa (λp=>bw (o.w.bX (i:=2) (a:=cV (.slice jv s.aG.length m) s.aG) rfl) ((ao [] c).H p) Zq);go_wp2_with (at_builtin;(refine kl td underlying30 (F.w _) [.string ⟨(([]:Zb)).toArray⟩] (heap_alloc_new c _) Zy Zm Zq (H:=c.heap.size+1) Zq ?_;intro A z a8 G E D a3;have r:=aa (o.w.ho (i:=2) rfl ((ao [] c).H _) G E D Zq);clear G E D a3 F v x y;have l:=r.w.b2 (i:=1) (R:=d) rfl;have v:a8.cell? ⟨d,0,none⟩=some (.slice jv s.aG.length m):=aS l rfl;have x:=dw l;have y:=au l;clear l));go_wp2;go_ret;have J:=(r.w.a5 (i:=1) (j:=0) rfl (.slice (some ⟨A,0,none⟩) (s.aG.length+1) z)).bY;exact⟨rfl,.slice (some ⟨A,0,none⟩) (s.aG.length+1) z,by simpa using J⟩
def adC(b6:bu (wL d s g h f e R) j w)(n:dM)(c4:kL n)(c7:n.F=2)(f1:s.aG.length<=100000){k:Zb}(d2:fU s n.a=k)(a5:k≠[])(d3:k.length<=1000000000):Calls prog 24 #[Zp d,.agg (dm n)] w λa2 B=>a2=.returned (.bool true)/\∃e0,bu (wL d { s with aG:=s.aG++[tH k n.b n.c] } e0 h f e R) j B:=by
 have D:=aa (b6.H (.cells (dm n) 27));obtain⟨jv,z,rfl⟩:=bM (b6.bX (i:=1) (a:=cV g s.aG) rfl);obtain⟨-,a6,a8,e5⟩:=c4;have e3:(n.F==1)=false:=by rw[c7];rfl
 have L:=aa (vb (w:=w.alloc (.cells (dm n) 27)) (s:=s) (D.w.b2 (i:=1) (R:=d) rfl) (D.w.bX (i:=2) (a:=cV (.slice jv s.aG.length z) s.aG) rfl) n.a a6.1 a6.2 Zm);rw[d2]at L;have b5:0<k.length:=YM.2 a5;have c8:fO n.b k.length<k.length:=yt n.b b5;have c3:=aa (AP n.b k.length a8.1 a8.2 b5 d3);have b9:af (tH k n.b n.c=k.set (fO n.b k.length) (UInt8.ofNat (n.c % 256).toNat)):=aa (by unfold tH;rw[Y2 a5]);have e9:(0:Int)<=↑(fO n.b k.length):=Zm;have f0:(↑(fO n.b k.length):Int) < ↑k.length:=Zm;have e8:(0:Int) < ↑k.length:=Zm;generalize fO n.b k.length=o at *
 go_in;go_wp21;refine L.w.mono ?_;rintro a1 l ⟨rfl,d4⟩;have E:=aa (D.w.ac d4);generalize w.heap.size=A at *
 obtain⟨d5,d6,d7,b7,b8,d8,of,d9⟩:=fs (E.w.b2 (i:=0) (R:=A) rfl);have e7:(convert 9 97 (Zs k)).run prog l=.ok (.slice (some ⟨l.heap.size,0,none⟩) k.length (grownCap l k.length 0 5)) (Lib.bytesWorld l 5 ⟨k.toArray⟩):=Lib.run_convert_string_bytes (P:=prog) l 9 97 5 ⟨k.toArray⟩ (u:=.string) Zk Zk Zk;have C:=aa (Ih l 5 ⟨k.toArray⟩);have J:af (∀m,m<k.length->(Lib.bytesWorld l 5 ⟨k.toArray⟩).cell? ⟨l.heap.size,m,none⟩=some (.int .u8 (k.getD m 0).toNat)):=aa (λm t=>Lib.bytesWorld_cell l 5 ⟨k.toArray⟩ m t);have f3:=rH b7 C.w;have f4:=rH b8 C.w;have a0:=J.w o c8;have e4:(Lib.bytesWorld l 5 ⟨k.toArray⟩).frozen? ⟨l.heap.size,o,none⟩=false:=by
  have b2:=Lib.bytesWorld_at_new l 5 ⟨k.toArray⟩;have f2:o<(Lib.bytesCells l 5 ⟨k.toArray⟩).size:=by
   rcases Yj o (Lib.bytesCells l 5 ⟨k.toArray⟩).size with q|q
   .exact q
   .simp[World.cell?,b2,YO q]at a0
  simp[World.frozen?,b2];omega
 generalize grownCap l k.length 0 5=a4 at *
 generalize Lib.bytesWorld l 5 ⟨k.toArray⟩=y at *
 obtain⟨d5,d6,d7,b7,b8,d8,of,d9⟩:=fs (E.w.b2 (i:=0) (R:=A) rfl);go_wp2;refine cy (λB=>B.cell? ⟨A,3,none⟩=some (U n.b)/\B.cell? ⟨A,4,none⟩=some (U n.c)) ?_ λc5=>?_
 .go_keep
 refine bI [0,1,2,3,4,6,7,8] ?_;iterate 8 (refine bK ?_)
 refine bJ ?_;refine cx 5 λc0 I=>?_;(go_simp;refine(c3.w _).mono ?_;rintro a2 f5 ⟨rfl,rfl⟩);refine I.out _ _ ?_ (λc5=>?_)
 .go_keep
 refine nz ?_;refine pJ 9 ?_;refine cw λc0 I=>?_;go_simp;refine I.out _ _ ?_;refine nz ?_;have d1:IntKind.wrap .u8 n.c=((UInt8.ofNat (n.c % 256).toNat).toNat:Int):=by
  rw[IntKind.wrap_u8];have q:(n.c % 256).toNat<256:=Zm;simp;omega
 rw[d1];generalize UInt8.ofNat (n.c % 256).toNat=v at *
 have d0:∀m,m<k.length->((y.setCell ⟨l.heap.size,o,none⟩ (.int .u8 (v.toNat:Int))).drew).cell? ⟨l.heap.size,m,none⟩=some (.int .u8 ((k.set o v).getD m 0).toNat):=by
  intro m t;by_cases b0:m=o
  .subst b0;have q:(y.setCell ⟨l.heap.size,m,none⟩ (.int .u8 (v.toNat:Int))).cell? ⟨l.heap.size,m,none⟩=some (.int .u8 (v.toNat:Int)):=World.cell?_setCell_same _ _ _ a0;have G:(k.set m v).getD m 0=v:=by simp[t]
   rw[G];exact q
  .have b1:¬o=m:=λa1=>b0 a1.symm;have q:(y.setCell ⟨l.heap.size,o,none⟩ (.int .u8 (v.toNat:Int))).cell? ⟨l.heap.size,m,none⟩=y.cell? ⟨l.heap.size,m,none⟩:=World.cell?_setCell_other _ _ _ _ (by simp[b1]);have G:(k.set o v).getD m 0=k.getD m 0:=by simp[b1]
   rw[G];exact q.trans (J.w m t)
 have c1:an [] l (y.setCell ⟨l.heap.size,o,none⟩ (.int .u8 (v.toNat:Int))).drew:=(pm C.w ((ao [l.heap.size] y).aH (p:=⟨l.heap.size,o,none⟩) Zq _) Zq).aU;have F:=aa (E.w.ac c1);generalize (y.setCell ⟨l.heap.size,o,none⟩ (.int .u8 (v.toNat:Int))).drew=r at *
 have e6:(convert 97 9 (.slice (some ⟨l.heap.size,0,none⟩) k.length a4)).run prog r=.ok (.string ⟨(k.set o v).toArray⟩) r:=by
  have q:=run_convert_bytes_back r 97 9 5 ⟨l.heap.size,0,none⟩ a4 (k.set o v) underlying97 underlying5 underlying9 (λm t=>by
   have c6:(⟨l.heap.size,0,none⟩:Addr).add m=⟨l.heap.size,m,none⟩:=by unfold Addr.add;split<;>simp_all
   rw[c6,d0 m (by simpa using t)];simp at t;simp[t])
  rw[YF]at q;exact q
 generalize k.set o v=e2 at *
 have x:=F.w.b2 (i:=1) (R:=d) rfl;have M:r.cell? ⟨d,0,none⟩=some (.slice jv s.aG.length z):=aS x rfl;have N:=dw x;have O:=au x;have b3:af (∀k,(r.alloc k).ownsRow 0 9 1 (.slice jv s.aG.length z) s.aG.length (s.aG.map λs=>Zs s)):=aa (λk=>bw (F.w.bX (i:=2) (a:=cV (.slice jv s.aG.length z) s.aG) rfl) ((ao [] r).H k) Zq);go_wp2_with (at_builtin;(refine kl td underlying30 (b3.w _) [.string ⟨(e2).toArray⟩] (heap_alloc_new r _) Zy Zm Zq (H:=r.heap.size+1) Zq ?_;intro a3 S e1 b4 a9 a7 c9;have K:=aa (F.w.ho (i:=2) rfl ((ao [] r).H _) b4 a9 a7 Zq);clear b4 a9 a7 c9 b3 M N O;have x:=K.w.b2 (i:=1) (R:=d) rfl;have M:e1.cell? ⟨d,0,none⟩=some (.slice jv s.aG.length z):=aS x rfl;have N:=dw x;have O:=au x;clear x));go_wp2;go_ret;have c2:=(K.w.a5 (i:=1) (j:=0) rfl (.slice (some ⟨a3,0,none⟩) (s.aG.length+1) S)).bY;rw[b9.w];exact⟨rfl,.slice (some ⟨a3,0,none⟩) (s.aG.length+1) S,by simpa using c2⟩
end
section
variable {l k : Zw} {e : Nat} {d : fo} {m h g f : Zv} {R : List Th}
def oK(d:fo)(e:dM):Option fo:=
 if e.F=1 then some { d with aG:=d.aG++[e.s] }
 else if e.F=2 then some { d with aG:=d.aG++[tH (fU d e.a) e.b e.c] }
 else if e.F=3 then some (xU d e)
 else none
def vz(d:fo)(e:Nat)(h g f:Zv)(R:List Th)(k:Zw)(i:Option fo)(b:Ending)(c:Zw):Prop:=match i with
 |some j=>b=.returned (.bool true)/\∃a,bu (wL e j a h g f R) k c
 |none=>b=.returned (.bool false)/\∃a,bu (wL e d a h g f R) k c
def ado(c:∀b∈d.aG,b.length<=1000000000)(a:Int):(fU d a).length<=1000000000:=by
 grind [fU]
def adx(n:bu (wL e d m h g f R) k l)(i:dM)(r:kL i)(q:d.aG.length<=100000)(s:∀v∈d.aG,v.length<=1000000000):Calls prog 24 #[Zp e,.agg (dm i)] l (vz d e h g f R k (oK d i)):=by
 unfold oK;by_cases o:i.F=1
 .rw[Y9 o];exact adA n i o q
 .rw[Y2 o];by_cases j:i.F=2
  .rw[Y9 j];by_cases t:fU d i.a=[]
   .have:tH (fU d i.a) i.b i.c=[]:=by unfold tH;simp_all
    rw[this];exact adB n i r j q t
   .exact adC n i r j q rfl t (ado s i.a)
  .rw[Y2 j];by_cases p:i.F=3
   .rw[Y9 p];exact ady n i r p q s
   .rw[Y2 p];refine(adz n i o j p).mono ?_;rintro w x ⟨rfl,u⟩;exact⟨rfl,m,u⟩
def Xy(q:bu (wL e d m h g f R) k l)(n:dM)(o:n.F=7):Calls prog 14 #[Zp e,.agg (dm n)] l λt u=>t=.returned (.bool true)/\bu (wL e { d with a:=n.a,b:=n.b,c:=n.c } m h g f R) k u:=by
 have r:=aa q;have p:=q.b2 (i:=0) (R:=e) rfl;have v:=lx p;have w:=dw p;have x:=au p;have y:(n.F==4)=false:=by rw[o];rfl
 have z:(n.F==5)=false:=by rw[o];rfl
 have A:(n.F==6)=false:=by rw[o];rfl
 go_in;go_wp2;go_ret;have s:=((((r.w.a5 (i:=0) (j:=3) rfl (U n.a)).a5 (i:=0) (j:=4) rfl (U n.b)).a5 (i:=0) (j:=5) rfl (U n.c)).H (.cells (dm n) 27)).bY;exact⟨rfl,s⟩
def Xz(c:bu (wL e d m h g f R) k l)(a:dM)(y:a.F=8):Calls prog 14 #[Zp e,.agg (dm a)] l λo p=>o=.returned (.bool true)/\bu (wL e { d with bl:=a.s } m h g f R) k p:=by
 have n:=aa c;have b:=c.b2 (i:=0) (R:=e) rfl;have r:l.cell? (Zd e 2)=some (Zs d.bl):=aS b rfl;have s:=dw b;have t:=au b;have u:(a.F==4)=false:=Zu;have v:(a.F==5)=false:=Zu;have w:(a.F==6)=false:=Zu;have x:(a.F==7)=false:=Zu;go_in;go_wp2;go_ret;have q:=((n.w.a5 (i:=0) (j:=2) rfl (Zs a.s)).H (.cells (dm a) 27)).bY;simp_all
end
section
variable {c g : Zw} {a : Nat} {b : fo} {h f e d : Zv} {R : List Th}
def XB(m:bu (wL a b h f e d R) g c)(k:dM)(z:k.F=6):Calls prog 14 #[Zp a,.agg (dm k)] c λp q=>p=.returned (.bool true)/\bu (wL a { b with a0:=[] } h (.slice none 0 0) e d R) g q:=by
 have n:=aa m;have l:=m.b2 (i:=0) (R:=a) rfl;have s:c.cell? (Zd a 1)=some f:=aS l rfl;have t:=dw l;have u:=au l;have v:(k.F==4)=false:=Zu;have w:(k.F==5)=false:=Zu;go_in;go_wp2;go_ret;have o:=((n.w.a5 (i:=0) (j:=1) rfl (.slice none 0 0)).H (.cells (dm k) 27)).bY;have r:=o.bm (i:=2) (a':=lD (.slice none 0 0) []) rfl (ao [] _) Zq ⟨rfl,Y8 ⟨rfl,rfl⟩⟩ (λx y=>by grind [Th.bZ,Value.ownBlock]);simp_all
def XD(s:bu (wL a b h f e d R) g c)(i:dM)(p:kL i)(q:b.aG.length<=100000)(r:∀t∈b.aG,t.length<=1000000000)(A:i.F≠4)(B:i.F≠5)(C:i.F≠6)(D:i.F≠7)(E:i.F≠8):Calls prog 14 #[Zp a,.agg (dm i)] c (vz b a f e d R g (oK b i)):=by
 have o:=aa (adx ((s.H (.cells (dm i) 27)).bY) i p q r);have u:(i.F==4)=false:=Zu;have v:(i.F==5)=false:=Zu;have w:(i.F==6)=false:=Zu;have x:(i.F==7)=false:=Zu;have y:(i.F==8)=false:=Zu;go_in;go_wp21;refine o.w.mono ?_;intro z G j;unfold vz at j;cases k:oK b i with
 |some F=>
  rw[k]at j;obtain⟨rfl,n⟩:=j;have l:=aa n;have m:=aa k;go_wp2;go_ret;unfold vz;rw[m.w];exact⟨rfl,l.w⟩
 |none=>
  rw[k]at j;obtain⟨rfl,n⟩:=j;have l:=aa n;have m:=aa k;go_wp2;go_ret;unfold vz;rw[m.w];exact⟨rfl,l.w⟩
end
section
variable {w l : Zw} {e : Nat} {d : fo} {h k g f : Zv} {R : List Th}
def HX:(prog.info? 52).map (λa=>(a.zero,a.size,a.bytes))=some (some (.agg #[U 0,U 0,.string ⟨#[]⟩,U 0,U 0]),5,48):=Zk
def XA(v:bu (wL e d h k g f R) l w)(m:dM)(a7:m.F=4)(a8:d.a0.length<=100000):Calls prog 14 #[Zp e,.agg (dm m)] w λI p=>I=.returned (.bool true)/\∃N,bu (wL e { d with a0:=d.a0++[⟨m.a,m.b,m.s,0,m.c⟩] } h N g f R) l p:=by
 have t:=aa (v.H (.cells (dm m) 27));obtain⟨jv,r,rfl⟩:=bM (v.bX (i:=2) (a:=lD k d.a0) rfl);have J:(d.a0.length+1)*48<=140737488355328:=Zm;have L:∀o∈dQ ⟨m.a,m.b,m.s,0,m.c⟩,o.oneCell'=true:=by
  intro o G;simp[dQ]at G;rcases G with rfl|rfl|rfl|rfl|rfl<;>rfl
 have n:=v.b2 (i:=0) (R:=e) rfl;have a0:w.cell? (Zd e 1)=some (.slice jv d.a0.length r):=aS n rfl;have a1:=dw n;have a2:=au n;go_in;go_wp2;generalize a6:w.heap.size=q at *
 generalize w.alloc (.cells (dm m) 27)=o at *
 obtain⟨a9,b0,b1,b2,b3,b4,of,b5⟩:=fs (t.w.b2 (i:=0) (R:=q) rfl);have n:=t.w.b2 (i:=1) (R:=e) rfl;have a3:o.cell? (Zd e 1)=some (.slice jv d.a0.length r):=aS n rfl;have a4:=dw n;have a5:=au n;have M:af (o.ownsRow 0 52 5 (.slice jv d.a0.length r) d.a0.length (d.a0.flatMap dQ)):=aa (t.w.bX (i:=3) (a:=lD (.slice jv d.a0.length r) d.a0) rfl);have x:=aa (λP=>(((ao [] o).H P).aU));refine cy (λp=>p.cell? (Zd e 1)=some (.slice jv d.a0.length r)/\p.cell? (Zd q 2)=some (U m.a)/\p.cell? (Zd q 3)=some (U m.b)/\p.cell? (Zd q 4)=some (U m.c)/\p.cell? (Zd q 5)=some (Zs m.s)) ?_ λC=>?_
 .go_keep
 refine bI [0,1,2,3,4,5,6,7,8,9,10,11,12,13] ?_;iterate 14 (refine bK ?_)
 refine bJ ?_;refine cx 14 λy s=>?_;go_simp;refine s.out _ _ ?_ (λC=>?_)
 .go_keep
 refine nz ?_;refine cx 15 λy s=>?_;(refine mC (B:=o.heap.size) HX underlying31 (bw M.w (x.w _) Zq) (dQ ⟨m.a,m.b,m.s,0,m.c⟩) (aQ (w:=o) Zq) L J Zm (H:=o.heap.size+1) Zq ?_;intro A z O F E D K;have u:=aa (t.w.a9 (i:=3) rfl (x.w _) F E D Zq);obtain⟨b9,c0,c1,c2,c3,c4,c5,c6⟩:=fs (u.w.b2 (i:=0) (R:=q) rfl);have n:=u.w.b2 (i:=1) (R:=e) rfl;have b6:O.cell? (Zd e 1)=some (.slice jv d.a0.length r):=aS n rfl;have b7:=dw n;have b8:=au n;clear F E D K n);refine s.out _ _ ?_ (λC=>?_)
 .go_keep
 refine nz ?_;refine bI [16,17] ?_;iterate 2 (refine bK ?_)
 refine bJ ?_;refine cw λy s=>?_;go_simp;refine s.out _ _ ?_;refine nz ?_;go_wp2;go_ret;have S:=(u.w.a5 (i:=1) (j:=1) rfl (.slice (some ⟨A,0,none⟩) (d.a0.length+1) z)).bY;exact⟨rfl,.slice (some ⟨A,0,none⟩) (d.a0.length+1) z,Zg⟩
end
section
variable {e j : Zw} {c : Nat} {b : fo} {h d g f : Zv} {R : List Th}
def Xx(l:bu (wL c b h d g f R) j e)(k:dM)(x:k.F=5)(w:b.a0=[]):Calls prog 14 #[Zp c,.agg (dm k)] e λq s=>q=.returned (.bool true)/\bu (wL c b h d g f R) j s:=by
 have n:=aa (l.H (.cells (dm k) 27));obtain⟨jv,p,rfl⟩:=bM (l.bX (i:=2) (a:=lD d b.a0) rfl);have m:=l.b2 (i:=0) (R:=c) rfl;have o:e.cell? (Zd c 1)=some (.slice jv b.a0.length p):=aS m rfl;have r:b.a0.length=0:=Zu;rw[r]at o;have t:=dw m;have u:=au m;have v:(k.F==4)=false:=Zu;go_in;go_wp2;go_ret;exact⟨rfl,n.w.bY⟩
end
section
variable {b j : Zw} {d : Nat} {f : fo} {h i g e : Zv} {c : List Th}
theorem bu.ap(k:bu (wL d f h i g e c) j b)(a:Obj):bu (wL d f h i g e (c++[.obj b.heap.size a])) j (b.alloc a):=(k.H a).j7
def bu.iX{a:Th}(k:bu (wL d f h i g e (c++[a])) j b):bu (wL d f h i g e c) j b:=OQ (L:=wL d f h i g e c) k
def bu.ic{a k}(l:bu (wL d f h i g e (c++[.obj a k])) j b):b.heap[a]? = some k:=l.y (.obj a k) Zq
end
section
variable {e f : Zw} {v : Zv} {d : List dM}
def xc(e:Zw)(d f:Nat)(g:dM):Prop:=e.cell? (Zd d f)=some (U g.F)/\e.cell? ⟨d,f+1,none⟩=some (U g.x)/\e.cell? ⟨d,f+2,none⟩=some (U g.a)/\e.cell? ⟨d,f+3,none⟩=some (U g.b)/\e.cell? ⟨d,f+4,none⟩=some (U g.c)/\e.cell? ⟨d,f+5,none⟩=some (Zs g.s)
def pY(e:Zw)(v:Zv)(d:List dM):Prop:=∃ad a,v=.slice ad d.length a/\d.length<=a/\a<=maxLen/\∀c g,d[c]? = some g->∃b f,ad=some ⟨b,f,none⟩/\xc e b (f+c*6) g
def xc.ac{b g h}(i:xc e b g h)(j:an [] e f):xc f b g h:=by
 obtain⟨d,k,l,m,n,o⟩:=i;have a:∀c,f.cell? (Zd b c)=e.cell? (Zd b c):=λc=>World.cell?_of_block (j.L b (jy d) Zq);exact⟨(a _).trans d,(a _).trans k,(a _).trans l,(a _).trans m,(a _).trans n,(a _).trans o⟩
def pY.ac(c:pY e v d)(o:an [] e f):pY f v d:=by
 obtain⟨ad,a,g,h,i,j⟩:=c;refine⟨ad,a,g,h,i,λn q m=>?_⟩;obtain⟨b,p,k,l⟩:=j n q m;exact⟨b,p,k,l.ac o⟩
def qT(d:List dM):Nat:=(d.map (·.s.length)).sum
def ac1{a:Nat}(b:a<d.length):qT (d.take (a+1))=qT (d.take a)+d[a].s.length:=by
 unfold qT;rw[Yt b,List.map_append,List.sum_append];rfl
def ac0(d:List dM)(a:Nat):qT (d.take a)<=qT d:=by
 grind [List.take_append_drop,qT]
def Vj:∀(d:List dM),∀a∈d,a.s.length<=qT d:=by
 intro d;induction d<;>grind [qT]
def qP(d:List dM):Bool:=decide (d.length+qT d<=16384)
def ab7(q:pY e v d)(A:∀j∈d,j.s.length<=1000000000000000000):Calls prog 11 #[v] e λp f=>p=.returned (.bool (qP d))/\f=e:=by
 obtain⟨ad,F,rfl,P,I,z⟩:=q;have n:=aa z;have o:=aa A;by_cases x:d.length<=16384
 .have y:¬(16384:Int) < ↑d.length:=Zm;go_in;go_wp2;go_loopw [3,4] (λC i D=>∃a b:Nat,i=U a/\a<=d.length/\C=U b/\b<=16384/\af (b=d.length+qT (d.take a))/\D=e) (λ_ i _=>d.length-(intOf i).toNat)
  case atStart=>exact⟨0,d.length,rfl,Zm,rfl,x,Zr,rfl⟩
  case round=>
   obtain⟨a,b,rfl,L,rfl,O,m,rfl⟩:=hrel;rcases Yj a d.length with h|J
   .obtain⟨G,j,rfl,r⟩:=n.w a d[a] (Yd h);obtain⟨-,-,-,-,-,a0⟩:=r;have M:(0:Int)<=(a:Int):=Zm;have N:(a:Int)<(d.length:Int):=Zm;have H:=o.w d[a] (Yy h);have l:=aa (ac1 h);have E:=aa (ac0 d (a+1));generalize d[a]=k at *
    generalize R:k.s.length=c at *
    have S:k.s.toArray.size=c:=Zm;by_cases t:b+c<=16384
    .have u:¬(16384:Int) < ↑b+↑c:=Zm;have B:IntKind.i64.wrap ((b:Int)+(c:Int))=(b:Int)+(c:Int):=by rw[IntKind.wrap_i64];omega
     go_wp2;exact⟨⟨a+1,b+c,Zr,h,Zr,t,by show _=_;rw[l.w,m.w];omega,trivial⟩,Zz⟩
    .have u:(16384:Int) < ↑b+↑c:=Zm;have B:IntKind.i64.wrap ((b:Int)+(c:Int))=(b:Int)+(c:Int):=by rw[IntKind.wrap_i64];omega
     have g:af (qP d=false):=by
      grind [af.w,qP]
     go_wp2;go_ret;exact⟨by rw[g.w];rfl,rfl⟩
   .have w:a=d.length:=Zm;subst w;have K:¬((d.length:Int)<(d.length:Int)):=Zm;have g:af (qP d=true):=by
     grind [af.w,qP]
    go_wp2;go_ret;exact⟨by rw[g.w];rfl,rfl⟩
 .have y:(16384:Int) < ↑d.length:=Zm;have g:af (qP d=false):=by
   show _=_;grind [qP]
  go_in;go_wp2;go_ret;exact⟨by rw[g.w];rfl,rfl⟩
end
section
variable {b c : Zw} {v : Zv} {a : List dM}
abbrev Fp:Obj:=.cells #[.slice none 0 0,.slice none 0 0,.string ⟨#[]⟩,U 0,U 0,U 0,.slice none 0 0,.slice none 0 0] 35
def ad6(e:Nat->Zw->Prop)(m:pY b v a)(P:a.length<=16384)(u:e 0 (b.alloc Fp))(o:∀f g,e f g->an [] b g)(B:∀f g j,e f g->f<16384->j∈a->Calls prog 13 #[Zp b.heap.size,.agg (dm j)] g λl C=>l=.returned (.bool true)/\e (f+1) C) :
  Calls prog 12 #[v] b λt c=>t=.returned (U (-1))/\an [] b c:=by
 have q:=aa m;obtain⟨ad,H,rfl,R,K,-⟩:=m;have E:=aa u;have k:=aa o;have r:=aa B;go_in;go_wp2;go_loopw [4] (λi D=>∃d:Nat,i=U d/\d<=a.length/\af (e d D)) (λi _=>a.length-(intOf i).toNat)
 case atStart=>grind
 case round=>
  obtain⟨d,rfl,o,h⟩:=hrel;rcases Yj d a.length with p|L
  .have y:=q.w.ac (k.w d wr h.w);obtain⟨G,I,n,-,-,A⟩:=y;simp only[Value.slice.injEq,true_and]at n;obtain⟨rfl,rfl⟩:=n;obtain⟨J,j,rfl,x⟩:=A d a[d] (Yd p);have s:=aa (r.w d wr a[d] h.w Zm (Yy p));obtain⟨S,a0,a1,a2,a3,a4⟩:=x;have N:(0:Int)<=(d:Int):=Zm;have O:(d:Int)<(a.length:Int):=Zm;generalize a[d]=a6 at *
   go_wp21;refine s.w.mono ?_;rintro l a5 ⟨rfl,w⟩;have F:=aa w;go_wp2;grind [intOf]
  .have z:d=a.length:=Zm;subst z;have M:¬((a.length:Int)<(a.length:Int)):=Zm;go_wp2;go_ret;exact⟨rfl,k.w _ _ h.w⟩
end
section
variable {w e : Zw} {v : Zv} {d : List dM}
abbrev pw(d:dM):Zl:=[U d.F,U d.x,U d.a,U d.b,U d.c,Zs d.s]
abbrev EL(v:Zv)(d:List dM):Th:=.row 27 6 v d.length (d.flatMap pw)
def TL:(prog.info? 27).map (λa=>(a.zero,a.size,a.bytes))=some (some (.agg #[U 0,U 0,U 0,U 0,U 0,.string ⟨#[]⟩]),6,56):=Zk
def Xr{o n}(c:w.ownsRow o n 6 v d.length (d.flatMap pw)):pY w v d:=by
 have z:=λy a h=>sZ (f:=pw) (k:=6) (λ_=>rfl) d y a h;have q:=c;obtain⟨G,c⟩:=c;rcases c with⟨rfl,r⟩|⟨g,p,B,rfl,F,k,s,t,D,E⟩
 .have u:d=[]:=Yv.1 r;subst u;exact⟨none,0,rfl,Zq,Zq,λe m i=>by simp at i⟩
 .refine⟨some ⟨g,0,none⟩,p,rfl,s,t,λe m i=>⟨g,0,rfl,?_⟩⟩;have b:∀a,a<6->∀j,(pw m)[a]? = some j->w.cell? ⟨g,e*6+a,none⟩=some j:=λa h j x=>by
   obtain⟨C,A,l,k,_⟩:=mW q ((z e a h).trans (by rw[i];exact x));simp at l;obtain⟨rfl,_⟩:=l;exact k
  rw[Nat.zero_add];exact⟨b 0 Zm _ rfl,b 1 Zm _ rfl,b 2 Zm _ rfl,b 3 Zm _ rfl,b 4 Zm _ rfl,b 5 Zm _ rfl⟩
def xQ(b:List Int)(a:Int):Bool:=decide (a<9)||b.contains a
def ka(a:List Int)(d:List dM):List dM:=d.filter λb=>xQ a b.F
def abm(b:List Int){a:Nat}(e:a<d.length):ka b (d.take (a+1))=ka b (d.take a)++if xQ b d[a].F then [d[a]]else []:=by
 unfold ka;rw[Yt e,List.filter_append];congr 1;by_cases c:xQ b d[a].F<;>simp[c]
def Lc(a:List Int)(d:List dM):(ka a d).length<=d.length:=List.length_filter_le ..
def XR{kv}{ks:List Int}(z:pY w v d)(c5:∀g∈d,g.s.length<=1000000000000000000)(O:rl w kv ks.length 1 λi=>U (ks.getD i 0))(e8:ks.length<=1000)
  (c6:∀h S E,an [] w h->pY h S E->E.length<=16384->(∀g∈E,g∈d/\(g.F<9\/g.F∈ks)/\g.s.length<=16384)->Calls prog 12 #[S] h λy d0=>y=.returned (U (-1))/\an [] h d0) :
  Calls prog 10 #[v,kv] w λy e=>y=.returned (.bool true)/\an [] w e:=by
 have p:=aa (ab7 z c5);have a1:=aa z;have a3:=aa c6;have a0:=aa O;obtain⟨ad,d6,rfl,f2,e1,-⟩:=z;obtain⟨d5,d9,rfl,-⟩:=O;cases C:qP d with
 |false=>
  rw[C]at p;go_in;go_wp21;refine p.w.mono ?_;rintro K I ⟨rfl,rfl⟩;go_wp2;go_ret;simp_all[ao]
 |true=>
  rw[C]at p;have a2:=aa C;have b7:d.length<=16384:=by
   grind [qP]
  go_in;go_wp21;refine p.w.mono ?_;rintro K I ⟨rfl,rfl⟩;go_wp2;go_loopw [6,7] (λc8 i G=>∃(a:Nat) (jv:Option Addr) (l:Nat),i=U a/\a<=d.length/\c8=.slice jv (ka ks (d.take a)).length l/\af (bu [EL (.slice jv (ka ks (d.take a)).length l) (ka ks (d.take a))] I G)) (λ_ i _=>d.length-(intOf i).toNat)
  case atStart=>exact⟨0,none,0,rfl,Zm,rfl,(Gf I).cons (ao [] _) ⟨rfl,Y8 ⟨rfl,rfl⟩⟩ (λb1 e2=>by grind [Th.bZ,Value.ownBlock])⟩
  case round=>
   obtain⟨a,jv,l,rfl,e5,rfl,f⟩:=hrel;rcases Yj a d.length with q|e3
   .have b4:=a1.w.ac f.w.fr;obtain⟨d3,d7,o,-,-,c0⟩:=b4;simp only[Value.slice.injEq,true_and]at o;obtain⟨rfl,rfl⟩:=o;obtain⟨b1,g,rfl,b3⟩:=c0 a d[a] (Yd q);obtain⟨f3,f4,f5,f6,f7,f8⟩:=b3;have e6:(0:Int)<=(a:Int):=Zm;have e7:(a:Int)<(d.length:Int):=Zm;have j:=aa (abm ks q);have c2:af ((ka ks (d.take a)).length<=16384):=aa (Yz (Lc ..) Zg);generalize d[a]=c at *
    go_wp2;go_loopw [9,10] (λa8 D G=>∃(b:Nat) (k:Bool),D=U b/\b<=ks.length/\a8=.bool k/\af (k=(decide (c.F<9)||(ks.take b).contains c.F))/\G=wr) (λ_ D _=>ks.length-(intOf D).toNat)
    case atStart=>exact⟨0,decide (c.F<9),rfl,Zm,rfl,by show _=_;simp,rfl⟩
    case round=>
     obtain⟨b,k,rfl,e9,rfl,t,rfl⟩:=hrel;rcases Yj b ks.length with m|e4
     .have f0:(0:Int)<=(b:Int):=Zm;have f1:(b:Int)<(ks.length:Int):=Zm;cases k with
      |true=>
       have n:af (true=(decide (c.F<9)||(ks.take (b+1)).contains c.F)):=by
        show _=_;rw[Yt m,List.contains_append,<-Bool.or_assoc,<-t.w];rfl
       go_wp2;exact⟨⟨b+1,true,Zr,m,rfl,n,trivial⟩,Zz⟩
      |false=>
       obtain⟨d4,d8,A⟩:=a0.w;obtain⟨o,A⟩:=A;simp only[Value.slice.injEq,true_and]at o;obtain⟨rfl,rfl⟩:=o;obtain⟨gk,rfl,F⟩:=A b m;have F:=rH F f.w.fr;simp only[Nat.mul_one,show ks.getD b 0=ks[b] by simp[m]]at F;have n:af ((c.F==ks[b])=(decide (c.F<9)||(ks.take (b+1)).contains c.F)):=by
        show _=_;rw[Yt m,List.contains_append,<-Bool.or_assoc,<-t.w];by_cases c4:c.F=ks[b]<;>simp[c4]
       generalize ks[b]=d1 at *
       generalize e0:(c.F==d1)=a9 at *
       go_wp2;exact⟨⟨b+1,a9,Zr,m,rfl,n,trivial⟩,Zz⟩
     .have b9:b=ks.length:=Zm;subst b9;have b5:¬((ks.length:Int)<(ks.length:Int)):=Zm;have n:af (k=xQ ks c.F):=by
       show _=_;rw[t.w,YG];rfl
      rw[<-n.w]at j;cases k with
      |false=>
       simp only[Ye,if_false,YH]at j
       go_wp2;exact⟨⟨a+1,jv,l,Zr,q,by rw[j.w],by show bu ..;rw[j.w];exact f.w⟩,Zz⟩
      |true=>
       simp only[if_true]at j
       have d2:af (∀x:dM,(pw x).length=6):=aa (λ_=>rfl);have c1:∀h∈pw c,h.oneCell'=true:=by
        intro h R;simp[pw]at R;rcases R with rfl|rfl|rfl|rfl|rfl|rfl<;>rfl
       have u:af ((ka ks (d.take a)).length+1=(ka ks (d.take (a+1))).length/\(ka ks (d.take a)).flatMap pw++pw c=(ka ks (d.take (a+1))).flatMap pw):=by
        show _/\_;rw[j.w];simp
       have J:=aa (λc9=>bw (f.w.bX (i:=0) (a:=EL (.slice jv (ka ks (d.take a)).length l) (ka ks (d.take a))) rfl) ((ao [] wr).H c9) Zq);have c3:((ka ks (d.take a)).length+1)*56<=140737488355328:=by have:=c2.w;omega
       go_wp2_with (at_builtin;(refine kl (B:=wr.heap.size) TL underlying22 (J.w _) (pw c) (aQ (w:=wr) Zq) c1 c3 Zm (H:=wr.heap.size+1) Zq ?_;intro b2 b0 g0 P N M b8;have a6:=aa (f.w.a9 (i:=0) rfl ((ao [] wr).H _) P N M Zq);clear P N M b8 J));exact⟨⟨a+1,some ⟨b2,0,none⟩,b0,Zr,q,by rw[u.w.1],by show bu ..;have:=a6.w;rw[u.w.2,u.w.1]at this;exact this⟩,Zz⟩
   .have b6:a=d.length:=Zm;subst b6;have b5:¬((d.length:Int)<(d.length:Int)):=Zm;rw[YG]at f;rw[YG];have a7:=aa (a3.w wr _ (ka ks d) f.w.fr (Xr (f.w.bX (i:=0) (a:=EL (.slice jv (ka ks d).length l) (ka ks d)) rfl)) (Yz (Lc ..) b7) (λg r=>by
     unfold ka at r;rw[List.mem_filter]at r;refine⟨r.1,?_,?_⟩
     .grind [xQ]
     .have L:=a2.w;unfold qP at L;simp at L;have:=Vj d g r.1;omega))
    have a4:=aa f.w.fr;go_wp21;refine a7.w.mono ?_;rintro K f9 ⟨rfl,c7⟩;have a5:=aa (a4.w.u c7);go_wp2;go_ret;exact⟨rfl,a5.w⟩
end
section
variable {e h : Zw} {g : Nat} {d : fo} {o q m l : Zv} {R : List Th}
def WJ(d:List el):∀b∈d.flatMap dQ,b.oneCell'=true:=by
 intro b c;obtain⟨e,_,a⟩:=List.mem_flatMap.1 c;simp[dQ]at a;rcases a with rfl|rfl|rfl|rfl|rfl<;>rfl
def aeN{j rest}{b:Oper}{f:Act}{Q}{e:Zw}(t:b.guard=none)(d k:Operand)
  (v:b.op=.call { callee:=.builtin .append,args:=#[d,k],argTypes:=#[31,31] }) {l:Zv} {a:List el} (x:f.eval d=.slice none 0 0) (y:f.eval k=l) (i:e.ownsRow 0 52 5 l a.length (a.flatMap dQ)) (R:a.length<=1000000) (S:0<a.length)
  (q:∀g c,c.ownsRow 0 52 5 (.slice (some ⟨e.heap.size,0,none⟩) a.length g) a.length (a.flatMap dQ)->e.grownBy c none->wpList prog j Q rest (f.put b.dst (.slice (some ⟨e.heap.size,0,none⟩) a.length g)) c):wpList prog j Q (b::rest) f e:=by
 refine wpList_plain t λE r=>?_;obtain⟨D,u,z,A,B⟩:=info_parts HX;have C:(Value.agg #[U 0,U 0,.string ⟨#[]⟩,U 0,U 0]).cells.size=5:=Zr;rcases i.2 with⟨rfl,I⟩|⟨n,g,G,rfl,J,K,L,M,N,O⟩
 .omega
 .obtain⟨a1,c,w,h,p,_,F⟩:=run_append_own_at (P:=prog) e 0 31 b.type 52 D _ 5 48 underlying31 u z A B C Zm (.slice none 0 0) 0 [] ⟨rfl,Y8 ⟨rfl,rfl⟩⟩ ⟨n,0,none⟩ a.length g (a.flatMap dQ) i.1 (by
   grind [Addr.add,dt]) (WJ a) Zm Zm (YV _)
  rw[Nat.zero_add,YT]at h;rcases h.2 with⟨rfl,a0⟩|⟨o,m,H,rfl,_⟩
  .omega
  .have s:o=e.heap.size:=by
    grind [Value.ownBlock]
   subst s;unfold Oper.wp execOp;simp only[v,resolve,invoke,builtin,Sem.run_bind,Sem.run_pure,Result.andThen_ok,List.map_toArray,List.map_cons,List.map_nil,x,y,w];exact r _ _ (q m c h p)
def AB:el:=⟨0,0,[],0,0⟩
def zz(a:el)(b c:Int):el:={ a with n:=IntKind.i64.wrap (a.n+b),av:=IntKind.i64.wrap (a.av+c) }
def sN(d:List el)(e:dM):List el:=d.set (fO e.a d.length) (zz (d.getD (fO e.a d.length) AB) e.b e.c)
def JN{v:Zv}{c:List el}{b j:Nat}(g:e.ownsRow 0 52 5 (.slice (some ⟨b,0,none⟩) c.length j) c.length (c.flatMap dQ)){a:Nat}{d}(h:c[a]? = some d):e.cell? ⟨b,a*5+1,none⟩=some (U d.n)/\e.cell? ⟨b,a*5+4,none⟩=some (U d.av)/\(∀a,e.frozen? ⟨b,a,none⟩=false)/\b<e.heap.size:=by
 have i:=λm l=>sZ (f:=dQ) (k:=5) (λ_=>rfl) c a m l;obtain⟨q,o,x,s,u,w⟩:=mW g (i 1 Zm |>.trans (by rw[h];rfl));obtain⟨r,p,y,t,_⟩:=mW g (i 4 Zm |>.trans (by rw[h];rfl));simp_all
def bu.mr{l:List Th}{c d i j:Nat}{b:List el}{g x':el}{v}(n:bu (lD (.slice (some ⟨c,0,none⟩) b.length d) b::l) h e)(m:b[i]? = some g)(t:j<5)(s:dQ x'=(dQ g).set j v):bu (lD (.slice (some ⟨c,0,none⟩) (b.set i x').length d) (b.set i x')::l) h (e.setCell ⟨c,i*5+j,none⟩ v):=by
 have x:=(YB.1 m).1;have u:=n.bX (i:=0) (a:=lD (.slice (some ⟨c,0,none⟩) b.length d) b) rfl;have o:e.ownsRow 0 52 5 (.slice (some ⟨c,0,none⟩) b.length d) b.length (b.flatMap dQ):=u;have y:(b.flatMap dQ).length=b.length*5:=o.1;have w:=yq o (i:=i*5+j) Zm v;rw[xM (f:=dQ) (k:=5) (λ_=>rfl) b i j g x' v t m s]at w;refine n.bm (i:=0) (a':=lD (.slice (some ⟨c,0,none⟩) (b.set i x').length d) (b.set i x')) rfl ((ao [c] e).aH (p:=⟨c,i*5+j,none⟩) Zq v) (λq r=>by grind [Th.bZ,fM]) ?_ (λq r=>Y8 (by grind [Th.bZ]));show World.ownsRow ..;simp_all
def Xw(K:bu (wL g d o q m l R) h e)(f:dM)(O:kL f)(d5:f.F=5)(b7:d.a0.length<=100000)(b6:d.a0≠[]):Calls prog 14 #[Zp g,.agg (dm f)] e λN s=>N=.returned (.bool true)/\∃b8,bu (wL g { d with a0:=sN d.a0 f } o b8 m l R) h s:=by
 have C:=aa (K.H (.cells (dm f) 27));obtain⟨jv,u,rfl⟩:=bM (K.bX (i:=2) (a:=lD q d.a0) rfl);have J:0<d.a0.length:=YM.2 b6;have d9:(0:Int) < ↑d.a0.length:=Zm;have d8:fO f.a d.a0.length<d.a0.length:=yt f.a J;have b4:=aa (AP f.a d.a0.length O.2.1.1 O.2.1.2 J Zm);have a1:af (d.a0[fO f.a d.a0.length]? = some (d.a0.getD (fO f.a d.a0.length) AB)):=aa Zg;have b1:af (sN d.a0 f=d.a0.set (fO f.a d.a0.length) (zz (d.a0.getD (fO f.a d.a0.length) AB) f.b f.c)):=aa rfl;have d6:(0:Int)<=↑(fO f.a d.a0.length):=Zm;have d7:(↑(fO f.a d.a0.length):Int) < ↑d.a0.length:=Zm;generalize fO f.a d.a0.length=r at *
 generalize d.a0.getD r AB=k at *
 have b3:=aa J;have b2:=aa b7;have p:=K.b2 (i:=0) (R:=g) rfl;have c7:e.cell? (Zd g 1)=some (.slice jv d.a0.length u):=aS p rfl;have c8:=dw p;have c9:=au p;have d0:(f.F==4)=false:=Zu;go_in;go_wp2;generalize d3:e.heap.size=x at *
 generalize e.alloc (.cells (dm f) 27)=b0 at *
 obtain⟨a3,a4,a5,a6,a7,a8,of,a9⟩:=fs (C.w.b2 (i:=0) (R:=x) rfl);have p:=C.w.b2 (i:=1) (R:=g) rfl;have F:b0.cell? (Zd g 1)=some (.slice jv d.a0.length u):=aS p rfl;have G:=dw p;have H:=au p;refine cy (λs=>s.cell? (Zd g 1)=some (.slice jv d.a0.length u)/\s.cell? (Zd x 2)=some (U f.a)) ?_ λI=>?_
 .go_keep
 refine bI [0,1,2,3,4,5,6] ?_;iterate 7 (refine bK ?_)
 refine bJ ?_;refine cx 7 λB w=>?_;(go_simp;refine(b4.w _).mono ?_;rintro N e0 ⟨rfl,rfl⟩);refine w.out _ _ ?_ (λI=>?_)
 .go_keep
 refine nz ?_;refine cw λB w=>?_;go_simp;refine w.out _ _ ?_;refine nz ?_;have z:=aa C.w.aU;generalize b0.drew=A at *
 have p:=z.w.b2 (i:=1) (R:=g) rfl;have F:A.cell? (Zd g 1)=some (.slice jv d.a0.length u):=aS p rfl;have G:=dw p;have H:=au p;have a0:af (A.ownsRow 0 52 5 (.slice jv d.a0.length u) d.a0.length (d.a0.flatMap dQ)):=aa (z.w.bX (i:=3) (a:=lD (.slice jv d.a0.length u) d.a0) rfl);go_wp2_with (at_builtin;(refine aeN Zr _ _ Zr Zr Zr a0.w (by have:=b2.w;omega) b3.w ?_;intro y b9 S P;have D:=aa (z.w.cons (a:=lD (.slice (some ⟨A.heap.size,0,none⟩) d.a0.length y) d.a0) (gt P) S (λd2 d4=>by grind [Th.bZ,fM]));clear S P a0 F G H z;generalize A.heap.size=t at *));obtain⟨c2,c3,c4,c5⟩:=JN (v:=.nilIface) (D.w.bX (i:=0) (a:=lD (.slice (some ⟨t,0,none⟩) d.a0.length y) d.a0) rfl) a1.w;obtain⟨a3,a4,a5,a6,a7,a8,of,a9⟩:=fs (D.w.b2 (i:=1) (R:=x) rfl);refine cy (λs=>s.cell? ⟨t,r*5+1,none⟩=some (U k.n)/\s.cell? (Zd x 3)=some (U f.b)) ?_ λI=>?_
 .go_keep
 refine bI [0,1,2,3,4,5,6,7,8,9,10,11] ?_;iterate 12 (refine bK ?_)
 refine bJ ?_;refine cw λB w=>?_;go_simp;refine w.out _ _ ?_;refine nz ?_;have E:=aa (D.w.mr (j:=1) (x':={ k with n:=IntKind.i64.wrap (k.n+f.b) }) (v:=U (IntKind.i64.wrap (k.n+f.b))) a1.w Zm rfl).aU;generalize (b9.setCell ⟨t,r*5+1,none⟩ (U (IntKind.i64.wrap (k.n+f.b)))).drew=c0 at *
 have a2:af ((d.a0.set r { k with n:=IntKind.i64.wrap (k.n+f.b) })[r]? = some { k with n:=IntKind.i64.wrap (k.n+f.b) }):=aa (by
  simp_all)
 obtain⟨c2,c3,c4,c5⟩:=JN (v:=.nilIface) (E.w.bX (i:=0) (a:=lD (.slice (some ⟨t,0,none⟩) (d.a0.set r { k with n:=IntKind.i64.wrap (k.n+f.b) }).length y) (d.a0.set r { k with n:=IntKind.i64.wrap (k.n+f.b) })) rfl) a2.w;obtain⟨a3,a4,a5,a6,a7,a8,of,a9⟩:=fs (E.w.b2 (i:=1) (R:=x) rfl);go_wp2;refine cy (λs=>s.cell? ⟨t,r*5+4,none⟩=some (U k.av)/\s.cell? (Zd x 4)=some (U f.c)) ?_ λI=>?_
 .go_keep
 refine bI [0,1,2,3,4,5,6,7,8,9,10,11] ?_;iterate 12 (refine bK ?_)
 refine bJ ?_;refine cw λB w=>?_;go_simp;refine w.out _ _ ?_;refine nz ?_;have L:=aa (E.w.mr (j:=4) (x':=zz k f.b f.c) (v:=U (IntKind.i64.wrap (k.av+f.c))) a2.w Zm rfl).aU;generalize (c0.setCell ⟨t,r*5+4,none⟩ (U (IntKind.i64.wrap (k.av+f.c)))).drew=c1 at *
 have p:=L.w.b2 (i:=2) (R:=g) rfl;have F:c1.cell? (Zd g 1)=some (.slice jv d.a0.length u):=aS p rfl;have G:=dw p;have H:=au p;go_wp2;go_ret;have M:=L.w.a5 (i:=2) (j:=1) rfl (.slice (some ⟨t,0,none⟩) d.a0.length y);have b5:(d.a0.set r { k with n:=IntKind.i64.wrap (k.n+f.b) }).set r (zz k f.b f.c)=sN d.a0 f:=by rw[b1.w,List.set_set]
 rw[b5]at M;have d1:(sN d.a0 f).length=d.a0.length:=Zg;refine⟨rfl,.slice (some ⟨t,0,none⟩) (sN d.a0 f).length y,?_⟩;have c6:=(M.a4 3).bY;simp_all
end
section
variable {j i : Zw} {e : Nat} {d : fo} {k l h g : Zv} {f : List Th}
def nJ(d:fo)(e:dM):Option fo:=
 if e.F=4 then some { d with a0:=d.a0++[⟨e.a,e.b,e.s,0,e.c⟩] }
 else if e.F=5 then some { d with a0:=if d.a0=[]then d.a0 else sN d.a0 e }
 else if e.F=6 then some { d with a0:=[] }
 else if e.F=7 then some { d with a:=e.a,b:=e.b,c:=e.c }
 else if e.F=8 then some { d with bl:=e.s }
 else oK d e
def FD(d:fo)(e:Nat)(h g:Zv)(f:List Th)(i:Zw)(k:Option fo)(c:Ending)(j:Zw):Prop:=match k with
 |some l=>c=.returned (.bool true)/\∃a b,bu (wL e l a b h g f) i j
 |none=>c=.returned (.bool false)/\∃a b,bu (wL e d a b h g f) i j
structure tS(d:fo):Prop where
 aG:d.aG.length<=100000
 da:∀x∈d.aG,x.length<=1000000000
 a0:d.a0.length<=100000
 bU:d.bU.length<=100000
 e9:d.e9.length<=100000
def yp(c:bu (wL e d k l h g f) i j)(a:dM)(v:kL a)(u:tS d):Calls prog 14 #[Zp e,.agg (dm a)] j (FD d e h g f i (nJ d a)):=by
 unfold nJ;by_cases q:a.F=4
 .rw[Y9 q];refine(XA c a q u.a0).mono ?_;rintro m n ⟨rfl,w,b⟩;exact⟨rfl,_,_,b⟩
 rw[Y2 q];by_cases o:a.F=5
 .rw[Y9 o];by_cases p:d.a0=[]
  .rw[Y9 p];refine(Xx c a o p).mono ?_;rintro m n ⟨rfl,b⟩;exact⟨rfl,_,_,b⟩
  .rw[Y2 p];refine(Xw c a v o u.a0 p).mono ?_;rintro m n ⟨rfl,w,b⟩;exact⟨rfl,_,_,b⟩
 rw[Y2 o];by_cases r:a.F=6
 .rw[Y9 r];refine(XB c a r).mono ?_;rintro m n ⟨rfl,b⟩;exact⟨rfl,_,_,b⟩
 rw[Y2 r];by_cases s:a.F=7
 .rw[Y9 s];refine(Xy c a s).mono ?_;rintro m n ⟨rfl,b⟩;exact⟨rfl,_,_,b⟩
 rw[Y2 s];by_cases t:a.F=8
 .rw[Y9 t];refine(Xz c a t).mono ?_;rintro m n ⟨rfl,b⟩;exact⟨rfl,_,_,b⟩
 rw[Y2 t];refine(XD c a v u.aG u.da q o r s t).mono ?_;intro m n b;unfold vz at b;unfold FD;cases x:oK d a with
 |some y=>
  grind
 |none=>
  grind
end
def zq(b:fo):Prop:=∀a∈b.a0,-9223372036854775808<=a.n/\a.n<=9223372036854775807
def aeQ(a:Int):-9223372036854775808<=IntKind.i64.wrap a/\IntKind.i64.wrap a<=9223372036854775807:=by
 rw[IntKind.wrap_i64];omega
def adD{a b}{c:dM}(d:oK a c=some b):b.a0=a.a0:=by
 grind [oK,xU]
def XE{f g e}(h:kL e)(d:zq f)(b:nJ f e=some g):zq g:=by
 unfold nJ at b;split at b
 .cases b
  intro c a;rcases Yn.1 a with a|a
  .exact d c a
  simp_all
 split at b
 .cases b
  intro c a;dsimp only at a;split at a
  .simp_all
  .rcases List.mem_or_eq_of_mem_set a with a|rfl
   .exact d c a
   .exact aeQ _
 split at b
 .cases b
  intro c a;grind
 split at b
 .cases b;exact d
 split at b
 .cases b;exact d
 .intro c a;rw[adD b]at a;exact d c a
section
variable {d c : Zw} {b : Nat} {s g : fo} {h j f e : Zv} {R : List Th}
def acs(r:bu (wL b s h j f e R) c d)(a:dM)(o:kL a)(p:tS s)(q:nJ s a=some g):Calls prog 13 #[Zp b,.agg (dm a)] d λm u=>m=.returned (.bool true)/\∃k l,bu (wL b g k l f e R) c u:=by
 have i:=aa (yp (r.ap (.cells (dm a) 27)) a o p);rw[q]at i;clear r o p q;go_in;go_wp21;refine i.w.mono ?_;rintro m v ⟨rfl,k,l,n⟩;have t:=aa n;clear n i;go_wp2;go_ret;exact⟨rfl,k,l,t.w.iX⟩
def Kq{a:dM}(b:a.F=9):nJ s a=none:=by grind [nJ,oK]
def acz(G:bu (wL b s h j f e R) c d)(g:dM)(m:kL g)(t:tS s)(B:g.F=9){J}(C:eP (aI (fU s g.a))=.error J)(A:Gl c)(z:c.cell? (Zd 1 0)=some (fg 55)):Calls prog 13 #[Zp b,.agg (dm g)] d λq a0=>q=.returned (.bool true)/\∃k l,bu (wL b s k l f e R) c a0:=by
 have p:=aa (yp (G.ap (.cells (dm g) 27)) g m t);rw[Kq B]at p;have x:=aa (λ(u:Zw) k l (H:bu (wL b s k l f e (R++[.obj d.heap.size (.cells (dm g) 27)])) c u)=>vb (s:=s) (H.b2 (i:=0) (R:=b) rfl) (H.bX (i:=1) (a:=cV k s.aG) rfl) g.a m.2.1.1 m.2.1.2 (by have:=t.aG;omega));have v:=aa (λ(u:Zw) (D:an [] c u)=>ZX C (A.ac D Zq Zq Zq) (rH z D));generalize fU s g.a=tx at *
 have a5:(g.F==9)=true:=Zu;clear G m t C A z B;go_in;go_wp21;refine p.w.mono ?_;rintro q a1 ⟨rfl,k,l,r⟩;have n:=aa r;have y:=aa (x.w a1 k l r);clear r p x;obtain⟨K,L,M,N,O,P,of,S⟩:=fs n.w.ic;generalize d.heap.size=a3 at *
 go_wp21;refine y.w.mono ?_;rintro a4 a2 ⟨rfl,E⟩;have o:=aa (n.w.ac E);have w:=aa (v.w a2 o.w.fr);clear n y v E K L M N O P of S;go_wp21;refine w.w.mono ?_;rintro q a6 ⟨F,rfl⟩;have I:=aa (o.w.ac F);clear o w F;go_wp2;go_ret;exact⟨rfl,k,l,I.w.iX⟩
end
section
variable {i j : Zw} {b : Nat} {d e : fo} {g h f c : Zv} {a : List Th}
def TQ:(prog.info? 37).map (λa=>(a.zero,a.size,a.bytes))=some (some (.pointer none),1,8):=Zk
end
section
variable {d g : Zw} {c : Nat} {b k : fo} {h j e f : Zv} {R : List Th}
def Ko{a:dM}(c:a.F<=0\/10<=a.F):nJ b a=none:=by
 unfold nJ oK;grind
def acq(u:bu (wL c b h j e f R) g d)(k:dM)(w:kL k)(x:tS b)(y:k.F<=0\/10<=k.F/\k.F<=14)(H:b.bU=[]):Calls prog 13 #[Zp c,.agg (dm k)] d λs z=>s=.returned (.bool true)/\∃m o,bu (wL c b m o e f R) g z:=by
 obtain⟨jv,r,rfl⟩:=bM (u.bX (i:=3) (a:=tG 37 e b.bU) rfl);have q:=aa (yp (u.ap (.cells (dm k) 27)) k w x);rw[Ko (y.imp_right And.left)]at q;have G:(k.F==9)=false:=Zg;have F:¬(14:Int)<k.F:=Zm;have I:b.bU.length=0:=Zu;have v:af (∀n:Zw,n.cell? (Zd c 6)=some (.slice jv b.bU.length r)->n.cell? (Zd c 6)=some (.slice jv 0 r)):=aa (λn t=>by simp_all);go_in;go_wp21;refine q.w.mono ?_;rintro s A ⟨rfl,m,o,t⟩;have l:=aa t;obtain⟨J,K,L,M,N,O,of,P⟩:=fs l.w.ic;have p:=l.w.b2 (i:=0) (R:=c) rfl;have B:=v.w A (aS p rfl);have C:=dw p;have E:=au p;generalize d.heap.size=D at *
 go_wp2;go_ret;exact⟨rfl,m,o,l.w.iX⟩
def KA{f v}{a:List Nat}{c:Nat}(g:d.ownsRow 0 f 1 v a.length (a.map uT))(j:c<a.length):∃b e,v=.slice (some ⟨b,0,none⟩) a.length e/\d.cell? (Zd b c)=some (uT (a.getD c 0))/\b<d.heap.size:=by
 obtain⟨b,e,l,h,_,k⟩:=mW g (i:=c) (x:=uT (a.getD c 0)) (by simp[j]);exact⟨b,e,l,h,k⟩
end
section
variable {i j : Zw} {b : Nat} {d h : fo} {f g e c : Zv} {a : List Th}
def aey{h i:Th}(j:h∈a):h∈wL b d f g e c (a++[i]):=Y5 _ (Y5 _ (Y5 _ (Y5 _ (Y5 _ (Yf _ j)))))
end
section
structure Wp where
 rv:Zv
 nv:Zv
 pv:Zv
 ov:Zv
 d:Nat
 f:Nat
 z:Nat
 lv:Zv
structure Ws where
 b:Zb
 e:Int
 wh:Int
abbrev BH(p:Wp)(s:Ws):Obj:=.cells #[p.rv,p.nv,p.pv,p.ov,U p.d,U p.f,U p.z,p.lv,Zs s.b,U 0,U s.e,U s.wh] 203
structure gr(c:Zw)(a:Nat)(p:Wp)(s:Ws)(w:Zw):Prop where
 fr:an [] c w
 aB:c.heap.size<=a
 ap:w.heap[a]? = some (BH p s)
variable {c w w' : Zw} {a : Nat} {p : Wp} {s g : Ws}
def gr.ac(b:gr c a p s w)(d:an [] w w'):gr c a p s w':=⟨b.fr.u d,b.aB,(d.L _ (au b.ap) Zq).trans b.ap⟩
def gr.bm(b:gr c a p s w)(e:an [a] w w')(d:w'.heap[a]? = some (BH p g)):gr c a p g w':=⟨pm b.fr e (by simpa using b.aB),b.aB,d⟩
def gr.al(g:gr c a p s w):w.cell? (Zd a 0)=some p.rv/\w.cell? (Zd a 1)=some p.nv/\w.cell? (Zd a 2)=some p.pv/\w.cell? (Zd a 3)=some p.ov/\w.cell? (Zd a 4)=some (U p.d)/\w.cell? (Zd a 5)=some (U p.f)/\w.cell? (Zd a 6)=some (U p.z)/\w.cell? (Zd a 7)=some p.lv/\w.cell? (Zd a 8)=some (Zs s.b)/\w.cell? (Zd a 10)=some (U s.e)/\w.cell? (Zd a 11)=some (U s.wh)/\(∀h,w.frozen? ⟨a,h,none⟩=false)/\a<w.heap.size:=
 ⟨aS g.ap rfl,aS g.ap rfl,aS g.ap rfl,aS g.ap rfl,aS g.ap rfl,aS g.ap rfl,aS g.ap rfl,aS g.ap rfl,aS g.ap rfl,aS g.ap rfl,aS g.ap rfl,dw g.ap,au g.ap⟩
structure hq(c:Zw)(a:Nat)(p:Wp)(w1:Zw)(s:Ws)(w:Zw):Prop where
 y:gr c a p s w
 kp:an [a] w1 w
theorem og(b:gr c a p s w):hq c a p w s w:=⟨b,ao ..⟩
def hq.ac{e}(d:hq c a p e s w)(b:an [] w w'):hq c a p e s w':=⟨d.y.ac b,d.kp.u (b.ak Zq)⟩
def hq.bm{e}(d:hq c a p e s w)(b:an [a] w w')(f:w'.heap[a]? = some (BH p g)):hq c a p e g w':=⟨d.y.bm b f,d.kp.u b⟩
def yZ(c:Zw)(a:Nat)(p:Wp)(w:Zw)(g:Ws)(v:Zv)(b:Ending)(w':Zw):Prop:=b=.returned v/\hq c a p w g w'
def kD{f:Zw}{d:Nat}{args:Array Zv}{v:Zv}{Q:Ending->Zw->Prop}(e:af (hq c a p f s w))(h:gr c a p s w->Calls prog d args w (yZ c a p w g v))(i:∀w',af (hq c a p f g w')->af (an [a] w w')->Q (.returned v) w'):Calls prog d args w Q:=
 (h e.w.y).mono λ_ w' ⟨j,b⟩=>j▸i w' (aa ⟨b.y,e.w.kp.u b.kp⟩) (aa b.kp)
def qu(e a:Int)(s:Ws):Ws:=if s.e=0 then { s with e:=e,wh:=a }else s
def pM(e b:Int)(f:gr c a p s w):Calls prog 107 #[Zp a,U e,U b] w (yZ c a p w (qu e b s) (.tuple #[])):=by
 obtain⟨-,-,-,-,-,-,-,-,-,k,l,m,n⟩:=f.al;have g:=aa (og f);by_cases h:s.e=0
 .have d:af (qu e b s = { s with e:=e,wh:=b }):=Y9 h;have j:(s.e==0)=true:=Zg;go_in;go_wp2;go_end0;rw[d.w];exact⟨rfl,g.w.bm (((ao [a] w).aH (p:=⟨a,10,none⟩) Zq _).aH (p:=⟨a,11,none⟩) Zq _) (bv (i:=11) (bv (i:=10) f.ap (U e)) (U b))⟩
 .have d:af (qu e b s=s):=Y2 h;have j:(s.e==0)=false:=Zg;go_in;go_wp2;go_end0;rw[d.w];exact⟨rfl,g.w⟩
def OY(a:Int):bits .and .i64 a 255=a % 256:=by
 have key:(BitVec.ofInt 64 a &&& BitVec.ofInt 64 255).toNat=(a % ((2 ^ 64:Nat):Int)).toNat % 2 ^ 8:=by rw[BitVec.toNat_and,BitVec.toNat_ofInt,show (BitVec.ofInt 64 255).toNat=2 ^ 8-1 by rfl,Nat.and_two_pow_sub_one_eq_mod]
 show IntKind.i64.wrap ((BitVec.ofInt 64 a &&& BitVec.ofInt 64 255).toNat:Nat)=_;grind [IntKind.wrap_i64]
def Gm(a:Int):bits .and .i64 a 4294967295=a % 4294967296:=by
 have key:(BitVec.ofInt 64 a &&& BitVec.ofInt 64 4294967295).toNat=(a % ((2 ^ 64:Nat):Int)).toNat % 2 ^ 32:=by rw[BitVec.toNat_and,BitVec.toNat_ofInt,show (BitVec.ofInt 64 4294967295).toNat=2 ^ 32-1 by rfl,Nat.and_two_pow_sub_one_eq_mod]
 show IntKind.i64.wrap ((BitVec.ofInt 64 a &&& BitVec.ofInt 64 4294967295).toNat:Nat)=_;grind [IntKind.wrap_i64]
def Qq(w:Zw)(a b c d:Int):(convert 97 9 (.slice (some ⟨w.heap.size,0,none⟩) 4 4)).run prog (w.alloc (.cells #[.int .u8 a,.int .u8 b,.int .u8 c,.int .u8 d] 5))=.ok (.string ⟨#[a.toNat.toUInt8,b.toNat.toUInt8,c.toNat.toUInt8,d.toNat.toUInt8]⟩) (w.alloc (.cells #[.int .u8 a,.int .u8 b,.int .u8 c,.int .u8 d] 5)):=by
 rw[run_convert_bytes_string _ 97 9 5 _ 4 4 underlying97 underlying5 underlying9];have e:=run_loadCells_list (P:=prog) (w.alloc (.cells #[.int .u8 a,.int .u8 b,.int .u8 c,.int .u8 d] 5)) ⟨w.heap.size,0,none⟩ ([a,b,c,d].map (Value.int .u8)) (λg v f=>by
  grind [World.cell?_alloc_mark,Addr.add])
 rw[run_bytesToString _ _ 4 4 _ e];rfl
def MN(a:Nat)(h:a<4294967296)(w:Zw):Calls prog 161 #[U a] w λc w'=>c=.returned (.string ⟨(dS a).toArray⟩)/\an [] w w':=by
 have f:=OY;have g:=Qq;go_in;go_wp2;go_ret;refine⟨?_,(ao [] w).H _⟩;have d:∀b:Nat,UInt8.ofNat (b % 256)=UInt8.ofNat b:=λb=>UInt8.toNat_inj.1 Zq;have e:((a:Int) % 4294967296).toNat=a:=Zm;simp_all[dS]
def LP:Zv->Nat
 |.string a=>a.size
 |_=>0
def XI(b:Zb)(m:b.length<=1000000000000)(w:Zw):Calls prog 174 #[Zs b] w λh w'=>h=.returned (.string ⟨(kY b).toArray⟩)/\w'=w:=by
 go_in;go_wp2;go_loop [0] (λv=>∃a:Zb,v=Zs a/\a.length<=gm b.length/\a=b++List.replicate (a.length-b.length) 0) (λv=>gm b.length-LP v);case atStart=>exact⟨b,rfl,by unfold gm;omega,Zq⟩
 case round=>
  obtain⟨a,rfl,l,c⟩:=hrel;have k:=aa c;have o:b.length<=a.length:=Zg;have n:gm b.length<=1000000000003:=by unfold gm;omega
  have e:=lU a [0];have r:¬(9223372036854775807<a.length+1):=Zm;clear c;by_cases p:a.length % 4=0
  .have j:(a.length:Int) % 4=0:=Zm;have f:af (kY b=a):=by
    grind [gm,kY]
   go_wp2;go_ret;rw[f.w];simp
  .have j:((a.length:Int) % 4==0)=false:=Zg;have q:¬(a.length:Int) % 4=0:=Zm;have d:a++[0]=b++List.replicate ((a++[0]).length-b.length) 0:=by
    have:(a++[0]).length-b.length=(a.length-b.length)+1:=Zg;grind [List.replicate_succ',af.w]
   have g:=aa d;clear d;have i:(a++[0]).length<=gm b.length:=by grind [gm]
   go_wp2;refine⟨⟨a++[0],Yo Value.string e,i,g.w⟩,?_⟩;show gm b.length-LP (.string (⟨a.toArray⟩++⟨#[0]⟩))<gm b.length-a.length;rw[e];show gm b.length-(a++[0]).length<gm b.length-a.length;grind
end
section
variable {g d f : Zw} {c : Nat} {p : Wp} {a h : Ws}
def uU(f:Nat)(c:Zb)(d:Int)(a:Ws):Ws:={ (if a.e=0/\f<a.b.length+c.length then qu 14 d a else a)with b:=a.b++c }
def Sa(d c:Int)(a:Ws):(qu d c a).b=a.b:=by unfold qu;grind
def hq.l8{h}(f:hq g c p h a d)(e:Zb):hq g c p h { a with b:=e } (d.setCell ⟨c,8,none⟩ (Zs e)):=
 f.bm ((ao [c] d).aH (p:=⟨c,8,none⟩) Zq _) (bv (i:=8) f.y.ap (Zs e))
def yS(h:Zb)(k:Int)(F:h.length<=1000000000000)(D:a.b.length<=1000000000000)(I:p.z<=1000000000)(j:gr g c p a d):Calls prog 173 #[Zp c,Zs h,U k] d (yZ g c p d (uU p.z h k a) (.tuple #[])):=by
 obtain⟨-,-,-,-,-,-,A,-,n,y,-,s,t⟩:=j.al;have u:=aa (og j);clear j;have G:¬(9223372036854775807<a.b.length+h.length):=Zm;have E:=lU a.b h;have H:IntKind.i64.wrap ((a.b.length:Int)+h.length)=a.b.length+h.length:=by rw[IntKind.wrap_i64];omega
 go_in;go_upto_region 0 with fail;go_cut [26] (λv wc=>v=.bool (decide (a.e=0/\p.z<a.b.length+h.length))/\wc=d.drew);case first=>
  by_cases r:a.e=0
  .have B:(a.e==0)=true:=by simp[r]
   refine cy (λf=>f.cell? (Zd c 10)=some (U a.e)/\f.cell? (Zd c 8)=some (Zs a.b)/\f.cell? (Zd c 6)=some (U p.z)) ?_ λC=>?_
   .go_keep
   clear r;refine bI [0,1,2,3] ?_;iterate 4 (refine bK ?_)
   refine bJ ?_;refine tk (i:=4) (v:=.bool true) rfl Zk (λ_ _ _ j=>j) Zk Zt ?_ ?_
   .intro d l;(try dsimp only at l);go_simp;(try with_reducible rfl);all_goals (try omega)
   refine nz ?_;refine bI [5,6,7,8,9,10,11,12] ?_;iterate 8 (refine bK ?_)
   refine bJ ?_;refine tk (i:=13) (v:=U (a.b.length+h.length)) rfl Zk (λ_ _ _ j=>j) Zk Zt ?_ ?_
   .intro d l;(try dsimp only at l);go_simp;(try with_reducible rfl);all_goals (try omega)
   refine nz ?_;refine bI [14,15,16,17,18] ?_;iterate 5 (refine bK ?_)
   refine bJ ?_;refine tk (i:=19) (v:=.bool (decide ((p.z:Int)<(a.b.length:Int)+(h.length:Int)))) rfl Zk (λ_ _ _ j=>j) Zk Zt ?_ ?_
   .intro d l;(try dsimp only at l);go_simp;(try with_reducible rfl);all_goals (try omega)
   refine nz ?_;refine cw λc x=>?_;go_simp;refine x.out _ _ ?_;clear x c;refine nz ?_;go_wp2;go_meet;refine⟨Yo Value.bool (decide_eq_decide.2 ?_),rfl⟩;grind
  .have B:(a.e==0)=false:=by simp[r]
   go_region;go_wp2;go_meet;grind
 case rest=>
  obtain⟨rfl,rfl⟩:=hcut;have m:=aa (u.w.ac (ao [] d).aU);generalize d.drew=J at m ⊢;clear A n y s t u;by_cases o:a.e=0/\p.z<a.b.length+h.length
  .have q:af (uU p.z h k a = { qu 14 k a with b:=a.b++h }):=by show _=_;unfold uU;simp_all
   rw[decide_eq_true o];clear o;go_wp21;refine kD m (pM 14 k) λK w _=>?_;obtain⟨-,-,-,-,-,-,-,-,n,-,-,s,t⟩:=w.w.y.al;rw[Sa]at n;go_wp2;go_end0;rw[q.w];exact⟨rfl,w.w.l8 _⟩
  .have q:af (uU p.z h k a = { a with b:=a.b++h }):=by show _=_;unfold uU;grind
   rw[decide_eq_false o];clear o;obtain⟨-,-,-,-,-,-,-,-,n,-,-,s,t⟩:=m.w.y.al;go_wp2;go_end0;rw[q.w];exact⟨rfl,m.w.l8 _⟩
end
section
variable {f : Nat -> Prop} {e d : Nat} {g : Zb} {a : ai} {b : Zw} {c : PV}
def jU(b:bD)(a:Int):Bool:=if b.F=0 then decide (-2147483648<=a)&&decide (a<=2147483647)else if b.F=1 then decide (0<=a)&&decide (a<=4294967295)else if b.F=4 then (a==0||a==1)else if b.F=5 then b.aR.contains a else true
def JP{f:Type}{d:List f}{c}{e:f}(g:af (∀b∈d.take c,b≠e))(h:c<d.length)(i:d[c]≠e):af (∀b∈d.take (c+1),b≠e):=λb a=>by
 rw[Yt h,Yn]at a;rcases a with a|a
 .exact g.w b a
 simp_all
def Hz(p:bB f e g d a c b){k:Nat}(w:k<a.A.length)(S:(a.A.getD k bP).aR.length<=1000000000)(j:Int):Calls prog 172 #[jj c a,U k,U j] b λB I=>B=.returned (.bool (jU (a.A.getD k bP) j))/\an [] b I:=by
 obtain⟨C,A,F,x,l,a0,-,-,K,-,-,-,-,a1,a2,-⟩:=pE p w;have u:a.A[k]? = some (a.A.getD k bP):=Zg;have t:=aa ((p.d8 k _ F u l).1.a6);generalize a.A.getD k bP=h at *
 have P:(k:Int)<(a.A.length:Int):=Zm;unfold jj;rw[x];generalize a.A.length=G at *
 clear p x w l u;obtain⟨ad,M,l,n⟩:=t.w;rw[l]at K;have n:=aa n;clear t;go_in;go_wp2;all_goals try (go_ret;refine⟨oE ?_,(ao [] b).H _⟩;simp_all[jU]<;>omega)
 .have N:(h.F==5)=true:=‹_›;have s:af (jU h j=h.aR.contains j):=by show _=_;simp_all[jU]
  go_loopw [7] (λv H=>∃i:Nat,v=U i/\i<=h.aR.length/\af (∀J∈h.aR.take i,J≠j)/\H=b.alloc (nc (.slice (some ⟨C,0,none⟩) G A) c.nv c.pv (Zs a.w))) (λv _=>h.aR.length-(intOf v).toNat)
  case atStart=>exact⟨0,rfl,Zm,Zu,rfl⟩
  case round=>
   obtain⟨i,rfl,R,o,rfl⟩:=hrel;rcases Yj i h.aR.length with r|O
   .obtain⟨L,rfl,y⟩:=n.w i r;rw[Nat.mul_one,show h.aR.getD i 0=h.aR[i] by grind]at y;have a3:=jy y;have E:(↑i:Int) < ↑h.aR.length:=Zm;by_cases q:h.aR[i]=j
    .have D:(h.aR[i]==j)=true:=Zg;have m:af (h.aR.contains j=true):=Zg;clear q;go_wp2;go_ret;exact⟨by rw[s.w,m.w];rfl,(ao [] b).H _⟩
    .have D:(h.aR[i]==j)=false:=Zu;have z:=JP o r q;clear o q;go_wp2;exact⟨⟨i+1,Zr,r,z,trivial⟩,Zz⟩
   .have E:¬((i:Int)<(h.aR.length:Int)):=Zm;have m:af (h.aR.contains j=false):=by
     have:=o.w;grind
    go_wp2;go_ret;exact⟨by rw[s.w,m.w];rfl,(ao [] b).H _⟩
end
section
variable {e : Nat -> Prop} {c b : Nat} {f : Zb} {g : ai} {w : Zw} {d : PV}
def ol:List Int->List Int->Int->Option Int
 |a::d,c::e,b=>if a=b then some c else ol d e b
 |_,_,_=>none
def Ci{e:Int}:∀{c d:List Int} {b:Nat},af (∀f∈c.take b,f≠e)->ol c d e=ol (c.drop b) (d.drop b) e
 |_,_,0,_=>by simp
 |[],d,b+1,_=>by rfl
 |a::c,[],b+1,_=>by simp[ol]
 |a::c,i::d,b+1,g=>by
  have h:a≠e:=g.w a Zq;simp only[ol,Y2 h,List.drop_succ_cons];exact Ci λf j=>g.w f Zg
def kQ(a:bD)(c:Int):Int×Bool:=match ol a.aR a.bz c with
 |some b=>(b,true)
 |none=>(a.d0,a.d0 != -2)
def Pg{a:bD}{i:Zv×Zv}(r:dL i.1 a.aR w)(s:dL i.2 a.bz w)(u:a.bz.length=a.aR.length)(O:a.aR.length<=1000000000)(c:Int):Calls prog 234 #[.agg (im a i).toArray,U c] w λE J=>E=.returned (.tuple #[U (kQ a c).1,.bool (kQ a c).2])/\an [] w J:=by
 obtain⟨ad,C,t,k⟩:=r.a6;obtain⟨B,D,h,l⟩:=s.a6;obtain⟨P,R⟩:=i;simp only at t h;subst t h;have k:=aa k;have l:=aa l;have z:=aa u;clear r s u;unfold im;go_in;go_wp2;generalize n:w.alloc _=o;have g:af (an [] w o):=by subst n;exact(ao [] w).H _
 have x:o.heap[w.heap.size]? = some (.cells #[U a.F,U a.n,U a.of,.slice ad a.aR.length C,.slice B a.bz.length D,U a.d0,Zs a.bl,U a.y] 117):=by subst n;exact aQ rfl
 have S:=lx x;clear n x;go_loopw [6] (λv I=>∃b:Nat,v=U b/\b<=a.aR.length/\af (∀y∈a.aR.take b,y≠c)/\I=o) (λv _=>a.aR.length-(intOf v).toNat)
 case atStart=>exact⟨0,rfl,Zm,(by intro y H;simp at H),rfl⟩
 case round=>
  obtain⟨b,rfl,M,f,rfl⟩:=hrel;rcases Yj b a.aR.length with e|F
  .have m:b<a.bz.length:=by have:=z.w;omega
   obtain⟨K,rfl,q⟩:=k.w b e;obtain⟨L,rfl,p⟩:=l.w b m;rw[Nat.mul_one,show a.aR.getD b 0=a.aR[b] by simp[e]]at q;rw[Nat.mul_one,show a.bz.getD b 0=a.bz[b] by simp[m]]at p;replace q:=g.w.ba Zq q;replace p:=g.w.ba Zq p;have G:(↑b:Int) < ↑a.aR.length:=Zm;have N:(↑b:Int) < ↑a.bz.length:=Zm;by_cases d:a.aR[b]=c
   .have h:(a.aR[b]==c)=true:=by simp[d]
    have j:af (kQ a c=(a.bz[b],true)):=by
     show _=_;unfold kQ;rw[Ci f,Yk e,Yk m];simp[ol,d]
    clear d;go_wp2;go_ret2;rw[j.w];exact⟨rfl,g.w⟩
   .have h:(a.aR[b]==c)=false:=by simpa using d
    have A:=JP f e d;clear f d;go_wp2;exact⟨⟨b+1,Zj,e,A,trivial⟩,Zz⟩
  .have G:¬((b:Int)<(a.aR.length:Int)):=Zm;have j:af (kQ a c=(a.d0,a.d0 != -2)):=by
    show _=_;unfold kQ;rw[Ci f,List.drop_of_length_le F];rfl
   go_wp2;go_region;go_wp2;go_ret2;rw[j.w];exact⟨rfl,g.w.aU⟩
end
section
variable {c:Int}{p:Wp}{a:Except Mar.ay ch}
variable {s : Nat -> Prop} {r q : Nat} {u : Zb} {d : ai} {b j g : Zw} {l : PV} {h : Nat} {t : Ws} {v : List el} {m : Zv} {o f i : Nat}
abbrev eb(l:PV)(d:ai)(m:Zv)(o f i:Nat):Wp:=⟨l.rv,l.nv,l.pv,Zs d.w,o,f,i,m⟩
def bL:el:=⟨0,0,[],0,0⟩
def ts{a:Nat}(h:b.ownsRow 0 52 5 m v.length (v.flatMap dQ))(p:a<v.length):∃d e,m=.slice (some ⟨d,0,none⟩) v.length e/\b.cell? ⟨d,a*5,none⟩=some (U (v.getD a bL).F)/\b.cell? ⟨d,a*5+1,none⟩=some (U (v.getD a bL).n)/\b.cell? ⟨d,a*5+2,none⟩=some (.string ⟨(v.getD a bL).s.toArray⟩)/\b.cell? ⟨d,a*5+3,none⟩=some (U (v.getD a bL).y)/\b.cell? ⟨d,a*5+4,none⟩=some (U (v.getD a bL).av):=by
 have l:v[a]? = some (v.getD a bL):=Zg;have j:=λg i (c:Zv) (o:(dQ (v.getD a bL))[g]? = some c)=>mW h (x:=c) ((sZ (f:=dQ) (k:=5) (λ_=>rfl) v a g i).trans Zu);obtain⟨d,e,q,n,-⟩:=j 0 Zm _ rfl;simp_all
def BI(a:Int)(b:Zw):Calls prog 161 #[U (a % 4294967296)] b λd e=>d=.returned (.string ⟨(dS a).toArray⟩)/\an [] b e:=by
 have c:=MN (a % 4294967296).toNat Zm b;rw[show (((a % 4294967296).toNat:Nat):Int)=a % 4294967296 by omega,show dS (a % 4294967296)=dS a by grind [dS,Int.emod_emod]]at c;exact c
def MM{a:Int}(e:0<=a)(f:a<4294967296)(b:Zw):Calls prog 161 #[U a] b λd g=>d=.returned (.string ⟨(dS a).toArray⟩)/\an [] b g:=by
 have c:=BI a b;rw[Int.emod_eq_of_lt e f]at c;exact c
def Mw(n:t.e≠0)(a g p:Int)(c:gr j h (eb l d m o f i) t b):Calls prog 106 #[Zp h,U a,U g,U p] b (yZ j h (eb l d m o f i) b t (U g)):=by
 obtain⟨-,-,-,-,-,-,-,-,-,q,-,-,s⟩:=c.al;have r:(t.e != 0)=true:=Zu;have k:=aa (og c);clear c n;go_in;go_wp2;go_ret;exact⟨rfl,k.w⟩
def rm(j:Zw)(h:Nat)(p:Wp)(b:Zw)(a:Except Mar.ay ch)(c:Int)(g:Zw):Prop:=match a with
 |.ok d=>c=d.ag/\hq j h p b ⟨d.w,0,0⟩ g/\d.ag<=p.f/\d.w.length<=p.z
 |.error e=>∃i,hq j h p b ⟨i,e.no,e.y⟩ g/\(e.no:Int)≠0
def kh(j:Zw)(h:Nat)(p:Wp)(b:Zw)(a:Except Mar.ay ch)(d:Ending)(e:Zw):Prop:=∃c,d=.returned (U c)/\rm j h p b a c e
theorem rm.c3{i}(d:rm j h p b a c g)(f:an [h] i b):rm j h p i a c g:=by
 cases a with
 |ok m=>exact⟨d.1,⟨d.2.1.y,f.u d.2.1.kp⟩,d.2.2⟩
 |error n=>obtain⟨k,e,l⟩:=d;exact⟨k,⟨e.y,f.u e.kp⟩,l⟩
def rm.kp(d:rm j h p b a c g):an [h] b g:=by
 cases a with
 |ok i=>exact d.2.1.kp
 |error k=>obtain⟨f,e,l⟩:=d;exact e.kp
def hS(i b:Nat)(a c:Zb):Except Mar.ay ch:=if i<a.length+c.length then .error ⟨14,b⟩else .ok ⟨b+1,a++c⟩
def xZ{d:Nat}{e i:Zb}(a:hq j h p b (uU p.z i d ⟨e,0,0⟩) g)(m:d<p.f)(l:c=d+1):rm j h p b (hS p.z d e i) c g:=by
 subst l;unfold hS uU qu at *
 by_cases k:p.z<e.length+i.length
 .simp only[k,and_true,if_true]at a ⊢
  exact⟨_,a,Zq⟩
 .simp only[k,and_false,if_false]at a ⊢
  exact⟨rfl,a,m,Zu⟩
def wm(a:bD)(b:el)(i c:Nat)(d:Zb):Except Mar.ay ch:=if b.F=1/\jU a b.n=true then hS i c d ((if a.F=2\/a.F=3 then dS (b.n / 4294967296)else [])++dS b.n)else .error ⟨12,c⟩
def wI(a:bD)(b:el)(i c:Nat)(d:Zb):Except Mar.ay ch:=if b.F=2/\(b.s.length:Int)<=a.n/\(a.F=6->(b.s.length:Int)=a.n)then hS i c d ((if a.F=6 then []else dS b.s.length)++kY b.s)else .error ⟨12,c⟩
def ad9(t:bB s r u q d l j)(z:j.ownsRow 0 52 5 m v.length (v.flatMap dQ)){e c:Nat}(M:e<d.A.length)(N:(d.A.getD e bP).F≠14)(b6:f<=1000000000)(A:f<=c\/v.length<=c)(K:Nat){H:Zb}(k:gr j h (eb l d m o f i) ⟨H,0,0⟩ b) :
  Calls prog 106 #[Zp h,U e,U c,U K] b (kh j h (eb l d m o f i) b (.error ⟨if f<=c then 15 else 12,c⟩)):=by
 obtain⟨I,a2,a5,a6,a7,a8,a9,J,b0,a3,a4,b2,b3⟩:=k.al;obtain⟨b4,b1,F,O,C,c3,c4,c5,c6,c7,c8,c9,d0,d1,d2,d3⟩:=pE (t.ah k.fr) M;have x:d.A[e]? = some (d.A.getD e bP):=Zg;obtain⟨D,E⟩:=t.d8 e _ F x C;obtain⟨S,a0,g⟩:=bM D;obtain⟨P,R,y⟩:=bM E;obtain⟨c1,c2⟩:=F;simp only at g y;subst g y;skip;have b7:(e:Int)<(d.A.length:Int):=Zm;have G:=aa (og k);simp only[O]at I;generalize d.A.getD e bP=a at *
 clear t k D E x C;have b8:(a.F==14)=false:=Zu;obtain⟨b9,c0,B⟩:=bM z;simp only[B]at J;clear z B N;have w:=aa (G.w.ac ((ao [] b).H (.cells #[U a.F,U a.n,U a.of,.slice S a.aR.length a0,.slice P a.bz.length R,U a.d0,Zs a.bl,U a.y] 117)));by_cases g:f<=c
 .have L:(f:Int)<=c:=Zm;rw[Y9 g];clear g A;go_in;go_wp21;refine kD w (pM 15 c) λa1 p _=>?_;go_wp2;go_ret;exact⟨_,rfl,_,p.w,Zq⟩
 .have L:¬(f:Int)<=c:=Zm;have b5:(v.length:Int)<=c:=Zm;rw[Y2 g];clear g A;go_in;go_wp21;refine kD w (pM 12 c) λa1 p _=>?_;go_wp2;go_ret;exact⟨_,rfl,_,p.w,Zq⟩
def aeb(P:bB s r u q d l j)(b5:j.ownsRow 0 52 5 m v.length (v.flatMap dQ)){k:Nat}(n:k<d.A.length)(h0:0<=(d.A.getD k bP).F/\(d.A.getD k bP).F<=5)(b7:(d.A.getD k bP).aR.length<=1000000000)(g6:f<=1000000000)(e3:i<=1000000000)(e d9:Nat){z:Zb}(g5:z.length<=i)(e1:e<f)(e2:e<v.length)(N:gr j h (eb l d m o f i) ⟨z,0,0⟩ b) :
  Calls prog 106 #[Zp h,U k,U e,U d9] b (kh j h (eb l d m o f i) b (wm (d.A.getD k bP) (v.getD e bL) i e z)):=by
 obtain⟨B,K,L,M,d0,d1,d2,a8,d3,c8,c9,a0,a1⟩:=N.al;obtain⟨e0,d4,c0,a3,t,f2,f3,f4,f5,f6,f7,f8,f9,g0,g1,g2⟩:=pE (P.ah N.fr) n;have b0:d.A[k]? = some (d.A.getD k bP):=Zg;obtain⟨b8,b9⟩:=P.d8 k _ c0 b0 t;obtain⟨e8,e9,b2⟩:=bM b8;obtain⟨e6,e7,b3⟩:=bM b9;obtain⟨h6,h7⟩:=c0;simp only at b2 b3;subst b2 b3;have c5:=aa (λ(g:Zw) (C:an [] j g) (e5:Int)=>Hz (P.ah C) n b7 e5);have g8:(k:Int)<(d.A.length:Int):=Zm;have x:=aa (og N);simp only[a3]at B;generalize d.A.getD k bP=a at *
 clear P N b8 b9 b0 t;clear b7;obtain⟨h5,h4,b6,A,w,G,a5,a6⟩:=ts b5 e2;replace A:=x.w.y.fr.ba Zq A;replace w:=x.w.y.fr.ba Zq w;replace G:=x.w.y.fr.ba Zq G;replace a5:=x.w.y.fr.ba Zq a5;replace a6:=x.w.y.fr.ba Zq a6;have f1:=jy A;simp only[b6]at a8;have g3:¬(f:Int)<=e:=Zm;have g4:¬(v.length:Int)<=e:=Zm;have h1:(a.F==14)=false:=Zg;generalize v.getD e bL=c at *
 clear b5 b6;go_in;go_upto_region 16 with fail;generalize C:World.alloc (World.alloc b _) _=g;have J:af (hq j h (eb l d m o f i) b ⟨z,0,0⟩ g):=by subst C;exact(x.w.ac ((ao [] b).H _)).ac ((ao [] _).H _)
 have a2:g.heap[b.heap.size]? = some (.cells (im a (.slice e8 a.aR.length e9,.slice e6 a.bz.length e7)).toArray 117):=by
  subst C;exact(((ao [] _).H _).L _ Zq Zq).trans (aQ rfl)
 have R:g.heap[b.heap.size+1]? = some (.cells (dQ c).toArray 52):=by
  subst C;exact aQ Zq
 clear B K L M d0 d1 d2 a8 d3 c8 c9 a0 a1 f2 f3 f4 f5 f6 f7 f8 f9 g0 g1 g2 A w G a5 a6 f1 C x;have c1:g.cell? (Zd b.heap.size 0)=some (U a.F):=aS a2 rfl;have f0:g.cell? (Zd b.heap.size 1)=some (U a.n):=aS a2 rfl;have A:g.cell? ⟨b.heap.size+1,0,none⟩=some (U c.F):=aS R rfl;have w:g.cell? ⟨b.heap.size+1,1,none⟩=some (U c.n):=aS R rfl;have G:g.cell? ⟨b.heap.size+1,2,none⟩=some (Zs c.s):=aS R rfl;go_upto_if 80 with fail;go_cut [79,80] (λ_ y wc=>y=.bool true/\g=wc);case first=>
  go_wp2;all_goals
   go_meet
   simp_all<;>omega
 case rest=>
 obtain⟨rfl,rfl⟩:=hcut;obtain⟨B,K,L,M,-,-,-,-,-,-,-,a0,a1⟩:=J.w.y.al;simp only[a3]at B;have I:=aa (c5.w _ J.w.y.fr.aU c.n);unfold jj at I;simp only[a3]at I;go_wp2;refine cy (λF=>F.cell? (Zd h 0)=some (.slice (some ⟨e0,0,none⟩) d.A.length d4)/\F.cell? (Zd h 1)=some l.nv/\F.cell? (Zd h 2)=some l.pv/\F.cell? (Zd h 3)=some (Zs d.w)/\F.cell? ⟨b.heap.size+1,1,none⟩=some (U c.n)) ?_ λb4=>?_
 .go_keep
 refine bI [0,1,2,3,4,5,6] ?_;iterate 7 (refine bK ?_)
 refine bJ ?_;refine cx 7 λh D=>?_;(go_simp;refine I.w.mono ?_;rintro b1 a4 ⟨rfl,p⟩;have d5:=p.ba Zq B;have d6:=p.ba Zq K;have d7:=p.ba Zq L;have d8:=p.ba Zq M;have a9:=p.ba Zq w);refine D.out _ _ ?_ (λb4=>?_)
 .go_keep
 clear D h;refine nz ?_;refine cw λh D=>?_;go_simp;refine D.out _ _ ?_;clear D h;refine nz ?_;have a7:=aa ((J.w.ac (ao [] g).aU).ac p);replace c1:=p.ba Zq c1;replace A:=p.ba Zq A;replace w:=a9;clear d5 d6 d7 d8 a9 B K L M a0 a1 I J b4 a2 R f0 G p;go_upto_region 24 with fail;go_cut [11,101] (λ_ y wc=>y=.bool (decide (¬(c.F=1/\jU a c.n=true)))/\a4=wc);case first=>
  go_wp2;all_goals
   go_meet
   refine⟨Yo Value.bool ?_,rfl⟩
   rw[Bool.eq_iff_iff]
   simp_all
 case rest=>
 obtain⟨rfl,rfl⟩:=hcut;by_cases t:c.F=1/\jU a c.n=true
 .rw[decide_eq_false (not_not_intro t)];have H:af (wm a c i e z=hS i e z ((if a.F=2\/a.F=3 then dS (c.n / 4294967296)else [])++dS c.n)):=Y9 t
  have h3:=Gm;clear t;go_upto_region 28 with fail;go_cut [79,113] (λ_ y wc=>y=.bool (decide (a.F=2\/a.F=3))/\a4=wc);case first=>
   go_wp2;all_goals
    go_meet
    refine⟨Yo Value.bool ?_,rfl⟩
    rw[Bool.eq_iff_iff]
    simp_all
  case rest=>
  obtain⟨rfl,rfl⟩:=hcut;generalize E:(if a.F=2\/a.F=3 then dS (c.n / 4294967296)else [])=n at H
  go_upto_if 113 with fail;go_cut [12] (λy wc=>y=Zs n/\af (an [] a4 wc));case first=>
   by_cases O:a.F=2\/a.F=3
   .rw[decide_eq_true O];rw[Y9 O]at E;subst E;go_wp21;refine(BI _ _).mono ?_;rintro b1 c2 ⟨rfl,S⟩;go_wp2;go_meet;exact⟨rfl,aa S⟩
   .rw[decide_eq_false O];rw[Y2 O]at E;subst E;go_wp2;go_meet;simp_all[aa,ao]
  case rest=>
  obtain⟨rfl,S⟩:=hcut;rename Zw=>c2;have c6:=aa (a7.w.ac S.w);replace w:=S.w.ba Zq w;go_wp21;refine(BI _ _).mono ?_;rintro b1 h8 ⟨rfl,e4⟩;have c7:=aa (c6.w.ac e4);have g9:=lU n (dS c.n);have h2:¬(9223372036854775807<n.length+(dS c.n).length):=by
   have:n.length<=4:=by grind [dS]
   simp[dS];omega
  have g7:n.length<=4:=by rw[<-E];split<;>simp[dS]
  go_wp21;refine kD c7 (yS (n++dS c.n) e (by simp[dS];omega) Zg e3) λh9 c4 _=>?_;go_wp2;go_ret;rw[H.w];exact⟨_,rfl,xZ c4.w e1 Zr⟩
 .rw[decide_eq_true t];have H:af (wm a c i e z=.error ⟨12,e⟩):=Y2 t;go_wp21;refine kD a7 (pM 12 e) λc2 c3 _=>?_;go_wp2;go_ret;rw[H.w];exact⟨_,rfl,_,c3.w,Zq⟩
def aef(I:bB s r u q d l j)(a0:j.ownsRow 0 52 5 m v.length (v.flatMap dQ)){k:Nat}(y:k<d.A.length)(f3:5<(d.A.getD k bP).F/\(d.A.getD k bP).F<=8)(f6:(d.A.getD k bP).n<=4294967295)(e9:f<=1000000000)(c7:i<=1000000000)(e c1:Nat){x:Zb}(e8:x.length<=i)(c4:e<f)(c5:e<v.length)(E:gr j h (eb l d m o f i) ⟨x,0,0⟩ b) :
  Calls prog 106 #[Zp h,U k,U e,U c1] b (kh j h (eb l d m o f i) b (wI (d.A.getD k bP) (v.getD e bL) i e x)):=by
 obtain⟨N,b0,b3,b4,b5,b6,b7,O,b8,b1,b2,b9,c0⟩:=E.al;obtain⟨e5,e4,a5,c6,p,d3,d4,d5,d6,d7,d8,d9,e0,e1,e2,e3⟩:=pE (I.ah E.fr) y;have P:d.A[k]? = some (d.A.getD k bP):=Zg;obtain⟨a3,a4⟩:=I.d8 k _ a5 P p;obtain⟨d0,d1,R⟩:=bM a3;obtain⟨c8,c9,S⟩:=bM a4;obtain⟨g1,g2⟩:=a5;simp only at R S;subst R S;skip;have f1:(k:Int)<(d.A.length:Int):=Zm;have t:=aa (og E);simp only[c6]at N;generalize d.A.getD k bP=a at *
 clear I E a3 a4 P p;obtain⟨g0,f9,a2,C,H,A,K,L⟩:=ts a0 c5;replace C:=t.w.y.fr.ba Zq C;replace H:=t.w.y.fr.ba Zq H;replace A:=t.w.y.fr.ba Zq A;replace K:=t.w.y.fr.ba Zq K;replace L:=t.w.y.fr.ba Zq L;have d2:=jy C;simp only[a2]at O;have e6:¬(f:Int)<=e:=Zm;have e7:¬(v.length:Int)<=e:=Zm;have f4:(a.F==14)=false:=Zg;generalize v.getD e bL=c at *
 clear a0 a2;go_in;go_upto_region 16 with fail;generalize F:World.alloc (World.alloc b _) _=g;have M:af (hq j h (eb l d m o f i) b ⟨x,0,0⟩ g):=by subst F;exact(t.w.ac ((ao [] b).H _)).ac ((ao [] _).H _)
 have a1:g.heap[b.heap.size]? = some (.cells (im a (.slice d0 a.aR.length d1,.slice c8 a.bz.length c9)).toArray 117):=by
  subst F;exact(((ao [] _).H _).L _ Zq Zq).trans (aQ rfl)
 have J:g.heap[b.heap.size+1]? = some (.cells (dQ c).toArray 52):=by
  subst F;exact aQ Zq
 clear N b0 b3 b4 b5 b6 b7 O b8 b1 b2 b9 c0 d3 d4 d5 d6 d7 d8 d9 e0 e1 e2 e3 C H A K L d2 F t;have g3:g.cell? (Zd b.heap.size 0)=some (U a.F):=aS a1 rfl;have g4:g.cell? (Zd b.heap.size 1)=some (U a.n):=aS a1 rfl;have C:g.cell? ⟨b.heap.size+1,0,none⟩=some (U c.F):=aS J rfl;have H:g.cell? ⟨b.heap.size+1,1,none⟩=some (U c.n):=aS J rfl;have A:g.cell? ⟨b.heap.size+1,2,none⟩=some (Zs c.s):=aS J rfl;go_upto_if 80 with fail;go_cut [80] (λw wc=>w=.bool false/\g=wc);case first=>
  go_wp2;all_goals
   go_meet
   simp_all<;>omega
 case rest=>
 obtain⟨rfl,rfl⟩:=hcut;go_upto_if 130 with fail;go_cut [79,130] (λ_ w wc=>w=.bool true/\g=wc);case first=>
  go_wp2;all_goals
   go_meet
   simp_all<;>omega
 case rest=>
 obtain⟨rfl,rfl⟩:=hcut;go_upto_region 35 with fail;go_cut [79,157] (λ_ w wc=>w=.bool (decide (¬(c.F=2/\(c.s.length:Int)<=a.n/\(a.F=6->(c.s.length:Int)=a.n))))/\g=wc);case first=>
  go_wp2;all_goals
   go_meet
   refine⟨Yo Value.bool ?_,rfl⟩
   rw[Bool.eq_iff_iff]
   simp_all<;>omega
 case rest=>
 obtain⟨rfl,rfl⟩:=hcut;by_cases p:c.F=2/\(c.s.length:Int)<=a.n/\(a.F=6->(c.s.length:Int)=a.n)
 .rw[decide_eq_false (not_not_intro p)];have D:af (wI a c i e x=hS i e x ((if a.F=6 then []else dS c.s.length)++kY c.s)):=Y9 p
  have f8:c.s.length<=4294967295:=Zm;clear p;generalize B:(if a.F=6 then []else dS c.s.length)=y at D
  have f0:y.length<=4:=by rw[<-B];split<;>simp[dS]
  have f5:(kY c.s).length<=c.s.length+4:=by grind [kY,gm]
  go_upto_if 164 with fail;go_cut [13] (λw wc=>w=Zs y/\af (an [] g wc));case first=>
   by_cases z:a.F=6
   .rw[Y9 z]at B;subst B;have c3:(a.F != 6)=false:=by simp[z]
    clear z;go_wp2;go_meet;simp_all[aa,ao]
   .rw[Y2 z]at B;subst B;have c3:(a.F != 6)=true:=by simp[z]
    clear z;go_wp21;refine(MN c.s.length Zm _).mono ?_;rintro c2 a6 ⟨rfl,G⟩;go_wp2;go_meet;exact⟨rfl,aa G⟩
  case rest=>
  obtain⟨rfl,G⟩:=hcut;rename Zw=>a6;have a9:=aa (M.w.ac G.w);replace A:=G.w.ba Zq A;go_wp21;refine(XI c.s Zm _).mono ?_;rintro c2 g5 ⟨rfl,rfl⟩;have f2:=lU y (kY c.s);have f7:¬(9223372036854775807<y.length+(kY c.s).length):=Zm;go_wp21;refine kD a9 (yS (y++kY c.s) e Zg Zg c7) λg6 a8 _=>?_;go_wp2;go_ret;rw[D.w];exact⟨_,rfl,xZ a8.w c4 Zr⟩
 .rw[decide_eq_true p];have D:af (wI a c i e x=.error ⟨12,e⟩):=Y2 p;go_wp21;refine kD M (pM 12 e) λa6 a7 _=>?_;go_wp2;go_ret;rw[D.w];exact⟨_,rfl,_,a7.w,Zq⟩
def aeh(G:bB s r u q d l j)(a3:j.ownsRow 0 52 5 m v.length (v.flatMap dQ)){e:Nat}(a4:e<d.A.length)(e7:8<(d.A.getD e bP).F/\(d.A.getD e bP).F≠14)(e5:f<=1000000000)(f0:i<=1000000000)(p R:Nat){x:Zb}(e4:x.length<=i)(e9:p<f)(c1:p<v.length)(y:gr j h (eb l d m o f i) ⟨x,0,0⟩ b){M}
  (a2:∀t,l.ls[e]? = some t->∀J,gr j h (eb l d m o f i) ⟨x,0,0⟩ J->Calls prog 175 #[Zp h,.agg (im (d.A.getD e bP) t).toArray,U p,U R] J (kh j h (eb l d m o f i) J M)) :
  Calls prog 106 #[Zp h,U e,U p,U R] b (kh j h (eb l d m o f i) b M):=by
 obtain⟨O,b0,b3,b4,b5,b6,b7,P,b8,b1,b2,b9,c0⟩:=y.al;obtain⟨e1,d9,t,c2,I,c8,c9,d0,d1,d2,d3,d4,d5,d6,d7,d8⟩:=pE (G.ah y.fr) a4;have S:d.A[e]? = some (d.A.getD e bP):=by simp[a4]
 obtain⟨a6,a7⟩:=G.d8 e _ t S I;obtain⟨c5,c6,a0⟩:=bM a6;obtain⟨c3,c4,a1⟩:=bM a7;obtain⟨f3,f4⟩:=t;simp only at a0 a1;subst a0 a1;have a9:=aa (a2 _ I);have e6:(e:Int)<(d.A.length:Int):=Zm;have k:=aa (og y);simp only[c2]at O;generalize d.A.getD e bP=a at *
 clear G y a6 a7 S I;clear a2;obtain⟨f2,f1,a5,w,B,C,K,L⟩:=ts a3 c1;replace w:=k.w.y.fr.ba Zq w;replace B:=k.w.y.fr.ba Zq B;replace C:=k.w.y.fr.ba Zq C;replace K:=k.w.y.fr.ba Zq K;replace L:=k.w.y.fr.ba Zq L;have c7:=jy w;simp only[a5]at P;have e2:¬(f:Int)<=p:=Zm;have e3:¬(v.length:Int)<=p:=Zm;have e8:(a.F==14)=false:=Zx;generalize v.getD p bL=A at *
 clear a3 a5;go_in;go_upto_region 16 with fail;generalize z:World.alloc (World.alloc b _) _=g;have N:af (hq j h (eb l d m o f i) b ⟨x,0,0⟩ g):=by subst z;exact(k.w.ac ((ao [] b).H _)).ac ((ao [] _).H _)
 have F:g.heap[b.heap.size]? = some (.cells (im a (.slice c5 a.aR.length c6,.slice c3 a.bz.length c4)).toArray 117):=by
  subst z;exact(((ao [] _).H _).L _ Zq Zq).trans (aQ rfl)
 have H:g.heap[b.heap.size+1]? = some (.cells (dQ A).toArray 52):=by
  subst z;exact aQ Zq
 clear O b0 b3 b4 b5 b6 b7 P b8 b1 b2 b9 c0 c8 c9 d0 d1 d2 d3 d4 d5 d6 d7 d8 w B C K L c7 z k;have f5:g.cell? (Zd b.heap.size 0)=some (U a.F):=aS F rfl;have f6:g.cell? (Zd b.heap.size 1)=some (U a.n):=aS F rfl;have w:g.cell? ⟨b.heap.size+1,0,none⟩=some (U A.F):=aS H rfl;have B:g.cell? ⟨b.heap.size+1,1,none⟩=some (U A.n):=aS H rfl;have C:g.cell? ⟨b.heap.size+1,2,none⟩=some (Zs A.s):=aS H rfl;go_upto_if 80 with fail;go_cut [80] (λD wc=>D=.bool false/\g=wc);case first=>
  go_wp2;all_goals
   go_meet
   simp_all<;>omega
 case rest=>
 obtain⟨rfl,rfl⟩:=hcut;go_upto_if 130 with fail;go_cut [130] (λD wc=>D=.bool false/\g=wc);case first=>
  go_wp2;all_goals
   go_meet
   simp_all<;>omega
 case rest=>
 obtain⟨rfl,rfl⟩:=hcut;have f7:=lx F;go_wp21;refine(a9.w _ N.w.y).mono ?_;intro e0 f8 E;obtain⟨c,rfl,E⟩:=E;have a8:=aa E;go_wp2;go_ret;exact⟨_,rfl,a8.w.c3 N.w.kp⟩
end
section
variable {o : Nat -> Prop} {m l : Nat} {q : Zb} {k : ai} {a f d : Zw} {h : PV} {c : Nat} {p : Ws} {v : List el} {g : Zv} {j e b : Nat}
def nF(b:Nat->ch->Except Mar.ay ch):Nat->Nat->ch->Except Mar.ay ch
 |_,0,a=>.ok a
 |i,c+1,a=>bg (b i a) (nF b (i+1) c)
abbrev tf(a:bD)(b:el):Prop:=b.F=3/\(a.F=9->b.av=a.n)/\(a.F=10->0<=b.av/\b.av<=a.n)/\(a.F=12->b.av=a.bz.length)
def uC(e:bD)(c:el)(b a:Nat)(d:Zb)(f:Nat->ch->Except Mar.ay ch):Except Mar.ay ch:=
 if tf e c then bg (if e.F=10 then hS b a d (dS c.av)else .ok ⟨a+1,d⟩) (nF f 0 c.av.toNat)else .error ⟨12,a⟩
def tu(a:bD)(b:Nat):Int:=if a.F=12 then a.bz.getD b 0 else a.of
def MK(c1:f.ownsRow 0 52 5 g v.length (v.flatMap dQ)){i:bD}{M:Zv×Zv}(d2:dL M.1 i.aR f)(a8:dL M.2 i.bz f)(h3:e<=1000000000)(g0:b<=1000000000)(h7:0<=i.n/\i.n<=4294967295)(h8:i.bz.length<=1000000)
  {m b6:Nat} {q:Zb} (f6:q.length<=b) (c8:m<e) (f8:m<v.length) (t:gr f c (eb h k g j e b) ⟨q,0,0⟩ a) (f7:i.F=9\/i.F=10\/i.F=12)
  {p:Nat->ch->Except Mar.ay ch} (d0:tf i (v.getD m bL)->∀l s a9,l<(v.getD m bL).av.toNat->s.ag<=e->s.w.length<=b->gr f c (eb h k g j e b) ⟨s.w,0,0⟩ a9->Calls prog 106 #[Zp c,U (tu i l),U s.ag,U b6] a9 (kh f c (eb h k g j e b) a9 (p l s))) :
  Calls prog 175 #[Zp c,.agg (im i M).toArray,U m,U b6] a (kh f c (eb h k g j e b) a (uC i (v.getD m bL) b m q p)):=by
 obtain⟨e1,e2,e4,e5,e6,a4,e7,b5,e8,a3,e3,e9,f0⟩:=t.al;have d6:=aa a8.a6;obtain⟨g4,g5,b8⟩:=bM d2;obtain⟨g2,g3,b9⟩:=bM a8;obtain⟨i2,i3⟩:=M;simp only at b8 b9;subst b8 b9;obtain⟨i0,h9,C,D,b0,b1,b2,F⟩:=ts c1 f8;have y:=aa (og t);replace D:=y.w.y.fr.ba Zq D;replace b0:=y.w.y.fr.ba Zq b0;replace b1:=y.w.y.fr.ba Zq b1;replace b2:=y.w.y.fr.ba Zq b2;replace F:=y.w.y.fr.ba Zq F;have g9:=jy D;simp only[C]at b5;have h1:(m:Int)<v.length:=Zm;generalize v.getD m bL=o at *
 have S:=aa d0;clear d2 a8 t d0 c1;go_in;go_upto_region 3 with fail;generalize L:World.alloc (World.alloc a _) _=d;have a0:af (hq f c (eb h k g j e b) a ⟨q,0,0⟩ d):=by subst L;exact(y.w.ac ((ao [] a).H _)).ac ((ao [] _).H _)
 have I:d.heap[a.heap.size]? = some (.cells (im i (.slice g4 i.aR.length g5,.slice g2 i.bz.length g3)).toArray 117):=by
  subst L;exact(((ao [] _).H _).L _ Zq Zq).trans (aQ rfl)
 have J:d.heap[a.heap.size+1]? = some (.cells (dQ o).toArray 52):=by
  subst L;exact aQ Zq
 have h2:c≠a.heap.size/\c≠a.heap.size+1:=Zm;clear e1 e2 e4 e5 e6 a4 e7 b5 e8 a3 e3 e9 f0 D b0 b1 b2 F g9 L y C;have g6:=lx I;have A:d.cell? (Zd a.heap.size 1)=some (U i.n):=aS I rfl;have D:d.cell? ⟨a.heap.size+1,0,none⟩=some (U o.F):=aS J rfl;have F:d.cell? ⟨a.heap.size+1,4,none⟩=some (U o.av):=aS J rfl;go_upto_if 28 with fail;go_cut [27,28] (λ_ z wc=>z=.bool true/\d=wc);case first=>
  go_wp2;all_goals
   go_meet
   simp_all<;>omega
 case rest=>
 obtain⟨rfl,rfl⟩:=hcut;go_upto_region 7 with fail;go_cut [11] (λz wc=>z=.bool (decide (¬tf i o))/\d=wc);case first=>
  as_aux_lemma=>
   go_wp2;all_goals
    go_meet
    refine⟨Yo Value.bool ?_,rfl⟩
    rw[Bool.eq_iff_iff]
    simp_all[tf]<;>omega
 case rest=>
 obtain⟨rfl,rfl⟩:=hcut;by_cases x:tf i o
 .rw[decide_eq_false (not_not_intro x)];have B:af (uC i o b m q p=bg (if i.F=10 then hS b m q (dS o.av)else .ok ⟨m+1,q⟩) (nF p 0 o.av.toNat)):=Y9 x
  have d1:0<=o.av/\o.av<=4294967295:=by
   obtain⟨-,f5,w,u⟩:=x;rcases f7 with t|t|t
   .have:=f5 t;omega
   .have:=w t;omega
   .have:=u t;omega
  have f4:=aa x.2.2.2;have S:=aa (S.w x);clear x D;generalize K:(if i.F=10 then hS b m q (dS o.av)else Except.ok ⟨m+1,q⟩)=A at B
  go_upto_if 84 with fail;go_cut [] (λwc=>af (rm f c (eb h k g j e b) a A (m+1) wc)/\af (an [c] d wc));case first=>
   by_cases w:i.F=10
   .have f2:(i.F==10)=true:=by simp[w]
    rw[Y9 w]at K;subst K;clear w;go_wp21;refine(MM d1.1 Zm _).mono ?_;rintro f1 g7 ⟨rfl,d3⟩;have O:=aa (a0.w.ac d3);go_wp21;refine kD O (yS (dS o.av) m (by simp[dS]) (by simp only;omega) g0) λg8 G g1=>?_;go_wp2;go_meet;exact⟨aa (xZ G.w c8 rfl),aa ((d3.ak Zq).u g1.w)⟩
   .have f2:(i.F==10)=false:=by simp[w]
    rw[Y2 w]at K;subst K;clear w;go_wp2;go_meet;exact⟨aa ⟨rfl,a0.w,c8,f6⟩,aa (ao ..)⟩
  case rest=>
  obtain⟨d9,d7⟩:=hcut;rename Zw=>i5;obtain⟨n,C⟩:=Int.eq_ofNat_of_zero_le d1.1;rw[C,Int.toNat_natCast]at B;go_wp2;go_loopw [10,12] (λz a2 d4=>∃(a1:Int) (l:Nat) (N:Except Mar.ay ch),z=U a1/\a2=U l/\l<=n/\af (rm f c (eb h k g j e b) a N a1 d4)/\af (bg N (nF p l (n-l))=bg A (nF p 0 n))/\af (an [c] d d4)) (λ_ a2 _=>n-(intOf a2).toNat)
  case atStart=>exact⟨_,0,A,rfl,rfl,Zm,d9,aa rfl,d7⟩
  case round=>
   obtain⟨a1,l,N,rfl,rfl,h5,R,H,P⟩:=hrel;have a5:=(P.w.L _ (au I) Zx).trans I;have c2:=(P.w.L _ (au J) Zx).trans J;have g6:wr.cell? (Zd a.heap.size 0)=some (U i.F):=aS a5 rfl;have i4:=lx a5;have F:wr.cell? ⟨a.heap.size+1,4,none⟩=some (U n):=C▸aS c2 rfl;clear a5 c2;cases N with
   |error b7=>
    obtain⟨e0,r,c6⟩:=R.w;obtain⟨-,-,-,-,-,-,-,-,-,a3,-,-,-⟩:=r.y.al;have h4:((b7.no:Int)==0)=false:=by simpa using c6
    have E:af (bg A (nF p 0 n)=.error b7):=aa H.w.symm;by_cases a6:(l:Int)<n;all_goals
     go_wp2
     go_ret
     rw[B.w,E.w]
     exact⟨_,rfl,e0,r,c6⟩
   |ok s=>
    obtain⟨rfl,r,c4,c5⟩:=R.w;obtain⟨-,-,-,-,-,-,-,-,-,a3,-,-,-⟩:=r.y.al;by_cases a6:l<n
    .have f9:(l:Int)<n:=Zm;have E:af (bg (p l s) (nF p (l+1) (n-(l+1)))=bg A (nF p 0 n)):=by
      show _=_;rw[<-H.w,show n-l=(n-(l+1))+1 by omega];rfl
     have b4:=aa (S.w l s wr (by rw[C];exact a6) c4 c5 r.y);have d8:=aa r.kp;have d5:=aa r.y.fr;clear r R H;go_upto_if 108 with fail;go_cut [13] (λz wc=>z=U (tu i l)/\wr=wc);case first=>
      by_cases u:i.F=12
      .have f3:(i.F==12)=true:=by simp[u]
       have c7:l<i.bz.length:=by have:=f4.w u;omega
       have h6:(l:Int)<i.bz.length:=Zm;obtain⟨ad,h0,c3,c9⟩:=d6.w;simp only[Value.slice.injEq,true_and]at c3;obtain⟨rfl,rfl⟩:=c3;obtain⟨i1,rfl,b3⟩:=c9 l c7;rw[Nat.mul_one]at b3;replace b3:=d5.w.ba Zq b3;have a7:tu i l=i.bz.getD l 0:=Y9 u;clear u c9;go_wp2;go_meet;exact⟨by rw[a7];simp[c7],rfl⟩
      .have f3:(i.F==12)=false:=by simp[u]
       have a7:tu i l=i.of:=Y2 u;clear u;go_wp2;go_meet;exact⟨by rw[a7],rfl⟩
     case rest=>
     obtain⟨rfl,rfl⟩:=hcut;go_wp21;refine b4.w.mono ?_;rintro f1 g8 ⟨a4,rfl,c0⟩;have G:=aa c0;clear c0 b4;go_wp2;exact⟨⟨a4,l+1,_,rfl,Zj,a6,aa (G.w.c3 d8.w),E,aa (P.w.u G.w.kp)⟩,Zz⟩
    .have f9:¬(l:Int)<n:=Zm;have E:af (bg A (nF p 0 n)=.ok s):=by
      show _=_;rw[<-H.w,show n-l=0 by omega];rfl
     go_wp2;go_ret;rw[B.w,E.w];exact⟨_,rfl,rfl,r,c4,c5⟩
 .rw[decide_eq_true x];have B:af (uC i o b m q p=.error ⟨12,m⟩):=Y2 x;go_wp21;refine kD a0 (pM 12 m) λg7 O _=>?_;go_wp2;go_ret;rw[B.w];exact⟨_,rfl,_,O.w,Zq⟩
end
section
variable {m : Nat -> Prop} {l k : Nat} {o : Zb} {f : ai} {w e d : Zw} {h : PV} {a : Nat} {p : Ws} {v : List el} {i : Zv} {j g b : Nat}
def qD(ok:Prop)[Decidable ok](e:Int)(g:el)(b c:Nat)(d:Zb)(f:ch->Except Mar.ay ch):Except Mar.ay ch:=
 if ok then bg (hS b c d (dS e)) (λa=>if g.av=1 then f a else .ok a)else .error ⟨12,c⟩
abbrev sb(a:el):Prop:=a.F=4/\0<=a.av/\a.av<=1/\a.n=a.av
def aeB(a7:e.ownsRow 0 52 5 i v.length (v.flatMap dQ)){n:bD}{H:Zv×Zv}(b4:dL H.1 n.aR e)(b5:dL H.2 n.bz e)(f3:g<=1000000000)(e0:b<=1000000000)
  {m a5:Nat} {p:Zb} (f2:p.length<=b) (d7:m<g) (d8:m<v.length) (M:gr e a (eb h f i j g b) ⟨p,0,0⟩ w) (x:n.F=11)
  {o:ch->Except Mar.ay ch} (b3:∀l O,l.ag<=g->l.w.length<=b->gr e a (eb h f i j g b) ⟨l.w,0,0⟩ O->Calls prog 106 #[Zp a,U n.of,U l.ag,U a5] O (kh e a (eb h f i j g b) O (o l))) :
  Calls prog 175 #[Zp a,.agg (im n H).toArray,U m,U a5] w (kh e a (eb h f i j g b) w (qD (sb (v.getD m bL)) (v.getD m bL).av (v.getD m bL) b m p o)):=by
 obtain⟨c1,c2,c5,c6,c7,c8,a3,a4,c9,c3,c4,d0,d1⟩:=M.al;skip;obtain⟨e3,e4,q⟩:=bM b4;obtain⟨e1,e2,a6⟩:=bM b5;obtain⟨g1,g2⟩:=H;simp only at q a6;subst q a6;obtain⟨g0,f9,b2,s,R,S,a0,z⟩:=ts a7 d8;have r:=aa (og M);replace s:=r.w.y.fr.ba Zq s;replace R:=r.w.y.fr.ba Zq R;replace S:=r.w.y.fr.ba Zq S;replace a0:=r.w.y.fr.ba Zq a0;replace z:=r.w.y.fr.ba Zq z;have e8:=jy s;simp only[b2]at a4;have f0:(m:Int)<v.length:=Zm;generalize v.getD m bL=k at *
 have b7:=aa b3;clear b4 b5 M b3 a7;go_in;go_upto_region 3 with fail;generalize F:World.alloc (World.alloc w _) _=d;have K:af (hq e a (eb h f i j g b) w ⟨p,0,0⟩ d):=by subst F;exact(r.w.ac ((ao [] w).H _)).ac ((ao [] _).H _)
 have E:d.heap[w.heap.size]? = some (.cells (im n (.slice e3 n.aR.length e4,.slice e1 n.bz.length e2)).toArray 117):=by
  subst F;exact(((ao [] _).H _).L _ Zq Zq).trans (aQ rfl)
 have u:d.heap[w.heap.size+1]? = some (.cells (dQ k).toArray 52):=by
  subst F;exact aQ Zq
 have f1:a≠w.heap.size/\a≠w.heap.size+1:=Zm;clear c1 c2 c5 c6 c7 c8 a3 a4 c9 c3 c4 d0 d1 s R S a0 z e8 F r b2;have e5:d.cell? (Zd w.heap.size 0)=some (U n.F):=aS E rfl;have s:=lx u;have z:d.cell? ⟨w.heap.size+1,4,none⟩=some (U k.av):=aS u rfl;have f8:(n.F==9)=false:=by simp[x]
 have f5:(n.F==10)=false:=by simp[x]
 have f7:(n.F==12)=false:=by simp[x]
 have f6:(n.F==11)=true:=by simp[x]
 clear x;go_upto_region 21 with fail;go_cut [140] (λb9 wc=>b9=.bool (decide (¬sb k))/\d=wc);case first=>
  as_aux_lemma=>
   go_wp2;all_goals
    go_meet
    refine⟨Yo Value.bool ?_,rfl⟩
    rw[Bool.eq_iff_iff]
    simp_all[sb]<;>omega
 case rest=>
 obtain⟨rfl,rfl⟩:=hcut;by_cases y:sb k
 .rw[decide_eq_false (not_not_intro y)];have t:af (qD (sb k) k.av k b m p o=bg (hS b m p (dS k.av)) (λl=>if k.av=1 then o l else .ok l)):=Y9 y
  obtain⟨-,d9,f4,-⟩:=y;have b8:=aa (λ(_:k.av=1)=>b7.w);go_wp21;refine(MM d9 Zm _).mono ?_;rintro d2 e6 ⟨rfl,G⟩;have B:=aa (K.w.ac G);go_wp21;refine kD B (yS (dS k.av) m (by simp[dS]) (by simp only;omega) e0) λP a1 N=>?_;have a9:=(((G.ak (M':=[a]) Zq).u N.w).L _ (au u) Zx).trans u;have a8:=(((G.ak (M':=[a]) Zq).u N.w).L _ (au E) Zx).trans E;replace z:P.cell? ⟨w.heap.size+1,4,none⟩=some (U k.av):=aS a9 rfl;have g3:P.cell? (Zd w.heap.size 2)=some (U n.of):=aS a8 rfl;have D:=aa (xZ a1.w d7 (c:=m+1) rfl);have e9:=aa a1.w.y;clear a9 a8 u E e5 s G N B K;generalize hS b m p _=I at *
  by_cases q:k.av=1
  .have d3:(k.av==1)=true:=by simp[q]
   cases I with
   |error L=>
    obtain⟨c0,C,b1⟩:=D.w;have A:af (bg (Except.error L) (λl=>if k.av=1 then o l else .ok l)=.error L):=aa rfl
    go_wp21;refine kD (aa C) (Mw b1 _ _ _) λe7 J _=>?_;go_wp2;go_ret;rw[t.w];exact⟨_,rfl,c0,J.w,b1⟩
   |ok l=>
    obtain⟨b0,C,d5,d6⟩:=D.w;have a2:=aa (b8.w q l P d5 d6 C.y);rw[<-b0]at a2;clear b0 D;have A:af (bg (Except.ok l) (λl=>if k.av=1 then o l else .ok l)=o l):=by show (if k.av=1 then _ else _)=_;rw[Y9 q]
    have b6:=aa C.kp;go_wp21;refine a2.w.mono ?_;rintro d2 e7 ⟨a3,rfl,d4⟩;have J:=aa d4;go_wp2;go_ret;rw[t.w,A.w];exact⟨_,rfl,J.w.c3 b6.w⟩
  .have d3:(k.av==1)=false:=by simp[q]
   have A:af (bg I (λl=>if k.av=1 then o l else .ok l)=I):=by
    show _=_;cases I with
    |error L=>rfl
    |ok l=>show (if k.av=1 then _ else _)=_;rw[Y2 q]
   go_wp2;go_ret;rw[t.w,A.w];exact⟨_,rfl,D.w⟩
 .rw[decide_eq_true y];have t:af (qD (sb k) k.av k b m p o=.error ⟨12,m⟩):=Y2 y;go_wp21;refine kD K (pM 12 m) λe6 B _=>?_;go_wp2;go_ret;rw[t.w];exact⟨_,rfl,_,B.w,Zq⟩
abbrev nR(c:Bool)(b:Int×Bool)(a:el):Prop:=a.F=4/\c=true/\b.2=true/\0<=a.av/\a.av<=1/\(b.1 = -1↔a.av=0)
def aeC(c3:bB m l o k f h e)(e2:e.ownsRow 0 52 5 i v.length (v.flatMap dQ)){r:bD}{a8:Zv×Zv}(c4:dL a8.1 r.aR e)(c5:dL a8.2 r.bz e)(j5:g<=1000000000)(h6:b<=1000000000)(e8:r.bz.length=r.aR.length)(e9:r.aR.length<=1000000000){B:Nat}(e6:r.of=B)(h2:B<f.A.length)(h3:(f.A.getD B bP).aR.length<=1000000000)
  {p e0:Nat} {z:Zb} (j4:z.length<=b) (h4:p<g) (h5:p<v.length) (c1:gr e a (eb h f i j g b) ⟨z,0,0⟩ w) (F:r.F=13)
  {x:ch->Except Mar.ay ch} (f1:nR (jU (f.A.getD B bP) (v.getD p bL).n) (kQ r (v.getD p bL).n) (v.getD p bL)->(v.getD p bL).av=1->∀q t,q.ag<=g->q.w.length<=b->gr e a (eb h f i j g b) ⟨q.w,0,0⟩ t->Calls prog 106 #[Zp a,U (kQ r (v.getD p bL).n).1,U q.ag,U e0] t (kh e a (eb h f i j g b) t (x q))) :
  Calls prog 175 #[Zp a,.agg (im r a8).toArray,U p,U e0] w (kh e a (eb h f i j g b) w (qD (nR (jU (f.A.getD B bP) (v.getD p bL).n) (kQ r (v.getD p bL).n) (v.getD p bL)) (v.getD p bL).n (v.getD p bL) b p z x)):=by
 have d6:=aa (λ(d:Zw) (u:an [] e d) (c8:Int)=>Hz (c3.ah u) h2 h3 c8);have d4:=aa (λ(d:Zw) (u:an [] e d) (c8:Int)=>Pg (w:=d) (dL.bC c4 u Zq) (dL.bC c5 u Zq) e8 e9 c8);obtain⟨f8,g6,f0⟩:=bM c3.A;have f5:=aa e6;clear e8 e6 e9;obtain⟨J,a3,a4,a5,g3,g4,d8,d9,g5,g1,g2,b7,b8⟩:=c1.al;skip;obtain⟨i2,i3,A⟩:=bM c4;obtain⟨h8,h9,e1⟩:=bM c5;obtain⟨i0,i1⟩:=a8;simp only at A e1;subst A e1;obtain⟨k3,k2,e7,H,y,d0,d1,O⟩:=ts e2 h5;have C:=aa (og c1);replace H:=C.w.y.fr.ba Zq H;replace y:=C.w.y.fr.ba Zq y;replace d0:=C.w.y.fr.ba Zq d0;replace d1:=C.w.y.fr.ba Zq d1;replace O:=C.w.y.fr.ba Zq O;have i5:=jy H;simp only[e7]at d9;have j2:(p:Int)<v.length:=Zm;generalize v.getD p bL=n at *
 have b3:=aa f1;clear c4 c5 c1 f1 e2;go_in;go_upto_region 3 with fail;generalize u:World.alloc (World.alloc w _) _=d;have a0:af (hq e a (eb h f i j g b) w ⟨z,0,0⟩ d):=by subst u;exact(C.w.ac ((ao [] w).H _)).ac ((ao [] _).H _)
 have M:d.heap[w.heap.size]? = some (.cells (im r (.slice i2 r.aR.length i3,.slice h8 r.bz.length h9)).toArray 117):=by
  subst u;exact(((ao [] _).H _).L _ Zq Zq).trans (aQ rfl)
 have a6:d.heap[w.heap.size+1]? = some (.cells (dQ n).toArray 52):=by
  subst u;exact aQ Zq
 have j3:a≠w.heap.size/\a≠w.heap.size+1:=Zm;clear J a3 a4 a5 g3 g4 d8 d9 g5 g1 g2 b7 b8 H y d0 d1 O i5 u C e7;have c9:d.cell? (Zd w.heap.size 0)=some (U r.F):=aS M rfl;have a9:d.cell? (Zd w.heap.size 2)=some (U B):=f5.w▸aS M rfl;have y:d.cell? ⟨w.heap.size+1,1,none⟩=some (U n.n):=aS a6 rfl;have k1:(r.F==9)=false:=by simp[F]
 have j7:(r.F==10)=false:=by simp[F]
 have j9:(r.F==12)=false:=by simp[F]
 have j8:(r.F==11)=false:=by simp[F]
 have k0:(r.F==13)=true:=by simp[F]
 clear F c3;obtain⟨J,a3,a4,a5,-,-,-,-,-,-,-,b7,b8⟩:=a0.w.y.al;simp only[f0]at J;have S:=aa (d6.w _ a0.w.y.fr.aU n.n);unfold jj at S;simp only[f0]at S;generalize jU (f.A.getD B bP) n.n=K at *
 go_upto_region 28 with fail;go_cut [14] (λb6 wc=>b6=.bool K/\af (an [] d wc));case first=>
  refine cy (λt=>t.cell? (Zd a 0)=some (.slice f8 f.A.length g6)/\t.cell? (Zd a 1)=some h.nv/\t.cell? (Zd a 2)=some h.pv/\t.cell? (Zd a 3)=some (Zs f.w)/\t.cell? (Zd w.heap.size 2)=some (U B)/\t.cell? ⟨w.heap.size+1,1,none⟩=some (U n.n)) ?_ λg9=>?_
  .go_keep
  refine bI [0,1,2,3,4,5,6,7] ?_;iterate 8 (refine bK ?_)
  refine bJ ?_;refine cx 8 λa L=>?_;(go_simp;refine S.w.mono ?_;rintro b9 b1 ⟨rfl,s⟩;have i6:=s.ba Zq J;have i7:=s.ba Zq a3;have i8:=s.ba Zq a4;have i9:=s.ba Zq a5;have j0:=s.ba Zq y;have j1:=s.ba Zq a9);refine L.out _ _ ?_ (λg9=>?_)
  .go_keep
  clear L a;refine nz ?_;refine cw λa L=>?_;go_simp;refine L.out _ _ ?_;clear L a;refine nz ?_;go_wp2;go_meet;exact⟨rfl,aa ((ao [] d).aU.u s)⟩
 case rest=>
 obtain⟨rfl,s⟩:=hcut;rename Zw=>b1;have b4:=aa (a0.w.ac s.w);have a7:=(s.w.L _ (au a6) Zq).trans a6;have c2:=(s.w.L _ (au M) Zq).trans M;clear J a3 a4 a5 b7 b8 S d6 c9 a9 y a6 M a0 s;have c9:=lx c2;have a9:b1.cell? (Zd w.heap.size 2)=some (U r.of):=aS c2 rfl;have y:b1.cell? ⟨w.heap.size+1,1,none⟩=some (U n.n):=aS a7 rfl;have d5:=aa (d4.w b1 b4.w.y.fr n.n);clear d4 c2;go_wp21;refine d5.w.mono ?_;rintro b9 N ⟨rfl,c6⟩;have b5:=aa (b4.w.ac c6);have E:=(c6.L _ (au a7) Zq).trans a7;have H:N.cell? ⟨w.heap.size+1,0,none⟩=some (U n.F):=aS E rfl;replace y:N.cell? ⟨w.heap.size+1,1,none⟩=some (U n.n):=aS E rfl;have O:N.cell? ⟨w.heap.size+1,4,none⟩=some (U n.av):=aS E rfl;clear d5 c9 a9 a7 c6 b4;generalize kQ r n.n=f9 at *
 obtain⟨D,a2⟩:=f9;simp only at b3;go_upto_region 30 with fail;go_cut [14,15,16,206] (λ_ h7 _ b6 wc=>h7=U D/\b6=.bool (decide (¬nR K (D,a2) n))/\N=wc);case first=>
  as_aux_lemma=>
   go_wp2;all_goals
    go_meet
    refine⟨Zu,Yo Value.bool ?_,rfl⟩
    rw[Bool.eq_iff_iff]
    first
     |(simp_all[nR];done)
     |(simp_all[nR]<;>omega)
     |grind [nR]
     |(simp_all[nR];grind)
     |(by_cases i0:D = -1<;>by_cases i1:n.av=0<;>simp_all[nR])
 case rest=>
 obtain⟨rfl,rfl,rfl⟩:=hcut;have j6:=Gm;by_cases G:nR K (D,a2) n
 .rw[decide_eq_false (not_not_intro G)];have I:af (qD (nR K (D,a2) n) n.n n b p z x=bg (hS b p z (dS n.n)) (λq=>if n.av=1 then x q else .ok q)):=Y9 G
  have f7:=aa (b3.w G);clear G b3;go_wp21;refine(BI _ _).mono ?_;rintro b9 k4 ⟨rfl,c7⟩;have d2:=aa (b5.w.ac c7);go_wp21;refine kD d2 (yS (dS n.n) p (by simp[dS]) (by simp only;omega) h6) λf3 d3 f2=>?_;have e3:=(((c7.ak (M':=[a]) Zq).u f2.w).L _ (au E) Zx).trans E;replace O:f3.cell? ⟨w.heap.size+1,4,none⟩=some (U n.av):=aS e3 rfl;have a1:=aa (xZ d3.w h4 (c:=p+1) rfl);clear e3 E H y c7 f2 d2 b5 d3;generalize hS b p z _=b0 at *
  by_cases A:n.av=1
  .have g7:(n.av==1)=true:=by simp[A]
   cases b0 with
   |error c0=>
    obtain⟨g0,R,e5⟩:=a1.w;have P:af (bg (Except.error c0) (λq=>if n.av=1 then x q else .ok q)=.error c0):=aa rfl
    go_wp21;refine kD (aa R) (Mw e5 _ _ _) λi4 b2 _=>?_;go_wp2;go_ret;rw[I.w];exact⟨_,rfl,g0,b2.w,e5⟩
   |ok q=>
    obtain⟨e4,R,h0,h1⟩:=a1.w;have d7:=aa (f7.w A q f3 h0 h1 R.y);rw[<-e4]at d7;clear e4 a1;have P:af (bg (Except.ok q) (λq=>if n.av=1 then x q else .ok q)=x q):=by show (if n.av=1 then _ else _)=_;rw[Y9 A]
    have f6:=aa R.kp;go_wp21;refine d7.w.mono ?_;rintro b9 i4 ⟨d8,rfl,g8⟩;have b2:=aa g8;go_wp2;go_ret;rw[I.w,P.w];exact⟨_,rfl,b2.w.c3 f6.w⟩
  .have g7:(n.av==1)=false:=by simp[A]
   have P:af (bg b0 (λq=>if n.av=1 then x q else .ok q)=b0):=by
    show _=_;cases b0 with
    |error c0=>rfl
    |ok q=>show (if n.av=1 then _ else _)=_;rw[Y2 A]
   go_wp2;go_ret;rw[I.w,P.w];exact⟨_,rfl,a1.w⟩
 .rw[decide_eq_true G];have I:af (qD (nR K (D,a2) n) n.n n b p z x=.error ⟨12,p⟩):=Y2 G;go_wp21;refine kD b5 (pM 12 p) λN f4 _=>?_;go_wp2;go_ret;rw[I.w];exact⟨_,rfl,_,f4.w,Zq⟩
end
section
variable {l : Nat -> Prop} {k j : Nat} {m : Zb} {a : ai} {h f p : Zw} {d : PV} {c : Nat} {o : Ws} {v : List el} {g : Zv} {b e i : Nat}
def Mv(x:bB l k m j a d f){p:Nat}(N:p<a.A.length)(O:(a.A.getD p bP).F=14)(c0:e<=1000000000)(u o:Nat)(b9:o<=64){B:Zb}(s:gr f c (eb d a g b e i) ⟨B,0,0⟩ h){D}
  (E:o<b->∀y,gr f c (eb d a g b e i) ⟨B,0,0⟩ y->Calls prog 106 #[Zp c,U (a.A.getD p bP).of,U u,U ((o+1:Nat):Int)] y (kh f c (eb d a g b e i) y D)) :
  Calls prog 106 #[Zp c,U p,U u,U o] h (kh f c (eb d a g b e i) h (if b<=o then .error ⟨13,u⟩else D)):=by
 have z:=aa E;clear E;obtain⟨L,a4,a7,a8,a9,b0,b1,b2,b3,a5,a6,b5,b6⟩:=s.al;obtain⟨b8,b4,I,P,F,c5,c6,c7,c8,c9,d0,d1,d2,d3,d4,d5⟩:=pE (x.ah s.fr) N;have C:a.A[p]? = some (a.A.getD p bP):=Zg;obtain⟨G,H⟩:=x.d8 p _ I C F;obtain⟨a0,a1,r⟩:=bM G;obtain⟨R,S,t⟩:=bM H;obtain⟨c3,c4⟩:=I;simp only at r t;subst r t;skip;have c1:(p:Int)<(a.A.length:Int):=Zm;have J:=aa (og s);simp only[P]at L;generalize a.A.getD p bP=q at *
 clear x s G H C F;have c2:(q.F==14)=true:=Zg;have v:=aa (J.w.ac ((ao [] h).H (.cells #[U q.F,U q.n,U q.of,.slice a0 q.aR.length a1,.slice R q.bz.length S,U q.d0,Zs q.bl,U q.y] 117)));clear O;by_cases r:b<=o
 .have M:(b:Int)<=o:=Zm;rw[Y9 r];clear r;go_in;go_wp21;refine kD v (pM 13 u) λa2 w _=>?_;go_wp2;go_ret;exact⟨_,rfl,_,w.w,Zq⟩
 .have M:¬(b:Int)<=o:=Zm;rw[Y2 r];have A:=aa (z.w Zm _ v.w.y);rw[show (((o+1:Nat):Int))=(o:Int)+1 by omega]at A;have K:=aa v.w.kp;clear r z;go_in;go_wp21;refine A.w.mono ?_;rintro b7 a2 ⟨a3,rfl,t⟩;have w:=aa t;go_wp2;go_ret;exact⟨_,rfl,w.w.c3 K.w⟩
end
section
variable {g:Bool}{b:dD}{f:bD}{i:Type}
variable {v : List el} {h d e a : Nat} {c : Zb}
abbrev gN(a:el):fV:=⟨a.F,a.n,a.s,a.y,a.av⟩
def pD(v:List el)(d a:Nat)(b:Except Mar.ay ch):Except Mar.ay ch:=if d<=a\/v.length<=a then .error ⟨if d<=a then 15 else 12,a⟩else b
def Bv(h:Int)(f:fV->Bool)(e:fV×ch->Except Mar.ay i):bg (gL (v.map gN) d h f ⟨a,c⟩) e=if d<=a\/v.length<=a then .error ⟨if d<=a then 15 else 12,a⟩else if(v.getD a bL).F=h/\f (gN (v.getD a bL))=true then e (gN (v.getD a bL),⟨a+1,c⟩)else .error ⟨12,a⟩:=by
 unfold gL;by_cases b:d<=a
 .simp[b,bg]
 by_cases g:v.length<=a
 .simp[b,g,bg]
 have j:(v.map gN)[a]? = some (gN (v.getD a bL)):=Zu;simp only[b,g,j,if_false,or_self]
 split<;>rfl
theorem AS(b:Zb)(d:ch->Except Mar.ay i):bg (hS e a c b) d=if e<c.length+b.length then .error ⟨14,a⟩else d ⟨a+1,c++b⟩:=by unfold hS;split<;>rfl
theorem yR(b:Int):hY e b ⟨a+1,c⟩=hS e a c (dS b):=by
 grind [hY,kA,hS,Fj,bg]
theorem KB(b d:Zb):(if e<c.length+b.length then Except.error ⟨14,a⟩else hS e a (c++b) d)=hS e a c (b++d):=by
 unfold hS;simp only[Yq,YN];repeat' split
 all_goals (first|rfl|(exfalso;omega))
def Ra(m:b.b8=decide (f.F=2\/f.F=3))(i:∀g∈v,jU f g.n=b.c2 g.n):(cr (v.map gN) h d e).num b ⟨a,c⟩=pD v d a (wm f (v.getD a bL) e a c):=by
 show bg (gL (v.map gN) d 1 _ ⟨a,c⟩) _=_;rw[Bv];unfold pD;split
 .rfl
 rename_i k;have j:v.getD a bL∈v:=Zu;unfold wm;rw[i _ j];split
 .by_cases l:f.F=2\/f.F=3
  .simp_all[yR,AS,KB]
  simp_all[bg,yR]
 rfl
def Ri{b:Int}(m:f.F=6↔g=true)(n:f.n=b):(cr (v.map gN) h d e).text b g ⟨a,c⟩=pD v d a (wI f (v.getD a bL) e a c):=by
 show bg (gL (v.map gN) d 2 _ ⟨a,c⟩) _=_;rw[Bv];unfold pD;split
 .rfl
 unfold wI;have k:((v.getD a bL).F=2/\gF b g (gN (v.getD a bL)).s.length=true)↔((v.getD a bL).F=2/\((v.getD a bL).s.length:Int)<=f.n/\(f.F=6->((v.getD a bL).s.length:Int)=f.n)):=by
  grind [gF]
 simp only[k];split
 .have o:∀(i:Zb) (j:Zb),oB e j ⟨a+1,i⟩=hS e a i (kY j):=λi j=>by
   grind [kY,gm,oB,kA,hS,bg]
  by_cases l:f.F=6
  .simp_all[bg]
  simp_all[yR,AS,KB]
 rfl
def Hi{b}(f:Nat×ch->Except Mar.ay i):bg ((cr (v.map gN) h d e).a6 b g ⟨a,c⟩) f=if d<=a\/v.length<=a then .error ⟨if d<=a then 15 else 12,a⟩else if(v.getD a bL).F=3/\gF b g (v.getD a bL).av=true then bg (if g then .ok ⟨a+1,c⟩else hS e a c (dS (v.getD a bL).av)) (λj=>f ((v.getD a bL).av.toNat,j))else .error ⟨12,a⟩:=by
 show bg (bg (gL (v.map gN) d 3 _ ⟨a,c⟩) _) _=_;rw[Bv];split
 .rfl
 split
 .cases g
  .simp only[Ye,if_false,yR,AS]
   split<;>rfl
  rfl
 rfl
def Hh{g}(f:Int×ch->Except Mar.ay i):bg ((cr (v.map gN) h d e).de b g ⟨a,c⟩) f=if d<=a\/v.length<=a then .error ⟨if d<=a then 15 else 12,a⟩else if(v.getD a bL).F=4/\mD g (gN (v.getD a bL))=true then bg (hS e a c (dS (v.getD a bL).n)) (λj=>f ((v.getD a bL).n,j))else .error ⟨12,a⟩:=by
 show bg (bg (gL (v.map gN) d 4 _ ⟨a,c⟩) _) _=_;rw[Bv];split
 .rfl
 split
 .simp only[yR,AS];split<;>rfl
 rfl
def IB(a:jo ch):∀(b d:Nat) (c:ch),nF (λ_=>a) d b c=qJ a b c
 |0,_,_=>rfl
 |b+1,d,c=>by
  show bg (a c) (nF (λ_=>a) (d+1) b)=bg (a c) (qJ a b);congr 1;funext c;exact IB a b (d+1) c
def IA(e:Wk ch)(nm:Zb->jo ch)(d:List Ty):∀(b a:Nat) (c:ch),b+a=d.length->nF (λg=>iP e nm (d.getD g .void)) a b c=vN e nm (d.drop a) c
 |0,a,c,f=>by rw[List.drop_of_length_le Zm];rfl
 |b+1,a,c,f=>by
  rw[Yk Zm];show bg (iP e nm (d.getD a .void) c) _=bg (iP e nm d[a] c) _;rw[show d.getD a .void=d[a] by grind];congr 1;funext c;exact IA e nm d b (a+1) c Zm
end
section
variable {u:jo ch}{D':ch->Except Mar.ay ch}{f:Int}{r:bD}
section
variable {y : Nat -> Prop} {P w : Nat} {t : Zb} {e : ai} {j g z : Zw} {h : PV} {l : Nat} {v : List el} {i : Zv} {m c d : Nat} {q : ir} {o : Nl} {Kn : Zb -> Prop}
def jO:Ty->Prop
 |.plain d=>d<=4
 |.opaq a _=>0<=a/\a<=4294967295
 |.str a c=>c=false/\0<=a/\a<=4294967295
 |.arr b a _=>(0<=a/\a<=4294967295)/\b≠.void/\jO b
 |.opt b=>b≠.void/\jO b
 |_=>True
def ml:aC->Prop
 |.typedef c=>c.O≠.void/\jO c.O
 |.enum _ _ b=>b≠[]/\∀a∈b,-2147483648<=a.2.2/\a.2.2<=2147483647
 |.struct _ _ b=>b.length<=1000/\∀a∈b,a.O≠.void/\jO a.O
 |.union _ _ _ d=>((cY d).map (·.1)).Nodup/\∀c∈d,jO c.2.O
 |_=>False
structure Tb(rows:List bD)(o:Nl)(q:ir)(Kn:Zb->Prop):Prop where
 cX:∀k:Nat,k<=4->rows[k]? = some ⟨k,0,0,[],[],0,[],0⟩
 cH:∀r∈rows,r.aR.length<=1000/\r.bz.length<=1000
 o8:∀(s:Zb) (a:Nat) (f:Int) (r:bD),Kn s->rows[f.toNat]? = some r->r.F=14->r.bl=s->∃df,q s=some df/\kN rows o df r.of/\(∀p∈gR df,Kn p.1)/\ml df
 h8:∀(s t:Zb) (b:Nat) ms,aO o s=some (some (.enum t b ms))->q s=some (.enum t b ms)
 enum:∀(s t:Zb) (b:Nat) ms,aO o s=some (some (.enum t b ms))->ml (.enum t b ms)
structure Cx(y:Nat->Prop)(P w:Nat)(t:Zb)(e:ai)(g:Zw)(h:PV)(v:List el)(i:Zv)(c d:Nat)(q:ir)(o:Nl)(Kn:Zb->Prop):Prop where
 hV:bB y P t w e h g
 hN:g.ownsRow 0 52 5 i v.length (v.flatMap dQ)
 hf:c<=1000000000
 hz:d<=1000000000
 kt:∀x∈v,-9223372036854775808<=x.n/\x.n<=9223372036854775807
 tb:Tb e.A o q Kn
def qf(g:Zw)(l:Nat)(h:PV)(e:ai)(i:Zv)(m c d b:Nat)(f:Int)(u:jo ch):Prop:=∀a j,a.ag<=c->a.w.length<=d->gr g l (eb h e i m c d) ⟨a.w,0,0⟩ j->
 Calls prog 106 #[Zp l,U f,U a.ag,U b] j (kh g l (eb h e i m c d) j (u a))
def ta{a:List bD}{f:Nat}(b:a[f]? = some r):f<a.length/\a.getD f bP=r:=by
 grind
def Fb(b:Cx y P w t e g h v i c d q o Kn)(x:0<=f)(C:e.A[f.toNat]? = some r)(F:r.F≠14){k:Nat}(A:∀a,u a=pD v c a.ag (D' a))
  (s:∀a j,a.ag<c->a.ag<v.length->a.w.length<=d->gr g l (eb h e i m c d) ⟨a.w,0,0⟩ j->Calls prog 106 #[Zp l,U f,U a.ag,U k] j (kh g l (eb h e i m c d) j (D' a))):qf g l h e i m c d k f u:=by
 intro a j D z p;obtain⟨G,rfl⟩:=Int.eq_ofNat_of_zero_le x;obtain⟨B,E⟩:=ta C;rw[A];unfold pD;by_cases n:c<=a.ag\/v.length<=a.ag
 .rw[Y9 n];exact ad9 b.hV b.hN B Zu b.hf n k p
 .rw[Y2 n];exact s a j Zm Zm z p
def MA(a:Cx y P w t e g h v i c d q o Kn)(s:0<=f)(k:e.A[f.toNat]? = some r)(G:0<=r.F/\r.F<=5){n:dD}(F:n.b8=decide (r.F=2\/r.F=3))(D:∀u∈v,jU r u.n=n.c2 u.n){p}:qf g l h e i m c d p f ((cr (v.map gN) m c d).num n):=by
 refine Fb a s k Zm (D':=λb=>wm r (v.getD b.ag bL) d b.ag b.w) (λb=>Ra F D) λb j x z A B=>?_;obtain⟨I,rfl⟩:=Int.eq_ofNat_of_zero_le s;obtain⟨E,C⟩:=ta k;have H:=a.tb.cH r (Yh k);have:=aeb a.hV a.hN E Zu Zg a.hf a.hz b.ag p A x z B;rw[C]at this;exact this
def MB(b:Cx y P w t e g h v i c d q o Kn)(s:0<=f)(u:e.A[f.toNat]? = some r)(H:5<r.F/\r.F<=8){k:Int}{p:Bool}(F:r.F=6↔p=true)(E:r.n=k)(G:k<=4294967295){n}:qf g l h e i m c d n f ((cr (v.map gN) m c d).text k p):=by
 refine Fb b s u Zm (D':=λa=>wI r (v.getD a.ag bL) d a.ag a.w) (λa=>Ri F E) λa j x z A B=>?_;obtain⟨I,rfl⟩:=Int.eq_ofNat_of_zero_le s;obtain⟨D,C⟩:=ta u;have:=aef b.hV b.hN D Zu Zu b.hf b.hz a.ag n A x z B;rw[C]at this;exact this
def BF(b:Cx y P w t e g h v i c d q o Kn)(s:0<=f)(p:e.A[f.toNat]? = some r)(F:8<r.F/\r.F≠14){n:Nat}(D:∀a,u a=pD v c a.ag (D' a))
  (B:∀a k j,a.ag<c->a.ag<v.length->a.w.length<=d->dL k.1 r.aR g->dL k.2 r.bz g->gr g l (eb h e i m c d) ⟨a.w,0,0⟩ j->Calls prog 175 #[Zp l,.agg (im r k).toArray,U a.ag,U n] j (kh g l (eb h e i m c d) j (D' a))):qf g l h e i m c d n f u:=by
 refine Fb b s p F.2 D λa j x z A C=>?_;obtain⟨L,rfl⟩:=Int.eq_ofNat_of_zero_le s;obtain⟨G,E⟩:=ta p;refine aeh b.hV b.hN G Zu b.hf b.hz a.ag n A x z C λk H M I=>?_;obtain⟨J,K⟩:=b.hV.d8 L r k p H;rw[E];exact B a k M x z A J K I
end
end
section
variable {c h:Int}
section
variable {p : Nat -> Prop} {P o : Nat} {t : Zb} {i : ai} {m l q : Zw} {j : PV} {K : Nat} {v : List el} {k : Zv} {d e b : Nat} {f : ir} {n : Nl} {Kn : Zb -> Prop}
def HQ{a:Nat}(d:a<=4)(b:-9223372036854775808<=c/\c<=9223372036854775807):jU ⟨a,0,0,[],[],0,[],0⟩ c=(dF a).c2 c:=by
 have:a=0\/a=1\/a=2\/a=3\/a=4:=Zm;rw[Bool.eq_iff_iff];rcases this with rfl|rfl|rfl|rfl|rfl<;>simp[jU,dF,dD.c2]<;>omega
def HP{a}(b:ml (.enum t P a))(c:Int):jU (ut a) c=(hP a).c2 c:=by
 obtain⟨d,e⟩:=b;rw[Bool.eq_iff_iff];simp only[jU,hP,dD.c2,d,if_false,Bool.and_eq_true,decide_eq_true_eq]
 grind
def aes(q:Cx p P o t i l j v k e b f n Kn){B x}(b0:∀(A:Zb) (r:bD) (s:Int),0<=s->Kn A->i.A[s.toNat]? = some r->r.F=14->r.bl=A->qf l K j i k d e b x s (jh (cr (v.map gN) d e b) f B x A)) :
  ∀(z:Ty),jO z->z≠.void->(∀h∈eV z,Kn h.1)->∀s,dE i.A z s->qf l K j i k d e b x s (iP (cr (v.map gN) d e b) (jh (cr (v.map gN) d e b) f B x) z):=by
 intro z;induction z with
 |void=>simp
 |plain a8=>
  rintro - - - s ⟨rfl,E⟩;refine MA q (r:=⟨a8,0,0,[],[],0,[],0⟩) Zm (by simpa using q.tb.cX a8 E) Zg ?_ λa9 b4=>HQ E (q.kt a9 b4);grind [dF]
 |named A b1=>
  rintro - - D s ⟨u,r,w,E,b3,-⟩;exact b0 A r s u (D (A,b1) (by simp[eV])) w E b3
 |opaq c g=>
  rintro C - - s ⟨u,w⟩;exact MB q u w (by cases g<;>simp[fu]) (by cases g<;>simp[fu]) rfl C.2
 |str c g=>
  rintro⟨rfl,-,R⟩ - - s ⟨u,w⟩;exact MB q u w (by simp[fu]) (by simp[fu]) rfl R
 |arr F c g a5=>
  rintro⟨R,a0,C⟩-D s ⟨u,y,w,S⟩;have G:=a5 C a0 (λh a1=>D h a1) y S;refine BF q u w (by cases g<;>simp[dP]) (D':=λa=>uC (dP (if g then 9 else 10) c y) (v.getD a.ag bL) b a.ag a.w λ_=>iP (cr (v.map gN) d e b) (jh (cr (v.map gN) d e b) f B x) F) (λa=>?_) λa b6 m L M N a3 a4 O=>?_
  .show bg ((cr (v.map gN) d e b).a6 c g ⟨a.ag,a.w⟩) _=_;rw[Hi];unfold pD uC;congr 1;have a7:tf (dP (if g then 9 else 10) c y) (v.getD a.ag bL)↔((v.getD a.ag bL).F=3/\gF c g (v.getD a.ag bL).av=true):=by
    cases g<;>simp[tf,dP,gF]
   simp only[a7];rw[show nF (λ_=>iP (cr (v.map gN) d e b) (jh (cr (v.map gN) d e b) f B x) F) 0 (v.getD a.ag bL).av.toNat=qJ _ _ from funext λa=>IB _ _ _ a];cases g<;>rfl
  .refine MK q.hN a3 a4 q.hf q.hz R (by simp[dP]) N L M O (by cases g<;>simp[dP]) λ_ b5 H a6 _ I J a2=>?_;have b2:tu (dP (if g then 9 else 10) c y) b5=y:=by cases g<;>simp[tu,dP]
   rw[b2];exact G H a6 I J a2
 |opt F a5=>
  rintro⟨a0,C⟩-D s ⟨u,y,w,S⟩;have G:=a5 C a0 (λh a1=>D h a1) y S;refine BF q u w (by simp[dP]) (D':=λa=>qD (sb (v.getD a.ag bL)) (v.getD a.ag bL).av (v.getD a.ag bL) b a.ag a.w (iP (cr (v.map gN) d e b) (jh (cr (v.map gN) d e b) f B x) F)) (λa=>?_) λa b6 m L M N a3 a4 O=>?_
  .show bg ((cr (v.map gN) d e b).de (dF 4) sO ⟨a.ag,a.w⟩) _=_;rw[Hh];unfold pD qD;congr 1;have a7:((v.getD a.ag bL).F=4/\mD sO (gN (v.getD a.ag bL))=true)↔sb (v.getD a.ag bL):=by
    generalize v.getD a.ag bL=a9;unfold mD sO sb;grind
   grind
  .exact aeB q.hN a3 a4 q.hf q.hz N L M O rfl λH a6 I J a2=>G H a6 I J a2
def Gn:∀{e f:List Int},ol e f c=some h->∃d:Nat,e[d]? = some c/\f[d]? = some h
 |a::e,g::f,b=>by
  unfold ol at b;split at b
  .rename_i k;cases b
   exact⟨0,Zg,Zq⟩
  .obtain⟨d,i,j⟩:=Gn b;exact⟨d+1,Zu,Zu⟩
def Gp:∀{d e:List Int},d.length=e.length->ol d e c=none->c ∉ d
 |[],_,_,_=>by simp
 |a::d,f::e,h,b=>by
  unfold ol at b;split at b
  .cases b
  .rename_i g;have:=Gp Zu b;grind
def AY{d b}(a:dE d b h):(h = -1↔ly b=true)/\h≠-2:=by
 cases b with
 |void=>have:h = -1:=a;subst this;simp[ly]
 |plain c=>have f:h=c:=a.1;simp[ly];omega
 |_=>have e:=a.1;simp[ly];omega
def Kg{b:List (List Int×aW)}{a:List Int×aW}(e:a∈b)(d:c∈a.1):(c,a.2)∈cY b:=List.mem_flatMap.2 ⟨a,e,YE.2 ⟨c,d,rfl⟩⟩
def Ph{o b}{j:List Int}{f of:Int}(B:((cY b).map (·.1)).Nodup)(F:j.length=(cY b).length)(H:∀(i:Nat) (h:Int) (q:Int×aW),j[i]? = some h->(cY b)[i]? = some q->dE o q.2.O h)
  (k:match jb b with|none=>f = -2|some d=>dE o d.O f) (C:∀a∈b,a.1=[]->jb b=some a.2) (c:Int):match lS b c with
   |none=>(kQ ⟨13,0,of,(cY b).map (·.1),j,f,[],0⟩ c).2=false
   |some v=>(kQ ⟨13,0,of,(cY b).map (·.1),j,f,[],0⟩ c).2=true/\dE o v (kQ ⟨13,0,of,(cY b).map (·.1),j,f,[],0⟩ c).1/\∃a∈b,a.2.O=v:=by
 unfold kQ;simp only;cases s:ol ((cY b).map (·.1)) j c with
 |some h=>
  obtain⟨i,e,D⟩:=Gn s;rw[List.getElem?_map]at e;cases n:(cY b)[i]? with
  |none=>simp_all
  |some q=>
   rw[n]at e;simp only[Option.map_some,Yu]at e;obtain⟨a,g,z⟩:=List.mem_flatMap.1 (Yh n);obtain⟨r,G,rfl⟩:=YE.1 z;simp only at e;subst e;have m:∃l,b.reverse.find? (λa=>a.1.contains r)=some l:=by
    cases t:b.reverse.find? (λa=>a.1.contains r)<;>grind
   obtain⟨l,m⟩:=m;have x:l∈b:=Zg;have y:r∈l.1:=Zg;obtain⟨u,p⟩:=List.getElem?_of_mem (Kg x y);have w:u=i:=by
    have I:=(YB.1 p).1;have J:=(YB.1 n).1;refine wl B u i Zu Zu ?_;simp_all
   subst w;rw[n]at p;simp only[Yu,Prod.mk.injEq,true_and]at p;unfold lS;grind
 |none=>
  have A:=Gp Zg s;have m:b.reverse.find? (λa=>a.1.contains c)=none:=by
   rw[List.find?_eq_none];intro a g E;exact A (YE.2 ⟨_,Kg (by simpa using g) Zu,rfl⟩)
  unfold lS;rw[m];simp only;cases t:b.reverse.find? (λa=>a.1.isEmpty)with
  |none=>
   have:jb b=none:=by
    unfold jb;rw[List.find?_eq_none.2 (λa g=>List.find?_eq_none.1 t a Zu)];rfl
   simp_all
  |some a=>
   have g:a∈b:=Zg;have e:a.1=[]:=Zg;rw[C a g e]at k;have k:dE o a.2.O f:=k;exact⟨by have:=(AY k).2;simp_all,k,a,g,rfl⟩
theorem Gh(c a:Int):gF c true a=true↔a=c:=by simp[gF]
def Mz(q:Cx p P o t i l j v k e b f n Kn){g dp}(c5:∀(M:Zb) (F:bD) (E:Int),0<=E->Kn M->i.A[E.toNat]? = some F->F.F=14->F.bl=M->qf l K j i k d e b dp E (jh (cr (v.map gN) d e b) f g dp M))(L:aC)(y:ml L)(b4:∀h∈gR L,Kn h.1)(E:Int)(w:kN i.A n L E):qf l K j i k d e b dp E (qr (cr (v.map gN) d e b) f (jh (cr (v.map gN) d e b) f g dp) L):=by
 have a1:=aes q c5;cases L with
 |const u J a=>exact y.elim
 |prog u J a e7=>exact y.elim
 |typedef u=>exact a1 u.O y.2 y.1 b4 E w.1
 |enum u J r=>exact MA q w.1 w.2 Zq rfl λc _=>HP (t:=u) (P:=J) y c.n
 |struct u J r=>
  obtain⟨a7,I,w,b2,C⟩:=w;refine BF q a7 w Zq (D':=λa=>uC ⟨12,0,0,[],I,0,[],0⟩ (v.getD a.ag bL) b a.ag a.w λx=>iP (cr (v.map gN) d e b) (jh (cr (v.map gN) d e b) f g dp) ((r.map (·.O)).getD x .void)) (λa=>?_) λa d8 m a8 a9 b0 b6 b7 R=>?_
  .show bg ((cr (v.map gN) d e b).a6 r.length true ⟨a.ag,a.w⟩) _=_;rw[Hi];unfold pD uC;congr 1;have a4:tf ⟨12,0,0,[],I,0,[],0⟩ (v.getD a.ag bL)↔((v.getD a.ag bL).F=3/\gF r.length true (v.getD a.ag bL).av=true):=by
    simp_all[Gh]
   simp only[a4];split
   .rename_i D;have d3:=(Gh ..).1 D.2;rw[d3,Int.toNat_natCast];exact(IA _ _ (r.map (·.O)) r.length 0 _ Zq).symm
   rfl
  .refine MK q.hN b6 b7 q.hf q.hz Zq (by simp only;rw[b2];have:=y.1;omega) b0 a8 a9 R Zq λD x G b9 e4 B a3 b5=>?_;have b1:x<r.length:=by
    simp_all
   have c6:tu ⟨12,0,0,[],I,0,[],0⟩ x=I[x]' Zm:=by grind [tu]
   have c7:(r.map (·.O)).getD x .void=r[x].O:=Zg;rw[c6,c7];have b3:=y.2 r[x] (Yy b1);exact a1 r[x].O b3.2 b3.1 (λh C=>b4 h (List.mem_flatMap.2 ⟨_,Yy b1,C⟩)) _ (C x _ _ (Yd Zm) (Yd b1)) G b9 B a3 b5
 |union u J N A=>
  obtain⟨a7,of,I,c8,w,d4,b2,C,d0,d7⟩:=w;have c0:=Ph (of:=of) y.1 b2 C d0 d7;obtain⟨z,d2,d1,d5⟩:∃z:Nat,of=z/\z<i.A.length/\∀c∈v,jU (i.A.getD z bP) c.n=(nN f N.O).c2 c.n:=by
   rcases d4 with⟨b8,B,e5,rfl⟩|⟨M,d9,f1,e1,r,B,R,c1,c9⟩
   .have c3:b8<=4:=Zm;obtain⟨a5,a6⟩:=ta (q.tb.cX b8 c3);exact⟨b8,rfl,a5,λc S=>by rw[a6,B];exact HQ c3 (q.kt c S)⟩
   .obtain⟨a5,a6⟩:=ta c9;refine⟨of.toNat,Zm,a5,λc S=>?_⟩;rw[a6,B];show _=(match f M with|some (.enum _ _ r)=>hP r|_=>vm).c2 c.n;rw[q.tb.h8 _ _ _ _ c1];exact HP (q.tb.enum _ _ _ _ c1) c.n
  subst d2;generalize e2:(⟨13,0,(z:Int),(cY A).map (·.1),I,c8,[],0⟩:bD)=F at *
  refine BF q a7 w Zg (D':=λa=>qD (nR (jU (i.A.getD z bP) (v.getD a.ag bL).n) (kQ F (v.getD a.ag bL).n) (v.getD a.ag bL)) (v.getD a.ag bL).n (v.getD a.ag bL) b a.ag a.w λG=>match lS A (v.getD a.ag bL).n with|some a0=>iP (cr (v.map gN) d e b) (jh (cr (v.map gN) d e b) f g dp) a0 G|none=>.error ⟨0,0⟩) (λa=>?_) λa d8 m a8 a9 b0 b6 b7 R=>?_
  .show bg ((cr (v.map gN) d e b).de (nN f N.O) (sJ f N.O A) ⟨a.ag,a.w⟩) _=_;rw[Hh];unfold pD;split
   .rfl
   rename_i e6;have S:v.getD a.ag bL∈v:=Zg;generalize v.getD a.ag bL=c at *
   have s:=c0 c.n;unfold qD;have a4:(c.F=4/\mD (sJ f N.O A) (gN c)=true)↔nR (jU (i.A.getD z bP) c.n) (kQ F c.n) c:=by
    unfold mD sJ nR;simp only;rw[d5 c S];generalize (nN f N.O).c2 c.n=e3;cases H:lS A c.n with
    |none=>
     grind
    |some a0=>
     rw[H]at s;obtain⟨e0,O,-⟩:=s;have a2:=(AY O).1;grind
   simp only[a4];split
   .rename_i D;congr 1;funext G;cases H:lS A c.n with
    |none=>
     grind
    |some a0=>
     rw[H]at s;have a2:=(AY s.2.1).1;obtain⟨-,-,-,e8,e9,f0⟩:=D;by_cases c4:c.av=1
     .grind
     .rw[Y2 c4];grind [ly,iP]
   rfl
  .have b3:=q.tb.cH _ (Yh w);refine aeC q.hV q.hN b6 b7 q.hf q.hz Zg Zm Zg d1 (by have:=q.tb.cH (i.A.getD z bP) Zg;omega) b0 a8 a9 R Zg λD c4 G b9 B a3 b5=>?_;generalize v.getD a.ag bL=c at *
   have s:=c0 c.n;cases H:lS A c.n with
   |none=>
    rw[H]at s;have s:(kQ F c.n).2=false:=s;rw[D.2.2.1]at s;cases s
   |some a0=>
    rw[H]at s;obtain⟨-,O,u,c2,rfl⟩:=s;have a2:=(AY O).1;refine a1 u.2.O (y.2 u c2) (λd6=>?_) (λh C=>b4 h (List.mem_flatMap.2 ⟨u,c2,C⟩)) _ O G b9 B a3 b5;have:=D.2.2.2.2.2.1 (a2.2 (by rw[d6];rfl));omega
def aer(r:Cx p P o t i l j v k e b f n Kn)(a4:d<=64):∀(s a:Nat),s+a=64->∀(q:Zb) (h:bD) (u:Int),0<=u->Kn q->i.A[u.toNat]? = some h->h.F=14->h.bl=q->qf l K j i k d e b a u (jh (cr (v.map gN) d e b) f s a q):=by
 intro s;induction s with
 |zero=>
  intro a S q h u y I x F G g m B C A;obtain⟨c,rfl⟩:=Int.eq_ofNat_of_zero_le y;obtain⟨z,E⟩:=ta x;have:=Mv r.hV z Zu r.hf g.ag a Zm A (D:=.error ⟨0,0⟩) (λa3=>by omega);rw[Y9 Zm]at this;show Calls _ _ _ _ (kh _ _ _ _ (bg (if d<=a then .error ⟨13,g.ag⟩else .ok g) _))
  rw[Y9 Zm];exact this
 |succ s a1=>
  intro a S q h u y I x F G g m B C A;obtain⟨w,M,O,N,R⟩:=r.tb.o8 q 0 u h I x F G;have J:=Mz (K:=K) (d:=d) r (a1 (a+1) Zm) w R N h.of O;obtain⟨c,rfl⟩:=Int.eq_ofNat_of_zero_le y;obtain⟨z,E⟩:=ta x;have:=Mv r.hV z Zu r.hf g.ag a Zm A (D:=qr (cr (v.map gN) d e b) f (jh (cr (v.map gN) d e b) f s (a+1)) w g) (λ_ a2 a0=>by rw[E];exact J g a2 B C a0);show Calls _ _ _ _ (kh _ _ _ _ (bg (if d<=a then .error ⟨13,g.ag⟩else .ok g) (λL=>match f q with|some w=>qr _ f _ w L|none=>.error ⟨0,0⟩)))
  rw[M];by_cases H:d<=a
  .rw[Y9 H]at this ⊢;exact this
  .rw[Y2 H]at this ⊢;exact this
end
end
section
variable {l : Nat -> Prop} {k h : Nat} {n : Zb} {a : ai} {b o e : Zw} {f : PV} {K : Nat} {v : List el} {g : Zv} {d i j : Nat} {c : ir} {m : Nl} {Kn : Zb -> Prop}
abbrev nG(a b c:Int):Prop:=0<=a/\a<=64/\0<=b/\b<=10000/\0<=c/\c<=100000
abbrev qx(a b c:Int):Zv:=.agg #[U a,U b,U c]
def Vc(a c d:Int)(b:Zw):Calls prog 62 #[qx a c d] b λe f=>e=.returned (.bool (decide (nG a c d)))/\an [] b f:=by
 go_in;go_wp2;all_goals
  go_ret
  refine⟨oE ?_,(ao [] b).H _⟩
  rw[Bool.eq_iff_iff]
  simp[nG]
  try omega
def gM(a:ai)(b:Zb):Int:=if ce a b<0\/(a.K.getD (ce a b).toNat iC).a7≠1 then -1 else (a.K.getD (ce a b).toNat iC).n
def adR(i:bB l k n h a f b)(A:h<=1000000000)(d:Zb):Calls prog 61 #[jj f a,Zs d] b λg D=>g=.returned (U (gM a d))/\an [] b D:=by
 obtain⟨G,I,p⟩:=bM i.K;have e:=aa (λC=>rO (i.ah ((ao [] b).H C)) A d);unfold jj;rw[p]at e ⊢;have s:=aa i;clear i;by_cases t:ce a d<0
 .have c:af (gM a d = -1):=Y9 (Y8 t);go_in;go_wp21;refine(e.w _).mono ?_;rintro g x ⟨rfl,rfl⟩;go_wp2;go_ret;exact⟨by rw[c.w];rfl,(ao [] b).H _⟩
 .have o:=uw (by omega:0<=ce a d);obtain⟨J,H,m,E,y,z,F,M,N,-⟩:=tp s.w o;rw[p]at m;simp only[Value.slice.injEq,true_and]at m;obtain⟨rfl,rfl⟩:=m;have u:gM a d=if(a.K.getD (ce a d).toNat iC).a7≠1 then -1 else (a.K.getD (ce a d).toNat iC).n:=by
   unfold gM;omega
  have r:=aa u;obtain⟨q,v⟩:=Int.eq_ofNat_of_zero_le (by omega:0<=ce a d);rw[v]at e r y z o;simp only[Int.toNat_natCast]at r y z o;generalize a.K.getD q iC=j at *
  have K:¬(q:Int)<0:=Zm;have L:(q:Int)<a.K.length:=Zm;clear v t p u E F s;by_cases w:j.a7=1
  .have B:(j.a7 != 1)=false:=Zg;have c:af (gM a d=j.n):=Zu;clear w;go_in;go_wp21;refine(e.w _).mono ?_;rintro g x ⟨rfl,rfl⟩;go_wp2;go_ret;exact⟨by rw[c.w];rfl,(ao [] b).H _⟩
  .have B:(j.a7 != 1)=true:=Zg;have c:af (gM a d = -1):=Zu;clear w;go_in;go_wp21;refine(e.w _).mono ?_;rintro g x ⟨rfl,rfl⟩;go_wp2;go_ret;exact⟨by rw[c.w];rfl,(ao [] b).H _⟩
def uq:Except Mar.ay (Zb)->Zv
 |.ok b=>.tuple #[.string ⟨b.toArray⟩,.int .i64 0,.int .i64 0]
 |.error a=>.tuple #[.string ⟨#[]⟩,.int .i64 a.no,.int .i64 a.y]
def so(b:Except Mar.ay (Zb)):Prop:=∀a,b=.error a->(a.no:Int)≠0
def NG(o:Zw)(K:Nat)(d:Wp)(b:Zw)(f:Except Mar.ay (Zb))(e:Zw):Prop:=match f with
 |.ok a=>hq o K d b ⟨a,0,0⟩ e
 |.error c=>∃a,hq o K d b ⟨a,c.no,c.y⟩ e/\(c.no:Int)≠0
def Rk(x:Cx l k h n a b f v g i j c m Kn){a5 M r}(R:qf b (b.heap.size+2) f a g d i j M a5 r):Calls prog 63 #[jj f a,U a5,g,qx d i j,U M] b λN z=>an [] b z/\N=.returned (uq (bg (r ⟨0,[]⟩) λo=>if o.ag<v.length then .error ⟨12,o.ag⟩else .ok o.w))/\so (bg (r ⟨0,[]⟩) λo=>if o.ag<v.length then .error ⟨12,o.ag⟩else .ok o.w):=by
 obtain⟨b8,c3,a4⟩:=bM x.hV.A;obtain⟨b6,c1,a2⟩:=bM x.hV.K;obtain⟨b7,c2,a3⟩:=bM x.hV.aq;obtain⟨c6,c7,a1⟩:=bM x.hN;have I:=aa R;generalize p:(bg (r ⟨0,[]⟩) λo=>if o.ag<v.length then Except.error ⟨12,o.ag⟩else Except.ok o.w)=y
 have J:=aa p;clear p;unfold jj qx;rw[a4,a2,a3,a1];go_in;go_wp21;generalize H:World.alloc (World.alloc (World.alloc b _) _) _=e;have D:af (hq b (b.heap.size+2) (eb f a g d i j) e ⟨[],0,0⟩ e):=by
  refine aa (og ⟨?_,Zm,?_⟩)
  .subst H;exact(((ao [] b).H _).H _).H _
  .subst H;simp only[eb,BH,a4,a2,a3,a1];exact aQ Zq
 have a0:an [] b e:=D.w.y.fr;have b5:=aa a0;clear H a0;have L:=aa (I.w ⟨0,[]⟩ e Zq Zq D.w.y);refine L.w.mono ?_;rintro N c8 ⟨t,rfl,P⟩;have A:=aa P;generalize r ⟨0,[]⟩=b1 at *
 clear P L I R D;go_upto_if 27 with fail;go_cut [] (λwc=>af (NG b (b.heap.size+2) (eb f a g d i j) e y wc));case first=>
  have p:=J.w;cases b1 with
  |error u=>
   obtain⟨E,s,w⟩:=A.w;have p:Except.error u=y:=p;subst p;by_cases G:t<v.length
   .go_wp21;refine kD (aa s) (pM 12 t) λb2 B _=>?_;go_wp2;go_meet;refine aa ⟨E,?_,w⟩;have:=B.w;simp_all[qu]
   .go_wp2;go_meet;exact aa ⟨E,s,w⟩
  |ok o=>
   obtain⟨F,s,-,-⟩:=A.w;have p:(if o.ag<v.length then Except.error ⟨12,o.ag⟩else Except.ok o.w)=y:=p
   subst p;by_cases G:o.ag<v.length
   .have a9:t<v.length:=Zm;have a6:=aa F;clear F;go_wp21;refine kD (aa s) (pM 12 t) λb2 B _=>?_;go_wp2;go_meet;rw[Y9 G];refine aa ⟨o.w,?_,Zq⟩;have:=B.w;unfold qu at this;rw[Y9 rfl,a6.w]at this;omega
   .have a9:¬t<v.length:=Zm;clear F;go_wp2;go_meet;rw[Y2 G];exact aa s
 case rest=>
 rename Zw=>b3;clear A J;cases y with
 |ok a7=>
  have q:hq b (b.heap.size+2) (eb f a g d i j) e ⟨a7,0,0⟩ b3:=hcut.w;obtain⟨-,-,-,-,-,-,-,-,c0,a8,-,-,b0⟩:=q.y.al;have C:=aa q.y.fr;clear hcut q;go_wp2;go_ret3;exact⟨C.w,rfl,λ_ O=>by cases O⟩
 |error u=>
  obtain⟨E,q,w⟩:=hcut.w;obtain⟨-,-,-,-,-,-,-,-,-,a8,b9,-,b0⟩:=q.y.al;have c5:((u.no:Int) != 0)=true:=Zu;have C:=aa q.y.fr;have b4:=aa w;clear hcut q w;go_wp2;refine cy (λz=>z.cell? ⟨b.heap.size+1+1,10,none⟩=some (U u.no)/\z.cell? ⟨b.heap.size+1+1,11,none⟩=some (U u.y)) ?_ λc4=>?_
  .go_keep
  refine bI [0,1,2,3,4,5,6,7,8,9] ?_;iterate 10 (refine bK ?_)
  refine bJ ?_;refine cw λK S=>?_;go_simp;refine S.out _ _ ?_;clear S K;refine nz ?_;go_wp2;go_ret3;exact⟨C.w.aU,rfl,λ_ O=>by simp_all⟩
def Cx.ac(d:Cx l k h n a b f v g i j c m Kn)(o:an [] b e):Cx l k h n a e f v g i j c m Kn:=⟨d.hV.ah o,bw d.hN o Zq,d.hf,d.hz,d.kt,d.tb⟩
def NC(w:bB l k n h a f b)(a4:h<=1000000000)(O:b.ownsRow 0 52 5 g v.length (v.flatMap dQ))(a3:∀c0∈v,-9223372036854775808<=c0.n/\c0.n<=9223372036854775807)(b7:Tb a.A m c Kn)(p:Zb)(b2:0<=gM a p->∃r,c p=some r/\kN a.A m r (gM a p)/\(∀e3∈gR r,Kn e3.1)/\ml r)(i j o:Int) :
  Calls prog 35 #[jj f a,Zs p,g,qx i j o] b λt a0=>an [] b a0/\t=.returned (if gM a p<0 then .tuple #[.string ⟨#[]⟩,U 10,U (-1)]else if ¬nG i j o then .tuple #[.string ⟨#[]⟩,U 11,U (-1)]else uq (jd c p (v.map gN) i.toNat j.toNat o.toNat))/\(0<=gM a p->nG i j o->so (jd c p (v.map gN) i.toNat j.toNat o.toNat)):=by
 have D:=aa (λ(e:Zw) (R:an [] b e)=>adR (w.ah R) a4 p);have a2:=aa (λ(e:Zw)=>Vc i j o e);have z:af (0<=gM a p->nG i j o->i≠0->∀e,an [] b e->Calls prog 63 #[jj f a,U (gM a p),g,qx i j o,U 1] e λt a0=>an [] e a0/\t=.returned (uq (jd c p (v.map gN) i.toNat j.toNat o.toNat))/\so (jd c p (v.map gN) i.toNat j.toNat o.toNat)):=by
  intro u s q e R;obtain⟨r,d7,d9,d8,e0⟩:=b2 u;have L:=(⟨w,O,Zm,Zm,a3,b7⟩:Cx l k h n a b f v g j.toNat o.toNat c m Kn).ac R;have c8:=Mz (K:=e.heap.size+2) (d:=i.toNat) (g:=63) (dp:=1) L (aer L Zm 63 1 rfl) r e0 d8 _ d9;have:=Rk L c8;have A:(bg (qr (cr (v.map gN) i.toNat j.toNat o.toNat) c (jh (cr (v.map gN) i.toNat j.toNat o.toNat) c 63 1) r ⟨0,[]⟩) λA=>if A.ag<v.length then Except.error ⟨12,A.ag⟩else Except.ok A.w)=jd c p (v.map gN) i.toNat j.toNat o.toNat:=by
   unfold jd;show _=bg (bg (if i.toNat<=0 then .error ⟨13,0⟩else .ok (⟨0,[]⟩:ch)) (λd5=>match c p with|some r=>qr _ c _ r d5|none=>.error ⟨0,0⟩)) _
   rw[Y2 Zm,d7];simp only[YU];rfl
  rw[A,show ((i.toNat:Nat):Int)=i by omega,show ((j.toNat:Nat):Int)=j by omega,show ((o.toNat:Nat):Int)=o by omega]at this;exact this
 have a1:af (i=0->uq (jd c p (v.map gN) i.toNat j.toNat o.toNat)=.tuple #[.string ⟨#[]⟩,U 13,U 0]):=by
  intro q;subst q;rfl
 obtain⟨d1,d4,b0⟩:=bM w.A;obtain⟨c9,d2,a7⟩:=bM w.K;obtain⟨d0,d3,a8⟩:=bM w.aq;obtain⟨e6,e7,a6⟩:=bM O;unfold jj at D z ⊢;rw[b0,a7,a8]at D z ⊢;rw[a6]at z ⊢;have c1:af (i=0->so (jd c p (v.map gN) i.toNat j.toNat o.toNat)):=by
  intro q;subst q;intro d6 E;cases E
  simp
 have c4:∃J M N,uq (jd c p (v.map gN) i.toNat j.toNat o.toNat)=.tuple #[.string J,U M,U N]:=by
  cases jd c p (v.map gN) i.toNat j.toNat o.toNat<;>exact⟨_,_,_,rfl⟩
 generalize uq (jd c p (v.map gN) i.toNat j.toNat o.toNat)=e8 at *
 generalize so (jd c p (v.map gN) i.toNat j.toNat o.toNat)=e9 at *
 obtain⟨J,M,N,rfl⟩:=c4;generalize gM a p=b8 at *
 clear w a4 O a3 b7 b2 b0 a7 a8 a6;generalize a9:(if b8<0 then _ else _:Zv)=b6
 have G:=aa a9;clear a9;go_in;go_wp21;generalize F:World.alloc (World.alloc b _) _=e;have H:af (e.heap[b.heap.size]? = some (nc (.slice d1 a.A.length d4) (.slice c9 a.K.length d2) (.slice d0 a.aq.length d3) (Zs a.w))):=by
  subst F;exact(((ao [] _).H _).L _ Zq Zq).trans (aQ rfl)
 have x:af (e.heap[b.heap.size+1]? = some (.cells #[U i,U j,U o] 73)):=by
  subst F;exact aQ Zq
 have I:af (an [] b e):=by subst F;exact((ao [] b).H _).H _
 clear F;refine(D.w e I.w).mono ?_;rintro t e4 ⟨rfl,S⟩;have a5:=(S.L _ (au x.w) Zq).trans x.w;have b4:=lx a5;go_wp21;refine(a2.w e4).mono ?_;rintro t b9 ⟨rfl,b3⟩;have C:=aa (S.u b3);have P:=(C.w.L _ (au x.w) Zq).trans x.w;have b1:=(C.w.L _ (au H.w) Zq).trans H.w;clear b4 a5 S b3 D a2;have b4:b9.cell? ⟨b.heap.size+1,0,none⟩=some (U i):=aS P rfl;have e5:=lx P;have f0:=lx b1;have y:=aa (I.w.u C.w);clear P b1 H x I C;by_cases u:b8<0
 .go_wp2;go_ret3;exact⟨y.w,by rw[<-G.w,Y9 u];rfl,λE=>absurd u Zm⟩
 by_cases s:nG i j o
 .have B:af (b6=.tuple #[.string J,U M,U N]):=by show _=_;rw[<-G.w,Y2 u,Y2 (not_not_intro s)]
  rw[decide_eq_true s];by_cases q:i=0
  .have e1:(i==0)=true:=by simp[q]
   have c2:=aa (a1.w q);have c3:=aa (c1.w q);clear q;go_wp2;go_ret3;exact⟨y.w,by rw[B.w,c2.w];rfl,λ_ _=>c3.w⟩
  .have e1:(i==0)=false:=by simp[q]
   have c7:=aa (z.w Zm s q b9 y.w);clear z a1 q s;go_wp21;refine c7.w.mono ?_;rintro t f1 ⟨e2,rfl,b5⟩;have c6:=aa b5;clear b5;have c5:=aa (y.w.u e2);go_wp2;go_ret3;exact⟨c5.w,by rw[B.w];rfl,λ_ _=>c6.w⟩
 .rw[decide_eq_false s];have B:af (b6=.tuple #[.string ⟨#[]⟩,U 11,U (-1)]):=by show _=_;rw[<-G.w,Y2 u,Y9 s]
  go_wp2;go_ret3;exact⟨y.w,by rw[B.w];rfl,λ_ E=>absurd E s⟩
end
section
variable {a : ai}
theorem HG{b:Nat}{c}(d:a.A[b]? = some c):(dG a).A[b]? = some (gK a c):=by
 show (a.A.map (gK a))[b]? = _;simp_all
def rR{c:Nat}{b}(d:a.A[c]? = some b)(e:b.F≠14):(dG a).A[c]? = some b:=by
 simp_all[HG,gK]
theorem dE.cu:∀{g:Ty} {d:Int},dE a.A g d->dE (dG a).A g d:=by
 intro g;induction g with
 |plain e=>intro d b;exact b
 |named p l=>rintro d ⟨c,o,b,e,m,n⟩;exact⟨c,_,HG b,by simp_all[gK]⟩
 |opaq j f=>rintro d ⟨c,b⟩;exact⟨c,rR b (by cases f<;>simp[fu])⟩
 |str j f=>rintro d ⟨c,b⟩;exact⟨c,rR b (by simp[fu])⟩
 |arr k j f h=>rintro d ⟨c,i,b,e⟩;exact⟨c,i,rR b (by cases f<;>simp[dP]),h e⟩
 |opt k h=>rintro d ⟨c,i,b,e⟩;exact⟨c,i,rR b (by simp[dP]),h e⟩
 |void=>intro d b;exact b
theorem lm.cu{c d of}(b:lm a.A c d of):lm (dG a).A c d of:=by
 rcases b with b|⟨l,e,m,f,k,g,h,i,j⟩
 .exact Y8 b
 .exact Ya ⟨l,e,m,f,k,g,h,i,rR j Zq⟩
theorem kN.cu{p e o}(d:kN a.A p e o):kN (dG a).A p e o:=by
 cases e with
 |const b c f=>exact d
 |prog b c f e=>exact d
 |typedef e=>exact⟨d.1.cu,d.2⟩
 |enum b c f=>exact⟨d.1,rR d.2 Zq⟩
 |struct b c f=>
  obtain⟨g,n,h,i,j⟩:=d;exact⟨g,n,rR h Zq,i,λk m l b c=>(j k m l b c).cu⟩
 |union b c f t=>
  obtain⟨g,of,n,q,h,i,j,r,u,s⟩:=d;refine⟨g,of,n,q,rR h Zq,i.cu,j,λk m l b c=>(r k m l b c).cu,?_,s⟩;grind [dE.cu]
end
section
variable {c : Zb} {a : List aC} {d : cB} {b : St} {σ : ai}
def Wh.i7(g:Wh c a d b σ){i e j}(f:uc c b d σ i e j):e∈a:=by
 obtain⟨k,h,-⟩:=f.y;have:e∈d.nl.filterMap lg:=List.mem_filterMap.2 ⟨_,Yh h,by simp[lg,f.O]⟩;rw[g.nl]at this;simp_all
def Wh.h2(i:Wh c a d b σ)(j:oT a){g f k}(e:uc c b d σ g f k):ff a g=some f:=by
 obtain⟨l,m,h⟩:=List.append_of_mem (i.i7 e);rw[<-e.g9];exact j.h2 h e.O
def KE(a:bD):(gK σ a).F=a.F/\(gK σ a).bl=a.bl/\(gK σ a).aR=a.aR/\(gK σ a).bz=a.bz:=by
 unfold gK;grind
def Wh.tb(e:Wh c a d b σ)(E:lI b a)(y:oT a)(z:∀k∈a,ei k=true->ml k):Tb (dG σ).A d.nl (ff a) λl=>fh b l=true:=by
 have B:b.K=d.nl:=by rw[e.q.nl,e.pd];simp
 have key:∀l,fh b l=true->∃o,ff a l=some o/\kN (dG σ).A d.nl o (gb σ l).n/\(∀v∈gR o,fh b v.1=true)/\ml o:=λl p=>by
  obtain⟨k,s,f⟩:=e.gB p;have A:=e.i7 f;refine⟨k,e.h2 y f,by rw[f.bl];exact f.hp.cu,λv F=>E v (List.mem_flatMap.2 ⟨k,A,F⟩),z k A f.O⟩
 have D:∀(g c:Zb) (h:Nat) j,aO d.nl g=some (some (.enum c h j))->ff a g=some (.enum c h j)/\ml (.enum c h j):=λg c h j i=>by
  have p:fh b g=true:=by unfold fh;rw[B,i];rfl
  obtain⟨k,s,f⟩:=e.gB p;have m:=f.lu;rw[B,i]at m;cases m
  exact⟨e.h2 y f,z _ (e.i7 f) f.O⟩
 refine⟨λG m=>?_,λs u=>?_,λg H C s J u m p=>?_,λg c h j i=>(D g c h j i).1,λg c h j i=>(D g c h j i).2⟩
 .obtain⟨K,i⟩:=e.q.cX;refine rR ?_ Zg;rw[i];match G,m with
  |0,_=>rfl
  |1,_=>rfl
  |2,_=>rfl
  |3,_=>rfl
  |4,_=>rfl
 .obtain⟨n,t,rfl⟩:=YE.1 u;obtain⟨-,-,w,x⟩:=KE (σ:=σ) n;rw[w,x];exact e.rn.cH n t
 .have r:(σ.A.map (gK σ))[C.toNat]? = some s:=u;rw[List.getElem?_map]at r;cases t:σ.A[C.toNat]? with
  |none=>simp_all
  |some n=>
   rw[t]at r;simp only[Option.map_some,Yu]at r;subst r;obtain⟨w,x,-,-⟩:=KE (σ:=σ) n;have I:n.F=14:=Zm;simp_all[gK]
def Mk(a:Zb):gM (dG σ) a=if ce σ a<0\/(gb σ a).a7≠1 then -1 else (gb σ a).n:=rfl
def Wh.p0(g:Wh c a d b σ)(o:lI b a)(m:oT a)(n:∀e∈a,ei e=true->ml e){f}(l:0<=gM (dG σ) f):∃i,ff a f=some i/\kN (dG σ).A d.nl i (gM (dG σ) f)/\(∀j∈gR i,fh b j.1=true)/\ml i:=by
 rw[Mk]at l ⊢;by_cases p:ce σ f<0\/(gb σ f).a7≠1
 .omega
 rw[Y2 p];rcases By g.q g.pd f with⟨r,-⟩|⟨-,t⟩
 .obtain⟨e,u,h⟩:=g.gB r;have k:=g.i7 h;exact⟨e,g.h2 m h,by rw[h.bl];exact h.hp.cu,λj s=>o j (List.mem_flatMap.2 ⟨e,k,s⟩),n e k h.O⟩
 omega
def Wh.oj(e:Wh c a d b σ)(l:oT a)(f:Zb):gM (dG σ) f<0↔ci (gV a).2 f=none:=by
 obtain⟨w,-,o⟩:=Mn l;have o:=o f;have p:ci (gV a).2 f=none↔ff a f=none:=by
  grind
 have t:b.K=d.nl:=by rw[e.q.nl,e.pd];simp
 rw[p,Mk];rcases By e.q e.pd f with⟨g,-,-,-,-,-,-,-,-,-,i⟩|⟨g,i⟩
 .obtain⟨h,B,k⟩:=e.gB g;rw[Y2 i,e.h2 l k,k.bl];have:=k.gk.1;simp_all
 .rw[Y9 i];refine⟨λ_=>?_,λ_=>by decide⟩;cases q:ff a f with
  |none=>rfl
  |some h=>
   obtain⟨u,v,x,y,z⟩:=CM q;have s:h∈d.nl.filterMap lg:=by
    rw[e.nl];simp_all
   obtain⟨j,m,A⟩:=List.mem_filterMap.1 s;have n:j.2=some h:=by
    grind [lg]
   have r:j.1=f:=(e.g9 j m h n u).symm.trans v;have:=Ap e.q.nm.nd m r;unfold fh at g;rw[t,this,n]at g;have g:ei h=false:=g;simp_all
end
section
variable {b : Zb} {a : List aC} {d : cB} {c : St} {e : ai}
theorem Mj{b:Zb×Option aC}{a}(c:lg b=some a):b.2=some a/\ei a=true:=by
 grind [lg]
def Md:∀(c:Nl),(∀d∈c,∀a,d.2=some a->ei a=true->(bQ a).1=d.1)->(c.map (·.1)).Nodup->((c.filterMap lg).map λa=>(bQ a).1).Nodup
 |[],_,_=>by simp
 |d::k,i,b=>by
  rw[List.map_cons,List.nodup_cons]at b;have j:=Md k (λf e=>i f (Y5 _ e)) b.2;rw[List.filterMap_cons];split
  .omega
  .rename_i a m;rw[List.map_cons,List.nodup_cons];refine⟨λh=>b.1 ?_,j⟩;obtain⟨l,g,o⟩:=YE.1 h;obtain⟨f,e,n⟩:=List.mem_filterMap.1 g;grind [Mj]
theorem Wh.nd(i:Wh b a d c e):∀j f g,a=j++f::g->ei f=true->∀h∈g,ei h=true->(bQ h).1≠(bQ f).1:=by
 intro j f g k l h m n o;have:=Md d.nl i.g9 i.q.nm.nd;rw[i.nl,k,List.filter_append,List.filter_cons_of_pos l,List.map_append,List.map_cons]at this;grind
def Wh.n1(h:Wh b a d c e){f:Zb}(k:fh c f=true):(ff a f).isSome:=by
 obtain⟨i,l,g⟩:=h.gB k;cases j:ff a f with
 |some _=>rfl
 |none=>exact absurd g.g9 (Ho j i (h.i7 g) g.O)
def ub(a:List aC):Prop:=∀c b f e i l d g,a=c++aC.union b f e i::l->e.O=.named d g->∃j h m k,c=j++aC.enum d h m::k
def Wh.p4(h:Wh b a d c e)(t:lI c a)(r:wU a)(u:ub a):oT a where
 nd:=h.nd
 i8:=λj n x w f m k=>h.n1 (t m (List.mem_flatMap.2 ⟨j,n,by
  cases j with
  |typedef j=>simp only[rL,Yc]at f;subst f;exact k
  |struct g i v=>obtain⟨p,o,rfl⟩:=YE.1 f;exact List.mem_flatMap.2 ⟨p,o,k⟩
  |union g i s q=>obtain⟨p,o,rfl⟩:=YE.1 f;exact List.mem_flatMap.2 ⟨p,o,k⟩
  |const g i l=>cases f
  |enum g i l=>cases f
  |prog g i l j=>cases f⟩))
 h8:=u;mB:=λb g s q k=>(r _ k).1;er:=λj n w f=>by
  have h:=r j n;cases j with
  |typedef j=>simp only[rL,Yc]at f;subst f;exact kG.er h
  |struct g i v=>obtain⟨m,k,rfl⟩:=YE.1 f;exact kG.er (h m k)
  |union g i s q=>
   obtain⟨m,k,rfl⟩:=YE.1 f;rcases h.2 m k with h|h
   .exact kG.er h
   .rw[h];trivial
  |const g i l=>cases f
  |enum g i l=>cases f
  |prog g i l j=>cases f
end
section
variable {a : Za}
def xq(i:PM aC):Prop:=∀d a m,i d=.ok (a,m)->∀k e c g b f,a=.union k e c g->c.O=.named b f->∃l h j,aO d.K b=some (some (.enum l h j))
def yT{h:Type}{d}{e:h->PM aC}(m:ed d)(l:∀b,xq (e b)):xq (aM d e):=by
 intro s u z a q b p j g i k n;cases c:d s with
 |error v=>rw[bO c]at a;cases a
 |ok o=>
  obtain⟨r,A⟩:=o;rw[aK c]at a;obtain⟨y,t,x,f⟩:=l r _ _ _ a q b p j g i k n;rcases(m _ _ _ c).kn.2 g _ f with f|⟨_,_,_,w⟩;all_goals simp_all
theorem afd{f}(g:eJ (λc=>∀e a d b,c≠.union e a d b) f):xq f:=λj c k i e a d b _ _ h _=>absurd h (g j c k i e a d b)
def abn{k s:St}{m:Ty×(Int->Bool)}(c:oH a k=.ok (m,s)){b d}(p:m.1=.named b d):∃h e g,aO k.K b=some (some (.enum h e g)):=by
 unfold oH at c;cases i:next a k with
 |error t=>rw[bO i]at c;cases c
 |ok q=>
  obtain⟨j,n⟩:=q;rw[aK i]at c;have f:∃h e g,aO n.K b=some (some (.enum h e g)):=by
   by_cases l:((j.F:Int)==1)=true
   .rw[Ex l]at c;cases v:mK j n<;>grind [mK,bO,aK,ret]
   .have o:eJ (λr:Ty×(Int->Bool)=>∀b d,r.1≠.named b d) (la a j):=by
     unfold la;rw[Y2 l];refine dW (dX Zq) (dW (be λ_=>dX Zq) (dW (dX Zq) (kE _ _)))
    exact absurd p (o _ _ _ c b d)
  obtain⟨h,e,g,f⟩:=f;rcases(qy a _ _ _ i).kn.2 b _ f with f|⟨_,_,_,u⟩;all_goals simp_all
theorem afe(i:Nat):xq (ez a i):=by
 unfold ez;refine yT (yb i) λ_=>yT (tm a) λn=>?_;unfold oM;refine yT (eS _ _) λ_=>yT (eS _ _) λ_=>?_;intro p h u b g d c e t q k l;cases f:oH a p with
 |error r=>rw[bO f]at b;cases b
 |ok o=>
  obtain⟨j,v⟩:=o;rw[aK f]at b;have m:eJ (λh=>∀g d c e,h=.union g d c e->c.O=j.1) (oN a n j):=by
   unfold oN;refine be λs=>?_;unfold qV;grind [be,lE,oL,dX]
  exact abn f ((m _ _ _ b g d c e k).symm.trans l)
theorem afa(m:Zb×Nat):∀(c:Nat) (e:List (Zb×Nat×Int)) (d:List (Int×Int)),eJ (λb=>∀i f h g,b≠.union i f h g) (iB a m c e d):=by
 intro c;induction c with
 |zero=>intro e d;exact kE _ _
 |succ c l=>
  intro e d o b t j;cases k:jz a e.length d o with
  |error p=>simp_all[tj]
  |ok n=>
   obtain⟨r,q,u⟩:=n;rw[rW k]at j;refine be (Q:=λb=>∀i f h g,b≠.union i f h g) (λs=>dW (l _ _) ?_) _ _ _ j;grind [ot,be,dX]
theorem GM{b:Mar.aX}(h:b.text≠Jh):eJ (λe=>∀g c f d,e≠.union g c f d) (eF a b):=by
 unfold eF;refine dW ?_ (dW ?_ (dW ?_ (dW ?_ ?_)))
 .grind [ko,be,dX]
 .grind [kB,be,dX]
 .grind [ik,be,afa]
 .grind [lf,be,dX]
 .rw[Y2 Zu];refine dW ?_ (kE _ _);grind [jZ,be,qG,dX]
theorem GO{b:Mar.aX}(c:b.text=Jh):eF a b=ez a b.y:=by
 unfold eF;grind
def afc:xq (ga a):=by
 unfold ga;refine yT (qy a) λb=>?_;by_cases c:b.text=Jh;all_goals grind [GO,afe,afd,GM]
def xb(e:St):Prop:=∀b a,aO e.K b=some (some a)->(∀d c v,a≠.const d c v)->(bQ a).1=b
def xb.kn{d e:St}(f:xb d)(i:Kn d.K e.K):xb e:=λc a h g=>by
 rcases i.2 c a h with b|⟨k,j,v,b⟩
 .exact f c a b g
 simp_all
theorem ub.b6{j h}{d:aC}(u:ub h)(w:od j h)(x:xb j)(v:∀f c b e a g,d=.union f c b e->b.O=.named a g->∃i l p,aO j.K a=some (some (.enum i l p))):ub (h++[d]):=by
 intro k f c b e q a g r o;rcases List.eq_nil_or_concat q with rfl|⟨m,z,rfl⟩
 .obtain⟨t,C⟩:=List.append_inj' r rfl;subst t;obtain⟨i,l,p,n⟩:=v f c b e a g Zu o;have F:i=a:=x a _ n Zq;rcases w.nm a _ n with y|⟨_,_,_,E⟩
  .obtain⟨A,B,D⟩:=List.append_of_mem y;grind
  simp_all
 .have s:h++[d]=(k++aC.union f c b e::m)++[z]:=Zu;exact u k f c b e m a g (List.append_inj' s rfl).1 o
def adq:∀(i:Nat) (f:List aC) (e:St) (j:List aC) (r:St),od e f->xb e->ub f->eU a i f e=.ok (j,r)->ub j:=by
 intro i;induction i with
 |zero=>simp_all[eU,gU]
 |succ i z=>
  intro f e j r v w y c;cases h:hA a e with
  |error t=>simp_all[EP]
  |ok k=>
   obtain⟨q,A⟩:=k;have o:=yd a _ _ _ h;by_cases g:((q.F:Int)==0)=true
   .rw[EO h g]at c;simp_all
   .have g:((q.F:Int)==0)=false:=Zu;cases d:ga a A with
    |error t=>rw[EN h g d]at c;cases c
    |ok k=>
     obtain⟨C,B⟩:=k;rw[EQ h g d]at c;have l:=v.le o;have m:=w.kn o.kn;refine z _ _ _ _ (l.b6 d) ?_ (y.b6 l m (afc _ _ _ d)) c;have x:=m.kn (EM a _ _ _ d).2;intro p s b u;dsimp only at b;rw[Ao]at b;cases n:aO B.K p with
     |none=>simp_all
     |some D=>
      rw[n]at b;simp only[Option.map_some,Yu]at b;split at b
      .simp_all
      .subst b;exact x p s n u
def adv{c}(b:eP a=.ok c):ub c:=by
 unfold eP at b;split at b
 .cases b
 split at b
 .cases b
 .rename_i e p f;have d:e=c:=by
   grind
  subst d;exact adq 69 [] fS _ _ Mi (by intro g m b;simp[fS,aO]at b) (by intro k o h n j l g i d;simp at d) f
end
section
variable {a : Za}
def sD(a:Ty):Prop:=a≠.void/\jO a
def ha.z{a}(b:ha a):sD a:=by cases a<;>simp[ha,sD,jO]at *<;>exact b
def MX(b:Int->Bool):eJ (λd:Int×Nat=>b d.1=true) (jG a b):=by
 unfold jG;refine be λf=>be λc=>?_;by_cases e:b c=true;all_goals simp_all[dX,kE]
def MT:eJ (λb:Int×Bool=>b.2=false/\0<=b.1/\b.1<=4294967295) (pt a):=by
 unfold pt;refine be λ_=>be λd=>dW (dX ⟨rfl,Ze,Ze⟩) (mh (MX _) λb c=>be λ_=>dX ⟨rfl,?_⟩);simpa[dV]using c
def MS:eJ (λb:Int×Bool=>0<=b.1/\b.1<=4294967295) (lT a):=by
 unfold lT;refine be λh=>dW (mh (MX _) λb g=>be λ_=>dX ?_) (λe c f d=>(MT e c f d).2);grind [dV]
def Fs{τ:Type}(i:dU τ):hd (λd=>sD d.O) (eY a i):=by
 unfold eY;refine eQ λf=>?_;unfold qp;refine lH (eQ λc=>mi (ra MS) λh b=>jH ⟨Zq,b⟩) (eQ λf=>?_);unfold pb;refine lH (eQ λc=>mi (ra MT) λh b=>jH ⟨Zq,b⟩) (mi (ra (Ft a)) λj e=>?_);unfold sR;refine eQ λf=>?_;unfold rJ;refine lH (eQ λc=>jH ⟨Zq,e.z⟩) (eQ λc=>?_);unfold rK;refine eQ λf=>?_;unfold sS;have g:hd (τ:=τ) (λd=>sD d.O) (oq a c j):=by
  unfold oq;exact mi (ra MS) λh b=>jH ⟨Zq,b,e.z⟩
 refine lH g (eQ λk=>?_);unfold sT;exact lH g (jH e.z)
def MQ{k:Type}(c:dU k):hd (λb=>jO b.O) (km a c):=by
 unfold km;refine mi (R:=λb=>jO b.O) (eQ λl=>?_) λb f=>eQ λ_=>jH f;unfold qk;refine lH (jH trivial) ?_;intro g i d h j e;exact(Fs c g i d h j e).2
def sm(b:hG):Prop:=∀a∈b,jO a.2.O
def sm.fY{c}(f:sm c){e:List Int}{b:aW}(g:jO b.O):sm (c++[(e,b)]):=by
 intro d a;rcases Yn.1 a with a|a
 .exact f d a
 simp_all
def aeT{c}(b:sm c):hd sm (mF a c):=by
 unfold mF;exact eQ λf=>lH (eQ λ_=>mi (BJ (MQ _)) λe d=>jH (b.fY d)) (jH b)
def aeV(f:Int->Bool):∀(b:Nat) {rs:hG},sm rs->hd sm (ig a f b rs):=by
 intro b;induction b with
 |zero=>intro rs _;exact ra (kE _ _)
 |succ b e=>
  intro rs c;unfold ig;exact eQ λg=>mi (BJ (MQ _)) λh d=>eQ λi=>lH (e (c.fY d)) (aeT (c.fY d))
def wT:aC->Prop
 |.typedef c=>sD c.O
 |.enum _ _ a=>a≠[]
 |.struct _ _ a=>∀d∈a,sD d.O
 |.union _ _ _ b=>sm b
 |_=>True
theorem ae1(h:Zb×Nat):∀(b:Nat) (d:List (Zb×Nat×Int)) (c:List (Int×Int)),eJ wT (iB a h b d c):=by
 intro b;induction b with
 |zero=>intro d c;exact kE _ _
 |succ b g=>
  intro d c j k p e;cases f:jz a d.length c j with
  |error l=>simp_all[tj]
  |ok i=>
   obtain⟨n,m,q⟩:=i;rw[rW f]at e;refine be (Q:=wT) (λo=>dW (g _ _) ?_) _ _ _ e;unfold ot;exact be λ_=>be λ_=>dX (by simp[wT])
def aeZ:eJ wT (ga a):=by
 unfold ga;refine be λv=>?_;unfold eF;refine dW ?_ (dW ?_ (dW ?_ (dW ?_ (dW ?_ (dW ?_ (kE _ _))))))
 .unfold ko;exact be λ_=>be λf=>be λ_=>be λ_=>be λ_=>dX trivial
 .unfold kB;exact be λ_=>mh (MR (Fs _)) λj d=>be λ_=>dX d
 .grind [ik,be,ae1]
 .unfold lf;refine be λ_=>be λf=>mh (MU (I:=λe:List aW×Zc=>∀c∈e.1,sD c.O) (Ib _ _ ?_) Zq) λe k=>be λ_=>dX k;rintro⟨o,m⟩ n i t w r h;cases d:eY a (bA 0 0) m n with
  |error p=>simp_all[Bp]
  |ok g=>
   obtain⟨j,u,x⟩:=g;rw[yF d]at h;refine Ab (I:=λe:List aW×Zc=>∀c∈e.1,sD c.O) (xS _) (λ_=>Di ()) _ _ _ _ _ ?_ h;intro c b;rcases Yn.1 b with b|b
   .simp_all
   .simp only[Yc]at b;subst b;exact Fs _ _ _ _ _ _ d
 .unfold ez;refine be λ_=>be λf=>?_;unfold oM;refine be λ_=>be λ_=>be λg=>?_;unfold oN;refine be λc=>?_;unfold qV;refine be λ_=>be λ_=>mh (MV (aeV g.2 13 (rs:=[]) (by intro i q;grind)) _) λs l=>?_;unfold lE oL;exact be λ_=>be λ_=>dX l
 .unfold jZ;refine be λ_=>be λf=>?_;unfold qG;exact be λ_=>be λ_=>dX trivial
end
section
variable {a b τ:Type}
section
variable {text : Za}
def Hx(e:τ->Prop)(f:a->τ->Prop)(g:PX τ a):Prop:=∀c h b d i,e c->g c h=.ok (b,d,i)->f b d
def pl{h:Type}{f R S e}{g:a->PX τ h}(j:Hx f R e)(i:∀b,Hx (R b) S (g b)):Hx f S (aP e g):=by
 intro m n o q s k c;cases d:e m n with
 |error p=>rw[bR d]at c;cases c
 |ok l=>obtain⟨b,r,t⟩:=l;rw[bf d]at c;exact i b _ _ _ _ _ (j _ _ _ _ _ k d) c
def wb{b}(c:PM a):Hx b (λ_=>b) (lift (τ:=τ) c):=λg i d h j f e=>xS c g i d h j f e
theorem Aa{c:τ->Prop}{d:a->τ->Prop}{e}(g:∀b,c b->d e b):Hx c d (dA e):=by
 intro b k f j l h i;grind [dA]
def De{b:τ->Prop}{c:a->τ->Prop}{f:Bool}{d e:PX τ a}(g:Hx b c d)(h:Hx b c e):Hx b c (if f then d else e):=Zg
def HT{d:b->Prop}(e:PX τ a):Hx (λc:τ×b=>d c.2) (λ_ c=>d c.2) (jA e):=by
 rintro⟨i,o⟩ j k p r n g;cases f:e i j with
 |error m=>simp_all[uP]
 |ok h=>obtain⟨l,q,s⟩:=h;rw[uQ f]at g;grind
def TB{P:b->Prop}{R:a->b->Prop}{c:PX b a}(h:Hx P R c):Hx (λd:τ×b=>P d.2) (λe d=>R e d.2) (nI c):=by
 rintro⟨o,k⟩ l e p r i g;cases f:c k l with
 |error n=>simp_all[yn]
 |ok j=>obtain⟨m,q,s⟩:=j;rw[yo f]at g;cases g;exact h _ _ _ _ _ i f
def qe(a:List Int)(b:List (Int×Int)):Prop:=b.map (·.1)=a/\a.Nodup
def TA(b:List Int)(g:Int->Bool):Hx (qe b) (λf=>qe (b++[f])) (hx text g):=by
 unfold hx;refine pl (wb _) λh=>pl (R:=λ_=>qe (b++[h.1])) ?_ λ_=>Aa λp a=>a;intro n t i o u e a;unfold oI nC at a;split at a
 .rename_i q c;cases a
  dsimp only at c;split at c
  .grind
  .rename_i k;cases c
   obtain⟨rfl,d⟩:=e;refine⟨Zq,YJ.2 ⟨d,Zq,λr l s m j=>?_⟩⟩;simp_all
 grind
def Tz(c:List Int)(j:Int->Bool):∀(d:Nat) (b:List Int),Hx (qe (c++b)) (λe=>qe (c++e)) (ja text j d b):=by
 intro d;induction d with
 |zero=>intro b f m g k n _ a;simp only[ja]at a;cases a
 |succ d s=>
  intro b f m g k n o a;cases i:cI text Jg m with
  |error r=>simp_all[zC]
  |ok l=>
   obtain⟨l,q⟩:=l;by_cases h:12<=f.length
   .rw[zD i h]at a;cases a
   .rw[zE i h]at a;unfold zF at a;refine pl (S:=λe p=>qe (c++e) p) (TA (c++b) j) (λt=>pl (wb _) λ_=>pl (wb _) λu=>De ?_ ?_) f q g k n o a;all_goals grind [Aa]
def Tx(f:Int->Bool):∀(c:Nat) (a:hG),Hx (λd:gi=>qe ((cY a).map (·.1)) d.2) (λh d=>qe ((cY h).map (·.1)) d.2) (ig text f c a):=by
 intro c;induction c with
 |zero=>intro a g o j n p _ b;simp only[ig]at b;cases b
 |succ c m=>
  intro a;unfold ig;refine pl (TB (P:=qe ((cY a).map (·.1))) (R:=λe=>qe ((cY a).map (·.1)++e)) ?_) λe=>pl (HT _) λk=>pl (wb _) λi=>De ?_ ?_
  .have:=Tz (text:=text) ((cY a).map (·.1)) f 13 [];rw[YH]at this;exact this
  .grind [AL]
  .unfold mF;refine pl (wb _) λi=>De (pl (wb _) λ_=>pl (HT _) λl=>Aa λg b=>?_) (Aa λg b=>?_);all_goals grind [AL]
theorem ae7(h:Nat):eJ (λg=>∀l a k b,g=.union l a k b->((cY b).map (·.1)).Nodup) (ez text h):=by
 unfold ez;refine be λ_=>be λq=>?_;unfold oM;refine be λ_=>be λ_=>be λe=>?_;unfold oN;refine be λi=>?_;unfold qV;refine be λ_=>be λ_=>mh (R:=λf:hG×gi=>((cY f.1).map (·.1)).Nodup) ?_ λf p=>?_
 .intro m a s d;cases c:ig text e.2 13 [] (i.2,[]) m with
  |error o=>simp_all[qN]
  |ok j=>
   obtain⟨n,r,t⟩:=j;rw[tB c]at d;cases d
   exact(Tx e.2 13 [] _ _ _ _ _ ⟨rfl,List.nodup_nil⟩ c).2
 grind [lE,oL,be,dX]
end
end
section
variable {e : Za}
def wS(b:aC):Prop:=wT b/\∀c d e a,b=.union c d e a->((cY a).map (·.1)).Nodup
def aeY:eJ wS (ga e):=by
 intro b a g f;refine⟨aeZ b a g f,?_⟩;have:eJ (λa=>∀c h i d,a=.union c h i d->((cY d).map (·.1)).Nodup) (ga e):=by
  unfold ga;refine be λl=>?_;by_cases k:l.text=Jh
  .grind [GO,ae7]
  .intro b a g f c h i d j;exact absurd j (GM k b a g f c h i d)
 exact this b a g f
def ae6:∀(c:Nat) {a:List aC},(∀b∈a,wS b)->eJ (λa=>∀b∈a,wS b) (eU e c a):=by
 intro c;induction c with
 |zero=>intro a _;exact kE _ _
 |succ c f=>
  intro a d;unfold eU;refine be λh=>dW (dX d) (mh aeY λb g=>be λ_=>f ?_);grind
def adw{a}(c:eP e=.ok a):∀d∈a,wS d:=by
 unfold eP at c;split at c
 .cases c
 split at c
 .cases c
 .rename_i f b h;have g:f=a:=by
   grind
  subst g;exact ae6 69 Zq _ _ _ h
variable {c : Zb} {a : List aC} {d : cB} {f : St} {b : ai}
def Wh.row(k:Wh c a d f b){e:aC}(x:e∈a)(o:ei e=true):∃g,kN b.A d.nl e g:=by
 have s:e∈d.nl.filterMap lg:=by
  rw[k.nl];simp_all
 obtain⟨w,t,u⟩:=List.mem_filterMap.1 s;obtain⟨p,-⟩:=Mj u;obtain⟨g,l⟩:=List.getElem?_of_mem t;have m:=wa l;rw[<-k.q.nm.av]at m;have v:b.K[g]? = some b.K[g]:=Yd m;have r:=(k.q.nm.gY g w _ l v).2;rw[p]at r;refine⟨b.K[g].n,?_⟩;cases e with
 |const h i j=>cases o
 |prog h i j e=>cases o
 |typedef e=>simp_all
 |enum h i j=>simp_all
 |struct h i j=>simp_all
 |union h i j e=>simp_all
def Wh.pa(k:Wh c a d f b)(t:∀e∈a,wS e):∀e∈a,ei e=true->ml e:=by
 intro e m l;obtain⟨x,n⟩:=k.row m l;obtain⟨i,u⟩:=t e m;cases e with
 |const g h j=>cases l
 |prog g h j e=>cases l
 |typedef e=>exact i
 |enum g h v=>
  refine⟨i,λo s=>?_⟩;have:=(k.q.cg _ _ n.2).2.2.2 rfl o.2.2 (YE.2 ⟨o,s,rfl⟩);simpa[dV]using this
 |struct g h v=>
  obtain⟨-,y,r,w,-⟩:=n;have:=(k.rn.cH _ (Yh r)).2;exact⟨Zu,i⟩
 |union g h j p=>exact⟨u g h j p rfl,i⟩
end
section
variable {s:bh}
section
def Cg(s:bh):Prop:=∀a∈s.ab,ns a
def pj{h d:Type}{I:d->Prop}{f:d->h->d}:∀(c:List h) {b:d},I b->(∀b a,a∈c->I b->I (f b a))->I (c.foldl f b)
 |[],_,e,_=>e
 |a::c,b,e,g=>pj c (g b a Zq e) λb j i=>g b j (Y5 _ i)
theorem Cg.a4(b:Cg s){x}(d:ns x):Cg (aT x s):=by
 intro c a;rcases Yn.1 a with a|a
 .exact b c a
 simp_all
theorem Cg.a5(c:Cg s)(i:Nat){b}(e:ns b):Cg (dn i b s):=by
 intro d a;rcases List.mem_or_eq_of_mem_set a with a|rfl
 .exact c d a
 omega
def Cg.call(b:Cg s)(c:Zb):Cg (jR c s):=by
 intro d a;rcases Yn.1 a with a|a
 .exact b d a
 .rw[Yc.1 a];trivial
def Cg.f8:∀(d:Ty) {s:bh},Cg s->jO d->Cg (dk d s):=by
 intro d;induction d with
 |named c h=>intro s a _;exact a.call c
 |plain i=>intro s a _;exact a.a4 trivial
 |opaq c f=>intro s a b;exact a.a4 b
 |str c f=>intro s a b;exact a.a4 b.2
 |arr g c f e=>intro s a b;exact((e (a.a4 (x:=.hole) trivial) b.2.2).a4 (x:=.again) trivial).a5 _ b.1
 |opt g e=>intro s a b;exact(e (a.a4 (x:=.hole) trivial) b.2).a5 _ (by simp[ns])
 |void=>intro s a _;exact a
def Cg.union(h:Cg s)(m:aW){d:List (List Int×aW)}(i:∀c∈d,jO c.2.O):Cg (pL m d s):=by
 unfold pL;have a:=pj (I:=λe:oe=>Cg e.s/\(e.c1.map (·.1)).Nodup) (f:=cz) d (b:=⟨aT .hole s,[],none,[]⟩) ⟨h.a4 (x:=.hole) trivial,List.nodup_nil⟩ λe c k a=>⟨(a.1.f8 _ (i c k)).a4 (x:=.jump 0) trivial,pj (I:=λg:List (Int×Nat×Nat)=>(g.map (·.1)).Nodup) c.1 a.2 λg o _ j=>tn j _ _⟩;exact pj (I:=Cg) _ (a.1.a5 _ a.2) λs n _ l=>l.a5 _ trivial
def Cg.def(b:Cg s){c:aC}(f:ei c=true->ml c):Cg (ht c s):=by
 have e:∀{s:bh} (h:Zb) (a:Nat),Cg s->Cg (kS h a s):=λh a b=>b.a4 (x:=.ret) trivial;cases c with
 |const a d i=>exact b
 |prog a d i c=>exact b
 |typedef c=>exact e _ _ (b.f8 _ (f rfl).2)
 |enum a d g=>exact e _ _ (Cg.a4 (s:={ s with c4:=cq s.c4 a (hP g) }) b trivial)
 |struct a d g=>exact e _ _ (pj (I:=Cg) g (b.a4 (by have:=(f rfl).1;simp only[ns];omega)) λs l j k=>k.f8 _ ((f rfl).2 l j).2)
 |union a d m n=>exact e _ _ (b.union m (f rfl).2)
def FN:aC->Prop
 |.prog _ _ b _=>∀v∈b,∀a∈v.aq,jO a.cP/\jO a.cu
 |_=>True
def adX{c:List aC}(n:∀b∈c,ei b=true->ml b)(m:∀b∈c,FN b):∀x∈(gV c).1,ns x:=by
 have j:Cg (c.foldl (λs b=>ht b s) si):=pj (I:=Cg) c (by intro x q;cases q) λs b d f=>f.def (n b d);have k:Cg (EA c).1:=pj (I:=λa:bh×List (Zb×Nat)=>Cg a.1) c j λa b _ e=>by
  unfold dJ;split
  .exact(e.call _).a4 trivial
  omega
 have l:Cg (AQ c).1:=pj (I:=λa:bh×List (Int×ki)=>Cg a.1) c k λa b d e=>by
  unfold gJ;split
  .rename_i r u;have i:=m _ d;exact pj (I:=λa:bh×ki=>Cg a.1) r e λw v g o=>pj (I:=λa:bh×List (Int×Nat×Nat)=>Cg a.1) v.aq o λy a h p=>(((p.f8 _ (i v g a h).1).a4 (x:=.fin) trivial).f8 _ (i v g a h).2).a4 (x:=.fin) trivial
  omega
 exact pj (I:=Cg) _ l λs t _ f=>f.a5 _ trivial
end
end
section
variable {d e c:Type}{a:St}
section
variable {b : Za}
def MW:eJ (λe=>jO e/\ib e) (pG b):=by
 unfold pG;exact be λg=>dW (dX ⟨trivial,trivial⟩) (λa d f c=>by
  have c:=Ft b a d f c;exact⟨c.z.2,by cases d<;>simp[ha,ib]at *⟩)
def BZ(a:gg):Prop:=(jO a.cP/\ib a.cP)/\jO a.cu/\ib a.cu
def Cf(v:fH):Prop:=v.aq.length<=8/\∀a∈v.aq,BZ a
def qa:aC->Prop
 |.prog _ _ a _=>a≠[]/\a.length<=4/\∀v∈a,Cf v
 |_=>True
def qa.x:∀{a:aC},qa a->FN a
 |.prog ..,b=>λv d e c=>⟨((b.2.2 v d).2 e c).1.1,((b.2.2 v d).2 e c).2.1⟩
 |.const ..,_=>trivial
 |.typedef _,_=>trivial
 |.enum ..,_=>trivial
 |.struct ..,_=>trivial
 |.union ..,_=>trivial
def qa.cg:∀{c:aC},qa c->vE c
 |.prog ..,a=>⟨a.1,a.2.1,λv b=>⟨(a.2.2 v b).1,λe d=>⟨((a.2.2 v b).2 e d).2.2,((a.2.2 v b).2 e d).1.2⟩⟩⟩
 |.const ..,_=>trivial
 |.typedef _,_=>trivial
 |.enum ..,_=>trivial
 |.struct ..,_=>trivial
 |.union ..,_=>trivial
def ae2:hd BZ (mb b):=by
 unfold mb;exact mi (ra MW) λg c=>eQ λf=>eQ λ_=>mi (ra MW) λd a=>eQ λ_=>eQ λe=>jH ⟨a,c⟩
def ab9{Q:d->Prop}{c:List d}{b}(e:∀a∈c,Q a)(f:Q b):∀a∈c++[b],Q a:=by
 grind
def Ak{e}{f g:c}{h:St}{b:d}(i:lift e f a=.ok (b,g,h)):e a=.ok (b,h)/\g=f:=by
 unfold lift at i;grind
def xy{j:Type}{f:PX c d}{e:d->PX c j}{h:c}{g:j×c×St}(l:aP f e h a=.ok g):∃b i k,f h a=.ok (b,i,k)/\e b i k=.ok g:=by
 grind [aP]
def Py{pt}{run:PX c Unit}(j:c->List e)(Q:e->Prop)(C:∀f a g i,run f a=.ok ((),g,i)->∃h,j g=j f++[h]/\Q h) :
  ∀(l d:Nat) (f:c) (a:St) (g:c) (i:St),jQ b pt run l d f a=.ok ((),g,i)->d<=pt->∃m,j g=j f++m/\(∀h∈m,Q h)/\d+m.length<=pt/\(d=0->m≠[]):=by
 intro l;induction l with
 |zero=>intro d f a g i k _;cases k
 |succ l E=>
  intro d f a g i k B;unfold jQ at k;obtain⟨q,x,I,n,o⟩:=xy k;have w:x=f/\(d=0->q=false):=by
   split at n
   .cases n<;>simp_all
   .rename_i s;exact⟨(Ak n).2,λr=>absurd r s⟩
  obtain⟨rfl,D⟩:=w;cases q with
  |true=>
   cases o<;>simp_all
  |false=>
   simp only[Ye,if_false]at o
   obtain⟨h,F,J,t,u⟩:=xy o;obtain⟨-,rfl⟩:=Ak t;obtain⟨_,G,K,p,v⟩:=xy u;obtain⟨p,rfl⟩:=Ak p;have A:d<pt:=by
    grind [ft]
   obtain⟨_,H,L,y,z⟩:=xy v;grind
def Gv{i:Type}{pt:Nat}{run:PX (List e×i) Unit}{Q:e->Prop}(n:∀h a g j,run h a=.ok ((),g,j)->∃d,g.1=h.1++[d]/\Q d)(o:i):eJ (λc=>c.1≠[]/\c.1.length<=pt/\∀d∈c.1,Q d) (kZ (fp b pt run) ([],o)):=by
 intro a c j f;unfold kZ at f;split at f
 .rename_i g v k;cases f
  obtain⟨_,t,w,l,m⟩:=xy k;obtain⟨-,rfl⟩:=Ak l;obtain⟨u,p,q,r,s⟩:=Py (·.1) Q n _ _ _ _ _ _ m (YV _);simp_all
 grind
def ae8:hd Cf (mf b):=by
 unfold mf;refine eQ λ_=>eQ λk=>?_;unfold wN;refine mi (ra (Gv (Q:=BZ) ?_ _)) λl f=>eQ λj=>jH f.2;rintro⟨m,h⟩ a ⟨o,p⟩ q c;cases d:mb b h a with
 |error i=>simp_all[Fd]
 |ok g=>
  obtain⟨e,n,r⟩:=g;rw[Fe d]at c;cases c
  exact⟨e,rfl,ae2 _ _ _ _ _ d⟩
theorem afb(i:Zb×Nat):∀(c:Nat) (e:List (Zb×Nat×Int)) (d:List (Int×Int)),eJ qa (iB b i c e d):=by
 intro c;induction c with
 |zero=>intro e d;exact kE _ _
 |succ c h=>
  intro e d a k p f;cases g:jz b e.length d a with
  |error l=>simp_all[tj]
  |ok j=>
   obtain⟨n,m,q⟩:=j;rw[rW g]at f;refine be (Q:=qa) (λo=>dW (h _ _) ?_) _ _ _ f;unfold ot;exact be λ_=>be λ_=>dX trivial
def aeX:eJ qa (ga b):=by
 unfold ga;refine be λr=>?_;unfold eF;refine dW ?_ (dW ?_ (dW ?_ (dW ?_ (dW ?_ (dW ?_ (kE _ _))))))
 .unfold ko;exact be λ_=>be λc=>be λ_=>be λ_=>be λ_=>dX trivial
 .unfold kB;exact be λ_=>be λd=>be λ_=>dX trivial
 .grind [ik,be,afb]
 .unfold lf;exact be λ_=>be λc=>be λi=>be λ_=>dX trivial
 .unfold ez;refine be λ_=>be λc=>?_;unfold oM;refine be λ_=>be λ_=>be λg=>?_;unfold oN;refine be λl=>?_;unfold qV;refine be λ_=>be λ_=>be λn=>?_;unfold lE oL;exact be λ_=>be λ_=>dX trivial
 .unfold jZ;refine be λ_=>be λc=>?_;unfold qG;refine mh (Gv (Q:=Cf) ?_ _) λi h=>be λ_=>dX h;rintro⟨m,j⟩ a ⟨p,q⟩ s e;cases f:mf b j a with
  |error k=>simp_all[DW]
  |ok g=>
   obtain⟨d,o,t⟩:=g;rw[DX f]at e;cases e
   exact⟨d,rfl,ae8 _ _ _ _ _ f⟩
def ae5:∀(d:Nat) {a:List aC},(∀c∈a,qa c)->eJ (λa=>∀c∈a,qa c) (eU b d a):=by
 intro d;induction d with
 |zero=>intro a _;exact kE _ _
 |succ d g=>
  intro a e;unfold eU;exact be λh=>dW (dX e) (mh aeX λc f=>be λ_=>g (ab9 e f))
def Ma{d}(c:eP b=.ok d):∀e∈d,qa e:=by
 unfold eP at c;split at c
 .cases c
 split at c
 .cases c
 .rename_i f a h;have g:f=d:=by
   grind
  subst g;exact ae5 69 Zq _ _ _ h
end
end
section
variable {b j : Zw} {e a : Nat} {s c : fo} {h i g f : Zv} {d : List Th} {o : dM}
structure mu(a:Nat)(s:fo):Prop where
 aG:s.aG.length<=a
 da:∀x∈s.aG,x.length<=1000000000
 a0:s.a0.length<=50000+a
 bU:s.bU.length<=a
 e9:s.e9.length<=a
def mu.bc(b:mu a s)(e:a<=16384):tS s:=
 ⟨by have:=b.aG;omega,λd c=>by have:=b.da d c;omega,by have:=b.a0;omega,by have:=b.bU;omega,by have:=b.e9;omega⟩
def mu.up(b:mu a s):mu (a+1) s:=
 ⟨by have:=b.aG;omega,b.da,by have:=b.a0;omega,by have:=b.bU;omega,by have:=b.e9;omega⟩
def mu.text(c:mu a s)(b:Int):(fU s b).length<=1000000000:=by
 unfold fU;split
 .simp
 .rename_i d;have e:=yt b (YM.2 d);exact c.da _ Zg
def mu.a2(b:mu a s){d:Zb}(f:d.length<=1000000000):mu (a+1) { s with aG:=s.aG++[d] }:=
 ⟨by have:=b.aG;simp_all,λe c=>by
  rcases Yn.1 c with c|c
  .exact b.da e c
  simp_all,b.up.a0,b.up.bU,b.up.e9⟩
def adK(a:Zb)(b c:Int):(tH a b c).length=a.length:=by
 grind [tH]
def mu.o1(e:mu a s)(g:o.s.length<=16384)(d:nJ s o=some c):mu (a+1) c/\c.bU=s.bU/\c.e9=s.e9:=by
 have b:=e.up;unfold nJ at d;split at d
 .cases d
  exact⟨⟨b.aG,b.da,by have:=e.a0;grind,b.bU,b.e9⟩,rfl,rfl⟩
 split at d
 .cases d
  refine⟨⟨b.aG,b.da,?_,b.bU,b.e9⟩,rfl,rfl⟩;show (if s.a0=[]then s.a0 else sN s.a0 o).length<=_
  split;all_goals simp_all[a0,sN]
 split at d
 .cases d
  exact⟨⟨b.aG,b.da,Zq,b.bU,b.e9⟩,rfl,rfl⟩
 split at d
 .cases d
  exact⟨⟨b.aG,b.da,b.a0,b.bU,b.e9⟩,rfl,rfl⟩
 split at d
 .cases d
  exact⟨⟨b.aG,b.da,b.a0,b.bU,b.e9⟩,rfl,rfl⟩
 unfold oK at d;split at d
 .cases d
  exact⟨e.a2 Zm,rfl,rfl⟩
 split at d
 .cases d
  exact⟨e.a2 (by rw[adK];exact e.text _),rfl,rfl⟩
 split at d
 .cases d
  unfold xU;split
  .simp_all
  .rename_i f;exact⟨e.a2 Zg,rfl,rfl⟩
 simp_all
def XC(b:1<=o.F)(d:o.F<=8):∃c,nJ s o=some c:=by
 have:o.F=1\/o.F=2\/o.F=3\/o.F=4\/o.F=5\/o.F=6\/o.F=7\/o.F=8:=Zm;unfold nJ oK;rcases this with a|a|a|a|a|a|a|a<;>simp[a]
def aeD(b:Zw):bu (wL b.heap.size ⟨[],[],[],0,0,0,[],[]⟩ (.slice none 0 0) (.slice none 0 0) (.slice none 0 0) (.slice none 0 0) []) b (b.alloc Fp):=by
 have a:∀(d:TypeId) (e:Nat) (c:List Th),bu c b b->bu (.row d e (.slice none 0 0) 0 []::c) b b:=λd e c f=>f.cons (ao [] b) ⟨Zq,Y8 ⟨rfl,rfl⟩⟩ (λg h=>by grind [Th.bZ,Value.ownBlock]);exact(a 9 1 _ (a 52 5 _ (a 37 1 _ (a 48 1 _ (Gf b))))).H Fp
end
section
variable {dep:Nat}{a:List aC}
def QY(v:List fV)(dep b c:Nat):(cr v dep b c).ia:=by
 intro i k d h e a;obtain⟨j,g,a⟩:=ip a;obtain⟨f,_,a⟩:=ip a;grind [sj,mD]
def QX(v:List fV)(d e:Nat)(f:dep<=64):∀a b,64<=a->∃c,(cr v dep d e).ef a b=.error c:=λ_ _ g=>⟨_,Y9 Zm⟩
def Rc(h:oT a){e:Zb}{f}(k:ci (gV a).2 e=some f)(v:List fV)(b d:Nat)(j:dep<=64):∃g,mY (cr v dep b d) (gV a).1 g ⟨f,[],[]⟩ ⟨0,[]⟩=some (jh (cr v dep b d) (ff a) 64 0 e ⟨0,[]⟩):=by
 obtain⟨m,i,l⟩:=Mn h;have c:=l e;rw[k]at c;exact abc (QY v dep b d) (QX v b d j) i c.1 c.2.1 c.2.2 _
def NA{f:Zw}{l k}(u:vI l k a)(i:∀e∈l,f.heap[e.1]? = some e.2)(w:oT a)(x:∀B∈(gV a).1,ns B)(d:Zb){j v}(z:pX f j v)(dep b c:Int) :
  Calls prog 33 #[Zp k,Zs d,j,.agg #[U dep,U b,U c]] f (vv f (jk (gV a).2 d dep b c) (jd (ff a) d v dep.toNat b.toNat c.toNat)):=by
 obtain⟨F,J,D,S,C,m,H,g⟩:=u;have s:=g.ab;have n:=g.aA;have o:=g.nd;cases h:jk (gV a).2 d dep b c with
 |error I=>exact NB (i _ m) (i _ n) o d j dep b c h _
 |ok e=>
  obtain⟨y,q,E,r,G,A,K⟩:=ace h;obtain⟨dep,rfl⟩:=Int.eq_ofNat_of_zero_le q;obtain⟨b,rfl⟩:=Int.eq_ofNat_of_zero_le r;obtain⟨c,rfl⟩:=Int.eq_ofNat_of_zero_le A;obtain⟨p,t⟩:=Rc w y v b c (dep:=dep) Zm;exact ND m n o s i x d z dep b c e p h Zm Zm Zm t
end
section
variable {w c a : Zw} {v : List el} {b : Zv}
def UE(a b c:Int)(w:Zw):Calls prog 31 #[U a,U b,U c] w λd e=>d=.returned (.tuple #[qx a b c,qx a b c])/\an [] w e:=by
 go_in;go_wp2;refine bodyPost_ret (v:=.tuple #[qx a b c,qx a b c]) ?_ rfl ⟨rfl,?_⟩
 .simp[results,results31,go_sem]
 .exact((ao [] w).H _).H _
abbrev zU(w:Zw)(a b:Nat)(c d e f g:Zv):Zw:=((((w.setCell ⟨a,b,none⟩ c).setCell ⟨a,b+1,none⟩ d).setCell ⟨a,b+2,none⟩ e).setCell ⟨a,b+3,none⟩ f).setCell ⟨a,b+4,none⟩ g
def Af(w:Zw)(a b:Nat)(c d e f g:Zv):an [a] w (zU w a b c d e f g):=(((((ao [a] w).aH (p:=⟨a,b,none⟩) Zq _).aH (p:=⟨a,b+1,none⟩) Zq _).aH (p:=⟨a,b+2,none⟩) Zq _).aH (p:=⟨a,b+3,none⟩) Zq _).aH (p:=⟨a,b+4,none⟩) Zq _
theorem abx{d:Type}{b:List d}{a:Nat}(e:a<b.length)(c:d):(b.set a c).take (a+1)=b.take a++[c]:=by
 rw[Yt Zu];have:(b.set a c).take a=b.take a:=by
  apply List.ext_getElem?;grind
 simp_all
def zV{w:Zw}{g o:Nat}{a j k}(b c d e f:Zv)(l:w.heap[g]? = some (.cells a j k))(m:o+5<=a.size):∃h:Array Zv,(zU w g o b c d e f).heap[g]? = some (.cells h j k)/\h.size=a.size/\h.toList.take (o+5)=a.toList.take o++[b,c,d,e,f]:=by
 refine⟨_,bv (i:=o+4) (bv (i:=o+3) (bv (i:=o+2) (bv (i:=o+1) (bv (i:=o) l b) c) d) e) f,Zq,?_⟩;simp only[Array.set!_eq_setIfInBounds,Array.toList_setIfInBounds];grind [abx]
def zA:Zl:=[U (-7),U 0,.string ⟨#[]⟩,U 0,U 0]
def mQ(v:List el):Zl:=v.flatMap dQ++(zA++zA)
def NR(v:List el)(w:Zw)(c:Ending)(b:Zw):Prop:=∃a,c=.returned (.slice (some ⟨w.heap.size,0,none⟩) v.length (v.length+2))/\an [] w b/\b.heap[w.heap.size]? = some (.cells a 87)/\a.toList=mQ v
def Tm(y:w.ownsRow 0 52 5 b v.length (v.flatMap dQ))(d6:v.length<=1000000):Calls prog 32 #[b] w (NR v w):=by
 obtain⟨d8,d9,b4⟩:=bM y;have M:=aa y;subst b4;clear y;obtain⟨b7,b1,b5,b6,d7⟩:=info_parts TK;have z:=run_makeSlice (P:=prog) w 76 87 b7 _ underlying76 b1 b5 .i64 .i64 ((v.length:Int)+2) ((v.length:Int)+2) Zm Zm Zg Zg Zm;rw[b6,show ((v.length:Int)+2).toNat=v.length+2 by omega]at z;have A:=size_madeCells (Value.agg #[U 0,U 0,.string ⟨#[]⟩,U 0,U 0]).cells ((v.length+2)*5);generalize madeCells (Value.agg #[U 0,U 0,.string ⟨#[]⟩,U 0,U 0]).cells ((v.length+2)*5)=k at z A;have B:af (an [] w (w.alloc (.cells k 87))/\(w.alloc (.cells k 87)).heap[w.heap.size]? = some (.cells k 87)):=aa ⟨(ao [] w).H _,aQ rfl⟩;have O:=aa A;clear A;go_in;go_wp2;generalize w.alloc (.cells k 87)=e7 at *
 clear z;go_loopw [5] (λu a=>∃(c:Nat) (i:Array Zv),u=U c/\c<=v.length/\af (an [] w a/\a.heap[w.heap.size]? = some (.cells i 87)/\i.size=(v.length+2)*5/\i.toList.take (c*5)=(v.take c).flatMap dQ)) (λu _=>v.length-(intOf u).toNat)
 case atStart=>exact⟨0,k,rfl,Zm,aa ⟨B.w.1,B.w.2,O.w,Zq⟩⟩
 case round=>
  obtain⟨c,i,rfl,d2,t⟩:=hrel;obtain⟨g,f,j,h⟩:=t.w;have e:∀r,r<i.size->∃a1,wr.cell? (Zd w.heap.size r)=some a1:=λr d0=>⟨i[r],aS f Zq⟩;have S:=dw f;have a0:=au f;rcases Yj c v.length with E|d1
  .have b3:(c:Int)<v.length:=Zm;have d5:(c:Int)<(v.length:Int)+2:=Zm;obtain⟨l,e0,F,b8,b9,c0,c1,c2⟩:=ts (bw M.w g Zq) E;simp only[Value.slice.injEq,true_and]at F;obtain⟨rfl,rfl⟩:=F;obtain⟨a3,H⟩:=e (c*5) Zm;obtain⟨a4,I⟩:=e (c*5+1) Zm;obtain⟨a5,J⟩:=e (c*5+2) Zm;obtain⟨a6,K⟩:=e (c*5+3) Zm;obtain⟨a7,L⟩:=e (c*5+4) Zm;have G:v.take (c+1)=v.take c++[v.getD c bL]:=Zu;have N:=aa G;generalize v.getD c bL=d at *
   clear e G f j h g;go_wp2;refine cy (λm=>m.cell? ⟨l,c*5,none⟩=some (U d.F)/\m.cell? ⟨l,c*5+1,none⟩=some (U d.n)/\m.cell? ⟨l,c*5+2,none⟩=some (Zs d.s)/\m.cell? ⟨l,c*5+3,none⟩=some (U d.y)/\m.cell? ⟨l,c*5+4,none⟩=some (U d.av)) ?_ λb0=>?_
   .go_keep
   refine bI [0,1,2,3,4,5,6,7,8,9,10,11,12,13,14,15,16,17,18,19,20,21,22,23,24,25,26,27,28] ?_;iterate 29 (refine bK ?_)
   refine bJ ?_;refine cw λR D=>?_;go_simp;refine D.out _ _ ?_;clear D R;refine nz ?_;obtain⟨g,f,j,h⟩:=t.w;obtain⟨n,p,x,q⟩:=zV (o:=c*5) (U d.F) (U d.n) (Zs d.s) (U d.y) (U d.av) f Zm;have C:af (an [] w (zU wr w.heap.size (c*5) (U d.F) (U d.n) (Zs d.s) (U d.y) (U d.av)).drew/\(zU wr w.heap.size (c*5) (U d.F) (U d.n) (Zs d.s) (U d.y) (U d.av)).drew.heap[w.heap.size]? = some (.cells n 87)/\n.size=(v.length+2)*5/\n.toList.take ((c+1)*5)=(v.take (c+1)).flatMap dQ):=by
    refine aa ⟨(pm g (Af ..) Zq).aU,p,x.trans j,?_⟩;rw[show (c+1)*5=c*5+5 by omega,q,h,N.w];simp
   clear g f j h p x q H I J K L b8 b9 c0 c1 c2 S a0 b0;generalize World.drew _=e6 at C ⊢;go_wp2;exact⟨⟨c+1,n,Zr,E,C⟩,Zz⟩
  .have b2:c=v.length:=Zm;subst b2;have b3:¬(v.length:Int)<v.length:=Zm;have d3:(v.length:Int)<(v.length:Int)+2:=Zm;have d4:(v.length:Int)+1<(v.length:Int)+2:=Zm;obtain⟨a3,H⟩:=e (v.length*5) Zm;obtain⟨a4,I⟩:=e (v.length*5+1) Zm;obtain⟨a5,J⟩:=e (v.length*5+2) Zm;obtain⟨a6,K⟩:=e (v.length*5+3) Zm;obtain⟨a7,L⟩:=e (v.length*5+4) Zm;obtain⟨c4,e1⟩:=e ((v.length+1)*5) Zm;obtain⟨c5,e2⟩:=e ((v.length+1)*5+1) Zm;obtain⟨c6,e3⟩:=e ((v.length+1)*5+2) Zm;obtain⟨c7,e4⟩:=e ((v.length+1)*5+3) Zm;obtain⟨c8,e5⟩:=e ((v.length+1)*5+4) Zm;clear e f j h g;go_wp2;go_ret;obtain⟨g,f,j,h⟩:=t.w;obtain⟨c3,p,x,q⟩:=zV (o:=v.length*5) (U (-7)) (U 0) (.string ⟨#[]⟩) (U 0) (U 0) f Zm;obtain⟨a2,a8,c9,a9⟩:=zV (o:=(v.length+1)*5) (U (-7)) (U 0) (.string ⟨#[]⟩) (U 0) (U 0) p Zm;refine⟨a2,rfl,pm (pm g (Af ..) Zq) (Af ..) Zq,a8,?_⟩;rw[List.take_of_length_le Zx,show (v.length+1)*5=v.length*5+5 by omega,q,h,YG]at a9;simp_all[mQ,zA]
end
section
variable {a g e : Zw} {v : List el} {d : Zv} {b : Nat} {c : Array Zv}
def uM:∀v:List el,(v.flatMap dQ).length=v.length*5
 |[]=>rfl
 |x::a=>by rw[YD,Yq,uM a];simp;omega
def HN(j:a.heap[b]? = some (.cells c 87))(k:c.toList=mQ v){d:Nat}(m:d<v.length):a.cell? ⟨b,d*5,none⟩=some (U (v.getD d bL).F)/\a.cell? ⟨b,d*5+1,none⟩=some (U (v.getD d bL).n)/\a.cell? ⟨b,d*5+2,none⟩=some (.string ⟨(v.getD d bL).s.toArray⟩)/\a.cell? ⟨b,d*5+3,none⟩=some (U (v.getD d bL).y)/\a.cell? ⟨b,d*5+4,none⟩=some (U (v.getD d bL).av):=by
 have i:v[d]? = some (v.getD d bL):=Zg;have e:∀g,g<5->∀h,(dQ (v.getD d bL))[g]? = some h->a.cell? ⟨b,d*5+g,none⟩=some h:=λg l h o=>by
  refine aS j ?_;rw[<-Array.getElem?_toList,k];unfold mQ;rw[Ys (by rw[uM];omega),sZ (f:=dQ) (k:=5) (λ_=>rfl) v d g l,i];grind
 exact⟨e 0 Zm _ rfl,e 1 Zm _ rfl,e 2 Zm _ rfl,e 3 Zm _ rfl,e 4 Zm _ rfl⟩
def abg(p:a.ownsRow 0 52 5 d v.length (v.flatMap dQ))(g:a.heap[b]? = some (.cells c 87))(r:c.toList=mQ v)(R:v.length<=1000000)(z:Nat):Calls prog 38 #[.slice (some ⟨b,0,none⟩) v.length z,d] a λA h=>A=.returned (.bool true)/\an [] a h:=by
 obtain⟨S,a0,D⟩:=bM p;have x:=aa p;have m:=aa (Yp g r);subst D;clear p g r;go_in;go_wp2;go_loopw [5] (λo e=>∃f:Nat,o=U f/\f<=v.length/\af (an [] a e)) (λo _=>v.length-(intOf o).toNat)
 case atStart=>exact⟨0,rfl,Zm,aa (ao [] a)⟩
 case round=>
  obtain⟨f,rfl,P,k⟩:=hrel;rcases Yj f v.length with t|O
  .have C:(f:Int)<v.length:=Zm;obtain⟨l,a1,u,E,F,G,H,I⟩:=ts (bw x.w k.w Zq) t;simp only[Value.slice.injEq,true_and]at u;obtain⟨rfl,rfl⟩:=u;obtain⟨J,K,L,M,N⟩:=HN ((k.w.L _ (au m.w.1) Zq).trans m.w.1) m.w.2 t;generalize v.getD f bL=i at *
   go_wp2;refine cy (λh=>h.cell? ⟨l,f*5,none⟩=some (U i.F)/\h.cell? ⟨l,f*5+1,none⟩=some (U i.n)/\h.cell? ⟨l,f*5+2,none⟩=some (Zs i.s)/\h.cell? ⟨l,f*5+3,none⟩=some (U i.y)/\h.cell? ⟨l,f*5+4,none⟩=some (U i.av)/\h.cell? ⟨b,f*5,none⟩=some (U i.F)/\h.cell? ⟨b,f*5+1,none⟩=some (U i.n)/\h.cell? ⟨b,f*5+2,none⟩=some (Zs i.s)/\h.cell? ⟨b,f*5+3,none⟩=some (U i.y)/\h.cell? ⟨b,f*5+4,none⟩=some (U i.av)) ?_ λB=>?_
   .go_keep
   refine bI [0,1,2,3,4,5,6,7,8,9] ?_;iterate 10 (refine bK ?_)
   refine bJ ?_;refine tk (i:=10) (v:=.bool false) rfl Zk (λ_ _ _ g=>g) Zk Zt ?_ ?_
   .intro a j;(try dsimp only at j);go_simp;(try with_reducible rfl);all_goals (try omega)
   refine nz ?_;refine bI [11,12,13,14,15,16,17,18,19,20,21] ?_;iterate 11 (refine bK ?_)
   refine bJ ?_;refine tk (i:=22) (v:=.bool false) rfl Zk (λ_ _ _ g=>g) Zk Zt ?_ ?_
   .intro a j;(try dsimp only at j);go_simp;(try with_reducible rfl);all_goals (try omega)
   refine nz ?_;refine bI [23,24,25,26,27,28,29,30,31,32,33,34] ?_;iterate 12 (refine bK ?_)
   refine bJ ?_;refine tk (i:=35) (v:=.bool false) rfl Zk (λ_ _ _ g=>g) Zk Zt ?_ ?_
   .intro a j;(try dsimp only at j);go_simp;(try with_reducible rfl);all_goals (try omega)
   refine nz ?_;refine bI [36,37,38,39,40,41,42,43,44,45,46,47] ?_;iterate 12 (refine bK ?_)
   refine bJ ?_;refine tk (i:=48) (v:=.bool false) rfl Zk (λ_ _ _ g=>g) Zk Zt ?_ ?_
   .intro a j;(try dsimp only at j);go_simp;(try with_reducible rfl);all_goals (try omega)
   refine nz ?_;refine bI [49,50,51,52,53,54,55,56,57,58,59,60] ?_;iterate 12 (refine bK ?_)
   refine bJ ?_;refine tk (i:=61) (v:=.bool false) rfl Zk (λ_ _ _ g=>g) Zk Zt ?_ ?_
   .intro a j;(try dsimp only at j);go_simp;(try with_reducible rfl);all_goals (try omega)
   refine nz ?_;refine cw λy q=>?_;go_simp;refine q.out _ _ ?_;clear q y;refine nz ?_;have w:=aa k.w.aU;clear E F G H I J K L M N B k;generalize World.drew _=a2 at w ⊢;go_wp2;grind [intOf]
  .have C:¬(f:Int)<v.length:=Zm;go_wp2;go_ret;exact⟨rfl,k.w⟩
end
section
variable {w e c : Zw} {v : List el} {d : Zv} {a : Nat} {b : Array Zv}
def Tl(a:b.toList=mQ v):b.size=(v.length+2)*5:=by
 rw[<-Array.length_toList,a];unfold mQ zA;rw[Yq,uM];simp;omega
def Tj(c:w.heap[a]? = some (.cells b 87))(d:b.toList=mQ v):w.cell? ⟨a,v.length*5,none⟩=some (U (-7))/\w.cell? ⟨a,(v.length+1)*5,none⟩=some (U (-7)):=by
 constructor
 .refine aS c ?_;rw[<-Array.getElem?_toList,d];unfold mQ;rw[Yw (by rw[uM];omega),uM,Nat.sub_self];rfl
 .refine aS c ?_;rw[<-Array.getElem?_toList,d];unfold mQ;rw[Yw (by rw[uM];omega),uM,show (v.length+1)*5-v.length*5=5 by omega];rfl
def acA(q:w.ownsRow 0 52 5 d v.length (v.flatMap dQ))(k:w.heap[a]? = some (.cells b 87))(l:b.toList=mQ v)(F:v.length<=1000000):Calls prog 34 #[.slice (some ⟨a,0,none⟩) v.length (v.length+2),d] w λu G=>u=.returned (.bool true)/\an [a] w G:=by
 obtain⟨a2,a3,E⟩:=bM q;have t:=aa (abg q k l F (v.length+2));have i:=aa (Yp k (Yp l (Tl l)));subst E;clear q k l;have S:(0:Int)<=(v.length:Int)+2:=by omega
 have a0:(v.length:Int)<(v.length:Int)+2:=by omega
 have a1:(v.length:Int)+1<(v.length:Int)+2:=by omega
 go_in;go_wp21;refine t.w.mono ?_;rintro u a9 ⟨rfl,g⟩;have f:=(g.L _ (au i.w.1) (by simp)).trans i.w.1;obtain⟨H,I⟩:=Tj f i.w.2.1;have s:=aa (Yp (g.ak (M':=[a]) (by simp)) f);have x:=aa i.w.2.2;clear g f t i;go_wp2;go_loopw [9] (λp c=>∃(e:Nat) (j:Array Zv),p=U e/\e<=v.length+2/\af (an [a] w c/\c.heap[a]? = some (.cells j 87)/\j.size=(v.length+2)*5)) (λp _=>v.length+2-(intOf p).toNat)
 case atStart=>exact⟨0,b,rfl,by omega,aa ⟨s.w.1,s.w.2,x.w⟩⟩
 case round=>
  obtain⟨e,j,rfl,R,n⟩:=hrel;rcases Yj e (v.length+2)with D|P
  .have C:(e:Int)<(v.length:Int)+2:=by omega
   obtain⟨g,f,r⟩:=n.w;have h:∀m,m<j.size->∃y,wr.cell? (Zd a m)=some y:=λm k=>⟨j[m],aS f (by simp[k])⟩;have J:=dw f;obtain⟨K,a4⟩:=h (e*5) (by omega);obtain⟨L,a5⟩:=h (e*5+1) (by omega);obtain⟨M,a6⟩:=h (e*5+2) (by omega);obtain⟨N,a7⟩:=h (e*5+3) (by omega);obtain⟨O,a8⟩:=h (e*5+4) (by omega);clear h f r g;go_wp2;obtain⟨g,f,r⟩:=n.w;obtain⟨z,A,B,-⟩:=zV (o:=e*5) (U (-7)) (U 0) (.string ⟨#[]⟩) (U 0) (U 0) f (by omega);exact⟨⟨e+1,z,by go_num,D,aa ⟨g.u (Af _ _ _ _ _ _ _ _),A,B.trans r⟩⟩,by simp[intOf];omega⟩
  .have C:¬(e:Int)<(v.length:Int)+2:=by omega
   go_wp2;go_ret;exact⟨rfl,n.w.1⟩
end
section
variable {i : Nat -> Prop} {h f : Nat} {j : Zb} {σ : ai} {w k a : Zw} {d : PV} {v : List el} {e : Zv} {g : Nl} {Kn : Zb -> Prop} {c : Nat} {b : Array Zv}
def nE(d:List aC)(e:Zb)(v:List el)(a b c:Int):Zb:=match jk (gV d).2 e a b c with
 |.error _=>[]
 |.ok _=>match jd (ff d) e (v.map gN) a.toNat b.toNat c.toNat with
  |.ok f=>f
  |.error _=>[]
def Tk(d:w.heap[c]? = some (.cells b 87))(e:b.toList=mQ v)(i:v.length<=1000000):pX w (.slice (some ⟨c,0,none⟩) v.length (v.length+2)) (v.map gN):=by
 refine⟨some ⟨c,0,none⟩,v.length+2,Zq,Zq,Yz (show v.length+2<=1000002 by omega) Ze,λa h j=>?_⟩;have f:a<v.length:=by
  grind
 have g:h=gN (v.getD a bL):=by
  simp_all
 subst g;have:=HN d e f;refine⟨c,0,rfl,?_⟩;rw[Nat.zero_add];exact this
def uo(σ:ai)(e:List aC)(d:Zb)(v:List el)(a b c:Int):Zv:=if gM σ d<0 then .tuple #[.string ⟨#[]⟩,U 10,U (-1)]else if ¬nG a b c then .tuple #[.string ⟨#[]⟩,U 11,U (-1)]else uq (jd (ff e) d (v.map gN) a.toNat b.toNat c.toNat)
def Rh{h b e f g q}(n:vv w (jk (gV h).2 b e f g) (jd (ff h) b (v.map gN) e.toNat f.toNat g.toNat) q a)(N:gM σ b<0↔ci (gV h).2 b=none)(F:w.cell? (Zd 1 0)=some (fg 55))(L:1≠c)(K:c<w.heap.size):an [] w a/\∃C u x,q=.returned (.tuple #[.string ⟨(nE h b v e f g).toArray⟩,x])/\uo σ h b v e f g=.tuple #[.string ⟨(nE h b v e f g).toArray⟩,U C,U u]/\
  ((0<=gM σ b->nG e f g->so (jd (ff h) b (v.map gN) e.toNat f.toNat g.toNat))->∀d,an [c] a d->Calls prog 27 #[x,U C,U u] d λq I=>q=.returned (.bool true)/\an [] d I):=by
 obtain⟨B,n⟩:=n;refine⟨B,?_⟩;have t:∀d,an [c] a d->d.cell? (Zd 1 0)=some (fg 55):=λd k=>k.ba Zu (B.ba Zq F);have z:∀D,jk (gV h).2 b e f g=.ok D->¬gM σ b<0/\nG e f g:=λD r=>by
  unfold jk at r;cases j:ci (gV h).2 b with
  |none=>simp_all
  |some p=>
   rw[j]at r;dsimp only at r;refine⟨λn=>Zu,?_⟩;split at r
   .simp_all[kC,nG]
   simp_all
 rcases n with⟨A,i,rfl⟩|⟨p,J,i,l,rfl⟩|⟨p,s,E,i,l,rfl,M,y⟩
 .have o:nE h b v e f g=[]:=by simp[nE,i]
  have G:(A=10/\gM σ b<0)\/(A=11/\¬gM σ b<0/\¬nG e f g):=by
   unfold jk at i;cases j:ci (gV h).2 b with
   |none=>simp_all
   |some p=>
    rw[j]at i;dsimp only at i;have m:¬gM σ b<0:=λn=>by simp_all
    split at i;all_goals simp_all[kC]
  rw[o];rcases G with⟨rfl,m⟩|⟨rfl,m,j⟩
  .exact⟨10,-1,_,rfl,by unfold uo;simp_all,λ_ d k=>Me (t d k) 10 Ze⟩
  .exact⟨11,-1,_,rfl,by simp_all[uo],λ_ d k=>Me (t d k) 11 Ze⟩
 .have o:nE h b v e f g=J:=by simp[nE,i,l]
  obtain⟨m,j⟩:=z p i;rw[o];exact⟨0,0,_,rfl,by unfold uo;rw[Y2 m,Y2 (not_not_intro j),l];rfl,λ_ d k=>Mg 0 d⟩
 .have o:nE h b v e f g=[]:=by simp[nE,i,l]
  obtain⟨m,j⟩:=z p i;rw[o];refine⟨s.no,s.y,_,rfl,by unfold uo;rw[Y2 m,Y2 (not_not_intro j),l];rfl,λH d k=>Mf (t d k) ((k.L E (au y) Zg).trans y) (H Zm j s l)⟩
def Rl{S E:Nat}{o f3}(f9:w.heap[S]? = some (.cells #[Zp E,d.rv,d.nv,d.pv,Zs σ.w] 67))(f7:vI f3 E o)(c7:∀t∈f3,w.heap[t.1]? = some t.2)(f8:oT o)(g0:∀P∈(gV o).1,ns P)
  (K:bB i h j f σ d w) (f6:f<=1000000000) (L:w.ownsRow 0 52 5 e v.length (v.flatMap dQ)) (f5:∀P∈v,-9223372036854775808<=P.n/\P.n<=9223372036854775807) (b1:v.length<=1000000) (g9:Tb σ.A g (ff o) Kn) (m:Zb) (g3:0<=gM σ m->∃a8,ff o m=some a8/\kN σ.A g a8 (gM σ m)/\(∀t∈gR a8,Kn t.1)/\ml a8) (g4:gM σ m<0↔ci (gV o).2 m=none) (c5:w.cell? (Zd 1 0)=some (fg 55)) (c k l:Int) :
  Calls prog 20 #[Zp S,Zs m,e,U c,U k,U l] w λI p=>I=.returned (.tuple #[.string ⟨(nE o m v c k l).toArray⟩,.bool true])/\an [] w p:=by
 have e7:=aa (UE c k l w);have e6:=aa (λa (r:an [] w a)=>Tm (bw L r Zq) b1);have e4:=aa (λa (r:an [] w a) i1 (c6:pX a i1 (v.map gN))=>NA f7 (λt g1=>(r.L t.1 (au (c7 t g1)) Zq).trans (c7 t g1)) f8 g0 m c6 c k l);have e9:=aa (λa (r:an [] w a) (C:Nat) (b:Array Zv) (s:a.heap[C]? = some (Obj.cells b 87)) (c3:b.toList=mQ v)=>acA (w:=a) (bw L r Zq) s c3 b1);have B:=aa (λa (r:an [] w a)=>NC (K.ah r) f6 (bw L r Zq) f5 g9 m g3 c k l);have h5:1<w.heap.size:=by
  rcases Yj 1 w.heap.size with s|s
  .exact s
  .simp[World.cell?,YO s]at c5
 have f1:=aa (λ(a i9:Zw) (H:Ending) (r:an [] w a) (C:Nat) (j3:w.heap.size<=C) (h4:C<a.heap.size) (s:vv a (jk (gV o).2 m c k l) (jd (ff o) m (v.map gN) c.toNat k.toNat l.toNat) H i9)=>Rh (σ:=σ) s g4 (r.ba Zq c5) Zm h4);have a0:=aa f9;obtain⟨b9,c2,h9⟩:=bM K.A;obtain⟨b7,c0,h7⟩:=bM K.K;obtain⟨b8,c1,h8⟩:=bM K.aq;obtain⟨j5,j6,c6⟩:=bM L;have d5:=aa (λ(a:Zw) (C:Nat) (b:Array Zv) (s:a.heap[C]? = some (Obj.cells b 87)) (c3:b.toList=mQ v)=>Tk s c3 b1);clear f9 f7 c7 f8 g0 K f6 L f5 b1 g9 g3 g4 c5 h5;have B:af (∀a,an [] w a->Calls prog 35 #[jj d σ,Zs m,e,qx c k l] a λI p=>an [] a p/\I=.returned (uo σ o m v c k l)/\(0<=gM σ m->nG c k l->so (jd (ff o) m (v.map gN) c.toNat k.toNat l.toNat))):=B;unfold jj at B;rw[h9,h7,h8]at B a0;subst c6;generalize (0<=gM σ m->nG c k l->so (jd (ff o) m (v.map gN) c.toNat k.toNat l.toNat))=k1 at *
 generalize uo σ o m v c k l=j0 at *
 generalize nE o m v c k l=P at *
 generalize jk (gV o).2 m c k l=j8 at *
 generalize jd (ff o) m (v.map gN) c.toNat k.toNat l.toNat=g8 at *
 go_in;go_wp21;refine e7.w.mono ?_;rintro I n ⟨rfl,g6⟩;have d8:=aa g6;clear g6 e7;go_wp21;generalize b0:World.alloc (World.alloc n _) _=a;have a2:af (an [] w a):=by subst b0;exact(d8.w.H _).H _
 have b4:af (a.heap[n.heap.size]? = some (.cells #[U c,U k,U l] 72)):=by
  subst b0;exact(((ao [] _).H _).L _ Zq Zq).trans (aQ rfl)
 have a3:af (a.heap[n.heap.size+1]? = some (.cells #[U c,U k,U l] 73)):=by
  subst b0;exact aQ Zq
 have k0:n.heap.size+1<a.heap.size:=au a3.w;clear b0;refine(e6.w a a2.w).mono ?_;rintro I d3 ⟨b,rfl,b2,a9,c4⟩;have G:=aa (a2.w.u b2);have a1:=aa a9;have d6:=aa c4;have z:=aa ((G.w.L _ (au a0.w) Zq).trans a0.w);have a4:=aa ((b2.L _ (au b4.w) Zq).trans b4.w);have b5:=aa ((b2.L _ (au a3.w) Zq).trans a3.w);have e5:=aa (e4.w d3.drew G.w.aU _ (d5.w d3.drew a.heap.size b a9 c4));have i2:d3.cell? (Zd S 0)=some (Zp E):=aS z.w rfl;have c8:=lx a4.w;have h0:=aa (au a9);have f2:=aa (show w.heap.size<=a.heap.size from a2.w.aD);clear a9 c4 b2 e6 e4 d5 b4 a3 d8 a2 a0;go_wp21;refine cy (λp=>p.cell? (Zd S 0)=some (Zp E)/\p.cell? (Zd n.heap.size 0)=some (U c)/\p.cell? (Zd n.heap.size 1)=some (U k)/\p.cell? (Zd n.heap.size 2)=some (U l)) ?_ λJ=>?_
 .go_keep
 refine bI [0,1,2,3,4,5,6] ?_;iterate 7 (refine bK ?_)
 refine bJ ?_;refine cx 7 λx q=>?_;(go_simp;go_at_call 33;refine e5.w.mono ?_;rintro H O f4;obtain⟨D,j7,j1,j2,rfl,h3,g2⟩:=f1.w _ _ _ G.w.aU _ f2.w h0.w f4;have b3:=aa (G.w.aU.u D);have R:=aa ((D.L _ (au z.w) Zq).trans z.w);have a5:=aa ((D.L _ (au a4.w) Zq).trans a4.w);have b6:=aa ((D.L _ (au b5.w) Zq).trans b5.w);have d4:=aa ((D.L _ (au a1.w) Zq).trans a1.w);subst h3;have d7:=aa g2;have c9:O.cell? (Zd S 0)=some (Zp E):=aS R.w rfl;have d0:O.cell? (Zd n.heap.size 0)=some (U c):=aS a5.w rfl;have d1:O.cell? (Zd n.heap.size 1)=some (U k):=aS a5.w rfl;have d2:O.cell? (Zd n.heap.size 2)=some (U l):=aS a5.w rfl;clear D f4 g2 f1 e5);refine q.out _ _ ?_ (λJ=>?_)
 .go_keep
 clear q x;refine nz ?_;refine bI [8,9,10,11] ?_;iterate 4 (refine bK ?_)
 refine bJ ?_;refine cw λx q=>?_;go_simp;refine q.out _ _ ?_;clear q x;refine nz ?_;clear c9 d0 d1 d2 c8 i2 J;have f0:=aa (e9.w O b3.w a.heap.size b d4.w d6.w);go_wp21;refine f0.w.mono ?_;rintro H y ⟨rfl,M⟩;have d9:=aa (show an [] w y from b3.w.b1 M (λj4 h6=>.inr (by rw[Yc.1 h6];exact f2.w)));have h2:=au z.w;have e2:S≠a.heap.size:=by
  rintro rfl;have:=z.w.symm.trans a1.w;simp at this
 have A:=aa ((M.L _ (au R.w) (by simpa using e2)).trans R.w);have a6:=aa ((M.L _ (au b6.w) Zx).trans b6.w);have e1:=aa M;have e8:=aa (B.w y.drew d9.w.aU);have c9:y.cell? (Zd S 1)=some (.slice b9 σ.A.length c2):=aS A.w rfl;have d0:y.cell? (Zd S 2)=some (.slice b7 σ.K.length c0):=aS A.w rfl;have d1:y.cell? (Zd S 3)=some (.slice b8 σ.aq.length c1):=aS A.w rfl;have d2:y.cell? (Zd S 4)=some (Zs σ.w):=aS A.w rfl;have c8:y.cell? ⟨n.heap.size+1,0,none⟩=some (U c):=aS a6.w rfl;have i0:=lx a6.w;clear M e9 f0 B R a5 b6 d4 a4 b5 z a1 d6 G b3 h2 e2;go_wp21;refine cy (λp=>p.cell? (Zd S 1)=some (.slice b9 σ.A.length c2)/\p.cell? (Zd S 2)=some (.slice b7 σ.K.length c0)/\p.cell? (Zd S 3)=some (.slice b8 σ.aq.length c1)/\p.cell? (Zd S 4)=some (Zs σ.w)/\p.cell? ⟨n.heap.size+1,0,none⟩=some (U c)/\p.cell? ⟨n.heap.size+1,1,none⟩=some (U k)/\p.cell? ⟨n.heap.size+1,2,none⟩=some (U l)) ?_ λJ=>?_
 .go_keep
 refine bI [0,1,2,3,4,5,6] ?_;iterate 7 (refine bK ?_)
 refine bJ ?_;refine cx 7 λx q=>?_;(go_simp;go_at_call 35;refine e8.w.mono ?_;rintro H u ⟨N,rfl,g5⟩;have e0:=aa (d9.w.aU.u N);have e3:=aa (d7.w g5 u ((e1.w.aU).u (N.ak Zq)));have F:=(N.L _ (au A.w) Zq).trans A.w;have a7:=(N.L _ (au a6.w) Zq).trans a6.w;have g8:u.cell? (Zd S 1)=some (.slice b9 σ.A.length c2):=aS F rfl;have i3:u.cell? (Zd S 2)=some (.slice b7 σ.K.length c0):=aS F rfl;have i4:u.cell? (Zd S 3)=some (.slice b8 σ.aq.length c1):=aS F rfl;have i5:u.cell? (Zd S 4)=some (Zs σ.w):=aS F rfl;have i6:u.cell? ⟨n.heap.size+1,0,none⟩=some (U c):=aS a7 rfl;have i7:u.cell? ⟨n.heap.size+1,1,none⟩=some (U k):=aS a7 rfl;have i8:u.cell? ⟨n.heap.size+1,2,none⟩=some (U l):=aS a7 rfl;clear N g5 d7 e8 F a7 e1);refine q.out _ _ ?_ (λJ=>?_)
 .go_keep
 clear q x;refine nz ?_;refine bI [8,9,10,11,12,13] ?_;iterate 6 (refine bK ?_)
 refine bJ ?_;refine cw λx q=>?_;go_simp;refine q.out _ _ ?_;clear q x;refine nz ?_;clear c9 d0 d1 d2 c8 i0 g8 i3 i4 i5 i6 i7 i8 J;go_wp21;refine e3.w.mono ?_;rintro H j9 ⟨rfl,g7⟩;have h1:=aa (e0.w.u g7);clear g7 e0 e3;go_wp2;go_ret2;exact⟨rfl,h1.w⟩
end
section
variable {h : Nat -> Prop} {g e : Nat} {c : Zb} {d : ai} {a : Zw} {b : PV} {v : List el} {f : Zv}
def Rm{S s:Nat}{i t y w}(l:eP (aI c)=.ok i)(j:Wh c i y w d)(r:lI w i)
  (G:a.heap[S]? = some (.cells #[Zp s,b.rv,b.nv,b.pv,.string ⟨(dG d).w.toArray⟩] 67)) (E:vI t s i) (L:∀u∈t,a.heap[u.1]? = some u.2)
  (F:bB h g c e (dG d) b a) (D:e<=1000000000) (J:a.ownsRow 0 52 5 f v.length (v.flatMap dQ)) (C:∀x∈v,-9223372036854775808<=x.n/\x.n<=9223372036854775807) (K:v.length<=1000000) (m:Zb) (I:a.cell? (Zd 1 0)=some (fg 55)) (n o p:Int) :
  Calls prog 20 #[Zp S,Zs m,f,U n,U o,U p] a λA M=>A=.returned (.tuple #[.string ⟨(nE i m v n o p).toArray⟩,.bool true])/\an [] a M:=by
 have k:=j.p4 r (Mb l) (adv l);have q:=j.pa (adw l);exact Rl G E L k (adX q λz H=>(Ma l z H).x) F D J C K (j.tb r k q) m (λB=>j.p0 r k q B) (j.oj k m) I n o p
end
def Ga(S:Nat)(d:Zw):Prop:=∃c b f h a m l g k j e,eP (aI c)=.ok b/\Wh c b k j e/\lI j b/\d.heap[S]? = some (.cells #[Zp f,a.rv,a.nv,a.pv,.string ⟨(dG e).w.toArray⟩] 67)/\vI h f b/\(∀i∈h,d.heap[i.1]? = some i.2)/\bB m l c g (dG e) a d/\g<=1000000000
def xg(b:List Th)(d:Zw)(S:Nat):Prop:=∀a,an [] d a->(∀c∈b,c.At a)->Ga S a
def Ud{i d b c:Zw}{S:Nat}(f:an [] i b)(e:an [] i c)(m:d.heap.size<=S)(n:S<b.heap.size)(k:∀j∈qz d b,j.At c):an (List.range d.heap.size) b c:=by
 have l:∀a,d.heap.size<=a->a<b.heap.size->c.heap[a]? = b.heap[a]?:=λa g h=>by
  rw[Array.getElem?_eq_getElem h];exact k _ (WN g (Array.getElem?_eq_getElem h))
 refine⟨e.os.trans f.os.symm,e.dq.trans f.dq.symm,e.dp.trans f.dp.symm,?_,λa g h=>l a Zu g⟩;grind
def ZW{D a3}(B:eP (aI D)=.ok a3){c}(a5:Gl c):Calls prog 16 #[Zs D] c λw O=>an [] c O/\∃S,w=.returned (.tuple #[Zp S,.bool true])/\c.heap.size<=S/\∀P,an [] P O->xg (qz c O) P S:=by
 have a0:=aa B;have a2:=aa (Ou B (λb5 b8=>(Ma B b5 b8).cg) a5);clear a5 B;go_in;go_wp21;refine a2.w.mono ?_;rintro w c5 ⟨v,b4,rfl,J,a6,H,-,a4⟩;go_wp21;refine(FR D c5).mono ?_;rintro w k ⟨K,G⟩;unfold pS at G;rw[a0.w]at G;obtain⟨b2,g,b3,b1,b0,a8,c3,b,rfl,i,A,x,h,y,z⟩:=G;obtain⟨o,r,u⟩:=bM i.A;obtain⟨m,p,s⟩:=bM i.K;obtain⟨n,q,t⟩:=bM i.aq;have a9:=aa (Yp a6 (Yp (λd j=>(⟨(K.L _ (au (H d j)) Zq).trans (H d j),a4 d j⟩:k.heap[d.1]? = some d.2/\c.heap.size<=d.1)) (Yp i (Yp A (Yp x (Yp h (Yp y (Yp (λa (e:a<c.heap.size)=>z a (Yr e J.aD)) (Yp u (Yp s t))))))))));have E:=aa (J.u K);have c1:=aa (((ao [] k).H (nc (.slice o g.A.length r) (.slice m g.K.length p) (.slice n g.aq.length q) (Zs g.w))));unfold jj;rw[u,s,t];clear u s t i A x h y z a6 H a4 J K a2;go_wp21;refine(Mg 0 _).mono ?_;rintro w f ⟨rfl,L⟩;have l:=(L.L k.heap.size Zq Zq).trans (aQ rfl);obtain⟨c6,R,c7,c8⟩:f.cell? (Zd k.heap.size 0)=some (.slice o g.A.length r)/\f.cell? (Zd k.heap.size 1)=some (.slice m g.K.length p)/\f.cell? (Zd k.heap.size 2)=some (.slice n g.aq.length q)/\f.cell? (Zd k.heap.size 3)=some (Zs g.w):=⟨aS l rfl,aS l rfl,aS l rfl,aS l rfl⟩;have c9:=dw l;have a1:=aa (c1.w.u L);have d0:=au l;clear l L;go_wp2;go_ret2;obtain⟨b6,F,i,A,rfl,h,y,z,u,s,t⟩:=a9.w;have C:=a1.w.u ((ao [] f).H (.cells #[Zp v,.slice o (dG b).A.length r,.slice m (dG b).K.length p,.slice n (dG b).aq.length q,.string ⟨(dG b).w.toArray⟩] 67));have I:c.heap.size<=f.heap.size:=Yz E.w.aD a1.w.aD;refine⟨E.w.u C,f.heap.size,rfl,I,λP c0 c4 c2 b9=>?_⟩;have M:=Ud c0 c2 I Zq b9;have a7:∀a N,c.heap.size<=a->(f.alloc (.cells #[Zp v,.slice o (dG b).A.length r,.slice m (dG b).K.length p,.slice n (dG b).aq.length q,.string ⟨(dG b).w.toArray⟩] 67)).heap[a]? = some N->c4.heap[a]? = some N:=λa N x h=>(M.L _ (au h) (by simpa using x)).trans h;refine⟨D,a3,v,b4,b2,λa=>a<c.heap.size,b1,b0,a8,c3,b,a0.w,h,y,?_,b6,λd j=>a7 _ _ (F d j).2 ((C.L _ (au (F d j).1) Zq).trans (F d j).1),?_,A⟩
 .rw[u,s,t];exact a7 _ _ I (aQ rfl)
 .have b7:=i.ah C;have R:c.heap.size<=(f.alloc (.cells #[Zp v,.slice o (dG b).A.length r,.slice m (dG b).K.length p,.slice n (dG b).aq.length q,.string ⟨(dG b).w.toArray⟩] 67)).heap.size:=Yz E.w.aD C.aD;exact bB.gE (X:=λa=>a<c.heap.size) (b7.gE (ao [] _) Zq (λa e=>Y8 (z a e)) (λa e=>Yr e R)) M Zq (λa e=>Y8 e) (λa e=>Yr e (Yz R M.aD))
section
variable {f e : Zw} {d : Nat} {s k : fo} {l m h g : Zv} {R : List Th}
def acu(B:bu (wL d s l m h g R) e f)(b:dM)(t:kL b)(u:tS s)(a4:b.F=9){b2}(a7:eP (aI (fU s b.a))=.ok b2)(a2:Gl e):Calls prog 13 #[Zp d,.agg (dm b)] f λy c5=>y=.returned (.bool true)/\∃S n o c4 E,bu (wL d { s with bU:=s.bU++[S] } n o c4 g (R++E)) e c5/\xg E e S:=by
 obtain⟨jv,p,rfl⟩:=bM (B.bX (i:=3) (a:=tG 37 h s.bU) rfl);have x:=aa (yp (B.ap (.cells (dm b) 27)) b t u);rw[Kq a4]at x;have J:=aa (λ(C:Zw) n o (a9:bu (wL d s n o (.slice jv s.bU.length p) g (R++[.obj f.heap.size (.cells (dm b) 27)])) e C)=>vb (s:=s) (a9.b2 (i:=0) (R:=d) rfl) (a9.bX (i:=1) (a:=cV n s.aG) rfl) b.a t.2.1.1 t.2.1.2 (by have:=u.aG;omega));have G:=aa (λ(C:Zw) (b6:an [] e C)=>ZW a7 (a2.ac b6 Zq Zq Zq));have b5:(s.bU.length+1)*8<=140737488355328:=by have:=u.bU;omega
 generalize fU s b.a=tx at *
 have d0:(b.F==9)=true:=Zu;clear B t u a7 a2 a4;go_in;go_wp21;refine x.w.mono ?_;rintro y c6 ⟨rfl,n,o,z⟩;have w:=aa z;have K:=aa (J.w c6 n o z);clear z x J;obtain⟨b7,b8,b9,c0,c1,c2,of,c3⟩:=fs w.w.ic;generalize f.heap.size=c8 at *
 go_wp21;refine K.w.mono ?_;rintro c9 v ⟨rfl,a8⟩;have q:=aa (w.w.ac a8);have I:=aa (G.w v q.w.fr);clear w K G a8 b7 b8 b9 c0 c1 c2 of c3;go_wp21;refine I.w.mono ?_;rintro y c ⟨A,S,rfl,b3,a0⟩;have r:=aa (show bu (wL d s n o (.slice jv s.bU.length p) g (R++qz v c)) e c from q.w.iX.jJ A);have b0:af (xg (qz v c) e S):=a0 e (q.w.fr.u A);clear q I A b3 a0;have k:=r.w.b2 (i:=0) (R:=d) rfl;have L:c.cell? (Zd d 6)=some (.slice jv s.bU.length p):=aS k rfl;have M:=dw k;have N:=au k;clear k;have a5:af (∀D,(c.alloc D).ownsRow 0 37 1 (.slice jv s.bU.length p) s.bU.length (s.bU.map uT)):=aa (λD=>bw (r.w.bX (i:=3) (a:=tG 37 (.slice jv s.bU.length p) s.bU) rfl) ((ao [] c).H D) Zq);go_wp2_with (at_builtin;(refine kl TQ underlying32 (a5.w _) [uT S] (heap_alloc_new c _) Zy b5 Zq (H:=c.heap.size+1) Zq ?_;intro P O c7 a6 a3 a1 b4;have F:=aa (r.w.a9 (i:=3) rfl ((ao [] c).H _) a6 a3 a1 Zq);clear a6 a3 a1 b4 a5 L M N r;have k:=F.w.b2 (i:=0) (R:=d) rfl;have L:c7.cell? (Zd d 6)=some (.slice jv s.bU.length p):=aS k rfl;have M:=dw k;have N:=au k;clear k));go_wp2;go_ret;have b1:=F.w.a5 (i:=0) (j:=6) rfl (.slice (some ⟨P,0,none⟩) (s.bU.length+1) O);exact⟨rfl,S,n,o,.slice (some ⟨P,0,none⟩) (s.bU.length+1) O,qz v c,by simpa[wL,tG]using b1,b0.w⟩
def QW(f:List aC)(e:Zb)(v:List el)(a b c:Int):(nE f e v a b c).length<=1000000000:=by
 unfold nE;split
 .simp
 .rename_i l k;split
  .rename_i m h;obtain⟨i,g,d⟩:=ip h;split at d
   .grind
   cases d
   have j:=TV (QZ (v.map gN) a.toNat b.toNat c.toNat) 64 0 e ⟨0,[]⟩ _ (YV _) g;grind [jk,kC]
  simp
def Ro{S}{v:List el}{g}(j:Ga S f)(u:f.ownsRow 0 52 5 g v.length (v.flatMap dQ))(q:∀a∈v,-9223372036854775808<=a.n/\a.n<=9223372036854775807)(w:v.length<=1000000)(e:Zb)(t:f.cell? (Zd 1 0)=some (fg 55))(b c d:Int) :
  ∃a:Zb,a.length<=1000000000/\Calls prog 20 #[Zp S,Zs e,g,U b,U c,U d] f λi x=>i=.returned (.tuple #[Zs a,.bool true])/\an [] f x:=by
 obtain⟨G,h,y,E,C,D,B,A,z,F,H,k,l,m,n,o,p,r,s⟩:=j;exact⟨_,QW h e v b c d,Rm k l m n o p r s u q w e t b c d⟩
def acl(b5:bu (wL d s l m h g R) e f)(a:dM)(F:kL a)(G:tS s)(C:a.F<=0\/a.F=11)(d0:s.bU≠[])(d7:∀S∈s.bU,xg R e S)(d8:zq s)(d3:e.cell? (Zd 1 0)=some (fg 55)):Calls prog 13 #[Zp d,.agg (dm a)] f λb2 p=>b2=.returned (.bool true)/\∃k r t,bu (wL d k r t h g R) e p/\(k=s\/∃w,k = { s with aG:=s.aG++[w] }/\w.length<=1000000000):=by
 have b3:0<s.bU.length:=YM.2 d0;have a6:fO a.x s.bU.length<s.bU.length:=yt a.x b3;obtain⟨B,E,rfl,-,-⟩:=KA (b5.bX (i:=3) (a:=tG 37 h s.bU) rfl) a6;have a8:=aa (yp (b5.ap (.cells (dm a) 27)) a F G);rw[Ko Zm]at a8;have c0:=aa (λ(I:Zw) r t (v:bu (wL d s r t (.slice (some ⟨B,0,none⟩) s.bU.length E) g (R++[.obj f.heap.size (.cells (dm a) 27)])) e I)=>vb (s:=s) (v.b2 (i:=0) (R:=d) rfl) (v.bX (i:=1) (a:=cV r s.aG) rfl) a.a F.2.1.1 F.2.1.2 (by have:=G.aG;omega));have a9:=aa (AP a.x s.bU.length F.1.1 F.1.2 b3 (by have:=G.bU;omega));have b8:=aa (λ(I:Zw) r t (v:bu (wL d s r t (.slice (some ⟨B,0,none⟩) s.bU.length E) g (R++[.obj f.heap.size (.cells (dm a) 27)])) e I)=>KA (v.bX (i:=3) (a:=tG 37 (.slice (some ⟨B,0,none⟩) s.bU.length E) s.bU) rfl) a6);have b0:=aa (λ(I:Zw) r t (v:bu (wL d s r t (.slice (some ⟨B,0,none⟩) s.bU.length E) g (R++[.obj f.heap.size (.cells (dm a) 27)])) e I)=>Ro (d7 (s.bU.getD (fO a.x s.bU.length) 0) (by simp[a6]) I v.fr λu f3=>v.y u (aey f3)) (v.bX (i:=2) (a:=lD t s.a0) rfl) d8 (by have:=G.a0;omega) s.bl (rH d3 v.fr) s.a s.b s.c);have f5:(s.aG.length+1)*16<=140737488355328:=by have:=G.aG;omega
 have g4:(a.F==9)=false:=Zx;have f9:(a.F==10)=false:=Zx;have a7:=aa C;have g2:¬(14:Int)<a.F:=Zm;have g8:((s.bU.length:Int)==0)=false:=Zx;have g6:(0:Int)<=↑(fO a.x s.bU.length):=Zm;have g7:(↑(fO a.x s.bU.length):Int) < ↑s.bU.length:=Zm;generalize fO a.x s.bU.length=e1 at *
 generalize s.bU.getD e1 0=S at *
 generalize fU s a.a=tx at *
 clear b5 F G d0 b3 a6 C d7 d8 d3;go_in;go_wp21;refine a8.w.mono ?_;rintro b2 b6 ⟨rfl,r,t,L⟩;obtain⟨a3,a4,rfl⟩:=bM (L.bX (i:=1) (a:=cV r s.aG) rfl);obtain⟨c1,c7,rfl⟩:=bM (L.bX (i:=2) (a:=lD t s.a0) rfl);have D:=aa L;obtain⟨g5,f8,d9,c5,c9⟩:=b8.w b6 _ _ L;simp only[Value.slice.injEq,Yu,Addr.mk.injEq,and_true,true_and]at d9;obtain⟨rfl,rfl⟩:=d9;clear L a8 b8;obtain⟨M,N,O,P,a0,a1,of,a2⟩:=fs D.w.ic;have n:=D.w.b2 (i:=0) (R:=d) rfl;have c3:b6.cell? (Zd d 6)=some (.slice (some ⟨B,0,none⟩) s.bU.length E):=aS n rfl;have z:=dw n;have A:=au n;clear n;have b1:=aa (c0.w b6.drew _ _ D.w.aU);clear c0;generalize f.heap.size=c4 at *
 go_wp2;refine cy (λp=>p.cell? (Zd d 6)=some (.slice (some ⟨B,0,none⟩) s.bU.length E)/\p.cell? (Zd c4 1)=some (U a.x)/\p.cell? (Zd B e1)=some (uT S)) ?_ λa5=>?_
 .go_keep
 refine bI [0,1,2,3,4,5,6,7,8,9,10] ?_;iterate 11 (refine bK ?_)
 refine bJ ?_;refine cx 11 λx o=>?_;(go_simp;refine(a9.w _).mono ?_;rintro b2 g9 ⟨rfl,rfl⟩);refine o.out _ _ ?_ (λa5=>?_)
 .go_keep
 clear o x;refine nz ?_;refine bI [12,13] ?_;iterate 2 (refine bK ?_)
 refine bJ ?_;refine cw λx o=>?_;go_simp;refine o.out _ _ ?_;clear o x;refine nz ?_;go_wp21;refine b1.w.mono ?_;rintro f1 f6 ⟨rfl,b4⟩;have y:=aa (D.w.aU.ac b4);rcases a7.w with C|C
 .have f2:(a.F==11)=false:=Zx;have g0:(a.F==12)=false:=Zx;have g1:(a.F==13)=false:=Zx;have g3:(a.F==14)=false:=Zx;clear D b1 b4 M N O P a0 a1 of a2 c3 z A c5 c9 a9 b0 C a7;obtain⟨M,N,O,P,a0,a1,of,a2⟩:=fs y.w.ic;go_wp2;go_ret;exact⟨rfl,s,_,_,y.w.iX,Y8 rfl⟩
 have f2:(a.F==11)=true:=by rw[C];rfl
 clear C a7;obtain⟨w,e0,d2⟩:=b0.w f6.drew _ _ y.w.aU;have e3:=aa e0;have b9:=aa d2;clear e0 d2;clear D b1 b4 M N O P a0 a1 of a2 c3 z A c5 c9 a9 b0;obtain⟨M,N,O,P,a0,a1,of,a2⟩:=fs y.w.ic;have n:=y.w.b2 (i:=0) (R:=d) rfl;have e5:=lx n;have z:=dw n;have A:=au n;clear n;go_wp21;refine cy (λp=>p.cell? (Zd d 1)=some (.slice c1 s.a0.length c7)/\p.cell? (Zd d 2)=some (Zs s.bl)/\p.cell? (Zd d 3)=some (U s.a)/\p.cell? (Zd d 4)=some (U s.b)/\p.cell? (Zd d 5)=some (U s.c)) ?_ λa5=>?_
 .go_keep
 refine bI [0,1,2,3,4,5,6,7,8,9,10,11,12,13,14,15,16,17,18,19,20] ?_;iterate 21 (refine bK ?_)
 refine bJ ?_;refine cx 21 λx o=>?_;(go_simp;refine b9.w.mono ?_;rintro f1 q ⟨rfl,e2⟩;have K:=aa (y.w.aU.ac e2);have J:=K.w.b2 (i:=0) (R:=d) rfl;have e6:q.cell? (Zd d 1)=some (.slice c1 s.a0.length c7):=aS J rfl;have e7:q.cell? (Zd d 2)=some (Zs s.bl):=aS J rfl;have e8:q.cell? (Zd d 3)=some (U s.a):=aS J rfl;have e9:q.cell? (Zd d 4)=some (U s.b):=aS J rfl;have f0:q.cell? (Zd d 5)=some (U s.c):=aS J rfl;clear J e2);refine o.out _ _ ?_ (λa5=>?_)
 .go_keep
 clear o x;refine nz ?_;refine bI [22,23,24,25] ?_;iterate 4 (refine bK ?_)
 refine bJ ?_;refine cw λx o=>?_;go_simp;refine o.out _ _ ?_;clear o x;refine nz ?_;clear y b9 M N O P a0 a1 of a2 e5 z A e6 e7 e8 e9 f0 a5;have n:=K.w.b2 (i:=0) (R:=d) rfl;have c2:q.cell? (Zd d 0)=some (.slice a3 s.aG.length a4):=aS n rfl;have z:=dw n;have A:=au n;clear n;have d5:af (∀w,(q.alloc w).ownsRow 0 9 1 (.slice a3 s.aG.length a4) s.aG.length (s.aG.map λs=>Zs s)):=aa (λw=>bw (K.w.bX (i:=1) (a:=cV (.slice a3 s.aG.length a4) s.aG) rfl) ((ao [] q).H w) Zq);go_wp2_with (at_builtin;(refine kl td underlying30 (d5.w _) [Zs w] (heap_alloc_new q _) Zy f5 Zq (H:=q.heap.size+1) Zq ?_;intro c8 c6 f7 d6 d4 d1 f4;have b7:=aa (K.w.ho (i:=1) rfl ((ao [] q).H _) d6 d4 d1 Zq);clear d6 d4 d1 f4 d5 c2 z A K;have n:=b7.w.b2 (i:=0) (R:=d) rfl;have c2:f7.cell? (Zd d 0)=some (.slice a3 s.aG.length a4):=aS n rfl;have z:=dw n;have A:=au n;clear n));go_wp2;go_ret;have e4:=b7.w.a5 (i:=0) (j:=0) rfl (.slice (some ⟨c8,0,none⟩) (s.aG.length+1) c6);exact⟨rfl,_,.slice (some ⟨c8,0,none⟩) (s.aG.length+1) c6,_,bu.iX (a:=.obj c4 (.cells (dm a) 27)) (by simpa[wL]using e4),Ya ⟨w,rfl,e3.w⟩⟩
end
section
variable {a f : Zw} {g e : Nat} {s h : fo} {i j d c : Zv} {b : List Th} {o : dM}
def BN(g:Nat)(f:Zw)(e:Nat)(a:Zw):Prop:=∃s i j d c b,bu (wL g s i j d c b) f a/\mu e s/\zq s/\∀S∈s.bU,xg b f S
def acm(k:BN g f e a)(O:e<=16384)(o:dM)(t:kL o)(z:o.s.length<=16384)(a4:o.F<9\/o.F=9\/o.F=11)(E:Gl f)(D:f.cell? (Zd 1 0)=some (fg 55)) :
  Calls prog 13 #[Zp g,.agg (dm o)] a λr u=>r=.returned (.bool true)/\BN g f (e+1) u:=by
 obtain⟨s,i,j,d,c,b,x,l,q,p⟩:=k;have w:=l.bc O;by_cases C:o.F=9
 .cases F:eP (aI (fU s o.a))with
  |error a3=>
   refine(acz x o t w C F E D).mono ?_;rintro r u ⟨rfl,m,n,k⟩;exact⟨rfl,s,m,n,d,c,b,k,l.up,q,p⟩
  |ok a2=>
   refine(acu x o t w C F E).mono ?_;rintro r u ⟨rfl,S,m,n,R,a0,k,z⟩;refine⟨rfl,_,m,n,R,c,_,k,⟨l.up.aG,l.up.da,l.up.a0,by have:=l.bU;simp;omega,l.up.e9⟩,q,λK v J I G=>?_⟩;rcases Yn.1 v with v|v
   .exact p K v J I λy A=>G y (Yf _ A)
   .rw[Yc.1 v];exact z J I λy A=>G y (Ym _ A)
 by_cases N:o.F<=0\/o.F=11
 .by_cases H:s.bU=[]
  .refine(acq x o t w Zm H).mono ?_;rintro r u ⟨rfl,m,n,k⟩;exact⟨rfl,s,m,n,d,c,b,k,l.up,q,p⟩
  .refine(acl x o t w N H p q D).mono ?_;rintro r u ⟨rfl,h,m,n,k,rfl|⟨a5,rfl,P⟩⟩
   .exact⟨rfl,h,m,n,d,c,b,k,l.up,q,p⟩
   .exact⟨rfl,_,m,n,d,c,b,k,l.a2 P,q,p⟩
 .obtain⟨h,B⟩:=XC (s:=s) (o:=o) Zm Zm;refine(acs x o t w B).mono ?_;rintro r u ⟨rfl,m,n,k⟩;obtain⟨L,M,a1⟩:=l.o1 z B;exact⟨rfl,h,m,n,d,c,b,k,L,XE t q B,by rw[M];exact p⟩
def NE{v h}(m:pY a v h)(n:∀o∈h,kL o)(u:∀o∈h,o.s.length<=1000000000000000000)(r:Gl a)(q:a.cell? (Zd 1 0)=some (fg 55)) :
  Calls prog 5 #[v] a λA L=>A=.returned (.bool true)/\an [] a L:=by
 have g:an [] a (a.alloc (.cells #[U 9,U 11] 3)):=(ao [] a).H _;have p:(a.alloc (.cells #[U 9,U 11] 3)).heap[a.heap.size]? = some (.cells #[U 9,U 11] 3):=aQ rfl;have l:=aa (XR (kv:=.slice (some ⟨a.heap.size,0,none⟩) 2 2) (ks:=[9,11]) (m.ac g) u ⟨_,_,rfl,λJ F=>⟨a.heap.size,rfl,aS p (by match J,F with|0,_=>rfl|1,_=>rfl)⟩⟩ Zq (λk S R G D H E=>by
  have t:=g.u G;refine ad6 (BN k.heap.size k) D H ⟨_,_,_,_,_,_,aeD k,⟨Zq,Zq,Zq,Zq,Zq⟩,(by intro x f;cases f),Zq⟩ (λe x f=>?_) (λe x o f P I=>?_)
  .obtain⟨s,i,j,d,c,b,K,_⟩:=f;exact K.fr
  .obtain⟨B,O,C⟩:=E o I;exact acm f Zm o (n o B) C Zu (r.ac t Zq Zq Zq) (rH q t)))
 have z:=aa g;obtain⟨ad,M,rfl,-⟩:=m;clear n u r q g p;go_in;go_wp21;refine l.w.mono ?_;rintro N a0 ⟨rfl,w⟩;have y:=aa (z.w.u w);clear l w;go_wp2;go_ret;exact⟨rfl,y.w⟩
end
end Go.Proofs.YtjdhaegijjednaaGreatDoor
