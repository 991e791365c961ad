import Derived.Test.YtjdhaegijjednaaGreatDoorT3
import Derived.Defers
import Derived.Recover
set_option linter.all false
set_option maxRecDepth 100000
set_option maxHeartbeats 4000000
namespace Go.Proofs.YtjdhaegijjednaaGreatDoor
open Go.RowKit
open Go.Sort Go.Lib
open Mar (bG)
open Go.Proofs.Tryz
section
variable {b d:Nat}{g:Zo}{a:List Int}{st:eY}{f e:Zw}
def hT(a:List Int):Zc:=a.flatMap λb=>[[99,97,115,101],itoa b,[58]]
def FO{b:Nat}(c:b<a.length):hT (a.take (b+1))=hT (a.take b)++[[99,97,115,101],itoa a[b],[58]]:=by
 grind [hT,List.take_succ_eq_append_getElem]
def lu(a:List Int):Zc:=if a=[]then [[100,101,102,97,117,108,116],[58]]else hT a
def lk(a:List Int×aO):Zc:=lu a.1++(eI a.2++[[59]])
def DX(I:bA e d b st f)(b8:gn e)(b6:∀b9∈g,e.heap[b9.1]? = some b9.2){c:aO}{K:Zv}(d8:gG g 2 K a.length (a.map λC=>U C))(d2:∀C∈a,iI C)(d1:lI c.H)
  (P:(bc st (lk (a,c))).1.length<=he) :
  Calls prog 350 #[.agg (K::ek c).toArray,lE d b] f (jF e d b (bc st (lk (a,c))) f):=by
 obtain⟨A,D,d0⟩:=dG c.H;have c2:=Z (λr (e0:eY) (I:bA e d b e0 r)=>I.cI b6);have O:=(ak [] f).B (.cells #[K,Zs c.t,U c.m,.iface A D] 363)
 have b7:=aS (w:=f) (o:=.cells #[K,Zs c.t,U c.m,.iface A D] 363) rfl
 have B:=I.lt;have R:=I.F O;have a5:=Z (λr (b0:gU d b (f.alloc (.cells #[K,Zs c.t,U c.m,.iface A D] 363)) r)=>tb b0 b7 B.1 B.2 (by decide))
 have k:=Z (λ(r:Zw) (a9:bA e d b (bc st (lu a)) r)=>tv a9 b8 c d1 (by rw[ct];exact Yz (iv [[59]] (by simp[lk])) P));have l:=Z (λ(r:Zw) (a9:bA e d b (bc (bc st (lu a)) (eI c)) r)=>dR a9 [[59]] (by rw[ct,ct];exact P));have a1:=Z (show bc (bc (bc st (lu a)) (eI c)) [[59]]=bc st (lk (a,c)) by rw[ct,ct];rfl);have a3:=Z (Yz (iv (st:=st) (eI c++[[59]]) (show lk (a,c)=lu a++(eI c++[[59]])from rfl)) P);have a2:=Z O;dsimp only[ek]at k ⊢;rw[d0]at k ⊢;clear I O b6 P B b7;rcases d8 with⟨rfl,c9,_⟩|⟨a7,b5,e1,rfl,⟨e2,e5⟩,d4,d9⟩
 .have d7:a=[]:=Yv.1 c9;subst d7;have a4:=Z R;have s:=Z (dR R [[100,101,102,97,117,108,116],[58]] a3.j);clear R;go_in;go_wp2_with fail;go_loopw [9] (λj S=>j=U 0/\S=f.alloc (.cells #[.slice none 0 0,Zs c.t,U c.m,.iface A D] 363)) (λ_ _=>0)
  case atStart=>simp
  case round=>
   obtain⟨rfl,rfl⟩:=hrel;go_wp2_with fail;refine(s.j _ _ _ (by simp) rfl rfl (by simp)).mono ?_;rintro n c0 ⟨rfl,J,z⟩;have h:=a5.j _ z;have L:=bU (i:=1) h rfl;have M:=bU (i:=2) h rfl;have N:=bU (i:=3) h rfl;have k:=Z (k.j _ J);have v:=Z ((fm a2.j).u z);clear J z s h;go_wp2_with fail;refine k.j.mono ?_;rintro n b2 ⟨rfl,m,q⟩;have l:=Z (l.j _ m);have x:=Z (v.j.u q);clear m q k L M N;go_wp2_with fail;refine(l.j _ _ _ (by simp) rfl rfl (by simp)).mono ?_;rintro n c1 ⟨rfl,p,u⟩;rw[a1.j]at p;have H:=Z (x.j.u u);have F:=Z p;clear p u l;go_wp2;go_end0;exact⟨rfl,F.j,H.j⟩
 .have a4:ac (bA e d b (bc st (hT (a.take 0))) (f.alloc (.cells #[.slice (some ⟨a7,0,none⟩) a.length b5,Zs c.t,U c.m,.iface A D] 363))):=by
   show bA _ _ _ _ _;grind [hT,xY]
  clear R;go_in;go_wp2_with fail;go_loopw [9] (λj S=>∃i:Nat,j=U i/\i<=a.length/\ac (bA e d b (bc st (hT (a.take i))) S)/\ac (gU d b (f.alloc (.cells #[.slice (some ⟨a7,0,none⟩) a.length b5,Zs c.t,U c.m,.iface A D] 363)) S)) (λj _=>a.length-(RowKit.intOf j).toNat)
  case atStart=>exact⟨0,rfl,by omega,a4,zh _ _ _⟩
  case round=>
   obtain⟨i,rfl,O,E,G⟩:=hrel;clear a4;rcases Yj i a.length with B|e3
   .have d6:a≠[]:=by grind
    have d3:wr.cell? (Zd a7 i)=some (U a[i]):=bJ (c2.j _ _ E.j _ d4) d9 (by simp);have e7:(0:Int)<=(i:Int):=by omega
    have e8:(i:Int)<(a.length:Int):=by omega
    have a6:=Z (FO B);have a0:=d2 a[i] (Yy B);have c3:ac ((bc st (hT (a.take (i+1)))).1.length<=he):=by
     have n:lu a=hT (a.take (i+1))++hT (a.drop (i+1)):=by
      rw[lu,Y2 d6];unfold hT;grind [List.take_append_drop]
     exact Yz (iv _ n) a3.j
    generalize a[i]=C at d3 a6 a0;have b3:=Z (od C a0.1 a0.2 (E.j.hm b8));go_wp2_with fail;refine b3.j.mono ?_;rintro n c0 ⟨rfl,a8⟩;have s:=Z (dR (E.j.F a8) [[99,97,115,101],itoa C,[58]] (by rw[ct,<-a6.j];exact c3.j));have v:=Z (G.j.u (fm a8));clear a8 b3;go_wp2_with fail;refine(s.j _ _ _ (by simp) rfl rfl (by simp)).mono ?_;rintro n b2 ⟨rfl,m,q⟩;rw[ct,<-a6.j]at m;have x:=Z (v.j.u q);have c4:=Z m;clear m q s;go_wp2;exact⟨⟨i+1,by rfl,by omega,c4,x⟩,by simp[RowKit.intOf];omega⟩
   .have d5:i=a.length:=by omega
    subst d5;have e4:¬((a.length:Int)<(a.length:Int)):=by omega
    have h:=a5.j _ G.j;have b4:=bU (i:=0) h rfl;have L:=bU (i:=1) h rfl;have M:=bU (i:=2) h rfl;have N:=bU (i:=3) h rfl;by_cases b1:a=[]
    .subst b1;have y:=E.j;rw[YG]at y;have s:=Z (dR (show bA e d b st wr by simpa[hT,xY]using y) [[100,101,102,97,117,108,116],[58]] a3.j);have c5:=Z (λr (b0:gU d b wr r)=>a5.j _ (G.j.u b0));clear y h;go_wp2_with fail;refine(s.j _ _ _ (by simp) rfl rfl (by simp)).mono ?_;rintro n c0 ⟨rfl,J,z⟩;have h:=c5.j _ z;have c6:=bU (i:=1) h rfl;have c7:=bU (i:=2) h rfl;have c8:=bU (i:=3) h rfl;have k:=Z (k.j _ J);have v:=Z (((fm a2.j).u G.j).u z);clear J z s h b4 L M N;go_wp2_with fail;refine k.j.mono ?_;rintro n b2 ⟨rfl,m,q⟩;have l:=Z (l.j _ m);have x:=Z (v.j.u q);clear m q k c6 c7 c8;go_wp2_with fail;refine(l.j _ _ _ (by simp) rfl rfl (by simp)).mono ?_;rintro n c1 ⟨rfl,p,u⟩;rw[a1.j]at p;have H:=Z (x.j.u u);have F:=Z p;clear p u l;go_wp2;go_end0;exact⟨rfl,F.j,H.j⟩
    .have e6:0<a.length:=YM.2 b1;have e9:((a.length:Int)==0)=false:=by grind
     have f0:¬(a.length:Int)=0:=by omega
     have y:=E.j;rw[YG,show hT a=lu a by rw[lu,Y2 b1]]at y;have k:=Z (k.j _ y);have v:=Z ((fm a2.j).u G.j);clear y h;go_wp2_with fail;refine k.j.mono ?_;rintro n b2 ⟨rfl,m,q⟩;have l:=Z (l.j _ m);have x:=Z (v.j.u q);clear m q k b4 L M N;go_wp2_with fail;refine(l.j _ _ _ (by simp) rfl rfl (by simp)).mono ?_;rintro n c1 ⟨rfl,p,u⟩;rw[a1.j]at p;have H:=Z (x.j.u u);have F:=Z p;clear p u l;go_wp2;go_end0;exact⟨rfl,F.j,H.j⟩
def fS(a:List (List Int×aO)):Zc:=a.flatMap lk
def Fx{a:List (List Int×aO)}{b:Nat}(c:b<a.length):fS (a.take (b+1))=fS (a.take b)++lk a[b]:=by
 grind [fS,List.take_succ_eq_append_getElem]
def jz(b:Zb)(a:aO):Zc:=[[117,110,105,111,110],b,[115,119,105,116,99,104],[40]]++(eI a++[[41],[123]])
def EZ(w:bA e d b st f)(c5:gn e)(I:∀D∈g,e.heap[D.1]? = some D.2){q d5:Nat}{k:Zb}{j:aO}{h:List (List Int×aO)}(e3:dg g q (.union k d5 j h))(e8:lI j.H)(e1:∀N∈h,lI N.2.H/\∀n∈N.1,iI n)
  (a4:(bc st ((jz k j++fS h)++[[125],[59]])).1.length<=he) :
  Calls prog 349 #[Zp q,lE d b] f (jF e d b (bc st ((jz k j++fS h)++[[125],[59]])) f):=by
 obtain⟨f4,a,a2,g2,e9,e2⟩:=e3;have f1:f.cell? (Zd q 0)=some (Zs k):=bU (w.cI I _ a2) rfl;have a5:=Yz (iv (st:=st) [[125],[59]] (show (jz k j++fS h)++[[125],[59]]=(jz k j++fS h)++[[125],[59]]from rfl)) a4;have K:=Yz (iv (st:=st) (fS h) (show jz k j++fS h=jz k j++fS h from rfl)) a5;have o:=Z (dR w [[117,110,105,111,110],k,[115,119,105,116,99,104],[40]] (Yz (iv (st:=st) (eI j++[[41],[123]]) (show jz k j=[[117,110,105,111,110],k,[115,119,105,116,99,104],[40]]++(eI j++[[41],[123]])from rfl)) K));obtain⟨d3,f6,b9⟩:=dG j.H;have s:=Z (λ(E:Zw) (a7:bA e d b (bc st [[117,110,105,111,110],k,[115,119,105,116,99,104],[40]]) E)=>tv a7 c5 j e8 (by rw[ct];exact Yz (iv [[41],[123]] (by rfl)) K));have v:=Z (λ(E:Zw) (a7:bA e d b (bc (bc st [[117,110,105,111,110],k,[115,119,105,116,99,104],[40]]) (eI j)) E)=>dR a7 [[41],[123]] (by rw[ct,ct];exact K));have c8:=Z (show bc (bc (bc st [[117,110,105,111,110],k,[115,119,105,116,99,104],[40]]) (eI j)) [[41],[123]]=bc st (jz k j) by rw[ct,ct];rfl);dsimp only[ek]at s;rw[b9]at s;have b5:=Z a4;have d0:=Z a5;have c1:=I;have P:=Z (λE (f5:eY) (w:bA e d b f5 E)=>w.cI c1);have d2:=Z I;clear a4 a5 K w I c1;go_in;go_wp2_with fail;refine(o.j _ _ _ (by simp) rfl rfl (by simp)).mono ?_;rintro l b2 ⟨rfl,a8,c3⟩;have J:=P.j _ _ a8 _ a2;have d6:b2.cell? (Zd q 2)=some (Zs j.t):=bU J rfl;have d7:b2.cell? (Zd q 3)=some (U j.m):=bU J rfl;have d8:b2.cell? (Zd q 4)=some (.iface d3 f6):=bU J (by rw[<-b9];rfl)
 have s:=Z (s.j _ a8);have b8:=Z c3;clear a8 c3 o J f1;go_wp2_with fail;refine s.j.mono ?_;rintro l h0 ⟨rfl,c2,c4⟩;have v:=Z (v.j _ c2);have R:=Z (b8.j.u c4);clear c2 c4 s d6 d7 d8 b8;go_wp2_with fail;refine(v.j _ _ _ (by simp) rfl rfl (by simp)).mono ?_;rintro l b3 ⟨rfl,A,a9⟩;rw[c8.j]at A;have S:=Z (R.j.u a9);have f8:b3.cell? (Zd q 5)=some f4:=bU (P.j _ _ A _ a2) rfl;rcases e9 with⟨rfl,e0,_⟩|⟨G,f9,g0,rfl,⟨g1,g6⟩,e4,M⟩
 .have e7:h=[]:=Yv.1 e0;subst e7;have o:=Z (dR A [[125],[59]] (by rw[ct];have:=b5.j;simpa[fS]using this));clear A a9 v R;go_wp2_with fail;go_loopw [28] (λC O=>C=U 0/\O=b3) (λ_ _=>0)
  case atStart=>simp
  case round=>
   obtain⟨rfl,rfl⟩:=hrel;go_wp2_with fail;refine(o.j _ _ _ (by simp) rfl rfl (by simp)).mono ?_;rintro l b4 ⟨rfl,m,p⟩;rw[ct]at m;have u:=Z (S.j.u p);have t:ac (bA e d b (bc st ((jz k j++fS [])++[[125],[59]])) b4):=by
    show bA _ _ _ _ _;simpa[fS]using m
   clear m p o;go_wp2;go_end0;exact⟨rfl,t.j,u.j⟩
 .have b6:ac (bA e d b (bc st (jz k j++fS (h.take 0))) b3):=by
   show bA _ _ _ _ _;rw[List.take_zero,fS,List.flatMap_nil,YH];omega
  clear A a9 v R;go_wp2_with fail;go_loopw [28] (λC O=>∃i:Nat,C=U i/\i<=h.length/\ac (bA e d b (bc st (jz k j++fS (h.take i))) O)/\ac (gU d b f O)) (λC _=>h.length-(RowKit.intOf C).toNat)
  case atStart=>exact⟨0,rfl,by omega,b6,S⟩
  case round=>
   obtain⟨i,rfl,g5,F,b7⟩:=hrel;clear b6 S;rcases Yj i h.length with a6|g3
   .have e6:i<a.length:=by omega
    have L:i<(h.zip a).length:=by grind
    have z:=P.j _ _ F.j _ e4;have y:=iS (c:=λD:(List Int×aO)×Zv=>D.2::ek D.1.2) (n:=4) (λ_=>rfl) (h.zip a) i;have B:(h.zip a)[i]=(h[i],a[i]):=List.getElem_zip;have f3:wr.cell? ⟨G,i*4,none⟩=some a[i]:=bJ z M (by have:=y 0 L (by omega);rw[B]at this;simpa using this);have c6:wr.cell? ⟨G,i*4+1,none⟩=some (.string ⟨h[i].2.t.toArray⟩):=bJ z M (by have:=y 1 L (by omega);rw[B]at this;simpa using this);have c7:wr.cell? ⟨G,i*4+2,none⟩=some (U h[i].2.m):=bJ z M (by have:=y 2 L (by omega);rw[B]at this;simpa using this);have b1:wr.cell? ⟨G,i*4+3,none⟩=some (bj h[i].2.H):=bJ z M (by have:=y 3 L (by omega);rw[B]at this;simpa using this);have g7:(0:Int)<=(i:Int):=by omega
    have g8:(i:Int)<(h.length:Int):=by omega
    have a0:=Z (Fx a6);have H:=e1 h[i] (Yy a6);have x:=e2 i a6 e6;have d1:ac ((bc st (jz k j++fS (h.take (i+1)))).1.length<=he):=by
     have l:fS h=fS (h.take (i+1))++fS (h.drop (i+1)):=by
      unfold fS;rw[<-YK,List.take_append_drop]
     exact Yz (iv (fS (h.drop (i+1))) (by rw[YN,<-l])) d0.j
    clear z y B;generalize h[i]=N at c6 c7 b1 a0 H x;generalize a[i]=d9 at f3 x;obtain⟨g9,b0⟩:=N;obtain⟨d4,f7,c0⟩:=dG b0.H;have f0:∃ad n a1,d9=.slice ad n a1:=by
     rcases x with⟨l,_⟩|⟨_,_,_,l,_⟩
     .exact⟨_,_,_,l⟩
     .exact⟨_,_,_,l⟩
    obtain⟨ad,f2,a1,rfl⟩:=f0;have a3:=(ak [] wr).B (.cells #[.slice ad f2 a1,Zs b0.t,U b0.m,.iface d4 f7] 363)
    have r:=DX (F.j.F a3) c5 d2.j x H.2 H.1 (by rw[ct,YN,<-a0.j];exact d1.j);dsimp only[ek]at r;rw[c0]at r;simp only at c6 c7 b1;rw[c0]at b1;have r:=Z r;have c9:=Z a3;clear a3 x H;go_wp2_with fail;refine r.j.mono ?_;rintro l b4 ⟨rfl,m,p⟩;rw[ct,YN,<-a0.j]at m;have u:=Z ((b7.j.u (fm c9.j)).u p);have t:=Z m;clear m p r;go_wp2;exact⟨⟨i+1,by rfl,by omega,t,u⟩,by simp[RowKit.intOf];omega⟩
   .have e5:i=h.length:=by omega
    subst e5;have g4:¬((h.length:Int)<(h.length:Int)):=by omega
    rw[YG]at F;have o:=Z (dR F.j [[125],[59]] (by rw[ct];exact b5.j));go_wp2_with fail;refine(o.j _ _ _ (by simp) rfl rfl (by simp)).mono ?_;rintro l b4 ⟨rfl,m,p⟩;rw[ct]at m;have u:=Z (b7.j.u p);have t:=Z m;clear m p o;go_wp2;go_end0;exact⟨rfl,t.j,u.j⟩
end
def va(a:dN):Zc:=[dm a.c2,a.t,[40],dm a.cF,[41],[61],itoa a.num,[59]]
def gx(a:List dN):Zc:=a.flatMap va
def Na{b:List dN}{a:Nat}(c:a<b.length):gx (b.take (a+1))=gx (b.take a)++va b[a]:=by
 grind [gx,List.take_succ_eq_append_getElem]
def mC(v:eg):Zc:=([[118,101,114,115,105,111,110],v.t,[123]]++gx v.ag)++[[125],[61],itoa v.num,[59]]
def yG(v:eg):Prop:=iI v.num/\∀a∈v.ag,iI a.num
abbrev Cd(a:dN):Zl:=jY a.t a.m++[bj a.c2,bj a.cF,U a.num]
def Fa{k:Zw}{g L:Nat}{st:eY}{y:Zw}(s:bA k g L st y)(f9:gn k){e4:Zo}(f0:∀g0∈e4,k.heap[g0.1]? = some g0.2){v:eg}{a2:Zv}(f8:gG e4 446 a2 v.ag.length (v.ag.flatMap Cd))(a9:yG v)
  (d0:(bc st (mC v)).1.length<=he) :
  Calls prog 354 #[.agg #[Zs v.t,U v.m,a2,U v.num],lE g L] y (jF k g L (bc st (mC v)) y):=by
 obtain⟨e,B,a,i⟩:=v;simp only at f8 ⊢;have g6:=Z (λj (i1:eY) (s:bA k g L i1 j)=>s.cI f0);have r:=(ak [] y).B (.cells #[Zs e,U B,a2,U i] 367);have f4:=aS (w:=y) (o:=.cells #[Zs e,U B,a2,U i] 367) rfl;have h:=s.lt;have f5:=s.F r;have c5:=Z (λj (h9:gU g L (y.alloc (.cells #[Zs e,U B,a2,U i] 367)) j)=>tb h9 f4 h.1 h.2 (by decide));have d1:=Yz (iv (st:=st) [[125],[61],itoa i,[59]] (show mC ⟨e,B,a,i⟩=([[118,101,114,115,105,111,110],e,[123]]++gx a)++[[125],[61],itoa i,[59]]from rfl)) d0;have a7:=Z (dR f5 [[118,101,114,115,105,111,110],e,[123]] (Yz (iv (gx a) rfl) d1));have q:=Z (λ(j:Zw) (d2:bA k g L (bc st ([[118,101,114,115,105,111,110],e,[123]]++gx a)) j)=>od i a9.1.1 a9.1.2 (d2.hm f9));have p:=Z (λ(j:Zw) (d2:bA k g L (bc st ([[118,101,114,115,105,111,110],e,[123]]++gx a)) j)=>dR d2 [[125],[61],itoa i,[59]] (by rw[ct];exact d0));have d9:=Z (show bc (bc st ([[118,101,114,115,105,111,110],e,[123]]++gx a)) [[125],[61],itoa i,[59]]=bc st (mC ⟨e,B,a,i⟩) by rw[ct];rfl);have g8:=Z d1;have e0:=Z r;have e9:=a9.2;simp only at e9;have i4:=Z h;clear s r f0 d0 d1 h f4 f5 a9;rcases f8 with⟨rfl,h4,_⟩|⟨C,h3,i5,rfl,⟨i6,i9⟩,h6,a1⟩
 .have h8:a=[]:=Yv.1 h4;subst h8;go_in;go_wp2_with fail;refine(a7.j _ _ _ (by simp) rfl rfl (by simp)).mono ?_;rintro l b7 ⟨rfl,b1,w⟩;have D:=c5.j _ w;have e5:=bU (i:=2) D rfl;have h2:=bU (i:=3) D rfl;have d3:bA k g L (bc st ([[118,101,114,115,105,111,110],e,[123]]++gx [])) b7:=by simpa[gx]using b1
  have q:=Z (q.j _ d3);have a6:=Z d3;have A:=Z ((fm e0.j).u w);clear b1 d3 w a7 D;go_wp2_with fail;go_loopw [15] (λd b5=>d=U 0/\b5=b7) (λ_ _=>0)
  case atStart=>simp
  case round=>
   obtain⟨rfl,rfl⟩:=hrel;go_wp2_with fail;refine q.j.mono ?_;rintro l i2 ⟨rfl,t⟩;have p:=Z (p.j _ (a6.j.F t));have c3:=Z (A.j.u (fm t));clear t q;go_wp2_with fail;refine(p.j _ _ _ (by simp) rfl rfl (by simp)).mono ?_;rintro l g1 ⟨rfl,u,a0⟩;rw[d9.j]at u;have c4:=Z (c3.j.u a0);have c1:=Z u;clear u a0 p;go_wp2;go_end0;exact⟨rfl,c1.j,c4.j⟩
 .go_in;go_wp2_with fail;refine(a7.j _ _ _ (by simp) rfl rfl (by simp)).mono ?_;rintro l b7 ⟨rfl,b1,w⟩;have D:=c5.j _ w;have e5:=bU (i:=2) D rfl;have a6:ac (bA k g L (bc st ([[118,101,114,115,105,111,110],e,[123]]++gx (a.take 0))) b7):=by
   show bA _ _ _ _ _;rw[List.take_zero,gx,List.flatMap_nil,YH];omega
  have A:=Z w;clear b1 w a7 D;go_wp2_with fail;go_loopw [15] (λd b5=>∃b:Nat,d=U b/\b<=a.length/\ac (bA k g L (bc st ([[118,101,114,115,105,111,110],e,[123]]++gx (a.take b))) b5)/\ac (gU g L (y.alloc (.cells #[Zs e,U B,.slice (some ⟨C,0,none⟩) a.length h3,U i] 367)) b5)) (λd _=>a.length-(RowKit.intOf d).toNat)
  case atStart=>exact⟨0,rfl,by omega,a6,A⟩
  case round=>
   obtain⟨b,rfl,r,z,c2⟩:=hrel;clear a6 A e5;rcases Yj b a.length with h|i7
   .have F:=g6.j _ _ z.j _ h6;have E:=iS (c:=Cd) (n:=5) (λ_=>rfl) a b;have d6:wr.cell? ⟨C,b*5,none⟩=some (.string ⟨a[b].t.toArray⟩):=bJ F a1 (by have:=E 0 h (by omega);simpa using this);have d7:wr.cell? ⟨C,b*5+1,none⟩=some (U a[b].m):=bJ F a1 (by have:=E 1 h (by omega);simpa using this);have b3:wr.cell? ⟨C,b*5+2,none⟩=some (bj a[b].c2):=bJ F a1 (by have:=E 2 h (by omega);simpa using this);have b4:wr.cell? ⟨C,b*5+3,none⟩=some (bj a[b].cF):=bJ F a1 (by have:=E 3 h (by omega);simpa using this);have d8:wr.cell? ⟨C,b*5+4,none⟩=some (U a[b].num):=bJ F a1 (by have:=E 4 h (by omega);simpa using this);have j0:(0:Int)<=(b:Int):=by omega
    have j1:(b:Int)<(a.length:Int):=by omega
    have c6:=Z (Na h);have N:=e9 a[b] (Yy h);have g9:ac ((bc st ([[118,101,114,115,105,111,110],e,[123]]++gx (a.take (b+1)))).1.length<=he):=by
     have l:gx a=gx (a.take (b+1))++gx (a.drop (b+1)):=by
      unfold gx;rw[<-YK,List.take_append_drop]
     exact Yz (iv (gx (a.drop (b+1))) (by grind)) g8.j
    clear F E;generalize a[b]=i0 at d6 d7 b3 b4 d8 c6 N;obtain⟨G,b2,d5,d4,x⟩:=i0;simp only at d6 d7 b3 b4 d8 N;obtain⟨I,a3,e6⟩:=dG d5;obtain⟨J,a4,e7⟩:=dG d4;have M:=λH=>pS d5 H;have K:=λH=>pS d4 H;simp only[e6]at M;simp only[e7]at K;rw[e6]at b3;rw[e7]at b4;have M:=Z M;have K:=Z K;have c7:=(ak [] wr).B (.cells #[Zs G,U b2,.iface I a3,.iface J a4,U x] 446)
    have a8:=aS (w:=wr) (o:=.cells #[Zs G,U b2,.iface I a3,.iface J a4,U x] 446) rfl
    have e2:=Z (λj (r:am [] (wr.alloc (.cells #[Zs G,U b2,.iface I a3,.iface J a4,U x] 446)) j)=>od x N.1 N.2 ((z.j.F (c7.u r)).hm f9))
    have a5:=Z (λ(j:Zw) (r:am [] (wr.alloc (.cells #[Zs G,U b2,.iface I a3,.iface J a4,U x] 446)) j)=>(r.G wr.heap.size (ap a8) (by simp)).trans a8)
    have b8:=Z c7;have g7:=Z a8;clear c7 a8 N;go_wp2_with fail;refine cx (λb6=>b6.cell? (Zd wr.heap.size 0)=some (Zs G)/\b6.cell? (Zd wr.heap.size 2)=some (.iface I a3)/\b6.cell? (Zd wr.heap.size 3)=some (.iface J a4)/\b6.cell? (Zd wr.heap.size 4)=some (U x)) (L:=14) (by kernel_rfl) rfl (by kernel_rfl) (by kernel_rfl) ?_ (λb0=>?_)
    .simp
    refine bH [0,1,2,4,5,6,7,8,10,11] ?_;iterate 10 (refine bK (v:=?_) rfl (by kernel_rfl) (λ_ _ _ s=>s) (by rfl) (by assumption) ?_ ?_;rotate_left;focus (intro H h5;(try dsimp only at h5);go_simp;(try with_reducible rfl));(try simp only[aJ,aK,List.set]))
    refine bI ?_;refine bF 3 (by kernel_rfl) rfl λm f=>?_;(go_simp;go_at_call 341;refine(M.j _).mono ?_;rintro l g1 ⟨rfl,f2⟩;have c8:=(ak [] _).aq.u (bh [] f2);have O:=a5.j _ c8;have g2:=bU (i:=0) O rfl;have g3:=bU (i:=2) O rfl;have g4:=bU (i:=3) O rfl;have g5:=bU (i:=4) O rfl;have e1:=Z c8;clear f2 c8 O);refine f.out _ _ ?_ (λb0=>?_)
    .go_keep
    clear f m;(try simp only[aJ,aK,List.set]);refine bF 9 (by kernel_rfl) rfl λm f=>?_;(go_simp;go_at_call 341;refine(K.j _).mono ?_;rintro l j2 ⟨rfl,f3⟩;have c9:=e1.j.u (bh [] f3);have P:=a5.j _ c9;have g2:=bU (i:=0) P rfl;have g3:=bU (i:=2) P rfl;have g4:=bU (i:=3) P rfl;have g5:=bU (i:=4) P rfl;have b9:=Z c9;clear f3 c9 P);refine f.out _ _ ?_ (λb0=>?_)
    .go_keep
    clear f m;(try simp only[aJ,aK,List.set]);refine bF 12 (by kernel_rfl) rfl λm f=>?_;(go_simp;go_at_call 334;refine(e2.j _ b9.j).mono ?_;rintro l j3 ⟨rfl,S⟩;have S:=b9.j.u S;have R:=a5.j _ S;have g2:=bU (i:=0) R rfl;have g3:=bU (i:=2) R rfl;have g4:=bU (i:=3) R rfl;have g5:=bU (i:=4) R rfl;have c0:=Z S;clear S R);refine f.out _ _ ?_ (λb0=>?_)
    .go_keep
    clear f m;(try simp only[aJ,aK,List.set]);refine bF 13 (by kernel_rfl) rfl λm f=>?_;go_simp;refine f.out _ _ ?_ (λb0=>?_)
    .go_keep
    clear f m;(try simp only[aJ,aK,List.set]);refine wpAnyH_done (by kernel_rfl) ?_ _;have e3:=Z (dR (z.j.F (b8.j.u c0.j)) [dm d5,G,[40],dm d4,[41],[61],itoa x,[59]] (by rw[ct,YN];have:=g9.j;rw[c6.j]at this;exact this));refine nh rfl (λm f=>?_);(go_simp;refine(e3.j _ _ _ (by simp) rfl rfl (by simp)).mono ?_;rintro l i3 ⟨rfl,f6,f7⟩;have h1:=Z ((c2.j.u (fm (b8.j.u c0.j))).u f7);have h0:ac (bA k g L (bc st ([[118,101,114,115,105,111,110],e,[123]]++gx (a.take (b+1)))) i3):=(by have e8:=f6;rw[ct,YN]at e8;show bA _ _ _ _ _;rw[c6.j];exact e8);clear f6 f7);refine f.out _ _ ?_;clear f m;(try simp only[aJ,aK,List.set]);clear e3 M K e2 a5 b8 g7 e1 b9 c0 d6 d7 b3 b4 d8;go_wp2;exact⟨⟨b+1,by rfl,by omega,h0,h1⟩,by simp[RowKit.intOf];omega⟩
   .have h7:b=a.length:=by omega
    subst h7;have i8:¬((a.length:Int)<(a.length:Int)):=by omega
    rw[YG]at z;have f1:=c5.j _ c2.j;have h2:=bU (i:=3) f1 rfl;have q:=Z (q.j _ z.j);have A:=Z ((fm e0.j).u c2.j);clear f1;go_wp2_with fail;refine q.j.mono ?_;rintro l i2 ⟨rfl,t⟩;have p:=Z (p.j _ (z.j.F t));have c3:=Z (A.j.u (fm t));clear t q;go_wp2_with fail;refine(p.j _ _ _ (by simp) rfl rfl (by simp)).mono ?_;rintro l g1 ⟨rfl,u,a0⟩;rw[d9.j]at u;have c4:=Z (c3.j.u a0);have c1:=Z u;clear u a0 p;go_wp2;go_end0;exact⟨rfl,c1.j,c4.j⟩
section
variable {f d e:Nat}{h:Zo}{st:eY}{g b:Zw}{a:List eg}
def gB(a:List eg):Zc:=a.flatMap mC
def RY{b:Nat}(c:b<a.length):gB (a.take (b+1))=gB (a.take b)++mC a[b]:=by
 grind [gB,List.take_succ_eq_append_getElem]
def EH(v:bA b e d st g)(b5:gn b)(I:∀s∈h,b.heap[s.1]? = some s.2){c3:Nat}{j:Zb}{k:Int}(c9:dg h f (.prog j c3 a k))(b3:iI k)(c7:∀D∈a,yG D)
  (b2:(bc st (([[112,114,111,103,114,97,109],j,[123]]++gB a)++[[125],[61],itoa k,[59]])).1.length<=he) :
  Calls prog 353 #[Zp f,lE e d] g (jF b e d (bc st (([[112,114,111,103,114,97,109],j,[123]]++gB a)++[[125],[61],itoa k,[59]])) g):=by
 obtain⟨e1,o,J,e8,d4,c8⟩:=c9;have b6:g.cell? (Zd f 0)=some (Zs j):=bU (v.cI I _ J) rfl;have a4:=Yz (iv (st:=st) [[125],[61],itoa k,[59]] (show ([[112,114,111,103,114,97,109],j,[123]]++gB a)++[[125],[61],itoa k,[59]]=([[112,114,111,103,114,97,109],j,[123]]++gB a)++[[125],[61],itoa k,[59]]from rfl)) b2;have a0:=Z (dR v [[112,114,111,103,114,97,109],j,[123]] (Yz (iv (gB a) rfl) a4));have m:=Z (λ(E:Zw) (a6:bA b e d (bc st ([[112,114,111,103,114,97,109],j,[123]]++gB a)) E)=>od k b3.1 b3.2 (a6.hm b5));have l:=Z (λ(E:Zw) (a6:bA b e d (bc st ([[112,114,111,103,114,97,109],j,[123]]++gB a)) E)=>dR a6 [[125],[61],itoa k,[59]] (by rw[ct];omega));have c0:=Z a4;have b1:=I;have G:=Z (λE (e2:eY) (v:bA b e d e2 E)=>v.cI b1);have c2:=Z I;clear b2 a4 v I b1;go_in;go_wp2_with fail;refine(a0.j _ _ _ (by simp) rfl rfl (by simp)).mono ?_;rintro n F ⟨rfl,z,a7⟩;have P:=Z a7;have e4:F.cell? (Zd f 2)=some e1:=bU (G.j _ _ z _ J) rfl;rcases d4 with⟨rfl,c6,_⟩|⟨H,e5,e6,rfl,⟨e7,f2⟩,d0,L⟩
 .have d3:a=[]:=Yv.1 c6;subst d3;have q:bA b e d (bc st ([[112,114,111,103,114,97,109],j,[123]]++gB [])) F:=by simpa[gB]using z
  have c4:F.cell? (Zd f 3)=some (U k):=bU (G.j _ _ z _ J) rfl;have m:=Z (m.j _ q);have N:=Z q;clear z a7 a0 b6 q;go_wp2_with fail;go_loopw [19] (λC M=>C=U 0/\M=F) (λ_ _=>0)
  case atStart=>simp
  case round=>
   obtain⟨rfl,rfl⟩:=hrel;go_wp2_with fail;refine m.j.mono ?_;rintro n b8 ⟨rfl,p⟩;have l:=Z (l.j _ (N.j.F p));have u:=Z (P.j.u (fm p));clear p m;go_wp2_with fail;refine(l.j _ _ _ (by simp) rfl rfl (by simp)).mono ?_;rintro n e3 ⟨rfl,r,A⟩;rw[ct]at r;have R:=Z (u.j.u A);have O:=Z r;clear r A l;go_wp2;go_end0;exact⟨rfl,O.j,R.j⟩
 .have a8:ac (bA b e d (bc st ([[112,114,111,103,114,97,109],j,[123]]++gB (a.take 0))) F):=by
   show bA _ _ _ _ _;rw[List.take_zero,gB,List.flatMap_nil,YH];omega
  clear z a7 a0 b6;go_wp2_with fail;go_loopw [19] (λC M=>∃i:Nat,C=U i/\i<=a.length/\ac (bA b e d (bc st ([[112,114,111,103,114,97,109],j,[123]]++gB (a.take i))) M)/\ac (gU e d g M)) (λC _=>a.length-(RowKit.intOf C).toNat)
  case atStart=>exact⟨0,rfl,by omega,a8,P⟩
  case round=>
   obtain⟨i,rfl,f1,t,a9⟩:=hrel;clear a8 P;rcases Yj i a.length with a5|e9
   .have d2:i<o.length:=by omega
    have K:i<(a.zip o).length:=by grind
    have y:=G.j _ _ t.j _ d0;have x:=iS (c:=λs:eg×Zv=>jY s.1.t s.1.m++[s.2,U s.1.num]) (n:=4) (λ_=>rfl) (a.zip o) i;have B:(a.zip o)[i]=(a[i],o[i]):=List.getElem_zip;have d7:wr.cell? ⟨H,i*4,none⟩=some (.string ⟨a[i].t.toArray⟩):=bJ y L (by have:=x 0 K (by omega);rw[B]at this;simpa using this);have d8:wr.cell? ⟨H,i*4+1,none⟩=some (U a[i].m):=bJ y L (by have:=x 1 K (by omega);rw[B]at this;simpa using this);have d9:wr.cell? ⟨H,i*4+2,none⟩=some o[i]:=bJ y L (by have:=x 2 K (by omega);rw[B]at this;simpa using this);have e0:wr.cell? ⟨H,i*4+3,none⟩=some (U a[i].num):=bJ y L (by have:=x 3 K (by omega);rw[B]at this;simpa using this);have f3:(0:Int)<=(i:Int):=by omega
    have f4:(i:Int)<(a.length:Int):=by omega
    have S:=Z (RY a5);have a2:=c7 a[i] (Yy a5);have w:=c8 i a5 d2;have c1:ac ((bc st ([[112,114,111,103,114,97,109],j,[123]]++gB (a.take (i+1)))).1.length<=he):=by
     have n:gB a=gB (a.take (i+1))++gB (a.drop (i+1)):=by
      unfold gB;rw[<-YK,List.take_append_drop]
     exact Yz (iv (gB (a.drop (i+1))) (by grind)) c0.j
    clear y x B;generalize a[i]=D at d7 d8 e0 S a2 w;generalize o[i]=c5 at d9 w;have d5:∃ad b7 a1,c5=.slice ad b7 a1:=by
     rcases w with⟨n,_⟩|⟨_,_,_,n,_⟩
     .grind
     grind
    obtain⟨ad,d6,a1,rfl⟩:=d5;have a3:=(ak [] wr).B (.cells #[Zs D.t,U D.m,.slice ad d6 a1,U D.num] 367);have b0:=Z (Fa (t.j.F a3) b5 c2.j w a2 (by rw[ct,YN,<-S.j];exact c1.j));have b9:=Z a3;clear a3 w a2;go_wp2_with fail;refine b0.j.mono ?_;rintro n b8 ⟨rfl,q,b4⟩;rw[ct,YN,<-S.j]at q;have u:=Z ((a9.j.u (fm b9.j)).u b4);have N:=Z q;clear q b4 b0;go_wp2;exact⟨⟨i+1,by rfl,by omega,N,u⟩,by simp[RowKit.intOf];omega⟩
   .have d1:i=a.length:=by omega
    subst d1;have f0:¬((a.length:Int)<(a.length:Int)):=by omega
    rw[YG]at t;have c4:wr.cell? (Zd f 3)=some (U k):=bU (G.j _ _ t.j _ J) rfl;have m:=Z (m.j _ t.j);go_wp2_with fail;refine m.j.mono ?_;rintro n b8 ⟨rfl,p⟩;have l:=Z (l.j _ (t.j.F p));have u:=Z (a9.j.u (fm p));clear p m;go_wp2_with fail;refine(l.j _ _ _ (by simp) rfl rfl (by simp)).mono ?_;rintro n e3 ⟨rfl,r,A⟩;rw[ct]at r;have R:=Z (u.j.u A);have O:=Z r;clear r A l;go_wp2;go_end0;exact⟨rfl,O.j,R.j⟩
def oc:aB->Zc
 |.const b _ v=>wI b v
 |.typedef e=>[[116,121,112,101,100,101,102]]++(eI e++[[59]])
 |.enum b _ c=>([[101,110,117,109],b,[123]]++gM c)++[[125],[59]]
 |.struct b _ c=>([[115,116,114,117,99,116],b,[123]]++fU c)++[[125],[59]]
 |.union b _ g d=>(jz b g++fS d)++[[125],[59]]
 |.prog b _ a f=>([[112,114,111,103,114,97,109],b,[123]]++gB a)++[[125],[61],itoa f,[59]]
def ua:aB->Prop
 |.const _ _ v=>iI v
 |.typedef e=>lI e.H
 |.enum _ _ c=>∀b∈c,iI b.2.2
 |.struct _ _ c=>∀b∈c,lI b.H
 |.union _ _ h d=>lI h.H/\∀b∈d,lI b.2.H/\∀f∈b.1,iI f
 |.prog _ _ a g=>iI g/\∀b∈a,yG b
def vO:aB->Nat
 |.const ..=>333
 |.typedef ..=>338
 |.enum ..=>343
 |.struct ..=>346
 |.union ..=>349
 |.prog ..=>353
def GX(j:bA b e d st g)(n:gn b)(k:∀q∈h,b.heap[q.1]? = some q.2)(i:aB)(l:dg h f i)(c:ua i)(m:(bc st (oc i)).1.length<=he) :
  Calls prog (vO i) #[Zp f,lE e d] g (jF b e d (bc st (oc i)) g):=by
 cases i with
 |const p o v=>exact Eb j n k l c m
 |typedef i=>exact EW j n k l c m
 |enum p o r=>exact Eg j n k l c m
 |struct p o r=>exact EQ j n k l c m
 |union p o u s=>exact EZ j n k l c.1 c.2 m
 |prog p o a t=>exact EH j n k l c.1 c.2 m
end
end Go.Proofs.YtjdhaegijjednaaGreatDoor
namespace Go.Proofs.YtjdhaegijjednaaGreatDoor
open Go.RowKit
open Go.MapKept
open Go.Proofs.Tryz
structure wi where
 n4:Int
 n3:Int
 n5:Option (List Int)
 c3:Bool
inductive EP where
 |hole
 |call (dest:Nat)
 |ret
 |fin
 |jump (dest:Nat)
 |num (n:wi)
 |text (n:Int) (f:Bool)
 |struct (n:Int) (f:Bool)
 |array (n:Int) (f:Bool) (dest:Nat)
 |again
 |choice (n:wi) (ways:List (Int×Nat×Nat)) (other:Option (Nat×Nat))
structure SZ where
 g9:List EP
 nW:List (Zb×Nat)
 n1:List (Zb×wi)
 n0:List (Nat×Zb)
def fH(a:Int):Int:=a % 4294967296
section
variable {a : Program} {w : Zw}
def OU{i q s:TypeId}{g:TypeDesc}(z:a.underlying i=some (.map q s))(o:a.underlying q=some g){b:Zv}(p:IsKey g b)(y:Instr.keyThatStays b b=pure b){f:Nat}{d:Array MapEntry}{j:Nat}
  (n:w.heap[f]? = some (.map d j)) (u:∀h∈d.toList,IsKey g h.key) (A:∃h∈d.toList,h.key=b) (v:Zv) :
  ∃(e:Nat) (c:MapEntry),d.toList[e]? = some c/\c.key=b/\
   (Instr.mapUpdate i (.map (some f)) b v).run a w=.ok () (dC w f (.map (d.modify e λc=>{ c with key:=b,val:=v }) j)):=by
 have t:=λr=>MapKept.run_checkKey (w:=w) o p r 9999;rcases findNow_spec p d.toList 0 u with⟨k,l⟩|⟨e,c,k,l,m⟩
 .grind
 .refine⟨e,c,l,m,?_⟩;have x:d[e]? = some c:=by simp_all
  simp[Instr.mapUpdate,Instr.findKey,run_underlying z,run_underlying o,MapKept.run_getObj_map n,t,k,x,m,y,MapKept.run_setObj_map _ n,Result.andThen]
def yn(a:Za):Instr.keyThatStays (.string a) (.string a)=pure (.string a):=by
 unfold Instr.keyThatStays;rw[Y9 (by show (a==a)=true;simp_all[bytes_beq])]
def PJ(a:Int):Instr.keyThatStays (U a) (U a)=pure (U a):=by
 unfold Instr.keyThatStays;rw[Y9 (by show ((IntKind.i64==IntKind.i64)&&(a==a))=true;simp)]
end
section
variable {a b:Type}
def kB(Q:a->Prop)(c:PM a):Prop:=∀d b e,c d=.ok (b,e)->Q b
def SV{Q:a->Prop}{b:a}(d:Q b):kB Q (ret b):=by
 intro f c g e;grind [ret]
def SW{Q:a->Prop}(c b:Nat):kB Q (fi c b):=by
 intro f d g e;grind [fi]
def ST{Q:b->Prop}{g:a->Prop}{f:PM a}{h:a->PM b}(j:kB g f)(i:∀c,g c->kB Q (h c)):kB Q (aF f h):=by
 intro l m o d;cases e:f l with
 |error n=>rw[bl e]at d;cases d
 |ok k=>obtain⟨c,p⟩:=k;rw[aE e]at d;exact i c (j _ _ _ e) _ _ _ d
def SS(b:PM a):kB (λ_=>True) b:=λ_ _ _ _=>trivial
theorem yT{Q:b->Prop}{e:PM a}{d:a->PM b}(f:∀c,kB Q (d c)):kB Q (aF e d):=ST (SS e) λc _=>f c
def SU{Q:a->Prop}{d:Bool}{b c:PM a}(e:kB Q b)(f:kB Q c):kB Q (if d then b else c):=by grind
end
def FU{a:Nat}{c d:Zv}{e:TypeId}{b:Zw}(g:b.heap[a]? = some (.cells #[c,d] e)) :
  b.cell? (Zd a 0)=some c/\b.cell? (Zd a 1)=some d/\(∀f,b.frozen? ⟨a,f,none⟩=false)/\a<b.heap.size:=by
 grind [World.cell?,World.frozen?]
def QZ(c:Za):∀(a:Nat) {ds:List aB},kB (λb=>b.length<=ds.length+a) (eD c a ds):=by
 intro a;induction a with
 |zero=>intro ds;exact SW _ _
 |succ a e=>
  intro ds;unfold eD;refine yT λf=>SU (SV (by omega)) (yT λd=>yT λ_=>?_);grind
theorem Rf{b:Za}{ds:List aB}(a:eE b=.ok ds):ds.length<=69:=by
 unfold eE at a;split at a
 .cases a
 .cases c:eD b 69 [] eK with
  |error f=>simp_all
  |ok d=>
   obtain⟨e,h⟩:=d;rw[c]at a;simp only at a;have g:=QZ b 69 (ds:=[]) _ _ _ c;grind
abbrev BZ(a:dN):Zl:=jY a.t a.m++[bj a.c2,bj a.cF,U a.num]
def yo(a:Int):Instr.keyThatStays (.int .u32 a) (.int .u32 a)=pure (.int .u32 a):=by
 unfold Instr.keyThatStays;rw[Y9 (by show ((IntKind.u32==IntKind.u32)&&(a==a))=true;simp)]
def wJ(a:Int)(b:Zw):(convert 2 218 (U a)).run prog b=.ok (.int .u32 (fH a)) b:=by kernel_rfl
def BW{a:Nat}{g h c d e:Zv}{f:TypeId}{b:Zw}(i:b.heap[a]? = some (.cells #[g,h,c,d,e] f)) :
  b.cell? (Zd a 2)=some c/\b.cell? (Zd a 3)=some d/\b.cell? (Zd a 4)=some e:=by
 simp_all[World.cell?]
end Go.Proofs.YtjdhaegijjednaaGreatDoor
namespace Go.Proofs.YtjdhaegijjednaaGreatDoor
open Go.Proofs.Tryz
section
variable {a:Nat}{f t:Zb}{c:Mar.aT}{b:St}
section
variable {e g τ h i : Type} {d : Za}
abbrev eX(a:Int):Prop:=-9223372036854775808<=a/\a<=9223372036854775807
def re:Zc:=[[],[40],[91],[60],[42],[59],[44],[58],[41],[93],[62],[115,119,105,116,99,104]]
abbrev ef(t:Zb):Prop:=t ∉ re
def Wg(c:Mar.aT):Prop:=(c.C=1->ef c.text)/\(c.C=3->eX c.n)
def LO{c:Int}(a:Mar.fd f=some c):eX c:=by
 unfold Mar.fd at a;split at a
 .unfold Mar.f3 at a;split at a
  .cases a
  .split at a
   .cases a
   .cases b:Mar.cf 0 (f.drop 2)with
    |none=>simp_all
    |some v=>
     rw[b]at a;cases a
     have:=Az b (by omega);grind
 .unfold Mar.e1 at a;split at a
  .cases a
  .split at a
   .split at a
    .rename_i d;cases a;exact⟨by omega,by omega⟩
    .cases a
   .cases a
def Lx{a:UInt8}(c:Mar.eh a=true)(d:Mar.d2 (Mar.a4 (a::t))=false):ef (Mar.a4 (a::t)):=by
 intro b;have:=List.all_eq_true.1 (show (re.all λf=>f.head?.all (λa=>!Mar.eh a)||Mar.d2 f)=true by rfl) _ b;grind [Mar.a4]
theorem Ic(b:Mar.c5 f a=.ok c):Wg c:=by
 unfold Mar.c5 at b;split at b
 .cases b;exact⟨λb=>(by cases b),λb=>by cases b⟩
 .split at b
  .rename_i d;unfold Mar.et at b;split at b
   .cases b
   .split at b
    .cases b;exact⟨λb=>(by cases b),λb=>by cases b⟩
    .rename_i g;cases b
     exact⟨λ_=>Lx d (by simp_all),λb=>by cases b⟩
  .split at b
   .unfold Mar.f1 at b;split at b
    .rename_i h e;cases b
     exact⟨λb=>(by cases b),λ_=>LO e⟩
    grind
   .split at b
    .cases b;exact⟨λb=>(by cases b),λb=>by cases b⟩
    grind
structure Iv(b:St):Prop where
 nx:∀c,b.nx=some c->Wg c
 cs:∀k t a v,aL b.A k=some (some (.const t a v))->eX v
def eA(f:PM e)(d:e->Prop):Prop:=∀b a c,f b=.ok (a,c)->Iv b->Iv c/\d a
def fc(f:PX τ e)(d:e->Prop):Prop:=∀t b a g c,f t b=.ok (a,g,c)->Iv b->Iv c/\d a
abbrev Tr(_:e):Prop:=True
theorem fk{c:e->Prop}{a:e}(h:c a):eA (ret a) c:=λb f g d i=>by
 have d:Except.ok (a,b)=Except.ok (f,g):=d;simp_all
theorem iD{c:e->Prop}{a:e}(i:c a):fc (τ:=τ) (cX a) c:=λt b f g h d j=>by
 have d:Except.ok (a,t,b)=Except.ok (f,g,h):=d;simp_all
theorem mG{d:e->Prop}(g a:Nat):eA (fi g a) d:=λb f h c=>by
 have c:Except.error _=Except.ok (f,h):=c;cases c
theorem cw{d:g->Prop}{Q:e->Prop}{h:PM e}{f:e->PM g}(k:eA h Q)(j:∀a,Q a->eA (f a) d):eA (aF h f) d:=by
 intro b o p c l;unfold aF at c;split at c
 .rename_i a q i;obtain⟨m,n⟩:=k _ _ _ i l;exact j a n _ _ _ c m
 grind
def cN{d:g->Prop}{Q:e->Prop}{h:PX τ e}{f:e->PX τ g}(k:fc h Q)(j:∀a,Q a->fc (f a) d):fc (aG h f) d:=by
 intro t b o p r c l;unfold aG at c;split at c
 .rename_i a q s i;obtain⟨m,n⟩:=k _ _ _ _ _ i l;exact j a n _ _ _ _ _ c m
 grind
def dD{P:e->Prop}{d:PM e}(f:eA d P):fc (τ:=τ) (lift d) P:=by
 intro t b i j k c h;unfold lift at c;split at c
 .rename_i a l g;cases c;exact f _ _ _ g h
 grind
def DM{d:e->Prop}{f:PX Unit e}(g:fc f d):eA (hA f) d:=by
 intro b a j c i;unfold hA at c;split at c
 .rename_i h;cases c;exact g _ _ _ _ _ h i
 grind
def vV{d:e->Prop}{f:PX τ e}(g:fc f d):fc (τ:=τ×h) (ha f) d:=by
 intro t b a k l c j;unfold ha at c;split at c
 .rename_i i;cases c;exact g _ _ _ _ _ i j
 grind
def yS{d:e->Prop}{f:PX h e}(g:fc f d):fc (τ:=τ×h) (jt f) d:=by
 intro t b a k l c j;unfold jt at c;split at c
 .rename_i i;cases c;exact g _ _ _ _ _ i j
 grind
def DP{d:e->Prop}{f:PX τ e}(g:fc f d)(t:τ):eA (fu f t) λj=>d j.1:=by
 intro b a k c i;unfold fu at c;split at c
 .rename_i h;cases c;exact g _ _ _ _ _ h i
 grind
def DU(c:τ->Except Mar.aw τ):fc (kh c) Tr:=by
 intro t b a f g d e;unfold kh at d;grind
def xR{g:Nat}(a:dK d.data.toList b.m b.nx=.ok (c,g))(f:Iv b):Wg c:=by
 cases e:b.nx with
 |none=>
  rw[e]at a;have a:kg _ _=_:=a;grind [kg,Ic]
 |some h=>rw[e]at a;cases a;exact f.nx _ e
def qa:eA (next d) Wg:=by
 intro b a j c e;unfold next at c
 split at c
 .rename_i i h g;cases c;exact⟨⟨λ_ f=>(by cases f),e.cs⟩,xR g e⟩
 grind
def vP:eA (ft d) Wg:=by
 intro b a j c e;unfold ft at c;split at c
 .rename_i i h f;cases c;exact⟨⟨λ_ g=>(by cases g;exact xR f e),e.cs⟩,xR f e⟩
 grind
def tq(t:Zb):eA (fQ d t) Tr:=by
 intro b a g c f;unfold fQ at c;split at c
 .rename_i e;cases c;exact⟨(vP _ _ _ e f).1,trivial⟩
 grind
def kl(t:Zb):eA (cZ d t) Tr:=by
 unfold cZ;refine cw (tq t) λa _=>?_;split
 .exact cw qa λ_ _=>fk trivial
 .exact fk trivial
theorem eP(t:Zb):eA (bY d t) Tr:=by
 unfold bY;refine cw qa λa _=>?_;split
 .exact fk trivial
 .exact mG _ _
def vR(a:Nat):eA (hK a) Tr:=by
 intro b e f c d;unfold hK at c;split at c
 .cases c
 .cases c;exact⟨⟨d.nx,d.cs⟩,trivial⟩
def DO(a:Nat):eA (hJ a) Tr:=by
 intro b e f c d;unfold hJ at c;split at c
 .cases c
 .cases c;exact⟨⟨d.nx,d.cs⟩,trivial⟩
def vQ(e d a:Nat):eA (dS e d a) Tr:=by
 intro b f h c g;unfold dS at c;grind
theorem vS(h:Int->Bool):eA (hd d h) λi=>eX i.1:=by
 unfold hd;refine cw qa λc g=>cw (Q:=eX) ?_ λm l=>?_
 .unfold hD;split
  .rename_i k;exact fk (g.2 (by grind))
  split
  .intro b j n a e;unfold iP at a;split at a
   .rename_i f;cases a;exact⟨e,e.cs _ _ _ _ f⟩
   grind
  grind [fk,mG]
 grind [fk,mG]
def vU(a:Int->Bool):fc (fM d a) eX:=cN (dD (vS a)) λc b=>cN (DU _) λ_ _=>iD b
def yQ:eA (lz d) λa=>eX a.1/\a.2=false:=by
 unfold lz;refine cw (eP _) λ_ _=>cw (kl _) λc _=>?_;split
 .exact fk ⟨⟨by decide,by decide⟩,rfl⟩
 .exact cw (vS _) λa b=>cw (eP _) λ_ _=>fk ⟨b,rfl⟩
def DN:eA (iM d) λf=>eX f.1:=by
 unfold iM;refine cw (kl _) λg _=>?_;split
 .grind [cw,vS,eP,fk]
 .exact λb a h c e=>⟨(yQ _ _ _ c e).1,(yQ _ _ _ c e).2.1⟩
def Tg:Ty->Prop
 |.plain a=>a<=4
 |.named b _=>ef b
 |_=>False
def Sg(t:Ty):Prop:=t=.void\/Tg t
def yR:eA (lJ d) Tg:=by
 unfold lJ;refine cw qa λc a=>?_;unfold ie;split
 .rename_i b;exact fk (a.1 (by grind))
 split
 .exact fk (by decide:0<=4)
 split
 .exact fk (by decide:2<=4)
 split
 .exact fk (by decide:4<=4)
 split
 .refine cw (kl _) λe _=>?_;split
  .exact fk (by decide:3<=4)
  .exact cw (kl _) λ_ _=>fk (by decide:1<=4)
 .exact mG _ _
def DQ:eA (lG d) Sg:=by
 unfold lG;refine cw (kl _) λf _=>?_;split
 .exact fk (Y8 rfl)
 .exact λb a g c e=>⟨(yR _ _ _ c e).1,Ya (yR _ _ _ c e).2⟩
def SG(c:Mar.aT):eA (fV c) Tr:=by
 intro b h l d f;unfold fV at d;split at d
 .rename_i i;cases d
  refine⟨⟨f.nx,λj t a v e=>?_⟩,trivial⟩;rw[AU]at e;split at e
  .rename_i k g;cases e;exact f.cs _ _ _ _ g
  simp_all
 grind
def AI(f:Iv b)(h:Zb){e:aB}(i:∀t a v,e=.const t a v->eX v):Iv { b with A:=dd b.A h e }:=by
 refine⟨f.nx,λg t a v c=>?_⟩;simp only at c;rw[uv]at c;cases d:aL b.A g with
 |none=>simp_all
 |some j=>
  rw[d]at c;simp only[Option.map_some,Yu]at c;split at c
  .grind
  .rw[c]at d;exact f.cs _ _ _ _ d
def oK{f:cP τ}(g:∀c,fc (f.a4 c) Tr):fc (name d f) λi=>ef i.1:=by
 unfold name;refine cN (dD qa) λc h=>?_;split
 .rename_i l;exact cN (g c) λ_ _=>iD (h.1 (by grind))
 .intro t b a j k e;have e:Except.error _=Except.ok (a,j,k):=e;cases e
def Dg(c:aO):Prop:=ef c.t/\match c.H with
 |.opaq a _=>eX a
 |.str a d=>eX a/\d=false
 |.arr b a _=>Tg b/\eX a
 |.opt b=>Tg b
 |t=>Tg t
theorem Ee{c:Ty}(d:ef t)(b:Tg c):Dg ⟨t,a,c⟩:=by
 cases c with
 |plain _=>exact⟨d,b⟩
 |named _ _=>exact⟨d,b⟩
 |_=>exact absurd b id
def vT{h:cP τ}(f:∀c,fc (h.a4 c) Tr):fc (dW d h) Dg:=by
 unfold dW;refine cN (dD (kl _)) λg _=>?_;unfold mW;split
 .exact cN (oK f) λb a=>cN (dD DN) λj e=>iD ⟨a,e⟩
 refine cN (dD (kl _)) λg _=>?_;unfold mc;split
 .exact cN (oK f) λb a=>cN (dD yQ) λj e=>iD ⟨a,e⟩
 refine cN (dD yR) λk i=>cN (dD (kl _)) λg _=>?_;have l:∀b:Zb×Nat,ef b.1->fc (τ:=τ) (mX d b k) Dg:=λb a=>cN (dD DN) λj e=>iD ⟨a,i,e⟩;unfold ob;split
 .exact cN (oK f) λb a=>iD ⟨a,i⟩
 refine cN (oK f) λb a=>cN (dD (tq _)) λg _=>?_;unfold pi;split
 .grind
 refine cN (dD (tq _)) λg _=>?_;grind [pj,iD,Ee]
def DS(c:Mar.aT):fc ((fW nn).a4 c) Tr:=dD (SG c)
def rE(b a:Nat)(c:Mar.aT):fc ((bb b a).a4 c) Tr:=DU _
def rD:eA (gf d) λa=>ef a.1:=DM (oK DS)
def FH{lz:Nat}{D:PX τ Unit}(v:τ->List i)(z:i->Prop)(P:∀t b f h,D t b=.ok ((),f,h)->Iv b->Iv h/\∃c,v f=v t++[c]/\z c) :
  ∀(l j:Nat) (t:τ) (b:St) (f:τ) (h:St),hR d lz D l j t b=.ok ((),f,h)->Iv b->j<=lz->Iv h/\∃p,v f=v t++p/\(∀c∈p,z c)/\j+p.length<=lz/\(j=0->p≠[]):=by
 have w:∀{e g:Type} {n:PX τ e} {l:e->PX τ g} {t:τ} {b:St} {C:g×τ×St},aG n l t b=.ok C->∃a o q,n t b=.ok (a,o,q)/\l a o q=.ok C:=by
  grind [aG]
 have u:∀{e:Type} {n:PM e} {t f:τ} {b h:St} {a:e},lift n t b=.ok (a,f,h)->n b=.ok (a,h)/\f=t:=by
  intro e n t f b h a m;unfold lift at m;grind
 intro l;induction l with
 |zero=>intro j t b f h m _;exact absurd (u m).1 (λk=>by have k:Except.error _=Except.ok _:=k;cases k)
 |succ l a5=>
  intro j t b f h m a1 b0;unfold hR at m;obtain⟨y,o,q,r,s⟩:=w m;have R:Iv q/\o=t/\(j=0->y=false):=by
   split at r
   .have r:Except.ok (false,t,b)=Except.ok (y,o,q):=r;grind
   .rename_i H;exact⟨(kl _ _ _ _ (u r).1 a1).1,(u r).2,λk=>absurd k H⟩
  obtain⟨B,rfl,S⟩:=R;cases y with
  |true=>
   have s:Except.ok ((),o,q)=Except.ok ((),f,h):=s;cases s
   exact⟨B,[],by simp,by simp,by omega,λk=>absurd (S k) (by simp)⟩
  |false=>
   simp only[Ye,if_false]at s
   obtain⟨c,b2,b4,I,J⟩:=w s;obtain⟨G,rfl⟩:=u I;obtain⟨_,b3,b5,K,L⟩:=w J;obtain⟨A,rfl⟩:=u K;have a2:=(vQ _ _ _ _ _ _ A (vP _ _ _ G B).1).1;have O:j<lz:=by
    unfold dS at A;grind
   obtain⟨_,a6,a8,M,N⟩:=w L;obtain⟨a3,a7,a0,b1⟩:=P _ _ _ _ M a2;obtain⟨a4,p,E,F,a9,-⟩:=a5 (j+1) a6 a8 f h N a3 O;refine⟨a4,a7::p,by rw[E,a0];simp,?_,by simp;omega,λ_=>by simp⟩;intro a x;rcases Yg.1 x with rfl|x
   .omega
   .exact F a x
def wv{lz:Nat}{n:PX (List i×h) Unit}(f:i->Prop)(q:∀t b k l,n t b=.ok ((),k,l)->Iv b->Iv l/\∃c,k.1=t.1++[c]/\f c)(m:h):eA (iz (ei d lz n) ([],m)) λe=>e.1≠[]/\e.1.length<=lz/\∀c∈e.1,f c:=by
 intro b e l g r;unfold iz at g;split at g
 .rename_i k B j;cases g
  unfold ei aG at j;split at j
  .rename_i a u C p;have s:=(dD (eP _) _ _ _ _ _ p r).1;have o:u=([],m):=by
    grind [lift]
   subst o;obtain⟨z,A,v,w,x,y⟩:=FH (·.1) f q _ _ _ _ _ _ j s (YV _);simp_all
  simp_all
 grind
def Pg(a:dN):Prop:=ef a.t/\Sg a.c2/\Sg a.cF/\eX a.num
def Vg(v:eg):Prop:=ef v.t/\v.ag.length<=8/\(∀a∈v.ag,Pg a)/\eX v.num
def nD(a:List Int×aO):Prop:=(∀b∈a.1,eX b)/\(a.2.H=.void\/Dg a.2)
def Gg:aB->Prop
 |.const t _ v=>ef t/\eX v
 |.typedef c=>Dg c
 |.enum t _ b=>ef t/\b≠[]/\∀e∈b,ef e.1/\eX e.2.2
 |.struct t _ b=>ef t/\∀c∈b,Dg c
 |.union t _ f g=>ef t/\(ef f.t/\Tg f.H)/\∀a∈g,nD a
 |.prog t _ d h=>ef t/\d≠[]/\d.length<=4/\(∀v∈d,Vg v)/\eX h
def DT:fc (kI d) eX:=cN (dD (eP _)) λ_ _=>cN (vU _) λb a=>cN (dD (eP _)) λ_ _=>iD a
def SP:fc (kc d) Pg:=cN (dD DQ) λi e=>cN (vV (oK (rE 0 0))) λh c=>cN (dD (eP _)) λ_ _=>cN (dD DQ) λf a=>cN (dD (eP _)) λ_ _=>cN (yS DT) λg b=>iD ⟨c,e,a,b⟩
def SQ:fc (jA d) Vg:=by
 unfold jA;refine cN (dD (eP _)) λ_ _=>cN (vV (oK (rE 0 0))) λm g=>?_;unfold rB;refine cN (dD (wv Pg ?_ _)) λn c=>cN (yS DT) λl f=>iD ⟨g,c.2.1,c.2.2,f⟩;intro t b p q a h;unfold jB at a;split at a
 .rename_i i o r e;cases a;obtain⟨k,j⟩:=SP _ _ _ _ _ e h;simp_all
 grind
def SI(f:Int->Bool):eA (kQ d f) eX:=by
 intro b a j c i;unfold kQ at c;split at c
 .rename_i h;cases c;obtain⟨e,g⟩:=vU f _ _ _ _ _ h i;exact⟨⟨e.nx,e.cs⟩,g⟩
 grind
theorem SJ(a:Nat):eA (ia d a) Gg:=by
 unfold ia;refine cw (Q:=Tr) (λb m l h g=>vQ _ _ _ _ _ _ h g) λ_ _=>cw rD λk e=>?_;unfold pI mf;refine cw (wv Vg ?_ _) λr f=>cw (cw (eP _) λ_ _=>cw (SI _) λk e=>cw (eP _) λ_ _=>fk e) λq j=>fk ⟨e,f.1,f.2.1,f.2.2,j⟩;intro t b u l c g;unfold iV at c;split at c
 .rename_i n s v i;cases c;obtain⟨p,o⟩:=SQ _ _ _ _ _ i g;simp_all
 grind
def SO(j:Nat):fc (hE d j) λe=>ef e.1/\eX e.2.2:=by
 unfold hE;refine cN (dD vP) λc _=>cN (dD (vQ _ _ _)) λ_ _=>cN (dD (DO _)) λ_ _=>cN (dD rD) λe g=>cN (dD (eP _)) λ_ _=>cN (vU _) λv h=>cN (dD (P:=Tr) ?_) λ_ _=>iD ⟨g,h⟩;intro b a k f i;cases f
 exact⟨AI i _ (λt a v f=>by grind),trivial⟩
def Kq{i:Zb×Nat}(l:ef i.1):∀(e:Nat) (a:List (Zb×Nat×Int)) (f:List (Int×Int)),(∀g∈a,ef g.1/\eX g.2.2)->eA (gL d i e a f) Gg:=by
 intro e;induction e with
 |zero=>intro a f _;exact mG _ _
 |succ e r=>
  intro a f q b o u h m;unfold gL at h;split at h
  .rename_i g s v j;obtain⟨n,p⟩:=SO _ _ _ _ _ _ j m;have k:∀c∈a++[g],ef c.1/\eX c.2.2:=by
    grind
   refine(cw (kl _) λt _=>?_:eA _ Gg) _ _ _ h n;split
   .grind
   .exact cw (eP _) λ_ _=>cw (eP _) λ_ _=>fk ⟨l,by simp,k⟩
  grind
def SL(a:Nat):eA (iX d a) Gg:=by
 unfold iX;refine cw (vR _) λ_ _=>cw rD λn j=>cw (wv Dg ?_ _) λo k=>cw (eP _) λ_ _=>fk ⟨j,k.2.2⟩;intro t b q r c l;unfold iB at c;split at c
 .rename_i f p s g;obtain⟨m,i⟩:=vT (rE _ _) _ _ _ _ _ g l;unfold aG lift at c;split at c
  .rename_i e;split at e
   .rename_i h;cases e;cases c;exact⟨(eP _ _ _ _ h m).1,f,rfl,i⟩
   simp_all
  grind
 grind
def DR:fc (ir d (bb 0 0)) λc=>c.H=.void\/Dg c:=by
 unfold ir;refine cN (Q:=λc=>c.H=.void\/Dg c) (cN (dD (kl _)) λi _=>?_) λc g=>cN (dD (eP _)) λ_ _=>iD g;unfold mR;split
 .exact iD (Y8 rfl)
 .exact λt b a h j e f=>⟨(vT (rE 0 0) _ _ _ _ _ e f).1,Ya (vT (rE 0 0) _ _ _ _ _ e f).2⟩
def SN(g:Int->Bool):∀(e:Nat) (a:List Int),(∀b∈a,eX b)->fc (gI d g e a) λf=>∀b∈f,eX b:=by
 intro e;induction e with
 |zero=>intro a _;exact dD (mG _ _)
 |succ e l=>
  intro a j;unfold gI;refine cN (dD (eP _)) λc _=>λt=>(?_:fc _ _) t;refine cN (dD (vQ _ _ _)) λ_ _=>cN (vU g) λb k=>cN (dD (eP _)) λ_ _=>cN (dD (tq _)) λm _=>?_;have i:∀h∈a++[b],eX h:=by
   grind
  grind [iD]
def zr{b:gQ}{a:List Int×aO}(d:∀a∈b,nD a)(e:nD a):∀c∈b++[a],nD c:=by
 grind
def SM(g:Int->Bool):∀(b:Nat) (c:gQ),(∀a∈c,nD a)->fc (hz d g b c) λf=>∀a∈f,nD a:=by
 intro b;induction b with
 |zero=>intro c _;exact dD (mG _ _)
 |succ b p=>
  intro c m;unfold hz;refine cN (yS (SN g _ _ (by simp))) λh j=>cN (vV DR) λi k=>cN (dD (tq _)) λn _=>?_;have e:=zr m (a:=(h,i)) ⟨j,k⟩;split
  .simp_all
  .unfold lZ;refine cN (dD (kl _)) λn _=>?_;split
   .exact cN (dD (eP _)) λ_ _=>cN (vV DR) λo l=>iD (zr e ⟨by simp,l⟩)
   .exact iD e
def SK:eA (nz d) λg=>Tg g.1:=by
 unfold nz;refine cw qa λc f=>?_;unfold iW;split
 .rename_i h;refine cw (Q:=Tr) (λb a k e i=>?_) λj _=>fk (f.1 (by grind));unfold jV at e;grind
 split
 .exact fk (by decide:0<=4)
 split
 .exact cw (kl _) λ_ _=>fk (by decide:1<=4)
 split
 .exact fk (by decide:4<=4)
 .exact mG _ _
def SH:eA (gq d) Gg:=by
 unfold gq;refine cw qa λc _=>?_;unfold dQ;split
 .exact cw (DO _) λ_ _=>cw rD λe a=>cw (eP _) λ_ _=>cw (vS _) λi b=>cw (eP _) λ_ _=>fk ⟨a,b⟩
 split
 .exact cw (vR _) λ_ _=>cw (DM (vT DS)) λj f=>cw (eP _) λ_ _=>fk f
 split
 .exact cw (vR _) λ_ _=>cw rD λe a=>cw (eP _) λ_ _=>Kq a _ _ _ (by simp)
 split
 .exact SL _
 split
 .exact cw (vR _) λ_ _=>cw rD λe a=>cw (eP _) λ_ _=>cw (eP _) λ_ _=>cw SK λi b=>cw (DP (oK (rE 0 0)) _) λk g=>cw (eP _) λ_ _=>cw (eP _) λ_ _=>cw (DP (SM _ _ _ (by simp)) _) λl h=>cw (eP _) λ_ _=>cw (eP _) λ_ _=>fk ⟨a,⟨g,b⟩,h⟩
 grind [SJ,mG]
def Ra:∀(g:Nat) (f:List aB),(∀e∈f,Gg e)->eA (eD d g f) λm=>∀e∈m,Gg e:=by
 intro g;induction g with
 |zero=>intro f _;exact mG _ _
 |succ g l=>
  intro f j;unfold eD;refine cw vP λc _=>?_;split
  .exact fk j
  .refine cw SH λe i=>cw (Q:=Tr) (λb a n h k=>?_) λ_ _=>l _ ?_
   .cases h
    exact⟨AI k _ (λt a v h=>by subst h;exact i.2),trivial⟩
   grind
def Ds{f:List aB}(e:eE d=.ok f):∀g∈f,Gg g:=by
 unfold eE at e;split at e
 .cases e
 split at e
 .cases e
 .rename_i i b h;split at e
  .cases e
  split at e
  .cases e
  .cases e
   exact(Ra _ _ (by simp) _ _ _ h ⟨λc e=>(by cases e),λj t a v e=>by simp[eK,aL]at e⟩).2
end
end
end Go.Proofs.YtjdhaegijjednaaGreatDoor
namespace Go.Proofs.YtjdhaegijjednaaGreatDoor
open Go.RowKit
open Go.MapKept
open Go.Proofs.Tryz
section
def Mp(d:TypeDesc)(h:Zv->Prop)(g:Obj):Prop:=∃a c,g=.map a c/\∀b∈a.toList,IsKey d b.key/\h b.val
section
variable {P : Program} {b : Zw} {T kt et : TypeId} {d : TypeDesc} {h : Zv -> Prop} {i : Nat} {g : Obj} {k v : Zv}
def ow:Mp d h (.map #[] 0):=⟨#[],0,rfl,by simp⟩
def uH(o:P.underlying T=some (.map kt et))(j:P.underlying kt=some d)(n:IsKey d k)(t:Instr.keyThatStays k k=pure k)(f:b.heap[i]? = some g)(s:Mp d h g)(x:h v):∃p,(Instr.mapUpdate T (.map (some i)) k v).run P b=.ok () (dC b i p)/\Mp d h p:=by
 obtain⟨q,u,rfl,l⟩:=s;by_cases m:∃c∈q.toList,c.key=k
 .obtain⟨z,e,_,_,r⟩:=OU o j n t f (λc a=>(l c a).1) m v;refine⟨_,r,_,_,rfl,λc a=>?_⟩;rw[Array.toList_modify]at a;obtain⟨y,w⟩:=List.getElem?_of_mem a;grind
 .refine⟨_,ve o j n f (λc a=>(l c a).1) (λc a e=>m ⟨c,a,e⟩) v,_,_,rfl,λc a=>?_⟩;grind
def uG(o:P.underlying T=some (.map kt et))(j:P.underlying kt=some d)(m:IsKey d k)(f:b.heap[i]? = some g)(n:Mp d h g){z:Zv}(q:(zeroValue et).run P b=.ok z b)(x:h z)(a:Bool):∃v c,h v/\(Instr.lookup T (.map (some i)) k a).run P b=.ok (if a then .tuple #[v,.bool c]else v) b:=by
 obtain⟨u,s,rfl,l⟩:=n;rcases sx o j m f (λr p=>(l r p).1) q a with⟨_,e⟩|⟨y,t,w,_,e⟩;all_goals grind
end
def hU{b j:Zw}{a c:Nat}{v:Zv}(e:b.cell? (Zd a c)=some v)(k:am [] b j):j.cell? (Zd a c)=some v:=by
 have d:a<b.heap.size:=by
  grind [World.cell?]
 have:=k.G a d (by simp);grind [World.cell?]
abbrev kE(a:Nat×Zb):Zl:=[U a.1,.string ⟨a.2.toArray⟩]
abbrev tW(e a b:Nat)(f g:Zv)(h:Zl)(d:List (Nat×Zb))(i j:Obj)(c:List Th):List Th:=.obj e (.cells #[f,.map (some a),.map (some b),g] 167)::.row 273 1 f h.length h::.row 269 2 g d.length (d.flatMap kE)::.obj a i::.obj b j::c
abbrev tE(v:Zv):Prop:=∃n,v=U n
abbrev zb(v:Zv):Prop:=∃(b a:Int) (d:Option Addr) (e f:Nat) (c:Bool),v=.agg #[U b,U a,.slice d e f,.bool c]
structure kZ(e B E:Nat)(cv kv:Zv)(xs:Zl)(cs:List (Nat×Zb))(bo eo:Obj)(n:Nat)(c:List Th)(f b:Zw):Prop where
 bQ:aV (tW e B E cv kv xs cs bo eo c) f b
 a2:xs.length=n
 bp:n<=1000000000000
 call:∀p∈cs,p.1<n
 hy:cs.length<=n
 g7:Mp .string tE bo
 hh:Mp .string zb eo
def Cw(e n:Nat)(c:List Th)(f b:Zw):Prop:=∃a d i k l h g j,kZ e a d i k l h g j n c f b
section
variable {e n : Nat} {c : List Th} {f b j : Zw}
def Cw.F(o:Cw e n c f b)(k:am [] b j):Cw e n c f j:=by
 obtain⟨d,g,l,p,q,i,h,m,a⟩:=o;exact⟨d,g,l,p,q,i,h,m,{ a with bQ:=a.bQ.F k }⟩
def Cw.fr(a:Cw e n c f b):am [] f b:=by
 obtain⟨g,h,k,m,o,j,i,l,d⟩:=a;exact d.bQ.fr
def Cw.ai(m:Cw e n c f b)(g:Obj):Cw e n (c++[.obj b.heap.size g]) f (b.alloc g):=by
 obtain⟨d,h,k,o,p,j,i,l,a⟩:=m;exact⟨d,h,k,o,p,j,i,l,{ a with bQ:=(a.bQ.B g).g6 }⟩
def Cw.c9{a:Th}(p:Cw e n (c++[a]) f b):Cw e n c f b:=by
 obtain⟨d,g,j,l,o,i,h,k,m⟩:=p;exact⟨d,g,j,l,o,i,h,k,{ m with bQ:=zn (L:=tW e d g j l o i h k c) m.bQ }⟩
def Cw.at(d:Cw e n c f b){a:Th}(o:a∈c):a.At b:=by
 obtain⟨h,i,l,p,q,k,j,m,g⟩:=d;exact g.bQ.m a (by grind)
end
end
section
def IT:(prog.info? 273).map (λa=>(a.zero,a.size,a.bytes))=some (some .nilIface,1,16):=by kernel_rfl
def IS:(prog.info? 269).map (λa=>(a.zero,a.size,a.bytes))=some (some (.agg #[U 0,.string ⟨#[]⟩]),2,24):=by kernel_rfl
section
variable {c d : Nat} {R : List Th} {f b e : Zw}
def Cc{o p:Nat}{x G:Zv}{g:Zl}{cs:List (Nat×Zb)}{v z:Obj}{T:TypeId}{y:Zv}(k:kZ c o p x G g cs v z d R f b)(a4:d<1000000000000):Calls prog 131 #[Zp c,.iface T y] b λI e=>I=.returned (U d)/\∃H,kZ c o p H G (g++[.iface T y]) cs v z (d+1) R f e:=by
 obtain⟨gV,m,rfl⟩:=ce (k.bQ.bq (i:=1) (a:=.row 273 1 x g.length g) rfl);obtain⟨a0,J,N,O,P⟩:=info_parts IT;have S:Value.nilIface.cells.size=1:=rfl;obtain rfl:=k.a2;have D:g.length+1<=maxLen:=by unfold maxLen;omega
 have L:(g.length+1)*16<=140737488355328:=by omega
 have l:=Z k;have h:=k.bQ.a5 (i:=0) (R:=c) rfl;have r:b.cell? (Zd c 0)=some (.slice gV g.length m):=aU h rfl;have s:=cK h;have u:=ap h;have E:ac (∀n,(b.alloc n).ownsRow 0 273 1 (.slice gV g.length m) g.length g):=Z (λn=>bi (k.bQ.bq (i:=1) (a:=.row 273 1 (.slice gV g.length m) g.length g) rfl) ((ak [] b).B n) (by simp));clear h k;go_in;go_wp2_with (at_builtin;(refine wpList_append_lies _ (by rfl) _ _ _ (by rfl) 0 273 a0 _ 1 16 underlying102 J N O P S (by omega) (.slice gV g.length m) g.length g (by rfl) (E.j _) ⟨b.heap.size,0,none⟩ 1 1 [.iface T y] (by rfl) (by rfl) (World.news_of_block (cs:=#[.iface T y]) (t:=273) (fr:=(0,0)) (heap_alloc_new b _)) (by simp[Value.oneCell']) (by omega) D L (by simp) (b.heap.size+1) (by simp) ?_;intro A w a2 F C B K;have q:=Z (l.j.bQ.bo (i:=1) rfl ((ak [] b).B _) F C B (by simp));clear F C B K E D r s u;have h:=q.j.a5 (i:=0) (R:=c) rfl;have r:a2.cell? (Zd c 0)=some (.slice gV g.length m):=aU h rfl;have s:=cK h;have u:=ap h;clear h))
 go_wp2;go_ret;have a3:=q.j.a9 (i:=0) (j:=0) rfl (.slice (some ⟨A,0,none⟩) (g.length+1) w);exact⟨by simp,.slice (some ⟨A,0,none⟩) (g.length+1) w,⟨by grind,by simp,by omega,λa1 M=>Nat.lt_succ_of_lt (l.j.call a1 M),Nat.le_succ_of_le l.j.hy,l.j.g7,l.j.hh⟩⟩
def iw{T:TypeId}{y:Zv}(m:Cw c d R f b)(n:d<1000000000000):Calls prog 131 #[Zp c,.iface T y] b λa e=>a=.returned (U d)/\Cw c (d+1) R f e:=by
 obtain⟨g,h,r,o,s,j,i,l,p⟩:=m;refine(Cc p n).mono ?_;rintro a e ⟨rfl,k,q⟩;exact⟨rfl,g,h,k,o,_,j,i,l,q⟩
def lr(m:Cw c d R f b):Calls prog 128 #[Zp c] b λl e=>l=.returned (U d)/\e=b:=by
 obtain⟨n,o,k,t,h,r,q,s,g⟩:=m;obtain⟨gV,j,rfl⟩:=ce (g.bQ.bq (i:=1) (a:=.row 273 1 k h.length h) rfl);obtain rfl:=g.a2;have p:b.cell? (Zd c 0)=some (.slice gV h.length j):=aU (g.bQ.a5 (i:=0) (R:=c) rfl) rfl;clear g;go_in;go_wp2;go_ret;simp
def xL(c:Nat)(b:Zw):Calls prog 207 #[U c] b λf e=>(∃(h g:Int) (j:Option Addr) (k l:Nat) (i:Bool),f=.returned (.agg #[U h,U g,.slice j k l,.bool i]))/\am [] b e:=by
 have a:∀d,am [] b (b.alloc d):=λd=>(ak [] b).B d;cases m:((c:Int)==0)with
 |true=>
  go_in;go_wp2;exact bodyPost_ret (v:=.agg #[U (-2147483648),U 2147483647,.slice none 0 0,.bool false]) (by simp[results,results207,go_sem]) rfl ⟨⟨_,_,_,_,_,_,rfl⟩,a _⟩
 |false=>
  cases n:((c:Int)==1)with
  |true=>
   go_in;go_wp2;exact bodyPost_ret (v:=.agg #[U 0,U 4294967295,.slice none 0 0,.bool false]) (by simp[results,results207,go_sem]) rfl ⟨⟨_,_,_,_,_,_,rfl⟩,a _⟩
  |false=>
   cases o:((c:Int)==4)with
   |true=>
    go_in;go_wp2;exact bodyPost_ret (v:=.agg #[U 0,U 1,.slice none 0 0,.bool false]) (by simp[results,results207,go_sem]) rfl ⟨⟨_,_,_,_,_,_,rfl⟩,a _⟩
   |false=>
    go_in;go_wp2;exact bodyPost_ret (v:=.agg #[U (-9223372036854775808),U 9223372036854775807,.slice none 0 0,.bool true]) (by simp[results,results207,go_sem]) rfl ⟨⟨_,_,_,_,_,_,rfl⟩,a _⟩
end
end
section
variable {b c : Nat} {R : List Th} {f d e : Zw}
def FK(r:Zb)(n:Cw b c R f d)(a4:c<1000000000000):Calls prog 206 #[Zp b,Zs r] d λB e=>B=.returned (.tuple #[])/\Cw b (c+1) R f e:=by
 obtain⟨I,J,b5,b1,c1,g,O,S,l⟩:=n;obtain⟨ad,o,rfl⟩:=ce (l.bQ.bq (i:=2) (a:=.row 269 2 b1 g.length (g.flatMap kE)) rfl);obtain⟨b0,a0,a6,a7,a8⟩:=info_parts IS;have b4:d.cell? (Zd b 3)=some (.slice ad g.length o):=aU (l.bQ.a5 (i:=0) (R:=b) rfl) rfl;have K:=Z (Cc (T:=271) (y:=.agg #[U 0]) { l with bQ:=l.bQ.aq } a4);have a1:g.length+1<=maxLen:=by have:=l.hy;unfold maxLen;omega
 have a2:(g.length+1)*24<=140737488355328:=by have:=l.hy;omega
 have a9:(Value.agg #[U 0,.string ⟨#[]⟩]).cells.size=2:=by rfl
 have M:=Z l.hy;have a5:∀H∈kE (c,r),H.oneCell'=true:=by intro H G;simp at G;rcases G with rfl|rfl<;>rfl
 clear l;go_in;go_wp2_with fail;refine cx (λe=>e.cell? (Zd b 3)=some (.slice ad g.length o)) (L:=15) (by kernel_rfl) rfl (by kernel_rfl) (by kernel_rfl) ?_ (λw=>?_)
 .go_keep
 refine bH [0,1,2,3,4,5,6,7,9] ?_;iterate 9 (refine bK (v:=?_) rfl (by kernel_rfl) (λ_ _ _ n=>n) (by rfl) (by assumption) ?_ ?_;rotate_left;focus (intro d q;(try dsimp only at q);go_simp;(try with_reducible rfl));(try simp only[aJ,aK,List.set]))
 refine bI ?_;refine bF 8 (by kernel_rfl) rfl λm h=>?_;(go_simp;go_at_call 131;refine K.j.mono ?_;rintro B p ⟨rfl,P,k⟩;have k:=Z k;have x:=k.j.bQ.a5 (i:=0) (R:=b) rfl;have b6:p.cell? (Zd b 3)=some (.slice ad g.length o):=aU x rfl;have b7:=ap x;clear x);refine h.out _ _ ?_ (λw=>?_)
 .go_keep
 clear h m;(try simp only[aJ,aK,List.set]);refine tk (i:=10) (v:=?_) rfl (by kernel_rfl) (λ_ _ _ n=>n) (by rfl) (by assumption) ?_ ?_;rotate_left
 .intro d q;(try dsimp only at q);go_simp;(try with_reducible rfl)
 (try simp only[aJ,aK,List.set]);refine bF 11 (by kernel_rfl) rfl λm h=>?_;go_simp;refine h.out _ _ ?_ (λw=>?_)
 .go_keep
 clear h m;(try simp only[aJ,aK,List.set]);refine bF 12 (by kernel_rfl) rfl λm h=>?_;(refine step_append_lies _ (by rfl) _ _ _ (by rfl) 0 269 b0 _ 2 24 underlying165 a0 a6 a7 a8 a9 (by omega) (.slice ad g.length o) g.length (g.flatMap kE) (by rfl) (bi (k.j.bQ.bq (i:=2) (a:=.row 269 2 (.slice ad g.length o) g.length (g.flatMap kE)) rfl) ((ak [] p).B _) (by simp)) ⟨p.heap.size,0,none⟩ 1 1 (kE (c,r)) (by rfl) (by rfl) (World.news_of_block (cs:=(kE (c,r)).toArray) (t:=269) (fr:=(0,0)) (heap_alloc_new p _)) a5 (by omega) a1 a2 (by simp) (p.heap.size+1) (by simp) ?_;intro C A b3 F E D a3;have z:=Z (k.j.bQ.bo (i:=2) rfl ((ak [] p).B _) F E D (by simp));have u:=z.j.a5 (i:=0) (R:=b) rfl;have b8:b3.cell? (Zd b 3)=some (.slice ad g.length o):=aU u rfl;have b9:=cK u;have c0:=ap u;clear u F E D a3);refine h.out _ _ ?_ (λw=>?_)
 .go_keep
 clear h m;(try simp only[aJ,aK,List.set]);refine bH [13,14] ?_;iterate 2 (refine bK (v:=?_) rfl (by kernel_rfl) (λ_ _ _ n=>n) (by rfl) (by assumption) ?_ ?_;rotate_left;focus (intro d q;(try dsimp only at q);go_simp;(try with_reducible rfl));(try simp only[aJ,aK,List.set]))
 refine bI ?_;refine cR (by kernel_rfl) rfl λm h=>?_;go_simp;refine h.out _ _ ?_;clear h m;(try simp only[aJ,aK,List.set]);go_wp2;go_end0;have N:=z.j.a9 (i:=0) (j:=3) rfl (.slice (some ⟨C,0,none⟩) (g.length+1) A);refine⟨rfl,I,J,P,.slice (some ⟨C,0,none⟩) (g.length+1) A,_,g++[(c,r)],O,S,⟨by simpa[tW]using N,k.j.a2,k.j.bp,λb2 s=>?_,by have:=M.j;simp_all,k.j.g7,k.j.hh⟩⟩;rcases Yn.1 s with s|s
 .exact k.j.call b2 s
 simp_all
end
section
variable {d b i : Nat} {R : List Th} {e c f : Zw}
def Cw.g9(u:Cw d b R e c)(K:i<b):∃f h,c.cell? (Zd d 0)=some (.slice (some ⟨f,0,none⟩) b h)/\b<=h/\c.frozen? ⟨f,i,none⟩=false/\(∃C,c.cell? (Zd f i)=some C)/\f<c.heap.size/\∀v,Cw d b R e (c.setCell ⟨f,i,none⟩ v):=by
 obtain⟨n,o,s,B,j,r,q,t,g⟩:=u;have A:=g.bQ.bq (i:=1) (a:=.row 273 1 s j.length j) rfl;obtain rfl:=g.a2;have D:=g.bQ.a5 (i:=0) (R:=d) rfl;obtain⟨H,z⟩:=A;rcases z with⟨rfl,G⟩|⟨f,h,l,rfl,x,k,m,y,I,J⟩
 .omega
 .refine⟨f,h,aU D rfl,m,by simp[World.frozen?,k],⟨l[i]'(by omega),by simp[World.cell?,k]⟩,ap k,λv=>?_⟩;have E:=g.bQ.bR (i:=1) (a':=.row 273 1 (.slice (some ⟨f,0,none⟩) j.length h) j.length (j.set i v)) rfl ((ak [f] c).ay (p:=⟨f,i,none⟩) (by simp) v) (by simp[Th.ba,Value.ownBlock]) ⟨by simp,Ya ⟨f,h,l.setIfInBounds i v,rfl,x,bu k v,m,y,by grind,by simp only[YF,Array.toList_setIfInBounds];rw[List.take_set];grind⟩⟩ (λF w=>Y8 w);exact⟨n,o,.slice (some ⟨f,0,none⟩) j.length h,B,j.set i v,r,q,t,⟨by grind,by simp,g.bp,g.call,g.hy,g.g7,g.hh⟩⟩
def ik(d b g:Nat)(R:List Th)(e:Zw)(c:Ending)(f:Zw):Prop:=c=.returned (.tuple #[])/\∃a,b<=a/\a<=b+g/\Cw d a R e f
def tn(m:Ty)(j:Sg m)(o:Cw d b R e c)(p:b<1000000000000):Calls prog 129 #[Zp d,bj m] c (ik d b 1 R e):=by
 have h:=Z o;clear o;have q:∀k,am [] c (c.alloc k):=λk=>(ak [] c).B k;rcases j with rfl|j
 .have r:∀a,(Instr.typeAssert (.iface 444 (.agg #[])) 240 260 true).run prog a=.ok (.tuple #[.agg #[.string ⟨#[]⟩,U 0],.bool false]) a:=λa=>by kernel_rfl
  have u:∀a,(Instr.typeAssert (.iface 444 (.agg #[])) 240 372 true).run prog a=.ok (.tuple #[.agg #[U 0],.bool false]) a:=λa=>by kernel_rfl
  have y:∀a,(Instr.typeAssert (.iface 444 (.agg #[])) 240 377 true).run prog a=.ok (.tuple #[.agg #[U 0,.bool false],.bool false]) a:=λa=>by kernel_rfl
  have z:∀a,(Instr.typeAssert (.iface 444 (.agg #[])) 240 380 true).run prog a=.ok (.tuple #[.agg #[U 0,.bool false],.bool false]) a:=λa=>by kernel_rfl
  have A:∀a,(Instr.typeAssert (.iface 444 (.agg #[])) 240 382 true).run prog a=.ok (.tuple #[.agg #[.nilIface,U 0,.bool false],.bool false]) a:=λa=>by kernel_rfl
  have B:∀a,(Instr.typeAssert (.iface 444 (.agg #[])) 240 385 true).run prog a=.ok (.tuple #[.agg #[.nilIface],.bool false]) a:=λa=>by kernel_rfl
  show Calls _ _ #[_,.iface 444 (.agg #[])] _ _
  go_in;go_wp2;go_end0;exact⟨rfl,b,Y4 _,by omega,h.j⟩
 cases m with
 |named g l=>
  have r:∀a,(Instr.typeAssert (.iface 260 (.agg #[Zs g,U l])) 240 260 true).run prog a=.ok (.tuple #[.agg #[Zs g,U l],.bool true]) a:=λa=>by kernel_rfl
  show Calls _ _ #[_,.iface 260 (.agg #[Zs g,U l])] _ _
  go_in;go_wp2_with fail;refine(FK g (h.j.F (q _)) p).mono ?_;rintro n v ⟨rfl,i⟩;go_wp2;go_end0;exact⟨rfl,_,by omega,Y4 _,i⟩
 |plain f=>
  have r:∀a,(Instr.typeAssert (.iface 372 (.agg #[U f])) 240 260 true).run prog a=.ok (.tuple #[.agg #[.string ⟨#[]⟩,U 0],.bool false]) a:=λa=>by kernel_rfl
  have u:∀a,(Instr.typeAssert (.iface 372 (.agg #[U f])) 240 372 true).run prog a=.ok (.tuple #[.agg #[U f],.bool true]) a:=λa=>by kernel_rfl
  show Calls _ _ #[_,.iface 372 (.agg #[U f])] _ _
  go_in;go_wp2_with fail;refine(xL f _).mono ?_;rintro n v ⟨⟨x,w,E,F,G,D,rfl⟩,t⟩;have i:=(h.j.F (q _)).F t;go_wp2_with fail;refine(iw i p).mono ?_;rintro n C ⟨rfl,s⟩;go_wp2;go_end0;exact⟨rfl,_,by omega,Y4 _,s⟩
 |_=>exact absurd j id
end
section
variable {d c i : Nat} {e : List Th} {g b f : Zw}
theorem Cw.aq(a:Cw d c e g b):Cw d c e g b.drew:=a.F (ak [] b).aq
def Fy{m:Ty}(l:Int)(j:Bool)(L:Sg m)(h:Cw d c e g b)(a3:c+3<=1000000000000):Calls prog 208 #[Zp d,.agg #[bj m,U l,.bool j]] b (ik d c 3 e g):=by
 have x:=h.ai (.cells #[bj m,U l,.bool j] 382);obtain⟨s,F,D⟩:=dG m;have H:=Z D;rw[D]at x ⊢;clear h;go_in;go_wp2_with fail;refine(iw x (by omega)).mono ?_;rintro u a5 ⟨rfl,q⟩;obtain⟨z,A,B,C⟩:=dJ (q.at (a:=.obj b.heap.size (.cells #[.iface s F,U l,.bool j] 382)) (by simp))
 go_wp2_with fail;have t:=tn m L q (by omega);rw[H.j]at t;refine t.mono ?_;rintro u a6 ⟨rfl,E,O,P,y⟩;clear t q z A B C;go_wp2_with fail;refine(iw (T:=450) (y:=.agg #[]) y (by omega)).mono ?_;rintro u a7 ⟨rfl,n⟩;clear y;obtain⟨z,A,B,C⟩:=dJ (n.at (a:=.obj b.heap.size (.cells #[.iface s F,U l,.bool j] 382)) (by simp))
 obtain⟨J,I,N,S,a0,⟨M,a4⟩,a1,r⟩:=n.aq.g9 (i:=c) (by omega);have r:=Z r;have G:=Z (lr n.aq);have a2:(c:Int)<((E+1:Nat):Int):=by omega
 clear n;generalize R:E+1=p at *
 go_wp2_with fail;refine cx (λf=>f.cell? (Zd d 0)=some (.slice (some ⟨J,0,none⟩) p I)/\f.cell? (Zd b.heap.size 1)=some (U l)/\f.cell? (Zd b.heap.size 2)=some (.bool j)) (L:=12) (by kernel_rfl) rfl (by kernel_rfl) (by kernel_rfl) ?_ (λK=>?_)
 .go_keep
 refine bH [0,1,2,3,4,5,6,7] ?_;iterate 8 (refine bK (v:=?_) rfl (by kernel_rfl) (λ_ _ _ h=>h) (by rfl) (by assumption) ?_ ?_;rotate_left;focus (intro b w;(try dsimp only at w);go_simp;(try with_reducible rfl));(try simp only[aJ,aK,List.set]))
 refine bI ?_;refine bF 8 (by kernel_rfl) rfl λo k=>?_;(go_simp;go_at_call 128;refine G.j.mono ?_;rintro u a8 ⟨rfl,rfl⟩);refine k.out _ _ ?_ (λK=>?_)
 .go_keep
 clear k o;(try simp only[aJ,aK,List.set]);refine bH [9,10,11] ?_;iterate 3 (refine bK (v:=?_) rfl (by kernel_rfl) (λ_ _ _ h=>h) (by rfl) (by assumption) ?_ ?_;rotate_left;focus (intro b w;(try dsimp only at w);go_simp;(try with_reducible rfl));(try simp only[aJ,aK,List.set]))
 refine bI ?_;refine cR (by kernel_rfl) rfl λo k=>?_;go_simp;refine k.out _ _ ?_;clear k o;(try simp only[aJ,aK,List.set]);go_wp2;go_end0;exact⟨rfl,p,by omega,by omega,(r.j _).c9⟩
end
section
variable {d b i : Nat} {e : List Th} {f c w' : Zw}
def Cw.bR{g:Nat}{k:Obj}(r:Cw d b (e++[.obj g k]) f c)(h:Obj):Cw d b (e++[.obj g h]) f (dC c g h):=by
 obtain⟨l,m,p,u,v,o,n,q,j⟩:=r;have s:=j.bQ.m (.obj g k) (by simp);have w:=j.bQ.bR (i:=e.length+5) (a:=.obj g k) (a':=.obj g h) (by simp) (iu c g h) (by simp[Th.ba]) (qW (ap s) h) (λx t=>Y8 t);exact⟨l,m,p,u,v,o,n,q,{ j with bQ:=by simp_all }⟩
def yK{b:Zw}{a:Nat}{c:Obj}(e:b.heap[a]? = some c)(f:Mp (.int .i64) (λ_=>True) c)(g:Int)(v:Zv):∃d,(Instr.mapUpdate 389 (.map (some a)) (.int .i64 g) v).run prog b=.ok () (dC b a d)/\Mp (.int .i64) (λ_=>True) d:=uH (kt:=2) (et:=394) (by kernel_rfl) (by kernel_rfl) rfl (PJ _) e f trivial
def Mo{m:Ty}(S:Sg m)(g:Cw d b e f c)(b3:b+3<=1000000000000):Calls prog 209 #[Zp d,.agg #[bj m]] c (ik d b 3 e f):=by
 have b2:=jr;have z:=g.ai (.cells #[bj m] 385);obtain⟨N,a3,D⟩:=dG m;have K:=Z D;rw[D]at z ⊢;clear g;go_in;go_wp2_with fail;refine(iw z (by omega)).mono ?_;rintro w c1 ⟨rfl,r⟩;have O:=bX (r.at (a:=.obj c.heap.size (.cells #[.iface N a3] 385)) (by simp))
 go_wp2_with fail;have t:=tn m S r (by omega);rw[K.j]at t;refine t.mono ?_;rintro w n ⟨rfl,l,a4,a5,A⟩;clear t r O;have o:=A.ai (.map #[] 0);obtain⟨y,a1,H⟩:=yK (o.at (a:=.obj n.heap.size (.map #[] 0)) (by simp)) ow 0 (.agg #[.int .i64 l,.int .i64 0]);have p:=o.bR y;have J:=Z (lr o);obtain⟨W1,E⟩:∃W1,W1=dC (n.alloc (.map #[] 0)) n.heap.size y:=⟨_,rfl⟩;rw[<-E]at a1 p;obtain⟨I,a2,a0⟩:=yK (p.at (a:=.obj n.heap.size y) (by simp)) H 1 (.agg #[.int .i64 ((b:Int)+1),.int .i64 1]);have h:=p.bR I;obtain⟨u,F⟩:∃u,u=dC W1 n.heap.size I:=⟨_,rfl⟩;rw[<-F]at a2 h;have h:=Z h.c9;clear o p A E F H a0;obtain⟨ad,j,P⟩:∃ad j,u.cell? (Zd d 0)=some (.slice ad l j):=by
  obtain⟨B,j,P,_⟩:=h.j.g9 (i:=b) (by omega);simp_all
 have b1:(b:Int)<(l:Int):=by omega
 go_wp2_with fail;refine J.j.mono ?_;rintro w c2 ⟨rfl,rfl⟩;go_wp2_with fail;refine cx (λw'=>w'.cell? (Zd d 0)=some (.slice ad l j)) (L:=10) (by kernel_rfl) rfl (by kernel_rfl) (by kernel_rfl) ?_ (λC=>?_)
 .go_keep
 refine bH [0,1,2,3,4,6] ?_;iterate 6 (refine bK (v:=?_) rfl (by kernel_rfl) (λ_ _ _ g=>g) (by rfl) (by assumption) ?_ ?_;rotate_left;focus (intro c x;(try dsimp only at x);go_simp;(try with_reducible rfl));(try simp only[aJ,aK,List.set]))
 refine bI ?_;refine bF 5 (by kernel_rfl) rfl λq k=>?_;(go_simp;go_at_call 207;refine(xL 4 _).mono ?_;rintro w c3 ⟨⟨b5,b6,b7,b8,b9,c0,rfl⟩,G⟩;have a7:=hU C G;have M:=h.j.aq.F G;obtain⟨B,R,a6,a8,a9,⟨c4,b4⟩,b0,s⟩:=M.g9 (i:=b) (by omega);have s:=Z s;obtain⟨rfl,rfl⟩:ad=some ⟨B,0,none⟩/\j=R:=by simp_all);refine k.out _ _ ?_ (λC=>?_)
 .go_keep
 clear k q;(try simp only[aJ,aK,List.set]);refine bH [7,8,9] ?_;iterate 3 (refine bK (v:=?_) rfl (by kernel_rfl) (λ_ _ _ g=>g) (by rfl) (by assumption) ?_ ?_;rotate_left;focus (intro c x;(try dsimp only at x);go_simp;(try with_reducible rfl));(try simp only[aJ,aK,List.set]))
 refine bI ?_;refine cR (by kernel_rfl) rfl λq k=>?_;go_simp;refine k.out _ _ ?_;clear k q;(try simp only[aJ,aK,List.set]);go_wp2;go_end0;exact⟨rfl,l,by omega,by omega,(s.j _).c9⟩
end
section
variable {c a g : Nat} {d : List Th} {e b f : Zw}
def Vt:Ty->Prop
 |.opaq _ _=>True
 |.str _ _=>True
 |.arr a _ _=>Sg a
 |.opt a=>Sg a
 |t=>Sg t
def ik.a0{g l:Nat}{f:Ending}(h:ik c a g d e f b)(o:g<=l):ik c a l d e f b:=by
 obtain⟨i,m,j,n,k⟩:=h;exact⟨i,m,j,by omega,k⟩
def vL(z:Ty)(r:Vt z)(m:Cw c a d e b)(A:a+3<=1000000000000):Calls prog 129 #[Zp c,bj z] b (ik c a 3 d e):=by
 have n:=Z m;clear m;have s:∀l,am [] b (b.alloc l):=λl=>(ak [] b).B l;cases z with
 |opaq h i=>
  have w:∀g,(Instr.typeAssert (.iface 377 (.agg #[U h,.bool i])) 240 260 true).run prog g=.ok (.tuple #[.agg #[.string ⟨#[]⟩,U 0],.bool false]) g:=λg=>by kernel_rfl
  have x:∀g,(Instr.typeAssert (.iface 377 (.agg #[U h,.bool i])) 240 372 true).run prog g=.ok (.tuple #[.agg #[U 0],.bool false]) g:=λg=>by kernel_rfl
  have y:∀g,(Instr.typeAssert (.iface 377 (.agg #[U h,.bool i])) 240 377 true).run prog g=.ok (.tuple #[.agg #[U h,.bool i],.bool true]) g:=λg=>by kernel_rfl
  show Calls _ _ #[_,.iface 377 (.agg #[U h,.bool i])] _ _
  go_in;go_wp2_with fail;refine(iw (n.j.F (s _)) (by omega)).mono ?_;rintro o E ⟨rfl,u⟩;go_wp2;go_end0;exact⟨rfl,_,by omega,by omega,u⟩
 |str h i=>
  have w:∀g,(Instr.typeAssert (.iface 380 (.agg #[U h,.bool i])) 240 260 true).run prog g=.ok (.tuple #[.agg #[.string ⟨#[]⟩,U 0],.bool false]) g:=λg=>by kernel_rfl
  have x:∀g,(Instr.typeAssert (.iface 380 (.agg #[U h,.bool i])) 240 372 true).run prog g=.ok (.tuple #[.agg #[U 0],.bool false]) g:=λg=>by kernel_rfl
  have y:∀g,(Instr.typeAssert (.iface 380 (.agg #[U h,.bool i])) 240 377 true).run prog g=.ok (.tuple #[.agg #[U 0,.bool false],.bool false]) g:=λg=>by kernel_rfl
  have B:∀g,(Instr.typeAssert (.iface 380 (.agg #[U h,.bool i])) 240 380 true).run prog g=.ok (.tuple #[.agg #[U h,.bool i],.bool true]) g:=λg=>by kernel_rfl
  show Calls _ _ #[_,.iface 380 (.agg #[U h,.bool i])] _ _
  go_in;go_wp2_with fail;refine(iw (n.j.F (s _)) (by omega)).mono ?_;rintro o E ⟨rfl,u⟩;go_wp2;go_end0;exact⟨rfl,_,by omega,by omega,u⟩
 |arr l h i=>
  obtain⟨j,k,q⟩:=dG l;have p:=Z (λv=>Fy h i r (n.j.F (s v)) A);rw[q]at p;have w:∀g,(Instr.typeAssert (.iface 382 (.agg #[.iface j k,U h,.bool i])) 240 260 true).run prog g=.ok (.tuple #[.agg #[.string ⟨#[]⟩,U 0],.bool false]) g:=λg=>by kernel_rfl
  have x:∀g,(Instr.typeAssert (.iface 382 (.agg #[.iface j k,U h,.bool i])) 240 372 true).run prog g=.ok (.tuple #[.agg #[U 0],.bool false]) g:=λg=>by kernel_rfl
  have y:∀g,(Instr.typeAssert (.iface 382 (.agg #[.iface j k,U h,.bool i])) 240 377 true).run prog g=.ok (.tuple #[.agg #[U 0,.bool false],.bool false]) g:=λg=>by kernel_rfl
  have B:∀g,(Instr.typeAssert (.iface 382 (.agg #[.iface j k,U h,.bool i])) 240 380 true).run prog g=.ok (.tuple #[.agg #[U 0,.bool false],.bool false]) g:=λg=>by kernel_rfl
  have C:∀g,(Instr.typeAssert (.iface 382 (.agg #[.iface j k,U h,.bool i])) 240 382 true).run prog g=.ok (.tuple #[.agg #[.iface j k,U h,.bool i],.bool true]) g:=λg=>by kernel_rfl
  show Calls _ _ #[_,.iface 382 (.agg #[bj l,U h,.bool i])] _ _
  rw[q];go_in;go_wp2_with fail;refine(p.j _).mono ?_;rintro o D ⟨rfl,t⟩;go_wp2;go_end0;exact⟨rfl,t⟩
 |opt l=>
  obtain⟨j,k,q⟩:=dG l;have p:=Z (λv=>Mo r (n.j.F (s v)) A);rw[q]at p;have w:∀g,(Instr.typeAssert (.iface 385 (.agg #[.iface j k])) 240 260 true).run prog g=.ok (.tuple #[.agg #[.string ⟨#[]⟩,U 0],.bool false]) g:=λg=>by kernel_rfl
  have x:∀g,(Instr.typeAssert (.iface 385 (.agg #[.iface j k])) 240 372 true).run prog g=.ok (.tuple #[.agg #[U 0],.bool false]) g:=λg=>by kernel_rfl
  have y:∀g,(Instr.typeAssert (.iface 385 (.agg #[.iface j k])) 240 377 true).run prog g=.ok (.tuple #[.agg #[U 0,.bool false],.bool false]) g:=λg=>by kernel_rfl
  have B:∀g,(Instr.typeAssert (.iface 385 (.agg #[.iface j k])) 240 380 true).run prog g=.ok (.tuple #[.agg #[U 0,.bool false],.bool false]) g:=λg=>by kernel_rfl
  have C:∀g,(Instr.typeAssert (.iface 385 (.agg #[.iface j k])) 240 382 true).run prog g=.ok (.tuple #[.agg #[.nilIface,U 0,.bool false],.bool false]) g:=λg=>by kernel_rfl
  have H:∀g,(Instr.typeAssert (.iface 385 (.agg #[.iface j k])) 240 385 true).run prog g=.ok (.tuple #[.agg #[.iface j k],.bool true]) g:=λg=>by kernel_rfl
  show Calls _ _ #[_,.iface 385 (.agg #[bj l])] _ _
  rw[q];go_in;go_wp2_with fail;refine(p.j _).mono ?_;rintro o D ⟨rfl,t⟩;go_wp2;go_end0;exact⟨rfl,t⟩
 |plain h=>exact(tn _ r n.j (by omega)).mono λo f m=>m.a0 (by omega)
 |named G F=>exact(tn _ r n.j (by omega)).mono λo f m=>m.a0 (by omega)
 |void=>exact(tn _ r n.j (by omega)).mono λo f m=>m.a0 (by omega)
def ym(h:Ty)(p:Vt h)(k:Cw c a d e b)(s:a+4<=1000000000000):Calls prog 134 #[Zp c,bj h] b λg f=>g=.returned (U a)/\∃i,a<=i/\i<=a+4/\Cw c i d e f:=by
 have j:=Z (vL h p k (by omega));obtain⟨n,x,o⟩:=dG h;rw[o]at j ⊢;go_in;go_wp2_with fail;refine(lr k).mono ?_;rintro g u ⟨rfl,rfl⟩;go_wp2_with fail;refine j.j.mono ?_;rintro g v ⟨rfl,t,q,r,l⟩;go_wp2_with fail;refine(iw (T:=397) (y:=.agg #[]) l (by omega)).mono ?_;rintro g w ⟨rfl,m⟩;go_wp2;go_ret;exact⟨rfl,_,by omega,by omega,m⟩
end
section
variable {b n i : Nat} {d : List Th} {a w e : Zw}
def Cw.e7{c:Nat}{f:Obj}(g:Cw b n d a w)(e:a.heap[c]? = some f):w.heap[c]? = some f:=(g.fr.G _ (ap e) (by simp)).trans e
def QD{z:Zo}{y M:Nat}{b3:Zb}{e:List aO}(R:dg z y (.struct b3 M e))(G:∀H∈z,a.heap[H.1]? = some H.2)(F:∀a6∈e,Vt a6.H)(o:Cw b n d a w)(c5:n+4000<=1000000000000):Calls prog 132 #[Zp b,Zp y] w (ik b n 3001 d a):=by
 obtain⟨d0,P,a5⟩:=R;have B:=G _ P;obtain⟨c7,c8,c9,_⟩:=dJ (o.e7 B);have u:=Z (λ(v:Zw) g (j:Cw b g d a v)=>dJ (j.e7 B));have L:=Z F;have t:=Z o;clear o F;rcases a5 with⟨rfl,O,_⟩|⟨j,b5,b6,rfl,⟨b9,c4⟩,a0,r⟩
 .have a4:e=[]:=Yv.1 O;subst a4;go_in;go_wp2_with fail;refine(iw t.j (by omega)).mono ?_;rintro A I ⟨rfl,h⟩;obtain⟨b0,b1,b2,_⟩:=u.j _ _ h;have l:=Z h;clear h;go_wp2;go_loopw [21] (λi s=>i=U 0/\s=I) (λ_ _=>0)
  case atStart=>simp
  case round=>
   obtain⟨rfl,rfl⟩:=hrel;go_wp2;go_end0;exact⟨rfl,_,by omega,by omega,l.j⟩
 .have a1:=G _ a0;have E:∀(v:Zw) g,Cw b g d a v->∀i (C:i<e.length),v.cell? ⟨j,i*3,none⟩=some (.string ⟨e[i].t.toArray⟩)/\v.cell? ⟨j,i*3+1,none⟩=some (U e[i].m)/\v.cell? ⟨j,i*3+2,none⟩=some (bj e[i].H):=by
   intro v g N i C;have q:=N.e7 a1;have S:=iS (c:=ek) (n:=3) (λ_=>rfl) e i;refine⟨bJ q r ?_,bJ q r ?_,bJ q r ?_⟩
   .have:=S 0 C (by omega);grind
   .grind
   grind
  have K:=Z E;clear E;go_in;go_wp2_with fail;refine(iw t.j (by omega)).mono ?_;rintro A I ⟨rfl,h⟩;obtain⟨b0,b1,b2,_⟩:=u.j _ _ h;have l:=Z h;clear h;go_wp2;go_loopw [21] (λi s=>∃(f g:Nat),i=U f/\f<=e.length/\n<=g/\g<=n+1+3*f/\ac (Cw b g d a s)) (λi _=>e.length-(intOf i).toNat)
  case atStart=>exact⟨0,n+1,rfl,by omega,by omega,by omega,l⟩
  case round=>
   obtain⟨f,g,rfl,c3,a3,c6,k⟩:=hrel;clear l;rcases Yj f e.length with D|c0
   .obtain⟨d1,d2,a9⟩:=K.j _ _ k.j f D;obtain⟨b4,d3,p⟩:=dG e[f].H;rw[p]at a9;have c1:(0:Int)<=↑f:=by omega
    have c2:(↑f:Int) < ↑e.length:=by omega
    have m:=λa8=>vL e[f].H (L.j e[f] (Yy D)) (k.j.F ((ak [] wr).B a8)) (by omega);rw[p]at m;have m:=Z m;clear p k;go_wp2_with fail;refine(m.j _).mono ?_;rintro A d4 ⟨rfl,a7,b7,b8,x⟩;have J:=Z x;clear x;go_wp2;exact⟨⟨f+1,a7,by rfl,by omega,by omega,by omega,J⟩,by simp[intOf];omega⟩
   .have a2:f=e.length:=by omega
    subst a2;go_wp2;go_end0;exact⟨rfl,g,a3,by omega,k.j⟩
end
section
variable {e b i : Nat} {f : List Th} {h c g : Zw}
def Cw.nS{d:Nat}{l j:Obj}(s:Cw e b (f++[.obj d l]) h c)(u:am [d] c g)(v:g.heap[d]? = some j):Cw e b (f++[.obj d j]) h g:=by
 obtain⟨m,n,q,w,x,p,o,r,k⟩:=s;have y:=k.bQ.bR (i:=f.length+5) (a:=.obj d l) (a':=.obj d j) (by simp) u (by simp[Th.ba]) v (λz t=>Y8 t);exact⟨m,n,q,w,x,p,o,r,{ k with bQ:=by simp_all }⟩
def Ft{d:aO}{ca:Option Addr}{cn cc:Nat}(x:Vt d.H)(s:Cw e b f h c)(L:b+3<=1000000000000) :
  Calls prog 211 #[Zp e,.agg #[.slice ca cn cc,Zs d.t,U d.m,bj d.H]] c λr g=>(∃a G,r=.returned (.agg #[U a,U G]))/\∃z,b<=z/\z<=b+3/\Cw e z f h g:=by
 have j:=(s.ai (.cells #[.slice ca cn cc,Zs d.t,U d.m,bj d.H] 363)).ai (.cells #[U 0,U 0] 394);have m:=Z (lr j);have n:=j.ai (.cells #[U b,U 1] 394);by_cases y:d.H=.void
 .have C:∀k,(Instr.typeAssert (.iface 444 (.agg #[])) 240 444 true).run prog k=.ok (.tuple #[.agg #[],.bool true]) k:=λk=>by kernel_rfl
  rw[y]at j n m ⊢;dsimp only[bj]at j n m ⊢;have E:=Z s;clear s j n y x;go_in;go_wp2_with fail;refine m.j.mono ?_;rintro r N ⟨rfl,rfl⟩;go_wp2;exact bodyPost_ret (v:=.agg #[U b,U 0]) (by simp[results,results211,go_sem]) rfl ⟨⟨_,_,rfl⟩,b,Y4 _,by omega,E.j.F ((((ak [] c).B _).B _).B _)⟩
 .have C:∀k,(Instr.typeAssert (bj d.H) 240 444 true).run prog k=.ok (.tuple #[.agg #[],.bool false]) k:=by
   intro k;cases a2:d.H with
   |void=>simp_all
   |_=>kernel_rfl
  obtain⟨O,a4,B⟩:=dG d.H;have o:=vL _ x n L;rw[B]at j n m C o ⊢;have o:=Z o;clear s j n y x B;go_in;go_wp2_with fail;refine m.j.mono ?_;rintro r N ⟨rfl,rfl⟩;go_wp2_with fail;refine o.j.mono ?_;rintro r u ⟨rfl,M,J,K,q⟩;simp only[World.size_alloc,Nat.add_assoc]at q;have D:=q.at (a:=.obj (c.heap.size+(1+1)) (.cells #[U b,U 1] 394)) (by simp);have w:=q.c9;have l:=w.at (a:=.obj (c.heap.size+1) (.cells #[U 0,U 0] 394)) (by simp);clear q;obtain⟨P,R⟩:=pc D;obtain⟨S,a0⟩:=pc l;have a1:∀i,u.frozen? ⟨c.heap.size+1,i,none⟩=false:=λi=>by have l:u.heap[c.heap.size+1]? = _:=l;simp[World.frozen?,l]
  have A:=bu (i:=1) (bu (i:=0) l (U b)) (U 1);obtain⟨H,I⟩:=pc (show ((u.setCell ⟨c.heap.size+1,0,none⟩ (U b)).setCell ⟨c.heap.size+1,1,none⟩ (U 1)).heap[c.heap.size+1]? = some (.cells #[U b,U 1] 394)from A);have F:=Z (w.nS (((ak [c.heap.size+1] u).ay (p:=⟨c.heap.size+1,0,none⟩) (by simp) (U b)).ay (p:=⟨c.heap.size+1,1,none⟩) (by simp) (U 1)) A);have a3:=ap l;clear w D l A o m;go_wp2;exact bodyPost_ret (v:=.agg #[U b,U 1]) (by simp[results,results211,go_sem,H,I]) rfl ⟨⟨_,_,rfl⟩,M,J,K,F.j.c9.c9⟩
end
section
variable {b e i : Nat} {R : List Th} {f a c : Zw}
def OP{w:Ty}(F:Tg w)(B:Cw b e R f a):Calls prog 210 #[Zp b,bj w] a λA c=>(∃(j h:Int) (l:Option Addr) (m z:Nat) (k:Bool),A=.returned (.agg #[U j,U h,.slice l m z,.bool k]))/\am [] a c:=by
 have q:∀t u,am [] a ((a.alloc t).alloc u):=λt u=>((ak [] a).B t).B u;cases w with
 |named s n=>
  have K:∀g,(Instr.typeAssert (.iface 260 (.agg #[Zs s,U n])) 240 260 true).run prog g=.ok (.tuple #[.agg #[Zs s,U n],.bool true]) g:=λg=>by kernel_rfl
  obtain⟨M,y,a1,a5,b1,a0,O,a2,r⟩:=B;have C:=(r.bQ.F (q (.cells #[U 0,U 0,.slice none 0 0,.bool false] 247) (.cells #[Zs s,U n] 260))).aq;obtain⟨v,N,⟨j,h,l,m,z,k,rfl⟩,a4⟩:=uG (P:=prog) (T:=164) (kt:=9) (et:=247) (d:=.string) (k:=Zs s) (by kernel_rfl) (by kernel_rfl) trivial (C.a5 (i:=4) (R:=y) rfl) r.hh (z:=.agg #[U 0,U 0,.slice none 0 0,.bool false]) (by kernel_rfl) ⟨_,_,_,_,_,_,rfl⟩ false;have x:=r.bQ.a5 (i:=0) (R:=b) rfl;have S:a.cell? (Zd b 2)=some (.map (some y)):=aU x rfl;have E:=ap x;clear r C x;dsimp only[bj];go_in;go_wp2;go_region;go_wp2;exact bodyPost_ret (v:=.agg #[U j,U h,.slice l m z,.bool k]) (by simp[results,results210,go_sem]) rfl ⟨⟨j,h,l,m,z,k,rfl⟩,(q _ _).aq⟩
 |plain o=>
  have K:∀g,(Instr.typeAssert (.iface 372 (.agg #[U o])) 240 260 true).run prog g=.ok (.tuple #[.agg #[.string ⟨#[]⟩,U 0],.bool false]) g:=λg=>by kernel_rfl
  have b0:∀g,(Instr.typeAssert (.iface 372 (.agg #[U o])) 240 372 true).run prog g=.ok (.tuple #[.agg #[U o],.bool true]) g:=λg=>by kernel_rfl
  clear B;dsimp only[bj];go_in;go_wp2_with fail;refine(xL o _).mono ?_;rintro A L ⟨⟨j,h,l,m,z,k,rfl⟩,kw⟩;have p:L.heap[a.heap.size]? = some (.cells #[U 0,U 0,.slice none 0 0,.bool false] 247):=
   (kw.G _ (by simp;omega) (by simp)).trans ((Below.heap_alloc _ _ _ (by simp)).trans (aS rfl))
  obtain⟨a6,a7,a8,a9,a3⟩:=gC p;have E:=ap p;obtain⟨G,H,I,J,_⟩:=gC (yf (k':=U j) (t':=U h) (n':=.slice l m z) (a':=.bool k) p);have D:=Z ((((((q _ _).u kw).b2 (p:=⟨a.heap.size,0,none⟩) (Y4 _) (U j)).b2 (p:=⟨a.heap.size,1,none⟩) (Y4 _) (U h)).b2 (p:=⟨a.heap.size,2,none⟩) (Y4 _) (.slice l m z)).b2 (p:=⟨a.heap.size,3,none⟩) (Y4 _) (.bool k));clear kw p q;go_wp2;exact bodyPost_ret (v:=.agg #[U j,U h,.slice l m z,.bool k]) (by simp[results,results210,go_sem,G,H,I,J]) rfl ⟨⟨j,h,l,m,z,k,rfl⟩,D.j⟩
 |_=>exact absurd F id
end
section
variable {e f j n i : Nat} {g s : Zv} {r : Zl} {b : List (Nat × Zb)} {l m : Obj} {R : List Th} {q h o : Zw}
def kZ.g9(d:kZ e f j g s r b l m n R q h)(I:i<n):∃c k,g=.slice (some ⟨c,0,none⟩) n k/\n<=k/\h.frozen? ⟨c,i,none⟩=false/\(∃B,h.cell? (Zd c i)=some B)/\c<h.heap.size/\∀v,kZ e f j g s (r.set i v) b l m n R q (h.setCell ⟨c,i,none⟩ v):=by
 have A:=d.bQ.bq (i:=1) (a:=.row 273 1 g r.length r) rfl;obtain rfl:=d.a2;obtain⟨F,z⟩:=A;rcases z with⟨rfl,E⟩|⟨c,k,t,rfl,x,o,u,y,G,H⟩
 .omega
 .refine⟨c,k,rfl,u,by simp[World.frozen?,o],⟨t[i]'(by omega),by simp[World.cell?,o]⟩,ap o,λv=>?_⟩;have C:=d.bQ.bR (i:=1) (a':=.row 273 1 (.slice (some ⟨c,0,none⟩) r.length k) r.length (r.set i v)) rfl ((ak [c] h).ay (p:=⟨c,i,none⟩) (by simp) v) (by simp[Th.ba,Value.ownBlock]) ⟨by simp,Ya ⟨c,k,t.setIfInBounds i v,rfl,x,bu o v,u,y,by grind,by simp only[YF,Array.toList_setIfInBounds];rw[List.take_set];grind⟩⟩ (λD w=>Y8 w);exact⟨by grind,by simp,d.bp,d.call,d.hy,d.g7,d.hh⟩
def JM(H:Cw e n R q h):Calls prog 79 #[Zp e] h λG o=>G=.returned (.tuple #[])/\Cw e n R q o:=by
 obtain⟨f,j,g,s,r,b,l,m,u⟩:=H;have w:=u.bQ.a5 (i:=0) (R:=e) rfl;have b0:h.cell? (Zd e 3)=some s:=aU w rfl;have c0:=ap w;have a4:∀(v:Zw) (t:Zl),kZ e f j g s t b l m n R q v->∀(p:Nat) (I:p<b.length),∃y C,s=.slice (some ⟨y,0,none⟩) b.length C/\b.length<=C/\v.cell? ⟨y,p*2,none⟩=some (U b[p].1)/\v.cell? ⟨y,p*2+1,none⟩=some (.string ⟨b[p].2.toArray⟩):=by
  intro v t u p I;have K:=u.bQ.bq (i:=2) (a:=.row 269 2 s b.length (b.flatMap kE)) rfl;obtain⟨e2,K⟩:=K;rcases K with⟨_,c8⟩|⟨y,C,b1,G,_,a2,b2,c9,d0,d1⟩
  .omega
  .have b6:=iS (c:=kE) (n:=2) (λ_=>rfl) b p;have a5:b1.toList.take (b.flatMap kE).length=b.flatMap kE:=by simp_all
   refine⟨y,C,G,b2,bJ a2 a5 ?_,bJ a2 a5 ?_⟩
   .have:=b6 0 I (by omega);simp_all
   simp_all
 have N:=Z a4;have M:=Z u.call;have d5:b.length<=1000000000000:=Yz u.hy u.bp;obtain⟨a6,E,rfl⟩:=ce (u.bQ.bq (i:=2) (a:=.row 269 2 s b.length (b.flatMap kE)) rfl);have a9:ac (∃t,kZ e f j g (.slice a6 b.length E) t b l m n R q h):=⟨r,u⟩;clear u a4 w;go_in;go_wp2;go_loopw [9] (λi c1=>∃p:Nat,i=U p/\p<=b.length/\ac (∃t,kZ e f j g (.slice a6 b.length E) t b l m n R q c1)) (λi _=>b.length-(intOf i).toNat)
 case atStart=>grind
 case round=>
  obtain⟨p,rfl,I,F⟩:=hrel;clear a9 b0 c0;rcases Yj p b.length with J|e1
  .obtain⟨t,x⟩:=F.j;obtain⟨a0,c4,b9,d3,e5,e6⟩:=N.j _ _ x p J;cases b9
   have b5:=M.j _ (Yy J);have b7:p+1<=b.length:=J;have w:=x.bQ.a5 (i:=0) (R:=e) rfl;have c5:wr.cell? (Zd e 0)=some g:=aU w rfl;have c6:wr.cell? (Zd e 1)=some (.map (some f)):=aU w rfl;have c7:=ap w;generalize b[p].1=B at *
   generalize b[p].2=D at *
   have A:kZ e f j g (.slice (some ⟨a0,0,none⟩) b.length E) t b l m n R q (wr.alloc (.cells #[U B,Zs D] 269)).drew:={ x with bQ:=(x.bQ.F ((ak [] wr).B _)).aq };obtain⟨v,c3,⟨c2,rfl⟩,e3⟩:=uG (P:=prog) (T:=103) (kt:=9) (et:=3) (d:=.string) (k:=Zs D) (by kernel_rfl) (by kernel_rfl) trivial (A.bQ.a5 (i:=3) (R:=f) rfl) A.g7 (z:=U 0) (by kernel_rfl) ⟨_,rfl⟩ false;obtain⟨a1,S,rfl,d4,d6,⟨e7,e4⟩,d7,O⟩:=A.g9 (i:=B) b5;have b3:=Z (λv=>(⟨_,O v⟩:∃t,kZ e f j (.slice (some ⟨a1,0,none⟩) n S) (.slice (some ⟨a0,0,none⟩) b.length E) t b l m n R q _));have d8:(0:Int)<=↑p:=by omega
   have d9:(↑p:Int) < ↑b.length:=by omega
   have e0:(↑B:Int) < ↑n:=by omega
   clear F x A O N M w;go_wp2_with fail;refine cx (λo=>o.cell? (Zd e 0)=some (.slice (some ⟨a1,0,none⟩) n S)/\o.cell? (Zd e 1)=some (.map (some f))/\o.cell? (Zd wr.heap.size 0)=some (U B)/\o.cell? (Zd wr.heap.size 1)=some (Zs D)/\(Instr.lookup 103 (.map (some f)) (Zs D) false).run prog o=.ok (U c2) o) (L:=16) (by kernel_rfl) rfl (by kernel_rfl) (by kernel_rfl) ?_ (λd2=>?_)
   .go_keep
   refine bH [0,1,2,3,4,5,6,7,8,9,10,11,12,13,14,15] ?_;iterate 16 (refine bK (v:=?_) rfl (by kernel_rfl) (λ_ _ _ H=>H) (by rfl) (by assumption) ?_ ?_;rotate_left;focus (intro h b4;(try dsimp only at b4);go_simp;(try with_reducible rfl));(try simp only[aJ,aK,List.set]))
   refine bI ?_;refine cR (by kernel_rfl) rfl λa8 a3=>?_;go_simp;refine a3.out _ _ ?_;clear a3 a8;(try simp only[aJ,aK,List.set]);go_wp2;exact⟨⟨p+1,by rfl,b7,b3.j _⟩,by simp[intOf];omega⟩
  .have b8:p=b.length:=by omega
   subst b8;go_wp2;go_end0;obtain⟨t,a7⟩:=F.j;exact⟨rfl,f,j,g,_,t,b,l,m,a7⟩
end
abbrev sy(a:Zv):Obj:=.cells #[U (-2147483648),U 2147483647,a,.bool false] 247
abbrev sA:Obj:=.cells #[U 0,U 0,.slice none 0 0,.bool false] 247
def Es(d:Zw)(a:Ending)(e:Zw):Prop:=(∃(c b:Int) (g:Option Addr) (h i:Nat) (f:Bool),a=.returned (.agg #[U c,U b,.slice g h i,.bool f]))/\am [] d e
def Ko{u:Zw}{G:Zo}{w a8:Nat}{t:Zb}{d:List (Zb×Nat×Int)}(c0:dg G w (.enum t a8 d))(s:∀p∈G,u.heap[p.1]? = some p.2) :
  Calls prog 130 #[Zp w] u (Es u):=by
 obtain⟨d7,a4,b7,f4,r,O⟩:=c0;have N:=s _ b7;obtain⟨f6,f7,d5,_⟩:=dJ N;obtain⟨d4,c3,d0,d1,d2⟩:=info_parts AA;have D:ac (∃g,aV [.row 2 1 (.slice none 0 0) 0 g,.obj (u.heap.size+1) (sy (.slice none 0 0)),.obj u.heap.size sA] u ((u.alloc sA).alloc (sy (.slice none 0 0)))):=⟨[],(by simpa using ((tJ u).B sA).B (sy (.slice none 0 0)):aV [.obj (u.heap.size+1) (sy (.slice none 0 0)),.obj u.heap.size sA] u _).cons (ak [] _) ⟨by simp,Y8 ⟨rfl,rfl⟩⟩ (by simp[Th.ba,Value.ownBlock])⟩;have f2:=ap N;have f3:d.length<=1000:=by rcases r with⟨_,J,_⟩|⟨_,_,_,_,⟨_,e6⟩,_⟩<;>omega
 obtain⟨E,F,b6⟩:∃ad x,d7=.slice ad d.length x:=by
  rcases r with⟨y,J,_⟩|⟨i,x,a9,y,_⟩;all_goals simp_all
 subst b6;have a2:∀(v:Zw),am [] u v->∀b (a0:b<d.length),∃i p,E=some ⟨i,0,none⟩/\d.length<=F/\v.cell? (Zd i b)=some (Zp p)/\v.cell? (Zd p 2)=some (U d[b].2.2)/\p<u.heap.size/\u.cell? (Zd p 2)=some (U d[b].2.2):=by
  intro v a3 b a0;have c2:b<a4.length:=by omega
  rcases r with⟨_,J,_⟩|⟨i,x,a9,y,⟨b8,_⟩,P,c9⟩
  .omega
  .cases y
   have c1:=(a3.G _ (ap (s _ P)) (by simp)).trans (s _ P);have q:=s _ (O b a0 c2);have b9:=(a3.G _ (ap q) (by simp)).trans q;exact⟨i,a4[b],rfl,by omega,bJ c1 c9 (by simp),(dJ b9).2.2.1,ap q,(dJ q).2.2.1⟩
 have a6:=Z a2;clear a2 r O;have e5:((u.alloc sA).alloc (sy (.slice none 0 0))).cell? (Zd w 2)=some (.slice E d.length F):=hU d5 (((ak [] u).B _).B _);go_in;go_wp2;go_loopw [12] (λb e3=>∃(c:Nat) (l:Zv),b=U c/\c<=d.length/\ac (∃g,aV [.row 2 1 l c g,.obj (u.heap.size+1) (sy l),.obj u.heap.size sA] u e3)) (λb _=>d.length-(intOf b).toNat)
 case atStart=>exact⟨0,_,rfl,by omega,D⟩
 case round=>
  obtain⟨c,l,rfl,e9,e⟩:=hrel;clear D;obtain⟨g,e⟩:=e.j;have e:=Z e;have m:=e.j.a5 (i:=1) (R:=u.heap.size+1) rfl;rcases Yj c d.length with c7|e8
  .obtain⟨i,p,b5,b8,f8,f9,g0,e2⟩:=a6.j _ e.j.fr c c7;subst b5;obtain⟨ad,h,rfl⟩:=ce (e.j.bq (i:=0) (a:=.row 2 1 l c g) rfl);obtain⟨b0,b1,b2,b3,b4⟩:=gC m;generalize d[c].2.2=B at *
   have f0:(0:Int)<=↑c:=by omega
   have f1:(↑c:Int) < ↑d.length:=by omega
   have c5:c+1<=maxLen:=by unfold maxLen;omega
   have c6:(c+1)*8<=140737488355328:=by omega
   have d3:(U 0).cells.size=1:=rfl;have f5:u.heap.size<=wr.heap.size:=e.j.fr.ar;have nc:u.heap.size+1<wr.heap.size:=ap m;clear m;go_wp2_with fail;refine cx (λa5=>a5.cell? ⟨u.heap.size+1,2,none⟩=some (.slice ad c h)/\a5.cell? (Zd p 2)=some (U B)) (L:=9) (by kernel_rfl) rfl (by kernel_rfl) (by kernel_rfl) ?_ (λK=>?_)
   .go_keep
   refine bH [0,1,2,3,4,5] ?_;iterate 6 (refine bK (v:=?_) rfl (by kernel_rfl) (λ_ _ _ z=>z) (by rfl) (by assumption) ?_ ?_;rotate_left;focus (intro e4 A;(try dsimp only at A);go_simp;(try with_reducible rfl));(try simp only[aJ,aK,List.set]))
   refine bI ?_;refine bF 6 (by kernel_rfl) rfl λk f=>?_;go_simp;refine f.out _ _ ?_ (λK=>?_)
   .go_keep
   clear f k;(try simp only[aJ,aK,List.set]);refine bF 7 (by kernel_rfl) rfl λk f=>?_;(refine step_append_lies _ (by rfl) _ _ _ (by rfl) 0 2 d4 _ 1 8 underlying245 c3 d0 d1 d2 d3 (by omega) (.slice ad c h) c g (by rfl) (bi (e.j.bq (i:=0) (a:=.row 2 1 (.slice ad c h) c g) rfl) (((ak [] wr).B _).aq) (by simp)) ⟨wr.heap.size,0,none⟩ 1 1 [U B] (by rfl) (by rfl) (World.news_of_block (cs:=#[U B]) (t:=2) (fr:=(0,0)) (heap_alloc_new wr _)) (by simp[Value.oneCell']) (by omega) c5 c6 (by simp) (wr.heap.size+1) (by simp) ?_;intro I H g6 a1 S M c8;have n:=Z (e.j.bo (i:=0) rfl (((ak [] wr).B _).aq) a1 S M (by simp));have C:=n.j.a5 (i:=1) (R:=u.heap.size+1) rfl;obtain⟨g7,g8,g9,h0,h2⟩:=gC C;have h3:=ap C;have h1:=hU e2 n.j.fr;clear C a1 S M c8);refine f.out _ _ ?_ (λK=>?_)
   .go_keep
   clear f k;(try simp only[aJ,aK,List.set]);refine tk (i:=8) (v:=?_) rfl (by kernel_rfl) (λ_ _ _ z=>z) (by rfl) (by assumption) ?_ ?_;rotate_left
   .intro e4 A;(try dsimp only at A);go_simp;(try with_reducible rfl)
   (try simp only[aJ,aK,List.set]);refine cR (by kernel_rfl) rfl λk f=>?_;go_simp;refine f.out _ _ ?_;clear f k;(try simp only[aJ,aK,List.set]);have a7:=Z (n.j.a9 (i:=1) (j:=2) rfl (.slice (some ⟨I,0,none⟩) (c+1) H));clear n;go_wp2;exact⟨⟨c+1,.slice (some ⟨I,0,none⟩) (c+1) H,by rfl,by omega,_,a7.j⟩,by simp[intOf];omega⟩
  .have c4:c=d.length:=by omega
   subst c4;obtain⟨ad,h,rfl⟩:=ce (e.j.bq (i:=0) (a:=.row 2 1 l d.length g) rfl);obtain⟨b0,b1,b2,b3,b4⟩:=gC m;have o:=e.j.a5 (i:=2) (R:=u.heap.size) rfl;obtain⟨g1,g2,g3,g4,g5⟩:=gC o;have e7:=ap o;obtain⟨d8,d9,e0,e1,_⟩:=gC (yf (k':=U (-2147483648)) (t':=U 2147483647) (n':=.slice ad d.length h) (a':=.bool false) o);have d6:=Z ((((e.j.fr.b2 (p:=⟨u.heap.size,0,none⟩) (Y4 _) (U (-2147483648))).b2 (p:=⟨u.heap.size,1,none⟩) (Y4 _) (U 2147483647)).b2 (p:=⟨u.heap.size,2,none⟩) (Y4 _) (.slice ad d.length h)).b2 (p:=⟨u.heap.size,3,none⟩) (Y4 _) (.bool false));clear e o m;go_wp2;exact bodyPost_ret (v:=.agg #[U (-2147483648),U 2147483647,.slice ad d.length h,.bool false]) (by simp[results,results130,go_sem,d8,d9,e0,e1]) rfl ⟨⟨_,_,_,_,_,_,rfl⟩,d6.j⟩
section
variable {c:Option Addr->Obj}{m:Zv}
section
variable {h n i : Nat} {f : List Th} {g b q l o : Zw} {a a' : Th}
def Cw.i0{d:List Nat}(r:Cw h n f g b)(v:f[i]? = some a)(w:am d b q)(s:∀c∈d,a.ba=some c)(t:a'.At q)(u:∀c,a'.ba=some c->a.ba=some c\/b.heap.size<=c):Cw h n (f.set i a') g q:=by
 obtain⟨j,k,o,x,y,m,l,p,e⟩:=r;exact⟨j,k,o,x,y,m,l,p,{ e with bQ:=e.bQ.bR (i:=i+5) v w s t u }⟩
def Cw.l9{e:TypeId}{size k c a j d:Nat}{v:Zv}{xs p:Zl}(x:Cw h n f g b)(B:f[i]? = some (.row e size v k xs))(C:am [] b l)(D:o.ownsRow 0 e size (.slice (some ⟨a,0,none⟩) c j) c p)(A:l.grownBy o v.ownBlock)(z:v.ownBlock=some a\/a=d)(y:l.heap.size=d):Cw h n (f.set i (.row e size (.slice (some ⟨a,0,none⟩) c j) c p)) g o:=by
 obtain⟨q,r,u,E,F,t,s,w,m⟩:=x;exact⟨q,r,u,E,F,t,s,w,{ m with bQ:=m.bQ.bo (i:=i+5) B C D A z y }⟩
def Cw.nil{e:TypeId}{size:Nat}(o:Cw h n f g b):Cw h n (f++[.row e size (.slice none 0 0) 0 []]) g b:=by
 obtain⟨d,i,l,p,q,k,j,m,c⟩:=o;exact⟨d,i,l,p,q,k,j,m,{ c with bQ:=(c.bQ.cons (a:=.row e size (.slice none 0 0) 0 []) (ak [] b) ⟨by simp,Y8 ⟨rfl,rfl⟩⟩ (by simp[Th.ba,Value.ownBlock])).g6 }⟩
def IW:(prog.info? 3).map (λi=>(i.zero,i.size,i.bytes))=some (some (.int .i64 0),1,8):=by kernel_rfl
abbrev iN(b a:Int)(f:Option Addr)(g h:Nat)(e:Bool)(c:Nat)(d:Option Addr):Obj:=.cells #[.int .i64 b,.int .i64 a,.slice f g h,.bool e,.map (some c),.pointer d] 392
abbrev lp(v:Zv)(a:List Nat):Th:=.row 3 1 v a.length (a.map λ(b:Nat)=>Value.int .i64 b)
abbrev pa(b:Option Addr)(d c:Nat)(f:Array UInt8)(e:Int)(a:TypeId)(v:Zv):Obj:=.cells #[.slice b d c,.string ⟨f⟩,.int .i64 e,.iface a v] 363
def lV(h n:Nat)(f:List Th)(g:Zw)(c:Option Addr->Obj)(i e:Nat)(S:List Th)(m:Zv)(b:Zw):Prop:=∃a l j d,n<a/\a<=n+1+4*e/\d.length=e/\(∀k∈d,k<a)/\Mp (.int .i64) (λ_=>True) j/\Cw h a (f++[.obj i j,.obj (i+1) (c l),lp m d]++S) g b
def wa{a:Nat}{c d e f g h:Zv}{k:TypeId}(j:b.heap[a]? = some (.cells #[c,d,e,f,g,h] k)):b.cell? (Zd a 0)=some c/\b.cell? (Zd a 1)=some d/\b.cell? (Zd a 2)=some e/\b.cell? (Zd a 3)=some f/\b.cell? (Zd a 4)=some g/\b.cell? (Zd a 5)=some h/\(∀i,b.frozen? ⟨a,i,none⟩=false)/\a<b.heap.size:=by
 refine⟨?_,?_,?_,?_,?_,?_,?_,ap j⟩<;>simp[World.cell?,World.frozen?,j]
def Cw.l5{c:List Nat}{v:Zv}{S:List Th}{a m:Th}{d p j q:Nat}(r:Cw h n (f++[a,m,lp v c]++S) g b)(w:am [] b l)(x:o.ownsRow 0 3 1 (.slice (some ⟨d,0,none⟩) (c.length+1) p) (c.length+1) ((c.map λ(e:Nat)=>Value.int .i64 e)++[.int .i64 q]))(u:l.grownBy o v.ownBlock)(t:v.ownBlock=some d\/d=j)(s:l.heap.size=j):Cw h n (f++[a,m,lp (.slice (some ⟨d,0,none⟩) (c.length+1) p) (c++[q])]++S) g o:=by
 have y:=r.l9 (i:=f.length+2) (e:=3) (size:=1) (v:=v) (k:=c.length) (xs:=c.map λ(e:Nat)=>Value.int .i64 e) (by simp) w x u t s;simp_all[lp]
def EX{k j:Nat}{S:List Th}{a:Th}(e:lV h n f g c k j S m b)(i:a∈S):a.At b:=by
 obtain⟨u,v,t,l,o,p,q,r,s,d⟩:=e;exact d.at (Ym _ i)
def zl{d k:Nat}{a i:Th}(q:lV h n f g c d k [a,i] m b):lV h n f g c d k [] m b:=by
 obtain⟨o,p,l,j,r,s,t,u,v,e⟩:=q;have e:Cw h o ((f++[.obj d l,.obj (d+1) (c p),lp m j]++[a])++[i]) g b:=by simp_all
 exact⟨o,p,l,j,r,s,t,u,v,by simpa using e.c9.c9⟩
def OB{f:TypeId}{v y:Zv}{a j:Nat}{e:Zl}(g:b.ownsRow 0 f 1 v a e)(k:e[j]? = some y):∃d c,v=.slice (some ⟨d,0,none⟩) a c/\a<=c/\b.cell? (Zd d j)=some y:=by
 obtain⟨i,h⟩:=g;grind [bJ]
def RR{h2:Zo}{h1 j9:Nat}{t:Zb}{g2:aO}{j:List (List Int×aO)}(l6:dg h2 h1 (.union t j9 g2 j))(c3:∀p∈h2,g.heap[p.1]? = some p.2)(n0:Tg g2.H)(j0:∀y∈j,Vt y.2.H)(N:Cw h n f g b)(r7:n+5000<=1000000000000) :
  Calls prog 133 #[Zp h,Zp h1] b (ik h n 4001 f g):=by
 have r5:=jr;obtain⟨h0,c7,l0,q3,d5,i2⟩:=l6;have i0:=c3 _ l0;have g3:=Z (λ(v:Zw) (f8:am [] g v)=>wa ((f8.G _ (ap i0) (by simp)).trans i0));obtain⟨n8,n9,o0,o1,j1,o2,_,_⟩:=g3.j _ N.fr;obtain⟨n7,m1,n3,n4,n5⟩:=info_parts IW;obtain⟨g6,t4,h7⟩:=dG g2.H;have b7:=OP n0 N;rw[h7]at j1 b7;have b7:=Z b7;have j3:=Z N;have j8:=Z j0;clear N j0 h7;go_in;go_wp2_with fail;refine b7.j.mono ?_;rintro s l ⟨⟨B,u,y,w,D,C,rfl⟩,h9⟩;have a5:=((j3.j.F h9).ai (.map #[] 0)).ai (iN B u y w D C l.heap.size none);have n1:(l.alloc (.map #[] 0)).heap.size=l.heap.size+1:=by simp
 rw[n1]at a5;have b3:=Z (iw (T:=392) (y:=.agg #[.int .i64 B,.int .i64 u,.slice y w D,.bool C,.map (some l.heap.size),.pointer none]) a5 (by omega));clear a5 h9 b7;go_wp2_with fail;refine b3.j.mono ?_;rintro s o ⟨rfl,e5⟩;have g8:ac (lV h n f g (iN B u y w D C l.heap.size) l.heap.size 0 [] (.slice none 0 0) o):=⟨n+1,none,_,[],by omega,by omega,rfl,by simp,ow,by simpa[lp]using e5.nil (e:=3) (size:=1)⟩;obtain⟨n8,n9,o0,o1,j1,o2,_,_⟩:=g3.j _ e5.fr;have r4:j.length<=1000:=by rcases d5 with⟨_,f0,_⟩|⟨_,_,_,_,⟨_,f1⟩,_⟩<;>omega
 have i9:∀(v:Zw),am [] g v->∀i (u:i<j.length),∃x E,h0=.slice (some ⟨x,0,none⟩) j.length E/\j.length<=E/\∃z A,v.cell? ⟨x,i*4,none⟩=some (.slice z j[i].1.length A)/\v.cell? ⟨x,i*4+1,none⟩=some (.string ⟨j[i].2.t.toArray⟩)/\v.cell? ⟨x,i*4+2,none⟩=some (.int .i64 j[i].2.m)/\v.cell? ⟨x,i*4+3,none⟩=some (bj j[i].2.H)/\
   j[i].1.length<=1000/\∀(a1:Zw),am [] g a1->∀r (c2:r<j[i].1.length),∃a0,z=some ⟨a0,0,none⟩/\j[i].1.length<=A/\a1.cell? (Zd a0 r)=some (.int .i64 j[i].1[r]):=by
  intro v f8 i u;have m0:i<c7.length:=by omega
  rcases d5 with⟨_,f0,_⟩|⟨x,E,k1,m9,⟨f4,r6⟩,G,d6⟩
  .omega
  .have d2:=(f8.G _ (ap (c3 _ G)) (by simp)).trans (c3 _ G);have d1:=iS (c:=jl) (n:=4) (λ_=>rfl) (j.zip c7) i;have d7:i<(j.zip c7).length:=by simp;omega
   have l3:∃z A,c7[i]=Value.slice z j[i].1.length A/\j[i].1.length<=1000/\∀(a1:Zw),am [] g a1->∀r (c2:r<j[i].1.length),∃a0,z=some ⟨a0,0,none⟩/\j[i].1.length<=A/\a1.cell? (Zd a0 r)=some (.int .i64 j[i].1[r]):=by
    rcases i2 i u m0 with⟨s,k2,_⟩|⟨h6,p5,p6,s,⟨k3,k4⟩,h3,k5⟩
    .exact⟨none,0,by rw[s,k2],by omega,λa1 _ r c2=>by omega⟩
    .refine⟨_,_,s,k4,λa1 n2 r c2=>⟨h6,rfl,k3,?_⟩⟩;exact bJ ((n2.G _ (ap (c3 _ h3)) (by simp)).trans (c3 _ h3)) k5 (by simp)
   obtain⟨z,A,l5,i1,c9⟩:=l3;refine⟨x,E,m9,f4,z,A,bJ d2 d6 ?_,bJ d2 d6 ?_,bJ d2 d6 ?_,bJ d2 d6 ?_,i1,c9⟩
   .have:=d1 0 d7 (by omega);simpa[l5]using this
   .have:=d1 1 d7 (by omega);simpa using this
   .have:=d1 2 d7 (by omega);simpa using this
   .have:=d1 3 d7 (by omega);simpa using this
 obtain⟨p1,p2,f3⟩:∃ad E,h0=.slice ad j.length E:=by
  rcases d5 with⟨s,f0,_⟩|⟨x,E,k1,s,_⟩
  .exact⟨none,0,by rw[s,f0]⟩
  .exact⟨_,_,s⟩
 subst f3;have j7:=Z i9;clear i9 e5 i2 d5 b3;generalize q0:l.heap.size=k at *
 go_wp2_with fail;go_loopw [32,6] (λi m c5=>∃d8:Nat,i=.int .i64 d8/\d8<=j.length/\ac (lV h n f g (iN B u y w D C k) k d8 [] m c5)) (λi _ _=>j.length-(intOf i).toNat)
 case atStart=>exact⟨0,rfl,by omega,g8⟩
 case round=>
  rename Zw=>b2;obtain⟨d8,rfl,i4,g7⟩:=hrel;clear g8;obtain⟨c4,e0,f9,e,k6,h6,l9,d0,f7,H⟩:=g7.j;clear g7;subst l9;rw[YH]at H;obtain⟨K,M,rfl⟩:=ce (H.at (a:=lp _ e) (Ym _ (Y5 _ (Y5 _ Yb))));rcases Yj e.length j.length with i6|q9
  .obtain⟨x,E,f3,f4,z,A,s2,s3,s4,o4,i1,c9⟩:=j7.j _ H.fr e.length i6;cases f3
   obtain⟨S,a2,f1⟩:=dG j[e.length].2.H;have r0:(0:Int)<=↑e.length:=by omega
   have r1:(↑e.length:Int) < ↑j.length:=by omega
   have a5:=H.ai (pa z j[e.length].1.length A j[e.length].2.t.toArray j[e.length].2.m S a2);have b5:=Ft (d:=j[e.length].2) (ca:=z) (cn:=j[e.length].1.length) (cc:=A) (j8.j j[e.length] (Yy i6)) a5 (by omega);rw[f1]at o4 b5;have b5:=Z b5;have j4:=Z c9;have c6:=Z d0;have j6:=Z f7;clear H a5 c9 f1 d0 f7;go_wp2_with fail;refine b5.j.mono ?_;rintro s O ⟨⟨a3,a4,rfl⟩,b0,p8,p9,g5⟩;have R:=g5.ai (.cells #[.int .i64 a3,.int .i64 a4] 394);have b3:=Z (iw (T:=396) (y:=.agg #[.int .i64 0]) R (by omega));clear g5 R b5;go_wp2_with fail;refine b3.j.mono ?_;rintro s P ⟨rfl,b4⟩;have i7:∀g1,(P.alloc g1).ownsRow 0 3 1 (.slice K e.length M) e.length (e.map λ(s:Nat)=>Value.int .i64 s):=λg1=>bi (b4.at (a:=lp (.slice K e.length M) e) (by simp)) ((ak [] P).B g1) (by simp);have m5:e.length+1<=maxLen:=by unfold maxLen;omega
   have m6:(e.length+1)*8<=140737488355328:=by omega
   have n6:(Value.int .i64 0).cells.size=1:=rfl;have b4:Cw h (b0+1) (f++[.obj k f9,.obj (k+1) (iN B u y w D C k e0),lp (.slice K e.length M) e]++[.obj b2.heap.size (pa z j[e.length].1.length A j[e.length].2.t.toArray j[e.length].2.m S a2),.obj O.heap.size (.cells #[.int .i64 a3,.int .i64 a4] 394)]) g P:=by simpa using b4
   have g4:ac (∀(e2 e3:Zw) (x E:Nat),am [] P e2->e3.ownsRow 0 3 1 (.slice (some ⟨x,0,none⟩) (e.length+1) E) (e.length+1) ((e.map λ(s:Nat)=>Value.int .i64 s)++[.int .i64 b0])->e2.grownBy e3 (Value.slice K e.length M).ownBlock->((Value.slice K e.length M).ownBlock=some x\/x=e2.heap.size)->ac (lV h n f g (iN B u y w D C k) k (e.length+1) [.obj b2.heap.size (pa z j[e.length].1.length A j[e.length].2.t.toArray j[e.length].2.m S a2),.obj O.heap.size (.cells #[.int .i64 a3,.int .i64 a4] 394)] (.slice (some ⟨x,0,none⟩) (e.length+1) E) e3)):=by
    intro e2 e3 x E i4 m8 G c8;refine⟨b0+1,e0,f9,e++[b0],by omega,by omega,by simp,?_,j6.j,b4.l5 i4 m8 G c8 rfl⟩;intro s c1;rcases Yn.1 c1 with c1|c1
    .have:=c6.j s c1;omega
    .simp at c1;omega
   clear b3 b4;go_wp2_with (first
    |(at_builtin;refine wpList_append_lies _ (by rfl) _ _ _ (by rfl) 0 3 n7 _ 1 8 underlying24 m1 n3 n4 n5 n6 (by omega) (.slice K e.length M) e.length (e.map λ(s:Nat)=>Value.int .i64 s) (by rfl) (i7 _) ⟨P.heap.size,0,none⟩ 1 1 [.int .i64 b0] (by rfl) (by rfl) (World.news_of_block (cs:=#[.int .i64 b0]) (t:=3) (fr:=(0,0)) (heap_alloc_new P _)) (by simp[Value.oneCell']) (by omega) m5 m6 (by simp) (P.heap.size+1) (by simp) ?_;intro b9 b8 p0 i8 i3 c8 m7;have e6:=g4.j _ p0 b9 b8 ((ak [] P).B _) i8 i3 (by simpa using c8);obtain⟨o5,s5,s6,s7,s8⟩:=gC (EX e6.j (a:=.obj b2.heap.size (pa z j[e.length].1.length A j[e.length].2.t.toArray j[e.length].2.m S a2)) (by simp));clear g4 i7 i8 i3 c8 m7)
    |fail)
   go_loopw [49] (λi c5=>∃r:Nat,i=.int .i64 r/\r<=j[e.length].1.length/\ac (lV h n f g (iN B u y w D C k) k (e.length+1) [.obj b2.heap.size (pa z j[e.length].1.length A j[e.length].2.t.toArray j[e.length].2.m S a2),.obj O.heap.size (.cells #[.int .i64 a3,.int .i64 a4] 394)] (.slice (some ⟨b9,0,none⟩) (e.length+1) b8) c5)) (λi _=>j[e.length].1.length-(intOf i).toNat)
   case atStart=>exact⟨0,rfl,by omega,e6⟩
   case round=>
    obtain⟨r,rfl,c2,I⟩:=hrel;clear e6;obtain⟨g0,e1,d9,e9,e7,e8,a7,a6,a8,F⟩:=I.j;clear I;obtain⟨_,_,_,_,o6,o7,o8,o9⟩:=wa (F.at (a:=.obj (k+1) (iN B u y w D C k e1)) (by simp));rcases Yj r j[e.length].1.length with d3|m4
    .obtain⟨a0,l2,q2,l4⟩:=j4.j _ F.fr r d3;obtain⟨s0,s1⟩:=pc (F.at (a:=.obj O.heap.size (.cells #[.int .i64 a3,.int .i64 a4] 394)) (by simp));have f6:=F.at (a:=.obj k d9) (by simp);obtain⟨b1,o3,h5⟩:=yK f6 a8 j[e.length].1[r] (.agg #[.int .i64 a3,.int .i64 a4]);have J:=F.i0 (i:=f.length) (a:=.obj k d9) (a':=.obj k b1) (by simp) (iu wr k b1) (by simp[Th.ba]) (qW (ap f6) b1) (λx G=>Y8 G);have a9:ac (lV h n f g (iN B u y w D C k) k (e.length+1) [.obj b2.heap.size (pa z j[e.length].1.length A j[e.length].2.t.toArray j[e.length].2.m S a2),.obj O.heap.size (.cells #[.int .i64 a3,.int .i64 a4] 394)] (.slice (some ⟨b9,0,none⟩) (e.length+1) b8) (dC wr k b1)):=⟨g0,e1,b1,e9,e7,e8,a7,a6,h5,by simpa[List.set_append]using J⟩;have m2:(0:Int)<=↑r:=by omega
     have m3:(↑r:Int) < ↑j[e.length].1.length:=by omega
     obtain⟨g9,h8⟩:∃g9,g9=dC wr k b1:=⟨_,rfl⟩;rw[<-h8]at o3 a9;clear h8 F J f6 a8 h5 a6 a7;subst l2;go_wp2;exact⟨⟨r+1,by rfl,by omega,a9⟩,by simp[intOf];omega⟩
    .have f5:r=j[e.length].1.length:=by omega
     subst f5;obtain⟨o5,_,_,_,_⟩:=gC (F.at (a:=.obj b2.heap.size (pa z j[e.length].1.length A j[e.length].2.t.toArray j[e.length].2.m S a2)) (by simp));by_cases d4:j[e.length].1=[]
     .have i5:j[e.length].1.length=0:=by rw[d4];rfl
      have l1:((j[e.length].1.length:Int)==0)=true:=by rw[i5];rfl
      have J:=F.i0 (i:=f.length+1) (a:=.obj (k+1) (iN B u y w D C k e1)) (a':=.obj (k+1) (iN B u y w D C k (some ⟨O.heap.size,0,none⟩))) (by simp) ((ak [k+1] wr).ay (p:=⟨k+1,5,none⟩) (by simp) (Zp O.heap.size)) (by simp[Th.ba]) (bu (i:=5) (F.at (a:=.obj (k+1) (iN B u y w D C k e1)) (by simp)) _) (λx G=>Y8 G);have a9:ac (lV h n f g (iN B u y w D C k) k (e.length+1) [] (.slice (some ⟨b9,0,none⟩) (e.length+1) b8) (wr.setCell ⟨k+1,5,none⟩ (Zp O.heap.size))):=zl ⟨g0,_,d9,e9,e7,e8,a7,a6,a8,by simpa[List.set_append]using J⟩;clear F J d4 i5 a8 a6 a7;go_wp2;exact⟨⟨e.length+1,by rfl,by omega,a9⟩,by simp[intOf];omega⟩
     .have l1:((j[e.length].1.length:Int)==0)=false:=by
       have:j[e.length].1.length≠0:=λs=>d4 (Yv.1 s);simp;omega
      have a9:ac (lV h n f g (iN B u y w D C k) k (e.length+1) [] (.slice (some ⟨b9,0,none⟩) (e.length+1) b8) wr):=zl ⟨g0,_,d9,e9,e7,e8,a7,a6,a8,F⟩;clear F d4 a8 a6 a7;go_wp2;exact⟨⟨e.length+1,by rfl,by omega,a9⟩,by simp[intOf];omega⟩
  .obtain⟨x,E,p3,f4,q6,⟨t5,r8⟩,G,R⟩:=H.aq.g9 (i:=n) k6;obtain⟨s9,t0,t1,t2,o6,o7,o8,o9⟩:=wa (H.at (a:=.obj (k+1) (iN B u y w D C k e0)) (by simp));have r2:(n:Int)<(c4:Int):=by omega
   have q4:decide (e.length<j.length)=false:=by simp;omega
   have R:=Z R;have c6:=Z d0;clear H d0 f7;go_wp2;go_region;go_wp2;go_loopw [74] (λi c5=>∃r:Nat,i=.int .i64 r/\r<=e.length/\ac (Cw h c4 (f++[.obj k f9,.obj (k+1) (iN B u y w D C k e0),lp (.slice K e.length M) e]) g c5)) (λi _=>e.length-(intOf i).toNat)
   case atStart=>exact⟨0,rfl,by omega,Z (R.j _)⟩
   case round=>
    obtain⟨r,rfl,c2,I⟩:=hrel;clear R;rcases Yj r e.length with d3|m4
    .obtain⟨a0,p7,l7,q5,l4⟩:=OB (I.j.at (a:=lp (.slice K e.length M) e) (by simp)) (j:=r) (y:=.int .i64 e[r]) (by simp[d3]);cases l7
     have l8:=c6.j _ (Yy d3);generalize e[r]=h4 at *
     obtain⟨k7,k0,p4,q1,q7,⟨t6,r9⟩,q8,J⟩:=I.j.aq.g9 (i:=h4) l8;have j5:=Z (lr I.j.aq);have k9:=Z J;have m2:(0:Int)<=↑r:=by omega
     have m3:(↑r:Int) < ↑e.length:=by omega
     have r3:(↑h4:Int) < ↑c4:=by omega
     clear I J c6;go_wp2_with fail;refine cx (λq=>q.cell? (Zd h 0)=some (.slice (some ⟨k7,0,none⟩) c4 k0)) (L:=10) (by kernel_rfl) rfl (by kernel_rfl) (by kernel_rfl) ?_ (λk8=>?_)
     .go_keep
     refine bH [0,1,2,3,4,5] ?_;iterate 6 (refine bK (v:=?_) rfl (by kernel_rfl) (λ_ _ _ N=>N) (by rfl) (by assumption) ?_ ?_;rotate_left;focus (intro b f2;(try dsimp only at f2);go_simp;(try with_reducible rfl));(try simp only[aJ,aK,List.set]))
     refine bI ?_;refine bF 6 (by kernel_rfl) rfl λe4 c0=>?_;(go_simp;go_at_call 128;refine j5.j.mono ?_;rintro s t3 ⟨rfl,rfl⟩);refine c0.out _ _ ?_ (λk8=>?_)
     .go_keep
     clear c0 e4;(try simp only[aJ,aK,List.set]);refine bH [7,8,9] ?_;iterate 3 (refine bK (v:=?_) rfl (by kernel_rfl) (λ_ _ _ N=>N) (by rfl) (by assumption) ?_ ?_;rotate_left;focus (intro b f2;(try dsimp only at f2);go_simp;(try with_reducible rfl));(try simp only[aJ,aK,List.set]))
     refine bI ?_;refine cR (by kernel_rfl) rfl λe4 c0=>?_;go_simp;refine c0.out _ _ ?_;clear c0 e4;(try simp only[aJ,aK,List.set]);go_wp2;exact⟨⟨r+1,by rfl,by omega,Z (k9.j _)⟩,by simp[intOf];omega⟩
    .have f5:r=e.length:=by omega
     subst f5;have j2:=I.j;go_wp2;go_end0;exact⟨rfl,c4,by omega,by omega,(Cw.c9 (Cw.c9 (Cw.c9 (by simpa using j2))))⟩
end
end
section
variable {b c i e : Nat} {R : List Th} {f a g : Zw} {h : List (Nat × Obj)}
def Cw.g8(r:Cw b c R f a)(l:Zb)(k:Int):∃e g,a.cell? (Zd b 1)=some (.map (some e))/\(Instr.mapUpdate 103 (.map (some e)) (Zs l) (U k)).run prog a=.ok () (dC a e g)/\Cw b c R f (dC a e g):=by
 obtain⟨e,m,p,w,x,o,y,q,h⟩:=r;have j:=h.bQ.a5 (i:=3) (R:=e) rfl;obtain⟨g,s,t⟩:=uH (P:=prog) (T:=103) (kt:=9) (et:=3) (d:=.string) (k:=Zs l) (v:=U k) (by kernel_rfl) (by kernel_rfl) trivial (yn _) j h.g7 ⟨k,rfl⟩;have n:=h.bQ.bR (i:=3) (a':=.obj e g) rfl (iu a e g) (by simp[Th.ba]) (qW (ap j) g) (λz u=>Y8 u);exact⟨e,g,aU (h.bQ.a5 (i:=0) (R:=b) rfl) rfl,s,e,m,p,w,x,o,g,q,{ h with bQ:=n,g7:=t }⟩
def Cw.l6(r:Cw b c R f a)(l:Zb){v:Zv}(w:zb v):∃e g,a.cell? (Zd b 2)=some (.map (some e))/\(Instr.mapUpdate 164 (.map (some e)) (Zs l) v).run prog a=.ok () (dC a e g)/\Cw b c R f (dC a e g):=by
 obtain⟨m,e,q,x,y,p,o,z,h⟩:=r;have j:=h.bQ.a5 (i:=4) (R:=e) rfl;obtain⟨g,s,t⟩:=uH (P:=prog) (T:=164) (kt:=9) (et:=247) (d:=.string) (k:=Zs l) (v:=v) (by kernel_rfl) (by kernel_rfl) trivial (yn _) j h.hh w;have n:=h.bQ.bR (i:=4) (a':=.obj e g) rfl (iu a e g) (by simp[Th.ba]) (qW (ap j) g) (λA u=>Y8 u);exact⟨e,g,aU (h.bQ.a5 (i:=0) (R:=b) rfl) rfl,s,m,e,q,x,y,p,o,g,{ h with bQ:=n,hh:=t }⟩
theorem Cw.j8(q:Cw b c R f a)(p:Zb):∃(g:Nat) (j h:Int) (n:Option Addr) (o z:Nat) (m:Bool),a.cell? (Zd b 2)=some (.map (some g))/\(Instr.lookup 164 (.map (some g)) (Zs p) false).run prog a=.ok (.agg #[U j,U h,.slice n o z,.bool m]) a:=by
 obtain⟨s,g,w,y,A,u,t,x,l⟩:=q;obtain⟨v,e,⟨j,h,n,o,z,m,rfl⟩,r⟩:=uG (P:=prog) (T:=164) (kt:=9) (et:=247) (d:=.string) (k:=Zs p) (by kernel_rfl) (by kernel_rfl) trivial (l.bQ.a5 (i:=4) (R:=g) rfl) l.hh (z:=.agg #[U 0,U 0,.slice none 0 0,.bool false]) (by kernel_rfl) ⟨_,_,_,_,_,_,rfl⟩ false;exact⟨g,j,h,n,o,z,m,aU (l.bQ.a5 (i:=0) (R:=b) rfl) rfl,r⟩
def Cw.lt(d:Cw b c R f a):b<a.heap.size:=by
 obtain⟨g,h,l,n,o,k,j,m,e⟩:=d;exact ap (e.bQ.a5 (i:=0) (R:=b) rfl)
def Hj{d:aO}(u:dg h e (.typedef d))(J:Vt d.H)(C:∀n∈h,f.heap[n.1]? = some n.2)(j:Cw b c R f a)(a5:c+6000<=1000000000000):Calls prog 76 #[Zp b,.iface 225 (Zp e)] a (ik b c 5000 R f):=by
 have b1:=mz 225 e 157 225 λN=>by kernel_rfl
 have E:=Z u;have F:=Z (lr j);obtain⟨a7,a8,K,_⟩:=dJ (j.e7 (C _ u));obtain⟨G,b5,A⟩:=dG d.H;have m:=vL _ J j (by omega);rw[A]at K m;have m:=Z m;clear j u A;go_in;go_wp2_with fail;refine F.j.mono ?_;rintro q b2 ⟨rfl,rfl⟩;go_wp2_with fail;refine m.j.mono ?_;rintro q b3 ⟨rfl,a9,S,a0,x⟩;go_wp2_with fail;refine(iw (T:=257) (y:=.agg #[]) x (by omega)).mono ?_;rintro q M ⟨rfl,k⟩;have B:bv [] h M.drew:=λn H=>⟨k.e7 (C n H),by simp⟩;have I:=oG (d:=.typedef d) E.j B;have a2:=nQ;have a3:=qK 160 λ_ _ _=>by kernel_rfl
 dsimp only[cA,cU]at I;obtain⟨w,_,O,_,_⟩:=k.g8 d.t c;have a4:=k.lt;have k:=Z k;clear x B;go_wp2_with fail;refine cx (λg=>g.cell? (Zd b 1)=some (.map (some w))) (L:=8) (by kernel_rfl) rfl (by kernel_rfl) (by kernel_rfl) ?_ (λz=>?_)
 .go_keep
 refine bH [0,1,2,3,4,7] ?_;iterate 6 (refine bK (v:=?_) rfl (by kernel_rfl) (λ_ _ _ j=>j) (by rfl) (by assumption) ?_ ?_;rotate_left;focus (intro a r;(try dsimp only at r);go_simp;(try with_reducible rfl));(try simp only[aJ,aK,List.set]))
 refine bI ?_;refine bF 5 (by kernel_rfl) rfl λo l=>?_;(go_simp;go_at_call 327;refine(nP _ _ _).mono ?_;rintro q b4 ⟨rfl,s⟩;obtain⟨D,b0,P,a6,p⟩:=(k.j.aq.F (bh [] s)).g8 d.t c;have a1:=hU z (bh [] s);obtain rfl:w=D:=(by simp_all);have p:=Z p;clear s);refine l.out _ _ ?_ (λz=>?_)
 .go_keep
 clear l o;(try simp only[aJ,aK,List.set]);refine tk (i:=6) (v:=?_) rfl (by kernel_rfl) (λ_ _ _ j=>j) (by rfl) (by assumption) ?_ ?_;rotate_left
 .intro a r;(try dsimp only at r);go_simp;(try with_reducible rfl)
 (try simp only[aJ,aK,List.set]);refine cR (by kernel_rfl) rfl λo l=>?_;go_simp;refine l.out _ _ ?_;clear l o;(try simp only[aJ,aK,List.set]);go_wp2;go_end0;exact⟨rfl,_,by omega,by omega,p.j⟩
def Hi{A:Nat}{n:Zb}{u:List aO}(t:dg h e (.struct n A u))(D:∀M∈u,Vt M.H)(E:∀m∈h,f.heap[m.1]? = some m.2)(j:Cw b c R f a)(a5:c+6000<=1000000000000):Calls prog 76 #[Zp b,.iface 229 (Zp e)] a (ik b c 5000 R f):=by
 have a9:=dZ 229 e 157 225 λz=>by kernel_rfl
 have b0:=dZ 229 e 157 227 λz=>by kernel_rfl
 have b1:=mz 229 e 157 229 λz=>by kernel_rfl
 have G:=Z t;have H:=Z (lr j);have I:=Z (QD t E D j (by omega));clear j t D;go_in;go_wp2_with fail;refine H.j.mono ?_;rintro q b2 ⟨rfl,rfl⟩;go_wp2_with fail;refine I.j.mono ?_;rintro q b3 ⟨rfl,a7,S,a0,x⟩;go_wp2_with fail;refine(iw (T:=257) (y:=.agg #[]) x (by omega)).mono ?_;rintro q N ⟨rfl,k⟩;have C:bv [] h N.drew:=λm J=>⟨k.e7 (E m J),by simp⟩;have K:=oG (d:=.struct n A u) G.j C;have a2:=nQ;have a3:=qK 160 λ_ _ _=>by kernel_rfl
 dsimp only[cA,cU]at K;obtain⟨w,_,O,_,_⟩:=k.g8 n c;have a4:=k.lt;have k:=Z k;clear x C;go_wp2_with fail;refine cx (λg=>g.cell? (Zd b 1)=some (.map (some w))) (L:=8) (by kernel_rfl) rfl (by kernel_rfl) (by kernel_rfl) ?_ (λB=>?_)
 .go_keep
 refine bH [0,1,2,3,4,7] ?_;iterate 6 (refine bK (v:=?_) rfl (by kernel_rfl) (λ_ _ _ j=>j) (by rfl) (by assumption) ?_ ?_;rotate_left;focus (intro a r;(try dsimp only at r);go_simp;(try with_reducible rfl));(try simp only[aJ,aK,List.set]))
 refine bI ?_;refine bF 5 (by kernel_rfl) rfl λo l=>?_;(go_simp;go_at_call 327;refine(nP _ _ _).mono ?_;rintro q b4 ⟨rfl,s⟩;obtain⟨F,a8,P,a6,p⟩:=(k.j.aq.F (bh [] s)).g8 n c;have a1:=hU B (bh [] s);obtain rfl:w=F:=(by simp_all);have p:=Z p;clear s);refine l.out _ _ ?_ (λB=>?_)
 .go_keep
 clear l o;(try simp only[aJ,aK,List.set]);refine tk (i:=6) (v:=?_) rfl (by kernel_rfl) (λ_ _ _ j=>j) (by rfl) (by assumption) ?_ ?_;rotate_left
 .intro a r;(try dsimp only at r);go_simp;(try with_reducible rfl)
 (try simp only[aJ,aK,List.set]);refine cR (by kernel_rfl) rfl λo l=>?_;go_simp;refine l.out _ _ ?_;clear l o;(try simp only[aJ,aK,List.set]);go_wp2;go_end0;exact⟨rfl,_,by omega,by omega,p.j⟩
def Hk{B:Nat}{n:Zb}{x:aO}{r:List (List Int×aO)}(w:dg h e (.union n B x r))(M:Tg x.H)(E:∀P∈r,Vt P.2.H)(F:∀m∈h,f.heap[m.1]? = some m.2)(j:Cw b c R f a)(a7:c+6000<=1000000000000):Calls prog 76 #[Zp b,.iface 231 (Zp e)] a (ik b c 5000 R f):=by
 have b1:=dZ 231 e 157 225 λq=>by kernel_rfl
 have b2:=dZ 231 e 157 227 λq=>by kernel_rfl
 have b3:=dZ 231 e 157 229 λq=>by kernel_rfl
 have b4:=mz 231 e 157 231 λq=>by kernel_rfl
 have H:=Z w;have I:=Z (lr j);have J:=Z (RR w F M E j (by omega));clear j w E;go_in;go_wp2_with fail;refine I.j.mono ?_;rintro s b5 ⟨rfl,rfl⟩;go_wp2_with fail;refine J.j.mono ?_;rintro s b6 ⟨rfl,a9,a1,a2,A⟩;go_wp2_with fail;refine(iw (T:=257) (y:=.agg #[]) A (by omega)).mono ?_;rintro s O ⟨rfl,k⟩;have D:bv [] h O.drew:=λm K=>⟨k.e7 (F m K),by simp⟩;have N:=oG (d:=.union n B x r) H.j D;have a4:=nQ;have a5:=qK 160 λ_ _ _=>by kernel_rfl
 dsimp only[cA,cU]at N;obtain⟨z,_,S,_,_⟩:=k.g8 n c;have a6:=k.lt;have k:=Z k;clear A D;go_wp2_with fail;refine cx (λg=>g.cell? (Zd b 1)=some (.map (some z))) (L:=8) (by kernel_rfl) rfl (by kernel_rfl) (by kernel_rfl) ?_ (λC=>?_)
 .go_keep
 refine bH [0,1,2,3,4,7] ?_;iterate 6 (refine bK (v:=?_) rfl (by kernel_rfl) (λ_ _ _ j=>j) (by rfl) (by assumption) ?_ ?_;rotate_left;focus (intro a t;(try dsimp only at t);go_simp;(try with_reducible rfl));(try simp only[aJ,aK,List.set]))
 refine bI ?_;refine bF 5 (by kernel_rfl) rfl λo l=>?_;(go_simp;go_at_call 327;refine(nP _ _ _).mono ?_;rintro s b7 ⟨rfl,u⟩;obtain⟨G,b0,a0,a8,p⟩:=(k.j.aq.F (bh [] u)).g8 n c;have a3:=hU C (bh [] u);obtain rfl:z=G:=(by simp_all);have p:=Z p;clear u);refine l.out _ _ ?_ (λC=>?_)
 .go_keep
 clear l o;(try simp only[aJ,aK,List.set]);refine tk (i:=6) (v:=?_) rfl (by kernel_rfl) (λ_ _ _ j=>j) (by rfl) (by assumption) ?_ ?_;rotate_left
 .intro a t;(try dsimp only at t);go_simp;(try with_reducible rfl)
 (try simp only[aJ,aK,List.set]);refine cR (by kernel_rfl) rfl λo l=>?_;go_simp;refine l.out _ _ ?_;clear l o;(try simp only[aJ,aK,List.set]);go_wp2;go_end0;exact⟨rfl,_,by omega,by omega,p.j⟩
def Hg{A:Nat}{l:Zb}{a2:List (Zb×Nat×Int)}(t:dg h e (.enum l A a2))(S:∀r∈h,f.heap[r.1]? = some r.2)(j:Cw b c R f a)(d6:c+6000<=1000000000000):Calls prog 76 #[Zp b,.iface 227 (Zp e)] a (ik b c 5000 R f):=by
 have e2:=dZ 227 e 157 225 λb4=>by kernel_rfl
 have e3:=mz 227 e 157 227 λb4=>by kernel_rfl
 have b1:=Z t;have b2:=Z (lr j);have b5:∃F,f.heap[e]? = some (.cells #[Zs l,U A,F] 253):=by obtain⟨F,d9,d3,_⟩:=t;grind
 obtain⟨F,D⟩:=b5;have x:=Z (λ(v:Zw) (c1:am [] f v)=>(dJ ((c1.G _ (ap D) (by simp)).trans D)).1);have d7:=x.j _ j.fr;obtain⟨w,_,_,_,_,_,_,c9,_⟩:=j.j8 l;have b9:=j.lt;have b3:=Z (Ko (u:=a.drew) t (λr E=>j.e7 (S r E)));have b0:=Z j;clear j t D;go_in;go_wp2_with fail;refine b2.j.mono ?_;rintro s e4 ⟨rfl,rfl⟩;go_wp2_with fail;refine cx (λg=>g.cell? (Zd b 2)=some (.map (some w))/\g.cell? (Zd e 0)=some (Zs l)) (L:=11) (by kernel_rfl) rfl (by kernel_rfl) (by kernel_rfl) ?_ (λq=>?_)
 .go_keep
 refine bH [0,1,2,3,4,5,6,7,8,9] ?_;iterate 10 (refine bK (v:=?_) rfl (by kernel_rfl) (λ_ _ _ j=>j) (by rfl) (by assumption) ?_ ?_;rotate_left;focus (intro a o;(try dsimp only at o);go_simp;(try with_reducible rfl));(try simp only[aJ,aK,List.set]))
 refine bI ?_;refine bF 10 (by kernel_rfl) rfl λm k=>?_;(go_simp;go_at_call 130;refine b3.j.mono ?_;rintro s c4 ⟨⟨c2,b7,c6,H,c7,c5,rfl⟩,B⟩;have y:=b0.j.aq.F B;have e0:=x.j _ y.fr;obtain⟨a9,a3,e1,P,n⟩:=y.l6 l (v:=.agg #[U c2,U b7,.slice c6 H c7,.bool c5]) ⟨_,_,_,_,_,_,rfl⟩;have b6:=hU q.1 B;obtain rfl:w=a9:=(by simp_all);have n:=Z n;clear y B);refine k.out _ _ ?_ (λq=>?_)
 .go_keep
 clear k m;(try simp only[aJ,aK,List.set]);refine cR (by kernel_rfl) rfl λm k=>?_;go_simp;refine k.out _ _ ?_;clear k m;(try simp only[aJ,aK,List.set]);obtain⟨G,a0⟩:∃G,G=dC c4 w a3:=⟨_,rfl⟩;rw[<-a0]at n ⊢;clear P a0;obtain⟨J,a1,O,a5,a6,a7,a4,d1,b8⟩:=n.j.aq.j8 l;have d2:=n.j.lt;have d8:=x.j _ n.j.fr;have K:=Z (iw (T:=247) (y:=.agg #[U a1,U O,.slice a5 a6 a7,.bool a4]) n.j.aq (by omega));clear n;go_wp2_with fail;refine cx (λg=>g.cell? (Zd b 2)=some (.map (some J))/\g.cell? (Zd e 0)=some (Zs l)/\(Instr.lookup 164 (.map (some J)) (Zs l) false).run prog g=.ok (.agg #[U a1,U O,.slice a5 a6 a7,.bool a4]) g) (L:=12) (by kernel_rfl) rfl (by kernel_rfl) (by kernel_rfl) ?_ (λq=>?_)
 .go_keep
 refine bH [0,1,2,3,4,5,6,7,8,9,10,11] ?_;iterate 12 (refine bK (v:=?_) rfl (by kernel_rfl) (λ_ _ _ j=>j) (by rfl) (by assumption) ?_ ?_;rotate_left;focus (intro a o;(try dsimp only at o);go_simp;(try with_reducible rfl));(try simp only[aJ,aK,List.set]))
 refine bI ?_;refine cR (by kernel_rfl) rfl λm k=>?_;(go_simp;go_at_call 131;refine K.j.mono ?_;rintro s e5 ⟨rfl,M⟩);refine k.out _ _ ?_;clear k m;(try simp only[aJ,aK,List.set]);clear K b8;go_wp2_with fail;refine(iw (T:=257) (y:=.agg #[]) M (by omega)).mono ?_;rintro s c3 ⟨rfl,p⟩;have N:bv [] h c3.drew:=λr E=>⟨p.e7 (S r E),by simp⟩;have c0:=oG (d:=.enum l A a2) b1.j N;have d4:=nQ;have d5:=qK 160 λ_ _ _=>by kernel_rfl
 dsimp only[cA,cU]at c0;obtain⟨I,_,c8,_,_⟩:=p.g8 l c;have b9:=p.lt;have p:=Z p;clear M N;go_wp2_with fail;refine cx (λg=>g.cell? (Zd b 1)=some (.map (some I))) (L:=8) (by kernel_rfl) rfl (by kernel_rfl) (by kernel_rfl) ?_ (λq=>?_)
 .go_keep
 refine bH [0,1,2,3,4,7] ?_;iterate 6 (refine bK (v:=?_) rfl (by kernel_rfl) (λ_ _ _ j=>j) (by rfl) (by assumption) ?_ ?_;rotate_left;focus (intro a o;(try dsimp only at o);go_simp;(try with_reducible rfl));(try simp only[aJ,aK,List.set]))
 refine bI ?_;refine bF 5 (by kernel_rfl) rfl λm k=>?_;(go_simp;go_at_call 327;refine(nP _ _ _).mono ?_;rintro s G ⟨rfl,C⟩;obtain⟨a8,a3,d0,P,z⟩:=(p.j.aq.F (bh [] C)).g8 l c;have b6:=hU q (bh [] C);obtain rfl:I=a8:=(by simp_all);have z:=Z z;clear C);refine k.out _ _ ?_ (λq=>?_)
 .go_keep
 clear k m;(try simp only[aJ,aK,List.set]);refine tk (i:=6) (v:=?_) rfl (by kernel_rfl) (λ_ _ _ j=>j) (by rfl) (by assumption) ?_ ?_;rotate_left
 .intro a o;(try dsimp only at o);go_simp;(try with_reducible rfl)
 (try simp only[aJ,aK,List.set]);refine cR (by kernel_rfl) rfl λm k=>?_;go_simp;refine k.out _ _ ?_;clear k m;(try simp only[aJ,aK,List.set]);go_wp2;go_end0;exact⟨rfl,_,by omega,by omega,z.j⟩
def Hf  (g:Cw b c R f a):Calls prog 76 #[Zp b,.iface 223 (Zp e)] a (ik b c 5000 R f):=by
 have k:=dZ 223 e 157 225 λd=>by kernel_rfl
 have l:=dZ 223 e 157 227 λd=>by kernel_rfl
 have m:=dZ 223 e 157 229 λd=>by kernel_rfl
 have n:=dZ 223 e 157 231 λd=>by kernel_rfl
 have i:=Z (lr g);have h:=Z g;clear g;go_in;go_wp2_with fail;refine i.j.mono ?_;rintro j o ⟨rfl,rfl⟩;go_wp2;first
  |(go_end0;exact⟨rfl,c,Y4 _,by omega,h.j⟩)
  |exact bodyPost_ret (v:=.tuple #[]) (by simp[results,results76,go_sem]) rfl ⟨rfl,c,Y4 _,by omega,h.out⟩
def Hh  (g:Cw b c R f a):Calls prog 76 #[Zp b,.iface 233 (Zp e)] a (ik b c 5000 R f):=by
 have k:=dZ 233 e 157 225 λd=>by kernel_rfl
 have l:=dZ 233 e 157 227 λd=>by kernel_rfl
 have m:=dZ 233 e 157 229 λd=>by kernel_rfl
 have n:=dZ 233 e 157 231 λd=>by kernel_rfl
 have i:=Z (lr g);have h:=Z g;clear g;go_in;go_wp2_with fail;refine i.j.mono ?_;rintro j o ⟨rfl,rfl⟩;go_wp2;first
  |(go_end0;exact⟨rfl,c,Y4 _,by omega,h.j⟩)
  |exact bodyPost_ret (v:=.tuple #[]) (by simp[results,results76,go_sem]) rfl ⟨rfl,c,Y4 _,by omega,h.out⟩
def Dg.vt{b:aO}(a:Dg b):Vt b.H:=by
 obtain⟨_,a⟩:=a;cases c:b.H<;>rw[c]at a
 .exact Ya a
 .exact Ya a
 .trivial
 .trivial
 .exact Ya a.1
 .exact Ya a
 .exact Ya a
def He{i:aB}(j:dg h e i)(m:∀d∈h,f.heap[d.1]? = some d.2)(l:Gg i)(g:Cw b c R f a)(k:c+6000<=1000000000000):Calls prog 76 #[Zp b,.iface (cA i) (Zp e)] a (ik b c 5000 R f):=by
 cases i with
 |const n d v=>exact Hf g
 |prog n d x c=>exact Hh g
 |typedef i=>exact Hj j l.vt m g k
 |enum n d s=>exact Hg j m g k
 |struct n d s=>exact Hi j (λr p=>(l.2 r p).vt) m g k
 |union n d w u=>
  refine Hk j l.2.1.2 (λt q=>?_) m g k;rcases(l.2.2 t q).2 with o|o
  .rw[o];exact Y8 rfl
  .exact o.vt
end
section
variable {e n i k S : Nat} {R : List Th} {f b g : Zw} {j : List (Nat × Obj)} {d : TypeDesc} {h : Zv -> Prop}
def Cw.j4(j:Cw e n R f b)(h:Zb):∃(a:Nat) (v:Int) (c:Bool),b.cell? (Zd e 1)=some (.map (some a))/\(Instr.lookup 103 (.map (some a)) (Zs h) true).run prog b=.ok (.tuple #[U v,.bool c]) b:=by
 obtain⟨a,o,r,t,u,q,p,s,g⟩:=j;obtain⟨v,c,⟨m,rfl⟩,l⟩:=uG (P:=prog) (T:=103) (kt:=9) (et:=3) (d:=.string) (k:=Zs h) (by kernel_rfl) (by kernel_rfl) trivial (g.bQ.a5 (i:=3) (R:=a) rfl) g.g7 (z:=U 0) (by kernel_rfl) ⟨_,rfl⟩ true;exact⟨a,m,c,aU (g.bQ.a5 (i:=0) (R:=e) rfl) rfl,l⟩
def jf(e n k:Nat)(R:List Th)(f:Zw)(d:TypeDesc)(h:Zv->Prop)(S:Nat)(T:List Th)(b:Zw):Prop:=∃a c,n<=a/\a<=n+k/\Mp d h c/\Cw e a (R++[.obj S c]++T) f b
def tF{T kt et:TypeId}{x y:Zv}{j:Nat}{g:Obj}{L:List Th}(l:Cw e j (R++[.obj S g]++L) f b)(o:n<=j)(p:j<=n+k)(t:Mp d h g)(v:prog.underlying T=some (.map kt et))(q:prog.underlying kt=some d)(s:IsKey d x)(u:Instr.keyThatStays x x=pure x)(w:h y):∃c,(Instr.mapUpdate T (.map (some S)) x y).run prog b=.ok () (dC b S c)/\jf e n k R f d h S L (dC b S c):=by
 have m:=l.at (a:=.obj S g) (by simp);obtain⟨c,z,A⟩:=uH (P:=prog) v q s u m t w;have B:=l.i0 (i:=R.length) (a:=.obj S g) (a':=.obj S c) (by simp) (iu b S c) (by simp[Th.ba]) (qW (ap m) c) (λC r=>Y8 r);exact⟨c,z,j,c,o,p,A,by simp_all⟩
def jf.a0{l:Nat}{a:List Th}(c:jf e n k R f d h S a b)(q:k<=l):jf e n l R f d h S a b:=by
 obtain⟨o,m,g,p,i,j⟩:=c;exact⟨o,m,g,by omega,i,j⟩
def tB(e n k:Nat)(R:List Th)(f:Zw)(b:Ending)(g:Zw):Prop:=∃S a,b=.returned (.map (some S))/\n<=a/\a<=n+k/\Cw e a R f g
def jf.jI(a:jf e n k R f d h S [] b):tB e n k R f (.returned (.map (some S))) b:=by
 obtain⟨j,m,c,g,l,i⟩:=a;exact⟨S,j,rfl,c,g,Cw.c9 (by simpa using i)⟩
def It{d:aB}(a:Gg d):ef (cU d).1:=by cases d<;>exact a.1
def RK{w:Zv}{c:List aB}{D:List Nat}(c1:iF j w c D)(B:∀C∈j,f.heap[C.1]? = some C.2)(f2:c.length<=100)(c3:∀d∈c,Gg d)(z:Cw e n R f b)(f4:n+1000<=1000000000000) :
  Calls prog 77 #[Zp e,w] b (tB e n 400 R f):=by
 have f1:=jr;have e4:=nQ;obtain⟨f3,K,a1⟩:=c1;have b0:ac (jf e n 0 R f .string tE b.heap.size [] (b.alloc (.map #[] 0))):=⟨n,_,by omega,by omega,ow,by simpa using z.ai (.map #[] 0)⟩;have a0:∀(v:Zw),am [] f v->∀i (c4:i<c.length) (c5:i<D.length),∃o h,w=.slice (some ⟨o,0,none⟩) c.length h/\c.length<=h/\v.cell? (Zd o i)=some (.iface (cA c[i]) (.pointer (some ⟨D[i],0,none⟩))):=by
  intro v d0 i c4 c5;rcases K with⟨_,b4,_⟩|⟨o,h,b2,r,⟨b5,_⟩,a2,c8⟩
  .omega
  .exact⟨o,h,r,b5,bJ ((d0.G _ (ap (B _ a2)) (by simp)).trans (B _ a2)) c8 (by simp_all)⟩
 obtain⟨d7,d8,rfl⟩:∃ad h,w=.slice ad c.length h:=by
  rcases K with⟨r,b4,_⟩|⟨o,h,b2,r,_⟩;all_goals grind
 have a6:=Z a0;have a7:=Z a1;have a9:=Z B;clear a0 K a1 B z;go_in;go_wp2;go_loopw [14] (λi d4=>∃k:Nat,i=U k/\k<=c.length/\ac (jf e n (4*k) R f .string tE b.heap.size [] d4)) (λi _=>c.length-(intOf i).toNat)
 case atStart=>grind
 case round=>
  obtain⟨k,rfl,e6,E⟩:=hrel;clear b0;rcases Yj k c.length with J|e5
  .have a3:k<D.length:=by omega
   obtain⟨a4,d1,b3,d9,A,l⟩:=E.j;clear E;rw[YH]at l;obtain⟨o,h,c2,e3,f6⟩:=a6.j _ l.fr k J a3;cases c2
   have c9:=oG (X:=[]) (a7.j k J a3) (λC c7=>⟨l.e7 (a9.j C c7),by simp⟩);have e7:(0:Int)<=↑k:=by omega
   have e8:(↑k:Int) < ↑c.length:=by omega
   have l:=Z l;go_wp2_with fail;refine(nP _ _ _).mono ?_;rintro r m ⟨rfl,P⟩;have t:=l.j.F (bh [] P);have b9:=It (c3 c[k] (Yy J));generalize (cU c[k]).1=nm at *
   generalize (cU c[k]).2=p at *
   have q:=(t.ai (.cells #[Zs nm,U p] 160)).aq;have f0:=t.lt;have e2:e≠m.heap.size:=by omega
   obtain⟨a5,f7,b1,H,e9⟩:=q.j4 nm;have I:m.cell? (Zd e 1)=some (.map (some a5)):=by
    obtain⟨d6,_,_,I,_⟩:=t.j4 nm;have b6:=(hU I (((ak [] m).B (.cells #[Zs nm,U p] 160)).aq)).symm.trans H;rw[I,b6]
   clear l P c9 t;cases b1 with
   |false=>
    have b8:ac (jf e n (4*(k+1)) R f .string tE b.heap.size [] (m.alloc (.cells #[Zs nm,U p] 160)).drew):=⟨a4,d1,b3,by omega,A,by simpa using q.c9⟩;clear q A H;go_wp2_with fail;go_region;go_wp2;exact⟨⟨k+1,by rfl,by omega,b8⟩,by simp[intOf];omega⟩
   |true=>
    have M:=Z (ym (.named nm p) (Ya b9) q.aq (by omega));have a8:=Z A;clear q A H;go_wp2_with fail;go_region;go_wp2_with fail;refine cx (λg=>g.cell? (Zd m.heap.size 0)=some (Zs nm)/\g.cell? (Zd m.heap.size 1)=some (U p)) (L:=8) (by kernel_rfl) rfl (by kernel_rfl) (by kernel_rfl) ?_ (λb7=>?_)
    .simp
    refine bH [0,1,2,3,4,5,6] ?_;iterate 7 (refine bK (v:=?_) rfl (by kernel_rfl) (λ_ _ _ z=>z) (by rfl) (by assumption) ?_ ?_;rotate_left;focus (intro b c0;(try dsimp only at c0);go_simp;(try with_reducible rfl));(try simp only[aJ,aK,List.set]))
    refine bI ?_;refine bF 7 (by kernel_rfl) rfl λF s=>?_;(go_simp;go_at_call 134;refine M.j.mono ?_;rintro r d5 ⟨rfl,f5,e0,e1,G⟩;obtain⟨f8,f9⟩:=pc (G.at (a:=.obj m.heap.size (.cells #[Zs nm,U p] 160)) (by simp));obtain⟨d2,d3,u⟩:=tF (n:=n) (k:=4*(k+1)) (S:=b.heap.size) (L:=[]) (by simpa using G.c9) (by omega) (by omega) a8.j (T:=103) (kt:=9) (et:=3) (d:=.string) (x:=Zs nm) (y:=U a4) (by kernel_rfl) (by kernel_rfl) trivial (yn _) ⟨_,rfl⟩;obtain⟨N,O⟩:∃N,N=dC d5 b.heap.size d2:=⟨_,rfl⟩;rw[<-O]at d3 u;have u:=Z u;clear G O);refine s.out _ _ ?_ (λb7=>?_)
    .go_keep
    clear s F;(try simp only[aJ,aK,List.set]);refine cR (by kernel_rfl) rfl λF s=>?_;go_simp;refine s.out _ _ ?_;clear s F;(try simp only[aJ,aK,List.set]);clear M;go_wp2;exact⟨⟨k+1,by rfl,by omega,u⟩,by simp[intOf];omega⟩
  .have c6:k=c.length:=by omega
   subst c6;go_wp2;go_ret;exact(E.j.a0 (by omega)).jI
def Sg.vt{c:Ty}(b:Sg c):Vt c:=by
 cases c with
 |arr e n d=>exact b.elim (λa=>nomatch a) (λa=>absurd a id)
 |opt e=>exact b.elim (λa=>nomatch a) (λa=>absurd a id)
 |opaq n d=>trivial
 |str n d=>trivial
 |_=>exact b
def Sf{G:Zv}{v:eg}(M:gG j 446 G v.ag.length (v.ag.flatMap BZ))(O:∀b2∈j,f.heap[b2.1]? = some b2.2)(N:Vg v)(p:Cw e n R f b)(f1:n+100<=1000000000000) :
  Calls prog 212 #[Zp e,.agg #[Zs v.t,U v.m,G,U v.num]] b (tB e n 64 R f):=by
 have f0:=jr;have e5:=wJ;have b5:=Z N;have e2:=N.2.1;have a3:∀(d:Zw),am [] f d->∀i (a5:i<v.ag.length),∃h l,G=.slice (some ⟨h,0,none⟩) v.ag.length l/\v.ag.length<=l/\d.cell? ⟨h,i*5,none⟩=some (.string ⟨v.ag[i].t.toArray⟩)/\d.cell? ⟨h,i*5+1,none⟩=some (U v.ag[i].m)/\d.cell? ⟨h,i*5+2,none⟩=some (bj v.ag[i].c2)/\d.cell? ⟨h,i*5+3,none⟩=some (bj v.ag[i].cF)/\d.cell? ⟨h,i*5+4,none⟩=some (U v.ag[i].num):=by
  intro d H i a5;rcases M with⟨_,c2,_⟩|⟨h,l,b8,A,⟨c3,_⟩,a4,C⟩
  .omega
  .have B:=(H.G _ (ap (O _ a4)) (by simp)).trans (O _ a4);have c5:=iS (c:=BZ) (n:=5) (λ_=>rfl) v.ag i;refine⟨h,l,A,c3,bJ B C ?_,bJ B C ?_,bJ B C ?_,bJ B C ?_,bJ B C ?_⟩
   .have:=c5 0 a5 (by omega);grind
   .simp_all
   .simp_all
   .simp_all
   simp_all
 obtain⟨b9,c0,rfl⟩:∃ad l,G=.slice ad v.ag.length l:=by
  rcases M with⟨A,c2,_⟩|⟨h,l,b8,A,_⟩;all_goals grind
 have b7:ac (jf e n 0 R f (.int .u32) (λ_=>True) (b.heap.size+1) [] ((b.alloc (.cells #[Zs v.t,U v.m,.slice b9 v.ag.length c0,U v.num] 367)).alloc (.map #[] 0))):=⟨n,_,by omega,by omega,ow,by simpa using (p.F ((ak [] b).B _)).ai (.map #[] 0)⟩;have b3:=Z a3;clear a3 M N p O;go_in;go_wp2;go_loopw [12] (λi d2=>∃k:Nat,i=U k/\k<=v.ag.length/\ac (jf e n (8*k) R f (.int .u32) (λ_=>True) (b.heap.size+1) [] d2)) (λi _=>v.ag.length-(intOf i).toNat)
 case atStart=>grind
 case round=>
  obtain⟨k,rfl,e7,I⟩:=hrel;clear b7;rcases Yj k v.ag.length with a7|e6
  .obtain⟨b1,a9,d7,d8,a8,r⟩:=I.j;clear I;rw[YH]at r;obtain⟨h,l,c4,e4,f3,f4,c9,d0,f5⟩:=b3.j _ r.fr k a7;cases c4
   have a6:=b5.j.2.2.1 v.ag[k] (Yy a7);obtain⟨u,D,a0⟩:=dG v.ag[k].c2;obtain⟨w,E,a1⟩:=dG v.ag[k].cF;rw[a0]at c9;rw[a1]at d0;have e8:(0:Int)<=↑k:=by omega
   have e9:(↑k:Int) < ↑v.ag.length:=by omega
   have e3:b.heap.size+1≠wr.heap.size:=by
    have:=ap (r.at (a:=.obj (b.heap.size+1) a9) (by simp));omega
   have P:=Z (r.ai (.cells #[.string ⟨v.ag[k].t.toArray⟩,U v.ag[k].m,.iface u D,.iface w E,U v.ag[k].num] 446)).aq
   have z:=ym _ a6.2.2.1.vt P.j (by omega);rw[a1]at z;have z:=Z z;have o:=λ(d:Zw) b0 (h:b0<=b1+4) (b6:Cw e b0 (R++[.obj (b.heap.size+1) a9]++[.obj wr.heap.size (.cells #[.string ⟨v.ag[k].t.toArray⟩,U v.ag[k].m,.iface u D,.iface w E,U v.ag[k].num] 446)]) f d)=>ym _ a6.2.1.vt b6 (by omega)
   rw[a0]at o;have o:=Z o;have b4:=Z a8;clear r P a8;go_wp2_with fail;refine cx (λg=>g.cell? (Zd wr.heap.size 2)=some (.iface u D)/\g.cell? (Zd wr.heap.size 3)=some (.iface w E)/\g.cell? (Zd wr.heap.size 4)=some (U v.ag[k].num)) (L:=13) (by kernel_rfl) rfl (by kernel_rfl) (by kernel_rfl) ?_ (λa2=>?_)
   .simp
   refine bH [0,1,2,3,4,5,6,8,9,10] ?_;iterate 10 (refine bK (v:=?_) rfl (by kernel_rfl) (λ_ _ _ p=>p) (by rfl) (by assumption) ?_ ?_;rotate_left;focus (intro b K;(try dsimp only at K);go_simp;(try with_reducible rfl));(try simp only[aJ,aK,List.set]))
   refine bI ?_;refine bF 7 (by kernel_rfl) rfl λq m=>?_;(go_simp;go_at_call 134;refine z.j.mono ?_;rintro A f6 ⟨rfl,c7,d9,c1,s⟩;have s:=Z s;have o:=Z (o.j _ _ c1 s.j);obtain⟨d4,d5,d6⟩:=BW (s.j.at (a:=.obj wr.heap.size (.cells #[.string ⟨v.ag[k].t.toArray⟩,U v.ag[k].m,.iface u D,.iface w E,U v.ag[k].num] 446)) (by simp)))
   refine m.out _ _ ?_ (λa2=>?_)
   .go_keep
   clear m q;(try simp only[aJ,aK,List.set]);clear s;refine bF 11 (by kernel_rfl) rfl λq m=>?_;(go_simp;go_at_call 134;refine o.j.mono ?_;rintro A d3 ⟨rfl,f2,e0,e1,J⟩;obtain⟨d4,d5,d6⟩:=BW (J.at (a:=.obj wr.heap.size (.cells #[.string ⟨v.ag[k].t.toArray⟩,U v.ag[k].m,.iface u D,.iface w E,U v.ag[k].num] 446)) (by simp));obtain⟨c8,d1,F⟩:=tF (n:=n) (k:=8*(k+1)) (S:=b.heap.size+1) (L:=[]) (by simpa using J.c9) (by omega) (by omega) b4.j (T:=399) (kt:=218) (et:=429) (x:=.int .u32 (fH v.ag[k].num)) (y:=.agg #[U b1,U c7]) (by kernel_rfl) (by kernel_rfl) rfl (yo _) trivial;obtain⟨d,H⟩:∃d,d=dC d3 (b.heap.size+1) c8:=⟨_,rfl⟩;rw[<-H]at d1 F;have F:=Z F;clear J H)
   refine m.out _ _ ?_ (λa2=>?_)
   .go_keep
   clear m q;(try simp only[aJ,aK,List.set]);refine tk (i:=12) (v:=?_) rfl (by kernel_rfl) (λ_ _ _ p=>p) (by rfl) (by assumption) ?_ ?_;rotate_left
   .intro b K;(try dsimp only at K);go_simp;(try with_reducible rfl)
   (try simp only[aJ,aK,List.set]);refine cR (by kernel_rfl) rfl λq m=>?_;go_simp;refine m.out _ _ ?_;clear m q;(try simp only[aJ,aK,List.set]);clear z o;go_wp2;exact⟨⟨k+1,by rfl,by omega,F⟩,by simp[intOf];omega⟩
  .have c6:k=v.ag.length:=by omega
   subst c6;go_wp2;go_ret;exact(I.j.a0 (by omega)).jI
end
section
variable {f n i k S e : Nat} {g : List Th} {d b h : Zw} {j : List (Nat × Obj)}
abbrev ho(b a:Int)(c:Option Nat):Obj:=.cells #[.int .u32 b,.int .u32 a,.map c] 263
abbrev yJ(a:eg×Zv):Zl:=jY a.1.t a.1.m++[a.2,U a.1.num]
def ze(f n k:Nat)(g:List Th)(d:Zw)(S:Nat)(c a:Int)(b:Zw):Prop:=jf f n k (g++[.obj S (ho 0 0 none)]) d (.int .u32) (λ_=>True) (S+1) [.obj (S+1+1) (ho c a (some (S+1)))] b
def Ep(f n k:Nat)(g:List Th)(d:Zw)(b:Ending)(h:Zw):Prop:=∃(e c:Int) (i:Option Nat) (a:Nat),b=.returned (.agg #[.int .u32 e,.int .u32 c,.map i])/\n<=a/\a<=n+k/\Cw f a g d h
def pY{a c d:Zv}{g:TypeId}(f:b.heap[e]? = some (.cells #[a,c,d] g)):b.cell? (Zd e 0)=some a/\b.cell? (Zd e 1)=some c/\b.cell? (Zd e 2)=some d/\(∀i,b.frozen? ⟨e,i,none⟩=false)/\e<b.heap.size:=by
 refine⟨?_,?_,?_,?_,ap f⟩<;>simp[World.cell?,World.frozen?,f]
def Nj{b4:Nat}{c4:Zb}{l:List eg}{c3:Int}(e6:dg j e (.prog c4 b4 l c3))(B:∀p∈j,d.heap[p.1]? = some p.2)(w:Gg (.prog c4 b4 l c3))(y:Cw f n g d b)(j3:n+500<=1000000000000) :
  Calls prog 135 #[Zp f,Zp e] b (Ep f n 256 g d):=by
 have j1:=jr;have h8:=wJ;obtain⟨f8,u,e5,h7,b8,a7⟩:=e6;obtain⟨_,e8,h9,b9,_⟩:=w;have e9:0<l.length:=YM.2 e8;have a5:=B _ e5;have b6:b.heap[e]? = _:=y.e7 a5;have h5:e<d.heap.size:=ap a5;have j4:d.heap.size<=b.heap.size:=y.fr.ar;obtain⟨q,R,S,rfl,⟨h6,_⟩,w,D⟩:∃q R S,f8=.slice (some ⟨q,0,none⟩) l.length R/\(l.length<=R/\l.length<=1000)/\(q,Obj.cells S 367)∈j/\S.toList.take ((l.zip u).flatMap yJ).length=(l.zip u).flatMap yJ:=by
  rcases b8 with⟨_,g7,_⟩|y;all_goals omega
 have a6:∀(t:Zw),am [] d t->∀i (m:i<l.length) (I:i<u.length),t.cell? ⟨q,i*4,none⟩=some (.string ⟨l[i].t.toArray⟩)/\t.cell? ⟨q,i*4+1,none⟩=some (U l[i].m)/\t.cell? ⟨q,i*4+2,none⟩=some u[i]/\t.cell? ⟨q,i*4+3,none⟩=some (U l[i].num):=by
  intro t F i m I;have H:=(F.G _ (ap (B _ w)) (by simp)).trans (B _ w);have G:=iS (c:=yJ) (n:=4) (λ_=>rfl) (l.zip u) i;have K:i<(l.zip u).length:=by grind
  refine⟨bJ H D ?_,bJ H D ?_,bJ H D ?_,bJ H D ?_⟩
  .have:=G 0 K (by omega);simpa using this
  .have:=G 1 K (by omega);simpa using this
  .have:=G 2 K (by omega);simpa using this
  .have:=G 3 K (by omega);simpa using this
 have b7:∀i (m:i<l.length) (I:i<u.length),∃r s x,u[i]=.slice r s x:=by
  intro i m I;rcases a7 i m I with⟨a0,_⟩|⟨_,_,_,a0,_⟩<;>exact⟨_,_,_,a0⟩
 have i7:q<d.heap.size:=ap (B _ w);obtain⟨d8,d9,e0,e1⟩:=a6 b y.fr 0 e9 (by omega);obtain⟨j5,j6,j7,j8,_⟩:=gC b6;simp only[Nat.zero_mul,Nat.zero_add]at d8 d9 e0 e1;have g9:e<b.heap.size:=by omega
 have i1:q<b.heap.size:=by omega
 have h0:e<b.heap.size+1:=by omega
 have i2:q<b.heap.size+1:=by omega
 have h1:e<b.heap.size+1+1:=by omega
 have i3:q<b.heap.size+1+1:=by omega
 have i4:q≠b.heap.size:=by omega
 have h2:e≠b.heap.size:=by omega
 have i5:q≠b.heap.size+1:=by omega
 have h3:e≠b.heap.size+1:=by omega
 have i6:q≠b.heap.size+1+1:=by omega
 have h4:e≠b.heap.size+1+1:=by omega
 have j2:(0:Int) < ↑l.length:=by omega
 have b2:ac (ze f n 0 g d b.heap.size (fH l[0].num) (fH l[0].num) (((b.alloc (ho 0 0 none)).alloc (.map #[] 0)).alloc (ho (fH l[0].num) (fH l[0].num) (some (b.heap.size+1))))):=⟨n,_,by omega,by omega,ow,by simpa using ((y.ai (ho 0 0 none)).ai (.map #[] 0)).ai (ho (fH l[0].num) (fH l[0].num) (some (b.heap.size+1)))⟩;have c6:=Z a6;have c7:=Z b7;have c8:=Z a7;have d0:=Z b9;have d1:=Z B;clear a6 b7 a7 b9 y B b8 b6 a5 D;go_in;go_wp2;go_loopw [27] (λi f7=>∃(k:Nat) (o m:Int),i=U k/\k<=l.length/\ac (ze f n (64*k) g d b.heap.size o m f7)) (λi _=>l.length-(intOf i).toNat)
 case atStart=>exact⟨0,_,_,rfl,by omega,b2⟩
 case round=>
  obtain⟨k,o,m,rfl,i8,M⟩:=hrel;clear b2;obtain⟨c2,c1,e2,g4,a9,z⟩:=M.j;have b1:=Z (z.at (a:=.obj (b.heap.size+1+1) (ho o m (some (b.heap.size+1)))) (by simp));obtain⟨f9,g0,g1,g2,g3⟩:=pY b1.j;rcases Yj k l.length with J|i0
  .have a8:k<u.length:=by omega
   obtain⟨r,s,x,c0⟩:=c7.j k J a8;obtain⟨j9,k0,f2,k1⟩:=c6.j _ z.fr k J a8;rw[c0]at f2;have b0:=c8.j k J a8;rw[c0]at b0;have i9:(0:Int)<=↑k:=by omega
   have j0:(↑k:Int) < ↑l.length:=by omega
   have g8:b.heap.size+1+1≠wr.heap.size:=by omega
   have b5:=z.i0 (i:=g.length+2) (a:=.obj (b.heap.size+1+1) (ho o m (some (b.heap.size+1)))) (a':=.obj (b.heap.size+1+1) (ho (min o (fH l[k].num)) (max m (fH l[k].num)) (some (b.heap.size+1)))) (by simp) (((ak [b.heap.size+1+1] _).ay (p:=⟨b.heap.size+1+1,0,none⟩) (by simp) (.int .u32 (min o (fH l[k].num)))).ay (p:=⟨b.heap.size+1+1,1,none⟩) (by simp) (.int .u32 (max m (fH l[k].num)))) (by simp[Th.ba]) (bu (i:=1) (bu (i:=0) b1.j _) _) (λq w=>Y8 w);have d7:((wr.setCell ⟨b.heap.size+1+1,0,none⟩ (.int .u32 (min o (fH l[k].num)))).setCell ⟨b.heap.size+1+1,1,none⟩ (.int .u32 (max m (fH l[k].num)))).heap.size=wr.heap.size:=by simp
   have a2:=b5.ai (.cells #[.string ⟨l[k].t.toArray⟩,U l[k].m,.slice r s x,U l[k].num] 367);rw[d7]at a2;have a1:Cw f c2 (g++[.obj b.heap.size (ho 0 0 none),.obj (b.heap.size+1) c1,.obj (b.heap.size+1+1) (ho (min o (fH l[k].num)) (max m (fH l[k].num)) (some (b.heap.size+1))),.obj wr.heap.size (.cells #[.string ⟨l[k].t.toArray⟩,U l[k].m,.slice r s x,U l[k].num] 367)]) d (((wr.setCell ⟨b.heap.size+1+1,0,none⟩ (.int .u32 (min o (fH l[k].num)))).setCell ⟨b.heap.size+1+1,1,none⟩ (.int .u32 (max m (fH l[k].num)))).alloc (.cells #[.string ⟨l[k].t.toArray⟩,U l[k].m,.slice r s x,U l[k].num] 367)):=by simpa[List.set_append]using a2
   have N:=Z a1;have b3:=Z (Sf b0 d1.j (d0.j l[k] (Yy J)) a1.aq (by omega));have c9:=Z a9;clear b5 a1 a2 b0 z a9 M;go_wp2_with fail;refine cx (λh=>h.cell? ⟨b.heap.size+1+1,2,none⟩=some (.map (some (b.heap.size+1)))/\h.cell? (Zd wr.heap.size 0)=some (.string ⟨l[k].t.toArray⟩)/\h.cell? (Zd wr.heap.size 1)=some (U l[k].m)/\h.cell? (Zd wr.heap.size 2)=some (.slice r s x)/\h.cell? (Zd wr.heap.size 3)=some (U l[k].num)) (L:=6) (by kernel_rfl) rfl (by kernel_rfl) (by kernel_rfl) ?_ (λe3=>?_)
   .obtain⟨d3,d4,d5,d6,_⟩:=gC (N.j.at (a:=.obj wr.heap.size (.cells #[.string ⟨l[k].t.toArray⟩,U l[k].m,.slice r s x,U l[k].num] 367)) (by simp));exact⟨(pY (N.j.at (a:=.obj (b.heap.size+1+1) (ho (min o (fH l[k].num)) (max m (fH l[k].num)) (some (b.heap.size+1)))) (by simp))).2.2.1,d3,d4,d5,d6⟩
   refine bH [0,1,2,3,4] ?_;iterate 5 (refine bK (v:=?_) rfl (by kernel_rfl) (λ_ _ _ y=>y) (by rfl) (by assumption) ?_ ?_;rotate_left;focus (intro b e4;(try dsimp only at e4);go_simp;(try with_reducible rfl));(try simp only[aJ,aK,List.set]))
   refine bI ?_;refine bF 5 (by kernel_rfl) rfl λO C=>?_;(go_simp;go_at_call 212;refine b3.j.mono ?_;rintro a0 c5 ⟨d2,f0,rfl,g5,g6,A⟩;obtain⟨k7,k8,k9,l0,_⟩:=gC (A.at (a:=.obj wr.heap.size (.cells #[.string ⟨l[k].t.toArray⟩,U l[k].m,.slice r s x,U l[k].num] 367)) (by simp));obtain⟨l1,l2,l3,l4,l5⟩:=pY (A.at (a:=.obj (b.heap.size+1+1) (ho (min o (fH l[k].num)) (max m (fH l[k].num)) (some (b.heap.size+1)))) (by simp));have A:Cw f f0 ((g++[.obj b.heap.size (ho 0 0 none)]++[.obj (b.heap.size+1) c1]++[.obj (b.heap.size+1+1) (ho (min o (fH l[k].num)) (max m (fH l[k].num)) (some (b.heap.size+1)))])++[.obj wr.heap.size (.cells #[.string ⟨l[k].t.toArray⟩,U l[k].m,.slice r s x,U l[k].num] 367)]) d c5:=(by simpa using A);obtain⟨f1,f3,E⟩:=tF (n:=n) (k:=64*(k+1)) A.c9 (by omega) (by omega) c9.j (T:=261) (kt:=218) (et:=399) (x:=.int .u32 (fH l[k].num)) (y:=.map (some d2)) (by kernel_rfl) (by kernel_rfl) rfl (yo _) trivial;obtain⟨t,F⟩:∃t,t=dC c5 (b.heap.size+1) f1:=⟨_,rfl⟩;rw[<-F]at f3 E;have E:=Z E;clear A F);refine C.out _ _ ?_ (λe3=>?_)
   .go_keep
   clear C O;(try simp only[aJ,aK,List.set]);refine cR (by kernel_rfl) rfl λO C=>?_;go_simp;refine C.out _ _ ?_;clear C O;(try simp only[aJ,aK,List.set]);clear b3 N;go_wp2;exact⟨⟨k+1,_,_,by rfl,by omega,E⟩,by simp[intOf];omega⟩
  .have e7:k=l.length:=by omega
   subst e7;have a3:=z.at (a:=.obj b.heap.size (ho 0 0 none)) (by simp);obtain⟨k2,k3,k4,k5,k6⟩:=pY a3;have a4:=bu (i:=2) (bu (i:=1) (bu (i:=0) a3 (.int .u32 o)) (.int .u32 m)) (.map (some (b.heap.size+1)));obtain⟨f4,f5,f6,_,_⟩:=pY (show _=some (ho o m (some (b.heap.size+1)))from a4);have P:=z.i0 (i:=g.length) (a:=.obj b.heap.size (ho 0 0 none)) (a':=.obj b.heap.size (ho o m (some (b.heap.size+1)))) (by simp) ((((ak [b.heap.size] _).ay (p:=⟨b.heap.size,0,none⟩) (by simp) (.int .u32 o)).ay (p:=⟨b.heap.size,1,none⟩) (by simp) (.int .u32 m)).ay (p:=⟨b.heap.size,2,none⟩) (by simp) (.map (some (b.heap.size+1)))) (by simp[Th.ba]) a4 (λq w=>Y8 w);have P:=Z (Cw.c9 (Cw.c9 (Cw.c9 (by simpa[List.set_append]using P))));clear a3 a4 M z a9;go_wp2;exact bodyPost_ret (v:=.agg #[.int .u32 o,.int .u32 m,.map (some (b.heap.size+1))]) (by simp[results,results135,go_sem,f4,f5,f6]) rfl ⟨o,m,_,c2,rfl,e2,by omega,P.j⟩
def FB{a:aB}(g:∀d c f n,a≠.prog d c f n)(e:Nat)(b:Zw):(Instr.typeAssert (.iface (cA a) (Zp e)) 157 233 true).run prog b=.ok (.tuple #[.pointer none,.bool false]) b:=by
 cases a with
 |prog d c f n=>grind
 |_=>kernel_rfl
def Nk{z:Zv}{a:List aB}{c:List Nat}(c0:iF j z a c)(C:∀a7∈j,d.heap[a7.1]? = some a7.2)(f2:a.length<=100)(a4:∀b5∈a,Gg b5)(A:Cw f n g d b)(f4:n+50000<=1000000000000) :
  Calls prog 78 #[Zp f,z] b (tB f n 25600 g d):=by
 have f1:=jr;have e6:=wJ;obtain⟨f3,M,a2⟩:=c0;have b1:=Z a4;have b3:ac (jf f n 0 g d (.int .u32) (λ_=>True) b.heap.size [] (b.alloc (.map #[] 0))):=⟨n,_,by omega,by omega,ow,by simpa using A.ai (.map #[] 0)⟩;have a1:∀(v:Zw),am [] d v->∀i (c3:i<a.length) (c4:i<c.length),∃m e,z=.slice (some ⟨m,0,none⟩) a.length e/\a.length<=e/\v.cell? (Zd m i)=some (.iface (cA a[i]) (.pointer (some ⟨c[i],0,none⟩))):=by
  intro v N i c3 c4;rcases M with⟨_,b6,_⟩|⟨m,e,b4,p,⟨b7,_⟩,a3,c8⟩
  .omega
  .exact⟨m,e,p,b7,bJ ((N.G _ (ap (C _ a3)) (by simp)).trans (C _ a3)) c8 (by simp_all)⟩
 obtain⟨d7,d8,rfl⟩:∃ad e,z=.slice ad a.length e:=by
  rcases M with⟨p,b6,_⟩|⟨m,e,b4,p,_⟩;all_goals grind
 have a9:=Z a1;have b0:=Z a2;have D:=Z C;clear a1 M a2 C A a4;go_in;go_wp2;go_loopw [12] (λi d4=>∃(k:Nat),i=U k/\k<=a.length/\ac (jf f n (256*k) g d (.int .u32) (λ_=>True) b.heap.size [] d4)) (λi _=>a.length-(intOf i).toNat)
 case atStart=>grind
 case round=>
  obtain⟨k,rfl,e8,o⟩:=hrel;clear b3;rcases Yj k a.length with J|e7
  .have a5:k<c.length:=by omega
   obtain⟨f6,f5,e1,e2,K,s⟩:=o.j;obtain⟨m,e,c2,e5,P⟩:=a9.j _ s.fr k J a5;cases c2
   have e9:(0:Int)<=↑k:=by omega
   have f0:(↑k:Int) < ↑a.length:=by omega
   by_cases a6:∃q t r n,a[k]=.prog q t r n
   .obtain⟨q,f8,r,O,c1⟩:=a6;have B:=b0.j k J a5;have I:=b1.j a[k] (Yy J);rw[c1]at B I P;have c7:=mz 233 (c[k]) 157 233 λG=>by kernel_rfl
    replace P:wr.cell? (Zd m k)=some (.iface 233 (.pointer (some ⟨c[k],0,none⟩))):=P
    have H:∀(v:Zw),am [] d v->v.cell? ⟨c[k],3,none⟩=some (U O):=by
     intro v N;obtain⟨f9,d6,a0,_⟩:=B;exact(gC ((N.G _ (ap (D.j _ a0)) (by simp)).trans (D.j _ a0))).2.2.2.1
    have d9:=H _ s.fr;have a8:=Z H;have R:=Z (Nj B D.j I s.aq (by omega));have b2:=Z K;clear B I H o s K;go_wp2_with fail;refine cx (λh=>h.cell? ⟨c[k],3,none⟩=some (U O)) (L:=9) (by kernel_rfl) rfl (by kernel_rfl) (by kernel_rfl) ?_ (λb8=>?_)
    .go_keep
    refine bH [0,1,2,3,4,5,6,7] ?_;iterate 8 (refine bK (v:=?_) rfl (by kernel_rfl) (λ_ _ _ A=>A) (by rfl) (by assumption) ?_ ?_;rotate_left;focus (intro b b9;(try dsimp only at b9);go_simp;(try with_reducible rfl));(try simp only[aJ,aK,List.set]))
    refine bI ?_;refine bF 8 (by kernel_rfl) rfl λE u=>?_;(go_simp;go_at_call 135;refine R.j.mono ?_;rintro p d5 ⟨d1,d0,d2,f7,rfl,e3,e4,F⟩;have e0:=a8.j _ F.fr;obtain⟨c9,d3,w⟩:=tF (n:=n) (k:=256*(k+1)) F (by omega) (by omega) b2.j (T:=104) (kt:=218) (et:=263) (x:=.int .u32 (fH O)) (y:=.agg #[.int .u32 d1,.int .u32 d0,.map d2]) (by kernel_rfl) (by kernel_rfl) rfl (yo _) trivial;obtain⟨G,S⟩:∃G,G=dC d5 b.heap.size c9:=⟨_,rfl⟩;rw[<-S]at d3 w;have w:=Z w;clear F S);refine u.out _ _ ?_ (λb8=>?_)
    .go_keep
    clear u E;(try simp only[aJ,aK,List.set]);refine cR (by kernel_rfl) rfl λE u=>?_;go_simp;refine u.out _ _ ?_;clear u E;(try simp only[aJ,aK,List.set]);clear R;go_wp2;exact⟨⟨k+1,by rfl,by omega,w⟩,by simp[intOf];omega⟩
   .have c6:∀q t r n,a[k]≠.prog q t r n:=λq t r n p=>a6 ⟨q,t,r,n,p⟩;have c7:=FB c6 c[k];have o:=Z (o.j.a0 (l:=256*(k+1)) (by omega));clear s K;go_wp2;exact⟨⟨k+1,by rfl,by omega,o⟩,by simp[intOf];omega⟩
  .have c5:k=a.length:=by omega
   subst c5;go_wp2;go_ret;exact(o.j.a0 (by omega)).jI
end
abbrev ry(v:Zv)(b a:Option Nat):Obj:=.cells #[v,.map b,.map a] 106
def Eu(c:Zw)(b:Ending)(d:Zw):Prop:=∃e f g S a,b=.returned (.agg #[.slice e f g,.map (some S),.map (some a)])/\am [] c d
def GF(b:Zw):Cw (b.heap.size+3) 0 [.obj b.heap.size (ry (.slice none 0 0) none none)] b ((((b.alloc (ry (.slice none 0 0) none none)).alloc (.map #[] 0)).alloc (.map #[] 0)).alloc (.cells #[.slice none 0 0,.map (some (b.heap.size+1)),.map (some (b.heap.size+2)),.slice none 0 0] 167)):=by
 have c:=((((((tJ b).B (ry (.slice none 0 0) none none)).B (.map #[] 0)).g6.B (.map #[] 0)).g6.g6.cons (a:=.row 269 2 (.slice none 0 0) 0 []) (ak [] _) ⟨by simp,Y8 ⟨rfl,rfl⟩⟩ (by simp[Th.ba,Value.ownBlock])).cons (a:=.row 273 1 (.slice none 0 0) 0 []) (ak [] _) ⟨by simp,Y8 ⟨rfl,rfl⟩⟩ (by simp[Th.ba,Value.ownBlock])).B (.cells #[.slice none 0 0,.map (some (b.heap.size+1)),.map (some (b.heap.size+2)),.slice none 0 0] 167);exact⟨b.heap.size+1,b.heap.size+2,_,_,[],[],_,_,by simpa[tW]using c,rfl,by omega,by simp,by simp,ow,ow⟩
def ER{d:Zw}{H:Zo}{q:Zv}{c:List aB}{s:List Nat}(K:iF H q c s)(r:∀p∈H,d.heap[p.1]? = some p.2)(P:∀a9∈c,Gg a9)(O:c.length<=100) :
  Calls prog 45 #[q] d (Eu d):=by
 have e3:=jr;have A:=Z K;obtain⟨e5,y,L⟩:=K;have t:=Z P;have B:=Z (GF d);have J:∀(v:Zw),am [] d v->∀b (b5:b<c.length) (b6:b<s.length),∃h f,q=.slice (some ⟨h,0,none⟩) c.length f/\c.length<=f/\v.cell? (Zd h b)=some (.iface (cA c[b]) (.pointer (some ⟨s[b],0,none⟩))):=by
  intro v b9 b b5 b6;rcases y with⟨_,b2,_⟩|⟨h,f,a7,g,⟨b3,_⟩,M,b8⟩
  .omega
  .exact⟨h,f,g,b3,bJ ((b9.G _ (ap (r _ M)) (by simp)).trans (r _ M)) b8 (by simp_all)⟩
 obtain⟨d2,d3,rfl⟩:∃ad f,q=.slice ad c.length f:=by
  rcases y with⟨g,b2,_⟩|⟨h,f,a7,g,_⟩;all_goals grind
 have a4:=Z J;have a5:=Z L;have u:=Z r;clear J y L r P;go_in;go_wp2;go_loopw [14] (λb c3=>∃e z:Nat,b=U e/\e<=c.length/\z<=5000*e/\ac (Cw (d.heap.size+3) z [.obj d.heap.size (ry (.slice none 0 0) none none)] d c3)) (λb _=>c.length-(intOf b).toNat)
 case atStart=>exact⟨0,0,rfl,by omega,by omega,B⟩
 case round=>
  obtain⟨e,z,rfl,d9,e4,l⟩:=hrel;clear B;rcases Yj e c.length with x|d8
  .have N:e<s.length:=by omega
   obtain⟨h,f,b4,d7,e8⟩:=a4.j _ l.j.fr e x N;cases b4
   have D:=Z (He (a5.j e x N) u.j (t.j c[e] (Yy x)) l.j (by omega));have e0:(0:Int)<=↑e:=by omega
   have e1:(↑e:Int) < ↑c.length:=by omega
   clear l;go_wp2_with fail;refine D.j.mono ?_;rintro g c4 ⟨rfl,a1,b0,b1,m⟩;have a3:=Z m;clear m D;go_wp2;exact⟨⟨e+1,a1,by rfl,by omega,by omega,a3⟩,by simp[intOf];omega⟩
  .have b7:e=c.length:=by omega
   subst b7;have G:=Z (RK A.j u.j O t.j l.j (by omega));clear l;go_wp2_with fail;refine G.j.mono ?_;rintro g c4 ⟨S,a1,rfl,b0,b1,m⟩;have F:=Z (Nk A.j u.j O t.j m (by omega));clear m G;go_wp2_with fail;refine F.j.mono ?_;rintro g f4 ⟨o,e7,rfl,d5,d6,C⟩;have E:=Z (JM C);clear C F;go_wp2_with fail;refine E.j.mono ?_;rintro g c5 ⟨rfl,n⟩;obtain⟨i,j,k,c9⟩:∃i j k,c5.cell? ⟨d.heap.size+3,0,none⟩=some (.slice i j k):=by
    obtain⟨c6,c7,a8,e6,a2,d1,c8,d4,a0⟩:=n;obtain⟨gV,d0,rfl⟩:=ce (a0.bQ.bq (i:=1) (a:=.row 273 1 a8 a2.length a2) rfl);exact⟨_,_,_,aU (a0.bQ.a5 (i:=0) (R:=d.heap.size+3) rfl) rfl⟩
   have e2:=n.lt;have w:=n.at (a:=.obj d.heap.size (ry (.slice none 0 0) none none)) (by simp);obtain⟨e9,f0,f1,f2,f3⟩:=pY w;have I:=bu (i:=2) (bu (i:=1) (bu (i:=0) w (.slice i j k)) (.map (some S))) (.map (some o));obtain⟨c0,c1,c2,_,_⟩:=pY (show _=some (ry (.slice i j k) (some S) (some o))from I);have a6:=Z (((n.fr.b2 (p:=⟨d.heap.size,0,none⟩) (Y4 _) (.slice i j k)).b2 (p:=⟨d.heap.size,1,none⟩) (Y4 _) (.map (some S))).b2 (p:=⟨d.heap.size,2,none⟩) (Y4 _) (.map (some o)));clear E n w I;go_wp2;exact bodyPost_ret (v:=.agg #[.slice i j k,.map (some S),.map (some o)]) (by simp[results,results45,go_sem,c0,c1,c2]) rfl ⟨_,_,_,_,_,rfl,a6.j⟩
def LG(a:TypeId)(d:Zv)(b:Zw)(c:a=143):(binOp BinOp.neq 20 (.iface a d) .nilIface).run prog b=.ok (.bool true) b:=by subst c;kernel_rfl
def LH(a:Zw):(binOp BinOp.neq 20 .nilIface .nilIface).run prog a=.ok (.bool false) a:=by kernel_rfl
def Ny(f g:Addr)(a:Zw) :
  CallsD prog 42 #[.pointer (some f),.pointer (some g)] .returning a λc h i=>c=.returned (.tuple #[])/\h=.returning/\i=a:=by
 have d:=LH;refine callsD_of_wpS func42 rfl λb j e=>?_;apply wpS_seq;apply wpS_region;simp[wpOpsS,go_sem,recoverD,e,ntmps42,Exit.thenS];apply wpS_seq;apply wpS_region;simp[wpOpsS,go_sem,Exit.thenS,d];refine wpS_cond (t:=false) (by rfl) ?_;simp only[Ye,if_false]
 refine wpS_of_wp (wp_skip ?_);cases b<;>simp_all[bodyPostS,results]
def Nx(b Q c:Nat)(j k:Zv)(e:List PanicEntry)(a:Zw)(p:a.cell? (Zd b 0)=some j)(q:a.cell? (Zd Q 0)=some k)(n:a.frozen? ⟨b,0,none⟩=false)(o:a.frozen? ⟨Q,0,none⟩=false)(r:b≠Q) :
  CallsD prog 42 #[Zp b,Zp Q] (.panicking ({ v:=.iface 143 (Zp c),recovered:=false }::e)) a λd h i=>
   d=.returned (.tuple #[])/\h=.panicking ({ v:=.iface 143 (Zp c),recovered:=true }::e)/\i=(a.setCell ⟨b,0,none⟩ (.pointer none)).setCell ⟨Q,0,none⟩ (.iface 143 (Zp c)):=by
 have f:=LG 143;refine callsD_of_wpS func42 rfl λm l g=>?_;apply wpS_seq;apply wpS_region;simp[wpOpsS,go_sem,recoverD,g,ntmps42,Exit.thenS];apply wpS_seq;apply wpS_region;simp[wpOpsS,go_sem,Exit.thenS,f];refine wpS_cond (t:=true) (by simp_all[Act.eval]) ?_;simp only[if_true]
 refine wpS_of_wp ?_;go_wp2_with fail;refine(Ea c a).mono ?_;rintro d s ⟨rfl,rfl⟩;go_wp2;simp_all[bodyPostS,results]
section
variable {d:Zo}{a:List aB}{b:List Nat}{c:Zv}
def iF.a0{f:Zo}(h:∀k∈d,k∈f)(g:iF d c a b):iF f c a b:=
 ⟨g.a2,g.row.K h,λe i j=>(show iH f (.iface (cA a[e]) (.pointer (some ⟨b[e],0,none⟩))) (some a[e])from nF h ⟨_,rfl,g.dl e i j⟩).elim (λl m=>by simp_all)⟩
def iF.fe(i:iF d c a b):∃f g h,c=.slice f g h:=by
 rcases i.row with⟨e,_⟩|⟨l,j,k,e,_⟩<;>exact⟨_,_,_,e⟩
end
end Go.Proofs.YtjdhaegijjednaaGreatDoor
namespace Go.Proofs.YtjdhaegijjednaaGreatDoor
open Go.RowKit
open Go.Sort Go.Lib
open Mar (bG)
open Go.Proofs.Tryz
section
variable {b:List aB}{l:Zb}{c a:Zw}
def SB (b : aB) (c d : Nat) (a : World) : (method (d + 1) (cA b) (.pointer (some ⟨c, 0, none⟩)) "marshal/tree.words").run Tryz.prog a = .ok (vO b, .pointer (some ⟨c, 0, none⟩)) a := by cases b <;> kernel_rfl
def Sz(b:aB)(args:Array Zv)(a:Zw):(callFunc (vO b) args).run prog a=.ok (.enter (vO b) args) a:=by cases b<;>kernel_rfl
def sw(a:aB):Zb:=bG bt [] (oc a)++[10]
def dL(b:List aB):Zb:=b.flatMap sw
def ML{a:Nat}(c:a<b.length):dL (b.take (a+1))=dL (b.take a)++sw b[a]:=by
 grind [dL,List.take_succ_eq_append_getElem]
def lR(a:Zw)(l:Zb)(c:Zw):Prop:=∃v,ja a.heap.size a.heap.size l v c/\am [] a c
def lR.cE(f:lR a l c):bA a a.heap.size c.heap.size (l,[]) (c.alloc (.cells #[.string ⟨#[]⟩] 9)):=by
 obtain⟨v,⟨⟨j,h,d⟩,i,g⟩,e⟩:=f;have b:=(ak [] c).B (.cells #[.string ⟨#[]⟩] 9);exact⟨v,⟨⟨j,h,(b.G _ (ap d) (by simp)).trans d⟩,bi i b (by simp),Yz g b.ar⟩,aS rfl,e.u b,Y4 _,e.ar⟩
def EE{i:Nat}{h:eY}(b:bA a a.heap.size i h c):∃v,ja a.heap.size a.heap.size h.1 v c/\∀d f g,ja a.heap.size a.heap.size f g d->am (a.heap.size::v.ownBlock.toList) c d->lR a f d:=by
 obtain⟨v,b⟩:=b;refine⟨v,b.bd,λd f g j k=>⟨g,j,b.kp.b4 k (λl e=>Ya ?_)⟩⟩;rcases Yg.1 e with e|e
 .omega
 .exact(hn b.bd.row (by simp_all)).1
def lR.is(g:lR a l c):Lib.IsBuilder 187 5 a.heap.size a.heap.size (Lib.byteCells l) c:=by
 obtain⟨v,b,_⟩:=g;have e:v.ownBlock≠some a.heap.size:=λj=>b.i7 (by simp_all);obtain⟨⟨k,h,d⟩,i,_⟩:=b;have f:c.ownsRow a.heap.size 5 1 v (Lib.byteCells l).length (Lib.byteCells l):=by simpa[Lib.byteCells]using i
 rcases h with rfl|rfl
 .exact Y8 ⟨Y4 _,v,d,f,e⟩
 .exact Ya ⟨Y4 _,v,d,f,e⟩
def Rw{D:Zo}{E:Zv}{p:List Nat}(b0:iF D E b p)(H:∀o∈D,a.heap[o.1]? = some o.2)(b7:gn a)(a8:∀g∈b,ua g)(K:(dL b).length<=he) :
  Calls prog 57 #[E] a λh b8=>h=.returned (.string ⟨(dL b).toArray⟩)/\am [] a b8:=by
 have r:ac (lR a [] (a.alloc (.cells #[.pointer none,.slice none 0 0] 187))):=
  ⟨_,⟨⟨_,Y8 rfl,aS rfl⟩,World.ownsRow_nil _ _ _ _,by simp⟩,(ak [] a).B _⟩
 have s:=Z H;have a1:=Z K;have e:=Z (λa0 (G:lR a (dL b) a0)=>Tryz.Builder_String_any a.heap.size a.heap.size (dL b) a0 G.is (by obtain⟨v,a9,_⟩:=G;exact a9.aY));obtain⟨c7,b4,L⟩:=b0;have a2:=Z L;clear H K L;rcases b4 with⟨rfl,a7,_⟩|⟨F,c1,c2,rfl,⟨c3,c8⟩,M,b6⟩
 .have b3:b=[]:=Yv.1 a7;subst b3;have e:=Z (e.j _ r.j);have I:am [] a (a.alloc (.cells #[.pointer none,.slice none 0 0] 187)):=(ak [] a).B _;have i:=Z I;clear I;go_in;go_wp2_with fail;go_loopw [9] (λm z=>m=U 0/\z=a.alloc (.cells #[.pointer none,.slice none 0 0] 187)) (λ_ _=>0)
  case atStart=>simp
  case round=>
   obtain⟨rfl,rfl⟩:=hrel;go_wp2_with fail;refine e.j.mono ?_;rintro h q ⟨rfl,d⟩;have t:=Z (show am [] a q from⟨d.os.trans i.j.os,d.tape.trans i.j.dX,d.output.trans i.j.dU,Yz i.j.ar d.size,λc f y=>(d.block c f).trans (i.j.G c f y)⟩);clear d e;go_wp2;go_ret;exact⟨rfl,t.j⟩
 .go_in;go_wp2_with fail;go_loopw [9] (λm z=>∃c:Nat,m=U c/\c<=b.length/\ac (lR a (dL (b.take c)) z)) (λm _=>b.length-(RowKit.intOf m).toNat)
  case atStart=>exact⟨0,rfl,by omega,r⟩
  case round=>
   obtain⟨c,rfl,f,k⟩:=hrel;clear r;rcases Yj c b.length with w|c5
   .have b2:c<p.length:=by omega
    have l:am [] a wr:=by obtain⟨v,_,f⟩:=k.j;omega
    have N:=(l.G F (ap (s.j _ M)) (by simp)).trans (s.j _ M);have S:wr.cell? (Zd F c)=some (.iface (cA b[c]) (.pointer (some ⟨p[c],0,none⟩))):=bJ N b6 (by
     simp_all)
    have d0:(0:Int)<=(c:Int):=by omega
    have d1:(c:Int)<(b.length:Int):=by omega
    have a5:=Z (ML w);have n:=a2.j c w b2;have u:=a8 b[c] (Yy w);have c0:ac ((dL (b.take (c+1))).length<=he):=by
     have h:dL b=dL (b.take (c+1))++dL (b.drop (c+1)):=by
      grind [dL,List.take_append_drop]
     have:=a1.j;rw[h,Yq]at this;exact Yz (Nat.le_add_right _ _) this
    clear N l;generalize b[c]=g at S a5 n u;generalize p[c]=o at S n;have c9:=SB g o;have c4:=Sz g;have a6:=Z (show dL (b.take (c+1))=(bc (dL (b.take c),[]) (oc g)).1++[10] by grind [ac.j,sw,bc]);have x:(bc (dL (b.take c),[]) (oc g)).1.length+1<=he:=by
     grind [ac.j]
    have a3:=Z x;have C:=Z (GX k.j.cE b7 s.j g n u (Yz (Nat.le_succ _) x));clear n u x;go_wp2_with fail;refine C.j.mono ?_;rintro h q ⟨rfl,R,b5⟩;obtain⟨d2,d,P⟩:=EE R;have B:=Z (zo d 10 a3.j);have A:=Z P;clear R b5 C d P;go_wp2_with fail;refine B.j.mono ?_;rintro h b9 ⟨⟨d4,rfl⟩,d3,J,O⟩;have a4:ac (lR a (dL (b.take (c+1))) b9):=by
     show lR _ _ _;rw[a6.j];exact A.j _ _ _ J O
    clear J O B A;go_wp2;exact⟨⟨c+1,by rfl,by omega,a4⟩,by simp[RowKit.intOf];omega⟩
   .have b1:c=b.length:=by omega
    subst b1;have c6:¬((b.length:Int)<(b.length:Int)):=by omega
    rw[YG]at k;have e:=Z (e.j _ k.j);have l:am [] a wr:=by obtain⟨v,_,f⟩:=k.j;omega
    have j:=Z l;clear l;go_wp2_with fail;refine e.j.mono ?_;rintro h q ⟨rfl,d⟩;have t:=Z (show am [] a q from⟨d.os.trans j.j.os,d.tape.trans j.j.dX,d.output.trans j.j.dU,Yz j.j.ar d.size,λc f y=>(d.block c f).trans (j.j.G c f y)⟩);clear d e;go_wp2;go_ret;exact⟨rfl,t.j⟩
end
end Go.Proofs.YtjdhaegijjednaaGreatDoor
namespace Go.Proofs.YtjdhaegijjednaaGreatDoor
open Go.RowKit
open Go.MapKept
open Go.Proofs.Tryz
section
variable {b:List aB}{a:Zw}
def qs(a:Zo)(d:Nat)(b:List aB):Prop:=∃c f v S e,(d,Obj.cells #[c,v,.map (some S),.map (some e)] 109)∈a/\iF a c b f
def Et(a:Zw)(b:List aB)(g:Ending)(f:Zw):Prop:=∃d e,g=.returned (.tuple #[Zp d,.nilIface])/\am [] a f/\qs e d b/\∀c∈e,f.heap[c.1]? = some c.2/\a.heap.size<=c.1
def EK{v:Za}(a4:eE v=.ok b)(a3:∀P∈b,Gg P)(C:Gl a):Calls prog 25 #[.string v] a (Et a b):=by
 have b8:=iT;have r:Below a.heap.size a ((a.alloc (.cells #[.pointer none] 53)).alloc (.cells #[.nilIface] 55)):=((Below.refl _ _).alloc (Y4 _) _).alloc (by simp) _;have y:=Z (zk v (C.au r));have a9:=Z a4;have G:((a.alloc (.cells #[.pointer none] 53)).alloc (.cells #[.nilIface] 55)).heap[a.heap.size]? = some (.cells #[.pointer none] 53):=(Below.heap_alloc _ _ _ (by simp)).trans (aS rfl);have I:((a.alloc (.cells #[.pointer none] 53)).alloc (.cells #[.nilIface] 55)).heap[a.heap.size+1]? = some (.cells #[.nilIface] 55):=aS (by simp);clear C;go_enter_defers func25,ntmps25;go_wp2_with fail;refine y.j.mono ?_;rintro A c2 (⟨R,b9,a6,z,F,rfl,D,p,s⟩|⟨a0,F,_⟩);rotate_left
 .simp_all
 obtain rfl:b=R:=by simp_all
 obtain⟨f,g,h,rfl⟩:=p.fe;have x:=Z (ER p (λl n=>(s l n).1) a3 (by grind [Rf]));have N:=Z D;have L:=Z p;have M:=Z s;clear y F p s D;go_wp2_with fail;refine x.j.mono ?_;rintro A c ⟨i,j,k,S,e,rfl,t⟩;have q:=Z (N.j.u t);have O:=Z t;have K:=(q.j.G _ (ap G) (by simp)).trans G;have u:=(q.j.G _ (ap I) (by simp)).trans I;have b0:=bX K;have b2:=bX u;have b4:∀m,c.frozen? ⟨a.heap.size,m,none⟩=false:=by grind [World.frozen?]
 have b6:∀m,c.frozen? ⟨a.heap.size+1,m,none⟩=false:=by grind [World.frozen?]
 have a5:=ap u;clear t x;have a2:ac (∀d o,am [] a (((c.alloc (.cells #[.slice f g h,.slice i j k,.map (some S),.map (some e)] 109)).setCell ⟨a.heap.size,0,none⟩ d).setCell ⟨a.heap.size+1,0,none⟩ o)):=λd o=>(((bh [] r).u q.j |>.B _).b2 (p:=⟨a.heap.size,0,none⟩) (Y4 _) d).b2 (p:=⟨a.heap.size+1,0,none⟩) (by simp) o;clear r;have H:(c.alloc (.cells #[.slice f g h,.slice i j k,.map (some S),.map (some e)] 109)).heap[a.heap.size]? = some (.cells #[.pointer none] 53):=(Below.heap_alloc _ _ _ (by omega)).trans K;have b1:(c.alloc (.cells #[.slice f g h,.slice i j k,.map (some S),.map (some e)] 109)).cell? (Zd a.heap.size 0)=some (.pointer none):=bX H;have b5:∀m,(c.alloc (.cells #[.slice f g h,.slice i j k,.map (some S),.map (some e)] 109)).frozen? ⟨a.heap.size,m,none⟩=false:=by simp_all[World.frozen?]
 have J:∀d,((c.alloc (.cells #[.slice f g h,.slice i j k,.map (some S),.map (some e)] 109)).setCell ⟨a.heap.size,0,none⟩ d).heap[a.heap.size+1]? = some (.cells #[.nilIface] 55):=λd=>(Below.heap_setCell _ _ _ _ (by simp)).trans ((Below.heap_alloc _ _ _ a5).trans u);have b3:∀d,((c.alloc (.cells #[.slice f g h,.slice i j k,.map (some S),.map (some e)] 109)).setCell ⟨a.heap.size,0,none⟩ d).cell? ⟨a.heap.size+1,0,none⟩=some .nilIface:=λd=>bX (J d);have b7:∀d m,((c.alloc (.cells #[.slice f g h,.slice i j k,.map (some S),.map (some e)] 109)).setCell ⟨a.heap.size,0,none⟩ d).frozen? ⟨a.heap.size+1,m,none⟩=false:=by simp_all[World.frozen?]
 have w:ac (qs ((c.heap.size,.cells #[.slice f g h,.slice i j k,.map (some S),.map (some e)] 109)::z) c.heap.size b/\∀d o,∀l∈((c.heap.size,.cells #[.slice f g h,.slice i j k,.map (some S),.map (some e)] 109)::z:Zo),(((c.alloc (.cells #[.slice f g h,.slice i j k,.map (some S),.map (some e)] 109)).setCell ⟨a.heap.size,0,none⟩ d).setCell ⟨a.heap.size+1,0,none⟩ o).heap[l.1]? = some l.2/\a.heap.size<=l.1):=by
  refine⟨⟨_,a6,_,S,e,Yb,L.j.a0 λl n=>Y5 _ n⟩,?_⟩;intro d o l n;rcases Yg.1 n with rfl|n
  .exact⟨(Below.heap_setCell _ _ _ _ (by grind)).trans ((Below.heap_setCell _ _ _ _ (by grind)).trans (aS rfl)),by omega⟩
  .obtain⟨B,a1⟩:=M.j l n;have E:=(O.j.G _ (ap B) (by simp)).trans B;simp at a1;exact⟨(Below.heap_setCell _ _ _ _ (by grind)).trans ((Below.heap_setCell _ _ _ _ (by grind)).trans ((Below.heap_alloc _ _ _ (ap E)).trans E)),by omega⟩
 have a7:(((c.alloc (.cells #[.slice f g h,.slice i j k,.map (some S),.map (some e)] 109)).setCell ⟨a.heap.size,0,none⟩ (Zp c.heap.size)).setCell ⟨a.heap.size+1,0,none⟩ .nilIface).cell? (Zd a.heap.size 0)=some (Zp c.heap.size):=
  bX ((Below.heap_setCell _ _ _ _ (by simp)).trans (bu (i:=0) H _))
 have a8:(((c.alloc (.cells #[.slice f g h,.slice i j k,.map (some S),.map (some e)] 109)).setCell ⟨a.heap.size,0,none⟩ (Zp c.heap.size)).setCell ⟨a.heap.size+1,0,none⟩ .nilIface).cell? ⟨a.heap.size+1,0,none⟩=some .nilIface:=bX (bu (i:=0) (J _) _);go_wp2;refine leaves_cons (f:=42) (args:=#[Zp a.heap.size,.pointer (some ⟨a.heap.size+1,0,none⟩)]) (by simp) (by rfl) ?_;refine(Ny _ _ _).mono ?_;rintro A c0 c1 ⟨rfl,rfl,rfl⟩;simp only[Leaves,settle];refine⟨.tuple #[Zp c.heap.size,.nilIface],by simp[results,results25,go_sem,a7,a8],?_⟩;exact⟨c.heap.size,_,rfl,a2.j _ _,w.j.1,w.j.2 _ _⟩
def EF{h:Zo}{d:Nat}(t:qs h d b)(e:∀q∈h,a.heap[q.1]? = some q.2)(o:gn a)(k:∀s∈b,ua s)(m:(dL b).length<=he) :
  Calls prog 30 #[Zp d] a λc w=>c=.returned (.string ⟨(dL b).toArray⟩)/\am [] a w:=by
 obtain⟨j,z,v,S,x,l,f⟩:=t;have y:a.cell? (Zd d 0)=some j:=bU (e _ l) rfl;have g:=Z (Rw f e o k m);have u:∃ad p i,j=.slice ad p i:=by
  rcases f.row with⟨c,_⟩|⟨_,_,_,c,_⟩;all_goals simp_all
 obtain⟨ad,p,i,rfl⟩:=u;clear f e o k m l;go_in;go_wp2_with fail;refine g.j.mono ?_;rintro c A ⟨rfl,n⟩;have r:=Z n;clear n g;go_wp2;go_ret;exact⟨rfl,r.j⟩
end
end Go.Proofs.YtjdhaegijjednaaGreatDoor
namespace Go.Proofs.YtjdhaegijjednaaGreatDoor
open Go.RowKit
open Go.Proofs.Tryz
section
variable {a i kd p:Nat}
abbrev aA(t:Zb):Za:=⟨t.toArray⟩
structure yW(y:Mar.aT):Prop where
 ev:y.C<=4
 h5:Mar.d2 y.text=true->y.C=2
 nL:∀c,Mar.f0 c=true->y.text=[c]->y.C=4
def Jp:(Mar.h6.all λa=>match a with|c::_::_=>Mar.eh c|_=>false)=true:=by rfl
theorem xi{a:Zb}(d:Mar.d2 a=true):∃b c f,a=b::c::f/\Mar.eh b=true:=by
 have e:a∈Mar.h6:=by simpa[Mar.d2]using d
 have:=List.all_eq_true.1 Jp a e;grind
def Ia{j:Zb}{g:Mar.aT}(b:Mar.c5 j a=.ok g):yW g/\g.m=a:=by
 unfold Mar.c5 at b;split at b
 .cases b
  exact⟨⟨by simp,λb=>(by grind [xi]),λf _ b=>(by grind)⟩,rfl⟩
 .rename_i f t;split at b
  .rename_i k;have i:∀c,Mar.f0 c=true->Mar.a4 (f::t)≠[c]:=λc e d=>by
    grind [Mar.a4,Mar.k6]
   unfold Mar.et at b;split at b
   .cases b
   .split at b
    .cases b;exact⟨⟨by simp,λ_=>rfl,λc e d=>absurd d (i c e)⟩,rfl⟩
    .rename_i h;cases b
     exact⟨⟨by simp,λb=>absurd b h,λc e d=>absurd d (i c e)⟩,rfl⟩
  .split at b
   .rename_i m l;unfold Mar.f1 at b;split at b
    .cases b
     refine⟨⟨by simp,λh=>?_,λc e d=>?_⟩,rfl⟩;all_goals grind [xi,Mar.a4,Mar.k6]
    grind
   .split at b
    .cases b
     exact⟨⟨by simp,λb=>(by grind [xi]),λf _ b=>rfl⟩,rfl⟩
    grind
def Id{c:Zb}{f:Mar.aw}(b:Mar.c5 c a=.error f):f.no≠0/\f.m=a:=by
 unfold Mar.c5 at b;split at b
 .cases b
 .split at b
  .unfold Mar.et at b;grind
  .split at b
   .unfold Mar.f1 at b;grind
   grind
def Wd(c:Except Mar.aw (Mar.aT×Nat))(a:dO):Prop:=match c with
 |.ok (b,p)=>(a.C=b.C/\a.text=b.text/\a.n=b.n/\a.m=b.m/\a.fin=p)/\yW b
 |.error f=>a.C=5/\a.e=f.no/\a.m=f.m/\f.no≠0
def DK(t:Zb)(p:Nat):Wd (kg t p) (fL t p):=by
 unfold kg fL eJ;cases c:Mar.c5 (t.drop (p+Mar.eT (t.drop p))) (p+Mar.eT (t.drop p))with
 |ok d=>
  obtain⟨a,b⟩:=Ia c;exact⟨⟨rfl,rfl,rfl,b.symm,rfl⟩,a⟩
 |error f=>
  obtain⟨a,b⟩:=Id c;exact⟨rfl,rfl,b.symm,a⟩
def dt(b:List bg):Ty->Int->Prop
 |.plain h,i=>i=h/\h<=4
 |.named j a,i=>0<=i/\∃e,b[i.toNat]? = some e/\e.C=14/\e.b0=j/\e.m=a
 |.opaq d f,i=>0<=i/\b[i.toNat]? = some (dY (if f then 6 else 7) d)
 |.str d _,i=>0<=i/\b[i.toNat]? = some (dY 8 d)
 |.arr g d f,i=>0<=i/\∃c,b[i.toNat]? = some (dz (if f then 9 else 10) d c)/\dt b g c
 |.opt g,i=>0<=i/\∃c,b[i.toNat]? = some (dz 11 0 c)/\dt b g c
 |.void,i=>i = -1
def mi{c:Type}{a d:List c}{b:c}(e:a[i]? = some b):(a++d)[i]? = some b:=by
 grind
theorem dt.ca{k:List bg}(l:List bg):∀{e:Ty} {i:Int},dt k e i->dt (k++l) e i:=by
 intro e;induction e with
 |plain d=>intro i b;exact b
 |named o a=>rintro i ⟨c,n,b,d⟩;exact⟨c,n,mi b,d⟩
 |opaq j f=>rintro i ⟨c,b⟩;exact⟨c,mi b⟩
 |str j f=>rintro i ⟨c,b⟩;exact⟨c,mi b⟩
 |arr m j f g=>rintro i ⟨c,h,b,d⟩;exact⟨c,h,mi b,g d⟩
 |opt m g=>rintro i ⟨c,h,b,d⟩;exact⟨c,h,mi b,g d⟩
 |void=>intro i b;exact b
abbrev Nl:=List (Zb×Option aB)
abbrev qH(a:List (Zb×Nat×Int)):bg:=⟨5,0,0,a.map (·.2.2),[],0,[],0⟩
def jG(h:List bg)(g:Nl)(e:Ty)(of:Int):Prop:=
 (∃b,e=.plain b/\(b=0\/b=1\/b=4)/\of=b)\/(∃d a t f c,e=.named d a/\4<of/\aL g d=some (some (.enum t f c))/\h[of.toNat]? = some (qH c))
def dE(b:List (List Int×aO)):List (Int×aO):=b.flatMap λa=>a.1.map λc=>(c,a.2)
def hV(b:List (List Int×aO)):Option aO:=(b.find? λa=>a.1.isEmpty).map (·.2)
def oS(b:List bg)(k:Nl)(e:aB)(i:Int):Prop:=match e with
 |.typedef e=>dt b e.H i/\0<=i
 |.enum _ _ h=>0<=i/\b[i.toNat]? = some (qH h)
 |.struct _ _ h=>0<=i/\∃c:List Int,b[i.toNat]? = some ⟨12,0,0,[],c,0,[],0⟩/\c.length=h.length/\∀(f:Nat) (p:Int) (g:aO),c[f]? = some p->h[f]? = some g->dt b g.H p
 |.union _ _ l d=>0<=i/\∃(of:Int) (c:List Int) (j:Int),b[i.toNat]? = some ⟨13,0,of,(dE d).map (·.1),c,j,[],0⟩/\jG b k l.H of/\
   c.length=(dE d).length/\(∀(f:Nat) (p:Int) (g:Int×aO),c[f]? = some p->(dE d)[f]? = some g->dt b g.2.H p)/\
   (match hV d with
   |none=>j = -2
   |some e=>dt b e.H j)/\∀a∈d,a.1=[]->hV d=some a.2
 |_=>False
def Kp(c d:Nl):Prop:=∀b a,aL c b=some (some a)->aL d b=some (some a)
theorem zc(a:Nl):Kp a a:=λ_ _ b=>b
theorem jG.ca{e:List bg}{c d:Nl}{f:Ty}{of:Int}(b:jG e c f of)(m:List bg)(l:Kp c d):jG (e++m) d f of:=by
 rcases b with b|⟨o,a,t,g,n,h,i,j,k⟩
 .exact Y8 b
 .exact Ya ⟨o,a,t,g,n,h,i,l _ _ j,mi k⟩
theorem oS.ca{r:List bg}{o q:Nl}{d:aB}{i:Int}(c:oS r o d i)(e:List bg)(v:Kp o q):oS (r++e) q d i:=by
 cases d with
 |const a b f=>exact c
 |prog a b f d=>exact c
 |typedef d=>exact⟨c.1.ca e,c.2⟩
 |enum a b f=>exact⟨c.1,mi c.2⟩
 |struct a b f=>
  obtain⟨g,n,h,j,k⟩:=c;exact⟨g,n,mi h,j,λl p m a b=>(k l p m a b).ca e⟩
 |union a b f w=>
  obtain⟨g,of,n,s,h,j,k,t,x,u⟩:=c;refine⟨g,of,n,s,mi h,j.ca e v,k,λl p m a b=>(t l p m a b).ca e,?_,u⟩;grind [dt.ca]
def oM(d:List bg)(c:Nl)(p:Zb×Option aB)(a:dk):Prop:=a.s=p.1/\match p.2 with
 |none=>a.a7=2
 |some (.const _ _ v)=>a.a7=0/\a.n=v
 |some (.prog ..)=>a.a7=2
 |some b=>a.a7=1/\a.m=(cU b).2/\oS d c b a.n
theorem oM.ca{l:List bg}{i j:Nl}{p:Zb×Option aB}{k:dk}(h:oM l i p k)(c:List bg)(g:Kp i j):oM (l++c) j p k:=by
 refine⟨h.1,?_⟩;have b:=h.2;split
 .simp_all
 .simp_all
 .simp_all
 .rename_i f n o m;rw[m]at b;cases f with
  |const a d e=>simp_all
  |prog a d e f=>grind
  |typedef f=>exact⟨b.1,b.2.1,b.2.2.ca c g⟩
  |enum a d e=>exact⟨b.1,b.2.1,b.2.2.ca c g⟩
  |struct a d e=>exact⟨b.1,b.2.1,b.2.2.ca c g⟩
  |union a d e f=>exact⟨b.1,b.2.1,b.2.2.ca c g⟩
structure il(rows:List bg)(nl:Nl)(l:List dk):Prop where
 a2:l.length=nl.length
 gk:∀(i:Nat) (p:Zb×Option aB) (r:dk),nl[i]? = some p->l[i]? = some r->oM rows nl p r
 nd:(nl.map (·.1)).Nodup
def il.jL{f:List bg}{b:Nl}{a:List dk}(d:il f b a):a.map (·.s)=b.map (·.1):=by
 apply List.ext_getElem?;intro i;rw[List.getElem?_map,List.getElem?_map];rcases Yj i b.length with c|c
 .have e:i<a.length:=by rw[d.a2];omega
  have:=d.gk i b[i] a[i] (Yd c) (Yd e);rw[Yd c,Yd e];simp[this.1]
 grind [a2]
theorem il.ca{f:List bg}{c:Nl}{d:List dk}(b:il f c d)(e:List bg):il (f++e) c d:=⟨b.a2,λi p h a g=>(b.gk i p h a g).ca e (zc c),b.nd⟩
theorem HX(b:Nl)(a:Zb):(aL b a=none/\lq (b.map (·.1)) a<0)\/(∃(i:Nat) (c:Option aB),aL b a=some c/\lq (b.map (·.1)) a=(i:Int)/\b[i]? = some (a,c)):=by
 unfold lq;induction b with
 |nil=>left;simp[aL]
 |cons p b h=>
  by_cases l:p.1=a
  .grind [aL]
  .have f:(p.1==a)=false:=by simp_all
   have k:(a==p.1)=false:=by grind
   have g:aL (p::b) a=aL b a:=by simp[aL,List.find?,f]
   rw[g];rcases h with⟨d,e⟩|⟨i,c,d,e,j⟩
   .grind
   .right;refine⟨i+1,c,d,?_,by simp_all⟩;grind
structure bz where
 dc:Nat
 nl:Nl
 pd:Nl
 o:Zb
 ps:List br
 rf:List (Zb×Int)
 fz:List dk
def kf(b:List bg):List (Zb×Int):=b.filterMap λa=>if a.C=14 then some (a.b0,a.m)else none
def NC(b:List bg)(a:bg):kf (b++[a])=kf b++if a.C=14 then [(a.b0,a.m)]else []:=by
 grind [kf]
def jR:List bg:=[⟨0,0,0,[],[],0,[],0⟩,⟨1,0,0,[],[],0,[],0⟩,⟨2,0,0,[],[],0,[],0⟩,⟨3,0,0,[],[],0,[],0⟩,⟨4,0,0,[],[],0,[],0⟩]
def tH(b:Nat)(a:bg):Prop:=a.of<b/\(∀c∈a.cg,c<b)/\a.fp<b/\(a.C=5->∀c∈a.bD,df (-2147483648) 2147483647 c=true)
def Fz(a:List dk)(e:Nl)(c:List dk):Prop:=(∃d,c=a++d)/\∀(b:Nat) (p:Zb×Option aB),b<a.length->e[b]? = some p->p.2≠none
def Fz.h3{c:List dk}{b:Nl}{a:List dk}(e:Fz c b a)(k:a.length=b.length)(p:Zb×Option aB)(d:dk):Fz c (b++[p]) (a++[d]):=by
 obtain⟨⟨i,l⟩,f⟩:=e;refine⟨⟨i++[d],by simp_all⟩,λh j g m=>f h j g ?_⟩;grind
theorem Fz.a9{a:List dk}{b:Nl}{c:List dk}(f:Fz a b c){e:Zb}(j:b[i]? = some (e,none))(d:aB)(r:dk):Fz a (dd b e d) (c.set i r):=by
 obtain⟨⟨g,m⟩,h⟩:=f;have k:a.length<=i:=by
  grind
 refine⟨⟨g.set (i-a.length) r,by simp_all⟩,λo p l n=>?_⟩;grind [dd]
structure Q(t:Zb)(b:bz)(st:St)(σ:ae):Prop where
 e:σ.s.e=0
 wd:Wd (dK t st.m st.nx) σ.s.x
 nl:st.A=b.nl++b.pd
 pd:b.pd=[]\/∃s,b.pd=[(s,none)]/\aL b.nl s=none
 nm:il σ.w b.nl σ.A
 H:σ.L=st.L
 cn:σ.av+b.dc=st.av
 pg:σ.O=st.O.map (·.1)
 d6:∃l,σ.w=jR++l
 d9:∀(i:Nat) (r:bg),σ.w[i]? = some r->tH (max i 5) r
 ou:σ.j=b.o
 pr:σ.ag=b.ps
 eL:kf σ.w=b.rf
 e6:Fz b.fz b.nl σ.A
def bz.cc(b:bz)(a:List (Zb×Nat)):bz:={ b with rf:=b.rf++a.map λp=>(p.1,(p.2:Int)) }
theorem la(b:bz):b.cc []=b:=by simp[bz.cc]
theorem qf(b:bz)(a c:List (Zb×Nat)):(b.cc a).cc c=b.cc (a++c):=by simp[bz.cc]
structure Er(f:Mar.aw)(σ:ae):Prop where
 e:σ.s.e=f.no
 a:σ.s.a=f.m
 z:f.no≠0
structure Bd(f:Mar.aw)(σ:ae):Prop where
 e:σ.s.e=0
 k:σ.s.x.C=5
 n:σ.s.x.e=f.no
 a:σ.s.x.m=f.m
 z:f.no≠0
variable {t : Zb} {st h : St} {σ g j : ae} {b : bz} {f : Mar.aw}
def Er.bM(b:Er f σ)(d:aX σ g):Er f g:=by
 obtain⟨a,c⟩:=d (by rw[b.e];have:=b.z;omega);exact⟨a.trans b.e,c.trans b.a,b.z⟩
theorem Er.d5(a:Er f σ):σ.s.e≠0:=by rw[a.e];have:=a.z;omega
def Q.bd(a:Q t b st σ)(c:dK t st.m st.nx=.error f):Bd f σ:=by
 have:=a.wd;rw[c]at this;exact⟨a.e,this.1,this.2.1,this.2.2.1,this.2.2.2⟩
def Bd.is(a:Bd f σ){l:Zb}(b:kd≠5):aH σ kd l=false:=by
 grind [aH,hB,k]
theorem Bd.g2(b:Bd f σ):Er f (dj σ):=by
 have:(dj σ).s=⟨σ.s.x,f.no,f.m⟩:=by
  show jQ σ.s=_;unfold jQ ma hk;rw[Y9 b.k,Y9 b.e,b.n,b.a]
 exact⟨by grind,by grind,b.z⟩
def Bd.hv(a:Bd f σ){l:Zb}(c:kd≠5):Er f (af t kd l σ):=by
 have b:af t kd l σ=dj σ:=by
  unfold af mE dj;have:=a.is (l:=l) c;grind [aH]
 rw[b];exact a.g2
def pw(kd:Nat)(a:Zb):Bool:=(kd==2&&Mar.d2 a)||(kd==4&&(a.length==1&&Mar.f0 (a.getD 0 0)))
def JN{a:Zb}(b:pw kd a=true):kd≠5:=by
 grind [pw]
def Q.is{d:Mar.aT}(h:Q t b st σ)(r:dK t st.m st.nx=.ok (d,p)){l:Zb}(f:pw kd l=true):aH σ kd l=(d.text==l):=by
 have j:=h.wd;rw[r]at j;obtain⟨⟨n,o,-⟩,i⟩:=j;unfold aH hB;rw[h.e,n,o];by_cases k:d.text=l
 .have s:d.C=kd:=by
   unfold pw at f;simp only[Bool.or_eq_true,Bool.and_eq_true,beq_iff_eq]at f;rcases f with⟨a,g⟩|⟨a,g,m⟩
   .rw[a];exact i.h5 (by simp_all)
   .rw[a];obtain⟨c,q⟩:∃c,l=[c]:=by
     match l,g with
     |[c],_=>simp
    rw[q]at m k;exact i.nL c (by simp_all) k
  simp_all
 simp_all
theorem Q.d4{g:Mar.aT}(a:Q t b st σ)(f:dK t st.m st.nx=.ok (g,p)):Q t b { st with m:=p,nx:=none } (aW t σ):=by
 have c:=a.wd;rw[f]at c;obtain⟨⟨-,-,-,-,d⟩,-⟩:=c;refine⟨a.e,?_,a.nl,a.pd,a.nm,a.H,a.cn,a.pg,a.d6,a.d9,a.ou,a.pr,a.eL,a.e6⟩;show Wd (kg t p) (fL t σ.s.x.fin);rw[d];exact DK t p
theorem Q.g1{d:Mar.aT}(a:Q t b st σ)(f:dK t st.m st.nx=.ok (d,p)):Q t b { st with m:=p,nx:=some d } σ:=by
 have c:=a.wd;rw[f]at c;exact⟨a.e,c,a.nl,a.pd,a.nm,a.H,a.cn,a.pg,a.d6,a.d9,a.ou,a.pr,a.eL,a.e6⟩
def Q.hF(d:Q t b st σ)(a:Zb):(aL b.nl a=none/\bP σ a<0)\/(∃(i:Nat) (c:Option aB) (h:dk),aL b.nl a=some c/\bP σ a=(i:Int)/\b.nl[i]? = some (a,c)/\σ.A[i]? = some h/\oM σ.w b.nl (a,c) h):=by
 have k:bP σ a=lq (b.nl.map (·.1)) a:=by unfold bP;rw[d.nm.jL]
 rw[k];rcases HX b.nl a with e|⟨i,c,e,j,f⟩
 .simp_all
 .right;have l:i<b.nl.length:=by
   grind
  have g:i<σ.A.length:=by rw[d.nm.a2];omega
  exact⟨i,c,σ.A[i],e,j,f,Yd g,d.nm.gk i _ _ f (Yd g)⟩
end
section
variable {a kd p:Nat}{nl:Nl}{d h τ:Type}
variable {t : Zb} {st g : St} {σ i j σ1 σ2 : ae} {b c : bz} {f : Mar.aw}
def S(t:Zb)(b:d->bz->Prop)(e:Except Mar.aw (d×St))(σ:ae):Prop:=match e with
 |.ok (a,g)=>∃c,Q t c g σ/\b a c
 |.error f=>Er f σ
def Sx(t:Zb)(b:d->τ->bz->Prop)(e:Except Mar.aw (d×τ×St))(σ:ae):Prop:=match e with
 |.ok (a,h,g)=>∃c,Q t c g σ/\b a h c
 |.error f=>Er f σ
theorem eZ{i:d->bz->Prop}{R':h->bz->Prop}{e:PM d}{k:d->PM h}(b:S t i (e st) σ1)(l:aX σ1 σ2)(o:∀a g c,Q t c g σ1->i a c->S t R' (k a g) σ2):S t R' (aF e k st) σ2:=by
 unfold aF;cases j:e st with
 |ok p=>rw[j]at b;obtain⟨c,m,n⟩:=b;grind
 |error f=>rw[j]at b;exact Er.bM b l
theorem eF{j:d->τ->bz->Prop}{R':h->τ->bz->Prop}{e:PX τ d}{l:d->PX τ h}{i:τ}(b:Sx t j (e i st) σ1)(n:aX σ1 σ2)(q:∀a m g c,Q t c g σ1->j a m c->Sx t R' (l a m g) σ2):Sx t R' (aG e l i st) σ2:=by
 unfold aG;cases k:e i st with
 |ok r=>rw[k]at b;obtain⟨c,o,p⟩:=b;grind
 |error f=>rw[k]at b;exact Er.bM b n
theorem go{g:d->bz->Prop}{e:PM d}{i:τ}(b:S t g (e st) σ1):Sx t (λa l c=>g a c/\l=i) (lift e i st) σ1:=by
 unfold lift;cases h:e st with
 |ok m=>rw[h]at b;obtain⟨c,j,k⟩:=b;exact⟨c,j,k,rfl⟩
 |error f=>rw[h]at b;exact b
theorem S.K{R b:d->bz->Prop}{e:Except Mar.aw (d×St)}(f:S t R e σ)(g:∀a c,R a c->b a c):S t b e σ:=by
 unfold S at *
 grind
theorem Sx.K{R b:d->τ->bz->Prop}{e:Except Mar.aw (d×τ×St)}(g:Sx t R e σ)(h:∀a f c,R a f c->b a f c):Sx t b e σ:=by
 unfold Sx at *
 grind
theorem S.ret{c:d->bz->Prop}{a:d}(e:Q t b st σ)(f:c a b):S t c (ret a st) σ:=⟨b,e,f⟩
theorem Sx.ret{c:d->τ->bz->Prop}{a:d}{e:τ}(f:Q t b st σ)(g:c a e b):Sx t c (cX a e st) σ:=⟨b,f,g⟩
def Ka(d:Q t b st σ)(a:Zb):(∀c,aL b.nl a=some c->aL st.A a=some c)/\(aL b.nl a=none->aL st.A a=none\/aL st.A a=some none):=by
 rw[d.nl];unfold aL;grind [Q.pd]
def pk(t:Zb)(st:St):(∃a p,dK t st.m st.nx=.ok (a,p))\/∃f,dK t st.m st.nx=.error f:=by
 cases b:dK t st.m st.nx<;>grind
def mj{a:Mar.aT}(b:dK t st.m st.nx=.ok (a,p)):next (aA t) st=.ok (a,{ st with m:=p,nx:=none }):=by
 simp_all[next]
theorem nk(a:dK t st.m st.nx=.error f):next (aA t) st=.error f:=by
 simp_all[next]
theorem pH{a:Mar.aT}(b:dK t st.m st.nx=.ok (a,p)):ft (aA t) st=.ok (a,{ st with m:=p,nx:=some a }):=by
 simp_all[ft]
theorem sR(a:dK t st.m st.nx=.error f):ft (aA t) st=.error f:=by
 simp_all[ft]
def vx(c:Q t b st σ){l:Zb}(d:pw kd l=true):(∃f,fQ (aA t) l st=.error f/\Bd f σ)\/∃g,fQ (aA t) l st=.ok (aH σ kd l,g)/\Q t b g σ:=by
 rcases pk t st with⟨e,p,a⟩|⟨f,a⟩
 .right;refine⟨_,?_,c.g1 a⟩;unfold fQ;rw[pH a,c.is a d]
 .left;exact⟨f,by unfold fQ;rw[sR a],c.bd a⟩
def iq(c:Q t b st σ){l:Zb}(i:pw kd l=true):(∃f,cZ (aA t) l st=.error f/\Bd f σ)\/(∃g,cZ (aA t) l st=.ok (true,g)/\aH σ kd l=true/\Q t b g (aW t σ))\/∃g,cZ (aA t) l st=.ok (false,g)/\aH σ kd l=false/\Q t b g σ:=by
 rcases pk t st with⟨h,p,a⟩|⟨f,a⟩
 .right;have e:fQ (aA t) l st=.ok (aH σ kd l,{ st with m:=p,nx:=some h }):=by
   unfold fQ;rw[pH a,c.is a i]
  cases d:aH σ kd l with
  |true=>
   left;refine⟨{ st with m:=p,nx:=none },?_,rfl,c.d4 a⟩;unfold cZ aF;rw[e,d];rfl
  |false=>
   right;refine⟨{ st with m:=p,nx:=some h },?_,rfl,c.g1 a⟩;unfold cZ aF;rw[e,d];rfl
 .left;refine⟨f,?_,c.bd a⟩;simp_all[cZ,aF,fQ,sR]
def mF{a:Zb}(b:aH σ kd a=true):af t kd a σ=aW t σ:=by
 grind [af,mE,aW,aH]
theorem DI{a:Zb}(b:aH σ kd a=false):af t kd a σ=dj σ:=by
 grind [af,mE,dj,aH]
def Q.gd{a:Mar.aT}(c:Q t b st σ)(h:dK t st.m st.nx=.ok (a,p)):Er ⟨3,a.m⟩ (dj σ):=by
 have d:=c.wd;rw[h]at d;obtain⟨⟨i,j,k,f,l⟩,g⟩:=d;have:(dj σ).s=⟨σ.s.x,3,a.m⟩:=by
  show jQ σ.s=_;unfold jQ ma hk;have:=g.ev;rw[Y2 (by omega),Y9 c.e,f]
 exact⟨by simp_all,by grind,by simp⟩
def eC(d:Q t b st σ){l:Zb}(h:pw kd l=true):S t (λ(j:Mar.aT) c=>c=b/\j.m=σ.s.x.m) (bY (aA t) l st) (af t kd l σ):=by
 unfold bY aF;rcases pk t st with⟨k,p,a⟩|⟨f,a⟩
 .rw[mj a];have e:=d.is a h;have i:=d.wd;rw[a]at i;simp only;cases g:(k.text==l)with
  |true=>
   rw[g]at e;rw[Y9 rfl,mF e];exact⟨b,d.d4 a,rfl,i.1.2.2.2.1.symm⟩
  |false=>
   rw[g]at e;rw[Y2 (by simp),DI e];exact d.gd a
 .rw[nk a];exact(d.bd a).hv (JN h)
def Q.d0(c:Q t b st σ){e:Nat}(d:e≠0):Er ⟨e,a⟩ (bL e a σ):=by
 have:(bL e a σ).s=⟨σ.s.x,e,a⟩:=by
  unfold bL hk;rw[Y9 c.e]
 exact⟨by grind,by grind,d⟩
def zf(c:σ.s.e=0){e:Nat}(b:e≠0):Er ⟨e,a⟩ (bL e a σ):=by
 have:(bL e a σ).s=⟨σ.s.x,e,a⟩:=by
  simp_all[bL,hk]
 exact⟨by grind,by grind,b⟩
def Bd.k8(a:Bd f σ)(c b:Int):Er f (bn t c b σ).2:=by
 unfold bn;rw[Y2 (by simpa using a.e),Y2 (by rw[a.k];omega),Y2 (by rw[a.is (by omega)];simp),Y2 (by rw[a.is (by omega)];simp),Y2 (by rw[a.k];omega)];exact a.g2
def Pn(j:Q t b st σ){i:Mar.aT}(m:dK t st.m st.nx=.ok (i,p))(g f d:Int) :
  S t (λ(l:Int×Nat) c=>c=b/\(fF t g f d σ).1=(l.1,(l.2:Int))/\l.1=d/\df g f d=true) ((if df g f d then ret (d,i.m)else fi 8 i.m) { st with m:=p,nx:=none }) (fF t g f d σ).2:=by
 have k:=j.wd;rw[m]at k;unfold fF;by_cases h:df g f d=true
 .have:¬(d<g\/f<d):=by simp[df]at h;omega
  rw[Y9 h,Y2 this];exact⟨b,j.d4 m,rfl,by simp only;rw[k.1.2.2.2.1],rfl,h⟩
 .have:d<g\/f<d:=by simp[df]at h;omega
  rw[Y2 h,Y9 this,k.1.2.2.2.1];exact j.d0 (e:=8) (a:=i.m) (by omega)
def sZ(h:Q t b st σ)(g e:Int):S t (λ(i:Int×Nat) c=>c=b/\(bn t g e σ).1=(i.1,(i.2:Int))/\df g e i.1=true) (hd (aA t) (df g e) st) (bn t g e σ).2:=by
 unfold hd aF;rcases pk t st with⟨d,p,k⟩|⟨f,k⟩
 .rw[mj k];have z:=h.wd;rw[k]at z;obtain⟨⟨R,G,H,B,a0⟩,D⟩:=z;have C:=h.is k (kd:=2) (l:=[84,82,85,69]) (by rfl);have hF:=h.is k (kd:=2) (l:=[70,65,76,83,69]) (by rfl);unfold bn;rw[Y2 (by simpa using h.e)];simp only;unfold hD;have A:∀q,S t (λ(i:Int×Nat) c=>c=b/\(fF t g e q σ).1=(i.1,(i.2:Int))/\df g e i.1=true) ((if df g e q then ret (q,d.m)else fi 8 d.m) { st with m:=p,nx:=none }) (fF t g e q σ).2:=λq=>
   (Pn h k g e q).K λi c E=>⟨E.1,E.2.1,by simp_all⟩
  by_cases a5:d.C=3
  .rw[Y9 (c:=σ.s.x.C=3) (by omega),Y9 (c:=((d.C:Int)==3)=true) (by simp_all),H];exact A d.n
  .rw[Y2 (c:=σ.s.x.C=3) (by omega),Y2 (c:=((d.C:Int)==3)=true) (by grind)];by_cases a4:d.C=1
   .have N:(d.text==[84,82,85,69])=false:=by
     simp only[Yi];intro o;have:=D.h5 (by rw[o];rfl);omega
    have M:(d.text==[70,65,76,83,69])=false:=by
     simp only[Yi];intro o;have:=D.h5 (by rw[o];rfl);omega
    rw[C,hF,N,M,Y9 (c:=σ.s.x.C=1) (by omega),Y9 (c:=((d.C:Int)==1)=true) (by simp_all)];simp only[Ye,if_false]
    unfold iP;simp only;obtain⟨J,K⟩:=Ka h d.text;rw[show aL ({ st with m:=p,nx:=none }:St).A d.text=aL st.A d.text from rfl];rw[G];rcases h.hF d.text with⟨n,F⟩|⟨a3,O,m,n,F,a6,a7,L⟩
    .rw[Y9 (Y8 F),B];rcases K n with n|n
     .rw[n];exact h.d0 (e:=7) (a:=d.m) (by omega)
     .rw[n];exact h.d0 (e:=7) (a:=d.m) (by omega)
    .rw[J _ n];have I:cG σ=m:=by
      grind [cG]
     rw[I];have a1:¬bP σ d.text<0:=by omega
     have a2:m.a7≠0->(bP σ d.text<0\/m.a7≠0):=Ya;have P:m.a7≠0->S t (λ(i:Int×Nat) c=>c=b/\(if bP σ d.text<0\/m.a7≠0 then ((0,0),bL 7 ↑σ.s.x.m σ)else fF t g e m.n σ).1=(i.1,(i.2:Int))/\df g e i.1=true) (.error ⟨7,d.m⟩) (if bP σ d.text<0\/m.a7≠0 then ((0,0),bL 7 ↑σ.s.x.m σ)else fF t g e m.n σ).2:=λz=>by
      rw[Y9 (Ya z),B];exact h.d0 (e:=7) (a:=d.m) (by omega)
     have a8:=L.2;cases O with
     |none=>simp_all
     |some u=>
      cases u with
      |const a r v=>
       grind
      |prog a r j u=>simp_all
      |typedef u=>simp_all
      |enum a r j=>simp_all
      |struct a r j=>simp_all
      |union a r j u=>simp_all
   .rw[Y2 (c:=((d.C:Int)==1)=true) (by grind),C,hF];by_cases y:(d.text==[84,82,85,69])=true
    .rw[Y9 y,Y9 y];exact A 1
    .rw[Y2 y,Y2 y];by_cases w:(d.text==[70,65,76,83,69])=true
     .rw[Y9 w,Y9 w];exact A 0
     .rw[Y2 w,Y2 w,Y2 (by omega)];exact h.gd k
 .rw[nk k];exact(h.bd k).k8 g e
theorem Bd.c4(a:Bd f σ):Er f (cV t σ).2:=by
 unfold cV ig;rw[Y2 (by simpa using a.e),Y2 (by rw[a.k];omega)];exact a.g2
def Bd.l1(a:Bd f σ)(c:Int):Er f (aR t c σ).2:=by
 have b:=a.c4 (t:=t);unfold aR;rw[Y9 b.d5];omega
def Bd.iG(a:Bd f σ)(b:Zc)(all:Bool):Er f (cd t b all σ).2:=(a.c4 (t:=t)).bM (by
 grind [cd,kj,dV])
def yL{a:Mar.aT}(c:Q t b st σ)(h:dK t st.m st.nx=.ok (a,p))(m:a.C=1):(cV t σ).1.text=a.text/\(cV t σ).1.m=a.m/\(cV t σ).2=aW t σ:=by
 have d:=c.wd;rw[h]at d;obtain⟨⟨i,f,j,g,k⟩,l⟩:=d;unfold cV ig;rw[Y2 (by simpa using c.e),Y9 (by omega)];exact⟨f,g,rfl⟩
def yO{d:Mar.aT}(a:Q t b st σ)(f:dK t st.m st.nx=.ok (d,p))(m:d.C≠1):(cV t σ).2=dj σ:=by
 have c:=a.wd;rw[f]at c;obtain⟨⟨g,h,i,j,k⟩,l⟩:=c;unfold cV ig;rw[Y2 (by simpa using a.e),Y2 (by omega)];rfl
theorem oq(nl:Nl)(b a:Zb)(c:aL nl b=none):aL (nl++[(b,none)]) a=if a=b then some none else aL nl a:=by
 unfold aL at *
 grind
def JB{a:Zb}(b:aL nl a=none):Kp nl (nl++[(a,none)]):=λc d e=>by
 rw[oq nl a c b];grind
theorem uu{a:Zb}(b:aL nl a=none):a ∉ nl.map (·.1):=by
 intro c;obtain⟨f,e,d⟩:=YE.1 c;unfold aL at b;have:nl.find? (λp=>p.1==a)=none:=by simpa using b
 grind
def il.h3{i:List bg}{h:List dk}(d:il i nl h){g:Zb}(k:aL nl g=none)(l a:Int):il i (nl++[(g,none)]) (h++[⟨g,2,l,a⟩]):=by
 refine⟨by simp[d.a2],?_,?_⟩
 .intro f p n b c;rcases Yj f nl.length with e|e
  .rw[Ys e]at b;rw[Ys (by rw[d.a2];omega)]at c;have:=(d.gk f p n b c).ca [] (JB k);simp_all
  .rw[Yw e]at b;rw[Yw (by rw[d.a2];omega),d.a2]at c;match j:f-nl.length with
   |0=>
    rw[j]at b c;simp at b c;subst b;subst c;exact⟨rfl,rfl⟩
   |m+1=>simp_all
 .rw[List.map_append,YJ];grind [nd,uu]
abbrev bz.a0(b:bz)(a:Zb):bz:={ b with nl:=b.nl++[(a,none)] }
def rk(j:Q t b st σ)(o:b.pd=[]):S t (λk c=>c=b.a0 k.1/\(aR t 2 σ).1.text=k.1/\(aR t 2 σ).1.m=k.2/\aL b.nl k.1=none/\(aR t 2 σ).2.A=σ.A++[⟨k.1,2,-1,k.2⟩]) (gf (aA t) st) (aR t 2 σ).2:=by
 unfold gf hA name aG lift;rcases pk t st with⟨g,p,h⟩|⟨f,h⟩
 .rw[mj h];simp only;by_cases r:g.C=1
  .obtain⟨s,u,x⟩:=yL j h r;rw[Y9 (by simp_all)];have d:=j.d4 h;have v:aL b.nl g.text=none/\bP (aW t σ) g.text<0\/(∃m,aL b.nl g.text=some m)/\0<=bP (aW t σ) g.text:=by
    rcases d.hF g.text with i|⟨z,m,A,i,l,-⟩;all_goals simp_all
   have y:st.A=b.nl:=by rw[j.nl,o];simp
   have w:(fW nn).a4 g () { st with m:=p,nx:=none } = match aL b.nl g.text with
     |none=>.ok ((),(),{ st with m:=p,nx:=none,A:=b.nl++[(g.text,none)] })
     |some _=>.error ⟨6,g.m⟩:=by
    show lift (fV g) () { st with m:=p,nx:=none } = _;unfold lift fV;grind
   rw[w];unfold aR;rw[x,Y2 (by simpa using d.e),s,u];rcases v with⟨i,l⟩|⟨⟨m,i⟩,l⟩
   .rw[i,Y2 (by omega)];refine⟨b.a0 g.text,⟨d.e,d.wd,?_,Y8 o,d.nm.h3 i _ _,d.H,d.cn,d.pg,d.d6,d.d9,d.ou,d.pr,d.eL,d.e6.h3 d.nm.a2 _ _⟩,rfl,s,u,i,rfl⟩;simp_all
   .rw[i,Y9 l];exact d.d0 (e:=6) (a:=g.m) (by omega)
  .rw[Y2 (by grind)];have q:=yO j h r;have n:=j.gd h;have:(aR t 2 σ).2=dj σ:=by
    unfold aR;rw[q,Y9 n.d5,q]
   rw[this];exact n
 .rw[nk h];exact(j.bd h).l1 2
def vz(h:Q t b st σ)(d:Zc)(a l:Nat):Sx t (λk v c=>c=b/\(cd t d false σ).1.text=k.1/\(cd t d false σ).1.m=k.2/\v=d++[k.1]) (name (aA t) (bb a l) d st) (cd t d false σ).2:=by
 unfold name aG lift;rcases pk t st with⟨g,p,e⟩|⟨f,e⟩
 .rw[mj e];simp only;by_cases o:g.C=1
  .obtain⟨q,r,w⟩:=yL h e o;rw[Y9 (by simp_all)];have n:=h.d4 e;have s:(bb a l).a4 g d { st with m:=p,nx:=none } = if d.contains g.text=true then .error ⟨6,g.m⟩else .ok ((),d++[g.text],{ st with m:=p,nx:=none }):=by
    show kh (ll g) d { st with m:=p,nx:=none } = _;unfold kh ll;grind
   rw[s];unfold cd;simp only[Ye,if_false]
   rw[w,q,r];by_cases j:d.contains g.text=true
   .rw[Y9 j,Y9 ⟨n.e,j⟩];exact n.d0 (e:=6) (a:=g.m) (by omega)
   .rw[Y2 j,Y2 (λi=>j i.2)];exact⟨b,by simp_all,rfl,q,r,rfl⟩
  .rw[Y2 (by grind)];have u:=yO h e o;have m:=h.gd e;have:(cd t d false σ).2=dj σ:=by
    unfold cd;simp only;rw[u,Y2 (λi=>m.d5 i.1)];omega
   rw[this];exact m
 .rw[nk e];exact(h.bd e).iG d false
end
section
variable {i:Int}{r:bg}{h:Ty}{j n τ:Type}
variable {t : Zb} {st m : St} {a o p σ1 σ2 : ae} {g b : bz} {f : Mar.aw}
def Q.hN(b:Q t g st a):5<=a.w.length:=by
 obtain⟨d,c⟩:=b.d6;simp_all[jR]
def dt.lt{b:List bg}(m:5<=b.length)(a:dt b h i):i<b.length:=by
 have e:∀{r:bg},0<=i->b[i.toNat]? = some r->i<b.length:=λc d=>by
  grind
 cases h with
 |plain n=>have:=a.1;have:=a.2;omega
 |named o l=>obtain⟨c,r,d,-⟩:=a;simp_all
 |opaq g f=>exact e a.1 a.2
 |str g f=>exact e a.1 a.2
 |arr k g f=>obtain⟨c,j,d,-⟩:=a;simp_all
 |opt k=>obtain⟨c,j,d,-⟩:=a;simp_all
 |void=>have:i = -1:=a;omega
def Q.ky(b:Q t g st a)(k:tH (max a.w.length 5) r):Q t { g with rf:=g.rf++if r.C=14 then [(r.b0,r.m)]else [] } st (cm r a):=by
 refine⟨b.e,b.wd,b.nl,b.pd,b.nm.ca [r],b.H,b.cn,b.pg,?_,?_,b.ou,b.pr,by show kf (a.w++[r])=_;rw[NC,b.eL],b.e6⟩
 .obtain⟨f,j⟩:=b.d6;exact⟨f++[r],by show a.w++[r]=_;simp_all⟩
 .intro i h d;rcases Yj i a.w.length with c|c
  .rw[show (cm r a).w=a.w++[r]from rfl,Ys c]at d;exact b.d9 i h d
  .rw[show (cm r a).w=a.w++[r]from rfl,Yw c]at d;grind
def Q.row(b:Q t g st a)(c:tH (max a.w.length 5) r)(d:r.C≠14):Q t g st (cm r a):=by
 have:=b.ky c;simp_all
def mp(a:ae)(r:bg):(cm r a).w[((a.w.length:Nat):Int).toNat]? = some r:=by
 show (a.w++[r])[_]? = _;simp
def rY(a:Int)(f:Bool):Zb:=if f then [91]++bO a++[93]else [60]++bO a++[62]
def kL:Ty->Zb
 |.opaq _ _=>[111,112,97,113,117,101,32]
 |.str _ _=>[115,116,114,105,110,103,32]
 |.arr a _ _=>dm a++[32]
 |.opt a=>dm a++[32,42]
 |h=>dm h++[32]
def mS:Ty->Zb
 |.opaq a f=>rY a f
 |.str a _=>rY a false
 |.arr _ a f=>rY a f
 |_=>[]
def rS(h:Ty):Prop:=(∃a,h=.plain a/\a<=4)\/∃c b,h=.named c b
def rS.d7(a:rS h):kL h=dm h++[32]/\mS h=[]:=by
 rcases a with⟨c,rfl,-⟩|⟨d,b,rfl⟩<;>exact⟨rfl,rfl⟩
def rS.f5{b:List bg}(a:rS h)(r:dt b h i):0<=i:=by
 rcases a with⟨d,rfl,-⟩|⟨e,c,rfl⟩
 .have:=r.1;omega
 .exact r.1
def Ew(f:Mar.aw)(a:ae):Prop:=Er f a\/Bd f a
def Sw(t:Zb)(c:j->bz->Prop)(r:Except Mar.aw (j×St))(a:ae):Prop:=match r with
 |.ok (d,m)=>∃b,Q t b m a/\c d b
 |.error f=>Ew f a
def Sy(t:Zb)(c:j->τ->bz->Prop)(r:Except Mar.aw (j×τ×St))(a:ae):Prop:=match r with
 |.ok (d,e,m)=>∃b,Q t b m a/\c d e b
 |.error f=>Ew f a
def qr{c:j->τ->bz->Prop}{r:Except Mar.aw (j×τ×St)}(b:Sx t c r a):Sy t c r a:=by
 unfold Sx at b;split at b
 .exact b
 .exact Y8 b
theorem wk{e:j->τ->bz->Prop}{R':n->τ->bz->Prop}{c:PX τ j}{i:j->PX τ n}{d:τ}(a:Sx t e (c d st) σ1)(l:aX σ1 σ2)(q:∀g k m b,Q t b m σ1->e g k b->Sy t R' (i g k m) σ2):Sy t R' (aG c i d st) σ2:=by
 unfold aG;cases h:c d st with
 |ok r=>rw[h]at a;obtain⟨b,o,p⟩:=a;grind
 |error f=>rw[h]at a;exact Y8 (Er.bM a l)
theorem wl{e:j->τ->bz->Prop}{g:n->τ->bz->Prop}{c:PX τ j}{k:j->PX τ n}{d:τ}(a:Sy t e (c d st) σ1)(p:aX σ1 σ2)(o:∀f,Bd f σ1->Er f σ2)(s:∀h l m b,Q t b m σ1->e h l b->Sx t g (k h l m) σ2):Sx t g (aG c k d st) σ2:=by
 unfold aG;cases i:c d st with
 |ok u=>rw[i]at a;obtain⟨b,q,r⟩:=a;grind
 |error f=>
  rw[i]at a;rcases a with a|a
  .exact Er.bM a p
  .exact o f a
theorem zj{d:j->bz->Prop}{e:n->bz->Prop}{c:PM j}{i:j->PM n}(a:Sw t d (c st) σ1)(l:aX σ1 σ2)(k:∀f,Bd f σ1->Er f σ2)(q:∀g m b,Q t b m σ1->d g b->S t e (i g m) σ2):S t e (aF c i st) σ2:=by
 unfold aF;cases h:c st with
 |ok r=>rw[h]at a;obtain⟨b,o,p⟩:=a;grind
 |error f=>
  rw[h]at a;rcases a with a|a
  .exact Er.bM a l
  .exact k f a
theorem zi{d:j->bz->Prop}{c:PM j}{g:τ}(a:Sw t d (c st) σ1):Sy t (λh l b=>d h b/\l=g) (lift c g st) σ1:=by
 unfold lift;cases e:c st with
 |ok m=>rw[e]at a;obtain⟨b,i,k⟩:=a;exact⟨b,i,k,rfl⟩
 |error f=>rw[e]at a;exact a
def Bd.C(b:Bd f a):Er f (cq t a).2:=by
 unfold cq;have c:∀d,¬(a.s.x.C=2/\a.s.x.text=d):=λd g=>by rw[b.k]at g;omega
 rw[Y2 (by simpa using b.e),Y2 (by rw[b.k];omega),Y2 (c _),Y2 (c _),Y2 (c _),Y2 (c _)];exact b.g2
def CG(o:Q t g st a):Sw t (λh b=>b=g.cc (cu h)/\rS h/\dt (cq t a).2.w h (cq t a).1.1/\(cq t a).1.2=dm h) (lJ (aA t) st) (cq t a).2:=by
 unfold lJ aF;rcases pk t st with⟨i,K,j⟩|⟨f,j⟩
 .rw[mj j];have E:=o.wd;rw[j]at E;obtain⟨⟨H,B,M,I,N⟩,J⟩:=E;have p:=o.d4 j;unfold ie cq;rw[Y2 (by simpa using o.e)];have e:∀y,Mar.d2 y=true->((a.s.x.C=2/\a.s.x.text=y)↔(i.text==y)=true):=λy O=>by
   rw[H,B];simp only[beq_iff_eq];exact⟨λd=>d.2,λd=>⟨J.h5 (by simp_all),d⟩⟩
  simp only;by_cases P:i.C=1
  .rw[Y9 (c:=((i.C:Int)==1)=true) (by simp_all),Y9 (c:=a.s.x.C=1) (by omega)];have D:=p.ky (r:=mn a.s.x.text a.s.x.m) ⟨by simp[mn]<;>omega,by simp[mn],by simp[mn]<;>omega,by simp[mn]⟩;rw[Y9 (show (mn a.s.x.text a.s.x.m).C=14 from rfl)]at D;refine⟨_,D,by grind [bz.cc,cu,mn],Ya ⟨_,_,rfl⟩,⟨by simp,_,mp _ _,rfl,B,by show ((a.s.x.m:Nat):Int)=_;rw[I]⟩,B⟩
  .rw[Y2 (c:=((i.C:Int)==1)=true) (by grind),Y2 (c:=a.s.x.C=1) (by omega)];by_cases s:(i.text==[105,110,116])=true
   .rw[Y9 s,Y9 ((e _ (by rfl)).2 s)];exact⟨g,p,(la g).symm,Y8 ⟨0,rfl,by omega⟩,⟨rfl,by omega⟩,rfl⟩
   .rw[Y2 s,Y2 (λd=>s ((e _ (by rfl)).1 d))];by_cases u:(i.text==[104,121,112,101,114])=true
    .rw[Y9 u,Y9 ((e _ (by rfl)).2 u)];exact⟨g,p,(la g).symm,Y8 ⟨2,rfl,by omega⟩,⟨rfl,by omega⟩,rfl⟩
    .rw[Y2 u,Y2 (λd=>u ((e _ (by rfl)).1 d))];by_cases v:(i.text==[98,111,111,108])=true
     .rw[Y9 v,Y9 ((e _ (by rfl)).2 v)];exact⟨g,p,(la g).symm,Y8 ⟨4,rfl,by omega⟩,⟨rfl,by omega⟩,rfl⟩
     .rw[Y2 v,Y2 (λd=>v ((e _ (by rfl)).1 d))];by_cases w:(i.text==[117,110,115,105,103,110,101,100])=true
      .rw[Y9 w,Y9 ((e _ (by rfl)).2 w)];unfold iC;rcases iq p (kd:=2) (l:=[104,121,112,101,114]) (by rfl)with⟨G,q,k⟩|⟨F,q,k,z⟩|⟨F,q,k,z⟩
       .unfold aF;rw[q,Y2 (by rw[k.is (by omega)];simp),Y2 (by rw[k.is (by omega)];simp)];exact Ya k
       .unfold aF;rw[q,Y9 k];exact⟨g,z,(la g).symm,Y8 ⟨3,rfl,by omega⟩,⟨rfl,by omega⟩,rfl⟩
       .rw[Y2 (by simp_all)];have d:∀(C:Bool->PM Ty),aF (cZ (aA t) [104,121,112,101,114]) C { st with m:=K,nx:=none } = C false F:=λC=>by grind [aF]
        rw[d];simp only[Ye,if_false]
        unfold aF;rcases iq z (kd:=2) (l:=[105,110,116]) (by rfl)with⟨G,m,n⟩|⟨L,m,n,A⟩|⟨L,m,n,A⟩
        .rw[m,Y2 (by rw[n.is (by omega)];simp)];exact Ya n
        .rw[m,Y9 n];exact⟨g,A,(la g).symm,Y8 ⟨1,rfl,by omega⟩,⟨rfl,by omega⟩,rfl⟩
        .rw[m,Y2 (by simp_all)];exact⟨g,A,(la g).symm,Y8 ⟨1,rfl,by omega⟩,⟨rfl,by omega⟩,rfl⟩
      .rw[Y2 w,Y2 (λd=>w ((e _ (by rfl)).1 d))];exact Y8 (o.gd j)
 .rw[nk j];exact Y8 (o.bd j).C
def Bd.lX(c:Bd f a):Er f (bw t false a).2:=by
 have b:=c.hv (t:=t) (kd:=4) (l:=[60]) (by omega);unfold bw;rw[Y2 (by simp)];rw[Y2 (by rw[su b.d5];simp)];exact(b.bM (hc _ _ _)).bM (aZ _ _ _)
theorem CH(m:Q t g st a):S t (λh b=>b=g/\h=((bw t false a).1,false)) (lz (aA t) st) (bw t false a).2:=by
 unfold lz bw;rw[Y2 (by simp)];simp only;have n:=eC m (kd:=4) (l:=[60]) (by rfl);generalize af t 4 [60] a=σ1 at *
 have p:aX σ1 (if aH σ1 4 [62]=true then ((4294967295:Int),af t 4 [62] σ1)else ((bn t 0 4294967295 σ1).1.1,af t 4 [62] (bn t 0 4294967295 σ1).2)).2:=by
  split
  .exact aZ _ _ _
  .exact(hc _ _ _).u (aZ _ _ _)
 refine eZ n p ?_;rintro v u j q ⟨rfl,-⟩;rcases iq q (kd:=4) (l:=[62]) (by rfl)with⟨y,d,c⟩|⟨i,d,c,e⟩|⟨i,d,c,e⟩
 .unfold aF;rw[d,Y2 (by rw[c.is (by omega)];simp)];exact(c.k8 0 4294967295).bM (aZ _ _ _)
 .unfold aF;rw[d,Y9 c,mF c];exact⟨j,e,rfl,rfl⟩
 .have k:∀(f:Bool->PM (Int×Bool)),aF (cZ (aA t) [62]) f u=f false i:=λf=>by grind [aF]
  rw[k,Y2 (by simp_all)];simp only[Ye,if_false]
  refine eZ (sZ e 0 4294967295) (aZ _ _ _) ?_;rintro h z w r ⟨rfl,o,-⟩;refine eZ (eC r (kd:=4) (l:=[62]) (by rfl)) (dV _) ?_;rintro v A x s ⟨rfl,-⟩;exact S.ret s ⟨rfl,by rw[o]⟩
def CD(m:Q t g st a)(h:aH a 4 [91]=true):S t (λi b=>b=g/\i=((bw t true a).1,true)) (iM (aA t) st) (bw t true a).2:=by
 unfold iM bw;rw[Y9 rfl];simp only;rw[mF h];rcases iq m (kd:=4) (l:=[91]) (by rfl)with⟨s,e,c⟩|⟨j,e,c,f⟩|⟨j,e,c,f⟩
 .rw[c.is (by omega)]at h;grind
 .have k:∀(d:Bool->PM (Int×Bool)),aF (cZ (aA t) [91]) d st=d true j:=λd=>by grind [aF]
  rw[k];simp only[if_true]
  refine eZ (sZ f 1 1000) (aZ _ _ _) ?_;rintro i u q o ⟨rfl,n,-⟩;refine eZ (eC o (kd:=4) (l:=[93]) (by rfl)) (dV _) ?_;rintro w v r p ⟨rfl,-⟩;exact S.ret p ⟨rfl,by rw[n]⟩
 simp_all
def CC(f:Q t g st a)(k:aH a 4 [91]=false):S t (λh b=>b=g/\h=((bw t false a).1,false)) (iM (aA t) st) (bw t false a).2:=by
 unfold iM;rcases iq f (kd:=4) (l:=[91]) (by rfl)with⟨j,c,d⟩|⟨i,c,d,e⟩|⟨i,c,d,e⟩
 .unfold aF;rw[c];exact d.lX
 all_goals simp_all[aF,CH]
structure rF(d:aO)(r:jb)(a:ae):Prop where
 x:r.x.text=d.t
 m:r.x.m=d.m
 d7:r.d7=kL d.H
 e5:r.e5=mS d.H
 h0:dt a.w d.H r.r
 f5:0<=r.r
def CW(b:Zc)(all d:Bool)(a:ae):aX (cd t b all (aW t a)).2 (gu t b all d a).2:=by
 unfold gu;generalize cd t b all (aW t a)=r;by_cases c:aH r.2 4 [91]=true/\d=true
 .rw[Y9 c];exact(kY _ _).u (fw _ _)
 .rw[Y2 c];exact(kY _ _).u (fw _ _)
def CQ(f:Zc)(all:Bool)(a:ae):aX (cq t a).2 (gr t f all a).2:=by
 unfold gr;simp only;generalize cq t a=b;by_cases d:aH b.2 4 [42]=true
 .rw[Y9 d];exact(hp _).u ((lH _ _ _).u (fw _ _))
 .rw[Y2 d];generalize h:cd t f all b.2=r;have c:aX b.2 r.2:=by grind [lH]
  by_cases e:aH r.2 4 [91]=true
  .rw[Y9 e];exact c.u ((kY _ _).u (fw _ _))
  .rw[Y2 e];by_cases g:aH r.2 4 [60]=true
   .rw[Y9 g];exact c.u ((kY _ _).u (fw _ _))
   simp_all
def Bd.jh(c:Bd f a)(b:Zc)(all:Bool):Er f (gr t b all a).2:=(c.C (t:=t)).bM (CQ b all a)
def HC(d:Zc)(all:Bool)(b:Bd f (cq t a).2):Er f (gr t d all a).2:=by
 unfold gr;simp only;generalize cq t a=e at *
 rw[Y2 (by rw[b.is (by omega)];simp)];have c:=b.iG (t:=t) d all;rw[Y2 (by rw[su c.d5];simp),Y2 (by rw[su c.d5];simp)];omega
theorem Bd.j6(b:Bd f a)(c:Zc)(all:Bool):Er f (ch t c all a).2:=by
 unfold ch;rw[Y2 (by rw[b.is (by omega),b.is (by omega)];simp)];exact b.jh c all
abbrev tu(τ:Type):=List (Zb×Nat)->(Zb×Nat)->τ->bz->Prop
abbrev Ed(τ:Type):=(Zb×Nat)->τ->bz->Prop
def qc(t:Zb)(e:cP τ)(h:τ)(d:Zc)(all:Bool)(g:bz)(f:Ed τ):Prop:=
 ∀st a,Q t g st a->Sx t (λc i b=>f c i b/\(cd t d all a).1.text=c.1/\(cd t d all a).1.m=c.2) (name (aA t) e h st) (cd t d all a).2
def Ph{h:cP τ}{n:τ}{c:Zc}{all:Bool}{i:tu τ}(s:qc t h n c all g (i []))(v:Q t g st (aW t a))(l:a.s.x.text=[111,112,97,113,117,101])(C:aH a 2 [115,116,114,105,110,103]=false) :
  Sx t (λd y b=>i (cu d.H) (d.t,d.m) y b/\rF d (gu t c all true a).1 (gu t c all true a).2) (mW (aA t) h true n st) (gu t c all true a).2:=by
 unfold mW;rw[Y9 rfl];refine eF (s _ _ v) (CW _ _ _ _) ?_;rintro D E F B m ⟨j,o,p⟩;unfold gu;simp only[and_true];generalize cd t c all (aW t a)=r at *
 have k:aX r.2 (if aH r.2 4 [91]=true then ((⟨(bw t true r.2).2.w.length,a.s.x.text++[32],[91]++bO (bw t true r.2).1++[93],r.1⟩:jb),cm (dY 6 (bw t true r.2).1) (bw t true r.2).2)else ((⟨(bw t false r.2).2.w.length,a.s.x.text++[32],[60]++bO (bw t false r.2).1++[62],r.1⟩:jb),cm (dY (if aH a 2 [115,116,114,105,110,103]=true then 8 else 7) (bw t false r.2).1) (bw t false r.2).2)).2:=by
  split
  .exact(kY _ _).u (fw _ _)
  .exact(kY _ _).u (fw _ _)
 by_cases e:aH r.2 4 [91]=true
 .simp only[Y9 e]at k ⊢;refine eF (go (CD m e)) (fw _ _) ?_;rintro w z A q f ⟨⟨rfl,rfl⟩,rfl⟩;refine⟨_,f.row ⟨by simp[dY]<;>omega,by simp[dY],by simp[dY]<;>omega,by grind [dY]⟩ (by simp_all[dY]),j,?_⟩;exact⟨o,p,by rw[l];rfl,rfl,⟨by simp,mp _ _⟩,by simp⟩
 .have u:aH r.2 4 [91]=false:=by simp_all
  simp only[Y2 e]at k ⊢;refine eF (go (CC m u)) (fw _ _) ?_;rintro w z A q f ⟨⟨rfl,rfl⟩,rfl⟩;refine⟨_,f.row ⟨by simp[dY]<;>omega,by simp[dY],by simp[dY]<;>omega,by grind [dY]⟩ (by simp_all[dY]),j,?_⟩;rw[Y2 (by simp_all)];exact⟨o,p,by rw[l];rfl,rfl,⟨by simp,mp _ _⟩,by simp⟩
def Pi{e:cP τ}{h:τ}{c:Zc}{all:Bool}{f:tu τ}(j:qc t e h c all g (f []))(l:Q t g st (aW t a))(m:a.s.x.text=[115,116,114,105,110,103])(k:aH a 2 [115,116,114,105,110,103]=true) :
  Sx t (λd p b=>f (cu d.H) (d.t,d.m) p b/\rF d (gu t c all false a).1 (gu t c all false a).2) (mc (aA t) e true h st) (gu t c all false a).2:=by
 unfold mc;rw[Y9 rfl];refine eF (j _ _ l) (CW _ _ _ _) ?_;rintro w z B u n ⟨i,q,s⟩;unfold gu;simp only[Ye,and_false,if_false]
 generalize cd t c all (aW t a)=r at *
 refine eF (go (CH n)) (fw _ _) ?_;rintro y A C v o ⟨⟨rfl,rfl⟩,rfl⟩;refine⟨_,o.row ⟨by simp[dY]<;>omega,by simp[dY],by simp[dY]<;>omega,by grind [dY]⟩ (by simp_all[dY]),i,?_⟩;rw[Y9 k];exact⟨q,s,by rw[m];rfl,rfl,⟨by simp,mp _ _⟩,by simp⟩
def dt.aa(b:dt a.w h i)(d:cC a o):dt o.w h i:=by
 obtain⟨e,c,-⟩:=d.w;rw[c];exact b.ca e
def Pe{J:cP τ}{a1:τ}{e:Zc}{all:Bool}{K:tu τ}(M:∀a0,qc t J a1 e all (g.cc a0) (K a0))(a4:Q t g st a) :
  Sy t (λx a9 b=>K (cu x.H) (x.t,x.m) a9 b/\rF x (gr t e all a).1 (gr t e all a).2) (mc (aA t) J false a1 st) (gr t e all a).2:=by
 unfold mc;rw[Y2 (by simp)];have i:=CG a4;unfold aG lift;cases P:lJ (aA t) st with
 |error f=>
  rw[P]at i;rcases i with i|i
  .exact Y8 (i.bM (CQ e all a))
  .exact Y8 (HC e all i)
 |ok I=>
  rw[P]at i;obtain⟨b5,R,rfl,B,H,A⟩:=i;obtain⟨h,b8⟩:=I;simp only at R B H A ⊢;unfold qE;unfold gr;simp only;generalize cq t a=d at *
  unfold aG lift;rcases iq R (kd:=4) (l:=[42]) (by rfl)with⟨L,m,n⟩|⟨b0,m,n,D⟩|⟨b0,m,n,D⟩
  .rw[m,Y2 (c:=aH d.2 4 [42]=true) (by rw[n.is (by omega)];simp)];have G:=n.iG (t:=t) e all;rw[Y2 (c:=aH (cd t e all d.2).2 4 [91]=true) (by rw[su G.d5];simp),Y2 (c:=aH (cd t e all d.2).2 4 [60]=true) (by rw[su G.d5];simp)];exact Y8 G
  .rw[m,Y9 n];simp only;unfold ob;simp only[if_true]
   refine qr (eF (M _ _ _ D) (fw _ _) ?_);rintro a8 b1 b3 a2 C ⟨p,v,w⟩;have y:=((eu (t:=t) d.2).u (hb (t:=t) e all _)).aa;have j:=H.aa y;generalize cd t e all (aW t d.2)=r at *
   have O:=j.lt C.hN;refine Sx.ret (C.row ⟨by simp[dz]<;>omega,by simp[dz],by simp[dz]<;>omega,by simp[dz]⟩ (by simp[dz])) ⟨p,v,w,?_,rfl,⟨by simp,_,mp _ _,j.ca _⟩,by simp⟩;grind [kL]
  .rw[m,Y2 (c:=aH d.2 4 [42]=true) (by simp_all)];simp only;unfold ob;simp only[Ye,if_false]
   generalize a6:cd t e all d.2=r;have a7:aX r.2 (if aH r.2 4 [91]=true then ((⟨(bw t true r.2).2.w.length,d.1.2++[32],[91]++bO (bw t true r.2).1++[93],r.1⟩:jb),cm (dz 9 (bw t true r.2).1 d.1.1) (bw t true r.2).2)
     else if aH r.2 4 [60]=true then ((⟨(bw t false r.2).2.w.length,d.1.2++[32],[60]++bO (bw t false r.2).1++[62],r.1⟩:jb),cm (dz 10 (bw t false r.2).1 d.1.1) (bw t false r.2).2)
     else ((⟨d.1.1,d.1.2++[32],[],r.1⟩:jb),r.2)).2:=by
    split
    .exact(kY _ _).u (fw _ _)
    .split
     .exact(kY _ _).u (fw _ _)
     .exact dV _
   have N:=M _ _ _ D;have y:=(hb (t:=t) e all d.2).aa;have j:=H.aa y;rw[a6]at N y j;refine wk N a7 ?_;rintro a8 b1 b3 a2 C ⟨p,v,w⟩;unfold ph aG lift;rcases vx C (kd:=4) (l:=[91]) (by rfl)with⟨L,E,k⟩|⟨b6,E,k⟩
   .rw[E,Y2 (c:=aH r.2 4 [91]=true) (by rw[k.is (by omega)];simp),Y2 (c:=aH r.2 4 [60]=true) (by rw[k.is (by omega)];simp)];exact Ya k
   .rw[E];simp only;unfold pi;by_cases q:aH r.2 4 [91]=true
    .rw[Y9 q,Y9 q];unfold mX;refine qr (eF (go (CD k q)) (fw _ _) ?_);rintro I b2 b4 a3 u ⟨⟨rfl,rfl⟩,rfl⟩;have s:=j.aa (mt (t:=t) true r.2).aa;have O:=s.lt u.hN;exact Sx.ret (u.row ⟨by simp[dz]<;>omega,by simp[dz],by simp[dz]<;>omega,by simp[dz]⟩ (by simp[dz])) ⟨p,v,w,by simp only[kL];rw[A],rfl,⟨by simp,_,mp _ _,s.ca _⟩,by simp⟩
    .rw[Y2 q,Y2 q];have a5:aH r.2 4 [91]=false:=by simp_all
     unfold aG lift;rcases vx k (kd:=4) (l:=[60]) (by rfl)with⟨L,F,o⟩|⟨b7,F,o⟩
     .rw[F,Y2 (c:=aH r.2 4 [60]=true) (by rw[o.is (by omega)];simp)];exact Ya o
     .rw[F];simp only;unfold pj;by_cases z:aH r.2 4 [60]=true
      .rw[Y9 z,Y9 z];unfold mX;refine qr (eF (go (CC o a5)) (fw _ _) ?_);rintro I b2 b4 a3 u ⟨⟨rfl,rfl⟩,rfl⟩;have s:=j.aa (mt (t:=t) false r.2).aa;have O:=s.lt u.hN;exact Sx.ret (u.row ⟨by simp[dz]<;>omega,by simp[dz],by simp[dz]<;>omega,by simp[dz]⟩ (by simp[dz])) ⟨p,v,w,by simp only[kL];rw[A],rfl,⟨by simp,_,mp _ _,s.ca _⟩,by simp⟩
      .rw[Y2 z,Y2 z];exact⟨_,o,p,v,w,by rw[B.d7.1,A],B.d7.2.symm,j,B.f5 j⟩
def yh{n:cP τ}{p:τ}{e:Zc}{all:Bool}{G:tu τ}(s:∀o,qc t n p e all (g.cc o) (G o))(r:Q t g st a) :
  Sy t (λi v b=>G (cu i.H) (i.t,i.m) v b/\rF i (ch t e all a).1 (ch t e all a).2) (dW (aA t) n p st) (ch t e all a).2:=by
 unfold dW ch aG lift;rcases iq r (kd:=2) (l:=[111,112,97,113,117,101]) (by rfl)with⟨q,f,c⟩|⟨w,f,c,j⟩|⟨w,f,c,j⟩
 .rw[f,Y2 (by rw[c.is (by omega),c.is (by omega)];simp)];exact Y8 (c.jh e all)
 .rw[f,Y9 (Y8 c)];have m:a.s.x.text=[111,112,97,113,117,101]:=by grind [aH,hB]
  have u:aH a 2 [115,116,114,105,110,103]=false:=by unfold aH hB;simp_all
  simp only;rw[c];exact qr (Ph (by grind [la]) j m u)
 .rw[f];simp only;unfold mW;simp only[Ye,if_false]
  unfold aG lift;rcases iq j (kd:=2) (l:=[115,116,114,105,110,103]) (by rfl)with⟨q,h,d⟩|⟨y,h,d,k⟩|⟨y,h,d,k⟩
  .rw[h,Y2 (by rw[d.is (by omega),d.is (by omega)];simp)];exact Y8 (d.jh e all)
  .rw[h,Y9 (Ya d)];have m:a.s.x.text=[115,116,114,105,110,103]:=by grind [aH,hB]
   simp only;rw[c];exact qr (Pi (by grind [la]) k m d)
  .rw[h,Y2 (by simp_all)];exact Pe s k
def zI(d:Zc)(e f:Nat):qc t (bb e f) d d false g (λi h b=>b=g/\h=d++[i.1]):=λst a j=>(vz j d e f).K λi h b c=>⟨⟨c.1,c.2.2.2⟩,c.2.1,c.2.2.1⟩
end
section
variable {a i g:Nat}{d:aB}{j:PM aB}{nl:Nl}{r:dk}{q:Type}
variable {t : Zb} {st p : St} {f u w x y : ae} {E h : bz} {m : Mar.aw}
theorem AV(nl:Nl)(a b:Zb)(d:aB)(c:(aL nl a).isSome):aL (dd nl a d) b=if b=a then some (some d)else aL nl b:=by
 unfold aL dd at *
 induction nl with
 |nil=>grind
 |cons g nl i=>
  by_cases j:g.1=a
  .have e:(g.1==a)=true:=by simp_all
   by_cases h:b=a
   .simp_all
   .rw[Y2 h];have f:(g.1==b)=false:=by grind
    simp only[List.map_cons,List.find?,e,if_true,f]
    clear i c;induction nl<;>grind
  grind
def AN{a:Zb}(d:aB)(e:aL nl a=some none):Kp nl (dd nl a d):=λb c f=>by
 rw[AV nl a b d (by simp_all)];grind
theorem il.a9{j:List bg}{l:List dk}(c:il j nl l){a:Zb}(n:aL nl a=some none)(s:nl[i]? = some (a,none))(w:oM j (dd nl a d) (a,some d) r):il j (dd nl a d) (l.set i r):=by
 have o:=AN d n;have t:i<nl.length:=by
  grind
 refine⟨by simp[dd,c.a2],?_,by rw[Ct];exact c.nd⟩;intro e g p b f;unfold dd at b;rw[List.getElem?_map]at b;rw[YP]at f;by_cases m:i=e
 .simp_all
 .rw[Y2 m]at f;cases k:nl[e]? with
  |none=>simp_all
  |some h=>
   rw[k]at b;have v:h.1≠a:=by
    intro q;have u:e<nl.length:=by
     grind
    have x:=List.pairwise_iff_getElem.1 c.nd;grind
   have:(h.1==a)=false:=by simp_all
   simp only[Option.map_some,this,Ye,if_false,Yu]at b
   subst b;simpa using (c.gk e h p k f).ca [] o
abbrev bz.a9(E:bz)(a:Zb)(d:aB):bz:={ E with nl:=dd E.nl a d }
def wX(d:Q t E st f){a:Zb}(c:aL E.nl a=some none):∃(i:Nat) (r:dk),bP f a=(i:Int)/\E.nl[i]? = some (a,none)/\f.A[i]? = some r/\r.s=a:=by
 rcases d.hF a with⟨b,-⟩|⟨i,k,r,b,e,g,h,j⟩
 .simp_all
 .rw[b]at c;cases c
  exact⟨i,r,e,g,h,j.1⟩
def Q.kr(b:Q t E st f){s:Zb}(a:Nat)(v:Int)(e:aL E.nl s=some none)(d:E.pd=[])(l:E.dc=1):Q t { E.a9 s (.const s a v)with dc:=0 } { st with A:=dd st.A s (.const s a v) } (du s v f):=by
 obtain⟨i,r,h,c,j,k⟩:=wX b e;have m:st.A=E.nl:=by rw[b.nl,d];simp
 have g:du s v f = { gz f i 0 v with av:=f.av+1 }:=by
  unfold du;rw[Y9 (by omega),h];rfl
 rw[g];refine⟨b.e,b.wd,?_,Y8 d,?_,b.H,?_,b.pg,b.d6,b.d9,b.ou,b.pr,b.eL,b.e6.a9 c _ _⟩
 .simp_all
 .refine b.nm.a9 e c ⟨?_,rfl,rfl⟩;simp_all
 .have:=b.cn;simp_all
def At(c:Zb)(a:Nat)(b:List dk):Prop:=∃r∈b,r.s=c/\r.m=a
theorem DY{f:Zb}{b:List dk}(h:At f a b)(i:Nat)(g n:Int):At f a (b.set i { b.getD i hI with a7:=g,n:=n }):=by
 obtain⟨r,j,c,d⟩:=h;obtain⟨e,l,rfl⟩:=List.mem_iff_getElem.1 j;by_cases k:i=e
 .subst k;refine⟨{ b[i]with a7:=g,n:=n },?_,c,d⟩;grind [List.mem_iff_getElem]
 .refine⟨b[e],?_,c,d⟩;grind [List.mem_iff_getElem]
def At.m6{d:Zb}(e:At d a f.A)(c:Q t E st f)(b:f.A[i]? = some r)(m:r.s=d):r.m=a:=by
 obtain⟨p,g,j,k⟩:=e;obtain⟨n,l,rfl⟩:=List.mem_iff_getElem.1 g;have h:i<f.A.length:=by
  grind
 rw[Yd h]at b;cases b
 have o:(f.A.map (·.s)).Nodup:=by rw[c.nm.jL];exact c.nm.nd
 grind [List.pairwise_iff_getElem]
def Q.j1(a:Q t E st f){b:Zb}{n:Int}(g:aL E.nl b=some none)(e:E.pd=[])(h:At b (cU d).2 f.A)(p:jW d=true)(s:oS f.w (dd E.nl b d) d n):Q t (E.a9 b d) { st with A:=dd st.A b d } (dq b n f):=by
 obtain⟨i,r,o,c,k,l⟩:=wX a g;have q:st.A=E.nl:=by rw[a.nl,e];simp
 have h:=h.m6 a k l;have j:dq b n f=gz f i 1 n:=by
  simp_all[dq]
 rw[j];refine⟨a.e,a.wd,?_,Y8 e,?_,a.H,a.cn,a.pg,a.d6,a.d9,a.ou,a.pr,a.eL,a.e6.a9 c _ _⟩
 .simp_all
 .refine a.nm.a9 g c ⟨by simp_all,?_⟩;have m:{ f.A.getD i hI with a7:=1,n:=n } = { r with a7:=1,n:=n }:=by grind
  rw[m];cases d<;>simp_all[jW]
def Q.cE(a:Q t E st f)(o:Zb):Q t { E with o:=E.o++o } st (er o f):=⟨a.e,a.wd,a.nl,a.pd,a.nm,a.H,a.cn,a.pg,a.d6,a.d9,by show f.j++o=_;rw[a.ou],a.pr,a.eL,a.e6⟩
def Bd.d1(a:Bd m f)(d j:Int):Er m (aD d j f):=by
 have c:=a.g2;unfold aD;rw[Y9 ⟨a.e,a.k⟩];unfold jp;rw[Y2 (λb=>c.d5 b.1)];omega
def Q.d1{e:Mar.aT}(c:Q t E st f)(i:dK t st.m st.nx=.ok (e,g))(b j:Int):aD b j f=if j<=b then bL 5 e.m f else f:=by
 have a:=c.wd;rw[i]at a;have:=a.2.ev;unfold aD;rw[Y2 (λh=>by have:=h.2;rw[a.1.1]at this;omega)];unfold jp;by_cases d:j<=b
 .rw[Y9 d,Y9 ⟨c.e,d⟩,a.1.2.2.2.1]
 grind
theorem pM{a:Zb}(b:aL nl a=none):dd (nl++[(a,none)]) a d=nl++[(a,some d)]:=by
 unfold dd;rw[List.map_append];congr 1
 .have c:=uu b;conv=>rhs;rw[<-List.map_id nl]
  grind [List.map_congr_left]
 simp
def hW(j:PM aB):PM aB:=aF j λd=>aF (Cs d) λ_=>ret d
def oi(a:j st=.ok (d,p)):hW j st=.ok (d,{ p with A:=dd p.A (cU d).1 d }):=by
 unfold hW aF;rw[a];rfl
theorem hX(a:j st=.error m):hW j st=.error m:=by
 simp_all[hW,aF]
def LI(c:¬40<=st.av)(a:Nat)(b:Unit->PM q):aF (hJ a) b st=b () { st with av:=st.av+1 }:=by
 simp_all[aF,hJ,Y2]
def uP(c:¬24<=st.L)(a:Nat)(b:Unit->PM q):aF (hK a) b st=b () { st with L:=st.L+1 }:=by
 simp_all[aF,hK,Y2]
def uO(c:24<=st.L)(a:Nat)(b:Unit->PM q):aF (hK a) b st=.error ⟨5,a⟩:=by
 simp_all[aF,hK]
structure oL(E h:bz)(d:aB)(o:Zb)(ps:List br):Prop where
 pd:h.pd=[]
 dc:h.dc=0
 fz:h.fz=E.fz
 o:h.o=E.o++o
 ps:h.ps=E.ps++ps
 rf:h.rf=E.rf++(gp d).map λg=>(g.1,(g.2:Int))
 nl:∃cs:Nl,h.nl=E.nl++((cU d).1,some d)::cs/\∀c∈cs,∃a b v,c.2=some (.const a b v)
def tV(a:Zb)(v:Int):Zb:=[99,111,110,115,116,32]++a++[32,61,32]++bO v++[59,10]
def Pb{j:Mar.aT}(k:Q t E st f)(r:E.pd=[])(D:E.dc=0)(u:dK t st.m st.nx=.ok (j,g))(F:aH f 2 [99,111,110,115,116]=true) :
  S t (λd h=>∃c a v,d=.const c a v/\oL E h d (tV c v) []) (hW (jm (aA t) j.m) { st with m:=g,nx:=none }) (fT t f):=by
 have b:=k.d4 u;have o:=k.d1 u f.av 40;have B:=k.cn;rw[D]at B;by_cases z:40<=st.av
 .rw[Y9 (by omega)]at o;have i:jm (aA t) j.m { st with m:=g,nx:=none } = .error ⟨5,j.m⟩:=by
   simp_all[jm,aF,hJ]
  rw[hX i];have:=Qh (t:=t) f;rw[o]at this;exact(k.d0 (e:=5) (a:=j.m) (by omega)).bM this
 .rw[Y2 (by omega)]at o;have H:Q t { E with dc:=1 } { st with m:=g,nx:=none,av:=st.av+1 } (af t 2 [99,111,110,115,116] (aD f.av 40 f)):=by
   rw[o,mF F];exact⟨b.e,b.wd,b.nl,b.pd,b.nm,b.H,by have:=b.cn;simp_all,b.pg,b.d6,b.d9,b.ou,b.pr,b.eL,b.e6⟩
  unfold fT;simp only;generalize af t 2 [99,111,110,115,116] (aD f.av 40 f)=q at *
  have i:S t (λd h=>∃c a v,d=.const c a v/\h = { E with dc:=1,nl:=E.nl++[(c,none)] }/\aL E.nl c=none/\(aR t 2 q).1.text=c/\(bn t (-2147483648) 4294967295 (af t 4 [61] (aR t 2 q).2)).1.1=v) (jm (aA t) j.m { st with m:=g,nx:=none }) (af t 4 [59] (bn t (-2147483648) 4294967295 (af t 4 [61] (aR t 2 q).2)).2):=by
   unfold jm;rw[LI (st:={ st with m:=g,nx:=none }) z];refine eZ (rk H r) ((aZ _ _ _).u ((hc _ _ _).u (aZ _ _ _))) ?_;rintro w a3 x p ⟨rfl,M,-,N,-⟩;refine eZ (eC p (kd:=4) (l:=[61]) (by rfl)) ((hc _ _ _).u (aZ _ _ _)) ?_;rintro L a4 R I ⟨rfl,-⟩;refine eZ (sZ I (-2147483648) 4294967295) (aZ _ _ _) ?_;rintro v a5 a0 J ⟨rfl,O,-⟩;refine eZ (eC J (kd:=4) (l:=[59]) (by rfl)) (dV _) ?_;rintro L a6 a1 K ⟨rfl,-⟩;exact S.ret K ⟨w.1,w.2,v.1,rfl,rfl,N,M,by rw[O]⟩
  generalize af t 4 [59] (bn t (-2147483648) 4294967295 (af t 4 [61] (aR t 2 q).2)).2=P at *
  cases n:jm (aA t) j.m { st with m:=g,nx:=none }with
  |error m=>
   rw[n]at i;have i:Er m P:=i;rw[hX n,Y9 i.d5];exact i
  |ok a2=>
   rw[n]at i;obtain⟨x,p,c,a,v,C,rfl,s,y,A⟩:=i;rw[oi n,Y2 (by simpa using p.e),y,A];rw[C];have G:=(p.kr a v (by rw[oq _ _ _ s,Y9 rfl]) r rfl).cE (tV c v);exact⟨_,G,c,a,v,rfl,⟨r,rfl,rfl,rfl,by simp,by simp[gp],[],by show dd (E.nl++[(c,none)]) c _=_;rw[pM s];rfl,by simp⟩⟩
def FY(y:E.pd=[]):qc t (fW nn) () [] true E (λu _ h=>h = { E with pd:=[(u.1,none)] }/\aL E.nl u.1=none):=λst f k=>by
 unfold name aG lift;rcases pk t st with⟨c,g,e⟩|⟨m,e⟩
 .rw[mj e];simp only;by_cases s:c.C=1
  .obtain⟨v,w,d⟩:=yL k e s;rw[Y9 (by simp_all)];have b:=k.d4 e;have x:aL E.nl c.text=none/\bP (aW t f) c.text<0\/(∃n,aL E.nl c.text=some n)/\0<=bP (aW t f) c.text:=by
    rcases b.hF c.text with j|⟨i,n,r,j,o,-⟩;all_goals simp_all
   have B:st.A=E.nl:=by rw[k.nl,y];simp
   have z:(fW nn).a4 c () { st with m:=g,nx:=none } = match aL E.nl c.text with
     |none=>.ok ((),(),{ st with m:=g,nx:=none,A:=E.nl++[(c.text,none)] })
     |some _=>.error ⟨6,c.m⟩:=by
    show lift (fV c) () { st with m:=g,nx:=none } = _;unfold lift fV;grind
   rw[z];unfold cd;simp only[if_true]
   rw[d,v,w];rcases x with⟨j,o⟩|⟨⟨n,j⟩,o⟩
   .rw[j];have q:decide (0<=bP (aW t f) c.text)=false:=by simp_all
    rw[Y2 (λl=>by simp_all)];refine⟨{ E with pd:=[(c.text,none)] },⟨by rw[d];exact b.e,by rw[d];exact b.wd,rfl,Ya ⟨_,rfl,j⟩,by rw[d];exact b.nm,by rw[d];exact b.H,by rw[d];exact b.cn,by rw[d];exact b.pg,by rw[d];exact b.d6,by rw[d];exact b.d9,by rw[d];exact b.ou,by rw[d];exact b.pr,by rw[d];exact b.eL,by rw[d];exact b.e6⟩,⟨rfl,j⟩,v,w⟩
   .rw[j];have q:decide (0<=bP (aW t f) c.text)=true:=by simp_all
    rw[Y9 ⟨b.e,q⟩];exact b.d0 (e:=6) (a:=c.m) (by omega)
  .rw[Y2 (by grind)];have A:=yO k e s;have p:=k.gd e;have:(cd t [] true f).2=dj f:=by
    unfold cd;simp only;rw[A,Y2 (λl=>p.d5 l.1)];omega
   rw[this];exact p
 .rw[nk e];exact(k.bd e).iG [] true
end
section
variable {nl:Nl}{o:Option aB}{b:Nat}
variable {t : Zb} {st f : St} {σ g h i j : ae} {E c : bz} {d : Mar.aw}
def JW(nl:Nl)(b a:Zb)(o:Option aB)(c:aL nl b=none):aL (nl++[(b,o)]) a=if a=b then some o else aL nl a:=by
 unfold aL at *
 grind
def JC{a:Zb}(b:aL nl a=none):Kp nl (nl++[(a,o)]):=λc d e=>by
 rw[JW nl a c o b];grind
def il.nO{d:List bg}{i:List dk}(c:il d nl i){a:Zb}{j:dk}(k:aL nl a=none)(m:oM d (nl++[(a,o)]) (a,o) j):il d (nl++[(a,o)]) (i++[j]):=by
 refine⟨by simp[c.a2],?_,?_⟩
 .intro h b l f g;rcases Yj h nl.length with e|e
  .rw[Ys e]at f;rw[Ys (by rw[c.a2];omega)]at g;have:=(c.gk h b l f g).ca [] (JC (o:=o) k);simp_all
  grind [a2]
 .rw[List.map_append,YJ];grind [nd,uu]
def gi(σ:ae):ae:={ aD σ.L 24 σ with L:=(aD σ.L 24 σ).L+1 }
def vg{h:Mar.aT}(c:Q t E st σ)(f:dK t st.m st.nx=.ok (h,b)){kw:Zb}(g:aH σ 2 kw=true)(i:¬24<=st.L):Q t E { st with m:=b,nx:=none,L:=st.L+1 } (af t 2 kw (gi σ)):=by
 have a:=c.d4 f;have d:=c.d1 f σ.L 24;have j:=c.H;rw[Y2 (by omega)]at d;unfold gi;rw[d,mF (σ:={ σ with L:=σ.L+1 }) g];exact⟨a.e,a.wd,a.nl,a.pd,a.nm,by show σ.L+1=((st.L+1:Nat):Int);omega,a.cn,a.pg,a.d6,a.d9,a.ou,a.pr,a.eL,a.e6⟩
def vh{d:Mar.aT}(c:Q t E st σ)(g:dK t st.m st.nx=.ok (d,b))(h:24<=st.L):Er ⟨5,d.m⟩ (gi σ):=by
 have f:=c.d1 g σ.L 24;have i:=c.H;rw[Y9 (by omega)]at f;have:=c.d0 (e:=5) (a:=d.m) (by omega);unfold gi;rw[f];exact⟨this.e,this.a,this.z⟩
def vK(a:aO):Zb:=[116,121,112,101,100,101,102,32]++kL a.H++a.t++mS a.H++[59,10]
def Ps{m:Mar.aT}(D:Q t E st σ)(x:E.pd=[])(J:E.dc=0)(H:dK t st.m st.nx=.ok (m,b))(K:aH σ 2 [116,121,112,101,100,101,102]=true) :
  S t (λh c=>∃C,h=.typedef C/\oL E c h (vK C) []) (hW (jw (aA t) m.m) { st with m:=b,nx:=none }) (gj t (gi σ)):=by
 by_cases p:24<=st.L
 .have w:jw (aA t) m.m { st with m:=b,nx:=none } = .error ⟨5,m.m⟩:=uO (st:={ st with m:=b,nx:=none }) p _ _;rw[hX w];exact(vh D H p).bM (Qp _)
 .have L:=vg D H K p;have w:jw (aA t) m.m { st with m:=b,nx:=none } = aF (md (aA t)) (λh=>aF (bY (aA t) [59]) λ_=>ret (.typedef h)) { st with m:=b,nx:=none,L:=st.L+1 }:=uP (st:={ st with m:=b,nx:=none }) p _ _;unfold gj;simp only;generalize af t 2 [116,121,112,101,100,101,102] (gi σ)=N at *
  have g:=yh (G:=λA I _ c=>c = { E.cc A with pd:=[(I.1,none)] }/\aL E.nl I.1=none) (λA=>FY (E:=E.cc A) x) L;generalize ch t [] true N=f at *
  cases u:dW (aA t) (fW nn) () { st with m:=b,nx:=none,L:=st.L+1 }with
  |error d=>
   rw[u]at g;have n:jw (aA t) m.m { st with m:=b,nx:=none } = .error d:=by
    simp_all[aF,md,hA]
   rw[hX n];rcases g with g|g
   .rw[Y9 g.d5];exact g
   .rw[Y2 (by simpa using g.e)];have s:Bd d { f.2 with A:=f.2.A++[⟨f.1.x.text,1,f.1.r,f.1.x.m⟩] }:=⟨g.e,g.k,g.n,g.a,g.z⟩;exact(s.hv (t:=t) (kd:=4) (l:=[59]) (by omega)).bM (mw _ _)
  |ok y=>
   obtain⟨h,a0,M⟩:=y;rw[u]at g;obtain⟨O,q,⟨rfl,F⟩,ok⟩:=g;rw[Y2 (by simpa using q.e)];have j:=eC q (kd:=4) (l:=[59]) (by rfl);cases v:bY (aA t) [59] M with
   |error d=>
    rw[v]at j;have j:Er d (af t 4 [59] f.2):=j;have n:jw (aA t) m.m { st with m:=b,nx:=none } = .error d:=by
     simp_all[aF,md,hA]
    rw[hX n];have s:Er d (af t 4 [59] { f.2 with A:=f.2.A++[⟨f.1.x.text,1,f.1.r,f.1.x.m⟩] }):=⟨j.e,j.a,j.z⟩;exact s.bM (mw _ _)
   |ok y=>
    obtain⟨a1,B⟩:=y;rw[v]at j;obtain⟨P,i,rfl,-⟩:=j;have n:jw (aA t) m.m { st with m:=b,nx:=none } = .ok (.typedef h,B):=by
     rw[w];unfold aF md hA;rw[u];simp only;rw[v];rfl
    rw[oi n];have R:B.A=E.nl++[(h.t,none)]:=i.nl;simp only at F;refine⟨{ E.cc (cu h.H)with nl:=E.nl++[(h.t,some (.typedef h))],o:=E.o++vK h },?_,h,rfl,⟨x,J,rfl,rfl,by simp[bz.cc],rfl,[],rfl,by simp⟩⟩;refine⟨i.e,i.wd,?_,Y8 x,?_,i.H,i.cn,i.pg,i.d6,i.d9,?_,i.pr,i.eL,i.e6.h3 i.nm.a2 _ _⟩
    .show dd B.A h.t _=_++E.pd;grind [pM]
    .show il f.2.w _ (f.2.A++[_]);refine q.nm.nO F ⟨ok.x,rfl,?_,ok.h0,ok.f5⟩;show ((f.1.x.m:Nat):Int)=_;rw[ok.m];rfl
    .show f.2.j++_=_;have:=q.ou;simp only at this;rw[this,ok.d7,ok.e5,ok.x];rfl
def vy(m:Q t E st σ)(g:List (Int×Int))(f:List Int)(p:g.map (·.1)=f)(d b:Int) :
  Sx t (λh k c=>c=E/\h=(bn t d b σ).1.1/\k.map (·.1)=f++[h]/\k.length=g.length+1/\df d b h=true) (fM (aA t) (df d b) g st) (if(bn t d b σ).2.s.e=0/\f.contains (bn t d b σ).1.1=true then bL 6 (bn t d b σ).1.2 (bn t d b σ).2 else (bn t d b σ).2):=by
 unfold fM;have q:=sZ m d b;generalize bn t d b σ=v at *
 refine eF (go q) (kk _ _ _ _) ?_;rintro l u w r i ⟨⟨rfl,n,o⟩,rfl⟩;unfold aG kh kF;dsimp only;rw[p,n];simp only;by_cases e:f.contains l.1=true
 .rw[Y9 e,Y9 ⟨i.e,e⟩];exact i.d0 (e:=6) (a:=l.2) (by omega)
 .rw[Y2 e,Y2 (λj=>e j.2)];exact⟨_,i,rfl,rfl,by grind,by simp,o⟩
def it(a:Zb×Nat×Int):Zb:=a.1++[32,61,32]++bO a.2.2
def hC(t:Zb)(a:Nat)(σ:ae):dO×ae:=aR t 2 (aD (aD a 12 σ).av 40 (aD a 12 σ))
def ge(t:Zb)(a:Nat)(σ:ae):(Int×Int)×ae:=bn t (-2147483648) 2147483647 (af t 4 [61] (hC t a σ).2)
def eO(t:Zb)(a:List Int)(σ:ae):ae:=if(ge t a.length σ).2.s.e=0/\a.contains (ge t a.length σ).1.1=true then bL 6 (ge t a.length σ).1.2 (ge t a.length σ).2 else (ge t a.length σ).2
def fD(t:Zb)(a:List Int)(σ:ae):ae:=if(eO t a σ).s.e≠0 then eO t a σ else du (hC t a.length σ).1.text (ge t a.length σ).1.1 (eO t a σ)
def CU(a:List Int)(σ:ae):aX (aD a.length 12 σ) (eO t a σ):=by
 unfold eO;refine aX.u ?_ (kk _ _ _ _);unfold ge hC;exact(CR _ _ _).u ((oE _ _).u ((aZ _ _ _).u (hc _ _ _)))
def ro(a:List Int)(σ:ae):aX (eO t a σ) (fD t a σ):=by
 grind [fD,dV,CT]
def Pf(k:Q t E st σ)(x:E.pd=[])(J:E.dc=0)(l:List (Int×Int))(e:List Int)(K:l.map (·.1)=e)(m:Zb×Nat)(b1:aL E.nl m.1=some none)(a9:At m.1 m.2 σ.A) :
  Sx t (λf L c=>e.length<12/\(hC t e.length σ).1.text=f.1/\(ge t e.length σ).1.1=f.2.2/\L.map (·.1)=e++[f.2.2]/\(eO t e σ).s.e=0/\c.pd=[]/\c.dc=0/\c.fz=E.fz/\c.o=E.o/\c.ps=E.ps/\c.rf=E.rf/\c.nl=E.nl++[(f.1,some (.const f.1 f.2.1 f.2.2))]/\aL c.nl m.1=some none/\At m.1 m.2 (fD t e σ).A/\df (-2147483648) 2147483647 f.2.2=true) (hE (aA t) e.length l st) (fD t e σ):=by
 unfold hE;rcases pk t st with⟨h,b,p⟩|⟨d,p⟩
 .have r:=k.d1 p e.length 12;have n:∀{j:Type} (g:Mar.aT->PX (List (Int×Int)) j),aG (lift (ft (aA t))) g l st=g h l { st with m:=b,nx:=some h }:=λg=>by
   grind [aG,lift,pH]
  rw[n];have i:=k.g1 p;by_cases D:12<=e.length
  .rw[Y9 (by omega)]at r;unfold aG lift dS;rw[Y9 D];have:=CU (t:=t) e σ;rw[r]at this;exact((k.d0 (e:=5) (a:=h.m) (by omega)).bM this).bM (ro _ _)
  .rw[Y2 (by omega)]at r;have C:∀{j:Type} (g:Unit->PX (List (Int×Int)) j),aG (lift (dS e.length 12 h.m)) g l { st with m:=b,nx:=some h } = g () l { st with m:=b,nx:=some h }:=λg=>by
    simp_all[aG,lift,dS,Y2]
   rw[C];have I:=k.cn;rw[J]at I;have w:=k.d1 p σ.av 40;by_cases a8:40<=st.av
   .rw[Y9 (by omega)]at w;have u:∀{j:Type} (g:Unit->PX (List (Int×Int)) j),aG (lift (hJ h.m)) g l { st with m:=b,nx:=some h } = .error ⟨5,h.m⟩:=λg=>by
     simp_all[aG,lift,hJ]
    rw[u];have F:=k.d0 (e:=5) (a:=h.m) (by omega);refine Er.bM (σ:=eO t e σ) ?_ (ro _ _);unfold eO;refine Er.bM ?_ (kk _ _ _ _);unfold ge hC;rw[r,w];exact F.bM ((oE _ _).u ((aZ _ _ _).u (hc _ _ _)))
   .rw[Y2 (by omega)]at w;have u:∀{j:Type} (g:Unit->PX (List (Int×Int)) j),aG (lift (hJ h.m)) g l { st with m:=b,nx:=some h } = g () l { st with m:=b,nx:=some h,av:=st.av+1 }:=λg=>by
     simp_all[aG,lift,hJ,Y2]
    rw[u];have M:Q t { E with dc:=1 } { st with m:=b,nx:=some h,av:=st.av+1 } σ:=⟨i.e,i.wd,i.nl,i.pd,i.nm,i.H,by simp_all,i.pg,i.d6,i.d9,i.ou,i.pr,i.eL,i.e6⟩;have G:hC t e.length σ=aR t 2 σ:=by unfold hC;simp_all
    have P:aX (hC t e.length σ).2 (fD t e σ):=by
     refine aX.u ?_ (ro _ _);unfold eO;refine aX.u ?_ (kk _ _ _ _);unfold ge;exact(aZ _ _ _).u (hc _ _ _)
    have R:aX (af t 4 [61] (hC t e.length σ).2) (fD t e σ):=by
     refine aX.u ?_ (ro _ _);unfold eO;refine aX.u ?_ (kk _ _ _ _);grind [ge,hc]
    have y:=rk M x;rw[<-G]at y;refine eF (go y) P ?_;rintro f b4 b7 a5 N ⟨⟨rfl,A,c0,a1,a2⟩,rfl⟩;refine eF (go (eC N (kd:=4) (l:=[61]) (by rfl))) R ?_;rintro b9 b5 b8 a6 O ⟨⟨rfl,-⟩,rfl⟩;refine eF (vy O _ e K (-2147483648) 2147483647) (ro e σ) ?_;rintro v b6 a0 a7 q ⟨rfl,B,a3,c1,a4⟩;have q:Q t _ a0 (eO t e σ):=q;have z:fD t e σ=du (hC t e.length σ).1.text (ge t e.length σ).1.1 (eO t e σ):=by
     unfold fD;rw[Y2 (by simpa using q.e)]
    have b0:=q.kr f.2 v (s:=f.1) (by simp_all[oq]) x rfl;have b3:(eO t e σ).A=σ.A++[⟨f.1,2,-1,f.2⟩]:=by
     rw[<-a2];have:Sm (hC t e.length σ).2 (eO t e σ):=by
      unfold eO;refine Sm.u ?_ (jv _ _ _ _);unfold ge;exact(az _ _ _).u (fZ _ _ _)
     exact this.A
    have b2:m.1≠f.1:=λn=>by simp_all
    refine⟨{ (bz.a0 { E with dc:=1 } f.1).a9 f.1 (.const f.1 f.2 v)with dc:=0 },?_,by omega,A,B.symm,a3,q.e,x,rfl,rfl,rfl,rfl,rfl,?_,?_,?_,a4⟩
    .rw[z,A];rw[show (ge t e.length σ).1.1=v from B.symm];omega
    .exact pM a1
    .simp_all[AV,oq]
    .rw[z];unfold du;simp only;split
     .grind [At,gz,DY]
     grind [At]
 .have H:=k.bd p;have n:∀{j:Type} (g:Mar.aT->PX (List (Int×Int)) j),aG (lift (ft (aA t))) g l st=.error d:=λg=>by
   simp_all[aG,lift,sR]
  rw[n];exact((H.d1 e.length 12).bM (CU e σ)).bM (ro e σ)
end
section
variable {t : Zb} {st g : St} {a h i j k : ae} {b c : bz} {f : Mar.aw}
def ln(t:Zb)(a:Bool×List Int×Zb×ae):ae:=if a.1=true then a.2.2.2 else af t 4 [59] (af t 4 [125] a.2.2.2)
def yq(a:Bool×List Int×Zb×ae):aX a.2.2.2 (ln t a):=by
 unfold ln;split
 .exact dV _
 .exact(aZ _ _ _).u (aZ _ _ _)
def qG(h:a.s.e=0)(f:Nat)(b:List Int)(d:Zb):da t (f+1) b d a=if(eO t b a).s.e≠0 then (true,b,d,eO t b a)
  else if aH (fD t b a) 4 [44]=true then da t f (b++[(ge t b.length a).1.1]) (d++(hC t b.length a).1.text++[32,61,32]++bO (ge t b.length a).1.1++[44,32]) (aW t (fD t b a))
  else (false,b++[(ge t b.length a).1.1],d++(hC t b.length a).1.text++[32,61,32]++bO (ge t b.length a).1.1,fD t b a):=by
 by_cases c:(eO t b a).s.e≠0
 .rw[Y9 c];conv=>lhs;unfold da
  rw[Y2 (by omega)];simp only;exact Y9 c
 .rw[Y2 c];have g:fD t b a=du (hC t b.length a).1.text (ge t b.length a).1.1 (eO t b a):=by
   simp_all[fD]
  rw[g];conv=>lhs;unfold da
  rw[Y2 (by omega)];simp only;exact Y2 c
def rZ(a:Zb×Nat×Int):Zb×Option aB:=(a.1,some (.const a.1 a.2.1 a.2.2))
def Pd(h:Zb×Nat):∀(e:Nat) (d:List (Zb×Nat×Int)) (l:List (Int×Int)) (j:Zb) (st:St) (a:ae) (b:bz),Q t b st a->b.pd=[]->b.dc=0->d.length+e=13->d.length<=12->l.map (·.1)=d.map (·.2.2)->aL b.nl h.1=some none->At h.1 h.2 a.A->(∀m∈d.map (·.2.2),df (-2147483648) 2147483647 m=true)->
  S t (λA c=>∃k g,A=.enum h.1 h.2 (d++k++[g])/\(da t e (d.map (·.2.2)) j a).1=false/\(da t e (d.map (·.2.2)) j a).2.1=(d++k++[g]).map (·.2.2)/\(da t e (d.map (·.2.2)) j a).2.2.1=j++k.flatMap (λg=>it g++[44,32])++it g/\c.pd=[]/\c.dc=0/\c.fz=b.fz/\c.o=b.o/\c.ps=b.ps/\c.rf=b.rf/\c.nl=b.nl++(k++[g]).map rZ/\aL c.nl h.1=some none/\At h.1 h.2 (ln t (da t e (d.map (·.2.2)) j a)).A/\(∀m∈(d++k++[g]).map (·.2.2),df (-2147483648) 2147483647 m=true)) (gL (aA t) h e d l st) (ln t (da t e (d.map (·.2.2)) j a)):=by
 intro e;induction e with
 |zero=>omega
 |succ e b5=>
  intro d l j st a b B b4 a8 d6 d7 b0 b3 a7 d5;have i:=Pf B b4 a8 l (d.map (·.2.2)) b0 h b3 a7;have b1:(d.map (·.2.2)).length=d.length:=by simp
  rw[qG B.e];unfold gL;rw[b1]at i ⊢;cases E:hE (aA t) d.length l st with
  |error f=>
   rw[E]at i;have i:Er f (fD t (d.map (·.2.2)) a):=i;have C:(eO t (d.map (·.2.2)) a).s.e≠0:=by
    intro C;have D:=i.d5;unfold fD at D;rw[Y2 (by omega)]at D;grind [du,gz]
   have a6:fD t (d.map (·.2.2)) a=eO t (d.map (·.2.2)) a:=by
    unfold fD;grind
   rw[a6]at i;rw[Y9 C];exact i.bM (yq (true,_,_,_))
  |ok b8=>
   obtain⟨g,b6,F⟩:=b8;rw[E]at i;obtain⟨G,b9,c6,H,I,c8,c9,x,y,J,K,L,M,z,v,w,c7⟩:=i;rw[Y2 (by omega),H,I];dsimp only;generalize fD t (d.map (·.2.2)) a=c2 at *
   have b2:(d++[g]).map (·.2.2)=d.map (·.2.2)++[g.2.2]:=by simp
   have a9:∀m∈(d++[g]).map (·.2.2),df (-2147483648) 2147483647 m=true:=by
    grind
   rcases iq b9 (kd:=4) (l:=[44]) (by rfl)with⟨d4,q,n⟩|⟨p,q,n,r⟩|⟨p,q,n,r⟩
   .unfold aF;rw[q,Y2 (by rw[n.is (by omega)];simp)];unfold ln;rw[Y2 (by simp)];exact(n.hv (t:=t) (kd:=4) (l:=[125]) (by omega)).bM (aZ _ _ _)
   .have u:∀(e:Bool->PM aB),aF (cZ (aA t) [44]) e F=e true p:=λe=>by grind [aF]
    rw[u,Y9 n];simp only[if_true]
    rw[<-b2];have:=b5 (d++[g]) b6 (j++g.1++[32,61,32]++bO g.2.2++[44,32]) p (aW t c2) G r x y (by grind) (by grind) (by grind) v w a9;refine this.K ?_;rintro A c3 ⟨k,b7,N,R,a0,a1,a2,a3,d0,d1,d2,d3,a4,a5,O,P⟩;refine⟨g::k,b7,by rw[N];simp,R,by rw[a0];simp,?_,a2,a3,by grind,by grind,by grind,by grind,by rw[a4,z];simp[rZ],a5,O,by simpa using P⟩;rw[a1];simp[it]
   .have u:∀(e:Bool->PM aB),aF (cZ (aA t) [44]) e F=e false p:=λe=>by grind [aF]
    rw[u,Y2 (by grind)];simp only[Ye,if_false]
    unfold oe ln;rw[Y2 (by simp)];refine eZ (eC r (kd:=4) (l:=[125]) (by rfl)) (aZ _ _ _) ?_;rintro m d8 c4 c0 ⟨rfl,-⟩;refine eZ (eC c0 (kd:=4) (l:=[59]) (by rfl)) (dV _) ?_;rintro m d9 c5 c1 ⟨rfl,-⟩;exact S.ret c1 ⟨[],g,by simp,trivial,by simp,by simp[it],x,y,J,K,L,M,by rw[z];rfl,v,w,by grind⟩
def Ae(c:Zb)(b:List (Zb×Nat×Int))(a:Zb×Nat×Int):Zb:=[101,110,117,109,32]++c++[32,123,32]++b.flatMap (λa=>it a++[44,32])++it a++[32,125,59,10]
theorem wn(d:List dk)(a:Zb×Nat)(c b:Int):At a.1 a.2 (d++[⟨a.1,c,b,a.2⟩]):=⟨⟨a.1,c,b,a.2⟩,by simp,rfl,rfl⟩
def Pc{n:Mar.aT}{j:Nat}(D:Q t b st a)(E:b.pd=[])(a2:b.dc=0)(v:dK t st.m st.nx=.ok (n,j))(a3:aH a 2 [101,110,117,109]=true) :
  S t (λd c=>∃H K F g,d=.enum H K (F++[g])/\oL b c d (Ae H F g) []) (hW (gX (aA t) n.m) { st with m:=j,nx:=none }) (gK t (gi a)):=by
 by_cases u:24<=st.L
 .have k:gX (aA t) n.m { st with m:=j,nx:=none } = .error ⟨5,n.m⟩:=uO (st:={ st with m:=j,nx:=none }) u _ _;rw[hX k];exact(vh D v u).bM (Qi _)
 .have a6:=vg D v a3 u;have a4:gX (aA t) n.m { st with m:=j,nx:=none } = aF (gf (aA t)) (λe=>aF (bY (aA t) [123]) λ_=>gL (aA t) e 13 [] []) { st with m:=j,nx:=none,L:=st.L+1 }:=uP (st:={ st with m:=j,nx:=none }) u _ _;unfold gK;simp only;generalize af t 2 [101,110,117,109] (gi a)=h at *
  have k:S t (λd c=>∃e:Zb×Nat,(aR t 2 h).1.text=e.1/\∃i g,d=.enum e.1 e.2 (i++[g])/\(da t 13 [] ([101,110,117,109,32]++(aR t 2 h).1.text++[32,123,32]) (af t 4 [123] (aR t 2 h).2)).1=false/\(da t 13 [] ([101,110,117,109,32]++(aR t 2 h).1.text++[32,123,32]) (af t 4 [123] (aR t 2 h).2)).2.1=(i++[g]).map (·.2.2)/\(da t 13 [] ([101,110,117,109,32]++(aR t 2 h).1.text++[32,123,32]) (af t 4 [123] (aR t 2 h).2)).2.2.1=[101,110,117,109,32]++e.1++[32,123,32]++i.flatMap (λg=>it g++[44,32])++it g/\c.pd=[]/\c.dc=0/\c.fz=b.fz/\c.o=b.o/\c.ps=b.ps/\c.rf=b.rf/\c.nl=b.nl++[(e.1,none)]++(i++[g]).map rZ/\aL b.nl e.1=none/\aL c.nl e.1=some none/\At e.1 e.2 (ln t (da t 13 [] ([101,110,117,109,32]++(aR t 2 h).1.text++[32,123,32]) (af t 4 [123] (aR t 2 h).2))).A/\(∀I∈(i++[g]).map (·.2.2),df (-2147483648) 2147483647 I=true))
    (gX (aA t) n.m { st with m:=j,nx:=none }) (ln t (da t 13 [] ([101,110,117,109,32]++(aR t 2 h).1.text++[32,123,32]) (af t 4 [123] (aR t 2 h).2))):=by
   rw[a4];refine eZ (rk a6 E) ((aZ _ _ _).u ((yr _ _ _ _).u (yq _))) ?_;rintro e b7 w m ⟨rfl,J,b9,c0,c1⟩;refine eZ (eC m (kd:=4) (l:=[123]) (by rfl)) ((yr _ _ _ _).u (yq _)) ?_;rintro I a9 b1 y ⟨rfl,-⟩;have:=Pd e 13 [] [] ([101,110,117,109,32]++(aR t 2 h).1.text++[32,123,32]) a9 (af t 4 [123] (aR t 2 h).2) _ y E a2 (by simp) (by simp) rfl (by simp_all[oq]) (by
    show At e.1 e.2 (aR t 2 h).2.A;grind [wn]) (by simp)
   refine this.K ?_;grind
  generalize da t 13 [] ([101,110,117,109,32]++(aR t 2 h).1.text++[32,123,32]) (af t 4 [123] (aR t 2 h).2)=s at *
  cases p:gX (aA t) n.m { st with m:=j,nx:=none }with
  |error f=>
   rw[p]at k;have k:Er f (ln t s):=k;rw[hX p];unfold ln at k;split at k
   .rename_i x;rw[Y9 x];exact k
   .rename_i x;rw[Y2 x];exact k.bM ((fw _ _).u ((rs _ _ _).u (mw _ _)))
  |ok a5=>
   obtain⟨d,b8⟩:=a5;rw[p]at k;obtain⟨w,m,e,J,i,g,rfl,M,N,O,z,P,R,a0,b3,b4,A,a1,B,q,L⟩:=k;rw[oi p,Y2 (by simp_all),J,N,O];unfold ln at m q;rw[M]at m q;simp only[Ye,if_false]at m q
   generalize af t 4 [59] (af t 4 [125] s.2.2.2)=b0 at *
   have y:=m.row (r:=qH (i++[g])) ⟨by simp<;>omega,by simp,by simp<;>omega,λ_=>L⟩ (by simp);have a7:=y.j1 (d:=.enum e.1 e.2 (i++[g])) (n:=b0.w.length) B z q rfl ⟨by simp,mp _ _⟩;have a8:=a7.cE ([101,110,117,109,32]++e.1++[32,123,32]++i.flatMap (λg=>it g++[44,32])++it g++[32,125,59,10]);refine⟨_,a8,e.1,e.2,i,g,rfl,⟨z,P,R,by show w.o++_=_;rw[a0];rfl,by simp_all,by simp_all[gp],(i++[g]).map rZ,?_,?_⟩⟩
   .show dd w.nl e.1 _=_;rw[A]at B ⊢;unfold dd;rw[List.map_append];have C:=pM (d:=.enum e.1 e.2 (i++[g])) a1;unfold dd at C;rw[C];rw[YN];congr 1;show _::_=_::_;congr 1;conv=>rhs;rw[<-List.map_id ((i++[g]).map rZ)]
    apply List.map_congr_left;intro j v;have b5:j.1≠e.1:=λs=>by
     have G:=m.nm.nd;rw[A,List.map_append,YJ]at G;exact G.2.2 e.1 (by simp) e.1 (YE.2 ⟨j,v,s⟩) rfl
    simp_all
   .intro b2 p;obtain⟨b6,-,rfl⟩:=YE.1 p;exact⟨_,_,_,rfl⟩
end
section
variable {a h n c:Nat}{k i:Type}
variable {t : Zb} {st p : St} {b m q u o : ae} {f g : bz} {j : Mar.aw}
def gb(e:List bg)(b:List aO)(d:List Int):Prop:=d.length=b.length/\∀(a:Nat) (c:Int) (h:aO),d[a]? = some c->b[a]? = some h->dt e h.H c
def gb.aa{e:List aO}{f:List Int}(d:gb b.w e f)(j:cC b m):gb m.w e f:=⟨d.1,λi c h a g=>(d.2 i c h a g).aa j⟩
def gb.h3{g:List bg}{f:List aO}{k:List Int}(a:gb g f k){i:aO}{l:Int}(m:dt g i.H l):gb g (f++[i]) (k++[l]):=by
 refine⟨by simp[a.1],?_⟩;intro j c h e d;rcases Yj j f.length with b|b
 .rw[Ys b]at d;rw[Ys (by rw[a.1];omega)]at e;exact a.2 j c h e d
 .rw[Yw b]at d;rw[Yw (by rw[a.1];omega),a.1]at e;grind
def gb.lt{a:List bg}{d:List aO}{e:List Int}(g:5<=a.length)(b:gb a d e):∀f∈e,f<a.length:=by
 intro f j;obtain⟨c,h,rfl⟩:=List.mem_iff_getElem.1 j;have i:c<d.length:=by rw[<-b.1];omega
 exact(b.2 c _ _ (Yd h) (Yd i)).lt g
def js(a:aO):Zb:=kL a.H++a.t++mS a.H++[59,32]
abbrev fv(t:Zb)(n:Nat)(a:Zc)(b:ae):jb×ae:=ch t a false (aD n 12 b)
theorem td(g:b.s.e=0)(f:Nat)(a:List Int)(c:Zc)(d:Zb):dv t (f+1) a c d b =
  if aH (af t 4 [59] (fv t a.length c b).2) 4 [125]=true then (a++[(fv t a.length c b).1.r],d++(fv t a.length c b).1.d7++(fv t a.length c b).1.x.text++(fv t a.length c b).1.e5++[59,32],af t 4 [59] (fv t a.length c b).2)
  else dv t f (a++[(fv t a.length c b).1.r]) (c++[(fv t a.length c b).1.x.text]) (d++(fv t a.length c b).1.d7++(fv t a.length c b).1.x.text++(fv t a.length c b).1.e5++[59,32]) (af t 4 [59] (fv t a.length c b).2):=by
 simp_all[dv]
def Da(g:b.s.e=0)(d:Nat)(c:List Int)(a:Zc)(f:Zb):aX (af t 4 [59] (fv t c.length a b).2) (dv t (d+1) c a f b).2.2:=by
 grind [td,dV,yt]
def CZ(g:b.s.e=0)(c:Nat)(a:List Int)(d:Zc)(f:Zb):aX (aD a.length 12 b) (dv t (c+1) a d f b).2.2:=((vE _ _ _).u (aZ _ _ _)).u (Da g c a d f)
theorem Bd.nR(a:Bd j b)(c:Nat)(g:List Int)(d:Zc)(f:Zb):Er j (dv t (c+1) g d f b).2.2:=(a.d1 _ _).bM (CZ a.e c g d f)
def Pj(o:Q t f st b)(a:dy)(l:List aO)(d:Zc):Sx t (λ_ c g=>∃h,g=f.cc (cu h.H)/\c=(l++[h],d++[h.t])/\rF h (ch t d false b).1 (ch t d false b).2) (iB (aA t) a (l,d) st) (af t 4 [59] (ch t d false b).2):=by
 have e:=yh (G:=λm n i g=>g=f.cc m/\i=d++[n.1]) (λm=>zI d a.q a.bx) o;unfold iB;simp only;generalize ch t d false b=s at *
 cases k:dW (aA t) (bb a.q a.bx) d st with
 |error j=>
  rw[k]at e;rcases e with e|e
  .exact e.bM (aZ _ _ _)
  .exact e.hv (by omega)
 |ok p=>
  obtain⟨h,i,x⟩:=p;rw[k]at e;obtain⟨u,q,⟨rfl,rfl⟩,ok⟩:=e;refine eF (go (eC q (kd:=4) (l:=[59]) (by rfl))) (dV _) ?_;rintro z w y v r ⟨⟨rfl,-⟩,rfl⟩;exact⟨_,r,h,rfl,rfl,ok⟩
def vo(d:¬h<=n)(b:Unit->PX i k)(c:i)(st:St):aG (lift (dS n h a)) b c st=b () c st:=by
 unfold aG lift dS;rw[Y2 d]
def vn(d:h<=n)(b:Unit->PX i k)(c:i)(st:St):aG (lift (dS n h a)) b c st=.error ⟨5,a⟩:=by
 simp_all[aG,lift,dS]
def xV{a:Mar.aT}(e:dK t st.m st.nx=.ok (a,c))(b:Mar.aT->PX i k)(d:i):aG (lift (ft (aA t))) b d st=b a d { st with m:=c,nx:=some a }:=by
 grind [aG,lift,pH]
def xU(c:dK t st.m st.nx=.error j)(a:Mar.aT->PX i k)(b:i):aG (lift (ft (aA t))) a b st=.error j:=by
 simp_all[aG,lift,sR]
def nV{c:Zb}{a:Bool}{e:St}(f:cZ (aA t) c st=.ok (a,e))(b:Bool->PX i k)(d:i):aG (lift (cZ (aA t) c)) b d st=b a d e:=by
 unfold aG lift;rw[f]
def tO{a:Zb}(b:cZ (aA t) a st=.error j)(c:Bool->PX i k)(d:i):aG (lift (cZ (aA t) a)) c d st=.error j:=by
 unfold aG lift;rw[b]
def wt(a:Za)(lz:Nat)(c:PX i Unit)(b n:Nat):hR a lz c (b+1) (n+1)=aG (lift (cZ a [125])) λd=>if d then cX ()else mb a lz c b (n+1):=by
 rfl
def ws(c:Za)(lz:Nat)(b:PX i Unit)(a:Nat):hR c lz b (a+1) 0=mb c lz b a 0:=by
 rfl
def Pr(a:dy):∀(k:Nat) (i:List aO) (d:Zc) (h:List Int) (m:Zb) (st:St) (b:ae) (f:bz),Q t f st b->i.length+k=13->i.length<=12->gb b.w i h->
  Sx t (λ_ c g=>∃u,g=f.cc (u.flatMap λn=>cu n.H)/\c.1=i++u/\gb (dv t (k+1) h d m b).2.2.w (i++u) (dv t (k+1) h d m b).1/\(dv t (k+1) h d m b).2.1=m++u.flatMap js/\(dv t (k+1) h d m b).2.2.A=b.A) (mb (aA t) 12 (iB (aA t) a) k i.length (i,d) st) (af t 4 [125] (dv t (k+1) h d m b).2.2):=by
 intro k;induction k with
 |zero=>omega
 |succ k K=>
  intro i d h m st b f q a5 a6 z;have A:=(CZ (t:=t) q.e (k+1) h d m).u (aZ (t:=t) 4 [125] _);unfold mb;rcases pk t st with⟨O,c,p⟩|⟨j,p⟩
  .rw[xV p];have y:=q.d1 p h.length 12;by_cases B:12<=i.length
   .rw[vn B];rw[Y9 (by rw[z.1];omega)]at y;rw[y]at A;exact(q.d0 (e:=5) (a:=O.m) (by omega)).bM A
   .rw[vo B];rw[Y2 (by rw[z.1];omega)]at y;have C:fv t h.length d b=ch t d false b:=by grind
    have M:=(Da (t:=t) q.e (k+1) h d m).u (aZ (t:=t) 4 [125] _);have p:=Pj (q.g1 p) a i d;rw[<-C]at p;refine eF p M ?_;rintro N a7 a9 G L ⟨n,a4,rfl,ok⟩;have E:cC b (af t 4 [59] (fv t h.length d b).2):=by rw[C];exact(kJ _ _ _).u (az _ _ _).aa
    rw[td q.e];have D:gb (af t 4 [59] (fv t h.length d b).2).w (i++[n]) (h++[(fv t h.length d b).1.r]):=(z.aa E).h3 ok.h0;have I:m++(fv t h.length d b).1.d7++(fv t h.length d b).1.x.text++(fv t h.length d b).1.e5++[59,32]=m++js n:=by rw[ok.d7,ok.e5,ok.x];simp[js]
    have J:(fv t h.length d b).1.x.text=n.t:=ok.x;have H:=E.A;rw[I,J];generalize af t 4 [59] (fv t h.length d b).2=o at *
    rw[wt];rcases iq L (kd:=4) (l:=[125]) (by rfl)with⟨a3,v,s⟩|⟨F,v,s,w⟩|⟨F,v,s,w⟩
    .rw[tO v,Y2 (by rw[s.is (by omega)];simp)];exact(s.nR k _ _ _).bM (aZ _ _ _)
    .rw[nV v,Y9 s,mF s];exact⟨_,w,[n],by simp_all,rfl,D,by simp,H⟩
    .rw[nV v,Y2 (by simp_all)];simp only[Ye,if_false]
     have:=K (i++[n]) (d++[n.t]) (h++[(fv t h.length d b).1.r]) (m++js n) F o G w (by grind) (by grind) D;rw[show (i++[n]).length=i.length+1 by simp]at this;refine this.K ?_;rintro N a8 P ⟨u,R,S,a0,a1,a2⟩;refine⟨n::u,by grind [qf],by simp_all,?_,by simp_all,by simp_all⟩;simp_all
  .rw[xU p];exact((q.bd p).d1 _ _).bM A
def yw(b:Zb)(a:List aO):Zb:=[115,116,114,117,99,116,32]++b++[32,123,32]++a.flatMap js++[125,59,10]
def Pq{p:Mar.aT}(G:Q t f st b)(A:f.pd=[])(a2:f.dc=0)(z:dK t st.m st.nx=.ok (p,c))(a4:aH b 2 [115,116,114,117,99,116]=true) :
  S t (λd g=>∃J a i,d=.struct J a i/\oL f g d (yw J i) []) (hW (iX (aA t) p.m) { st with m:=c,nx:=none }) (gA t (gi b)):=by
 by_cases v:24<=st.L
 .have q:iX (aA t) p.m { st with m:=c,nx:=none } = .error ⟨5,p.m⟩:=uO (st:={ st with m:=c,nx:=none }) v _ _;rw[hX q];exact(vh G z v).bM (Qo _)
 .have a7:=vg G z a4 v;have a5:iX (aA t) p.m { st with m:=c,nx:=none } = aF (gf (aA t)) (λn=>aF (iz (ei (aA t) 12 (iB (aA t) ⟨0,0,0,0,0,0⟩)) ([],[])) λc=>aF (bY (aA t) [59]) λ_=>ret (.struct n.1 n.2 c.1)) { st with m:=c,nx:=none,L:=st.L+1 }:=uP (st:={ st with m:=c,nx:=none }) v _ _;unfold gA;simp only;generalize af t 2 [115,116,114,117,99,116] (gi b)=m at *
  generalize a3:dv t 14 [] [] ([115,116,114,117,99,116,32]++(aR t 2 m).1.text++[32,123,32]) (af t 4 [123] (aR t 2 m).2)=e;have K:aX (af t 4 [123] (aR t 2 m).2) e.2.2:=by grind [yt]
  have q:S t (λd g=>∃n:Zb×Nat,(aR t 2 m).1.text=n.1/\∃i,d=.struct n.1 n.2 i/\gb e.2.2.w i e.1/\e.2.1=[115,116,114,117,99,116,32]++n.1++[32,123,32]++i.flatMap js/\g=(f.a0 n.1).cc (i.flatMap λd=>cu d.H)/\aL f.nl n.1=none/\At n.1 n.2 e.2.2.A)
    (iX (aA t) p.m { st with m:=c,nx:=none }) (af t 4 [59] (af t 4 [125] e.2.2)):=by
   rw[a5];refine eZ (rk a7 A) ((aZ _ _ _).u (K.u ((aZ _ _ _).u (aZ _ _ _)))) ?_;rintro n C M x ⟨rfl,D,c0,b1,c1⟩;have w:Sx t (λ_ (c:List aO×Zc) g=>g=(f.a0 n.1).cc (c.1.flatMap λd=>cu d.H)/\gb e.2.2.w c.1 e.1/\e.2.1=[115,116,114,117,99,116,32]++n.1++[32,123,32]++c.1.flatMap js/\e.2.2.A=(aR t 2 m).2.A) (ei (aA t) 12 (iB (aA t) ⟨0,0,0,0,0,0⟩) ([],[]) C) (af t 4 [125] e.2.2):=by
    unfold ei;refine eF (go (eC x (kd:=4) (l:=[123]) (by rfl))) (K.u (aZ _ _ _)) ?_;rintro L b0 a9 N s ⟨⟨rfl,-⟩,rfl⟩;rw[ws];have:=Pr ⟨0,0,0,0,0,0⟩ 13 [] [] [] ([115,116,114,117,99,116,32]++(aR t 2 m).1.text++[32,123,32]) a9 (af t 4 [123] (aR t 2 m).2) _ s (by simp) (by simp) ⟨rfl,λH c h z=>by simp⟩;rw[a3]at this;refine this.K ?_;rintro b0 b6 O ⟨b5,rfl,E,k,u,F⟩;simp only[YT]at E k;exact⟨by rw[E],by simp_all,by simp_all,F⟩
   have a1:S t (λ(c:List aO×Zc) g=>g=(f.a0 n.1).cc (c.1.flatMap λd=>cu d.H)/\gb e.2.2.w c.1 e.1/\e.2.1=[115,116,114,117,99,116,32]++n.1++[32,123,32]++c.1.flatMap js/\e.2.2.A=(aR t 2 m).2.A) (iz (ei (aA t) 12 (iB (aA t) ⟨0,0,0,0,0,0⟩)) ([],[]) C) (af t 4 [125] e.2.2):=by
    unfold iz;cases o:ei (aA t) 12 (iB (aA t) ⟨0,0,0,0,0,0⟩) ([],[]) C with
    |error j=>rw[o]at w;exact w
    |ok I=>rw[o]at w;exact w
   refine eZ a1 (aZ _ _ _) ?_;rintro a6 b7 N s ⟨rfl,k,u,F⟩;refine eZ (eC s (kd:=4) (l:=[59]) (by rfl)) (dV _) ?_;rintro L b8 O B ⟨rfl,-⟩;exact S.ret B ⟨n,D,a6.1,rfl,k,u,rfl,b1,by grind [wn]⟩
  cases o:iX (aA t) p.m { st with m:=c,nx:=none }with
  |error j=>
   rw[o]at q;rw[hX o];exact Er.bM q ((fw _ _).u ((rs _ _ _).u (mw _ _)))
  |ok I=>
   obtain⟨d,b9⟩:=I;rw[o]at q;obtain⟨M,x,n,D,i,rfl,k,u,rfl,P,y⟩:=q;rw[oi o,D,u];have k:gb (af t 4 [59] (af t 4 [125] e.2.2)).w i e.1:=k;have y:At n.1 n.2 (af t 4 [59] (af t 4 [125] e.2.2)).A:=y;generalize af t 4 [59] (af t 4 [125] e.2.2)=b2 at *
   have b3:=k.lt x.hN;have s:=x.row (r:=⟨12,0,0,[],e.1,0,[],0⟩) ⟨by grind,λL b4=>(by grind),by grind,by simp⟩ (by simp);have B:=s.j1 (d:=.struct n.1 n.2 i) (n:=b2.w.length) (by show aL (f.nl++_) _=_;simp_all[oq]) A y rfl ⟨by simp,e.1,mp _ _,k.1,λH c h R a0=>(k.2 H c h R a0).ca _⟩;have a8:=B.cE ([115,116,114,117,99,116,32]++n.1++[32,123,32]++i.flatMap js++[125,59,10]);exact⟨_,a8,n.1,n.2,i,rfl,⟨A,a2,rfl,rfl,by simp[bz.cc],rfl,[],pM P,by simp⟩⟩
end
section
variable {g:Int}{p:Int->Bool}
variable {t : Zb} {d j : St} {b σ' m q r : ae} {f i : bz} {h : Mar.aw}
def nN(b:List bg)(of:Int)(p:Int->Bool):Prop:=
 (of=0/\p=df (-2147483648) 2147483647)\/(of=1/\p=df 0 4294967295)\/(of=4/\p=df 0 1)\/(4<of/\∃a,b[of.toNat]? = some (qH a)/\p=jq a)
def Q.kz(a:Q t f d b)(e:0<=g)(h:g<=4):(fG b g).C=g:=by
 obtain⟨i,c⟩:=a.d6;unfold fG;rw[c];have:g=0\/g=1\/g=2\/g=3\/g=4:=by omega
 rcases this with rfl|rfl|rfl|rfl|rfl<;>rfl
theorem ny{a:bg}(c:b.w[g.toNat]? = some a):fG b g=a:=by
 grind [fG]
def ND(j:Q t f d b){i:Ty}(a:dt b.w i g)(k:0<=g):(fG b g).C≠5:=by
 cases i with
 |plain r=>have p:=a.1;have q:=a.2;rw[j.kz k (by omega)];omega
 |named u o=>obtain⟨_,s,c,l,_⟩:=a;rw[ny c,l];omega
 |opaq e h=>rw[ny a.2];cases h<;>simp[dY]
 |str e h=>rw[ny a.2];simp[dY]
 |arr n e h=>obtain⟨_,m,c,_⟩:=a;grind [ny,dz]
 |opt n=>obtain⟨_,m,c,_⟩:=a;rw[ny c];simp[dz]
 |void=>have:g = -1:=a;omega
def Bd.m5(c:Bd h b):Er h (bZ t b).2:=by
 unfold bZ;rw[Y2 (λa=>by grind [k]),Y2 (λa=>by grind [k])];exact c.g2
def Pp(j:Q t f d b)(a4:f.pd=[]):Sw t (λw i=>i=f/\jG (bZ t b).2.w f.nl w.1 (bZ t b).1.1/\(bZ t b).1.2=dm w.1/\nN (bZ t b).2.w (bZ t b).1.1 w.2) (nz (aA t) d) (bZ t b).2:=by
 unfold nz aF;rcases pk t d with⟨a,p,s⟩|⟨h,s⟩
 .rw[mj s];have M:=j.wd;rw[s]at M;obtain⟨⟨S,a0,b1,a1,b2⟩,a3⟩:=M;have B:=j.d4 s;simp only;unfold iW bZ;by_cases a5:a.C=1
  .rw[Y9 (c:=((a.C:Int)==1)=true) (by simp_all),Y9 (c:=b.s.e=0/\b.s.x.C=1) ⟨j.e,by omega⟩];unfold aF jV;have b4:d.A=f.nl:=by rw[j.nl,a4];simp
   rw[show aL ({ d with m:=p,nx:=none }:St).A a.text=aL f.nl a.text by simp_all];rw[a0];have q:∀{o:Option (Option aB)},(∀k m D,o≠some (some (.enum k m D)))->(bP b a.text<0\/(cG b).a7≠1\/(fG b (cG b).n).C≠5)->
     Sw t (λ(w:Ty×(Int->Bool)) i=>i=f/\jG (if bP b a.text<0\/(cG b).a7≠1\/(fG b (cG b).n).C≠5 then (((0:Int),([]:Zb)),bL 7 ↑b.s.x.m b)else (((cG b).n,a.text),aW t b)).2.w f.nl w.1 (if bP b a.text<0\/(cG b).a7≠1\/(fG b (cG b).n).C≠5 then (((0:Int),([]:Zb)),bL 7 ↑b.s.x.m b)else (((cG b).n,a.text),aW t b)).1.1/\(if bP b a.text<0\/(cG b).a7≠1\/(fG b (cG b).n).C≠5 then (((0:Int),([]:Zb)),bL 7 ↑b.s.x.m b)else (((cG b).n,a.text),aW t b)).1.2=dm w.1/\nN (if bP b a.text<0\/(cG b).a7≠1\/(fG b (cG b).n).C≠5 then (((0:Int),([]:Zb)),bL 7 ↑b.s.x.m b)else (((cG b).n,a.text),aW t b)).2.w (if bP b a.text<0\/(cG b).a7≠1\/(fG b (cG b).n).C≠5 then (((0:Int),([]:Zb)),bL 7 ↑b.s.x.m b)else (((cG b).n,a.text),aW t b)).1.1 w.2)
     (.error ⟨7,a.m⟩) (if bP b a.text<0\/(cG b).a7≠1\/(fG b (cG b).n).C≠5 then (((0:Int),([]:Zb)),bL 7 ↑b.s.x.m b)else (((cG b).n,a.text),aW t b)).2:=λ_ a2=>by
    rw[Y9 a2,a1];exact Y8 (j.d0 (e:=7) (a:=a.m) (by omega))
   rcases j.hF a.text with⟨E,N⟩|⟨g,o,F,E,N,b7,b8,a6⟩
   .rw[E];exact q (o:=none) (by simp) (Y8 N)
   .have C:cG b=F:=by
     grind [cG]
    rw[E];have A:=a6.2;cases o with
    |none=>exact q (o:=some none) (by simp) (Ya (Y8 (by simp_all)))
    |some r=>
     cases r with
     |const k m v=>exact q (o:=some (some (.const k m v))) (by simp) (Ya (Y8 (by simp_all)))
     |prog k m c r=>exact q (o:=some (some (.prog k m c r))) (by simp) (Ya (Y8 (by simp_all)))
     |typedef r=>exact q (o:=some (some (.typedef r))) (by simp) (Ya (Ya (by rw[C];exact ND j A.2.2.1 A.2.2.2)))
     |struct k m c=>
      obtain⟨_,_,I,a7,u,_⟩:=A;exact q (o:=some (some (.struct k m c))) (by simp) (Ya (Ya (by rw[C,ny u];simp)))
     |union k m c r=>
      obtain⟨_,_,I,of,a7,a9,u,_⟩:=A;exact q (o:=some (some (.union k m c r))) (by simp) (Ya (Ya (by rw[C,ny u];simp)))
     |enum k m D=>
      obtain⟨b6,_,I,u⟩:=A;have b3:(fG b F.n).C=5:=by rw[ny u]
      rw[C,Y2 (by omega)];have K:4<F.n:=by
       rcases Int.lt_or_le 4 F.n with L|L
       .omega
       .have:=j.kz I L;omega
      exact⟨f,B,rfl,Ya ⟨_,_,k,m,D,rfl,K,E,u⟩,rfl,Ya (Ya (Ya ⟨K,D,u,rfl⟩))⟩
  .rw[Y2 (c:=((a.C:Int)==1)=true) (by grind),Y2 (c:=b.s.e=0/\b.s.x.C=1) (λe=>a5 (by omega))];have J:∀G,Mar.d2 G=true->a.text=G->b.s.x.C=2/\b.s.x.text=G:=λG b5 e=>⟨by rw[S];exact a3.h5 (by simp_all),by simp_all⟩;by_cases O:a.text=[105,110,116]
   .have e:=J _ (by rfl) O;rw[Y9 (c:=(a.text==[105,110,116])=true) (by simp_all),Y9 (c:=b.s.e=0/\_) ⟨j.e,e.1,Y8 e.2⟩,Y9 e.2];exact⟨f,B,rfl,Y8 ⟨0,rfl,Y8 rfl,rfl⟩,rfl,Y8 ⟨rfl,rfl⟩⟩
   .rw[Y2 (c:=(a.text==[105,110,116])=true) (by simp_all)];by_cases P:a.text=[117,110,115,105,103,110,101,100]
    .have e:=J _ (by rfl) P;rw[Y9 (c:=(a.text==[117,110,115,105,103,110,101,100])=true) (by simp_all),Y9 (c:=b.s.e=0/\_) ⟨j.e,e.1,Ya (Y8 e.2)⟩,Y2 (by simp_all),Y2 (by simp_all)];unfold aF;rcases iq B (kd:=2) (l:=[105,110,116]) (by rfl)with⟨b0,y,z⟩|⟨a8,y,z,H⟩|⟨a8,y,z,H⟩
     .rw[y,Y2 (by rw[z.is (by omega)];simp)];exact Ya z
     .rw[y,Y9 z];exact⟨f,H,rfl,Y8 ⟨1,rfl,Ya (Y8 rfl),rfl⟩,rfl,Ya (Y8 ⟨rfl,rfl⟩)⟩
     .rw[y,Y2 (by simp_all)];exact⟨f,H,rfl,Y8 ⟨1,rfl,Ya (Y8 rfl),rfl⟩,rfl,Ya (Y8 ⟨rfl,rfl⟩)⟩
    .rw[Y2 (c:=(a.text==[117,110,115,105,103,110,101,100])=true) (by simp_all)];by_cases R:a.text=[98,111,111,108]
     .have e:=J _ (by rfl) R;rw[Y9 (c:=(a.text==[98,111,111,108])=true) (by simp_all),Y9 (c:=b.s.e=0/\_) ⟨j.e,e.1,Ya (Ya e.2)⟩,Y2 (by simp_all),Y9 e.2];exact⟨f,B,rfl,Y8 ⟨4,rfl,Ya (Ya rfl),rfl⟩,rfl,Ya (Ya (Y8 ⟨rfl,rfl⟩))⟩
     .rw[Y2 (c:=(a.text==[98,111,111,108])=true) (by simp_all),Y2 (c:=b.s.e=0/\_) (λe=>by
       simp_all)]
      exact Y8 (j.gd s)
 .rw[nk s];exact Y8 (j.bd s).m5
def RV(e:Za){c b:Int}(l:∀f,p f=true->df c b f=true)(d:St):hd e p d=match hd e (df c b) d with
  |.ok (a,j)=>if p a.1 then .ok (a,j)else .error ⟨8,a.2⟩
  |.error h=>.error h:=by
 unfold hd aF;cases next e d with
 |error h=>rfl
 |ok a=>
  simp only;cases hD a.1 a.2 with
  |error h=>rfl
  |ok g=>
   simp only;by_cases i:p g.1=true
   .simp_all[ret]
   .rw[Y2 i];by_cases k:df c b g.1=true;all_goals simp_all[ret,fi]
abbrev sa(of:Int)(v:(Int×Int)×ae):ae:=if v.2.s.e=0/\4<of/\(fG v.2 of).bD.contains v.1.1=false then bL 8 v.1.2 v.2 else v.2
abbrev sb(a:List Int)(v:(Int×Int)×ae)(b:ae):ae:=if b.s.e=0/\a.contains v.1.1=true then bL 6 v.1.2 b else b
def OZ(w:Q t f d b){of:Int}(K:nN b.w of p)(q:List (Int×Int))(j:List Int)(B:q.map (·.1)=j) :
  Sx t (λa r i=>i=f/\a=(bn t (eN of) (eM of) b).1.1/\r.map (·.1)=j++[a]) (fM (aA t) p q d) (sb j (bn t (eN of) (eM of) b) (sa of (bn t (eN of) (eM of) b))):=by
 have u:of<=4->p=df (eN of) (eM of)->Sx t (λa r i=>i=f/\a=(bn t (eN of) (eM of) b).1.1/\r.map (·.1)=j++[a]) (fM (aA t) p q d) (sb j (bn t (eN of) (eM of) b) (sa of (bn t (eN of) (eM of) b))):=by
  intro z g;have e:=vy w q j B (eN of) (eM of);rw[g];unfold sb sa;rw[Y2 (c:=(bn t (eN of) (eM of) b).2.s.e=0/\4<of/\_) (λk=>by omega)];exact e.K λa r i x=>⟨x.1,x.2.1,x.2.2.1⟩
 rcases K with⟨rfl,g⟩|⟨rfl,g⟩|⟨rfl,g⟩|⟨z,l,I,rfl⟩
 .exact u (by omega) g
 .exact u (by omega) g
 .exact u (by omega) g
 .have H:eN of = -2147483648:=by unfold eN;omega
  have F:eM of=2147483647:=by unfold eM;omega
  rw[H,F];have G:∀a,jq l a=true->df (-2147483648) 2147483647 a=true:=λa O=>by
   have E:=w.d9 _ (qH l) I;refine E.2.2.2 rfl a ?_;grind [jq]
  have e:=sZ w (-2147483648) 2147483647;have P:(bn t (-2147483648) 2147483647 b).2.w=b.w:=(fZ _ _ _).w;have J:fG (bn t (-2147483648) 2147483647 b).2 of=qH l:=ny (by simp_all);unfold fM aG lift;rw[RV _ G];generalize bn t (-2147483648) 2147483647 b=v at *
  cases A:hd (aA t) (df (-2147483648) 2147483647) d with
  |error h=>
   rw[A]at e;have e:Er h v.2:=e;simp only;refine e.bM ?_;exact(kk _ _ _ _).u (kk _ _ _ _)
  |ok L=>
   obtain⟨⟨a,n⟩,R⟩:=L;rw[A]at e;obtain⟨M,m,rfl,y,C⟩:=e;simp only at y C ⊢;have D:(fG v.2 of).bD.contains a=jq l a:=by
    rw[J];rw[Bool.eq_iff_iff];simp[jq]
   unfold sb sa;rw[y,D];cases N:jq l a with
   |false=>
    simp only[Ye,if_false]
    rw[Y9 (c:=v.2.s.e=0/\4<of/\True) ⟨m.e,z,trivial⟩];have:=m.d0 (e:=8) (a:=n) (by omega);exact this.bM (kk _ _ _ _)
   |true=>
    simp only[if_true]
    rw[Y2 (c:=v.2.s.e=0/\4<of/\_) (λk=>by grind)];unfold kh kF;dsimp only;rw[B];by_cases o:j.contains a=true
    .rw[Y9 o,Y9 ⟨m.e,o⟩];exact m.d0 (e:=6) (a:=n) (by omega)
    .rw[Y2 o,Y2 (λk=>o k.2)];exact⟨_,m,rfl,rfl,by grind⟩
def kD(a:Int):Zb:=[99,97,115,101,32]++bO a++[58,32]
abbrev mV(t:Zb)(of:Int)(a:Nat)(b:ae):(Int×Int)×ae:=bn t (eN of) (eM of) (af t 2 [99,97,115,101] (aD a 12 b))
abbrev oa(t:Zb)(of:Int)(a:List Int)(b:ae):ae:=af t 4 [58] (sb a (mV t of a.length b) (sa of (mV t of a.length b)))
def wB(f:b.s.e=0)(of:Int)(d:Nat)(a:List Int)(c:Zb):cy t of (d+1) a c b =
  if aH (oa t of a b) 2 [99,97,115,101]=true then cy t of d (a++[(mV t of a.length b).1.1]) (c++[99,97,115,101,32]++bO (mV t of a.length b).1.1++[58,32]) (oa t of a b)
  else ((a++[(mV t of a.length b).1.1],c++[99,97,115,101,32]++bO (mV t of a.length b).1.1++[58,32]),oa t of a b):=by
 conv=>lhs;unfold cy
 grind
def Qg(c:b.s.e=0)(of:Int)(d:Nat)(a:List Int)(f:Zb):aX (oa t of a b) (cy t of (d+1) a f b).2:=by
 rw[wB c];grind [mU,dV]
def yp(of:Int)(a:List Int)(b:ae):aX (mV t of a.length b).2 (oa t of a b):=(kk _ _ _ _).u ((kk _ _ _ _).u (aZ _ _ _))
def PC(of:Int)(a:List Int)(b:ae):Sm b (oa t of a b):=(cD _ _ _).u ((az _ _ _).u ((fZ _ _ _).u ((jv _ _ _ _).u ((jv _ _ _ _).u (az _ _ _)))))
def nN.of{of:Int}(a:nN b.w of p)(c:Sm b σ'):nN σ'.w of p:=by rw[c.w];exact a
def Pa{of:Int}:∀(k n:Nat) (y:List Int) (l:List (Int×Int)) (c:List Int) (o:Zb) (d:St) (b:ae) (f:bz),Q t f d b->nN b.w of p->l.map (·.1)=c->(c.length<12\/aH b 2 [99,97,115,101]=true)->c.length<=12->13<=c.length+k->13<=c.length+n->
  Sy t (λa1 b0 i=>i=f/\∃m,a1=y++m/\m≠[]/\b0.map (·.1)=c++m/\(cy t of k c o b).1.1=c++m/\(c++m).length<=12/\(cy t of k c o b).1.2=o++m.flatMap kD) (gI (aA t) p n y l d) (cy t of k c o b).2:=by
 intro k;induction k with
 |zero=>omega
 |succ k a9=>
  intro n y l c o d b f j K a4 b8 c2 b9 c0;obtain⟨n,rfl⟩:∃e,n=e+1:=⟨n-1,by omega⟩;have c1:l.length=c.length:=by grind
  have x:=Qg (t:=t) j.e of k c o;unfold gI;rcases pk t d with⟨z,b1,g⟩|⟨h,g⟩
  .have s:=j.d1 g c.length 12;have H:=j.is g (kd:=2) (l:=[99,97,115,101]) (by rfl);by_cases v:aH b 2 [99,97,115,101]=true
   .have r:∀(e:Mar.aT->PX (List (Int×Int)) (List Int)),aG (lift (bY (aA t) [99,97,115,101])) e l d=e z l { d with m:=b1,nx:=none }:=λe=>by
     unfold aG lift bY aF;rw[mj g];rw[H]at v;simp only;rw[Y9 v];rfl
    rw[r];by_cases a2:12<=c.length
    .rw[vn (by omega)];rw[Y9 (by omega)]at s;have this:Er ⟨5,z.m⟩ (aD c.length 12 b):=by rw[s];exact j.d0 (e:=5) (a:=z.m) (by omega)
     exact Y8 (this.bM ((aZ _ _ _).u ((hc _ _ _).u ((yp of c b).u x))))
    .rw[vo (by omega)];rw[Y2 (by omega)]at s;have a3:mV t of c.length b=bn t (eN of) (eM of) (aW t b):=by unfold mV;rw[s,mF v]
     have J:=OZ (j.d4 g) (p:=p) (of:=of) K l c a4;rw[<-a3]at J;refine wk J ((aZ _ _ _).u x) ?_;rintro w c3 c4 b4 b2 ⟨rfl,a5,I⟩;refine wk (go (eC b2 (kd:=4) (l:=[58]) (by rfl))) x ?_;rintro c5 B M E C ⟨⟨rfl,-⟩,rfl⟩;have a7:=PC (t:=t) of c b;have a6:=K.of a7;rw[wB j.e,<-a5];have C:Q t E M (oa t of c b):=C;generalize oa t of c b=D at *
     rcases vx C (kd:=2) (l:=[99,97,115,101]) (by rfl)with⟨b7,A,q⟩|⟨L,A,q⟩
     .unfold aG lift;rw[A,Y2 (by rw[q.is (by omega)];simp)];exact Ya q
     .have F:∀(e:Bool->PX (List (Int×Int)) (List Int)),aG (lift (fQ (aA t) [99,97,115,101])) e B M=e (aH D 2 [99,97,115,101]) B L:=λe=>by
       unfold aG lift;rw[A]
      rw[F];by_cases u:aH D 2 [99,97,115,101]=true
      .rw[Y9 u,Y9 u];have:=a9 n (y++[w]) B (c++[w]) (o++[99,97,115,101,32]++bO w++[58,32]) L D E q a6 I (Ya u) (by simp;omega) (by simp;omega) (by simp;omega);unfold Sy at this ⊢;split at this
       .obtain⟨b5,b3,rfl,m,N,b6,O,P,R,a0⟩:=this;exact⟨_,b3,rfl,w::m,by rw[N];simp,by simp,by rw[O];simp,by rw[P];simp,by simpa using R,by rw[a0];simp[kD]⟩
       omega
      .rw[Y2 u,Y2 u];exact⟨_,q,rfl,[w],rfl,by simp,I,rfl,by simp;omega,by simp[kD]⟩
   .have a2:c.length<12:=by grind
    rw[Y2 (by omega)]at s;have r:∀(e:Mar.aT->PX (List (Int×Int)) (List Int)),aG (lift (bY (aA t) [99,97,115,101])) e l d=.error ⟨3,z.m⟩:=λe=>by
     unfold aG lift bY aF;rw[mj g];rw[H]at v;simp only;rw[Y2 v];rfl
    rw[r];have G:=j.gd g;have a8:af t 2 [99,97,115,101] (aD c.length 12 b)=dj b:=by grind [DI]
    rw[<-a8]at G;exact Y8 (G.bM ((hc _ _ _).u ((yp of c b).u x)))
  .have r:∀(e:Mar.aT->PX (List (Int×Int)) (List Int)),aG (lift (bY (aA t) [99,97,115,101])) e l d=.error h:=λe=>by
    unfold aG lift bY aF;rw[nk g]
   rw[r];exact Y8 (((j.bd g).d1 c.length 12).bM ((aZ _ _ _).u ((hc _ _ _).u ((yp of c b).u x))))
def jP(a:aO):Zb:=match a.H with
 |.void=>[118,111,105,100,59,32]
 |_=>js a
def Fp{a:aO}{d:List bg}(b:dt d a.H g)(e:0<=g):jP a=js a:=by
 unfold jP;split
 .rename_i c;rw[c]at b;have:g = -1:=b;omega
 rfl
theorem Bd.lj(a:Bd h b)(c:Zc):Er h (cM t c b).2:=by
 unfold cM;rw[Y2 (by rw[a.is (by omega)];simp)];exact(a.j6 c false).bM (aZ _ _ _)
def CB(u:Q t f d b)(a:Zc):Sx t (λm l i=>i=f.cc (cu m.H)/\dt (cM t a b).2.w m.H (cM t a b).1.1/\(cM t a b).1.2.1=jP m/\(cM t a b).1.2.2=l) (ir (aA t) (bb 0 0) a d) (cM t a b).2:=by
 unfold ir cM;rcases iq u (kd:=2) (l:=[118,111,105,100]) (by rfl)with⟨s,g,j⟩|⟨p,g,j,n⟩|⟨p,g,j,n⟩
 .rw[Y2 (c:=aH b 2 [118,111,105,100]=true) (by rw[j.is (by omega)];simp)];have k:∀(e:aO->PX (Zc) aO),aG (aG (lift (cZ (aA t) [118,111,105,100])) (mR (aA t) (bb 0 0))) e a d=.error s:=λe=>by
   unfold aG lift;rw[g]
  rw[k];exact(j.j6 a false).bM (aZ _ _ _)
 .rw[Y9 (c:=aH b 2 [118,111,105,100]=true) j];have k:∀(e:aO->PX (Zc) aO),aG (aG (lift (cZ (aA t) [118,111,105,100])) (mR (aA t) (bb 0 0))) e a d=e ⟨[],0,.void⟩ a p:=λe=>by
   unfold aG lift;rw[g];rfl
  rw[k];refine eF (go (eC n (kd:=4) (l:=[59]) (by rfl))) (dV _) ?_;rintro A l z r o ⟨⟨rfl,-⟩,rfl⟩;exact Sx.ret o ⟨(la _).symm,rfl,rfl,rfl⟩
 .rw[Y2 (c:=aH b 2 [118,111,105,100]=true) (by simp_all)];simp only;have w:=yh (G:=λq x l i=>i=f.cc q/\l=a++[x.1]) (λq=>zI a 0 0) n;generalize ch t a false b=B at *
  have k:∀(e:aO->PX (Zc) aO),aG (aG (lift (cZ (aA t) [118,111,105,100])) (mR (aA t) (bb 0 0))) e a d=aG (dW (aA t) (bb 0 0)) e a p:=λe=>by
   unfold aG lift;rw[g];rfl
  rw[k];refine wl w (aZ _ _ _) (λh v=>v.hv (by omega)) ?_;rintro m l z r o ⟨⟨rfl,rfl⟩,ok⟩;refine eF (go (eC o (kd:=4) (l:=[59]) (by rfl))) (dV _) ?_;rintro A D E C y ⟨⟨rfl,-⟩,rfl⟩;refine Sx.ret y ⟨rfl,ok.h0,?_,by rw[ok.x]⟩;rw[Fp ok.h0 ok.f5,ok.d7,ok.e5,ok.x];rfl
end
section
variable {t : Zb} {c i : St} {b j k m n : ae} {g h : bz} {f : Mar.aw}
theorem Sy.K{g f:Type}{R a:f->g->bz->Prop}{d:Except Mar.aw (f×g×St)}(i:Sy t R d b)(j:∀c e h,R c e h->a c e h):Sy t a d b:=by
 unfold Sy at *
 grind
def gb.m3{b:List bg}{d:List aO}{e:List Int}(i:gb b d e){c:aO}{f:Int}(h:dt b c.H f)(a:Nat):gb b (d++List.replicate a c) (e++List.replicate a f):=by
 induction a with
 |zero=>simp_all
 |succ a g=>
  have:=g.h3 h;grind [List.replicate_succ']
def mQ(a:List Int×aO):Zb:=(if a.1=[]then [100,101,102,97,117,108,116,58,32]else a.1.flatMap kD)++jP a.2
def eb(t:Zb)(u:(List Int×List Int×Zc×Zb)×ae):(Int×Zb)×ae:=gJ t u.1.2.2.1 u.2
theorem Db(a:(List Int×List Int×Zc×Zb)×ae):aX a.2 (eb t a).2:=CP _ _
theorem pW(h:b.s.e=0)(of:Int)(g:Nat)(a f:List Int)(c:Zc)(d:Zb):dH t of (g+1) a f c d b =
  if aH (cM t c (cy t of (14-a.length) a [] b).2).2 2 [99,97,115,101]=true then dH t of g (cy t of (14-a.length) a [] b).1.1 (kK (cy t of (14-a.length) a [] b).1.1.length (cM t c (cy t of (14-a.length) a [] b).2).1.1 f) (cM t c (cy t of (14-a.length) a [] b).2).1.2.2 (d++(cy t of (14-a.length) a [] b).1.2++(cM t c (cy t of (14-a.length) a [] b).2).1.2.1) (cM t c (cy t of (14-a.length) a [] b).2).2
  else (((cy t of (14-a.length) a [] b).1.1,kK (cy t of (14-a.length) a [] b).1.1.length (cM t c (cy t of (14-a.length) a [] b).2).1.1 f,(cM t c (cy t of (14-a.length) a [] b).2).1.2.2,d++(cy t of (14-a.length) a [] b).1.2++(cM t c (cy t of (14-a.length) a [] b).2).1.2.1),(cM t c (cy t of (14-a.length) a [] b).2).2):=by
 simp_all[dH]
def Qr(h:b.s.e=0)(of:Int)(d:Nat)(a g:List Int)(c:Zc)(f:Zb):aX (cM t c (cy t of (14-a.length) a [] b).2).2 (dH t of (d+1) a g c f b).2:=by
 grind [pW,yu,dV]
def HU(b:List Int)(c:List Int)(d:Int)(a:List Int)(e:a.length=b.length):kK (b++c).length d a=a++List.replicate c.length d:=by
 grind [kK]
def BM(b:List (List Int×aO))(a:List Int)(c:aO):(dE (b++[(a,c)])).map (·.1)=(dE b).map (·.1)++a/\(dE (b++[(a,c)])).map (·.2)=(dE b).map (·.2)++List.replicate a.length c:=by
 simp_all[dE,Function.comp_def,List.map_const']
theorem wQ{c:List (List Int×aO)}(d:hV c=none)(a:List Int)(b:aO):hV (c++[(a,b)])=if a=[]then some b else none:=by
 grind [hV]
theorem zZ{b:List (List Int×aO)}(c:hV b=none):∀a∈b,a.1≠[]:=by
 intro a d e;unfold hV at c;have:b.find? (λa=>a.1.isEmpty)=none:=by simpa using c
 grind
structure vW(arms:List (List Int×aO))(u:(List Int×List Int×Zc×Zb)×ae)(e:(Int×Zb)×ae)(j:Zb)(new:List (List Int×aO)):Prop where
 bD:(dE arms).map (·.1)=u.1.1
 cg:gb e.2.w ((dE arms).map (·.2)) u.1.2.1
 fp:match hV arms with
  |none=>e.1.1 = -2
  |some d=>dt e.2.w d.H e.1.1
 j:u.1.2.2.2++e.1.2=j++new.flatMap mQ
 kt:∀a∈arms,a.1=[]->hV arms=some a.2
def OX{u:(List Int×List Int×Zc×Zb)×ae}(w:Q t g c u.2)(b:List (List Int×aO))(l:List (Int×Int))(v:Zb)(y:(dE b).map (·.1)=u.1.1)(q:hV b=none)(r:gb u.2.w ((dE b).map (·.2)) u.1.2.1)(s:List (List Int×aO))(N:u.1.2.2.2=v++s.flatMap mQ) :
  Sy t (λm _ h=>∃k,h=g.cc (k.flatMap λi=>cu i.2.H)/\m=b++k/\vW m u (eb t u) v (s++k)) (lZ (aA t) b (u.1.2.2.1,l) c) (eb t u).2:=by
 unfold lZ eb gJ;rcases iq w (kd:=2) (l:=[100,101,102,97,117,108,116]) (by rfl)with⟨L,d,e⟩|⟨D,d,e,j⟩|⟨D,d,e,j⟩
 .rw[tO d,Y2 (by rw[e.is (by omega)];simp)];exact Ya e
 .rw[nV d,Y9 e];simp only[if_true]
  refine qr (eF (go (eC j (kd:=4) (l:=[58]) (by rfl))) (vD _ _) ?_);rintro a0 P E G B ⟨⟨rfl,-⟩,rfl⟩;have a:=CB B u.1.2.2.1;have z:cC u.2 (cM t u.1.2.2.1 (af t 4 [58] (aW t u.2))).2:=((eu _).u (az _ _ _)).aa.u (mg _ _);generalize cM t u.1.2.2.1 (af t 4 [58] (aW t u.2))=F at *
  unfold aG ha;simp only;cases o:ir (aA t) (bb 0 0) u.1.2.2.1 E with
  |error f=>rw[o]at a;exact a
  |ok A=>
   obtain⟨n,O,R⟩:=A;rw[o]at a;obtain⟨H,C,M,I,J,K⟩:=a;refine⟨_,C,[([],n)],by simp_all,rfl,?_⟩;have x:=BM b [] n;refine⟨by simp_all,by rw[x.2];simpa using r.aa z,?_,?_,?_⟩
   .grind [wQ]
   .grind [mQ]
   .intro i a p;rw[wQ q,Y9 rfl];grind [zZ]
 .rw[nV d,Y2 (by simp_all)];simp only[Ye,if_false]
  exact⟨_,j,[],(la _).symm,by simp,⟨y,r,by grind,by simp_all,λi a p=>absurd p (zZ q i a)⟩⟩
def DZ{u:(List Int×List Int×Zc×Zb)×ae}(a:Bd f u.2):Bd f (eb t u).2:=by
 unfold eb gJ;rw[Y2 (by rw[a.is (by omega)];simp)];exact a
def OY{of:Int}{p:Int->Bool}:∀(o s:Nat) (a:List (List Int×aO)) (n:Zc) (l:List (Int×Int)) (k:List Int) (i:Zb) (c:St) (b:ae) (g:bz),Q t g c b->nN b.w of p->l.map (·.1)=(dE a).map (·.1)->(((dE a).map (·.1)).length<12\/aH b 2 [99,97,115,101]=true)->((dE a).map (·.1)).length<=12->13<=((dE a).map (·.1)).length+o->13<=((dE a).map (·.1)).length+s->hV a=none->gb b.w ((dE a).map (·.2)) k->
  Sy t (λF _ h=>∃z,h=g.cc (z.flatMap λa5=>cu a5.2.H)/\F=a++z/\vW F (dH t of o ((dE a).map (·.1)) k n i b) (eb t (dH t of o ((dE a).map (·.1)) k n i b)) i z/\cC b (eb t (dH t of o ((dE a).map (·.1)) k n i b)).2) (hz (aA t) p s a (n,l) c) (eb t (dH t of o ((dE a).map (·.1)) k n i b)).2:=by
 intro o;induction o with
 |zero=>omega
 |succ o c1=>
  intro s a n l k i c b g H a2 b6 b5 b8 d7 d8 b4 a0;obtain⟨s,rfl⟩:∃c2,s=c2+1:=⟨s-1,by omega⟩;have E:=(Qr (t:=t) H.e of o ((dE a).map (·.1)) k n i).u (Db (t:=t) _);have q:=Pa (t:=t) (of:=of) (p:=p) (14-((dE a).map (·.1)).length) 13 [] l ((dE a).map (·.1)) [] c b g H a2 b6 b5 b8 (by omega) (by omega);have c0:=(mU (t:=t) of (14-((dE a).map (·.1)).length) ((dE a).map (·.1)) [] b).1;rw[pW H.e]at E ⊢;have S:=a0.1;rw[YU,<-YU (f:=λc8:Int×aO=>c8.1)]at S;generalize b9:(dE a).map (·.1)=v at *
  generalize cy t of (14-v.length) v [] b=J at *
  unfold hz aG jt;simp only;have b3:cases (aA t) p l c=gI (aA t) p 13 [] l c:=rfl;rw[b3];cases N:gI (aA t) p 13 [] l c with
  |error f=>
   rw[N]at q;rcases q with q|q
   .exact Y8 (q.bM ((vD _ _).u E))
   .exact Y8 ((q.lj n).bM E)
  |ok I=>
   obtain⟨d,a3,c7⟩:=I;rw[N]at q;obtain⟨c9,c4,rfl,e1,K,L,d1,a9,d2,M⟩:=q;simp only[YT]at K M;subst K;have A:=CB c4 n;have C:cC b (cM t n J.2).2:=c0.aa.u (mg _ _);generalize cM t n J.2=m at *
   simp only;unfold ha;simp only;cases O:ir (aA t) (bb 0 0) n c7 with
   |error f=>rw[O]at A;exact Y8 (Er.bM A E)
   |ok I=>
    obtain⟨j,D,e2⟩:=I;rw[O]at A;obtain⟨a4,c5,d6,a6,a7,a8⟩:=A;simp only;rw[a9,HU v d m.1.1 k S,a7,a8,M];have B:=BM a d j;have a1:gb m.2.w ((dE (a++[(d,j)])).map (·.2)) (k++List.replicate d.length m.1.1):=by
     rw[B.2];exact(a0.aa C).m3 a6 _
    have P:hV (a++[(d,j)])=none:=by rw[wQ b4,Y2 L]
    rw[b9]at B;have R:i++d.flatMap kD++jP j=i++[(d,j)].flatMap mQ:=by simp[mQ,L]
    unfold lift;rcases vx c5 (kd:=2) (l:=[99,97,115,101]) (by rfl)with⟨d5,G,w⟩|⟨c6,G,w⟩
    .rw[G,Y2 (by rw[w.is (by omega)];simp)];exact Ya (DZ (u:=((v++d,k++List.replicate d.length m.1.1,D,i++d.flatMap kD++jP j),m.2)) w)
    .rw[G];simp only;by_cases y:aH m.2 2 [99,97,115,101]=true
     .rw[Y9 y,Y9 y,<-B.1];have:=c1 s (a++[(d,j)]) D a3 (k++List.replicate d.length m.1.1) (i++d.flatMap kD++jP j) c6 m.2 a4 w (by
       obtain⟨e0,b7,-⟩:=C.w;rw[b7];rcases a2 with r|r|r|⟨r,c3,b1,b2⟩
       .exact Y8 r
       .exact Ya (Y8 r)
       .exact Ya (Ya (Y8 r))
       .exact Ya (Ya (Ya ⟨r,c3,mi b1,b2⟩))) (by grind) (Ya y) (by grind) (by grind [List.length_pos_iff]) (by grind [List.length_pos_iff]) P a1
      refine this.K ?_;rintro F e3 d0 ⟨z,d3,d4,x,b0⟩;refine⟨(d,j)::z,by grind [qf],by grind,⟨x.bD,x.cg,x.fp,?_,x.kt⟩,C.u b0⟩;rw[x.j,R];simp
     .rw[Y2 y,Y2 y];have:=OX (t:=t) (u:=((v++d,k++List.replicate d.length m.1.1,D,i++d.flatMap kD++jP j),m.2)) w (a++[(d,j)]) a3 i B.1 P a1 [(d,j)] R;have d9:cC b (eb t ((v++d,k++List.replicate d.length m.1.1,D,i++d.flatMap kD++jP j),m.2)).2:=C.u (sf _ _);refine this.K ?_;grind [qf]
end
section
variable {t : Zb} {st g : St} {a f h i j : ae} {b c : bz} {e : Mar.aw}
def Mg(a:ae):cd t [] false a=cV t a:=by
 unfold cd;simp
def jG.aa{b c:Nl}{d:Ty}{of:Int}(e:jG a.w b d of)(h:cC a f)(i:Kp b c):jG f.w c d of:=by
 obtain⟨j,g,-⟩:=h.w;rw[g];exact e.ca j i
def jG.lt{a:List bg}{e:Nl}{f:Ty}{of:Int}(b:jG a e f of)(i:5<=a.length):of<a.length:=by
 rcases b with⟨j,-,c,d⟩|⟨l,g,m,h,k,-,c,-,d⟩;all_goals grind
def yC(c:Zb)(a:aO)(b:List (List Int×aO)):Zb:=[117,110,105,111,110,32]++c++[32,115,119,105,116,99,104,32,40]++dm a.H++[32]++a.t++[41,32,123,32]++b.flatMap mQ++[125,59,10]
def OH{h k:Type}{i:k->h->bz->Prop}{d:PX h k}{g:h}(b:Sx t i (d g st) a):S t (λf c=>i f.1 f.2 c) (fu d g st) a:=by
 unfold fu;cases j:d g st with
 |ok f=>rw[j]at b;exact b
 |error e=>rw[j]at b;exact b
def OI{h k:Type}{i:k->h->bz->Prop}{d:PX h k}{g:h}(b:Sy t i (d g st) a):Sw t (λf c=>i f.1 f.2 c) (fu d g st) a:=by
 unfold fu;cases j:d g st with
 |ok f=>rw[j]at b;exact b
 |error e=>rw[j]at b;exact b
def Pt{o:Mar.aT}{p:Nat}(R:Q t b st a)(y:b.pd=[])(b8:b.dc=0)(J:dK t st.m st.nx=.ok (o,p))(b9:aH a 2 [117,110,105,111,110]=true) :
  S t (λd c=>∃a8 A j h,d=.union a8 A j h/\oL b c d (yC a8 j h) []) (hW (dT (aA t) o.m) { st with m:=p,nx:=none }) (gm t (gi a)):=by
 by_cases w:24<=st.L
 .have q:dT (aA t) o.m { st with m:=p,nx:=none } = .error ⟨5,o.m⟩:=uO (st:={ st with m:=p,nx:=none }) w _ _;rw[hX q];exact(vh R J w).bM (Qq _)
 .have c3:=vg R J b9 w;have c0:dT (aA t) o.m { st with m:=p,nx:=none } = aF (gf (aA t)) (pV (aA t)) { st with m:=p,nx:=none,L:=st.L+1 }:=uP (st:={ st with m:=p,nx:=none }) w _ _;unfold gm;simp only;generalize af t 2 [117,110,105,111,110] (gi a)=d8 at *
  generalize c1:aR t 2 d8=m;generalize a1:bZ t (af t 4 [40] (af t 2 [115,119,105,116,99,104] m.2))=i;generalize G:cV t i.2=k;generalize b7:dH t i.1.1 14 [] [] [k.1.text] ([117,110,105,111,110,32]++m.1.text++[32,115,119,105,116,99,104,32,40]++i.1.2++[32]++k.1.text++[41,32,123,32]) (af t 4 [123] (af t 4 [41] k.2))=f;have d2:aX (eb t f).2 (af t 4 [59] (af t 4 [125] (eb t f).2)):=(aZ _ _ _).u (aZ _ _ _);have O:aX (af t 4 [123] (af t 4 [41] k.2)) (af t 4 [59] (af t 4 [125] (eb t f).2)):=by
   grind [aX.u,Db,yu]
  have a9:aX k.2 (af t 4 [59] (af t 4 [125] (eb t f).2)):=(aZ _ _ _).u ((aZ _ _ _).u O);have d1:aX i.2 (af t 4 [59] (af t 4 [125] (eb t f).2)):=by
   grind [aX.u,rt]
  have N:aX (af t 4 [40] (af t 2 [115,119,105,116,99,104] m.2)) (af t 4 [59] (af t 4 [125] (eb t f).2)):=by
   grind [aX.u,CV]
  have q:S t (λd c=>∃(g:Zb×Nat) (j:aO) (h:List (List Int×aO)),d=.union g.1 g.2 j h/\m.1.text=g.1/\jG (eb t f).2.w (b.nl++[(g.1,none)]) j.H i.1.1/\vW h f (eb t f) ([117,110,105,111,110,32]++g.1++[32,115,119,105,116,99,104,32,40]++dm j.H++[32]++j.t++[41,32,123,32]) h/\c=(b.a0 g.1).cc (h.flatMap λA=>cu A.2.H)/\aL b.nl g.1=none/\At g.1 g.2 (eb t f).2.A)
    (dT (aA t) o.m { st with m:=p,nx:=none }) (af t 4 [59] (af t 4 [125] (eb t f).2)):=by
   rw[c0];have a0:=rk c3 y;rw[c1]at a0;refine eZ a0 ((aZ _ _ _).u ((aZ _ _ _).u N)) ?_;rintro g f5 b3 r ⟨rfl,P,g8,d5,g9⟩;unfold pV;refine eZ (eC r (kd:=2) (l:=[115,119,105,116,99,104]) (by rfl)) ((aZ _ _ _).u N) ?_;rintro n f7 e0 K ⟨rfl,-⟩;refine eZ (eC K (kd:=4) (l:=[40]) (by rfl)) N ?_;rintro n f8 e1 L ⟨rfl,-⟩;have a3:=Pp L y;rw[a1]at a3;refine zj a3 d1 (λe H=>?_) ?_
   .have:=H.c4 (t:=t);rw[G]at this;exact this.bM a9
   rintro z f9 e2 M ⟨rfl,d6,h0,d7⟩;unfold rz;have a2:=vz (t:=t) M [] 0 0;rw[Mg,G]at a2;refine eZ (OH a2) a9 ?_;rintro a7 g0 e3 c5 ⟨rfl,b0,h1,b1⟩;unfold tj;refine eZ (eC c5 (kd:=4) (l:=[41]) (by rfl)) ((aZ _ _ _).u O) ?_;rintro n g1 e4 c6 ⟨rfl,-⟩;refine eZ (eC c6 (kd:=4) (l:=[123]) (by rfl)) O ?_;rintro n d3 e5 c7 ⟨rfl,-⟩;have a5:Sm i.2 (af t 4 [123] (af t 4 [41] k.2)):=by
    rw[<-G];rfl
   have E:=OY (t:=t) (of:=i.1.1) (p:=z.2) 14 13 [] a7.2 [] [] ([117,110,105,111,110,32]++m.1.text++[32,115,119,105,116,99,104,32,40]++i.1.2++[32]++k.1.text++[41,32,123,32]) d3 (af t 4 [123] (af t 4 [41] k.2)) _ c7 (d7.of a5) rfl (Y8 (by simp[dE])) (by simp[dE]) (by omega) (by omega) rfl ⟨rfl,λa6 p k J=>by grind⟩;rw[b1,show (List.map (λn:Int×aO=>n.1) (dE []))=[]from rfl]at E;rw[<-b0]at E;have F:=OI E;simp only[YT]at F;rw[b7]at F;rw[b1,<-b0];refine zj F d2 (λe H=>(H.hv (by omega)).bM (aZ _ _ _)) ?_;rintro d0 g2 e6 c8 ⟨f4,g5,g6,g7,d4⟩;unfold lK pT;refine eZ (eC c8 (kd:=4) (l:=[125]) (by rfl)) (aZ _ _ _) ?_;rintro n g3 e7 c9 ⟨rfl,-⟩;refine eZ (eC c9 (kd:=4) (l:=[59]) (by rfl)) (dV _) ?_;rintro n f6 d9 c4 ⟨rfl,-⟩;have c2:cC i.2 (eb t f).2:=a5.aa.u d4;have f1:(eb t f).2.A=m.2.A:=by
    have:i.2.A=m.2.A:=by rw[<-a1];exact((az _ _ _).u ((az _ _ _).u (oC _))).A
    grind [cC.A]
   refine S.ret c4 ⟨g,⟨k.1.text,a7.1.2,z.1⟩,d0.1,by rfl,P,d6.aa c2 (zc _),?_,by grind,d5,by grind [wn]⟩;grind
  show S t _ _ (er (f.1.2.2.2++(eb t f).1.2++[125,59,10]) (dq m.1.text (af t 4 [59] (af t 4 [125] (eb t f).2)).w.length (cm ⟨13,0,i.1.1,f.1.1,f.1.2.1,(eb t f).1.1,[],0⟩ (af t 4 [59] (af t 4 [125] (eb t f).2)))));cases x:dT (aA t) o.m { st with m:=p,nx:=none }with
  |error e=>
   rw[x]at q;rw[hX x];exact Er.bM q ((fw _ _).u ((rs _ _ _).u (mw _ _)))
  |ok z=>
   obtain⟨d,g4⟩:=z;rw[x]at q;obtain⟨b3,r,g,j,h,rfl,P,u,s,rfl,b4,B⟩:=q;rw[oi x,P,s.j,<-s.bD];have u:jG (af t 4 [59] (af t 4 [125] (eb t f).2)).w (b.nl++[(g.1,none)]) j.H i.1.1:=u;have B:At g.1 g.2 (af t 4 [59] (af t 4 [125] (eb t f).2)).A:=B;have C:gb (af t 4 [59] (af t 4 [125] (eb t f).2)).w ((dE h).map (·.2)) f.1.2.1:=s.cg;have v:match hV h with
    |none=>(eb t f).1.1 = -2
    |some d=>dt (af t 4 [59] (af t 4 [125] (eb t f).2)).w d.H (eb t f).1.1:=s.fp
   have b5:=s.kt;generalize af t 4 [59] (af t 4 [125] (eb t f).2)=b2 at *
   generalize (eb t f).1.1=D at *
   have f0:=C.lt r.hN;have e9:D<b2.w.length:=by
    cases I:hV h with
    |none=>grind
    |some d=>rw[I]at v;exact dt.lt r.hN v
   have f2:=u.lt r.hN;have K:=r.row (r:=⟨13,0,i.1.1,(dE h).map (·.1),f.1.2.1,D,[],0⟩) ⟨by grind,λn f3=>(by grind),by grind,by simp⟩ (by simp);have a4:aL (b.a0 g.1).nl g.1=some none:=by simp_all[oq]
   have L:=K.j1 (d:=.union g.1 g.2 j h) (n:=b2.w.length) a4 y B rfl ⟨by simp,i.1.1,f.1.2.1,D,mp _ _,u.ca _ (AN _ a4),by rw[C.1];simp,λa6 p k b6 e8=>(C.2 a6 p k.2 b6 (by simp_all)).ca _,by
    cases I:hV h with
    |none=>simp_all
    |some d=>rw[I]at v;exact dt.ca _ v,b5⟩
   have M:=L.cE (([117,110,105,111,110,32]++g.1++[32,115,119,105,116,99,104,32,40]++dm j.H++[32]++j.t++[41,32,123,32])++h.flatMap mQ++[125,59,10]);exact⟨_,M,g.1,g.2,j,h,rfl,⟨y,b8,rfl,rfl,by simp[bz.cc],rfl,[],pM b4,by simp⟩⟩
end
section
variable {t : Zb} {st h : St} {a d i j g : ae} {b c : bz} {f : Mar.aw}
def CF(f:Q t b st a)(l:List (Int×Int))(d:List Int)(i:l.map (·.1)=d):Sx t (λe j c=>c=b/\e=(bS t d a).1/\j.map (·.1)=d++[e]) (kI (aA t) l st) (bS t d a).2:=by
 unfold kI bS;simp only;refine eF (go (eC f (kd:=4) (l:=[61]) (by rfl))) ((hc _ _ _).u ((kk _ _ _ _).u (aZ _ _ _))) ?_;rintro p k w q m ⟨⟨rfl,-⟩,rfl⟩;refine eF (vy m k d i 0 4294967295) (aZ _ _ _) ?_;rintro e u x r n ⟨rfl,g,h,-,-⟩;refine eF (go (eC n (kd:=4) (l:=[59]) (by rfl))) (dV _) ?_;rintro p v y s o ⟨⟨rfl,-⟩,rfl⟩;exact Sx.ret o ⟨rfl,g,h⟩
theorem SY(b:Bd f a):Er f (es t a).2:=by
 unfold es;rw[Y2 (by rw[b.is (by omega)];simp)];exact b.C
def CI(k:Q t b st a):Sw t (λh c=>c=b.cc (cu h)/\dt (es t a).2.w h (es t a).1.1/\(es t a).1.2=dm h) (lG (aA t) st) (es t a).2:=by
 unfold lG es;rcases iq k (kd:=2) (l:=[118,111,105,100]) (by rfl)with⟨m,e,d⟩|⟨i,e,d,f⟩|⟨i,e,d,f⟩
 .unfold aF;rw[e,Y2 (by rw[d.is (by omega)];simp)];exact Y8 d.C
 .unfold aF;rw[e,Y9 d];exact⟨b,f,(la b).symm,rfl,rfl⟩
 .have j:∀(g:Bool->PM Ty),aF (cZ (aA t) [118,111,105,100]) g st=g false i:=λg=>by grind [aF]
  rw[j,Y2 (by simp_all)];simp only[Ye,if_false]
  have:=CG f;unfold Sw at this ⊢;grind
def XL(d:List bg)(g:Int)(e:List (Int×dN))(f:List br):Prop:=f.length=e.length/\∀(c:Nat) (b:Int×dN) (a:br),e[c]? = some b->f[c]? = some a->a.prog=g/\a.fn=b.1/\a.jN=b.2.num/\dt d b.2.cF a.cF/\dt d b.2.c2 a.c2
def zq(b:List bg)(a:Int):XL b a [] []:=⟨rfl,λe c f d=>by simp⟩
theorem XL.ca{f:List bg}{e:Int}{g k:List (Int×dN)}{m n:List br}(a:XL f e g m)(j:XL f e k n):XL f e (g++k) (m++n):=by
 refine⟨by simp[a.1,j.1],?_⟩;intro i h l b c;rcases Yj i g.length with d|d
 .rw[Ys d]at b;rw[Ys (by rw[a.1];omega)]at c;exact a.2 i h l b c
 .rw[Yw d]at b;rw[Yw (by rw[a.1];omega),a.1]at c;exact j.2 _ h l b c
def XL.aa{e:Int}{f:List (Int×dN)}{g:List br}(b:XL a.w e f g)(c:cC a d):XL d.w e f g:=⟨b.1,λp h q n o=>by
 obtain⟨i,j,k,l,m⟩:=b.2 p h q n o;exact⟨i,j,k,l.aa c,m.aa c⟩⟩
def XL.fn{k:List bg}{j:Int}{e:List dN}{f:List br}(g:XL k j (e.map λa=>(0,a)) f)(i:Int):XL k j (e.map λa=>(i,a)) (f.map λm=>{ m with fn:=i }):=by
 refine⟨by have:=g.1;simp_all,?_⟩;intro d o u b c;rw[List.getElem?_map]at b c;cases l:e[d]? with
 |none=>simp_all
 |some a=>
  cases h:f[d]? with
  |none=>simp_all
  |some n=>
   rw[l]at b;rw[h]at c;simp at b c;obtain⟨p,q,r,s,t⟩:=g.2 d (0,a) n (by simp_all) h;grind
def XL.prog{f:List bg}{g:List (Int×dN)}{b:List br}(c:XL f 0 g b)(n:Int):XL f n g (b.map λj=>{ j with prog:=n }):=by
 refine⟨by have:=c.1;simp_all,?_⟩;intro e h r i a;rw[List.getElem?_map]at a;cases d:b[e]? with
 |none=>simp_all
 |some k=>
  rw[d]at a;simp at a;obtain⟨l,m,o,p,q⟩:=c.2 e h k i d;grind
def oz(a:dN):Zb:=dm a.c2++[32]++a.t++[40]++dm a.cF++[41,32,61,32]++bO a.num++[59,32]
abbrev kS(t:Zb)(b:Nat)(a:ae):(Int×Zb)×ae:=es t (aD b 8 a)
abbrev ml(t:Zb)(b:Nat)(c:Zc)(a:ae):dO×ae:=cd t c false (kS t b a).2
abbrev kR(t:Zb)(b:Nat)(c:Zc)(a:ae):(Int×Zb)×ae:=es t (af t 4 [40] (ml t b c a).2)
abbrev fE(t:Zb)(b:Nat)(d:Zc)(c:List Int)(a:ae):Int×ae:=bS t c (af t 4 [41] (kR t b d a).2)
abbrev uY(t:Zb)(b:List br)(c:Zc)(d:List Int)(a:ae):List br:=b++[⟨0,0,(fE t b.length c d a).1,(kR t b.length c a).1.1,(kS t b.length a).1.1⟩]
theorem xW(h:a.s.e=0)(g:Nat)(b:List br)(c:Zc)(d:List Int)(f:Zb):eV t (g+1) b c d f a =
  if aH (fE t b.length c d a).2 4 [125]=true then ((uY t b c d a,f++(kS t b.length a).1.2++[32]++(ml t b.length c a).1.text++[40]++(kR t b.length c a).1.2++[41,32,61,32]++bO (fE t b.length c d a).1++[59,32]),(fE t b.length c d a).2)
  else eV t g (uY t b c d a) (c++[(ml t b.length c a).1.text]) (d++[(fE t b.length c d a).1]) (f++(kS t b.length a).1.2++[32]++(ml t b.length c a).1.text++[40]++(kR t b.length c a).1.2++[41,32,61,32]++bO (fE t b.length c d a).1++[59,32]) (fE t b.length c d a).2:=by
 simp_all[eV]
def CX(b:Nat)(d:Zc)(c:List Int)(a:ae):aX (aD b 8 a) (fE t b d c a).2:=(rr _).u ((lH _ _ _).u ((aZ _ _ _).u ((rr _).u ((aZ _ _ _).u (mv _ _)))))
def HF(b:Nat)(d:Zc)(c:List Int)(a:ae):cC a (fE t b d c a).2:=(cD _ _ _).aa.u ((sg _).u ((hb _ _ _).aa.u ((az _ _ _).aa.u ((sg _).u ((az _ _ _).aa.u (mh _ _))))))
theorem ys(b:Nat)(c:List br)(f:Zc)(d:List Int)(e:Zb)(a:ae):aX a (eV t b c f d e a).2:=λg=>by
 cases b<;>simp_all[eV]
def CY(h:a.s.e=0)(f:Nat)(b:List br)(d:Zc)(c:List Int)(g:Zb):aX (fE t b.length d c a).2 (eV t (f+1) b d c g a).2:=by
 grind [xW,dV,ys]
def Pk(I:Q t b st a){e:Nat}(b0:aD e 8 a=a)(d:Zc)(i:List (Int×Int))(h:List Int)(M:i.map (·.1)=h) :
  Sx t (λg n c=>c=b.cc (lB g)/\n.1=d++[g.t]/\n.2.map (·.1)=h++[g.num]/\(ml t e d a).1.text=g.t/\(fE t e d h a).1=g.num/\dt (fE t e d h a).2.w g.c2 (kS t e a).1.1/\dt (fE t e d h a).2.w g.cF (kR t e d a).1.1/\(kS t e a).1.2=dm g.c2/\(kR t e d a).1.2=dm g.cF) (kc (aA t) (d,i) st) (fE t e d h a).2:=by
 unfold kc;have v:=CI I;have H:kS t e a=es t a:=by grind
 rw[<-H]at v;have s:aX (kR t e d a).2 (fE t e d h a).2:=(aZ _ _ _).u (mv _ _);have u:aX (ml t e d a).2 (fE t e d h a).2:=(aZ _ _ _).u ((rr _).u s);have x:cC (kR t e d a).2 (fE t e d h a).2:=(az _ _ _).aa.u (mh _ _);have a3:cC (kS t e a).2 (fE t e d h a).2:=(hb _ _ _).aa.u ((az _ _ _).aa.u ((sg _).u x));refine wl (zi v) ((lH _ _ _).u u) (λf p=>(p.iG d false).bM u) ?_;rintro b3 b4 w y N ⟨⟨K,A,B⟩,rfl⟩;have k:=vz N d 0 0;have J:Sx t (λq (n:eS) c=>c=y/\(ml t e d a).1.text=q.1/\n=(d++[q.1],i)) (ha (name (aA t) (bb 0 0)) (d,i) w) (ml t e d a).2:=by
  unfold ha;simp only;cases j:name (aA t) (bb 0 0) d w with
  |error f=>rw[j]at k;exact k
  |ok g=>
   rw[j]at k;obtain⟨z,r,rfl,o,a9,C⟩:=k;exact⟨_,r,rfl,o,by rw[C]⟩
 refine eF J u ?_;rintro q b5 b9 z r ⟨rfl,o,rfl⟩;refine eF (go (eC r (kd:=4) (l:=[40]) (by rfl))) ((rr _).u s) ?_;rintro a2 b6 c0 a4 O ⟨⟨rfl,-⟩,rfl⟩;refine wl (zi (CI O)) s (λf p=>(p.hv (by omega)).bM (mv _ _)) ?_;rintro a8 b7 c1 a5 P ⟨⟨L,D,E⟩,rfl⟩;refine eF (go (eC P (kd:=4) (l:=[41]) (by rfl))) (mv _ _) ?_;rintro a2 b8 a1 a6 R ⟨⟨rfl,-⟩,rfl⟩;have m:=CF R i h M;unfold aG jt;simp only;cases j:kI (aA t) i a1 with
 |error f=>rw[j]at m;exact m
 |ok g=>
  obtain⟨b1,b2,c2⟩:=g;rw[j]at m;obtain⟨a7,a0,rfl,F,G⟩:=m;exact⟨_,a0,by rw[L,K,qf];rfl,rfl,G,o,F.symm,A.aa a3,D.aa x,B,E⟩
def Pl:∀(k:Nat) (j:List dN) (l:List br) (d:Zc) (r:List (Int×Int)) (i:List Int) (m:Zb) (st:St) (a:ae) (b:bz),Q t b st a->r.map (·.1)=i->j.length+k=9->j.length<=8->XL a.w 0 (j.map λh=>(0,h)) l->
  Sx t (λ_ n c=>∃s,c=b.cc (s.flatMap lB)/\n.1=j++s/\XL (eV t (k+1) l d i m a).2.w 0 ((j++s).map λh=>(0,h)) (eV t (k+1) l d i m a).1.1/\(eV t (k+1) l d i m a).1.2=m++s.flatMap oz/\cC a (eV t (k+1) l d i m a).2) (mb (aA t) 8 (jB (aA t)) k j.length (j,(d,r)) st) (af t 4 [125] (eV t (k+1) l d i m a).2):=by
 intro k;induction k with
 |zero=>omega
 |succ k a5=>
  intro j l d r i m st a b p a2 c2 c3 z;have c4:l.length=j.length:=by have:=z.1;grind
  have K:=(CY (t:=t) p.e (k+1) l d i m).u (aZ (t:=t) 4 [125] _);have A:=(CX (t:=t) l.length d i a).u K;unfold mb;rcases pk t st with⟨B,n,q⟩|⟨f,q⟩
  .rw[xV q];have v:=p.d1 q l.length 8;by_cases F:8<=j.length
   .rw[vn F];rw[Y9 (by omega)]at v;rw[v]at A;exact(p.d0 (e:=5) (a:=B.m) (by omega)).bM A
   .rw[vo F];rw[Y2 (by omega)]at v;have w:=Pk (p.g1 q) v d r i a2;have a4:Sx t (λ_ (n:List dN×eS) c=>∃h,c=b.cc (lB h)/\n.1=j++[h]/\n.2.1=d++[h.t]/\n.2.2.map (·.1)=i++[h.num]/\(ml t l.length d a).1.text=h.t/\(fE t l.length d i a).1=h.num/\dt (fE t l.length d i a).2.w h.c2 (kS t l.length a).1.1/\dt (fE t l.length d i a).2.w h.cF (kR t l.length d a).1.1/\(kS t l.length a).1.2=dm h.c2/\(kR t l.length d a).1.2=dm h.cF) (jB (aA t) (j,(d,r)) { st with m:=n,nx:=some B }) (fE t l.length d i a).2:=by
     unfold jB;simp only;cases G:kc (aA t) (d,r) { st with m:=n,nx:=some B }with
     |error f=>rw[G]at w;exact w
     |ok h=>
      rw[G]at w;obtain⟨N,a9,a1,P⟩:=w;exact⟨_,a9,h.1,a1,rfl,P⟩
    refine eF a4 K ?_;rintro b0 a6 c8 M a8 ⟨h,c0,C,D,E,R,S,b1,b2,b3,b4⟩;have y:=HF (t:=t) l.length d i a;rw[xW p.e];have H:XL (fE t l.length d i a).2.w 0 ((j++[h]).map λh=>(0,h)) (uY t l d i a):=by
     rw[List.map_append];refine(z.aa y).ca ⟨rfl,?_⟩;intro I O c9 c1 z;match I with
     |0=>
      grind
     |I+1=>grind
    have a3:m++(kS t l.length a).1.2++[32]++(ml t l.length d a).1.text++[40]++(kR t l.length d a).1.2++[41,32,61,32]++bO (fE t l.length d i a).1++[59,32]=m++oz h:=by
     grind [oz]
    rw[a3,R,S];obtain⟨c5,c6,a7⟩:=a6;simp only at C D E;subst C;subst D;generalize uY t l d i a=J at *
    generalize (fE t l.length d i a).2=g at *
    rw[wt];rcases iq a8 (kd:=4) (l:=[125]) (by rfl)with⟨b9,u,o⟩|⟨L,u,o,x⟩|⟨L,u,o,x⟩
    .rw[tO u,Y2 (by rw[o.is (by omega)];simp)];exact(((o.d1 (J.length) 8).bM (CX _ _ _ _)).bM (CY o.e k _ _ _ _)).bM (aZ _ _ _)
    .rw[nV u,Y9 o,mF o];exact⟨_,x,[h],by grind,rfl,H,by simp,y⟩
    .rw[nV u,Y2 (by grind)];simp only[Ye,if_false]
     have:=a5 (j++[h]) J (d++[h.t]) a7 (i++[h.num]) (m++oz h) L g M x E (by grind) (by grind) H;rw[show (j++[h]).length=j.length+1 by simp]at this;refine this.K ?_;rintro b0 c7 N ⟨s,b5,b6,b7,b8,a0⟩;refine⟨h::s,by grind [qf],by grind,?_,by grind,y.u a0⟩;grind
  .rw[xU q];exact((p.bd q).d1 _ _).bM A
end
section
variable {t : Zb} {st h : St} {b i j σ1 σ2 : ae} {c f : bz} {g : Mar.aw}
def mD(v:eg):Zb:=[118,101,114,115,105,111,110,32]++v.t++[32,123,32]++v.ag.flatMap oz++[125,32,61,32]++bO v.num++[59,32]
def nC(v:eg):List (Int×dN):=v.ag.map λa=>(v.num,a)
def Co{e:Type}{h:Unit->e->bz->Prop}{c:PX e Unit}{d:e}(a:Sx t h (c d st) b):S t (λj f=>h () j f) (iz c d st) b:=by
 unfold iz;cases i:c d st with
 |ok j=>rw[i]at a;exact a
 |error g=>rw[i]at a;exact a
def Pu(E:Q t c st b)(a:Zc)(i:List (Int×Int))(d:List Int)(K:i.map (·.1)=d) :
  Sx t (λv q f=>f=c.cc (eW v)/\q.1=a++[v.t]/\q.2.map (·.1)=d++[v.num]/\(ed t a d b).1.b0=v.t/\(ed t a d b).1.num=v.num/\(ed t a d b).1.j=mD v/\XL (ed t a d b).2.w 0 (nC v) (ed t a d b).1.l) (jA (aA t) (a,i) st) (ed t a d b).2:=by
 unfold jA ed;simp only;generalize I:cd t a false (af t 2 [118,101,114,115,105,111,110] b)=h;generalize G:eV t 10 [] [] [] ([118,101,114,115,105,111,110,32]++h.1.text++[32,123,32]) (af t 4 [123] h.2)=e;have x:aX (af t 4 [125] e.2) (bS t d (af t 4 [125] e.2)).2:=mv _ _;have y:aX (af t 4 [123] h.2) (af t 4 [125] e.2):=by
  grind [aX.u,aZ,ys]
 refine eF (go (eC E (kd:=2) (l:=[118,101,114,115,105,111,110]) (by rfl))) ?_ ?_
 .grind [aX.u,aZ,lH]
 rintro a3 b0 z A N ⟨⟨rfl,-⟩,rfl⟩;have j:=vz N a 0 0;rw[I]at j;have F:Sx t (λn (q:eS) f=>f=A/\h.1.text=n.1/\q=(a++[n.1],i)) (ha (name (aA t) (bb 0 0)) (a,i) z) h.2:=by
  unfold ha;simp only;cases k:name (aA t) (bb 0 0) a z with
  |error g=>rw[k]at j;exact j
  |ok p=>
   rw[k]at j;obtain⟨u,s,rfl,r,a7,B⟩:=j;exact⟨_,s,rfl,r,by rw[B]⟩
 refine eF F ((aZ _ _ _).u (y.u x)) ?_;rintro n b1 a0 u s ⟨rfl,r,rfl⟩;unfold rB;have J:Sx t (λ_ (o:List dN×eS) f=>f=u.cc (o.1.flatMap lB)/\XL e.2.w 0 (o.1.map λp=>(0,p)) e.1.1/\e.1.2=[118,101,114,115,105,111,110,32]++n.1++[32,123,32]++o.1.flatMap oz) (ei (aA t) 8 (jB (aA t)) ([],([],[])) a0) (af t 4 [125] e.2):=by
  unfold ei;refine eF (go (eC s (kd:=4) (l:=[123]) (by rfl))) y ?_;rintro a3 b4 a1 a4 O ⟨⟨rfl,-⟩,rfl⟩;rw[ws];have:=Pl (t:=t) 9 [] [] [] [] [] ([118,101,114,115,105,111,110,32]++h.1.text++[32,123,32]) a1 (af t 4 [123] h.2) _ O rfl (by simp) (by simp) (zq _ _);rw[G]at this;refine this.K ?_;simp_all
 refine eF (go (Co J)) x ?_;rintro o b2 a2 a5 P ⟨⟨H,C,a8⟩,rfl⟩;have m:=CF P i d K;unfold aG jt;simp only;cases k:kI (aA t) i a2 with
 |error g=>rw[k]at m;exact m
 |ok p=>
  obtain⟨M,a9,b3⟩:=p;rw[k]at m;obtain⟨a6,R,rfl,w,D⟩:=m;have L:(bS t d (af t 4 [125] e.2)).2.w=e.2.w:=by
   have:=(mh (t:=t) d (af t 4 [125] e.2)).w;unfold bS;simp only;exact((az (t:=t) 4 [61] (af t 4 [125] e.2)).u ((fZ _ _ _).u ((jv _ _ _ _).u (az _ _ _)))).w
  refine⟨_,R,H,rfl,D,r,w.symm,?_,?_⟩
  .grind [mD]
  .rw[<-w,L];exact C.fn M
def HI(a:Zc)(c:List Int)(b:ae):cC b (ed t a c b).2:=Ah _ _ _
def Dd(a:Zc)(c:List Int)(b:ae):aX b (ed t a c b).2:=by
 exact(aZ _ _ _).u ((lH _ _ _).u ((aZ _ _ _).u ((ys _ _ _ _ _ _).u ((aZ _ _ _).u (mv _ _)))))
theorem vM(g:b.s.e=0)(f:Nat)(c:Zc)(a:List Int)(all:List br)(d:Zb):ec t (f+1) c a all d b =
  if aH (ed t c a (aD a.length 4 b)).2 4 [125]=true then ((all++(ed t c a (aD a.length 4 b)).1.l,d++(ed t c a (aD a.length 4 b)).1.j),(ed t c a (aD a.length 4 b)).2)
  else ec t f (c++[(ed t c a (aD a.length 4 b)).1.b0]) (a++[(ed t c a (aD a.length 4 b)).1.num]) (all++(ed t c a (aD a.length 4 b)).1.l) (d++(ed t c a (aD a.length 4 b)).1.j) (ed t c a (aD a.length 4 b)).2:=by
 simp_all[ec]
def Dc(g:b.s.e=0)(d:Nat)(c:Zc)(a:List Int)(all:List br)(f:Zb):aX (ed t c a (aD a.length 4 b)).2 (ec t (d+1) c a all f b).2:=by
 grind [vM,dV,yv]
def Pv:∀(j:Nat) (i:List eg) (h:Zc) (r:List (Int×Int)) (d:List Int) (all:List br) (m:Zb) (st:St) (b:ae) (c:bz),Q t c st b->r.map (·.1)=d->d.length=i.length->i.length+j=5->i.length<=4->XL b.w 0 (i.flatMap nC) all->
  Sx t (λ_ n f=>∃s,f=c.cc (s.flatMap eW)/\n.1=i++s/\XL (ec t (j+1) h d all m b).2.w 0 ((i++s).flatMap nC) (ec t (j+1) h d all m b).1.1/\(ec t (j+1) h d all m b).1.2=m++s.flatMap mD/\cC b (ec t (j+1) h d all m b).2) (mb (aA t) 4 (iV (aA t)) j i.length (i,(h,r)) st) (af t 4 [125] (ec t (j+1) h d all m b).2):=by
 intro j;induction j with
 |zero=>omega
 |succ j a3=>
  intro i h r d all m st b c p a0 c0 b8 b9 a2;have y:=(Dc (t:=t) p.e (j+1) h d all m).u (aZ (t:=t) 4 [125] _);have B:=(Dd (t:=t) h d (aD d.length 4 b)).u y;unfold mb;rcases pk t st with⟨C,n,q⟩|⟨g,q⟩
  .rw[xV q];have w:=p.d1 q d.length 4;by_cases G:4<=i.length
   .rw[vn G];rw[Y9 (by omega)]at w;rw[w]at B;exact(p.d0 (e:=5) (a:=C.m) (by omega)).bM B
   .rw[vo G];rw[Y2 (by omega)]at w;rw[vM p.e];rw[vM p.e]at y;rw[w]at y ⊢;have x:=Pu (p.g1 q) h r d a0;have A:=HI (t:=t) h d b;generalize ed t h d b=k at *
    have a1:Sx t (λ_ (n:List eg×eS) f=>∃v,f=c.cc (eW v)/\n.1=i++[v]/\n.2.1=h++[v.t]/\n.2.2.map (·.1)=d++[v.num]/\k.1.b0=v.t/\k.1.num=v.num/\k.1.j=mD v/\XL k.2.w 0 (nC v) k.1.l) (iV (aA t) (i,(h,r)) { st with m:=n,nx:=some C }) k.2:=by
     unfold iV;simp only;cases H:jA (aA t) (h,r) { st with m:=n,nx:=some C }with
     |error g=>rw[H]at x;exact x
     |ok a7=>
      rw[H]at x;obtain⟨L,a9,S,M⟩:=x;exact⟨_,a9,a7.1,S,rfl,M⟩
    refine eF a1 y ?_;rintro b0 a5 c4 K a8 ⟨v,b7,D,E,F,N,O,P,b1⟩;rw[N,O,P];have I:XL k.2.w 0 ((i++[v]).flatMap nC) (all++k.1.l):=by
     rw[YK];refine(a2.aa A).ca ?_;grind
    obtain⟨c1,c2,a6⟩:=a5;simp only at D E F;subst D;subst E;generalize k.1.l=a4 at *
    generalize k.2=σ2 at *
    rw[wt];rcases iq a8 (kd:=4) (l:=[125]) (by rfl)with⟨b6,u,o⟩|⟨J,u,o,z⟩|⟨J,u,o,z⟩
    .rw[tO u,Y2 (by rw[o.is (by omega)];simp)];exact(((o.d1 _ _).bM (Dd _ _ _)).bM (Dc o.e j _ (d++[v.num]) _ _)).bM (aZ _ _ _)
    .rw[nV u,Y9 o,mF o];exact⟨_,z,[v],by grind,rfl,I,by simp,A⟩
    .rw[nV u,Y2 (by grind)];simp only[Ye,if_false]
     have:=a3 (i++[v]) (h++[v.t]) a6 (d++[v.num]) (all++a4) (m++mD v) J σ2 K z F (by grind) (by grind) (by grind) I;rw[show (i++[v]).length=i.length+1 by simp]at this;refine this.K ?_;rintro b0 c3 L ⟨s,b2,b3,b4,b5,R⟩;refine⟨v::s,by grind [qf],by grind,?_,by grind,A.u R⟩;grind
  .rw[xU q];exact((p.bd q).d1 _ _).bM B
def qV(b:Zb)(c:List eg)(a:Int):Zb:=[112,114,111,103,114,97,109,32]++b++[32,123,32]++c.flatMap mD++[125,32,61,32]++bO a++[59,10]
def Cu{d:Type}{a:List d}{b:Nat}{c:d}(e:a[b]? = some c):a.set b c=a:=by
 apply List.ext_getElem?;grind
def Ou{d:Type}(e:¬4<=st.O.length)(c:Nat)(a:Unit->PM d):aF (λb=>dS b.O.length 4 c b) a st=a () st:=by
 simp_all[aF,dS,Y2]
def Ot{d:Type}(e:4<=st.O.length)(a:Nat)(c:Unit->PM d):aF (λb=>dS b.O.length 4 a b) c st=.error ⟨5,a⟩:=by
 simp_all[aF,dS]
def Pm{s:Mar.aT}{m:Nat}(C:Q t c st b)(x:c.pd=[])(c0:c.dc=0)(a1:dK t st.m st.nx=.ok (s,m))(c1:aH b 2 [112,114,111,103,114,97,109]=true) :
  S t (λd f=>∃a5 a k h ps,d=.prog a5 a k h/\oL c f d (qV a5 k h) ps/\XL (gg t b).w h (k.flatMap nC) ps) (hW (ia (aA t) s.m) { st with m:=m,nx:=none }) (gg t b):=by
 have c3:=C.d4 a1;have E:=C.d1 a1 b.O.length 4;have e4:b.O.length=st.O.length:=by rw[C.pg];simp
 have a8:=Qm (t:=t) b;by_cases L:4<=st.O.length
 .rw[Y9 (by omega)]at E;have q:ia (aA t) s.m { st with m:=m,nx:=none } = .error ⟨5,s.m⟩:=Ot (st:={ st with m:=m,nx:=none }) L _ _;rw[hX q];rw[E]at a8;exact(C.d0 (e:=5) (a:=s.m) (by omega)).bM a8
 .rw[Y2 (by omega)]at E;have c2:ia (aA t) s.m { st with m:=m,nx:=none } = aF (gf (aA t)) (pI (aA t)) { st with m:=m,nx:=none }:=Ou (st:={ st with m:=m,nx:=none }) L _ _;unfold gg;simp only;rw[E,mF c1];generalize c9:aR t 2 (aW t b)=A;generalize c8:ec t 6 [] [] [] ([112,114,111,103,114,97,109,32]++A.1.text++[32,123,32]) (af t 4 [123] A.2)=v;have b0:aX (af t 4 [123] A.2) (af t 4 [125] v.2):=by
   grind [aX.u,aZ,yv]
  have a7:aX (af t 4 [125] v.2) (bS t (af t 4 [125] v.2).O (af t 4 [125] v.2)).2:=mv _ _;have a2:Sm (af t 4 [125] v.2) (bS t (af t 4 [125] v.2).O (af t 4 [125] v.2)).2:=by
   unfold bS;exact(az _ _ _).u ((fZ _ _ _).u ((jv _ _ _ _).u (az _ _ _)))
  have q:S t (λd f=>∃(h:Zb×Nat) (k:List eg),d=.prog h.1 h.2 k (bS t (af t 4 [125] v.2).O (af t 4 [125] v.2)).1/\f=(c.a0 h.1).cc (k.flatMap eW)/\aL c.nl h.1=none/\XL v.2.w 0 (k.flatMap nC) v.1.1/\v.1.2=[112,114,111,103,114,97,109,32]++h.1++[32,123,32]++k.flatMap mD)
    (ia (aA t) s.m { st with m:=m,nx:=none }) { (bS t (af t 4 [125] v.2).O (af t 4 [125] v.2)).2 with O:=(bS t (af t 4 [125] v.2).O (af t 4 [125] v.2)).2.O++[(bS t (af t 4 [125] v.2).O (af t 4 [125] v.2)).1] }:=by
   rw[c2];have M:=rk c3 x;rw[c9]at M;refine eZ M ((aZ _ _ _).u (b0.u (a7.u (rq rfl)))) ?_;rintro h d4 b1 j ⟨rfl,e8,d7,d8,e9⟩;unfold pI;have b9:Sx t (λ_ (m:List eg×eS) f=>f=(c.a0 h.1).cc (m.1.flatMap eW)/\XL v.2.w 0 (m.1.flatMap nC) v.1.1/\v.1.2=[112,114,111,103,114,97,109,32]++h.1++[32,123,32]++m.1.flatMap mD) (ei (aA t) 4 (iV (aA t)) ([],([],[])) d4) (af t 4 [125] v.2):=by
    unfold ei;refine eF (go (eC j (kd:=4) (l:=[123]) (by rfl))) b0 ?_;rintro d7 e6 d6 J w ⟨⟨rfl,-⟩,rfl⟩;rw[ws];have:=Pv (t:=t) 5 [] [] [] [] [] ([112,114,111,103,114,97,109,32]++A.1.text++[32,123,32]) d6 (af t 4 [123] A.2) _ w rfl rfl (by simp) (by simp) (zq _ _);rw[c8]at this;refine this.K ?_;simp_all
   refine eZ (Co b9) (a7.u (rq rfl)) ?_;rintro a4 e5 d9 d1 ⟨rfl,b4,b5⟩;unfold mf;generalize af t 4 [125] v.2=i at *
   generalize hF:({ (bS t i.O i).2 with O:=(bS t i.O i).2.O++[(bS t i.O i).1] }:ae)=B;have d5:aX (af t 4 [61] i) B:=by
    rw[<-hF];unfold bS;exact(hc _ _ _).u ((kk _ _ _ _).u ((aZ _ _ _).u (rq rfl)))
   refine eZ (σ1:=B) (eZ (σ2:=B) (R':=λF f=>f=(c.a0 h.1).cc (a4.1.flatMap eW)/\F=(bS t i.O i).1) (eC d1 (kd:=4) (l:=[61]) (by rfl)) d5 ?_) (dV B) ?_
   .rintro e7 y J w ⟨rfl,-⟩;have c4:y.O.map (·.1)=i.O:=w.pg.symm;have D:=vy w y.O i.O c4 0 4294967295;have c5:=a2.O;unfold aF kQ;rw[<-hF,c5];unfold bS;simp only;cases u:fM (aA t) (df 0 4294967295) y.O y with
    |error g=>
     rw[u]at D;exact(Er.bM D (aZ _ _ _)).bM (rq rfl)
    |ok I=>
     obtain⟨F,a3,a6⟩:=I;rw[u]at D;obtain⟨e0,p,rfl,b6,b7,-,-⟩:=D;simp only;have d2:Q t _ { a6 with O:=a3 } { (if(bn t 0 4294967295 (af t 4 [61] i)).2.s.e=0/\i.O.contains (bn t 0 4294967295 (af t 4 [61] i)).1.1=true then bL 6 (bn t 0 4294967295 (af t 4 [61] i)).1.2 (bn t 0 4294967295 (af t 4 [61] i)).2 else (bn t 0 4294967295 (af t 4 [61] i)).2)with O:=i.O++[F] }:=⟨p.e,p.wd,p.nl,p.pd,p.nm,p.H,p.cn,b7.symm,p.d6,p.d9,p.ou,p.pr,p.eL,p.e6⟩
     have r:=eC d2 (kd:=4) (l:=[59]) (by rfl);subst b6;cases N:bY (aA t) [59] { a6 with O:=a3 }with
     |error g=>
      rw[N]at r;have r:Er g _:=r;exact⟨r.e,r.a,r.z⟩
     |ok G=>
      rw[N]at r;obtain⟨e1,d3,rfl,-⟩:=r;exact⟨_,d3,rfl,rfl⟩
   .rintro F y J w ⟨rfl,rfl⟩;exact S.ret w ⟨h,a4.1,rfl,rfl,d8,b4,b5⟩
  cases u:ia (aA t) s.m { st with m:=m,nx:=none }with
  |error g=>
   rw[u]at q;have q:Er g _:=q;rw[hX u];exact⟨q.e,q.a,q.z⟩
  |ok I=>
   obtain⟨d,a9⟩:=I;rw[u]at q;obtain⟨b1,j,h,k,rfl,rfl,b2,b3,e2⟩:=q;have c6:(bS t (af t 4 [125] v.2).O (af t 4 [125] v.2)).2.w=v.2.w:=a2.w;rw[oi u];generalize bS t (af t 4 [125] v.2).O (af t 4 [125] v.2)=n at *
   have P:aL (c.a0 h.1).nl h.1=some none:=by simp_all[oq]
   have c7:a9.A=(c.a0 h.1).nl:=by rw[j.nl];simp[bz.cc,x]
   obtain⟨d0,G,e3,H,K,b8⟩:=wX j P;have R:=j.nm.a9 (d:=.prog h.1 h.2 k n.1) (r:=G) P H ⟨b8,by
    have:=j.nm.gk d0 _ _ H K;exact this.2⟩
   have O:=j.e6.a9 H (.prog h.1 h.2 k n.1) G;rw[Cu K]at R O;refine⟨{ ((c.a0 h.1).cc (k.flatMap eW)).a9 h.1 (.prog h.1 h.2 k n.1)with o:=c.o++qV h.1 k n.1,ps:=c.ps++v.1.1.map λm=>{ m with prog:=n.1 } },?_,h.1,h.2,k,n.1,_,rfl,⟨x,c0,rfl,rfl,rfl,rfl,[],pM b2,by simp⟩,?_⟩
   .refine⟨j.e,j.wd,?_,Y8 x,R,j.H,j.cn,j.pg,j.d6,j.d9,?_,?_,j.eL,O⟩
    .show dd a9.A h.1 _=dd _ h.1 _++c.pd;rw[c7,x,YH];rfl
    .show n.2.j++_=c.o++qV h.1 k n.1;have a0:n.2.j=c.o:=j.ou;grind [qV]
    .show n.2.ag++_=c.ps++_;have a0:n.2.ag=c.ps:=j.pr;rw[a0]
   .show XL n.2.w n.1 _ _;rw[c6];exact b3.prog _
end
end Go.Proofs.YtjdhaegijjednaaGreatDoor
