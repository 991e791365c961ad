import Derived.Test.YtjdhaegijjednaaGreatDoorT1
import Derived.ChangeKeysEq
import Derived.Deep.AppendLies
import Derived.Deep.CutBlock
import Derived.Deep.DeepCutAuto
import Derived.Laws.OwnMore
import Derived.Deep.OwnRows
set_option linter.all false
set_option maxRecDepth 100000
set_option maxHeartbeats 4000000
namespace Go.Proofs.YtjdhaegijjednaaGreatDoor
open Go.RowKit Go.MapKept Go.Proofs.Tryz
section
variable {b:Ad}{f:Mar.ac}{d:Int->Bool}{g:List go}{k:fJ}{e:Zw}{c h:St}
def Rd.nB{p l o}(a:Rd b p c e)(g:ap [b.P] e l)(h:hn b.P o l):Rd b p { c with ah:=o } l:=by
 obtain⟨E,F,L,M⟩:=a.lt;obtain⟨I,J,r,K,s,t⟩:=a.cc;have A:e.heap[b.P]?=some (.map (c.ah.mapIdx λC d=>(⟨Y d.1,Y d.2,C⟩:MapEntry)).toArray c.ah.length):=a.pr;have j:∀i v,e.cell? (Zd i 0)=some v->i≠b.P:=by
  intro i v k u;subst u;unfold World.cell? at k;rw[A]at k;cases k
 obtain⟨⟨N,w⟩,⟨_,_,x⟩,⟨_,_,y⟩⟩:=id a.gl;refine⟨(g.ak _ E (by simp;exact r)).trans a.me,?_,a.nm.ae g (by simp;exact a.cD.2.2.2) (by simp;exact t),a.cD,λm B=>Yr (a.bn m B) g.aG,h,a.np,a.gl.ae g (by simp[j _ _ w]) (by simp[j _ _ x]) (by simp[j _ _ y]),a.de,a.bm⟩;obtain⟨z,f⟩:=a.sc;refine⟨z,?_⟩;have n:=g.ak _ F (by simp;exact s);show match c.nx with|some m=>_|none=>_
 cases h:c.nx with
 |some m=>rw[h]at f;exact n.trans f
 |none=>rw[h]at f;obtain⟨D,H,G,q,f⟩:=f;exact⟨D,H,G,q,n.trans f⟩
def rM(e:Za)(d:Int->Bool):PM Int:=λc=>match ir e d c.ah c with
 |.ok (b,a,h)=>.ok (b,{ h with ah:=a })
 |.error f=>.error f
def Gh{e}{b:Int}{a:List (Int×Int)}(f:ir e d c.ah c=.ok (b,a,h)):rM e d c=.ok (b,{ h with ah:=a }):=by simp only[rM,f]
theorem Cq{a}(b:ir a d c.ah c=.error f):rM a d c=.error f:=by simp only[rM,b]
def abz{p v}(l:Rd b p c e)(y:oV b.X v d e):Calls prog 250 #[Zp b.R,.map (some b.P),v] e (fH [b.S,b.P] b p e (rM p d c) nO):=by
 have t:=U (HM l y);have q:hn b.P c.ah e:=l.pr;have z:b.P ∉ [b.S]:=by simp;exact λk=>l.cc.2.2.2.2.1 k.symm
 go_in;go_wp21;refine t.i.mono ?_;rintro k E ⟨g,⟨B,G,i,rfl,A⟩|⟨f,i,x,m,rfl,n⟩⟩;rotate_left
 .exact bM (gJ (g.aZ Zq) (ar [] _) (Cq (fc (im i))) m n)
 have r:=q.ae g z;have j:=U (g.aZ (M':=[b.S,b.P]) Zq);clear g q;go_wp21;refine(Pi _ _ r).mono ?_;rintro k F ⟨h,⟨C,D,o,rfl,rfl,s⟩|⟨f,o,x,m,rfl,n⟩⟩;rotate_left
 .exact bM (gJ (j.i.u (h.aZ Zq)) j.i (Cq ((dZ (gF i)).trans (fc (xV o)))) m n)
 have w:=U (A.nB h s);have u:=U (j.i.u (h.aZ (M':=[b.S,b.P]) Zq));clear r h s;go_wp2;go_ret;exact hM (a:=B.1) u.i (Gh ((dZ (gF i)).trans (dZ (xW o)))) rfl w.i
def sR(a:Za):PM Int:=aN (cu a [61]) λ_=>aN (rM a (dT 0 4294967295)) λb=>aN (cu a [59]) λ_=>ret b
def UV{f}(g:Rd b f c e):Calls prog 204 #[Zp b.R,.map (some b.P)] e (fH [b.S,b.P] b f e (sR f c) nO):=by
 have a:=U (yI [b.S,b.P] g (by simp[g.cD]));have d:af (sR f c=aN (cu f _) _ c):=U rfl;go_in;go_wp21;refine cM a d (hq _ ·) λq s m d a=>?_;go_wp21;refine(wG _ _ _).mono ?_;rintro k n ⟨v,rfl,h,j⟩;have i:=j b.X a.i.fin.bn;have a:=U (a.i.ae (ef [] h));go_wp21;refine cM a d (abz · i) λl t o d a=>?_;dsimp only[nO];go_wp21;refine cM a d (hq _ ·) λr u p d a=>?_;go_wp2;go_ret;exact⟨a.i.kp,Y8 ⟨_,_,d.i,rfl,a.i.fin⟩⟩
def Xi:(prog.info? 367).map (λa=>(a.zero,a.size,a.bytes))=some (some (.agg #[.string ⟨#[]⟩,Y 0,.slice none 0 0,Y 0]),4,56):=Zk
def mY(e:Za):PX (List go×fJ) Unit:=λd c=>match oT e d.2 c with
 |.ok (a,b,h)=>.ok ((),(d.1++[a],b),h)
 |.error f=>.error f
def Gx{d}{b:fJ}{a:go}(e:oT d k c=.ok (a,b,h)):mY d (g,k) c=.ok ((),(g++[a],b),h):=by simp only[mY,e]
theorem Gw{a}(b:oT a k c=.error f):mY a (g,k) c=.error f:=by simp only[mY,b]
structure ID where
 D:Nat
 db:Nat
 rb:Nat
 cb:Nat
 nb:Nat
 q:Nat
 nq:Nat
 bx:Nat
abbrev Ao(d:go×Zv):Zl:=qx d.1.t d.1.y++[d.2,Y d.1.num]
abbrev IM(b:Ad)(f:Za)(d:List Th)(a:Zo)(c:St)(e g:Zw):Prop:=bF [b.R,b.S,b.N,b.P] [] b f (λ(_:Unit) _=>True) () d a c e g
def Gy(b:Ad)(a:ID)(g:Zb×Nat)(k:Nat)(d:List go×fJ)(j:List Th)(f:Zo):Prop:=d.1.length=k/\∃i e h,oj d.2.1 h/\(a.bx,Obj.cells #[.map (some a.q)] 103)∈f/\e.length=d.1.length/\(∀c (l:c<d.1.length) (m:c<e.length),fk f 446 e[c] d.1[c].ao.length (d.1[c].ao.flatMap pH))/\
 j=[.obj a.nb (.cells #[.map (some a.nq)] 149),.obj a.cb (.cells #[(cQ a.q a.bx).v] 341),.obj a.nq (lG d.2.2),.obj a.q h,.obj a.db (.cells #[Zp a.D] 233),.row 367 4 i d.1.length ((d.1.zip e).flatMap Ao),.obj a.D (.cells #[.string ⟨g.1.toArray⟩,Y g.2,i,Y 0] 267),.obj a.rb (.cells #[Zp b.R] 145)]
def abW(f:go)(c:Option Addr)(d e:Nat):∀b∈Ao (f,.slice c d e),b.oneCell'=true:=by
 intro b a;simp at a;rcases a with rfl|rfl|rfl|rfl<;>rfl
theorem acI{s t f J}{E:Nat}{n o k}(b8:E<1000)(a0:Gy b f J E n o k)(d:IM b s o k c e t):Calls prog 202 #[Zp f.db,Zp f.rb,Zp f.cb,Zp f.nb] t (yB [b.R,b.S,b.N,b.P] e (λn c t=>∃o k,Gy b f J (E+1) n o k/\IM b s o k c e t) (mY s n c)):=by
 obtain⟨g,n,a6⟩:=n;obtain⟨C,c1,O,c0,I,a2,A,B,rfl⟩:=a0;obtain⟨ad,M,rfl⟩:=aW (d.th (i:=5) rfl);dsimp only at C I d A B;have r:=U (Yp C A);have b7:g.length<1000:=Zm;clear C A;have c2:=aC (d.th (i:=6) rfl) (i:=2) rfl;have c3:=aC (d.th (i:=7) rfl) (i:=0) rfl;have c4:=aC (d.th (i:=0) rfl) (i:=0) rfl;have c5:=aC (d.th (i:=1) rfl) (i:=0) rfl;have c6:=aC (d.th (i:=4) rfl) (i:=0) rfl;have a:=U d.ag;have u:=U (Yp a2 B);clear B;go_in;go_wp21;refine bJ (λp=>p.cell? (Zd f.D 2)=some (.slice ad g.length M)/\p.cell? (Zd f.db 0)=some (Zp f.D)/\p.cell? (Zd f.rb 0)=some (Zp b.R)/\p.cell? (Zd f.cb 0)=some (cQ f.q f.bx).v/\p.cell? (Zd f.nb 0)=some (.map (some f.nq))) ?_ λz=>?_
 .go_keep
 refine bf [0,1,2,3,4,5,6,7] ?_;iterate 8 (refine bi ?_)
 refine bg ?_;refine bI 8 λl h=>?_;(go_simp;refine OJ 3 2 a (U (rfl:mY s (g,n,a6) c=_)) I u.i.1 ahk (λm a9 a7 b6 c8 L a8 b0 a5 F K a=>?_) (λ_ _ _ d=>Gx d) (λ_ d=>Gw d);obtain⟨x,y,rfl⟩:=F.sl;have b1:=aC (a.i.th (i:=6) rfl) (i:=2) rfl;have b2:=aC (a.i.th (i:=7) rfl) (i:=0) rfl;have b3:=aC (a.i.th (i:=0) rfl) (i:=0) rfl;have b4:=aC (a.i.th (i:=1) rfl) (i:=0) rfl;have b5:=aC (a.i.th (i:=4) rfl) (i:=0) rfl);refine h.out _ _ ?_ (λz=>?_)
 .go_keep
 clear h l;refine nz ?_;have a:=U (a.i.A (.cells (Ao (m,.slice x m.ao.length y)).toArray 367));refine bI 9 λl h=>?_;go_simp;refine h.out _ _ ?_ (λz=>?_)
 .go_keep
 clear h l;refine nz ?_;refine bI 10 λl h=>?_;(refine mh Xi underlying265 (a.i.th (i:=6) rfl) (Ao (m,.slice x m.ao.length y)) (heap_alloc_new b0 _) (abW m _ _ _) Zm (YV _) rfl ?_;intro H G c7 a4 a3 a1 b9;have a:=U (a.i.a4 (i:=6) rfl a4 a3 a1 rfl);have b1:=aC (a.i.th (i:=7) rfl) (i:=2) rfl;have b2:=aC (a.i.th (i:=8) rfl) (i:=0) rfl;have b3:=aC (a.i.th (i:=1) rfl) (i:=0) rfl;have b4:=aC (a.i.th (i:=2) rfl) (i:=0) rfl;have b5:=aC (a.i.th (i:=5) rfl) (i:=0) rfl);refine h.out _ _ ?_ (λz=>?_)
 .go_keep
 clear h l;refine nz ?_;have c9:=bl (a.i.th (i:=7) rfl);refine bf [11,12] ?_;iterate 2 (refine bi ?_)
 refine bg ?_;refine bL λl h=>?_;go_simp;refine h.out _ _ ?_;clear h l;refine nz ?_;have a:=U (a.i.aq (i:=7) (j:=2) rfl (.slice (some ⟨H,0,none⟩) (g.length+1) G)).au;go_wp2;go_end0;exact⟨a.i.kp,Y8 ⟨(g++[m],a9,a7),b6,K.i,rfl,_,_,⟨by simp[r.i.1],.slice (some ⟨H,0,none⟩) (g.length+1) G,O++[.slice x m.ao.length y],a8,a5,Ym _ u.i.1,by simp[r.i.2],KT (P:=λw (v:go)=>fk k 446 w v.ao.length (v.ao.flatMap pH)) (Q:=λw (v:go)=>fk (L++k) 446 w v.ao.length (v.ao.flatMap pH)) r.i.2 u.i.2 (λ_ _ d=>d.aZ λ_ d=>Ym _ d) (F.aZ λ_ d=>Yf _ d),rfl⟩,by dsimp only;rw[Id r.i.2];simpa using a.i⟩⟩
end
def acJ(args:Array Zv)(a:Zw):(callFunc 202 args).run prog a=.ok (.enter 202 args) a:=Zk
def acs(a:Ad)(c:Za)(h:Zw)(b:ID)(g:Zb×Nat):AJ (List go×fJ) [a.R,a.S,a.N,a.P] [] a c (λ(_:Unit) _=>True) () h 4 where
 f:=202
 id:=#[Zp b.db,Zp b.rb,Zp b.cb,Zp b.nb]
 a9:=mY c
 T:=Gy a b g
 d2:=acJ
 call:=λi e d=>acI Zm e d
def tm(a:Za)(b:Zb×Nat):PM aD:=aN (lL (ih a 4 (mY a)) ([],([],[]))) λd=>aN (sR a) λc=>ret (.prog b.1 b.2 d.1 c)
def lK(a:Za)(c:Nat):PM aD:=aN (λb=>gT b.ah.length 4 c b) λ_=>aN (jA a) (tm a)
def acK{b m g}(o:Nat){e}(h:Rd b m g e):Calls prog 124 #[Zp b.R,Y o] e (ve 233 [b.R,b.S,b.N,b.P] b m e (lK m o g)):=by
 have a9:=jT;have b0:=nN;have y:∀(e:Zw) A,(e.alloc A).heap.size=e.heap.size+1:=Zq;have a:=U ((yI [b.R,b.S,b.N,b.P] h (by simp[h.cD])).A (.cells #[Zp b.R] 145));have d:af (lK m o g=aN (λg=>gT g.ah.length 4 o g) _ g):=U rfl;have k:=aE (a.i.th (i:=0) rfl);have w:=a.i.fin.K.2.2.2.2.1;have b1:=Ng (show hn b.P g.ah _ from a.i.fin.pr);go_in;go_wp21;refine cM a d (CM _ _ _ ·) λb4 c1 b5 d a=>?_;have k:=aE (a.i.th (i:=0) rfl);go_wp21;refine cM a d (xy ·) λl c2 i d a=>?_;dsimp only[jB];have a:=((a.i.A (.cells #[.string ⟨l.1.toArray⟩,Y l.2,.slice none 0 0,Y 0] 267)).nil 367 4).A (.cells #[Zp i.heap.size] 233);rw[y]at a;have a:=U a;go_wp21;generalize World.alloc _ (.cells #[Zp i.heap.size] 233)=f at *
 refine(AT _).mono ?_;rintro E b6 ⟨rfl,rfl⟩;have a:=(((((a.i.A (.map #[] 0)).A (.cells #[.map (some f.heap.size)] 103)).c6).A (.map #[] 0)).A (.cells #[(cQ f.heap.size (f.heap.size+1)).v] 341)).A (.cells #[.map (some (f.heap.size+1+1))] 149);simp only[y]at a;have a:=U a;have k:=aE (a.i.th (i:=7) rfl);dsimp only[fj.v,cQ]at k ⊢;go_wp21;refine(Eu 4 (acs b m e ⟨i.heap.size,i.heap.size+1,e.heap.size,f.heap.size+1+1+1,f.heap.size+1+1+1+1,f.heap.size,f.heap.size+1+1,f.heap.size+1⟩ l) (t:=([],[],[])) Zm Zq ⟨rfl,_,[],_,AM,Yb,rfl,Zq,rfl⟩ a.i).mono ?_;rintro E b7 ⟨M,⟨⟨a2,b3⟩,c3,q,rfl,b2,a8,a7,a6,⟨rfl,a3,D,A,-,-,K,L,rfl⟩,n⟩|⟨F,q,C,I,rfl,J⟩⟩;rotate_left
 .exact bM ⟨M,Ya ⟨F,d.i.trans (dv (zT q)),C,I,rfl,J⟩⟩
 have d:=U (d.i.trans (bK (zU q)));have a:=U n.ag;have u:=U (Yp K L);have k:=aC (n.th (i:=7) rfl) (i:=0) rfl;have x:=aC (n.th (i:=4) rfl) (i:=0) rfl;have w:=n.fin.K.2.2.2.2.1;go_wp21;refine bJ (λs=>s.cell? ⟨i.heap.size+1,0,none⟩=some (Zp i.heap.size)/\s.cell? (Zd e.heap.size 0)=some (Zp b.R)/\s.cell? (Zd b.R 4)=some (.map (some b.P))) ?_ λH=>?_
 .go_keep
 refine bf [0,1,2,3,4,5] ?_;iterate 6 (refine bi ?_)
 refine bg ?_;refine bI 6 λB p=>?_;(go_simp;refine cM a d (UV ·) λz a4 b8 d a=>?_;have k:=aC (a.i.th (i:=7) rfl) (i:=0) rfl;have x:=aC (a.i.th (i:=4) rfl) (i:=0) rfl;have w:=a.i.fin.K.2.2.2.2.1;dsimp only[nO]);refine p.out _ _ ?_ (λH=>?_)
 .go_keep
 refine nz ?_;have b9:=aE (a.i.th (i:=6) rfl);have c0:=bl (a.i.th (i:=6) rfl);refine bf [7,8] ?_;iterate 2 (refine bi ?_)
 refine bg ?_;refine bL λB p=>?_;go_simp;refine p.out _ _ ?_;refine nz ?_;have a:=U (a.i.aq (i:=6) (j:=3) rfl (Y z));have x:=aE (a.i.th (i:=4) rfl);go_wp2;go_ret;obtain⟨a5,r,S,a0⟩:=a.i.au.au.au.au.au.gL Zm;exact⟨r.kp,Y8 ⟨.prog l.1 l.2 a2 z,a4,_,_,d.i,rfl,r.c6.fin,⟨a3,D,Yb,u.i.1,S.aZ λ_ h=>Y5 _ h,λc h G=>(u.i.2 c h G).aZ λa1 O=>Y5 _ (a0 a1 O)⟩,r.c6.br,rfl⟩⟩
section
def fO(a:Za)(b:Mar.aU):PM aD:=
 if b.text==Je then lz a b.y
 else if b.text==Ja then lR a b.y
 else if b.text==Jo then kS a b.y
 else if b.text==Jf then mu a b.y
 else if b.text==Jh then iX a b.y
 else if b.text==Jc then lK a b.y
 else hZ 3 b.y
def fP(a:Za):PM aD:=aN (next a) (fO a)
def AF(c:List Nat)(b:Ad)(a:Za)(d:Zw)(k:Except Mar.ac (aD×St))(j:Ending)(e:Zw):Prop:=
 ap c d e/\((∃f l h i,k=.ok (f,l)/\j=.returned (.iface (fC f) (Zp h))/\Rd b a l e/\gH i h f/\dF b.X i e)\/(∃g,k=.error g/\eH d g.no g.y j e))
section
variable {i : Type} {c j h : List Nat} {b : Ad} {a : Za} {l : i -> Zw -> Prop} {m : i} {e : St} {f : List Th} {k : List (Nat × Obj)} {d g : Zw}
def yb{t}{r w:Except Mar.ac (aD×St)}{q args}{Q:Ending->Zw->Prop}(p:af (bF c j b a l m f k e g d))(s:r=w)(x:Rd (b.a3 (dY f)) a e d->Calls prog q args d (ve t h (b.a3 (dY f)) a d w))
  (ok:∀i n,AF c b a g r (.returned (.iface t (Zp i))) n->Q (.returned (Zp i)) n) (u:∀I∈h,I∈c:=by simp[Ad.a3])
  (y:∀{i:Nat} {n:Zw},AF c b a g r (hb i) n->Q (hb i) n:=by exact λB=>bM B):Calls prog q args d Q:=by
 refine(x p.i.rd).mono ?_;rintro K n ⟨v,⟨A,J,i,z,o,rfl,H,F,G,rfl⟩|⟨q,o,i,D,rfl,E⟩⟩
 .obtain⟨_,C⟩:=p.i.cV;exact ok i n ⟨p.i.kp.u (v.aZ u),Y8 ⟨A,J,i,z,s.trans o,rfl,H.j7 C.cD,F,G.ca λ_ o=>Ym _ o⟩⟩
 .exact y ⟨p.i.kp.u (v.aZ u),Ya ⟨q,s.trans o,i,Yz p.i.kp.aG D,rfl,E⟩⟩
end
def Uz{b a e d}(f:Rd b a e d):Calls prog 73 #[Zp b.R] d (AF [b.R,b.S,b.N,b.P] b a d (fP a e)):=by
 have c:=U (yI [b.R,b.S,b.N,b.P] f (by simp[f.cD]));have g:af (fP a e=aN (next a) _ e):=U rfl;have k:=f.K.1;go_in;go_wp21;refine cM c g (wl ·) λj o m g c=>?_;have c:=U (c.i.A (.cells #[Y j.w,Zs j.text,Y j.n,Y j.y] 154));dsimp only[dH];go_wp2_with (first
  |(refine(fp _ _ _).mono ?_;rintro l h ⟨rfl,rfl⟩)
  |refine yb c (g.i.trans (by simp only[fO, *];rfl)) (TP _ ·) λi h f=>?_
  |refine yb c (g.i.trans (by simp only[fO, *];rfl)) (agW _ ·) λi h f=>?_
  |refine yb c (g.i.trans (by simp only[fO, *];rfl)) (Vi _ ·) λi h f=>?_
  |refine yb c (g.i.trans (by simp only[fO, *];rfl)) (afV _ ·) λi h f=>?_
  |refine yb c (g.i.trans (by simp only[fO, *];rfl)) (ag1 _ ·) λi h f=>?_
  |refine yb c (g.i.trans (by simp only[fO, *];rfl)) (acK _ ·) λi h f=>?_)
 all_goals
  first
  |(go_ret;exact f)
  |exact bM ⟨(c.i.A _).kp,Ya ⟨⟨3,j.y⟩,g.i.trans (by simp only[fO, *];rfl),_,by simpa using c.i.kp.aG,rfl,be Zq⟩⟩
end
section
variable {P:Program}{b f g idx t e:Nat}{d:TypeInfo}{a:Method}{c:Zw}
theorem aai{k:Nat}{name:String}(o:P.info? t=some d)(q:d.methods.find? (λa=>a.name==name)=some a)(s:a.path=#[⟨k,idx,true⟩])(m:a.func=some (f,false))
  {i} (w:P.underlying k=some (.struct i)) {h} (n:i[idx]?=some h) (v:h.type=e) (r:h.offset=0) {l} (x:P.underlying e=some (.struct l)) {j} (p:P.info? e=some j) (u:j.size≠0) :
  (method (g+1) t (Zp b) name).run P c=((loadVar e ⟨b,0,none⟩).run P c).andThen (λz y=>.ok (f,z) y):=by
 unfold method;simp only[Sem.run_bind,run_typeInfo _ o,Result.andThen_ok,q,s,m,follow,run_underlying w,n,Place.get,asAddr,fieldPlace,sizeOf,v,run_typeInfo _ p,Sem.run_pure,if_true,u,if_false,r,receiverAt,run_underlying x,Addr.add]
def aaj{o tu l p:Nat}{name:String}(v:P.info? t=some d)(z:d.methods.find? (λa=>a.name==name)=some a)(C:a.path=#[⟨o,idx,true⟩,⟨tu,l,false⟩])(r:a.func=some (f,false))
  {j} (G:P.underlying o=some (.struct j)) {h} (s:j[idx]?=some h) (E:h.type=p) (A:h.offset=0) {n} (x:P.info? p=some n) (y:n.size≠0)
  {k} (H:P.underlying tu=some (.struct k)) {i} (u:k[l]?=some i) (F:i.type=e) (B:i.offset=0) {q} (I:P.underlying e=some (.struct q)) {m} (w:P.info? e=some m) (D:m.size≠0) :
  (method (g+1) t (Zp b) name).run P c=((loadVar e ⟨b,0,none⟩).run P c).andThen (λK J=>.ok (f,K) J):=by
 unfold method;simp only[Sem.run_bind,run_typeInfo _ v,Result.andThen_ok,z,C,r,follow,run_underlying G,s,Place.get,asAddr,fieldPlace,sizeOf,E,run_typeInfo _ x,y,Sem.run_pure,if_true,if_false,A,run_underlying H,u,F,B,run_typeInfo _ w,D,receiverAt,run_underlying I,Addr.add,Ye]
def GR{t}{name:String}{p:Array FieldStep}{f:Option (FuncId×Bool)}(b:((P.info? t).bind λd=>d.methods.find? (λa=>a.name==name)).map (λa=>(a.path,a.func))=some (p,f)):∃d a,P.info? t=some d/\d.methods.find? (λa=>a.name==name)=some a/\a.path=p/\a.func=f:=by
 cases c:P.info? t<;>simp_all
def zk{st}{o:Nat}(d:((P.underlying st).bind λc=>match c with|.struct a=>a[idx]?|_=>none).map (λf=>(f.type,f.offset))=some (t,o)):∃a b,P.underlying st=some (.struct a)/\a[idx]?=some b/\b.type=t/\b.offset=o:=by
 cases e:P.underlying st<;>grind
def CX{n}(a:(P.info? t).map (·.size)=some n):∃d,P.info? t=some d/\d.size=n:=by
 simp_all
def Ag(e g:TypeId)(b l:Nat)(c:Zw)
  (j : ((Tryz.prog.info? g).bind fun d => d.methods.find? (fun a => a.name == "Title")).map (fun a => (a.path, a.func)) = some (#[⟨e, 0, true⟩], some (327, false)))
  (k:((prog.underlying e).bind λi=>match i with|.struct h=>h[0]?|_=>none).map (λf=>(f.type,f.offset))=some (160,0)) :
  (method (l + 1) g (.pointer (some ⟨b, 0, none⟩)) "Title").run Tryz.prog c = ((loadVar 160 ⟨b, 0, none⟩).run Tryz.prog c).andThen (fun p m => .ok (327, p) m) := by
 obtain⟨d,a,y,z,A,B⟩:=GR j;obtain⟨h,q,C,D,E,F⟩:=zk k;obtain⟨u,s,r,_⟩:=zk (P:=prog) (st:=160) (idx:=0) (t:=9) (o:=0) Zk;obtain⟨v,w,x⟩:=CX (P:=prog) (t:=160) (n:=2) Zk;grind [aai]
def ce:aD->Zb×Nat
 |.const t a _=>(t,a)
 |.typedef b=>(b.t,b.y)
 |.enum t a _=>(t,a)
 |.struct t a _=>(t,a)
 |.union t a _ _=>(t,a)
 |.prog t a _ _=>(t,a)
theorem agG (h : aD) (b e : Nat) (c : World) : (method (e + 1) (fC h) (.pointer (some ⟨b, 0, none⟩)) "Title").run Tryz.prog c = ((loadVar 160 ⟨b, 0, none⟩).run Tryz.prog c).andThen (fun E D => .ok (327, E) D) := by
 cases h with
 |const t g v=>exact Ag 343 223 b e c Zk Zk
 |typedef h=>
  obtain ⟨d, a, n, q, r, s⟩ := GR (P := Tryz.prog) (t := 225) (name := "Title") (p := #[⟨244, 0, true⟩, ⟨242, 0, false⟩]) (f := some (327, false)) (by kernel_rfl)
  obtain⟨I,G,u,x,z,B⟩:=zk (P:=prog) (st:=244) (idx:=0) (t:=242) (o:=0) Zk;obtain⟨J,H,w,y,A,C⟩:=zk (P:=prog) (st:=242) (idx:=0) (t:=160) (o:=0) Zk;obtain⟨L,K,j,_⟩:=zk (P:=prog) (st:=160) (idx:=0) (t:=9) (o:=0) Zk;obtain⟨M,k,N⟩:=CX (P:=prog) (t:=160) (n:=2) Zk;obtain⟨R,l,O⟩:=CX (P:=prog) (t:=242) (n:=3) Zk;exact aaj n q r s u x z B l Zm w y A C j k Zm
 |enum t g m=>exact Ag 253 227 b e c Zk Zk
 |struct t g m=>exact Ag 353 229 b e c Zk Zk
 |union t g S F=>exact Ag 358 231 b e c Zk Zk
 |prog t g a0 i=>exact Ag 267 233 b e c Zk Zk
def yL(args:Array Zv)(a:Zw):(callFunc 327 args).run prog a=.ok (.enter 327 args) a:=Zk
def Uu{k i f}(d:gH i b f)(e:dF k i c):c.cell? (Zd b 0)=some (.string ⟨(ce f).1.toArray⟩)/\c.cell? (Zd b 1)=some (Y (ce f).2):=by
 cases f with
 |const t g v=>have:=(e _ d).1;grind [World.cell?,ce]
 |typedef f=>have:=(e _ d).1;grind [World.cell?,ce]
 |enum t g l=>obtain⟨h,j,a,_⟩:=d;have:=(e _ a).1;simp_all[World.cell?,ce]
 |struct t g l=>obtain⟨h,a,_⟩:=d;have:=(e _ a).1;grind [World.cell?,ce]
 |union t g o m=>obtain⟨h,j,a,_⟩:=d;have:=(e _ a).1;simp_all[World.cell?,ce]
 |prog t g p n=>obtain⟨h,j,a,_⟩:=d;have:=(e _ a).1;simp_all[World.cell?,ce]
def yK(b:Za)(a:Int)(c:Zw):Calls prog 327 #[.agg #[.string b,Y a]] c λd e=>d=.returned (.agg #[.string b,Y a])/\Below c.heap.size c e:=by
 go_in;go_wp2;exact bodyPost_ret (v:=.agg #[.string b,Y a]) (by simp[results,results327,go_sem]) rfl ⟨rfl,((Below.refl ..).alloc (Y4 _) _).alloc Zq _⟩
end
section
variable {a c f σ b:St}{e:aD}{d:Int}{h:Unit}{α g ρ τ:Type}
def Kn(c d:List (Zb×Option aD)):Prop:=(∀b,(aP c b).isSome->(aP d b).isSome)/\∀b e,aP d b=some (some e)->aP c b=some (some e)\/∃f a v,e=.const f a v
theorem vh(b:List (Zb×Option aD)):Kn b b:=⟨λ_ a=>a,λ_ _ a=>Y8 a⟩
theorem Kn.u{a c f:List (Zb×Option aD)}(h:Kn a c)(i:Kn c f):Kn a f:=⟨λb g=>i.1 b (h.1 b g),λb e g=>by
 rcases i.2 b e g with d|d
 .exact h.2 b e d
 .exact Ya d⟩
theorem FJ{c:List (Zb×Option aD)}{b:Zb×Option aD}(a:Zb):aP (c++[b]) a=match aP c a with|some o=>some o|none=>if b.1==a then some b.2 else none:=by
 grind [aP]
theorem BR{c:Zb}(b:Zb):∀(a:List (Zb×Option aD)),aP (ew a c e) b=(aP a b).map (λd=>if b==c then some e else d):=by
 intro a;unfold aP ew;induction a<;>grind
def Le(σ b:St):Prop:=σ.an<=b.an/\σ.ax<=b.ax/\b.ah=σ.ah/\(σ.an<=24->b.an<=24)/\(σ.ax<=40->b.ax<=40)/\Kn σ.G b.G
theorem wQ(σ:St):Le σ σ:=⟨Y4 _,Y4 _,rfl,id,id,vh _⟩
theorem Le.u(b:Le a c)(d:Le c f):Le a f:=⟨Yz b.1 d.1,Yz b.2.1 d.2.1,d.2.2.1.trans b.2.2.1,λe=>d.2.2.2.1 (b.2.2.2.1 e),λe=>d.2.2.2.2.1 (b.2.2.2.2.1 e),b.2.2.2.2.2.u d.2.2.2.2.2⟩
def eg(c:PM α):Prop:=∀σ a b,c σ=.ok (a,b)->Le σ b
def ct(c:PX τ α):Prop:=∀d σ a e b,c d σ=.ok (a,e,b)->Le σ b
theorem jz{f:PM α}{h:α->PM g}(j:eg f)(i:∀a,eg (h a)):eg (aN f h):=by
 intro σ c b d;cases e:f σ with
 |error l=>rw[dv e]at d;cases d
 |ok k=>obtain⟨a,m⟩:=k;rw[bK e]at d;exact(j _ _ _ e).u (i a _ _ _ d)
theorem mX(a:α):eg (ret a):=by intro σ c b d;grind [ret,wQ]
theorem tf(d e:Nat):eg (hZ (α:=α) d e):=by intro σ c b a;simp only[hZ]at a;cases a
theorem uw{f:Prop}[Decidable f]{a c:PM α}(b:eg a)(d:eg c):eg (if f then a else c):=Zg
theorem ha{f:PX τ α}{h:α->PX τ g}(j:ct f)(i:∀a,ct (h a)):ct (aQ f h):=by
 intro l σ c n b d;cases e:f l σ with
 |error m=>rw[fc e]at d;cases d
 |ok k=>obtain⟨a,o,p⟩:=k;rw[dZ e]at d;exact(j _ _ _ _ _ e).u (i a _ _ _ _ _ d)
theorem gh{f:PM α}(g:eg f):ct (lift (τ:=τ) f):=by
 intro j σ c k b d;cases e:f σ with
 |error i=>rw[im e]at d;cases d
 |ok h=>obtain⟨a,l⟩:=h;rw[gF e]at d;cases d;exact g _ _ _ e
theorem kZ(a:α):ct (eJ (τ:=τ) a):=by intro e σ c f b d;grind [eJ,wQ]
theorem aaV(d e:Nat):ct (Di (τ:=τ) (α:=α) d e):=by intro f σ c g b a;simp only[Di]at a;cases a
theorem qw{f:Prop}[Decidable f]{a c:PX τ α}(b:ct a)(d:ct c):ct (if f then a else c):=Zg
theorem MI(f:τ->Except Mar.ac τ):ct (pK f):=by
 intro a σ c g b d;cases e:f a<;>simp_all[xV,xW,wQ]
theorem Ca{f:PX τ α}(g:ct f):ct (kG (ρ:=ρ) f):=by
 rintro⟨i,k⟩ σ c l b d;cases e:f i σ with
 |error j=>rw[xG e]at d;cases d
 |ok h=>obtain⟨a,m,n⟩:=h;rw[xH e]at d;cases d;exact g _ _ _ _ _ e
theorem FU{f:PX ρ α}(g:ct f):ct (oE (τ:=τ) f):=by
 rintro⟨k,h⟩ σ c l b d;cases e:f h σ with
 |error j=>rw[Cs e]at d;cases d
 |ok i=>obtain⟨a,m,n⟩:=i;rw[Ct e]at d;cases d;exact g _ _ _ _ _ e
theorem zC{f:PX τ Unit}(h:ct f)(g:τ):eg (lL f g):=by
 intro σ c b d;cases e:f g σ with
 |error j=>rw[zT e]at d;cases d
 |ok i=>obtain⟨a,k,l⟩:=i;rw[zU e]at d;cases d;exact h _ _ _ _ _ e
theorem BZ{f:PX τ α}(h:ct f)(g:τ):eg (kH f g):=by
 intro σ c b d;cases e:f g σ with
 |error j=>rw[rT e]at d;cases d
 |ok i=>obtain⟨a,k,l⟩:=i;rw[CQ e]at d;cases d;exact h _ _ _ _ _ e
theorem Mw{d:PX Unit α}(g:ct d):eg (lx d):=by
 intro σ c b e;cases f:d () σ with
 |error i=>grind [lx]
 |ok h=>obtain⟨a,j,k⟩:=h;simp only[lx,f]at e;cases e;exact g _ _ _ _ _ f
theorem zB(d:Za):eg (ht d):=by
 intro σ c b a;unfold ht at a;split at a<;>cases a;exact⟨Y4 _,Y4 _,rfl,id,id,vh _⟩
theorem rG(d:Za):eg (next d):=by
 intro σ c b a;unfold next at a
 split at a<;>cases a;exact⟨Y4 _,Y4 _,rfl,id,id,vh _⟩
theorem wg(e:Za)(g:Zb):eg (jD e g):=by
 intro σ c b a;unfold jD at a;cases d:ht e σ with
 |error h=>simp only[d]at a;cases a
 |ok f=>obtain⟨i,j⟩:=f;simp only[d]at a;cases a;exact zB _ _ _ _ d
theorem zz(d:Nat):eg (kD d):=by
 intro σ c b a;unfold kD at a;split at a<;>cases a;exact⟨Nat.le_succ _,Y4 _,rfl,λ_=>by grind,id,vh _⟩
theorem MC(d:Nat):eg (lF d):=by
 intro σ c b a;unfold lF at a;split at a<;>cases a;exact⟨Y4 _,Nat.le_succ _,rfl,id,λ_=>by grind,vh _⟩
theorem FT(a c f:Nat):eg (gT a c f):=by
 intro σ e b d;grind [gT,wQ]
theorem aaG(g:Zb)(h:Zb)(a:Nat)(v:Int):eg (FM g (.const h a v)):=by
 intro σ j b c;simp only[FM]at c;cases c
 refine⟨Y4 _,Y4 _,rfl,id,id,?_,?_⟩
 .grind [BR]
 .intro f e d;dsimp only at d;rw[BR]at d;cases i:aP σ.G f<;>grind
theorem aat(c:Mar.aU):eg (nI c):=by
 intro σ a b d;grind [nI,wQ]
theorem aaE(c:Mar.aU):eg (nJ c):=by
 intro σ a b d;grind [nJ,wQ]
theorem aaC(j:Mar.aU):eg (jc j):=by
 intro σ a b f;unfold jc at f;split at f<;>cases f;refine⟨Y4 _,Y4 _,rfl,id,id,?_,?_⟩
 .intro g h;dsimp only;rw[FJ];cases d:aP σ.G g with
  |none=>rw[d]at h;cases h
  |some i=>rfl
 .intro g e c;dsimp only at c;rw[FJ]at c;cases d:aP σ.G g with
  |none=>
   rw[d]at c;simp only at c;split at c<;>cases c
  |some i=>rw[d]at c;exact Y8 c
theorem oD(b:Za)(a:Zb):eg (el b a):=by
 simp_all[el,mX,rG,wg,jz]
theorem fe(b:Za)(a:Zb):eg (cu b a):=by
 simp[cu,mX,tf,rG,jz,uw]
theorem aaM(a:Za)(b:Mar.aU):eg (lQ a b):=by
 simp (maxDischargeDepth:=9) [lQ,mX,tf,oD,jz,uw]
theorem MG(a:Za):eg (sa a):=by
 simp[sa,rG,aaM,jz]
theorem aaF(a:Mar.aU):eg (lE a):=by
 simp (maxDischargeDepth:=9) [lE,mX,tf,aat,uw]
theorem zD(b:Za)(a:Int->Bool):eg (jZ b a):=by
 simp (maxDischargeDepth:=9) [jZ,mX,tf,rG,aaF,jz,uw]
theorem FR(a:Za):eg (rH a):=by
 simp (maxDischargeDepth:=9) [rH,mX,oD,fe,zD,jz,uw]
theorem BX(a:Za):eg (qg a):=by
 simp (maxDischargeDepth:=9) [qg,mX,oD,fe,zD,FR,jz,uw]
theorem aaL(a:Za):eg (rU a):=by
 simp_all[rU,mX,oD,MG,jz]
theorem zA(b:Za)(a:Int->Bool):ct (ir b a):=by
 simp[ir,kZ,MI,zD,ha,gh]
theorem MA(a:Za):ct (sQ a):=by
 simp (maxDischargeDepth:=9) [sQ,kZ,fe,zA,ha,gh]
theorem zy(c:Za)(a:fj τ)(b:∀d,ct (a.a9 d)):ct (name c a):=by
 simp (maxDischargeDepth:=9) [name,kZ,aaV,rG,ha,gh,qw,b]
theorem FP(b:Mar.aU)(a c:Nat):ct ((cQ a c).a9 b):=MI _
theorem Mz(b:Ad)(a:Mar.aU):ct ((iR b).a9 a):=gh (aaC a)
theorem Mx(a:Za)(d:Zb×Nat)(b:Ty):ct (pz (τ:=τ) a d b):=by
 simp[pz,kZ,BX,ha,gh]
theorem aaB(a:Za)(d:Zb×Nat)(b:Ty)(c:Bool):ct (vI (τ:=τ) a d b c):=by
 simp[vI,kZ,Mx,qw]
theorem aaA(a:Za)(d:Zb×Nat)(b:Ty)(c:Bool):ct (vH (τ:=τ) a d b c):=by
 simp (maxDischargeDepth:=9) [vH,wg,Mx,aaB,ha,gh,qw]
theorem aaz(a:Za)(b:Ty)(d:Zb×Nat):ct (uk (τ:=τ) a b d):=by
 simp[uk,wg,aaA,ha,gh]
theorem aay(c:Za)(a:fj τ)(b:∀e,ct (a.a9 e))(d:Ty)(f:Bool):ct (uj c a d f):=by
 simp (maxDischargeDepth:=9) [uj,zy,kZ,aaz,ha,qw,b]
theorem aax(b:Za)(a:fj τ)(e:∀d,ct (a.a9 d))(c:Ty):ct (vG b a c):=by
 grind [vG,oD,aay,ha,gh]
theorem aaw(c:Za)(a:fj τ)(b:∀d,ct (a.a9 d))(e:Bool):ct (rx c a e):=by
 simp (maxDischargeDepth:=9) [rx,zy,kZ,MG,FR,aax,ha,gh,qw,b]
theorem aav(c:Za)(a:fj τ)(b:∀d,ct (a.a9 d))(e:Bool):ct (ru c a e):=by
 simp (maxDischargeDepth:=9) [ru,zy,kZ,oD,BX,aaw,ha,gh,qw,b]
theorem FQ(b:Za)(a:fj τ)(d:∀c,ct (a.a9 c)) :ct (il b a ):=by
 grind [il,oD,aav,ha,gh]
theorem aao(c:Za)(a:fj τ)(b:∀d,ct (a.a9 d))(e:Bool):ct (sG c a e):=by
 simp[sG,kZ,FQ,qw,b]
theorem aan(c:Za)(a:fj τ)(b:∀d,ct (a.a9 d)):ct (lw c a):=by
 simp (maxDischargeDepth:=9) [lw,kZ,oD,fe,aao,ha,gh,b]
theorem ux(a:Za):eg (jA a):=Mw (zy _ _ (Mz _))
theorem My(a:Za):eg (ry a):=Mw (FQ _ _ (Mz _))
theorem BY(b:Za)(a c:Nat):ct (name b (cQ a c)):=zy _ _ (λd=>FP d a c)
theorem aau(b:Za)(a c:Nat):ct (il b (cQ a c)):=FQ _ _ (λd=>FP d a c)
theorem Mu(b:Za)(a c:Nat):ct (lw b (cQ a c)):=aan _ _ (λd=>FP d a c)
theorem MB(a:Za)(d:Nat):ct (kY a d):=by
 simp (maxDischargeDepth:=9) [kY,kZ,zB,MC,FT,aaG,fe,zA,ux,ha,gh]
theorem aaD(b:Za)(d:Zb×Nat)(a:List (Zb×Nat×Int)):eg (qn b d a):=by
 simp[qn,mX,fe,jz]
theorem aaH(i:Za)(d:Zb×Nat):∀(a:Nat) (f:List (Zb×Nat×Int)) (c:List (Int×Int)),eg (kC i d a f c):=by
 intro a;induction a with
 |zero=>intro f c;exact tf _ _
 |succ a l=>
  intro f c σ e b g;cases h:kY i f.length c σ with
  |error k=>simp_all[wa]
  |ok j=>
   obtain⟨n,m,p⟩:=j;rw[wb h]at g;refine(MB _ _ _ _ _ _ _ h).u (jz (oD _ _) (λo=>?_) _ _ _ g);simp_all[uw,aaD]
theorem MF(g:Za)(a:vu):ct (mt g a):=by
 rintro⟨j,i⟩ σ c l b d;cases f:il g (cQ a.q a.bx) i σ with
 |error k=>simp_all[Da]
 |ok h=>
  obtain⟨e,m,n⟩:=h;rw[Db f]at d;exact(aau _ _ _ _ _ _ _ _ f).u (ha (gh (fe _ _)) (λ_=>kZ _) _ _ _ _ _ d)
theorem MH{run:PX τ α}{i:PX (List α×τ) Unit}(m:ct run)(l:∀{f a j σ b e},run a σ=.ok (e,j,b)->i (f,a) σ=.ok ((),(f++[e],j),b))(k:∀{f a σ g},run a σ=.error g->i (f,a) σ=.error g):ct i:=by
 rintro⟨p,o⟩ σ c q b d;cases h:run o σ with
 |error g=>rw[k h]at d;cases d
 |ok n=>
  obtain⟨e,r,s⟩:=n;rw[l h]at d;cases d
  exact m _ _ _ _ _ h
theorem aaq(f:Za)(rH:Nat)(run:PX τ Unit)(c:ct run):∀a d,ct (mi f rH run a d):=by
 intro a;induction a with
 |zero=>intro d;exact gh (tf _ _)
 |succ a e=>
  intro d;unfold mi;refine ha ?_ λg=>?_
  .by_cases b:d=0
   .rw[Y9 b];exact kZ _
   .rw[Y2 b];exact gh (oD _ _)
  .exact qw (kZ _) (ha (gh (zB _)) λ_=>ha (gh (FT _ _ _)) λ_=>ha c λ_=>e _)
theorem BW(b:Za)(rH:Nat)(run:PX τ Unit)(a:ct run):ct (ih b rH run):=ha (gh (fe _ _)) λ_=>aaq _ _ _ a _ _
theorem aas(h:Za)(l:Int->Bool):∀(d:Nat) (e:List Int),ct (ky h l d e):=by
 intro d;induction d with
 |zero=>intro e;exact gh (tf _ _)
 |succ d j=>
  intro e k σ c o b a;cases f:cu h Jg σ with
  |error n=>simp_all[EB]
  |ok i=>
   obtain⟨i,m⟩:=i;by_cases g:12<=k.length
   .rw[EC f g]at a;cases a
   .rw[ED f g]at a;refine(fe _ _ _ _ _ f).u (?_:Le m b);exact ha (zA _ _) (λ_=>ha (gh (fe _ _)) λ_=>ha (gh (wg _ _)) λ_=>qw (j _) (kZ _)) _ _ _ _ _ a
theorem aar(b:Za)(a:Int->Bool):ct (cases b a):=aas _ _ _ _
theorem aap(b:Za)(a:iy):ct (pu b a):=by
 simp (maxDischargeDepth:=9) [pu,kZ,oD,fe,Mu,ha,gh,qw,Ca]
theorem Mv(e:Za)(d:Int->Bool):∀(a:Nat) (b:iy),ct (jO e d a b):=by
 intro a;induction a with
 |zero=>intro b;exact gh (tf _ _)
 |succ a c=>
  intro b;unfold jO;exact ha (FU (aar _ _)) λ_=>ha (Ca (Mu _ _ _)) λ_=>ha (gh (wg _ _)) λ_=>qw (c _) (aap _ _)
theorem aaK(a:Za)(b:Mar.aU):eg (lM a b):=by
 simp (maxDischargeDepth:=9) [lM,mX,tf,aaE,oD,jz,uw]
theorem ME(a:Za):eg (qK a):=by
 simp[qK,rG,aaK,jz]
theorem aaN(c:Za)(d:Zb×Nat)(b:aV)(a:iy):eg (pP c d b a):=by
 simp[pP,mX,fe,jz]
theorem aaQ(c:Za)(d:Zb×Nat)(b:Ty×(Int->Bool))(a:(Zb×Nat)×Zc):eg (sb c d b a):=by
 unfold sb;repeat' (first|assumption|exact fe _ _|exact Mv _ _ _ _|exact aaN _ _ _ _|refine jz ?_ ?_|refine BZ ?_ _|(intro _))
theorem aaP(b:Za)(d:Zb×Nat)(a:Ty×(Int->Bool)):eg (qQ b d a):=by
 simp[qQ,BY,aaQ,jz,BZ]
theorem aaO(a:Za)(d:Zb×Nat):eg (qP a d):=by
 simp (maxDischargeDepth:=9) [qP,fe,ME,aaP,jz]
theorem aaJ(a:Za):ct (oI a):=by
 simp (maxDischargeDepth:=9) [oI,kZ,fe,aaL,MA,BY,ha,gh,Ca,FU]
theorem aaU(a:Za):ct (oe a):=MH (aaJ a) HR HQ
theorem aaT(a:Za):ct (ih a 8 (oe a)):=BW _ _ _ (aaU _)
theorem aaR(a:Za)(d:Zb×Nat):ct (Ap a d):=by
 simp (maxDischargeDepth:=9) [Ap,kZ,MA,aaT,ha,gh,FU,zC]
theorem aaS(a:Za):ct (oT a):=by
 simp (maxDischargeDepth:=9) [oT,fe,BY,aaR,ha,gh,Ca]
theorem aaI(a:Za):ct (mY a):=MH (aaS a) Gx Gw
theorem MD(a:Za):ct (ih a 4 (mY a)):=BW _ _ _ (aaI _)
structure mI(σ b:St):Prop where
 up:σ.an+σ.ax+σ.ah.length<b.an+b.ax+b.ah.length
 H:σ.an<=24->b.an<=24
 co:σ.ax<=40->b.ax<=40
 pr:σ.ah.length<=4->b.ah.length<=4
theorem mI.then(d:mI a c)(g:Le c f):mI a f:=by
 obtain⟨j,k,e,h,i,_⟩:=g;exact⟨by rw[e];have:=d.up;omega,λb=>h (d.H b),λb=>i (d.co b),λb=>by rw[e];exact d.pr b⟩
theorem Dd{c:Nat}(a:kD c σ=.ok (h,b)):mI σ b:=by
 unfold kD at a;split at a<;>cases a;exact⟨Zq,λ_=>by grind,id,id⟩
theorem afm{c:Nat}(a:lF c σ=.ok (h,b)):mI σ b:=by
 unfold lF at a;split at a<;>cases a;exact⟨Zq,id,λ_=>by grind,id⟩
theorem Ab{f:PM α}{i:α->PM g}{c:g}(k:∀{a h},f σ=.ok (a,h)->mI σ h)(j:∀a,eg (i a))(d:aN f i σ=.ok (c,b)):mI σ b:=by
 cases e:f σ with
 |error m=>rw[dv e]at d;cases d
 |ok l=>obtain⟨a,h⟩:=l;rw[bK e]at d;exact(k e).then (j a _ _ _ d)
theorem afg{d:Za}{c:Nat}(a:lz d c σ=.ok (e,b)):mI σ b:=by
 refine Ab afm (λ_=>?_) a;grind [mX,fe,zD,ux,jz]
theorem afu{d:Za}{c:Nat}(a:lR d c σ=.ok (e,b)):mI σ b:=by
 refine Ab Dd (λ_=>?_) a;grind [mX,fe,My,jz]
theorem afj{d:Za}{c:Nat}(a:kS d c σ=.ok (e,b)):mI σ b:=by
 refine Ab Dd (λ_=>?_) a;grind [fe,ux,aaH,jz]
theorem aft{d:Za}{c:Nat}(a:mu d c σ=.ok (e,b)):mI σ b:=by
 refine Ab Dd (λ_=>?_) a;grind [mX,fe,ux,MF,BW,jz,zC]
theorem afv{d:Za}{c:Nat}(a:iX d c σ=.ok (e,b)):mI σ b:=by
 refine Ab Dd (λ_=>?_) a;grind [ux,aaO,jz]
theorem afo{f:Za}{e:Int->Bool}(a:rM f e σ=.ok (d,b)):σ.an<=b.an/\σ.ax<=b.ax/\b.ah.length=σ.ah.length+1/\(σ.an<=24->b.an<=24)/\(σ.ax<=40->b.ax<=40):=by
 cases c:ir f e σ.ah σ with
 |error h=>simp_all[Cq]
 |ok g=>
  obtain⟨o,n,p⟩:=g;rw[Gh c]at a;cases a
  obtain⟨i,j,k,l,m,_⟩:=zA _ _ _ _ _ _ _ c;grind [Gj]
theorem afi{e:Za}(a:sR e σ=.ok (d,b)):σ.an<=b.an/\σ.ax<=b.ax/\b.ah.length=σ.ah.length+1/\(σ.an<=24->b.an<=24)/\(σ.ax<=40->b.ax<=40):=by
 unfold sR at a;cases f:cu e [61] σ with
 |error i=>rw[dv f]at a;cases a
 |ok c=>
  obtain⟨B,j⟩:=c;rw[bK f]at a;obtain⟨l,m,n,o,p,_⟩:=fe _ _ _ _ _ f;cases g:rM e (dT 0 4294967295) j with
  |error i=>rw[dv g]at a;cases a
  |ok c=>
   obtain⟨A,k⟩:=c;rw[bK g]at a;obtain⟨q,r,s,t,u⟩:=afo g;cases h:cu e [59] k with
   |error i=>rw[dv h]at a;cases a
   |ok c=>
    obtain⟨C,D⟩:=c;rw[bK h]at a;simp only[ret]at a;cases a
    obtain⟨v,w,x,y,z,_⟩:=fe _ _ _ _ _ h;grind
theorem afq{f:Za}{c:Nat}(a:lK f c σ=.ok (e,b)):mI σ b:=by
 unfold lK at a;by_cases m:4<=σ.ah.length
 .rw[dv (m:=λσ:St=>gT σ.ah.length 4 c σ) (show gT σ.ah.length 4 c σ=.error ⟨5,c⟩from Y9 m)]at a;cases a
 rw[bK (m:=λσ:St=>gT σ.ah.length 4 c σ) (show gT σ.ah.length 4 c σ=.ok ((),σ)from Y2 m)]at a;cases h:jA f σ with
 |error l=>rw[dv h]at a;cases a
 |ok g=>
  obtain⟨d,x⟩:=g;rw[bK h]at a;unfold tm at a;obtain⟨z,A,o,p,q,_⟩:=ux _ _ _ _ h;cases i:lL (ih f 4 (mY f)) ([],([],[])) x with
  |error l=>rw[dv i]at a;cases a
  |ok g=>
   obtain⟨n,y⟩:=g;rw[bK i]at a;obtain⟨B,C,r,s,t,_⟩:=zC (MD f) _ _ _ _ i;cases j:sR f y with
   |error l=>rw[dv j]at a;cases a
   |ok g=>
    obtain⟨G,H⟩:=g;rw[bK j]at a;simp only[ret]at a;cases a
    obtain⟨D,E,u,v,w⟩:=afi j;have F:b.ah.length=σ.ah.length+1:=by rw[u,r,o]
    exact⟨Zm,λk=>v (s (p k)),λk=>w (t (q k)),λ_=>by omega⟩
theorem afh{h:Za}(a:fP h σ=.ok (e,b)):mI σ b:=by
 unfold fP at a;cases f:next h σ with
 |error o=>rw[dv f]at a;cases a
 |ok k=>
  obtain⟨c,l⟩:=k;rw[bK f]at a;obtain⟨m,n,g,i,j,_⟩:=rG _ _ _ _ f;have d:mI l b:=by
   unfold fO at a;split at a
   .exact afg a
   split at a
   .exact afu a
   split at a
   .exact afj a
   split at a
   .exact aft a
   split at a
   .exact afv a
   split at a
   .exact afq a
   .simp only[hZ]at a;cases a
  have:=d.up;exact⟨by rw[g]at this;omega,λc=>d.H (i c),λc=>d.co (j c),λc=>d.pr (by rw[g];exact c)⟩
end
section
structure pY(b:Type) where
 f:Nat
 e5:Array Zv
 f6:Array Zv
 a9:Zb×Nat->b->Except Mar.ac b
 J:b->Zw->Prop
 M:List Nat
 ok:Zb×Nat->Prop
def pY.v{b:Type}(a:pY b):Zv:=.func (.func a.f) a.e5 a.f6
def nj{b:Type}(a:pY b)(w:Zw)(f:Except Mar.ac b)(e:Ending)(d:Zw):Prop:=
 ap a.M w d/\((∃g,f=.ok g/\e=.returned (.tuple #[])/\a.J g d)\/(∃c,f=.error c/\eH w c.no c.y e d))
structure pZ{b:Type}(a:pY b):Prop where
 d2:∀args W,(callFunc a.f args).run prog W=.ok (.enter a.f args) W
 bn:∀{t w},a.J t w->∀m∈a.M,m<w.heap.size
 fx:∀{t w w'},a.J t w->Below w.heap.size w w'->a.J t w'
 call:∀{t W} (n:Zb×Nat),a.ok n->a.J t W->Calls prog a.f (a.e5.push (jB n)++a.f6) W (nj a W (a.a9 n t))
def hj{b:Type}(a:pY b):List (Zb×Nat)->b->Except Mar.ac b
 |[],c=>.ok c
 |n::ns,c=>match a.a9 n c with
  |.ok e=>hj a ns e
  |.error d=>.error d
def agn{b:Type}{a}:∀(d e:List (Zb×Nat)) (c:b),hj a (d++e) c=match hj a d c with|.ok f=>hj a e f|.error g=>.error g:=by
 intro d;induction d with
 |nil=>intro e c;rfl
 |cons i d h=>
  intro e c;simp only[YX,hj];cases a.a9 i c with
  |ok f=>exact h e f
  |error g=>rfl
def agp{b:Type}{a}(c:Zb×Nat)(d:b):hj a [c] d=a.a9 c d:=by
 grind [hj]
section
variable {b : Type} {a : pY b} {d : Except Mar.ac b} {ns X e : List (Zb × Nat)} {w c : Zw}
def Tl(a:pY b)(d:Except Mar.ac b)(ns:List (Zb×Nat))(w c:Zw):Prop:=∃e,a.J e c/\ap a.M w c/\d=hj a ns e
theorem sA{c}(d:a.J c w):Tl a (hj a ns c) ns w w:=⟨c,d,ar ..,rfl⟩
def Tl.A(g:pZ a)(i:Tl a d ns w c)(b:Obj):Tl a d ns w (c.alloc b):=by
 obtain⟨j,f,h,e⟩:=i;exact⟨j,g.fx f ((Below.refl ..).alloc (Y4 _) b),h.A b,e⟩
theorem Tl.fin(g:Tl a d [] w c):nj a w d (.returned (.tuple #[])) c:=by
 obtain⟨h,e,f,b⟩:=g;exact⟨f,Y8 ⟨h,b,rfl,e⟩⟩
def tv{f args}{Q:Ending->Zw->Prop}(v:af (Tl a d ns w c))(o:∀{m},a.J m c->Calls prog f args c (nj a c (hj a X m)))(ok:∀n,ap a.M c n->af (Tl a d e w n)->Q (.returned (.tuple #[])) n)
  (q:ns=X++e:=by first|rfl|exact(YH _).symm) (p:∀{b:Nat} {g:Zw},nj a w d (hb b) g->Q (hb b) g:=by first|exact λh=>bM h|exact λh=>wn h):Calls prog f args c Q:=by
 obtain⟨m,t,i,l⟩:=v.i;rw[q,agn]at l;refine(o t).mono ?_;rintro y g ⟨j,⟨x,k,rfl,u⟩|⟨f,k,b,r,rfl,s⟩⟩
 .exact ok g j ⟨x,u,i.u j,by rw[l,k]⟩
 .exact p ⟨i.u j,Ya ⟨f,by rw[l,k],b,Yz i.aG r,rfl,s⟩⟩
end
def gu:Ty->List (Zb×Nat)
 |.named c b=>[(c,b)]
 |.arr a _ _=>gu a
 |.opt a=>gu a
 |_=>[]
def ia:Ty->List (Zb×Nat)
 |.named d a=>[(d,a)]
 |.arr c _ b=>if b then ia c else []
 |_=>[]
def jY:Bool->Ty->List (Zb×Nat)
 |false=>gu
 |true=>ia
def pO:Bool->Ty->Nat
 |false,.named ..=>360
 |false,.arr ..=>370
 |false,.opt ..=>372
 |false,_=>332
 |true,.named ..=>359
 |true,.arr ..=>369
 |true,.opt ..=>371
 |true,_=>331
def uB:Ty->Zv
 |.named e b=>.agg #[.string ⟨e.toArray⟩,.int .i64 b]
 |.arr a d c=>.agg #[fY a,.int .i64 d,.bool c]
 |.opt a=>.agg #[fY a]
 |_=>.agg #[]
def HF (b : Bool) (a : Ty) {c d} (e : fY a = .iface c d) (f : Nat) (w : World) : (method (f + 1) c d (bif b then "Leads" else "Names")).run Tryz.prog w = .ok (pO b a, uB a) w := by
 cases b<;>cases a<;>cases e<;>kernel_rfl
def HE(a:Bool)(b:Ty)(args:Array Zv)(w:Zw):(callFunc (pO a b) args).run prog w=.ok (.enter (pO a b) args) w:=by cases a<;>cases b<;>kernel_rfl
def Aj{b:Type}{a}(i:pZ a)(d:Bool):∀(j:Ty) {t:b} {w:Zw},(∀h∈jY d j,a.ok h)->a.J t w->Calls prog (pO d j) #[uB j,a.v] w (nj a w (hj a (jY d j) t)):=by
 have y:=i.d2;intro j;induction j with
 |named h o=>
  intro t w m g;have e:=U ((sA (ns:=jY d (.named h o)) g).A i (.cells #[Zs h,Y o] 260));have u:=λ{t w}=>i.call (t:=t) (W:=w) (h,o) (m _ (by cases d<;>simp[jY,gu,ia]));dsimp only[uB,pY.v];cases d
  all_goals
   dsimp only[pO];go_in;go_wp21;refine tv e (X:=[(h,o)]) (λg=>by rw[agp];exact u g) λc _ e=>?_;go_wp2;go_end0;exact e.i.fin
 |arr f h q n=>
  intro t w m g;obtain⟨p,s,k⟩:=oP f;have e:=U ((sA (ns:=jY d (.arr f h q)) g).A i (.cells #[.iface p s,Y h,.bool q] 382))
  have l:=HF d f k;have r:=HE d f;generalize pO d f=x at l r n;dsimp only[uB];rw[k];cases d
  case' true=>cases q
  all_goals
   dsimp only[pO,cond]at l ⊢;go_in;first
   |(go_wp21;refine tv e (n (by simpa[jY, gu, ia]using m)) λc _ e=>?_)
   |skip
   go_wp2;go_end0;exact e.i.fin
 |opt f n=>
  intro t w m g;obtain⟨p,s,k⟩:=oP f;have e:=U ((sA (ns:=jY d (.opt f)) g).A i (.cells #[.iface p s] 385))
  have l:=HF d f k;have r:=HE d f;generalize pO d f=x at l r n;dsimp only[uB];rw[k];cases d
  all_goals
   dsimp only[pO,cond]at l ⊢;go_in;first
   |(go_wp21;refine tv e (n m) λc _ e=>?_)
   |skip
   go_wp2;go_end0;exact e.i.fin
 |_=>
  intro t w _ g;have e:=U ((sA (ns:=[]) g).A i (.cells #[] 250));cases d
  all_goals
   dsimp only[pO,uB];go_in;go_wp2;go_end0;exact e.i.fin
def Dn {b : Type} {a} (i : pZ a) (d : Bool) : ∃ e : Ty → Nat, (∀ (c : Ty) {f h}, fY c = .iface f h → ∀ (j : Nat) (w : World), (method (j + 1) f h (bif d then "Leads" else "Names")).run Tryz.prog w = .ok (e c, uB c) w) ∧ (∀ c (args : Array Value) (w : World), (callFunc (e c) args).run Tryz.prog w = .ok (.enter (e c) args) w) ∧
  af (∀(c:Ty) {g:b} {w:Zw},(∀k∈jY d c,a.ok k)->a.J g w->Calls prog (e c) #[uB c,a.v] w (nj a w (hj a (jY d c) g))):=⟨pO d,HF d,HE d,Aj i d⟩
end
section
variable {a:Zo}{n:Nat}{w:Zw}{b d:Type}
def Fi{c:b->Zl}(h:∀f,(c f).length=n):∀(d:List b) (a e:Nat) (g:a<d.length) (_:e<n),(d.flatMap c)[a*n+e]?=(c d[a])[e]?:=by
 intro d;induction d with
 |nil=>simp
 |cons f d j=>
  intro a e g i;rw[YD];cases a with
  |zero=>
   grind
  |succ a=>
   rw[Yw Zg];grind
theorem oK{b:Nat}{a d}{xs:Zl}(e:w.heap[b]?=some (.cells a d))(g:a.toList.take xs.length=xs){c:Nat}{v}(f:xs[c]?=some v):w.cell? (Zd b c)=some v:=by
 grind [Oc]
def fk.K{c:b->Zl}(k:∀x,(c x).length=n){p v}{d:List b}(q:fk a p v d.length (d.flatMap c)):∃ad g,v=.slice ad d.length g/\d.length<=1000/\∀e (h:e<d.length),∃f,ad=some ⟨f,0,none⟩/\∀i:Zw,(∀o∈a,i.heap[o.1]?=some o.2)->∀(j:Nat) (x:Zv),(c d[e])[j]?=some x->i.cell? ⟨f,e*n+j,none⟩=some x:=by
 rcases q with⟨rfl,r,-⟩|⟨f,g,y,rfl,⟨-,t⟩,s,u⟩
 .exact⟨none,0,by rw[r],Zm,λe h=>by omega⟩
 .refine⟨_,g,rfl,t,λe h=>⟨f,rfl,λi w j x m=>oK (w _ s) u ?_⟩⟩;have l:=(YB.1 m).1;rw[k]at l;rw[Fi k d e j h l];exact m
def fk.j4{c:b×Zv->Zl}(r:∀f,(c f).length=n){p v}{d:List b}{h:Zl}(y:h.length=d.length)(g:fk a p v d.length ((d.zip h).flatMap c)):∃ad k,v=.slice ad d.length k/\d.length<=1000/\∀e (s:e<d.length) (x:e<h.length),∃l,ad=some ⟨l,0,none⟩/\∀j:Zw,(∀o∈a,j.heap[o.1]?=some o.2)->∀(i:Nat) (f:Zv),(c (d[e],h[e]))[i]?=some f->j.cell? ⟨l,e*n+i,none⟩=some f:=by
 have m:(d.zip h).length=d.length:=Zx;rw[<-m]at g;obtain⟨ad,k,rfl,w,q⟩:=g.K r;exact⟨ad,k,by rw[m],Zm,λe s _=>(q e Zm).imp λl g=>⟨g.1,λj t i f u=>g.2 j t i f (by simpa using u)⟩⟩
def Tl.f0{e f j c}(i:Tl e f j w c)(h:∀{k:d} {c:Zw},e.J k c->∀b∈a,c.heap[b.1]?=some b.2):∀b∈a,c.heap[b.1]?=some b.2:=i.elim λ_ g=>h g.1
def Pf(h:Bool){f}(t:pZ f){p B}{n:Zb}{c:List aV}(H:∀n∈c.flatMap λg=>jY h g.H,f.ok n)(E:gH a p (.struct n B c))(s:∀{k:d} {j:Zw},f.J k j->∀u∈a,j.heap[u.1]?=some u.2){k}(q:f.J k w):Calls prog (bif h then 344 else 345) #[Zp p,f.v] w (nj f w (hj f (c.flatMap λg=>jY h g.H) k)):=by
 obtain⟨a6,D,K⟩:=E;obtain⟨ad,O,rfl,a0,I⟩:=K.K (n:=3) λ_=>rfl;have a2:=aE (s q _ D);have e:=U (sA (ns:=c.flatMap λg=>jY h g.H) q);have z:=U I;have y:=U H;obtain⟨M,o,N,x⟩:=Dn t h;cases h
 all_goals
  dsimp only[cond]at o ⊢;go_in;go_wp2;go_loopw [11] (λm j=>∃b:Nat,m=Y b/\b<=c.length/\af (Tl f _ ((c.drop b).flatMap λg=>jY _ g.H) w j)) (λm _=>c.length-(intOf m).toNat)
  case atStart=>exact⟨0,rfl,Zm,e⟩
  case round=>
   obtain⟨b,rfl,S,e⟩:=hrel;rcases Yj b c.length with l|F
   .rw[Yk l,YD]at e;obtain⟨C,rfl,i⟩:=z.i b l;have i:=U (i _ (e.i.f0 s));obtain⟨A,L,r⟩:=oQ c[b].H;have a3:wr.cell? ⟨C,b*3,none⟩=_:=i.i 0 _ rfl;have a4:=i.i 1 _ rfl;have a5:=(i.i 2 _ rfl).trans (Yo some r.i);have a1:=o _ r.i;have P:(0:Int)<=b:=Zm;have R:(b:Int)<c.length:=Zm;have e:=U (e.i.A t (.cells #[.string ⟨c[b].t.toArray⟩,Y c[b].y,.iface A L] 242))
    go_wp21;refine tv e (x.i _ λn G=>y.i n (List.mem_flatMap.2 ⟨c[b],Yy l,G⟩)) λj _ e=>?_;go_wp2;exact⟨⟨b+1,Zj,Zm,e⟩,Zz⟩
   .rw[YR F]at e;go_wp2;go_end0;exact e.i.fin
end
section
variable {f:List Nat}{N c b g:Nat}{X h:Nat->Prop}{d:Zb}{j w w':Zw}
structure bt where
 w:Int
 n:Int
 of:Int
 aI:List Int
 aB:List Int
 dR:Int
 a5:Zb
 y:Int
structure ig where
 s:Zb
 a1:Int
 n:Int
 y:Int
structure cj where
 prog:Int
 et:Int
 ja:Int
 c1:Int
 cv:Int
structure ai where
 s:oi
 h:List bt
 G:List ig
 ao:List cj
 i:Zb
 ax:Int
 an:Int
 ah:List Int
def bz:bt:=⟨0,0,0,[],[],0,[],0⟩
def iT:ig:=⟨[],0,0,0⟩
abbrev eB(a:bt)(b:Zv×Zv):Zl:=[Y a.w,Y a.n,Y a.of,b.1,b.2,Y a.dR,Zs a.a5,Y a.y]
abbrev nU(a:ig):Zl:=[Zs a.s,Y a.a1,Y a.n,Y a.y]
abbrev gG(a:cj):Zl:=[Y a.prog,Y a.et,Y a.ja,Y a.c1,Y a.cv]
def tq(b:List bt)(c:List (Zv×Zv)):Zl:=(b.zip c).flatMap λa=>eB a.1 a.2
def cO(v:Zv)(a:List Int)(w:Zw):Prop:=w.ownsRow 0 3 1 v a.length (a.map (Y))
def pj(v:Zv)(a:Zc)(w:Zw):Prop:=w.ownsRow 0 9 1 v a.length (a.map λb=>Zs b)
structure PV where
 rv:Zv
 nv:Zv
 pv:Zv
 gv:Zv
 ls:List (Zv×Zv)
def PV.b3(a:PV)(c:Nat):List Nat:=c::(a.rv.ownBlock.toList++(a.nv.ownBlock.toList++(a.pv.ownBlock.toList++a.gv.ownBlock.toList)))
structure PV.Nd(V:PV)(c:Nat):Prop where
 r:V.rv.ownBlock≠some c
 n:V.nv.ownBlock≠some c
 p:V.pv.ownBlock≠some c
 g:V.gv.ownBlock≠some c
 rn:∀b,V.rv.ownBlock=some b->V.nv.ownBlock≠some b
 rp:∀b,V.rv.ownBlock=some b->V.pv.ownBlock≠some b
 rg:∀b,V.rv.ownBlock=some b->V.gv.ownBlock≠some b
 np:∀b,V.nv.ownBlock=some b->V.pv.ownBlock≠some b
 ng:∀b,V.nv.ownBlock=some b->V.gv.ownBlock≠some b
 pg:∀b,V.pv.ownBlock=some b->V.gv.ownBlock≠some b
def PV.a8(b:PV):List Nat:=b.ls.flatMap λa=>a.1.ownBlock.toList++a.2.ownBlock.toList
def ai.sz(a:ai):Nat:=a.h.length+a.G.length+a.ao.length+a.ah.length+a.i.length+a.ax.toNat+a.an.toNat
abbrev vE(a:PV)(b:ai):yG:=⟨a.rv,a.nv,a.pv,b.i,b.ax,b.an,a.gv⟩
structure bw(X:Nat->Prop)(c:Nat)(d:Zb)(N:Nat)(σ:ai)(V:PV)(w:Zw):Prop where
 aw:w.heap[c]?=some (qD d σ.s (vE V σ))
 h:w.ownsRow 0 117 8 V.rv σ.h.length (tq σ.h V.ls)
 G:w.ownsRow 0 119 4 V.nv σ.G.length (σ.G.flatMap nU)
 ao:w.ownsRow 0 288 5 V.pv σ.ao.length (σ.ao.flatMap gG)
 ah:cO V.gv σ.ah w
 am:V.ls.length=σ.h.length
 dp:∀(i:Nat) r p,σ.h[i]?=some r->V.ls[i]?=some p->cO p.1 r.aI w/\cO p.2 r.aB w
 nd:V.Nd c
 cc:∀b∈V.a8,b ∉ V.b3 c
 bV:∀b,b∈V.b3 c\/b∈V.a8->¬X b
 bn:∀b,X b->b<w.heap.size
 fin:σ.s.x.fin<=d.length
 bD:σ.s.x.text.length<=2000
 b9:d.length<=2000
 bm:σ.sz<=N
 cn:0<=σ.ax/\0<=σ.an
def bW(X:Nat->Prop)(c:Nat)(d:Zb)(N:Nat)(b:ai)(w:Zw):Prop:=∃a,bw X c d N b a w
structure Fr(X:Nat->Prop)(w w':Zw):Prop where
 os:w'.os=w.os
 dt:w'.tape=w.tape
 ds:w'.output=w.output
 aG:w.heap.size<=w'.heap.size
 ak:∀k,k<w.heap.size->X k->w'.heap[k]?=w.heap[k]?
def ad(X:Nat->Prop)(b:Nat):Nat->Prop:=λa=>X a\/a=b
def sD:ad X b b:=Ya rfl
theorem oX(X:Nat->Prop)(w:Zw):Fr X w w:=⟨rfl,rfl,rfl,Y4 _,λ_ _ _=>rfl⟩
theorem Fr.u{v}(a:Fr X j v)(b:Fr X v w):Fr X j w:=
 ⟨b.os.trans a.os,b.dt.trans a.dt,b.ds.trans a.ds,Yz a.aG b.aG,λe c d=>(b.ak e (Yr c a.aG) d).trans (a.ak e c d)⟩
def Fr.ca(a:Fr h w w')(f:∀b,b<w.heap.size->X b->h b):Fr X w w':=⟨a.os,a.dt,a.ds,a.aG,λd c e=>a.ak d c (f d c e)⟩
def Fr.au(a:Fr (ad X b) w w'):Fr X w w':=a.ca λ_ _=>Y8
def yz(a:ap f w w')(e:∀d∈f,d<w.heap.size->¬X d):Fr X w w':=⟨a.os,a.dt,a.ds,a.aG,λc b g=>a.ak c b λh=>e c h b g⟩
def Fr.c8(a:Fr X j w)(b:ap f w w')(h:∀e∈f,X e->j.heap.size<=e):Fr X j w':=
 ⟨b.os.trans a.os,b.dt.trans a.dt,b.ds.trans a.ds,Yz a.aG b.aG,λd c g=>(b.ak d (Yr c a.aG) (λi=>by grind)).trans (a.ak d c g)⟩
def Fr.A(b:Fr X j w)(a:Obj):Fr X j (w.alloc a):=b.c8 ((ar [] w).A a) Zq
theorem Fr.ag(a:Fr X j w):Fr X j w.drew:=a.c8 ((ar [] w).ag) Zq
theorem cO.a8{v a}(b:cO v a w)(d:ap f w w')(c:∀g,v.ownBlock=some g->g ∉ f):cO v a w':=bQ b d c
theorem pj.a8{v a}(b:pj v a w)(d:ap f w w')(c:∀g,v.ownBlock=some g->g ∉ f):pj v a w':=bQ b d c
def xI{b c f e v h}(a:w.ownsRow b c f v e h)(n:Fr X w w')(m:∀g,v.ownBlock=some g->X g):w'.ownsRow b c f v e h:=by
 refine⟨a.1,?_⟩;rcases a.2 with a|⟨g,i,j,rfl,k,d,l⟩
 .simp_all
 .exact Ya ⟨g,i,j,rfl,k,(n.ak _ (ay d) (m g rfl)).trans d,l⟩
theorem ki{a:PV}(b:a.nv.ownBlock=some g):g∈a.b3 c:=by simp[PV.b3,b]
theorem lr{a:PV}(b:a.rv.ownBlock=some g):g∈a.b3 c:=by simp[PV.b3,b]
theorem mH{a:PV}(b:a.pv.ownBlock=some g):g∈a.b3 c:=by simp[PV.b3,b]
theorem nA{a:PV}(b:a.gv.ownBlock=some g):g∈a.b3 c:=by simp[PV.b3,b]
def mG{b:PV}{d:Nat}{a}(c:b.ls[d]?=some a)(e:a.1.ownBlock=some g\/a.2.ownBlock=some g):g∈b.a8:=by
 refine List.mem_flatMap.2 ⟨a,Yh c,?_⟩;simp_all
theorem bw.lt{i g}(e:bw X c d N i g w):∀b,b∈g.b3 c\/b∈g.a8->b<w.heap.size:=by
 intro b a;rcases a with a|a
 .unfold PV.b3 at a;simp only[Yg,Yn,Option.mem_toList]at a;rcases a with rfl|a|a|a|a
  .exact ay e.aw
  .exact(lI e.h a).2
  .exact(lI e.G a).2
  .exact(lI e.ao a).2
  .exact(lI e.ah a).2
 .obtain⟨o,n,f⟩:=List.mem_flatMap.1 a;obtain⟨h,l,rfl⟩:=List.getElem_of_mem n;have m:h<i.h.length:=by rw[<-e.am];omega
  obtain⟨j,k⟩:=e.dp h _ _ (Yd m) (Yd l);simp only[Yn,Option.mem_toList]at f;rcases f with f|f
  .exact(lI j f).2
  .exact(lI k f).2
def bw.f3{o k}(a:bw X c d N o k w)(j:ap f w w')(r:∀z∈f,X z)(s:∀b,h b->X b\/w.heap.size<=b)(t:∀b,h b->b<w'.heap.size):bw h c d N o k w':=by
 have i:∀b,b∈k.b3 c\/b∈k.a8->b ∉ f:=λb l u=>a.bV b l (r b u);have C:=a.lt;refine⟨(j.ak _ (ay a.aw) (i c (Y8 (by simp[PV.b3])))).trans a.aw,bQ a.h j λg e=>i g (Y8 (lr e)),bQ a.G j λg e=>i g (Y8 (ki e)),bQ a.ao j λg e=>i g (Y8 (mH e)),a.ah.a8 j λg e=>i g (Y8 (nA e)),a.am,?_,a.nd,a.cc,?_,t,a.fin,a.bD,a.b9,a.bm,a.cn⟩
 .intro y B A v m;obtain⟨p,q⟩:=a.dp y B A v m;exact⟨p.a8 j λg e=>i g (Ya (mG m (Y8 e))),q.a8 j λg e=>i g (Ya (mG m (Ya e)))⟩
 .intro b l x;rcases s b x with n|n
  .exact a.bV b l n
  grind
def bW.f3{a}(g:bW X c d N a w)(m:ap f w w')(i:∀n∈f,X n)(k:∀b,h b->X b\/w.heap.size<=b)(l:∀b,h b->b<w'.heap.size):bW h c d N a w':=by
 obtain⟨e,j⟩:=g;exact⟨e,j.f3 m i k l⟩
def bW.bn{f}(a:bW X c d N f w):∀b,X b->b<w.heap.size:=by
 obtain⟨g,e⟩:=a;exact e.bn
def bW.A{g}(f:bW X c d N g w)(e:Obj):bW (ad X w.heap.size) c d N g (w.alloc e):=by
 refine f.f3 ((ar [] w).A e) Zq ?_ ?_
 .intro b a;rcases a with a|rfl;all_goals simp_all
 .intro b a;have h:(w.alloc e).heap.size=w.heap.size+1:=Zq;rcases a with a|rfl
  .have:=f.bn b a;omega
  omega
def bW.ca{g}(e:bW X c d N g w)(f:∀b,h b->X b):bW h c d N g w:=
 e.f3 (ar [] w) Zq (λb a=>Y8 (f b a)) (λb a=>e.bn b (f b a))
def bW.au{a}(e:bW (ad X b) c d N a w):bW X c d N a w:=e.ca λ_=>Y8
def bW.ae{g}(a:bW X c d N g w)(e:ap f w w')(h:∀j∈f,X j):bW X c d N g w':=
 a.f3 e h (λ_=>Y8) (λb i=>Yr (a.bn b i) e.aG)
theorem bW.ag{a}(b:bW X c d N a w):bW X c d N a w.drew:=b.ae ((ar [] w).ag) Zq
def bW.aS{N':Nat}{b}(f:bW X c d N b w)(g:N<=N'):bW X c d N' b w:=by
 obtain⟨e,a⟩:=f;exact⟨e,{ a with bm:=Yz a.bm g }⟩
def bw.K{f g}(b:bw X c d N f g w):w.cell? (Zd c 1)=some (Y f.s.x.w)/\w.cell? (Zd c 2)=some (Zs f.s.x.text)/\w.cell? (Zd c 3)=some (Y f.s.x.y)/\w.cell? (Zd c 4)=some (Y f.s.x.fin)/\w.cell? (Zd c 5)=some (Y f.s.x.n)/\w.cell? (Zd c 6)=some (Y f.s.x.e)/\w.cell? (Zd c 7)=some g.rv/\w.cell? (Zd c 8)=some g.nv/\w.cell? (Zd c 9)=some g.pv/\w.cell? (Zd c 10)=some (Zs f.i)/\w.cell? (Zd c 11)=some (Y f.s.e)/\w.cell? (Zd c 12)=some (Y f.s.a)/\w.cell? (Zd c 13)=some (Y f.ax)/\w.cell? (Zd c 14)=some (Y f.an)/\w.cell? (Zd c 15)=some g.gv/\(∀h,w.frozen? ⟨c,h,none⟩=false)/\c<w.heap.size:=
 ⟨aC b.aw rfl,aC b.aw rfl,aC b.aw rfl,aC b.aw rfl,aC b.aw rfl,aC b.aw rfl,aC b.aw rfl,aC b.aw rfl,aC b.aw rfl,aC b.aw rfl,aC b.aw rfl,aC b.aw rfl,aC b.aw rfl,aC b.aw rfl,aC b.aw rfl,bl b.aw,ay b.aw⟩
def bw.b6{m f s}(a:bw X c d N m f w)(j:w'.heap[c]?=some (qD d s (vE f m)))(e:ap [c] w w')(r:s.x.fin<=d.length)(u:s.x.text.length<=2000):bw X c d N { m with s:=s } f w':=by
 have i:∀{v:Zv},v.ownBlock≠some c->∀g,v.ownBlock=some g->g ∉ [c]:=λC g h k=>by
  simp_all
 have o:∀b,b∈f.a8->b ∉ [c]:=λb j k=>by
  simp only[Yc]at k;exact a.cc b j (by rw[k];simp[PV.b3])
 refine⟨j,bQ a.h e (i a.nd.r),bQ a.G e (i a.nd.n),bQ a.ao e (i a.nd.p),a.ah.a8 e (i a.nd.g),a.am,?_,a.nd,a.cc,a.bV,λb y=>Yr (a.bn b y) e.aG,r,u,a.b9,a.bm,a.cn⟩;intro z B A t l;obtain⟨p,q⟩:=a.dp z B A t l;exact⟨p.a8 e λg h=>o g (mG l (Y8 h)),q.a8 e λg h=>o g (mG l (Ya h))⟩
def bw.fr{h b}(e:bw X c d N h b w)(f:ap [c] w w'):Fr X w w':=
 yz f λg a _=>by
  simp only[Yc]at a;exact e.bV g (Y8 (by rw[a];simp[PV.b3]))
end
section
def GP(h:Nat->Prop)(d:Nat)(c:Zb)(g:Nat)(f:ai)(v:Zv)(b:Zw)(e:Ending)(a:Zw):Prop:=e=.returned v/\bW h d c g f a/\Fr h b a
def ch(c b:Int)(a:ai):ai:={ a with s:=⟨a.s.x,(kA a.s.e a.s.a c b).1,(kA a.s.e a.s.a c b).2⟩ }
def eu(a:ai):ai:={ a with s:=oq a.s }
def bq(c:Zb)(a:ai):ai:={ a with s:=wk c a.s }
def aM(a:ai)(b:Nat)(c:Zb):Bool:=kT a.s.x a.s.e b c
def aj(c:Zb)(b:Nat)(d:Zb)(a:ai):ai:={ a with s:=sg c a.s b d }
def dQ(c:Zb)(a:ai):ge×ai:=((lT c a.s).1,{ a with s:=(lT c a.s).2 })
def bY(a:ai)(b:Zb):Int:=qo (a.G.map (·.s)) b
def Cl{c:Zb}{a}(f:c.length<=2000):(iq c a).text.length<=2000:=by
 unfold iq;cases d:Mar.c9 (c.drop (gE c a)) (gE c a)with
 |error e=>simp
 |ok b=>
  have:=Fg d;grind
def PQ{c:Zb}{a:oi}{e f}(b:c.length<=2000)(d:a.x.text.length<=2000):(sg c a e f).x.text.length<=2000:=by
 unfold sg;split
 .exact Cl b
 .exact d
def HV{c:Zb}{a:oi}(d:c.length<=2000)(b:a.x.text.length<=2000):(lT c a).1.text.length<=2000/\(lT c a).2.x.text.length<=2000:=by
 unfold lT;split
 .grind [dE]
 .split
  .exact⟨b,Cl d⟩
  .exact⟨by simp[dE],b⟩
variable {h : Nat -> Prop} {d g : Nat} {c : Zb} {a : ai} {b : Zw}
def nK(m:bW h d c g a b)(i f:Int):Calls prog 51 #[Zp d,Y i,Y f] b (GP h d c g (ch i f a) (.tuple #[]) b):=by
 obtain⟨k,e⟩:=m;refine(Bt e.aw i f).mono ?_;rintro n o ⟨rfl,l,j⟩;exact⟨rfl,⟨k,e.b6 (s:=⟨a.s.x,_,_⟩) l j e.fin e.bD⟩,e.fr j⟩
def ub(k:bW h d c g a b):Calls prog 84 #[Zp d] b (GP h d c g (eu a) (.tuple #[]) b):=by
 obtain⟨i,e⟩:=k;refine(AV e.aw).mono ?_;rintro l m ⟨rfl,j,f⟩;exact⟨rfl,⟨i,e.b6 (s:=oq a.s) j f e.fin e.bD⟩,e.fr f⟩
def kE(k:bW h d c g a b):Calls prog 47 #[Zp d] b (GP h d c g (bq c a) (.tuple #[]) b):=by
 obtain⟨i,e⟩:=k;refine(Cn e.aw e.fin e.b9).mono ?_;rintro l m ⟨rfl,j,f⟩;exact⟨rfl,⟨i,e.b6 (s:=wk c a.s) j f (Ck e.fin) (Cl e.b9)⟩,e.fr f⟩
def jy(k:bW h d c g a b)(e:Nat)(f:Zb):Calls prog 81 #[Zp d,Y e,Zs f] b λi l=>i=.returned (.bool (aM a e f))/\l=b:=by
 obtain⟨m,j⟩:=k;exact FC j.aw e f
def ec(n:bW h d c g a b)(f:Nat)(i:Zb):Calls prog 141 #[Zp d,Y f,Zs i] b (GP h d c g (aj c f i a) (.tuple #[]) b):=by
 obtain⟨k,e⟩:=n;refine(PS e.aw e.fin e.b9 f i).mono ?_;rintro o p ⟨rfl,m,j,l⟩;exact⟨rfl,⟨k,e.b6 m j l (PQ e.b9 e.bD)⟩,e.fr j⟩
def HW(m:bW h d c g a b):Calls prog 152 #[Zp d] b λf n=>GP h d c g (dQ c a).2 (.agg (hy (dQ c a).1)) b f n/\(dQ c a).1.text.length<=2000:=by
 obtain⟨j,e⟩:=m;refine(ahG e.aw e.fin e.b9).mono ?_;rintro f o ⟨rfl,l,i,k⟩;exact⟨⟨rfl,⟨j,e.b6 l i k (HV e.b9 e.bD).2⟩,e.fr i⟩,(HV e.b9 e.bD).1⟩
def uq{e:Type}{f:e->Zl}{k:Nat}(g:∀d,(f d).length=k):∀(c:List e) (a b:Nat),b<k->(c.flatMap f)[a*k+b]?=(c[a]?).bind λd=>(f d)[b]?:=by
 intro c;induction c with
 |nil=>simp
 |cons d c i=>
  intro a b h;rw[YD];cases a with
  |zero=>grind
  |succ a=>
   rw[Yw Zg,g,show (a+1)*k+b-k=a*k+b by grind,i a b h];rfl
def nW{b:Zw}{j k n g v h}(e:b.ownsRow j k n v g h){i:Nat}{x}(f:h[i]?=some x):∃a c,v=.slice (some ⟨a,0,none⟩) g c/\b.cell? (Zd a i)=some x/\(∀i,b.frozen? ⟨a,i,none⟩=false)/\a<b.heap.size:=by
 have m:=(YB.1 f).1;rcases e.2 with⟨rfl,l⟩|⟨a,c,o,rfl,p,d,q,r,s,t⟩
 .rw[e.1,l]at m;omega
 .exact⟨a,c,rfl,oK d Zg f,bl d,ay d⟩
def FI{b:Zw}{h j e d v g}(l:b.ownsRow h j e v d g)(f:Nat->Zv)(o:∀a,a<d->g[a*e]?=some (f a)):su b v d e f:=by
 rcases l.2 with⟨rfl,m⟩|⟨k,i,p,rfl,q,n,r,s,t,u⟩
 .subst m;exact⟨none,0,rfl,λa c=>absurd c Zm⟩
 .refine⟨_,i,rfl,λa c=>?_⟩;exact⟨k,rfl,oK n Zg (o a c)⟩
def cO.bH{v a}(d:cO v a b):su b v a.length 1 λc=>Y (a.getD c 0):=
 FI d _ λc e=>by grind
def pj.bH{v a}(d:pj v a b):su b v a.length 1 λc=>.string ⟨(a.getD c []).toArray⟩:=
 FI d _ λc e=>by grind
def sT{i}(j:bw h d c g a i b)(q:g<=1000000000)(e:Zb):Calls prog 90 #[i.nv,Zs e] b λm p=>m=.returned (Y (bY a e))/\p=b:=by
 have n:=j.bm;unfold ai.sz at n;refine VM (l:=a.G.map (·.s)) ?_ Zg e;rw[YU];refine FI j.G _ λo r=>?_;have:=uq (f:=nU) (k:=4) (λ_=>rfl) a.G o 0 Zm;simp_all
def uC{u}(j:bw h d c g a u b){i:Nat}(K:i<a.G.length):∃e o,u.nv=.slice (some ⟨e,0,none⟩) a.G.length o/\b.cell? ⟨e,i*4,none⟩=some (.string ⟨(a.G.getD i iT).s.toArray⟩)/\b.cell? ⟨e,i*4+1,none⟩=some (Y (a.G.getD i iT).a1)/\b.cell? ⟨e,i*4+2,none⟩=some (Y (a.G.getD i iT).n)/\b.cell? ⟨e,i*4+3,none⟩=some (Y (a.G.getD i iT).y)/\(∀i,b.frozen? ⟨e,i,none⟩=false)/\e<b.heap.size/\e≠d:=by
 have m:=λD B=>uq (f:=nU) (k:=4) (λ_=>rfl) a.G i D B;have l:a.G[i]?=some (a.G.getD i iT):=Zg;obtain⟨e,o,p,v,A,C⟩:=nW j.G (m 0 Zm |>.trans (by rw[l];rfl));obtain⟨H,E,q,w,_⟩:=nW j.G (m 1 Zm |>.trans (by rw[l];rfl));obtain⟨I,F,r,x,_⟩:=nW j.G (m 2 Zm |>.trans (by rw[l];rfl));obtain⟨J,G,t,y,_⟩:=nW j.G (m 3 Zm |>.trans (by rw[l];rfl));rw[p]at q r t;simp at q r t;obtain⟨rfl,rfl⟩:=q;obtain⟨rfl,rfl⟩:=r;obtain⟨rfl,rfl⟩:=t;exact⟨e,o,p,v,w,x,y,A,C,λz=>j.nd.n (by rw[p,z];rfl)⟩
theorem vP{b}(c:0<=bY a b):(bY a b).toNat<a.G.length:=by
 unfold bY qo at *
 split at c
 .rename_i d;rw[Y9 d];grind [List.length_map]
 omega
end
section
variable {X : Nat -> Prop} {a d : Nat} {e : Zb} {b : ai} {c : Zw}
theorem fS(a c b:Nat):(Value.slice (some ⟨a,0,none⟩) c b).ownBlock=some a:=rfl
def bw.iB{k h}{g:Option Nat}{o:Nat}(m:bw X a e d b k c)(D:∀f,g=some f->f∈k.b3 a)(J:g≠some a)(B:c.grownBy h g)(I:g=some o\/o=c.heap.size)(j:Nat)(l:Zv):o≠a/\(∀f,f∈k.b3 a\/f∈k.a8->g≠some f->o≠f)/\ap [a] h (h.setCell ⟨a,j,none⟩ l)/\ap (g.toList++[a]) c (h.setCell ⟨a,j,none⟩ l)/\(∀f,g≠some f->f≠a->f ∉ g.toList++[a])/\(∀f∈k.a8,g≠some f/\f≠a)/\h.heap[a]?=c.heap[a]?/\∀(v:Nat) (n:bt) (p:Zv×Zv),b.h[v]?=some n->k.ls[v]?=some p->cO p.1 n.aI (h.setCell ⟨a,j,none⟩ l)/\cO p.2 n.aB (h.setCell ⟨a,j,none⟩ l):=by
 have w:=kV B;have x:ap [a] h (h.setCell ⟨a,j,none⟩ l):=(ar [a] h).a6 (p:=⟨a,j,none⟩) Zq _;have K:=m.lt;have s:ap (g.toList++[a]) c (h.setCell ⟨a,j,none⟩ l):=w.cons x (λF C=>by grind) (λF C=>by grind);have t:∀f,g≠some f->f≠a->f ∉ g.toList++[a]:=λf G H=>by simp_all
 have y:∀f∈k.a8,g≠some f/\f≠a:=λf i=>⟨λr=>m.cc f i (D f r),λr=>m.cc f i (by rw[r];simp[PV.b3])⟩;refine⟨?_,?_,x,s,t,y,w.ak a (ay m.aw) Zu,?_⟩
 .grind [PV.b3]
 .grind
 .intro j n p E u;obtain⟨z,A⟩:=m.dp j n p E u;have q:=λf i=>y f (mG u i);exact⟨z.a8 s λf i=>t f (q f (Y8 i)).1 (q f (Y8 i)).2,A.a8 s λf i=>t f (q f (Ya i)).1 (q f (Ya i)).2⟩
def bw.j3{s u m}{q v:Nat}(f:bw X a e d b s c)(D:c.grownBy u s.nv.ownBlock)(G:u.ownsRow 0 119 4 (.slice (some ⟨q,0,none⟩) (b.G.length+1) v) (b.G.length+1) (b.G.flatMap nU++nU m))(A:s.nv.ownBlock=some q\/q=c.heap.size)(F:q<u.heap.size):bw X a e (d+1) { b with G:=b.G++[m] } { s with nv:=.slice (some ⟨q,0,none⟩) (b.G.length+1) v } (u.setCell ⟨a,8,none⟩ (.slice (some ⟨q,0,none⟩) (b.G.length+1) v)):=by
 obtain⟨E,w,H,t,z,I,C,J⟩:=f.iB (λg=>ki) f.nd.n D A ..;refine⟨ci (i:=8) (C.trans f.aw) _,bQ f.h t λg h=>z g (f.nd.rn g h) (λk=>f.nd.r Zu),?_,bQ f.ao t λg h=>z g (λk=>f.nd.np g k h) (λk=>f.nd.p Zu),f.ah.a8 t λg h=>z g (λk=>f.nd.ng g k h) (λk=>f.nd.g Zu),f.am,?_,?_,?_,?_,λg l=>Yr (f.bn g l) t.aG,f.fin,f.bD,f.b9,?_,f.cn⟩
 .grind [bQ,fS]
 .omega
 .refine⟨f.nd.r,?_,f.nd.p,f.nd.g,?_,f.nd.rp,f.nd.rg,?_,?_,f.nd.pg⟩
  .simp[fS,E]
  .intro g h k;exact w g (Y8 (lr h)) (f.nd.rn g h) (by simpa[fS]using k)
  .intro g h k;exact w g (Y8 (mH k)) (λx=>f.nd.np g x k) (by simpa[fS]using h)
  .intro g h k;exact w g (Y8 (nA k)) (λx=>f.nd.ng g x k) (by simpa[fS]using h)
 .intro g h o;have y:g∈s.a8:=h;unfold PV.b3 at o;simp only[fS,Yg,Yn,Option.mem_toList,Yu]at o;rcases o with j|j|j|j|j
  .grind
  .exact f.cc g y (lr j)
  .grind
  .exact f.cc g y (mH j)
  .exact f.cc g y (nA j)
 .intro g h l;rcases h with o|h
  .unfold PV.b3 at o;simp only[fS,Yg,Yn,Option.mem_toList,Yu]at o;rcases o with j|j|j|j|j
   .exact f.bV g (Y8 (by rw[j];simp[PV.b3])) l
   .exact f.bV g (Y8 (lr j)) l
   .rcases A with B|B
    .exact f.bV g (Y8 (ki Zg)) l
    .have:=f.bn g l;omega
   .exact f.bV g (Y8 (mH j)) l
   .exact f.bV g (Y8 (nA j)) l
  .exact f.bV g (Ya h) l
 .have:=f.bm;grind [ai.sz]
def bw.lm{k z A}{v:bt}{l m}{r B:Nat}(g:bw A a e d b k c)(q:∀f,X f->A f)(N:cO l v.aI c)(h:cO m v.aB c)(O:∀f,l.ownBlock=some f\/m.ownBlock=some f->A f/\¬X f)(P:c.grownBy z k.rv.ownBlock)(S:z.ownsRow 0 117 8 (.slice (some ⟨r,0,none⟩) (b.h.length+1) B) (b.h.length+1) (tq b.h k.ls++eB v (l,m)))(D:k.rv.ownBlock=some r\/r=c.heap.size)(a2:r<z.heap.size):bw X a e (d+1) { b with h:=b.h++[v] } { k with rv:=.slice (some ⟨r,0,none⟩) (b.h.length+1) B,ls:=k.ls++[(l,m)] } (z.setCell ⟨a,7,none⟩ (.slice (some ⟨r,0,none⟩) (b.h.length+1) B)):=by
 obtain⟨R,C,a0,u,y,a3,M,a4⟩:=g.iB (λf=>lr) g.nd.r P D ..;have I:∀f,l.ownBlock=some f\/m.ownBlock=some f->f ∉ k.b3 a/\r≠f:=by
  intro f h;have K:=(O f h).1;have a1:f ∉ k.b3 a:=λo=>g.bV f (Y8 o) K;refine⟨a1,λi=>?_⟩;rcases D with j|j
  .grind [lr]
  .have:=g.bn f K;omega
 have J:∀f,l.ownBlock=some f\/m.ownBlock=some f->f ∉ k.rv.ownBlock.toList++[a]:=λf h=>y f (λi=>(I f h).1 (lr i)) (λi=>(I f h).1 (by rw[i];simp[PV.b3]));refine⟨ci (i:=7) (M.trans g.aw) _,?_,bQ g.G u λf h=>y f (λi=>g.nd.rn f i h) (λi=>g.nd.n Zu),bQ g.ao u λf h=>y f (λi=>g.nd.rp f i h) (λi=>g.nd.p Zu),g.ah.a8 u λf h=>y f (λi=>g.nd.rg f i h) (λi=>g.nd.g Zu),?_,?_,?_,?_,?_,λf p=>Yr (g.bn f (q f p)) u.aG,g.fin,g.bD,g.b9,?_,g.cn⟩
 .have:=bQ S a0 (λf h=>by grind [fS]);have j:tq (b.h++[v]) (k.ls++[(l,m)])=tq b.h k.ls++eB v (l,m):=by
   unfold tq;rw[List.zip_append g.am.symm,YK];simp
  simp_all
 .simp[g.am]
 .intro F a6 a5 t s;simp only[List.getElem?_append]at t s;by_cases G:F<b.h.length
  .rw[Y9 G]at t;rw[Y9 (by rw[g.am];omega)]at s;grind
  .rw[Y2 G]at t;rw[Y2 (by rw[g.am];omega)]at s;have H:F-b.h.length=0:=by
    grind
   rw[H]at t;rw[g.am,H]at s;simp at t s;subst t s;exact⟨N.a8 u λf h=>J f (Y8 h),h.a8 u λf h=>J f (Ya h)⟩
 .refine⟨?_,g.nd.n,g.nd.p,g.nd.g,?_,?_,?_,g.nd.np,g.nd.ng,g.nd.pg⟩
  .simp[fS,R]
  .intro f h i;exact C f (Y8 (ki i)) (λw=>g.nd.rn f w i) (by simpa[fS]using h)
  .intro f h i;exact C f (Y8 (mH i)) (λw=>g.nd.rp f w i) (by simpa[fS]using h)
  .intro f h i;exact C f (Y8 (nA i)) (λw=>g.nd.rg f w i) (by simpa[fS]using h)
 .intro f h o;have E:f∈k.a8\/(l.ownBlock=some f\/m.ownBlock=some f):=by
   unfold PV.a8 at h ⊢;grind
  unfold PV.b3 at o;simp only[fS,Yg,Yn,Option.mem_toList,Yu]at o;rcases E with x|x
  .rcases o with j|j|j|j|j
   .grind
   .grind
   .exact g.cc f x (ki j)
   .exact g.cc f x (mH j)
   .exact g.cc f x (nA j)
  grind [ki,mH,nA]
 .intro f h p;rcases h with o|h
  .unfold PV.b3 at o;simp only[fS,Yg,Yn,Option.mem_toList,Yu]at o;rcases o with j|j|j|j|j
   .exact g.bV f (Y8 (by rw[j];simp[PV.b3])) (q f p)
   .rcases D with L|L
    .exact g.bV f (Y8 (lr Zg)) (q f p)
    .have:=g.bn f (q f p);omega
   .exact g.bV f (Y8 (ki j)) (q f p)
   .exact g.bV f (Y8 (mH j)) (q f p)
   .exact g.bV f (Y8 (nA j)) (q f p)
  .have E:f∈k.a8\/(l.ownBlock=some f\/m.ownBlock=some f):=by
    unfold PV.a8 at h ⊢;grind
   rcases E with h|h
   .exact g.bV f (Ya h) (q f p)
   grind
 .have:=g.bm;grind [ai.sz]
def bw.ll{o s y}{n t:Nat}(f:bw X a e d b o c)(B:c.grownBy s o.gv.ownBlock)(E:s.ownsRow 0 3 1 (.slice (some ⟨n,0,none⟩) (b.ah.length+1) t) (b.ah.length+1) (b.ah.map (Y)++[Y y]))(x:o.gv.ownBlock=some n\/n=c.heap.size)(D:n<s.heap.size):bw X a e (d+1) { b with ah:=b.ah++[y] } { o with gv:=.slice (some ⟨n,0,none⟩) (b.ah.length+1) t } (s.setCell ⟨a,15,none⟩ (.slice (some ⟨n,0,none⟩) (b.ah.length+1) t)):=by
 obtain⟨C,u,F,q,w,G,A,H⟩:=f.iB (λg=>nA) f.nd.g B x ..;refine⟨ci (i:=15) (A.trans f.aw) _,bQ f.h q λg h=>w g (f.nd.rg g h) (λl=>f.nd.r Zu),bQ f.G q λg h=>w g (f.nd.ng g h) (λl=>f.nd.n Zu),bQ f.ao q λg h=>w g (f.nd.pg g h) (λl=>f.nd.p Zu),?_,f.am,?_,?_,?_,?_,λg k=>Yr (f.bn g k) q.aG,f.fin,f.bD,f.b9,?_,f.cn⟩
 .grind [bQ,fS,cO]
 .omega
 .refine⟨f.nd.r,f.nd.n,f.nd.p,?_,f.nd.rn,f.nd.rp,?_,f.nd.np,?_,?_⟩
  .simp[fS,C]
  .intro g h l;exact u g (Y8 (lr h)) (f.nd.rg g h) (by simpa[fS]using l)
  .intro g h l;exact u g (Y8 (ki h)) (f.nd.ng g h) (by simpa[fS]using l)
  .intro g h l;exact u g (Y8 (mH h)) (f.nd.pg g h) (by simpa[fS]using l)
 .intro g h m;have v:g∈o.a8:=h;unfold PV.b3 at m;simp only[fS,Yg,Yn,Option.mem_toList,Yu]at m;rcases m with j|j|j|j|j
  .grind
  .exact f.cc g v (lr j)
  .exact f.cc g v (ki j)
  .exact f.cc g v (mH j)
  grind
 .intro g h k;rcases h with m|h
  .unfold PV.b3 at m;simp only[fS,Yg,Yn,Option.mem_toList,Yu]at m;rcases m with j|j|j|j|j
   .exact f.bV g (Y8 (by rw[j];simp[PV.b3])) k
   .exact f.bV g (Y8 (lr j)) k
   .exact f.bV g (Y8 (ki j)) k
   .exact f.bV g (Y8 (mH j)) k
   .rcases x with z|z
    .exact f.bV g (Y8 (nA Zg)) k
    .have:=f.bn g k;omega
  .exact f.bV g (Ya h) k
 .have:=f.bm;grind [ai.sz]
def bw.lj{s u}{o:List cj}{q v:Nat}(f:bw X a e d b s c)(D:c.grownBy u s.pv.ownBlock)(G:u.ownsRow 0 288 5 (.slice (some ⟨q,0,none⟩) (b.ao.length+o.length) v) (b.ao.length+o.length) (b.ao.flatMap gG++o.flatMap gG))(z:s.pv.ownBlock=some q\/q=c.heap.size)(F:q<u.heap.size):bw X a e (d+o.length) { b with ao:=b.ao++o } { s with pv:=.slice (some ⟨q,0,none⟩) (b.ao.length+o.length) v } (u.setCell ⟨a,9,none⟩ (.slice (some ⟨q,0,none⟩) (b.ao.length+o.length) v)):=by
 obtain⟨E,w,H,t,y,I,C,J⟩:=f.iB (λg=>mH) f.nd.p D z ..;refine⟨ci (i:=9) (C.trans f.aw) _,bQ f.h t λg h=>y g (f.nd.rp g h) (λk=>f.nd.r Zu),bQ f.G t λg h=>y g (f.nd.np g h) (λk=>f.nd.n Zu),?_,f.ah.a8 t λg h=>y g (λk=>f.nd.pg g k h) (λk=>f.nd.g Zu),f.am,?_,?_,?_,?_,λg l=>Yr (f.bn g l) t.aG,f.fin,f.bD,f.b9,?_,f.cn⟩
 .grind [bQ,fS]
 .omega
 .refine⟨f.nd.r,f.nd.n,?_,f.nd.g,f.nd.rn,?_,f.nd.rg,?_,f.nd.ng,?_⟩
  .simp[fS,E]
  .intro g h k;exact w g (Y8 (lr h)) (f.nd.rp g h) (by simpa[fS]using k)
  .intro g h k;exact w g (Y8 (ki h)) (f.nd.np g h) (by simpa[fS]using k)
  .intro g h k;exact w g (Y8 (nA k)) (λB=>f.nd.pg g B k) (by simpa[fS]using h)
 .intro g h m;have x:g∈s.a8:=h;unfold PV.b3 at m;simp only[fS,Yg,Yn,Option.mem_toList,Yu]at m;rcases m with j|j|j|j|j
  .grind
  .exact f.cc g x (lr j)
  .exact f.cc g x (ki j)
  .grind
  .exact f.cc g x (nA j)
 .intro g h l;rcases h with m|h
  .unfold PV.b3 at m;simp only[fS,Yg,Yn,Option.mem_toList,Yu]at m;rcases m with j|j|j|j|j
   .exact f.bV g (Y8 (by rw[j];simp[PV.b3])) l
   .exact f.bV g (Y8 (lr j)) l
   .exact f.bV g (Y8 (ki j)) l
   .rcases z with A|A
    .exact f.bV g (Y8 (mH Zg)) l
    .have:=f.bn g l;omega
   .exact f.bV g (Y8 (nA j)) l
  .exact f.bV g (Ya h) l
 .have:=f.bm;grind [ai.sz]
end
section
variable {X d : Nat -> Prop} {c e : Nat} {f : Zb} {a : ai} {w : Zw}
def Xf:(prog.info? 117).map (λa=>(a.zero,a.size,a.bytes))=some (some (.agg #[Y 0,Y 0,Y 0,.slice none 0 0,.slice none 0 0,Y 0,.string ⟨#[]⟩,Y 0]),8,104):=Zk
def bw.az{b h}(d:bw X c f e a b w)(g:ap [] w h):bw X c f e a b h:=d.f3 g Zq (λ_=>Y8) (λi j=>Yr (d.bn i j) g.aG)
def bw.h0{b h g}(d:bw X c f e a b w)(j:w.grownBy h g)(k:g≠some c):h.heap[c]?=some (qD f a.s (vE b a)):=(j.block c (ay d.aw) (λi=>k i.symm)).trans d.aw
def Km{b:Nat}{a c d e f g h i:Zv}{k}{w:Zw}(j:w.heap[b]?=some (.cells #[a,c,d,e,f,g,h,i] k)):w.cell? (Zd b 0)=some a/\w.cell? (Zd b 1)=some c/\w.cell? (Zd b 2)=some d/\w.cell? (Zd b 3)=some e/\w.cell? (Zd b 4)=some f/\w.cell? (Zd b 5)=some g/\w.cell? (Zd b 6)=some h/\w.cell? (Zd b 7)=some i/\(∀l,w.frozen? ⟨b,l,none⟩=false)/\b<w.heap.size:=by
 refine⟨?_,?_,?_,?_,?_,?_,?_,?_,?_,ay j⟩<;>simp[World.cell?,World.frozen?,j]
def dm(b:bt)(a:ai):ai:={ a with h:=a.h++[b] }
def Od(p:bW d c f e a w)(b1:∀b,X b->d b)(q:bt)(i j:Zv)(L:cO i q.aI w)(F:cO j q.aB w)(b2:∀b,i.ownBlock=some b\/j.ownBlock=some b->d b/\¬X b)(d6:e<=1000000000):Calls prog 46 #[Zp c,.agg (eB q (i,j)).toArray] w λa8 g=>a8=.returned (Y a.h.length)/\bW X c f (e+1) (dm q a) g/\Fr d w g:=by
 obtain⟨c1,k⟩:=p;obtain⟨c2,c9,d0,d1,d2,d3,a6,d4,d5,c3,c4,c5,c6,c7,c8,d9,e1⟩:=k.K;have J:=k.bm;unfold ai.sz at J;have b3:(a.h.length+1)*104<=140737488355328:=Zm;have e0:(a.h.length:Int)+1-1=a.h.length:=Zm;obtain⟨z,A,C,R,a1,v,D,t⟩:=q;have d7:i.oneCell'=true:=by obtain⟨_,_,rfl⟩:=aW L;rfl
 have d8:j.oneCell'=true:=by obtain⟨_,_,rfl⟩:=aW F;rfl
 have b8:∀a2∈eB ⟨z,A,C,R,a1,v,D,t⟩ (i,j),a2.oneCell'=true:=by
  intro a2 P;simp[eB]at P;rcases P with rfl|rfl|rfl|rfl|rfl|rfl|rfl|rfl<;>first|rfl|assumption
 have c0:∀S a0,ap [] w (((w.alloc S).alloc a0).drew):=λS a0=>(((ar [] w).A _).A _).ag;have h:=U (Yp k (Yp L (Yp F (Yp b2 J))));have m:=U c0;obtain⟨iE,u,y⟩:=aW k.h;rw[y]at a6;have b6:(Value.slice iE a.h.length u).ownBlock≠some c:=by rw[<-y];exact k.nd.r
 have b7:∀b,(Value.slice iE a.h.length u).ownBlock=some b->b<w.heap.size:=λb F=>(lI k.h Zu).2;have l:=U (Yp y (Yp b6 b7));have b9:=U (y▸k.h);have a4:=U b1;show Calls _ _ #[_,.agg #[Y z,Y A,Y C,i,j,Y v,Zs D,Y t]] ..;go_in;go_wp21;refine bJ (λg=>g.cell? (Zd c 7)=some (.slice iE a.h.length u)/\g.cell? (Zd w.heap.size 0)=some (Y z)/\g.cell? (Zd w.heap.size 1)=some (Y A)/\g.cell? (Zd w.heap.size 2)=some (Y C)/\g.cell? (Zd w.heap.size 3)=some i/\g.cell? (Zd w.heap.size 4)=some j/\g.cell? (Zd w.heap.size 5)=some (Y v)/\g.cell? (Zd w.heap.size 6)=some (Zs D)/\g.cell? (Zd w.heap.size 7)=some (Y t)) ?_ λK=>?_
 .go_keep
 refine bf [0,1,2,3,4,5,6] ?_;iterate 7 (refine bi ?_)
 refine bg ?_;refine bI 7 λI n=>?_;go_simp;refine n.out _ _ ?_ (λK=>?_)
 .go_keep
 refine nz ?_;refine bI 8 λI n=>?_;(refine mh (B:=w.heap.size+1) Xf underlying58 (bQ b9.i (m.i ..) Zq) (eB ⟨z,A,C,R,a1,v,D,t⟩ (i,j)) (be (w:=w.alloc _) Zq) b8 b3 Zm (H:=w.heap.size+2) Zq ?_;intro b0 a7 r O x M b4;have o:=(h.i.1.az (m.i ..)).h0 x l.i.2.1;have f2:r.cell? (Zd c 7)=some (.slice iE a.h.length u):=(by rw[<-l.i.1];exact aC o rfl);have f3:=bl o;have f4:=ay o;obtain⟨e2,e3,e4,e5,e6,e7,e8,e9,f0,f1⟩:=Km (w:=r) (b:=w.heap.size) ((x.block _ Zx (λE=>by have:=l.i.2.2 _ E.symm;omega)).trans ((Below.heap_alloc _ _ _ Zq).trans (be rfl)));have s:=U (Yp x (Yp M (Yp O o)));clear x M O o);refine n.out _ _ ?_ (λK=>?_)
 .go_keep
 refine nz ?_;refine bf [9,10,11] ?_;iterate 3 (refine bi ?_)
 refine bg ?_;refine bL λI n=>?_;go_simp;refine n.out _ _ ?_;refine nz ?_;have N:=s.i.1;rw[<-l.i.1]at N;have a5:=U ((h.i.1.az (m.i ..)).lm (X:=X) a4.i (h.i.2.1.a8 (m.i ..) Zq) (h.i.2.2.1.a8 (m.i ..) Zq) h.i.2.2.2.1 N s.i.2.2.1 (by rw[l.i.1];exact s.i.2.1.imp id (λE=>by rw[E];simp)) b4);have a3:af (Fr d w (r.setCell ⟨c,7,none⟩ (.slice (some ⟨b0,0,none⟩) (a.h.length+1) a7))):=by
  have a9:Fr d w r:=((oX d w).c8 (m.i ..) Zq).c8 (kV s.i.1) (λH b5 G=>absurd G (h.i.1.bV H (Y8 (lr (by rw[l.i.1];grind)))));exact a9.c8 ((ar [c] r).a6 (p:=⟨c,7,none⟩) Zq _) (λH b5 G=>absurd G (h.i.1.bV H (Y8 (by grind [PV.b3]))))
 go_wp2;go_ret;refine⟨?_,⟨_,a5.i⟩,a3.i⟩;rfl
end
section
variable {d l : Nat -> Prop} {c g : Nat} {h : Zb} {a : ai} {b : Zw}
def zm{g:Type}{f:g->Zl}{k:Nat}(l:∀c,(f c).length=k):∀(b:List g) (a d:Nat) (c e:g) (v:Zv),d<k->b[a]?=some c->f e=(f c).set d v->(b.flatMap f).set (a*k+d) v=(b.set a e).flatMap f:=by
 intro b;induction b with
 |nil=>simp
 |cons h b n=>
  intro a d c e v m i j;cases a with
  |zero=>
   simp_all
  |succ a=>
   grind
def zJ{f g}{k c a d:Nat}{e}(h:b.ownsRow f g k (.slice (some ⟨a,0,none⟩) c d) c e){i:Nat}(x:i<e.length)(v:Zv):(b.setCell ⟨a,i,none⟩ v).ownsRow f g k (.slice (some ⟨a,0,none⟩) c d) c (e.set i v):=by
 refine⟨by rw[YF];exact h.1,?_⟩;rcases h.2 with⟨s,t⟩|⟨r,p,q,j,l,m,n,o,u,w⟩
 .grind
 .simp at j;obtain⟨rfl,rfl⟩:=j;refine Ya ⟨a,d,_,rfl,l,ci m v,n,o,?_,?_⟩;all_goals grind [List.take_set]
def jg(a:ai)(b:Nat)(c n:Int):ai:={ a with G:=a.G.set b { a.G.getD b iT with a1:=c,n:=n } }
theorem bw.k2{o}(j:bw d c h g a o b){i m B:Nat}(I:i<a.G.length)(v:o.nv=.slice (some ⟨m,0,none⟩) a.G.length B)(q n:Int):bw d c h g (jg a i q n) o ((b.setCell ⟨m,i*4+1,none⟩ (Y q)).setCell ⟨m,i*4+2,none⟩ (Y n)):=by
 have H:o.nv.ownBlock=some m:=by rw[v];rfl
 have p:ap [m] b ((b.setCell ⟨m,i*4+1,none⟩ (Y q)).setCell ⟨m,i*4+2,none⟩ (Y n)):=((ar [m] b).a6 (p:=⟨m,i*4+1,none⟩) Zq _).a6 (p:=⟨m,i*4+2,none⟩) Zq _;have r:∀e,o.nv.ownBlock≠some e->e ∉ [m]:=λe l K=>by
  simp_all
 have w:∀e∈o.a8,o.nv.ownBlock≠some e:=λe l s=>j.cc e l (ki s);have J:(a.G.flatMap nU).length=a.G.length*4:=j.G.1;refine⟨(p.ak c (ay j.aw) (r c j.nd.n)).trans j.aw,bQ j.h p λe l=>r e (j.nd.rn e l),?_,bQ j.ao p λe l=>r e (λs=>j.nd.np e s l),j.ah.a8 p λe l=>r e (λs=>j.nd.ng e s l),j.am,?_,j.nd,j.cc,j.bV,λe E=>Yr (j.bn e E) p.aG,j.fin,j.bD,j.b9,?_,j.cn⟩
 .have C:a.G[i]?=some (a.G.getD i iT):=Zg;have x:=j.G;rw[v]at x ⊢;have y:=zJ (zJ x (i:=i*4+1) Zm (Y q)) (i:=i*4+2) Zg (Y n);rw[zm (f:=nU) (k:=4) (λ_=>rfl) a.G i 1 (a.G.getD i iT) { a.G.getD i iT with a1:=q } _ Zm C rfl]at y;rw[zm (f:=nU) (k:=4) (λ_=>rfl) _ i 2 { a.G.getD i iT with a1:=q } { a.G.getD i iT with a1:=q,n:=n } _ Zm Zg rfl]at y;grind [List.set_set,jg]
 .intro F G u D t;obtain⟨z,A⟩:=j.dp F G u D t;exact⟨z.a8 p λe l=>r e (w e (mG t (Y8 l))),A.a8 p λe l=>r e (w e (mG t (Ya l)))⟩
 .have:=j.bm;grind [ai.sz,jg]
def bw.k0{m}(e:bw d c h g a m b):bw d c h (g+1) { a with ax:=a.ax+1 } m (b.setCell ⟨c,13,none⟩ (Y (a.ax+1))):=by
 have o:=ci (i:=13) e.aw (Y (a.ax+1));have C:=e.b6 (s:=a.s) (w':=b) e.aw (ar ..) e.fin e.bD;have i:ap [c] b (b.setCell ⟨c,13,none⟩ (Y (a.ax+1))):=(ar [c] b).a6 (p:=⟨c,13,none⟩) Zq _;have l:∀{v:Zv},v.ownBlock≠some c->∀f,v.ownBlock=some f->f ∉ [c]:=λB f k p=>by
  simp_all
 have t:∀j,j∈m.a8->j ∉ [c]:=λj o p=>by
  simp only[Yc]at p;exact e.cc j o (by rw[p];simp[PV.b3])
 refine⟨o,bQ e.h i (l e.nd.r),bQ e.G i (l e.nd.n),bQ e.ao i (l e.nd.p),e.ah.a8 i (l e.nd.g),e.am,?_,e.nd,e.cc,e.bV,λj z=>Yr (e.bn j z) i.aG,e.fin,e.bD,e.b9,?_,?_⟩
 .intro r A u y q;obtain⟨w,x⟩:=e.dp r A u y q;exact⟨w.a8 i λf k=>t f (mG q (Y8 k)),x.a8 i λf k=>t f (mG q (Ya k))⟩
 .have:=e.bm;grind [ai.sz]
 .have:=e.cn;grind
def eR(b:Zb)(d:Int)(a:ai):ai:=let c:=if 0<=bY a b then jg a (bY a b).toNat 0 d else a
 { c with ax:=c.ax+1 }
def eM(b:Zb)(c:Int)(a:ai):ai:=if 0<=bY a b then jg a (bY a b).toNat 1 c else a
def Lq{f}(m:bw d c h g a f b){e q l i j:Nat}(n:f.nv=.slice (some ⟨e,0,none⟩) q l)(r s:Zv):Fr d b ((b.setCell ⟨e,i,none⟩ r).setCell ⟨e,j,none⟩ s):=
 yz (((ar [e] b).a6 (p:=⟨e,i,none⟩) Zq _).a6 (p:=⟨e,j,none⟩) Zq _) λo k _=>by
  simp only[Yc]at k;exact m.bV o (Y8 (ki (by rw[n,k];rfl)))
def yk(w:bW d c h g a b)(e:Zb)(f:Int)(v:g<=1000000000):Calls prog 150 #[Zp c,Zs e,Y f] b (GP d c h g (eM e f a) (.tuple #[]) b):=by
 obtain⟨q,j⟩:=w;obtain⟨y,F,G,H,I,J,K,t,L,z,A,B,C,D,E,P,a1⟩:=j.K;have o:=U (sT j v e);by_cases l:0<=bY a e
 .have r:=vP l;obtain⟨N,M,p,-,a2,a3,-,a4,a5,R⟩:=uC j r;have n:af (eM e f a=jg a (bY a e).toNat 1 f):=Y9 l;have k:=U (Yp (j.k2 r p 1 f) (Lq (i:=(bY a e).toNat*4+1) (j:=(bY a e).toNat*4+2) j p (Y 1) (Y f)));rw[p]at t o;generalize S:bY a e=m at *
  obtain⟨m,rfl⟩:∃s:Nat,m=s:=⟨m.toNat,Zm⟩;simp only[Int.toNat_natCast]at *
  have a0:(m:Int)<(a.G.length:Int):=Zm;go_in;go_wp21;refine o.i.mono ?_;rintro u x ⟨rfl,rfl⟩;go_wp2;go_end0;rw[n.i];exact⟨rfl,⟨q,k.i.1⟩,k.i.2⟩
 .have n:af (eM e f a=a):=Y2 l;have O:¬(0<=bY a e):=l;have k:=U j;go_in;go_wp21;refine o.i.mono ?_;rintro u x ⟨rfl,rfl⟩;go_wp2;go_end0;rw[n.i];exact⟨rfl,⟨q,k.i⟩,oX ..⟩
def Bz{e}(f:bw d c h g a e b){i:Nat}(j:Zv):Fr d b (b.setCell ⟨c,i,none⟩ j):=f.fr ((ar [c] b).a6 (p:=⟨c,i,none⟩) Zq _)
def LW(y:bW d c h g a b)(e:Zb)(j:Int)(x:g<=1000000000):Calls prog 145 #[Zp c,Zs e,Y j] b (GP d c h (g+1) (eR e j a) (.tuple #[]) b):=by
 obtain⟨q,f⟩:=y;obtain⟨A,H,I,J,K,L,M,u,N,B,C,D,E,F,G,a3,a7⟩:=f.K;have n:=U (sT f x e);have w:=f.bm;have P:=f.cn.1;unfold ai.sz at w;have R:IntKind.i64.wrap (a.ax+1)=a.ax+1:=by rw[IntKind.wrap_i64];omega
 have a1:-9223372036854775808<=a.ax+1:=Zm;have a2:a.ax+1<=9223372036854775807:=Zm;by_cases o:0<=bY a e
 .have r:=vP o;obtain⟨S,O,p,-,a8,a9,-,b0,b1,a4⟩:=uC f r;have m:af (eR e j a = { jg a (bY a e).toNat 0 j with ax:=a.ax+1 }):=by
   show _=_;unfold eR;rw[Y9 o];rfl
  have t:=f.k2 r p 0 j;have k:=U (Yp t.k0 ((Lq (i:=(bY a e).toNat*4+1) (j:=(bY a e).toNat*4+2) f p (Y 0) (Y j)).u (Bz t (i:=13) (Y (a.ax+1)))));rw[p]at u n;generalize a5:bY a e=l at *
  obtain⟨l,rfl⟩:∃s:Nat,l=s:=⟨l.toNat,Zm⟩;simp only[Int.toNat_natCast]at *
  have a6:(l:Int)<(a.G.length:Int):=Zm;go_in;go_wp21;refine n.i.mono ?_;rintro v z ⟨rfl,rfl⟩;go_wp2;go_end0;rw[m.i];exact⟨rfl,⟨q,k.i.1⟩,k.i.2⟩
 .have m:af (eR e j a = { a with ax:=a.ax+1 }):=by
   show _=_;simp_all[eR,Y2]
  have a0:¬(0<=bY a e):=o;have k:=U (Yp f.k0 (Bz f (i:=13) (Y (a.ax+1))));go_in;go_wp21;refine n.i.mono ?_;rintro v z ⟨rfl,rfl⟩;go_wp2;go_end0;rw[m.i];exact⟨rfl,⟨q,k.i.1⟩,k.i.2⟩
def nL(b rH:Int)(a:ai):ai:=if a.s.e=0/\rH<=b then ch 5 a.s.x.y a else a
def aT(b rH:Int)(a:ai):ai:=nL b rH (if a.s.e=0/\a.s.x.w=5 then eu a else a)
def sV(v:bW d c h g a b)(f rH:Int):Calls prog 85 #[Zp c,Y f,Y rH] b (GP d c h g (aT f rH a) (.tuple #[]) b):=by
 by_cases N:a.s.e=0/\a.s.x.w=5
 .have q:af (aT f rH a=nL f rH (eu a)):=by show _=_;unfold aT;simp_all
  have E:=U (ub v);obtain⟨j,n⟩:=v;obtain⟨F,-,-,-,-,-,-,-,-,-,z,-,-,-,-,C,D⟩:=n.K;have B:(a.s.e==0)=true:=Zu;have I:((a.s.x.w:Int)==5)=true:=Zu;go_in;go_wp21;refine E.i.mono ?_;rintro A O ⟨rfl,⟨j,n⟩,L⟩;obtain⟨-,-,G,-,-,-,-,-,-,-,z,-,-,-,-,C,D⟩:=n.K;have l:=U n;have k:=U L;generalize eu a=m at *
  by_cases p:m.s.e=0
  .have t:(m.s.e==0)=true:=Zu;by_cases J:rH<=f
   .have i:af (aT f rH a=ch 5 m.s.x.y m):=by
     show _=_;rw[q.i];simp_all[nL]
    have r:=U (nK ⟨j,l.i⟩ 5 m.s.x.y);go_wp21;refine r.i.mono ?_;rintro A M ⟨rfl,w,u⟩;have o:=U (Yp w u);go_wp2;go_end0;rw[i.i];exact⟨rfl,o.i.1,k.i.u o.i.2⟩
   .have K:decide (rH<=f)=false:=Zu;have i:af (aT f rH a=m):=by
     show _=_;rw[q.i];simp_all[nL,Y2]
    go_wp2;go_end0;rw[i.i];exact⟨rfl,⟨j,l.i⟩,k.i⟩
  .have t:(m.s.e==0)=false:=Zu;have i:af (aT f rH a=m):=by
    show _=_;rw[q.i];simp_all[nL]
   first
    |exact absurd y.i p
    |(clear p;go_wp2;go_end0;rw[i.i];exact⟨rfl, ⟨j, l.i⟩, k.i⟩)
 .have q:af (aT f rH a=nL f rH a):=by show _=_;unfold aT;grind
  obtain⟨j,n⟩:=v;obtain⟨F,-,G,-,-,-,-,-,-,-,z,-,-,-,-,C,D⟩:=n.K;have l:=U n;have k:=U (oX d b);by_cases H:a.s.e=0
  .have B:(a.s.e==0)=true:=Zu;have I:((a.s.x.w:Int)==5)=false:=Zg;have y:=U H;go_in;by_cases p:a.s.e=0
   .have t:(a.s.e==0)=true:=Zm;by_cases J:rH<=f
    .have i:af (aT f rH a=ch 5 a.s.x.y a):=by
      simp_all[nL]
     have r:=U (nK ⟨j,l.i⟩ 5 a.s.x.y);go_wp21;refine r.i.mono ?_;rintro A M ⟨rfl,w,u⟩;have o:=U (Yp w u);go_wp2;go_end0;rw[i.i];exact⟨rfl,o.i.1,k.i.u o.i.2⟩
    .have K:decide (rH<=f)=false:=Zu;have i:af (aT f rH a=a):=by
      simp_all[nL]
     go_wp2;go_end0;rw[i.i];exact⟨rfl,⟨j,l.i⟩,k.i⟩
   .have t:(a.s.e==0)=false:=Zu;have i:af (aT f rH a=a):=by
     simp_all
    first
     |exact absurd y.i p
     |(clear p;go_wp2;go_end0;rw[i.i];exact⟨rfl, ⟨j, l.i⟩, k.i⟩)
  .have B:(a.s.e==0)=false:=Zu;have i:af (aT f rH a=a):=by
    simp_all[nL]
   go_in;go_wp2;go_end0;rw[i.i];exact⟨rfl,⟨j,l.i⟩,k.i⟩
end
section
variable {f g h i j k:Zv}
variable {d m : Nat -> Prop} {c l : Nat} {a : Zb} {b : ai} {w : Zw}
abbrev xY(w:Zw)(a:Nat)(f g h i j k:Zv):Zw:=(((((w.setCell ⟨a,0,none⟩ f).setCell ⟨a,1,none⟩ g).setCell ⟨a,2,none⟩ h).setCell ⟨a,3,none⟩ i).setCell ⟨a,4,none⟩ j).setCell ⟨a,5,none⟩ k
def FD(w:Zw)(a:Nat)(f g h i j k:Zv):ap [a] w (xY w a f g h i j k):=
 ((((((ar [a] w).a6 (p:=⟨a,0,none⟩) Zq f).a6 (p:=⟨a,1,none⟩) Zq g).a6 (p:=⟨a,2,none⟩) Zq h).a6 (p:=⟨a,3,none⟩) Zq i).a6 (p:=⟨a,4,none⟩) Zq j).a6 (p:=⟨a,5,none⟩) Zq k
def bW.hv{e}(m:bW d c a l b w)(n:d e):bW d c a l b (xY w e f g h i j k):=m.ae (FD w e f g h i j k) (by simpa using n)
def Fr.hv{b}{a:Nat}(c:Fr d b w)(l:b.heap.size<=a):Fr d b (xY w a f g h i j k):=c.c8 (FD w a f g h i j k) (λm e _=>by simp at e;omega)
abbrev oZ:Obj:=.cells #[Y 0,.string ⟨#[]⟩,Y 0,Y 0,Y 0,Y 0] 112
abbrev oW(a:ge):Obj:=.cells (hy a) 112
def LJ:(prog.info? 119).map (λa=>(a.zero,a.size,a.bytes))=some (some (.agg #[.string ⟨#[]⟩,Y 0,Y 0,Y 0]),4,40):=Zk
def bc(a:Zb)(c:Int)(b:ai):ge×ai:=
 if(dQ a b).2.s.e≠0 then dQ a b
 else if 0<=bY (dQ a b).2 (dQ a b).1.text then ((dQ a b).1,ch 6 (dQ a b).1.y (dQ a b).2)
 else ((dQ a b).1,{ (dQ a b).2 with G:=(dQ a b).2.G++[⟨(dQ a b).1.text,c,-1,(dQ a b).1.y⟩] })
def GW(d:Nat->Prop)(c:Nat)(a:Zb)(l:Nat)(b:ge×ai)(w:Zw)(f:Ending)(e:Zw):Prop:=f=.returned (.agg (hy b.1))/\bW d c a l b.2 e/\Fr d w e/\b.1.text.length<=2000
def Hc{b:Nat}(a:ge)(c:w.heap[b]?=some oZ):(xY w b (Y a.w) (Zs a.text) (Y a.y) (Y a.fin) (Y a.n) (Y a.e)).heap[b]?=some (oW a):=zW c
def ZH{a:Nat}{b}(i:w.heap[a]?=some (oW b)):(loadVar 112 ⟨a,0,none⟩).run prog w=.ok (.agg (hy b)) w:=by
 obtain⟨c,d,e,f,g,h,j,k⟩:=fs i;simp[go_sem,c,d,e,f,g,h]
def tn{c:Func}{Q:Ending->Zw->Prop}{a:Act}{R b:Nat}{x:ge}(i:c.results=#[.cell b 112])(e:a.tmps.getD b undef=Zp R)(g:a.defers=[])(d:w.heap[R]?=some (oW x))(h:Q (.returned (.agg (hy x))) w):bodyPost prog c Q .ret a w:=by
 refine bodyPost_ret (v:=.agg (hy x)) ?_ g h;have:=ZH d;unfold results;rw[i];obtain⟨j,k,l,m,n,o,p,q⟩:=fs d;have f:a.tmps[b]?.getD undef=Zp R:=by simpa using e
 simp[f,go_sem,j,k,l,m,n,o]
def xh(p:bW d c a l b w)(j:Int)(c5:l<=1000000000):Calls prog 142 #[Zp c,Y j] w (GW d c a (l+1) (bc a j b) w):=by
 have c1:=U (HW (p.A oZ));have g6:c<w.heap.size:=by obtain⟨c0,A⟩:=p;exact ay A.aw
 have b8:=U p;go_in;go_wp21;refine c1.i.mono ?_;rintro a6 g ⟨⟨rfl,b4,a0⟩,d3⟩;have a8:w.heap.size<g.heap.size:=Yr Zq a0.aG;have a4:g.heap[w.heap.size]?=some oZ:=((a0.ak _ Zq sD).trans (be rfl));obtain⟨i5,i6,i7,i8,i9,j0,j2,j4⟩:=fs a4;have L:=U a4;generalize D:dQ a b=d9 at *
 obtain⟨e,f⟩:=d9;simp only at *
 have O:=U ((((oX d w).A oZ).u a0.au));have a3:=U b4;obtain⟨c0,A⟩:=b4;obtain⟨e8,f5,f6,f7,f8,f9,g0,c2,g1,e9,f0,f1,f2,f3,f4,g5,g7⟩:=A.K;obtain⟨iE,y,r⟩:=aW A.G;rw[r]at c2;have h:=U A;have a2:=U r;have N:=U D;have M:=U d3;by_cases S:f.s.e=0
 .have b0:(f.s.e != 0)=false:=Zu;have G:=U (λE=>sT ((h.i.az ((ar [] g).A E)).az (ar [] _).ag) c5 e.text);rw[a2.i]at G;go_wp21;refine bJ (λu=>u.cell? (Zd c 8)=some (.slice iE f.G.length y)/\u.cell? (Zd g.heap.size 1)=some (Zs e.text)) ?_ λH=>?_
  .go_keep
  refine bf [0,1,2,3,4,5,6] ?_;iterate 7 (refine bi ?_)
  refine bg ?_;refine bI 7 λF i=>?_;(go_simp;refine(G.i _).mono ?_;rintro a6 h6 ⟨rfl,rfl⟩);refine i.out _ _ ?_ (λH=>?_)
  .go_keep
  refine nz ?_;refine bL λF i=>?_;go_simp;refine i.out _ _ ?_;refine nz ?_;have d6:=U (λE=>(a3.i.A E).ag);by_cases P:0<=bY f e.text
  .have v:af (bc a j b=(e,ch 6 e.y f)):=by
    show _=_;unfold bc;rw[N.i,Y2 Zu,Y9 P]
   have G:=U (λE=>nK (d6.i E) 6 e.y);go_wp21;refine(G.i _).mono ?_;rintro a6 b6 ⟨rfl,d7,a1⟩;have t:b6.heap[w.heap.size]?=some oZ:=(a1.ak _ Zx (Y8 sD)).trans ((Below.heap_alloc _ _ _ a8).trans L.i);have K:b6.heap[g.heap.size]?=some (oW e):=(a1.ak _ Zq sD).trans (be rfl);obtain⟨e0,e1,e2,e3,e4,e5,e6,e7⟩:=fs t;obtain⟨g8,g9,h0,h1,h2,h3,h4,h5⟩:=fs K;have Q:=U (Yp d7 (Yp ((O.i.A _).ag.u a1.au.au) t));go_wp2;refine tn (R:=w.heap.size) (x:=e) Zr Zr rfl (Hc e Q.i.2.2) ?_;rw[v.i];exact⟨rfl,(Q.i.1.hv (Y8 sD)).au.au.aS Zm,Q.i.2.1.hv (Y4 _),M.i⟩
  .have v:af (bc a j b=(e,{ f with G:=f.G++[⟨e.text,j,-1,e.y⟩] })):=by
    show _=_;unfold bc;rw[N.i,Y2 Zu,Y2 P]
   have g4:¬(0<=bY f e.text):=P;have r:=a2.i;have c4:=h.i.bm;unfold ai.sz at c4;have c6:(f.G.length+1)*40<=140737488355328:=Zm;have d1:∀b5∈nU ⟨e.text,j,-1,e.y⟩,b5.oneCell'=true:=by
    intro b5 b3;simp[nU]at b3;rcases b3 with rfl|rfl|rfl|rfl<;>rfl
   have c9:(Value.slice iE f.G.length y).ownBlock≠some c:=by rw[<-r];exact h.i.nd.n
   have d0:∀q,(Value.slice iE f.G.length y).ownBlock=some q->q<g.heap.size/\q≠w.heap.size:=λq b0=>⟨(lI h.i.G Zu).2,λS=>h.i.bV q (Y8 (ki Zu)) (by rw[S];exact sD)⟩;have d2:=U (r▸h.i.G);have m:=U (Yp r (Yp c9 d0));have x:=U (λd4 d5=>((((ar [] g).A d4).ag.A d5).ag));go_wp21;refine bJ (λu=>u.cell? (Zd c 8)=some (.slice iE f.G.length y)/\u.cell? (Zd g.heap.size 1)=some (Zs e.text)/\u.cell? (Zd g.heap.size 2)=some (Y e.y)) ?_ λH=>?_
   .go_keep
   refine bf [0,1,2,3,4,5,6,7,8,9,10,11] ?_;iterate 12 (refine bi ?_)
   refine bg ?_;refine bI 12 λF i=>?_;go_simp;refine i.out _ _ ?_ (λH=>?_)
   .go_keep
   refine nz ?_;refine bI 13 λF i=>?_;(refine mh (B:=g.heap.size+1) LJ underlying59 (bQ d2.i (x.i _ _) Zq) (nU ⟨e.text,j,-1,e.y⟩) (be (w:=(g.alloc _).drew) Zq) d1 c6 Zm (H:=g.heap.size+2) Zq ?_;intro a7 a5 k b2 C a9 c7;have I:=(h.i.az (x.i _ _)).h0 C m.i.2.1;have j1:k.cell? (Zd c 8)=some (.slice iE f.G.length y):=(by rw[<-m.i.1];exact aC I rfl);have j3:=bl I;have j5:=ay I;have t:k.heap[w.heap.size]?=some oZ:=((C.block _ Zx (λz=>(m.i.2.2 _ z.symm).2 rfl)).trans (((x.i _ _).ak _ a8 Zq).trans L.i));have K:k.heap[g.heap.size]?=some (oW e):=((C.block _ Zx (λz=>by have:=(m.i.2.2 _ z.symm).1;omega)).trans ((Below.heap_alloc _ _ _ Zq).trans (be rfl)));obtain⟨h7,h8,h9,i0,i1,i2,i3,i4⟩:=fs K;obtain⟨e0,e1,e2,e3,e4,e5,e6,e7⟩:=fs t;have o:=U (Yp C (Yp a9 (Yp b2 t)));clear C a9 b2 I t K);refine i.out _ _ ?_ (λH=>?_)
   .go_keep
   refine nz ?_;refine bf [14,15,16] ?_;iterate 3 (refine bi ?_)
   refine bg ?_;refine bL λF i=>?_;go_simp;refine i.out _ _ ?_;refine nz ?_;have b1:=o.i.1;rw[<-m.i.1]at b1;have b9:=U ((h.i.az (x.i _ _)).j3 (m:=⟨e.text,j,-1,e.y⟩) b1 o.i.2.2.1 (by rw[m.i.1];exact o.i.2.1.imp id (λz=>by rw[z];simp)) c7);have b7:af (Fr d w (k.setCell ⟨c,8,none⟩ (.slice (some ⟨a7,0,none⟩) (f.G.length+1) a5))):=by
    have c3:Fr d w k:=(O.i.c8 (x.i _ _) Zq).c8 (kV o.i.1) (λJ c8 D=>absurd (Y8 D) (h.i.bV J (Y8 (ki (by rw[m.i.1];grind)))));exact c3.c8 ((ar [c] k).a6 (p:=⟨c,8,none⟩) Zq _) (λJ c8 D=>absurd (Y8 D) (h.i.bV J (Y8 (by grind [PV.b3]))))
   have d8:af ((k.setCell ⟨c,8,none⟩ (.slice (some ⟨a7,0,none⟩) (f.G.length+1) a5)).heap[w.heap.size]?=some oZ):=U (((ar [c] k).a6 (p:=⟨c,8,none⟩) Zq _).ak _ (ay o.i.2.2.2) Zg |>.trans o.i.2.2.2);have g2:c≠g.heap.size:=Zm;have g3:c≠w.heap.size:=Zm;go_wp2;refine tn (R:=w.heap.size) (x:=e) Zr Zr rfl (Hc e d8.i) ?_;rw[v.i];exact⟨rfl,bW.au (b:=w.heap.size) (bW.hv ⟨_,b9.i⟩ sD),b7.i.hv (Y4 _),M.i⟩
 .have b0:(f.s.e != 0)=true:=Zu;have v:af (bc a j b=(e,f)):=by
   show _=_;unfold bc;rw[N.i,Y9 S]
  go_wp2;refine tn (R:=w.heap.size) (x:=e) Zr Zr rfl ((Below.heap_alloc _ _ _ Zu).trans (Hc e L.i)) ?_;rw[v.i];exact⟨rfl,(((a3.i.hv sD).A _).au.au).aS Zm,(O.i.hv (Y4 _)).A _,M.i⟩
end
section
variable {X h : Nat -> Prop} {c N N' : Nat} {t : Zb} {d g : ai} {w f w' : Zw}
abbrev eV(v:Zv)(a:List Int):Th:=.row 3 1 v a.length (a.map (Y))
abbrev cS(v:Zv)(a:Zc):Th:=.row 9 1 v a.length (a.map λb=>Zs b)
abbrev hx(v:Zv)(a:List cj):Th:=.row 288 5 v a.length (a.flatMap gG)
def jq(X:Nat->Prop)(b:List Th):Nat->Prop:=λa=>X a\/∃c∈b,c.aH=some a
def Th.At.fr{a:Th}(b:a.At w)(f:Fr X w w')(e:∀d,a.aH=some d->X d):a.At w':=by
 cases a with
 |obj c i=>exact(f.ak c (ay b) (e c rfl)).trans b
 |row g j v h k=>exact xI b f e
structure aY(X:Nat->Prop)(c:Nat)(t:Zb)(N:Nat)(d:ai)(L:List Th)(f w:Zw):Prop where
 aL:bW (jq X L) c t N d w
 fr:Fr X f w
 y:∀a∈L,a.At w
 bX:∀a∈L,∀b,a.aH=some b->¬X b
 cd:∀(i j:Nat) (a b:Th),i≠j->L[i]?=some a->L[j]?=some b->∀k,a.aH=some k->b.aH≠some k
theorem mz(b:bW X c t N d w):aY X c t N d [] w w:=⟨b.ca λf a=>by rcases a with a|⟨e,g,_⟩;all_goals grind,oX ..,Zq,Zq,Zq⟩
def aY.bn{b}(g:aY X c t N d b f w):∀a,X a->a<w.heap.size:=λa e=>g.aL.bn a (Y8 e)
def aY.call{a}(b:aY X c t N d a f w)(e:bW (jq X a) c t N' g w'/\Fr (jq X a) w w'):aY X c t N' g a f w':=
 ⟨e.1,b.fr.u (e.2.ca λ_ _=>Y8),λh i=>(b.y h i).fr e.2 λk j=>Ya ⟨h,i,j⟩,b.bX,b.cd⟩
def aY.ae{a}(e:aY X c t N d a f w)(b:ap [] w w'):aY X c t N d a f w':=e.call ⟨e.aL.ae b Zq,yz b Zq⟩
theorem aY.ag{a}(b:aY X c t N d a f w):aY X c t N d a f w.drew:=b.ae (ar [] w).ag
def aY.aS{b}(a:aY X c t N d b f w)(e:N<=N'):aY X c t N' d b f w:=⟨a.aL.aS e,a.fr,a.y,a.bX,a.cd⟩
def aY.A{n}(g:aY X c t N d n f w)(h:Obj):aY X c t N d (.obj w.heap.size h::n) f (w.alloc h):=by
 have r:ap [] w (w.alloc h):=(ar [] w).A h;refine⟨(g.aL.A h).ca ?_,g.fr.A h,?_,?_,?_⟩
 .intro i b;rcases b with b|⟨e,a,b⟩
  .exact Y8 (Y8 b)
  .rcases Yg.1 a with rfl|a
   .simp[Th.aH]at b;subst b;exact sD
   .exact Y8 (Ya ⟨e,a,b⟩)
 .intro e a;rcases Yg.1 a with rfl|a
  .exact be rfl
  .exact(g.y e a).ae r Zq
 .intro e a i b o;rcases Yg.1 a with rfl|a
  .simp[Th.aH]at b;subst b;exact absurd (g.bn _ o) Zm
  .exact g.bX e a i b o
 .intro m j e i p a b q k l;cases m with
  |zero=>
   cases j with
   |zero=>exact p rfl
   |succ j=>
    simp at a b;subst a;simp[Th.aH]at k;subst k;exact absurd ((g.y i (Yh b)).lt _ l) Zm
  |succ m=>
   cases j with
   |zero=>
    simp at a b;subst b;simp[Th.aH]at l;subst l;exact absurd ((g.y e (Yh a)).lt _ k) Zm
   |succ j=>exact g.cd m j e i Zm (by simpa using a) (by simpa using b) q k l
def aY.b6{r F}{i:Nat}{l a':Th}(g:aY X c t N d r f w)(s:r[i]?=some l)(u:ap F w w')(C:∀a∈F,l.aH=some a)(H:a'.At w')(v:∀a,a'.aH=some a->l.aH=some a\/w.heap.size<=a):aY X c t N d (r.set i a') f w':=by
 have E:=(YB.1 s).1;have z:=Yh s;have A:∀b∈r.set i a',b=a'\/∃k,k≠i/\r[k]?=some b:=by
  intro b e;obtain⟨k,j⟩:=List.getElem?_of_mem e;rw[YP]at j;split at j
  .simp[E]at j;exact Y8 j.symm
  .rename_i h;exact Ya ⟨k,λJ=>h J.symm,j⟩
 refine⟨g.aL.f3 u (λa n=>Ya ⟨l,z,C a n⟩) ?_ ?_,g.fr.c8 u (λa n o=>absurd o (g.bX l z a (C a n))),?_,?_,?_⟩
 .intro m D;rcases D with o|⟨b,e,p⟩
  .exact Y8 (Y8 o)
  .rcases A b e with rfl|⟨k,_,j⟩
   .rcases v m p with h|h
    .exact Y8 (Ya ⟨l,z,h⟩)
    .exact Ya h
   .exact Y8 (Ya ⟨b,Yh j,p⟩)
 .intro m D;rcases D with o|⟨b,e,p⟩
  .exact Yr (g.bn m o) u.aG
  .rcases A b e with rfl|⟨k,_,j⟩
   .exact H.lt m p
   .exact Yr ((g.y b (Yh j)).lt m p) u.aG
 .intro b e;rcases A b e with rfl|⟨k,M,j⟩
  .exact H
  .exact(g.y b (Yh j)).ae u λa n L=>g.cd k i b l M j s a n (C a L)
 .intro b e m p o;rcases A b e with rfl|⟨k,_,j⟩
  .rcases v m p with h|h
   .exact g.bX l z m h o
   .exact absurd (g.bn m o) Zm
  .exact g.bX b (Yh j) m p o
 .intro k I b B y e q a n x;rw[YP]at e q;split at e
  .rename_i G;subst G;simp[E]at e;subst e;rw[Y2 y]at q;rcases v a n with h|h
   .exact g.cd i I l B y s q a h x
   .exact absurd ((g.y B (Yh q)).lt a x) Zm
  .split at q
   .rename_i G K;subst K;simp[E]at q;subst q;rcases v a x with h|h
    .exact g.cd k i b l y e s a n h
    .exact absurd ((g.y b (Yh e)).lt a n) Zm
   .exact g.cd k I b B y e q a n x
def aY.au{h:List Th}{i:Th}(g:aY X c t N d (i::h) f w):aY X c t N d h f w:=by
 refine⟨g.aL.ca ?_,g.fr,λa b=>g.y a (Y5 _ b),λa b=>g.bX a (Y5 _ b),λl m a j o b k=>g.cd (l+1) (m+1) a j Zm (by simpa using b) (by simpa using k)⟩;intro n e;rcases e with e|⟨a,b,e⟩
 .exact Y8 e
 .exact Ya ⟨a,Y5 _ b,e⟩
theorem aY.fin{L}(a:aY X c t N d L f w):bW X c t N d w/\Fr X f w:=⟨a.aL.ca λ_=>Y8,a.fr⟩
theorem aY.dz{g}{i R:Nat}{y}(j:aY X c t N d g f w)(h:g[i]?=some (.obj R (oW y)))(a:ge):aY X c t N d (g.set i (.obj R (oW a))) f (xY w R (Y a.w) (Zs a.text) (Y a.y) (Y a.fin) (Y a.n) (Y a.e)):=
 j.b6 h (FD ..) (λk b=>by simp at b;rw[b];rfl) (zW (j.y _ (Yh h))) (λk b=>Y8 b)
def aY.K{a}{i R:Nat}{x}(g:aY X c t N d a f w)(b:a[i]?=some (.obj R (oW x))):w.cell? (Zd R 0)=some (Y x.w)/\w.cell? (Zd R 1)=some (Zs x.text)/\w.cell? (Zd R 2)=some (Y x.y)/\w.cell? (Zd R 3)=some (Y x.fin)/\w.cell? (Zd R 4)=some (Y x.n)/\w.cell? (Zd R 5)=some (Y x.e)/\(∀i,w.frozen? ⟨R,i,none⟩=false)/\R<w.heap.size:=fs (g.y _ (Yh b))
def xa{X:Nat->Prop}{c N N':Nat}{t:Zb}{d:ai}{a:List Th}{f w:Zw}{e:Nat}{args:Array Zv}{i:ge×ai}{Q:Ending->Zw->Prop}(h:af (aY X c t N d a f w))(j:bW (jq X a) c t N d w->Calls prog e args w (GW (jq X a) c t N' i w))
  (k:∀b g w',af (i=(b,g))->b.text.length<=2000->af (aY X c t N' g a f w')->Q (.returned (.agg (hy b))) w'):Calls prog e args w Q:=
 (j h.i.aL).mono λ_ w' ⟨l,o,m,n⟩=>l▸k _ _ w' (U rfl) n (U (h.i.call ⟨o,m⟩))
end
def bj{d:Nat->Prop}{c g h:Nat}{e:List UInt8}{l m:ai}{b:List Th}{k a:World}{i:Nat}{args:Array Value}{v:Value}{Q:Ending->World->Prop}
  (j:af (aY d c e g l b k a)) (n:bW (jq d b) c e g l a->Calls Tryz.prog i args a (GP (jq d b) c e h m v a))
  (o:∀f,af (aY d c e h m b k f)->Q (.returned v) f):Calls Tryz.prog i args a Q:=
 (n j.i.aL).mono λ_ f ⟨p,r,q⟩=>p▸o f (U (j.i.call ⟨r,q⟩))
section
variable {L : List Th} {c d e f g : Zw} {i : Nat} {a h : Th}
abbrev bA(L:List Th)(d c:Zw):Prop:=ey [] L d c
theorem rk(c:Zw):bA [] c c:=⟨ar [] c,Zq,Zq,Zq⟩
def ey.ae(b:bA L d c)(f:ap [] c e):bA L d e:=⟨b.fr.u f,λa g=>(b.y a g).ae f Zq,b.bX,b.cd⟩
theorem ey.ag(a:bA L d c):bA L d c.drew:=a.ae (ar [] c).ag
theorem ey.aq{b j f e}(h:bA L d c)(g:L[i]?=some (.obj b (.cells f e)))(v:Zv):bA (L.set i (.obj b (.cells (f.set! j v) e))) d (c.setCell ⟨b,j,none⟩ v):=
 h.b6 g ((ar [b] c).a6 (p:=⟨b,j,none⟩) Zq v) (λk a=>by simp at a;rw[a];rfl) (by have:=h.y _ (Yh g);exact ci this v) (λk a=>Y8 a)
def ey.aR{R o}(b:bA L d c)(a:L[i]?=some (.obj R o)):c.heap[R]?=some o:=b.y _ (Yh a)
def ey.bv(e:bA L d c)(b:L[i]?=some a):a.At c:=e.y _ (Yh b)
def ey.a4{b}{j w e a l k:Nat}{v x o}(u:bA L d c)(s:L[i]?=some (.row b j v w x))(n:ap [] c f)(t:g.ownsRow 0 b j (.slice (some ⟨a,0,none⟩) e l) e o)(h:f.grownBy g v.ownBlock)(q:v.ownBlock=some a\/a=k)(y:f.heap.size=k):bA (L.set i (.row b j (.slice (some ⟨a,0,none⟩) e l) e o)) d g:=by
 have z:=n.aG;refine(u.ae n).b6 s (kV h) (λa h=>by simpa[Th.aH]using h) t ?_;intro p r;have b:p=a:=by simpa[Th.aH,fS]using r.symm
 subst b;rcases q with m|m
 .exact Y8 m
 .right;omega
def ey.gU{b h e:Nat}{v a j}(q:bA L d c)(n:L[i]?=some (cS v a))(o:ap [] c f)(p:g.ownsRow 0 9 1 (.slice (some ⟨b,0,none⟩) (a.length+1) h) (a.length+1) ((a.map λr=>Zs r)++[Zs j]))(m:f.grownBy g v.ownBlock)(l:v.ownBlock=some b\/b=e)(k:f.heap.size=e):bA (L.set i (cS (.slice (some ⟨b,0,none⟩) (a.length+1) h) (a++[j]))) d g:=by
 have:=q.a4 n o p m l k;simpa[cS]using this
def ey.pw{e}(k:ey e L d c):L.Pairwise λa f=>∀b,a.aH=some b->f.aH≠some b:=List.pairwise_iff_getElem.2 λi j g h l=>k.cd i j _ _ Zm (Yd g) (Yd h)
def ey.gX{j h}(g:ey j L d c)(b:L.Perm h):ey j h d c:=by
 refine⟨g.fr,λa e=>g.y a (b.mem_iff.2 e),λa e=>g.bX a (b.mem_iff.2 e),λi o a v r e q f m n=>?_⟩;have p:=List.pairwise_iff_getElem.1 ((b.pairwise_iff λ{w x} t f u s=>t f s u).1 g.pw);obtain⟨k,rfl⟩:=YB.1 e;obtain⟨l,rfl⟩:=YB.1 q;rcases Nat.lt_or_gt_of_ne r with b|b
 .exact p i o k l b f m n
 .exact p o i l k b f n m
def ey.h9{a:Th}{L:List Th}(b:bA (a::L) d c):bA (L++[a]) d c:=b.gX (List.perm_append_singleton a L).symm
def JN{a:Th}{L:List Th}(b:bA (L++[a]) d c):bA L d c:=(b.gX (List.perm_append_singleton a L)).au
def ey.cons{a:Th}{L e}(k:bA L d c)(h:ap [] c e)(u:a.At e)(n:∀g,a.aH=some g->c.heap.size<=g):bA (a::L) d e:=by
 have s:∀(i:Nat) (f:Th),L[i]?=some f->∀g,f.aH=some g->g<c.heap.size:=λi f t g v=>(k.y f (Yh t)).lt _ v;refine⟨k.fr.u h,?_,?_,?_⟩
 .intro f b;rcases Yg.1 b with rfl|b
  .exact u
  .exact(k.y f b).ae h Zq
 .intro f b p r;rcases Yg.1 b with rfl|b
  .exact Yz k.fr.aG (n p r)
  .exact k.bX f b p r
 .intro i j f q w b l m h o;cases i with
  |zero=>
   cases j with
   |zero=>exact w rfl
   |succ j=>
    simp at b l;subst b;have:=s j q l m o;have:=n m h;omega
  |succ i=>
   cases j with
   |zero=>
    simp at b l;subst l;have:=s i f b m h;have:=n m o;omega
   |succ j=>exact k.cd i j f q Zm (by simpa using b) (by simpa using l) m h o
theorem ey.aX{a:Th}{L:List Th}(j:bA (a::L) d c)(i:Nat):bA (L.set i a) d c:=by
 have n:∀b,b∈L.set i a->b∈a::L:=λb g=>by
  rcases List.mem_or_eq_of_mem_set g with e|e
  .exact Y5 _ e
  .exact e▸Yb
 have m:∀(f:Nat) (b:Th),(L.set i a)[f]?=some b->∃h,(a::L)[h]?=some b/\((f=i/\h=0)\/(f≠i/\h=f+1)):=by
  intro f b e;rw[YP]at e;by_cases k:i=f
  .subst k;rw[Y9 rfl]at e;split at e
   .exact⟨0,by simpa using e,Y8 ⟨rfl,rfl⟩⟩
   .cases e
  .rw[Y2 k]at e;exact⟨f+1,by simpa using e,Ya ⟨λo=>k o.symm,rfl⟩⟩
 refine⟨j.fr,λb g=>j.y b (n b g),λb g=>j.bX b (n b g),?_⟩;intro f v b l z g s p t u;obtain⟨h,q,x⟩:=m f b g;obtain⟨w,r,y⟩:=m v l s;exact j.cd h w b l Zm q r p t u
def rI(c e:Zw):List Th:=(List.range (e.heap.size-c.heap.size)).map λa=>.obj (c.heap.size+a) (e.heap.getD (c.heap.size+a) (.map #[] 0))
def abo{c e:Zw}{a:Nat}{b}(f:c.heap.size<=a)(d:e.heap[a]?=some b):Th.obj a b∈rI c e:=by
 have:=ay d;refine YE.2 ⟨a-c.heap.size,List.mem_range.2 Zm,?_⟩;simp_all
def MU{c e}{i:Nat}{a}(b:(rI c e)[i]?=some a):∃g,a=.obj (c.heap.size+i) g/\e.heap[c.heap.size+i]?=some g:=by
 unfold rI at b;rw[List.getElem?_map]at b;cases f:(List.range (e.heap.size-c.heap.size))[i]? with
 |none=>simp_all
 |some j=>
  rw[f]at b;cases b
  obtain⟨h,d⟩:=YB.1 f;simp at h d;subst d;refine⟨_,rfl,?_⟩;rw[Array.getD_eq_getD_getElem?,Array.getElem?_eq_getElem Zm];rfl
def ey.ic{L e}(m:bA L d c)(o:ap [] c e):bA (L++rI c e) d e:=by
 have p:∀(i:Nat) (a:Th) (g:Nat),L[i]?=some a->a.aH=some g->g<c.heap.size:=λi a g h f=>(m.y a (Yh h)).lt _ f;have k:∀(i:Nat) (a:Th) (g:Nat),(rI c e)[i]?=some a->a.aH=some g->g=c.heap.size+i:=λi a g h f=>by
  obtain⟨t,rfl,_⟩:=MU h;simpa[Th.aH]using f.symm
 refine⟨m.fr.u o,λa b=>?_,λa b j f=>?_,λi s a j q b f g n l=>?_⟩
 .rcases Yn.1 b with b|b
  .exact(m.y a b).ae o Zq
  .obtain⟨i,h⟩:=List.getElem?_of_mem b;obtain⟨t,rfl,r⟩:=MU h;exact r
 .rcases Yn.1 b with b|b
  .exact m.bX a b j f
  .obtain⟨i,h⟩:=List.getElem?_of_mem b;have:=k i a j h f;have:=m.fr.aG;omega
 .rw[List.getElem?_append]at b f;split at b
  .split at f
   .exact m.cd i s a j q b f g n l
   .have:=p _ _ _ b n;have:=k _ _ _ f l;omega
  .have u:=k _ _ _ b n;split at f
   .have:=p _ _ _ f l;omega
   .have:=k _ _ _ f l;omega
end
section
variable {e:TypeId}{g:Array Zv}
section
variable {L F X : List Th} {d N : List Nat} {w c w' h k : Zw} {i : Nat} {a a' : Th}
def ey.nil(b:bA L c w)(a:TypeId)(d:Nat):bA (.row a d (.slice none 0 0) 0 []::L) c w:=b.cons (ar [] w) ⟨Zq,Y8 ⟨rfl,rfl⟩⟩ (by simp[Th.aH,Value.ownBlock])
def AU(b:F[i]?=some a):(F++X)[i]?=some a:=by
 rw[Ys (YB.1 b).1];exact b
def Ef(b:F[i]?=some a):(F++X).set i a'=F.set i a'++X:=List.set_append_left _ _ (YB.1 b).1
def fm(b:X[i]?=some a):(F++X)[F.length+i]?=some a:=by simpa[Yw]using b
def kR:(F++X).set (F.length+i) a=F++X.set i a:=by simp[List.set_append]
def ey.jL(k:ey d (F++X) c w)(e:F[i]?=some a)(j:ap N w w')(f:∀b∈N,a.aH=some b)(g:a'.At w')(h:∀b,a'.aH=some b->a.aH=some b\/w.heap.size<=b):ey d (F.set i a'++X) c w':=Ef (X:=X) e▸k.b6 (AU e) j f g h
def ey.gf(k:ey d (F++X) c w)(h:X[i]?=some a)(j:ap N w w')(e:∀b∈N,a.aH=some b)(f:a'.At w')(g:∀b,a'.aH=some b->a.aH=some b\/w.heap.size<=b):ey d (F++X.set i a') c w':=kR (F:=F)▸k.b6 (fm h) j e f g
def ey.b0(e:ey d (F++X) c w)(b:X[i]?=some a):a.At w:=e.y _ (Ym _ (Yh b))
def Gp{b o}(d:(Th.obj b o).At w)(c:Obj):ap [b] w (fg w b c)/\(∀a∈[b],(Th.obj b o).aH=some a)/\(Th.obj b c).At (fg w b c)/\∀a,(Th.obj b c).aH=some a->(Th.obj b o).aH=some a\/w.heap.size<=a:=
 ⟨pI ..,by simp[Th.aH],NF (ay d) _,λ_ d=>Y8 d⟩
def qz{b j:Nat}(c:(Th.obj b (.cells g e)).At w)(v:Zv):ap [b] w (w.setCell ⟨b,j,none⟩ v)/\(∀a∈[b],(Th.obj b (.cells g e)).aH=some a)/\(Th.obj b (.cells (g.set! j v) e)).At (w.setCell ⟨b,j,none⟩ v)/\∀a,(Th.obj b (.cells (g.set! j v) e)).aH=some a->(Th.obj b (.cells g e)).aH=some a\/w.heap.size<=a:=
 ⟨(ar [b] w).a6 (p:=⟨b,j,none⟩) Zq v,by simp[Th.aH],ci (i:=j) c v,λ_ c=>Y8 c⟩
def zH{c}{m e j:Nat}{v y g}(h:w.ownsRow 0 c m v e g)(f:g[j]?=some y):∃b a,v=.slice (some ⟨b,0,none⟩) e a/\e<=a/\w.cell? (Zd b j)=some y:=by
 obtain⟨d,⟨_,rfl⟩|⟨b,a,n,c,_,i,k,_,_,l⟩⟩:=h
 .have:=(YB.1 f).1;simp at d;simp[d]at this
 .exact⟨b,a,c,k,oK i (by rw[d];exact l) f⟩
def Gm(P:List Th->Prop)(c:Zw)(F:List Th)(w:Zw):Prop:=∃X,P X/\bA (F++X) c w
variable {P : List Th -> Prop} {l : List Th} {b : Nat} {o : Obj}
def Gm.fM(d:Gm P c F w)(f:∀X,bA (F++X) c w->bA (l++X) c w'):Gm P c l w':=by
 obtain⟨X,b,a⟩:=d;exact⟨X,b,f X a⟩
def Gm.ae(d:Gm P c F w)(a:ap [] w w'):Gm P c F w':=d.fM λ_ b=>b.ae a
def Gm.az(d:Gm P c F w)(a:Below w.heap.size w w'):Gm P c F w':=d.ae (ef [] a)
theorem Gm.ag(d:Gm P c F w):Gm P c F w.drew:=d.ae (ar [] w).ag
def Gm.cU(d:Gm P c F w)(o:Obj):Gm P c F (w.alloc o):=d.ae ((ar [] w).A o)
def Gm.A(d:Gm P c F w)(o:Obj):Gm P c (.obj w.heap.size o::F) (w.alloc o):=d.fM λ_ a=>a.A o
def Gm.au(d:Gm P c (a::F) w):Gm P c F w:=d.fM λ_ b=>b.au
def Gm.b6(d:Gm P c F w)(f:F[i]?=some a)(e:ap N w w'/\(∀b∈N,a.aH=some b)/\a'.At w'/\∀b,a'.aH=some b->a.aH=some b\/w.heap.size<=b):Gm P c (F.set i a') w':=d.fM λ_ g=>g.jL f e.1 e.2.1 e.2.2.1 e.2.2.2
def Gm.th(d:Gm P c F w)(b:F[i]?=some a):a.At w:=by
 obtain⟨_,_,e⟩:=d;exact e.y _ (Yf _ (Yh b))
def Gm.ob(d:Gm P c F w)(a:F[i]?=some (.obj b o)):w.heap[b]?=some o:=d.th a
theorem Gm.aq{j}(d:Gm P c F w)(a:F[i]?=some (.obj b (.cells g e)))(v:Zv):Gm P c (F.set i (.obj b (.cells (g.set! j v) e))) (w.setCell ⟨b,j,none⟩ v):=d.b6 a (qz (d.th a) v)
def Gm.a4{e}{f t b a j g:Nat}{v u m}{h k:Zw}(d:Gm P c F w)(l:F[i]?=some (.row e f v t u))(q:ap [] w h)(r:k.ownsRow 0 e f (.slice (some ⟨a,0,none⟩) b j) b m)(p:h.grownBy k v.ownBlock)(o:v.ownBlock=some a\/a=g)(n:h.heap.size=g):Gm P c (F.set i (.row e f (.slice (some ⟨a,0,none⟩) b j) b m)) k:=d.fM λX s=>Ef (X:=X) l▸s.a4 (AU l) q r p o n
def Gm.kp(d:Gm P c F w):ap [] c w:=by
 obtain⟨_,_,a⟩:=d;exact a.fr
def Gm.e8(d:Gm P c F w)(a:c.heap[b]?=some o):w.heap[b]?=some o:=(d.kp.ak _ (ay a) Zq).trans a
end
end
def gi(b:Zb)(a:ai):ai:={ a with i:=a.i++b }
def dk(a:Int):Zb:=(Lib.itoa a)
def hX(e:Zb)(d c b:Int)(a:ai):(Int×Int)×ai:=if b<d\/c<b then ((0,0),ch 8 a.s.x.y a)else ((b,a.s.x.y),bq e a)
def dw(a:ai):ig:=a.G.getD (bY a a.s.x.text).toNat iT
def bU(d:Zb)(c b:Int)(a:ai):(Int×Int)×ai:=
 if a.s.e≠0 then ((0,0),a)
 else if a.s.x.w=3 then hX d c b a.s.x.n a
 else if aM a 2 JF=true then hX d c b 1 a
 else if aM a 2 JC=true then hX d c b 0 a
 else if a.s.x.w=1 then
  if bY a a.s.x.text<0\/(dw a).a1≠0 then ((0,0),ch 7 a.s.x.y a)else hX d c b (dw a).n a
 else ((0,0),eu a)
def mw(b:Zb)(a:ai):(Int×Zb)×ai:=
 if aM a 2 Jq=true then ((3,JG),bq b a)
 else if aM a 2 Jk=true then ((1,Jb),bq b a)
 else ((1,Jb),a)
def rP(b:Zb)(a:Int):bt:=⟨14,0,-1,[],[],0,b,a⟩
def cW(b:Zb)(a:ai):(Int×Zb)×ai:=
 if a.s.e≠0 then ((0,[]),a)
 else if a.s.x.w=1 then (((bq b a).h.length,a.s.x.text),dm (rP a.s.x.text a.s.x.y) (bq b a))
 else if a.s.x.w=2/\a.s.x.text=Jk then ((0,Jk),bq b a)
 else if a.s.x.w=2/\a.s.x.text=Jq then ((2,Jq),bq b a)
 else if a.s.x.w=2/\a.s.x.text=Js then ((4,Js),bq b a)
 else if a.s.x.w=2/\a.s.x.text=Jb then mw b (bq b a)
 else ((0,[]),eu a)
def dC(a:Zb)(e:Bool)(d:ai):Int×ai:=
 if e=true then
  let b:=bU a 1 1000 (aj a 4 [91] d)
  (b.1.1,aj a 4 [93] b.2)
 else
  let c:=aj a 4 [60] d
  if aM c 4 [62]=true then (4294967295,aj a 4 [62] c)
  else
   let b:=bU a 0 4294967295 c
   (b.1.1,aj a 4 [62] b.2)
def cK(c:Zb)(b:Zc)(all:Bool)(d:ai):ge×ai:=
 let a:=dQ c d
 if a.2.s.e=0/\(if all=true then decide (0<=bY a.2 a.1.text)else b.contains a.1.text)=true then (a.1,ch 6 a.1.y a.2)else a
structure ni where
 r:Int
 d6:Zb
 eZ:Zb
 x:ge
def fV(a b:Int):bt:=⟨a,b,0,[],[],0,[],0⟩
def dd(a b c:Int):bt:=⟨a,b,c,[],[],0,[],0⟩
def kF(c:Zb)(e:Zc)(all f:Bool)(d:ai):ni×ai:=
 let b:=cK c e all (bq c d)
 if aM b.2 4 [91]=true/\f=true then
  let a:=dC c true b.2
  (⟨a.2.h.length,d.s.x.text++[32],[91]++dk a.1++[93],b.1⟩,dm (fV 6 a.1) a.2)
 else
  let a:=dC c false b.2
  (⟨a.2.h.length,d.s.x.text++[32],[60]++dk a.1++[62],b.1⟩,dm (fV (if aM d 2 Ju=true then 8 else 7) a.1) a.2)
def jd(d:Zb)(e:Zc)(all:Bool)(f:ai):ni×ai:=
 let b:=cW d f
 if aM b.2 4 [42]=true then
  let a:=cK d e all (bq d b.2)
  (⟨a.2.h.length,b.1.2++[32,42],[],a.1⟩,dm (dd 11 0 b.1.1) a.2)
 else
  let a:=cK d e all b.2
  if aM a.2 4 [91]=true then
   let c:=dC d true a.2
   (⟨c.2.h.length,b.1.2++[32],[91]++dk c.1++[93],a.1⟩,dm (dd 9 c.1 b.1.1) c.2)
  else if aM a.2 4 [60]=true then
   let c:=dC d false a.2
   (⟨c.2.h.length,b.1.2++[32],[60]++dk c.1++[62],a.1⟩,dm (dd 10 c.1 b.1.1) c.2)
  else (⟨b.1.1,b.1.2++[32],[],a.1⟩,a.2)
def dx(c:Zb)(b:Zc)(all:Bool)(a:ai):ni×ai:=
 if aM a 2 Jy=true\/aM a 2 Ju=true then kF c b all (aM a 2 Jy) a else jd c b all a
def iG(a:Zb)(d:ai):ai:=
 let b:=bc a 2 (aj a 2 Je (aT d.ax 40 d))
 let v:=bU a (-2147483648) 4294967295 (aj a 4 [61] b.2)
 let c:=aj a 4 [59] v.2
 if c.s.e≠0 then c else gi ([99,111,110,115,116,32]++b.1.text++JD++dk v.1.1++[59,10]) (eR b.1.text v.1.1 c)
def jh(b:Zb)(c:ai):ai:=
 let a:=dx b [] true (aj b 2 Ja c)
 if a.2.s.e≠0 then a.2
 else gi ([116,121,112,101,100,101,102,32]++a.1.d6++a.1.x.text++a.1.eZ++[59,10]) (aj b 4 [59] { a.2 with G:=a.2.G++[⟨a.1.x.text,1,a.1.r,a.1.x.y⟩] })
def eh(c:Zb):Nat->List Int->Zb->ai->Bool×List Int×Zb×ai
 |0,a,b,d=>(false,a,b,d)
 |k+1,a,b,d=>
  if d.s.e≠0 then (false,a,b,d)
  else
   let j:=aT a.length 12 d
   let f:=bc c 2 (aT j.ax 40 j)
   let v:=bU c (-2147483648) 2147483647 (aj c 4 [61] f.2)
   let g:=if v.2.s.e=0/\a.contains v.1.1=true then ch 6 v.1.2 v.2 else v.2
   if g.s.e≠0 then (true,a,b,g)
   else
    let h:=eR f.1.text v.1.1 g
    let i:=b++f.1.text++JD++dk v.1.1
    if aM h 4 [44]=true then eh c k (a++[v.1.1]) (i++[44,32]) (bq c h)else (false,a++[v.1.1],i,h)
def jS(a:Zb)(e:ai):ai:=
 let c:=bc a 2 (aj a 2 Jo e)
 let b:=eh a 13 [] (Jm++c.1.text++Jd) (aj a 4 Jv c.2)
 if b.1=true then b.2.2.2
 else
  let d:=aj a 4 [59] (aj a 4 Jl b.2.2.2)
  gi (b.2.2.1++[32,125,59,10]) (eM c.1.text d.h.length (dm ⟨5,0,0,b.2.1,[],0,[],0⟩ d))
def eU(f:Zb):Nat->List Int->Zc->Zb->ai->List Int×Zb×ai
 |0,b,_,d,c=>(b,d,c)
 |k+1,b,h,d,c=>
  if c.s.e≠0 then (b,d,c)
  else
   let a:=dx f h false (aT b.length 12 c)
   let g:=aj f 4 [59] a.2
   let i:=d++a.1.d6++a.1.x.text++a.1.eZ++[59,32]
   if aM g 4 Jl=true then (b++[a.1.r],i,g)else eU f k (b++[a.1.r]) (h++[a.1.x.text]) i g
def jG(a:Zb)(e:ai):ai:=
 let c:=bc a 2 (aj a 2 Jf e)
 let b:=eU a 14 [] [] (Jp++c.1.text++Jd) (aj a 4 Jv c.2)
 let d:=aj a 4 [59] (aj a 4 Jl b.2.2)
 gi (b.2.1++JB) (eM c.1.text d.h.length (dm ⟨12,0,0,[],b.1,0,[],0⟩ d))
def hY(b:ai)(a:Int):bt:=b.h.getD a.toNat bz
def cz(b:Zb)(a:ai):(Int×Zb)×ai:=
 if a.s.e=0/\a.s.x.w=1 then
  if bY a a.s.x.text<0\/(dw a).a1≠1\/(hY a (dw a).n).w≠5 then ((0,[]),ch 7 a.s.x.y a)
  else (((dw a).n,a.s.x.text),bq b a)
 else if a.s.e=0/\a.s.x.w=2/\(a.s.x.text=Jk\/a.s.x.text=Jb\/a.s.x.text=Js)then
  if a.s.x.text=Jk then ((0,Jk),bq b a)
  else if a.s.x.text=Js then ((4,Js),bq b a)
  else if aM (bq b a) 2 Jk=true then ((1,Jb),bq b (bq b a))
  else ((1,Jb),bq b a)
 else ((0,[]),eu a)
def dB(b:Zb)(c:Zc)(d:ai):(Int×Zb×Zc)×ai:=
 if aM d 2 Jt=true then ((-1,[118,111,105,100,59,32],c),aj b 4 [59] (bq b d))
 else
  let a:=dx b c false d
  ((a.1.r,a.1.d6++a.1.x.text++a.1.eZ++[59,32],c++[a.1.x.text]),aj b 4 [59] a.2)
def gQ(of:Int):Int:=if of=1\/of=4 then 0 else -2147483648
def gP(of:Int):Int:=if of=1 then 4294967295 else if of=4 then 1 else 2147483647
def di(d:Zb)(of:Int):Nat->List Int->Zb->ai->(List Int×Zb)×ai
 |0,a,c,b=>((a,c),b)
 |k+1,a,c,b=>
  if b.s.e≠0 then ((a,c),b)
  else
   let v:=bU d (gQ of) (gP of) (aj d 2 Jg (aT a.length 12 b))
   let f:=if v.2.s.e=0/\4<of/\(hY v.2 of).aI.contains v.1.1=false then ch 8 v.1.2 v.2 else v.2
   let i:=if f.s.e=0/\a.contains v.1.1=true then ch 6 v.1.2 f else f
   let g:=aj d 4 [58] i
   let h:=c++JA++dk v.1.1++[58,32]
   if aM g 2 Jg=true then di d of k (a++[v.1.1]) h g else ((a++[v.1.1],h),g)
def pC(b:Nat)(c:Int)(a:List Int):List Int:=a++List.replicate (b-a.length) c
def fo(i:Zb)(of:Int):Nat->List Int->List Int->Zc->Zb->ai->(List Int×List Int×Zc×Zb)×ai
 |0,c,h,f,g,d=>((c,h,f,g),d)
 |k+1,c,h,f,g,d=>
  if d.s.e≠0 then ((c,h,f,g),d)
  else
   let b:=di i of (14-c.length) c [] d
   let a:=dB i f b.2
   let l:=pC b.1.1.length a.1.1 h
   let j:=g++b.1.2++a.1.2.1
   if aM a.2 2 Jg=true then fo i of k b.1.1 l a.1.2.2 j a.2 else ((b.1.1,l,a.1.2.2,j),a.2)
def jw(b:Zb)(d:Zc)(c:ai):(Int×Zb)×ai:=
 if aM c 2 JL=true then
  let a:=dB b d (aj b 4 [58] (bq b c))
  ((a.1.1,JI++a.1.2.1),a.2)
 else ((-2,[]),c)
def ji(a:Zb)(h:ai):ai:=
 let f:=bc a 2 (aj a 2 Jh h)
 let c:=cz a (aj a 4 [40] (aj a 2 Jn f.2))
 let e:=dQ a c.2
 let i:=aj a 4 Jv (aj a 4 [41] e.2)
 let b:=fo a c.1.1 14 [] [] [e.1.text] (Jr++f.1.text++Ji++c.1.2++[32]++e.1.text++Jx) i
 let d:=jw a b.1.2.2.1 b.2
 let g:=aj a 4 [59] (aj a 4 Jl d.2)
 gi (b.1.2.2.2++d.1.2++JB) (eM f.1.text g.h.length (dm ⟨13,0,c.1.1,b.1.1,b.1.2.1,d.1.1,[],0⟩ g))
def gj(b:Zb)(a:ai):(Int×Zb)×ai:=if aM a 2 Jt=true then ((-1,Jt),bq b a)else cW b a
def cJ(a:Zb)(b:List Int)(c:ai):Int×ai:=
 let v:=bU a 0 4294967295 (aj a 4 [61] c)
 (v.1.1,aj a 4 [59] (if v.2.s.e=0/\b.contains v.1.1=true then ch 6 v.1.2 v.2 else v.2))
def hc(a:Zb):Nat->List cj->Zc->List Int->Zb->ai->(List cj×Zb)×ai
 |0,c,_,_,f,d=>((c,f),d)
 |k+1,c,n,l,f,d=>
  if d.s.e≠0 then ((c,f),d)
  else
   let i:=gj a (aT c.length 8 d)
   let h:=cK a n false i.2
   let g:=gj a (aj a 4 [40] h.2)
   let b:=cJ a l (aj a 4 [41] g.2)
   let m:=f++i.1.2++[32]++h.1.text++[40]++g.1.2++JH++dk b.1++[59,32]
   let j:=c++[⟨0,0,b.1,g.1.1,i.1.1⟩]
   if aM b.2 4 Jl=true then ((j,m),b.2)else hc a k j (n++[h.1.text]) (l++[b.1]) m b.2
structure yN where
 a5:Zb
 num:Int
 l:List cj
 i:Zb
def gb(a:Zb)(e:Zc)(f:List Int)(h:ai):yN×ai:=
 let d:=cK a e false (aj a 2 Jz h)
 let c:=hc a 10 [] [] [] (Jw++d.1.text++Jd) (aj a 4 Jv d.2)
 let b:=cJ a f (aj a 4 Jl c.2)
 (⟨d.1.text,b.1,c.1.1.map (λg=>{ g with et:=b.1 }),c.1.2++[125,32,61,32]++dk b.1++[59,32]⟩,b.2)
def ga(h:Zb):Nat->Zc->List Int->List cj->Zb->ai->(List cj×Zb)×ai
 |0,_,_,all,b,a=>((all,b),a)
 |k+1,f,c,all,b,a=>
  if a.s.e≠0 then ((all,b),a)
  else
   let v:=gb h f c (aT c.length 4 a)
   let d:=all++v.1.l
   let g:=b++v.1.i
   if aM v.2 4 Jl=true then ((d,g),v.2)else ga h k (f++[v.1.a5]) (c++[v.1.num]) d g v.2
def iV(b:Zb)(d:ai):ai:=
 let c:=bc b 2 (aj b 2 Jc (aT d.ah.length 4 d))
 let v:=ga b 6 [] [] [] (Jj++c.1.text++Jd) (aj b 4 Jv c.2)
 let e:=aj b 4 Jl v.2
 let a:=cJ b e.ah e
 gi (v.1.2++[125,32,61,32]++dk a.1++[59,10]) { a.2 with ah:=a.2.ah++[a.1],ao:=a.2.ao++v.1.1.map (λf=>{ f with prog:=a.1 }) }
def cH(b:Zb)(a:ai):ai:=
 if aM a 2 Je=true then iG b a
 else if aM a 2 Jc=true then iV b a
 else if a.s.x.w≠2\/(a.s.x.text≠Ja/\a.s.x.text≠Jo/\a.s.x.text≠Jf/\a.s.x.text≠Jh)then eu a
 else
  let d:=aT a.an 24 a
  let c:ai:={ d with an:=d.an+1 }
  if a.s.x.text=Ja then jh b c
  else if a.s.x.text=Jo then jS b c
  else if a.s.x.text=Jf then jG b c
  else ji b c
section
variable {g j : Nat -> Prop} {f h : Nat} {d : Zb} {a : ai} {c : Zw} {i : PV}
def GV(g:Nat->Prop)(f:Nat)(d:Zb)(h:Nat)(i:PV)(e:ai)(v:Zv)(c:Zw)(b:Ending)(a:Zw):Prop:=b=.returned v/\bw g f d h e i a/\Fr g c a
def Fc(b:bw g f d h a i c)(j e:Int):Calls prog 51 #[Zp f,Y j,Y e] c (GV g f d h i (ch j e a) (.tuple #[]) c):=by
 refine(Bt b.aw j e).mono ?_;rintro m n ⟨rfl,l,k⟩;exact⟨rfl,b.b6 (s:=⟨a.s.x,_,_⟩) l k b.fin b.bD,b.fr k⟩
def SL(b:bw g f d h a i c):Calls prog 84 #[Zp f] c (GV g f d h i (eu a) (.tuple #[]) c):=by
 refine(AV b.aw).mono ?_;rintro k l ⟨rfl,j,e⟩;exact⟨rfl,b.b6 (s:=oq a.s) j e b.fin b.bD,b.fr e⟩
def abr(b:bw g f d h a i c):Calls prog 47 #[Zp f] c (GV g f d h i (bq d a) (.tuple #[]) c):=by
 refine(Cn b.aw b.fin b.b9).mono ?_;rintro k l ⟨rfl,j,e⟩;exact⟨rfl,b.b6 (s:=wk d a.s) j e (Ck b.fin) (Cl b.b9),b.fr e⟩
def LR(k:bw g f d h a i c)(b:Nat)(e:Zb):Calls prog 81 #[Zp f,Y b,Zs e] c λj l=>j=.returned (.bool (aM a b e))/\l=c:=FC k.aw b e
def PT(b:bw g f d h a i c)(e:Nat)(j:Zb):Calls prog 141 #[Zp f,Y e,Zs j] c (GV g f d h i (aj d e j a) (.tuple #[]) c):=by
 refine(PS b.aw b.fin b.b9 e j).mono ?_;rintro n o ⟨rfl,m,k,l⟩;exact⟨rfl,b.b6 m k l (PQ b.b9 b.bD),b.fr k⟩
def bw.A(k:bw g f d h a i c)(e:Obj):bw (ad g c.heap.size) f d h a i (c.alloc e):=by
 refine k.f3 ((ar [] c).A e) Zq ?_ ?_
 .intro j b;rcases b with b|rfl;all_goals simp_all
 .intro j b;have l:(c.alloc e).heap.size=c.heap.size+1:=Zq;rcases b with b|rfl
  .have:=k.bn j b;omega
  omega
def bw.au{b}(j:bw (ad g b) f d h a i c):bw g f d h a i c:=j.f3 (ar [] c) Zq (λb e=>Y8 (Y8 e)) (λb e=>j.bn b (Y8 e))
def GN(g:Nat->Prop)(f:Nat)(d:Zb)(h:Nat)(i:PV)(a:(Int×Int)×ai)(c:Zw)(b:Ending)(e:Zw):Prop:=GV g f d h i a.2 (.tuple #[Y a.1.1,Y a.1.2]) c b e
def PL(F:bw g f d h a i c)(m p:Int)(a2:h<=1000000000):Calls prog 143 #[Zp f,Y m,Y p] c (GN g f d h i (bU d m p a) c):=by
 obtain⟨c3,c5,c6,c7,c8,c9,-,S,-,-,c4,-,-,-,-,d2,d6⟩:=F.K;have t:=U F;have b:af (bw (ad g c.heap.size) f d h a i (c.alloc (oW a.s.x))/\Fr g c (c.alloc (oW a.s.x))/\(c.alloc (oW a.s.x)).heap[c.heap.size]?=some (oW a.s.x)):=U ⟨F.A _,(oX g c).A _,be rfl⟩;clear F;by_cases w:a.s.e=0
 .have a3:(a.s.e != 0)=false:=by rw[w];rfl
  have j:af (bU d m p a=if a.s.x.w=3 then hX d m p a.s.x.n a else if aM a 2 JF then hX d m p 1 a else if aM a 2 JC then hX d m p 0 a else if a.s.x.w=1 then if bY a a.s.x.text<0\/(dw a).a1≠0 then ((0,0),ch 7 a.s.x.y a)else hX d m p (dw a).n a else ((0,0),eu a)):=by show _=_;unfold bU;rw[Y2 (by simpa using w)]
  clear w;go_in;go_wp21;refine(LR (t.i.A _) 2 JF).mono ?_;rintro r b2 ⟨rfl,rfl⟩;go_wp21;refine(LR (t.i.A _) 2 JC).mono ?_;rintro r b2 ⟨rfl,rfl⟩;go_upto_block 0 with fail;go_cut [9,10,11] (λv _ _ wc=>∃k:Int,v=Y k/\af (bU d m p a=hX d m p k a)/\af (bw (ad g c.heap.size) f d h a i wc/\Fr g c wc/\wc.heap[c.heap.size]?=some (oW a.s.x)));case first=>
   by_cases C:a.s.x.w=3
   .have a5:((a.s.x.w:Int)==3)=true:=by rw[C];rfl
    rw[Y9 C]at j;clear C;go_wp2;go_meet;case rel=>exact⟨_,rfl,j,b⟩
   have a5:((a.s.x.w:Int)==3)=false:=by rw[Yi];omega
   rw[Y2 C]at j;clear C;cases J:aM a 2 JF with
   |true=>
    rw[J]at j;go_wp2;go_meet;case rel=>exact⟨_,rfl,j,b⟩
   |false=>
    cases hF:aM a 2 JC with
    |true=>
     rw[J,hF]at j;go_wp2;go_meet;case rel=>exact⟨_,rfl,j,b⟩
    |false=>
     rw[J,hF]at j;simp only[Ye,if_false]at j
     by_cases B:a.s.x.w=1
     .have a4:((a.s.x.w:Int)==1)=true:=by rw[B];rfl
      obtain⟨iE,a0,N⟩:=aW t.i.G;have H:=U (λb1=>sT (t.i.az (((ar [] c).A b1).ag)) a2 a.s.x.text);rw[N]at H S;rw[Y9 B]at j;clear B;go_wp21;refine bJ (λP=>P.cell? (Zd f 8)=some (.slice iE a.G.length a0)/\P.cell? (Zd c.heap.size 1)=some (Zs a.s.x.text)) ?_ λa1=>?_
      .go_keep
      refine bf [0,1,2,3,4,5,6] ?_;iterate 7 (refine bi ?_)
      refine bg ?_;refine bI 7 λG D=>?_;(go_simp;refine(H.i _).mono ?_;rintro r e5 ⟨rfl,rfl⟩);refine D.out _ _ ?_ (λa1=>?_)
      .go_keep
      clear D G;refine nz ?_;refine bL λG D=>?_;go_simp;refine D.out _ _ ?_;clear D G;refine nz ?_;replace b:af (bw (ad g c.heap.size) f d h a i (c.alloc (oW a.s.x)).drew/\Fr g c (c.alloc (oW a.s.x)).drew/\(c.alloc (oW a.s.x)).drew.heap[c.heap.size]?=some (oW a.s.x)):=U ⟨b.i.1.az (ar [] _).ag,b.i.2.1.ag,b.i.2.2⟩;clear H;have L:=U (Fc b.i.1 7 a.s.x.y);by_cases I:bY a a.s.x.text<0
      .rw[Y9 (Y8 I)]at j;go_wp21;refine L.i.mono ?_;rintro r E ⟨rfl,o,l⟩;have q:=U (Yp o.au (b.i.2.1.u l.au));clear o l;go_wp2;go_ret2;rw[j.i];exact⟨rfl,q.i⟩
      .have a8:=vP (by omega:0<=bY a a.s.x.text);obtain⟨d1,d0,K,-,c1,c2,-,e6,e7,d3⟩:=uC t.i a8;rw[N]at K;simp at K;obtain⟨rfl,rfl⟩:=K;change c.cell? _=some (Y (dw a).a1)at c1;change c.cell? _=some (Y (dw a).n)at c2;generalize a7:bY a a.s.x.text=k at *
       obtain⟨k,rfl⟩:∃b0:Nat,k=b0:=⟨k.toNat,Zm⟩;simp only[Int.toNat_natCast]at *
       have d5:(k:Int)<(a.G.length:Int):=Zm;have d4:¬((k:Int)<0):=I;clear a7 I;by_cases z:(dw a).a1=0
       .rw[Y2 (by rintro(u|u);omega;exact u z)]at j;have a9:((dw a).a1 != 0)=false:=by rw[z];rfl
        clear z;go_wp2;go_meet;case rel=>exact⟨_,rfl,j,b⟩
       .rw[Y9 (Ya z)]at j;have a9:((dw a).a1 != 0)=true:=by simpa using z
        clear z;go_wp21;refine L.i.mono ?_;rintro r E ⟨rfl,o,l⟩;have q:=U (Yp o.au (b.i.2.1.u l.au));clear o l;go_wp2;go_ret2;rw[j.i];exact⟨rfl,q.i⟩
     .have a4:((a.s.x.w:Int)==1)=false:=by rw[Yi];omega
      rw[Y2 B]at j;clear B;go_wp21;refine(SL b.i.1).mono ?_;rintro r E ⟨rfl,o,l⟩;have q:=U (Yp o.au (b.i.2.1.u l.au));clear o l;go_wp2;go_ret2;rw[j.i];exact⟨rfl,q.i⟩
  case rest=>
   obtain⟨k,rfl,A,b⟩:=hcut;obtain⟨b3,b4,b5,b6,b7,b8,b9,c0⟩:=fs b.i.2.2;unfold hX at A;by_cases y:k<m\/p<k
   .rw[Y9 y]at A;rcases(by omega:k<m\/¬k<m/\p<k)with M|⟨M,a6⟩;all_goals
     clear y;go_wp21;refine(Fc b.i.1 8 a.s.x.y).mono ?_;rintro r E ⟨rfl,o,l⟩;have q:=U (Yp o.au (b.i.2.1.u l.au));clear o l;go_wp2;go_ret2;rw[A.i];exact⟨rfl,q.i⟩
   .rw[Y2 y]at A;have M:¬(k<m):=λu=>y (Y8 u);have a6:¬(p<k):=λu=>y (Ya u);clear y;go_wp21;refine(abr b.i.1).mono ?_;rintro r E ⟨rfl,o,l⟩;have O:E.heap[c.heap.size]?=some (oW a.s.x):=(l.ak _ (ay b.i.2.2) sD).trans b.i.2.2;obtain⟨d7,d8,d9,e0,e1,e2,e3,e4⟩:=fs O;have q:=U (Yp o.au (b.i.2.1.u l.au));clear o l O b3 b4 b5 b6 b7 b8 b9 c0;go_wp2;go_region;go_wp2;go_ret2;rw[A.i];exact⟨rfl,q.i.1.az (ar [] _).ag,q.i.2.ag⟩
 .have a3:(a.s.e != 0)=true:=by simpa using w
  have R:af (bU d m p a=((0,0),a)):=by show _=_;unfold bU;rw[Y9 w]
  clear w;go_in;go_wp2;go_ret2;rw[R.i];exact⟨rfl,t.i,oX ..⟩
end
section
variable {g j : Nat -> Prop} {f d : Nat} {b : Zb} {a : ai} {c : Zw} {h : PV}
def An(m:bW g f b d a c)(i e:Int)(k:d<=1000000000):Calls prog 143 #[Zp f,Y i,Y e] c (GP g f b d (bU b i e a).2 (.tuple #[Y (bU b i e a).1.1,Y (bU b i e a).1.2]) c):=by
 obtain⟨h,l⟩:=m;exact(PL l i e k).mono λn o j=>⟨j.1,⟨h,j.2.1⟩,j.2.2⟩
def zq(c:Zw):cO (.slice none 0 0) [] c:=⟨rfl,Y8 ⟨rfl,rfl⟩⟩
def Pd(c:Zw):pj (.slice none 0 0) [] c:=⟨rfl,Y8 ⟨rfl,rfl⟩⟩
def zR(l:bW g f b d a c)(e:bt)(j:e.aI=[])(k:e.aB=[])(i:d<=1000000000):Calls prog 46 #[Zp f,.agg #[Y e.w,Y e.n,Y e.of,.slice none 0 0,.slice none 0 0,Y e.dR,Zs e.a5,Y e.y]] c (GP g f b (d+1) (dm e a) (Y a.h.length) c):=
 Od l (λ_ h=>h) e (.slice none 0 0) (.slice none 0 0) (by rw[j];exact zq c) (by rw[k];exact zq c) (by grind [Value.ownBlock]) i
def LU(v:bW g f b d a c)(H:d<=1000000000):Calls prog 218 #[Zp f] c (GP g f b (d+1) (cW b a).2 (.tuple #[Y (cW b a).1.1,.string ⟨(cW b a).1.2.toArray⟩]) c):=by
 have r:=U (mz v);obtain⟨h,u⟩:=v;obtain⟨N,P,R,S,a0,a1,-,-,-,-,O,-,-,-,-,a2,a3⟩:=u.K;clear u;by_cases o:a.s.e=0
 .have I:(a.s.e != 0)=false:=Zu;have l:=U (r.i.A (oW a.s.x));by_cases q:a.s.x.w=1
  .have j:af (cW b a=((((bq b a).h.length:Int),a.s.x.text),dm (rP a.s.x.text a.s.x.y) (bq b a))):=by show _=_;simp_all[cW]
   have J:((a.s.x.w:Int)==1)=true:=Zu;clear q o;go_in;go_wp21;refine bj l (kE ·) λn k=>?_;obtain⟨y,z,A,B,C,D,E,F⟩:=k.i.K (i:=0) rfl;go_wp21;refine bj k (zR · (rP a.s.x.text a.s.x.y) rfl rfl H) λw m=>?_;clear y z A B C D E F;obtain⟨y,z,A,B,C,D,E,F⟩:=m.i.K (i:=0) rfl;go_wp2;go_region;go_wp2;go_ret2;rw[j.i];exact⟨rfl,m.i.ag.fin⟩
  .have J:((a.s.x.w:Int)==1)=false:=Zg;by_cases t:a.s.x.w=2
   .have K:((a.s.x.w:Int)==2)=true:=Zu;have M:af (cW b a=if a.s.x.text=Jk then ((0,Jk),bq b a)else if a.s.x.text=Jq then ((2,Jq),bq b a)else if a.s.x.text=Js then ((4,Js),bq b a)else if a.s.x.text=Jb then mw b (bq b a)else ((0,[]),eu a)):=by show _=_;simp_all[cW]
    clear q t o;cases a6:(a.s.x.text==Jk)with
    |true=>
     have j:af (cW b a=((0,Jk),bq b a)):=Zu;go_in;go_wp21;refine bj l (kE ·) λn k=>?_;go_wp2;go_ret2;rw[j.i];exact⟨rfl,(k.i.aS Zm).fin⟩
    |false=>
     cases a7:(a.s.x.text==Jq)with
     |true=>
      have j:af (cW b a=((2,Jq),bq b a)):=Zu;go_in;go_wp21;refine bj l (kE ·) λn k=>?_;go_wp2;go_ret2;rw[j.i];exact⟨rfl,(k.i.aS Zm).fin⟩
     |false=>
      cases a8:(a.s.x.text==Js)with
      |true=>
       have j:af (cW b a=((4,Js),bq b a)):=Zu;go_in;go_wp21;refine bj l (kE ·) λn k=>?_;go_wp2;go_ret2;rw[j.i];exact⟨rfl,(k.i.aS Zm).fin⟩
      |false=>
       cases a9:(a.s.x.text==Jb)with
       |true=>
        have p:af (cW b a=mw b (bq b a)):=Zg;go_in;go_wp21;refine bj l (kE ·) λn k=>?_;go_wp21;refine(jy k.i.aL 2 Jq).mono ?_;rintro G L ⟨rfl,rfl⟩;go_wp21;refine(jy k.i.aL 2 Jk).mono ?_;rintro G L ⟨rfl,rfl⟩;cases a4:aM (bq b a) 2 Jq with
        |true=>
         have j:af (cW b a=((3,JG),bq b (bq b a))):=by show _=_;rw[p.i];unfold mw;simp_all
         go_wp21;refine bj k (kE ·) λw m=>?_;go_wp2;go_ret2;rw[j.i];exact⟨rfl,(m.i.aS Zm).fin⟩
        |false=>
         cases a5:aM (bq b a) 2 Jk with
         |true=>
          have j:af (cW b a=((1,Jb),bq b (bq b a))):=by show _=_;rw[p.i];unfold mw;simp_all
          go_wp21;refine bj k (kE ·) λw m=>?_;go_wp2;go_ret2;rw[j.i];exact⟨rfl,(m.i.aS Zm).fin⟩
         |false=>
          have j:af (cW b a=((1,Jb),bq b a)):=by show _=_;rw[p.i];unfold mw;simp_all
          go_wp2;go_ret2;rw[j.i];exact⟨rfl,(k.i.aS Zm).fin⟩
       |false=>
        have j:af (cW b a=((0,[]),eu a)):=Zu;go_in;go_wp21;refine bj l (ub ·) λn k=>?_;go_wp2;go_ret2;rw[j.i];exact⟨rfl,(k.i.aS Zm).fin⟩
   .have K:((a.s.x.w:Int)==2)=false:=Zg;have j:af (cW b a=((0,[]),eu a)):=by show _=_;simp_all[cW]
    clear q t o;go_in;go_wp21;refine bj l (ub ·) λn k=>?_;go_wp2;go_ret2;rw[j.i];exact⟨rfl,(k.i.aS Zm).fin⟩
 .have I:(a.s.e != 0)=true:=Zu;have j:af (cW b a=((0,[]),a)):=by show _=_;unfold cW;simp_all
  clear o;go_in;go_wp2;go_ret2;rw[j.i];exact⟨rfl,(r.i.aS Zm).fin⟩
def Ta(q:bW g f b d a c)(j:Bool)(o:d<=1000000000):Calls prog 217 #[Zp f,.bool j] c (GP g f b d (dC b j a).2 (Y (dC b j a).1) c):=by
 have m:=U (mz q);clear q;cases j with
 |true=>
  have i:af (dC b true a=((bU b 1 1000 (aj b 4 [91] a)).1.1,aj b 4 [93] (bU b 1 1000 (aj b 4 [91] a)).2)):=Zr;go_in;go_wp21;refine bj m (ec · 4 [91]) λs e=>?_;go_wp21;refine bj e (An · 1 1000 o) λr h=>?_;go_wp21;refine bj h (ec · 4 [93]) λt l=>?_;go_wp2;go_ret;rw[i.i];exact⟨rfl,l.i.fin⟩
 |false=>
  go_in;go_wp21;refine bj m (ec · 4 [60]) λs e=>?_;go_wp21;refine(jy e.i.aL 4 [62]).mono ?_;rintro u w ⟨rfl,rfl⟩;generalize p:aj b 4 [60] a=k at *
  have n:=U p;clear p;cases v:aM k 4 [62]with
  |true=>
   have i:af (dC b false a=(4294967295,aj b 4 [62] k)):=by show _=_;unfold dC;rw[Y2 Zq,n.i];simp_all
   go_wp21;refine bj e (ec · 4 [62]) λr h=>?_;go_wp2;go_ret;rw[i.i];exact⟨rfl,h.i.fin⟩
  |false=>
   have i:af (dC b false a=((bU b 0 4294967295 k).1.1,aj b 4 [62] (bU b 0 4294967295 k).2)):=by show _=_;unfold dC;rw[Y2 Zq,n.i];grind
   go_wp21;refine bj e (An · 0 4294967295 o) λr h=>?_;go_wp21;refine bj h (ec · 4 [62]) λt l=>?_;go_wp2;go_ret;rw[i.i];exact⟨rfl,l.i.fin⟩
end
section
variable {g h : Nat -> Prop} {d c : Nat} {t : Zb} {b : ai} {a : Zw} {f : PV}
def bW.bD(h:bW g d t c b a):b.s.x.text.length<=2000:=by obtain⟨f,e⟩:=h;exact e.bD
def bW.bm(h:bW g d t c b a):b.sz<=c:=by obtain⟨f,e⟩:=h;exact e.bm
def bW.sp(i:bW g d t c b a):∃(f:PV) (iE:Option Addr) (e:Nat),bw g d t c b f a/\f.nv=.slice iE b.G.length e:=by
 obtain⟨f,h⟩:=i;obtain⟨j,k,l⟩:=aW h.G;grind
def ahE(h:bW g d t c b a):(dQ t b).1.text.length<=2000:=by obtain⟨f,e⟩:=h;exact(HV e.b9 e.bD).1
theorem aY.aX{f}{i R:Nat}{y k}(j:aY g d t c b f k a)(h:f[i]?=some (.obj R (oW y)))(x:ge):(xY a R (Y x.w) (Zs x.text) (Y x.y) (Y x.fin) (Y x.n) (Y x.e)).heap[R]?=some (oW x):=zW (j.y _ (Yh h))
def Cu(S:bW g d t c b a){v names}(b3:pj v names a)(b5:∀a5,v.ownBlock=some a5->g a5)(c7:names.length<=1000000)(all:Bool)(c2:c<=1000000000):Calls prog 216 #[Zp d,v,.bool all] a (GW g d t c (cK t names all b) a):=by
 have a1:=U ((mz S).A oZ);have o:=U (ahE S);clear S;go_in;go_wp21;refine(HW a1.i.aL).mono ?_;rintro a8 a0 ⟨⟨rfl,b6,P⟩,-⟩;have c4:af (pj v names a0):=U (xI (b3.a8 ((ar [] a).A oZ) Zq) P (λc1 c3=>Y8 (b5 c1 c3)));have a2:=U (a1.i.call ⟨b6,P⟩);clear b6 P b3 b5;generalize c5:dQ t b=c6 at *
 obtain⟨h,l⟩:=c6;simp only at a2 o;have j:=U (a2.i.A (oW h));have a3:af (cK t names all b=if l.s.e=0/\(if all=true then decide (0<=bY l h.text)else names.contains h.text)=true then (h,ch 6 h.y l)else (h,l)):=by show _=_;unfold cK;rw[c5]
 have a4:=U (WG ((c4.i.a8 ((ar [] a0).A (oW h)) Zq).bH) Zm h.text);go_wp21;refine a4.i.mono ?_;rintro a8 b8 ⟨rfl,b4⟩;rw[<-b4]at j;clear a4 b4;obtain⟨f,iE,c0,q,b2⟩:=j.i.aL.sp;have N:=U (sT (q.az (ar [] b8).ag) c2 h.text);rw[b2]at N;obtain⟨-,-,-,-,-,-,-,a7,-,-,a6,-,-,-,-,b0,b1⟩:=q.K;rw[b2]at a7;obtain⟨C,D,E,F,G,H,I,J⟩:=j.i.K (i:=0) rfl;obtain⟨r,u,w,x,y,z,A,B⟩:=j.i.K (i:=1) (R:=a.heap.size) (x:=dE) rfl;clear q;cases all with
 |true=>
  simp only[if_true]at a3
  go_wp21;refine bJ (λb7=>b7.cell? (Zd d 8)=some (.slice iE l.G.length c0)/\b7.cell? (Zd a0.heap.size 1)=some (Zs h.text)) ?_ λa9=>?_
  .go_keep
  refine bf [0,1,2,3,4,5,6] ?_;iterate 7 (refine bi ?_)
  refine bg ?_;refine bI 7 λM K=>?_;(go_simp;refine N.i.mono ?_;rintro a8 b9 ⟨rfl,rfl⟩);refine K.out _ _ ?_ (λa9=>?_)
  .go_keep
  clear K M;refine nz ?_;refine pN 8 ?_;refine bL λM K=>?_;go_simp;refine K.out _ _ ?_;clear K M;refine nz ?_;have m:=U j.i.ag;clear j N a9 C D E F G H I J r u w x y z A B a7 a6 b0 b1;generalize b8.drew=c8 at m ⊢;have j:=m;clear m;obtain⟨f,q⟩:=j.i.aL;obtain⟨-,-,-,-,-,-,-,-,-,-,a6,-,-,-,-,b0,b1⟩:=q.K;obtain⟨C,D,E,F,G,H,I,J⟩:=j.i.K (i:=0) rfl;obtain⟨r,u,w,x,y,z,A,B⟩:=j.i.K (i:=1) (R:=a.heap.size) (x:=dE) rfl;clear q;generalize decide (0<=bY l h.text)=k at *
  by_cases p:l.s.e=0
  .have O:(l.s.e==0)=true:=Zu;cases L:k with
   |true=>
    have n:af (cK t names true b=(h,ch 6 h.y l)):=Zu;clear p;subst L;go_wp21;refine bj j (nK · 6 h.y) λb9 m=>?_;clear C D E F G H I J r u w x y z A B;obtain⟨C,D,E,F,G,H,I,J⟩:=m.i.K (i:=0) rfl;obtain⟨r,u,w,x,y,z,A,B⟩:=m.i.K (i:=1) (R:=a.heap.size) (x:=dE) rfl;go_wp2;refine tn (R:=a.heap.size) (x:=h) Zr Zr rfl (m.i.aX (i:=1) (R:=a.heap.size) (y:=dE) rfl h) ?_;rw[n.i];exact⟨rfl,(m.i.dz (i:=1) (R:=a.heap.size) (y:=dE) rfl h).fin.1,(m.i.dz (i:=1) (R:=a.heap.size) (y:=dE) rfl h).fin.2,o.i⟩
   |false=>
    have n:af (cK t names true b=(h,l)):=Zu;clear p;subst L;go_wp2;refine tn (R:=a.heap.size) (x:=h) Zr Zr rfl (j.i.aX (i:=1) (R:=a.heap.size) (y:=dE) rfl h) ?_;rw[n.i];exact⟨rfl,(j.i.dz (i:=1) (R:=a.heap.size) (y:=dE) rfl h).fin.1,(j.i.dz (i:=1) (R:=a.heap.size) (y:=dE) rfl h).fin.2,o.i⟩
  .have O:(l.s.e==0)=false:=Zu;have n:af (cK t names true b=(h,l)):=Zu;clear p;go_wp2;refine tn (R:=a.heap.size) (x:=h) Zr Zr rfl (j.i.aX (i:=1) (R:=a.heap.size) (y:=dE) rfl h) ?_;rw[n.i];exact⟨rfl,(j.i.dz (i:=1) (R:=a.heap.size) (y:=dE) rfl h).fin.1,(j.i.dz (i:=1) (R:=a.heap.size) (y:=dE) rfl h).fin.2,o.i⟩
 |false=>
  simp only[Ye,if_false]at a3
  generalize names.contains h.text=k at *
  by_cases p:l.s.e=0
  .have O:(l.s.e==0)=true:=Zu;cases L:k with
   |true=>
    have n:af (cK t names false b=(h,ch 6 h.y l)):=Zu;clear p;subst L;go_wp21;refine bj j (nK · 6 h.y) λb9 m=>?_;clear C D E F G H I J r u w x y z A B;obtain⟨C,D,E,F,G,H,I,J⟩:=m.i.K (i:=0) rfl;obtain⟨r,u,w,x,y,z,A,B⟩:=m.i.K (i:=1) (R:=a.heap.size) (x:=dE) rfl;go_wp2;refine tn (R:=a.heap.size) (x:=h) Zr Zr rfl (m.i.aX (i:=1) (R:=a.heap.size) (y:=dE) rfl h) ?_;rw[n.i];exact⟨rfl,(m.i.dz (i:=1) (R:=a.heap.size) (y:=dE) rfl h).fin.1,(m.i.dz (i:=1) (R:=a.heap.size) (y:=dE) rfl h).fin.2,o.i⟩
   |false=>
    have n:af (cK t names false b=(h,l)):=Zu;clear p;subst L;go_wp2;refine tn (R:=a.heap.size) (x:=h) Zr Zr rfl (j.i.aX (i:=1) (R:=a.heap.size) (y:=dE) rfl h) ?_;rw[n.i];exact⟨rfl,(j.i.dz (i:=1) (R:=a.heap.size) (y:=dE) rfl h).fin.1,(j.i.dz (i:=1) (R:=a.heap.size) (y:=dE) rfl h).fin.2,o.i⟩
  .have O:(l.s.e==0)=false:=Zu;have n:af (cK t names false b=(h,l)):=Zu;clear p;go_wp2;refine tn (R:=a.heap.size) (x:=h) Zr Zr rfl (j.i.aX (i:=1) (R:=a.heap.size) (y:=dE) rfl h) ?_;rw[n.i];exact⟨rfl,(j.i.dz (i:=1) (R:=a.heap.size) (y:=dE) rfl h).fin.1,(j.i.dz (i:=1) (R:=a.heap.size) (y:=dE) rfl h).fin.2,o.i⟩
end
section
variable {e g : Nat -> Prop} {d c : Nat} {t : Zb} {a : ai} {b : Zw} {f : PV}
theorem CH(c b d:Int)(a:ai):(hX t c b d a).1.1=0\/(c<=(hX t c b d a).1.1/\(hX t c b d a).1.1<=b):=by
 unfold hX;grind
theorem Am(c b:Int)(a:ai):(bU t c b a).1.1=0\/(c<=(bU t c b a).1.1/\(bU t c b a).1.1<=b):=by
 unfold bU;split
 .exact Y8 rfl
 .split
  .exact CH ..
  .split
   .exact CH ..
   .split
    .exact CH ..
    .split
     .split
      .exact Y8 rfl
      .exact CH ..
     .exact Y8 rfl
def SZ(b:Bool)(a:ai):0<=(dC t b a).1/\(dC t b a).1<=4294967295:=by
 grind [dC,Am]
def uE(a:Int)(b:-10000000000<=a)(c:a<=10000000000):(dk a).length<=13:=by
 unfold dk Lib.itoa;split
 .have:=zf 10 a.natAbs Zm;grind
 .have:=zf 10 a.toNat Zm;omega
def Xx(f:bW e d t c a b):(cW t a).1.2.length<=2000:=by
 have:=f.bD;unfold cW mw;repeat' split
 all_goals simp
 omega
abbrev TZ(a:ni):Zv:=.tuple #[Y a.r,Zs a.d6,Zs a.eZ,.agg (hy a.x)]
def GD(e:Nat->Prop)(d:Nat)(t:Zb)(c:Nat)(a:ni×ai)(b:Zw)(g:Ending)(f:Zw):Prop:=g=.returned (TZ a.1)/\bW e d t c a.2 f/\Fr e b f/\a.1.d6.length<=2002/\a.1.eZ.length<=20/\a.1.x.text.length<=2000
def CJ{f:Func}{Q:Ending->Zw->Prop}{a:Act}{R i0 i1 i2 i3:Nat}{c d e:Zv}{x:ge}(m:f.results=#[.tmp i0,.tmp i1,.tmp i2,.cell i3 112])(u:a.tmps.getD i0 undef=c)(w:a.tmps.getD i1 undef=d)(y:a.tmps.getD i2 undef=e)(z:a.tmps.getD i3 undef=Zp R)(k:a.defers=[])(t:b.heap[R]?=some (oW x))(l:Q (.returned (.tuple #[c,d,e,.agg (hy x)])) b):bodyPost prog f Q .ret a b:=by
 refine bodyPost_ret (v:=.tuple #[c,d,e,.agg (hy x)]) ?_ k l;unfold results;rw[m];obtain⟨n,o,p,q,r,s,A,B⟩:=fs t;have g:a.tmps[i0]?.getD undef=c:=Zu;have h:a.tmps[i1]?.getD undef=d:=Zu;have i:a.tmps[i2]?.getD undef=e:=Zu;have j:a.tmps[i3]?.getD undef=Zp R:=Zu;simp[g,h,i,j,go_sem,n,o,p,q,r,s]
def aY.aR{f}{i R:Nat}{o j}(h:aY e d t c a f j b)(g:f[i]?=some (.obj R o)):b.heap[R]?=some o:=h.y _ (Yh g)
def LQ{d e}{b c:Zb}(f:aM a d b=true)(g:b≠c):aM a e c=false:=by
 grind [aM,kT]
def Vm{i}{all b j:Bool}{k:ge}{e c f:ai}{d h:Int}{g:Zb}(n:cW t a=((h,g),e))(r:aM e 4 [42]=false)(q:cK t i all e=(k,c))(p:aM c 4 [91]=b)(o:aM c 4 [60]=j)(m:dC t b c=(d,f))(l:(b||j)=true):jd t i all a=(⟨f.h.length,g++[32],(if b then [91]else [60])++dk d++(if b then [93]else [62]),k⟩,dm (dd (if b then 9 else 10) d h) f):=by
 grind [jd]
def abM{h}{all d e i b:Bool}{j:ge}{f g:ai}{c:Int}(n:aM a 2 Jy=d)(q:aM a 2 Ju=e)(p:cK t h all (bq t a)=(j,f))(o:aM f 4 [91]=i)(m:dC t b f=(c,g))(l:(d||e)=true)(k:(i&&d)=b):dx t h all a=(⟨g.h.length,a.s.x.text++[32],(if b then [91]else [60])++dk c++(if b then [93]else [62]),j⟩,dm (fV (if b then 6 else if e then 8 else 7) c) g):=by
 subst k;unfold dx;rw[Y9 Zu];grind [kF]
def JT{i l f}{Q:Ending->Zw->Prop}(k:af (aY e d t c a i l b))(o:c<=1000000000)(n:∀g m h,af (dC t f a=(g,m))->0<=g->g<=4294967295->af (aY e d t c m i l h)->Q (.returned (Y g)) h):Calls prog 217 #[Zp d,.bool f] b Q:=by
 have j:=SZ (t:=t) f a;refine(Ta k.i.aL f o).mono ?_;rintro r h ⟨rfl,q,p⟩;exact n _ _ _ (U rfl) j.1 j.2 (U (k.i.call ⟨q,p⟩))
def EP(a4:bW e d t c a b){v names}(c9:pj v names b)(d0:∀w,v.ownBlock=some w->e w)(a0:names.length<=1000000)(all:Bool)(e9:c+10<=1000000000):Calls prog 148 #[Zp d,v,.bool all] b (GD e d t (c+2) (dx t names all a) b):=by
 have c1:=U ((mz a4).A (oW dE));have p:=U (Yp c9 d0);have f2:=a4.bD;clear a4 c9 d0;go_in;go_wp21;refine(jy c1.i.aL 2 Jy).mono ?_;rintro B f3 ⟨rfl,z⟩;have C:=c1;rw[<-z]at C;clear z;go_wp21;refine(jy C.i.aL 2 Ju).mono ?_;rintro B d3 ⟨rfl,rfl⟩;have e1:¬(9223372036854775807<a.s.x.text.length+1):=Zm;have d4:=mQ a.s.x.text [32];obtain⟨f,c3⟩:=C.i.aL;obtain⟨-,c2,-,-,-,-,-,-,-,-,-,-,-,-,-,c4,c7⟩:=c3.K;clear c3;by_cases a2:(aM a 2 Jy||aM a 2 Ju)=true
 .rcases(show (aM a 2 Jy=true/\aM a 2 Ju=false)\/(aM a 2 Jy=false/\aM a 2 Ju=true) by
   cases q:aM a 2 Jy
   .simp_all
   .exact Y8 ⟨rfl,LQ q Ze⟩)with⟨q,J⟩|⟨q,J⟩
  all_goals
   rw[q,J];clear a2;go_wp21;refine bj C (kE ·) λe3 u=>?_;clear c2 c4 c7;go_wp21;refine xa u (Cu · (xI p.i.1 u.i.fr p.i.2) (λw I=>Y8 (p.i.2 w I)) a0 all Zm) λg j d1 E H D=>?_;have A:=U (D.i.A (oW g));go_wp21;refine(jy A.i.aL 4 [91]).mono ?_;rintro B e4 ⟨rfl,z⟩;have l:=A;rw[<-z]at l;clear z;cases x:aM j 4 [91]
   all_goals
    go_wp21;refine JT l Zm λr e8 e5 S d8 d9 M=>?_;have o:=U (abM q J E.i x S.i rfl rfl);go_wp21;refine(um r Zm Zm _).mono ?_;rintro B e6 ⟨rfl,K⟩;have N:=U (M.i.ae K);clear K;go_wp21;refine bj N (zR · (fV _ r) rfl rfl Zm) λd2 m=>?_;obtain⟨b3,b4,b5,b6,b7,b8,b9,c0⟩:=m.i.K (i:=0) rfl;obtain⟨a5,a6,a7,a8,a9,b0,b1,b2⟩:=m.i.K (i:=1) (R:=b.heap.size) (x:=dE) rfl;have a1:=uE r Zm Zm;unfold dk at a1 o;generalize Lib.itoa r=n at *
    have c5:=λk=>mQ k n;have d5:=λk=>mQ (k++n) [93];have d6:=λk=>mQ (k++n) [62];have c8:¬(9223372036854775807<1+n.length):=Zm;have e0:¬(9223372036854775807<1+n.length+1):=Zm;go_wp2;go_region;go_wp2;have h:=U ((m.i.dz (i:=1) (R:=b.heap.size) (y:=dE) rfl g).ag.aS (N':=c+2) Zm);refine CJ (i0:=6) (i1:=7) (i2:=8) (i3:=9) (R:=b.heap.size) (x:=g) rfl rfl rfl rfl rfl rfl (h.i.aR (i:=1) rfl) ?_;rw[o.i];exact⟨rfl,h.i.fin.1,h.i.fin.2,Zx,by simp;try omega,H⟩
 .obtain⟨q,J⟩:aM a 2 Jy=false/\aM a 2 Ju=false:=Zu;rw[q,J];clear c2 c4 c7 d4 e1;have O:af (dx t names all a=jd t names all a):=by show _=_;simp_all[dx]
  have d7:=Xx C.i.aL;go_wp21;refine bj C (LU · Zm) λe3 u=>?_;generalize c6:cW t a=e2 at *
  obtain⟨⟨L,F⟩,e7⟩:=e2;have P:=U c6;simp only at u d7;clear c6;go_wp21;refine(jy u.i.aL 4 [42]).mono ?_;rintro B d3 ⟨rfl,rfl⟩;cases a3:aM e7 4 [42]with
  |true=>
   go_wp21;refine bj u (kE ·) λd1 D=>?_;go_wp21;refine xa D (Cu · (xI p.i.1 D.i.fr p.i.2) (λw I=>Y8 (p.i.2 w I)) a0 all Zm) λg j f4 E H A=>?_;have l:=U (A.i.A (oW g));go_wp21;refine bj l (zR · (dd 11 0 L) rfl rfl Zm) λd2 m=>?_;obtain⟨b3,b4,b5,b6,b7,b8,b9,c0⟩:=m.i.K (i:=0) rfl;obtain⟨a5,a6,a7,a8,a9,b0,b1,b2⟩:=m.i.K (i:=1) (R:=b.heap.size) (x:=dE) rfl;have c5:=mQ F [32,42];have c8:¬(9223372036854775807<F.length+2):=Zm;have o:af (dx t names all a=(⟨j.h.length,F++[32,42],[],g⟩,dm (dd 11 0 L) j)):=by
    show _=_;rw[O.i];unfold jd;simp only[P.i,E.i,a3];simp
   go_wp2;go_region;go_wp2;have h:=U ((m.i.dz (i:=1) (R:=b.heap.size) (y:=dE) rfl g).ag.aS (N':=c+2) Zm);refine CJ (i0:=6) (i1:=7) (i2:=8) (i3:=9) (R:=b.heap.size) (x:=g) rfl rfl rfl rfl rfl rfl (h.i.aR (i:=1) rfl) ?_;rw[o.i];exact⟨rfl,h.i.fin.1,h.i.fin.2,Zu,by simp;try omega,H⟩
  |false=>
   go_wp21;refine xa u (Cu · (xI p.i.1 u.i.fr p.i.2) (λw I=>Y8 (p.i.2 w I)) a0 all Zm) λg j d1 E H D=>?_;have A:=U (D.i.A (oW g));go_wp21;refine(jy A.i.aL 4 [91]).mono ?_;rintro B e4 ⟨rfl,z⟩;have l:=A;rw[<-z]at l;clear z;go_wp21;refine(jy l.i.aL 4 [60]).mono ?_;rintro B d3 ⟨rfl,rfl⟩;have c5:=mQ F [32];have c8:¬(9223372036854775807<F.length+1):=Zm;by_cases a2:(aM j 4 [91]||aM j 4 [60])=true
   .rcases(show (aM j 4 [91]=true/\aM j 4 [60]=false)\/(aM j 4 [91]=false/\aM j 4 [60]=true) by
     cases q:aM j 4 [91]
     .simp_all
     .exact Y8 ⟨rfl,LQ q Ze⟩)with⟨x,G⟩|⟨x,G⟩
    all_goals
     rw[x,G];clear a2;go_wp21;refine JT l Zm λr e8 e5 S d8 d9 M=>?_;have o:=U (O.i.trans (Vm P.i a3 E.i x G S.i rfl));go_wp21;refine(um r Zm Zm _).mono ?_;rintro B e6 ⟨rfl,K⟩;have N:=U (M.i.ae K);clear K;go_wp21;refine bj N (zR · (dd _ r L) rfl rfl Zm) λd2 m=>?_;obtain⟨b3,b4,b5,b6,b7,b8,b9,c0⟩:=m.i.K (i:=0) rfl;obtain⟨a5,a6,a7,a8,a9,b0,b1,b2⟩:=m.i.K (i:=1) (R:=b.heap.size) (x:=dE) rfl;have a1:=uE r Zm Zm;unfold dk at a1 o;generalize Lib.itoa r=n at *
     have f0:=λk=>mQ k n;have d5:=λk=>mQ (k++n) [93];have d6:=λk=>mQ (k++n) [62];have e0:¬(9223372036854775807<1+n.length):=Zm;have f1:¬(9223372036854775807<1+n.length+1):=Zm;go_wp2;go_region;go_wp2;have h:=U ((m.i.dz (i:=1) (R:=b.heap.size) (y:=dE) rfl g).ag.aS (N':=c+2) Zm);refine CJ (i0:=6) (i1:=7) (i2:=8) (i3:=9) (R:=b.heap.size) (x:=g) rfl rfl rfl rfl rfl rfl (h.i.aR (i:=1) rfl) ?_;rw[o.i];exact⟨rfl,h.i.fin.1,h.i.fin.2,Zx,by simp;try omega,H⟩
   .obtain⟨x,G⟩:aM j 4 [91]=false/\aM j 4 [60]=false:=Zu;rw[x,G];obtain⟨b3,b4,b5,b6,b7,b8,b9,c0⟩:=l.i.K (i:=0) rfl;obtain⟨a5,a6,a7,a8,a9,b0,b1,b2⟩:=l.i.K (i:=1) (R:=b.heap.size) (x:=dE) rfl;have o:af (dx t names all a=(⟨L,F++[32],[],g⟩,j)):=by
     show _=_;rw[O.i];unfold jd;simp only[P.i,E.i,a3,x,G];simp
    go_wp2;go_region;go_wp2;have h:=U ((l.i.dz (i:=1) (R:=b.heap.size) (y:=dE) rfl g).ag.aS (N':=c+2) Zm);refine CJ (i0:=6) (i1:=7) (i2:=8) (i3:=9) (R:=b.heap.size) (x:=g) rfl rfl rfl rfl rfl rfl (h.i.aR (i:=1) rfl) ?_;rw[o.i];exact⟨rfl,h.i.fin.1,h.i.fin.2,Zg,by simp;try omega,H⟩
end
section
variable {g j : Nat -> Prop} {a f : Nat} {t : Zb} {b : ai} {d h : Zw} {c : PV}
def bw.gV{u:Nat}{σ':ai}{r:Zw}(e:bw g a t f b c d)(o:r.heap[a]?=some (qD t σ'.s (vE c σ')))(i:ap [a] d r)(m:σ'.h=b.h)(A:σ'.G=b.G)(B:σ'.ao=b.ao)(C:σ'.ah=b.ah)(E:σ'.s.x.fin<=t.length)(H:σ'.s.x.text.length<=2000)(G:σ'.sz<=u)(D:0<=σ'.ax/\0<=σ'.an):bw g a t u σ' c r:=by
 have l:∀{v:Zv},v.ownBlock≠some a->∀h,v.ownBlock=some h->h ∉ [a]:=λM h k p=>by
  simp_all
 have w:∀j,j∈c.a8->j ∉ [a]:=λj o p=>by
  simp only[Yc]at p;exact e.cc j o (by rw[p];simp[PV.b3])
 refine⟨o,m▸bQ e.h i (l e.nd.r),A▸bQ e.G i (l e.nd.n),B▸bQ e.ao i (l e.nd.p),C▸e.ah.a8 i (l e.nd.g),m▸e.am,?_,e.nd,e.cc,e.bV,λj I=>Yr (e.bn j I) i.aG,E,H,e.b9,G,D⟩;intro J L K F q;obtain⟨y,z⟩:=e.dp J L K (m▸F) q;exact⟨y.a8 i λh k=>w h (mG q (Y8 k)),z.a8 i λh k=>w h (mG q (Ya k))⟩
def bw.gd{h:Za}{s:Zb}{K:Nat}(e:bw g a t f b c d)(j:h=⟨(b.i++s).toArray⟩)(k:s.length<=K):bw g a t (f+K) (gi s b) c (d.setCell ⟨a,10,none⟩ (.string h)):=by
 subst j;refine e.gV (σ':=gi s b) (ci (i:=10) e.aw _) ((ar [a] d).a6 (p:=⟨a,10,none⟩) Zq _) rfl rfl rfl rfl e.fin e.bD ?_ e.cn;have:=e.bm;grind [ai.sz,gi]
def aY.gd{i}{e:Za}{s:Zb}{K:Nat}(k:aY g a t f b i h d)(l:e=⟨(b.i++s).toArray⟩)(m:s.length<=K):aY g a t (f+K) (gi s b) i h (d.setCell ⟨a,10,none⟩ (.string e)):=by
 obtain⟨c,j⟩:=k.aL;exact k.call ⟨⟨c,j.gd l m⟩,Bz j _⟩
def jr{a b:Za}(c:a.data.toList=b.data.toList):a=b:=by
 cases a<;>simp_all
def TQ(R:bW g a t f b d)(d0:f+10000<=1000000000):Calls prog 82 #[Zp a] d (GP g a t (f+10000) (iG t b) (.tuple #[]) d):=by
 have a1:=U (mz R);obtain⟨c,k⟩:=R;obtain⟨z,G,H,I,J,K,L,M,N,A,B,C,D,E,F,O,P⟩:=k.K;go_in;go_wp21;refine bj a1 (sV · b.ax 40) λd7 a2=>?_;go_wp21;refine bj a2 (ec · 2 Je) λd8 a3=>?_;go_wp21;refine xa a3 (xh · 2 Zm) λh a0 b7 y d6 a4=>?_;have a5:=U (a4.i.A (oW h));go_wp21;refine bj a5 (ec · 4 [61]) λd9 a6=>?_;go_wp21;refine bj a6 (An · (-2147483648) 4294967295 Zm) λe0 u=>?_;have b4:=Am (t:=t) (-2147483648) 4294967295 (aj t 4 [61] a0);generalize b3:bU t (-2147483648) 4294967295 (aj t 4 [61] a0)=b6 at *
 obtain⟨⟨j,c7⟩,c6⟩:=b6;have x:=U b3;simp only at u b4;go_wp21;refine bj u (ec · 4 [59]) λe1 p=>?_;generalize a9:aj t 4 [59] c6=l at *
 have w:=U a9;obtain⟨c,k⟩:=p.i.aL;obtain⟨z,G,H,I,J,K,L,M,N,A,B,C,D,E,F,O,P⟩:=k.K;by_cases o:l.s.e=0
 .have b1:(l.s.e != 0)=false:=by rw[o];rfl
  have n:af (iG t b=gi ([99,111,110,115,116,32]++h.text++JD++dk j++[59,10]) (eR h.text j l)):=by
   show _=_;unfold iG;simp only[y.i,x.i,w.i,o];simp
  go_wp21;refine(um j Zm Zm _).mono ?_;rintro c8 e2 ⟨rfl,b5⟩;have v:=U (p.i.ae b5);obtain⟨b8,b9,c0,c1,c2,c3,c4,c5⟩:=v.i.K (i:=0) rfl;go_wp21;refine bj v (LW · h.text j Zm) λe3 q=>?_;obtain⟨b8,b9,c0,c1,c2,c3,c4,c5⟩:=q.i.K (i:=0) rfl;obtain⟨c,k⟩:=q.i.aL;obtain⟨z,G,H,I,J,K,L,M,N,A,B,C,D,E,F,O,P⟩:=k.K;have a8:=k.bm;unfold ai.sz at a8;have b2:=uE j Zm Zm;unfold dk at b2 n;generalize Lib.itoa j=r at *
  generalize eR h.text j l=m at *
  have d1:¬(9223372036854775807<m.i.length+6):=Zm;have d2:¬(9223372036854775807<m.i.length+6+h.text.length):=Zm;have d3:¬(9223372036854775807<m.i.length+6+h.text.length+3):=Zm;have d4:¬(9223372036854775807<m.i.length+6+h.text.length+3+r.length):=Zm;have d5:¬(9223372036854775807<m.i.length+6+h.text.length+3+r.length+2):=Zm;go_wp2;refine bJ (λS=>S.cell? (Zd a 10)=some (Zs m.i)/\S.cell? (Zd b7.heap.size 1)=some (Zs h.text)) ?_ λc9=>?_
  .go_keep
  refine bf [0,1,2,3,4,5,6,7,8,9,10,11,12,13,14,15,16] ?_;iterate 17 (refine bi ?_)
  refine bg ?_;refine bL λa7 b0=>?_;go_simp;refine b0.out _ _ ?_;refine nz ?_;go_end0;rw[n.i];exact⟨rfl,((q.i.gd (K:=5000) (s:=[99,111,110,115,116,32]++h.text++JD++r++[59,10]) (jr Zq) Zx).ag.aS Zm).fin⟩
 .have b1:(l.s.e != 0)=true:=by simpa using o
  have n:af (iG t b=l):=by
   show _=_;unfold iG;simp only[y.i,x.i,w.i];rw[Y9 o]
  go_wp2;go_end0;rw[n.i];exact⟨rfl,(p.i.aS Zm).fin⟩
end
section
variable {d g : Nat -> Prop} {a e : Nat} {b : Zb} {c : ai} {w h : Zw} {f : PV}
def agX(p:bW d a b e c w)(f9:e+10000<=1000000000):Calls prog 86 #[Zp a] w (GP d a b (e+10000) (jh b c) (.tuple #[]) w):=by
 have c9:=U (mz p);go_in;go_wp21;refine bj c9 (ec · 2 Ja) λg6 a1=>?_;go_wp21;refine(EP a1.i.aL (names:=[]) (Pd _) (by grind [Value.ownBlock]) Zq true Zm).mono ?_;rintro f8 k ⟨rfl,e9,e4,e5,e6,e7⟩;have L:=U (a1.i.call ⟨e9,e4⟩);generalize e2:dx b [] true (aj b 2 Ja c)=f0 at *
 obtain⟨⟨z,q,E,g⟩,h⟩:=f0;have d1:=U e2;simp only at L e5 e6 e7;have v:=U (L.i.A (oW g));obtain⟨f,j⟩:=L.i.aL;obtain⟨a3,b0,b1,b2,b3,b4,b5,O,b6,a4,a5,a6,a7,a8,a9,c3,d6⟩:=j.K;by_cases c2:h.s.e=0
 .have c1:(h.s.e != 0)=false:=Zu;have N:af (jh b c=gi ([116,121,112,101,100,101,102,32]++q++g.text++E++[59,10]) (aj b 4 [59] { h with G:=h.G++[⟨g.text,1,z,g.y⟩] })):=by
   grind [jh,af.i]
  go_wp2;generalize d4:k.alloc (oW g)=l at *
  obtain⟨f,iE,F,j,I⟩:=v.i.aL.sp;obtain⟨a3,b0,b1,b2,b3,b4,b5,O,b6,a4,a5,a6,a7,a8,a9,c3,g0⟩:=j.K;rw[I]at O;obtain⟨f1,f2,f3,f4,f5,f6,f7,c8⟩:=v.i.K (i:=0) rfl;have P:=j.bm;unfold ai.sz at P;have d5:(h.G.length+1)*40<=140737488355328:=Zm;have e1:∀c7∈nU ⟨g.text,1,z,g.y⟩,c7.oneCell'=true:=by
   intro c7 c6;simp[nU]at c6;rcases c6 with rfl|rfl|rfl|rfl<;>rfl
  have d9:(Value.slice iE h.G.length F).ownBlock≠some a:=by rw[<-I];exact j.nd.n
  have e0:∀y,(Value.slice iE h.G.length F).ownBlock=some y->y<l.heap.size/\y≠k.heap.size:=λy c1=>⟨(lI j.G Zu).2,λc2=>j.bV y (Y8 (ki Zu)) (by rw[c2];exact Ya ⟨_,Yb,rfl⟩)⟩;have e3:=U (I▸j.G);have o:=U (Yp I (Yp d9 e0));have x:=U (λe8=>(((ar [] l).A e8).ag));have C:=U j;refine bJ (λr=>r.cell? (Zd a 8)=some (.slice iE h.G.length F)/\r.cell? (Zd k.heap.size 1)=some (Zs g.text)/\r.cell? (Zd k.heap.size 2)=some (Y g.y)) ?_ λR=>?_
  .go_keep
  refine bf [0,1,2,3,4,5,6,7,8,9,10,11] ?_;iterate 12 (refine bi ?_)
  refine bg ?_;refine bI 12 λD m=>?_;go_simp;refine m.out _ _ ?_ (λR=>?_)
  .go_keep
  refine nz ?_;refine bI 13 λD m=>?_;(refine mh (B:=l.heap.size) LJ underlying59 (bQ e3.i (x.i _) Zq) (nU ⟨g.text,1,z,g.y⟩) (be (w:=l) Zq) e1 d5 Zm (H:=l.heap.size+1) Zq ?_;intro b9 b7 t c5 G c0 d7;have J:=(C.i.az (x.i _)).h0 G o.i.2.1;have h7:t.cell? (Zd a 8)=some (.slice iE h.G.length F):=(by rw[<-o.i.1];exact aC J rfl);have h8:=bl J;have h9:=ay J;have a0:t.heap[k.heap.size]?=some (oW g):=((G.block _ Zx (λb8=>(o.i.2.2 _ b8.symm).2 rfl)).trans (((x.i _).ak _ c8 Zq).trans (v.i.aR (i:=0) rfl)));obtain⟨g9,h0,h1,h2,h3,h4,h5,h6⟩:=fs a0;have A:=U (Yp G (Yp c0 (Yp c5 a0)));clear G c0 c5 J a0);refine m.out _ _ ?_ (λR=>?_)
  .go_keep
  refine nz ?_;refine bf [14,15,16] ?_;iterate 3 (refine bi ?_)
  refine bg ?_;refine bL λD m=>?_;go_simp;refine m.out _ _ ?_;refine nz ?_;have c4:=A.i.1;rw[<-o.i.1]at c4;have d2:=U ((C.i.az (x.i _)).j3 (m:=⟨g.text,1,z,g.y⟩) c4 A.i.2.2.1 (by rw[o.i.1];exact A.i.2.1.imp id (λb8=>by simp_all)) d7);have d0:af (Fr (jq d [.obj k.heap.size (oW g)]) l (t.setCell ⟨a,8,none⟩ (.slice (some ⟨b9,0,none⟩) (h.G.length+1) b7))):=by
   have d3:Fr (jq d [.obj k.heap.size (oW g)]) l t:=((oX _ l).c8 (x.i _) Zq).c8 (kV A.i.1) (λK d8 S=>absurd S (C.i.bV K (Y8 (ki (by rw[o.i.1];simp_all)))));exact d3.c8 ((ar [a] t).a6 (p:=⟨a,8,none⟩) Zq _) (λK d8 S=>absurd S (C.i.bV K (Y8 (by grind [PV.b3]))))
  have a2:=U (v.i.call ⟨⟨_,d2.i⟩,d0.i⟩);generalize d4:t.setCell ⟨a,8,none⟩ (.slice (some ⟨b9,0,none⟩) (h.G.length+1) b7)=g7 at a2 ⊢;go_wp21;refine bj a2 (ec · 4 [59]) λg8 M=>?_;generalize aj b 4 [59] { h with G:=h.G++[⟨g.text,1,z,g.y⟩] } = u at *
  obtain⟨f1,f2,f3,f4,f5,f6,f7,c8⟩:=M.i.K (i:=0) rfl;obtain⟨f,j⟩:=M.i.aL;obtain⟨a3,b0,b1,b2,b3,b4,b5,O,b6,a4,a5,a6,a7,a8,a9,c3,d6⟩:=j.K;have P:=j.bm;unfold ai.sz at P;have g1:¬(9223372036854775807<u.i.length+8):=Zm;have g2:¬(9223372036854775807<u.i.length+8+q.length):=Zm;have g3:¬(9223372036854775807<u.i.length+8+q.length+g.text.length):=Zm;have g4:¬(9223372036854775807<u.i.length+8+q.length+g.text.length+E.length):=Zm;have g5:¬(9223372036854775807<u.i.length+8+q.length+g.text.length+E.length+2):=Zm;go_wp2;refine bJ (λr=>r.cell? (Zd a 10)=some (Zs u.i)/\r.cell? (Zd k.heap.size 1)=some (Zs g.text)) ?_ λR=>?_
  .go_keep
  refine bf [0,1,2,3,4,5,6,7,8,9,10,11,12,13,14,15,16,17] ?_;iterate 18 (refine bi ?_)
  refine bg ?_;refine bL λD m=>?_;go_simp;refine m.out _ _ ?_;refine nz ?_;go_end0;rw[N.i];exact⟨rfl,((M.i.gd (K:=5000) (s:=[116,121,112,101,100,101,102,32]++q++g.text++E++[59,10]) (jr Zq) Zx).ag.aS Zm).fin⟩
 .have c1:(h.s.e != 0)=true:=Zu;have N:af (jh b c=h):=by
   show _=_;unfold jh;simp only[d1.i];simp_all
  go_wp2;go_end0;rw[N.i];exact⟨rfl,(v.i.aS Zm).fin⟩
end
section
variable {X p : Nat -> Prop} {e g l : Nat} {c : Zb} {d n : ai} {f j m h k : Zw} {o : PV} {b : List Th} {i : Nat} {a a' : Th}
def BV{b:List Th}{i a:Nat}{c}(e:a≠i)(d:b[a]?=some c):c∈b.eraseIdx i:=List.mem_eraseIdx_iff_getElem?.2 ⟨a,e,d⟩
def aY.f4(o:aY X e c g d b j f)(n:b[i]?=some a):aY (jq X (b.eraseIdx i)) e c g d [a] f f:=by
 refine⟨o.aL.ca ?_,oX ..,?_,?_,?_⟩
 .rintro p (h|⟨l,k,h⟩)
  .rcases h with h|⟨l,k,h⟩
   .exact Y8 h
   .exact Ya ⟨l,List.mem_of_mem_eraseIdx k,h⟩
  .simp at k;subst k;exact Ya ⟨l,Yh n,h⟩
 .intro l k;simp at k;subst k;exact o.y l (Yh n)
 .intro l k p h m;simp at k;subst k;rcases m with m|⟨r,q,m⟩
  .exact o.bX l (Yh n) p h m
  .obtain⟨u,t,q⟩:=List.mem_eraseIdx_iff_getElem?.1 q;exact o.cd i u l r (λs=>t s.symm) n q p h m
 grind
def aY.c8(y:aY X e c g d b j f)(I:b[i]?=some a)(p:aY (jq X (b.eraseIdx i)) e c l n [a'] f m):aY X e c l n (b.set i a') j m:=by
 have K:=(YB.1 I).1;have s:a'∈[a']:=Zq;have D:∀(o:Nat) (h:Th),(b.set i a')[o]?=some h->(o=i/\h=a')\/(o≠i/\b[o]?=some h):=by
  grind
 have C:∀h∈b.set i a',h=a'\/∃o,o≠i/\b[o]?=some h:=by
  grind [List.getElem?_of_mem]
 refine⟨p.aL.ca ?_,y.fr.u (p.fr.ca λ_ _ x=>Y8 x),?_,?_,?_⟩
 .rintro z (q|⟨h,k,q⟩)
  .exact Y8 (Y8 q)
  .rcases C h k with rfl|⟨o,w,k⟩
   .exact Ya ⟨h,s,q⟩
   .exact Y8 (Ya ⟨h,BV w k,q⟩)
 .intro h k;rcases C h k with rfl|⟨o,w,k⟩
  .exact p.y h s
  .exact(y.y h (Yh k)).fr p.fr λu t=>Ya ⟨h,BV w k,t⟩
 .intro h k z q x;rcases C h k with rfl|⟨o,w,k⟩
  .exact p.bX h s z q (Y8 x)
  .exact y.bX h (Yh k) z q x
 .intro o E h r J k G u t B;rcases D o h k with⟨rfl,rfl⟩|⟨H,F⟩
  .rcases D E r G with⟨v,_⟩|⟨v,A⟩
   .omega
   .exact p.bX h s u t (Ya ⟨r,BV v A,B⟩)
  .rcases D E r G with⟨v,rfl⟩|⟨v,A⟩
   .exact p.bX r s u B (Ya ⟨h,BV H F,t⟩)
   .exact y.cd o E h r J F A u t B
def aY.a4{l}{o B m a q p:Nat}{v C t}(A:aY X e c g d b j f)(y:b[i]?=some (.row l o v B C))(s:ap [] f h)(z:k.ownsRow 0 l o (.slice (some ⟨a,0,none⟩) m q) m t)(n:h.grownBy k v.ownBlock)(w:v.ownBlock=some a\/a=p)(D:h.heap.size=p):aY X e c g d (b.set i (.row l o (.slice (some ⟨a,0,none⟩) m q) m t)) j k:=by
 have E:=s.aG;refine(A.ae s).b6 y (kV n) (λa n=>by simpa[Th.aH]using n) z ?_;intro u x;have l:u=a:=by simpa[Th.aH,fS]using x.symm
 subst l;rcases w with r|r
 .exact Y8 r
 omega
def aY.hR{l n m:Nat}{v a o}(w:aY X e c g d b j f)(s:b[i]?=some (eV v a))(t:ap [] f h)(u:k.ownsRow 0 3 1 (.slice (some ⟨l,0,none⟩) (a.length+1) n) (a.length+1) (a.map (Y)++[Y o]))(r:h.grownBy k v.ownBlock)(q:v.ownBlock=some l\/l=m)(p:h.heap.size=m):aY X e c g d (b.set i (eV (.slice (some ⟨l,0,none⟩) (a.length+1) n) (a++[o]))) j k:=by
 have:=w.a4 s t u r q p;grind
def aY.gU{l n m:Nat}{v a o}(w:aY X e c g d b j f)(s:b[i]?=some (cS v a))(t:ap [] f h)(u:k.ownsRow 0 9 1 (.slice (some ⟨l,0,none⟩) (a.length+1) n) (a.length+1) ((a.map λx=>Zs x)++[Zs o]))(r:h.grownBy k v.ownBlock)(q:v.ownBlock=some l\/l=m)(p:h.heap.size=m):aY X e c g d (b.set i (cS (.slice (some ⟨l,0,none⟩) (a.length+1) n) (a++[o]))) j k:=by
 have:=w.a4 s t u r q p;grind
def us:(prog.info? 3).map (λi=>(i.zero,i.size,i.bytes))=some (some (Y 0),1,8):=Zk
def ut:(prog.info? 9).map (λi=>(i.zero,i.size,i.bytes))=some (some (.string ⟨#[]⟩),1,16):=Zk
def Ot(l:bW X e c g d f)(j:g<=1000000000):Calls prog 215 #[Zp e] f (GP X e c (g+1) (gj c d).2 (.tuple #[Y (gj c d).1.1,.string ⟨(gj c d).1.2.toArray⟩]) f):=by
 have a:=U (mz l);go_in;go_wp21;refine(jy a.i.aL 2 Jt).mono ?_;rintro m q ⟨rfl,rfl⟩;cases o:aM d 2 Jt with
 |true=>
  have i:af (gj c d=((-1,Jt),bq c d)):=by show _=_;unfold gj;simp_all
  go_wp21;refine bj a (kE ·) λh b=>?_;go_wp2;go_ret2;rw[i.i];exact⟨rfl,(b.i.aS Zm).fin⟩
 |false=>
  have i:af (gj c d=cW c d):=by show _=_;simp_all[gj]
  go_wp21;refine bj a (LU · j) λh b=>?_;generalize cW c d=k at *
  obtain⟨⟨p,n⟩,r⟩:=k;go_wp2;go_ret2;rw[i.i];exact⟨rfl,b.i.fin⟩
end
section
variable {h p : Nat -> Prop} {g f m : Nat} {d : Zb} {k s : ai} {w l b r c : Zw} {o : PV} {j : List Th} {i : Nat} {a q : Th}
def aY.bv(c:aY h g d f k j l w)(b:j[i]?=some a):a.At w:=c.y _ (Yh b)
def wZ{b}(d:j[i]?=some a)(c:a.aH=some b):jq h j b:=Ya ⟨a,Yh d,c⟩
def adb{b:Func}{Q:Ending->Zw->Prop}{a:Act}{R i0 i1:Nat}{v0:Zv}{x:ge}(i:b.results=#[.tmp i0,.cell i1 112])(c:a.tmps.getD i0 undef=v0)(e:a.tmps.getD i1 undef=Zp R)(g:a.defers=[])(p:w.heap[R]?=some (oW x))(h:Q (.returned (.tuple #[v0,.agg (hy x)])) w):bodyPost prog b Q .ret a w:=by
 refine bodyPost_ret (v:=.tuple #[v0,.agg (hy x)]) ?_ g h;unfold results;rw[i];obtain⟨j,k,l,m,n,o,q,r⟩:=fs p;have d:a.tmps[i0]?.getD undef=v0:=by simpa using c
 have f:a.tmps[i1]?.getD undef=Zp R:=by simpa using e
 simp[d,f,go_sem,j,k,l,m,n,o]
def QV(h:Nat->Prop)(g:Nat)(d:Zb)(f:Nat)(i:Zc)(a:ge×ai)(w:Zw)(e:Ending)(b:Zw):Prop:=∃c,e=.returned (.tuple #[c,.agg (hy a.1)])/\aY h g d f a.2 [cS c (i++[a.1.text])] w b/\a.1.text.length<=2000
def JU{v names}(D:aY h g d f k [cS v names] w w)(K:names.length<=1000000)(J:f<=1000000000):Calls prog 214 #[Zp g,v] w (QV h g d f names (cK d names false k) w):=by
 obtain⟨iE,F,rfl⟩:=aW (D.y _ Yb);have o:=U (D.A (oW dE));go_in;go_wp21;refine(Cu o.i.aL (names:=names) (o.i.bv (i:=1) rfl) (λa2 I=>wZ (i:=1) rfl I) K false J).mono ?_;rintro a3 c ⟨rfl,S,O,C⟩;have q:=U (o.i.call ⟨S,O⟩);generalize a5:cK d names false k=a0 at *
 obtain⟨a,d9⟩:=a0;simp only at q C;have m:=U (q.i.A (oW a));go_wp2;generalize a4:c.alloc (oW a)=l at *
 obtain⟨d1,d2,d3,d4,d5,d6,d7,d8⟩:=m.i.K (i:=0) rfl;obtain⟨a6,a7,a8,a9,b0,b1,b2,b3⟩:=m.i.K (i:=1) (R:=w.heap.size) (x:=dE) rfl;have N:af (l.ownsRow 0 9 1 (.slice iE names.length F) names.length (names.map λa1=>Zs a1)):=U (m.i.bv (i:=2) rfl);have s:=U (λP=>(((ar [] l).A P).ag));have L:(names.length+1)*16<=140737488355328:=Zm;refine bJ (λb=>b.cell? (Zd c.heap.size 0)=some (Y a.w)/\b.cell? (Zd c.heap.size 1)=some (Zs a.text)/\b.cell? (Zd c.heap.size 2)=some (Y a.y)/\b.cell? (Zd c.heap.size 3)=some (Y a.fin)/\b.cell? (Zd c.heap.size 4)=some (Y a.n)/\b.cell? (Zd c.heap.size 5)=some (Y a.e)) ?_ λu=>?_
 .go_keep
 refine bf [0,1,2,5] ?_;iterate 4 (refine bi ?_)
 refine bg ?_;refine bI 3 λt j=>?_;go_simp;refine j.out _ _ ?_ (λu=>?_)
 .go_keep
 refine nz ?_;refine bI 4 λt j=>?_;(refine mh (B:=l.heap.size) ut underlying30 (bQ N.i (s.i _) Zq) [Zs a.text] (be (w:=l) Zq) Zy L Zm (H:=l.heap.size+1) Zq ?_;intro G E c2 A z x M;have p:=U (m.i.gU (i:=2) rfl (s.i _) A z x Zq);obtain⟨c3,c4,c5,c6,c7,c8,c9,d0⟩:=p.i.K (i:=0) rfl;obtain⟨b4,b5,b6,b7,b8,b9,c0,c1⟩:=p.i.K (i:=1) (R:=w.heap.size) (x:=dE) rfl;clear A z x M);refine j.out _ _ ?_ (λu=>?_)
 .go_keep
 refine nz ?_;refine pN 6 ?_;refine bL λt j=>?_;go_simp;refine j.out _ _ ?_;refine nz ?_;go_wp2;have r:=U (p.i.dz (i:=1) (R:=w.heap.size) (y:=dE) rfl a);refine adb (i0:=4) (i1:=5) (R:=w.heap.size) (x:=a) (v0:=.slice (some ⟨G,0,none⟩) (names.length+1) E) ?_ ?_ ?_ ?_ ?_ ?_
 .rfl
 .rfl
 .rfl
 .rfl
 .exact r.i.aR (i:=1) rfl
 .exact⟨_,rfl,r.i.au.au,C⟩
end
section
variable {c r : Nat -> Prop} {h f q : Nat} {t : Zb} {a k : ai} {b x d m o : Zw} {j : PV} {p : List Th} {i : Nat} {u w : Th}
def acX(c b d:Int)(a:ai):(hX t c b d a).2.ah=a.ah:=by
 unfold hX;split<;>rfl
def ag8(c b:Int)(a:ai):(bU t c b a).2.ah=a.ah:=by
 unfold bU;repeat' split
 all_goals first|rfl|exact acX ..
structure DM(v:Zv)(l:List Int)(n:Int)(g cap:Nat)(w5 d:Zw):Prop where
 nE:∃w6,ap [] w5 w6/\w6.grownBy d v.ownBlock/\(v.ownBlock=some g\/g=w6.heap.size)
 gV:d.ownsRow 0 3 1 (.slice (some ⟨g,0,none⟩) (l.length+1) cap) (l.length+1) (l.map (Y)++[Y n])
 lt:g<d.heap.size
def Rb(c:Nat->Prop)(h:Nat)(t:Zb)(f:Nat)(j:PV)(v:Zv)(k:List Int)(a:Int×ai)(b:Zw)(l:Ending)(d:Zw):Prop:=∃e i g,l=.returned (.tuple #[.slice (some ⟨i,0,none⟩) (k.length+1) g,Y a.1])/\bw c h t f a.2 j e/\Fr c b e/\DM v k a.1 i g e d
def Nb(a8:bw c h t f a j b){v l}(R:cO v l b)(B:(∀G,v.ownBlock=some G->c G)\/(v=j.gv/\l=a.ah))(d1:l.length<=1000000000)(a5:f<=1000000000):Calls prog 147 #[Zp h,v] b (Rb c h t f j v l (cJ t l a) b):=by
 have L:af (∀k d,bw c h t f k j d->k.ah=a.ah->Fr c b d->cO v l d):=U (λk d c8 c9 a4=>by
  rcases B with B|⟨c6,c7⟩
  .exact xI R a4 B
  grind [bw.ah])
 obtain⟨iE,J,rfl⟩:=aW R;have D:=U (Yp a8 (oX c b));go_in;go_wp21;refine(PT D.i.1 4 [61]).mono ?_;rintro x m ⟨rfl,q,p⟩;have E:=U (Yp q (D.i.2.u p));go_wp21;refine(PL E.i.1 0 4294967295 a5).mono ?_;rintro x o ⟨rfl,q,p⟩;have i:=U (Yp q (E.i.2.u p));have y:=ag8 (t:=t) 0 4294967295 (aj t 4 [61] a);generalize a7:bU t 0 4294967295 (aj t 4 [61] a)=a9 at *
 obtain⟨⟨n,F⟩,g⟩:=a9;have a2:=U a7;simp only at i y;change g.ah=a.ah at y;have a3:=U (BC (L.i _ _ i.i.1 y i.i.2).bH Zm n);go_wp21;refine a3.i.mono ?_;rintro x d4 ⟨rfl,rfl⟩;obtain⟨b1,b8,b9,c0,c1,c2,c3,c4,c5,b2,b3,b4,b5,b6,b7,d0,d2⟩:=i.i.1.K;rcases(show (g.s.e=0/\l.contains n=true)\/(g.s.e=0/\l.contains n=false)\/g.s.e≠0 by grind)with⟨O,A⟩|⟨O,A⟩|O;case' inl=>
  have N:(g.s.e==0)=true:=Zu;have z:af (cJ t l a=(n,aj t 4 [59] (ch 6 F g))):=by
   grind [cJ,af.i]
  rw[A];go_wp21;refine(Fc i.i.1 6 F).mono ?_;rintro x d3 ⟨rfl,q,p⟩;have u:=U (Yp q (i.i.2.u p))
 case' inr.inl=>
  have N:(g.s.e==0)=true:=Zu;have z:af (cJ t l a=(n,aj t 4 [59] g)):=by
   grind [cJ,af.i]
  have u:=i;rw[A]
 case' inr.inr=>
  have N:(g.s.e==0)=false:=Zu;have z:af (cJ t l a=(n,aj t 4 [59] g)):=by
   show _=_;unfold cJ;simp only[a2.i];simp_all
  have u:=i
 all_goals
  go_wp21;refine(PT u.i.1 4 [59]).mono ?_;rintro x r ⟨rfl,q,p⟩;have w:=U (Yp q (u.i.2.u p));have a6:af (∀C,(r.alloc C).ownsRow 0 3 1 (.slice iE l.length J) l.length (l.map (Y))):=U (λC=>bQ (L.i _ _ w.i.1 y w.i.2) ((ar [] r).A C) Zq);go_wp2_with (at_builtin;go_must (refine ku us underlying24 (a6.i _) [Y n] (heap_alloc_new r _) Zy Zm Zq (H:=r.heap.size+1) Zq ?_;intro K I b0 a0 P M S;have a1:af (DM (.slice iE l.length J) l n K I r b0):=U ⟨⟨_,(ar [] r).A _,P,by simpa using M⟩,a0,S⟩;clear a0 P M S));go_ret2;rw[z.i];exact⟨r,K,I,rfl,w.i.1,w.i.2,a1.i⟩
def Ra(c:Nat->Prop)(h:Nat)(t:Zb)(f:Nat)(i:List Int)(a:Int×ai)(b:Zw)(g:Ending)(d:Zw):Prop:=∃e,g=.returned (.tuple #[e,Y a.1])/\aY c h t f a.2 [eV e (i++[a.1])] b d
def Na{v l}(d:aY c h t f a [eV v l] b b)(y:l.length<=1000000)(n:f<=1000000000):Calls prog 147 #[Zp h,v] b (Ra c h t f l (cJ t l a) b):=by
 obtain⟨j,o⟩:=d.aL;refine(Nb o (v:=v) (l:=l) (d.bv (i:=0) rfl) (Y8 λs m=>wZ (i:=0) rfl m) Zm n).mono ?_;rintro w C ⟨A,x,u,rfl,r,g,⟨B,p,k,e⟩,q,z⟩;exact⟨_,rfl,(d.call ⟨⟨j,r⟩,g⟩).hR (i:=0) rfl p q k e rfl⟩
end
section
variable {e j : Nat -> Prop} {c d h : Nat} {f : Zb} {σ t : ai} {b o m p q : Zw} {a : PV} {g : List Th} {i : Nat} {k l : Th}
def cr(σ:ai):Prop:=∀a∈σ.G,a.a1=1->0<=a.n/\a.n<σ.h.length
def nY{a}(k:bw e c f d σ a b){i:Nat}(D:i<σ.h.length):∃g p l,a.rv=.slice (some ⟨g,0,none⟩) σ.h.length p/\a.ls[i]?=some l/\b.cell? ⟨g,i*8,none⟩=some (Y (σ.h.getD i bz).w)/\b.cell? ⟨g,i*8+1,none⟩=some (Y (σ.h.getD i bz).n)/\b.cell? ⟨g,i*8+2,none⟩=some (Y (σ.h.getD i bz).of)/\b.cell? ⟨g,i*8+3,none⟩=some l.1/\b.cell? ⟨g,i*8+4,none⟩=some l.2/\b.cell? ⟨g,i*8+5,none⟩=some (Y (σ.h.getD i bz).dR)/\b.cell? ⟨g,i*8+6,none⟩=some (.string ⟨(σ.h.getD i bz).a5.toArray⟩)/\b.cell? ⟨g,i*8+7,none⟩=some (Y (σ.h.getD i bz).y)/\(∀i,b.frozen? ⟨g,i,none⟩=false)/\g<b.heap.size/\g≠c:=by
 have y:i<a.ls.length:=by rw[k.am];omega
 have B:σ.h[i]?=some (σ.h.getD i bz):=Zg;have t:a.ls[i]?=some a.ls[i]:=Yd y;have A:(σ.h.zip a.ls)[i]?=some (σ.h.getD i bz,a.ls[i]):=Zg;have l:=λj m=>uq (f:=λk:bt×(Zv×Zv)=>eB k.1 k.2) (k:=8) (λ_=>rfl) (σ.h.zip a.ls) i j m;have s:=k.h;unfold tq at s;have q:=λj m (v:Zv) (o:(eB (σ.h.getD i bz) a.ls[i])[j]?=some v)=>nW s (x:=v) (l j m |>.trans Zu);obtain⟨g,p,o,C,w,z⟩:=q 0 Zm _ rfl;have h:∀j (m:j<8) (v:Zv) (o:(eB (σ.h.getD i bz) a.ls[i])[j]?=some v),b.cell? ⟨g,i*8+j,none⟩=some v:=by
  simp_all
 exact⟨g,p,a.ls[i],o,t,h 0 Zm _ rfl,h 1 Zm _ rfl,h 2 Zm _ rfl,h 3 Zm _ rfl,h 4 Zm _ rfl,h 5 Zm _ rfl,h 6 Zm _ rfl,h 7 Zm _ rfl,w,z,λu=>k.nd.r (by rw[o,u];rfl)⟩
def FX(a:0<=bY σ σ.s.x.text):dw σ∈σ.G:=by
 grind [vP,dw]
end
section
variable {k o : Nat -> Prop} {c g m : Nat} {b : Zb} {σ t : ai} {d r a j f : Zw} {h : PV} {l : List Th} {i : Nat} {p q : Th}
def abA(c0:bW k c b g σ d)(ok:cr σ)(d6:g<=1000000000)(E:σ.s.e=0/\σ.s.x.w=1):Calls prog 151 #[Zp c] d (GP k c b g (cz b σ).2 (.tuple #[Y (cz b σ).1.1,.string ⟨(cz b σ).1.2.toArray⟩]) d):=by
 have a8:=U E;clear E;have D:=U ((mz c0).A (oW σ.s.x));obtain⟨h,p⟩:=c0;obtain⟨c7,c8,c9,d0,d1,d2,-,-,-,-,S,-,-,-,-,A,d8⟩:=p.K;have d9:=FX (σ:=σ);clear p;go_in;go_wp2;generalize d7:d.alloc (oW σ.s.x)=j at *
 clear d7 c7 c8 c9 d0 d1 d2 S A d8;obtain⟨h,iE,d3,p,a3⟩:=D.i.aL.sp;have R:=U (sT (p.az (ar [] j).ag) d6 σ.s.x.text);rw[a3]at R;obtain⟨-,-,-,-,-,-,-,t,-,-,-,-,-,-,-,A,G⟩:=p.K;rw[a3]at t;obtain⟨I,J,K,L,M,N,O,P⟩:=D.i.K (i:=0) rfl;clear p;refine bJ (λa=>a.cell? (Zd c 8)=some (.slice iE σ.G.length d3)/\a.cell? (Zd d.heap.size 1)=some (Zs σ.s.x.text)) ?_ λu=>?_
 .go_keep
 refine bf [0,1,2,3,4,5,6] ?_;iterate 7 (refine bi ?_)
 refine bg ?_;refine bI 7 λr l=>?_;(go_simp;refine R.i.mono ?_;rintro e9 f ⟨rfl,rfl⟩);refine l.out _ _ ?_ (λu=>?_)
 .go_keep
 clear l r;refine nz ?_;refine bL λr l=>?_;go_simp;refine l.out _ _ ?_;clear l r;refine nz ?_;have v:=U D.i.ag;clear D R u I J K L M N O P t A G a3;generalize j.drew=f at v ⊢;obtain⟨h,p⟩:=v.i.aL;obtain⟨-,-,-,-,-,-,a9,t,-,-,S,-,-,-,-,A,G⟩:=p.K;obtain⟨I,J,K,L,M,N,O,P⟩:=v.i.K (i:=0) rfl;have a7:=U p;clear p;have E:=a8.i;clear a8;have a5:af (cz b σ=if bY σ σ.s.x.text<0\/(dw σ).a1≠1\/(hY σ (dw σ).n).w≠5 then ((0,[]),ch 7 σ.s.x.y σ)else (((dw σ).n,σ.s.x.text),bq b σ)):=by show _=_;unfold cz;simp_all
 have f3:(σ.s.e==0)=true:=Zu;have f4:((σ.s.x.w:Int)==1)=true:=Zu;clear E;by_cases d5:bY σ σ.s.x.text<0
 .have y:af (cz b σ=((0,[]),ch 7 σ.s.x.y σ)):=Zu;go_wp2;go_region;have w:=U v.i.ag;go_wp21;refine bj w (nK · 7 σ.s.x.y) λH q=>?_;go_wp2;go_ret2;rw[y.i];exact⟨rfl,q.i.fin⟩
 .have b7:=vP (by omega:0<=bY σ σ.s.x.text);obtain⟨B,b0,e1,-,c1,C,-,c2,c3,f5⟩:=uC a7.i b7;change f.cell? _=some (Y (dw σ).a1)at c1;change f.cell? _=some (Y (dw σ).n)at C;rw[e1]at t;have a2:=ok _ (d9 Zm);have c4:=U b7;generalize b5:bY σ σ.s.x.text=o at *
  obtain⟨o,rfl⟩:∃m:Nat,o=m:=⟨o.toNat,Zm⟩;simp only[Int.toNat_natCast]at *
  have f7:(o:Int)<(σ.G.length:Int):=Zm;have f6:decide ((o:Int)<0)=false:=Zq;have c6:=U b5;clear b5 d5;by_cases a4:(dw σ).a1=1
  .have e2:((dw σ).a1 != 1)=false:=Zu;obtain⟨e3,e4⟩:=a2 a4;obtain⟨m,F⟩:∃m:Nat,(dw σ).n=m:=⟨(dw σ).n.toNat,Zm⟩;obtain⟨b2,d4,f9,e0,-,e5,-,-,-,-,-,-,-,e6,e7,f8⟩:=nY a7.i (i:=m) Zm;rw[F]at C e4;rw[e0]at a9;have b8:hY σ (dw σ).n=σ.h.getD m bz:=by unfold hY;simp_all
   generalize b6:(σ.h.getD m bz).w=z at *
   have c5:=U F;have a6:af (cz b σ=if z≠5 then ((0,[]),ch 7 σ.s.x.y σ)else (((m:Int),σ.s.x.text),bq b σ)):=by
    show _=_;rw[a5.i,b8,b6,F];by_cases b3:z=5
    .simp_all[Y2]
    simp_all
   clear a4 F b8 a2 e3 b6 a5;go_wp2;refine bJ (λa=>a.cell? (Zd c 8)=some (.slice (some ⟨B,0,none⟩) σ.G.length b0)/\a.cell? (Zd c 7)=some (.slice (some ⟨b2,0,none⟩) σ.h.length d4)/\a.cell? ⟨B,o*4+1,none⟩=some (Y (dw σ).a1)/\a.cell? ⟨B,o*4+2,none⟩=some (Y m)/\a.cell? ⟨b2,m*8,none⟩=some (Y z)) ?_ λu=>?_
   .go_keep
   refine bf [0,1,2,3,4,5,6,7,8,9,10,11,12,13,14,15,16,17,18,19,20,21,22,23,24,25,26,27,28,29,30,31,32] ?_;iterate 33 (refine bi ?_)
   refine bg ?_;refine bL λr l=>?_;go_simp;refine l.out _ _ ?_;clear l r;refine nz ?_;clear u;by_cases b3:z=5
   .have y:af (cz b σ=(((m:Int),σ.s.x.text),bq b σ)):=Zu;subst b3;clear a6;have w:=U v.i.ag;go_wp21;refine bj w (kE ·) λH q=>?_;clear a9 t S A G I J K L M N O P c1 C c2 c3 e5 e6 e7;obtain⟨I,J,K,L,M,N,O,P⟩:=q.i.K (i:=0) rfl;obtain⟨e8,a1⟩:=q.i.aL;obtain⟨-,-,-,-,-,-,-,t,-,-,-,-,-,-,-,A,G⟩:=a1.K;obtain⟨a0,b1,b9,-,-,C,-,c2,c3,-⟩:=uC a1 (i:=o) c4.i;have b4:((bq b σ).G.getD o iT).n=m:=by
     rw[<-c5.i];unfold dw;rw[c6.i];rfl
    rw[b4]at C;rw[b9]at t;change H.cell? _=some (.slice (some ⟨a0,0,none⟩) σ.G.length b1)at t;clear a1 b9 b4;go_wp2;refine bJ (λa=>a.cell? (Zd c 8)=some (.slice (some ⟨a0,0,none⟩) σ.G.length b1)/\a.cell? ⟨a0,o*4+2,none⟩=some (Y m)/\a.cell? (Zd d.heap.size 1)=some (Zs σ.s.x.text)) ?_ λu=>?_
    .go_keep
    refine bf [0,1,2,3,4,5,6,7,8,9,10,11] ?_;iterate 12 (refine bi ?_)
    refine bg ?_;refine bL λr l=>?_;go_simp;refine l.out _ _ ?_;clear l r;refine nz ?_;clear u;go_wp2;go_ret2;rw[y.i];exact⟨rfl,q.i.ag.fin⟩
   .have y:af (cz b σ=((0,[]),ch 7 σ.s.x.y σ)):=Zu;have f0:(z != 5)=true:=Zu;have f1:(z==5)=false:=Zu;have f2:decide (z=5)=false:=Zm;clear a6;have w:=U v.i.ag;go_wp21;refine bj w (nK · 7 σ.s.x.y) λH q=>?_;go_wp2;go_ret2;rw[y.i];exact⟨rfl,q.i.fin⟩
  .have y:af (cz b σ=((0,[]),ch 7 σ.s.x.y σ)):=Zu;have e2:((dw σ).a1 != 1)=true:=Zu;clear a4 a2;go_wp2;refine bJ (λa=>a.cell? (Zd c 8)=some (.slice (some ⟨B,0,none⟩) σ.G.length b0)/\a.cell? ⟨B,o*4+1,none⟩=some (Y (dw σ).a1)) ?_ λu=>?_
   .go_keep
   refine bf [0,1,2,3,4,5,6,7,8,9,10,11,12,13,14] ?_;iterate 15 (refine bi ?_)
   refine bg ?_;refine bf [15,16,17,18,19,20,21,22,23,24,25,26,27,28,29,30,31,32] ?_;iterate 18 (refine skz ?_)
   refine bg ?_;refine bL λr l=>?_;go_simp;refine l.out _ _ ?_;clear l r;refine nz ?_;clear u;have w:=U v.i.ag;go_wp21;refine bj w (nK · 7 σ.s.x.y) λH q=>?_;go_wp2;go_ret2;rw[y.i];exact⟨rfl,q.i.fin⟩
end
section
variable {f n : Nat -> Prop} {c d m : Nat} {a : Zb} {σ r : ai} {b q h j k : Zw} {g : PV} {l : List Th} {i : Nat} {o p : Th}
def abC(a4:bW f c a d σ b)(ok:cr σ)(b2:d<=1000000000)(D:¬(σ.s.e=0/\σ.s.x.w=1)):Calls prog 151 #[Zp c] b (GP f c a d (cz a σ).2 (.tuple #[Y (cz a σ).1.1,.string ⟨(cz a σ).1.2.toArray⟩]) b):=by
 have a6:=U D;have B:=U ((mz a4).A (oW σ.s.x));obtain⟨g,o⟩:=a4;obtain⟨G,N,O,P,R,S,a0,C,a1,H,I,J,K,L,M,a2,c5⟩:=o.K;have c6:=FX (σ:=σ);go_in;go_wp2;generalize c2:b.alloc (oW σ.s.x)=j at *
 obtain⟨g,iE,a8,o,a3⟩:=B.i.aL.sp;have F:=U (sT (o.az (ar [] j).ag) b2 σ.s.x.text);rw[a3]at F;obtain⟨G,N,O,P,R,S,a0,C,a1,H,I,J,K,L,M,a2,b6⟩:=o.K;rw[a3]at C;obtain⟨r,t,u,v,w,y,z,A⟩:=B.i.K (i:=0) rfl;refine bJ (λh=>h.cell? (Zd c 8)=some (.slice iE σ.G.length a8)/\h.cell? (Zd b.heap.size 1)=some (Zs σ.s.x.text)) ?_ λb1=>?_
 .go_keep
 refine bf [0,1,2,3,4,5,6] ?_;iterate 7 (refine bi ?_)
 refine bg ?_;refine bI 7 λa7 E=>?_;(go_simp;refine F.i.mono ?_;rintro a9 k ⟨rfl,rfl⟩);refine E.out _ _ ?_ (λb1=>?_)
 .go_keep
 refine nz ?_;refine bL λa7 E=>?_;go_simp;refine E.out _ _ ?_;refine nz ?_;have n:=U B.i.ag;generalize j.drew=k at n ⊢;obtain⟨g,o⟩:=n.i.aL;obtain⟨G,N,O,P,R,S,a0,C,a1,H,I,J,K,L,M,a2,b6⟩:=o.K;obtain⟨r,t,u,v,w,y,z,A⟩:=n.i.K (i:=0) rfl;have c0:=U o;have D:=a6.i;by_cases b5:σ.s.e=0
 .have b3:(σ.s.e==0)=true:=Zu;have c4:σ.s.x.w≠1:=λb0=>D ⟨b5,b0⟩;have c3:((σ.s.x.w:Int)==1)=false:=by rw[Yi];omega
  by_cases c1:σ.s.x.w=2
  .have b4:((σ.s.x.w:Int)==2)=true:=Zu;have q:af (cz a σ=if σ.s.x.text=Jk\/σ.s.x.text=Jb\/σ.s.x.text=Js then if σ.s.x.text=Jk then ((0,Jk),bq a σ)else if σ.s.x.text=Js then ((4,Js),bq a σ)else if aM (bq a σ) 2 Jk=true then ((1,Jb),bq a (bq a σ))else ((1,Jb),bq a σ)else ((0,[]),eu σ)):=by
    show _=_;unfold cz;simp_all
   cases c8:(σ.s.x.text==Jk)with
   |true=>
    have m:af (cz a σ=((0,Jk),bq a σ)):=by show _=_;rw[q.i,Y9 (Y8 Zu),Y9 Zu]
    go_wp21;refine bj n (kE ·) λp l=>?_;obtain⟨r,t,u,v,w,y,z,A⟩:=l.i.K (i:=0) rfl;go_wp2;go_ret2;rw[m.i];exact⟨rfl,l.i.fin⟩
   |false=>
    cases c9:(σ.s.x.text==Jb)with
    |true=>
     have b7:¬(σ.s.x.text=Js):=by
      simp_all
     have b8:(σ.s.x.text==Js)=false:=Zu;have b9:af (cz a σ=if aM (bq a σ) 2 Jk=true then ((1,Jb),bq a (bq a σ))else ((1,Jb),bq a σ)):=by show _=_;rw[q.i,Y9 (Ya (Y8 Zu)),Y2 Zu,Y2 b7]
     go_wp21;refine bj n (kE ·) λp l=>?_;obtain⟨r,t,u,v,w,y,z,A⟩:=l.i.K (i:=0) rfl;go_wp21;refine(jy l.i.aL 2 Jk).mono ?_;rintro a9 d1 ⟨rfl,rfl⟩;cases c7:aM (bq a σ) 2 Jk with
     |true=>
      have m:af (cz a σ=((1,Jb),bq a (bq a σ))):=Zu;go_wp21;refine bj l (kE ·) λd0 a5=>?_;go_wp2;go_ret2;rw[m.i];exact⟨rfl,a5.i.fin⟩
     |false=>
      have m:af (cz a σ=((1,Jb),bq a σ)):=Zu;go_wp2;go_ret2;rw[m.i];exact⟨rfl,l.i.fin⟩
    |false=>
     cases b8:(σ.s.x.text==Js)with
     |true=>
      have m:af (cz a σ=((4,Js),bq a σ)):=by show _=_;rw[q.i,Y9 (Ya (Ya Zu)),Y2 Zu,Y9 Zu]
      go_wp21;refine bj n (kE ·) λp l=>?_;obtain⟨r,t,u,v,w,y,z,A⟩:=l.i.K (i:=0) rfl;go_wp2;go_ret2;rw[m.i];exact⟨rfl,l.i.fin⟩
     |false=>
      have m:af (cz a σ=((0,[]),eu σ)):=by show _=_;rw[q.i,Y2 Zu]
      go_wp21;refine bj n (ub ·) λp l=>?_;go_wp2;go_ret2;rw[m.i];exact⟨rfl,l.i.fin⟩
  .have b4:((σ.s.x.w:Int)==2)=false:=by rw[Yi];omega
   have m:af (cz a σ=((0,[]),eu σ)):=by show _=_;simp_all[cz]
   go_wp21;refine bj n (ub ·) λp l=>?_;go_wp2;go_ret2;rw[m.i];exact⟨rfl,l.i.fin⟩
 .have b3:(σ.s.e==0)=false:=Zu;have m:af (cz a σ=((0,[]),eu σ)):=by show _=_;simp_all[cz]
  go_wp21;refine bj n (ub ·) λp l=>?_;go_wp2;go_ret2;rw[m.i];exact⟨rfl,l.i.fin⟩
def abF(i:bW f c a d σ b)(ok:cr σ)(h:d<=1000000000):Calls prog 151 #[Zp c] b (GP f c a d (cz a σ).2 (.tuple #[Y (cz a σ).1.1,.string ⟨(cz a σ).1.2.toArray⟩]) b):=by
 by_cases g:σ.s.e=0/\σ.s.x.w=1
 .exact abA i ok h g
 .exact abC i ok h g
end
section
variable {f n : Nat -> Prop} {e d l : Nat} {a : Zb} {b r : ai} {c q g h j : Zw} {m : PV} {k : List Th} {i : Nat} {o p : Th}
def QW(f:Nat->Prop)(e:Nat)(a:Zb)(d:Nat)(b:(Int×Zb×Zc)×ai)(c:Zw)(i:Ending)(g:Zw):Prop:=∃h,i=.returned (.tuple #[Y b.1.1,.string ⟨b.1.2.1.toArray⟩,h])/\aY f e a d b.2 [cS h b.1.2.2] c g/\b.1.2.1.length<=5000
def JZ{v names}(y:aY f e a d b [cS v names] c c)(M:names.length<=1000000)(L:d+10<=1000000000):Calls prog 154 #[Zp e,v] c (QW f e a (d+2) (dB a names b) c):=by
 obtain⟨iE,I,rfl⟩:=aW (y.y _ Yb);have k:=U y;go_in;go_wp21;refine(jy k.i.aL 2 Jt).mono ?_;rintro J b6 ⟨rfl,rfl⟩;cases b4:aM b 2 Jt with
 |true=>
  have q:af (dB a names b=((-1,[118,111,105,100,59,32],names),aj a 4 [59] (bq a b))):=by show _=_;unfold dB;simp_all
  go_wp21;refine bj k (kE ·) λh m=>?_;go_wp21;refine bj m (ec · 4 [59]) λj o=>?_;go_wp2;go_ret3;rw[q.i];exact⟨_,rfl,o.i.aS Zm,Zq⟩
 |false=>
  go_wp21;refine(EP k.i.aL (names:=names) (k.i.bv (i:=0) rfl) (λa7 K=>wZ (i:=0) rfl K) M false L).mono ?_;rintro J h ⟨rfl,a2,R,S,a0,a1⟩;have m:=U (k.i.call ⟨a2,R⟩);generalize b0:dx a names false b=a3 at *
  obtain⟨⟨a4,n,r,g⟩,a6⟩:=a3;have q:af (dB a names b=((a4,n++g.text++r++[59,32],names++[g.text]),aj a 4 [59] a6)):=by show _=_;simp_all[dB]
  simp only at m S a0 a1;have o:=U (m.i.A (oW g));go_wp21;refine bj o (ec · 4 [59]) λl p=>?_;obtain⟨z,A,B,C,D,E,F,G⟩:=p.i.K (i:=0) rfl;have P:af (∀s,(l.alloc s).ownsRow 0 9 1 (.slice iE names.length I) names.length (names.map λa5=>Zs a5)):=U (λs=>bQ (p.i.bv (i:=1) rfl) ((ar [] l).A s) Zq);have N:(names.length+1)*16<=140737488355328:=Zm;go_wp2_with (at_builtin;go_must (refine ku ut underlying30 (P.i _) [Zs g.text] (heap_alloc_new l _) Zy N Zq (H:=l.heap.size+1) Zq ?_;intro a9 a8 b5 x w u O;have t:=U (p.i.gU (i:=1) rfl ((ar [] l).A _) x w u Zq);clear x w u O z A B C D E F G;obtain⟨z,A,B,C,D,E,F,G⟩:=t.i.K (i:=0) rfl));have b1:¬(9223372036854775807<n.length+g.text.length):=Zm;have b2:¬(9223372036854775807<n.length+g.text.length+r.length):=Zm;have b3:¬(9223372036854775807<n.length+g.text.length+r.length+2):=Zm;go_region;go_wp2;go_ret3;rw[q.i];refine⟨_,?_,t.i.ag.au,Zg⟩;rfl
end
section
variable {t : Zb} {σ b c : ai}
def bp(σ b:ai):Prop:=σ.s.e≠0->b.s.e=σ.s.e/\b.s.a=σ.s.a
theorem fI(σ:ai):bp σ σ:=λ_=>⟨rfl,rfl⟩
theorem bp.u(a:bp σ b)(e:bp b c):bp σ c:=λd=>by
 obtain⟨f,g⟩:=a d;obtain⟨h,i⟩:=e Zm;omega
theorem oN(b a:Int)(σ:ai):bp σ (ch b a σ):=λc=>by simp[ch,kA,c]
theorem wy(σ:ai):bp σ (eu σ):=λa=>by
 grind [eu,oq,rq,kA]
theorem kJ(σ:ai):bp σ (bq t σ):=λ_=>⟨rfl,rfl⟩
theorem bu(a:Nat)(b:Zb)(σ:ai):bp σ (aj t a b σ):=by
 unfold aj sg;split
 .exact λ_=>⟨rfl,rfl⟩
 .exact wy σ
theorem yg(σ:ai):bp σ (dQ t σ).2:=by
 unfold dQ lT;split
 .exact fI σ
 .split
  .exact λ_=>⟨rfl,rfl⟩
  .exact wy σ
def uM(a:Int)(σ:ai):bp σ (bc t a σ).2:=by
 unfold bc;split
 .exact yg σ
 .split
  .exact(yg σ).u (oN _ _ _)
  .exact(yg σ).u λ_=>⟨rfl,rfl⟩
def OP(b a:Int)(σ:ai):bp σ (aT b a σ):=by
 unfold aT nL;split
 .split
  .exact(wy σ).u (oN _ _ _)
  .exact wy σ
 grind [oN,fI]
theorem xq{n m:Int}(b:m<=n)(σ:ai):(aT n m σ).s.e≠0:=by
 unfold aT nL;generalize (if σ.s.e=0/\σ.s.x.w=5 then eu σ else σ)=a
 by_cases c:a.s.e=0;all_goals simp_all[ch,kA]
def Xo{a}{b:Zb}(c:aM σ a b=true):σ.s.e=0:=by
 grind [aM,kT]
def zs{a}{b:Zb}(c:σ.s.e≠0):aM σ a b=false:=by
 unfold aM kT;grind
theorem afH(b a c:Int)(σ:ai):bp σ (hX t b a c σ).2:=by
 grind [hX,oN,kJ]
theorem jX(b a:Int)(σ:ai):bp σ (bU t b a σ).2:=by
 grind [bU,fI,afH,oN,wy]
def hL(a:bt)(σ:ai):bp σ (dm a σ):=λ_=>⟨rfl,rfl⟩
def rY(a:Zb)(σ:ai):bp σ (gi a σ):=λ_=>⟨rfl,rfl⟩
theorem OR(b:Zb)(a:Int)(σ:ai):bp σ (eR b a σ):=by
 unfold eR;simp only;split<;>exact λ_=>⟨rfl,rfl⟩
def yf(b:Zb)(a:Int)(σ:ai):bp σ (eM b a σ):=by
 unfold eM;split<;>exact λ_=>⟨rfl,rfl⟩
def afM(σ:ai):bp σ (mw t σ).2:=by
 grind [mw,kJ,fI]
theorem OQ(σ:ai):bp σ (cW t σ).2:=by
 unfold cW;split
 .exact fI σ
 .split
  .exact(kJ σ).u (hL _ _)
  .split
   .exact kJ σ
   .split
    .exact kJ σ
    .split
     .exact kJ σ
     .split
      .exact(kJ σ).u (afM _)
      .exact wy σ
def pL(a:Bool)(σ:ai):bp σ (dC t a σ).2:=by
 unfold dC;split
 .exact(bu _ _ _).u ((jX _ _ _).u (bu _ _ _))
 .simp only;split
  .exact(bu _ _ _).u (bu _ _ _)
  .exact(bu _ _ _).u ((jX _ _ _).u (bu _ _ _))
theorem qM(b:Zc)(all:Bool)(σ:ai):bp σ (cK t b all σ).2:=by
 unfold cK;simp only;generalize d:dQ t σ=a;have c:bp σ a.2:=by rw[<-d];exact yg σ
 generalize (if all=true then decide (0<=bY a.2 a.1.text)else b.contains a.1.text)=e
 split
 .exact c.u (oN _ _ _)
 omega
theorem afE(c:Zc)(all d:Bool)(σ:ai):bp σ (kF t c all d σ).2:=by
 unfold kF;simp only;generalize f:cK t c all (bq t σ)=e;have a:bp σ e.2:=by rw[<-f];exact(kJ _).u (qM _ _ _)
 by_cases b:aM e.2 4 [91]=true/\d=true
 .rw[Y9 b];exact a.u ((pL _ _).u (hL _ _))
 .rw[Y2 b];exact a.u ((pL _ _).u (hL _ _))
theorem afD(g:Zc)(all:Bool)(σ:ai):bp σ (jd t g all σ).2:=by
 unfold jd;simp only;generalize i:cW t σ=a;have c:bp σ a.2:=by rw[<-i];exact OQ _
 by_cases e:aM a.2 4 [42]=true
 .rw[Y9 e];exact c.u ((kJ _).u ((qM _ _ _).u (hL _ _)))
 .rw[Y2 e];generalize j:cK t g all a.2=b;have d:bp σ b.2:=by rw[<-j];exact c.u (qM _ _ _)
  by_cases f:aM b.2 4 [91]=true
  .rw[Y9 f];exact d.u ((pL _ _).u (hL _ _))
  .rw[Y2 f];by_cases h:aM b.2 4 [60]=true
   .rw[Y9 h];exact d.u ((pL _ _).u (hL _ _))
   simp_all
def Df(a:Zc)(all:Bool)(σ:ai):bp σ (dx t a all σ).2:=by
 grind [dx,afE,afD]
theorem OT(σ:ai):bp σ (cz t σ).2:=by
 unfold cz;split
 .grind [oN,kJ]
 .split
  .split
   .exact kJ σ
   .split
    .exact kJ σ
    .split
     .exact(kJ σ).u (kJ _)
     .exact kJ σ
  .exact wy σ
def De(a:Zc)(σ:ai):bp σ (dB t a σ).2:=by
 unfold dB;split
 .exact(kJ σ).u (bu _ _ _)
 .exact(Df _ _ _).u (bu _ _ _)
def ye(σ:ai):bp σ (gj t σ).2:=by
 grind [gj,kJ,OQ]
def oO(a:Prop)[Decidable a](c b:Int)(σ:ai):bp σ (if a then ch c b σ else σ):=by
 grind [oN,fI]
def rX(a:List Int)(σ:ai):bp σ (cJ t a σ).2:=by
 unfold cJ;exact(bu _ _ _).u ((jX _ _ _).u ((oO _ _ _ _).u (bu _ _ _)))
def Sm(σ b:ai):Prop:=b = { σ with s:=b.s }
theorem Sm.u(a:Sm σ b)(d:Sm b c):Sm σ c:=by
 unfold Sm at *
 grind
def CY(b a:Int)(σ:ai):Sm σ (ch b a σ):=rfl
def zY(σ:ai):Sm σ (eu σ):=rfl
def gm(σ:ai):Sm σ (bq t σ):=rfl
def aF(a:Nat)(b:Zb)(σ:ai):Sm σ (aj t a b σ):=rfl
def oL(σ:ai):Sm σ (dQ t σ).2:=rfl
def oa(a:Prop)[Decidable a](c b:Int)(σ:ai):Sm σ (if a then ch c b σ else σ):=by
 split<;>rfl
def dN(b a:Int)(σ:ai):Sm σ (aT b a σ):=by
 unfold aT nL;repeat' split
 all_goals rfl
def iJ(b a:Int)(σ:ai):Sm σ (bU t b a σ).2:=by
 unfold bU hX;repeat' split
 all_goals rfl
def uL(σ:ai):Sm σ (cz t σ).2:=by
 unfold cz;repeat' split
 all_goals rfl
theorem Sm.h(a:Sm σ b):b.h=σ.h:=by rw[a]
theorem Sm.G(a:Sm σ b):b.G=σ.G:=by rw[a]
theorem Sm.ah(a:Sm σ b):b.ah=σ.ah:=by rw[a]
end
section
variable {f p : Nat -> Prop} {d c o : Nat} {t : Zb} {a g : ai} {b u j l k : Zw} {h : PV} {n : List Th} {i : Nat} {q r : Th}
def nZ:Zv->Nat
 |.slice _ a _=>a
 |_=>0
def jR(of:Int)(v:(Int×Int)×ai):ai:=if v.2.s.e=0/\4<of/\(hY v.2 of).aI.contains v.1.1=false then ch 8 v.1.2 v.2 else v.2
def ii(d:List Int)(c b:Int)(a:ai):ai:=if a.s.e=0/\d.contains c=true then ch 6 b a else a
def EA(t:Zb)(of:Int)(c:List Int)(d:Zb)(b:Int)(a:ai):(List Int×Zb)×ai:=
 if aM (aj t 4 [58] a) 2 Jg=true then di t of (14-(c++[b]).length) (c++[b]) (d++JA++dk b++[58,32]) (aj t 4 [58] a)
 else ((c++[b],d++JA++dk b++[58,32]),aj t 4 [58] a)
def Kk{of b c d}(f:a.s.e≠0):di t of b c d a=((c,d),a):=by
 cases b with
 |zero=>rfl
 |succ b=>unfold di;rw[Y9 f]
def Tg{of}{nums:List Int}{out}{v:(Int×Int)×ai}(d:a.s.e=0)(f:nums.length<=12)(e:bU t (gQ of) (gP of) (aj t 2 Jg (aT nums.length 12 a))=v):di t of (14-nums.length) nums out a=EA t of nums out v.1.1 (ii nums v.1.1 v.1.2 (jR of v)):=by
 have b:14-nums.length=(13-nums.length)+1:=Zm;have c:14-(nums++[v.1.1]).length=13-nums.length:=Zq;unfold EA;rw[c,b];rw[di,Y2 (by simpa using d)];simp only[e];rfl
def QX(f:Nat->Prop)(d:Nat)(t:Zb)(c:Nat)(a:(List Int×Zb)×ai)(b:Zw)(g:Ending)(j:Zw):Prop:=∃e,g=.returned (.tuple #[e,.string ⟨a.1.2.toArray⟩])/\aY f d t c a.2 [eV e a.1.1] b j/\a.1.2.length<=400/\a.1.1.length<=13
def Tj{v u}(m:aY f d t c a [eV v u] b b)(of:Int)(j6:0<=of/\(4<of->of<a.h.length))(g7:∀b1∈a.h,b1.aI.length<=1000)(f5:u.length<=12)(e8:c<=1000000000):Calls prog 153 #[Zp d,Y of,v] b (QX f d t c (di t of (14-u.length) u [] a) b):=by
 obtain⟨iE,B,rfl⟩:=aW (m.y _ Yb);obtain⟨j,rfl⟩:∃j:Nat,of=j:=⟨of.toNat,Zm⟩;have c8:=U m;go_in;go_wp2;go_loopw [2,8] (λv L h5=>∃(iE:Option Addr) (B:Nat) (n:List Int) (w:Zb) (g:ai),v=.slice iE n.length B/\L=Zs w/\n.length<=12/\w.length<=20*n.length/\af (aY f d t c g [eV (.slice iE n.length B) n] b h5)/\af (di t j (14-n.length) n w g=di t j (14-u.length) u [] a)/\af (g.h=a.h)) (λv _ _=>14-nZ v)
 case atStart=>exact⟨iE,B,u,[],a,rfl,rfl,f5,Zq,c8,U rfl,U rfl⟩
 case round=>
  obtain⟨iE,B,n,w,y,rfl,rfl,f7,f8,a3,b5,d7⟩:=hrel;obtain⟨h,D⟩:=a3.i.aL;obtain⟨h7,i3,i4,i5,i6,i7,b8,i8,i9,h8,a5,h9,i0,i1,i2,I,b0⟩:=D.K;by_cases c2:y.s.e=0
  .have e9:(y.s.e==0)=true:=Zu;have d3:=U c2;go_wp21;refine bj a3 (sV · n.length 12) λl c9=>?_;go_wp21;refine bj c9 (ec · 2 Jg) λk d0=>?_;have f8:(-2147483648:Int)<=gQ j:=by unfold gQ;omega
   have j2:gP j<=(4294967295:Int):=by unfold gP;omega
   go_upto_block 2 with fail;go_cut [9,10] (λh1 f3 wc=>h1=Y (gQ j)/\f3=Y (gP j)/\wc=k);case first=>
    by_cases e7:(j:Int)=1
    .have K:gQ j=0:=by unfold gQ;omega
     have J:gP j=4294967295:=by unfold gP;omega
     have e5:((j:Int)==1)=true:=by rw[e7];rfl
     have A:=U (Yp K J);go_wp2;go_meet;rw[A.i.1,A.i.2];simp
    .have e5:((j:Int)==1)=false:=by rw[Yi];omega
     by_cases C:(j:Int)=4
     .have K:gQ j=0:=by unfold gQ;omega
      have J:gP j=1:=by unfold gP;omega
      have e6:((j:Int)==4)=true:=by rw[C];rfl
      have A:=U (Yp K J);go_wp2;go_meet;rw[A.i.1,A.i.2];simp
     .have K:gQ j = -2147483648:=by unfold gQ;omega
      have J:gP j=2147483647:=by unfold gP;omega
      have e6:((j:Int)==4)=false:=by rw[Yi];omega
      have A:=U (Yp K J);go_wp2;go_meet;rw[A.i.1,A.i.2];simp
   case rest=>
    obtain⟨rfl,rfl,rfl⟩:=hcut;go_wp21;refine bj d0 (An · (gQ j) (gP j) e8) λh6 R=>?_;have g9:=Am (t:=t) (gQ j) (gP j) (aj t 2 Jg (aT n.length 12 y));have b6:=U (Tg (t:=t) (of:=j) (nums:=n) (out:=w) d3.i f7 rfl);have c6:=U ((bu (t:=t) 2 Jg (aT n.length 12 y)).u (jX (t:=t) (gQ j) (gP j) _));have P:=U ((((dN n.length 12 y).u (aF (t:=t) 2 Jg _)).u (iJ (t:=t) (gQ j) (gP j) _)).h.trans d7.i);generalize bU t (gQ j) (gP j) (aj t 2 Jg (aT n.length 12 y))=b1 at *
    obtain⟨⟨o,q⟩,p⟩:=b1;simp only at R g9 b6 c6 P;have j5:(-2147483648:Int)<=o/\o<=4294967295:=Zm;obtain⟨h,D⟩:=R.i.aL;obtain⟨-,-,-,-,-,-,b8,-,-,-,a5,-,-,-,-,I,b0⟩:=D.K;have a2:=U D;go_upto_region 15 with fail;go_cut [48] (λa4 wc=>a4=.bool (decide (p.s.e=0/\(4:Int)<j))/\wc=h6);case first=>
     by_cases H:p.s.e=0
     .have f0:(p.s.e==0)=true:=by rw[H];rfl
      by_cases O:(4:Int)<j
      .have z:af (decide (p.s.e=0/\(4:Int)<j)=true):=U (by simp[H,O]);go_wp2;go_meet;simp_all
      .have z:af (decide (p.s.e=0/\(4:Int)<j)=false):=U (by simp[O]);go_wp2;go_meet;simp_all
     .have f0:(p.s.e==0)=false:=by rw[Yi];omega
      have z:af (decide (p.s.e=0/\(4:Int)<j)=false):=U (by simp[H]);go_wp2;go_meet;simp_all
    case rest=>
     obtain⟨rfl,rfl⟩:=hcut;generalize g4:decide (p.s.e=0/\(4:Int)<j)=h3;have z:=U g4;go_upto_if 48 with fail;go_cut [] (λwc=>af (aY f d t c (jR j ((o,q),p)) [eV (.slice iE n.length B) n] b wc));case first=>
      cases h3 with
      |false=>
       have C:af (jR j ((o,q),p)=p):=U (by unfold jR;rw[Y2 (λx=>of_decide_eq_false z.i ⟨x.1,x.2.1⟩)]);go_wp2;go_meet;rw[C.i];omega
      |true=>
       obtain⟨H,O⟩:=of_decide_eq_true z.i;have d4:=U H;have a9:j<p.h.length:=by rw[P.i];omega
       obtain⟨j1,j0,h2,g8,g3,-,-,-,k3,-,-,-,-,k4,k5,-⟩:=nY a2.i (i:=j) a9;have f6:=(a2.i.dp j (p.h.getD j bz) h2 (by simp[a9]) g3).1;have c5:af (hY p j=p.h.getD j bz):=U rfl;have g6:(p.h.getD j bz).aI.length<=1000000000:=(by have:=g7 (p.h.getD j bz) (by rw[<-P.i];simp[a9]);omega);have j3:((j:Int)<(p.h.length:Int)):=Zm;have d5:=U O;rw[g8]at b8;have e3:=U (BC (cO.bH f6) g6 o);go_wp21;refine e3.i.mono ?_;rintro a6 b2 ⟨rfl,rfl⟩;cases f4:(p.h.getD j bz).aI.contains o with
       |true=>
        have C:af (jR j ((o,q),p)=p):=U (by unfold jR;rw[Y2 (λx=>by simp only at x;rw[c5.i,f4]at x;exact absurd x.2.2 Zq)]);go_wp2;go_meet;rw[C.i];omega
       |false=>
        have C:af (jR j ((o,q),p)=ch 8 q p):=U (by unfold jR;rw[Y9 ⟨d4.i,d5.i,by simp only;rw[c5.i];omega⟩]);go_wp21;refine bj R (nK · 8 q) λc7 a0=>?_;go_wp2;go_meet;rw[C.i];omega
     case rest=>
      rename Zw=>k0;have S:=hcut;have e0:af (bp (aT n.length 12 y) (jR j ((o,q),p))):=U (c6.i.u (by unfold jR;split;all_goals simp_all[oN,fI]));have d6:af ((jR j ((o,q),p)).h=a.h):=U (by unfold jR;split<;>exact P.i);generalize jR j ((o,q),p)=r at *
      obtain⟨h,D⟩:=S.i.aL;obtain⟨-,-,-,-,-,-,-,-,-,-,a5,-,-,-,-,I,b0⟩:=D.K;have e4:=U (BC (cO.bH (S.i.bv (i:=0) rfl)) Zm o);go_wp21;refine e4.i.mono ?_;rintro a6 b2 ⟨rfl,rfl⟩;generalize f2:n.contains o=F at *
      have b7:=U f2;go_upto_region 20 with fail;go_cut [75] (λa4 wc=>a4=.bool (decide (r.s.e=0)&&F)/\wc=b2);case first=>
       by_cases a8:r.s.e=0
       .have f1:(r.s.e==0)=true:=by rw[a8];rfl
        have z:af ((decide (r.s.e=0)&&F)=F):=U (by simp[a8]);go_wp2;go_meet;simp_all
       .have f1:(r.s.e==0)=false:=by rw[Yi];omega
        have z:af ((decide (r.s.e=0)&&F)=false):=U (by simp[a8]);go_wp2;go_meet;simp_all
      case rest=>
       obtain⟨rfl,rfl⟩:=hcut;generalize g5:(decide (r.s.e=0)&&F)=h4;have z:=U g5;go_upto_if 75 with fail;go_cut [] (λwc=>af (aY f d t c (ii n o q r) [eV (.slice iE n.length B) n] b wc));case first=>
        cases h4 with
        |false=>
         have a7:af (ii n o q r=r):=U (by unfold ii;rw[Y2 (λx=>by have:=z.i;rw[<-b7.i,x.2,decide_eq_true x.1]at this;exact absurd this Ze)]);go_wp2;go_meet;rw[a7.i];omega
        |true=>
         have a7:af (ii n o q r=ch 6 q r):=U (by unfold ii;rw[Y9 (by have:=z.i;rw[<-b7.i]at this;simpa using this)]);go_wp21;refine bj S (nK · 6 q) λc7 a0=>?_;go_wp2;go_meet;rw[a7.i];omega
       case rest=>
        rename Zw=>c7;have a0:=hcut;have d9:af (bp (aT n.length 12 y) (ii n o q r)):=U (e0.i.u (by unfold ii;split;all_goals simp_all[oN,fI]));have e2:af ((ii n o q r).h=a.h):=U (by unfold ii;split<;>exact d6.i);generalize ii n o q r=E at *
        have e1:=U (d9.i.u (bu (t:=t) 4 [58] E));go_wp21;refine bj a0 (ec · 4 [58]) λM b3=>?_;(try clear a5 I b0);have g2:af (∀L,(M.alloc L).ownsRow 0 3 1 (.slice iE n.length B) n.length (n.map (Y))):=U (λL=>bQ (b3.i.bv (i:=0) rfl) ((ar [] M).A L) Zq);go_wp2_with (at_builtin;go_must (refine ku us underlying24 (g2.i _) [Y o] (heap_alloc_new M _) Zy Zm Zq (H:=M.heap.size+1) Zq ?_;intro c0 b9 k1 c4 c3 c1 f9;have d1:=U (b3.i.hR (i:=0) rfl ((ar [] M).A _) c4 c3 c1 Zq);clear c4 c3 c1 f9));refine(um o Zm Zm _).mono ?_;rintro a6 k2 ⟨rfl,h0⟩;have b4:=U (d1.i.ae h0);have g1:=uE o Zm Zm;have N:=U (b5.i.symm.trans b6.i);unfold EA at N;unfold dk at g1 N;generalize Lib.itoa o=G at *
        have j7:¬(9223372036854775807<w.length+5):=Zm;have j8:¬(9223372036854775807<w.length+5+G.length):=Zm;have j9:¬(9223372036854775807<w.length+5+G.length+2):=Zm;go_wp21;refine(jy b4.i.aL 2 Jg).mono ?_;rintro a6 b2 ⟨rfl,rfl⟩;cases g0:aM (aj t 4 [58] E) 2 Jg with
        |true=>
         have j4:n.length<12:=by
          rcases Yj n.length 12 with x|x
          .exact x
          .have I:=xq (n:=n.length) (m:=12) Zm y;exact absurd (Xo g0) (by rw[(e1.i I).1];omega)
         have a1:af (di t j (14-(n++[o]).length) (n++[o]) (w++JA++G++[58,32]) (aj t 4 [58] E)=di t j (14-u.length) u [] a):=U (N.i.trans Zu).symm;have d8:af ((aj t 4 [58] E).h=a.h):=U e2.i;go_wp2;refine⟨⟨some ⟨c0,0,none⟩,b9,n++[o],w++JA++G++[58,32],aj t 4 [58] E,Zq,?_,Zg,Zg,?_,a1,d8⟩,by simp[nZ];omega⟩
         .rfl
         simp_all
        |false=>
         have a1:af (di t j (14-u.length) u [] a=((n++[o],w++JA++G++[58,32]),aj t 4 [58] E)):=U (N.i.trans Zu);go_wp2;go_ret2;rw[a1.i];refine⟨.slice (some ⟨c0,0,none⟩) (n.length+1) b9,?_,b4.i,Zg,Zu⟩;rfl
  .have e9:(y.s.e==0)=false:=Zu;have d2:af (di t j (14-u.length) u [] a=((n,w),y)):=U (b5.i.symm.trans (Kk c2));go_wp2;go_ret2;rw[d2.i];exact⟨_,rfl,a3.i,Zx,Zx⟩
end
section
variable {X o : Nat -> Prop} {d b N' : Nat} {t : Zb} {a j : ai} {c f k l q : Zw} {g : PV} {L : List Th} {i : Nat} {h p : Th}
def aY.nil(i:aY X d t b a L f c):aY X d t b a (eV (.slice none 0 0) []::L) f c:=by
 refine⟨i.aL.ca ?_,i.fr,?_,?_,?_⟩
 .rintro l (h|⟨g,e,h⟩)
  .exact Y8 h
  .rcases Yg.1 e with rfl|e
   .grind [Th.aH,Value.ownBlock]
   .exact Ya ⟨g,e,h⟩
 .intro g e;rcases Yg.1 e with rfl|e
  .exact zq c
  .exact i.y g e
 .intro g e l h;rcases Yg.1 e with rfl|e
  .grind [Th.aH,Value.ownBlock]
  .exact i.bX g e l h
 .intro j k g m r e q n o p;cases j with
  |zero=>grind [Th.aH,Value.ownBlock]
  |succ j=>
   cases k with
   |zero=>grind [Th.aH,Value.ownBlock]
   |succ k=>exact i.cd j k g m Zm Zu Zu n o p
def aY.i9(i:aY X d t b a L f c):aY X d t b a (cS (.slice none 0 0) []::L) f c:=by
 refine⟨i.aL.ca ?_,i.fr,?_,?_,?_⟩
 .rintro l (h|⟨g,e,h⟩)
  .exact Y8 h
  .rcases Yg.1 e with rfl|e
   .grind [Th.aH,Value.ownBlock]
   .exact Ya ⟨g,e,h⟩
 .intro g e;rcases Yg.1 e with rfl|e
  .exact Pd c
  .exact i.y g e
 .intro g e l h;rcases Yg.1 e with rfl|e
  .grind [Th.aH,Value.ownBlock]
  .exact i.bX g e l h
 .intro j k g m r e q n o p;cases j with
  |zero=>grind [Th.aH,Value.ownBlock]
  |succ j=>
   cases k with
   |zero=>grind [Th.aH,Value.ownBlock]
   |succ k=>exact i.cd j k g m Zm Zu Zu n o p
def aY.h9{j:Th}(l:aY X d t b a (h::j::L) f c):aY X d t b a (j::h::L) f c:=by
 have n:∀e,e∈j::h::L->e∈h::j::L:=by
  simp_all
 refine⟨l.aL.ca ?_,l.fr,λe i=>l.y e (n e i),λe i=>l.bX e (n e i),?_⟩
 .rintro w (m|⟨e,i,m⟩)
  .exact Y8 m
  .exact Ya ⟨e,n e i,m⟩
 .intro g r e p x i q;have o:∀g:Nat,∃k,(g=0->k=1)/\(g=1->k=0)/\(g≠0->g≠1->k=g)/\(j::h::L)[g]?=(h::j::L)[k]?:=by
   intro g;match g with
   |0=>simp
   |1=>simp
   |g+2=>simp
  obtain⟨k,y,z,A,u⟩:=o g;obtain⟨s,B,C,D,v⟩:=o r;exact l.cd k s e p Zm (u▸i) (v▸q)
def xT{o p}(g:bt)(l:aY X d t b a (eV o g.aI::eV p g.aB::L) f c)(w:b<=1000000000):Calls prog 46 #[Zp d,.agg #[Y g.w,Y g.n,Y g.of,o,p,Y g.dR,Zs g.a5,Y g.y]] c λq k=>q=.returned (Y a.h.length)/\aY X d t (b+1) (dm g a) L f k:=by
 refine(Od (X:=jq X L) l.aL ?_ g o p (l.bv (i:=0) rfl) (l.bv (i:=1) rfl) ?_ w).mono ?_
 .rintro j (e|⟨h,m,e⟩)
  .exact Y8 e
  .exact Ya ⟨h,Zg,e⟩
 .intro j e;have s:∀(i:Nat) h,(i=0\/i=1)->(eV o g.aI::eV p g.aB::L)[i]?=some h->h.aH=some j->¬jq X L j:=by
   rintro i h C m r (z|⟨u,x,y⟩)
   .exact l.bX h (Yh m) j r z
   .obtain⟨A,D⟩:=List.getElem?_of_mem x;exact l.cd i (A+2) h u Zm m Zu j r y
  rcases e with e|e
  .exact⟨wZ (i:=0) rfl e,s 0 _ (Y8 rfl) rfl e⟩
  .exact⟨wZ (i:=1) rfl e,s 1 _ (Ya rfl) rfl e⟩
 .rintro q E ⟨rfl,B,v⟩;refine⟨rfl,l.au.au.call ⟨B,v.ca ?_⟩⟩;rintro j _ (e|⟨h,m,e⟩)
  .exact Y8 e
  .exact Ya ⟨h,Zg,e⟩
def vN(t:Zb)(d:List Int)(f:Zb)(c:ge)(b:Int)(a:ai):Bool×List Int×Zb×ai:=
 if a.s.e≠0 then (true,d,f,a)
 else if aM (eR c.text b a) 4 [44]=true then eh t (13-(d++[b]).length) (d++[b]) (f++c.text++JD++dk b++[44,32]) (bq t (eR c.text b a))else (false,d++[b],f++c.text++JD++dk b,eR c.text b a)
def Vg{d f c b}(g:a.s.e=0):vN t d f c b a=if aM (eR c.text b a) 4 [44]=true then eh t (13-(d++[b]).length) (d++[b]) (f++c.text++JD++dk b++[44,32]) (bq t (eR c.text b a))else (false,d++[b],f++c.text++JD++dk b,eR c.text b a):=by
 simp_all[vN]
theorem vM{b c d}(f:a.s.e≠0):eh t b c d a=(false,c,d,a):=by
 cases b<;>simp_all[eh]
def Vf{nums:List Int}{out}{b:ge×ai}{v:(Int×Int)×ai}(g:a.s.e=0)(h:nums.length<=12)(e:bc t 2 (aT (aT nums.length 12 a).ax 40 (aT nums.length 12 a))=b)(f:bU t (-2147483648) 2147483647 (aj t 4 [61] b.2)=v):eh t (13-nums.length) nums out a=vN t nums out b.1 v.1.1 (ii nums v.1.1 v.1.2 v.2):=by
 have c:13-nums.length=(12-nums.length)+1:=Zm;have d:13-(nums++[v.1.1]).length=12-nums.length:=Zq;unfold vN;rw[d,c];rw[eh,Y2 Zm];simp only[e,f];rfl
def un(t:Zb)(b:Zb)(a:Bool×List Int×Zb×ai):ai:=
 if a.1=true then a.2.2.2
 else gi (a.2.2.1++[32,125,59,10]) (eM b (aj t 4 [59] (aj t 4 Jl a.2.2.2)).h.length (dm ⟨5,0,0,a.2.1,[],0,[],0⟩ (aj t 4 [59] (aj t 4 Jl a.2.2.2))))
def KZ{d}{b:List Int}{c:Zb}{a:ai}:un t d (false,b,c,a)=gi (c++[32,125,59,10]) (eM d (aj t 4 [59] (aj t 4 Jl a)).h.length (dm ⟨5,0,0,b,[],0,[],0⟩ (aj t 4 [59] (aj t 4 Jl a)))):=rfl
def La{d}{b:List Int}{c:Zb}{a:ai}:un t d (true,b,c,a)=a:=rfl
def Vj(i4:bW X d t b a c)(j2:b+100000<=1000000000):Calls prog 87 #[Zp d] c (GP X d t (b+100000) (jS t a) (.tuple #[]) c):=by
 have f4:=U (mz i4);obtain⟨i1,g8,h7,h8,h9⟩:=info_parts us;have i0:(Y 0).cells.size=1:=rfl;go_in;go_wp21;refine bj f4 (ec · 2 Jo) λl S=>?_;go_wp21;refine xa S (xh · 2 Zm) λn f3 c7 g0 c5 a0=>?_;have b4:=U (a0.i.A (oW n));go_wp21;refine bj b4 (ec · 4 Jv) λk9 a1=>?_;obtain⟨a6,a7,a8,a9,b0,b1,b2,b3⟩:=a1.i.K (i:=0) rfl;have j8:¬(9223372036854775807<5+n.text.length):=Zm;have j9:¬(9223372036854775807<5+n.text.length+3):=Zm;have a3:af (jS t a=un t n.text (eh t 13 [] (Jm++n.text++Jd) (aj t 4 Jv f3))):=by
  show _=_;unfold jS un;simp only[g0.i]
 generalize j3:aj t 4 Jv f3=c9 at *
 have w:=U (a1.i.nil);go_wp2;go_loopw [3,4] (λP v j0=>∃(iE:Option Addr) (J:Nat) (f:List Int) (h:Zb) (j:ai),v=.slice iE f.length J/\P=Zs h/\f.length<=12/\h.length<=2100+2100*f.length/\af (aY X d t (b+1+2*f.length) j [eV (.slice iE f.length J) f,.obj c7.heap.size (oW n)] c j0)/\af (eh t (13-f.length) f h j=eh t 13 [] (Jm++n.text++Jd) c9)) (λ_ v _=>14-nZ v)
 case atStart=>exact⟨none,0,[],Jm++n.text++Jd,c9,rfl,Yo Value.string (jr Zq),Zq,Zx,w,U rfl⟩
 case round=>
  obtain⟨iE,J,f,h,u,rfl,rfl,g9,j6,c0,a2⟩:=hrel;obtain⟨g,q⟩:=c0.i.aL;obtain⟨d2,d7,d8,d9,e0,e1,e2,e3,e4,d3,a4,d4,c2,d5,d6,z,O⟩:=q.K;by_cases a5:u.s.e=0
  .have g5:(u.s.e==0)=true:=by rw[a5];rfl
   have f9:=U a5;go_wp21;refine bj c0 (sV · f.length 12) λl0 S=>?_;obtain⟨g,q⟩:=S.i.aL;obtain⟨-,-,-,-,-,-,-,-,-,-,-,-,c2,-,-,z,O⟩:=q.K;go_wp21;refine bj S (sV · (aT f.length 12 u).ax 40) λl1 d1=>?_;have f1:=(OP (aT f.length 12 u).ax 40 (aT f.length 12 u)).u (uM (t:=t) 2 _);go_wp21;have j5:=c5;refine(xh d1.i.aL 2 Zm).mono ?_;rintro M l2 ⟨rfl,i5,c4,c5⟩;have a0:=U (d1.i.call ⟨i5,c4⟩);generalize h4:bc t 2 (aT (aT f.length 12 u).ax 40 (aT f.length 12 u))=c6 at *
   obtain⟨p,c8⟩:=c6;have g1:=U h4;simp only at a0 c5;(try simp only at f1);have b4:=U (a0.i.A (oW p));go_wp21;refine bj b4 (ec · 4 [61]) λj1 a1=>?_;go_wp21;refine bj a1 (An · (-2147483648) 2147483647 Zm) λk4 w=>?_;have h5:=Am (t:=t) (-2147483648) 2147483647 (aj t 4 [61] c8);have I:=U (Vf (t:=t) (nums:=f) (out:=h) f9.i g9 g1.i rfl);have f2:=U (f1.u ((bu (t:=t) 4 [61] c8).u (jX (t:=t) (-2147483648) 2147483647 _)));(try simp only at I);generalize bU t (-2147483648) 2147483647 (aj t 4 [61] c8)=c6 at *
   obtain⟨⟨k,x⟩,o⟩:=c6;simp only at w h5 I f2;have g2:=U (BC (cO.bH (w.i.bv (i:=1) rfl)) Zm k);go_wp21;refine g2.i.mono ?_;rintro M k5 ⟨rfl,h6⟩;subst h6;obtain⟨g,q⟩:=w.i.aL;obtain⟨-,-,-,-,-,-,-,-,-,-,a4,-,-,-,-,z,O⟩:=q.K;by_cases r:o.s.e=0
   .have g6:(o.s.e==0)=true:=by rw[r];rfl
    have g7:(o.s.e != 0)=false:=by rw[r];rfl
    cases e6:f.contains k with
    |true=>
     have N:ii f k x o=ch 6 x o:=by unfold ii;rw[Y9 ⟨r,e6⟩]
     have e9:(ch 6 x o).s.e≠0:=by simp[ch,kA,r]
     have A:=U (a3.i.trans (Yo (un t n.text) (a2.i.symm.trans (I.i.trans (by rw[N];unfold vN;rw[Y9 e9]:_=(true,f,h,ch 6 x o))))));go_wp21;refine bj w (nK · 6 x) λC F=>?_;generalize ch 6 x o=D at *
     have j4:(D.s.e != 0)=true:=by simpa using e9
     obtain⟨g,q⟩:=F.i.aL;obtain⟨-,-,-,-,-,-,-,-,-,-,a4,-,-,-,-,z,O⟩:=q.K;go_wp2;go_end0;rw[A.i,La];exact⟨rfl,(F.i.aS Zm).fin⟩
    |false=>
     have N:ii f k x o=o:=by unfold ii;rw[Y2 (λB=>by rw[e6]at B;exact absurd B.2 Zq)]
     have j7:f.length<12:=by
      rcases Yj f.length 12 with B|B
      .exact B
      .have z:=xq (n:=f.length) (m:=12) Zm u;exact absurd r (by rw[(f2.i z).1];exact z)
     have A:=U (a2.i.symm.trans (I.i.trans ((Yo (vN t f h p k) N).trans (Vg r))));obtain⟨a6,a7,a8,a9,b0,b1,b2,b3⟩:=w.i.K (i:=0) rfl;go_wp21;refine bj w (LW · p.text k Zm) λC F=>?_;generalize eR p.text k o=D at *
     have h3:af (∀P,(C.alloc P).ownsRow 0 3 1 (.slice iE f.length J) f.length (f.map (Y))):=U (λP=>bQ (F.i.bv (i:=1) rfl) ((ar [] C).A P) Zq);have h1:f.length+1<=maxLen:=Zn;go_wp2_with (at_builtin;go_must (refine wpList_append_lies _ Zr _ _ _ Zr 0 3 i1 _ 1 8 underlying24 g8 h7 h8 h9 i0 Zm (.slice iE f.length J) f.length (f.map (Y)) Zr (h3.i _) ⟨C.heap.size,0,none⟩ 1 1 [Y k] Zr Zr (World.news_of_block (cs:=#[Y k]) (t:=3) (fr:=(0,0)) (heap_alloc_new C _)) Zy Zm h1 Zm Zq (C.heap.size+1) Zq ?_;intro g4 g3 k6 f0 e7 e5 h0;have f6:=U (F.i.hR (i:=1) rfl ((ar [] C).A _) f0 e7 e5 Zq);clear f0 e7 e5 h0));refine(um k Zm Zm _).mono ?_;rintro M k7 ⟨rfl,c4⟩;have b5:=U (f6.i.ae c4);have h2:=uE k Zm Zm;unfold dk at h2 A;generalize Lib.itoa k=y at *
     obtain⟨a6,a7,a8,a9,b0,b1,b2,b3⟩:=b5.i.K (i:=0) rfl;have k0:¬(9223372036854775807<h.length+p.text.length):=Zm;have k1:¬(9223372036854775807<h.length+p.text.length+3):=Zm;have k2:¬(9223372036854775807<h.length+p.text.length+3+y.length):=Zm;go_wp21;refine(jy b5.i.aL 4 [44]).mono ?_;rintro M j1 ⟨rfl,rfl⟩;have d0:=U (b5.i.au);cases e8:aM D 4 [44]with
     |true=>
      have f8:af (eh t (13-(f++[k]).length) (f++[k]) (h++p.text++JD++y++[44,32]) (bq t D)=eh t 13 [] (Jm++n.text++Jd) c9):=U (A.i.trans (by rw[Y9 e8])).symm;go_wp21;refine bj d0 (kE ·) λk8 f5=>?_;have k3:¬(9223372036854775807<h.length+p.text.length+3+y.length+2):=Zm;go_wp2;refine⟨⟨some ⟨g4,0,none⟩,g3,f++[k],h++p.text++JD++y++[44,32],bq t D,Zq,?_,Zx,Zx,?_,f8⟩,by simp[nZ];omega⟩
      .exact Yo Value.string (jr Zq)
      .have:=f5.i.aS (N':=b+1+2*(f++[k]).length) Zx;exact U (by simpa using this)
     |false=>
      have b9:=U (a3.i.trans ((Yo (un t n.text) (A.i.trans (by rw[Y2 (by simp[e8])]:_=(false,f++[k],h++p.text++JD++y,D)))).trans KZ));go_wp21;refine bj d0 (ec · 4 Jl) λi6 b6=>?_;go_wp21;refine bj b6 (ec · 4 [59]) λi7 b7=>?_;have b8:=U (b7.i);generalize aj t 4 [59] (aj t 4 Jl D)=E at *
      go_wp21;refine(xT (L:=[.obj c7.heap.size (oW n)]) ⟨5,0,0,f++[k],[],0,[],0⟩ (b8.i.nil.h9) Zm).mono ?_;rintro M i8 ⟨rfl,c1⟩;have G:=U c1;obtain⟨a6,a7,a8,a9,b0,b1,b2,b3⟩:=G.i.K (i:=0) rfl;go_wp21;refine bj G (yk · n.text E.h.length Zm) λi9 H=>?_;generalize eM n.text E.h.length (dm ⟨5,0,0,f++[k],[],0,[],0⟩ E)=R at *
      obtain⟨g,q⟩:=H.i.aL;obtain⟨d2,d7,d8,d9,e0,e1,e2,e3,e4,d3,a4,d4,c2,d5,d6,z,O⟩:=q.K;have c3:=q.bm;unfold ai.sz at c3;have i2:¬(9223372036854775807<R.i.length+(h.length+p.text.length+3+y.length)):=Zm;have i3:¬(9223372036854775807<R.i.length+(h.length+p.text.length+3+y.length)+4):=Zm;go_wp2;go_end0;rw[b9.i];exact⟨rfl,((H.i.gd (K:=50000) (s:=h++p.text++JD++y++[32,125,59,10]) (jr Zq) Zx).aS Zm).fin⟩
   .have g6:(o.s.e==0)=false:=by rw[Yi];exact r
    have g7:(o.s.e != 0)=true:=by simpa using r
    have N:ii f k x o=o:=by unfold ii;rw[Y2 (λB=>r B.1)]
    have A:=U (a3.i.trans (Yo (un t n.text) (a2.i.symm.trans (I.i.trans (by rw[N];unfold vN;rw[Y9 r]:_=(true,f,h,o))))));go_wp2;go_end0;rw[A.i,La];exact⟨rfl,(w.i.aS Zm).fin⟩
  .have g5:(u.s.e==0)=false:=by rw[Yi];exact a5
   have f7:=U (a2.i.symm.trans (vM a5));have b9:=U (a3.i.trans ((Yo (un t n.text) f7.i).trans KZ));go_wp21;refine bj c0 (ec · 4 Jl) λi6 b6=>?_;go_wp21;refine bj b6 (ec · 4 [59]) λi7 b7=>?_;have b8:=U (b7.i);generalize aj t 4 [59] (aj t 4 Jl u)=E at *
   go_wp21;refine(xT (L:=[.obj c7.heap.size (oW n)]) ⟨5,0,0,f,[],0,[],0⟩ (b8.i.nil.h9) Zm).mono ?_;rintro M i8 ⟨rfl,c1⟩;have G:=U c1;obtain⟨a6,a7,a8,a9,b0,b1,b2,b3⟩:=G.i.K (i:=0) rfl;go_wp21;refine bj G (yk · n.text E.h.length Zm) λi9 H=>?_;generalize eM n.text E.h.length (dm ⟨5,0,0,f,[],0,[],0⟩ E)=R at *
   obtain⟨g,q⟩:=H.i.aL;obtain⟨d2,d7,d8,d9,e0,e1,e2,e3,e4,d3,a4,d4,c2,d5,d6,z,O⟩:=q.K;have c3:=q.bm;unfold ai.sz at c3;have i2:¬(9223372036854775807<R.i.length+h.length):=Zm;have i3:¬(9223372036854775807<R.i.length+h.length+4):=Zm;go_wp2;go_end0;rw[b9.i];exact⟨rfl,((H.i.gd (K:=50000) (s:=h++[32,125,59,10]) (jr Zq) Zx).aS Zm).fin⟩
end
section
variable {f l : Nat -> Prop} {d c N' : Nat} {t : Zb} {b h : ai} {g q p k u : Zw} {j : PV} {L : List Th} {i : Nat} {a o : Th}
def Hr(t:Zb)(c:List Int)(e:Zc)(d:Zb)(a:ni)(b:ai):List Int×Zb×ai:=
 if aM b 4 Jl=true then (c++[a.r],d++a.d6++a.x.text++a.eZ++[59,32],b)
 else eU t (14-(c++[a.r]).length) (c++[a.r]) (e++[a.x.text]) (d++a.d6++a.x.text++a.eZ++[59,32]) b
theorem Ae{a d f c}(g:b.s.e≠0):eU t a d f c b=(d,c,b):=by
 cases a<;>simp_all[eU]
def afS{a:List Int}{names out}{c:ni×ai}(e:b.s.e=0)(g:a.length<=13)(f:dx t names false (aT a.length 12 b)=c):eU t (14-a.length) a names out b=Hr t a names out c.1 (aj t 4 [59] c.2):=by
 have d:14-a.length=(13-a.length)+1:=Zm;simp_all[Hr,eU]
def Dg(t:Zb)(b:Zb)(a:List Int×Zb×ai):ai:=
 gi (a.2.1++JB) (eM b (aj t 4 [59] (aj t 4 Jl a.2.2)).h.length (dm ⟨12,0,0,[],a.1,0,[],0⟩ (aj t 4 [59] (aj t 4 Jl a.2.2))))
def afX(i9:bW f d t c b g)(k5:c+100000<=1000000000):Calls prog 88 #[Zp d] g (GP f d t (c+100000) (jG t b) (.tuple #[]) g):=by
 have g0:=U (mz i9);obtain⟨i1,h2,h7,h8,h9⟩:=info_parts us;have i0:(Y 0).cells.size=1:=rfl;obtain⟨j2,j3,j4,j5,j6⟩:=info_parts ut;have j7:(Value.string ⟨#[]⟩).cells.size=1:=rfl;go_in;go_wp21;refine bj g0 (ec · 2 Jf) λk I=>?_;go_wp21;refine xa I (xh · 2 Zm) λq f9 b4 g4 i5 b5=>?_;have b1:=U (b5.i.A (oW q));go_wp21;refine bj b1 (ec · 4 Jv) λl7 G=>?_;obtain⟨a2,a3,a4,a5,a6,a7,a8,a9⟩:=G.i.K (i:=0) rfl;have l0:¬(9223372036854775807<7+q.text.length):=Zm;have l1:¬(9223372036854775807<7+q.text.length+3):=Zm;have d1:af (jG t b=Dg t q.text (eU t 14 [] [] (Jp++q.text++Jd) (aj t 4 Jv f9))):=by
  show _=_;unfold jG Dg;simp only[g4.i]
 generalize k6:aj t 4 Jv f9=c7 at *
 have J:=U (G.i.i9.nil);go_wp2;go_loopw [3,4,5] (λz v j8 k3=>∃(iE:Option Addr) (C:Nat) (s:Option Addr) (u:Nat) (l:List Int) (o:Zc) (p:Zb) (h:ai),v=.slice iE l.length C/\j8=.slice s o.length u/\z=Zs p/\l.length<=13/\af (o.length=l.length)/\(h.s.e=0->l.length<=12)/\p.length<=2100+5000*l.length/\af (aY f d t (c+1+3*l.length) h [eV (.slice iE l.length C) l,cS (.slice s o.length u) o,.obj b4.heap.size (oW q)] g k3)/\af (eU t (14-l.length) l o p h=eU t 14 [] [] (Jp++q.text++Jd) c7)) (λ_ v _ _=>15-nZ v)
 case atStart=>exact⟨none,0,none,0,[],[],Jp++q.text++Jd,c7,rfl,rfl,Yo Value.string (jr Zq),Zq,U rfl,Zq,Zx,J,U rfl⟩
 case round=>
  obtain⟨iE,C,s,u,l,o,p,A,rfl,rfl,rfl,h5,b3,h3,k9,c0,d0⟩:=hrel;obtain⟨j,D⟩:=c0.i.aL;obtain⟨d3,e0,e1,e2,e3,e4,e5,e6,e7,d4,d5,d6,d7,d8,d9,R,f0⟩:=D.K;by_cases P:A.s.e=0
  .have h1:(A.s.e==0)=true:=by rw[P];rfl
   have g2:=U P;have k7:=h3 P;go_wp21;refine bj c0 (sV · l.length 12) λk4 I=>?_;have k8:=i5;go_wp21;have g9:pj (.slice s o.length u) o k4:=I.i.bv (i:=1) (a:=cS (.slice s o.length u) o) rfl;have h0:∀c1,(Value.slice s o.length u).ownBlock=some c1->jq f [eV (.slice iE l.length C) l,cS (.slice s o.length u) o,.obj b4.heap.size (oW q)] c1:=λc1 c5=>wZ (i:=1) (a:=cS (.slice s o.length u) o) rfl c5;have g5:=U (EP I.i.aL g9 h0 (by have:=b3.i;omega) false Zm);refine g5.i.mono ?_;rintro c3 l8 ⟨rfl,j0,i2,i6,i7,i8⟩;have c8:=U (I.i.call ⟨j0,i2⟩);have f7:=Df (t:=t) o false (aT l.length 12 A);have d2:=U (afS (t:=t) (names:=o) (out:=p) g2.i h5 rfl);generalize dx t o false (aT l.length 12 A)=j1 at *
   obtain⟨⟨w,x,y,r⟩,f8⟩:=j1;simp only at c8 i6 i7 i8 f7 d2;have b5:=U (c8.i.A (oW r));have h6:=U (f7.u (bu (t:=t) 4 [59] f8));go_wp21;refine bj b5 (ec · 4 [59]) λH b1=>?_;generalize aj t 4 [59] f8=B at *
   have f5:af (∀z,(H.alloc z).ownsRow 0 3 1 (.slice iE l.length C) l.length (l.map (Y))):=U (λz=>bQ (b1.i.bv (i:=1) (a:=eV (.slice iE l.length C) l) rfl) ((ar [] H).A z) Zq);have f2:l.length+1<=maxLen:=Zn;have f3:o.length+1<=maxLen:=by have:=b3.i;unfold maxLen;omega
   have f4:(o.length+1)*16<=140737488355328:=by have:=b3.i;omega
   go_wp2_with (at_builtin;(first|(refine wpList_append_lies _ Zr _ _ _ Zr 0 3 i1 _ 1 8 underlying24 h2 h7 h8 h9 i0 Zm (.slice iE l.length C) l.length (l.map (Y)) Zr (f5.i _) ⟨H.heap.size,0,none⟩ 1 1 [Y w] Zr Zr (World.news_of_block (cs:=#[Y w]) (t:=3) (fr:=(0,0)) (heap_alloc_new H _)) Zy Zm f2 Zm Zq (H.heap.size+1) Zq ?_;intro g7 g6 E a0 S O c6;have G:=U (b1.i.hR (i:=1) rfl ((ar [] H).A _) a0 S O Zq);clear a0 S O c6 f5 f2;(obtain⟨a2,a3,a4,a5,a6,a7,a8,a9⟩:=G.i.K (i:=0) rfl);have f6:af (∀z,(E.alloc z).ownsRow 0 9 1 (.slice s o.length u) o.length (o.map λa1=>Zs a1)):=U (λz=>bQ (G.i.bv (i:=2) (a:=cS (.slice s o.length u) o) rfl) ((ar [] E).A z) Zq))|(refine wpList_append_lies _ Zr _ _ _ Zr 0 9 j2 _ 1 16 underlying30 j3 j4 j5 j6 j7 Zm (.slice s o.length u) o.length (o.map λa1=>Zs a1) Zr (f6.i _) ⟨E.heap.size,0,none⟩ 1 1 [.string ⟨(r.text).toArray⟩] Zr Zr (World.news_of_block (cs:=#[.string ⟨(r.text).toArray⟩]) (t:=9) (fr:=(0,0)) (heap_alloc_new E _)) Zy Zm f3 f4 Zq (E.heap.size+1) Zq ?_;intro e9 e8 l6 a0 S O c6;have J:=U (G.i.gU (i:=2) rfl ((ar [] E).A _) a0 S O Zq);clear a0 S O c6 f6 f3 f4;(clear a2 a3 a4 a5 a6 a7 a8 a9;obtain⟨a2,a3,a4,a5,a6,a7,a8,a9⟩:=J.i.K (i:=0) rfl;have l2:¬(9223372036854775807<p.length+x.length):=Zm;have l3:¬(9223372036854775807<p.length+x.length+r.text.length):=Zm;have l4:¬(9223372036854775807<p.length+x.length+r.text.length+y.length):=Zm;have l5:¬(9223372036854775807<p.length+x.length+r.text.length+y.length+2):=Zm))));have c9:=U J.i.au;refine(jy J.i.aL 4 Jl).mono ?_;rintro c3 E ⟨rfl,rfl⟩;have b2:=U (d0.i.symm.trans d2.i);unfold Hr at b2;simp only at b2;cases f1:aM B 4 Jl with
   |true=>
    have b8:=U (d1.i.trans (Yo (Dg t q.text) (b2.i.trans (by rw[Y9 f1]:_=(l++[w],p++x++r.text++y++[59,32],B)))));go_wp21;refine bj c9 (ec · 4 Jl) λj9 b6=>?_;go_wp21;refine bj b6 (ec · 4 [59]) λk0 b7=>?_;have b9:af (jG t b=gi (p++x++r.text++y++[59,32]++JB) (eM q.text (aj t 4 [59] (aj t 4 Jl B)).h.length (dm ⟨12,0,0,[],l++[w],0,[],0⟩ (aj t 4 [59] (aj t 4 Jl B))))):=U b8.i;generalize aj t 4 [59] (aj t 4 Jl B)=F at *
    go_wp21;refine(xT (L:=[cS (.slice (some ⟨e9,0,none⟩) (o.length+1) e8) (o++[r.text]),.obj b4.heap.size (oW q)]) ⟨12,0,0,[],l++[w],0,[],0⟩ (b7.i.nil) Zm).mono ?_;rintro c3 k1 ⟨rfl,c2⟩;have M:=U c2;obtain⟨a2,a3,a4,a5,a6,a7,a8,a9⟩:=M.i.K (i:=1) rfl;go_wp21;refine bj M (yk · q.text F.h.length Zm) λk2 N=>?_;generalize eM q.text F.h.length (dm ⟨12,0,0,[],l++[w],0,[],0⟩ F)=b0 at *
    obtain⟨j,D⟩:=N.i.aL;obtain⟨d3,e0,e1,e2,e3,e4,e5,e6,e7,d4,d5,d6,d7,d8,d9,R,f0⟩:=D.K;have c4:=D.bm;unfold ai.sz at c4;have i3:¬(9223372036854775807<b0.i.length+(p.length+x.length+r.text.length+y.length+2)):=Zm;have i4:¬(9223372036854775807<b0.i.length+(p.length+x.length+r.text.length+y.length+2)+3):=Zm;go_wp2;go_end0;rw[b9.i];exact⟨rfl,((N.i.gd (K:=90000) (s:=p++x++r.text++y++[59,32]++JB) (jr Zq) Zx).aS Zm).fin⟩
   |false=>
    have g1:af (eU t (14-(l++[w]).length) (l++[w]) (o++[r.text]) (p++x++r.text++y++[59,32]) B=eU t 14 [] [] (Jp++q.text++Jd) c7):=U (b2.i.trans (by rw[Y2 (by simp[f1])])).symm;have h4:B.s.e=0->(l++[w]).length<=12:=by
     intro g8;rcases Yj l.length 12 with c5|c5
     .simp;omega
     .have R:=xq (n:=l.length) (m:=12) Zm A;exact absurd g8 (by rw[(h6.i R).1];exact R)
    have g3:af ((o++[r.text]).length=(l++[w]).length):=U (by have:=b3.i;simp;omega);go_wp2;refine⟨⟨some ⟨g7,0,none⟩,g6,some ⟨e9,0,none⟩,e8,l++[w],o++[r.text],p++x++r.text++y++[59,32],B,Zq,Zq,?_,Zx,g3,h4,Zx,?_,g1⟩,by simp[nZ];omega⟩
    .exact Yo Value.string (jr Zq)
    .have:=c9.i.aS (N':=c+1+3*(l++[w]).length) Zx;exact U (by simpa using this)
  .have h1:(A.s.e==0)=false:=by rw[Yi];exact P
   have b8:=U (d1.i.trans (Yo (Dg t q.text) (d0.i.symm.trans (Ae P))));go_wp21;refine bj c0 (ec · 4 Jl) λj9 b6=>?_;go_wp21;refine bj b6 (ec · 4 [59]) λk0 b7=>?_;have b9:af (jG t b=gi (p++JB) (eM q.text (aj t 4 [59] (aj t 4 Jl A)).h.length (dm ⟨12,0,0,[],l,0,[],0⟩ (aj t 4 [59] (aj t 4 Jl A))))):=U b8.i;generalize aj t 4 [59] (aj t 4 Jl A)=F at *
   go_wp21;refine(xT (L:=[cS (.slice s o.length u) o,.obj b4.heap.size (oW q)]) ⟨12,0,0,[],l,0,[],0⟩ (b7.i.nil) Zm).mono ?_;rintro c3 k1 ⟨rfl,c2⟩;have M:=U c2;obtain⟨a2,a3,a4,a5,a6,a7,a8,a9⟩:=M.i.K (i:=1) rfl;go_wp21;refine bj M (yk · q.text F.h.length Zm) λk2 N=>?_;generalize eM q.text F.h.length (dm ⟨12,0,0,[],l,0,[],0⟩ F)=b0 at *
   obtain⟨j,D⟩:=N.i.aL;obtain⟨d3,e0,e1,e2,e3,e4,e5,e6,e7,d4,d5,d6,d7,d8,d9,R,f0⟩:=D.K;have c4:=D.bm;unfold ai.sz at c4;have i3:¬(9223372036854775807<b0.i.length+p.length):=Zm;have i4:¬(9223372036854775807<b0.i.length+p.length+3):=Zm;go_wp2;go_end0;rw[b9.i];exact⟨rfl,((N.i.gd (K:=90000) (s:=p++JB) (jr Zq) Zx).aS Zm).fin⟩
end
section
variable {t : Zb} {σ a b : ai}
structure dq(σ a:ai):Prop where
 h:∃l,a.h=σ.h++l/\∀r∈l,r.aI=[]/\r.aB=[]
 G:a.G=σ.G
 h4:a.ax=σ.ax/\a.an=σ.an/\a.ah=σ.ah/\a.ao=σ.ao/\a.i=σ.i
def Sm.h4(b:Sm σ a):a.ax=σ.ax/\a.an=σ.an/\a.ah=σ.ah/\a.ao=σ.ao/\a.i=σ.i:=by
 rw[b];simp
def Sm.al(b:Sm σ a):dq σ a:=⟨⟨[],by rw[b.h];simp,Zq⟩,b.G,b.h4⟩
theorem tL(σ:ai):dq σ σ:=⟨⟨[],Zq,Zq⟩,rfl,rfl,rfl,rfl,rfl,rfl⟩
theorem dq.u(m:dq σ a)(o:dq a b):dq σ b:=by
 obtain⟨⟨q,s,t⟩,n,c,d,e,f,g⟩:=m;obtain⟨⟨r,u,v⟩,p,h,i,j,k,l⟩:=o;refine⟨⟨q++r,Zu,?_⟩,p.trans n,h.trans c,i.trans d,j.trans e,k.trans f,l.trans g⟩;grind
def xn(a:bt)(b:a.aI=[])(c:a.aB=[])(σ:ai):dq σ (dm a σ):=⟨⟨[a],rfl,Zu⟩,rfl,rfl,rfl,rfl,rfl,rfl⟩
def Vs(σ:ai):dq σ (mw t σ).2:=by
 unfold mw;split
 .exact(gm σ).al
 .split
  .exact(gm σ).al
  .exact tL σ
def Fa(σ:ai):dq σ (cW t σ).2:=by
 unfold cW;split
 .exact tL σ
 .split
  .exact(gm σ).al.u (xn _ rfl rfl _)
  .split
   .exact(gm σ).al
   .split
    .exact(gm σ).al
    .split
     .exact(gm σ).al
     .split
      .exact(gm σ).al.u (Vs _)
      .exact(zY σ).al
def rV(a:Bool)(σ:ai):Sm σ (dC t a σ).2:=by
 unfold dC;split
 .exact(aF ..).u ((iJ ..).u (aF ..))
 .simp only;split
  .rfl
  .exact(aF ..).u ((iJ ..).u (aF ..))
def jW(b:Zc)(all:Bool)(σ:ai):Sm σ (cK t b all σ).2:=by
 unfold cK;simp only;generalize d:dQ t σ=a;have c:Sm σ a.2:=by rw[<-d];rfl
 generalize (if all=true then decide (0<=bY a.2 a.1.text)else b.contains a.1.text)=e
 split
 .exact c.u (CY ..)
 omega
theorem Vp(c:Zc)(all d:Bool)(σ:ai):dq σ (kF t c all d σ).2:=by
 unfold kF;simp only;generalize f:cK t c all (bq t σ)=e;have a:dq σ e.2:=by rw[<-f];exact((gm _).u (jW ..)).al
 by_cases b:aM e.2 4 [91]=true/\d=true
 .rw[Y9 b];exact a.u ((rV ..).al.u (xn _ rfl rfl _))
 .rw[Y2 b];exact a.u ((rV ..).al.u (xn _ rfl rfl _))
theorem Vo(g:Zc)(all:Bool)(σ:ai):dq σ (jd t g all σ).2:=by
 unfold jd;simp only;generalize i:cW t σ=a;have c:dq σ a.2:=by rw[<-i];exact Fa _
 by_cases e:aM a.2 4 [42]=true
 .rw[Y9 e];exact c.u ((gm _).al.u ((jW ..).al.u (xn _ rfl rfl _)))
 .rw[Y2 e];generalize j:cK t g all a.2=b;have d:dq σ b.2:=by rw[<-j];exact c.u (jW ..).al
  by_cases f:aM b.2 4 [91]=true
  .rw[Y9 f];exact d.u ((rV ..).al.u (xn _ rfl rfl _))
  .rw[Y2 f];by_cases h:aM b.2 4 [60]=true
   .rw[Y9 h];exact d.u ((rV ..).al.u (xn _ rfl rfl _))
   simp_all
def pB(a:Zc)(all:Bool)(σ:ai):dq σ (dx t a all σ).2:=by
 grind [dx,Vp,Vo]
def rC(a:Zc)(σ:ai):dq σ (dB t a σ).2:=by
 unfold dB;split
 .exact((gm σ).u (aF ..)).al
 .exact(pB ..).u (aF ..).al
def aeZ(of:Int)(v:(Int×Int)×ai):Sm v.2 (jR of v):=by
 unfold jR;split<;>rfl
def ae0(c:List Int)(b a:Int)(σ:ai):Sm σ (ii c b a σ):=by
 unfold ii;split<;>rfl
def afy(of:Int)(v:(Int×Int)×ai):bp v.2 (jR of v):=by
 grind [jR,oN,fI]
def afz(c:List Int)(b a:Int)(σ:ai):bp σ (ii c b a σ):=by
 grind [ii,oN,fI]
theorem sL(of:Int):∀(c:Nat) (a:List Int) (d:Zb) (σ:ai),Sm σ (di t of c a d σ).2/\bp σ (di t of c a d σ).2/\a.length<=(di t of c a d σ).1.1.length/\(σ.s.e=0->0<c->a.length<(di t of c a d σ).1.1.length)/\((di t of c a d σ).2.s.e=0->0<c->(di t of c a d σ).1.1.length<=12):=by
 intro c;induction c with
 |zero=>intro a d σ;exact⟨rfl,fI σ,Y4 _,λ_ b=>absurd b Zm,λ_ b=>absurd b Zm⟩
 |succ c r=>
  intro a d σ;by_cases f:σ.s.e=0
  .unfold di;rw[Y2 (by simpa using f)];simp only;generalize k:bU t (gQ of) (gP of) (aj t 2 [99,97,115,101] (aT a.length 12 σ))=v;have u:Sm σ v.2:=by rw[<-k];exact(dN _ _ _).u ((aF _ _ _).u (iJ _ _ _))
   have w:bp (aT a.length 12 σ) v.2:=by rw[<-k];exact(bu _ _ _).u (jX _ _ _)
   have g:=u.u ((aeZ of v).u ((ae0 a v.1.1 v.1.2 _).u (aF (t:=t) 4 [58] _)));have x:=w.u ((afy of v).u ((afz a v.1.1 v.1.2 _).u (bu (t:=t) 4 [58] _)));change Sm σ (aj t 4 [58] (ii a v.1.1 v.1.2 (jR of v)))at g;have l:(if(if v.2.s.e=0/\4<of/\(hY v.2 of).aI.contains v.1.1=false then ch 8 v.1.2 v.2 else v.2).s.e=0/\a.contains v.1.1=true then ch 6 v.1.2 (if v.2.s.e=0/\4<of/\(hY v.2 of).aI.contains v.1.1=false then ch 8 v.1.2 v.2 else v.2)else (if v.2.s.e=0/\4<of/\(hY v.2 of).aI.contains v.1.1=false then ch 8 v.1.2 v.2 else v.2))=ii a v.1.1 v.1.2 (jR of v):=rfl
   rw[l];generalize aj t 4 [58] (ii a v.1.1 v.1.2 (jR of v))=h at *
   have y:h.s.e=0->a.length<12:=by
    intro o;rcases Yj a.length 12 with b|b
    .exact b
    .have i:=xq (n:=a.length) (m:=12) Zm σ;exact absurd o (by rw[(x i).1];exact i)
   by_cases j:aM h 2 [99,97,115,101]=true
   .rw[Y9 j];obtain⟨p,z,A,B,q⟩:=r (a++[v.1.1]) (d++[99,97,115,101,32]++dk v.1.1++[58,32]) h;refine⟨g.u p,λb=>absurd f b,?_,?_,?_⟩
    .grind
    .grind
    .intro b _;cases c with
     |zero=>
      grind [di]
     |succ c=>exact q b Zm
   .rw[Y2 j];refine⟨g,λb=>absurd f b,Zq,Zq,?_⟩;grind
  .rw[Kk f];refine⟨rfl,fI σ,Y4 _,λb=>absurd b f,λb=>absurd b f⟩
def gS(d:cr σ)(c:dq σ a):cr a:=by
 intro f b e;rw[c.G]at b;obtain⟨j,i,_⟩:=c.h;obtain⟨g,h⟩:=d f b e;grind
def wi(d:cr σ)(c:Int)(g:c≠1):cr (bc t c σ).2:=by
 unfold bc;have b:=gS d (oL (t:=t) σ).al;split
 .omega
 .split
  .exact gS b (CY ..).al
  .intro f a e;simp only[Yn,Yc]at a;rcases a with a|rfl
   .exact b f a e
   simp_all
def rS(a:Int)(σ:ai):(bc t a σ).2.h=σ.h:=by
 unfold bc;split
 .rfl
 .split<;>rfl
def abH(a:cr σ):0<=(cz t σ).1.1/\(4<(cz t σ).1.1->(cz t σ).1.1<σ.h.length):=by
 unfold cz;split
 .split
  .simp
  .rename_i f b;have c:0<=bY σ σ.s.x.text:=by
    omega
   have d:(dw σ).a1=1:=Classical.byContradiction λe=>b (Ya (Y8 e));have:=a _ (FX c) d;simp_all
 grind
def aby(a:σ.s.x.text.length<=2000):(cz t σ).1.2.length<=2000:=by
 grind [cz]
end
section
variable {t : Zb} {σ a b : ai}
structure fw(σ a:ai):Prop where
 c:σ.ax<=a.ax
 t:σ.an<=a.an
 p:σ.ah.length<=a.ah.length
theorem tG(σ:ai):fw σ σ:=⟨Int.le_refl _,Int.le_refl _,Y4 _⟩
theorem fw.u(d:fw σ a)(e:fw a b):fw σ b:=⟨Int.le_trans d.c e.c,Int.le_trans d.t e.t,Yz d.p e.p⟩
theorem dq.cC(b:dq σ a):fw σ a:=by
 obtain⟨_,_,c,d,e,_⟩:=b;exact⟨Zm,Zm,Zu⟩
theorem Sm.cC(b:Sm σ a):fw σ a:=b.al.cC
def xe(a:Int)(σ:ai):fw σ (bc t a σ).2:=by
 unfold bc;split
 .exact(oL σ).cC
 .split
  .exact((oL σ).u (CY ..)).cC
  .exact⟨Int.le_refl _,Int.le_refl _,Y4 _⟩
def Ku(b:Zb)(a:Int)(σ:ai):fw σ (eR b a σ)/\(eR b a σ).ax=σ.ax+1:=by
 unfold eR jg;simp only;split
 .exact⟨⟨Zg,Int.le_refl _,Y4 _⟩,rfl⟩
 .exact⟨⟨Zg,Int.le_refl _,Y4 _⟩,rfl⟩
def EH(b:Zb)(a:Int)(σ:ai):fw σ (eM b a σ):=by
 unfold eM jg;split
 .exact⟨Int.le_refl _,Int.le_refl _,Y4 _⟩
 .exact tG σ
def EG(a:bt)(σ:ai):fw σ (dm a σ):=⟨Int.le_refl _,Int.le_refl _,Y4 _⟩
def Bh(a:Zb)(σ:ai):fw σ (gi a σ):=⟨Int.le_refl _,Int.le_refl _,Y4 _⟩
def Ts(j:(iG t σ).s.e=0):σ.ax+1<=(iG t σ).ax/\fw σ (iG t σ):=by
 unfold iG at *
 simp only at *
 generalize g:bc t 2 (aj t 2 Je (aT σ.ax 40 σ))=a at *
 have b:fw σ a.2:=by rw[<-g];exact((dN ..).u (aF ..)).cC.u (xe ..)
 generalize h:bU t (-2147483648) 4294967295 (aj t 4 [61] a.2)=v at *
 have d:fw σ (aj t 4 [59] v.2):=by
  refine b.u ?_;rw[<-h];exact((aF ..).u ((iJ ..).u (aF ..))).cC
 split
 .simp_all
 .obtain⟨i,k⟩:=Ku a.1.text v.1.1 (aj t 4 [59] v.2);have f:=d.u (i.u (Bh ([99,111,110,115,116,32]++a.1.text++JD++dk v.1.1++[59,10]) _));refine⟨?_,f⟩;show σ.ax+1<=(eR a.1.text v.1.1 (aj t 4 [59] v.2)).ax;simp_all[fw.c]
theorem TD(σ:ai):fw σ (jh t σ):=by
 unfold jh;simp only;generalize c:dx t [] true (aj t 2 Ja σ)=a;have b:fw σ a.2:=by rw[<-c];exact(aF ..).cC.u (pB ..).cC
 split
 .omega
 .exact b.u ⟨Int.le_refl _,Int.le_refl _,Y4 _⟩
def TC:∀(a:Nat) (c:List Int) (b:Zc) (d:Zb) (σ:ai),fw σ (eU t a c b d σ).2.2:=by
 intro a;induction a with
 |zero=>intro c b d σ;exact tG σ
 |succ a h=>
  intro c b d σ;unfold eU;split
  .exact tG σ
  .simp only;generalize g:dx t b false (aT c.length 12 σ)=e;have f:fw σ (aj t 4 [59] e.2):=by rw[<-g];exact((dN ..).al.u ((pB ..).u (aF ..).al)).cC
   split
   .omega
   .exact f.u (h ..)
theorem TB(σ:ai):fw σ (jG t σ):=by
 unfold jG;exact(aF ..).cC.u ((xe ..).u ((aF ..).cC.u ((TC ..).u (((aF ..).u (aF ..)).cC.u ((EG ..).u ((EH ..).u (Bh ..)))))))
def Tv:∀(b:Nat) (a:List Int) (d:Zb) (σ:ai),fw σ (eh t b a d σ).2.2.2:=by
 intro b;induction b with
 |zero=>intro a d σ;exact tG σ
 |succ b n=>
  intro a d σ;unfold eh;split
  .exact tG σ
  .simp only;generalize l:bc t 2 (aT (aT a.length 12 σ).ax 40 (aT a.length 12 σ))=c;have g:fw σ c.2:=by rw[<-l];exact((dN ..).u (dN ..)).cC.u (xe ..)
   generalize m:bU t (-2147483648) 2147483647 (aj t 4 [61] c.2)=v;have h:fw σ v.2:=by rw[<-m];exact g.u ((aF ..).u (iJ ..)).cC
   generalize k:(if v.2.s.e=0/\a.contains v.1.1=true then ch 6 v.1.2 v.2 else v.2)=f
   have i:fw σ f:=by rw[<-k];exact h.u (oa ..).cC
   split
   .omega
   .have j:=i.u (Ku c.1.text v.1.1 f).1;split
    .exact j.u ((gm _).cC.u (n ..))
    omega
theorem Tu(σ:ai):fw σ (jS t σ):=by
 unfold jS;simp only;generalize f:bc t 2 (aj t 2 Jo σ)=a;have c:fw σ a.2:=by rw[<-f];exact(aF ..).cC.u (xe ..)
 generalize e:eh t 13 [] (Jm++a.1.text++Jd) (aj t 4 Jv a.2)=b;have d:fw σ b.2.2.2:=by rw[<-e];exact c.u ((aF ..).cC.u (Tv ..))
 split
 .omega
 .exact d.u (((aF ..).u (aF ..)).cC.u ((EG ..).u ((EH ..).u (Bh ..))))
def TF(of:Int):∀(b:Nat) (a e:List Int) (c:Zc) (d:Zb) (σ:ai),fw σ (fo t of b a e c d σ).2:=by
 intro b;induction b with
 |zero=>intro a e c d σ;exact tG σ
 |succ b g=>
  intro a e c d σ;unfold fo;split
  .exact tG σ
  .simp only;have f:fw σ (dB t c (di t of (14-a.length) a [] σ).2).2:=(sL (t:=t) of _ a [] σ).1.cC.u (rC ..).cC;split
   .exact f.u (g ..)
   omega
def Tt(a:Zc)(σ:ai):fw σ (jw t a σ).2:=by
 unfold jw;split
 .exact((gm _).u (aF ..)).cC.u (rC ..).cC
 .exact tG σ
theorem TE(σ:ai):fw σ (ji t σ):=by
 unfold ji;exact(aF ..).cC.u ((xe ..).u (((aF ..).u (aF ..)).cC.u ((uL _).cC.u ((oL _).cC.u (((aF ..).u (aF ..)).cC.u ((TF ..).u ((Tt ..).u (((aF ..).u (aF ..)).cC.u ((EG ..).u ((EH ..).u (Bh ..)))))))))))
def zi(σ:ai):dq σ (gj t σ).2:=by
 unfold gj;split
 .exact(gm σ).al
 .exact Fa σ
def rD(a:List Int)(σ:ai):dq σ (cJ t a σ).2:=by
 unfold cJ;exact((aF ..).u ((iJ ..).u ((oa ..).u (aF ..)))).al
def Vr:∀(a:Nat) (b:List cj) (d:Zc) (c:List Int) (e:Zb) (σ:ai),dq σ (hc t a b d c e σ).2:=by
 intro a;induction a with
 |zero=>intro b d c e σ;exact tL σ
 |succ a q=>
  intro b d c e σ;unfold hc;split
  .exact tL σ
  .simp only;generalize p:gj t (aT b.length 8 σ)=h;have i:dq σ h.2:=by rw[<-p];exact(dN ..).al.u (zi _)
   generalize n:cK t d false h.2=g;have j:dq σ g.2:=by rw[<-n];exact i.u (jW ..).al
   generalize m:gj t (aj t 4 [40] g.2)=f;have k:dq σ f.2:=by rw[<-m];exact j.u ((aF ..).al.u (zi _))
   generalize o:cJ t c (aj t 4 [41] f.2)=r;have l:dq σ r.2:=by rw[<-o];exact k.u ((aF ..).al.u (rD ..))
   split
   .omega
   .exact l.u (q ..)
def Li(a:Zc)(b:List Int)(σ:ai):dq σ (gb t a b σ).2:=by
 unfold gb;exact(aF ..).al.u ((jW ..).al.u ((aF ..).al.u ((Vr ..).u ((aF ..).al.u (rD ..)))))
def zj:∀(b:Nat) (c:Zc) (a:List Int) (all:List cj) (d:Zb) (σ:ai),dq σ (ga t b c a all d σ).2:=by
 intro b;induction b with
 |zero=>intro c a all d σ;exact tL σ
 |succ b f=>
  intro c a all d σ;unfold ga;split
  .exact tL σ
  .simp only;have e:dq σ (gb t c a (aT a.length 4 σ)).2:=(dN ..).al.u (Li ..);split
   .omega
   .exact e.u (f ..)
def TA(σ:ai):fw σ (iV t σ)/\(iV t σ).ah.length=σ.ah.length+1:=by
 have h:fw σ (aj t 4 Jv (bc t 2 (aj t 2 Jc (aT σ.ah.length 4 σ))).2):=((dN ..).u (aF ..)).cC.u ((xe ..).u (aF ..).cC);have g:(aj t 4 Jv (bc t 2 (aj t 2 Jc (aT σ.ah.length 4 σ))).2).ah=σ.ah:=by
  show (bc t 2 (aj t 2 Jc (aT σ.ah.length 4 σ))).2.ah=_;have f:=((dN σ.ah.length 4 σ).u (aF (t:=t) 2 Jc _)).h4.2.2.1;unfold bc;split
  .exact f
  .split<;>exact f
 unfold iV;simp only;generalize bc t 2 (aj t 2 Jc (aT σ.ah.length 4 σ))=a at *
 generalize i:ga t 6 [] [] [] (Jj++a.1.text++Jd) (aj t 4 Jv a.2)=v;have b:=zj (t:=t) 6 [] [] [] (Jj++a.1.text++Jd) (aj t 4 Jv a.2);rw[i]at b;have d:=b.u ((aF (t:=t) 4 Jl v.2).al.u (rD (t:=t) (aj t 4 Jl v.2).ah _));have e:=h.u d.cC;have j:(cJ t (aj t 4 Jl v.2).ah (aj t 4 Jl v.2)).2.ah=σ.ah:=d.h4.2.2.1.trans g;refine⟨⟨e.c,e.t,?_⟩,?_⟩;all_goals simp_all[gi]
end
section
variable {h n : Nat -> Prop} {g c N' : Nat} {t : Zb} {b f : ai} {d l o m p : Zw} {j : PV} {L : List Th} {i : Nat} {a a' : Th}
def aY.m3{a e}(f:aY h g t c b (.obj e (.cells #[Zs a] 9)::L) l d):aY h g t c b (cS (.slice (some ⟨e,0,none⟩) [a].length 1) [a]::L) l d:=by
 have j:=f.b6 (i:=0) (a':=cS (.slice (some ⟨e,0,none⟩) [a].length 1) [a]) rfl (ar [] d) Zq ⟨rfl,Ya ⟨e,1,#[Zs a],rfl,YV _,f.aR (i:=0) rfl,Zq,Zn,rfl,rfl⟩⟩ (λm k=>Y8 k);exact j
theorem wD{of a d g c f}(h:b.s.e≠0):fo t of a d g c f b=((d,g,c,f),b):=by
 cases a<;>simp_all[fo]
def Sr(a:Zc)(b:ai):(dB t a b).1.2.2.length<=a.length+1:=by
 grind [dB]
def HJ(t:Zb)(of:Int)(e:Nat)(d:List Int)(c:Zb)(b:(List Int×Zb)×ai)(a:(Int×Zb×Zc)×ai):(List Int×List Int×Zc×Zb)×ai:=
 if aM a.2 2 Jg=true then fo t of e b.1.1 (pC b.1.1.length a.1.1 d) a.1.2.2 (c++b.1.2++a.1.2.1) a.2 else ((b.1.1,pC b.1.1.length a.1.1 d,a.1.2.2,c++b.1.2++a.1.2.1),a.2)
def ag0{of}{k:Nat}{d parts:List Int}{f out}{c:(List Int×Zb)×ai}{a:(Int×Zb×Zc)×ai}(g:b.s.e=0)(i:di t of (14-d.length) d [] b=c)(h:dB t f c.2=a):fo t of (k+1) d parts f out b=HJ t of k parts out c a:=by
 simp_all[HJ,fo]
def wB(t:Zb)(b:Zb)(of:Int)(a:(List Int×List Int×Zc×Zb)×ai):ai:=
 gi (a.1.2.2.2++(jw t a.1.2.2.1 a.2).1.2++JB) (eM b (aj t 4 [59] (aj t 4 Jl (jw t a.1.2.2.1 a.2).2)).h.length (dm ⟨13,0,of,a.1.1,a.1.2.1,(jw t a.1.2.2.1 a.2).1.1,[],0⟩ (aj t 4 [59] (aj t 4 Jl (jw t a.1.2.2.1 a.2).2))))
def ag3(p6:bW h g t c b d)(ok:cr b)(o2:∀C∈b.h,C.aI.length<=1000)(q9:c+200000<=1000000000):Calls prog 89 #[Zp g] d (GP h g t (c+200000) (ji t b) (.tuple #[]) d):=by
 have k3:=U (mz p6);have l4:=U o2;have j2:=U (gS (wi (t:=t) (gS ok (aF (t:=t) 2 Jh b).al) 2 Ze) (((aF (t:=t) 2 Jn _).u (aF (t:=t) 4 [40] _)).al));have p7:=U (rS (t:=t) 2 (aj t 2 Jh b));obtain⟨o8,n0,o4,o5,o6⟩:=info_parts us;have o7:(Y 0).cells.size=1:=rfl;go_in;go_wp21;refine bj k3 (ec · 2 Jh) λm e8=>?_;go_wp21;refine(xh e8.i.aL 2 Zm).mono ?_;rintro H b7 ⟨rfl,e3,e0,c5⟩;have e9:=U (e8.i.call ⟨e3,e0⟩);generalize I:bc t 2 (aj t 2 Jh b)=C at *
 obtain⟨p,M⟩:=C;have l5:=U I;simp only at e9 c5;have k6:=U (e9.i.A (oW p));have r0:=c5;go_wp21;refine bj k6 (ec · 2 Jn) λt7 k7=>?_;go_wp21;refine bj k7 (ec · 4 [40]) λt8 f0=>?_;have b9:af (ji t b=wB t p.text (cz t (aj t 4 [40] (aj t 2 Jn M))).1.1 (fo t (cz t (aj t 4 [40] (aj t 2 Jn M))).1.1 14 [] [] [(dQ t (cz t (aj t 4 [40] (aj t 2 Jn M))).2).1.text] (Jr++p.text++Ji++(cz t (aj t 4 [40] (aj t 2 Jn M))).1.2++[32]++(dQ t (cz t (aj t 4 [40] (aj t 2 Jn M))).2).1.text++Jx) (aj t 4 Jv (aj t 4 [41] (dQ t (cz t (aj t 4 [40] (aj t 2 Jn M))).2).2)))):=by
  show _=_;unfold ji wB;simp only[l5.i]
 have j3:af ((aj t 4 [40] (aj t 2 Jn M)).h=b.h):=U p7.i;generalize aj t 4 [40] (aj t 2 Jn M)=k1 at *
 have c4:=abH (t:=t) j2.i;have n9:=aby (t:=t) f0.i.aL.bD;have j0:=U ((uL (t:=t) k1).h.trans j3.i);go_wp21;refine bj f0 (abF · j2.i Zm) λt9 c7=>?_;generalize cz t k1=p5 at *
 obtain⟨⟨of,a1⟩,k2⟩:=p5;simp only at c7 c4 n9 j0 b9;rw[j3.i]at c4;go_wp21;refine(HW c7.i.aL).mono ?_;rintro H b8 ⟨⟨rfl,e3,e0⟩,c5⟩;have f1:=U (c7.i.call ⟨e3,e0⟩);have j1:=U ((oL (t:=t) k2).h.trans j0.i);generalize dQ t k2=wr at *
 obtain⟨w,N⟩:=wr;simp only at f1 c5 b9 j1;have k8:=U (f1.i.A (oW w));go_wp21;refine bj k8 (ec · 4 [41]) λt3 k4=>?_;go_wp21;refine bj k4 (ec · 4 Jv) λq3 c6=>?_;have i9:af ((aj t 4 Jv (aj t 4 [41] N)).h=b.h):=U j1.i;generalize aj t 4 Jv (aj t 4 [41] N)=e7 at *
 obtain⟨j4,e6,j5,j6,j7,j8,j9,k0⟩:=c6.i.K (i:=0) rfl;obtain⟨s3,s4,s5,s6,s7,s8,s9,t0⟩:=c6.i.K (i:=1) rfl;have r3:¬(9223372036854775807<6+p.text.length):=Zm;have r4:¬(9223372036854775807<6+p.text.length+9):=Zm;have r5:¬(9223372036854775807<6+p.text.length+9+a1.length):=Zm;have r6:¬(9223372036854775807<6+p.text.length+9+a1.length+1):=Zm;have r7:¬(9223372036854775807<6+p.text.length+9+a1.length+1+w.text.length):=Zm;have r8:¬(9223372036854775807<6+p.text.length+9+a1.length+1+w.text.length+4):=Zm;have k5:=U ((c6.i.A (.cells #[Zs w.text] 9)).m3.nil.nil);go_upto_block 0 with fail;go_cut [6,7,8,9] (λa0 v a3 e5 wc=>∃(iE:Option Addr) (B:Nat) (D:Option Addr) (E:Nat) (x:Option Addr) (y:Nat) (k q:List Int) (l:Zc) (n:Zb) (f:ai),v=.slice iE k.length B/\a3=.slice D q.length E/\e5=.slice x l.length y/\a0=Zs n/\k.length<=13/\af (l.length<=1+k.length)/\n.length<=90000/\af (aY h g t (c+30) f [eV (.slice iE k.length B) k,eV (.slice D q.length E) q,cS (.slice x l.length y) l,.obj b8.heap.size (oW w),.obj b7.heap.size (oW p)] d wc)/\af (ji t b=wB t p.text of ((k,q,l,n),f)));case first=>
  go_wp2;go_loopw [6,7,8,9] (λa0 v a3 e5 e4=>∃(iE:Option Addr) (B:Nat) (D:Option Addr) (E:Nat) (x:Option Addr) (y:Nat) (k q:List Int) (l:Zc) (n:Zb) (f:ai) (z:Nat),v=.slice iE k.length B/\a3=.slice D q.length E/\e5=.slice x l.length y/\a0=Zs n/\k.length<=13/\af (q.length=k.length)/\af (l.length<=1+k.length)/\(f.s.e=0->k.length<=12)/\n.length<=9000+6000*k.length/\af (14<=k.length+z)/\af (4<of->of<f.h.length)/\af (∀C∈f.h,C.aI.length<=1000)/\af (aY h g t (c+1+2*k.length) f [eV (.slice iE k.length B) k,eV (.slice D q.length E) q,cS (.slice x l.length y) l,.obj b8.heap.size (oW w),.obj b7.heap.size (oW p)] d e4)/\af (fo t of z k q l n f=fo t of 14 [] [] [w.text] (Jr++p.text++Ji++a1++[32]++w.text++Jx) e7)) (λ_ v _ _ _=>15-nZ v)
  case atStart=>exact⟨none,0,none,0,some ⟨q3.heap.size,0,none⟩,1,[],[],[w.text],Jr++p.text++Ji++a1++[32]++w.text++Jx,e7,14,rfl,rfl,rfl,Yo Value.string (jr Zq),Zq,U rfl,U Zq,Zq,Zx,U Zq,U (by rw[i9.i];exact c4.2),U (by rw[i9.i];exact l4.i),k5,U rfl⟩
  case round=>
   obtain⟨iE,B,D,E,x,y,k,q,l,n,u,z,rfl,rfl,rfl,rfl,i2,o1,b1,n1,n3,i0,i5,i8,G,f4⟩:=hrel;obtain⟨j,R⟩:=G.i.aL;obtain⟨f9,g6,g7,g8,g9,h0,h1,h2,h3,g0,g1,g2,g3,g4,g5,h9,d7⟩:=R.K;by_cases b6:u.s.e=0
   .have m6:(u.s.e==0)=true:=by rw[b6];rfl
    have f6:=U b6;have n2:=n1 b6;have f3:=sL (t:=t) of (14-k.length) k [] u;have l7:=U (Tj (G.i.f4 (i:=0) (a:=eV (.slice iE k.length B) k) rfl) of ⟨c4.1,i5.i⟩ i8.i n2 Zm);go_wp21;refine l7.i.mono ?_;rintro H t4 ⟨q2,rfl,S,p3,e2⟩;obtain⟨c9,d3,d9⟩:=aW (S.y _ Yb);subst d9;have O:=U (G.i.c8 (i:=0) (a:=eV (.slice iE k.length B) k) rfl S);generalize m7:di t of (14-k.length) k [] u=l8 at *
    have l2:=U m7;obtain⟨⟨r,a2⟩,a4⟩:=l8;simp only at O p3 e2 f3;obtain⟨m0,q7,q8,m1,m2⟩:=f3;have r1:=m1 f6.i Zm;have n7:=λP=>m2 P Zm;have f8:af (a4.h=u.h):=U m0.h;have c8:=U (JZ (O.i.f4 (i:=2) (a:=cS (.slice x l.length y) l) rfl) (by have:=b1.i;omega) Zm);have a8:=U (Yp (rC (t:=t) l a4) (Yp (De (t:=t) l a4) (Sr (t:=t) l a4)));go_wp21;refine c8.i.mono ?_;rintro H t5 ⟨e6,rfl,S,e1⟩;obtain⟨d0,d4,d9⟩:=aW (S.y _ Yb);subst d9;have a6:=U (O.i.c8 (i:=2) (a:=cS (.slice x l.length y) l) rfl S);have f5:=U (λz=>ag0 (k:=z) (parts:=q) (out:=n) f6.i l2.i (rfl:dB t l a4=_));generalize dB t l a4=d1 at *
    obtain⟨⟨A,b0,J⟩,F⟩:=d1;simp only at a6 e1 f5 a8;go_wp2;go_loopw [8] (λa3 e4=>∃(ad:Option Addr) (h4:Nat) (o:List Int),a3=.slice ad o.length h4/\o.length<=r.length/\af (o++List.replicate (r.length-o.length) A=pC r.length A q)/\af (aY h g t (c+1+2*k.length+2) F [eV (.slice c9 r.length d3) r,eV (.slice ad o.length h4) o,cS (.slice d0 J.length d4) J,.obj b8.heap.size (oW w),.obj b7.heap.size (oW p)] d e4)) (λa3 _=>20-nZ a3)
    case atStart=>exact⟨D,E,q,rfl,by have:=o1.i;omega,U rfl,a6⟩
    case round=>
     obtain⟨c1,c3,o,rfl,r2,f7,b4⟩:=hrel;by_cases d7:o.length<r.length
     .have n5:(o.length:Int)<(r.length:Int):=Zm;have l3:af ((o++[A])++List.replicate (r.length-(o++[A]).length) A=pC r.length A q):=U (by
       rw[<-f7.i,show r.length-o.length=(r.length-(o++[A]).length)+1 by simp;omega,List.replicate_succ];simp)
      have i6:af (∀a0,(wr.alloc a0).ownsRow 0 3 1 (.slice c1 o.length c3) o.length (o.map (Y))):=U (λa0=>bQ (b4.i.bv (i:=1) rfl) ((ar [] wr).A a0) Zq);have i4:o.length+1<=maxLen:=Zn;go_wp2_with (at_builtin;(refine wpList_append_lies _ Zr _ _ _ Zr 0 3 o8 _ 1 8 underlying24 n0 o4 o5 o6 o7 Zm (.slice c1 o.length c3) o.length (o.map (Y)) Zr (i6.i _) ⟨wr.heap.size,0,none⟩ 1 1 [Y A] Zr Zr (World.news_of_block (cs:=#[Y A]) (t:=3) (fr:=(0,0)) (heap_alloc_new wr _)) Zy Zm i4 Zm Zq (wr.heap.size+1) Zq ?_;intro m3 l9 t6 i7 i1 h7 n6;have l0:=U (b4.i.hR (i:=1) rfl ((ar [] wr).A _) i7 i1 h7 Zq);clear i7 i1 h7 n6 i6 i4;skip));refine⟨⟨some ⟨m3,0,none⟩,l9,o++[A],Zq,Zx,l3,?_⟩,by simp[nZ];omega⟩;have:=l0.i;exact U (by simpa using this)
     .have n5:¬((o.length:Int)<(r.length:Int)):=Zm;have m8:af (pC r.length A q=o):=U (by rw[<-f7.i,show r.length-o.length=0 by omega];simp);have r9:¬(9223372036854775807<n.length+a2.length):=Zm;have s0:¬(9223372036854775807<n.length+a2.length+b0.length):=Zm;go_wp21;refine(jy b4.i.aL 2 Jg).mono ?_;rintro H q4 ⟨rfl,rfl⟩;obtain⟨z,rfl⟩:∃o9,z=o9+1:=⟨z-1,by have:=i0.i;omega⟩;have b5:=U (f4.i.symm.trans (f5.i z));unfold HJ at b5;simp only at b5;rw[m8.i]at b5;cases i3:aM F 2 Jg with
      |true=>
       have l1:af (fo t of z r o J (n++a2++b0) F=fo t of 14 [] [] [w.text] (Jr++p.text++Ji++a1++[32]++w.text++Jx) e7):=U (b5.i.trans (by rw[Y9 i3])).symm;have m5:F.s.e=0->a4.s.e=0:=λP=>Classical.byContradiction λh6=>h6 ((a8.i.2.1 h6).1.symm.trans P);have d8:af (J.length<=1+r.length):=U (by have:=a8.i.2.2;have:=b1.i;omega);have m9:af (14<=r.length+z):=U (by have:=i0.i;omega);have n8:af (4<of->of<F.h.length):=U (λP=>by
        obtain⟨p2,d6,_⟩:=a8.i.1.h;have:=i5.i P;rw[d6,f8.i,Yq];omega)
       have o3:af (∀C∈F.h,C.aI.length<=1000):=U (λC I=>by
        obtain⟨p2,d6,m4⟩:=a8.i.1.h;rw[d6,f8.i]at I;rcases Yn.1 I with I|I
        .exact i8.i C I
        .rw[(m4 C I).1];simp)
       have a7:=U (b4.i.aS (N':=c+1+2*r.length) Zm);have o0:af (o.length=r.length):=U Zm;have n4:(n++a2++b0).length<=9000+6000*r.length:=Zx;go_wp2;exact⟨⟨c9,d3,c1,c3,d0,d4,r,o,J,n++a2++b0,F,z,rfl,rfl,rfl,Yo Value.string (jr Zq),e2,o0,d8,λP=>n7 (m5 P),n4,m9,n8,o3,a7,l1⟩,by simp[nZ];omega⟩
      |false=>
       have a9:=U (b9.i.trans (Yo (wB t p.text of) (b5.i.trans (by rw[Y2 (by simp[i3])]:_=((r,o,J,n++a2++b0),F)))));have d8:af (J.length<=1+r.length):=U (by have:=a8.i.2.2;have:=b1.i;omega);have a7:=U (b4.i.aS (N':=c+30) Zm);go_wp2;go_meet;case rel=>exact⟨c9,d3,c1,c3,d0,d4,r,o,J,n++a2++b0,F,rfl,rfl,rfl,Yo Value.string (jr Zq),e2,d8,Zx,a7,a9⟩
   .have m6:(u.s.e==0)=false:=by rw[Yi];exact b6
    have a9:=U (b9.i.trans (Yo (wB t p.text of) (f4.i.symm.trans (wD b6))));have l6:=U (G.i.aS (N':=c+30) Zm);go_wp2;go_meet;case rel=>exact⟨iE,B,D,E,x,y,k,q,l,n,u,rfl,rfl,rfl,rfl,i2,b1,Zm,l6,a9⟩
 case rest=>
  obtain⟨iE,B,D,E,x,y,k,q,l,n,u,rfl,rfl,rfl,rfl,i2,b1,n3,G,a9⟩:=hcut;go_wp21;refine(jy G.i.aL 2 JL).mono ?_;rintro H q4 ⟨rfl,rfl⟩;cases h8:aM u 2 JL with
  |true=>
   go_wp21;refine bj G (kE ·) λq2 k9=>?_;go_wp21;refine bj k9 (ec · 4 [58]) λt1 a7=>?_;have c8:=U (JZ (a7.i.f4 (i:=2) (a:=cS (.slice x (l).length y) (l)) rfl) (by have:=b1.i;omega) Zm);go_wp21;refine c8.i.mono ?_;rintro H t2 ⟨q5,rfl,S,e1⟩;have f2:=U (a7.i.c8 (i:=2) (a:=cS (.slice x (l).length y) (l)) rfl S);have c0:af (ji t b=gi (n++(JI++(dB t (l) (aj t 4 [58] (bq t u))).1.2.1)++JB) (eM p.text (aj t 4 [59] (aj t 4 Jl (dB t (l) (aj t 4 [58] (bq t u))).2)).h.length (dm ⟨13,0,of,k,q,(dB t (l) (aj t 4 [58] (bq t u))).1.1,[],0⟩ (aj t 4 [59] (aj t 4 Jl (dB t (l) (aj t 4 [58] (bq t u))).2))))):=U (a9.i.trans (by unfold wB jw;simp only[h8,if_true]))
   generalize dB t (l) (aj t 4 [58] (bq t u))=d1 at *
   obtain⟨⟨h5,c2,p4⟩,q6⟩:=d1;simp only at f2 e1 c0;have s1:¬(9223372036854775807<n.length+9):=Zm;have s2:¬(9223372036854775807<n.length+9+c2.length):=Zm;go_wp21;refine bj f2 (ec · 4 Jl) λp8 O=>?_;go_wp21;refine bj O (ec · 4 [59]) λp9 a6=>?_;generalize aj t 4 [59] (aj t 4 Jl q6)=a5 at *
   go_wp21;refine(xT (L:=[cS q5 p4,.obj b8.heap.size (oW w),.obj b7.heap.size (oW p)]) ⟨13,0,of,k,q,h5,[],0⟩ a6.i Zm).mono ?_;rintro H q0 ⟨rfl,d2⟩;have b2:=U d2;obtain⟨j4,e6,j5,j6,j7,j8,j9,k0⟩:=b2.i.K (i:=2) rfl;go_wp21;refine bj b2 (yk · p.text a5.h.length Zm) λq1 b3=>?_;generalize eM p.text a5.h.length (dm ⟨13,0,of,k,q,h5,[],0⟩ a5)=N at *
   obtain⟨j,R⟩:=b3.i.aL;obtain⟨f9,g6,g7,g8,g9,h0,h1,h2,h3,g0,g1,g2,g3,g4,g5,h9,d7⟩:=R.K;have d5:=R.bm;unfold ai.sz at d5;have p0:¬(9223372036854775807<N.i.length+(n.length+9+c2.length)):=Zm;have p1:¬(9223372036854775807<N.i.length+(n.length+9+c2.length)+3):=Zm;go_wp2;go_end0;rw[c0.i];exact⟨rfl,((b3.i.gd (K:=150000) (s:=n++(JI++c2)++JB) (jr Zq) Zx).aS Zm).fin⟩
  |false=>
   have c0:af (ji t b=gi (n++[]++JB) (eM p.text (aj t 4 [59] (aj t 4 Jl u)).h.length (dm ⟨13,0,of,k,q,-2,[],0⟩ (aj t 4 [59] (aj t 4 Jl u))))):=U (a9.i.trans (by unfold wB jw;simp only[h8,Ye,if_false]))
   go_wp21;refine bj G (ec · 4 Jl) λp8 O=>?_;go_wp21;refine bj O (ec · 4 [59]) λp9 a6=>?_;generalize aj t 4 [59] (aj t 4 Jl u)=a5 at *
   go_wp21;refine(xT (L:=[cS (.slice x (l).length y) (l),.obj b8.heap.size (oW w),.obj b7.heap.size (oW p)]) ⟨13,0,of,k,q,(-2),[],0⟩ a6.i Zm).mono ?_;rintro H q0 ⟨rfl,d2⟩;have b2:=U d2;obtain⟨j4,e6,j5,j6,j7,j8,j9,k0⟩:=b2.i.K (i:=2) rfl;go_wp21;refine bj b2 (yk · p.text a5.h.length Zm) λq1 b3=>?_;generalize eM p.text a5.h.length (dm ⟨13,0,of,k,q,(-2),[],0⟩ a5)=N at *
   obtain⟨j,R⟩:=b3.i.aL;obtain⟨f9,g6,g7,g8,g9,h0,h1,h2,h3,g0,g1,g2,g3,g4,g5,h9,d7⟩:=R.K;have d5:=R.bm;unfold ai.sz at d5;have p0:¬(9223372036854775807<N.i.length+n.length):=Zm;have p1:¬(9223372036854775807<N.i.length+n.length+3):=Zm;go_wp2;go_end0;rw[c0.i];exact⟨rfl,((b3.i.gd (K:=150000) (s:=n++[]++JB) (jr Zq) Zx).aS Zm).fin⟩
end
section
variable {f:cj->cj}
variable {l u : Nat -> Prop} {h g q : Nat} {t : Zb} {b z : ai} {c m y n o : Zw} {r : PV} {d : List Th} {i : Nat} {a w : Th}
def oH:cj:=⟨0,0,0,0,0⟩
def LK:(prog.info? 288).map (λi=>(i.zero,i.size,i.bytes))=some (some (.agg #[Y 0,Y 0,Y 0,Y 0,Y 0]),5,40):=Zk
def acx{a ad d e}(b:(hx (.slice ad d e) a).At c):d=a.length:=by
 have f:c.ownsRow 0 288 5 (.slice ad d e) a.length (a.flatMap gG):=b;rcases f.2 with⟨b,j⟩|⟨i,g,h,b,_⟩;all_goals simp_all
def aY.k3{n u o k j:Nat}{e v}{p':cj}(s:aY l h t g b d m c)(r:d[i]?=some (hx (.slice (some ⟨n,0,none⟩) u o) e))(C:k<e.length)(y:j<5)(A:gG p'=(gG (e.getD k oH)).set j v):aY l h t g b (d.set i (hx (.slice (some ⟨n,0,none⟩) u o) (e.set k p'))) m (c.setCell ⟨n,k*5+j,none⟩ v):=by
 have z:=acx (s.bv (a:=hx (.slice (some ⟨n,0,none⟩) u o) e) r);subst z;have w:c.ownsRow 0 288 5 (.slice (some ⟨n,0,none⟩) e.length o) e.length (e.flatMap gG):=s.bv (a:=hx (.slice (some ⟨n,0,none⟩) e.length o) e) r;have D:(e.flatMap gG).length=e.length*5:=w.1;refine s.b6 r ((ar [n] c).a6 (p:=⟨n,k*5+j,none⟩) Zq v) (λx q=>by simp at q;rw[q];rfl) ?_ (λx q=>Y8 q);have B:=zJ w (i:=k*5+j) Zm v;rw[zm (f:=gG) (k:=5) (λ_=>rfl) e k j (e.getD k oH) p' v y Zg A]at B;show World.ownsRow _ 0 _ 5 _ (e.set k p').length _;simp_all
def NB{a ad}{g d k:Nat}(l:(hx (.slice ad g d) a).At c)(u:k<a.length):∃b,ad=some ⟨b,0,none⟩/\(∀i,c.frozen? ⟨b,i,none⟩=false)/\b<c.heap.size/\c.cell? ⟨b,k*5,none⟩=some (Y (a.getD k oH).prog)/\c.cell? ⟨b,k*5+1,none⟩=some (Y (a.getD k oH).et):=by
 have h:c.ownsRow 0 288 5 (.slice ad g d) a.length (a.flatMap gG):=l;have j:=λn m=>uq (f:=gG) (k:=5) (λ_=>rfl) a k n m;have e:a[k]?=some (a.getD k oH):=Zg;obtain⟨b,o,w,r,t,v⟩:=nW h (j 0 Zm |>.trans (by rw[e];rfl));obtain⟨q,p,x,s,_⟩:=nW h (j 1 Zm |>.trans (by rw[e];rfl));simp_all
def aY.ho{k:List Th}(f:Nat->Nat)(u:∀e j,e<k.length->j<k.length->e≠j->f e≠f j)(s:∀e a,k[e]?=some a->d[f e]?=some a)(n:aY l h t g b d m c):aY l h t g b k m c:=by
 have p:∀a∈k,a∈d:=by
  grind [List.getElem?_of_mem]
 refine⟨n.aL.ca ?_,n.fr,λa i=>n.y a (p a i),λa i=>n.bX a (p a i),?_⟩
 .rintro w (o|⟨a,i,o⟩)
  .exact Y8 o
  .exact Ya ⟨a,p a i,o⟩
 .intro e j a q v i r;exact n.cd (f e) (f j) a q (u e j (YB.1 i).1 (YB.1 r).1 v) (s e a i) (s j q r)
def aY.km(i:aY l h t g b d m c):aY l h t g b (hx (.slice none 0 0) []::d) m c:=by
 refine⟨i.aL.ca ?_,i.fr,?_,?_,?_⟩
 .rintro n (f|⟨e,a,f⟩)
  .exact Y8 f
  .rcases Yg.1 a with rfl|a
   .grind [Th.aH,Value.ownBlock]
   .exact Ya ⟨e,a,f⟩
 .intro e a;rcases Yg.1 a with rfl|a
  .exact⟨rfl,Y8 ⟨rfl,rfl⟩⟩
  .exact i.y e a
 .intro e a n f;rcases Yg.1 a with rfl|a
  .grind [Th.aH,Value.ownBlock]
  .exact i.bX e a n f
 .intro j k e o u a s p q r;cases j with
  |zero=>grind [Th.aH,Value.ownBlock]
  |succ j=>
   cases k with
   |zero=>grind [Th.aH,Value.ownBlock]
   |succ k=>exact i.cd j k e o Zm Zu Zu p q r
def aY.l9{e j f:Nat}{v a k}(x:aY l h t g b d m c)(s:d[i]?=some (hx v a))(u:ap [] c n)(w:o.ownsRow 0 288 5 (.slice (some ⟨e,0,none⟩) (a.length+1) j) (a.length+1) (a.flatMap gG++gG k))(r:n.grownBy o v.ownBlock)(q:v.ownBlock=some e\/e=f)(p:n.heap.size=f):aY l h t g b (d.set i (hx (.slice (some ⟨e,0,none⟩) (a.length+1) j) (a++[k]))) m o:=by
 have:=x.a4 s u w r q p;grind
theorem Oo{b:List cj}{a:Nat}(d:a<b.length):((b.take a).map f++b.drop a).set a (f (b.getD a oH))=(b.take (a+1)).map f++b.drop (a+1):=by
 have c:b.drop a=b.getD a oH::b.drop (a+1):=by
  simp_all
 rw[c,List.set_append_right _ _ Zg];have:a-((b.take a).map f).length=0:=Zg;grind
theorem Lu{b:List cj}{a:Nat}(c:a<b.length):((b.take a).map f++b.drop a).getD a oH=b.getD a oH:=by
 grind
def Mc{a:List cj}{b}:((a.take b).map f++a.drop b).length=a.length:=by
 grind
def GA(t:Zb)(e:List cj)(i:Zc)(h:List Int)(g:Zb)(d:Int×Zb)(f:ge)(a:Int×Zb)(c:Int)(b:ai):(List cj×Zb)×ai:=
 if aM b 4 Jl=true then ((e++[⟨0,0,c,a.1,d.1⟩],g++d.2++[32]++f.text++[40]++a.2++JH++dk c++[59,32]),b)
 else hc t (10-(e++[(⟨0,0,c,a.1,d.1⟩:cj)]).length) (e++[⟨0,0,c,a.1,d.1⟩]) (i++[f.text]) (h++[c]) (g++d.2++[32]++f.text++[40]++a.2++JH++dk c++[59,32]) b
theorem NC{a c g f d}(h:b.s.e≠0):hc t a c g f d b=((c,d),b):=by
 cases a<;>simp_all[hc]
def acC{c:List cj}{h f out}{g a:(Int×Zb)×ai}{d:ge×ai}{e:Int×ai}(j:b.s.e=0)(l:c.length<=9)(o:gj t (aT c.length 8 b)=g)(m:cK t h false g.2=d)(k:gj t (aj t 4 [40] d.2)=a)(n:cJ t f (aj t 4 [41] a.2)=e):hc t (10-c.length) c h f out b=GA t c h f out g.1 d.1 a.1 e.1 e.2:=by
 have i:10-c.length=(9-c.length)+1:=Zm;simp_all[GA,hc]
def Op(a:b.s.x.text.length<=2000):(gj t b).1.2.length<=2000:=by
 unfold gj;split
 .simp
 .unfold cW mw;split
  .simp
  .split
   .exact a
   .split
    .simp
    .split
     .simp
     .split
      .simp
      .split
       .split
        .simp
        grind
       simp
def ym(t:Zb)(d:Zb)(b:List Int)(a:(List cj×Zb)×ai):yN×ai:=
 (⟨d,(cJ t b (aj t 4 Jl a.2)).1,a.1.1.map (λc=>{ c with et:=(cJ t b (aj t 4 Jl a.2)).1 }),a.1.2++[125,32,61,32]++dk (cJ t b (aj t 4 Jl a.2)).1++[59,32]⟩,(cJ t b (aj t 4 Jl a.2)).2)
def ada{b:Func}{Q:Ending->Zw->Prop}{a:Act}{i0 i1 i2 i3:Nat}{v0 v1 v2 v3:Zv}(j:b.results=#[.tmp i0,.tmp i1,.tmp i2,.tmp i3])(f:a.tmps.getD i0 undef=v0)(g:a.tmps.getD i1 undef=v1)(h:a.tmps.getD i2 undef=v2)(i:a.tmps.getD i3 undef=v3)(d:a.defers=[])(e:Q (.returned (.tuple #[v0,v1,v2,v3])) c):bodyPost prog b Q .ret a c:=by
 refine bodyPost_ret (v:=.tuple #[v0,v1,v2,v3]) ?_ d e;simp_all[results]
def Gk(a:List Int)(b:ai):0<=(cJ t a b).1/\(cJ t a b).1<=4294967295:=by
 grind [cJ,Am]
end
section
variable {f q : Nat -> Prop} {d b N' : Nat} {t : Zb} {h g : ai} {c u k o j : Zw} {n : PV} {p : List Th} {i : Nat} {a r : Th}
def Rc(f:Nat->Prop)(d:Nat)(t:Zb)(b:Nat)(j:Zc)(m:List Int)(a:yN×ai)(c:Zw)(i:Ending)(k:Zw):Prop:=∃h g e,i=.returned (.tuple #[h,g,e,.string ⟨a.1.i.toArray⟩])/\aY f d t b a.2 [cS h (j++[a.1.a5]),eV g (m++[a.1.num]),hx e a.1.l] c k/\a.1.i.length<=100000/\a.1.l.length<=9
def ahm{v a9 w q}(m:aY f d t b h [cS v w,eV a9 q] c c)(p6:w.length<=1000)(p7:q.length<=1000)(p0:b+100<=1000000000):Calls prog 146 #[Zp d,v,a9] c (Rc f d t (b+20) w q (gb t w q h) c):=by
 obtain⟨f0,f2,rfl⟩:=aW (m.y _ Yb);obtain⟨b3,b5,rfl⟩:=aW (m.y _ (Y5 _ Yb));have h3:=U m;go_in;go_wp21;refine bj h3 (ec · 2 Jz) λo d4=>?_;have c3:=U (JU (d4.i.f4 (i:=0) (a:=cS (.slice f0 w.length f2) w) rfl) Zm Zm);go_wp21;refine c3.i.mono ?_;rintro P j ⟨l7,rfl,E,l2⟩;obtain⟨b2,b4,a7⟩:=aW (E.y _ Yb);subst a7;have d5:=U (d4.i.c8 (i:=0) (a:=cS (.slice f0 w.length f2) w) rfl E);generalize l1:cK t w false (aj t 2 Jz h)=m1 at *
 have j1:=U l1;obtain⟨r,h0⟩:=m1;simp only at d5 l2;have h4:=U (d5.i.A (oW r));go_wp21;refine bj h4 (ec · 4 Jv) λs4 d6=>?_;obtain⟨m2,m3,m4,m5,m6,m7,m8,m9⟩:=d6.i.K (i:=0) rfl;have p9:¬(9223372036854775807<8+r.text.length):=Zm;have q1:¬(9223372036854775807<8+r.text.length+3):=Zm;have e9:af (gb t w q h=ym t r.text q (hc t 10 [] [] [] (Jw++r.text++Jd) (aj t 4 Jv h0))):=by
  show _=_;unfold gb ym;simp only[j1.i]
 generalize p1:aj t 4 Jv h0=d2 at *
 have h5:=U (d6.i.nil.i9.km);go_upto_block 0 with fail;go_cut [11,12,13,14] (λN d0 g9 g6 wc=>∃(iE:Option Addr) (A:Nat) (k:List cj) (l:Zb) (g:ai) (c1 c2:Th),d0=.slice iE k.length A/\N=Zs l/\k.length<=9/\l.length<=75000/\af (aY f d t (b+2*k.length) g [hx (.slice iE k.length A) k,c1,c2,.obj j.heap.size (oW r),cS (.slice b2 (w++[r.text]).length b4) (w++[r.text]),eV (.slice b3 q.length b5) q] c wc)/\af (gb t w q h=ym t r.text q ((k,l),g)));case first=>
  go_wp2;go_loopw [11,12,13,14] (λN d0 g9 g6 d1=>∃(iE:Option Addr) (A:Nat) (a2:Option Addr) (a4:Nat) (a3:Option Addr) (a5:Nat) (k:List cj) (y:Zc) (x:List Int) (l:Zb) (g:ai),d0=.slice iE k.length A/\g9=.slice a2 y.length a4/\g6=.slice a3 x.length a5/\N=Zs l/\k.length<=9/\af (y.length=k.length)/\af (x.length=k.length)/\(g.s.e=0->k.length<=8)/\l.length<=2100+7000*k.length/\af (aY f d t (b+2*k.length) g [hx (.slice iE k.length A) k,cS (.slice a2 y.length a4) y,eV (.slice a3 x.length a5) x,.obj j.heap.size (oW r),cS (.slice b2 (w++[r.text]).length b4) (w++[r.text]),eV (.slice b3 q.length b5) q] c d1)/\af (hc t (10-k.length) k y x l g=hc t 10 [] [] [] (Jw++r.text++Jd) d2)) (λ_ v _ _ _=>15-nZ v)
  case atStart=>exact⟨none,0,none,0,none,0,[],[],[],Jw++r.text++Jd,d2,rfl,rfl,rfl,Yo Value.string (jr Zq),Zq,U rfl,U rfl,Zq,Zx,h5,U rfl⟩
  case round=>
   obtain⟨iE,A,a2,a4,a3,a5,k,y,x,l,G,rfl,rfl,rfl,rfl,c6,g5,g0,k2,k6,a1,e8⟩:=hrel;obtain⟨n,j8⟩:=a1.i.aL;obtain⟨n3,o0,o1,o2,o3,o4,o5,o6,o7,n4,n5,n6,n7,n8,n9,f5,k7⟩:=j8.K;by_cases b6:G.s.e=0
   .have j9:(G.s.e==0)=true:=by rw[b6];rfl
    have i4:=U b6;have p8:=k2 b6;go_wp21;refine bj a1 (sV · k.length 8) λs5 d7=>?_;have l5:=Op (t:=t) d7.i.aL.bD;have cM:=ye (t:=t) (aT k.length 8 G);go_wp21;refine bj d7 (Ot · Zm) λg8 e0=>?_;generalize L:gj t (aT k.length 8 G)=O at *
    have i7:=U L;obtain⟨⟨C,D⟩,h1⟩:=O;simp only at e0 l5 cM;have e1:=U (e0.i.A (oW dE));have c3:=U (JU (e1.i.f4 (i:=2) (a:=cS (.slice a2 y.length a4) y) rfl) (by have:=g5.i;omega) Zm);have tu:=cM.u (qM (t:=t) y false h1);go_wp21;refine c3.i.mono ?_;rintro P s6 ⟨l8,rfl,E,l3⟩;obtain⟨j2,j4,a7⟩:=aW (E.y _ Yb);subst a7;have b8:=U (e1.i.c8 (i:=2) (a:=cS (.slice a2 y.length a4) y) rfl E);generalize L:cK t y false h1=O at *
    have i8:=U L;obtain⟨z,h2⟩:=O;simp only at b8 l3 tu;have h6:=U (b8.i.dz (i:=0) (R:=g8.heap.size) (y:=dE) rfl z);obtain⟨r2,r3,r4,r5,r6,r7,r8,r9⟩:=b8.i.K (i:=0) (R:=g8.heap.size) (x:=dE) rfl;go_wp21;refine bj h6 (ec · 4 [40]) λm0 e2=>?_;have l6:=Op (t:=t) e2.i.aL.bD;have CZ:=(tu.u (bu (t:=t) 4 [40] h2)).u (ye (t:=t) _);go_wp21;refine bj e2 (Ot · Zm) λs0 e3=>?_;generalize L:gj t (aj t 4 [40] h2)=O at *
    have i9:=U L;obtain⟨⟨B,M⟩,d3⟩:=O;simp only at e3 l6 CZ;go_wp21;refine bj e3 (ec · 4 [41]) λs1 e4=>?_;have c4:=U (Na (e4.i.f4 (i:=3) (a:=eV (.slice a3 x.length a5) x) rfl) (by have:=g0.i;omega) Zm);have c7:=Gk (t:=t) x (aj t 4 [41] d3);have st4:=U ((CZ.u (bu (t:=t) 4 [41] d3)).u (rX (t:=t) x _));go_wp21;refine c4.i.mono ?_;rintro P s2 ⟨l9,rfl,E⟩;obtain⟨j3,j5,a7⟩:=aW (E.y _ Yb);subst a7;have e5:=U (e4.i.c8 (i:=3) (a:=eV (.slice a3 x.length a5) x) rfl E);generalize L:cJ t x (aj t 4 [41] d3)=O at *
    have j0:=U L;obtain⟨u,S⟩:=O;simp only at e5 c7 st4;go_wp21;refine(um u Zm Zm _).mono ?_;rintro P b0 ⟨rfl,c9⟩;have d8:=U (e5.i.ae c9);have a0:=U (e8.i.symm.trans (acC (out:=l) i4.i c6 i7.i i8.i i9.i j0.i));unfold GA at a0;simp only at a0;have g2:af (∀N,(b0.alloc N).ownsRow 0 288 5 (.slice iE k.length A) k.length (k.flatMap gG)):=U (λN=>bQ (d8.i.bv (i:=1) (a:=hx (.slice iE k.length A) k) rfl) ((ar [] b0).A N) Zq);have g1:∀a9∈gG ⟨0,0,u,B,C⟩,a9.oneCell'=true:=by
     intro a9 g4;simp[gG]at g4;rcases g4 with rfl|rfl|rfl|rfl<;>rfl
    have k9:=uE u Zm Zm;unfold dk at k9 a0;generalize Lib.itoa u=a6 at *
    have q2:¬(9223372036854775807<l.length+D.length):=Zm;have q3:¬(9223372036854775807<l.length+D.length+1):=Zm;have q4:¬(9223372036854775807<l.length+D.length+1+z.text.length):=Zm;have q5:¬(9223372036854775807<l.length+D.length+1+z.text.length+1):=Zm;have q6:¬(9223372036854775807<l.length+D.length+1+z.text.length+1+M.length):=Zm;have q7:¬(9223372036854775807<l.length+D.length+1+z.text.length+1+M.length+4):=Zm;have q8:¬(9223372036854775807<l.length+D.length+1+z.text.length+1+M.length+4+a6.length):=Zm;have q0:¬(9223372036854775807<l.length+D.length+1+z.text.length+1+M.length+4+a6.length+2):=Zm;go_wp2_with (at_builtin;(refine ku LK underlying60 (g2.i _) (gG ⟨0,0,u,B,C⟩) (heap_alloc_new b0 _) g1 Zm Zq (H:=b0.heap.size+1) Zq ?_;intro f3 f1 s3 g3 f6 f4 k8;have b7:=U (d8.i.l9 (i:=1) rfl ((ar [] b0).A _) g3 f6 f4 Zq);clear g3 f6 f4 k8 g2 g1;obtain⟨m2,m3,m4,m5,m6,m7,m8,m9⟩:=b7.i.K (i:=0) rfl));refine(jy b7.i.aL 4 Jl).mono ?_;rintro P m0 ⟨rfl,rfl⟩;have d9:=U b7.i.au;cases f9:aM S 4 Jl with
    |true=>
     have J:=U (e9.i.trans (Yo (ym t r.text q) (a0.i.trans (by rw[Y9 f9]:_=((k++[⟨0,0,u,B,C⟩],l++D++[32]++z.text++[40]++M++JH++a6++[59,32]),S)))));have b1:=U (d9.i.aS (N':=b+2*(k++[(⟨0,0,u,B,C⟩:cj)]).length) Zx);simp only[List.set]at b1;go_wp2;go_meet;case rel=>exact⟨some ⟨f3,0,none⟩,f1,k++[⟨0,0,u,B,C⟩],_,S,_,_,Zq,Yo Value.string (jr Zq),Zu,Zx,U (by simpa using b1.i),J⟩
    |false=>
     have h7:af (hc t (10-(k++[(⟨0,0,u,B,C⟩:cj)]).length) (k++[⟨0,0,u,B,C⟩]) (y++[z.text]) (x++[u]) (l++D++[32]++z.text++[40]++M++JH++a6++[59,32]) S=hc t 10 [] [] [] (Jw++r.text++Jd) d2):=U (a0.i.trans (by rw[Y2 (by simp[f9])])).symm;have k3:S.s.e=0->(k++[(⟨0,0,u,B,C⟩:cj)]).length<=8:=by
      intro j7;rcases Yj k.length 8 with j6|j6
      .simp;omega
      .have f5:=xq (n:=k.length) (m:=8) Zm G;exact absurd j7 (by rw[(st4.i f5).1];omega)
     have i5:af ((y++[z.text]).length=(k++[(⟨0,0,u,B,C⟩:cj)]).length):=U (by have:=g5.i;simp;omega);have i6:af ((x++[u]).length=(k++[(⟨0,0,u,B,C⟩:cj)]).length):=U (by have:=g0.i;simp;omega);have b1:=U (d9.i.aS (N':=b+2*(k++[(⟨0,0,u,B,C⟩:cj)]).length) Zx);go_wp2;refine⟨⟨some ⟨f3,0,none⟩,f1,j2,j4,j3,j5,k++[⟨0,0,u,B,C⟩],y++[z.text],x++[u],l++D++[32]++z.text++[40]++M++JH++a6++[59,32],S,Zq,Zq,Zq,?_,Zx,i5,i6,k3,Zx,?_,h7⟩,by simp[nZ];omega⟩
     .rfl
     .have:=b1.i;exact U (by simpa using this)
   .have j9:(G.s.e==0)=false:=by rw[Yi];omega
    have J:=U (e9.i.trans (Yo (ym t r.text q) (e8.i.symm.trans (NC b6))));go_wp2;go_meet;case rel=>exact⟨iE,A,k,l,G,_,_,rfl,rfl,c6,Zm,a1,J⟩
 case rest=>
  obtain⟨iE,A,k,l,G,c1,c2,rfl,rfl,c6,k6,a1,J⟩:=hcut;go_wp21;refine bj a1 (ec · 4 Jl) λs7 e6=>?_;have c4:=U (Na (e6.i.f4 (i:=5) (a:=eV (.slice b3 q.length b5) q) rfl) Zm Zm);have c7:=Gk (t:=t) q (aj t 4 Jl G);go_wp21;refine c4.i.mono ?_;rintro P s8 ⟨g7,rfl,E⟩;have e7:=U (e6.i.c8 (i:=5) (a:=eV (.slice b3 q.length b5) q) rfl E);unfold ym at J;generalize cJ t q (aj t 4 Jl G)=l4 at *
  obtain⟨F,n0⟩:=l4;simp only at e7 c7 J;go_wp2;go_loopw [24] (λc8 d1=>∃(p:Nat) (I:List cj),c8=Y p/\p<=(k).length/\af (I=((k).take p).map (λa8=>{ a8 with et:=F })++(k).drop p)/\af (aY f d t (b+2*(k).length) n0 [hx (.slice iE (k).length A) I,c1,c2,.obj j.heap.size (oW r),cS (.slice b2 (w++[r.text]).length b4) (w++[r.text]),eV g7 (q++[F])] c d1)) (λc8 _=>(k).length-(intOf c8).toNat)
  case atStart=>exact⟨0,k,rfl,Zm,U Zq,e7⟩
  case round=>
   obtain⟨p,I,rfl,f7,n1,b9⟩:=hrel;rcases Yj p (k).length with k7|p3
   .have p5:(0:Int)<=↑p:=Zm;have k5:(↑p:Int) < ↑(k).length:=Zm;have f8:p<I.length:=by grind [af.i]
    obtain⟨o8,k1,p2,p4,-,o9⟩:=NB (b9.i.bv (i:=0) (a:=hx (.slice iE (k).length A) I) rfl) f8;cases k1
    have c0:af (I.set p { I.getD p oH with et:=F } = ((k).take (p+1)).map (λa8=>{ a8 with et:=F })++(k).drop (p+1)):=U (by
     grind [Oo,af.i,Lu])
    have h8:=U (b9.i.k3 (i:=0) (k:=p) (j:=1) (p':={ I.getD p oH with et:=F }) (v:=Y F) rfl f8 Zm rfl);go_wp2;exact⟨⟨p+1,_,Zr,Zm,c0,h8⟩,Zz⟩
   .have k5:¬((↑p:Int) < ↑(k).length):=Zm;have c0:af (I=(k).map (λa8=>{ a8 with et:=F })):=U (by
     grind [af.i])
    go_wp21;refine(um F Zm Zm _).mono ?_;rintro P s9 ⟨rfl,c9⟩;have h9:=U (b9.i.ae c9);have l0:=uE F Zm Zm;unfold dk at l0 J;generalize Lib.itoa F=c5 at *
    have q9:¬(9223372036854775807<l.length+4):=Zm;have r0:¬(9223372036854775807<l.length+4+c5.length):=Zm;have r1:¬(9223372036854775807<l.length+4+c5.length+2):=Zm;go_wp2;refine ada (i0:=6) (i1:=7) (i2:=8) (i3:=9) (v0:=.slice b2 (w.length+1) b4) (v1:=g7) (v2:=.slice iE (k).length A) (v3:=.string ⟨(l++[125,32,61,32]++c5++[59,32]).toArray⟩) ?_ ?_ ?_ ?_ ?_ ?_ ?_
    .rfl
    .rfl
    .rfl
    .rfl
    .rfl
    .rfl
    .rw[J.i];refine⟨_,_,_,rfl,?_,Zx,Zu⟩;rw[<-c0.i];exact(h9.i.aS Zm).ho (λK=>match K with|0=>4|1=>5|_=>0) (by intro K p k4 f7;simp at k4 f7;match K,p with|0,0=>simp|0,1=>simp|0,2=>simp|1,0=>simp|1,1=>simp|1,2=>simp|2,0=>simp|2,1=>simp|2,2=>simp|K+3,_=>omega|_,p+3=>omega) (by intro K n2 k0;match K with|0=>simp_all|1=>simp_all|2=>simp_all|K+3=>simp at k0)
end
section
variable {j q : Nat -> Prop} {P h p : Nat} {t : Zb} {a w : ai} {b o f u d : Zw} {c : PV} {k : List Th} {i : Nat} {g r : Th}
def Lz(b:Zw)(a:Option Nat):b.grownBy b a:=⟨rfl,rfl,rfl,Y4 _,λ_ _ _=>rfl⟩
def acy(d:List cj):∀b∈d.flatMap gG,b.oneCell'=true:=by
 intro b c;obtain⟨e,_,a⟩:=List.mem_flatMap.1 c;simp[gG]at a;rcases a with rfl|rfl|rfl|rfl|rfl<;>rfl
def ad9(b:Zw)(e:TypeId){v k}{c a:List cj}(h:b.ownsRow 0 288 5 v c.length (c.flatMap gG))(i:b.ownsRow 0 288 5 k a.length (a.flatMap gG))(D:c.length+a.length<=1000000000):∃d f,(Builtin.append_ #[60,60] e #[v,k]).run prog b=.ok d f/\f.ownsRow 0 288 5 d (c++a).length ((c++a).flatMap gG)/\b.grownBy f v.ownBlock/\(d.ownBlock=v.ownBlock\/d.ownBlock=some b.heap.size):=by
 obtain⟨j,g,p,q,r⟩:=info_parts LK;have s:(Value.agg #[Y 0,Y 0,Y 0,Y 0,Y 0]).cells.size=5:=Zr;rw[Yq,YK];rcases i.2 with⟨rfl,n⟩|⟨m,l,u,rfl,x,y,z,A,B,C⟩
 .have o:a=[]:=Yv.1 n;subst o;refine⟨v,b,run_append_owned_none (P:=prog) b 0 60 e 288 j 5 underlying60 g v c.length _ h,Zu,Lz ..,Y8 rfl⟩
 .obtain⟨d,f,E,F,w,_,t⟩:=run_append_own_at (P:=prog) b 0 60 e 288 j _ 5 40 underlying60 g p q r s Zm v c.length (c.flatMap gG) h ⟨m,0,none⟩ a.length l (a.flatMap gG) i.1 (by
   grind [Addr.add,oK]) (acy a) Zn Zm (YV _)
  grind
def Qe{e rest}{c:Oper}{g:Act}{Q}{b:Zw}(p:c.guard=none)(h i:Operand)
  (r:c.op=.call { callee:=.builtin .append,args:=#[h,i],argTypes:=#[60,60] }) {v y:Zv} {l m:List cj} (t:g.eval h=v) (w:g.eval i=y) (u:b.ownsRow 0 288 5 v l.length (l.flatMap gG)) (x:b.ownsRow 0 288 5 y m.length (m.flatMap gG)) (q:l.length+m.length<=1000000000)
  (n:∀ad a f,f.ownsRow 0 288 5 (.slice ad (l++m).length a) (l++m).length ((l++m).flatMap gG)->b.grownBy f v.ownBlock->((Value.slice ad (l++m).length a).ownBlock=v.ownBlock\/(Value.slice ad (l++m).length a).ownBlock=some b.heap.size)->wpList prog e Q rest (g.put c.dst (.slice ad (l++m).length a)) f):wpList prog e Q (c::rest) g b:=by
 refine wpList_plain p λz o=>?_;obtain⟨A,f,s,d,k,j⟩:=ad9 b c.type u x q;obtain⟨ad,a,rfl⟩:=aW d;unfold Oper.wp execOp;simp only[r,resolve,invoke,builtin,Sem.run_bind,Sem.run_pure,Result.andThen_ok,List.map_toArray,List.map_cons,List.map_nil,t,w,s];exact o _ _ (n ad a f d k j)
def aY.ma{v}{l c:List cj}{ad e}(u:aY j P t h a k o b)(r:k[i]?=some (hx v l))(s:d.ownsRow 0 288 5 (.slice ad c.length e) c.length (c.flatMap gG))(f:b.grownBy d v.ownBlock)(p:(Value.slice ad c.length e).ownBlock=v.ownBlock\/(Value.slice ad c.length e).ownBlock=some b.heap.size):aY j P t h a (k.set i (hx (.slice ad c.length e) c)) o d:=by
 refine u.b6 r (kV f) (λg f=>by simpa[Th.aH]using f) s ?_;intro g q;have n:(Value.slice ad c.length e).ownBlock=some g:=q;rcases p with m|m
 .left;rw[m]at n;exact n
 simp_all
def bw.lk{c d}{ms:List cj}{ad q}(f:bw j P t h a c b)(w:b.grownBy d c.pv.ownBlock)(r:d.ownsRow 0 288 5 (.slice ad (a.ao++ms).length q) (a.ao++ms).length ((a.ao++ms).flatMap gG))(v:(Value.slice ad (a.ao++ms).length q).ownBlock=c.pv.ownBlock\/(Value.slice ad (a.ao++ms).length q).ownBlock=some b.heap.size):bW j P t (h+ms.length) { a with ao:=a.ao++ms } (d.setCell ⟨P,9,none⟩ (.slice ad (a.ao++ms).length q)):=by
 rcases r.2 with⟨H,a0⟩|⟨S,O,R,x,D,E,_⟩
 .have s:a.ao=[]:=by
   simp_all
  have o:ms=[]:=by
   simp_all
  subst o;have y:=kV w;have K:ap [P] d (d.setCell ⟨P,9,none⟩ (.slice none 0 0)):=(ar [P] d).a6 (p:=⟨P,9,none⟩) Zq _;have m:ap (c.pv.ownBlock.toList++[P]) b (d.setCell ⟨P,9,none⟩ (.slice none 0 0)):=y.cons K (λM o=>by grind) (λM o=>by grind);have p:∀e,c.pv.ownBlock≠some e->e≠P->e ∉ c.pv.ownBlock.toList++[P]:=λe a1 D=>by simp_all
  have L:∀e∈c.a8,c.pv.ownBlock≠some e/\e≠P:=λe g=>⟨λk=>f.cc e g (mH k),λk=>f.cc e g (by rw[k];simp[PV.b3])⟩;have F:d.heap[P]?=b.heap[P]?:=y.ak P (ay f.aw) (by simpa using f.nd.p);rw[H];have A:∀e,e∈({ c with pv:=.slice none 0 0 }:PV).b3 P->e∈c.b3 P:=by
   intro e g;simp only[PV.b3,Yg,Yn,Option.mem_toList]at g ⊢;rcases g with l|l|l|l|l
   .omega
   all_goals grind [Value.ownBlock]
  refine⟨{ c with pv:=.slice none 0 0 },ci (i:=9) (F.trans f.aw) _,bQ f.h m λe g=>p e (λk=>f.nd.rp e g k) (λk=>f.nd.r Zu),bQ f.G m λe g=>p e (λk=>f.nd.np e g k) (λk=>f.nd.n Zu),?_,f.ah.a8 m λe g=>p e (λk=>f.nd.pg e k g) (λk=>f.nd.g Zu),f.am,?_,?_,λe g o=>f.cc e g (A e o),λe g=>f.bV e (g.imp (A e) id),λe J=>Yr (f.bn e J) m.aG,f.fin,f.bD,f.b9,?_,f.cn⟩
  .simp only[s,YH];exact⟨rfl,Y8 ⟨rfl,rfl⟩⟩
  .intro i N z I s;obtain⟨B,C⟩:=f.dp i N z I s;have u:=λe g=>L e (mG s g);exact⟨B.a8 m λe g=>p e (u e (Y8 g)).1 (u e (Y8 g)).2,C.a8 m λe g=>p e (u e (Ya g)).1 (u e (Ya g)).2⟩
  .exact⟨f.nd.r,f.nd.n,by simp[Value.ownBlock],f.nd.g,f.nd.rn,by simp[Value.ownBlock],f.nd.rg,by simp[Value.ownBlock],f.nd.ng,by simp[Value.ownBlock]⟩
  .have:=f.bm;grind [ai.sz]
 .have G:(a.ao++ms).length=a.ao.length+ms.length:=Yq;simp only[Value.slice.injEq]at x;obtain⟨rfl,-,rfl⟩:=x;rw[G]at r v ⊢;rw[YK]at r;refine⟨_,f.lj w r ?_ (ay E)⟩;rcases v with l|l
  .exact Y8 l.symm
  grind [fS]
def HO(t:Zb)(c:Zc)(a:List Int)(all:List cj)(b:Zb)(v:yN×ai):(List cj×Zb)×ai:=
 if aM v.2 4 Jl=true then ((all++v.1.l,b++v.1.i),v.2)else ga t (6-(a++[v.1.num]).length) (c++[v.1.a5]) (a++[v.1.num]) (all++v.1.l) (b++v.1.i) v.2
theorem HN{b d f all c}(g:a.s.e≠0):ga t b d f all c a=((all,c),a):=by
 cases b<;>simp_all[ga]
def ahg{c}{b:List Int}{all out}{v:yN×ai}(e:a.s.e=0)(f:b.length<=5)(g:gb t c b (aT b.length 4 a)=v):ga t (6-b.length) c b all out a=HO t c b all out v:=by
 have d:6-b.length=(5-b.length)+1:=Zm;simp_all[HO,ga]
def afF:∀(b:Nat) (c:List cj) (f:Zc) (d:List Int) (e:Zb) (a:ai),bp a (hc t b c f d e a).2:=by
 intro b;cases b with
 |zero=>intro c f d e a;exact fI a
 |succ b=>
  intro c f d e a g;simp_all[NC]
def afN(b:Zc)(c:List Int)(a:ai):bp a (gb t b c a).2:=by
 unfold gb;exact(bu _ _ _).u ((qM _ _ _).u ((bu _ _ _).u ((afF _ _ _ _ _ _).u ((bu _ _ _).u (rX _ _)))))
end
section
variable {d w : Nat -> Prop} {b c N' : Nat} {t : Zb} {h g : ai} {j q k r u : Zw} {o : PV} {L R : List Th} {i : Nat} {a x : Th}
def Qt(g:aY d b t c h (L++R) q j):aY (jq d R) b t c h L j j:=by
 refine⟨g.aL.ca ?_,oX ..,λe a=>g.y e (Yf _ a),?_,?_⟩
 .rintro k ((f|⟨e,a,f⟩)|⟨e,a,f⟩)
  .exact Y8 f
  .exact Ya ⟨e,Ym _ a,f⟩
  .exact Ya ⟨e,Yf _ a,f⟩
 .rintro e a k f (m|⟨l,i,m⟩)
  .exact g.bX e (Yf _ a) k f m
  .obtain⟨n,p⟩:=List.getElem?_of_mem a;obtain⟨o,w⟩:=List.getElem?_of_mem i;have v:=(YB.1 p).1;exact g.cd n (L.length+o) e l Zm (by rw[Ys v];exact p) (by rw[Yw Zm];simpa using w) k f m
 .intro n o e l u a i;have r:=(YB.1 a).1;have s:=(YB.1 i).1;exact g.cd n o e l u (by rw[Ys r];exact a) (by rw[Ys s];exact i)
def Qs{o}(u:aY d b t c h (L++R) q j)(f:aY (jq d R) b t N' g o j k):aY d b t N' g (o++R) q k:=by
 have y:∀e∈R,e.At k:=λe a=>(u.y e (Ym _ a)).fr f.fr λn m=>Ya ⟨e,a,m⟩;refine⟨f.aL.ca ?_,u.fr.u (f.fr.ca λ_ _ s=>Y8 s),?_,?_,?_⟩
 .rintro v (i|⟨e,a,i⟩)
  .exact Y8 (Y8 i)
  .rcases Yn.1 a with a|a
   .exact Ya ⟨e,a,i⟩
   .exact Y8 (Ya ⟨e,a,i⟩)
 .intro e a;rcases Yn.1 a with a|a
  .exact f.y e a
  .exact y e a
 .intro e a v i s;rcases Yn.1 a with a|a
  .exact f.bX e a v i (Y8 s)
  .exact u.bX e (Ym _ a) v i s
 .intro w x e p z a l n m r;rw[List.getElem?_append]at a l;split at a
  .split at l
   .exact f.cd w x e p z a l n m r
   .exact f.bX e (Yh a) n m (Ya ⟨p,Yh l,r⟩)
  .split at l
   .exact f.bX p (Yh l) n r (Ya ⟨e,Yh a,m⟩)
   .rename_i A B;exact u.cd (L.length+(w-o.length)) (L.length+(x-o.length)) e p Zm (by rw[Yw Zm];simpa using a) (by rw[Yw Zm];simpa using l) n m r
def aY.m0{o g r l k n m v}(E:aY d b t c h L q r)(e:bw (jq d L) b t c g o l)(B:Fr (jq d L) r l)(C:g.ah=h.ah)(y:DM o.gv h.ah v n m l k):k.heap[b]?=some (qD t g.s (vE o g))/\aY d b t (c+1) { g with ah:=g.ah++[v] } L q (k.setCell ⟨b,15,none⟩ (.slice (some ⟨n,0,none⟩) (g.ah.length+1) m)):=by
 obtain⟨⟨F,u,i,z⟩,w,D⟩:=y;have x:=e.az u;rw[<-C]at w;refine⟨x.h0 i e.nd.g,E.call ⟨⟨_,x.ll i w z D⟩,?_⟩⟩;have A:Fr (jq d L) r k:=(B.c8 u Zq).c8 (kV i) (λf a j=>absurd j (e.bV f (Y8 (nA (by simpa using a)))));exact A.c8 ((ar [b] k).a6 (p:=⟨b,15,none⟩) Zq _) (λf a j=>absurd j (e.bV f (Y8 (by simp only[Yc]at a;rw[a];simp[PV.b3]))))
def xO(t:Zb)(v:(List cj×Zb)×ai):ai:=
 gi (v.1.2++[125,32,61,32]++dk (cJ t (aj t 4 Jl v.2).ah (aj t 4 Jl v.2)).1++[59,10]) { (cJ t (aj t 4 Jl v.2).ah (aj t 4 Jl v.2)).2 with ah:=(cJ t (aj t 4 Jl v.2).ah (aj t 4 Jl v.2)).2.ah++[(cJ t (aj t 4 Jl v.2).ah (aj t 4 Jl v.2)).1],ao:=(cJ t (aj t 4 Jl v.2).ah (aj t 4 Jl v.2)).2.ao++v.1.1.map (λa=>{ a with prog:=(cJ t (aj t 4 Jl v.2).ah (aj t 4 Jl v.2)).1 }) }
def ae2(a:List Int)(h:ai):Sm h (cJ t a h).2:=by
 unfold cJ;exact(aF ..).u ((iJ ..).u ((oa ..).u (aF ..)))
def acM(p:bW d b t c h j)(q2:c+1000000<=1000000000):Calls prog 83 #[Zp b] j (GP d b t (c+1000000) (iV t h) (.tuple #[]) j):=by
 have d8:=U (mz p);obtain⟨p3,f8⟩:=p;obtain⟨p5,p8,i8⟩:=aW f8.ah;obtain⟨-,-,-,-,-,-,-,-,-,-,-,-,-,-,b1,m4,n3⟩:=f8.K;rw[i8]at b1;clear f8 i8;go_in;go_wp21;refine bj d8 (sV · h.ah.length 4) λr d9=>?_;clear b1 m4 n3;go_wp21;refine bj d9 (ec · 2 Jc) λu c4=>?_;go_wp21;refine(xh c4.i.aL 2 Zm).mono ?_;rintro d1 P ⟨rfl,j4,c1,o0⟩;have c5:=U (c4.i.call ⟨j4,c1⟩);clear j4 c1;generalize j3:bc t 2 (aj t 2 Jc (aT h.ah.length 4 h))=o7 at *
 obtain⟨C,k4⟩:=o7;have l2:=U j3;simp only at c5 o0;clear j3;have e0:=U (c5.i.A (oW C));go_wp21;refine bj e0 (ec · 4 Jv) λs6 c6=>?_;obtain⟨j6,j7,j8,j9,k0,k1,k2,k3⟩:=c6.i.K (i:=0) rfl;have r3:¬(9223372036854775807<8+C.text.length):=Zm;have r4:¬(9223372036854775807<8+C.text.length+3):=Zm;have a0:af (iV t h=xO t (ga t 6 [] [] [] (Jj++C.text++Jd) (aj t 4 Jv k4))):=by
  show _=_;unfold iV xO;simp only[l2.i]
 generalize m3:aj t 4 Jv k4=g8 at *
 clear m3;have e1:=U (c6.i.km.nil.i9);go_upto_block 0 with fail;go_cut [3,4,5,6] (λg3 v d7 g7 wc=>∃(x:Option Addr) (z:Nat) (all:List cj) (q:Zb) (g:ai) (c9 d0:Th),g7=.slice x all.length z/\g3=Zs q/\all.length<=100/\q.length<=602100/\af (aY d b t (c+1+20*5) g [c9,d0,hx (.slice x all.length z) all,.obj P.heap.size (oW C)] j wc)/\af (iV t h=xO t ((all,q),g)));case first=>
  go_wp2;go_loopw [3,4,5,6] (λg3 v d7 g7 g5=>∃(iE:Option Addr) (b2:Nat) (b0:Option Addr) (b3:Nat) (x:Option Addr) (z:Nat) (A:Zc) (k:List Int) (all:List cj) (q:Zb) (g:ai),v=.slice iE A.length b2/\d7=.slice b0 k.length b3/\g7=.slice x all.length z/\g3=Zs q/\k.length<=5/\af (A.length=k.length)/\af (all.length<=9*k.length)/\(g.s.e=0->k.length<=4)/\q.length<=2100+100000*k.length/\af (aY d b t (c+1+20*k.length) g [cS (.slice iE A.length b2) A,eV (.slice b0 k.length b3) k,hx (.slice x all.length z) all,.obj P.heap.size (oW C)] j g5)/\af (ga t (6-k.length) A k all q g=ga t 6 [] [] [] (Jj++C.text++Jd) g8)) (λ_ _ d7 _ _=>15-nZ d7)
  case atStart=>exact⟨none,0,none,0,none,0,[],[],[],Jj++C.text++Jd,g8,rfl,rfl,rfl,Yo Value.string (jr Zq),Zq,U rfl,U Zq,Zq,Zx,e1,U rfl⟩
  case round=>
   obtain⟨iE,b2,b0,b3,x,z,A,k,all,q,H,rfl,rfl,rfl,rfl,n1,j2,d2,g0,n2,N,a9⟩:=hrel;clear e1 c6 e0 c5 c4 d9 d8 j6 j7 j8 j9 k0 k1 k2 k3;obtain⟨o,i6⟩:=N.i.aL;obtain⟨-,-,-,-,-,-,-,-,-,-,h9,-,-,-,-,b6,a6⟩:=i6.K;clear i6;by_cases O:H.s.e=0
   .have a5:(H.s.e==0)=true:=by rw[O];rfl
    have k7:=U O;have q9:=g0 O;clear O g0;go_wp21;refine bj N (sV · k.length 4) λs7 e2=>?_;clear h9 b6 a6;have a1:=U (a9.i.symm.trans (ahg (all:=all) (out:=q) k7.i n1 rfl));have j5:=U (afN (t:=t) A k (aT k.length 4 H));have h5:=U (ahm (Qt (L:=[cS (.slice iE A.length b2) A,eV (.slice b0 k.length b3) k]) (R:=[hx (.slice x all.length z) all,.obj P.heap.size (oW C)]) e2.i) (by have:=j2.i;omega) Zm Zm);go_wp21;refine h5.i.mono ?_;rintro d1 s8 ⟨s5,s4,s0,rfl,c2,o2,o1⟩;clear h5;obtain⟨h6,i1,n9⟩:=aW (c2.y _ Yb);obtain⟨h7,i2,n8⟩:=aW (c2.y _ (Y5 _ Yb));obtain⟨h8,i3,n0⟩:=aW (c2.y _ (Y5 _ (Y5 _ Yb)));subst n9 n8 n0;have a8:=U (Qs (L:=[cS (.slice iE A.length b2) A,eV (.slice b0 k.length b3) k]) (R:=[hx (.slice x all.length z) all,.obj P.heap.size (oW C)]) e2.i c2);clear c2;generalize gb t A k (aT k.length 4 H)=o8 at *
    obtain⟨⟨nm,nu,E,c3⟩,S⟩:=o8;unfold HO at a1;simp only at a8 o2 o1 a1 j5;have r5:¬(9223372036854775807<q.length+c3.length):=Zm;go_wp2_with (at_builtin;(refine Qe Zr _ _ Zr (l:=all) (m:=E) (v:=.slice x all.length z) (y:=.slice h8 E.length i3) Zr Zr (a8.i.bv (i:=3) (a:=hx (.slice x all.length z) all) rfl) (a8.i.bv (i:=2) (a:=hx (.slice h8 E.length i3) E) rfl) (by have:=d2.i;omega) ?_;intro e9 f2 s9 c0 b7 b4;have e3:=U (a8.i.ma (i:=3) (v:=.slice x all.length z) (l:=all) rfl c0 b7 b4);clear c0 b7 b4));refine(jy e3.i.aL 4 Jl).mono ?_;rintro d1 o9 ⟨rfl,rfl⟩;have e4:af (aY d b t (c+1+20*k.length+20) S [cS (.slice h6 (A++[nm]).length i1) (A++[nm]),eV (.slice h7 (k++[nu]).length i2) (k++[nu]),hx (.slice e9 (all++E).length f2) (all++E),.obj P.heap.size (oW C)] j o9):=U (e3.i.ho (λJ=>match J with|0=>0|1=>1|2=>3|_=>4) (by intro J w m8 i9;simp at m8 i9;match J,w with|0,0=>simp|0,1=>simp|0,2=>simp|0,3=>simp|1,0=>simp|1,1=>simp|1,2=>simp|1,3=>simp|2,0=>simp|2,1=>simp|2,2=>simp|2,3=>simp|3,0=>simp|3,1=>simp|3,2=>simp|3,3=>simp|J+4,_=>omega|_,w+4=>omega) (by intro J p6 b5;match J with|0=>simpa using b5|1=>simpa using b5|2=>simpa using b5|3=>simpa using b5|J+4=>simp at b5));clear e3 a8 e2 N;cases j1:aM S 4 Jl with
    |true=>
     have G:=U (a0.i.trans (Yo (xO t) (a1.i.trans (by rw[Y9 j1]:_=((all++E,q++c3),S)))));have b9:(all++E).length<=100:=by have:=d2.i;simp;omega
     have e5:=U (e4.i.aS (N':=c+1+20*5) Zm);clear a9 a0 a1 e4;go_wp2;go_meet;case rel=>exact⟨e9,f2,all++E,q++c3,S,_,_,Zq,Yo Value.string (jr Zq),b9,Zx,e5,G⟩
    |false=>
     have k5:af (ga t (6-(k++[nu]).length) (A++[nm]) (k++[nu]) (all++E) (q++c3) S=ga t 6 [] [] [] (Jj++C.text++Jd) g8):=U (a1.i.trans (by rw[Y2 (by simp[j1])])).symm;have m7:S.s.e=0->(k++[nu]).length<=4:=by
      intro m2;rcases Yj k.length 4 with m0|m0
      .simp;omega
      .have b6:=xq (n:=k.length) (m:=4) Zm H;exact absurd m2 (by rw[(j5.i b6).1];exact b6)
     have k9:af ((A++[nm]).length=(k++[nu]).length):=U (by have:=j2.i;simp;omega);have l0:af ((all++E).length<=9*(k++[nu]).length):=U (by have:=d2.i;simp;omega);have e5:=U (e4.i.aS (N':=c+1+20*(k++[nu]).length) Zx);clear a9 a0 a1;go_wp2;refine⟨⟨h6,i1,h7,i2,e9,f2,A++[nm],k++[nu],all++E,q++c3,S,Zq,Zq,Zq,?_,Zx,k9,l0,m7,Zx,e5,k5⟩,by simp[nZ];omega⟩;exact Yo Value.string (jr Zq)
   .have a5:(H.s.e==0)=false:=by rw[Yi];exact O
    have G:=U (a0.i.trans (Yo (xO t) (a9.i.symm.trans (HN O))));have b9:all.length<=100:=by have:=d2.i;omega
    have l3:=U (N.i.aS (N':=c+1+20*5) Zm);clear O a9 a0 g0 N;go_wp2;go_meet;case rel=>exact⟨x,z,all,q,H,_,_,rfl,rfl,b9,Zm,l3,G⟩
 case rest=>
  obtain⟨x,z,all,q,H,c9,d0,rfl,rfl,b9,n2,N,G⟩:=hcut;clear e1 c6 e0 c5 c4 d9 d8 j6 j7 j8 j9 k0 k1 k2 k3 a0;go_wp21;refine bj N (ec · 4 Jl) λt0 g9=>?_;(try clear h9 b6 a6);unfold xO at G;simp only at G;generalize aj t 4 Jl H=I at *
  obtain⟨l4,a4⟩:=g9.i.aL;obtain⟨l6,l9,b8⟩:=aW a4.ah;obtain⟨-,-,-,-,-,-,-,-,-,-,-,-,-,-,b1,m5,n4⟩:=a4.K;rw[b8]at b1;have i5:=a4.bm;unfold ai.sz at i5;have h4:=U (Nb a4 (v:=.slice l6 I.ah.length l9) (l:=I.ah) (b8▸a4.ah) (Ya ⟨b8.symm,rfl⟩) Zm Zm);have n5:=Gk (t:=t) I.ah I;have a7:=ae2 (t:=t) I.ah I;have k8:=U b8;clear a4 b8 i5;go_wp21;refine h4.i.mono ?_;rintro d1 p0 ⟨t1,p9,p7,rfl,g4,i4,c7⟩;clear h4;generalize cJ t I.ah I=o3 at *
  obtain⟨F,D⟩:=o3;simp only at g4 n5 G c7 a7;rw[<-k8.i]at c7;obtain⟨d3,f4⟩:=g9.i.m0 g4 i4 a7.ah c7;have o4:p0.cell? (Zd b 15)=some l4.gv:=aC d3 rfl;have o5:=bl d3;have o6:=ay d3;rw[a7.ah]at f4;have h0:=U f4;have l1:=U a7.ah;have p2:=U a7;clear f4 d3 g4 i4 c7 b1 m5 n4 a7;go_wp2;go_loopw [11] (λg2 g5=>∃(w:Nat) (B:List cj),g2=Y w/\w<=(all).length/\af (B=((all).take w).map (λp=>{ p with prog:=F })++(all).drop w)/\af (aY d b t (c+1+20*5+1) { D with ah:=I.ah++[F] } [c9,d0,hx (.slice x (all).length z) B,.obj P.heap.size (oW C)] j g5)) (λg2 _=>(all).length-(intOf g2).toNat)
  case atStart=>exact⟨0,all,rfl,Zm,U Zq,U (h0.i.aS Zm)⟩
  case round=>
   obtain⟨w,B,rfl,i9,c8,a2⟩:=hrel;clear h0 o4 o5 o6;rcases Yj w (all).length with a6|i7
   .have q8:(0:Int)<=↑w:=Zm;have m9:(↑w:Int) < ↑(all).length:=Zm;have j0:w<B.length:=by rw[c8.i,Mc];exact a6
    obtain⟨q0,m6,q6,q7,q1,-⟩:=NB (a2.i.bv (i:=2) (a:=hx (.slice x (all).length z) B) rfl) j0;cases m6
    have e8:af (B.set w { B.getD w oH with prog:=F } = ((all).take (w+1)).map (λp=>{ p with prog:=F })++(all).drop (w+1)):=U (by
     have m1:=Oo (f:=λp:cj=>{ p with prog:=F }) a6;rw[c8.i,Lu a6];exact m1)
    have k6:=U (a2.i.k3 (i:=2) (k:=w) (j:=0) (p':={ B.getD w oH with prog:=F }) (v:=Y F) rfl j0 Zm rfl);go_wp2;exact⟨⟨w+1,_,Zj,Zm,e8,k6⟩,Zz⟩
   .have m9:¬((↑w:Int) < ↑(all).length):=Zm;have e8:af (B=(all).map (λp=>{ p with prog:=F })):=U (by
     rw[c8.i,List.take_of_length_le i7,YR i7,YH])
    have r2:B.length<=100:=by rw[c8.i,Mc];exact b9
    obtain⟨h3,a3⟩:=a2.i.aL;obtain⟨f0,f3,d6⟩:=aW a3.ao;obtain⟨-,-,-,-,-,-,-,-,i0,-,-,-,-,-,-,q4,r1⟩:=a3.K;rw[d6]at i0;have f7:=a3.bm;unfold ai.sz at f7;change wr.cell? _=some (.slice f0 D.ao.length f3)at i0;have n7:af (wr.ownsRow 0 288 5 (.slice f0 D.ao.length f3) D.ao.length (D.ao.flatMap gG)):=U (d6▸a3.ao);have M:=U (Yp a3 d6);have q5:D.ao.length<=c+200:=by simp only at f7;omega
    clear a3 d6 f7;go_wp2_with (at_builtin;(refine Qe Zr _ _ Zr (l:=D.ao) (m:=B) (v:=.slice f0 D.ao.length f3) (y:=.slice x (all).length z) Zr Zr n7.i (a2.i.bv (i:=2) (a:=hx (.slice x (all).length z) B) rfl) Zm ?_;intro l5 l8 g6 c0 b7 b4;have d5:wr.grownBy g6 h3.pv.ownBlock:=(by rw[M.i.2];exact b7);have d4:=M.i.1.h0 d5 M.i.1.nd.p;have s1:g6.cell? (Zd b 9)=some h3.pv:=aC d4 rfl;have s2:=bl d4;have s3:=ay d4;have h2:=M.i.1.lk (ms:=B) d5 c0 (by rw[M.i.2];exact b4);have h1:=(((oX (jq d [c9,d0,hx (.slice x (all).length z) B,.obj P.heap.size (oW C)]) wr).c8 (kV d5) (λf1 a5 g1=>absurd g1 (M.i.1.bV f1 (Y8 (mH (by simpa using a5)))))).c8 ((ar [b] g6).a6 (p:=⟨b,9,none⟩) Zq (.slice l5 (D.ao++B).length l8)) (λf1 a5 g1=>absurd g1 (M.i.1.bV f1 (Y8 (by simp only[Yc]at a5;rw[a5];simp[PV.b3])))));have e6:=U (a2.i.call ⟨h2,h1⟩);clear c0 b7 b4 d5 d4 h2 h1));simp only[Yq]at e6;refine(um F Zm Zm _).mono ?_;rintro d1 p1 ⟨rfl,c1⟩;have e7:=U (e6.i.ae c1);clear c1 e6 a2;rw[e8.i]at e7;have n6:=uE F Zm Zm;rw[l1.i]at G;unfold dk at n6 G;generalize Lib.itoa F=f5 at *
    obtain⟨p4,f9⟩:=e7.i.aL;obtain⟨-,-,-,-,-,-,-,-,-,l7,-,-,-,-,-,q3,r0⟩:=f9.K;have f6:=f9.bm;unfold ai.sz at f6;simp only[YU,Yq]at f6;change p1.cell? _=some (Zs D.i)at l7;clear f9;have r6:¬(9223372036854775807<D.i.length+q.length):=Zm;have r7:¬(9223372036854775807<D.i.length+q.length+4):=Zm;have r8:¬(9223372036854775807<D.i.length+q.length+4+f5.length):=Zm;have r9:¬(9223372036854775807<D.i.length+q.length+4+f5.length+2):=Zm;clear f6;go_wp2;go_end0;rw[G.i];exact⟨rfl,((e7.i.gd (K:=900000) (s:=q++[125,32,61,32]++f5++[59,10]) (jr Zq) Zx).aS Zx).fin⟩
end
section
variable {f n : Nat -> Prop} {c e l : Nat} {b : Zb} {a σ' : ai} {d k r h t : Zw} {g : PV} {j m : List Th} {i : Nat} {o q : Th}
def bw.h5(h:bw f c b e a g d):bw f c b (e+1) { a with an:=a.an+1 } g (d.setCell ⟨c,14,none⟩ (Y (a.an+1))):=by
 refine h.gV (σ':={ a with an:=a.an+1 }) (ci (i:=14) h.aw _) ((ar [c] d).a6 (p:=⟨c,14,none⟩) Zq _) rfl rfl rfl rfl h.fin h.bD ?_ ?_
 .have:=h.bm;grind [ai.sz]
 .have:=h.cn;grind
def aY.h5(i:aY f c b e a j k d):aY f c b (e+1) { a with an:=a.an+1 } j k (d.setCell ⟨c,14,none⟩ (Y (a.an+1))):=by
 obtain⟨g,h⟩:=i.aL;exact i.call ⟨⟨g,h.h5⟩,Bz h _⟩
def MM(b:cr a)(c:Int):cr { a with an:=c }:=b
def UB(t:bW f c b e a d)(ok:cr a)(p:∀q∈a.h,q.aI.length<=1000)(b3:e+2000000<=1000000000):Calls prog 48 #[Zp c] d (GP f c b (e+2000000) (cH b a) (.tuple #[]) d):=by
 have k:=U (mz t);replace ok:=U ok;replace p:=U p;obtain⟨g,A⟩:=t;obtain⟨R,w,a4,a5,a6,a7,a8,a9,b0,S,a0,a1,a2,v,a3,D,G⟩:=A.K;go_in;go_wp21;refine(jy k.i.aL 2 Je).mono ?_;rintro r O ⟨rfl,rfl⟩;go_wp21;refine(jy k.i.aL 2 Jc).mono ?_;rintro r O ⟨rfl,rfl⟩;cases C:aM a 2 Je with
 |true=>
  have i:af (cH b a=iG b a):=by show _=_;unfold cH;simp_all
  go_wp21;refine bj k (TQ · Zm) λh j=>?_;go_wp2;go_end0;rw[i.i];exact⟨rfl,(j.i.aS Zm).fin⟩
 |false=>
  cases E:aM a 2 Jc with
  |true=>
   have i:af (cH b a=iV b a):=by show _=_;simp_all[cH]
   go_wp21;refine bj k (acM · Zm) λh j=>?_;go_wp2;go_end0;rw[i.i];exact⟨rfl,(j.i.aS Zm).fin⟩
  |false=>
   by_cases z:a.s.x.w=2
   .have B:((a.s.x.w:Int) != 2)=false:=Zu;have n:af (cH b a=if a.s.x.text=Ja then jh b { aT a.an 24 a with an:=(aT a.an 24 a).an+1 }else if a.s.x.text=Jo then jS b { aT a.an 24 a with an:=(aT a.an 24 a).an+1 }else if a.s.x.text=Jf then jG b { aT a.an 24 a with an:=(aT a.an 24 a).an+1 }else if a.s.x.text=Jh then ji b { aT a.an 24 a with an:=(aT a.an 24 a).an+1 }else eu a):=by
     show _=_;unfold cH;rw[Y2 (by simp[C]),Y2 (by simp[E])];simp only[z];by_cases L:a.s.x.text=Ja
     .simp_all
     .by_cases M:a.s.x.text=Jo
      .simp_all
      .by_cases N:a.s.x.text=Jf;all_goals simp_all
    by_cases F:a.s.x.text=Ja\/a.s.x.text=Jo\/a.s.x.text=Jf\/a.s.x.text=Jh
    .rcases F with m|m|m|m;all_goals
      rw[m]at w n;have i:=n.i;simp at i;have i:=U i;go_wp21;refine bj k (sV · a.an 24) λh j=>?_;obtain⟨P,o⟩:=j.i.aL;obtain⟨-,-,-,-,-,-,-,-,-,-,-,-,-,v,-,D,G⟩:=o.K;have y:=o.bm;have b1:=o.cn.2;unfold ai.sz at y;have b2:IntKind.i64.wrap ((aT a.an 24 a).an+1)=(aT a.an 24 a).an+1:=by rw[IntKind.wrap_i64];omega
      have b4:-9223372036854775808<=(aT a.an 24 a).an+1:=Zm;have b5:(aT a.an 24 a).an+1<=9223372036854775807:=Zm;have l:=U j.i.h5;have I:=U (MM (gS ok.i (dN a.an 24 a).al) ((aT a.an 24 a).an+1));have K:af (∀q∈(aT a.an 24 a).h,q.aI.length<=1000):=U (by rw[(dN a.an 24 a).h];exact p.i);go_wp21;first|refine(agX l.i.aL Zm).mono ?_|refine(Vj l.i.aL Zm).mono ?_|refine(afX l.i.aL Zm).mono ?_|refine(ag3 l.i.aL I.i K.i Zm).mono ?_
      rintro r c1 ⟨rfl,J,H⟩;have u:=U (l.i.call ⟨J,H⟩);go_wp2;go_end0;rw[i.i];exact⟨rfl,(u.i.aS Zm).fin⟩
    .obtain⟨L,M,N,c0⟩:(a.s.x.text==Ja)=false/\(a.s.x.text==Jo)=false/\(a.s.x.text==Jf)=false/\(a.s.x.text==Jh)=false:=Zu;have b6:(a.s.x.text != Ja)=true:=Zu;have b7:(a.s.x.text != Jo)=true:=Zu;have b8:(a.s.x.text != Jf)=true:=Zu;have b9:(a.s.x.text != Jh)=true:=Zu;have i:af (cH b a=eu a):=by show _=_;rw[n.i];simp_all
     go_wp21;refine bj k (ub ·) λh j=>?_;go_wp2;go_end0;rw[i.i];exact⟨rfl,(j.i.aS Zm).fin⟩
   .have B:((a.s.x.w:Int) != 2)=true:=Zx;have i:af (cH b a=eu a):=by show _=_;simp_all[cH]
    go_wp21;refine bj k (ub ·) λh j=>?_;go_wp2;go_end0;rw[i.i];exact⟨rfl,(j.i.aS Zm).fin⟩
end
section
variable {h t : Nat -> Prop} {c g r : Nat} {j : Zb} {a o : ai} {d v e w m : Zw} {b : PV} {q s : List Th} {i : Nat} {l u : Th}
def aic{d e:Type}:∀(b:List d) (a:List e) (i:Nat) (l:d) (c:e),a[i]?=some c->(b.set i l).zip a=(b.zip a).set i (l,c):=by
 intro b;induction b with
 |nil=>simp
 |cons h b g=>
  intro a i l c f;cases a with
  |nil=>simp
  |cons j a=>
   cases i<;>simp_all
def qA(a:ai)(i:Nat)(b:Int):ai:={ a with h:=a.h.set i { a.h.getD i bz with of:=b } }
theorem bw.nk{b}(l:bw h c j g a b d){i n I:Nat}(v:i<a.h.length)(B:b.rv=.slice (some ⟨n,0,none⟩) a.h.length I)(r:Int):bw h c j g (qA a i r) b (d.setCell ⟨n,i*8+2,none⟩ (Y r)):=by
 have K:b.rv.ownBlock=some n:=by rw[B];rfl
 have q:ap [n] d (d.setCell ⟨n,i*8+2,none⟩ (Y r)):=(ar [n] d).a6 (p:=⟨n,i*8+2,none⟩) Zq _;have t:∀e,b.rv.ownBlock≠some e->e ∉ [n]:=λe m A=>by
  simp only[Yc]at A;exact m (by rw[K,A])
 have E:∀e∈b.a8,b.rv.ownBlock≠some e:=λe m o=>l.cc e m (lr o);have M:i<b.ls.length:=by rw[l.am];exact v
 have y:a.h[i]?=some (a.h.getD i bz):=by simp[v]
 have z:b.ls[i]?=some b.ls[i]:=Yd M;have J:(a.h.zip b.ls)[i]?=some (a.h.getD i bz,b.ls[i]):=by rw[List.getElem?_zip_eq_some];exact⟨y,z⟩
 have R:(tq a.h b.ls).length=a.h.length*8:=l.h.1;refine⟨(q.ak c (ay l.aw) (t c l.nd.r)).trans l.aw,?_,bQ l.G q λe m=>t e (λo=>l.nd.rn e o m),bQ l.ao q λe m=>t e (λo=>l.nd.rp e o m),l.ah.a8 q λe m=>t e (λo=>l.nd.rg e o m),?_,?_,l.nd,l.cc,l.bV,λe O=>Yr (l.bn e O) q.aG,l.fin,l.bD,l.b9,?_,l.cn⟩
 .have F:=l.h;rw[B]at F ⊢;have x:=zJ F (i:=i*8+2) Zm (Y r);unfold tq at x;rw[zm (f:=λs:bt×(Zv×Zv)=>eB s.1 s.2) (k:=8) (λ_=>rfl) (a.h.zip b.ls) i 2 _ ({ a.h.getD i bz with of:=r },b.ls[i]) _ Zm J rfl,<-aic a.h b.ls i _ _ z]at x;unfold qA tq;simp only[YF];exact x
 .unfold qA;simp only[YF];exact l.am
 .intro C P s p w;unfold qA at p;simp only at p;rw[YP]at p;have D:∀u,a.h[C]?=some u->cO s.1 u.aI (d.setCell ⟨n,i*8+2,none⟩ (Y r))/\cO s.2 u.aB (d.setCell ⟨n,i*8+2,none⟩ (Y r)):=by
   intro u N;obtain⟨G,H⟩:=l.dp C u s N w;exact⟨G.a8 q λe m=>t e (E e (mG w (Y8 m))),H.a8 q λe m=>t e (E e (mG w (Ya m)))⟩
  split at p
  .rename_i L;subst L;simp[v]at p;subst p;have:=D _ y;simpa[v]using this
  .exact D P p
 .have:=l.bm;unfold ai.sz qA at *
  simp only[YF];exact this
def gq(a:ai)(b:Zb):ig:=a.G.getD (bY a b).toNat iT
def rQ:Nat->Nat->ai->ai
 |0,_,a=>a
 |k+1,i,a=>
  if(a.h.getD i bz).w=14 then
   if bY a (a.h.getD i bz).a5<0\/(gq a (a.h.getD i bz).a5).a1≠1 then ch 7 (a.h.getD i bz).y a
   else rQ k (i+1) (qA a i (gq a (a.h.getD i bz).a5).n)
  else rQ k (i+1) a
def qG(a:ai):ai:=rQ a.h.length 0 a
def ac9(p:bW h c j g a d)(b3:g<=1000000000):Calls prog 49 #[Zp c] d (GP h c j g (qG a) (.tuple #[]) d):=by
 have a4:=U (mz p);have b1:=p.bm;unfold ai.sz at b1;have e9:a.h.length<=1000000000:=Zm;go_in;go_wp2;go_loopw [2] (λK c7=>∃(k:Nat) (o:ai),K=Y k/\k<=a.h.length/\af (o.h.length=a.h.length)/\af (aY h c j g o [] d c7)/\af (rQ (a.h.length-k) k o=qG a)) (λK _=>a.h.length-(intOf K).toNat)
 case atStart=>exact⟨0,a,rfl,Zm,U rfl,a4,U rfl⟩
 case round=>
  obtain⟨k,f,rfl,e3,x,y,t⟩:=hrel;obtain⟨b,iE,a9,l,C⟩:=y.i.aL.sp;obtain⟨d5,d7,c1⟩:=aW l.h;obtain⟨-,-,-,-,-,-,z,A,-,-,-,-,-,-,-,b5,b8⟩:=l.K;rcases Yj k a.h.length with b9|e1
  .obtain⟨i,J⟩:∃i,f.h.getD k bz=i:=⟨_,rfl⟩;have e4:(0:Int)<=↑k:=Zm;have I:k<f.h.length:=by rw[x.i];exact b9
   have O:=U (t.i.symm.trans (by rw[show a.h.length-k=(a.h.length-(k+1))+1 by omega,rQ,J]));obtain⟨q,G,c6,w,-,L,-,-,-,-,-,M,N,d0,d1,b6⟩:=nY l I;rw[J]at L M N;rw[w]at z;rw[C]at A;have b7:(↑k:Int) < ↑f.h.length:=Zm;have S:=U (sT (l.az (ar [] wr).ag) b3 i.a5);rw[C]at S;have F:=U l;by_cases B:i.w=14
   .have b4:(i.w==14)=true:=by rw[B];rfl
    have r:=U (O.i.trans (by rw[Y9 B]));go_wp2;refine bJ (λe=>e.cell? (Zd c 8)=some (.slice iE f.G.length a9)/\e.cell? (Zd c 7)=some (.slice (some ⟨q,0,none⟩) f.h.length G)/\e.cell? ⟨q,k*8+6,none⟩=some (Zs i.a5)) ?_ λa1=>?_
    .go_keep
    refine bf [0,1,2,3,4,5,6,7,8,9,10,11,12,13] ?_;iterate 14 (refine bi ?_)
    refine bg ?_;refine bI 14 λR v=>?_;(go_simp;refine S.i.mono ?_;rintro d8 f0 ⟨rfl,rfl⟩);refine v.out _ _ ?_ (λa1=>?_)
    .go_keep
    refine nz ?_;refine bL λR v=>?_;go_simp;refine v.out _ _ ?_;refine nz ?_;have u:=U y.i.ag;generalize wr.drew=m at u ⊢;obtain⟨b,d4,d6,l,C⟩:=u.i.aL.sp;obtain⟨q,G,c6,w,-,L,-,c9,-,-,-,M,N,d0,d1,b6⟩:=nY l I;obtain⟨-,-,-,-,-,-,z,A,-,-,-,-,-,-,-,b5,b8⟩:=l.K;rw[J]at L c9 M N;rw[w]at z;have F:=U l;have P:=U w;by_cases b2:bY f i.a5<0
    .have t:af (qG a=ch 7 i.y f):=U (r.i.trans (by rw[Y9 (Y8 b2)]));rw[C]at A;go_wp21;refine bj u (nK · 7 i.y) λc8 E=>?_;go_wp2;go_end0;rw[t.i];exact⟨rfl,E.i.fin⟩
    .have c0:=vP (by omega:0<=bY f i.a5);obtain⟨H,a8,a3,-,d2,d3,-,f1,f2,e0⟩:=uC l c0;change m.cell? _=some (Y (gq f i.a5).a1)at d2;change m.cell? _=some (Y (gq f i.a5).n)at d3;rw[a3]at A;have e2:H≠q:=λb0=>l.nd.rn q (by rw[w];rfl) (by rw[a3,b0];rfl);generalize d9:bY f i.a5=s at *
     obtain⟨s,rfl⟩:∃c3:Nat,s=c3:=⟨s.toNat,Zm⟩;simp only[Int.toNat_natCast]at *
     have e7:(s:Int)<(f.G.length:Int):=Zm;have e6:decide ((s:Int)<0)=false:=Zq;have e8:(0:Int)<=s:=Zm;by_cases D:(gq f i.a5).a1=1
     .have c2:((gq f i.a5).a1 != 1)=false:=by rw[D];rfl
      have a6:af (rQ (a.h.length-(k+1)) (k+1) (qA f k (gq f i.a5).n)=qG a):=U (r.i.trans (by rw[Y2 (by rintro(a0|a0);omega;exact a0 D)])).symm;have a5:=U (u.i.call ⟨⟨b,F.i.nk I P.i (gq f i.a5).n⟩,yz ((ar [q] m).a6 (p:=⟨q,k*8+2,none⟩) Zq (Y (gq f i.a5).n)) (λc4 a2 _=>F.i.bV c4 (Y8 (lr (by simp at a2;rw[a2,P.i];rfl))))⟩);have a7:af ((qA f k (gq f i.a5).n).h.length=a.h.length):=U (by unfold qA;simp only[YF];exact x.i);generalize e5:(gq f i.a5).n=c5 at *
      go_wp2;refine bJ (λe=>e.cell? (Zd c 8)=some (.slice (some ⟨H,0,none⟩) f.G.length a8)/\e.cell? (Zd c 7)=some (.slice (some ⟨q,0,none⟩) f.h.length G)/\e.cell? ⟨H,s*4+2,none⟩=some (Y c5)) ?_ λa1=>?_
      .go_keep
      refine bf [0,1,2,3,4,5,6,7,8,9,10,11,12,13,14,15,16] ?_;iterate 17 (refine bi ?_)
      refine bg ?_;refine bL λR v=>?_;go_simp;refine v.out _ _ ?_;refine nz ?_;go_wp2;exact⟨⟨k+1,_,Zj,Zm,a7,U a5.i.ag,a6⟩,Zz⟩
     .have c2:((gq f i.a5).a1 != 1)=true:=by simpa using D
      have t:af (qG a=ch 7 i.y f):=U (r.i.trans (by rw[Y9 (Ya D)]));go_wp21;refine bj u (nK · 7 i.y) λc8 E=>?_;go_wp2;go_end0;rw[t.i];exact⟨rfl,E.i.fin⟩
   .have b4:(i.w==14)=false:=by rw[Yi];exact B
    have r:=U (O.i.trans (by rw[Y2 B])).symm;go_wp2;exact⟨⟨k+1,f,Zj,Zm,x,y,r⟩,Zz⟩
  .have b7:¬((↑k:Int) < ↑f.h.length):=by rw[x.i];omega
   have r:af (qG a=f):=U (t.i.symm.trans (by rw[show a.h.length-k=0 by omega,rQ]));rw[c1]at z;go_wp2;go_end0;rw[r.i];exact⟨rfl,y.i.fin⟩
end
section
variable {g o : Nat -> Prop} {P f j : Nat} {h : Zb} {c u : ai} {a r b s t : Zw} {d : PV} {i k : List Th} {q : Nat} {e p : Th}
def ad8(a:Zw)(j:TypeId){v n c d}(h:cO v c a)(i:cO n d a)(J:c.length+d.length<=1000000000):∃e b,(Builtin.append_ #[24,24] j #[v,n]).run prog a=.ok e b/\cO e (c++d) b/\a.grownBy b v.ownBlock/\(e.ownBlock=v.ownBlock\/e.ownBlock=some a.heap.size):=by
 obtain⟨l,k,y,z,A⟩:=info_parts us;have B:(Y 0).cells.size=1:=rfl;unfold cO at *
 rw[Yq,List.map_append];rcases i.2 with⟨rfl,r⟩|⟨g,p,E,rfl,F,s,G,H,I,t⟩
 .have w:d=[]:=Yv.1 r;subst w;refine⟨v,a,run_append_owned_none (P:=prog) a 0 24 j 3 l 1 underlying24 k v c.length _ h,by simpa using h,Lz ..,Y8 rfl⟩
 .obtain⟨e,b,x,C,q,_,o⟩:=run_append_own_at (P:=prog) a 0 24 j 3 l _ 1 8 underlying24 k y z A B Zm v c.length (c.map (Y)) h ⟨g,0,none⟩ d.length p (d.map (Y)) i.1 (by
   intro m D f;have u:(⟨g,0,none⟩:Addr).add m=⟨g,m,none⟩:=by unfold Addr.add;split<;>simp_all
   rw[u];exact oK s (by rw[i.1];exact t) f) (by intro D f;simp at f;obtain⟨_,_,rfl⟩:=f;rfl) Zn Zm (YV _)
  exact⟨e,b,x,C,q,o⟩
def ahJ{g rest}{d:Oper}{e:Act}{Q a}(p:d.guard=none)(h i:Operand)
  (r:d.op=.call { callee:=.builtin .append,args:=#[h,i],argTypes:=#[24,24] }) {v y:Zv} {l m} (t:e.eval h=v) (w:e.eval i=y) (u:cO v l a) (x:cO y m a) (q:l.length+m.length<=1000000000)
  (n:∀ad c b,cO (.slice ad (l++m).length c) (l++m) b->a.grownBy b v.ownBlock->((Value.slice ad (l++m).length c).ownBlock=v.ownBlock\/(Value.slice ad (l++m).length c).ownBlock=some a.heap.size)->wpList prog g Q rest (e.put d.dst (.slice ad (l++m).length c)) b):wpList prog g Q (d::rest) e a:=by
 refine wpList_plain p λz o=>?_;obtain⟨A,b,s,f,k,j⟩:=ad8 a d.type u x q;obtain⟨ad,c,rfl⟩:=aW f;unfold Oper.wp execOp;simp only[r,resolve,invoke,builtin,Sem.run_bind,Sem.run_pure,Result.andThen_ok,List.map_toArray,List.map_cons,List.map_nil,t,w,s];exact o _ _ (n ad c b f k j)
def abp{ad f h a b c}(g:(Value.slice ad f a).ownBlock=(Value.slice none 0 0).ownBlock\/(Value.slice ad f a).ownBlock=some b)(d:(Value.slice ad h a).ownBlock=some c):c=b:=by
 cases ad with
 |none=>simp[Value.ownBlock]at d
 |some e=>
  simp[Value.ownBlock]at g d;omega
def qr{e a g h}(b:ap [] a g)(c:ap e g h)(i:∀k∈e,a.heap.size<=k):ap [] a h:=
 ⟨c.os.trans b.os,c.dt.trans b.dt,c.ds.trans b.ds,Yz b.aG c.aG,λd f _=>(c.ak d (Yr f b.aG) (λj=>by have:=i d j;omega)).trans (b.ak d f Zq)⟩
def dj(a:bt):List Int:=if a.w=14\/a.w=9 then [a.of]else if a.w=12 then a.aB else if a.w=13 then a.aB++[a.dR]else []
abbrev gt(d:PV)(c:ai):Zv:=.agg #[d.rv,d.nv,d.pv,Zs c.i]
abbrev ad5(a:bt)(b:Zv×Zv):Obj:=.cells #[Y a.w,Y a.n,Y a.of,b.1,b.2,Y a.dR,Zs a.a5,Y a.y] 117
def XG(n:bw g P h f c d a){j:Nat}(b4:j<c.h.length)(d3:f<=1000000000)(d8:(c.h.getD j bz).aB.length<=1000):Calls prog 91 #[gt d c,Y j] a λb3 b=>∃v,b3=.returned v/\ap [] a b/\cO v (dj (c.h.getD j bz)) b/\∀i,v.ownBlock=some i->i∈d.a8\/a.heap.size<=i:=by
 obtain⟨c7,c9,b6⟩:=aW n.G;obtain⟨c8,d0,b7⟩:=aW n.ao;obtain⟨d2,d1,B,b9,x,e6,e7,e8,c4,c5,e9,f0,f1,f2,f3,-⟩:=nY n b4;have u:=(n.dp j (c.h.getD j bz) B Zg x).2;have N:=(n.dp j (c.h.getD j bz) B Zg x).1;obtain⟨iE,z,R⟩:=aW u;obtain⟨a6,b1,O⟩:=aW N;obtain⟨e4,e5⟩:=B;simp only at O R c4 c5 u;subst O R;have J:=n.bm;unfold ai.sz at J;generalize b8:c.h.getD j bz=e at *
 have d5:(0:Int)<=↑j:=Zm;have d6:(↑j:Int) < ↑c.h.length:=Zm;have E:=U u;have a1:=U (λi (k:(Value.slice iE e.aB.length z).ownBlock=some i)=>mG x (Ya k));clear n u N b8 x J;unfold gt;rw[b9,b6,b7];by_cases q:e.w=14\/e.w=9
 .have m:af (dj e=[e.of]):=by show _=_;unfold dj;simp_all
  by_cases p:e.w=14
  .have H:(e.w==14)=true:=Zu;clear p q;go_in;go_wp2;go_ret;rw[m.i];exact⟨_,rfl,(((ar [] a).A _).A _).A _,⟨rfl,Ya ⟨a.heap.size+1+1,1,#[Y e.of],rfl,YV _,be Zq,Zq,Zn,rfl,rfl⟩⟩,λi k=>Ya (by simp[Value.ownBlock]at k;omega)⟩
  .have H:(e.w==14)=false:=Zu;have a7:(e.w==9)=true:=Zu;clear p q;go_in;go_wp2;go_ret;rw[m.i];exact⟨_,rfl,(((ar [] a).A _).A _).A _,⟨rfl,Ya ⟨a.heap.size+1+1,1,#[Y e.of],rfl,YV _,be Zq,Zq,Zn,rfl,rfl⟩⟩,λi k=>Ya (by simp[Value.ownBlock]at k;omega)⟩
 .have H:(e.w==14)=false:=Zu;have a7:(e.w==9)=false:=Zu;by_cases A:e.w=12
  .have m:af (dj e=e.aB):=by show _=_;simp_all[dj]
   have a8:(e.w==12)=true:=Zu;clear q A;go_in;go_wp2;go_ret;rw[m.i];exact⟨_,rfl,((ar [] a).A _).A _,E.i.a8 (((ar [] a).A _).A _) Zq,λi k=>Y8 (a1.i i k)⟩
  .have a8:(e.w==12)=false:=Zu;by_cases K:e.w=13
   .have m:af (dj e=e.aB++[e.dR]):=by show _=_;simp_all[dj]
    have a9:(e.w==13)=true:=Zu;obtain⟨e3,d4,d9,e0,e1⟩:=info_parts us;have e2:(Y 0).cells.size=1:=rfl;have C:=U (λc1 c2=>E.i.a8 (((ar [] a).A c1).A c2) Zq);clear q A K;go_in;go_wp2_with (at_builtin;(first|(refine ahJ Zr _ _ Zr (l:=[]) (m:=e.aB) (v:=.slice none 0 0) (y:=.slice iE e.aB.length z) Zr Zr (zq _) (C.i ..) Zg ?_;intro G I s w o r;have a2:=U ((((ar [] a).A _).A _).u (kV o));have M:s.heap[a.heap.size+1]?=some (ad5 e (.slice a6 e.aI.length b1,.slice iE e.aB.length z)):=((o.block _ Zq (by simp[Value.ownBlock])).trans (be Zq));obtain⟨f4,f5,f6,f7,f8,f9,g0,g1,g2,g3⟩:=Km M;have a5:af (cO (.slice G e.aB.length I) e.aB s):=U w;have F:=U (λc0=>a5.i.a8 ((ar [] s).A c0) Zq);have D:af (∀t,(Value.slice G e.aB.length I).ownBlock=some t->a.heap.size<=t):=U (λt L=>(by have b2:=abp r L;simp at b2;omega));clear w o r M C)|(refine ku us underlying24 (F.i _) [Y e.dR] (heap_alloc_new s _) Zy Zm Zq (H:=s.heap.size+1) Zq ?_;intro i b0 c3 w o r b5;have a4:af (cO (.slice (some ⟨i,0,none⟩) (e.aB.length+1) b0) (e.aB++[e.dR]) c3):=U (by grind [cO]);have a3:=U (qr (a2.i.A _) (kV o) (λS d7=>D.i S Zu));have a0:af (a.heap.size<=i):=U (r.elim (λp=>D.i i p) (λp=>Zm));clear w o r b5 F)));go_ret;rw[m.i];exact⟨_,rfl,a3.i,a4.i,λt L=>Ya (by have:=a0.i;simp_all[Value.ownBlock])⟩
   .have m:af (dj e=[]):=by show _=_;simp_all[dj]
    have a9:(e.w==13)=false:=Zu;clear q A K;go_in;go_wp2;go_ret;rw[m.i];exact⟨_,rfl,((ar [] a).A _).A _,zq _,λi k=>by simp[Value.ownBlock]at k⟩
end
section
variable {g o : Nat -> Prop} {P e l : Nat} {h : Zb} {a u : ai} {c s d b t : Zw} {f : PV} {k n : List Th} {i : Nat} {q r : Th}
def kB(c:List Int)(a:List Bool):List Bool:=c.foldl (λa b=>if 0<=b then a.set b.toNat true else a) a
def jC(a:ai):Nat->Nat->List Bool->List Bool
 |0,_,b=>b
 |m+1,c,b=>jC a m (c+1) (if b.getD c false=true then kB (dj (a.h.getD c bz)) b else b)
def iv(a:ai):Nat->List Bool->List Bool
 |0,b=>b
 |m+1,b=>iv a m (jC a a.h.length 0 b)
def sS(a:ai)(b:Nat):Bool:=(iv a a.h.length (kB (dj (a.h.getD b bz)) (List.replicate a.h.length false))).getD b false
def yC(a:ai):Prop:=∀b∈a.h,b.aB.length<=1000/\∀c∈dj b,c<a.h.length
theorem FL(b:List Int):∀a:List Bool,(kB b a).length=a.length:=by
 induction b with
 |nil=>intro a;rfl
 |cons d b c=>
  intro a;unfold kB at *
  grind
theorem NZ(a:ai):∀(b d:Nat) (c:List Bool),(jC a b d c).length=c.length:=by
 intro b;induction b<;>grind [jC,FL]
abbrev mp(a:List Bool):Obj:=.cells (a.map Value.bool).toArray 4
def WX:(prog.info? 4).map (λi=>(i.zero,i.size,i.bytes))=some (some (.bool false),1,1):=Zk
def ZV(a:Nat):(Obj.cells (madeCells #[.bool false] a) 4)=mp (List.replicate a false):=by
 unfold mp madeCells;congr 1;grind
def Oj{a j:Nat}{b}(d:c.heap[a]?=some (mp b)):(c.setCell ⟨a,j,none⟩ (.bool true)).heap[a]?=some (mp (b.set j true)):=by
 have:=ci (i:=j) d (.bool true);simp_all
def Mp{b:List Int}{a:Nat}{c:List Bool}(e:a<b.length):kB (b.drop a) c=kB (b.drop (a+1)) (if 0<=b.getD a 0 then c.set (b.getD a 0).toNat true else c):=by
 have d:b.drop a=b.getD a 0::b.drop (a+1):=by
  simp_all
 rw[d];rfl
def LM{v b}{a:Nat}(f:cO v b c)(h:a<b.length):∃d e,v=.slice (some ⟨d,0,none⟩) b.length e/\c.cell? (Zd d a)=some (Y (b.getD a 0))/\d<c.heap.size:=by
 obtain⟨d,e,k,g,_,j⟩:=nW f (i:=a) (x:=Y (b.getD a 0)) Zg;simp_all
def CR{d a:Nat}{b}(e:c.heap[d]?=some (mp b))(f:a<b.length):c.cell? (Zd d a)=some (.bool (b.getD a false)):=aC e Zg
def LY(a:bt):(dj a).length<=a.aB.length+1:=by
 grind [dj]
def UX(p:bw g P h e a f c){o:Nat}(a5:o<a.h.length)(i2:yC a)(g4:e<=1000000000):Calls prog 50 #[gt f a,Y o] c λI d=>I=.returned (.bool (sS a o))/\ap [] c d:=by
 obtain⟨b8,c3,c5⟩:=aW p.G;obtain⟨b9,c4,c7⟩:=aW p.ao;obtain⟨a0,a1,c8⟩:=aW p.h;have f7:=p.bm;unfold ai.sz at f7;have k1:a.h.length<=1000000000:=Zm;have c6:∀i,i<a.h.length->(a.h.getD i bz).aB.length<=1000/\∀C∈dj (a.h.getD i bz),C<a.h.length:=λi L=>i2 _ (by simp[L]);have b6:af (∀N i,ap [] c N->i<a.h.length->Calls prog 91 #[.agg #[.slice a0 a.h.length a1,.slice b8 a.G.length c3,.slice b9 a.ao.length c4,Zs a.i],Y i] N λI d=>∃v,I=.returned v/\ap [] N d/\cO v (dj (a.h.getD i bz)) d/\∀l,v.ownBlock=some l->l<c.heap.size\/N.heap.size<=l):=U (λN i i0 L=>by
  have:=XG (p.az i0) L g4 (c6 i L).1;unfold gt at this;rw[c8,c5,c7]at this;refine this.mono ?_;rintro I d ⟨v,g0,g1,g2,g3⟩;exact⟨v,g0,g1,g2,λl B=>(g3 l B).imp (λa7=>p.lt l (Ya a7)) id⟩)
 have R:=U c6;unfold gt;rw[c8,c5,c7];go_in;go_wp21;refine(b6.i _ o ((ar [] c).A _) a5).mono ?_;rintro I b ⟨k4,rfl,c9,d1,-⟩;have b0:=(R.i o a5).2;have j6:(dj (a.h.getD o bz)).length<=2000:=by have:=LY (a.h.getD o bz);have:=(R.i o a5).1;omega
 have d5:af (sS a o=(iv a a.h.length (kB (dj (a.h.getD o bz)) (List.replicate a.h.length false))).getD o false):=U rfl;generalize dj (a.h.getD o bz)=x at *
 have s:b.heap[c.heap.size]?=some (.cells #[.slice a0 a.h.length a1,.slice b8 a.G.length c3,.slice b9 a.ao.length c4,Zs a.i] 62):=(c9.ak _ Zq Zq).trans (be rfl);obtain⟨e8,f2,rfl⟩:=aW d1;have c0:b.cell? (Zd c.heap.size 0)=some (.slice a0 a.h.length a1):=aC s rfl;have c1:=bl s;have c2:=ay s;have d9:=U (((ar [] c).A _).u c9);have d4:=U s;have b5:=U d1;have h7:=run_make_row' (P:=prog) 175 4 (.bool false) 1 underlying175 WX rfl .i64 .i64 a.h.length Zm Zm b;rw[ZV]at h7;have g6:(b.alloc (mp (List.replicate a.h.length false))).heap[b.heap.size]?=some (mp (List.replicate a.h.length false)):=be rfl;have e3:=U (Yp (ar [b.heap.size] (b.alloc (mp (List.replicate a.h.length false)))) g6);have e0:=U (b5.i.a8 ((ar [] b).A (mp (List.replicate a.h.length false))) Zq);have b4:=U (d9.i.A (mp (List.replicate a.h.length false)));have O:=U ((((ar [] b).A (mp (List.replicate a.h.length false))).ak _ c2 Zq).trans d4.i);have g8:af (∀l,(Value.slice e8 x.length f2).ownBlock=some l->l≠b.heap.size):=U (λl B f6=>by have:=(lI b5.i B).2;omega);have i9:c.heap.size<b.heap.size:=c2;go_wp2;generalize i8:b.alloc (mp (List.replicate a.h.length false))=b1 at *
 go_loopw [7] (λq z=>∃(i:Nat) (k:List Bool),q=Y i/\i<=x.length/\af (k.length=a.h.length)/\af (kB (x.drop i) k=kB x (List.replicate a.h.length false))/\af (ap [b.heap.size] b1 z/\z.heap[b.heap.size]?=some (mp k))) (λq _=>x.length-(intOf q).toNat)
 case atStart=>exact⟨0,List.replicate a.h.length false,rfl,Zm,U Zq,U rfl,e3⟩
 case round=>
  obtain⟨i,k,rfl,L,F,J,j⟩:=hrel;rcases Yj i x.length with a2|h0
  .have j2:(0:Int)<=↑i:=Zm;have h3:(↑i:Int) < ↑x.length:=Zm;obtain⟨l,f1,M,g7,h2⟩:=LM (e0.i.a8 j.i.1 (λl B=>by simpa using g8.i l B)) a2;simp only[Value.slice.injEq]at M;obtain⟨rfl,-,rfl⟩:=M;have w:=U ((Mp a2).symm.trans J.i);have i1:=b0 (x.getD i 0) (by simp[a2]);generalize x.getD i 0=C at *
   by_cases K:0<=C
   .obtain⟨m,rfl⟩:∃m:Nat,C=m:=⟨C.toNat,Zm⟩;rw[Y9 K,Int.toNat_natCast]at w;have a8:m<k.length:=by rw[F.i];omega
    have f4:=CR j.i.2 a8;have f8:=bl j.i.2;have e5:=U (Yp (j.i.1.a6 (p:=⟨b.heap.size,m,none⟩) Zq (.bool true)) (Oj (j:=m) j.i.2));have H:af ((k.set m true).length=a.h.length):=U (by rw[YF];exact F.i);go_wp2;exact⟨⟨i+1,k.set m true,Zj,Zm,H,w,e5⟩,Zz⟩
   .rw[Y2 K]at w;go_wp2;exact⟨⟨i+1,k,Zj,Zm,F,w,j⟩,Zz⟩
  .have h3:¬((↑i:Int) < ↑x.length):=Zm;have w:af (k=kB x (List.replicate a.h.length false)):=U (by rw[<-J.i,YR h0];rfl);have d6:af (sS a o=(iv a a.h.length k).getD o false):=U (by rw[d5.i,<-w.i]);generalize g5:iv a a.h.length k=SR at *
   have d8:=U g5;go_wp2;go_loopw [8] (λq z=>∃(r:Nat) (k:List Bool),q=Y r/\r<=a.h.length/\af (k.length=a.h.length)/\af (iv a (a.h.length-r) k=SR)/\af (ap [b.heap.size] b1 z/\z.heap[b.heap.size]?=some (mp k))) (λq _=>a.h.length-(intOf q).toNat)
   case atStart=>exact⟨0,k,rfl,Zm,F,d8,j⟩
   case round=>
    obtain⟨r,k,rfl,a4,F,J,j⟩:=hrel;have s:=(j.i.1.ak _ (ay O.i) Zx).trans O.i;have c0:wr.cell? (Zd c.heap.size 0)=some (.slice a0 a.h.length a1):=aC s rfl;have c1:=bl s;have f0:=ay s;rcases Yj r a.h.length with a2|j0
    .have h6:(↑r:Int) < ↑a.h.length:=Zm;have w:af (iv a (a.h.length-(r+1)) (jC a a.h.length 0 k)=SR):=U (by rw[<-J.i,show a.h.length-r=(a.h.length-(r+1))+1 by omega,iv]);go_wp2;go_loopw [9] (λq z=>∃(i:Nat) (u:List Bool),q=Y i/\i<=a.h.length/\af (u.length=a.h.length)/\af (jC a (a.h.length-i) i u=jC a a.h.length 0 k)/\af (ap [b.heap.size] b1 z/\z.heap[b.heap.size]?=some (mp u))) (λq _=>a.h.length-(intOf q).toNat)
     case atStart=>exact⟨0,k,rfl,Zm,F,U rfl,j⟩
     case round=>
      obtain⟨n,u,rfl,j3,S,b2,j⟩:=hrel;have s:=(j.i.1.ak _ (ay O.i) Zx).trans O.i;have c0:=aE s;have c1:=bl s;have f0:=ay s;rcases Yj n a.h.length with a3|j1
      .have j4:(0:Int)<=↑n:=Zm;have h4:(↑n:Int) < ↑a.h.length:=Zm;have h5:n<u.length:=by rw[S.i];exact a3
       have i5:=CR j.i.2 h5;have i6:=bl j.i.2;have i3:=ay j.i.2;have E:=U (b2.i.symm.trans (by rw[show a.h.length-n=(a.h.length-(n+1))+1 by omega,jC]));generalize k2:u.getD n false=i4 at *
       cases i4 with
       |true=>
        simp only[if_true]at E
        have a6:=qr b4.i j.i.1 (λr a4=>by simp at a4;omega);have b0:=(R.i n a3).2;have j5:(dj (a.h.getD n bz)).length<=2000:=by have:=LY (a.h.getD n bz);have:=(R.i n a3).1;omega
        have e4:=U (b6.i wr n a6 a3);go_wp21;refine e4.i.mono ?_;rintro I d3 ⟨k5,rfl,d0,d2,f9⟩;obtain⟨e9,f3,rfl⟩:=aW d2;generalize dj (a.h.getD n bz)=y at *
        have b7:=U (Yp (j.i.1.u (d0.aZ Zq)) ((d0.ak _ i3 Zq).trans j.i.2));have e1:=U d2;have g9:af (∀l,(Value.slice e9 y.length f3).ownBlock=some l->l≠b.heap.size):=U (λl B f6=>by rcases f9 l B with a7|a7<;>omega);have e2:=U (Yp (ar [b.heap.size] d3) b7.i.2);go_wp2;go_loopw [11] (λq z=>∃(t:Nat) (A:List Bool),q=Y t/\t<=y.length/\af (A.length=a.h.length)/\af (kB (y.drop t) A=kB y u)/\af (ap [b.heap.size] d3 z/\z.heap[b.heap.size]?=some (mp A))) (λq _=>y.length-(intOf q).toNat)
        case atStart=>exact⟨0,u,rfl,Zm,S,U rfl,e2⟩
        case round=>
         obtain⟨t,A,rfl,j7,H,b3,D⟩:=hrel;rcases Yj t y.length with a9|h1
         .have j8:(0:Int)<=↑t:=Zm;have h8:(↑t:Int) < ↑y.length:=Zm;obtain⟨l,f1,M,g7,h2⟩:=LM (e1.i.a8 D.i.1 (λl B=>by simpa using g9.i l B)) a9;simp only[Value.slice.injEq]at M;obtain⟨rfl,-,rfl⟩:=M;have G:=U ((Mp a9).symm.trans b3.i);have i1:=b0 (y.getD t 0) (by simp[a9]);generalize y.getD t 0=C at *
          by_cases K:0<=C
          .obtain⟨m,rfl⟩:∃m:Nat,C=m:=⟨C.toNat,Zm⟩;rw[Y9 K,Int.toNat_natCast]at G;have a8:m<A.length:=by rw[H.i];omega
           have f4:=CR D.i.2 a8;have f8:=bl D.i.2;have e6:=U (Yp (D.i.1.a6 (p:=⟨b.heap.size,m,none⟩) Zq (.bool true)) (Oj (j:=m) D.i.2));have d7:af ((A.set m true).length=a.h.length):=U (by rw[YF];exact H.i);go_wp2;exact⟨⟨t+1,A.set m true,Zj,Zm,d7,G,e6⟩,Zz⟩
          .rw[Y2 K]at G;go_wp2;exact⟨⟨t+1,A,Zj,Zm,H,G,D⟩,Zz⟩
         .have h8:¬((↑t:Int) < ↑y.length):=Zm;have G:af (A=kB y u):=U (by rw[<-b3.i,YR h1];rfl);rw[<-G.i]at E;have e7:=U (Yp (b7.i.1.u D.i.1) D.i.2);go_wp2;exact⟨⟨n+1,A,Zj,Zm,H,U E.i.symm,e7⟩,Zz⟩
       |false=>
        simp only[Ye,if_false]at E
        go_wp2;exact⟨⟨n+1,u,Zj,Zm,S,U E.i.symm,j⟩,Zz⟩
      .have h4:¬((↑n:Int) < ↑a.h.length):=Zm;have E:af (u=jC a a.h.length 0 k):=U (by rw[<-b2.i,show a.h.length-n=0 by omega,jC]);rw[<-E.i]at w;go_wp2;exact⟨⟨r+1,u,Zj,Zm,S,w,j⟩,Zz⟩
    .have h6:¬((↑r:Int) < ↑a.h.length):=Zm;have w:af (k=SR):=U (by rw[<-J.i,show a.h.length-r=0 by omega,iv]);have h9:o<k.length:=by rw[F.i];exact a5
     have j9:(0:Int)<=↑o:=Zm;have k0:(↑o:Int) < ↑a.h.length:=Zm;have f5:=CR j.i.2 h9;have i7:=bl j.i.2;have k3:=ay j.i.2;rw[w.i]at f5;have a6:=U (qr b4.i j.i.1 (λr a4=>by simp at a4;omega));go_wp2;go_ret;exact⟨by rw[d6.i];simp,a6.i⟩
end
end Go.Proofs.YtjdhaegijjednaaGreatDoor
