import Derived.Test.YtjdhaegijjednaaGreatDoorT3
import Derived.Defers
import Derived.Recover
set_option linter.all false
set_option maxRecDepth 100000
set_option maxHeartbeats 4000000
namespace Go.Proofs.YtjdhaegijjednaaGreatDoor
open Go.RowKit
open Go.MapKept
open Go.Proofs.Tryz
def JV(args:Array Value)(a:World):(callFunc 125 args).run prog a=.ok (.enter 125 args) a:=by kernel_rfl
def JU(c:Ad)(l:ByteArray)(n:St)(d:List (Nat×Obj))(j:Nat):hh (fC c l n d j) where
 gD:=JV
 bh:=by intro k m _ o h;cases h
 dl:=by
  rintro k m p ⟨f,b,g⟩ a;exact⟨f.aA a,(a.block _ (aj b)).trans b,g.O (bt [] a) (by simp)⟩
 call:=λi _ e=>JT i e
abbrev iU(b:List ao)(c:List Nat):List Value:=(b.zip c).map λa=>Value.iface (cE a.1) (.pointer (some ⟨a.2,0,none⟩))
structure jj(bs:List (Nat×Obj))(sl:Value)(ds:List ao)(ps:List Nat):Prop where
 bc:ps.length=ds.length
 row:fy bs 157 sl ds.length (iU ds ps)
 dX:∀i (h:i<ds.length) (h':i<ps.length),dx bs ps[i] ds[i]
def kJ(b:St)(a:List ao):Except Mar.a5 Unit:=aZ (fC ⟨0,0,0,0,[]⟩ ⟨#[]⟩ b [] 0) (a.flatMap gn) ()
def JY(e:Ad)(h:ByteArray)(a:St)(f:List (Nat×Obj))(g:Nat):∀(d:List (List UInt8×Nat)) (b:Unit),aZ (fC e h a f g) d b=aZ (fC ⟨0,0,0,0,[]⟩ ⟨#[]⟩ a [] 0) d b:=by
 intro d;induction d with
 |nil=>intro b;rfl
 |cons c d k=>
  intro b;simp only[aZ];have i:(fC e h a f g).ba c b=jy a c:=rfl;have j:(fC ⟨0,0,0,0,[]⟩ ⟨#[]⟩ a [] 0).ba c b=jy a c:=rfl;rw[i,j];cases jy a c with
  |ok l=>exact k l
  |error m=>rfl
def Ka{c:Ad}{g:ByteArray}{d:St}{e:List (Nat×Obj)}{B:Value}{b:List ao}{o:List Nat}{a:World}(N:Rd c g d a)(a4:bn c.X e a)(a0:jj e B b o) :
  Calls prog 74 #[.pointer (some ⟨c.R,0,none⟩),B] a λl k=>(kJ d b=.ok ()/\l=.returned (.tuple #[])/\ai [] a k)\/(∃i,kJ d b=.error i/\ai [] a k/\fg a i.no i.w l k):=by
 have c8:=jw;have A:=(Below.refl a.heap.size a).alloc (Y4 _) (.cells #[.pointer (some ⟨c.R,0,none⟩)] 145);have P:=JU c g d e a.heap.size;have z:∀(j:World),(fC c g d e a.heap.size).J () j->∀q∈e,j.heap[q.1]? = some q.2:=λj n q b2=>(n.2.2 q b2).1;have J:U ((fC c g d e a.heap.size).J () (a.alloc (.cells #[.pointer (some ⟨c.R,0,none⟩)] 145))):=⟨N.aA A,aK rfl,a4.O (bt [] A) (by simp)⟩;have b0:kJ d b=aZ (fC c g d e a.heap.size) (b.flatMap gn) ():=(JY _ _ _ _ _ _ _).symm;rw[b0];have I:=Z P;have y:=Z z;obtain⟨b3,b4,a1⟩:=a0;have x:=Z a1;have G:=Z b3;rcases b4 with⟨rfl,O,_⟩|⟨M,b9,c0,rfl,⟨c2,c9⟩,a3,b6⟩
 .have b1:b=[]:=Yv.1 O;subst b1;go_in;go_wp2;go_loopw [8] (λh r=>h=.int .i64 0/\r=a.alloc (.cells #[.pointer (some ⟨c.R,0,none⟩)] 145)) (λ_ _=>0)
  case atStart=>exact⟨rfl,rfl⟩
  case round=>
   obtain⟨rfl,rfl⟩:=hrel;go_wp2;go_end0;exact Y8 ⟨rfl,rfl,(ah _ a).G _⟩
 .have b5:∀(j:World),(fC c g d e a.heap.size).J () j->∀h (a5:h<b.length) (a6:h<o.length),j.cell? ⟨M,h,none⟩=some (.iface (cE b[h]) (.pointer (some ⟨o[h],0,none⟩))):=by
   intro j n h a5 a6;refine cw (z _ n _ a3) b6 ?_;have m:h<(iU b o).length:=by simp;omega
   rw[Yd m];simp
  have H:=Z b5;go_in;go_wp2;go_loopw [8] (λh r=>∃(f:Nat),h=.int .i64 f/\f<=b.length/\U ((fC c g d e a.heap.size).J () r)/\ai [] a r/\U (aZ (fC c g d e a.heap.size) (b.flatMap gn) ()=aZ (fC c g d e a.heap.size) ((b.drop f).flatMap gn) ())) (λh _=>b.length-(intOf h).toNat)
  case atStart=>exact⟨0,rfl,by omega,J,(ah _ a).G _,rfl⟩
  case round=>
   obtain⟨f,rfl,c7,s,m,v⟩:=hrel;rcases Yj f b.length with p|c4
   .have t:f<o.length:=by have:=G.j;omega
    have d1:=H.j _ s.j f p t;have d0:=He (x.j f p t) (y.j _ s.j);have c3:=Hc b[f];have c5:(0:Int)<=↑f:=by omega
    have c6:(↑f:Int) < ↑b.length:=by omega
    have w:U (aZ (fC c g d e a.heap.size) (b.flatMap gn) ()=aZ (fC c g d e a.heap.size) (gn b[f]++(b.drop (f+1)).flatMap gn) ()):=by
     refine v.j.trans ?_;rw[Yk p,YD]
    have F:=Z (Hd I.j (λ_ _=>trivial) (x.j f p t) (λn=>y.j _ n) s.j);go_wp2_with fail;refine F.j.mono ?_;rintro l C (⟨d2,u,rfl,a7,b7⟩|⟨i,u,a8,L,c1,rfl,S⟩);rotate_left
    .exact(show bodyPost prog Tryz.f74 (λl k=>(aZ (fC c g d e a.heap.size) (b.flatMap gn) ()=.ok ()/\l=.returned (.tuple #[])/\ai [] a k)\/(∃i,aZ (fC c g d e a.heap.size) (b.flatMap gn) ()=.error i/\ai [] a k/\fg a i.no i.w l k)) (Exit.panic _) _ C from aq (Ya ⟨i,w.j.trans (qt u),m.u a8,L,by have:=m.a2;omega,rfl,S⟩))
    have K:=Z a7;have D:U (aZ (fC c g d e a.heap.size) (b.flatMap gn) ()=aZ (fC c g d e a.heap.size) ((b.drop (f+1)).flatMap gn) ()):=w.j.trans (qu u);have b8:ai [] a C:=m.u b7;go_wp2;exact⟨⟨f+1,by go_num,by omega,K,b8,D⟩,by simp[intOf];omega⟩
   .have a9:f=b.length:=by omega
    subst a9;have a2:aZ (fC c g d e a.heap.size) (b.flatMap gn) ()=.ok ():=by
     refine v.j.trans ?_;rw[List.drop_length];rfl
    have E:=Z a2;go_wp2;go_end0;exact Y8 ⟨E.j,rfl,m⟩
section
variable {j:Ad}{m:Nat}{X:List Nat}{h:List (Nat×Obj)}{g:List (List UInt8×Option ao)}{c:List UInt8}{o:Option ao}{b:List (List UInt8)}{i n l:World}{e:List Value}{σ:St}
def lR(X:List Nat)(m:Nat)(g:List (List UInt8×Option ao))(h:List (Nat×Obj))(e:List Value)(l:World):Prop:=
 (g.map (·.1)).Nodup/\bn X h l/\e.length=g.length/\l.heap[m]? = some (pZ (g.zip e |>.map λb=>(b.1.1,b.2)))/\∀a (c:a<g.length) (d:a<e.length),jk h e[a] g[a].2
def lR.O{d:World}{a:List Nat}(f:lR X m g h e l)(c:ai a l d)(n:∀p∈a,p∈X)(o:m ∉ a):lR X m g h e d:=by
 obtain⟨q,i,j,b,k⟩:=f;exact⟨q,i.O c n,j,(c.K _ (aj b) o).trans b,k⟩
def LJ(s:lR X m g h e l)(k:List UInt8)(r:az g k=some o) :
  ∃v,jk h v o/\(Instr.lookup 148 (.map (some m)) (.string ⟨k.toArray⟩) false).run prog l=.ok v l:=by
 obtain⟨C,D,E,t,u⟩:=s;have y:IsKey .string (.string ⟨k.toArray⟩):=trivial;have w:=rK (g.zip e |>.map λa=>(a.1.1,a.2));have B:(zeroValue 157).run prog l=.ok .nilIface l:=by kernel_rfl
 rcases tp (P:=prog) (T:=148) (kt:=9) (et:=157) (d:=.string) (by kernel_rfl) (by kernel_rfl) y t (by simpa using w) B false with⟨b,j⟩|⟨f,n,b,j,q⟩
 .exfalso;obtain⟨a,A,n,_⟩:=xX r;obtain⟨c,F,rfl⟩:=List.getElem_of_mem A;have G:c<e.length:=by omega
  have z:(⟨.string ⟨g[c].1.toArray⟩,e[c],c⟩:MapEntry)∈((g.zip e |>.map λa=>(a.1.1,a.2)).mapIdx λc a=>(⟨.string ⟨a.1.toArray⟩,a.2,c⟩:MapEntry)).toArray.toList:=by
   simp only[List.toList_toArray];rw[List.mem_mapIdx];exact⟨c,by simp;omega,by simp⟩
  exact b _ z (by rw[n])
 .simp only[List.toList_toArray,List.getElem?_mapIdx]at b;have i:f<g.length:=by
   by_cases i:f<g.length
   .exact i
   .rw[YA (by simp;omega)]at b;cases b
  have x:f<e.length:=by omega
  rw[Yd (by simp;omega)]at b;simp at b;subst b;simp at j q;have p:=xS C (Yy i) j;rw[r]at p;cases p
  exact⟨e[f],u f i x,by simpa using q⟩
def hu(σ:St)(b:List (List UInt8)):Nat:=σ.F.countP λa=>!b.contains a.1
def GO(k:c ∉ b):∀(g:List (List UInt8×Option ao)),g.countP (λa=>!(b++[c]).contains a.1)<=g.countP (λa=>!b.contains a.1)/\((∃a∈g,a.1=c)->g.countP (λa=>!(b++[c]).contains a.1)<g.countP (λa=>!b.contains a.1)):=by
 intro g;induction g with
 |nil=>exact⟨by simp,by rintro⟨a,e,_⟩;cases e⟩
 |cons d g m=>
  obtain⟨n,l⟩:=m;by_cases f:d.1=c
  .have h:(!(b++[c]).contains d.1)=false:=by simp[f]
   have j:(!b.contains d.1)=true:=by rw[f];simpa using k
   rw[List.countP_cons_of_neg (by show ¬((!(b++[c]).contains d.1)=true);rw[h];simp),List.countP_cons_of_pos (by exact j)];exact⟨by omega,λ_=>by omega⟩
  .have h:(!(b++[c]).contains d.1)=(!b.contains d.1):=by simp[f]
   rw[List.countP_cons,List.countP_cons,h];refine⟨by omega,?_⟩;rintro⟨a,e,i⟩;rcases Yg.1 e with rfl|e
   .exact absurd i f
   .have:=l ⟨a,e,i⟩;omega
def RQ(d:c ∉ b)(e:az σ.F c=some o):hu σ (b++[c])<hu σ b:=by
 obtain⟨g,f,a,_⟩:=xX e;exact(GO d σ.F).2 ⟨g,f,a⟩
def ln(σ:St)(c:List UInt8):List (List UInt8×Nat):=match az σ.F c with
 |some (some a)=>eK a
 |_=>[]
def follow(σ:St):Nat->List UInt8->List (List UInt8)->List (List UInt8)
 |0,_,b=>b
 |k+1,c,b=>if b.contains c then b else (ln σ c).foldl (λb a=>follow σ k a.1 b) (b++[c])
def Ip{k:Nat}(a:c∈b):follow σ k c b=b:=by
 cases k with
 |zero=>rfl
 |succ k=>simp only[follow];rw[Y9 (by simpa using a)]
def Iq{k:Nat}{a:ao}(d:c ∉ b)(e:az σ.F c=some (some a)):follow σ (k+1) c b=(eK a).foldl (λb f=>follow σ k f.1 b) (b++[c]):=by
 simp only[follow,ln,e];rw[Y2 (by simpa using d)]
structure ko where
 qb:Nat
 rb:Nat
 fb:Nat
 q:Nat
def ko.V(a:ko):Value:=.func (.func 205) #[] #[.pointer (some ⟨a.qb,0,none⟩),.pointer (some ⟨a.rb,0,none⟩),.pointer (some ⟨a.fb,0,none⟩)]
structure kq(j:Ad)(text:ByteArray)(σ:St)(h:List (Nat×Obj))(e:List Value)(a:ko)(k:Nat)(b:List (List UInt8))(i:World):Prop where
 rd:Rd j text σ i
 nw:lR j.X j.N σ.F h e i
 vq:i.heap[a.qb]? = some (.cells #[.map (some a.q)] 103)
 vr:i.heap[a.rb]? = some (.cells #[.pointer (some ⟨j.R,0,none⟩)] 145)
 vf:i.heap[a.fb]? = some (.cells #[a.V] 237)
 bQ:dq a.q b i
 b1:cU j a.q
 b0:hu σ b<=k
def kq.cq{n:ByteArray}{a:ko}{m:Nat}(d:kq j n σ h e a m b i):a.qb≠a.q/\a.rb≠a.q/\a.fb≠a.q:=by
 obtain⟨_,o,_,f⟩:=d.bQ;have g:=d.vq;have k:=d.vr;have l:=d.vf;unfold pZ at f;refine⟨?_,?_,?_⟩
 .intro c;rw[c,f]at g;cases g
 .intro c;rw[c,f]at k;cases k
 .intro c;rw[c,f]at l;cases l
def kq.b6{g:ByteArray}{d:ko}{p k':Nat}{f:List (List UInt8)}(a:kq j g σ h e d p b i)(c:ai [d.q] i n)(o:dq d.q f n)(l:hu σ f<=k'):kq j g σ h e d k' f n:=by
 obtain⟨r,s,t⟩:=a.cq;obtain⟨_,u,_,m⟩:=id a.bQ;refine⟨a.rd.k7 c a.b1 m,a.nw.O c (by simp;exact a.b1.1) (by simp;exact λk=>a.b1.2.2.2.1 k.symm),(c.K _ (aj a.vq) (by simpa using r)).trans a.vq,(c.K _ (aj a.vr) (by simpa using s)).trans a.vr,(c.K _ (aj a.vf) (by simpa using t)).trans a.vf,o,a.b1,l⟩
def kq.aA{g:ByteArray}{a:ko}{f:Nat}(c:kq j g σ h e a f b i)(d:Below i.heap.size i n):kq j g σ h e a f b n:=
 c.b6 (bt [a.q] d) (c.bQ.O (bt [] d) (by simp)) c.b0
def pM(j:Ad)(i:ByteArray)(σ:St)(h:List (Nat×Obj))(e:List Value)(a:ko)(d:Nat):eV (List (List UInt8)) where
 f:=205
 f2:=#[]
 f1:=#[.pointer (some ⟨a.qb,0,none⟩),.pointer (some ⟨a.rb,0,none⟩),.pointer (some ⟨a.fb,0,none⟩)]
 ba:=λc b=>.ok (follow σ d c.1 b)
 J:=kq j i σ h e a d
 M:=[a.q]
 ok:=λc=>∃g,az σ.F c.1=some (some g)
def uP(j:Ad)(k:ByteArray)(σ:St)(h:List (Nat×Obj))(e:List Value)(f:ko)(d:Nat):∀(a:List (List UInt8×Nat)) (b:List (List UInt8)),aZ (pM j k σ h e f d) a b=.ok (a.foldl (λb i=>follow σ d i.1 b) b):=by
 intro a;induction a with
 |nil=>intro b;rfl
 |cons c a g=>intro b;simp only[aZ,pM,YY];exact g _
def Is(args:Array Value)(i:World):(callFunc 205 args).run prog i=.ok (.enter 205 args) i:=by kernel_rfl
end
def Ir{e:Ad}{F:ByteArray}{σ:St}{t:List (Nat×Obj)}{G:List Value}{b:ko}{k:Nat}(M:∀a g,az σ.F a=some (some g)->∀b5∈eK g,∃a2,az σ.F b5.1=some (some a2))
  (b4:∀k',k'<k->hh (pM e F σ t G b k')) {n:List (List UInt8)} {c:World} (a:List UInt8×Nat) (b0:∃g,az σ.F a.1=some (some g)) (u:kq e F σ t G b k n c) :
  Calls prog 205 #[fT a,.pointer (some ⟨b.qb,0,none⟩),.pointer (some ⟨b.rb,0,none⟩),.pointer (some ⟨b.fb,0,none⟩)] c (fv (pM e F σ t G b k) c (.ok (follow σ k a.1 n))):=by
 obtain⟨g,j⟩:=b0;have a5:=(Below.refl c.heap.size c).alloc (Y4 _) (.cells #[.string ⟨a.1.toArray⟩,.int .i64 a.2] 160);have h:=u.aA a5;have A:=aK (w:=c) (o:=.cells #[.string ⟨a.1.toArray⟩,.int .i64 a.2] 160) rfl;have d4:=u.bQ.lt;obtain⟨d7,d8,_⟩:=kD A;have c0:=bM h.vq;rcases yN h.bQ a.1 with⟨y,b1⟩|⟨v,a7,b1⟩
 .obtain⟨m,d3,b2⟩:=h.bQ.cv y (.int .i64 a.2);have c8:=RQ y j;have d0:=u.b0;obtain⟨k',rfl⟩:∃k',k=k'+1:=⟨k-1,by omega⟩;have D:=gY (c.alloc (.cells #[.string ⟨a.1.toArray⟩,.int .i64 a.2] 160)) b.q m;have d:=h.b6 (k':=k') D b2 (by omega);have B:=(D.K _ (aj A) (by simp;omega)).trans A;obtain⟨d5,d6,_⟩:=kD B;have b9:=bM d.vr;have c7:=bM d.vf;have b7:=d.rd.am.2.1;have x:=d.aA (Below.refl _ _).drew;obtain⟨v,a6,d1⟩:=LJ x.nw a.1 j;obtain⟨b8,rfl,I⟩:=a6;have d2:=Ax I (λE z=>(x.nw.2.1 E z).1);have c9:=Av g;have S:=Z (Aw (b4 k' (by omega)) (M a.1 g j) I (λ{n e0} b3 E z=>(b3.nw.2.1 E z).1) x);have r:=Z (Iq (k:=k') y j);have P:U (ai [b.q] c ((dn (c.alloc (.cells #[.string ⟨a.1.toArray⟩,.int .i64 a.2] 160)) b.q m).drew)):=(((ah _ c).G _).u D).a9;have H:=d.cq;have a3:∀f,ai [b.q] ((dn (c.alloc (.cells #[.string ⟨a.1.toArray⟩,.int .i64 a.2] 160)) b.q m).drew) f->f.cell? ⟨b.rb,0,none⟩=some (.pointer (some ⟨e.R,0,none⟩))/\f.cell? ⟨e.R,1,none⟩=some (.map (some e.N))/\f.cell? ⟨c.heap.size,0,none⟩=some (.string ⟨a.1.toArray⟩)/\f.cell? ⟨b.fb,0,none⟩=some b.V:=by
   intro f a8;have l:=((ah _ (dn (c.alloc (.cells #[.string ⟨a.1.toArray⟩,.int .i64 a.2] 160)) b.q m)).a9).u a8;obtain⟨_,e1,_,a9⟩:=id d.bQ;have a4:=(d.rd.k7 l d.b1 a9).am.2.1;obtain⟨b6,_,_⟩:=kD ((l.K _ (aj B) (by simp;omega)).trans B);exact⟨bM ((l.K _ (aj d.vr) (by simpa using H.2.1)).trans d.vr),a4,b6,bM ((l.K _ (aj d.vf) (by simpa using H.2.2)).trans d.vf)⟩
  have L:=Z a3;dsimp only[fT];go_in;go_wp2_with fail;go_region_held2 (λp=>p.cell? ⟨b.rb,0,none⟩=some (.pointer (some ⟨e.R,0,none⟩))/\p.cell? ⟨e.R,1,none⟩=some (.map (some e.N))/\p.cell? ⟨c.heap.size,0,none⟩=some (.string ⟨a.1.toArray⟩)/\p.cell? ⟨b.fb,0,none⟩=some b.V) (go_keep)
   (first|(refine S.j.mono ?_;rintro c1 f (⟨d9,i,rfl,J,C⟩|⟨c6,i,_⟩);rotate_left;(rw[uP]at i;cases i);have s:=Z J;have a1:=Z C;have a0:=Z i;obtain⟨c2,c3,c4,c5⟩:=L.j f C;clear J C i))
  all_goals
   go_wp2
   go_end0
   have K:=a0.j
   rw[uP]at K
   cases K
   exact Y8 ⟨_,by rw[r.j],rfl,s.j.b6 (ah _ _) s.j.bQ (by have:=s.j.b0;omega),P.j.u a1.j⟩
 .have r:=Z (Ip (σ:=σ) (k:=k) a7);have O:=Z h;dsimp only[fT];go_in;go_wp2;go_end0;exact Y8 ⟨n,by rw[r.j],rfl,O.j,(ah _ c).G _⟩
section
variable {A:Ad}{b:Nat}{bs:List (Nat×Obj)}{d:ao}{vs:List Value}{c:World}{e:St}
def It{text:ByteArray}{a:ko}(k:∀g d,az e.F g=some (some d)->∀i∈eK d,∃l,az e.F i.1=some (some l)):∀f,hh (pM A text e bs vs a f):=by
 intro f;induction f using Nat.strongRecOn with
 |ind f o=>
  refine⟨Is,?_,?_,?_⟩
  .intro j c b i h;simp only[pM,Yc]at h;subst h;exact b.bQ.lt
  .intro j c q b m;exact kq.aA b m
  .intro j p g n b;exact Ir k o g n b
def tY(e f:TypeId)(b p:Nat)(c:World)
  (k : ((Tryz.prog.info? f).bind fun i => i.methods.find? (fun a => a.name == "Title")).map (fun a => (a.path, a.func)) = some (#[⟨e, 0, true⟩], some (327, false)))
  (l:((prog.underlying e).bind λd=>match d with|.struct h=>h[0]?|_=>none).map (λg=>(g.type,g.offset))=some (160,0)) :
  (method (p + 1) f (.pointer (some ⟨b, 0, none⟩)) "Title").run Tryz.prog c = ((loadVar 160 ⟨b, 0, none⟩).run Tryz.prog c).andThen (fun A z => .ok (327, A) z) := by
 obtain⟨i,a,q,r,s,u⟩:=rQ k;obtain⟨h,B,v,w,x,y⟩:=sY l;obtain⟨D,C,j,_⟩:=sY (P:=prog) (st:=160) (idx:=0) (t:=9) (o:=0) (by kernel_rfl);obtain⟨E,m,F⟩:=qq (P:=prog) (t:=160) (n:=2) (by kernel_rfl);exact Ky q r s u v w x y j m (by omega)
def Rl (d : ao) (b e : Nat) (c : World) : (method (e + 1) (cE d) (.pointer (some ⟨b, 0, none⟩)) "Title").run Tryz.prog c = ((loadVar 160 ⟨b, 0, none⟩).run Tryz.prog c).andThen (fun C B => .ok (327, C) B) := by
 cases d with
 |const a g v=>exact tY 343 223 b e c (by kernel_rfl) (by kernel_rfl)
 |typedef d=>
  obtain ⟨K, R, m, n, q, r⟩ := rQ (P := Tryz.prog) (t := 225) (name := "Title") (p := #[⟨244, 0, true⟩, ⟨242, 0, false⟩]) (f := some (327, false)) (by kernel_rfl)
  obtain⟨G,E,s,u,x,z⟩:=sY (P:=prog) (st:=244) (idx:=0) (t:=242) (o:=0) (by kernel_rfl);obtain⟨H,F,t,w,y,A⟩:=sY (P:=prog) (st:=242) (idx:=0) (t:=160) (o:=0) (by kernel_rfl);obtain⟨J,I,i,_⟩:=sY (P:=prog) (st:=160) (idx:=0) (t:=9) (o:=0) (by kernel_rfl);obtain⟨L,j,M⟩:=qq (P:=prog) (t:=160) (n:=2) (by kernel_rfl);obtain⟨O,k,N⟩:=qq (P:=prog) (t:=242) (n:=3) (by kernel_rfl);exact Kz m n q r s u x z k (by omega) t w y A i j (by omega)
 |enum a g l=>exact tY 253 227 b e c (by kernel_rfl) (by kernel_rfl)
 |struct a g l=>exact tY 353 229 b e c (by kernel_rfl) (by kernel_rfl)
 |union a g S D=>exact tY 358 231 b e c (by kernel_rfl) (by kernel_rfl)
 |prog a g vs h=>exact tY 267 233 b e c (by kernel_rfl) (by kernel_rfl)
def oM{a:List Nat}(e:dx bs b d)(f:bn a bs c)(h:Nat) :
  (method (h + 1) (cE d) (.pointer (some ⟨b, 0, none⟩)) "Title").run Tryz.prog c = .ok (327, .agg #[.string ⟨(bB d).1.toArray⟩, .int .i64 (bB d).2]) c := by
 obtain⟨i,j⟩:=Hh e f;have g:(loadVar 160 ⟨b,0,none⟩).run prog c=.ok (.agg #[.string ⟨(bB d).1.toArray⟩,.int .i64 (bB d).2]) c:=by go_simp
 rw[Rl,g];rfl
def kO(e:St)(d:ao):Bool:=((eK d).foldl (λb a=>follow e (hu e []) a.1 b) []).contains (bB d).1
def OT{f:Nat}{e:List (List UInt8)}(g:dq f e c)(d:List UInt8):∃v,(Instr.lookup 103 (.map (some f)) (.string ⟨d.toArray⟩) true).run prog c=.ok (.tuple #[v,.bool (e.contains d)]) c:=by
 rcases yN g d with⟨a,b⟩|⟨v,a,b⟩
 .exact⟨.int .i64 0,by rw[b];simp[a]⟩
 .exact⟨v,by rw[b];simp[a]⟩
def NK{text:ByteArray}(y:Rd A text e c)(a6:lR A.X A.N e.F bs vs c)(p:dx bs b d)
  (H:∀a9 d,az e.F a9=some (some d)->∀h∈eK d,∃n,az e.F h.1=some (some n)) (a0:∀h∈eK d,∃n,az e.F h.1=some (some n)) :
  Calls prog 127 #[.pointer (some ⟨A.R,0,none⟩),.iface (cE d) (.pointer (some ⟨b,0,none⟩))] c λo v=>o=.returned (.bool (kO e d))/\ai [] c v:=by
 have b8:=jw;have b9:=jx;obtain⟨c3,c4,c5,c6⟩:=y.lt;obtain⟨a,g⟩:∃a:ko,a=⟨c.heap.size+2,c.heap.size,c.heap.size+3,c.heap.size+1⟩:=⟨_,rfl⟩;obtain⟨i,f⟩:∃i,i=(((c.alloc (.cells #[.pointer (some ⟨A.R,0,none⟩)] 145)).alloc (.map #[] 0)).alloc (.cells #[.map (some (c.heap.size+1))] 103)).alloc (.cells #[a.V] 237):=⟨_,rfl⟩;have t:(c.alloc (.cells #[.pointer (some ⟨A.R,0,none⟩)] 145)).heap.size=c.heap.size+1:=by simp
 have u:((c.alloc (.cells #[.pointer (some ⟨A.R,0,none⟩)] 145)).alloc (.map #[] 0)).heap.size=c.heap.size+2:=by simp
 have E:(((c.alloc (.cells #[.pointer (some ⟨A.R,0,none⟩)] 145)).alloc (.map #[] 0)).alloc (.cells #[.map (some (c.heap.size+1))] 103)).heap.size=c.heap.size+3:=by simp
 have a3:=y.aA ((Below.refl c.heap.size c).alloc (Y4 _) (.cells #[.pointer (some ⟨A.R,0,none⟩)] 145));have C:=a3.ax (.map #[] 0);rw[t]at C;have c2:=((ah [] ((c.alloc (.cells #[.pointer (some ⟨A.R,0,none⟩)] 145)).alloc (.map #[] 0))).G (.cells #[.map (some (c.heap.size+1))] 103)).G (.cells #[a.V] 237);have z:Below (c.heap.size+2) ((c.alloc (.cells #[.pointer (some ⟨A.R,0,none⟩)] 145)).alloc (.map #[] 0)) i:=by
  rw[f];exact((Below.refl _ _).alloc (by omega) _).alloc (by omega) _
 rw[<-u]at z;have a4:=C.aA z;have r:ai [] c i:=by rw[f];exact((((ah [] c).G _).G _).G _).G _
 have m:kq (A.a8 (c.heap.size+1)) text e bs vs a (hu e []) [] i:=by
  refine⟨a4,?_,?_,?_,?_,?_,?_,Y4 _⟩
  .obtain⟨b0,M,O,x,P⟩:=a6;exact⟨b0,(M.a8 (by omega)).O r (by simp),O,(r.K _ (aj x) (by simp)).trans x,P⟩
  .rw[g,f];dsimp only;exact(((ah [] _).G _).K _ (by rw[E];omega) (by simp)).trans (aK u.symm)
  .rw[g,f];dsimp only;exact((((((ah [] _).G _).G _).G _)).K _ (by rw[t];omega) (by simp)).trans (aK rfl)
  .rw[f,g];dsimp only;exact aK E.symm
  .refine⟨by simp,[],rfl,?_⟩;rw[g,f];dsimp only;exact((((ah [] _).G _).G _).K _ (by rw[u];omega) (by simp)).trans (aK t.symm)
  .rw[g];dsimp only;refine⟨by simp[Ad.a8],?_,?_,?_,?_⟩<;>simp only[Ad.a8]<;>omega
 have L:=bM m.vf;have S:=It (A:=A.a8 (c.heap.size+1)) (text:=text) (bs:=bs) (vs:=vs) (a:=a) H (hu e []);have a2:=Ax p (λs q=>(m.nw.2.1 s q).1);have b6:=Av d;have J:=Z (Aw S a0 p (λ{F c8} a5 s q=>(a5.nw.2.1 s q).1) m);have I:=Z r;subst f;subst g;dsimp only[ko.V]at L a2;go_in;go_wp2_with fail;refine J.j.mono ?_;rintro o b3 (⟨c7,j,rfl,l,a7⟩|⟨b5,j,_⟩);rotate_left
 .rw[uP]at j;cases j
 rw[uP]at j;cases j
 have b1:=bM l.vq;dsimp only at b1;have a8:=aj l.vq;dsimp only at a8;have D:=l.aA (Below.refl _ _).drew;have c1:=oM p D.nw.2.1;have c0:=nY;have b7:=ru 160 λ_ _ _=>by kernel_rfl
 have b4:=Z l;have w:=Z D;have K:=Z a7;go_wp2_with fail;go_region_held2 (λv=>v.cell? ⟨c.heap.size+2,0,none⟩=some (.map (some (c.heap.size+1)))) (go_keep)
  (first|(go_at_call 327;refine(nX _ _ _).mono ?_;rintro o d0 ⟨rfl,k⟩;obtain⟨c9,a1⟩:=OT (w.j.aA k).bQ (bB d).1;have b2:=bM (w.j.aA k).vq;dsimp only at b2 a1;have G:=Z k;clear k))
 all_goals
  go_wp2
  go_ret
  refine⟨lE (a:=decide ((bB d).1∈(eK d).foldl (λ(F:List (List UInt8)) (h:List UInt8×Nat)=>follow e (hu e []) h.1 F) [])) (b:=kO e d) (by simp[kO]),?_⟩
  exact(I.j.ce K.j (by intro h B;simp only[pM,Yc]at B;subst B;exact Ya (by omega))).u (((ah [] b3).a9).u (bt [] G.j))
end
def fR(a:St):List ao->Except Mar.a5 Unit
 |[]=>.ok ()
 |d::b=>if kO a d then .error ⟨9,(bB d).2⟩else fR a b
def Rd.m9{a:Ad}{b:ByteArray}{e:St}{c d:World}(f:Rd a b e c)(g:ai [] c d):Rd a b e d:=f.O g (by simp) (by simp) (by simp) (by simp) (by simp) (by simp) (by simp) (by simp)
def Ig{f:Ad}{H:ByteArray}{b:St}{m:List (Nat×Obj)}{x:List Value}{G:Value}{a:List ao}{k:List Nat}{e:World}(a3:Rd f H b e)(b9:lR f.X f.N b.F m x e)(a5:jj m G a k)
  (K:∀c0 n,az b.F c0=some (some n)->∀v∈eK n,∃r,az b.F v.1=some (some r)) (b2:∀n∈a,∀v∈eK n,∃r,az b.F v.1=some (some r)) :
  Calls prog 75 #[.pointer (some ⟨f.R,0,none⟩),G] e λg h=>(fR b a=.ok ()/\g=.returned (.tuple #[])/\ai [] e h)\/(∃i,fR b a=.error i/\ai [] e h/\fg e i.no i.w g h):=by
 obtain⟨b4,b5,a6⟩:=a5;have A:=Z a6;have P:=Z b4;have L:=Z K;have M:=Z b2;have c6:∀(a1 E:Value) (D:World),(Instr.field 160 (.agg #[a1,E]) 1).run prog D=.ok E D:=λ_ _ _=>by kernel_rfl
 have d2:=nY;rcases b5 with⟨rfl,a4,_⟩|⟨a2,c3,c4,rfl,⟨c5,d1⟩,a8,b7⟩
 .have b3:a=[]:=Yv.1 a4;subst b3;go_in;go_wp2;go_loopw [8] (λd l=>d=.int .i64 0/\l=e) (λ_ _=>0)
  case atStart=>exact⟨rfl,rfl⟩
  case round=>
   obtain⟨rfl,rfl⟩:=hrel;go_wp2;go_end0;exact Y8 ⟨rfl,rfl,ah _ _⟩
 .have b6:∀(w:World),lR f.X f.N b.F m x w->∀d (a9:d<a.length) (b0:d<k.length),w.cell? ⟨a2,d,none⟩=some (.iface (cE a[d]) (.pointer (some ⟨k[d],0,none⟩))):=by
   intro w b8 d a9 b0;refine cw (b8.2.1 _ a8).1 b7 ?_;have o:d<(iU a k).length:=by simp;omega
   rw[Yd o];simp
  have R:=Z b6;have S:=Z a3;have O:=Z b9;go_in;go_wp2;go_loopw [8] (λd l=>∃(c:Nat),d=.int .i64 c/\c<=a.length/\U (Rd f H b l)/\U (lR f.X f.N b.F m x l)/\ai [] e l/\U (fR b a=fR b (a.drop c))) (λd _=>a.length-(intOf d).toNat)
  case atStart=>exact⟨0,rfl,by omega,S,O,ah _ e,rfl⟩
  case round=>
   obtain⟨c,rfl,d0,C,q,o,y⟩:=hrel;rcases Yj c a.length with j|c7
   .have t:c<k.length:=by have:=P.j;omega
    have d4:=R.j _ q.j c j t;have c8:(0:Int)<=↑c:=by omega
    have c9:(↑c:Int) < ↑a.length:=by omega
    have z:U (fR b a=if kO b a[c]then .error ⟨9,(bB a[c]).2⟩else fR b (a.drop (c+1))):=by
     refine y.j.trans ?_;rw[Yk j];rfl
    have N:=Z (NK C.j q.j (A.j c j t) L.j (M.j _ (Yy j)));go_wp2_with fail;refine N.j.mono ?_;rintro g c1 ⟨rfl,u⟩;have B:=Z (q.j.O u (by simp) (by simp));have a0:=Z (C.j.m9 u);have p:ai [] e c1:=o.u u;cases F:kO b a[c]with
    |true=>
     have d3:=oM (A.j c j t) B.j.2.1;go_wp2_with (first
      |(go_at_call 327;refine(nX _ _ _).mono ?_;rintro g c2 ⟨rfl,s⟩)
      |(go_at_call 70;refine(gO _ _ _).mono ?_;rintro g h ⟨rfl,rfl⟩))
     exact(show bodyPost prog Tryz.f75 (λg h=>(fR b a=.ok ()/\g=.returned (.tuple #[])/\ai [] e h)\/(∃i,fR b a=.error i/\ai [] e h/\fg e i.no i.w g h)) (Exit.panic _) _ _ from aq (Ya ⟨⟨9,(bB a[c]).2⟩,z.j.trans (by rw[F];rfl),(by first|exact(p.u (bt [] s)).G _|exact(p.drew.trans (ai.bw [] s)).G _),c2.heap.size,by have:=p.a2;have:=s.size;omega,rfl,aK rfl⟩))
    |false=>
     have I:U (fR b a=fR b (a.drop (c+1))):=z.j.trans (by rw[F];rfl);go_wp2;exact⟨⟨c+1,by go_num,by omega,a0,B,p,I⟩,by simp[intOf];omega⟩
   .have b1:c=a.length:=by omega
    subst b1;have a7:fR b a=.ok ():=by
     refine y.j.trans ?_;rw[List.drop_length];rfl
    have J:=Z a7;go_wp2;go_end0;exact Y8 ⟨J.j,rfl,o⟩
section
variable {d:Ad}{f:Bool}{a:List UInt8×Nat}{e:Unit}{g τ:Type}{b c:St}
def mM(d:List UInt8)(e:PX τ aG):Prop:=∀f b a g c,e f b=.ok (a,g,c)->a.t=d/\Kn b.F c.F
def po(d:PX τ aG):Prop:=∀e b a f c,d e b=.ok (a,f,c)->(az c.F a.t).isSome
def Le.kn(a:Le b c):Kn b.F c.F:=a.2.2.2.2.2
def tE(a:aG):mM a.t (cH (τ:=τ) a):=by
 intro f b e g c d;simp only[cH]at d;cases d
 exact⟨rfl,pm _⟩
def tD{i:List UInt8}{f:PX τ g}{h:g->PX τ aG}(m:bL f)(l:∀d,mM i (h d)):mM i (aw f h):=by
 intro o b p r c a;cases e:f o b with
 |error q=>rw[bm e]at a;cases a
 |ok n=>
  obtain⟨d,s,t⟩:=n;rw[aF e]at a;obtain⟨j,k⟩:=l d _ _ _ _ _ a;exact⟨j,(m _ _ _ _ _ e).kn.u k⟩
def Cu{a:List UInt8}{b c:PX τ aG}(d:mM a b)(e:mM a c):mM a (if f then b else c):=by cases f<;>assumption
def vm{h:PX τ g}{e:g->PX τ aG}(i:∀d,po (e d)):po (aw h e):=by
 intro k b l n c a;cases f:h k b with
 |error m=>rw[bm f]at a;cases a
 |ok j=>obtain⟨d,o,p⟩:=j;rw[aF f]at a;exact i d _ _ _ _ _ a
def yk{a b:PX τ aG}(c:po a)(d:po b):po (if f then a else b):=by cases f<;>assumption
def Hp{d:Mar.bi}(a:gc d b=.ok (e,c)):(az c.F d.text).isSome:=by
 unfold gc at a;split at a<;>cases a;rename_i f;dsimp only;rw[xQ,f];simp
def BY{n:ByteArray}{o:Unit}(f:name n (fP d) e b=.ok (a,o,c)):(az c.F a.1).isSome:=by
 unfold name at f;cases m:next n b with
 |error k=>rw[bm (cj m)]at f;cases f
 |ok i=>
  obtain⟨g,j⟩:=i;rw[aF (aX m)]at f;cases l:((g.H:Int)==1)with
  |false=>rw[l]at f;simp only[Ye,if_false,wq]at f;cases f
  |true=>
   rw[l]at f;simp only[if_true]at f
   cases h:gc g j with
   |error k=>rw[bm (show (fP d).ba g e j=.error k from cj h)]at f;cases f
   |ok i=>
    obtain⟨v,p⟩:=i;rw[aF (show (fP d).ba g e j=.ok (v,e,p)from aX h)]at f;simp only[cH]at f;cases f
    exact Hp h
def vn{h:ByteArray}{g:List UInt8×Nat->PX Unit aG}(k:∀a,mM a.1 (g a)):po (aw (name h (fP d)) g):=by
 intro m b n p c e;cases f:name h (fP d) m b with
 |error o=>rw[bm f]at e;cases e
 |ok l=>
  obtain⟨a,q,r⟩:=l;rw[aF f]at e;obtain⟨i,j⟩:=k a _ _ _ _ _ e;rw[i];exact j.1 _ (BY f)
def Ct(b:ByteArray)(a:List UInt8×Nat)(c:Ty):mM a.1 (oo (τ:=τ) b a c):=by
 unfold oo;exact tD (eA (ve _)) λ_=>tE ⟨a.1,a.2,_⟩
def Mg(c:ByteArray)(b:Ty)(a:List UInt8×Nat):mM a.1 (om (τ:=τ) c b a):=by
 unfold om;refine tD (eA (pV _ _)) λd=>?_;unfold pF;refine Cu (Ct _ _ _) (tD (eA (pV _ _)) λe=>?_);unfold pG;exact Cu (Ct _ _ _) (tE ⟨a.1,a.2,b⟩)
def LH(d:Ad)(c:ByteArray):po (dZ c (fP d)):=by
 unfold dZ;refine vm λb=>?_;unfold ol;refine yk (vn λa=>tD (eA (ve _)) λ_=>tE ⟨a.1,a.2,_⟩) (vm λb=>?_);unfold na;refine yk (vn λa=>tD (eA (ya _)) λ_=>tE ⟨a.1,a.2,_⟩) (vm λe=>?_);unfold pE;refine vm λb=>?_;unfold rl;exact yk (vn λa=>tE ⟨a.1,a.2,_⟩) (vn λa=>Mg _ _ _)
def GZ{f:ByteArray}{e:aG}(a:md f b=.ok (e,c)):(az c.F e.t).isSome:=by
 unfold md hV at a;cases d:dZ f (fP mo) () b with
 |error i=>rw[d]at a;cases a
 |ok g=>obtain⟨h,j,k⟩:=g;rw[d]at a;cases a;exact LH _ _ _ _ _ _ _ d
def LD{f:ByteArray}(d:gs f b=.ok (a,c)):(az c.F a.1).isSome:=by
 unfold gs hV at d;cases e:name f (fP mo) () b with
 |error i=>rw[e]at d;cases d
 |ok g=>obtain⟨h,j,k⟩:=g;rw[e]at d;cases d;exact BY e
end
section
variable {n:List UInt8×Nat}{a:Type}
def nR(e:PM a):Prop:=∀b d c,e b=.ok (d,c)->Kn b.F c.F
def de.k{b:PM a}(d:de b):nR b:=λf c g e=>(d f c g e).kn
def mN(n:List UInt8×Nat)(d:PM ao):Prop:=∀b a c,d b=.ok (a,c)->bB a=n/\Kn b.F c.F
def lV(d:PM ao):Prop:=∀c b a,d c=.ok (b,a)->(az a.F (bB b).1).isSome/\Kn c.F a.F
def se{a:ao}(c:bB a=n):mN n (bT a):=by
 intro e d f b;simp only[bT]at b;cases b
 exact⟨c,pm _⟩
def gN{e:PM a}{f:a->PM ao}(j:nR e)(i:∀c,mN n (f c)):mN n (av e f):=by
 intro l m p b;cases d:e l with
 |error o=>rw[bl d]at b;cases b
 |ok k=>
  obtain⟨c,q⟩:=k;rw[au d]at b;obtain⟨g,h⟩:=i c _ _ _ b;exact⟨g,(j _ _ _ d).u h⟩
def Rm{c:Bool}{a b:PM ao}(d:mN n a)(e:mN n b):mN n (if c then a else b):=by cases c<;>assumption
def qs{e:PM a}{f:a->PM ao}(j:nR e)(i:∀c,lV (f c)):lV (av e f):=by
 intro l m o b;cases d:e l with
 |error n=>rw[bl d]at b;cases b
 |ok k=>
  obtain⟨c,p⟩:=k;rw[au d]at b;obtain⟨g,h⟩:=i c _ _ _ b;exact⟨g,(j _ _ _ d).u h⟩
def tX{e:ByteArray}{c:List UInt8×Nat->PM ao}(g:∀n,mN n (c n)):lV (av (gs e) c):=by
 intro i j l a;cases b:gs e i with
 |error k=>rw[bl b]at a;cases a
 |ok h=>
  obtain⟨n,m⟩:=h;rw[au b]at a;obtain⟨f,d⟩:=g n _ _ _ a;exact⟨by rw[f];exact d.1 _ (LD b),(pU _ _ _ _ b).kn.u d⟩
def QO(b:ByteArray)(a:Nat):lV (iB b a):=by
 unfold iB;refine qs (BO _).k λ_=>tX λn=>?_;exact gN (dO _ _).k λ_=>gN (tv _ _).k λ_=>gN (dO _ _).k λ_=>se rfl
def QS(e:ByteArray)(g:Nat):lV (iI e g):=by
 unfold iI;refine qs (vh _).k λ_=>?_;intro i j l a;cases b:md e i with
 |error k=>rw[bl b]at a;cases a
 |ok h=>
  obtain⟨c,m⟩:=h;rw[au b]at a;obtain⟨f,d⟩:=gN (n:=(c.t,c.w)) (dO _ _).k (λ_=>se rfl) _ _ _ a;exact⟨by rw[f];exact d.1 _ (GZ b),(BK _ _ _ _ b).kn.u d⟩
def Ro(f:ByteArray)(n:List UInt8×Nat):∀(c:Nat) (b:List (List UInt8×Nat×Int)) (d:List (Int×Int)),mN n (gr f n c b d):=by
 intro c;induction c with
 |zero=>intro b d g h o a;simp only[gr,fl]at a;cases a
 |succ c k=>
  intro b d g h o a;cases e:ie f b.length d g with
  |error p=>rw[tq e]at a;cases a
  |ok m=>
   obtain⟨l,q,s⟩:=m;rw[rI e]at a;obtain⟨i,j⟩:=gN (n:=n) (kc _ _).k (λr=>Rm (k _ _) (show mN n (nh f n (b++[l]))from gN (dO _ _).k λ_=>gN (dO _ _).k λ_=>se rfl)) _ _ _ a;exact⟨i,(BN _ _ _ _ _ _ _ e).kn.u j⟩
def QP(b:ByteArray)(a:Nat):lV (gp b a):=by
 unfold gp;exact qs (vh _).k λ_=>tX λn=>gN (dO _ _).k λ_=>Ro _ _ _ _ _
def QR(b:ByteArray)(a:Nat):lV (jf b a):=by
 unfold jf;exact qs (vh _).k λ_=>tX λn=>gN (tu (vb _ _ _ (yc _ _)) _).k λ_=>gN (dO _ _).k λ_=>se rfl
def QT(b:ByteArray)(a:Nat):lV (dQ b a):=by
 unfold dQ;refine qs (vh _).k λ_=>tX λn=>?_;unfold oR;refine gN (dO _ _).k λ_=>gN (dO _ _).k λ_=>gN (BQ _).k λd=>?_;unfold qw;refine gN (vj (vg _ _ _) _).k λc=>?_;unfold sf;refine gN (dO _ _).k λ_=>gN (dO _ _).k λ_=>gN (vj (BH _ _ _ _) _).k λe=>?_;unfold kS oP;exact gN (dO _ _).k λ_=>gN (dO _ _).k λ_=>se rfl
def JD(d:ByteArray)(c:Int->Bool):nR (mq d c):=by
 intro e g k a;cases b:fU d c e.aa e with
 |error h=>rw[vB b]at a;cases a
 |ok f=>
  obtain⟨j,i,l⟩:=f;rw[yq b]at a;cases a
  exact(tt _ _ _ _ _ _ _ b).kn
def xL{j:Type}{e:PM a}{f:a->PM j}(h:nR e)(g:∀c,nR (f c)):nR (av e f):=by
 intro k l n b;cases d:e k with
 |error m=>rw[bl d]at b;cases b
 |ok i=>obtain⟨c,o⟩:=i;rw[au d]at b;exact(h _ _ _ d).u (g c _ _ _ b)
def JC(a:ByteArray):nR (nf a):=by
 unfold nf;exact xL (dO _ _).k λ_=>xL (JD _ _) λ_=>xL (dO _ _).k λ_=>(iZ _).k
def QQ(c:ByteArray)(b:Nat):lV (hJ c b):=by
 unfold hJ;refine qs ?_ λ_=>tX λn=>?_
 .intro e d f a;exact(yb _ _ _ _ _ _ a).kn
 .unfold oE;exact gN (tu (BP _) _).k λ_=>gN (JC _) λ_=>se rfl
def DO(b:ByteArray):lV (fQ b):=by
 unfold fQ;refine qs (oB _).k λd=>?_;intro e c f a;unfold dU at a;split at a
 .exact QO _ _ _ _ _ a
 split at a
 .exact QS _ _ _ _ _ a
 split at a
 .exact QP _ _ _ _ _ a
 split at a
 .exact QR _ _ _ _ _ a
 split at a
 .exact QT _ _ _ _ _ a
 split at a
 .exact QQ _ _ _ _ _ a
 .simp only[fl]at a;cases a
end
def SB(b:ByteArray)(a:World):Calls prog 71 #[.string b] a λc d=>c=.returned (.pointer (some ⟨a.heap.size,0,none⟩))/\d=a.alloc (.cells #[.string b,.int .i64 0,.int .i64 0,.string ⟨#[]⟩,.int .i64 0,.int .i64 0,.bool false] 222):=by
 go_in;go_wp2;go_ret;exact⟨rfl,rfl⟩
def eP:St:=⟨0,none,0,0,[],[]⟩
def ib(b:ByteArray)(a:World):World:=
 (((a.alloc (.cells #[.string b,.int .i64 0,.int .i64 0,.string ⟨#[]⟩,.int .i64 0,.int .i64 0,.bool false] 222)).alloc (.map #[] 0)).alloc (.map #[] 0)).alloc
  (.cells #[.pointer (some ⟨a.heap.size,0,none⟩),.map (some (a.heap.size+1)),.int .i64 0,.int .i64 0,.map (some (a.heap.size+2))] 151)
def gT(a:World):Ad:=⟨a.heap.size+3,a.heap.size,a.heap.size+1,a.heap.size+2,[a.heap.size+3,a.heap.size,a.heap.size+1,a.heap.size+2]⟩
def JH(b:ByteArray){a:World}(l:Gl a)(n:b.size<=4000000000):Rd (gT a) b eP (ib b a)/\ai [] a (ib b a)/\(ib b a).heap.size=a.heap.size+4:=by
 have d:(a.alloc (.cells #[.string b,.int .i64 0,.int .i64 0,.string ⟨#[]⟩,.int .i64 0,.int .i64 0,.bool false] 222)).heap.size=a.heap.size+1:=by simp
 have e:((a.alloc (.cells #[.string b,.int .i64 0,.int .i64 0,.string ⟨#[]⟩,.int .i64 0,.int .i64 0,.bool false] 222)).alloc (.map #[] 0)).heap.size=a.heap.size+2:=by simp
 have f:(((a.alloc (.cells #[.string b,.int .i64 0,.int .i64 0,.string ⟨#[]⟩,.int .i64 0,.int .i64 0,.bool false] 222)).alloc (.map #[] 0)).alloc (.map #[] 0)).heap.size=a.heap.size+3:=by simp
 have g:(ib b a).heap.size=a.heap.size+4:=by unfold ib;simp
 have c:ai [] a (ib b a):=((((ah [] a).G _).G _).G _).G _;have j:(ib b a).heap[a.heap.size]? = some (.cells #[.string b,.int .i64 0,.int .i64 0,.string ⟨#[]⟩,.int .i64 0,.int .i64 0,.bool false] 222):=
  ((((ah [] _).G _).G _).G _).K _ (by rw[d];omega) (by simp) |>.trans (aK rfl)
 have bN:(ib b a).heap[a.heap.size+1]? = some (.map #[] 0):=(((ah [] _).G _).G _).K _ (by rw[e];omega) (by simp) |>.trans (aK d.symm);have h:(ib b a).heap[a.heap.size+2]? = some (.map #[] 0):=((ah [] _).G _).K _ (by rw[f];omega) (by simp) |>.trans (aK e.symm);have i:(ib b a).heap[a.heap.size+3]? = some (.cells #[.pointer (some ⟨a.heap.size,0,none⟩),.map (some (a.heap.size+1)),.int .i64 0,.int .i64 0,.map (some (a.heap.size+2))] 151):=aK f.symm;refine⟨⟨i,⟨YV _,_,_,_,_,j⟩,⟨by simp[eP],[],[],(by intro q m;cases m),rfl,bN,(by intro p k;cases k)⟩,?_,?_,h,by simp[gT],l.O c (by simp) (by simp) (by simp),n,by simp[eP]⟩,c,g⟩
 .simp[gT]
 .intro r o;simp[gT]at o;rw[g];omega
section
def Ja:(prog.info? 157).map (λa=>(a.zero,a.size,a.bytes))=some (some .nilIface,1,16):=by kernel_rfl
def CW(a:ao):PM Unit:=λn=>.ok ((),{ n with F:=cM n.F (bB a).1 a })
def ec(c:ByteArray):Nat->List ao->PM (List ao)
 |0,_=>fl 0 0
 |k+1,a=>av (fL c) λd=>if((d.H:Int)==0)then bT a else av (fQ c) λb=>av (CW b) λ_=>ec c k (a++[b])
def eo(c:ByteArray):Except Mar.a5 (List ao):=
 if 1200<c.size then .error ⟨1,0⟩else match ec c 69 [] eP with
 |.error b=>.error b
 |.ok (a,n)=>match kJ n a with
  |.error b=>.error b
  |.ok _=>match fR n a with
   |.error b=>.error b
   |.ok _=>.ok a
structure hT(A:Ad)(c:ByteArray)(e:World)(a:List ao)(b:List Nat)(j:List (Nat×Obj))(f:List Nat)(l:Value)(n:St)(u:World):Prop where
 kp:ai [A.R,A.S,A.N,A.P] e u
 rd:Rd (A.aC f) c n u
 aQ:∀y∈f,e.heap.size<=y
 ax:∀g,l.ownBlock=some g->g∈f
 row:u.ownsRow e.heap.size 157 1 l a.length (iU a b)
 bc:b.length=a.length
 ev:bn (A.aC f).X j u
 dX:∀i (h:i<a.length) (h':i<b.length),dx j b[i] a[i]
section
variable {A : Ad} {c : ByteArray} {e u o : World} {a : List ao} {b : List Nat} {j : List (Nat × Obj)} {f : List Nat} {l : Value} {n q p : St}
def hT.dG(h:hT A c e a b j f l n u):∃ad d,l=.slice ad a.length d:=by
 rcases h.row.2 with⟨rfl,g⟩|⟨k,d,i,rfl,_⟩
 .exact⟨none,0,by rw[g]⟩
 .exact⟨_,_,rfl⟩
def hT.b6{k:List Nat}(t:Rd A c p e)(d:hT A c e a b j f l n u)(r:ai k u o)(m:∀i∈k,i∈[A.R,A.S,A.N,A.P])(h:Rd (A.aC f) c q o):hT A c e a b j f l q o:=by
 obtain⟨x,y,z,B⟩:=t.lt;have v:∀i∈k,i∈(A.aC f).X:=by
  intro i g;have g:=m i g;simp at g;rcases g with rfl|rfl|rfl|rfl
  .exact h.aI.1
  .exact h.aI.2.1
  .exact h.aI.2.2.1
  .exact h.aI.2.2.2
 refine⟨d.kp.u (r.af m),h,d.aQ,d.ax,aY d.row r ?_,d.bc,d.ev.O r v,d.dX⟩;intro s w g;have g:=m _ g;have:=d.aQ _ (d.ax s w);simp at g;omega
def hT.aA(g:Rd A c p e)(m:hT A c e a b j f l n u)(d:Below u.heap.size u o):hT A c e a b j f l n o:=m.b6 g (bt [] d) (by simp) (m.rd.aA d)
def hT.i9(g:hT A c e a b j f l n u)(d:Obj):(u.alloc d).ownsRow e.heap.size 157 1 l a.length (iU a b):=aY g.row ((ah [] u).G d) (by simp)
def FB{B r:World}{g C h:Nat}{d:ao}{bs':List (Nat×Obj)}(E:Rd A c p e)(i:hT A c e a b j f l n u)(K:dx bs' h d)(L:bn (A.aC f).X bs' u)(q:Below u.heap.size u B)
  (G:r.ownsRow e.heap.size 157 1 (.slice (some ⟨g,0,none⟩) (a.length+1) C) (a.length+1) (iU a b++[.iface (cE d) (.pointer (some ⟨h,0,none⟩))]))
  (t:B.grownBy r l.ownBlock) (F:l.ownBlock=some g\/g=B.heap.size) (O:g<r.heap.size) :
  hT A c e (a++[d]) (b++[h]) (j++bs') (g::f) (.slice (some ⟨g,0,none⟩) (a.length+1) C) n r:=by
 obtain⟨R,_⟩:=gK G (g:=g) rfl;have o:=i.aA E q;have M:=L.O (bt [] q) (by simp);have y:∀h,l.ownBlock=some h->e.heap.size<=h/\h∈(A.aC f).X:=λh q=>⟨i.aQ _ (i.ax h q),Yf _ (i.ax h q)⟩;have N:=eL t;refine⟨o.kp.ce N ?_,qS E (cD A f) o.rd t y F O,?_,?_,?_,by simp[i.bc],(o.ev.cF M).bZ t (λh q=>(y h q).2) F,?_⟩
 .intro S P;exact Ya (y S (by simpa using P)).1
 .intro a1 z;rcases Yg.1 z with rfl|z
  .exact R
  .exact i.aQ a1 z
 .intro a2 D;simp only[Value.ownBlock,Yu]at D;subst D;exact Yb
 .have m:iU (a++[d]) (b++[h])=iU a b++[.iface (cE d) (.pointer (some ⟨h,0,none⟩))]:=by
   unfold iU;rw[List.zip_append i.bc.symm,List.map_append];rfl
  rw[m];simpa using G
 .intro k J a3;by_cases v:k<a.length
  .have w:k<b.length:=by rw[i.bc];exact v
   rw[List.getElem_append_left v,List.getElem_append_left w];exact(show jk (j++bs') (.iface (cE a[k]) (.pointer (some ⟨b[k],0,none⟩))) (some a[k])from pi (λa0 x=>Yf _ x) ⟨_,rfl,i.dX k v w⟩).elim (λH s=>by obtain⟨m,o⟩:=s;cases m;exact o)
  .have w:k=a.length:=by simp at J;omega
   have a4:=i.bc;rw[List.getElem_append_right (by omega),List.getElem_append_right (by omega)];have m:k-a.length=0:=by omega
   have I:k-b.length=0:=by omega
   simp only[m,I,List.getElem_cons_zero];exact(show jk (j++bs') (.iface (cE d) (.pointer (some ⟨h,0,none⟩))) (some d)from pi (λa0 x=>Ym _ x) ⟨_,rfl,K⟩).elim (λH s=>by obtain⟨m,o⟩:=s;cases m;exact o)
def hT.k0(B:Rd A c p e)(h:hT A c e a b j f l n u)(G:a.length<=1000):∃g,jj (j++g) l a b/\bn A.X (j++g) u:=by
 have z:∀m,e.heap.size<=m->m ∉ A.X:=λm M H=>by have:=B.bh _ H;omega
 have w:bn A.X j u:=h.ev.cc (λP J=>Ym _ J);have v:∀g d (i:d<a.length) (s:d<b.length),dx (j++g) b[d] a[d]:=λg d i s=>
  (show jk (j++g) (.iface (cE a[d]) (.pointer (some ⟨b[d],0,none⟩))) (some a[d])from pi (λK k=>Yf _ k) ⟨_,rfl,h.dX d i s⟩).elim (λL C=>by obtain⟨o,y⟩:=C;cases o;exact y)
 rcases h.row.2 with⟨rfl,i⟩|⟨r,x,q,rfl,D,E,F,N,O,t⟩
 .have I:a=[]:=Yv.1 i;refine⟨[],⟨h.bc,Y8 ⟨rfl,i,?_⟩,v []⟩,by simpa using w⟩;subst I;rfl
 .refine⟨[(r,.cells q 157)],⟨h.bc,Ya ⟨r,x,q,rfl,⟨F,G⟩,by simp,?_⟩,v _⟩,?_⟩
  .have o:(iU a b).length=a.length:=by simp[h.bc]
   rw[Nat.mul_one]at t;rw[o];exact t
  .refine w.cF ?_;intro K k;simp only[Yc]at k;subst k;exact⟨E,z _ D⟩
end
end
section
variable {d:ao}{c:List ao}{f:Mar.a5}{e:Mar.bi}{b g h:St}
def DS{a:ByteArray}{g:Nat}(d:fL a b=.ok (e,h))(f:((e.H:Int)==0)=true):ec a (g+1) c b=.ok (c,h):=by
 simp only[ec];rw[au d,f];rfl
def DT{a:ByteArray}{e:Nat}(d:fL a b=.error f):ec a (e+1) c b=.error f:=by
 simp only[ec];exact bl d
def DR{a:ByteArray}{j:Nat}(d:fL a b=.ok (e,h))(i:((e.H:Int)==0)=false)(g:fQ a h=.error f):ec a (j+1) c b=.error f:=by
 simp only[ec];rw[au d,i];exact bl g
def DU{a:ByteArray}{g:Nat}{f:St}(i:fL a b=.ok (e,h))(k:((e.H:Int)==0)=false)(j:fQ a h=.ok (d,f)) :
  ec a (g+1) c b=ec a g (c++[d]) { f with F:=cM f.F (bB d).1 d }:=by
 simp only[ec];rw[au i,k];exact au j
structure lW(b:St)(c:List ao):Prop where
 L:b.ae<=24
 co:b.a1<=40
 pr:b.aa.length<=4
 b0:c.length<=b.ae+b.a1+b.aa.length
 nm:∀n d,az b.F n=some (some d)->d∈c\/∃t a v,d=.const t a v
def lW.le(a:lW b c)(j:Le b g):lW g c:=by
 obtain⟨n,o,f,k,l,m⟩:=j;refine⟨k a.L,l a.co,by rw[f];exact a.pr,by rw[f];have:=a.b0;omega,λh d i=>?_⟩;rcases m.2 h d i with e|e
 .exact a.nm h d e
 .exact Ya e
def lW.dL{n:ByteArray}(e:lW b c)(m:fQ n b=.ok (d,g)):lW { g with F:=cM g.F (bB d).1 d } (c++[d]):=by
 have f:=PL m;have o:=(DO n _ _ _ m).2;have q:=f.up;have p:=e.b0;refine⟨f.L e.L,f.co e.co,f.pr e.pr,by simp;omega,λk l a=>?_⟩;dsimp only at a;rw[xR]at a;cases j:az g.F k with
 |none=>rw[j]at a;cases a
 |some r=>
  rw[j]at a;simp only[Option.map_some,Yu]at a;split at a
  .cases a
   exact Y8 (by simp)
  .subst a;rcases o.2 k l j with h|h
   .rcases e.nm k l h with i|i
    .exact Y8 (Yf _ i)
    .exact Ya i
   .exact Ya h
def xM:∀(c:Ty) (b:List UInt8×Nat),b∈cI c->b∈cg c:=by
 intro c;induction c with
 |named i g=>intro b a;exact a
 |arr e h f d=>
  intro b a;cases f with
  |true=>exact d b (by simpa[cI]using a)
  |false=>simp[cI]at a
 |opt e d=>intro b a;simp[cI]at a
 |_=>intro b a;simp[cI]at a
def Bv(d:ao)(h:List UInt8×Nat)(a:h∈eK d):h∈gn d:=by
 cases d with
 |const c b v=>simp[eK]at a
 |typedef d=>exact xM _ _ a
 |enum c b i=>simp[eK]at a
 |struct c b i=>
  simp only[eK,List.mem_flatMap]at a;obtain⟨e,g,f⟩:=a;exact List.mem_flatMap.2 ⟨e,g,xM _ _ f⟩
 |union c b l j=>
  simp only[eK,List.mem_flatMap]at a;obtain⟨e,g,f⟩:=a;exact List.mem_flatMap.2 ⟨e,g,xM _ _ f⟩
 |prog c b m k=>simp[eK]at a
def Kc:∀(h:List (List UInt8×Nat)) (i:Unit),aZ (fC ⟨0,0,0,0,[]⟩ ⟨#[]⟩ b [] 0) h i=.ok ()->∀g∈h,∃d,az b.F g.1=some (some d):=by
 intro h;induction h with
 |nil=>intro i _ g e;cases e
 |cons j h m=>
  intro i c g e;simp only[aZ]at c;have l:(fC ⟨0,0,0,0,[]⟩ ⟨#[]⟩ b [] 0).ba j i=jy b j:=rfl;rw[l]at c;cases a:jy b j with
  |error f=>rw[a]at c;cases c
  |ok v=>
   rw[a]at c;rcases Yg.1 e with rfl|e
   .unfold jy at a;cases k:az b.F g.1 with
    |none=>rw[k]at a;cases a
    |some n=>
     rw[k]at a;cases n with
     |none=>simp[oA]at a
     |some d=>exact⟨d,rfl⟩
   .exact m _ c g e
def Bz(f:kJ b c=.ok ()):∀d∈c,∀a∈eK d,∃e,az b.F a.1=some (some e):=by
 intro d g a h;exact Kc _ _ f a (List.mem_flatMap.2 ⟨d,g,Bv d a h⟩)
def Kd(k:lW b c)(h:kJ b c=.ok ()):∀e d,az b.F e=some (some d)->∀a∈eK d,∃g,az b.F a.1=some (some g):=by
 intro e d j a f;rcases k.nm e d j with i|⟨m,l,v,rfl⟩
 .exact Bz h d i a f
 .simp[eK]at f
def Rz:lW eP []:=⟨by simp[eP],by simp[eP],by simp[eP],by simp,by intro b d a;simp[eP,az]at a⟩
def Hr{d a:Ad}(c:eH d a){e:ByteArray}{f:World}(g:Rd d e b f) :
  Calls prog 73 #[.pointer (some ⟨a.R,0,none⟩)] f (ul [a.R,a.S,a.N,a.P] d e f (fQ e b)):=by
 have:=Hq g;rw[c.1,c.2.1,c.2.2.1,c.2.2.2]at this;exact this
end
section
variable {a:List ao}{b:Mar.a5}{c:St}
def su(i:ByteArray)(d:World)(f:Ending)(c:World):Prop:=
 (∃a h j e,eo i=.ok a/\f=.returned h/\ai [] d c/\jj e h a j/\∀g∈e,c.heap[g.1]? = some g.2)\/(∃b,eo i=.error b/\ai [] d c/\fg d b.no b.w f c)
def DW{a:ByteArray}(c:¬1200<a.size)(d:ec a 69 [] eP=.error b):eo a=.error b:=by unfold eo;rw[Y2 c,d]
def QZ{d:ByteArray}(e:¬1200<d.size)(f:ec d 69 [] eP=.ok (a,c))(g:kJ c a=.error b):eo d=.error b:=by unfold eo;rw[Y2 e,f];simp only[g]
def QY{d:ByteArray}(e:¬1200<d.size)(g:ec d 69 [] eP=.ok (a,c))(h:kJ c a=.ok ())(f:fR c a=.error b):eo d=.error b:=by unfold eo;rw[Y2 e,g];simp only[h,f]
def Rb{b:ByteArray}(d:¬1200<b.size)(f:ec b 69 [] eP=.ok (a,c))(g:kJ c a=.ok ())(e:fR c a=.ok ()):eo b=.ok a:=by unfold eo;rw[Y2 d,f];simp only[g,e]
def zR(d:ByteArray){c:World}(b6:Gl c):Calls prog 44 #[.string d] c (su d c):=by
 have k8:=jx;have k6:=Ic;have k5:=ru 160 λ_ _ _=>by kernel_rfl
 have l1:=nY;obtain⟨j1,i1,i8,i9,g1⟩:=info_parts Ja;by_cases c2:1200<d.size
 .have g5:U (eo d=.error ⟨1,0⟩):=by show _=_;unfold eo;rw[Y9 c2]
  have f5:(1200:Int) < ↑d.size:=by omega
  go_in;go_wp2_with (go_at_call 70;refine(gO _ _ _).mono ?_;rintro B c8 ⟨rfl,rfl⟩);exact aq (Ya ⟨⟨1,0⟩,g5.j,(by first|exact(ah [] c).G _|exact(ai.refl [] c).drew.alloc _),c.heap.size,Y4 _,rfl,aK rfl⟩)
 .obtain⟨c3,f3,l0⟩:=JH d b6 (by omega);have k9:¬(1200:Int) < ↑d.size:=by omega
  have G:=Z c2;have m:=Z c3;have F:=Z f3;have d9:U (hT (gT c) d (ib d c) [] [] [] [] (.slice none 0 0) eP (ib d c)):=⟨ah _ _,c3,by simp,(by intro e4 b6;cases b6),⟨rfl,Y8 ⟨rfl,rfl⟩⟩,rfl,(by intro M k;cases k),(by intro p i;cases i)⟩;clear c3 f3 c2;go_in;go_wp2_with (first|(go_at_call 71;refine(SB _ _).mono ?_;rintro B c8 ⟨rfl,rfl⟩));go_loopw [4] (λc7 j2=>∃(a:List ao) (l:List Nat) (n:List (Nat×Obj)) (u:List Nat) (O:St),U (lW O a)/\U (hT (gT c) d (ib d c) a l n u c7 O j2)/\U (ec d 69 [] eP=ec d (69-a.length) a O)) (λc7 _=>69-uW c7)
  case atStart=>exact⟨[],[],[],[],eP,Rz,d9,rfl⟩
  case round=>
   obtain⟨a,l,n,u,O,A,r,d1⟩:=hrel;clear d9;obtain⟨ad,S,rfl⟩:=r.j.dG;have k7:a.length<=68:=by have C:=A.j.b0;have k2:=A.j.L;have k3:=A.j.co;have k4:=A.j.pr;omega
   have z:U (ec d 69 [] eP=ec d ((68-a.length)+1) a O):=by
    have C:=d1.j;rw[show 69-a.length=(68-a.length)+1 by omega]at C;exact C
   have h4:wr.cell? ⟨c.heap.size+3,0,none⟩=some (.pointer (some ⟨c.heap.size,0,none⟩)):=r.j.rd.am.1;clear d1;go_wp2_with fail;refine(yw (cD (gT c) u) r.j.rd).mono ?_;rintro B j4 ⟨c0,⟨d0,j7,y,rfl,f9⟩|⟨b,y,w,b4,rfl,x⟩⟩;rotate_left
   .have c6:=r.j.kp.a2;exact(show bodyPost prog Tryz.f44 (su d c) (Exit.panic _) _ j4 from aq (Ya ⟨b,DW G.j (z.j.trans (DT y)),(F.j.ce r.j.kp (by intro D e;simp[gT]at e;exact Ya (by omega))).ce c0 (by intro D e;simp[gT]at e;exact Ya (by omega)),w,by omega,rfl,x⟩))
   have f:=Z (r.j.b6 m.j c0 (by simp) f9);have a6:=Z (A.j.le (vi _ _ _ _ y));clear c0 f9 r A;dsimp only[cr];cases I:((d0.H:Int)==0)with
   |true=>
    have i2:((d0.H:Int) != 0)=false:=by simp[bne,I]
    have f1:=z.j.trans (DS y I);have a4:=Z f1;obtain⟨R,b5,b9⟩:=f.j.k0 m.j (by omega);have c4:=jq m.j.aI f.j.rd;have g9:=Z (Ka c4 b9 b5);have h1:=Z c4;have d5:=Z b9;have P:=Z b5;clear f1 z c4 b9 b5;go_wp2_with fail;refine g9.j.mono ?_;rintro B q (⟨o,rfl,j⟩|⟨b,o,c1,w,b4,rfl,x⟩);rotate_left
    .have c6:=f.j.kp.a2;exact(show bodyPost prog Tryz.f44 (su d c) (Exit.panic _) _ q from aq (Ya ⟨b,QZ G.j a4.j o,(F.j.ce f.j.kp (by intro D e;simp[gT]at e;exact Ya (by omega))).u c1,w,by omega,rfl,x⟩))
    have c5:=h1.j.m9 j;obtain⟨g2,b0,j3,e5,e6,e7,e8⟩:=c5.nm;have f7:lR (gT c).X (gT c).N j7.F ((n++R)++b0) j3 q:=⟨g2,(d5.j.O j (by simp)).cF e5,e6,e7,λp i b1=>pi (λM k=>Ym _ k) (e8 p i b1)⟩;have f0:jj ((n++R)++b0) (.slice ad a.length S) a l:=⟨P.j.bc,P.j.row.af (λM k=>Yf _ k),λp i b1=>(show jk ((n++R)++b0) (.iface (cE a[p]) (.pointer (some ⟨l[p],0,none⟩))) (some a[p])from pi (λM k=>Yf _ k) ⟨_,rfl,P.j.dX p i b1⟩).elim (λj8 h9=>by obtain⟨h5,h6⟩:=h9;cases h5;exact h6)⟩
    have h0:=Z (Ig c5 f7 f0 (Kd a6.j o) (Bz o));have g6:=Z (d5.j.O j (by simp));have a5:=Z j;have d7:=Z o;clear c5 g2 e5 e6 e7 e8 f7 f0 j o;go_wp2_with fail;refine h0.j.mono ?_;rintro B j5 (⟨a0,rfl,f4⟩|⟨b,a0,c1,w,b4,rfl,x⟩);rotate_left
    .have c6:=f.j.kp.a2;have g1:=a5.j.a2;exact(show bodyPost prog Tryz.f44 (su d c) (Exit.panic _) _ j5 from aq (Ya ⟨b,QY G.j a4.j d7.j a0,((F.j.ce f.j.kp (by intro D e;simp[gT]at e;exact Ya (by omega))).u a5.j).u c1,w,by omega,rfl,x⟩))
    have g7:=Z a0;have d6:=Z f4;clear a0 f4;go_wp2;go_ret;refine Y8 ⟨a,_,l,n++R,Rb G.j a4.j d7.j g7.j,rfl,?_,P.j,λM k=>((g6.j.O d6.j (by simp)) M k).1⟩;exact((F.j.ce f.j.kp (by intro D e;simp[gT]at e;exact Ya (by omega))).u a5.j).u d6.j
   |false=>
    have i2:((d0.H:Int) != 0)=true:=by simp[bne,I]
    have l3:=y;go_wp2_with fail;refine(Hr (cD (gT c) u) f.j.rd).mono ?_;rintro B q ⟨j,⟨h,a3,a9,e3,K,rfl,a1,e9,f2⟩|⟨b,K,w,b4,rfl,x⟩⟩;rotate_left
    .have c6:=f.j.kp.a2;exact(show bodyPost prog Tryz.f44 (su d c) (Exit.panic _) _ q from aq (Ya ⟨b,DW G.j (z.j.trans (DR y I K)),(F.j.ce f.j.kp (by intro D e;simp[gT]at e;exact Ya (by omega))).ce j (by intro D e;simp[gT]at e;exact Ya (by omega)),w,by omega,rfl,x⟩))
    have e0:=f.j.b6 m.j j (by simp) a1;have h2:=Z (a6.j.dL K);have g3:=Z (z.j.trans (DU y I K));obtain⟨l5,i4⟩:=Option.isSome_iff_exists.1 (DO d _ _ _ K).1;have e1:=e0.aA m.j (Below.refl _ _).drew;have b7:=f2.O (bt [] (Below.refl q.heap.size q).drew) (by simp);have i7:=oM e9 b7;have j9:q.cell? ⟨c.heap.size+3,1,none⟩=some (.map (some (c.heap.size+1))):=a1.am.2.1;have d8:=Z e1;have d3:=Z b7;have d2:=Z e9;have l4:c.heap.size+3<q.heap.size:=a1.lt.1;clear z j a1 f2 f a6 e0 e1 b7 h4;go_wp2_with fail;refine cS (λc8=>c8.cell? ⟨c.heap.size+3,1,none⟩=some (.map (some (c.heap.size+1)))) (L:=8) (by kernel_rfl) rfl (by kernel_rfl) (by kernel_rfl) ?_ (λh7=>?_)
    .go_keep
    refine bI [0,1,2,3,4,7] ?_;iterate 6 (refine bP (v:=?_) rfl (by kernel_rfl) (λ_ _ _ i=>i) (by rfl) (by assumption) ?_ ?_;rotate_left;focus (intro c b2;(try dsimp only at b2);go_simp;(try with_reducible rfl));(try simp only[aL,aM,List.set]))
    refine bJ ?_;refine ck 5 (by kernel_rfl) rfl λa7 H=>?_;(go_simp;go_at_call 327;refine(nX _ _ _).mono ?_;rintro B c9 ⟨rfl,b3⟩;have s:=d8.j.aA m.j b3;have k0:c9.cell? ⟨c.heap.size+3,1,none⟩=some (.map (some (c.heap.size+1))):=s.rd.am.2.1;have b8:=d3.j.O (bt [] b3) (by simp);obtain⟨E,f8,f6⟩:=fN.bQ s.rd.nm s.rd.aI.2.2.1 i4 d2.j b8;have g0:=Rd.lY s.rd f6;have e2:=Z (s.b6 m.j (gY _ _ _) (by intro j6 J;simp only[Yc]at J;subst J;simp[Ad.aC]) g0);have d4:=Z (b8.O (gY c9 (c.heap.size+1) E) (by intro j6 J;simp only[Yc]at J;subst J;exact s.rd.aI.2.2.1));dsimp only[Ad.aC,gT]at f8;clear b3 s b8 f6 g0);refine H.out _ _ ?_ (λh7=>?_)
    .go_keep
    clear H a7;(try simp only[aL,aM,List.set]);refine tk (i:=6) (v:=?_) rfl (by kernel_rfl) (λ_ _ _ i=>i) (by rfl) (by assumption) ?_ ?_;rotate_left
    .intro c b2;(try dsimp only at b2);go_simp;(try with_reducible rfl)
    (try simp only[aL,aM,List.set]);refine cQ (by kernel_rfl) rfl λa7 H=>?_;go_simp;refine H.out _ _ ?_;clear H a7;(try simp only[aL,aM,List.set]);obtain⟨g,a2⟩:∃g,g=dn c9 (c.heap.size+1) E:=⟨_,rfl⟩;rw[<-a2];have a8:U (hT (gT c) d (ib d c) a l n u (.slice ad a.length S) { a3 with F:=cM a3.F (bB h).1 h } g):=by rw[a2];exact e2
    have g8:U (bn ((gT c).aC u).X e3 g):=by rw[a2];exact d4
    clear e2 d4 f8 a2 i7 d8 d3;have i5:∀E,(g.alloc E).ownsRow (ib d c).heap.size 157 1 (.slice ad a.length S) a.length (iU a l):=λE=>a8.j.i9 E;have l2:(ib d c).heap.size<=g.heap.size:=a8.j.kp.a2;have i3:a.length+1<=maxLen:=by unfold maxLen;omega
    have o:(a.length+1)*16<=140737488355328:=by omega
    have j0:Value.nilIface.cells.size=1:=rfl;go_wp2_with (first
     |(at_builtin;refine wpList_append_lies _ (by rfl) _ _ _ (by rfl) (ib d c).heap.size 157 j1 _ 1 16 underlying99 i1 i8 i9 g1 j0 (by omega) (.slice ad a.length S) a.length (iU a l) (by rfl) (i5 _) ⟨g.heap.size,0,none⟩ 1 1 [.iface (cE h) (.pointer (some ⟨a9,0,none⟩))] (by rfl) (by rfl) (World.news_of_block (cs:=#[.iface (cE h) (.pointer (some ⟨a9,0,none⟩))]) (t:=157) (fr:=(0,0)) (heap_alloc_new g _)) (by simp[Value.oneCell']) (by omega) i3 o (by simp;omega) (g.heap.size+1) (by simp) ?_;intro e4 k1 l6 i6 i0 h8 f5))
    have h3:=Z (FB m.j a8.j d2.j g8.j ((Below.refl g.heap.size g).alloc (Y4 _) _) i6 i0 (by simpa using h8) f5);have g4:U (ec d 69 [] eP=ec d (69-(a++[h]).length) (a++[h]) { a3 with F:=cM a3.F (bB h).1 h }):=by
     have C:=g3.j;rw[show 68-a.length=69-(a++[h]).length by simp]at C;exact C
    exact⟨⟨a++[h],l++[a9],n++e3,e4::u,_,h2,h3,g4⟩,by simp[uW];omega⟩
end
def Ey(a:Nat)(b:World):Calls prog 43 #[.iface 143 (.pointer (some ⟨a,0,none⟩))] b λc d=>c=.returned (.iface 143 (.pointer (some ⟨a,0,none⟩)))/\d=b:=by
 have f:=mC 143 a 20 143 λe=>by kernel_rfl
 go_in;go_wp2;go_ret;exact⟨rfl,rfl⟩
def Js(a:Nat):List UInt8:=
 if((a:Int)==0)then [105,110,116]else if((a:Int)==1)then [117,110,115,105,103,110,101,100]else if((a:Int)==2)then [104,121,112,101,114]else if((a:Int)==3)then [117,110,115,105,103,110,101,100,32,104,121,112,101,114]else [98,111,111,108]
def ik:Ty->List UInt8
 |.named b _=>b
 |.plain a=>Js a
 |_=>[118,111,105,100]
section
variable {a d:List (Nat×Obj)}{c b:Type}
structure dg where
 iy:Int
 h9:Int
 j9:Option (List Int)
 c2:Bool
inductive dh where
 |hole
 |call (dest:Nat)
 |ret
 |fin
 |jump (dest:Nat)
 |num (n:dg)
 |text (n:Int) (f:Bool)
 |struct (n:Int) (f:Bool)
 |array (n:Int) (f:Bool) (dest:Nat)
 |again
 |choice (n:dg) (ways:List (Int×Nat×Nat)) (other:Option (Nat×Nat))
def bF[DecidableEq b](d:List (b×c))(a:b)(v:c):List (b×c):=if a∈d.map (·.1)then d.map λe=>if e.1=a then (a,v)else e else d++[(a,v)]
def Lp[DecidableEq b](a:List (b×c))(d:b)(v:c):(bF a d v).map (·.1)=if d∈a.map (·.1)then a.map (·.1)else a.map (·.1)++[d]:=by
 unfold bF;split
 .rw[List.map_map];apply List.map_congr_left;intro f _;simp only[Function.comp];split
  .rename_i e;exact e.symm
  .rfl
 .simp
def pW[DecidableEq b]{e:List (b×c)}(a:(e.map (·.1)).Nodup)(i:b)(v:c):((bF e i v).map (·.1)).Nodup:=by
 rw[Lp];split
 .exact a
 .rename_i h;rw[YJ];refine⟨a,by simp,?_⟩;intro j g k d f;simp at d;subst d;subst f;exact h g
structure aU where
 ag:List dh
 d2:List (List UInt8×Nat)
 e8:List (List UInt8×dg)
 bk:List (Nat×List UInt8)
def bf(b:dh)(a:aU):aU:={ a with ag:=a.ag++[b] }
def dC(b:Nat)(c:dh)(a:aU):aU:={ a with ag:=a.ag.set b c }
def mb(b:List UInt8)(a:aU):aU:={ a with ag:=a.ag++[.call 0],bk:=a.bk++[(a.ag.length,b)] }
def yS(a:List UInt8)(b:aU):aU:=bf .fin (mb a b)
def eg(a:Nat):dg:=if a=0 then ⟨-2147483648,2147483647,none,false⟩else if a=1 then ⟨0,4294967295,none,false⟩else if a=4 then ⟨0,1,none,false⟩else ⟨-9223372036854775808,9223372036854775807,none,true⟩
def iM:Ty->Prop
 |.arr _ _ _=>False
 |.opt _=>False
 |_=>True
def gB:Ty->Prop
 |.arr a _ _=>iM a
 |.opt a=>iM a
 |_=>True
def dt:Ty->aU->aU
 |.named f _,a=>mb f a
 |.plain e,a=>bf (.num (eg e)) a
 |.opaq c b,a=>bf (.text c b) a
 |.str c b,a=>bf (.text c b) a
 |.arr d c b,a=>dC a.ag.length (.array c b ((dt d (bf .hole a)).ag.length+1)) (bf .again (dt d (bf .hole a)))
 |.opt d,a=>dC a.ag.length (.choice (eg 4) [(0,(dt d (bf .hole a)).ag.length,0),(1,a.ag.length+1,1)] none) (dt d (bf .hole a))
 |.void,a=>a
def wx:dg:=⟨0,0,none,false⟩
def nH(b:aU):Ty->dg
 |.named c _=>(az b.e8 c).getD wx
 |.plain a=>eg a
 |_=>wx
def tl:Ty->Bool
 |.void=>true
 |_=>false
def fd(a:aG)(b:aU):Nat×Nat:=(b.ag.length,if tl a.L then 0 else 1)
def kC(a:aG)(b:aU):aU:=dt a.L b
def kb(a:List (List UInt8×Nat×Int)):dg:=⟨-2147483648,2147483647,if a=[]then none else some (a.map (·.2.2)),false⟩
def zd(b:List aG)(a:aU):aU:=b.foldl (λa c=>dt c.L a) (bf (.struct b.length true) a)
structure mO where
 s:aU
 d4:List (Int×Nat×Nat)
 g2:Option (Nat×Nat)
 c1:List Nat
def fo(q:mO)(a:List Int×aG):mO:=
 { s:=bf (.jump 0) (kC a.2 q.s),d4:=a.1.foldl (λb c=>bF b c (fd a.2 q.s)) q.d4,g2:=if a.1=[]then some (fd a.2 q.s)else q.g2,c1:=q.c1++[(kC a.2 q.s).ag.length] }
def hX(c:List Nat)(a:aU):aU:=c.foldl (λa b=>dC b (.jump a.ag.length) a) a
def tZ(d:aG)(c:List (List Int×aG))(b:aU):aU:=
 let a:=c.foldl fo ⟨bf .hole b,[],none,[]⟩
 hX a.c1 (dC b.ag.length (.choice (nH b d.L) a.d4 a.g2) a.s)
def rc(c:List UInt8)(b:Nat)(a:aU):aU:={ bf .ret a with d2:=bF a.d2 c b }
def jW(c:ao)(a:aU):aU:=match c with
 |.typedef c=>rc c.t a.ag.length (dt c.L a)
 |.enum b _ d=>rc b a.ag.length (bf (.num (kb d)) { a with e8:=bF a.e8 b (kb d) })
 |.struct b _ d=>rc b a.ag.length (zd d a)
 |.union b _ f e=>rc b a.ag.length (tZ f e a)
 |_=>a
def rG(a:aU):aU:=a.bk.foldl (λa b=>dC b.1 (.call ((az a.d2 b.2).getD 0)) a) a
def lK:aU:=⟨[],[],[],[]⟩
def el(p:aU×List (List UInt8×Nat))(a:ao):aU×List (List UInt8×Nat):=
 if(az p.1.d2 (bB a).1).isSome then (yS (bB a).1 p.1,bF p.2 (bB a).1 p.1.ag.length)else p
def nJ(b:Ty)(a:aU):aU:=bf .fin (dt b a)
def cJ(a:Int):Int:=a % 4294967296
def iF(b:aU×List (Int×Nat×Nat))(a:eu):aU×List (Int×Nat×Nat):=
 (nJ a.dr (nJ a.c4 b.1),bF b.2 (cJ a.num) (b.1.ag.length,(nJ a.c4 b.1).ag.length))
def oU(v:eJ)(a:aU):aU×List (Int×Nat×Nat):=v.ak.foldl iF (a,[])
structure jp where
 lo:Int
 hi:Int
 vs:List (Int×List (Int×Nat×Nat))
def kT(a:aU×jp)(v:eJ):aU×jp:=
 ((oU v a.1).1,⟨min a.2.lo (cJ v.num),max a.2.hi (cJ v.num),bF a.2.vs (cJ v.num) (oU v a.1).2⟩)
def qi(a:List eJ)(b:aU):aU×jp:=
 a.foldl kT (b,⟨(a.head?.map λv=>cJ v.num).getD 0,(a.head?.map λv=>cJ v.num).getD 0,[]⟩)
def gL(q:aU×List (Int×jp))(b:ao):aU×List (Int×jp):=match b with
 |.prog _ _ a c=>((qi a q.1).1,bF q.2 (cJ c) (qi a q.1).2)
 |_=>q
def Ds(a:List ao):aU×List (List UInt8×Nat):=a.foldl el (a.foldl (λc b=>jW b c) lK,[])
def yC(a:List ao):aU×List (Int×jp):=a.foldl gL ((Ds a).1,[])
def wt(a:List ao):List dh×List (List UInt8×Nat):=((rG (yC a).1).ag,(Ds a).2)
def kK(a:List (Value×Value)):Obj:=.map (a.mapIdx λc b=>⟨b.1,b.2,c⟩).toArray a.length
abbrev rC(a:Nat):Value:=.int .i64 a
def jH(b:List (Int×Nat×Nat)):Obj:=kK (b.map λa=>(.int .i64 a.1,.agg #[.int .i64 a.2.1,.int .i64 a.2.2]))
def jB(b:List (List UInt8×Nat)):Obj:=kK (b.map λa=>(.string ⟨a.1.toArray⟩,.int .i64 a.2))
def wE(a:List (Nat×Obj))(v:Value):Option (List Int)->Prop
 |none=>v=.slice none 0 0
 |some b=>b≠[]/\fy a 2 v b.length (b.map λc=>Value.int .i64 c)
def iO(a:List (Nat×Obj))(g:List Value)(b:dg):Prop:=∃c,g=[.int .i64 b.iy,.int .i64 b.h9,c,.bool b.c2]/\wE a c b.j9/\∃d e f,c=.slice d e f
def sx(a:List (Nat×Obj))(v:Value):Option (Nat×Nat)->Prop
 |none=>v=.pointer none
 |some c=>∃b,v=.pointer (some ⟨b,0,none⟩)/\(b,Obj.cells #[.int .i64 c.1,.int .i64 c.2] 394)∈a
def jr(a:List (Nat×Obj))(v:Value):dh->Prop
 |.hole=>∃h k,v=.iface h k
 |.call d=>v=.iface 271 (.agg #[.int .i64 d])
 |.ret=>v=.iface 257 (.agg #[])
 |.fin=>v=.iface 397 (.agg #[])
 |.jump d=>v=.iface 396 (.agg #[.int .i64 d])
 |.num b=>∃c,v=.iface 247 (.agg c.toArray)/\iO a c b
 |.text b e=>v=.iface 379 (.agg #[.int .i64 b,.bool e])
 |.struct b e=>v=.iface 387 (.agg #[.int .i64 b,.bool e])
 |.array b e d=>v=.iface 449 (.agg #[.int .i64 b,.bool e,.int .i64 d])
 |.again=>v=.iface 450 (.agg #[])
 |.choice b j i=>∃c f g,v=.iface 392 (.agg (c++[.map (some f),g]).toArray)/\iO a c b/\(f,jH j)∈a/\sx a g i
def fy.a4(n:∀o∈a,o∈d){c:TypeId}{v:Value}{e:Nat}{f:List Value}(b:fy a c v e f):fy d c v e f:=by
 rcases b with b|⟨i,g,h,j,k,l,m⟩
 .exact Y8 b
 .exact Ya ⟨i,g,h,j,k,n _ l,m⟩
def iO.a4(j:∀l∈a,l∈d){e:List Value}{c:dg}(g:iO a e c):iO d e c:=by
 obtain⟨k,h,b,i⟩:=g;refine⟨k,h,?_,i⟩;cases f:c.j9 with
 |none=>rw[f]at b;exact b
 |some m=>rw[f]at b;exact⟨b.1,b.2.a4 j⟩
def jr.a4(b:∀r∈a,r∈d){v:Value}{h:dh}(e:jr a v h):jr d v h:=by
 cases h with
 |num o=>obtain⟨c,f,g⟩:=e;exact⟨c,f,g.a4 b⟩
 |choice o t p=>
  obtain⟨c,n,q,f,g,k,i⟩:=e;refine⟨c,n,q,f,g.a4 b,b _ k,?_⟩;cases p with
  |none=>exact i
  |some s=>obtain⟨j,l,m⟩:=i;exact⟨j,l,b _ m⟩
 |_=>exact e
def jr.o6{v:Value}{x:dh}(b:jr a v x):∃d g,v=.iface d g:=by
 cases x with
 |hole=>exact b
 |num f=>obtain⟨e,c,_⟩:=b;exact⟨_,_,c⟩
 |choice f k i=>obtain⟨e,h,j,c,_⟩:=b;exact⟨_,_,c⟩
 |_=>exact⟨_,_,b⟩
end
end Go.Proofs.YtjdhaegijjednaaGreatDoor
namespace Go.Proofs.YtjdhaegijjednaaGreatDoor
open Go.Proofs.Tryz
section
def hA(b:List ao):aU:=b.foldl (λs a=>jW a s) lK
def GJ(b:List ao)(a:ao):hA (b++[a])=jW a (hA b):=by simp[hA]
def hP(s:aU):Prop:=∀a∈s.bk,a.1<s.ag.length
variable {s : aU}
def jt(a:hP s)(d:dh):hP (bf d s):=λc b=>by
 have:=a c b;simp[bf];omega
def uE(a:hP s)(c:Nat)(e:dh):hP (dC c e s):=λd b=>by
 simp only[dC,YF];exact a d b
def Al(b:hP s)(d:List UInt8):hP (mb d s):=λc a=>by
 simp only[mb,Yn,Yc,Yq,YC,List.length_nil]at a ⊢;rcases a with a|rfl
 .have:=b c a;omega
 .simp
def sN:∀(c:Ty) (s:aU),hP s->hP (dt c s):=by
 intro c;induction c with
 |plain h=>intro s a;exact jt a _
 |named i g=>intro s a;exact Al a _
 |opaq e d=>intro s a;exact jt a _
 |str e d=>intro s a;exact jt a _
 |arr f e d b=>intro s a;exact uE (jt (b _ (jt a _)) _) _ _
 |opt f b=>intro s a;exact uE (b _ (jt a _)) _ _
 |void=>intro s a;exact a
def oj{h d:Type}(b:d->aU)(g:d->h->d)(i:∀a e,hP (b a)->hP (b (g a e))):∀(c:List h) (a:d),hP (b a)->hP (b (c.foldl g a)):=by
 intro c;induction c with
 |nil=>intro a f;exact f
 |cons e c j=>intro a f;exact j _ (i a e f)
def Gk(h:ao)(s:aU)(b:hP s):hP (jW h s):=by
 have f:∀{m:aU} (l:List UInt8) (a:Nat),hP m->hP (rc l a m):=λl a p=>jt p .ret;cases h with
 |const a c o=>exact b
 |prog a c o g=>exact b
 |typedef h=>exact f _ _ (sN _ _ b)
 |enum j a i=>exact f _ _ (jt (s:={ s with e8:=bF s.e8 j (kb i) }) b _)
 |struct j a i=>exact f _ _ (oj (λk=>k) (λs (e:aG)=>dt e.L s) (λc (e:aG) d=>sN e.L c d) i _ (jt b _))
 |union j a q n=>exact f _ _ (oj (λk=>k) (λs (g:Nat)=>dC g (.jump s.ag.length) s) (λc g d=>uE d g _) _ _ (uE (oj mO.s fo (λc e d=>jt (sN e.2.L _ d) _) n _ (jt b _)) _ _))
def Ng{ds:List ao}:hP (yC ds).1:=by
 refine oj Prod.fst gL (λc b a=>?_) ds _ (oj Prod.fst el (λc b a=>?_) ds _ (oj (λf=>f) (λs (b:ao)=>jW b s) (λc b a=>Gk b c a) ds _ (λi d=>by simp[lK]at d)))
 .cases b with
  |prog g h e j=>exact oj Prod.fst kT (λc v a=>oj Prod.fst iF (λc k a=>jt (sN _ _ (jt (sN _ _ a) _)) _) v.ak _ a) e _ a
  |_=>exact a
 .unfold el;split
  .exact jt (Al a _) _
  .exact a
end
end Go.Proofs.YtjdhaegijjednaaGreatDoor
namespace Go.Proofs.YtjdhaegijjednaaGreatDoor
open Go.RowKit
open Go.MapKept
open Go.Proofs.Tryz
section
variable {T et kt:TypeId}{d:TypeDesc}{f e:Type}
section
variable {P : Program} {w : World}
def OV(u:P.underlying T=some (.map kt et))(m:P.underlying kt=some d){a:Value}(n:IsKey d a)(t:Instr.keyThatStays a a=pure a){h:Nat}{c:Array MapEntry}{i:Nat}
  (l:w.heap[h]? = some (.map c i)) (q:∀f∈c.toList,IsKey d f.key) (r:∃f∈c.toList,f.key=a) (v:Value) :
  ∃(e:Nat) (b:MapEntry),c.toList[e]? = some b/\b.key=a/\
   (Instr.mapUpdate T (.map (some h)) a v).run P w=.ok () (dn w h (.map (c.modify e λb=>{ b with key:=a,val:=v }) i)):=by
 have p:=λo=>MapKept.run_checkKey (w:=w) m n o 9999;rcases findNow_spec n c.toList 0 q with⟨j,g⟩|⟨e,b,j,g,k⟩
 .obtain⟨f,x,y⟩:=r;exact absurd y (g f x)
 .refine⟨e,b,g,k,?_⟩;have s:c[e]? = some b:=by simpa using g
  simp[Instr.mapUpdate,Instr.findKey,run_underlying u,run_underlying m,MapKept.run_getObj_map l,p,j,s,k,t,MapKept.run_setObj_map _ l,Result.andThen]
def yT(a:ByteArray):Instr.keyThatStays (.string a) (.string a)=pure (.string a):=by
 unfold Instr.keyThatStays;rw[Y9 (by show (a==a)=true;exact(MapKept.bytes_beq a a).2 rfl)]
def PJ(a:Int):Instr.keyThatStays (.int .i64 a) (.int .i64 a)=pure (.int .i64 a):=by
 unfold Instr.keyThatStays;rw[Y9 (by show ((IntKind.i64==IntKind.i64)&&(a==a))=true;simp)]
def pT[DecidableEq e](H:P.underlying T=some (.map kt et))(F:P.underlying kt=some d)(h:e->Value)(i:f->Value)(u:∀c,IsKey d (h c))(J:∀c,Instr.keyThatStays (h c) (h c)=pure (h c))(D:∀o B,h o=h B->o=B)
  {l:Nat} {a:List (e×f)} (E:w.heap[l]? = some (kK (a.map λg=>(h g.1,i g.2)))) (I:(a.map (·.1)).Nodup) (c:e) (v:f) :
  (Instr.mapUpdate T (.map (some l)) (h c) (i v)).run P w=.ok () (dn w l (kK ((bF a c v).map λg=>(h g.1,i g.2)))):=by
 have G:∀A∈((a.map λg=>(h g.1,i g.2)).mapIdx λb g=>(⟨g.1,g.2,b⟩:MapEntry)).toArray.toList,IsKey d A.key:=by
  intro A n;simp only[List.toList_toArray]at n;obtain⟨b,k,rfl⟩:=List.mem_mapIdx.1 n;simp only[List.getElem_map];exact u _
 by_cases p:c∈a.map (·.1)
 .obtain⟨g,O,r⟩:=YE.1 p;obtain⟨b,k,rfl⟩:=List.getElem_of_mem O;obtain⟨s,m,j,C,y⟩:=OV H F (u c) (J c) E G ⟨⟨h a[b].1,i a[b].2,b⟩,by
    simp only[List.toList_toArray];rw[List.mem_mapIdx];exact⟨b,by simpa using k,by simp⟩,by simp[r]⟩ (i v)
  rw[y];simp only[List.toList_toArray,List.getElem?_mapIdx]at j;have q:s<a.length:=by
   by_cases q:s<a.length
   .exact q
   .rw[YA (by simp;omega)]at j;cases j
  rw[Yd (by simpa using q)]at j;simp at j;subst j;simp only at C;have K:b=s:=by
   have R:(a.map (·.1))[b]'(by simpa using k)=(a.map (·.1))[s]'(by simpa using q):=by simp[r,D _ _ C]
   exact tB I _ _ _ _ R
  subst K;refine Yo (λz=>Result.ok () (dn w l z)) ?_;unfold kK bF;rw[Y9 p];simp only[YU];refine Yo (λo=>Obj.map o _) ?_;apply Array.ext';simp only[Array.toList_modify];apply List.ext_getElem
  .simp
  .intro t S M;have L:t<a.length:=by simp at M;omega
   by_cases x:b=t
   .subst x;simp[List.getElem_modify,r]
   .have N:¬a[t].1=c:=λm=>x (tB I b t (by simpa using k) (by simpa using L) (by simp[r,m]));simp[List.getElem_modify,x,N]
 .have y:=vL H F (u c) E G (by
   intro A n m;simp only[List.toList_toArray]at n;obtain⟨b,k,rfl⟩:=List.mem_mapIdx.1 n;simp only[List.getElem_map]at m;exact p (YE.2 ⟨a[b]'(by simpa using k),Yy _,D _ _ m⟩)) (i v)
  rw[y];refine Yo (λz=>Result.ok () (dn w l z)) ?_;unfold kK bF;rw[Y2 p];simp[List.mapIdx_append]
def fS[DecidableEq e](b:List (e×f))(a:e):Option f:=(b.find? λc=>c.1==a).map (·.2)
def KC[DecidableEq e]{c:List (e×f)}{b:e}(d:∀a∈c,a.1≠b):fS c b=none:=by
 unfold fS;rw[List.find?_eq_none.2 (λa g=>by simp[d a g])];rfl
def KD[DecidableEq e]{b:List (e×f)}{d:e}(c:(b.map (·.1)).Nodup){g:e×f}(a:g∈b)(h:g.1=d):fS b d=some g.2:=by
 induction b with
 |nil=>cases a
 |cons l m k=>
  unfold fS;simp only[List.map_cons,List.nodup_cons]at c;rcases Yg.1 a with rfl|a
  .simp[h]
  .have j:l.1≠d:=λi=>c.1 (by rw[i,<-h];exact List.mem_map_of_mem a);have:=k c.2 a;unfold fS at this;simp only[List.find?_cons,Yi.2 j];exact this
def BA(a:List (List UInt8×f))(b:List UInt8):az a b=fS a b:=by
 unfold az fS;refine Yo (λc=>Option.map _ (List.find? c a)) ?_;funext d;rw[Bool.eq_iff_iff];simp only[beq_iff_eq]
def xU[DecidableEq e](F:P.underlying T=some (.map kt et))(C:P.underlying kt=some d)(g:e->Value)(i:f->Value)(s:∀j,IsKey d (g j))(A:∀o p,g o=g p->o=p)
  {n:Nat} {c:List (e×f)} (B:w.heap[n]? = some (kK (c.map λa=>(g a.1,i a.2)))) (H:(c.map (·.1)).Nodup) {z:Value} (G:(zeroValue et).run P w=.ok z w) (j:e) (k:Bool) :
  (Instr.lookup T (.map (some n)) (g j) k).run P w=.ok (match fS c j with
   |some v=>if k then .tuple #[i v,.bool true]else i v
   |none=>if k then .tuple #[z,.bool false]else z) w:=by
 have D:∀y∈((c.map λa=>(g a.1,i a.2)).mapIdx λh a=>(⟨a.1,a.2,h⟩:MapEntry)).toArray.toList,IsKey d y.key:=by
  intro y u;simp only[List.toList_toArray]at u;obtain⟨h,t,rfl⟩:=List.mem_mapIdx.1 u;simp only[List.getElem_map];exact s _
 rcases tp F C (s j) B D G k with⟨b,l⟩|⟨x,q,b,l,r⟩
 .rw[KC (λa E q=>?_),l];obtain⟨h,t,rfl⟩:=List.getElem_of_mem E;refine b ⟨g c[h].1,i c[h].2,h⟩ ?_ (by simp[q]);simp only[List.toList_toArray];rw[List.mem_mapIdx];exact⟨h,by simpa using t,by simp⟩
 .simp only[List.toList_toArray,List.getElem?_mapIdx]at b;have m:x<c.length:=by
   by_cases m:x<c.length
   .exact m
   .rw[YA (by simp;omega)]at b;cases b
  rw[Yd (by simpa using m)]at b;simp at b;subst b;simp only at l r;rw[KD H (Yy m) (A _ _ l),r]
end
def sd(a b:List UInt8)(c:(Value.string ⟨a.toArray⟩)=.string ⟨b.toArray⟩):a=b:=by
 simpa using c
def Jj(a b:Int)(c:(Value.int .i64 a)=.int .i64 b):a=b:=by
 simpa using c
structure dE(w:World)(b:List Nat)(Fr c:List (Nat×Obj))(a:World):Prop where
 kp:ai [] w a
 aQ:∀y∈b,w.heap.size<=y
 lt:∀y∈b,y<a.heap.size
 nd:b.Nodup
 hf:bn b Fr a
 hb:bn b c a
 f7:(Fr.map (·.1)).Nodup
 g5:∀p∈Fr,w.heap.size<=p.1
 g6:∀p∈Fr,∀q∈c,p.1≠q.1
section
variable {w a g : World} {b : List Nat} {Fr c : List (Nat × Obj)}
def dE.b6{i:List Nat}(d:dE w b Fr c a)(e:ai i a g)(h:∀f∈i,f∈b):dE w b Fr c g:=
 ⟨d.kp.ce e (λf j=>Ya (d.aQ f (h f j))),d.aQ,λl k=>Yr (d.lt l k) e.a2,d.nd,d.hf.O e h,d.hb.O e h,d.f7,d.g5,d.g6⟩
def dE.aA(d:dE w b Fr c a)(e:Below a.heap.size a g):dE w b Fr c g:=d.b6 (bt [] e) (by simp)
def wG{A B:List Nat}{r:Option Nat}{i:Nat}(e:dE w (A++(r.toList++B)) Fr c a)(E:a.grownBy g r)(u:r=some i\/i=a.heap.size)(G:i<g.heap.size)(H:w.heap.size<=i):dE w (A++([i]++B)) Fr c g:=by
 have F:=eL E;have m:=e.b6 F (λK k=>Ym _ (Yf _ k));have t:∀d∈A++([i]++B),d=i\/d∈A++(r.toList++B):=by
  intro d b;simp only[Yn,Yc]at b ⊢;rcases b with b|rfl|b
  .exact Ya (Y8 b)
  .exact Y8 rfl
  .exact Ya (Ya (Ya b))
 have x:∀q:List (Nat×Obj),bn (A++(r.toList++B)) q a->∀f∈q,f.1 ∉ A++([i]++B):=by
  intro q s f h k;rcases t _ k with l|k
  .rcases u with y|y
   .exact(s f h).2 (by rw[l,y];simp)
   .have:=aj (s f h).1;omega
  .exact(s f h).2 k
 refine⟨m.kp,?_,?_,?_,λf h=>⟨(m.hf f h).1,x _ e.hf f h⟩,λf h=>⟨(m.hb f h).1,x _ e.hb f h⟩,e.f7,e.g5,e.g6⟩
 .intro d b;rcases t d b with rfl|b
  .exact H
  .exact e.aQ d b
 .intro d b;rcases t d b with rfl|b
  .exact G
  .exact m.lt d b
 .rcases u with rfl|rfl
  .exact e.nd
  .have C:∀d∈A,d<a.heap.size:=λd b=>e.lt d (Yf _ b);have D:∀d∈B,d<a.heap.size:=λd b=>e.lt d (Ym _ (Ym _ b));have v:=e.nd;rw[YJ]at v ⊢;obtain⟨I,z,J⟩:=v;rw[YJ]at z;refine⟨I,?_,?_⟩
   .rw[YJ];refine⟨by simp,z.2.1,?_⟩;intro o n p j l;simp at n;have:=D p j;omega
   .intro o n p j l;rcases Yn.1 j with j|j
    .simp at j;have:=C o n;omega
    .exact J o n p (Ym _ j) l
def dE.G(e:dE w b Fr c a)(i:Obj):dE w b ((a.heap.size,i)::Fr) c (a.alloc i):=by
 have g:=e.b6 ((ah [] a).G i) (by simp);refine⟨g.kp,e.aQ,g.lt,e.nd,?_,g.hb,?_,?_,?_⟩
 .intro f d;rcases Yg.1 d with rfl|d
  .exact⟨aK rfl,λh=>by have:=e.lt _ h;simp at this⟩
  .exact g.hf f d
 .simp only[List.map_cons,List.nodup_cons];refine⟨?_,e.f7⟩;intro h;obtain⟨f,d,l⟩:=YE.1 h;have:=aj (e.hf f d).1;omega
 .intro f d;rcases Yg.1 d with rfl|d
  .exact e.kp.a2
  .exact e.g5 f d
 .intro f d k j;rcases Yg.1 d with rfl|d
  .have:=aj (e.hb k j).1;simp only;omega
  .exact e.g6 f d k j
def dE.g3{f:Nat}{o r:Obj}(d:dE w b ((f,o)::Fr) c a)(l:ai [f] a g)(t:g.heap[f]? = some r):dE w b ((f,r)::Fr) c g:=by
 have p:w.heap.size<=f:=d.g5 (f,o) (by simp);have q:=d.f7;simp only[List.map_cons,List.nodup_cons]at q;have s:f ∉ b:=(d.hf (f,o) (by simp)).2;refine⟨d.kp.ce l (by simpa using p),d.aQ,λv u=>Yr (d.lt v u) l.a2,d.nd,?_,?_,d.f7,?_,?_⟩
 .intro j e;rcases Yg.1 e with rfl|e
  .exact⟨t,s⟩
  .obtain⟨h,n⟩:=d.hf j (Y5 _ e);exact⟨(l.K _ (aj h) (by simp;exact λm=>q.1 (m▸List.mem_map_of_mem e))).trans h,n⟩
 .intro k i;obtain⟨h,n⟩:=d.hb k i;exact⟨(l.K _ (aj h) (by simp;exact λm=>d.g6 (f,o) (by simp) k i m.symm)).trans h,n⟩
 .intro j e;rcases Yg.1 e with rfl|e
  .exact p
  .exact d.g5 j (Y5 _ e)
 .intro j e k i;rcases Yg.1 e with rfl|e
  .exact d.g6 (f,o) (by simp) k i
  .exact d.g6 j (Y5 _ e) k i
def dE.h7{j:Nat}{k:Obj}(d:dE w b ((j,k)::Fr) c a):dE w b Fr ((j,k)::c) a:=by
 have g:=d.f7;simp only[List.map_cons,List.nodup_cons]at g;refine⟨d.kp,d.aQ,d.lt,d.nd,λf e=>d.hf f (Y5 _ e),?_,g.2,λf e=>d.g5 f (Y5 _ e),?_⟩
 .intro f e;rcases Yg.1 e with rfl|e
  .exact d.hf _ (by simp)
  .exact d.hb f e
 .intro f e l h;rcases Yg.1 h with rfl|h
  .intro i;simp only at i;exact g.1 (by rw[<-i];exact List.mem_map_of_mem e)
  .exact d.g6 f (Y5 _ e) l h
def dE.cc{Fr':List (Nat×Obj)}(e:dE w b Fr c a)(g:∀d∈Fr',d∈Fr)(h:(Fr'.map (·.1)).Nodup):dE w b Fr' c a:=
 ⟨e.kp,e.aQ,e.lt,e.nd,λd f=>e.hf d (g d f),e.hb,h,λd f=>e.g5 d (g d f),λd f=>e.g6 d (g d f)⟩
def dE.dA{f:Nat×Obj}(d:dE w b (f::Fr) c a):dE w b Fr c a:=d.cc (λ_ e=>Y5 _ e) (List.nodup_cons.1 d.f7).2
end
end
section
def ye{e d h:Type}[DecidableEq e](b:d->h)(c:List (e×d))(f:e)(v:d):(bF c f v).map (λa=>(a.1,b a.2))=bF (c.map λa=>(a.1,b a.2)) f (b v):=by
 have g:(c.map λa=>(a.1,b a.2)).map (·.1)=c.map (·.1):=by rw[List.map_map];rfl
 unfold bF;rw[g];split
 .rw[List.map_map,List.map_map];apply List.map_congr_left;intro a _;simp only[Function.comp];split<;>rfl
 .simp
def yf{b d:Type}[DecidableEq b]{f:List (b×d)}{e:b}{v:d}{c:b×d}(a:c∈bF f e v):c∈f\/c=(e,v):=by
 unfold bF at a;split at a
 .obtain⟨h,g,rfl⟩:=YE.1 a;split
  .exact Ya rfl
  .exact Y8 g
 .rcases Yn.1 a with a|a
  .exact Y8 a
  .exact Ya (by simpa using a)
def KA{c g:Type}[DecidableEq c]{f:List (c×g)}{e:c}{v:g}(b:fS f e=some v):∃a∈f,a.1=e/\a.2=v:=by
 unfold fS at b;rw[Option.map_eq_some_iff]at b;obtain⟨a,d,rfl⟩:=b;exact⟨a,List.mem_of_find?_eq_some d,by simpa using List.find?_some d,rfl⟩
structure eU where
 C:Nat
 B:Nat
 E:Nat
def ft(a:eU)(b ks:Value):List Nat:=[a.C,a.B,a.E]++(b.ownBlock.toList++ks.ownBlock.toList)
abbrev lg(a:Nat×List UInt8):List Value:=[.int .i64 a.1,.string ⟨a.2.toArray⟩]
def un(c:List (Nat×Obj))(v:Value)(b:dg):Prop:=∃a,v=.agg a.toArray/\iO c a b
structure Cp(w:World)(a:eU)(Fr c:List (Nat×Obj))(s:aU)(b ks:Value)(e:List (dh×Value))(et:List (List UInt8×dg×Value))(u:World):Prop where
 ax:dE w (ft a b ks) Fr c u
 aD:u.heap[a.C]? = some (.cells #[b,.map (some a.B),.map (some a.E),ks] 167)
 f5:u.heap[a.B]? = some (jB s.d2)
 h5:(s.d2.map (·.1)).Nodup
 fI:u.heap[a.E]? = some (kK (et.map λp=>(.string ⟨p.1.toArray⟩,p.2.2)))
 h1:(et.map (·.1)).Nodup
 i4:s.e8=et.map λp=>(p.1,p.2.1)
 i5:∀p∈et,un c p.2.2 p.2.1
 row:u.ownsRow w.heap.size 273 1 b s.ag.length (e.map (·.2))
 h6:s.ag=e.map (·.1)
 iR:∀p∈e,jr c p.2 p.1
 id:u.ownsRow w.heap.size 269 2 ks s.bk.length (s.bk.flatMap lg)
def cL(w:World)(a:eU)(Fr c:List (Nat×Obj))(s:aU)(u:World):Prop:=∃d b ks e et,(∀f∈c,f∈d)/\Cp w a Fr d s b ks e et u
section
variable {w u f : World} {a : eU} {Fr c : List (Nat × Obj)} {s : aU} {b ks : Value} {e : List (dh × Value)} {et : List (List UInt8 × dg × Value)}
def Cp.c9(d:Cp w a Fr c s b ks e et u):cL w a Fr c s u:=⟨c,b,ks,e,et,λ_ f=>f,d⟩
def Mr(a:eU)(b ks:Value):a.C∈ft a b ks/\a.B∈ft a b ks/\a.E∈ft a b ks/\(∀c,b.ownBlock=some c->c∈ft a b ks)/\(∀c,ks.ownBlock=some c->c∈ft a b ks):=by
 unfold ft;refine⟨by simp,by simp,by simp,?_,?_⟩<;>(intro c d;simp[d])
def Cp.i3(k:Cp w a Fr c s b ks e et u):a.C≠a.B/\a.C≠a.E/\a.B≠a.E/\(∀d,b.ownBlock=some d->d≠a.C/\d≠a.B/\d≠a.E)/\(∀d,ks.ownBlock=some d->d≠a.C/\d≠a.B/\d≠a.E/\b.ownBlock≠some d):=by
 have j:=k.ax.nd;unfold ft at j;rw[YJ,YJ]at j;obtain⟨i,⟨m,n,l⟩,h⟩:=j;simp only[List.nodup_cons,Yg,List.not_mem_nil,not_or,or_false]at i;refine⟨i.1.1,i.1.2,i.2.1,?_,?_⟩
 .intro d g;refine⟨λf=>h a.C (by simp) d (by simp[g]) f.symm,λf=>h a.B (by simp) d (by simp[g]) f.symm,λf=>h a.E (by simp) d (by simp[g]) f.symm⟩
 .intro d g;refine⟨λf=>h a.C (by simp) d (by simp[g]) f.symm,λf=>h a.B (by simp) d (by simp[g]) f.symm,λf=>h a.E (by simp) d (by simp[g]) f.symm,λf=>l d (by simp[f]) d (by simp[g]) rfl⟩
def Cp.hU{p:List Nat}{o k:List (Nat×Obj)}(d:Cp w a Fr c s b ks e et u)(i:ai p u f)(h:∀y∈p,y ∉ ft a b ks)(q:∀j∈c,j∈k)(x:dE w (ft a b ks) o k f):Cp w a o k s b ks e et f:=by
 obtain⟨z,A,B,C,D⟩:=Mr a b ks;refine⟨x,(i.K _ (aj d.aD) (λg=>h _ g z)).trans d.aD,(i.K _ (aj d.f5) (λg=>h _ g A)).trans d.f5,d.h5,(i.K _ (aj d.fI) (λg=>h _ g B)).trans d.fI,d.h1,d.i4,
  λj n=>?_,aY d.row i (λl m g=>h _ g (C l m)),d.h6,λj n=>(d.iR j n).a4 q,aY d.id i (λl m g=>h _ g (D l m))⟩
 obtain⟨r,t,v⟩:=d.i5 j n;exact⟨r,t,v.a4 q⟩
def Cp.aA(d:Cp w a Fr c s b ks e et u)(g:Below u.heap.size u f):Cp w a Fr c s b ks e et f:=d.hU (bt [] g) (by simp) (λ_ h=>h) (d.ax.aA g)
def Cp.G(f:Cp w a Fr c s b ks e et u)(d:Obj):Cp w a ((u.heap.size,d)::Fr) c s b ks e et (u.alloc d):=f.hU ((ah [] u).G d) (by simp) (λ_ g=>g) (f.ax.G d)
def Cp.g3{d:Nat}{o i:Obj}(g:Cp w a ((d,o)::Fr) c s b ks e et u)(h:ai [d] u f)(j:f.heap[d]? = some i):Cp w a ((d,i)::Fr) c s b ks e et f:=
 g.hU h (by simpa using (g.ax.hf (d,o) (by simp)).2) (λ_ k=>k) (g.ax.g3 h j)
def Cp.h7{f:Nat}{g:Obj}(d:Cp w a ((f,g)::Fr) c s b ks e et u):Cp w a Fr ((f,g)::c) s b ks e et u:=d.hU (ah [] u) (by simp) (λ_ h=>Y5 _ h) d.ax.h7
def Cp.dA{g:Nat×Obj}(d:Cp w a (g::Fr) c s b ks e et u):Cp w a Fr c s b ks e et u:=d.hU (ah [] u) (by simp) (λ_ f=>f) d.ax.dA
def Cp.cc{Fr':List (Nat×Obj)}(d:Cp w a Fr c s b ks e et u)(h:∀i∈Fr',i∈Fr)(f:(Fr'.map (·.1)).Nodup):Cp w a Fr' c s b ks e et u:=d.hU (ah [] u) (by simp) (λ_ g=>g) (d.ax.cc h f)
def Cp.dG(f:Cp w a Fr c s b ks e et u):∃ad d,b=.slice ad s.ag.length d:=by
 rcases f.row.2 with⟨rfl,g⟩|⟨i,d,h,rfl,_⟩
 .exact⟨none,0,by rw[g]⟩
 .exact⟨_,_,rfl⟩
def Cp.m2(f:Cp w a Fr c s b ks e et u):∃ad d,ks=.slice ad s.bk.length d:=by
 rcases f.id.2 with⟨rfl,g⟩|⟨i,d,h,rfl,_⟩
 .exact⟨none,0,by rw[g]⟩
 .exact⟨_,_,rfl⟩
def Cp.am(d:Cp w a Fr c s b ks e et u):u.cell? ⟨a.C,0,none⟩=some b/\u.cell? ⟨a.C,1,none⟩=some (.map (some a.B))/\u.cell? ⟨a.C,2,none⟩=some (.map (some a.E))/\u.cell? ⟨a.C,3,none⟩=some ks/\(∀f,u.frozen? ⟨a.C,f,none⟩=false)/\a.C<u.heap.size:=by
 refine⟨?_,?_,?_,?_,?_,aj d.aD⟩<;>simp[World.cell?,World.frozen?,d.aD]
def EB{x j:World}{g l:Nat}{y:dh}{v:Value}(h:Cp w a Fr c s b ks e et u)(L:jr c v y)(o:Below u.heap.size u x)
  (G:j.ownsRow w.heap.size 273 1 (.slice (some ⟨g,0,none⟩) (s.ag.length+1) l) (s.ag.length+1) (e.map (·.2)++[v]))
  (p:x.grownBy j b.ownBlock) (I:b.ownBlock=some g\/g=x.heap.size) (J:g<j.heap.size) :
  Cp w a Fr c (bf y s) (.slice (some ⟨g,0,none⟩) (s.ag.length+1) l) ks (e++[(y,v)]) et (j.setCell ⟨a.C,0,none⟩ (.slice (some ⟨g,0,none⟩) (s.ag.length+1) l)):=by
 obtain⟨K,_⟩:=gK G (g:=g) rfl;have f:=h.aA o;obtain⟨P,R,S,H,z⟩:=h.i3;have F:dE w (ft a (.slice (some ⟨g,0,none⟩) (s.ag.length+1) l) ks) Fr c j:=wG (A:=[a.C,a.B,a.E]) (B:=ks.ownBlock.toList) f.ax p I J K;have m:ai [a.C] j (j.setCell ⟨a.C,0,none⟩ (.slice (some ⟨g,0,none⟩) (s.ag.length+1) l)):=(ah [a.C] j).a6 (by simp) _;have q:=eL p;have t:∀d,d=a.C\/d=a.B\/d=a.E->d ∉ b.ownBlock.toList:=by
  intro d o r;have:=H d (by simpa using r);omega
 have O:∀d,ks.ownBlock=some d->d ∉ b.ownBlock.toList:=by
  intro d o r;exact(z d o).2.2.2 (by simpa using r)
 have M:g≠a.C:=by
  have:=F.nd;simp[ft,Value.ownBlock]at this;omega
 refine⟨F.b6 m (by simp[ft]),bv (i:=0) ((q.K _ (aj f.aD) (t _ (Y8 rfl))).trans f.aD) _,?_,h.h5,?_,h.h1,h.i4,h.i5,?_,?_,?_,?_⟩
 .exact(m.K _ (by have:=aj f.f5;have:=p.size;omega) (by simp;omega)).trans ((q.K _ (aj f.f5) (t _ (Ya (Y8 rfl)))).trans f.f5)
 .exact(m.K _ (by have:=aj f.fI;have:=p.size;omega) (by simp;omega)).trans ((q.K _ (aj f.fI) (t _ (Ya (Ya rfl)))).trans f.fI)
 .have:=aY G m (by
   intro D n;simp only[Value.ownBlock,Yu]at n;subst n;simpa using M)
  simpa[bf]using this
 .simp[bf,h.h6]
 .intro N k;rcases Yn.1 k with k|k
  .exact h.iR N k
  .simp only[Yc]at k;subst k;exact L
 .exact aY (aY f.id q O) m (λD n=>by simpa using (z D n).1)
def EA{y j:World}{g l:Nat}{k:Nat×List UInt8}(h:Cp w a Fr c s b ks e et u)(o:Below u.heap.size u y)
  (F:j.ownsRow w.heap.size 269 2 (.slice (some ⟨g,0,none⟩) (s.bk.length+1) l) (s.bk.length+1) (s.bk.flatMap lg++lg k))
  (p:y.grownBy j ks.ownBlock) (D:ks.ownBlock=some g\/g=y.heap.size) (J:g<j.heap.size) :
  Cp w a Fr c { s with bk:=s.bk++[k] } b (.slice (some ⟨g,0,none⟩) (s.bk.length+1) l) e et (j.setCell ⟨a.C,3,none⟩ (.slice (some ⟨g,0,none⟩) (s.bk.length+1) l)):=by
 obtain⟨L,_⟩:=gK F (g:=g) rfl;have f:=h.aA o;obtain⟨O,P,R,H,t⟩:=h.i3;have K:dE w (ft a b (.slice (some ⟨g,0,none⟩) (s.bk.length+1) l)) Fr c j:=by
  have I:=wG (A:=[a.C,a.B,a.E]++b.ownBlock.toList) (B:=[]) (r:=ks.ownBlock) (by simpa[ft,YN]using f.ax) p D J L;simpa[ft,Value.ownBlock,YN]using I
 have m:ai [a.C] j (j.setCell ⟨a.C,3,none⟩ (.slice (some ⟨g,0,none⟩) (s.bk.length+1) l)):=(ah [a.C] j).a6 (by simp) _;have q:=eL p;have x:∀d,d=a.C\/d=a.B\/d=a.E->d ∉ ks.ownBlock.toList:=by
  intro d o v;have:=t d (by simpa using v);omega
 have N:∀d,b.ownBlock=some d->d ∉ ks.ownBlock.toList:=by
  intro d o v;exact(t d (by simpa using v)).2.2.2 o
 have M:g≠a.C:=by
  rcases D with G|G
  .exact(t g G).1
  .have:=aj f.aD;omega
 refine⟨K.b6 m (by simp[ft]),bv (i:=3) ((q.K _ (aj f.aD) (x _ (Y8 rfl))).trans f.aD) _,?_,h.h5,?_,h.h1,h.i4,h.i5,?_,h.h6,h.iR,?_⟩
 .exact(m.K _ (by have:=aj f.f5;have:=p.size;omega) (by simp;omega)).trans ((q.K _ (aj f.f5) (x _ (Ya (Y8 rfl)))).trans f.f5)
 .exact(m.K _ (by have:=aj f.fI;have:=p.size;omega) (by simp;omega)).trans ((q.K _ (aj f.fI) (x _ (Ya (Ya rfl)))).trans f.fI)
 .exact aY (aY f.row q N) m (λz n=>by simpa using (H z n).1)
 .have:=aY F m (by
   intro z n;simp only[Value.ownBlock,Yu]at n;subst n;simpa using M)
  simpa using this
def sn{i:Nat}{x:dh}{v:Value}(d:Cp w a Fr c s b ks e et u)(B:jr c v x)(L:i<s.ag.length) :
  ∃f g,b=.slice (some ⟨f,0,none⟩) s.ag.length g/\s.ag.length<=g/\u.frozen? ⟨f,i,none⟩=false/\(∃D,u.cell? ⟨f,i,none⟩=some D)/\f<u.heap.size/\Cp w a Fr c (dC i x s) b ks (e.set i (x,v)) et (u.setCell ⟨f,i,none⟩ v):=by
 obtain⟨E,F,G,o,p⟩:=d.i3;rcases d.row.2 with⟨rfl,K⟩|⟨f,g,m,rfl,t,j,n,y,z,A⟩
 .omega
 .have k:f∈ft a (.slice (some ⟨f,0,none⟩) s.ag.length g) ks:=by simp[ft,Value.ownBlock]
  have h:ai [f] u (u.setCell ⟨f,i,none⟩ v):=(ah [f] u).a6 (by simp) _;obtain⟨H,I,J⟩:=o f rfl;refine⟨f,g,rfl,n,by simp[World.frozen?,j],⟨m[i]'(by omega),?_⟩,aj j,d.ax.b6 h (by simpa using k),?_,?_,d.h5,?_,d.h1,d.i4,d.i5,⟨?_,Ya ⟨f,g,m.setIfInBounds i v,?_,t,bv j v,?_,y,?_,?_⟩⟩,?_,?_,?_⟩
  .simp[World.cell?,j]
  .exact(h.K _ (aj d.aD) (by simp;omega)).trans d.aD
  .exact(h.K _ (aj d.f5) (by simp;omega)).trans d.f5
  .exact(h.K _ (aj d.fI) (by simp;omega)).trans d.fI
  .have:=d.row.1;simpa[dC]using this
  .simp[dC]
  .simpa[dC]using n
  .simpa using z
  .simp only[dC,YF,Array.toList_setIfInBounds];rw[List.take_set,A];simp[List.map_set]
  .simp[dC,d.h6,List.map_set]
  .intro C l;rcases List.mem_or_eq_of_mem_set l with l|rfl
   .exact d.iR C l
   .exact B
  .exact aY d.id h (λq r=>by
    have:=(p q r).2.2.2;intro k;simp at k;subst k;exact this rfl)
def Cp.k1(f:Cp w a Fr c s b ks e et u)(h:List UInt8)(g:Nat) :
  (Instr.mapUpdate 103 (.map (some a.B)) (.string ⟨h.toArray⟩) (.int .i64 g)).run prog u=.ok () (dn u a.B (jB (bF s.d2 h g)))/\
  Cp w a Fr c { s with d2:=bF s.d2 h g } b ks e et (dn u a.B (jB (bF s.d2 h g))):=by
 obtain⟨o,p,q,m,n⟩:=f.i3;have i:=gY u a.B (jB (bF s.d2 h g));refine⟨pT (P:=prog) (T:=103) (kt:=9) (et:=3) (d:=.string) (by kernel_rfl) (by kernel_rfl) (λl:List UInt8=>.string ⟨l.toArray⟩) (λl:Nat=>.int .i64 l) (λ_=>trivial) (λ_=>yT _) sd f.f5 f.h5 h g,?_⟩;refine⟨f.ax.b6 i (by simp[ft]),?_,kh (aj f.f5) _,pW f.h5 _ _,?_,f.h1,f.i4,f.i5,aY f.row i ?_,f.h6,f.iR,aY f.id i ?_⟩
 .exact(i.K _ (aj f.aD) (by simp;omega)).trans f.aD
 .exact(i.K _ (aj f.fI) (by simp;omega)).trans f.fI
 .intro j k;simpa using (m j k).2.1
 .intro j k;simpa using (n j k).2.1
def Cp.m3(j:Cp w a Fr c s b ks e et u)(h:List UInt8)(f:Bool) :
  (Instr.lookup 103 (.map (some a.B)) (.string ⟨h.toArray⟩) f).run prog u=.ok (match az s.d2 h with
   |some v=>if f then .tuple #[.int .i64 v,.bool true]else .int .i64 v
   |none=>if f then .tuple #[.int .i64 0,.bool false]else .int .i64 0) u:=by
 rw[BA];have g:=xU (P:=prog) (T:=103) (kt:=9) (et:=3) (d:=.string) (by kernel_rfl) (by kernel_rfl) (λi:List UInt8=>.string ⟨i.toArray⟩) (λi:Nat=>.int .i64 i) (λ_=>trivial) sd j.f5 j.h5 (z:=.int .i64 0) (by kernel_rfl) h f;cases k:fS s.d2 h with
 |none=>rw[k]at g;exact g
 |some v=>rw[k]at g;exact g
def Cp.p8{v:Value}{x:dg}(f:Cp w a Fr c s b ks e et u)(r:un c v x)(g:List UInt8) :
  ∃n,(Instr.mapUpdate 164 (.map (some a.E)) (.string ⟨g.toArray⟩) v).run prog u=.ok () (dn u a.E n)/\
  Cp w a Fr c { s with e8:=bF s.e8 g x } b ks e (bF et g (x,v)) (dn u a.E n):=by
 obtain⟨y,z,A,o,p⟩:=f.i3;have q:=pT (P:=prog) (T:=164) (kt:=9) (et:=247) (d:=.string) (by kernel_rfl) (by kernel_rfl) (λm:List UInt8=>.string ⟨m.toArray⟩) (λm:dg×Value=>m.2) (λ_=>trivial) (λ_=>yT _) sd f.fI f.h1 g (x,v);refine⟨_,q,?_⟩;have h:=gY u a.E (kK ((bF et g (x,v)).map λi=>(.string ⟨i.1.toArray⟩,i.2.2)));refine⟨f.ax.b6 h (by simp[ft]),?_,?_,f.h5,kh (aj f.fI) _,pW f.h1 _ _,?_,?_,aY f.row h ?_,f.h6,f.iR,aY f.id h ?_⟩
 .exact(h.K _ (aj f.aD) (by simp;omega)).trans f.aD
 .exact(h.K _ (aj f.f5) (by simp;omega)).trans f.f5
 .show bF s.e8 g x=_;rw[f.i4];exact(ye (λt:dg×Value=>t.1) et g (x,v)).symm
 .intro i l;rcases yf l with l|rfl
  .exact f.i5 i l
  .exact r
 .intro j k;simpa using (o j k).2.2
 .intro j k;simpa using (p j k).2.2.1
def Cp.pe(g:Cp w a Fr c s b ks e et u)(f:List UInt8):∃v,(Instr.lookup 164 (.map (some a.E)) (.string ⟨f.toArray⟩) false).run prog u=.ok v u/\un c v ((az s.e8 f).getD wx):=by
 have l:=xU (P:=prog) (w:=u) (T:=164) (kt:=9) (et:=247) (d:=.string) (by kernel_rfl) (by kernel_rfl) (λh:List UInt8=>.string ⟨h.toArray⟩) (λh:dg×Value=>h.2) (λ_=>trivial) sd g.fI g.h1 (z:=.agg #[.int .i64 0,.int .i64 0,.slice none 0 0,.bool false]) (by kernel_rfl) f false;refine⟨_,l,?_⟩;have m:un c (.agg #[.int .i64 0,.int .i64 0,.slice none 0 0,.bool false]) wx:=⟨[.int .i64 0,.int .i64 0,.slice none 0 0,.bool false],rfl,_,rfl,rfl,_,_,_,rfl⟩;have i:az s.e8 f=(fS et f).map (·.1):=by
  rw[BA,g.i4];unfold fS;rw[List.find?_map];simp only[Option.map_map];rfl
 rw[i];cases j:fS et f with
 |none=>simpa using m
 |some o=>
  obtain⟨n,k,_,rfl⟩:=KA j;simpa using g.i5 n k
end
end
section
variable {d:Bool}{rs:gy}{a:Ty}{b c τ:Type}
def gE(Q:b->Prop)(c:PM b):Prop:=∀d a e,c d=.ok (a,e)->Q a
def gS(Q:b->Prop)(d:PX τ b):Prop:=∀a f c e g,d a f=.ok (c,e,g)->Q c
def lP(c:τ->Prop)(f:PX τ b):Prop:=∀a g e d h,c a->f a g=.ok (e,d,h)->c d
def hN{Q:b->Prop}{a:b}(d:Q a):gE Q (bT a):=by
 intro f e g c;simp only[bT]at c;cases c
 exact d
def qC{Q:b->Prop}(d c:Nat):gE Q (fl d c):=by
 intro f e g a;simp only[fl]at a;cases a
def sk{Q:c->Prop}{g:b->Prop}{f:PM b}{h:b->PM c}(j:gE g f)(i:∀a,g a->gE Q (h a)):gE Q (av f h):=by
 intro l m o d;cases e:f l with
 |error n=>rw[bl e]at d;cases d
 |ok k=>obtain⟨a,p⟩:=k;rw[au e]at d;exact i a (j _ _ _ e) _ _ _ d
def SG(a:PM b):gE (λ_=>True) a:=λ_ _ _ _=>trivial
def dw{Q:c->Prop}{e:PM b}{d:b->PM c}(f:∀a,gE Q (d a)):gE Q (av e d):=sk (SG e) λa _=>f a
def hw{Q:b->Prop}{a c:PM b}(e:gE Q a)(f:gE Q c):gE Q (if d then a else c):=by cases d<;>assumption
def nL{Q:b->Prop}{c:b}(e:Q c):gS Q (cH (τ:=τ) c):=by
 intro a h f g i d;simp only[cH]at d;cases d
 exact e
def Ep{Q:b->Prop}{e:PM b}(f:gE Q e):gS Q (lift (τ:=τ) e):=by
 intro a h j l m c;cases d:e h with
 |error k=>rw[cj d]at c;cases c
 |ok g=>obtain⟨i,n⟩:=g;rw[aX d]at c;cases c;exact f _ _ _ d
def uc{Q:c->Prop}{R:b->Prop}{g:PX τ b}{h:b->PX τ c}(j:gS R g)(i:∀d,R d->gS Q (h d)):gS Q (aw g h):=by
 intro a l m o q e;cases f:g a l with
 |error n=>rw[bm f]at e;cases e
 |ok k=>obtain⟨d,p,r⟩:=k;rw[aF f]at e;exact i d (j _ _ _ _ _ f) _ _ _ _ _ e
def SS(a:PX τ b):gS (λ_=>True) a:=λ_ _ _ _ _ _=>trivial
def hO{Q:c->Prop}{e:PX τ b}{d:b->PX τ c}(f:∀a,gS Q (d a)):gS Q (aw e d):=uc (SS e) λa _=>f a
def oX{Q:b->Prop}{a c:PX τ b}(e:gS Q a)(f:gS Q c):gS Q (if d then a else c):=by cases d<;>assumption
def Eq{ρ:Type}{Q:b->Prop}{e:PX τ b}(f:gS Q e):gS Q (hr (ρ:=ρ) e):=by
 rintro⟨a,l⟩ h i m o c;cases d:e a h with
 |error k=>rw[rL d]at c;cases c
 |ok g=>obtain⟨j,n,p⟩:=g;rw[rM d]at c;cases c;exact f _ _ _ _ _ d
def rD{I:τ->Prop}{g:PX τ b}{h:b->PX τ c}(k:lP I g)(i:∀e,lP I (h e)):lP I (aw g h):=by
 intro a m n p r j d;cases f:g a m with
 |error o=>rw[bm f]at d;cases d
 |ok l=>obtain⟨e,q,s⟩:=l;rw[aF f]at d;exact i e _ _ _ _ _ (k _ _ _ _ _ j f) d
def rE{f:τ->Prop}(e:PM b):lP f (lift (τ:=τ) e):=by
 intro a i k m n g c;cases d:e i with
 |error l=>rw[cj d]at c;cases c
 |ok h=>obtain⟨j,o⟩:=h;rw[aX d]at c;cases c;exact g
def xH{d:τ->Prop}(e:b):lP d (cH (τ:=τ) e):=by
 intro a i g h j f c;simp only[cH]at c;cases c
 exact f
def Jl{c:τ->Prop}(g:ByteArray)(nt:Nat){d:PX τ Unit}(e:lP c d):∀(a b:Nat),lP c (hl g nt d a b):=by
 intro a;induction a with
 |zero=>intro b;exact rE _
 |succ a f=>
  intro b;unfold hl;refine rD ?_ λh=>?_
  .split
   .exact xH _
   .exact rE _
  .cases h
   .exact rD (rE _) λi=>rD (rE _) λ_=>rD e λ_=>f _
   .exact xH _
def Jk{a:τ->Prop}(c:ByteArray)(nt:Nat){b:PX τ Unit}(d:lP a b):lP a (ew c nt b):=by
 unfold ew;exact rD (rE _) λ_=>Jl c nt d _ _
def SM{I:τ->Prop}{d:PX τ Unit}(e:lP I d){a:τ}(f:I a):gE I (ih d a):=by
 intro h i m b;cases c:d a h with
 |error k=>rw[tP c]at b;cases b
 |ok g=>obtain⟨j,l,n⟩:=g;rw[oI c]at b;cases b;exact e _ _ _ _ _ f c
def SN{Q:b->Prop}{e:PX τ b}(g:gS Q e)(a:τ):gE (λf=>Q f.1) (fH e a):=by
 intro h i m c;cases d:e a h with
 |error k=>rw[nF d]at c;cases c
 |ok f=>obtain⟨j,l,n⟩:=f;rw[qo d]at c;cases c;exact g _ _ _ _ _ d
def SJ{Q:b->Prop}{d:PX Unit b}(e:gS Q d):gE Q (hV d):=by
 intro g h l a;cases c:d () g with
 |error j=>rw[wS c]at a;cases a
 |ok f=>obtain⟨i,k,m⟩:=f;rw[wT c]at a;cases a;exact e _ _ _ _ _ c
def gm:Ty->Prop
 |.plain a=>a<=4
 |.named _ _=>True
 |_=>False
def ji:Ty->Prop
 |.plain b=>b<=4
 |.named _ _=>True
 |.opaq _ _=>True
 |.str _ _=>True
 |.arr a _ _=>gm a
 |.opt a=>gm a
 |.void=>False
def oY(a:Ty):Prop:=ji a\/a=.void
def zO(b:gm a):iM a:=by cases a<;>simp[gm,iM]at *
def gm.kx(b:gm a):ji a:=by cases a<;>simp[gm,ji]at *<;>exact b
def ji.g7(b:ji a):gB a:=by
 cases a with
 |arr c e d=>exact zO b
 |opt c=>exact zO b
 |_=>trivial
def oY.g7(b:oY a):gB a:=by
 rcases b with b|rfl
 .exact b.g7
 .trivial
def SQ(a:ByteArray):gE gm (kl a):=by
 unfold kl;refine dw λb=>?_;unfold hL;refine hw (hN trivial) (hw (hN (by simp[gm])) (hw (hN (by simp[gm])) (hw (hN (by simp[gm])) (hw ?_ (qC _ _)))));exact dw λc=>hw (hN (by simp[gm])) (dw λ_=>hN (by simp[gm]))
def SO(b:ByteArray):gE (λa:Ty×(Int->Bool)=>gm a.1) (nG b):=by
 unfold nG;refine dw λc=>?_;unfold jc;exact hw (dw λ_=>hN trivial) (hw (hN (by simp[gm])) (hw (dw λ_=>hN (by simp[gm])) (hw (hN (by simp[gm])) (qC _ _))))
def zw(d:ByteArray)(h:cN τ):gS (λb=>ji b.L) (dZ d h):=by
 unfold dZ;refine hO λe=>?_;unfold ol;refine oX (hO λa=>hO λg=>nL trivial) (hO λe=>?_);unfold na;refine oX (hO λa=>hO λg=>nL trivial) (uc (Ep (SQ d)) λi c=>?_);unfold pE;refine hO λe=>?_;unfold rl;refine oX (hO λa=>nL c) (hO λa=>?_);unfold om;refine hO λe=>?_;unfold pF;have f:gS (τ:=τ) (λb=>ji b.L) (oo d a i):=by
  unfold oo;exact hO λg=>nL c
 refine oX f (hO λj=>?_);unfold pG;exact oX f (nL c.kx)
def Eo(d:ByteArray)(c:cN τ):gS (λb=>oY b.L) (iA d c):=by
 unfold iA;refine uc (R:=λb=>oY b.L) (hO λk=>?_) λb g=>hO λ_=>nL g;unfold mU;refine oX (nL (Ya rfl)) ?_;intro a i e h j f;exact Y8 (zw d c a i e h j f)
def kV(rs:gy):Prop:=∀a∈rs,oY a.2.L
def kV.hj(e:kV rs){d:List Int}{b:aG}(f:oY b.L):kV (rs++[(d,b)]):=by
 intro c a;rcases Yn.1 a with a|a
 .exact e c a
 .simp only[Yc]at a;subst a;exact f
def SH(c:ByteArray)(a:kV rs):gS kV (lf c rs):=by
 unfold lf;exact hO λe=>oX (hO λ_=>uc (Eq (Eo _ _)) λd b=>nL (a.hj b)) (nL a)
def SI(d:ByteArray)(f:Int->Bool):∀(a:Nat) {rs:gy},kV rs->gS kV (hz d f a rs):=by
 intro a;induction a with
 |zero=>intro rs _;exact Ep (qC _ _)
 |succ a e=>
  intro rs b;unfold hz;exact hO λg=>uc (Eq (Eo _ _)) λh c=>hO λi=>oX (e (b.hj c)) (SH d (b.hj c))
def pc:ao->Prop
 |.typedef b=>ji b.L
 |.struct _ _ d=>∀c∈d,ji c.L
 |.union _ _ e a=>gm e.L/\kV a
 |_=>True
def SL(f:ByteArray)(h:List UInt8×Nat):∀(b:Nat) (d:List (List UInt8×Nat×Int)) (c:List (Int×Int)),gE pc (gr f h b d c):=by
 intro b;induction b with
 |zero=>intro d c;exact qC _ _
 |succ b g=>
  intro d c j k p a;cases e:ie f d.length c j with
  |error l=>rw[tq e]at a;cases a
  |ok i=>
   obtain⟨n,m,q⟩:=i;rw[rI e]at a;refine dw (Q:=pc) (λo=>hw (g _ _) ?_) _ _ _ a;unfold nh;exact dw λ_=>dw λ_=>hN trivial
def SK(h:ByteArray):gE pc (fQ h):=by
 unfold fQ;refine dw λw=>?_;unfold dU;refine hw ?_ (hw ?_ (hw ?_ (hw ?_ (hw ?_ (hw ?_ (qC _ _))))))
 .unfold iB;exact dw λ_=>dw λf=>dw λ_=>dw λ_=>dw λ_=>hN trivial
 .unfold iI;exact dw λ_=>sk (SJ (zw _ _)) λk d=>dw λ_=>hN d
 .unfold gp;exact dw λ_=>dw λf=>dw λ_=>SL _ _ _ _ _
 .unfold jf;refine dw λ_=>dw λf=>sk (SM (I:=λg:List aG×List (List UInt8)=>∀c∈g.1,ji c.L) (Jk _ _ ?_) (by simp)) λg n=>dw λ_=>hN n;rintro⟨r,a⟩ q j u x m e;cases d:dZ h (aT 0 0) a q with
  |error s=>rw[yR d]at e;cases e
  |ok i=>
   obtain⟨k,v,y⟩:=i;rw[wh d]at e;refine rD (I:=λg:List aG×List (List UInt8)=>∀c∈g.1,ji c.L) (rE _) (λ_=>xH ()) _ _ _ _ _ ?_ e;intro c b;rcases Yn.1 b with b|b
   .exact m c b
   .simp only[Yc]at b;subst b;exact zw _ _ _ _ _ _ _ d
 .unfold dQ;refine dw λ_=>dw λf=>?_;unfold oR;refine dw λ_=>dw λ_=>sk (SO h) λi o=>?_;unfold qw;refine dw λc=>?_;unfold sf;refine dw λ_=>dw λ_=>sk (SN (SI h i.2 13 (rs:=[]) (by intro j l;cases l)) _) λt p=>?_;unfold kS oP;exact dw λ_=>dw λ_=>hN ⟨o,p⟩
 .unfold hJ;refine dw λ_=>dw λf=>?_;unfold oE;exact dw λ_=>dw λ_=>hN trivial
def uh(b:List ao):Prop:=∀a∈b,pc a
def SP(d:ByteArray):∀(b:Nat) {ds:List ao},uh ds->gE uh (ec d b ds):=by
 intro b;induction b with
 |zero=>intro ds _;exact qC _ _
 |succ b g=>
  intro ds c;unfold ec;refine dw λi=>hw (hN c) (sk (SK d) λh f=>dw λ_=>g ?_);intro e a;rcases Yn.1 a with a|a
  .exact c e a
  .simp only[Yc]at a;subst a;exact f
def Rc{d:ByteArray}{ds:List ao}(a:eo d=.ok ds):uh ds:=by
 unfold eo at a;split at a
 .cases a
 .cases c:ec d 69 [] eP with
  |error h=>rw[c]at a;cases a
  |ok e=>
   obtain⟨g,i⟩:=e;rw[c]at a;simp only at a;have b:=SP d 69 (ds:=[]) (by intro f b;cases b) _ _ _ c;split at a
   .cases a
   .split at a
    .cases a
    .cases a
     exact b
def ht:Ty->Nat
 |.arr a _ _=>ht a+2
 |.opt a=>ht a+1
 |.void=>0
 |_=>1
def sg(a:Ty):∀b,(dt a b).ag.length=b.ag.length+ht a:=by
 induction a with
 |arr d f e c=>intro b;simp[dt,dC,bf,ht,c];omega
 |opt d c=>intro b;simp[dt,dC,bf,ht,c];omega
 |_=>intro b;simp[dt,bf,mb,ht]
def pC(d:gB a):ht a<=3:=by
 cases a with
 |arr b e c=>cases b<;>simp[gB,iM,ht]at *
 |opt b=>cases b<;>simp[gB,iM,ht]at *
 |_=>simp[ht]
end
end Go.Proofs.YtjdhaegijjednaaGreatDoor
namespace Go.Proofs.YtjdhaegijjednaaGreatDoor
open Go.Proofs.Tryz
def KB{p t:Type}[DecidableEq p](v:t)(a b:p)(c:List (p×t)):fS (bF c b v) a=if a=b then some v else fS c a:=by
 unfold bF;split
 .rename_i g;induction c with
  |nil=>simp at g
  |cons j c r=>
   by_cases h:j.1=b
   .by_cases e:a=b
    .subst e;simp[fS,h]
    .have q:fS (c.map λi=>if i.1=b then (b,v)else i) a=fS c a:=by
      clear r g;induction c with
      |nil=>rfl
      |cons s c o=>
       unfold fS at o ⊢;simp only[List.map_cons,List.find?_cons];by_cases n:s.1=b
       .have f:(b==a)=false:=by simpa using λd=>e d.symm
        have l:(s.1==a)=false:=by rw[n];exact f
        simp only[n,if_true,f]
        exact o
       .simp only[n,if_false]
        split
        .rfl
        .exact o
     have f:(b==a)=false:=by simpa using λd=>e d.symm
     have l:(j.1==a)=false:=by rw[h];exact f
     unfold fS at q ⊢;simp only[List.map_cons,List.find?_cons,h,if_true,f,Y2 e]
     exact q
   .have u:b∈c.map (·.1):=by
     simp only[List.map_cons,Yg]at g;rcases g with k|k
     .exact absurd k.symm h
     .exact k
    have:=r u;unfold fS at this ⊢;simp only[List.map_cons,List.find?_cons,h,if_false]
    by_cases m:j.1=a
    .have:a≠b:=λd=>h (m.trans d);simp[m,this]
    .have l:(j.1==a)=false:=by simpa using m
     simp only[l];exact this
 .rename_i g;by_cases e:a=b
  .subst e;have:c.find? (λi=>i.1==a)=none:=List.find?_eq_none.2 (λi w=>by simp;exact λd=>g (d▸List.mem_map_of_mem w));simp[fS,List.find?_append,this]
  .have f:(b==a)=false:=by simpa using λd=>e d.symm
   simp[fS,List.find?_append,f,e]
def HD(b:List Nat):∀(a:aU),(hX b a).ag=b.foldl (λe c=>e.set c (.jump a.ag.length)) a.ag/\(hX b a).bk=a.bk/\(hX b a).d2=a.d2/\(hX b a).e8=a.e8:=by
 induction b with
 |nil=>intro a;exact⟨rfl,rfl,rfl,rfl⟩
 |cons c b j=>
  intro a;obtain⟨d,g,h,i⟩:=j (dC c (.jump a.ag.length) a);have f:(dC c (.jump a.ag.length) a).ag.length=a.ag.length:=by simp[dC]
  rw[f]at d;exact⟨d,g,h,i⟩
end Go.Proofs.YtjdhaegijjednaaGreatDoor
namespace Go.Proofs.YtjdhaegijjednaaGreatDoor
open Go.RowKit
open Go.MapKept
open Go.Proofs.Tryz
section
variable {d:eU}{f:List (Nat×Obj)}{e:List (dh×Value)}{h:List (List UInt8×dg×Value)}{g i:Value}{a:aU}{b c:World}
def Jh:(prog.info? 273).map (λa=>(a.zero,a.size,a.bytes))=some (some .nilIface,1,16):=by kernel_rfl
def IY:(prog.info? 269).map (λa=>(a.zero,a.size,a.bytes))=some (some (.agg #[.int .i64 0,.string ⟨#[]⟩]),2,24):=by kernel_rfl
def ig{Fr:List (Nat×Obj)}{v:Value}{x:dh}(m:Cp c d Fr f a i g e h b)(s:jr f v x)(b0:a.ag.length<1000000) :
  Calls prog 131 #[.pointer (some ⟨d.C,0,none⟩),v] b λo a2=>o=.returned (.int .i64 a.ag.length)/\∃a1,Cp c d Fr f (bf x a) a1 g (e++[(x,v)]) h a2:=by
 obtain⟨p,u,rfl⟩:=s.o6
 obtain⟨ad,l,rfl⟩:=m.dG;obtain⟨a3,a4,a5,a6,a9,J⟩:=m.am;obtain⟨a0,G,N,O,P⟩:=info_parts Jh;have n:=Z m;have y:=Z s;have b1:c.heap.size<=b.heap.size:=m.ax.kp.a2;have L:∀j,(b.alloc j).ownsRow c.heap.size 273 1 (.slice ad a.ag.length l) a.ag.length (e.map (·.2)):=λj=>aY m.row ((ah [] b).G j) (by simp);have H:a.ag.length+1<=maxLen:=by unfold maxLen;omega
 have I:(a.ag.length+1)*16<=140737488355328:=by omega
 have R:Value.nilIface.cells.size=1:=rfl;have D:∀j k,(b.alloc j).grownBy k (Value.slice ad a.ag.length l).ownBlock->k.cell? ⟨d.C,0,none⟩=some (.slice ad a.ag.length l)/\(∀S,k.frozen? ⟨d.C,S,none⟩=false)/\d.C<k.heap.size:=by
  intro j k F;have q:k.heap[d.C]? = some (.cells #[.slice ad a.ag.length l,.map (some d.B),.map (some d.E),g] 167):=
   (F.block _ (by simp;omega) (λo=>(n.j.i3.2.2.2.1 _ o.symm).1 rfl)).trans ((((ah [] b).G j).K _ J (by simp)).trans n.j.aD)
  refine⟨?_,?_,aj q⟩<;>simp[World.cell?,World.frozen?,q]
 have w:=Z D;go_in;go_wp2_with (first
  |(at_builtin;refine wpList_append_lies _ (by rfl) _ _ _ (by rfl) c.heap.size 273 a0 _ 1 16 underlying102 G N O P R (by omega) (.slice ad a.ag.length l) a.ag.length (e.map (·.2)) (by rfl) (L _) ⟨b.heap.size,0,none⟩ 1 1 [.iface p u] (by rfl) (by rfl) (World.news_of_block (cs:=#[.iface p u]) (t:=273) (fr:=(0,0)) (heap_alloc_new b _)) (by simp[Value.oneCell']) (by omega) H I (by simp;omega) (b.heap.size+1) (by simp) ?_;intro a8 a7 b5 M r A K;obtain⟨b2,b3,b4⟩:=w.j _ _ r))
 go_ret;have z:=EB n.j y.j ((Below.refl b.heap.size b).alloc (Y4 _) _) M r (by simpa using A) K;exact⟨by simp,_,z⟩
def ll{Fr:List (Nat×Obj)}(j:Cp c d Fr f a i g e h b) :
  Calls prog 128 #[.pointer (some ⟨d.C,0,none⟩)] b λk l=>k=.returned (.int .i64 a.ag.length)/\l=b:=by
 obtain⟨ad,q,rfl⟩:=j.dG;obtain⟨m,n,o,p,r,s⟩:=j.am;go_in;go_wp2;go_ret;exact⟨rfl,rfl⟩
abbrev Cf(a:dg)(b:Value):Array Value:=#[.int .i64 a.iy,.int .i64 a.h9,b,.bool a.c2]
def yp(a:Nat):(eg a).j9=none:=by
 unfold eg;split
 .rfl
 .split
  .rfl
  .split<;>rfl
def xj(a:Nat)(c:World):Calls prog 207 #[.int .i64 a] c λi m=>i=.returned (.agg (Cf (eg a) (.slice none 0 0)))/\Below c.heap.size c m:=by
 have d:∀h,Below c.heap.size c (c.alloc h):=λh=>(Below.refl _ _).alloc (Y4 _) _;by_cases e:a=0
 .have j:((a:Int)==0)=true:=by simp[e]
  have b:U (eg a=⟨-2147483648,2147483647,none,false⟩):=by show _=_;simp[eg,e]
  go_in;go_wp2;exact bodyPost_ret (v:=.agg #[.int .i64 (-2147483648),.int .i64 2147483647,.slice none 0 0,.bool false]) (by simp[results,results207,go_sem]) rfl ⟨by rw[b.j],d _⟩
 .have j:((a:Int)==0)=false:=by simp;omega
  by_cases f:a=1
  .have k:((a:Int)==1)=true:=by simp[f]
   have b:U (eg a=⟨0,4294967295,none,false⟩):=by show _=_;simp[eg,f]
   go_in;go_wp2;exact bodyPost_ret (v:=.agg #[.int .i64 0,.int .i64 4294967295,.slice none 0 0,.bool false]) (by simp[results,results207,go_sem]) rfl ⟨by rw[b.j],d _⟩
  .have k:((a:Int)==1)=false:=by simp;omega
   by_cases g:a=4
   .have l:((a:Int)==4)=true:=by simp[g]
    have b:U (eg a=⟨0,1,none,false⟩):=by show _=_;simp[eg,g]
    go_in;go_wp2;exact bodyPost_ret (v:=.agg #[.int .i64 0,.int .i64 1,.slice none 0 0,.bool false]) (by simp[results,results207,go_sem]) rfl ⟨by rw[b.j],d _⟩
   .have l:((a:Int)==4)=false:=by simp;omega
    have b:U (eg a=⟨-9223372036854775808,9223372036854775807,none,true⟩):=by show _=_;simp[eg,e,f,g]
    go_in;go_wp2;exact bodyPost_ret (v:=.agg #[.int .i64 (-9223372036854775808),.int .i64 9223372036854775807,.slice none 0 0,.bool true]) (by simp[results,results207,go_sem]) rfl ⟨by rw[b.j],d _⟩
end
section
variable {b:eU}{f:List (Nat×Obj)}{h:List (dh×Value)}{j:List (List UInt8×dg×Value)}{e g:Value}{a:aU}{c d:World}
def Mi(b:Nat×List UInt8):∀c∈lg b,c.oneCell'=true:=by
 intro c a;simp at a;rcases a with rfl|rfl<;>rfl
def Cp.o8{i:World}{Fr:List (Nat×Obj)}{m:Obj}(k:Cp d b Fr f a g e h j c)(o:(c.alloc m).grownBy i e.ownBlock) :
  i.cell? ⟨b.C,3,none⟩=some e/\(∀q,i.frozen? ⟨b.C,q,none⟩=false)/\b.C<i.heap.size:=by
 have p:=aj k.aD;have l:i.heap[b.C]? = some (.cells #[g,.map (some b.B),.map (some b.E),e] 167):=
  (o.block _ (by simp;omega) (λn=>(k.i3.2.2.2.2 _ n.symm).1 rfl)).trans ((((ah [] c).G m).K _ p (by simp)).trans k.aD)
 refine⟨?_,?_,aj l⟩<;>simp[World.cell?,World.frozen?,l]
def Gc{Fr:List (Nat×Obj)}(q:List UInt8)(l:Cp d b Fr f a g e h j c)(J:a.ag.length<1000000)(a6:a.bk.length<1000000) :
  Calls prog 206 #[.pointer (some ⟨b.C,0,none⟩),.string ⟨q.toArray⟩] c λw R=>w=.returned (.tuple #[])/\cL d b Fr f (mb q a) R:=by
 obtain⟨ad,s,rfl⟩:=l.m2;obtain⟨a0,a1,a2,a3,a8,z⟩:=l.am;obtain⟨P,F,K,M,N⟩:=info_parts IY;have E:Below c.heap.size c c.drew:=(Below.refl _ _).drew;have A:=Z (ig (v:=.iface 271 (.agg #[.int .i64 0])) (x:=.call 0) (l.aA E) rfl J)
 have G:a.bk.length+1<=maxLen:=by unfold maxLen;omega
 have H:(a.bk.length+1)*24<=140737488355328:=by omega
 have O:(Value.agg #[.int .i64 0,.string ⟨#[]⟩]).cells.size=2:=by decide
 go_in;go_wp2_with fail;refine cS (λS=>S.cell? ⟨b.C,3,none⟩=some (.slice ad a.bk.length s)) (L:=15) (by kernel_rfl) rfl (by kernel_rfl) (by kernel_rfl) ?_ (λu=>?_)
 .go_keep
 refine bI [0,1,2,3,4,5,6,7,9] ?_;iterate 9 (refine bP (v:=?_) rfl (by kernel_rfl) (λ_ _ _ l=>l) (by rfl) (by assumption) ?_ ?_;rotate_left;focus (intro d p;(try dsimp only at p);go_simp;(try with_reducible rfl));(try simp only[aL,aM,List.set]))
 refine bJ ?_;refine ck 8 (by kernel_rfl) rfl λr o=>?_;(go_simp;go_at_call 131;refine A.j.mono ?_;rintro w m ⟨rfl,b4,n⟩;have n:=Z n;have a7:m.cell? ⟨b.C,3,none⟩=some (.slice ad a.bk.length s):=n.j.am.2.2.2.1;have b0:d.heap.size<=m.heap.size:=n.j.ax.kp.a2;have a9:b.C<m.heap.size:=n.j.am.2.2.2.2.2);refine o.out _ _ ?_ (λu=>?_)
 .go_keep
 (try simp only[aL,aM,List.set]);refine tk (i:=10) (v:=?_) rfl (by kernel_rfl) (λ_ _ _ l=>l) (by rfl) (by assumption) ?_ ?_;rotate_left
 .intro d p;(try dsimp only at p);go_simp;(try with_reducible rfl)
 (try simp only[aL,aM,List.set]);refine ck 11 (by kernel_rfl) rfl λr o=>?_;go_simp;refine o.out _ _ ?_ (λu=>?_)
 .go_keep
 (try simp only[aL,aM,List.set]);refine ck 12 (by kernel_rfl) rfl λr o=>?_;(refine step_append_lies _ (by rfl) _ _ _ (by rfl) d.heap.size 269 P _ 2 24 underlying165 F K M N O (by omega) (.slice ad a.bk.length s) a.bk.length (a.bk.flatMap lg) (by rfl) (aY n.j.id ((ah [] m).G _) (by simp)) ⟨m.heap.size,0,none⟩ 1 1 (lg (a.ag.length,q)) (by rfl) (by rfl) (World.news_of_block (cs:=(lg (a.ag.length,q)).toArray) (t:=269) (fr:=(0,0)) (heap_alloc_new m _)) (Mi _) (by omega) G H (by simp;omega) (m.heap.size+1) (by simp) ?_;intro a5 a4 b5 I y D z;obtain⟨b1,b2,b3⟩:=n.j.o8 y);refine o.out _ _ ?_ (λu=>?_)
 .go_keep
 (try simp only[aL,aM,List.set]);refine bI [13,14] ?_;iterate 2 (refine bP (v:=?_) rfl (by kernel_rfl) (λ_ _ _ l=>l) (by rfl) (by assumption) ?_ ?_;rotate_left;focus (intro d p;(try dsimp only at p);go_simp;(try with_reducible rfl));(try simp only[aL,aM,List.set]))
 refine bJ ?_;refine cQ (by kernel_rfl) rfl λr o=>?_;go_simp;refine o.out _ _ ?_;(try simp only[aL,aM,List.set]);have B:=EA (k:=(a.ag.length,q)) n.j ((Below.refl m.heap.size m).alloc (Y4 _) _) I y (by simpa using D) z;go_wp2;go_end0;exact⟨rfl,B.c9⟩
end
section
variable {c:eU}{d:List (Nat×Obj)}{f:List (dh×Value)}{g:List (List UInt8×dg×Value)}{h j:Value}{n:Nat}{a:aU}{b e:World}
def yo(d:List (Nat×Obj)){n:dg}(a:n.j9=none):iO d [.int .i64 n.iy,.int .i64 n.h9,.slice none 0 0,.bool n.c2] n:=⟨.slice none 0 0,rfl,by rw[a];rfl,_,_,_,rfl⟩
structure aV(a:aU)(n:Nat):Prop where
 ag:a.ag.length+n<1000000
 bk:a.bk.length<=a.ag.length
def aV.cv(b:aV a (n+1))(c:dh):aV (bf c a) n:=⟨by simp[bf];have:=b.ag;omega,by simp[bf];have:=b.bk;omega⟩
def aV.call(b:aV a (n+1))(c:List UInt8):aV (mb c a) n:=⟨by simp[mb];have:=b.ag;omega,by simp[mb];have:=b.bk;omega⟩
def aV.cs{c:Nat}(b:aV a n)(d:c<=n):aV a c:=⟨by have:=b.ag;omega,b.bk⟩
def aV.bQ(b:aV a n)(i:Nat)(c:dh):aV (dC i c a) n:=⟨by simpa[dC]using b.ag,by simpa[dC]using b.bk⟩
def sy(d:Ty):∀{a:aU} {n:Nat},aV a (n+ht d)->aV (dt d a) n:=by
 induction d with
 |named d c=>intro a n b;exact b.call d
 |plain f=>intro a n b;exact b.cv _
 |opaq f g=>intro a n b;exact b.cv _
 |str f g=>intro a n b;exact b.cv _
 |void=>intro a n b;exact b
 |arr h f g e=>intro a n b;exact(aV.cv (e (aV.cv (aV.cs b (by simp only[ht];omega)) _)) _).bQ _ _
 |opt h e=>intro a n b;exact(e (aV.cv (aV.cs b (by simp only[ht];omega)) _)).bQ _ _
def RT{Fr:List (Nat×Obj)}(i:List UInt8)(l:Nat)(r:Cp e c Fr d a j h f g b)(n:aV a 1) :
  Calls prog 129 #[.pointer (some ⟨c.C,0,none⟩),.iface 260 (.agg #[.string ⟨i.toArray⟩,.int .i64 l])] b λm t=>m=.returned (.tuple #[])/\cL e c Fr d (mb i a) t:=by
 have w:∀k,(Instr.typeAssert (.iface 260 (.agg #[.string ⟨i.toArray⟩,.int .i64 l])) 240 260 true).run prog k=.ok (.tuple #[.agg #[.string ⟨i.toArray⟩,.int .i64 l],.bool true]) k:=λk=>by kernel_rfl
 have u:=n.ag;have v:=n.bk;have s:∀o,Below b.heap.size b (b.alloc o):=λo=>(Below.refl _ _).alloc (Y4 _) _;have p:=Z r;go_in;go_wp2_with fail;refine(Gc i (p.j.aA (s _)) (by omega) (by omega)).mono ?_;rintro m x ⟨rfl,q⟩;go_wp2;go_end0;exact⟨rfl,q⟩
def RX{Fr:List (Nat×Obj)}(i:Nat)(r:Cp e c Fr d a j h f g b)(m:aV a 1) :
  Calls prog 129 #[.pointer (some ⟨c.C,0,none⟩),.iface 372 (.agg #[.int .i64 i])] b λl u=>l=.returned (.tuple #[])/\cL e c Fr d (bf (.num (eg i)) a) u:=by
 have A:∀k,(Instr.typeAssert (.iface 372 (.agg #[.int .i64 i])) 240 260 true).run prog k=.ok (.tuple #[.agg #[.string ⟨#[]⟩,.int .i64 0],.bool false]) k:=λk=>by kernel_rfl
 have B:∀k,(Instr.typeAssert (.iface 372 (.agg #[.int .i64 i])) 240 372 true).run prog k=.ok (.tuple #[.agg #[.int .i64 i],.bool true]) k:=λk=>by kernel_rfl
 have w:=m.ag;have y:=m.bk;have s:∀n,Below b.heap.size b (b.alloc n):=λn=>(Below.refl _ _).alloc (Y4 _) _;have o:=Z r;go_in;go_wp2_with fail;refine(xj i _).mono ?_;rintro l D ⟨rfl,t⟩;have p:=(o.j.aA (s _)).aA t;go_wp2_with fail;refine(ig (v:=.iface 247 (.agg (Cf (eg i) (.slice none 0 0)))) (x:=.num (eg i)) p ⟨[.int .i64 (eg i).iy,.int .i64 (eg i).h9,.slice none 0 0,.bool (eg i).c2],rfl,yo _ (yp i)⟩ (by omega)).mono ?_
 rintro l E ⟨rfl,z,q⟩;go_wp2;go_end0;exact⟨rfl,q.c9⟩
def RU{Fr:List (Nat×Obj)}(n:Int)(k:Bool)(r:Cp e c Fr d a j h f g b)(m:aV a 1) :
  Calls prog 129 #[.pointer (some ⟨c.C,0,none⟩),.iface 377 (.agg #[.int .i64 n,.bool k])] b λl t=>l=.returned (.tuple #[])/\cL e c Fr d (bf (.text n k) a) t:=by
 have y:∀i,(Instr.typeAssert (.iface 377 (.agg #[.int .i64 n,.bool k])) 240 260 true).run prog i=.ok (.tuple #[.agg #[.string ⟨#[]⟩,.int .i64 0],.bool false]) i:=λi=>by kernel_rfl
 have z:∀i,(Instr.typeAssert (.iface 377 (.agg #[.int .i64 n,.bool k])) 240 372 true).run prog i=.ok (.tuple #[.agg #[.int .i64 0],.bool false]) i:=λi=>by kernel_rfl
 have A:∀i,(Instr.typeAssert (.iface 377 (.agg #[.int .i64 n,.bool k])) 240 377 true).run prog i=.ok (.tuple #[.agg #[.int .i64 n,.bool k],.bool true]) i:=λi=>by kernel_rfl
 have u:=m.ag;have v:=m.bk;have s:∀o,Below b.heap.size b (b.alloc o):=λo=>(Below.refl _ _).alloc (Y4 _) _;have p:=Z r;go_in;go_wp2_with fail;refine(ig (x:=.text n k) (p.j.aA (s _)) rfl (by omega)).mono ?_;rintro l B ⟨rfl,w,q⟩;go_wp2;go_end0;exact⟨rfl,q.c9⟩
def RY{Fr:List (Nat×Obj)}(n:Int)(k:Bool)(r:Cp e c Fr d a j h f g b)(m:aV a 1) :
  Calls prog 129 #[.pointer (some ⟨c.C,0,none⟩),.iface 380 (.agg #[.int .i64 n,.bool k])] b λl t=>l=.returned (.tuple #[])/\cL e c Fr d (bf (.text n k) a) t:=by
 have y:∀i,(Instr.typeAssert (.iface 380 (.agg #[.int .i64 n,.bool k])) 240 260 true).run prog i=.ok (.tuple #[.agg #[.string ⟨#[]⟩,.int .i64 0],.bool false]) i:=λi=>by kernel_rfl
 have z:∀i,(Instr.typeAssert (.iface 380 (.agg #[.int .i64 n,.bool k])) 240 372 true).run prog i=.ok (.tuple #[.agg #[.int .i64 0],.bool false]) i:=λi=>by kernel_rfl
 have A:∀i,(Instr.typeAssert (.iface 380 (.agg #[.int .i64 n,.bool k])) 240 377 true).run prog i=.ok (.tuple #[.agg #[.int .i64 0,.bool false],.bool false]) i:=λi=>by kernel_rfl
 have B:∀i,(Instr.typeAssert (.iface 380 (.agg #[.int .i64 n,.bool k])) 240 380 true).run prog i=.ok (.tuple #[.agg #[.int .i64 n,.bool k],.bool true]) i:=λi=>by kernel_rfl
 have u:=m.ag;have v:=m.bk;have s:∀o,Below b.heap.size b (b.alloc o):=λo=>(Below.refl _ _).alloc (Y4 _) _;have p:=Z r;go_in;go_wp2_with fail;refine(ig (x:=.text n k) (p.j.aA (s _)) rfl (by omega)).mono ?_;rintro l D ⟨rfl,w,q⟩;go_wp2;go_end0;exact⟨rfl,q.c9⟩
def RZ{Fr:List (Nat×Obj)}  (n:Cp e c Fr d a j h f g b) (k:aV a 1) :
  Calls prog 129 #[.pointer (some ⟨c.C,0,none⟩),.iface 444 (.agg #[])] b λm o=>m=.returned (.tuple #[])/\cL e c Fr d (a) o:=by
 have r:∀i,(Instr.typeAssert (.iface 444 (.agg #[])) 240 260 true).run prog i=.ok (.tuple #[.agg #[.string ⟨#[]⟩,.int .i64 0],.bool false]) i:=λi=>by kernel_rfl
 have s:∀i,(Instr.typeAssert (.iface 444 (.agg #[])) 240 372 true).run prog i=.ok (.tuple #[.agg #[.int .i64 0],.bool false]) i:=λi=>by kernel_rfl
 have t:∀i,(Instr.typeAssert (.iface 444 (.agg #[])) 240 377 true).run prog i=.ok (.tuple #[.agg #[.int .i64 0,.bool false],.bool false]) i:=λi=>by kernel_rfl
 have u:∀i,(Instr.typeAssert (.iface 444 (.agg #[])) 240 380 true).run prog i=.ok (.tuple #[.agg #[.int .i64 0,.bool false],.bool false]) i:=λi=>by kernel_rfl
 have v:∀i,(Instr.typeAssert (.iface 444 (.agg #[])) 240 382 true).run prog i=.ok (.tuple #[.agg #[.nilIface,.int .i64 0,.bool false],.bool false]) i:=λi=>by kernel_rfl
 have w:∀i,(Instr.typeAssert (.iface 444 (.agg #[])) 240 385 true).run prog i=.ok (.tuple #[.agg #[.nilIface],.bool false]) i:=λi=>by kernel_rfl
 have p:=k.ag;have q:=k.bk;have l:=Z n;go_in;go_wp2;go_end0;exact⟨rfl,l.j.c9⟩
def qA{Fr:List (Nat×Obj)}{t:Ty}(m:iM t)(i:Cp e c Fr d a j h f g b)(k:aV a 1) :
  Calls prog 129 #[.pointer (some ⟨c.C,0,none⟩),bX t] b λo s=>o=.returned (.tuple #[])/\cL e c Fr d (dt t a) s:=by
 cases t with
 |named t r=>exact RT t r i k
 |plain p=>exact RX p i k
 |opaq n l=>exact RU n l i k
 |str n l=>exact RY n l i k
 |void=>exact RZ i k
 |arr q n l=>exact absurd m (by simp[iM])
 |opt q=>exact absurd m (by simp[iM])
end
section
variable {b:eU}{e:List (Nat×Obj)}{a:aU}{c d:World}
def tK(b:dh)(a:aU):(bf b a).ag.length=a.ag.length+1:=by simp[bf]
def kX{Fr g:List (Nat×Obj)}(n:∀f∈e,f∈g)(k:cL d b Fr g a c):cL d b Fr e a c:=by
 obtain⟨h,q,p,i,j,l,m⟩:=k;exact⟨h,q,p,i,j,λf o=>l f (n f o),m⟩
def cL.dA{m:Nat×Obj}{Fr:List (Nat×Obj)}(i:cL d b (m::Fr) e a c):cL d b Fr e a c:=by
 obtain⟨f,n,l,g,h,j,k⟩:=i;exact⟨f,n,l,g,h,j,k.dA⟩
def FP{Fr:List (Nat×Obj)}{a3 a2:Value}{N:List (dh×Value)}{O:List (List UInt8×dg×Value)}{f:Ty}(j:Int)(g:Bool)(a0:iM f)(h:Cp d b Fr e a a3 a2 N O c)(I:aV a 3) :
  Calls prog 208 #[.pointer (some ⟨b.C,0,none⟩),.agg #[bX f,.int .i64 j,.bool g]] c λl a4=>l=.returned (.tuple #[])/\cL d b Fr e (dt (.arr f j g) a) a4:=by
 have z:=h.G (.cells #[bX f,.int .i64 j,.bool g] 382);have c0:=I.ag;have a1:aV (bf .hole a) 2:=I.cv _;have b3:ht f<=1:=by cases f<;>simp[iM,ht]at *
 have u:=sg f (bf .hole a);have t:(bf .hole a).ag.length=a.ag.length+1:=by simp[bf]
 obtain⟨a5,x,G⟩:=fm f;have L:=Z G;rw[G]at z ⊢;clear h;go_in;go_wp2_with fail;refine(ig (v:=.iface 449 (.agg #[.int .i64 0,.bool false,.int .i64 0])) (x:=.hole) z ⟨_,_,rfl⟩ (by omega)).mono ?_
 rintro l c6 ⟨rfl,c3,o⟩;obtain⟨B,D,E,F⟩:=dT (o.ax.hf _ Yb).1;go_wp2_with fail;have q:=qA a0 o (a1.cs (by omega));rw[L.j]at q;refine q.mono ?_;rintro l c7 ⟨rfl,a6,c4,c2,b1,b2,H,A⟩;clear q o B D E F;go_wp2_with fail;refine(ig (v:=.iface 450 (.agg #[])) (x:=.again) A rfl (by rw[u,t];omega)).mono ?_
 rintro l c8 ⟨rfl,c5,k⟩;clear A;obtain⟨B,D,E,F⟩:=dT (k.ax.hf _ Yb).1;have s:(bf .again (dt f (bf .hole a))).ag.length=a.ag.length+ht f+2:=by rw[tK,u,t];omega
 obtain⟨a7,a8,a9,b0,b6,b9⟩:=k.am;obtain⟨P,M,rfl,b4,b5,⟨d0,c1⟩,b7,p⟩:=sn (i:=a.ag.length) (x:=.array j g ((dt f (bf .hole a)).ag.length+1)) (v:=.iface 449 (.agg #[.int .i64 j,.bool g,.int .i64 ((bf .again (dt f (bf .hole a))).ag.length:Int)])) (k.aA (Below.refl _ _).drew) (by simp[jr,bf]) (by rw[s];omega)
 have p:=Z p;have K:=Z (ll (k.aA (Below.refl _ _).drew));have b8:(a.ag.length:Int)<((bf .again (dt f (bf .hole a))).ag.length:Int):=by rw[s];omega
 have J:=Z H;clear k H s u t;generalize S:(bf .again (dt f (bf .hole a))).ag.length=y at *
 clear S;go_wp2_with fail;refine cS (λw=>w.cell? ⟨b.C,0,none⟩=some (.slice (some ⟨P,0,none⟩) y M)/\w.cell? ⟨c.heap.size,1,none⟩=some (.int .i64 j)/\w.cell? ⟨c.heap.size,2,none⟩=some (.bool g)) (L:=12) (by kernel_rfl) rfl (by kernel_rfl) (by kernel_rfl) ?_ (λR=>?_)
 .go_keep
 refine bI [0,1,2,3,4,5,6,7] ?_;iterate 8 (refine bP (v:=?_) rfl (by kernel_rfl) (λ_ _ _ h=>h) (by rfl) (by assumption) ?_ ?_;rotate_left;focus (intro d r;(try dsimp only at r);go_simp;(try with_reducible rfl));(try simp only[aL,aM,List.set]))
 refine bJ ?_;refine ck 8 (by kernel_rfl) rfl λn m=>?_;(go_simp;go_at_call 128;refine K.j.mono ?_;rintro l c9 ⟨rfl,rfl⟩);refine m.out _ _ ?_ (λR=>?_)
 .go_keep
 clear m n;(try simp only[aL,aM,List.set]);refine bI [9,10,11] ?_;iterate 3 (refine bP (v:=?_) rfl (by kernel_rfl) (λ_ _ _ h=>h) (by rfl) (by assumption) ?_ ?_;rotate_left;focus (intro d r;(try dsimp only at r);go_simp;(try with_reducible rfl));(try simp only[aL,aM,List.set]))
 refine bJ ?_;refine cQ (by kernel_rfl) rfl λn m=>?_;go_simp;refine m.out _ _ ?_;clear m n;(try simp only[aL,aM,List.set]);go_wp2;go_end0;exact⟨rfl,(kX J.j p.j.c9).dA⟩
end
section
variable {e:eU}{g:List (Nat×Obj)}{h:List (dh×Value)}{et:List (List UInt8×dg×Value)}{j k:Value}{b t:Ty}{a:aU}{f c:World}
def zp{W:World}{m:Nat}{l:List (Int×Nat×Nat)}(e:W.heap[m]? = some (jH l))(f:(l.map (·.1)).Nodup)(b:Int)(c a:Nat) :
  (Instr.mapUpdate 389 (.map (some m)) (.int .i64 b) (.agg #[.int .i64 c,.int .i64 a])).run prog W=.ok () (dn W m (jH (bF l b (c,a)))):=
 pT (P:=prog) (T:=389) (kt:=2) (et:=394) (d:=.int .i64) (by kernel_rfl) (by kernel_rfl) (λb:Int=>.int .i64 b) (λa:Nat×Nat=>.agg #[.int .i64 a.1,.int .i64 a.2]) (λ_=>rfl) (λ_=>PJ _) Jj e f b (c,a)
def GA(c:World):Calls prog 207 #[.int .i64 4] c λa b=>a=.returned (.agg #[.int .i64 0,.int .i64 1,.slice none 0 0,.bool false])/\Below c.heap.size c b:=xj 4 c
def Kh(c:World)(b:Obj):c.heap.size<(c.alloc b).heap.size:=by simp
def Mq{Fr:List (Nat×Obj)}(b0:iM b)(o:Cp c e Fr g a k j h et f)(N:aV a 2) :
  Calls prog 209 #[.pointer (some ⟨e.C,0,none⟩),.agg #[bX b]] f λq b7=>q=.returned (.tuple #[])/\cL c e Fr g (dt (.opt b) a) b7:=by
 have d7:=jx;have G:=o.G (.cells #[bX b] 385);have d8:=N.ag;have b3:aV (bf .hole a) 1:=N.cv _;have c9:ht b<=1:=by cases b<;>simp[iM,ht]at *
 have O:=sg b (bf .hole a);have M:(bf .hole a).ag.length=a.ag.length+1:=by simp[bf]
 obtain⟨b9,a1,J⟩:=fm b;have a4:=Z J;rw[J]at G ⊢;clear o;go_in;go_wp2_with fail;refine(ig (v:=.iface 392 (.agg #[.int .i64 0,.int .i64 0,.slice none 0 0,.bool false,.map none,.pointer none])) (x:=.hole) G ⟨_,_,rfl⟩ (by omega)).mono ?_
 rintro q e4 ⟨rfl,e2,z⟩;have a5:=bM (z.ax.hf _ Yb).1;go_wp2_with fail;have E:=qA b0 z (b3.cs (by omega));rw[a4.j]at E;refine E.mono ?_;rintro q d ⟨rfl,c0,e3,e1,c6,c7,K,H⟩;clear E z a5;have L:(dt b (bf .hole a)).ag.length=a.ag.length+1+ht b:=by rw[O,M]
 have A:=H.G (.map #[] 0);have b6:=zp (W:=d.alloc (.map #[] 0)) (m:=d.heap.size) (l:=[]) (aK rfl) (by simp) 0 (dt b (bf .hole a)).ag.length 0;obtain⟨W1,t⟩:∃W1,W1=dn (d.alloc (.map #[] 0)) d.heap.size (jH (bF [] 0 ((dt b (bf .hole a)).ag.length,0))):=⟨_,rfl⟩;have P:ai [d.heap.size] (d.alloc (.map #[] 0)) W1:=by rw[t];exact gY _ _ _
 have w:W1.heap[d.heap.size]? = some (jH [(0,(dt b (bf .hole a)).ag.length,0)]):=by rw[t];exact kh (Kh _ _) _
 have I:=A.g3 P w;rw[<-t,show (((0:Nat)):Int)=0 from rfl]at b6;have S:=zp (W:=W1) (m:=d.heap.size) w (by simp) 1 (a.ag.length+1) 1;obtain⟨s,u⟩:∃s,s=dn W1 d.heap.size (jH (bF [(0,(dt b (bf .hole a)).ag.length,0)] 1 (a.ag.length+1,1))):=⟨_,rfl⟩;have R:ai [d.heap.size] W1 s:=by rw[u];exact gY _ _ _
 have a0:s.heap[d.heap.size]? = some (jH [(0,(dt b (bf .hole a)).ag.length,0),(1,a.ag.length+1,1)]):=by rw[u];exact kh (aj w) _
 have p:=(I.g3 R a0).h7;rw[<-u,show (((1:Nat)):Int)=1 from rfl]at S;rw[show (((a.ag.length+1:Nat)):Int)=(a.ag.length:Int)+1 by omega]at S;have a3:=Z (ll A);obtain⟨c1,c2,c3,c4,d3,d6⟩:=p.am;obtain⟨ad,a6,rfl⟩:=p.dG;have d5:(a.ag.length:Int)<((dt b (bf .hole a)).ag.length:Int):=by rw[L];omega
 have b1:a.ag.length<(dt b (bf .hole a)).ag.length:=by omega
 have p:=Z p;have a2:=Z K;have d9:a.ag.length<1000000:=by omega
 clear A I H K w a0 P R t u L O M;generalize a8:(dt b (bf .hole a)).ag.length=y at *
 go_wp2_with fail;refine a3.j.mono ?_;rintro q e5 ⟨rfl,rfl⟩;go_wp2_with fail;refine cS (λb8=>b8.cell? ⟨e.C,0,none⟩=some (.slice ad y a6)) (L:=10) (by kernel_rfl) rfl (by kernel_rfl) (by kernel_rfl) ?_ (λa7=>?_)
 .go_keep
 refine bI [0,1,2,3,4,6] ?_;iterate 6 (refine bP (v:=?_) rfl (by kernel_rfl) (λ_ _ _ o=>o) (by rfl) (by assumption) ?_ ?_;rotate_left;focus (intro c F;(try dsimp only at F);go_simp;(try with_reducible rfl));(try simp only[aL,aM,List.set]))
 refine bJ ?_;refine ck 5 (by kernel_rfl) rfl λx r=>?_;(go_simp;go_at_call 207;refine(GA _).mono ?_;rintro q e6 ⟨rfl,a9⟩;have B:=(p.j.aA (Below.refl _ _).drew).aA a9;have d0:=B.am.1;obtain⟨c8,c5,b4,d1,d2,⟨e7,e0⟩,d4,D⟩:=sn (i:=a.ag.length) (x:=.choice (eg 4) [(0,y,0),(1,a.ag.length+1,1)] none) (v:=.iface 392 (.agg #[.int .i64 0,.int .i64 1,.slice none 0 0,.bool false,.map (some d.heap.size),.pointer none])) B ⟨[.int .i64 0,.int .i64 1,.slice none 0 0,.bool false],d.heap.size,.pointer none,rfl,yo (n:=eg 4) _ (yp 4),by simp,rfl⟩ (by rw[a8];exact b1);have D:=Z D;clear B;cases b4)
 refine r.out _ _ ?_ (λa7=>?_)
 .go_keep
 clear r x;(try simp only[aL,aM,List.set]);refine bI [7,8,9] ?_;iterate 3 (refine bP (v:=?_) rfl (by kernel_rfl) (λ_ _ _ o=>o) (by rfl) (by assumption) ?_ ?_;rotate_left;focus (intro c F;(try dsimp only at F);go_simp;(try with_reducible rfl));(try simp only[aL,aM,List.set]))
 refine bJ ?_;refine cQ (by kernel_rfl) rfl λx r=>?_;go_simp;refine r.out _ _ ?_;clear r x;(try simp only[aL,aM,List.set]);go_wp2;go_end0;exact⟨rfl,(kX (λb5 b2=>Y5 _ (a2.j b5 b2)) D.j.c9).dA⟩
def RS{Fr:List (Nat×Obj)}(l:Int)(i:Bool)(v:iM b)(r:Cp c e Fr g a k j h et f)(w:aV a 3) :
  Calls prog 129 #[.pointer (some ⟨e.C,0,none⟩),.iface 382 (.agg #[bX b,.int .i64 l,.bool i])] f λq y=>q=.returned (.tuple #[])/\cL c e Fr g (dt (.arr b l i) a) y:=by
 obtain⟨m,n,p⟩:=fm b;have s:=Z p;rw[p];have z:∀d,(Instr.typeAssert (.iface 382 (.agg #[.iface m n,.int .i64 l,.bool i])) 240 260 true).run prog d=.ok (.tuple #[.agg #[.string ⟨#[]⟩,.int .i64 0],.bool false]) d:=λd=>by kernel_rfl
 have A:∀d,(Instr.typeAssert (.iface 382 (.agg #[.iface m n,.int .i64 l,.bool i])) 240 372 true).run prog d=.ok (.tuple #[.agg #[.int .i64 0],.bool false]) d:=λd=>by kernel_rfl
 have B:∀d,(Instr.typeAssert (.iface 382 (.agg #[.iface m n,.int .i64 l,.bool i])) 240 377 true).run prog d=.ok (.tuple #[.agg #[.int .i64 0,.bool false],.bool false]) d:=λd=>by kernel_rfl
 have D:∀d,(Instr.typeAssert (.iface 382 (.agg #[.iface m n,.int .i64 l,.bool i])) 240 380 true).run prog d=.ok (.tuple #[.agg #[.int .i64 0,.bool false],.bool false]) d:=λd=>by kernel_rfl
 have E:∀d,(Instr.typeAssert (.iface 382 (.agg #[.iface m n,.int .i64 l,.bool i])) 240 382 true).run prog d=.ok (.tuple #[.agg #[.iface m n,.int .i64 l,.bool i],.bool true]) d:=λd=>by kernel_rfl
 have u:∀b,Below f.heap.size f (f.alloc b):=λb=>(Below.refl _ _).alloc (Y4 _) _;have o:=λx=>FP l i v (r.aA (u x)) w;rw[s.j]at o;have o:=Z o;clear r p;go_in;go_wp2_with fail;refine(o.j _).mono ?_;rintro q F ⟨rfl,t⟩;go_wp2;go_end0;exact⟨rfl,t⟩
def RV{Fr:List (Nat×Obj)}(t:iM b)(p:Cp c e Fr g a k j h et f)(u:aV a 2) :
  Calls prog 129 #[.pointer (some ⟨e.C,0,none⟩),.iface 385 (.agg #[bX b])] f λo w=>o=.returned (.tuple #[])/\cL c e Fr g (dt (.opt b) a) w:=by
 obtain⟨i,l,n⟩:=fm b;have q:=Z n;rw[n];have x:∀d,(Instr.typeAssert (.iface 385 (.agg #[.iface i l])) 240 260 true).run prog d=.ok (.tuple #[.agg #[.string ⟨#[]⟩,.int .i64 0],.bool false]) d:=λd=>by kernel_rfl
 have y:∀d,(Instr.typeAssert (.iface 385 (.agg #[.iface i l])) 240 372 true).run prog d=.ok (.tuple #[.agg #[.int .i64 0],.bool false]) d:=λd=>by kernel_rfl
 have z:∀d,(Instr.typeAssert (.iface 385 (.agg #[.iface i l])) 240 377 true).run prog d=.ok (.tuple #[.agg #[.int .i64 0,.bool false],.bool false]) d:=λd=>by kernel_rfl
 have A:∀d,(Instr.typeAssert (.iface 385 (.agg #[.iface i l])) 240 380 true).run prog d=.ok (.tuple #[.agg #[.int .i64 0,.bool false],.bool false]) d:=λd=>by kernel_rfl
 have B:∀d,(Instr.typeAssert (.iface 385 (.agg #[.iface i l])) 240 382 true).run prog d=.ok (.tuple #[.agg #[.nilIface,.int .i64 0,.bool false],.bool false]) d:=λd=>by kernel_rfl
 have D:∀d,(Instr.typeAssert (.iface 385 (.agg #[.iface i l])) 240 385 true).run prog d=.ok (.tuple #[.agg #[.iface i l],.bool true]) d:=λd=>by kernel_rfl
 have s:∀b,Below f.heap.size f (f.alloc b):=λb=>(Below.refl _ _).alloc (Y4 _) _;have m:=λv=>Mq t (p.aA (s v)) u;rw[q.j]at m;have m:=Z m;clear p n;go_in;go_wp2_with fail;refine(m.j _).mono ?_;rintro o E ⟨rfl,r⟩;go_wp2;go_end0;exact⟨rfl,r⟩
def uG{Fr:List (Nat×Obj)}(n:gB t)(d:Cp c e Fr g a k j h et f)(i:aV a 3) :
  Calls prog 129 #[.pointer (some ⟨e.C,0,none⟩),bX t] f λo r=>o=.returned (.tuple #[])/\cL c e Fr g (dt t a) r:=by
 cases t with
 |arr b m l=>exact RS m l n d i
 |opt b=>exact RV n d (i.cs (by omega))
 |named t q=>exact qA (t:=.named t q) trivial d (i.cs (by omega))
 |plain p=>exact qA (t:=.plain p) trivial d (i.cs (by omega))
 |opaq m l=>exact qA (t:=.opaq m l) trivial d (i.cs (by omega))
 |str m l=>exact qA (t:=.str m l) trivial d (i.cs (by omega))
 |void=>exact qA (t:=.void) trivial d (i.cs (by omega))
def xn{Fr:List (Nat×Obj)}(l:gB t)(i:Cp c e Fr g a k j h et f)(m:aV a 4) :
  Calls prog 134 #[.pointer (some ⟨e.C,0,none⟩),bX t] f λb u=>b=.returned (.int .i64 a.ag.length)/\cL c e Fr g (nJ t a) u:=by
 have s:(dt t a).ag.length<1000000:=by
  have A:=sg t a;have B:=pC l;have D:=m.ag;omega
 have d:=Z (uG l i (m.cs (by omega)));obtain⟨x,w,q⟩:=fm t;rw[q]at d ⊢;go_in;go_wp2_with fail;refine(ll i).mono ?_;rintro b H ⟨rfl,rfl⟩;go_wp2_with fail;refine d.j.mono ?_;rintro b I ⟨rfl,p,F,E,y,z,r,n⟩;go_wp2_with fail;refine(ig (v:=.iface 397 (.agg #[])) (x:=.fin) n rfl s).mono ?_
 rintro b J ⟨rfl,G,o⟩;go_wp2;go_ret;exact⟨rfl,p,_,_,_,_,r,o⟩
end
section
variable {a:eU}{b:Nat}{bs:List (Nat×Obj)}{e:List (dh×Value)}{f:List (List UInt8×dg×Value)}{ks g:Value}{d:Obj}{s:aU}{u w:World}
def cL.ff{Fr:List (Nat×Obj)}(e:cL w a Fr bs s u)(c:w.heap[b]? = some d):u.heap[b]? = some d:=by
 obtain⟨_,_,_,_,_,_,f⟩:=e;exact(f.ax.kp.K _ (aj c) (by simp)).trans c
def Cp.ff{Fr:List (Nat×Obj)}(c:Cp w a Fr bs s g ks e f u)(h:w.heap[b]? = some d):u.heap[b]? = some d:=c.c9.ff h
def yG(b:List Ty):∀{s:aU} {n:Nat},(∀a∈b,gB a)->aV s (n+3*b.length)->aV (b.foldl (λs a=>dt a s) s) n:=by
 induction b with
 |nil=>intro s n _ c;exact c
 |cons a b f=>
  intro s n d c;have g:=pC (d a (by simp));exact f (λa e=>d a (Y5 _ e)) (sy a (c.cs (by simp only[YC];omega)))
def QA{Fr:List (Nat×Obj)}{G:List (Nat×Obj)}{a5:Nat}{O:List UInt8}{d:List aG}(b0:dx G b (.struct O a5 d))(L:∀M∈G,w.heap[M.1]? = some M.2)(c1:∀j∈d,gB j.L)(H:Cp w a Fr bs s g ks e f u)(K:aV s (4+3*d.length)) :
  Calls prog 132 #[.pointer (some ⟨a.C,0,none⟩),.pointer (some ⟨b,0,none⟩)] u λk c8=>k=.returned (.tuple #[])/\cL w a Fr bs (zd d s) c8:=by
 obtain⟨e7,a8,b9⟩:=b0;have J:=L _ a8;obtain⟨e3,e4,e5,_⟩:=dT (H.ff J);have E:=Z (λ(v:World) (m:cL w a Fr bs (bf (.struct d.length true) s) v)=>dT (m.ff J));have e2:=K.ag;have b6:aV (bf (.struct d.length true) s) (3+3*d.length):=aV.cv (K.cs (by omega)) _;have a1:=Z b6;have F:=Z c1;have D:=Z H;rcases b9 with⟨rfl,a7,_⟩|⟨m,d2,d3,rfl,⟨d6,e1⟩,b1,A⟩
 .have b5:d=[]:=Yv.1 a7;subst b5;go_in;go_wp2_with fail;refine(ig (x:=.struct 0 true) D.j rfl (by omega)).mono ?_;rintro k P ⟨rfl,c7,l⟩;obtain⟨c4,c5,c6,_⟩:=E.j _ l.c9;have r:=Z l.c9;go_wp2;go_loopw [21] (λh B=>h=.int .i64 0/\B=P) (λ_ _=>0)
  case atStart=>exact⟨rfl,rfl⟩
  case round=>
   obtain⟨rfl,rfl⟩:=hrel;go_wp2;go_end0;exact⟨rfl,r.j⟩
 .have b2:=L _ b1;have b8:∀(v:World) (N:aU),cL w a Fr bs N v->∀h (p:h<d.length),v.cell? ⟨m,h*3,none⟩=some (.string ⟨d[h].t.toArray⟩)/\v.cell? ⟨m,h*3+1,none⟩=some (.int .i64 d[h].w)/\v.cell? ⟨m,h*3+2,none⟩=some (bX d[h].L):=by
   intro v N a6 h p;have y:=a6.ff b2;have t:=lk (c:=ho) (n:=3) (λ_=>rfl) d h;refine⟨cw y A ?_,cw y A ?_,cw y A ?_⟩
   .have:=t 0 p (by omega);simpa using this
   .have:=t 1 p (by omega);simpa using this
   .have:=t 2 p (by omega);simpa using this
  have a0:=Z b8;go_in;go_wp2_with fail;refine(ig (x:=.struct d.length true) D.j rfl (by omega)).mono ?_;rintro k P ⟨rfl,c7,l⟩;obtain⟨c4,c5,c6,_⟩:=E.j _ l.c9;have r:=Z l.c9;go_wp2;go_loopw [21] (λh B=>∃(i:Nat),h=.int .i64 i/\i<=d.length/\U (cL w a Fr bs ((d.take i).foldl (λs j=>dt j.L s) (bf (.struct d.length true) s)) B)) (λh _=>d.length-(intOf h).toNat)
  case atStart=>exact⟨0,rfl,by omega,r⟩
  case round=>
   obtain⟨i,rfl,e0,q⟩:=hrel;rcases Yj i d.length with z|d7
   .obtain⟨e8,e9,c3⟩:=a0.j _ _ q.j i z;obtain⟨d0,f1,I⟩:=fm d[i].L;have a2:=Z I;rw[I]at c3;have d8:(0:Int)<=↑i:=by omega
    have d9:(↑i:Int) < ↑d.length:=by omega
    obtain⟨d1,f0,e6,d4,d5,a9,a3⟩:=q.j;have b7:aV ((d.take i).foldl (λs j=>dt j.L s) (bf (.struct d.length true) s)) 3:=by
     have k:=yG ((d.take i).map (·.L)) (s:=bf (.struct d.length true) s) (n:=3) (by intro O c0;obtain⟨j,b4,rfl⟩:=YE.1 c0;exact F.j j (List.mem_of_mem_take b4)) (a1.j.cs (by simp;omega));rw[List.foldl_map]at k;exact k
    have o:=λc2=>uG (F.j d[i] (Yy z)) (a3.aA ((Below.refl wr.heap.size wr).alloc (Y4 _) c2)) b7;rw[a2.j]at o;have o:=Z o;have S:=Z a9;go_wp2_with fail;refine(o.j _).mono ?_;rintro k c9 ⟨rfl,a4⟩;have R:U (cL w a Fr bs ((d.take (i+1)).foldl (λs j=>dt j.L s) (bf (.struct d.length true) s)) c9):=by
     rw[Yt z,YS];exact kX S.j a4
    go_wp2;exact⟨⟨i+1,by go_num,by omega,R⟩,by simp[intOf];omega⟩
   .have b3:i=d.length:=by omega
    subst b3;go_wp2;go_end0;refine⟨rfl,?_⟩;have:=q.j;rw[YG]at this;exact this
end
section
variable {a:eU}{d:List (Nat×Obj)}{f:List (dh×Value)}{g:List (List UInt8×dg×Value)}{h i:Value}{c:aU}{b e:World}
abbrev mp(e d:Int)(a:Option Addr)(b c:Nat)(f:Bool):List Value:=[.int .i64 e,.int .i64 d,.slice a b c,.bool f]
def iO.c0{b:List Value}{j:dg}(f:iO d b j):∃i h a c e k,b=mp i h a c e k:=by
 obtain⟨l,g,_,m,n,o,rfl⟩:=f;exact⟨_,_,_,_,_,_,g⟩
def OQ{Fr:List (Nat×Obj)}{u:Ty}(J:gm u)(z:Cp e a Fr d c i h f g b) :
  Calls prog 210 #[.pointer (some ⟨a.C,0,none⟩),bX u] b λy P=>∃o n q r s p,y=.returned (.agg (mp o n q r s p).toArray)/\iO d (mp o n q r s p) (nH c u)/\Below b.heap.size b P:=by
 have H:∀m,Below b.heap.size b (b.alloc m):=λm=>(Below.refl _ _).alloc (Y4 _) _;have x:∀m D,Below b.heap.size b ((b.alloc m).alloc D):=λm D=>(H m).alloc (by simp) _;cases u with
 |named t l=>
  have O:∀k,(Instr.typeAssert (.iface 260 (.agg #[.string ⟨t.toArray⟩,.int .i64 l])) 240 260 true).run prog k=.ok (.tuple #[.agg #[.string ⟨t.toArray⟩,.int .i64 l],.bool true]) k:=λk=>by kernel_rfl
  have G:=(z.aA (x (.cells #[.int .i64 0,.int .i64 0,.slice none 0 0,.bool false] 247) (.cells #[.string ⟨t.toArray⟩,.int .i64 l] 260))).aA (Below.refl _ _).drew;obtain⟨v,a6,a3,rfl,A⟩:=G.pe t;obtain⟨o,n,q,r,s,p,rfl⟩:=A.c0;obtain⟨S,a0,a1,a2,a5,I⟩:=z.am;have F:=Z A;dsimp only[bX];go_in;go_wp2;go_region;go_wp2;refine bodyPost_ret (v:=.agg #[.int .i64 o,.int .i64 n,.slice q r s,.bool p]) (by simp[results,results210,go_sem]) rfl ⟨o,n,q,r,s,p,rfl,F.j,?_⟩;exact(x _ _).drew
 |plain j=>
  have O:∀k,(Instr.typeAssert (.iface 372 (.agg #[.int .i64 j])) 240 260 true).run prog k=.ok (.tuple #[.agg #[.string ⟨#[]⟩,.int .i64 0],.bool false]) k:=λk=>by kernel_rfl
  have b1:∀k,(Instr.typeAssert (.iface 372 (.agg #[.int .i64 j])) 240 372 true).run prog k=.ok (.tuple #[.agg #[.int .i64 j],.bool true]) k:=λk=>by kernel_rfl
  dsimp only[bX];go_in;go_wp2_with fail;refine(xj j _).mono ?_;rintro y R ⟨rfl,B⟩;have w:R.heap[b.heap.size]? = some (.cells #[.int .i64 0,.int .i64 0,.slice none 0 0,.bool false] 247):=
   (B.block _ (by simp;omega)).trans ((Below.heap_alloc _ _ _ (by simp)).trans (aK rfl))
  obtain⟨a7,a8,a9,b0,a4⟩:=iK w;have I:=aj w;obtain⟨K,L,M,N,_⟩:=iK (yM (k':=.int .i64 (eg j).iy) (t':=.int .i64 (eg j).h9) (n':=.slice none 0 0) (a':=.bool (eg j).c2) w);have E:=Z (((((x _ _).trans (B.mono (by simp;omega))).setCell (p:=⟨b.heap.size,0,none⟩) (Y4 _) (.int .i64 (eg j).iy)).setCell (p:=⟨b.heap.size,1,none⟩) (Y4 _) (.int .i64 (eg j).h9)).setCell (p:=⟨b.heap.size,2,none⟩) (Y4 _) (.slice none 0 0) |>.setCell (p:=⟨b.heap.size,3,none⟩) (Y4 _) (.bool (eg j).c2));go_wp2;exact bodyPost_ret (v:=.agg #[.int .i64 (eg j).iy,.int .i64 (eg j).h9,.slice none 0 0,.bool (eg j).c2]) (by simp[results,results210,go_sem,K,L,M,N]) rfl ⟨(eg j).iy,(eg j).h9,none,0,0,(eg j).c2,rfl,yo _ (yp j),E.j⟩
 |_=>simp[gm]at J
def FL{Fr:List (Nat×Obj)}{j:aG}{ca:Option Addr}{cn cc:Nat}(a1:gB j.L)(E:Cp e a Fr d c i h f g b)(a0:aV c 3) :
  Calls prog 211 #[.pointer (some ⟨a.C,0,none⟩),.agg #[.slice ca cn cc,.string ⟨j.t.toArray⟩,.int .i64 j.w,bX j.L]] b λs a2=>s=.returned (.agg #[.int .i64 (fd j c).1,.int .i64 (fd j c).2])/\cL e a Fr d (kC j c) a2:=by
 have n:=(E.G (.cells #[.slice ca cn cc,.string ⟨j.t.toArray⟩,.int .i64 j.w,bX j.L] 363)).G (.cells #[.int .i64 0,.int .i64 0] 394);have m:=Z (ll n);have q:=n.G (.cells #[.int .i64 c.ag.length,.int .i64 1] 394);cases o:tl j.L with
 |true=>
  have A:j.L=.void:=by cases z:j.L<;>rw[z]at o<;>simp[tl]at o
  have F:∀l,(Instr.typeAssert (.iface 444 (.agg #[])) 240 444 true).run prog l=.ok (.tuple #[.agg #[],.bool true]) l:=λl=>by kernel_rfl
  have w:U (fd j c=(c.ag.length,0)):=by show _=_;simp[fd,A,tl]
  have I:U (kC j c=c):=by show _=_;simp[kC,A,dt]
  rw[A]at n q m ⊢;dsimp only[bX]at n q m ⊢;have J:=Z E;go_in;go_wp2_with fail;refine m.j.mono ?_;rintro s a3 ⟨rfl,rfl⟩;go_wp2;refine bodyPost_ret (v:=.agg #[.int .i64 c.ag.length,.int .i64 0]) (by simp[results,results211,go_sem]) rfl ⟨by rw[w.j];rfl,?_⟩;rw[I.j];exact((((J.j.G _).G _).G _).dA.dA.dA).c9
 |false=>
  have F:∀l,(Instr.typeAssert (bX j.L) 240 444 true).run prog l=.ok (.tuple #[.agg #[],.bool false]) l:=by
   intro l;cases z:j.L with
   |void=>rw[z]at o;simp[tl]at o
   |_=>kernel_rfl
  have w:U (fd j c=(c.ag.length,1)):=by show _=_;simp[fd,o]
  obtain⟨a4,b6,R⟩:=fm j.L;have r:=uG a1 q a0;rw[R]at n q m F r ⊢;have r:=Z r;go_in;go_wp2_with fail;refine m.j.mono ?_;rintro s a3 ⟨rfl,rfl⟩;go_wp2_with fail;refine r.j.mono ?_;rintro s k ⟨rfl,a5,b5,b4,b1,b2,S,x⟩;have G:=(x.ax.hf _ Yb).1;have u:=(x.ax.hf _ (Y5 _ Yb)).1;have D:=x.dA;simp only[World.size_alloc,Nat.add_assoc]at G u D;have L:k.cell? ⟨b.heap.size+2,0,none⟩=some (.int .i64 c.ag.length)/\k.cell? ⟨b.heap.size+2,1,none⟩=some (.int .i64 1):=by constructor<;>simp[World.cell?,G]
  have P:k.cell? ⟨b.heap.size+1,0,none⟩=some (.int .i64 0)/\k.cell? ⟨b.heap.size+1,1,none⟩=some (.int .i64 0)/\∀B,k.frozen? ⟨b.heap.size+1,B,none⟩=false:=by refine⟨?_,?_,?_⟩<;>simp[World.cell?,World.frozen?,u]
  obtain⟨a6,a7⟩:=L;obtain⟨a8,a9,b0⟩:=P;have H:=bv (i:=1) (bv (i:=0) u (.int .i64 c.ag.length)) (.int .i64 1);have M:((k.setCell ⟨b.heap.size+1,0,none⟩ (.int .i64 c.ag.length)).setCell ⟨b.heap.size+1,1,none⟩ (.int .i64 1)).cell? ⟨b.heap.size+1,0,none⟩=some (.int .i64 c.ag.length)/\((k.setCell ⟨b.heap.size+1,0,none⟩ (.int .i64 c.ag.length)).setCell ⟨b.heap.size+1,1,none⟩ (.int .i64 1)).cell? ⟨b.heap.size+1,1,none⟩=some (.int .i64 1):=by constructor<;>simp[World.cell?,H]
  obtain⟨N,O⟩:=M;have y:=D.g3 (((ah [b.heap.size+1] k).a6 (p:=⟨b.heap.size+1,0,none⟩) (by simp) (.int .i64 c.ag.length)).a6 (p:=⟨b.heap.size+1,1,none⟩) (by simp) (.int .i64 1)) H;have y:=Z y;have b3:=aj u;have K:=Z S;go_wp2;refine bodyPost_ret (v:=.agg #[.int .i64 c.ag.length,.int .i64 1]) (by simp[results,results211,go_sem,N,O]) rfl ⟨by rw[w.j];rfl,?_⟩;exact kX K.j y.j.dA.dA.c9
end
section
variable {b:List Int}{a:Value}{u v2 v3:World}
abbrev rH(a:Value):Obj:=.cells #[.int .i64 (-2147483648),.int .i64 2147483647,a,.bool false] 247
abbrev sm:Obj:=.cells #[.int .i64 0,.int .i64 0,.slice none 0 0,.bool false] 247
structure lQ(u:World)(k:Nat)(b:List Int)(a:Value)(v:World):Prop where
 ax:dE u ([u.heap.size+1]++(a.ownBlock.toList++[])) [(u.heap.size,sm)] [] v
 aD:v.heap[u.heap.size+1]? = some (rH a)
 row:v.ownsRow u.heap.size 2 1 a k (b.map λn=>Value.int .i64 n)
 nn:k=0->a=.slice none 0 0
def lQ.dL{v:World}{c g d:Nat}{n:Int}(e:lQ u c b a v)(j:Below v.heap.size v v2)
  (p:v3.ownsRow u.heap.size 2 1 (.slice (some ⟨g,0,none⟩) (c+1) d) (c+1) ((b.map λn=>Value.int .i64 n)++[.int .i64 n])) (k:v2.grownBy v3 a.ownBlock) (r:a.ownBlock=some g\/g=v2.heap.size) (w:g<v3.heap.size) :
  lQ u (c+1) (b++[n]) (.slice (some ⟨g,0,none⟩) (c+1) d) (v3.setCell ⟨u.heap.size+1,2,none⟩ (.slice (some ⟨g,0,none⟩) (c+1) d)):=by
 obtain⟨z,_⟩:=gK p (g:=g) rfl;have q:=e.ax.aA j;have t:=eL k;have o:=wG (A:=[u.heap.size+1]) (B:=[]) q k r w z;have l:ai [u.heap.size+1] v3 (v3.setCell ⟨u.heap.size+1,2,none⟩ (.slice (some ⟨g,0,none⟩) (c+1) d)):=(ah [u.heap.size+1] v3).a6 (by simp) _;have m:=e.ax.nd;have y:=o.nd;simp at m y;have s:u.heap.size+1 ∉ a.ownBlock.toList:=by
  intro x;exact m.1 (by simpa using x)
 have f:v2.heap[u.heap.size+1]? = some (rH a):=(j.block _ (aj e.aD)).trans e.aD;refine⟨o.b6 l (by simp),bv (i:=2) ((t.K _ (aj f) s).trans f) _,?_,by omega⟩;have:=aY p l (by
  intro C h;simp only[Value.ownBlock,Yu]at h;subst h;simp;omega)
 simpa using this
def lQ.dG{v:World}{d:Nat}(f:lQ u d b a v):∃ad c,a=.slice ad d c:=by
 rcases f.row.2 with⟨rfl,e⟩|⟨h,c,g,rfl,_⟩
 .exact⟨none,0,by rw[e]⟩
 .exact⟨_,_,rfl⟩
def lQ.hm{v:World}{i:Nat}(c:lQ u i b a v)(d:Below v.heap.size v v2)(g:v2.grownBy v3 a.ownBlock):v3.heap[u.heap.size+1]? = some (rH a):=by
 have h:=aj c.aD;have e:=c.ax.nd;have j:=d.size;simp at e;exact(g.block _ (by omega) (λf=>e.1 (by rw[<-f]))).trans ((d.block _ h).trans c.aD)
def BE(u:World):lQ u 0 [] (.slice none 0 0) ((u.alloc sm).alloc (rH (.slice none 0 0))):=by
 have c:(u.alloc sm).heap.size=u.heap.size+1:=by simp
 refine⟨⟨((ah [] u).G _).G _,?_,?_,by simp[Value.ownBlock],?_,?_,by simp,by simp,by simp⟩,aK c.symm,⟨by simp,Y8 ⟨rfl,rfl⟩⟩,λ_=>rfl⟩
 .intro e b;simp[Value.ownBlock]at b;omega
 .intro e b;simp[Value.ownBlock]at b;simp;omega
 .intro d a;simp only[Yc]at a;subst a;refine⟨(Below.heap_alloc _ _ _ (by simp)).trans (aK rfl),by simp[Value.ownBlock]⟩
 .intro d a;cases a
def EN(u:World)(k:List (List UInt8×Nat×Int))(j:Ending)(e:World):Prop:=∃d c g h i f b,j=.returned (.agg (mp d c g h i f).toArray)/\iO b (mp d c g h i f) (kb k)/\Below u.heap.size u e/\∀a∈b,e.heap[a.1]? = some a.2/\u.heap.size<=a.1
def Kv{J:List (Nat×Obj)}{z b2:Nat}{t:List UInt8}{c:List (List UInt8×Nat×Int)}(c9:dx J z (.enum t b2 c))(y:∀p∈J,u.heap[p.1]? = some p.2) :
  Calls prog 130 #[.pointer (some ⟨z,0,none⟩)] u (EN u c):=by
 obtain⟨f4,j,c5,h0,e6,d0⟩:=c9;have R:=y _ c5;obtain⟨h2,h3,f3,_⟩:=dT R;obtain⟨f2,d6,e8,e9,f0⟩:=info_parts Be;have b0:=Z (BE u);have e0:=aj R;have hY:∀(a:Value) (v:World),lQ u c.length (c.map (·.2.2)) a v->c.length<=1000->∃h k l o,a=.slice h k l/\iO o (mp (-2147483648) 2147483647 h k l false) (kb c)/\(∀p∈o,p.1≠u.heap.size/\v.heap[p.1]? = some p.2/\u.heap.size<=p.1):=by
  intro a v f e1;rcases f.row.2 with⟨rfl,C⟩|⟨q,K,A,rfl,d1,d2,d3,g5,g6,d4⟩
  .have i:c=[]:=Yv.1 C;subst i;exact⟨none,0,0,[],rfl,⟨_,rfl,by simp[kb,wE],_,_,_,rfl⟩,by intro p g;cases g⟩
  .refine⟨_,_,_,[(q,.cells A 2)],rfl,⟨_,rfl,?_,_,_,_,rfl⟩,?_⟩
   .simp only[kb];by_cases i:c=[]
    .have:=f.nn (by simp[i]);cases this
    .rw[Y2 i];refine⟨by simpa using i,Ya ⟨q,K,A,by simp,⟨by simpa using d3,by simpa using e1⟩,by simp,?_⟩⟩;simpa using d4
   .intro p g;simp only[Yc]at g;subst g;have:=f.ax.hf (u.heap.size,sm) (by simp);refine⟨λN=>this.2 ?_,d2,d1⟩;simp only at N;simp[Value.ownBlock,N]
 have a7:=Z hY;have g2:((u.alloc sm).alloc (rH (.slice none 0 0))).cell? ⟨z,2,none⟩=some f4:=by
  rw[World.cell?_of_block (w:=u) (((BE u).ax.kp.K _ e0 (by simp)))];exact f3
 rcases e6 with⟨rfl,C,_⟩|⟨q,K,A,rfl,⟨g4,e3⟩,S,e7⟩
 .have i:c=[]:=Yv.1 C;subst i;go_in;go_wp2;go_loopw [12] (λd G=>d=.int .i64 0/\G=(u.alloc sm).alloc (rH (.slice none 0 0))) (λ_ _=>0)
  case atStart=>exact⟨rfl,rfl⟩
  case round=>
   obtain⟨rfl,rfl⟩:=hrel;go_wp2;refine bodyPost_ret (v:=.agg #[.int .i64 (-2147483648),.int .i64 2147483647,.slice none 0 0,.bool false]) (by simp[results,results130,go_sem]) rfl ⟨-2147483648,2147483647,none,0,0,false,[],rfl,⟨_,rfl,by simp[kb,wE],_,_,_,rfl⟩,?_,by intro p g;cases g⟩;exact((Below.refl _ _).alloc (Y4 _) _).alloc (by simp) _
 .have e5:∀(v:World),ai [] u v->∀d (a0:d<c.length) (F:d<j.length),v.cell? ⟨q,d,none⟩=some (.pointer (some ⟨j[d],0,none⟩))/\v.cell? ⟨j[d],2,none⟩=some (.int .i64 c[d].2.2)/\j[d]<u.heap.size/\u.cell? ⟨j[d],2,none⟩=some (.int .i64 c[d].2.2):=by
   intro v a2 d a0 F;have d5:=(a2.K _ (aj (y _ S)) (by simp)).trans (y _ S);have s:=y _ (d0 d a0 F);have c8:=(a2.K _ (aj s) (by simp)).trans s;exact⟨cw d5 e7 (by simp[F]),(dT c8).2.2.1,aj s,(dT s).2.2.1⟩
  have a9:=Z e5;go_in;go_wp2;go_loopw [12] (λd G=>∃(b:Nat) (a:Value),d=.int .i64 b/\b<=c.length/\U (lQ u b ((c.take b).map (·.2.2)) a G)) (λd _=>c.length-(intOf d).toNat)
  case atStart=>exact⟨0,_,rfl,by omega,b0⟩
  case round=>
   obtain⟨b,a,rfl,x,e⟩:=hrel;rcases Yj b c.length with a1|g7
   .obtain⟨h4,h5,f9,g0⟩:=a9.j _ e.j.ax.kp b a1 (by omega);obtain⟨ad,M,rfl⟩:=e.j.dG;obtain⟨b4,b5,b6,b7,b8⟩:=iK e.j.aD;have g8:(0:Int)<=↑b:=by omega
    have g9:(↑b:Int) < ↑c.length:=by omega
    have d8:b+1<=maxLen:=by unfold maxLen;omega
    have d9:(b+1)*8<=140737488355328:=by omega
    have f1:(Value.int .i64 0).cells.size=1:=rfl;have h1:u.heap.size<=wr.heap.size:=e.j.ax.kp.a2;have nk:u.heap.size+1<wr.heap.size:=aj e.j.aD;go_wp2_with fail;refine cS (λa5=>a5.cell? ⟨u.heap.size+1,2,none⟩=some (.slice ad b M)/\a5.cell? ⟨j[b],2,none⟩=some (.int .i64 c[b].2.2)) (L:=9) (by kernel_rfl) rfl (by kernel_rfl) (by kernel_rfl) ?_ (λP=>?_)
    .go_keep
    refine bI [0,1,2,3,4,5] ?_;iterate 6 (refine bP (v:=?_) rfl (by kernel_rfl) (λ_ _ _ B=>B) (by rfl) (by assumption) ?_ ?_;rotate_left;focus (intro H E;(try dsimp only at E);go_simp;(try with_reducible rfl));(try simp only[aL,aM,List.set]))
    refine bJ ?_;refine ck 6 (by kernel_rfl) rfl λI m=>?_;go_simp;refine m.out _ _ ?_ (λP=>?_)
    .go_keep
    (try simp only[aL,aM,List.set]);refine ck 7 (by kernel_rfl) rfl λI m=>?_;(refine step_append_lies _ (by rfl) _ _ _ (by rfl) u.heap.size 2 f2 _ 1 8 underlying245 d6 e8 e9 f0 f1 (by omega) (.slice ad b M) b (((c.take b).map (·.2.2)).map λa4=>Value.int .i64 a4) (by rfl) (aY (e.j.row) (((ah [] wr).G _).a9) (by simp)) ⟨wr.heap.size,0,none⟩ 1 1 [.int .i64 c[b].2.2] (by rfl) (by rfl) (World.news_of_block (cs:=#[.int .i64 c[b].2.2]) (t:=2) (fr:=(0,0)) (heap_alloc_new wr _)) (by simp[Value.oneCell']) (by omega) d8 d9 (by simp;omega) (wr.heap.size+1) (by simp) ?_;intro c0 b3 g1 e4 w c4 e2;have r:Below wr.heap.size wr (wr.alloc (.cells #[.int .i64 c[b].2.2] 2)).drew:=((Below.refl _ _).alloc (Y4 _) _).drew;obtain⟨i1,i2,i3,i4,i6⟩:=iK (e.j.hm r w);have i7:=aj (e.j.hm r w);have i5:g1.cell? ⟨j[b],2,none⟩=some (.int .i64 c[b].2.2):=by rw[World.cell?_of_block (w:=u) (((e.j.ax.aA r).kp.ce (eL w) (by intro h a3;exact Ya (e.j.ax.aQ _ (by simp at a3 ⊢;exact Ya a3)))).K _ f9 (by simp))];exact g0);refine m.out _ _ ?_ (λP=>?_)
    .go_keep
    (try simp only[aL,aM,List.set]);refine tk (i:=8) (v:=?_) rfl (by kernel_rfl) (λ_ _ _ B=>B) (by rfl) (by assumption) ?_ ?_;rotate_left
    .intro H E;(try dsimp only at E);go_simp;(try with_reducible rfl)
    (try simp only[aL,aM,List.set]);refine cQ (by kernel_rfl) rfl λI m=>?_;go_simp;refine m.out _ _ ?_;(try simp only[aL,aM,List.set]);have b1:=Z (e.j.dL (n:=c[b].2.2) r e4 w (by simpa using c4) e2);go_wp2;refine⟨⟨b+1,.slice (some ⟨c0,0,none⟩) (b+1) b3,by go_num,by omega,?_⟩,by simp[intOf];omega⟩;have b9:(c.take (b+1)).map (·.2.2)=(c.take b).map (·.2.2)++[c[b].2.2]:=by rw[Yt a1,List.map_append];rfl
    rw[b9];exact b1
   .have d7:b=c.length:=by omega
    subst d7;have f:=e.j;rw[YG]at f;obtain⟨h,k,l,o,rfl,c3,c7⟩:=a7.j _ _ f e3;obtain⟨b4,b5,b6,b7,b8⟩:=iK f.aD;have D:=(f.ax.hf _ Yb).1;obtain⟨h6,h7,h8,h9,i0⟩:=iK D;have g3:=aj D;obtain⟨f5,f6,f7,f8,_⟩:=iK (yM (k':=.int .i64 (-2147483648)) (t':=.int .i64 2147483647) (n':=.slice h k l) (a':=.bool false) D);have n:=Z f.ax.kp;have a8:=Z c3;have a6:=Z c7;go_wp2;refine bodyPost_ret (v:=.agg #[.int .i64 (-2147483648),.int .i64 2147483647,.slice h k l,.bool false]) (by simp[results,results130,go_sem,f5,f6,f7,f8]) rfl ⟨-2147483648,2147483647,h,k,l,false,o,rfl,a8.j,?_,?_⟩
    .have c6:Below u.heap.size u wr:=⟨n.j.os,n.j.d9,n.j.d8,n.j.a2,λb x=>n.j.K b x (by simp)⟩;exact(((c6.setCell (p:=⟨u.heap.size,0,none⟩) (Y4 _) _).setCell (p:=⟨u.heap.size,1,none⟩) (Y4 _) _).setCell (p:=⟨u.heap.size,2,none⟩) (Y4 _) _).setCell (p:=⟨u.heap.size,3,none⟩) (Y4 _) _
    .intro p g;obtain⟨c1,O,c2⟩:=a6.j p g;refine⟨?_,c2⟩;have x:ai [u.heap.size] wr ((((wr.setCell ⟨u.heap.size,0,none⟩ (.int .i64 (-2147483648))).setCell ⟨u.heap.size,1,none⟩ (.int .i64 2147483647)).setCell ⟨u.heap.size,2,none⟩ (.slice h k l)).setCell ⟨u.heap.size,3,none⟩ (.bool false)):=
      ((((ah [u.heap.size] wr).a6 (p:=⟨u.heap.size,0,none⟩) (by simp) _).a6 (p:=⟨u.heap.size,1,none⟩) (by simp) _).a6 (p:=⟨u.heap.size,2,none⟩) (by simp) _).a6 (p:=⟨u.heap.size,3,none⟩) (by simp) _
     exact(x.K _ (aj O) (by simpa using c1)).trans O
end
section
variable {b u d : World} {e : List Nat} {Fr c : List (Nat × Obj)}
def dE.g2{n:List Nat}(a:dE b e Fr c u)(k:ai n u d)(m:∀g∈n,b.heap.size<=g/\g ∉ e/\(∀f∈Fr,f.1≠g)/\(∀f∈c,f.1≠g)):dE b e Fr c d:=by
 refine⟨a.kp.ce k (λg i=>Ya (m g i).1),a.aQ,λp o=>Yr (a.lt p o) k.a2,a.nd,?_,?_,a.f7,a.g5,a.g6⟩
 .intro f j;obtain⟨h,l⟩:=a.hf f j;exact⟨(k.K _ (aj h) (λi=>(m _ i).2.2.1 f j rfl)).trans h,l⟩
 .intro f j;obtain⟨h,l⟩:=a.hb f j;exact⟨(k.K _ (aj h) (λi=>(m _ i).2.2.2 f j rfl)).trans h,l⟩
def dE.l5(f:dE b e Fr c u){g:Nat}{j:Obj}(n:u.heap[g]? = some j)(q:b.heap.size<=g)(p:g ∉ e)(m:∀d∈Fr,d.1≠g)(l:∀d∈c,d.1≠g):dE b e ((g,j)::Fr) c u:=by
 refine⟨f.kp,f.aQ,f.lt,f.nd,?_,f.hb,?_,?_,?_⟩
 .intro d a;rcases Yg.1 a with rfl|a
  .exact⟨n,p⟩
  .exact f.hf d a
 .simp only[List.map_cons,List.nodup_cons];refine⟨?_,f.f7⟩;intro o;obtain⟨d,a,h⟩:=YE.1 o;exact m d a h
 .intro d a;rcases Yg.1 a with rfl|a
  .exact q
  .exact f.g5 d a
 .intro d a k i;rcases Yg.1 a with rfl|a
  .exact λh=>l k i h.symm
  .exact f.g6 d a k i
def dE.k8{k:List (Nat×Obj)}(i:dE b e Fr c u)(m:Below u.heap.size u d)(j:∀a∈k,d.heap[a.1]? = some a.2/\u.heap.size<=a.1):dE b e Fr (k++c) d:=by
 have f:=i.aA m;refine⟨f.kp,f.aQ,f.lt,f.nd,f.hf,?_,f.f7,f.g5,?_⟩
 .intro a g;rcases Yn.1 g with g|g
  .refine⟨(j a g).1,λn=>?_⟩;have:=i.lt _ n;have:=(j a g).2;omega
  .exact f.hb a g
 .intro a g l h;rcases Yn.1 h with h|h
  .have:=aj (i.hf a g).1;have:=(j l h).2;omega
  .exact f.g6 a g l h
end
section
variable {b u d : World} {a : eU} {Fr c : List (Nat × Obj)} {s : aU} {f ks : Value} {h : List (dh × Value)} {i : List (List UInt8 × dg × Value)}
def Ez{g:List (Nat×Obj)}(j:Cp b a Fr c s f ks h i u)(k:Below u.heap.size u d)(l:∀e∈g,d.heap[e.1]? = some e.2/\u.heap.size<=e.1):Cp b a Fr (g++c) s f ks h i d:=
 j.hU (bt [] k) (by simp) (λ_ m=>Ym _ m) (j.ax.k8 k l)
def nN(d:List (Nat×Obj))(e:Value)(a:List Nat):Prop:=
 (d=[]/\e=.slice none 0 0/\a=[])\/∃f b c,d=[(f,.cells c 3)]/\e=.slice (some ⟨f,0,none⟩) a.length b/\a.length<=b/\b<=maxLen/\c.size=b/\c.toList.take a.length=a.map rC
def nN.dG{c:List (Nat×Obj)}{b:Value}{l:List Nat}(d:nN c b l):∃ad a,b=.slice ad l.length a:=by
 rcases d with⟨_,rfl,rfl⟩|⟨f,a,e,_,rfl,_⟩
 .exact⟨none,0,rfl⟩
 .exact⟨_,_,rfl⟩
def nN.p2{e:List (Nat×Obj)}{g:Value}{d:List Nat}(n:nN e g d)(j:Cp b a (e++Fr) c s f ks h i u):u.ownsRow b.heap.size 3 1 g d.length (d.map rC):=by
 refine⟨by simp,?_⟩;rcases n with⟨_,rfl,rfl⟩|⟨m,k,l,rfl,rfl,o,p,q,r⟩
 .exact Y8 ⟨rfl,rfl⟩
 .exact Ya ⟨m,k,l,rfl,j.ax.g5 _ Yb,(j.ax.hf _ Yb).1,o,p,by simpa using q,by simpa using r⟩
def nN.bZ{A:List (Nat×Obj)}{w:Value}{l:List Nat}{q m:World}{g v J:Nat}(p:nN A w l)(P:Cp b a (A++Fr) c s f ks h i u)(M:Below u.heap.size u q)
  (G:m.ownsRow b.heap.size 3 1 (.slice (some ⟨g,0,none⟩) (l.length+1) v) (l.length+1) ((l.map rC)++[.int .i64 J])) (N:q.grownBy m w.ownBlock) (r:w.ownBlock=some g\/g=q.heap.size) :
  ∃B,nN B (.slice (some ⟨g,0,none⟩) (l.length+1) v) (l++[J])/\Cp b a (B++Fr) c s f ks h i m:=by
 obtain⟨H,b0⟩:=gK G (g:=g) rfl;rcases G.2 with⟨L,_⟩|⟨a4,a2,C,n,_,z,R,S,a0,a1⟩
 .cases L
 cases n
 have e:=P.aA M;have k:=eL N;refine⟨[(g,.cells C 3)],Ya ⟨g,v,C,rfl,by simp,by simpa using R,S,by simpa using a0,by simpa using a1⟩,?_⟩;rcases p with⟨rfl,rfl,rfl⟩|⟨a5,a3,K,rfl,rfl,a6,a7,a8,a9⟩
 .simp only[Value.ownBlock]at r k;have O:g=q.heap.size:=by
   rcases r with p|p
   .cases p
   .exact p
  have E:ai [] q m:=k.af (by simp);have y:dE b (ft a f ks) Fr c m:=e.ax.b6 E (by simp);refine e.hU E (by simp) (λ_ d=>d) (y.l5 z H ?_ ?_ ?_)
  .intro x;have:=e.ax.lt _ x;omega
  .intro j d;have:=aj (e.ax.hf j d).1;omega
  .intro j d;have:=aj (e.ax.hb j d).1;omega
 .simp only[Value.ownBlock,Yu,Option.toList_some]at r k;rcases r with rfl|O
  .exact Cp.g3 (o:=.cells K 3) e k z
  .have F:=e.ax.f7;simp only[YX,YT,List.map_cons,List.nodup_cons]at F;have D:=e.ax.hf _ Yb;have t:=e.dA;have y:dE b (ft a f ks) Fr c m:=t.ax.g2 k (by
    intro b1 I;simp only[Yc]at I;subst I;refine⟨e.ax.g5 _ Yb,D.2,?_,?_⟩
    .intro j d n;exact F.1 (by rw[<-n];exact List.mem_map_of_mem d)
    .intro j d n;exact e.ax.g6 _ Yb j d n.symm)
   refine t.hU k (by simpa using D.2) (λ_ d=>d) (y.l5 z H ?_ ?_ ?_)
   .intro x;have:=e.ax.lt _ x;omega
   .intro j d;have:=aj (t.ax.hf j d).1;omega
   .intro j d;have:=aj (t.ax.hb j d).1;omega
end
section
variable {A B d:List (Nat×Obj)}{z:TypeId}{a:eU}{c i:Nat}{o p u y g h:Value}{e:List (dh×Value)}{f:List (List UInt8×dg×Value)}{m r:Obj}{k D s t:Nat×Obj}{b:aU}{j l w:World}
def Cp.d5(c:Cp w a (A++k::B) d b h g e f j):Cp w a (k::(A++B)) d b h g e f j:=by
 refine c.cc (λl i=>List.perm_middle.mem_iff.2 i) ?_;have:=c.ax.f7;rw[(List.perm_middle.map _).nodup_iff]at this;exact this
def Cp.c7(c:Cp w a (k::(A++B)) d b h g e f j):Cp w a (A++k::B) d b h g e f j:=by
 refine c.cc (λl i=>List.perm_middle.mem_iff.1 i) ?_;have:=c.ax.f7;rw[(List.perm_middle.map _).nodup_iff];exact this
def Cp.m7(c:Cp w a A d b h g e f j)(i:A.Perm B):Cp w a B d b h g e f j:=by
 refine c.cc (λl k=>i.mem_iff.2 k) ?_;have:=c.ax.f7;rw[(i.map _).nodup_iff]at this;exact this
def Cp.n9(c:Cp w a (k::D::(A++B)) d b h g e f j):Cp w a (A++k::D::B) d b h g e f j:=
 c.m7 (List.perm_middle.trans (List.perm_middle.cons k)).symm
def ud(c:Cp w a (A++(i,m)::B) d b h g e f j)(k:ai [i] j l)(n:l.heap[i]? = some r):Cp w a (A++(i,r)::B) d b h g e f l:=(c.d5.g3 k n).c7
def Cp.q3(c:Cp w a (A++s::t::(i,m)::B) d b h g e f j)(k:ai [i] j l)(n:l.heap[i]? = some r):Cp w a (A++s::t::(i,r)::B) d b h g e f l:=by
 have:=ud (A:=A++[s,t]) (B:=B) (by simpa using c) k n;simpa using this
def Cp.q4{c:Nat×Obj}(k:Cp w a (A++s::t::c::(i,m)::B) d b h g e f j)(n:ai [i] j l)(o:l.heap[i]? = some r):Cp w a (A++s::t::c::(i,r)::B) d b h g e f l:=by
 have:=ud (A:=A++[s,t,c]) (B:=B) (by simpa using k) n o;simpa using this
def Cp.lb(c:Cp w a (A++k::D::B) d b h g e f j):Cp w a (A++B) (k::d) b h g e f j:=
 (Cp.h7 (c.m7 (List.perm_middle.trans (List.perm_middle.cons k)))).dA
abbrev mc(b a:Int)(x:Option Addr)(e f:Nat)(d:Bool)(i:Nat)(c:Value):Array Value:=#[.int .i64 b,.int .i64 a,.slice x e f,.bool d,.map (some i),c]
structure uu(w:World)(a:eU)(Fr d:List (Nat×Obj))(C:Value->Array Value)(S i:Nat)(q:mO)(esl:Value)(ur:World):Prop where
 nd:(q.d4.map (·.1)).Nodup
 ex:∃bs' ov E h g e f,(∀k∈d,k∈bs')/\sx bs' ov q.g2/\(∃pa,ov=.pointer pa)/\nN E esl q.c1/\Cp w a (E++((i,jH q.d4)::(S,.cells (C ov) 392)::Fr)) bs' q.s h g e f ur
def uD{a b:Value}(d:w.heap[c]? = some (.cells #[o,p,u,y,a,b] z)) :
  w.cell? ⟨c,0,none⟩=some o/\w.cell? ⟨c,1,none⟩=some p/\w.cell? ⟨c,2,none⟩=some u/\w.cell? ⟨c,3,none⟩=some y/\w.cell? ⟨c,4,none⟩=some a/\w.cell? ⟨c,5,none⟩=some b/\(∀e,w.frozen? ⟨c,e,none⟩=false)/\c<w.heap.size:=by
 refine⟨?_,?_,?_,?_,?_,?_,?_,aj d⟩<;>simp[World.cell?,World.frozen?,d]
def sM(a:w.heap[c]? = some (.cells #[o,p] z)) :
  w.cell? ⟨c,0,none⟩=some o/\w.cell? ⟨c,1,none⟩=some p/\(∀b,w.frozen? ⟨c,b,none⟩=false)/\c<w.heap.size:=by
 refine⟨?_,?_,?_,aj a⟩<;>simp[World.cell?,World.frozen?,a]
def Af(a:w.heap[c]? = some (.cells #[o,p,u,y] z)) :
  w.cell? ⟨c,0,none⟩=some o/\w.cell? ⟨c,1,none⟩=some p/\w.cell? ⟨c,2,none⟩=some u/\w.cell? ⟨c,3,none⟩=some y/\(∀b,w.frozen? ⟨c,b,none⟩=false)/\c<w.heap.size:=by
 refine⟨?_,?_,?_,?_,?_,aj a⟩<;>simp[World.cell?,World.frozen?,a]
def sx.a4{a:List (Nat×Obj)}(g:∀k∈d,k∈a){v:Value}{m:Option (Nat×Nat)}(b:sx d v m):sx a v m:=by
 cases m with
 |none=>exact b
 |some h=>obtain⟨c,e,f⟩:=b;exact⟨c,e,g _ f⟩
def Ox{b:mO}{a:Nat}{c:List Int×aG}(e:oY c.2.L)(d:aV b.s (a+4)):aV (fo b c).s a:=by
 have f:=pC e.g7;exact aV.cv (sy _ (d.cs (by omega))) _
def yH:∀(a:List (List Int×aG)) {q:mO} {n:Nat},kV a->aV q.s (n+4*a.length)->aV (a.foldl fo q).s n:=by
 intro a;induction a with
 |nil=>intro q n _ b;exact b
 |cons f a e=>
  intro q n c b;exact e (λg d=>c g (Y5 _ d)) (Ox (c f (by simp)) (b.cs (by simp only[YC];omega)))
def AI:∀(a:List (List Int×aG)) (b:mO),(a.foldl fo b).c1.length=b.c1.length+a.length:=by
 intro a;induction a with
 |nil=>intro b;rfl
 |cons d a c=>intro b;simp only[YY];rw[c];simp[fo];omega
def FO:∀(b:List (List Int×aG)) (a:mO),a.s.ag.length<=(b.foldl fo a).s.ag.length:=by
 intro b;induction b with
 |nil=>intro a;exact Y4 _
 |cons d b c=>
  intro a;simp only[YY];refine Yz ?_ (c (fo a d));simp only[fo,tK,kC,sg];omega
def HE:∀(b:List (List Int×aG)) (a:mO),(∀c∈a.c1,c<a.s.ag.length)->∀c∈(b.foldl fo a).c1,c<(b.foldl fo a).s.ag.length:=by
 intro b;induction b with
 |nil=>intro a e;exact e
 |cons g b f=>
  intro a e;simp only[YY];refine f (fo a g) ?_;intro c d;simp only[fo,Yn,Yc]at d ⊢;simp only[tK,kC,sg]at d ⊢;rcases d with d|rfl
  .have:=e c d;omega
  .omega
def sU(a:List Nat):∀b:aU,(hX a b).ag.length=b.ag.length:=by
 induction a with
 |nil=>intro b;rfl
 |cons c a d=>
  intro b;have:=d (dC c (.jump b.ag.length) b);simp only[dC,YF]at this;exact this
def HC(a:List Nat)(c:Nat)(b:aU):hX (a++[c]) b=dC c (.jump b.ag.length) (hX a b):=by
 have:=sU a b;simp only[hX,YS,YY,List.foldl_nil]at this ⊢;rw[this]
def Jb:(prog.info? 3).map (λa=>(a.zero,a.size,a.bytes))=some (some (.int .i64 0),1,8):=by kernel_rfl
end
set_option maxHeartbeats 8000000 in
def RN{j l3:World}{q:eU}{Fr M:List (Nat×Obj)}{g:aU}{t4 k8:Value}{n5:List (dh×Value)}{i2:List (List UInt8×dg×Value)}{h7:List (Nat×Obj)}{h6 m8:Nat}{t:List UInt8}{z:aG}{a:List (List Int×aG)}(o8:dx h7 h6 (.union t m8 z a))(b9:∀p∈h7,j.heap[p.1]? = some p.2)(q7:gm z.L)(k6:kV a)(P:Cp j q Fr M g t4 k8 n5 i2 l3)(g4:aV g (8+4*a.length)) :
  Calls prog 133 #[.pointer (some ⟨q.C,0,none⟩),.pointer (some ⟨h6,0,none⟩)] l3 λk t8=>k=.returned (.tuple #[])/\cL j q Fr M (tZ z a g) t8:=by
 have w7:=jx;obtain⟨h5,d0,o1,v3,d9,j4⟩:=o8;have j1:=b9 _ o1;have g8:=Z (λ(v:World) (g5:ai [] j v)=>uD ((g5.K _ (aj j1) (by simp)).trans j1));obtain⟨r7,r8,r9,s0,k7,s1,_,_⟩:=g8.j _ P.ax.kp;obtain⟨r6,p4,r2,r3,r4⟩:=info_parts Jb;obtain⟨u1,y7,i6⟩:=fm z.L;have b6:=OQ q7 P;rw[i6]at k7 b6;have w9:=g4.ag;have b6:=Z b6;have l8:=Z P;have m6:U (aV (bf .hole g) (7+4*a.length)):=aV.cv (g4.cs (by omega)) _;have e6:=Z k6;clear P k6 g4 i6;go_in;go_wp2_with fail;refine b6.j.mono ?_;rintro k D ⟨B,s,l,F,G,E,rfl,d5,j0⟩;have a1:=((l8.j.aA j0).G (.map #[] 0)).G (.cells (mc B s l F G E D.heap.size (.pointer none)) 392);have q9:(D.alloc (.map #[] 0)).heap.size=D.heap.size+1:=by simp
 rw[q9]at a1;have b2:=Z (ig (v:=.iface 392 (.agg (mc B s l F G E D.heap.size (.pointer none)))) (x:=.hole) a1 ⟨_,_,rfl⟩ (by omega))
 have m1:=Z d5;clear a1 d5 j0 b6;go_wp2_with fail;refine b2.j.mono ?_;rintro k l5 ⟨rfl,t6,c8⟩;have b3:Cp j q ((D.heap.size,.map #[] 0)::(D.heap.size+1,.cells (mc B s l F G E D.heap.size (.pointer none)) 392)::Fr) M (bf .hole g) t6 k8 _ i2 l5:=Cp.c7 (A:=[_]) c8;have h3:U (uu j q Fr M (mc B s l F G E D.heap.size) (D.heap.size+1) D.heap.size ⟨bf .hole g,[],none,[]⟩ (.slice none 0 0) l5):=⟨by simp,M,.pointer none,[],_,_,_,_,λ_ n=>n,rfl,⟨_,rfl⟩,Y8 ⟨rfl,rfl,rfl⟩,b3⟩;obtain⟨r7,r8,r9,s0,k7,s1,_,_⟩:=g8.j _ c8.ax.kp;have w6:a.length<=1000:=by rcases d9 with⟨_,f4,_⟩|⟨_,_,_,_,⟨_,d4⟩,_⟩<;>omega
 have k3:∀(v:World),ai [] j v->∀f (s:f<a.length),∃r y,h5=.slice (some ⟨r,0,none⟩) a.length y/\a.length<=y/\∃w x,v.cell? ⟨r,f*4,none⟩=some (.slice w a[f].1.length x)/\v.cell? ⟨r,f*4+1,none⟩=some (.string ⟨a[f].2.t.toArray⟩)/\v.cell? ⟨r,f*4+2,none⟩=some (.int .i64 a[f].2.w)/\v.cell? ⟨r,f*4+3,none⟩=some (bX a[f].2.L)/\
   a[f].1.length<=1000/\∀(a3:World),ai [] j a3->∀e (u:e<a[f].1.length),∃I,w=some ⟨I,0,none⟩/\a[f].1.length<=x/\a3.cell? ⟨I,e,none⟩=some (.int .i64 a[f].1[e]):=by
  intro v g5 f s;have p3:f<d0.length:=by omega
  rcases d9 with⟨_,f4,_⟩|⟨r,y,n4,q6,⟨f9,w8⟩,g0,e0⟩
  .omega
  .have d8:=(g5.K _ (aj (b9 _ g0)) (by simp)).trans (b9 _ g0);have d7:=lk (c:=iS) (n:=4) (λ_=>rfl) (a.zip d0) f;have e1:f<(a.zip d0).length:=by simp;omega
   have o5:∃w x,d0[f]=Value.slice w a[f].1.length x/\a[f].1.length<=1000/\∀(a3:World),ai [] j a3->∀e (u:e<a[f].1.length),∃I,w=some ⟨I,0,none⟩/\a[f].1.length<=x/\a3.cell? ⟨I,e,none⟩=some (.int .i64 a[f].1[e]):=by
    rcases j4 f s p3 with⟨k,e9,_⟩|⟨n9,u4,u6,k,⟨f0,f1⟩,f2,i0⟩
    .exact⟨none,0,by rw[k,e9],by omega,λa3 _ e u=>by omega⟩
    .refine⟨_,_,k,f1,λa3 r0 e u=>⟨n9,rfl,f0,?_⟩⟩;exact cw ((r0.K _ (aj (b9 _ f2)) (by simp)).trans (b9 _ f2)) i0 (by simp[u])
   obtain⟨w,x,o7,j2,d6⟩:=o5;refine⟨r,y,q6,f9,w,x,cw d8 e0 ?_,cw d8 e0 ?_,cw d8 e0 ?_,cw d8 e0 ?_,j2,d6⟩
   .have:=d7 0 e1 (by omega);simpa[o7]using this
   .have:=d7 1 e1 (by omega);simpa using this
   .have:=d7 2 e1 (by omega);simpa using this
   .have:=d7 3 e1 (by omega);simpa using this
 obtain⟨u2,u3,f8⟩:∃ad y,h5=.slice ad a.length y:=by
  rcases d9 with⟨k,f4,_⟩|⟨r,y,n4,k,_⟩
  .exact⟨none,0,by rw[k,f4]⟩
  .exact⟨_,_,k⟩
 subst f8;have m5:=Z k3;have x3:=Z c8.ax.kp;clear k3 c8 b3 j4 d9 b2;generalize v1:D.heap.size=i at *
 go_wp2_with fail;go_loopw [32,6] (λf n8 c1=>∃d:Nat,f=.int .i64 d/\d<=a.length/\U (uu j q Fr M (mc B s l F G E i) (i+1) i ((a.take d).foldl fo ⟨bf .hole g,[],none,[]⟩) n8 c1)) (λf _ _=>a.length-(intOf f).toNat)
 case atStart=>exact⟨0,rfl,by omega,h3⟩
 case round=>
  rename World=>l6;obtain⟨d,rfl,w5,c9⟩:=hrel;clear h3;rcases Yj d a.length with a8|v9
  .have k2:aV ((a.take d).foldl fo ⟨bf .hole g,[],none,[]⟩).s 7:=yH (a.take d) (q:=⟨bf .hole g,[],none,[]⟩) (λl r1=>e6.j l (List.mem_of_mem_take r1)) (m6.j.cs (by simp;omega));have b8:((a.take d).foldl fo ⟨bf .hole g,[],none,[]⟩).c1.length=d:=by rw[AI];simp;omega
   obtain⟨c0,e8,s3,c3,t5,g6,n6,f3,a6,b0,⟨b1,rfl⟩,R,J⟩:=c9.j;have k1:(a.take (d+1)).foldl fo ⟨bf .hole g,[],none,[]⟩=fo ((a.take d).foldl fo ⟨bf .hole g,[],none,[]⟩) a[d]:=by rw[Yt a8,YS];rfl
   have h1:=Z k1;clear k1 c9;generalize q3:(a.take d).foldl fo ⟨bf .hole g,[],none,[]⟩=b at *
   obtain⟨r,y,f8,f9,w,x,x6,x7,x8,s5,j2,d6⟩:=m5.j _ J.ax.kp d a8;cases f8
   obtain⟨h2,l4,d4⟩:=fm a[d].2.L;have u0:=Z d4;have w0:(0:Int)<=↑d:=by omega
   have w1:(↑d:Int) < ↑a.length:=by omega
   have a1:=J.G (.cells #[.slice w a[d].1.length x,.string ⟨a[d].2.t.toArray⟩,.int .i64 a[d].2.w,bX a[d].2.L] 363);have b5:=FL (ca:=w) (cn:=a[d].1.length) (cc:=x) (e6.j a[d] (Yy a8)).g7 a1 (k2.cs (by omega));rw[d4]at s5 b5 a1;have b5:=Z b5;have m3:=Z b0;have c6:=Z R;have c5:=Z a6;have m2:=Z c0;have l9:=Z d6;obtain⟨d1,d2,rfl⟩:=R.dG;clear J a1 b0 R a6 c0 d6 d4;go_wp2_with fail;refine b5.j.mono ?_;rintro k c2 ⟨rfl,h8,y3,e2,u8,d3,i9,b3⟩;have H:=b3.G (.cells #[.int .i64 (fd a[d].2 b.s).1,.int .i64 (fd a[d].2 b.s).2] 394);have q5:aV (kC a[d].2 b.s) 1:=sy _ (k2.cs (by have:=pC (e6.j a[d] (Yy a8)).g7;omega));have b2:=Z (ig (v:=.iface 396 (.agg #[.int .i64 0])) (x:=.jump 0) H rfl (by have:=q5.ag;omega))
   have e3:=Z i9;clear b3 H b5 i9;go_wp2_with fail;refine b2.j.mono ?_;rintro k a0 ⟨rfl,y4,H⟩;have a4:=H.n9;have j9:∀g7,(a0.alloc g7).ownsRow j.heap.size 3 1 (.slice d1 d d2) d (b.c1.map rC):=by
    intro g7;have:=c6.j.p2 a4;rw[b8]at this;exact aY this ((ah [] a0).G g7) (by simp)
   have x0:j.heap.size<=a0.heap.size:=a4.ax.kp.a2;have p9:d+1<=maxLen:=by unfold maxLen;omega
   have q0:(d+1)*8<=140737488355328:=by omega
   have r5:(Value.int .i64 0).cells.size=1:=rfl;have a4:=Z a4;clear H b2;go_wp2_with (first
    |(at_builtin;refine wpList_append_lies _ (by rfl) _ _ _ (by rfl) j.heap.size 3 r6 _ 1 8 underlying24 p4 r2 r3 r4 r5 (by omega) (.slice d1 d d2) d (b.c1.map rC) (by rfl) (j9 _) ⟨a0.heap.size,0,none⟩ 1 1 [.int .i64 (kC a[d].2 b.s).ag.length] (by rfl) (by rfl) (World.news_of_block (cs:=#[.int .i64 (kC a[d].2 b.s).ag.length]) (t:=3) (fr:=(0,0)) (heap_alloc_new a0 _)) (by simp[Value.oneCell']) (by omega) p9 q0 (by simp;omega) (a0.heap.size+1) (by simp) ?_;intro v0 u5 y5 k0 j6 i8 q1;obtain⟨c4,i5,b4⟩:=c6.j.bZ a4.j ((Below.refl a0.heap.size a0).alloc (Y4 _) _) (by rw[b8];exact k0) (by rw[b8];exact j6) (by rw[b8];simpa using i8);obtain⟨s6,s7,s8,s9,t0,t1⟩:=Af (b4.ax.hf _ (Ym _ (Y5 _ Yb))).1;have b4:=Z b4;have g9:=Z i5;clear i5 a4 j9 k0 j6 i8 q1)
    |fail)
   go_loopw [49] (λf c1=>∃e:Nat,f=.int .i64 e/\e<=a[d].1.length/\U ((((a[d].1.take e).foldl (λo m=>bF o m (fd a[d].2 b.s)) b.d4).map (·.1)).Nodup/\∃S N,Cp j q (c4++((c2.heap.size,.cells #[.int .i64 (fd a[d].2 b.s).1,.int .i64 (fd a[d].2 b.s).2] 394)::(l6.heap.size,.cells #[.slice w a[d].1.length x,.string ⟨a[d].2.t.toArray⟩,.int .i64 a[d].2.w,.iface h2 l4] 363)::(i,jH ((a[d].1.take e).foldl (λo m=>bF o m (fd a[d].2 b.s)) b.d4))::(i+1,.cells (mc B s l F G E i (.pointer b1)) 392)::Fr)) h8 (bf (.jump 0) (kC a[d].2 b.s)) S e2 N d3 c1)) (λf _=>a[d].1.length-(intOf f).toNat)
   case atStart=>exact⟨0,rfl,by omega,m2.j,_,_,b4.j⟩
   case round=>
    obtain⟨e,rfl,u,K⟩:=hrel;clear b4;rcases Yj e a[d].1.length with a7|p7
    .obtain⟨a2,S,N,h⟩:=K.j;obtain⟨I,o3,v2,o6⟩:=l9.j _ h.ax.kp e a7;obtain⟨x4,x5,_,_⟩:=sM (h.ax.hf _ (Ym _ Yb)).1;obtain⟨_,_,_,_,l0,_,_,_⟩:=uD (h.ax.hf _ (Ym _ (Y5 _ (Y5 _ (Y5 _ Yb))))).1;have g2:=(h.ax.hf _ (Ym _ (Y5 _ (Y5 _ Yb)))).1;have s4:=zp g2 a2 a[d].1[e] (fd a[d].2 b.s).1 (fd a[d].2 b.s).2;have j5:(a[d].1.take (e+1)).foldl (λo m=>bF o m (fd a[d].2 b.s)) b.d4=bF ((a[d].1.take e).foldl (λo m=>bF o m (fd a[d].2 b.s)) b.d4) a[d].1[e] (fd a[d].2 b.s):=by rw[Yt a7,YS];rfl
     have j8:U ((((a[d].1.take (e+1)).foldl (λo m=>bF o m (fd a[d].2 b.s)) b.d4).map (·.1)).Nodup/\∃S N,Cp j q (c4++((c2.heap.size,.cells #[.int .i64 (fd a[d].2 b.s).1,.int .i64 (fd a[d].2 b.s).2] 394)::(l6.heap.size,.cells #[.slice w a[d].1.length x,.string ⟨a[d].2.t.toArray⟩,.int .i64 a[d].2.w,.iface h2 l4] 363)::(i,jH ((a[d].1.take (e+1)).foldl (λo m=>bF o m (fd a[d].2 b.s)) b.d4))::(i+1,.cells (mc B s l F G E i (.pointer b1)) 392)::Fr)) h8 (bf (.jump 0) (kC a[d].2 b.s)) S e2 N d3 (dn wr i (jH (bF ((a[d].1.take e).foldl (λo m=>bF o m (fd a[d].2 b.s)) b.d4) a[d].1[e] ((fd a[d].2 b.s).1,(fd a[d].2 b.s).2))))):=by
      rw[j5];exact⟨pW a2 _ _,S,N,h.q3 (gY _ _ _) (kh (aj g2) _)⟩
     have p5:(0:Int)<=↑e:=by omega
     have p6:(↑e:Int) < ↑a[d].1.length:=by omega
     obtain⟨h4,i7⟩:∃h4,h4=dn wr i (jH (bF ((a[d].1.take e).foldl (λo m=>bF o m (fd a[d].2 b.s)) b.d4) a[d].1[e] ((fd a[d].2 b.s).1,(fd a[d].2 b.s).2))):=⟨_,rfl⟩;rw[<-i7]at s4 j8;clear i7 K h g2 j5 a2;subst o3;go_wp2;exact⟨⟨e+1,by go_num,by omega,j8⟩,by simp[intOf];omega⟩
    .have g1:e=a[d].1.length:=by omega
     subst g1;obtain⟨a2,S,N,h⟩:=K.j;rw[YG]at a2 h;obtain⟨s6,s7,s8,s9,t0,t1⟩:=Af (h.ax.hf _ (Ym _ (Y5 _ Yb))).1;have f6:=(h.ax.hf _ (Ym _ (Y5 _ (Y5 _ (Y5 _ Yb))))).1;obtain⟨_,_,_,_,l0,t2,t3,t7⟩:=uD f6;have e5:=Z f6;have h:=Z h;have h0:=Z a2;have i1:(b.c1.length+1:Nat)=d+1:=by omega
     clear K a2 f6;by_cases a9:a[d].1=[]
     .have j7:a[d].1.length=0:=by rw[a9];rfl
      have o2:((a[d].1.length:Int)==0)=true:=by rw[j7];rfl
      have a5:=Z (h.j.q4 ((ah [i+1] wr).a6 (p:=⟨i+1,5,none⟩) (by simp) (.pointer (some ⟨c2.heap.size,0,none⟩))) (bv (i:=5) e5.j (.pointer (some ⟨c2.heap.size,0,none⟩)))).lb;have e4:=Z a9;clear h e5 a9 j7;go_wp2;refine⟨⟨d+1,by go_num,by omega,?_⟩,by simp[intOf];omega⟩;show uu j q Fr M (mc B s l F G E i) (i+1) i _ _ _;rw[h1.j];refine⟨h0.j,_,.pointer (some ⟨c2.heap.size,0,none⟩),c4,S,e2,N,d3,λp n=>Y5 _ (e3.j p (c5.j p n)),?_,⟨_,rfl⟩,?_,a5.j⟩
      .simp only[fo,e4.j,if_true]
       exact⟨_,rfl,Yb⟩
      .have:=g9.j;rw[i1]at this;exact this
     .have o2:((a[d].1.length:Int)==0)=false:=by
       have:a[d].1.length≠0:=λk=>a9 (Yv.1 k);simp;omega
      have a5:=Z h.j.lb;have e4:=Z a9;clear h e5 a9;go_wp2;refine⟨⟨d+1,by go_num,by omega,?_⟩,by simp[intOf];omega⟩;show uu j q Fr M (mc B s l F G E i) (i+1) i _ _ _;rw[h1.j];refine⟨h0.j,_,.pointer b1,c4,S,e2,N,d3,λp n=>Y5 _ (e3.j p (c5.j p n)),?_,⟨_,rfl⟩,?_,a5.j⟩
      .simp only[fo,e4.j,if_false]
       exact m3.j.a4 (λp n=>Y5 _ (e3.j p n))
      .have:=g9.j;rw[i1]at this;exact this
  .have p8:d=a.length:=by omega
   subst p8;have q4:=FO a ⟨bf .hole g,[],none,[]⟩;have g3:=HE a ⟨bf .hole g,[],none,[]⟩ (by intro k o9;cases o9);have b8:(a.foldl fo ⟨bf .hole g,[],none,[]⟩).c1.length=a.length:=by rw[AI];simp
   obtain⟨c0,e8,s3,c3,t5,g6,n6,f3,a6,b0,⟨b1,rfl⟩,R,J⟩:=c9.j;rw[YG]at c0 b0 R J;have m7:U (tZ z a g=hX (a.foldl fo ⟨bf .hole g,[],none,[]⟩).c1 (dC g.ag.length (.choice (nH g z.L) (a.foldl fo ⟨bf .hole g,[],none,[]⟩).d4 (a.foldl fo ⟨bf .hole g,[],none,[]⟩).g2) (a.foldl fo ⟨bf .hole g,[],none,[]⟩).s)):=rfl;clear c9;generalize q3:a.foldl fo ⟨bf .hole g,[],none,[]⟩=b at *
   rw[tK]at q4;obtain⟨m9,n0,n1,n2,p2,a8⟩:=J.am;obtain⟨x9,y0,y1,y2,l0,t2,t3,t7⟩:=uD (J.ax.hf _ (Ym _ (Y5 _ Yb))).1;obtain⟨r,y,q8,f9,v6,⟨y8,x1⟩,g0,H⟩:=sn (i:=g.ag.length) (x:=.choice (nH g z.L) b.d4 b.g2) (v:=.iface 392 (.agg (mc B s l F G E i (.pointer b1)))) (J.lb.aA (Below.refl _ _).drew) ⟨mp B s l F G E,i,.pointer b1,rfl,m1.j.a4 (λp n=>Y5 _ (a6 p n)),Yb,b0.a4 (λp n=>Y5 _ n)⟩ (by omega)
   have w2:(g.ag.length:Int)<(b.s.ag.length:Int):=by omega
   obtain⟨d1,d2,rfl⟩:=R.dG;have c6:=Z R;have c5:=Z a6;have H:=Z H;cases q8
   clear J R a6 b0 c0;have q2:∀(e:Nat),e<b.c1.length->∃k:Nat,b.c1[e]? = some k/\k<b.s.ag.length:=λe u=>⟨b.c1[e],by simp[u],g3 _ (Yy u)⟩;have j3:∀(v:World) (l2:aU) (h9:List (Nat×Obj)) (l1 k9:Value) (O:List (dh×Value)) (i3:List (List UInt8×dg×Value)),Cp j q (c3++Fr) h9 l2 l1 k9 O i3 v->∀(e:Nat) (u:e<b.c1.length),∃I,d1=some ⟨I,0,none⟩/\b.c1.length<=d2/\v.cell? ⟨I,e,none⟩=some (.int .i64 b.c1[e]):=by
    intro v l2 h9 l1 k9 O i3 s2 e u;rcases c6.j with⟨_,_,e9⟩|⟨i4,n3,u7,rfl,f0,f1,f2,i0,n7⟩
    .rw[e9]at u;simp at u
    .cases f0
     exact⟨i4,rfl,f1,cw (xs:=b.c1.map rC) (s2.ax.hf _ Yb).1 (by simpa using n7) (by simp[u])⟩
   have m0:=Z j3;have m4:=Z g3;clear j3 q2 g3;go_wp2;go_region;go_wp2;go_loopw [74] (λf c1=>∃e:Nat,f=.int .i64 e/\e<=b.c1.length/\U (∃O,Cp j q (c3++Fr) ((i,jH b.d4)::e8) (hX (b.c1.take e) (dC g.ag.length (.choice (nH g z.L) b.d4 b.g2) b.s)) (.slice (some ⟨r,0,none⟩) b.s.ag.length y) g6 O f3 c1)) (λf _=>b.c1.length-(intOf f).toNat)
   case atStart=>exact⟨0,rfl,by omega,_,H.j⟩
   case round=>
    obtain⟨e,rfl,u,K⟩:=hrel;clear H;rcases Yj e b.c1.length with a7|p7
    .obtain⟨O,h⟩:=K.j;obtain⟨I,p0,v4,o6⟩:=m0.j _ _ _ _ _ _ _ h e a7;have f5:(hX (b.c1.take e) (dC g.ag.length (.choice (nH g z.L) b.d4 b.g2) b.s)).ag.length=b.s.ag.length:=by rw[sU];simp[dC]
     have k5:hX (b.c1.take (e+1)) (dC g.ag.length (.choice (nH g z.L) b.d4 b.g2) b.s)=dC b.c1[e] (.jump b.s.ag.length) (hX (b.c1.take e) (dC g.ag.length (.choice (nH g z.L) b.d4 b.g2) b.s)):=by
      rw[Yt a7,HC];simp[dC]
     have p1:=m4.j _ (Yy a7);obtain⟨m9,n0,n1,n2,p2,a8⟩:=h.am;obtain⟨i4,n3,k4,o4,v7,⟨y9,x2⟩,v8,a5⟩:=sn (i:=b.c1[e]) (x:=.jump b.s.ag.length) (v:=.iface 396 (.agg #[.int .i64 b.s.ag.length])) (h.aA (Below.refl _ _).drew) rfl (by rw[f5];exact p1)
     have c7:=ll (h.aA (Below.refl _ _).drew);rw[f5]at c7 k4 o4;cases k4
     have d5:U (∃O,Cp j q (c3++Fr) ((i,jH b.d4)::e8) (hX (b.c1.take (e+1)) (dC g.ag.length (.choice (nH g z.L) b.d4 b.g2) b.s)) (.slice (some ⟨r,0,none⟩) b.s.ag.length y) g6 O f3 (wr.drew.setCell ⟨r,b.c1[e],none⟩ (.iface 396 (.agg #[.int .i64 b.s.ag.length])))):=by
      rw[k5];exact⟨_,a5⟩
     have c7:=Z c7;have p5:(0:Int)<=↑e:=by omega
     have p6:(↑e:Int) < ↑b.c1.length:=by omega
     have w3:(↑e:Int) < ↑a.length:=by omega
     have w4:(↑(b.c1[e]):Int) < ↑b.s.ag.length:=by omega
     subst p0;clear K h a5 k5 f5;generalize v5:b.c1[e]=u9 at *
     go_wp2_with fail;refine cS (λt9=>t9.cell? ⟨q.C,0,none⟩=some (.slice (some ⟨r,0,none⟩) b.s.ag.length y)) (L:=10) (by kernel_rfl) rfl (by kernel_rfl) (by kernel_rfl) ?_ (λo0=>?_)
     .go_keep
     refine bI [0,1,2,3,4,5] ?_;iterate 6 (refine bP (v:=?_) rfl (by kernel_rfl) (λ_ _ _ P=>P) (by rfl) (by assumption) ?_ ?_;rotate_left;focus (intro j f7;(try dsimp only at f7);go_simp;(try with_reducible rfl));(try simp only[aL,aM,List.set]))
     refine bJ ?_;refine ck 6 (by kernel_rfl) rfl λe7 b7=>?_;(go_simp;go_at_call 128;refine c7.j.mono ?_;rintro k y6 ⟨rfl,rfl⟩);refine b7.out _ _ ?_ (λo0=>?_)
     .go_keep
     clear b7 e7;(try simp only[aL,aM,List.set]);refine bI [7,8,9] ?_;iterate 3 (refine bP (v:=?_) rfl (by kernel_rfl) (λ_ _ _ P=>P) (by rfl) (by assumption) ?_ ?_;rotate_left;focus (intro j f7;(try dsimp only at f7);go_simp;(try with_reducible rfl));(try simp only[aL,aM,List.set]))
     refine bJ ?_;refine cQ (by kernel_rfl) rfl λe7 b7=>?_;go_simp;refine b7.out _ _ ?_;clear b7 e7;(try simp only[aL,aM,List.set]);go_wp2;exact⟨⟨e+1,by go_num,by omega,d5⟩,by simp[intOf];omega⟩
    .have g1:e=b.c1.length:=by omega
     subst g1;obtain⟨O,h⟩:=K.j;rw[YG]at h;have l7:=Z (h.cc (Fr':=Fr) (λp n=>Ym _ n) (by have:=h.ax.f7;rw[List.map_append,YJ]at this;exact this.2.1)).c9;clear K h;go_wp2;go_end0;refine⟨rfl,?_⟩;rw[m7.j];exact kX (λp n=>Y5 _ (c5.j p n)) l7.j
section
variable {a:eU}{g c:Nat}{h e:List (Nat×Obj)}{k:List (dh×Value)}{l:List (List UInt8×dg×Value)}{m o:Value}{s:aU}{f:List UInt8}{j b:World}
def Hk{Fr:List (Nat×Obj)}{d:aG}(y:dx e c (.typedef d))(D:∀q∈e,b.heap[q.1]? = some q.2)(A:ji d.L)(f:Cp b a Fr h s o m k l j)(z:aV s 5000) :
  Calls prog 76 #[.pointer (some ⟨a.C,0,none⟩),.iface 225 (.pointer (some ⟨c,0,none⟩))] j λn a0=>n=.returned (.tuple #[])/\cL b a Fr h (jW (.typedef d) s) a0:=by
 have c6:=mC 225 c 157 225 λa5=>by kernel_rfl
 have F:=Z y;have c0:=z.ag;have G:=Z (ll f);obtain⟨c1,c2,S,_⟩:=dT (f.ff (D _ y));obtain⟨a4,a3,K⟩:=fm d.L;have p:=uG A.g7 f (z.cs (by omega));rw[K]at S p;have p:=Z p;have b4:=pC A.g7;have R:=sg d.L s;go_in;go_wp2_with fail;refine G.j.mono ?_;rintro n c7 ⟨rfl,rfl⟩;go_wp2_with fail;refine p.j.mono ?_;rintro n c8 ⟨rfl,a6,c4,c3,b2,b3,M,I⟩;go_wp2_with fail;refine(ig (v:=.iface 257 (.agg #[])) (x:=.ret) I rfl (by rw[R];omega)).mono ?_
 rintro n a2 ⟨rfl,c5,g⟩;have N:bn [] e a2.drew:=λq O=>⟨g.ff (D q O),by simp⟩;have P:=oM (d:=.typedef d) F.j N;have b5:=nY;have b6:=ru 160 λ_ _ _=>by kernel_rfl
 dsimp only[cE,bB]at P;obtain⟨a7,a8,a9,b0,b7,b8⟩:=g.am;have g:=Z g;have E:=Z M;go_wp2_with fail;refine cS (λa1=>a1.cell? ⟨a.C,1,none⟩=some (.map (some a.B))) (L:=8) (by kernel_rfl) rfl (by kernel_rfl) (by kernel_rfl) ?_ (λJ=>?_)
 .go_keep
 refine bI [0,1,2,3,4,7] ?_;iterate 6 (refine bP (v:=?_) rfl (by kernel_rfl) (λ_ _ _ f=>f) (by rfl) (by assumption) ?_ ?_;rotate_left;focus (intro b w;(try dsimp only at w);go_simp;(try with_reducible rfl));(try simp only[aL,aM,List.set]))
 refine bJ ?_;refine ck 5 (by kernel_rfl) rfl λH u=>?_;(go_simp;go_at_call 327;refine(nX _ _ _).mono ?_;rintro n c9 ⟨rfl,x⟩;have r:=(g.j.aA (Below.refl _ _).drew).aA x;have b1:=r.am.2.1;obtain⟨b9,t⟩:=r.k1 d.t s.ag.length;have t:=Z t;clear r x);refine u.out _ _ ?_ (λJ=>?_)
 .go_keep
 (try simp only[aL,aM,List.set]);refine tk (i:=6) (v:=?_) rfl (by kernel_rfl) (λ_ _ _ f=>f) (by rfl) (by assumption) ?_ ?_;rotate_left
 .intro b w;(try dsimp only at w);go_simp;(try with_reducible rfl)
 (try simp only[aL,aM,List.set]);refine cQ (by kernel_rfl) rfl λH u=>?_;go_simp;refine u.out _ _ ?_;(try simp only[aL,aM,List.set]);go_wp2;go_end0;exact⟨rfl,kX E.j t.j.c9⟩
def Hj{Fr:List (Nat×Obj)}{q:List aG}(I:dx e c (.struct f g q))(K:∀w∈e,b.heap[w.1]? = some w.2)(J:∀u∈q,ji u.L)(c2:q.length<=1000)(r:Cp b a Fr h s o m k l j)(F:aV s 5000) :
  Calls prog 76 #[.pointer (some ⟨a.C,0,none⟩),.iface 229 (.pointer (some ⟨c,0,none⟩))] j λp a7=>p=.returned (.tuple #[])/\cL b a Fr h (jW (.struct f g q) s) a7:=by
 have c9:=en 229 c 157 225 λG=>by kernel_rfl
 have d0:=en 229 c 157 227 λG=>by kernel_rfl
 have d1:=mC 229 c 157 229 λG=>by kernel_rfl
 have N:=Z I;have c4:=F.ag;have O:=Z (ll r);have S:=Z (QA I K (λu E=>(J u E).g7) r (F.cs (by omega)));have a4:aV (zd q s) 1:=by
  have p:=yG (q.map (·.L)) (s:=bf (.struct q.length true) s) (n:=1) (by intro f a5;obtain⟨u,E,rfl⟩:=YE.1 a5;exact(J u E).g7) (aV.cv (F.cs (by simp;omega)) _);rw[List.foldl_map]at p;exact p
 have c5:=a4.ag;go_in;go_wp2_with fail;refine O.j.mono ?_;rintro p d2 ⟨rfl,rfl⟩;go_wp2_with fail;refine S.j.mono ?_;rintro p d3 ⟨rfl,b0,c7,c6,b6,b7,a1,R⟩;go_wp2_with fail;refine(ig (v:=.iface 257 (.agg #[])) (x:=.ret) R rfl (by omega)).mono ?_
 rintro p a9 ⟨rfl,c8,t⟩;have a2:bn [] e a9.drew:=λw a3=>⟨t.ff (K w a3),by simp⟩;have a6:=oM (d:=.struct f g q) N.j a2;have b8:=nY;have b9:=ru 160 λ_ _ _=>by kernel_rfl
 dsimp only[cE,bB]at a6;obtain⟨b1,b2,b3,b4,c0,c1⟩:=t.am;have t:=Z t;have M:=Z a1;go_wp2_with fail;refine cS (λa8=>a8.cell? ⟨a.C,1,none⟩=some (.map (some a.B))) (L:=8) (by kernel_rfl) rfl (by kernel_rfl) (by kernel_rfl) ?_ (λa0=>?_)
 .go_keep
 refine bI [0,1,2,3,4,7] ?_;iterate 6 (refine bP (v:=?_) rfl (by kernel_rfl) (λ_ _ _ r=>r) (by rfl) (by assumption) ?_ ?_;rotate_left;focus (intro b D;(try dsimp only at D);go_simp;(try with_reducible rfl));(try simp only[aL,aM,List.set]))
 refine bJ ?_;refine ck 5 (by kernel_rfl) rfl λP A=>?_;(go_simp;go_at_call 327;refine(nX _ _ _).mono ?_;rintro p d4 ⟨rfl,H⟩;have y:=(t.j.aA (Below.refl _ _).drew).aA H;have b5:=y.am.2.1;obtain⟨c3,z⟩:=y.k1 f s.ag.length;have z:=Z z;clear y H);refine A.out _ _ ?_ (λa0=>?_)
 .go_keep
 (try simp only[aL,aM,List.set]);refine tk (i:=6) (v:=?_) rfl (by kernel_rfl) (λ_ _ _ r=>r) (by rfl) (by assumption) ?_ ?_;rotate_left
 .intro b D;(try dsimp only at D);go_simp;(try with_reducible rfl)
 (try simp only[aL,aM,List.set]);refine cQ (by kernel_rfl) rfl λP A=>?_;go_simp;refine A.out _ _ ?_;(try simp only[aL,aM,List.set]);go_wp2;go_end0;exact⟨rfl,kX M.j z.j.c9⟩
def Hl{Fr:List (Nat×Obj)}{w:aG}{p:List (List Int×aG)}(I:dx e c (.union f g w p))(K:∀y∈e,b.heap[y.1]? = some y.2)(a4:gm w.L)(J:kV p)(c1:p.length<=1000)(t:Cp b a Fr h s o m k l j)(G:aV s 5000) :
  Calls prog 76 #[.pointer (some ⟨a.C,0,none⟩),.iface 231 (.pointer (some ⟨c,0,none⟩))] j λr a6=>r=.returned (.tuple #[])/\cL b a Fr h (jW (.union f g w p) s) a6:=by
 have c8:=en 231 c 157 225 λD=>by kernel_rfl
 have c9:=en 231 c 157 227 λD=>by kernel_rfl
 have d0:=en 231 c 157 229 λD=>by kernel_rfl
 have d1:=mC 231 c 157 231 λD=>by kernel_rfl
 have N:=Z I;have c3:=G.ag;have O:=Z (ll t);have S:=Z (RN I K a4 J t (G.cs (by omega)));have c4:(tZ w p s).ag.length<1000000:=by
  have r:=(yH p (q:=⟨bf .hole s,[],none,[]⟩) (n:=1) J (aV.cv (G.cs (by omega)) _)).ag;simp only[tZ];rw[sU];simp only[dC,YF];omega
 go_in;go_wp2_with fail;refine O.j.mono ?_;rintro r d2 ⟨rfl,rfl⟩;go_wp2_with fail;refine S.j.mono ?_;rintro r d3 ⟨rfl,a9,c6,c5,b5,b6,a1,R⟩;go_wp2_with fail;refine(ig (v:=.iface 257 (.agg #[])) (x:=.ret) R rfl (by omega)).mono ?_
 rintro r a8 ⟨rfl,c7,u⟩;have a2:bn [] e a8.drew:=λy a3=>⟨u.ff (K y a3),by simp⟩;have a5:=oM (d:=.union f g w p) N.j a2;have b7:=nY;have b8:=ru 160 λ_ _ _=>by kernel_rfl
 dsimp only[cE,bB]at a5;obtain⟨b0,b1,b2,b3,b9,c0⟩:=u.am;have u:=Z u;have M:=Z a1;go_wp2_with fail;refine cS (λa7=>a7.cell? ⟨a.C,1,none⟩=some (.map (some a.B))) (L:=8) (by kernel_rfl) rfl (by kernel_rfl) (by kernel_rfl) ?_ (λa0=>?_)
 .go_keep
 refine bI [0,1,2,3,4,7] ?_;iterate 6 (refine bP (v:=?_) rfl (by kernel_rfl) (λ_ _ _ t=>t) (by rfl) (by assumption) ?_ ?_;rotate_left;focus (intro b F;(try dsimp only at F);go_simp;(try with_reducible rfl));(try simp only[aL,aM,List.set]))
 refine bJ ?_;refine ck 5 (by kernel_rfl) rfl λP E=>?_;(go_simp;go_at_call 327;refine(nX _ _ _).mono ?_;rintro r d4 ⟨rfl,H⟩;have z:=(u.j.aA (Below.refl _ _).drew).aA H;have b4:=z.am.2.1;obtain⟨c2,A⟩:=z.k1 f s.ag.length;have A:=Z A;clear z H);refine E.out _ _ ?_ (λa0=>?_)
 .go_keep
 (try simp only[aL,aM,List.set]);refine tk (i:=6) (v:=?_) rfl (by kernel_rfl) (λ_ _ _ t=>t) (by rfl) (by assumption) ?_ ?_;rotate_left
 .intro b F;(try dsimp only at F);go_simp;(try with_reducible rfl)
 (try simp only[aL,aM,List.set]);refine cQ (by kernel_rfl) rfl λP E=>?_;go_simp;refine E.out _ _ ?_;(try simp only[aL,aM,List.set]);go_wp2;go_end0;exact⟨rfl,kX M.j A.j.c9⟩
end
section
variable {a:eU}{b:Nat}{e f:List (Nat×Obj)}{g:List (dh×Value)}{et:List (List UInt8×dg×Value)}{h j:Value}{c:aU}{u w:World}
def Cp.pl{Fr:List (Nat×Obj)}{f:List UInt8}{l:dg}{v:Value}(i:Cp w a Fr e c j h g (bF et f (l,v)) u):(Instr.lookup 164 (.map (some a.E)) (.string ⟨f.toArray⟩) false).run prog u=.ok v u:=by
 have k:=xU (P:=prog) (w:=u) (T:=164) (kt:=9) (et:=247) (d:=.string) (by kernel_rfl) (by kernel_rfl) (λb:List UInt8=>.string ⟨b.toArray⟩) (λb:dg×Value=>b.2) (λ_=>trivial) sd i.fI i.h1 (z:=.agg #[.int .i64 0,.int .i64 0,.slice none 0 0,.bool false]) (by kernel_rfl) f false;rw[KB,Y9 rfl]at k;exact k
def Hg{Fr:List (Nat×Obj)}{D:Nat}{o:List UInt8}{t:List (List UInt8×Nat×Int)}(G:dx f b (.enum o D t))(O:∀n∈f,w.heap[n.1]? = some n.2)(k:Cp w a Fr e c j h g et u)(c9:aV c 5000) :
  Calls prog 76 #[.pointer (some ⟨a.C,0,none⟩),.iface 227 (.pointer (some ⟨b,0,none⟩))] u λx d3=>x=.returned (.tuple #[])/\cL w a Fr e (jW (.enum o D t) c) d3:=by
 have f3:=en 227 b 157 225 λb7=>by kernel_rfl
 have f4:=mC 227 b 157 227 λb7=>by kernel_rfl
 have b4:=Z G;have e5:=c9.ag;have b5:=Z (ll k);have c4:∃H,w.heap[b]? = some (.cells #[.string ⟨o.toArray⟩,.int .i64 D,H] 253):=by obtain⟨H,e8,c3,_⟩:=G;exact⟨H,O _ c3⟩
 obtain⟨H,M⟩:=c4;have I:=Z (λ(v:World) (d1:ai [] w v)=>(dT ((d1.K _ (aj M) (by simp)).trans M)).1);have e6:=I.j _ k.ax.kp;obtain⟨b9,c0,c1,c2,c5,c8⟩:=k.am;have b6:=Z (Kv (u:=u.drew) G (λn q=>k.ff (O n q)));have b2:=Z k;clear k G M;go_in;go_wp2_with fail;refine b5.j.mono ?_;rintro x f5 ⟨rfl,rfl⟩;go_wp2_with fail;refine cS (λr=>r.cell? ⟨a.C,2,none⟩=some (.map (some a.E))/\r.cell? ⟨b,0,none⟩=some (.string ⟨o.toArray⟩)) (L:=11) (by kernel_rfl) rfl (by kernel_rfl) (by kernel_rfl) ?_ (λF=>?_)
 .go_keep
 refine bI [0,1,2,3,4,5,6,7,8,9] ?_;iterate 10 (refine bP (v:=?_) rfl (by kernel_rfl) (λ_ _ _ k=>k) (by rfl) (by assumption) ?_ ?_;rotate_left;focus (intro w s;(try dsimp only at s);go_simp;(try with_reducible rfl));(try simp only[aL,aM,List.set]))
 refine bJ ?_;refine ck 10 (by kernel_rfl) rfl λp l=>?_;(go_simp;go_at_call 130;refine b6.j.mono ?_;rintro x d5 ⟨P,N,y,a0,a1,S,b8,rfl,K,a6,a8⟩;have A:=Ez (b2.j.aA (Below.refl _ _).drew) a6 a8;have f0:=A.am.2.2.1;have e9:=I.j _ A.ax.kp;obtain⟨d2,b0,m⟩:=A.p8 (v:=.agg (mp P N y a0 a1 S).toArray) (x:=kb t) ⟨_,rfl,K.a4 (λn q=>Yf _ q)⟩ o;have m:=Z m;have a2:=Z K;clear A a6 a8 K);refine l.out _ _ ?_ (λF=>?_)
 .go_keep
 clear l p;(try simp only[aL,aM,List.set]);refine cQ (by kernel_rfl) rfl λp l=>?_;go_simp;refine l.out _ _ ?_;clear l p;(try simp only[aL,aM,List.set]);obtain⟨R,b1⟩:∃R,R=dn d5 a.E d2:=⟨_,rfl⟩;rw[<-b1]at m ⊢;clear b0 b1;have c7:=(m.j.aA (Below.refl _ _).drew).pl;obtain⟨d7,d8,d9,e0,e1,e2⟩:=m.j.am;have e7:=I.j _ m.j.ax.kp;have a3:=Z (ig (v:=.iface 247 (.agg (mp P N y a0 a1 S).toArray)) (x:=.num (kb t)) (m.j.aA (Below.refl _ _).drew) ⟨_,rfl,a2.j.a4 (λn q=>Yf _ q)⟩ (by show c.ag.length<1000000;omega))
 have c6:(bf (.num (kb t)) { c with e8:=bF c.e8 o (kb t) }).ag.length<1000000:=by rw[tK];show c.ag.length+1<1000000;omega
 clear m a2;go_wp2_with fail;refine cS (λr=>r.cell? ⟨a.C,2,none⟩=some (.map (some a.E))/\r.cell? ⟨b,0,none⟩=some (.string ⟨o.toArray⟩)/\(Instr.lookup 164 (.map (some a.E)) (.string ⟨o.toArray⟩) false).run prog r=.ok (.agg (mp P N y a0 a1 S).toArray) r) (L:=12) (by kernel_rfl) rfl (by kernel_rfl) (by kernel_rfl) ?_ (λF=>?_)
 .go_keep
 refine bI [0,1,2,3,4,5,6,7,8,9,10,11] ?_;iterate 12 (refine bP (v:=?_) rfl (by kernel_rfl) (λ_ _ _ k=>k) (by rfl) (by assumption) ?_ ?_;rotate_left;focus (intro w s;(try dsimp only at s);go_simp;(try with_reducible rfl));(try simp only[aL,aM,List.set]))
 refine bJ ?_;refine cQ (by kernel_rfl) rfl λp l=>?_;(go_simp;go_at_call 131;refine a3.j.mono ?_;rintro x f6 ⟨rfl,f1,a4⟩);refine l.out _ _ ?_;clear l p;(try simp only[aL,aM,List.set]);have a5:∀n∈e,n∈b8++e:=λn q=>Ym _ q;clear a3 c7;go_wp2_with fail;refine(ig (v:=.iface 257 (.agg #[])) (x:=.ret) a4 rfl (by exact c6)).mono ?_
 rintro x d4 ⟨rfl,f2,z⟩;have a9:bn [] f d4.drew:=λn q=>⟨z.ff (O n q),by simp⟩;have d0:=oM (d:=.enum o D t) b4.j a9;have e3:=nY;have e4:=ru 160 λ_ _ _=>by kernel_rfl
 dsimp only[cE,bB]at d0;obtain⟨b9,c0,c1,c2,c5,c8⟩:=z.am;have z:=Z z;have b3:=Z a5;clear a4 a5 a9;go_wp2_with fail;refine cS (λr=>r.cell? ⟨a.C,1,none⟩=some (.map (some a.B))) (L:=8) (by kernel_rfl) rfl (by kernel_rfl) (by kernel_rfl) ?_ (λF=>?_)
 .go_keep
 refine bI [0,1,2,3,4,7] ?_;iterate 6 (refine bP (v:=?_) rfl (by kernel_rfl) (λ_ _ _ k=>k) (by rfl) (by assumption) ?_ ?_;rotate_left;focus (intro w s;(try dsimp only at s);go_simp;(try with_reducible rfl));(try simp only[aL,aM,List.set]))
 refine bJ ?_;refine ck 5 (by kernel_rfl) rfl λp l=>?_;(go_simp;go_at_call 327;refine(nX _ _ _).mono ?_;rintro x R ⟨rfl,a7⟩;have m:=(z.j.aA (Below.refl _ _).drew).aA a7;have d6:=m.am.2.1;obtain⟨b0,J⟩:=m.k1 o c.ag.length;have J:=Z J;clear m a7);refine l.out _ _ ?_ (λF=>?_)
 .go_keep
 clear l p;(try simp only[aL,aM,List.set]);refine tk (i:=6) (v:=?_) rfl (by kernel_rfl) (λ_ _ _ k=>k) (by rfl) (by assumption) ?_ ?_;rotate_left
 .intro w s;(try dsimp only at s);go_simp;(try with_reducible rfl)
 (try simp only[aL,aM,List.set]);refine cQ (by kernel_rfl) rfl λp l=>?_;go_simp;refine l.out _ _ ?_;clear l p;(try simp only[aL,aM,List.set]);go_wp2;go_end0;exact⟨rfl,kX b3.j J.j.c9⟩
def Hf{Fr:List (Nat×Obj)}(f:Cp w a Fr e c j h g et u) :
  Calls prog 76 #[.pointer (some ⟨a.C,0,none⟩),.iface 223 (.pointer (some ⟨b,0,none⟩))] u λk m=>k=.returned (.tuple #[])/\cL w a Fr e c m:=by
 have n:=en 223 b 157 225 λd=>by kernel_rfl
 have o:=en 223 b 157 227 λd=>by kernel_rfl
 have p:=en 223 b 157 229 λd=>by kernel_rfl
 have q:=en 223 b 157 231 λd=>by kernel_rfl
 have l:=Z (ll f);have i:=Z f.c9;clear f;go_in;go_wp2_with fail;refine l.j.mono ?_;rintro k r ⟨rfl,rfl⟩;go_wp2;first
  |(go_end0;exact⟨rfl,i.out⟩)
  |exact bodyPost_ret (v:=.tuple #[]) (by simp[results,results76,go_sem]) rfl ⟨rfl,i.j⟩
def Hi{Fr:List (Nat×Obj)}(f:Cp w a Fr e c j h g et u) :
  Calls prog 76 #[.pointer (some ⟨a.C,0,none⟩),.iface 233 (.pointer (some ⟨b,0,none⟩))] u λk m=>k=.returned (.tuple #[])/\cL w a Fr e c m:=by
 have n:=en 233 b 157 225 λd=>by kernel_rfl
 have o:=en 233 b 157 227 λd=>by kernel_rfl
 have p:=en 233 b 157 229 λd=>by kernel_rfl
 have q:=en 233 b 157 231 λd=>by kernel_rfl
 have l:=Z (ll f);have i:=Z f.c9;clear f;go_in;go_wp2_with fail;refine l.j.mono ?_;rintro k r ⟨rfl,rfl⟩;go_wp2;first
  |(go_end0;exact⟨rfl,i.out⟩)
  |exact bodyPost_ret (v:=.tuple #[]) (by simp[results,results76,go_sem]) rfl ⟨rfl,i.j⟩
def Hs{Fr:List (Nat×Obj)}{i:ao}(l:dx f b i)(p:∀d∈f,w.heap[d.1]? = some d.2)(o:pc i)(k:Cp w a Fr e c j h g et u)(n:aV c 5000) :
  Calls prog 76 #[.pointer (some ⟨a.C,0,none⟩),.iface (cE i) (.pointer (some ⟨b,0,none⟩))] u λx z=>x=.returned (.tuple #[])/\cL w a Fr e (jW i c) z:=by
 cases i with
 |const q d v=>exact Hf k
 |prog q d D A=>exact Hi k
 |typedef i=>exact Hk l p o k n
 |enum q d s=>exact Hg l p k n
 |struct q d s=>
  have r:s.length<=1000:=by
   obtain⟨_,_,m⟩:=l;rcases m with⟨_,y,_⟩|⟨_,_,_,_,⟨_,m⟩,_⟩<;>omega
  exact Hj l p o r k n
 |union q d B t=>
  have r:t.length<=1000:=by
   obtain⟨_,_,_,_,m,_⟩:=l;rcases m with⟨_,y,_⟩|⟨_,_,_,_,⟨_,m⟩,_⟩<;>omega
  exact Hl l p o.1 o.2 r k n
end
abbrev ka(a:aU)(c:List (Nat×List UInt8)):aU:=c.foldl (λa b=>dC b.1 (.call ((az a.d2 b.2).getD 0)) a) a
def By:∀(b:List (Nat×List UInt8)) (a:aU),(ka a b).ag.length=a.ag.length/\(ka a b).d2=a.d2/\(ka a b).bk=a.bk:=by
 intro b;induction b with
 |nil=>intro a;exact⟨rfl,rfl,rfl⟩
 |cons c b g=>
  intro a;obtain⟨d,e,f⟩:=g (dC c.1 (.call ((az a.d2 c.2).getD 0)) a);exact⟨d.trans (by simp[dC]),e,f⟩
def JW(b:List (Nat×List UInt8))(a:Nat×List UInt8)(c:aU):ka c (b++[a])=dC a.1 (.call ((az (ka c b).d2 a.2).getD 0)) (ka c b):=by
 unfold ka;rw[YS];rfl
def JQ{i N:World}{d:eU}{Fr j:List (Nat×Obj)}{a:aU}{m A:Value}{a0:List (dh×Value)}{k:List (List UInt8×dg×Value)}(l:Cp i d Fr j a m A a0 k N)(a5:∀c7∈a.bk,c7.1<a.ag.length)(f6:a.ag.length<1000000)(f7:a.bk.length<1000000) :
  Calls prog 79 #[.pointer (some ⟨d.C,0,none⟩)] N λE c9=>E=.returned (.tuple #[])/\∃b5,Cp i d Fr j (rG a) m A b5 k c9:=by
 obtain⟨d1,d2,d3,d4,e8,f5⟩:=l.am;have b1:U (rG a=ka a a.bk):=rfl;have a6:∀(v:World) (M:aU) (f:List (dh×Value)),M.bk=a.bk->Cp i d Fr j M m A f k v->∀(b:Nat) (u:b<a.bk.length),∃p t,A=.slice (some ⟨p,0,none⟩) a.bk.length t/\a.bk.length<=t/\v.cell? ⟨p,b*2,none⟩=some (.int .i64 a.bk[b].1)/\v.cell? ⟨p,b*2+1,none⟩=some (.string ⟨a.bk[b].2.toArray⟩):=by
  intro v M f y c8 b u;have H:=c8.id;rw[y]at H;rcases H.2 with⟨_,e2⟩|⟨p,t,b4,E,_,a3,b7,e3,e4,b8⟩
  .omega
  .have a7:=lk (c:=lg) (n:=2) (λ_=>rfl) a.bk b;have c6:(a.bk.flatMap lg).length=a.bk.length*2:=H.1;have a9:b4.toList.take (a.bk.flatMap lg).length=a.bk.flatMap lg:=by rw[c6];exact b8
   refine⟨p,t,E,b7,cw a3 a9 ?_,cw a3 a9 ?_⟩
   .have:=a7 0 u (by omega);simpa using this
   .have:=a7 1 u (by omega);simpa using this
 have P:=Z a6;have O:=Z a5;obtain⟨b0,K,rfl⟩:=l.m2;have R:U (∃f,Cp i d Fr j (ka a (a.bk.take 0)) m (.slice b0 a.bk.length K) f k N):=⟨a0,l⟩;clear l a6 a5;go_in;go_wp2;go_loopw [9] (λz d0=>∃b:Nat,z=.int .i64 b/\b<=a.bk.length/\U (∃f,Cp i d Fr j (ka a (a.bk.take b)) m (.slice b0 a.bk.length K) f k d0)) (λz _=>a.bk.length-(intOf z).toNat)
 case atStart=>exact⟨0,rfl,by omega,R⟩
 case round=>
  obtain⟨b,rfl,u,r⟩:=hrel;clear R;obtain⟨F,G,a1⟩:=By (a.bk.take b) a;rcases Yj b a.bk.length with w|f3
  .obtain⟨f,s⟩:=r.j;obtain⟨b6,d5,c5,e6,f9,g0⟩:=P.j _ _ _ a1 s b w;cases c5
   have c2:=O.j _ (Yy w);obtain⟨h,J⟩:∃h,h=(az a.d2 a.bk[b].2).getD 0:=⟨_,rfl⟩;have c3:b+1<=a.bk.length:=w;have y:ka a (a.bk.take (b+1))=dC a.bk[b].1 (.call h) (ka a (a.bk.take b)):=by
    rw[Yt w,JW,G,J]
   obtain⟨d6,d7,d8,d9,e0,e1⟩:=s.am;generalize a.bk[b].1=g at *
   generalize a.bk[b].2=e at *
   have D:=(s.aA ((Below.refl wr.heap.size wr).alloc (Y4 _) (.cells #[.int .i64 g,.string ⟨e.toArray⟩] 269))).aA (Below.refl _ _).drew;have I:=D.m3 e false;rw[G]at I;have f4:(Instr.lookup 103 (.map (some d.B)) (.string ⟨e.toArray⟩) false).run prog (wr.alloc (.cells #[.int .i64 g,.string ⟨e.toArray⟩] 269)).drew=.ok (.int .i64 h) (wr.alloc (.cells #[.int .i64 g,.string ⟨e.toArray⟩] 269)).drew:=by
    rw[I,J];cases az a.d2 e<;>rfl
   obtain⟨a2,b3,a8,c1,e7,⟨g1,f8⟩,e9,S⟩:=sn (i:=g) (x:=.call h) (v:=.iface 271 (.agg #[.int .i64 h])) D rfl (by rw[F];exact c2)
   rw[F]at a8 c1;have b9:U (∃f,Cp i d Fr j (ka a (a.bk.take (b+1))) m (.slice (some ⟨b6,0,none⟩) a.bk.length K) f k ((wr.alloc (.cells #[.int .i64 g,.string ⟨e.toArray⟩] 269)).drew.setCell ⟨a2,g,none⟩ (.iface 271 (.agg #[.int .i64 h])))):=by
    rw[y];exact⟨_,S⟩
   have f0:(0:Int)<=↑b:=by omega
   have f1:(↑b:Int) < ↑a.bk.length:=by omega
   have f2:(↑g:Int) < ↑a.ag.length:=by omega
   subst a8;clear r s D S y I F G a1 J P O;go_wp2_with fail;refine cS (λo=>o.cell? ⟨d.C,0,none⟩=some (.slice (some ⟨a2,0,none⟩) a.ag.length b3)/\o.cell? ⟨d.C,1,none⟩=some (.map (some d.B))/\o.cell? ⟨wr.heap.size,0,none⟩=some (.int .i64 g)/\o.cell? ⟨wr.heap.size,1,none⟩=some (.string ⟨e.toArray⟩)/\(Instr.lookup 103 (.map (some d.B)) (.string ⟨e.toArray⟩) false).run prog o=.ok (.int .i64 h) o) (L:=16) (by kernel_rfl) rfl (by kernel_rfl) (by kernel_rfl) ?_ (λe5=>?_)
   .go_keep
   refine bI [0,1,2,3,4,5,6,7,8,9,10,11,12,13,14,15] ?_;iterate 16 (refine bP (v:=?_) rfl (by kernel_rfl) (λ_ _ _ l=>l) (by rfl) (by assumption) ?_ ?_;rotate_left;focus (intro i c0;(try dsimp only at c0);go_simp;(try with_reducible rfl));(try simp only[aL,aM,List.set]))
   refine bJ ?_;refine cQ (by kernel_rfl) rfl λb2 a4=>?_;go_simp;refine a4.out _ _ ?_;clear a4 b2;(try simp only[aL,aM,List.set]);go_wp2;exact⟨⟨b+1,by go_num,c3,b9⟩,by simp[intOf];omega⟩
  .have c4:b=a.bk.length:=by omega
   subst c4;have q:=r.j;rw[YG]at q;have q:=Z q;clear r;go_wp2;go_end0;rw[b1.j];exact⟨rfl,q.j⟩
section
variable {a:ao}{n:Nat}{s:aU}
def ug:ao->Prop
 |.struct _ _ b=>b.length<=1000
 |.union _ _ _ a=>a.length<=1000
 |_=>True
def Hb{f:List (Nat×Obj)}{e:Nat}(c:dx f e a):ug a:=by
 cases a with
 |struct j i h=>
  obtain⟨_,_,b⟩:=c;show h.length<=1000;rcases b with⟨_,g,_⟩|⟨_,_,_,_,⟨_,b⟩,_⟩<;>omega
 |union j i k d=>
  obtain⟨_,_,_,_,b,_⟩:=c;show d.length<=1000;rcases b with⟨_,g,_⟩|⟨_,_,_,_,⟨_,b⟩,_⟩<;>omega
 |_=>trivial
def us(a:aV s (n+1))(c:List UInt8)(b:Nat):aV (rc c b s) n:=⟨(a.cv .ret).ag,(a.cv .ret).bk⟩
def Fs(b:aV s n)(a:List Nat):aV (hX a s) n:=by
 refine⟨by rw[sU];exact b.ag,?_⟩;rw[sU];have:(hX a s).bk=s.bk:=(HD a s).2.1;rw[this];exact b.bk
def Fq(f:pc a)(i:ug a)(b:aV s (n+4100)):aV (jW a s) n:=by
 cases a with
 |const c e v=>exact b.cs (by omega)
 |prog c e t p=>exact b.cs (by omega)
 |typedef a=>exact us (sy _ (b.cs (by have:=pC (ji.g7 f);omega))) _ _
 |enum c e d=>
  have j:aV { s with e8:=bF s.e8 c (kb d) } (n+2):=⟨by have:=b.ag;show s.ag.length+(n+2)<1000000;omega,b.bk⟩;exact us (aV.cv j _) _ _
 |struct c e d=>
  have k:d.length<=1000:=i;refine us ?_ _ _;have h:=yG (d.map (·.L)) (s:=bf (.struct d.length true) s) (n:=n+1) (by intro c m;obtain⟨o,l,rfl⟩:=YE.1 m;exact(f o l).g7) (aV.cv (b.cs (by simp;omega)) _);rw[List.foldl_map]at h;exact h
 |union c e r g=>
  have k:g.length<=1000:=i;refine us ?_ _ _;exact Fs (aV.bQ (yH g (q:=⟨bf .hole s,[],none,[]⟩) (n:=n+1) f.2 (aV.cv (b.cs (by omega)) _)) _ _) _
def zJ:∀(b:List ao) {s:aU} {n:Nat},(∀a∈b,pc a)->(∀a∈b,ug a)->aV s (n+4100*b.length)->aV (b.foldl (λs a=>jW a s) s) n:=by
 intro b;induction b with
 |nil=>intro s n _ _ d;exact d
 |cons a b h=>
  intro s n f g d;exact h (λc e=>f c (Y5 _ e)) (λc e=>g c (Y5 _ e)) (Fq (f a (by simp)) (g a (by simp)) (d.cs (by simp only[YC];omega)))
def Ft(b:aV s (n+2))(a:List UInt8):aV (yS a s) n:=aV.cv (aV.call b a) _
def zM:∀(b:List ao) {p:aU×List (List UInt8×Nat)} {n:Nat},aV p.1 (n+2*b.length)->aV (b.foldl el p).1 n:=by
 intro b;induction b with
 |nil=>intro p n c;exact c
 |cons a b d=>
  intro p n c;refine d ?_;unfold el;split
  .exact Ft (c.cs (by simp only[YC];omega)) _
  .exact c.cs (by simp only[YC];omega)
def Dt:∀(b:List ao) {d:aU×List (List UInt8×Nat)},(d.2.map (·.1)).Nodup->((b.foldl el d).2.map (·.1)).Nodup:=by
 intro b;induction b with
 |nil=>intro d c;exact c
 |cons a b e=>
  intro d c;refine e ?_;unfold el;split
  .exact pW c _ _
  .exact c
def QW(f:ByteArray):∀(b:Nat) {ds:List ao},gE (λc=>c.length<=ds.length+b) (ec f b ds):=by
 intro b;induction b with
 |zero=>intro ds;exact qC _ _
 |succ b e=>
  intro ds;unfold ec;refine dw λg=>hw (hN (by omega)) (dw λa=>dw λ_=>?_);intro h c i d;have:=e (ds:=ds++[a]) _ _ _ d;simp at this;omega
def Ra{c:ByteArray}{ds:List ao}(a:eo c=.ok ds):ds.length<=69:=by
 unfold eo at a;split at a
 .cases a
 .cases b:ec c 69 [] eP with
  |error g=>rw[b]at a;cases a
  |ok e=>
   obtain⟨f,h⟩:=e;rw[b]at a;simp only at a;have d:=QW c 69 (ds:=[]) _ _ _ b;split at a
   .cases a
   .split at a
    .cases a
    .cases a
     simpa using d
abbrev qz(v:Value)(s a:Option Nat):Obj:=.cells #[v,.map s,.map a] 106
def GR(a:World):Cp a ⟨a.heap.size+3,a.heap.size+1,a.heap.size+2⟩ [(a.heap.size,qz (.slice none 0 0) none none)] [] lK (.slice none 0 0) (.slice none 0 0) [] []
  ((((a.alloc (qz (.slice none 0 0) none none)).alloc (.map #[] 0)).alloc (.map #[] 0)).alloc (.cells #[.slice none 0 0,.map (some (a.heap.size+1)),.map (some (a.heap.size+2)),.slice none 0 0] 167)):=by
 have g:(a.alloc (qz (.slice none 0 0) none none)).heap.size=a.heap.size+1:=by simp
 have h:((a.alloc (qz (.slice none 0 0) none none)).alloc (.map #[] 0)).heap.size=a.heap.size+2:=by simp
 have i:(((a.alloc (qz (.slice none 0 0) none none)).alloc (.map #[] 0)).alloc (.map #[] 0)).heap.size=a.heap.size+3:=by simp
 refine⟨⟨((((ah [] a).G _).G _).G _).G _,?_,?_,?_,?_,(by intro c b;cases b),by simp,?_,(by intro c _ j e;cases e)⟩,?_,?_,by simp[lK],?_,by simp,by simp[lK],(by intro c b;cases b),⟨by simp[lK],Y8 ⟨rfl,rfl⟩⟩,rfl,(by intro c b;cases b),⟨by simp[lK],Y8 ⟨rfl,rfl⟩⟩⟩
 .intro f d;simp[ft,Value.ownBlock]at d;omega
 .intro f d;simp[ft,Value.ownBlock]at d;simp;omega
 .simp[ft,Value.ownBlock]
 .intro c b;simp only[Yc]at b;subst b;refine⟨(Below.heap_alloc _ _ _ (by simp;omega)).trans ((Below.heap_alloc _ _ _ (by simp;omega)).trans ((Below.heap_alloc _ _ _ (by simp)).trans (aK rfl))),?_⟩;simp[ft,Value.ownBlock]
 .intro c b;simp only[Yc]at b;subst b;simp
 .exact aK i.symm
 .exact(Below.heap_alloc _ _ _ (by simp)).trans ((Below.heap_alloc _ _ _ (by simp)).trans (aK g.symm))
 .exact(Below.heap_alloc _ _ _ (by simp)).trans (aK h.symm)
def EX(e:List (Nat×Obj))(f:TypeId)(v:Value)(n:Nat)(d:List Value):Prop:=
 (v=.slice none 0 0/\n=0/\d=[])\/∃c a b,v=.slice (some ⟨c,0,none⟩) n a/\n<=a/\(c,Obj.cells b f)∈e/\b.toList.take n=d
def pb(c:List (Nat×Obj))(v:Value)(a:List dh):Prop:=∃b:List (dh×Value),a=b.map (·.1)/\EX c 273 v a.length (b.map (·.2))/\(∀d∈b,jr c d.2 d.1)/\a.length<1000000
end
section
variable {a b:World}{m:Nat}{e:aU}
abbrev CF(a:eu):List Value:=lw a.t a.w++[bX a.dr,bX a.c4,.int .i64 a.num]
def lA(b:List (Int×Nat×Nat)):Obj:=kK (b.map λa=>(.int .u32 a.1,.agg #[.int .i64 a.2.1,.int .i64 a.2.2]))
def mF(b:List (Int×Nat×List (Int×Nat×Nat))):Obj:=kK (b.map λa=>(.int .u32 a.1,.map (some a.2.1)))
structure jo where
 lo:Int
 hi:Int
 m:Nat
 vs:List (Int×Nat×List (Int×Nat×Nat))
def qj(b:List (Int×jo)):Obj:=kK (b.map λa=>(.int .u32 a.1,.agg #[.int .u32 a.2.lo,.int .u32 a.2.hi,.map (some a.2.m)]))
def sD(b:List (Nat×Obj))(c:List (Int×Nat×List (Int×Nat×Nat))):Prop:=∀a∈c,(a.2.1,lA a.2.2)∈b
def lU(b:List (Nat×Obj))(a:jo):Prop:=(a.m,mF a.vs)∈b/\sD b a.vs
def sJ(b:List (Int×Nat×List (Int×Nat×Nat))):List (Int×List (Int×Nat×Nat)):=b.map λa=>(a.1,a.2.2)
def uz(a:jo):jp:=⟨a.lo,a.hi,sJ a.vs⟩
def sI(b:List (Int×jo)):List (Int×jp):=b.map λa=>(a.1,uz a.2)
def sC(v:eJ):Prop:=v.ak.length<=8/\∀a∈v.ak,gB a.dr/\gB a.c4
def ku:ao->Prop
 |.prog _ _ a _=>a≠[]/\a.length<=4/\∀v∈a,sC v
 |_=>True
def yU(a:Int):Instr.keyThatStays (.int .u32 a) (.int .u32 a)=pure (.int .u32 a):=by
 unfold Instr.keyThatStays;rw[Y9 (by show ((IntKind.u32==IntKind.u32)&&(a==a))=true;simp)]
def zi(a b:Int)(c:(Value.int .u32 a)=.int .u32 b):a=b:=by simpa using c
def xm(a:Int)(b:World):(convert 2 218 (.int .i64 a)).run prog b=.ok (.int .u32 (cJ a)) b:=by kernel_rfl
def MR{e:List (Int×Nat×Nat)}(g:a.heap[m]? = some (lA e))(h:(e.map (·.1)).Nodup)(c:Int)(f b:Nat) :
  (Instr.mapUpdate 399 (.map (some m)) (.int .u32 c) (.agg #[.int .i64 f,.int .i64 b])).run prog a=.ok () (dn a m (lA (bF e c (f,b)))):=
 pT (P:=prog) (T:=399) (kt:=218) (et:=429) (d:=.int .u32) (by kernel_rfl) (by kernel_rfl) (λc:Int=>.int .u32 c) (λb:Nat×Nat=>.agg #[.int .i64 b.1,.int .i64 b.2]) (λ_=>rfl) (λ_=>yU _) zi g h c (f,b)
def Sb{c:List (Int×Nat×List (Int×Nat×Nat))}(f:a.heap[m]? = some (mF c))(g:(c.map (·.1)).Nodup)(b:Int)(v:Nat)(e:List (Int×Nat×Nat)) :
  (Instr.mapUpdate 261 (.map (some m)) (.int .u32 b) (.map (some v))).run prog a=.ok () (dn a m (mF (bF c b (v,e)))):=
 pT (P:=prog) (T:=261) (kt:=218) (et:=399) (d:=.int .u32) (by kernel_rfl) (by kernel_rfl) (λb:Int=>.int .u32 b) (λh:Nat×List (Int×Nat×Nat)=>.map (some h.1)) (λ_=>rfl) (λ_=>yU _) zi f g b (v,e)
def Nf{e:List (Int×jo)}(f:a.heap[m]? = some (qj e))(g:(e.map (·.1)).Nodup)(c:Int)(b:jo) :
  (Instr.mapUpdate 104 (.map (some m)) (.int .u32 c) (.agg #[.int .u32 b.lo,.int .u32 b.hi,.map (some b.m)])).run prog a=.ok () (dn a m (qj (bF e c b))):=
 pT (P:=prog) (T:=104) (kt:=218) (et:=263) (d:=.int .u32) (by kernel_rfl) (by kernel_rfl) (λc:Int=>.int .u32 c) (λb:jo=>.agg #[.int .u32 b.lo,.int .u32 b.hi,.map (some b.m)]) (λ_=>rfl) (λ_=>yU _) zi f g c b
def wJ{b:Nat}{a:Ty}(d:gB a)(c:aV e (b+4)):aV (nJ a e) b:=aV.cv (sy a (c.cs (by have:=pC d;omega))) _
def zK:∀(a:List eu) {q:aU×List (Int×Nat×Nat)} {c:Nat},(∀b∈a,gB b.dr/\gB b.c4)->aV q.1 (c+8*a.length)->aV (a.foldl iF q).1 c:=by
 intro a;induction a with
 |nil=>intro q c _ d;exact d
 |cons b a g=>
  intro q c e d;refine g (λh f=>e h (Y5 _ f)) ?_;exact wJ (e b (by simp)).1 (wJ (e b (by simp)).2 (d.cs (by simp only[YC];omega)))
def MQ:∀(a:List eu) {b:aU×List (Int×Nat×Nat)},(b.2.map (·.1)).Nodup->((a.foldl iF b).2.map (·.1)).Nodup:=by
 intro a;induction a with
 |nil=>intro b c;exact c
 |cons e a d=>intro b c;exact d (pW c _ _)
def yv{a:Nat}{g h c d e:Value}{f:TypeId}(i:b.heap[a]? = some (.cells #[g,h,c,d,e] f)) :
  b.cell? ⟨a,2,none⟩=some c/\b.cell? ⟨a,3,none⟩=some d/\b.cell? ⟨a,4,none⟩=some e:=by
 refine⟨?_,?_,?_⟩<;>simp[World.cell?,i]
def EU(b:World)(d:eU)(Fr f:List (Nat×Obj))(v:eJ)(e:aU)(g:Ending)(i:World):Prop:=∃c a,g=.returned (.map (some c))/\(∀h∈f,h∈a)/\(c,lA (oU v e).2)∈a/\cL b d Fr a (oU v e).1 i
def Si{g:World}{o:eU}{Fr p:List (Nat×Obj)}{a3 a2:Value}{N:List (dh×Value)}{O:List (List UInt8×dg×Value)}{a8:List (Nat×Obj)}{q:Value}{v:eJ}(b5:fy a8 446 q v.ak.length (v.ak.flatMap CF))(b7:∀i∈a8,b.heap[i.1]? = some i.2)(b6:sC v)(u:Cp b o Fr p e a3 a2 N O g)(d7:aV e 80) :
  Calls prog 212 #[.pointer (some ⟨o.C,0,none⟩),.agg #[.string ⟨v.t.toArray⟩,.int .i64 v.w,q,.int .i64 v.num]] g (EU b o Fr p v e):=by
 have g3:=jx;have f8:=xm;have J:=Z b6;have f5:=b6.1;have c0:=Z d7;have g5:b.heap.size<=g.heap.size:=u.ax.kp.a2;have c3:U (cL b o ((g.heap.size+1,lA ((v.ak.take 0).foldl iF (e,[])).2)::Fr) p ((v.ak.take 0).foldl iF (e,[])).1 ((g.alloc (.cells #[.string ⟨v.t.toArray⟩,.int .i64 v.w,q,.int .i64 v.num] 367)).alloc (.map #[] 0))):=by
  have H:=(u.aA ((Below.refl g.heap.size g).alloc (Y4 _) (.cells #[.string ⟨v.t.toArray⟩,.int .i64 v.w,q,.int .i64 v.num] 367))).G (.map #[] 0);have k:(g.alloc (.cells #[.string ⟨v.t.toArray⟩,.int .i64 v.w,q,.int .i64 v.num] 367)).heap.size=g.heap.size+1:=by simp
  rw[k]at H;exact H.c9
 have d3:∀(a:World),ai [] b a->∀f (w:f<v.ak.length),∃h l,q=.slice (some ⟨h,0,none⟩) v.ak.length l/\v.ak.length<=l/\a.cell? ⟨h,f*5,none⟩=some (.string ⟨v.ak[f].t.toArray⟩)/\a.cell? ⟨h,f*5+1,none⟩=some (.int .i64 v.ak[f].w)/\a.cell? ⟨h,f*5+2,none⟩=some (bX v.ak[f].dr)/\a.cell? ⟨h,f*5+3,none⟩=some (bX v.ak[f].c4)/\a.cell? ⟨h,f*5+4,none⟩=some (.int .i64 v.ak[f].num):=by
  intro a I f w;rcases b5 with⟨_,a9,_⟩|⟨h,l,c7,k,⟨H,_⟩,b3,D⟩
  .omega
  .have A:=(I.K _ (aj (b7 _ b3)) (by simp)).trans (b7 _ b3);have z:=lk (c:=CF) (n:=5) (λ_=>rfl) v.ak f;refine⟨h,l,k,H,cw A D ?_,cw A D ?_,cw A D ?_,cw A D ?_,cw A D ?_⟩
   .have:=z 0 w (by omega);simpa using this
   .have:=z 1 w (by omega);simpa using this
   .have:=z 2 w (by omega);simpa using this
   .have:=z 3 w (by omega);simpa using this
   .have:=z 4 w (by omega);simpa using this
 obtain⟨f1,f2,rfl⟩:∃ad l,q=.slice ad v.ak.length l:=by
  rcases b5 with⟨k,a9,_⟩|⟨h,l,c7,k,_⟩
  .exact⟨none,0,by rw[k,a9]⟩
  .exact⟨_,_,k⟩
 have b9:=Z d3;go_in;go_wp2;go_loopw [12] (λf e3=>∃d:Nat,f=.int .i64 d/\d<=v.ak.length/\U (cL b o ((g.heap.size+1,lA ((v.ak.take d).foldl iF (e,[])).2)::Fr) p ((v.ak.take d).foldl iF (e,[])).1 e3)) (λf _=>v.ak.length-(intOf f).toNat)
 case atStart=>exact⟨0,rfl,by omega,c3⟩
 case round=>
  obtain⟨d,rfl,g0,x⟩:=hrel;rcases Yj d v.ak.length with a0|f9
  .have b4:aV ((v.ak.take d).foldl iF (e,[])).1 16:=zK (v.ak.take d) (λi B=>J.j.2 i (List.mem_of_mem_take B)) (c0.j.cs (by have:=J.j.1;simp;omega));have d6:(((v.ak.take d).foldl iF (e,[])).2.map (·.1)).Nodup:=MQ _ (by simp);have c1:U ((v.ak.take (d+1)).foldl iF (e,[])=iF ((v.ak.take d).foldl iF (e,[])) v.ak[d]):=by show _=_;rw[Yt a0,YS];rfl
   obtain⟨c5,e2,d8,c8,c9,R,m⟩:=x.j;generalize g4:(v.ak.take d).foldl iF (e,[])=j at *
   obtain⟨h,l,d4,f7,g8,g9,d9,e0,h0⟩:=b9.j _ m.ax.kp d a0;cases d4
   have S:=J.j.2 v.ak[d] (Yy a0);obtain⟨K,a4,b0⟩:=fm v.ak[d].dr;obtain⟨M,a5,b1⟩:=fm v.ak[d].c4;rw[b0]at d9;rw[b1]at e0;have g1:(0:Int)<=↑d:=by omega
   have g2:(↑d:Int) < ↑v.ak.length:=by omega
   have c4:=Z ((m.G (.cells #[.string ⟨v.ak[d].t.toArray⟩,.int .i64 v.ak[d].w,.iface K a4,.iface M a5,.int .i64 v.ak[d].num] 446)).aA ((Below.refl _ _).drew))
   have f6:g.heap.size+1≠wr.heap.size:=by
    have:=aj (m.ax.hf _ Yb).1;simp only at this;omega
   have G:=xn S.2 c4.j (b4.cs (by omega));rw[b1]at G;have G:=Z G;have s:=λ(a:World) (p:List (Nat×Obj)) a3 a2 N O (c2:Cp b o ((wr.heap.size,.cells #[.string ⟨v.ak[d].t.toArray⟩,.int .i64 v.ak[d].w,.iface K a4,.iface M a5,.int .i64 v.ak[d].num] 446)::(g.heap.size+1,lA j.2)::Fr) p (nJ v.ak[d].c4 j.1) a3 a2 N O a)=>xn S.1 c2 (wJ S.2 (b4.cs (by omega)))
   rw[b0]at s;have s:=Z s;have b8:=Z R;go_wp2_with fail;refine cS (λa6=>a6.cell? ⟨wr.heap.size,2,none⟩=some (.iface K a4)/\a6.cell? ⟨wr.heap.size,3,none⟩=some (.iface M a5)/\a6.cell? ⟨wr.heap.size,4,none⟩=some (.int .i64 v.ak[d].num)) (L:=13) (by kernel_rfl) rfl (by kernel_rfl) (by kernel_rfl) ?_ (λb2=>?_)
   .exact yv (aK rfl)
   refine bI [0,1,2,3,4,5,6,8,9,10] ?_;iterate 10 (refine bP (v:=?_) rfl (by kernel_rfl) (λ_ _ _ u=>u) (by rfl) (by assumption) ?_ ?_;rotate_left;focus (intro b P;(try dsimp only at P);go_simp;(try with_reducible rfl));(try simp only[aL,aM,List.set]))
   refine bJ ?_;refine ck 7 (by kernel_rfl) rfl λa7 y=>?_;(go_simp;go_at_call 134;refine G.j.mono ?_;rintro k h3 ⟨rfl,e8,h1,g6,e9,f3,d1,E⟩;have E:=Z E;have s:=Z (s.j _ _ _ _ _ _ E.j);obtain⟨e5,e6,e7⟩:=yv (E.j.ax.hf _ Yb).1);refine y.out _ _ ?_ (λb2=>?_)
   .go_keep
   (try simp only[aL,aM,List.set]);refine ck 11 (by kernel_rfl) rfl λa7 y=>?_;(go_simp;go_at_call 134;refine s.j.mono ?_;rintro k e4 ⟨rfl,c6,h2,g7,f0,f4,d2,r⟩;have r:=Z r;obtain⟨e5,e6,e7⟩:=yv (r.j.ax.hf _ Yb).1;have a1:=(r.j.dA.ax.hf _ Yb).1;have e1:=MR a1 d6 (cJ v.ak[d].num) j.1.ag.length (nJ v.ak[d].c4 j.1).ag.length;have F:=r.j.dA.g3 (gY _ _ _) (kh (aj a1) (lA (bF j.2 (cJ v.ak[d].num) (j.1.ag.length,(nJ v.ak[d].c4 j.1).ag.length))));obtain⟨a,I⟩:∃a,a=dn e4 (g.heap.size+1) (lA (bF j.2 (cJ v.ak[d].num) (j.1.ag.length,(nJ v.ak[d].c4 j.1).ag.length))):=⟨_,rfl⟩;rw[<-I]at e1 F;have F:=Z F;clear r a1 I);refine y.out _ _ ?_ (λb2=>?_)
   .go_keep
   (try simp only[aL,aM,List.set]);refine tk (i:=12) (v:=?_) rfl (by kernel_rfl) (λ_ _ _ u=>u) (by rfl) (by assumption) ?_ ?_;rotate_left
   .intro b P;(try dsimp only at P);go_simp;(try with_reducible rfl)
   (try simp only[aL,aM,List.set]);refine cQ (by kernel_rfl) rfl λa7 y=>?_;go_simp;refine y.out _ _ ?_;(try simp only[aL,aM,List.set]);have d0:U (cL b o ((g.heap.size+1,lA ((v.ak.take (d+1)).foldl iF (e,[])).2)::Fr) p ((v.ak.take (d+1)).foldl iF (e,[])).1 a):=by
    rw[c1.j];exact⟨c6,_,_,_,_,λi B=>d2 i (d1 i (b8.j i B)),F.j⟩
   go_wp2;exact⟨⟨d+1,by go_num,by omega,d0⟩,by simp[intOf];omega⟩
  .have d5:d=v.ak.length:=by omega
   subst d5;have x:=x.j;rw[YG]at x;obtain⟨c5,e2,d8,c8,c9,R,m⟩:=x;have m:=Z m;go_wp2;go_ret;exact⟨g.heap.size+1,_,rfl,λi B=>Y5 _ (R i B),Yb,m.j.h7.c9⟩
end
end Go.Proofs.YtjdhaegijjednaaGreatDoor
namespace Go.Proofs.YtjdhaegijjednaaGreatDoor
open Go.Proofs.Tryz
section
variable {a c τ : Type} {b : ByteArray}
def Yl(d:PM a)(c:a->Prop):Prop:=∀e b f,d e=.ok (b,f)->c b
def Yx(d:PX τ a)(c:a->Prop):Prop:=∀e g b f h,d e g=.ok (b,f,h)->c b
def dK(b:PM a):Yl b λ_=>True:=λ_ _ _ _=>trivial
def qD(b:PX τ a):Yx b λ_=>True:=λ_ _ _ _ _ _=>trivial
def jI{d:a->Prop}{b:a}(f:d b):Yl (bT b) d:=λg e h c=>by
 have c:Except.ok (b,g)=Except.ok (e,h):=c;cases c
 exact f
def Es{d:a->Prop}{b:a}(f:d b):Yx (τ:=τ) (cH b) d:=λg i e h j c=>by
 have c:Except.ok (b,g,i)=Except.ok (e,h,j):=c;cases c
 exact f
def ww{c:a->Prop}(f d:Nat):Yl (fl f d) c:=λh e g b=>by
 have b:Except.error _=Except.ok (e,g):=b;cases b
def dv{e:c->Prop}{Q:a->Prop}{g:PM a}{f:a->PM c}(j:Yl g Q)(i:∀b,Q b->Yl (f b) e):Yl (av g f) e:=by
 intro l k m d;unfold av at d;split at d
 .rename_i b n h;exact i b (j _ _ _ h) _ _ _ d
 .cases d
def mI{e:c->Prop}{Q:a->Prop}{g:PX τ a}{f:a->PX τ c}(j:Yx g Q)(i:∀b,Q b->Yx (f b) e):Yx (aw g f) e:=by
 intro l o k m p d;unfold aw at d;split at d
 .rename_i b n q h;exact i b (j _ _ _ _ _ h) _ _ _ _ _ d
 .cases d
def zx{c:a->Prop}{d:PM a}(e:Yl d c):Yx (τ:=τ) (lift d) c:=by
 intro i k h j l b;unfold lift at b;split at b
 .rename_i g m f;cases b;exact e _ _ _ f
 .cases b
def RC:Yl (kl b) gB:=by
 unfold kl;refine dv (dK _) λa _=>?_;unfold hL;split
 .exact jI trivial
 split
 .exact jI trivial
 split
 .exact jI trivial
 split
 .exact jI trivial
 split
 .refine dv (dK _) λc _=>?_;split
  .exact jI trivial
  .exact dv (dK _) λ_ _=>jI trivial
 .exact ww _ _
def Dc:Yl (lH b) gB:=by
 unfold lH;refine dv (dK _) λa _=>?_;split
 .exact jI trivial
 .exact RC
def MM:Yx (jC b) λa=>gB a.dr/\gB a.c4:=by
 unfold jC;exact mI (zx Dc) λh d=>mI (qD _) λg _=>mI (qD _) λ_ _=>mI (zx Dc) λe c=>mI (qD _) λ_ _=>mI (qD _) λf _=>Es ⟨d,c⟩
def tn{d:PM a}{e f:τ}{g h:St}{c:a}(b:lift d e g=.ok (c,f,h)):d g=.ok (c,h)/\f=e:=by
 unfold lift at b;split at b
 .rename_i j k i;cases b;exact⟨i,rfl⟩
 .cases b
def sL{h:PX τ a}{g:a->PX τ c}{j:τ}{k:St}{i:c×τ×St}(d:aw h g j k=.ok i):∃b e f,h j k=.ok (b,e,f)/\g b e f=.ok i:=by
 unfold aw at d;split at d
 .rename_i b e f l;exact⟨b,e,f,l,d⟩
 .cases d
def FZ{u:Type}{nt:Nat}{t:PX τ Unit}(m:τ->List u)(s:u->Prop)(I:∀c h d f,t c h=.ok ((),d,f)->∃l,m d=m c++[l]/\s l) :
  ∀(o a:Nat) (c:τ) (h:St) (d:τ) (f:St),hl b nt t o a c h=.ok ((),d,f)->a<=nt->∃g,m d=m c++g/\(∀l∈g,s l)/\a+g.length<=nt/\(a=0->g≠[]):=by
 intro o;induction o with
 |zero=>intro a c h d f n _;exact absurd (tn n).1 (λe=>by have e:Except.error _=Except.ok _:=e;cases e)
 |succ o M=>
  intro a c h d f n G;unfold hl at n;obtain⟨r,q,v,i,j⟩:=sL n;have J:q=c/\(a=0->r=false):=by
   split at i
   .have i:Except.ok (false,c,h)=Except.ok (r,q,v):=i;cases i
    exact⟨rfl,λ_=>rfl⟩
   .rename_i z;exact⟨(tn i).2,λe=>absurd e z⟩
  obtain⟨rfl,K⟩:=J;cases r with
  |true=>
   have j:Except.ok ((),q,v)=Except.ok ((),d,f):=j;cases j
   exact⟨[],by simp,by simp,by simpa using G,λe=>absurd (K e) (by simp)⟩
  |false=>
   simp only[Ye,if_false]at j
   obtain⟨l,S,a1,A,B⟩:=sL j;obtain⟨-,rfl⟩:=tn A;obtain⟨_,a0,a2,k,C⟩:=sL B;obtain⟨k,rfl⟩:=tn k;have F:a<nt:=by
    unfold ej at k;split at k
    .cases k
    .omega
   obtain⟨_,N,P,D,E⟩:=sL C;obtain⟨O,L,H⟩:=I _ _ _ _ D;obtain⟨g,x,y,R,-⟩:=M (a+1) N P d f E F;refine⟨O::g,by rw[x,L];simp,?_,by simp;omega,λ_=>by simp⟩;intro w p;rcases Yg.1 p with rfl|p
   .exact H
   .exact y w p
def Ab{j k:Type}{nt:Nat}{h:PX (List j×k) Unit}(e:j->Prop)(s:∀i l f m,h i l=.ok ((),f,m)->∃d,f.1=i.1++[d]/\e d)(t:k):Yl (ih (ew b nt h) ([],t)) λc=>c.1≠[]/\c.1.length<=nt/\∀d∈c.1,e d:=by
 intro l c m a;unfold ih at a;split at a
 .rename_i f x p;cases a
  obtain⟨_,v,y,q,r⟩:=sL p;obtain⟨-,rfl⟩:=tn q;obtain⟨w,g,n,u,o⟩:=FZ (·.1) e s _ _ _ _ _ _ r (YV _);rw[YT]at g;rw[g];exact⟨o rfl,by omega,n⟩
 .cases a
def Sf:Yx (jF b) sC:=by
 unfold jF;refine mI (qD _) λ_ _=>mI (qD _) λh _=>?_;unfold ub;refine mI (zx (Ab (λc:eu=>gB c.dr/\gB c.c4) ?_ _)) λc f=>mI (qD _) λg _=>Es f.2;intro j l k m a;unfold jG at a;split at a
 .rename_i d i n e;cases a;exact⟨d,rfl,MM _ _ _ _ _ e⟩
 .cases a
def MY(c:Nat):Yl (hJ b c) ku:=by
 unfold hJ;refine dv (dK _) λ_ _=>dv (dK _) λh _=>?_;unfold oE;refine dv (Ab sC ?_ _) λi f=>dv (dK _) λg _=>jI f;intro k m l n a;unfold ja at a;split at a
 .rename_i d j o e;cases a;exact⟨d,rfl,Sf _ _ _ _ _ e⟩
 .cases a
def Kx(g:List UInt8×Nat):∀(c:Nat) (e:List (List UInt8×Nat×Int)) (d:List (Int×Int)),Yl (gr b g c e d) ku:=by
 intro c;induction c with
 |zero=>intro e d;exact ww _ _
 |succ c f=>
  intro e d j h k a;unfold gr at a;split at a
  .refine(dv (dK _) λi _=>?_:Yl _ ku) _ _ _ a;split
   .exact f _ _
   .unfold nh;exact dv (dK _) λ_ _=>dv (dK _) λ_ _=>jI trivial
  .cases a
def Hu:Yl (fQ b) ku:=by
 unfold fQ;refine dv (dK _) λa _=>?_;unfold dU;split
 .unfold iB;exact dv (dK _) λ_ _=>dv (dK _) λ_ _=>dv (dK _) λ_ _=>dv (dK _) λ_ _=>dv (dK _) λ_ _=>jI trivial
 split
 .unfold iI;exact dv (dK _) λ_ _=>dv (dK _) λ_ _=>dv (dK _) λ_ _=>jI trivial
 split
 .unfold gp;exact dv (dK _) λ_ _=>dv (dK _) λ_ _=>dv (dK _) λ_ _=>Kx _ _ _ _
 split
 .unfold jf;exact dv (dK _) λ_ _=>dv (dK _) λ_ _=>dv (dK _) λ_ _=>dv (dK _) λ_ _=>jI trivial
 split
 .unfold dQ;exact dv (dK _) λ_ _=>dv (dK _) λ_ _=>dv (dK _) λ_ _=>dv (dK _) λ_ _=>dv (dK _) λ_ _=>dv (dK _) λ_ _=>dv (dK _) λ_ _=>dv (dK _) λ_ _=>dv (dK _) λ_ _=>dv (dK _) λ_ _=>dv (dK _) λ_ _=>jI trivial
 split
 .exact MY _
 .exact ww _ _
def QX:∀(e:Nat) (d:List ao),(∀c∈d,ku c)->Yl (ec b e d) λj=>∀c∈j,ku c:=by
 intro e;induction e with
 |zero=>intro d _;exact ww _ _
 |succ e i=>
  intro d f;unfold ec;refine dv (dK _) λk _=>?_;split
  .exact jI f
  .refine dv Hu λc h=>dv (dK _) λ_ _=>i _ ?_;intro g a;rcases Yn.1 a with a|a
   .exact f g a
   .rw[Yc.1 a];exact h
def MV{c:List ao}(a:eo b=.ok c):∀d∈c,ku d:=by
 unfold eo at a;split at a
 .cases a
 split at a
 .cases a
 .rename_i f g e;split at a
  .cases a
  split at a
  .cases a
  .cases a
   exact QX _ _ (by simp) _ _ _ e
end
end Go.Proofs.YtjdhaegijjednaaGreatDoor
namespace Go.Proofs.YtjdhaegijjednaaGreatDoor
open Go.RowKit
open Go.MapKept
open Go.Proofs.Tryz
section
variable {j:TypeId}{b:Nat}{e:List (Nat×Obj)}{f g h:Value}{d:World}
abbrev zo(a:eJ×Value):List Value:=lw a.1.t a.1.w++[a.2,.int .i64 a.1.num]
abbrev ly(b a:Int)(c:Option Nat):Obj:=.cells #[.int .u32 b,.int .u32 a,.map c] 263
def zN:∀(a:List eJ) {q:aU×jp} {b:Nat},(∀v∈a,sC v)->aV q.1 (b+64*a.length)->aV (a.foldl kT q).1 b:=by
 intro a;induction a with
 |nil=>intro q b _ c;exact c
 |cons v a g=>
  intro q b d c;refine g (λh f=>d h (Y5 _ f)) ?_;have e:=d v (by simp);exact zK v.ak (q:=(q.1,[])) e.2 (c.cs (by have:=e.1;simp only[YC];omega))
def FW(b:List (Int×Nat×List (Int×Nat×Nat)))(a:Int)(v:Nat)(c:List (Int×Nat×Nat)):sJ (bF b a (v,c))=bF (sJ b) a c:=ye (λd:Nat×List (Int×Nat×Nat)=>d.2) b a (v,c)
def sD.cv{a:List (Nat×Obj)}{d:List (Int×Nat×List (Int×Nat×Nat))}(g:sD e d)(h:∀c∈e,c∈a)(j:Int){v:Nat}{f:List (Int×Nat×Nat)}(i:(v,lA f)∈a):sD a (bF d j (v,f)):=by
 intro c b;rcases yf b with b|rfl
 .exact h _ (g c b)
 .exact i
structure wH(d:World)(a:eU)(Fr e:List (Nat×Obj))(R:Nat)(Q:aU×jp)(lv:List (Int×Nat×List (Int×Nat×Nat)))(bk:List (Nat×Obj))(sl ks:Value)(cv:List (dh×Value))(et:List (List UInt8×dg×Value))(ur:World):Prop where
 cc:∀p∈e,p∈bk
 n4:sD bk lv
 j5:sJ lv=Q.2.vs
 nd:(lv.map (·.1)).Nodup
 cp:Cp d a ((R+1+1,ly Q.2.lo Q.2.hi (some (R+1)))::(R+1,mF lv)::(R,ly 0 0 none)::Fr) bk Q.1 sl ks cv et ur
def EP(d:World)(g:eU)(Fr e:List (Nat×Obj))(f:List eJ)(c:aU)(h:Ending)(j:World):Prop:=∃(a:jo) (b:List (Nat×Obj)),h=.returned (.agg #[.int .u32 a.lo,.int .u32 a.hi,.map (some a.m)])/\(∀i∈e,i∈b)/\lU b a/\uz a=(qi f c).2/\cL d g Fr b (qi f c).1 j
def vO{a:Value}(c:d.heap[b]? = some (.cells #[f,g,h,a] j)) :
  d.cell? ⟨b,0,none⟩=some f/\d.cell? ⟨b,1,none⟩=some g/\d.cell? ⟨b,2,none⟩=some h/\d.cell? ⟨b,3,none⟩=some a:=by
 refine⟨?_,?_,?_,?_⟩<;>simp[World.cell?,c]
def oF(a:d.heap[b]? = some (.cells #[f,g,h] j)) :
  d.cell? ⟨b,0,none⟩=some f/\d.cell? ⟨b,1,none⟩=some g/\d.cell? ⟨b,2,none⟩=some h/\(∀c,d.frozen? ⟨b,c,none⟩=false)/\b<d.heap.size:=by
 refine⟨?_,?_,?_,?_,aj a⟩<;>simp[World.cell?,World.frozen?,a]
def vZ{x y z:Value}(a:d.heap[b]? = some (.cells #[f,g,h] j)):(((d.setCell ⟨b,0,none⟩ x).setCell ⟨b,1,none⟩ y).setCell ⟨b,2,none⟩ z).heap[b]? = some (.cells #[x,y,z] j):=bv (i:=2) (bv (i:=1) (bv (i:=0) a x) y) z
def Bm(a c e:Value):ai [b] d (((d.setCell ⟨b,0,none⟩ a).setCell ⟨b,1,none⟩ c).setCell ⟨b,2,none⟩ e):=
 (((ah [b] d).a6 (p:=⟨b,0,none⟩) (by simp) _).a6 (p:=⟨b,1,none⟩) (by simp) _).a6 (p:=⟨b,2,none⟩) (by simp) _
def Na{f:World}{s:eU}{Fr:List (Nat×Obj)}{l:aU}{a1 a0:Value}{I:List (dh×Value)}{J:List (List UInt8×dg×Value)}{a2:List (Nat×Obj)}{b5:Nat}{d1:List UInt8}{a:List eJ}{c9:Int}(g4:dx a2 b (.prog d1 b5 a c9))(E:∀p∈a2,d.heap[p.1]? = some p.2)(B:ku (.prog d1 b5 a c9))(t:Cp d s Fr e l a1 a0 I J f)(g8:aV l 400) :
  Calls prog 135 #[.pointer (some ⟨s.C,0,none⟩),.pointer (some ⟨b,0,none⟩)] f (EP d s Fr e a l):=by
 have l0:=jx;have j7:=xm;obtain⟨i1,r,g1,j6,h0,c4⟩:=g4;obtain⟨g7,j8,h2⟩:=B;have c5:0<a.length:=YM.2 g7;have c2:=E _ g1;have g2:f.heap[b]? = _:=t.ff c2;have j4:b<d.heap.size:=aj c2;have l3:d.heap.size<=f.heap.size:=t.ax.kp.a2;obtain⟨k,a3,a4,rfl,⟨j5,_⟩,B,R⟩:∃k a3 a4,i1=.slice (some ⟨k,0,none⟩) a.length a3/\(a.length<=a3/\a.length<=1000)/\(k,Obj.cells a4 367)∈a2/\a4.toList.take ((a.zip r).flatMap zo).length=(a.zip r).flatMap zo:=by
  rcases h0 with⟨_,i6,_⟩|t
  .omega
  .exact t
 have c3:∀(q:World),ai [] d q->∀h (O:h<a.length) (P:h<r.length),q.cell? ⟨k,h*4,none⟩=some (.string ⟨a[h].t.toArray⟩)/\q.cell? ⟨k,h*4+1,none⟩=some (.int .i64 a[h].w)/\q.cell? ⟨k,h*4+2,none⟩=some r[h]/\q.cell? ⟨k,h*4+3,none⟩=some (.int .i64 a[h].num):=by
  intro q K h O P;have N:=(K.K _ (aj (E _ B)) (by simp)).trans (E _ B);have M:=lk (c:=zo) (n:=4) (λ_=>rfl) (a.zip r) h;have S:h<(a.zip r).length:=by simp;omega
  refine⟨cw N R ?_,cw N R ?_,cw N R ?_,cw N R ?_⟩
  .have:=M 0 S (by omega);simpa using this
  .have:=M 1 S (by omega);simpa using this
  .have:=M 2 S (by omega);simpa using this
  .have:=M 3 S (by omega);simpa using this
 have g3:∀h (O:h<a.length) (P:h<r.length),∃u w x,r[h]=.slice u w x:=by
  intro h O P;rcases c4 h O P with⟨a5,_⟩|⟨_,_,_,a5,_⟩<;>exact⟨_,_,_,a5⟩
 have k6:k<d.heap.size:=aj (E _ B);obtain⟨f3,f4,f5,f6⟩:=c3 f t.ax.kp 0 c5 (by omega);obtain⟨l4,l5,l6,l7⟩:=vO g2;simp only[Nat.zero_mul,Nat.zero_add]at f3 f4 f5 f6;have i8:b<f.heap.size:=by omega
 have k0:k<f.heap.size:=by omega
 have i9:b<f.heap.size+1:=by omega
 have k1:k<f.heap.size+1:=by omega
 have j0:b<f.heap.size+1+1:=by omega
 have k2:k<f.heap.size+1+1:=by omega
 have k3:k≠f.heap.size:=by omega
 have j1:b≠f.heap.size:=by omega
 have k4:k≠f.heap.size+1:=by omega
 have j2:b≠f.heap.size+1:=by omega
 have k5:k≠f.heap.size+1+1:=by omega
 have j3:b≠f.heap.size+1+1:=by omega
 have l1:(0:Int) < ↑a.length:=by omega
 have g5:(a.head?.map λv=>cJ v.num).getD 0=cJ a[0].num:=by
  cases a with
  |nil=>simp at c5
  |cons v m6=>rfl
 have d9:U (wH d s Fr e f.heap.size (l,⟨cJ a[0].num,cJ a[0].num,[]⟩) [] e a1 a0 I J (((f.alloc (ly 0 0 none)).alloc (.map #[] 0)).alloc (ly (cJ a[0].num) (cJ a[0].num) (some (f.heap.size+1))))):=by
  have c0:=((t.G (ly 0 0 none)).G (.map #[] 0)).G (ly (cJ a[0].num) (cJ a[0].num) (some (f.heap.size+1)));have i3:(f.alloc (ly 0 0 none)).heap.size=f.heap.size+1:=by simp
  have i4:((f.alloc (ly 0 0 none)).alloc (.map #[] 0)).heap.size=f.heap.size+1+1:=by simp
  rw[i4,i3]at c0;exact⟨λ_ m=>m,(by intro p m;cases m),rfl,by simp,c0⟩
 have d2:=Z c3;have d3:=Z g3;have d4:=Z c4;have b3:=Z h2;have d5:=Z g8;have d7:=Z E;go_in;go_wp2;go_loopw [27] (λh i0=>∃(g:Nat) (o:List (Int×Nat×List (Int×Nat×Nat))) (z:List (Nat×Obj)) (a1 a0:Value) (I:List (dh×Value)) (J:List (List UInt8×dg×Value)),h=.int .i64 g/\g<=a.length/\U (wH d s Fr e f.heap.size ((a.take g).foldl kT (l,⟨cJ a[0].num,cJ a[0].num,[]⟩)) o z a1 a0 I J i0)) (λh _=>a.length-(intOf h).toNat)
 case atStart=>exact⟨0,_,_,_,_,_,_,rfl,by omega,d9⟩
 case round=>
  obtain⟨g,o,z,d0,c8,b6,b9,rfl,k7,j⟩:=hrel;rcases Yj g a.length with D|j9
  .have b0:g<r.length:=by omega
   have g9:aV ((a.take g).foldl kT (l,⟨cJ a[0].num,cJ a[0].num,[]⟩)).1 80:=zN (a.take g) (λv h1=>b3.j v (List.mem_of_mem_take h1)) (d5.j.cs (by simp;omega));have d6:U ((a.take (g+1)).foldl kT (l,⟨cJ a[0].num,cJ a[0].num,[]⟩)=kT ((a.take g).foldl kT (l,⟨cJ a[0].num,cJ a[0].num,[]⟩)) a[g]):=by show _=_;rw[Yt D,YS];rfl
   generalize l2:(a.take g).foldl kT (l,⟨cJ a[0].num,cJ a[0].num,[]⟩)=i at *
   obtain⟨u,w,x,c7⟩:=d3.j g D b0;obtain⟨l8,l9,h4,m0⟩:=d2.j _ j.j.cp.ax.kp g D b0;rw[c7]at h4;have c6:=d4.j g D b0;rw[c7]at c6;have k8:(0:Int)<=↑g:=by omega
   have k9:(↑g:Int) < ↑a.length:=by omega
   have a7:=(j.j.cp.ax.hf _ Yb).1;obtain⟨e4,e5,e6,e7,e8⟩:=oF a7;have i7:f.heap.size+1+1≠wr.heap.size:=by omega
   have e9:=j.j.cp.g3 ((ah [f.heap.size+1+1] _).a6 (p:=⟨f.heap.size+1+1,0,none⟩) (by simp) (.int .u32 (min i.2.lo (cJ a[g].num)))) (bv (i:=0) a7 _);have f0:=e9.g3 ((ah [f.heap.size+1+1] _).a6 (p:=⟨f.heap.size+1+1,1,none⟩) (by simp) (.int .u32 (max i.2.hi (cJ a[g].num)))) (bv (i:=1) (bv (i:=0) a7 _) _);have f2:((wr.setCell ⟨f.heap.size+1+1,0,none⟩ (.int .u32 (min i.2.lo (cJ a[g].num)))).setCell ⟨f.heap.size+1+1,1,none⟩ (.int .u32 (max i.2.hi (cJ a[g].num)))).heap.size=wr.heap.size:=by simp
   have b8:=f0.G (.cells #[.string ⟨a[g].t.toArray⟩,.int .i64 a[g].w,.slice u w x,.int .i64 a[g].num] 367);rw[f2]at b8;have b7:Cp d s ((wr.heap.size,(.cells #[.string ⟨a[g].t.toArray⟩,.int .i64 a[g].w,.slice u w x,.int .i64 a[g].num] 367))::(f.heap.size+1+1,ly (min i.2.lo (cJ a[g].num)) (max i.2.hi (cJ a[g].num)) (some (f.heap.size+1)))::(f.heap.size+1,mF o)::(f.heap.size,ly 0 0 none)::Fr) z i.1 d0 c8 b6 b9 _:=b8;have b4:=Z b7;have e1:=Z (Si c6 d7.j (b3.j a[g] (Yy D)) (b7.aA ((Below.refl _ _).drew)) g9);go_wp2_with fail;refine cS (λF=>F.cell? ⟨f.heap.size+1+1,2,none⟩=some (.map (some (f.heap.size+1)))/\F.cell? ⟨wr.heap.size,0,none⟩=some (.string ⟨a[g].t.toArray⟩)/\F.cell? ⟨wr.heap.size,1,none⟩=some (.int .i64 a[g].w)/\F.cell? ⟨wr.heap.size,2,none⟩=some (.slice u w x)/\F.cell? ⟨wr.heap.size,3,none⟩=some (.int .i64 a[g].num)) (L:=6) (by kernel_rfl) rfl (by kernel_rfl) (by kernel_rfl) ?_ (λf7=>?_)
   .exact⟨(oF (b4.j.dA.ax.hf _ Yb).1).2.2.1,vO (b4.j.ax.hf _ Yb).1⟩
   refine bI [0,1,2,3,4] ?_;iterate 5 (refine bP (v:=?_) rfl (by kernel_rfl) (λ_ _ _ t=>t) (by rfl) (by assumption) ?_ ?_;rotate_left;focus (intro d f9;(try dsimp only at f9);go_simp;(try with_reducible rfl));(try simp only[aL,aM,List.set]))
   refine bJ ?_;refine ck 5 (by kernel_rfl) rfl λd8 a6=>?_;(go_simp;go_at_call 212;refine e1.j.mono ?_;rintro a5 i2 ⟨H,i5,rfl,c1,g0,e2,h6,h3,e3,f1,a9,y⟩;obtain⟨m7,m8,m9,n0⟩:=vO (y.ax.hf _ Yb).1;obtain⟨n1,n2,n3,n4,n5⟩:=oF (y.dA.ax.hf _ Yb).1;have b1:=(y.dA.dA.ax.hf _ Yb).1;have h5:=Sb b1 j.j.nd (cJ a[g].num) H (oU a[g] i.1).2;have G:=ud (A:=[(f.heap.size+1+1,ly (min i.2.lo (cJ a[g].num)) (max i.2.hi (cJ a[g].num)) (some (f.heap.size+1)))]) y.dA (gY _ _ _) (kh (aj b1) (mF (bF o (cJ a[g].num) (H,(oU a[g] i.1).2))));obtain⟨q,K⟩:∃q,q=dn i2 (f.heap.size+1) (mF (bF o (cJ a[g].num) (H,(oU a[g] i.1).2))):=⟨_,rfl⟩;rw[<-K]at h5 G;have G:=Z G;clear y b1 K);refine a6.out _ _ ?_ (λf7=>?_)
   .go_keep
   (try simp only[aL,aM,List.set]);refine cQ (by kernel_rfl) rfl λd8 a6=>?_;go_simp;refine a6.out _ _ ?_;(try simp only[aL,aM,List.set]);have f8:U (wH d s Fr e f.heap.size ((a.take (g+1)).foldl kT (l,⟨cJ a[0].num,cJ a[0].num,[]⟩)) (bF o (cJ a[g].num) (H,(oU a[g] i.1).2)) e2 h6 h3 e3 f1 q):=by
    rw[d6.j];refine⟨λp m=>a9 p (c1 p (j.j.cc p m)),j.j.n4.cv (λp m=>a9 p (c1 p m)) _ (a9 _ g0),?_,pW j.j.nd _ _,G.j⟩;rw[FW,j.j.j5];rfl
   go_wp2;exact⟨⟨g+1,_,_,_,_,_,_,by go_num,by omega,f8⟩,by simp[intOf];omega⟩
  .have g6:g=a.length:=by omega
   subst g6;have j:=j.j;rw[YG]at j;have b2:U (qi a l=a.foldl kT (l,⟨cJ a[0].num,cJ a[0].num,[]⟩)):=by
    show qi a l=_;unfold qi;rw[g5]
   generalize a.foldl kT (l,⟨cJ a[0].num,cJ a[0].num,[]⟩)=i at *
   obtain⟨e4,e5,e6,e7,e8⟩:=oF (j.cp.ax.hf _ Yb).1;have a8:=(j.cp.dA.dA.ax.hf _ Yb).1;obtain⟨m1,m2,m3,m4,m5⟩:=oF a8;obtain⟨h7,h8,h9,_,_⟩:=oF (vZ (x:=.int .u32 i.2.lo) (y:=.int .u32 i.2.hi) (z:=.map (some (f.heap.size+1))) a8);have e0:=Z (ud (A:=[(f.heap.size+1,mF o)]) j.cp.dA (Bm (.int .u32 i.2.lo) (.int .u32 i.2.hi) (.map (some (f.heap.size+1)))) (vZ a8));have j:=Z j;go_wp2;refine bodyPost_ret (v:=.agg #[.int .u32 i.2.lo,.int .u32 i.2.hi,.map (some (f.heap.size+1))]) (by simp[results,results135,go_sem,h7,h8,h9]) rfl ?_;refine⟨⟨i.2.lo,i.2.hi,f.heap.size+1,o⟩,(f.heap.size+1,mF o)::z,rfl,λp m=>Y5 _ (j.j.cc p m),⟨Yb,λp m=>Y5 _ (j.j.n4 p m)⟩,?_,?_⟩
   .rw[b2.j];show jp.mk i.2.lo i.2.hi (sJ o)=i.2;rw[j.j.j5]
   .rw[b2.j];exact(Cp.h7 (e0.j:Cp d s ((f.heap.size+1,mF o)::_::Fr) z i.1 d0 c8 b6 b9 _)).dA.c9
end
section
variable {e:eU}{b:List (Nat×Obj)}{f:List (dh×Value)}{et:List (List UInt8×dg×Value)}{h g:Value}{a:aU}{c w:World}
def MG{b:World}{e:Nat}{c:List (List UInt8×Nat)}(g:b.heap[e]? = some (jB c))(h:(c.map (·.1)).Nodup)(a:List UInt8)(f:Nat) :
  (Instr.mapUpdate 103 (.map (some e)) (.string ⟨a.toArray⟩) (.int .i64 f)).run prog b=.ok () (dn b e (jB (bF c a f))):=
 pT (P:=prog) (T:=103) (kt:=9) (et:=3) (d:=.string) (by kernel_rfl) (by kernel_rfl) (λa:List UInt8=>.string ⟨a.toArray⟩) (λa:Nat=>.int .i64 a) (λ_=>trivial) (λ_=>yT _) sd g h a f
def cL.ev{Fr:List (Nat×Obj)}(g:cL w e Fr b a c)(f:List (Nat×Obj))(i:∀d∈f,w.heap[d.1]? = some d.2):bn [] f c:=λd h=>⟨g.ff (i d h),by simp⟩
def Cp.od{Fr:List (Nat×Obj)}(j:Cp w e Fr b a g h f et c)(q:a.ag.length<1000000):∃k,pb k g a.ag/\(∀d∈b,d∈k)/\∀d∈k,c.heap[d.1]? = some d.2:=by
 have p:∀d∈b,c.heap[d.1]? = some d.2:=λd i=>(j.ax.hb d i).1;rcases j.row.2 with⟨l,o⟩|⟨n,r,m,l,_,s,t,x,y,u⟩
 .refine⟨b,⟨f,j.h6,Y8 ⟨l,o,?_⟩,j.iR,q⟩,λ_ i=>i,p⟩;have:=j.row.1;rw[o]at this;simpa using this
 .refine⟨(n,.cells m 273)::b,⟨f,j.h6,Ya ⟨n,r,m,l,t,Yb,?_⟩,λd i=>(j.iR d i).a4 (λ_ v=>Y5 _ v),q⟩,λ_ i=>Y5 _ i,?_⟩
  .simpa using u
  .intro d i;rcases Yg.1 i with rfl|i
   .exact s
   .exact p d i
def ES(w:World)(e:eU)(Fr b:List (Nat×Obj))(d:List ao)(a:aU)(f:Ending)(h:World):Prop:=∃S c,f=.returned (.map (some S))/\(∀g∈b,g∈c)/\(S,jB (d.foldl el (a,[])).2)∈c/\cL w e Fr c (d.foldl el (a,[])).1 h
set_option maxHeartbeats 8000000 in
def RH{Fr:List (Nat×Obj)}{E:List (Nat×Obj)}{u:Value}{d:List ao}{A:List Nat}(c3:jj E u d A)(M:∀p∈E,w.heap[p.1]? = some p.2)(f8:d.length<=100)(F:Cp w e Fr b a g h f et c)(d0:aV a 300) :
  Calls prog 77 #[.pointer (some ⟨e.C,0,none⟩),u] c (ES w e Fr b d a):=by
 have f7:=jx;have f0:=nY;obtain⟨f9,a2,c5⟩:=c3;have a7:=Z d0;have b0:U (cL w e ((c.heap.size,jB ((d.take 0).foldl el (a,[])).2)::Fr) b ((d.take 0).foldl el (a,[])).1 (c.alloc (.map #[] 0))):=(F.G (.map #[] 0)).c9;have c2:∀(v:World),ai [] w v->∀j (c6:j<d.length) (c7:j<A.length),∃o l,u=.slice (some ⟨o,0,none⟩) d.length l/\d.length<=l/\v.cell? ⟨o,j,none⟩=some (.iface (cE d[j]) (.pointer (some ⟨A[j],0,none⟩))):=by
  intro v d4 j c6 c7;rcases a2 with⟨_,R,_⟩|⟨o,l,b4,n,⟨b7,_⟩,a0,d3⟩
  .omega
  .exact⟨o,l,n,b7,cw ((d4.K _ (aj (M _ a0)) (by simp)).trans (M _ a0)) d3 (by unfold iU;rw[List.getElem?_map,Yd (by simp;omega)];simp)⟩
 obtain⟨e5,e6,rfl⟩:∃ad l,u=.slice ad d.length l:=by
  rcases a2 with⟨n,R,_⟩|⟨o,l,b4,n,_⟩
  .exact⟨none,0,by rw[n,R]⟩
  .exact⟨_,_,n⟩
 have a5:=Z c2;have a6:=Z c5;have a8:=Z M;go_in;go_wp2;go_loopw [14] (λj d8=>∃i:Nat,j=.int .i64 i/\i<=d.length/\U (cL w e ((c.heap.size,jB ((d.take i).foldl el (a,[])).2)::Fr) b ((d.take i).foldl el (a,[])).1 d8)) (λj _=>d.length-(intOf j).toNat)
 case atStart=>exact⟨0,rfl,by omega,b0⟩
 case round=>
  obtain⟨i,rfl,f3,q⟩:=hrel;rcases Yj i d.length with J|f2
  .have a1:i<A.length:=by omega
   have d1:aV ((d.take i).foldl el (a,[])).1 100:=zM (d.take i) (p:=(a,[])) (a7.j.cs (by simp;omega));have c9:(((d.take i).foldl el (a,[])).2.map (·.1)).Nodup:=Dt _ (by simp);have d2:(d.take (i+1)).foldl el (a,[])=el ((d.take i).foldl el (a,[])) d[i]:=by rw[Yt J,YS];rfl
   have O:=Z d2;obtain⟨b2,d7,d5,b5,b6,I,k⟩:=q.j;generalize z:(d.take i).foldl el (a,[])=p at *
   obtain⟨o,l,c4,e9,g3⟩:=a5.j _ k.ax.kp i J a1;cases c4
   have g0:=oM (a6.j i J a1) (k.c9.ev E a8.j);have f4:(0:Int)<=↑i:=by omega
   have f5:(↑i:Int) < ↑d.length:=by omega
   have k:=Z k;have N:=Z I;go_wp2_with fail;refine(nX _ _ _).mono ?_;rintro n m ⟨rfl,c0⟩;have P:=k.j.aA c0;obtain⟨e0,e1,e2,e3,f1,f6⟩:=P.am;have e8:e.C≠m.heap.size:=by omega
   have B:=(P.G (.cells #[.string ⟨(bB d[i]).1.toArray⟩,.int .i64 (bB d[i]).2] 160)).aA ((Below.refl _ _).drew);have y:=B.m3 (bB d[i]).1 true;cases x:az p.1.d2 (bB d[i]).1 with
   |none=>
    rw[x]at y;simp only[if_true]at y
    have H:U (cL w e ((c.heap.size,jB ((d.take (i+1)).foldl el (a,[])).2)::Fr) b ((d.take (i+1)).foldl el (a,[])).1 (m.alloc (.cells #[.string ⟨(bB d[i]).1.toArray⟩,.int .i64 (bB d[i]).2] 160)).drew):=by
     rw[O.j];unfold el;rw[x];simp only[Option.isSome_none,Ye,if_false]
     exact kX N.j B.dA.c9
    go_wp2_with fail;go_region;go_wp2;exact⟨⟨i+1,by go_num,by omega,H⟩,by simp[intOf];omega⟩
   |some g2=>
    rw[x]at y;simp only[if_true]at y
    have b1:=Z (xn (t:=.named (bB d[i]).1 (bB d[i]).2) trivial (B.aA ((Below.refl _ _).drew)) (d1.cs (by omega)));have a4:U (el p d[i]=(yS (bB d[i]).1 p.1,bF p.2 (bB d[i]).1 p.1.ag.length)):=by
     show _=_;unfold el;rw[x];rfl
    go_wp2_with fail;go_region;go_wp2_with fail;refine cS (λa3=>a3.cell? ⟨m.heap.size,0,none⟩=some (.string ⟨(bB d[i]).1.toArray⟩)/\a3.cell? ⟨m.heap.size,1,none⟩=some (.int .i64 (bB d[i]).2)) (L:=8) (by kernel_rfl) rfl (by kernel_rfl) (by kernel_rfl) ?_ (λb8=>?_)
    .exact⟨(sM (w:=((m.alloc _).drew).drew) (aK (w:=m) rfl)).1,(sM (w:=((m.alloc _).drew).drew) (aK (w:=m) rfl)).2.1⟩
    refine bI [0,1,2,3,4,5,6] ?_;iterate 7 (refine bP (v:=?_) rfl (by kernel_rfl) (λ_ _ _ F=>F) (by rfl) (by assumption) ?_ ?_;rotate_left;focus (intro w b9;(try dsimp only at b9);go_simp;(try with_reducible rfl));(try simp only[aL,aM,List.set]))
    refine bJ ?_;refine ck 7 (by kernel_rfl) rfl λa9 G=>?_;(go_simp;go_at_call 134;refine b1.j.mono ?_;rintro n d9 ⟨rfl,b3,g4,g1,e4,e7,c1,r⟩;obtain⟨g5,g6,_,_⟩:=sM (r.ax.hf _ Yb).1;have K:=(r.dA.ax.hf _ Yb).1;have d6:=MG K c9 (bB d[i]).1 p.1.ag.length;have s:=r.dA.g3 (gY _ _ _) (kh (aj K) (jB (bF p.2 (bB d[i]).1 p.1.ag.length)));obtain⟨D,S⟩:∃D,D=dn d9 c.heap.size (jB (bF p.2 (bB d[i]).1 p.1.ag.length)):=⟨_,rfl⟩;rw[<-S]at d6 s;have s:=Z s;clear r K S);refine G.out _ _ ?_ (λb8=>?_)
    .go_keep
    (try simp only[aL,aM,List.set]);refine cQ (by kernel_rfl) rfl λa9 G=>?_;go_simp;refine G.out _ _ ?_;(try simp only[aL,aM,List.set]);have H:U (cL w e ((c.heap.size,jB ((d.take (i+1)).foldl el (a,[])).2)::Fr) b ((d.take (i+1)).foldl el (a,[])).1 D):=by
     rw[O.j,a4.j];exact⟨b3,_,_,_,_,λp z=>c1 p (N.j p z),s.j⟩
    go_wp2;exact⟨⟨i+1,by go_num,by omega,H⟩,by simp[intOf];omega⟩
  .have c8:i=d.length:=by omega
   subst c8;have q:=q.j;rw[YG]at q;obtain⟨b2,d7,d5,b5,b6,I,k⟩:=q;have k:=Z k;go_wp2;go_ret;exact⟨c.heap.size,_,rfl,λp z=>Y5 _ (I p z),Yb,k.j.h7.c9⟩
end
def zL:∀(l:List ao) {q:aU×List (Int×jp)} {c:Nat},(∀a∈l,ku a)->aV q.1 (c+256*l.length)->aV (l.foldl gL q).1 c:=by
 intro l;induction l with
 |nil=>intro q c _ b;exact b
 |cons a l g=>
  intro q c e b;refine g (λi f=>e i (Y5 _ f)) ?_;have d:=e a (by simp);cases a with
  |prog m j h k=>exact zN h (q:=(q.1,_)) d.2.2 (b.cs (by have:=d.2.1;simp only[YC];omega))
  |_=>exact b.cs (by simp only[YC];omega)
def lU.a4{b c:List (Nat×Obj)}(e:∀a∈b,a∈c){f:jo}(d:lU b f):lU c f:=⟨e _ d.1,λa g=>e _ (d.2 a g)⟩
def FV(b:List (Int×jo))(a:Int)(c:jo):sI (bF b a c)=bF (sI b) a (uz c):=ye uz b a c
def FR{b:ao}(h:∀d a e c,b≠.prog d a e c)(g:Nat)(f:World):(Instr.typeAssert (.iface (cE b) (.pointer (some ⟨g,0,none⟩))) 157 233 true).run prog f=.ok (.tuple #[.pointer none,.bool false]) f:=by
 cases b with
 |prog d a e c=>exact absurd rfl (h d a e c)
 |_=>kernel_rfl
def MU{b:ao}(g:∀d a e c,b≠.prog d a e c)(f:aU×List (Int×jp)):gL f b=f:=by
 cases b with
 |prog d a e c=>exact absurd rfl (g d a e c)
 |_=>rfl
structure uq(w:World)(a:eU)(Fr bs:List (Nat×Obj))(B:Nat)(Q:aU×List (Int×jp))(lp:List (Int×jo))(bk:List (Nat×Obj))(sl ks:Value)(cv:List (dh×Value))(et:List (List UInt8×dg×Value))(ur:World):Prop where
 cc:∀p∈bs,p∈bk
 m8:∀p∈lp,lU bk p.2
 j5:sI lp=Q.2
 nd:(lp.map (·.1)).Nodup
 cp:Cp w a ((B,qj lp)::Fr) bk Q.1 sl ks cv et ur
def EQ(k:World)(g:eU)(Fr h:List (Nat×Obj))(e:List ao)(f:aU)(i:Ending)(j:World):Prop:=∃d b a,i=.returned (.map (some d))/\(∀c∈h,c∈a)/\(d,qj b)∈a/\(∀c∈b,lU a c.2)/\sI b=(e.foldl gL (f,[])).2/\(b.map (·.1)).Nodup/\cL k g Fr a (e.foldl gL (f,[])).1 j
set_option maxHeartbeats 8000000 in
def Nc{i k:World}{e:eU}{Fr n:List (Nat×Obj)}{g:aU}{F D:Value}{y:List (dh×Value)}{A:List (List UInt8×dg×Value)}{a6:List (Nat×Obj)}{z:Value}{b:List ao}{j:List Nat}(O:jj a6 z b j)(a0:∀f∈a6,i.heap[f.1]? = some f.2)(g9:b.length<=100)(d8:∀I∈b,ku I)(J:Cp i e Fr n g F D y A k)(e3:aV g 27000) :
  Calls prog 78 #[.pointer (some ⟨e.C,0,none⟩),z] k (EQ i e Fr n b g):=by
 have g8:=jx;have g3:=xm;obtain⟨h0,b8,d7⟩:=O;have c2:=Z e3;have a4:=Z d8;have c4:U (uq i e Fr n k.heap.size ((b.take 0).foldl gL (g,[])) [] n F D y A (k.alloc (.map #[] 0))):=⟨λ_ d=>d,(by intro f d;cases d),rfl,by simp,J.G (.map #[] 0)⟩;have d5:∀(v:World),ai [] i v->∀h (d9:h<b.length) (e0:h<j.length),∃o l,z=.slice (some ⟨o,0,none⟩) b.length l/\b.length<=l/\v.cell? ⟨o,h,none⟩=some (.iface (cE b[h]) (.pointer (some ⟨j[h],0,none⟩))):=by
  intro v S h d9 e0;rcases b8 with⟨_,a7,_⟩|⟨o,l,c6,m,⟨d1,_⟩,b3,e6⟩
  .omega
  .exact⟨o,l,m,d1,cw ((S.K _ (aj (a0 _ b3)) (by simp)).trans (a0 _ b3)) e6 (by unfold iU;rw[List.getElem?_map,Yd (by simp;omega)];simp)⟩
 obtain⟨f8,f9,rfl⟩:∃ad l,z=.slice ad b.length l:=by
  rcases b8 with⟨m,a7,_⟩|⟨o,l,c6,m,_⟩
  .exact⟨none,0,by rw[m,a7]⟩
  .exact⟨_,_,m⟩
 have c0:=Z d5;have c1:=Z d7;have G:=Z a0;go_in;go_wp2;go_loopw [12] (λh f3=>∃(a:Nat) (p:List (Int×jo)) (H:List (Nat×Obj)) (F D:Value) (y:List (dh×Value)) (A:List (List UInt8×dg×Value)),h=.int .i64 a/\a<=b.length/\U (uq i e Fr n k.heap.size ((b.take a).foldl gL (g,[])) p H F D y A f3)) (λh _=>b.length-(intOf h).toNat)
 case atStart=>exact⟨0,_,_,_,_,_,_,rfl,by omega,c4⟩
 case round=>
  obtain⟨a,p,H,f1,e7,c7,c9,rfl,g5,c⟩:=hrel;rcases Yj a b.length with B|g4
  .have b5:a<j.length:=by omega
   have e4:aV ((b.take a).foldl gL (g,[])).1 400:=zL (b.take a) (λI O=>a4.j I (List.mem_of_mem_take O)) (c2.j.cs (by simp;omega));have a5:U ((b.take (a+1)).foldl gL (g,[])=gL ((b.take a).foldl gL (g,[])) b[a]):=by show _=_;rw[Yt B,YS];rfl
   generalize d:(b.take a).foldl gL (g,[])=h2 at *
   obtain⟨o,l,d6,g2,a2⟩:=c0.j _ c.j.cp.ax.kp a B b5;cases d6
   have g6:(0:Int)<=↑a:=by omega
   have g7:(↑a:Int) < ↑b.length:=by omega
   by_cases b7:∃r e s t,b[a]=.prog r e s t
   .obtain⟨r,h1,s,q,b2⟩:=b7;have P:=c1.j a B b5;have b4:=a4.j b[a] (Yy B);rw[b2]at P b4 a2;have e5:=mC 233 (j[a]) 157 233 λx=>by kernel_rfl
    replace a2:wr.cell? ⟨o,a,none⟩=some (.iface 233 (.pointer (some ⟨j[a],0,none⟩))):=a2
    have b1:∀(v:World),ai [] i v->v.cell? ⟨j[a],3,none⟩=some (.int .i64 q):=by
     intro v S;obtain⟨h3,f7,a9,_⟩:=P;exact(vO ((S.K _ (aj (G.j _ a9)) (by simp)).trans (G.j _ a9))).2.2.2
    have g0:=b1 _ c.j.cp.ax.kp;have b9:=Z b1;have c5:=Z (Na P G.j b4 (c.j.cp.aA ((Below.refl _ _).drew)) e4);go_wp2_with fail;refine cS (λf4=>f4.cell? ⟨j[a],3,none⟩=some (.int .i64 q)) (L:=9) (by kernel_rfl) rfl (by kernel_rfl) (by kernel_rfl) ?_ (λd2=>?_)
    .go_keep
    refine bI [0,1,2,3,4,5,6,7] ?_;iterate 8 (refine bP (v:=?_) rfl (by kernel_rfl) (λ_ _ _ J=>J) (by rfl) (by assumption) ?_ ?_;rotate_left;focus (intro i d3;(try dsimp only at d3);go_simp;(try with_reducible rfl));(try simp only[aL,aM,List.set]))
    refine bJ ?_;refine ck 8 (by kernel_rfl) rfl λc3 K=>?_;(go_simp;go_at_call 135;refine c5.j.mono ?_;rintro m f5 ⟨E,f6,rfl,b0,e1,d4,f0,f2,e8,c8,d0,N,u⟩;have g1:=b9.j _ u.ax.kp;have R:=(u.ax.hf _ Yb).1;have e9:=Nf R c.j.nd (cJ q) E;have w:=u.g3 (gY _ _ _) (kh (aj R) (qj (bF p (cJ q) E)));obtain⟨x,a8⟩:∃x,x=dn f5 k.heap.size (qj (bF p (cJ q) E)):=⟨_,rfl⟩;rw[<-a8]at e9 w;have w:=Z w;clear u R a8);refine K.out _ _ ?_ (λd2=>?_)
    .go_keep
    (try simp only[aL,aM,List.set]);refine cQ (by kernel_rfl) rfl λc3 K=>?_;go_simp;refine K.out _ _ ?_;(try simp only[aL,aM,List.set]);have M:U (uq i e Fr n k.heap.size ((b.take (a+1)).foldl gL (g,[])) (bF p (cJ q) E) f0 f2 e8 c8 d0 x):=by
     rw[a5.j,b2];refine⟨λf d=>N f (b0 f (c.j.cc f d)),?_,?_,pW c.j.nd _ _,w.j⟩
     .intro f d;rcases yf d with d|rfl
      .exact(c.j.m8 f d).a4 λa3 a1=>N a3 (b0 a3 a1)
      .exact e1.a4 N
     .rw[FV,c.j.j5,d4];rfl
    go_wp2;exact⟨⟨a+1,_,_,_,_,_,_,by go_num,by omega,M⟩,by simp[intOf];omega⟩
   .have b6:∀r e s t,b[a]≠.prog r e s t:=λr e s t m=>b7 ⟨r,e,s,t,m⟩;have e5:=FR b6 j[a];have M:U (uq i e Fr n k.heap.size ((b.take (a+1)).foldl gL (g,[])) p H f1 e7 c7 c9 wr):=by
     rw[a5.j,MU b6];exact c.j
    go_wp2;exact⟨⟨a+1,_,_,_,_,_,_,by go_num,by omega,M⟩,by simp[intOf];omega⟩
  .have e2:a=b.length:=by omega
   subst e2;have c:=c.j;rw[YG]at c;have c:=Z c;go_wp2;go_ret;exact⟨k.heap.size,p,_,rfl,λf d=>Y5 _ (c.j.cc f d),Yb,λf d=>(c.j.m8 f d).a4 λa3 a1=>Y5 _ a1,c.j.j5,c.j.nd,c.j.cp.h7.c9⟩
structure sB(bs:List (Nat×Obj))(v:Value)(S P:Nat)(ds:List ao):Prop where
 ag:pb bs v (wt ds).1
 ae:(S,jB (wt ds).2)∈bs
 nd:((wt ds).2.map (·.1)).Nodup
 aa:∃lp,(P,qj lp)∈bs/\(∀p∈lp,lU bs p.2)/\sI lp=(yC ds).2/\(lp.map (·.1)).Nodup
def ET(g:World)(e:List ao)(f:Ending)(d:World):Prop:=∃v S a b,f=.returned (.agg #[v,.map (some S),.map (some a)])/\ai [] g d/\sB b v S a e/\∀c∈b,d.heap[c.1]? = some c.2
set_option maxHeartbeats 8000000 in
def Fw{b:World}{O:List (Nat×Obj)}{m:Value}{ds:List ao}{o:List Nat}(g:jj O m ds o)(D:∀p∈O,b.heap[p.1]? = some p.2)(e1:uh ds)(d3:∀f∈ds,ku f)(a2:ds.length<=100) :
  Calls prog 45 #[m] b (ET b ds):=by
 have h7:=jx;have G:=Z g;have I:=Z d3;obtain⟨h8,a3,R⟩:=g;have d2:∀f∈ds,ug f:=by
  intro f g;obtain⟨c,B,rfl⟩:=List.getElem_of_mem g;exact Hb (R c B (by omega))
 have K:U (aV lK (28000+5000+300+4100*ds.length)):=⟨by simp[lK];omega,by simp[lK]⟩;have H:=Z d2;have r:=Z e1;have b3:=Z (GR b).c9;have d0:∀(v:World),ai [] b v->∀c (B:c<ds.length) (d4:c<o.length),∃h e,m=.slice (some ⟨h,0,none⟩) ds.length e/\ds.length<=e/\v.cell? ⟨h,c,none⟩=some (.iface (cE ds[c]) (.pointer (some ⟨o[c],0,none⟩))):=by
  intro v e2 c B d4;rcases a3 with⟨_,P,_⟩|⟨h,e,c1,d,⟨u,_⟩,a0,e0⟩
  .omega
  .exact⟨h,e,d,u,cw ((e2.K _ (aj (D _ a0)) (by simp)).trans (D _ a0)) e0 (by unfold iU;rw[List.getElem?_map,Yd (by simp;omega)];simp)⟩
 obtain⟨g4,g5,rfl⟩:∃ad e,m=.slice ad ds.length e:=by
  rcases a3 with⟨d,P,_⟩|⟨h,e,c1,d,_⟩
  .exact⟨none,0,by rw[d,P]⟩
  .exact⟨_,_,d⟩
 have a7:=Z d0;have a8:=Z R;have s:=Z D;go_in;go_wp2;go_loopw [14] (λc f1=>∃a:Nat,c=.int .i64 a/\a<=ds.length/\U (cL b ⟨b.heap.size+3,b.heap.size+1,b.heap.size+2⟩ [(b.heap.size,qz (.slice none 0 0) none none)] [] (hA (ds.take a)) f1)) (λc _=>ds.length-(intOf c).toNat)
 case atStart=>exact⟨0,rfl,by omega,b3⟩
 case round=>
  obtain⟨a,rfl,h3,i⟩:=hrel;rcases Yj a ds.length with n|h2
  .have a1:a<o.length:=by omega
   have d8:aV (hA (ds.take a)) 5000:=zJ (ds.take a) (λf g=>r.j f (List.mem_of_mem_take g)) (λf g=>H.j f (List.mem_of_mem_take g)) (K.j.cs (by simp;omega));obtain⟨c0,e7,e5,c2,c3,c7,j⟩:=i.j;obtain⟨h,e,d1,h0,i2⟩:=a7.j _ j.ax.kp a n a1;cases d1
   have b5:=Z (Hs (a8.j a n a1) s.j (r.j ds[a] (Yy n)) j d8);have h4:(0:Int)<=↑a:=by omega
   have h5:(↑a:Int) < ↑ds.length:=by omega
   have b2:U (hA (ds.take (a+1))=jW ds[a] (hA (ds.take a))):=by show _=_;rw[Yt n,GJ]
   go_wp2_with fail;refine b5.j.mono ?_;rintro d a4 ⟨rfl,t⟩;have a5:U (cL b ⟨b.heap.size+3,b.heap.size+1,b.heap.size+2⟩ [(b.heap.size,qz (.slice none 0 0) none none)] [] (hA (ds.take (a+1))) a4):=by
    rw[b2.j];exact kX (by intro p C;cases C) t
   go_wp2;exact⟨⟨a+1,by go_num,by omega,a5⟩,by simp[intOf];omega⟩
  .have d5:a=ds.length:=by omega
   subst d5;have i:=i.j;rw[YG]at i;have L:aV (hA ds) 33000:=zJ ds r.j H.j (K.j.cs (by omega));obtain⟨c0,e7,e5,c2,c3,c7,j⟩:=i;have M:U (aV (ds.foldl el (hA ds,[])).1 32000):=zM ds (p:=(hA ds,[])) (L.cs (by omega));have N:U (aV (ds.foldl gL ((ds.foldl el (hA ds,[])).1,[])).1 100):=zL ds (q:=((ds.foldl el (hA ds,[])).1,[])) I.j (M.j.cs (by omega));have b8:=Z (RH G.j s.j a2 j (L.cs (by omega)));go_wp2_with fail;refine b8.j.mono ?_;rintro d a4 ⟨S,f3,rfl,h9,c6,f4,i8,i0,g1,g6,c8,t⟩;have b7:=Z (Nc G.j s.j a2 I.j t (M.j.cs (by omega)));have b1:=Z (c8 _ c6);go_wp2_with fail;refine b7.j.mono ?_;rintro d j0 ⟨l,e6,f5,rfl,d9,c5,d7,c9,d6,f6,i9,i1,g2,g7,A,b4⟩;have e3:=Ng (ds:=ds);have g9:=N.j.ag;have g8:=N.j.bk;have a9:U ((wt ds).1.length<1000000):=by
    have:=(By (ds.foldl gL ((ds.foldl el (hA ds,[])).1,[])).1.bk (ds.foldl gL ((ds.foldl el (hA ds,[])).1,[])).1).1;exact Nat.lt_of_le_of_lt (Nat.le_of_eq this) (by omega)
   have b6:=Z (JQ b4 e3 (by omega) (by omega));have a6:=Z c9;have b0:=Z d7;go_wp2_with fail;refine b6.j.mono ?_;rintro d j1 ⟨rfl,g3,k⟩;obtain⟨E,F,rfl⟩:=k.dG;obtain⟨f7,f8,f9,g0,h1,h6⟩:=k.am;have x:=(k.ax.hf _ Yb).1;obtain⟨i3,i4,i5,i6,i7⟩:=oF x;obtain⟨e8,e9,f0,_,_⟩:=oF (vZ (x:=.slice E (rG (ds.foldl gL ((ds.foldl el (hA ds,[])).1,[])).1).ag.length F) (y:=.map (some S)) (z:=.map (some l)) x);have J:=Z (k.g3 (Bm (.slice E (rG (ds.foldl gL ((ds.foldl el (hA ds,[])).1,[])).1).ag.length F) (.map (some S)) (.map (some l))) (vZ x));go_wp2;refine bodyPost_ret (v:=.agg #[.slice E (rG (ds.foldl gL ((ds.foldl el (hA ds,[])).1,[])).1).ag.length F,.map (some S),.map (some l)]) (by simp[results,results45,go_sem,e8,e9,f0]) rfl ?_;obtain⟨b9,u,w,c4⟩:=J.j.od a9.j;exact⟨_,S,l,b9,rfl,J.j.ax.kp,⟨u,w _ (A _ (d9 _ b1.j)),Dt _ (by simp),e6,w _ (A _ c5),λp C=>(b0.j p C).a4 λf2 e4=>w _ (A _ e4),a6.j,d6⟩,c4⟩
def LN(a:TypeId)(d:Value)(b:World)(c:a=143):(binOp BinOp.neq 20 (.iface a d) .nilIface).run prog b=.ok (.bool true) b:=by subst c;kernel_rfl
def LO(a:World):(binOp BinOp.neq 20 .nilIface .nilIface).run prog a=.ok (.bool false) a:=by kernel_rfl
def Nr(f g:Addr)(a:World) :
  CallsD prog 42 #[.pointer (some f),.pointer (some g)] .returning a λc h i=>c=.returned (.tuple #[])/\h=.returning/\i=a:=by
 have d:=LO;refine callsD_of_wpS func42 rfl λb j e=>?_;apply wpS_seq;apply wpS_region;simp[wpOpsS,go_sem,recoverD,e,ntmps42,Exit.thenS];apply wpS_seq;apply wpS_region;simp[wpOpsS,go_sem,Exit.thenS,d];refine wpS_cond (t:=false) (by simp[Act.eval,Array.replicate]) ?_;simp only[Ye,if_false]
 refine wpS_of_wp (wp_skip ?_);cases b
 simp_all[bodyPostS,results,results42]
def Nq(b Q c:Nat)(k l:Value)(e:List PanicEntry)(a:World)(p:a.cell? ⟨b,0,none⟩=some k)(q:a.cell? ⟨Q,0,none⟩=some l)(n:a.frozen? ⟨b,0,none⟩=false)(o:a.frozen? ⟨Q,0,none⟩=false)(r:b≠Q) :
  CallsD prog 42 #[.pointer (some ⟨b,0,none⟩),.pointer (some ⟨Q,0,none⟩)] (.panicking ({ v:=.iface 143 (.pointer (some ⟨c,0,none⟩)),recovered:=false }::e)) a λd i j=>
   d=.returned (.tuple #[])/\i=.panicking ({ v:=.iface 143 (.pointer (some ⟨c,0,none⟩)),recovered:=true }::e)/\j=(a.setCell ⟨b,0,none⟩ (.pointer none)).setCell ⟨Q,0,none⟩ (.iface 143 (.pointer (some ⟨c,0,none⟩))):=by
 have g:=LN 143;refine callsD_of_wpS func42 rfl λf m h=>?_;apply wpS_seq;apply wpS_region;simp[wpOpsS,go_sem,recoverD,h,ntmps42,Exit.thenS];apply wpS_seq;apply wpS_region;simp[wpOpsS,go_sem,Exit.thenS,g];refine wpS_cond (t:=true) (by simp[Act.eval,Array.replicate]) ?_;simp only[if_true]
 refine wpS_of_wp ?_;go_wp2_with fail;refine(Ey c a).mono ?_;rintro d s ⟨rfl,rfl⟩;go_wp2;cases f
 simp_all[bodyPostS,results,results42]
section
variable {a b:List (Nat×Obj)}{f:List dh}{c:List ao}{e:List Nat}{d:Value}
def wK(a:List (Nat×Obj))(f:Nat)(c:List ao):Prop:=∃d e v S b,(f,Obj.cells #[d,v,.map (some S),.map (some b)] 109)∈a/\jj a d c e/\sB a v S b c
def ER(e:World)(c:List ao)(g:Ending)(f:World):Prop:=∃b a,g=.returned (.tuple #[.pointer (some ⟨b,0,none⟩),.nilIface])/\ai [] e f/\wK a b c/\(∀d∈a,f.heap[d.1]? = some d.2)/\e.heap.size<=b
def jj.dG(i:jj a d c e):∃g h f,d=.slice g h f:=by
 rcases i.row with⟨b,_⟩|⟨l,j,k,b,_⟩<;>exact⟨_,_,_,b⟩
def pb.dG{v:Value}(g:pb a v f):∃c d e,v=.slice c d e:=by
 obtain⟨k,_,h,_⟩:=g;rcases h with⟨b,_⟩|⟨l,i,j,b,_⟩<;>exact⟨_,_,_,b⟩
def jv:Obj->Bool
 |.cells _ a _=>(a != 53)&&(a != 55)
 |_=>true
def fy.cP(o:∀f∈a,jv f.2=true->f∈b){c:TypeId}{v:Value}{e:Nat}{g:List Value}(p:((c != 53)&&(c != 55))=true)(d:fy a c v e g):fy b c v e g:=by
 rcases d with d|⟨j,h,i,k,l,m,n⟩
 .exact Y8 d
 .exact Ya ⟨j,h,i,k,l,o _ m p,n⟩
def dx.cP(c:∀u∈a,jv u.2=true->u∈b){h:Nat}{p:ao}(i:dx a h p):dx b h p:=by
 have t:∀h s,qG a h s->qG b h s:=λh s w=>c _ w rfl;cases p with
 |const q o v=>exact t _ _ i
 |typedef p=>exact c _ i rfl
 |enum q o x=>obtain⟨d,e,f,g,l,m⟩:=i;exact⟨d,e,c _ f rfl,g,l.cP c rfl,λn j k=>t _ _ (m n j k)⟩
 |struct q o x=>obtain⟨d,f,g⟩:=i;exact⟨d,c _ f rfl,g.cP c rfl⟩
 |union q o A y=>obtain⟨d,r,f,g,l,m⟩:=i;exact⟨d,r,c _ f rfl,g,l.cP c rfl,λn j k=>(m n j k).cP c rfl⟩
 |prog q o B z=>obtain⟨d,r,f,g,l,m⟩:=i;exact⟨d,r,c _ f rfl,g,l.cP c rfl,λn j k=>(m n j k).cP c rfl⟩
def jj.cP(g:∀h∈a,jv h.2=true->h∈b)(f:jj a d c e):jj b d c e:=
 ⟨f.bc,f.row.cP g rfl,λk i j=>(f.dX k i j).cP g⟩
def iO.cP(k:∀g∈a,jv g.2=true->g∈b){e:List Value}{d:dg}(h:iO a e d):iO b e d:=by
 obtain⟨l,i,c,j⟩:=h;refine⟨l,i,?_,j⟩;cases f:d.j9 with
 |none=>rw[f]at c;exact c
 |some m=>rw[f]at c;exact⟨c.1,c.2.cP k rfl⟩
def jr.cP(c:∀j∈a,jv j.2=true->j∈b){v:Value}{h:dh}(e:jr a v h):jr b v h:=by
 cases h with
 |num p=>obtain⟨d,f,g⟩:=e;exact⟨d,f,g.cP c⟩
 |choice p t q=>
  obtain⟨d,o,r,f,g,l,i⟩:=e;refine⟨d,o,r,f,g.cP c,c _ l rfl,?_⟩;cases q with
  |none=>exact i
  |some s=>obtain⟨k,m,n⟩:=i;exact⟨k,m,c _ n rfl⟩
 |_=>exact e
def pb.cP(e:∀c∈a,jv c.2=true->c∈b){v:Value}(o:pb a v f):pb b v f:=by
 obtain⟨i,p,d,q,r⟩:=o;refine⟨i,p,?_,λc s=>(q c s).cP e,r⟩;rcases d with d|⟨n,g,h,j,k,l,m⟩
 .exact Y8 d
 .exact Ya ⟨n,g,h,j,k,e _ l rfl,m⟩
def lU.cP(e:∀c∈a,jv c.2=true->c∈b){f:jo}(d:lU a f):lU b f:=⟨e _ d.1 rfl,λc g=>e _ (d.2 c g) rfl⟩
def sB.cP(e:∀f∈a,jv f.2=true->f∈b){v:Value}{S g:Nat}(d:sB a v S g c):sB b v S g c:=by
 obtain⟨m,h,i,j,k⟩:=d.aa;exact⟨d.ag.cP e,e _ d.ae rfl,d.nd,m,e _ h rfl,λf l=>(i f l).cP e,j,k⟩
def Fl{F:ByteArray}(b4:eo F=.ok c)(b3:∀a4∈c,ku a4){a:World}(u:Gl a):Calls prog 25 #[.string F] a (ER a c):=by
 have c9:=jw;have I:Below a.heap.size a ((a.alloc (.cells #[.pointer none] 53)).alloc (.cells #[.nilIface] 55)):=((Below.refl _ _).alloc (Y4 _) _).alloc (by simp) _;have a3:=Z (zR F (u.aA I));have x:=Z b4;have M:((a.alloc (.cells #[.pointer none] 53)).alloc (.cells #[.nilIface] 55)).heap[a.heap.size]? = some (.cells #[.pointer none] 53):=(Below.heap_alloc _ _ _ (by simp)).trans (aK rfl);have N:((a.alloc (.cells #[.pointer none] 53)).alloc (.cells #[.nilIface] 55)).heap[a.heap.size+1]? = some (.cells #[.nilIface] 55):=aK (by simp);go_enter_defers func25,ntmps25;go_wp2_with fail;refine a3.j.mono ?_;rintro p d3 (⟨a5,d0,b8,s,C,rfl,b1,B,K⟩|⟨a6,C,_⟩);rotate_left
 .exact absurd (x.j.symm.trans C) (by simp)
 obtain rfl:c=a5:=by have:=x.j.symm.trans C;injection this
 obtain⟨g,h,i,rfl⟩:=B.dG;have a2:=Z (Fw B K (Rc x.j) b3 (by have:=Ra x.j;omega));have a0:=Z b1;have P:=Z B;have H:=Z K;go_wp2_with fail;refine a2.j.mono ?_;rintro p d ⟨v,S,f,t,rfl,L,J,b0⟩;obtain⟨j,k,l,rfl⟩:=J.ag.dG;have A:=Z (a0.j.u L);have O:=Z J;have R:=Z b0;have a1:=Z L;have z:=(A.j.K _ (aj M) (by simp)).trans M;have w:=(A.j.K _ (aj N) (by simp)).trans N;have c1:=bM z;have c3:=bM w;have c5:∀m,d.frozen? ⟨a.heap.size,m,none⟩=false:=by intro m;simp[World.frozen?,z]
 have c7:∀m,d.frozen? ⟨a.heap.size+1,m,none⟩=false:=by intro m;simp[World.frozen?,w]
 have b5:=aj w;have a9:U (∀e r,ai [] a (((d.alloc (.cells #[.slice g h i,.slice j k l,.map (some S),.map (some f)] 109)).setCell ⟨a.heap.size,0,none⟩ e).setCell ⟨a.heap.size+1,0,none⟩ r)):=λe r=>(((bt [] I).u A.j |>.G _).cy (p:=⟨a.heap.size,0,none⟩) (Y4 _) e).cy (p:=⟨a.heap.size+1,0,none⟩) (by simp) r;have D:(d.alloc (.cells #[.slice g h i,.slice j k l,.map (some S),.map (some f)] 109)).heap[a.heap.size]? = some (.cells #[.pointer none] 53):=(Below.heap_alloc _ _ _ (by omega)).trans z;have c2:(d.alloc (.cells #[.slice g h i,.slice j k l,.map (some S),.map (some f)] 109)).cell? ⟨a.heap.size,0,none⟩=some (.pointer none):=bM D;have c6:∀m,(d.alloc (.cells #[.slice g h i,.slice j k l,.map (some S),.map (some f)] 109)).frozen? ⟨a.heap.size,m,none⟩=false:=by intro m;simp[World.frozen?,D]
 have E:∀e,((d.alloc (.cells #[.slice g h i,.slice j k l,.map (some S),.map (some f)] 109)).setCell ⟨a.heap.size,0,none⟩ e).heap[a.heap.size+1]? = some (.cells #[.nilIface] 55):=λe=>(Below.heap_setCell _ _ _ _ (by simp)).trans ((Below.heap_alloc _ _ _ b5).trans w);have c4:∀e,((d.alloc (.cells #[.slice g h i,.slice j k l,.map (some S),.map (some f)] 109)).setCell ⟨a.heap.size,0,none⟩ e).cell? ⟨a.heap.size+1,0,none⟩=some .nilIface:=λe=>bM (E e);have c8:∀e m,((d.alloc (.cells #[.slice g h i,.slice j k l,.map (some S),.map (some f)] 109)).setCell ⟨a.heap.size,0,none⟩ e).frozen? ⟨a.heap.size+1,m,none⟩=false:=by intro e m;simp[World.frozen?,E e]
 have G:U (wK ((d.heap.size,.cells #[.slice g h i,.slice j k l,.map (some S),.map (some f)] 109)::((s++t).filter λb=>jv b.2)) d.heap.size c/\∀e r,∀b∈((d.heap.size,.cells #[.slice g h i,.slice j k l,.map (some S),.map (some f)] 109)::((s++t).filter λb=>jv b.2):List (Nat×Obj)),(((d.alloc (.cells #[.slice g h i,.slice j k l,.map (some S),.map (some f)] 109)).setCell ⟨a.heap.size,0,none⟩ e).setCell ⟨a.heap.size+1,0,none⟩ r).heap[b.1]? = some b.2):=by
  have a7:∀b∈s,jv b.2=true->b∈((d.heap.size,.cells #[.slice g h i,.slice j k l,.map (some S),.map (some f)] 109)::((s++t).filter λb=>jv b.2):List (Nat×Obj)):=λb o u=>Y5 _ (List.mem_filter.2 ⟨Yf _ o,u⟩);have a8:∀b∈t,jv b.2=true->b∈((d.heap.size,.cells #[.slice g h i,.slice j k l,.map (some S),.map (some f)] 109)::((s++t).filter λb=>jv b.2):List (Nat×Obj)):=λb o u=>Y5 _ (List.mem_filter.2 ⟨Ym _ o,u⟩);refine⟨⟨_,b8,_,S,f,Yb,P.j.cP a7,O.j.cP a8⟩,?_⟩;intro e r b o;rcases Yg.1 o with rfl|o
  .exact(Below.heap_setCell _ _ _ _ (by simp only;omega)).trans ((Below.heap_setCell _ _ _ _ (by simp only;omega)).trans (aK rfl))
  .obtain⟨q,y⟩:=List.mem_filter.1 o;have n:d.heap[b.1]? = some b.2:=by
    rcases Yn.1 q with q|q
    .exact(a1.j.K _ (aj (H.j b q)) (by simp)).trans (H.j b q)
    .exact R.j b q
   have b6:b.1≠a.heap.size:=by
    intro p;rw[p,z]at n;injection n with n;rw[<-n]at y;exact absurd y (by decide)
   have b7:b.1≠a.heap.size+1:=by
    intro p;rw[p,w]at n;injection n with n;rw[<-n]at y;exact absurd y (by decide)
   exact(Below.heap_setCell _ _ _ _ b7).trans ((Below.heap_setCell _ _ _ _ b6).trans ((Below.heap_alloc _ _ _ (aj n)).trans n))
 have b9:(((d.alloc (.cells #[.slice g h i,.slice j k l,.map (some S),.map (some f)] 109)).setCell ⟨a.heap.size,0,none⟩ (.pointer (some ⟨d.heap.size,0,none⟩))).setCell ⟨a.heap.size+1,0,none⟩ .nilIface).cell? ⟨a.heap.size,0,none⟩=some (.pointer (some ⟨d.heap.size,0,none⟩)):=
  bM ((Below.heap_setCell _ _ _ _ (by simp)).trans (bv (i:=0) D _))
 have c0:(((d.alloc (.cells #[.slice g h i,.slice j k l,.map (some S),.map (some f)] 109)).setCell ⟨a.heap.size,0,none⟩ (.pointer (some ⟨d.heap.size,0,none⟩))).setCell ⟨a.heap.size+1,0,none⟩ .nilIface).cell? ⟨a.heap.size+1,0,none⟩=some .nilIface:=bM (bv (i:=0) (E _) _);have b2:a.heap.size<=d.heap.size:=by omega
 go_wp2;refine leaves_cons (f:=42) (args:=#[.pointer (some ⟨a.heap.size,0,none⟩),.pointer (some ⟨a.heap.size+1,0,none⟩)]) (by simp) (by simp[go_sem]) ?_;refine(Nr _ _ _).mono ?_;rintro p d1 d2 ⟨rfl,rfl,rfl⟩;simp only[Leaves,settle];refine⟨.tuple #[.pointer (some ⟨d.heap.size,0,none⟩),.nilIface],by simp[results,results25,go_sem,b9,c0],?_⟩;exact⟨d.heap.size,_,rfl,a9.j _ _,G.j.1,G.j.2 _ _,b2⟩
end
end Go.Proofs.YtjdhaegijjednaaGreatDoor
namespace Go.Proofs.YtjdhaegijjednaaGreatDoor
open Go.RowKit
open Go.Proofs.Tryz
section
variable {a i kd p:Nat}
abbrev ap(t:List UInt8):ByteArray:=⟨t.toArray⟩
structure zA(y:Mar.bi):Prop where
 e6:y.H<=4
 j1:Mar.e3 y.text=true->y.H=2
 q0:∀c,Mar.gF c=true->y.text=[c]->y.H=4
def Jr:(Mar.i7.all λa=>match a with|c::_::_=>Mar.d0 c|_=>false)=true:=by decide
def xK{a:List UInt8}(d:Mar.e3 a=true):∃b c f,a=b::c::f/\Mar.d0 b=true:=by
 have e:a∈Mar.i7:=by simpa[Mar.e3]using d
 have:=List.all_eq_true.1 Jr a e;split at this
 .exact⟨_,_,_,rfl,this⟩
 .cases this
def Ik{p:List UInt8}{j:Mar.bi}(b:Mar.ds p a=.ok j):zA j/\j.w=a:=by
 unfold Mar.ds at b;split at b
 .cases b
  exact⟨⟨by simp,λb=>(by obtain⟨f,k,n,b,_⟩:=xK b;simp at b),λf _ b=>(by simp at b)⟩,rfl⟩
 .rename_i f t;split at b
  .rename_i g;have m:∀d,Mar.gF d=true->Mar.ba (f::t)≠[d]:=λd e c=>by
    simp only[Mar.ba,List.cons.injEq]at c;rw[c.1]at g;rw[(Mar.n1 e).1]at g;cases g
   unfold Mar.d7 at b;split at b
   .cases b
   .split at b
    .cases b;exact⟨⟨by simp,λ_=>rfl,λd e c=>absurd c (m d e)⟩,rfl⟩
    .rename_i i;cases b
     exact⟨⟨by simp,λb=>absurd b i,λd e c=>absurd c (m d e)⟩,rfl⟩
  .split at b
   .rename_i l h;unfold Mar.e5 at b;split at b
    .cases b
     refine⟨⟨by simp,λi=>?_,λd e c=>?_⟩,rfl⟩
     .obtain⟨d,k,n,c,o⟩:=xK i;simp only[Mar.ba,List.cons.injEq]at c;rw[c.1]at l;exact absurd o l
     .simp only[Mar.ba,List.cons.injEq]at c;rw[c.1]at h;have:=Mar.n1 e;rw[this.2.1,this.2.2.1]at h;cases h
    .cases b
   .split at b
    .cases b
     exact⟨⟨by simp,λb=>(by obtain⟨f,k,n,b,_⟩:=xK b;simp at b),λf _ b=>rfl⟩,rfl⟩
    .cases b
def Im{c:List UInt8}{f:Mar.a5}(b:Mar.ds c a=.error f):f.no≠0/\f.w=a:=by
 unfold Mar.ds at b;split at b
 .cases b
 .split at b
  .unfold Mar.d7 at b;split at b
   .cases b;exact⟨by simp,rfl⟩
   .split at b<;>cases b
  .split at b
   .unfold Mar.e5 at b;split at b
    .cases b
    .cases b;exact⟨by simp,rfl⟩
   .split at b
    .cases b
    .cases b;exact⟨by simp,rfl⟩
def Wd(c:Except Mar.a5 (Mar.bi×Nat))(a:ef):Prop:=match c with
 |.ok (b,p)=>(a.H=b.H/\a.text=b.text/\a.n=b.n/\a.w=b.w/\a.fin=p)/\zA b
 |.error f=>a.H=5/\a.e=f.no/\a.w=f.w/\f.no≠0
def En(t:List UInt8)(p:Nat):Wd (lF t p) (cR t p):=by
 unfold lF cR dV;cases c:Mar.ds (t.drop (p+Mar.fx (t.drop p))) (p+Mar.fx (t.drop p))with
 |ok d=>
  obtain⟨a,b⟩:=Ik c;exact⟨⟨rfl,rfl,rfl,b.symm,rfl⟩,a⟩
 |error f=>
  obtain⟨a,b⟩:=Im c;exact⟨rfl,rfl,b.symm,a⟩
def dz(b:List be):Ty->Int->Prop
 |.plain h,i=>i=h/\h<=4
 |.named j a,i=>0<=i/\∃e,b[i.toNat]? = some e/\e.H=14/\e.ca=j/\e.w=a
 |.opaq d f,i=>0<=i/\b[i.toNat]? = some (ek (if f then 6 else 7) d)
 |.str d _,i=>0<=i/\b[i.toNat]? = some (ek 8 d)
 |.arr g d f,i=>0<=i/\∃c,b[i.toNat]? = some (dI (if f then 9 else 10) d c)/\dz b g c
 |.opt g,i=>0<=i/\∃c,b[i.toNat]? = some (dI 11 0 c)/\dz b g c
 |.void,i=>i = -1
def mj{e:Type}{a g:List e}{d:e}(b:a[i]? = some d):(a++g)[i]? = some d:=by
 have f:i<a.length:=by
  rcases Yj i a.length with c|c
  .exact c
  .rw[YA c]at b;cases b
 rw[Ys f];exact b
def dz.cF{k:List be}(l:List be):∀{e:Ty} {i:Int},dz k e i->dz (k++l) e i:=by
 intro e;induction e with
 |plain d=>intro i b;exact b
 |named o a=>rintro i ⟨c,n,b,d⟩;exact⟨c,n,mj b,d⟩
 |opaq j f=>rintro i ⟨c,b⟩;exact⟨c,mj b⟩
 |str j f=>rintro i ⟨c,b⟩;exact⟨c,mj b⟩
 |arr m j f g=>rintro i ⟨c,h,b,d⟩;exact⟨c,h,mj b,g d⟩
 |opt m g=>rintro i ⟨c,h,b,d⟩;exact⟨c,h,mj b,g d⟩
 |void=>intro i b;exact b
abbrev Nl:=List (List UInt8×Option ao)
abbrev rq(a:List (List UInt8×Nat×Int)):be:=⟨5,0,0,a.map (·.2.2),[],0,[],0⟩
def jM(h:List be)(g:Nl)(e:Ty)(of:Int):Prop:=
 (∃b,e=.plain b/\(b=0\/b=1\/b=4)/\of=b)\/(∃d a t f c,e=.named d a/\4<of/\az g d=some (some (.enum t f c))/\h[of.toNat]? = some (rq c))
def dH(b:List (List Int×aG)):List (Int×aG):=b.flatMap λa=>a.1.map λc=>(c,a.2)
def hC(b:List (List Int×aG)):Option aG:=(b.find? λa=>a.1.isEmpty).map (·.2)
def pq(b:List be)(k:Nl)(e:ao)(i:Int):Prop:=match e with
 |.typedef e=>dz b e.L i/\0<=i
 |.enum _ _ h=>0<=i/\b[i.toNat]? = some (rq h)
 |.struct _ _ h=>0<=i/\∃c:List Int,b[i.toNat]? = some ⟨12,0,0,[],c,0,[],0⟩/\c.length=h.length/\∀(f:Nat) (p:Int) (g:aG),c[f]? = some p->h[f]? = some g->dz b g.L p
 |.union _ _ l d=>0<=i/\∃(of:Int) (c:List Int) (j:Int),b[i.toNat]? = some ⟨13,0,of,(dH d).map (·.1),c,j,[],0⟩/\jM b k l.L of/\
   c.length=(dH d).length/\(∀(f:Nat) (p:Int) (g:Int×aG),c[f]? = some p->(dH d)[f]? = some g->dz b g.2.L p)/\
   (match hC d with
   |none=>j = -2
   |some e=>dz b e.L j)/\∀a∈d,a.1=[]->hC d=some a.2
 |_=>False
def Kp(c d:Nl):Prop:=∀b a,az c b=some (some a)->az d b=some (some a)
def zF(a:Nl):Kp a a:=λ_ _ b=>b
def jM.cF{e:List be}{c d:Nl}{f:Ty}{of:Int}(b:jM e c f of)(m:List be)(l:Kp c d):jM (e++m) d f of:=by
 rcases b with b|⟨o,a,t,g,n,h,i,j,k⟩
 .exact Y8 b
 .exact Ya ⟨o,a,t,g,n,h,i,l _ _ j,mj k⟩
def pq.cF{t:List be}{r s:Nl}{d:ao}{i:Int}(c:pq t r d i)(e:List be)(y:Kp r s):pq (t++e) s d i:=by
 cases d with
 |const a b f=>exact c
 |prog a b f d=>exact c
 |typedef d=>exact⟨c.1.cF e,c.2⟩
 |enum a b f=>exact⟨c.1,mj c.2⟩
 |struct a b f=>
  obtain⟨h,o,j,k,l⟩:=c;exact⟨h,o,mj j,k,λm p n a b=>(l m p n a b).cF e⟩
 |union a b f u=>
  obtain⟨h,of,o,v,j,k,l,w,g,x⟩:=c;refine⟨h,of,o,v,mj j,k.cF e y,l,λm p n a b=>(w m p n a b).cF e,?_,x⟩;cases q:hC u with
  |none=>rw[q]at g;exact g
  |some d=>rw[q]at g;exact dz.cF e g
def ph(d:List be)(c:Nl)(p:List UInt8×Option ao)(a:df):Prop:=a.s=p.1/\match p.2 with
 |none=>a.bb=2
 |some (.const _ _ v)=>a.bb=0/\a.n=v
 |some (.prog ..)=>a.bb=2
 |some b=>a.bb=1/\a.w=(bB b).2/\pq d c b a.n
def ph.cF{m:List be}{j k:Nl}{p:List UInt8×Option ao}{l:df}(i:ph m j p l)(d:List be)(h:Kp j k):ph (m++d) k p l:=by
 refine⟨i.1,?_⟩;have b:=i.2;split
 .rename_i c;rw[c]at b;exact b
 .rename_i c;rw[c]at b;exact b
 .rename_i c;rw[c]at b;exact b
 .rename_i g n o c;rw[c]at b;cases g with
  |const a e f=>exact absurd rfl (n _ _ _)
  |prog a e f g=>exact absurd rfl (o _ _ _ _)
  |typedef g=>exact⟨b.1,b.2.1,b.2.2.cF d h⟩
  |enum a e f=>exact⟨b.1,b.2.1,b.2.2.cF d h⟩
  |struct a e f=>exact⟨b.1,b.2.1,b.2.2.cF d h⟩
  |union a e f g=>exact⟨b.1,b.2.1,b.2.2.cF d h⟩
structure ir(rows:List be)(nl:Nl)(l:List df):Prop where
 bc:l.length=nl.length
 hs:∀(i:Nat) (p:List UInt8×Option ao) (r:df),nl[i]? = some p->l[i]? = some r->ph rows nl p r
 nd:(nl.map (·.1)).Nodup
def ir.lp{f:List be}{c:Nl}{b:List df}(d:ir f c b):b.map (·.s)=c.map (·.1):=by
 apply List.ext_getElem?;intro i;rw[List.getElem?_map,List.getElem?_map];rcases Yj i c.length with a|a
 .have e:i<b.length:=by rw[d.bc];exact a
  have:=d.hs i c[i] b[i] (Yd a) (Yd e);rw[Yd a,Yd e];simp[this.1]
 .rw[YA a,YA (by rw[d.bc];exact a)];rfl
def ir.cF{f:List be}{c:Nl}{d:List df}(b:ir f c d)(e:List be):ir (f++e) c d:=⟨b.bc,λi p h a g=>(b.hs i p h a g).cF e (zF c),b.nd⟩
def Ih(b:Nl)(a:List UInt8):(az b a=none/\lj (b.map (·.1)) a<0)\/(∃(i:Nat) (d:Option ao),az b a=some d/\lj (b.map (·.1)) a=(i:Int)/\b[i]? = some (a,d)):=by
 unfold lj;induction b with
 |nil=>left;simp[az]
 |cons p b n=>
  by_cases c:p.1=a
  .right;refine⟨0,p.2,?_,?_,?_⟩
   .simp[az,List.find?,c]
   .simp[c]
   .simp[<-c]
  .have h:(p.1==a)=false:=by simpa using c
   have j:(a==p.1)=false:=by simp;exact λk=>c k.symm
   have m:az (p::b) a=az b a:=by simp[az,List.find?,h]
   rw[m];rcases n with⟨e,f⟩|⟨i,d,e,f,l⟩
   .left;refine⟨e,?_⟩;split at f
    .omega
    .rename_i g;rw[List.map_cons,List.contains_cons,j,Bool.false_or,Y2 g];omega
   .right;refine⟨i+1,d,e,?_,by simpa using l⟩;split at f
    .rename_i g;rw[List.map_cons,List.contains_cons,j,Bool.false_or,Y9 g,List.idxOf_cons,h];simp only[cond_false];omega
    .omega
structure br where
 dc:Nat
 nl:Nl
 pd:Nl
 o:List UInt8
 ps:List bj
 rf:List (List UInt8×Int)
 fz:List df
def ki(b:List be):List (List UInt8×Int):=b.filterMap λa=>if a.H=14 then some (a.ca,a.w)else none
def NF(b:List be)(a:be):ki (b++[a])=ki b++if a.H=14 then [(a.ca,a.w)]else []:=by
 unfold ki;split<;>rename_i c<;>simp[c]
def jR:List be:=[⟨0,0,0,[],[],0,[],0⟩,⟨1,0,0,[],[],0,[],0⟩,⟨2,0,0,[],[],0,[],0⟩,⟨3,0,0,[],[],0,[],0⟩,⟨4,0,0,[],[],0,[],0⟩]
def ut(b:Nat)(a:be):Prop:=a.of<b/\(∀c∈a.c0,c<b)/\a.gz<b/\(a.H=5->∀c∈a.b2,dj (-2147483648) 2147483647 c=true)
def Fz(a:List df)(e:Nl)(c:List df):Prop:=(∃d,c=a++d)/\∀(b:Nat) (p:List UInt8×Option ao),b<a.length->e[b]? = some p->p.2≠none
def Fz.hj{c:List df}{a:Nl}{b:List df}(g:Fz c a b)(j:b.length=a.length)(p:List UInt8×Option ao)(f:df):Fz c (a++[p]) (b++[f]):=by
 obtain⟨⟨l,d⟩,h⟩:=g;refine⟨⟨l++[f],by rw[d,YN]⟩,λe m i k=>h e m i ?_⟩;have:e<a.length:=by rw[<-j,d,Yq];omega
 rwa[Ys this]at k
def Fz.bQ{b:List df}{c:Nl}{j:List df}(l:Fz b c j){k:List UInt8}(m:c[i]? = some (k,none))(d:ao)(r:df):Fz b (cM c k d) (j.set i r):=by
 obtain⟨⟨q,p⟩,g⟩:=l;have n:b.length<=i:=by
  rcases Yj i b.length with e|e
  .exact absurd rfl (g i _ e m)
  .exact e
 refine⟨⟨q.set (i-b.length) r,by rw[p,List.set_append_right _ _ n]⟩,λh t o a=>?_⟩;unfold cM at a;rw[List.getElem?_map]at a;cases f:c[h]? with
 |none=>rw[f]at a;cases a
 |some s=>
  rw[f]at a;simp only[Option.map_some,Yu]at a;subst a;split
  .simp
  .exact g h s o f
structure Q(t:List UInt8)(b:br)(st:St)(σ:ac):Prop where
 e:σ.s.e=0
 wd:Wd (eb t st.w st.nx) σ.s.x
 nl:st.F=b.nl++b.pd
 pd:b.pd=[]\/∃s,b.pd=[(s,none)]/\az b.nl s=none
 nm:ir σ.y b.nl σ.F
 L:σ.ae=st.ae
 cn:σ.a1+b.dc=st.a1
 pg:σ.aa=st.aa.map (·.1)
 e2:∃l,σ.y=jR++l
 cP:∀(i:Nat) (r:be),σ.y[i]? = some r->ut (max i 5) r
 ou:σ.j=b.o
 pr:σ.ak=b.ps
 fq:ki σ.y=b.rf
 f8:Fz b.fz b.nl σ.F
def br.cZ(b:br)(a:List (List UInt8×Nat)):br:={ b with rf:=b.rf++a.map λp=>(p.1,(p.2:Int)) }
def kW(b:br):b.cZ []=b:=by simp[br.cZ]
def qI(b:br)(a c:List (List UInt8×Nat)):(b.cZ a).cZ c=b.cZ (a++c):=by simp[br.cZ]
structure Er(f:Mar.a5)(σ:ac):Prop where
 e:σ.s.e=f.no
 a:σ.s.a=f.w
 z:f.no≠0
structure Bd(f:Mar.a5)(σ:ac):Prop where
 e:σ.s.e=0
 k:σ.s.x.H=5
 n:σ.s.x.e=f.no
 a:σ.s.x.w=f.w
 z:f.no≠0
variable {t : List UInt8} {st h : St} {σ g j : ac} {b : br} {f : Mar.a5}
def Er.b4(b:Er f σ)(d:aN σ g):Er f g:=by
 obtain⟨a,c⟩:=d (by rw[b.e];have:=b.z;omega);exact⟨a.trans b.e,c.trans b.a,b.z⟩
def Er.e1(a:Er f σ):σ.s.e≠0:=by rw[a.e];have:=a.z;omega
def Q.bd(a:Q t b st σ)(c:eb t st.w st.nx=.error f):Bd f σ:=by
 have:=a.wd;rw[c]at this;exact⟨a.e,this.1,this.2.1,this.2.2.1,this.2.2.2⟩
def Bd.is(a:Bd f σ){l:List UInt8}(b:kd≠5):ay σ kd l=false:=by
 unfold ay hD;rw[a.k];have:((5:Nat)==kd)=false:=by simp;omega
 rw[this];simp
def Bd.hQ(b:Bd f σ):Er f (dd σ):=by
 have:(dd σ).s=⟨σ.s.x,f.no,f.w⟩:=by
  show jQ σ.s=_;unfold jQ lZ hp;rw[Y9 b.k,Y9 b.e,b.n,b.a]
 exact⟨by rw[this],by rw[this],b.z⟩
def Bd.i2(a:Bd f σ){l:List UInt8}(c:kd≠5):Er f (ab t kd l σ):=by
 have b:ab t kd l σ=dd σ:=by
  unfold ab mG dd;have:=a.is (l:=l) c;unfold ay at this;rw[this];simp
 rw[b];exact a.hQ
def pS(kd:Nat)(a:List UInt8):Bool:=(kd==2&&Mar.e3 a)||(kd==4&&(a.length==1&&Mar.gF (a.getD 0 0)))
def JR{c:List UInt8}(b:pS kd c=true):kd≠5:=by
 intro a;subst a;simp[pS]at b
def Q.is{f:Mar.bi}(j:Q t b st σ)(s:eb t st.w st.nx=.ok (f,p)){l:List UInt8}(h:pS kd l=true):ay σ kd l=(f.text==l):=by
 have m:=j.wd;rw[s]at m;obtain⟨⟨n,o,-⟩,k⟩:=m;unfold ay hD;rw[j.e,n,o];by_cases d:f.text=l
 .have r:f.H=kd:=by
   unfold pS at h;simp only[Bool.or_eq_true,Bool.and_eq_true,beq_iff_eq]at h;rcases h with⟨a,g⟩|⟨a,g,i⟩
   .rw[a];exact k.j1 (by rw[d];exact g)
   .rw[a];obtain⟨c,q⟩:∃c,l=[c]:=by
     match l,g with
     |[c],_=>exact⟨c,rfl⟩
    rw[q]at i d;exact k.q0 c (by simpa using i) d
  rw[r,d];simp
 .have:(f.text==l)=false:=by simpa using d
  rw[this];simp
def Q.e0{y:Mar.bi}(a:Q t b st σ)(f:eb t st.w st.nx=.ok (y,p)):Q t b { st with w:=p,nx:=none } (aJ t σ):=by
 have c:=a.wd;rw[f]at c;obtain⟨⟨-,-,-,-,d⟩,-⟩:=c;refine⟨a.e,?_,a.nl,a.pd,a.nm,a.L,a.cn,a.pg,a.e2,a.cP,a.ou,a.pr,a.fq,a.f8⟩;show Wd (lF t p) (cR t σ.s.x.fin);rw[d];exact En t p
def Q.hH{d:Mar.bi}(a:Q t b st σ)(f:eb t st.w st.nx=.ok (d,p)):Q t b { st with w:=p,nx:=some d } σ:=by
 have c:=a.wd;rw[f]at c;exact⟨a.e,c,a.nl,a.pd,a.nm,a.L,a.cn,a.pg,a.e2,a.cP,a.ou,a.pr,a.fq,a.f8⟩
def Q.i6(e:Q t b st σ)(a:List UInt8):(az b.nl a=none/\bA σ a<0)\/(∃(i:Nat) (c:Option ao) (j:df),az b.nl a=some c/\bA σ a=(i:Int)/\b.nl[i]? = some (a,c)/\σ.F[i]? = some j/\ph σ.y b.nl (a,c) j):=by
 have m:bA σ a=lj (b.nl.map (·.1)) a:=by unfold bA;rw[e.nm.lp]
 rw[m];rcases Ih b.nl a with f|⟨i,c,f,k,d⟩
 .exact Y8 f
 .right;have l:i<b.nl.length:=by
   rcases Yj i b.nl.length with g|g
   .exact g
   .rw[YA g]at d;cases d
  have h:i<σ.F.length:=by rw[e.nm.bc];exact l
  exact⟨i,c,σ.F[i],f,k,d,Yd h,e.nm.hs i _ _ d (Yd h)⟩
end
section
variable {a kd p:Nat}{nl:Nl}{d h τ:Type}
variable {t : List UInt8} {st g : St} {σ i j σ1 σ2 : ac} {b c : br} {f : Mar.a5}
def S(t:List UInt8)(b:d->br->Prop)(e:Except Mar.a5 (d×St))(σ:ac):Prop:=match e with
 |.ok (a,g)=>∃c,Q t c g σ/\b a c
 |.error f=>Er f σ
def Sx(t:List UInt8)(b:d->τ->br->Prop)(e:Except Mar.a5 (d×τ×St))(σ:ac):Prop:=match e with
 |.ok (a,h,g)=>∃c,Q t c g σ/\b a h c
 |.error f=>Er f σ
def fe{i:d->br->Prop}{R':h->br->Prop}{e:PM d}{k:d->PM h}(b:S t i (e st) σ1)(p:aN σ1 σ2)(o:∀a g c,Q t c g σ1->i a c->S t R' (k a g) σ2):S t R' (av e k st) σ2:=by
 unfold av;cases j:e st with
 |ok l=>rw[j]at b;obtain⟨c,m,n⟩:=b;exact o l.1 l.2 c m n
 |error f=>rw[j]at b;exact Er.b4 b p
def eO{k:d->τ->br->Prop}{R':h->τ->br->Prop}{e:PX τ d}{m:d->PX τ h}{j:τ}(b:Sx t k (e j st) σ1)(r:aN σ1 σ2)(q:∀a n g c,Q t c g σ1->k a n c->Sx t R' (m a n g) σ2):Sx t R' (aw e m j st) σ2:=by
 unfold aw;cases l:e j st with
 |ok i=>rw[l]at b;obtain⟨c,o,p⟩:=b;exact q i.1 i.2.1 i.2.2 c o p
 |error f=>rw[l]at b;exact Er.b4 b r
def gj{g:d->br->Prop}{e:PM d}{i:τ}(b:S t g (e st) σ1):Sx t (λa l c=>g a c/\l=i) (lift e i st) σ1:=by
 unfold lift;cases h:e st with
 |ok m=>rw[h]at b;obtain⟨c,j,k⟩:=b;exact⟨c,j,k,rfl⟩
 |error f=>rw[h]at b;exact b
def S.af{R e:d->br->Prop}{f:Except Mar.a5 (d×St)}(b:S t R f σ)(i:∀a c,R a c->e a c):S t e f σ:=by
 unfold S at *
 split at b
 .obtain⟨c,g,h⟩:=b;exact⟨c,g,i _ _ h⟩
 .exact b
def Sx.af{R e:d->τ->br->Prop}{f:Except Mar.a5 (d×τ×St)}(b:Sx t R f σ)(j:∀a g c,R a g c->e a g c):Sx t e f σ:=by
 unfold Sx at *
 split at b
 .obtain⟨c,h,i⟩:=b;exact⟨c,h,j _ _ _ i⟩
 .exact b
def S.ret{c:d->br->Prop}{a:d}(e:Q t b st σ)(f:c a b):S t c (bT a st) σ:=⟨b,e,f⟩
def Sx.ret{c:d->τ->br->Prop}{a:d}{e:τ}(f:Q t b st σ)(g:c a e b):Sx t c (cH a e st) σ:=⟨b,f,g⟩
def Kf(g:Q t b st σ)(a:List UInt8):(∀f,az b.nl a=some f->az st.F a=some f)/\(az b.nl a=none->az st.F a=none\/az st.F a=some none):=by
 rw[g.nl];unfold az;rw[List.find?_append];constructor
 .intro f c;cases d:b.nl.find? (λp=>p.1==a)with
  |none=>rw[d]at c;cases c
  |some j=>rw[d]at c;simpa using c
 .intro c;cases d:b.nl.find? (λp=>p.1==a)with
  |some j=>rw[d]at c;cases c
  |none=>
   rcases g.pd with e|⟨i,e,-⟩
   .rw[e];left;rfl
   .rw[e];by_cases h:(i==a)=true
    .right;simp[h]
    .left;simp[h]
def pk(t:List UInt8)(st:St):(∃b p,eb t st.w st.nx=.ok (b,p))\/∃f,eb t st.w st.nx=.error f:=by
 cases c:eb t st.w st.nx with
 |ok a=>exact Y8 ⟨a.1,a.2,rfl⟩
 |error f=>exact Ya ⟨f,rfl⟩
def mn{y:Mar.bi}(a:eb t st.w st.nx=.ok (y,p)):next (ap t) st=.ok (y,{ st with w:=p,nx:=none }):=by
 unfold next;rw[a]
def ny(a:eb t st.w st.nx=.error f):next (ap t) st=.error f:=by
 unfold next;rw[a]
def qg{a:Mar.bi}(b:eb t st.w st.nx=.ok (a,p)):fL (ap t) st=.ok (a,{ st with w:=p,nx:=some a }):=by
 unfold fL;rw[b]
def tI(a:eb t st.w st.nx=.error f):fL (ap t) st=.error f:=by
 unfold fL;rw[a]
def vY(c:Q t b st σ){l:List UInt8}(d:pS kd l=true):(∃f,gf (ap t) l st=.error f/\Bd f σ)\/∃g,gf (ap t) l st=.ok (ay σ kd l,g)/\Q t b g σ:=by
 rcases pk t st with⟨e,p,a⟩|⟨f,a⟩
 .right;refine⟨_,?_,c.hH a⟩;unfold gf;rw[qg a,c.is a d]
 .left;exact⟨f,by unfold gf;rw[tI a],c.bd a⟩
def iz(c:Q t b st σ){l:List UInt8}(i:pS kd l=true):(∃f,da (ap t) l st=.error f/\Bd f σ)\/(∃g,da (ap t) l st=.ok (true,g)/\ay σ kd l=true/\Q t b g (aJ t σ))\/∃g,da (ap t) l st=.ok (false,g)/\ay σ kd l=false/\Q t b g σ:=by
 rcases pk t st with⟨h,p,a⟩|⟨f,a⟩
 .right;have e:gf (ap t) l st=.ok (ay σ kd l,{ st with w:=p,nx:=some h }):=by
   unfold gf;rw[qg a,c.is a i]
  cases d:ay σ kd l with
  |true=>
   left;refine⟨{ st with w:=p,nx:=none },?_,rfl,c.e0 a⟩;unfold da av;rw[e,d];rfl
  |false=>
   right;refine⟨{ st with w:=p,nx:=some h },?_,rfl,c.hH a⟩;unfold da av;rw[e,d];rfl
 .left;refine⟨f,?_,c.bd a⟩;unfold da av gf;rw[tI a]
def mH{b:List UInt8}(a:ay σ kd b=true):ab t kd b σ=aJ t σ:=by
 unfold ab mG aJ;unfold ay at a;rw[a];rfl
def El{b:List UInt8}(a:ay σ kd b=false):ab t kd b σ=dd σ:=by
 unfold ab mG dd;unfold ay at a;rw[a];rfl
def Q.hk{a:Mar.bi}(c:Q t b st σ)(i:eb t st.w st.nx=.ok (a,p)):Er ⟨3,a.w⟩ (dd σ):=by
 have d:=c.wd;rw[i]at d;obtain⟨⟨f,j,k,g,l⟩,h⟩:=d;have:(dd σ).s=⟨σ.s.x,3,a.w⟩:=by
  show jQ σ.s=_;unfold jQ lZ hp;have:=h.e6;rw[Y2 (by rw[f];omega),Y9 c.e,g]
 exact⟨by rw[this];rfl,by rw[this],by simp⟩
def eN(d:Q t b st σ){l:List UInt8}(h:pS kd l=true):S t (λ(j:Mar.bi) c=>c=b/\j.w=σ.s.x.w) (bV (ap t) l st) (ab t kd l σ):=by
 unfold bV av;rcases pk t st with⟨k,p,a⟩|⟨f,a⟩
 .rw[mn a];have e:=d.is a h;have i:=d.wd;rw[a]at i;simp only;cases g:(k.text==l)with
  |true=>
   rw[g]at e;rw[Y9 rfl,mH e];exact⟨b,d.e0 a,rfl,i.1.2.2.2.1.symm⟩
  |false=>
   rw[g]at e;rw[Y2 (by simp),El e];exact d.hk a
 .rw[ny a];exact(d.bd a).i2 (JR h)
def Q.es(c:Q t b st σ){e:Nat}(d:e≠0):Er ⟨e,a⟩ (bp e a σ):=by
 have:(bp e a σ).s=⟨σ.s.x,e,a⟩:=by
  unfold bp hp;rw[Y9 c.e]
 exact⟨by rw[this],by rw[this],d⟩
def zH(b:σ.s.e=0){e:Nat}(c:e≠0):Er ⟨e,a⟩ (bp e a σ):=by
 have:(bp e a σ).s=⟨σ.s.x,e,a⟩:=by
  unfold bp hp;rw[Y9 b]
 exact⟨by rw[this],by rw[this],c⟩
def Bd.i1(a:Bd f σ)(c b:Int):Er f (aW t c b σ).2:=by
 unfold aW;rw[Y2 (by simpa using a.e),Y2 (by rw[a.k];omega),Y2 (by rw[a.is (by omega)];simp),Y2 (by rw[a.is (by omega)];simp),Y2 (by rw[a.k];omega)];exact a.hQ
def Pn(j:Q t b st σ){i:Mar.bi}(m:eb t st.w st.nx=.ok (i,p))(g f d:Int) :
  S t (λ(l:Int×Nat) c=>c=b/\(ei t g f d σ).1=(l.1,(l.2:Int))/\l.1=d/\dj g f d=true) ((if dj g f d then bT (d,i.w)else fl 8 i.w) { st with w:=p,nx:=none }) (ei t g f d σ).2:=by
 have k:=j.wd;rw[m]at k;unfold ei;by_cases h:dj g f d=true
 .have:¬(d<g\/f<d):=by simp[dj]at h;omega
  rw[Y9 h,Y2 this];exact⟨b,j.e0 m,rfl,by simp only;rw[k.1.2.2.2.1],rfl,h⟩
 .have:d<g\/f<d:=by simp[dj]at h;omega
  rw[Y2 h,Y9 this,k.1.2.2.2.1];exact j.es (e:=8) (a:=i.w) (by omega)
def tS(i:Q t b st σ)(h g:Int):S t (λ(j:Int×Nat) c=>c=b/\(aW t h g σ).1=(j.1,(j.2:Int))/\dj h g j.1=true) (hM (ap t) (dj h g) st) (aW t h g σ).2:=by
 unfold hM av;rcases pk t st with⟨d,p,m⟩|⟨f,m⟩
 .rw[mn m];have E:=i.wd;rw[m]at E;obtain⟨⟨C,H,N,I,a5⟩,K⟩:=E;have J:=i.is m (kd:=2) (l:=[84,82,85,69]) (by decide);have hF:=i.is m (kd:=2) (l:=[70,65,76,83,69]) (by decide);unfold aW;rw[Y2 (by simpa using i.e)];simp only;unfold ic;have B:∀u,S t (λ(j:Int×Nat) c=>c=b/\(ei t h g u σ).1=(j.1,(j.2:Int))/\dj h g j.1=true) ((if dj h g u then bT (u,d.w)else fl 8 d.w) { st with w:=p,nx:=none }) (ei t h g u σ).2:=λu=>
   (Pn i m h g u).af λj c D=>⟨D.1,D.2.1,by rw[D.2.2.1];exact D.2.2.2⟩
  by_cases L:d.H=3
  .rw[Y9 (c:=σ.s.x.H=3) (by rw[C,L]),Y9 (c:=((d.H:Int)==3)=true) (by rw[L];rfl),N];exact B d.n
  .rw[Y2 (c:=σ.s.x.H=3) (by rw[C];omega),Y2 (c:=((d.H:Int)==3)=true) (by simp;omega)];by_cases F:d.H=1
   .have a3:(d.text==[84,82,85,69])=false:=by
     simp only[Yi];intro r;have:=K.j1 (by rw[r];decide);omega
    have a2:(d.text==[70,65,76,83,69])=false:=by
     simp only[Yi];intro r;have:=K.j1 (by rw[r];decide);omega
    rw[J,hF,a3,a2,Y9 (c:=σ.s.x.H=1) (by rw[C,F]),Y9 (c:=((d.H:Int)==1)=true) (by rw[F];rfl)];simp only[Ye,if_false]
    unfold hB;obtain⟨P,R⟩:=Kf i d.text;rw[H];rcases i.i6 d.text with⟨n,G⟩|⟨a6,a4,e,n,G,a7,a0,a1⟩
    .rw[Y9 (Y8 G),I];rcases R n with n|n
     .rw[n];exact i.es (e:=7) (a:=d.w) (by omega)
     .rw[n];exact i.es (e:=7) (a:=d.w) (by omega)
    .rw[P _ n];have O:bO σ=e:=by
      unfold bO;rw[H,G,Int.toNat_natCast,List.getD_eq_getElem?_getD,a0];rfl
     rw[O];have q:e.bb≠0->S t (λ(j:Int×Nat) c=>c=b/\(if bA σ d.text<0\/e.bb≠0 then ((0,0),bp 7 ↑σ.s.x.w σ)else ei t h g e.n σ).1=(j.1,(j.2:Int))/\dj h g j.1=true) (.error ⟨7,d.w⟩) (if bA σ d.text<0\/e.bb≠0 then ((0,0),bp 7 ↑σ.s.x.w σ)else ei t h g e.n σ).2:=λE=>by
      rw[Y9 (Ya E),I];exact i.es (e:=7) (a:=d.w) (by omega)
     have o:=a1.2;cases a4 with
     |none=>exact q (by have:e.bb=2:=o;omega)
     |some y=>
      cases y with
      |const a w v=>
       have M:e.bb=0/\e.n=v:=o;rw[Y2 (by rw[M.1];simp;omega),M.2];exact B v
      |prog a w k y=>exact q (by have:e.bb=2:=o;omega)
      |typedef y=>exact q (by have:e.bb=1:=o.1;omega)
      |enum a w k=>exact q (by have:e.bb=1:=o.1;omega)
      |struct a w k=>exact q (by have:e.bb=1:=o.1;omega)
      |union a w k y=>exact q (by have:e.bb=1:=o.1;omega)
   .rw[Y2 (c:=((d.H:Int)==1)=true) (by simp;omega),J,hF];by_cases A:(d.text==[84,82,85,69])=true
    .rw[Y9 A,Y9 A];exact B 1
    .rw[Y2 A,Y2 A];by_cases z:(d.text==[70,65,76,83,69])=true
     .rw[Y9 z,Y9 z];exact B 0
     .rw[Y2 z,Y2 z,Y2 (by rw[C];exact F)];exact i.hk m
 .rw[ny m];exact(i.bd m).i1 h g
def Bd.dN(a:Bd f σ):Er f (cK t σ).2:=by
 unfold cK im;rw[Y2 (by simpa using a.e),Y2 (by rw[a.k];omega)];exact a.hQ
def Bd.o0(b:Bd f σ)(c:Int):Er f (aH t c σ).2:=by
 have a:=b.dN (t:=t);unfold aH;rw[Y9 a.e1];exact a
def Bd.kr(b:Bd f σ)(a:List (List UInt8))(all:Bool):Er f (bW t a all σ).2:=(b.dN (t:=t)).b4 (by
 unfold bW;simp only;generalize (if all=true then decide (0<=bA (cK t σ).2 (cK t σ).1.text)else a.contains (cK t σ).1.text)=c
 split
 .exact kj _ _ _
 .exact ee _)
def zq{a:Mar.bi}(c:Q t b st σ)(i:eb t st.w st.nx=.ok (a,p))(j:a.H=1):(cK t σ).1.text=a.text/\(cK t σ).1.w=a.w/\(cK t σ).2=aJ t σ:=by
 have d:=c.wd;rw[i]at d;obtain⟨⟨f,g,k,h,l⟩,m⟩:=d;unfold cK im;rw[Y2 (by simpa using c.e),Y9 (by rw[f];exact j)];exact⟨g,h,rfl⟩
def zt{d:Mar.bi}(a:Q t b st σ)(g:eb t st.w st.nx=.ok (d,p))(h:d.H≠1):(cK t σ).2=dd σ:=by
 have c:=a.wd;rw[g]at c;obtain⟨⟨f,i,j,k,l⟩,m⟩:=c;unfold cK im;rw[Y2 (by simpa using a.e),Y2 (by rw[f];exact h)];rfl
def nr(nl:Nl)(b a:List UInt8)(d:az nl b=none):az (nl++[(b,none)]) a=if a=b then some none else az nl a:=by
 unfold az at *
 rw[List.find?_append];by_cases c:a=b
 .subst c;cases e:nl.find? (λp=>p.1==a)with
  |none=>simp
  |some g=>rw[e]at d;simp at d
 .rw[Y2 c];cases e:nl.find? (λp=>p.1==a)with
  |none=>
   have:(b==a)=false:=by simp;exact λf=>c f.symm
   simp[this]
  |some g=>simp
def JE{a:List UInt8}(c:az nl a=none):Kp nl (nl++[(a,none)]):=λe f b=>by
 rw[nr nl a e c];by_cases d:e=a
 .rw[d,c]at b;cases b
 .rw[Y2 d];exact b
def uY{a:List UInt8}(b:az nl a=none):a ∉ nl.map (·.1):=by
 intro d;obtain⟨f,e,c⟩:=YE.1 d;unfold az at b;have:nl.find? (λp=>p.1==a)=none:=by simpa using b
 rw[List.find?_eq_none]at this;exact this f e (by simp[c])
def ir.hj{l:List be}{k:List df}(c:ir l nl k){g:List UInt8}(i:az nl g=none)(q a:Int):ir l (nl++[(g,none)]) (k++[⟨g,2,q,a⟩]):=by
 refine⟨by simp[c.bc],?_,?_⟩
 .intro f p r b d;rcases Yj f nl.length with e|e
  .rw[Ys e]at b;rw[Ys (by rw[c.bc];exact e)]at d;have:=(c.hs f p r b d).cF [] (JE i);simpa using this
  .rw[Yw e]at b;rw[Yw (by rw[c.bc];exact e),c.bc]at d;match h:f-nl.length with
   |0=>
    rw[h]at b d;simp at b d;subst b;subst d;exact⟨rfl,rfl⟩
   |m+1=>rw[h]at b;simp at b
 .rw[List.map_append,YJ];refine⟨c.nd,by simp,?_⟩;intro s o t j;simp at j;subst j;exact λn=>uY i (n▸o)
abbrev br.a4(b:br)(a:List UInt8):br:={ b with nl:=b.nl++[(a,none)] }
def rU(j:Q t b st σ)(n:b.pd=[]):S t (λk c=>c=b.a4 k.1/\(aH t 2 σ).1.text=k.1/\(aH t 2 σ).1.w=k.2/\az b.nl k.1=none/\(aH t 2 σ).2.F=σ.F++[⟨k.1,2,-1,k.2⟩]) (gs (ap t) st) (aH t 2 σ).2:=by
 unfold gs hV name aw lift;rcases pk t st with⟨g,p,i⟩|⟨f,i⟩
 .rw[mn i];simp only;by_cases o:g.H=1
  .obtain⟨u,v,y⟩:=zq j i o;rw[Y9 (by rw[o];rfl)];have d:=j.e0 i;have w:az b.nl g.text=none/\bA (aJ t σ) g.text<0\/(∃l,az b.nl g.text=some l)/\0<=bA (aJ t σ) g.text:=by
    rcases d.i6 g.text with h|⟨z,l,A,h,m,-⟩
    .exact Y8 h
    .exact Ya ⟨⟨l,h⟩,by omega⟩
   have r:st.F=b.nl:=by rw[j.nl,n];simp
   have x:(fP mo).ba g () { st with w:=p,nx:=none } = match az b.nl g.text with
     |none=>.ok ((),(),{ st with w:=p,nx:=none,F:=b.nl++[(g.text,none)] })
     |some _=>.error ⟨6,g.w⟩:=by
    show lift (gc g) () { st with w:=p,nx:=none } = _;unfold lift gc;rw[show az ({ st with w:=p,nx:=none }:St).F g.text=az b.nl g.text by rw[<-r]];cases az b.nl g.text with
    |none=>simp only[r]
    |some l=>rfl
   rw[x];unfold aH;rw[y,Y2 (by simpa using d.e),u,v];rcases w with⟨h,m⟩|⟨⟨l,h⟩,m⟩
   .rw[h,Y2 (by omega)];refine⟨b.a4 g.text,⟨d.e,d.wd,?_,Y8 n,d.nm.hj h _ _,d.L,d.cn,d.pg,d.e2,d.cP,d.ou,d.pr,d.fq,d.f8.hj d.nm.bc _ _⟩,rfl,u,v,h,rfl⟩;rw[n,YH]
   .rw[h,Y9 m];exact d.es (e:=6) (a:=g.w) (by omega)
  .rw[Y2 (by simp;omega)];have s:=zt j i o;have q:=j.hk i;have:(aH t 2 σ).2=dd σ:=by
    unfold aH;rw[s,Y9 q.e1,s]
   rw[this];exact q
 .rw[ny i];exact(j.bd i).o0 2
def we(i:Q t b st σ)(d:List (List UInt8))(a q:Nat):Sx t (λo y c=>c=b/\(bW t d false σ).1.text=o.1/\(bW t d false σ).1.w=o.2/\y=d++[o.1]) (name (ap t) (aT a q) d st) (bW t d false σ).2:=by
 unfold name aw lift;rcases pk t st with⟨g,p,e⟩|⟨f,e⟩
 .rw[mn e];simp only;by_cases n:g.H=1
  .obtain⟨u,v,w⟩:=zq i e n;rw[Y9 (by rw[n];rfl)];have m:=i.e0 e;have x:(aT a q).ba g d { st with w:=p,nx:=none } = if d.contains g.text=true then .error ⟨6,g.w⟩else .ok ((),d++[g.text],{ st with w:=p,nx:=none }):=by
    show lI (lh g) d { st with w:=p,nx:=none } = _;unfold lI lh;split<;>rename_i h
    .split at h
     .cases h
     .rename_i l;cases h;rw[Y2 l]
    .split at h
     .rename_i l;cases h;rw[Y9 l]
     .cases h
   rw[x];unfold bW;simp only[Ye,if_false]
   rw[w,u,v];by_cases k:d.contains g.text=true
   .rw[Y9 k,Y9 ⟨m.e,k⟩];exact m.es (e:=6) (a:=g.w) (by omega)
   .rw[Y2 k,Y2 (λj=>k j.2)];exact⟨b,by rw[w];exact m,rfl,u,v,rfl⟩
  .rw[Y2 (by simp;omega)];have s:=zt i e n;have r:=i.hk e;have:(bW t d false σ).2=dd σ:=by
    unfold bW;simp only;rw[s,Y2 (λj=>r.e1 j.1)];exact s
   rw[this];exact r
 .rw[ny e];exact(i.bd e).kr d false
end
end Go.Proofs.YtjdhaegijjednaaGreatDoor
